import PyProof.Rows.All
import Wide.All
import OpenK.AllK
import Wide.FinOn
import Lean
import PyProof.EqAt
import PyProof.EqKinds
import PyProof.TupleCall
import PyProof.Rows.SumAny
import PyProof.EnumMake
import PyProof.Draws
import PyProof.ZipIter
import KE.KNestM
import KE.KUnpack
import KE.KxIndex
import PyProof.SetRoads
import PyProof.SetNew
import PyProof.AutoSeq1
import KE.KRevSl
import PyProof.SeqI3
import PyProof.Rows.SortWalk
import PyProof.Rows.Range3
import KE.KSortTup
import KE.KLam
import PyProof.Rows.SetFrom
import PySem.Challenge.RW_weightrooms_k20_thirds
local macro_rules|`(tactic|trivial)=>`(tactic|first|exact Or.inl rfl|exact Or.inr rfl)
local macro_rules|`(tactic|decide)=>`(tactic|decide +kernel)
set_option genSizeOf false
set_option genInjectivity false
set_option bootstrap.genMatcherCode false
noncomputable section
set_option Elab.async false
set_option linter.all false
def k_:=@PySem.wpAny_bind
def l_:=@List.length_map
def m_:=@List.mem_cons_of_mem
def n_:=@PySem.Heap.get?_push_of_some
def o_:=@Nat.le_refl
def p_:=@List.mem_cons_self
def r_:=@List.getElem?_eq_some_iff
def s_:=@Bool.and_eq_true
def t_:=@List.size_toArray
def u_:=@PySem.wpAny_pure
def v_:=@List.map_cons
def w_:=@PySem.Heap.lt_size
def x_:=@List.getElem?_eq_getElem
def y_:=@Bool.false_ne_true
def z_:=@List.length_append
def A_:=@List.length_cons
def B_:=@decide_eq_false
def C_:=@PySem.Heap.get?_push_size
def D_:=@beq_eq_false_iff_ne
def Em:=@List.getD_eq_getElem?_getD
def E_:=@Nat.le_trans
def F_:=@Nat.lt_of_lt_of_le
def G_:=@Option.map_eq_some_iff
def H_:=@Option.some.inj
def I_:=@List.mem_cons
def J_:=@decide_eq_true
def K_:=@Nat.ne_of_lt
def L_:=@List.getElem?_map
def M_:=@List.getElem?_append_left
def N_:=@Nat.zero_le
def Oo:=@List.length_set
def Oq:=@List.getElem?_append_right
def Ot:=@List.all_eq_true
def Ou:=@Option.bind_eq_some_iff
def Ov:=@beq_iff_eq
def Ow:=@List.mem_append_right
def Ox:=@List.length_range
def Oy:=@List.sum_cons
def Oz:=@List.map_append
def OA:=@List.map_nil
def OB:=@PySem.wpAny_mono
def OC:=@List.length_nil
def OD:=@List.mem_range
def OE:=@List.find?_cons
def OF:=@Nat.mul_le_mul
def OG:=@List.append_nil
def OH:=@List.nil_append
def OI:=@Array.length_toList
def OJ:=@List.contains_iff_mem
def OK:=@Int.toNat_natCast
def OL:=@List.mem_singleton
def OM:=@List.pairwise_iff_getElem
def ON:=@PySem.Heap.SameBut.update
def OO:=@congrArg
def OP:=@Rat.intCast_mul
def OQ:=@PySem.wpAny_field
def OR:=@decide_eq_true_iff
def OS:=@List.getElem?_replicate
def OT:=@List.lookup_cons
def OU:=@List.mem_map
def OV:=@Nat.lt_irrefl
def OW:=@PySem.wpAny_holding
def OX:=@Int.natAbs_mul
def OY:=@List.take_of_length_le
def OZ:=@List.length_replicate
def O0:=@List.getElem_mem
def O1:=@Option.isSome_iff_exists
def O2:=@Int.mul_assoc
def O3:=@List.any_cons
def O4:=@Nat.mul_le_mul_right
def O5:=@Nat.pow_le_pow_right
def O6:=@PySem.wpAny_newObj_type
def O7:=@PyProof.Rows.callWith_type1
def O8:=@Nat.mul_le_mul_left
def O9:=@PySem.mem_of_lookup
def O_:=@List.map_map
def Pa:=@List.map_take
def Pb:=@Nat.lt_of_le_of_lt
def Pc:=@List.getElem?_eq_none_iff
def Pd:=@Nat.mul_pos
def Pe:=@List.mem_of_getElem?
def Pf:=@PySem.wpAny_callSpecial?_slot
def Pg:=@List.filterMap_cons
def Ph:=@List.length_reverse
def Pj:=@List.map_congr_left
def Pk:=@List.length_take
def Pl:=@PySem.wpAny_seqItems
def Pm:=@Nat.pow_add
def Pn:=@Bool.false_eq_true
def Pp:=@PySem.wpAny_Call_Name_kw
def Pq:=@PySem.wpAny_setField_rec
def Pt:=@Int.natCast_mul
def Pu:=@List.getElem?_zipWith
def Pw:=@List.mem_append
def Px:=@PySem.wpAny_passesOwn
def Py:=@PySem.F.slot_tuple_iterator_next
def Pz:=@List.map_drop
def PC:=@List.reverse_cons
def PD:=@PySem.wpAny_truthy_bool
def PF:=@if_true
def PH:=@Nat.sub_self
def PJ:=@PySem.wpAny_call_entry
def PK:=@List.length_zipWith
def PL:=@decide_eq_false_iff_not
def PM:=@List.take_nil
def PN:=@Bool.or_eq_true
def PQ:=@List.nodup_cons
def PR:=@Nat.not_lt_zero
def PU:=@Bool.not_eq_true'
def PV:=@Int.mul_left_comm
def PX:=@List.append_assoc
def PY:=@List.pairwise_map
def PZ:=@decide_eq_true_eq
def P0:=@of_decide_eq_true
def P1:=@List.dropLast_eq_take
def P2:=@List.mapM_cons
def P4:=@Nat.le_of_lt
def P5:=@Nat.ne_of_gt
def P6:=@List.any_eq_true
def P7:=@List.length_drop
def P8:=@List.nodup_range
def P9:=@beq_self_eq_true
def P_:=@decide_eq_decide
def Qa:=@Int.eq_of_mul_eq_mul_right
def Qb:=@List.all_cons
def Qc:=@List.drop_nil
def Qd:=@PyProof.Rows.listUpdate_at
def Qe:=@PySem.wpAny_standAt
def Qf:=@Array.getElem?_eq_getElem
def Qg:=@Classical.byContradiction
def Qh:=@List.drop_eq_getElem_cons
def Qi:=@PyProof.Rows.get?_update_seq
def Qj:=@PySem.Calls.spliced_cons
def Qk:=@Int.mul_comm
def Ql:=@Int.mul_right_comm
def Qm:=@PySem.F.args_tuple_add_2
def Qn:=@if_false
def Qo:=@PySem.Heap.size_push
def Qp:=@PySem.F.entry_tuple_add
def Qq:=@List.getElem?_set
def Qr:=@PySem.Heap.get?_update_other
def Qs:=@Nat.le_mul_of_pos_left
def Qt:=@PySem.F.slot_tuple_add
def Qu:=@Nat.mul_assoc
def Qv:=@PySem.wpAny_attempt
def Qw:=@PySem.wpAny_newList
def Qx:=@List.cons_append
def Qy:=@Nat.le_add_right
def Qz:=@List.length_singleton
def QA:=@List.take_append_drop
def QB:=@Bool.eq_iff_iff
def QC:=@PySem.F.slot_zip_next
def QD:=@PySem.Heap.get?_none_of_le
def QE:=@Int.mul_ne_zero
def QF:=@List.getElem?_append
def QG:=@List.getElem?_set_ne
def QH:=@List.mem_append_left
def QI:=@List.mem_of_mem_take
def QJ:=@Nat.lt_trans
def QK:=@PySem.codeAny_mono
def QL:=@PySem.wpAny_execs_nil
def QM:=@PySem.wpAny_loadName_local
def QN:=@PySem.wpAny_updateSeq_pair
def QO:=@List.mergeSort_perm
def QP:=@Int.mul_pos
def QQ:=@PySem.Paired.length
def QR:=@PySem.wpAny_onRaise
set_option maxRecDepth 100000
namespace L2
open PySem PySem.Spec PyProof.Rows
abbrev _root_.Ra:=Str->Option Value
abbrev _root_.Rb:=List (Addr×Obj)
abbrev _root_.Rf:=Value->Shared->Prop
abbrev _root_.Rg:=List (Option Nat)
abbrev Key:=Sum Int Str
def j8:Key->Value->Bool
 |.inl k,v=>Value.isInt k v
 |.inr x,v=>Value.isStrOf x v
def keyH(w:World):Key->Int
 |.inl k=>hashInt k
 |.inr x=>hashStr w x
theorem bF:∀{k:Key}{v:Value},j8 k v=true->(∃i t,k=Sum.inl i/\v=Value.int i t)\/(∃x t,k=Sum.inr x/\v=Value.str x t)
 |
  .inl i,v,h=>by
  obtain⟨t,e⟩:=Value.isInt_shape (k:=i) (v:=v) h
  exact .inl ⟨i,t,rfl,e⟩
 |
  .inr x,v,h=>by
  obtain⟨t,e⟩:=Value.isStrOf_shape (x:=x) (v:=v) h
  exact .inr ⟨x,t,rfl,e⟩
def yJ(i:Int)(t:Tok):j8 (.inl i) (.int i t)=true:=by simp [j8,Value.isInt]
def xC(x:Str)(t:Tok):j8 (.inr x) (.str x t)=true:=by simp [j8,Value.isStrOf]
def JQ(a b:Int):decide ((Sum.inl a:Key)=Sum.inl b)=(a==b):=by
 by_cases e:a=b
 ·subst e;simp
 ·have h:¬ (Sum.inl a:Key)=Sum.inl b:=λq=>e (Sum.inl.inj q)
  rw[B_ h]
  exact (D_.mpr e).symm
def Jg(a b:Str):decide ((Sum.inr a:Key)=Sum.inr b)=decide (a=b):=by
 by_cases e:a=b
 ·subst e;simp
 ·have h:¬ (Sum.inr a:Key)=Sum.inr b:=λq=>e (Sum.inr.inj q)
  rw[B_ h,B_ e]
def IK(a:Int)(b:Str):decide ((Sum.inl a:Key)=Sum.inr b)=false:=B_ (λq=>nomatch q)
def GZ(a:Str)(b:Int):decide ((Sum.inr a:Key)=Sum.inl b)=false:=B_ (λq=>nomatch q)
def bK(prog:Program)(w:World):PySem.KeyKind prog w Key where
 is:=j8
 hash:=keyH w
 inj
  := λv a b ha hb=>by
  rcases bF ha with ⟨i,t,rfl,rfl⟩ |⟨x,t,rfl,rfl⟩
  ·rcases bF hb with ⟨j,u,rfl,e⟩ |⟨y,u,rfl,e⟩
   ·injection e with e1 _;rw[e1]
   ·exact nomatch e
  ·rcases bF hb with ⟨j,u,rfl,e⟩ |⟨y,u,rfl,e⟩
   ·exact nomatch e
   ·injection e with e1 _;rw[e1]
 byValue:=λk v h=>by
  rcases bF h with ⟨i,t,rfl,rfl⟩ |⟨x,t,rfl,rfl⟩ <;> rfl
 pyHash:=λhv h=>by
  rcases bF hv with ⟨i,t,rfl,rfl⟩ |⟨x,t,rfl,rfl⟩
  ·exact wpAny_pyHash_int h
  ·exact wpAny_pyHash_str h
 eqBool:=λhu hv h=>by
  rcases bF hu with ⟨i,t,rfl,rfl⟩ |⟨x,t,rfl,rfl⟩
  ·rcases bF hv with ⟨j,u,rfl,rfl⟩ |⟨y,u,rfl,rfl⟩
   ·rw[JQ] at h;exact wpAny_eqBool_int h
   ·rw[IK] at h;exact SeqAt.EqAt.int_str i t y u _ _ _ _ h
  ·rcases bF hv with ⟨j,u,rfl,rfl⟩ |⟨y,u,rfl,rfl⟩
   ·rw[GZ] at h;exact SeqAt.EqAt.str_int x t j u _ _ _ _ h
   ·rw[Jg] at h;exact wpAny_eqBool_str h
 «strs»:=λk x t v h=>by
  rcases bF h with ⟨i,u,rfl,e⟩ |⟨y,u,rfl,e⟩
  ·exact nomatch e
  ·injection e with e1 _
   subst e1
   cases v <;> rfl
def tu(prog:Program)(w:World)(i:Int)(t:Tok):(bK prog w).is (.inl i) (.int i t)=true:=yJ i t
def tM(prog:Program)(w:World)(x:Str)(t:Tok):(bK prog w).is (.inr x) (.str x t)=true:=xC x t
inductive V where
 |non |bl (b:Bool) |int (i:Int) |str (x:Str) |byt (b:Array UInt8) |flt (b:UInt64) |ref (a:Addr) |ty (n:String)
 deriving DecidableEq
def RelV:V->Value->Prop
 |.non,u=>u=Value.none
 |.bl b,u=>u=Value.bool b
 |.int i,u=>∃t,u=Value.int i t
 |.str x,u=>∃t,u=Value.str x t
 |.byt b,u=>∃t,u=Value.bytes b t
 |.flt b,u=>∃t,u=Value.float b t
 |.ref a,u=>u=Value.ref a
 |.ty n,u=>u=Value.type n
abbrev Vals:List V->List Value->Prop:=Paired RelV
def Vals.length(r:Vals xs us):xs.length=us.length:=QQ r
def Vals.get{xs:List V}{us:List Value}{i:Nat}{x:V}(r:Vals xs us)(e:xs[i]?=some x):∃u,us[i]?=some u/\RelV x u:=by
 induction r generalizing i with
 |nil=>rw[List.getElem?_nil] at e;cases e
 |
  cons r t ih=>
  cases i with
  |zero=>cases e;exact⟨_,rfl,r⟩
  |succ i=>exact ih (i:=i) e
def Vals.set(r:RelV x u)(i:Nat)(q:Vals xs us):Vals (xs.set i x) (us.set i u):=by
 induction q generalizing i with
 |nil=>exact .nil
 |
  cons q t ih=>
  cases i with
  |zero=>exact .cons r t
  |succ i=>exact .cons q (ih i)
def Vals.append(r:Vals xs us)(s:Vals ys ws):Vals (xs++ys) (us++ws):=by
 induction r with
 |nil=>exact s
 |cons r t ih=>exact .cons r ih
def Vals.take(n:Nat)(r:Vals xs us):Vals (xs.take n) (us.take n):=by
 induction r generalizing n with
 |nil=>rw[PM,PM];exact .nil
 |
  cons r t ih=>
  cases n with
  |zero=>exact .nil
  |succ n=>exact .cons r (ih n)
def Vals.drop(n:Nat)(r:Vals xs us):Vals (xs.drop n) (us.drop n):=by
 induction r generalizing n with
 |nil=>rw[Qc,Qc];exact .nil
 |
  cons r t ih=>
  cases n with
  |zero=>exact .cons r t
  |succ n=>exact ih n
def RelO:Option V->Option Value->Prop
 |some v,some u=>RelV v u
 |none,none=>True
 |_,_=>False
def KV{κ:Type}:List (κ×V)->List (κ×Value)->Prop:=Paired λ(p:κ×V) (q:κ×Value)=>p.1=q.1/\RelV p.2 q.2
noncomputable def kV:Key->V
 |.inl i=>.int i
 |.inr x=>.str x
inductive HO where
 |lst (xs:List V)
 |tup (xs:List V)
 |dK (kvs:List (Key×V)) |dT (kvs:List (List Key×V))
 |set (S:Int->Bool) (n:Nat)
 |ins (C dx:Addr) (fs:List (Str×V))
 |own (x:Addr)
 |xd (fs:List (Str×V))
 |met (f x:Addr)
 |rng (lo hi:Int)
 |frz (o:Obj) (u:HO)
 |tbl (ps:Array Value)
 |ext (φ:Heap->Prop)
abbrev Hp:=Addr->Option HO
def upd(H:Hp)(a:Addr)(o:HO):Hp:=λb=>if b=a then some o else H b
def aR:upd H a o a=some o:=by unfold upd;rw[if_pos rfl]
def aq(h:b≠a):upd H a o b=H b:=by unfold upd;rw[if_neg h]
def Nr{H:Hp}{a b:Addr}{o u:HO}(h:H a=some o)(h':H b=some u)(d:o≠u):a≠b:=by
 intro e;subst e;rw[h] at h';exact d (H_ h')
def aE{H:Hp}{a b:Addr}{o:HO}(h:H a=some o)(h':H b=none):a≠b:=by
 intro e;subst e;rw[h] at h';cases h'
section
variable(P:Program)(w:World)
def ObjOk(H:Hp)(h:Heap)(a:Addr):HO->Prop
 |.lst xs=>xs.length<=sizeLine/\∃(its:List Value) (n:Nat),Vals xs its/\h.get? a=some { cls:=.type "list",data:=.seq its.toArray n }
 |.tup xs=>xs.length<=sizeLine/\∃its:List Value,Vals xs its/\IsTup h a its.toArray
 |.dK kvs=>kvs.length<=sizeLine/\(a==sysModules)=false/\∃vs,KV kvs vs/\h.DictOf (bK P w) a vs
 |.dT kvs=>kvs.length<=sizeLine/\(a==sysModules)=false/\∃xs:List (List Key×Addr×Value),
  Paired (λ(p:List Key×V) (q:List Key×Addr×Value)=>p.1=q.1/\H q.2.1=some (.tup (p.1.map kV))/\RelV p.2 q.2.2) kvs xs/\
  ∃o es ep,h.get? a=some o/\o.ExactDict/\o.data=.dict es ep/\es.toList=xs.map (entryOfKey (tupleKind (bK P w)))/\(xs.map (·.1)).Nodup
 |.set S n=>h.SetOf (intKind P w) a S n
 |.ins C dx fs=>H dx=some (.own a)/\fs.length<=1000/\dx≠a/\h.get? a=some (W.instObj C dx)/\
  ∃mA,h.Ns1 dx mA/\(∀f,RelO (fs.lookup f) (mA f))/\PySem.Within mA (fs.map (·.1))
 |.own _=>∃o,h.get? a=some o
 |.xd fs=>∃mA,h.Ns1 a mA/\∀f,RelO (fs.lookup f) (mA f)
 |.rng lo hi=>∃t u v,h.get? a=some { cls:=.type "range",data:=.fields #[.int lo t,.int hi u,.int 1 v] }
 |.frz o u=>h.get? a=some o/\ObjOk H h a u
 |.tbl ps=>h.get? a=some { cls:=.none,data:=.fields ps }
 |.met f x=>h.get? a=some (W.methodObj (.ref f) (.ref x))
 |.ext φ=>φ h/\(∃o,h.get? a=some o)/\∀h1 h2:Heap,φ h1->(∀o,h1.get? a=some o->h2.get? a=some o)->φ h2
def HOk(H:Hp)(h:Heap):Prop:=∀a o,H a=some o->ObjOk P w H h a o
end
section
variable{P:Program}{w:World}{H H':Hp}{h h':Heap}{a:Addr}{o:HO}
def ObjOk.lt(x:ObjOk P w H h a o):a<h.objs.size:=by
 cases o with
 |lst xs=>obtain⟨_,_,_,_,e⟩:=x;exact w_ e
 |tup xs=>obtain⟨_,_,_,p⟩:=x;exact p.lt
 |dK kvs=>obtain⟨_,_,_,_,o,_,_,e,_⟩:=x;exact w_ e
 |dT kvs=>obtain⟨_,_,_,_,o,_,_,e,_⟩:=x;exact w_ e
 |set S n=>obtain⟨o,_,_,_,e,_⟩:=x;exact w_ e
 |ins C dx fs=>obtain⟨_,_,_,e,_⟩:=x;exact w_ e
 |own y=>obtain⟨_,e⟩:=x;exact w_ e
 |xd fs=>obtain⟨_,⟨_,_,_,e,_⟩,_⟩:=x;exact w_ e
 |rng lo hi=>obtain⟨_,_,_,e⟩:=x;exact w_ e
 |frz ob u=>obtain⟨e,_⟩:=x;exact w_ e
 |tbl ps=>exact w_ (show h.get? a=some _ from x)
 |met f y=>exact w_ (show h.get? a=some _ from x)
 |ext φ=>obtain⟨_,⟨_,e⟩,_⟩:=x;exact w_ e
def Paired.mapP(r:Paired F l₁ l₂)(f:∀a b,F a b->G a b):Paired G l₁ l₂:=by
 induction r with
 |nil=>exact .nil
 |cons r t ih=>exact .cons (f _ _ r) ih
def ObjOk.stay(x:ObjOk P w H h a o)(k:∀b u,(b=a\/H b=some (.own a))->h.get? b=some u->h'.get? b=some u)
 (ho:∀b,H b=some (.own a)->H' b=some (.own a)) (ht:∀b xs,H b=some (.tup xs)->H' b=some (.tup xs)):ObjOk P w H' h' a o:=by
 induction o with
 |lst xs=>obtain⟨z,its,n,r,e⟩:=x;exact⟨z,its,n,r,k _ _ (.inl rfl) e⟩
 |tup xs=>obtain⟨z,its,r,ob,e,c⟩:=x;exact⟨z,its,r,ob,k _ _ (.inl rfl) e,c⟩
 |dK kvs=>obtain⟨z,y,vs,r,ob,es,ep,e,c⟩:=x;exact⟨z,y,vs,r,ob,es,ep,k _ _ (.inl rfl) e,c⟩
 |
  dT kvs=>
  obtain⟨z,y,xs,r,ob,es,ep,e,c⟩:=x
  exact⟨z,y,xs,Paired.mapP r λp q z=>⟨z.1,ht _ _ z.2.1,z.2.2⟩,ob,es,ep,k _ _ (.inl rfl) e,c⟩
 |set S n=>obtain⟨ob,es,ep,t,e,c⟩:=x;exact⟨ob,es,ep,t,k _ _ (.inl rfl) e,c⟩
 |
  ins C dx fs=>
  obtain⟨d,z,ne,e,mA,⟨od,es,ep,e2,c⟩,r⟩:=x
  exact⟨ho _ d,z,ne,k _ _ (.inl rfl) e,mA,⟨od,es,ep,k _ _ (.inr d) e2,c⟩,r⟩
 |own y=>obtain⟨ob,e⟩:=x;exact⟨ob,k _ _ (.inl rfl) e⟩
 |xd fs=>obtain⟨mA,⟨od,es,ep,e,c⟩,r⟩:=x;exact⟨mA,⟨od,es,ep,k _ _ (.inl rfl) e,c⟩,r⟩
 |rng lo hi=>obtain⟨t,u,v,e⟩:=x;exact⟨t,u,v,k _ _ (.inl rfl) e⟩
 |frz ob u ih=>obtain⟨e,q⟩:=x;exact⟨k _ _ (.inl rfl) e,ih q⟩
 |
  tbl ps=>
  have e:h.get? a=some { cls:=.none,data:=.fields ps }:=x
  show h'.get? a=some { cls:=.none,data:=.fields ps }
  exact k a _ (.inl rfl) e
 |
  met f y=>
  have e:h.get? a=some (W.methodObj (.ref f) (.ref y)):=x
  show h'.get? a=some (W.methodObj (.ref f) (.ref y))
  exact k a _ (.inl rfl) e
 |ext φ=>obtain⟨p,⟨o,e⟩,st⟩:=x;exact⟨st _ _ p λo q=>k _ _ (.inl rfl) q,⟨o,k _ _ (.inl rfl) e⟩,st⟩
def HOk.lt(x:HOk P w H h)(e:H a=some o):a<h.objs.size:=(x a o e).lt
def HOk.fresh(x:HOk P w H h)(e:h.objs.size<=a):H a=none:=by
 cases q:H a with
 |none=>rfl
 |some u=>exact absurd (F_ (x.lt q) e) (OV _)
def HOk.kept(x:HOk P w H h)(k:∀b u,h.get? b=some u->h'.get? b=some u):HOk P w H h':=λa o e=>
 (x a o e).stay (λb u _ q=>k b u q) (λ_ q=>q) λ_ _ q=>q
def HOk.laid(x:HOk P w H h)(k:∀b u,h.get? b=some u->h'.get? b=some u)(hp:h.objs.size<=a)(new:ObjOk P w (upd H a o) h' a o):HOk P w (upd H a o) h':=λb u e=>by
 have hn:=x.fresh hp
 by_cases hb:b=a
 ·subst hb;rw[aR] at e;cases e;exact new
 ·rw[aq hb] at e
  exact (x b u e).stay (λc v _ q=>k c v q) (λc q=>by rw[aq (aE q hn)];exact q) λc xs q=>by rw[aq (aE q hn)];exact q
end
def Rd(H:Hp)(a:Addr)(u:HO):Prop:=H a=some u\/∃o,H a=some (.frz o u)
def Rd.ok(r:Rd H a u)(x:HOk P w H h):ObjOk P w H h a u:=by
 rcases r with r |⟨o,r⟩
 ·exact x a u r
 ·obtain⟨_,q⟩:=x a _ r
  exact q
def Mut:Option HO->Prop
 |some (.lst _)=>True
 |some (.dK _)=>True
 |some (.dT _)=>True
 |some (.set _ _)=>True
 |some (.ins _ _ _)=>True
 |some (.ext _)=>True
 |_=>False
section
variable{P:Program}{w:World}{H:Hp}{h h':Heap}{x e:Addr}{o':HO}
def HOk.write(ok:HOk P w H h)(mu:Mut (H x))(he:e=x\/H e=some (.own x))(k:∀b u,b≠e->h.get? b=some u->h'.get? b=some u)(heo:∃u,h'.get? e=some u)
 (new:ObjOk P w (upd H x o') h' x o'):HOk P w (upd H x o') h':=λb u q=>by
 have nown:∀c y,H c=some (.own y)->c≠x:=λc y r z=>by subst z;rw[r] at mu;exact mu
 have ntup:∀c xs,H c=some (.tup xs)->c≠x:=λc xs r z=>by subst z;rw[r] at mu;exact mu
 by_cases hb:b=x
 ·subst hb;rw[aR] at q;cases q;exact new
 ·rw[aq hb] at q
  by_cases hbe:b=e
  ·have q':H b=some (.own x):=by
    rcases he with z |z
    ·exact absurd (hbe.trans z) hb
    ·rw[hbe];exact z
   rw[q] at q';cases q'
   obtain⟨v,hv⟩:=heo
   exact⟨v,by rw[hbe];exact hv⟩
  ·refine (ok b u q).stay (λc v hc r=>k c v ?_ r) (λc r=>by rw[aq (nown c b r)];exact r) λc xs r=>by rw[aq (ntup c xs r)];exact r
   rcases hc with rfl |hc
   ·exact hbe
   ·rintro rfl
    rcases he with z |z
    ·exact nown c b hc z
    ·rw[hc] at z;cases z;exact hb rfl
end
structure Un(fs ex:List Addr)(H H':Hp)(h h':Heap):Prop where
 keep:∀b o,h.get? b=some o->H b=none->b∉fs->b∉ex->h'.get? b=some o
 slot:∀b o,h.get? b=some o->H b=none->b∈fs->b∉ex->∃sl,h'.get? b=some { o with slots:=sl }
 free:∀b o,h.get? b=some o->H b=none->b∉ex->H' b=none
 there:∀b o,h.get? b=some o->b∉ex->∃o',h'.get? b=some o'
 tups:∀b xs,H b=some (.tup xs)->H' b=some (.tup xs)
 frzs:∀b o u,H b=some (.frz o u)->H' b=some (.frz o u)
 tbls:∀b ps,H b=some (.tbl ps)->∃more,H' b=some (.tbl (ps++more))
section
variable{fs fs' ex ex':List Addr}{H H1 H2:Hp}{h h1 h2 h':Heap}{a x e:Addr}{o:HO}
def Un.any(u:Un fs ex H H1 h h1)(q:h.get? b=some ob)(n:H b=none)(hx:b∉ex):∃sl,h1.get? b=some { ob with slots:=sl }:=by
 by_cases hb:b∈fs
 ·exact u.slot b ob q n hb hx
 ·exact⟨ob.slots,u.keep b ob q n hb hx⟩
def Un.kept(k:∀b u,h.get? b=some u->h'.get? b=some u):Un fs ex H H h h':=
 ⟨λb ob q _ _ _=>k b ob q,λb ob q _ _ _=>⟨ob.slots,k b ob q⟩,λ_ _ _ n _=>n,λb ob q _=>⟨ob,k b ob q⟩,λ_ _ q=>q,λ_ _ _ q=>q,λ_ ps q=>⟨#[],by rw[q];simp⟩⟩
def Un.refl:Un fs ex H H h h:=Un.kept λ_ _ q=>q
def Un.laid(k:∀b u,h.get? b=some u->h'.get? b=some u)(hp:h.objs.size<=a)(hn:H a=none):Un fs ex H (upd H a o) h h' where
 keep:=λb u q _ _ _=>k b u q
 slot:=λb u q _ _ _=>⟨u.slots,k b u q⟩
 free:=λb u q n _=>by rw[aq (K_ (F_ (w_ q) hp))];exact n
 there:=λb u q _=>⟨u,k b u q⟩
 tups:=λb xs q=>by rw[aq (aE q hn)];exact q
 frzs:=λb u xs q=>by rw[aq (aE q hn)];exact q
 tbls:=λb ps q=>⟨#[],by rw[aq (aE q hn),q];simp⟩
def Un.write(mu:Mut (H x))(he:e=x\/H e=some (.own x))(k:∀b u,b≠e->h.get? b=some u->h'.get? b=some u)(heo:∃u,h'.get? e=some u):Un fs ex H (upd H x o) h h':=by
 have hx:∀b,H b=none->b≠x:=λb n z=>by subst z;rw[n] at mu;exact mu
 have hb:∀b,H b=none->b≠e:=λb n z=>by
  subst z
  rcases he with r |r
  ·exact hx b n r
  ·rw[n] at r;cases r
 have hm:∀b u,H b=some u->¬ Mut (some u)->b≠x:=λb u q nm z=>by subst z;rw[q] at mu;exact nm mu
 refine⟨λb u q n _ _=>k b u (hb b n) q,λb u q n _ _=>⟨u.slots,k b u (hb b n) q⟩,λb u q n _=>by rw[aq (hx b n)];exact n,λb u q _=>?_,
  λb xs q=>by rw[aq (hm b _ q λz=>z)];exact q,λb u xs q=>by rw[aq (hm b _ q λz=>z)];exact q,λb ps q=>⟨#[],by rw[aq (hm b _ q λz=>z),q];simp⟩⟩
 by_cases hbe:b=e
 ·subst hbe;exact heo
 ·exact⟨u,k b u hbe q⟩
end
def trk(h:Heap)(H:Hp):List Addr:=(List.range h.objs.size).filter λa=>(H a).isSome
def eS(h:Heap)(H:Hp):Heap:=W.hideAll h (trk h H)
def oq(h:Heap)(H:Hp):(eS h H).objs.size=h.objs.size:=W.hideAll_size _ _
def pQ(e:h.get? b=some o)(n:H b=none):(eS h H).get? b=some o:=
 W.hideAll_get _ e λhm=>by
  have q:(H b).isSome=true:=(List.mem_filter.mp hm).2
  rw[n] at q;simp at q
def uJ(e:(eS h H).get? b=some o):h.get? b=some o/\H b=none:=by
 have e':h.get? b=some o:=W.of_hideAll (trk h H) e
 refine⟨e',?_⟩
 cases q:H b with
 |none=>rfl
 |
  some x=>
  have hm:b∈trk h H:=List.mem_filter.mpr ⟨OD.mpr (w_ e'),by simp [q]⟩
  have z:(eS h H).get? b=none:=W.hideAll_none (trk h H) hm
  rw[z] at e;cases e
def DB(g h:Heap)(L:Addr):List (Addr×Obj):=(List.range h.objs.size).filterMap λa=>if a=L\/(g.get? a).isSome=true then none else (h.get? a).map λo=>(a,o)
def fL(g h:Heap)(L d:Addr):List (Addr×Obj):=(DB g h L).filter λp=>decide (p.1≠d)
structure Mod(K:W.Frag)(mg:Ra)(base:Heap):Prop where
 kin:K.In base
 glob:base.Ns mainGlobals mg
 blt:∃mb,base.Ns builtinsNs mb/\∀x:Str,x ≠ "__name__"->mb x=bootBuiltins x
 nolimit:base.NoLimit
structure Cx where
 prog:Program
 w:World
 K:W.Frag
 mg:Str->Option Value
 base:Heap
 A:Around
 N:List Str
 s₀:Shared
 H₀:Hp
 env:Env
 outer:List Env
 stack:List Env
 ex:List Addr
 fn:Str->Bool
 calm:Bool
 pn:List (Addr×Obj)
 xe:Value->Shared->Prop
def frs(l:List Env):List Addr:=l.filterMap (·.frame)
abbrev Cx.fs(X:Cx):List Addr:=frs X.outer
def Vis(sc:Scope)(x:Str):Prop:=sc.names.lookup x=some .local\/sc.names.lookup x=some .cell\/sc.names.lookup x=some .free
def Loc(sc:Scope)(x:Str):Prop:=sc.names.lookup x=some .local\/sc.names.lookup x=some .cell
def Look(env:Env)(h:Heap)(m:Ra)(x:Str)(u:Value):Prop:=
 (env.kindOf x=some .local/\m x=some u)\/((env.kindOf x=some .cell\/env.kindOf x=some .free)/\∃c,env.cells.lookup x=some c/\h.IsCell c (some u))
structure Cx.Ok(X:Cx):Prop where
 mod:Mod X.K X.mg X.base
 kind:X.env.scope.kind=.function
 glob:X.env.globals=mainGlobals
 blt:X.env.builtins=builtinsNs
 above:X.s₀.heap.objs.size<=X.env.locals
 inj:∀x y c,X.env.cells.lookup x=some c->X.env.cells.lookup y=some c->x=y
 has:∀x,(X.env.kindOf x=some .cell\/X.env.kindOf x=some .free)->∃c,X.env.cells.lookup x=some c
 cab:∀x c,X.fn x=true->X.env.cells.lookup x=some c->X.s₀.heap.objs.size<=c
 hd:X.calm=true->X.A.handled=none
 frames:X.A.frames=some X.stack
 stk:X.stack=X.outer\/(X.stack=X.env::X.outer/\X.env.frame=some X.env.locals)
 exf:∀b∈X.ex,b≠X.env.locals/\∀x c,X.env.cells.lookup x=some c->c≠b
 bs:∀b o,X.base.get? b=some o->X.s₀.heap.get? b=some o/\X.H₀ b=none
 bsz:X.base.objs.size<=X.s₀.heap.objs.size
 noex:∀b o,X.base.get? b=some o->b∉X.ex
 exfs:∀b∈X.ex,b∉X.fs
 funs:X.s₀.heap.FunFrames X.base X.outer
 frf:∀b∈X.fs,X.H₀ b=none
structure Inv(X:Cx)(pins:Rb)(σ:List (Option V))(H:Hp)(s:Shared):Prop where
 ok:X.Ok
 os:s.os=X.s₀.os
 bare:AllBare s.gens
 base:Un X.fs X.ex X.H₀ H X.s₀.heap s.heap
 loc:∃m,s.heap.Ns X.env.locals m/\∀(i:Nat) (x:Str) (v:V),X.N[i]?=some x->σ[i]?=some (some v)->Vis X.env.scope x->∃u,RelV v u/\Look X.env s.heap m x u
 cell:∀x c,X.env.cells.lookup x=some c->∃v,s.heap.IsCell c v
 free:H X.env.locals=none
 freeC:∀x c,X.env.cells.lookup x=some c->H c=none
 pin:∀p∈X.pn++pins,s.heap.get? p.1=some p.2/\H p.1=none/\p.1≠X.env.locals/\p.1∉X.fs/\∀v,p.2.data ≠ .cell v
 hok:HOk X.prog X.w H s.heap
 len:σ.length=X.N.length
section
variable{X:Cx}{pins:Rb}{σ:List (Option V)}{H H':Hp}{s:Shared}{h':Heap}
def Cx.Ok.nofr(ok:X.Ok)(e:X.base.get? b=some o):b∉X.fs:=λhb=>by
 have:=(ok.funs.mem hb).1
 rw[e] at this;cases this
def Inv.bs(I:Inv X pins σ H s):∀b o,X.base.get? b=some o->s.heap.get? b=some o/\H b=none:=λb o e=>
 ⟨I.base.keep b o (I.ok.bs b o e).1 (I.ok.bs b o e).2 (I.ok.nofr e) (I.ok.noex b o e),I.base.free b o (I.ok.bs b o e).1 (I.ok.bs b o e).2 (I.ok.noex b o e)⟩
def Inv.bk(I:Inv X pins σ H s):∀b o,X.base.get? b=some o->s.heap.get? b=some o:=λb o e=>(I.bs b o e).1
def Inv.mod(I:Inv X pins σ H s):Mod X.K X.mg X.base:=I.ok.mod
def Inv.kIn(I:Inv X pins σ H s):X.K.In s.heap:=I.ok.mod.kin.keeps I.bk
def Inv.nolimit(I:Inv X pins σ H s):s.heap.NoLimit:=I.ok.mod.nolimit.keeps I.bk
def Inv.lt(I:Inv X pins σ H s):X.env.locals<s.heap.objs.size:=let ⟨_,hn,_⟩:=I.loc;hn.lt
def Inv.sz(I:Inv X pins σ H s):X.s₀.heap.objs.size<=s.heap.objs.size:=E_ I.ok.above (P4 I.lt)
def Inv.nofs(I:Inv X pins σ H s)(h:s.heap.objs.size<=a):a∉X.fs:=λhb=>by
 obtain⟨_,o,ho,_⟩:=I.ok.funs.mem hb
 exact absurd (F_ (w_ ho) (E_ I.sz h)) (OV _)
def Inv.cne(I:Inv X pins σ H s):∀x c,X.env.cells.lookup x=some c->c≠X.env.locals:=λx c e z=>by
 obtain⟨v,o,ho,hd⟩:=I.cell x c e
 obtain⟨m,⟨o',es,ep,ho',hd',_⟩,_⟩:=I.loc
 rw[z,ho'] at ho;cases ho;rw[hd'] at hd;cases hd
def Inv.funs(I:Inv X pins σ H s):s.heap.FunFrames X.base X.outer:=by
 have all:∀(l:List Env),(∀b∈frs l,b∈X.fs)->X.s₀.heap.FunFrames X.base l->s.heap.FunFrames X.base l:=by
  intro l
  induction l with
  |nil=>intro _ _;trivial
  |
   cons env r ih=>
   intro hs hl
   obtain⟨hk,⟨L,o,hf,hn,ho,hd⟩,hr⟩:=hl
   have hL:L∈X.fs:=hs L (by unfold frs;rw[Pg,hf];exact p_)
   obtain⟨sl,e⟩:=I.base.slot L o ho (I.ok.frf L hL) hL λz=>I.ok.exfs L z hL
   exact⟨hk,⟨L,_,hf,hn,e,hd⟩,ih (λb hb=>hs b (by unfold frs;rw[Pg,hf];exact m_ _ hb)) hr⟩
 exact all X.outer (λ_ hb=>hb) I.ok.funs
def Inv.stack(I:Inv X pins σ H s):s.heap.FunFrames X.base X.stack:=by
 rcases I.ok.stk with e |⟨e,hf⟩
 ·rw[e];exact I.funs
 ·rw[e]
  obtain⟨m,hn,_⟩:=I.loc
  refine .cons (by rw[I.ok.kind];decide) hf hn ?_ I.funs
  exact QD (E_ I.ok.bsz I.ok.above)
def Inv.stkSub(I:Inv X pins σ H s):∀b∈frs X.stack,b∈X.env.locals::X.fs:=λb hb=>by
 rcases I.ok.stk with e |⟨e,hf⟩
 ·rw[e] at hb;exact m_ _ hb
 ·rw[e] at hb
  unfold frs at hb
  rw[Pg,hf] at hb
  exact hb
def Inv.stkFree(I:Inv X pins σ H s):∀b∈frs X.stack,H b=none:=λb hb=>by
 rcases I_.mp (I.stkSub b hb) with e |hb
 ·rw[e];exact I.free
 ·obtain⟨_,o,ho,_⟩:=I.ok.funs.mem hb
  exact I.base.free b o ho (I.ok.frf b hb) λz=>I.ok.exfs b z hb
def Inv.step{g':Array GenState}{t':Nat}{d':Drawn}{ch:List Addr}(I:Inv X pins σ H s)
 (hch:∀b∈ch,(b∈X.ex\/X.s₀.heap.objs.size<=b)/\b≠X.env.locals/\(∀x c,X.env.cells.lookup x=some c->c≠b)/\∀p∈X.pn++pins,p.1≠b)
 (keep:∀b o,b≠X.env.locals->b∉X.fs->b∉ch->s.heap.get? b=some o->H b=none->h'.get? b=some o)
 (slot:∀b o,b≠X.env.locals->b∈X.fs->b∉ch->s.heap.get? b=some o->H b=none->∃sl,h'.get? b=some { o with slots:=sl }) (free:∀b o,b∉ch->s.heap.get? b=some o->H b=none->H' b=none)
 (there:∀b o,b∉ch->s.heap.get? b=some o->∃o',h'.get? b=some o')
 (tups:∀b xs,H b=some (.tup xs)->H' b=some (.tup xs)) (frzs:∀b o u,H b=some (.frz o u)->H' b=some (.frz o u)) (tbls:∀b ps,H b=some (.tbl ps)->∃more,H' b=some (.tbl (ps++more)))
 (ns:∀m,s.heap.Ns X.env.locals m->h'.Ns X.env.locals m) (hok:HOk X.prog X.w H' h') (hg:AllBare g'):
 Inv X pins σ H' { s with heap:=h',gens:=g',drawn:=d',toks:=t' }:=by
 have neL:∀b o,X.s₀.heap.get? b=some o->b≠X.env.locals:=λb o e=>K_ (F_ (w_ e) I.ok.above)
 have neC:∀b o,X.s₀.heap.get? b=some o->b∉X.ex->b∉ch:=λb o e hx hb=>by
  rcases (hch b hb).1 with z |z
  ·exact hx z
  ·exact absurd (F_ (w_ e) z) (OV _)
 have cellK:∀x c,X.env.cells.lookup x=some c->∀v,s.heap.IsCell c v->h'.IsCell c v:=λx c e v ⟨o,ho,hd⟩=>by
  have nch:c∉ch:=λz=>(hch c z).2.2.1 x c e rfl
  by_cases hc:c∈X.fs
  ·obtain⟨sl,q⟩:=slot c o (I.cne x c e) hc nch ho (I.freeC x c e)
   exact⟨_,q,hd⟩
  ·exact⟨o,keep c o (I.cne x c e) hc nch ho (I.freeC x c e),hd⟩
 refine⟨I.ok,I.os,hg,⟨λb o e n hb hx=>?_,λb o e n hb hx=>?_,λb o e n hx=>?_,λb o e hx=>?_,λb xs e=>tups b xs (I.base.tups b xs e),λb o xs e=>frzs b o xs (I.base.frzs b o xs e),λb ps e=>?_⟩,?_,λx c e=>?_,?_,λx c e=>?_,λp hp=>?_,hok,I.len⟩
 ·exact keep b o (neL b o e) hb (neC b o e hx) (I.base.keep b o e n hb hx) (I.base.free b o e n hx)
 ·obtain⟨sl,e1⟩:=I.base.slot b o e n hb hx
  obtain⟨sl',e2⟩:=slot b _ (neL b o e) hb (neC b o e hx) e1 (I.base.free b o e n hx)
  exact⟨sl',e2⟩
 ·obtain⟨o',e1⟩:=I.base.there b o e hx
  exact free b o' (neC b o e hx) e1 (I.base.free b o e n hx)
 ·obtain⟨o',e1⟩:=I.base.there b o e hx
  exact there b o' (neC b o e hx) e1
 ·obtain⟨m1,e1⟩:=I.base.tbls b ps e
  obtain⟨m2,e2⟩:=tbls b _ e1
  exact⟨m1++m2,by rw[e2,Array.append_assoc]⟩
 ·obtain⟨m,hn,hl⟩:=I.loc
  refine⟨m,ns m hn,λi x v e1 e2 e3=>?_⟩
  obtain⟨u,r,l⟩:=hl i x v e1 e2 e3
  refine⟨u,r,?_⟩
  rcases l with l |⟨k,c,e,z⟩
  ·exact .inl l
  ·exact .inr ⟨k,c,e,cellK x c e _ z⟩
 ·obtain⟨v,z⟩:=I.cell x c e
  exact⟨v,cellK x c e v z⟩
 ·obtain⟨m,⟨o,_,_,ho,_⟩,_⟩:=I.loc
  exact free _ o (λz=>(hch _ z).2.1 rfl) ho I.free
 ·obtain⟨v,o,ho,hd⟩:=I.cell x c e
  exact free c o (λz=>(hch c z).2.2.1 x c e rfl) ho (I.freeC x c e)
 ·obtain⟨e,n,ne,nf,d⟩:=I.pin p hp
  have nch:p.1∉ch:=λz=>(hch p.1 z).2.2.2 p hp rfl
  exact⟨keep p.1 p.2 ne nf nch e n,free p.1 p.2 nch e n,ne,nf,d⟩
def Inv.un{t':Nat}(I:Inv X pins σ H s)(u:Un X.fs [] H H' s.heap h')(hok:HOk X.prog X.w H' h'):Inv X pins σ H' { s with heap:=h',toks:=t' }:=by
 obtain⟨m,⟨o,es,ep,ho,r⟩,_⟩:=id I.loc
 obtain⟨sl,hL⟩:=u.any ho I.free (by simp)
 exact I.step (g':=s.gens) (d':=s.drawn) (ch:=[]) (λ_ z=>nomatch z) (λb o _ hb _ e n=>u.keep b o e n hb (by simp)) (λb o _ hb _ e n=>u.slot b o e n hb (by simp)) (λb o _ e n=>u.free b o e n (by simp)) (λb o _ e=>u.there b o e (by simp)) u.tups u.frzs u.tbls (λm' hm=>by
  obtain⟨o',es',ep',ho',r'⟩:=hm
  rw[ho] at ho';cases ho'
  exact⟨_,es',ep',hL,r'⟩) hok I.bare
def Inv.call{g':Array GenState}{t':Nat}{d':Drawn}{ch:List Addr}(I:Inv X pins σ H s)(u:Un (frs X.stack) ch H H' s.heap h')(hok:HOk X.prog X.w H' h')(hg:AllBare g')
 (hch:∀b∈ch,(b∈X.ex\/X.s₀.heap.objs.size<=b)/\b≠X.env.locals/\(∀x c,X.env.cells.lookup x=some c->c≠b)/\∀p∈X.pn++pins,p.1≠b):
 Inv X pins σ H' { s with heap:=h',gens:=g',drawn:=d',toks:=t' }:=by
 obtain⟨m,⟨o,es,ep,ho,r⟩,_⟩:=id I.loc
 obtain⟨sl,hL⟩:=u.any ho I.free λz=>(hch _ z).2.1 rfl
 exact I.step (ch:=ch) hch (λb o hL hb hc e n=>u.keep b o e n (λz=>(I_.mp (I.stkSub b z)).elim hL hb) hc) (λb o _ _ hc e n=>u.any e n hc) (λb o hc e n=>u.free b o e n hc) (λb o hc e=>u.there b o e hc) u.tups u.frzs u.tbls (λm' hm=>by
  obtain⟨o',es',ep',ho',r'⟩:=hm
  rw[ho] at ho';cases ho'
  exact⟨_,es',ep',hL,r'⟩) hok hg
def Inv.turned{t':Nat}{it:Addr}(I:Inv X pins σ H s)(k:∀b o,b≠it->s.heap.get? b=some o->h'.get? b=some o)(hn:H it=none)(hL:it≠X.env.locals)
 (h1:it∈X.ex\/X.s₀.heap.objs.size<=it) (h2:∀x c,X.env.cells.lookup x=some c->c≠it) (h3:∀p∈X.pn++pins,p.1≠it):Inv X pins σ H { s with heap:=h',toks:=t' }:=by
 have nit:∀b u,H b=some u->b≠it:=λb u e z=>by rw[z,hn] at e;cases e
 refine I.step (g':=s.gens) (d':=s.drawn) (ch:=[it]) (λb hb=>?_) (λb o _ _ hc e _=>k b o (λz=>hc (by simp [z])) e) (λb o _ _ hc e _=>⟨o.slots,k b o (λz=>hc (by simp [z])) e⟩) (λ_ _ _ _ n=>n)
  (λb o hc e=>⟨o,k b o (λz=>hc (by simp [z])) e⟩) (λ_ _ e=>e) (λ_ _ _ e=>e) (λb ps e=>⟨#[],by rw[e];simp⟩) (λm hm=>?_) (λb u e=>?_) I.bare
 ·have e:b=it:=by simpa using hb
  subst e
  exact⟨h1,hL,h2,h3⟩
 ·obtain⟨o,es,ep,ho,r⟩:=hm
  exact⟨o,es,ep,k _ o (Ne.symm hL) ho,r⟩
 ·refine (I.hok b u e).stay (λc v hc q=>k c v ?_ q) (λ_ q=>q) λ_ _ q=>q
  rcases hc with z |z
  ·rw[z];exact nit b u e
  ·exact nit c _ z
def Inv.tok(I:Inv X pins σ H s)(t:Nat):Inv X pins σ H { s with toks:=t }:=I.un (h':=s.heap) (t':=t) Un.refl I.hok
def Inv.kept(I:Inv X pins σ H s)(k:∀b u,s.heap.get? b=some u->h'.get? b=some u):Inv X pins σ H { s with heap:=h',toks:=t' }:=I.un (Un.kept k) (I.hok.kept k)
def Inv.laid(I:Inv X pins σ H s)(k:∀b u,s.heap.get? b=some u->h'.get? b=some u)(hp:s.heap.objs.size<=a)(new:ObjOk X.prog X.w (upd H a o) h' a o):
 Inv X pins σ (upd H a o) { s with heap:=h',toks:=t' }:=I.un (Un.laid k hp (I.hok.fresh hp)) (I.hok.laid k hp new)
def Inv.write(I:Inv X pins σ H s)(mu:Mut (H x))(he:e=x\/H e=some (.own x))(k:∀b u,b≠e->s.heap.get? b=some u->h'.get? b=some u)(heo:∃u,h'.get? e=some u)
 (new:ObjOk X.prog X.w (upd H x o) h' x o):Inv X pins σ (upd H x o) { s with heap:=h',toks:=t' }:=I.un (Un.write mu he k heo) (I.hok.write mu he k heo new)
def Inv.pins_of(I:Inv X pins σ H s)(h:∀p∈pins',s.heap.get? p.1=some p.2/\H p.1=none/\p.1≠X.env.locals/\p.1∉X.fs/\∀v,p.2.data ≠ .cell v):Inv X pins' σ H s:=
 ⟨I.ok,I.os,I.bare,I.base,I.loc,I.cell,I.free,I.freeC,λp hp=>(Pw.mp hp).elim (λz=>I.pin p (QH _ z)) (h p),I.hok,I.len⟩
def qV{N:List Str}(hN:N.Nodup){i j:Nat}{x:Str}(a:N[i]?=some x)(b:N[j]?=some x):i=j:=by
 obtain⟨h1,e1⟩:=r_.mp a
 obtain⟨h2,e2⟩:=r_.mp b
 exact (List.getElem_inj hN).mp (e1.trans e2.symm)
def oy(I:Inv X pins σ H s)(hN:X.N.Nodup)(hi:X.N[i]?=some x)(hx:Loc X.env.scope x)(r:RelV v u)
 (h:∀s',Inv X pins (σ.set i (some v)) H s'->(∃a,Heap.SameBut a s.heap s'.heap/\(a=X.env.locals\/X.env.cells.lookup x=some a))->Q () s') (hf:X.fn x=true\/X.env.scope.names.lookup x=some .local):wpAny M A (storeName X.env x u) Q E s:=by
 obtain⟨m,hn,hl⟩:=id I.loc
 have hcls:(X.env.scope.kind == .class || (X.env.scope.kind == .module&&X.env.locals != X.env.globals))=false:=by rw[I.ok.kind];rfl
 have hiσ:i<σ.length:=by rw[I.len];exact (r_.mp hi).1
 have cne:=I.cne
 have tracked:∀{a:Addr}{h':Heap},(∃o,s.heap.get? a=some o/\H a=none)->Heap.SameBut a s.heap h'->HOk X.prog X.w H h':=λ{a h'} ha hs b ob e=>by
  obtain⟨_,_,hfree⟩:=ha
  refine (I.hok b ob e).stay (λc w' hc q=>(hs.2 c ?_).trans q) (λ_ q=>q) λ_ _ q=>q
  rintro rfl
  rcases hc with rfl |hc
  ·rw[hfree] at e;cases e
  ·rw[hfree] at hc;cases hc
 rcases hx with hk |hk
 ·refine wpAny_storeName_local hk hn (λh' hn' hs=>?_) hcls
  obtain⟨oL,_,_,hoL,_⟩:=id hn
  refine h _ ⟨I.ok,I.os,I.bare,⟨λb o e n hb hx=>?_,λb o e n hb hx=>?_,I.base.free,λb o e hx=>?_,I.base.tups,I.base.frzs,I.base.tbls⟩,⟨_,hn',λj y v' e1 e2 e3=>?_⟩,λy c e=>?_,I.free,I.freeC,λp hp=>?_,tracked ⟨oL,hoL,I.free⟩ hs,by simpa using I.len⟩ ⟨_,hs,.inl rfl⟩
  ·exact (hs.2 b (K_ (F_ (w_ e) I.ok.above))).trans (I.base.keep b o e n hb hx)
  ·obtain⟨sl,e1⟩:=I.base.slot b o e n hb hx
   exact⟨sl,(hs.2 b (K_ (F_ (w_ e) I.ok.above))).trans e1⟩
  ·obtain⟨o',e1⟩:=I.base.there b o e hx
   exact⟨o',(hs.2 b (K_ (F_ (w_ e) I.ok.above))).trans e1⟩
  ·by_cases hj:j=i
   ·subst hj
    rw[hi] at e1;cases e1
    rw[List.getElem?_set_self hiσ] at e2
    cases e2
    exact⟨u,r,.inl ⟨hk,by simp⟩⟩
   ·rw[QG (Ne.symm hj)] at e2
    obtain⟨u',r',q⟩:=hl j y v' e1 e2 e3
    refine⟨u',r',?_⟩
    rcases q with ⟨k,e⟩ |⟨k,c,e,z⟩
    ·refine .inl ⟨k,?_⟩
     have:y≠x:=λe=>hj (qV hN e1 (e ▸ hi))
     simp [this,e]
    ·exact .inr ⟨k,c,e,z.sameBut hs (cne y c e)⟩
  ·obtain⟨w',z⟩:=I.cell y c e
   exact⟨w',z.sameBut hs (cne y c e)⟩
  ·obtain⟨e,n,ne,nf,d⟩:=I.pin p hp
   exact⟨(hs.2 p.1 ne).trans e,n,ne,nf,d⟩
 ·have hfn:X.fn x=true:=by
   rcases hf with z |z
   ·exact z
   ·rw[z] at hk;cases hk
  obtain⟨c,hc⟩:=I.ok.has x (.inl hk)
  obtain⟨w',z⟩:=I.cell x c hc
  refine wpAny_storeName_cell I.ok.kind hk hc z (λh' hc' hs=>?_)
  obtain⟨oc,hoc,hocd⟩:=id z
  refine h { s with heap:=h' } ⟨I.ok,I.os,I.bare,⟨λb o e n hb hx=>?_,λb o e n hb hx=>?_,I.base.free,λb o e hx=>?_,I.base.tups,I.base.frzs,I.base.tbls⟩,⟨m,hn.sameBut hs (Ne.symm (cne x c hc)),λj y v' e1 e2 e3=>?_⟩,λy c' e=>?_,I.free,I.freeC,λp hp=>?_,tracked ⟨oc,hoc,I.freeC x c hc⟩ hs,by simpa using I.len⟩ ⟨c,hs,.inr hc⟩
  ·exact (hs.2 b (K_ (F_ (w_ e) (I.ok.cab x c hfn hc)))).trans (I.base.keep b o e n hb hx)
  ·obtain⟨sl,e1⟩:=I.base.slot b o e n hb hx
   exact⟨sl,(hs.2 b (K_ (F_ (w_ e) (I.ok.cab x c hfn hc)))).trans e1⟩
  ·obtain⟨o',e1⟩:=I.base.there b o e hx
   exact⟨o',(hs.2 b (K_ (F_ (w_ e) (I.ok.cab x c hfn hc)))).trans e1⟩
  ·by_cases hj:j=i
   ·subst hj
    rw[hi] at e1;cases e1
    rw[List.getElem?_set_self hiσ] at e2
    cases e2
    exact⟨u,r,.inr ⟨.inl hk,c,hc,hc'⟩⟩
   ·rw[QG (Ne.symm hj)] at e2
    obtain⟨u',r',q⟩:=hl j y v' e1 e2 e3
    refine⟨u',r',?_⟩
    rcases q with q |⟨k,c',e,z'⟩
    ·exact .inl q
    ·refine .inr ⟨k,c',e,z'.sameBut hs ?_⟩
     rintro rfl
     exact hj (qV hN e1 (I.ok.inj _ _ _ e hc ▸ hi))
  ·by_cases hcc:c'=c
   ·subst hcc;exact⟨_,hc'⟩
   ·obtain⟨w2,z2⟩:=I.cell y c' e
    exact⟨w2,z2.sameBut hs hcc⟩
  ·obtain⟨e,n,ne,nf,d⟩:=I.pin p hp
   refine⟨(hs.2 p.1 ?_).trans e,n,ne,nf,d⟩
   intro q
   rw[q,hoc] at e
   have q':oc=p.2:=H_ e
   exact d w' (by rw[<- q'];exact hocd)
def gp(I:Inv X pins σ H s)(hN:X.N.Nodup)(hi:X.N[i]?=some x)(hx:Loc X.env.scope x)(r:RelV v u)
 (h:∀s',Inv X pins (σ.set i (some v)) H s'->Q () s') (hf:X.fn x=true\/X.env.scope.names.lookup x=some .local):wpAny M A (storeName X.env x u) Q E s:=
 oy I hN hi hx r (λs' I' _=>h s' I') hf
def Inv.call'(I:Inv X pins σ H s)(ho:s'.os=s.os)(u:Un (frs X.stack) ch H H' s.heap s'.heap)(hok:HOk X.prog X.w H' s'.heap)(hg:AllBare s'.gens)
 (hch:∀b∈ch,(b∈X.ex\/X.s₀.heap.objs.size<=b)/\b≠X.env.locals/\(∀x c,X.env.cells.lookup x=some c->c≠b)/\∀p∈X.pn++pins,p.1≠b):Inv X pins σ H' s':=by
 obtain⟨h',g',d',t',o'⟩:=s'
 have e:o'=s.os:=ho
 subst e
 exact I.call (g':=g') (t':=t') (d':=d') u hok hg hch
end
abbrev XK:=Value->Option Addr->Hp->Prop
abbrev St:=List (Option V)
abbrev VK:=V->Hp->Prop
abbrev TE:=St->Hp->VK->Prop
abbrev TT:=St->Hp->(Bool->Hp->Prop)->Prop
abbrev TA:=St->Hp->(List V->Hp->Prop)->Prop
structure Ends where
 nx:St->Hp->Prop
 rt:VK
 bk:St->Hp->Prop:=λ_ _=>False
 ct:St->Hp->Prop:=λ_ _=>False
abbrev TS:=Ends->St->Hp->Prop
def EP(X:Cx)(pins:Rb)(σ:St)(Q:VK)(u:Value)(s':Shared):Prop:=∃v H',Inv X pins σ H' s'/\RelV v u/\Q v H'
def TP(X:Cx)(pins:Rb)(σ:St)(Q:Bool->Hp->Prop)(b:Bool)(s':Shared):Prop:=∃H',Inv X pins σ H' s'/\Q b H'
def AP(X:Cx)(pins:Rb)(σ:St)(Q:List V->Hp->Prop)(us:List Value)(s':Shared):Prop:=∃vs H',Inv X pins σ H' s'/\Vals vs us/\Q vs H'
def SP(X:Cx)(pins:Rb)(D:Ends)(f:Flow)(s':Shared):Prop:=
 match f with
 |.next=>∃σ' H',Inv X pins σ' H' s'/\D.nx σ' H'
 |.brk=>∃σ' H',Inv X pins σ' H' s'/\D.bk σ' H'
 |.cont=>∃σ' H',Inv X pins σ' H' s'/\D.ct σ' H'
 |.ret u=>∃v σ' H',Inv X pins σ' H' s'/\RelV v u/\D.rt v H'
def PE(X:Cx)(e:Expr)(t:TE):Prop:=
 ∀(pins:Rb) (s:Shared) (σ:St) (H:Hp) (Q:VK),Inv X pins σ H s->t σ H Q->wpAny (model X.prog X.w) X.A (eval e X.env) (EP X pins σ Q) X.xe s
def PT(X:Cx)(e:Expr)(t:TT):Prop:=
 ∀(pins:Rb) (s:Shared) (σ:St) (H:Hp) (Q:Bool->Hp->Prop),Inv X pins σ H s->t σ H Q->wpAny (model X.prog X.w) X.A (isTrue e X.env (eval e X.env)) (TP X pins σ Q) X.xe s
def PW(X:Cx)(e:Expr)(t:TT):Prop:=
 ∀(c_:Sem Value) (pins:Rb) (s:Shared) (σ:St) (H:Hp) (Q:Bool->Hp->Prop),Inv X pins σ H s->t σ H Q->wpAny (model X.prog X.w) X.A (isTrue e X.env c_) (TP X pins σ Q) X.xe s
def PW.pt(h:PW X e t):PT X e t:=h _
def PA(X:Cx)(es:List Expr)(t:TA):Prop:=
 ∀(pos:Pos) (pins:Rb) (s:Shared) (σ:St) (H:Hp) (Q:List V->Hp->Prop),Inv X pins σ H s->t σ H Q->wpAny (model X.prog X.w) X.A (spliced (backTo pos (starEach es X.env))) (AP X pins σ Q) X.xe s
def PS(X:Cx)(st:Stmt)(t:TS):Prop:=
 ∀(pins:Rb) (s:Shared) (σ:St) (H:Hp) (D:Ends),Inv X pins σ H s->t D σ H->wpAny (model X.prog X.w) X.A (exec st X.env) (SP X pins D) X.xe s
def PSs(X:Cx)(st:List Stmt)(t:TS):Prop:=
 ∀(pins:Rb) (s:Shared) (σ:St) (H:Hp) (D:Ends),Inv X pins σ H s->t D σ H->wpAny (model X.prog X.w) X.A (execs st X.env) (SP X pins D) X.xe s
def thn(h:wpAny M A t Q E s)(hQ:∀a s,Q a s->Q' a s):wpAny M A t Q' E s:=OB h hQ λ_ _ x=>x
section
variable{X:Cx}
def tVar(i:Nat):TE:=λσ H Q=>∃v,σ[i]?=some (some v)/\Q v H
def tC(v:V):TE:=λ_ H Q=>Q v H
def Hu(hN:X.N[i]?=some x)(hv:Vis X.env.scope x)(hd:(x==("__debug__" : Str))=false)(jp:(x==("__classdict__" : Str))=false):PE X (.Name x pos) (tVar i):=by
 intro pins s σ H Q I h
 obtain⟨v,e,h⟩:=h
 obtain⟨m,hn,hl⟩:=I.loc
 obtain⟨u,r,l⟩:=hl i x v hN e hv
 have ii:EP X pins σ Q u s:=⟨v,H,I,r,h⟩
 rcases l with ⟨hk,hm⟩ |⟨hk,c,hc,j_⟩
 ·exact wpAny_Name (QM I.ok.kind hk hn hm ii) hd
 ·rcases hk with hk |hk
  ·exact wpAny_Name (wpAny_loadName_cell I.ok.kind hk hc j_ ii) hd
  ·exact wpAny_Name (wpAny_loadName_free I.ok.kind hk hc j_ ii jp) hd
def Hx{i j pos}:PE X (.Constant (.int i) j pos) (tC (.int i)):=λ_ _ _ H _ I h=>wpAny_Constant_int ⟨.int i,H,I.tok _,⟨_,rfl⟩,h⟩
def NB{b j pos}:PE X (.Constant (.bool b) j pos) (tC (.bl b)):=λ_ _ _ H _ I h=>Constant_bool ⟨.bl b,H,I,rfl,h⟩
def Kg{x j pos}:PE X (.Constant (.str x) j pos) (tC (.str x)):=λ_ _ _ H _ I h=>Calls.Constant_str ⟨.str x,H,I.tok _,⟨_,rfl⟩,h⟩
def Gl(X:Cx)(x:Str):Prop:=X.env.kindOf x=some .globalImplicit
def mP(I:Inv X pins σ H s)(hg:Gl X x)(hm:X.mg x=some u)(h:Q u s)
 (hd:(x==("__debug__" : Str))=false):wpAny (model X.prog X.w) X.A (eval (.Name x pos) X.env) Q E s:=
 Calls.Name_function_global I.ok.kind hg (Calls.loadGlobal_global (by rw[I.ok.glob];exact I.mod.glob.keeps I.bk) hm h) hd
def eP(I:Inv X pins σ H s)(hg:Gl X x)(hm:X.mg x=none)(hv:bootBuiltins x=some u)(h:Q u s)
 (hn:x ≠ "__name__":=by decide) (hd:(x==("__debug__" : Str))=false:=by decide):wpAny (model X.prog X.w) X.A (eval (.Name x pos) X.env) Q E s:=by
 obtain⟨mb,h1,h2⟩:=I.mod.blt
 exact Calls.Name_function_global I.ok.kind hg (Calls.loadGlobal_builtin (by rw[I.ok.glob];exact I.mod.glob.keeps I.bk) hm (by rw[I.ok.blt];exact h1.keeps I.bk) ((h2 x hn).trans hv) h) hd
def ud(hg:Gl X x)(hm:X.mg x=some u)(r:RelV v u)(hd:(x==("__debug__" : Str))=false):PE X (.Name x pos) (tC v):=
 λ_ _ _ H _ I h=>mP I hg hm ⟨v,H,I,r,h⟩ hd
def Fl(hg:Gl X x)(hm:X.mg x=none)(hv:bootBuiltins x=some u)(r:RelV v u)(hn:x ≠ "__name__")(hd:(x==("__debug__" : Str))=false):PE X (.Name x pos) (tC v):=
 λ_ _ _ H _ I h=>eP I hg hm hv ⟨v,H,I,r,h⟩ hn hd
variable{a b:Expr}{ta tb:TE}{pos:Pos}
def tB(t:TE):TT:=λσ H Q=>t σ H λx H1=>∃c,x=.bl c/\Q c H1
def HY(h:PE X e t)(he:∀c_,isTrue e X.env c_=(do let v <- c_;standAt e.pos;holding [v] (truthy v))):PT X e (tB t):=by
 intro pins s σ H Q I hw
 refine isTrue_plain (thn (h pins s σ H _ I hw) λv s1 ⟨x,H1,I1,r1,q1⟩=>?_) (he _)
 obtain⟨d,rfl,q⟩:=q1
 cases r1
 exact PD ⟨H1,I1,q⟩
variable{tA tB':TT}{fL:List Expr}
def tAnd(t u:TT):TT:=λσ H Q=>t σ H λc H1=>if c=true then u σ H1 Q else Q false H1
def tOr(t u:TT):TT:=λσ H Q=>t σ H λc H1=>if c=true then Q true H1 else u σ H1 Q
def tNot(t:TT):TT:=λσ H Q=>t σ H λc H1=>Q (!c) H1
def FE(ha:PT X a tA):PW X (.BoolOp .And [a] pos) tA:=by
 intro wh pins s σ H Q I h
 refine isTrue_and (thn (ha pins s σ H Q I h) λc s1 e=>?_)
 cases c with
 |true=>exact isTrue_and_nil e
 |false=>exact e
def Gw(ha:PT X a tA):PW X (.BoolOp .Or [a] pos) tA:=by
 intro wh pins s σ H Q I h
 refine isTrue_or (thn (ha pins s σ H Q I h) λc s1 e=>?_)
 cases c with
 |false=>exact isTrue_or_nil e
 |true=>exact e
def KS(ha:PT X a tA)(hb:PW X (.BoolOp .And (b::fL) pos) tB'):PW X (.BoolOp .And (a::b::fL) pos) (tAnd tA tB'):=by
 intro wh pins s σ H Q I h
 refine isTrue_and (thn (ha pins s σ H _ I h) λc s1 ⟨H1,I1,q1⟩=>?_)
 cases c with
 |true=>exact hb wh pins s1 σ H1 Q I1 q1
 |false=>exact⟨H1,I1,q1⟩
def MM(ha:PT X a tA)(hb:PW X (.BoolOp .Or (b::fL) pos) tB'):PW X (.BoolOp .Or (a::b::fL) pos) (tOr tA tB'):=by
 intro wh pins s σ H Q I h
 refine isTrue_or (thn (ha pins s σ H _ I h) λc s1 ⟨H1,I1,q1⟩=>?_)
 cases c with
 |true=>exact⟨H1,I1,q1⟩
 |false=>exact hb wh pins s1 σ H1 Q I1 q1
def IJ(ha:PT X a tA):PT X (.UnaryOp .Not a pos) (tNot tA):=by
 intro pins s σ H Q I h
 exact isTrue_not (ha pins s σ H (λc H1=>Q (!c) H1) I h)
def NO(ta tb:TE):TE:=λσ H Q=>ta σ H λx H1=>∃c,x=.bl c/\if c=true then tb σ H1 Q else Q (.bl false) H1
def MH(ta:TE):TE:=λσ H Q=>ta σ H λx H1=>∃c,x=.bl c/\Q (.bl (!c)) H1
def JU{op}(h:PE X a t):PE X (.BoolOp op [a] pos) t:=λpins s σ H Q I hw=>BoolOp_one (h pins s σ H Q I hw)
def JI(ha:PE X a ta)(hb:PE X (.BoolOp .And (b::fL) pos) tb):PE X (.BoolOp .And (a::b::fL) pos) (NO ta tb):=by
 intro pins s σ H Q I h
 refine BoolOp_and (thn (ha pins s σ H _ I h) λv s1 ⟨x,H1,I1,r1,q1⟩=>?_)
 obtain⟨c,rfl,q1⟩:=q1
 cases r1
 refine PD ?_
 cases c with
 |true=>exact hb pins s1 σ H1 Q I1 q1
 |false=>exact⟨.bl false,H1,I1,rfl,q1⟩
def Hk(ha:PE X a ta):PE X (.UnaryOp .Not a pos) (MH ta):=by
 intro pins s σ H Q I h
 refine UnaryOp_ (thn (ha pins s σ H _ I h) λv s1 ⟨x,H1,I1,r1,q1⟩=>?_)
 obtain⟨c,rfl,q1⟩:=q1
 cases r1
 exact not_of (PD ⟨.bl (!c),H1,I1,rfl,q1⟩)
end
def SqL(K:W.Frag)(H:Hp)(a:Addr)(xs:List V):Prop:=
 Rd H a (.lst xs)\/
  ∃(o:Obj) (its:Array Value) (n:Nat),K.lookup a=some o/\o.cls=.type "list" /\ o.dict=none/\o.data=.seq its n/\its.size<=sizeLine/\Vals xs its.toList
def SqT(K:W.Frag)(H:Hp)(a:Addr)(xs:List V):Prop:=
 Rd H a (.tup xs)\/
  ∃(o:Obj) (its:Array Value) (n:Nat),K.lookup a=some o/\o.cls=.type "tuple" /\ o.data=.seq its n/\its.size<=sizeLine/\Vals xs its.toList
noncomputable def absV:Value->Option V
 |.none=>some .non
 |.bool b=>some (.bl b)
 |.int i _=>some (.int i)
 |.str x _=>some (.str x)
 |.bytes b _=>some (.byt b)
 |.float b _=>some (.flt b)
 |.ref a=>some (.ref a)
 |.type n=>some (.ty n)
 |_=>none
def RelV.abs(r:RelV x u):absV u=some x:=by
 cases x with
 |non=>cases r;rfl
 |bl _=>cases r;rfl
 |int _=>obtain⟨t,rfl⟩:=r;rfl
 |str _=>obtain⟨t,rfl⟩:=r;rfl
 |byt _=>obtain⟨t,rfl⟩:=r;rfl
 |flt _=>obtain⟨t,rfl⟩:=r;rfl
 |ref _=>cases r;rfl
 |ty _=>cases r;rfl
def RelV.inj(r:RelV x u)(q:RelV y u):x=y:=H_ (r.abs.symm.trans q.abs)
def Vals.inj(r:Vals xs us)(q:Vals ys us):xs=ys:=by
 induction r generalizing ys with
 |nil=>cases q;rfl
 |
  cons r t ih=>
  cases q with
  |cons q t'=>rw[r.inj q,ih t']
section
variable{X:Cx}{pins:Rb}{σ:St}{H:Hp}{s:Shared}{a:Addr}{xs ys:List V}
def SqL.of{K:W.Frag}(h:H a=some (.lst xs)):SqL K H a xs:=.inl (.inl h)
def SqT.of{K:W.Frag}(h:H a=some (.tup xs)):SqT K H a xs:=.inl (.inl h)
def Inv.list(I:Inv X pins σ H s)(h:SqL X.K H a xs):∃its:List Value,Vals xs its/\PlainL s.heap a its.toArray/\xs.length<=sizeLine:=by
 rcases h with h |⟨o,its,n,hk,hc,hd,hs,hz,r⟩
 ·obtain⟨z,its,n,r,e⟩:=h.ok I.hok
  exact⟨its,r,⟨_,n,e,rfl,rfl,rfl⟩,z⟩
 ·refine⟨its.toList,r,⟨o,n,I.kIn a o hk,hc,hd,by simpa using hs⟩,?_⟩
  have e:=r.length
  simp only[OI] at e
  omega
def Inv.tuple(I:Inv X pins σ H s)(h:SqT X.K H a xs):∃its:List Value,Vals xs its/\IsTup s.heap a its.toArray/\xs.length<=sizeLine:=by
 rcases h with h |⟨o,its,n,hk,hc,hs,hz,r⟩
 ·obtain⟨z,its,r,p⟩:=h.ok I.hok
  exact⟨its,r,p,z⟩
 ·refine⟨its.toList,r,⟨o,I.kIn a o hk,hc,n,by simpa using hs⟩,?_⟩
  have e:=r.length
  simp only[OI] at e
  omega
def Inv.list_inj(I:Inv X pins σ H s)(h:SqL X.K H a xs)(h':SqL X.K H a ys):xs=ys:=by
 obtain⟨its,r,⟨o,n,e,_,_,d⟩,_⟩:=I.list h
 obtain⟨its',r',⟨o',n',e',_,_,d'⟩,_⟩:=I.list h'
 rw[e] at e';cases e'
 rw[d] at d'
 injection d' with d1 _
 have:its=its':=by simpa using OO Array.toList d1
 subst this
 exact r.inj r'
def Inv.tuple_inj(I:Inv X pins σ H s)(h:SqT X.K H a xs)(h':SqT X.K H a ys):xs=ys:=by
 obtain⟨its,r,⟨o,e,_,n,d⟩,_⟩:=I.tuple h
 obtain⟨its',r',⟨o',e',_,n',d'⟩,_⟩:=I.tuple h'
 rw[e] at e';cases e'
 rw[d] at d'
 injection d' with d1 _
 have:its=its':=by simpa using OO Array.toList d1
 subst this
 exact r.inj r'
end
section
variable{X:Cx}{pins:Rb}{σ:St}{H:Hp}{s:Shared}{E:Rf}
end
section
variable{X:Cx}{st:Stmt}{fL:List Stmt}{t u:TS}{e:Expr}{te:TE}{pos:Pos}
def M8:TS:=λD σ H=>D.nx σ H
def tSeq(t u:TS):TS:=λD σ H=>t { D with nx:=u D } σ H
def EI:PSs X [] M8:=λ_ _ σ H _ I h=>QL ⟨σ,H,I,h⟩
def AQ(h1:PS X st t)(h2:PSs X fL u):PSs X (st::fL) (tSeq t u):=by
 intro pins s σ H D I h
 refine wpAny_execs_cons (thn (h1 pins s σ H { D with nx:=u D } I h) λf s1 q=>?_)
 cases f with
 |
  next=>
  obtain⟨σ',H',I',q⟩:=q
  exact h2 pins s1 σ' H' D I' q
 |ret v=>exact q
 |brk=>exact q
 |cont=>exact q
def E9(h1:PS X st t):PSs X [st] t:=by
 intro pins s σ H D I h
 refine wpAny_execs_cons (thn (h1 pins s σ H D I h) λf s1 q=>?_)
 cases f with
 |next=>exact QL q
 |ret v=>exact q
 |brk=>exact q
 |cont=>exact q
def Inv.quiet(I:Inv X pins σ H s):interactive X.env=false:=by simp [interactive,I.ok.kind]
def NH(te:TE):TS:=λD σ H=>te σ H λ_ H1=>D.nx σ H1
def EV(he:PE X e te)(hs:swapsWith e none pos.line X.env=pure false):PS X (.Expr e pos) (NH te):=by
 intro pins s σ H D I h
 exact wpAny_Expr_any (thn (he pins s σ H _ I h) λv s1 ⟨x,H1,I1,r1,q1⟩=>⟨σ,H1,I1,q1⟩) I.quiet hs
def tRet(te:TE):TS:=λD σ H=>te σ H D.rt
def Kx(he:PE X e te):PS X (.Return (some e) pos) (tRet te):=by
 intro pins s σ H D I h
 exact wpAny_Return_some (thn (he pins s σ H _ I h) λv s1 ⟨x,H1,I1,r1,q1⟩=>⟨x,σ,H1,I1,r1,q1⟩)
def Oa:TS:=λD _ H=>D.rt .non H
def Gd:PS X (.Return none pos) Oa:=λ_ _ σ H _ I h=>wpAny_Return_none ⟨.non,σ,H,I,rfl,h⟩
def tIfS(c:TT)(t u:TS):TS:=λD σ H=>c σ H λb H1=>if b=true then t D σ H1 else u D σ H1
def Md(hc:PT X c tc)(ha:PSs X a t)(hb:PSs X b u):PS X (.If c a b pos) (tIfS tc t u):=by
 intro pins s σ H D I h
 refine wpAny_If (thn (hc pins s σ H _ I h) λd s1 ⟨H1,I1,q1⟩=>?_)
 cases d with
 |true=>exact ha pins s1 σ H1 D I1 q1
 |false=>exact hb pins s1 σ H1 D I1 q1
end
abbrev TG:=V->St->Hp->(St->Hp->Prop)->Prop
abbrev TGs:=List V->St->Hp->(St->Hp->Prop)->Prop
def PG(X:Cx)(target:Expr)(t:TG):Prop:=
 ∀
  (pins:Rb) (s:Shared) (σ:St) (H:Hp) (v:V) (u:Value) (Q:St->Hp->Prop),Inv X pins σ H s->RelV v u->t v σ H Q->
  wpAny (model X.prog X.w) X.A (assign target X.env u) (λ_ s'=>∃σ' H',Inv X pins σ' H' s'/\Q σ' H') X.xe s
def PGs(X:Cx)(ts:List Expr)(t:TGs):Prop:=
 ∀
  (pins:Rb) (s:Shared) (σ:St) (H:Hp) (vs:List V) (us:List Value) (Q:St->Hp->Prop),Inv X pins σ H s->Vals vs us->t vs σ H Q->
  wpAny (model X.prog X.w) X.A (assignInOrder ((assignEach ts X.env).map (·.2)) us) (λ_ s'=>∃σ' H',Inv X pins σ' H' s'/\Q σ' H') X.xe s
abbrev wG:=V->V->V->Hp->(Hp->Prop)->Prop
def qE(X:Cx)(t:wG):Prop:=
 ∀
  (pins:Rb) (s:Shared) (σ:St) (H:Hp) (o i v:V) (ov iv u:Value) (Q:Hp->Prop),Inv X pins σ H s->RelV o ov->RelV i iv->RelV v u->t o i v H Q->
  wpAny (model X.prog X.w) X.A (setItem ov iv u) (λ_ s'=>∃H',Inv X pins σ H' s'/\Q H') X.xe s
abbrev TIp:=V->V->Hp->VK->Prop
def PIp(X:Cx)(op:Operator)(t:TIp):Prop:=
 ∀
  (pins:Rb) (s:Shared) (σ:St) (H:Hp) (x y:V) (v u:Value) (Q:VK),Inv X pins σ H s->RelV x v->RelV y u->t x y H Q->
  wpAny (model X.prog X.w) X.A (inplaceOp op v u) (EP X pins σ Q) X.xe s
section
variable{X:Cx}{pos:Pos}
def ma(i:Nat):TG:=λv σ H Q=>Q (σ.set i (some v)) H
def ED(hN:X.N.Nodup)(hi:X.N[i]?=some x)(hx:Loc X.env.scope x)(hf:X.fn x=true\/X.env.scope.names.lookup x=some .local):PG X (.Name x pos) (ma i):=by
 intro pins s σ H v u Q I r h
 exact wpAny_assign_Name (gp I hN hi hx r (λs' I'=>⟨_,H,I',h⟩) hf)
def gNil:TGs:=λvs σ H Q=>vs=[]/\Q σ H
def Mm(t:TG)(u:TGs):TGs:=λvs σ H Q=>∃v r,vs=v::r/\t v σ H λσ' H'=>u r σ' H' Q
def DM:PGs X [] gNil:=by
 intro pins s σ H vs us Q I r h
 obtain⟨e,h⟩:=h
 subst e
 cases r
 exact assignInOrder_nil ⟨σ,H,I,h⟩
def Aq(h1:PG X e t)(h2:PGs X es u)
 (hs:(assignEach (e::es) X.env).map (·.2)=assign e X.env::(assignEach es X.env).map (·.2)):PGs X (e::es) (Mm t u):=by
 intro pins s σ H vs us Q I r h
 obtain⟨v,vr,e1,h⟩:=h
 subst e1
 cases r with
 |
  cons r rr=>
  rw[hs]
  refine assignInOrder_cons (thn (h1 pins s σ H _ _ _ I r h) λ_ s1 ⟨σ1,H1,I1,q1⟩=>?_)
  exact h2 pins s1 σ1 H1 _ _ Q I1 rr q1
def gTup(K:W.Frag)(n:Nat)(t:TGs):TG:=λv σ H Q=>∃a xs,v=.ref a/\SqT K H a xs/\xs.length=n/\t xs σ H Q
def zI(hc:X.calm=true)(h:PGs X es t)
 (hn:(assignEach es X.env).length=n) (hst:(assignEach es X.env).findIdx? (·.1)=none):PG X (.Tuple es k pos) (gTup X.K n t):=by
 intro pins s σ H v u Q I r hw
 obtain⟨a,xs,e1,hq,hl,hw⟩:=hw
 subst e1
 cases r
 obtain⟨its,rv,ht,hz⟩:=I.tuple hq
 refine assign_Tuple_tuple (I.ok.hd hc) ht (by simp [hn,<- hl,rv.length]) hst λh' hx=>?_
 have I1:Inv X pins σ H { s with heap:=h' }:=I.kept (t':=s.toks) λb o e=>hx b o (K_ (w_ e)) e
 exact h pins _ σ H xs _ Q I1 (by simpa using rv) hw
def gSub(to ti:TE)(t:wG):TG:=λv σ H Q=>to σ H λo H1=>ti σ H1 λi H2=>t o i v H2 λH3=>Q σ H3
def IW(ho:PE X o to)(hi:PE X i ti)(hs:qE X t)
 (ha:∀v,assign (.Subscript o i pos) X.env v=(do
  let ov <- holding [v] (eval o X.env)
  let iv <- holding [v,ov] (eval i X.env)
  standAt pos
  holding [v,ov,iv] (setItem ov iv v)
  release [v,ov,iv] [])):PG X (.Subscript o i pos) (gSub to ti t):=by
 intro pins s σ H v u Q I r h
 rw[ha]
 refine k_ (OW (thn (ho pins s σ H _ I h) λov s1 ⟨x,H1,I1,r1,q1⟩=>?_))
 refine k_ (OW (thn (hi pins s1 σ H1 _ I1 q1) λiv s2 ⟨y,H2,I2,r2,q2⟩=>?_))
 refine k_ (Qe (k_ (OW (thn (hs pins s2 σ H2 x y v ov iv u _ I2 r1 r2 r q2) λ_ s3 ⟨H3,I3,q3⟩=>?_))))
 exact wpAny_release ⟨σ,H3,I3,q3⟩
def pJ(te:TE)(g:TG):TS:=λD σ H=>te σ H λx H1=>g x σ H1 D.nx
def Gk(he:PE X e te)(hg:PG X tg g)(hs:swapsWithSole [tg] e pos.line X.env=pure false)(hw:swappedStores [tg] e X.env=pure none)
 (h1:(assignEach [tg] X.env).map (·.2)=[assign tg X.env]):PS X (.Assign [tg] e pos) (pJ te g):=by
 intro pins s σ H D I h
 refine wpAny_Assign_stores (thn (he pins s σ H _ I h) λv s1 ⟨x,H1,I1,r1,q1⟩=>?_) hs hw
 rw[h1]
 exact thn (hg pins s1 σ H1 x v _ I1 r1 q1) λ_ s2 q=>q
def JM(hN:X.N.Nodup)(hi:X.N[i]?=some x)(hx:Loc X.env.scope x)(he:PE X e te)(hs:swapsWith e (some (.Name x im)) pos.line X.env=pure false)(hf:X.fn x=true\/X.env.scope.names.lookup x=some .local):
 PS X (.Assign [.Name x im] e pos) (pJ te (ma i)):=by
 intro pins s σ H D I h
 refine wpAny_Assign_Name (thn (he pins s σ H _ I h) λv s1 ⟨y,H1,I1,r1,q1⟩=>?_) hs
 exact gp I1 hN hi hx r1 (λs2 I2=>⟨_,H1,I2,q1⟩) hf
def tPar(i j:Nat)(ta:TA):TS:=λD σ H=>ta σ H λvs H1=>∃v w,vs=[v,w]/\D.nx ((σ.set i (some v)).set j (some w)) H1
def Jp{kt k2 pt2}(hc:X.calm=true)(hN:X.N.Nodup)(hi:X.N[i]?=some x)(hj:X.N[j]?=some y)(hij:i≠j)
 (hx:X.env.scope.names.lookup x=some .local) (hy:X.env.scope.names.lookup y=some .local) (ha:PA X [a,b] ta)
 (hw:swappedStores [.Tuple [.Name x px,.Name y py] kt pt] (.Tuple [a,b] k2 pt2) X.env=pure (some [x,y]))
 (hs:swapsWithSole [.Tuple [.Name x px,.Name y py] kt pt] (.Tuple [a,b] k2 pt2) pos.line X.env=pure false):
 PS X (.Assign [.Tuple [.Name x px,.Name y py] kt pt] (.Tuple [a,b] k2 pt2) pos) (tPar i j ta):=by
 intro pins s σ H D I h
 rw[exec_Assign_arm]
 refine k_ (Qe ?_)
 rw[hs]
 refine k_ (u_ ?_)
 rw[if_neg (by decide)]
 refine k_ (Tuple_ (thn (ha _ pins s σ H _ I h) λus s1 ⟨vs,H1,I1,r1,q1⟩=>?_))
 obtain⟨v,w,e1,q1⟩:=q1
 subst e1
 obtain⟨u1,u2,rfl,rv,rw'⟩:∃u1 u2,us=[u1,u2]/\RelV v u1/\RelV w u2:=by
  cases r1 with
  |
   cons p q=>
   cases q with
   |
    cons p' q'=>
    cases q'
    exact⟨_,_,rfl,p,p'⟩
 refine O6 ?_ (by show 2<=sizeLine;decide)
 have I2:Inv X pins σ H1 { s1 with heap:=s1.heap.push { cls:=.type "tuple",data:=.seq [u1,u2].toArray } }:=I1.kept (t':=s1.toks) λb o e=>n_ _ e
 rw[hw]
 refine k_ (u_ ?_)
 show wpAny (model X.prog X.w) X.A (do rule "assign.swapped-stores";let items <- unpackItems (.ref s1.heap.objs.size) 2 none;assignInOrder [λv=>bindName X.env y v,λv=>bindName X.env x v] items.reverse;pure Flow.next) _ _ _
 refine k_ (wpAny_rule (k_ (unpackItems_tuple (items:=#[u1,u2]) (I.ok.hd hc) (IsTup.new s1.heap _) λh' hx'=>?_)))
 have I3:=I2.kept (h':=h') (t':=s1.toks) λb o e=>hx' b o (K_ (w_ e)) e
 show wpAny _ _ (assignInOrder [λv=>bindName X.env y v,λv=>bindName X.env x v] [u2,u1] >>= λ_=>pure Flow.next) _ _ _
 refine k_ (assignInOrder_cons (wpAny_bindName (gp I3 hN hj (.inl hy) rw' (λs2 I4=>?_) (.inr hy))))
 refine assignInOrder_cons (wpAny_bindName (gp I4 hN hi (.inl hx) rv (λs3 I5=>assignInOrder_nil (u_ ?_)) (.inr hx)))
 rw[List.set_comm _ _ (Ne.symm hij)] at I5
 exact⟨_,H1,I5,q1⟩
def tAug(i:Nat)(te:TE)(ti:TIp):TS:=λD σ H=>∃x,σ[i]?=some (some x)/\te σ H λy H1=>ti x y H1 λz H2=>D.nx (σ.set i (some z)) H2
def JL(hN:X.N.Nodup)(hi:X.N[i]?=some x)(hx:Loc X.env.scope x)(he:PE X e te)(ho:PIp X op ti)(hf:X.fn x=true\/X.env.scope.names.lookup x=some .local):
 PS X (.AugAssign (.Name x im) op e pos) (tAug i te ti):=by
 intro pins s σ H D I h
 obtain⟨v,e1,h⟩:=h
 obtain⟨m,hn,hl⟩:=I.loc
 have vis:Vis X.env.scope x:=by rcases hx with k |k;exact .inl k;exact .inr (.inl k)
 obtain⟨u,r,l⟩:=hl i x v hi e1 vis
 refine wpAny_AugAssign_Name ?_
 have go:wpAny (model X.prog X.w) X.A (eval e X.env) (λw s₂=>wpAny (model X.prog X.w) X.A (inplaceOp op u w) (λr s₃=>wpAny (model X.prog X.w) X.A (storeName X.env x r) (λ_=>SP X pins D .next) X.xe s₃) X.xe s₂) X.xe s:=by
  refine thn (he pins s σ H _ I h) λw s1 ⟨y,H1,I1,r1,q1⟩=>?_
  refine thn (ho pins s1 σ H1 v y u w _ I1 r r1 q1) λz s2 ⟨zv,H2,I2,r2,q2⟩=>?_
  exact gp I2 hN hi hx r2 (λs3 I3=>⟨_,H2,I3,q2⟩) hf
 rcases l with ⟨hk,hm⟩ |⟨hk,c,hc,j_⟩
 ·exact QM I.ok.kind hk hn hm go
 ·rcases hk with hk |hk
  ·exact wpAny_loadName_cell I.ok.kind hk hc j_ go
  ·rcases hx with k |k
   ·have:X.env.scope.names.lookup x=some .free:=hk
    rw[k] at this;cases this
   ·have:X.env.scope.names.lookup x=some .free:=hk
    rw[k] at this;cases this
def ipI(f:Int->Int->Int):TIp:=λx y H Q=>∃i j,x=.int i/\y=.int j/\Q (.int (f i j)) H
def JH:PIp X .Add (ipI λi j=>i+j):=by
 intro pins s σ H x y v u Q I r1 r2 h
 obtain⟨i,j,e1,e2,q⟩:=h
 subst e1;subst e2
 obtain⟨t,rfl⟩:=r1
 obtain⟨t',rfl⟩:=r2
 exact iadd_int ⟨.int _,H,I.tok _,⟨_,rfl⟩,q⟩
end
section
variable{X:Cx}{pos:Pos}
def KY(c:TT)(tb:TS):TS:=λD σ H=>∃W:Nat->St->Hp->Prop,(∃m,W m σ H)/\∀m σ H,W m σ H->
 c σ H λb H1=>if b=true then ∃N:St->Hp->Prop,(∀σ' H',N σ' H'->∃m',m'<m/\W m' σ' H')/\tb { D with nx:=N,ct:=N,bk:=D.nx } σ H1 else D.nx σ H1
def AV(hp:PassesOwn (model X.prog X.w) X.A X.env X.xe)(hc:PT X c tc)(hb:PSs X body tb):PS X (.While c body [] pos) (KY tc tb):=by
 intro pins s σ H D I h
 obtain⟨W,⟨m0,w0⟩,turn⟩:=h
 refine wpAny_While (codeAny_whileLoop (λn s'=>∃σ' H',Inv X pins σ' H' s'/\W n σ' H') ?_ m0 ⟨σ,H,I,w0⟩)
 rintro n s1 ⟨σ1,H1,I1,w1⟩
 refine Px hp (thn (hc pins s1 σ1 H1 _ I1 (turn n σ1 H1 w1)) λb s2 ⟨H2,I2,q2⟩=>?_)
 cases b with
 |
  true=>
  obtain⟨N,hN,q2⟩:=q2
  rw[if_pos rfl]
  refine Px hp (thn (hb pins s2 σ1 H2 _ I2 q2) λf s3 q3=>?_)
  cases f with
  |
   next=>
   obtain⟨σ3,H3,I3,n3⟩:=q3
   obtain⟨m',hm,w3⟩:=hN σ3 H3 n3
   exact⟨m',hm,σ3,H3,I3,w3⟩
  |
   cont=>
   obtain⟨σ3,H3,I3,n3⟩:=q3
   obtain⟨m',hm,w3⟩:=hN σ3 H3 n3
   exact⟨m',hm,σ3,H3,I3,w3⟩
  |brk=>exact q3
  |ret v=>exact q3
 |
  false=>
  rw[if_neg y_]
  exact QL ⟨σ1,H2,I2,q2⟩
end
structure It where
 go:Nat->Hp->Prop
 yld:Nat->Hp->V->Hp->Prop
 stop:Nat->Hp->Prop
def FpOk(X:Cx)(pins:Rb)(H:Hp)(b:Addr):Prop:=
 H b=none/\b≠X.env.locals/\b∉X.fs/\(b∈X.ex\/X.s₀.heap.objs.size<=b)/\(∀x c,X.env.cells.lookup x=some c->c≠b)/\∀p∈X.pn++pins,p.1≠b
def Inv.fpOk(I:Inv X pins σ H s)(hb:s.heap.objs.size<=b)(hn:H' b=none):FpOk X pins H' b:=by
 refine⟨hn,P5 (F_ I.lt hb),I.nofs hb,.inr (E_ I.sz hb),λx c e z=>?_,λp hp z=>?_⟩
 ·obtain⟨v,q⟩:=I.cell x c e
  exact absurd (F_ q.lt (by rw[z];exact hb)) (OV _)
 ·exact absurd (F_ (w_ (I.pin p hp).1) (by rw[z];exact hb)) (OV _)
structure Turn(P:Program)(w:World)(K:W.Frag)(tg:Expr)(J:It)(fp:List Addr)(it:Addr)(tn:Nat->Heap->Prop):Prop where
 mem:it∈fp
 obj:∀i h,tn i h->∀b∈fp,∃o,h.get? b=some o/\∀v,o.data ≠ .cell v
 keep:∀i h h',tn i h->(∀b∈fp,∀o,h.get? b=some o->h'.get? b=some o)->tn i h'
 item:∀(X:Cx),X.prog=P->X.w=w->X.K=K->X.calm=true->∀(i:Nat) (pins:Rb) (s:Shared) (σ:St) (H:Hp) (E:Rf),Inv X pins σ H s->(∀b∈fp,FpOk X pins H b)->tn i s.heap->J.go i H->
  wpAny (model P w) X.A (pyNext (.ref it)) (λr s1=>∃u,r=some u/\
   wpAny (model P w) X.A (letOwnedTupleGo tg (.ref it) u) (λ_ s2=>∃x H',Inv X pins σ H' s2/\RelV x u/\J.yld i H x H'/\tn (i+1) s2.heap/\∀b∈fp,H' b=none) E s1) E s
 done:∀(X:Cx),X.prog=P->X.w=w->X.K=K->X.calm=true->∀(i:Nat) (pins:Rb) (s:Shared) (σ:St) (H:Hp) (E:Rf),Inv X pins σ H s->(∀b∈fp,FpOk X pins H b)->tn i s.heap->J.stop i H->
  wpAny (model P w) X.A (pyNext (.ref it)) (λr s1=>r=none/\Inv X pins σ H s1) E s
 self:∀(A:Around) (i:Nat) (s:Shared) (Q:Rf) (E:Rf),tn i s.heap->Q (.ref it) s->wpAny (model P w) A (pyIter (.ref it)) Q E s
abbrev TI:=St->Hp->(It->Hp->Prop)->Prop
def PIE(X:Cx)(pins:Rb)(σ:St)(tg:Expr)(R:It->Hp->Prop)(itv:Value)(s2:Shared):Prop:=
 ∃(it:Addr) (fp:List Addr) (tn:Nat->Heap->Prop) (J:It) (H':Hp),itv=.ref it/\Inv X pins σ H' s2/\Turn X.prog X.w X.K tg J fp it tn/\tn 0 s2.heap/\(∀b∈fp,FpOk X pins H' b)/\R J H'
def PI(X:Cx)(tg a_:Expr)(wi:TI):Prop:=
 ∀
  (pins:Rb) (s:Shared) (σ:St) (H:Hp) (R:It->Hp->Prop),Inv X pins σ H s->wi σ H R->
  wpAny (model X.prog X.w) X.A (eval a_ X.env) (λv s1=>wpAny (model X.prog X.w) X.A (pyIter v) (PIE X pins σ tg R) X.xe s1) X.xe s
def wb(ho:s.heap.get? it=some o)(hc:o.cls=.type n)(hd:o.data=.fields vs)
 (hn:["enumerate", "zip", "dict_itemiterator", "dict_reverseitemiterator", "odict_iterator", "itertools.zip_longest", "itertools.pairwise"].contains n=false) (hQ:Q () s):wpAny M A (letOwnedTupleGo tg (.ref it) u) Q E s:=by
 unfold letOwnedTupleGo
 cases tg
  <;> first
  |exact u_ hQ
  |(cases u <;> first
   |exact u_ hQ
   |(
    refine k_ (wpAny_load ho ?_)
    rw[hc,hd]
    show wpAny M A (if (["enumerate", "zip", "dict_itemiterator", "dict_reverseitemiterator", "odict_iterator", "itertools.zip_longest", "itertools.pairwise"].contains n&&vs[0]?==some (rawInt _))=true then _ else _) Q E s
    rw[if_neg (by intro h;rw[hn,Bool.false_and] at h;cases h)]
    exact u_ hQ))
def Itl(K:W.Frag)(a:Addr):It:=
 ⟨λi H=>∃xs x,SqL K H a xs/\xs[i]?=some x,λi H x H'=>H'=H/\∀xs,SqL K H a xs->xs[i]?=some x,λi H=>∃xs,SqL K H a xs/\xs.length<=i⟩
def Itt(K:W.Frag)(a:Addr):It:=
 ⟨λi H=>∃xs x,SqT K H a xs/\xs[i]?=some x,λi H x H'=>H'=H/\∀xs,SqT K H a xs->xs[i]?=some x,λi H=>∃xs,SqT K H a xs/\xs.length<=i⟩
def Itr(lo:Int)(n:Nat):It:=⟨λi _=>i<n,λi H x H'=>H'=H/\x=.int (lo+i),λi _=>n<=i⟩
def yL{P:Program}{w:World}{K:W.Frag}{tg:Expr}(a it:Addr):Turn P w K tg (Itl K a) [it] it (λi h=>h.IsListIter it a i) where
 mem:=by simp
 obj:=λi h st b hb=>by
  have e:b=it:=by simpa using hb
  subst e
  obtain⟨o,e,c,d⟩:=st
  exact⟨o,e,λv z=>by rw[d] at z;cases z⟩
 keep:=λi h h' st k=>st.at λo e=>k it (by simp) o e
 item:=by
  intro X hP hw hK hc i pins s σ H E I hf st hg
  subst hP hw hK
  obtain⟨xs,x,hq,hx⟩:=hg
  obtain⟨its,rv,p,hz⟩:=I.list hq
  obtain⟨u,hu,ru⟩:=rv.get hx
  obtain⟨f0,f1,f2,f3,f4,f5⟩:=hf it (by simp)
  refine wpAny_pyNext_list_item st p.isList (x:=u) (by simpa using hu) λh' st' sb=>?_
  have I1:Inv X pins σ H { s with heap:=h' }:=I.turned (t':=s.toks) (λb o hb e=>(sb.2 b hb).trans e) f0 f1 f3 f4 f5
  obtain⟨o,e,c,d⟩:=id st'
  exact⟨u,rfl,wb (s:={ s with heap:=h' }) e c d (by decide) ⟨x,H,I1,ru,⟨rfl,λys hy=>by rw[I.list_inj hy hq];exact hx⟩,st',λb hb=>(hf b hb).1⟩⟩
 done:=by
  intro X hP hw hK hc i pins s σ H E I hf st hg
  subst hP hw hK
  obtain⟨xs,hq,hx⟩:=hg
  obtain⟨its,rv,p,hz⟩:=I.list hq
  obtain⟨f0,f1,f2,f3,f4,f5⟩:=hf it (by simp)
  have hl:=rv.length
  exact wpAny_pyNext_list_end (I.ok.hd hc) st p.isList (by simp;omega) λh' eb=>⟨rfl,I.turned (t':=s.toks) (λb o hb e=>eb b o hb e) f0 f1 f3 f4 f5⟩
 self:=λ_ _ _ _ _ st h=>wpAny_pyIter_listiter st h
def wJ{P:Program}{w:World}{K:W.Frag}{tg:Expr}(a it:Addr):Turn P w K tg (Itt K a) [it] it (λi h=>h.IsTupleIter it a i) where
 mem:=by simp
 obj:=λi h st b hb=>by
  have e:b=it:=by simpa using hb
  subst e
  obtain⟨o,e,c,d⟩:=st
  exact⟨o,e,λv z=>by rw[d] at z;cases z⟩
 keep:=λi h h' st k=>st.at λo e=>k it (by simp) o e
 item:=by
  intro X hP hw hK hc i pins s σ H E I hf st hg
  subst hP hw hK
  obtain⟨xs,x,hq,hx⟩:=hg
  obtain⟨its,rv,p,hz⟩:=I.tuple hq
  obtain⟨u,hu,ru⟩:=rv.get hx
  obtain⟨f0,f1,f2,f3,f4,f5⟩:=hf it (by simp)
  refine wpAny_pyNext_tuple_item st (show s.heap.IsTuple a its.toArray from p) (x:=u) (by simpa using hu) λh' st' sb=>?_
  have I1:Inv X pins σ H { s with heap:=h' }:=I.turned (t':=s.toks) (λb o hb e=>(sb.2 b hb).trans e) f0 f1 f3 f4 f5
  obtain⟨o,e,c,d⟩:=id st'
  exact⟨u,rfl,wb (s:={ s with heap:=h' }) e c d (by decide) ⟨x,H,I1,ru,⟨rfl,λys hy=>by rw[I.tuple_inj hy hq];exact hx⟩,st',λb hb=>(hf b hb).1⟩⟩
 done:=by
  intro X hP hw hK hc i pins s σ H E I hf st hg
  subst hP hw hK
  obtain⟨xs,hq,hx⟩:=hg
  obtain⟨its,rv,p,hz⟩:=I.tuple hq
  obtain⟨f0,f1,f2,f3,f4,f5⟩:=hf it (by simp)
  have hl:=rv.length
  exact wpAny_pyNext_tuple_end (I.ok.hd hc) st (show s.heap.IsTuple a its.toArray from p) (by simp;omega) λh' eb=>⟨rfl,I.turned (t':=s.toks) (λb o hb e=>eb b o hb e) f0 f1 f3 f4 f5⟩
 self:=λ_ _ _ _ _ st h=>wpAny_pyIter_tupleiter st h
def v7{P:Program}{w:World}{K:W.Frag}{tg:Expr}(it:Addr)(lo:Int)(n:Nat):Turn P w K tg (Itr lo n) [it] it (λi h=>IsRangeIter h it (lo+(i:Nat)*1) ((n:Int)-(i:Nat)) 1) where
 mem:=by simp
 obj
  := λi h st b hb=>by
  have e:b=it:=by simpa using hb
  subst e
  exact⟨_,st,λv z=>by
   have z':Data.fields _=Data.cell v:=z
   cases z'⟩
 keep:=λi h h' st k=>k it (by simp) _ st
 item:=by
  intro X hP hw hK hc i pins s σ H E I hf st hg
  subst hP hw hK
  obtain⟨f0,f1,f2,f3,f4,f5⟩:=hf it (by simp)
  have W:=Walks.range (prog:=X.prog) (w:=X.w) (I.ok.hd hc) it lo 1 n
  refine W.item i s _ _ hg st λv h' tk hv st' kk=>?_
  obtain⟨t,rfl⟩:=hv
  have I1:Inv X pins σ H { s with heap:=h',toks:=tk }:=I.turned (λb o hb e=>kk b o (by simpa using hb) e) f0 f1 f3 f4 f5
  refine⟨_,rfl,wb (s:={ s with heap:=h',toks:=tk }) (n:="range_iterator") st' rfl rfl (by decide) ⟨.int (lo+i),H,I1,⟨t,?_⟩,⟨rfl,rfl⟩,st',λb hb=>(hf b hb).1⟩⟩
  rw[Int.mul_one]
 done:=by
  intro X hP hw hK hc i pins s σ H E I hf st hg
  subst hP hw hK
  obtain⟨f0,f1,f2,f3,f4,f5⟩:=hf it (by simp)
  exact wpAny_pyNext_range_end (I.ok.hd hc) st (by have:n<=i:=hg;omega) λh' eb=>⟨rfl,I.turned (t':=s.toks) (λb o hb e=>eb b o hb e) f0 f1 f3 f4 f5⟩
 self:=λ_ _ _ _ _ st h=>wpAny_pyIter_rangeiter st h
section
variable{X:Cx}{tg:Expr}
def sG{pins:Rb}{σ:St}{H:Hp}{s:Shared}{R:It->Hp->Prop}{E:Rf}{lo hi:Int}{t u v:Tok}{tk:Nat}(I:Inv X pins σ H s)(h1:-(2^62)<=lo)(h2:lo<2^62)(h3:-(2^62)<=hi)(h4:hi<2^62)
 (q:R (Itr lo (hi-lo).toNat) H):wpAny (model X.prog X.w) X.A (pyIter (.ref s.heap.objs.size)) (PIE X pins σ tg R) E { s with heap:=s.heap.push { cls:=.type "range",data:=.fields #[.int lo t,.int hi u,.int 1 v] },toks:=tk }:=by
 refine wpAny_pyIter_range (IsRange.new ..) (small_one h1 h2 h3 h4) ?_
 have I1:Inv X pins σ H { s with heap:=s.heap.push { cls:=.type "range",data:=.fields #[.int lo t,.int hi u,.int 1 v] },toks:=tk }:=I.kept λb o e=>n_ _ e
 refine⟨(s.heap.push { cls:=.type "range",data:=.fields #[.int lo t,.int hi u,.int 1 v] }).objs.size,[(s.heap.push { cls:=.type "range",data:=.fields #[.int lo t,.int hi u,.int 1 v] }).objs.size],_,_,H,rfl,
  I1.kept (t':=tk) λb o e=>n_ _ e,v7 _ lo (hi-lo).toNat,?_,λb hb=>?_,q⟩
 ·have e1:lo+((0:Nat):Int)*1=lo:=by simp
  have e2:(((hi-lo).toNat:Nat):Int)-((0:Nat):Int)=Builtin.Range.rangeSize lo hi 1:=by rw[rangeSize_one];split <;> omega
  show IsRangeIter _ _ (lo+((0:Nat):Int)*1) ((((hi-lo).toNat:Nat):Int)-((0:Nat):Int)) 1
  rw[e1,e2]
  exact C_ _ rfl
 ·have e:b=(s.heap.push { cls:=.type "range",data:=.fields #[.int lo t,.int hi u,.int 1 v] }).objs.size:=by simpa using hb
  subst e
  exact I1.fpOk (o_ _) (I1.hok.fresh (o_ _))
def LR(ta:TA):TI:=λσ H R=>ta σ H λvs H1=>∃j:Int,vs=[.int j]/\-(2^62)<=j/\j<2^62/\R (Itr 0 j.toNat) H1
def MQ(ta:TA):TI:=λσ H R=>ta σ H λvs H1=>∃i j:Int,vs=[.int i,.int j]/\(-(2^62)<=i/\i<2^62/\-(2^62)<=j/\j<2^62)/\R (Itr i (j-i).toNat) H1
def yX(hg:Gl X "range")(hm:X.mg "range"=none)(ha:PA X [a] ta)(hs:starEach [a] X.env=[(false,eval a X.env)]):PI X tg (.Call (.Name "range" p) [a] [] pos) (LR ta):=by
 intro pins s σ H R I h
 refine Call_ (eP I hg hm boot_range (O7 (thn (ha pos pins s σ H _ I h) λus s1 ⟨vs,H1,I1,r1,q1⟩=>?_) hs rfl))
 obtain⟨j,e,q1,q2,q⟩:=q1
 subst e
 cases r1 with
 |
  cons r rr=>
  cases rr
  obtain⟨t,rfl⟩:=r
  exact call_range_1 (sG I1 (by omega) (by omega) q1 q2 (by simpa using q))
def y0(hg:Gl X "range")(hm:X.mg "range"=none)(ha:PA X [a,b] ta)(hs:starEach [a,b] X.env=[(false,eval a X.env),(false,eval b X.env)])(hs2:starEach [b] X.env=[(false,eval b X.env)]):
 PI X tg (.Call (.Name "range" p) [a,b] [] pos) (MQ ta):=by
 intro pins s σ H R I h
 refine Call_ (eP I hg hm boot_range (O7 (thn (ha pos pins s σ H _ I h) λus s1 ⟨vs,H1,I1,r1,q1⟩=>?_) (by rw[hs,hs2]) (by rw[hs2];rfl)))
 obtain⟨i,j,e,⟨q1,q2,q3,q4⟩,q⟩:=q1
 subst e
 cases r1 with
 |
  cons r rr=>
  cases rr with
  |
   cons r' rr=>
   cases rr
   obtain⟨t,rfl⟩:=r
   obtain⟨t',rfl⟩:=r'
   exact call_range_2 (sG I1 q1 q2 q3 q4 q)
def tFor(wi:TI)(g:TG)(tb:TS):TS:=λD σ H=>wi σ H λJ H1=>∃W:Nat->Nat->St->Hp->Prop,(∃m,W 0 m σ H1)/\∀i m σ H,W i m σ H->
 (J.stop i H/\D.nx σ H)\/(J.go i H/\∃N:St->Hp->Prop,(∀σ' H',N σ' H'->∃m',m'<m/\W (i+1) m' σ' H')/\∀x H',J.yld i H x H'->g x σ H' λσ2 H2=>tb { D with nx:=N,ct:=N,bk:=D.nx } σ2 H2)
def jB(fp:List Addr)(h:Heap):List (Addr×Obj):=fp.filterMap λb=>(h.get? b).map λo=>(b,o)
def fW(hb:b∈fp)(e:h.get? b=some o):(b,o)∈jB fp h:=List.mem_filterMap.mpr ⟨b,hb,by rw[e];rfl⟩
def xX(hp:p∈jB fp h):p.1∈fp/\h.get? p.1=some p.2:=by
 obtain⟨b,hb,e⟩:=List.mem_filterMap.mp hp
 cases q:h.get? b with
 |none=>rw[q] at e;cases e
 |
  some o=>
  rw[q] at e
  have e':(b,o)=p:=H_ e
  subst e'
  exact⟨hb,q⟩
def Inv.pinned(I:Inv X pins σ H s)(hf:∀b∈fp,FpOk X pins H b)(ho:∀b∈fp,∃o,s.heap.get? b=some o/\∀v,o.data ≠ .cell v):Inv X (pins++jB fp s.heap) σ H s:=
 I.pins_of λp hp=>(Pw.mp hp).elim (λz=>I.pin p (Ow _ z)) λz=>by
  obtain⟨hb,e⟩:=xX z
  obtain⟨f0,f1,f2,_⟩:=hf p.1 hb
  obtain⟨o,e',d⟩:=ho p.1 hb
  rw[e] at e';cases e'
  exact⟨e,f0,f1,f2,d⟩
def Inv.unpinned(I:Inv X (pins++pl) σ H s):Inv X pins σ H s:=I.pins_of λp hp=>I.pin p (Ow _ (QH _ hp))
def KP(hp:PassesOwn (model X.prog X.w) X.A X.env X.xe)(hc:X.calm=true)(hi:PI X tg a_ wi)(hg:PG X tg g)(hb:PSs X body tb)
 (hs:∀x,foldedSetIterable a_ X.env x=pure x):PS X (.For tg a_ body [] pos) (tFor wi g tb):=by
 intro pins s σ H D I h
 refine wpAny_For (thn (hi pins s σ H _ I h) λv s1 h1=>thn h1 λitv s2 h2=>?_) hs
 obtain⟨it,fp,tn,J,H2,e,I2,T,st2,f2,W,⟨m0,w0⟩,turn⟩:=h2
 subst e
 have stat:∀{H':Hp},(∀b∈fp,H' b=none)->∀b∈fp,FpOk X pins H' b:=λhn b hb=>⟨hn b hb,(f2 b hb).2⟩
 refine codeAny_forLoop_any (λn s'=>∃i σ' H',Inv X pins σ' H' s'/\tn i s'.heap/\(∀b∈fp,H' b=none)/\W i n σ' H') ?_ m0 ⟨0,σ,H2,I2,st2,λb hb=>(f2 b hb).1,w0⟩
 rintro n s3 ⟨i,σ3,H3,I3,st3,fr3,w3⟩
 rcases turn i n σ3 H3 w3 with ⟨stop,qn⟩ |⟨go,N,hN,step⟩
 ·refine Px hp (thn (T.done X rfl rfl rfl hc i pins s3 σ3 H3 X.xe I3 (stat fr3) st3 stop) λr s4 ⟨hr,I4⟩=>?_)
  subst hr
  exact QL ⟨σ3,H3,I4,qn⟩
 ·refine Px hp (thn (T.item X rfl rfl rfl hc i pins s3 σ3 H3 X.xe I3 (stat fr3) st3 go) λr s4 ⟨u,hr,h4⟩=>?_)
  subst hr
  refine Px hp (thn h4 λ_ s5 ⟨x,H5,I5,r5,y5,st5,fr5⟩=>?_)
  have I5':=I5.pinned (stat fr5) (T.obj _ _ st5)
  refine Px hp (thn (hg _ s5 σ3 H5 x u _ I5' r5 (step x H5 y5)) λ_ s6 ⟨σ6,H6,I6,q6⟩=>?_)
  refine Px hp (thn (hb _ s6 σ6 H6 _ I6 q6) λf s7 q7=>?_)
  have again:∀{σ7:St}{H7:Hp},Inv X (pins++jB fp s5.heap) σ7 H7 s7->N σ7 H7->∃m,m<n/\∃i σ' H',Inv X pins σ' H' s7/\tn i s7.heap/\(∀b∈fp,H' b=none)/\W i m σ' H':=λ{σ7 H7} I7 n7=>by
   obtain⟨m',hm,w7⟩:=hN σ7 H7 n7
   refine⟨m',hm,i+1,σ7,H7,I7.unpinned,T.keep _ _ _ st5 λb hb o e=>(I7.pin (b,o) (Ow _ (Ow _ (fW hb e)))).1,λb hb=>?_,w7⟩
   obtain⟨o,e,d⟩:=T.obj _ _ st5 b hb
   exact (I7.pin (b,o) (Ow _ (Ow _ (fW hb e)))).2.1
  cases f with
  |next=>obtain⟨σ7,H7,I7,n7⟩:=q7;exact again I7 n7
  |cont=>obtain⟨σ7,H7,I7,n7⟩:=q7;exact again I7 n7
  |brk=>obtain⟨σ7,H7,I7,q7⟩:=q7;exact⟨σ7,H7,I7.unpinned,q7⟩
  |ret v=>obtain⟨x7,σ7,H7,I7,r7,q7⟩:=q7;exact⟨x7,σ7,H7,I7.unpinned,r7,q7⟩
end
abbrev R2:=V->V->Hp->VK->Prop
def OpR(X:Cx)(f:Value->Value->Sem Value)(r:R2):Prop:=
 ∀
  (pins:Rb) (s:Shared) (σ:St) (H:Hp) (x y:V) (v u:Value) (Q:VK),Inv X pins σ H s->RelV x v->RelV y u->r x y H Q->
  wpAny (model X.prog X.w) X.A (f v u) (EP X pins σ Q) X.xe s
def UnR(X:Cx)(f:Value->Sem Value)(r:V->Hp->VK->Prop):Prop:=
 ∀
  (pins:Rb) (s:Shared) (σ:St) (H:Hp) (x:V) (v:Value) (Q:VK),Inv X pins σ H s->RelV x v->r x H Q->
  wpAny (model X.prog X.w) X.A (f v) (EP X pins σ Q) X.xe s
def CallR(X:Cx)(f:Value)(r:List V->Hp->VK->Prop):Prop:=
 ∀
  (pins:Rb) (s:Shared) (σ:St) (H:Hp) (xs:List V) (us:List Value) (Q:VK),Inv X pins σ H s->Vals xs us->r xs H Q->
  wpAny (model X.prog X.w) X.A (call f us) (EP X pins σ Q) X.xe s
def TruR(X:Cx)(r:V->Hp->(Bool->Hp->Prop)->Prop):Prop:=
 ∀
  (pins:Rb) (s:Shared) (σ:St) (H:Hp) (x:V) (v:Value) (Q:Bool->Hp->Prop),Inv X pins σ H s->RelV x v->r x H Q->
  wpAny (model X.prog X.w) X.A (truthy v) (TP X pins σ Q) X.xe s
def tOp(r:R2)(ta tb:TE):TE:=λσ H Q=>ta σ H λx H1=>tb σ H1 λy H2=>r x y H2 Q
def tUn(r:V->Hp->VK->Prop)(ta:TE):TE:=λσ H Q=>ta σ H λx H1=>r x H1 Q
def rI(C:Int->Int->Prop)(g:Int->Int->V):R2:=λx y H Q=>∃i j,x=.int i/\y=.int j/\C i j/\Q (g i j) H
def rI0(g:Int->Int->V):R2:=λx y H Q=>∃i j,x=.int i/\y=.int j/\Q (g i j) H
def rU(g:Int->V):V->Hp->VK->Prop:=λx H Q=>∃i,x=.int i/\Q (g i) H
section
variable{X:Cx}{a b c:Expr}{ta tb tc:TE}{pos:Pos}
def B0(ha:PE X a ta)(hb:PE X b tb){pins:Rb}{s:Shared}{σ:St}{H:Hp}{R:V->V->Hp->Prop}(I:Inv X pins σ H s)
 (h:ta σ H λx H1=>tb σ H1 λy H2=>R x y H2) {Q:Rf}{f:Value->Value->Sem Value}
 (hf:∀v u s2 x y H2,Inv X pins σ H2 s2->RelV x v->RelV y u->R x y H2->wpAny (model X.prog X.w) X.A (f v u) Q X.xe s2):
 wpAny (model X.prog X.w) X.A (eval a X.env) (λv s₁=>wpAny (model X.prog X.w) X.A (eval b X.env) (λu s₂=>wpAny (model X.prog X.w) X.A (f v u) Q X.xe s₂) X.xe s₁) X.xe s:=by
 refine thn (ha pins s σ H _ I h) λv s1 ⟨x,H1,I1,r1,q1⟩=>?_
 refine thn (hb pins s1 σ H1 _ I1 q1) λu s2 ⟨y,H2,I2,r2,q2⟩=>?_
 exact hf v u s2 x y H2 I2 r1 r2 q2
def MZ(ho:OpR X (binaryOp op) r)(ha:PE X a ta)(hb:PE X b tb):PE X (.BinOp a op b pos) (tOp r ta tb):=by
 intro pins s σ H Q I h
 exact wpAny_BinOp (B0 ha hb I h λv u s2 x y H2 I2 rx ry q=>ho pins s2 σ H2 x y v u Q I2 rx ry q)
def Lv(ho:UnR X (unaryOp op) r)(ha:PE X a ta):PE X (.UnaryOp op a pos) (tUn r ta):=by
 intro pins s σ H Q I h
 exact UnaryOp_ (thn (ha pins s σ H _ I h) λv s1 ⟨x,H1,I1,r1,q1⟩=>ho pins s1 σ H1 x v Q I1 r1 q1)
def opI{f:Value->Value->Sem Value}{C:Int->Int->Prop}{g:Int->Int->Int}
 (rule:∀(i j:Int) (t u:Tok) (s:Shared) (Q:Rf) (E:Rf),C i j->Q (.int (g i j) s.toks) { s with toks:=s.toks+1 }->wpAny (model X.prog X.w) X.A (f (.int i t) (.int j u)) Q E s):
 OpR X f (rI C λi j=>.int (g i j)):=by
 intro pins s σ H x y v u Q I rx ry h
 obtain⟨i,j,rfl,rfl,hc,q⟩:=h
 obtain⟨t,rfl⟩:=rx
 obtain⟨t',rfl⟩:=ry
 exact rule i j t t' s _ _ hc ⟨.int (g i j),H,I.tok _,⟨_,rfl⟩,q⟩
def opI0{f:Value->Value->Sem Value}{g:Int->Int->Int}
 (rule:∀(i j:Int) (t u:Tok) (s:Shared) (Q:Rf) (E:Rf),Q (.int (g i j) s.toks) { s with toks:=s.toks+1 }->wpAny (model X.prog X.w) X.A (f (.int i t) (.int j u)) Q E s):
 OpR X f (rI0 λi j=>.int (g i j)):=by
 intro pins s σ H x y v u Q I rx ry h
 obtain⟨i,j,rfl,rfl,q⟩:=h
 obtain⟨t,rfl⟩:=rx
 obtain⟨t',rfl⟩:=ry
 exact rule i j t t' s _ _ ⟨.int (g i j),H,I.tok _,⟨_,rfl⟩,q⟩
def Cq{f:Value->Value->Sem Value}{g:Int->Int->Bool}
 (rule:∀(i j:Int) (t u:Tok) (s:Shared) (Q:Rf) (E:Rf),Q (.bool (g i j)) s->wpAny (model X.prog X.w) X.A (f (.int i t) (.int j u)) Q E s):
 OpR X f (rI0 λi j=>.bl (g i j)):=by
 intro pins s σ H x y v u Q I rx ry h
 obtain⟨i,j,rfl,rfl,q⟩:=h
 obtain⟨t,rfl⟩:=rx
 obtain⟨t',rfl⟩:=ry
 exact rule i j t t' s _ _ ⟨.bl (g i j),H,I,rfl,q⟩
def fK(i j:Int):Prop:=0<=j/\j<=1000000/\i.natAbs<2^64
def CMul(i j:Int):Prop:=(-(2^64)<i/\i<2^64)\/(-(2^64)<j/\j<2^64)
def CMul.ok(h:CMul i j):IntMulOk i j:=by
 rcases h with ⟨h1,h2⟩ |⟨h1,h2⟩
 ·exact .of_left (intBits_le_64 h1 h2)
 ·exact .of_right (intBits_le_64 h1 h2)
def Iq:OpR X (binaryOp .Add) (rI0 λi j=>.int (i+j)):=opI0 λ_ _ _ _ _ _ _ q=>add_int q
def IX:OpR X (binaryOp .Sub) (rI0 λi j=>.int (i-j)):=opI0 λ_ _ _ _ _ _ _ q=>sub_int q
def KR:OpR X (binaryOp .Mult) (rI CMul λi j=>.int (i*j)):=opI λ_ _ _ _ _ _ _ hc q=>mul_int q hc.ok
def FJ:OpR X (binaryOp .Mod) (rI (λ_ j=>j≠0) λi j=>.int (i.fmod j)):=opI λ_ _ _ _ _ _ _ hc q=>mod_int' hc q
def Kl:OpR X (binaryOp .Pow) (rI fK λi j=>.int (i^j.toNat)):=opI λ_ _ _ _ _ _ _ hc q=>pow_int_small hc.1 hc.2.1 hc.2.2 q
def Hi:OpR X (binaryOp .LShift) (rI fK λi j=>.int (i*2^j.toNat)):=opI λ_ _ _ _ _ _ _ hc q=>lshift_int_small hc.1 hc.2.1 hc.2.2 q
def unI{f:Value->Sem Value}{g:Int->Int}
 (rule:∀(i:Int) (t:Tok) (s:Shared) (Q:Rf) (E:Rf),Q (.int (g i) s.toks) { s with toks:=s.toks+1 }->wpAny (model X.prog X.w) X.A (f (.int i t)) Q E s):
 UnR X f (rU λi=>.int (g i)):=by
 intro pins s σ H x v Q I rx h
 obtain⟨i,rfl,q⟩:=h
 obtain⟨t,rfl⟩:=rx
 exact rule i t s _ _ ⟨.int (g i),H,I.tok _,⟨_,rfl⟩,q⟩
def K8:UnR X (unaryOp .USub) (rU λi=>.int (-i)):=unI λ_ _ _ _ _ q=>neg_int q
end
section
variable{X:Cx}{a b c:Expr}{ta tb tc:TE}{pos:Pos}
def zi(I:Inv X pins σ H s)(q:Q (.bl k) H)(e:k=k'):EP X pins σ Q (.bool k') s:=by
 subst e
 exact⟨.bl k,H,I,rfl,q⟩
def C7:OpR X (compareOp .Lt) (rI0 λi j=>.bl (decide (i<j))):=Cq λ_ _ _ _ _ _ _ q=>lt_int q
def Dh:OpR X (compareOp .Gt) (rI0 λi j=>.bl (decide (j<i))):=Cq λ_ _ _ _ _ _ _ q=>gt_int q
def Di:OpR X (compareOp .GtE) (rI0 λi j=>.bl (decide (j<=i))):=Cq λ_ _ _ _ _ _ _ q=>ge_int q
def OpR.or(h:OpR X f r)(h':OpR X f r'):OpR X f (λx y H Q=>r x y H Q\/r' x y H Q):=by
 intro pins s σ H x y v u Q I rx ry q
 rcases q with q |q
 ·exact h pins s σ H x y v u Q I rx ry q
 ·exact h' pins s σ H x y v u Q I rx ry q
def zm(b:Expr)(h:op ≠ .In:=by decide)(h2:op ≠ .NotIn:=by decide):behindInMarks op b=false:=by
 have e1:(op==CmpOp.In)=false:=by cases op <;> first |rfl |exact absurd rfl h
 have e2:(op==CmpOp.NotIn)=false:=by cases op <;> first |rfl |exact absurd rfl h2
 cases b <;> simp [behindInMarks,e1,e2]
def Ee(ho:OpR X (compareOp op) r)(ha:PE X a ta)(hb:PE X b tb)(hm:behindInMarks op b=false):PE X (.Compare a [op] [b] pos) (tOp r ta tb):=by
 intro pins s σ H Q I h
 exact wpAny_Compare1 (B0 ha hb I h λv u s2 x y H2 I2 rx ry q=>ho pins s2 σ H2 x y v u Q I2 rx ry q) hm
def MX(t:TE):TT:=λσ H Q=>t σ H λx H'=>∃k,x=.bl k/\Q k H'
def EK(ho:OpR X (compareOp op) r)(ha:PE X a ta)(hb:PE X b tb)(hm:behindInMarks op b=false):PT X (.Compare a [op] [b] pos) (MX (tOp r ta tb)):=by
 intro pins s σ H Q I h
 refine wpAny_isTrue_Compare1 (thn (ha pins s σ H _ I h) λv s1 ⟨x,H1,I1,r1,q1⟩=>thn (hb pins s1 σ H1 _ I1 q1) λu s2 ⟨y,H2,I2,r2,q2⟩=>
  thn (ho pins s2 σ H2 x y v u _ I2 r1 r2 q2) λc s3 ⟨z,H3,I3,r3,k,e,q3⟩=>?_) hm
 subst e
 cases r3
 exact PD ⟨H3,I3,q3⟩
def BB(K:W.Frag)(x:V)(H:Hp)(k:Bool):Prop:=
 match x with
 |.non=>k=false
 |.bl b=>k=b
 |.int i=>k=(i != 0)
 |.str y=>y.length<=sizeLine/\k=((y.length:Int) != 0)
 |.byt y=>y.size<=sizeLine/\k=((y.size:Int) != 0)
 |.ref p=>(∃xs,SqL K H p xs/\k=!xs.isEmpty)\/(∃xs,SqT K H p xs/\k=!xs.isEmpty)\/∃kvs,H p=some (.dK kvs)/\k=!kvs.isEmpty
 |_=>False
def vM(r:KV kvs vs):(!vs.isEmpty)=!kvs.isEmpty:=by
 cases r <;> rfl
def mK(r:Vals xs its):(!its.toArray.isEmpty)=!xs.isEmpty:=by
 cases r <;> simp
def gf:(sizeLine:Nat)<2^63:=by rw[sizeLine_eq];decide
def Ib:TruR X (λx H Q=>∃k,BB X.K x H k/\Q k H):=by
 intro pins s σ H x v Q I rx h
 obtain⟨k,e,q⟩:=h
 have hl:=gf
 have hs:sizeLine=16777216:=sizeLine_eq
 cases x with
 |
  non=>
  cases rx
  have e':k=false:=e
  subst e'
  exact truthy_none ⟨H,I,q⟩
 |
  bl b=>
  cases rx
  have e':k=b:=e
  subst e'
  exact PD ⟨H,I,q⟩
 |
  int i=>
  obtain⟨t,rfl⟩:=rx
  have e':k=(i != 0):=e
  subst e'
  exact PySem.P.truthy_int ⟨H,I,q⟩
 |
  str y=>
  obtain⟨t,rfl⟩:=rx
  obtain⟨hy,e'⟩:y.length<=sizeLine/\k=((y.length:Int) != 0):=e
  subst e'
  exact PySem.P.truthy_str (by omega) ⟨H,I.tok _,q⟩
 |
  byt y=>
  obtain⟨t,rfl⟩:=rx
  obtain⟨hy,e'⟩:y.size<=sizeLine/\k=((y.size:Int) != 0):=e
  subst e'
  exact W.truthy_bytes (by omega) ⟨H,I.tok _,q⟩
 |
  ref p=>
  cases rx
  have e':(∃xs,SqL X.K H p xs/\k=!xs.isEmpty)\/(∃xs,SqT X.K H p xs/\k=!xs.isEmpty)\/∃kvs,H p=some (.dK kvs)/\k=!kvs.isEmpty:=e
  rcases e' with ⟨xs,hx,e'⟩ |⟨xs,hx,e'⟩ |⟨kvs,hx,e'⟩
  ·subst e'
   obtain⟨its,r,pl,hz⟩:=I.list hx
   have be:=r.length
   exact wpAny_truthy_list pl.isList (by simp only[t_];omega) ⟨H,I.tok _,by rw[mK r];exact q⟩
  ·subst e'
   obtain⟨its,r,pl,hz⟩:=I.tuple hx
   have be:=r.length
   exact truthy_tuple pl (by simp only[t_];omega) ⟨H,I.tok _,by rw[mK r];exact q⟩
  ·subst e'
   obtain⟨hz,hS,vs,r,m⟩:kvs.length<=sizeLine/\(p==sysModules)=false/\∃vs,KV kvs vs/\s.heap.DictOf (bK X.prog X.w) p vs:=I.hok p _ hx
   have be:kvs.length=vs.length:=QQ r
   exact wpAny_truthy_dict hS m (by omega) ⟨H,I.tok _,by rw[vM r];exact q⟩
 |_=>exact (show False from e).elim
def BU(ha:PE X a ta)(he:∀c_,isTrue a X.env c_=(do let v <- c_;standAt a.pos;holding [v] (truthy v))):
 PT X a (λσ H Q=>ta σ H λx H'=>∃k,BB X.K x H' k/\Q k H'):=by
 intro pins s σ H Q I h
 exact isTrue_plain (thn (ha pins s σ H _ I h) λv s1 ⟨x,H1,I1,r1,q1⟩=>Ib pins s1 σ H1 x v Q I1 r1 q1) (he _)
def d4(r:Vals [x] us):∃u,us=[u]/\RelV x u:=by
 cases r with
 |cons r1 r2=>cases r2;exact⟨_,rfl,r1⟩
def pC(r:Vals [x,y] us):∃u w',us=[u,w']/\RelV x u/\RelV y w':=by
 cases r with
 |
  cons r1 r2=>
  cases r2 with
  |cons r3 r4=>cases r4;exact⟨_,_,rfl,r1,r3⟩
def zW:CallR X (.builtin "abs") (λxs H Q=>∃i,xs=[.int i]/\Q (.int (if i<0 then -i else i)) H):=by
 intro pins s σ H xs us Q I r h
 obtain⟨i,rfl,q⟩:=h
 obtain⟨u,rfl,t,rfl⟩:=d4 r
 exact call_abs_int λu tk=>⟨.int (if i<0 then -i else i),H,I.tok _,⟨_,rfl⟩,q⟩
def xu(hc:X.calm=true):CallR X (.builtin "max") (λxs H Q=>∃i j,xs=[.int i,.int j]/\Q (.int (if j>i then j else i)) H):=by
 intro pins s σ H xs us Q I r h
 obtain⟨i,j,rfl,q⟩:=h
 obtain⟨u,w',rfl,⟨t,rfl⟩,⟨t',rfl⟩⟩:=pC r
 refine max_two_ints (I.ok.hd hc) λh' tk k=>⟨_,H,I.kept k,?_,q⟩
 by_cases hj:j>i
 ·rw[if_pos hj,if_pos hj];exact⟨_,rfl⟩
 ·rw[if_neg hj,if_neg hj];exact⟨_,rfl⟩
def zp(hc:X.calm=true):CallR X (.builtin "min") (λxs H Q=>∃i j,xs=[.int i,.int j]/\Q (.int (if j<i then j else i)) H):=by
 intro pins s σ H xs us Q I r h
 obtain⟨i,j,rfl,q⟩:=h
 obtain⟨u,w',rfl,⟨t,rfl⟩,⟨t',rfl⟩⟩:=pC r
 refine min_two_ints (I.ok.hd hc) λh' tk k=>⟨_,H,I.kept k,?_,q⟩
 by_cases hj:j<i
 ·rw[if_pos hj,if_pos hj];exact⟨_,rfl⟩
 ·rw[if_neg hj,if_neg hj];exact⟨_,rfl⟩
def xI:CallR X (.type "int") (λxs H Q=>(∃i,xs=[.int i]/\Q (.int i) H)\/∃k,xs=[.bl k]/\Q (.int (if k then 1 else 0)) H):=by
 intro pins s σ H xs us Q I r h
 rcases h with ⟨i,rfl,q⟩ |⟨k,rfl,q⟩
 ·obtain⟨u,rfl,t,rfl⟩:=d4 r
  exact call_int_int ⟨.int i,H,I,⟨_,rfl⟩,q⟩
 ·obtain⟨u,rfl,r1⟩:=d4 r
  cases r1
  exact call_int_bool ⟨.int (if k then 1 else 0),H,I.tok _,⟨_,rfl⟩,q⟩
end
structure ObjM(h:Heap)(x dx C:Addr)(mA:Ra):Prop where
 obj:h.get? x=some (W.instObj C dx)
 ns:h.Ns1 dx mA
 ne:dx≠x
def yS{h:Heap}{dx:Addr}{mA:Ra}(n:h.Ns1 dx mA):∃od,h.get? dx=some od/\∀name,W.lookIn name od=some (mA name):=by
 obtain⟨o,es,ep,ho,hd,hk,_,hm⟩:=n
 refine⟨o,ho,λname=>?_⟩
 have e:=hm name
 unfold nsFind findBy at e
 rw[<- Array.find?_toList] at e
 unfold W.lookIn
 rw[hd]
 dsimp only
 split
 ·rename_i y q
  rw[q] at e
  exact OO some e
 ·rename_i q
  rw[q] at e
  have a:es.toList.any (·.refKey)=false:=by
   rw[List.any_eq_false]
   intro y hy
   obtain⟨z,t,hkey⟩:=hk y (Array.mem_toList_iff.mp hy)
   simp [DictEntry.refKey,hkey]
  have a':¬ es.toList.any (·.refKey)=true:=by rw[a];exact y_
  rw[if_neg a']
  exact OO some e
def ObjM.look(I:ObjM h x dx C mA):∃od,W.InstAt h x (W.instObj C dx) C (some od)/\∀name,W.lookIn name od=some (mA name):=
 let ⟨od,ho,hl⟩:=yS I.ns
 ⟨od,⟨I.obj,rfl,rfl,ho⟩,hl⟩
section
variable{prog:Program}{w:World}{A:Around}{E:Rf}{s:Shared}{K:W.Frag}{x dx C f:Addr}{mA:Ra}{name:Str}{v:Value}
end
def RelO.some_of(r:RelO (some v) o):∃u,o=some u/\RelV v u:=by
 cases o with
 |none=>exact (show False from r).elim
 |some u=>exact⟨u,rfl,r⟩
section
variable{P:Program}{w:World}{H H':Hp}{h h':Heap}{a C dx:Addr}{fs fs':List (Str×V)}
def Ei(hok:HOk P w H h)(e:H a=some (.ins C dx fs)):∃mA,ObjM h a dx C mA/\(∀f,RelO (fs.lookup f) (mA f))/\PySem.Within mA (fs.map (·.1))/\fs.length<=1000/\H dx=some (.own a):=by
 obtain⟨d,z,ne,ob,mA,n,r,q⟩:=(show ObjOk P w H h a (.ins C dx fs) from hok a _ e)
 exact⟨mA,⟨ob,n,ne⟩,r,q,z,d⟩
end
structure Cls(K:W.Frag)(C:Addr):Prop where
 pg:W.plainGet K C Str.empty=true
 hd:W.hasDictIn K C=true
 po:W.plainOver K C=true
 sa:W.findIn K (.ref C) "__setattr__"=some (some (.builtin "object.__setattr__"))
def Cls.get{K:W.Frag}{C:Addr}(c:Cls K C)(f:Str):W.plainGet K C f=true:=c.pg
section
variable{X:Cx}{pins:Rb}{σ:St}{H:Hp}{s:Shared}{a C dx:Addr}{fs:List (Str×V)}{f:Str}{v:V}{A:Around}{E:Rf}
end
section
variable{X:Cx}{o e value:Expr}{f:Str}{pos im tpos:Pos}{ta tv:TE}
end
section
variable{X:Cx}{pins:Rb}{σ:St}{H:Hp}{s:Shared}{A:Around}{E:Rf}{Q:Rf}{c:Value}{b:Bool}
inductive TyOf(K:W.Frag)(H:Hp):V->Value->Prop where
 |non:TyOf K H .non (.type "NoneType")
 |bl (x:Bool):TyOf K H (.bl x) (.type "bool")
 |int (i:Int):TyOf K H (.int i) (.type "int")
 |str (x:Str):TyOf K H (.str x) (.type "str")
 |flt (x:UInt64):TyOf K H (.flt x) (.type "float")
 |lst {a:Addr}{xs:List V} (e:H a=some (.lst xs)):TyOf K H (.ref a) (.type "list")
 |frz {a:Addr}{o:Obj}{xs:List V} (e:H a=some (.frz o (.lst xs))):TyOf K H (.ref a) (.type "list")
 |tup {a:Addr}{xs:List V} (e:H a=some (.tup xs)):TyOf K H (.ref a) (.type "tuple")
 |dK {a:Addr}{kvs:List (Key×V)} (e:H a=some (.dK kvs)):TyOf K H (.ref a) (.type "dict")
 |dT {a:Addr}{kvs:List (List Key×V)} (e:H a=some (.dT kvs)):TyOf K H (.ref a) (.type "dict")
 |ins {a C dx:Addr}{fs:List (Str×V)} (e:H a=some (.ins C dx fs)) (cl:Cls K C) (ha:W.findIn K (.ref C) "__class__"=some (some (.builtin "object.__class__")))
  (hn:W.specialIn K (.builtin "object.__class__") "__get__"=some (some (.builtin "getset_descriptor.__get__"))) (htk:W.takesIn K (.builtin "object.__class__")=some true)
  (hm:W.mroIn K C (.type "object")=some true):TyOf K H (.ref a) (.ref C)
end
structure Room(k:Nat)(A:Around):Prop where
 hd:A.handled=none
 dp:A.depth+3*k+5<recursionLimit
 un:A.units+16*k+200<cLine
def Room.mono(r:Room k A)(h:j<=k):Room j A:=⟨r.hd,by have:=r.dp;omega,by have:=r.un;omega⟩
def Room.deeper(r:Room (k+1) A)(env:Env):Room k (A.deeper env):=
 ⟨r.hd,by have:=r.dp;show A.depth+1+3*k+5<_;omega,by have:=r.un;show A.units+3+16*k+200<_;omega⟩
def Room.depth(r:Room k A):A.depth<recursionLimit:=by have:=r.dp;omega
def Room.units(r:Room k A):A.units+64<cLine:=by have:=r.un;omega
def tNil:TA:=λ_ H Q=>Q [] H
def LW(ta:TE)(tr:TA):TA:=λσ H Q=>ta σ H λx H1=>tr σ H1 λxs H2=>Q (x::xs) H2
section
variable{X:Cx}{e:Expr}{es:List Expr}{te:TE}{t:TA}{pos:Pos}
def GA:PA X [] tNil:=λ_ _ _ _ H Q I h=>Calls.spliced_nil ⟨[],H,I,.nil,h⟩
def DN(ha:PE X e te)(hr:PA X es t)(hs:starEach (e::es) X.env=(false,eval e X.env)::starEach es X.env):PA X (e::es) (LW te t):=by
 intro pos pins s σ H Q I h
 rw[hs]
 show wpAny _ _ (spliced ((false,eval e X.env)::backTo pos (starEach es X.env))) _ _ s
 refine Qj (thn (ha pins s σ H _ I h) λu s1 ⟨x,H1,I1,r1,q1⟩=>?_)
 exact thn (hr pos pins s1 σ H1 _ I1 q1) λus s2 ⟨xs,H2,I2,r2,q2⟩=>⟨x::xs,H2,I2,.cons r1 r2,q2⟩
def tTup(t:TA):TE:=λσ H Q=>t σ H λxs H1=>xs.length<=sizeLine/\∀p,H1 p=none->Q (.ref p) (upd H1 p (.tup xs))
def tLst(t:TA):TE:=λσ H Q=>t σ H λxs H1=>xs.length<=sizeLine/\∀p,H1 p=none->Q (.ref p) (upd H1 p (.lst xs))
def HA{x1}(h:PA X es t):PE X (.Tuple es x1 pos) (tTup t):=by
 intro pins s σ H Q I hq
 refine wpAny_Tuple_spliced (thn (h pos pins s σ H _ I hq) λus s1 ⟨xs,H1,I1,r,z,q⟩=>⟨by rw[<- r.length];exact z,?_⟩)
 have hf:H1 s1.heap.objs.size=none:=I1.hok.fresh (o_ _)
 refine⟨.ref s1.heap.objs.size,upd H1 s1.heap.objs.size (.tup xs),I1.laid (t':=s1.toks) (λb u e=>n_ _ e) (o_ _) ?_,rfl,q _ hf⟩
 exact⟨z,us,r,⟨_,C_ _ rfl,rfl,_,rfl⟩⟩
def K1(h:PA X es t):PE X (.List es pos) (tLst t):=by
 intro pins s σ H Q I hq
 refine wpAny_List_spliced (thn (h pos pins s σ H _ I hq) λus s1 ⟨xs,H1,I1,r,z,q⟩=>⟨by rw[<- r.length];exact z,?_⟩)
 have hf:H1 s1.heap.objs.size=none:=I1.hok.fresh (o_ _)
 refine⟨.ref s1.heap.objs.size,upd H1 s1.heap.objs.size (.lst xs),I1.laid (t':=s1.toks) (λb u e=>n_ _ e) (o_ _) ?_,rfl,q _ hf⟩
 exact⟨z,us,0,r,C_ _ rfl⟩
end
abbrev Sp:=List V->Hp->VK->XK->Prop
abbrev CXT:=List Env->Hp->Shared->XK->Value->Shared->Prop
structure Env0(P:Program)(w:World)(K:W.Frag)(mg:Ra)(base:Heap)(A:Around)(outer:List Env)(s:Shared)(H:Hp):Prop where
 frames:A.frames=some outer
 mod:Mod K mg base
 bs:∀b o,base.get? b=some o->s.heap.get? b=some o/\H b=none
 bsz:base.objs.size<=s.heap.objs.size
 funs:s.heap.FunFrames base outer
 frf:∀b∈frs outer,H b=none
 hok:HOk P w H s.heap
 bare:AllBare s.gens
def CE(outer:List Env)(P:Program)(w:World)(H:Hp)(s:Shared)(Q:VK)(u:Value)(s':Shared):Prop:=
 ∃v H',s'.os=s.os/\AllBare s'.gens/\Un (frs outer) [] H H' s.heap s'.heap/\HOk P w H' s'.heap/\RelV v u/\Q v H'
def CR(CX:CXT)(outer:List Env)(P:Program)(w:World)(H:Hp)(s:Shared)(Q:VK)(E:XK)(r:Result)(s':Shared):Prop:=
 match r with
 |.ok (.ret u)=>CE outer P w H s Q u s'
 |.ok _=>False
 |.error e=>CX outer H s E e s'
structure FnOk(P:Program)(w:World)(K:W.Frag)(mg:Ra)(base:Heap)(CX:CXT)(k:Nat)(f:Addr)(fd:FuncData)(ps:List Str)(sp:Sp):Prop where
 len:∀vs H Q E,sp vs H Q E->vs.length=ps.length
 run:∀(A:Around) (outer:List Env) (s:Shared) (H:Hp) (args:Args) (us:List Value) (vs:List V) (Q:VK) (E:XK),Room k A->Env0 P w K mg base A outer s H->BindsTo s fd args (ps.zip us)->Vals vs us->sp vs H Q E->
  codeAny (model P w) A (.call (.ref f) args) (CR CX outer P w H s Q E) s
def FnOk.imp{P:Program}{w:World}{K:W.Frag}{mg:Ra}{base:Heap}{CX:CXT}{k:Nat}{f:Addr}{fd:FuncData}{ps:List Str}{sp sp':Sp}(F:FnOk P w K mg base CX k f fd ps sp)
 (h:∀vs H Q E,sp' vs H Q E->sp vs H Q E):FnOk P w K mg base CX k f fd ps sp':=
 ⟨λvs H Q E q=>F.len vs H Q E (h _ _ _ _ q),λA outer s H args us vs Q E hr he hb hv hs=>F.run A outer s H args us vs Q E hr he hb hv (h _ _ _ _ hs)⟩
section
variable{X:Cx}{pins:Rb}{σ:St}{H:Hp}{s s':Shared}
def Inv.env0(I:Inv X pins σ H s):Env0 X.prog X.w X.K X.mg X.base X.A X.stack s H:=
 ⟨I.ok.frames,I.ok.mod,I.bs,E_ I.ok.bsz I.sz,I.stack,I.stkFree,I.hok,I.bare⟩
def Inv.after(I:Inv X pins σ H s)(h:CE X.stack X.prog X.w H s Q u s'):EP X pins σ Q u s':=by
 obtain⟨v,H',os,bare,un,hok,r,q⟩:=h
 obtain⟨hh,g,d,t,os'⟩:=s'
 obtain rfl:os'=s.os:=os
 exact⟨v,H',I.call (h':=hh) (g':=g) (d':=d) (t':=t) (ch:=[]) un hok bare (λb z=>absurd z (by simp)),r,q⟩
end
def Binds(K:W.Frag)(fd:FuncData)(ps:List Str)(ds:List Value):Prop:=
 ∀(s:Shared) (us:List Value),K.In s.heap->(us++ds).length=ps.length->BindsTo s fd ⟨us,[]⟩ (ps.zip (us++ds))
def Binds.all{K:W.Frag}{fd:FuncData}{ps:List Str}(h:∀us:List Value,us.length=ps.length->bindArgs fd ⟨us,[]⟩=pure (ps.zip us)):Binds K fd ps []:=λs us _ hl=>by
 rw[OG] at hl ⊢
 exact .of_eq (h us hl)
def rj(CX:CXT)(X:Cx)(E:XK):Prop:=∀(pins:Rb) (σ:St) (H:Hp) (s:Shared) (e:Value) (s':Shared),Inv X pins σ H s->CX X.stack H s E e s'->X.xe e s'
section
variable{X:Cx}{CX:CXT}{k:Nat}{f C:Addr}{fd:FuncData}{ps:List Str}{sp:Sp}{dvs:List V}{ds:List Value}{E:XK}{x m:Str}{p pos apos:Pos}{e o:Expr}{es:List Expr}{ta:TE}{t:TA}
end
section
variable{X:Cx}{CX:CXT}{k:Nat}{f C:Addr}{fd:FuncData}{ps ks:List Str}{sp:Sp}{E:XK}{x m:Str}{p pos apos kpos:Pos}{e o:Expr}{es:List Expr}{kws:List Keyword}{te ta:TE}{t tk:TA}{nm:Option Str}
variable{g:List Value->List Value->List Value}{gV:List V->List V->List V}
end
structure FnScope(N P:List Str)(sc:Scope):Prop where
 kind:sc.kind=.function
 co:sc.isCoroutine=false
 gen:sc.isGenerator=false
 nd:N.Nodup
 pre:N.take P.length=P
 par:∀x∈P,sc.names.lookup x=some .local\/sc.names.lookup x=some .cell
 nofree:∀y∈sc.names,y.2 ≠ .free
theorem oz{kindOf:Str->Option NameKind}{x:Str}:∀{binds:List (Str×Value)}{m:Ra},(∀v,(x,v)∉binds)->bindL kindOf binds m x=m x
 | [],_,_=>rfl
 |
  (n,v)::r,m,h=>by
  unfold bindL
  rw[oz λw hw=>h w (m_ _ hw)]
  split
  ·have:x≠n:=by rintro rfl;exact h v p_
   simp [this]
  ·rfl
theorem nL{kindOf:Str->Option NameKind}{x:Str}:∀{binds:List (Str×Value)}{m:Ra},(∀v,(x,v)∉binds)->bindC kindOf binds m x=m x
 | [],_,_=>rfl
 |
  (n,v)::r,m,h=>by
  unfold bindC
  rw[nL λw hw=>h w (m_ _ hw)]
  split
  ·rfl
  ·have:x≠n:=by rintro rfl;exact h v p_
   simp [this]
theorem n6{kindOf:Str->Option NameKind}{x:Str}{v:Value}:∀{P:List Str}{vs:List Value}{i:Nat}{m:Ra},P.Nodup->P[i]?=some x->vs[i]?=some v->kindOf x=some .local->
 bindL kindOf (P.zip vs) m x=some v
 | [],_,_,_,_,h,_,_=>by simp at h
 |_::_,[],_,_,_,_,h,_=>by simp at h
 |
  p::P,w::vs,0,m,nd,h1,h2,hk=>by
  simp at h1 h2;subst h1;subst h2
  show bindL kindOf ((p,w)::P.zip vs) m p=_
  unfold bindL
  rw[oz λv hv=>(PQ.mp nd).1 (List.of_mem_zip hv).1,if_pos hk]
  simp
 |
  p::P,w::vs,i+1,m,nd,h1,h2,hk=>by
  show bindL kindOf ((p,w)::P.zip vs) m x=_
  unfold bindL
  exact n6 (i:=i) (PQ.mp nd).2 (by simpa using h1) (by simpa using h2) hk
theorem nO{kindOf:Str->Option NameKind}{x:Str}{v:Value}:∀{P:List Str}{vs:List Value}{i:Nat}{m:Ra},P.Nodup->P[i]?=some x->vs[i]?=some v->kindOf x≠some .local->
 bindC kindOf (P.zip vs) m x=some v
 | [],_,_,_,_,h,_,_=>by simp at h
 |_::_,[],_,_,_,_,h,_=>by simp at h
 |
  p::P,w::vs,0,m,nd,h1,h2,hk=>by
  simp at h1 h2;subst h1;subst h2
  show bindC kindOf ((p,w)::P.zip vs) m p=_
  unfold bindC
  rw[nL λv hv=>(PQ.mp nd).1 (List.of_mem_zip hv).1,if_neg hk]
  simp
 |
  p::P,w::vs,i+1,m,nd,h1,h2,hk=>by
  show bindC kindOf ((p,w)::P.zip vs) m x=_
  unfold bindC
  exact nO (i:=i) (PQ.mp nd).2 (by simpa using h1) (by simpa using h2) hk
noncomputable def eQ(N:List Str)(vs:List V):St:=vs.map some++List.replicate (N.length-vs.length) none
noncomputable def cP(CX:CXT)(P:Program)(w:World)(K:W.Frag)(mg:Ra)(base:Heap)(N:List Str)(qual:Str)(scope:Scope)(f:Addr)(cd:Value)(A:Around)(outer:List Env)(s:Shared)(H:Hp)(E:XK):Cx where
 prog:=P
 w:=w
 K:=K
 mg:=mg
 base:=base
 A:=A.deeper (envOfC qual scope s.heap.objs.size f cd)
 N:=N
 s₀:=s
 H₀:=H
 env:=envOfC qual scope s.heap.objs.size f cd
 outer:=outer
 stack:=envOfC qual scope s.heap.objs.size f cd::outer
 ex:=[]
 calm:=true
 fn:=λ_=>true
 pn:=[]
 xe:=λe s'=>wpAny (model P w) (A.deeper (envOfC qual scope s.heap.objs.size f cd)) (leaving (envOfC qual scope s.heap.objs.size f cd) e) (λ_ s''=>CX outer H s E e s'') (λe' s''=>CX outer H s E e' s'') s'
def rD{sc:Scope}{n:Nat}{x:Str}(h:sc.names.lookup x=some .cell):∃c,(cellsFrom n sc.names []).lookup x=some c:=by
 have q:=W.cellsFrom_some sc.names n [] (.inl h)
 exact O1.mp q
def yf{CX:CXT}{P:Program}{w:World}{K:W.Frag}{mg:Ra}{base:Heap}{N ps:List Str}{qual:Str}{scope:Scope}{f:Addr}{cd:Value}{A:Around}{outer:List Env}{s s1:Shared}{H:Hp}{E:XK}{us:List Value}{vs:List V}
 (S:FnScope N ps scope) (hd:A.handled=none) (e0:Env0 P w K mg base A outer s H) (hl:vs.length=ps.length) (r:Vals vs us)
 (x:InCallC s s.heap.objs.size (bindL (envOfC qual scope s.heap.objs.size f cd).kindOf (ps.zip us) λ_=>none) (cellsFrom (s.heap.objs.size+1) scope.names []) (bindC (envOfC qual scope s.heap.objs.size f cd).kindOf (ps.zip us) λ_=>none) s1):
 Inv (cP CX P w K mg base N qual scope f cd A outer s H E) [] (eQ N vs) H s1:=by
 have hpl:ps.length<=N.length:=by have:=OO List.length S.pre;rw[Pk] at this;omega
 obtain⟨h1,tk,rfl,hk⟩:=x.done
 have noA:∀b:Addr,b∉(cP CX P w K mg base N qual scope f cd A outer s H E).ex:=λb z=>absurd (show b∈([]:List Addr) from z) (by simp)
 refine⟨⟨e0.mod,S.kind,rfl,rfl,o_ _,λy z c h1 h2=>?_,λy hy=>?_,λy c _ h=>?_,λ_=>hd,Around.frames_deeper e0.frames,.inr ⟨rfl,rfl⟩,λb z=>absurd z (noA b),e0.bs,e0.bsz,λb _ _=>noA b,λb z=>absurd z (noA b),e0.funs,e0.frf⟩,
  rfl,e0.bare,Un.kept hk,⟨_,x.toInCall.ns,λi y v h1 h2 h3=>?_⟩,λy c h=>⟨_,x.cell y c h⟩,e0.hok.fresh (o_ _),λy c h=>?_,λp hp=>absurd (show p∈([]:Rb) from hp) (by simp),e0.hok.kept hk,?_⟩
 ·exact name_of_addr x.apart (O9 h1) (O9 h2)
 ·have hy:scope.names.lookup y=some .cell\/scope.names.lookup y=some .free:=hy
  rcases hy with hy |hy
  ·exact rD hy
  ·exact absurd rfl (S.nofree _ (O9 hy))
 ·exact P4 (x.above y c (O9 h))
 ·have hi:i<vs.length:=by
   unfold eQ at h2
   by_cases hi:i<vs.length
   ·exact hi
   ·rw[Oq (by simpa using hi)] at h2
    rw[OS] at h2
    split at h2 <;> cases h2
  have ha:vs[i]?=some v:=by
   unfold eQ at h2
   rw[M_ (by simpa using hi),L_] at h2
   cases e:vs[i]? with
   |none=>rw[e] at h2;cases h2
   |some a=>rw[e] at h2;cases h2;rfl
  obtain⟨u,hu,rv⟩:=r.get ha
  have hp:ps[i]?=some y:=by
   rw[<- S.pre,List.getElem?_take_of_lt (by omega)];exact h1
  have ndP:ps.Nodup:=by rw[<- S.pre];exact S.nd.sublist (List.take_sublist _ _)
  refine⟨u,rv,?_⟩
  rcases S.par y (Pe hp) with k |k
  ·exact .inl ⟨k,n6 ndP hp hu k⟩
  ·obtain⟨c,e⟩:=rD (n:=s.heap.objs.size+1) k
   refine .inr ⟨.inl k,c,e,?_⟩
   have q:=x.cell y c e
   rw[nO ndP hp hu (by show scope.names.lookup y≠_;rw[k];decide)] at q
   exact q
 ·exact e0.hok.fresh (P4 (x.above y c (O9 h)))
 ·unfold eQ
  show _=N.length
  rw[z_,l_,OZ]
  omega
def C5{CX:CXT}{P:Program}{w:World}{K:W.Frag}{mg:Ra}{base:Heap}{k:Nat}{f:Addr}{name qual:Str}{params:Arguments}{body:List Stmt}{scope:Scope}{dV kV doc pm cdv ct oc:Value}{an od:Option Addr}
 {osl:Array (Option Value)}{N ps:List Str}{sp:Sp} (lk:K.lookup f=some ⟨oc,od,.func (W.fnOf name qual params body scope dV kV doc pm an cdv ct),osl⟩) (jp:W.codeIn K cdv qual=true) (S:FnScope N ps scope)
 (len:∀vs H Q E,sp vs H Q E->vs.length=ps.length)
 (d_:∀(A:Around) (outer:List Env) (s:Shared) (H:Hp) (vs:List V) (Q:VK) (E:XK),Room k (A.deeper (envOfC qual scope s.heap.objs.size f cdv))->sp vs H Q E->
  ∃t,PSs (cP CX P w K mg base N qual scope f cdv A outer s H E) body t/\t { nx:=λ_ H'=>Q .non H',rt:=Q } (eQ N vs) H):
 FnOk P w K mg base CX (k+1) f (W.fnOf name qual params body scope dV kV doc pm an cdv ct) ps sp:=by
 refine⟨len,λA outer s H args us vs Q E hr e0 hb r hsp=>?_⟩
 have hl:=len _ _ _ _ hsp
 have KX:K.In s.heap:=e0.mod.kin.keeps λb o e=>(e0.bs b o e).1
 have lim:s.heap.NoLimit:=e0.mod.nolimit.keeps λb o e=>(e0.bs b o e).1
 have hkind:∀y∈ps.zip us,scope.names.lookup y.1=some .local\/(scope.names.lookup y.1=some .cell/\((cellsFrom (s.heap.objs.size+1) scope.names []).lookup y.1).isSome=true):=λ⟨n,v⟩ hy=>by
  rcases S.par n (List.of_mem_zip hy).1 with q |q
  ·exact .inl q
  ·exact .inr ⟨q,W.cellsFrom_some _ _ _ (.inl q)⟩
 refine codeAny_call_function hr.depth (KX _ _ lk) rfl S.co S.gen rfl (W.codeRec_of KX jp) (hb _ _ _ _ ?_)
 refine wpAny_newFunctionEnv_cells S.kind hkind λenv he s1 x=>?_
 subst he
 refine⟨lim.keeps x.toInCall.keep,codeAny_func ?_⟩
 obtain⟨t,ht,hq⟩:=d_ A outer s H vs Q E (hr.deeper _) hsp
 have I:Inv (cP CX P w K mg base N qual scope f cdv A outer s H E) [] (eQ N vs) H s1:=yf S hr.hd e0 hl r x
 refine OB (ht [] s1 (eQ N vs) H _ I hq) (λfl s' hs=>?_) λe s' hs=>hs
 have ii:∀{σ':St}{H':Hp}{v:V}{u:Value},Inv (cP CX P w K mg base N qual scope f cdv A outer s H E) [] σ' H' s'->RelV v u->Q v H'->CE outer P w H s Q u s':=
  λ{σ' H' v u} J rv q=>⟨v,H',J.os,J.bare,J.base,J.hok,rv,q⟩
 cases fl with
 |
  ret u=>
  obtain⟨v,σ',H',J,rv,q⟩:=hs
  exact ii J rv q
 |
  next=>
  obtain⟨σ',H',J,q⟩:=hs
  exact ii (v:=V.non) (u:=Value.none) J rfl q
 |
  brk=>
  obtain⟨_,_,_,q⟩:=hs
  exact False.elim q
 |
  cont=>
  obtain⟨_,_,_,q⟩:=hs
  exact False.elim q
section
variable{X:Cx}{x:Str}{p pos:Pos}{e:Expr}{es:List Expr}{t:TA}{id T:String}{r:List V->Hp->VK->Prop}
def tCB(r:List V->Hp->VK->Prop)(t:TA):TE:=λσ H Q=>t σ H λvs H1=>r vs H1 Q
def Br(hc:CallR X (.builtin id) r)(hg:Gl X x)(hm:X.mg x=none)(hv:bootBuiltins x=some (.builtin id))(ha:PA X (e::es) t)(hn:x ≠ "__name__")(hdb:(x==("__debug__" : Str))=false)
 (he:starEach (e::es) X.env=(false,eval e X.env)::starEach es X.env) (hpl:(backTo pos (starEach es X.env)).any (·.1)=false):PE X (.Call (.Name x p) (e::es) [] pos) (tCB r t):=by
 intro pins s σ H Q I h
 refine Pp (eP I hg hm hv ?_ hn hdb)
 exact PyProof.Rows.callWith_builtin1 (thn (ha pos pins s σ H _ I h) λus s1 ⟨vs,H1,I1,r1,q1⟩=>hc pins s1 σ H1 vs us Q I1 r1 q1) he hpl
def xx(hc:CallR X (.type T) r)(hg:Gl X x)(hm:X.mg x=none)(hv:bootBuiltins x=some (.type T))(ha:PA X (e::es) t)(hn:x ≠ "__name__")(hdb:(x==("__debug__" : Str))=false)
 (he:starEach (e::es) X.env=(false,eval e X.env)::starEach es X.env) (hpl:(backTo pos (starEach es X.env)).any (·.1)=false):PE X (.Call (.Name x p) (e::es) [] pos) (tCB r t):=by
 intro pins s σ H Q I h
 refine Pp (eP I hg hm hv ?_ hn hdb)
 exact O7 (thn (ha pos pins s σ H _ I h) λus s1 ⟨vs,H1,I1,r1,q1⟩=>hc pins s1 σ H1 vs us Q I1 r1 q1) he hpl
def xm(hc:CallR X (.type T) r)(hg:Gl X x)(hm:X.mg x=none)(hv:bootBuiltins x=some (.type T))(hn:x ≠ "__name__")(hdb:(x==("__debug__" : Str))=false):
 PE X (.Call (.Name x p) [] [] pos) (tCB r tNil):=by
 intro pins s σ H Q I h
 refine Pp (eP I hg hm hv ?_ hn hdb)
 exact PyProof.Rows.callWith_type0 (hc pins s σ H [] [] Q I .nil h)
end
end L2
namespace HT
open PySem PyProof.Rows
section
open PySem.SeqAt
open PySem.AutoSeq1 (wpAny_loadPart')
open PySem.MeetsSeq PySem.MeetsSeq2 PySem.MeetsSeq3
end
section
variable{prog:Program}{w:World}{A:Around}{E:Rf}{s:Shared}
def cat_tup(ht:IsTup s.heap t vs.toArray)(hb:IsTup s.heap b ws.toArray)(hv:vs≠[])
 (h1:ws=[]->Q (.ref t) s) (h2:ws≠[]->Q (.ref s.heap.objs.size) { s with heap:=s.heap.push { cls:=.type "tuple",data:=.seq (vs++ws).toArray } })
 (hsz:vs.length+ws.length<=sizeLine):wpAny (model prog w) A (binaryOp .Add (.ref t) (.ref b)) Q E s:=by
 obtain⟨⟨cls,dd,data,sl⟩,ho,hc,n,hd⟩:=id ht
 obtain⟨⟨cls2,dd2,data2,sl2⟩,ho2,hc2,n2,hd2⟩:=id hb
 simp only at hc hd hc2 hd2
 subst hc hd hc2 hd2
 have e:vs.toArray++ws.toArray=(vs++ws).toArray:=by simp
 by_cases hw:ws=[]
 ·exact concat_meets ⟨_,ho,rfl⟩ ⟨_,ho2,rfl⟩ noFill_tuple_add seq_tuple_add Qt Qp (Qm _ _)
   (tuple_addW1 t b vs.toArray ws.toArray n n2 dd dd2 sl sl2 (by simpa using hv) (by simp [hw])) ⟨ho,ho2,h1 hw⟩
 ·refine concat_meets ⟨_,ho,rfl⟩ ⟨_,ho2,rfl⟩ noFill_tuple_add seq_tuple_add Qt Qp (Qm _ _)
   (tuple_addW2 t b vs.toArray ws.toArray n n2 dd dd2 sl sl2 (by simpa using hv) (by simpa using hw) (by rw[t_,t_];exact hsz)) ⟨ho,ho2,?_⟩
  rw[e]
  exact h2 hw
noncomputable def sIx(n d:Nat):Option Int->Nat
 |none=>d
 |some v=>if v<0 then (v+(n:Int)).toNat else min v.toNat n
def sIx_none(n d:Nat):sIx n d none=d:=rfl
def sIx_nat(n d k:Nat):sIx n d (some (k:Int))=min k n:=by
 show (if (k:Int)<0 then ((k:Int)+(n:Int)).toNat else min (k:Int).toNat n)=min k n
 rw[if_neg (by omega),OK]
def GX(n d:Nat)(hd:d<=n)(o:Option Int):sIx n d o<=n:=by
 cases o with
 |none=>exact hd
 |
  some v=>
  show (if v<0 then (v+(n:Int)).toNat else min v.toNat n)<=n
  by_cases hv:v<0
  ·rw[if_pos hv];omega
  ·rw[if_neg hv];exact Nat.min_le_right _ _
def uq(v:Int)(n d:Nat):(if v<0 then max (v+(n:Int)) 0 else min v (n:Int))=((sIx n d (some v):Nat):Int):=by
 show (if v<0 then max (v+(n:Int)) 0 else min v (n:Int))=(((if v<0 then (v+(n:Int)).toNat else min v.toNat n):Nat):Int)
 by_cases hv:v<0
 ·simp only[if_pos hv];omega
 ·simp only[if_neg hv];omega
def vG(lo hi:Option Int)(n:Nat):Builtin.Slice.sliceAdjust lo hi 1 (n:Int)=(((sIx n 0 lo:Nat):Int),((sIx n n hi:Nat):Int)):=by
 have h1:¬ ((1:Int)<0):=by omega
 unfold Builtin.Slice.sliceAdjust
 simp only[h1,Qn]
 refine Prod.ext ?_ ?_
 ·cases lo with
  |none=>rfl
  |some v=>exact uq v n 0
 ·cases hi with
  |none=>rfl
  |some v=>exact uq v n n
def vA(i j:Nat):Builtin.Slice.slicePlaces (i:Int) (j:Int) 1=j-i:=by
 unfold Builtin.Slice.slicePlaces
 have h1:(1:Int)>0:=by omega
 simp only[h1,PF,Int.ediv_one]
 split <;> omega
def lN(p:IsPart v o)(h:Q o s):wpAny (model prog w) A (Builtin.Slice.slicePartIndex v) Q E s:=by
 cases p with
 |none=>exact slicePart_none h
 |int i t=>exact slicePart_int h
def lr{sl:Addr}{vl vu:Value}{lo hi:Option Int}{n:Nat}{Q:Int×Int×Nat->Shared->Prop}(hs:s.heap.IsSliceOf sl vl vu .none)(pl:IsPart vl lo)(pu:IsPart vu hi)
 (h:Q (((sIx n 0 lo:Nat):Int),1,sIx n n hi-sIx n 0 lo) s):wpAny (model prog w) A (Builtin.Slice.sliceApplied (.ref sl) (pure (n:Int))) Q E s:=by
 obtain⟨os,hos,hcs,hds⟩:=id hs
 unfold Builtin.Slice.sliceApplied Builtin.Slice.sliceFields
 refine k_ (k_ (OQ hos hds (x:=vl) rfl (k_ (OQ hos hds (x:=vu) rfl (k_ (OQ hos hds (x:=.none) rfl (u_ ?_)))))))
 refine k_ (slicePart_none ?_)
 show wpAny _ _ (if ((1:Int)==0)=true then _ else _) _ _ s
 rw[if_neg (by decide)]
 refine k_ (lN pl (k_ (lN pu (k_ (u_ ?_)))))
 show wpAny _ _ (match Builtin.Slice.sliceAdjust lo hi 1 (n:Int) with |(lo,hi)=>pure (lo,(1:Int),Builtin.Slice.slicePlaces lo hi 1)) _ _ s
 rw[vG lo hi n]
 show wpAny _ _ (pure (((sIx n 0 lo:Nat):Int),(1:Int),Builtin.Slice.slicePlaces ((sIx n 0 lo:Nat):Int) ((sIx n n hi:Nat):Int) 1)) _ _ s
 rw[vA]
 exact u_ h
def z9(xs:Array Value)(i k:Nat):((List.range k).filterMap λ(m:Nat)=>xs[((i:Int)+(m:Int)*1).toNat]?).toArray=((xs.toList.drop i).take k).toArray:=by
 have e:(λ(m:Nat)=>xs[((i:Int)+(m:Int)*1).toNat]?)=λm=>xs[i+m]?:=by
  funext m
  have:((i:Int)+(m:Int)*1).toNat=i+m:=by omega
  rw[this]
 rw[e]
 have:=pick_run xs i k
 rw[List.filterMap_map] at this
 have e2:((λx=>xs[x]?) ∘ λx=>i+x)=λm=>xs[i+m]?:=rfl
 rw[e2] at this
 rw[this]
def getItem_tuple_cut{t sl:Addr}{items:Array Value}{vl vu:Value}{lo hi:Option Int}{Q:Rf}(ht:IsTup s.heap t items)(hs:s.heap.IsSliceOf sl vl vu .none)(pl:IsPart vl lo)(pu:IsPart vu hi)
 (hw:¬ (sIx items.size 0 lo=0/\sIx items.size items.size hi=items.size))
 (h:Q (.ref s.heap.objs.size) { s with heap:=s.heap.push { cls:=.type "tuple",data:=.seq ((items.toList.drop (sIx items.size 0 lo)).take (sIx items.size items.size hi-sIx items.size 0 lo)).toArray } })
 (hsz:items.size<=sizeLine):wpAny (model prog w) A (getItem (.ref t) (.ref sl)) Q E s:=by
 have htake:sizeOk (.seq ((items.toList.drop (sIx items.size 0 lo)).take (sIx items.size items.size hi-sIx items.size 0 lo)).toArray):=by
  show ((items.toList.drop (sIx items.size 0 lo)).take (sIx items.size items.size hi-sIx items.size 0 lo)).toArray.size<=sizeLine
  rw[t_,Pk,P7,OI]
  omega
 have hj:sIx items.size items.size hi<=items.size:=GX _ _ (o_ _) hi
 obtain⟨os,hos,hcs,hds⟩:=id hs
 have hTs:s.TypeIs (.ref sl) "slice":=⟨os,hos,hcs⟩
 unfold getItem
 try with_reducible refine OW ?_
 first |refine k_ (u_ ?_) |skip
 refine k_ (wpAny_sequenceKey ht.typeIs (by decide) ?_)
 refine k_ (Pf (name:=Str.ofString "__getitem__") ht.typeIs PyProof.Rows.slot_tuple_getitem
  (PJ PyProof.Rows.slot_tuple_getitem ht.typeIs entry_tuple_getitem ?_ (args_tuple_getitem _ _)))
 show wpAny _ _ (Builtin.Tuple.tupleItemsOf (.ref t) >>= _) _ _ s
 refine k_ (tupleItemsOf_ ht ?_)
 refine k_ (wpAny_typeOf hTs ?_)
 rw[if_pos (by decide)]
 refine k_ (lr hs pl pu ?_)
 have hno:¬ ((((sIx items.size 0 lo:Nat):Int)==0&&(1:Int)==1&&(sIx items.size items.size hi-sIx items.size 0 lo)==items.size)=true):=by
  intro q
  rw[s_,s_] at q
  have q1:((sIx items.size 0 lo:Nat):Int)=0:=eq_of_beq q.1.1
  have q2:sIx items.size items.size hi-sIx items.size 0 lo=items.size:=eq_of_beq q.2
  exact hw ⟨by omega,by omega⟩
 show wpAny _ _ (if (((sIx items.size 0 lo:Nat):Int)==0&&(1:Int)==1&&(sIx items.size items.size hi-sIx items.size 0 lo)==items.size)=true then _ else _) _ _ s
 rw[if_neg hno,z9]
 first
  |exact k_ (m:=Builtin.Tuple.tupleExact _) (O6 (u_ ⟨_,rfl,u_ h⟩) htake)
  |exact k_ (m:=Builtin.Tuple.tupleExact _) (O6 (k_ (u_ (u_ ⟨_,rfl,u_ h⟩))) htake)
  |exact k_ (k_ (m:=Builtin.Tuple.tupleExact _) (O6 (u_ (u_ ⟨_,rfl,u_ h⟩)) htake))
  |exact k_ (k_ (m:=Builtin.Tuple.tupleExact _) (O6 (u_ ⟨_,rfl,u_ h⟩) htake))
end
end HT
namespace L2
open PySem PySem.Spec PyProof.Rows
abbrev TO:=St->Hp->(Option Int->Hp->Prop)->Prop
def PO(X:Cx)(e:Option Expr)(t:TO):Prop:=
 ∀
  (pins:Rb) (s:Shared) (σ:St) (H:Hp) (Q:Option Int->Hp->Prop),Inv X pins σ H s->t σ H Q->
  wpAny (model X.prog X.w) X.A (evalPart e X.env) (λu s'=>∃o H',Inv X pins σ H' s'/\IsPart u o/\Q o H') X.xe s
def FG:TO:=λ_ H Q=>Q none H
def Lr(t:TE):TO:=λσ H Q=>t σ H λx H1=>∃i,x=.int i/\Q (some i) H1
section
variable{X:Cx}{e:Expr}{te:TE}{lo hi:Option Expr}{tl th:TO}{pos p2:Pos}
def DQ:PO X none FG:=by
 intro pins s σ H Q I h
 rw[evalPart_none]
 exact u_ ⟨none,H,I,.none,h⟩
def Fb(h:PE X e te):PO X (some e) (Lr te):=by
 intro pins s σ H Q I hw
 rw[evalPart_some]
 refine thn (h pins s σ H _ I hw) λu s1 ⟨x,H1,I1,r1,q1⟩=>?_
 obtain⟨i,rfl,q⟩:=q1
 obtain⟨t,rfl⟩:=r1
 exact⟨some i,H1,I1,.int i t,q⟩
def SlR(X:Cx)(r:V->Option Int->Option Int->Hp->VK->Prop):Prop:=
 ∀
  (pins:Rb) (s:Shared) (σ:St) (H:Hp) (x:V) (v vl vu:Value) (lo hi:Option Int) (sl:Addr) (Q:VK),Inv X pins σ H s->RelV x v->s.heap.IsSliceOf sl vl vu .none->IsPart vl lo->IsPart vu hi->r x lo hi H Q->
  ∃T id,typeLookup (.type T) "__getitem__"=pure (some (.builtin id))/\s.TypeIs v T/\wpAny (model X.prog X.w) X.A (getItem v (.ref sl)) (EP X pins σ Q) X.xe s
def SlR.or(h:SlR X r)(h':SlR X r'):SlR X (λx lo hi H Q=>r x lo hi H Q\/r' x lo hi H Q):=by
 intro pins s σ H x v vl vu lo hi sl Q I rx hs pl pu q
 rcases q with q |q
 ·exact h pins s σ H x v vl vu lo hi sl Q I rx hs pl pu q
 ·exact h' pins s σ H x v vl vu lo hi sl Q I rx hs pl pu q
def tSl(r:V->Option Int->Option Int->Hp->VK->Prop)(te:TE)(tl th:TO):TE:=λσ H Q=>te σ H λx H1=>tl σ H1 λl H2=>th σ H2 λu H3=>r x l u H3 Q
def Bs(hr:SlR X r)(he:PE X e te)(hl:PO X lo tl)(hu:PO X hi th):PE X (.Subscript e (.Slice lo hi none p2) pos) (tSl r te tl th):=by
 intro pins s σ H Q I h
 refine Subscript_ (thn (he pins s σ H _ I h) λv s1 ⟨x,H1,I1,r1,q1⟩=>?_)
 refine wpAny_Slice (thn (hl pins s1 σ H1 _ I1 q1) λvl s2 ⟨l,H2,I2,pl,q2⟩=>thn (hu pins s2 σ H2 _ I2 q2) λvu s3 ⟨u,H3,I3,pu,q3⟩=>?_)
 rw[evalPart_none]
 refine u_ ?_
 have I4:Inv X pins σ H3 { s3 with heap:=s3.heap.push { cls:=.type "slice",data:=.fields #[vl,vu,.none] } }:=I3.kept (t':=s3.toks) λb ob q=>n_ _ q
 obtain⟨T,id,hT,ht,hg⟩:=hr pins { s3 with heap:=s3.heap.push { cls:=.type "slice",data:=.fields #[vl,vu,.none] } } σ H3 x v vl vu l u s3.heap.objs.size Q I4 r1 (Heap.IsSliceOf.new ..) pl pu q3
 show wpAny (model X.prog X.w) X.A (subscriptTail e (.Slice lo hi none p2) v (.ref s3.heap.objs.size)) (EP X pins σ Q) X.xe { s3 with heap:=s3.heap.push { cls:=.type "slice",data:=.fields #[vl,vu,.none] } }
 exact tail_any (ops:=[.ref s3.heap.objs.size,v]) ht hT hg (by with_unfolding_all rfl)
noncomputable def jq(xs:List V)(lo hi:Option Int):List V:=(xs.drop (HT.sIx xs.length 0 lo)).take (HT.sIx xs.length xs.length hi-HT.sIx xs.length 0 lo)
def kh(xs:List V)(lo hi:Option Int):(jq xs lo hi).length<=xs.length:=by
 unfold jq
 rw[Pk,P7]
 omega
def rSlT(K:W.Frag):V->Option Int->Option Int->Hp->VK->Prop:=λx lo hi H Q=>∃a xs,x=.ref a/\SqT K H a xs/\
 ¬ (HT.sIx xs.length 0 lo=0/\HT.sIx xs.length xs.length hi=xs.length)/\∀p,H p=none->Q (.ref p) (upd H p (.tup (jq xs lo hi)))
def Ge:SlR X (rSlT X.K):=by
 intro pins s σ H x v vl vu lo hi sl Q I rx hs pl pu h
 obtain⟨a,xs,rfl,hx,hw,q⟩:=h
 cases rx
 obtain⟨its,r,ht,hz⟩:=I.tuple hx
 have be:its.toArray.size=xs.length:=by rw[t_];exact r.length.symm
 refine⟨"tuple",_,PyProof.Rows.slot_tuple_getitem.lookup,ht.typeIs,?_⟩
 refine HT.getItem_tuple_cut ht hs pl pu (by rw[be];exact hw) ?_ (by rw[be];exact hz)
 rw[be]
 refine⟨.ref s.heap.objs.size,_,I.laid (t':=s.toks) (o:=.tup (jq xs lo hi)) (λb ob q=>n_ _ q) (o_ _) ?_,rfl,q _ (I.hok.fresh (o_ _))⟩
 exact⟨E_ (kh xs lo hi) hz,_,(r.drop (HT.sIx xs.length 0 lo)).take (HT.sIx xs.length xs.length hi-HT.sIx xs.length 0 lo),IsTup.new _ _⟩
def jL(K:W.Frag):R2:=λx y H Q=>∃a b xs ys,x=.ref a/\y=.ref b/\SqT K H a xs/\SqT K H b ys/\xs≠[]/\xs.length+ys.length<=sizeLine/\
 (ys=[]->Q (.ref a) H)/\(ys≠[]->∀p,H p=none->Q (.ref p) (upd H p (.tup (xs++ys))))
def Vals.nil_iff(r:Vals xs us):us=[] ↔ xs=[]:=by
 cases r with
 |nil=>simp
 |cons _ _=>simp
def D6:OpR X (binaryOp .Add) (jL X.K):=by
 intro pins s σ H x y v u Q I rx ry h
 obtain⟨a,b,xs,ys,rfl,rfl,ha,hb,hx,hz,q1,q2⟩:=h
 cases rx
 cases ry
 obtain⟨its,r1,p1,_⟩:=I.tuple ha
 obtain⟨its2,r2,p2,_⟩:=I.tuple hb
 refine HT.cat_tup p1 p2 (λz=>hx (r1.nil_iff.mp z)) (λz=>⟨.ref a,H,I,rfl,q1 (r2.nil_iff.mp z)⟩) (λz=>?_) (by rw[<- r1.length,<- r2.length];exact hz)
 refine⟨.ref s.heap.objs.size,_,I.laid (t':=s.toks) (o:=.tup (xs++ys)) (λb ob q=>n_ _ q) (o_ _) ?_,rfl,q2 (λw=>z (r2.nil_iff.mpr w)) _ (I.hok.fresh (o_ _))⟩
 exact⟨by rw[z_];exact hz,_,r1.append r2,IsTup.new _ _⟩
end
noncomputable def ixN(n:Nat)(i:Int):Option Nat:=if 0<=i then (if i<n then some i.toNat else none) else if -(n:Int)<=i then some (i+n).toNat else none
noncomputable def atI{α:Type}(xs:List α)(i:Int):Option α:=(ixN xs.length i).bind λj=>xs[j]?
def uT(h:ixN n i=some j):seqIndex? i n=some j/\j<n/\-(n:Int)<=i/\i<n:=by
 unfold ixN at h
 by_cases h0:0<=i
 ·rw[if_pos h0] at h
  by_cases h1:i<n
  ·rw[if_pos h1] at h
   have e:i.toNat=j:=H_ h
   exact⟨by rw[seqIndex_of h0 h1,e],by omega,by omega,h1⟩
  ·rw[if_neg h1] at h;cases h
 ·rw[if_neg h0] at h
  by_cases h1:-(n:Int)<=i
  ·rw[if_pos h1] at h
   have e:(i+n).toNat=j:=H_ h
   exact⟨by rw[seqIndex_neg (by omega) h1,e],by omega,h1,by omega⟩
  ·rw[if_neg h1] at h;cases h
def uh(h:atI xs i=some v):∃j,seqIndex? i xs.length=some j/\xs[j]?=some v/\j<xs.length/\-(xs.length:Int)<=i/\i<xs.length:=by
 unfold atI at h
 cases e:ixN xs.length i with
 |none=>rw[e] at h;cases h
 |
  some j=>
  rw[e] at h
  obtain⟨h1,h2,h3,h4⟩:=uT e
  exact⟨j,h1,h,h2,h3,h4⟩
def m7(b:Expr):Prop:=∀o i,subscripted b false o i=operate [o,i] (getItem o i)
def IxR(X:Cx)(r:R2):Prop:=
 ∀
  (value i_:Expr) (pins:Rb) (s:Shared) (σ:St) (H:Hp) (x y:V) (v u:Value) (Q:VK),Inv X pins σ H s->RelV x v->RelV y u->r x y H Q->
  subscripted i_ false v u=operate [v,u] (getItem v u)->wpAny (model X.prog X.w) X.A (subscriptTail value i_ v u) (EP X pins σ Q) X.xe s
def MtR(X:Cx)(id:String)(r:V->List V->Hp->VK->Prop):Prop:=
 ∀
  (pins:Rb) (s:Shared) (σ:St) (H:Hp) (x:V) (xs:List V) (v:Value) (us:List Value) (Q:VK),Inv X pins σ H s->RelV x v->Vals xs us->r x xs H Q->
  wpAny (model X.prog X.w) X.A (call (.builtin id) (v::us)) (EP X pins σ Q) X.xe s
section
variable{X:Cx}{a b:Expr}{ta tb:TE}{pos:Pos}
def IxR.or(h:IxR X r)(h':IxR X r'):IxR X (λx y H Q=>r x y H Q\/r' x y H Q):=by
 intro value i_ pins s σ H x y v u Q I rx ry q hs
 rcases q with q |q
 ·exact h value i_ pins s σ H x y v u Q I rx ry q hs
 ·exact h' value i_ pins s σ H x y v u Q I rx ry q hs
def Nj(hr:IxR X r)(ha:PE X a ta)(hb:PE X b tb)(hs:m7 b):PE X (.Subscript a b pos) (tOp r ta tb):=by
 intro pins s σ H Q I h
 exact Subscript_ (B0 ha hb I h λv u s2 x y H2 I2 rx ry q=>hr a b pins s2 σ H2 x y v u Q I2 rx ry q (hs _ _))
def wo(K:W.Frag):R2:=λx y H Q=>∃p xs i v,x=.ref p/\y=.int i/\SqL K H p xs/\atI xs i=some v/\Q v H
def wB(K:W.Frag):R2:=λx y H Q=>∃p xs i v,x=.ref p/\y=.int i/\SqT K H p xs/\atI xs i=some v/\Q v H
def DK:IxR X (wo X.K):=by
 intro value i_ pins s σ H x y v u Q I rx ry h hs
 obtain⟨p,xs,i,z,rfl,rfl,hq,he,q⟩:=h
 cases rx
 obtain⟨t,rfl⟩:=ry
 obtain⟨its,r,pl,hz⟩:=I.list hq
 obtain⟨j,h1,h2,h3,h4,h5⟩:=uh he
 obtain⟨w,ew,rw'⟩:=r.get h2
 have hl:=r.length
 have hn:=gf
 have ii:EP X pins σ Q w s:=⟨z,H,I,rw',q⟩
 by_cases h0:0<=i
 ·have hj:i.toNat=j:=by
   rw[seqIndex_of h0 h5] at h1
   exact H_ h1
  exact item_listR pl.isList h0 (by omega) (by rw[hj];simpa using ew) ii hs
 ·have hj:(i+(its.toArray.size:Int)).toNat=j:=by
   rw[seqIndex_neg (by omega) h4] at h1
   rw[t_,<- hl]
   exact H_ h1
  exact subscriptTail_builtinR (x:=w) pl.isList.typeIs slot_list_getitem.lookup
   (wpAny_getItem_list_neg (Q:=λr s'=>r=w/\EP X pins σ Q r s') pl.isList (by omega) (by rw[t_] <;> omega) (by omega) (by rw[hj];simpa using ew) ⟨rfl,ii⟩) hs
def J8:IxR X (wB X.K):=by
 intro value i_ pins s σ H x y v u Q I rx ry h hs
 obtain⟨p,xs,i,z,rfl,rfl,hq,he,q⟩:=h
 cases rx
 obtain⟨t,rfl⟩:=ry
 obtain⟨its,r,pl,hz⟩:=I.tuple hq
 obtain⟨j,h1,h2,h3,h4,h5⟩:=uh he
 obtain⟨w,ew,rw'⟩:=r.get h2
 have hl:=r.length
 have hn:=gf
 have ii:EP X pins σ Q w s:=⟨z,H,I,rw',q⟩
 exact subscriptTail_builtinR (x:=w) pl.typeIs slot_tuple_getitem.lookup
  (getItem_tuple (j:=j) (Q:=λr s'=>r=w/\EP X pins σ Q r s') pl (by omega) (by omega) (by rw[t_,<- hl];exact h1) (by simpa using ew) ⟨rfl,ii⟩) hs
def vY(its:List Value)(n j:Nat)(u:Value):Obj.mapSeq (·.setIfInBounds j u) { cls:=.type "list",data:=.seq its.toArray n }={ cls:=.type "list",data:=.seq (its.set j u).toArray n }:=by
 simp [Obj.mapSeq]
def Inv.lst(I:Inv X pins σ H s)(h:H p=some (.lst xs)):
 ∃(its:List Value) (n:Nat),Vals xs its/\s.heap.get? p=some { cls:=.type "list",data:=.seq its.toArray n }/\xs.length<=sizeLine:=by
 obtain⟨z,its,n,r,e⟩:=I.hok p _ h
 exact⟨its,n,r,e,z⟩
def Inv.lstUpd{pins:Rb}{σ:St}{H:Hp}{s:Shared}{p:Addr}{xs ys:List V}{its its':List Value}{n n':Nat}{f:Obj->Obj}(I:Inv X pins σ H s)(h:H p=some (.lst xs))
 (ho:s.heap.get? p=some { cls:=.type "list",data:=.seq its.toArray n }) (hf:f { cls:=.type "list",data:=.seq its.toArray n }={ cls:=.type "list",data:=.seq its'.toArray n' }) (r:Vals ys its') (hz:ys.length<=sizeLine) (t:Nat):
 Inv X pins σ (upd H p (.lst ys)) { s with heap:=s.heap.update p f,toks:=t }:=by
 have e:(s.heap.update p f).get? p=some { cls:=.type "list",data:=.seq its'.toArray n' }:=by
  rw[Heap.get?_update_self f ho (by rw[hf] <;> rfl),hf]
 refine I.write (x:=p) (e:=p) (by rw[h];trivial) (.inl rfl) (λb u hb q=>(Qr _ _ (Ne.symm hb)).trans q) ⟨_,e⟩ ?_
 exact⟨hz,its',n',r,e⟩
def vT:V->V->V->Hp->(Hp->Prop)->Prop:=λo i v H Q=>∃p xs k j,o=.ref p/\i=.int k/\H p=some (.lst xs)/\ixN xs.length k=some j/\Q (upd H p (.lst (xs.set j v)))
def A0:qE X vT:=by
 intro pins s σ H o i v ov iv u Q I ro ri rv h
 obtain⟨p,xs,k,j,rfl,rfl,hp,hj,q⟩:=h
 cases ro
 obtain⟨t,rfl⟩:=ri
 obtain⟨its,n,r,ho,hz⟩:=I.lst hp
 obtain⟨h1,h2,h3,h4⟩:=uT hj
 have hl:=r.length
 have hn:=gf
 have I':Inv X pins σ (upd H p (.lst (xs.set j v))) { s with heap:=s.heap.update p (Obj.mapSeq (·.setIfInBounds j u)) }:=
  I.lstUpd hp ho (vY its n j u) (r.set rv j) (by rw[Oo];exact hz) s.toks
 by_cases h0:0<=k
 ·have hk:k.toNat=j:=by
   rw[seqIndex_of h0 h4] at h1
   exact H_ h1
  exact W.ki_setAt ho h0 (by omega) (by rw[t_,<- hl];exact h4) (by rw[hk];exact⟨_,I',q⟩)
 ·have hk:(k+(its.toArray.size:Int)).toNat=j:=by
   rw[seqIndex_neg (by omega) h3] at h1
   rw[t_,<- hl]
   exact H_ h1
  exact W.ki_setBack ho (by omega) (by rw[t_,<- hl];exact h3) (by omega) (by rw[hk];exact⟨_,I',q⟩)
def rY(lo hi:Option Int)(n:Nat):(sliceBounds lo hi none n).1=((HT.sIx n 0 lo:Nat):Int)/\(sliceBounds lo hi none n).2.1=((HT.sIx n n hi:Nat):Int)/\(sliceBounds lo hi none n).2.2=1:=by
 refine⟨?_,?_,rfl⟩
 ·cases lo with
  |none=>simp [sliceBounds,HT.sIx]
  |
   some i=>
   simp only[sliceBounds,HT.sIx,Option.getD_none,show (1:Int)>0 by decide,PF]
   by_cases h:i<0
   ·simp only[h,PF] <;> omega
   ·simp only[h,Qn] <;> omega
 ·cases hi with
  |none=>simp [sliceBounds,HT.sIx]
  |
   some i=>
   simp only[sliceBounds,HT.sIx,Option.getD_none,show (1:Int)>0 by decide,PF]
   by_cases h:i<0
   ·simp only[h,PF] <;> omega
   ·simp only[h,Qn] <;> omega
def oK(its:List Value)(lo hi:Option Int):slicePick its.toArray lo hi none=((its.drop (HT.sIx its.length 0 lo)).take (HT.sIx its.length its.length hi-HT.sIx its.length 0 lo)).toArray:=by
 obtain⟨h1,h2,h3⟩:=rY lo hi its.toArray.size
 unfold slicePick
 rw[h1,h2,h3]
 simp only[sliceRange_one,pick_run,t_] <;> rfl
def rSlL(K:W.Frag):V->Option Int->Option Int->Hp->VK->Prop:=λx lo hi H Q=>∃a xs,x=.ref a/\SqL K H a xs/\∀p,H p=none->Q (.ref p) (upd H p (.lst (jq xs lo hi)))
def Fw:SlR X (rSlL X.K):=by
 intro pins s σ H x v vl vu lo hi sl Q I rx hs pl pu h
 obtain⟨a,xs,rfl,hx,q⟩:=h
 cases rx
 obtain⟨its,r,ht,hz⟩:=I.list hx
 have be:=r.length
 refine⟨"list",_,slot_list_getitem.lookup,ht.isList.typeIs,?_⟩
 refine wpAny_getItem_list_slice ht.isList hs pl pu .none (by simp) ?_ (by rw[t_] <;> omega)
 rw[oK,<- be]
 refine⟨.ref s.heap.objs.size,_,I.laid (t':=s.toks) (o:=.lst (jq xs lo hi)) (λb ob q=>n_ _ q) (o_ _) ?_,rfl,q _ (I.hok.fresh (o_ _))⟩
 exact⟨E_ (kh xs lo hi) hz,_,0,(r.drop (HT.sIx xs.length 0 lo)).take (HT.sIx xs.length xs.length hi-HT.sIx xs.length 0 lo),C_ _ rfl⟩
noncomputable def aW:V->Bool
 |.non=>true
 |.bl _=>true
 |.int _=>true
 |.str _=>true
 |_=>false
noncomputable def eqV:V->V->Bool
 |.non,.non=>true
 |.bl a,.bl b=>a==b
 |.bl a,.int b=>(if a then 1 else 0)==b
 |.int a,.bl b=>a==(if b then 1 else 0)
 |.int a,.int b=>a==b
 |.str a,.str b=>a==b
 |_,_=>false
def HU(ry:RelV y u)(rx:RelV x v)(fy:aW y=true)(fx:aW x=true):SeqAt.EqAt A s u v (eqV y x):=by
 cases y with
 |
  non=>
  cases ry
  cases x with
  |non=>cases rx;exact SeqAt.EqAt.same _
  |bl b=>cases rx;exact SeqAt.EqAt.none_bool b
  |int b=>obtain⟨t,rfl⟩:=rx;exact SeqAt.EqAt.none_int b t
  |str b=>obtain⟨t,rfl⟩:=rx;exact SeqAt.EqAt.none_str b t
  |_=>exact absurd (show false=true from fx) y_
 |
  bl a=>
  cases ry
  cases x with
  |non=>cases rx;exact SeqAt.EqAt.bool_none a
  |bl b=>cases rx;exact SeqAt.EqAt.bool_bool a b
  |int b=>obtain⟨t,rfl⟩:=rx;exact SeqAt.EqAt.bool_int a b t
  |str b=>obtain⟨t,rfl⟩:=rx;exact SeqAt.EqAt.bool_str a b t
  |_=>exact absurd (show false=true from fx) y_
 |
  int a=>
  obtain⟨t',rfl⟩:=ry
  cases x with
  |non=>cases rx;exact SeqAt.EqAt.int_none a t'
  |bl b=>cases rx;exact SeqAt.EqAt.int_bool a t' b
  |int b=>obtain⟨t,rfl⟩:=rx;exact SeqAt.EqAt.int_int a t' b t
  |str b=>obtain⟨t,rfl⟩:=rx;exact SeqAt.EqAt.int_str a t' b t
  |_=>exact absurd (show false=true from fx) y_
 |
  str a=>
  obtain⟨t',rfl⟩:=ry
  cases x with
  |non=>cases rx;exact SeqAt.EqAt.str_none a t'
  |bl b=>cases rx;exact SeqAt.EqAt.str_bool a t' b
  |int b=>obtain⟨t,rfl⟩:=rx;exact SeqAt.EqAt.str_int a t' b t
  |str b=>obtain⟨t,rfl⟩:=rx;exact SeqAt.EqAt.str_str a t' b t
  |_=>exact absurd (show false=true from fx) y_
 |_=>exact absurd (show false=true from fy) y_
noncomputable def eqU(x:V)(u:Value):Bool:=match u with
 |.none=>eqV .non x
 |.bool b=>eqV (.bl b) x
 |.int i _=>eqV (.int i) x
 |.str z _=>eqV (.str z) x
 |_=>false
def yR(r:RelV y u)(f:aW y=true):eqU x u=eqV y x:=by
 cases y with
 |non=>cases r;rfl
 |bl b=>cases r;rfl
 |int i=>obtain⟨t,rfl⟩:=r;rfl
 |str z=>obtain⟨t,rfl⟩:=r;rfl
 |_=>exact absurd (show false=true from f) y_
theorem ip:∀{xs:List V}{us:List Value},Vals xs us->xs.all aW=true->us.any (eqU x)=xs.any λy=>eqV y x
 |_,_,.nil,_=>rfl
 |
  y::xs,u::us,.cons r t,f=>by
  rw[Qb,s_] at f
  rw[O3,O3,yR r f.1,ip t f.2]
theorem gn(rx:RelV x v)(fx:aW x=true):∀{xs:List V}{us:List Value},Vals xs us->xs.all aW=true->∀u∈us,SeqAt.EqAt A s u v (eqU x u)
 |_,_,.nil,_=>λu hu=>by cases hu
 |
  y::xs,u::us,.cons r t,f=>λu' hu=>by
  rw[Qb,s_] at f
  rcases I_.mp hu with rfl |hu
  ·rw[yR r f.1];exact HU r rx f.1 fx
  ·exact gn rx fx t f.2 u' hu
def inV(x:V)(xs:List V):Bool:=xs.any λy=>eqV y x
def rIn(K:W.Frag)(neg:Bool):R2:=λx y H Q=>∃p xs,y=.ref p/\(SqL K H p xs\/SqT K H p xs)/\aW x=true/\xs.all aW=true/\Q (.bl (if neg then !inV x xs else inV x xs)) H
def yO:OpR X (compareOp .In) (rIn X.K false):=by
 intro pins s σ H x y v u Q I rx ry h
 obtain⟨p,xs,rfl,hq,fx,fs,q⟩:=h
 cases ry
 rcases hq with hq |hq
 ·obtain⟨its,r,pl,hz⟩:=I.list hq
  refine SeqAt.in_listAt (eqU x) pl.isList (λw hw=>gn rx fx r fs w (by simpa using hw)) ⟨.bl _,H,I,rfl,?_⟩
  rw[show its.toArray.any (eqU x)=its.any (eqU x) by simp,ip r fs]
  exact q
 ·obtain⟨its,r,pl,hz⟩:=I.tuple hq
  refine SeqAt.in_tupleAt (eqU x) pl (λw hw=>gn rx fx r fs w (by simpa using hw)) ⟨.bl _,H,I,rfl,?_⟩
  rw[show its.toArray.any (eqU x)=its.any (eqU x) by simp,ip r fs]
  exact q
def pP:OpR X (compareOp .NotIn) (rIn X.K true):=by
 intro pins s σ H x y v u Q I rx ry h
 obtain⟨p,xs,rfl,hq,fx,fs,q⟩:=h
 cases ry
 rcases hq with hq |hq
 ·obtain⟨its,r,pl,hz⟩:=I.list hq
  refine SeqAt.notIn_listAt (eqU x) pl.isList (λw hw=>gn rx fx r fs w (by simpa using hw)) ⟨.bl _,H,I,rfl,?_⟩
  rw[show its.toArray.any (eqU x)=its.any (eqU x) by simp,ip r fs]
  exact q
 ·obtain⟨its,r,pl,hz⟩:=I.tuple hq
  refine SeqAt.notIn_tupleAt (eqU x) pl (λw hw=>gn rx fx r fs w (by simpa using hw)) ⟨.bl _,H,I,rfl,?_⟩
  rw[show its.toArray.any (eqU x)=its.any (eqU x) by simp,ip r fs]
  exact q
def pY:CallR X (.builtin "len") (λxs H Q=>∃p ys,xs=[.ref p]/\(SqL X.K H p ys\/SqT X.K H p ys)/\Q (.int ys.length) H):=by
 intro pins s σ H xs us Q I r h
 obtain⟨p,ys,rfl,hq,q⟩:=h
 obtain⟨u,rfl,rx⟩:=d4 r
 cases rx
 have hn:=gf
 rcases hq with hq |hq
 ·obtain⟨its,r',pl,hz⟩:=I.list hq
  have be:=r'.length
  exact Calls.call_len_list pl.isList (by simp only[t_] <;> omega) ⟨.int ys.length,H,I.tok _,⟨s.toks+1,by rw[t_,be]⟩,q⟩
 ·obtain⟨its,r',pl,hz⟩:=I.tuple hq
  have be:=r'.length
  exact len_tuple pl (by simp only[t_] <;> omega) ⟨.int ys.length,H,I.tok _,⟨s.toks+1,by rw[t_,be]⟩,q⟩
def qc:CallR X (.builtin "len") (λxs H Q=>∃z,xs=[.str z]/\z.length<=sizeLine/\Q (.int z.length) H):=by
 intro pins s σ H xs us Q I r h
 obtain⟨z,rfl,hz,q⟩:=h
 obtain⟨u,rfl,t,rfl⟩:=d4 r
 have hn:=gf
 exact len_str (by omega) ⟨.int z.length,H,I.tok _,⟨_,rfl⟩,q⟩
def CallR.or(h:CallR X f r)(h':CallR X f r'):CallR X f (λxs H Q=>r xs H Q\/r' xs H Q):=by
 intro pins s σ H xs us Q I rs q
 rcases q with q |q
 ·exact h pins s σ H xs us Q I rs q
 ·exact h' pins s σ H xs us Q I rs q
def qR:CallR X (.type "list") (λxs H Q=>∃p ys,xs=[.ref p]/\(SqL X.K H p ys\/SqT X.K H p ys)/\∀l,H l=none->Q (.ref l) (upd H l (.lst ys))):=by
 intro pins s σ H xs us Q I r h
 obtain⟨p,ys,rfl,hq,q⟩:=h
 obtain⟨u,rfl,rx⟩:=d4 r
 cases rx
 have ii:∀(its:List Value),Vals ys its->ys.length<=sizeLine->∀(h':Heap) (c':Nat),(∀b o',s.heap.get? b=some o'->h'.get? b=some o')->
  h'.get? s.heap.objs.size=some { cls:=.type "list",dict:=none,data:=.seq its.toArray c',slots:=#[] }->EP X pins σ Q (.ref s.heap.objs.size) { s with heap:=h' }:=λits r' hz h' c' kp e=>
  ⟨.ref s.heap.objs.size,_,I.laid (t':=s.toks) kp (o_ _) (show ObjOk X.prog X.w _ h' _ (.lst ys) from ⟨hz,its,c',r',e⟩),rfl,q _ (I.hok.fresh (o_ _))⟩
 rcases hq with hq |hq
 ·obtain⟨its,r',pl,hz⟩:=I.list hq
  have be:=r'.length
  obtain⟨o,ho,hc,n,hd⟩:=pl.isList
  exact call_list_seq p (.inl rfl) ho hc hd (λh' c' kp e=>ii its r' hz h' c' kp e) (by simp only[t_] <;> omega)
 ·obtain⟨its,r',pl,hz⟩:=I.tuple hq
  have be:=r'.length
  obtain⟨o,ho,hc,n,hd⟩:=pl
  exact call_list_seq p (.inr rfl) ho hc hd (λh' c' kp e=>ii its r' hz h' c' kp e) (by simp only[t_] <;> omega)
def tyV(K:W.Frag)(T:String)(x:V)(H:Hp):Prop:=match x with
 |.str _=>T="str"
 |.int _=>T="int"
 |.ref p=>(T="list" /\ ∃xs,SqL K H p xs)\/(T="tuple" /\ ∃o,K.lookup p=some o/\o.cls=.type "tuple" /\ o.dict=none)\/
  (T="dict" /\ ((∃kvs,H p=some (.dK kvs))\/∃kvs,H p=some (.dT kvs)))\/(T="set" /\ ∃S n,H p=some (.set S n))
 |_=>False
def yM(I:Inv X pins σ H s)(r:RelV x v)(ty:tyV X.K T x H):
 s.TypeIs v T/\∀a,v=.ref a->∃ob,s.heap.get? a=some ob/\ob.dict=none:=by
 cases x with
 |
  str z=>
  obtain⟨t,rfl⟩:=r
  cases (show T="str" from ty)
  exact⟨typeIs_str s z t,λ_ e=>nomatch e⟩
 |
  int i=>
  obtain⟨t,rfl⟩:=r
  cases (show T="int" from ty)
  exact⟨typeIs_int s i t,λ_ e=>nomatch e⟩
 |
  ref p=>
  cases r
  rcases ty with ⟨rfl,xs,hq⟩ |⟨rfl,o,hk,hc,hd⟩ |⟨rfl,hk⟩ |⟨rfl,S,n,hk⟩
  ·obtain⟨its,_,pl,_⟩:=I.list hq
   refine⟨pl.isList.typeIs,λa e=>?_⟩
   cases e
   obtain⟨o,n,e,c,hd,_⟩:=pl
   exact⟨o,e,hd⟩
  ·refine⟨⟨o,I.kIn p o hk,hc⟩,λa e=>?_⟩
   cases e
   exact⟨o,I.kIn _ o hk,hd⟩
  ·have z:∃o,s.heap.get? p=some o/\o.ExactDict:=by
    rcases hk with ⟨kvs,hk⟩ |⟨kvs,hk⟩
    ·obtain⟨_,_,_,_,o,_,_,e,ex,_⟩:=I.hok p _ hk
     exact⟨o,e,ex⟩
    ·obtain⟨_,_,_,_,o,_,_,e,ex,_⟩:=I.hok p _ hk
     exact⟨o,e,ex⟩
   obtain⟨o,e,ex⟩:=z
   refine⟨⟨o,e,ex.1⟩,λa e2=>?_⟩
   cases e2
   exact⟨o,e,ex.2.1⟩
  ·obtain⟨o,_,_,_,e,ex,_⟩:=I.hok p _ hk
   refine⟨⟨o,e,ex.1⟩,λa e2=>?_⟩
   cases e2
   exact⟨o,e,ex.2.1⟩
 |_=>exact False.elim ty
def tBM0(K:W.Frag)(T:String)(r:V->List V->Hp->VK->Prop)(to:TE):TE:=λσ H Q=>to σ H λx H1=>tyV K T x H1/\r x [] H1 Q
def tBM(K:W.Frag)(T:String)(r:V->List V->Hp->VK->Prop)(to:TE)(t:TA):TE:=λσ H Q=>to σ H λx H1=>tyV K T x H1/\t σ H1 λxs H2=>r x xs H2 Q
variable{o e:Expr}{es:List Expr}{to:TE}{t:TA}{name:Str}{apos cpos:Pos}{T id:String}{r:V->List V->Hp->VK->Prop}
def K7(pa:PlainAttrs T)(slot:Slot T name id)(hty:typeOf (.builtin id)=pure (.type "method_descriptor"))(hm:MtR X id r)(ho:PE X o to)
 (db:attributeBase o name X.env (eval o X.env)=eval o X.env) (e_:(apos.endLine==cpos.line)=true):PE X (.Call (.Attribute o name apos) [] [] cpos) (tBM0 X.K T r to):=by
 intro pins s σ H Q I h
 refine wpAny_Call_method0_late db e_ (thn (ho pins s σ H _ I h) λv s1 ⟨x,H1,I1,r1,ty,q1⟩=>?_)
 obtain⟨h1,h2⟩:=yM I1 r1 ty
 exact⟨T,id,pa,slot,hty,h1,h2,Calls.callWith_builtin rfl (PySem.evalArgs_none (hm pins s1 σ H1 x [] v [] Q I1 r1 .nil q1))⟩
def C0(pa:PlainAttrs T)(slot:Slot T name id)(hty:typeOf (.builtin id)=pure (.type "method_descriptor"))(hm:MtR X id r)(ho:PE X o to)(ha:PA X (e::es) t)
 (db:attributeBase o name X.env (eval o X.env)=eval o X.env)
 (hfew:((backTo cpos (starEach (e::es) X.env)).all (λx=>!x.1)&&(backToKw cpos (keywordEach [] X.env)).all (λx=>x.1.isSome)
  && decide ((e::es).length+([]:List Keyword).length+(if ([]:List Keyword).isEmpty then 0 else 1)<30))=true)
 (e_:(apos.endLine==cpos.line)=true) (hs:starEach (e::es) X.env=(false,eval e X.env)::starEach es X.env) (ci:(backTo cpos (starEach es X.env)).any (·.1)=false):
 PE X (.Call (.Attribute o name apos) (e::es) [] cpos) (tBM X.K T r to t):=by
 intro pins s σ H Q I h
 refine wpAny_Call_method_late db hfew e_ rfl (thn (ho pins s σ H _ I h) λv s1 ⟨x,H1,I1,r1,ty,q1⟩=>?_)
 obtain⟨h1,h2⟩:=yM I1 r1 ty
 refine⟨T,id,pa,slot,hty,h1,h2,?_⟩
 have hA:=ha cpos pins s1 σ H1 _ I1 q1
 rw[hs] at hA ⊢
 refine Calls.callWith_builtin (by show (false || (backTo cpos (starEach es X.env)).any (·.1))=false;rw[ci] <;> rfl) (Calls.evalArgs_plain ?_)
 exact thn hA λus s2 ⟨vs,H2,I2,r2,q2⟩=>hm pins s2 σ H2 x vs v us Q I2 r1 r2 q2
end
def MtM(X:Cx)(id:String)(r:V->List V->Hp->VK->Prop):Prop:=
 ∀
  (pins:Rb) (s:Shared) (σ:St) (H:Hp) (x:V) (xs:List V) (v:Value) (us:List Value) (Q:VK),Inv X pins σ H s->RelV x v->Vals xs us->r x xs H Q->
  wpAny (model X.prog X.w) X.A (call (.builtin id) (v::us)) (EP X pins σ Q) X.xe s
def Vals.one(r:Vals [x] us):∃u,us=[u]/\RelV x u:=by
 cases r with
 |cons r t=>cases t;exact⟨_,rfl,r⟩
theorem Vals.zero:∀{us:List Value},Vals [] us->us=[]
 |_,.nil=>rfl
def Vals.dropLast(h:Vals xs us):Vals xs.dropLast us.dropLast:=by
 induction h with
 |nil=>exact .nil
 |
  cons r t ih=>
  cases t with
  |nil=>exact .nil
  |cons q t'=>exact .cons r ih
def Vals.reverse(h:Vals xs us):Vals xs.reverse us.reverse:=by
 induction h with
 |nil=>exact .nil
 |cons r t ih=>rw[PC,PC];exact Vals.append ih (.cons r .nil)
def vS{α:Type}(l:List α):l.eraseIdx (l.length-1)=l.dropLast:=by
 induction l with
 |nil=>rfl
 |
  cons a r ih=>
  cases r with
  |nil=>rfl
  |
   cons b r=>
   have e:(a::b::r).length-1=((b::r).length-1)+1:=by
    have h1:(a::b::r).length=r.length+2:=rfl
    have h2:(b::r).length=r.length+1:=rfl
    omega
   rw[e,List.eraseIdx_cons_succ,ih]
   all_goals rfl
section
variable{X:Cx}{pins:Rb}{σ:St}{H:Hp}{s:Shared}{l b:Addr}{xs ys zs:List V}
def Inv.lset{its its':List Value}{n:Nat}{f:Array Value->Array Value}{t':Nat}(I:Inv X pins σ H s)(hH:H l=some (.lst xs))
 (e:s.heap.get? l=some { cls:=.type "list",data:=.seq its.toArray n }) (hf:f its.toArray=its'.toArray) (hv:Vals ys its') (hz:ys.length<=sizeLine):
 Inv X pins σ (upd H l (.lst ys)) { s with heap:=s.heap.update l (Obj.mapSeq f),toks:=t' }:=by
 have q:=PySem.IsL.update e f
 rw[hf] at q
 refine I.write (x:=l) (e:=l) (by rw[hH];exact trivial) (.inl rfl) (λb' u hb hu=>(Qr s.heap (Obj.mapSeq f) (Ne.symm hb)).trans hu) ⟨_,q⟩ ?_
 exact⟨hz,its',_,hv,q⟩
def Inv.lnew(I:Inv X pins σ H s)(hv:Vals ys its)(hz:ys.length<=sizeLine):
 Inv X pins σ (upd H s.heap.objs.size (.lst ys)) { s with heap:=s.heap.push { cls:=.type "list",data:=.seq its.toArray },toks:=t' }:=
 I.laid (λ_ _ q=>n_ _ q) (o_ _) ⟨hz,its,0,hv,C_ _ rfl⟩
def Inv.fresh(I:Inv X pins σ H s):H s.heap.objs.size=none:=I.hok.fresh (o_ _)
def Inv.lstM(I:Inv X pins σ H s)(hH:H l=some (.lst xs)):xs.length<=sizeLine/\∃(its:List Value) (n:Nat),Vals xs its/\xs.length=its.length/\s.heap.get? l=some { cls:=.type "list",data:=.seq its.toArray n }:=by
 obtain⟨z,its,n,r,e⟩:=I.hok l _ hH
 exact⟨z,its,n,r,r.length,e⟩
def BM{n:Nat}(h:n<=sizeLine):Builtin.List.listTooLong n=false:=by
 unfold Builtin.List.listTooLong
 exact B_ (by omega)
end
section
variable{X:Cx}
def nA:V->List V->Hp->VK->Prop:=λx vs H Q=>∃l xs y,x=.ref l/\vs=[y]/\H l=some (.lst xs)/\xs.length<sizeLine/\Q .non (upd H l (.lst (xs++[y])))
def xo:MtM X "list.append" nA:=by
 intro pins s σ H x vs v us Q I rx rv h
 obtain⟨l,xs,y,rfl,rfl,hH,hz,q⟩:=h
 cases rx
 obtain⟨u,rfl,ru⟩:=rv.one
 obtain⟨z,its,n,r,hl,e⟩:=I.lstM hH
 refine call_meets F.slot_list_append ⟨_,e,rfl⟩ F.entry_list_append (F.args_list_append_2 _ _) (PySem.list_append l its.toArray n u (by rw[t_];omega)) ⟨e,?_⟩
 refine⟨.non,_,I.lset (its':=its++[u]) hH e (by simp) (r.append (.cons ru .nil)) ?_,rfl,q⟩
 rw[z_,Qz]
 omega
def zT:V->List V->Hp->VK->Prop:=λx vs H Q=>∃l xs y,x=.ref l/\vs=[]/\H l=some (.lst xs)/\xs[xs.length-1]?=some y/\Q y (upd H l (.lst xs.dropLast))
def Jf:MtM X "list.pop" zT:=by
 intro pins s σ H x vs v us Q I rx rv h
 obtain⟨l,xs,y,rfl,rfl,hH,hy,q⟩:=h
 cases rx
 have hus:=rv.zero
 subst hus
 obtain⟨z,its,n,r,hl,e⟩:=I.lstM hH
 obtain⟨u,hu,ru⟩:=r.get hy
 have hy':its.toArray[its.toArray.size-1]?=some u:=by
  show its.toArray[its.length-1]?=some u
  rw[<- Array.getElem?_toList,<- hl]
  exact hu
 refine call_meets F.slot_list_pop ⟨_,e,rfl⟩ F.entry_list_pop (F.args_list_pop_1 _) (MeetsSeq.list_pop_last l its.toArray n u hy' (by rw[t_];omega)) ⟨e,?_⟩
 refine⟨y,_,I.lset (its':=its.dropLast) hH e ?_ r.dropLast ?_,ru,q⟩
 ·show its.toArray.eraseIdxIfInBounds (its.toArray.size-1)=its.dropLast.toArray
  rw[t_,List.eraseIdxIfInBounds_toArray,vS]
 ·rw[List.length_dropLast]
  omega
def nE:R2:=λx y H Q=>∃l b xs zs,x=.ref l/\y=.ref b/\H l=some (.lst xs)/\H b=some (.lst zs)/\xs.length+zs.length<=sizeLine/\∀p,H p=none->Q (.ref p) (upd H p (.lst (xs++zs)))
def Ir:OpR X (binaryOp .Add) nE:=by
 intro pins s σ H x y v u Q I rx ry h
 obtain⟨l,b,xs,zs,rfl,rfl,hH,hB,hz,q⟩:=h
 cases rx
 cases ry
 obtain⟨z,its,n,r,hl,e⟩:=I.lstM hH
 obtain⟨z2,its2,n2,r2,hl2,e2⟩:=I.lstM hB
 refine PySem.P.add_list e e2 ?_ (by rw[t_,t_];omega)
 have ea:its.toArray++its2.toArray=(its++its2).toArray:=by simp
 rw[ea]
 exact⟨.ref _,_,I.lnew (t':=s.toks) (r.append r2) (by rw[z_];omega),rfl,q _ I.fresh⟩
end
section
variable{prog:Program}{w:World}{A:Around}{E:Rf}{s:Shared}
set_option maxRecDepth 100000 in
end
section
variable{X:Cx}
end
end L2
namespace Att
open PySem PySem.W PySem.Calls PyProof.Rows
def mB:∀(ns:List Int) (vs:List Value),WellAll P h vs (ns.map WData.int)->IntsAre vs ns:=by
 intro ns
 induction ns with
 |
  nil=>
  intro vs w
  rw[OA] at w
  cases w
  exact .nil
 |
  cons n ns ih=>
  intro vs w
  rw[v_] at w
  cases w with
  |
   cons a b=>
   cases a
   exact .cons _ _ (ih _ b)
def yW{l:OpenLaw}{n:Nat}(hn:l.most=some n){P:Params}{h:Heap}{args:List WData}{vals:List Value}
 (hpre:l.row.toRowW.claim.pre args=true) (hwl:WellAll P h vals args):
 ∃a vs ns,vals=[Value.ref a]/\args=[WData.list (ns.map WData.int)]/\h.get? a=some { cls:=.type "list",data:=.seq vs.toArray }/\IntsAre vs ns/\ns.length<=n:=by
 have hsh:WShape.hasAll [] args [.list .int]=true:=(pre_splitW hpre).1
 have hc:l.pre.holds [] { args:=args }=true:=(pre_splitW hpre).2
 obtain⟨d,r,rfl,h1,h2⟩:=hasAllW_cons hsh
 obtain rfl:=hasAllW_nil h2
 obtain⟨xs,rfl,h3⟩:=hasW_list h1
 obtain⟨ns,rfl⟩:=items_int h3
 have be:ns.length<=n:=by
  unfold OpenLaw.pre at hc
  have h4:(WTm.not (.lt (.lit (.int (n:Int))) (.len (.arg 0)))).holds [] { args:=[.list (ns.map .int)] }=true:=by
   have h4:=(holds_andW hc).1
   rw[hn] at h4
   exact h4
  have h5:=condW_of h4 (w_not (w_lt w_lit (w_len_list (w_arg rfl))))
  rw[l_] at h5
  refine Nat.le_of_not_lt λq=>?_
  have q':(n:Int)<((ns.length:Nat):Int):=by omega
  first
   |(rw[J_ q'] at h5;exact absurd h5 (by decide))
   |(simp at h5;omega)
 cases hwl with
 |
  cons w1 w2=>
  cases w2
  cases w1 with
  |list ho hall=>exact⟨_,_,ns,rfl,rfl,ho,mB ns _ hall,be⟩
def yn(l:OpenLaw)(args:List WData):l.row.toRowW.claim.post args (.bool true) args=true:=
 postW_of (r:=l.row.toRowW) (X:=(true==true))
  (show WShape.has [] (.bool true) .bool=true by first |rfl |decide |simp [WShape.has,WShape.arms,WShape.armsAll])
  (show (WTm.eq .res (.lit (.bool true))).value [] { args:=args,res:=some (.bool true),after:=args }=some (.bool (true==true)) from w_eq_bool (w_res rfl) w_lit) rfl
def attach_call{l:OpenLaw}{n:Nat}{q:Program}{loose:List Str}{XP:(Str->Option Value)->Heap->Prop}{YP:World->Heap->Prop}{d:DefRec}
 (hn:l.most=some n) (hdf:d.params.defaults=[])
 (call:∀(w:World) (s₀ s₁:Shared) (mg mb:Ra) (fa:Addr) (o:Obj) (pm cd doc:Value) (a:Addr) (vs:List Value) (ns:List Int),
  Ground q loose [] XP w s₀ mg mb s₁.heap->YP w s₁.heap->
  s₁.heap.get? fa=some o->o.data=.func (docDef d.name d.params d.body d.scope pm cd doc)->s₁.heap.CodeRec cd d.name->mg d.name=some (.ref fa)->
  s₁.heap.get? a=some { cls:=.type "list",data:=.seq vs.toArray }->IntsAre vs ns->ns.length<=n->s₁.gens=#[]->
  codeAny (model l.prog w) callerA (.call (.ref fa) ⟨[.ref a],[]⟩) (λr s'=>r=.ok (.ret (.bool true))/\OldK s₁.heap s'.heap/\s'.os=s₁.os/\AllBare s'.gens) s₁):
 WalkO q loose XP YP l.row.toRowW d [] (λf vs=>PySem.call f vs):=by
 intro w s₀ s₁ mg mb G Y fa o pm cd doc dV kV ho hd jp hD hmg hg args vals as hpre hlay hrd hwl hlo
 obtain rfl:dV=.none:=Dflts.none hD hdf
 obtain rfl:kV=.none:=Dflts.noKw hD
 obtain⟨a,vs,ns,rfl,rfl,hobj,hints,be⟩:=yW hn hpre hwl
 refine enter_call (QK (call w s₀ s₁ mg mb fa o pm cd doc a vs ns G Y ho (fd_plain hd) jp hmg hobj hints be hg) λr s' hq=>?_)
 obtain⟨rfl,h2,h3,h4⟩:=hq
 exact⟨.inl ⟨.bool true,.bool true,[],rfl,λ_=>rfl,.bool true,yn l _,λ_=>⟨List.Pairwise.nil,λ_ hm=>(nomatch hm)⟩⟩,h2,h3,h4⟩
section
variable{prog:Program}{w:World}{A:Around}{E:Rf}{s:Shared}{K:Frag}
def ledger(h:Heap)(L d:Addr):List (Addr×Obj):=(List.range h.objs.size).filterMap λa=>if a=L\/a=d then none else (h.get? a).map λo=>(a,o)
end
end Att
namespace L2
open PySem PySem.Spec PyProof.Rows
theorem jC:∀{vs:List Value}{ns:List Int},IntsAre vs ns->Vals (ns.map V.int) vs
 |_,_,.nil=>.nil
 |_,_,.cons n t h=>.cons ⟨t,rfl⟩ (jC h)
def BO(H:Hp):Prop:=∀b,H b=none\/∃o xs,H b=some (.frz o (.lst xs))
def BI{P:Program}{w:World}{K:W.Frag}{mg mb:Ra}{CX:CXT}{k:Nat}{fa a:Addr}{fd:FuncData}{x:Str}{sp:Sp}{s₁:Shared}{vs:List Value}{ns:List Int}
 (KX:K.In s₁.heap) (hns:s₁.heap.Ns mainGlobals mg) (hb:s₁.heap.Ns builtinsNs mb) (hbb:∀x:Str,x ≠ "__name__"->mb x=bootBuiltins x) (hlim:s₁.heap.NoLimit) (hg:s₁.gens=#[])
 (ha:s₁.heap.get? a=some { cls:=.type "list",data:=.seq vs.toArray }) (hi:IntsAre vs ns) (hl:ns.length<=sizeLine) (hr:Room k callerA)
 (F:∀base:Heap,K.In base->base.Ns mainGlobals mg->FnOk P w K mg base CX k fa fd [x] sp) (hbind:∀(s:Shared) (u:Value),BindsTo s fd ⟨[u],[]⟩ [(x,u)])
 (hsp:∀H:Hp,BO H->SqL K H a (ns.map V.int)->sp [.ref a] H (λv _=>v=.bl true) λ_ _ _=>False)
 (hCX:∀H e s',CX [] H s₁ (λ_ _ _=>False) e s'->False):
 codeAny (model P w) callerA (.call (.ref fa) ⟨[.ref a],[]⟩) (λr s'=>r=.ok (.ret (.bool true))/\OldK s₁.heap s'.heap/\s'.os=s₁.os/\AllBare s'.gens) s₁:=by
 have rv:=jC hi
 have lenV:=hi.length
 have core
  : ∀H:Hp,BO H->SqL K H a (ns.map V.int)->HOk P w H s₁.heap->(∀b,H b≠none->b=a)->(H a≠none->K.lookup a=none)->
  codeAny (model P w) callerA (.call (.ref fa) ⟨[.ref a],[]⟩) (λr s'=>r=.ok (.ret (.bool true))/\OldK s₁.heap s'.heap/\s'.os=s₁.os/\AllBare s'.gens) s₁:=by
  intro H hO hS hok hA hK
  have base_of:∀{b:Addr}{o:Obj},s₁.heap.get? b=some o->H b=none->(eS s₁.heap H).get? b=some o:=λe n=>pQ e n
  have noA:∀{b:Addr}{o:Obj}{es:Array DictEntry}{ep:Nat},s₁.heap.get? b=some o->o.data=.dict es ep->H b=none:=λ{b o es ep} e d=>by
   cases q:H b with
   |none=>rfl
   |
    some u=>
    have e':b=a:=hA b (by rw[q];simp)
    subst e'
    rw[ha] at e;cases e
    have d':Data.seq vs.toArray _=Data.dict es ep:=d
    cases d'
  have nsK:∀{b:Addr}{m:Ra},s₁.heap.Ns b m->(eS s₁.heap H).Ns b m:=λ{b m} ⟨o,es,ep,e,d,r⟩=>⟨o,es,ep,base_of e (noA e d),d,r⟩
  have hKb:K.In (eS s₁.heap H):=λb o e=>base_of (KX b o e) (by
   cases q:H b with
   |none=>rfl
   |
    some u=>
    have e':b=a:=hA b (by rw[q];simp)
    subst e'
    rw[hK (by rw[q];simp)] at e;cases e)
  have hM:Mod K mg (eS s₁.heap H):=⟨hKb,nsK hns,⟨mb,nsK hb,hbb⟩,let ⟨mc,h1,h2⟩:=hlim;⟨mc,nsK h1,h2⟩⟩
  have e0:Env0 P w K mg (eS s₁.heap H) callerA [] s₁ H:=⟨rfl,hM,λb o e=>uJ e,Nat.le_of_eq (oq _ _),trivial,λb hb=>absurd (show b∈([]:List Addr) from hb) (by simp),hok,.of_eq hg⟩
  refine QK ((F _ hKb (nsK hns)).run callerA [] s₁ H ⟨[.ref a],[]⟩ [.ref a] [.ref a] _ _ hr e0 (hbind s₁ (.ref a)) (.cons rfl .nil) (hsp H hO hS)) λr s' h=>?_
  cases r with
  |error e=>exact (hCX H e s' h).elim
  |
   ok fl=>
   cases fl with
   |next=>exact False.elim h
   |brk=>exact False.elim h
   |cont=>exact False.elim h
   |
    ret u=>
    obtain⟨v,H',os,bare,un,hok',r',q⟩:=h
    have q':v=.bl true:=q
    subst q'
    obtain rfl:u=Value.bool true:=r'
    refine⟨rfl,OldK.of_keep λb o e=>?_,os,bare⟩
    cases q:H b with
    |none=>exact un.keep b o e q (by intro z;exact absurd (show b∈([]:List Addr) from z) (by simp)) (by simp)
    |
     some u=>
     rcases hO b with z |⟨ob,xs,z⟩
     ·rw[q] at z;cases z
     ·have z2:=un.frzs b ob _ z
      obtain⟨e1,_⟩:=hok b _ z
      obtain⟨e2,_⟩:=hok' b _ z2
      rw[e] at e1;cases e1
      exact e2
 cases hk:K.lookup a with
 |
  some o=>
  have e:=KX a o hk
  rw[ha] at e
  cases e
  refine core (λ_=>none) (λ_=>.inl rfl) (.inr ⟨_,vs.toArray,_,hk,rfl,rfl,rfl,by rw[t_,lenV];exact hl,by simpa using rv⟩) (λb u z=>by have z':(none:Option HO)=some u:=z;cases z') (λb z=>absurd rfl z) λz=>absurd rfl z
 |
  none=>
  refine core (λb=>if b=a then some (.frz { cls:=.type "list",data:=.seq vs.toArray } (.lst (ns.map V.int))) else none) (λb=>?_) (.inl (.inr ⟨{ cls:=.type "list",data:=.seq vs.toArray },if_pos rfl⟩)) (λb u z=>?_) (λb z=>?_) λ_=>hk
  ·by_cases hb:b=a
   ·exact .inr ⟨_,_,if_pos hb⟩
   ·exact .inl (if_neg hb)
  ·by_cases hb:b=a
   ·have z':=(if_pos hb).symm.trans z
    cases z'
    subst hb
    exact⟨ha,by rw[l_];exact hl,vs,_,rv,ha⟩
   ·have z':=(if_neg hb).symm.trans z
    cases z'
  ·by_cases hb:b=a
   ·exact hb
   ·exact absurd (if_neg hb) z
abbrev KOf{K:W.Frag}{h:Heap}(_:K.In h):W.Frag:=K
def Om{l:W.OpenLaw}{n k:Nat}{q:Program}{loose:List Str}{XP:(Str->Option Value)->Heap->Prop}{YP:World->Heap->Prop}{d:DefRec}{K:Params->W.Frag}{CX:World->CXT}{sp:World->Sp}{x:Str}
 (hn:l.most=some n) (hn2:n<=sizeLine) (hdf:d.params.defaults=[]) (hr:Room k callerA)
 (hY:∀(w:World) (h:Heap),YP w h->(K w.params).In h)
 (F:∀(w:World) (mg:Ra) (fa:Addr) (h:Heap),(K w.params).In h->h.Ns mainGlobals mg->mg d.name=some (.ref fa)->
  ∃
   fd:FuncData,(∀(s:Shared) (u:Value),BindsTo s fd ⟨[u],[]⟩ [(x,u)])/\
   ∀base:Heap,(K w.params).In base->base.Ns mainGlobals mg->FnOk l.prog w (K w.params) mg base (CX w) k fa fd [x] (sp w))
 (hsp:∀(w:World) (H:Hp) (a:Addr) (ns:List Int),ns.length<=n->BO H->SqL (K w.params) H a (ns.map V.int)->sp w [.ref a] H (λv _=>v=.bl true) λ_ _ _=>False)
 (hCX:∀(w:World) (H:Hp) (s:Shared) (e:Value) (s':Shared),CX w [] H s (λ_ _ _=>False) e s'->False):
 W.WalkO q loose XP YP l.row.toRowW d [] (λf vs=>PySem.call f vs):=by
 refine Att.attach_call hn hdf λw s₀ s₁ mg mb fa o pm cd doc a vs ns G Y ho hd jp hmg hobj hints be hg=>?_
 have KX:=hY w _ Y
 obtain⟨fd,hb,hF⟩:=F w mg fa _ KX G.T.g hmg
 exact BI KX G.T.g G.T.b G.T.builtins G.T.nolimit hg hobj hints (E_ be hn2) hr hF hb (λH hO hS=>hsp w H a ns be hO hS) λH e s'=>hCX w H s₁ e s'
def bI(s:Stmt):Arguments:=match s with
 |.FunctionDef _ a _ _ _ _ _ _ _ _=>a
 |_=>{ posonlyargs:=[],args:=[],vararg:=none,kwonlyargs:=[],kw_defaults:=[],kwarg:=none,defaults:=[] }
def aK(s:Stmt):List Stmt:=match s with
 |.FunctionDef _ _ b _ _ _ _ _ _ _=>b
 |_=>[]
noncomputable def ak(s:Stmt):Scope:=match s with
 |.FunctionDef _ _ _ _ _ _ sc _ _ _=>sc
 |_=>{ kind:=.function,names:=[],isGenerator:=false,isCoroutine:=false }
abbrev E0:XK:=λ_ _ _=>False
structure Fun(K:W.Frag)(x qual:Str)(st:Stmt)(f:Addr)(fd:FuncData):Prop where
 ex:∃(oc:Value) (od:Option Addr) (kV doc pm:Value) (an:Option Addr) (cdv ct:Value) (osl:Array (Option Value)),
  fd=W.fnOf x qual (bI st) (aK st) (ak st) .none kV doc pm an cdv ct/\K.lookup f=some ⟨oc,od,.func fd,osl⟩/\W.codeIn K cdv qual=true
 kp:W.keepIn K (.ref f)=true
section
variable{P:Program}{w:World}{K:W.Frag}{mg:Ra}{base:Heap}
def Fun.binds{x qual:Str}{st:Stmt}{f:Addr}{fd:FuncData}{ps:List Str}(F:Fun K x qual st f fd)
 (h:∀(kV doc pm:Value) (an:Option Addr) (cdv ct:Value) (us:List Value),us.length=ps.length->bindArgs (W.fnOf x qual (bI st) (aK st) (ak st) .none kV doc pm an cdv ct) ⟨us,[]⟩=pure (ps.zip us)):Binds K fd ps []:=by
 obtain⟨oc,od,kV,doc,pm,an,cdv,ct,osl,rfl,lk,jp⟩:=F.ex
 exact .all (h kV doc pm an cdv ct)
def Jh{x qual:Str}{st:Stmt}{f:Addr}{oc:Value}{od an:Option Addr}{osl:Array (Option Value)}{kV doc pm cdv ct:Value}(l:K.lookup f=some ⟨oc,od,.func (W.fnOf x qual (bI st) (aK st) (ak st) .none kV doc pm an cdv ct),osl⟩)
 (c:W.codeIn K cdv qual=true) (k:W.keepIn K (.ref f)=true):Fun K x qual st f (W.fnOf x qual (bI st) (aK st) (ak st) .none kV doc pm an cdv ct):=⟨⟨oc,od,kV,doc,pm,an,cdv,ct,osl,rfl,l,c⟩,k⟩
end
def N0(hr:Room k A):A.units+1<cLine:=Pb (Nat.add_le_add_left (by decide:1<=64) _) hr.units
section
variable{X:Cx}
end
section
variable{X:Cx}{pins:Rb}{σ:St}{H:Hp}{s:Shared}
def Inv.track{a:Addr}{o:HO}(I:Inv X pins σ H s)(hn:H a=none)(h0:X.s₀.heap.get? a=none)(hL:a≠X.env.locals)(hc:∀x c,X.env.cells.lookup x=some c->c≠a)
 (hp:∀p∈X.pn++pins,p.1≠a) (new:ObjOk X.prog X.w (upd H a o) s.heap a o):Inv X pins σ (upd H a o) s:=by
 have ne:∀b u,H b=some u->b≠a:=λb u e z=>by rw[z,hn] at e;cases e
 have ne0:∀b u,X.s₀.heap.get? b=some u->b≠a:=λb u e z=>by rw[z,h0] at e;cases e
 refine⟨I.ok,I.os,I.bare,⟨I.base.keep,I.base.slot,λb u e n hx=>?_,I.base.there,λb xs e=>?_,λb u xs e=>?_,λb ps e=>?_⟩,I.loc,I.cell,?_,λx c e=>?_,λp hp'=>?_,λb u e=>?_,I.len⟩
 ·rw[aq (ne0 b u e)];exact I.base.free b u e n hx
 ·have q:=I.base.tups b xs e
  rw[aq (ne _ _ q)];exact q
 ·have q:=I.base.frzs b u xs e
  rw[aq (ne _ _ q)];exact q
 ·obtain⟨m,q⟩:=I.base.tbls b ps e
  exact⟨m,by rw[aq (ne _ _ q)];exact q⟩
 ·rw[aq (Ne.symm hL)];exact I.free
 ·rw[aq (hc x c e)];exact I.freeC x c e
 ·obtain⟨e,n,r⟩:=I.pin p hp'
  exact⟨e,by rw[aq (hp p hp')];exact n,r⟩
 ·by_cases hb:b=a
  ·subst hb;rw[aR] at e;cases e;exact new
  ·rw[aq hb] at e
   exact (I.hok b u e).stay (λc v _ q=>q) (λc q=>by rw[aq (ne _ _ q)];exact q) λc xs q=>by rw[aq (ne _ _ q)];exact q
end
theorem iJ{env:Env}:∀{names:List (Str×NameKind)} (cs:List (Str×Addr)),(∀x∈names,x.2=.free->∃c,env.cells.lookup x.1=some c)->(∀x c,cs.lookup x=some c->env.cells.lookup x=some c)->
 ∃
  cl,(forIn names cs λ(x:Str×NameKind) (r:List (Str×Addr))=>if (x.2==NameKind.free)=true then do let a <- cellOf env x.1;pure (ForInStep.yield ((x.1,a)::r)) else pure (ForInStep.yield r):Sem (List (Str×Addr)))=pure cl/\
  (∀x c,cl.lookup x=some c->env.cells.lookup x=some c)/\(∀x c,cs.lookup x=some c->∃c',cl.lookup x=some c')/\∀x∈names,x.2=.free->∃c,cl.lookup x.1=some c
 | [],cs,_,h=>⟨cs,by simp,h,λx c e=>⟨c,e⟩,λ_ hx=>nomatch hx⟩
 |
  (n,k)::r,cs,hf,h=>by
  rw[List.forIn_cons]
  by_cases hk:k=.free
  ·subst hk
   obtain⟨c,hc⟩:=hf (n,.free) p_ rfl
   have j_:cellOf env n=pure c:=by unfold cellOf;rw[hc]
   have h':∀x d,((n,c)::cs).lookup x=some d->env.cells.lookup x=some d:=λx d e=>by
    rw[OT] at e
    cases q:x==n with
    |true=>rw[q] at e;cases e;rw[Ov.mp q];exact hc
    |false=>rw[q] at e;exact h x d e
   obtain⟨cl,e1,e2,e3,e4⟩:=iJ (env:=env) (names:=r) ((n,c)::cs) (λx hx=>hf x (m_ _ hx)) h'
   have top:∃c',cl.lookup n=some c':=e3 n c (by rw[OT];simp)
   refine⟨cl,?_,e2,λx d e=>?_,λx hx hfr=>?_⟩
   ·simp only[P9,PF,j_]
    exact e1
   ·by_cases q:x=n
    ·rw[q];exact top
    ·exact e3 x d (by rw[OT,(D_.mpr q:(x==n)=false)];exact e)
   ·rcases I_.mp hx with rfl |hx
    ·exact top
    ·exact e4 x hx hfr
  ·have hb:(k==NameKind.free)=false:=by simpa using hk
   obtain⟨cl,e1,e2,e3,e4⟩:=iJ (env:=env) (names:=r) cs (λx hx=>hf x (m_ _ hx)) h
   refine⟨cl,?_,e2,e3,λx hx hfr=>?_⟩
   ·simp only[hb,Pn,Qn]
    exact e1
   ·rcases I_.mp hx with rfl |hx
    ·exact absurd hfr hk
    ·exact e4 x hx hfr
def oE{env:Env}{scope:Scope}(hf:∀x∈scope.names,x.2=.free->∃c,env.cells.lookup x.1=some c):
 ∃cl,closureFor scope env=pure cl/\(∀x c,cl.lookup x=some c->env.cells.lookup x=some c)/\∀x∈scope.names,x.2=.free->∃c,cl.lookup x.1=some c:=by
 obtain⟨cl,e1,e2,_,e4⟩:=iJ (env:=env) (names:=scope.names) [] hf (λx c e=>by simp at e)
 refine⟨cl,?_,e2,e4⟩
 unfold closureFor
 simp only[e1]
 rfl
noncomputable def aF(X:Cx)(N:List Str)(scope:Scope)(cl:List (Str×Addr))(C:Addr)(s₂:Shared)(H:Hp)(fp:List Addr):Cx:=
 { X with N:=N,s₀:=s₂,H₀:=H,env:=compEnvC scope cl C X.env,outer:=X.stack,stack:=X.stack,ex:=fp,fn:=λ_=>false,pn:=[],xe:=λ_ _=>False }
def fA(sub:Rg)(σ:St):St:=sub.map λo=>o.bind λi=>(σ[i]?).bind id
def LcW(J:It)(sub:Rg)(g:TG)(tc:TT)(te:TE)(σ:St)(H1:Hp)(Q:VK):Prop:=∃W:Nat->Nat->List V->St->Hp->Prop,(∃m,W 0 m [] (fA sub σ) H1)/\∀i m ys σ H,W i m ys σ H->
 (J.stop i H/\ys.length<=sizeLine/\∀D,H D=none->Q (.ref D) (upd H D (.lst ys)))\/
 (J.go i H/\ys.length<sizeLine/\∃Nx:List V->St->Hp->Prop,(∀ys' σ' H',Nx ys' σ' H'->∃m',m'<m/\W (i+1) m' ys' σ' H')/\
  ∀x H',J.yld i H x H'->g x σ H' λσ2 H2=>tc σ2 H2 λb H3=>if b=true then te σ2 H3 λy H4=>Nx (ys++[y]) σ2 H4 else Nx ys σ2 H3)
def jc(wi:TI)(sub:Rg)(g:TG)(tc:TT)(te:TE):TE:=λσ H Q=>wi σ H λJ H1=>LcW J sub g tc te σ H1 Q
abbrev B6:TT:=λ_ H Q=>Q true H
section
variable{prog:Program}{w:World}{A:Around}{R:Result->Shared->Prop}{s:Shared}
def sS{io target a_:Expr}{ifs:List Expr}{scope:Scope}{pos:Pos}{it acc:Value}{env:Env}(I:Nat->Shared->Prop)
 (turn
  : ∀n s,I n s->wpAny (model prog w) A (pyNext it) (λr s₁=>match r with
  |none=>R (.ok .next) s₁
  |some v=>wpAny (model prog w) A (letOwnedTupleGo target it v) (λ_ s₁'=>wpAny (model prog w) A (assign target env v) (λ_ s₂=>
   wpAny (model prog w) A (forIn ifs true λc r=>if r=true then do let ok <- isTrue c env (eval c env);pure (ForInStep.yield ok) else pure (ForInStep.yield r))
    (λok s₃=>if ok=true then wpAny (model prog w) A (eval io env) (λx s₄=>wpAny (model prog w) A (call (.builtin "list.append") [acc,x]) (λ_ s₅=>∃m,m<n/\I m s₅) (λ_ _=>False) s₄) (λ_ _=>False) s₃
     else ∃m,m<n/\I m s₃) (λ_ _=>False) s₂) (λ_ _=>False) s₁') (λ_ _=>False) s₁) (λ_ _=>False) s)
 (n:Nat) (h:I n s):
 codeAny (model prog w) A (.compLoop (.ListComp io [⟨target,a_,ifs,0⟩] scope pos) 0 it acc env) R s:=by
 refine codeAny_loop rfl I (λn s hI=>?_) n h
 show wpAny _ _ ((compTurn (.ListComp io [⟨target,a_,ifs,0⟩] scope pos) 0 it acc env).onRaise (λx=>do noteFrame x env;theTreesLotGoes x)) _ _ s
 refine wpAny_noted ?_
 rw[compTurn_list]
 refine OB (E:=λ_ _=>False) ?_ (λ_ _ q=>q) λ_ _ q=>q.elim
 refine k_ (Qe (k_ (OB (turn n s hI) (λr s₁ h₁=>?_) λ_ _ h'=>h')))
 cases r with
 |none=>exact u_ h₁
 |
  some v=>
  refine k_ (OB h₁ (λ_ s₁' h₁'=>?_) λ_ _ h'=>h')
  refine k_ (OB h₁' (λ_ s₂ h₂=>?_) λ_ _ h'=>h')
  refine k_ (OB h₂ (λok s₃ h₃=>?_) λ_ _ h'=>h')
  cases ok with
  |
   true=>
   simp only[PF] at h₃ ⊢
   refine k_ (k_ (OB h₃ (λx s₄ h₄=>?_) λ_ _ h'=>h'))
   refine k_ (OB h₄ (λ_ s₅ h₅=>?_) λ_ _ h'=>h')
   exact u_ (u_ ⟨rfl,h₅⟩)
  |
   false=>
   simp only[Pn,Qn] at h₃ ⊢
   first
    |exact k_ (u_ (u_ ⟨rfl,h₃⟩))
    |exact u_ ⟨rfl,h₃⟩
end
section
variable{X:Cx}
def PTs(X:Cx)(ifs:List Expr)(t:TT):Prop:=
 ∀
  (pins:Rb) (s:Shared) (σ:St) (H:Hp) (Q:Bool->Hp->Prop),Inv X pins σ H s->t σ H Q->
  wpAny (model X.prog X.w) X.A (forIn ifs true λc r=>if r=true then do let ok <- isTrue c X.env (eval c X.env);pure (ForInStep.yield ok) else pure (ForInStep.yield r)) (TP X pins σ Q) X.xe s
def uY:PTs X [] (λ_ H Q=>Q true H):=λpins s σ H Q I h=>by
 rw[List.forIn_nil]
 exact u_ ⟨H,I,h⟩
structure LcEnd(X:Cx)(pins:Rb)(σ:St)(Q:VK)(D C:Addr)(s4:Shared):Prop where
 ns:∃m,s4.heap.Ns C m
 dc:D<C
 fr:X.env.locals<D
 cell:∀x c,X.env.cells.lookup x=some c->c<D
 pin:∀p∈X.pn++pins,p.1<D
 sz:X.s₀.heap.objs.size<=D
 inv:∃H',H' C=none/\Q (.ref D) H'/\∀h',Heap.SameBut C s4.heap h'->Inv X pins σ H' { s4 with heap:=h' }
def uP{io a_ tg:Expr}{ifs:List Expr}{scope:Scope}{pos:Pos}{wi:TI}{g:TG}{tc:TT}{te:TE}{N:List Str}{sub:Rg}{use:Option (Value->Sem Unit)}{R:Rf}{pins:Rb}{s:Shared}{σ:St}{H:Hp}{Q:VK}{fpos:Pos}
 (hc:X.calm=true) (hi:PI X tg a_ wi)
 (hk:scope.kind=.function) (hnc:∀x∈scope.names,x.2 ≠ .cell) (b_:∀x∈scope.names,x.2=.local->scope.names.lookup x.1=some .local)
 (hfr:∀x∈scope.names,x.2=.free->X.env.kindOf x.1=some .cell\/X.env.kindOf x.1=some .free)
 (hsl:sub.length=N.length) (f_:∀(j i:Nat) (x:Str),sub[j]?=some (some i)->N[j]?=some x->X.N[i]?=some x/\scope.names.lookup x=some .free)
 (hg:∀cl C s₂ H fp,PG (aF X N scope cl C s₂ H fp) tg g) (ht:∀cl C s₂ H fp,PTs (aF X N scope cl C s₂ H fp) ifs tc) (he:∀cl C s₂ H fp,PE (aF X N scope cl C s₂ H fp) io te)
 (hs:∀x,foldedSetIterable a_ X.env x=pure x) (I:Inv X pins σ H s) (h:jc wi sub g tc te σ H Q)
 (ii:∀D C s4,LcEnd X pins σ Q D C s4->compPost (model X.prog X.w) X.A X.xe use R (.ref D) C (.ok .next) s4):
 wpAny (model X.prog X.w) X.A (comprehension (.ListComp io [⟨tg,a_,ifs,0⟩] scope pos) scope X.env fpos (newList []) false (eval a_ X.env) use) R X.xe s:=by
 obtain⟨cl,hclos,hcl,hclf⟩:=oE (env:=X.env) (scope:=scope) λx hx hf=>I.ok.has x.1 (hfr x hx hf)
 refine wpAny_comprehension_free rfl hs hclos hk b_ ?_
 show wpAny _ _ (eval a_ X.env) _ _ _
 refine thn (hi pins s σ H _ I h) λv s1 h1=>thn h1 λitv s2 h2=>?_
 obtain⟨it,fp,tn,J,H2,e,I2,T,st2,f2,W,⟨m0,w0⟩,turn⟩:=h2
 subst e
 refine O6 (wpAny_newFunctionEnv hnc (by intro y hy;simp at hy) (λh₁ hns₁ hsb₁=>?_) hk)
 dsimp only at hns₁ hsb₁ ⊢
 generalize hH2:s2.heap.push { cls:=.type "list",dict:=none,data:=.seq ([]:List Value).toArray }=G2 at hns₁ hsb₁ ⊢
 have hC:G2.objs.size=s2.heap.objs.size+1:=by rw[<- hH2,Qo]
 have hDC:s2.heap.objs.size≠G2.objs.size:=by omega
 have below:∀b,b<s2.heap.objs.size->b≠G2.objs.size/\b≠s2.heap.objs.size:=λb hb=>⟨by omega,by omega⟩
 have old:∀b o,s2.heap.get? b=some o->h₁.get? b=some o:=λb o e=>hsb₁.extBut b o (below b (w_ e)).1 (n_ _ (hH2 ▸ n_ _ e))
 have hD₁:h₁.get? s2.heap.objs.size=some { cls:=.type "list",dict:=none,data:=.seq ([]:List Value).toArray }:=hsb₁.extBut _ _ hDC (n_ _ (hH2 ▸ C_ _ rfl))
 have fresh:∀a,s2.heap.objs.size<=a->s2.heap.get? a=none:=λa ha=>QD ha
 have cellOld:∀x c,cl.lookup x=some c->c<s2.heap.objs.size:=λx c e=>by
  obtain⟨v,z⟩:=I2.cell x c (hcl x c e)
  exact z.lt
 have fpOld:∀b∈fp,b<s2.heap.objs.size:=λb hb=>by
  obtain⟨o,e,_⟩:=T.obj _ _ st2 b hb
  exact w_ e
 let Y:Cx:=aF X N scope cl G2.objs.size s2 H2 fp
 have okY:Y.Ok
  := by
  refine⟨I2.ok.mod,?_,I2.ok.glob,I2.ok.blt,?_,λx y c e1 e2=>I2.ok.inj x y c (hcl x c e1) (hcl y c e2),λx hx=>?_,λx c hfn _=>absurd hfn y_,I2.ok.hd,I2.ok.frames,.inl rfl,
   λb hb=>⟨?_,λx c e z=>?_⟩,I2.bs,E_ I2.ok.bsz I2.sz,λb o e hb=>?_,λb hb hf=>?_,I2.stack,I2.stkFree⟩
  ·show (relabel scope X.env).kind=.function
   exact hk
  ·show s2.heap.objs.size<=G2.objs.size
   omega
  ·have hx':(
    relabel scope X.env).names.lookup x=some .cell\/(relabel scope X.env).names.lookup x=some .free:=hx
   have:∃k,
    (x,k)∈scope.names/\k=.free:=by
    have gen:∀(names:List (Str×NameKind)),(∀y∈names,y.2 ≠ .cell)->∀kk,(kk=NameKind.cell\/kk=NameKind.free)->(names.map λ(n,k)=>if (k==NameKind.free&&X.env.scope.kind == .function&&X.env.kindOf n==some .cell) then (n,NameKind.cell) else (n,k)).lookup x=some kk->∃k,(x,k)∈names/\k=.free:=by
     intro names
     induction names with
     |nil=>intro _ kk _ e;simp at e
     |
      cons y r ih=>
      intro hn kk hkk e
      obtain⟨n,k⟩:=y
      rw[v_,OT] at e
      by_cases hkf:k=.free
      ·subst hkf
       by_cases hxn:x=n
       ·exact⟨.free,by rw[hxn];exact p_,rfl⟩
       ·have hb:(x==(if (NameKind.free==NameKind.free&&X.env.scope.kind == .function&&X.env.kindOf n==some .cell)=true then (n,NameKind.cell) else (n,NameKind.free)).1)=false:=by
         split <;> exact D_.mpr hxn
        rw[hb] at e
        obtain⟨k',m,q⟩:=ih (λz hz=>hn z (m_ _ hz)) kk hkk e
        exact⟨k',m_ _ m,q⟩
      ·have hb0:(k==NameKind.free&&X.env.scope.kind == .function&&X.env.kindOf n==some .cell)=false:=by
        have:(k==NameKind.free)=false:=by simpa using hkf
        rw[this];rfl
       rw[hb0] at e
       simp only[Pn,Qn] at e
       cases q:x==n with
       |
        true=>
        rw[q] at e
        have e':k=kk:=H_ e
        subst e'
        rcases hkk with z |z
        ·exact absurd z (hn (n,k) p_)
        ·exact absurd z hkf
       |
        false=>
        rw[q] at e
        obtain⟨k',m,q⟩:=ih (λz hz=>hn z (m_ _ hz)) kk hkk e
        exact⟨k',m_ _ m,q⟩
    rcases hx' with z |z
    ·exact gen scope.names hnc _ (.inl rfl) z
    ·exact gen scope.names hnc _ (.inr rfl) z
   obtain⟨k,m,q⟩:=this
   exact hclf (x,k) m q
  ·show b≠G2.objs.size
   exact (below b (fpOld b hb)).1
  ·exact (f2 b hb).2.2.2.2.1 x c (hcl x c e) z
  ·rcases (f2 b hb).2.2.2.1 with z |z
   ·exact I2.ok.noex b o e z
   ·exact absurd (F_ (w_ e) (E_ I2.ok.bsz z)) (OV _)
  ·have hf':b∈frs X.stack:=hf
   rcases I_.mp (I2.stkSub b hf') with z |z
   ·exact (f2 b hb).2.1 z
   ·exact (f2 b hb).2.2.1 z
 have startLoc
  : ∃m,h₁.Ns G2.objs.size m/\∀(i:Nat) (x:Str) (v:V),N[i]?=some x->(fA sub σ)[i]?=some (some v)->Vis (relabel scope X.env) x->∃u,RelV v u/\Look Y.env h₁ m x u:=by
  refine⟨_,hns₁,λj x v e1 e2 e3=>?_⟩
  unfold fA at e2
  rw[L_] at e2
  cases q:sub[j]? with
  |none=>rw[q] at e2;cases e2
  |
   some o=>
   rw[q] at e2
   cases o with
   |none=>cases e2
   |
    some i=>
    obtain⟨hNi,hfree⟩:=f_ j i x q e1
    have e2':(σ[i]?).bind id=some v:=H_ e2
    have e2'':σ[i]?=some (some v):=by
     cases z:σ[i]? with
     |none=>rw[z] at e2';cases e2'
     |some y=>rw[z] at e2';rw[show y=some v from e2']
    obtain⟨m2,hn2,hl2⟩:=I2.loc
    have hkx:=hfr (x,.free) (O9 hfree) rfl
    obtain⟨u,r,l⟩:=hl2 i x v hNi e2'' (by rcases hkx with z |z;exact .inr (.inl z);exact .inr (.inr z))
    refine⟨u,r,.inr ⟨?_,?_⟩⟩
    ·rcases e3
      with z |z |z
     ·exfalso
      have gen:∀(names:List (Str×NameKind)),names.lookup x=some .free->(names.map λ(n,k)=>if (k==NameKind.free&&X.env.scope.kind == .function&&X.env.kindOf n==some .cell) then (n,NameKind.cell) else (n,k)).lookup x=some .local->False:=by
       intro names
       induction names with
       |nil=>intro e _;simp at e
       |
        cons y r ih=>
        intro e1 e2
        obtain⟨n,k⟩:=y
        rw[OT] at e1
        rw[v_,OT] at e2
        by_cases hxn:x=n
        ·have hb1:(x==n)=true:=Ov.mpr hxn
         rw[hb1] at e1
         have:k=.free:=H_ e1
         subst this
         split at e2
         ·rename_i hq
          split at e2 <;> cases e2
         ·rename_i hq
          split at hq <;> (rw[hb1] at hq;cases hq)
        ·have hb1:(x==n)=false:=D_.mpr hxn
         rw[hb1] at e1
         refine ih e1 ?_
         split at e2
         ·rename_i hq
          split at hq <;> (rw[hb1] at hq;cases hq)
         ·exact e2
      exact gen scope.names hfree z
     ·exact .inl z
     ·exact .inr z
    ·obtain⟨c,hc'⟩:=hclf (x,.free) (O9 hfree) rfl
     refine⟨c,hc',?_⟩
     rcases l with ⟨k,_⟩ |⟨_,c2,ec2,z⟩
     ·rcases hkx with z |z <;> (rw[k] at z;cases z)
     ·have:=hcl x c hc'
      rw[ec2] at this
      cases this
      obtain⟨oc,hoc,hd⟩:=z
      exact⟨oc,old _ _ hoc,hd⟩
 have pinD:∀{σ':St}{H':Hp}{s':Shared}{pl:Rb}{o:Obj},Inv Y pl σ' H' s'->s'.heap.get? s2.heap.objs.size=some o->(∀v,o.data ≠ .cell v)->H' s2.heap.objs.size=none->Inv Y [(s2.heap.objs.size,o)] σ' H' s':=λ{σ' H' s' pl o} IY e d n=>
  IY.pins_of λp hp=>by
   have e':p=(s2.heap.objs.size,o):=by simpa using hp
   subst e'
   refine⟨e,n,?_,?_,d⟩
   ·show s2.heap.objs.size≠G2.objs.size
    omega
   ·intro hf
    have hf':s2.heap.objs.size∈frs X.stack:=hf
    obtain⟨_,o',ho',_⟩:=I2.stack.mem hf'
    exact absurd (w_ ho') (OV _)
 have fpY:∀{H':Hp}{pl:Rb},(∀b∈fp,H' b=none)->(∀p∈pl,p.1∉fp)->∀b∈fp,FpOk Y pl H' b:=λ{H' pl} hn hp b hb=>by
  refine⟨hn b hb,?_,?_,.inl hb,λx c e=>?_,λp hp'=>?_⟩
  ·exact (okY.exf b hb).1
  ·exact okY.exfs b hb
  ·exact (okY.exf b hb).2 x c e
  ·intro z
   have hp'':p∈pl:=by simpa [Y,aF] using hp'
   exact hp p hp'' (by rw[z];exact hb)
 have hDfp:s2.heap.objs.size∉fp:=λz=>OV _ (fpOld _ z)
 have loop
  : ∀s₃:Shared,s₃={ s2 with heap:=h₁,toks:=s2.toks+([]:List (Str×Value)).length }->
  codeAny (model X.prog X.w) X.A (.compLoop (.ListComp io [⟨tg,a_,ifs,0⟩] scope pos) 0 (.ref it) (.ref s2.heap.objs.size) (compEnvC scope cl G2.objs.size X.env))
   (compPost (model X.prog X.w) X.A X.xe use R (.ref s2.heap.objs.size) G2.objs.size) s₃:=by
  rintro s₃ rfl
  have IY0:Inv Y [(s2.heap.objs.size,{ cls:=.type "list",dict:=none,data:=.seq ([]:List Value).toArray })] (fA sub σ) H2 { s2 with heap:=h₁,toks:=s2.toks+([]:List (Str×Value)).length }:=by
   have J0:Inv Y [] (fA sub σ) H2 { s2 with heap:=h₁,toks:=s2.toks+([]:List (Str×Value)).length }:=by
    refine⟨okY,rfl,I2.bare,Un.kept old,startLoc,λx c e=>?_,I2.hok.fresh (by show s2.heap.objs.size<=G2.objs.size;omega),λx c e=>I2.freeC x c (hcl x c e),λp hp=>absurd (show p∈([]:Rb) from hp) (by simp),I2.hok.kept old,?_⟩
    ·obtain⟨v,oc,hoc,hd⟩:=I2.cell x c (hcl x c e)
     exact⟨v,oc,old _ _ hoc,hd⟩
    ·show (fA sub σ).length=N.length
     unfold fA
     rw[l_];exact hsl
   exact pinD J0 hD₁ (λv z=>by cases z) I2.fresh
  refine sS (λn s'=>∃(i:Nat) (ys:List V) (its:List Value) (k:Nat) (σ':St) (H':Hp),Inv Y [(s2.heap.objs.size,{ cls:=.type "list",dict:=none,data:=.seq its.toArray k })] σ' H' s'/\Vals ys its/\tn i s'.heap/\(∀b∈fp,H' b=none)/\W i n ys σ' H') ?_ m0
   ⟨0,[],[],0,fA sub σ,H2,IY0,.nil,T.keep _ _ _ st2 (λb hb o e=>old b o e),λb hb=>(f2 b hb).1,w0⟩
  rintro n s3 ⟨i,ys,its,k,σ3,H3,I3,rv,st3,fr3,w3⟩
  have npl:∀(o:Obj),∀p∈[(s2.heap.objs.size,o)],p.1∉fp:=λo p hp=>by
   have e':p=(s2.heap.objs.size,o):=by simpa using hp
   subst e'
   exact hDfp
  rcases turn i n ys σ3 H3 w3 with ⟨stop,hz,qn⟩ |⟨go,hz,Nx,hNx,step⟩
  ·refine OB (T.done Y rfl rfl rfl hc i _ s3 σ3 H3 (λ_ _=>False) I3 (fpY fr3 (npl _)) st3 stop) (λr s4 ⟨hr,I4⟩=>?_) λ_ _ z=>z
   subst hr
   obtain⟨m4,hn4,_⟩:=I4.loc
   have hCfree:H3 G2.objs.size=none:=I4.free
   have hD4:=I4.pin (s2.heap.objs.size,{ cls:=.type "list",dict:=none,data:=.seq its.toArray k }) (Ow _ p_)
   have un4:Un (frs X.stack) fp H2 H3 s2.heap s4.heap:=I4.base
   have ne2:∀b o,s2.heap.get? b=some o->b≠G2.objs.size:=λb o e=>(below b (w_ e)).1
   have hDfree:H3 s2.heap.objs.size=none:=hD4.2.1
   have sz0:X.s₀.heap.objs.size<=s2.heap.objs.size:=I2.sz
   refine ii s2.heap.objs.size G2.objs.size s4 ⟨⟨m4,hn4⟩,by rw[hC];exact Nat.lt_succ_self _,I2.lt,λx c e=>?_,λp hp=>w_ (I2.pin p hp).1,sz0,upd H3 s2.heap.objs.size (.lst ys),by rw[aq (Ne.symm hDC)];exact hCfree,qn _ hDfree,λh' hs'=>?_⟩
   ·obtain⟨v,q⟩:=I2.cell x c e
    exact q.lt
   have up:∀b o,b≠G2.objs.size->s4.heap.get? b=some o->h'.get? b=some o:=λb o hb e=>hs'.extBut b o hb e
   have un5:Un (frs X.stack) fp H2 H3 s2.heap h':=by
    refine⟨λb o e n hb hx=>up b o (ne2 b o e) (un4.keep b o e n hb hx),λb o e n hb hx=>?_,un4.free,λb o e hx=>?_,un4.tups,un4.frzs,un4.tbls⟩
    ·obtain⟨sl,q⟩:=un4.slot b o e n hb hx
     exact⟨sl,up b _ (ne2 b o e) q⟩
    ·obtain⟨o',q⟩:=un4.there b o e hx
     exact⟨o',up b _ (ne2 b o e) q⟩
   have hok5:HOk X.prog X.w H3 h':=λb u e=>(I4.hok b u e).stay (λc v hcc q=>up c v (λz=>by
    rcases hcc with zz |zz
    ·rw[zz] at z;rw[z,hCfree] at e;cases e
    ·rw[z,hCfree] at zz;cases zz) q) (λ_ q=>q) λ_ _ q=>q
   have I5:Inv X pins σ H3 { s4 with heap:=h' }:=I2.call' (s':={ s4 with heap:=h' }) (ch:=fp) I4.os un5 hok5 I4.bare λb hb=>by
    obtain⟨_,g1,_,g3,g4,g5⟩:=f2 b hb
    exact⟨g3,g1,g4,g5⟩
   refine I5.track (o:=.lst ys) hDfree (QD sz0) (P5 I2.lt) (λx c e z=>?_) (λp hp z=>?_) ?_
   ·obtain⟨v,q⟩:=I2.cell x c e
    exact absurd q.lt (by rw[z];exact OV _)
   ·exact absurd (w_ (I2.pin p hp).1) (by rw[z];exact OV _)
   ·exact⟨hz,its,k,rv,up _ _ hDC hD4.1⟩
  ·refine OB (T.item Y rfl rfl rfl hc i _ s3 σ3 H3 (λ_ _=>False) I3 (fpY fr3 (npl _)) st3 go) (λr s4 ⟨u,hr,h4⟩=>?_) λ_ _ z=>z
   subst hr
   refine OB h4 (λ_ s5 ⟨x,H5,I5,r5,y5,st5,fr5⟩=>?_) λ_ _ z=>z
   have I5':=I5.pinned (fpY fr5 (npl _)) (T.obj _ _ st5)
   refine OB (hg cl G2.objs.size s2 H2 fp _ s5 σ3 H5 x u _ I5' r5 (step x H5 y5)) (λ_ s6 ⟨σ6,H6,I6,q6⟩=>?_) λ_ _ z=>z
   refine OB (ht cl G2.objs.size s2 H2 fp _ s6 σ6 H6 _ I6 q6) (λok s7 ⟨H7,I7,q7⟩=>?_) λ_ _ z=>z
   have back:∀{σ':St}{H':Hp}{s':Shared},Inv Y ([(s2.heap.objs.size,{ cls:=.type "list",dict:=none,data:=.seq its.toArray k })]++jB fp s5.heap) σ' H' s'->tn (i+1) s'.heap/\∀b∈fp,H' b=none:=λ{σ' H' s'} IB=>by
    refine⟨T.keep _ _ _ st5 λb hb o e=>(IB.pin (b,o) (Ow _ (Ow _ (fW hb e)))).1,λb hb=>?_⟩
    obtain⟨o,e,d⟩:=T.obj _ _ st5 b hb
    exact (IB.pin (b,o) (Ow _ (Ow _ (fW hb e)))).2.1
   cases ok with
   |
    false=>
    rw[if_neg y_] at q7
    obtain⟨m',hm,w7⟩:=hNx _ _ _ q7
    rw[if_neg y_]
    obtain⟨t7,f7⟩:=back I7
    exact⟨m',hm,i+1,ys,its,k,σ6,H7,I7.unpinned,rv,t7,f7,w7⟩
   |
    true=>
    rw[if_pos rfl] at q7
    rw[if_pos rfl]
    refine OB (he cl G2.objs.size s2 H2 fp _ s7 σ6 H7 _ I7 q7) (λy s8 ⟨yv,H8,I8,r8,q8⟩=>?_) λ_ _ z=>z
    obtain⟨m',hm,w8⟩:=hNx _ _ _ q8
    obtain⟨t8,f8⟩:=back I8
    have I9:=I8.unpinned
    have hD9:=I9.pin (s2.heap.objs.size,{ cls:=.type "list",dict:=none,data:=.seq its.toArray k }) (Ow _ p_)
    have e9:s8.heap.get? s2.heap.objs.size=some { cls:=.type "list",dict:=none,data:=.seq its.toArray k }:=hD9.1
    have be:=rv.length
    refine call_meets F.slot_list_append ⟨_,e9,rfl⟩ F.entry_list_append (F.args_list_append_2 _ _) (PySem.list_append _ its.toArray k y (by rw[t_];omega)) ⟨e9,?_⟩
    have q9:=PySem.IsL.update e9 (λxs=>xs.push y)
    have ea:its.toArray.push y=(its++[y]).toArray:=by simp
    rw[ea] at q9
    have k9:∀b o,b≠s2.heap.objs.size->s8.heap.get? b=some o->(s8.heap.update s2.heap.objs.size (Obj.mapSeq λxs=>xs.push y)).get? b=some o:=λb o hb e=>(Qr _ _ (Ne.symm hb)).trans e
    have I10:Inv Y [] σ6 H8 { s8 with heap:=s8.heap.update s2.heap.objs.size (Obj.mapSeq λxs=>xs.push y) }:=
     (I9.pins_of (pins':=[]) (λp hp=>nomatch hp)).turned (t':=s8.toks) k9 hD9.2.1 hD9.2.2.1 (.inr (o_ _)) (λx c e z=>absurd (cellOld x c e) (by rw[z];exact OV _))
      (λp hp=>absurd (show p∈([]:Rb) from hp) (by simp))
    refine⟨m',hm,i+1,ys++[yv],its++[y],_,σ6,H8,pinD I10 q9 (λv z=>by cases z) hD9.2.1,rv.append (.cons r8 .nil),?_,f8,w8⟩
    exact T.keep _ _ _ t8 λb hb o e=>k9 b o (λz=>hDfp (by rw[<- z];exact hb)) e
 exact codeAny_compStart_list (loop _ rfl) (T.self _ 0 _ _ _ (T.keep _ _ _ st2 λb hb o e=>old b o e) (loop _ rfl))
def Hy{io a_ tg:Expr}{ifs:List Expr}{scope:Scope}{pos:Pos}{wi:TI}{g:TG}{tc:TT}{te:TE}{N:List Str}{sub:Rg}
 (hc:X.calm=true) (hi:PI X tg a_ wi)
 (hk:scope.kind=.function) (hnc:∀x∈scope.names,x.2 ≠ .cell) (b_:∀x∈scope.names,x.2=.local->scope.names.lookup x.1=some .local)
 (hfr:∀x∈scope.names,x.2=.free->X.env.kindOf x.1=some .cell\/X.env.kindOf x.1=some .free)
 (hsl:sub.length=N.length) (f_:∀(j i:Nat) (x:Str),sub[j]?=some (some i)->N[j]?=some x->X.N[i]?=some x/\scope.names.lookup x=some .free)
 (hg:∀cl C s₂ H fp,PG (aF X N scope cl C s₂ H fp) tg g) (ht:∀cl C s₂ H fp,PTs (aF X N scope cl C s₂ H fp) ifs tc) (he:∀cl C s₂ H fp,PE (aF X N scope cl C s₂ H fp) io te)
 (hs:∀x,foldedSetIterable a_ X.env x=pure x):
 PE X (.ListComp io [⟨tg,a_,ifs,0⟩] scope pos) (jc wi sub g tc te):=by
 intro pins s σ H Q I h
 rw[eval_ListComp]
 refine uP hc hi hk hnc b_ hfr hsl f_ hg ht he hs I h λD C s4 e=>?_
 obtain⟨m,hm⟩:=e.ns
 obtain⟨H',_,q,i⟩:=e.inv
 exact⟨m,hm,λh' hs'=>⟨.ref D,H',i h' hs',rfl,q⟩⟩
def fB(M:List Str)(names:List (Str×NameKind))(sub:Rg)(N:List Str):Bool:=(sub.zip N).all λp=>match p.1 with
 |none=>true
 |some i=>M[i]?==some p.2&&names.lookup p.2==some .free
def pW{M:List Str}{names:List (Str×NameKind)}{sub:Rg}{N:List Str}(h:fB M names sub N=true)(j i:Nat)(x:Str)(h1:sub[j]?=some (some i))(h2:N[j]?=some x):
 M[i]?=some x/\names.lookup x=some .free:=by
 unfold fB at h
 rw[Ot] at h
 have hm:(some i,x)∈sub.zip N:=by
  refine Pe (i:=j) ?_
  rw[List.getElem?_zip_eq_some]
  exact⟨h1,h2⟩
 have q:=h _ hm
 simp only[s_,Ov] at q
 exact q
def gQ(kn names:List (Str×NameKind)):Bool:=names.all λx=>x.2 != .free || kn.lookup x.1==some .cell || kn.lookup x.1==some .free
def tQ{kn names:List (Str×NameKind)}(h:gQ kn names=true):∀x∈names,x.2=.free->kn.lookup x.1=some .cell\/kn.lookup x.1=some .free:=λx hx hf=>by
 unfold gQ at h
 rw[Ot] at h
 have q:=h x hx
 rw[hf] at q
 simpa using q
def Ol{io a_ tg:Expr}{scope:Scope}{pos:Pos}{wi:TI}{g:TG}{te:TE}(M:List Str)(kn:List (Str×NameKind))(N:List Str)(sub:Rg)
 (hc:X.calm=true) (hi:PI X tg a_ wi)
 (hg:∀cl C s₂ H fp,PG (aF X N scope cl C s₂ H fp) tg g) (he:∀cl C s₂ H fp,PE (aF X N scope cl C s₂ H fp) io te)
 (hM:X.N=M) (hkn:X.env.scope.names=kn) (f_:fB M scope.names sub N=true)
 (hk:scope.kind=.function) (hnc:∀x∈scope.names,x.2 ≠ .cell) (b_:∀x∈scope.names,x.2=.local->scope.names.lookup x.1=some .local)
 (hfr:gQ kn scope.names=true)
 (hsl:sub.length=N.length) (hs:∀x,foldedSetIterable a_ X.env x=pure x):
 PE X (.ListComp io [⟨tg,a_,[],0⟩] scope pos) (jc wi sub g B6 te):=
 Hy hc hi hk hnc b_ (by subst hkn;exact tQ hfr) hsl (by subst hM;exact pW f_) hg (λcl C s₂ H fp=>uY) he hs
end
end L2
namespace L2
open PySem PySem.Spec PyProof.Rows PySem.W PySem.Builtin PySem.Builtin.ObjectAttr PySem.Builtin.Getset_descriptor
structure XCls(K:W.Frag)(C:Addr):Prop where
 cls:(clsIn K C).isSome=true
 ga:findIn K (.ref C) "__getattribute__"=some (some (.builtin "BaseException.__getattribute__"))
 gt:findIn K (.ref C) "__getattr__"=some none
 at_:findIn K (.ref C) "__class__"=some (some (.builtin "object.__class__"))
 gs:specialIn K (.builtin "object.__class__") "__get__"=some (some (.builtin "getset_descriptor.__get__"))
 tk:takesIn K (.builtin "object.__class__")=some true
 mo:mroIn K C (.type "object")=some true
 mb:mroIn K C (.type "BaseException")=some true
section
variable{prog:Program}{w:World}{A:Around}{E:Rf}{K:W.Frag}{x C:Addr}{o:Obj}
def iK(hx:h.get? x=some o)(hc:o.cls=.ref C):Looks M h (typeOf (.ref x)) (.ref C):=hc ▸ (Looks.ld hx).andThen .now
def Be(X:K.In h)(T:XCls K C):Looks M h (find (.ref x) (.ref C) "__class__") (.bind (.builtin "getset_descriptor.__get__") (.builtin "object.__class__")):=by
 have L1:=looks_findIn (M:=M) X T.at_
 have L2:Looks M h (getOf (some (.builtin "object.__class__"))) (some (.builtin "getset_descriptor.__get__")):=looks_specialIn X T.gs
 have L3:=looks_takesIn (M:=M) X T.tk
 refine L1.andThen (L2.andThen ?_)
 exact (show Looks M h (dataDescriptor? (some (.builtin "object.__class__")) (some (.builtin "getset_descriptor.__get__"))) (some (.builtin "getset_descriptor.__get__",.builtin "object.__class__")) from L3.andThen .now).andThen (Looks.tag .now)
def oF(X:K.In s.heap)(hx:s.heap.get? x=some o)(hc:o.cls=.ref C)(T:XCls K C)
 (h:R (.ok (.ret (.ref C))) s):codeAny (model prog w) A (.call (.builtin "getset_descriptor.__get__") ⟨[.builtin "object.__class__",.ref x,tp],[]⟩) R s:=by
 obtain⟨hh,g,dr,t,os⟩:=s
 have L0:=iK (M:=model prog w) hx hc
 have L1:=looks_mroIn (M:=model prog w) X T.mo
 refine codeAny_call_builtin KF.slot_gs.plain KF.entry_gs (KF.slot_gs.check _ _ _ _ _ _ _ _ KF.type_class (KF.args_gs _ _ _) ?_)
 unfold Builtin.«getset_descriptor.__get__» descrGet
 rw[dga_obj]
 refine k_ (u_ ?_)
 unfold descrGetter descrCheckInstance descrNameAndClass isInstance
 simp only[KF.owner_class]
 repeat lk
 refine⟨Code.quiet_builtin _ (by decide),codeAny_builtin KF.entry_class ?_⟩
 unfold Builtin.«object.__class__» shownTypeOf
 repeat lk
 exact h
def zA(X:K.In s.heap)(hx:s.heap.get? x=some o)(hc:o.cls=.ref C)(T:XCls K C)(hq:Q () s):
 wpAny M A (checkBuiltinCall "BaseException.__getattribute__" ⟨[.ref x,nameV],[]⟩) Q E s:=by
 obtain⟨h,g,dr,t,os⟩:=s
 have hk:builtinKind "BaseException.__getattribute__"=some .slot:=by decide
 have hsplit:splitId "BaseException.__getattribute__"=some ("BaseException", "__getattribute__"):=by decide
 have ha:=PySem.F.args_bexc_ga (.ref x) nameV
 have L0:=iK (M:=M) hx hc
 have LM:=looks_mroIn (M:=M) X T.mb
 have LI:Looks M h (isInstance (.ref x) (.type "BaseException")) true:=L0.andThen LM
 simp only[checkBuiltinCall,hk,hsplit]
 refine k_ ?_
 refine LI.at ?_
 repeat (first |wp_step)
 all_goals exact hq
def GL(X:K.In s.heap)(hx:s.heap.get? x=some o)(hc:o.cls=.ref C)(T:XCls K C)(h:Q (some (.ref C)) { s with toks:=s.toks+1 }):
 wpAny (model prog w) A (getAttr? (.ref x) "__class__") Q E s:=by
 obtain⟨hh,g,d,t,os⟩:=s
 have L0:=iK (M:=model prog w) hx hc
 have L1:=looks_findIn (M:=model prog w) X T.ga
 have L2:=looks_findIn (M:=model prog w) X T.gt
 have LF:=Be (M:=model prog w) (x:=x) X T
 have f3:=PySem.F.excAttr_ValueError.ga.bind (.ref x)
 have hx2:(Value.builtin "BaseException.__getattribute__" == Value.builtin "object.__getattribute__")=false:=by decide
 unfold getAttr? getAttrBy? getAttrBy
 refine k_ (wpAny_mkText (k_ (Qv (OW (k_ (L0.at (k_ (L1.at ?_))))))))
 dsimp only
 rw[if_neg (by rw[hx2];simp)]
 unfold getAttrByItsOwn hookBefore
 rw[if_pos (show onTheHeap (Value.ref C)=true from rfl)]
 refine k_ (L2.at ?_)
 unfold callGetattribute
 refine k_ (Qv (OW ?_))
 rw[if_neg (by simp)]
 unfold boundAndCalled
 refine k_ (wpAny_of_eq f3 ?_)
 refine wpAny_call (codeAny_call_builtin PySem.F.excAttr_ValueError.ga.plain PySem.F.entry_bexc_ga (zA X hx hc T ?_))
 unfold Builtin.«object.__getattribute__»
 repeat (first |(refine k_ (L0.at ?_)) |(refine k_ (LF.at ?_)) |wp_step)
 refine oF (s:=⟨hh,g,d,t+1,os⟩) X hx hc T ?_
 repeat (first |exact h |wp_step)
def Bz(x:Addr)(C:Addr)(h:Heap):Prop:=∃o vs,h.get? x=some o/\o.cls=.ref C/\o.data=.fields vs
def BQ(T:XCls K C):KitX K (.ref x) (.ref C) (Bz x C) where
 ty:=λM h _ ⟨o,_,hx,hc,_⟩=>iK hx hc
 it:=λM h X _=>by
  obtain⟨cd,jp⟩:=O1.mp T.cls
  unfold clsIn at jp
  split at jp
  ·rename_i c' d' cd' sl' ho
   intro A' Q' E' s' k q
   unfold isType loadHead
   exact k_ (wpAny_loadPart (k _ _ (X _ _ ho)) (u_ q))
  ·cases jp
 ne:=λh tp dd its n sl X htp=>by
  obtain⟨cd,jp⟩:=O1.mp T.cls
  refine Bool.eq_false_iff.mpr λq=>?_
  have e:C=tp:=Value.ref.inj (Ov.mp q)
  subst e
  unfold clsIn at jp
  split at jp
  ·rename_i c' d' cd' sl' ho
   have z:=(X _ _ ho).symm.trans htp
   cases z
  ·cases jp
 ca:=λX ⟨o,_,hx,hc,_⟩ k=>GL X hx hc T k
end
inductive TyX(K:W.Frag)(H:Hp):V->Value->Prop where
 |of {x:V}{t:Value} (h:TyOf K H x t):TyX K H x t
 |exc {a C:Addr} (e:H a=some (.ext (Bz a C))) (T:XCls K C):TyX K H (.ref a) (.ref C)
 |sqT {a:Addr}{xs:List V} (h:SqT K H a xs):TyX K H (.ref a) (.type "tuple")
 |sqL {a:Addr}{xs:List V} (h:SqL K H a xs):TyX K H (.ref a) (.type "list")
section
variable{X:Cx}{pins:Rb}{σ:St}{H:Hp}{s:Shared}{A:Around}{E:Rf}{Q:Rf}{c:Value}{b:Bool}
def tZ(I:Inv X pins σ H s)(rx:RelV x u)(ty:TyX X.K H x t):∃Hh:Heap->Prop,KitX X.K u t Hh/\Hh s.heap/\u ≠ .builtin "__main__.__loader__#opaque":=by
 cases ty with
 |
  exc ea T=>
  cases (show u=Value.ref _ from rx)
  exact⟨_,BQ T,(I.hok _ _ ea).1,λz=>nomatch z⟩
 |
  sqT h=>
  cases (show u=Value.ref _ from rx)
  obtain⟨its,rv,⟨o,e,c,_⟩,_⟩:=I.tuple h
  exact⟨_,kitx_tuple,⟨o,e,c⟩,λz=>nomatch z⟩
 |
  sqL h=>
  cases (show u=Value.ref _ from rx)
  obtain⟨its,rv,⟨o,n,e,c,_⟩,_⟩:=I.list h
  exact⟨_,kitx_list,⟨o,e,c⟩,λz=>nomatch z⟩
 |
  of ty=>
  cases ty with
  |non=>cases (show u=Value.none from rx);exact⟨_,kitx_none,True.intro,λz=>nomatch z⟩
  |bl y=>cases (show u=Value.bool y from rx);exact⟨_,kitx_bool,True.intro,λz=>nomatch z⟩
  |int i=>obtain⟨t,q⟩:=(show ∃t,u=Value.int i t from rx);cases q;exact⟨_,kitx_int,True.intro,λz=>nomatch z⟩
  |str y=>obtain⟨t,q⟩:=(show ∃t,u=Value.str y t from rx);cases q;exact⟨_,kitx_str,True.intro,λz=>nomatch z⟩
  |flt y=>obtain⟨t,q⟩:=(show ∃t,u=Value.float y t from rx);cases q;exact⟨_,kitx_float,True.intro,λz=>nomatch z⟩
  |
   @lst a xs ea=>
   cases (show u=Value.ref a from rx)
   obtain⟨_,_,n,_,h1⟩:=(show ObjOk X.prog X.w H s.heap a (.lst xs) from I.hok a _ ea)
   exact⟨_,kitx_list,⟨_,h1,rfl⟩,λz=>nomatch z⟩
  |
   @frz a ob xs ea=>
   cases (show u=Value.ref a from rx)
   obtain⟨_,_,_,n,_,h1⟩:=(show ObjOk X.prog X.w H s.heap a (.frz ob (.lst xs)) from I.hok a _ ea)
   exact⟨_,kitx_list,⟨_,h1,rfl⟩,λz=>nomatch z⟩
  |
   @tup a xs ea=>
   cases (show u=Value.ref a from rx)
   obtain⟨_,_,_,p⟩:=(show ObjOk X.prog X.w H s.heap a (.tup xs) from I.hok a _ ea)
   obtain⟨o,h1,h2,_⟩:=p
   exact⟨_,kitx_tuple,⟨o,h1,h2⟩,λz=>nomatch z⟩
  |
   @dK a kvs ea=>
   cases (show u=Value.ref a from rx)
   obtain⟨_,_,vs,_,p⟩:=(show ObjOk X.prog X.w H s.heap a (.dK kvs) from I.hok a _ ea)
   obtain⟨o,es,ep,h1,h2,_⟩:=p
   exact⟨_,kitx_dict,⟨o,h1,h2.1⟩,λz=>nomatch z⟩
  |
   @dT a kvs ea=>
   cases (show u=Value.ref a from rx)
   obtain⟨_,_,xs,_,o,es,ep,h1,h2,_⟩:=(show ObjOk X.prog X.w H s.heap a (.dT kvs) from I.hok a _ ea)
   exact⟨_,kitx_dict,⟨o,h1,h2.1⟩,λz=>nomatch z⟩
  |
   @ins a C dx fs ea cl ha hn htk hm=>
   cases (show u=Value.ref a from rx)
   obtain⟨mA,O,_⟩:=Ei I.hok ea
   obtain⟨od,J,_⟩:=O.look
   exact⟨_,kitx_own (cl.get _) cl.hd ha hn htk hm,J,λz=>nomatch z⟩
end
section
variable{X:Cx}
noncomputable def eJ:V->Option Value
 |.ref C=>some (.ref C)
 |.ty T=>some (.type T)
 |_=>none
def rQ(h:eJ c=some v)(r:RelV c u):u=v:=by
 cases c with
 |ref C=>cases r;exact H_ h
 |ty T=>cases r;exact H_ h
 |_=>cases h
theorem oC:∀{cs:List V}{us vs:List Value},cs.mapM eJ=some vs->Vals cs us->us=vs
 |
  [],_,vs,h,.nil=>by
  have h':some ([]:List Value)=some vs:=h
  exact H_ h'
 |
  c::cs,_,vs,h,.cons r rr=>by
  rw[P2] at h
  cases q:eJ c with
  |none=>rw[q] at h;cases h
  |
   some v=>
   rw[q] at h
   cases q2:cs.mapM eJ with
   |none=>rw[q2] at h;cases h
   |
    some vs'=>
    rw[q2] at h
    have h':some (v::vs')=some vs:=h
    cases h'
    rw[rQ q r,oC q2 rr]
def Cw:CallR X (.builtin "isinstance") (λxs H Q=>∃x c t v b,xs=[x,c]/\TyX X.K H x t/\eJ c=some v/\kitOne X.K t v=some b/\Q (.bl b) H):=by
 intro pins s σ H xs us Q I r h
 obtain⟨x,c,t,v,b,rfl,ty,hc,hk,q⟩:=h
 obtain⟨u,w',rfl,rx,rc⟩:=pC r
 obtain rfl:=rQ hc rc
 obtain⟨Hh,Z,p,hne⟩:=tZ I rx ty
 exact kia_one Z I.kIn p hk hne λtk=>⟨.bl b,H,I.tok _,rfl,q⟩
end
end L2
namespace L2
open PySem PySem.Spec PyProof.Rows
def ObjOk.there(x:ObjOk P w H h a o):∃u,h.get? a=some u:=by
 cases o with
 |lst xs=>obtain⟨_,_,_,_,e⟩:=x;exact⟨_,e⟩
 |tup xs=>obtain⟨_,_,_,ob,e,_⟩:=x;exact⟨_,e⟩
 |dK kvs=>obtain⟨_,_,_,_,o,_,_,e,_⟩:=x;exact⟨_,e⟩
 |dT kvs=>obtain⟨_,_,_,_,o,_,_,e,_⟩:=x;exact⟨_,e⟩
 |set S n=>obtain⟨o,_,_,_,e,_⟩:=x;exact⟨_,e⟩
 |ins C dx fs=>obtain⟨_,_,_,e,_⟩:=x;exact⟨_,e⟩
 |own y=>exact x
 |xd fs=>obtain⟨_,⟨_,_,_,e,_⟩,_⟩:=x;exact⟨_,e⟩
 |rng lo hi=>obtain⟨_,_,_,e⟩:=x;exact⟨_,e⟩
 |frz ob u=>obtain⟨e,_⟩:=x;exact⟨_,e⟩
 |tbl ps=>exact⟨_,show h.get? a=some _ from x⟩
 |met f y=>exact⟨_,show h.get? a=some _ from x⟩
 |ext φ=>obtain⟨_,e,_⟩:=x;exact e
structure Fly(P:Program)(w:World)(outer:List Env)(H:Hp)(h₀:Heap)(H':Hp)(ea:Addr)(cls:Value)(h:Heap)(B:Heap)(t:Addr):Prop where
 un:Un (frs outer) [] H H' h₀ h
 hok:HOk P w H' h
 fl:Heap.FlyingW B outer ea cls (.ref t) h
 old:∀b o,h₀.get? b=some o->b∉frs outer->∃o',B.get? b=some o'
 trk:∀b o,H' b=some o->∃o',B.get? b=some o'
def CX1(P:Program)(w:World):CXT:=λouter H s E e s'=>∃(ea t:Addr) (cls:Value) (H':Hp) (B:Heap),e=.ref ea/\s'.os=s.os/\AllBare s'.gens/\Fly P w outer H s.heap H' ea cls s'.heap B t/\E cls none H'
def su(h:env.frame=some L):frs (env::outer)=L::frs outer:=by
 unfold frs
 rw[Pg,h]
section
variable{P:Program}{w:World}{outer:List Env}{H H':Hp}{h₀ h h' B:Heap}{ea t L:Addr}{cls:Value}
def Fly.step(F:Fly P w outer H h₀ H' ea cls h B t)(fl':Heap.FlyingW B outer' ea cls (.ref t) h')(up:h.UpToSlots h'):
 Un (frs outer) [] H H' h₀ h'/\HOk P w H' h':=by
 have st:=F.fl.1
 have same:∀b o,(∃o',B.get? b=some o')->h.get? b=some o->h'.get? b=some o:=λb o ⟨o',e⟩ q=>by
  have z:=st b o' e
  rw[q] at z;cases z
  exact fl'.1 b _ e
 have frame:∀b o,b∈frs outer->h.get? b=some o->∃sl,h'.get? b=some { o with slots:=sl }:=λb o hb q=>by
  obtain⟨_,o',ho',hd⟩:=F.fl.2.2.1.mem hb
  rw[q] at ho';cases ho'
  exact up b o q hd
 refine⟨⟨λb o e n hb hx=>same b o (F.old b o e hb) (F.un.keep b o e n hb hx),λb o e n hb hx=>?_,F.un.free,λb o e hx=>?_,F.un.tups,F.un.frzs,F.un.tbls⟩,λa o e=>?_⟩
 ·obtain⟨sl,q⟩:=F.un.slot b o e n hb hx
  obtain⟨sl',q'⟩:=frame b _ hb q
  exact⟨sl',q'⟩
 ·obtain⟨o',q⟩:=F.un.there b o e hx
  by_cases hb:b∈frs outer
  ·obtain⟨sl,q'⟩:=frame b _ hb q
   exact⟨_,q'⟩
  ·exact⟨o',same b o' (F.old b o e hb) q⟩
 ·refine (F.hok a o e).stay (λb u hb q=>same b u ?_ q) (λ_ q=>q) λ_ _ q=>q
  rcases hb with z |z
  ·rw[z];exact F.trk a o e
  ·exact F.trk b _ z
end
structure Cx.Top(X:Cx):Prop where
 ex:X.ex=[]
 stk:X.stack=X.env::X.outer
 fr:X.env.frame=some X.env.locals
section
variable{X:Cx}{pins:Rb}{σ:St}{H:Hp}{s s':Shared}{E:XK}{e:Value}
def yB(T:X.Top)(hA:A.frames=some X.stack)(I:Inv X pins σ H s)(h:CX1 X.prog X.w X.stack H s E e s'):
 wpAny (model X.prog X.w) A (leaving X.env e) (λ_ s''=>CX1 X.prog X.w X.outer X.H₀ X.s₀ E e s'') E' s':=by
 obtain⟨ea,t,cls,H',B,rfl,os,bare,F,q⟩:=h
 have F0:=F
 rw[T.stk] at F
 have hf:=su (outer:=X.outer) T.fr
 refine wpAny_leaves_onW (by rw[hA,T.stk]) T.fr F.fl λh'' fl'' up=>?_
 obtain⟨un2,hok2⟩:=F.step fl'' up
 have exn:∀b,b∉X.ex:=λb z=>by rw[T.ex] at z;cases z
 have neL:∀b o,X.s₀.heap.get? b=some o->b≠X.env.locals:=λb o e=>K_ (F_ (w_ e) I.ok.above)
 have notin:∀b o,X.s₀.heap.get? b=some o->b∉frs X.outer->b∉frs (X.env::X.outer):=λb o e hb z=>by
  rw[hf] at z
  rcases I_.mp z with z |z
  ·exact neL b o e z
  ·exact hb z
 refine⟨ea,t,cls,H',B,rfl,os.trans I.os,bare,⟨⟨λb o e n hb hx=>?_,λb o e n hb hx=>?_,λb o e n hx=>?_,λb o e hx=>?_,λb xs e=>un2.tups b xs (I.base.tups b xs e),λb o xs e=>un2.frzs b o xs (I.base.frzs b o xs e),λb ps e=>?_⟩,hok2,fl'',λb o e hb=>?_,F.trk⟩,q⟩
 ·exact un2.keep b o (I.base.keep b o e n hb (exn b)) (I.base.free b o e n (exn b)) (notin b o e hb) (by simp)
 ·obtain⟨sl,e1⟩:=I.base.slot b o e n hb (exn b)
  obtain⟨sl',e2⟩:=un2.slot b _ e1 (I.base.free b o e n (exn b)) (by rw[hf];exact m_ _ hb) (by simp)
  exact⟨sl',e2⟩
 ·obtain⟨o',e1⟩:=I.base.there b o e (exn b)
  exact un2.free b o' e1 (I.base.free b o e n (exn b)) (by simp)
 ·obtain⟨o',e1⟩:=I.base.there b o e (exn b)
  exact un2.there b o' e1 (by simp)
 ·obtain⟨m1,e1⟩:=I.base.tbls b ps e
  obtain⟨m2,e2⟩:=un2.tbls b _ e1
  exact⟨m1++m2,by rw[e2,Array.append_assoc]⟩
 ·obtain⟨o',e1⟩:=I.base.there b o e (exn b)
  exact F.old b o' e1 (notin b o e hb)
def Bu(T:X.Top)(hA:A.frames=some X.stack)(I:Inv X pins σ H s)(hx:Heap.MadeExcOf s.heap h' ea cls args)(q:E cls none H):
 wpAny (model X.prog X.w) A (leaving X.env (.ref ea)) (λ_ s''=>CX1 X.prog X.w X.outer X.H₀ X.s₀ E (.ref ea) s'') E' { s with heap:=h' }:=by
 have hf:=su (outer:=X.outer) T.fr
 have stk:=I.stack
 rw[T.stk] at stk
 have hin:∀env∈(X.env::X.outer),∀b,env.frame=some b->b∈frs (X.env::X.outer):=λenv he b hb=>List.mem_filterMap.mpr ⟨env,he,hb⟩
 refine wpAny_leaves_madeW (base:=W.hideAll s.heap (frs (X.env::X.outer))) (h:=s.heap) (by rw[hA,T.stk]) T.fr (λb o q=>W.of_hideAll _ q) (W.funFrames_hide stk hin) hx λh'' t fl tup tn up=>?_
 have inB:∀b o,s.heap.get? b=some o->b∉frs (X.env::X.outer)->(W.hideAll s.heap (frs (X.env::X.outer))).get? b=some o:=λb o e hb=>W.hideAll_get _ e hb
 have free:∀b∈frs (X.env::X.outer),H b=none:=λb hb=>I.stkFree b (by rw[T.stk];exact hb)
 have up2:s.heap.UpToSlots h'':=(Heap.UpToSlots.of_keeps hx.keeps).trans up
 have exn:∀b,b∉X.ex:=λb z=>by rw[T.ex] at z;cases z
 have neL:∀b o,X.s₀.heap.get? b=some o->b≠X.env.locals:=λb o e=>K_ (F_ (w_ e) I.ok.above)
 have notin:∀b o,X.s₀.heap.get? b=some o->b∉frs X.outer->b∉frs (X.env::X.outer):=λb o e hb z=>by
  rw[hf] at z
  rcases I_.mp z with z |z
  ·exact neL b o e z
  ·exact hb z
 have trk:∀b o,H b=some o->∃o',(W.hideAll s.heap (frs (X.env::X.outer))).get? b=some o':=λb o e=>by
  obtain⟨u,hu⟩:=(I.hok b o e).there
  exact⟨u,inB b u hu λz=>by rw[free b z] at e;cases e⟩
 refine⟨ea,t,cls,H,_,rfl,I.os,I.bare,⟨⟨λb o e n hb hx=>?_,λb o e n hb hx=>?_,λb o e n hx=>?_,λb o e hx=>?_,I.base.tups,I.base.frzs,I.base.tbls⟩,λa o e=>?_,fl,λb o e hb=>?_,trk⟩,q⟩
 ·exact fl.1 b o (inB b o (I.base.keep b o e n hb (exn b)) (notin b o e hb))
 ·obtain⟨sl,e1⟩:=I.base.slot b o e n hb (exn b)
  obtain⟨_,o',ho',hd⟩:=I.ok.funs.mem hb
  rw[e] at ho';cases ho'
  obtain⟨sl',e2⟩:=up2 b _ e1 hd
  exact⟨sl',e2⟩
 ·exact I.base.free b o e n (exn b)
 ·obtain⟨o',e1⟩:=I.base.there b o e (exn b)
  by_cases hb:b∈frs X.outer
  ·obtain⟨_,o2,ho2,hd⟩:=I.funs.mem hb
   rw[e1] at ho2;cases ho2
   obtain⟨sl',e2⟩:=up2 b _ e1 hd
   exact⟨_,e2⟩
  ·exact⟨o',fl.1 b o' (inB b o' e1 (notin b o e hb))⟩
 ·refine (I.hok a o e).stay (λb u hb q=>?_) (λ_ q=>q) λ_ _ q=>q
  refine fl.1 b u (inB b u q λz=>?_)
  rcases hb with y |y
  ·rw[y] at z;rw[free a z] at e;cases e
  ·rw[free b z] at y;cases y
 ·obtain⟨o',e1⟩:=I.base.there b o e (exn b)
  exact⟨o',inB b o' e1 (notin b o e hb)⟩
end
section
variable{P:Program}{w:World}{K:W.Frag}{mg:Ra}{base:Heap}{N:List Str}{qual:Str}{scope:Scope}{f:Addr}{cd:Value}{A:Around}{outer:List Env}{s:Shared}{H:Hp}{E:XK}
def CY:(cP (CX1 P w) P w K mg base N qual scope f cd A outer s H E).Top:=⟨rfl,rfl,rfl⟩
def CQ:rj (CX1 P w) (cP (CX1 P w) P w K mg base N qual scope f cd A outer s H E) E:=λpins σ H s e s' I h=>yB CY I.ok.frames I h
def LP:rj (CX1 P w) X E0:=λpins σ H s e s' I ⟨_,_,_,_,_,_,_,_,_,q⟩=>q.elim
def own1:PassesOwn (model P w) (cP (CX1 P w) P w K mg base N qual scope f cd A outer s H E).A (cP (CX1 P w) P w K mg base N qual scope f cd A outer s H E).env (cP (CX1 P w) P w K mg base N qual scope f cd A outer s H E).xe:=PassesOwn.leaving
def Rz(X:Cx)(E:XK):Prop:=∀(pins:Rb) (σ:St) (H:Hp) (s:Shared) (h':Heap) (ea:Addr) (cls:Value) (args:List Value),Inv X pins σ H s->Heap.MadeExcOf s.heap h' ea cls args->E cls none H->X.xe (.ref ea) { s with heap:=h' }
def rz1:Rz (cP (CX1 P w) P w K mg base N qual scope f cd A outer s H E) E:=λpins σ H s h' ea cls args I hx q=>Bu CY I.ok.frames I hx q
def Fun.okR{x qual:Str}{st:Stmt}{f:Addr}{fd:FuncData}{N ps:List Str}{k:Nat}{sp:Sp}(F:Fun K x qual st f fd)(S:FnScope N ps (ak st))(len:∀vs H Q E,sp vs H Q E->vs.length=ps.length)
 (d_:∀(cdv:Value) (A:Around) (outer:List Env) (s:Shared) (H:Hp) (vs:List V) (Q:VK) (E:XK),Room k (A.deeper (envOfC qual (ak st) s.heap.objs.size f cdv))->sp vs H Q E->
  ∃t,PSs (cP (CX1 P w) P w K mg base N qual (ak st) f cdv A outer s H E) (aK st) t/\t { nx:=λ_ H'=>Q .non H',rt:=Q } (eQ N vs) H):FnOk P w K mg base (CX1 P w) (k+1) f fd ps sp:=by
 obtain⟨oc,od,kV,doc,pm,an,cdv,ct,osl,rfl,lk,jp⟩:=F.ex
 exact C5 lk jp S len λA outer s H vs Q E hr hsp=>d_ cdv A outer s H vs Q E hr hsp
end
abbrev k8:List Value:=[.type "ValueError",.type "Exception",.type "BaseException",.type "object"]
def yP{K:W.Frag}{h:Heap}{C:Addr}(X:K.In h)(q:W.excIn K C k8 "ValueError.__new__"=true):
 ∃bm N nm q' bs hdct sn sub ab col dd k0 k1 k2 k3 k5 mN,h.get? C=some (excClassObj nm q' C N bs bm hdct sn sub ab col dd k0 k1 k2 k3 k5 "ValueError.__new__")/\h.Ns N mN/\mN "__init__"=none/\OwnTail h k8 bm:=by
 unfold W.excIn at q
 split at q
 ·rename_i dd cd sl ho
  split at q
  ·rename_i C' bm k0 k1 k2 k3 n k5 hm hs
   simp only[s_,Ov,PU] at q
   obtain⟨⟨⟨⟨⟨rfl,rfl⟩,hdel⟩,ht⟩,hok⟩,hni⟩:=q
   obtain⟨nm,bs,mro,ns,qn,hd,sn,sub,ab,col,del⟩:=cd
   dsimp only at hm hdel hok hni
   subst hm hdel
   have hsl:sl=#[k0,k1,k2,k3,some (.builtin "ValueError.__new__"),k5]:=by
    obtain⟨l⟩:=sl
    simp only at hs
    rw[hs]
   subst hsl
   exact⟨bm,ns,nm,qn,bs,hd,sn,sub,ab,col,dd,k0,k1,k2,k3,k5,_,X _ _ ho,.of_isNs (W.isNs_of_in X hok),W.nsMap_none_of_in X hok hni,W.tail_of_in X ht⟩
  ·cases q
 ·cases q
section
variable{X:Cx}{x:Str}{C:Addr}{E:XK}{np cpos pos:Pos}{e₀:Expr}{es:List Expr}{ta:TA}
def GW(C:Addr)(E:XK)(ta:TA):TS:=λ_ σ H=>ta σ H λvs H1=>vs.length<=sizeLine/\E (.ref C) none H1
def Am(hc:X.calm=true)(hR:Rz X E)(hg:Gl X x)(hm:X.mg x=some (.ref C))(hq:W.excIn X.K C k8 "ValueError.__new__"=true)(ha:PA X (e₀::es) ta)
 (he:starEach (e₀::es) X.env=(false,eval e₀ X.env)::starEach es X.env) (ci:(backTo cpos (starEach es X.env)).any (·.1)=false) (hd:(x==("__debug__" : Str))=false):
 PS X (.Raise (some (.Call (.Name x np) (e₀::es) [] cpos)) none pos) (GW C E ta):=by
 intro pins s σ H D I h
 obtain⟨bm,N,nm,q',bs,hdct,sn,sub,ab,col,dd,k0,k1,k2,k3,k5,mN,hC,hN,hni,T⟩:=yP I.ok.mod.kin hq
 refine wpAny_Raise_call_subT (C:=C) (nm:=nm) (q:=q') (N:=N) (bs:=bs) (bm:=bm) (hdct:=hdct) (sn:=sn) (sub:=sub) (ab:=ab) (col:=col) (dd:=dd) (k0:=k0) (k1:=k1) (k2:=k2) (k3:=k3) (k5:=k5)
  PySem.F.excBase_ValueError (mN:=mN) (T.hasType PySem.F.excBase_ValueError.hasBase) (I.ok.hd hc) (by rw[he];show (false || (backTo cpos (starEach es X.env)).any (·.1))=false;rw[ci];rfl) hni (mP I hg hm ⟨rfl,?_⟩ hd)
 have hA:=ha cpos pins s σ H _ I h
 rw[he] at hA ⊢
 refine Calls.evalArgs_plain (thn hA λus s2 ⟨vs,H2,I2,r2,hz,q2⟩=>⟨rfl,by rw[<- r2.length];exact hz,I2.bk _ _ hC,hN.keeps I2.bk,T.keeps I2.bk,λh' e hm'=>?_⟩)
 exact hR pins σ H2 s2 h' e _ _ I2 hm' q2
end
abbrev XS:=St->XK
abbrev TEx:=St->Hp->VK->XK->Prop
abbrev TSx:=Ends->XS->St->Hp->Prop
def XP(X:Cx)(pins:Rb)(E:XS)(e:Value)(s':Shared):Prop:=∃σ1 H1 s1,Inv X pins σ1 H1 s1/\CX1 X.prog X.w X.stack H1 s1 (E σ1) e s'
def PEx(X:Cx)(e:Expr)(t:TEx):Prop:=
 ∀(pins:Rb) (s:Shared) (σ:St) (H:Hp) (Q:VK) (E:XS),Inv X pins σ H s->t σ H Q (E σ)->wpAny (model X.prog X.w) X.A (eval e X.env) (EP X pins σ Q) (XP X pins E) s
section
variable{X:Cx}{st:Stmt}{fL:List Stmt}{t u:TSx}{e:Expr}{es:List Expr}{te:TEx}{pos p:Pos}{x:Str}{f:Addr}{fd:FuncData}{ps:List Str}{sp:Sp}{k:Nat}{ta:TA}{dvs:List V}{ds:List Value}
end
section
variable{X:Cx}{pins:Rb}{σ:St}{H:Hp}{s:Shared}{ea:Addr}
end
structure XHand(K:W.Frag)(C:Addr):Prop where
 ty:W.typeIn K (.ref C)=some (.type "type")
 cls:(W.clsIn K C).isSome=true
 mb:W.mroIn K C (.type "BaseException")=some true
section
variable{X:Cx}{x n:Str}{C:Addr}{i:Nat}{body suite:List Stmt}{b₀:Stmt}{tb:TSx}{ts:TS}{np hpos pos:Pos}
end
mutual
inductive Rep(K:W.Frag)(H:Hp):V->PyData->Prop where
 |non:Rep K H .non .none
 |bl (b:Bool):Rep K H (.bl b) (.bool b)
 |int (i:Int):Rep K H (.int i) (.int i)
 |str (x:Str):Rep K H (.str x) (.str x)
 |tup {a:Addr}{xs:List V}{ds:List PyData} (h:SqT K H a xs) (r:Reps K H xs ds):Rep K H (.ref a) (.tuple ds)
 |lst {a:Addr}{xs:List V}{ds:List PyData} (h:SqL K H a xs) (r:Reps K H xs ds):Rep K H (.ref a) (.list ds)
inductive Reps(K:W.Frag)(H:Hp):List V->List PyData->Prop where
 |nil:Reps K H [] []
 |cons {x:V}{d:PyData}{xs:List V}{ds:List PyData} (r:Rep K H x d) (rr:Reps K H xs ds):Reps K H (x::xs) (d::ds)
end
section
variable{X:Cx}{pins:Rb}{σ:St}{H H':Hp}{s:Shared}{K:W.Frag}
def Rep.reads(I:Inv X pins σ H s)(r:Rep X.K H v d)(q:RelV v u):∃as,Reads s.heap u d as:=
 Rep.rec (motive_1:=λv d _=>∀u,RelV v u->∃as,Reads s.heap u d as) (motive_2:=λvs ds _=>∀us,Vals vs us->∃as,ReadsAll s.heap us ds as)
  (λu r=>by cases r;exact⟨_,.none⟩) (λb u r=>by cases r;exact⟨_,.bool b⟩) (λi u r=>by obtain⟨t,rfl⟩:=r;exact⟨_,.int i t⟩) (λx u r=>by obtain⟨t,rfl⟩:=r;exact⟨_,.str x t⟩)
  (λh _ ih u r=>by
   cases r
   obtain⟨its,rv,⟨o,e,c,n,d⟩,_⟩:=I.tuple h
   obtain⟨as,q⟩:=ih _ rv
   exact⟨as,.tuple e c d (by simpa using q)⟩)
  (λh _ ih u r=>by
   cases r
   obtain⟨its,rv,⟨o,n,e,c,_,d⟩,_⟩:=I.list h
   obtain⟨as,q⟩:=ih _ rv
   exact⟨_,.list e c d (by simpa using q)⟩)
  (λus r=>by cases r;exact⟨_,.nil⟩)
  (λ_ _ a b us q=>by
   cases q with
   |
    cons q1 q2=>
    obtain⟨as,h1⟩:=a _ q1
    obtain⟨bs,h2⟩:=b _ q2
    exact⟨_,.cons h1 h2⟩) r u q
end
section
variable{X:Cx}
def shp(d:PyData):Bool:=d.canLay0&&decide (d.depth<=160)
def fk(h:shp d=true):d.canLay0=true:=(Bool.and_eq_true_iff.mp h).1
def kQ{A:Around}{d e:PyData}(h:shp d=true)(hu:A.units+180<cLine):A.units+min d.depth e.depth<cLine:=by
 have h1:d.depth<=160:=P0 (Bool.and_eq_true_iff.mp h).2
 have h2:min d.depth e.depth<=d.depth:=Nat.min_le_left _ _
 omega
def wN(K:W.Frag):R2:=λx y H Q=>∃dx dy,Rep K H x dx/\Rep K H y dy/\shp dx=true/\shp dy=true/\Q (.bl (PyData.eqv dx dy)) H
def wF(K:W.Frag):R2:=λx y H Q=>∃dx dy,Rep K H x dx/\Rep K H y dy/\shp dx=true/\shp dy=true/\Q (.bl (!PyData.eqv dx dy)) H
def Gn(hu:X.A.units+180<cLine):OpR X (compareOp .Eq) (wN X.K):=by
 intro pins s σ H x y v u Q I rx ry h
 obtain⟨dx,dy,r1,r2,h1,h2,q⟩:=h
 obtain⟨as,q1⟩:=r1.reads I rx
 obtain⟨bs,q2⟩:=r2.reads I ry
 exact SeqAt.compareEq_reads q1 q2 (fk h1) (fk h2) (kQ h1 hu) (zi I q rfl)
def KU(hu:X.A.units+180<cLine):OpR X (compareOp .NotEq) (wF X.K):=by
 intro pins s σ H x y v u Q I rx ry h
 obtain⟨dx,dy,r1,r2,h1,h2,q⟩:=h
 obtain⟨as,q1⟩:=r1.reads I rx
 obtain⟨bs,q2⟩:=r2.reads I ry
 exact SeqAt.compareNe_reads q1 q2 (fk h1) (fk h2) (kQ h1 hu) (zi I q rfl)
open PySem.Builtin.Int (intBits)
def CDivB(i j:Int):Prop:=j≠0/\intBits j<=8000
def Dp(i j:Int):Prop:=intBits i<=100000/\intBits j<=100000
def Cj:OpR X (binaryOp .FloorDiv) (rI CDivB λi j=>.int (i.fdiv j)):=opI λi j _ _ _ _ _ hc q=>floordiv_int hc.1 q (.inl (PyProof.noPylong_of_log2 (by
 have h:=hc.2
 have h0:=hc.1
 unfold intBits at h
 have hb:(j==0)=false:=by simpa using h0
 rw[hb] at h
 simp only[Pn,Qn] at h
 omega)))
def Ex:OpR X (binaryOp .Mult) (rI Dp λi j=>.int (i*j)):=opI λi j _ _ _ _ _ hc q=>mul_int q (PySem.IntMulOk.of_le hc.1 hc.2 (by decide))
def zk(bs:List Bool):((List.range bs.length).all λi=>bs.getD i false)=bs.all id:=by
 rw[QB,Ot,Ot]
 constructor
 ·intro h x hx
  obtain⟨i,hi,rfl⟩:=List.mem_iff_getElem.mp hx
  have:=h i (OD.mpr hi)
  simpa [Em,hi] using this
 ·intro h i hi
  have hi':=OD.mp hi
  have:=h bs[i] (O0 hi')
  simpa [Em,hi'] using this
def CI(hc:X.calm=true):CallR X (.builtin "all") (λxs H Q=>∃(a:Addr) (bs:List Bool),xs=[.ref a]/\SqL X.K H a (bs.map V.bl)/\Q (.bl (bs.all id)) H):=by
 intro pins s σ H xs us Q I r h
 obtain⟨a,bs,rfl,hq,q⟩:=h
 obtain⟨u,rfl,ru⟩:=d4 r
 cases ru
 obtain⟨its,rv,p,hz⟩:=I.list hq
 have hl:=rv.length
 rw[l_] at hl
 have hlt:a<s.heap.objs.size:=by obtain⟨o,n,e,_⟩:=p;exact w_ e
 refine call_all_walk (wpAny_pyIter_list p.isList ?_)
 refine⟨s.heap.objs.size,_,_,_,_,_,λi=>bs.getD i false,rfl,Walks.list (A:=X.A.in1) (I.ok.hd hc) s.heap.objs.size a (K_ hlt) its.toArray,⟨⟨_,C_ _ rfl,rfl,rfl⟩,(p.keeps λb o e=>n_ _ e).isList⟩,λi v s' Q' E' hP hQ=>?_,λh' tk hk=>?_⟩
 ·have hP':its[i]?=some v:=by simpa using hP
  have hi:i<bs.length:=by rw[hl];exact (r_.mp hP').1
  have hb:(bs.map V.bl)[i]?=some (V.bl bs[i]):=by simp [hi]
  obtain⟨u,hu,ru⟩:=rv.get hb
  rw[hP'] at hu
  cases hu
  cases ru
  refine PD ?_
  have e:bs.getD i false=bs[i]:=by simp [Em,hi]
  show Q' bs[i] s'
  rw[<- e]
  exact hQ
 ·have e1:its.toArray.size=bs.length:=by rw[t_,hl]
  rw[e1,zk]
  have hn:H s.heap.objs.size=none:=I.fresh
  have I1:Inv X pins σ H { s with heap:=s.heap.push { cls:=.type "list_iterator",dict:=none,data:=.fields #[.ref a,rawInt 0] } }:=I.kept (t':=s.toks) λb o e=>n_ _ e
  refine⟨.bl _,H,?_,rfl,q⟩
  refine I.kept (t':=tk) λb o e=>?_
  have hne:b≠s.heap.objs.size:=K_ (w_ e)
  exact hk b o (by simpa using hne) (n_ _ e)
end
structure Def(K:W.Frag)(mg:Ra)(x:Str)(st:Stmt):Prop where
 ex:∃f fd,Fun K x x st f fd/\mg x=some (.ref f)
def zd{K:W.Frag}{h:Heap}{mg:Ra}{x:Str}{st:Stmt}{f:Addr}{oc:Value}{od an:Option Addr}{osl:Array (Option Value)}{kV doc pm cdv ct:Value}(X:K.In h)(G:h.Ns mainGlobals mg)
 (a:W.nsIn K mainGlobals x=some (some (.ref f))) (l:K.lookup f=some ⟨oc,od,.func (W.fnOf x x (bI st) (aK st) (ak st) .none kV doc pm an cdv ct),osl⟩)
 (c:W.codeIn K cdv x=true) (k:W.keepIn K (.ref f)=true):Def K mg x st:=⟨f,_,Jh l c k,W.mg_of X G a⟩
def Fun.look{K:W.Frag}{x qual:Str}{st:Stmt}{f:Addr}{fd:FuncData}(F:Fun K x qual st f fd):∃oc od osl,K.lookup f=some ⟨oc,od,.func fd,osl⟩:=by
 obtain⟨oc,od,kV,doc,pm,an,cdv,ct,osl,rfl,lk,jp⟩:=F.ex
 exact⟨oc,od,osl,lk⟩
structure Callee(P:Program)(w:World)(K:W.Frag)(mg:Ra)(base:Heap)(x:Str)(k:Nat)(ps:List Str)(sp:Sp):Prop where
 ex:∃f fd,FnOk P w K mg base (CX1 P w) k f fd ps sp/\mg x=some (.ref f)/\W.keepIn K (.ref f)=true/\Binds K fd ps []/\∃oc od osl,K.lookup f=some ⟨oc,od,.func fd,osl⟩
section
variable{P:Program}{w:World}{K:W.Frag}{mg:Ra}{base:Heap}{x:Str}{st:Stmt}{k:Nat}{ps N:List Str}{sp:Sp}
def Callee.imp(C:Callee P w K mg base x k ps sp)(h:∀vs H Q E,sp' vs H Q E->sp vs H Q E):Callee P w K mg base x k ps sp':=by
 obtain⟨f,fd,F,r⟩:=C.ex
 exact⟨f,fd,F.imp h,r⟩
def Def.okR(D:Def K mg x st)(S:FnScope N ps (ak st))
 (hb:∀(kV doc pm:Value) (an:Option Addr) (cdv ct:Value) (us:List Value),us.length=ps.length->bindArgs (W.fnOf x x (bI st) (aK st) (ak st) .none kV doc pm an cdv ct) ⟨us,[]⟩=pure (ps.zip us))
 (len:∀vs H Q E,sp vs H Q E->vs.length=ps.length)
 (d_:∀(f:Addr) (cdv:Value) (A:Around) (outer:List Env) (s:Shared) (H:Hp) (vs:List V) (Q:VK) (E:XK),Room k (A.deeper (envOfC x (ak st) s.heap.objs.size f cdv))->sp vs H Q E->
  ∃t,PSs (cP (CX1 P w) P w K mg base N x (ak st) f cdv A outer s H E) (aK st) t/\t { nx:=λ_ H'=>Q .non H',rt:=Q } (eQ N vs) H):Callee P w K mg base x (k+1) ps sp:=by
 obtain⟨f,fd,F,m⟩:=D.ex
 exact⟨f,fd,F.okR S len (d_ f),m,F.kp,F.binds hb,F.look⟩
end
section
variable{X:Cx}{x:Str}{p pos:Pos}{e:Expr}{es:List Expr}{ta:TA}{k:Nat}{ps:List Str}{sp:Sp}{E:XK}
end
section
variable{X:Cx}{K:W.Frag}{tg l:Expr}{tl:TE}
def allK(h:X.K=K)(hc:X.calm=true):CallR X (.builtin "all") (λxs H Q=>∃(a:Addr) (bs:List Bool),xs=[.ref a]/\SqL K H a (bs.map V.bl)/\Q (.bl (bs.all id)) H):=by subst h;exact CI hc
def Room.u180(r:Room k A):A.units+180<cLine:=by have:=r.un;omega
def eqDK(h:X.K=K)(hu:X.A.units+180<cLine):OpR X (compareOp .Eq) (wN K):=by subst h;exact Gn hu
def neDK(h:X.K=K)(hu:X.A.units+180<cLine):OpR X (compareOp .NotEq) (wF K):=by subst h;exact KU hu
def inK(h:X.K=K):OpR X (compareOp .In) (rIn K false):=by subst h;exact yO
def Lf(h:X.K=K):OpR X (compareOp .NotIn) (rIn K true):=by subst h;exact pP
end
section
variable{X:Cx}
def KJ{io a_ tg:Expr}{ifs:List Expr}{scope:Scope}{pos:Pos}{wi:TI}{g:TG}{tc:TT}{te:TE}{N:List Str}{sub:Rg}{iT:Nat}{xT:Str}{px spos:Pos}
 (hc:X.calm=true) (hN:X.N.Nodup) (hix:X.N[iT]?=some xT) (hxl:Loc X.env.scope xT) (hi:PI X tg a_ wi)
 (hk:scope.kind=.function) (hnc:∀x∈scope.names,x.2 ≠ .cell) (b_:∀x∈scope.names,x.2=.local->scope.names.lookup x.1=some .local)
 (hfr:∀x∈scope.names,x.2=.free->X.env.kindOf x.1=some .cell\/X.env.kindOf x.1=some .free)
 (hsl:sub.length=N.length) (f_:∀(j i:Nat) (x:Str),sub[j]?=some (some i)->N[j]?=some x->X.N[i]?=some x/\scope.names.lookup x=some .free)
 (hg:∀cl C s₂ H fp,PG (aF X N scope cl C s₂ H fp) tg g) (ht:∀cl C s₂ H fp,PTs (aF X N scope cl C s₂ H fp) ifs tc) (he:∀cl C s₂ H fp,PE (aF X N scope cl C s₂ H fp) io te)
 (hsw:swapsWith (.ListComp io [⟨tg,a_,ifs,0⟩] scope pos) (some (.Name xT px)) spos.line X.env=pure true)
 (hs:∀x,foldedSetIterable a_ X.env x=pure x) (hf:X.fn xT=true\/X.env.scope.names.lookup xT=some .local):
 PS X (.Assign [.Name xT px] (.ListComp io [⟨tg,a_,ifs,0⟩] scope pos) spos) (pJ (jc wi sub g tc te) (ma iT)):=by
 intro pins s σ H D0 I h
 rw[exec_Assign_Name_used _ _ _ _ hsw]
 refine k_ (Qe (k_ ?_))
 show wpAny _ X.A (do let _ <- comprehension (.ListComp io [⟨tg,a_,ifs,0⟩] scope pos) scope X.env _ (newList []) false (eval a_ X.env) (some (assign (.Name xT px) X.env))) _ _ s
 refine k_ (OB (uP (use:=some (assign (.Name xT px) X.env)) (R:=λ_ s'=>SP X pins D0 .next s') hc hi hk hnc b_ hfr hsl f_ hg ht he hs I h λD C s4 e=>?_) (λ_ s' hq=>u_ (u_ hq)) λ_ _ e=>e)
 obtain⟨m,hm⟩:=e.ns
 obtain⟨H',hC,q,i⟩:=e.inv
 have dc:=e.dc
 have fr:=e.fr
 refine wpAny_assign_Name (oy (v:=.ref D) (i s4.heap ⟨rfl,λ_ _=>rfl⟩) hN hix hxl rfl (λs7 I7 ⟨a7,sb7,ha7⟩=>?_) hf)
 have ha:a7<D:=by
  rcases ha7 with z |z
  ·rw[z];exact fr
  ·exact e.cell xT a7 z
 refine⟨m,hm.sameBut sb7 (P5 (QJ ha dc)),λh8 hs8=>⟨_,_,I7.turned (it:=C) (t':=s7.toks) (λb o hb e=>hs8.extBut b o hb e) hC (P5 (QJ fr dc)) (.inr (E_ e.sz (P4 dc))) (λx c q=>K_ (QJ (e.cell x c q) dc)) (λp hp=>K_ (QJ (e.pin p hp) dc)),q⟩⟩
def Oj{io a_ tg:Expr}{scope:Scope}{pos px spos:Pos}{wi:TI}{g:TG}{te:TE}{iT:Nat}{xT:Str}(M:List Str)(kn:List (Str×NameKind))(N:List Str)(sub:Rg)
 (hc:X.calm=true) (hN:X.N.Nodup) (hix:X.N[iT]?=some xT) (hxl:Loc X.env.scope xT) (hi:PI X tg a_ wi)
 (hg:∀cl C s₂ H fp,PG (aF X N scope cl C s₂ H fp) tg g) (he:∀cl C s₂ H fp,PE (aF X N scope cl C s₂ H fp) io te)
 (hsw:swapsWith (.ListComp io [⟨tg,a_,[],0⟩] scope pos) (some (.Name xT px)) spos.line X.env=pure true)
 (hM:X.N=M) (hkn:X.env.scope.names=kn) (f_:fB M scope.names sub N=true)
 (hk:scope.kind=.function) (hnc:∀x∈scope.names,x.2 ≠ .cell) (b_:∀x∈scope.names,x.2=.local->scope.names.lookup x.1=some .local)
 (hfr:gQ kn scope.names=true)
 (hsl:sub.length=N.length) (hs:∀x,foldedSetIterable a_ X.env x=pure x) (hf:X.fn xT=true\/X.env.scope.names.lookup xT=some .local):
 PS X (.Assign [.Name xT px] (.ListComp io [⟨tg,a_,[],0⟩] scope pos) spos) (pJ (jc wi sub g B6 te) (ma iT)):=
 KJ hc hN hix hxl hi hk hnc b_ (by subst hkn;exact tQ hfr) hsl (by subst hM;exact pW f_) hg (λcl C s₂ H fp=>uY) he hsw hs hf
end
theorem jU:∀{ns:List Int}{its:List Value},Vals (ns.map V.int) its->IntsAre its ns
 | [],_,h=>by cases h;exact .nil
 |
  i::r,_,h=>by
  cases h with
  |
   cons h1 h2=>
   obtain⟨t,rfl⟩:=h1
   exact .cons i t (jU h2)
def nW{X:Cx}{K:W.Frag}(hK:X.K=K)(hc:X.calm=true):CallR X (.builtin "sum") (λxs H Q=>∃(a:Addr) (ns:List Int),xs=[.ref a]/\SqL K H a (ns.map V.int)/\Q (.int ns.sum) H):=by
 subst hK
 intro pins s σ H xs us Q I r h
 obtain⟨a,ns,rfl,hq,q⟩:=h
 obtain⟨u,rfl,ru⟩:=d4 r
 cases ru
 obtain⟨its,rv,p,hz⟩:=I.list hq
 have hi:=jU rv
 obtain⟨ys,hy⟩:=hi.allInts.items
 have hn:numsOf its.toArray.toList=ns:=by rw[show its.toArray.toList=its from rfl,hi.numsOf]
 have pl:=p.isList
 rw[hy] at pl hn
 rw[nums_intItems] at hn
 refine sum_intListG (I.ok.hd hc) pl λh' tk t' hk=>?_
 rw[preSum_eq,OY (by simp),hn]
 exact⟨.int ns.sum,H,I.kept (t':=tk) hk,⟨_,rfl⟩,q⟩
end L2
namespace Fr
def dv(a b:Int):Int:=if b<0 then -((Int.gcd a b:Nat):Int) else ((Int.gcd a b:Nat):Int)
def T(a b:Int):Int:=a.fdiv (dv a b)
def B(a b:Int):Int:=b.fdiv (dv a b)
def pK(hb:b≠0):0<Int.gcd a b:=Int.gcd_pos_of_ne_zero_right a hb
def dv_ne(hb:b≠0):dv a b≠0:=by
 have:=pK (a:=a) hb
 unfold dv
 split <;> omega
def Ci(a b:Int):dv a b ∣ a:=by
 have h:((Int.gcd a b:Nat):Int) ∣ a:=Int.gcd_dvd_left a b
 unfold dv
 split
 ·exact Int.neg_dvd.mpr h
 ·exact h
def AA(a b:Int):dv a b ∣ b:=by
 have h:((Int.gcd a b:Nat):Int) ∣ b:=Int.gcd_dvd_right a b
 unfold dv
 split
 ·exact Int.neg_dvd.mpr h
 ·exact h
def uH{a d q:Int}(hd:d≠0)(h:a=d*q):a.fdiv d=q:=by
 rw[h,Qk]
 exact Int.mul_fdiv_cancel q hd
def T_mul(hb:b≠0):T a b*dv a b=a:=by
 obtain⟨q,h⟩:=Ci a b
 have:T a b=q:=uH (dv_ne hb) h
 rw[this,Qk];exact h.symm
def B_mul(hb:b≠0):B a b*dv a b=b:=by
 obtain⟨q,h⟩:=AA a b
 have:B a b=q:=uH (dv_ne hb) h
 rw[this,Qk];exact h.symm
def B_pos(hb:b≠0):0<B a b:=by
 have h:=B_mul (a:=a) hb
 have hg:=pK (a:=a) hb
 generalize hx:B a b=x at h ⊢
 unfold dv at h
 split at h
 ·rename_i hneg
  have h2:x*((Int.gcd a b:Nat):Int)=-b:=by rw[Int.mul_neg] at h;omega
  rcases Int.lt_or_le 0 x with z |z
  ·exact z
  ·have:x*((Int.gcd a b:Nat):Int)<=0:=Int.mul_nonpos_of_nonpos_of_nonneg z (by omega)
   omega
 ·rename_i hpos
  rcases Int.lt_or_le 0 x with z |z
  ·exact z
  ·have:x*((Int.gcd a b:Nat):Int)<=0:=Int.mul_nonpos_of_nonpos_of_nonneg z (by omega)
   omega
def cross(hb:b≠0):T a b*b=a*B a b:=by
 have h1:=T_mul (a:=a) hb
 have h2:=B_mul (a:=a) hb
 generalize T a b=x at *
 generalize B a b=y at *
 generalize dv a b=d at *
 rw[<- h2,<- h1]
 rw[<- O2,Ql]
def dv_abs(a b:Int):(dv a b).natAbs=Int.gcd a b:=by
 unfold dv
 split <;> simp
def low(hb:b≠0):Int.gcd (T a b) (B a b)=1:=by
 have h1:=T_mul (a:=a) hb
 have h2:=B_mul (a:=a) hb
 have hg:=pK (a:=a) hb
 have e1:a.natAbs=(T a b).natAbs*Int.gcd a b:=by rw[<- dv_abs a b,<- OX,h1]
 have e2:b.natAbs=(B a b).natAbs*Int.gcd a b:=by rw[<- dv_abs a b,<- OX,h2]
 have e3:Int.gcd a b=Nat.gcd ((T a b).natAbs*Int.gcd a b) ((B a b).natAbs*Int.gcd a b):=by rw[<- e1,<- e2];rfl
 rw[Nat.gcd_mul_right] at e3
 show Nat.gcd (T a b).natAbs (B a b).natAbs=1
 generalize Nat.gcd (T a b).natAbs (B a b).natAbs=k at *
 generalize Int.gcd a b=g at *
 have:(1:Nat)*g=k*g:=by omega
 exact (Nat.eq_of_mul_eq_mul_right hg this).symm
def uniq(hy:0<y)(hy':0<y')(h:Int.gcd x y=1)(h':Int.gcd x' y'=1)(e:x*y'=x'*y):x=x'/\y=y':=by
 have c1:Nat.Coprime y.natAbs x.natAbs:=by rw[Nat.coprime_comm];exact h
 have c2:Nat.Coprime y'.natAbs x'.natAbs:=by rw[Nat.coprime_comm];exact h'
 have e1:x.natAbs*y'.natAbs=x'.natAbs*y.natAbs:=by rw[<- OX,<- OX,e]
 have d1:y.natAbs ∣ y'.natAbs:=c1.dvd_of_dvd_mul_left (by rw[e1];exact Nat.dvd_mul_left _ _)
 have d2:y'.natAbs ∣ y.natAbs:=c2.dvd_of_dvd_mul_left (by rw[<- e1];exact Nat.dvd_mul_left _ _)
 have ey:y.natAbs=y'.natAbs:=Nat.dvd_antisymm d1 d2
 have ey':y=y':=by omega
 subst ey'
 exact⟨Qa (by omega) e,rfl⟩
def same(hb:b≠0)(hd:d≠0)(e:a*d=c*b):T a b=T c d/\B a b=B c d:=by
 refine uniq (B_pos hb) (B_pos hd) (low hb) (low hd) ?_
 have h1:=cross (a:=a) hb
 have h2:=cross (a:=c) hd
 have hbd:b*d≠0:=QE hb hd
 refine Qa hbd ?_
 calc T a b*B c d*(b*d)=(T a b*b)*(B c d*d):=by rw[O2,PV (B c d) b d,<- O2]
  _=(a*B a b)*(B c d*d):=by rw[h1]
  _=(a*d)*(B c d*B a b):=by rw[O2 a,O2 a,PV (B a b),PV d,Qk (B a b) d]
  _=(c*b)*(B c d*B a b):=by rw[e]
  _=(c*B c d)*(B a b*b):=by rw[O2 c,O2 c,PV b,Qk b (B a b)]
  _=(T c d*d)*(B a b*b):=by rw[<- h2]
  _=T c d*B a b*(b*d):=by rw[O2,O2,PV d,Qk d b]
def self(hb:0<b)(h:Int.gcd a b=1):T a b=a/\B a b=b:=
 uniq (B_pos (by omega)) hb (low (by omega)) h (cross (by omega))
def euc(m n:Nat):Nat.gcd n (m % n)=Nat.gcd m n:=by
 rw[Nat.gcd_comm,<- Nat.gcd_rec,Nat.gcd_comm]
end Fr
set_option maxHeartbeats 1000000
namespace L2
open PySem PySem.Spec PyProof.Rows
def Inv.turnedL{X:Cx}{pins:Rb}{σ:St}{H:Hp}{s:Shared}{h':Heap}{t':Nat}{ch:List Addr}(I:Inv X pins σ H s)(k:∀b o,b∉ch->s.heap.get? b=some o->h'.get? b=some o)(hf:∀b∈ch,FpOk X pins H b):Inv X pins σ H { s with heap:=h',toks:=t' }:=by
 have away:∀b u,H b=some u->b∉ch:=λb u e z=>by have:=(hf b z).1;rw[e] at this;cases this
 refine I.step (g':=s.gens) (d':=s.drawn) (ch:=ch) (λb hb=>⟨(hf b hb).2.2.2.1,(hf b hb).2.1,(hf b hb).2.2.2.2.1,(hf b hb).2.2.2.2.2⟩) (λb o _ _ hc e _=>k b o hc e) (λb o _ _ hc e _=>⟨o.slots,k b o hc e⟩) (λ_ _ _ _ n=>n)
  (λb o hc e=>⟨o,k b o hc e⟩) (λ_ _ e=>e) (λ_ _ _ e=>e) (λb ps e=>⟨#[],by rw[e];simp⟩) (λm hm=>?_) (λb u e=>?_) I.bare
 ·obtain⟨o,es,ep,ho,r⟩:=hm
  exact⟨o,es,ep,k _ o (λz=>(hf _ z).2.1 rfl) ho,r⟩
 ·refine (I.hok b u e).stay (λc v hc q=>k c v ?_ q) (λ_ q=>q) λ_ _ q=>q
  rcases hc with z |z
  ·rw[z];exact away b u e
  ·exact away c _ z
def FpOk.up(f:FpOk X pins H b)(hn:b≠p):FpOk X pins (upd H p o) b:=⟨by rw[aq hn];exact f.1,f.2⟩
def vg(hj:s.heap.IsTupleIter j t n)(ht:s.heap.IsTuple t its)(hv:its[n]?=some v)
 (k:∀h',h'.IsTupleIter j t (n+1)->Heap.SameBut j s.heap h'->Q v { s with heap:=h' }):wpAny (model prog w) A (Builtin.SmallTypes.nextOf (.ref j)) Q E s:=by
 obtain⟨oj,ej,cj,dj⟩:=id hj
 obtain⟨ot,et,_,m,dt⟩:=ht
 unfold Builtin.SmallTypes.nextOf
 refine k_ (Pf (name:=Str.ofString "__next__") hj.typeIs Py (PJ Py hj.typeIs F.entry_tuple_iterator_next ?_ (F.args_tuple_iterator_next_1 _)))
 show wpAny _ _ (field (.ref j) 0 >>= _) _ _ s
 refine k_ (OQ ej dj (x:=.ref t) rfl ?_)
 show wpAny _ _ (if (Value.ref t==Value.none)=true then _ else _) _ _ s;rw[if_neg (show ¬ ((Value.ref t==Value.none)=true) from y_)]
 show wpAny _ _ (field (.ref j) 1 >>= _) _ _ s
 refine k_ (OQ ej dj (x:=.int n 0) rfl ?_)
 show wpAny _ _ (seqItems? (.ref t) >>= _) _ _ s;refine k_ (Pl et dt ?_)
 simp only[OK,hv]
 refine k_ (wpAny_setField ej dj (by simp) (u_ ⟨v,rfl,u_ (k _ ?_ (ON ..))⟩))
 exact⟨_,Heap.get?_update_self _ ej (Obj.isFreed_of_fields (Obj.data_mapFields dj _)),(Obj.cls_mapFields ..).trans cj,by rw[Obj.data_mapFields dj];simp [rawInt]⟩
def ny(hh:A.handled=none)(hj:s.heap.IsTupleIter j t n)(ht:s.heap.IsTuple t its)(hv:its[n]?=none)
 (k:∀h' e,Heap.ExtBut j s.heap h'->(∃o,h'.get? e=some o/\o.cls=.type "StopIteration")->E (.ref e) { s with heap:=h' }):wpAny (model prog w) A (Builtin.SmallTypes.nextOf (.ref j)) Q E s:=by
 obtain⟨oj,ej,cj,dj⟩:=id hj
 obtain⟨ot,et,_,m,dt⟩:=ht
 unfold Builtin.SmallTypes.nextOf
 refine k_ (Pf (name:=Str.ofString "__next__") hj.typeIs Py (PJ Py hj.typeIs F.entry_tuple_iterator_next ?_ (F.args_tuple_iterator_next_1 _)))
 show wpAny _ _ (field (.ref j) 0 >>= _) _ _ s
 refine k_ (OQ ej dj (x:=.ref t) rfl ?_)
 show wpAny _ _ (if (Value.ref t==Value.none)=true then _ else _) _ _ s;rw[if_neg (show ¬ ((Value.ref t==Value.none)=true) from y_)]
 show wpAny _ _ (field (.ref j) 1 >>= _) _ _ s
 refine k_ (OQ ej dj (x:=.int n 0) rfl ?_)
 show wpAny _ _ (seqItems? (.ref t) >>= _) _ _ s;refine k_ (Pl et dt ?_)
 simp only[OK,hv]
 refine k_ (wpAny_rule (k_ (wpAny_setField ej dj (by simp) ?_)));show wpAny _ _ (newExc (.type "StopIteration") [] >>= _) _ _ _
 refine k_ ?_;simp only[newExc,newTuple]
 refine k_ (O6 ?_ (by size_fits));refine k_ (m:=firstArgMember _ _) (wpAny_of_eq (a:=Value.none) (by first |rfl |(simp only[firstArgMember];rfl)) ?_)
 refine O6 ?_ (by size_fits);simp only[raiseNew]
 refine k_ (wpAny_handled ?_);first |rw[show A.in1.handled=none from hh] |rw[hh]
 refine k_ (u_ (wpAny_throw ?_));exact k _ _ (((ON ..).extBut.push _).push _) ⟨_,C_ _ rfl,rfl⟩
def SqB(K:W.Frag)(b:Bool)(H:Hp)(a:Addr)(xs:List V):Prop:=match b with
 |true=>SqL K H a xs
 |false=>SqT K H a xs
def ItB(b:Bool)(h:Heap)(j a:Addr)(i:Nat):Prop:=match b with
 |true=>h.IsListIter j a i
 |false=>h.IsTupleIter j a i
def SqB.inj(I:Inv X pins σ H s)(x:SqB X.K b H a xs)(y:SqB X.K b H a ys):xs=ys:=by
 cases b with
 |true=>exact I.list_inj x y
 |false=>exact I.tuple_inj x y
def IteE(K:W.Frag)(b:Bool)(a:Addr):It:=
 ⟨λi H=>∃xs x,SqB K b H a xs/\xs[i]?=some x,λi H x H'=>∃p u,x=.ref p/\H p=none/\H'=upd H p (.tup [.int (i:Nat),u])/\∀xs,SqB K b H a xs->xs[i]?=some u,λi H=>∃xs,SqB K b H a xs/\xs.length=i⟩
def jP(z:ItB b h j a i):∃o,h.get? j=some o/\(∀v,o.data ≠ .cell v)/\o.cls=.type (if b then "list_iterator" else "tuple_iterator"):=by
 cases b with
 |true=>obtain⟨o,e,c,d⟩:=z;exact⟨o,e,(λv y=>by rw[d] at y;cases y),c⟩
 |false=>obtain⟨o,e,c,d⟩:=z;exact⟨o,e,(λv y=>by rw[d] at y;cases y),c⟩
def bB(z:ItB b h j a i)(k:∀o,h.get? j=some o->h'.get? j=some o):ItB b h' j a i:=by
 cases b with
 |true=>obtain⟨o,e,r⟩:=z;exact⟨o,k o e,r⟩
 |false=>obtain⟨o,e,r⟩:=z;exact⟨o,k o e,r⟩
def LsB(b:Bool)(h:Heap)(a:Addr)(its:Array Value):Prop:=match b with
 |true=>h.IsList a its
 |false=>h.IsTuple a its
def LsB.keep(z:LsB b h a its)(k:∀o,h.get? a=some o->h'.get? a=some o):LsB b h' a its:=by
 cases b <;> (obtain⟨o,e,r⟩:=z;exact⟨o,k o e,r⟩)
def xf(hj:ItB b s.heap j a n)(ht:LsB b s.heap a its)(hv:its[n]?=some v)
 (k:∀h',ItB b h' j a (n+1)->Heap.SameBut j s.heap h'->Q v { s with heap:=h' }):wpAny (model prog w) A (Builtin.SmallTypes.nextOf (.ref j)) Q E s:=by
 cases b with
 |true=>exact wpAny_nextOf_list_item hj ht hv k
 |false=>exact vg hj ht hv k
def oh(hh:A.handled=none)(hj:ItB b s.heap j a n)(ht:LsB b s.heap a its)(hv:its[n]?=none)
 (k:∀h' e,Heap.ExtBut j s.heap h'->(∃o,h'.get? e=some o/\o.cls=.type "StopIteration")->E (.ref e) { s with heap:=h' }):wpAny (model prog w) A (Builtin.SmallTypes.nextOf (.ref j)) Q E s:=by
 cases b with
 |true=>exact wpAny_nextOf_list_end hh hj ht hv k
 |false=>exact ny hh hj ht hv k
section
variable{prog:Program}{w:World}{A:Around}{E:Rf}{s:Shared}{b1 b2:Bool}{z p q j1 j2 a1 a2:Addr}{n:Nat}{xs ys:Array Value}{x y u v:Value}
def zipN{Q:Rf}(D:ZipApart z p q j1 j2 a1 a2)(hz:IsZip s.heap z p q .none)(hp:IsPair s.heap p (.ref j1) (.ref j2))(hq:IsPair s.heap q u v)
 (i1:ItB b1 s.heap j1 a1 n) (i2:ItB b2 s.heap j2 a2 n) (l1:LsB b1 s.heap a1 xs) (l2:LsB b2 s.heap a2 ys) (ex:xs[n]?=some x) (ey:ys[n]?=some y)
 (k:∀h',IsZip h' z p q (rawInt s.heap.objs.size)->IsPair h' q x y->ItB b1 h' j1 a1 (n+1)->ItB b2 h' j2 a2 (n+1)->IsPair h' s.heap.objs.size x y->(∀c o,c≠z->c≠q->c≠j1->c≠j2->s.heap.get? c=some o->h'.get? c=some o)->Q (.ref s.heap.objs.size) { s with heap:=h' }):
 wpAny (model prog w) A (Builtin.«zip.__next__» ⟨[.ref z],[]⟩) (λii s'=>∃v,ii=.done (.ret v)/\Q v s') E s:=by
 show wpAny _ _ (field (.ref z) 2 >>= _) _ _ _;refine k_ (OQ hz rfl (x:=.bool false) rfl ?_)
 show wpAny _ _ (field (.ref z) 3 >>= _) _ _ _;refine k_ (OQ hz rfl (x:=.ref p) rfl ?_)
 refine k_ (Pl hp rfl ?_);show wpAny _ _ (Builtin.SmallTypes.ownedTupleIsFree (.ref z) >>= _) _ _ _
 refine k_ ?_;unfold Builtin.SmallTypes.ownedTupleIsFree
 refine k_ (OQ hz rfl (x:=.none) rfl (u_ ?_));simp only[PF]
 refine k_ (wpAny_rule ?_);refine k_ (OQ hz rfl (x:=.ref q) rfl ?_)
 refine k_ (Pq hz (by simp) λg1 (y1:IsZip g1 z p q .ellipsis) t1=>?_)
 refine k_ ?_;simp only[List.zipIdx_cons,List.zipIdx_nil,List.forIn_cons,List.forIn_nil]
 refine k_ (k_ (QR ?_));show wpAny _ _ (Builtin.SmallTypes.nextOf (.ref j1) >>= _) _ _ _
 refine k_ (xf (bB i1 λo e=>t1.extBut _ _ D.i1z e) (l1.keep λo e=>t1.extBut _ _ D.l1z e) ex λg2 m1 t2=>u_ ?_)
 have q2:IsPair g2 q u v:=t2.extBut _ _ D.TOi1 (t1.extBut _ _ D.TOz hq)
 refine k_ (Pl q2 rfl ?_);refine k_ (QN q2 λg3 (q3:IsPair g3 q x v) t3=>?_)
 refine k_ (wpAny_letGo (u_ ?_));refine k_ (k_ (QR ?_))
 show wpAny _ _ (Builtin.SmallTypes.nextOf (.ref j2) >>= _) _ _ _
 refine k_ (xf (bB i2 λo e=>t3.extBut _ _ D.TOi2.symm (t2.extBut _ _ D.i12.symm (t1.extBut _ _ D.i2z e))) (l2.keep λo e=>t3.extBut _ _ D.l2TO (t2.extBut _ _ D.l2i1 (t1.extBut _ _ D.l2z e))) ey λg4 m2 t4=>u_ ?_)
 have q4:IsPair g4 q x v:=t4.extBut _ _ D.TOi2 q3
 refine k_ (Pl q4 rfl ?_);refine k_ (QN q4 λg5 (q5:IsPair g5 q x y) t5=>?_)
 refine k_ (wpAny_letGo (u_ (u_ ?_)));refine k_ (Pl q5 rfl ?_);refine k_ (wpAny_newTuple ?_)
 have sz:g5.objs.size=s.heap.objs.size:=by rw[t5.1,t4.1,t3.1,t2.1,t1.1]
 have y5:IsZip g5 z p q .ellipsis:=t5.extBut _ _ D.TOz.symm (t4.extBut _ _ D.i2z.symm (t3.extBut _ _ D.TOz.symm (t2.extBut _ _ D.i1z.symm y1)))
 have all5:∀c o,c≠z->c≠q->c≠j1->c≠j2->s.heap.get? c=some o->g5.get? c=some o:=λc o c1 c2 c3 c4 e=>t5.extBut _ _ c2 (t4.extBut _ _ c4 (t3.extBut _ _ c2 (t2.extBut _ _ c3 (t1.extBut _ _ c1 e))))
 have n1:ItB b1 g5 j1 a1 (n+1):=bB m1 λo e=>t5.extBut _ _ D.TOi1.symm (t4.extBut _ _ D.i12 (t3.extBut _ _ D.TOi1.symm e))
 have n2:ItB b2 g5 j2 a2 (n+1):=bB m2 λo e=>t5.extBut _ _ D.TOi2.symm e
 have zl:z<g5.objs.size:=w_ y5
 show wpAny _ _ (Builtin.SmallTypes.ownedTupleHandOut (.ref z) (.ref g5.objs.size) >>= _) _ _ _;refine k_ ?_;unfold Builtin.SmallTypes.ownedTupleHandOut
 have y6:IsZip (g5.push { cls:=.type "tuple",data:=.seq #[x,y] }) z p q .ellipsis:=n_ _ y5
 refine k_ (Pq y6 (by simp) λg7 (y7:IsZip g7 z p q (rawInt g5.objs.size)) t7=>?_)
 refine Pq y7 (by simp) λg8 (y8:IsZip g8 z p q (rawInt g5.objs.size)) t8=>?_
 have up:∀c o,c≠z->g5.get? c=some o->g8.get? c=some o:=λc o c1 e=>t8.extBut _ _ c1 (t7.extBut _ _ c1 (n_ _ e))
 have w8:IsPair g8 g5.objs.size x y:=t8.extBut _ _ (P5 zl) (t7.extBut _ _ (P5 zl) (C_ _ rfl))
 rw[sz] at y8 w8
 refine u_ ⟨_,rfl,?_⟩
 show Q (.ref g5.objs.size) _;rw[sz]
 exact k g8 y8 (up _ _ D.TOz q5) (bB n1 λo e=>up _ o D.i1z e) (bB n2 λo e=>up _ o D.i2z e) w8 λc o c1 c2 c3 c4 e=>up c o c1 (all5 c o c1 c2 c3 c4 e)
def A9(hh:A.handled=none)(D:ZipApart z p q j1 j2 a1 a2)(hz:IsZip s.heap z p q .none)(hp:IsPair s.heap p (.ref j1) (.ref j2))(hq:IsPair s.heap q u v)
 (i1:ItB b1 s.heap j1 a1 n) (i2:ItB b2 s.heap j2 a2 n) (l1:LsB b1 s.heap a1 xs) (l2:LsB b2 s.heap a2 ys) (en:xs[n]?=none\/ys[n]?=none)
 (k:∀h' e,(∀c o,c≠z->c≠q->c≠j1->c≠j2->s.heap.get? c=some o->h'.get? c=some o)->(∃o,h'.get? e=some o/\o.cls=.type "StopIteration")->E (.ref e) { s with heap:=h' }):wpAny (model prog w) A (Builtin.«zip.__next__» ⟨[.ref z],[]⟩) Q E s:=by
 show wpAny _ _ (field (.ref z) 2 >>= _) _ _ _;refine k_ (OQ hz rfl (x:=.bool false) rfl ?_)
 show wpAny _ _ (field (.ref z) 3 >>= _) _ _ _;refine k_ (OQ hz rfl (x:=.ref p) rfl ?_)
 refine k_ (Pl hp rfl ?_);show wpAny _ _ (Builtin.SmallTypes.ownedTupleIsFree (.ref z) >>= _) _ _ _
 refine k_ ?_;unfold Builtin.SmallTypes.ownedTupleIsFree
 refine k_ (OQ hz rfl (x:=.none) rfl (u_ ?_));simp only[PF]
 refine k_ (wpAny_rule ?_);refine k_ (OQ hz rfl (x:=.ref q) rfl ?_)
 refine k_ (Pq hz (by simp) λg1 (y1:IsZip g1 z p q .ellipsis) t1=>?_)
 refine k_ ?_;simp only[List.zipIdx_cons,List.zipIdx_nil,List.forIn_cons,List.forIn_nil]
 refine k_ (k_ (QR ?_));show wpAny _ _ (Builtin.SmallTypes.nextOf (.ref j1) >>= _) _ _ _
 cases ex:xs[n]? with
 |
  none=>
  refine k_ (oh hh (bB i1 λo e=>t1.extBut _ _ D.i1z e) (l1.keep λo e=>t1.extBut _ _ D.l1z e) ex λg2 e t2 ⟨oe,he,ce⟩=>?_)
  have y2:IsZip g2 z p q .ellipsis:=t2 _ _ D.i1z.symm y1
  have ez:e≠z:=λw=>by subst w;rw[y2] at he;cases he;simp at ce
  exact Pq y2 (by simp) λg3 _ t3=>k g3 e (λc o c1 _ c3 _ w=>t3.extBut _ _ c1 (t2 _ _ c3 (t1.extBut _ _ c1 w))) ⟨oe,t3.extBut _ _ ez he,ce⟩
 |
  some x=>
  have ey:ys[n]?=none:=en.resolve_left λw=>by rw[ex] at w;cases w
  refine k_ (xf (bB i1 λo e=>t1.extBut _ _ D.i1z e) (l1.keep λo e=>t1.extBut _ _ D.l1z e) ex λg2 m1 t2=>u_ ?_)
  have q2:IsPair g2 q u v:=t2.extBut _ _ D.TOi1 (t1.extBut _ _ D.TOz hq)
  refine k_ (Pl q2 rfl ?_);refine k_ (QN q2 λg3 q3 t3=>?_);refine k_ (wpAny_letGo (u_ ?_))
  refine k_ (k_ (QR ?_));show wpAny _ _ (Builtin.SmallTypes.nextOf (.ref j2) >>= _) _ _ _
  refine k_ (oh hh (bB i2 λo e=>t3.extBut _ _ D.TOi2.symm (t2.extBut _ _ D.i12.symm (t1.extBut _ _ D.i2z e))) (l2.keep λo e=>t3.extBut _ _ D.l2TO (t2.extBut _ _ D.l2i1 (t1.extBut _ _ D.l2z e))) ey λg4 e t4 ⟨oe,he,ce⟩=>?_)
  have y4:IsZip g4 z p q .ellipsis:=t4 _ _ D.i2z.symm (t3.extBut _ _ D.TOz.symm (t2.extBut _ _ D.i1z.symm y1))
  have ez:e≠z:=λw=>by subst w;rw[y4] at he;cases he;simp at ce
  exact Pq y4 (by simp) λg5 _ t5=>k g5 e (λc o c1 c2 c3 c4 w=>t5.extBut _ _ c1 (t4 _ _ c4 (t3.extBut _ _ c2 (t2.extBut _ _ c3 (t1.extBut _ _ c1 w))))) ⟨oe,t5.extBut _ _ ez he,ce⟩
end
def BJ(b:Bool):String:=if b then "list_iterator" else "tuple_iterator"
def tW(h:LsB b s.heap a its)(k:Q (.ref s.heap.objs.size) { s with heap:=s.heap.push { cls:=.type (BJ b),data:=.fields #[.ref a,.int 0 0] } }):wpAny (model prog w) A (pyIter (.ref a)) Q E s:=by
 cases b with
 |true=>exact wpAny_pyIter_list h k
 |false=>exact wpAny_pyIter_tuple h k
abbrev zp1(h:Heap)(b:Bool)(a:Addr):Heap:=h.push { cls:=.type (BJ b),data:=.fields #[.ref a,.int 0 0] }
abbrev zp2(h:Heap)(b c:Bool)(a d:Addr):Heap:=zp1 (zp1 h b a) c d
abbrev zp3(h:Heap)(b c:Bool)(a d:Addr):Heap:=(zp2 h b c a d).push { cls:=.type "tuple",data:=.seq #[.ref h.objs.size,.ref (zp1 h b a).objs.size] }
abbrev zp4(h:Heap)(b c:Bool)(a d:Addr):Heap:=(zp3 h b c a d).push { cls:=.type "tuple",data:=.seq #[.none,.none] }
abbrev zp5(h:Heap)(b c:Bool)(a d:Addr):Heap:=(zp4 h b c a d).push { cls:=.type "zip",data:=.fields #[.none,.bool false,.bool false,.ref (zp2 h b c a d).objs.size,.ref (zp3 h b c a d).objs.size] }
def Ct(b c:Bool)(a d:Addr)(xs ys:Array Value):Meets (Builtin.«zip.__new__» ⟨[.type "zip",.ref a,.ref d],[]⟩) (λ_ R s=>LsB b s.heap a xs/\LsB c s.heap d ys/\R (.ok (.ret (.ref (zp4 s.heap b c a d).objs.size))) { s with heap:=zp5 s.heap b c a d }):=
 .of_wp λprog w A R s h=>by
  obtain⟨hp,g,dr,tk,os⟩:=s;obtain⟨la,ld,h⟩:=h
  have f_:=sub_zip
  have L1:LsB b (Shared.heap ⟨hp,g,dr,tk,os⟩) a xs:=la
  have L2':LsB c (Shared.heap ⟨hp.push { cls:=.type (BJ b),data:=.fields #[.ref a,.int 0 0] },g,dr,tk,os⟩) d ys:=ld.keep λo e=>n_ _ e
  wp_walk using tW L1,tW L2'
  exact⟨_,rfl,h⟩
def yw(la:LsB b s.heap a xs)(ld:LsB c s.heap d ys)
 (k:∀h',IsZip h' (s.heap.objs.size+4) (s.heap.objs.size+2) (s.heap.objs.size+3) .none->IsPair h' (s.heap.objs.size+2) (.ref s.heap.objs.size) (.ref (s.heap.objs.size+1))->IsPair h' (s.heap.objs.size+3) .none .none->
  ItB b h' s.heap.objs.size a 0->ItB c h' (s.heap.objs.size+1) d 0->(∀c o,s.heap.get? c=some o->h'.get? c=some o)->Q (.ref (s.heap.objs.size+4)) { s with heap:=h' }):wpAny (model prog w) A (call (.type "zip") [.ref a,.ref d]) Q E s:=by
 refine callType_new F.called_zip (by decide) (F.typeCall_zip_2 _ _) (F.newCall_zip_2 _ _) (λobj=>F.args_object_init_3 obj _ _) F.entry_zip_new (Ct b c a d xs ys) ⟨la,ld,?_⟩
 have n1:(zp1 s.heap b a).objs.size=s.heap.objs.size+1:=Qo ..
 have n2:(zp2 s.heap b c a d).objs.size=s.heap.objs.size+2:=by rw[Qo,n1]
 have n3:(zp3 s.heap b c a d).objs.size=s.heap.objs.size+3:=by rw[Qo,n2]
 have n4:(zp4 s.heap b c a d).objs.size=s.heap.objs.size+4:=by rw[Qo,n3]
 have up:=λ{h:Heap}{x:Addr}{o:Obj} (o':Obj) (e:h.get? x=some o)=>n_ o' e
 have e5:(zp5 s.heap b c a d).get? (zp4 s.heap b c a d).objs.size=some _:=C_ _ rfl
 have e4:(zp5 s.heap b c a d).get? (zp3 s.heap b c a d).objs.size=some _:=up _ (C_ _ rfl)
 have e3:(zp5 s.heap b c a d).get? (zp2 s.heap b c a d).objs.size=some _:=up _ (up _ (C_ _ rfl))
 have e2:(zp5 s.heap b c a d).get? (zp1 s.heap b a).objs.size=some _:=up _ (up _ (up _ (C_ _ rfl)))
 have e1:(zp5 s.heap b c a d).get? s.heap.objs.size=some _:=up _ (up _ (up _ (up _ (C_ _ rfl))))
 show _/\_
 rw[n2,n3,n4] at e5;rw[n1,n2] at e3;rw[n3] at e4;rw[n1] at e2;rw[n4]
 have i1:ItB b (zp5 s.heap b c a d) s.heap.objs.size a 0:=by cases b <;> exact⟨_,e1,rfl,rfl⟩
 have i2:ItB c (zp5 s.heap b c a d) (s.heap.objs.size+1) d 0:=by cases c <;> exact⟨_,e2,rfl,rfl⟩
 exact⟨⟨_,e5,rfl⟩,k _ e5 e3 e4 i1 i2 λx o e=>up _ (up _ (up _ (up _ (up _ e))))⟩
def ItZ(K:W.Frag)(b c:Bool)(a d:Addr):It:=
 ⟨λi H=>∃xs ys x y,SqB K b H a xs/\SqB K c H d ys/\xs[i]?=some x/\ys[i]?=some y,
  λi H x H'=>∃p u v,x=.ref p/\H p=none/\H'=upd H p (.tup [u,v])/\(∀xs,SqB K b H a xs->xs[i]?=some u)/\∀ys,SqB K c H d ys->ys[i]?=some v,
  λi H=>∃xs ys,SqB K b H a xs/\SqB K c H d ys/\(xs[i]?=none\/ys[i]?=none)⟩
def iD(I:Inv X pins σ H s)(hq:SqB X.K b H a xs):∃its:List Value,Vals xs its/\LsB b s.heap a its.toArray:=by
 cases b with
 |true=>obtain⟨its,rv,p,_⟩:=I.list hq;exact⟨its,rv,p.isList⟩
 |false=>obtain⟨its,rv,p,_⟩:=I.tuple hq;exact⟨its,rv,p⟩
def BY{P:Program}{w:World}{K:W.Frag}{elts:List Expr}{x1:Nat}{tp:Pos}(b c:Bool)(a d z p q j1 j2:Addr)(D:ZipApart z p q j1 j2 a d):
 Turn P w K (.Tuple elts x1 tp) (ItZ K b c a d) [z,p,q,j1,j2] z (λi h=>IsZip h z p q .none/\IsPair h p (.ref j1) (.ref j2)/\(∃u v,IsPair h q u v)/\ItB b h j1 a i/\ItB c h j2 d i) where
 mem:=by simp
 obj:=λi h st e he=>by
  obtain⟨s1,s2,⟨u,v,s3⟩,s4,s5⟩:=st
  obtain⟨o4,k4,l4,_⟩:=jP s4
  obtain⟨o5,k5,l5,_⟩:=jP s5
  simp only[I_,List.not_mem_nil,or_false] at he
  rcases he with rfl |rfl |rfl |rfl |rfl
  ·exact⟨_,s1,λv y=>by cases y⟩
  ·exact⟨_,s2,λv y=>by cases y⟩
  ·exact⟨_,s3,λv y=>by cases y⟩
  ·exact⟨o4,k4,l4⟩
  ·exact⟨o5,k5,l5⟩
 keep:=λi h h' st k=>by
  obtain⟨s1,s2,⟨u,v,s3⟩,s4,s5⟩:=st
  exact⟨k z (by simp) _ s1,k p (by simp) _ s2,⟨u,v,k q (by simp) _ s3⟩,bB s4 λo e=>k j1 (by simp) o e,bB s5 λo e=>k j2 (by simp) o e⟩
 item:=
  by
  intro X hP hw hK hc i pins s σ H E I hf st hg
  subst hP hw hK
  obtain⟨xs,ys,x,y,qx,qy,ex,ey⟩:=hg
  obtain⟨s1,s2,⟨u,v,s3⟩,s4,s5⟩:=st
  obtain⟨ix,rx,lx⟩:=iD I qx
  obtain⟨iy,ry,ly⟩:=iD I qy
  obtain⟨ux,hux,rux⟩:=rx.get ex
  obtain⟨uy,huy,ruy⟩:=ry.get ey
  have hTy:s.TypeIs (.ref z) "zip":=⟨_,s1,rfl⟩
  have zl:=w_ s1
  have pl:=w_ s2
  have ql:=w_ s3
  obtain⟨o4,k4,_,_⟩:=jP s4
  obtain⟨o5,k5,_,_⟩:=jP s5
  have j1l:=w_ k4
  have j2l:=w_ k5
  unfold pyNext
  refine k_ (Qv (Pf (name:=Str.ofString "__next__") hTy QC (PJ QC hTy F.entry_zip_next (zipN D s1 s2 s3 s4 s5 lx ly (by simpa using hux) (by simpa using huy) λh' y1 y3 y4 y5 yT hk=>u_ ?_) (F.args_zip_next_1 _))))
  refine⟨_,rfl,wpAny_letOwnedTupleGo_zip (s:={ s with heap:=h' }) y1 λh2 z2 sb=>?_⟩
  have sb':Heap.SameBut z h' h2:=sb
  have hT:H s.heap.objs.size=none:=I.hok.fresh (o_ _)
  have I1:Inv X pins σ (upd H s.heap.objs.size (.tup [x,y])) { s with heap:=s.heap.push { cls:=.type "tuple",data:=.seq #[ux,uy] },toks:=s.toks }:=
   I.laid (t':=s.toks) (λc o q=>n_ _ q) (o_ _) ⟨by show 2<=sizeLine;decide,[ux,uy],.cons rux (.cons ruy .nil),⟨_,C_ _ rfl,rfl,_,rfl⟩⟩
  have fp':∀e∈[z,p,q,j1,j2],FpOk X pins (upd H s.heap.objs.size (.tup [x,y])) e:=λe he=>by
   have:=hf e he
   simp only[I_,List.not_mem_nil,or_false] at he
   rcases he with rfl |rfl |rfl |rfl |rfl
   ·exact this.up (K_ zl)
   ·exact this.up (K_ pl)
   ·exact this.up (K_ ql)
   ·exact this.up (K_ j1l)
   ·exact this.up (K_ j2l)
  have I2:Inv X pins σ (upd H s.heap.objs.size (.tup [x,y])) { s with heap:=h2,toks:=s.toks }:=
   Inv.turnedL (s:={ s with heap:=s.heap.push { cls:=.type "tuple",data:=.seq #[ux,uy] },toks:=s.toks }) (ch:=[z,p,q,j1,j2]) (t':=s.toks) I1 (λe o he qe=>by
    have c1:e≠z:=λw=>he (by simp [w])
    have c2:e≠q:=λw=>he (by simp [w])
    have c3:e≠j1:=λw=>he (by simp [w])
    have c4:e≠j2:=λw=>he (by simp [w])
    rw[sb'.2 e c1]
    have q':(s.heap.push { cls:=.type "tuple",data:=.seq #[ux,uy] }).get? e=some o:=qe
    by_cases w:e=s.heap.objs.size
    ·subst w
     rw[C_ _ rfl] at q'
     cases q'
     exact yT
    ·rw[Heap.get?_push_ne _ _ _ w] at q'
     exact hk e o c1 c2 c3 c4 q') fp'
  refine⟨.ref s.heap.objs.size,_,I2,rfl,⟨_,x,y,rfl,hT,rfl,λzs hz=>by rw[SqB.inj I hz qx];exact ex,λzs hz=>by rw[SqB.inj I hz qy];exact ey⟩,⟨z2,?_,⟨ux,uy,?_⟩,bB y4 λo e=>(sb'.2 j1 D.i1z).trans e,bB y5 λo e=>(sb'.2 j2 D.i2z).trans e⟩,λe he=>(fp' e he).1⟩
  ·exact (sb'.2 p D.TIz).trans (hk p _ D.TIz D.TITO D.TIi1 D.TIi2 s2)
  ·exact (sb'.2 q D.TOz).trans y3
 done:=by
  intro X hP hw hK hc i pins s σ H E I hf st hg
  subst hP hw hK
  obtain⟨xs,ys,qx,qy,en⟩:=hg
  obtain⟨s1,s2,⟨u,v,s3⟩,s4,s5⟩:=st
  obtain⟨ix,rx,lx⟩:=iD I qx
  obtain⟨iy,ry,ly⟩:=iD I qy
  have hTy:s.TypeIs (.ref z) "zip":=⟨_,s1,rfl⟩
  have en':ix.toArray[i]?=none\/iy.toArray[i]?=none:=by
   rcases en with e |e
   ·left;rw[Pc] at e;simp;rw[<- rx.length];exact e
   ·right;rw[Pc] at e;simp;rw[<- ry.length];exact e
  unfold pyNext
  refine k_ (Qv (Pf (name:=Str.ofString "__next__") hTy QC (PJ QC hTy F.entry_zip_next (A9 (I.ok.hd hc) D s1 s2 s3 s4 s5 lx ly en' λh' e hk ⟨o,ho,co⟩=>?_) (F.args_zip_next_1 _))))
  refine k_ (wpAny_isInstance (T:="StopIteration") (b:=true) ⟨o,ho,co⟩ isSubtype_stop (u_ ⟨rfl,?_⟩))
  exact Inv.turnedL (ch:=[z,p,q,j1,j2]) (t':=s.toks) I (λe o he qe=>hk e o (λw=>he (by simp [w])) (λw=>he (by simp [w])) (λw=>he (by simp [w])) (λw=>he (by simp [w])) qe) hf
 self:=λ_ _ _ _ _ st h=>wpAny_pyIter_zip st.1 h
def x8:bootBuiltins "zip"=some (.type "zip"):=by decide
def JR(hg:Gl X "zip")(hm:X.mg "zip"=none)(ha:PA X [l,m] tl)(hs:starEach [l,m] X.env=[(false,eval l X.env),(false,eval m X.env)])(hs2:starEach [m] X.env=[(false,eval m X.env)]):
 PI X (.Tuple elts x1 tp) (.Call (.Name "zip" p) [l,m] [] pos) (λσ H R=>tl σ H λvs H1=>∃(b c:Bool) (a d:Addr) (xs ys:List V),vs=[.ref a,.ref d]/\SqB X.K b H1 a xs/\SqB X.K c H1 d ys/\R (ItZ X.K b c a d) H1):=by
 intro pins s σ H R I h
 refine Call_ (eP I hg hm x8 (O7 (thn (ha pos pins s σ H _ I h) λus s1 ⟨vs,H1,I1,r1,q1⟩=>?_) (by rw[hs,hs2]) (by rw[hs2];rfl)))
 obtain⟨b,c,a,d,xs,ys,e,qx,qy,q⟩:=q1
 subst e
 cases r1 with
 |
  cons r rr=>
  cases rr with
  |
   cons r' rr=>
   cases rr
   cases r
   cases r'
   obtain⟨ix,rx,lx⟩:=iD I1 qx
   obtain⟨iy,ry,ly⟩:=iD I1 qy
   have la:a<s1.heap.objs.size:=by cases b <;> (obtain⟨o,e,_⟩:=lx;exact w_ e)
   have ld:d<s1.heap.objs.size:=by cases c <;> (obtain⟨o,e,_⟩:=ly;exact w_ e)
   refine yw lx ly λh' y1 y2 y3 y4 y5 hk=>wpAny_pyIter_zip y1 ⟨s1.heap.objs.size+4,[s1.heap.objs.size+4,s1.heap.objs.size+2,s1.heap.objs.size+3,s1.heap.objs.size,s1.heap.objs.size+1],_,_,H1,rfl,I1.kept (t':=s1.toks) λc o z=>hk c o z,BY b c a d _ _ _ _ _ (W.ktu_apart _ _ _ la ld),⟨y1,y2,⟨_,_,y3⟩,y4,y5⟩,λe he=>?_,q⟩
   have hge:s1.heap.objs.size<=e:=by
    simp only[I_,List.not_mem_nil,or_false] at he
    rcases he with rfl |rfl |rfl |rfl |rfl
    ·exact Qy _ _
    ·exact Qy _ _
    ·exact Qy _ _
    ·exact o_ _
    ·exact Qy _ _
   exact I1.fpOk hge (I1.hok.fresh hge)
inductive D where
 |non |bl (b:Bool) |int (i:Int) |str (x:Str) |ty (n:String) |glb (x:Str) |exc (x:Str) |tup (xs:List D) |ref (n:Nat) |kl (xs:List D)
 deriving Inhabited
inductive Ob where
 |lst (xs:List D) |fz (xs:List D) |set (xs:List Int) |dct (kvs:List (Key×D)) |any
 deriving Inhabited
abbrev AH:=List Ob
abbrev AE:=List (Option D)
inductive R(α:Type) where
 |ok (a:α) (h:AH) |exc (c:Str) (h:AH) |stuck
inductive SR where
 |nx (ae:AE) (h:AH) |rt (d:D) (h:AH) |bk (ae:AE) (h:AH) |ct (ae:AE) (h:AH) |exc (c:Str) (ae:AE) (h:AH) |stuck
abbrev ME:=AE->AH->R D
abbrev MT:=AE->AH->R Bool
abbrev MA:=AE->AH->R (List D)
abbrev MS:=AE->AH->SR
abbrev Fn:=List D->AH->R D
def R.bind{α β:Type}(r:R α)(f:α->AH->R β):R β:=match r with
 |.ok a h=>f a h
 |.exc c h=>.exc c h
 |.stuck=>.stuck
section
variable(K:W.Frag)(mg:Ra)
mutual
inductive RelD(ρ:List Addr)(H:Hp):D->V->Prop where
 |non:RelD ρ H .non .non
 |bl (b:Bool):RelD ρ H (.bl b) (.bl b)
 |int (i:Int):RelD ρ H (.int i) (.int i)
 |str (x:Str):RelD ρ H (.str x) (.str x)
 |ty (n:String):RelD ρ H (.ty n) (.ty n)
 |glb {x:Str}{a:Addr} (m:mg x=some (.ref a)):RelD ρ H (.glb x) (.ref a)
 |exc {x:Str}{a C:Addr} (m:mg x=some (.ref C)) (e:H a=some (.ext (Bz a C))):RelD ρ H (.exc x) (.ref a)
 |tup {p:Addr}{vs:List V}{ds:List D} (h:SqT K H p vs) (r:RelDs ρ H ds vs):RelD ρ H (.tup ds) (.ref p)
 |ref {n:Nat}{a:Addr} (e:ρ[n]?=some a):RelD ρ H (.ref n) (.ref a)
 |kl {a:Addr}{vs:List V}{ds:List D} (h:∃(o:Obj) (its:Array Value) (n:Nat),K.lookup a=some o/\o.cls=.type "list" /\ o.dict=none/\o.data=.seq its n/\its.size<=sizeLine/\Vals vs its.toList) (r:RelDs ρ H ds vs):RelD ρ H (.kl ds) (.ref a)
inductive RelDs(ρ:List Addr)(H:Hp):List D->List V->Prop where
 |nil:RelDs ρ H [] []
 |cons {d:D}{v:V}{ds:List D}{vs:List V} (r:RelD ρ H d v) (rr:RelDs ρ H ds vs):RelDs ρ H (d::ds) (v::vs)
end
structure Le(ρ:List Addr)(H:Hp)(ρ':List Addr)(H':Hp):Prop where
 pre:∀(n:Nat) (a:Addr),ρ[n]?=some a->ρ'[n]?=some a
 tup:∀b xs,H b=some (.tup xs)->H' b=some (.tup xs)
 frz:∀b o u,H b=some (.frz o u)->H' b=some (.frz o u)
 ext:∀b φ,H b=some (.ext φ)->H' b=some (.ext φ)
def ObR(ρ:List Addr)(H:Hp)(a:Addr):Ob->Prop
 |.lst ds=>∃vs,H a=some (.lst vs)/\RelDs K mg ρ H ds vs
 |.fz ds=>∃o vs,H a=some (.frz o (.lst vs))/\RelDs K mg ρ H ds vs
 |.set xs=>xs.Nodup/\H a=some (.set (λi=>decide (i∈xs)) xs.length)
 |.dct kvs=>∃ws,H a=some (.dK ws)/\ws.map (·.1)=kvs.map (·.1)/\RelDs K mg ρ H (kvs.map (·.2)) (ws.map (·.2))
 |.any=>∃o,H a=some o
def iS(c:Addr)(q:Str):Heap->Prop:=λh=>h.CodeRec (.ref c) q
noncomputable def kO:List Str:=["by_falling_weights", "least_around"]
def LamT(P:Addr)(q:Str):Prop:=∃(x:Str) (f:Addr) (oc:Value) (od:Option Addr) (fd:FuncData) (sl:Array (Option Value)) (c:Addr),x∈kO/\(∀y∈kO,y≠x->mg y=none)/\mg x=some (.ref f)/\K.lookup f=some ⟨oc,od,.func fd,sl⟩/\fd.code=.ref c/\W.codeHdIn K c P=true/\q=fd.qualname ++ ".<locals>." ++ "<lambda>"
def TbP(ρ:List Addr)(H:Hp)(P:Addr)(q:Str):Prop:=P∉ρ/\∃ps:Array Value,H P=some (.tbl ps)/\TriplesOk ps.toList/\∀pos cv,codeAmong pos ps.toList=some cv->∃c,cv=.ref c/\H c=some (.ext (iS c q))
def bmP(o:Obj):Prop:=o.cls=.type "module" /\ o.dict=some builtinsNs/\o.data=.plain
def BMok(H:Hp):Prop:=∃b o,mg "__builtins__"=some (.ref b)/\b≠builtinsNs/\b≠mainGlobals/\bmP o/\(K.lookup b=some o\/∃u,H b=some (.frz o u))
structure Wd(ρ:List Addr)(h:AH)(H:Hp):Prop where
 len:ρ.length=h.length
 nd:ρ.Nodup
 tb:∀P q,LamT K mg P q->TbP ρ H P q/\BMok K mg H
 ob:∀(n:Nat) (a:Addr) (o:Ob),ρ[n]?=some a->h[n]?=some o->ObR K mg ρ H a o
structure RelE(ρ:List Addr)(H:Hp)(ae:AE)(σ:St):Prop where
 len:ae.length=σ.length
 at_:∀(i:Nat) (d:D),ae[i]?=some (some d)->∃v,σ[i]?=some (some v)/\RelD K mg ρ H d v
def PostG{α:Type}(ρ:List Addr)(H:Hp)(E:XK)(k:α->AH->List Addr->Hp->Prop):R α->Prop
 |.ok a h=>∀ρ' H',Le ρ H ρ' H'->Wd K mg ρ' h H'->k a h ρ' H'
 |.exc c h=>∀ρ' H' C,Le ρ H ρ' H'->Wd K mg ρ' h H'->mg c=some (.ref C)->E (.ref C) none H'
 |.stuck=>False
abbrev cA(ρ:List Addr)(H:Hp)(Q:VK)(E:XK)(r:R D):Prop:=PostG K mg ρ H E (λd _ ρ' H'=>∀v,RelD K mg ρ' H' d v->Q v H') r
abbrev Dt(ρ:List Addr)(H:Hp)(Q:Bool->Hp->Prop)(E:XK)(r:R Bool):Prop:=PostG K mg ρ H E (λb _ ρ' H'=>Q b H') r
abbrev CZ(ρ:List Addr)(H:Hp)(Q:List V->Hp->Prop)(E:XK)(r:R (List D)):Prop:=PostG K mg ρ H E (λd _ ρ' H'=>∀vs,RelDs K mg ρ' H' d vs->Q vs H') r
def PostS(ρ:List Addr)(H:Hp)(D:Ends)(ES:St->XK):SR->Prop
 |.nx ae h=>∀ρ' H' σ',Le ρ H ρ' H'->Wd K mg ρ' h H'->RelE K mg ρ' H' ae σ'->D.nx σ' H'
 |.bk ae h=>∀ρ' H' σ',Le ρ H ρ' H'->Wd K mg ρ' h H'->RelE K mg ρ' H' ae σ'->D.bk σ' H'
 |.ct ae h=>∀ρ' H' σ',Le ρ H ρ' H'->Wd K mg ρ' h H'->RelE K mg ρ' H' ae σ'->D.ct σ' H'
 |.rt d h=>∀ρ' H' v,Le ρ H ρ' H'->Wd K mg ρ' h H'->RelD K mg ρ' H' d v->D.rt v H'
 |.exc c ae h=>∀ρ' H' σ' C,Le ρ H ρ' H'->Wd K mg ρ' h H'->RelE K mg ρ' H' ae σ'->mg c=some (.ref C)->ES σ' (.ref C) none H'
 |.stuck=>False
def rdE(ES:St->XK)(F:ME):TE:=λσ H Q=>∃ρ h ae,Wd K mg ρ h H/\RelE K mg ρ H ae σ/\cA K mg ρ H Q (ES σ) (F ae h)
def rdT(ES:St->XK)(F:MT):TT:=λσ H Q=>∃ρ h ae,Wd K mg ρ h H/\RelE K mg ρ H ae σ/\Dt K mg ρ H Q (ES σ) (F ae h)
def rdA(ES:St->XK)(F:MA):TA:=λσ H Q=>∃ρ h ae,Wd K mg ρ h H/\RelE K mg ρ H ae σ/\CZ K mg ρ H Q (ES σ) (F ae h)
def rdS(ES:St->XK)(F:MS):TS:=λD σ H=>∃ρ h ae,Wd K mg ρ h H/\RelE K mg ρ H ae σ/\PostS K mg ρ H D ES (F ae h)
def spD(n:Nat)(S:Fn):Sp:=λvs H Q E=>∃ρ h ds,Wd K mg ρ h H/\RelDs K mg ρ H ds vs/\ds.length=n/\cA K mg ρ H Q E (S ds h)
end
def rdE.el{K:W.Frag}{mg:Ra}{ES:St->XK}{F:ME}{σ:St}{H:Hp}{Q:VK}{C:Prop}(q:rdE K mg ES F σ H Q)(k:∀ρ h ae,Wd K mg ρ h H->RelE K mg ρ H ae σ->cA K mg ρ H Q (ES σ) (F ae h)->C):C:=by
 obtain⟨ρ,h,ae,w,re,p⟩:=q
 exact k ρ h ae w re p
def rdT.el{K:W.Frag}{mg:Ra}{ES:St->XK}{F:MT}{σ:St}{H:Hp}{Q:Bool->Hp->Prop}{C:Prop}(q:rdT K mg ES F σ H Q)(k:∀ρ h ae,Wd K mg ρ h H->RelE K mg ρ H ae σ->Dt K mg ρ H Q (ES σ) (F ae h)->C):C:=by
 obtain⟨ρ,h,ae,w,re,p⟩:=q
 exact k ρ h ae w re p
def rdA.el{K:W.Frag}{mg:Ra}{ES:St->XK}{F:MA}{σ:St}{H:Hp}{Q:List V->Hp->Prop}{C:Prop}(q:rdA K mg ES F σ H Q)(k:∀ρ h ae,Wd K mg ρ h H->RelE K mg ρ H ae σ->CZ K mg ρ H Q (ES σ) (F ae h)->C):C:=by
 obtain⟨ρ,h,ae,w,re,p⟩:=q
 exact k ρ h ae w re p
def rdS.el{K:W.Frag}{mg:Ra}{ES:St->XK}{F:MS}{σ:St}{H:Hp}{De:Ends}{C:Prop}(q:rdS K mg ES F De σ H)(k:∀ρ h ae,Wd K mg ρ h H->RelE K mg ρ H ae σ->PostS K mg ρ H De ES (F ae h)->C):C:=by
 obtain⟨ρ,h,ae,w,re,p⟩:=q
 exact k ρ h ae w re p
section
variable{K:W.Frag}{mg:Ra}{ρ ρ' ρ1:List Addr}{H H' H1:Hp}{h h':AH}{ae:AE}{σ:St}
def Le.refl:Le ρ H ρ H:=⟨λ_ _ e=>e,λ_ _ e=>e,λ_ _ _ e=>e,λ_ _ e=>e⟩
def Le.trans(a:Le ρ H ρ1 H1)(b:Le ρ1 H1 ρ' H'):Le ρ H ρ' H':=
 ⟨λn x e=>b.pre n x (a.pre n x e),λx y e=>b.tup x y (a.tup x y e),λx y z e=>b.frz x y z (a.frz x y z e),λx y e=>b.ext x y (a.ext x y e)⟩
def Le.sqT(l:Le ρ H ρ' H')(q:SqT K H a xs):SqT K H' a xs:=by
 rcases q with (q |⟨o,q⟩) |q
 ·exact .inl (.inl (l.tup _ _ q))
 ·exact .inl (.inr ⟨o,l.frz _ _ _ q⟩)
 ·exact .inr q
def RelD.mono(l:Le ρ H ρ' H')(r:RelD K mg ρ H d v):RelD K mg ρ' H' d v:=
 RelD.rec (motive_1:=λd v _=>RelD K mg ρ' H' d v) (motive_2:=λds vs _=>RelDs K mg ρ' H' ds vs) .non (λb=>.bl b) (λi=>.int i) (λx=>.str x) (λn=>.ty n) (λm=>.glb m) (λm e=>.exc m (l.ext _ _ e)) (λh _ ih=>.tup (l.sqT h) ih) (λe=>.ref (l.pre _ _ e)) (λh _ ih=>.kl h ih) .nil (λ_ _ a b=>.cons a b) r
def RelDs.ind{M:List D->List V->Prop}(h0:M [] [])(h1:∀{d v ds vs},RelD K mg ρ H d v->RelDs K mg ρ H ds vs->M ds vs->M (d::ds) (v::vs)){ds:List D}{vs:List V}(r:RelDs K mg ρ H ds vs):M ds vs:=by
 induction ds generalizing vs with
 |nil=>cases r;exact h0
 |
  cons d ds ih=>
  cases r with
  |cons r rr=>exact h1 r rr (ih rr)
def RelDs.mono(l:Le ρ H ρ' H'){ds:List D}{vs:List V}(r:RelDs K mg ρ H ds vs):RelDs K mg ρ' H' ds vs:=r.ind .nil λr _ ih=>.cons (r.mono l) ih
def RelDs.len{ds:List D}{vs:List V}(r:RelDs K mg ρ H ds vs):ds.length=vs.length:=r.ind (M:=λds vs=>ds.length=vs.length) rfl λ_ _ ih=>OO (· + 1) ih
def RelDs.getD{ds:List D}{vs:List V}{i:Nat}{d:D}(r:RelDs K mg ρ H ds vs)(e:ds[i]?=some d):∃v,vs[i]?=some v/\RelD K mg ρ H d v:=
 r.ind (M:=λds vs=>∀i,ds[i]?=some d->∃v,vs[i]?=some v/\RelD K mg ρ H d v) (λ_ e=>by rw[List.getElem?_nil] at e;cases e) (λr _ ih i e=>match i,e with
  |0,e=>by cases e;exact⟨_,rfl,r⟩
  |i+1,e=>ih i e) i e
def RelDs.append{ds es:List D}{vs ws:List V}(r:RelDs K mg ρ H ds vs)(q:RelDs K mg ρ H es ws):RelDs K mg ρ H (ds++es) (vs++ws):=r.ind (M:=λds vs=>RelDs K mg ρ H (ds++es) (vs++ws)) q λr _ ih=>.cons r ih
def RelDs.take{ds:List D}{vs:List V}(n:Nat)(r:RelDs K mg ρ H ds vs):RelDs K mg ρ H (ds.take n) (vs.take n):=
 r.ind (M:=λds vs=>∀n:Nat,RelDs K mg ρ H (ds.take n) (vs.take n)) (λn=>by rw[PM,PM];exact .nil) (λr _ ih n=>by cases n with |zero=>exact .nil |succ n=>exact .cons r (ih n)) n
def RelDs.drop{ds:List D}{vs:List V}(n:Nat)(r:RelDs K mg ρ H ds vs):RelDs K mg ρ H (ds.drop n) (vs.drop n):=
 r.ind (M:=λds vs=>∀n:Nat,RelDs K mg ρ H (ds.drop n) (vs.drop n)) (λn=>by rw[Qc,Qc];exact .nil) (λr rr ih n=>by cases n with |zero=>exact .cons r rr |succ n=>exact ih n) n
def RelDs.set{d:D}{v:V}(r:RelD K mg ρ H d v){ds:List D}{vs:List V}(i:Nat)(q:RelDs K mg ρ H ds vs):RelDs K mg ρ H (ds.set i d) (vs.set i v):=
 q.ind (M:=λds vs=>∀i:Nat,RelDs K mg ρ H (ds.set i d) (vs.set i v)) (λ_=>.nil) (λq qq ih i=>by cases i with |zero=>exact .cons r qq |succ i=>exact .cons q (ih i)) i
def RelDs.reverse(r:RelDs K mg ρ H ds vs):RelDs K mg ρ H ds.reverse vs.reverse:=by
 induction ds generalizing vs with
 |nil=>cases r;exact .nil
 |
  cons d ds ih=>
  cases r with
  |cons q rr=>rw[PC,PC];exact (ih rr).append (.cons q .nil)
def RelDs.ints:∀{ns:List Int}{vs:List V},RelDs K mg ρ H (ns.map D.int) vs->vs=ns.map V.int:=by
 intro ns
 induction ns with
 |nil=>intro vs r;cases r;rfl
 |
  cons n ns ih=>
  intro vs r
  cases r with
  |cons r rr=>cases r;rw[ih rr];rfl
def RelDs.bls:∀{ns:List Bool}{vs:List V},RelDs K mg ρ H (ns.map D.bl) vs->vs=ns.map V.bl:=by
 intro ns
 induction ns with
 |nil=>intro vs r;cases r;rfl
 |
  cons n ns ih=>
  intro vs r
  cases r with
  |cons r rr=>cases r;rw[ih rr];rfl
def RelE.mono(l:Le ρ H ρ' H')(r:RelE K mg ρ H ae σ):RelE K mg ρ' H' ae σ:=⟨r.len,λi d e=>by
 obtain⟨v,h1,h2⟩:=r.at_ i d e
 exact⟨v,h1,h2.mono l⟩⟩
def RelE.set(i:Nat)(r:RelE K mg ρ H ae σ)(q:RelD K mg ρ H d v):RelE K mg ρ H (ae.set i (some d)) (σ.set i (some v)):=⟨by rw[Oo,Oo];exact r.len,λj d' e=>by
 rw[Qq] at e ⊢
 by_cases hij:i=j
 ·rw[if_pos hij] at e ⊢
  by_cases hi:i<ae.length
  ·rw[if_pos hi] at e
   cases e
   rw[if_pos (by rw[<- r.len];exact hi)]
   exact⟨v,rfl,q⟩
  ·rw[if_neg hi] at e;cases e
 ·rw[if_neg hij] at e ⊢
  exact r.at_ j d' e⟩
def ObR.mono(l:Le ρ H ρ' H')(e:H' a=H a)(q:ObR K mg ρ H a o):ObR K mg ρ' H' a o:=by
 cases o with
 |lst ds=>obtain⟨vs,h1,h2⟩:=q;exact⟨vs,e.trans h1,h2.mono l⟩
 |fz ds=>obtain⟨o,vs,h1,h2⟩:=q;exact⟨o,vs,e.trans h1,h2.mono l⟩
 |set xs=>exact⟨q.1,e.trans q.2⟩
 |dct kvs=>obtain⟨ws,h1,h2,h3⟩:=q;exact⟨ws,e.trans h1,h2,h3.mono l⟩
 |any=>obtain⟨o,h1⟩:=q;exact⟨o,e.trans h1⟩
def ObR.there(q:ObR K mg ρ H a o):∃u,H a=some u:=by
 cases o with
 |lst ds=>obtain⟨vs,h1,_⟩:=q;exact⟨_,h1⟩
 |fz ds=>obtain⟨o,vs,h1,_⟩:=q;exact⟨_,h1⟩
 |set xs=>exact⟨_,q.2⟩
 |dct kvs=>obtain⟨ws,h1,_⟩:=q;exact⟨_,h1⟩
 |any=>exact q
def Wd.fresh(w:Wd K mg ρ h H)(hp:H p=none):p∉ρ:=λhm=>by
 obtain⟨n,hn⟩:=List.getElem?_of_mem hm
 have hl:n<h.length:=by rw[<- w.len];exact (r_.mp hn).1
 obtain⟨u,hu⟩:=(w.ob n p h[n] hn (x_ hl)).there
 rw[hp] at hu;cases hu
def TbP.up{P:Addr}{q:Str}(t:TbP ρ H P q)(hp:H p=none):TbP ρ (upd H p u) P q:=by
 obtain⟨a,ps,b,c,d⟩:=t
 refine⟨a,ps,by rw[aq (aE b hp)];exact b,c,λpos cv e=>?_⟩
 obtain⟨x,e1,e2⟩:=d pos cv e
 exact⟨x,e1,by rw[aq (aE e2 hp)];exact e2⟩
def TbP.rho{P:Addr}{q:Str}(t:TbP ρ H P q)(h:P∉ρ'):TbP ρ' H P q:=⟨h,t.2⟩
def TbP.more{P:Addr}{q:Str}(t:TbP ρ H P q)(hp:H p=none):TbP (ρ++[p]) (upd H p u) P q:=by
 obtain⟨ps,b,_⟩:=t.2
 refine (t.up hp).rho λz=>?_
 rcases Pw.mp z with z |z
 ·exact t.1 z
 ·rw[OL] at z
  subst z
  rw[hp] at b;cases b
def TbP.wr{P:Addr}{q:Str}{a:Addr}{o u:HO}(t:TbP ρ H P q)(ha:a∈ρ)(e:H a=some u)(hu:∀φ,u ≠ .ext φ):TbP ρ (upd H a o) P q:=by
 obtain⟨z,ps,b,c,d⟩:=t
 refine⟨z,ps,by rw[aq (λw=>z (by rw[w];exact ha))];exact b,c,λpos cv y=>?_⟩
 obtain⟨x,e1,e2⟩:=d pos cv y
 refine⟨x,e1,?_⟩
 rw[aq]
 ·exact e2
 ·intro w
  subst w
  rw[e] at e2
  exact hu _ (H_ e2)
def bU(hp:H p=none):Le ρ H ρ (upd H p o):=
 ⟨λ_ _ e=>e,λb xs e=>by rw[aq (aE e hp)];exact e,λb xs u e=>by rw[aq (aE e hp)];exact e,λb xs e=>by rw[aq (aE e hp)];exact e⟩
def BMok.le(b:BMok K mg H)(l:Le ρ H ρ' H'):BMok K mg H':=by
 obtain⟨x,o,h1,h2,h3,h4,h5⟩:=b
 refine⟨x,o,h1,h2,h3,h4,?_⟩
 rcases h5 with z |⟨u,z⟩
 ·exact .inl z
 ·exact .inr ⟨u,l.frz _ _ _ z⟩
def ig:Le ρ H (ρ++m) H:=
 ⟨λn a e=>by rw[M_ (r_.mp e).1];exact e,λ_ _ e=>e,λ_ _ _ e=>e,λ_ _ e=>e⟩
def Wd.alloc(w:Wd K mg ρ h H)(hp:H p=none)(hn:ObR K mg (ρ++[p]) (upd H p u) p o):Wd K mg (ρ++[p]) (h++[o]) (upd H p u):=by
 refine⟨by rw[z_,z_,w.len];rfl,?_,λP q l=>⟨(w.tb P q l).1.more hp,(w.tb P q l).2.le (ρ:=ρ) (bU hp)⟩,λn a ob e1 e2=>?_⟩
 ·rw[List.nodup_append]
  exact⟨w.nd,by simp,λa ha b hb=>by rw[OL] at hb;subst hb;intro z;subst z;exact w.fresh hp ha⟩
 ·by_cases hl:n<ρ.length
  ·rw[M_ hl] at e1
   rw[M_ (by rw[<- w.len];exact hl)] at e2
   have q:=w.ob n a ob e1 e2
   obtain⟨v,hv⟩:=q.there
   exact q.mono ((bU hp).trans ig) (aq (aE hv hp))
  ·have h1:n=ρ.length:=by
    have:=(r_.mp e1).1
    rw[z_] at this
    simp at this
    omega
   subst h1
   rw[Oq (o_ _),PH] at e1
   rw[w.len,Oq (o_ _),PH] at e2
   simp at e1 e2
   subst e1 e2
   exact hn
def Wd.tuple(w:Wd K mg ρ h H)(hp:H p=none):Wd K mg ρ h (upd H p u):=
 ⟨w.len,w.nd,λP q l=>⟨(w.tb P q l).1.up hp,(w.tb P q l).2.le (ρ:=ρ) (bU hp)⟩,λn a ob e1 e2=>by
  have q:=w.ob n a ob e1 e2
  obtain⟨v,hv⟩:=q.there
  exact q.mono (bU hp) (aq (aE hv hp))⟩
def jI(e:H a=some u)(hu:(∀xs,u ≠ .tup xs)/\(∀x y,u ≠ .frz x y)/\∀φ,u ≠ .ext φ):Le ρ H ρ (upd H a o):=by
 refine⟨λ_ _ e=>e,λb xs q=>?_,λb x y q=>?_,λb φ q=>?_⟩ <;> rw[aq] <;> (try exact q) <;> (intro z;subst z;rw[e] at q;have:=H_ q;first |exact hu.1 _ this |exact hu.2.1 _ _ this |exact hu.2.2 _ this)
def Wd.write{n:Nat}{a:Addr}{o u:HO}{ob:Ob}(w:Wd K mg ρ h H)(ea:ρ[n]?=some a)(e:H a=some u)(hu:(∀xs,u ≠ .tup xs)/\(∀x y,u ≠ .frz x y)/\∀φ,u ≠ .ext φ)
 (hn:ObR K mg ρ (upd H a o) a ob):Wd K mg ρ (h.set n ob) (upd H a o):=by
 refine⟨by rw[Oo];exact w.len,w.nd,λP q l=>⟨(w.tb P q l).1.wr (Pe ea) e hu.2.2,(w.tb P q l).2.le (ρ:=ρ) (jI e hu)⟩,λm b ob' e1 e2=>?_⟩
 rw[Qq] at e2
 by_cases hm:n=m
 ·subst hm
  rw[ea] at e1;cases e1
  rw[if_pos rfl] at e2
  split at e2
  ·cases e2;exact hn
  ·cases e2
 ·rw[if_neg hm] at e2
  have q:=w.ob m b ob' e1 e2
  refine q.mono (jI e hu) (aq λz=>hm ?_)
  subst z
  have h1:=(r_.mp e1)
  have h2:=(r_.mp ea)
  exact (List.getElem_inj (h₀:=h2.1) (h₁:=h1.1) w.nd).mp (h2.2.trans h1.2.symm)
def ph:(∀xs,HO.lst vs ≠ .tup xs)/\(∀x y,HO.lst vs ≠ .frz x y)/\∀φ,HO.lst vs ≠ .ext φ:=⟨λ_ z=>(nomatch z),λ_ _ z=>(nomatch z),λ_ z=>(nomatch z)⟩
def Dk:(∀xs,HO.set S n ≠ .tup xs)/\(∀x y,HO.set S n ≠ .frz x y)/\∀φ,HO.set S n ≠ .ext φ:=⟨λ_ z=>(nomatch z),λ_ _ z=>(nomatch z),λ_ z=>(nomatch z)⟩
def dKNo:(∀xs,HO.dK ws ≠ .tup xs)/\(∀x y,HO.dK ws ≠ .frz x y)/\∀φ,HO.dK ws ≠ .ext φ:=⟨λ_ z=>(nomatch z),λ_ _ z=>(nomatch z),λ_ z=>(nomatch z)⟩
def PostG.mono(l:Le ρ H ρ' H')(p:PostG K mg ρ H E k r):PostG K mg ρ' H' E k r:=by
 cases r with
 |ok d h=>exact λρ2 H2 l2=>p ρ2 H2 (l.trans l2)
 |exc c h=>exact λρ2 H2 C l2=>p ρ2 H2 C (l.trans l2)
 |stuck=>exact p
def PostG.imp(p:PostG K mg ρ H E k r)(i:∀a h1 ρ' H',Le ρ H ρ' H'->Wd K mg ρ' h1 H'->k a h1 ρ' H'->k' a h1 ρ' H'):PostG K mg ρ H E k' r:=by
 cases r with
 |ok d h=>exact λρ2 H2 l2 w2=>i _ _ _ _ l2 w2 (p ρ2 H2 l2 w2)
 |exc c h=>exact p
 |stuck=>exact p
def PostG.bind(p:PostG K mg ρ H E k (r.bind f)):PostG K mg ρ H E (λa h1 ρ' H'=>PostG K mg ρ' H' E k (f a h1)) r:=by
 cases r with
 |ok d h=>exact λρ2 H2 l2 w2=>PostG.mono l2 p
 |exc c h=>exact p
 |stuck=>exact p
def PostS.mono(l:Le ρ H ρ' H')(p:PostS K mg ρ H De ES r):PostS K mg ρ' H' De ES r:=by
 cases r with
 |nx ae h=>exact λρ2 H2 σ l2=>p ρ2 H2 σ (l.trans l2)
 |bk ae h=>exact λρ2 H2 σ l2=>p ρ2 H2 σ (l.trans l2)
 |ct ae h=>exact λρ2 H2 σ l2=>p ρ2 H2 σ (l.trans l2)
 |rt d h=>exact λρ2 H2 v l2=>p ρ2 H2 v (l.trans l2)
 |exc c ae h=>exact λρ2 H2 σ C l2=>p ρ2 H2 σ C (l.trans l2)
 |stuck=>exact p
end
section
variable{X:Cx}{e:Expr}{es:List Expr}{st:Stmt}{sts:List Stmt}
def PE.imp(h:PE X e t)(k:∀σ H Q,t' σ H Q->t σ H Q):PE X e t':=λpins s σ H Q I w=>h pins s σ H Q I (k σ H Q w)
def PT.imp(h:PT X e t)(k:∀σ H Q,t' σ H Q->t σ H Q):PT X e t':=λpins s σ H Q I w=>h pins s σ H Q I (k σ H Q w)
def PW.imp(h:PW X e t)(k:∀σ H Q,t' σ H Q->t σ H Q):PW X e t':=λwh pins s σ H Q I w=>h wh pins s σ H Q I (k σ H Q w)
def PA.imp(h:PA X es t)(k:∀σ H Q,t' σ H Q->t σ H Q):PA X es t':=λpos pins s σ H Q I w=>h pos pins s σ H Q I (k σ H Q w)
def PS.imp(h:PS X st t)(k:∀D σ H,t' D σ H->t D σ H):PS X st t':=λpins s σ H D I w=>h pins s σ H D I (k D σ H w)
def PSs.imp(h:PSs X sts t)(k:∀D σ H,t' D σ H->t D σ H):PSs X sts t':=λpins s σ H D I w=>h pins s σ H D I (k D σ H w)
def PG.imp(h:PG X e t)(k:∀v σ H Q,t' v σ H Q->t v σ H Q):PG X e t':=λpins s σ H v u Q I r w=>h pins s σ H v u Q I r (k v σ H Q w)
def PGs.imp(h:PGs X es t)(k:∀v σ H Q,t' v σ H Q->t v σ H Q):PGs X es t':=λpins s σ H v u Q I r w=>h pins s σ H v u Q I r (k v σ H Q w)
def PO.imp(h:PO X o t)(k:∀σ H Q,t' σ H Q->t σ H Q):PO X o t':=λpins s σ H Q I w=>h pins s σ H Q I (k σ H Q w)
end
section
variable(K:W.Frag)(mg:Ra)(X:Cx)(ES:St->XK)
def DE(e:Expr)(F:ME):Prop:=PE X e (rdE K mg ES F)
def DT(e:Expr)(F:MT):Prop:=PT X e (rdT K mg ES F)
def DW(e:Expr)(F:MT):Prop:=PW X e (rdT K mg ES F)
def DA(es:List Expr)(F:MA):Prop:=PA X es (rdA K mg ES F)
def DS(st:Stmt)(F:MS):Prop:=PS X st (rdS K mg ES F)
def DSs(st:List Stmt)(F:MS):Prop:=PSs X st (rdS K mg ES F)
end
def OpD(K:W.Frag)(mg:Ra)(r:R2)(g:D->D->AH->R D):Prop:=∀ρ h H dx dy x y Q E,Wd K mg ρ h H->RelD K mg ρ H dx x->RelD K mg ρ H dy y->cA K mg ρ H Q E (g dx dy h)->r x y H Q
def UnD(K:W.Frag)(mg:Ra)(r:V->Hp->VK->Prop)(g:D->AH->R D):Prop:=∀ρ h H dx x Q E,Wd K mg ρ h H->RelD K mg ρ H dx x->cA K mg ρ H Q E (g dx h)->r x H Q
def aM(K:W.Frag)(mg:Ra)(r:List V->Hp->VK->Prop)(g:Fn):Prop:=∀ρ h H ds vs Q E,Wd K mg ρ h H->RelDs K mg ρ H ds vs->cA K mg ρ H Q E (g ds h)->r vs H Q
noncomputable def ba(i:Nat):ME:=λae h=>match ae[i]? with
 |some (some d)=>.ok d h
 |_=>.stuck
def eC(d:D):ME:=λ_ h=>.ok d h
noncomputable def eOp(g:D->D->AH->R D)(F G:ME):ME:=λae h=>(F ae h).bind λx h1=>(G ae h1).bind λy h2=>g x y h2
def eUn(g:D->AH->R D)(F:ME):ME:=λae h=>(F ae h).bind g
def ju:MA:=λ_ h=>.ok [] h
noncomputable def iM(F:ME)(G:MA):MA:=λae h=>(F ae h).bind λx h1=>(G ae h1).bind λxs h2=>.ok (x::xs) h2
def eFn(g:Fn)(A:MA):ME:=λae h=>(A ae h).bind g
def mG(ds:List D)(h:AH):R D:=if ds.length<=16777216 then .ok (.tup ds) h else .stuck
noncomputable def c8(ds:List D)(h:AH):R D:=if ds.length<=16777216 then .ok (.ref h.length) (h++[.lst ds]) else .stuck
def asB(d:D)(h:AH):R Bool:=match d with
 |.bl b=>.ok b h
 |_=>.stuck
noncomputable def BX(F G:ME):ME:=λae h=>(F ae h).bind λx h1=>(asB x h1).bind λb h2=>if b=true then G ae h2 else .ok (.bl false) h2
noncomputable def AZ(F:ME):ME:=λae h=>(F ae h).bind λx h1=>(asB x h1).bind λb h2=>.ok (.bl (!b)) h2
def tOf(F:ME):MT:=λae h=>(F ae h).bind asB
noncomputable def tAn(c d:MT):MT:=λae h=>(c ae h).bind λb h1=>if b=true then d ae h1 else .ok false h1
noncomputable def tO(c d:MT):MT:=λae h=>(c ae h).bind λb h1=>if b=true then .ok true h1 else d ae h1
noncomputable def tNo(c:MT):MT:=λae h=>(c ae h).bind λb h1=>.ok (!b) h1
section
variable{K:W.Frag}{mg:Ra}{ρ:List Addr}{H:Hp}{h:AH}
def cM(w:Wd K mg ρ h H)(rs:RelDs K mg ρ H ds vs)(hp:H p=none)(q:cA K mg ρ H Q E (.ok (.ref h.length) (h++[.lst ds]))):Q (.ref p) (upd H p (.lst vs)):=by
 have l:Le ρ H (ρ++[p]) (upd H p (.lst vs)):=(bU hp).trans ig
 refine q (ρ++[p]) _ l (w.alloc hp ⟨vs,aR,rs.mono l⟩) _ (.ref ?_)
 rw[<- w.len,Oq (o_ _),PH]
 rfl
def lC(w:Wd K mg ρ h H)(rs:RelDs K mg ρ H ds vs)(hp:H p=none)(q:cA K mg ρ H Q E (.ok (.tup ds) h)):Q (.ref p) (upd H p (.tup vs)):=
 q ρ _ (bU hp) (w.tuple hp) _ (.tup (SqT.of aR) (rs.mono (bU hp)))
def ax(w:Wd K mg ρ h H)(r:RelD K mg ρ H d v)(q:cA K mg ρ H Q E (.ok d h)):Q v H:=q ρ H Le.refl w v r
end
section
variable{K:W.Frag}{mg:Ra}{X:Cx}{ES:St->XK}{e a b c:Expr}{es:List Expr}{F G:ME}{A:MA}{cf cg:MT}{pos:Pos}
def Jw(i:Nat)(hN:X.N[i]?=some x)(hv:Vis X.env.scope x)(hd:(x==("__debug__" : Str))=false)
 (jp:(x==("__classdict__" : Str))=false):DE K mg X ES (.Name x pos) (ba i):=PE.imp (Hu hN hv hd jp) λσ H Q q_=>q_.el λρ h ae w re p=>by
 unfold ba at p
 split at p
 ·rename_i d ed
  obtain⟨v,e1,r⟩:=re.at_ i d ed
  exact⟨v,e1,ax w r p⟩
 ·exact p.elim
def nv(hp:PE X e (tC v))(r:∀ρ H,RelD K mg ρ H d v):DE K mg X ES e (eC d):=PE.imp hp λσ H Q q_=>q_.el λρ h ae w re p=>ax w (r ρ H) p
def Gq:DE K mg X ES (.Constant (.int i) j pos) (eC (.int i)):=nv Hx λ_ _=>.int i
def LZ:DE K mg X ES (.Constant (.bool i) j pos) (eC (.bl i)):=nv NB λ_ _=>.bl i
def Jx:DE K mg X ES (.Constant (.str x) j pos) (eC (.str x)):=nv Kg λ_ _=>.str x
def G1(hg:Gl X x)(ha:∃a,mg x=some (.ref a))(hm:X.mg=mg)(hd:(x==("__debug__" : Str))=false):DE K mg X ES (.Name x pos) (eC (.glb x)):=by
 subst hm
 obtain⟨a,ha⟩:=ha
 exact nv (ud hg ha (v:=.ref a) rfl hd) λ_ _=>.glb ha
structure GC(K:W.Frag)(mg:Ra)(x:Str)(d:D):Prop where
 ex:∃u v,mg x=some u/\RelV v u/\∀ρ H,RelD K mg ρ H d v
def LN(hg:Gl X x)(ha:GC K mg x d)(hm:X.mg=mg)(hd:(x==("__debug__" : Str))=false):DE K mg X ES (.Name x pos) (eC d):=by
 subst hm
 obtain⟨u,v,h1,h2,h3⟩:=ha.ex
 exact nv (ud hg h1 h2 hd) h3
def MC(hg:Gl X x)(hm:mg x=none)(hv:bootBuiltins x=some (.type n))(he:X.mg=mg)(hn:x ≠ "__name__")(hd:(x==("__debug__" : Str))=false):DE K mg X ES (.Name x pos) (eC (.ty n)):=by
 subst he
 exact nv (Fl hg hm hv (v:=.ty n) rfl hn hd) λ_ _=>.ty n
def pw(hd:OpD K mg r g)(σ:St)(H:Hp)(Q:VK)(q:rdE K mg ES (eOp g F G) σ H Q):tOp r (rdE K mg ES F) (rdE K mg ES G) σ H Q:=by
 obtain⟨ρ,h,ae,w,re,p⟩:=q
 exact⟨ρ,h,ae,w,re,p.bind.imp λdx h1 ρ1 H1 l1 w1 p1 x rx=>⟨ρ1,h1,ae,w1,re.mono l1,p1.bind.imp λdy h2 ρ2 H2 l2 w2 p2 y ry=>hd ρ2 h2 H2 dx dy x y Q _ w2 (rx.mono l2) ry p2⟩⟩
def Nn(ho:OpR X (binaryOp op) r)(hd:OpD K mg r g)(ha:DE K mg X ES a F)(hb:DE K mg X ES b G):DE K mg X ES (.BinOp a op b pos) (eOp g F G):=PE.imp (MZ ho ha hb) (pw hd)
def Ma(hr:IxR X r)(hd:OpD K mg r g)(ha:DE K mg X ES a F)(hb:DE K mg X ES b G)(hs:m7 b):DE K mg X ES (.Subscript a b pos) (eOp g F G):=PE.imp (Nj hr ha hb hs) (pw hd)
def KD(ho:OpR X (compareOp op) r)(hd:OpD K mg r g)(ha:DE K mg X ES a F)(hb:DE K mg X ES b G)(hm:behindInMarks op b=false):DE K mg X ES (.Compare a [op] [b] pos) (eOp g F G):=PE.imp (Ee ho ha hb hm) (pw hd)
def uM(σ:St)(H:Hp)(Q:Bool->Hp->Prop)(q:rdT K mg ES (tOf F) σ H Q):rdE K mg ES F σ H λx H'=>∃k,x=.bl k/\Q k H':=by
 obtain⟨ρ,h,ae,w,re,p⟩:=q
 refine⟨ρ,h,ae,w,re,p.bind.imp λd h1 ρ1 H1 l1 w1 p1 x rx=>?_⟩
 unfold asB at p1
 split at p1
 ·cases rx;exact⟨_,rfl,p1 ρ1 H1 Le.refl w1⟩
 ·exact p1.elim
def IF(ho:OpR X (compareOp op) r)(hd:OpD K mg r g)(ha:DE K mg X ES a F)(hb:DE K mg X ES b G)(hm:behindInMarks op b=false):DT K mg X ES (.Compare a [op] [b] pos) (tOf (eOp g F G)):=
 PT.imp (EK ho ha hb hm) λσ H Q q=>pw hd σ H _ (uM σ H Q q)
def Ki(ha:DE K mg X ES a F)(he:∀c_,isTrue a X.env c_=(do let v <- c_;standAt a.pos;holding [v] (truthy v))):DT K mg X ES a (tOf F):=
 PT.imp (HY ha he) λσ H Q q=>uM σ H Q q
def G5(ha:DT K mg X ES a cf):DT K mg X ES (.UnaryOp .Not a pos) (tNo cf):=PT.imp (IJ ha) λσ H Q q_=>q_.el λρ h ae w re p=>
 ⟨ρ,h,ae,w,re,p.bind.imp λb h1 ρ1 H1 l1 w1 p1=>p1 ρ1 H1 Le.refl w1⟩
def Fz(ha:DT K mg X ES a cf):DW K mg X ES (.BoolOp .And [a] pos) cf:=FE ha
def Hc(ha:DT K mg X ES a cf):DW K mg X ES (.BoolOp .Or [a] pos) cf:=Gw ha
def Kt(ha:DT K mg X ES a cf)(hb:DW K mg X ES (.BoolOp .And (b::es) pos) cg):DW K mg X ES (.BoolOp .And (a::b::es) pos) (tAn cf cg):=PW.imp (KS ha hb) λσ H Q q_=>q_.el λρ h ae w re p=>
 ⟨ρ,h,ae,w,re,p.bind.imp λb h1 ρ1 H1 l1 w1 p1=>by
  cases b with
  |true=>exact⟨ρ1,h1,ae,w1,re.mono l1,p1⟩
  |false=>exact p1 ρ1 H1 Le.refl w1⟩
def NW(ha:DT K mg X ES a cf)(hb:DW K mg X ES (.BoolOp .Or (b::es) pos) cg):DW K mg X ES (.BoolOp .Or (a::b::es) pos) (tO cf cg):=PW.imp (MM ha hb) λσ H Q q_=>q_.el λρ h ae w re p=>
 ⟨ρ,h,ae,w,re,p.bind.imp λb h1 ρ1 H1 l1 w1 p1=>by
  cases b with
  |true=>exact p1 ρ1 H1 Le.refl w1
  |false=>exact⟨ρ1,h1,ae,w1,re.mono l1,p1⟩⟩
def DW.dt(h:DW K mg X ES a cf):DT K mg X ES a cf:=PW.pt h
def KG{op}(h:DE K mg X ES a F):DE K mg X ES (.BoolOp op [a] pos) F:=JU h
def Hq(ha:DE K mg X ES a F)(hb:DE K mg X ES (.BoolOp .And (b::es) pos) G):DE K mg X ES (.BoolOp .And (a::b::es) pos) (BX F G):=PE.imp (JI ha hb) λσ H Q q_=>q_.el λρ h ae w re p=>by
 refine⟨ρ,h,ae,w,re,p.bind.imp λd h1 ρ1 H1 l1 w1 p1 x rx=>?_⟩
 unfold asB at p1
 split at p1
 ·rename_i b'
  cases rx
  refine⟨b',rfl,?_⟩
  cases b' with
  |true=>exact⟨ρ1,h1,ae,w1,re.mono l1,p1⟩
  |false=>exact p1 ρ1 H1 Le.refl w1 _ (.bl false)
 ·exact p1.elim
def Jq(ha:DE K mg X ES a F):DE K mg X ES (.UnaryOp .Not a pos) (AZ F):=PE.imp (Hk ha) λσ H Q q_=>q_.el λρ h ae w re p=>by
 refine⟨ρ,h,ae,w,re,p.bind.imp λd h1 ρ1 H1 l1 w1 p1 x rx=>?_⟩
 unfold asB at p1
 split at p1
 ·cases rx
  exact⟨_,rfl,p1 ρ1 H1 Le.refl w1 _ (.bl _)⟩
 ·exact p1.elim
def Mo(ho:UnR X (unaryOp op) r)(hd:UnD K mg r g)(ha:DE K mg X ES a F):DE K mg X ES (.UnaryOp op a pos) (eUn g F):=PE.imp (Lv ho ha) λσ H Q q_=>q_.el λρ h ae w re p=>
 ⟨ρ,h,ae,w,re,p.bind.imp λd h1 ρ1 H1 l1 w1 p1 x rx=>hd ρ1 h1 H1 d x Q _ w1 rx p1⟩
def xB:DA K mg X ES [] ju:=PA.imp GA λσ H Q q_=>q_.el λρ h ae w re p=>p ρ H Le.refl w _ .nil
def uA(ha:DE K mg X ES e F)(hr:DA K mg X ES es A)(hs:starEach (e::es) X.env=(false,eval e X.env)::starEach es X.env):DA K mg X ES (e::es) (iM F A):=PA.imp (DN ha hr hs) λσ H Q q_=>q_.el λρ h ae w re p=>
 ⟨ρ,h,ae,w,re,p.bind.imp λd h1 ρ1 H1 l1 w1 p1 x rx=>⟨ρ1,h1,ae,w1,re.mono l1,p1.bind.imp λds h2 ρ2 H2 l2 w2 p2 vs rs=>p2 ρ2 H2 Le.refl w2 _ (.cons (rx.mono l2) rs)⟩⟩
def J3{x1}(h:DA K mg X ES es A):DE K mg X ES (.Tuple es x1 pos) (eFn mG A):=PE.imp (HA h) λσ H Q q_=>q_.el λρ h ae w re p=>
 ⟨ρ,
  h,ae,w,re,p.bind.imp λds h1 ρ1 H1 l1 w1 p1 vs rs=>by
  unfold mG at p1
  split at p1
  ·rename_i hl
   exact⟨by rw[<- rs.len];exact hl,λq hq=>lC w1 rs hq p1⟩
  ·exact p1.elim⟩
def Kv(h:DA K mg X ES es A):DE K mg X ES (.List es pos) (eFn c8 A):=PE.imp (K1 h) λσ H Q q_=>q_.el λρ h ae w re p=>
 ⟨ρ,
  h,ae,w,re,p.bind.imp λds h1 ρ1 H1 l1 w1 p1 vs rs=>by
  unfold c8 at p1
  split at p1
  ·rename_i hl
   exact⟨by rw[<- rs.len];exact hl,λq hq=>cM w1 rs hq p1⟩
  ·exact p1.elim⟩
def C8(hd:aM K mg r g)(σ:St)(H:Hp)(Q:VK)(q:rdE K mg ES (eFn g A) σ H Q):tCB r (rdA K mg ES A) σ H Q:=by
 obtain⟨ρ,h,ae,w,re,p⟩:=q
 exact⟨ρ,h,ae,w,re,p.bind.imp λds h1 ρ1 H1 l1 w1 p1 vs rs=>hd ρ1 h1 H1 ds vs Q _ w1 rs p1⟩
def Ae{id:String}{r:List V->Hp->VK->Prop}{g:Fn}{x:Str}{p:Pos}(hc:CallR X (.builtin id) r)(hd:aM K mg r g)(hg:Gl X x)(hm:mg x=none)(hv:bootBuiltins x=some (.builtin id))(ha:DA K mg X ES (e::es) A)(hk:X.mg=mg)(hn:x ≠ "__name__")(hdb:(x==("__debug__" : Str))=false)
 (he:starEach (e::es) X.env=(false,eval e X.env)::starEach es X.env) (hpl:(backTo pos (starEach es X.env)).any (·.1)=false):DE K mg X ES (.Call (.Name x p) (e::es) [] pos) (eFn g A):=by
 subst hk
 exact PE.imp (Br hc hg hm hv ha hn hdb he hpl) (C8 hd)
def yG(hc:CallR X (.type T) r)(hd:aM K mg r g)(hg:Gl X x)(hm:mg x=none)(hv:bootBuiltins x=some (.type T))(ha:DA K mg X ES (e::es) A)(hk:X.mg=mg)(hn:x ≠ "__name__")(hdb:(x==("__debug__" : Str))=false)
 (he:starEach (e::es) X.env=(false,eval e X.env)::starEach es X.env) (hpl:(backTo pos (starEach es X.env)).any (·.1)=false):DE K mg X ES (.Call (.Name x p) (e::es) [] pos) (eFn g A):=by
 subst hk
 exact PE.imp (xx hc hg hm hv ha hn hdb he hpl) (C8 hd)
end
def SR.then(r:SR)(f:AE->AH->SR):SR:=match r with
 |.nx ae h=>f ae h
 |.rt d h=>.rt d h
 |.bk ae h=>.bk ae h
 |.ct ae h=>.ct ae h
 |.exc c ae h=>.exc c ae h
 |.stuck=>.stuck
def R.toS{α:Type}(r:R α)(ae:AE)(f:α->AH->SR):SR:=match r with
 |.ok a h=>f a h
 |.exc c h=>.exc c ae h
 |.stuck=>.stuck
def sNx:MS:=λae h=>.nx ae h
def vv:MS:=λ_ h=>.rt .non h
def zV(F G:MS):MS:=λae h=>(F ae h).then G
def Ad(F:ME):MS:=λae h=>(F ae h).toS ae λd h1=>.rt d h1
def vp(F:ME):MS:=λae h=>(F ae h).toS ae λ_ h1=>.nx ae h1
noncomputable def sIf(c:MT)(F G:MS):MS:=λae h=>(c ae h).toS ae λb h1=>if b=true then F ae h1 else G ae h1
abbrev MG:=D->AE->AH->R AE
abbrev MGs:=List D->AE->AH->R AE
noncomputable def gR(F:ME)(g:MG):MS:=λae h=>(F ae h).toS ae λd h1=>(g d ae h1).toS ae λbn h2=>.nx bn h2
def gN(i:Nat):MG:=λd ae h=>.ok (ae.set i (some d)) h
def gsN:MGs:=λds ae h=>match ds with
 | []=>.ok ae h
 |_=>.stuck
noncomputable def gsC(g:MG)(u:MGs):MGs:=λds ae h=>match ds with
 |d::r=>(g d ae h).bind λbn h'=>u r bn h'
 | []=>.stuck
def gT(u:MGs):MG:=λd ae h=>match d with
 |.tup ds=>u ds ae h
 |_=>.stuck
noncomputable def gS(F G:ME)(w:D->D->D->AH->R Unit):MG:=λv ae h=>(F ae h).bind λo h1=>(G ae h1).bind λi h2=>(w o i v h2).bind λ_ h3=>.ok ae h3
noncomputable def Cr(i j:Nat)(A:MA):MS:=λae h=>(A ae h).toS ae λds h1=>match ds with
 | [d,e]=>.nx ((ae.set i (some d)).set j (some e)) h1
 |_=>.stuck
noncomputable def sN(i:Nat)(g:D->D->AH->R D)(F:ME):MS:=λae h=>match ae[i]? with
 |some (some x)=>(F ae h).toS ae λy h1=>(g x y h1).toS ae λz h2=>.nx (ae.set i (some z)) h2
 |_=>.stuck
noncomputable def sE(c:Str)(A:MA):MS:=λae h=>(A ae h).toS ae λds h1=>if ds.length<=16777216 then .exc c ae h1 else .stuck
section
variable(K:W.Frag)(mg:Ra)
def rdG(ES:St->XK)(g:MG):TG:=λv σ H Q=>∃ρ h ae d,Wd K mg ρ h H/\RelE K mg ρ H ae σ/\RelD K mg ρ H d v/\PostG K mg ρ H (ES σ) (λbn _ ρ' H'=>∀σ',RelE K mg ρ' H' bn σ'->Q σ' H') (g d ae h)
def rdGs(ES:St->XK)(g:MGs):TGs:=λvs σ H Q=>∃ρ h ae ds,Wd K mg ρ h H/\RelE K mg ρ H ae σ/\RelDs K mg ρ H ds vs/\PostG K mg ρ H (ES σ) (λbn _ ρ' H'=>∀σ',RelE K mg ρ' H' bn σ'->Q σ' H') (g ds ae h)
def DG(X:Cx)(ES:St->XK)(e:Expr)(g:MG):Prop:=PG X e (rdG K mg ES g)
def DGs(X:Cx)(ES:St->XK)(es:List Expr)(g:MGs):Prop:=PGs X es (rdGs K mg ES g)
def gC(X:Cx)(ES:St->XK):Prop:=∀(pins:Rb) (σ:St) (H:Hp) (s:Shared) (e:Value) (s':Shared),Inv X pins σ H s->CX1 X.prog X.w X.stack H s (ES σ) e s'->X.xe e s'
end
def rdG.el{K:W.Frag}{mg:Ra}{ES:St->XK}{g:MG}{v:V}{σ:St}{H:Hp}{Q:St->Hp->Prop}{C:Prop}(q:rdG K mg ES g v σ H Q)(k:∀ρ h ae d,Wd K mg ρ h H->RelE K mg ρ H ae σ->RelD K mg ρ H d v->PostG K mg ρ H (ES σ) (λbn _ ρ' H'=>∀σ',RelE K mg ρ' H' bn σ'->Q σ' H') (g d ae h)->C):C:=by
 obtain⟨ρ,h,ae,d,w,re,rd,p⟩:=q
 exact k ρ h ae d w re rd p
def rdGs.el{K:W.Frag}{mg:Ra}{ES:St->XK}{g:MGs}{v:List V}{σ:St}{H:Hp}{Q:St->Hp->Prop}{C:Prop}(q:rdGs K mg ES g v σ H Q)(k:∀ρ h ae d,Wd K mg ρ h H->RelE K mg ρ H ae σ->RelDs K mg ρ H d v->PostG K mg ρ H (ES σ) (λbn _ ρ' H'=>∀σ',RelE K mg ρ' H' bn σ'->Q σ' H') (g d ae h)->C):C:=by
 obtain⟨ρ,h,ae,d,w,re,rd,p⟩:=q
 exact k ρ h ae d w re rd p
section
variable{K:W.Frag}{mg:Ra}{X:Cx}{ES:St->XK}{ρ:List Addr}{H:Hp}{h:AH}{ae:AE}{σ:St}{De:Ends}
def bJ(p:PostS K mg ρ H De ES (r.toS ae f))(re:RelE K mg ρ H ae σ)
 (i:∀a h1 ρ1 H1,Le ρ H ρ1 H1->Wd K mg ρ1 h1 H1->RelE K mg ρ1 H1 ae σ->PostS K mg ρ1 H1 De ES (f a h1)->k a h1 ρ1 H1):PostG K mg ρ H (ES σ) k r:=by
 cases r with
 |ok a h1=>exact λρ1 H1 l1 w1=>i a h1 ρ1 H1 l1 w1 (re.mono l1) (PostS.mono l1 p)
 |exc c h1=>exact λρ1 H1 C l1 w1 m=>p ρ1 H1 σ C l1 w1 (re.mono l1) m
 |stuck=>exact p
def fT(p:PostS K mg ρ H De ES (.nx bn h))(w:Wd K mg ρ h H)(re:RelE K mg ρ H bn σ):De.nx σ H:=p ρ H σ Le.refl w re
def Ay(p:PostS K mg ρ H De ES (r.then f))(i:∀g_ h1 ρ1 H1 σ1,Le ρ H ρ1 H1->Wd K mg ρ1 h1 H1->RelE K mg ρ1 H1 g_ σ1->PostS K mg ρ1 H1 De ES (f g_ h1)->N σ1 H1):PostS K mg ρ H { De with nx:=N } ES r:=by
 cases r with
 |nx g_ h1=>exact λρ1 H1 σ1 l1 w1 re1=>i g_ h1 ρ1 H1 σ1 l1 w1 re1 (PostS.mono l1 p)
 |rt d h1=>exact p
 |bk g_ h1=>exact p
 |ct g_ h1=>exact p
 |exc c g_ h1=>exact p
 |stuck=>exact p
end
section
variable{K:W.Frag}{mg:Ra}{X:Cx}{ES:St->XK}{e a b c o i:Expr}{es:List Expr}{st:Stmt}{sts sts':List Stmt}{F G:ME}{A:MA}{cf:MT}{U V':MS}{g:MG}{gs:MGs}{pos:Pos}
def DR:DSs K mg X ES [] sNx:=PSs.imp EI λD σ H q_=>q_.el λρ h ae w re p=>fT p w re
def FF(h1:DS K mg X ES st U):DSs K mg X ES [st] U:=E9 h1
def BG(h1:DS K mg X ES st U)(h2:DSs K mg X ES sts V'):DSs K mg X ES (st::sts) (zV U V'):=PSs.imp (AQ h1 h2) λD σ H q_=>q_.el λρ h ae w re p=>
 ⟨ρ,h,ae,w,re,Ay p λg_ h1 ρ1 H1 σ1 l1 w1 re1 p1=>⟨ρ1,h1,g_,w1,re1,p1⟩⟩
def E2:DS K mg X ES (.Return none pos) vv:=PS.imp Gd λD σ H q_=>q_.el λρ h ae w re p=>p ρ H _ Le.refl w .non
def GD(he:DE K mg X ES e F):DS K mg X ES (.Return (some e) pos) (Ad F):=PS.imp (Kx he) λD σ H q_=>q_.el λρ h ae w re p=>
 ⟨ρ,h,ae,w,re,bJ p re λd h1 ρ1 H1 l1 w1 re1 p1 v rv=>p1 ρ1 H1 v Le.refl w1 rv⟩
def FI(he:DE K mg X ES e F)(hs:swapsWith e none pos.line X.env=pure false):DS K mg X ES (.Expr e pos) (vp F):=PS.imp (EV he hs) λD σ H q_=>q_.el λρ h ae w re p=>
 ⟨ρ,h,ae,w,re,bJ p re λd h1 ρ1 H1 l1 w1 re1 p1 v rv=>fT p1 w1 re1⟩
def NZ(hc:DT K mg X ES c cf)(ha:DSs K mg X ES sts U)(hb:DSs K mg X ES sts' V'):DS K mg X ES (.If c sts sts' pos) (sIf cf U V'):=PS.imp (Md hc ha hb) λD σ H q_=>q_.el λρ h ae w re p=>
 ⟨ρ,h,ae,w,re,bJ p re λb h1 ρ1 H1 l1 w1 re1 p1=>by
  cases b with
  |true=>exact⟨ρ1,h1,ae,w1,re1,p1⟩
  |false=>exact⟨ρ1,h1,ae,w1,re1,p1⟩⟩
def D3{i:Nat}{x:Str}(hN:X.N.Nodup)(hi:X.N[i]?=some x)(hx:Loc X.env.scope x)(hf:X.fn x=true\/X.env.scope.names.lookup x=some .local):DG K mg X ES (.Name x pos) (gN i):=
 PG.imp (ED hN hi hx hf) λv σ H Q q_=>q_.el λρ h ae d w re rd p=>p ρ H Le.refl w _ (re.set i rd)
def D8:DGs K mg X ES [] gsN:=PGs.imp DM λvs σ H Q q_=>q_.el λρ h ae ds w re rd p=>by
 cases rd with
 |nil=>exact⟨rfl,p ρ H Le.refl w _ re⟩
 |cons r rr=>exact p.elim
def AK(h1:DG K mg X (λ_=>E0) e g)(h2:DGs K mg X (λ_=>E0) es gs)
 (hs:(assignEach (e::es) X.env).map (·.2)=assign e X.env::(assignEach es X.env).map (·.2)):DGs K mg X (λ_=>E0) (e::es) (gsC g gs):=PGs.imp (Aq h1 h2 hs) λvs σ H Q q_=>q_.el λρ h ae ds w re rd p=>by
 cases rd with
 |nil=>exact p.elim
 |cons r rr=>exact⟨_,_,rfl,ρ,h,ae,_,w,re,r,p.bind.imp λg_ h1 ρ1 H1 l1 w1 p1 σ1 re1=>⟨ρ1,h1,g_,_,w1,re1,rr.mono l1,p1⟩⟩
def JC{k n:Nat}(hK:X.K=K)(hc:X.calm=true)(h:DGs K mg X (λ_=>E0) es gs)
 (hn:(assignEach es X.env).length=n) (hst:(assignEach es X.env).findIdx? (·.1)=none):DG K mg X (λ_=>E0) (.Tuple es k pos) (gT λds ae h=>if ds.length=n then gs ds ae h else .stuck):=by
 subst hK
 refine PG.imp (zI hc h hn hst) λv σ H Q q_=>q_.el λρ h ae d w re rd p=>?_
 unfold gT at p
 cases rd with
 |
  tup q rs=>
  dsimp only at p
  split at p
  ·rename_i hl
   exact⟨_,_,rfl,q,by rw[<- rs.len];exact hl,ρ,h,ae,_,w,re,rs,p⟩
  ·exact p.elim
 |_=>exact p.elim
def noX{α:Type}(r:R α):R α:=match r with
 |.exc _ _=>.stuck
 |.ok a h=>.ok a h
 |.stuck=>.stuck
def DG.weak(hg:DG K mg X (λ_=>E0) e g):DG K mg X ES e (λd ae h=>noX (g d ae h)):=PG.imp hg λv σ H Q q_=>q_.el λρ h ae d w re rd p=>by
 refine⟨ρ,h,ae,d,w,re,rd,?_⟩
 try dsimp only at p
 cases q:g d ae h with
 |ok a h1=>rw[q] at p;exact p
 |exc c h1=>rw[q] at p;exact p.elim
 |stuck=>rw[q] at p;exact p.elim
def mV(K:W.Frag)(mg:Ra)(r:wG)(f:D->D->D->AH->R Unit):Prop:=∀ρ h H do_ di dv o i v (Q:Hp->Prop) E,Wd K mg ρ h H->RelD K mg ρ H do_ o->RelD K mg ρ H di i->RelD K mg ρ H dv v->PostG K mg ρ H E (λ_ _ _ H'=>Q H') (f do_ di dv h)->r o i v H Q
def xN(he:DE K mg X ES e F)(hg:DG K mg X ES a g)(hs:swapsWithSole [a] e pos.line X.env=pure false)(hw:swappedStores [a] e X.env=pure none)
 (h1:(assignEach [a] X.env).map (·.2)=[assign a X.env]):DS K mg X ES (.Assign [a] e pos) (gR F g):=PS.imp (Gk he hg hs hw h1) λD σ H q_=>q_.el λρ h ae w re p=>
 ⟨ρ,h,ae,w,re,bJ p re λd h1 ρ1 H1 l1 w1 re1 p1 v rv=>⟨ρ1,h1,ae,d,w1,re1,rv,bJ p1 re1 λae2 h2 ρ2 H2 l2 w2 re2 p2 σ' re'=>fT p2 w2 re'⟩⟩
def Ko{i:Nat}{x:Str}{im:Pos}(hN:X.N.Nodup)(hi:X.N[i]?=some x)(hx:Loc X.env.scope x)(he:DE K mg X ES e F)(hs:swapsWith e (some (.Name x im)) pos.line X.env=pure false)(hf:X.fn x=true\/X.env.scope.names.lookup x=some .local):
 DS K mg X ES (.Assign [.Name x im] e pos) (gR F (gN i)):=PS.imp (JM hN hi hx he hs hf) λD σ H q_=>q_.el λρ h ae w re p=>
 ⟨ρ,h,ae,w,re,bJ p re λd h1 ρ1 H1 l1 w1 re1 p1 v rv=>fT p1 w1 (re1.set i rv)⟩
def II{i j:Nat}{x y:Str}{px py pt:Pos}{kt k2 pt2}(hc:X.calm=true)(hN:X.N.Nodup)(hi:X.N[i]?=some x)(hj:X.N[j]?=some y)(hij:i≠j)
 (hx:X.env.scope.names.lookup x=some .local) (hy:X.env.scope.names.lookup y=some .local) (ha:DA K mg X ES [a,b] A)
 (hw:swappedStores [.Tuple [.Name x px,.Name y py] kt pt] (.Tuple [a,b] k2 pt2) X.env=pure (some [x,y]))
 (hs:swapsWithSole [.Tuple [.Name x px,.Name y py] kt pt] (.Tuple [a,b] k2 pt2) pos.line X.env=pure false):
 DS K mg X ES (.Assign [.Tuple [.Name x px,.Name y py] kt pt] (.Tuple [a,b] k2 pt2) pos) (Cr i j A):=PS.imp (Jp hc hN hi hj hij hx hy ha hw hs) λD σ H q_=>q_.el λρ h ae w re p=>
 ⟨ρ,h,ae,w,re,bJ p re λds h1 ρ1 H1 l1 w1 re1 p1 vs rs=>by
  split at p1
  ·cases rs with
   |
    cons r1 rs=>
    cases rs with
    |
     cons r2 rs=>
     cases rs
     exact⟨_,_,rfl,fT p1 w1 ((re1.set i r1).set j r2)⟩
  ·exact p1.elim⟩
def IpD(K:W.Frag)(mg:Ra)(r:TIp)(g:D->D->AH->R D):Prop:=∀ρ h H dx dy x y Q E,Wd K mg ρ h H->RelD K mg ρ H dx x->RelD K mg ρ H dy y->cA K mg ρ H Q E (g dx dy h)->r x y H Q
def Hg{i:Nat}{x:Str}{op:Operator}{ti:TIp}{im:Pos}{gg:D->D->AH->R D}(hN:X.N.Nodup)(hi:X.N[i]?=some x)(hx:Loc X.env.scope x)(he:DE K mg X ES e F)(ho:PIp X op ti)(hd:IpD K mg ti gg)(hf:X.fn x=true\/X.env.scope.names.lookup x=some .local):
 DS K mg X ES (.AugAssign (.Name x im) op e pos) (sN i gg F):=PS.imp (JL hN hi hx he ho hf) λD σ H q_=>q_.el λρ h ae w re p=>by
 unfold sN at p
 split at p
 ·rename_i d ed
  obtain⟨v,e1,r⟩:=re.at_ i d ed
  exact⟨v,e1,ρ,h,ae,w,re,bJ p re λdy h1 ρ1 H1 l1 w1 re1 p1 y ry=>hd ρ1 h1 H1 d dy v y _ _ w1 (r.mono l1) ry (bJ p1 re1 λdz h2 ρ2 H2 l2 w2 re2 p2 z rz=>fT p2 w2 (re2.set i rz))⟩
 ·exact p.elim
def Ck(hc:X.calm=true)(hR:Rz X E)(hg:Gl X x)(hm:mg x=some (.ref C))(hq:W.excIn X.K C k8 "ValueError.__new__"=true)(ha:DA K mg X (λ_=>E) (e::es) A)(hk:X.mg=mg)
 (he:starEach (e::es) X.env=(false,eval e X.env)::starEach es X.env) (ci:(backTo cpos (starEach es X.env)).any (·.1)=false) (hd:(x==("__debug__" : Str))=false):
 DS K mg X (λ_=>E) (.Raise (some (.Call (.Name x np) (e::es) [] cpos)) none pos) (sE x A):=by
 subst hk
 exact
  PS.imp (Am hc hR hg hm hq ha he ci hd) λD σ H q_=>q_.el λρ h ae w re p=>
  ⟨ρ,
   h,ae,w,re,bJ p re λds h1 ρ1 H1 l1 w1 re1 p1 vs rs=>by
   split at p1
   ·rename_i hl
    exact⟨by rw[<- rs.len];exact hl,p1 ρ1 H1 σ C Le.refl w1 re1 hm⟩
   ·exact p1.elim⟩
def EB(C:Callee X.prog X.w X.K X.mg X.base x k ps (spD K mg n S))(hr:Room k X.A)(hg:Gl X x)(hx:gC X ES)(ha:DA K mg X ES (e::es) A)
 (hdb:(x==("__debug__" : Str))=false) (he:starEach (e::es) X.env=(false,eval e X.env)::starEach es X.env) (hpl:(backTo pos (starEach es X.env)).any (·.1)=false):
 DE K mg X ES (.Call (.Name x p) (e::es) [] pos) (eFn (λds h=>if ds.length=n then S ds h else .stuck) A):=by
 obtain⟨f,fd,F',m,kp,bb,_⟩:=C.ex
 intro pins s σ H Q I hh
 refine Pp (mP I hg m ?_ hdb)
 have rd:rdA K mg ES A σ H (λvs H1=>spD K mg n S vs H1 Q (ES σ)):=by
  obtain⟨ρ,h,ae,w,re,p⟩:=hh
  refine⟨ρ,h,ae,w,re,p.bind.imp λds h1 ρ1 H1 l1 w1 p1 vs rs=>?_⟩
  split at p1
  ·rename_i hl
   exact⟨ρ1,h1,ds,w1,rs,hl,p1⟩
  ·exact p1.elim
 refine W.callWith_K (h₀:=X.base) I.ok.mod.kin kp (OB (ha pos pins s σ H _ I rd) (λus s1 ⟨vs,H1,I1,r,q⟩=>⟨I1.kIn,?_⟩) λ_ _ z=>z) he hpl
 have hl:(us++[]).length=ps.length:=by rw[OG,<- r.length];exact F'.len _ _ _ _ q
 refine wpAny_call (QK (F'.run X.A X.stack s1 H1 ⟨us,[]⟩ us vs Q (ES σ) hr I1.env0 (by simpa using bb s1 us I1.kIn hl) r q) λr s' hq=>?_)
 cases r with
 |error ex=>exact hx pins σ H1 s1 ex s' I1 hq
 |
  ok fl=>
  cases fl with
  |ret u=>exact I1.after hq
  |next=>exact False.elim hq
  |brk=>exact False.elim hq
  |cont=>exact False.elim hq
noncomputable def fnD(n:Nat)(F:MS):Fn:=λds h=>match F (ds.map some++List.replicate (n-ds.length) none) h with
 |.nx _ h'=>.ok .non h'
 |.rt d h'=>.ok d h'
 |.exc c _ h'=>.exc c h'
 |_=>.stuck
def kq(hp:rj (CX1 X.prog X.w) X E):gC X (λ_=>E):=λpins σ H s e s' I h=>hp pins σ H s e s' I h
def A1:gC X (λ_=>E0):=λpins σ H s e s' I h=>LP pins σ H s e s' I h
end
section
variable{P:Program}{w:World}{K:W.Frag}{mg:Ra}{base:Heap}{x:Str}{st:Stmt}{k:Nat}{ps N:List Str}{F:MS}
def me(rs:RelDs K mg ρ H ds vs):RelE K mg ρ H (ds.map some++List.replicate (N.length-ds.length) none) (eQ N vs):=by
 unfold eQ
 refine⟨by rw[z_,z_,l_,l_,OZ,OZ,rs.len],λi d e=>?_⟩
 by_cases hi:i<ds.length
 ·rw[M_ (by rw[l_];exact hi),L_] at e
  have e':ds[i]?=some d:=by
   cases q:ds[i]? with
   |none=>rw[q] at e;cases e
   |some z=>rw[q] at e;cases e;rfl
  obtain⟨v,h1,h2⟩:=rs.getD e'
  refine⟨v,?_,h2⟩
  rw[M_ (by rw[l_,<- rs.len];exact hi),L_,h1];rfl
 ·rw[Oq (by rw[l_];omega),OS] at e
  split at e <;> cases e
def Def.okD(D:Def K mg x st)(S:FnScope N ps (ak st))
 (hb:∀(kV doc pm:Value) (an:Option Addr) (cdv ct:Value) (us:List Value),us.length=ps.length->bindArgs (W.fnOf x x (bI st) (aK st) (ak st) .none kV doc pm an cdv ct) ⟨us,[]⟩=pure (ps.zip us))
 (d_:∀(f:Addr) (cdv:Value) (A:Around) (outer:List Env) (s:Shared) (H:Hp) (E:XK),Room k (A.deeper (envOfC x (ak st) s.heap.objs.size f cdv))->
  DSs K mg (cP (CX1 P w) P w K mg base N x (ak st) f cdv A outer s H E) (λ_=>E) (aK st) F):Callee P w K mg base x (k+1) ps (spD K mg ps.length (fnD N.length F)):=by
 refine D.okR S hb (λvs H Q E ⟨ρ,h,ds,w,rs,hl,p⟩=>by rw[<- rs.len];exact hl) λf cdv A outer s H vs Q E hr ⟨ρ,h,ds,w',rs,hl,p⟩=>?_
 refine⟨_,d_ f cdv A outer s H E hr,ρ,h,_,w',me rs,?_⟩
 unfold fnD at p
 split at p
 ·rename_i e;rw[e];exact λρ1 H1 σ1 l1 w1 re1=>p ρ1 H1 l1 w1 _ .non
 ·rename_i e;rw[e];exact λρ1 H1 v l1 w1 rv=>p ρ1 H1 l1 w1 v rv
 ·rename_i e;rw[e];exact λρ1 H1 σ1 C l1 w1 re1 m=>p ρ1 H1 C l1 w1 m
 ·exact p.elim
end
noncomputable def aB(h:AH)(n:Nat):Option (List D):=match h[n]? with
 |some (.lst xs)=>some xs
 |some (.fz xs)=>some xs
 |_=>none
noncomputable def cR(h:AH):D->Option (List D)
 |.tup xs=>some xs
 |.ref n=>aB h n
 |.kl xs=>some xs
 |_=>none
section
variable{K:W.Frag}{mg:Ra}{ρ:List Addr}{H:Hp}{h:AH}
def aP(w:Wd K mg ρ h H)(ea:ρ[n]?=some a)(e:aB h n=some xs):∃vs,SqL K H a vs/\RelDs K mg ρ H xs vs:=by
 unfold aB at e
 split at e
 ·rename_i ys eo
  cases e
  obtain⟨vs,h1,h2⟩:=w.ob n a _ ea eo
  exact⟨vs,SqL.of h1,h2⟩
 ·rename_i ys eo
  cases e
  obtain⟨o,vs,h1,h2⟩:=w.ob n a _ ea eo
  exact⟨vs,.inl (.inr ⟨o,h1⟩),h2⟩
 ·cases e
def dS(w:Wd K mg ρ h H)(r:RelD K mg ρ H d v)(e:cR h d=some xs):∃p vs,v=.ref p/\(SqL K H p vs\/SqT K H p vs)/\RelDs K mg ρ H xs vs:=by
 cases r with
 |
  tup q rs=>
  have e':some _=some xs:=e
  cases e'
  exact⟨_,_,rfl,.inr q,rs⟩
 |
  ref ea=>
  obtain⟨vs,h1,h2⟩:=aP w ea e
  exact⟨_,vs,rfl,.inl h1,h2⟩
 |
  kl q rs=>
  have e':some _=some xs:=e
  cases e'
  exact⟨_,_,rfl,.inl (.inr q),rs⟩
 |_=>cases e
end
def g2(f:Int->Int->R D)(x y:D):R D:=match x,y with
 |.int i,.int j=>f i j
 |_,_=>.stuck
noncomputable def gI(f:Int->Int->D):D->D->AH->R D:=λx y h=>match x,y with
 |.int i,.int j=>.ok (f i j) h
 |_,_=>.stuck
open Classical in
def gIc(C:Int->Int->Prop)(f:Int->Int->D):D->D->AH->R D:=λx y h=>match x,y with
 |.int i,.int j=>if C i j then .ok (f i j) h else .stuck
 |_,_=>.stuck
section
variable{K:W.Frag}{mg:Ra}{X:Cx}
def jE(hr:∀i j ρ H,RelD K mg ρ H (g i j) (f i j)):OpD K mg (rI0 f) (gI g):=λρ h H dx dy x y Q E w rx ry p=>by
 unfold gI at p
 split at p
 ·cases rx;cases ry;exact⟨_,_,rfl,rfl,ax w (hr _ _ ρ H) p⟩
 ·exact p.elim
def l6(hr:∀i j ρ H,RelD K mg ρ H (g i j) (f i j)):OpD K mg (rI C f) (gIc C g):=λρ h H dx dy x y Q E w rx ry p=>by
 unfold gIc at p
 split at p
 ·cases rx;cases ry
  split at p
  ·rename_i hc;exact⟨_,_,rfl,rfl,hc,ax w (hr _ _ ρ H) p⟩
  ·exact p.elim
 ·exact p.elim
def gOr(g g':D->D->AH->R D):D->D->AH->R D:=λx y h=>match g x y h with
 |.stuck=>g' x y h
 |r=>r
def OpD.or(a:OpD K mg r g)(b:OpD K mg r' g'):OpD K mg (λx y H Q=>r x y H Q\/r' x y H Q) (gOr g g'):=λρ h H dx dy x y Q E w rx ry p=>by
 unfold gOr at p
 split at p
 ·exact .inr (b ρ h H dx dy x y Q E w rx ry p)
 ·exact .inl (a ρ h H dx dy x y Q E w rx ry p)
end
noncomputable def kI:D->D->AH->R D:=λx y h=>match x,y with
 |.ref n,.ref m=>match h[n]?,h[m]? with
  |some (.lst xs),some (.lst ys)=>if xs.length+ys.length<=16777216 then .ok (.ref h.length) (h++[.lst (xs++ys)]) else .stuck
  |_,_=>.stuck
 |.tup xs,.tup ys=>if xs.length+ys.length<=16777216 then .ok (.tup (xs++ys)) h else .stuck
 |_,_=>.stuck
noncomputable def gIx:D->D->AH->R D:=λx y h=>match cR h x,y with
 |some xs,.int i=>match atI xs i with
  |some d=>.ok d h
  |none=>.stuck
 |_,_=>.stuck
section
variable{K:W.Frag}{mg:Ra}{X:Cx}
def jX(K:W.Frag):R2:=λx y H Q=>∃a b ys,x=.ref a/\y=.ref b/\SqT K H a []/\SqT K H b ys/\Q (.ref b) H
def Eb:OpR X (binaryOp .Add) (jX X.K):=by
 intro pins s σ H x y v u Q I rx ry h
 obtain⟨a,b,ys,rfl,rfl,ha,hb,q⟩:=h
 cases rx
 cases ry
 obtain⟨its,r1,p1,_⟩:=I.tuple ha
 obtain⟨its2,r2,p2,_⟩:=I.tuple hb
 have e:its=[]:=r1.nil_iff.mpr rfl
 subst e
 obtain⟨⟨cls,dd,data,sl⟩,ho,hc,n,hd⟩:=id p1
 obtain⟨⟨cls2,dd2,data2,sl2⟩,ho2,hc2,n2,hd2⟩:=id p2
 simp only at hc hd hc2 hd2
 subst hc hd hc2 hd2
 exact concat_meets ⟨_,ho,rfl⟩ ⟨_,ho2,rfl⟩ noFill_tuple_add seq_tuple_add Qt Qp (Qm _ _)
  (tuple_addW0 _ _ _ _ n n2 dd dd2 sl sl2 rfl) ⟨ho,ho2,⟨.ref b,H,I,rfl,q⟩⟩
def D2:OpD K mg (λx y H Q=>nE x y H Q\/(jL K x y H Q\/jX K x y H Q)) kI:=λρ h H dx dy x y Q E w rx ry p=>by
 unfold kI at p
 split at p
 ·cases
   rx with
  |
   ref ea=>
   cases ry with
   |
    ref eb=>
    split at p
    ·rename_i xs ys e1 e2
     split at p
     ·rename_i hl
      obtain⟨vs,q1,r1⟩:=w.ob _ _ _ ea e1
      obtain⟨ws,q2,r2⟩:=w.ob _ _ _ eb e2
      exact .inl ⟨_,_,vs,ws,rfl,rfl,q1,q2,by rw[<- r1.len,<- r2.len];exact hl,λp' hp=>cM w (r1.append r2) hp p⟩
     ·exact p.elim
    ·exact p.elim
 ·cases
   rx with
  |
   tup q1 r1=>
   cases ry with
   |
    tup q2 r2=>
    split at p
    ·rename_i hl
     cases r1 with
     |nil=>exact .inr (.inr ⟨_,_,_,rfl,rfl,q1,q2,ax w (.tup q2 r2) p⟩)
     |
      cons r0 r1=>
      refine .inr (.inl ⟨_,_,_,_,rfl,rfl,q1,q2,(λz=>nomatch z),by rw[<- (RelDs.cons r0 r1).len,<- r2.len];exact hl,λz=>?_,λ_ p' hp=>lC w ((RelDs.cons r0 r1).append r2) hp p⟩)
      subst z
      cases r2
      rw[OG] at p
      exact ax w (.tup q1 (.cons r0 r1)) p
    ·exact p.elim
 ·exact p.elim
def FR(r:RelDs K mg ρ H xs vs)(e:atI xs i=some d):∃v,atI vs i=some v/\RelD K mg ρ H d v:=by
 unfold atI at e ⊢
 rw[<- r.len]
 cases q:ixN xs.length i with
 |none=>rw[q] at e;cases e
 |some j=>rw[q] at e;exact r.getD e
def KN:OpD K mg (λx y H Q=>wo K x y H Q\/wB K x y H Q) gIx:=λρ h H dx dy x y Q E w rx ry p=>by
 unfold gIx at p
 split at p
 ·rename_i xs i e1
  split at p
  ·rename_i d e2
   cases ry
   obtain⟨pa,vs,rfl,hq,rs⟩:=dS w rx e1
   obtain⟨v,e3,rv⟩:=FR rs e2
   rcases hq with hq |hq
   ·exact .inl ⟨_,_,_,_,rfl,rfl,hq,e3,ax w rv p⟩
   ·exact .inr ⟨_,_,_,_,rfl,rfl,hq,e3,ax w rv p⟩
  ·exact p.elim
 ·exact p.elim
def ixK(h:X.K=K):IxR X (λx y H Q=>wo K x y H Q\/wB K x y H Q):=by subst h;exact DK.or J8
def catK(h:X.K=K):OpR X (binaryOp .Add) (λx y H Q=>nE x y H Q\/(jL K x y H Q\/jX K x y H Q)):=by subst h;exact Ir.or (D6.or Eb)
end
noncomputable def cW:Nat->AH->D->Option PyData
 |0,_,_=>none
 |_+1,_,.non=>some .none
 |_+1,_,.bl b=>some (.bool b)
 |_+1,_,.int i=>some (.int i)
 |_+1,_,.str x=>some (.str x)
 |k+1,h,.tup xs=>(xs.mapM (cW k h)).map .tuple
 |k+1,h,.ref n=>match aB h n with
  |some xs=>(xs.mapM (cW k h)).map .list
  |none=>none
 |_+1,_,_=>none
def nQ{K:W.Frag}{mg:Ra}{ρ:List Addr}{H:Hp}{f:D->Option PyData}(hf:∀d v pd,RelD K mg ρ H d v->f d=some pd->Rep K H v pd):∀{xs:List D}{vs:List V}{ps:List PyData},RelDs K mg ρ H xs vs->xs.mapM f=some ps->Reps K H vs ps:=by
 intro xs
 induction xs with
 |
  nil=>
  intro vs ps r e
  cases r
  have e':some []=some _:=e
  cases e';exact .nil
 |
  cons x xs ih=>
  intro vs ps r e
  cases r with
  |
   cons r rr=>
   rw[P2] at e
   cases q:f x with
   |none=>rw[q] at e;cases e
   |
    some pd=>
    rw[q] at e
    cases q2:xs.mapM f with
    |none=>rw[q2] at e;cases e
    |
     some pds=>
     rw[q2] at e
     have e':some (pd::pds)=some ps:=e
     cases e'
     exact .cons (hf _ _ _ r q) (ih rr q2)
theorem fq{K:W.Frag}{mg:Ra}{ρ:List Addr}{H:Hp}{h:AH}(w:Wd K mg ρ h H):∀(k:Nat) {d:D}{v:V}{pd:PyData},RelD K mg ρ H d v->cW k h d=some pd->Rep K H v pd
 |0,_,_,_,_,e=>by cases e
 |
  k+1,d,v,pd,r,e=>by
  cases r with
  |non=>have e':some _=some pd:=e;cases e';exact .non
  |bl b=>have e':some _=some pd:=e;cases e';exact .bl b
  |int b=>have e':some _=some pd:=e;cases e';exact .int b
  |str b=>have e':some _=some pd:=e;cases e';exact .str b
  |
   tup q rs=>
   rename_i ds
   have e':(ds.mapM (cW k h)).map PyData.tuple=some pd:=e
   cases q2:ds.mapM (cW k h) with
   |none=>rw[q2] at e';cases e'
   |
    some ps=>
    rw[q2] at e'
    cases e'
    exact .tup q (nQ (λd v pd r e=>fq w k r e) rs q2)
  |
   ref ea=>
   rename_i n a
   unfold cW at e
   split at e
   ·rename_i xs e1
    obtain⟨vs,h1,h2⟩:=aP w ea e1
    cases q2:xs.mapM (cW k h) with
    |none=>rw[q2] at e;cases e
    |
     some ps=>
     rw[q2] at e
     cases e
     exact .lst h1 (nQ (λd v pd r e=>fq w k r e) h2 q2)
   ·cases e
  |_=>cases e
noncomputable def jr(h:AH)(x y:D):Option Bool:=match cW 164 h x,cW 164 h y with
 |some a,some b=>if shp a=true/\shp b=true then some (PyData.eqv a b) else none
 |_,_=>none
noncomputable def gEq(neg:Bool):D->D->AH->R D:=λx y h=>match jr h x y with
 |some b=>.ok (.bl (if neg then !b else b)) h
 |none=>.stuck
section
variable{K:W.Frag}{mg:Ra}{X:Cx}
def uF(w:Wd K mg ρ h H)(rx:RelD K mg ρ H dx x)(ry:RelD K mg ρ H dy y)(e:jr h dx dy=some b):
 ∃a c,Rep K H x a/\Rep K H y c/\shp a=true/\shp c=true/\PyData.eqv a c=b:=by
 unfold jr at e
 split at e
 ·rename_i a c e1 e2
  split at e
  ·rename_i hs
   cases e
   exact⟨a,c,fq w 164 rx e1,fq w 164 ry e2,hs.1,hs.2,rfl⟩
  ·cases e
 ·cases e
def Jo:OpD K mg (wN K) (gEq false):=λρ h H dx dy x y Q E w rx ry p=>by
 unfold gEq at p
 split at p
 ·rename_i b e
  obtain⟨a,c,h1,h2,h3,h4,rfl⟩:=uF w rx ry e
  exact⟨a,c,h1,h2,h3,h4,ax w (.bl _) p⟩
 ·exact p.elim
def K6:OpD K mg (wF K) (gEq true):=λρ h H dx dy x y Q E w rx ry p=>by
 unfold gEq at p
 split at p
 ·rename_i b e
  obtain⟨a,c,h1,h2,h3,h4,rfl⟩:=uF w rx ry e
  exact⟨a,c,h1,h2,h3,h4,ax w (.bl _) p⟩
 ·exact p.elim
end
def jR:D->Bool
 |.non=>true
 |.bl _=>true
 |.int _=>true
 |.str _=>true
 |_=>false
noncomputable def toV:D->V
 |.bl b=>.bl b
 |.int i=>.int i
 |.str x=>.str x
 |_=>.non
def eqF(x y:D):Bool:=eqV (toV x) (toV y)
noncomputable def gIn(neg:Bool):D->D->AH->R D:=λx y h=>match cR h y with
 |some xs=>if jR x=true/\xs.all jR=true then .ok (.bl (if neg then !(xs.any λd=>eqF d x) else xs.any λd=>eqF d x)) h else .stuck
 |none=>.stuck
section
variable{K:W.Frag}{mg:Ra}{X:Cx}{ρ:List Addr}{H:Hp}
def pR(r:RelD K mg ρ H d v)(f:jR d=true):v=toV d/\aW v=true:=by
 cases r with
 |non=>exact⟨rfl,rfl⟩
 |bl=>exact⟨rfl,rfl⟩
 |int=>exact⟨rfl,rfl⟩
 |str=>exact⟨rfl,rfl⟩
 |_=>cases f
def zb:∀{ds:List D}{vs:List V},RelDs K mg ρ H ds vs->ds.all jR=true->vs=ds.map toV/\vs.all aW=true:=by
 intro ds
 induction ds with
 |
  nil=>
  intro vs r f
  cases r
  exact⟨rfl,rfl⟩
 |
  cons d0 ds ih=>
  intro vs r f
  cases r with
  |
   cons r rr=>
   rw[Qb,s_] at f
   obtain⟨rfl,h1⟩:=pR r f.1
   obtain⟨rfl,h2⟩:=ih rr f.2
   exact⟨rfl,by rw[Qb,h1,h2];rfl⟩
def zK(neg:Bool):OpD K mg (rIn K neg) (gIn neg):=λρ h H dx dy x y Q E w rx ry p=>by
 unfold gIn at p
 split at p
 ·rename_i xs e
  split at p
  ·rename_i hf
   obtain⟨pa,vs,rfl,hq,rs⟩:=dS w ry e
   obtain⟨rfl,f1⟩:=pR rx hf.1
   obtain⟨rfl,f2⟩:=zb rs hf.2
   refine⟨pa,_,rfl,hq,f1,f2,?_⟩
   have e2:inV (toV dx) (xs.map toV)=xs.any λd=>eqF d dx:=by
    unfold inV eqF
    rw[List.any_map];rfl
   rw[e2]
   exact ax w (.bl _) p
  ·exact p.elim
 ·exact p.elim
noncomputable def AN(neg:Bool):D->D->AH->R D:=λx y h=>match x,y with
 |.non,.non=>.ok (.bl (!neg)) h
 |_,.non=>.ok (.bl neg) h
 |_,_=>.stuck
end
def Itd(lo:Int)(n:Nat):It:=⟨λj _=>j<n,λj G v G'=>G'=G/\v=.int (lo-j),λj _=>n<=j⟩
inductive AIt where
 |lst (n:Nat) (xs:List D) |tup (xs:List D) |rng (lo:Int) (k:Nat) |rgd (lo:Int) (k:Nat) |enm (s:AIt) |zip (s t:AIt)
noncomputable def gY:Nat->List D->List D
 |_,[]=>[]
 |i,d::ds=>.tup [.int (i:Nat),d]::gY (i+1) ds
def AIt.items:AIt->List D
 |.lst _ xs=>xs
 |.tup xs=>xs
 |.rng lo k=>(List.range k).map λi=>D.int (lo+(i:Nat))
 |.rgd lo k=>(List.range k).map λi=>D.int (lo-(i:Nat))
 |.enm s=>gY 0 s.items
 |.zip s t=>List.zipWith (λx y=>.tup [x,y]) s.items t.items
def AIt.guard:AIt->AH->Prop
 |.lst n xs,h=>aB h n=some xs
 |.enm s,h=>s.guard h
 |.zip s t,h=>s.guard h/\t.guard h
 |_,_=>True
def SrcR(K:W.Frag)(mg:Ra)(ρ:List Addr)(H:Hp):AIt->Bool->Addr->Prop
 |.lst n _,true,a=>ρ[n]?=some a
 |.tup xs,false,p=>∃vs,SqT K H p vs/\RelDs K mg ρ H xs vs
 |_,_,_=>False
def ItR(K:W.Frag)(mg:Ra)(ρ:List Addr)(H:Hp):AIt->It->Prop
 |.lst n _,J=>∃a,ρ[n]?=some a/\J=Itl K a
 |.tup xs,J=>∃p vs,SqT K H p vs/\RelDs K mg ρ H xs vs/\J=Itt K p
 |.rng lo k,J=>J=Itr lo k
 |.rgd lo k,J=>J=Itd lo k
 |.enm s,J=>∃b a,SrcR K mg ρ H s b a/\J=IteE K b a
 |.zip s t,J=>∃b c a d,SrcR K mg ρ H s b a/\SrcR K mg ρ H t c d/\J=ItZ K b c a d
theorem sq:∀{ds:List D}{k i:Nat}{e:D},(gY k ds)[i]?=some e->∃d,ds[i]?=some d/\e=.tup [.int ((k+i:Nat):Int),d]
 | [],_,_,_,q=>by simp [gY] at q
 |d::ds,k,0,e,q=>⟨d,rfl,by simpa [gY] using q.symm⟩
 |
  d::ds,k,i+1,e,q=>by
  obtain⟨d',q1,q2⟩:=sq (ds:=ds) (k:=k+1) (i:=i) (e:=e) (by simpa [gY] using q)
  refine⟨d',by simpa using q1,?_⟩
  rw[q2]
  congr 4
  omega
theorem rE:∀(ds:List D) (k:Nat),(gY k ds).length=ds.length
 | [],_=>rfl
 |_::ds,k=>by show (gY (k+1) ds).length+1=ds.length+1;rw[rE ds]
section
variable{K:W.Frag}{mg:Ra}{ρ ρ1:List Addr}{H H1:Hp}{h h1:AH}
def SrcR.at_(r:SrcR K mg ρ H s b a)(l:Le ρ H ρ1 H1)(w:Wd K mg ρ1 h1 H1)(g:s.guard h1):∃vs,SqB K b H1 a vs/\RelDs K mg ρ1 H1 s.items vs:=by
 cases s with
 |
  lst n xs=>
  cases b with
  |true=>exact aP w (l.pre _ _ r) g
  |false=>exact r.elim
 |
  tup xs=>
  cases b with
  |true=>exact r.elim
  |false=>obtain⟨vs,q,rs⟩:=r;exact⟨vs,l.sqT q,rs.mono l⟩
 |rng _ _=>cases b <;> exact r.elim
 |rgd _ _=>cases b <;> exact r.elim
 |enm _=>cases b <;> exact r.elim
 |zip _ _=>cases b <;> exact r.elim
def ItR.nums{f:Nat->Int}{k:Nat}(w:Wd K mg ρ1 h1 H1):(∀(i:Nat) (d:D),((List.range k).map λi=>D.int (f i))[i]?=some d->i<k/\∀x H',(H'=H1/\x=V.int (f i))->Le ρ1 H1 ρ1 H'/\Wd K mg ρ1 h1 H'/\RelD K mg ρ1 H' d x)/\k<=((List.range k).map λi=>D.int (f i)).length:=by
 refine⟨λi d e=>?_,by simp⟩
 rw[L_] at e
 cases q:(List.range k)[i]? with
 |none=>rw[q] at e;cases e
 |
  some j=>
  rw[q] at e
  have hj:=r_.mp q
  have e2:=hj.2
  rw[List.getElem_range] at e2
  subst e2
  cases e
  refine⟨by simpa using hj.1,λx H' ⟨e1,e2⟩=>?_⟩
  subst e1 e2
  exact⟨Le.refl,w,.int _⟩
def ItR.step(hJ:ItR K mg ρ H it J)(l:Le ρ H ρ1 H1)(w:Wd K mg ρ1 h1 H1)(g:it.guard h1):
 (∀(i:Nat) (d:D),it.items[i]?=some d->J.go i H1/\∀x H',J.yld i H1 x H'->Le ρ1 H1 ρ1 H'/\Wd K mg ρ1 h1 H'/\RelD K mg ρ1 H' d x)/\J.stop it.items.length H1:=by
 cases it with
 |
  lst n xs=>
  obtain⟨a,ea,rfl⟩:=hJ
  obtain⟨vs,q,rs⟩:=aP w (l.pre _ _ ea) g
  refine⟨λi d e=>?_,vs,q,by rw[<- rs.len];exact o_ _⟩
  obtain⟨v,ev,rv⟩:=rs.getD e
  refine⟨⟨vs,v,q,ev⟩,λx H' ⟨e1,y⟩=>?_⟩
  subst e1
  have:=(y vs q).symm.trans ev
  cases this
  exact⟨Le.refl,w,rv⟩
 |
  tup xs=>
  obtain⟨p,vs,q,rs,rfl⟩:=hJ
  have q1:=l.sqT q
  have rs1:=rs.mono l
  refine⟨λi d e=>?_,vs,q1,by rw[<- rs1.len];exact o_ _⟩
  obtain⟨v,ev,rv⟩:=rs1.getD e
  refine⟨⟨vs,v,q1,ev⟩,λx H' ⟨e1,y⟩=>?_⟩
  subst e1
  have:=(y vs q1).symm.trans ev
  cases this
  exact⟨Le.refl,w,rv⟩
 |rng lo k=>cases hJ;exact ItR.nums w
 |rgd lo k=>cases hJ;exact ItR.nums w
 |
  enm s=>
  obtain⟨b,a,r,rfl⟩:=hJ
  obtain⟨vs,q,rs⟩:=r.at_ l w g
  refine⟨λi d e=>?_,vs,q,by show vs.length=(gY 0 s.items).length;rw[rE,rs.len]⟩
  obtain⟨d',q1,rfl⟩:=sq (show (gY 0 s.items)[i]?=some d from e)
  obtain⟨v,ev,rv⟩:=rs.getD q1
  refine⟨⟨vs,v,q,ev⟩,λx H' ⟨p,u,e1,hp,e2,hu⟩=>?_⟩
  subst e1 e2
  have:=(hu vs q).symm.trans ev
  cases this
  rw[Nat.zero_add]
  exact⟨bU hp,w.tuple hp,.tup (SqT.of aR) (.cons (.int _) (.cons (rv.mono (bU hp)) .nil))⟩
 |
  zip s t=>
  obtain⟨b,c,a,d,r1,r2,rfl⟩:=hJ
  obtain⟨vs,q,rs⟩:=r1.at_ l w g.1
  obtain⟨us,q',rs'⟩:=r2.at_ l w g.2
  refine⟨λi e ei=>?_,vs,us,q,q',?_⟩
  ·have ei':(List.zipWith (λx y=>D.tup [x,y]) s.items t.items)[i]?=some e:=ei
   rw[Pu] at ei'
   cases k1:s.items[i]? with
   |none=>rw[k1] at ei';cases ei'
   |
    some d1=>
    cases k2:t.items[i]? with
    |none=>rw[k1,k2] at ei';cases ei'
    |
     some d2=>
     rw[k1,k2] at ei'
     cases ei'
     obtain⟨v,ev,rv⟩:=rs.getD k1
     obtain⟨v',ev',rv'⟩:=rs'.getD k2
     refine⟨⟨vs,us,v,v',q,q',ev,ev'⟩,λx H' ⟨p,u,u',e1,hp,e2,hu,hu'⟩=>?_⟩
     subst e1 e2
     have:=(hu vs q).symm.trans ev
     cases this
     have:=(hu' us q').symm.trans ev'
     cases this
     exact⟨bU hp,w.tuple hp,.tup (SqT.of aR) (.cons (rv.mono (bU hp)) (.cons (rv'.mono (bU hp)) .nil))⟩
  ·have hl:(AIt.zip s t).items.length=min s.items.length t.items.length:=PK ..
   rw[hl,rs.len,rs'.len]
   rcases Nat.le_total vs.length us.length with z |z
   ·left;rw[Nat.min_eq_left z];exact List.getElem?_eq_none (o_ _)
   ·right;rw[Nat.min_eq_right z];exact List.getElem?_eq_none (o_ _)
end
def SR.loop(r:SR)(f:AE->AH->SR):SR:=match r with
 |.nx ae h=>f ae h
 |.ct ae h=>f ae h
 |.bk ae h=>.nx ae h
 |.rt d h=>.rt d h
 |.exc c ae h=>.exc c ae h
 |.stuck=>.stuck
open Classical in
def iP(G:AH->Prop)(g:MG)(B:MS):List D->MS
 | [],ae,h=>if G h then .nx ae h else .stuck
 |d::ds,ae,h=>if G h then (g d ae h).toS ae λg_ h1=>(B g_ h1).loop (iP G g B ds) else .stuck
abbrev MI:=AE->AH->R AIt
def CJ(I:MI)(g:MG)(B:MS):MS:=λae h=>(I ae h).toS ae λit h1=>iP it.guard g B it.items ae h1
open Classical in
def lcL(G:AH->Prop)(g:MG)(c:MT)(F:ME):List D->List D->AE->AH->R (List D)
 | [],acc,_,h=>if G h then .ok acc h else .stuck
 |d::ds,acc,ae,h=>if G h/\acc.length<16777216 then (g d ae h).bind λg_ h1=>(c g_ h1).bind λb h2=>if b=true then (F g_ h2).bind λy h3=>lcL G g c F ds (acc++[y]) g_ h3 else lcL G g c F ds acc g_ h2 else .stuck
def iI(sub:Rg)(ae:AE):AE:=sub.map λo=>o.bind λi=>(ae[i]?).bind id
def eLC(I:MI)(sub:Rg)(g:MG)(c:MT)(F:ME):ME:=λae h=>(I ae h).bind λit h1=>(noX (lcL it.guard g c F it.items [] (iI sub ae) h1)).bind c8
def tY:MT:=λ_ h=>.ok true h
section
variable(K:W.Frag)(mg:Ra)
def rdI(ES:St->XK)(F:MI):TI:=λσ H R'=>∃ρ h ae,Wd K mg ρ h H/\RelE K mg ρ H ae σ/\PostG K mg ρ H (ES σ) (λit _ ρ' H'=>∀J,ItR K mg ρ' H' it J->R' J H') (F ae h)
def DI(X:Cx)(ES:St->XK)(tg a_:Expr)(F:MI):Prop:=PI X tg a_ (rdI K mg ES F)
end
noncomputable def Ab(F:ME):MI:=λae h=>(F ae h).bind λd h1=>match d with
 |.tup xs=>.ok (.tup xs) h1
 |.ref n=>match aB h1 n with
  |some xs=>.ok (.lst n xs) h1
  |none=>.stuck
 |_=>.stuck
noncomputable def Bc(A:MA):MI:=λae h=>(A ae h).bind λds h1=>match ds with
 | [.int j]=>if -(2^62)<=j/\j<2^62 then .ok (.rng 0 j.toNat) h1 else .stuck
 |_=>.stuck
noncomputable def By(A:MA):MI:=λae h=>(A ae h).bind λds h1=>match ds with
 | [.int i,.int j]=>if -(2^62)<=i/\i<2^62/\-(2^62)<=j/\j<2^62 then .ok (.rng i (j-i).toNat) h1 else .stuck
 |_=>.stuck
noncomputable def fX(d:D)(h:AH):Option AIt:=match d with
 |.tup xs=>some (.tup xs)
 |.ref n=>(aB h n).map (.lst n)
 |_=>none
noncomputable def Cp(A:MA):MI:=λae h=>(A ae h).bind λds h1=>match ds with
 | [d,e]=>(match fX d h1,fX e h1 with
  |some s,some t=>.ok (.zip s t) h1
  |_,_=>.stuck)
 |_=>.stuck
section
variable{K:W.Frag}{mg:Ra}{X:Cx}{ES:St->XK}{tg a_ e a b c io:Expr}{F:ME}{A:MA}{I:MI}{g:MG}{cf:MT}{U:MS}{sts:List Stmt}{pos:Pos}
def PI.imp(h:PI X tg a_ t)(k:∀σ H Q,t' σ H Q->t σ H Q):PI X tg a_ t':=λpins s σ H Q I w=>h pins s σ H Q I (k σ H Q w)
def Kf(hl:PE X l tl):PI X tg l (λσ H R=>tl σ H λx H1=>(∃a,x=.ref a/\(∃xs,SqL X.K H1 a xs)/\R (Itl X.K a) H1)\/(∃a,x=.ref a/\(∃xs,SqT X.K H1 a xs)/\R (Itt X.K a) H1)):=by
 intro pins s σ H R I h
 refine thn (hl pins s σ H _ I h) λv s1 ⟨x,H1,I1,r1,q1⟩=>?_
 rcases q1 with ⟨a,e,⟨xs,hq⟩,q⟩ |⟨a,e,⟨xs,hq⟩,q⟩
 ·subst e
  cases r1
  obtain⟨its,rv,p,hz⟩:=I1.list hq
  refine wpAny_pyIter_list p.isList ?_
  refine⟨s1.heap.objs.size,[s1.heap.objs.size],_,_,H1,rfl,I1.kept (t':=s1.toks) λb o e=>n_ _ e,yL a _,⟨_,C_ _ rfl,rfl,rfl⟩,λb hb=>?_,q⟩
  have e:b=s1.heap.objs.size:=by simpa using hb
  subst e
  exact I1.fpOk (o_ _) (I1.hok.fresh (o_ _))
 ·subst e
  cases r1
  obtain⟨its,rv,p,hz⟩:=I1.tuple hq
  refine wpAny_pyIter_tuple (show s1.heap.IsTuple a its.toArray from p) ?_
  refine⟨s1.heap.objs.size,[s1.heap.objs.size],_,_,H1,rfl,I1.kept (t':=s1.toks) λb o e=>n_ _ e,wJ a _,⟨_,C_ _ rfl,rfl,rfl⟩,λb hb=>?_,q⟩
  have e:b=s1.heap.objs.size:=by simpa using hb
  subst e
  exact I1.fpOk (o_ _) (I1.hok.fresh (o_ _))
def Ji(hK:X.K=K)(he:DE K mg X ES e F):DI K mg X ES tg e (Ab F):=by
 subst hK
 refine PI.imp (Kf he) λσ H R ⟨ρ,h,ae,w,re,p⟩=>⟨ρ,h,ae,w,re,p.bind.imp λd h1 ρ1 H1 l1 w1 p1 v rv=>?_⟩
 cases rv with
 |tup q rs=>exact .inr ⟨_,rfl,⟨_,q⟩,p1 ρ1 H1 Le.refl w1 _ ⟨_,_,q,rs,rfl⟩⟩
 |
  ref ea=>
  dsimp only at p1
  split at p1
  ·rename_i xs e1
   obtain⟨vs,q,rs⟩:=aP w1 ea e1
   exact .inl ⟨_,rfl,⟨_,q⟩,p1 ρ1 H1 Le.refl w1 _ ⟨_,ea,rfl⟩⟩
  ·exact p1.elim
 |_=>exact p1.elim
def zE(hg:Gl X "range")(hm:mg "range"=none)(ha:DA K mg X ES [a] A)(hk:X.mg=mg)(hs:starEach [a] X.env=[(false,eval a X.env)]):DI K mg X ES tg (.Call (.Name "range" p) [a] [] pos) (Bc A):=by
 subst hk
 refine PI.imp (yX hg hm ha hs) λσ H R ⟨ρ,h,ae,w,re,p⟩=>⟨ρ,h,ae,w,re,p.bind.imp λds h1 ρ1 H1 l1 w1 p1 vs rs=>?_⟩
 split at p1
 ·cases rs with
  |
   cons r rs=>
   cases r;cases rs
   split at p1
   ·rename_i hb
    exact⟨_,rfl,hb.1,hb.2,p1 ρ1 H1 Le.refl w1 _ rfl⟩
   ·exact p1.elim
 ·exact p1.elim
def yu(hg:Gl X "range")(hm:mg "range"=none)(ha:DA K mg X ES [a,b] A)(hk:X.mg=mg)(hs:starEach [a,b] X.env=[(false,eval a X.env),(false,eval b X.env)])(hs2:starEach [b] X.env=[(false,eval b X.env)]):DI K mg X ES tg (.Call (.Name "range" p) [a,b] [] pos) (By A):=by
 subst hk
 refine PI.imp (y0 hg hm ha hs hs2) λσ H R ⟨ρ,h,ae,w,re,p⟩=>⟨ρ,h,ae,w,re,p.bind.imp λds h1 ρ1 H1 l1 w1 p1 vs rs=>?_⟩
 split at p1
 ·cases
   rs with
  |
   cons r rs=>
   cases rs with
   |
    cons r2 rs=>
    cases r;cases r2;cases rs
    split at p1
    ·rename_i hb
     exact⟨_,_,rfl,hb,p1 ρ1 H1 Le.refl w1 _ rfl⟩
    ·exact p1.elim
 ·exact p1.elim
def oa(w:Wd K mg ρ h H)(r:RelD K mg ρ H d v)(q:fX d h=some s):∃b p,v=.ref p/\SrcR K mg ρ H s b p/\∃vs,SqB K b H p vs:=by
 cases r with
 |tup hq rs=>cases q;exact⟨false,_,rfl,⟨_,hq,rs⟩,_,hq⟩
 |
  ref ea=>
  obtain⟨xs,q1,rfl⟩:=G_.mp q
  obtain⟨vs,h1,h2⟩:=aP w ea q1
  exact⟨true,_,rfl,ea,vs,h1⟩
 |_=>cases q
def Li(hK:X.K=K)(hg:Gl X "zip")(hm:mg "zip"=none)(ha:DA K mg X ES [a,b] A)(hk:X.mg=mg)(hs:starEach [a,b] X.env=[(false,eval a X.env),(false,eval b X.env)])(hs2:starEach [b] X.env=[(false,eval b X.env)]):DI K mg X ES (.Tuple elts x1 tp) (.Call (.Name "zip" p) [a,b] [] pos) (Cp A):=by
 subst hk hK
 refine PI.imp (JR hg hm ha hs hs2) λσ H R ⟨ρ,h,ae,w,re,p⟩=>⟨ρ,h,ae,w,re,p.bind.imp λds h1 ρ1 H1 l1 w1 p1 vs rs=>?_⟩
 split at p1
 ·cases
   rs with
  |
   cons r rs=>
   cases rs with
   |
    cons r' rs=>
    cases rs
    split at p1
    ·rename_i s t q q'
     obtain⟨b,pa,rfl,sr,xs,hx⟩:=oa w1 r q
     obtain⟨c,pd,rfl,sr',ys,hy⟩:=oa w1 r' q'
     exact⟨b,c,pa,pd,xs,ys,rfl,hx,hy,p1 ρ1 H1 Le.refl w1 _ ⟨b,c,pa,pd,sr,sr',rfl⟩⟩
    ·exact p1.elim
 ·exact p1.elim
def rP(p:PostS K mg ρ H De ES (r.loop f))(i:∀g_ h1 ρ1 H1 σ1,Le ρ H ρ1 H1->Wd K mg ρ1 h1 H1->RelE K mg ρ1 H1 g_ σ1->PostS K mg ρ1 H1 De ES (f g_ h1)->N σ1 H1):
 PostS K mg ρ H { De with nx:=N,ct:=N,bk:=De.nx } ES r:=by
 cases r with
 |nx g_ h1=>exact λρ1 H1 σ1 l1 w1 re1=>i g_ h1 ρ1 H1 σ1 l1 w1 re1 (PostS.mono l1 p)
 |rt d h1=>exact p
 |bk g_ h1=>exact p
 |ct g_ h1=>exact λρ1 H1 σ1 l1 w1 re1=>i g_ h1 ρ1 H1 σ1 l1 w1 re1 (PostS.mono l1 p)
 |exc c g_ h1=>exact p
 |stuck=>exact p
def GQ(hp:PassesOwn (model X.prog X.w) X.A X.env X.xe)(hc:X.calm=true)(hi:DI K mg X ES tg a_ I)(hg:DG K mg X ES tg g)(hb:DSs K mg X ES sts U)
 (hs:∀x,foldedSetIterable a_ X.env x=pure x):DS K mg X ES (.For tg a_ sts [] pos) (CJ I g U):=by
 refine PS.imp (KP hp hc hi hg hb hs) λDe σ H q_=>q_.el λρ h ae w re p=>⟨ρ,h,ae,w,re,bJ p re λit h1 ρ1 H1 l1 w1 re1 p1 J hJ=>?_⟩
 refine⟨λi m σ2 H2=>m=it.items.length-i/\i<=it.items.length/\∃ρ2 h2 ae2,Le ρ1 H1 ρ2 H2/\Wd K mg ρ2 h2 H2/\RelE K mg ρ2 H2 ae2 σ2/\PostS K mg ρ2 H2 De ES (iP it.guard g U (it.items.drop i) ae2 h2),⟨_,rfl,N_ _,ρ1,h1,ae,Le.refl,w1,re1,p1⟩,?_⟩
 rintro i m σ2 H2 ⟨rfl,hi',ρ2,h2,ae2,l2,w2,re2,p2⟩
 by_cases hlt:i<it.items.length
 ·have hd:it.items.drop i=it.items[i]::it.items.drop (i+1):=Qh hlt
  rw[hd] at p2
  unfold iP at p2
  split at p2
  ·rename_i hG
   obtain⟨st,_⟩:=hJ.step l2 w2 hG
   obtain⟨go,yl⟩:=st i it.items[i] (x_ hlt)
   refine .inr ⟨go,λσ' H'=>∃ρ3 h3 ae3,Le ρ1 H1 ρ3 H'/\Wd K mg ρ3 h3 H'/\RelE K mg ρ3 H' ae3 σ'/\PostS K mg ρ3 H' De ES (iP it.guard g U (it.items.drop (i+1)) ae3 h3),
    λσ' H' ⟨ρ3,h3,ae3,q⟩=>⟨_,by omega,rfl,hlt,ρ3,h3,ae3,q⟩,λx H' hy=>?_⟩
   obtain⟨ly,wy,rx⟩:=yl x H' hy
   refine⟨ρ2,h2,ae2,_,wy,re2.mono ly,rx,bJ (PostS.mono ly p2) (re2.mono ly) λae3 h3 ρ3 H3 l3 w3 re3 p3 σ' re'=>⟨ρ3,h3,ae3,w3,re',rP p3 λae4 h4 ρ4 H4 σ4 l4 w4 re4 p4=>⟨ρ4,h4,ae4,((l2.trans ly).trans l3).trans l4,w4,re4,p4⟩⟩⟩
  ·exact p2.elim
 ·have hi2:i=it.items.length:=by omega
  subst hi2
  rw[List.drop_length] at p2
  unfold iP at p2
  split at p2
  ·rename_i hG
   exact .inl ⟨(hJ.step l2 w2 hG).2,fT p2 w2 re2⟩
  ·exact p2.elim
def Ag(re:RelE K mg ρ H ae σ)(sub:Rg):RelE K mg ρ H (iI sub ae) (fA sub σ):=by
 unfold iI fA
 refine⟨by rw[l_,l_],λj d e=>?_⟩
 rw[L_] at e ⊢
 cases q:sub[j]? with
 |none=>rw[q] at e;cases e
 |
  some o=>
  rw[q] at e
  cases o with
  |none=>cases e
  |
   some i=>
   have e':(ae[i]?).bind id=some d:=H_ e
   cases q2:ae[i]? with
   |none=>rw[q2] at e';cases e'
   |
    some z=>
    rw[q2] at e'
    have e3:z=some d:=e'
    subst e3
    obtain⟨v,h1,h2⟩:=re.at_ i d q2
    refine⟨v,?_,h2⟩
    show some ((σ[i]?).bind id)=some (some v)
    rw[h1];rfl
def kF(p:PostG K mg ρ H E k ((noX (r.bind f)).bind m)):
 PostG K mg ρ H E0 (λa h1 ρ' H'=>PostG K mg ρ' H' E k ((noX (f a h1)).bind m)) r:=by
 cases r with
 |ok a h1=>exact λρ1 H1 l1 w1=>PostG.mono l1 p
 |exc c h1=>exact p.elim
 |stuck=>exact p.elim
def Dl(σ:St)(H:Hp)(Q:VK)(q:rdE K mg ES (eLC I sub g cf F) σ H Q):jc (rdI K mg ES I) sub (rdG K mg (λ_=>E0) g) (rdT K mg (λ_=>E0) cf) (rdE K mg (λ_=>E0) F) σ H Q:=by
 obtain⟨ρ,h,ae,w,re,p⟩:=q
 refine⟨ρ,h,ae,w,re,p.bind.imp λit h1 ρ1 H1 l1 w1 p1 J hJ=>?_⟩
 have re1:=Ag (re.mono l1) sub
 refine⟨λi m ys σ2 H2=>m=it.items.length-i/\i<=it.items.length/\∃ρ2 h2 ae2 acc,Le ρ1 H1 ρ2 H2/\Wd K mg ρ2 h2 H2/\RelE K mg ρ2 H2 ae2 σ2/\RelDs K mg ρ2 H2 acc ys/\
  PostG K mg ρ2 H2 (ES σ) (λd _ ρ' H'=>∀v,RelD K mg ρ' H' d v->Q v H') ((noX (lcL it.guard g cf F (it.items.drop i) acc ae2 h2)).bind c8),
  ⟨_,rfl,N_ _,ρ1,h1,iI sub ae,[],Le.refl,w1,re1,.nil,p1⟩,?_⟩
 rintro i m ys σ2 H2 ⟨rfl,hi',ρ2,h2,ae2,acc,l2,w2,re2,rs,p2⟩
 by_cases hlt:i<it.items.length
 ·have hd:it.items.drop i=it.items[i]::it.items.drop (i+1):=Qh hlt
  rw[hd] at p2
  unfold lcL at p2
  split at p2
  ·rename_i hG
   obtain⟨st,_⟩:=hJ.step l2 w2 hG.1
   obtain⟨go,yl⟩:=st i it.items[i] (x_ hlt)
   refine .inr ⟨go,by rw[<- rs.len];exact hG.2,λys' σ' H'=>∃ρ3 h3 ae3 acc3,Le ρ1 H1 ρ3 H'/\Wd K mg ρ3 h3 H'/\RelE K mg ρ3 H' ae3 σ'/\RelDs K mg ρ3 H' acc3 ys'/\
    PostG K mg ρ3 H' (ES σ) (λd _ ρ' H'=>∀v,RelD K mg ρ' H' d v->Q v H') ((noX (lcL it.guard g cf F (it.items.drop (i+1)) acc3 ae3 h3)).bind c8),
    λys' σ' H' ⟨ρ3,h3,ae3,acc3,q⟩=>⟨_,by omega,rfl,hlt,ρ3,h3,ae3,acc3,q⟩,λx H' hy=>?_⟩
   obtain⟨ly,wy,rx⟩:=yl x H' hy
   refine⟨ρ2,h2,ae2,_,wy,re2.mono ly,rx,(kF (PostG.mono ly p2)).imp λae3 h3 ρ3 H3 l3 w3 p3 σ3 re3=>⟨ρ3,h3,ae3,w3,re3,(kF p3).imp λb h4 ρ4 H4 l4 w4 p4=>?_⟩⟩
   cases b with
   |true=>exact⟨ρ4,h4,ae3,w4,re3.mono l4,(kF p4).imp λy h5 ρ5 H5 l5 w5 p5 v rv=>⟨ρ5,h5,ae3,acc++[y],(((l2.trans ly).trans l3).trans l4).trans l5,w5,(re3.mono l4).mono l5,((((rs.mono ly).mono l3).mono l4).mono l5).append (.cons rv .nil),p5⟩⟩
   |false=>exact⟨ρ4,h4,ae3,acc,((l2.trans ly).trans l3).trans l4,w4,re3.mono l4,((rs.mono ly).mono l3).mono l4,p4⟩
  ·exact p2.elim
 ·have hi2:i=it.items.length:=by omega
  subst hi2
  rw[List.drop_length] at p2
  unfold lcL at p2
  split at p2
  ·rename_i hG
   refine .inl ⟨(hJ.step l2 w2 hG).2,?_⟩
   have p3:PostG K mg ρ2 H2 (ES σ) (λd _ ρ' H'=>∀v,RelD K mg ρ' H' d v->Q v H') (c8 acc h2):=p2
   unfold c8 at p3
   split at p3
   ·rename_i hl
    exact⟨by rw[<- rs.len];exact hl,λq hq=>cM w2 rs hq p3⟩
   ·exact p3.elim
  ·exact p2.elim
def LB(M:List Str)(kn:List (Str×NameKind))(N:List Str)(sub:Rg)
 (hc:X.calm=true) (hi:DI K mg X ES tg a_ I)
 (hg:∀cl C s₂ H fp,DG K mg (aF X N scope cl C s₂ H fp) (λ_=>E0) tg g) (he:∀cl C s₂ H fp,DE K mg (aF X N scope cl C s₂ H fp) (λ_=>E0) io F)
 (hM:X.N=M) (hkn:X.env.scope.names=kn) (f_:fB M scope.names sub N=true)
 (hk:scope.kind=.function) (hnc:∀x∈scope.names,x.2 ≠ .cell) (b_:∀x∈scope.names,x.2=.local->scope.names.lookup x.1=some .local)
 (hfr:gQ kn scope.names=true)
 (hsl:sub.length=N.length) (hs:∀x,foldedSetIterable a_ X.env x=pure x):
 DE K mg X ES (.ListComp io [⟨tg,a_,[],0⟩] scope pos) (eLC I sub g tY F):=
 PE.imp (Ol M kn N sub hc hi hg he hM hkn f_ hk hnc b_ hfr hsl hs) λσ H Q q=>by
  have:=Dl (cf:=tY) σ H Q q
  obtain⟨ρ,h,ae,w,re,p⟩:=this
  refine⟨ρ,h,ae,w,re,p.imp λit h1 ρ1 H1 l1 w1 k J hJ=>?_⟩
  obtain⟨W,w0,tn⟩:=k J hJ
  refine⟨W,w0,λi m ys σ2 H2 hW=>?_⟩
  rcases tn i m ys σ2 H2 hW with z |⟨go,hl,Nx,hN,st⟩
  ·exact .inl z
  ·refine .inr ⟨go,hl,Nx,hN,λx H' hy=>?_⟩
   obtain⟨ρ3,h3,ae3,d3,w3,re3,rd3,p3⟩:=st x H' hy
   refine⟨ρ3,h3,ae3,d3,w3,re3,rd3,p3.imp λae4 h4 ρ4 H4 l4 w4 k4 σ4 re4=>?_⟩
   obtain⟨ρ5,h5,ae5,w5,re5,p5⟩:=k4 σ4 re4
   exact p5 ρ5 _ Le.refl w5
def Ik(σ:St)(H:Hp)(Q:VK)(q:rdE K mg ES (eLC I sub g tY F) σ H Q):jc (rdI K mg ES I) sub (rdG K mg (λ_=>E0) g) B6 (rdE K mg (λ_=>E0) F) σ H Q:=by
 have:=Dl (cf:=tY) σ H Q q
 obtain⟨ρ,h,ae,w,re,p⟩:=this
 refine⟨ρ,h,ae,w,re,p.imp λit h1 ρ1 H1 l1 w1 k J hJ=>?_⟩
 obtain⟨W,w0,tn⟩:=k J hJ
 refine⟨W,w0,λi m ys σ2 H2 hW=>?_⟩
 rcases tn i m ys σ2 H2 hW with z |⟨go,hl,Nx,hN,st⟩
 ·exact .inl z
 ·refine .inr ⟨go,hl,Nx,hN,λx H' hy=>?_⟩
  obtain⟨ρ3,h3,ae3,d3,w3,re3,rd3,p3⟩:=st x H' hy
  refine⟨ρ3,h3,ae3,d3,w3,re3,rd3,p3.imp λae4 h4 ρ4 H4 l4 w4 k4 σ4 re4=>?_⟩
  obtain⟨ρ5,h5,ae5,w5,re5,p5⟩:=k4 σ4 re4
  exact p5 ρ5 _ Le.refl w5
def EZ(ht:∀σ H Q,rdE K mg ES F σ H Q->t σ H Q)(De:Ends)(σ:St)(H:Hp)(q:rdS K mg ES (gR F (gN i)) De σ H):pJ t (ma i) De σ H:=by
 obtain⟨ρ,h,ae,w,re,p⟩:=q
 exact ht σ H _ ⟨ρ,h,ae,w,re,bJ p re λd h1 ρ1 H1 l1 w1 re1 p1 v rv=>fT p1 w1 (re1.set i rv)⟩
def Lk(M:List Str)(kn:List (Str×NameKind))(N:List Str)(sub:Rg)
 (hc:X.calm=true) (hN:X.N.Nodup) (hix:X.N[iT]?=some xT) (hxl:Loc X.env.scope xT) (hi:DI K mg X ES tg a_ I)
 (hg:∀cl C s₂ H fp,DG K mg (aF X N scope cl C s₂ H fp) (λ_=>E0) tg g) (he:∀cl C s₂ H fp,DE K mg (aF X N scope cl C s₂ H fp) (λ_=>E0) io F)
 (hsw:swapsWith (.ListComp io [⟨tg,a_,[],0⟩] scope pos) (some (.Name xT px)) spos.line X.env=pure true)
 (hM:X.N=M) (hkn:X.env.scope.names=kn) (f_:fB M scope.names sub N=true)
 (hk:scope.kind=.function) (hnc:∀x∈scope.names,x.2 ≠ .cell) (b_:∀x∈scope.names,x.2=.local->scope.names.lookup x.1=some .local)
 (hfr:gQ kn scope.names=true)
 (hsl:sub.length=N.length) (hs:∀x,foldedSetIterable a_ X.env x=pure x) (hf:X.fn xT=true\/X.env.scope.names.lookup xT=some .local):
 DS K mg X ES (.Assign [.Name xT px] (.ListComp io [⟨tg,a_,[],0⟩] scope pos) spos) (gR (eLC I sub g tY F) (gN iT)):=
 PS.imp (Oj M kn N sub hc hN hix hxl hi hg he hsw hM hkn f_ hk hnc b_ hfr hsl hs hf) (EZ Ik)
end
noncomputable def whN(c:MT)(B:MS):Nat->MS
 |0,_,_=>.stuck
 |k+1,ae,h=>(c ae h).toS ae λb h1=>if b=true then (B ae h1).loop (whN c B k) else .nx ae h1
open Classical in
def sWh(c:MT)(B:MS):MS:=λae h=>if q:∃k,whN c B k ae h ≠ .stuck then whN c B q.choose ae h else .stuck
theorem lA:∀{k:Nat}{ae:AE}{h:AH},whN c B k ae h ≠ .stuck->whN c B (k+1) ae h=whN c B k ae h
 |0,_,_,q=>absurd rfl q
 |
  k+1,ae,h,q=>by
  have e1:whN c B (k+2) ae h=(c ae h).toS ae λb h1=>if b=true then (B ae h1).loop (whN c B (k+1)) else .nx ae h1:=rfl
  have e2:whN c B (k+1) ae h=(c ae h).toS ae λb h1=>if b=true then (B ae h1).loop (whN c B k) else .nx ae h1:=rfl
  rw[e2] at q
  rw[e1,e2]
  cases r:c ae h with
  |exc _ _=>rfl
  |stuck=>rfl
  |
   ok b h1=>
   rw[r] at q
   cases b with
   |false=>rfl
   |
    true=>
    have q':(B ae h1).loop (whN c B k) ≠ .stuck:=q
    show (B ae h1).loop (whN c B (k+1))=(B ae h1).loop (whN c B k)
    cases s:B ae h1 with
    |nx a2 h2=>rw[s] at q';exact lA q'
    |ct a2 h2=>rw[s] at q';exact lA q'
    |_=>rfl
def zG(q:whN c B k ae h ≠ .stuck)(hj:k<=j):whN c B j ae h=whN c B k ae h:=by
 induction hj with
 |refl=>rfl
 |step _ ih=>rw[lA (by rw[ih];exact q),ih]
def yh(q:whN c B k ae h ≠ .stuck):sWh c B ae h=whN c B k ae h:=by
 have hq:∃k,whN c B k ae h ≠ .stuck:=⟨k,q⟩
 unfold sWh
 rw[dif_pos hq]
 rcases Nat.le_total hq.choose k with z |z
 ·exact (zG hq.choose_spec z).symm
 ·exact zG q z
section
variable{K:W.Frag}{mg:Ra}{X:Cx}{ES:St->XK}{c:Expr}{cf:MT}{U:MS}{sts:List Stmt}{pos:Pos}
def Au(hp:PassesOwn (model X.prog X.w) X.A X.env X.xe)(hc:DT K mg X ES c cf)(hb:DSs K mg X ES sts U):DS K mg X ES (.While c sts [] pos) (sWh cf U):=by
 refine PS.imp (AV hp hc hb) λDe σ H q_=>q_.el λρ h ae w re p=>?_
 have hx:∃k,whN cf U k ae h ≠ .stuck:=Qg λz=>by
  unfold sWh at p
  rw[dif_neg z] at p
  exact p.elim
 obtain⟨k,hk⟩:=hx
 rw[yh hk] at p
 refine⟨λm σ2 H2=>∃ρ2 h2 ae2,Wd K mg ρ2 h2 H2/\RelE K mg ρ2 H2 ae2 σ2/\PostS K mg ρ2 H2 De ES (whN cf U m ae2 h2),⟨k,ρ,h,ae,w,re,p⟩,?_⟩
 rintro m σ2 H2 ⟨ρ2,h2,ae2,w2,re2,p2⟩
 cases m with
 |zero=>exact p2.elim
 |
  succ m=>
  refine⟨ρ2,h2,ae2,w2,re2,bJ p2 re2 λb h3 ρ3 H3 l3 w3 re3 p3=>?_⟩
  cases b with
  |true=>exact⟨λσ' H'=>∃ρ4 h4 ae4,Wd K mg ρ4 h4 H'/\RelE K mg ρ4 H' ae4 σ'/\PostS K mg ρ4 H' De ES (whN cf U m ae4 h4),λσ' H' q=>⟨m,Nat.lt_succ_self _,q⟩,ρ3,h3,ae2,w3,re3,rP p3 λae4 h4 ρ4 H4 σ4 l4 w4 re4 p4=>⟨ρ4,h4,ae4,w4,re4,p4⟩⟩
  |false=>exact fT p3 w3 re3
end
noncomputable def qg:Fn:=λds h=>match ds with
 | [d]=>match cR h d with
  |some xs=>.ok (.int xs.length) h
  |none=>match d with
   |.str z=>if z.length<=16777216 then .ok (.int z.length) h else .stuck
   |_=>.stuck
 |_=>.stuck
noncomputable def vN:Fn:=λds h=>match ds with
 | [.int i]=>.ok (.int (if i<0 then -i else i)) h
 |_=>.stuck
noncomputable def oW:Fn:=λds h=>match ds with
 | [.int i,.int j]=>.ok (.int (if j>i then j else i)) h
 |_=>.stuck
noncomputable def pA:Fn:=λds h=>match ds with
 | [.int i,.int j]=>.ok (.int (if j<i then j else i)) h
 |_=>.stuck
noncomputable def gz:List D->Option (List Bool)
 | []=>some []
 |.bl b::r=>(gz r).map (b :: ·)
 |_=>none
noncomputable def dU:List D->Option (List Int)
 | []=>some []
 |.int b::r=>(dU r).map (b :: ·)
 |_=>none
theorem rH:∀{ds:List D}{bs:List Bool},gz ds=some bs->ds=bs.map D.bl
 | [],bs,e=>by cases e;rfl
 |
  .bl b::r,bs,e=>by
  have e':(gz r).map (b :: ·)=some bs:=e
  cases q:gz r with
  |none=>rw[q] at e';cases e'
  |some z=>rw[q] at e';cases e';rw[rH q];rfl
theorem jz:∀{ds:List D}{bs:List Int},dU ds=some bs->ds=bs.map D.int
 | [],bs,e=>by cases e;rfl
 |
  .int b::r,bs,e=>by
  have e':(dU r).map (b :: ·)=some bs:=e
  cases q:dU r with
  |none=>rw[q] at e';cases e'
  |some z=>rw[q] at e';cases e';rw[jz q];rfl
noncomputable def qX:Fn:=λds h=>match ds with
 | [.ref n]=>match (aB h n).bind gz with
  |some bs=>.ok (.bl (bs.all id)) h
  |none=>.stuck
 |_=>.stuck
noncomputable def sj:Fn:=λds h=>match ds with
 | [.ref n]=>match (aB h n).bind dU with
  |some ns=>.ok (.int ns.sum) h
  |none=>.stuck
 |_=>.stuck
noncomputable def lO:Fn:=λds h=>match ds with
 | [d]=>match cR h d with
  |some xs=>.ok (.ref h.length) (h++[.lst xs])
  |none=>.stuck
 |_=>.stuck
noncomputable def vD:Fn:=λds h=>match ds with
 | [.int i]=>.ok (.int i) h
 | [.bl b]=>.ok (.int (if b then 1 else 0)) h
 |_=>.stuck
section
variable{K:W.Frag}{mg:Ra}{X:Cx}
def HV:aM K mg (λxs H Q=>(∃p ys,xs=[.ref p]/\(SqL K H p ys\/SqT K H p ys)/\Q (.int ys.length) H)\/(∃z,xs=[.str z]/\z.length<=sizeLine/\Q (.int z.length) H)) qg:=λρ h H ds vs Q E w rs p=>by
 unfold qg at p
 split at p
 ·cases
   rs with
  |
   cons r rs=>
   cases rs
   split at p
   ·rename_i xs e
    obtain⟨pa,vs,rfl,hq,rs⟩:=dS w r e
    exact .inl ⟨_,_,rfl,hq,by rw[<- rs.len];exact ax w (.int _) p⟩
   ·split at p
    ·cases r
     split at p
     ·rename_i hl;exact .inr ⟨_,rfl,hl,ax w (.int _) p⟩
     ·exact p.elim
    ·exact p.elim
 ·exact p.elim
def NV(h:X.K=K):CallR X (.builtin "len") (λxs H Q=>(∃p ys,xs=[.ref p]/\(SqL K H p ys\/SqT K H p ys)/\Q (.int ys.length) H)\/(∃z,xs=[.str z]/\z.length<=sizeLine/\Q (.int z.length) H)):=by subst h;exact pY.or qc
def Ia:aM K mg (λxs H Q=>∃i,xs=[.int i]/\Q (.int (if i<0 then -i else i)) H) vN:=λρ h H ds vs Q E w rs p=>by
 unfold vN at p
 split at p
 ·cases rs with
  |cons r rs=>cases r;cases rs;exact⟨_,rfl,ax w (.int _) p⟩
 ·exact p.elim
def FP:aM K mg (λxs H Q=>∃i j,xs=[.int i,.int j]/\Q (.int (if j>i then j else i)) H) oW:=λρ h H ds vs Q E w rs p=>by
 unfold oW at p
 split at p
 ·cases rs with
  |cons r rs=>cases rs with |cons r2 rs=>cases r;cases r2;cases rs;exact⟨_,_,rfl,ax w (.int _) p⟩
 ·exact p.elim
def Fp:aM K mg (λxs H Q=>∃i j,xs=[.int i,.int j]/\Q (.int (if j<i then j else i)) H) pA:=λρ h H ds vs Q E w rs p=>by
 unfold pA at p
 split at p
 ·cases rs with
  |cons r rs=>cases rs with |cons r2 rs=>cases r;cases r2;cases rs;exact⟨_,_,rfl,ax w (.int _) p⟩
 ·exact p.elim
def G8:aM K mg (λxs H Q=>∃(a:Addr) (bs:List Bool),xs=[.ref a]/\SqL K H a (bs.map V.bl)/\Q (.bl (bs.all id)) H) qX:=λρ h H ds vs Q E w rs p=>by
 unfold qX at p
 split at p
 ·cases
   rs with
  |
   cons r rs=>
   cases r with
   |
    ref ea=>
    cases rs
    split at p
    ·rename_i bs e
     obtain⟨xs,q,e2⟩:=Ou.mp e
     ·obtain⟨vs,h1,h2⟩:=aP w ea q
      rw[rH e2] at h2
      rw[h2.bls] at h1
      exact⟨_,bs,rfl,h1,ax w (.bl _) p⟩
    ·exact p.elim
 ·exact p.elim
def Il:aM K mg (λxs H Q=>∃(a:Addr) (ns:List Int),xs=[.ref a]/\SqL K H a (ns.map V.int)/\Q (.int ns.sum) H) sj:=λρ h H ds vs Q E w rs p=>by
 unfold sj at p
 split at p
 ·cases
   rs with
  |
   cons r rs=>
   cases r with
   |
    ref ea=>
    cases rs
    split at p
    ·rename_i bs e
     obtain⟨xs,q,e2⟩:=Ou.mp e
     ·obtain⟨vs,h1,h2⟩:=aP w ea q
      rw[jz e2] at h2
      rw[h2.ints] at h1
      exact⟨_,bs,rfl,h1,ax w (.int _) p⟩
    ·exact p.elim
 ·exact p.elim
def DY:aM K mg (λxs H Q=>∃p ys,xs=[.ref p]/\(SqL K H p ys\/SqT K H p ys)/\∀l,H l=none->Q (.ref l) (upd H l (.lst ys))) lO:=λρ h H ds vs Q E w rs p=>by
 unfold lO at p
 split at p
 ·cases rs with
  |
   cons r rs=>
   cases rs
   split at p
   ·rename_i xs e
    obtain⟨pa,vs,rfl,hq,rs⟩:=dS w r e
    exact⟨_,_,rfl,hq,λl hl=>cM w rs hl p⟩
   ·exact p.elim
 ·exact p.elim
def Jd:aM K mg (λxs H Q=>(∃i,xs=[.int i]/\Q (.int i) H)\/∃k,xs=[.bl k]/\Q (.int (if k then 1 else 0)) H) vD:=λρ h H ds vs Q E w rs p=>by
 unfold vD at p
 split at p
 ·cases rs with
  |cons r rs=>cases r;cases rs;exact .inl ⟨_,rfl,ax w (.int _) p⟩
 ·cases rs with
  |cons r rs=>cases r;cases rs;exact .inr ⟨_,rfl,ax w (.int _) p⟩
 ·exact p.elim
def IL(h:X.K=K):CallR X (.type "list") (λxs H Q=>∃p ys,xs=[.ref p]/\(SqL K H p ys\/SqT K H p ys)/\∀l,H l=none->Q (.ref l) (upd H l (.lst ys))):=by subst h;exact qR
end
inductive Cl where
 |b (n:String) |o (x:Str)
 deriving DecidableEq
noncomputable def tyD(h:AH):D->Option Cl
 |.non=>some (.b "NoneType")
 |.bl _=>some (.b "bool")
 |.int _=>some (.b "int")
 |.str _=>some (.b "str")
 |.tup _=>some (.b "tuple")
 |.exc x=>some (.o x)
 |.ref n=>match h[n]? with
  |some (.lst _)=>some (.b "list")
  |some (.fz _)=>some (.b "list")
  |some (.dct _)=>some (.b "dict")
  |_=>none
 |_=>none
noncomputable def clD:D->Option Cl
 |.ty n=>some (.b n)
 |.glb x=>some (.o x)
 |_=>none
def ClV(mg:Ra):Cl->Value->Prop
 |.b n,v=>v=.type n
 |.o x,v=>∃a,v=.ref a/\mg x=some (.ref a)
abbrev iX:=List (Cl×Cl×Bool)
structure KitsOk(K:W.Frag)(mg:Ra)(kt:iX):Prop where
 one:∀p∈kt,∀t v,ClV mg p.1 t->ClV mg p.2.1 v->W.kitOne K t v=some p.2.2
 xc:∀p∈kt,∀x C,p.1=.o x->mg x=some (.ref C)->XCls K C
noncomputable def kit(kt:iX)(t c:Cl):Option Bool:=(kt.find? λp=>decide (p.1=t)&&decide (p.2.1=c)).map (·.2.2)
noncomputable def fb(kt:iX)(t:Cl):List Cl->Option Bool
 | []=>some false
 |c::r=>match kit kt t c with
  |some true=>some true
  |some false=>fb kt t r
  |none=>none
noncomputable def sP(kt:iX):Fn:=λds h=>match ds with
 | [d,c]=>match tyD h d with
  |some t=>match c with
   |.tup cs=>match cs.mapM clD with
    |some (c0::cr)=>match fb kt t (c0::cr),kit kt t c0 with
     |some b,some _=>.ok (.bl b) h
     |_,_=>.stuck
    |_=>.stuck
   |c=>match clD c with
    |some cl=>match kit kt t cl with
     |some b=>.ok (.bl b) h
     |none=>.stuck
    |none=>.stuck
  |none=>.stuck
 |_=>.stuck
def mL(e:kit kt t c=some b):(t,c,b)∈kt:=by
 unfold kit at e
 cases q:kt.find? (λp=>decide (p.1=t)&&decide (p.2.1=c)) with
 |none=>rw[q] at e;cases e
 |
  some p=>
  rw[q] at e
  have h1:=List.find?_some q
  have h2:=List.mem_of_find?_eq_some q
  simp only[s_,PZ] at h1
  obtain⟨p1,p2,p3⟩:=p
  have e3:p3=b:=H_ e
  obtain⟨rfl,rfl⟩:=h1
  subst e3
  exact h2
section
variable{K:W.Frag}{mg:Ra}{X:Cx}{ρ:List Addr}{H:Hp}{h:AH}
def uv(ok:KitsOk K mg kt)(w:Wd K mg ρ h H)(r:RelD K mg ρ H d v)(e:tyD h d=some t)(k:kit kt t c=some b):∃tv,TyX K H v tv/\ClV mg t tv:=by
 cases r with
 |non=>cases e;exact⟨_,.of .non,rfl⟩
 |bl=>cases e;exact⟨_,.of (.bl _),rfl⟩
 |int=>cases e;exact⟨_,.of (.int _),rfl⟩
 |str=>cases e;exact⟨_,.of (.str _),rfl⟩
 |tup q rs=>cases e;exact⟨_,.sqT q,rfl⟩
 |
  exc m ex=>
  cases e
  exact⟨_,.exc ex (ok.xc _ (mL k) _ _ rfl m),_,rfl,m⟩
 |
  ref ea=>
  unfold tyD at e
  dsimp only at e
  split at e
  ·rename_i e1;cases e;obtain⟨vs,h1,h2⟩:=w.ob _ _ _ ea e1;exact⟨_,.of (.lst h1),rfl⟩
  ·rename_i e1;cases e;obtain⟨o,vs,h1,h2⟩:=w.ob _ _ _ ea e1;exact⟨_,.of (.frz h1),rfl⟩
  ·rename_i e1;cases e;obtain⟨ws,h1,_⟩:=w.ob _ _ _ ea e1;exact⟨_,.of (.dK h1),rfl⟩
  ·cases e
 |_=>cases e
def uZ(r:RelD K mg ρ H d v)(e:clD d=some c):∃cv,eJ v=some cv/\ClV mg c cv:=by
 cases r with
 |ty n=>cases e;exact⟨_,rfl,rfl⟩
 |glb m=>cases e;exact⟨_,rfl,_,rfl,m⟩
 |_=>cases e
def As:∀{ds:List D}{vs:List V}{cs:List Cl},RelDs K mg ρ H ds vs->ds.mapM clD=some cs->∃cvs,vs.mapM eJ=some cvs/\Paired (ClV mg) cs cvs:=by
 intro ds
 induction ds with
 |
  nil=>
  intro vs cs r e
  cases r
  have e':some ([]:List Cl)=some cs:=e
  cases e';exact⟨[],rfl,.nil⟩
 |
  cons d ds ih=>
  intro vs cs r e
  cases r with
  |
   cons r rr=>
   rw[P2] at e
   cases q:clD d with
   |none=>rw[q] at e;cases e
   |
    some c=>
    rw[q] at e
    cases q2:ds.mapM clD with
    |none=>rw[q2] at e;cases e
    |
     some cs'=>
     rw[q2] at e
     have e':some (c::cs')=some cs:=e
     cases e'
     obtain⟨cv,h1,h2⟩:=uZ r q
     obtain⟨cvs,h3,h4⟩:=ih rr q2
     refine⟨cv::cvs,?_,.cons h2 h4⟩
     rw[P2,h1,h3];rfl
def xV(ok:KitsOk K mg kt)(ht:ClV mg t tv):∀{cs:List Cl}{cvs:List Value}{b:Bool},Paired (ClV mg) cs cvs->fb kt t cs=some b->W.kitAny K tv cvs=some b:=by
 intro cs
 induction cs with
 |
  nil=>
  intro cvs b r e
  cases r
  cases e;rfl
 |
  cons c cs ih=>
  intro cvs b r e
  cases r with
  |
   cons r rr=>
   unfold fb at e
   unfold W.kitAny
   cases q:kit kt t c with
   |none=>rw[q] at e;cases e
   |
    some z=>
    rw[q] at e
    rw[ok.one _ (mL q) _ _ ht r]
    cases z with
    |true=>exact e
    |false=>exact ih rr e
def yN:CallR X (.builtin "isinstance") (λxs H Q=>∃x tp cs t vs b,xs=[x,.ref tp]/\SqT X.K H tp cs/\TyX X.K H x t/\cs.mapM eJ=some vs/\W.kitAny X.K t vs=some b/\Q (.bl b) H):=by
 intro pins s σ H xs us Q I r h
 obtain⟨x,tp,cs,t,vs,b,rfl,ht,ty,hc,hk,q⟩:=h
 obtain⟨u,w',rfl,rx,rc⟩:=pC r
 cases rc
 obtain⟨its,rv,⟨o,e,c,n,d⟩,_⟩:=I.tuple ht
 obtain rfl:=oC hc rv
 obtain⟨Hh,Z,p,hne⟩:=tZ I rx ty
 obtain⟨oc,od,odt,osl⟩:=o
 have c':oc=.type "tuple":=c
 have d':odt=.seq its.toArray n:=d
 subst c' d'
 exact W.kia_tup Z I.kIn p e hk hne λtk=>⟨.bl b,H,I.tok _,rfl,q⟩
def Lx(hK:X.K=K):CallR X (.builtin "isinstance") (λxs H Q=>(∃x c t v b,xs=[x,c]/\TyX K H x t/\eJ c=some v/\W.kitOne K t v=some b/\Q (.bl b) H)\/
 (∃x tp cs t vs b,xs=[x,.ref tp]/\SqT K H tp cs/\TyX K H x t/\cs.mapM eJ=some vs/\W.kitAny K t vs=some b/\Q (.bl b) H)):=by subst hK;exact Cw.or yN
def HK(ok:KitsOk K mg kt):aM K mg (λxs H Q=>(∃x c t v b,xs=[x,c]/\TyX K H x t/\eJ c=some v/\W.kitOne K t v=some b/\Q (.bl b) H)\/
 (∃x tp cs t vs b,xs=[x,.ref tp]/\SqT K H tp cs/\TyX K H x t/\cs.mapM eJ=some vs/\W.kitAny K t vs=some b/\Q (.bl b) H)) (sP kt):=λρ h H ds vs Q E w rs p=>by
 unfold sP at p
 split at p
 ·cases
   rs with
  |
   cons r rs=>
   cases rs with
   |
    cons r2 rs=>
    cases rs
    split at p
    ·rename_i t e1
     split at p
     ·split
       at p
      ·rename_i cs c0 cr e2
       split at p
       ·rename_i b b' e3 e4
        cases r2 with
        |
         tup q rs2=>
         obtain⟨tv,h1,h2⟩:=uv ok w r e1 e4
         obtain⟨cvs,h3,h4⟩:=As rs2 e2
         exact .inr ⟨_,_,_,tv,cvs,b,rfl,q,h1,h3,xV ok h2 h4 e3,ax w (.bl _) p⟩
       ·exact p.elim
      ·exact p.elim
     ·split at p
      ·rename_i cl e2
       split at p
       ·rename_i b e3
        obtain⟨tv,h1,h2⟩:=uv ok w r e1 e3
        obtain⟨cv,h3,h4⟩:=uZ r2 e2
        exact .inl ⟨_,_,tv,cv,b,rfl,h1,h3,ok.one _ (mL e3) _ _ h2 h4,ax w (.bl _) p⟩
       ·exact p.elim
      ·exact p.elim
    ·exact p.elim
 ·exact p.elim
end
def MtD(K:W.Frag)(mg:Ra)(r:V->List V->Hp->VK->Prop)(g:D->List D->AH->R D):Prop:=∀ρ h H dx ds x vs Q E,Wd K mg ρ h H->RelD K mg ρ H dx x->RelDs K mg ρ H ds vs->cA K mg ρ H Q E (g dx ds h)->r x vs H Q
def iR(h:AH):D->Bool
 |.ref n=>(aB h n).isSome
 |_=>false
noncomputable def eM(g:D->List D->AH->R D)(F:ME)(A:MA):ME:=λae h=>(F ae h).bind λx h1=>if iR h1 x=true then (A ae h1).bind λds h2=>g x ds h2 else .stuck
def eM0(g:D->List D->AH->R D)(F:ME):ME:=λae h=>(F ae h).bind λx h1=>if iR h1 x=true then g x [] h1 else .stuck
section
variable{K:W.Frag}{mg:Ra}{X:Cx}{ES:St->XK}{o e:Expr}{es:List Expr}{F G:ME}{A:MA}{pos:Pos}
def n8(w:Wd K mg ρ h H)(r:RelD K mg ρ H d v)(q:iR h d=true):tyV K "list" v H:=by
 cases r with
 |
  ref ea=>
  obtain⟨xs,e⟩:=O1.mp q
  obtain⟨vs,h1,_⟩:=aP w ea e
  exact .inl ⟨rfl,vs,h1⟩
 |_=>cases q
def de_m{name:Str}{id:String}{apos cpos:Pos}{r:V->List V->Hp->VK->Prop}{g:D->List D->AH->R D}(hK:X.K=K)(slot:Slot "list" name id)(hty:typeOf (.builtin id)=pure (.type "method_descriptor"))(hm:MtM X id r)(hd:MtD K mg r g)(ho:DE K mg X ES o F)(ha:DA K mg X ES (e::es) A)
 (db:attributeBase o name X.env (eval o X.env)=eval o X.env)
 (hfew:((backTo cpos (starEach (e::es) X.env)).all (λx=>!x.1)&&(backToKw cpos (keywordEach [] X.env)).all (λx=>x.1.isSome)
  && decide ((e::es).length+([]:List Keyword).length+(if ([]:List Keyword).isEmpty then 0 else 1)<30))=true)
 (e_:(apos.endLine==cpos.line)=true) (hs:starEach (e::es) X.env=(false,eval e X.env)::starEach es X.env) (ci:(backTo cpos (starEach es X.env)).any (·.1)=false):
 DE K mg X ES (.Call (.Attribute o name apos) (e::es) [] cpos) (eM g F A):=by
 subst hK
 refine PE.imp (C0 PySem.F.plainAttrs_list slot hty hm ho ha db hfew e_ hs ci) λσ H Q q_=>q_.el λρ h ae w re p=>⟨ρ,h,ae,w,re,p.bind.imp λdx h1 ρ1 H1 l1 w1 p1 x rx=>?_⟩
 split at p1
 ·rename_i hl
  exact⟨n8 w1 rx hl,ρ1,h1,ae,w1,re.mono l1,p1.bind.imp λds h2 ρ2 H2 l2 w2 p2 vs rs=>hd ρ2 h2 H2 dx ds x vs Q _ w2 (rx.mono l2) rs p2⟩
 ·exact p1.elim
def M7{name:Str}{id:String}{apos cpos:Pos}{r:V->List V->Hp->VK->Prop}{g:D->List D->AH->R D}(hK:X.K=K)(slot:Slot "list" name id)(hty:typeOf (.builtin id)=pure (.type "method_descriptor"))(hm:MtM X id r)(hd:MtD K mg r g)(ho:DE K mg X ES o F)
 (db:attributeBase o name X.env (eval o X.env)=eval o X.env) (e_:(apos.endLine==cpos.line)=true):DE K mg X ES (.Call (.Attribute o name apos) [] [] cpos) (eM0 g F):=by
 subst hK
 refine PE.imp (K7 PySem.F.plainAttrs_list slot hty hm ho db e_) λσ H Q q_=>q_.el λρ h ae w re p=>⟨ρ,h,ae,w,re,p.bind.imp λdx h1 ρ1 H1 l1 w1 p1 x rx=>?_⟩
 split at p1
 ·rename_i hl
  exact⟨n8 w1 rx hl,hd ρ1 h1 H1 dx [] x [] Q _ w1 rx .nil p1⟩
 ·exact p1.elim
end
noncomputable def iQ(h:AH)(d:D)(f:Nat->List D->R D):R D:=match d with
 |.ref n=>match h[n]? with
  |some (.lst xs)=>f n xs
  |_=>.stuck
 |_=>.stuck
noncomputable def jM:D->List D->AH->R D:=λx ds h=>iQ h x λn xs=>match ds with
 | [d]=>if xs.length<16777216 then .ok .non (h.set n (.lst (xs++[d]))) else .stuck
 |_=>.stuck
noncomputable def vk:D->List D->AH->R D:=λx ds h=>iQ h x λn xs=>match ds with
 | []=>match xs[xs.length-1]? with
  |some d=>.ok d (h.set n (.lst xs.dropLast))
  |none=>.stuck
 |_=>.stuck
noncomputable def fU(h:AH)(d:D):List D->Option (List Bool)
 | []=>some []
 |x::r=>match jr h x d,fU h d r with
  |some b,some bs=>some (b::bs)
  |_,_=>none
noncomputable def jw:D->List D->AH->R D:=λx ds h=>match x,ds with
 |.ref n,[d]=>match (aB h n).bind (fU h d) with
  |some bs=>if bs.idxOf true<bs.length then .ok (.int (bs.idxOf true:Nat)) h else .stuck
  |none=>.stuck
 |_,_=>.stuck
section
variable{K:W.Frag}{mg:Ra}{X:Cx}{ρ:List Addr}{H:Hp}{h:AH}
def jv(w:Wd K mg ρ h H)(r:RelD K mg ρ H d v)(p:cA K mg ρ H Q E (iQ h d f)):
 ∃n xs a vs,d=.ref n/\h[n]?=some (.lst xs)/\ρ[n]?=some a/\v=.ref a/\H a=some (.lst vs)/\RelDs K mg ρ H xs vs/\cA K mg ρ H Q E (f n xs):=by
 unfold iQ at p
 split at p
 ·cases r with
  |
   ref ea=>
   split at p
   ·rename_i n xs e
    obtain⟨vs,h1,h2⟩:=w.ob _ _ _ ea e
    exact⟨_,_,_,vs,rfl,e,ea,rfl,h1,h2,p⟩
   ·exact p.elim
 ·exact p.elim
def kZ(w:Wd K mg ρ h H)(ea:ρ[n]?=some a)(e:H a=some (.lst vs))(rs:RelDs K mg ρ H ys ws)(rd:RelD K mg ρ H d v)(p:cA K mg ρ H Q E (.ok d (h.set n (.lst ys)))):Q v (upd H a (.lst ws)):=by
 have l:Le ρ H ρ (upd H a (.lst ws)):=jI e ph
 exact p ρ _ l (w.write ea e ph ⟨ws,aR,rs.mono l⟩) v (rd.mono l)
def zy:MtD K mg nA jM:=λρ h H dx ds x vs Q E w rx rs p=>by
 obtain⟨n,xs,a,us,rfl,e,ea,rfl,h1,h2,p⟩:=jv w rx p
 split at p
 ·cases rs with
  |
   cons r rs=>
   cases rs
   split at p
   ·rename_i hl
    exact⟨a,us,_,rfl,rfl,h1,by rw[<- h2.len];exact hl,kZ w ea h1 (h2.append (.cons r .nil)) .non p⟩
   ·exact p.elim
 ·exact p.elim
def Ig:MtD K mg zT vk:=λρ h H dx ds x vs Q E w rx rs p=>by
 obtain⟨n,xs,a,us,rfl,e,ea,rfl,h1,h2,p⟩:=jv w rx p
 split at p
 ·cases rs
  split at p
  ·rename_i d ed
   obtain⟨v,ev,rv⟩:=h2.getD ed
   rw[h2.len] at ev
   refine⟨a,us,v,rfl,rfl,h1,ev,kZ w ea h1 ?_ rv p⟩
   rw[P1,P1,h2.len]
   exact h2.take _
  ·exact p.elim
 ·exact p.elim
inductive EqsR(K:W.Frag)(H:Hp)(y:V)(pd:PyData):List V->List Bool->Prop where
 |nil:EqsR K H y pd [] []
 |cons {x:V}{px:PyData}{xs:List V}{bs:List Bool} (rx:Rep K H x px) (hx:shp px=true) (r:EqsR K H y pd xs bs):EqsR K H y pd (x::xs) (PyData.eqv px pd::bs)
def rEqs(K:W.Frag)(H:Hp)(l:Addr)(y:V)(bs:List Bool):Prop:=∃xs pd,SqL K H l xs/\Rep K H y pd/\shp pd=true/\EqsR K H y pd xs bs
def Ea(w:Wd K mg ρ h H)(ry:RelD K mg ρ H d y)(es:cW 164 h d=some pd):∀{xs:List D}{vs:List V}{bs:List Bool},RelDs K mg ρ H xs vs->fU h d xs=some bs->EqsR K H y pd vs bs:=by
 intro xs
 induction xs with
 |
  nil=>
  intro vs bs r e
  cases r
  have e':some ([]:List Bool)=some bs:=e
  cases e';exact .nil
 |
  cons x xs ih=>
  intro vs bs r e
  cases r with
  |
   cons r rr=>
   unfold fU at e
   split at e
   ·rename_i b bs' e1 e2
    cases e
    unfold jr at e1
    rw[es] at e1
    split at e1
    ·rename_i a c e3 e4
     cases e4
     split at e1
     ·rename_i hs
      cases e1
      exact .cons (fq w 164 r e3) hs.1 (ih rr e2)
     ·cases e1
    ·cases e1
   ·cases e
theorem zX:∀{xs:List D}{bs:List Bool},fU h d xs=some bs->xs=[]\/∃pd,cW 164 h d=some pd/\shp pd=true
 | [],_,_=>.inl rfl
 |
  x::xs,bs,e=>by
  right
  unfold fU at e
  split at e
  ·rename_i b bs' e1 e2
   unfold jr at e1
   split at e1
   ·rename_i a c e3 e4
    split at e1
    ·rename_i hs;exact⟨c,e4,hs.2⟩
    ·cases e1
   ·cases e1
  ·cases e
def Cv(I:Inv X pins σ H s)(hu:X.A.units+190<cLine)(ry:Rep X.K H y pd)(rv:RelV y v)(hy:shp pd=true):∃e:Value->Bool,∀{xs:List V}{bs:List Bool}{its:List Value},EqsR X.K H y pd xs bs->Vals xs its->its.map e=bs/\∀u∈its,SeqAt.EqAt X.A.in1 s u v (e u):=by
 classical
 obtain⟨as,q1⟩:=ry.reads I rv
 refine⟨λu=>if q:∃d as,Reads s.heap u d as/\shp d=true then PyData.eqv q.choose pd else false,λ{xs bs its} r rr=>?_⟩
 induction r generalizing its with
 |nil=>cases rr;exact⟨rfl,λu hu=>nomatch hu⟩
 |
  cons rx hx r ih=>
  rename_i x px xs bs
  cases rr with
  |
   cons r1 rr=>
   rename_i u us
   obtain⟨ih1,ih2⟩:=ih rr
   obtain⟨as1,q2⟩:=rx.reads I r1
   have hq:∃d as,Reads s.heap u d as/\shp d=true:=⟨px,as1,q2,hx⟩
   have e1:(if q:∃d as,Reads s.heap u d as/\shp d=true then PyData.eqv q.choose pd else false)=PyData.eqv px pd:=by
    rw[dif_pos hq]
    obtain⟨as2,q3,hs3⟩:=hq.choose_spec
    have:=SeqAt.Reads.unique px hq.choose u _ _ (fk hx) q2 q3
    rw[<- this]
   refine⟨by rw[v_,ih1,e1],λw hw=>?_⟩
   rcases I_.mp hw with rfl |hw
   ·dsimp only
    rw[e1]
    exact SeqAt.eqAt_reads px pd X.A.in1 s _ _ _ _ q2 q1 (fk hx) (fk hy) (kQ hx (by
     have:X.A.in1.units=X.A.units+1:=rfl
     rw[this];omega))
   ·exact ih2 w hw
def jT(K:W.Frag):V->List V->Hp->VK->Prop:=λx vs H Q=>∃l y bs,x=.ref l/\vs=[y]/\rEqs K H l y bs/\bs.idxOf true<bs.length/\Q (.int (bs.idxOf true:Nat)) H
def EqsR.len(r:EqsR K H y pd xs bs):xs.length=bs.length:=by
 induction r with
 |nil=>rfl
 |cons _ _ _ ih=>rw[A_,A_,ih]
def A6(hu:X.A.units+190<cLine):MtM X "list.index" (jT X.K):=by
 intro pins s σ H x vs v us Q I rx rv h
 obtain⟨l,y,bs,rfl,rfl,⟨xs,pd,hq,ry,hy,re⟩,hi,q⟩:=h
 cases rx
 obtain⟨u,rfl,ru⟩:=rv.one
 obtain⟨e,he⟩:=Cv I hu ry ru hy
 obtain⟨its,r,⟨o,n,eo,hc,hd,hs⟩,hz⟩:=I.list hq
 obtain⟨m1,m2⟩:=he re r
 have be:=r.length
 have hbl:=re.len
 have hn:=gf
 have hj:bs.idxOf true<its.toArray.size:=by rw[t_];omega
 have eo':s.heap.get? l=some { cls:=.type "list",dict:=o.dict,data:=.seq its.toArray n,slots:=o.slots }:=by
  rw[eo]
  obtain⟨oc,od,odt,osl⟩:=o
  have h1:oc=.type "list":=hc
  have h2:odt=.seq its.toArray n:=hs
  subst h1 h2
  rfl
 have em:∀(m:Nat) (hm:m<its.toArray.size),bs[m]?=some (e its.toArray[m]):=λm hm=>by
  rw[<- m1,L_]
  have:its[m]?=some its.toArray[m]:=by
   rw[x_ (by simpa using hm)]
   rfl
  rw[this];rfl
 refine call_meets PySem.F.slot_list_index ⟨_,eo',rfl⟩ PySem.F.entry_list_index (PySem.F.args_list_index_2 _ _)
  (SeqAt.list_indexAt l its.toArray n o.dict o.slots u e (bs.idxOf true) hj (by omega) ?_ ?_) ⟨eo',λw hw=>m2 w (by simpa using hw),?_⟩
 ·have:=em _ hj
  rw[x_ hi,List.getElem_idxOf] at this
  exact (H_ this).symm
 ·intro m
   hm hlt
  have:=em m hm
  have hb:m<bs.length:=by omega
  rw[x_ hb] at this
  have h3
   : bs[m]≠true:=λz=>by
   have h4:bs.idxOf true<=m:=by
    have:=List.idxOf_lt_length_iff (l:=bs) (a:=true)
    rcases Nat.lt_or_ge m (bs.idxOf true) with z' |z'
    ·exact absurd z (by
      have h5:=List.not_of_lt_findIdx (xs:=bs) (p:=(· == true)) (i:=m) z'
      simpa using h5)
    ·exact z'
   omega
  have h4:e its.toArray[m]=bs[m]:=(H_ this).symm
  rw[h4]
  exact Bool.eq_false_iff.mpr h3
 ·exact⟨.int _,H,I.tok _,⟨_,rfl⟩,q⟩
def AU:MtD K mg (jT K) jw:=λρ h H dx ds x vs Q E w rx rs p=>by
 unfold jw at p
 split at p
 ·cases
   rx with
  |
   ref ea=>
   cases rs with
   |
    cons r rs=>
    cases rs
    split at p
    ·rename_i bs e
     split at p
     ·rename_i hl
      obtain⟨xs,q,e2⟩:=Ou.mp e
      obtain⟨vs,h1,h2⟩:=aP w ea q
      rcases zX e2 with rfl |⟨pd,h3,h4⟩
      ·have e3:some ([]:List Bool)=some bs:=e2
       cases e3
       exact absurd hl (by simp)
      ·exact⟨_,_,bs,rfl,rfl,⟨vs,pd,h1,fq w 164 r h3,h4,Ea w r h3 h2 e2⟩,hl,ax w (.int _) p⟩
     ·exact p.elim
    ·exact p.elim
 ·exact p.elim
def JX(h:X.K=K)(hu:X.A.units+190<cLine):MtM X "list.index" (jT K):=by subst h;exact A6 hu
def Room.u100(r:Room k A):A.units+190<cLine:=by have:=r.un;omega
end
noncomputable def wL(o i v:D)(h:AH):R Unit:=match o,i with
 |.ref n,.int k=>match h[n]? with
  |some (.lst xs)=>match ixN xs.length k with
   |some j=>.ok () (h.set n (.lst (xs.set j v)))
   |none=>.stuck
  |_=>.stuck
 |_,_=>.stuck
section
variable{K:W.Frag}{mg:Ra}{X:Cx}{ES:St->XK}{o i:Expr}{F G:ME}{pos:Pos}
def FD:mV K mg vT wL:=λρ h H do_ di dv o i v Q E w ro ri rv p=>by
 unfold wL at p
 split at p
 ·cases
   ro with
  |
   ref ea=>
   cases ri
   split at p
   ·rename_i n k xs e
    split at p
    ·rename_i j ej
     obtain⟨vs,h1,h2⟩:=w.ob _ _ _ ea e
     have l:Le ρ H ρ (upd H _ (.lst (vs.set j v))):=jI h1 ph
     exact⟨_,vs,_,j,rfl,rfl,h1,by rw[<- h2.len];exact ej,p ρ _ l (w.write ea h1 ph ⟨_,aR,(h2.set rv j).mono l⟩)⟩
    ·exact p.elim
   ·exact p.elim
 ·exact p.elim
def HW(ho:DE K mg X ES o F)(hi:DE K mg X ES i G)(hs:qE X t)(hd:mV K mg t f)
 (ha:∀v,assign (.Subscript o i pos) X.env v=(do
  let ov <- holding [v] (eval o X.env)
  let iv <- holding [v,ov] (eval i X.env)
  standAt pos
  holding [v,ov,iv] (setItem ov iv v)
  release [v,ov,iv] [])):DG K mg X ES (.Subscript o i pos) (gS F G f):=
 PG.imp (IW ho hi hs ha) λv σ H Q q_=>q_.el λρ h ae d w re rd p=>
  ⟨ρ,h,ae,w,re,p.bind.imp λdo_ h1 ρ1 H1 l1 w1 p1 o' ro=>⟨ρ1,h1,ae,w1,re.mono l1,p1.bind.imp λdi h2 ρ2 H2 l2 w2 p2 i' ri=>
   hd ρ2 h2 H2 do_ di d o' i' v _ _ w2 (ro.mono l2) ri ((rd.mono l1).mono l2) (p2.bind.imp λ_ h3 ρ3 H3 l3 w3 p3=>p3 ρ3 H3 Le.refl w3 σ (((re.mono l1).mono l2).mono l3))⟩⟩
end
noncomputable def cutD(xs:List D)(lo hi:Option Int):List D:=(xs.drop (HT.sIx xs.length 0 lo)).take (HT.sIx xs.length xs.length hi-HT.sIx xs.length 0 lo)
abbrev MO:=AE->AH->R (Option Int)
def vb:MO:=λ_ h=>.ok none h
noncomputable def va(F:ME):MO:=λae h=>(F ae h).bind λd h1=>match d with
 |.int i=>.ok (some i) h1
 |_=>.stuck
noncomputable def gSl(x:D)(lo hi:Option Int)(h:AH):R D:=match x with
 |.tup xs=>if HT.sIx xs.length 0 lo=0/\HT.sIx xs.length xs.length hi=xs.length then .stuck else .ok (.tup (cutD xs lo hi)) h
 |.ref n=>match aB h n with
  |some xs=>.ok (.ref h.length) (h++[.lst (cutD xs lo hi)])
  |none=>.stuck
 |.kl xs=>.ok (.ref h.length) (h++[.lst (cutD xs lo hi)])
 |_=>.stuck
noncomputable def eSl(F:ME)(L U:MO):ME:=λae h=>(F ae h).bind λx h1=>(L ae h1).bind λlo h2=>(U ae h2).bind λhi h3=>gSl x lo hi h3
section
variable{K:W.Frag}{mg:Ra}{X:Cx}{ES:St->XK}{e:Expr}{F:ME}{L U:MO}{lo hi:Option Expr}{pos p2:Pos}
def rdO(K:W.Frag)(mg:Ra)(ES:St->XK)(F:MO):TO:=λσ H Q=>∃ρ h ae,Wd K mg ρ h H/\RelE K mg ρ H ae σ/\PostG K mg ρ H (ES σ) (λo _ ρ' H'=>Q o H') (F ae h)
def DO(K:W.Frag)(mg:Ra)(X:Cx)(ES:St->XK)(e:Option Expr)(F:MO):Prop:=PO X e (rdO K mg ES F)
def EM:DO K mg X ES none vb:=PO.imp DQ λσ H Q ⟨ρ,h,ae,w,re,p⟩=>p ρ H Le.refl w
def D7(he:DE K mg X ES e F):DO K mg X ES (some e) (va F):=PO.imp (Fb he) λσ H Q ⟨ρ,h,ae,w,re,p⟩=>⟨ρ,h,ae,w,re,p.bind.imp λd h1 ρ1 H1 l1 w1 p1 v rv=>by
 split at p1
 ·cases rv;exact⟨_,rfl,p1 ρ1 H1 Le.refl w1⟩
 ·exact p1.elim⟩
def nD(r:RelDs K mg ρ H xs vs)(lo hi:Option Int):RelDs K mg ρ H (cutD xs lo hi) (jq vs lo hi):=by
 unfold cutD jq
 rw[<- r.len]
 exact (r.drop _).take _
def slK(h:X.K=K):SlR X (λx lo hi H Q=>rSlL K x lo hi H Q\/rSlT K x lo hi H Q):=by subst h;exact Fw.or Ge
def Bi(hK:X.K=K)(he:DE K mg X ES e F)(hl:DO K mg X ES lo L)(hu:DO K mg X ES hi U):DE K mg X ES (.Subscript e (.Slice lo hi none p2) pos) (eSl F L U):=
 PE.imp (
  Bs (slK hK) he hl hu) λσ H Q q_=>q_.el λρ h ae w re p=>⟨ρ,h,ae,w,re,p.bind.imp λd h1 ρ1 H1 l1 w1 p1 x rx=>⟨ρ1,h1,ae,w1,re.mono l1,p1.bind.imp λlo h2 ρ2 H2 l2 w2 p2=>⟨ρ2,h2,ae,w2,(re.mono l1).mono l2,p2.bind.imp λhi h3 ρ3 H3 l3 w3 p3=>by
  have rx3:=(rx.mono l2).mono l3
  unfold gSl at p3
  split at p3
  ·split at p3
   ·exact p3.elim
   ·rename_i hn
    cases rx3 with
    |tup q rs=>exact .inr ⟨_,_,rfl,q,by rw[<- rs.len];exact hn,λl hl=>lC w3 (nD rs lo hi) hl p3⟩
  ·split at p3
   ·rename_i xs e1
    cases rx3 with
    |
     ref ea=>
     obtain⟨vs,q,rs⟩:=aP w3 ea e1
     exact .inl ⟨_,_,rfl,q,λl hl=>cM w3 (nD rs lo hi) hl p3⟩
   ·exact p3.elim
  ·cases rx3 with
   |kl q rs=>exact .inl ⟨_,_,rfl,.inr q,λl hl=>cM w3 (nD rs lo hi) hl p3⟩
  ·exact p3.elim⟩⟩⟩
end
noncomputable def pM(d:D)(h:AH):R Bool:=match d with
 |.non=>.ok false h
 |.bl b=>.ok b h
 |.int i=>.ok (i != 0) h
 |d=>match cR h d with
  |some xs=>.ok (!xs.isEmpty) h
  |none=>.stuck
def tTr(F:ME):MT:=λae h=>(F ae h).bind pM
section
variable{K:W.Frag}{mg:Ra}{X:Cx}{ES:St->XK}{a:Expr}{F:ME}
def BC(hK:X.K=K)(ha:DE K mg X ES a F)(he:∀c_,isTrue a X.env c_=(do let v <- c_;standAt a.pos;holding [v] (truthy v))):DT K mg X ES a (tTr F):=by
 subst hK
 refine PT.imp (BU ha he) λσ H Q q_=>q_.el λρ h ae w re p=>⟨ρ,h,ae,w,re,p.bind.imp λd h1 ρ1 H1 l1 w1 p1 x rx=>?_⟩
 have items:∀{xs:List D},cR h1 d=some xs->Q (!xs.isEmpty) H1->∃k,BB X.K x H1 k/\Q k H1:=λ{xs} e q=>by
  obtain⟨pa,vs,rfl,hq,rs⟩:=dS w1 rx e
  have ee:xs.isEmpty=vs.isEmpty:=by cases rs <;> rfl
  rw[ee] at q
  rcases hq with hq |hq
  ·exact⟨_,.inl ⟨vs,hq,rfl⟩,q⟩
  ·exact⟨_,.inr (.inl ⟨vs,hq,rfl⟩),q⟩
 unfold pM at p1
 split at p1
 ·cases rx;exact⟨_,rfl,p1 ρ1 H1 Le.refl w1⟩
 ·cases rx;exact⟨_,rfl,p1 ρ1 H1 Le.refl w1⟩
 ·cases rx;exact⟨_,rfl,p1 ρ1 H1 Le.refl w1⟩
 ·split at p1
  ·rename_i xs e1;exact items e1 (p1 ρ1 H1 Le.refl w1)
  ·exact p1.elim
end
section
variable{X:Cx}{pins pins2 pn:Rb}{σ:St}{H:Hp}{s:Shared}{xe:Rf}
end
section
variable{K:W.Frag}{mg:Ra}{X:Cx}{ES:St->XK}{x n:Str}{C:Addr}{i:Nat}{body suite:List Stmt}{b₀:Stmt}{B U:MS}{np hpos pos:Pos}{mro:List Str}
end
structure Script(h:AH)(d:D)(ns:List Int):Prop where
 form:(∃n,d=.ref n/\h[n]?=some (.fz (ns.map D.int)))\/d=.kl (ns.map D.int)
theorem i6{K:W.Frag}{mg:Ra}{ρ:List Addr}{H:Hp}:∀(ns:List Int),RelDs K mg ρ H (ns.map D.int) (ns.map V.int)
 | []=>.nil
 |_::r=>.cons (.int _) (i6 r)
section
variable{K:W.Frag}{mg:Ra}{ρ ρ1 ρ2:List Addr}{H H1:Hp}{h:AH}
end
section
variable{K:W.Frag}{mg:Ra}{ρ:List Addr}{H:Hp}{h:AH}
end
noncomputable def wQ:D->D->AH->R D:=gOr (gI λi j=>.int (i+j)) kI
def AW:D->D->AH->R D:=gI λi j=>.int (i-j)
def CMulA(i j:Int):Prop:=Dp i j\/CMul i j
def AY:D->D->AH->R D:=gIc CMulA λi j=>.int (i*j)
def Ak:D->D->AH->R D:=gIc CDivB λi j=>.int (i.fdiv j)
def Bq:D->D->AH->R D:=gIc (λ_ j=>j≠0) λi j=>.int (i.fmod j)
def An:D->D->AH->R D:=gIc fK λi j=>.int (i^j.toNat)
def Bt:D->D->AH->R D:=gIc fK λi j=>.int (i*2^j.toNat)
def gLt:D->D->AH->R D:=gI λi j=>.bl (decide (i<j))
def gGt:D->D->AH->R D:=gI λi j=>.bl (decide (j<i))
def gGe:D->D->AH->R D:=gI λi j=>.bl (decide (j<=i))
noncomputable def xn:D->AH->R D:=λx h=>match x with
 |.int i=>.ok (.int (-i)) h
 |_=>.stuck
noncomputable def pj(n:Nat)(S:Fn)(A:MA):ME:=eFn (λds h=>if ds.length=n then S ds h else .stuck) A
section
variable{K:W.Frag}{mg:Ra}{X:Cx}
def HG(h:X.K=K):OpR X (binaryOp .Add) (λx y H Q=>rI0 (λi j=>.int (i+j)) x y H Q\/(nE x y H Q\/(jL K x y H Q\/jX K x y H Q))):=Iq.or (catK h)
def Ju:OpD K mg (λx y H Q=>rI0 (λi j=>.int (i+j)) x y H Q\/(nE x y H Q\/(jL K x y H Q\/jX K x y H Q))) wQ:=(jE λ_ _ _ _=>.int _).or D2
def KL:OpD K mg (rI0 λi j=>.int (i-j)) AW:=jE λ_ _ _ _=>.int _
def GH:OpR X (binaryOp .Mult) (rI CMulA λi j=>.int (i*j)):=by
 intro pins s σ H x y v u Q I rx ry h
 obtain⟨i,j,e1,e2,hc,q⟩:=h
 rcases hc with hc |hc
 ·exact Ex pins s σ H x y v u Q I rx ry ⟨i,j,e1,e2,hc,q⟩
 ·exact KR pins s σ H x y v u Q I rx ry ⟨i,j,e1,e2,hc,q⟩
def GF:OpD K mg (rI CMulA λi j=>.int (i*j)) AY:=l6 λ_ _ _ _=>.int _
def JT:OpD K mg (rI CDivB λi j=>.int (i.fdiv j)) Ak:=l6 λ_ _ _ _=>.int _
def Ie:OpD K mg (rI (λ_ j=>j≠0) λi j=>.int (i.fmod j)) Bq:=l6 λ_ _ _ _=>.int _
def K2:OpD K mg (rI fK λi j=>.int (i^j.toNat)) An:=l6 λ_ _ _ _=>.int _
def HC:OpD K mg (rI fK λi j=>.int (i*2^j.toNat)) Bt:=l6 λ_ _ _ _=>.int _
def Ly:OpD K mg (rI0 λi j=>.bl (decide (i<j))) gLt:=jE λ_ _ _ _=>.bl _
def N6:OpD K mg (rI0 λi j=>.bl (decide (j<i))) gGt:=jE λ_ _ _ _=>.bl _
def Lw:OpD K mg (rI0 λi j=>.bl (decide (j<=i))) gGe:=jE λ_ _ _ _=>.bl _
def K9:UnD K mg (rU λi=>.int (-i)) xn:=λρ h H dx x Q E w rx p=>by
 unfold xn at p
 split at p
 ·cases rx;exact⟨_,rfl,ax w (.int _) p⟩
 ·exact p.elim
def Ey:IpD K mg (ipI λi j=>i+j) (gI λi j=>.int (i+j)):=λρ h H dx dy x y Q E w rx ry p=>by
 unfold gI at p
 split at p
 ·cases rx;cases ry;exact⟨_,_,rfl,rfl,ax w (.int _) p⟩
 ·exact p.elim
variable{ES:St->XK}{e:Expr}{es:List Expr}{A:MA}{pos:Pos}
def Ba(C:Callee X.prog X.w X.K X.mg X.base x k ps (spD K mg n S))(hr:Room k X.A)(hg:Gl X x)(hx:gC X ES)(ha:DA K mg X ES (e::es) A)
 (hdb:(x==("__debug__" : Str))=false) (he:starEach (e::es) X.env=(false,eval e X.env)::starEach es X.env) (hpl:(backTo pos (starEach es X.env)).any (·.1)=false):
 DE K mg X ES (.Call (.Name x p) (e::es) [] pos) (pj n S A):=EB C hr hg hx ha hdb he hpl
end
section
variable{ae:AE}{h:AH}
@[simp] theorem fh(a:α)(h:AH)(f:α->AH->R β):(R.ok a h).bind f=f a h:=rfl
end
def gE(h1:pd.canLay0=true)(h2:pd.depth<=160):shp pd=true:=by
 unfold shp
 rw[h1,J_ h2];rfl
def Sm(n:Nat)(x:Int):Prop:=x.natAbs<2^n
def Sm.mono(h:Sm n x)(l:n<=m):Sm m x:=F_ h (O5 (by omega) l)
def Sm.mul(h:Sm n x)(k:Sm m y):Sm (n+m) (x*y):=by
 unfold Sm at *
 rw[OX,Pm]
 exact Nat.mul_lt_mul'' h k
def Sm.bits(h:Sm n x):Builtin.Int.intBits x<=n:=intBits_le_iff.mpr h
def Sm.of_le(h:Sm n y)(l:x.natAbs<=y.natAbs):Sm n x:=Pb l h
def CMulA.of(h:Sm n x)(k:Sm m y)(hn:n<=100000)(hm:m<=100000):CMulA x y:=.inl ⟨E_ h.bits hn,E_ k.bits hm⟩
def CMulA.left(h:-(2^64)<x)(k:x<2^64):CMulA x y:=.inr (.inl ⟨h,k⟩)
def CMulA.right(h:-(2^64)<y)(k:y<2^64):CMulA x y:=.inr (.inr ⟨h,k⟩)
def CDivB.of(h0:y≠0)(h:Sm 8000 y):CDivB x y:=⟨h0,h.bits⟩
structure Sz(n:Nat)(q:Rat):Prop where
 top:Sm n q.num
 bot:Sm n (q.den:Int)
def zq{a b:Int}(hb:b≠0):((a:Rat)/(b:Rat)).num*b=a*((a:Rat)/(b:Rat)).den:=by
 have h2:=Rat.num_divInt_den ((a:Rat)/(b:Rat))
 have h3:Rat.divInt ((a:Rat)/(b:Rat)).num (((a:Rat)/(b:Rat)).den:Int)=Rat.divInt a b:=by rw[h2,Rat.divInt_eq_div]
 exact (Rat.divInt_eq_divInt_iff (by have:=((a:Rat)/(b:Rat)).den_nz;omega) hb).mp h3
def uo(q:Rat):Int.gcd q.num q.den=1:=by
 have:=q.reduced
 exact this
def mD(hb:b≠0):Fr.T a b=((a:Rat)/(b:Rat)).num/\Fr.B a b=(((a:Rat)/(b:Rat)).den:Int):=by
 refine Fr.uniq (Fr.B_pos hb) (by have:=((a:Rat)/(b:Rat)).den_pos;omega) (Fr.low hb) (uo _) ?_
 have h1:=Fr.cross (a:=a) hb
 have h2:=zq (a:=a) hb
 generalize ((a:Rat)/(b:Rat)).num=n at *
 generalize (((a:Rat)/(b:Rat)).den:Int)=d at *
 generalize Fr.T a b=x at *
 generalize Fr.B a b=y at *
 have h3:(x*d)*b=(n*y)*b:=by
  calc x*d*b=(x*b)*d:=by rw[Ql]
   _=a*y*d:=by rw[h1]
   _=(a*d)*y:=by rw[Ql]
   _=n*b*y:=by rw[h2]
   _=n*y*b:=by rw[Ql]
 exact Qa hb h3
def wg{a b:Int}(hb:b≠0):((a:Rat)/(b:Rat)).num.natAbs<=a.natAbs:=by
 have h:=(mD (a:=a) hb).1
 rw[<- h]
 have h1:=Fr.T_mul (a:=a) hb
 have h2:=Fr.dv_ne (a:=a) hb
 have h3:(Fr.T a b).natAbs*(Fr.dv a b).natAbs=a.natAbs:=by rw[<- OX,h1]
 have h4:1<=(Fr.dv a b).natAbs:=by omega
 calc (Fr.T a b).natAbs=(Fr.T a b).natAbs*1:=by omega
  _<=(Fr.T a b).natAbs*(Fr.dv a b).natAbs:=O8 _ h4
  _=a.natAbs:=h3
def w6{a b:Int}(hb:b≠0):((((a:Rat)/(b:Rat)).den:Int)).natAbs<=b.natAbs:=by
 have h:=(mD (a:=a) hb).2
 rw[<- h]
 have h1:=Fr.B_mul (a:=a) hb
 have h2:=Fr.dv_ne (a:=a) hb
 have h3:(Fr.B a b).natAbs*(Fr.dv a b).natAbs=b.natAbs:=by rw[<- OX,h1]
 have h4:1<=(Fr.dv a b).natAbs:=by omega
 calc (Fr.B a b).natAbs=(Fr.B a b).natAbs*1:=by omega
  _<=(Fr.B a b).natAbs*(Fr.dv a b).natAbs:=O8 _ h4
  _=b.natAbs:=h3
def Sz.div(hb:b≠0)(ha:Sm n a)(hb':Sm m b)(k:Nat)(h1:n<=k)(h2:m<=k):Sz k ((a:Rat)/(b:Rat)):=
 ⟨(ha.of_le (wg hb)).mono h1,(hb'.of_le (w6 hb)).mono h2⟩
def dZ(q:Rat):(q.den:Int)≠0:=by have:=q.den_nz;omega
def ia(q:Rat):q=(q.num:Rat)/((q.den:Int):Rat):=by
 have:=Rat.num_divInt_den q
 rw[Rat.divInt_eq_div] at this
 exact this.symm
def l9{b:Int}(h:b≠0):(b:Rat)≠0:=by
 intro z
 exact h (by exact_mod_cast z)
def uu(p q:Rat):p+q=((p.num*q.den+q.num*p.den:Int):Rat)/((p.den*q.den:Int):Rat):=by
 have h1:=l9 (dZ p)
 have h2:=l9 (dZ q)
 conv=>lhs;rw[ia p,ia q]
 simp only[Rat.intCast_add,OP]
 grind
def uV(p q:Rat):p*q=((p.num*q.num:Int):Rat)/((p.den*q.den:Int):Rat):=by
 have h1:=l9 (dZ p)
 have h2:=l9 (dZ q)
 conv=>lhs;rw[ia p,ia q]
 simp only[OP]
 grind
def Sz.mul(hp:Sz n p)(hq:Sz m q):Sz (n+m) (p*q):=by
 rw[uV]
 exact Sz.div (by have:=dZ p;have:=dZ q;exact QE ‹_› ‹_›) (hp.top.mul hq.top) (hp.bot.mul hq.bot) _ (by omega) (by omega)
def tR{q:Rat}:0<q.num ↔ 0<q:=by
 have h1:=Rat.num_nonneg (q:=q)
 have h2:=Rat.num_eq_zero (q:=q)
 constructor
 ·intro h
  refine Rat.lt_of_le_of_ne (h1.mp (by omega)) λz=>?_
  have:=h2.mpr z.symm
  omega
 ·intro h
  have h3:=h1.mpr (Rat.le_of_lt h)
  have h4:q.num≠0:=λz=>(Rat.ne_of_lt h) (h2.mp z).symm
  omega
def JO(p q:Rat):p<q ↔ p.num*q.den<q.num*p.den:=Rat.lt_iff p q
section
variable(ae:AE)(h:AH)
end
theorem iA:∀{ws:List Int},(∀w∈ws,0<=w)->0<=ws.sum
 | [],_=>Int.le_refl _
 |
  w::ws,h=>by
  have:=h w (p_ ..)
  have:=iA (ws:=ws) λv hv=>h v (m_ _ hv)
  rw[Oy];omega
def HR{K:W.Frag}{h:Heap}{mg:Ra}{x:Str}{a:Addr}{dd:Option Addr}{its:Array Value}{n:Nat}{sl:Array (Option Value)}{vs:List V}{ds:List D}(X:K.In h)(G:h.Ns mainGlobals mg)(e:W.nsIn K mainGlobals x=some (some (.ref a)))
 (l:K.lookup a=some ⟨.type "tuple",dd,.seq its n,sl⟩) (hs:its.size<=sizeLine) (hv:Vals vs its.toList) (hr:∀ρ H,RelDs K mg ρ H ds vs):GC K mg x (.tup ds):=
 ⟨_,.ref a,W.mg_of X G e,rfl,λρ H=>.tup (.inr ⟨_,its,n,l,rfl,rfl,hs,hv⟩) (hr ρ H)⟩
def Co{P:Program}{w:World}{H:Hp}(h:Heap)(hb:sysModules<h.objs.size):ObjOk P w H (h.push { cls:=.type "dict",data:=.dict #[] }) h.objs.size (.dK []):=
 ⟨N_ _,D_.mpr (Ne.symm (K_ hb)),[],.nil,Heap.DictOf.new h⟩
def Inv.big{X:Cx}{pins:Rb}{σ:St}{H:Hp}{s:Shared}(I:Inv X pins σ H s):sysModules<s.heap.objs.size:=by
 have h:mainGlobals<s.heap.objs.size:=(I.mod.glob.keeps I.bk).lt
 exact QJ (by decide) h
def Kc:TE:=λ_ H Q=>∀p,H p=none->Q (.ref p) (upd H p (.dK []))
noncomputable def eD0:ME:=λ_ h=>.ok (.ref h.length) (h++[.dct []])
section
variable{K:W.Frag}{mg:Ra}{X:Cx}{ES:St->XK}{pos:Pos}
def Bb:PE X (.Dict [] [] pos) Kc:=λpins s σ H Q I h=>
 wpAny_Dict_empty ⟨.ref s.heap.objs.size,_,I.laid (a:=s.heap.objs.size) (o:=.dK []) (t':=s.toks) (λ_ _ q=>n_ _ q) (o_ _) (Co s.heap I.big),rfl,h _ (I.hok.fresh (o_ _))⟩
def Nf:DE K mg X ES (.Dict [] [] pos) eD0:=PE.imp Bb λσ H Q ⟨ρ,h,ae,w,re,q⟩ p hp=>by
 have l:Le ρ H (ρ++[p]) (upd H p (.dK [])):=(bU hp).trans ig
 refine q (ρ++[p]) _ l (w.alloc hp ⟨[],aR,rfl,.nil⟩) _ (.ref ?_)
 rw[<- w.len,Oq (o_ _),PH]
 rfl
end
variable{K:W.Frag}{mg:Ra}
end L2
namespace L2
open PySem PySem.Spec PyProof.Rows
noncomputable def rV(cs:List (Str×Nat×Fn))(F:ME)(A:MA):ME:=λae h=>(F ae h).bind λd h1=>match d with
 |.glb x=>(match cs.lookup x with
  |some c=>pj c.1 c.2 A ae h1
  |none=>.stuck)
 |_=>.stuck
section
variable{K:W.Frag}{mg:Ra}{X:Cx}{ES:St->XK}{e:Expr}{es:List Expr}{A:MA}{pos:Pos}
theorem mF{β:Type}{x:Str}{b:β}:∀{l:List (Str×β)},l.lookup x=some b->(x,b)∈l
 | [],h=>by simp at h
 |
  (y,c)::l,h=>by
  rw[OT] at h
  split at h
  ·rename_i q
   have:=eq_of_beq q
   subst this
   cases h
   exact p_ ..
  ·exact m_ _ (mF h)
def Aj{ef:Expr}{cs:List (Str×Nat×Fn)}{F:ME}
 (hc:∀c∈cs,∃k ps,Callee X.prog X.w X.K X.mg X.base c.1 k ps (spD K mg c.2.1 c.2.2)/\Room k X.A)
 (hf:DE K mg X ES ef F) (hx:gC X ES) (ha:DA K mg X ES (e::es) A) (hm:X.mg=mg)
 (harm:eval (.Call ef (e::es) [] pos) X.env=(do callWith pos (<- eval ef X.env) [] (backTo pos (starEach (e::es) X.env)) (backToKw pos (keywordEach [] X.env))))
 (he:starEach (e::es) X.env=(false,eval e X.env)::starEach es X.env) (hpl:(backTo pos (starEach es X.env)).any (·.1)=false):
 DE K mg X ES (.Call ef (e::es) [] pos) (rV cs F A):=by
 subst hm
 intro pins s σ H Q I hh
 rw[harm]
 refine k_ ?_
 have rd
  : rdE K X.mg ES F σ H (λv H1=>∃x c f,(x,c)∈cs/\v=.ref f/\X.mg x=some (.ref f)/\rdA K X.mg ES A σ H1 (λvs H2=>spD K X.mg c.1 c.2 vs H2 Q (ES σ))):=by
  obtain⟨ρ,h,ae,w,re,p⟩:=hh
  refine⟨ρ,h,ae,w,re,p.bind.imp λd h1 ρ1 H1 l1 w1 p1 v rv=>?_⟩
  split at p1
  ·rename_i x
   split at p1
   ·rename_i c q
    cases rv with
    |
     glb m=>
     refine⟨x,c,_,mF q,rfl,m,ρ1,h1,ae,w1,re.mono l1,p1.bind.imp λds h2 ρ2 H2 l2 w2 p2 vs rs=>?_⟩
     split at p2
     ·rename_i hl
      exact⟨ρ2,h2,ds,w2,rs,hl,p2⟩
     ·exact p2.elim
   ·exact p1.elim
  ·exact p1.elim
 refine OB (hf pins s σ H _ I rd) (λu s1 ⟨v,H1,I1,rv,x,c,f,hmem,ev,m,ra⟩=>?_) λ_ _ z=>z
 subst ev
 obtain rfl:u=Value.ref f:=rv
 obtain⟨k,ps,C,hr⟩:=hc (x,c) hmem
 obtain⟨f',fd,F',m',kp,bb,_⟩:=C.ex
 rw[m] at m'
 cases m'
 refine W.callWith_K (h₀:=X.base) I.ok.mod.kin kp (OB (ha pos pins s1 σ H1 _ I1 ra) (λus s2 ⟨vs,H2,I2,r,q⟩=>⟨I2.kIn,?_⟩) λ_ _ z=>z) he hpl
 have hl:(us++[]).length=ps.length:=by rw[OG,<- r.length];exact F'.len _ _ _ _ q
 refine wpAny_call (QK (F'.run X.A X.stack s2 H2 ⟨us,[]⟩ us vs Q (ES σ) hr I2.env0 (by simpa using bb s2 us I2.kIn hl) r q) λr s' hq=>?_)
 cases r with
 |error ex=>exact hx pins σ H2 s2 ex s' I2 hq
 |
  ok fl=>
  cases fl with
  |ret u=>exact I2.after hq
  |next=>exact False.elim hq
  |brk=>exact False.elim hq
  |cont=>exact False.elim hq
end
section
variable{K:W.Frag}{mg:Ra}{X:Cx}{ES:St->XK}{e a b c o lo hi:Expr}{F G L U:ME}{pos p2:Pos}{ρ:List Addr}{H:Hp}{h:AH}{ae:AE}
def Ap{β:Type}{i:Nat}{E:XK}{k:β->AH->List Addr->Hp->Prop}{f:D->AH->R β}(p:PostG K mg ρ H E k ((ba i ae h).bind f)):∃d,ae[i]?=some (some d)/\PostG K mg ρ H E k (f d h):=by
 unfold ba at p
 split at p
 ·exact⟨_,by assumption,p⟩
 ·exact p.elim
end
section
variable{κ:Type}[DecidableEq κ]
noncomputable def ff(kvs:List (κ×V))(k:κ):Option V:=(kvs.find? λkv=>decide (kv.1=k)).map (·.2)
noncomputable def d8(kvs:List (κ×V))(k:κ)(v:V):List (κ×V):=
 if (kvs.any λkv=>decide (kv.1=k))=true then kvs.map (λkv=>if kv.1=k then (kv.1,v) else kv) else kvs++[(k,v)]
def kK{p:κ×V}{r:List (κ×V)}{k:κ}(e:p.1=k):ff (p::r) k=some p.2:=by simp [ff,OE,e]
def lB{p:κ×V}{r:List (κ×V)}{k:κ}(e:¬ p.1=k):ff (p::r) k=ff r k:=by simp [ff,OE,e]
theorem rX(k:κ):∀kvs:List (κ×V),(kvs.any λkv=>decide (kv.1=k))=(ff kvs k).isSome
 | []=>rfl
 |
  p::r=>by
  rw[O3]
  by_cases e:p.1=k
  ·simp only[kK e,J_ e,Bool.true_or,Option.isSome_some]
  ·rw[lB e,B_ e,Bool.false_or];exact rX k r
def kA(kvs:List (κ×V))(k:κ)(v:V):(d8 kvs k v).length<=kvs.length+1:=by
 unfold d8
 split
 ·rw[l_];omega
 ·rw[z_,A_,OC];omega
def RelO.isSome_eq(r:RelO o u):o.isSome=u.isSome:=by
 cases o with
 |none=>cases u with
  |none=>rfl
  |some _=>exact (show False from r).elim
 |some _=>cases u with
  |none=>exact (show False from r).elim
  |some _=>rfl
def KV.val(r:KV kvs vs)(k:κ):RelO (ff kvs k) (valueAt vs k):=by
 unfold KV at r
 induction r with
 |nil=>exact True.intro
 |
  @cons p q ps qs h t ih=>
  obtain⟨h1,h2⟩:=h
  by_cases e:p.1=k
  ·have e':q.1=k:=h1.symm.trans e
   have b:valueAt (q::qs) k=some q.2:=by simp [valueAt,OE,e']
   rw[kK e,b];exact h2
  ·have e':¬ q.1=k:=λz=>e (h1.trans z)
   have b:valueAt (q::qs) k=valueAt qs k:=by simp [valueAt,OE,e']
   rw[lB e,b];exact ih
def KV.any(r:KV kvs vs)(k:κ):(kvs.any λkv=>decide (kv.1=k))=vs.any λkv=>decide (kv.1=k):=by
 unfold KV at r
 induction r with
 |nil=>rfl
 |cons h t ih=>rw[O3,O3,ih,h.1]
def KV.repl(r:KV kvs vs)(k:κ)(ry:RelV y u):
 KV (kvs.map λkv=>if kv.1=k then (kv.1,y) else kv) (vs.map λkv=>if kv.1=k then (kv.1,u) else kv):=by
 unfold KV at r ⊢
 induction r with
 |nil=>exact .nil
 |
  @cons p q ps qs h t ih=>
  rw[v_,v_]
  refine .cons ?_ ih
  obtain⟨h1,h2⟩:=h
  by_cases e:p.1=k
  ·rw[if_pos e,if_pos (h1.symm.trans e)];exact⟨h1,ry⟩
  ·rw[if_neg e,if_neg (λz=>e (h1.trans z))];exact⟨h1,h2⟩
def KV.put(r:KV kvs vs)(k:κ)(ry:RelV y u):KV (d8 kvs k y) (stored vs k u):=by
 unfold d8 stored
 rw[r.any k]
 by_cases e:(vs.any λkv=>decide (kv.1=k))=true
 ·rw[if_pos e,if_pos e];exact r.repl k ry
 ·rw[if_neg e,if_neg e];exact Paired.snoc r ⟨rfl,ry⟩
def KV.length(r:KV kvs vs):kvs.length=vs.length:=QQ r
end
def vP(r:RelV (kV k) u):(bK P w).is k u=true:=by
 cases k with
 |inl i=>obtain⟨t,e⟩:=(show ∃t,u=Value.int i t from r);subst e;exact tu P w i t
 |inr x=>obtain⟨t,e⟩:=(show ∃t,u=Value.str x t from r);subst e;exact tM P w x t
theorem oo:∀{ks:List Key}{us:List Value},Vals (ks.map kV) us->ItemsAre (bK P w) ks us
 | [],_,r=>by rw[OA] at r;cases r;exact .nil
 |
  k::ks,_,r=>by
  rw[v_] at r
  cases r with
  |cons h t=>exact .cons (vP h) (oo t)
abbrev KT(H:Hp):List (List Key×V)->List (List Key×Addr×Value)->Prop:=Paired λp q=>p.1=q.1/\H q.2.1=some (.tup (p.1.map kV))/\RelV p.2 q.2.2
def KT.val(r:KT H kvs xs)(k:List Key):RelO (ff kvs k) ((atKey xs k).map (·.2)):=by
 induction r with
 |nil=>exact True.intro
 |
  @cons p q ps qs h t ih=>
  obtain⟨h1,_,h2⟩:=h
  by_cases e:p.1=k
  ·have e':q.1=k:=h1.symm.trans e
   have b:atKey (q::qs) k=some q.2:=by simp [atKey,OE,e']
   rw[kK e,b];exact h2
  ·have e':¬ q.1=k:=λz=>e (h1.trans z)
   have b:atKey (q::qs) k=atKey qs k:=by simp [atKey,OE,e']
   rw[lB e,b];exact ih
def KT.repl(r:KT H kvs xs)(k:List Key)(ry:RelV y u):
 KT H (kvs.map λkv=>if kv.1=k then (kv.1,y) else kv) (xs.map (putAt k u)):=by
 induction r with
 |nil=>exact .nil
 |
  @cons p q ps qs h t ih=>
  rw[v_,v_]
  refine .cons ?_ ih
  obtain⟨h1,h2,h3⟩:=h
  unfold putAt
  by_cases e:p.1=k
  ·rw[if_pos e,if_pos (h1.symm.trans e)];exact⟨h1,h2,ry⟩
  ·rw[if_neg e,if_neg (λz=>e (h1.trans z))];exact⟨h1,h2,h3⟩
def KT.put(r:KT H kvs xs)(k:List Key)(hb:H b=some (.tup (k.map kV)))(ry:RelV y u):
 KT H (d8 kvs k y) (storedH xs k b u):=by
 have e:(kvs.any λkv=>decide (kv.1=k))=(atKey xs k).isSome:=by
  rw[rX,(r.val k).isSome_eq,Option.isSome_map]
 unfold d8 storedH
 rw[e]
 by_cases q:(atKey xs k).isSome=true
 ·rw[if_pos q,if_pos q];exact r.repl k ry
 ·rw[if_neg q,if_neg q];exact Paired.snoc r ⟨rfl,hb,ry⟩
def KT.keeps(r:KT H kvs xs)(ht:∀b ys,H b=some (.tup ys)->H' b=some (.tup ys)):KT H' kvs xs:=
 Paired.mapP r λ_ _ z=>⟨z.1,ht _ _ z.2.1,z.2.2⟩
section
variable{P:Program}{w:World}{H:Hp}{h:Heap}{a:Addr}
def CN(ok:HOk P w H h)(e:Rd H a u):ObjOk P w H h a u:=e.ok ok
def wV(ok:HOk P w H h)(e:Rd H a (.dK kvs)):kvs.length<=sizeLine/\(a==sysModules)=false/\∃vs,KV kvs vs/\h.DictOf (bK P w) a vs:=
 show ObjOk P w H h a (.dK kvs) from CN ok e
def MD(ok:HOk P w H h)(e:H a=some (.dK kvs)):kvs.length<=sizeLine/\(a==sysModules)=false/\∃vs,KV kvs vs/\h.DictOf (bK P w) a vs:=wV ok (.inl e)
def qa(ok:HOk P w H h)(e:H a=some (.tup (ks.map kV))):(tupleKind (bK P w)).is h ks a:=by
 obtain⟨_,its,r,o,h1,h2,n,h3⟩:=(show ObjOk P w H h a (.tup (ks.map kV)) from ok a _ e)
 exact⟨o,its.toArray,n,h1,h2,h3,by simpa using oo r⟩
def vR(ok:HOk P w H h)(e:Rd H a (.dT kvs)):kvs.length<=sizeLine/\(a==sysModules)=false/\
 ∃xs,KT H kvs xs/\h.DictOfH (tupleKind (bK P w)) a xs:=by
 obtain⟨z,y,xs,r,o,es,ep,h1,h2,h3,h4,h5⟩:=(show ObjOk P w H h a (.dT kvs) from CN ok e)
 refine⟨z,y,xs,r,o,es,ep,h1,h2,h3,h4,λx hx=>?_,h5⟩
 have all:∀{l:List (List Key×V)}{m:List (List Key×Addr×Value)},KT H l m->∀x∈m,(tupleKind (bK P w)).is h x.1 x.2.1:=by
  intro l m q
  induction q with
  |nil=>intro x hx;exact nomatch hx
  |
   @cons p q ps qs hq t ih=>
   intro x hx
   rcases I_.mp hx with e |hx
   ·subst e
    exact qa ok (by rw[<- hq.1];exact hq.2.1)
   ·exact ih x hx
 exact all r x hx
def MV(ok:HOk P w H h)(e:H a=some (.dT kvs)):kvs.length<=sizeLine/\(a==sysModules)=false/\
 ∃xs,KT H kvs xs/\h.DictOfH (tupleKind (bK P w)) a xs:=vR ok (.inl e)
end
def DGet(H:Hp)(a:Addr)(y:V)(r:Option V):Prop:=
 (∃kvs k,Rd H a (.dK kvs)/\y=kV k/\r=ff kvs k)\/∃kvs k b,Rd H a (.dT kvs)/\y=.ref b/\H b=some (.tup (k.map kV))/\r=ff kvs k
def DPut(H:Hp)(a:Addr)(y v:V)(H':Hp):Prop:=
 (∃kvs k,H a=some (.dK kvs)/\y=kV k/\kvs.length<sizeLine/\H'=upd H a (.dK (d8 kvs k v)))\/
 ∃kvs k b,H a=some (.dT kvs)/\y=.ref b/\H b=some (.tup (k.map kV))/\kvs.length<sizeLine/\H'=upd H a (.dT (d8 kvs k v))
def DGet.k{H:Hp}{a:Addr}{kvs:List (Key×V)}{k:Key}(e:H a=some (.dK kvs)):DGet H a (kV k) (ff kvs k):=.inl ⟨kvs,k,.inl e,rfl,rfl⟩
def DPut.k{H:Hp}{a:Addr}{kvs:List (Key×V)}{k:Key}{v:V}(e:H a=some (.dK kvs))(hl:kvs.length<sizeLine):DPut H a (kV k) v (upd H a (.dK (d8 kvs k v))):=.inl ⟨kvs,k,e,rfl,hl,rfl⟩
section
variable{X:Cx}{pins:Rb}{σ:St}{H:Hp}{s:Shared}{a:Addr}{y v:V}{u r:Value}{o:Option V}{A:Around}{E:Rf}
def zL(hu:A.units+1<cLine)(I:Inv X pins σ H s)(g:DGet H a y (some v))(ry:RelV y u)(h:∀w' s',Inv X pins σ H s'->RelV v w'->Q w' s'):
 wpAny (model X.prog X.w) A (getItem (.ref a) u) Q E s:=by
 rcases g with ⟨kvs,k,e,ey,l⟩ |⟨kvs,k,b,e,ey,eb,l⟩
 ·subst ey
  obtain⟨z,hd,vs,rel,dd⟩:=wV I.hok e
  obtain⟨w',hw,rw'⟩:=RelO.some_of (v:=v) (o:=valueAt vs k) (by rw[l];exact rel.val k)
  exact wpAny_getItem_of (vP ry) dd.mapOf hw (h w' _ (I.tok _) rw')
 ·subst ey
  cases (show u=Value.ref b from ry)
  obtain⟨z,hd,xs,rel,dd⟩:=vR I.hok e
  obtain⟨w',hw,rw'⟩:=RelO.some_of (v:=v) (o:=(atKey xs k).map (·.2)) (by rw[l];exact rel.val k)
  obtain⟨p,hp,hp2⟩:=G_.mp hw
  refine wpAny_getItem_heap (tupleKind_room_in1 hu) (qa I.hok eb) dd hp ?_
  rw[hp2]
  exact h w' _ (I.tok _) rw'
def uk(I:Inv X pins σ H s)(mu:Mut (H a))(hs:Heap.SameBut a s.heap h')(he:∃q,h'.get? a=some q)(new:ObjOk X.prog X.w (upd H a ob) h' a ob):
 Inv X pins σ (upd H a ob) { s with heap:=h',toks:=t' }:=
 I.write (x:=a) (e:=a) mu (.inl rfl) (λb q hb z=>(hs.2 b hb).trans z) he new
def JP(z:kvs.length<=sizeLine)(hd:(a==sysModules)=false)(rel:KV kvs vs)(dd:h'.DictOf (bK P w) a vs):
 ObjOk P w H' h' a (.dK kvs):=⟨z,hd,vs,rel,dd⟩
def xR(hu:A.units+1<cLine)(I:Inv X pins σ H s)(g:DPut H a y v H')(ry:RelV y u)(rv:RelV v r)(h:∀s',Inv X pins σ H' s'->Q () s'):
 wpAny (model X.prog X.w) A (setItem (.ref a) u r) Q E s:=by
 rcases g with ⟨kvs,k,e,ey,l,eH⟩ |⟨kvs,k,b,e,ey,eb,l,eH⟩
 ·subst ey eH
  obtain⟨z,hd,vs,rel,dd⟩:=MD I.hok e
  have hz:vs.length<=sizeLine:=by rw[<- rel.length];exact z
  have hl:(d8 kvs k v).length<=sizeLine:=by have:=kA kvs k v;omega
  refine wpAny_setItem_pairs (hsz:=hz) (vP ry) dd λh' dd' hs=>h _ ?_
  have he:∃q,h'.get? a=some q:=let ⟨q,_,_,hq,_⟩:=dd';⟨q,hq⟩
  exact uk I (by rw[e];exact True.intro) hs he (JP hl hd (rel.put k rv) dd')
 ·subst ey eH
  cases (show u=Value.ref b from ry)
  obtain⟨z,hd,xs,rel,dd⟩:=MV I.hok e
  have hz:xs.length<=sizeLine:=by rw[<- QQ rel];exact z
  have hl:(d8 kvs k v).length<=sizeLine:=by have:=kA kvs k v;omega
  refine wpAny_setItem_heap (hsz:=hz) (tupleKind_room_in1 hu) (qa I.hok eb) dd λh' dd' hs=>h _ ?_
  obtain⟨q,es,ep,hq,h2,h3,h4,_,h5⟩:=dd'
  refine uk I (by rw[e];exact True.intro) hs ⟨q,hq⟩ ⟨hl,hd,_,(rel.put k eb rv).keeps λc ys ec=>?_,q,es,ep,hq,h2,h3,h4,h5⟩
  rw[aq (Nr ec e (λz=>nomatch z))]
  exact ec
end
section
variable{X:Cx}{pins:Rb}{σ:St}{H:Hp}{s:Shared}{a:Addr}{kvs:List (Key×V)}{k:Key}{u:Value}{A:Around}{E:Rf}
end
def xk(i:Expr):Prop:=∀ov iv,subscripted i false ov iv=operate [ov,iv] (getItem ov iv)
def Fq{prog:Program}{w:World}{A:Around}{E:Rf}{s:Shared}{env:Env}{value i_:Expr}{pos:Pos}{T id:String}{Q:Rf}
 (hl:typeLookup (.type T) "__getitem__"=pure (some (.builtin id))) (hs:xk i_)
 (h:wpAny (model prog w) A (eval value env) (λo s₁=>wpAny (model prog w) A (eval i_ env) (λi s₂=>s₂.TypeIs o T/\wpAny (model prog w) A (getItem o i) Q E s₂) E s₁) E s):
 wpAny (model prog w) A (eval (.Subscript value i_ pos) env) Q E s:=by
 refine Subscript_ (OB h (λo s₁ h₁=>OB h₁ (λi s₂ h₂=>?_) λ_ _ x=>x) λ_ _ x=>x)
 obtain⟨hT,h₂⟩:=h₂
 unfold subscriptTail
 refine k_ ?_
 rw[getitemInPython_of_ne hT.not_modules]
 refine k_ (wpAny_specialOf hT hl ?_)
 have ii:wpAny (model prog w) A (subscripted i_ false o i) (λr s₃=>wpAny (model prog w) A (letTemporaryGo value o r >>= λ_=>pure r) Q E s₃) E s₂:=by
  rw[hs o i]
  exact wpAny_operating (OB h₂ (λr s₃ h₃=>k_ (wpAny_letTemporaryGo (u_ h₃))) λ_ _ x=>x)
 first
  |exact u_ (k_ ii)
  |exact k_ (u_ (k_ ii))
  |exact k_ ii
def sV(I:Inv X pins σ H s)(g:DGet H a y o):s.TypeIs (.ref a) "dict":=by
 rcases g with ⟨kvs,k,e,_,_⟩ |⟨kvs,k,b,e,_,_,_⟩
 ·obtain⟨_,_,vs,_,dd⟩:=wV I.hok e
  exact dd.typeIs
 ·obtain⟨_,_,xs,_,dd⟩:=vR I.hok e
  exact dd.typeIs
def NR(td ty:TE):TE:=λσ H Q=>td σ H λx H1=>ty σ H1 λy H2=>∃a v,x=.ref a/\DGet H2 a y (some v)/\Q v H2
section
variable{X:Cx}{o i e value:Expr}{pos im tpos:Pos}{td ty tv:TE}
def EE(hu:X.A.units+1<cLine)(ho:PE X o td)(hi:PE X i ty)(hs:xk i):PE X (.Subscript o i pos) (NR td ty):=by
 intro pins s σ H Q I h
 refine Fq PySem.F.slot_dict_getitem.lookup hs (thn (ho pins s σ H _ I h) λu s1 ⟨x,H1,I1,rx,q1⟩=>thn (hi pins s1 σ H1 _ I1 q1) λiv s2 ⟨y,H2,I2,ry,a,v,ex,g,q2⟩=>?_)
 subst ex
 obtain rfl:u=Value.ref a:=rx
 exact⟨sV I2 g,zL hu I2 g ry λw' s3 I3 rw'=>⟨v,H2,I3,rw',q2⟩⟩
end
section
variable{X:Cx}{pos:Pos}
end
section
variable{X:Cx}{pins:Rb}{σ:St}{H:Hp}{s:Shared}{a:Addr}{y d:V}{u r:Value}{o:Option V}{A:Around}{E:Rf}
end
section
variable{X:Cx}{o e f:Expr}{apos cpos:Pos}{td ty tx:TE}
end
section
variable{X:Cx}{pins:Rb}{σ:St}{H:Hp}{s:Shared}{a:Addr}{kvs:List (Key×V)}{A:Around}{E:Rf}
end
section
variable{X:Cx}{pins:Rb}{σ:St}{H:Hp}{s:Shared}{a:Addr}{y:V}{u:Value}{A:Around}{E:Rf}
end
section
variable{prog:Program}{w:World}{A:Around}{E:Rf}{s:Shared}
end
section
variable[DecidableEq κ]
noncomputable def lkD(kvs:List (κ×α))(k:κ):Option α:=(kvs.find? λkv=>decide (kv.1=k)).map (·.2)
noncomputable def cE(kvs:List (κ×α))(k:κ)(v:α):List (κ×α):=if (kvs.any λkv=>decide (kv.1=k))=true then kvs.map λkv=>if kv.1=k then (kv.1,v) else kv else kvs++[(k,v)]
end
section
variable{K:W.Frag}{mg:Ra}{ρ:List Addr}{H:Hp}
def FH:∀{kvs:List (Key×D)}{ws:List (Key×V)},ws.map (·.1)=kvs.map (·.1)->RelDs K mg ρ H (kvs.map (·.2)) (ws.map (·.2))->lkD kvs k=some d->∃v,ff ws k=some v/\RelD K mg ρ H d v:=by
 intro kvs
 induction kvs with
 |nil=>intro ws e r q;cases q
 |
  cons p kvs ih=>
  intro ws e r q
  cases ws with
  |nil=>cases e
  |
   cons w ws=>
   obtain⟨k1,d1⟩:=p
   obtain⟨k2,v2⟩:=w
   rw[v_,v_] at e
   injection e with e1 e2
   dsimp only at e1
   subst e1
   cases r with
   |
    cons r rr=>
    unfold lkD at q
    unfold ff
    rw[OE] at q ⊢
    dsimp only at q ⊢
    by_cases hk:k2=k
    ·rw[J_ hk] at q ⊢
     cases q
     exact⟨v2,rfl,r⟩
    ·rw[B_ hk] at q ⊢
     exact ih e2 rr q
def rC[DecidableEq κ]:∀{kvs:List (κ×α)}{ws:List (κ×β)},ws.map (·.1)=kvs.map (·.1)->(ws.any λkv=>decide (kv.1=k))=kvs.any λkv=>decide (kv.1=k):=by
 intro kvs
 induction kvs with
 |
  nil=>
  intro ws e
  cases ws with
  |nil=>rfl
  |cons _ _=>cases e
 |
  cons p kvs ih=>
  intro ws e
  cases ws with
  |nil=>cases e
  |
   cons w ws=>
   rw[v_,v_] at e
   injection e with e1 e2
   rw[O3,O3,ih e2,e1]
def AO{k:Key}{d:D}{v:V}(rd:RelD K mg ρ H d v){kvs:List (Key×D)}{ws:List (Key×V)}(e:ws.map (·.1)=kvs.map (·.1))(r:RelDs K mg ρ H (kvs.map (·.2)) (ws.map (·.2))):(d8 ws k v).map (·.1)=(cE kvs k d).map (·.1)/\RelDs K mg ρ H ((cE kvs k d).map (·.2)) ((d8 ws k v).map (·.2)):=by
 unfold d8 cE
 rw[rC e]
 by_cases hc:(kvs.any λkv=>decide (kv.1=k))=true
 ·rw[if_pos hc,if_pos hc]
  clear hc
  induction kvs generalizing ws with
  |
   nil=>
   cases ws with
   |nil=>exact⟨rfl,.nil⟩
   |cons _ _=>cases e
  |
   cons p kvs ih=>
   cases ws with
   |nil=>cases e
   |
    cons w ws=>
    obtain⟨k1,d1⟩:=p
    obtain⟨k2,v2⟩:=w
    rw[v_,v_] at e
    injection e with e1 e2
    dsimp only at e1
    subst e1
    cases r with
    |
     cons r rr=>
     obtain⟨h1,h2⟩:=ih e2 rr
     simp only[v_]
     by_cases hk:k2=k
     ·rw[if_pos hk,if_pos hk]
      exact⟨by rw[h1],.cons rd h2⟩
     ·rw[if_neg hk,if_neg hk]
      exact⟨by rw[h1],.cons r h2⟩
 ·rw[if_neg hc,if_neg hc,Oz,Oz,Oz,Oz,e]
  exact⟨rfl,r.append (.cons rd .nil)⟩
def we:wG:=λo i v H Q=>∃a H4,o=.ref a/\DPut H a i v H4/\Q H4
variable{X:Cx}{ES:St->XK}{a b:Expr}{F G:ME}{pos:Pos}
def BZ(hu:X.A.units+1<cLine):qE X we:=λpins s σ H o i v ov iv u Q I ro ri rv ⟨a,H4,eo,g,q⟩=>by
 subst eo
 obtain rfl:ov=Value.ref a:=ro
 exact xR hu I g ri rv λs4 I4=>⟨H4,I4,q⟩
end
section
variable{X:Cx}
end
section
variable{K:W.Frag}{mg:Ra}
end
section
variable{K:W.Frag}{mg:Ra}{X:Cx}{ES:St->XK}{o:Expr}{F:ME}{pos p2:Pos}
end
end L2
namespace L2
open PySem PySem.Spec PySem.Calls PyProof.Rows
section
variable{X:Cx}{K:W.Frag}{mg:Ra}{ES:St->XK}{es:List Expr}{gs:MGs}{pos:Pos}
def gUnp(K:W.Frag)(n:Nat)(t:TGs):TG:=λv σ H Q=>∃a xs,v=.ref a/\(SqT K H a xs\/SqL K H a xs)/\xs.length=n/\t xs σ H Q
def GY{k:Nat}{t:TGs}{n:Nat}(hc:X.calm=true)(h:PGs X es t)
 (hn:(assignEach es X.env).length=n) (hst:(assignEach es X.env).findIdx? (·.1)=none):PG X (.Tuple es k pos) (gUnp X.K n t):=by
 intro pins s σ H v u Q I r hw
 obtain⟨a,xs,e1,hq,hl,hw⟩:=hw
 rcases hq with hq |hq
 ·exact zI hc h hn hst pins s σ H v u Q I r ⟨a,xs,e1,hq,hl,hw⟩
 ·subst e1
  cases r
  obtain⟨its,rv,⟨o,m,ho,oc,od,os⟩,hz⟩:=I.list hq
  have ht:s.heap.IsList a its.toArray:=⟨o,ho,oc,m,os⟩
  rw[assign_Tuple]
  refine k_ (Qe ?_)
  unfold unpack
  rw[hst,hn,show n=its.toArray.size by simp [<- hl,rv.length]]
  refine k_ (OW (W.kun_itemsOf (I.ok.hd hc) ht λh' hx=>?_))
  have I1:Inv X pins σ H { s with heap:=h' }:=I.kept (t':=s.toks) λb o e=>hx b o (K_ (w_ e)) e
  exact h pins _ σ H xs _ Q I1 (by simpa using rv) hw
noncomputable def gU(u:MGs):MG:=λd ae h=>match d with
 |.tup ds=>u ds ae h
 |.ref p=>match aB h p with
  |some ds=>u ds ae h
  |none=>.stuck
 |_=>.stuck
def Iw{k n:Nat}(hK:X.K=K)(hc:X.calm=true)(h:DGs K mg X (λ_=>E0) es gs)
 (hn:(assignEach es X.env).length=n) (hst:(assignEach es X.env).findIdx? (·.1)=none):DG K mg X (λ_=>E0) (.Tuple es k pos) (gU λds ae h=>if ds.length=n then gs ds ae h else .stuck):=by
 subst hK
 refine PG.imp (GY hc h hn hst) λv σ H Q q_=>q_.el λρ h ae d w re rd p=>?_
 unfold gU at p
 cases rd with
 |
  tup q rs=>
  dsimp only at p
  split at p
  ·rename_i hl
   exact⟨_,_,rfl,.inl q,by rw[<- rs.len];exact hl,ρ,h,ae,_,w,re,rs,p⟩
  ·exact p.elim
 |
  ref ea=>
  dsimp only at p
  split at p
  ·rename_i ds q
   obtain⟨vs,h1,h2⟩:=aP w ea q
   split at p
   ·rename_i hl
    exact⟨_,_,rfl,.inr h1,by rw[<- h2.len];exact hl,ρ,h,ae,_,w,re,h2,p⟩
   ·exact p.elim
  ·exact p.elim
 |_=>exact p.elim
end
section
variable{X:Cx}{K:W.Frag}{mg:Ra}{ES:St->XK}{a:Expr}{A:MA}{pos q2 p1 p2:Pos}
end
section
variable{X:Cx}{K:W.Frag}{mg:Ra}{w:World}{n:Str}{kvs:List (Str×Int)}
end
end L2
namespace L2
open PySem
end L2
namespace L2
open PySem PySem.Spec PySem.Calls PyProof.Rows
section
variable{X:Cx}{K:W.Frag}{mg:Ra}
end
section
variable{P:Program}{w:World}{K:W.Frag}{mg:Ra}{base:Heap}{x:Str}{st:Stmt}{k:Nat}{ps N:List Str}{sp:Sp}
variable{F:MS}
end
section
variable{X:Cx}{K:W.Frag}{mg:Ra}{ES:St->XK}{e:Expr}{es:List Expr}{A:MA}{pos:Pos}
end
end L2
namespace L2
open PySem PySem.Spec PyProof.Rows
section
variable{X:Cx}
end
section
variable{K:W.Frag}{mg:Ra}
end
section
variable{X:Cx}{K:W.Frag}{mg:Ra}
end
section
variable{X:Cx}
def Nl:List V->Hp->VK->Prop:=λxs H Q=>xs=[]/\∀l,H l=none->Q (.ref l) (upd H l (.set (λ_=>false) 0))
def sO:R2:=λx y H Q=>∃i a S n,x=.int i/\y=.ref a/\H a=some (.set S n)/\Q (.bl (S i)) H
def Ah:OpR X (compareOp .In) sO:=by
 intro pins s σ H x y v u Q I rx ry h
 obtain⟨i,a,S,n,rfl,rfl,hH,q⟩:=h
 obtain⟨t,rfl⟩:=rx
 cases ry
 have hS:s.heap.SetOf (intKind X.prog X.w) a S n:=I.hok a _ hH
 exact wpAny_inSet_of (intKind_is _ _ i t) rfl hS ⟨.bl (S i),H,I.tok _,rfl,q⟩
def uK:V->List V->Hp->VK->Prop:=λx vs H Q=>∃a i S n,x=.ref a/\vs=[.int i]/\H a=some (.set S n)/\n<4000/\Q .non (upd H a (.set (λk=>S k || decide (k=i)) (if S i then n else n+1)))
def xS:MtM X "set.add" uK:=by
 intro pins s σ H x vs v us Q I rx rv h
 obtain⟨a,i,S,n,rfl,rfl,hH,hn,q⟩:=h
 cases rx
 obtain⟨u,rfl,ru⟩:=rv.one
 obtain⟨t,rfl⟩:=ru
 have hS:s.heap.SetOf (intKind X.prog X.w) a S n:=I.hok a _ hH
 refine call_set_add (intKind_is _ _ i t) rfl hS (by unfold scanBound;omega) λh' sb hS'=>?_
 refine⟨.non,_,I.write (x:=a) (e:=a) (by rw[hH];exact trivial) (.inl rfl) (λb o hb e=>(sb.2 b hb).trans e) ?_ (show ObjOk X.prog X.w _ h' a (.set (λk=>S k || decide (k=i)) (if S i then n else n+1)) from hS'),rfl,q⟩
 obtain⟨o,_,_,_,e,_⟩:=hS'
 exact⟨o,e⟩
def tH:CallR X (.builtin "len") (λxs H Q=>∃a S n,xs=[.ref a]/\H a=some (.set S n)/\Q (.int (n:Nat)) H):=by
 intro pins s σ H xs us Q I r h
 obtain⟨a,S,n,rfl,hH,q⟩:=h
 obtain⟨u,rfl,ru⟩:=d4 r
 cases ru
 have hS:s.heap.SetOf (intKind X.prog X.w) a S n:=I.hok a _ hH
 obtain⟨o,es,ep,t,e,hex,hd,_,_,hb,hf,rfl⟩:=hS
 refine call_len_set e hex hd hf (by unfold scanBound at hb;omega) ⟨.int (es.size:Nat),H,I.tok _,⟨_,rfl⟩,q⟩
def x9:CallR X (.type "set") Nl:=by
 intro pins s σ H xs us Q I r h
 obtain⟨rfl,q⟩:=h
 cases r
 refine call_set_0 λled=>?_
 refine⟨.ref s.heap.objs.size,_,I.laid (t':=s.toks) (λb o e=>n_ _ e) (o_ _) (show ObjOk X.prog X.w _ _ _ (.set (λ_=>false) 0) from ?_),rfl,q _ (I.hok.fresh (o_ _))⟩
 obtain⟨h1,es,ep,tt,h2,h3,h4,h5,h6⟩:=setObjOf_fresh (knd:=intKind X.prog X.w) led
 exact⟨_,es,ep,tt,C_ _ rfl,h1,h2,h3,h4,by rw[h5];decide,h6,h5⟩
end
section
variable{K:W.Frag}{mg:Ra}{X:Cx}{ES:St->XK}{o e:Expr}{es:List Expr}{F:ME}{A:MA}{pos:Pos}
noncomputable def wY:ME:=λ_ h=>.ok (.ref h.length) (h++[.set []])
noncomputable def se:D->D->AH->R D:=λx y h=>match x,y with
 |.int i,.ref n=>match h[n]? with
  |some (.set xs)=>.ok (.bl (decide (i∈xs))) h
  |_=>.stuck
 |_,_=>.stuck
noncomputable def mn:Fn:=λds h=>match ds with
 | [.ref n]=>match h[n]? with
  |some (.set xs)=>.ok (.int (xs.length:Nat)) h
  |_=>.stuck
 |_=>.stuck
def eg(xs:List Int)(i:Int):List Int:=if i∈xs then xs else i::xs
noncomputable def qr:D->List D->AH->R D:=λx ds h=>match x,ds with
 |.ref n,[.int i]=>match h[n]? with
  |some (.set xs)=>if xs.length<4000 then .ok .non (h.set n (.set (eg xs i))) else .stuck
  |_=>.stuck
 |_,_=>.stuck
noncomputable def vt(h:AH):D->Bool
 |.ref n=>match h[n]? with
  |some (.set _)=>true
  |_=>false
 |_=>false
noncomputable def eMS(F:ME)(A:MA):ME:=λae h=>(F ae h).bind λx h1=>if vt h1 x=true then (A ae h1).bind λds h2=>qr x ds h2 else .stuck
def DF:OpD K mg sO se:=λρ h H dx dy x y Q E w rx ry p=>by
 unfold se at p
 split at p
 ·cases rx
  cases ry with
  |
   ref ea=>
   split at p
   ·rename_i xs e
    obtain⟨_,h1⟩:=w.ob _ _ _ ea e
    exact⟨_,_,_,_,rfl,rfl,h1,ax w (.bl _) p⟩
   ·exact p.elim
 ·exact p.elim
def EO:aM K mg (λxs H Q=>∃a S n,xs=[.ref a]/\H a=some (.set S n)/\Q (.int (n:Nat)) H) mn:=λρ h H ds vs Q E w rs p=>by
 unfold mn at p
 split at p
 ·cases
   rs with
  |
   cons r rs=>
   cases rs
   cases r with
   |
    ref ea=>
    split at p
    ·rename_i xs e
     obtain⟨_,h1⟩:=w.ob _ _ _ ea e
     exact⟨_,_,_,rfl,h1,ax w (.int _) p⟩
    ·exact p.elim
 ·exact p.elim
def HD:MtD K mg uK qr:=λρ h H dx ds x vs Q E w rx rs p=>by
 unfold qr at p
 split at p
 ·rename_i n i
  cases rx with
  |
   ref ea=>
   cases rs with
   |
    cons r rs=>
    cases rs
    cases r
    split at p
    ·rename_i xs e
     split at p
     ·rename_i hl
      obtain⟨nd,h1⟩:=w.ob _ _ _ ea e
      refine⟨_,_,_,_,rfl,rfl,h1,hl,?_⟩
      have e2:HO.set (λk=>decide (k∈xs) || decide (k=i)) (if decide (i∈xs)=true then xs.length else xs.length+1)=.set (λk=>decide (k∈eg xs i)) (eg xs i).length:=by
       unfold eg
       by_cases hi:i∈xs
       ·rw[if_pos (J_ hi),if_pos hi]
        congr 1
        funext k
        by_cases hk:k∈xs
        ·rw[J_ hk];rfl
        ·rw[B_ hk,B_ (show ¬ k=i from λz=>hk (by rw[z];exact hi))];rfl
       ·rw[if_neg (by rw[B_ hi];exact y_),if_neg hi]
        congr 1
        funext k
        rw[QB,PN,OR,OR,OR,I_]
        exact Or.comm
      rw[e2]
      have l:Le ρ H ρ (upd H _ (.set (λk=>decide (k∈eg xs i)) (eg xs i).length)):=jI h1 Dk
      refine p ρ _ l (w.write ea h1 Dk ⟨?_,aR⟩) .non .non
      unfold eg
      split
      ·exact nd
      ·rename_i hi;exact PQ.mpr ⟨hi,nd⟩
     ·exact p.elim
    ·exact p.elim
 ·exact p.elim
def FQ(hg:Gl X x)(hm:mg x=none)(hv:bootBuiltins x=some (.type "set"))(hk:X.mg=mg)(hn:x ≠ "__name__")(hdb:(x==("__debug__" : Str))=false):DE K mg X ES (.Call (.Name x p0) [] [] pos) wY:=by
 subst hk
 refine PE.imp (xm x9 hg hm hv hn hdb) λσ H Q q_=>q_.el λρ h ae w re p=>⟨rfl,λl hl=>?_⟩
 have le:Le ρ H (ρ++[l]) (upd H l (.set (λ_=>false) 0)):=(bU hl).trans ig
 refine p (ρ++[l]) _ le (w.alloc hl ⟨List.nodup_nil,?_⟩) _ (.ref ?_)
 ·rw[aR]
  congr 1
 ·rw[<- w.len,Oq (o_ _),PH]
  rfl
def LX(hK:X.K=K)(ho:DE K mg X ES o F)(ha:DA K mg X ES (e::es) A)
 (db:attributeBase o "add" X.env (eval o X.env)=eval o X.env)
 (hfew:((backTo cpos (starEach (e::es) X.env)).all (λx=>!x.1)&&(backToKw cpos (keywordEach [] X.env)).all (λx=>x.1.isSome)
  && decide ((e::es).length+([]:List Keyword).length+(if ([]:List Keyword).isEmpty then 0 else 1)<30))=true)
 (e_:(apos.endLine==cpos.line)=true) (hs:starEach (e::es) X.env=(false,eval e X.env)::starEach es X.env) (ci:(backTo cpos (starEach es X.env)).any (·.1)=false):
 DE K mg X ES (.Call (.Attribute o "add" apos) (e::es) [] cpos) (eMS F A):=by
 subst hK
 refine PE.imp (C0 PySem.F.plainAttrs_set PySem.F.slot_set_add PySem.F.type_set_add xS ho ha db hfew e_ hs ci) λσ H Q q_=>q_.el λρ h ae w re p=>⟨ρ,h,ae,w,re,p.bind.imp λdx h1 ρ1 H1 l1 w1 p1 x rx=>?_⟩
 split at p1
 ·rename_i hl
  have ty:tyV X.K "set" x H1:=by
   cases rx with
   |
    ref ea=>
    unfold vt at hl
    dsimp only at hl
    split at hl
    ·rename_i xs q
     obtain⟨_,hh⟩:=w1.ob _ _ _ ea q
     exact .inr (.inr (.inr ⟨rfl,_,_,hh⟩))
    ·cases hl
   |_=>cases hl
  exact⟨ty,ρ1,h1,ae,w1,re.mono l1,p1.bind.imp λds h2 ρ2 H2 l2 w2 p2 vs rs=>HD ρ2 h2 H2 dx ds x vs Q _ w2 (rx.mono l2) rs p2⟩
 ·exact p1.elim
end
section
variable{K:W.Frag}{mg:Ra}
noncomputable def qw:D->D->AH->R D:=λx y h=>match x with
 |.ref n=>(match y with
  |.int k=>(match h[n]? with
   |some (.dct kvs)=>(match lkD kvs (.inl k) with
    |some d=>.ok d h
    |none=>.stuck)
   |_=>.stuck)
  |_=>.stuck)
 |_=>.stuck
noncomputable def wDI(o i v:D)(h:AH):R Unit:=match o with
 |.ref n=>(match i with
  |.int k=>(match h[n]? with
   |some (.dct kvs)=>if kvs.length<16777216 then .ok () (h.set n (.dct (cE kvs (.inl k) v))) else .stuck
   |_=>.stuck)
  |_=>.stuck)
 |_=>.stuck
variable{X:Cx}{ES:St->XK}{a b:Expr}{F G:ME}{pos:Pos}
def Cy:mV K mg we wDI:=λρ h H do_ di dv o i v Q E w ro ri rv p=>by
 unfold wDI at p
 split at p
 ·split
   at p
  ·split
    at p
   ·rename_i n k _ kvs e
    split at p
    ·rename_i hl
     cases ro with
     |
      ref ea=>
      cases ri
      obtain⟨ws,h1,h2,h3⟩:=w.ob _ _ _ ea e
      have be:ws.length=kvs.length:=by have:=OO List.length h2;simpa using this
      have l:Le ρ H ρ (upd H _ (.dK (d8 ws (.inl k) v))):=jI h1 dKNo
      obtain⟨k1,k2⟩:=AO (k:=.inl k) rv h2 h3
      exact⟨_,_,rfl,DPut.k (k:=.inl k) h1 (by rw[be];exact hl),p ρ _ l (w.write ea h1 dKNo ⟨_,aR,k1,k2.mono l⟩)⟩
    ·exact p.elim
   ·exact p.elim
  ·exact p.elim
 ·exact p.elim
def AI(hu:X.A.units+1<cLine)(ha:DE K mg X ES a F)(hb:DE K mg X ES b G)(hs:xk b):DE K mg X ES (.Subscript a b pos) (eOp qw F G):=PE.imp (EE hu ha hb hs) λσ H Q q_=>q_.el λρ h ae w re p=>⟨ρ,h,ae,w,re,p.bind.imp λdx h1 ρ1 H1 l1 w1 p1 x rx=>⟨ρ1,h1,ae,w1,re.mono l1,p1.bind.imp λdy h2 ρ2 H2 l2 w2 p2 y ry=>by
 have rx2:=rx.mono l2
 unfold qw at p2
 split at p2
 ·split
   at p2
  ·split
    at p2
   ·rename_i n k _ kvs e
    split at p2
    ·rename_i d q
     cases rx2 with
     |
      ref ea=>
      cases ry
      obtain⟨ws,k1,k2,k3⟩:=w2.ob _ _ _ ea e
      obtain⟨v,q1,rv⟩:=FH k2 k3 q
      refine⟨_,v,rfl,?_,ax w2 rv p2⟩
      rw[<- q1]
      exact DGet.k (k:=.inl k) k1
    ·exact p2.elim
   ·exact p2.elim
  ·exact p2.elim
 ·exact p2.elim⟩⟩
end
section
variable{X:Cx}{K:W.Frag}{mg:Ra}
def kT(K:W.Frag):V->List V->Hp->VK->Prop:=λx vs H Q=>∃l b xs zs,x=.ref l/\vs=[.ref b]/\H l=some (.lst xs)/\SqT K H b zs/\xs.length+zs.length<=sizeLine/\Q .non (upd H l (.lst (xs++zs)))
def Fx(l:Addr)(xs:Array Value)(n:Nat)(b:Addr)(ys:Array Value)(n2:Nat)(dd:Option Addr)(ss:Array (Option Value))(z0:¬(!xs.isEmpty&&Builtin.List.listTooLong (xs.size+ys.size))=true)(z1:xs.size<=sizeLine)(z2:xs.size+ys.size<=sizeLine+1):
 Meets (Builtin.«list.extend» ⟨[.ref l,.ref b],[]⟩) (λ_ R s=>s.heap.get? l=some { cls:=.type "list",dict:=none,data:=.seq xs n,slots:=#[] }/\s.heap.get? b=some { cls:=.type "tuple",dict:=dd,data:=.seq ys n2,slots:=ss }/\R (.ok (.ret Value.none)) { s with heap:=s.heap.update l (Obj.mapSeq λx=>x++ys),toks:=s.toks }):=
 .of_wp λprog w A R s h=>by
  obtain⟨hp,g,d,tk,os⟩:=s
  obtain⟨el,eb,h⟩:=h
  have e1:=PySem.AutoSeq1.idx_int
  have e2:=PySem.F.sub_tuple_tuple
  have e3:=PySem.F.sub_list_list
  have e4:=PySem.F.sub_tuple_list
  have e5:=PySem.F.sub_list_tuple
  have zz:(xs++ys).size<=sizeLine+1:=by rw[Array.size_append];exact z2
  wp_walk using (wpAny_updateSeq el rfl (hz:=z1) (_hz':=zz)),wpAny_loadPart' el,wpAny_loadPart' eb
  exact⟨_,rfl,h⟩
def wa(hK:X.K=K):MtM X "list.extend" (kT K):=by
 subst hK
 intro pins s σ H x vs v us Q I rx rv h
 obtain⟨l,b,xs,zs,rfl,rfl,hH,hB,hz,q⟩:=h
 cases rx
 obtain⟨u,rfl,ru⟩:=rv.one
 cases ru
 obtain⟨z,its,n,r,hl,e⟩:=I.lstM hH
 obtain⟨its2,r2,⟨⟨oc,od,oda,os⟩,e2,ec,n2,ed⟩,z2⟩:=I.tuple hB
 dsimp only at ec ed
 subst ec ed
 have hl2:=r2.length
 have hsz:its.toArray.size+its2.toArray.size<=sizeLine:=by rw[t_,t_];omega
 have hlong:¬ (!its.toArray.isEmpty&&Builtin.List.listTooLong (its.toArray.size+its2.toArray.size))=true:=by
  rw[BM hsz,Bool.and_false]
  exact y_
 refine call_meets PySem.F.slot_list_extend ⟨_,e,rfl⟩ PySem.F.entry_list_extend (PySem.F.args_list_extend_2 _ _)
  (Fx l its.toArray n b its2.toArray n2 od os hlong (by rw[t_];omega) (by omega)) ⟨e,e2,?_⟩
 refine⟨.non,_,I.lset (its':=its++its2) hH e (by simp) (r.append r2) ?_,rfl,q⟩
 rw[z_]
 omega
noncomputable def ja:D->List D->AH->R D:=λx ds h=>iQ h x λn xs=>match ds with
 | [.tup ys]=>if xs.length+ys.length<=16777216 then .ok .non (h.set n (.lst (xs++ys))) else .stuck
 |_=>.stuck
def wc:MtD K mg (kT K) ja:=λρ h H dx ds x vs Q E w rx rs p=>by
 obtain⟨n,xs,a,us,rfl,e,ea,rfl,h1,h2,p⟩:=jv w rx p
 split at p
 ·cases rs with
  |
   cons r rs=>
   cases rs
   split at p
   ·rename_i hb
    cases r with
    |tup hq rr=>exact⟨a,_,us,_,rfl,rfl,h1,hq,by rw[<- h2.len,<- rr.len];exact hb,kZ w ea h1 (h2.append rr) .non p⟩
   ·exact p.elim
 ·exact p.elim
end
section
variable{X:Cx}{e st:Expr}{te tst:TE}{pos p2:Pos}
def tRev(K:W.Frag)(te tst:TE):TE:=λσ H Q=>te σ H λx H1=>tst σ H1 λy H2=>y=.int (-1)/\∃a xs,x=.ref a/\SqL K H2 a xs/\∀p,H2 p=none->Q (.ref p) (upd H2 p (.lst xs.reverse))
def Jz(he:PE X e te)(hst:PE X st tst):PE X (.Subscript e (.Slice none none (some st) p2) pos) (tRev X.K te tst):=by
 intro pins s σ H Q I h
 refine Subscript_ (thn (he pins s σ H _ I h) λv s1 ⟨x,H1,I1,r1,q1⟩=>?_)
 refine wpAny_Slice ?_
 rw[evalPart_none]
 refine u_ ?_
 refine u_ ?_
 rw[evalPart_some]
 refine thn (hst pins s1 σ H1 _ I1 q1) λu s2 ⟨y,H2,I2,r2,q2⟩=>?_
 obtain⟨rfl,a,xs,rfl,hq,q⟩:=q2
 obtain⟨t,rfl⟩:=r2
 cases r1
 have I3:Inv X pins σ H2 { s2 with heap:=s2.heap.push { cls:=.type "slice",data:=.fields #[.none,.none,.int (-1) t] } }:=I2.kept (t':=s2.toks) λb ob q=>n_ _ q
 obtain⟨its,rv,pl,hz⟩:=I3.list hq
 have hl:=rv.length
 have hs:(s2.heap.push { cls:=.type "slice",data:=.fields #[.none,.none,.int (-1) t] }).IsSliceOf s2.heap.objs.size .none .none (.int (-1) t):=Heap.IsSliceOf.new ..
 show wpAny (model X.prog X.w) X.A (subscriptTail e (.Slice none none (some st) p2) (.ref a) (.ref s2.heap.objs.size)) (EP X pins σ Q) X.xe { s2 with heap:=s2.heap.push { cls:=.type "slice",data:=.fields #[.none,.none,.int (-1) t] } }
 refine tail_any (ops:=[.ref a,.ref s2.heap.objs.size]) pl.isList.typeIs slot_list_getitem.lookup ?_ (by with_unfolding_all rfl)
 refine wpAny_getItem_list_slice pl.isList hs .none .none (.int (-1) t) (by decide) ?_ (by rw[t_];omega)
 rw[W.krv_pick]
 refine⟨.ref _,_,I3.lnew (t':=s2.toks) (ys:=xs.reverse) rv.reverse (by rw[Ph];exact hz),rfl,q _ I3.fresh⟩
end
section
variable{K:W.Frag}{mg:Ra}{X:Cx}{ES:St->XK}{e st:Expr}{F G:ME}{pos p2:Pos}
noncomputable def rn:D->D->AH->R D:=λx y h=>match x,y with
 |
  .ref n,.int i=>if i=-1 then match aB h n with
   |some xs=>.ok (.ref h.length) (h++[.lst xs.reverse])
   |none=>.stuck
  else .stuck
 |_,_=>.stuck
def IM(hK:X.K=K)(he:DE K mg X ES e F)(hs:DE K mg X ES st G):DE K mg X ES (.Subscript e (.Slice none none (some st) p2) pos) (eOp rn F G):=by
 subst hK
 refine PE.imp (Jz he hs) λσ H Q q_=>q_.el λρ h ae w re p=>⟨ρ,h,ae,w,re,p.bind.imp λdx h1 ρ1 H1 l1 w1 p1 x rx=>⟨ρ1,h1,ae,w1,re.mono l1,p1.bind.imp λdy h2 ρ2 H2 l2 w2 p2 y ry=>?_⟩⟩
 have rx2:=rx.mono l2
 unfold rn at p2
 split at p2
 ·rename_i n i
  split at p2
  ·rename_i hi
   split at p2
   ·rename_i xs q
    cases ry
    cases rx2 with
    |
     ref ea=>
     obtain⟨vs,q1,q2⟩:=aP w2 ea q
     exact⟨by rw[hi],_,vs,rfl,q1,λl hl=>cM w2 q2.reverse hl p2⟩
   ·exact p2.elim
  ·exact p2.elim
 ·exact p2.elim
end
noncomputable def mnI:List Int->Int
 | []=>0
 | [x]=>x
 |x::y::r=>if mnI (y::r)<x then mnI (y::r) else x
theorem ur:∀{l:List Int},l≠[]->mnI l∈l
 | [x],_=>by simp [mnI]
 |
  x::y::r,_=>by
  have:=ur (l:=y::r) (by simp)
  rw[mnI]
  split
  ·exact m_ _ this
  ·exact p_ ..
theorem yY:∀{l:List Int}{a:Int},a∈l->mnI l<=a
 | [x],a,h=>by rw[OL] at h;rw[h];exact Int.le_refl _
 |
  x::y::r,a,h=>by
  rw[mnI]
  rcases I_.mp h with rfl |h
  ·split <;> omega
  ·have:=yY (l:=y::r) h
   split <;> omega
section
variable{X:Cx}{K:W.Frag}{mg:Ra}
def Cn(f:List Int->Int)(K:W.Frag):List V->Hp->VK->Prop:=λxs H Q=>∃(a:Addr) (ns:List Int),xs=[.ref a]/\SqL K H a (ns.map V.int)/\ns≠[]/\Q (.int (f ns)) H
def xy(hK:X.K=K)(hc:X.calm=true):CallR X (.builtin "min") (Cn mnI K):=by
 subst hK
 intro pins s σ H xs us Q I r h
 obtain⟨a,ns,rfl,hq,hne,q⟩:=h
 obtain⟨u,rfl,ru⟩:=d4 r
 cases ru
 obtain⟨its,rv,p,hz⟩:=I.list hq
 have hi:=jU rv
 obtain⟨ys,hy⟩:=hi.allInts.items
 have hn:numsOf its.toArray.toList=ns:=by rw[show its.toArray.toList=its from rfl,hi.numsOf]
 have pl:=p.isList
 rw[hy] at pl hn
 rw[nums_intItems] at hn
 have hsz:0<ys.size:=by
  have:ns.length=ys.size:=by rw[<- hn,l_,OI]
  have:=List.length_pos_iff.mpr hne
  omega
 refine min_intList (I.ok.hd hc) pl hsz λv h' tk hv hk=>?_
 obtain⟨t,rfl⟩:=intItems_at hv
 obtain⟨h1,h2⟩:=argBest_lt (numAt ys) (ys.size-1)
 have m1:numAt ys (argBest (λi j=>decide (numAt ys i<numAt ys j)) (ys.size-1))∈ns:=by
  rw[<- hn,numAt_eq]
  exact getD_mem (by rw[l_,OI];omega)
 have m2:∀b∈ns,numAt ys (argBest (λi j=>decide (numAt ys i<numAt ys j)) (ys.size-1))<=b:=λb hb=>by
  rw[<- hn] at hb
  obtain⟨j,hj,rfl⟩:=mem_getD hb
  rw[l_,OI] at hj
  rw[<- numAt_eq]
  exact h2 j (by omega)
 have e:numAt ys (argBest (λi j=>decide (numAt ys i<numAt ys j)) (ys.size-1))=mnI ns:=Int.le_antisymm (m2 _ (ur hne)) (yY m1)
 rw[e]
 exact⟨.int (mnI ns),H,I.kept (t':=tk) hk,⟨_,rfl⟩,q⟩
noncomputable def rK(f:List Int->Int):Fn:=λds h=>match ds with
 | [.ref n]=>match (aB h n).bind dU with
  |some ns=>if ns≠[] then .ok (.int (f ns)) h else .stuck
  |none=>.stuck
 |_=>.stuck
def J6(f:List Int->Int):aM K mg (Cn f K) (rK f):=λρ h H ds vs Q E w rs p=>by
 unfold rK at p
 split at p
 ·cases
   rs with
  |
   cons r rs=>
   cases r with
   |
    ref ea=>
    cases rs
    split at p
    ·rename_i bs e
     obtain⟨xs,q,e2⟩:=Ou.mp e
     split at p
     ·rename_i hne
      obtain⟨vs,h1,h2⟩:=aP w ea q
      rw[jz e2] at h2
      rw[h2.ints] at h1
      exact⟨_,bs,rfl,h1,hne,ax w (.int _) p⟩
     ·exact p.elim
    ·exact p.elim
 ·exact p.elim
end
section
variable{K:W.Frag}{mg:Ra}{X:Cx}
end
section
variable{X:Cx}
end
section
variable{K:W.Frag}{mg:Ra}
noncomputable def jZ:List D->Option (List Int)
 | []=>some []
 |.int i::ds=>(jZ ds).map (i :: ·)
 |_::_=>none
theorem jH{ρ:List Addr}{H:Hp}:∀{ds:List D}{vs:List V}{ns:List Int},RelDs K mg ρ H ds vs->jZ ds=some ns->vs=ns.map V.int
 | [],_,_,r,e=>by cases r;cases e;rfl
 |
  d::ds,_,ns,r,e=>by
  cases r with
  |
   cons r rr=>
   cases d with
   |
    int i=>
    obtain⟨ms,e1,rfl⟩:=G_.mp e
    cases r
    rw[jH rr e1]
    rfl
   |_=>cases e
end
section
variable{K:W.Frag}{mg:Ra}{X:Cx}
end
section
variable{K:W.Frag}{mg:Ra}{X:Cx}
end
section
variable{X:Cx}{tg:Expr}{p pos:Pos}{a b c:Expr}
end
end L2
namespace L2
open PySem PySem.W PyProof.Rows
structure LtO(lt:Nat->Nat->Bool)(N:Nat):Prop where
 irr:∀i,lt i i=false
 tr:∀i j k,lt i j=true->lt j k=true->lt i k=true
 tot:∀i j,i<N->j<N->i≠j->lt i j=true\/lt j i=true
abbrev Ask:=Nat->Nat->(Bool->Shared->Prop)->Shared->Prop
def Ans(cmp:Ask)(lt:Nat->Nat->Bool)(N:Nat)(s:Shared):Prop:=∀i j C,i<N->j<N->C (lt i j) s->cmp i j C s
structure PmO(N:Nat)(p:Array Nat):Prop where
 sz:p.size=N
 lt:∀i,i<N->p.getD i 0<N
 ne:∀i j,i<j->j<N->p.getD i 0≠p.getD j 0
def UpTo(lt:Nat->Nat->Bool)(p:Array Nat)(k:Nat):Prop:=∀i j,i<j->j<k->lt (p.getD i 0) (p.getD j 0)=true
def DnTo(lt:Nat->Nat->Bool)(p:Array Nat)(k:Nat):Prop:=∀i j,i<j->j<k->lt (p.getD j 0) (p.getD i 0)=true
def dO(p:Array Nat)(i:Nat):p.getD i 0=(p[i]?).getD 0:=by
 rw[Array.getD_eq_getD_getElem?]
def PmO.of{N:Nat}{p:Array Nat}(h:p.toList.Perm (List.range N)):PmO N p:=by
 have hl:p.size=N:=by rw[<- OI,h.length_eq,Ox]
 have nd:p.toList.Nodup:=h.nodup_iff.mpr P8
 have e:∀i (hi:i<N),p.getD i 0=p.toList[i]'(by rw[OI,hl];exact hi):=λi hi=>by
  rw[dO,Qf (by rw[hl];exact hi)]
  simp
 refine⟨hl,λi hi=>?_,λi j hij hj=>?_⟩
 ·rw[e i hi]
  exact OD.mp (h.mem_iff.mp (O0 _))
 ·rw[e i (by omega),e j hj]
  exact OM.mp nd i j _ _ hij
variable{lt:Nat->Nat->Bool}{N:Nat}{cmp:Ask}{s:Shared}
def LtO.flip(O:LtO lt N){p:Array Nat}(P:PmO N p){i j:Nat}(hij:i<j)(hj:j<N)(h:lt (p.getD j 0) (p.getD i 0)=false):lt (p.getD i 0) (p.getD j 0)=true:=by
 rcases O.tot _ _ (P.lt i (by omega)) (P.lt j hj) (P.ne i j hij hj) with z |z
 ·exact z
 ·rw[h] at z;cases z
def UpTo.more(O:LtO lt N){p:Array Nat}{n:Nat}(h:UpTo lt p n)(hn:1<=n)(e:lt (p.getD (n-1) 0) (p.getD n 0)=true):UpTo lt p (n+1):=λi j hij hj=>by
 by_cases hj':j<n
 ·exact h i j hij hj'
 ·obtain rfl:j=n:=by omega
  by_cases hi:i=j-1
  ·rw[hi];exact e
  ·exact O.tr _ _ _ (h i (j-1) (by omega) (by omega)) e
def DnTo.more(O:LtO lt N){p:Array Nat}{n:Nat}(h:DnTo lt p n)(hn:1<=n)(e:lt (p.getD n 0) (p.getD (n-1) 0)=true):DnTo lt p (n+1):=λi j hij hj=>by
 by_cases hj':j<n
 ·exact h i j hij hj'
 ·obtain rfl:j=n:=by omega
  by_cases hi:i=j-1
  ·rw[hi];exact e
  ·exact O.tr _ _ _ e (h i (j-1) (by omega) (by omega))
theorem sy(O:LtO lt N)(C:Ans cmp lt N s){p:Array Nat}(P:PmO N p){Q:Nat->Shared->Prop}:∀(f n:Nat),n+f=N->1<=n->UpTo lt p n->(∀m,n<=m->m<=N->UpTo lt p m->(m=N\/lt (p.getD m 0) (p.getD (m-1) 0)=true)->Q m s)->(kas_asc p f n).kasWp cmp Q s
 |0,n,hf,h1,hu,hq=>hq n (o_ _) (by omega) hu (.inl (by omega))
 |
  f+1,n,hf,h1,hu,hq=>by
  refine C _ _ _ (P.lt n (by omega)) (P.lt (n-1) (by omega)) ?_
  cases z:lt (p.getD n 0) (p.getD (n-1) 0) with
  |true=>exact hq n (o_ _) (by omega) hu (.inr z)
  |false=>exact sy O C P f (n+1) (by omega) (by omega) (hu.more O h1 (O.flip P (by omega) (by omega) z)) λm a b=>hq m (by omega) b
theorem tV(O:LtO lt N)(C:Ans cmp lt N s){p:Array Nat}(P:PmO N p){Q:Array Nat×Nat×Nat->Shared->Prop}:∀(f n:Nat),n+f=N->1<=n->DnTo lt p n->(∀m,n<=m->m<=N->DnTo lt p m->Q (p,m,0) s)->(kas_desc f p n 0).kasWp cmp Q s
 |0,n,hf,h1,hu,hq=>hq n (o_ _) (by omega) hu
 |
  f+1,n,hf,h1,hu,hq=>by
  refine C _ _ _ (P.lt n (by omega)) (P.lt (n-1) (by omega)) ?_
  cases z:lt (p.getD n 0) (p.getD (n-1) 0) with
  |true=>exact tV O C P f (n+1) (by omega) (by omega) (hu.more O h1 z) λm a b=>hq m (by omega) b
  |
   false=>
   refine C _ _ _ (P.lt (n-1) (by omega)) (P.lt n (by omega)) ?_
   rw[O.flip P (by omega) (by omega) z]
   exact hq n (o_ _) (by omega) hu
def zD{p:Array Nat}{n k:Nat}(hn:n<=p.size):(kas_rev p 0 n).getD k 0=if k<n then p.getD (n-1-k) 0 else p.getD k 0:=by
 have e:=getElem?_mirror_all (xs:=p) (i:=0) hn k
 unfold kas_rev
 rw[dO,e]
 by_cases h:k<n
 ·rw[if_pos ⟨N_ _,h⟩,if_pos h,dO]
  congr 2
  omega
 ·rw[if_neg (λz=>h z.2),if_neg h,dO]
def Az(O:LtO lt N)(C:Ans cmp lt N s){p:Array Nat}(P:p.toList.Perm (List.range N)){Q:Nat×Array Nat->Shared->Prop}{n:Nat}(h1:1<=n)(hn:n<=N)(hd:DnTo lt p n)(hq:∀m p',p'.toList.Perm (List.range N)->1<=m->m<=N->UpTo lt p' m->Q (m,p') s):(kas_tail3 n N p).kasWp cmp Q s:=by
 have P':(kas_rev p 0 n).toList.Perm (List.range N):=(Array.perm_iff_toList_perm.mp (mirror_perm _ _ _ _)).trans P
 have sz:=(PmO.of P).sz
 unfold kas_tail3
 rw[KasT.kasWp_bind]
 refine sy O C (PmO.of P') (N-n) n (by omega) h1 (λi j hij hj=>?_) λm a b c _=>hq m _ P' (by omega) b c
 rw[zD (by omega),zD (by omega),if_pos (by omega),if_pos (by omega)]
 exact hd _ _ (by omega) (by omega)
def Cm(O:LtO lt N)(C:Ans cmp lt N s){p:Array Nat}(P:p.toList.Perm (List.range N))(hN:1<=N){Q:Nat×Array Nat->Shared->Prop}(hq:∀m p',p'.toList.Perm (List.range N)->1<=m->m<=N->UpTo lt p' m->Q (m,p') s):(kas_count N p).kasWp cmp Q s:=by
 unfold kas_count
 rw[KasT.kasWp_bind]
 refine sy O C (PmO.of P) (N-1) 1 (by omega) (o_ _) (λi j hij hj=>by omega) λm a b c d=>?_
 by_cases hm:m=N
 ·rw[if_pos (by rw[Ov];exact hm)]
  exact hq m p P a b c
 ·rw[if_neg (by rw[Ov];exact hm)]
  by_cases h1:m>1
  ·rw[if_pos h1]
   refine C _ _ _ ((PmO.of P).lt 0 (by omega)) ((PmO.of P).lt (m-1) (by omega)) ?_
   rw[c 0 (m-1) (by omega) (by omega)]
   exact hq m p P a b c
  ·rw[if_neg h1]
   obtain rfl:m=1:=by omega
   have z:=d.resolve_left hm
   unfold kas_descPart
   rw[KasT.kasWp_bind]
   refine tV O C (PmO.of P) (N-2) 2 (by omega) (by omega) (λi j hij hj=>?_) λm' a' b' c'=>?_
   ·obtain rfl:i=0:=by omega
    obtain rfl:j=1:=by omega
    exact z
   ·dsimp only
    rw[if_neg (by omega)]
    exact Az O C P (by omega) b' c' hq
theorem gr(O:LtO lt N)(C:Ans cmp lt N s){p:Array Nat}(P:PmO N p){k:Nat}(hk:k<N){Q:Nat->Shared->Prop}(hu:UpTo lt p k):∀(f l r:Nat),l<=r->r<=k->r-l<=f->(∀i,i<l->lt (p.getD i 0) (p.getD k 0)=true)->(∀i,r<=i->i<k->lt (p.getD k 0) (p.getD i 0)=true)->(∀m,m<=k->(∀i,i<m->lt (p.getD i 0) (p.getD k 0)=true)->(∀i,m<=i->i<k->lt (p.getD k 0) (p.getD i 0)=true)->Q m s)->(kas_place p k f l r).kasWp cmp Q s
 |0,l,r,h1,h2,h3,h4,h5,hq=>hq l (by omega) h4 λi hi=>h5 i (by omega)
 |
  f+1,l,r,h1,h2,h3,h4,h5,hq=>by
  unfold kas_place
  by_cases h:l >= r
  ·rw[if_pos h]
   exact hq l (by omega) h4 λi hi=>h5 i (by omega)
  ·rw[if_neg h]
   refine C _ _ _ (P.lt k hk) (P.lt _ (by omega)) ?_
   cases z:lt (p.getD k 0) (p.getD ((l+r)/2) 0) with
   |
    true=>
    refine gr O C P hk hu f l ((l+r)/2) (by omega) (by omega) (by omega) h4 (λi hi hik=>?_) hq
    by_cases hr:i=(l+r)/2
    ·rw[hr];exact z
    ·exact O.tr _ _ _ z (hu _ _ (by omega) hik)
   |
    false=>
    refine gr O C P hk hu f ((l+r)/2+1) r (by omega) h2 (by omega) (λi hi=>?_) h5 hq
    have y:=O.flip P (show (l+r)/2<k by omega) hk z
    by_cases hr:i=(l+r)/2
    ·rw[hr];exact y
    ·exact O.tr _ _ _ (hu _ _ (by omega) (by omega)) y
def zu{p:Array Nat}{k l t:Nat}(hk:k<p.size)(hl:l<=k):(bubble p k (k-l)).getD t 0=if t=l then p.getD k 0 else if l<t/\t<=k then p.getD (t-1) 0 else p.getD t 0:=by
 have e:=getElem?_bubble hk (k-l) (by omega) t
 rw[show k-(k-l)=l by omega] at e
 rw[dO,e]
 by_cases h:t=l
 ·rw[if_pos h,if_pos h,dO]
 ·rw[if_neg h,if_neg h]
  by_cases h':l<t/\t<=k
  ·rw[if_pos h',if_pos h',dO]
  ·rw[if_neg h',if_neg h',dO]
theorem yD(O:LtO lt N)(C:Ans cmp lt N s){Q:Array Nat->Shared->Prop}(hq:∀p,p.toList.Perm (List.range N)->UpTo lt p N->Q p s):∀(f:Nat) (p:Array Nat) (k:Nat),p.toList.Perm (List.range N)->k+f=N->1<=k->UpTo lt p k->(kas_bin f p k).kasWp cmp Q s
 |
  0,p,k,P,hf,h1,hu=>by
  obtain rfl:k=N:=by omega
  exact hq p P hu
 |
  f+1,p,k,P,hf,h1,hu=>by
  have sz:=(PmO.of P).sz
  unfold kas_bin
  rw[KasT.kasWp_bind]
  refine gr O C (PmO.of P) (by omega) hu k 0 k (by omega) (o_ _) (by omega) (λi hi=>by omega) (λi h1 h2=>by omega) λm hm ha hb=>?_
  refine yD O C hq f _ (k+1) ((Array.perm_iff_toList_perm.mp (bubble_perm _ _ _)).trans P) (by omega) (by omega) λi j hij hj=>?_
  rw[zu (by omega) hm,zu (by omega) hm]
  by_cases i1:i=m
  ·rw[if_pos i1]
   rw[if_neg (by omega),if_pos (by omega)]
   exact hb _ (by omega) (by omega)
  ·rw[if_neg i1]
   by_cases j1:j=m
   ·rw[if_pos j1,if_neg (by omega)]
    exact ha i (by omega)
   ·rw[if_neg j1]
    by_cases i2:m<i
    ·rw[if_pos (by omega),if_pos (by omega)]
     exact hu _ _ (by omega) (by omega)
    ·rw[if_neg (by omega)]
     by_cases j2:m<j
     ·rw[if_pos (by omega)]
      exact hu _ _ (by omega) (by omega)
     ·rw[if_neg (by omega)]
      exact hu _ _ (by omega) (by omega)
def Fi(O:LtO lt N)(C:Ans cmp lt N s)(hN:1<=N){Q:Array Nat->Shared->Prop}(hq:∀p,p.toList.Perm (List.range N)->UpTo lt p N->Q p s):(kas_sort N).kasWp cmp Q s:=by
 unfold kas_sort
 rw[KasT.kasWp_bind]
 refine Cm O C (by simp) hN λm p P h1 h2 hu=>?_
 dsimp only
 by_cases h:m<N
 ·rw[if_pos h,show max m 1=m by omega]
  exact yD O C hq _ _ _ P (by omega) h1 hu
 ·rw[if_neg h]
  obtain rfl:m=N:=by omega
  exact hq p P hu
end L2
namespace L2
open PySem PySem.Spec PyProof.Rows
def CW(H:Hp):Prop:=∀b,H b=none\/(∃o xs,H b=some (.frz o xs))\/H b=some (.tbl #[])
structure TabsOk(K:W.Frag)(ts:List Addr)(h:Heap):Prop where
 at_:∀P∈ts,h.get? P=some (W.tabObj #[])
 no:∀P∈ts,K.lookup P=none
 cd:∀P∈ts,∃c,W.codeHdIn K c P=true
def spT(K:W.Frag)(mg:Ra)(ts:List Addr):Sp:=λvs H Q _=>∃(a:Addr) (ns:List Int),vs=[.ref a]/\CW H/\SqL K H a (ns.map V.int)/\ns.length<=63/\(∀P∈ts,H P=some (.tbl #[]))/\BMok K mg H/\∀H',Q (.bl true) H'
def L5{Pr:Program}{w:World}{K:W.Frag}{mg mb:Ra}{k:Nat}{fa a:Addr}{fd:FuncData}{x:Str}{s1:Shared}{vs:List Value}{ns:List Int}{ts:List Addr}
 (KX:K.In s1.heap) (hns:s1.heap.Ns mainGlobals mg) (hb:s1.heap.Ns builtinsNs mb) (hbb:∀y:Str,y ≠ "__name__"->mb y=bootBuiltins y) (hlim:s1.heap.NoLimit) (hg:s1.gens=#[]) (TO:TabsOk K ts s1.heap) (hbm:∃bm ob,mg "__builtins__"=some (.ref bm)/\bm≠builtinsNs/\s1.heap.get? bm=some ob/\ob.cls=.type "module" /\ ob.dict=some builtinsNs/\ob.data=.plain)
 (ha:s1.heap.get? a=some { cls:=.type "list",data:=.seq vs.toArray }) (hi:IntsAre vs ns) (hl:ns.length<=63) (hr:Room k callerA)
 (F:∀base:Heap,K.In base->base.Ns mainGlobals mg->FnOk Pr w K mg base (CX1 Pr w) k fa fd [x] (spT K mg ts)) (hbind:∀(s:Shared) (u:Value),BindsTo s fd ⟨[u],[]⟩ [(x,u)]):
 codeAny (model Pr w) callerA (.call (.ref fa) ⟨[.ref a],[]⟩) (λr s'=>r=.ok (.ret (.bool true))/\OldK s1.heap s'.heap/\s'.os=s1.os/\AllBare s'.gens) s1:=by
 have rv:=jC hi
 have hz:ns.length<=sizeLine:=E_ hl (by decide)
 have ant:a∉ts:=λz=>by
  have:=TO.at_ a z
  rw[ha] at this
  cases this
 obtain⟨bm,ob,b1,b2,b3,b4,b5,b6⟩:=hbm
 have bmG:bm≠mainGlobals:=λz=>by
  obtain⟨o,es,ep,e,dd,_⟩:=hns
  rw[z,e] at b3;cases b3;rw[dd] at b6;cases b6
 have bmt:bm∉ts:=λz=>by
  have:=TO.at_ bm z
  rw[b3] at this;cases this;cases b6
 have bma:bm≠a:=λz=>by
  rw[z,ha] at b3;cases b3;cases b6
 have go
  : ∀Hs:Option HO,(Hs=none\/∃o xs,Hs=some (.frz o (.lst xs)))->(∀u,Hs=some u->ObjOk Pr w (λ_=>none) s1.heap a u)->(Hs≠none->K.lookup a=none)->(∀H:Hp,H a=Hs->SqL K H a (ns.map V.int))->
  codeAny (model Pr w) callerA (.call (.ref fa) ⟨[.ref a],[]⟩) (λr s'=>r=.ok (.ret (.bool true))/\OldK s1.heap s'.heap/\s'.os=s1.os/\AllBare s'.gens) s1:=by
  intro Hs h1 h2 h3 h4
  obtain⟨H,eH⟩:∃H:Hp,H=λb=>if b=a then Hs else if b∈ts then some (.tbl #[]) else if b=bm/\K.lookup bm=none then some (.frz ob (.ext λ_=>True)) else none:=⟨_,rfl⟩
  have Ha:H a=Hs:=by rw[eH];exact if_pos rfl
  have Ht:∀P∈ts,H P=some (.tbl #[]):=λP hP=>by
   rw[eH]
   show (if P=a then _ else _)=_
   rw[if_neg (λz=>ant (by rw[<- z];exact hP)),if_pos hP]
  have Hb:K.lookup bm=none->H bm=some (.frz ob (.ext λ_=>True)):=λq=>by
   rw[eH]
   show (if bm=a then _ else _)=_
   rw[if_neg bma,if_neg bmt,if_pos ⟨rfl,q⟩]
  have Hn
   : ∀b,H b≠none->(b=a/\Hs≠none)\/b∈ts\/(b=bm/\K.lookup bm=none):=λb n=>by
   by_cases q:b=a
   ·exact .inl ⟨q,by rw[<- Ha,<- q];exact n⟩
   ·by_cases q2:b∈ts
    ·exact .inr (.inl q2)
    ·by_cases q3:b=bm/\K.lookup bm=none
     ·exact .inr (.inr q3)
     ·refine absurd ?_ n
      rw[eH]
      show (if b=a then _ else _)=_
      rw[if_neg q,if_neg q2,if_neg q3]
  have hO:CW H:=λb=>by
   by_cases n:H b=none
   ·exact .inl n
   ·rcases Hn b n with ⟨e,n2⟩ |e |⟨e,y⟩
    ·rw[e,Ha]
     rcases h1 with z |⟨o,xs,z⟩
     ·exact absurd z n2
     ·exact .inr (.inl ⟨_,_,z⟩)
    ·exact .inr (.inr (Ht b e))
    ·rw[e]
     exact .inr (.inl ⟨_,_,Hb y⟩)
  have hok:HOk Pr w H s1.heap:=λb u e=>by
   rcases Hn b (by rw[e];simp) with ⟨z,n2⟩ |z |⟨z,y⟩
   ·subst z
    rw[Ha] at e
    have q:=h2 u e
    rcases h1 with y |⟨o,xs,y⟩
    ·exact absurd y n2
    ·rw[e] at y;cases y
     exact q
   ·have y:=Ht b z
    rw[e] at y;cases y
    exact TO.at_ b z
   ·subst z
    rw[Hb y] at e;cases e
    exact⟨b3,trivial,⟨ob,b3⟩,λ_ _ _ _=>trivial⟩
  have keep:∀{b:Addr}{o:Obj},s1.heap.get? b=some o->H b=none->(eS s1.heap H).get? b=some o:=λe n=>pQ e n
  have noD:∀{b:Addr}{o:Obj}{es:Array DictEntry}{ep:Nat},s1.heap.get? b=some o->o.data=.dict es ep->H b=none:=λ{b o es ep} e dd=>by
   by_cases n:H b=none
   ·exact n
   ·rcases Hn b n with ⟨z,_⟩ |z |⟨z,_⟩
    ·subst z
     rw[ha] at e;cases e;cases dd
    ·rw[TO.at_ b z] at e;cases e;cases dd
    ·subst z
     rw[b3] at e;cases e;rw[b6] at dd;cases dd
  have nsK:∀{b:Addr}{m:Ra},s1.heap.Ns b m->(eS s1.heap H).Ns b m:=λ{b m} ⟨o,es,ep,e,dd,r⟩=>⟨o,es,ep,keep e (noD e dd),dd,r⟩
  have kb:K.In (eS s1.heap H):=λb o e=>keep (KX b o e) (by
   by_cases n:H b=none
   ·exact n
   ·rcases Hn b n with ⟨z,y⟩ |z |⟨z,y⟩
    ·subst z
     have:=h3 y
     rw[e] at this;cases this
    ·have:=TO.no b z
     rw[e] at this;cases this
    ·subst z
     rw[e] at y;cases y)
  have hM:Mod K mg (eS s1.heap H):=⟨kb,nsK hns,⟨mb,nsK hb,hbb⟩,let ⟨mc,q1,q2⟩:=hlim;⟨mc,nsK q1,q2⟩⟩
  have e0:Env0 Pr w K mg (eS s1.heap H) callerA [] s1 H:=⟨rfl,hM,λb o e=>uJ e,Nat.le_of_eq (oq _ _),trivial,λb z=>absurd (show b∈([]:List Addr) from z) (by simp),hok,.of_eq hg⟩
  refine QK ((F _ kb (nsK hns)).run callerA [] s1 H ⟨[.ref a],[]⟩ [.ref a] [.ref a] (λv _=>v=.bl true) (λ_ _ _=>False) hr e0 (hbind s1 (.ref a)) (.cons rfl .nil) ⟨a,ns,rfl,hO,h4 H Ha,hl,Ht,?bm,λ_=>rfl⟩) λr s' h=>?_
  case bm=>
   refine⟨bm,ob,b1,b2,bmG,⟨b4,b5,b6⟩,?_⟩
   cases q:K.lookup bm with
   |none=>exact .inr ⟨_,Hb q⟩
   |
    some o=>
    have:=KX bm o q
    rw[b3] at this;cases this
    exact .inl rfl
  cases r with
  |
   error e=>
   obtain⟨_,_,_,_,_,_,_,z⟩:=h
   exact z.2.2.elim
  |
   ok fl=>
   cases fl with
   |next=>exact False.elim h
   |brk=>exact False.elim h
   |cont=>exact False.elim h
   |
    ret u=>
    obtain⟨v,H',os,bare,un,hok',r',q⟩:=h
    have q':v=.bl true:=q
    subst q'
    obtain rfl:u=Value.bool true:=r'
    refine⟨rfl,⟨λb o e=>?_,λb o e=>?_⟩,os,bare⟩
    ·by_cases n:H b=none
     ·exact .inl (un.keep b o e n (λz=>absurd (show b∈([]:List Addr) from z) (by simp)) (by simp))
     ·have fz:∀ob xs,H b=some (.frz ob xs)->asItWas s1.heap s'.heap b o:=λob xs y=>by
       have y2:=un.frzs b ob _ y
       obtain⟨e1,_⟩:=hok b _ y
       obtain⟨e2,_⟩:=hok' b _ y2
       rw[e] at e1;cases e1
       exact .inl e2
      rcases Hn b n with ⟨z,n2⟩ |z |⟨z,y⟩
      ·rcases h1 with y |⟨ob,xs,y⟩
       ·exact absurd y n2
       ·exact fz _ _ (by rw[z,Ha];exact y)
      ·obtain⟨more,y⟩:=un.tbls b #[] (Ht b z)
       obtain⟨c,hc⟩:=TO.cd b z
       have tab:=(W.codeHd_of_K KX hc).tab (TO.at_ b z)
       have e2:=TO.at_ b z
       rw[e] at e2;cases e2
       exact .inr (.inl ⟨tab.isCodeTable,rfl,#[],more,rfl,hok' b _ y⟩)
      ·exact fz _ _ (by rw[z];exact Hb y)
    ·exact un.there b o e (by simp)
 cases hk:K.lookup a with
 |
  some o=>
  have e:=KX a o hk
  rw[ha] at e
  cases e
  exact go none (.inl rfl) (λu z=>nomatch z) (λz=>absurd rfl z) λH _=>.inr ⟨_,vs.toArray,_,hk,rfl,rfl,rfl,by rw[t_,hi.length];exact hz,by simpa using rv⟩
 |
  none=>
  exact go (some (.frz { cls:=.type "list",data:=.seq vs.toArray } (.lst (ns.map V.int)))) (.inr ⟨_,_,rfl⟩) (λu z=>by cases z;exact⟨ha,by rw[l_];exact hz,vs,_,rv,ha⟩) (λ_=>hk) λH e=>.inl (.inr ⟨_,e⟩)
def xM{Pr:Program}{w:World}{K:W.Frag}{mg:Ra}{base:Heap}{x y:Str}{k:Nat}{S:Fn}{ts:List Addr}(C:Callee Pr w K mg base x k [y] (spD K mg 1 S))(hT:∀P q,LamT K mg P q->P∈ts)
 (hS:∀(d:D) (h:AH) (ns:List Int),ns.length<=63->Script h d ns->∃h',S [d] h=.ok (.bl true) h'):Callee Pr w K mg base x k [y] (spT K mg ts):=by
 refine C.imp λvs H Q E ⟨a,ns,e,hO,hq,hl,ht,hB,q⟩=>?_
 subst e
 have tb:∀ρ:List Addr,(∀P∈ts,P∉ρ)->∀P q,LamT K mg P q->TbP ρ H P q/\BMok K mg H:=λρ n P q l=>⟨⟨n P (hT P q l),#[],ht P (hT P q l),trivial,λpos cv z=>by cases z⟩,hB⟩
 rcases hq with (hq |⟨o,hq⟩) |hq
 ·rcases hO a with z |⟨o,xs,z⟩ |z <;> rw[hq] at z <;> cases z
 ·obtain⟨h',e⟩:=hS (.ref 0) [.fz (ns.map D.int)] ns hl ⟨.inl ⟨0,rfl,rfl⟩⟩
  refine⟨[a],[.fz (ns.map D.int)],[.ref 0],⟨rfl,by simp,tb _ λP hP z=>?_,λn b ob e1 e2=>?_⟩,.cons (.ref rfl) .nil,rfl,?_⟩
  ·rw[OL] at z
   subst z
   have:=ht P hP
   rw[hq] at this;cases this
  ·cases n with
   |zero=>cases e1;cases e2;exact⟨o,_,hq,i6 ns⟩
   |succ n=>simp at e1
  ·rw[e]
   exact λρ' H' l' w' v rv=>by cases rv;exact q H'
 ·obtain⟨h',e⟩:=hS (.kl (ns.map D.int)) [] ns hl ⟨.inr rfl⟩
  refine⟨[],[],[.kl (ns.map D.int)],⟨rfl,by simp,tb _ λP hP z=>absurd z (by simp),λn b ob e1 e2=>by simp at e1⟩,.cons (.kl hq (i6 ns)) .nil,rfl,?_⟩
  rw[e]
  exact λρ' H' l' w' v rv=>by cases rv;exact q H'
def walk_lawT{l:W.OpenLaw}{q:Program}{loose:List Str}{XP:(Str->Option Value)->Heap->Prop}{YP:World->Heap->Prop}{d:DefRec}{K:Params->W.Frag}{x:Str}{k:Nat}{ts:List Addr}(hn:l.most=some 63)(hdf:d.params.defaults=[])(hr:Room k callerA)
 (hY:∀(w:World) (h:Heap),YP w h->(K w.params).In h/\TabsOk (K w.params) ts h)
 (F:∀(w:World) (mg:Ra) (h:Heap),(K w.params).In h->h.Ns mainGlobals mg->∀base:Heap,(K w.params).In base->base.Ns mainGlobals mg->Callee l.prog w (K w.params) mg base d.name k [x] (spT (K w.params) mg ts))
 (Dd:∀(w:World) (mg:Ra) (h:Heap),(K w.params).In h->h.Ns mainGlobals mg->∃st,Def (K w.params) mg d.name st/\∀(kV doc pm:Value) (an:Option Addr) (cdv ct:Value) (us:List Value),us.length=1->bindArgs (W.fnOf d.name d.name (bI st) (aK st) (ak st) .none kV doc pm an cdv ct) ⟨us,[]⟩=pure ([x].zip us)):
 W.WalkO q loose XP YP l.row.toRowW d [] (λf vs=>PySem.call f vs):=by
 refine Att.attach_call hn hdf λw s0 s1 mg mb fa o pm cd doc a vs ns G Y ho hd jp hmg hobj hints be hg=>?_
 obtain⟨KX,TO⟩:=hY w _ Y
 obtain⟨st,De,hbind⟩:=Dd w mg _ KX G.T.g
 obtain⟨f,fd,Ff,m⟩:=De.ex
 have e:=hmg.symm.trans m
 cases e
 obtain⟨oc,od,kV,doc',pm',an,cdv,ct,osl,rfl,lk,hcd'⟩:=Ff.ex
 refine L5 KX G.T.g G.T.b G.T.builtins G.T.nolimit hg TO G.T.bmain hobj hints be hr (λbase kb nb=>?_) (λs u=>.of_eq (hbind kV doc' pm' an cdv ct [u] rfl))
 obtain⟨f',fd',F',m',kp',b',oc',od',osl',lk'⟩:=(F w mg _ KX G.T.g base kb nb).ex
 rw[m] at m'
 cases m'
 rw[lk] at lk'
 cases lk'
 exact F'
end L2
namespace L2
open PySem PySem.W PySem.Calls PyProof.Rows
noncomputable def a8(x y:Int×Int):Bool:=decide (x.1<y.1\/(x.1=y.1/\x.2<y.2))
def lu(x:Int×Int):a8 x x=false:=by
 unfold a8
 rw[PL]
 omega
def uB{x y z:Int×Int}(h1:a8 x y=true)(h2:a8 y z=true):a8 x z=true:=by
 unfold a8 at *
 rw[OR] at *
 omega
def p9{x y:Int×Int}(h:x≠y):a8 x y=true\/a8 y x=true:=by
 unfold a8
 rw[OR,OR]
 have:¬ (x.1=y.1/\x.2=y.2):=λz=>h (Prod.ext z.1 z.2)
 omega
def tS{α:Type}(d:α)(ks:List α):((List.range ks.length).map λi=>ks.getD i d)=ks:=List.ext_getElem (by simp) λi _ h=>by simp [h]
def xD{x y:Int×Int}(h1:a8 x y=true):a8 y x=false:=by
 cases z:a8 y x with
 |false=>rfl
 |true=>have:=uB h1 z;rw[lu] at this;cases this
def m5{α:Type}{k:α->Int×Int}{a b:List α}(h:a.Pairwise λx y=>a8 (k x) (k y)=true)(h':b.Pairwise λx y=>a8 (k x) (k y)=true)(p:a.Perm b):a=b:=p.eq_of_pairwise (λx y _ _ h1 h2=>by rw[xD h1] at h2;cases h2) h h'
def Du{α:Type}(k:α->Int×Int)(hk:∀{x y},k x=k y->x=y){l:List α}(nd:l.Nodup):(l.mergeSort λx y=>!a8 (k y) (k x)).Pairwise λx y=>a8 (k x) (k y)=true:=by
 have srt:=List.pairwise_mergeSort (le:=λx y:α=>!a8 (k y) (k x)) (λa b c h1 h2=>by
  simp only[a8,PU,PL] at *
  omega) (λa b=>by
  simp only[a8,PN,PU,PL]
  omega) l
 refine List.Pairwise.imp (λ{a b} h=>?_) (List.Pairwise.and ((QO ..).nodup_iff.mpr nd) srt)
 have:=h.2
 simp only[PU] at this
 exact (p9 λy=>h.1 (hk y)).resolve_right (by rw[this];exact Bool.noConfusion)
def ltP(ks:List (Int×Int))(i j:Nat):Bool:=a8 (ks.getD i (0,0)) (ks.getD j (0,0))
def JS{ks:List (Int×Int)}(nd:ks.Nodup):LtO (ltP ks) ks.length where
 irr:=λi=>lu _
 tr:=λi j k h1 h2=>uB h1 h2
 tot:=λi j hi hj hne=>by
  refine p9 ?_
  rw[Em,Em,x_ hi,x_ hj]
  show ks[i]≠ks[j]
  rcases Nat.lt_or_gt_of_ne hne with z |z
  ·exact OM.mp nd i j hi hj z
  ·exact λy=>OM.mp nd j i hj hi z y.symm
def ui{ks:List (Int×Int)}{n:Nat}{p:Array Nat}(h1:p.toList.Perm (List.range n))(h2:UpTo (ltP ks) p n):p.toList.Pairwise λi j=>a8 (ks.getD i (0,0)) (ks.getD j (0,0))=true:=by
 have sz:=(PmO.of h1).sz
 rw[OM]
 intro i j hi hj hij
 rw[OI] at hi hj
 have:=h2 i j hij (by omega)
 rw[dO,dO,Qf hi,Qf hj] at this
 exact this
def TupAt(h:Heap)(v:Value)(x:Int×Int):Prop:=∃(a:Addr) (e:Nat) (dd:Option Addr) (sl:Array (Option Value)) (t1 t2:Tok),v=.ref a/\h.get? a=some { cls:=.type "tuple",dict:=dd,data:=.seq #[.int x.1 t1,.int x.2 t2] e,slots:=sl }
def TupAt.keep{h h':Heap}{v:Value}{x:Int×Int}{b:Addr}(t:TupAt h v x)(hb:∃o,h.get? b=some o/\o.cls=.type "list")(k:∀c o,c≠b->h.get? c=some o->h'.get? c=some o):TupAt h' v x:=by
 obtain⟨a,e,dd,sl,t1,t2,rfl,ha⟩:=t
 obtain⟨o,ho,hc⟩:=hb
 exact⟨a,e,dd,sl,t1,t2,rfl,k a _ (λz=>by rw[z,ho] at ha;cases ha;injection hc with hc;exact absurd hc (by decide)) ha⟩
def TupAt.mono{h h':Heap}{v:Value}{x:Int×Int}(t:TupAt h v x)(k:∀c o,h.get? c=some o->h'.get? c=some o):TupAt h' v x:=by
 obtain⟨a,e,dd,sl,t1,t2,rfl,ha⟩:=t
 exact⟨a,e,dd,sl,t1,t2,rfl,k a _ ha⟩
section
variable{prog:Program}{w:World}{A:Around}{E:Rf}{s:Shared}
def Fs{v u:Value}{x y:Int×Int}{Q:Bool->Shared->Prop}(hv:TupAt s.heap v x)(hu:TupAt s.heap u y)(h:Q (a8 x y) s):wpAny (model prog w) A (keyLt' (tuples' true) v u) Q E s:=by
 obtain⟨a,e,dd,sl,t1,t2,rfl,ha⟩:=hv
 obtain⟨b,e',dd',sl',t3,t4,rfl,hb⟩:=hu
 refine kat_lt ha rfl hb rfl ?_
 show KatLex prog w A true false Q [(.int x.1 t1,.int y.1 t3),(.int x.2 t2,.int y.2 t4)] 0 s
 refine kat_cons (wpAny_eqBool_int ?_)
 by_cases h1:x.1=y.1
 ·rw[show (x.1==y.1)=true from Ov.mpr h1]
  refine kat_yes (kat_cons (wpAny_eqBool_int ?_))
  by_cases h2:x.2=y.2
  ·rw[show (x.2==y.2)=true from Ov.mpr h2]
   refine kat_yes (kat_nil ?_)
   rw[show a8 x y=false from by unfold a8;rw[PL];omega] at h
   exact h
  ·rw[show (x.2==y.2)=false from D_.mpr h2]
   refine kat_no (kat_one _ _ (lt_int ?_))
   rw[show a8 x y=decide (x.2<y.2) from P_.mpr (by omega)] at h
   exact h
 ·rw[show (x.1==y.1)=false from D_.mpr h1]
  refine kat_no (oneLt_int ?_)
  rw[show a8 x y=decide (x.1<y.1) from P_.mpr (by omega)] at h
  exact h
def TupsAt(h:Heap):List Value->List (Int×Int)->Prop
 | [],[]=>True
 |v::vs,x::xs=>TupAt h v x/\TupsAt h vs xs
 |_,_=>False
theorem TupsAt.len{h:Heap}:∀{vs:List Value}{xs:List (Int×Int)},TupsAt h vs xs->vs.length=xs.length
 | [],[],_=>rfl
 | [],_::_,t=>t.elim
 |_::_,[],t=>t.elim
 |_::_,_::_,t=>by rw[A_,A_,t.2.len]
theorem TupsAt.get{h:Heap}:∀{vs:List Value}{xs:List (Int×Int)} (i:Nat),TupsAt h vs xs->i<xs.length->TupAt h (vs.getD i Value.none) (xs.getD i (0,0))
 | [],[],i,_,hi=>absurd hi (by simp)
 | [],_::_,i,t,_=>t.elim
 |_::_,[],i,t,_=>t.elim
 |_::_,_::_,0,t,_=>t.1
 |_::vs,_::xs,i+1,t,hi=>TupsAt.get (vs:=vs) (xs:=xs) i t.2 (by simpa using hi)
theorem TupsAt.imp{h h':Heap}(k:∀v x,TupAt h v x->TupAt h' v x):∀{vs:List Value}{xs:List (Int×Int)},TupsAt h vs xs->TupsAt h' vs xs
 | [],[],_=>trivial
 | [],_::_,t=>t.elim
 |_::_,[],t=>t.elim
 |_::_,_::_,t=>⟨k _ _ t.1,t.2.imp k⟩
theorem TupsAt.snoc{h:Heap}{v:Value}{x:Int×Int}(tv:TupAt h v x):∀{vs:List Value}{xs:List (Int×Int)},TupsAt h vs xs->TupsAt h (vs++[v]) (xs++[x])
 | [],[],_=>⟨tv,trivial⟩
 | [],_::_,t=>t.elim
 |_::_,[],t=>t.elim
 |_::_,_::_,t=>⟨t.1,t.2.snoc tv⟩
theorem TupsAt.kat{h:Heap}:∀{vs:List Value}{xs:List (Int×Int)},TupsAt h vs xs->∃fs,KatTups h vs fs/\fs.length=xs.length/\∀f∈fs,∃i t,f=Value.int i t
 | [],[],_=>⟨[],trivial,rfl,λf z=>nomatch z⟩
 | [],_::_,t=>t.elim
 |_::_,[],t=>t.elim
 |
  _::_,x::_,t=>by
  obtain⟨fs,k,l,q⟩:=t.2.kat
  obtain⟨a,e,dd,sl,t1,t2,rfl,ha⟩:=t.1
  refine⟨.int x.1 t1::fs,⟨⟨a,_,_,_,rfl,ha,rfl,rfl,rfl⟩,k⟩,by rw[A_,A_,l],λf hf=>?_⟩
  rcases I_.mp hf with rfl |hf
  ·exact⟨_,_,rfl⟩
  ·exact q f hf
def vw{vs:List Value}{xs:List (Int×Int)}{Q:SortKind->Shared->Prop}(t:TupsAt s.heap vs xs)(h2:2<=xs.length)(h:Q (tuples' true) s):wpAny (model prog w) A (keyKind' vs.toArray) Q E s:=by
 obtain⟨fs,k,l,q⟩:=t.kat
 refine kat_kind (T:=.type "int") k (by omega) (λf hf=>?_) (by decide) h
 obtain⟨i,t,rfl⟩:=q f hf
 exact .now
def xr{vs:List Value}{xs:List (Int×Int)}(t:TupsAt s.heap vs xs):Ans (kas_ask prog w A (tuples' true) vs) (ltP xs) xs.length s:=λi j C hi hj c=>Fs (t.get i hi) (t.get j hj) c
def qf{β:Type}{vs ks:List Value}{xs:List (Int×Int)}{k:Unit×SortSt->Sem β}{P:β->Shared->Prop}(hkl:ks.length=vs.length)(h64:vs.length<64)(T:TupsAt s.heap ks xs)(nd:xs.Nodup)(h:∀(p:Array Nat) st',p.toList.Perm (List.range vs.length)->UpTo (ltP xs) p vs.length->(arrOf st').map (λp:Keyed=>p.2)=List.toArray (p.toList.map λi=>vs.getD i Value.none)->failedOf st'=none->wpAny (model prog w) A (k ((),st')) P E s):
 wpAny (model prog w) A (let f:=λκ=>(if vs.toArray.size<2 then pure () else sortRuns').run (SortSt.mk' κ (ks.toArray.zip vs.toArray) #[] 7 none) >>= k;if vs.toArray.size<2 then pure general' >>= f else keyKind' ks.toArray >>= f) P E s:=by
 dsimp only
 have kl:=T.len
 by_cases h2:vs.toArray.size<2
 ·rw[if_pos h2,if_pos h2]
  rw[t_] at h2
  refine k_ <| u_ ?_
  rw[StateT.run_pure]
  refine k_ <| u_ (h (List.toArray (List.range vs.length)) _ (.refl _) (λi j hij hj=>by omega) ?_ rfl)
  show (ks.toArray.zip vs.toArray).map (λp:Keyed=>p.2)=List.toArray ((List.range vs.length).map _)
  rw[tS]
  apply Array.toList_inj.mp
  rw[Array.toList_map,ksk_zip]
  exact List.map_snd_zip (by simp [hkl])
 ·rw[if_neg h2,if_neg h2]
  rw[t_] at h2
  refine k_ <| vw T (by omega) ?_
  have an:=xr (prog:=prog) (w:=w) (A:=A) T
  have O:=JS nd
  rw[<- kl,hkl] at an O
  have run:=kat_run (prog:=prog) (w:=w) (A:=A) (E:=E) (κ:=tuples' true) (s:=s) (Q:=λst' s'=>s'=s/\wpAny (model prog w) A (k ((),st')) P E s) (G:=λp s'=>s'=s/\p.toList.Perm (List.range vs.length)/\UpTo (ltP xs) p vs.length) hkl (by omega) h64
   (λp st' s' a1 a2 a3 a4=>⟨a4.1,h p st' a4.2.1 a4.2.2 (kat_snds hkl a2) a3⟩) (Fi O an (by omega) λp p1 p2=>⟨rfl,p1,p2⟩)
  refine k_ <| OB run ?_ λ_ _ z=>z
  rintro⟨⟨⟩,st'⟩ _ ⟨rfl,z⟩
  exact z
end
set_option maxHeartbeats 4000000
section
variable{prog:Program}{w:World}{A:Around}{E:Rf}{s:Shared}
def Cz{a kS:Addr}{st:SortSt}{out ks:List Value}{e e1:Nat}{P:PySem.Fin->Shared->Prop}(hk:s.heap.get? kS=some (seqObj "list" (List.toArray ks) e))(ha:s.heap.get? a=some (seqObj "list" #[] e1))(hne:kS≠a)(hout:(arrOf st).map (λp:Keyed=>p.2)=List.toArray out)(hf:failedOf st=none)(hz:out.length<64)(hkz:ks.length<64)
 (h:∀h' c,(∀b o,b≠kS->b≠a->s.heap.get? b=some o->h'.get? b=some o)->h'.get? a=some (seqObj "list" out.toArray c)->P (.done (.ret .none)) { s with heap:=h' }):wpAny (model prog w) A (ksk_tail a false e1 (.ref kS) st) P E s:=by
 have u1:=ON s.heap kS (Obj.mapSeq λ_=>(#[]:Array Value))
 have a1:=(u1.2 a hne.symm).trans ha
 have u2:=ON (s.heap.update kS (Obj.mapSeq λ_=>(#[]:Array Value))) a (Obj.mapSeq λ_=>(arrOf st).map (·.2))
 obtain⟨c,hc⟩:∃c,((s.heap.update kS (Obj.mapSeq λ_=>(#[]:Array Value))).update a (Obj.mapSeq λ_=>(arrOf st).map (·.2))).get? a=some (seqObj "list" ((arrOf st).map (·.2)) c):=⟨_,Qi a1 λ_=>(arrOf st).map (·.2)⟩
 have zs:((arrOf st).map (·.2)).size<64:=by rw[hout];exact hz
 have big:sizeLine=16777216:=rfl
 unfold ksk_tail
 try dsimp only
 refine k_ <| Qd hk rfl ?_ (by rw[t_];omega) (N_ _)
 refine k_ <| wpAny_letGo ?_
 refine k_ <| seqEpoch_at a1 rfl ?_
 refine k_ <| Qd a1 rfl ?_ (N_ _) (by show ((arrOf st).map (·.2)).size<=_;omega)
 rw[hf]
 simp only[bne_self_eq_false,Pn,Qn]
 exact u_ (h _ c (λb o n1 n2 z=>(u2.2 b n2).trans ((u1.2 b n1).trans z)) (hc.trans (by rw[hout])))
def E1{a kS:Addr}{vs ks:List Value}{xs:List (Int×Int)}{e e1:Nat}{P:PySem.Fin->Shared->Prop}(hl:xs.length=vs.length)(h64:vs.length<64)(T:TupsAt s.heap ks xs)(nd:xs.Nodup)(hk:s.heap.get? kS=some (seqObj "list" (List.toArray ks) e))(ha:s.heap.get? a=some (seqObj "list" #[] e1))(hne:kS≠a)
 (h:∀(p:Array Nat) h' c,p.toList.Perm (List.range vs.length)->UpTo (ltP xs) p vs.length->(∀b o,b≠kS->b≠a->s.heap.get? b=some o->h'.get? b=some o)->h'.get? a=some (seqObj "list" (p.toList.map λi=>vs.getD i Value.none).toArray c)->P (.done (.ret .none)) { s with heap:=h' }):
 wpAny (model prog w) A (ksk_end a false vs.toArray e1 (.ref kS) ks.toArray) P E s:=by
 have hkl:ks.length=vs.length:=by rw[T.len,hl]
 unfold ksk_end
 try dsimp only
 refine qf hkl h64 T nd λp st' p1 p2 out hf=>?_
 exact Cz hk ha hne out hf (by rw[l_,p1.length_eq,Ox];exact h64) (by omega) λh' c k z=>h p h' c p1 p2 k z
def Ax{a:Addr}{f:Value}{vs:List Value}{n:Nat}{xs:List (Int×Int)}{P:PySem.Fin->Shared->Prop}(ho:s.heap.get? a=some (seqObj "list" vs.toArray n))(h64:vs.length<64)(hx:xs.length=vs.length)(nd:xs.Nodup)
 (hc:∀(i:Nat) (v:Value) (x:Int×Int) (h':Heap) (tk:Nat),vs[i]?=some v->xs[i]?=some x->(∀b o,b≠a->s.heap.get? b=some o->h'.get? b=some o)->wpAny (model prog w) A (call f [v]) (λk s2=>∃h2 tk2,s2={ s with heap:=h2,toks:=tk2 }/\(∀b o,h'.get? b=some o->h2.get? b=some o)/\TupAt h2 k x) (λ_ _=>False) { s with heap:=h',toks:=tk })
 (h:∀(p:Array Nat) h' c tk,p.toList.Perm (List.range vs.length)->UpTo (ltP xs) p vs.length->(∀b o,b≠a->s.heap.get? b=some o->h'.get? b=some o)->h'.get? a=some (seqObj "list" (p.toList.map λi=>vs.getD i Value.none).toArray c)->P (.done (.ret .none)) { s with heap:=h',toks:=tk }):
 wpAny (model prog w) A (ksk_tree a f false) P E s:=by
 have lt:=w_ ho
 have u1:=ON s.heap a (Obj.mapSeq λ_=>(#[]:Array Value))
 obtain⟨e1,a1⟩:∃e1,(s.heap.update a (Obj.mapSeq λ_=>(#[]:Array Value))).get? a=some (seqObj "list" #[] e1):=⟨_,Qi ho λ_=>#[]⟩
 have big:sizeLine=16777216:=rfl
 unfold ksk_tree
 refine k_ <| listItems_at ho rfl ?_
 refine k_ <| Qd ho rfl ?_ (by rw[t_];omega) (N_ _)
 refine k_ <| seqEpoch_at a1 rfl ?_
 refine k_ <| wpAny_newTuple ?_ (by show vs.length<=_;omega)
 refine k_ <| Qw ?_ (N_ _)
 refine OW ?_
 obtain⟨h3,e3⟩:∃h3,h3=((s.heap.update a (Obj.mapSeq λ_=>(#[]:Array Value))).push (seqObj "tuple" vs.toArray 0)).push (seqObj "list" #[] 0):=⟨_,rfl⟩
 obtain⟨kS,ek⟩:∃kS,kS=((s.heap.update a (Obj.mapSeq λ_=>(#[]:Array Value))).push (seqObj "tuple" vs.toArray 0)).objs.size:=⟨_,rfl⟩
 have hk0:h3.get? kS=some (seqObj "list" #[] 0):=by rw[e3,ek];exact C_ _ rfl
 have ha0:h3.get? a=some (seqObj "list" #[] e1):=by rw[e3];exact n_ _ (n_ _ a1)
 have hlt:a<kS:=by rw[ek,size_push',Heap.size_update];exact Nat.lt_succ_of_lt lt
 have k0:∀b o,b≠a->s.heap.get? b=some o->b≠kS/\h3.get? b=some o:=λb o n z=>⟨λy=>by
  have:=w_ z
  rw[y,ek,size_push',Heap.size_update] at this
  exact OV _ (Nat.lt_of_succ_lt this),by rw[e3];exact n_ _ (n_ _ ((u1.2 b n).trans z))⟩
 show wpAny (model prog w) A (ksk_rest a f false vs.toArray e1 (.ref ((s.heap.update a (Obj.mapSeq λ_=>(#[]:Array Value))).push (seqObj "tuple" vs.toArray 0)).objs.size)) P E { s with heap:=((s.heap.update a (Obj.mapSeq λ_=>(#[]:Array Value))).push (seqObj "tuple" vs.toArray 0)).push (seqObj "list" #[] 0) }
 rw[<- e3,<- ek]
 clear e3 ek
 unfold ksk_rest
 refine k_ <| wpAny_rule ?_
 rw[List.forIn_toArray]
 refine k_ <| ksk_fold (λi s'=>∃h' tk ks e,s'={ s with heap:=h',toks:=tk }/\(∀b o,b≠kS->h3.get? b=some o->h'.get? b=some o)/\h'.get? kS=some (seqObj "list" (List.toArray ks) e)/\TupsAt h' ks (xs.take i)/\i<=vs.length) vs 0 _ ⟨h3,s.toks,[],0,rfl,λb o _ z=>z,hk0,by rw[List.take_zero];trivial,N_ _⟩ (λj v s' hv I=>?_) λs' I=>?_
 ·rw[Nat.zero_add] at I ⊢
  obtain⟨h',tk,ks,e,rfl,k,hk,T,hi⟩:=I
  have hj:j<vs.length:=(r_.mp hv).1
  have ex:xs[j]?=some (xs[j]'(by omega)):=x_ (by omega)
  have tl:=T.len
  rw[Pk] at tl
  refine k_ <| Qv <| OB (hc j v _ h' tk hv ex λb o n z=>k b o (k0 b o n z).1 (k0 b o n z).2) (λkv s2 hq=>?_) λ_ _ z=>z.elim
  obtain⟨h2,tk2,rfl,k2,tp⟩:=hq
  have hk2:=k2 kS _ hk
  have u2:=ON h2 kS (Obj.mapSeq (·.push kv))
  obtain⟨c2,hc2⟩:∃c2,(h2.update kS (Obj.mapSeq (·.push kv))).get? kS=some (seqObj "list" (List.toArray (ks++[kv])) c2):=⟨_,by rw[<- List.push_toArray];exact Qi hk2 (·.push kv)⟩
  try dsimp only
  refine k_ <| Qd hk2 rfl ?_ (by rw[t_];omega) (by rw[Array.size_push,t_];omega)
  refine u_ ⟨rfl,_,tk2,ks++[kv],c2,rfl,λb o n z=>(u2.2 b n).trans (k2 b o (k b o n z)),hc2,?_,by omega⟩
  have kp:∀v x,TupAt h2 v x->TupAt (h2.update kS (Obj.mapSeq (·.push kv))) v x:=λv x t=>t.keep (b:=kS) ⟨_,hk2,rfl⟩ λc o n z=>(u2.2 c n).trans z
  rw[List.take_succ,ex]
  exact TupsAt.snoc (kp _ _ tp) ((T.imp λv x t=>t.mono k2).imp kp)
 ·rw[Nat.zero_add] at I
  obtain⟨h',tk,ks,e,rfl,k,hk,T,hi⟩:=I
  rw[OY (by omega)] at T
  try dsimp only
  refine k_ <| listItems_at hk rfl ?_
  exact E1 hx h64 T nd hk (k a _ (K_ hlt) ha0) (P5 hlt) λp h2 c p1 p2 k2 z=>h p h2 c tk p1 p2 (λb o n y=>k2 b o (k0 b o n y).1 n (k b o (k0 b o n y).1 (k0 b o n y).2)) z
def DV{S r:Addr}{j:Int}{t u v:Tok}{n:Nat}{R:Result->Shared->Prop}(hh:A.handled=none)(hr:IsRange s.heap r 0 j 1 t u v)(hsmall:Builtin.Range.small 0 j 1=true)(hn:Builtin.Range.rangeSize 0 j 1=n)(be:n<=2^24)(hS:s.heap.get? S=some (seqObj "list" #[] 0))
 (h:∀h' tk acc c,(∀b o,b≠S->s.heap.get? b=some o->h'.get? b=some o)->h'.get? S=some (seqObj "list" acc c)->ItemsOf (λi v=>∃t,v=.int (0+i*1) t) acc n->R (.ok (.ret (.ref S))) { s with heap:=h',toks:=tk }):codeAny (model prog w) A (.builtin "list.__iadd__" ⟨[.ref S,.ref r],[]⟩) R s:=by
 refine codeAny_builtin entry_list_iadd' ?_
 show wpAny (model prog w) A.in1 (Builtin.List.listExtendWith (.ref S) (.ref r) (.ref S)) _ _ s
 exact wpAny_extend_range hh hr hsmall hn be S _ 0 hS h
def xb{r:Addr}{j:Int}{t u v:Tok}{n:Nat}{Q:List Value->Shared->Prop}(hh:A.handled=none)(hr:IsRange s.heap r 0 j 1 t u v)(hsmall:Builtin.Range.small 0 j 1=true)(hn:Builtin.Range.rangeSize 0 j 1=n)(be:n<=2^24)
 (h:∀h' tk (vs:List Value),s.heap.objs.size<=h'.objs.size->(∀b o,s.heap.get? b=some o->h'.get? b=some o)->vs.length=n->(∀(i:Nat) x,vs[i]?=some x->∃t,x=.int (i:Nat) t)->Q vs { s with heap:=h',toks:=tk }):wpAny (model prog w) A (collect (.ref r)) Q E s:=by
 unfold collect
 refine k_ <| wpAny_runValue <| codeAny_builtin entry_proto_collect' ?_
 show wpAny _ _ (do again (.builtin "list.__iadd__" ⟨[<- newList [],.ref r],[]⟩)) _ _ s
 have hS:(s.heap.push (seqObj "list" #[] 0)).get? s.heap.objs.size=some (seqObj "list" #[] 0):=C_ _ rfl
 refine k_ <| Qw <| u_ ⟨Code.quiet_builtin _ (by decide),DV (s:={ s with heap:=s.heap.push (seqObj "list" #[] 0) }) hh (n_ _ hr) hsmall hn be hS λh' tk acc c k z it=>?_⟩
 show wpAny (model prog w) A (do
  let o <- load s.heap.objs.size
  match o.data with
  |.seq xs _=>pure xs.toList
  |_=>unsupported "internal:collect") Q E { s with heap:=h',toks:=tk }
 refine k_ <| wpAny_load z ?_
 refine u_ (h h' tk acc.toList (P4 (w_ z)) (λb o y=>k b o (K_ (w_ y)) (n_ _ y)) (by rw[OI];exact it.1) λi x y=>?_)
 obtain⟨t,e⟩:=it.2 i x (by simpa using y)
 exact⟨t,by rw[e];congr 1;omega⟩
end
abbrev dG(p:Pos):Arguments:=⟨[],[⟨"number",none,p⟩],none,[],[],none,[]⟩
abbrev aT:Scope:={ kind:=.function,names:=[("number",.local),("weights",.free)],isGenerator:=false,isCoroutine:=false,more:=[] }
abbrev cU(p1 p2 p3 p4 p5 p6:Pos):Expr:=.Tuple [.UnaryOp .USub (.Subscript (.Name "weights" p1) (.Name "number" p2) p3) p4,.Name "number" p5] 0 p6
section
variable{prog:Program}{w:World}{A:Around}{E:Rf}{s:Shared}
def Fc{f c' cell a:Addr}{q:Str}{pm ctv:Value}{its:Array Value}{ws:List Int}{p0 p1 p2 p3 p4 p5 p6:Pos}{i:Nat}{t:Tok}
 (hroom:A.depth<recursionLimit) (ho:s.heap.get? f=some (kla_obj "<lambda>" q (dG p0) (cU p1 p2 p3 p4 p5 p6) aT [("weights",cell)] pm c' ctv)) (jp:s.heap.CodeRec (.ref c') q) (hlim:s.heap.NoLimit) (j_:s.heap.IsCell cell (some (.ref a))) (hl:s.heap.IsList a its) (hw:Vals (ws.map V.int) its.toList) (hi:i<ws.length) (hz:ws.length<64):
 wpAny (model prog w) A (call (.ref f) [.int (i:Nat) t]) (λk s2=>∃h2 tk2,s2={ s with heap:=h2,toks:=tk2 }/\(∀b o,s.heap.get? b=some o->h2.get? b=some o)/\TupAt h2 k (-(ws.getD i 0),(i:Nat))) (λ_ _=>False) s:=by
 refine wpAny_call ?_
 refine kla_callFunE hroom ho rfl rfl rfl rfl jp ?_
 rw[show bindArgs (kla_fn "<lambda>" q (dG p0) (cU p1 p2 p3 p4 p5 p6) aT [("weights",cell)] pm (.ref c') ctv) ⟨[Value.int (i:Nat) t],[]⟩=(pure [(("number" : Str),Value.int (i:Nat) t)]:Sem (List (Str×Value))) from by with_unfolding_all rfl]
 refine u_ (wpAny_newFunctionEnv (show ∀x∈aT.names,x.2 ≠ .cell by decide) (by intro y hy;rw[OL] at hy;subst hy;rfl) (λh1 hns hsb=>⟨hlim.fresh _ hsb,?_⟩) rfl)
 show codeAny _ _ (.expr (cU p1 p2 p3 p4 p5 p6) (envX q aT s.heap.objs.size f (.ref c') [("weights",cell)])) _ _
 have k1:∀b o,s.heap.get? b=some o->h1.get? b=some o:=λb o e=>hsb.extBut b o (K_ (w_ e)) (n_ _ e)
 have hc1:h1.IsCell cell (some (.ref a)):=by
  obtain⟨o,e,d⟩:=j_
  exact⟨o,k1 _ _ e,d⟩
 have hl1:h1.IsList a its:=by
  obtain⟨o,e,d⟩:=hl
  exact⟨o,k1 _ _ e,d⟩
 refine kla_codeExpr ?_
 refine wpAny_Tuple_spliced ?_
 obtain⟨u,eu,ru⟩:=hw.get (i:=i) (x:=V.int (ws.getD i 0)) (by rw[L_,x_ hi,Em,x_ hi];rfl)
 obtain⟨tx,rfl⟩:=ru
 have ei:its[((i:Nat):Int).toNat]?=some (.int (ws.getD i 0) tx):=by rw[OK,<- Array.getElem?_toList];exact eu
 have nm:∀(pp:Pos) (s':Shared) (Q:Rf) (E':Rf),s'.heap=h1->Q (.int (i:Nat) t) s'->wpAny (model prog w) (A.deeper (envX q aT s.heap.objs.size f (.ref c') [("weights",cell)])) (eval (.Name "number" pp) (envX q aT s.heap.objs.size f (.ref c') [("weights",cell)])) Q E' s':=λpp s' Q E' e hq=>
  wpAny_Name (QM rfl rfl (by rw[e];exact hns) rfl hq) (by decide)
 show wpAny _ _ (spliced ((false,eval (.UnaryOp .USub (.Subscript (.Name "weights" p1) (.Name "number" p2) p3) p4) (envX q aT s.heap.objs.size f (.ref c') [("weights",cell)]))::backTo p6 (starEach [.Name "number" p5] (envX q aT s.heap.objs.size f (.ref c') [("weights",cell)])))) _ _ _
 refine Qj ?_
 refine UnaryOp_ ?_
 refine Subscript_ ?_
 refine wpAny_Name (wpAny_loadName_free rfl rfl rfl hc1 ?_) (by decide)
 refine nm p2 _ _ _ rfl ?_
 refine item_listR hl1 (by omega) (by omega) ei ?_
 refine neg_int ?_
 show wpAny _ _ (spliced ((false,eval (.Name "number" p5) (envX q aT s.heap.objs.size f (.ref c') [("weights",cell)]))::[])) _ _ _
 refine Qj ?_
 refine nm p5 _ _ _ rfl ?_
 refine Calls.spliced_nil ?_
 refine⟨show 2<=sizeLine by decide,_,_,rfl,λb o e=>n_ _ (k1 b o e),h1.objs.size,0,none,#[],_,t,rfl,C_ _ rfl⟩
end
section
variable{prog:Program}{w:World}{A:Around}{E:Rf}{s:Shared}
def u7{r f:Addr}{j:Int}{t u v:Tok}{n:Nat}{xs:List (Int×Int)}{Q:Rf}(hh:A.handled=none)(hr:IsRange s.heap r 0 j 1 t u v)(hsmall:Builtin.Range.small 0 j 1=true)(hn:Builtin.Range.rangeSize 0 j 1=n)(h64:n<64)(hx:xs.length=n)(nd:xs.Nodup)
 (hc:∀(i:Nat) (x:Int×Int) (tt:Tok) (h':Heap) (tk:Nat),xs[i]?=some x->(∀b o,s.heap.get? b=some o->h'.get? b=some o)->wpAny (model prog w) A.in1.in1 (call (.ref f) [.int (i:Nat) tt]) (λk s2=>∃h2 tk2,s2={ s with heap:=h2,toks:=tk2 }/\(∀b o,h'.get? b=some o->h2.get? b=some o)/\TupAt h2 k x) (λ_ _=>False) { s with heap:=h',toks:=tk })
 (h:∀(p:Array Nat) (h':Heap) (D:Addr) (c tk:Nat) (out:List Value),p.toList.Perm (List.range n)->UpTo (ltP xs) p n->s.heap.objs.size<=D->(∀b o,s.heap.get? b=some o->h'.get? b=some o)->h'.get? D=some (seqObj "list" out.toArray c)->Vals (p.toList.map λi:Nat=>V.int (i:Nat)) out->Q (.ref D) { s with heap:=h',toks:=tk }):
 wpAny (model prog w) A (call (.builtin "sorted") [.ref r] [(Str.ofString "key",.ref f)]) Q E s:=by
 refine call_function_entry_kw kind_sorted plain_sorted entry_sorted (ksk_s1 _ _) ?_
 unfold Builtin.«sorted»
 refine k_ (m:=checkCount "sorted" 1 1 _) <| u_ ?_
 refine k_ <| xb (A:=A.in1) hh hr hsmall hn (by omega) λh1 tk1 vs sz k1 lv iv=>?_
 have big:sizeLine=16777216:=rfl
 refine k_ <| Qw ?_ (by omega)
 have hoL:(h1.push (seqObj "list" vs.toArray 0)).get? h1.objs.size=some (seqObj "list" vs.toArray 0):=C_ _ rfl
 have kL:∀b o,s.heap.get? b=some o->b≠h1.objs.size/\(h1.push (seqObj "list" vs.toArray 0)).get? b=some o:=λb o e=>⟨K_ (w_ (k1 b o e)),n_ _ (k1 b o e)⟩
 refine k_ <| OW <| wpAny_call_entry_kw slot_list_sort ⟨_,hoL,rfl⟩ entry_list_sort ?body (ksk_l1 _ _)
 case body=>
  show wpAny (model prog w) A.in1.in1 (Builtin.«list.sort» ⟨[.ref h1.objs.size],[(Str.ofString "key",.ref f)]⟩) _ _ { s with heap:=h1.push (seqObj "list" vs.toArray 0),toks:=tk1 }
  rw[ksk_t1]
  refine Ax (s:={ s with heap:=h1.push (seqObj "list" vs.toArray 0),toks:=tk1 }) (xs:=xs) hoL (by omega) (by omega) nd (λi v x h' tk e1 e2 k=>?_) λp h' c tk p1 p2 k z=>?_
  ·obtain⟨tt,rfl⟩:=iv i v e1
   exact hc i x tt h' tk e2 λb o e=>k b o (kL b o e).1 (kL b o e).2
  ·rw[lv] at p1 p2
   refine⟨_,rfl,u_ ⟨_,rfl,h p h' h1.objs.size c tk _ p1 p2 sz (λb o e=>k b o (kL b o e).1 (kL b o e).2) z ?_⟩⟩
   have all:∀i∈p.toList,i<n:=λi hi=>OD.mp (p1.mem_iff.mp hi)
   clear z p1 p2
   generalize p.toList=l at all
   induction l with
   |nil=>exact .nil
   |
    cons i l ih=>
    refine .cons ?_ (ih λk hk=>all k (m_ _ hk))
    have hi:=all i (p_ ..)
    obtain⟨tt,e⟩:=iv i (vs.getD i Value.none) (by rw[Em,x_ (by omega)];rfl)
    exact⟨tt,e⟩
end
section
variable{X:Cx}{pins:Rb}{σ:St}{H:Hp}{s:Shared}{h':Heap}
def Inv.tabled{P c':Addr}{q:Str}{ps more:Array Value}{t':Nat}(I:Inv X pins σ H s)(hP:H P=some (.tbl ps))(hx:Heap.ExtBut P s.heap h')(hc:s.heap.objs.size<=c')(hrec:h'.CodeRec (.ref c') q)(htab:h'.get? P=some (tabObj (ps++more))):
 Inv X pins σ (upd (upd H P (.tbl (ps++more))) c' (.ext (iS c' q))) { s with heap:=h',toks:=t' }:=by
 have hcn:H c'=none:=I.hok.fresh hc
 have nPc:P≠c':=aE hP hcn
 have at_:∀b,b≠P->b≠c'->upd (upd H P (.tbl (ps++more))) c' (.ext (iS c' q)) b=H b:=λb n1 n2=>by rw[aq n2,aq n1]
 have atP:upd (upd H P (.tbl (ps++more))) c' (.ext (iS c' q)) P=some (.tbl (ps++more)):=by rw[aq nPc,aR]
 have nP:∀b,H b=none->b≠P:=λb n z=>by rw[z,hP] at n;cases n
 have ol:∀b o,s.heap.get? b=some o->b≠c':=λb o e=>K_ (F_ (w_ e) hc)
 have tr:∀b u,H b=some u->b≠c':=λb u e=>aE e hcn
 refine I.un ⟨λb o e n _ _=>hx b o (nP b n) e,λb o e n _ _=>⟨o.slots,hx b o (nP b n) e⟩,λb o e n _=>by rw[at_ b (nP b n) (ol b o e)];exact n,λb o e _=>?_,λb ys e=>?_,λb o u e=>?_,λb qs e=>?_⟩ λb u e=>?_
 ·by_cases z:b=P
  ·exact⟨_,by rw[z];exact htab⟩
  ·exact⟨o,hx b o z e⟩
 ·rw[at_ b (λz=>by rw[z,hP] at e;cases e) (tr b _ e)];exact e
 ·rw[at_ b (λz=>by rw[z,hP] at e;cases e) (tr b _ e)];exact e
 ·by_cases z:b=P
  ·subst z
   rw[hP] at e;cases e
   exact⟨more,atP⟩
  ·exact⟨#[],by rw[at_ b z (tr b _ e),e];simp⟩
 ·by_cases z:b=c'
  ·subst z
   rw[aR] at e;cases e
   obtain⟨c,o,vs,t,e1,e2,e3⟩:=hrec
   cases e1
   refine⟨⟨_,o,vs,t,rfl,e2,e3⟩,⟨o,e2⟩,λh1 h2 q1 k=>?_⟩
   obtain⟨c,o,vs,t,e1,e2,e3⟩:=q1
   cases e1
   exact⟨_,o,vs,t,rfl,k o e2,e3⟩
  ·by_cases y:b=P
   ·subst y
    rw[atP] at e;cases e
    exact htab
   ·rw[at_ b y z] at e
    refine (I.hok b u e).stay (λc v hc' r=>hx c v ?_ r) (λc r=>?_) λc ys r=>?_
    ·rcases hc' with rfl |r
     ·exact y
     ·intro z';rw[z',hP] at r;cases r
    ·rw[at_ c (λz'=>by rw[z',hP] at r;cases r) (tr c _ r)];exact r
    ·rw[at_ c (λz'=>by rw[z',hP] at r;cases r) (tr c _ r)];exact r
end
end L2
namespace L2
open PySem PySem.W PySem.Spec PySem.Calls PyProof.Rows
def kyF(ws:List Int)(i:Nat):Int×Int:=(-(ws.getD i 0),(i:Int))
def cJ(ws:List Int):List (Int×Int):=(List.range ws.length).map (kyF ws)
noncomputable def ar(ws:List Int):List Nat:=(List.range ws.length).mergeSort λi j=>!a8 (kyF ws j) (kyF ws i)
structure FallO(ws:List Int)(l:List Nat):Prop where
 perm:l.Perm (List.range ws.length)
 up:l.Pairwise λi j=>a8 (kyF ws i) (kyF ws j)=true
def uQ{ws:List Int}{i j:Nat}(h:kyF ws i=kyF ws j):i=j:=by
 have:=OO Prod.snd h
 have:((i:Nat):Int)=(j:Nat):=this
 omega
def mO(ws:List Int):(cJ ws).Nodup:=by
 unfold cJ
 refine PY.mpr (List.Pairwise.imp (λ{a b} h z=>h (uQ z)) P8)
def bD(ws:List Int):FallO ws (ar ws):=⟨QO ..,Du (kyF ws) uQ P8⟩
def FallO.eq{ws:List Int}{l:List Nat}(h:FallO ws l):l=ar ws:=m5 h.up (bD ws).up (h.perm.trans (bD ws).perm.symm)
def EA{ws:List Int}{p:Array Nat}(h1:p.toList.Perm (List.range ws.length))(h2:UpTo (ltP (cJ ws)) p ws.length):p.toList=ar ws:=by
 refine FallO.eq ⟨h1,List.Pairwise.imp_of_mem (λ{i j} hi hj h=>?_) (ui h1 h2)⟩
 have g:∀k∈p.toList,(cJ ws).getD k (0,0)=kyF ws k:=λk hk=>by
  unfold cJ
  rw[Em,L_,List.getElem?_range (OD.mp (h1.mem_iff.mp hk))]
  rfl
 rw[g i hi,g j hj] at h
 exact h
section
variable{X:Cx}{iW:Nat}{ta:TA}{c P:Addr}{a:Expr}{q1 q2 q6 q7 q8 q9 p0 p1 p2 p3 p4 p5 p6:Pos}
def Grown(H H2:Hp)(P:Addr)(q:Str)(ps:Array Value)(pos:Pos):Prop:=H2=H\/∃c',H c'=none/\codeAmong pos ps.toList=none/\H2=upd (upd H P (.tbl (ps++#[rawInt pos.line,rawInt pos.col,.ref c']))) c' (.ext (iS c' q))
def N8(K:W.Frag)(mg:Ra)(P:Addr)(q:Str)(pos:Pos)(vW:Option (Option V)):List V->Hp->VK->Prop:=λvs H Q=>∃(b:Addr) (ws:List Int) (ps:Array Value),vs=[.int (ws.length:Nat)]/\vW=some (some (.ref b))/\SqL K H b (ws.map V.int)/\ws.length<64/\H P=some (.tbl ps)/\TriplesOk ps.toList/\(∀ps' cv,codeAmong ps' ps.toList=some cv->∃c,cv=.ref c/\H c=some (.ext (iS c q)))/\BMok K mg H/\
 ∀H2 l,Grown H H2 P q ps pos->H2 l=none->Q (.ref l) (upd H2 l (.lst ((ar ws).map λi:Nat=>V.int (i:Nat))))
def Mq(K:W.Frag)(mg:Ra)(iW:Nat)(P:Addr)(q:Str)(pos:Pos)(ta:TA):TE:=λσ H Q=>ta σ H λvs H1=>N8 K mg P q pos σ[iW]? vs H1 Q
def F2(hc:X.calm=true)(hdp:X.A.depth<recursionLimit)(hl:Gl X "sorted")(hml:X.mg "sorted"=none)(hg:Gl X "range")(hm:X.mg "range"=none)(ha:PA X [a] ta)(hN:X.N[iW]?=some "weights")(hv:X.env.scope.names.lookup ("weights" : Str)=some .cell)(jp:X.env.code=.ref c)(hh:codeHdIn X.K c P=true)(hs:starEach [a] X.env=[(false,eval a X.env)]):
 PE X (.Call (.Name "sorted" q1) [.Call (.Name "range" q2) [a] [] q6] [⟨some "key",.Lambda (dG p0) (cU p1 p2 p3 p4 p5 p6) aT q7,q8⟩] q9) (Mq X.K X.mg iW P (X.env.qual ++ "<lambda>") q7 ta):=by
 intro pins s σ H Q I h
 refine Pp (eP I hl hml (show bootBuiltins "sorted"=some (.builtin "sorted") from rfl) ?_ (by decide) (by decide))
 refine callWith_kw ?_ rfl rfl rfl rfl
 show wpAny _ _ (spliced ((false,eval (.Call (.Name "range" q2) [a] [] q6) X.env)::[])) _ _ s
 refine Qj ?_
 refine Pp (eP I hg hm (show bootBuiltins "range"=some (.type "range") from rfl) ?_ (by decide) (by decide))
 refine O7 (thn (ha q6 pins s σ H _ I h) λus s1 ⟨vs,H1,I1,r1,z1⟩=>?_) hs rfl
 obtain⟨b,ws,ps,e,ew,hq,hn,hP,htr,hcs,hB,q⟩:=z1
 subst e
 cases r1 with
 |
  cons r rr=>
  cases rr
  obtain⟨t,rfl⟩:=r
  refine call_range_1 (Calls.spliced_nil ?_)
  have I2:Inv X pins σ H1 { s1 with heap:=s1.heap.push { cls:=.type "range",data:=.fields #[.int 0 s1.toks,.int (ws.length:Nat) t,.int 1 (s1.toks+1)] },toks:=s1.toks+1+1 }:=I1.kept λb o e=>n_ _ e
  have hr2:IsRange (s1.heap.push { cls:=.type "range",data:=.fields #[.int 0 s1.toks,.int (ws.length:Nat) t,.int 1 (s1.toks+1)] }) s1.heap.objs.size 0 (ws.length:Nat) 1 s1.toks t (s1.toks+1):=IsRange.new ..
  generalize s1.heap.push { cls:=.type "range",data:=.fields #[.int 0 s1.toks,.int (ws.length:Nat) t,.int 1 (s1.toks+1)] }=h2 at I2 hr2 ⊢
  generalize s1.heap.objs.size=r at hr2 ⊢
  have hk:X.env.kindOf "weights"=some .cell:=hv
  obtain⟨m,hns,hloc⟩:=I2.loc
  obtain⟨u,ru,lk⟩:=hloc iW "weights" (.ref b) hN ew (.inr (.inl hv))
  obtain rfl:u=.ref b:=ru
  obtain⟨cell,ec,j_⟩:∃cell,X.env.cells.lookup ("weights" : Str)=some cell/\h2.IsCell cell (some (.ref b)):=by
   rcases lk with ⟨z,_⟩ |⟨_,cl,z1,z2⟩
   ·rw[hk] at z;cases z
   ·exact⟨cl,z1,z2⟩
  have clo:closureFor aT X.env=(pure [(("weights" : Str),cell)]:Sem (List (Str×Addr))):=by
   simp [closureFor,cellOf,ec]
  obtain⟨its,rv,pl,hz⟩:=I2.list hq
  have ii:∀(H2:Hp) (s3:Shared) (f c':Addr) (pm ctv:Value),Grown H1 H2 P (X.env.qual ++ "<lambda>") ps q7->Inv X pins σ H2 s3->(∀b o,b≠P->h2.get? b=some o->s3.heap.get? b=some o)->s3.heap.get? f=some (kla_obj "<lambda>" (X.env.qual ++ "<lambda>") (dG p0) (cU p1 p2 p3 p4 p5 p6) aT [("weights",cell)] pm c' ctv)->s3.heap.CodeRec (.ref c') (X.env.qual ++ "<lambda>")->
   wpAny (model X.prog X.w) X.A (call (.builtin "sorted") [.ref r] [(Str.ofString "key",.ref f)]) (EP X pins σ Q) X.xe s3:=by
   intro H2 s3 f c' pm ctv G3 I3 k3 hf hrec
   have nP:∀{b:Addr}{o:Obj},h2.get? b=some o->o.cls ≠ .none->b≠P:=λ{b o} e n z=>by
    have:h2.get? P=some { cls:=.none,data:=.fields ps }:=I2.hok P _ hP
    rw[z,this] at e;cases e;exact n rfl
   have hr3:IsRange s3.heap r 0 (ws.length:Nat) 1 s1.toks t (s1.toks+1):=k3 _ _ (nP hr2 (λz=>nomatch z)) hr2
   refine u7 (n:=ws.length) (xs:=cJ ws) (I.ok.hd hc) hr3 (small_one (by omega) (by omega) (by omega) (by omega)) (by rw[rangeSize_one];split <;> omega) hn (by unfold cJ;rw[l_,Ox]) (mO ws) (λi x tt h' tk ex k=>?_) λp h' D c tk out pp up sz k z vz=>?_
   ·have hi:i<ws.length:=by
     have:=(r_.mp ex).1
     unfold cJ at this
     rw[l_,Ox] at this
     exact this
    obtain rfl:x=(-(ws.getD i 0),((i:Nat):Int)):=by
     unfold cJ at ex
     rw[L_,List.getElem?_range hi] at ex
     cases ex
     rfl
    have hcell':h'.IsCell cell (some (.ref b)):=by
     obtain⟨o,e1,e2⟩:=j_
     refine⟨o,k _ _ (k3 _ _ (λz=>?_) e1),e2⟩
     have:h2.get? P=some { cls:=.none,data:=.fields ps }:=I2.hok P _ hP
     rw[z,this] at e1;cases e1;cases e2
    have hl':h'.IsList b its.toArray:=by
     obtain⟨o,e1,e2⟩:=pl.isList
     exact⟨o,k _ _ (k3 _ _ (nP e1 (by rw[e2.1];intro z;cases z)) e1),e2⟩
    exact Fc (s:={ s3 with heap:=h',toks:=tk }) hdp (k _ _ hf) (by
     obtain⟨c2,o,vs,tq,e1,e2,e3⟩:=hrec
     exact⟨c2,o,vs,tq,e1,k _ _ e2,e3⟩) (I3.nolimit.keeps k) hcell' hl' (by simpa using rv) hi hn
   ·rw[EA pp up] at vz
    have big:sizeLine=16777216:=rfl
    have ln:((ar ws).map λi:Nat=>V.int (i:Nat)).length<=sizeLine:=by
     rw[l_,(bD ws).perm.length_eq,Ox]
     omega
    exact⟨.ref D,_,I3.laid (t':=tk) k sz (show ObjOk X.prog X.w _ h' _ (.lst _) from ⟨ln,out,c,vz,z⟩),rfl,q H2 D G3 (I3.hok.fresh sz)⟩
  have tabP:h2.get? P=some { cls:=.none,data:=.fields ps }:=I2.hok P _ hP
  have glb:h2.Ns mainGlobals X.mg:=I2.mod.glob.keeps I2.bk
  have gP:mainGlobals≠P:=λz=>by
   obtain⟨o,es,ep,e,d,_⟩:=glb
   rw[z,tabP] at e;cases e;cases d
  have bAt:h2.BuiltinsAt X.mg P:=by
   obtain⟨bm,o,y1,y2,y3,⟨y4,y5,y6⟩,y7⟩:=hB
   have y8:h2.get? bm=some o:=by
    rcases y7 with z |⟨u,z⟩
    ·exact I2.kIn bm o z
    ·exact (I2.hok bm _ z).1
   exact⟨bm,o,y1,y2,y3,(λz=>by rw[z,tabP] at y8;cases y8;cases y6),y8,y4,y5,y6⟩
  have CH:=codeHd_of_K I2.kIn hh
  have lam:wpAny (model X.prog X.w) X.A (eval (.Lambda (dG p0) (cU p1 p2 p3 p4 p5 p6) aT q7) X.env) (λv s3=>∃f,v=.ref f/\wpAny (model X.prog X.w) X.A (call (.builtin "sorted") [.ref r] [(Str.ofString "key",.ref f)]) (EP X pins σ Q) X.xe s3) X.xe { s1 with heap:=h2,toks:=s1.toks+1+1 }:=by
   refine kla_eval rfl ?_
   cases am:codeAmong q7 ps.toList with
   |
    none=>
    refine kla_makeFunction (mg:=X.mg) clo I.ok.glob glb jp CH tabP htr am gP bAt λc' ctv h' tk hx hge hlt hrec htb=>?_
    have hrec':(h'.push (kla_obj "<lambda>" (X.env.qual ++ "<lambda>") (dG p0) (cU p1 p2 p3 p4 p5 p6) aT [("weights",cell)] ((X.mg "__name__").getD .none) c' ctv)).CodeRec (.ref c') (X.env.qual ++ "<lambda>"):=by
     obtain⟨c2,o,vs,tq,e1,e2,e3⟩:=hrec
     exact⟨c2,o,vs,tq,e1,n_ _ e2,e3⟩
    exact⟨_,rfl,ii _ _ _ c' _ ctv (.inr ⟨c',I2.hok.fresh hge,am,rfl⟩) (I2.tabled (t':=tk) hP (λb o n e=>n_ _ (hx b o n e)) hge hrec' (n_ _ htb)) (λb o n e=>n_ _ (hx b o n e)) (C_ _ rfl) hrec'⟩
   |
    some cv=>
    obtain⟨c',rfl,hc'⟩:=hcs q7 cv am
    refine kla_makeFunctionHit (mg:=X.mg) clo I.ok.glob glb jp CH tabP htr am bAt λctv h' tk k hsz=>?_
    obtain⟨c2,o,vs,tq,e1,e2,e3⟩:h2.CodeRec (.ref c') (X.env.qual ++ "<lambda>"):=(I2.hok c' _ hc').1
    exact⟨_,rfl,ii _ _ _ c' _ ctv (.inl rfl) (I2.kept (t':=tk) λb o e=>n_ _ (k b o e)) (λb o n e=>n_ _ (k b o e)) (C_ _ rfl) ⟨c2,o,vs,tq,e1,n_ _ (k _ _ e2),e3⟩⟩
  show wpAny _ _ (do
   let v <- (do let v <- eval (.Lambda (dG p0) (cU p1 p2 p3 p4 p5 p6) aT q7) X.env;standAt q9;pure v)
   return v::(<- holding [v] (evalAll []))) _ _ _
  refine k_ <| k_ <| OB lam (λv s3 hv3=>?_) λ_ _ z=>z
  obtain⟨f,rfl,hv3⟩:=hv3
  exact k_ (Qe (u_ (k_ (OW (u_ (u_ hv3))))))
end
end L2
namespace L2
open PySem PySem.Spec PyProof.Rows
section
variable{K:W.Frag}{mg:Ra}{ρ:List Addr}{H H2:Hp}{h:AH}
def LamT.one{P P':Addr}{q q':Str}(a:LamT K mg P q)(b:LamT K mg P' q'):q=q':=by
 obtain⟨x,f,oc,od,fd,sl,c,a1,a2,a3,a4,a5,a6,rfl⟩:=a
 obtain⟨y,f',oc',od',fd',sl',c',b1,b2,b3,b4,b5,b6,rfl⟩:=b
 have e:x=y:=by
  by_cases z:x=y
  ·exact z
  ·have:=a2 y b1 λw=>z w.symm
   rw[b3] at this;cases this
 subst e
 rw[a3] at b3;cases b3
 rw[a4] at b4;cases b4
 rfl
def u9{pos:Pos}{a b:Int}{c cv:Value}(l:List Value)(h:TriplesOk l)(e:codeAmong pos (l++[rawInt a,rawInt b,c])=some cv):codeAmong pos l=some cv\/cv=c:=by
 fun_induction TriplesOk l with
 |
  case1=>
  simp only[OH,codeAmong,rawInt] at e
  split at e
  ·cases e;exact .inr rfl
  ·cases e
 |
  case2 a' t b' u x fL ih=>
  simp only[Qx,codeAmong] at e ⊢
  split at e
  ·rename_i z;rw[if_pos z];exact .inl e
  ·rename_i z;rw[if_neg z];exact ih h e
 |case3 l h1 h2=>exact h.elim
def Grown.ok{P:Addr}{q:Str}{ps:Array Value}{pos:Pos}(g:Grown H H2 P q ps pos)(w:Wd K mg ρ h H)(hT:LamT K mg P q)(hP:H P=some (.tbl ps)):Wd K mg ρ h H2/\Le ρ H ρ H2:=by
 rcases g with rfl |⟨c',hc,am,rfl⟩
 ·exact⟨w,Le.refl⟩
 ·have nPc:P≠c':=aE hP hc
  have at_:∀b,b≠P->b≠c'->upd (upd H P (.tbl (ps++#[rawInt pos.line,rawInt pos.col,.ref c']))) c' (.ext (iS c' q)) b=H b:=λb n1 n2=>by rw[aq n2,aq n1]
  have atP:upd (upd H P (.tbl (ps++#[rawInt pos.line,rawInt pos.col,.ref c']))) c' (.ext (iS c' q)) P=some (.tbl (ps++#[rawInt pos.line,rawInt pos.col,.ref c'])):=by rw[aq nPc,aR]
  have nP:∀b u,H b=some u->(∀qs,u ≠ .tbl qs)->b≠P:=λb u e n z=>by rw[z,hP] at e;cases e;exact n _ rfl
  have nc:∀b u,H b=some u->b≠c':=λb u e=>aE e hc
  have l:Le ρ H ρ (upd (upd H P (.tbl (ps++#[rawInt pos.line,rawInt pos.col,.ref c']))) c' (.ext (iS c' q))):=⟨λ_ _ e=>e,λb xs e=>by rw[at_ b (nP b _ e λ_ z=>nomatch z) (nc b _ e)];exact e,λb o u e=>by rw[at_ b (nP b _ e λ_ z=>nomatch z) (nc b _ e)];exact e,λb φ e=>by rw[at_ b (nP b _ e λ_ z=>nomatch z) (nc b _ e)];exact e⟩
  refine⟨⟨w.len,w.nd,λP' q' l'=>?_,λn b ob e1 e2=>?_⟩,l⟩
  ·obtain⟨⟨t1,ps',t2,t3,t4⟩,bm⟩:=w.tb P' q' l'
   refine⟨⟨t1,?_⟩,bm.le l⟩
   have eq:=hT.one l'
   by_cases z:P'=P
   ·subst z
    rw[hP] at t2;cases t2
    refine⟨_,atP,?_,λim cv e=>?_⟩
    ·rw[Array.toList_append]
     exact TriplesOk_snoc _ _ _ _ t3
    ·rw[Array.toList_append] at e
     rcases u9 _ t3 e with z |rfl
     ·obtain⟨c,e1,e2⟩:=t4 im cv z
      exact⟨c,e1,l.ext _ _ e2⟩
     ·exact⟨c',rfl,by rw[aR,eq]⟩
   ·exact⟨ps',by rw[at_ P' z (nc P' _ t2)];exact t2,t3,λim cv e=>by
     obtain⟨c,e1,e2⟩:=t4 im cv e
     exact⟨c,e1,l.ext _ _ e2⟩⟩
  ·have o:=w.ob n b ob e1 e2
   have nb:b≠P:=λz=>(w.tb P q hT).1.1 (by rw[<- z];exact Pe e1)
   obtain⟨u,hu⟩:=o.there
   exact o.mono l (at_ b nb (nc b _ hu))
end
section
variable{X:Cx}{K:W.Frag}{mg:Ra}{ES:St->XK}{a:Expr}{F:ME}{iW:Nat}{c P:Addr}{q1 q2 q6 q7 q8 q9 p0 p1 p2 p3 p4 p5 p6:Pos}
noncomputable def lsD(h:AH):D->Option (List D)
 |.ref n=>aB h n
 |.kl xs=>some xs
 |_=>none
def u5{ρ:List Addr}{H:Hp}{h:AH}{d:D}{v:V}{xs:List D}(w:Wd K mg ρ h H)(r:RelD K mg ρ H d v)(e:lsD h d=some xs):∃p vs,v=.ref p/\SqL K H p vs/\RelDs K mg ρ H xs vs:=by
 cases r with
 |
  ref ea=>
  obtain⟨vs,h1,h2⟩:=aP w ea e
  exact⟨_,vs,rfl,h1,h2⟩
 |
  kl q rs=>
  have e':some _=some xs:=e
  cases e'
  exact⟨_,_,rfl,.inr q,rs⟩
 |_=>cases e
noncomputable def i4:Fn:=λds h=>match ds with
 | [.int j,d]=>match lsD h d with
  |some xs=>match jZ xs with
   |some ws=>if j=(ws.length:Nat)/\ws.length<64 then .ok (.ref h.length) (h++[.lst ((ar ws).map λi:Nat=>D.int (i:Nat))]) else .stuck
   |none=>.stuck
  |none=>.stuck
 |_=>.stuck
theorem rf{ρ:List Addr}{H:Hp}:∀l:List Nat,RelDs K mg ρ H (l.map λi:Nat=>D.int (i:Nat)) (l.map λi:Nat=>V.int (i:Nat))
 | []=>.nil
 |i::l=>.cons (.int _) (rf l)
def Eg(hc:X.calm=true)(hdp:X.A.depth<recursionLimit)(hl:Gl X "sorted")(hml:X.mg "sorted"=none)(hg:Gl X "range")(hm:X.mg "range"=none)(ha:DE K mg X ES a F)(hN:X.N[iW]?=some "weights")(hv:X.env.scope.names.lookup ("weights" : Str)=some .cell)(jp:X.env.code=.ref c)(hh:W.codeHdIn K c P=true)(hT:LamT K mg P (X.env.qual ++ "<lambda>"))(hs:starEach [a] X.env=[(false,eval a X.env)])(hK:X.K=K)(hk:X.mg=mg):
 DE K mg X ES (.Call (.Name "sorted" q1) [.Call (.Name "range" q2) [a] [] q6] [⟨some "key",.Lambda (dG p0) (cU p1 p2 p3 p4 p5 p6) aT q7,q8⟩] q9) (eFn i4 (iM F (iM (ba iW) ju))):=by
 subst hK hk
 refine PE.imp (F2 hc hdp hl hml hg hm (uA ha xB hs) hN hv jp hh hs) λσ H Q q_=>q_.el λρ h ae w re p=>⟨ρ,h,ae,w,re,?_⟩
 unfold eFn iM at p
 unfold iM ju
 cases hF:F ae h with
 |stuck=>rw[hF] at p;exact p.elim
 |exc c h1=>rw[hF] at p;exact p
 |
  ok x h1=>
  rw[hF] at p
  intro ρ1 H1 l1 w1 vs rs
  have p1:=PostG.mono l1 p
  obtain⟨d,ed,p2⟩:=Ap (f:=λx1 h2=>((ju ae h2).bind λxs h3=>.ok (x1::xs) h3).bind λxs h4=>i4 (x::xs) h4) (p:=by
   refine Eq.mp ?_ p1
   congr 1
   show (((ba iW ae h1).bind _).bind _).bind _=_
   cases ba iW ae h1 <;> rfl)
  obtain⟨v,ev,rv⟩:=(re.mono l1).at_ iW d ed
  have p3:cA X.K X.mg ρ1 H1 Q (ES σ) (i4 [x,d] h1):=p2
  unfold i4 at p3
  cases rs with
  |
   cons rx rr=>
   cases rr
   cases x with
   |
    int j=>
    dsimp only at p3
    split at p3
    ·rename_i xs e1
     split at p3
     ·rename_i ws e2
      split at p3
      ·rename_i hj
       obtain⟨b,us,rfl,hq,rs'⟩:=u5 w1 rv e1
       obtain rfl:=jH rs' e2
       obtain⟨⟨t1,ps,t2,t3,t4⟩,bm⟩:=w1.tb P _ hT
       cases rx
       refine⟨b,ws,ps,by rw[hj.1],ev,hq,hj.2,t2,t3,t4,bm,λH2 l g hl2=>?_⟩
       obtain⟨w2,l2⟩:=g.ok w1 hT t2
       exact cM w2 (rf _) hl2 (PostG.mono l2 p3)
      ·exact p3.elim
     ·exact p3.elim
    ·exact p3.elim
   |_=>exact p3.elim
end
end L2
namespace L2
open PySem PySem.W PySem.Calls PyProof.Rows
section
variable{prog:Program}{w:World}{A:Around}{E:Rf}{s:Shared}
def vL{a:Addr}{vs:List Value}{n:Nat}{xs:List (Int×Int)}{P:PySem.Fin->Shared->Prop}(ho:s.heap.get? a=some (seqObj "list" vs.toArray n))(h64:vs.length<64)(T:TupsAt s.heap vs xs)(nd:xs.Nodup)
 (h:∀(p:Array Nat) h' c,p.toList.Perm (List.range vs.length)->UpTo (ltP xs) p vs.length->(∀b o,b≠a->s.heap.get? b=some o->h'.get? b=some o)->h'.get? a=some (seqObj "list" (p.toList.map λi=>vs.getD i Value.none).toArray c)->P (.done (.ret .none)) { s with heap:=h' }):
 wpAny (model prog w) A (Builtin.«list.sort» ⟨[.ref a],[]⟩) P E s:=by
 have u1:=ON s.heap a (Obj.mapSeq λ_=>(#[]:Array Value))
 obtain⟨e1,a1⟩:∃e1,(s.heap.update a (Obj.mapSeq λ_=>(#[]:Array Value))).get? a=some (seqObj "list" #[] e1):=⟨_,Qi ho λ_=>#[]⟩
 have big:sizeLine=16777216:=rfl
 rw[list_sort_plain]
 refine k_ <| listItems_at ho rfl ?_
 refine k_ <| Qd ho rfl ?_ (by rw[t_];omega) (N_ _)
 refine k_ <| seqEpoch_at a1 rfl ?_
 refine k_ <| wpAny_newTuple ?_ (by show vs.length<=_;omega)
 refine k_ <| Qw ?_ (N_ _)
 refine OW ?_
 show wpAny (model prog w) A _ P E { s with heap:=((s.heap.update a (Obj.mapSeq λ_=>(#[]:Array Value))).push (seqObj "tuple" vs.toArray 0)).push (seqObj "list" #[] 0) }
 have k3:∀b o,b≠a->s.heap.get? b=some o->(((s.heap.update a (Obj.mapSeq λ_=>(#[]:Array Value))).push (seqObj "tuple" vs.toArray 0)).push (seqObj "list" #[] 0)).get? b=some o:=λb o n z=>n_ _ (n_ _ ((u1.2 b n).trans z))
 have a3:(((s.heap.update a (Obj.mapSeq λ_=>(#[]:Array Value))).push (seqObj "tuple" vs.toArray 0)).push (seqObj "list" #[] 0)).get? a=some (seqObj "list" #[] e1):=n_ _ (n_ _ a1)
 generalize ((s.heap.update a (Obj.mapSeq λ_=>(#[]:Array Value))).push (seqObj "tuple" vs.toArray 0)).push (seqObj "list" #[] 0)=h3 at k3 a3 ⊢
 have T3:TupsAt h3 vs xs:=T.imp λv x t=>t.keep ⟨_,ho,rfl⟩ k3
 refine qf (s:={ s with heap:=h3 }) rfl h64 T3 nd λp st' p1 p2 out hf=>?_
 dsimp only
 have zl:(p.toList.map λi=>vs.getD i Value.none).length<64:=by rw[l_,p1.length_eq,Ox];exact h64
 have u:=ON h3 a (Obj.mapSeq λ_=>(p.toList.map λi=>vs.getD i Value.none).toArray)
 refine k_ <| seqEpoch_at a3 rfl ?_
 rw[show (arrOf st').map (λp:Keyed=>p.2)=_ from out]
 refine k_ <| Qd a3 rfl ?_ (N_ _) (by rw[t_];omega)
 rw[hf]
 simp only[bne_self_eq_false,Pn,Qn]
 exact u_ (h p _ _ p1 p2 (λb o n z=>(u.2 b n).trans (k3 b o n z)) (Qi a3 λ_=>_))
def r9{l:Addr}{vs:List Value}{xs:List (Int×Int)}{Q:Rf}(hl:s.heap.IsList l vs.toArray)(h64:vs.length<64)(T:TupsAt s.heap vs xs)(nd:xs.Nodup)
 (h:∀(p:Array Nat) (h':Heap) (D:Addr) (c:Nat),p.toList.Perm (List.range vs.length)->UpTo (ltP xs) p vs.length->s.heap.objs.size<=D->(∀b o,s.heap.get? b=some o->h'.get? b=some o)->h'.get? D=some (seqObj "list" (p.toList.map λi=>vs.getD i Value.none).toArray c)->Q (.ref D) { s with heap:=h' }):
 wpAny (model prog w) A (call (.builtin "sorted") [.ref l]) Q E s:=by
 refine Calls.call_function_entry kind_sorted plain_sorted entry_sorted (args_sorted1 _) ?_
 unfold Builtin.«sorted»
 refine k_ (m:=checkCount "sorted" 1 1 _) <| u_ ?_
 have big:sizeLine=16777216:=rfl
 refine k_ <| collect_list hl ?_ (by omega)
 have k1:∀b o,s.heap.get? b=some o->((s.heap.push (seqObj "list" #[] 0)).update s.heap.objs.size (Obj.mapSeq (·++vs.toArray))).get? b=some o:=λb o e=>((ON (s.heap.push (seqObj "list" #[] 0)) s.heap.objs.size (Obj.mapSeq (·++vs.toArray))).2 b (K_ (w_ e))).trans (n_ _ e)
 have sz:s.heap.objs.size<=((s.heap.push (seqObj "list" #[] 0)).update s.heap.objs.size (Obj.mapSeq (·++vs.toArray))).objs.size:=by rw[Heap.size_update,size_push'];exact Nat.le_succ _
 generalize (s.heap.push (seqObj "list" #[] 0)).update s.heap.objs.size (Obj.mapSeq (·++vs.toArray))=h1 at k1 sz ⊢
 refine k_ <| Qw ?_ (by omega)
 have hoL:(h1.push (seqObj "list" vs.toArray 0)).get? h1.objs.size=some (seqObj "list" vs.toArray 0):=C_ _ rfl
 have kL:∀b o,s.heap.get? b=some o->b≠h1.objs.size/\(h1.push (seqObj "list" vs.toArray 0)).get? b=some o:=λb o e=>⟨K_ (w_ (k1 b o e)),n_ _ (k1 b o e)⟩
 refine k_ <| OW <| PJ slot_list_sort ⟨_,hoL,rfl⟩ entry_list_sort ?body (args_list_sort _)
 case body=>
  refine vL (s:={ s with heap:=h1.push (seqObj "list" vs.toArray 0) }) hoL h64 (T.imp λv x t=>t.mono λc o e=>(kL c o e).2) nd λp h' c p1 p2 k z=>?_
  exact⟨_,rfl,u_ ⟨_,rfl,h p h' h1.objs.size c p1 p2 sz (λb o e=>k b o (kL b o e).1 (kL b o e).2) z⟩⟩
end
end L2
namespace L2
open PySem PySem.Spec PyProof.Rows
noncomputable def srP(ks:List (Int×Int)):List (Int×Int):=ks.mergeSort λx y=>!a8 y x
def qP(ks:List (Int×Int)):(srP ks).Perm ks:=QO ..
def yq{ks:List (Int×Int)}(nd:ks.Nodup):(srP ks).Pairwise λx y=>a8 x y=true:=Du (λx=>x) (λh=>h) nd
def La{ks:List (Int×Int)}(nd:ks.Nodup){p:Array Nat}(h1:p.toList.Perm (List.range ks.length))(h2:UpTo (ltP ks) p ks.length):(p.toList.map λi=>ks.getD i (0,0))=srP ks:=by
 have pm:=h1.map λi=>ks.getD i (0,0)
 rw[tS] at pm
 exact m5 (k:=λx=>x) (PY.mpr (ui h1 h2)) (yq nd) (pm.trans (qP ks).symm)
def TupsV(K:W.Frag)(H:Hp):List V->List (Int×Int)->Prop
 | [],[]=>True
 |v::vs,k::ks=>(∃p,v=.ref p/\SqT K H p [.int k.1,.int k.2])/\TupsV K H vs ks
 |_,_=>False
theorem TupsV.len{K:W.Frag}{H:Hp}:∀{vs:List V}{ks:List (Int×Int)},TupsV K H vs ks->vs.length=ks.length
 | [],[],_=>rfl
 | [],_::_,t=>t.elim
 |_::_,[],t=>t.elim
 |_::_,_::_,t=>by rw[A_,A_,t.2.len]
theorem TupsV.get{K:W.Frag}{H:Hp}:∀{vs:List V}{ks:List (Int×Int)} (i:Nat),TupsV K H vs ks->i<ks.length->∃p,vs.getD i .non=.ref p/\SqT K H p [.int (ks.getD i (0,0)).1,.int (ks.getD i (0,0)).2]
 | [],[],i,_,hi=>absurd hi (by simp)
 | [],_::_,i,t,_=>t.elim
 |_::_,[],i,t,_=>t.elim
 |_::_,_::_,0,t,_=>t.1
 |_::vs,_::ks,i+1,t,hi=>TupsV.get (vs:=vs) (ks:=ks) i t.2 (by simpa using hi)
theorem TupsV.pick{K:W.Frag}{H:Hp}{vs:List V}{ks:List (Int×Int)}(t:TupsV K H vs ks):∀{l:List Nat},(∀i∈l,i<ks.length)->TupsV K H (l.map λi=>vs.getD i .non) (l.map λi=>ks.getD i (0,0))
 | [],_=>trivial
 |i::l,h=>⟨t.get i (h i (p_ ..)),t.pick λj hj=>h j (m_ _ hj)⟩
section
variable{X:Cx}
theorem TupsV.at_{pins:Rb}{σ:St}{H:Hp}{s:Shared}(I:Inv X pins σ H s):∀{vs:List V}{ks:List (Int×Int)}{its:List Value},TupsV X.K H vs ks->Vals vs its->TupsAt s.heap its ks
 | [],[],_,_,r=>by cases r;trivial
 | [],_::_,_,t,_=>t.elim
 |_::_,[],_,t,_=>t.elim
 |
  _::_,k::_,_,t,r=>by
  cases r with
  |
   cons r rr=>
   obtain⟨p,rfl,q⟩:=t.1
   cases r
   refine⟨?_,TupsV.at_ I t.2 rr⟩
   obtain⟨its,rv,pl,_⟩:=I.tuple q
   cases rv with
   |
    cons r1 rv=>
    cases rv with
    |
     cons r2 rv=>
     cases rv
     obtain⟨t1,rfl⟩:=r1
     obtain⟨t2,rfl⟩:=r2
     obtain⟨⟨cl,dc,dt,sl⟩,e,hc,n,hd⟩:=pl
     cases hc
     cases hd
     exact⟨p,n,dc,sl,t1,t2,rfl,e⟩
def lH(K:W.Frag):List V->Hp->VK->Prop:=λxs H Q=>∃a vs ks,xs=[.ref a]/\SqL K H a vs/\TupsV K H vs ks/\ks.Nodup/\ks.length<64/\∀l us,H l=none->TupsV K H us (srP ks)->Q (.ref l) (upd H l (.lst us))
def sJ:CallR X (.builtin "sorted") (lH X.K):=by
 intro pins s σ H xs us Q I r h
 obtain⟨a,vs,ks,rfl,hq,tv,nd,hz,q⟩:=h
 obtain⟨u,rfl,ru⟩:=d4 r
 cases ru
 obtain⟨its,rv,pl,_⟩:=I.list hq
 have l1:=tv.len
 have l2:=rv.length
 refine r9 pl.isList (by omega) (tv.at_ I rv) nd λp h' D c p1 p2 sz k z=>?_
 rw[<- l2,l1] at p1 p2
 have all:∀i∈p.toList,i<ks.length:=λi hi=>OD.mp (p1.mem_iff.mp hi)
 have tp:=tv.pick all
 rw[La nd p1 p2] at tp
 have vz:Vals (p.toList.map λi=>vs.getD i .non) (p.toList.map λi=>its.getD i Value.none):=by
  clear tp z p1 p2
  generalize p.toList=l at all
  induction l with
  |nil=>exact .nil
  |
   cons i l ih=>
   refine .cons ?_ (ih λj hj=>all j (m_ _ hj))
   have hi:=all i (p_ ..)
   obtain⟨u,e1,e2⟩:=rv.get (i:=i) (x:=vs.getD i .non) (by rw[Em,x_ (by omega)];rfl)
   show RelV (vs.getD i .non) (its.getD i Value.none)
   rw[show its.getD i Value.none=u from by rw[Em,e1];rfl]
   exact e2
 have big:sizeLine=16777216:=rfl
 have ln:(p.toList.map λi=>vs.getD i .non).length<=sizeLine:=by rw[l_,p1.length_eq,Ox];omega
 exact⟨.ref D,_,I.laid (t':=s.toks) k sz (show ObjOk X.prog X.w _ h' _ (.lst _) from ⟨ln,_,c,vz,z⟩),rfl,q D _ (I.hok.fresh sz) tp⟩
end
section
variable{K:W.Frag}{mg:Ra}
noncomputable def prD(k:Int×Int):D:=.tup [.int k.1,.int k.2]
noncomputable def hZ:List D->Option (List (Int×Int))
 | []=>some []
 |.tup [.int i,.int j]::ds=>(hZ ds).map ((i,j) :: ·)
 |_::_=>none
theorem mw{ρ:List Addr}{H:Hp}:∀{ds:List D}{vs:List V}{ks:List (Int×Int)},RelDs K mg ρ H ds vs->hZ ds=some ks->TupsV K H vs ks
 | [],_,_,r,e=>by cases r;cases e;trivial
 |
  d::ds,_,ks,r,e=>by
  cases r with
  |
   cons r rr=>
   unfold hZ at e
   split at e
   ·rename_i z
    exact (nomatch z)
   ·rename_i i j ds' z
    cases z
    obtain⟨ms,e1,rfl⟩:=G_.mp e
    refine⟨?_,mw rr e1⟩
    cases r with
    |
     tup q rs=>
     cases rs with
     |
      cons r1 rs=>
      cases rs with
      |
       cons r2 rs=>
       cases rs
       cases r1
       cases r2
       exact⟨_,rfl,q⟩
   ·cases e
theorem om{ρ:List Addr}{H:Hp}:∀{us:List V}{ks:List (Int×Int)},TupsV K H us ks->RelDs K mg ρ H (ks.map prD) us
 | [],[],_=>.nil
 | [],_::_,t=>t.elim
 |_::_,[],t=>t.elim
 |
  _::_,k::_,t=>by
  obtain⟨⟨p,rfl,q⟩,tt⟩:=t
  exact .cons (.tup q (.cons (.int _) (.cons (.int _) .nil))) (om tt)
noncomputable def jm:Fn:=λds h=>match ds with
 | [.ref a]=>match aB h a with
  |some xs=>match hZ xs with
   |some ks=>if ks.Nodup/\ks.length<64 then .ok (.ref h.length) (h++[.lst ((srP ks).map prD)]) else .stuck
   |none=>.stuck
  |_=>.stuck
 |_=>.stuck
def Cc:aM K mg (lH K) jm:=λρ h H ds vs Q E w rs p=>by
 unfold jm at p
 split at p
 ·cases
   rs with
  |
   cons r1 rs=>
   cases rs
   cases r1 with
   |
    ref ea=>
    split at p
    ·rename_i xs q1
     split at p
     ·rename_i ks q2
      split at p
      ·rename_i hb
       obtain⟨us,g1,g2⟩:=aP w ea q1
       exact⟨_,us,ks,rfl,g1,mw g2 q2,hb.1,hb.2,λl us' hl t=>cM w (om t) hl p⟩
      ·exact p.elim
     ·exact p.elim
    ·exact p.elim
 ·exact p.elim
end
def ddI(ns:List Int):List Int:=firstMet (λi=>ns.getD i 0) ns.length
theorem vK(val:Nat->Int):∀i,(firstMet val i).Nodup
 |0=>List.nodup_nil
 |
  i+1=>by
  rw[firstMet_succ]
  unfold step_dedup
  split
  ·exact vK val i
  ·rename_i h
   rw[List.nodup_append]
   refine⟨vK val i,by simp,λa ha b hb z=>h ?_⟩
   rw[OL] at hb
   exact P6.mpr ⟨a,ha,by rw[z,hb];exact P9 _⟩
theorem rZ(val:Nat->Int):∀i,i<=(firstMet val i).length->∀j k,j<k->k<i->val j≠val k
 |0,_,j,k,_,h=>absurd h (by omega)
 |
  i+1,hl,j,k,hjk,hk=>by
  rw[firstMet_succ] at hl
  unfold step_dedup at hl
  have le:=firstMet_length_le val i
  split at hl
  ·omega
  ·rename_i hn
   rw[z_,Qz] at hl
   by_cases e:k=i
   ·subst e
    intro z
    refine hn ?_
    rw[firstMet_any]
    exact P6.mpr ⟨val j,OU.mpr ⟨j,OD.mpr hjk,rfl⟩,Ov.mpr z⟩
   ·exact rZ val i (by omega) j k hjk (by omega)
def E7{ns:List Int}(h:ns.length<=(ddI ns).length){i j:Nat}(hij:i<j)(hj:j<ns.length):ns.getD i 0≠ns.getD j 0:=rZ (λi=>ns.getD i 0) ns.length h i j hij hj
section
variable{X:Cx}
def pb(K:W.Frag):List V->Hp->VK->Prop:=λxs H Q=>∃a ns,xs=[.ref a]/\SqL K H a (ns.map V.int)/\ns.length<1000/\∀l,H l=none->Q (.ref l) (upd H l (.set (λi=>decide (i∈ddI ns)) (ddI ns).length))
def yo(hc:X.calm=true):CallR X (.type "set") (pb X.K):=by
 intro pins s σ H xs us Q I r h
 obtain⟨a,ns,rfl,hq,hz,q⟩:=h
 obtain⟨u,rfl,ru⟩:=d4 r
 cases ru
 obtain⟨its,rv,pl,_⟩:=I.list hq
 have ln:=rv.length
 rw[l_] at ln
 refine call_set_list (I.ok.hd hc) pl.isList (jU rv) (by show its.length+1<_;rw[<- ln];unfold scanBound;omega) λh' tk S k=>?_
 have e:firstMet (λi=>ns.getD i 0) its.toArray.size=ddI ns:=by
  unfold ddI
  rw[t_,<- ln]
 rw[e] at S
 have S':h'.SetOf (intKind X.prog X.w) s.heap.objs.size (λi=>decide (i∈ddI ns)) (ddI ns).length:=by
  rw[show (λi=>decide (i∈ddI ns))=λk'=>(ddI ns).any (· == k') from funext λk=>by
   rw[QB,OR,P6]
   constructor
   ·exact λz=>⟨k,z,P9 _⟩
   ·rintro⟨x,hx,z⟩
    rw[<- Ov.mp z];exact hx]
  exact S
 exact⟨.ref s.heap.objs.size,_,I.laid (t':=tk) (λb o e=>k b o (w_ e) e) (o_ _) (show ObjOk X.prog X.w _ h' _ (.set _ _) from S'),rfl,q _ (I.hok.fresh (o_ _))⟩
end
section
variable{K:W.Frag}{mg:Ra}
noncomputable def mI:Fn:=λds h=>match ds with
 | [d]=>match lsD h d with
  |some xs=>match jZ xs with
   |some ns=>if ns.length<1000 then .ok (.ref h.length) (h++[.set (ddI ns)]) else .stuck
   |none=>.stuck
  |none=>.stuck
 |_=>.stuck
def FZ:aM K mg (pb K) mI:=λρ h H ds vs Q E w rs p=>by
 unfold mI at p
 split at p
 ·cases
   rs with
  |
   cons r1 rs=>
   cases rs
   split at p
   ·rename_i xs q1
    split at p
    ·rename_i ns q2
     split at p
     ·rename_i hb
      obtain⟨b,us,rfl,g1,g2⟩:=u5 w r1 q1
      obtain rfl:=jH g2 q2
      refine⟨b,ns,rfl,g1,hb,λl hl=>?_⟩
      have w2:=w.alloc (o:=.set (ddI ns)) (u:=.set (λi=>decide (i∈ddI ns)) (ddI ns).length) hl ⟨vK _ _,aR⟩
      refine p _ _ ((bU hl).trans ig) w2 _ (.ref ?_)
      rw[<- w.len,Oq (o_ _),PH]
      rfl
     ·exact p.elim
    ·exact p.elim
   ·exact p.elim
 ·exact p.elim
end
end L2
namespace L2
open PySem PySem.Spec PySem.Calls PyProof.Rows
section
variable{X:Cx}{K:W.Frag}{mg:Ra}{ES:St->XK}{a:Expr}{A:MA}{ta:TA}{q1 q2 q6 q8 q9 pc:Pos}{kc:Nat}
end
section
variable{prog:Program}{w:World}{A:Around}{E:Rf}{s:Shared}
end
section
variable{X:Cx}{K:W.Frag}{mg:Ra}{ES:St->XK}{a:Expr}{A:MA}{ta:TA}{pos q2 p1 p2:Pos}
end
end L2
namespace L3
open PySem PySem.Spec PyProof.Rows L2
set_option genInjectivity true in
inductive Val where
 |non |bl (b:Bool) |int (i:Int) |str (x:Str) |ty (n:String) |glb (x:Str) |exc (x:Str)
 |tup (xs:List Val) |lst (xs:List Val) |kl (xs:List Val) |dct (kvs:List (Key×Val)) |set (xs:List Int)
 deriving Inhabited
mutual
inductive Rd(P:Nat->Prop)(h:AH):D->Val->Prop where
 |non:Rd P h .non .non
 |bl (b:Bool):Rd P h (.bl b) (.bl b)
 |int (i:Int):Rd P h (.int i) (.int i)
 |str (x:Str):Rd P h (.str x) (.str x)
 |ty (n:String):Rd P h (.ty n) (.ty n)
 |glb (x:Str):Rd P h (.glb x) (.glb x)
 |exc (x:Str):Rd P h (.exc x) (.exc x)
 |tup {ds:List D}{vs:List Val} (r:Rds P h ds vs):Rd P h (.tup ds) (.tup vs)
 |kl {ds:List D}{vs:List Val} (r:Rds P h ds vs):Rd P h (.kl ds) (.kl vs)
 |cell {n:Nat}{o:Ob}{v:Val} (p:P n) (e:h[n]?=some o) (r:Rc P h o v):Rd P h (.ref n) v
inductive Rc(P:Nat->Prop)(h:AH):Ob->Val->Prop where
 |lst {ds:List D}{vs:List Val} (r:Rds P h ds vs):Rc P h (.lst ds) (.lst vs)
 |fz {ds:List D}{vs:List Val} (r:Rds P h ds vs):Rc P h (.fz ds) (.kl vs)
 |dct {ws:List (Key×D)}{us:List (Key×Val)} (r:Rk P h ws us):Rc P h (.dct ws) (.dct us)
 |set (xs:List Int):Rc P h (.set xs) (.set xs)
inductive Rds(P:Nat->Prop)(h:AH):List D->List Val->Prop where
 |nil:Rds P h [] []
 |cons {d:D}{v:Val}{ds:List D}{vs:List Val} (r:Rd P h d v) (rr:Rds P h ds vs):Rds P h (d::ds) (v::vs)
inductive Rk(P:Nat->Prop)(h:AH):List (Key×D)->List (Key×Val)->Prop where
 |nil:Rk P h [] []
 |cons {k:Key}{d:D}{v:Val}{ds:List (Key×D)}{vs:List (Key×Val)} (r:Rd P h d v) (rr:Rk P h ds vs):Rk P h ((k,d)::ds) ((k,v)::vs)
end
section
variable{P P':Nat->Prop}{h h':AH}
abbrev Mov(P P':Nat->Prop)(h h':AH):Prop:=∀n o,P n->h[n]?=some o->P' n/\h'[n]?=some o
def Rd.mono(m:Mov P P' h h')(r:Rd P h d v):Rd P' h' d v:=@Rd.rec P h (λd v _=>Rd P' h' d v) (λo v _=>Rc P' h' o v) (λds vs _=>Rds P' h' ds vs) (λws us _=>Rk P' h' ws us) .non (λb=>.bl b) (λi=>.int i) (λx=>.str x) (λn=>.ty n) (λx=>.glb x) (λx=>.exc x) (λ_ ih=>.tup ih) (λ_ ih=>.kl ih) (λp e _ ih=>.cell (m _ _ p e).1 (m _ _ p e).2 ih) (λ_ ih=>.lst ih) (λ_ ih=>.fz ih) (λ_ ih=>.dct ih) (λxs=>.set xs) .nil (λ_ _ a b=>.cons a b) .nil (λ_ _ a b=>.cons a b) d v r
def Rds.ind{M:List D->List Val->Prop}(h0:M [] [])(h1:∀{d v ds vs},Rd P h d v->Rds P h ds vs->M ds vs->M (d::ds) (v::vs)){ds:List D}{vs:List Val}(r:Rds P h ds vs):M ds vs:=by
 induction ds generalizing vs with
 |nil=>cases r;exact h0
 |
  cons d ds ih=>
  cases r with
  |cons r rr=>exact h1 r rr (ih rr)
def Rk.ind{M:List (Key×D)->List (Key×Val)->Prop}(h0:M [] [])(h1:∀{k d v ds vs},Rd P h d v->Rk P h ds vs->M ds vs->M ((k,d)::ds) ((k,v)::vs)){ds:List (Key×D)}{vs:List (Key×Val)}(r:Rk P h ds vs):M ds vs:=by
 induction ds generalizing vs with
 |nil=>cases r;exact h0
 |
  cons d ds ih=>
  cases r with
  |cons r rr=>exact h1 r rr (ih rr)
def Rds.mono(m:Mov P P' h h'){d:List D}{v:List Val}(r:Rds P h d v):Rds P' h' d v:=r.ind .nil λr _ ih=>.cons (r.mono m) ih
def Rk.mono(m:Mov P P' h h'){d:List (Key×D)}{v:List (Key×Val)}(r:Rk P h d v):Rk P' h' d v:=r.ind .nil λr _ ih=>.cons (r.mono m) ih
def Rc.mono(m:Mov P P' h h')(r:Rc P h d v):Rc P' h' d v:=by
 cases r with
 |lst r=>exact .lst (r.mono m)
 |fz r=>exact .fz (r.mono m)
 |dct r=>exact .dct (r.mono m)
 |set xs=>exact .set xs
def Rds.len{ds:List D}{vs:List Val}(r:Rds P h ds vs):ds.length=vs.length:=r.ind (M:=λds vs=>ds.length=vs.length) rfl λ_ _ ih=>OO (· + 1) ih
def Rds.get{ds:List D}{vs:List Val}{i:Nat}{v:Val}(r:Rds P h ds vs)(e:vs[i]?=some v):∃d,ds[i]?=some d/\Rd P h d v:=
 r.ind (M:=λds vs=>∀i,vs[i]?=some v->∃d,ds[i]?=some d/\Rd P h d v) (λ_ e=>by rw[List.getElem?_nil] at e;cases e) (λr _ ih i e=>match i,e with
  |0,e=>by cases e;exact⟨_,rfl,r⟩
  |i+1,e=>ih i e) i e
def Rds.append{ds es:List D}{vs ws:List Val}(r:Rds P h ds vs)(q:Rds P h es ws):Rds P h (ds++es) (vs++ws):=r.ind (M:=λds vs=>Rds P h (ds++es) (vs++ws)) q λr _ ih=>.cons r ih
def Rds.take{ds:List D}{vs:List Val}(n:Nat)(r:Rds P h ds vs):Rds P h (ds.take n) (vs.take n):=
 r.ind (M:=λds vs=>∀n:Nat,Rds P h (ds.take n) (vs.take n)) (λn=>by rw[PM,PM];exact .nil) (λr _ ih n=>by cases n with |zero=>exact .nil |succ n=>exact .cons r (ih n)) n
def Rds.drop{ds:List D}{vs:List Val}(n:Nat)(r:Rds P h ds vs):Rds P h (ds.drop n) (vs.drop n):=
 r.ind (M:=λds vs=>∀n:Nat,Rds P h (ds.drop n) (vs.drop n)) (λn=>by rw[Qc,Qc];exact .nil) (λr rr ih n=>by cases n with |zero=>exact .cons r rr |succ n=>exact ih n) n
def Rds.set{d:D}{v:Val}(r:Rd P h d v){ds:List D}{vs:List Val}(i:Nat)(q:Rds P h ds vs):Rds P h (ds.set i d) (vs.set i v):=
 q.ind (M:=λds vs=>∀i:Nat,Rds P h (ds.set i d) (vs.set i v)) (λ_=>.nil) (λq qq ih i=>by cases i with |zero=>exact .cons r qq |succ i=>exact .cons q (ih i)) i
def Rds.reverse(r:Rds P h ds vs):Rds P h ds.reverse vs.reverse:=by
 induction ds generalizing vs with
 |nil=>cases r;exact .nil
 |
  cons d ds ih=>
  cases r with
  |cons q rr=>rw[PC,PC];exact (ih rr).append (.cons q .nil)
def ShR(P:Nat->Prop)(h:AH)(d:D)(v:Val):Prop:=Rd P h d v\/∃n o,d=.ref n/\h[n]?=some o/\Rc P h o v
inductive ShRs(P:Nat->Prop)(h:AH):List D->List Val->Prop where
 |nil:ShRs P h [] []
 |cons {d:D}{v:Val}{ds:List D}{vs:List Val} (r:ShR P h d v) (rr:ShRs P h ds vs):ShRs P h (d::ds) (v::vs)
def Val.items:Val->Option (List Val)
 |.tup xs=>some xs
 |.lst xs=>some xs
 |.kl xs=>some xs
 |_=>none
def ShR.int(r:ShR P h d (.int i)):d=.int i:=by
 rcases r with r |⟨n,o,rfl,e,r⟩
 ·cases r with
  |int=>rfl
  |cell p e r=>cases r
 ·cases r
def ShR.str(r:ShR P h d (.str i)):d=.str i:=by
 rcases r with r |⟨n,o,rfl,e,r⟩
 ·cases r with
  |str=>rfl
  |cell p e r=>cases r
 ·cases r
def ShR.bl(r:ShR P h d (.bl i)):d=.bl i:=by
 rcases r with r |⟨n,o,rfl,e,r⟩
 ·cases r with
  |bl=>rfl
  |cell p e r=>cases r
 ·cases r
def ShR.non(r:ShR P h d .non):d=.non:=by
 rcases r with r |⟨n,o,rfl,e,r⟩
 ·cases r with
  |non=>rfl
  |cell p e r=>cases r
 ·cases r
def ShR.exc(r:ShR P h d (.exc x)):d=.exc x:=by
 rcases r with r |⟨n,o,rfl,e,r⟩
 ·cases r with
  |exc=>rfl
  |cell p e r=>cases r
 ·cases r
def ShR.ty(r:ShR P h d (.ty x)):d=.ty x:=by
 rcases r with r |⟨n,o,rfl,e,r⟩
 ·cases r with
  |ty=>rfl
  |cell p e r=>cases r
 ·cases r
def ShR.glb(r:ShR P h d (.glb x)):d=.glb x:=by
 rcases r with r |⟨n,o,rfl,e,r⟩
 ·cases r with
  |glb=>rfl
  |cell p e r=>cases r
 ·cases r
def ShR.tup(r:ShR P h d (.tup vs)):∃ds,d=.tup ds/\Rds P h ds vs:=by
 rcases r with r |⟨n,o,rfl,e,r⟩
 ·cases r with
  |tup r=>exact⟨_,rfl,r⟩
  |cell p e r=>cases r
 ·cases r
def Rc.seq(e:h[n]?=some o)(r:Rc P h o (.lst vs)):∃ds,h[n]?=some (.lst ds)/\aB h n=some ds/\Rds P h ds vs:=by
 cases r with
 |lst r=>exact⟨_,e,by unfold aB;rw[e],r⟩
def ShR.lst(r:ShR P h d (.lst vs)):∃n ds,d=.ref n/\h[n]?=some (.lst ds)/\aB h n=some ds/\Rds P h ds vs:=by
 rcases r with r |⟨n,o,rfl,e,r⟩
 ·cases r with
  |
   cell p e r=>
   obtain⟨ds,q,r⟩:=Rc.seq e r
   exact⟨_,ds,rfl,q,r⟩
 ·obtain⟨ds,q,r⟩:=Rc.seq e r
  exact⟨_,ds,rfl,q,r⟩
def ShR.kl(r:ShR P h d (.kl vs)):∃ds,Rds P h ds vs/\(d=.kl ds\/∃n,d=.ref n/\aB h n=some ds):=by
 rcases r with r |⟨n,o,rfl,e,r⟩
 ·cases r with
  |kl r=>exact⟨_,r,.inl rfl⟩
  |cell p e r=>cases r with |fz r=>exact⟨_,r,.inr ⟨_,rfl,by unfold aB;rw[e]⟩⟩
 ·cases r with |fz r=>exact⟨_,r,.inr ⟨_,rfl,by unfold aB;rw[e]⟩⟩
def ShR.set(r:ShR P h d (.set xs)):∃n,d=.ref n/\h[n]?=some (.set xs):=by
 rcases r with r |⟨n,o,rfl,e,r⟩
 ·cases r with
  |cell p e r=>cases r;exact⟨_,rfl,e⟩
 ·cases r;exact⟨_,rfl,e⟩
def ShR.dct(r:ShR P h d (.dct us)):∃n ws,d=.ref n/\h[n]?=some (.dct ws)/\Rk P h ws us:=by
 rcases r with r |⟨n,o,rfl,e,r⟩
 ·cases r with
  |cell p e r=>cases r with |dct r=>exact⟨_,_,rfl,e,r⟩
 ·cases r with |dct r=>exact⟨_,_,rfl,e,r⟩
def ShR.items(r:ShR P h d v)(e:v.items=some vs):∃ds,cR h d=some ds/\Rds P h ds vs:=by
 cases v with
 |tup xs=>cases e;obtain⟨ds,rfl,q⟩:=r.tup;exact⟨ds,rfl,q⟩
 |lst xs=>cases e;obtain⟨n,ds,rfl,_,e,q⟩:=r.lst;exact⟨ds,e,q⟩
 |
  kl xs=>
  cases e
  obtain⟨ds,q,rfl |⟨n,rfl,e⟩⟩:=r.kl
  ·exact⟨ds,rfl,q⟩
  ·exact⟨ds,e,q⟩
 |_=>cases e
end
inductive Sl where
 |no |sh (v:Val) |ow (v:Val) |mu (v:Val) |lo (v:Val) |lm (v:Val)
 deriving Inhabited
abbrev E3:=List Sl
def Sl.val:Sl->Option Val
 |.no=>none
 |.sh v=>some v
 |.ow v=>some v
 |.mu v=>some v
 |.lo v=>some v
 |.lm v=>some v
def Sl.mt:Sl->Bool
 |.ow _=>true
 |.mu _=>true
 |_=>false
def Sl.lk:Sl->Bool
 |.lo _=>true
 |.lm _=>true
 |_=>false
abbrev Ns:=List (Option Nat)
def Oc(X:Nat->Prop)(ns:Ns)(n:Nat):Prop:=¬ X n/\some n∉ns
def bL:Ob->Prop
 |.fz _=>False
 |.any=>False
 |_=>True
def SlR(P:Nat->Prop)(h0:Nat)(n:Option (Option Nat))(d:Option (Option D))(h:AH):Sl->Prop
 |.no=>n=some none
 |.sh v=>n=some none/\∃x,d=some (some x)/\Rd P h x v
 |.ow v=>∃m o,n=some (some m)/\d=some (some (.ref m))/\h0<=m/\h[m]?=some o/\bL o/\Rc P h o v
 |.lo v=>∃m o,n=some (some m)/\d=some (some (.ref m))/\h0<=m/\h[m]?=some o/\bL o/\Rc P h o v
 |.mu v=>∃m o,n=some (some m)/\d=some (some (.ref m))/\h[m]?=some o/\bL o/\Rc P h o v
 |.lm v=>∃m o,n=some (some m)/\d=some (some (.ref m))/\h[m]?=some o/\bL o/\Rc P h o v
structure Sat(X:Nat->Prop)(h0:Nat)(ns:Ns)(e:E3)(ae:AE)(h:AH):Prop where
 l1:ae.length=e.length
 l2:ns.length=e.length
 lh:h0<=h.length
 xl:∀(n:Nat),X n->n<h.length
 inj:∀(i j n:Nat),ns[i]?=some (some n)->ns[j]?=some (some n)->i=j
 nx:∀(i n:Nat),ns[i]?=some (some n)->¬ X n
 sl:∀(i:Nat) (s:Sl),e[i]?=some s->SlR (Oc X ns) h0 (ns[i]?) (ae[i]?) h s
def Mt(ns:Ns)(e:E3)(n:Nat):Prop:=∃(i:Nat) (s:Sl),ns[i]?=some (some n)/\e[i]?=some s/\s.mt=true
structure Stp(ns:Ns)(e:E3)(h:AH)(ns':Ns)(e':E3)(h':AH):Prop where
 len:h.length<=h'.length
 keep:∀(m:Nat) (o:Ob),h[m]?=some o->¬ Mt ns e m->h'[m]?=some o
 nw:∀(i n:Nat),ns'[i]?=some (some n)->ns[i]?=some (some n)\/h.length<=n
 lk:∀(i:Nat) (s:Sl),e[i]?=some s->s.lk=true->e'[i]?=some s/\ns'[i]?=ns[i]?
 lk':∀(i:Nat) (s:Sl),e'[i]?=some s->s.lk=true->e[i]?=some s/\ns'[i]?=ns[i]?
 mu:∀(i:Nat) (v:Val),e'[i]?=some (.mu v)->∃u,e[i]?=some (.mu u)/\ns'[i]?=ns[i]?
 mu':∀(i:Nat) (u:Val),e[i]?=some (.mu u)->∃v,e'[i]?=some (.mu v)/\ns'[i]?=ns[i]?
section
variable{X:Nat->Prop}{h0:Nat}{ns ns' ns1 h_:Ns}{e e' e1 e2:E3}{ae:AE}{h h' h1 h2:AH}
def aU:some n∈ns ↔ ∃i:Nat,ns[i]?=some (some n):=by
 constructor
 ·intro m;exact List.getElem?_of_mem m
 ·rintro⟨i,e⟩;exact Pe e
def Sat.own(S:Sat X h0 ns e ae h){i n:Nat}(q:ns[i]?=some (some n)):∃s v o,e[i]?=some s/\(s.mt=true\/s.lk=true)/\s.val=some v/\ae[i]?=some (some (.ref n))/\h[n]?=some o/\bL o/\Rc (Oc X ns) h o v:=by
 have hi:i<e.length:=by rw[<- S.l2];exact (r_.mp q).1
 have hs:=S.sl i e[i] (x_ hi)
 refine⟨e[i],?_⟩
 have he:=x_ hi
 generalize e[i]=s at *
 rw[q] at hs
 cases s with
 |no=>cases hs
 |sh v=>cases hs.1
 |ow v=>obtain⟨m,o,e1,e2,_,e3,e4,e5⟩:=hs;cases e1;exact⟨v,o,he,.inl rfl,rfl,e2,e3,e4,e5⟩
 |lo v=>obtain⟨m,o,e1,e2,_,e3,e4,e5⟩:=hs;cases e1;exact⟨v,o,he,.inr rfl,rfl,e2,e3,e4,e5⟩
 |mu v=>obtain⟨m,o,e1,e2,e3,e4,e5⟩:=hs;cases e1;exact⟨v,o,he,.inl rfl,rfl,e2,e3,e4,e5⟩
 |lm v=>obtain⟨m,o,e1,e2,e3,e4,e5⟩:=hs;cases e1;exact⟨v,o,he,.inr rfl,rfl,e2,e3,e4,e5⟩
def Stp.refl:Stp ns e h ns e h:=⟨o_ _,λ_ _ q _=>q,λ_ _ q=>.inl q,λ_ _ q _=>⟨q,rfl⟩,λ_ _ q _=>⟨q,rfl⟩,λ_ _ q=>⟨_,q,rfl⟩,λ_ _ q=>⟨_,q,rfl⟩⟩
def Stp.trans(S:Sat X h0 ns e ae h)(a:Stp ns e h ns1 e1 h1)(b:Stp ns1 e1 h1 h_ e2 h2):Stp ns e h h_ e2 h2:=by
 refine⟨E_ a.len b.len,λm o q hm=>?_,λi n q=>?_,λi s q hl=>?_,λi s q hl=>?_,λi v q=>?_,λi v q=>?_⟩
 ·refine b.keep m o (a.keep m o q hm) λ⟨i,s,z1,z2,z3⟩=>hm ?_
  have hlt:=(r_.mp q).1
  rcases a.nw i m z1 with z |z
  ·obtain⟨s0,v,o',q1,q2,_⟩:=S.own z
   rcases q2 with q2 |q2
   ·exact⟨i,s0,z,q1,q2⟩
   ·have:=(a.lk i s0 q1 q2).1
    rw[z2] at this
    cases this
    exfalso
    cases s <;> first |cases z3;done |cases q2;done
  ·omega
 ·rcases b.nw i n q with z |z
  ·exact a.nw i n z
  ·exact .inr (E_ a.len z)
 ·obtain⟨q1,q2⟩:=a.lk i s q hl
  obtain⟨q3,q4⟩:=b.lk i s q1 hl
  exact⟨q3,q4.trans q2⟩
 ·obtain⟨q1,q2⟩:=b.lk' i s q hl
  obtain⟨q3,q4⟩:=a.lk' i s q1 hl
  exact⟨q3,q2.trans q4⟩
 ·obtain⟨u,q1,q2⟩:=b.mu i v q
  obtain⟨u',q3,q4⟩:=a.mu i u q1
  exact⟨u',q3,q2.trans q4⟩
 ·obtain⟨u,q1,q2⟩:=a.mu' i v q
  obtain⟨u',q3,q4⟩:=b.mu' i u q1
  exact⟨u',q3,q4.trans q2⟩
def Stp.mov(S:Sat X h0 ns e ae h)(a:Stp ns e h ns1 e1 h1):Mov (Oc X ns) (Oc X ns1) h h1:=λn o p q=>by
 have hlt:=(r_.mp q).1
 have hm:¬ Mt ns e n:=λ⟨i,s,z,_⟩=>p.2 (aU.mpr ⟨i,z⟩)
 refine⟨⟨p.1,λz=>?_⟩,a.keep n o q hm⟩
 obtain⟨i,z⟩:=aU.mp z
 rcases a.nw i n z with z |z
 ·exact p.2 (aU.mpr ⟨i,z⟩)
 ·omega
def cF(q:h[n]?=some o):n<h.length:=(r_.mp q).1
def jS{n:Nat}{o:Ob}{g:AH}(q:h[n]?=some o):(h++g)[n]?=some o:=by rw[M_ (cF q)];exact q
def DU:(h++[o])[h.length]?=some o:=by rw[Oq (o_ _),PH];rfl
def SlR.mono(m:Mov P P' h h')(k:∀j o,n=some (some j)->h[j]?=some o->h'[j]?=some o)(r:SlR P h0 n d h s):SlR P' h0 n d h' s:=by
 cases s with
 |no=>exact r
 |sh v=>obtain⟨q,x,q1,q2⟩:=r;exact⟨q,x,q1,q2.mono m⟩
 |ow v=>obtain⟨j,o,q1,q2,q3,q4,q5,q6⟩:=r;exact⟨j,o,q1,q2,q3,k j o q1 q4,q5,q6.mono m⟩
 |lo v=>obtain⟨j,o,q1,q2,q3,q4,q5,q6⟩:=r;exact⟨j,o,q1,q2,q3,k j o q1 q4,q5,q6.mono m⟩
 |mu v=>obtain⟨j,o,q1,q2,q4,q5,q6⟩:=r;exact⟨j,o,q1,q2,k j o q1 q4,q5,q6.mono m⟩
 |lm v=>obtain⟨j,o,q1,q2,q4,q5,q6⟩:=r;exact⟨j,o,q1,q2,k j o q1 q4,q5,q6.mono m⟩
def Xn(X:Nat->Prop)(n:Nat):Nat->Prop:=λm=>X m\/m=n
def Sat.grow(S:Sat X h0 ns e ae h)(o:Ob):Sat (Xn X h.length) h0 ns e ae (h++[o]):=by
 have mv:Mov (Oc X ns) (Oc (Xn X h.length) ns) h (h++[o]):=λn o' p q=>⟨⟨λz=>by
  rcases z with z |z
  ·exact p.1 z
  ·have:=cF q;omega,p.2⟩,jS q⟩
 refine⟨S.l1,S.l2,by rw[z_];have:=S.lh;omega,λn z=>?_,S.inj,λi n q z=>?_,λi s q=>(S.sl i s q).mono mv λj o' _ q'=>jS q'⟩
 ·rw[z_]
  rcases z with z |z
  ·have:=S.xl n z;omega
  ·subst z;show h.length<h.length+1;omega
 ·rcases z with z |z
  ·exact S.nx i n q z
  ·obtain⟨_,_,_,_,_,_,_,q',_⟩:=S.own q
   have:=cF q';omega
def Sat.weak(S:Sat Y h0 ns e ae h)(hx:∀n,X n->Y n):Sat X h0 ns e ae h:=
 ⟨S.l1,S.l2,S.lh,λn z=>S.xl n (hx n z),S.inj,λi n q z=>S.nx i n q (hx n z),λi s q=>(S.sl i s q).mono (λn o p q=>⟨⟨λz=>p.1 (hx n z),p.2⟩,q⟩) λ_ _ _ q=>q⟩
def Stp.grow(o:Ob):Stp ns e h ns e (h++[o]):=⟨by rw[z_];omega,λ_ _ q _=>jS q,λ_ _ q=>.inl q,λ_ _ q _=>⟨q,rfl⟩,λ_ _ q _=>⟨q,rfl⟩,λ_ _ q=>⟨_,q,rfl⟩,λ_ _ q=>⟨_,q,rfl⟩⟩
end
section
variable{X:Nat->Prop}{h0:Nat}{ns ns':Ns}{e e':E3}{ae:AE}{h h' hs:AH}
def bo{α:Type}{l:List α}{i j:Nat}{a b:α}(hi:i<l.length)(q:(l.set i a)[j]?=some b):(j=i/\b=a)\/(j≠i/\l[j]?=some b):=by
 rw[Qq] at q
 by_cases z:i=j
 ·subst z
  rw[if_pos rfl,if_pos hi] at q
  exact .inl ⟨rfl,(H_ q).symm⟩
 ·rw[if_neg z] at q
  exact .inr ⟨λy=>z y.symm,q⟩
def bM{α:Type}{l:List α}{i:Nat}{a:α}(hi:i<l.length):(l.set i a)[i]?=some a:=by rw[Qq,if_pos rfl,if_pos hi]
def bG{α:Type}{l:List α}{i j:Nat}{a:α}(hi:j≠i):(l.set i a)[j]?=l[j]?:=by rw[QG (λy=>hi y.symm)]
def fi(p:Oc X ns n):Oc X (ns.set i none) n:=⟨p.1,λz=>by
 rcases List.mem_or_eq_of_mem_set z with z |z
 ·exact p.2 z
 ·cases z⟩
def Sat.putN(S:Sat X h0 ns e ae h)(hi:i<e.length)(q:SlR (Oc X (ns.set i none)) h0 (some none) (some d) h s):Sat X h0 (ns.set i none) (e.set i s) (ae.set i d) h:=by
 have hn:i<ns.length:=by rw[S.l2];exact hi
 have ha:i<ae.length:=by rw[S.l1];exact hi
 refine⟨by rw[Oo,Oo];exact S.l1,by rw[Oo,Oo];exact S.l2,S.lh,S.xl,λj k n q1 q2=>?_,λj n q1=>?_,λj s' q1=>?_⟩
 ·rcases bo hn q1 with ⟨_,z⟩ |⟨_,z⟩
  ·cases z
  rcases bo hn q2 with ⟨_,y⟩ |⟨_,y⟩
  ·cases y
  exact S.inj j k n z y
 ·rcases bo hn q1 with ⟨_,z⟩ |⟨_,z⟩
  ·cases z
  exact S.nx j n z
 ·rcases bo hi q1 with ⟨rfl,rfl⟩ |⟨z,q2⟩
  ·rw[bM hn,bM ha];exact q
  ·rw[bG z,bG z]
   exact (S.sl j s' q2).mono (λn o p q=>⟨fi p,q⟩) λ_ _ _ q=>q
def Sat.putN'(S:Sat X h0 ns e ae h)(hi:i<e.length)(q:SlR (Oc X (ns.set i none)) h0 (some none) (ae[i]?) h s):Sat X h0 (ns.set i none) (e.set i s) ae h:=by
 have ha:i<ae.length:=by rw[S.l1];exact hi
 have:=S.putN hi (s:=s) (d:=ae[i]) (by rw[x_ ha] at q;exact q)
 rw[List.set_getElem_self] at this
 exact this
def Sat.putO(S:Sat (Xn X n) h0 ns e ae h)(hx:¬ X n)(hi:i<e.length)(hn0:h0<=n)(eo:h[n]?=some o)(hf:bL o)(r:Rc (Oc (Xn X n) ns) h o v):Sat X h0 (ns.set i (some n)) (e.set i (.ow v)) (ae.set i (some (.ref n))) h:=by
 have hn:i<ns.length:=by rw[S.l2];exact hi
 have ha:i<ae.length:=by rw[S.l1];exact hi
 have nn:∀j:Nat,ns[j]?≠some (some n):=λj q=>S.nx j n q (.inr rfl)
 have mv:Mov (Oc (Xn X n) ns) (Oc X (ns.set i (some n))) h h:=λm o' p q=>⟨⟨λz=>p.1 (.inl z),λz=>by
  rcases List.mem_or_eq_of_mem_set z with z |z
  ·exact p.2 z
  ·cases z;exact p.1 (.inr rfl)⟩,q⟩
 refine⟨by rw[Oo,Oo];exact S.l1,by rw[Oo,Oo];exact S.l2,S.lh,λm z=>S.xl m (.inl z),λj k m q1 q2=>?_,λj m q1 z=>?_,λj s' q1=>?_⟩
 ·rcases bo hn q1 with ⟨z1,z⟩ |⟨z1,z⟩ <;> rcases bo hn q2 with ⟨y1,y⟩ |⟨y1,y⟩
  ·rw[z1,y1]
  ·cases z;exact absurd y (nn k)
  ·cases y;exact absurd z (nn j)
  ·exact S.inj j k m z y
 ·rcases bo hn q1 with ⟨_,y⟩ |⟨_,y⟩
  ·cases y;exact hx z
  ·exact S.nx j m y (.inl z)
 ·rcases bo hi q1 with ⟨rfl,rfl⟩ |⟨z,q2⟩
  ·rw[bM hn,bM ha];exact⟨n,o,rfl,rfl,hn0,eo,hf,r.mono mv⟩
  ·rw[bG z,bG z]
   exact (S.sl j s' q2).mono mv λ_ _ _ q=>q
def Sl.pl:Sl->Bool
 |.no=>true
 |.sh _=>true
 |.ow _=>true
 |_=>false
def Stp.put(A:Stp ns0 e0 hs ns e h)(hi:i<e.length)(hx:∀n,x=some n->hs.length<=n)(q0:e[i]?=some s0)(p0:s0.pl=true)(p:s.pl=true)(l2:ns.length=e.length):Stp ns0 e0 hs (ns.set i x) (e.set i s) h:=by
 have hn:i<ns.length:=by rw[l2];exact hi
 refine⟨A.len,A.keep,λj n q=>?_,λj s' q hl=>?_,λj s' q hl=>?_,λj v q=>?_,λj v q=>?_⟩
 ·rcases bo hn q with ⟨_,z⟩ |⟨_,z⟩
  ·exact .inr (hx n z.symm)
  ·exact A.nw j n z
 ·obtain⟨q1,q2⟩:=A.lk j s' q hl
  have z:j≠i:=λz=>by
   subst z
   rw[q0] at q1;cases q1
   cases s0 <;> first |cases p0;done |cases hl;done
  rw[bG z,bG z];exact⟨q1,q2⟩
 ·rcases bo hi q with ⟨_,z⟩ |⟨z,q1⟩
  ·subst z;cases s' <;> first |cases p;done |cases hl;done
  ·rw[bG z];exact A.lk' j s' q1 hl
 ·rcases bo hi q with ⟨_,z⟩ |⟨z,q1⟩
  ·subst z;cases p
  ·rw[bG z];exact A.mu j v q1
 ·obtain⟨u,q1,q2⟩:=A.mu' j v q
  have z:j≠i:=λz=>by
   subst z
   rw[q0] at q1;cases q1;cases p0
  exact⟨u,by rw[bG z];exact q1,by rw[bG z];exact q2⟩
end
inductive Tm where
 |val (v:Val) |new (v:Val) |bor (i:Nat)
inductive R3(α:Type) where
 |ok (a:α) (e:E3) |exc (c:Str) (e:E3) |stuck
def R3.bind{α β:Type}(r:R3 α)(f:α->E3->R3 β):R3 β:=match r with
 |.ok a e=>f a e
 |.exc c e=>.exc c e
 |.stuck=>.stuck
abbrev ME3:=E3->R3 Tm
abbrev MT3:=E3->R3 Bool
abbrev MA3:=E3->R3 (List Tm)
def Po{δ α:Type}(X:Nat->Prop)(h0:Nat)(ns:Ns)(e:E3)(ae:AE)(h:AH)(rel:Ns->E3->AH->δ->α->Prop)(r2:R δ):R3 α->Prop
 |.stuck=>True
 |.ok t e'=>∃d h' ns',r2=.ok d h'/\Stp ns e h ns' e' h'/\Sat X h0 ns' e' ae h'/\rel ns' e' h' d t
 |.exc c e'=>∃h' ns',r2=.exc c h'/\Stp ns e h ns' e' h'/\Sat X h0 ns' e' ae h'
def relE(X:Nat->Prop)(h0 L:Nat)(ae:AE)(ns:Ns)(e:E3)(h:AH)(d:D):Tm->Prop
 |.val v=>Rd (Oc X ns) h d v
 |.new v=>∃n o,d=.ref n/\L<=n/\¬ X n/\h[n]?=some o/\bL o/\Sat (Xn X n) h0 ns e ae h/\Rc (Oc (Xn X n) ns) h o v
 |.bor i=>ae[i]?=some (some d)
def relT(_:Ns)(_:E3)(_:AH)(b c:Bool):Prop:=b=c
inductive TsR(X:Nat->Prop)(ns:Ns)(ae:AE)(h:AH):List D->List Tm->Prop where
 |nil:TsR X ns ae h [] []
 |val {d:D}{v:Val}{ds:List D}{ts:List Tm} (r:Rd (Oc X ns) h d v) (rr:TsR X ns ae h ds ts):TsR X ns ae h (d::ds) (.val v::ts)
 |bor {d:D}{i:Nat}{ds:List D}{ts:List Tm} (q:ae[i]?=some (some d)) (rr:TsR X ns ae h ds ts):TsR X ns ae h (d::ds) (.bor i::ts)
def relA(X:Nat->Prop)(ae:AE)(ns:Ns)(_:E3)(h:AH)(ds:List D)(ts:List Tm):Prop:=TsR X ns ae h ds ts
def RE(F:ME)(G:ME3):Prop:=∀X h0 L ns e ae h,Sat X h0 ns e ae h->L<=h.length->Po X h0 ns e ae h (relE X h0 L ae) (F ae h) (G e)
def RT(F:MT)(G:MT3):Prop:=∀X h0 ns e ae h,Sat X h0 ns e ae h->Po X h0 ns e ae h relT (F ae h) (G e)
def RA(F:MA)(G:MA3):Prop:=∀X h0 ns e ae h,Sat X h0 ns e ae h->Po X h0 ns e ae h (relA X ae) (F ae h) (G e)
section
variable{X:Nat->Prop}{h0 L:Nat}{ns ns':Ns}{e e':E3}{ae:AE}{h h':AH}
def Po.bind(S:Sat X h0 ns e ae h)(p:Po X h0 ns e ae h rel r2 r3)
 (k:∀d t h' ns' e',Stp ns e h ns' e' h'->Sat X h0 ns' e' ae h'->rel ns' e' h' d t->Po X h0 ns' e' ae h' rel' (f2 d h') (f3 t e')):Po X h0 ns e ae h rel' (r2.bind f2) (r3.bind f3):=by
 cases r3 with
 |stuck=>trivial
 |exc c e'=>obtain⟨h',ns',q,q1,q2⟩:=p;subst q;exact⟨h',ns',rfl,q1,q2⟩
 |
  ok t e'=>
  obtain⟨d,h',ns',q,q1,q2,q3⟩:=p
  subst q
  have:=k d t h' ns' e' q1 q2 q3
  show Po X h0 ns e ae h rel' (f2 d h') (f3 t e')
  generalize f3 t e'=r at *
  cases r with
  |stuck=>trivial
  |exc c e2=>obtain⟨h2,h_,y,y1,y2⟩:=this;exact⟨h2,h_,y,q1.trans S y1,y2⟩
  |ok t2 e2=>obtain⟨d2,h2,h_,y,y1,y2,y3⟩:=this;exact⟨d2,h2,h_,y,q1.trans S y1,y2,y3⟩
def Po.ret(S:Sat X h0 ns e ae h)(q:rel ns e h d t):Po X h0 ns e ae h rel (.ok d h) (.ok t e):=⟨d,h,ns,rfl,.refl,S,q⟩
def TsR.stp(S:Sat X h0 ns e ae h)(a:Stp ns e h ns' e' h')(r:TsR X ns ae h ds ts):TsR X ns' ae h' ds ts:=by
 induction r with
 |nil=>exact .nil
 |val r _ ih=>exact .val (r.mono (a.mov S)) ih
 |bor q _ ih=>exact .bor q ih
noncomputable def rs(e:E3):Tm->Option Val
 |.val v=>some v
 |.new v=>some v
 |.bor i=>(e[i]?).bind Sl.val
def Sat.bor(S:Sat X h0 ns e ae h){i:Nat}{d:D}{v:Val}(q:ae[i]?=some (some d))(r:(e[i]?).bind Sl.val=some v):ShR (Oc X ns) h d v:=by
 cases z:e[i]? with
 |none=>rw[z] at r;cases r
 |
  some s=>
  rw[z] at r
  have y:=S.sl i s z
  rw[q] at y
  have r':s.val=some v:=r
  cases s with
  |no=>cases r'
  |sh u=>cases r';obtain⟨_,x,e1,e2⟩:=y;cases e1;exact .inl e2
  |ow u=>cases r';obtain⟨m,o,_,e2,_,e3,_,e4⟩:=y;cases e2;exact .inr ⟨m,o,rfl,e3,e4⟩
  |lo u=>cases r';obtain⟨m,o,_,e2,_,e3,_,e4⟩:=y;cases e2;exact .inr ⟨m,o,rfl,e3,e4⟩
  |mu u=>cases r';obtain⟨m,o,_,e2,e3,_,e4⟩:=y;cases e2;exact .inr ⟨m,o,rfl,e3,e4⟩
  |lm u=>cases r';obtain⟨m,o,_,e2,e3,_,e4⟩:=y;cases e2;exact .inr ⟨m,o,rfl,e3,e4⟩
def relE.new(r:relE X h0 L ae ns e h d (.new v)):Rd (Oc X ns) h d v:=by
 obtain⟨n,o,rfl,_,hx,eo,_,S,rc⟩:=r
 exact .cell ⟨hx,λz=>by obtain⟨i,z⟩:=aU.mp z;exact S.nx i n z (.inr rfl)⟩ eo (rc.mono λm o p q=>⟨⟨λz=>p.1 (.inl z),p.2⟩,q⟩)
def relE.sh{d:D}{t:Tm}{v:Val}(S:Sat X h0 ns e ae h)(r:relE X h0 L ae ns e h d t)(q:rs e t=some v):ShR (Oc X ns) h d v:=by
 cases t with
 |val u=>cases q;exact .inl r
 |new u=>cases q;exact .inl r.new
 |bor i=>exact S.bor r q
def relE.stp(S:Sat X h0 ns e ae h)(a:Stp ns e h ns' e' h')(r:relE X h0 L ae ns e h d t)(hn:∀v,t ≠ .new v):relE X h0 L ae ns' e' h' d t:=by
 cases t with
 |val u=>exact Rd.mono (a.mov S) r
 |new u=>exact absurd rfl (hn u)
 |bor i=>exact r
def Tm.drop:Tm->Tm
 |.new v=>.val v
 |t=>t
def relE.drop(r:relE X h0 L ae ns e h d t):relE X h0 L ae ns e h d t.drop/\∀v,t.drop ≠ .new v:=by
 cases t with
 |val u=>exact⟨r,λ_ z=>nomatch z⟩
 |new u=>exact⟨r.new,λ_ z=>nomatch z⟩
 |bor i=>exact⟨r,λ_ z=>nomatch z⟩
noncomputable def rss(e:E3):List Tm->Option (List Val)
 | []=>some []
 |t::ts=>match rs e t,rss e ts with
  |some v,some vs=>some (v::vs)
  |_,_=>none
def TsR.sh{ds:List D}{ts:List Tm}{vs:List Val}(S:Sat X h0 ns e ae h)(r:TsR X ns ae h ds ts)(q:rss e ts=some vs):ShRs (Oc X ns) h ds vs:=by
 induction r generalizing vs with
 |nil=>cases q;exact .nil
 |
  val r _ ih=>
  unfold rss at q
  split at q
  ·rename_i e1 e2;cases q;cases e1;exact .cons (.inl r) (ih e2)
  ·cases q
 |
  bor q' _ ih=>
  unfold rss at q
  split at q
  ·rename_i e1 e2;cases q;exact .cons (S.bor q' e1) (ih e2)
  ·cases q
end
inductive Bv where
 |val (v:Val) |new (v:Val) |stuck
def BvR(P:Nat->Prop)(h:AH)(r:R D):Bv->Prop
 |.val v=>∃d,r=.ok d h/\Rd P h d v
 |.new v=>∃o,r=.ok (.ref h.length) (h++[o])/\bL o/\Rc P h o v
 |.stuck=>True
def Bv.at(b:Bv)(e:E3):R3 Tm:=match b with
 |.val v=>.ok (.val v) e
 |.new v=>.ok (.new v) e
 |.stuck=>.stuck
def BvR.po(S:Sat X h0 ns e ae h)(hl:L<=h.length)(q:BvR (Oc X ns) h r b):Po X h0 ns e ae h (relE X h0 L ae) r (b.at e):=by
 cases b with
 |stuck=>trivial
 |val v=>obtain⟨d,rfl,r⟩:=q;exact Po.ret S r
 |
  new v=>
  obtain⟨o,rfl,hf,r⟩:=q
  have S':=S.grow o
  refine⟨_,_,ns,rfl,.grow o,S'.weak λn z=>.inl z,h.length,o,rfl,hl,λz=>?_,DU,hf,S',r.mono λn o' p q=>⟨⟨λz=>?_,p.2⟩,jS q⟩⟩
  ·have:=S.xl _ z;omega
  ·rcases z with z |z
   ·exact p.1 z
   ·have:=cF q;omega
def RU(g2:D->AH->R D)(g3:Val->Bv):Prop:=∀P h d v,ShR P h d v->BvR P h (g2 d h) (g3 v)
def RO(g2:D->D->AH->R D)(g3:Val->Val->Bv):Prop:=∀P h d1 d2 v1 v2,ShR P h d1 v1->ShR P h d2 v2->BvR P h (g2 d1 d2 h) (g3 v1 v2)
def RFn(g2:Fn)(g3:List Val->Bv):Prop:=∀P h ds vs,ShRs P h ds vs->BvR P h (g2 ds h) (g3 vs)
noncomputable def CD(i:Nat):ME3:=λe=>match e[i]? with
 |some (.sh v)=>.ok (.val v) e
 |some .no=>.stuck
 |some _=>.ok (.bor i) e
 |none=>.stuck
def vC(v:Val):ME3:=λe=>.ok (.val v) e
noncomputable def vUn(g:Val->Bv)(F:ME3):ME3:=λe=>(F e).bind λt e1=>match rs e1 t with
 |some v=>(g v).at e1
 |none=>.stuck
noncomputable def vOp(g:Val->Val->Bv)(F G:ME3):ME3:=λe=>(F e).bind λt1 e1=>(G e1).bind λt2 e2=>match rs e2 t1.drop,rs e2 t2 with
 |some v1,some v2=>(g v1 v2).at e2
 |_,_=>.stuck
def nF:MA3:=λe=>.ok [] e
noncomputable def Ds(F:ME3)(A:MA3):MA3:=λe=>(F e).bind λt e1=>(A e1).bind λts e2=>.ok (t.drop::ts) e2
noncomputable def vFn(g:List Val->Bv)(A:MA3):ME3:=λe=>(A e).bind λts e1=>match rss e1 ts with
 |some vs=>(g vs).at e1
 |none=>.stuck
noncomputable def b8(e:E3):Tm->Option (E3×Val)
 |.val v=>some (e,v)
 |.new v=>some (e,v)
 |.bor i=>match e[i]? with
  |some (.sh v)=>some (e,v)
  |some (.ow v)=>some (e.set i (.sh v),v)
  |_=>none
noncomputable def dem(e:E3):List Tm->Option (E3×List Val)
 | []=>some (e,[])
 |t::ts=>match b8 e t with
  |some (e1,v)=>match dem e1 ts with
   |some (e2,vs)=>some (e2,v::vs)
   |none=>none
  |none=>none
noncomputable def vTup(A:MA3):ME3:=λe=>(A e).bind λts e1=>match dem e1 ts with
 |some (e2,vs)=>if vs.length<=16777216 then .ok (.val (.tup vs)) e2 else .stuck
 |none=>.stuck
noncomputable def vLst(A:MA3):ME3:=λe=>(A e).bind λts e1=>match dem e1 ts with
 |some (e2,vs)=>if vs.length<=16777216 then .ok (.new (.lst vs)) e2 else .stuck
 |none=>.stuck
noncomputable def bOf:Option Val->Option Bool
 |some (.bl b)=>some b
 |_=>none
noncomputable def vAnd(F G:ME3):ME3:=λe=>(F e).bind λt e1=>match bOf (rs e1 t) with
 |some true=>G e1
 |some false=>.ok (.val (.bl false)) e1
 |none=>.stuck
noncomputable def vNot(F:ME3):ME3:=λe=>(F e).bind λt e1=>match bOf (rs e1 t) with
 |some b=>.ok (.val (.bl (!b))) e1
 |none=>.stuck
noncomputable def cOf(F:ME3):MT3:=λe=>(F e).bind λt e1=>match bOf (rs e1 t) with
 |some b=>.ok b e1
 |none=>.stuck
noncomputable def cAn(c d:MT3):MT3:=λe=>(c e).bind λb e1=>if b=true then d e1 else .ok false e1
noncomputable def cO(c d:MT3):MT3:=λe=>(c e).bind λb e1=>if b=true then .ok true e1 else d e1
noncomputable def cNo(c:MT3):MT3:=λe=>(c e).bind λb e1=>.ok (!b) e1
def cY:MT3:=λe=>.ok true e
noncomputable def kN:Val->Option Bool
 |.non=>some false
 |.bl b=>some b
 |.int i=>some (i != 0)
 |.tup xs=>some (!xs.isEmpty)
 |.lst xs=>some (!xs.isEmpty)
 |.kl xs=>some (!xs.isEmpty)
 |_=>none
noncomputable def cTr(F:ME3):MT3:=λe=>(F e).bind λt e1=>match (rs e1 t).bind kN with
 |some b=>.ok b e1
 |none=>.stuck
section
variable{F G:ME}{F3 G3:ME3}{A:MA}{A3:MA3}{c d:MT}{c3 d3:MT3}
def Lc(i:Nat):RE (ba i) (CD i):=λX h0 L ns e ae h S hl=>by
 unfold CD
 cases q:e[i]? with
 |none=>trivial
 |
  some s=>
  have y:=S.sl i s q
  cases s with
  |no=>trivial
  |sh v=>obtain⟨_,x,e1,e2⟩:=y;unfold ba;rw[e1];exact Po.ret S e2
  |ow v=>obtain⟨m,o,_,e2,_⟩:=y;unfold ba;rw[e2];exact Po.ret S e2
  |lo v=>obtain⟨m,o,_,e2,_⟩:=y;unfold ba;rw[e2];exact Po.ret S e2
  |mu v=>obtain⟨m,o,_,e2,_⟩:=y;unfold ba;rw[e2];exact Po.ret S e2
  |lm v=>obtain⟨m,o,_,e2,_⟩:=y;unfold ba;rw[e2];exact Po.ret S e2
def mR{d:D}{v:Val}(r:∀P h,Rd P h d v):RE (eC d) (vC v):=λX h0 L ns e ae h S hl=>Po.ret S (r _ _)
def NI(hg:RU g g3)(hF:RE F F3):RE (eUn g F) (vUn g3 F3):=λX h0 L ns e ae h S hl=>
 Po.bind S (hF X h0 L ns e ae h S hl) λd t h1 ns1 e1 a1 S1 r1=>by
  try dsimp only
  split
  ·rename_i v q
   exact BvR.po S1 (E_ hl a1.len) (hg _ _ _ _ (r1.sh S1 q))
  ·trivial
def NF(hg:RO g g3)(hF:RE F F3)(hG:RE G G3):RE (eOp g F G) (vOp g3 F3 G3):=λX h0 L ns e ae h S hl=>
 Po.bind S (hF X h0 L ns e ae h S hl) λd1 t1 h1 ns1 e1 a1 S1 r1=>Po.bind S1 (hG X h0 L ns1 e1 ae h1 S1 (E_ hl a1.len)) λd2 t2 h2 h_ e2 a2 S2 r2=>by
  try dsimp only
  split
  ·rename_i v1 v2 q1 q2
   obtain⟨r1',hn⟩:=r1.drop
   exact BvR.po S2 (E_ hl (E_ a1.len a2.len)) (hg _ _ _ _ _ _ ((r1'.stp S1 a2 hn).sh S2 q1) (r2.sh S2 q2))
  ·trivial
def yF:RA ju nF:=λX h0 ns e ae h S=>Po.ret S .nil
def Ej(hF:RE F F3)(hA:RA A A3):RA (iM F A) (Ds F3 A3):=λX h0 ns e ae h S=>
 Po.bind S (hF X h0 0 ns e ae h S (N_ _)) λd1 t1 h1 ns1 e1 a1 S1 r1=>Po.bind S1 (hA X h0 ns1 e1 ae h1 S1) λds ts h2 h_ e2 a2 S2 r2=>by
  obtain⟨r1',hn⟩:=r1.drop
  have r3:=r1'.stp S1 a2 hn
  refine Po.ret S2 ?_
  show TsR X h_ ae h2 (d1::ds) (t1.drop::ts)
  generalize t1.drop=t at *
  cases t with
  |val v=>exact .val r3 r2
  |new v=>exact absurd rfl (hn v)
  |bor i=>exact .bor r3 r2
def Mr(hg:RFn g g3)(hA:RA A A3):RE (eFn g A) (vFn g3 A3):=λX h0 L ns e ae h S hl=>
 Po.bind S (hA X h0 ns e ae h S) λds ts h1 ns1 e1 a1 S1 r1=>by
  try dsimp only
  split
  ·rename_i vs q
   exact BvR.po S1 (E_ hl a1.len) (hg _ _ _ _ (TsR.sh S1 r1 q))
  ·trivial
def Kd(S:Sat X h0 ns e ae h)(q:e[i]?=some (.ow v)):∃n,ae[i]?=some (some (.ref n))/\Sat X h0 (ns.set i none) (e.set i (.sh v)) ae h/\Stp ns e h (ns.set i none) (e.set i (.sh v)) h/\Rd (Oc X (ns.set i none)) h (.ref n) v:=by
 obtain⟨n,o,q1,q2,_,q3,_,q4⟩:=S.sl i _ q
 have hi:=(r_.mp q).1
 have hn:i<ns.length:=by rw[S.l2];exact hi
 have r:Rd (Oc X (ns.set i none)) h (.ref n) v:=.cell ⟨S.nx i n q1,λz=>by
  obtain⟨j,z⟩:=aU.mp z
  rcases bo hn z with ⟨_,y⟩ |⟨y,z⟩
  ·cases y
  ·exact y (S.inj j i n z q1)⟩ q3 (q4.mono λm o p q=>⟨fi p,q⟩)
 exact⟨n,q2,S.putN' hi ⟨rfl,_,q2,r⟩,Stp.refl.put (x:=none) hi (λ_ z=>by cases z) q rfl rfl S.l2,r⟩
def eZ{X:Nat->Prop}{h0 L:Nat}{ns:Ns}{e e':E3}{ae:AE}{h:AH}{d:D}{t:Tm}{v:Val}(S:Sat X h0 ns e ae h)(r:relE X h0 L ae ns e h d t)(q:b8 e t=some (e',v)):∃ns',Sat X h0 ns' e' ae h/\Stp ns e h ns' e' h/\Rd (Oc X ns') h d v:=by
 cases t with
 |val u=>cases q;exact⟨ns,S,.refl,r⟩
 |new u=>cases q;exact⟨ns,S,.refl,r.new⟩
 |
  bor i=>
  unfold b8 at q
  dsimp only at q
  have r':ae[i]?=some (some d):=r
  split at q
  ·rename_i u q1;cases q
   obtain⟨_,x,e1,e2⟩:=S.sl i _ q1
   rw[r'] at e1;cases e1
   exact⟨ns,S,.refl,e2⟩
  ·rename_i u q1;cases q
   obtain⟨n,e1,S',a',e2⟩:=Kd S q1
   rw[r'] at e1;cases e1
   exact⟨_,S',a',e2⟩
  ·cases q
def iE:∀{ds:List D}{vs:List Val}{ns:Ns}{e e':E3},Sat X h0 ns e ae h->TsR X ns ae h ds ts->dem e ts=some (e',vs)->∃ns',Sat X h0 ns' e' ae h/\Stp ns e h ns' e' h/\Rds (Oc X ns') h ds vs:=by
 induction ts with
 |nil=>intro ds vs ns e e' S r q;cases r;cases q;exact⟨ns,S,.refl,.nil⟩
 |
  cons t ts ih=>
  intro ds vs ns e e' S r q
  unfold dem at q
  split at q
  ·rename_i e1 v q1
   split at q
   ·rename_i e2 vs' q2
    cases q
    have hr:∃d ds',ds=d::ds'/\relE X h0 0 ae ns e h d t/\TsR X ns ae h ds' ts:=by
     cases r with
     |val r rr=>exact⟨_,_,rfl,r,rr⟩
     |bor r rr=>exact⟨_,_,rfl,r,rr⟩
    obtain⟨d,ds',rfl,hr⟩:=hr
    obtain⟨ns1,S1,a1,r1⟩:=eZ S hr.1 q1
    obtain⟨h_,S2,a2,r2⟩:=ih S1 (hr.2.stp S a1) q2
    exact⟨h_,S2,a1.trans S a2,.cons (r1.mono (a2.mov S1)) r2⟩
   ·cases q
  ·cases q
def Ld(hA:RA A A3):RE (eFn mG A) (vTup A3):=λX h0 L ns e ae h S hl=>
 Po.bind S (hA X h0 ns e ae h S) λds ts h1 ns1 e1 a1 S1 r1=>by
  try dsimp only
  split
  ·rename_i e2 vs q
   split
   ·rename_i hv
    obtain⟨h_,S2,a2,r2⟩:=iE S1 r1 q
    exact⟨.tup ds,h1,h_,by unfold mG;rw[if_pos (by rw[r2.len];exact hv)],a2,S2,.tup r2⟩
   ·trivial
  ·trivial
def GB(hA:RA A A3):RE (eFn c8 A) (vLst A3):=λX h0 L ns e ae h S hl=>
 Po.bind S (hA X h0 ns e ae h S) λds ts h1 ns1 e1 a1 S1 r1=>by
  try dsimp only
  split
  ·rename_i e2 vs q
   split
   ·rename_i hv
    obtain⟨h_,S2,a2,r2⟩:=iE S1 r1 q
    have p:=BvR.po (r:=c8 ds h1) (b:=.new (.lst vs)) S2 (E_ hl a1.len) ⟨.lst ds,by unfold c8;rw[if_pos (by rw[r2.len];exact hv)],trivial,.lst r2⟩
    obtain⟨d,h',ns',y,y1,y2,y3⟩:=p
    exact⟨d,h',ns',y,a2.trans S1 y1,y2,y3⟩
   ·trivial
  ·trivial
def lJ(S1:Sat X h0 ns1 e1 ae h1)(r1:relE X h0 L ae ns1 e1 h1 d1 t1)(q:bOf (rs e1 t1)=some b):d1=.bl b:=by
 unfold bOf at q
 split at q
 ·rename_i b' q';cases q;exact (r1.sh S1 q').bl
 ·cases q
def IE(hF:RE F F3)(hG:RE G G3):RE (BX F G) (vAnd F3 G3):=λX h0 L ns e ae h S hl=>
 Po.bind S (hF X h0 L ns e ae h S hl) λd1 t1 h1 ns1 e1 a1 S1 r1=>by
  try dsimp only
  split
  ·rename_i q;rw[lJ S1 r1 q];exact hG X h0 L ns1 e1 ae h1 S1 (E_ hl a1.len)
  ·rename_i q;rw[lJ S1 r1 q];exact Po.ret S1 (.bl false)
  ·trivial
def KH(hF:RE F F3):RE (AZ F) (vNot F3):=λX h0 L ns e ae h S hl=>
 Po.bind S (hF X h0 L ns e ae h S hl) λd1 t1 h1 ns1 e1 a1 S1 r1=>by
  try dsimp only
  split
  ·rename_i q;rw[lJ S1 r1 q];exact Po.ret S1 (.bl _)
  ·trivial
def N2(hF:RE F F3):RT (tOf F) (cOf F3):=λX h0 ns e ae h S=>
 Po.bind S (hF X h0 0 ns e ae h S (N_ _)) λd1 t1 h1 ns1 e1 a1 S1 r1=>by
  try dsimp only
  split
  ·rename_i q;rw[lJ S1 r1 q];exact Po.ret S1 rfl
  ·trivial
def MY(hc:RT c c3)(hd:RT d d3):RT (tAn c d) (cAn c3 d3):=λX h0 ns e ae h S=>
 Po.bind S (hc X h0 ns e ae h S) λb b' h1 ns1 e1 a1 S1 r1=>by
  cases r1
  try dsimp only
  split
  ·exact hd X h0 ns1 e1 ae h1 S1
  ·exact Po.ret S1 rfl
def rt_o(hc:RT c c3)(hd:RT d d3):RT (tO c d) (cO c3 d3):=λX h0 ns e ae h S=>
 Po.bind S (hc X h0 ns e ae h S) λb b' h1 ns1 e1 a1 S1 r1=>by
  cases r1
  try dsimp only
  split
  ·exact Po.ret S1 rfl
  ·exact hd X h0 ns1 e1 ae h1 S1
def M4(hc:RT c c3):RT (tNo c) (cNo c3):=λX h0 ns e ae h S=>
 Po.bind S (hc X h0 ns e ae h S) λb b' h1 ns1 e1 a1 S1 r1=>by
  cases r1
  exact Po.ret S1 rfl
def rt_y:RT tY cY:=λX h0 ns e ae h S=>Po.ret S rfl
def FY{P:Nat->Prop}{h:AH}{d:D}{v:Val}{b:Bool}(r:ShR P h d v)(q:kN v=some b):pM d h=.ok b h:=by
 have emp:∀{ds:List D}{vs:List Val},Rds P h ds vs->ds.isEmpty=vs.isEmpty:=λr=>by cases r <;> rfl
 cases v with
 |non=>cases q;rw[r.non];rfl
 |bl b=>cases q;rw[r.bl];rfl
 |int i=>cases q;rw[r.int];rfl
 |tup xs=>cases q;obtain⟨ds,rfl,r2⟩:=r.tup;show R.ok (!ds.isEmpty) h=_;rw[emp r2]
 |
  lst xs=>
  cases q
  obtain⟨n,ds,rfl,_,e1,r1⟩:=r.lst
  rw[<- emp r1]
  unfold pM cR;dsimp only;rw[e1]
 |
  kl xs=>
  cases q
  obtain⟨ds,r2,rfl |⟨n,rfl,e1⟩⟩:=r.kl
  ·show R.ok (!ds.isEmpty) h=_;rw[emp r2]
  ·rw[<- emp r2]
   unfold pM cR;dsimp only;rw[e1]
 |_=>cases q
def M0(hF:RE F F3):RT (tTr F) (cTr F3):=λX h0 ns e ae h S=>
 Po.bind S (hF X h0 0 ns e ae h S (N_ _)) λd1 t1 h1 ns1 e1 a1 S1 r1=>by
  try dsimp only
  split
  ·rename_i b q
   obtain⟨v,q1,q2⟩:=Ou.mp q
   rw[FY (r1.sh S1 q1) q2]
   exact Po.ret S1 rfl
  ·trivial
end
inductive Rt where
 |val (v:Val) |new (v:Val) |par (i:Nat)
inductive SR3 where
 |nx (e:E3) |rt (r:Rt) (e:E3) |bk (e:E3) |ct (e:E3) |exc (c:Str) (e:E3) |stuck
abbrev MS3:=E3->SR3
def RtR(X:Nat->Prop)(h0:Nat)(ns:Ns)(e:E3)(ae:AE)(h:AH)(d:D):Rt->Prop
 |.val v=>Sat X h0 ns e ae h/\Rd (Oc X ns) h d v
 |.new v=>∃n o,d=.ref n/\h0<=n/\¬ X n/\h[n]?=some o/\bL o/\Sat (Xn X n) h0 ns e ae h/\Rc (Oc (Xn X n) ns) h o v
 |.par i=>Sat X h0 ns e ae h/\ae[i]?=some (some d)/\∃v,e[i]?=some (.mu v)
def PoS(X:Nat->Prop)(h0:Nat)(ns:Ns)(e:E3)(h:AH)(r2:SR):SR3->Prop
 |.stuck=>True
 |.nx e'=>∃bn h' ns',r2=.nx bn h'/\Stp ns e h ns' e' h'/\Sat X h0 ns' e' bn h'
 |.bk e'=>∃bn h' ns',r2=.bk bn h'/\Stp ns e h ns' e' h'/\Sat X h0 ns' e' bn h'
 |.ct e'=>∃bn h' ns',r2=.ct bn h'/\Stp ns e h ns' e' h'/\Sat X h0 ns' e' bn h'
 |.exc c e'=>∃bn h' ns',r2=.exc c bn h'/\Stp ns e h ns' e' h'/\Sat X h0 ns' e' bn h'
 |.rt r e'=>∃d bn h' ns',r2=.rt d h'/\Stp ns e h ns' e' h'/\RtR X h0 ns' e' bn h' d r
def RS(F:MS)(G:MS3):Prop:=∀X h0 ns e ae h,Sat X h0 ns e ae h->PoS X h0 ns e h (F ae h) (G e)
def R3.toS{α:Type}(r:R3 α)(f:α->E3->SR3):SR3:=match r with
 |.ok a e=>f a e
 |.exc c e=>.exc c e
 |.stuck=>.stuck
def SR3.then(r:SR3)(f:E3->SR3):SR3:=match r with
 |.nx e=>f e
 |r=>r
section
variable{X:Nat->Prop}{h0 L:Nat}{ns ns1 ns':Ns}{e e1 e':E3}{ae:AE}{h h1 h':AH}
def PoS.after(S:Sat X h0 ns e ae h)(a:Stp ns e h ns1 e1 h1)(p:PoS X h0 ns1 e1 h1 r2 r3):PoS X h0 ns e h r2 r3:=by
 cases r3 with
 |stuck=>trivial
 |nx e'=>obtain⟨bn,h',ns',q,q1,q2⟩:=p;exact⟨bn,h',ns',q,a.trans S q1,q2⟩
 |bk e'=>obtain⟨bn,h',ns',q,q1,q2⟩:=p;exact⟨bn,h',ns',q,a.trans S q1,q2⟩
 |ct e'=>obtain⟨bn,h',ns',q,q1,q2⟩:=p;exact⟨bn,h',ns',q,a.trans S q1,q2⟩
 |exc c e'=>obtain⟨bn,h',ns',q,q1,q2⟩:=p;exact⟨bn,h',ns',q,a.trans S q1,q2⟩
 |rt r e'=>obtain⟨d,bn,h',ns',q,q1,q2⟩:=p;exact⟨d,bn,h',ns',q,a.trans S q1,q2⟩
def PoS.toS(p:Po X h0 ns e ae h rel r2 r3)
 (k:∀d t h' ns' e',Stp ns e h ns' e' h'->Sat X h0 ns' e' ae h'->rel ns' e' h' d t->PoS X h0 ns e h (f2 d h') (f3 t e')):PoS X h0 ns e h (r2.toS ae f2) (r3.toS f3):=by
 cases r3 with
 |stuck=>trivial
 |exc c e'=>obtain⟨h',ns',rfl,q1,q2⟩:=p;exact⟨ae,h',ns',rfl,q1,q2⟩
 |ok t e'=>obtain⟨d,h',ns',rfl,q1,q2,q3⟩:=p;exact k d t h' ns' e' q1 q2 q3
def PoS.nx(a:Stp ns e h ns' e' h')(S:Sat X h0 ns' e' bn h'):PoS X h0 ns e h (.nx bn h') (.nx e'):=⟨bn,h',ns',rfl,a,S⟩
end
def wNx:MS3:=λe=>.nx e
def Dz:MS3:=λe=>.rt (.val .non) e
def wSeq(F G:MS3):MS3:=λe=>(F e).then G
def Dm(F:ME3):MS3:=λe=>(F e).toS λ_ e1=>.nx e1
noncomputable def wIf(c:MT3)(F G:MS3):MS3:=λe=>(c e).toS λb e1=>if b=true then F e1 else G e1
noncomputable def nJ(t:Tm)(e:E3):SR3:=match t with
 |.val v=>.rt (.val v) e
 |.new v=>.rt (.new v) e
 |.bor i=>match e[i]? with
  |some (.sh v)=>.rt (.val v) e
  |some (.ow v)=>.rt (.new v) (e.set i .no)
  |some (.mu _)=>.rt (.par i) e
  |_=>.stuck
def wRet(F:ME3):MS3:=λe=>(F e).toS nJ
noncomputable def gX(o:Bool)(i:Nat)(t:Tm)(e:E3):SR3:=match e[i]? with
 |some s0=>if s0.pl=true then (match t with
  |.val v=>.nx (e.set i (.sh v))
  |.new v=>.nx (e.set i (if o=true then .ow v else .sh v))
  |.bor j=>match b8 e (.bor j) with
   |some (e2,v)=>.nx (e2.set i (.sh v))
   |none=>.stuck) else .stuck
 |none=>.stuck
def wAsg(o:Bool)(i:Nat)(F:ME3):MS3:=λe=>(F e).toS (gX o i)
abbrev MG3:=Val->E3->Option E3
abbrev jb:=List Val->E3->Option E3
noncomputable def pN(i:Nat):MG3:=λv e=>match e[i]? with
 |some s=>if s.pl=true then some (e.set i (.sh v)) else none
 |none=>none
def psN:jb:=λvs e=>match vs with
 | []=>some e
 |_=>none
noncomputable def psC(g:MG3)(u:jb):jb:=λvs e=>match vs with
 |v::r=>(g v e).bind λe1=>u r e1
 | []=>none
noncomputable def pT(n:Nat)(u:jb):MG3:=λv e=>match v with
 |.tup vs=>if vs.length=n then u vs e else none
 |_=>none
noncomputable def CU(F:ME3)(g:MG3):MS3:=λe=>(F e).toS λt e1=>match b8 e1 t with
 |some (e2,v)=>match g v e2 with
  |some e3=>.nx e3
  |none=>.stuck
 |none=>.stuck
noncomputable def wPar(i j:Nat)(A:MA3):MS3:=λe=>(A e).toS λts e1=>match dem e1 ts with
 |some (e2,[v,u])=>match (pN i v e2).bind (pN j u) with
  |some e3=>.nx e3
  |none=>.stuck
 |_=>.stuck
noncomputable def Ac(i:Nat)(g:Val->Val->Bv)(F:ME3):MS3:=λe=>match e[i]? with
 |some (.sh x)=>(F e).toS λt e1=>match rs e1 t with
  |some y=>match g x y with
   |.val z=>match pN i z e1 with
    |some e2=>.nx e2
    |none=>.stuck
   |_=>.stuck
  |none=>.stuck
 |_=>.stuck
noncomputable def xK(c:Str)(A:MA3):MS3:=λe=>(A e).toS λts e1=>if ts.length<=16777216 then .exc c e1 else .stuck
def RG(g2:MG)(g3:MG3):Prop:=∀X h0 ns e ae h d v e',Sat X h0 ns e ae h->Rd (Oc X ns) h d v->g3 v e=some e'->∃bn ns',g2 d ae h=.ok bn h/\Sat X h0 ns' e' bn h/\Stp ns e h ns' e' h
def RGs(g2:MGs)(g3:jb):Prop:=∀X h0 ns e ae h ds vs e',Sat X h0 ns e ae h->Rds (Oc X ns) h ds vs->g3 vs e=some e'->∃bn ns',g2 ds ae h=.ok bn h/\Sat X h0 ns' e' bn h/\Stp ns e h ns' e' h
section
variable{F G:ME}{F3 G3:ME3}{A:MA}{A3:MA3}{c d:MT}{c3 d3:MT3}{U V:MS}{U3 V3:MS3}{g:MG}{g3:MG3}{gs:MGs}{gs3:jb}
def NP:RS sNx wNx:=λX h0 ns e ae h S=>.nx .refl S
def Er:RS vv Dz:=λX h0 ns e ae h S=>⟨.non,ae,h,ns,rfl,.refl,S,.non⟩
def H0(hU:RS U U3)(hV:RS V V3):RS (zV U V) (wSeq U3 V3):=λX h0 ns e ae h S=>by
 have p:=hU X h0 ns e ae h S
 show PoS X h0 ns e h ((U ae h).then V) ((U3 e).then V3)
 generalize U3 e=r at *
 cases r with
 |stuck=>trivial
 |nx e'=>obtain⟨bn,h',ns',q,q1,q2⟩:=p;rw[q];exact PoS.after S q1 (hV X h0 ns' e' bn h' q2)
 |bk e'=>obtain⟨bn,h',ns',q,q1,q2⟩:=p;rw[q];exact⟨bn,h',ns',rfl,q1,q2⟩
 |ct e'=>obtain⟨bn,h',ns',q,q1,q2⟩:=p;rw[q];exact⟨bn,h',ns',rfl,q1,q2⟩
 |exc c e'=>obtain⟨bn,h',ns',q,q1,q2⟩:=p;rw[q];exact⟨bn,h',ns',rfl,q1,q2⟩
 |rt r e'=>obtain⟨d,bn,h',ns',q,q1,q2⟩:=p;rw[q];exact⟨d,bn,h',ns',rfl,q1,q2⟩
def Fu(hF:RE F F3):RS (vp F) (Dm F3):=λX h0 ns e ae h S=>PoS.toS (hF X h0 0 ns e ae h S (N_ _)) λd t h1 ns1 e1 a1 S1 r1=>.nx a1 S1
def Lq(hc:RT c c3)(hU:RS U U3)(hV:RS V V3):RS (sIf c U V) (wIf c3 U3 V3):=λX h0 ns e ae h S=>PoS.toS (hc X h0 ns e ae h S) λb b' h1 ns1 e1 a1 S1 r1=>by
 cases r1
 try dsimp only
 split
 ·exact PoS.after S a1 (hU X h0 ns1 e1 ae h1 S1)
 ·exact PoS.after S a1 (hV X h0 ns1 e1 ae h1 S1)
def Jk(hF:RE F F3):RS (Ad F) (wRet F3):=λX h0 ns e ae h S=>PoS.toS (hF X h0 h0 ns e ae h S S.lh) λd t h1 ns1 e1 a1 S1 r1=>by
 cases t with
 |val v=>exact⟨d,ae,h1,ns1,rfl,a1,S1,r1⟩
 |new v=>obtain⟨n,o,q⟩:=r1;exact⟨d,ae,h1,ns1,rfl,a1,n,o,q⟩
 |
  bor i=>
  unfold nJ
  dsimp only
  have r':ae[i]?=some (some d):=r1
  split
  ·rename_i v q
   obtain⟨_,x,e1',e2⟩:=S1.sl i _ q
   rw[r'] at e1';cases e1'
   exact⟨d,ae,h1,ns1,rfl,a1,S1,e2⟩
  ·rename_i v q
   obtain⟨n,o,q1,q2,q3,q4,q5,q6⟩:=S1.sl i _ q
   rw[r'] at q2;cases q2
   have hi:=(r_.mp q).1
   have hn:i<ns1.length:=by rw[S1.l2];exact hi
   have mv:Mov (Oc X ns1) (Oc (Xn X n) (ns1.set i none)) h1 h1:=λm o' p q'=>⟨⟨λz=>by
    rcases z with z |rfl
    ·exact p.1 z
    ·exact p.2 (aU.mpr ⟨i,q1⟩),(fi p).2⟩,q'⟩
   have S2:=S1.putN' hi (s:=.no) rfl
   refine⟨.ref n,ae,h1,ns1.set i none,rfl,a1.put (x:=none) hi (λ_ z=>by cases z) q rfl rfl S1.l2,n,o,rfl,q3,S1.nx i n q1,q4,q5,⟨S2.l1,S2.l2,S2.lh,λm z=>?_,S2.inj,λj m qj z=>?_,λj s qj=>?_⟩,q6.mono mv⟩
   ·rcases z with z |rfl
    ·exact S2.xl m z
    ·exact cF q4
   ·rcases z with z |rfl
    ·exact S2.nx j m qj z
    ·rcases bo hn qj with ⟨_,y⟩ |⟨y,z⟩
     ·cases y
     ·exact y (S1.inj j i _ z q1)
   ·rcases bo hi qj with ⟨rfl,rfl⟩ |⟨z,qj'⟩
    ·rw[bM hn];rfl
    ·rw[bG z]
     exact (S1.sl j s qj').mono mv λ_ _ _ q=>q
  ·rename_i v q
   exact⟨d,ae,h1,ns1,rfl,a1,S1,r',v,q⟩
  ·trivial
def HL(o:Bool)(i:Nat)(hF:RE F F3):RS (gR F (gN i)) (wAsg o i F3):=λX h0 ns e ae h S=>PoS.toS (hF X h0 h.length ns e ae h S (o_ _)) λd t h1 ns1 e1 a1 S1 r1=>by
 show PoS X h0 ns e h (.nx (ae.set i (some d)) h1) (gX o i t e1)
 unfold gX
 split
 ·rename_i s0 q0
  split
  ·rename_i p0
   have hi:=(r_.mp q0).1
   cases t with
   |val v=>exact .nx (a1.put (x:=none) (s:=.sh v) hi (λ_ z=>by cases z) q0 p0 rfl S1.l2) (S1.putN hi ⟨rfl,d,rfl,Rd.mono (λm o p q=>⟨fi p,q⟩) r1⟩)
   |
    new v=>
    try dsimp only
    split
    ·obtain⟨n,ob,rfl,q1,q2,q3,q4,q5,q6⟩:=r1
     exact .nx (a1.put (x:=some n) (s:=.ow v) hi (λm z=>by cases z;exact q1) q0 p0 rfl S1.l2) (Sat.putO q5 q2 hi (E_ S.lh q1) q3 q4 q6)
    ·exact .nx (a1.put (x:=none) (s:=.sh v) hi (λ_ z=>by cases z) q0 p0 rfl S1.l2) (S1.putN hi ⟨rfl,d,rfl,Rd.mono (λm o p q=>⟨fi p,q⟩) r1.new⟩)
   |
    bor j=>
    try dsimp only
    split
    ·rename_i e2 v q2
     obtain⟨h_,S2,a2,r2⟩:=eZ S1 r1 q2
     have hq:∃s2,e2[i]?=some s2/\s2.pl=true:=by
      unfold b8 at q2
      dsimp only at q2
      split at q2
      ·cases q2;exact⟨s0,q0,p0⟩
      ·rename_i u q3
       cases q2
       by_cases z:i=j
       ·subst z;exact⟨_,bM hi,rfl⟩
       ·exact⟨s0,by rw[bG z];exact q0,p0⟩
      ·cases q2
     obtain⟨s2,hq1,hq2⟩:=hq
     have hi2:=(r_.mp hq1).1
     exact .nx ((a1.trans S a2).put (x:=none) (s:=.sh v) hi2 (λ_ z=>by cases z) hq1 hq2 rfl S2.l2) (S2.putN hi2 ⟨rfl,d,rfl,Rd.mono (λm o p q=>⟨fi p,q⟩) r2⟩)
    ·trivial
  ·trivial
 ·trivial
def wz(i:Nat):RG (gN i) (pN i):=λX h0 ns e ae h d v e' S r q=>by
 unfold pN at q
 split at q
 ·rename_i s q0
  split at q
  ·rename_i p0
   cases q
   have hi:=(r_.mp q0).1
   exact⟨_,ns.set i none,rfl,S.putN hi ⟨rfl,d,rfl,Rd.mono (λm o p q=>⟨fi p,q⟩) r⟩,Stp.refl.put (x:=none) (s:=.sh v) hi (λ_ z=>by cases z) q0 p0 rfl S.l2⟩
  ·cases q
 ·cases q
def NM:RGs gsN psN:=λX h0 ns e ae h ds vs e' S r q=>by
 cases r with
 |nil=>cases q;exact⟨ae,ns,rfl,S,.refl⟩
 |cons _ _=>cases q
def Nm(hg:RG g g3)(hs:RGs gs gs3):RGs (gsC g gs) (psC g3 gs3):=λX h0 ns e ae h ds vs e' S r q=>by
 cases r with
 |nil=>cases q
 |
  cons r rr=>
  obtain⟨e1,q1,q2⟩:=Ou.mp q
  obtain⟨g_,ns1,p1,S1,a1⟩:=hg _ _ _ _ _ _ _ _ _ S r q1
  obtain⟨ae2,h_,p2,S2,a2⟩:=hs _ _ _ _ _ _ _ _ _ S1 (rr.mono (a1.mov S)) q2
  refine⟨ae2,h_,?_,S2,a1.trans S a2⟩
  unfold gsC;dsimp only;rw[p1];exact p2
def rg_t(n:Nat)(hs:RGs gs gs3):RG (gT λds ae h=>if ds.length=n then gs ds ae h else .stuck) (pT n gs3):=λX h0 ns e ae h d v e' S r q=>by
 unfold pT at q
 split at q
 ·split at q
  ·rename_i hn
   obtain⟨ds,rfl,r2⟩:=ShR.tup (.inl r)
   obtain⟨g_,ns1,p1,S1,a1⟩:=hs _ _ _ _ _ _ _ _ _ S r2 q
   refine⟨g_,ns1,?_,S1,a1⟩
   unfold gT;dsimp only;rw[if_pos (by rw[r2.len];exact hn)];exact p1
  ·cases q
 ·cases q
def JK(hg:RG g g3):RG (λd ae h=>noX (g d ae h)) g3:=λX h0 ns e ae h d v e' S r q=>by
 obtain⟨g_,ns1,p1,S1,a1⟩:=hg _ _ _ _ _ _ _ _ _ S r q
 exact⟨g_,ns1,by dsimp only;rw[p1];rfl,S1,a1⟩
def Fy(hF:RE F F3)(hg:RG g g3):RS (gR F g) (CU F3 g3):=λX h0 ns e ae h S=>PoS.toS (hF X h0 0 ns e ae h S (N_ _)) λd t h1 ns1 e1 a1 S1 r1=>by
 try dsimp only
 split
 ·rename_i e2 v q
  obtain⟨h_,S2,a2,r2⟩:=eZ S1 r1 q
  split
  ·rename_i e3 q3
   obtain⟨ae3,ns3,p3,S3,a3⟩:=hg _ _ _ _ _ _ _ _ _ S2 r2 q3
   rw[p3]
   exact .nx ((a1.trans S a2).trans S a3) S3
  ·trivial
 ·trivial
def Gy(i j:Nat)(hA:RA A A3):RS (Cr i j A) (wPar i j A3):=λX h0 ns e ae h S=>PoS.toS (hA X h0 ns e ae h S) λds ts h1 ns1 e1 a1 S1 r1=>by
 try dsimp only
 cases q:dem e1 ts with
 |none=>trivial
 |
  some w=>
  obtain⟨e2,vs⟩:=w
  obtain⟨h_,S2,a2,r2⟩:=iE S1 r1 q
  match vs,ds,r2 with
  | [],_,_=>trivial
  | [_],_,_=>trivial
  |_::_::_::_,_,_=>trivial
  |
   [v,u],[d,d'],r2=>
   dsimp only
   split
   ·rename_i e3 q3
    obtain⟨e4,q4,q5⟩:=Ou.mp q3
    cases r2 with
    |
     cons r rr=>
     cases rr with
     |
      cons r' rr=>
      obtain⟨ae3,ns3,p3,S3,a3⟩:=wz i _ _ _ _ _ _ _ _ _ S2 r q4
      obtain⟨ae4,ns4,p4,S4,a4⟩:=wz j _ _ _ _ _ _ _ _ _ S3 (r'.mono (a3.mov S2)) q5
      have z3:ae3=ae.set i (some d):=by have:=p3;unfold gN at this;cases this;rfl
      have z4:ae4=ae3.set j (some d'):=by have:=p4;unfold gN at this;cases this;rfl
      subst z4 z3
      exact .nx (((a1.trans S a2).trans S a3).trans S a4) S4
   ·trivial
def HJ(i:Nat)(hg:RO gg gg3)(hF:RE F F3):RS (sN i gg F) (Ac i gg3 F3):=λX h0 ns e ae h S=>by
 unfold Ac
 split
 ·rename_i x q0
  obtain⟨_,dx,e1,r0⟩:=S.sl i _ q0
  unfold sN
  rw[e1]
  refine PoS.toS (hF X h0 0 ns e ae h S (N_ _)) λd t h1 ns1 e1 a1 S1 r1=>?_
  try dsimp only
  split
  ·rename_i y q1
   have b:=hg _ _ _ _ _ _ (.inl (r0.mono (a1.mov S))) (r1.sh S1 q1)
   split
   ·rename_i z q2
    rw[q2] at b
    obtain⟨dz,p1,r2⟩:=b
    split
    ·rename_i e2 q3
     rw[p1]
     obtain⟨ae3,ns3,p3,S3,a3⟩:=wz i _ _ _ _ _ _ _ _ _ S1 r2 q3
     have z3:ae3=ae.set i (some dz):=by have:=p3;unfold gN at this;cases this;rfl
     subst z3
     exact .nx (a1.trans S a3) S3
    ·trivial
   ·trivial
  ·trivial
 ·trivial
def TsR.len(r:TsR X ns ae h ds ts):ds.length=ts.length:=by
 induction r with
 |nil=>rfl
 |val _ _ ih=>rw[A_,A_,ih]
 |bor _ _ ih=>rw[A_,A_,ih]
def A8(x:Str)(hA:RA A A3):RS (sE x A) (xK x A3):=λX h0 ns e ae h S=>PoS.toS (hA X h0 ns e ae h S) λds ts h1 ns1 e1 a1 S1 r1=>by
 try dsimp only
 by_cases hl:ts.length<=16777216
 ·rw[if_pos hl,if_pos (by rw[TsR.len r1];exact hl)]
  exact⟨ae,h1,ns1,rfl,a1,S1⟩
 ·rw[if_neg hl];trivial
end
def Sl.re(s:Sl)(u:Val):Sl:=match s with
 |.ow _=>.ow u
 |.mu _=>.mu u
 |s=>s
def Sl.mv:Sl->Option Val
 |.ow v=>some v
 |.mu v=>some v
 |_=>none
section
variable{X:Nat->Prop}{h0 L:Nat}{ns ns1 ns':Ns}{e e1 e':E3}{ae:AE}{h h1 h':AH}
def Sat.write(S:Sat X h0 ns e ae h)(q:e[i]?=some s)(hm:s.mv=some u):∃n o,ae[i]?=some (some (.ref n))/\h[n]?=some o/\bL o/\Rc (Oc X ns) h o u/\
 ∀o' u',bL o'->Rc (Oc X ns) h o' u'->Mov (Oc X ns) (Oc X ns) h (h.set n o')/\Sat X h0 ns (e.set i (s.re u')) ae (h.set n o')/\Stp ns e h ns (e.set i (s.re u')) (h.set n o'):=by
 have hi:=(r_.mp q).1
 have key:∃n o,ns[i]?=some (some n)/\ae[i]?=some (some (.ref n))/\h[n]?=some o/\bL o/\Rc (Oc X ns) h o u/\s.mt=true/\(∀o' u',bL o'->Rc (Oc X ns) (h.set n o') o' u'->SlR (Oc X ns) h0 (some (some n)) (some (some (.ref n))) (h.set n o') (s.re u')):=by
  have y:=S.sl i s q
  cases s with
  |ow v=>cases hm;obtain⟨n,o,q1,q2,q3,q4,q5,q6⟩:=y;exact⟨n,o,q1,q2,q4,q5,q6,rfl,λo' u' hf r=>⟨n,o',rfl,rfl,q3,bM (cF q4),hf,r⟩⟩
  |mu v=>cases hm;obtain⟨n,o,q1,q2,q4,q5,q6⟩:=y;exact⟨n,o,q1,q2,q4,q5,q6,rfl,λo' u' hf r=>⟨n,o',rfl,rfl,bM (cF q4),hf,r⟩⟩
  |_=>cases hm
 obtain⟨n,o,k1,k2,k3,k4,k5,k6,k7⟩:=key
 refine⟨n,o,k2,k3,k4,k5,λo' u' hf r=>?_⟩
 have mv:Mov (Oc X ns) (Oc X ns) h (h.set n o'):=λm ob p q'=>⟨p,by
  have:m≠n:=λz=>p.2 (aU.mpr ⟨i,by rw[z];exact k1⟩)
  rw[bG this];exact q'⟩
 refine⟨mv,⟨by rw[Oo];exact S.l1,by rw[Oo];exact S.l2,by rw[Oo];exact S.lh,λm z=>by rw[Oo];exact S.xl m z,S.inj,S.nx,λj s' qj=>?_⟩,?_⟩
 ·rcases bo hi qj with ⟨rfl,rfl⟩ |⟨z,qj'⟩
  ·rw[k1,k2];exact k7 o' u' hf (r.mono mv)
  ·refine (S.sl j s' qj').mono mv λm ob qm qo=>?_
   have:m≠n:=λy=>by subst y;exact z (S.inj j i m qm k1)
   rw[bG this];exact qo
 ·refine⟨by rw[Oo];exact o_ _,λm ob qm hM=>?_,λ_ _ q=>.inl q,λj s' qj hl=>?_,λj s' qj hl=>?_,λj v qj=>?_,λj v qj=>?_⟩
  ·have:m≠n:=λy=>by subst y;exact hM ⟨i,s,k1,q,k6⟩
   rw[bG this];exact qm
  ·have z:j≠i:=λz=>by subst z;rw[q] at qj;cases qj;cases s <;> first |cases hl;done |cases k6;done
   rw[bG z];exact⟨qj,rfl⟩
  ·rcases bo hi qj with ⟨_,y⟩ |⟨z,qj'⟩
   ·subst y;cases s <;> first |cases hl;done |cases k6;done
   ·exact⟨qj',rfl⟩
  ·rcases bo hi qj with ⟨rfl,y⟩ |⟨z,qj'⟩
   ·cases s with
    |mu w=>exact⟨w,q,rfl⟩
    |ow w=>cases y
    |_=>cases k6
   ·exact⟨v,qj',rfl⟩
  ·by_cases z:j=i
   ·subst z;rw[q] at qj;cases qj;exact⟨u',bM hi,rfl⟩
   ·exact⟨v,by rw[bG z];exact qj,rfl⟩
end
def vQ(w2:D->D->D->AH->R Unit)(w3:Val->Val->Val->Option Val):Prop:=∀P h n o u di vi d v u',¬ P n->h[n]?=some o->bL o->Rc P h o u->ShR P h di vi->Rd P h d v->w3 u vi v=some u'->∃o',w2 (.ref n) di d h=.ok () (h.set n o')/\bL o'/\Rc P h o' u'
noncomputable def wSet(i:Nat)(G:ME3)(F:ME3)(w:Val->Val->Val->Option Val):MS3:=λe=>(F e).toS λt e1=>match (e1[i]?).bind Sl.mv with
 |none=>.stuck
 |some _=>(G e1).toS λt2 e2=>match rs e2 t2 with
  |none=>.stuck
  |some vi=>match b8 e2 t.drop with
   |none=>.stuck
   |some (e3,v)=>match e3[i]? with
    |none=>.stuck
    |some s=>match s.mv with
     |none=>.stuck
     |some u=>match w u vi v with
      |some u'=>.nx (e3.set i (s.re u'))
      |none=>.stuck
def RM(m2:D->List D->AH->R D)(m3:Val->List Val->Option (Val×Val)):Prop:=∀P h n o u ds vs u' v,h[n]?=some o->bL o->Rc P h o u->Rds P h ds vs->m3 u vs=some (u',v)->iR h (.ref n)=true/\∃o' d,m2 (.ref n) ds h=.ok d (h.set n o')/\bL o'/\Rc P h o' u'/\Rd P h d v
def eA:Val->Bool
 |.lst _=>true
 |_=>false
noncomputable def kX(i:Nat)(m:Val->List Val->Option (Val×Val))(A:MA3):ME3:=λe=>match e[i]? with
 |some s=>if (s.mv.map eA)=some true then (A e).bind λts e1=>match dem e1 ts with
  |some (e2,vs)=>match e2[i]? with
   |some s2=>match s2.mv with
    |some u=>match m u vs with
     |some (u',v)=>.ok (.val v) (e2.set i (s2.re u'))
     |none=>.stuck
    |none=>.stuck
   |none=>.stuck
  |none=>.stuck else .stuck
 |none=>.stuck
section
variable{F G:ME}{F3 G3:ME3}{A:MA}{A3:MA3}
def D1{X:Nat->Prop}{h0:Nat}{ns:Ns}{e:E3}{ae:AE}{h:AH}(S:Sat X h0 ns e ae h){i:Nat}{u:Val}(q:(e[i]?).bind Sl.mv=some u):∃n o,ae[i]?=some (some (.ref n))/\h[n]?=some o/\bL o/\Rc (Oc X ns) h o u:=by
 obtain⟨s,q1,q2⟩:=Ou.mp q
 obtain⟨n,o,k1,k2,k3,k4,_⟩:=S.write q1 q2
 exact⟨n,o,k1,k2,k3,k4⟩
def Jn(i:Nat)(hw:vQ w2 w3)(hG:RE G G3)(hF:RE F F3):RS (gR F (gS (ba i) G w2)) (wSet i G3 F3 w3):=λX h0 ns e ae h S=>PoS.toS (hF X h0 0 ns e ae h S (N_ _)) λd t h1 ns1 e1 a1 S1 r1=>by
 try dsimp only
 cases qm:(e1[i]?).bind Sl.mv with
 |none=>trivial
 |
  some u0=>
  obtain⟨n0,o0,b1,b2,b3,b4⟩:=D1 S1 qm
  have L2e:∀h',(gS (ba i) G w2 d ae h').toS ae (λbn h2=>SR.nx bn h2)=(G ae h').toS ae λdi h2=>(w2 (.ref n0) di d h2).toS ae λ_ h3=>.nx ae h3:=λh'=>by
   unfold gS ba
   rw[b1]
   simp only[fh]
   cases G ae h' with
   |
    ok di h2=>
    simp only[fh]
    show _=(w2 (.ref n0) di d h2).toS ae λ_ h3=>.nx ae h3
    cases w2 (.ref n0) di d h2 <;> rfl
   |exc c h2=>rfl
   |stuck=>rfl
  rw[L2e]
  refine PoS.after S a1 (PoS.toS (hG X h0 0 ns1 e1 ae h1 S1 (N_ _)) λdi t2 h2 h_ e2 a2 S2 r2=>?_)
  try dsimp only
  cases qi:rs e2 t2 with
  |none=>trivial
  |
   some vi=>
   try dsimp only
   cases qd:b8 e2 t.drop with
   |none=>trivial
   |
    some w=>
    obtain⟨e3,v⟩:=w
    try dsimp only
    obtain⟨r1',hn⟩:=r1.drop
    have r3:=r1'.stp S1 a2 hn
    have si:=r2.sh S2 qi
    obtain⟨ns3,S3,a3,r4⟩:=eZ S2 r3 qd
    have si3:ShR (Oc X ns3) h2 di vi:=by
     rcases si with z |⟨n,o,z1,z2,z3⟩
     ·exact .inl (z.mono (a3.mov S2))
     ·exact .inr ⟨n,o,z1,z2,z3.mono (a3.mov S2)⟩
    cases q3:e3[i]? with
    |none=>trivial
    |
     some s=>
     try dsimp only
     cases q4:s.mv with
     |none=>trivial
     |
      some u=>
      try dsimp only
      cases q5:w3 u vi v with
      |none=>trivial
      |
       some u'=>
       obtain⟨n,o,k1,k2,k3,k4,k5⟩:=S3.write q3 q4
       rw[b1] at k1;cases k1
       have nP:¬ Oc X ns3 n0:=λp=>by
        have z1:=((k5 (.lst []) (.lst []) trivial (.lst .nil)).1 _ _ p k2).2
        have z2:=((k5 (.lst [.non]) (.lst [.non]) trivial (.lst (.cons .non .nil))).1 _ _ p k2).2
        rw[bM (cF k2)] at z1 z2
        rw[<- z2] at z1
        cases z1
       obtain⟨o',p1,p2,p3⟩:=hw _ _ _ _ _ _ _ _ _ _ nP k2 k3 k4 si3 r4 q5
       obtain⟨mv,S4,a4⟩:=k5 o' u' p2 p3
       rw[p1]
       exact .nx ((a2.trans S1 a3).trans S1 a4) S4
def xY(i:Nat)(hm:RM m2 m3)(hA:RA A A3):RE (eM m2 (ba i) A) (kX i m3 A3):=λX h0 L ns e ae h S hl=>by
 unfold kX
 cases q0:e[i]? with
 |none=>trivial
 |
  some s0=>
  dsimp only
  split
  ·rename_i hz
   obtain⟨u0,z1,z2⟩:=G_.mp hz
   obtain⟨n0,o0,b1,b2,b3,b4,_⟩:=S.write q0 z1
   have hL:iR h (.ref n0)=true:=by
    cases u0 with
    |lst xs=>obtain⟨ds,_,e1,_⟩:=Rc.seq b2 b4;show (aB h n0).isSome=true;rw[e1];rfl
    |_=>cases z2
   have L2e:eM m2 (ba i) A ae h=(A ae h).bind λds h2=>m2 (.ref n0) ds h2:=by
    unfold eM ba
    rw[b1]
    simp only[fh,hL,PF]
   rw[L2e]
   refine Po.bind S (hA X h0 ns e ae h S) λds ts h1 ns1 e1 a1 S1 r1=>?_
   try dsimp only
   cases q1:dem e1 ts with
   |none=>trivial
   |
    some w=>
    obtain⟨e2,vs⟩:=w
    try dsimp only
    obtain⟨h_,S2,a2,r2⟩:=iE S1 r1 q1
    cases q2:e2[i]? with
    |none=>trivial
    |
     some s2=>
     try dsimp only
     cases q3:s2.mv with
     |none=>trivial
     |
      some u=>
      try dsimp only
      cases q4:m3 u vs with
      |none=>trivial
      |
       some w=>
       obtain⟨u',v⟩:=w
       obtain⟨n,o,k1,k2,k3,k4,k5⟩:=S2.write q2 q3
       rw[b1] at k1;cases k1
       obtain⟨_,o',d,p1,p2,p3,p4⟩:=hm _ _ _ _ _ _ _ _ _ k2 k3 k4 r2 q4
       obtain⟨mv,S4,a4⟩:=k5 o' u' p2 p3
       exact⟨d,_,h_,p1,a2.trans S1 a4,S4,p4.mono mv⟩
  ·trivial
def FW(i:Nat)(hm:RM m2 m3):RE (eM0 m2 (ba i)) (kX i m3 nF):=by
 have:=xY i hm yF
 intro X h0 L ns e ae h S hl
 have p:=this X h0 L ns e ae h S hl
 have e1:eM m2 (ba i) ju ae h=eM0 m2 (ba i) ae h:=by
  unfold eM eM0 ju
  rfl
 rw[e1] at p
 exact p
end
noncomputable def iL:Sl->Sl
 |.ow v=>.lo v
 |.mu v=>.lm v
 |s=>s
noncomputable def j0:Sl->Sl
 |.lo v=>.ow v
 |.lm v=>.mu v
 |s=>s
def lock(e:E3)(k:Nat):E3:=match e[k]? with
 |some s=>e.set k (iL s)
 |none=>e
def unlock(e:E3)(k:Nat):E3:=match e[k]? with
 |some s=>e.set k (j0 s)
 |none=>e
def lockO(e:E3):Option Nat->E3
 |some k=>lock e k
 |none=>e
def eG(e:E3):Option Nat->E3
 |some k=>unlock e k
 |none=>e
section
variable{X:Nat->Prop}{h0 L:Nat}{ns ns1 ns':Ns}{e e1 e':E3}{ae bn:AE}{h h1 h':AH}
def SlR.lock(r:SlR P h0 n d h s):SlR P h0 n d h (iL s):=by cases s <;> exact r
def SlR.unlock(r:SlR P h0 n d h s):SlR P h0 n d h (j0 s):=by cases s <;> exact r
def Sat.lock(S:Sat X h0 ns e ae h)(k:Nat):Sat X h0 ns (lock e k) ae h:=by
 unfold L3.lock
 split
 ·rename_i s q
  have hi:=(r_.mp q).1
  refine⟨by rw[Oo];exact S.l1,by rw[Oo];exact S.l2,S.lh,S.xl,S.inj,S.nx,λj s' qj=>?_⟩
  rcases bo hi qj with ⟨rfl,rfl⟩ |⟨z,qj'⟩
  ·exact (S.sl j s q).lock
  ·exact S.sl j s' qj'
 ·exact S
def Sat.unlock(S:Sat X h0 ns e ae h)(k:Nat):Sat X h0 ns (unlock e k) ae h:=by
 unfold L3.unlock
 split
 ·rename_i s q
  have hi:=(r_.mp q).1
  refine⟨by rw[Oo];exact S.l1,by rw[Oo];exact S.l2,S.lh,S.xl,S.inj,S.nx,λj s' qj=>?_⟩
  rcases bo hi qj with ⟨rfl,rfl⟩ |⟨z,qj'⟩
  ·exact (S.sl j s q).unlock
  ·exact S.sl j s' qj'
 ·exact S
def ij(z:j≠k):(lock e k)[j]?=e[j]?:=by
 unfold lock;split
 ·rw[bG z]
 ·rfl
def fI(z:j≠k):(unlock e k)[j]?=e[j]?:=by
 unfold unlock;split
 ·rw[bG z]
 ·rfl
def m6(q:e[k]?=some s):(lock e k)[k]?=some (iL s):=by
 unfold lock;rw[q];exact bM (r_.mp q).1
def gD(q:e[k]?=some s):(unlock e k)[k]?=some (j0 s):=by
 unfold unlock;rw[q];exact bM (r_.mp q).1
def Stp.unlock(q:e[k]?=some s)(hs:s.mt=true)(a:Stp ns (L3.lock e k) h ns' e' h'):Stp ns e h ns' (L3.unlock e' k) h':=by
 have hl:(iL s).lk=true:=by cases s <;> first |rfl |cases hs
 have hu:j0 (iL s)=s:=by cases s <;> first |rfl |cases hs
 obtain⟨qk,nk⟩:=a.lk k _ (m6 q) hl
 refine⟨a.len,λm o qm hM=>a.keep m o qm λ⟨j,s',z1,z2,z3⟩=>hM ?_,a.nw,λj s' qj hj=>?_,λj s' qj hj=>?_,λj v qj=>?_,λj v qj=>?_⟩
 ·by_cases z:j=k
  ·subst z;exact⟨j,s,z1,q,hs⟩
  ·rw[ij z] at z2;exact⟨j,s',z1,z2,z3⟩
 ·have z:j≠k:=λz=>by subst z;rw[q] at qj;cases qj;cases s <;> first |cases hs;done |cases hj;done
  rw[fI z]
  exact a.lk j s' (by rw[ij z];exact qj) hj
 ·have z:j≠k:=λz=>by
   subst z
   rw[gD qk,hu] at qj;cases qj;cases s <;> first |cases hs;done |cases hj;done
  rw[fI z] at qj
  obtain⟨y1,y2⟩:=a.lk' j s' qj hj
  rw[ij z] at y1
  exact⟨y1,y2⟩
 ·by_cases z:j=k
  ·subst z;rw[gD qk,hu] at qj;cases qj;exact⟨v,q,nk⟩
  ·rw[fI z] at qj
   obtain⟨u,y1,y2⟩:=a.mu j v qj
   rw[ij z] at y1
   exact⟨u,y1,y2⟩
 ·by_cases z:j=k
  ·subst z;rw[q] at qj;cases qj;exact⟨v,by rw[gD qk,hu],nk⟩
  ·obtain⟨u,y1,y2⟩:=a.mu' j v (by rw[ij z];exact qj)
   exact⟨u,by rw[fI z];exact y1,y2⟩
end
abbrev MI3:=E3->R3 (List Val×Option Nat)
def Stay(X:Nat->Prop)(ns:Ns)(k:Option Nat)(h h':AH):Prop:=∀(m:Nat) (o:Ob),h[m]?=some o->(Oc X ns m\/∃j:Nat,k=some j/\ns[j]?=some (some m))->h'[m]?=some o
def rJ(X:Nat->Prop)(ns:Ns)(e:E3)(h:AH)(it:AIt)(p:List Val×Option Nat):Prop:=
 Rds (Oc X ns) h it.items p.1/\(∀h',Stay X ns p.2 h h'->it.guard h')/\∀k:Nat,p.2=some k->∃s,e[k]?=some s/\s.mt=true
def RI(I:MI)(J:MI3):Prop:=∀X h0 ns e ae h,Sat X h0 ns e ae h->Po X h0 ns e ae h (rJ X) (I ae h) (J e)
noncomputable def gG:Val->Option (List Val)
 |.tup xs=>some xs
 |.lst xs=>some xs
 |_=>none
noncomputable def fg(t:Tm)(e:E3):Option (List Val×Option Nat):=match t with
 |.val v=>(gG v).map λxs=>(xs,none)
 |.new v=>(gG v).map λxs=>(xs,none)
 |.bor k=>match e[k]? with
  |some (.sh v)=>(gG v).map λxs=>(xs,none)
  |some (.ow (.lst xs))=>some (xs,some k)
  |some (.mu (.lst xs))=>some (xs,some k)
  |_=>none
noncomputable def Dy(F:ME3):MI3:=λe=>(F e).bind λt e1=>match fg t e1 with
 |some p=>.ok p e1
 |none=>.stuck
noncomputable def CP(A:MA3):MI3:=λe=>(A e).bind λts e1=>match ts with
 | [t,u]=>(match fg t e1,fg u e1 with
  |some (xs,k),some (ys,none)=>.ok (List.zipWith (λx y=>.tup [x,y]) xs ys,k) e1
  |_,_=>.stuck)
 |_=>.stuck
def sR(lo:Int)(k:Nat):List Val:=(List.range k).map λi=>Val.int (lo+(i:Nat))
structure RgB(j:Int):Prop where
 lo:-(2^62)<=j
 hi:j<2^62
def gO:List Val->Option (List Val)
 | [.int j]=>@ite _ (RgB j) (Classical.propDecidable _) (some (sR 0 j.toNat)) none
 |_=>none
def AF:List Val->Option (List Val)
 | [.int i,.int j]=>@ite _ (RgB i/\RgB j) (Classical.propDecidable _) (some (sR i (j-i).toNat)) none
 |_=>none
noncomputable def qb(f:List Val->Option (List Val))(A:MA3):MI3:=λe=>(A e).bind λts e1=>match (rss e1 ts).bind f with
 |some xs=>.ok (xs,none) e1
 |none=>.stuck
section
variable{F:ME}{F3:ME3}{A:MA}{A3:MA3}
def wI(S:Sat X h0 ns e ae h)(r:Rd (Oc X ns) h d v)(q:gG v=some xs):∃it,fX d h=some it/\rJ X ns e h it (xs,none):=by
 cases v with
 |
  tup ys=>
  cases q
  obtain⟨ds,rfl,r2⟩:=ShR.tup (.inl r)
  exact⟨_,rfl,r2,λ_ _=>trivial,λ_ z=>nomatch z⟩
 |
  lst ys=>
  cases q
  cases r with
  |
   cell p eo rc=>
   rename_i n o
   obtain⟨ds,_,e1,r1⟩:=Rc.seq eo rc
   refine⟨.lst n ds,by unfold fX;dsimp only;rw[e1];rfl,r1,λh' st=>?_,λ_ z=>nomatch z⟩
   show aB h' n=some ds
   have:=st n o eo (.inl p)
   unfold aB at e1 ⊢
   rw[eo] at e1
   rw[this];exact e1
 |_=>cases q
def rA(S:Sat X h0 ns e ae h)(r:relE X h0 L ae ns e h d t)(q:fg t e=some p):∃it,fX d h=some it/\rJ X ns e h it p:=by
 cases t with
 |val v=>obtain⟨xs,q1,rfl⟩:=G_.mp q;exact wI S r q1
 |new v=>obtain⟨xs,q1,rfl⟩:=G_.mp q;exact wI S r.new q1
 |
  bor k=>
  have r':ae[k]?=some (some d):=r
  have own:∀{s xs},e[k]?=some s->s.mv=some (.lst xs)->∃it,fX d h=some it/\rJ X ns e h it (xs,some k):=λ{s xs} q qm=>by
   have hns:∃n,ns[k]?=some (some n)/\ae[k]?=some (some (.ref n)):=by
    have y:=S.sl k s q
    cases s with
    |ow v=>obtain⟨n,o,y1,y2,_⟩:=y;exact⟨n,y1,y2⟩
    |mu v=>obtain⟨n,o,y1,y2,_⟩:=y;exact⟨n,y1,y2⟩
    |_=>cases qm
   obtain⟨n,y1,y2⟩:=hns
   obtain⟨n',o,k1,k2,k3,k4,_⟩:=S.write q qm
   rw[y2] at k1;cases k1
   rw[r'] at y2;cases y2
   obtain⟨ds,_,e2,r2⟩:=Rc.seq k2 k4
   refine⟨.lst n ds,by unfold fX;dsimp only;rw[e2];rfl,r2,λh' st=>?_,λj z=>?_⟩
   ·show aB h' n=some ds
    have:=st n o k2 (.inr ⟨k,rfl,y1⟩)
    unfold aB at e2 ⊢
    rw[k2] at e2
    rw[this];exact e2
   ·cases z;exact⟨s,q,by cases s <;> first |rfl |cases qm⟩
  unfold fg at q
  dsimp only at q
  split at q
  ·rename_i v qs
   obtain⟨_,x,e2,r2⟩:=S.sl k _ qs
   rw[r'] at e2;cases e2
   obtain⟨xs,q1,rfl⟩:=G_.mp q
   exact wI S r2 q1
  ·rename_i xs qs;cases q;exact own qs rfl
  ·rename_i xs qs;cases q;exact own qs rfl
  ·cases q
noncomputable def AM(d:D)(h:AH):R AIt:=match d with
 |.tup xs=>.ok (.tup xs) h
 |.ref n=>match aB h n with
  |some xs=>.ok (.lst n xs) h
  |none=>.stuck
 |_=>.stuck
def DJ(q:fX d h=some it):AM d h=.ok it h:=by
 cases d with
 |tup xs=>cases q;rfl
 |
  ref n=>
  obtain⟨xs,y1,rfl⟩:=G_.mp (show (aB h n).map (AIt.lst n)=some it from q)
  unfold AM;dsimp only;rw[y1]
 |_=>cases q
def IZ(hF:RE F F3):RI (Ab F) (Dy F3):=λX h0 ns e ae h S=>
 Po.bind S (hF X h0 0 ns e ae h S (N_ _)) λd t h1 ns1 e1 a1 S1 r1=>by
  show Po X h0 ns1 e1 ae h1 (rJ X) (AM d h1) _
  cases q:fg t e1 with
  |none=>trivial
  |
   some p=>
   dsimp only
   obtain⟨it,q1,q2⟩:=rA S1 r1 q
   exact⟨it,h1,ns1,DJ q1,.refl,S1,q2⟩
def E8(r:Rds P h ds vs)(q:Rds P h es us):Rds P h (List.zipWith (λx y=>D.tup [x,y]) ds es) (List.zipWith (λx y=>Val.tup [x,y]) vs us):=
 r.ind (M:=λds vs=>∀{es:List D}{us:List Val},Rds P h es us->Rds P h (List.zipWith (λx y=>D.tup [x,y]) ds es) (List.zipWith (λx y=>Val.tup [x,y]) vs us)) (λ_=>.nil) (λr _ ih _ _ q=>by
  cases q with
  |nil=>exact .nil
  |cons q qq=>exact .cons (.tup (.cons r (.cons q .nil))) (ih qq)) q
def tsr1(r:TsR X ns ae h ds [t]):∃d,ds=[d]/\relE X h0 0 ae ns e h d t:=by
 cases r with
 |val r rr=>cases rr;exact⟨_,rfl,r⟩
 |bor r rr=>cases rr;exact⟨_,rfl,r⟩
def tsr2(r:TsR X ns ae h ds [t,u]):∃d d',ds=[d,d']/\relE X h0 0 ae ns e h d t/\relE X h0 0 ae ns e h d' u:=by
 cases r with
 |val r rr=>obtain⟨d',rfl,r'⟩:=tsr1 (h0:=h0) (e:=e) rr;exact⟨_,_,rfl,r,r'⟩
 |bor r rr=>obtain⟨d',rfl,r'⟩:=tsr1 (h0:=h0) (e:=e) rr;exact⟨_,_,rfl,r,r'⟩
def Kn(hA:RA A A3):RI (Cp A) (CP A3):=λX h0 ns e ae h S=>
 Po.bind
  S (hA X h0 ns e ae h S) λds ts h1 ns1 e1 a1 S1 r1=>by
  match ts,r1 with
  | [],_=>trivial
  | [_],_=>trivial
  |_::_::_::_,_=>trivial
  |
   [t,u],r1=>
   obtain⟨d,d',rfl,r2,r3⟩:=tsr2 (h0:=h0) (e:=e1) r1
   dsimp only
   cases q:fg t e1 with
   |none=>trivial
   |
    some p=>
    obtain⟨xs,k⟩:=p
    cases q':fg u e1 with
    |none=>trivial
    |
     some p'=>
     obtain⟨ys,k'⟩:=p'
     cases k' with
     |some _=>trivial
     |
      none=>
      obtain⟨it,q1,q2,q3,q4⟩:=rA S1 r2 q
      obtain⟨it',q1',q2',q3',q4'⟩:=rA S1 r3 q'
      rw[q1,q1']
      exact⟨.zip it it',h1,ns1,rfl,.refl,S1,E8 q2 q2',λh' st=>⟨q3 h' st,q3' h' λm o hm hc=>st m o hm (hc.elim .inl λ⟨_,z,_⟩=>nomatch z)⟩,q4⟩
def DH(lo:Int)(k:Nat):Rds P h (AIt.rng lo k).items (sR lo k):=by
 show Rds P h ((List.range k).map λi=>D.int (lo+(i:Nat))) ((List.range k).map λi=>Val.int (lo+(i:Nat)))
 generalize List.range k=l
 induction l with
 |nil=>exact .nil
 |cons i l ih=>exact .cons (.int _) ih
def dJ(r:ShRs P h ds [v]):∃d,ds=[d]/\ShR P h d v:=by
 cases r with |cons r rr=>cases rr;exact⟨_,rfl,r⟩
def mh(r:ShRs P h ds [v,u]):∃d d',ds=[d,d']/\ShR P h d v/\ShR P h d' u:=by
 cases r with |cons r rr=>cases rr with |cons r' rr=>cases rr;exact⟨_,_,rfl,r,r'⟩
def CM(hf:∀P h ds vs xs,ShRs P h ds vs->f3 vs=some xs->∃lo k,f2 ds h=.ok (.rng lo k) h/\xs=sR lo k)(hA:RA A A3):RI (λae h=>(A ae h).bind f2) (qb f3 A3):=λX h0 ns e ae h S=>
 Po.bind S (hA X h0 ns e ae h S) λds ts h1 ns1 e1 a1 S1 r1=>by
  try dsimp only
  split
  ·rename_i xs q
   obtain⟨vs,q1,q2⟩:=Ou.mp q
   obtain⟨lo,k,p1,rfl⟩:=hf _ _ _ _ _ (TsR.sh S1 r1 q1) q2
   rw[p1]
   exact Po.ret S1 ⟨DH _ _,λ_ _=>trivial,λ_ z=>nomatch z⟩
  ·trivial
def Je(hA:RA A A3):RI (Bc A) (qb gO A3):=CM (f2:=λds h1=>match ds with
 | [.int j]=>if -(2^62)<=j/\j<2^62 then .ok (.rng 0 j.toNat) h1 else .stuck
 |
  _=>.stuck) (λP h ds vs xs r q=>by
  unfold gO at q
  split at q
  ·split at q
   ·rename_i hb
    cases q
    obtain⟨d,rfl,r2⟩:=dJ r
    obtain rfl:=r2.int
    exact⟨_,_,by dsimp only;rw[if_pos ⟨hb.lo,hb.hi⟩],rfl⟩
   ·cases q
  ·cases q) hA
def KZ(hA:RA A A3):RI (By A) (qb AF A3):=CM (f2:=λds h1=>match ds with
 | [.int i,.int j]=>if -(2^62)<=i/\i<2^62/\-(2^62)<=j/\j<2^62 then .ok (.rng i (j-i).toNat) h1 else .stuck
 |
  _=>.stuck) (λP h ds vs xs r q=>by
  unfold AF at q
  split at q
  ·split at q
   ·rename_i hb
    cases q
    obtain⟨d,d',rfl,r2,r3⟩:=mh r
    obtain rfl:=r2.int
    obtain rfl:=r3.int
    exact⟨_,_,by dsimp only;rw[if_pos ⟨hb.1.lo,hb.1.hi,hb.2.lo,hb.2.hi⟩],rfl⟩
   ·cases q
  ·cases q) hA
end
def SR3.loop(r:SR3)(f:E3->SR3):SR3:=match r with
 |.nx e=>f e
 |.ct e=>f e
 |.bk e=>.nx e
 |.rt d e=>.rt d e
 |.exc c e=>.exc c e
 |.stuck=>.stuck
noncomputable def eW(g:MG3)(B:MS3):List Val->MS3
 | [],e=>.nx e
 |v::vs,e=>match g v e with
  |some e1=>(B e1).loop (eW g B vs)
  |none=>.stuck
def SR3.unl(k:Option Nat)(r:SR3):SR3:=match r with
 |.nx e=>.nx (eG e k)
 |.ct e=>.ct (eG e k)
 |.bk e=>.bk (eG e k)
 |.rt d e=>.rt d (eG e k)
 |.exc c e=>.exc c (eG e k)
 |.stuck=>.stuck
def wFor(I:MI3)(g:MG3)(B:MS3):MS3:=λe=>(I e).toS λp e1=>(eW g B p.1 (lockO e1 p.2)).unl p.2
section
variable{I:MI}{I3:MI3}{g:MG}{g3:MG3}{B:MS}{B3:MS3}{c:MT}{c3:MT3}{F:ME}{F3:ME3}
def PoS.loop{X:Nat->Prop}{h0:Nat}{ns:Ns}{e:E3}{ae:AE}{h:AH}{r2:SR}{r3:SR3}{f2:AE->AH->SR}{f3:E3->SR3}(p:PoS X h0 ns e h r2 r3)
 (k:∀bn h' ns' e',Stp ns e h ns' e' h'->Sat X h0 ns' e' bn h'->PoS X h0 ns e h (f2 bn h') (f3 e')):PoS X h0 ns e h (r2.loop f2) (r3.loop f3):=by
 cases r3 with
 |stuck=>trivial
 |nx e'=>obtain⟨bn,h',ns',q,q1,q2⟩:=p;rw[q];exact k bn h' ns' e' q1 q2
 |ct e'=>obtain⟨bn,h',ns',q,q1,q2⟩:=p;rw[q];exact k bn h' ns' e' q1 q2
 |bk e'=>obtain⟨bn,h',ns',q,q1,q2⟩:=p;rw[q];exact⟨bn,h',ns',rfl,q1,q2⟩
 |exc c e'=>obtain⟨bn,h',ns',q,q1,q2⟩:=p;rw[q];exact⟨bn,h',ns',rfl,q1,q2⟩
 |rt r e'=>obtain⟨d,bn,h',ns',q,q1,q2⟩:=p;rw[q];exact⟨d,bn,h',ns',rfl,q1,q2⟩
def ET(S:Sat X h0 ns e ae h)(hk:∀j:Nat,k=some j->∃s,e[j]?=some s/\s.mt=true)(a:Stp ns (lockO e k) h ns' e' h'):Stay X ns k h h':=λm o q hm=>by
 refine a.keep m o q λ⟨i,s,z1,z2,z3⟩=>?_
 rcases hm with hm |⟨j,rfl,hj⟩
 ·exact hm.2 (aU.mpr ⟨i,z1⟩)
 ·have:i=j:=S.inj i j m z1 hj
  subst this
  obtain⟨s',y1,y2⟩:=hk i rfl
  have:(lockO e (some i))[i]?=some (iL s'):=m6 y1
  rw[this] at z2;cases z2
  cases s' <;> first |cases y2;done |cases z3;done
def PoS.unl(hk:∀j:Nat,k=some j->∃s,e[j]?=some s/\s.mt=true)(p:PoS X h0 ns (lockO e k) h r2 r3):PoS X h0 ns e h r2 (r3.unl k):=by
 cases k with
 |none=>cases r3 <;> exact p
 |
  some j=>
  obtain⟨s,y1,y2⟩:=hk j rfl
  cases r3 with
  |stuck=>trivial
  |nx e'=>obtain⟨bn,h',ns',q,q1,q2⟩:=p;exact⟨bn,h',ns',q,q1.unlock y1 y2,q2.unlock j⟩
  |ct e'=>obtain⟨bn,h',ns',q,q1,q2⟩:=p;exact⟨bn,h',ns',q,q1.unlock y1 y2,q2.unlock j⟩
  |bk e'=>obtain⟨bn,h',ns',q,q1,q2⟩:=p;exact⟨bn,h',ns',q,q1.unlock y1 y2,q2.unlock j⟩
  |exc c e'=>obtain⟨bn,h',ns',q,q1,q2⟩:=p;exact⟨bn,h',ns',q,q1.unlock y1 y2,q2.unlock j⟩
  |
   rt r e'=>
   obtain⟨d,bn,h',ns',q,q1,q2⟩:=p
   refine⟨d,bn,h',ns',q,q1.unlock y1 y2,?_⟩
   cases r with
   |val v=>exact⟨q2.1.unlock j,q2.2⟩
   |new v=>obtain⟨n,o,z1,z2,z3,z4,z5,z6,z7⟩:=q2;exact⟨n,o,z1,z2,z3,z4,z5,z6.unlock j,z7⟩
   |
    par i=>
    obtain⟨z1,z2,v,z3⟩:=q2
    refine⟨z1.unlock j,z2,v,?_⟩
    by_cases z:i=j
    ·subst z;exact gD z3
    ·exact (fI z).trans z3
def Sat.lockO(S:Sat X h0 ns e ae h)(k:Option Nat):Sat X h0 ns (lockO e k) ae h:=by
 cases k with
 |none=>exact S
 |some k=>exact S.lock k
def FK{X:Nat->Prop}{h0:Nat}{ns:Ns}{e:E3}{ae:AE}{h:AH}{G:AH->Prop}(S:Sat X h0 ns e ae h)(hg:RG g g3)(hB:RS B B3)(hG:∀ns' e' h',Stp ns e h ns' e' h'->G h'):
 ∀{ds:List D}{vs:List Val},Rds (Oc X ns) h ds vs->∀{ns1:Ns}{e1:E3}{g_:AE}{h1:AH},Stp ns e h ns1 e1 h1->Sat X h0 ns1 e1 g_ h1->PoS X h0 ns e h (iP G g B ds g_ h1) (eW g3 B3 vs e1):=by
 intro ds
 induction ds with
 |
  nil=>
  intro vs r ns1 e1 g_ h1 a1 S1
  cases r
  unfold iP
  rw[if_pos (hG _ _ _ a1)]
  exact .nx a1 S1
 |
  cons d0 ds ih=>
  intro vs r ns1 e1 g_ h1 a1 S1
  cases r with
  |
   cons r rr=>
   unfold iP eW
   rw[if_pos (hG _ _ _ a1)]
   split
   ·rename_i e2 q
    obtain⟨ae2,h_,p2,S2,a2⟩:=hg _ _ _ _ _ _ _ _ _ S1 (r.mono (a1.mov S)) q
    rw[p2]
    have a12:=a1.trans S a2
    show PoS X h0 ns e h ((B ae2 h1).loop _) _
    refine PoS.loop (ae:=ae) (PoS.after S a12 (hB X h0 h_ e2 ae2 h1 S2)) λae3 h3 ns3 e3 a3 S3=>ih rr a3 S3
   ·trivial
def Kh(hI:RI I I3)(hg:RG g g3)(hB:RS B B3):RS (CJ I g B) (wFor I3 g3 B3):=λX h0 ns e ae h S=>PoS.toS (hI X h0 ns e ae h S) λit p h1 ns1 e1 a1 S1 r1=>by
 obtain⟨r2,gd,hk⟩:=r1
 refine PoS.after S a1 (PoS.unl hk ?_)
 have S2:=S1.lockO p.2
 exact FK S2 hg hB (λns' e' h' a=>gd h' (ET S1 hk a)) r2 .refl S2
noncomputable def whV(c:MT3)(B:MS3):Nat->MS3
 |0,_=>.stuck
 |k+1,e=>(c e).toS λb e1=>if b=true then (B e1).loop (whV c B k) else .nx e1
open Classical in
def wWh(c:MT3)(B:MS3):MS3:=λe=>if q:∃k,whV c B k e ≠ .stuck then whV c B q.choose e else .stuck
theorem kR{c:MT3}{B:MS3}:∀{k:Nat}{e:E3},whV c B k e ≠ .stuck->whV c B (k+1) e=whV c B k e
 |0,_,q=>absurd rfl q
 |
  k+1,e,q=>by
  have e1:whV c B (k+2) e=(c e).toS λb e1=>if b=true then (B e1).loop (whV c B (k+1)) else .nx e1:=rfl
  have e2:whV c B (k+1) e=(c e).toS λb e1=>if b=true then (B e1).loop (whV c B k) else .nx e1:=rfl
  rw[e2] at q
  rw[e1,e2]
  cases r:c e with
  |exc _ _=>rfl
  |stuck=>rfl
  |
   ok b h1=>
   rw[r] at q
   cases b with
   |false=>rfl
   |
    true=>
    have q':(B h1).loop (whV c B k) ≠ .stuck:=q
    show (B h1).loop (whV c B (k+1))=(B h1).loop (whV c B k)
    cases s:B h1 with
    |nx a2=>rw[s] at q';exact kR q'
    |ct a2=>rw[s] at q';exact kR q'
    |_=>rfl
def zN{c:MT3}{B:MS3}{k j:Nat}{e:E3}(q:whV c B k e ≠ .stuck)(hj:k<=j):whV c B j e=whV c B k e:=by
 induction hj with
 |refl=>rfl
 |step _ ih=>rw[kR (by rw[ih];exact q),ih]
def mr{c:MT3}{B:MS3}{k:Nat}{e:E3}(q:whV c B k e ≠ .stuck):wWh c B e=whV c B k e:=by
 have hq:∃k,whV c B k e ≠ .stuck:=⟨k,q⟩
 unfold wWh
 rw[dif_pos hq]
 rcases Nat.le_total hq.choose k with z |z
 ·exact (zN hq.choose_spec z).symm
 ·exact zN q z
def Bn(c:MT3)(B:MS3)(e:E3):wWh c B e=(c e).toS λb e1=>if b=true then (B e1).loop (wWh c B) else .nx e1:=by
 by_cases q:∃k,whV c B k e ≠ .stuck
 ·obtain⟨k,q⟩:=q
  rw[mr q]
  cases k with
  |zero=>exact absurd rfl q
  |
   succ k=>
   have e2:whV c B (k+1) e=(c e).toS λb e1=>if b=true then (B e1).loop (whV c B k) else .nx e1:=rfl
   rw[e2] at q ⊢
   cases r:c e with
   |exc _ _=>rfl
   |stuck=>rfl
   |
    ok b h1=>
    rw[r] at q
    cases b with
    |false=>rfl
    |
     true=>
     have q':(B h1).loop (whV c B k) ≠ .stuck:=q
     show (B h1).loop (whV c B k)=(B h1).loop (wWh c B)
     cases s:B h1 with
     |nx a2=>rw[s] at q';exact (mr q').symm
     |ct a2=>rw[s] at q';exact (mr q').symm
     |_=>rfl
 ·have e0:wWh c B e=.stuck:=by unfold wWh;rw[dif_neg q]
  rw[e0]
  have hs:∀k,whV c B (k+1) e=.stuck:=λk=>Qg λz=>q ⟨_,z⟩
  cases r:c e with
  |stuck=>rfl
  |
   exc c' h'=>
   have:=hs 0
   unfold whV at this
   rw[r] at this
   cases this
  |
   ok b h1=>
   cases b with
   |
    false=>
    have:=hs 0
    unfold whV at this
    rw[r] at this
    cases this
   |
    true=>
    have h2:∀k,(B h1).loop (whV c B k)=.stuck:=λk=>by
     have:=hs k
     unfold whV at this
     rw[r] at this
     exact this
    show SR3.stuck=(B h1).loop (wWh c B)
    have lim:∀a2,(∀k,whV c B k a2=.stuck)->wWh c B a2=.stuck:=λa2 z=>by
     unfold wWh
     rw[dif_neg (λ⟨k,y⟩=>y (z k))]
    cases s:B h1 with
    |nx a2=>rw[s] at h2;exact (lim a2 h2).symm
    |ct a2=>rw[s] at h2;exact (lim a2 h2).symm
    |stuck=>rfl
    |_=>have:=h2 0;rw[s] at this;cases this
def Ic(p:PoS X h0 ns e h r2 r3)(q:r3 ≠ .stuck):r2 ≠ .stuck:=by
 cases r3 with
 |stuck=>exact absurd rfl q
 |nx e'=>obtain⟨bn,h',ns',z,_⟩:=p;rw[z];intro y;cases y
 |ct e'=>obtain⟨bn,h',ns',z,_⟩:=p;rw[z];intro y;cases y
 |bk e'=>obtain⟨bn,h',ns',z,_⟩:=p;rw[z];intro y;cases y
 |exc c e'=>obtain⟨bn,h',ns',z,_⟩:=p;rw[z];intro y;cases y
 |rt r e'=>obtain⟨d,bn,h',ns',z,_⟩:=p;rw[z];intro y;cases y
theorem xA(hc:RT c c3)(hB:RS B B3):∀(k:Nat) (X:Nat->Prop) (h0:Nat) (ns:Ns) (e:E3) (ae:AE) (h:AH),Sat X h0 ns e ae h->PoS X h0 ns e h (whN c B k ae h) (whV c3 B3 k e)
 |0,_,_,_,_,_,_,_=>trivial
 |
  k+1,X,h0,ns,e,ae,h,S=>by
  refine PoS.toS (hc X h0 ns e ae h S) λb b' h1 ns1 e1 a1 S1 r1=>?_
  cases r1
  try dsimp only
  split
  ·exact PoS.after S a1 (PoS.loop (ae:=ae) (hB X h0 ns1 e1 ae h1 S1) λae2 h2 h_ e2 a2 S2=>PoS.after S1 a2 (xA hc hB k X h0 h_ e2 ae2 h2 S2))
  ·exact .nx a1 S1
def LS(hc:RT c c3)(hB:RS B B3):RS (sWh c B) (wWh c3 B3):=λX h0 ns e ae h S=>by
 by_cases q:∃k,whV c3 B3 k e ≠ .stuck
 ·obtain⟨k,q⟩:=q
  rw[mr q]
  have p:=xA hc hB k X h0 ns e ae h S
  rw[yh (Ic p q)]
  exact p
 ·unfold wWh;rw[dif_neg q];trivial
end
noncomputable def eY(o:Option Nat)(s:Sl)(e:E3):E3:=match o,s with
 |some i,.mu v=>(match e[i]? with
  |some t=>e.set i (t.re v)
  |none=>e)
 |_,_=>e
noncomputable def a9:List (Option Nat)->E3->E3->E3
 |o::sub,s::inner,e=>a9 sub inner (eY o s e)
 |_,_,e=>e
def uN(hn:∀v,o=some i->s=.mu v->False):(eY o s e)[i]?=e[i]?:=by
 unfold eY
 split
 ·rename_i i' v
  split
  ·rename_i t q
   by_cases z:i=i'
   ·subst z;exact (hn v rfl rfl).elim
   ·rw[bG z]
  ·rfl
 ·rfl
theorem mM:∀{sub:Rg}{e2 e:E3}{i:Nat},(∀(j:Nat) v,sub[j]?=some (some i)->e2[j]?=some (.mu v)->False)->(a9 sub e2 e)[i]?=e[i]?
 | [],_,_,_,_=>rfl
 |_::_,[],_,_,_=>rfl
 |
  o::sub,s::e2,e,i,hn=>by
  show (a9 sub e2 (eY o s e))[i]?=_
  rw[mM (λj v q1 q2=>hn (j+1) v (by simpa using q1) (by simpa using q2))]
  exact uN λv z1 z2=>hn 0 v (by rw[z1];rfl) (by rw[z2];rfl)
theorem uC:∀{sub:Rg}{e2 e:E3}{i j:Nat}{v:Val},(∀(j k:Nat) i,sub[j]?=some (some i)->sub[k]?=some (some i)->j=k)->sub[j]?=some (some i)->e2[j]?=some (.mu v)->(a9 sub e2 e)[i]?=(e[i]?).map (Sl.re · v)
 | [],_,_,_,j,_,_,q,_=>by simp at q
 |_::_,[],_,_,j,_,_,_,q=>by simp at q
 |
  o::sub,s::e2,e,i,0,v,hj,q1,q2=>by
  have z1:o=some i:=by simpa using q1
  have z2:s=.mu v:=by simpa using q2
  subst z1 z2
  show (a9 sub e2 (eY (some i) (.mu v) e))[i]?=_
  rw[mM (λk u y1 _=>by have:=hj 0 (k+1) i rfl (by simpa using y1);omega)]
  unfold eY
  dsimp only
  split
  ·rename_i t q;rw[bM (r_.mp q).1,q];rfl
  ·rename_i q;rw[q];rfl
 |
  o::sub,s::e2,e,i,j+1,v,hj,q1,q2=>by
  show (a9 sub e2 (eY o s e))[i]?=_
  have q1':sub[j]?=some (some i):=by simpa using q1
  rw[uC (λa b c y1 y2=>by have:=hj (a+1) (b+1) c (by simpa using y1) (by simpa using y2);omega) q1' (by simpa using q2)]
  rw[uN λv z1 _=>by have:=hj 0 (j+1) i (by rw[z1];rfl) q1;omega]
def bP(sub:Rg)(ns:Ns):Ns:=sub.map λo=>o.bind λi=>(ns[i]?).bind id
def bT{sub:Rg}{ns:Ns}{j n:Nat}(q:(bP sub ns)[j]?=some (some n)):∃i,sub[j]?=some (some i)/\ns[i]?=some (some n):=by
 unfold bP at q
 rw[L_] at q
 cases z:sub[j]? with
 |none=>rw[z] at q;cases q
 |
  some o=>
  rw[z] at q
  cases o with
  |none=>cases q
  |
   some i=>
   refine⟨i,rfl,?_⟩
   have q':(ns[i]?).bind id=some n:=H_ q
   cases y:ns[i]? with
   |none=>rw[y] at q';cases q'
   |some w=>rw[y] at q';have:w=some n:=q';rw[this]
def Fg{sub:Rg}{ns:Ns}{j i:Nat}{w:Option Nat}(q:sub[j]?=some (some i))(q2:ns[i]?=some w):(bP sub ns)[j]?=some w:=by
 unfold bP
 rw[L_,q]
 show some ((ns[i]?).bind id)=some w
 rw[q2];rfl
structure Lnk(sub:Rg)(e ei:E3):Prop where
 inj:∀(j k:Nat) (i:Nat),sub[j]?=some (some i)->sub[k]?=some (some i)->j=k
 mu:∀(j:Nat) (v:Val),ei[j]?=some (.mu v)->∃(i:Nat) (s:Sl),sub[j]?=some (some i)/\e[i]?=some s/\s.mt=true
 mt:∀(j:Nat) (s:Sl),ei[j]?=some s->s.mt=true->∃v,s=.mu v
def Sat.back(S:Sat X h0 ns e ae h)(K:Lnk sub e ei)(a:Stp (bP sub ns) ei h h_ e2 h2)
 (hY:∀n,Y n->n<h2.length/\(X n\/h.length<=n)) (hXY:∀n,X n->Y n)
 (hc:∀(j:Nat) v n,e2[j]?=some (.mu v)->h_[j]?=some (some n)->∃o,h2[n]?=some o/\bL o/\Rc (Oc Y ns) h2 o v):Sat Y h0 ns (a9 sub e2 e) ae h2/\Stp ns e h ns (a9 sub e2 e) h2:=by
 have hM:∀n,Mt (bP sub ns) ei n->Mt ns e n:=λn ⟨j,s,z1,z2,z3⟩=>by
  obtain⟨v,rfl⟩:=K.mt j s z2 z3
  obtain⟨i,s',y1,y2,y3⟩:=K.mu j v z2
  obtain⟨i',y4,y5⟩:=bT z1
  rw[y1] at y4;cases y4
  exact⟨i,s',y5,y2,y3⟩
 have mv:Mov (Oc X ns) (Oc Y ns) h h2:=λn o p q=>⟨⟨λz=>by
  rcases (hY n z).2 with z |z
  ·exact p.1 z
  ·have:=cF q;omega,p.2⟩,a.keep n o q λz=>by
   obtain⟨j,s,z1,_⟩:=z
   obtain⟨i,_,y⟩:=bT z1
   exact p.2 (aU.mpr ⟨i,y⟩)⟩
 have key:∀i:Nat,(∃(j:Nat) (v:Val) (s:Sl),sub[j]?=some (some i)/\e2[j]?=some (.mu v)/\e[i]?=some s/\s.mt=true/\(a9 sub e2 e)[i]?=some (s.re v)/\h_[j]?=ns[i]?)\/((∀n,ns[i]?=some (some n)->¬ Mt (bP sub ns) ei n)/\(a9 sub e2 e)[i]?=e[i]?):=λi=>by
  by_cases hx:∃(j:Nat) (v:Val),sub[j]?=some (some i)/\e2[j]?=some (.mu v)
  ·obtain⟨j,v,q1,q2⟩:=hx
   obtain⟨u,q3,q4⟩:=a.mu j v q2
   obtain⟨i',s,y1,y2,y3⟩:=K.mu j u q3
   rw[q1] at y1;cases y1
   refine .inl ⟨j,v,s,q1,q2,y2,y3,by rw[uC K.inj q1 q2,y2];rfl,?_⟩
   rw[q4]
   have hl:i<ns.length:=by rw[S.l2];exact (r_.mp y2).1
   rw[x_ hl]
   exact Fg q1 (x_ hl)
  ·refine .inr ⟨λn q ⟨j,s,z1,z2,z3⟩=>hx ?_,mM λj v y1 y2=>hx ⟨j,v,y1,y2⟩⟩
   obtain⟨v,rfl⟩:=K.mt j s z2 z3
   obtain⟨i',y4,y5⟩:=bT z1
   have:i'=i:=S.inj i' i n y5 q
   subst this
   obtain⟨v',y6,_⟩:=a.mu' j v z2
   exact⟨j,v',y4,y6⟩
 have lenB:(a9 sub e2 e).length=e.length:=by
  clear key hc a K S hY hXY hM mv
  induction sub generalizing e2 e with
  |nil=>rfl
  |
   cons o sub ih=>
   cases e2 with
   |nil=>rfl
   |
    cons s e2=>
    show (a9 sub e2 (eY o s e)).length=_
    rw[ih]
    unfold eY
    split
    ·split
     ·rw[Oo]
     ·rfl
    ·rfl
 refine⟨⟨by rw[lenB];exact S.l1,by rw[lenB];exact S.l2,E_ S.lh a.len,λn z=>(hY n z).1,S.inj,λi n q z=>?_,λi s q=>?_⟩,⟨a.len,λm o q hm=>a.keep m o q λz=>hm (hM m z),λ_ _ q=>.inl q,λi s q hl=>?_,λi s q hl=>?_,λi v q=>?_,λi v q=>?_⟩⟩
 ·rcases (hY n z).2 with z |z
  ·exact S.nx i n q z
  ·obtain⟨_,_,_,_,_,_,_,q',_⟩:=S.own q
   have:=cF q';omega
 ·rcases key i with ⟨j,v,s0,k1,k2,k3,k4,k5,k6⟩ |⟨k1,k2⟩
  ·rw[k5] at q;cases q
   have y:=S.sl i s0 k3
   cases s0 with
   |
    ow u=>
    obtain⟨n,o,y1,y2,y3,_⟩:=y
    obtain⟨o',z1,z2,z3⟩:=hc j v n k2 (by rw[k6];exact y1)
    exact⟨n,o',y1,y2,y3,z1,z2,z3⟩
   |
    mu u=>
    obtain⟨n,o,y1,y2,_⟩:=y
    obtain⟨o',z1,z2,z3⟩:=hc j v n k2 (by rw[k6];exact y1)
    exact⟨n,o',y1,y2,z1,z2,z3⟩
   |_=>cases k4
  ·rw[k2] at q
   exact (S.sl i s q).mono mv λn o q1 q2=>a.keep n o q2 (k1 n q1)
 ·rcases key i with ⟨j,v,s0,k1,k2,k3,k4,k5,k6⟩ |⟨k1,k2⟩
  ·rw[k3] at q;cases q;cases s <;> first |cases hl;done |cases k4;done
  ·rw[k2];exact⟨q,rfl⟩
 ·rcases key i with ⟨j,v,s0,k1,k2,k3,k4,k5,k6⟩ |⟨k1,k2⟩
  ·rw[k5] at q;cases q;cases s0 <;> first |cases hl;done |cases k4;done
  ·rw[k2] at q;exact⟨q,rfl⟩
 ·rcases key i with ⟨j,u,s0,k1,k2,k3,k4,k5,k6⟩ |⟨k1,k2⟩
  ·rw[k5] at q
   cases s0 with
   |mu w=>exact⟨w,k3,rfl⟩
   |ow w=>cases q
   |_=>cases k4
  ·rw[k2] at q;exact⟨v,q,rfl⟩
 ·rcases key i with ⟨j,u,s0,k1,k2,k3,k4,k5,k6⟩ |⟨k1,k2⟩
  ·rw[k3] at q;cases q;exact⟨u,k5,rfl⟩
  ·exact⟨v,by rw[k2];exact q,rfl⟩
noncomputable def inS:Sl->Sl
 |.ow v=>.mu v
 |.lo v=>.lm v
 |s=>s
def bZ(sub:Rg)(e:E3):E3:=sub.map λo=>match o with
 |none=>.no
 |some i=>match e[i]? with
  |some s=>inS s
  |none=>.no
noncomputable def lcV(g:MG3)(c:MT3)(F:ME3):List Val->List Val->E3->R3 (List Val)
 | [],acc,e=>.ok acc e
 |v::vs,acc,e=>if acc.length<16777216 then (match g v e with
  |none=>.stuck
  |some e1=>(c e1).bind λb e2=>if b=true then (F e2).bind λt e3=>(match b8 e3 t with
   |some (e4,y)=>lcV g c F vs (acc++[y]) e4
   |none=>.stuck) else lcV g c F vs acc e2) else .stuck
noncomputable def vLC(I:MI3)(sub:Rg)(g:MG3)(c:MT3)(F:ME3):ME3:=λe=>(I e).bind λp e1=>match lcV g c F p.1 [] (bZ sub (lockO e1 p.2)) with
 |.ok ys e2=>if ys.length<=16777216 then .ok (.new (.lst ys)) (eG (a9 sub e2 (lockO e1 p.2)) p.2) else .stuck
 |_=>.stuck
def lG(sub:Rg):Prop:=∀(j k:Nat) (i:Nat),sub[j]?=some (some i)->sub[k]?=some (some i)->j=k
def y9(h:(sub.filterMap id).Nodup):lG sub:=by
 induction sub with
 |nil=>intro j k i q;simp at q
 |
  cons o sub ih=>
  have f_:(sub.filterMap id).Nodup:=by
   cases o with
   |none=>simpa using h
   |some i=>rw[Pg] at h;simp at h;exact h.2
  have hno:∀(i k:Nat),o=some i->sub[k]?=some (some i)->False:=λi k z q=>by
   subst z
   rw[Pg] at h
   simp at h
   exact h.1 (Pe q)
  intro j k i q1 q2
  cases j with
  |
   zero=>
   cases k with
   |zero=>rfl
   |succ k=>exact (hno i k (by simpa using q1) (by simpa using q2)).elim
  |
   succ j=>
   cases k with
   |zero=>exact (hno i j (by simpa using q2) (by simpa using q1)).elim
   |succ k=>exact OO (· + 1) (ih f_ j k i (by simpa using q1) (by simpa using q2))
def Xin(X:Nat->Prop)(ns:Ns)(sub:Rg)(n:Nat):Prop:=X n\/(some n∈ns/\some n∉bP sub ns)
def kW(q:some n∈bP sub ns):some n∈ns:=by
 obtain⟨j,q⟩:=aU.mp q
 obtain⟨i,_,q2⟩:=bT q
 exact aU.mpr ⟨i,q2⟩
def jd{sub:Rg}{e:E3}{j:Nat}{s:Sl}(q:(bZ sub e)[j]?=some s):(sub[j]?=some none/\s=.no)\/(∃i,sub[j]?=some (some i)/\((e[i]?=none/\s=.no)\/∃t,e[i]?=some t/\s=inS t)):=by
 unfold bZ at q
 rw[L_] at q
 cases z:sub[j]? with
 |none=>rw[z] at q;cases q
 |
  some o=>
  rw[z] at q
  cases o with
  |none=>cases q;exact .inl ⟨rfl,rfl⟩
  |
   some i=>
   refine .inr ⟨i,rfl,?_⟩
   have q':=H_ q
   dsimp only at q'
   cases y:e[i]? with
   |none=>rw[y] at q';exact .inl ⟨rfl,q'.symm⟩
   |some t=>rw[y] at q';exact .inr ⟨t,rfl,q'.symm⟩
def Sat.inner(S:Sat X h0 ns e ae h)(hs:lG sub):Sat (Xin X ns sub) h0 (bP sub ns) (bZ sub e) (iI sub ae) h:=by
 refine⟨by unfold iI bZ;rw[l_,l_],by unfold bP bZ;rw[l_,l_],S.lh,λn z=>?_,λj k n q1 q2=>?_,λj n q z=>?_,λj s q=>?_⟩
 ·rcases z with z |⟨z,_⟩
  ·exact S.xl n z
  ·obtain⟨i,z⟩:=aU.mp z
   obtain⟨_,_,_,_,_,_,_,q',_⟩:=S.own z
   exact cF q'
 ·obtain⟨i,y1,y2⟩:=bT q1
  obtain⟨i',y3,y4⟩:=bT q2
  have:=S.inj i i' n y2 y4
  subst this
  exact hs j k i y1 y3
 ·rcases z with z |⟨_,z⟩
  ·obtain⟨i,y1,y2⟩:=bT q
   exact S.nx i n y2 z
  ·exact z (aU.mpr ⟨j,q⟩)
 ·have mv:Mov (Oc X ns) (Oc (Xin X ns sub) (bP sub ns)) h h:=λn o p q=>⟨⟨λz=>by
   rcases z with z |⟨z,_⟩
   ·exact p.1 z
   ·exact p.2 z,λz=>p.2 (kW z)⟩,q⟩
  have hj:∀{o},sub[j]?=some o->(bP sub ns)[j]?=some (o.bind λi=>(ns[i]?).bind id)/\(iI sub ae)[j]?=some (o.bind λi=>(ae[i]?).bind id):=λ{o} z=>by
   unfold bP iI
   rw[L_,L_,z]
   exact⟨rfl,rfl⟩
  rcases jd q with ⟨z,rfl⟩ |⟨i,z,⟨y,rfl⟩ |⟨t,y,rfl⟩⟩
  ·rw[(hj z).1];rfl
  ·rw[(hj z).1]
   show some ((ns[i]?).bind id)=some none
   have:ns[i]?=none:=by
    rw[Pc] at y ⊢
    rw[S.l2];exact y
   rw[this];rfl
  ·have k:=(S.sl i t y).mono mv λ_ _ _ q=>q
   rw[(hj z).1,(hj z).2]
   show SlR _ h0 (some ((ns[i]?).bind id)) (some ((ae[i]?).bind id)) h (inS t)
   have w1:∀x,ns[i]?=some x->some ((ns[i]?).bind id)=some x:=λx q=>by rw[q];rfl
   have w2:∀x,ae[i]?=some x->some ((ae[i]?).bind id)=some x:=λx q=>by rw[q];rfl
   cases t with
   |no=>rw[w1 _ k];rfl
   |sh v=>obtain⟨k1,x,k2,k3⟩:=k;rw[w1 _ k1,w2 _ k2];exact⟨rfl,x,rfl,k3⟩
   |ow v=>obtain⟨m,o,k1,k2,_,k3⟩:=k;rw[w1 _ k1,w2 _ k2];exact⟨m,o,rfl,rfl,k3⟩
   |lo v=>obtain⟨m,o,k1,k2,_,k3⟩:=k;rw[w1 _ k1,w2 _ k2];exact⟨m,o,rfl,rfl,k3⟩
   |mu v=>obtain⟨m,o,k1,k2,k3⟩:=k;rw[w1 _ k1,w2 _ k2];exact⟨m,o,rfl,rfl,k3⟩
   |lm v=>obtain⟨m,o,k1,k2,k3⟩:=k;rw[w1 _ k1,w2 _ k2];exact⟨m,o,rfl,rfl,k3⟩
def uz(hs:lG sub):Lnk sub e (bZ sub e):=by
 refine⟨hs,λj v q=>?_,λj s q hm=>?_⟩
 ·rcases jd q with ⟨_,z⟩ |⟨i,z,⟨_,y⟩ |⟨t,y,y2⟩⟩
  ·cases z
  ·cases y
  ·refine⟨i,t,z,y,?_⟩
   cases t <;> first |rfl |cases y2
 ·rcases jd q with ⟨_,z⟩ |⟨i,z,⟨_,y⟩ |⟨t,y,y2⟩⟩
  ·subst z;cases hm
  ·subst y;cases hm
  ·subst y2
   cases t with
   |ow v=>exact⟨v,rfl⟩
   |mu v=>exact⟨v,rfl⟩
   |_=>cases hm
section
variable{I:MI}{I3:MI3}{g:MG}{g3:MG3}{c:MT}{c3:MT3}{F:ME}{F3:ME3}
def HP(S:Sat X h0 ns e ae h)(hg:RG g g3)(hc:RT c c3)(hF:RE F F3)(hG:∀ns' e' h',Stp ns e h ns' e' h'->G h'):
 ∀
  {ds:List D}{vs:List Val},Rds (Oc X ns) h ds vs->∀{acc:List D}{accv:List Val}{ns1:Ns}{e1:E3}{g_:AE}{h1:AH},Stp ns e h ns1 e1 h1->Sat X h0 ns1 e1 g_ h1->Rds (Oc X ns1) h1 acc accv->lcV g3 c3 F3 vs accv e1=.ok ys e2->
  ∃dy h2 h_ ae2,lcL G g c F ds acc g_ h1=.ok dy h2/\Stp ns e h h_ e2 h2/\Sat X h0 h_ e2 ae2 h2/\Rds (Oc X h_) h2 dy ys:=by
 intro ds
 induction ds with
 |
  nil=>
  intro vs r acc accv ns1 e1 g_ h1 a1 S1 ra q
  cases r
  unfold lcL
  rw[if_pos (hG _ _ _ a1)]
  cases q
  exact⟨acc,h1,ns1,g_,rfl,a1,S1,ra⟩
 |
  cons d0 ds ih=>
  intro vs r acc accv ns1 e1 g_ h1 a1 S1 ra q
  cases r with
  |
   cons r rr=>
   rename_i v vs
   unfold lcV at q
   unfold lcL
   by_cases hl:accv.length<16777216
   ·rw[if_pos hl] at q
    rw[if_pos ⟨hG _ _ _ a1,by rw[ra.len];exact hl⟩]
    cases q1:g3 v e1 with
    |none=>rw[q1] at q;cases q
    |
     some e3=>
     rw[q1] at q
     dsimp only at q
     obtain⟨ae3,ns3,p3,S3,a3⟩:=hg _ _ _ _ _ _ _ _ _ S1 (r.mono (a1.mov S)) q1
     rw[p3,fh]
     have a13:=a1.trans S a3
     have pc:=hc X h0 ns3 e3 ae3 h1 S3
     cases q4:c3 e3 with
     |stuck=>rw[q4] at q;cases q
     |exc _ _=>rw[q4] at q;cases q
     |
      ok b e4=>
      rw[q4] at q pc
      obtain⟨b',h4,ns4,p4,a4,S4,rfl⟩:=pc
      rw[p4,fh]
      have a14:=a13.trans S a4
      have ra4:=(ra.mono (a3.mov S1)).mono (a4.mov S3)
      have q':(if b'=true then (F3 e4).bind λt e3=>(match b8 e3 t with
       |some (e4,y)=>lcV g3 c3 F3 _ (accv++[y]) e4
       |none=>.stuck) else lcV g3 c3 F3 _ accv e4)=.ok ys e2:=q
      by_cases hb:b'=true
      ·rw[if_pos hb] at q' ⊢
       have pF:=hF X h0 0 ns4 e4 ae3 h4 S4 (N_ _)
       cases q5:F3 e4 with
       |stuck=>rw[q5] at q';cases q'
       |exc _ _=>rw[q5] at q';cases q'
       |
        ok t e5=>
        rw[q5] at q' pF
        obtain⟨d5,h5,ns5,p5,a5,S5,r5⟩:=pF
        rw[p5,fh]
        have q'':(match b8 e5 t with
         |some (e4,y)=>lcV g3 c3 F3 _ (accv++[y]) e4
         |none=>.stuck)=.ok ys e2:=q'
        cases q6:b8 e5 t with
        |none=>rw[q6] at q'';cases q''
        |
         some w=>
         obtain⟨e6,y⟩:=w
         rw[q6] at q''
         obtain⟨ns6,S6,a6,r6⟩:=eZ S5 r5 q6
         exact ih rr ((a14.trans S a5).trans S a6) S6 (((ra4.mono (a5.mov S4)).mono (a6.mov S5)).append (.cons r6 .nil)) q''
      ·rw[if_neg hb] at q' ⊢
       exact ih rr a14 S4 ra4 q'
   ·rw[if_neg hl] at q;cases q
def Mi(hs:(sub.filterMap id).Nodup)(hI:RI I I3)(hg:RG g g3)(hc:RT c c3)(hF:RE F F3):RE (eLC I sub g c F) (vLC I3 sub g3 c3 F3):=λX h0 L ns e ae h S hl=>
 Po.bind
  S (hI X h0 ns e ae h S) λit p h1 ns1 e1 a1 S1 r1=>by
  try dsimp only
  obtain⟨r2,gd,hk⟩:=r1
  have hs':=y9 hs
  have S2:=S1.lockO p.2
  have S3:=S2.inner hs'
  cases q:lcV g3 c3 F3 p.1 [] (bZ sub (lockO e1 p.2)) with
  |stuck=>trivial
  |exc _ _=>trivial
  |
   ok ys e2=>
   dsimp only
   split
   ·rename_i hy
    have gd':∀ns' e' h',Stp (bP sub ns1) (bZ sub (lockO e1 p.2)) h1 ns' e' h'->it.guard h':=λns' e' h' a=>gd h' λm o qm hm=>a.keep m o qm λ⟨j,s,z1,z2,z3⟩=>by
     obtain⟨i,y1,y2⟩:=bT z1
     rcases hm with hm |⟨k,hk1,hk2⟩
     ·exact hm.2 (aU.mpr ⟨i,y2⟩)
     ·have:i=k:=S1.inj i k m y2 hk2
      subst this
      obtain⟨s',w1,w2⟩:=hk i hk1
      rcases jd z2 with ⟨z,_⟩ |⟨i',z,y⟩
      ·rw[y1] at z;cases z
      ·rw[y1] at z;cases z
       have hl:(lockO e1 p.2)[i]?=some (iL s'):=by rw[hk1];exact m6 w1
       rcases y with ⟨y,_⟩ |⟨t,y,rfl⟩
       ·rw[hl] at y;cases y
       ·rw[hl] at y;cases y
        cases s' <;> first |cases w2;done |cases z3;done
    have mvi:Mov (Oc X ns1) (Oc (Xin X ns1 sub) (bP sub ns1)) h1 h1:=λn o p q=>⟨⟨λz=>by
     rcases z with z |⟨z,_⟩
     ·exact p.1 z
     ·exact p.2 z,λz=>p.2 (kW z)⟩,q⟩
    obtain⟨dy,h2,h_,ae2,p2,a2,S4,r4⟩:=HP (G:=it.guard) S3 hg hc hF gd' (r2.mono mvi) .refl S3 .nil q
    have k3:∀n,Oc (Xin X ns1 sub) h_ n->Oc X ns1 n:=λn z=>⟨λy=>z.1 (.inl y),λy=>by
     by_cases w:some n∈bP sub ns1
     ·obtain⟨j,w⟩:=aU.mp w
      obtain⟨s,v,o,b1,b2,_⟩:=S3.own w
      rcases b2 with b2 |b2
      ·obtain⟨v',rfl⟩:=(uz (e:=lockO e1 p.2) hs').mt j s b1 b2
       obtain⟨u,c1,c2⟩:=a2.mu' j v' b1
       exact z.2 (aU.mpr ⟨j,by rw[c2];exact w⟩)
      ·obtain⟨c1,c2⟩:=a2.lk j s b1 b2
       exact z.2 (aU.mpr ⟨j,by rw[c2];exact w⟩)
     ·exact z.1 (.inr ⟨y,w⟩)⟩
    have bk:=S2.back (Y:=X) (uz hs') a2 (λn z=>⟨F_ (S2.xl n z) a2.len,.inl z⟩) (λ_ z=>z) λj v n q1 q2=>by
     obtain⟨s,u,o,b1,b2,b3,b4,b5,b6,b7⟩:=S4.own q2
     rw[q1] at b1;cases b1
     cases b3
     exact⟨o,b5,b6,b7.mono λm o' z y=>⟨k3 m z,y⟩⟩
    obtain⟨S5,a5⟩:=bk
    have r5:Rds (Oc X ns1) h2 dy ys:=r4.mono λm o' z y=>⟨k3 m z,y⟩
    have ii:∀(e':E3),Sat X h0 ns1 e' ae h2->Stp ns1 e1 h1 ns1 e' h2->Po X h0 ns1 e1 ae h1 (relE X h0 L ae) ((noX (lcL it.guard g c F it.items [] (iI sub ae) h1)).bind c8) (.ok (.new (.lst ys)) e'):=λe' S6 a6=>by
     rw[p2]
     have pp:=BvR.po (L:=L) (r:=c8 dy h2) (b:=.new (.lst ys)) S6 (E_ hl (E_ a1.len a6.len)) ⟨.lst dy,by unfold c8;rw[if_pos (by rw[r5.len];exact hy)],trivial,.lst r5⟩
     obtain⟨d,h',ns',y,y1,y2,y3⟩:=pp
     exact⟨d,h',ns',y,a6.trans S1 y1,y2,y3⟩
    cases hp:p.2 with
    |
     none=>
     rw[hp] at S5 a5
     exact ii _ S5 a5
    |
     some k=>
     rw[hp] at S5 a5
     obtain⟨s,w1,w2⟩:=hk k hp
     exact ii _ (S5.unlock k) (a5.unlock w1 w2)
   ·trivial
end
inductive R3F where
 |ok (r:Rt) (mv:List Val) |exc (c:Str) (mv:List Val) |stuck
abbrev Fn3:=List Val->R3F
def sl1(b:Bool)(v:Val):Sl:=if b=true then .mu v else .sh v
def sls(ms:List Bool)(vs:List Val):E3:=List.zipWith sl1 ms vs
noncomputable def aC:List Bool->List Val->E3
 |true::ms,v::vs=>.mu v::aC ms vs
 |true::ms,[]=>.no::aC ms []
 |false::ms,vs=>.no::aC ms vs
 | [],_=>[]
noncomputable def muV:List Bool->E3->Option (List Val)
 |true::ms,.mu v::e=>(muV ms e).map (v :: ·)
 |true::_,_=>none
 |false::ms,_::e=>muV ms e
 |false::_,[]=>none
 | [],_=>some []
def RFp(X:Nat->Prop)(ps:Ns)(ms:List Bool)(vs:List Val)(ds:List D)(h:AH)(r2:R D):R3F->Prop
 |.stuck=>True
 |.ok r mv=>∃d h',r2=.ok d h'/\Stp ps (sls ms vs) h ps (aC ms mv) h'/\RtR X h.length ps (aC ms mv) (ds.map some) h' d r
 |.exc c mv=>∃h',r2=.exc c h'/\Stp ps (sls ms vs) h ps (aC ms mv) h'/\Sat X h.length ps (aC ms mv) (ds.map some) h'
def RF(ms:List Bool)(G2:Fn)(G3:Fn3):Prop:=∀X ps ds vs h,vs.length=ms.length->Sat X h.length ps (sls ms vs) (ds.map some) h->RFp X ps ms vs ds h (G2 ds h) (G3 vs)
noncomputable def fnV(ms:List Bool)(N:Nat)(F:MS3):Fn3:=λvs=>if vs.length=ms.length then (match F (sls ms vs++List.replicate (N-vs.length) .no) with
 |.nx e=>(match muV ms e with |some mv=>.ok (.val .non) mv |none=>.stuck)
 |.rt r e=>(match muV ms e with |some mv=>.ok r mv |none=>.stuck)
 |.exc c e=>(match muV ms e with |some mv=>.exc c mv |none=>.stuck)
 |_=>.stuck) else .stuck
def eE{ms:List Bool}{vs:List Val}{i:Nat}{s:Sl}(q:(sls ms vs)[i]?=some s):∃b v,ms[i]?=some b/\vs[i]?=some v/\s=sl1 b v:=by
 unfold sls at q
 rw[Pu] at q
 cases h1:ms[i]? with
 |none=>rw[h1] at q;cases q
 |
  some b=>
  cases h2:vs[i]? with
  |none=>rw[h1,h2] at q;cases q
  |some v=>rw[h1,h2] at q;cases q;exact⟨b,v,rfl,rfl,rfl⟩
theorem gq:∀{ms:List Bool}{e:E3}{mv:List Val}{i:Nat}{s:Sl},muV ms e=some mv->(aC ms mv)[i]?=some s->(ms[i]?=some false/\s=.no)\/(ms[i]?=some true/\∃v,e[i]?=some (.mu v)/\s=.mu v)
 | [],_,_,_,_,_,q=>by unfold aC at q;simp at q
 |
  true::ms,.mu v::e,mv,i,s,q,q2=>by
  obtain⟨mv',z1,z2⟩:=G_.mp (show (muV ms e).map (v :: ·)=some mv from q)
  subst z2
  cases i with
  |zero=>
   right;have:Sl.mu v=s:=by simpa [aC] using q2
   subst this;exact⟨rfl,v,rfl,rfl⟩
  |
   succ i=>
   have:=gq (i:=i) (s:=s) z1 (by simpa [aC] using q2)
   simpa using this
 |true::ms,[],mv,i,s,q,q2=>by cases q
 |true::ms,.no::e,mv,i,s,q,q2=>by cases q
 |true::ms,.sh v::e,mv,i,s,q,q2=>by cases q
 |true::ms,.ow v::e,mv,i,s,q,q2=>by cases q
 |true::ms,.lo v::e,mv,i,s,q,q2=>by cases q
 |true::ms,.lm v::e,mv,i,s,q,q2=>by cases q
 |false::ms,[],mv,i,s,q,q2=>by cases q
 |
  false::ms,t::e,mv,i,s,q,q2=>by
  cases i with
  |zero=>
   left;have:Sl.no=s:=by simpa [aC] using q2
   exact⟨rfl,this.symm⟩
  |
   succ i=>
   have:=gq (i:=i) (s:=s) (show muV ms e=some mv from q) (by simpa [aC] using q2)
   simpa using this
theorem nG:∀{ms:List Bool}{e:E3}{mv:List Val}{i:Nat},muV ms e=some mv->ms[i]?=some true->∃v,e[i]?=some (.mu v)/\(aC ms mv)[i]?=some (.mu v)
 | [],_,_,i,_,q=>by simp at q
 |
  true::ms,.mu v::e,mv,i,q,q2=>by
  obtain⟨mv',z1,z2⟩:=G_.mp (show (muV ms e).map (v :: ·)=some mv from q)
  subst z2
  cases i with
  |zero=>exact⟨v,rfl,rfl⟩
  |
   succ i=>
   obtain⟨u,y1,y2⟩:=nG (i:=i) z1 (by simpa using q2)
   exact⟨u,by simpa using y1,by simpa [aC] using y2⟩
 |true::ms,[],mv,i,q,q2=>by cases q
 |true::ms,.no::e,mv,i,q,q2=>by cases q
 |true::ms,.sh v::e,mv,i,q,q2=>by cases q
 |true::ms,.ow v::e,mv,i,q,q2=>by cases q
 |true::ms,.lo v::e,mv,i,q,q2=>by cases q
 |true::ms,.lm v::e,mv,i,q,q2=>by cases q
 |false::ms,[],mv,i,q,q2=>by cases q
 |
  false::ms,t::e,mv,i,q,q2=>by
  cases i with
  |zero=>simp at q2
  |
   succ i=>
   obtain⟨u,y1,y2⟩:=nG (i:=i) (show muV ms e=some mv from q) (by simpa using q2)
   exact⟨u,by simpa using y1,by simpa [aC] using y2⟩
theorem gh:∀{ms:List Bool}{mv:List Val},(aC ms mv).length=ms.length
 | [],_=>rfl
 |true::ms,v::mv=>by show (aC ms mv).length+1=ms.length+1;rw[gh]
 |true::ms,[]=>by show (aC ms []).length+1=ms.length+1;rw[gh]
 |false::ms,mv=>by show (aC ms mv).length+1=ms.length+1;rw[gh]
def Dn(hF:RS F F3):RF ms (fnD N F) (fnV ms N F3):=λX ps ds vs h hl S=>by
 unfold fnV
 rw[if_pos hl]
 have lS:(sls ms vs).length=vs.length:=by unfold sls;rw[PK];omega
 have lD:ds.length=vs.length:=by have:=S.l1;rw[l_,lS] at this;exact this
 have lP:ps.length=vs.length:=S.l2.trans lS
 have ltS:∀{i:Nat},i<ms.length->i<(sls ms vs).length:=λh=>by omega
 have ltP:∀{i:Nat},i<(sls ms vs).length->i<ps.length:=λh=>S.l2.symm ▸ h
 have S1
  : Sat X h.length (ps++List.replicate (N-vs.length) none) (sls ms vs++List.replicate (N-vs.length) .no) (ds.map some++List.replicate (N-vs.length) none) h:=by
  have mns:∀n,some n∈ps++List.replicate (N-vs.length) (none:Option Nat) ↔ some n∈ps:=λn=>by
   rw[Pw]
   constructor
   ·rintro (z |z)
    ·exact z
    ·have:=List.eq_of_mem_replicate z;cases this
   ·exact .inl
  have gns:∀{i n:Nat},(ps++List.replicate (N-vs.length) (none:Option Nat))[i]?=some (some n)->ps[i]?=some (some n):=λ{i n} q=>by
   rw[QF] at q
   split at q
   ·exact q
   ·rw[OS] at q;split at q <;> cases q
  refine⟨?_,?_,S.lh,S.xl,λi j n q1 q2=>S.inj i j n (gns q1) (gns q2),λi n q=>S.nx i n (gns q),λi s q=>?_⟩
  ·rw[z_,z_,OZ,OZ,S.l1]
  ·rw[z_,z_,OZ,OZ,S.l2]
  ·rw[QF] at q
   split at q
   ·rename_i hi
    have k:=S.sl i s q
    rw[M_ (ltP hi),M_ (by rw[S.l1];exact hi)]
    exact k.mono (λn o p q=>⟨⟨p.1,λz=>p.2 ((mns n).mp z)⟩,q⟩) λ_ _ _ q=>q
   ·rename_i hi
    rw[OS] at q
    split at q
    ·cases q
     rw[Oq (by rw[S.l2];exact Nat.le_of_not_lt hi),OS,if_pos (by rw[S.l2];assumption)]
     rfl
    ·cases q
 have p:=hF _ _ _ _ _ _ S1
 have e2:fnD N F ds h=match F (ds.map some++List.replicate (N-vs.length) none) h with
  |.nx _ h'=>.ok .non h'
  |.rt d h'=>.ok d h'
  |.exc c _ h'=>.exc c h'
  |_=>.stuck:=by rw[<- lD];rfl
 rw[e2]
 have ii:∀(Y:Nat->Prop) (ns':Ns) (e':E3) (bn:AE) (h':AH) (mv:List Val),(∀n,X n->Y n)->Stp (ps++List.replicate (N-vs.length) none) (sls ms vs++List.replicate (N-vs.length) .no) h ns' e' h'->Sat Y h.length ns' e' bn h'->muV ms e'=some mv->
  Stp ps (sls ms vs) h ps (aC ms mv) h'/\Sat Y h.length ps (aC ms mv) (ds.map some) h'/\∀n,Oc Y ns' n->Oc Y ps n:=by
  intro Y ns' e' bn h' mv hXY a S2 qm
  have kmu:∀{i:Nat},ms[i]?=some true->∃v u n o,e'[i]?=some (.mu v)/\(aC ms mv)[i]?=some (.mu v)/\(sls ms vs)[i]?=some (.mu u)/\ns'[i]?=ps[i]?/\ps[i]?=some (some n)/\(ds.map some)[i]?=some (some (.ref n))/\h'[n]?=some o/\bL o/\Rc (Oc Y ns') h' o v:=by
   intro i hi
   obtain⟨v,y1,y2⟩:=nG qm hi
   have hil:i<ms.length:=(r_.mp hi).1
   obtain⟨u,y3,y4⟩:=a.mu i v y1
   rw[M_ (ltS hil)] at y3
   rw[M_ (ltP (ltS hil))] at y4
   obtain⟨n,o,z1,z2,_⟩:=S.sl i _ y3
   obtain⟨n',o',w1,w2,w3,w4,w5⟩:=S2.sl i _ y1
   rw[y4,z1] at w1;cases w1
   exact⟨v,u,n,o',y1,y2,y3,y4,z1,z2,w3,w4,w5⟩
  have kown:∀{i n:Nat},ps[i]?=some (some n)->ms[i]?=some true:=λ{i n} q=>by
   obtain⟨s,v,o,z1,z2,_⟩:=S.own q
   obtain⟨b,u,y1,_,y2⟩:=eE z1
   cases b with
   |true=>exact y1
   |false=>subst y2;rcases z2 with z2 |z2 <;> cases z2
  have koc:∀n,Oc Y ns' n->Oc Y ps n:=λn z=>⟨z.1,λy=>by
   obtain⟨i,y⟩:=aU.mp y
   obtain⟨v,u,n',o,_,_,_,k1,k2,_⟩:=kmu (kown y)
   exact z.2 (aU.mpr ⟨i,by rw[k1];exact y⟩)⟩
  refine⟨⟨a.len,λm o q hm=>a.keep m o q λ⟨i,s,z1,z2,z3⟩=>hm ?_,λ_ _ q=>.inl q,λi s q hl'=>?_,λi s q hl'=>?_,λi v q=>?_,λi v q=>?_⟩,⟨?_,?_,E_ (o_ _) a.len,S2.xl,S.inj,λi n q z=>?_,λi s q=>?_⟩,koc⟩
  ·rw[QF] at z1
   split at z1
   ·rename_i hi
    rw[M_ (by rw[<- S.l2];exact hi)] at z2
    exact⟨i,s,z1,z2,z3⟩
   ·rw[OS] at z1;split at z1 <;> cases z1
  ·obtain⟨b,u,_,_,y⟩:=eE q
   subst y
   cases b <;> cases hl'
  ·rcases gq qm q with ⟨_,z⟩ |⟨_,v,_,z⟩ <;> subst z <;> cases hl'
  ·rcases gq qm q with ⟨_,z⟩ |⟨z,_⟩
   ·cases z
   ·obtain⟨v',u,n,o,_,_,k1,_⟩:=kmu z
    exact⟨u,k1,rfl⟩
  ·obtain⟨b,u,y1,_,y2⟩:=eE q
   cases b with
   |false=>cases y2
   |
    true=>
    obtain⟨v',u,n,o,_,k0,k1,_⟩:=kmu y1
    exact⟨v',k0,rfl⟩
  ·rw[l_,gh];omega
  ·rw[gh];omega
  ·obtain⟨v,u,n',o,_,_,_,k1,k2,_⟩:=kmu (kown q)
   exact S2.nx i n (by rw[k1];exact q) z
  ·rcases gq qm q with ⟨z,rfl⟩ |⟨z,v,z2,rfl⟩
   ·have hil:i<ms.length:=(r_.mp z).1
    have hi:i<(sls ms vs).length:=ltS hil
    obtain⟨b,u,y1,_,y2⟩:=eE (x_ hi)
    rw[z] at y1;cases y1
    have k:=S.sl i _ (x_ hi)
    rw[y2] at k
    exact k.1
   ·obtain⟨v',u,n,o,k0,_,_,k1,k2,k3,k4,k5,k6⟩:=kmu z
    rw[z2] at k0;cases k0
    exact⟨n,o,k2,k3,k4,k5,k6.mono λm o' y q=>⟨koc m y,q⟩⟩
 generalize F3 (sls ms vs++List.replicate (N-vs.length) .no)=r3 at *
 cases r3 with
 |stuck=>trivial
 |bk _=>trivial
 |ct _=>trivial
 |
  nx e'=>
  obtain⟨bn,h',ns',q,a,S2⟩:=p
  rw[q]
  dsimp only
  cases qm:muV ms e' with
  |none=>trivial
  |
   some mv=>
   obtain⟨a3,S3,koc⟩:=ii X ns' e' bn h' mv (λ_ z=>z) a S2 qm
   exact⟨.non,h',rfl,a3,S3,.non⟩
 |
  exc c e'=>
  obtain⟨bn,h',ns',q,a,S2⟩:=p
  rw[q]
  dsimp only
  cases qm:muV ms e' with
  |none=>trivial
  |
   some mv=>
   obtain⟨a3,S3,koc⟩:=ii X ns' e' bn h' mv (λ_ z=>z) a S2 qm
   exact⟨h',rfl,a3,S3⟩
 |
  rt r e'=>
  obtain⟨d,bn,h',ns',q,a,rr⟩:=p
  rw[q]
  dsimp only
  cases qm:muV ms e' with
  |none=>trivial
  |
   some mv=>
   cases r with
   |
    val v=>
    obtain⟨a3,S3,koc⟩:=ii X ns' e' bn h' mv (λ_ z=>z) a rr.1 qm
    exact⟨d,h',rfl,a3,S3,rr.2.mono λm o y q=>⟨koc m y,q⟩⟩
   |
    new v=>
    obtain⟨n,o,z1,z2,z3,z4,z5,z6,z7⟩:=rr
    obtain⟨a3,S3,koc⟩:=ii (Xn X n) ns' e' bn h' mv (λ_ z=>.inl z) a z6 qm
    exact⟨d,h',rfl,a3,n,o,z1,z2,z3,z4,z5,S3,z7.mono λm o y q=>⟨koc m y,q⟩⟩
   |
    par i=>
    obtain⟨R1,R2,v,R3⟩:=rr
    obtain⟨a3,S3,koc⟩:=ii X ns' e' bn h' mv (λ_ z=>z) a R1 qm
    obtain⟨u,k1,k2⟩:=a.mu i v R3
    have hi:i<(sls ms vs).length:=by
     apply Decidable.byContradiction
     intro hi
     rw[Oq (Nat.le_of_not_lt hi),OS] at k1
     split at k1 <;> cases k1
    rw[M_ hi] at k1
    rw[M_ (by rw[S.l2];exact hi)] at k2
    obtain⟨m,o,w1,w2,_⟩:=S.sl i _ k1
    obtain⟨m',o',x1,x2,_⟩:=R1.sl i _ R3
    rw[k2,w1] at x1;cases x1
    rw[R2] at x2;cases x2
    obtain⟨v',y,_⟩:=a3.mu' i u k1
    exact⟨_,h',rfl,a3,S3,w2,v',y⟩
noncomputable def gM(i:Nat):List Tm->Bool
 |.bor j::ts=>(i==j) || gM i ts
 |_::ts=>gM i ts
 | []=>false
noncomputable def mY(i:Nat):List Bool->List Tm->Bool
 |true::ms,.bor j::ts=>(i==j) || mY i ms ts
 |_::ms,_::ts=>mY i ms ts
 |_,_=>false
noncomputable def okA(e:E3):List Bool->List Tm->Bool
 |true::ms,.bor i::ts=>((e[i]?).bind Sl.mv).isSome && !(gM i ts)&&okA e ms ts
 |true::_,_::_=>false
 |false::ms,.bor i::ts=>!(mY i ms ts)&&okA e ms ts
 |false::ms,_::ts=>okA e ms ts
 | [],[]=>true
 |_,_=>false
noncomputable def nj(b:Bool)(t:Tm):Option Nat:=match b,t with
 |true,.bor i=>some i
 |_,_=>none
def bO(ms:List Bool)(ts:List Tm):List (Option Nat):=List.zipWith nj ms ts
noncomputable def aS(e:E3):List Bool->List Tm->List Nat
 |false::ms,.bor i::ts=>(match e[i]? with
  |some (.sh _)=>aS e ms ts
  |_=>i::aS e ms ts)
 |_::ms,_::ts=>aS e ms ts
 |_,_=>[]
mutual
def aW:Val->Bool
 |.tup xs=>cH xs
 |.lst _=>false
 |.kl _=>false
 |.dct _=>false
 |.set _=>false
 |_=>true
def cH:List Val->Bool
 | []=>true
 |v::vs=>aW v&&cH vs
end
def lQ:List (Key×Val)->Bool
 | []=>true
 |(_,v)::vs=>aW v&&lQ vs
def cK:Val->Bool
 |.lst xs=>cH xs
 |.dct xs=>lQ xs
 |.set _=>true
 |_=>false
def j9:Rt->Bool
 |.val v=>aW v
 |.new v=>cK v
 |.par _=>true
noncomputable def nC(e:E3):List Nat->Option E3
 | []=>some e
 |i::is=>match b8 e (.bor i) with
  |some (e1,_)=>nC e1 is
  |none=>none
def Rt.tm(ts:List Tm):Rt->Tm
 |.val v=>.val v
 |.new v=>.new v
 |.par i=>(ts[i]?).getD (.val .non)
noncomputable def o1(ms:List Bool)(G:Fn3)(A:MA3):ME3:=λe=>(A e).bind λts e1=>match rss e1 ts with
 |none=>.stuck
 |some vs=>if okA e1 ms ts=true then (match G vs with
  |.stuck=>.stuck
  |.ok r mv=>if (aS e1 ms ts).isEmpty || (j9 r&&mv.all cK) then .ok (r.tm ts) (a9 (bO ms ts) (aC ms mv) e1) else (match nC e1 (aS e1 ms ts) with
   |some e2=>.ok (r.tm ts) (a9 (bO ms ts) (aC ms mv) e2)
   |none=>.stuck)
  |.exc c mv=>if (aS e1 ms ts).isEmpty || mv.all cK then .exc c (a9 (bO ms ts) (aC ms mv) e1) else .stuck) else .stuck
section
variable{P P':Nat->Prop}{h h':AH}
def Rd.flat(f:aW v=true)(r:Rd P h d v):Rd P' h' d v:=
 @Rd.rec P h (λd v _=>aW v=true->Rd P' h' d v) (λo v _=>aW v=true->Rd P' h' .non v) (λds vs _=>cH vs=true->Rds P' h' ds vs) (λws us _=>True) (λ_=>.non) (λb _=>.bl b) (λi _=>.int i) (λx _=>.str x) (λn _=>.ty n) (λx _=>.glb x) (λx _=>.exc x) (λ_ ih f=>.tup (ih f)) (λ_ _ f=>absurd f y_) (λ_ _ r _ f=>by cases r <;> exact absurd f y_) (λ_ _ f=>absurd f y_) (λ_ _ f=>absurd f y_) (λ_ _ f=>absurd f y_) (λ_ f=>absurd f y_) (λ_=>.nil) (λ_ _ a b f=>.cons (a (s_ .. ▸ f).1) (b (s_ .. ▸ f).2)) trivial (λ_ _ _ _=>trivial) d v r f
def Rds.flat(f:cH v=true)(r:Rds P h d v):Rds P' h' d v:=
 r.ind (M:=λds vs=>cH vs=true->Rds P' h' ds vs) (λ_=>.nil) (λr _ ih f=>by
  rw[cH,s_] at f
  exact .cons (Rd.flat f.1 r) (ih f.2)) f
def Rk.flat(f:lQ v=true)(r:Rk P h d v):Rk P' h' d v:=
 r.ind (M:=λds vs=>lQ vs=true->Rk P' h' ds vs) (λ_=>.nil) (λr _ ih f=>by
  rw[lQ,s_] at f
  exact .cons (Rd.flat f.1 r) (ih f.2)) f
def Rc.flat(f:cK v=true)(r:Rc P h o v):Rc P' h' o v:=by
 cases r with
 |lst r=>exact .lst (Rds.flat (by simpa [cK] using f) r)
 |fz r=>simp [cK] at f
 |dct r=>exact .dct (Rk.flat (by simpa [cK] using f) r)
 |set xs=>exact .set xs
end
theorem nB:∀{ts:List Tm}{k:Nat},ts[k]?=some (.bor i)->gM i ts=true
 | [],_,q=>by simp at q
 |
  t::ts,0,q=>by
  have:t=.bor i:=by simpa using q
  subst this;simp [gM]
 |
  t::ts,k+1,q=>by
  have:=nB (ts:=ts) (k:=k) (by simpa using q)
  cases t <;> simp [gM,this]
theorem tP:∀{ms:List Bool}{ts:List Tm}{k:Nat},ms[k]?=some true->ts[k]?=some (.bor i)->mY i ms ts=true
 | [],_,_,q,_=>by simp at q
 |_::_,[],_,_,q=>by simp at q
 |
  b::ms,t::ts,0,q1,q=>by
  have:t=.bor i:=by simpa using q
  have:b=true:=by simpa using q1
  subst_vars;simp [mY]
 |
  b::ms,t::ts,k+1,q1,q=>by
  have:=tP (ms:=ms) (ts:=ts) (k:=k) (by simpa using q1) (by simpa using q)
  cases b <;> cases t <;> simp [mY,this]
theorem j7:∀{ms:List Bool}{ts:List Tm}{k:Nat},okA e ms ts=true->ms[k]?=some true->∃i,ts[k]?=some (.bor i)/\∃u,(e[i]?).bind Sl.mv=some u
 | [],_,_,_,q=>by simp at q
 |b::ms,[],_,o,_=>by cases b <;> simp [okA] at o
 |
  b::ms,t::ts,0,o,q=>by
  have:b=true:=by simpa using q
  subst this
  cases t with
  |
   bor i=>
   simp only[okA,s_] at o
   exact⟨i,rfl,O1.mp o.1.1⟩
  |_=>simp [okA] at o
 |
  b::ms,t::ts,k+1,o,q=>by
  have o':okA e ms ts=true:=by
   cases b <;> cases t <;> simp only[okA,s_] at o <;> first |exact o.2 |exact o |(simp at o;done)
  obtain⟨i,y⟩:=j7 (k:=k) o' (by simpa using q)
  exact⟨i,by simpa using y⟩
theorem ir:∀{ms:List Bool}{ts:List Tm}{k j i:Nat},okA e ms ts=true->ms[k]?=some true->ts[k]?=some (.bor i)->ts[j]?=some (.bor i)->j=k
 | [],_,_,_,_,_,q,_,_=>by simp at q
 |b::ms,[],_,_,_,o,_,_,_=>by cases b <;> simp [okA] at o
 |b::ms,t::ts,0,0,i,o,q1,q2,q3=>rfl
 |
  b::ms,t::ts,0,j+1,i,o,q1,q2,q3=>by
  have h1:b=true:=by simpa using q1
  have h2:t=.bor i:=by simpa using q2
  subst h1 h2
  simp only[okA,s_] at o
  have:=nB (i:=i) (ts:=ts) (k:=j) (by simpa using q3)
  rw[this] at o
  simp at o
 |
  b::ms,t::ts,k+1,0,i,o,q1,q2,q3=>by
  have h2:t=.bor i:=by simpa using q3
  subst h2
  have hm:=tP (i:=i) (ms:=ms) (ts:=ts) (k:=k) (by simpa using q1) (by simpa using q2)
  have hb:=nB (i:=i) (ts:=ts) (k:=k) (by simpa using q2)
  cases b <;> simp [okA,hm,hb] at o
 |
  b::ms,t::ts,k+1,j+1,i,o,q1,q2,q3=>by
  have o':okA e ms ts=true:=by
   cases b <;> cases t <;> simp only[okA,s_] at o <;> first |exact o.2 |exact o |(simp at o;done)
  exact OO (· + 1) (ir (k:=k) (j:=j) (i:=i) o' (by simpa using q1) (by simpa using q2) (by simpa using q3))
theorem iB:∀{ms:List Bool}{ts:List Tm},okA e ms ts=true->ms.length=ts.length
 | [],[],_=>rfl
 | [],_::_,o=>by simp [okA] at o
 |b::ms,[],o=>by cases b <;> simp [okA] at o
 |
  b::ms,t::ts,o=>by
  have o':okA e ms ts=true:=by
   cases b <;> cases t <;> simp only[okA,s_] at o <;> first |exact o.2 |exact o |(simp at o;done)
  exact OO (· + 1) (iB o')
theorem kJ:∀{ms:List Bool}{ts:List Tm}{k i:Nat},ms[k]?=some false->ts[k]?=some (.bor i)->(∀v,e[i]?≠some (.sh v))->i∈aS e ms ts
 | [],_,_,_,q,_,_=>by simp at q
 |_::_,[],_,_,_,q,_=>by simp at q
 |
  b::ms,t::ts,0,i,q1,q2,hn=>by
  have h1:b=false:=by simpa using q1
  have h2:t=.bor i:=by simpa using q2
  subst h1 h2
  unfold aS
  split
  ·rename_i v q;exact absurd q (hn v)
  ·exact p_ ..
 |
  b::ms,t::ts,k+1,i,q1,q2,hn=>by
  have ih:=kJ (ms:=ms) (ts:=ts) (k:=k) (by simpa using q1) (by simpa using q2) hn
  cases b <;> cases t <;> simp only[aS] <;> first |exact ih |(split;exact ih;exact m_ _ ih)
def d7{ms:List Bool}{ts:List Tm}{k i:Nat}(q:(bO ms ts)[k]?=some (some i)):ms[k]?=some true/\ts[k]?=some (.bor i):=by
 unfold bO at q
 rw[Pu] at q
 cases h1:ms[k]? with
 |none=>rw[h1] at q;cases q
 |
  some b=>
  cases h2:ts[k]? with
  |none=>rw[h1,h2] at q;cases q
  |
   some t=>
   rw[h1,h2] at q
   have q':nj b t=some i:=H_ q
   cases b <;> cases t <;> first |(cases q';done) |(cases q';exact⟨rfl,rfl⟩)
def D9{ms:List Bool}{ts:List Tm}{k i:Nat}(q1:ms[k]?=some true)(q2:ts[k]?=some (.bor i)):(bO ms ts)[k]?=some (some i):=by
 unfold bO
 rw[Pu,q1,q2];rfl
theorem uX:∀{ts:List Tm}{vs:List Val}{k:Nat}{v:Val},rss e ts=some vs->vs[k]?=some v->∃t,ts[k]?=some t/\rs e t=some v
 | [],_,_,_,q,q2=>by cases q;simp at q2
 |
  t::ts,vs,k,v,q,q2=>by
  unfold rss at q
  split at q
  ·rename_i u us e1 e2
   cases q
   cases k with
   |zero=>
    have:u=v:=by simpa using q2
    subst this;exact⟨t,rfl,e1⟩
   |
    succ k=>
    obtain⟨t',y1,y2⟩:=uX (k:=k) e2 (by simpa using q2)
    exact⟨t',by simpa using y1,y2⟩
  ·cases q
theorem jY:∀{ts:List Tm}{vs:List Val},rss e ts=some vs->vs.length=ts.length
 | [],_,q=>by cases q;rfl
 |
  t::ts,vs,q=>by
  unfold rss at q
  split at q
  ·rename_i u us e1 e2;cases q;exact OO (· + 1) (jY e2)
  ·cases q
theorem TsR.get:∀{ds:List D}{ts:List Tm}{k:Nat}{t:Tm},TsR X ns ae h ds ts->ts[k]?=some t->∃d,ds[k]?=some d/\((∃v,t=.val v/\Rd (Oc X ns) h d v)\/∃i,t=.bor i/\ae[i]?=some (some d))
 |_,_,_,_,.nil,q=>by simp at q
 |_,_,0,_,.val r rr,q=>by have:=(by simpa using q:Tm.val _=_);subst this;exact⟨_,rfl,.inl ⟨_,rfl,r⟩⟩
 |_,_,0,_,.bor r rr,q=>by have:=(by simpa using q:Tm.bor _=_);subst this;exact⟨_,rfl,.inr ⟨_,rfl,r⟩⟩
 |_,_,k+1,t,.val r rr,q=>by obtain⟨d,y⟩:=rr.get (k:=k) (by simpa using q);exact⟨d,by simpa using y⟩
 |_,_,k+1,t,.bor r rr,q=>by obtain⟨d,y⟩:=rr.get (k:=k) (by simpa using q);exact⟨d,by simpa using y⟩
def Xc(X:Nat->Prop)(ns:Ns)(e:E3)(ms:List Bool)(ts:List Tm)(n:Nat):Prop:=(X n\/some n∈ns)/\some n∉bP (bO ms ts) ns/\∀i∈aS e ms ts,ns[i]?≠some (some n)
def rB(S:Sat X h0 ns e ae h)(rt:TsR X ns ae h ds ts)(qv:rss e ts=some vs)(ok:okA e ms ts=true):
 Sat (Xc X ns e ms ts) h.length (bP (bO ms ts) ns) (sls ms vs) (ds.map some) h:=by
 have l1:=iB ok
 have l2:=jY qv
 have l3:=TsR.len rt
 have hs:lG (bO ms ts):=λj k i q1 q2=>ir ok (d7 q2).1 (d7 q2).2 (d7 q1).2
 have mv:Mov (Oc X ns) (Oc (Xc X ns e ms ts) (bP (bO ms ts) ns)) h h:=λn o p q=>⟨⟨λz=>by
  rcases z.1 with z |z
  ·exact p.1 z
  ·exact p.2 z,λz=>p.2 (kW z)⟩,q⟩
 refine⟨?_,?_,o_ _,λn z=>?_,λj k n q1 q2=>?_,λj n q z=>z.2.1 (aU.mpr ⟨j,q⟩),λk s q=>?_⟩
 ·unfold sls;rw[l_,PK];omega
 ·unfold bP bO sls;rw[l_,PK,PK];omega
 ·rcases z.1 with z |z
  ·exact S.xl n z
  ·obtain⟨i,z⟩:=aU.mp z
   obtain⟨_,_,_,_,_,_,_,q',_⟩:=S.own z
   exact cF q'
 ·obtain⟨i,y1,y2⟩:=bT q1
  obtain⟨i',y3,y4⟩:=bT q2
  have:=S.inj i i' n y2 y4
  subst this
  exact hs j k i y1 y3
 ·obtain⟨b,v,
   q1,q2,rfl⟩:=eE q
  obtain⟨t,q3,q4⟩:=uX qv q2
  obtain⟨d,q5,q6⟩:=rt.get q3
  have qd:(ds.map some)[k]?=some (some d):=by rw[L_,q5];rfl
  rw[qd]
  have qn:(bP (bO ms ts) ns)[k]?=some ((nj b t).bind λi=>(ns[i]?).bind id):=by
   unfold bP bO
   rw[L_,Pu,q1,q3];rfl
  rw[qn]
  cases b with
  |
   true=>
   obtain⟨i,y1,u,y2⟩:=j7 ok q1
   rw[q3] at y1;cases y1
   have q4':(e[i]?).bind Sl.val=some v:=q4
   obtain⟨s,z1,z2⟩:=Ou.mp y2
   rw[z1] at q4'
   have hv:s.val=some v:=q4'
   have huv:u=v:=by cases s <;> first |cases z2;done |(cases z2;cases hv;rfl)
   subst huv
   have hns:∃n,ns[i]?=some (some n):=by
    have y:=S.sl i s z1
    cases s with
    |ow v=>obtain⟨n,o,y1,_⟩:=y;exact⟨n,y1⟩
    |mu v=>obtain⟨n,o,y1,_⟩:=y;exact⟨n,y1⟩
    |_=>cases z2
   obtain⟨n,hn⟩:=hns
   obtain⟨n',o,k1,k2,k3,k4,_⟩:=S.write z1 z2
   rcases q6 with ⟨_,z,_⟩ |⟨i',z,q6⟩
   ·cases z
   ·cases z
    rw[q6] at k1;cases k1
    obtain⟨_,_,_,_,_,_,w,_⟩:=S.own hn
    rw[q6] at w;cases w
    exact⟨n,o,by show some ((ns[i]?).bind id)=_;rw[hn];rfl,rfl,k2,k3,k4.mono mv⟩
  |
   false=>
   refine⟨by cases t <;> rfl,d,rfl,?_⟩
   rcases q6 with ⟨u,rfl,q6⟩ |⟨i,rfl,q6⟩
   ·cases q4;exact q6.mono mv
   ·have q4':(
     e[i]?).bind Sl.val=some v:=q4
    rcases S.bor q6 q4' with z |⟨n,o,rfl,z1,z2⟩
    ·exact z.mono mv
    ·refine .cell ⟨λy=>?_,λy=>?_⟩ z1 (z2.mono mv)
     ·
      by_cases hsh:∃w,e[i]?=some (.sh w)
      ·obtain⟨w,hsh⟩:=hsh
       obtain⟨_,x,w1,w2⟩:=S.sl i _ hsh
       rw[q6] at w1;cases w1
       cases w2 with
       |cell p _ _=>rcases y.1 with y |y;exact p.1 y;exact p.2 y
      ·have hl:=kJ q1 q3 λw z=>hsh ⟨w,z⟩
       cases w:ns[i]? with
       |
        none=>
        have hi:i<e.length:=by
         cases z:e[i]? with
         |none=>rw[z] at q4';cases q4'
         |some _=>exact (r_.mp z).1
        rw[Pc,S.l2] at w
        omega
       |
        some w'=>
        cases w' with
        |
         none=>
         cases z:e[i]? with
         |none=>rw[z] at q4';cases q4'
         |
          some s=>
          have k:=S.sl i s z
          rw[w] at k
          cases s with
          |no=>rw[z] at q4';cases q4'
          |sh w=>exact hsh ⟨w,z⟩
          |ow w=>obtain⟨_,_,k,_⟩:=k;cases k
          |lo w=>obtain⟨_,_,k,_⟩:=k;cases k
          |mu w=>obtain⟨_,_,k,_⟩:=k;cases k
          |lm w=>obtain⟨_,_,k,_⟩:=k;cases k
        |
         some n'=>
         obtain⟨_,_,_,_,_,_,w2,_⟩:=S.own w
         rw[q6] at w2;cases w2
         exact y.2.2 i hl w
     ·obtain⟨j,y⟩:=aU.mp y
      obtain⟨i',y1,y2⟩:=bT y
      obtain⟨y3,y4⟩:=d7 y1
      obtain⟨_,_,_,_,_,_,w2,_⟩:=S.own y2
      have:i'
       = i:=by
       cases w:ns[i]? with
       |
        none=>
        have hi:i<e.length:=by
         cases z:e[i]? with
         |none=>rw[z] at q4';cases q4'
         |some _=>exact (r_.mp z).1
        rw[Pc,S.l2] at w
        omega
       |
        some w'=>
        cases w' with
        |
         some n'=>
         obtain⟨_,_,_,_,_,_,w3,_⟩:=S.own w
         rw[q6] at w3;cases w3
         exact S.inj i' i n y2 w
        |
         none=>
         cases z:e[i]? with
         |none=>rw[z] at q4';cases q4'
         |
          some s=>
          have k:=S.sl i s z
          rw[w,q6] at k
          cases s with
          |no=>rw[z] at q4';cases q4'
          |
           sh w=>
           obtain⟨_,x,k1,k2⟩:=k
           cases k1
           cases k2 with
           |cell p _ _=>exact (p.2 (aU.mpr ⟨i',y2⟩)).elim
          |ow w=>obtain⟨_,_,k,_⟩:=k;cases k
          |lo w=>obtain⟨_,_,k,_⟩:=k;cases k
          |mu w=>obtain⟨_,_,k,_⟩:=k;cases k
          |lm w=>obtain⟨_,_,k,_⟩:=k;cases k
      subst this
      have:=ir ok y3 y4 q3
      subst this
      rw[q1] at y3;cases y3
theorem d6:∀{ms:List Bool}{mv:List Val}{j:Nat}{v:Val},(aC ms mv)[j]?=some (.mu v)->v∈mv
 | [],_,_,_,q=>by simp [aC] at q
 |true::ms,u::mv,0,v,q=>by
  have:Sl.mu u=.mu v:=by simpa [aC] using q
  cases this;exact p_ ..
 |true::ms,u::mv,j+1,v,q=>m_ _ (d6 (ms:=ms) (mv:=mv) (j:=j) (by simpa [aC] using q))
 |true::ms,[],0,v,q=>by simp [aC] at q
 |true::ms,[],j+1,v,q=>d6 (ms:=ms) (mv:=[]) (j:=j) (by simpa [aC] using q)
 |false::ms,mv,0,v,q=>by simp [aC] at q
 |false::ms,mv,j+1,v,q=>d6 (ms:=ms) (mv:=mv) (j:=j) (by simpa [aC] using q)
theorem lb:∀{ms:List Bool}{ts:List Tm}{i:Nat},i∈aS e ms ts->∃k:Nat,ms[k]?=some false/\ts[k]?=some (.bor i)
 | [],_,_,q=>by simp [aS] at q
 |_::_,[],_,q=>by simp [aS] at q
 |
  b::ms,t::ts,i,q=>by
  have up:i∈aS e ms ts->∃k:Nat,(b::ms)[k]?=some false/\(t::ts)[k]?=some (.bor i):=λz=>by
   obtain⟨k,y1,y2⟩:=lb z
   exact⟨k+1,by simpa using y1,by simpa using y2⟩
  cases b <;> cases t <;> simp only[aS] at q <;> first |exact up q |skip
  split at q
  ·exact up q
  ·rcases I_.mp q with rfl |q
   ·exact⟨0,rfl,rfl⟩
   ·exact up q
def Eh(q:b8 e (.bor i)=some (e1,v)):(∀j,j≠i->e1[j]?=e[j]?)/\e1[i]?=some (.sh v)/\(e[i]?).bind Sl.val=some v:=by
 unfold b8 at q
 dsimp only at q
 split at q
 ·rename_i u q1;cases q;exact⟨λ_ _=>rfl,q1,by rw[q1];rfl⟩
 ·rename_i u q1;cases q;exact⟨λj z=>bG z,bM (r_.mp q1).1,by rw[q1];rfl⟩
 ·cases q
theorem qH:∀{is:List Nat}{ns:Ns}{e e2:E3},Sat X h0 ns e ae h->(∀i∈is,∃d,ae[i]?=some (some d))->nC e is=some e2->∃h_,Sat X h0 h_ e2 ae h/\Stp ns e h h_ e2 h/\(∀i,i∉is->e2[i]?=e[i]?)/\(∀i∈is,∃v,e2[i]?=some (.sh v))/\∀i:Nat,(e2[i]?).bind Sl.val=(e[i]?).bind Sl.val
 | [],ns,e,e2,S,_,q=>by cases q;exact⟨ns,S,.refl,λ_ _=>rfl,(λ_ z=>by cases z),λ_=>rfl⟩
 |
  i::is,ns,e,e2,S,hd,q=>by
  unfold nC at q
  split at q
  ·rename_i e1 v q1
   obtain⟨d,hd0⟩:=hd i (p_ ..)
   obtain⟨ns1,S1,a1,r1⟩:=eZ (L:=0) (t:=.bor i) S hd0 q1
   obtain⟨h_,S2,a2,k1,k2,k3⟩:=qH S1 (λj z=>hd j (m_ _ z)) q
   obtain⟨y1,y2,y3⟩:=Eh q1
   refine⟨h_,S2,a1.trans S a2,λj hj=>?_,λj hj=>?_,λj=>?_⟩
   ·rw[I_,not_or] at hj
    rw[k1 j hj.2,y1 j hj.1]
   ·by_cases z:j∈is
    ·exact k2 j z
    ·rcases I_.mp hj with rfl |hj
     ·exact⟨v,by rw[k1 j z];exact y2⟩
     ·exact absurd hj z
   ·rw[k3 j]
    by_cases z:j=i
    ·subst z;rw[y2,y3];rfl
    ·rw[y1 j z]
  ·cases q
theorem ox:∀{ms:List Bool}{ts:List Tm},(∀(k i:Nat),ms[k]?=some true->ts[k]?=some (.bor i)->e2[i]?=e[i]?)->okA e ms ts=true->okA e2 ms ts=true
 | [],[],_,o=>rfl
 | [],_::_,_,o=>by simp [okA] at o
 |b::ms,[],_,o=>by cases b <;> simp [okA] at o
 |
  b::ms,t::ts,hk,o=>by
  have o':okA e ms ts=true:=by
   cases b <;> cases t <;> simp only[okA,s_] at o <;> first |exact o.2 |exact o |(simp at o;done)
  have ih:=ox (λk i q1 q2=>hk (k+1) i (by simpa using q1) (by simpa using q2)) o'
  cases b with
  |false=>cases t <;> simp only[okA,s_] at o ⊢ <;> first |exact⟨o.1,ih⟩ |exact ih
  |
   true=>
   cases t with
   |
    bor i=>
    simp only[okA,s_] at o ⊢
    rw[hk 0 i rfl rfl]
    exact⟨o.1,ih⟩
   |_=>simp [okA] at o
theorem p8:∀{ms:List Bool}{ts:List Tm},(∀(k i:Nat),ms[k]?=some false->ts[k]?=some (.bor i)->∃v,e[i]?=some (.sh v))->aS e ms ts=[]
 | [],_,_=>by simp [aS]
 |_::_,[],_=>by simp [aS]
 |
  b::ms,t::ts,hk=>by
  have ih:=p8 (λk i q1 q2=>hk (k+1) i (by simpa using q1) (by simpa using q2))
  cases b <;> cases t <;> simp only[aS] <;> first |exact ih |skip
  rename_i i
  obtain⟨v,q⟩:=hk 0 i rfl rfl
  rw[q];exact ih
theorem nS(hv:∀i:Nat,(e2[i]?).bind Sl.val=(e[i]?).bind Sl.val):∀(ts:List Tm),rss e2 ts=rss e ts
 | []=>rfl
 |
  t::ts=>by
  unfold rss
  rw[nS hv ts]
  have:rs e2 t=rs e t:=by
   cases t with
   |bor i=>exact hv i
   |_=>rfl
  rw[this]
def pL(ok:okA e ms ts=true):Lnk (bO ms ts) e (sls ms vs):=by
 refine⟨λj k i q1 q2=>ir ok (d7 q2).1 (d7 q2).2 (d7 q1).2,λj v q=>?_,λj s q hm=>?_⟩
 ·obtain⟨b,u,q1,_,q2⟩:=eE q
  cases b with
  |false=>cases q2
  |
   true=>
   obtain⟨i,y1,w,y2⟩:=j7 ok q1
   obtain⟨s,z1,z2⟩:=Ou.mp y2
   exact⟨i,s,D9 q1 y1,z1,by cases s <;> first |rfl |cases z2⟩
 ·obtain⟨b,u,q1,_,q2⟩:=eE q
  cases b with
  |false=>subst q2;cases hm
  |true=>exact⟨u,q2⟩
section
variable{X:Nat->Prop}{h0 L:Nat}{ns:Ns}{e:E3}{ae:AE}{h:AH}{ms:List Bool}{ts:List Tm}{ds:List D}{vs:List Val}{S2:Fn}{G3:Fn3}
def iz(Y:Nat->Prop)(hY:∀n,Y n->X n\/Y n)(hl:aS e ms ts=[])(z:¬ Xc X ns e ms ts n)(z2:some n∉bP (bO ms ts) ns):Oc X ns n:=by
 refine⟨λy=>z ⟨.inl y,z2,λi hi=>by rw[hl] at hi;cases hi⟩,λy=>z ⟨.inr y,z2,λi hi=>by rw[hl] at hi;cases hi⟩⟩
def tT(S:Sat X h0 ns e ae h)(hL:L<=h.length)(rt:TsR X ns ae h ds ts)(qv:rss e ts=some vs)(ok:okA e ms ts=true)(hG:RF ms S2 G3)(q:G3 vs=.ok r mv)(hf:aS e ms ts=[]\/(j9 r=true/\mv.all cK=true)):
 Po X h0 ns e ae h (relE X h0 L ae) (S2 ds h) (.ok (r.tm ts) (a9 (bO ms ts) (aC ms mv) e)):=by
 have p:=hG _ _ ds vs h (by rw[jY qv,iB ok]) (rB S rt qv ok)
 rw[q] at p
 obtain⟨d,h',p1,a,rr⟩:=p
 have K:=pL (vs:=vs) ok
 have xcl:∀n,X n->n<h.length:=S.xl
 cases r with
 |
  val v=>
  obtain⟨S3,rv⟩:=rr
  obtain⟨S4,a4⟩:=S.back (Y:=X) K a (λn z=>⟨F_ (xcl n z) a.len,.inl z⟩) (λ_ z=>z) λj w n q1 q2=>by
   obtain⟨s,u,o,b1,b2,b3,b4,b5,b6,b7⟩:=S3.own q2
   rw[q1] at b1;cases b1;cases b3
   rcases hf with hf |hf
   ·exact⟨o,b5,b6,b7.mono λm o' z y=>⟨iz X (λ_ z=>.inl z) hf z.1 z.2,y⟩⟩
   ·exact⟨o,b5,b6,b7.flat (Ot.mp hf.2 w (d6 q1))⟩
  refine⟨d,h',ns,p1,a4,S4,?_⟩
  rcases hf with hf |hf
  ·exact rv.mono λm o' z y=>⟨iz X (λ_ z=>.inl z) hf z.1 z.2,y⟩
  ·exact rv.flat hf.1
 |
  new v=>
  obtain⟨n,o,z1,z2,z3,z4,z5,S3,z7⟩:=rr
  have hnx:¬ X n:=λy=>by have:=xcl n y;omega
  have kk:∀m,Oc (Xn (Xc X ns e ms ts) n) (bP (bO ms ts) ns) m->aS e ms ts=[]->Oc (Xn X n) ns m:=λm z hf=>by
   have:=iz X (λ_ z=>.inl z) hf (λy=>z.1 (.inl y)) z.2
   exact⟨λy=>by
    rcases y with y |y
    ·exact this.1 y
    ·exact z.1 (.inr y),this.2⟩
  obtain⟨S4,a4⟩:=S.back (Y:=Xn X n) K a (λm z=>by
   rcases z with z |rfl
   ·exact⟨F_ (xcl m z) a.len,.inl z⟩
   ·exact⟨cF z4,.inr z2⟩) (λ_ z=>.inl z) λj w n' q1 q2=>by
   obtain⟨s,u,o,b1,b2,b3,b4,b5,b6,b7⟩:=S3.own q2
   rw[q1] at b1;cases b1;cases b3
   rcases hf with hf |hf
   ·exact⟨o,b5,b6,b7.mono λm o' z y=>⟨kk m z hf,y⟩⟩
   ·exact⟨o,b5,b6,b7.flat (Ot.mp hf.2 w (d6 q1))⟩
  refine⟨d,h',ns,p1,a4,S4.weak λ_ z=>.inl z,n,o,z1,E_ hL z2,hnx,z4,z5,S4,?_⟩
  rcases hf with hf |hf
  ·exact z7.mono λm o' z y=>⟨kk m z hf,y⟩
  ·exact z7.flat hf.1
 |
  par i=>
  obtain⟨S3,w1,w,w2⟩:=rr
  obtain⟨S4,a4⟩:=S.back (Y:=X) K a (λn z=>⟨F_ (xcl n z) a.len,.inl z⟩) (λ_ z=>z) λj w n q1 q2=>by
   obtain⟨s,u,o,b1,b2,b3,b4,b5,b6,b7⟩:=S3.own q2
   rw[q1] at b1;cases b1;cases b3
   rcases hf with hf |hf
   ·exact⟨o,b5,b6,b7.mono λm o' z y=>⟨iz X (λ_ z=>.inl z) hf z.1 z.2,y⟩⟩
   ·exact⟨o,b5,b6,b7.flat (Ot.mp hf.2 w (d6 q1))⟩
  refine⟨d,h',ns,p1,a4,S4,?_⟩
  obtain⟨u,x1,_⟩:=a.mu i w w2
  obtain⟨b,u',x2,_,x3⟩:=eE x1
  cases b with
  |false=>cases x3
  |
   true=>
   obtain⟨k,y1,_⟩:=j7 ok x2
   obtain⟨d',y2,z⟩:=rt.get y1
   have e1:(Rt.par i).tm ts=.bor k:=by show (ts[i]?).getD _=_;rw[y1];rfl
   rw[e1]
   rcases z with ⟨_,z,_⟩ |⟨j,z,z2⟩
   ·cases z
   ·cases z
    rw[L_,y2] at w1
    cases w1
    exact z2
def Ai(S:Sat X h0 ns e ae h)(rt:TsR X ns ae h ds ts)(qv:rss e ts=some vs)(ok:okA e ms ts=true)(hG:RF ms S2 G3)(q:G3 vs=.exc c mv)(hf:aS e ms ts=[]\/mv.all cK=true):
 Po X h0 ns e ae h (relE X h0 L ae) (S2 ds h) (.exc c (a9 (bO ms ts) (aC ms mv) e)):=by
 have p:=hG _ _ ds vs h (by rw[jY qv,iB ok]) (rB S rt qv ok)
 rw[q] at p
 obtain⟨h',p1,a,S3⟩:=p
 have K:=pL (vs:=vs) ok
 obtain⟨S4,a4⟩:=S.back (Y:=X) K a (λn z=>⟨F_ (S.xl n z) a.len,.inl z⟩) (λ_ z=>z) λj w n q1 q2=>by
  obtain⟨s,u,o,b1,b2,b3,b4,b5,b6,b7⟩:=S3.own q2
  rw[q1] at b1;cases b1;cases b3
  rcases hf with hf |hf
  ·exact⟨o,b5,b6,b7.mono λm o' z y=>⟨iz X (λ_ z=>.inl z) hf z.1 z.2,y⟩⟩
  ·exact⟨o,b5,b6,b7.flat (Ot.mp hf w (d6 q1))⟩
 exact⟨h',ns,p1,a4,S4⟩
def uI(hn:n=ms.length)(hG:RF ms S2 G3)(hA:RA A A3):RE (pj n S2 A) (o1 ms G3 A3):=λX h0 L ns e ae h S hl=>
 Po.bind
  S (hA X h0 ns e ae h S) λds ts h1 ns1 e1 a1 S1 r1=>by
  try dsimp only
  cases qv:rss e1 ts with
  |none=>trivial
  |
   some vs=>
   dsimp only
   by_cases ok:okA e1 ms ts=true
   ·rw[if_pos ok]
    have be:ds.length=n:=by rw[hn,iB ok];exact TsR.len r1
    rw[if_pos be]
    have hL:L<=h1.length:=E_ hl a1.len
    cases q:G3 vs with
    |stuck=>trivial
    |
     exc c mv=>
     dsimp only
     by_cases hf:((aS e1 ms ts).isEmpty || mv.all cK)=true
     ·rw[if_pos hf]
      refine Ai S1 r1 qv ok hG q ?_
      rw[PN] at hf
      rcases hf with hf |hf
      ·exact .inl (List.isEmpty_iff.mp hf)
      ·exact .inr hf
     ·rw[if_neg hf];trivial
    |
     ok r mv=>
     dsimp only
     by_cases hf:((aS e1 ms ts).isEmpty || (j9 r&&mv.all cK))=true
     ·rw[if_pos hf]
      refine tT S1 hL r1 qv ok hG q ?_
      rw[PN,s_] at hf
      rcases hf with hf |hf
      ·exact .inl (List.isEmpty_iff.mp hf)
      ·exact .inr hf
     ·rw[if_neg hf]
      cases qd:nC e1 (aS e1 ms ts) with
      |none=>trivial
      |
       some e2=>
       dsimp only
       obtain⟨h_,S2',a2,k1,k2,k3⟩:=qH S1 (λi hi=>by
        obtain⟨k,_,y⟩:=lb hi
        obtain⟨d,_,z⟩:=r1.get y
        rcases z with ⟨_,z,_⟩ |⟨j,z,z2⟩
        ·cases z
        ·cases z;exact⟨d,z2⟩) qd
       have ok2:okA e2 ms ts=true:=ox (λk i q1 q2=>k1 i λz=>by
        obtain⟨k',y1,y2⟩:=lb z
        have:=ir ok q1 q2 y2
        subst this
        rw[q1] at y1;cases y1) ok
       have ln:aS e2 ms ts=[]:=p8 λk i q1 q2=>by
        by_cases z:i∈aS e1 ms ts
        ·exact k2 i z
        ·rw[k1 i z]
         exact Qg λw=>z (kJ q1 q2 λv y=>w ⟨v,y⟩)
       have pp:=tT (L:=L) S2' hL (r1.stp S1 a2) (by rw[nS k3];exact qv) ok2 hG q (.inl ln)
       obtain⟨d,h',ns',y,y1,y2,y3⟩:=pp
       exact⟨d,h',ns',y,a2.trans S1 y1,y2,y3⟩
   ·rw[if_neg ok];trivial
end
def RMv(m2:D->List D->AH->R D)(m3:Val->List Val->Bv):Prop:=∀P h d v ds vs,ShR P h d v->eA v=true->ShRs P h ds vs->BvR P h (m2 d ds h) (m3 v vs)
noncomputable def C1(m:Val->List Val->Bv)(F:ME3)(A:MA3):ME3:=λe=>(F e).bind λt e1=>if (rs e1 t).map eA=some true then (A e1).bind λts e2=>(match rs e2 t.drop,rss e2 ts with
 |some v,some vs=>if eA v=true then (m v vs).at e2 else .stuck
 |_,_=>.stuck) else .stuck
def Cb(r:ShR P h d v)(q:eA v=true):iR h d=true:=by
 cases v with
 |lst xs=>obtain⟨n,ds,rfl,_,e1,_⟩:=r.lst;show (aB h n).isSome=true;rw[e1];rfl
 |_=>cases q
def F5(hm:RMv m2 m3)(hF:RE F F3)(hA:RA A A3):RE (eM m2 F A) (C1 m3 F3 A3):=λX h0 L ns e ae h S hl=>
 Po.bind
  S (hF X h0 L ns e ae h S hl) λd t h1 ns1 e1 a1 S1 r1=>by
  try dsimp only
  split
  ·by_cases hq:(rs e1 t).map eA=some true
   ·rw[if_pos hq]
    refine Po.bind S1 (hA X h0 ns1 e1 ae h1 S1) λds ts h2 h_ e2 a2 S2 r2=>?_
    try dsimp only
    split
    ·rename_i v vs q1 q2
     obtain⟨r1',hn⟩:=r1.drop
     by_cases hv:eA v=true
     ·rw[if_pos hv]
      exact BvR.po S2 (E_ hl (E_ a1.len a2.len)) (hm _ _ _ _ _ _ ((r1'.stp S1 a2 hn).sh S2 q1) hv (TsR.sh S2 r2 q2))
     ·rw[if_neg hv];trivial
    ·trivial
   ·rw[if_neg hq];trivial
  ·rename_i hL
   by_cases hq:(rs e1 t).map eA=some true
   ·obtain⟨v,z1,z2⟩:=G_.mp hq
    exact absurd (Cb (r1.sh S1 z1) z2) hL
   ·rw[if_neg hq];trivial
noncomputable def aI(f:Int->Int->Val):Val->Val->Bv:=λx y=>match x,y with
 |.int i,.int j=>.val (f i j)
 |_,_=>.stuck
open Classical in
def aIc(C:Int->Int->Prop)(f:Int->Int->Val):Val->Val->Bv:=λx y=>match x,y with
 |.int i,.int j=>if C i j then .val (f i j) else .stuck
 |_,_=>.stuck
noncomputable def vV:Val->Val->Bv:=λx y=>match x,y with
 |.lst xs,.lst ys=>if xs.length+ys.length<=16777216 then .new (.lst (xs++ys)) else .stuck
 |.tup xs,.tup ys=>if xs.length+ys.length<=16777216 then .val (.tup (xs++ys)) else .stuck
 |_,_=>.stuck
noncomputable def Al:Val->Val->Bv:=λx y=>match x,y with
 |.int i,.int j=>.val (.int (i+j))
 |x,y=>vV x y
def aMin:=aI λi j=>.int (i-j)
def xj:=aIc CMulA λi j=>.int (i*j)
def xg:=aIc CDivB λi j=>.int (i.fdiv j)
def vJ:=aIc (λ_ j=>j≠0) λi j=>.int (i.fmod j)
def wu:=aIc fK λi j=>.int (i^j.toNat)
def v3:=aIc fK λi j=>.int (i*2^j.toNat)
def aLt:=aI λi j=>.bl (decide (i<j))
def aGt:=aI λi j=>.bl (decide (j<i))
def aGe:=aI λi j=>.bl (decide (j<=i))
noncomputable def Cd:Val->Bv:=λx=>match x with
 |.int i=>.val (.int (-i))
 |_=>.stuck
noncomputable def aIx:Val->Val->Bv:=λx y=>match x.items,y with
 |some xs,.int i=>(match atI xs i with
  |some v=>.val v
  |none=>.stuck)
 |_,_=>.stuck
section
def pO(hr:∀i j P h,Rd P h (f2 i j) (f3 i j)):RO (gI f2) (aI f3):=λP h d1 d2 v1 v2 r1 r2=>by
 unfold aI
 split
 ·obtain rfl:=r1.int;obtain rfl:=r2.int;exact⟨_,rfl,hr _ _ P h⟩
 ·trivial
def mJ(hr:∀i j P h,Rd P h (f2 i j) (f3 i j)):RO (gIc C f2) (aIc C f3):=λP h d1 d2 v1 v2 r1 r2=>by
 unfold aIc
 split
 ·obtain rfl:=r1.int;obtain rfl:=r2.int
  split
  ·rename_i hc;exact⟨_,by unfold gIc;dsimp only;rw[if_pos hc],hr _ _ P h⟩
  ·trivial
 ·trivial
def Ks:RO kI vV:=λP h d1 d2 v1 v2 r1 r2=>by
 unfold vV
 split
 ·obtain⟨n,ds,rfl,e1,_,q1⟩:=r1.lst
  obtain⟨m,es,rfl,e2,_,q2⟩:=r2.lst
  split
  ·rename_i hl
   exact⟨.lst (ds++es),by unfold kI;dsimp only;rw[e1,e2];dsimp only;rw[if_pos (by rw[q1.len,q2.len];exact hl)],trivial,.lst (q1.append q2)⟩
  ·trivial
 ·obtain⟨ds,rfl,q1⟩:=r1.tup
  obtain⟨es,rfl,q2⟩:=r2.tup
  split
  ·rename_i hl
   exact⟨_,by unfold kI;dsimp only;rw[if_pos (by rw[q1.len,q2.len];exact hl)],.tup (q1.append q2)⟩
  ·trivial
 ·trivial
def Hm:RO wQ Al:=λP h d1 d2 v1 v2 r1 r2=>by
 unfold Al
 split
 ·obtain rfl:=r1.int;obtain rfl:=r2.int;exact⟨_,rfl,.int _⟩
 ·rename_i hn
  have k:=Ks P h d1 d2 v1 v2 r1 r2
  have e:wQ d1 d2 h=kI d1 d2 h\/vV v1 v2=.stuck:=by
   cases v1 <;> first |(right;rfl) |(left;skip)
   ·obtain⟨ds,rfl,_⟩:=r1.tup;rfl
   ·obtain⟨n,ds,rfl,_⟩:=r1.lst;rfl
  rcases e with e |e
  ·rw[e];exact k
  ·rw[e];trivial
def Ip:RO AW aMin:=pO λ_ _ _ _=>.int _
def JE:RO AY xj:=mJ λ_ _ _ _=>.int _
def Kw:RO Ak xg:=mJ λ_ _ _ _=>.int _
def HN:RO Bq vJ:=mJ λ_ _ _ _=>.int _
def Gf:RO An wu:=mJ λ_ _ _ _=>.int _
def Jc:RO Bt v3:=mJ λ_ _ _ _=>.int _
def Mh:RO gLt aLt:=pO λ_ _ _ _=>.bl _
def Lu:RO gGt aGt:=pO λ_ _ _ _=>.bl _
def Nw:RO gGe aGe:=pO λ_ _ _ _=>.bl _
def Gx:RU xn Cd:=λP h d v r=>by
 unfold Cd
 split
 ·obtain rfl:=r.int;exact⟨_,rfl,.int _⟩
 ·trivial
def Lm(r:Rds P h ds vs)(e:atI vs i=some v):∃d,atI ds i=some d/\Rd P h d v:=by
 unfold atI at e ⊢
 rw[r.len]
 cases q:ixN vs.length i with
 |none=>rw[q] at e;cases e
 |some j=>rw[q] at e;exact r.get e
def Lz:RO gIx aIx:=λP h d1 d2 v1 v2 r1 r2=>by
 unfold aIx
 split
 ·rename_i xs i e1
  obtain⟨ds,e2,q⟩:=r1.items e1
  obtain rfl:=r2.int
  split
  ·rename_i v e3
   obtain⟨d,e4,q2⟩:=Lm q e3
   exact⟨d,by unfold gIx;rw[e2];dsimp only;rw[e4],q2⟩
  ·trivial
 ·trivial
end
mutual
def cD:Nat->Val->Option PyData
 |0,_=>none
 |_+1,.non=>some .none
 |_+1,.bl b=>some (.bool b)
 |_+1,.int i=>some (.int i)
 |_+1,.str x=>some (.str x)
 |k+1,.tup xs=>(dY k xs).map .tuple
 |k+1,.lst xs=>(dY k xs).map .list
 |_+1,_=>none
def dY:Nat->List Val->Option (List PyData)
 |_,[]=>some []
 |k,x::xs=>match cD k x,dY k xs with
  |some a,some b=>some (a::b)
  |_,_=>none
end
def Cu(hk:∀d v pd,Rd P h d v->cD k v=some pd->cW k h d=some pd):∀{ds:List D}{vs:List Val}{ps:List PyData},Rds P h ds vs->dY k vs=some ps->ds.mapM (cW k h)=some ps:=by
 intro ds
 induction ds with
 |
  nil=>
  intro vs ps r q
  cases r
  unfold dY at q
  cases q
  rfl
 |
  cons d0 ds ih=>
  intro vs ps r q
  cases r with
  |
   cons r rr=>
   unfold dY at q
   split at q
   ·rename_i a b e1 e2
    cases q
    rw[P2,hk _ _ _ r e1,ih rr e2];rfl
   ·cases q
theorem nH:∀(k:Nat) (d:D) (v:Val) (pd:PyData),ShR P h d v->cD k v=some pd->cW k h d=some pd
 |0,_,_,_,_,q=>by unfold cD at q;cases q
 |
  k+1,d,v,pd,r,q=>by
  have ih:∀{ds:List D}{vs:List Val}{ps:List PyData},Rds P h ds vs->dY k vs=some ps->ds.mapM (cW k h)=some ps:=Cu λd v pd r q=>nH k d v pd (.inl r) q
  cases v with
  |non=>obtain rfl:=r.non;simp only[cD] at q;cases q;rfl
  |bl b=>obtain rfl:=r.bl;simp only[cD] at q;cases q;rfl
  |int b=>obtain rfl:=r.int;simp only[cD] at q;cases q;rfl
  |str b=>obtain rfl:=r.str;simp only[cD] at q;cases q;rfl
  |
   tup xs=>
   obtain⟨ds,rfl,r2⟩:=r.tup
   simp only[cD] at q
   obtain⟨ps,q1,rfl⟩:=G_.mp q
   show (ds.mapM (cW k h)).map PyData.tuple=_
   rw[ih r2 q1];rfl
  |
   lst xs=>
   obtain⟨n,ds,rfl,_,e1,r2⟩:=r.lst
   simp only[cD] at q
   obtain⟨ps,q1,rfl⟩:=G_.mp q
   unfold cW
   rw[e1]
   show (ds.mapM (cW k h)).map PyData.list=_
   rw[ih r2 q1];rfl
  |_=>simp only[cD] at q;cases q
noncomputable def bR(x y:Val):Option Bool:=match cD 164 x,cD 164 y with
 |some a,some b=>if shp a=true/\shp b=true then some (PyData.eqv a b) else none
 |_,_=>none
noncomputable def aEq(neg:Bool):Val->Val->Bv:=λx y=>match bR x y with
 |some b=>.val (.bl (if neg then !b else b))
 |none=>.stuck
def xZ(r1:ShR P h d1 v1)(r2:ShR P h d2 v2)(q:bR v1 v2=some b):jr h d1 d2=some b:=by
 unfold bR at q
 split at q
 ·rename_i a c e1 e2
  unfold jr
  rw[nH 164 _ _ _ r1 e1,nH 164 _ _ _ r2 e2]
  exact q
 ·cases q
def Dg(neg:Bool):RO (gEq neg) (aEq neg):=λP h d1 d2 v1 v2 r1 r2=>by
 unfold aEq
 split
 ·rename_i b q
  exact⟨_,by unfold gEq;rw[xZ r1 r2 q],.bl _⟩
 ·trivial
def pD:Val->Bool
 |.non=>true
 |.bl _=>true
 |.int _=>true
 |.str _=>true
 |_=>false
noncomputable def wW:Val->V
 |.bl b=>.bl b
 |.int i=>.int i
 |.str x=>.str x
 |_=>.non
def eq1(x y:Val):Bool:=eqV (wW x) (wW y)
noncomputable def aIn(neg:Bool):Val->Val->Bv:=λx y=>match y.items with
 |some xs=>if pD x=true/\xs.all pD=true then .val (.bl (if neg then !(xs.any λd=>eq1 d x) else xs.any λd=>eq1 d x)) else .stuck
 |none=>.stuck
def uO(r:ShR P h d v)(f:pD v=true):jR d=true/\toV d=wW v:=by
 cases v with
 |non=>obtain rfl:=r.non;exact⟨rfl,rfl⟩
 |bl b=>obtain rfl:=r.bl;exact⟨rfl,rfl⟩
 |int b=>obtain rfl:=r.int;exact⟨rfl,rfl⟩
 |str b=>obtain rfl:=r.str;exact⟨rfl,rfl⟩
 |_=>cases f
def Bg(x:D)(y:Val)(hx:toV x=wW y):∀{ds:List D}{vs:List Val},Rds P h ds vs->vs.all pD=true->ds.all jR=true/\(ds.any λd=>eqF d x)=vs.any λd=>eq1 d y:=by
 intro ds
 induction ds with
 |
  nil=>
  intro vs r f
  cases r
  exact⟨rfl,rfl⟩
 |
  cons d0 ds ih=>
  intro vs r f
  cases r with
  |
   cons r rr=>
   rw[Qb,s_] at f
   obtain⟨h1,h2⟩:=uO (.inl r) f.1
   obtain⟨h3,h4⟩:=ih rr f.2
   refine⟨by rw[Qb,h1,h3];rfl,?_⟩
   rw[O3,O3,h4]
   unfold eqF eq1
   rw[h2,hx]
def CL(neg:Bool):RO (gIn neg) (aIn neg):=λP h d1 d2 v1 v2 r1 r2=>by
 unfold aIn
 split
 ·rename_i xs e
  obtain⟨ds,e2,q⟩:=r2.items e
  split
  ·rename_i hf
   obtain⟨f1,f2⟩:=uO r1 hf.1
   obtain⟨f3,f4⟩:=Bg d1 v1 f2 q hf.2
   exact⟨_,by unfold gIn;rw[e2];dsimp only;rw[if_pos ⟨f1,f3⟩,f4],.bl _⟩
  ·trivial
 ·trivial
noncomputable def BV(neg:Bool):Val->Val->Bv:=λx y=>match x,y with
 |.non,.non=>.val (.bl (!neg))
 |_,.non=>.val (.bl neg)
 |_,_=>.stuck
def IH(neg:Bool):RO (AN neg) (BV neg):=λP h d1 d2 v1 v2 r1 r2=>by
 unfold BV
 split
 ·obtain rfl:=r1.non;obtain rfl:=r2.non;exact⟨_,rfl,.bl _⟩
 ·rename_i hn
  obtain rfl:=r2.non
  have:d1 ≠ .non:=by
   rintro rfl
   rcases r1 with r |⟨n,o,z,_⟩
   ·cases r;exact hn rfl
   ·cases z
  refine⟨_,?_,.bl neg⟩
  unfold AN
  split
  ·exact absurd rfl this
  ·rfl
  ·rename_i h1 h2;exact (h1 rfl).elim
 ·trivial
noncomputable def B8:List Val->Bv:=λvs=>match vs with
 | [v]=>(match v.items with
  |some xs=>.val (.int xs.length)
  |none=>(match v with
   |.str z=>if z.length<=16777216 then .val (.int z.length) else .stuck
   |_=>.stuck))
 |_=>.stuck
noncomputable def AG:List Val->Bv:=λvs=>match vs with
 | [.int i]=>.val (.int (if i<0 then -i else i))
 |_=>.stuck
noncomputable def vn:List Val->Bv:=λvs=>match vs with
 | [.int i,.int j]=>.val (.int (if j>i then j else i))
 |_=>.stuck
noncomputable def xa:List Val->Bv:=λvs=>match vs with
 | [.int i,.int j]=>.val (.int (if j<i then j else i))
 |_=>.stuck
noncomputable def js:List Val->Option (List Bool)
 | []=>some []
 |.bl b::r=>(js r).map (b :: ·)
 |_=>none
noncomputable def dC:List Val->Option (List Int)
 | []=>some []
 |.int b::r=>(dC r).map (b :: ·)
 |_=>none
noncomputable def Bk:List Val->Bv:=λvs=>match vs with
 | [.lst xs]=>(match js xs with
  |some bs=>.val (.bl (bs.all id))
  |none=>.stuck)
 |_=>.stuck
noncomputable def BS:List Val->Bv:=λvs=>match vs with
 | [.lst xs]=>(match dC xs with
  |some bs=>.val (.int bs.sum)
  |none=>.stuck)
 |_=>.stuck
noncomputable def vE:List Val->Bv:=λvs=>match vs with
 | [v]=>(match v.items with
  |some xs=>.new (.lst xs)
  |none=>.stuck)
 |_=>.stuck
noncomputable def Cs:List Val->Bv:=λvs=>match vs with
 | [.int i]=>.val (.int i)
 | [.bl b]=>.val (.int (if b then 1 else 0))
 |_=>.stuck
def G7:RFn qg B8:=λP h ds vs r=>by
 unfold B8
 split
 ·obtain⟨d,hd,rr1⟩:=dJ r;subst hd;clear r;have r:=rr1
  split
  ·rename_i xs e
   obtain⟨es,e2,q⟩:=r.items e
   exact⟨_,by unfold qg;dsimp only;rw[e2],by rw[<- q.len];exact .int _⟩
  ·split
   ·rename_i z _
    obtain rfl:=r.str
    split
    ·rename_i hl;exact⟨_,by show (if z.length<=16777216 then _ else _)=_;rw[if_pos hl],.int _⟩
    ·trivial
   ·trivial
 ·trivial
def I0:RFn vN AG:=λP h ds vs r=>by
 unfold AG
 split
 ·obtain⟨d,hd,rr1⟩:=dJ r;subst hd;clear r;have r:=rr1;obtain rfl:=r.int;exact⟨_,rfl,.int _⟩
 ·trivial
def FC:RFn oW vn:=λP h ds vs r=>by
 unfold vn
 split
 ·obtain⟨d,d',hd,rr1,r'⟩:=mh r;subst hd;clear r;have r:=rr1;obtain rfl:=r.int;obtain rfl:=r'.int;exact⟨_,rfl,.int _⟩
 ·trivial
def Fo:RFn pA xa:=λP h ds vs r=>by
 unfold xa
 split
 ·obtain⟨d,d',hd,rr1,r'⟩:=mh r;subst hd;clear r;have r:=rr1;obtain rfl:=r.int;obtain rfl:=r'.int;exact⟨_,rfl,.int _⟩
 ·trivial
def Ln:∀{ds:List D}{vs:List Val}{bs:List Bool},Rds P h ds vs->js vs=some bs->gz ds=some bs:=by
 intro ds
 induction ds with
 |
  nil=>
  intro vs bs r q
  cases r
  cases q
  rfl
 |
  cons d0 ds ih=>
  intro vs bs r q
  cases r with
  |
   cons r rr=>
   rename_i v vs
   cases v with
   |
    bl b=>
    obtain rfl:=ShR.bl (.inl r)
    obtain⟨b',q1,rfl⟩:=G_.mp (show (js vs).map (b :: ·)=some bs from q)
    show (gz _).map (b :: ·)=_
    rw[ih rr q1];rfl
   |_=>cases q
def yd:∀{ds:List D}{vs:List Val}{bs:List Int},Rds P h ds vs->dC vs=some bs->dU ds=some bs:=by
 intro ds
 induction ds with
 |
  nil=>
  intro vs bs r q
  cases r
  cases q
  rfl
 |
  cons d0 ds ih=>
  intro vs bs r q
  cases r with
  |
   cons r rr=>
   rename_i v vs
   cases v with
   |
    int b=>
    obtain rfl:=ShR.int (.inl r)
    obtain⟨b',q1,rfl⟩:=G_.mp (show (dC vs).map (b :: ·)=some bs from q)
    show (dU _).map (b :: ·)=_
    rw[ih rr q1];rfl
   |_=>cases q
def ID:RFn qX Bk:=λP h ds vs r=>by
 unfold Bk
 split
 ·obtain⟨d,hd,rr1⟩:=dJ r;subst hd;clear r;have r:=rr1
  obtain⟨n,es,rfl,_,e1,q⟩:=r.lst
  split
  ·rename_i bs e2
   exact⟨_,by unfold qX;dsimp only;rw[e1];show (match gz es with |some bs=>_ |none=>_)=_;rw[Ln q e2],.bl _⟩
  ·trivial
 ·trivial
def Jv:RFn sj BS:=λP h ds vs r=>by
 unfold BS
 split
 ·obtain⟨d,hd,rr1⟩:=dJ r;subst hd;clear r;have r:=rr1
  obtain⟨n,es,rfl,_,e1,q⟩:=r.lst
  split
  ·rename_i bs e2
   exact⟨_,by unfold sj;dsimp only;rw[e1];show (match dU es with |some bs=>_ |none=>_)=_;rw[yd q e2],.int _⟩
  ·trivial
 ·trivial
def Eu:RFn lO vE:=λP h ds vs r=>by
 unfold vE
 split
 ·obtain⟨d,hd,rr1⟩:=dJ r;subst hd;clear r;have r:=rr1
  split
  ·rename_i xs e
   obtain⟨es,e2,q⟩:=r.items e
   exact⟨.lst es,by unfold lO;dsimp only;rw[e2],trivial,.lst q⟩
  ·trivial
 ·trivial
def G6:RFn vD Cs:=λP h ds vs r=>by
 unfold Cs
 split
 ·obtain⟨d,hd,rr1⟩:=dJ r;subst hd;clear r;have r:=rr1;obtain rfl:=r.int;exact⟨_,rfl,.int _⟩
 ·obtain⟨d,hd,rr1⟩:=dJ r;subst hd;clear r;have r:=rr1;obtain rfl:=r.bl;exact⟨_,rfl,.int _⟩
 ·trivial
noncomputable def tyC:Val->Option Cl
 |.non=>some (.b "NoneType")
 |.bl _=>some (.b "bool")
 |.int _=>some (.b "int")
 |.str _=>some (.b "str")
 |.tup _=>some (.b "tuple")
 |.exc x=>some (.o x)
 |.lst _=>some (.b "list")
 |.dct _=>some (.b "dict")
 |_=>none
noncomputable def clV:Val->Option Cl
 |.ty n=>some (.b n)
 |.glb x=>some (.o x)
 |_=>none
noncomputable def vo:List Val->Option (List Cl)
 | []=>some []
 |v::vs=>match clV v,vo vs with
  |some c,some cs=>some (c::cs)
  |_,_=>none
noncomputable def N9:Val->Option (List Cl)
 |.tup cs=>vo cs
 |v=>(clV v).map ([·])
noncomputable def Av(kt:iX):List Val->Bv:=λvs=>match vs with
 | [v,c]=>(match tyC v,N9 c with
  |some t,some (c0::cr)=>(match fb kt t (c0::cr),kit kt t c0 with
   |some b,some _=>.val (.bl b)
   |_,_=>.stuck)
  |_,_=>.stuck)
 |_=>.stuck
def LY(r:ShR P h d v)(q:tyC v=some t):tyD h d=some t:=by
 cases v with
 |non=>obtain rfl:=r.non;exact q
 |bl b=>obtain rfl:=r.bl;exact q
 |int b=>obtain rfl:=r.int;exact q
 |str b=>obtain rfl:=r.str;exact q
 |exc b=>obtain rfl:=r.exc;exact q
 |tup b=>obtain⟨ds,rfl,_⟩:=r.tup;exact q
 |lst b=>obtain⟨n,ds,rfl,e,_⟩:=r.lst;unfold tyD;dsimp only;rw[e];exact q
 |dct b=>obtain⟨n,ds,rfl,e,_⟩:=r.dct;unfold tyD;dsimp only;rw[e];exact q
 |_=>cases q
def Dv(r:ShR P h d v)(q:clV v=some c):clD d=some c:=by
 cases v with
 |ty b=>obtain rfl:=r.ty;exact q
 |glb b=>obtain rfl:=r.glb;exact q
 |_=>cases q
def Jr:∀{ds:List D}{vs:List Val}{cs:List Cl},Rds P h ds vs->vo vs=some cs->ds.mapM clD=some cs:=by
 intro ds
 induction ds with
 |
  nil=>
  intro vs cs r q
  cases r
  cases q
  rfl
 |
  cons d0 ds ih=>
  intro vs cs r q
  cases r with
  |
   cons r rr=>
   unfold vo at q
   split at q
   ·rename_i c cs' e1 e2
    cases q
    rw[P2,Dv (.inl r) e1,ih rr e2];rfl
   ·cases q
def KI(kt:iX):RFn (sP kt) (Av kt):=λP h ds vs r=>by
 unfold Av
 split
 ·rename_i v c
  obtain⟨d,d',rfl,r1,r2⟩:=mh r
  split
  ·rename_i t c0 cr e1 e2
   have e3:=LY r1 e1
   split
   ·rename_i b b' e4 e5
    refine⟨.bl b,?_,.bl b⟩
    unfold sP
    dsimp only
    rw[e3]
    dsimp only
    by_cases ht:∃cs,c=.tup cs
    ·obtain⟨cs,rfl⟩:=ht
     obtain⟨es,rfl,q⟩:=r2.tup
     dsimp only
     rw[Jr q e2]
     dsimp only
     rw[e4,e5]
    ·have e2':(clV c).map ([·])=some (c0::cr):=by
      cases c with
      |tup cs=>exact absurd ⟨cs,rfl⟩ ht
      |_=>exact e2
     obtain⟨cl,y1,y2⟩:=G_.mp e2'
     cases y2
     have y3:=Dv r2 y1
     have hd:∀cs,d' ≠ .tup cs:=λcs z=>by subst z;cases y3
     split
     ·rename_i cs;exact absurd rfl (hd cs)
     ·rw[y3]
      dsimp only
      have:kit kt t c0=some b:=by
       unfold fb at e4
       rw[e5] at e4 ⊢
       cases b' with
       |true=>exact e4
       |false=>unfold fb at e4;exact e4
      rw[this]
   ·trivial
  ·trivial
 ·trivial
noncomputable def gj(xs:List Val)(lo hi:Option Int):List Val:=(xs.drop (HT.sIx xs.length 0 lo)).take (HT.sIx xs.length xs.length hi-HT.sIx xs.length 0 lo)
abbrev MO3:=E3->R3 (Option Int)
def Bj(_:Ns)(_:E3)(_:AH)(b c:Option Int):Prop:=b=c
def ROp(F:MO)(G:MO3):Prop:=∀X h0 ns e ae h,Sat X h0 ns e ae h->Po X h0 ns e ae h Bj (F ae h) (G e)
def zg:MO3:=λe=>.ok none e
noncomputable def yz(F:ME3):MO3:=λe=>(F e).bind λt e1=>match rs e1 t with
 |some (.int i)=>.ok (some i) e1
 |_=>.stuck
noncomputable def aSl(x:Val)(lo hi:Option Int):Bv:=match x with
 |.tup xs=>if HT.sIx xs.length 0 lo=0/\HT.sIx xs.length xs.length hi=xs.length then .stuck else .val (.tup (gj xs lo hi))
 |.lst xs=>.new (.lst (gj xs lo hi))
 |.kl xs=>.new (.lst (gj xs lo hi))
 |_=>.stuck
noncomputable def vSl(F:ME3)(L U:MO3):ME3:=λe=>(F e).bind λt e1=>(L e1).bind λlo e2=>(U e2).bind λhi e3=>match rs e3 t.drop with
 |some v=>(aSl v lo hi).at e3
 |none=>.stuck
def DC:ROp vb zg:=λX h0 ns e ae h S=>Po.ret S rfl
def Fj(hF:RE F F3):ROp (va F) (yz F3):=λX h0 ns e ae h S=>
 Po.bind S (hF X h0 0 ns e ae h S (N_ _)) λd t h1 ns1 e1 a1 S1 r1=>by
  by_cases hq:∃i,rs e1 t=some (.int i)
  ·obtain⟨i,hq⟩:=hq
   have hd:=(r1.sh S1 hq).int
   subst hd
   show Po X h0 ns1 e1 ae h1 Bj (R.ok (some i) h1) (match rs e1 t with |some (.int i)=>R3.ok (some i) e1 |_=>.stuck)
   rw[hq]
   exact Po.ret S1 rfl
  ·have:(match rs e1 t with |some (.int i)=>R3.ok (some i) e1 |_=>.stuck)=(.stuck:R3 (Option Int)):=by
    split
    ·rename_i i q;exact absurd ⟨i,q⟩ hq
    ·rfl
   show Po X h0 ns1 e1 ae h1 Bj _ (match rs e1 t with |some (.int i)=>R3.ok (some i) e1 |_=>.stuck)
   rw[this];trivial
def Mv(hF:RE F F3)(hL:ROp L L3')(hU:ROp U U3):RE (eSl F L U) (vSl F3 L3' U3):=λX h0 LL ns e ae h S hl=>
 Po.bind
  S (hF X h0 LL ns e ae h S hl) λd t h1 ns1 e1 a1 S1 r1=>Po.bind S1 (hL X h0 ns1 e1 ae h1 S1) λlo lo' h2 h_ e2 a2 S2 r2=>Po.bind S2 (hU X h0 h_ e2 ae h2 S2) λhi hi' h3 ns3 e3 a3 S3 r3=>by
  cases r2;cases r3
  obtain⟨r1',hn⟩:=r1.drop
  have r4:=(r1'.stp S1 a2 hn).stp S2 a3 hn
  try dsimp only
  split
  ·rename_i v q
   have rr:=r4.sh S3 q
   refine BvR.po S3 (E_ hl (E_ a1.len (E_ a2.len a3.len))) ?_
   unfold aSl
   split
   ·rename_i xs
    obtain⟨ds,rfl,q1⟩:=rr.tup
    split
    ·trivial
    ·rename_i hne
     refine⟨_,by unfold gSl;dsimp only;rw[if_neg (by rw[q1.len];exact hne)],.tup ?_⟩
     unfold L2.cutD gj
     rw[q1.len]
     exact (q1.drop _).take _
   ·rename_i xs
    obtain⟨n,ds,rfl,_,e1,q1⟩:=rr.lst
    refine⟨.lst (L2.cutD ds lo hi),by unfold gSl;dsimp only;rw[e1],trivial,.lst ?_⟩
    unfold L2.cutD gj
    rw[q1.len]
    exact (q1.drop _).take _
   ·rename_i xs
    have key:∃ds,gSl d lo hi h3=.ok (.ref h3.length) (h3++[.lst (L2.cutD ds lo hi)])/\Rds (Oc X ns3) h3 ds xs:=by
     rcases rr with rr |⟨n,o,rfl,e,rr⟩
     ·cases rr with
      |kl q1=>exact⟨_,rfl,q1⟩
      |cell p e rc=>cases rc with |fz q1=>exact⟨_,by unfold gSl aB;dsimp only;rw[e],q1⟩
     ·cases rr with |fz q1=>exact⟨_,by unfold gSl aB;dsimp only;rw[e],q1⟩
    obtain⟨ds,e1,q1⟩:=key
    refine⟨.lst (L2.cutD ds lo hi),e1,trivial,.lst ?_⟩
    unfold L2.cutD gj
    rw[q1.len]
    exact (q1.drop _).take _
   ·trivial
  ·trivial
noncomputable def mZ:Val->List Val->Option (Val×Val):=λu vs=>match u,vs with
 |.lst xs,[v]=>if xs.length<16777216 then some (.lst (xs++[v]),.non) else none
 |_,_=>none
noncomputable def sf:Val->List Val->Option (Val×Val):=λu vs=>match u,vs with
 |.lst xs,[]=>(match xs[xs.length-1]? with
  |some v=>some (.lst xs.dropLast,v)
  |none=>none)
 |_,_=>none
section
variable{P:Nat->Prop}{h:AH}
def pB(e:h[n]?=some o)(r:Rc P h o (.lst xs)):iR h (.ref n)=true/\∃ds,h[n]?=some (.lst ds)/\Rds P h ds xs/\∀f,iQ h (.ref n) f=f n ds:=by
 obtain⟨ds,e1,e2,q⟩:=Rc.seq e r
 refine⟨by show (aB h n).isSome=true;rw[e2];rfl,ds,e1,q,λf=>?_⟩
 unfold iQ;dsimp only;rw[e1]
def AD(r:Rds P h ds [v]):∃d,ds=[d]/\Rd P h d v:=by
 cases r with |cons r rr=>cases rr;exact⟨_,rfl,r⟩
end
def x6:RM jM mZ:=λP h n o u ds vs u' v e hf r rs q=>by
 unfold mZ at q
 split at q
 ·split at q
  ·rename_i hl
   cases q
   obtain⟨q1,es,q2,q3,q4⟩:=pB e r
   obtain⟨d,rfl,rd⟩:=AD rs
   refine⟨q1,.lst (es++[d]),.non,?_,trivial,.lst (q3.append (.cons rd .nil)),.non⟩
   unfold jM;rw[q4];dsimp only;rw[if_pos (by rw[q3.len];exact hl)]
  ·cases q
 ·cases q
def JJ:RM vk sf:=λP h n o u ds vs u' v e hf r rs q=>by
 unfold sf at q
 split at q
 ·split at q
  ·rename_i w hw
   cases q
   obtain⟨q1,es,q2,q3,q4⟩:=pB e r
   cases rs
   obtain⟨d,e2,rd⟩:=q3.get hw
   refine⟨q1,.lst es.dropLast,d,?_,trivial,.lst ?_,rd⟩
   ·unfold vk;rw[q4];dsimp only;rw[q3.len,e2]
   ·rw[P1,P1,q3.len];exact q3.take _
  ·cases q
 ·cases q
noncomputable def sL:Val->Val->Val->Option Val:=λu i v=>match u,i with
 |.lst xs,.int k=>(match ixN xs.length k with
  |some j=>some (.lst (xs.set j v))
  |none=>none)
 |_,_=>none
def Kq:vQ wL sL:=λP h n o u di vi d v u' _ e hf r ri rd q=>by
 unfold sL at q
 split at q
 ·split at q
  ·rename_i j hj
   cases q
   obtain⟨q1,es,q2,q3,q4⟩:=pB e r
   obtain rfl:=ri.int
   refine⟨.lst (es.set j d),?_,trivial,.lst (q3.set rd j)⟩
   unfold wL;dsimp only;rw[q2];dsimp only;rw[q3.len,hj]
  ·cases q
 ·cases q
noncomputable def vj(d:Val):List Val->Option (List Bool)
 | []=>some []
 |x::r=>match bR x d,vj d r with
  |some b,some bs=>some (b::bs)
  |_,_=>none
noncomputable def nI:Val->List Val->Bv:=λx vs=>match x,vs with
 |.lst xs,[d]=>(match vj d xs with
  |some bs=>if bs.idxOf true<bs.length then .val (.int (bs.idxOf true:Nat)) else .stuck
  |none=>.stuck)
 |_,_=>.stuck
def Nd(rd:ShR P h d v):∀{ds:List D}{vs:List Val}{bs:List Bool},Rds P h ds vs->vj v vs=some bs->fU h d ds=some bs:=by
 intro ds
 induction ds with
 |
  nil=>
  intro vs bs r q
  cases r
  cases q
  rfl
 |
  cons d0 ds ih=>
  intro vs bs r q
  cases r with
  |
   cons r rr=>
   unfold vj at q
   split at q
   ·rename_i b bs' e1 e2
    cases q
    unfold fU
    rw[xZ (.inl r) rd e1,ih rr e2]
   ·cases q
def za:RMv jw nI:=λP h d v ds vs r hv rs=>by
 unfold nI
 split
 ·rename_i xs w
  obtain⟨n,es,rfl,_,e1,q⟩:=r.lst
  obtain⟨d',rfl,r'⟩:=dJ rs
  split
  ·rename_i bs eb
   split
   ·rename_i hl
    refine⟨_,?_,.int _⟩
    unfold jw
    dsimp only
    rw[e1]
    show (match fU h d' es with |some bs=>_ |none=>_)=_
    rw[Nd r' q eb]
    dsimp only
    rw[if_pos hl]
   ·trivial
  ·trivial
 ·trivial
def vD0:ME3:=λe=>.ok (.new (.dct [])) e
def Ms:RE eD0 vD0:=λX h0 L ns e ae h S hl=>BvR.po (r:=eD0 ae h) (b:=.new (.dct [])) S hl ⟨.dct [],rfl,trivial,.dct .nil⟩
structure PEx where
 F:ME
 G:ME3
 ok:RE F G
structure PTs where
 F:MT
 G:MT3
 ok:RT F G
structure PAs where
 F:MA
 G:MA3
 ok:RA F G
structure PSt where
 F:MS
 G:MS3
 ok:RS F G
structure PGt where
 F:MG
 G:MG3
 ok:RG F G
structure PGs where
 F:MGs
 G:jb
 ok:RGs F G
structure PIt where
 F:MI
 G:MI3
 ok:RI F G
structure POp where
 F:MO
 G:MO3
 ok:ROp F G
structure PO2 where
 F:D->D->AH->R D
 G:Val->Val->Bv
 ok:RO F G
structure PU1 where
 F:D->AH->R D
 G:Val->Bv
 ok:RU F G
structure PBf where
 F:Fn
 G:List Val->Bv
 ok:RFn F G
structure PMm where
 F:D->List D->AH->R D
 G:Val->List Val->Option (Val×Val)
 ok:RM F G
structure PMv where
 F:D->List D->AH->R D
 G:Val->List Val->Bv
 ok:RMv F G
structure PSe where
 F:D->D->D->AH->R Unit
 G:Val->Val->Val->Option Val
 ok:vQ F G
structure PFn where
 ms:List Bool
 F:Fn
 G:Fn3
 ok:RF ms F G
structure PFx(ms:List Bool) where
 F:Fn
 G:Fn3
 ok:RF ms F G
noncomputable section
def PFx.fn{ms:List Bool}(p:PFx ms):PFn:=⟨ms,p.F,p.G,p.ok⟩
def af(i:Nat):PEx:=⟨ba i,CD i,Lc i⟩
def ah(i:Int):PEx:=⟨eC (.int i),vC (.int i),mR λ_ _=>.int i⟩
def pBl(i:Bool):PEx:=⟨eC (.bl i),vC (.bl i),mR λ_ _=>.bl i⟩
def bX(i:Str):PEx:=⟨eC (.str i),vC (.str i),mR λ_ _=>.str i⟩
def pTy(i:String):PEx:=⟨eC (.ty i),vC (.ty i),mR λ_ _=>.ty i⟩
def CC(i:Str):PEx:=⟨eC (.glb i),vC (.glb i),mR λ_ _=>.glb i⟩
noncomputable def my(d:D)(v:Val)(r:∀P h,Rd P h d v):PEx:=⟨eC d,vC v,mR r⟩
noncomputable def pUn(o:PU1)(a:PEx):PEx:=⟨eUn o.F a.F,vUn o.G a.G,NI o.ok a.ok⟩
noncomputable def pOp(o:PO2)(a b:PEx):PEx:=⟨eOp o.F a.F b.F,vOp o.G a.G b.G,NF o.ok a.ok b.ok⟩
def ag:PAs:=⟨ju,nF,yF⟩
noncomputable def aa(a:PEx)(r:PAs):PAs:=⟨iM a.F r.F,Ds a.G r.G,Ej a.ok r.ok⟩
noncomputable def pFn(o:PBf)(a:PAs):PEx:=⟨eFn o.F a.F,vFn o.G a.G,Mr o.ok a.ok⟩
noncomputable def bC(a:PAs):PEx:=⟨eFn mG a.F,vTup a.G,Ld a.ok⟩
noncomputable def df(a:PAs):PEx:=⟨eFn c8 a.F,vLst a.G,GB a.ok⟩
noncomputable def i9(a b:PEx):PEx:=⟨BX a.F b.F,vAnd a.G b.G,IE a.ok b.ok⟩
noncomputable def Bf(a:PEx):PEx:=⟨AZ a.F,vNot a.G,KH a.ok⟩
noncomputable def qOf(a:PEx):PTs:=⟨tOf a.F,cOf a.G,N2 a.ok⟩
noncomputable def qTr(a:PEx):PTs:=⟨tTr a.F,cTr a.G,M0 a.ok⟩
noncomputable def qAn(a b:PTs):PTs:=⟨tAn a.F b.F,cAn a.G b.G,MY a.ok b.ok⟩
noncomputable def qO(a b:PTs):PTs:=⟨tO a.F b.F,cO a.G b.G,rt_o a.ok b.ok⟩
noncomputable def qNo(a:PTs):PTs:=⟨tNo a.F,cNo a.G,M4 a.ok⟩
def qY:PTs:=⟨tY,cY,rt_y⟩
noncomputable def xNx:PSt:=⟨sNx,wNx,NP⟩
def vf:PSt:=⟨vv,Dz,Er⟩
noncomputable def az(a:PEx):PSt:=⟨Ad a.F,wRet a.G,Jk a.ok⟩
noncomputable def bz(a:PEx):PSt:=⟨vp a.F,Dm a.G,Fu a.ok⟩
noncomputable def aj(a b:PSt):PSt:=⟨zV a.F b.F,wSeq a.G b.G,H0 a.ok b.ok⟩
noncomputable def xIf(c:PTs)(a b:PSt):PSt:=⟨sIf c.F a.F b.F,wIf c.G a.G b.G,Lq c.ok a.ok b.ok⟩
noncomputable def au(o:Bool)(i:Nat)(a:PEx):PSt:=⟨gR a.F (gN i),wAsg o i a.G,HL o i a.ok⟩
def gtN(i:Nat):PGt:=⟨gN i,pN i,wz i⟩
def cX:PGs:=⟨gsN,psN,NM⟩
noncomputable def aO(a:PGt)(b:PGs):PGs:=⟨gsC a.F b.F,psC a.G b.G,Nm a.ok b.ok⟩
noncomputable def gtT(n:Nat)(a:PGs):PGt:=⟨gT λds ae h=>if ds.length=n then a.F ds ae h else .stuck,pT n a.G,rg_t n a.ok⟩
noncomputable def gtX(a:PGt):PGt:=⟨λd ae h=>noX (a.F d ae h),a.G,JK a.ok⟩
noncomputable def gH(a:PEx)(g:PGt):PSt:=⟨gR a.F g.F,CU a.G g.G,Fy a.ok g.ok⟩
noncomputable def fO(i j:Nat)(a:PAs):PSt:=⟨Cr i j a.F,wPar i j a.G,Gy i j a.ok⟩
noncomputable def v5(i:Nat)(o:PO2)(a:PEx):PSt:=⟨sN i o.F a.F,Ac i o.G a.G,HJ i o.ok a.ok⟩
noncomputable def dP(c:Str)(a:PAs):PSt:=⟨sE c a.F,xK c a.G,A8 c a.ok⟩
noncomputable def qN(i:Nat)(w:PSe)(k a:PEx):PSt:=⟨gR a.F (gS (ba i) k.F w.F),wSet i k.G a.G w.G,Jn i w.ok k.ok a.ok⟩
noncomputable def iH(i:Nat)(m:PMm)(a:PAs):PEx:=⟨eM m.F (ba i) a.F,kX i m.G a.G,xY i m.ok a.ok⟩
noncomputable def o6(i:Nat)(m:PMm):PEx:=⟨eM0 m.F (ba i),kX i m.G nF,FW i m.ok⟩
noncomputable def C3(m:PMv)(a:PEx)(b:PAs):PEx:=⟨eM m.F a.F b.F,C1 m.G a.G b.G,F5 m.ok a.ok b.ok⟩
noncomputable def c7(a:PEx):PIt:=⟨Ab a.F,Dy a.G,IZ a.ok⟩
def jJ(a:PAs):PIt:=⟨Bc a.F,qb gO a.G,Je a.ok⟩
def CS(a:PAs):PIt:=⟨By a.F,qb AF a.G,KZ a.ok⟩
noncomputable def wZ(a:PAs):PIt:=⟨Cp a.F,CP a.G,Kn a.ok⟩
def kP(i:PIt)(g:PGt)(b:PSt):PSt:=⟨CJ i.F g.F b.F,wFor i.G g.G b.G,Kh i.ok g.ok b.ok⟩
def xWh(c:PTs)(b:PSt):PSt:=⟨sWh c.F b.F,wWh c.G b.G,LS c.ok b.ok⟩
def pLC(i:PIt)(sub:Rg)(hs:(sub.filterMap id).Nodup)(g:PGt)(c:PTs)(a:PEx):PEx:=⟨eLC i.F sub g.F c.F a.F,vLC i.G sub g.G c.G a.G,Mi hs i.ok g.ok c.ok a.ok⟩
noncomputable def ai(f:PFn)(a:PAs):PEx:=⟨pj f.ms.length f.F a.F,o1 f.ms f.G a.G,uI rfl f.ok a.ok⟩
def oN:POp:=⟨vb,zg,DC⟩
noncomputable def oS(a:PEx):POp:=⟨va a.F,yz a.G,Fj a.ok⟩
noncomputable def pSl(a:PEx)(l u:POp):PEx:=⟨eSl a.F l.F u.F,vSl a.G l.G u.G,Mv a.ok l.ok u.ok⟩
def pD0:PEx:=⟨eD0,vD0,Ms⟩
def PFx.none(ms:List Bool)(N:Nat:=0):PFx ms:=⟨λ_ _=>.stuck,λ_=>.stuck,λ_ _ _ _ _ _ _=>trivial⟩
def PFx.of(ms:List Bool)(N:Nat)(c:PSt):PFx ms:=⟨fnD N c.F,fnV ms N c.G,Dn c.ok⟩
def fnP(ms:List Bool)(N:Nat)(c:PSt):PFn:=⟨ms,fnD N c.F,fnV ms N c.G,Dn c.ok⟩
def aV:PO2:=⟨wQ,Al,Hm⟩
def dN:PO2:=⟨AW,aMin,Ip⟩
def aG:PO2:=⟨AY,xj,JE⟩
def iU:PO2:=⟨Ak,xg,Kw⟩
def bS:PO2:=⟨Bq,vJ,HN⟩
def fN:PO2:=⟨An,wu,Gf⟩
def sU:PO2:=⟨Bt,v3,Jc⟩
def bLt:PO2:=⟨gLt,aLt,Mh⟩
def bGt:PO2:=⟨gGt,aGt,Lu⟩
def bGe:PO2:=⟨gGe,aGe,Nw⟩
def bIx:PO2:=⟨gIx,aIx,Lz⟩
def bEq:PO2:=⟨gEq false,aEq false,Dg false⟩
def bNe:PO2:=⟨gEq true,aEq true,Dg true⟩
def bIn:PO2:=⟨gIn false,aIn false,CL false⟩
def A2:PO2:=⟨gIn true,aIn true,CL true⟩
def bIs:PO2:=⟨AN false,BV false,IH false⟩
noncomputable def vI:PO2:=⟨gI λi j=>.int (i+j),aI λi j=>.int (i+j),pO λ_ _ _ _=>.int _⟩
def qS:PU1:=⟨xn,Cd,Gx⟩
def b0:PBf:=⟨qg,B8,G7⟩
def eL:PBf:=⟨vN,AG,I0⟩
def qZ:PBf:=⟨oW,vn,FC⟩
def sC:PBf:=⟨pA,xa,Fo⟩
def o8:PBf:=⟨qX,Bk,ID⟩
def bH:PBf:=⟨sj,BS,Jv⟩
def pG:PBf:=⟨lO,vE,Eu⟩
def o3:PBf:=⟨vD,Cs,G6⟩
def bp(kt:iX):PBf:=⟨sP kt,Av kt,KI kt⟩
def eB:PMm:=⟨jM,mZ,x6⟩
def pq:PMm:=⟨vk,sf,JJ⟩
def u4:PMv:=⟨jw,nI,za⟩
def seL:PSe:=⟨wL,sL,Kq⟩
end
theorem mT:∀(ns:List Int),Rds P h (ns.map D.int) (ns.map Val.int)
 | []=>.nil
 |_::r=>.cons (.int _) (mT r)
def law3(p:PFn)(hm:p.ms=[false])(hG:∀ns:List Int,ns.length<=63->p.G [.kl (ns.map .int)]=.ok (.val (.bl true)) [])(d:D)(h:AH)(ns:List Int)(hl:ns.length<=63)(sc:Script h d ns):∃h',p.F [d] h=.ok (.bl true) h':=by
 have hp:=p.ok
 rw[hm] at hp
 have rd:Rd (Oc (λ_=>False) [none]) h d (.kl (ns.map .int)):=by
  rcases sc.form with ⟨n,rfl,e⟩ |rfl
  ·exact .cell ⟨λz=>z,by simp⟩ e (.fz (mT ns))
  ·exact .kl (mT ns)
 have S:Sat (λ_=>False) h.length [none] (sls [false] [.kl (ns.map .int)]) ([d].map some) h:=by
  refine⟨rfl,rfl,o_ _,λ_ z=>z.elim,λi j n q=>?_,λi n q z=>z,λi s q=>?_⟩
  ·cases i with
   |zero=>simp at q
   |succ i=>simp at q
  ·cases i with
   |
    zero=>
    have:sl1 false (.kl (ns.map .int))=s:=by simpa [sls] using q
    subst this
    exact⟨rfl,d,rfl,rd⟩
   |succ i=>simp [sls] at q
 have:=hp _ _ [d] [.kl (ns.map .int)] h rfl S
 rw[hG ns hl] at this
 obtain⟨d',h',e,_,_,r⟩:=this
 cases r with
 |bl=>exact⟨h',e⟩
 |cell p e r=>cases r
section
variable(e:E3)
@[simp] theorem gy(a:α)(f:α->E3->R3 β):(R3.ok a e).bind f=f a e:=rfl
@[simp] theorem NA(a:α)(f:α->E3->SR3):(R3.ok a e).toS f=f a e:=rfl
@[simp] theorem Mk(f:E3->SR3):(SR3.nx e).then f=f e:=rfl
@[simp] theorem L9(r:Rt)(f:E3->SR3):(SR3.rt r e).then f=.rt r e:=rfl
@[simp] theorem J2(c:Str)(f:E3->SR3):(SR3.exc c e).then f=.exc c e:=rfl
@[simp] theorem o9(f:E3->SR3):(SR3.nx e).loop f=f e:=rfl
@[simp] theorem Mb(r:SR3):r.unl none=r:=by cases r <;> rfl
@[simp] theorem zS:lockO e none=e:=rfl
@[simp] theorem wK:eG e none=e:=rfl
@[simp] theorem Hr(v:Val):(Bv.val v).at e=.ok (.val v) e:=rfl
@[simp] theorem He(v:Val):(Bv.new v).at e=.ok (.new v) e:=rfl
@[simp] theorem Kz(v:Val):rs e (.val v)=some v:=rfl
@[simp] theorem Ho(v:Val):rs e (.new v)=some v:=rfl
@[simp] theorem Hz(i:Nat):rs e (.bor i)=(e[i]?).bind Sl.val:=rfl
@[simp] theorem Ja(v:Val):(Tm.val v).drop=.val v:=rfl
@[simp] theorem JZ(v:Val):(Tm.new v).drop=.val v:=rfl
@[simp] theorem K3(i:Nat):(Tm.bor i).drop=.bor i:=rfl
@[simp] theorem D4:rss e []=some []:=rfl
@[simp] theorem BK(t:Tm)(ts:List Tm):rss e (t::ts)=match rs e t,rss e ts with
 |some v,some vs=>some (v::vs)
 |_,_=>none:=rfl
@[simp] theorem GI(v:Val):b8 e (.val v)=some (e,v):=rfl
@[simp] theorem K4(v:Val):b8 e (.new v)=some (e,v):=rfl
@[simp] theorem yj:dem e []=some (e,[]):=rfl
@[simp] theorem FX(t:Tm)(ts:List Tm):dem e (t::ts)=match b8 e t with
 |some (e1,v)=>match dem e1 ts with
  |some (e2,vs)=>some (e2,v::vs)
  |none=>none
 |none=>none:=rfl
@[simp] theorem JB(b:Bool):bOf (some (.bl b))=some b:=rfl
@[simp] theorem Na(i:Nat):(af i).G e=match e[i]? with
 |some (.sh v)=>.ok (.val v) e
 |some .no=>.stuck
 |some _=>.ok (.bor i) e
 |none=>.stuck:=rfl
@[simp] theorem Mf(i:Int):(ah i).G e=.ok (.val (.int i)) e:=rfl
@[simp] theorem v_bl(i:Bool):(pBl i).G e=.ok (.val (.bl i)) e:=rfl
@[simp] theorem Mj(i:Str):(bX i).G e=.ok (.val (.str i)) e:=rfl
@[simp] theorem v_ty(i:String):(pTy i).G e=.ok (.val (.ty i)) e:=rfl
@[simp] theorem MR(i:Str):(CC i).G e=.ok (.val (.glb i)) e:=rfl
@[simp] theorem v_un(o:PU1)(a:PEx):(pUn o a).G e=(a.G e).bind λt e1=>match rs e1 t with
 |some v=>(o.G v).at e1
 |none=>.stuck:=rfl
@[simp] theorem v_op(o:PO2)(a b:PEx):(pOp o a b).G e=(a.G e).bind λt1 e1=>(b.G e1).bind λt2 e2=>match rs e2 t1.drop,rs e2 t2 with
 |some v1,some v2=>(o.G v1 v2).at e2
 |_,_=>.stuck:=rfl
@[simp] theorem Mu:ag.G e=.ok [] e:=rfl
@[simp] theorem Ke(a:PEx)(r:PAs):(aa a r).G e=(a.G e).bind λt e1=>(r.G e1).bind λts e2=>.ok (t.drop::ts) e2:=rfl
@[simp] theorem v_fn(o:PBf)(a:PAs):(pFn o a).G e=(a.G e).bind λts e1=>match rss e1 ts with
 |some vs=>(o.G vs).at e1
 |none=>.stuck:=rfl
@[simp] theorem LJ(a:PAs):(bC a).G e=(a.G e).bind λts e1=>match dem e1 ts with
 |some (e2,vs)=>if vs.length<=16777216 then .ok (.val (.tup vs)) e2 else .stuck
 |none=>.stuck:=rfl
@[simp] theorem L4(a:PAs):(df a).G e=(a.G e).bind λts e1=>match dem e1 ts with
 |some (e2,vs)=>if vs.length<=16777216 then .ok (.new (.lst vs)) e2 else .stuck
 |none=>.stuck:=rfl
@[simp] theorem Lj(a b:PEx):(i9 a b).G e=(a.G e).bind λt e1=>match bOf (rs e1 t) with
 |some true=>b.G e1
 |some false=>.ok (.val (.bl false)) e1
 |none=>.stuck:=rfl
@[simp] theorem NC(a:PEx):(Bf a).G e=(a.G e).bind λt e1=>match bOf (rs e1 t) with
 |some b=>.ok (.val (.bl (!b))) e1
 |none=>.stuck:=rfl
@[simp] theorem c_of(a:PEx):(qOf a).G e=(a.G e).bind λt e1=>match bOf (rs e1 t) with
 |some b=>.ok b e1
 |none=>.stuck:=rfl
@[simp] theorem c_tr(a:PEx):(qTr a).G e=(a.G e).bind λt e1=>match (rs e1 t).bind kN with
 |some b=>.ok b e1
 |none=>.stuck:=rfl
@[simp] theorem c_an(a b:PTs):(qAn a b).G e=(a.G e).bind λk e1=>if k=true then b.G e1 else .ok false e1:=rfl
@[simp] theorem c_o(a b:PTs):(qO a b).G e=(a.G e).bind λk e1=>if k=true then .ok true e1 else b.G e1:=rfl
@[simp] theorem c_no(a:PTs):(qNo a).G e=(a.G e).bind λk e1=>.ok (!k) e1:=rfl
@[simp] theorem x_nx:xNx.G e=.nx e:=rfl
@[simp] theorem Gg:vf.G e=.rt (.val .non) e:=rfl
@[simp] theorem M5(a:PEx):(az a).G e=(a.G e).toS nJ:=rfl
@[simp] theorem E6(v:Val):nJ (.val v) e=.rt (.val v) e:=rfl
@[simp] theorem EG(v:Val):nJ (.new v) e=.rt (.new v) e:=rfl
@[simp] theorem FN(i:Nat):nJ (.bor i) e=match e[i]? with
 |some (.sh v)=>.rt (.val v) e
 |some (.ow v)=>.rt (.new v) (e.set i .no)
 |some (.mu _)=>.rt (.par i) e
 |_=>.stuck:=rfl
@[simp] theorem IT(a:PEx):(bz a).G e=(a.G e).toS λ_ e1=>.nx e1:=rfl
@[simp] theorem CK(a b:PSt):(aj a b).G e=(a.G e).then b.G:=rfl
@[simp] theorem x_if(c:PTs)(a b:PSt):(xIf c a b).G e=(c.G e).toS λk e1=>if k=true then a.G e1 else b.G e1:=rfl
@[simp] theorem MN(o:Bool)(i:Nat)(a:PEx):(au o i a).G e=(a.G e).toS (gX o i):=rfl
@[simp] theorem Nz:Sl.no.pl=true:=rfl
@[simp] theorem MU(v:Val):(Sl.sh v).pl=true:=rfl
@[simp] theorem EC(o:Bool)(i:Nat)(v:Val):gX o i (.val v) e=match e[i]? with
 |some s0=>if s0.pl=true then .nx (e.set i (.sh v)) else .stuck
 |none=>.stuck:=by unfold gX;rfl
@[simp] theorem zU(i:Nat)(v:Val):gX true i (.new v) e=match e[i]? with
 |some s0=>if s0.pl=true then .nx (e.set i (.ow v)) else .stuck
 |none=>.stuck:=by unfold gX;rfl
@[simp] theorem Bm(i:Nat)(v:Val):gX false i (.new v) e=match e[i]? with
 |some s0=>if s0.pl=true then .nx (e.set i (.sh v)) else .stuck
 |none=>.stuck:=by unfold gX;rfl
@[simp] theorem g_n(i:Nat)(v:Val):(gtN i).G v e=match e[i]? with
 |some s=>if s.pl=true then some (e.set i (.sh v)) else none
 |none=>none:=rfl
@[simp] theorem g_sn:cX.G [] e=some e:=rfl
@[simp] theorem g_sc(a:PGt)(b:PGs)(v:Val)(vs:List Val):(aO a b).G (v::vs) e=(a.G v e).bind λe1=>b.G vs e1:=rfl
@[simp] theorem g_t(n:Nat)(a:PGs)(vs:List Val):(gtT n a).G (.tup vs) e=if vs.length=n then a.G vs e else none:=rfl
@[simp] theorem g_x(a:PGt)(v:Val):(gtX a).G v e=a.G v e:=rfl
@[simp] theorem Gj(a:PEx)(g:PGt):(gH a g).G e=(a.G e).toS λt e1=>match b8 e1 t with
 |some (e2,v)=>match g.G v e2 with
  |some e3=>.nx e3
  |none=>.stuck
 |none=>.stuck:=rfl
@[simp] theorem Nk(i j:Nat)(a:PAs):(fO i j a).G e=(a.G e).toS λts e1=>match dem e1 ts with
 |some (e2,[v,u])=>match (pN i v e2).bind (pN j u) with
  |some e3=>.nx e3
  |none=>.stuck
 |_=>.stuck:=rfl
@[simp] theorem Ll(i:Nat)(v:Val):pN i v e=match e[i]? with
 |some s=>if s.pl=true then some (e.set i (.sh v)) else none
 |none=>none:=rfl
@[simp] theorem Of(i:Nat)(o:PO2)(a:PEx):(v5 i o a).G e=match e[i]? with
 |some (.sh x)=>(a.G e).toS λt e1=>match rs e1 t with
  |some y=>match o.G x y with
   |.val z=>match pN i z e1 with
    |some e2=>.nx e2
    |none=>.stuck
   |_=>.stuck
  |none=>.stuck
 |_=>.stuck:=rfl
@[simp] theorem Fh(c:Str)(a:PAs):(dP c a).G e=(a.G e).toS λts e1=>if ts.length<=16777216 then .exc c e1 else .stuck:=rfl
@[simp] theorem Mx(i:Nat)(w:PSe)(k a:PEx):(qN i w k a).G e=(a.G e).toS λt e1=>match (e1[i]?).bind Sl.mv with
 |none=>.stuck
 |some _=>(k.G e1).toS λt2 e2=>match rs e2 t2 with
  |none=>.stuck
  |some vi=>match b8 e2 t.drop with
   |none=>.stuck
   |some (e3,v)=>match e3[i]? with
    |none=>.stuck
    |some s=>match s.mv with
     |none=>.stuck
     |some u=>match w.G u vi v with
      |some u'=>.nx (e3.set i (s.re u'))
      |none=>.stuck:=rfl
@[simp] theorem MW(v:Val):(Sl.ow v).mv=some v:=rfl
@[simp] theorem NK(v:Val):(Sl.mu v).mv=some v:=rfl
@[simp] theorem M9(v u:Val):(Sl.ow v).re u=.ow u:=rfl
@[simp] theorem Mc(v u:Val):(Sl.mu v).re u=.mu u:=rfl
@[simp] theorem G9(v:Val):(Sl.ow v).val=some v:=rfl
@[simp] theorem H9(v:Val):(Sl.mu v).val=some v:=rfl
@[simp] theorem Lp(i:Nat)(m:PMm)(a:PAs):(iH i m a).G e=match e[i]? with
 |some s=>if (s.mv.map eA)=some true then (a.G e).bind λts e1=>match dem e1 ts with
  |some (e2,vs)=>match e2[i]? with
   |some s2=>match s2.mv with
    |some u=>match m.G u vs with
     |some (u',v)=>.ok (.val v) (e2.set i (s2.re u'))
     |none=>.stuck
    |none=>.stuck
   |none=>.stuck
  |none=>.stuck else .stuck
 |none=>.stuck:=rfl
@[simp] theorem Lh(i:Nat)(m:PMm):(o6 i m).G e=match e[i]? with
 |some s=>if (s.mv.map eA)=some true then (match s.mv with
  |some u=>match m.G u [] with
   |some (u',v)=>.ok (.val v) (e.set i (s.re u'))
   |none=>.stuck
  |none=>.stuck) else .stuck
 |none=>.stuck:=by
 show kX i m.G nF e=_
 unfold kX
 cases q:e[i]? with
 |none=>rfl
 |
  some s=>
  dsimp only
  split
  ·simp only[nF,gy,yj,q];try rfl
  ·rfl
@[simp] theorem BH(xs:List Val):eA (.lst xs)=true:=rfl
@[simp] theorem N7(a:PEx):(c7 a).G e=(a.G e).bind λt e1=>match fg t e1 with
 |some p=>.ok p e1
 |none=>.stuck:=rfl
@[simp] theorem NU(a:PAs):(wZ a).G e=(a.G e).bind λts e1=>match ts with
 | [t,u]=>(match fg t e1,fg u e1 with
  |some (xs,k),some (ys,none)=>.ok (List.zipWith (λx y=>.tup [x,y]) xs ys,k) e1
  |_,_=>.stuck)
 |_=>.stuck:=rfl
@[simp] theorem IG(v:Val):fg (.val v) e=(gG v).map λxs=>(xs,none):=rfl
@[simp] theorem Ih(v:Val):fg (.new v) e=(gG v).map λxs=>(xs,none):=rfl
@[simp] theorem Ky(xs:List Val):gG (.tup xs)=some xs:=rfl
@[simp] theorem Im(xs:List Val):gG (.lst xs)=some xs:=rfl
@[simp] theorem MJ(a:PAs):(jJ a).G e=(a.G e).bind λts e1=>match (rss e1 ts).bind gO with
 |some xs=>.ok (xs,none) e1
 |none=>.stuck:=rfl
@[simp] theorem NY(i:PIt)(g:PGt)(b:PSt):(kP i g b).G e=(i.G e).toS λp e1=>(eW g.G b.G p.1 (lockO e1 p.2)).unl p.2:=rfl
@[simp] theorem jN(g:MG3)(B:MS3):eW g B [] e=.nx e:=rfl
theorem fu(g:MG3)(B:MS3)(v:Val)(vs:List Val):eW g B (v::vs) e=match g v e with
 |some e1=>(B e1).loop (eW g B vs)
 |none=>.stuck:=rfl
def g9(c:PTs)(b:PSt):(xWh c b).G e=(c.G e).toS λk e1=>if k=true then (b.G e1).loop (xWh c b).G else .nx e1:=Bn c.G b.G e
@[simp] theorem v_lc(i:PIt)(sub:Rg)(hs:(sub.filterMap id).Nodup)(g:PGt)(c:PTs)(a:PEx):(pLC i sub hs g c a).G e=(i.G e).bind λp e1=>match lcV g.G c.G a.G p.1 [] (bZ sub (lockO e1 p.2)) with
 |.ok ys e2=>if ys.length<=16777216 then .ok (.new (.lst ys)) (eG (a9 sub e2 (lockO e1 p.2)) p.2) else .stuck
 |_=>.stuck:=rfl
@[simp] theorem Jm(f:PFn)(a:PAs):(ai f a).G e=(a.G e).bind λts e1=>match rss e1 ts with
 |none=>.stuck
 |some vs=>if okA e1 f.ms ts=true then (match f.G vs with
  |.stuck=>.stuck
  |.ok r mv=>if (aS e1 f.ms ts).isEmpty || (j9 r&&mv.all cK) then .ok (r.tm ts) (a9 (bO f.ms ts) (aC f.ms mv) e1) else (match nC e1 (aS e1 f.ms ts) with
   |some e2=>.ok (r.tm ts) (a9 (bO f.ms ts) (aC f.ms mv) e2)
   |none=>.stuck)
  |.exc c mv=>if (aS e1 f.ms ts).isEmpty || mv.all cK then .exc c (a9 (bO f.ms ts) (aC f.ms mv) e1) else .stuck) else .stuck:=rfl
@[simp] theorem IQ(ts:List Tm)(v:Val):(Rt.val v).tm ts=.val v:=rfl
@[simp] theorem IC(ts:List Tm)(v:Val):(Rt.new v).tm ts=.new v:=rfl
@[simp] theorem o_n:oN.G e=.ok none e:=rfl
@[simp] theorem o_s(a:PEx):(oS a).G e=(a.G e).bind λt e1=>match rs e1 t with
 |some (.int i)=>.ok (some i) e1
 |_=>.stuck:=rfl
@[simp] theorem v_sl(a:PEx)(l u:POp):(pSl a l u).G e=(a.G e).bind λt e1=>(l.G e1).bind λlo e2=>(u.G e2).bind λhi e3=>match rs e3 t.drop with
 |some v=>(aSl v lo hi).at e3
 |none=>.stuck:=rfl
@[simp] theorem v_d0:pD0.G e=.ok (.new (.dct [])) e:=rfl
theorem aL(ms:List Bool)(N:Nat)(c:PSt)(vs:List Val):(fnP ms N c).G vs=if vs.length=ms.length then (match c.G (sls ms vs++List.replicate (N-vs.length) .no) with
 |.nx e=>(match muV ms e with |some mv=>.ok (.val .non) mv |none=>.stuck)
 |.rt r e=>(match muV ms e with |some mv=>.ok r mv |none=>.stuck)
 |.exc c e=>(match muV ms e with |some mv=>.exc c mv |none=>.stuck)
 |_=>.stuck) else .stuck:=rfl
theorem j6(ms:List Bool)(N:Nat)(c:PSt)(vs:List Val):(PFx.of ms N c).G vs=if vs.length=ms.length then (match c.G (sls ms vs++List.replicate (N-vs.length) .no) with
 |.nx e=>(match muV ms e with |some mv=>.ok (.val .non) mv |none=>.stuck)
 |.rt r e=>(match muV ms e with |some mv=>.ok r mv |none=>.stuck)
 |.exc c e=>(match muV ms e with |some mv=>.exc c mv |none=>.stuck)
 |_=>.stuck) else .stuck:=rfl
@[simp] theorem Nq(p:PFx ms):p.fn.ms=ms:=rfl
@[simp] theorem fx_G(p:PFx ms)(vs:List Val):p.fn.G vs=p.G vs:=rfl
end
@[simp] theorem ML(i j:Int):aV.G (.int i) (.int j)=.val (.int (i+j)):=rfl
@[simp] theorem Nt(i j:Int):dN.G (.int i) (.int j)=.val (.int (i-j)):=rfl
@[simp] theorem k_lt(i j:Int):bLt.G (.int i) (.int j)=.val (.bl (decide (i<j))):=rfl
@[simp] theorem k_gt(i j:Int):bGt.G (.int i) (.int j)=.val (.bl (decide (j<i))):=rfl
@[simp] theorem k_ge(i j:Int):bGe.G (.int i) (.int j)=.val (.bl (decide (j<=i))):=rfl
@[simp] theorem Mp(i j:Int):vI.G (.int i) (.int j)=.val (.int (i+j)):=rfl
@[simp] theorem NL(i:Int):qS.G (.int i)=.val (.int (-i)):=rfl
def aZ(c:CMulA i j):aG.G (.int i) (.int j)=.val (.int (i*j)):=by show xj (.int i) (.int j)=_;unfold xj aIc;dsimp only;rw[if_pos c]
def jK(c:CDivB i j):iU.G (.int i) (.int j)=.val (.int (i.fdiv j)):=by show xg (.int i) (.int j)=_;unfold xg aIc;dsimp only;rw[if_pos c]
def eI(c:j≠0):bS.G (.int i) (.int j)=.val (.int (i.fmod j)):=by show vJ (.int i) (.int j)=_;unfold vJ aIc;dsimp only;rw[if_pos c]
def oY(c:fK i j):fN.G (.int i) (.int j)=.val (.int (i^j.toNat)):=by show wu (.int i) (.int j)=_;unfold wu aIc;dsimp only;rw[if_pos c]
def LD(c:fK i j):sU.G (.int i) (.int j)=.val (.int (i*2^j.toNat)):=by show v3 (.int i) (.int j)=_;unfold v3 aIc;dsimp only;rw[if_pos c]
@[simp] theorem k_ix(x:Val)(i:Int):bIx.G x (.int i)=match x.items with
 |some xs=>(match atI xs i with
  |some v=>.val v
  |none=>.stuck)
 |none=>.stuck:=by show aIx x (.int i)=_;unfold aIx;cases x.items <;> rfl
@[simp] theorem Lg(xs:List Val):(Val.tup xs).items=some xs:=rfl
@[simp] theorem Ka(xs:List Val):(Val.lst xs).items=some xs:=rfl
@[simp] theorem M1(xs:List Val):(Val.kl xs).items=some xs:=rfl
@[simp] theorem k_eq(x y:Val):bEq.G x y=match bR x y with
 |some b=>.val (.bl b)
 |none=>.stuck:=by show aEq false x y=_;unfold aEq;cases bR x y <;> rfl
@[simp] theorem k_ne(x y:Val):bNe.G x y=match bR x y with
 |some b=>.val (.bl (!b))
 |none=>.stuck:=by show aEq true x y=_;unfold aEq;cases bR x y <;> rfl
@[simp] theorem L6(x y:Int):bR (.int x) (.int y)=some (x==y):=rfl
def eq_str(hx:PyData.strOk x=true)(hy:PyData.strOk y=true):bR (.str x) (.str y)=some (x==y):=by
 unfold bR
 show (if shp (.str x)=true/\shp (.str y)=true then _ else _)=_
 rw[if_pos ⟨gE hx (N_ _),gE hy (N_ _)⟩]
 rfl
@[simp] theorem k_is(x:Val):bIs.G x .non=match x with
 |.non=>.val (.bl true)
 |_=>.val (.bl false):=by cases x <;> rfl
@[simp] theorem LG(v:Val):b0.G [v]=match v.items with
 |some xs=>.val (.int xs.length)
 |none=>(match v with
  |.str z=>if z.length<=16777216 then .val (.int z.length) else .stuck
  |_=>.stuck):=rfl
@[simp] theorem Np(i:Int):eL.G [.int i]=.val (.int (if i<0 then -i else i)):=rfl
@[simp] theorem Nh(i j:Int):qZ.G [.int i,.int j]=.val (.int (if j>i then j else i)):=rfl
@[simp] theorem NJ(i j:Int):sC.G [.int i,.int j]=.val (.int (if j<i then j else i)):=rfl
@[simp] theorem Nb(xs:List Val):o8.G [.lst xs]=match js xs with
 |some bs=>.val (.bl (bs.all id))
 |none=>.stuck:=rfl
@[simp] theorem Lo(xs:List Val):bH.G [.lst xs]=match dC xs with
 |some bs=>.val (.int bs.sum)
 |none=>.stuck:=rfl
@[simp] theorem Io(v:Val):pG.G [v]=match v.items with
 |some xs=>.new (.lst xs)
 |none=>.stuck:=rfl
@[simp] theorem Gs(b:Bool):o3.G [.bl b]=.val (.int (if b then 1 else 0)):=rfl
@[simp] theorem zR(xs:List Val)(v:Val):eB.G (.lst xs) [v]=if xs.length<16777216 then some (.lst (xs++[v]),.non) else none:=rfl
@[simp] theorem bu:∀(bs:List Int),dC (bs.map Val.int)=some bs
 | []=>rfl
 |b::r=>by show (dC (r.map Val.int)).map (b :: ·)=_;rw[bu r];rfl
def zx{K:W.Frag}{mg:Ra}{X:Cx}{ES:L2.St->XK}{sts:List Stmt}:DSs K mg X ES sts (λ_ _=>.stuck):=λpins s σ H D I ⟨_,_,_,_,_,p⟩=>p.elim
section
variable(K:W.Frag)(mg:Ra)(X:Cx)(ES:L2.St->XK)
@[irreducible] def DE(e:Expr)(F:ME):Prop:=L2.DE K mg X ES e F
@[irreducible] def DT(e:Expr)(F:MT):Prop:=L2.DT K mg X ES e F
@[irreducible] def DA(es:List Expr)(F:MA):Prop:=L2.DA K mg X ES es F
@[irreducible] def DS(st:Stmt)(F:MS):Prop:=L2.DS K mg X ES st F
@[irreducible] def DSs(st:List Stmt)(F:MS):Prop:=L2.DSs K mg X ES st F
@[irreducible] def DI(tg a_:Expr)(F:MI):Prop:=L2.DI K mg X ES tg a_ F
end
section
variable{K:W.Frag}{mg:Ra}{X:Cx}{ES:L2.St->XK}{e a b c o i tg a_ io:Expr}{es:List Expr}{st:Stmt}{sts sts':List Stmt}{p q r:PEx}{A:PAs}{t u:PTs}{x y:PSt}{g:PGt}{gs:PGs}{I:PIt}{pos:Pos}
def xF(i:Nat){x:Str}(hN:X.N[i]?=some x:=by rfl)(hv:Vis X.env.scope x:=by first |exact Or.inl rfl |exact Or.inr (Or.inl rfl) |exact Or.inr (Or.inr rfl))(hd:(x==("__debug__" : Str))=false:=by decide)(jp:(x==("__classdict__" : Str))=false:=by decide):DE K mg X ES (.Name x pos) (af i).F:=by with_unfolding_all exact Jw i hN hv hd jp
def IA{i:Int}{j:Nat}:DE K mg X ES (.Constant (.int i) j pos) (ah i).F:=by with_unfolding_all exact Gq
def My{i:Bool}{j:Nat}:DE K mg X ES (.Constant (.bool i) j pos) (pBl i).F:=by with_unfolding_all exact LZ
def G4{i:Str}{j:Nat}:DE K mg X ES (.Constant (.str i) j pos) (bX i).F:=by with_unfolding_all exact Jx
def Hv{x:Str}(hg:Gl X x)(ha:∃a,mg x=some (.ref a))(hm:X.mg=mg:=by rfl)(hd:(x==("__debug__" : Str))=false:=by decide):DE K mg X ES (.Name x pos) (CC x).F:=by with_unfolding_all exact G1 hg ha hm hd
def NX{x:Str}{d:D}{v:Val}{r:∀P h,Rd P h d v}(hg:Gl X x)(ha:GC K mg x d)(hm:X.mg=mg:=by rfl)(hd:(x==("__debug__" : Str))=false:=by decide):DE K mg X ES (.Name x pos) (my d v r).F:=by with_unfolding_all exact LN hg ha hm hd
def L8{x:Str}{n:String}(hg:Gl X x)(hm:mg x=none)(hv:bootBuiltins x=some (.type n))(he:X.mg=mg:=by rfl)(hn:x ≠ "__name__":=by decide)(hd:(x==("__debug__" : Str))=false:=by decide):DE K mg X ES (.Name x pos) (pTy n).F:=by with_unfolding_all exact MC hg hm hv he hn hd
def N4(ho:OpR X (binaryOp op) r')(hd:OpD K mg r' k.F)(ha:DE K mg X ES a p.F)(hb:DE K mg X ES b q.F):DE K mg X ES (.BinOp a op b pos) (pOp k p q).F:=by with_unfolding_all exact Nn ho hd ha hb
def Ng(hr:IxR X r')(hd:OpD K mg r' k.F)(ha:DE K mg X ES a p.F)(hb:DE K mg X ES b q.F)(hs:m7 b:=by exact λ_ _=>rfl):DE K mg X ES (.Subscript a b pos) (pOp k p q).F:=by with_unfolding_all exact Ma hr hd ha hb hs
def Gv(ho:OpR X (compareOp op) r')(hd:OpD K mg r' k.F)(ha:DE K mg X ES a p.F)(hb:DE K mg X ES b q.F)(hm:behindInMarks op b=false:=by first |exact zm _ |with_unfolding_all rfl):DE K mg X ES (.Compare a [op] [b] pos) (pOp k p q).F:=by with_unfolding_all exact KD ho hd ha hb hm
def HM(ho:OpR X (compareOp op) r')(hd:OpD K mg r' k.F)(ha:DE K mg X ES a p.F)(hb:DE K mg X ES b q.F)(hm:behindInMarks op b=false:=by first |exact zm _ |with_unfolding_all rfl):DT K mg X ES (.Compare a [op] [b] pos) (qOf (pOp k p q)).F:=by with_unfolding_all exact IF ho hd ha hb hm
def rT(ha:DE K mg X ES a p.F)(he:∀c_,isTrue a X.env c_=(do let v <- c_;standAt a.pos;holding [v] (truthy v)):=by intro _;rfl):DT K mg X ES a (qOf p).F:=by with_unfolding_all exact Ki ha he
def CB(hK:X.K=K)(ha:DE K mg X ES a p.F)(he:∀c_,isTrue a X.env c_=(do let v <- c_;standAt a.pos;holding [v] (truthy v)):=by intro _;rfl):DT K mg X ES a (qTr p).F:=by with_unfolding_all exact BC hK ha he
def qG(ha:DT K mg X ES a t.F):DT K mg X ES (.UnaryOp .Not a pos) (qNo t).F:=by with_unfolding_all exact G5 ha
def DX(ha:DT K mg X ES a t.F):DW K mg X ES (.BoolOp .And [a] pos) t.F:=by with_unfolding_all exact Fz ha
def Jy(ha:DT K mg X ES a t.F):DW K mg X ES (.BoolOp .Or [a] pos) t.F:=by with_unfolding_all exact Hc ha
def Gp(ha:DT K mg X ES a t.F)(hb:DW K mg X ES (.BoolOp .And (b::es) pos) u.F):DW K mg X ES (.BoolOp .And (a::b::es) pos) (qAn t u).F:=by with_unfolding_all exact Kt ha hb
def N3(ha:DT K mg X ES a t.F)(hb:DW K mg X ES (.BoolOp .Or (b::es) pos) u.F):DW K mg X ES (.BoolOp .Or (a::b::es) pos) (qO t u).F:=by with_unfolding_all exact NW ha hb
def ZW.dt(h:DW K mg X ES a t.F):DT K mg X ES a t.F:=by with_unfolding_all exact DW.dt h
def zt_w{op}(h:DW K mg X ES (.BoolOp op es pos) t.F):DT K mg X ES (.BoolOp op es pos) t.F:=ZW.dt h
def HQ{op}(h:DE K mg X ES a p.F):DE K mg X ES (.BoolOp op [a] pos) p.F:=by with_unfolding_all exact KG h
def Kr(ha:DE K mg X ES a p.F)(hb:DE K mg X ES (.BoolOp .And (b::es) pos) q.F):DE K mg X ES (.BoolOp .And (a::b::es) pos) (i9 p q).F:=by with_unfolding_all exact Hq ha hb
def Gu(ha:DE K mg X ES a p.F):DE K mg X ES (.UnaryOp .Not a pos) (Bf p).F:=by with_unfolding_all exact Jq ha
def MB(ho:UnR X (unaryOp op) r')(hd:UnD K mg r' k.F)(ha:DE K mg X ES a p.F):DE K mg X ES (.UnaryOp op a pos) (pUn k p).F:=by with_unfolding_all exact Mo ho hd ha
def Iu:DA K mg X ES [] ag.F:=by with_unfolding_all exact xB
def cI(ha:DE K mg X ES e p.F)(hr:DA K mg X ES es A.F)(hs:starEach (e::es) X.env=(false,eval e X.env)::starEach es X.env:=by rfl):DA K mg X ES (e::es) (aa p A).F:=by with_unfolding_all exact uA ha hr hs
def JN{x1}(h:DA K mg X ES es A.F):DE K mg X ES (.Tuple es x1 pos) (bC A).F:=by with_unfolding_all exact J3 h
def J4(h:DA K mg X ES es A.F):DE K mg X ES (.List es pos) (df A).F:=by with_unfolding_all exact Kv h
def gk{id:String}{r':List V->Hp->VK->Prop}{k:PBf}{x:Str}{p0:Pos}(hc:CallR X (.builtin id) r')(hd:aM K mg r' k.F)(hg:Gl X x)(hm:mg x=none)(hv:bootBuiltins x=some (.builtin id))(ha:DA K mg X ES (e::es) A.F)(hk:X.mg=mg:=by rfl)(hn:x ≠ "__name__":=by decide)(hdb:(x==("__debug__" : Str))=false:=by decide)(he:starEach (e::es) X.env=(false,eval e X.env)::starEach es X.env:=by rfl)(hpl:(backTo pos (starEach es X.env)).any (·.1)=false:=by rfl):DE K mg X ES (.Call (.Name x p0) (e::es) [] pos) (pFn k A).F:=by with_unfolding_all exact Ae hc hd hg hm hv ha hk hn hdb he hpl
def zJ{id:String}{r':List V->Hp->VK->Prop}{k:PBf}{x:Str}{p0:Pos}(hc:CallR X (.type id) r')(hd:aM K mg r' k.F)(hg:Gl X x)(hm:mg x=none)(hv:bootBuiltins x=some (.type id))(ha:DA K mg X ES (e::es) A.F)(hk:X.mg=mg:=by rfl)(hn:x ≠ "__name__":=by decide)(hdb:(x==("__debug__" : Str))=false:=by decide)(he:starEach (e::es) X.env=(false,eval e X.env)::starEach es X.env:=by rfl)(hpl:(backTo pos (starEach es X.env)).any (·.1)=false:=by rfl):DE K mg X ES (.Call (.Name x p0) (e::es) [] pos) (pFn k A).F:=by with_unfolding_all exact yG hc hd hg hm hv ha hk hn hdb he hpl
def Ao{f:PFn}{x:Str}{p0:Pos}{k n:Nat}{ps:List Str}(C:Callee X.prog X.w X.K X.mg X.base x k ps (spD K mg n f.F))(hr:Room k X.A)(hg:Gl X x)(hx:gC X ES)(ha:DA K mg X ES (e::es) A.F)(hn:f.ms.length=n)(hdb:(x==("__debug__" : Str))=false)(he:starEach (e::es) X.env=(false,eval e X.env)::starEach es X.env)(hpl:(backTo pos (starEach es X.env)).any (·.1)=false):DE K mg X ES (.Call (.Name x p0) (e::es) [] pos) (ai f A).F:=by
 subst hn
 with_unfolding_all exact Ba C hr hg hx ha hdb he hpl
def Ft:DSs K mg X ES [] xNx.F:=by with_unfolding_all exact DR
def fo(h1:DS K mg X ES st x.F):DSs K mg X ES [st] x.F:=by with_unfolding_all exact FF h1
def ay(h1:DS K mg X ES st x.F)(h2:DSs K mg X ES sts y.F):DSs K mg X ES (st::sts) (aj x y).F:=by with_unfolding_all exact BG h1 h2
def Es:DS K mg X ES (.Return none pos) vf.F:=by with_unfolding_all exact E2
def gw(he:DE K mg X ES e p.F):DS K mg X ES (.Return (some e) pos) (az p).F:=by with_unfolding_all exact GD he
def Eo(he:DE K mg X ES e p.F)(hs:swapsWith e none pos.line X.env=pure false:=by rfl):DS K mg X ES (.Expr e pos) (bz p).F:=by with_unfolding_all exact FI he hs
def pf(hc:DT K mg X ES c t.F)(ha:DSs K mg X ES sts x.F)(hb:DSs K mg X ES sts' y.F):DS K mg X ES (.If c sts sts' pos) (xIf t x y).F:=by with_unfolding_all exact NZ hc ha hb
def FV{i:Nat}{x:Str}(hN:X.N.Nodup)(hi:X.N[i]?=some x)(hx:Loc X.env.scope x)(hf:X.fn x=true\/X.env.scope.names.lookup x=some .local):DG K mg X ES (.Name x pos) (gtN i).F:=D3 hN hi hx hf
def DP:DGs K mg X ES [] cX.F:=D8
def Bw(h1:DG K mg X (λ_=>E0) e g.F)(h2:DGs K mg X (λ_=>E0) es gs.F)(hs:(assignEach (e::es) X.env).map (·.2)=assign e X.env::(assignEach es X.env).map (·.2):=by rfl):DGs K mg X (λ_=>E0) (e::es) (aO g gs).F:=AK h1 h2 hs
def Gh(hK:X.K=K)(hc:X.calm=true)(h:DGs K mg X (λ_=>E0) es gs.F)(hn:(assignEach es X.env).length=n:=by rfl)(hst:(assignEach es X.env).findIdx? (·.1)=none:=by rfl):DG K mg X (λ_=>E0) (.Tuple es k pos) (gtT n gs).F:=JC hK hc h hn hst
def ZG.weak(hg:DG K mg X (λ_=>E0) e g.F):DG K mg X ES e (gtX g).F:=DG.weak hg
def DZ(he:DE K mg X ES e p.F)(hg:DG K mg X ES a g.F)(hs:swapsWithSole [a] e pos.line X.env=pure false:=by rfl)(hw:swappedStores [a] e X.env=pure none:=by rfl)(h1:(assignEach [a] X.env).map (·.2)=[assign a X.env]:=by rfl):DS K mg X ES (.Assign [a] e pos) (gH p g).F:=by with_unfolding_all exact xN he hg hs hw h1
def Ep(he:DE K mg X ES e p.F)(ho:DE K mg X ES o (af j).F)(hi:DE K mg X ES i q.F)(hs':qE X r')(hd:mV K mg r' w.F)(hs:swapsWithSole [.Subscript o i p1] e pos.line X.env=pure false:=by rfl)(hw:swappedStores [.Subscript o i p1] e X.env=pure none:=by rfl)(h1:(assignEach [.Subscript o i p1] X.env).map (·.2)=[assign (.Subscript o i p1) X.env]:=by rfl)
 (ha:∀v,assign (.Subscript o i p1) X.env v=(do
  let ov <- holding [v] (eval o X.env)
  let iv <- holding [v,ov] (eval i X.env)
  standAt p1
  holding [v,ov,iv] (setItem ov iv v)
  release [v,ov,iv] []):=by intro _;rfl):DS K mg X ES (.Assign [.Subscript o i p1] e pos) (qN j w q p).F:=by with_unfolding_all exact xN he (HW ho hi hs' hd ha) hs hw h1
def Jt{ow:Bool}{i:Nat}{x:Str}{im:Pos}(hN:X.N.Nodup)(hi:X.N[i]?=some x)(hx:Loc X.env.scope x)(he:DE K mg X ES e p.F)(hs:swapsWith e (some (.Name x im)) pos.line X.env=pure false)(hf:X.fn x=true\/X.env.scope.names.lookup x=some .local):DS K mg X ES (.Assign [.Name x im] e pos) (au ow i p).F:=by with_unfolding_all exact Ko hN hi hx he hs hf
def GK{i j:Nat}{x y:Str}{px py pt:Pos}{kt k2 pt2}(hN:X.N.Nodup)(ha:DA K mg X ES [a,b] A.F)(hc:X.calm=true:=by rfl)(hi:X.N[i]?=some x:=by rfl)(hj:X.N[j]?=some y:=by rfl)(hij:i≠j:=by decide)(hx:X.env.scope.names.lookup x=some .local:=by rfl)(hy:X.env.scope.names.lookup y=some .local:=by rfl)(hw:swappedStores [.Tuple [.Name x px,.Name y py] kt pt] (.Tuple [a,b] k2 pt2) X.env=pure (some [x,y]):=by rfl)(hs:swapsWithSole [.Tuple [.Name x px,.Name y py] kt pt] (.Tuple [a,b] k2 pt2) pos.line X.env=pure false:=by rfl):DS K mg X ES (.Assign [.Tuple [.Name x px,.Name y py] kt pt] (.Tuple [a,b] k2 pt2) pos) (fO i j A).F:=by with_unfolding_all exact II hc hN hi hj hij hx hy ha hw hs
def J9{i:Nat}{x:Str}{op:Operator}{ti:TIp}{im:Pos}{k:PO2}(hN:X.N.Nodup)(he:DE K mg X ES e p.F)(ho:PIp X op ti)(hd:IpD K mg ti k.F)(hi:X.N[i]?=some x:=by rfl)(hx:Loc X.env.scope x:=by first |exact Or.inl rfl |exact Or.inr rfl)(hf:X.fn x=true\/X.env.scope.names.lookup x=some .local:=by first |exact .inl rfl |exact .inr rfl |assumption):DS K mg X ES (.AugAssign (.Name x im) op e pos) (v5 i k p).F:=by with_unfolding_all exact Hg hN hi hx he ho hd hf
def B7{x:Str}{C:Addr}{E:XK}{np cpos:Pos}(hc:X.calm=true)(hR:Rz X E)(hg:Gl X x)(hm:mg x=some (.ref C))(hq:W.excIn X.K C k8 "ValueError.__new__"=true)(ha:DA K mg X (λ_=>E) (e::es) A.F)(hk:X.mg=mg:=by rfl)(he:starEach (e::es) X.env=(false,eval e X.env)::starEach es X.env:=by rfl)(ci:(backTo cpos (starEach es X.env)).any (·.1)=false:=by rfl)(hd:(x==("__debug__" : Str))=false:=by decide):DS K mg X (λ_=>E) (.Raise (some (.Call (.Name x np) (e::es) [] cpos)) none pos) (dP x A).F:=by with_unfolding_all exact Ck hc hR hg hm hq ha hk he ci hd
def xQ(hK:X.K=K)(he:DE K mg X ES e p.F):DI K mg X ES tg e (c7 p).F:=by with_unfolding_all exact Ji hK he
def xJ(hg:Gl X "range")(hm:mg "range"=none)(ha:DA K mg X ES [a] A.F)(hk:X.mg=mg:=by rfl)(hs:starEach [a] X.env=[(false,eval a X.env)]:=by rfl):DI K mg X ES tg (.Call (.Name "range" p0) [a] [] pos) (jJ A).F:=by with_unfolding_all exact zE hg hm ha hk hs
def xU(hg:Gl X "range")(hm:mg "range"=none)(ha:DA K mg X ES [a,b] A.F)(hk:X.mg=mg:=by rfl)(hs:starEach [a,b] X.env=[(false,eval a X.env),(false,eval b X.env)]:=by rfl)(hs2:starEach [b] X.env=[(false,eval b X.env)]:=by rfl):DI K mg X ES tg (.Call (.Name "range" p0) [a,b] [] pos) (CS A).F:=by with_unfolding_all exact yu hg hm ha hk hs hs2
def J1(hK:X.K=K)(hg:Gl X "zip")(hm:mg "zip"=none)(ha:DA K mg X ES [a,b] A.F)(hk:X.mg=mg:=by rfl)(hs:starEach [a,b] X.env=[(false,eval a X.env),(false,eval b X.env)]:=by rfl)(hs2:starEach [b] X.env=[(false,eval b X.env)]:=by rfl):DI K mg X ES (.Tuple elts x1 tp) (.Call (.Name "zip" p0) [a,b] [] pos) (wZ A).F:=by with_unfolding_all exact Li hK hg hm ha hk hs hs2
def Gz(hp:PassesOwn (model X.prog X.w) X.A X.env X.xe)(hc:X.calm=true)(hi:DI K mg X ES tg a_ I.F)(hg:DG K mg X ES tg g.F)(hb:DSs K mg X ES sts x.F)(hs:∀x,foldedSetIterable a_ X.env x=pure x:=by intro _;rfl):DS K mg X ES (.For tg a_ sts [] pos) (kP I g x).F:=by with_unfolding_all exact GQ hp hc hi hg hb hs
def AX(hp:PassesOwn (model X.prog X.w) X.A X.env X.xe)(hc:DT K mg X ES c t.F)(hb:DSs K mg X ES sts x.F):DS K mg X ES (.While c sts [] pos) (xWh t x).F:=by with_unfolding_all exact Au hp hc hb
def LK{scope:Scope}(M:List Str)(kn:List (Str×NameKind))(N:List Str)(sub:Rg){hsb:(sub.filterMap id).Nodup}(hc:X.calm=true)(hi:DI K mg X ES tg a_ I.F)(hg:∀cl C s₂ H fp,DG K mg (aF X N scope cl C s₂ H fp) (λ_=>E0) tg g.F)(he:∀cl C s₂ H fp,DE K mg (aF X N scope cl C s₂ H fp) (λ_=>E0) io p.F)(hM:X.N=M)(hkn:X.env.scope.names=kn)(f_:fB M scope.names sub N=true)(hk:scope.kind=.function)(hnc:∀x∈scope.names,x.2 ≠ .cell)(b_:∀x∈scope.names,x.2=.local->scope.names.lookup x.1=some .local)(hfr:gQ kn scope.names=true)(hsl:sub.length=N.length)(hs:∀x,foldedSetIterable a_ X.env x=pure x):DE K mg X ES (.ListComp io [⟨tg,a_,[],0⟩] scope pos) (pLC I sub hsb g qY p).F:=by with_unfolding_all exact LB M kn N sub hc hi hg he hM hkn f_ hk hnc b_ hfr hsl hs
def M6{ow:Bool}{px spos:Pos}{iT:Nat}{xT:Str}{scope:Scope}(M:List Str)(kn:List (Str×NameKind))(N:List Str)(sub:Rg){hsb:(sub.filterMap id).Nodup}(hc:X.calm=true)(hN:X.N.Nodup)(hix:X.N[iT]?=some xT)(hxl:Loc X.env.scope xT)(hi:DI K mg X ES tg a_ I.F)(hg:∀cl C s₂ H fp,DG K mg (aF X N scope cl C s₂ H fp) (λ_=>E0) tg g.F)(he:∀cl C s₂ H fp,DE K mg (aF X N scope cl C s₂ H fp) (λ_=>E0) io p.F)(hsw:swapsWith (.ListComp io [⟨tg,a_,[],0⟩] scope pos) (some (.Name xT px)) spos.line X.env=pure true)(hM:X.N=M)(hkn:X.env.scope.names=kn)(f_:fB M scope.names sub N=true)(hk:scope.kind=.function)(hnc:∀x∈scope.names,x.2 ≠ .cell)(b_:∀x∈scope.names,x.2=.local->scope.names.lookup x.1=some .local)(hfr:gQ kn scope.names=true)(hsl:sub.length=N.length)(hs:∀x,foldedSetIterable a_ X.env x=pure x)(hf:X.fn xT=true\/X.env.scope.names.lookup xT=some .local):DS K mg X ES (.Assign [.Name xT px] (.ListComp io [⟨tg,a_,[],0⟩] scope pos) spos) (au ow iT (pLC I sub hsb g qY p)).F:=by with_unfolding_all exact Lk M kn N sub hc hN hix hxl hi hg he hsw hM hkn f_ hk hnc b_ hfr hsl hs hf
def KC{j:Nat}{name:Str}{id:String}{apos cpos:Pos}{r':V->List V->Hp->VK->Prop}{k:PMm}(hK:X.K=K)(slot:Slot "list" name id)(hty:typeOf (.builtin id)=pure (.type "method_descriptor"))(hm:MtM X id r')(hd:MtD K mg r' k.F)(ho:DE K mg X ES o (af j).F)(ha:DA K mg X ES (e::es) A.F)(db:attributeBase o name X.env (eval o X.env)=eval o X.env:=by rfl)(hfew:((backTo cpos (starEach (e::es) X.env)).all (λx=>!x.1)&&(backToKw cpos (keywordEach [] X.env)).all (λx=>x.1.isSome)&&decide ((e::es).length+([]:List Keyword).length+(if ([]:List Keyword).isEmpty then 0 else 1)<30))=true:=by rfl)(e_:(apos.endLine==cpos.line)=true:=by rfl)(hs:starEach (e::es) X.env=(false,eval e X.env)::starEach es X.env:=by rfl)(ci:(backTo cpos (starEach es X.env)).any (·.1)=false:=by rfl):DE K mg X ES (.Call (.Attribute o name apos) (e::es) [] cpos) (iH j k A).F:=by with_unfolding_all exact de_m hK slot hty hm hd ho ha db hfew e_ hs ci
def El{name:Str}{id:String}{apos cpos:Pos}{r':V->List V->Hp->VK->Prop}{k:PMv}(hK:X.K=K)(slot:Slot "list" name id)(hty:typeOf (.builtin id)=pure (.type "method_descriptor"))(hm:MtM X id r')(hd:MtD K mg r' k.F)(ho:DE K mg X ES o p.F)(ha:DA K mg X ES (e::es) A.F)(db:attributeBase o name X.env (eval o X.env)=eval o X.env:=by rfl)(hfew:((backTo cpos (starEach (e::es) X.env)).all (λx=>!x.1)&&(backToKw cpos (keywordEach [] X.env)).all (λx=>x.1.isSome)&&decide ((e::es).length+([]:List Keyword).length+(if ([]:List Keyword).isEmpty then 0 else 1)<30))=true:=by rfl)(e_:(apos.endLine==cpos.line)=true:=by rfl)(hs:starEach (e::es) X.env=(false,eval e X.env)::starEach es X.env:=by rfl)(ci:(backTo cpos (starEach es X.env)).any (·.1)=false:=by rfl):DE K mg X ES (.Call (.Attribute o name apos) (e::es) [] cpos) (C3 k p A).F:=by with_unfolding_all exact de_m hK slot hty hm hd ho ha db hfew e_ hs ci
def F9{j:Nat}{name:Str}{id:String}{apos cpos:Pos}{r':V->List V->Hp->VK->Prop}{k:PMm}(hK:X.K=K)(slot:Slot "list" name id)(hty:typeOf (.builtin id)=pure (.type "method_descriptor"))(hm:MtM X id r')(hd:MtD K mg r' k.F)(ho:DE K mg X ES o (af j).F)(db:attributeBase o name X.env (eval o X.env)=eval o X.env:=by rfl)(e_:(apos.endLine==cpos.line)=true:=by rfl):DE K mg X ES (.Call (.Attribute o name apos) [] [] cpos) (o6 j k).F:=by with_unfolding_all exact M7 hK slot hty hm hd ho db e_
def EJ:DO K mg X ES none oN.F:=EM
def EF(he:DE K mg X ES e p.F):DO K mg X ES (some e) (oS p).F:=by with_unfolding_all exact D7 he
def Bl{l u:POp}{lo hi:Option Expr}{p2:Pos}(hK:X.K=K)(he:DE K mg X ES e p.F)(hl:DO K mg X ES lo l.F)(hu:DO K mg X ES hi u.F):DE K mg X ES (.Subscript e (.Slice lo hi none p2) pos) (pSl p l u).F:=by with_unfolding_all exact Bi hK he hl hu
def Mn:DE K mg X ES (.Dict [] [] pos) pD0.F:=by with_unfolding_all exact Nf
def Ij:OpD K mg (λx y H Q=>rI0 (λi j=>.int (i+j)) x y H Q\/(nE x y H Q\/(jL K x y H Q\/jX K x y H Q))) aV.F:=Ju
def Km:OpD K mg (rI0 λi j=>.int (i-j)) dN.F:=KL
def Hw:OpD K mg (rI CMulA λi j=>.int (i*j)) aG.F:=GF
def JF:OpD K mg (rI CDivB λi j=>.int (i.fdiv j)) iU.F:=JT
def JA:OpD K mg (rI (λ_ j=>j≠0) λi j=>.int (i.fmod j)) bS.F:=Ie
def Jb:OpD K mg (rI fK λi j=>.int (i^j.toNat)) fN.F:=K2
def GV:OpD K mg (rI fK λi j=>.int (i*2^j.toNat)) sU.F:=HC
def C6:OpD K mg (rI0 λi j=>.bl (decide (i<j))) bLt.F:=Ly
def Dc:OpD K mg (rI0 λi j=>.bl (decide (j<i))) bGt.F:=N6
def CT:OpD K mg (rI0 λi j=>.bl (decide (j<=i))) bGe.F:=Lw
def Oh:OpD K mg (λx y H Q=>wo K x y H Q\/wB K x y H Q) bIx.F:=KN
def Df:OpD K mg (wN K) bEq.F:=Jo
def LC:OpD K mg (wF K) bNe.F:=K6
def Nc:OpD K mg (rIn K false) bIn.F:=(zK false)
def GN:OpD K mg (rIn K true) A2.F:=(zK true)
def Jl:aM K mg (λxs H Q=>(∃p ys,xs=[.ref p]/\(SqL K H p ys\/SqT K H p ys)/\Q (.int ys.length) H)\/(∃z,xs=[.str z]/\z.length<=sizeLine/\Q (.int z.length) H)) b0.F:=HV
def IP:aM K mg (λxs H Q=>∃i,xs=[.int i]/\Q (.int (if i<0 then -i else i)) H) eL.F:=Ia
def EY:aM K mg (λxs H Q=>∃i j,xs=[.int i,.int j]/\Q (.int (if j>i then j else i)) H) qZ.F:=FP
def FU:aM K mg (λxs H Q=>∃i j,xs=[.int i,.int j]/\Q (.int (if j<i then j else i)) H) sC.F:=Fp
def ym:aM K mg (λxs H Q=>∃(a:Addr) (bs:List Bool),xs=[.ref a]/\SqL K H a (bs.map V.bl)/\Q (.bl (bs.all id)) H) o8.F:=G8
def yE:aM K mg (λxs H Q=>∃(a:Addr) (ns:List Int),xs=[.ref a]/\SqL K H a (ns.map V.int)/\Q (.int ns.sum) H) bH.F:=Il
def EU:aM K mg (λxs H Q=>∃p ys,xs=[.ref p]/\(SqL K H p ys\/SqT K H p ys)/\∀l,H l=none->Q (.ref l) (upd H l (.lst ys))) pG.F:=DY
def Jj:aM K mg (λxs H Q=>(∃i,xs=[.int i]/\Q (.int i) H)\/∃k,xs=[.bl k]/\Q (.int (if k then 1 else 0)) H) o3.F:=Jd
def IV(ok:KitsOk K mg kt):aM K mg (λxs H Q=>(∃x c t v b,xs=[x,c]/\TyX K H x t/\eJ c=some v/\W.kitOne K t v=some b/\Q (.bl b) H)\/
 (∃x tp cs t vs b,xs=[x,.ref tp]/\SqT K H tp cs/\TyX K H x t/\cs.mapM eJ=some vs/\W.kitAny K t vs=some b/\Q (.bl b) H)) (bp kt).F:=HK ok
def yA:MtD K mg nA eB.F:=zy
def Kj:MtD K mg zT pq.F:=Ig
def CG:MtD K mg (jT K) u4.F:=AU
def Fm:mV K mg vT seL.F:=FD
def Hf:IpD K mg (ipI λi j=>i+j) vI.F:=Ey
def Kp:UnD K mg (rU λi=>.int (-i)) qS.F:=K9
variable{P:Program}{w:World}{base:Heap}{fx:Str}{ge:Stmt}{k n m:Nat}{ps N:List Str}{ms:List Bool}
def okP(D:Def K mg fx ge)(S:FnScope N ps (ak ge))
 (hb:∀(kV doc pm:Value) (an:Option Addr) (cdv ct:Value) (us:List Value),us.length=ps.length->bindArgs (W.fnOf fx fx (bI ge) (aK ge) (ak ge) .none kV doc pm an cdv ct) ⟨us,[]⟩=pure (ps.zip us))
 (d_:∀(f:Addr) (cdv:Value) (A:Around) (outer:List Env) (s:Shared) (H:Hp) (E:XK),Room k (A.deeper (envOfC fx (ak ge) s.heap.objs.size f cdv))->
  DSs K mg (cP (CX1 P w) P w K mg base N fx (ak ge) f cdv A outer s H E) (λ_=>E) (aK ge) x.F) (hn:ps.length=n) (hm:N.length=m):Callee P w K mg base fx (k+1) ps (spD K mg n (fnP ms m x).F):=by
 subst hn hm
 with_unfolding_all exact D.okD S hb d_
def okX(D:Def K mg fx ge)(S:FnScope N ps (ak ge))
 (hb:∀(kV doc pm:Value) (an:Option Addr) (cdv ct:Value) (us:List Value),us.length=ps.length->bindArgs (W.fnOf fx fx (bI ge) (aK ge) (ak ge) .none kV doc pm an cdv ct) ⟨us,[]⟩=pure (ps.zip us))
 (d_:∀(f:Addr) (cdv:Value) (A:Around) (outer:List Env) (s:Shared) (H:Hp) (E:XK),Room k (A.deeper (envOfC fx (ak ge) s.heap.objs.size f cdv))->
  DSs K mg (cP (CX1 P w) P w K mg base N fx (ak ge) f cdv A outer s H E) (λ_=>E) (aK ge) x.F) (hn:ps.length=n) (hm:N.length=m):Callee P w K mg base fx (k+1) ps (spD K mg n (PFx.of ms m x).F):=by
 subst hn hm
 with_unfolding_all exact D.okD S hb d_
def ok0(D:Def K mg fx ge)(S:FnScope N ps (ak ge))
 (hb:∀(kV doc pm:Value) (an:Option Addr) (cdv ct:Value) (us:List Value),us.length=ps.length->bindArgs (W.fnOf fx fx (bI ge) (aK ge) (ak ge) .none kV doc pm an cdv ct) ⟨us,[]⟩=pure (ps.zip us)) (hn:ps.length=n:=by rfl):Callee P w K mg base fx (k+1) ps (spD K mg n (PFx.none ms).F):=by
 subst hn
 exact D.okD (F:=λ_ _=>.stuck) S hb λ_ _ _ _ _ _ _ _=>zx
end
def HE(b:Bool)(ms:List Bool)(v:Val)(vs:List Val):sls (b::ms) (v::vs)=sl1 b v::sls ms vs:=rfl
def Ew:sls [] []=[]:=rfl
def Ni(v:Val):sl1 true v=.mu v:=rfl
def NN(v:Val):sl1 false v=.sh v:=rfl
section
variable(e:E3)
def F4:okA e [] []=true:=rfl
def Hj(i:Nat)(ms:List Bool)(ts:List Tm):okA e (true::ms) (.bor i::ts)=(((e[i]?).bind Sl.mv).isSome && !(gM i ts)&&okA e ms ts):=rfl
def Iv(v:Val)(ms:List Bool)(ts:List Tm):okA e (false::ms) (.val v::ts)=okA e ms ts:=rfl
def AS(i:Nat):gM i []=false:=rfl
def JY(i:Nat)(v:Val)(ts:List Tm):gM i (.val v::ts)=gM i ts:=rfl
def xq:aS e [] []=[]:=rfl
def Ec(v:Val)(ms:List Bool)(ts:List Tm):aS e (false::ms) (.val v::ts)=aS e ms ts:=rfl
def K5(t:Tm)(ms:List Bool)(ts:List Tm):aS e (true::ms) (t::ts)=aS e ms ts:=by cases t <;> rfl
end
def yC:bO [] []=[]:=rfl
def ER(b:Bool)(t:Tm)(ms:List Bool)(ts:List Tm):bO (b::ms) (t::ts)=nj b t::bO ms ts:=rfl
def Et(i:Nat):nj true (.bor i)=some i:=rfl
def HZ(t:Tm):nj false t=none:=by cases t <;> rfl
def Af(e:E3):a9 [] [] e=e:=rfl
def Ii(o:Option Nat)(sub:Rg)(s:Sl)(i e:E3):a9 (o::sub) (s::i) e=a9 sub i (eY o s e):=rfl
theorem F1(i:Nat)(v:Val)(e:E3):eY (some i) (.mu v) e=match e[i]? with
 |some t=>e.set i (t.re v)
 |none=>e:=rfl
def J7(s:Sl)(e:E3):eY none s e=e:=rfl
def zQ(vs:List Val):aC [] vs=[]:=rfl
def K0(ms:List Bool)(v:Val)(vs:List Val):aC (true::ms) (v::vs)=.mu v::aC ms vs:=rfl
def IS(ms:List Bool)(vs:List Val):aC (false::ms) vs=.no::aC ms vs:=by cases vs <;> rfl
def Fe(e:E3):muV [] e=some []:=by cases e <;> rfl
def Oi(ms:List Bool)(v:Val)(e:E3):muV (true::ms) (.mu v::e)=(muV ms e).map (v :: ·):=rfl
def N1(ms:List Bool)(s:Sl)(e:E3):muV (false::ms) (s::e)=muV ms e:=by cases s <;> rfl
def yk(v:Val):j9 (.val v)=aW v:=rfl
def zc(v:Val):j9 (.new v)=cK v:=rfl
def xG(xs:List Val):cK (.lst xs)=cH xs:=rfl
def wk:cH []=true:=by simp [cH]
def tj(v:Val)(vs:List Val):cH (v::vs)=(aW v&&cH vs):=by simp [cH]
def zr(i:Int):aW (.int i)=true:=by simp [aW]
def Aw(i:Bool):aW (.bl i)=true:=by simp [aW]
def yQ(i:Str):aW (.str i)=true:=by simp [aW]
def zP:aW .non=true:=by simp [aW]
def dD(h0:0<=i)(h:l[i.toNat]?=some x):atI l i=some x:=by
 have hl:=(r_.mp h).1
 unfold atI ixN
 rw[if_pos h0,if_pos (by omega)]
 exact h
def xO(h0:0<=i)(h:i.toNat<n):ixN n i=some i.toNat:=by
 unfold ixN
 rw[if_pos h0,if_pos (by omega)]
section
variable(a b c d e f g h:α)(l:List α)
def ati0:atI (a::l) 0=some a:=dD (by decide) rfl
def ati1:atI (a::b::l) 1=some b:=dD (by decide) rfl
def ati2:atI (a::b::c::l) 2=some c:=dD (by decide) rfl
def ati3:atI (a::b::c::d::l) 3=some d:=dD (by decide) rfl
end
def ixn0(n:Nat):ixN (n+1) 0=some 0:=xO (i:=0) (by decide) (by show 0<n+_;omega)
def ixn1(n:Nat):ixN (n+2) 1=some 1:=xO (i:=1) (by decide) (by show 1<n+_;omega)
theorem Ls(xs:List Val)(k:Int)(v:Val):seL.G (.lst xs) (.int k) v=match ixN xs.length k with
 |some j=>some (.lst (xs.set j v))
 |none=>none:=rfl
mutual
def vq:Val->Val->Bool
 |.non,.non=>true
 |.bl a,.bl b=>a==b
 |.bl a,.int j=>(if a then 1 else 0)==j
 |.int i,.bl b=>i==(if b then 1 else 0)
 |.int i,.int j=>i==j
 |.str x,.str y=>x==y
 |.tup xs,.tup ys=>vqs xs ys
 |.lst xs,.lst ys=>vqs xs ys
 |_,_=>false
def vqs:List Val->List Val->Bool
 | [],[]=>true
 |x::xs,y::ys=>vq x y&&vqs xs ys
 |_,_=>false
end
mutual
def wfV:Nat->Val->Bool
 |_,.non=>true
 |_,.bl _=>true
 |_,.int _=>true
 |_,.str x=>PyData.strOk x
 |k+1,.tup xs=>bN k xs
 |k+1,.lst xs=>bN k xs
 |_,_=>false
def bN:Nat->List Val->Bool
 |_,[]=>true
 |k,x::xs=>wfV k x&&bN k xs
end
mutual
def fJ:Val->PyData
 |.bl b=>.bool b
 |.int i=>.int i
 |.str x=>.str x
 |.tup xs=>.tuple (dB xs)
 |.lst xs=>.list (dB xs)
 |_=>.none
def dB:List Val->List PyData
 | []=>[]
 |x::xs=>fJ x::dB xs
end
mutual
theorem nu:∀(k:Nat) (v:Val),wfV k v=true->(∀j,k<j->cD j v=some (fJ v))/\(fJ v).canLay0=true/\(fJ v).depth<=k
 |k,.non,_=>⟨λj hj=>by cases j with |zero=>exact absurd hj (PR _) |succ j=>rfl,rfl,N_ _⟩
 |k,.bl b,_=>⟨λj hj=>by cases j with |zero=>exact absurd hj (PR _) |succ j=>rfl,rfl,N_ _⟩
 |k,.int b,_=>⟨λj hj=>by cases j with |zero=>exact absurd hj (PR _) |succ j=>rfl,rfl,N_ _⟩
 |k,.str b,w=>⟨λj hj=>by cases j with |zero=>exact absurd hj (PR _) |succ j=>rfl,by cases k <;> exact w,N_ _⟩
 |0,.tup xs,w=>absurd w y_
 |0,.lst xs,w=>absurd w y_
 |
  k+1,.tup xs,w=>by
  obtain⟨h1,h2,h3⟩:=kE k xs w
  exact⟨λj hj=>by cases j with |zero=>exact absurd hj (PR _) |succ j=>simp only[cD,fJ,h1 j (Nat.lt_of_succ_lt_succ hj),Option.map_some],h2,by simpa [fJ,PyData.depth] using h3⟩
 |
  k+1,.lst xs,w=>by
  obtain⟨h1,h2,h3⟩:=kE k xs w
  exact⟨λj hj=>by cases j with |zero=>exact absurd hj (PR _) |succ j=>simp only[cD,fJ,h1 j (Nat.lt_of_succ_lt_succ hj),Option.map_some],h2,by simpa [fJ,PyData.depth] using h3⟩
 |k,.ty _,w=>by cases k <;> exact absurd w y_
 |k,.glb _,w=>by cases k <;> exact absurd w y_
 |k,.exc _,w=>by cases k <;> exact absurd w y_
 |k,.kl _,w=>by cases k <;> exact absurd w y_
 |k,.dct _,w=>by cases k <;> exact absurd w y_
 |k,.set _,w=>by cases k <;> exact absurd w y_
theorem kE:∀(k:Nat) (vs:List Val),bN k vs=true->(∀j,k<j->dY j vs=some (dB vs))/\PyData.canLayAll0 (dB vs)=true/\PyData.depthAll (dB vs)<=k
 |k,[],_=>⟨λj hj=>by simp [dY,dB],rfl,N_ _⟩
 |
  k,v::vs,w=>by
  have w':(wfV k v&&bN k vs)=true:=w
  rw[s_] at w'
  obtain⟨h1,h2,h3⟩:=nu k v w'.1
  obtain⟨i1,i2,i3⟩:=kE k vs w'.2
  exact⟨λj hj=>by simp [dY,dB,h1 j hj,i1 j hj],by simp [dB,PyData.canLayAll0,h2,i2],Nat.max_le.mpr ⟨h3,i3⟩⟩
end
mutual
theorem yb:∀(k:Nat) (v u:Val),wfV k v=true->wfV k u=true->PyData.eqv (fJ v) (fJ u)=vq v u
 |
  k,v,u,hv,hu=>by
  cases v <;> first |(cases k <;> exact absurd hv y_) |skip
  all_goals (cases u <;> first |(cases k <;> exact absurd hu y_) |rfl |(cases k with |zero=>exact absurd hv y_ |succ k=>exact uW k _ _ hv hu))
theorem uW:∀(k:Nat) (v u:List Val),bN k v=true->bN k u=true->PyData.eqvAll (dB v) (dB u)=vqs v u
 |_,[],[],_,_=>rfl
 |_,[],_::_,_,_=>rfl
 |_,_::_,[],_,_=>rfl
 |
  k,x::xs,y::ys,hv,hu=>by
  have h1:(wfV k x&&bN k xs)=true:=hv
  have h2:(wfV k y&&bN k ys)=true:=hu
  rw[s_] at h1 h2
  show (PyData.eqv (fJ x) (fJ y)&&PyData.eqvAll (dB xs) (dB ys))=(vq x y&&vqs xs ys)
  rw[yb k x y h1.1 h2.1,uW k xs ys h1.2 h2.2]
end
def ya(hk:k<=160)(hx:wfV k x=true)(hy:wfV k y=true):bR x y=some (vq x y):=by
 obtain⟨h1,h2,h3⟩:=nu k x hx
 obtain⟨i1,i2,i3⟩:=nu k y hy
 unfold bR
 rw[h1 164 (by omega),i1 164 (by omega)]
 dsimp only
 rw[if_pos ⟨gE h2 (by omega),gE i2 (by omega)⟩,yb k x y hx hy]
def Dq(hx:wfV 60 x=true)(hy:wfV 60 y=true):bR x y=some (vq x y):=ya (by decide) hx hy
mutual
theorem j5:∀(k:Nat) (v:Val),wfV k v=true->vq v v=true
 |
  k,v,hv=>by
  cases v <;> first |(cases k <;> exact absurd hv y_) |rfl |exact P9 _ |(cases k with |zero=>exact absurd hv y_ |succ k=>exact qJ k _ hv)
theorem qJ:∀(k:Nat) (v:List Val),bN k v=true->vqs v v=true
 |_,[],_=>rfl
 |
  k,x::xs,hv=>by
  have h1:(wfV k x&&bN k xs)=true:=hv
  rw[s_] at h1
  show (vq x x&&vqs xs xs)=true
  rw[j5 k x h1.1,qJ k xs h1.2]
  rfl
end
noncomputable def fV(q:Rat):Val:=.tup [.int q.num,.int q.den]
structure Bx where
 l:Rat
 t:Rat
 w:Rat
 h:Rat
structure Bx.Ok(b:Bx):Prop where
 w:0<b.w
 h:0<b.h
structure Bx.Sz(n:Nat)(b:Bx):Prop where
 l:L2.Sz n b.l
 t:L2.Sz n b.t
 w:L2.Sz n b.w
 h:L2.Sz n b.h
noncomputable def bV(b:Bx):Val:=.tup [fV b.l,fV b.t,fV b.w,fV b.h]
def Og(q:Rat)(k:Nat):wfV (k+1) (fV q)=true:=by simp [fV,wfV,bN]
def Od(b:Bx)(k:Nat):wfV (k+2) (bV b)=true:=by simp [bV,wfV,bN,Og]
def knV:Val->Bool
 |.exc _=>false
 |v=>(tyC v).isSome
noncomputable def gZ:Nat->Val->Bool
 |k+1,.tup xs=>xs.all (gZ k)
 |_,v=>knV v
def iN:Val->Bool
 |.int _=>true
 |_=>false
noncomputable def aH:Val->Bool
 |.tup [.int a,.int b]=>decide (1<=b)&&decide (Int.gcd a b=1)
 |_=>false
noncomputable def je:Val->Bool
 |.tup (.int a::_)=>decide (0<a)
 |_=>false
noncomputable def fD:Val->Bool
 |.tup [a,b,c,d]=>aH a&&(aH b&&(aH c&&(aH d&&(je c&&je d))))
 |_=>false
def gK:Val->Bool
 |.int i=>decide (1<=i)
 |_=>false
def eR:Val->Bool
 |.tup _=>true
 |_=>false
def MF(h1:1<=b)(h2:Int.gcd a b=1):Val.tup [.int a,.int b]=fV ((a:Rat)/(b:Rat)):=by
 have hb:b≠0:=by omega
 have h:=mD (a:=a) hb
 have s:=Fr.self (by omega) h2
 unfold fV
 rw[<- h.1,<- h.2,s.1,s.2]
def iG(q:Rat):aH (fV q)=true:=by
 show (decide (1<=(q.den:Int))&&decide (Int.gcd q.num q.den=1))=true
 have:=q.den_pos
 rw[J_ (by omega),J_ (uo q)];rfl
def xP(h:aH d=true):∃q,d=fV q:=by
 unfold aH at h
 split at h
 ·simp only[s_,PZ] at h
  exact⟨_,MF h.1 h.2⟩
 ·cases h
def ua(q:Rat):je (fV q)=decide (0<q):=by
 show decide (0<q.num)=decide (0<q)
 rw[P_]
 exact tR
def AJ(h:b.Ok):fD (bV b)=true:=by
 show (aH (fV b.l)&&(aH (fV b.t)&&(aH (fV b.w)&&(aH (fV b.h)&&(je (fV b.w)&&je (fV b.h))))))=true
 rw[iG,iG,iG,iG,ua,ua,J_ h.w,J_ h.h];rfl
def Gm(b:Bx):gZ 2 (bV b)=true:=by simp [bV,fV,gZ,knV,tyC]
theorem nh(P:E3->Prop):∀(vs acc:List Val) (e:E3),P e->(∀v∈vs,∀e,P e->∃e1 t e2,g v e=some e1/\F e1=.ok t e2/\b8 e2 t=some (e2,f v)/\P e2)->acc.length+vs.length<=16777216->∃e',P e'/\lcV g cY F vs acc e=.ok (acc++vs.map f) e'
 | [],acc,e,hp,_,_=>⟨e,hp,by simp [lcV]⟩
 |
  v::vs,acc,e,hp,hf,hl=>by
  obtain⟨e1,t,e2,q1,q2,q3,q4⟩:=hf v (p_ ..) e hp
  obtain⟨e',p',q5⟩:=nh P vs (acc++[f v]) e2 q4 (λu hu=>hf u (m_ _ hu)) (by simp at hl ⊢;omega)
  refine⟨e',p',?_⟩
  unfold lcV
  rw[if_pos (by simp at hl;omega),q1]
  simp only[cY,gy,PF,q2,q3,q5]
  simp
def rgV(k:Nat):List Val:=(List.range k).map λj=>Val.int (j:Nat)
def m9(h:k<1000000):gO [.int (k:Nat)]=some (rgV k):=by
 simp only[gO]
 rw[if_pos (⟨by omega,by omega⟩:RgB _),OK]
 unfold sR rgV
 simp only[Int.zero_add]
def uf(h0:0<=i)(h:i<1000000):gO [.int i]=some (rgV i.toNat):=by
 have:=m9 (k:=i.toNat) (by omega)
 rwa [show ((i.toNat:Nat):Int)=i from by omega] at this
theorem c9(fv fw:α->Val)(P:E3->Prop):∀(l:List α) (acc:List Val) (e:E3),P e->(∀a∈l,∀e,P e->∃e1 t e2,g (fv a) e=some e1/\F e1=.ok t e2/\b8 e2 t=some (e2,fw a)/\P e2)->acc.length+l.length<=16777216->∃e',P e'/\lcV g qY.G F (l.map fv) acc e=.ok (acc++l.map fw) e'
 | [],acc,e,hp,_,_=>⟨e,hp,by simp [lcV]⟩
 |
  v::vs,acc,e,hp,hf,hl=>by
  obtain⟨e1,t,e2,q1,q2,q3,q4⟩:=hf v (p_ ..) e hp
  obtain⟨e',p',q5⟩:=c9 fv fw P vs (acc++[fw v]) e2 q4 (λu hu=>hf u (m_ _ hu)) (by simp at hl ⊢;omega)
  refine⟨e',p',?_⟩
  rw[v_]
  unfold lcV
  have cy:qY.G=cY:=rfl
  rw[cy] at q5 ⊢
  rw[if_pos (by simp at hl;omega),q1]
  simp only[cY,gy,PF,q2,q3,q5]
  simp
def KO(v:Val):inS (.sh v)=.sh v:=rfl
mutual
theorem rh:∀(k:Nat) (v:Val),wfV k v=true->wfV (k+1) v=true
 |k,.non,_=>by simp [wfV]
 |k,.bl _,_=>by simp [wfV]
 |k,.int _,_=>by simp [wfV]
 |k,.str x,h=>by cases k <;> simpa [wfV] using h
 |0,.tup _,h=>by simp [wfV] at h
 |0,.lst _,h=>by simp [wfV] at h
 |
  k+1,.tup xs,h=>by
  have:=ji k xs (by simpa [wfV] using h)
  simpa [wfV] using this
 |
  k+1,.lst xs,h=>by
  have:=ji k xs (by simpa [wfV] using h)
  simpa [wfV] using this
 |k,.ty _,h=>by cases k <;> simp [wfV] at h
 |k,.glb _,h=>by cases k <;> simp [wfV] at h
 |k,.exc _,h=>by cases k <;> simp [wfV] at h
 |k,.kl _,h=>by cases k <;> simp [wfV] at h
 |k,.dct _,h=>by cases k <;> simp [wfV] at h
 |k,.set _,h=>by cases k <;> simp [wfV] at h
theorem ji:∀(k:Nat) (vs:List Val),bN k vs=true->bN (k+1) vs=true
 |k,[],_=>by simp [bN]
 |
  k,v::vs,h=>by
  have h':wfV k v=true/\bN k vs=true:=by simpa [bN] using h
  simp only[bN,rh k v h'.1,ji k vs h'.2,Bool.and_self]
end
def GS(h:wfV k v=true)(l:k<=m):wfV m v=true:=by
 induction l with
 |refl=>exact h
 |step _ ih=>exact rh _ _ ih
def FT(i:Nat)(v:Val)(e:E3):eY (some i) (.sh v) e=e:=rfl
noncomputable def qT(ms:List Bool)(r:SR3):R3F:=match r with
 |.nx e=>(match muV ms e with |some mv=>.ok (.val .non) mv |none=>.stuck)
 |.rt r e=>(match muV ms e with |some mv=>.ok r mv |none=>.stuck)
 |.exc c e=>(match muV ms e with |some mv=>.exc c mv |none=>.stuck)
 |_=>.stuck
def vB(h:vs.length=ms.length):(fnP ms N c).G vs=qT ms (c.G (sls ms vs++List.replicate (N-vs.length) .no)):=by
 rw[aL,if_pos h];rfl
def vU(ms:List Bool)(r:Rt)(e:E3):qT ms (.rt r e)=match muV ms e with |some mv=>.ok r mv |none=>.stuck:=rfl
def aJ{Q:SR3->Prop}(I:E3->Prop){a b:PSt}{e:E3}(h1:∃e1,a.G e=.nx e1/\I e1)(h2:∀e1,I e1->Q (b.G e1)):Q ((aj a b).G e):=by
 obtain⟨e1,q,i⟩:=h1
 rw[CK,q]
 exact h2 e1 i
def iV(i:Int):Val.tup [.int i,.int 1]=fV (i:Rat):=rfl
def sm8(h:m.natAbs<1099511627776):Sm 8000 m:=F_ (show m.natAbs<2^40 from h) (O5 (by decide) (by decide))
def mz(h:m.natAbs<=2000000000000000000000000000000):Sm 101 m:=by unfold Sm;exact Pb h (by decide)
def fE{m:Int}(h:m.natAbs<=2000000000000000000000000000000):Sz 101 (m:Rat):=⟨mz h,mz (by show (1:Int).natAbs<=_;decide)⟩
def fZ{a b:Int}(hb:b≠0)(h1:a.natAbs<=2000000000000000000000000000000)(h2:b.natAbs<=2000000000000000000000000000000):Sz 101 ((a:Rat)/(b:Rat)):=Sz.div hb (mz h1) (mz h2) 101 (o_ _) (o_ _)
def ft{m:Int}(h:0<m):(0:Rat)<(m:Rat):=Rat.intCast_pos.mpr h
def gu{a b:Int}(h1:0<a)(h2:0<b):(0:Rat)<(a:Rat)/(b:Rat):=by
 rw[Rat.div_def]
 exact Rat.mul_pos (ft h1) (Rat.inv_pos.mpr (ft h2))
structure Good(b:Bx):Prop where
 ok:b.Ok
 sz:b.Sz 101
def jQ(h:m.natAbs<=2000000000000000000000000000000):Sm 8000 m:=(mz h).mono (by decide)
noncomputable def yZ(cs:List (Str×PFn))(F:ME3)(A:MA3):ME3:=λe=>(F e).bind λt e1=>match rs e1 t with
 |some (.glb x)=>(match cs.lookup x with
  |some p=>o1 p.ms p.G A e1
  |none=>.stuck)
 |_=>.stuck
def cs2(cs:List (Str×PFn)):List (Str×Nat×Fn):=cs.map λc=>(c.1,c.2.ms.length,c.2.F)
theorem lZ{x:Str}:∀(cs:List (Str×PFn)),(cs2 cs).lookup x=(cs.lookup x).map λp=>(p.ms.length,p.F)
 | []=>rfl
 |
  (y,p)::cs=>by
  show List.lookup x ((y,p.ms.length,p.F)::cs2 cs)=_
  rw[OT,OT]
  split
  ·rfl
  ·exact lZ cs
def zZ{F:ME}{F3:ME3}{A:MA}{A3:MA3}(cs:List (Str×PFn))(hF:RE F F3)(hA:RA A A3):RE (rV (cs2 cs) F A) (yZ cs F3 A3):=λX h0 L ns e ae h S hl=>
 Po.bind S (hF X h0 L ns e ae h S hl) λd1 t1 h1 ns1 e1 a1 S1 r1=>by
  show Po X h0 ns1 e1 ae h1 (relE X h0 L ae) _ (match rs e1 t1 with
   |some (.glb x)=>(match cs.lookup x with
    |some p=>o1 p.ms p.G A3 e1
    |none=>.stuck)
   |_=>.stuck)
  cases q:rs e1 t1 with
  |none=>trivial
  |
   some v=>
   cases v with
   |
    glb x=>
    obtain rfl:=(r1.sh S1 q).glb
    dsimp only
    rw[lZ]
    cases cs.lookup x with
    |none=>trivial
    |some p=>exact uI rfl p.ok hA X h0 L ns1 e1 ae h1 S1 (E_ hl a1.len)
   |_=>trivial
noncomputable def qF(cs:List (Str×PFn))(f:PEx)(a:PAs):PEx:=⟨rV (cs2 cs) f.F a.F,yZ cs f.G a.G,zZ cs f.ok a.ok⟩
theorem D5(e:E3)(cs:List (Str×PFn))(f:PEx)(a:PAs):(qF cs f a).G e=(f.G e).bind λt e1=>match rs e1 t with
 |some (.glb x)=>(match cs.lookup x with
  |some p=>(ai p a).G e1
  |none=>.stuck)
 |_=>.stuck:=rfl
section
variable{K:W.Frag}{mg:Ra}{X:Cx}{ES:L2.St->XK}{e:Expr}{es:List Expr}{A:PAs}{pos:Pos}
def wX(K:W.Frag)(mg:Ra)(X:Cx)(cs:List (Str×PFn)):Prop:=∀c∈cs2 cs,∃k ps,Callee X.prog X.w X.K X.mg X.base c.1 k ps (spD K mg c.2.1 c.2.2)/\Room k X.A
def KA:wX K mg X []:=λ_ h=>nomatch h
def um{f:PFn}{x:Str}{k n:Nat}{ps:List Str}{cs:List (Str×PFn)}(C:Callee X.prog X.w X.K X.mg X.base x k ps (spD K mg n f.F))(hr:Room k X.A)(h:wX K mg X cs)(hn:f.ms.length=n:=by rfl):wX K mg X ((x,f)::cs):=by
 subst hn
 intro c hc
 rcases I_.mp (show c∈(x,f.ms.length,f.F)::cs2 cs from hc) with rfl |hc
 ·exact⟨k,ps,C,hr⟩
 ·exact h c hc
def AR{ef:Expr}{cs:List (Str×PFn)}{p:PEx}(hc:wX K mg X cs)(hf:DE K mg X ES ef p.F)(hx:gC X ES)(ha:DA K mg X ES (e::es) A.F)(hm:X.mg=mg:=by rfl)
 (harm:eval (.Call ef (e::es) [] pos) X.env=(do callWith pos (<- eval ef X.env) [] (backTo pos (starEach (e::es) X.env)) (backToKw pos (keywordEach [] X.env))):=by rfl)
 (he:starEach (e::es) X.env=(false,eval e X.env)::starEach es X.env:=by rfl) (hpl:(backTo pos (starEach es X.env)).any (·.1)=false:=by rfl):DE K mg X ES (.Call ef (e::es) [] pos) (qF cs p A).F:=by with_unfolding_all exact Aj hc hf hx ha hm harm he hpl
end
section
variable{K:W.Frag}{mg:Ra}{X:Cx}{ES:L2.St->XK}{e a b c o lo hi:Expr}{p q r:PEx}{pos p1 p2:Pos}
end
theorem ar1{α:Type}{P:List α->Prop}(h:∀a,P [a]):∀us:List α,us.length=1->P us
 | [a],_=>h a
theorem ar2{α:Type}{P:List α->Prop}(h:∀a b,P [a,b]):∀us:List α,us.length=2->P us
 | [a,b],_=>h a b
theorem ar3{α:Type}{P:List α->Prop}(h:∀a b c,P [a,b,c]):∀us:List α,us.length=3->P us
 | [a,b,c],_=>h a b c
theorem ar4{α:Type}{P:List α->Prop}(h:∀a b c d,P [a,b,c,d]):∀us:List α,us.length=4->P us
 | [a,b,c,d],_=>h a b c d
section
variable{P:Nat->Prop}{h:AH}
def LU(r:Rk P h ws us):lkD us k=some v->∃d,lkD ws k=some d/\Rd P h d v:=
 r.ind (M:=λws us=>lkD us k=some v->∃d,lkD ws k=some d/\Rd P h d v) (λq=>by cases q) (λ{k2 d v2 ds vs} r _ ih q=>by
  unfold lkD at q ih ⊢
  rw[OE] at q ⊢
  dsimp only at q ⊢
  by_cases hk:k2=k
  ·rw[J_ hk] at q ⊢
   cases q
   exact⟨d,rfl,r⟩
  ·rw[B_ hk] at q ⊢
   exact ih q)
def Fd(r:Rk P h ws us):us.map (·.1)=ws.map (·.1):=
 r.ind (M:=λws us=>us.map (·.1)=ws.map (·.1)) rfl λ_ _ ih=>by rw[v_,v_,ih]
def JD(r:Rk P h ws us):ws.length=us.length:=
 r.ind (M:=λws us=>ws.length=us.length) rfl λ_ _ ih=>OO (· + 1) ih
def GU(r:Rk P h ws us)(q:Rk P h ws' us'):Rk P h (ws++ws') (us++us'):=
 r.ind (M:=λws us=>Rk P h (ws++ws') (us++us')) q λr _ ih=>.cons r ih
def JV(rd:Rd P h d v)(r:Rk P h ws us):Rk P h (cE ws k d) (cE us k v):=by
 unfold cE
 rw[rC (Fd r)]
 by_cases hc:(ws.any λkv=>decide (kv.1=k))=true
 ·rw[if_pos hc,if_pos hc]
  exact r.ind (M:=λws us=>Rk P h (ws.map λkv=>if kv.1=k then (kv.1,d) else kv) (us.map λkv=>if kv.1=k then (kv.1,v) else kv)) .nil (λ{k2 d2 v2 ds vs} r _ ih=>by
   rw[v_,v_]
   dsimp only
   by_cases hk:k2=k
   ·rw[if_pos hk,if_pos hk];exact .cons rd ih
   ·rw[if_neg hk,if_neg hk];exact .cons r ih)
 ·rw[if_neg hc,if_neg hc]
  exact GU r (.cons rd .nil)
end
noncomputable def sD:Val->Val->Val->Option Val:=λo i v=>match o with
 |.dct kvs=>(match i with
  |.str k=>if kvs.length<16777216 then some (.dct (cE kvs (.inr k) v)) else none
  |_=>none)
 |_=>none
section
variable{K:W.Frag}{mg:Ra}{X:Cx}{ES:L2.St->XK}{a b:Expr}{p q:PEx}{pos:Pos}
end
end L3
namespace L3
open PySem L2
def jl(xs:List Val)(n:Nat):gj xs none (some (n:Int))=xs.take n:=by
 unfold gj
 rw[HT.sIx_none,HT.sIx_nat,List.drop_zero,Nat.sub_zero]
 by_cases h:n<=xs.length
 ·rw[Nat.min_eq_left h]
 ·rw[Nat.min_eq_right (by omega),OY (o_ _),OY (by omega)]
def kH(xs:List Val)(n:Nat):gj xs (some (n:Int)) none=xs.drop n:=by
 unfold gj
 rw[HT.sIx_none,HT.sIx_nat]
 by_cases h:n<=xs.length
 ·rw[Nat.min_eq_left h,OY (by rw[P7];exact o_ _)]
 ·rw[Nat.min_eq_right (by omega),List.drop_of_length_le (o_ _),List.drop_of_length_le (by omega),PM]
def gv(xs:List Val)(lo hi:Option Int):aSl (.lst xs) lo hi=.new (.lst (gj xs lo hi)):=rfl
end L3
namespace L3
open PySem PySem.Spec PyProof.Rows L2
noncomputable def pU(n:Nat)(u:jb):MG3:=λv e=>match v with
 |.tup vs=>if vs.length=n then u vs e else none
 |.lst vs=>if vs.length=n then u vs e else none
 |_=>none
section
variable{gs:MGs}{gs3:jb}
def rg_u(n:Nat)(hs:RGs gs gs3):RG (gU λds ae h=>if ds.length=n then gs ds ae h else .stuck) (pU n gs3):=λX h0 ns e ae h d v e' S r q=>by
 unfold pU at q
 split at q
 ·split at q
  ·rename_i hn
   obtain⟨ds,rfl,r2⟩:=ShR.tup (.inl r)
   obtain⟨g_,ns1,p1,S1,a1⟩:=hs _ _ _ _ _ _ _ _ _ S r2 q
   refine⟨g_,ns1,?_,S1,a1⟩
   unfold gU;dsimp only;rw[if_pos (by rw[r2.len];exact hn)];exact p1
  ·cases q
 ·split at q
  ·rename_i hn
   obtain⟨m,ds,rfl,_,eq,r2⟩:=ShR.lst (.inl r)
   obtain⟨g_,ns1,p1,S1,a1⟩:=hs _ _ _ _ _ _ _ _ _ S r2 q
   refine⟨g_,ns1,?_,S1,a1⟩
   unfold gU;dsimp only;rw[eq];dsimp only;rw[if_pos (by rw[r2.len];exact hn)];exact p1
  ·cases q
 ·cases q
end
noncomputable def gtU(n:Nat)(a:PGs):PGt:=⟨gU λds ae h=>if ds.length=n then a.F ds ae h else .stuck,pU n a.G,rg_u n a.ok⟩
section
variable{e:E3}
def g_uL(n:Nat)(a:PGs)(vs:List Val):(gtU n a).G (.lst vs) e=if vs.length=n then a.G vs e else none:=rfl
end
section
variable{K:W.Frag}{mg:Ra}{X:Cx}{es:List Expr}{gs:PGs}{pos:Pos}
def G0{k n:Nat}(hK:X.K=K)(hc:X.calm=true)(h:DGs K mg X (λ_=>E0) es gs.F)(hn:(assignEach es X.env).length=n:=by rfl)(hst:(assignEach es X.env).findIdx? (·.1)=none:=by rfl):DG K mg X (λ_=>E0) (.Tuple es k pos) (gtU n gs).F:=Iw hK hc h hn hst
end
section
variable{K:W.Frag}{mg:Ra}{X:Cx}{ES:L2.St->XK}{a:Expr}{A:PAs}{pos q2 p1 p2:Pos}
end
section
variable{K:W.Frag}{mg:Ra}{n:Str}{kvs:List (Str×Int)}
end
end L3
namespace L3
open PySem L2
end L3
namespace L3
open PySem PySem.Spec PyProof.Rows L2
section
variable{K:W.Frag}{mg:Ra}
end
section
variable{X:Cx}{K:W.Frag}{mg:Ra}{ES:L2.St->XK}{e:Expr}{es:List Expr}{A:PAs}{pos:Pos}{x:PSt}
variable{P:Program}{w:World}{base:Heap}{fx:Str}{ge:Stmt}{k n m:Nat}{ps N:List Str}{ms:List Bool}
end
end L3
namespace L3
open PySem L2
end L3
namespace L3
open PySem PySem.Spec PyProof.Rows L2
section
variable{X:Nat->Prop}{h0:Nat}{ns ns1:Ns}{e e1:E3}{ae:AE}{h h1:AH}
end
section
variable{K:W.Frag}{mg:Ra}{X:Cx}{ES:L2.St->XK}{re qe a_:Expr}{st1:Stmt}{sts:List Stmt}{q:PEx}{y:PSt}{g:PGt}{I1 I2:PIt}{pos p2 p3 p4 p5:Pos}{x:Str}{j t:Nat}{hjt:j≠t}{ow:Bool}{tg oe:Expr}{hsb:(([none]:Rg).filterMap id).Nodup}
end
section
variable{K:W.Frag}{mg:Ra}
end
def C4:ME3:=λe=>.ok (.new (.set [])) e
def Ga:RE wY C4:=λX h0 L ns e ae h S hl=>BvR.po (r:=.ok (.ref h.length) (h++[Ob.set []])) (b:=.new (.set [])) S hl ⟨.set [],rfl,trivial,.set []⟩
def wC:PEx:=⟨wY,C4,Ga⟩
def J5(e:E3):wC.G e=.ok (.new (.set [])) e:=rfl
noncomputable def BL:Val->Val->Bv:=λx y=>match x,y with
 |.int i,.set xs=>.val (.bl (decide (i∈xs)))
 |_,_=>.stuck
def HF:RO se BL:=λP h d1 d2 v1 v2 r1 r2=>by
 unfold BL
 split
 ·rename_i i xs
  rw[r1.int]
  obtain⟨n,rfl,e⟩:=r2.set
  exact⟨_,by unfold se;dsimp only;rw[e],.bl _⟩
 ·trivial
def zY:PO2:=⟨se,BL,HF⟩
def Ny(i:Int)(xs:List Int):zY.G (.int i) (.set xs)=.val (.bl (decide (i∈xs))):=rfl
noncomputable def v8:List Val->Bv:=λvs=>match vs with
 | [.set xs]=>.val (.int (xs.length:Nat))
 |_=>.stuck
def Ek:RFn mn v8:=λP h ds vs r=>by
 unfold v8
 split
 ·obtain⟨d,hd,r1⟩:=dJ r
  subst hd
  obtain⟨n,rfl,e⟩:=r1.set
  exact⟨_,by unfold mn;dsimp only;rw[e],.int _⟩
 ·trivial
def ml:PBf:=⟨mn,v8,Ek⟩
def xW(xs:List Int):ml.G [.set xs]=.val (.int (xs.length:Nat)):=rfl
noncomputable def BE:Val->Option (List Int)
 |.set xs=>some xs
 |_=>none
noncomputable def qK(i:Nat)(A:MA3):ME3:=λe=>match e[i]? with
 |some s=>match s.mv.bind BE with
  |some _=>(A e).bind λts e1=>match dem e1 ts with
   |some (e2,[.int k])=>match e2[i]? with
    |some s2=>match s2.mv.bind BE with
     |some xs=>if xs.length<4000 then .ok (.val .non) (e2.set i (s2.re (.set (eg xs k)))) else .stuck
     |none=>.stuck
    |none=>.stuck
   |_=>.stuck
  |none=>.stuck
 |none=>.stuck
def Ku(i:Nat)(hA:RA A A3):RE (eMS (ba i) A) (qK i A3):=λX h0 L ns e ae h S hl=>by
 unfold qK
 cases q0:e[i]? with
 |none=>trivial
 |
  some s0=>
  dsimp only
  split
  ·rename_i xs0 hz
   obtain⟨u0,z1,z2⟩:=Ou.mp hz
   obtain⟨n0,o0,b1,b2,b3,b4,_⟩:=S.write q0 z1
   have hL:vt h (.ref n0)=true:=by
    cases u0 with
    |set ys=>cases b4;show (match h[n0]? with |some (.set _)=>true |_=>false)=true;rw[b2]
    |_=>cases z2
   have L2e:eMS (ba i) A ae h=(A ae h).bind λds h2=>qr (.ref n0) ds h2:=by
    unfold eMS ba
    rw[b1]
    simp only[fh,hL,PF]
   rw[L2e]
   refine Po.bind S (hA X h0 ns e ae h S) λds ts h1 ns1 e1 a1 S1 r1=>?_
   split
   ·rename_i e2 k q1
    obtain⟨h_,S2,a2,r2⟩:=iE S1 r1 q1
    cases q2:e2[i]? with
    |none=>trivial
    |
     some s2=>
     dsimp only
     split
     ·rename_i xs q3
      split
      ·rename_i be
       obtain⟨u,y1,y2⟩:=Ou.mp q3
       obtain⟨n,o,k1,k2,k3,k4,k5⟩:=S2.write q2 y1
       rw[b1] at k1;cases k1
       cases u with
       |
        set ys=>
        cases y2
        cases k4
        obtain⟨d,rfl,rd⟩:=AD r2
        obtain rfl:=ShR.int (.inl rd)
        obtain⟨mv,S4,a4⟩:=k5 (.set (eg xs k)) (.set (eg xs k)) trivial (.set _)
        refine⟨.non,_,h_,?_,a2.trans S1 a4,S4,.non⟩
        unfold qr
        dsimp only
        rw[k2]
        dsimp only
        rw[if_pos be]
       |_=>cases y2
      ·trivial
     ·trivial
   ·trivial
  ·trivial
noncomputable def A7(i:Nat)(a:PAs):PEx:=⟨eMS (ba i) a.F,qK i a.G,Ku i a.ok⟩
def Gr(e:E3)(i:Nat)(a:PAs):(A7 i a).G e=qK i a.G e:=rfl
noncomputable def sI:Val->Val->Bv:=λx y=>match x with
 |.dct kvs=>(match y with
  |.int k=>(match lkD kvs (.inl k) with
   |some v=>.val v
   |none=>.stuck)
  |_=>.stuck)
 |_=>.stuck
def Kb:RO qw sI:=λP h d1 d2 v1 v2 r1 r2=>by
 unfold sI
 split
 ·split
  ·split
   ·rename_i kvs k _ v q
    obtain⟨n,ws,rfl,e,rk⟩:=r1.dct
    obtain rfl:=r2.int
    obtain⟨d,q1,rd⟩:=LU rk q
    refine⟨d,?_,rd⟩
    unfold qw
    dsimp only
    rw[e]
    dsimp only
    rw[q1]
   ·trivial
  ·trivial
 ·trivial
def vX:PO2:=⟨qw,sI,Kb⟩
def NS(h:lkD kvs (.inl k)=some v):vX.G (.dct kvs) (.int k)=.val v:=by
 show sI (.dct kvs) (.int k)=_
 unfold sI
 dsimp only
 rw[h]
noncomputable def sDI:Val->Val->Val->Option Val:=λo i v=>match o with
 |.dct kvs=>(match i with
  |.int k=>if kvs.length<16777216 then some (.dct (cE kvs (.inl k) v)) else none
  |_=>none)
 |_=>none
def Ez:vQ wDI sDI:=λP h n o u di vi d v u' np e hf r ri rd q=>by
 unfold sDI at q
 split at q
 ·rename_i kvs
  split at q
  ·rename_i k
   split at q
   ·rename_i hl
    cases q
    obtain rfl:=ri.int
    cases r with
    |
     dct rk=>
     rename_i ws
     refine⟨.dct (cE ws (.inl k) d),?_,trivial,.dct (JV rd rk)⟩
     unfold wDI
     dsimp only
     rw[e]
     dsimp only
     rw[if_pos (by rw[JD rk];exact hl)]
   ·cases q
  ·cases q
 ·cases q
def seI:PSe:=⟨wDI,sDI,Ez⟩
def GJ(kvs:List (Key×Val))(k:Int)(v:Val):seI.G (.dct kvs) (.int k) v=if kvs.length<16777216 then some (.dct (cE kvs (.inl k) v)) else none:=rfl
noncomputable def kD:Val->List Val->Option (Val×Val):=λu vs=>match u,vs with
 |.lst xs,[.tup ys]=>if xs.length+ys.length<=16777216 then some (.lst (xs++ys),.non) else none
 |_,_=>none
def wD:RM ja kD:=λP h n o u ds vs u' v e hf r rs q=>by
 unfold kD at q
 split at q
 ·split at q
  ·rename_i hl
   cases q
   obtain⟨q1,es,q2,q3,q4⟩:=pB e r
   obtain⟨d,rfl,rd⟩:=AD rs
   obtain⟨ys',rfl,rr⟩:=ShR.tup (.inl rd)
   refine⟨q1,.lst (es++ys'),.non,?_,trivial,.lst (q3.append rr),.non⟩
   unfold ja;rw[q4];dsimp only;rw[if_pos (by rw[q3.len,rr.len];exact hl)]
  ·cases q
 ·cases q
def gx:PMm:=⟨ja,kD,wD⟩
def ou(xs ys:List Val):gx.G (.lst xs) [.tup ys]=if xs.length+ys.length<=16777216 then some (.lst (xs++ys),.non) else none:=rfl
section
variable{K:W.Frag}{mg:Ra}{X:Cx}{ES:L2.St->XK}{e o a b:Expr}{es:List Expr}{p q:PEx}{A:PAs}{pos:Pos}
def wU:MtD K mg (kT K) gx.F:=wc
def Hd:OpD K mg sO zY.F:=DF
def EH:aM K mg (λxs H Q=>∃a S n,xs=[.ref a]/\H a=some (.set S n)/\Q (.int (n:Nat)) H) ml.F:=EO
def A4:mV K mg we seI.F:=Cy
def Ed(hg:Gl X x)(hm:mg x=none)(hv:bootBuiltins x=some (.type "set"))(hk:X.mg=mg:=by rfl)(hn:x ≠ "__name__":=by decide)(hdb:(x==("__debug__" : Str))=false:=by decide):DE K mg X ES (.Call (.Name x p0) [] [] pos) wC.F:=by with_unfolding_all exact FQ hg hm hv hk hn hdb
def JG(hK:X.K=K)(ho:DE K mg X ES o (af j).F)(ha:DA K mg X ES (e::es) A.F)
 (db:attributeBase o "add" X.env (eval o X.env)=eval o X.env:=by rfl)
 (hfew:((backTo cpos (starEach (e::es) X.env)).all (λx=>!x.1)&&(backToKw cpos (keywordEach [] X.env)).all (λx=>x.1.isSome)
  && decide ((e::es).length+([]:List Keyword).length+(if ([]:List Keyword).isEmpty then 0 else 1)<30))=true:=by rfl)
 (e_:(apos.endLine==cpos.line)=true:=by rfl) (hs:starEach (e::es) X.env=(false,eval e X.env)::starEach es X.env:=by rfl) (ci:(backTo cpos (starEach es X.env)).any (·.1)=false:=by rfl):
 DE K mg X ES (.Call (.Attribute o "add" apos) (e::es) [] cpos) (A7 j A).F:=by with_unfolding_all exact LX hK ho ha db hfew e_ hs ci
def Cf(hu:X.A.units+1<cLine)(ha:DE K mg X ES a p.F)(hb:DE K mg X ES b q.F)(hs:xk b):DE K mg X ES (.Subscript a b pos) (pOp vX p q).F:=by with_unfolding_all exact AI hu ha hb hs
end
noncomputable def Bh:Val->Val->Bv:=λx y=>match x,y with
 |.lst xs,.int i=>if i=-1 then .new (.lst xs.reverse) else .stuck
 |_,_=>.stuck
def Iz:RO rn Bh:=λP h d1 d2 v1 v2 r1 r2=>by
 unfold Bh
 split
 ·rw[r2.int]
  split
  ·rename_i hi
   obtain⟨n,ds,rfl,_,e,rr⟩:=r1.lst
   exact⟨.lst ds.reverse,by unfold rn;dsimp only;rw[if_pos hi,e],trivial,.lst rr.reverse⟩
  ·trivial
 ·trivial
def vF:PO2:=⟨rn,Bh,Iz⟩
def C2(xs:List Val):vF.G (.lst xs) (.int (-1))=.new (.lst xs.reverse):=rfl
def GP{K:W.Frag}{mg:Ra}{X:Cx}{ES:L2.St->XK}{e st:Expr}{p q:PEx}{pos p2:Pos}(hK:X.K=K)(he:DE K mg X ES e p.F)(hs:DE K mg X ES st q.F):DE K mg X ES (.Subscript e (.Slice none none (some st) p2) pos) (pOp vF p q).F:=by with_unfolding_all exact IM hK he hs
noncomputable def B5(f:List Int->Int):List Val->Bv:=λvs=>match vs with
 | [.lst xs]=>(match dC xs with
  |some bs=>if bs≠[] then .val (.int (f bs)) else .stuck
  |none=>.stuck)
 |_=>.stuck
def KQ(f:List Int->Int):RFn (rK f) (B5 f):=λP h ds vs r=>by
 unfold B5
 split
 ·obtain⟨d,hd,rr1⟩:=dJ r;subst hd;clear r;have r:=rr1
  obtain⟨n,es,rfl,_,e1,q⟩:=r.lst
  split
  ·rename_i bs e2
   split
   ·rename_i hne
    exact⟨_,by unfold rK;dsimp only;rw[e1];show (match dU es with |some bs=>_ |none=>_)=_;rw[yd q e2];dsimp only;rw[if_pos hne],.int _⟩
   ·trivial
  ·trivial
 ·trivial
def yr:PBf:=⟨rK mnI,B5 mnI,KQ mnI⟩
section
variable{K:W.Frag}{mg:Ra}
def Gb:aM K mg (Cn mnI K) yr.F:=J6 mnI
end
end L3
namespace L3
open PySem L2
end L3
namespace L3
open PySem PySem.Spec PyProof.Rows L2
section
variable{K:W.Frag}{mg:Ra}
end
section
variable{K:W.Frag}{mg:Ra}{X:Cx}{ES:L2.St->XK}{e:Expr}{es:List Expr}{p:PEx}{A:PAs}{pos:Pos}
def zcF{f:PFn}{x:Str}{p0:Pos}{k j n:Nat}{ps:List Str}(C:Callee X.prog X.w X.K X.mg X.base x j ps (spD K mg n f.F))(hr:Room k X.A)(ha:DA K mg X ES (e::es) A.F)(hk:j<=k:=by omega)(hg:Gl X x:=by exact rfl)(hx:gC X ES:=by first |exact kq CQ |exact A1 |assumption)(hn:f.ms.length=n:=by rfl)(hdb:(x==("__debug__" : Str))=false:=by decide)(he:starEach (e::es) X.env=(false,eval e X.env)::starEach es X.env:=by rfl)(hpl:(backTo pos (starEach es X.env)).any (·.1)=false:=by rfl):DE K mg X ES (.Call (.Name x p0) (e::es) [] pos) (ai f A).F:=Ao C (hr.mono hk) hg hx ha hn hdb he hpl
def zsS{ow:Bool}(i:Nat){x:Str}{im:Pos}(hN:X.N.Nodup)(he:DE K mg X ES e p.F)(hi:X.N[i]?=some x:=by exact rfl)(hx:Loc X.env.scope x:=by first |exact Or.inl rfl |exact Or.inr rfl)(hs:swapsWith e (some (.Name x im)) pos.line X.env=pure false:=by rfl)(hf:X.fn x=true\/X.env.scope.names.lookup x=some .local:=by first |exact .inl rfl |exact .inr rfl |assumption):DS K mg X ES (.Assign [.Name x im] e pos) (au ow i p).F:=Jt hN hi hx he hs hf
def zgN(i:Nat){x:Str}(hN:X.N.Nodup)(hi:X.N[i]?=some x:=by exact rfl)(hx:Loc X.env.scope x:=by first |exact Or.inl rfl |exact Or.inr rfl)(hf:X.fn x=true\/X.env.scope.names.lookup x=some .local:=by first |exact .inl rfl |exact .inr rfl |assumption):DG K mg X ES (.Name x pos) (gtN i).F:=FV hN hi hx hf
end
def nT{P:Nat->Prop}{h:AH}:∀{ds:List D}{vs:List Val}{ns:List Int},Rds P h ds vs->dC vs=some ns->jZ ds=some ns:=by
 intro ds
 induction ds with
 |nil=>intro vs ns r e;cases r;cases e;rfl
 |
  cons d ds ih=>
  intro vs ns r e
  cases r with
  |
   cons r rr=>
   rename_i v vs
   cases v with
   |
    int i=>
    obtain⟨ms,e1,rfl⟩:=G_.mp e
    obtain rfl:=ShR.int (.inl r)
    show (jZ ds).map _=_
    rw[ih rr e1]
    rfl
   |_=>cases e
end L3
namespace L3
open PySem PySem.Spec PyProof.Rows L2 PySem.W
noncomputable def adr(K:Frag)(x:Str):Addr:=match nsIn K mainGlobals x with
 |some (some (.ref a))=>a
 |_=>0
noncomputable def gW(K:Frag)(x:Str):Bool:=match nsIn K mainGlobals x with
 |some (some (.ref _))=>true
 |_=>false
noncomputable def pS(K:Frag)(x:Str):Bool:=match nsIn K mainGlobals x with
 |some none=>true
 |_=>false
noncomputable def xcB(K:Frag)(C:Addr):Bool:=(clsIn K C).isSome&&(findIn K (.ref C) "__getattribute__" == some (some (.builtin "BaseException.__getattribute__"))&&(findIn K (.ref C) "__getattr__" == some none&&(findIn K (.ref C) "__class__" == some (some (.builtin "object.__class__"))&&(specialIn K (.builtin "object.__class__") "__get__" == some (some (.builtin "getset_descriptor.__get__"))&&(takesIn K (.builtin "object.__class__")==some true&&(mroIn K C (.type "object")==some true&&mroIn K C (.type "BaseException")==some true))))))
noncomputable def hdB(K:Frag)(C:Addr):Bool:=typeIn K (.ref C)==some (.type "type")&&((clsIn K C).isSome&&mroIn K C (.type "BaseException")==some true)
noncomputable def clA(K:Frag):Cl->Value
 |.b n=>.type n
 |.o x=>.ref (adr K x)
def BN(K:Frag):Cl->Bool
 |.b _=>true
 |.o x=>gW K x
noncomputable def Bo(K:Frag)(p:Cl×Cl×Bool):Bool:=kitOne K (clA K p.1) (clA K p.2.1)==some p.2.2&&(BN K p.1&&BN K p.2.1)
def xkB(K:Frag):Cl->Bool
 |.b _=>true
 |.o x=>xcB K (adr K x)
noncomputable def v9:D->Value->Bool
 |.int i,.int j _=>i==j
 |.str x,.str y _=>x==y
 |.non,.none=>true
 |.bl b,.bool c=>b==c
 |_,_=>false
noncomputable def dV:D->V
 |.int i=>.int i
 |.str x=>.str x
 |.bl b=>.bl b
 |_=>.non
noncomputable def oX:List D->List Value->Bool
 | [],[]=>true
 |d::ds,v::vs=>v9 d v&&oX ds vs
 |_,_=>false
noncomputable def gcB(K:Frag)(x:Str):D->Bool
 |.tup ds=>(match nsIn K mainGlobals x with
  |some (some (.ref a))=>(match K.lookup a with
   |some ⟨.type "tuple",_,.seq its _,_⟩=>decide (its.size<=1000)&&oX ds its.toList
   |_=>false)
  |_=>false)
 |d=>match nsIn K mainGlobals x with
  |some (some v)=>v9 d v
  |_=>false
noncomputable def bFn:List String:=["abs", "all", "any", "isinstance", "len", "max", "min", "sorted", "sum"]
noncomputable def bTy:List String:=["bool", "dict", "int", "list", "set", "str", "tuple"]
noncomputable def bIt:List String:=["range", "zip", "enumerate"]
def Js:(bFn.all λn=>bootBuiltins (Str.ofString n)==some (.builtin n))=true:=by decide
def Hl:(bTy.all λn=>bootBuiltins (Str.ofString n)==some (.type n))=true:=by decide
def boF{n:String}(h:bFn.contains n=true):bootBuiltins (Str.ofString n)=some (.builtin n):=Ov.mp (Ot.mp Js n (OJ.mp h))
def boT{n:String}(h:bTy.contains n=true):bootBuiltins (Str.ofString n)=some (.type n):=Ov.mp (Ot.mp Hl n (OJ.mp h))
structure Tb where
 us:List Str
 rs:List Str
 hs:List (Str×List Str)
 kt:iX
 gs:List (Str×D)
def Tb.ok(b:Tb)(K:Frag):Bool:=(bFn++(bTy++bIt)).all (λn=>pS K (Str.ofString n))&&(b.us.all (gW K)&&(b.rs.all (λx=>excIn K (adr K x) k8 "ValueError.__new__" && gW K x)&&(b.hs.all (λp=>hdB K (adr K p.1)&&p.2.all λc=>mroIn K (adr K c) (.ref (adr K p.1))==some true&&gW K c)&&(b.kt.all (λp=>Bo K p&&xkB K p.1)&&b.gs.all λp=>gcB K p.1 p.2))))
structure Tx(b:Tb)(K:Frag)(mg:Ra):Prop where
 n:∀{n:String},(bFn++(bTy++bIt)).contains n=true->mg (Str.ofString n)=none
 m:∀{x:Str},b.us.contains x=true->mg x=some (.ref (adr K x))
 x:∀{x:Str},b.rs.contains x=true->excIn K (adr K x) k8 "ValueError.__new__"=true
 h:∀{x:Str}{l:List Str},(x,l)∈b.hs->XHand K (adr K x)/\∀c∈l,∀Ce,mg c=some (.ref Ce)->mroIn K Ce (.ref (adr K x))=some true
 k:KitsOk K mg b.kt
 g:∀{x:Str}{d:D},b.gs.lookup x=some d->GC K mg x d
section
variable{K:Frag}{h:Heap}{mg:Ra}{x:Str}(X:K.In h)(G:h.Ns mainGlobals mg)
include X G
def jV(e:gW K x=true):mg x=some (.ref (adr K x)):=by
 unfold gW at e
 split at e
 ·rename_i a q
  unfold adr
  rw[q]
  exact mg_of X G q
 ·cases e
def wm(e:pS K x=true):mg x=none:=by
 unfold pS at e
 split at e
 ·rename_i q
  exact mg_none_of X G q
 ·cases e
omit X G in
def NQ{C:Addr}(e:xcB K C=true):XCls K C:=by
 simp only[xcB,s_,Ov] at e
 obtain⟨e1,e2,e3,e4,e5,e6,e7,e8⟩:=e
 exact⟨e1,e2,e3,e4,e5,e6,e7,e8⟩
def CV{c:Cl}{v:Value}(e:BN K c=true)(q:ClV mg c v):v=clA K c:=by
 cases c with
 |b n=>exact q
 |
  o y=>
  obtain⟨a,rfl,m⟩:=q
  rw[jV X G (show gW K y=true from e)] at m
  cases m
  rfl
omit X G in
def zB{d:D}{v:Value}(e:v9 d v=true):RelV (dV d) v/\∀ρ H,RelD K mg ρ H d (dV d):=by
 unfold v9 at e
 split at e
 ·cases Ov.mp e;exact⟨⟨_,rfl⟩,λ_ _=>.int _⟩
 ·cases Ov.mp e;exact⟨⟨_,rfl⟩,λ_ _=>.str _⟩
 ·exact⟨rfl,λ_ _=>.non⟩
 ·cases Ov.mp e;exact⟨rfl,λ_ _=>.bl _⟩
 ·cases e
omit X G in
theorem ug:∀{ds:List D}{vs:List Value},oX ds vs=true->Vals (ds.map dV) vs/\∀ρ H,RelDs K mg ρ H ds (ds.map dV)
 | [],[],_=>⟨.nil,λ_ _=>.nil⟩
 |
  d::ds,v::vs,e=>by
  rw[oX,s_] at e
  obtain⟨a1,a2⟩:=zB (K:=K) (mg:=mg) e.1
  obtain⟨b1,b2⟩:=ug e.2
  exact⟨.cons a1 b1,λρ H=>.cons (a2 ρ H) (b2 ρ H)⟩
 | [],_::_,e=>nomatch e
 |_::_,[],e=>nomatch e
def LQ{d:D}(e:gcB K x d=true):GC K mg x d:=by
 unfold gcB at e
 split at e
 ·rename_i ds
  split at e
  ·rename_i a q
   split at e
   ·rename_i dd its n sl l
    rw[s_] at e
    obtain⟨v1,v2⟩:=ug (K:=K) (mg:=mg) e.2
    exact HR X G q l (E_ (P0 e.1) (by decide)) v1 v2
   ·cases e
  ·cases e
 ·split at e
  ·rename_i v q
   obtain⟨v1,v2⟩:=zB (K:=K) (mg:=mg) e
   exact⟨_,_,mg_of X G q,v1,v2⟩
  ·cases e
omit X G in
theorem yU{d:D}:∀{l:List (Str×D)},l.lookup x=some d->(x,d)∈l
 | [],h=>nomatch h
 |
  (y,e)::l,h=>by
  rw[OT] at h
  split at h
  ·rename_i q
   cases h
   rw[Ov.mp q]
   exact p_
  ·exact m_ _ (yU h)
def Mw{b:Tb}(e:b.ok K=true):Tx b K mg:=by
 unfold Tb.ok at e
 simp only[s_] at e
 obtain⟨e1,e2,e3,e4,e5,e6⟩:=e
 simp only[Ot,s_] at e1 e2 e3 e4 e5 e6
 refine⟨λh=>wm X G (e1 _ (OJ.mp h)),λh=>jV X G (e2 _ (OJ.mp h)),λh=>(e3 _ (OJ.mp h)).1,λh=>?_,⟨λp hp t v h1 h2=>?_,λp hp x C e' m=>?_⟩,λh=>LQ X G (e6 _ (yU h))⟩
 ·obtain⟨a1,a2⟩:=e4 _ h
  refine⟨?_,λc hc Ce m=>?_⟩
  ·simp only[hdB,s_,Ov] at a1
   exact⟨a1.1,a1.2.1,a1.2.2⟩
  ·obtain⟨b1,b2⟩:=a2 c hc
   rw[jV X G b2] at m
   cases m
   exact Ov.mp b1
 ·obtain⟨a1,_⟩:=e5 p hp
  simp only[Bo,s_,Ov] at a1
  rw[CV X G a1.2.1 h1,CV X G a1.2.2 h2]
  exact a1.1
 ·obtain⟨a1,a2⟩:=e5 p hp
  simp only[Bo,s_,Ov] at a1
  have a3:=a1.2.1
  rw[e'] at a2 a3
  rw[jV X G (show gW K x=true from a3)] at m
  cases m
  exact NQ a2
end
def dNm(s:Stmt):Str:=match s with
 |.FunctionDef n ..=>n
 |_=>""
def AllD(K:Frag)(mg:Ra)(top:Nat->Stmt):List Nat->Prop
 | []=>True
 |i::l=>Def K mg (dNm (top i)) (top i)/\AllD K mg top l
theorem AllD.get{K:Frag}{mg:Ra}{top:Nat->Stmt}:∀{l:List Nat},AllD K mg top l->∀i,l.contains i=true->Def K mg (dNm (top i)) (top i)
 | [],_,i,h=>nomatch h
 |
  j::l,⟨a,b⟩,i,h=>by
  rcases I_.mp (OJ.mp h) with rfl |h
  ·exact a
  ·exact b.get i (OJ.mpr h)
def _root_.L2.Def.gl{K:Frag}{mg:Ra}{x:Str}{st:Stmt}(D:Def K mg x st):∃a,mg x=some (.ref a):=let ⟨f,_,_,m⟩:=D.ex;⟨f,m⟩
structure Ty(b:Tb)(top:Nat->Stmt)(ds:List Nat)(K:Frag)(mg:Ra):Prop extends Tx b K mg where
 d:AllD K mg top ds
noncomputable def scB(N P:List Str)(sc:Scope):Bool:=decide (sc.kind=.function)&&(!sc.isCoroutine&&(!sc.isGenerator&&(decide N.Nodup&&(decide (N.take P.length=P)&&(P.all (λx=>decide (sc.names.lookup x=some .local\/sc.names.lookup x=some .cell))&&sc.names.all λy=>decide (y.2 ≠ .free))))))
def aw{N P:List Str}{sc:Scope}(e:scB N P sc=true):FnScope N P sc:=by
 simp only[scB,s_,PZ,Ot,PU] at e
 obtain⟨e1,e2,e3,e4,e5,e6,e7⟩:=e
 exact⟨e1,e2,e3,e4,e5,e6,e7⟩
section
variable{K:W.Frag}{mg:Ra}{X:Cx}{ES:L2.St->XK}{e a b c o i tg a_ io:Expr}{p q r:PEx}{t u:PTs}{x y:PSt}{g:PGt}{I:PIt}{pos:Pos}
def iF{scope:Scope}(M:List Str)(kn:List (Str×NameKind))(N:List Str)(sub:Rg){hsb:(sub.filterMap id).Nodup}(hi:DI K mg X ES tg a_ I.F)(hg:N.Nodup->∀cl C s₂ H fp,DG K mg (aF X N scope cl C s₂ H fp) (λ_=>E0) tg g.F)(he:N.Nodup->∀cl C s₂ H fp,DE K mg (aF X N scope cl C s₂ H fp) (λ_=>E0) io p.F)(hnd:N.Nodup:=by decide)(hc:X.calm=true:=by rfl)(hM:X.N=M:=by rfl)(hkn:X.env.scope.names=kn:=by rfl)(f_:fB M scope.names sub N=true:=by decide)(hk:scope.kind=.function:=by rfl)(hnc:∀x∈scope.names,x.2 ≠ .cell:=by decide)(b_:∀x∈scope.names,x.2=.local->scope.names.lookup x.1=some .local:=by decide)(hfr:gQ kn scope.names=true:=by decide)(hsl:sub.length=N.length:=by rfl)(hs:∀x,foldedSetIterable a_ X.env x=pure x:=by intro _;rfl):DE K mg X ES (.ListComp io [⟨tg,a_,[],0⟩] scope pos) (pLC I sub hsb g qY p).F:=LK M kn N sub hc hi (hg hnd) (he hnd) hM hkn f_ hk hnc b_ hfr hsl hs
def B9{ow:Bool}{px spos:Pos}{iT:Nat}{xT:Str}{scope:Scope}(hN:X.N.Nodup)(M:List Str)(kn:List (Str×NameKind))(N:List Str)(sub:Rg){hsb:(sub.filterMap id).Nodup}(hi:DI K mg X ES tg a_ I.F)(hg:N.Nodup->∀cl C s₂ H fp,DG K mg (aF X N scope cl C s₂ H fp) (λ_=>E0) tg g.F)(he:N.Nodup->∀cl C s₂ H fp,DE K mg (aF X N scope cl C s₂ H fp) (λ_=>E0) io p.F)(hsw:swapsWith (.ListComp io [⟨tg,a_,[],0⟩] scope pos) (some (.Name xT px)) spos.line X.env=pure true:=by rfl)(hnd:N.Nodup:=by decide)(hc:X.calm=true:=by rfl)(hix:X.N[iT]?=some xT:=by rfl)(hxl:Loc X.env.scope xT:=by first |exact Or.inl rfl |exact Or.inr rfl)(hM:X.N=M:=by rfl)(hkn:X.env.scope.names=kn:=by rfl)(f_:fB M scope.names sub N=true:=by decide)(hk:scope.kind=.function:=by rfl)(hnc:∀x∈scope.names,x.2 ≠ .cell:=by decide)(b_:∀x∈scope.names,x.2=.local->scope.names.lookup x.1=some .local:=by decide)(hfr:gQ kn scope.names=true:=by decide)(hsl:sub.length=N.length:=by rfl)(hs:∀x,foldedSetIterable a_ X.env x=pure x:=by intro _;rfl)(hf:X.fn xT=true\/X.env.scope.names.lookup xT=some .local:=by first |exact .inl rfl |exact .inr rfl |assumption):DS K mg X ES (.Assign [.Name xT px] (.ListComp io [⟨tg,a_,[],0⟩] scope pos) spos) (au ow iT (pLC I sub hsb g qY p)).F:=M6 M kn N sub hc hN hix hxl hi (hg hnd) (he hnd) hsw hM hkn f_ hk hnc b_ hfr hsl hs hf
end
section
variable{K:W.Frag}{mg:Ra}{P:Program}{w:World}{base:Heap}{fx:Str}{ge:Stmt}{k n m:Nat}{ps N:List Str}{ms:List Bool}{x:PSt}
def aN(D:Def K mg fx ge)(S:FnScope N ps (ak ge))
 (hb:∀(kV doc pm:Value) (an:Option Addr) (cdv ct:Value) (us:List Value),us.length=ps.length->bindArgs (W.fnOf fx fx (bI ge) (aK ge) (ak ge) .none kV doc pm an cdv ct) ⟨us,[]⟩=pure (ps.zip us))
 (d_:N.Nodup->∀(f:Addr) (cdv:Value) (A:Around) (outer:List Env) (s:Shared) (H:Hp) (E:XK),Room k (A.deeper (envOfC fx (ak ge) s.heap.objs.size f cdv))->
  DSs K mg (cP (CX1 P w) P w K mg base N fx (ak ge) f cdv A outer s H E) (λ_=>E) (aK ge) x.F) (hn:ps.length=n:=by rfl) (hm:N.length=m:=by rfl):Callee P w K mg base fx (k+1) ps (spD K mg n (fnP ms m x).F):=okP D S hb (d_ S.nd) hn hm
def Ar(D:Def K mg fx ge)(S:FnScope N ps (ak ge))
 (hb:∀(kV doc pm:Value) (an:Option Addr) (cdv ct:Value) (us:List Value),us.length=ps.length->bindArgs (W.fnOf fx fx (bI ge) (aK ge) (ak ge) .none kV doc pm an cdv ct) ⟨us,[]⟩=pure (ps.zip us))
 (d_:N.Nodup->∀(f:Addr) (cdv:Value) (A:Around) (outer:List Env) (s:Shared) (H:Hp) (E:XK),Room k (A.deeper (envOfC fx (ak ge) s.heap.objs.size f cdv))->
  DSs K mg (cP (CX1 P w) P w K mg base N fx (ak ge) f cdv A outer s H E) (λ_=>E) (aK ge) x.F) (hn:ps.length=n:=by rfl) (hm:N.length=m:=by rfl):Callee P w K mg base fx (k+1) ps (spD K mg n (PFx.of ms m x).F):=okX D S hb (d_ S.nd) hn hm
end
end L3
namespace L3
open PySem PySem.Spec PyProof.Rows L2
section
variable{K:W.Frag}{mg:Ra}{X:Cx}{ES:L2.St->XK}{a b c:Expr}{F G M:ME}{pos p2:Pos}{ρ:List Addr}{H:Hp}{h:AH}{ae:AE}{σ:L2.St}
end
section
variable{K:W.Frag}{mg:Ra}{X:Cx}{ES:L2.St->XK}{e o i t1 t2:Expr}{pos p2:Pos}{j a b:Nat}
end
section
variable{P P':Nat->Prop}{h h':AH}{k:List Val->Bool}
end
section
variable{X:Nat->Prop}{h0 L:Nat}{ns:Ns}{e:E3}{ae:AE}{h:AH}{ms:List Bool}{ts:List Tm}{ds:List D}{vs:List Val}{S2:Fn}{G3:Fn3}{r:Rt}{mv:List Val}
end
section
variable{K:W.Frag}{mg:Ra}{X:Cx}{ES:L2.St->XK}{e:Expr}{es:List Expr}{pos:Pos}{A:PAs}
end
section
variable{K:W.Frag}{mg:Ra}{X:Cx}{ES:L2.St->XK}{tg a b c:Expr}{p pos:Pos}{A:PAs}
end
end L3
namespace L3
open PySem PySem.W PySem.Spec PyProof.Rows L2
noncomputable def lL:List Val->Bv:=λvs=>match vs with
 | [.int j,.lst us]=>match dC us with
  |some ws=>if j=(ws.length:Nat)/\ws.length<64 then .new (.lst ((ar ws).map λi:Nat=>.int (i:Nat))) else .stuck
  |none=>.stuck
 |_=>.stuck
theorem pV{P:Nat->Prop}{h:AH}:∀l:List Nat,Rds P h (l.map λi:Nat=>D.int (i:Nat)) (l.map λi:Nat=>Val.int (i:Nat))
 | []=>.nil
 |i::l=>.cons (.int _) (pV l)
def Fv:RFn i4 lL:=λP h ds vs r=>by
 unfold lL
 split
 ·obtain⟨d,e,hd,r1,r2⟩:=mh r
  subst hd
  split
  ·rename_i ws q
   split
   ·rename_i hb
    have e1:=r1.int
    subst e1
    obtain⟨n,es,rfl,g1,_,g2⟩:=ShR.lst r2
    refine⟨.lst ((ar ws).map λi:Nat=>D.int (i:Nat)),?_,trivial,.lst (pV _)⟩
    unfold i4 lsD aB
    dsimp only
    rw[g1]
    dsimp only
    rw[nT g2 q]
    dsimp only
    rw[if_pos hb]
   ·trivial
  ·trivial
 ·trivial
def sg:PBf:=⟨i4,lL,Fv⟩
def Lb(ws:List Int)(h:ws.length<64):sg.G [.int (ws.length:Nat),.lst (ws.map .int)]=.new (.lst ((ar ws).map λi:Nat=>.int (i:Nat))):=by
 show lL [.int (ws.length:Nat),.lst (ws.map .int)]=_
 unfold lL
 dsimp only
 rw[bu]
 dsimp only
 rw[if_pos ⟨rfl,h⟩]
section
variable{K:W.Frag}{mg:Ra}{X:Cx}{ES:L2.St->XK}{a:Expr}{p:PEx}{iW:Nat}{c P:Addr}{q1 q2 q6 q7 q8 q9 p0 p1 p2 p3 p4 p5 p6:Pos}
def FA(hc:X.calm=true)(hdp:X.A.depth<recursionLimit)(hl:Gl X "sorted")(hml:mg "sorted"=none)(hg:Gl X "range")(hm:mg "range"=none)(hN:X.N[iW]?=some "weights")(hv:X.env.scope.names.lookup ("weights" : Str)=some .cell)(jp:X.env.code=.ref c)(hh:W.codeHdIn K c P=true)(hT:LamT K mg P (X.env.qual ++ "<lambda>"))(ha:DE K mg X ES a p.F)(hK:X.K=K:=by rfl)(hk:X.mg=mg:=by rfl)(hs:starEach [a] X.env=[(false,eval a X.env)]:=by rfl):
 DE K mg X ES (.Call (.Name "sorted" q1) [.Call (.Name "range" q2) [a] [] q6] [⟨some "key",.Lambda (dG p0) (cU p1 p2 p3 p4 p5 p6) aT q7,q8⟩] q9) (pFn sg (aa p (aa (af iW) ag))).F:=by
 subst hk
 with_unfolding_all exact Eg hc hdp hl hml hg hm ha hN hv jp hh hT hs hK rfl
end
def Aa(K:Frag)(mg:Ra)(x:Str):Prop:=x∈kO/\(∀y∈kO,y≠x->mg y=none)/\∀f oc od fd sl,mg x=some (.ref f)->K.lookup f=some ⟨oc,od,.func fd,sl⟩->∃c P,fd.code=.ref c/\codeHdIn K c P=true
noncomputable def wO(K:Frag)(a:Addr):Option (Addr×Addr):=match K.lookup a with
 |some ⟨_,_,.func fd,_⟩=>(match fd.code with
  |.ref c=>(match K.lookup c with
   |some ⟨_,_,.fields vs,_⟩=>(match (vs[11]?:Option Value) with
    |some (.ref P)=>if codeHdIn K c P=true then some (c,P) else none
    |_=>none)
   |_=>none)
  |_=>none)
 |_=>none
noncomputable def lamB(K:Frag)(x:Str):Bool:=kO.contains x&&(kO.all (λy=>y==x || pS K y)&&(gW K x&&(wO K (adr K x)).isSome))
def ND(K:Frag)(ts:List Addr):Bool:=kO.all λx=>pS K x || (gW K x&&(match wO K (adr K x) with
 |some (_,P)=>ts.contains P
 |none=>false))
def Dj(K:Frag)(ts:List Addr):Bool:=ts.all λP=>(K.lookup P).isNone&&K.any λp=>codeHdIn K p.1 P
def uG{K:Frag}{a c P:Addr}(e:wO K a=some (c,P)):∃oc od fd sl,K.lookup a=some ⟨oc,od,.func fd,sl⟩/\fd.code=.ref c/\codeHdIn K c P=true:=by
 unfold wO at e
 split at e
 ·rename_i oc od fd sl h1
  split at e
  ·rename_i c' h2
   split at e
   ·split at e
    ·split at e
     ·rename_i h3
      cases e
      exact⟨_,_,fd,_,h1,h2,h3⟩
     ·cases e
    ·cases e
   ·cases e
  ·cases e
 ·cases e
def Iy{K:Frag}{c P P':Addr}(h:codeHdIn K c P=true)(h':codeHdIn K c P'=true):P=P':=by
 unfold codeHdIn at h h'
 split at h
 ·rename_i vs hk
  rw[hk] at h'
  simp only[s_] at h h'
  have a:=h.1.1.1.1.1
  have b:=h'.1.1.1.1.1
  split at a
  ·rename_i x hx
   rw[hx] at b
   rw[Ov] at a b
   exact a.symm.trans b
  ·cases a
 ·cases h
section
variable{K:Frag}{h:Heap}{mg:Ra}(X:K.In h)(G:h.Ns mainGlobals mg)
include X G
def Gi{x:Str}(e:lamB K x=true):Aa K mg x:=by
 simp only[lamB,s_,Ot,PN] at e
 obtain⟨e1,e2,e3,e4⟩:=e
 refine⟨OJ.mp e1,λy hy hne=>?_,λf oc od fd sl m lk=>?_⟩
 ·rcases e2 y hy with z |z
  ·exact absurd (Ov.mp z) hne
  ·exact wm X G z
 ·obtain⟨⟨c,P⟩,ec⟩:=O1.mp e4
  obtain⟨oc',od',fd',sl',l1,l2,l3⟩:=uG ec
  have m':=jV X G e3
  rw[m] at m';cases m'
  rw[lk] at l1;cases l1
  exact⟨c,P,l2,l3⟩
def GR{ts:List Addr}(e:ND K ts=true)(P:Addr)(q:Str)(l:LamT K mg P q):P∈ts:=by
 obtain⟨x,f,oc,od,fd,sl,c,a1,a2,a3,a4,a5,a6,_⟩:=l
 have z:=Ot.mp e x a1
 rw[PN] at z
 rcases z with z |z
 ·have:=wm X G z
  rw[a3] at this;cases this
 ·rw[s_] at z
  obtain⟨z1,z2⟩:=z
  have m':=jV X G z1
  rw[a3] at m';cases m'
  split at z2
  ·rename_i c' P' ec
   obtain⟨oc',od',fd',sl',l1,l2,l3⟩:=uG ec
   rw[a4] at l1;cases l1
   rw[a5] at l2;cases l2
   rw[Iy a6 l3]
   exact OJ.mp z2
  ·cases z2
end
def F7{K:Frag}{ts:List Addr}{h:Heap}(e:Dj K ts=true)(a:∀P∈ts,h.get? P=some (tabObj #[])):TabsOk K ts h:=by
 simp only[Dj,Ot,s_,P6] at e
 refine⟨a,λP hP=>?_,λP hP=>?_⟩
 ·have:=(e P hP).1
  rw[Option.isNone_iff_eq_none] at this
  exact this
 ·obtain⟨p,_,q⟩:=(e P hP).2
  exact⟨p.1,q⟩
structure TyL(b:Tb)(top:Nat->Stmt)(ds:List Nat)(K:Frag)(mg:Ra):Prop extends Ty b top ds K mg where
 l:Aa K mg "by_falling_weights"
section
variable{K:W.Frag}{mg:Ra}{P:Program}{w:World}{base:Heap}{fx:Str}{ge:Stmt}{k n m:Nat}{ps N:List Str}{ms:List Bool}{x:PSt}
def okPL(D:Def K mg fx ge)(L:Aa K mg fx)(S:FnScope N ps (ak ge))
 (hb:∀(kV doc pm:Value) (an:Option Addr) (cdv ct:Value) (us:List Value),us.length=ps.length->bindArgs (W.fnOf fx fx (bI ge) (aK ge) (ak ge) .none kV doc pm an cdv ct) ⟨us,[]⟩=pure (ps.zip us))
 (d_:N.Nodup->∀(f:Addr) (A:Around) (outer:List Env) (s:Shared) (H:Hp) (E:XK) (c T:Addr),codeHdIn K c T=true->LamT K mg T (fx ++ ".<locals>." ++ "<lambda>")->Room k (A.deeper (envOfC fx (ak ge) s.heap.objs.size f (.ref c)))->
  DSs K mg (cP (CX1 P w) P w K mg base N fx (ak ge) f (.ref c) A outer s H E) (λ_=>E) (aK ge) x.F) (hn:ps.length=n:=by rfl) (hm:N.length=m:=by rfl):Callee P w K mg base fx (k+1) ps (spD K mg n (fnP ms m x).F):=by
 subst hn hm
 obtain⟨f,fd,Ff,mm⟩:=D.ex
 have bd:=Ff.binds hb
 have kp:=Ff.kp
 obtain⟨oc,od,kV,doc,pm,an,cdv,ct,osl,rfl,lk,jp⟩:=Ff.ex
 obtain⟨c,T,e1,e2⟩:=L.2.2 f _ _ _ _ mm lk
 have e1:cdv=.ref c:=e1
 subst e1
 have LT:LamT K mg T (fx ++ ".<locals>." ++ "<lambda>"):=⟨fx,f,oc,od,_,osl,c,L.1,L.2.1,mm,lk,rfl,e2,rfl⟩
 refine⟨f,_,C5 lk jp S (λvs H Q E ⟨ρ,h,ds,w,rs,hl,p⟩=>by rw[<- rs.len];exact hl) λA outer s H vs Q E hr ⟨ρ,h,ds,w',rs,hl,p⟩=>?_,mm,kp,bd,oc,od,osl,lk⟩
 have p:cA K mg ρ H Q E (fnD N.length x.F ds h):=p
 have hb2:=d_ S.nd f A outer s H E c T e2 LT hr
 with_unfolding_all refine⟨_,hb2,ρ,h,_,w',me rs,?_⟩
 unfold fnD at p
 split at p
 ·rename_i e;rw[e];exact λρ1 H1 σ1 l1 w1 re1=>p ρ1 H1 l1 w1 _ .non
 ·rename_i e;rw[e];exact λρ1 H1 v l1 w1 rv=>p ρ1 H1 l1 w1 v rv
 ·rename_i e;rw[e];exact λρ1 H1 σ1 C l1 w1 re1 m1=>p ρ1 H1 C l1 w1 m1
 ·exact p.elim
end
end L3
namespace L3
open PySem PySem.Spec PyProof.Rows L2
noncomputable def dn(k:Int×Int):Val:=.tup [.int k.1,.int k.2]
noncomputable def ic:List Val->Option (List (Int×Int))
 | []=>some []
 |.tup [.int i,.int j]::vs=>(ic vs).map ((i,j) :: ·)
 |_::_=>none
theorem lV:∀ks:List (Int×Int),ic (ks.map dn)=some ks
 | []=>rfl
 |
  k::ks=>by
  show (ic (ks.map dn)).map _=_
  rw[lV ks]
  rfl
def vc{P:Nat->Prop}{h:AH}:∀{ds:List D}{vs:List Val}{ks:List (Int×Int)},Rds P h ds vs->ic vs=some ks->hZ ds=some ks:=by
 intro ds
 induction ds with
 |nil=>intro vs ks r e;cases r;cases e;rfl
 |
  cons d ds ih=>
  intro vs ks r e
  cases r with
  |
   cons r rr=>
   rename_i v vs
   unfold ic at e
   split at e
   ·rename_i z
    exact (nomatch z)
   ·rename_i i j vs' z
    cases z
    obtain⟨ms,e1,rfl⟩:=G_.mp e
    obtain⟨d2,rfl,rs⟩:=ShR.tup (.inl r)
    cases rs with
    |
     cons r1 rs=>
     cases rs with
     |
      cons r2 rs=>
      cases rs
      obtain rfl:=ShR.int (.inl r1)
      obtain rfl:=ShR.int (.inl r2)
      show (hZ ds).map _=_
      rw[ih rr e1]
      rfl
   ·cases e
theorem oi{P:Nat->Prop}{h:AH}:∀ks:List (Int×Int),Rds P h (ks.map prD) (ks.map dn)
 | []=>.nil
 |k::ks=>.cons (.tup (.cons (.int _) (.cons (.int _) .nil))) (oi ks)
noncomputable def jF:List Val->Bv:=λvs=>match vs with
 | [.lst us]=>match ic us with
  |some ks=>if ks.Nodup/\ks.length<64 then .new (.lst ((srP ks).map dn)) else .stuck
  |none=>.stuck
 |_=>.stuck
def Bp:RFn jm jF:=λP h ds vs r=>by
 unfold jF
 split
 ·obtain⟨d,hd,r1⟩:=dJ r
  subst hd
  split
  ·rename_i ks q
   split
   ·rename_i hb
    obtain⟨n,es,rfl,g1,_,g2⟩:=ShR.lst r1
    refine⟨.lst ((srP ks).map prD),?_,trivial,.lst (oi _)⟩
    unfold jm aB
    dsimp only
    rw[g1]
    dsimp only
    rw[vc g2 q]
    dsimp only
    rw[if_pos hb]
   ·trivial
  ·trivial
 ·trivial
def nr:PBf:=⟨jm,jF,Bp⟩
def F8(ks:List (Int×Int))(nd:ks.Nodup)(h:ks.length<64):nr.G [.lst (ks.map dn)]=.new (.lst ((srP ks).map dn)):=by
 show jF [.lst (ks.map dn)]=_
 unfold jF
 dsimp only
 rw[lV]
 dsimp only
 rw[if_pos ⟨nd,h⟩]
def tL{X:Cx}{K:W.Frag}(hK:X.K=K):CallR X (.builtin "sorted") (lH K):=by
 subst hK
 exact sJ
def AL{K:W.Frag}{mg:Ra}:aM K mg (lH K) nr.F:=Cc
noncomputable def mj:List Val->Bv:=λvs=>match vs with
 | [.lst us]=>match dC us with
  |some ns=>if ns.length<1000 then .new (.set (ddI ns)) else .stuck
  |none=>.stuck
 |_=>.stuck
def FL:RFn mI mj:=λP h ds vs r=>by
 unfold mj
 split
 ·obtain⟨d,hd,r1⟩:=dJ r
  subst hd
  split
  ·rename_i ns q
   split
   ·rename_i hb
    obtain⟨n,es,rfl,g1,_,g2⟩:=ShR.lst r1
    refine⟨.set (ddI ns),?_,trivial,.set _⟩
    unfold mI lsD aB
    dsimp only
    rw[g1]
    dsimp only
    rw[nT g2 q]
    dsimp only
    rw[if_pos hb]
   ·trivial
  ·trivial
 ·trivial
def pX:PBf:=⟨mI,mj,FL⟩
def Kk(ns:List Int)(h:ns.length<1000):pX.G [.lst (ns.map .int)]=.new (.set (ddI ns)):=by
 show mj [.lst (ns.map .int)]=_
 unfold mj
 dsimp only
 rw[bu]
 dsimp only
 rw[if_pos h]
def wM{X:Cx}{K:W.Frag}(hK:X.K=K)(hc:X.calm=true):CallR X (.type "set") (pb K):=by
 subst hK
 exact yo hc
def En{K:W.Frag}{mg:Ra}:aM K mg (pb K) pX.F:=FZ
section
variable{K:W.Frag}{mg:Ra}{X:Cx}{ES:L2.St->XK}{a:Expr}{A:PAs}{pos q1 q2 q8 q9 p1 p2 pc:Pos}{kc:Nat}
end
end L3
namespace Wb
open L2
def lc(qs:List Rat)(c:Nat):Nat:=qs.foldl (λc q=>Nat.lcm c q.den) c
def gc(ws:List Int)(g:Nat):Nat:=ws.foldl (λg w=>Int.gcd (g:Int) w) g
def wh(L:Nat)(qs:List Rat):List Int:=qs.map λq=>q.num*((L/q.den:Nat):Int)
def ws(qs:List Rat):List Int:=wh (lc qs 1) qs
def dv(qs:List Rat):Nat:=gc (ws qs) 0
end Wb
namespace L3
open PySem L2
noncomputable def shL(s l:Rat)(W:Int):Int->List Int->List (Rat×Rat)
 |_,[]=>[]
 |a,w::ws=>(s+l*((a:Rat)/(W:Rat)),l*((w:Rat)/(W:Rat)))::shL s l W (a+w) ws
theorem iw(s l:Rat)(W:Int):∀(ws:List Int) (a:Int),(shL s l W a ws).length=ws.length
 | [],_=>rfl
 |w::ws,a=>by unfold shL;rw[A_,A_,iw s l W ws (a+w)]
noncomputable def aD(b:Bx)(way:Str)(ws:List Int):List Bx:=if way="across" then (shL b.l b.w ws.sum 0 ws).map λp=>⟨p.1,b.t,p.2,b.h⟩ else (shL b.t b.h ws.sum 0 ws).map λp=>⟨b.l,p.1,b.w,p.2⟩
theorem iA:∀{l:List Int},(∀w∈l,1<=w)->(l.length:Int)<=l.sum
 | [],_=>by simp
 |
  x::l,h=>by
  rw[Oy,A_]
  have:=h x (p_ ..)
  have:=iA (l:=l) λw hw=>h w (m_ _ hw)
  omega
theorem uS:∀(ws:List Int) (a:Int),0<=a->(∀w∈ws,1<=w)->a+ws.sum<=W->p∈shL s l W a ws->∃a' w:Int,0<=a'/\a'<=W/\1<=w/\w<=W/\p=(s+l*((a':Rat)/(W:Rat)),l*((w:Rat)/(W:Rat)))
 | [],_,_,_,_,h=>nomatch h
 |
  w::ws,a,ha,hw,hs,h=>by
  have h1:=hw w (p_ ..)
  have h2:=iA (l:=ws) λx hx=>hw x (m_ _ hx)
  rw[Oy] at hs
  unfold shL at h
  rcases I_.mp h with rfl |h
  ·exact⟨a,w,ha,by omega,h1,by omega,rfl⟩
  ·exact uS ws (a+w) (by omega) (λx hx=>hw x (m_ _ hx)) (by omega) h
def cut1(b:Bx)(way:Str)(u v:Int):Bx:=(aD b way [u,v]).headD b
noncomputable def cut2(b:Bx)(way:Str)(u v:Int):Bx:=((aD b way [u,v]).drop 1).headD b
def lK(b:Bx)(way:Str)(u v:Int):aD b way [u,v]=[cut1 b way u v,cut2 b way u v]:=by
 unfold cut1 cut2 aD
 split <;> rfl
def liV(l:List Int):Val:=.lst (l.map .int)
def wsAt(ws:List Int)(i:Int):Int:=ws.getD i.toNat 0
def wt(ws l:List Int):Int:=(l.map (wsAt ws)).sum
end L3
namespace L3
open PySem PySem.Spec PyProof.Rows L2
inductive AT where
 |lf (k:Nat)
 |nd (w:Bool) (ts:List AT)
def wy(w:Bool):Str:=if w=true then "across" else "down"
def AT.ind{P:AT->Prop}(h1:∀k,P (.lf k))(h2:∀w ts,(∀t∈ts,P t)->P (.nd w ts))(t:AT):P t:=
 @AT.rec P (λts=>∀t∈ts,P t) h1 (λw ts ih=>h2 w ts ih) (λt h=>nomatch h) (λt ts i1 i2 u hu=>by
  rcases I_.mp hu with rfl |hu
  ·exact i1
  ·exact i2 u hu) t
mutual
def AT.val(f:Nat->Val):AT->Val
 |.lf k=>f k
 |.nd w ts=>.tup [.str (wy w),.tup (AT.vals f ts)]
def AT.vals(f:Nat->Val):List AT->List Val
 | []=>[]
 |t::ts=>AT.val f t::AT.vals f ts
end
mutual
def AT.lvs:AT->List Nat
 |.lf k=>[k]
 |.nd _ ts=>AT.lvsL ts
def AT.lvsL:List AT->List Nat
 | []=>[]
 |t::ts=>AT.lvs t++AT.lvsL ts
end
mutual
def AT.dep:AT->Nat
 |.lf _=>1
 |.nd _ ts=>AT.depL ts+1
def AT.depL:List AT->Nat
 | []=>0
 |t::ts=>max (AT.dep t) (AT.depL ts)
end
mutual
def AT.ok:AT->Bool
 |.lf _=>true
 |.nd _ ts=>decide (2<=ts.length)&&AT.okL ts
def AT.okL:List AT->Bool
 | []=>true
 |t::ts=>AT.ok t&&AT.okL ts
end
theorem AT.vals_map(f:Nat->Val):∀ts,AT.vals f ts=ts.map (AT.val f)
 | []=>rfl
 |t::ts=>by rw[AT.vals,AT.vals_map f ts];rfl
theorem AT.lvsL_mem:∀{ts:List AT},x∈AT.lvsL ts ↔ ∃t∈ts,x∈t.lvs
 | []=>by simp [AT.lvsL]
 |t::ts=>by rw[AT.lvsL,Pw,AT.lvsL_mem (ts:=ts)];simp
theorem AT.lvsL_flat:∀ts:List AT,AT.lvsL ts=(ts.map AT.lvs).flatten
 | []=>rfl
 |t::ts=>by rw[AT.lvsL,AT.lvsL_flat ts];rfl
theorem AT.depL_le:∀{ts:List AT},AT.depL ts<=m ↔ ∀t∈ts,t.dep<=m
 | []=>by simp [AT.depL]
 |t::ts=>by rw[AT.depL,Nat.max_le,AT.depL_le (ts:=ts)];simp
theorem AT.okL_mem:∀{ts:List AT},AT.okL ts=true ↔ ∀t∈ts,t.ok=true
 | []=>by simp [AT.okL]
 |t::ts=>by rw[AT.okL,s_,AT.okL_mem (ts:=ts)];simp
noncomputable def wd(w b:Bool):Str:=if w=true then (if b=true then "left" else "right") else (if b=true then "above" else "below")
def uR{t:AT}(h:t.ok=true):1<=t.lvs.length:=by
 induction t using AT.ind with
 |h1 k=>simp [AT.lvs]
 |
  h2 w ts ih=>
  rw[AT.ok,s_] at h
  cases ts with
  |nil=>exact absurd h.1 (by decide)
  |
   cons t ts=>
   have:=ih t (p_ ..) (AT.okL_mem.mp h.2 t (p_ ..))
   rw[AT.lvs,AT.lvsL,z_]
   omega
theorem pZ{α β:Type}{f:α->List β}:∀{l:List α},(∀a∈l,1<=(f a).length)->l.length<=((l.map f).flatten).length
 | [],_=>o_ _
 |
  a::l,h=>by
  have h1:=h a (p_ ..)
  have h2:=pZ (l:=l) λb hb=>h b (m_ _ hb)
  rw[v_,List.flatten_cons,z_,A_]
  omega
def lfV:Val->Bool
 |.int _=>true
 |.str _=>true
 |_=>false
theorem j4:∀{vs:List Val},(∀v∈vs,wfV k v=true)->bN k vs=true
 | [],_=>rfl
 |
  v::vs,h=>by
  show (wfV k v&&bN k vs)=true
  rw[h v (p_ ..),j4 λu hu=>h u (m_ _ hu)]
  rfl
def wH(v:Val)(l:List Val):atI (v::l) 0=some v:=dD (by decide) rfl
def inB(x:Nat)(t:AT):Bool:=decide (x∈t.lvs)
def itV(l:List Nat):Val:=.lst (l.map λk:Nat=>.int k)
structure TOk(t:AT)(l:List Nat):Prop where
 ok:t.ok=true
 mem:∀k,k∈t.lvs ↔ k∈l
 dep:t.dep<=l.length
 len:t.lvs.length=l.length
def atV(t:AT):Val:=t.val λk=>.int (k:Nat)
mutual
def AT.cnt:AT->Nat
 |.lf _=>1
 |.nd _ ts=>AT.cntL ts+1
def AT.cntL:List AT->Nat
 | []=>0
 |t::ts=>AT.cnt t+AT.cntL ts
end
theorem AT.cntL_app:∀(a b:List AT),AT.cntL (a++b)=AT.cntL a+AT.cntL b
 | [],b=>by simp [AT.cntL]
 |t::a,b=>by rw[Qx,AT.cntL,AT.cntL,AT.cntL_app a b];omega
theorem AT.lvsL_app:∀(a b:List AT),AT.lvsL (a++b)=AT.lvsL a++AT.lvsL b
 | [],b=>by simp [AT.lvsL]
 |t::a,b=>by rw[Qx,AT.lvsL,AT.lvsL,AT.lvsL_app a b,PX]
def mi(xs:List Val)(x:Val):pq.G (.lst (xs++[x])) []=some (.lst xs,x):=by
 show sf (.lst (xs++[x])) []=_
 unfold sf
 dsimp only
 rw[z_,Qz,Nat.add_sub_cancel,Oq (o_ _),PH,List.dropLast_concat]
 rfl
theorem AT.cnt_le:∀{ts:List AT}{t:AT},t∈ts->t.cnt<=AT.cntL ts
 | [],t,h=>nomatch h
 |
  u::ts,t,h=>by
  rw[AT.cntL]
  rcases I_.mp h with rfl |h
  ·omega
  ·have:=AT.cnt_le h;omega
def AT.lvs_le(h:t∈ts):t.lvs.length<=(AT.lvsL ts).length:=by
 rw[AT.lvsL_flat]
 exact List.Sublist.length_le (List.sublist_flatten_of_mem (List.mem_map_of_mem (f:=AT.lvs) h))
def wtA(ws:List Int)(l:List Nat):Int:=(l.map λk=>ws.getD k 0).sum
def wtT(ws:List Int)(t:AT):Int:=wtA ws t.lvs
mutual
def AT.bx(ws:List Int):AT->Bx->List (Nat×Bx)
 |.lf k,b=>[(k,b)]
 |.nd w ts,b=>AT.bxL ws ts (aD b (wy w) (ts.map (wtT ws)))
def AT.bxL(ws:List Int):List AT->List Bx->List (Nat×Bx)
 |t::ts,b::bs=>AT.bx ws t b++AT.bxL ws ts bs
 |_,_=>[]
end
mutual
def AT.lay(ws:List Int)(n m:Nat):AT->Bx->Prop
 |.lf _,_=>True
 |.nd w ts,b=>b.Ok/\b.Sz n/\ts≠[]/\ts.length<=40/\(∀t∈ts,1<=wtT ws t)/\Sm m (ts.map (wtT ws)).sum/\AT.layL ws n m ts (aD b (wy w) (ts.map (wtT ws)))
def AT.layL(ws:List Int)(n m:Nat):List AT->List Bx->Prop
 |t::ts,b::bs=>AT.lay ws n m t b/\AT.layL ws n m ts bs
 |_,_=>True
end
def cu(kvs:List (Key×Val))(l:List (Nat×Bx)):List (Key×Val):=l.foldl (λkvs p=>cE kvs (.inl (p.1:Nat)) (bV p.2)) kvs
def B4(kvs:List (Key×Val))(a b:List (Nat×Bx)):cu kvs (a++b)=cu (cu kvs a) b:=by unfold cu;rw[List.foldl_append]
def AB(h:a.Perm b):wtA ws a=wtA ws b:=by
 unfold wtA
 induction h with
 |nil=>rfl
 |cons x _ ih=>rw[v_,v_,Oy,Oy,ih]
 |swap x y l=>simp only[v_,Oy];omega
 |trans _ _ h1 h2=>rw[h1,h2]
theorem rL(ws:List Int):∀ts:List AT,wtA ws (AT.lvsL ts)=(ts.map (wtT ws)).sum
 | []=>rfl
 |
  t::ts=>by
  rw[AT.lvsL,v_,Oy,<- rL ws ts]
  unfold wtT wtA
  rw[Oz,List.sum_append]
def BP(kvs:List (Key×Val))(k:Key)(v:Val):(cE kvs k v).length<=kvs.length+1:=by
 unfold cE
 split
 ·rw[l_];omega
 ·rw[z_];exact o_ _
theorem rb:∀(l:List (Nat×Bx)) (kvs:List (Key×Val)),(cu kvs l).length<=kvs.length+l.length
 | [],kvs=>o_ _
 |
  p::l,kvs=>by
  have h1:=BP kvs (.inl (p.1:Nat)) (bV p.2)
  have h2:=rb l (cE kvs (.inl (p.1:Nat)) (bV p.2))
  unfold cu at h2 ⊢
  rw[List.foldl_cons,A_]
  omega
def AT.bx_fst(ws:List Int)(t:AT):∀b,(AT.bx ws t b).length<=t.lvs.length/\∀p∈AT.bx ws t b,p.1∈t.lvs:=by
 induction t using AT.ind with
 |h1 k=>intro b;simp [AT.bx,AT.lvs]
 |
  h2 w ts ih=>
  intro b
  rw[AT.bx,AT.lvs]
  generalize aD b (wy w) (ts.map (wtT ws))=bs
  induction ts generalizing bs with
  |nil=>simp [AT.bxL]
  |
   cons t ts ih2=>
   cases bs with
   |nil=>simp [AT.bxL]
   |
    cons b bs=>
    obtain⟨h1,h2⟩:=ih t (p_ ..) b
    obtain⟨h3,h4⟩:=ih2 (λu hu=>ih u (m_ _ hu)) bs
    rw[AT.bxL,AT.lvsL,z_,z_]
    refine⟨by omega,λp hp=>?_⟩
    rcases Pw.mp hp with hp |hp
    ·exact QH _ (h2 p hp)
    ·exact Ow _ (h4 p hp)
def yK(kvs:List (Key×Val))(k k':Key)(v:Val):lkD (cE kvs k v) k'=if k=k' then some v else lkD kvs k':=by
 unfold cE
 induction kvs with
 |
  nil=>
  rw[if_neg (by simp)]
  unfold lkD
  by_cases h:k=k'
  ·simp [h]
  ·simp [h]
 |
  cons p kvs ih=>
  obtain⟨pk,pv⟩:=p
  by_cases hp:pk=k
  ·subst
    hp
   rw[if_pos (by simp)]
   by_cases h:pk=k'
   ·subst h
    simp [lkD]
   ·rw[if_neg h]
    rw[if_neg h] at ih
    simp only[v_,PF]
    unfold lkD
    simp only[OE,B_ h]
    by_cases ha:(kvs.any λkv=>decide (kv.1=pk))=true
    ·rw[if_pos ha] at ih
     unfold lkD at ih
     exact ih
    ·have:(kvs.map λkv=>if kv.1=pk then (kv.1,v) else kv)=kvs:=by
      conv=>rhs;rw[<- List.map_id kvs]
      refine Pj λq hq=>?_
      rw[if_neg]
      ·rfl
      ·intro z
       exact ha (P6.mpr ⟨q,hq,J_ z⟩)
     rw[this]
  ·by_cases ha:(kvs.any λkv=>decide (kv.1=k))=true
   ·rw[if_pos ha] at ih
    rw[if_pos (by rw[O3,ha,Bool.or_true])]
    simp only[v_,if_neg hp]
    by_cases h:pk=k'
    ·subst h
     rw[if_neg (λz=>hp z.symm)]
     simp [lkD]
    ·unfold lkD at ih ⊢
     simp only[OE,B_ h]
     exact ih
   ·rw[if_neg ha] at ih
    rw[if_neg (by rw[O3,B_ hp,Bool.false_or];exact ha)]
    rw[Qx]
    by_cases h:pk=k'
    ·subst h
     rw[if_neg (λz=>hp z.symm)]
     simp [lkD]
    ·unfold lkD at ih ⊢
     simp only[OE,B_ h]
     exact ih
noncomputable def bxO(l:List (Nat×Bx))(k:Nat):Bx:=((l.find? λp=>p.1==k).map (·.2)).getD ⟨0,0,0,0⟩
theorem ub:∀(l:List (Nat×Bx)) (kvs:List (Key×Val)),(l.map (·.1)).Nodup->(k∈l.map (·.1)->lkD (cu kvs l) (.inl (k:Nat))=some (bV (bxO l k)))/\(k∉l.map (·.1)->lkD (cu kvs l) (.inl (k:Nat))=lkD kvs (.inl (k:Nat)))
 | [],kvs,_=>⟨(λh=>nomatch h),λ_=>rfl⟩
 |
  p::l,kvs,nd=>by
  rw[v_,PQ] at nd
  obtain⟨h1,h2⟩:=ub (k:=k) l (cE kvs (.inl (p.1:Nat)) (bV p.2)) nd.2
  have e:cu kvs (p::l)=cu (cE kvs (.inl (p.1:Nat)) (bV p.2)) l:=rfl
  rw[e]
  by_cases hp:p.1=k
  ·have hk:k∉l.map (·.1):=hp ▸ nd.1
   rw[h2 hk,yK,if_pos (by rw[hp])]
   refine⟨λ_=>?_,λz=>absurd (by rw[v_,hp];exact p_ ..) z⟩
   unfold bxO
   rw[OE]
   simp [hp]
  ·have hk:k∈(p::l).map (·.1) ↔ k∈l.map (·.1):=by rw[v_,I_];exact⟨λz=>z.resolve_left (λy=>hp y.symm),.inr⟩
   have hb:bxO (p::l) k=bxO l k:=by
    unfold bxO
    rw[List.find?_cons_of_neg (by simpa using hp)]
   rw[hk,hb]
   refine⟨h1,λz=>?_⟩
   rw[h2 z,yK,if_neg]
   intro y
   injection y with y
   exact hp (Int.ofNat.inj y)
def zf(b:Bx)(way:Str)(ws:List Int):(aD b way ws).length=ws.length:=by
 unfold aD
 split <;> rw[l_,iw]
def AT.bx_keys(ws:List Int)(t:AT):∀b,(AT.bx ws t b).map (·.1)=t.lvs:=by
 induction t using AT.ind with
 |h1 k=>intro b;rw[AT.bx,AT.lvs];rfl
 |
  h2 w ts ih=>
  intro b
  rw[AT.bx,AT.lvs]
  have hl:(aD b (wy w) (ts.map (wtT ws))).length=ts.length:=by rw[zf,l_]
  generalize aD b (wy w) (ts.map (wtT ws))=bs at *
  induction ts generalizing bs with
  |nil=>cases bs <;> rfl
  |
   cons t ts ih2=>
   cases bs with
   |nil=>exact nomatch hl
   |
    cons b bs=>
    rw[AT.bxL,AT.lvsL,Oz,ih t (p_ ..) b,ih2 (λu hu=>ih u (m_ _ hu)) bs (by simpa using hl)]
def AT.cnt_lvs(t:AT)(h:t.ok=true):t.cnt+1<=2*t.lvs.length:=by
 induction t using AT.ind with
 |h1 k=>simp [AT.cnt,AT.lvs]
 |
  h2 w ts ih=>
  rw[AT.ok,s_] at h
  have hk:=AT.okL_mem.mp h.2
  have h2:2<=ts.length:=P0 h.1
  rw[AT.cnt,AT.lvs]
  have:∀ts:List AT,(∀t∈ts,t.cnt+1<=2*t.lvs.length)->AT.cntL ts+ts.length<=2*(AT.lvsL ts).length:=by
   intro ts
   induction ts with
   |nil=>intro _;simp [AT.cntL,AT.lvsL]
   |
    cons t ts ih=>
    intro h
    have h1:=h t (p_ ..)
    have h2:=ih λu hu=>h u (m_ _ hu)
    rw[AT.cntL,AT.lvsL,z_,A_]
    omega
  have:=this ts λt ht=>ih t ht (hk t ht)
  omega
structure Rp(D A B:Nat)(b:Bx):Prop where
 pos:0<D
 l:∃z:Int,b.l=(z:Rat)/((D:Int):Rat)/\z.natAbs<=A*D
 t:∃z:Int,b.t=(z:Rat)/((D:Int):Rat)/\z.natAbs<=A*D
 w:∃z:Int,b.w=(z:Rat)/((D:Int):Rat)/\0<z/\z<=B*D
 h:∃z:Int,b.h=(z:Rat)/((D:Int):Rat)/\0<z/\z<=B*D
def Mg(x y a D W:Rat)(h1:D≠0)(h2:W≠0):x/D+(y/D)*(a/W)=(x*W+y*a)/(D*W):=by grind
def MK(y a D W:Rat)(h1:D≠0)(h2:W≠0):(y/D)*(a/W)=(y*a)/(D*W):=by grind
def NT(y D W:Rat)(h1:D≠0)(h2:W≠0):y/D=(y*W)/(D*W):=by grind
def jW{z:Int}(h:z≠0):(z:Rat)≠0:=λe=>h (Rat.intCast_inj.mp e)
def Dw{x y a W:Int}{D A B:Nat}(hD:0<D)(hx:x.natAbs<=A*D)(hy:0<y/\y<=B*D)(ha:0<=a/\a<=W)(hW:0<W):∃z:Int,(x:Rat)/((D:Int):Rat)+((y:Rat)/((D:Int):Rat))*((a:Rat)/(W:Rat))=(z:Rat)/(((D*W.toNat:Nat):Int):Rat)/\z.natAbs<=(A+B)*(D*W.toNat):=by
 obtain⟨V,rfl⟩:∃V:Nat,W=V:=⟨W.toNat,by omega⟩
 refine⟨x*V+y*a,?_,?_⟩
 ·rw[Mg _ _ _ _ _ (jW (by omega)) (jW (by omega))]
  congr 1
  ·rw[Rat.intCast_add,OP,OP]
  ·rw[OK,Pt,OP]
 ·rw[OK]
  have h1:(x*(V:Int)).natAbs<=A*D*V:=by rw[OX];exact OF hx (o_ _)
  have h2:(y*a).natAbs<=B*D*V:=by
   rw[OX]
   refine OF ?_ (by omega)
   have:=hy.2
   omega
  have h3:=Int.natAbs_add_le (x*V) (y*a)
  rw[Nat.add_mul,<- Qu,<- Qu]
  omega
def Dx{y a W:Int}{D B:Nat}(hD:0<D)(hy:0<y/\y<=B*D)(ha:1<=a/\a<=W):∃z:Int,((y:Rat)/((D:Int):Rat))*((a:Rat)/(W:Rat))=(z:Rat)/(((D*W.toNat:Nat):Int):Rat)/\0<z/\z<=((B:Nat):Int)*((D*W.toNat:Nat):Int):=by
 obtain⟨V,rfl⟩:∃V:Nat,W=V:=⟨W.toNat,by omega⟩
 refine⟨y*a,?_,QP hy.1 (by omega),?_⟩
 ·rw[MK _ _ _ _ (jW (by omega)) (jW (by omega))]
  congr 1
  ·rw[OP]
  ·rw[OK,Pt,OP]
 ·rw[OK,Pt,<- O2]
  exact Int.mul_le_mul hy.2 ha.2 (by omega) (Int.le_trans (Int.le_of_lt hy.1) hy.2)
def mq{y W:Int}{D:Nat}(hD:0<D)(hW:0<W):(y:Rat)/((D:Int):Rat)=((y*W:Int):Rat)/(((D*W.toNat:Nat):Int):Rat):=by
 obtain⟨V,rfl⟩:∃V:Nat,W=V:=⟨W.toNat,by omega⟩
 rw[NT _ _ _ (jW (show ((D:Nat):Int)≠0 by omega)) (jW (show ((V:Nat):Int)≠0 by omega)),OP,OK,Pt,OP]
def x5{z W:Int}{D A B:Nat}(hz:z.natAbs<=A*D)(hW:0<W):(z*W).natAbs<=(A+B)*(D*W.toNat):=by
 rw[OX,<- Qu]
 refine OF ?_ (by omega)
 rw[Nat.add_mul]
 omega
def yx{z W:Int}{D B:Nat}(hz:0<z/\z<=B*D)(hW:0<W):0<z*W/\z*W<=((B:Nat):Int)*((D*W.toNat:Nat):Int):=by
 refine⟨QP hz.1 hW,?_⟩
 rw[Pt,<- O2,Int.toNat_of_nonneg (by omega)]
 exact Int.mul_le_mul_of_nonneg_right hz.2 (by omega)
def Rp.parts{D A B:Nat}{b b':Bx}{way:Str}{ws:List Int}(r:Rp D A B b)(hw:∀w∈ws,1<=w)(h:b'∈aD b way ws):Rp (D*ws.sum.toNat) (A+B) B b':=by
 obtain⟨pos,⟨zl,el,bl⟩,⟨zt,et,bt⟩,⟨zw,ew,bw⟩,⟨zh,eh,bh⟩⟩:=r
 have key:∀p:Rat×Rat,∀s l:Rat,p∈shL s l ws.sum 0 ws->0<ws.sum/\∃a' w:Int,0<=a'/\a'<=ws.sum/\1<=w/\w<=ws.sum/\p=(s+l*((a':Rat)/(ws.sum:Rat)),l*((w:Rat)/(ws.sum:Rat))):=λp s l hp=>by
  obtain⟨a',w,h1,h2,h3,h4,h5⟩:=uS ws 0 (by omega) hw (by omega) hp
  exact⟨by omega,a',w,h1,h2,h3,h4,h5⟩
 unfold aD at h
 split at h
 ·obtain⟨p,hp,rfl⟩:=OU.mp h
  obtain⟨hS,a',w,h1,h2,h3,h4,rfl⟩:=key p _ _ hp
  have hV:0<D*ws.sum.toNat:=Pd pos (by omega)
  refine⟨hV,?_,⟨zt*ws.sum,by show b.t=_;rw[et];exact mq pos hS,x5 bt hS⟩,?_,⟨zh*ws.sum,by show b.h=_;rw[eh];exact mq pos hS,yx bh hS⟩⟩
  ·show ∃z:Int,b.l+b.w*_=_/\_
   rw[el,ew]
   exact Dw pos bl bw ⟨h1,h2⟩ hS
  ·show ∃z:Int,b.w*_=_/\_
   rw[ew]
   exact Dx pos bw ⟨h3,h4⟩
 ·obtain⟨p,hp,rfl⟩:=OU.mp h
  obtain⟨hS,a',w,h1,h2,h3,h4,rfl⟩:=key p _ _ hp
  have hV:0<D*ws.sum.toNat:=Pd pos (by omega)
  refine⟨hV,⟨zl*ws.sum,by show b.l=_;rw[el];exact mq pos hS,x5 bl hS⟩,?_,⟨zw*ws.sum,by show b.w=_;rw[ew];exact mq pos hS,yx bw hS⟩,?_⟩
  ·show ∃z:Int,b.t+b.h*_=_/\_
   rw[et,eh]
   exact Dw pos bt bh ⟨h1,h2⟩ hS
  ·show ∃z:Int,b.h*_=_/\_
   rw[eh]
   exact Dx pos bh ⟨h3,h4⟩
def Rp.ok{D A B:Nat}{b:Bx}(r:Rp D A B b):b.Ok:=by
 obtain⟨pos,_,_,⟨zw,ew,bw⟩,⟨zh,eh,bh⟩⟩:=r
 exact⟨by rw[ew];exact gu bw.1 (by omega),by rw[eh];exact gu bh.1 (by omega)⟩
def Rp.sz{D A B n:Nat}{b:Bx}(r:Rp D A B b)(hA:A*D<2^n)(hB:B*D<2^n)(hD:D<2^n):b.Sz n:=by
 obtain⟨pos,⟨zl,el,bl⟩,⟨zt,et,bt⟩,⟨zw,ew,bw⟩,⟨zh,eh,bh⟩⟩:=r
 have sD:Sm n ((D:Nat):Int):=by show ((D:Nat):Int).natAbs<2^n;omega
 have k:∀z:Int,z.natAbs<2^n->Sz n ((z:Rat)/((D:Int):Rat)):=λz hz=>Sz.div (by omega) hz sD n (o_ _) (o_ _)
 have hb:∀z:Int,0<z/\z<=B*D->z.natAbs<2^n:=λz hz=>by
  have h1:z<=((B*D:Nat):Int):=by rw[Pt];exact hz.2
  omega
 exact⟨by rw[el];exact k zl (by omega),by rw[et];exact k zt (by omega),by rw[ew];exact k zw (hb zw bw),by rw[eh];exact k zh (hb zh bh)⟩
theorem iu{ws:List Int}:∀{l:List Nat},(∀k∈l,1<=ws.getD k 0)->(l.length:Int)<=wtA ws l
 | [],_=>by simp [wtA]
 |
  k::l,h=>by
  have h1:=h k (p_ ..)
  have h2:=iu (l:=l) λj hj=>h j (m_ _ hj)
  unfold wtA at h2 ⊢
  rw[v_,Oy,A_]
  omega
theorem uc{ws:List Int}{n m:Nat}:∀{ts:List AT}{bs:List Bx},(∀t∈ts,∀b∈bs,AT.lay ws n m t b)->AT.layL ws n m ts bs
 | [],_,_=>by rw[AT.layL];trivial;intro t ts b bs z;cases z
 |t::ts,[],_=>by rw[AT.layL];trivial;intro t ts b bs _ z;cases z
 |
  t::ts,b::bs,h=>by
  rw[AT.layL]
  exact⟨h t (p_ ..) b (p_ ..),uc λu hu c hc=>h u (m_ _ hu) c (m_ _ hc)⟩
def HX{ws:List Int}{n m B:Nat}(t:AT):∀(b:Bx) (D A:Nat),Rp D A B b->B<=A->1<=A->(A+t.dep*B)*(D*2^(m*t.dep))<2^n->t.ok=true->(∀k∈t.lvs,1<=ws.getD k 0)->wtT ws t<2^m->t.lvs.length<=40->AT.lay ws n m t b:=by
 induction t using AT.ind with
 |h1 k=>intros;rw[AT.lay];trivial
 |
  h2 w ts ih=>
  intro b D A r hBA hA hn ho hw hm hl
  have ho':=ho
  rw[AT.ok,s_] at ho'
  have h2:2<=ts.length:=P0 ho'.1
  have hk:=AT.okL_mem.mp ho'.2
  rw[AT.lvs] at hw hl
  have hws:∀t∈ts,∀k∈t.lvs,1<=ws.getD k 0:=λt ht k hk'=>hw k (AT.lvsL_mem.mpr ⟨t,ht,hk'⟩)
  have hone:∀t∈ts,1<=wtT ws t:=λt ht=>by
   have h1:=uR (hk t ht)
   have h2:=iu (hws t ht)
   unfold wtT
   omega
  have hsum:wtT ws (.nd w ts)=(ts.map (wtT ws)).sum:=by
   unfold wtT
   rw[AT.lvs]
   exact rL ws ts
  rw[hsum] at hm
  have hpos:0<=(ts.map (wtT ws)).sum:=by
   rw[<- rL]
   have:=iu hw
   omega
  rw[AT.dep] at hn
  generalize hq:AT.depL ts=q at *
  have hD1:1<=2^(m*(q+1)):=Nat.one_le_two_pow
  have hAle:A*D<=(A+(q+1)*B)*(D*2^(m*(q+1))):=OF (by omega) (Nat.le_mul_of_pos_right _ hD1)
  have hDle:D<=A*D:=Qs _ hA
  have hBle:B*D<=A*D:=O4 _ hBA
  have tl:ts.length<=40:=by
   rw[AT.lvsL_flat] at hl
   have:ts.length<=((ts.map AT.lvs).flatten).length:=pZ λt ht=>uR (hk t ht)
   omega
  rw[AT.lay]
  refine⟨r.ok,r.sz (by omega) (by omega) (by omega),λz=>by rw[z] at h2;simp at h2,tl,hone,by
   show (ts.map (wtT ws)).sum.natAbs<2^m
   have:(((ts.map (wtT ws)).sum.natAbs:Nat):Int)<((2^m:Nat):Int):=by
    rw[Int.natAbs_of_nonneg hpos]
    push_cast
    exact hm
   omega,uc λt ht c hc=>?_⟩
  have rp:=r.parts (λx hx=>by obtain⟨u,hu,rfl⟩:=OU.mp hx;exact hone u hu) hc
  have hdt:t.dep<=q:=by rw[<- hq];exact AT.depL_le.mp (o_ _) t ht
  have hS:(ts.map (wtT ws)).sum.toNat<=2^m:=by
   have:(((ts.map (wtT ws)).sum.toNat:Nat):Int)<((2^m:Nat):Int):=by
    rw[Int.toNat_of_nonneg hpos]
    push_cast
    exact hm
   omega
  refine ih t ht c _ (A+B) rp (by omega) (by omega) ?_ (hk t ht) (hws t ht) ?_ (by have:=AT.lvs_le ht;omega)
  ·refine Pb (OF ?_ ?_) hn
   ·have:t.dep*B<=q*B:=O4 _ hdt
    rw[Nat.add_mul,Nat.one_mul]
    omega
   ·rw[Qu]
    refine O8 _ ?_
    have e:2^(m*(q+1))=2^m*2^(m*q):=by rw[<- Pm];congr 1;rw[Nat.mul_add,Nat.mul_one,Nat.add_comm]
    rw[e]
    exact OF hS (O5 (by decide) (O8 _ hdt))
  ·refine Int.lt_of_le_of_lt ?_ hm
   have aux:∀us:List AT,(∀u∈us,0<=wtT ws u)->t∈us->wtT ws t<=(us.map (wtT ws)).sum:=by
    intro us
    induction us with
    |nil=>intro _ h;exact nomatch h
    |
     cons u us ih=>
     intro h0 hm
     have nn:∀us:List AT,(∀u∈us,0<=wtT ws u)->0<=(us.map (wtT ws)).sum:=by
      intro us
      induction us with
      |nil=>intro _;simp
      |cons v us ih=>intro h;rw[v_,Oy];have:=h v (p_ ..);have:=ih λu hu=>h u (m_ _ hu);omega
     rw[v_,Oy]
     rcases I_.mp hm with rfl |hm
     ·have:=nn us λu hu=>h0 u (m_ _ hu)
      omega
     ·have h1:=ih (λu hu=>h0 u (m_ _ hu)) hm
      have h2:=h0 u (p_ ..)
      omega
   exact aux ts (λu hu=>by have:=hone u hu;omega) ht
noncomputable def cZ(b:Bx)(w:Bool)(W a x:Int):Bx:=if w=true then ⟨b.l+b.w*((a:Rat)/(W:Rat)),b.t,b.w*((x:Rat)/(W:Rat)),b.h⟩ else ⟨b.l,b.t+b.h*((a:Rat)/(W:Rat)),b.w,b.h*((x:Rat)/(W:Rat))⟩
noncomputable def frm(b:Bx)(w:Bool)(W:Int):Int->List Int->List Bx
 |_,[]=>[]
 |a,x::xs=>cZ b w W a x::frm b w W (a+x) xs
def zO(b:Bx)(w:Bool)(xs:List Int):aD b (wy w) xs=frm b w xs.sum 0 xs:=by
 have key:∀(W:Int) (xs:List Int) (a:Int),(if wy w="across" then (shL b.l b.w W a xs).map λp=>(⟨p.1,b.t,p.2,b.h⟩:Bx) else (shL b.t b.h W a xs).map λp=>⟨b.l,p.1,b.w,p.2⟩)=frm b w W a xs:=by
  intro W xs
  induction xs with
  |nil=>intro a;unfold shL frm;split <;> rfl
  |
   cons x xs ih=>
   intro a
   rw[frm,<- ih,shL,shL]
   unfold cZ
   cases w with
   |true=>rw[if_pos (show wy true="across" from rfl),if_pos (show wy true="across" from rfl),if_pos rfl];rfl
   |
    false=>
    have hn:¬ (wy false="across"):=by decide
    rw[if_neg hn,if_neg hn,if_neg (by decide)];rfl
 exact key xs.sum xs 0
def uj(ws:List Int)(bs:List Bx):AT.bxL ws [] bs=[]:=by rw[AT.bxL];intro _ _ _ _ h;cases h
def Ml(w:Bool):PyData.strOk (wy w)=true:=by cases w <;> decide +kernel
def Ef{f:Nat->Val}(t:AT):∀d,t.dep<=d->(∀k∈t.lvs,wfV 0 (f k)=true)->wfV (2*d) (t.val f)=true:=by
 induction t using AT.ind with
 |
  h1 k=>
  intro d _ h
  rw[AT.val]
  exact GS (h k (by rw[AT.lvs];exact p_ ..)) (N_ _)
 |
  h2 w ts ih=>
  intro d hd h
  rw[AT.dep] at hd
  obtain⟨e,rfl⟩:∃e,d=e+1:=⟨d-1,by omega⟩
  have hc:bN (2*e) (AT.vals f ts)=true:=by
   rw[AT.vals_map]
   refine j4 λv hv=>?_
   obtain⟨t,ht,rfl⟩:=OU.mp hv
   exact ih t ht e (AT.depL_le.mp (show AT.depL ts<=e by omega) t ht) λk hk=>h k (by rw[AT.lvs];exact AT.lvsL_mem.mpr ⟨t,ht,hk⟩)
  rw[AT.val,show 2*(e+1)=2*e+1+1 from by omega]
  show (wfV (2*e+1) (.str (wy w))&&(bN (2*e) (AT.vals f ts)&&true))=true
  rw[hc,show wfV (2*e+1) (.str (wy w))=true from Ml w]
  rfl
def E4{f:Nat->Val}(t:AT)(hd:t.dep<=60)(h:∀k∈t.lvs,wfV 0 (f k)=true):bR (t.val f) (t.val f)=some true:=by
 have:=Ef (f:=f) t 60 hd h
 rw[ya (by decide) this this,j5 _ _ this]
mutual
def AT.ren(r:Nat->Nat):AT->AT
 |.lf k=>.lf (r k)
 |.nd w ts=>.nd w (AT.renL r ts)
def AT.renL(r:Nat->Nat):List AT->List AT
 | []=>[]
 |t::ts=>AT.ren r t::AT.renL r ts
end
theorem AT.renL_map(r:Nat->Nat):∀ts,AT.renL r ts=ts.map (AT.ren r)
 | []=>rfl
 |t::ts=>by rw[AT.renL,AT.renL_map r ts];rfl
def AT.ren_lvs(r:Nat->Nat)(t:AT):(t.ren r).lvs=t.lvs.map r:=by
 induction t using AT.ind with
 |h1 k=>rfl
 |
  h2 w ts ih=>
  rw[AT.ren,AT.lvs,AT.lvs,AT.lvsL_flat,AT.lvsL_flat,AT.renL_map,O_,List.map_flatten,O_]
  congr 1
  exact Pj λt ht=>ih t ht
def E5{r:Nat->Nat}{ws us:List Int}(t:AT)(h:∀k∈t.lvs,us.getD (r k) 0=ws.getD k 0):wtT us (t.ren r)=wtT ws t:=by
 unfold wtT wtA
 rw[AT.ren_lvs,O_]
 congr 1
 exact Pj λk hk=>h k hk
def qQ(r:Nat->Nat)(p:Nat×Bx):Nat×Bx:=(r p.1,p.2)
def AT.ren_bx{r:Nat->Nat}{ws us:List Int}(t:AT):(∀k∈t.lvs,us.getD (r k) 0=ws.getD k 0)->∀b,AT.bx us (t.ren r) b=(AT.bx ws t b).map (qQ r):=by
 induction t using AT.ind with
 |h1 k=>intro _ b;rfl
 |
  h2 w ts ih=>
  intro h b
  rw[AT.ren,AT.bx,AT.bx,AT.renL_map,O_]
  have e:ts.map (wtT us ∘ AT.ren r)=ts.map (wtT ws):=Pj λt ht=>E5 t λk hk=>h k (by rw[AT.lvs];exact AT.lvsL_mem.mpr ⟨t,ht,hk⟩)
  rw[e]
  have h':∀t∈ts,∀k∈t.lvs,us.getD (r k) 0=ws.getD k 0:=λt ht k hk=>h k (by rw[AT.lvs];exact AT.lvsL_mem.mpr ⟨t,ht,hk⟩)
  generalize aD b (wy w) (ts.map (wtT ws))=bs
  clear e h
  induction ts generalizing bs with
  |nil=>rw[OA,uj,uj];rfl
  |
   cons t ts ih2=>
   cases bs with
   |nil=>rfl
   |
    cons c bs=>
    rw[v_,AT.bxL,AT.bxL,Oz,ih t (p_ ..) (h' t (p_ ..)) c,ih2 (λu hu=>ih u (m_ _ hu)) (λu hu=>h' u (m_ _ hu)) bs]
theorem tU{r:Nat->Nat}{k:Nat}:∀{l:List (Nat×Bx)},(∀p∈l,r p.1=r k->p.1=k)->bxO (l.map (qQ r)) (r k)=bxO l k
 | [],_=>rfl
 |
  p::l,h=>by
  have ih:=tU (k:=k) (l:=l) λq hq=>h q (m_ _ hq)
  unfold bxO at ih ⊢
  rw[v_,OE,OE]
  by_cases e:p.1=k
  ·rw[show ((qQ r p).1==r k)=true from Ov.mpr (by rw[<- e];rfl),show (p.1==k)=true from Ov.mpr e]
   rfl
  ·rw[show ((qQ r p).1==r k)=false from D_.mpr λz=>e (h p (p_ ..) z),show (p.1==k)=false from D_.mpr e]
   exact ih
def i8{ws:List Int}{k:Nat}(h:k<ws.length):ws.reverse.getD (ws.length-1-k) 0=ws.getD k 0:=by
 rw[Em,Em,List.getElem?_reverse (by omega)]
 congr 2
 omega
def nX(ws:List Int):((ar ws).map λk=>ws.getD k 0).Pairwise (· >= ·):=by
 rw[PY]
 refine List.Pairwise.imp (λ{i j} h=>?_) (bD ws).up
 unfold a8 kyF at h
 rw[OR] at h
 show ws.getD j 0<=ws.getD i 0
 have h:-(ws.getD i 0) < -(ws.getD j 0)\/(-(ws.getD i 0)=-(ws.getD j 0)/\((i:Nat):Int)<(j:Nat)):=h
 omega
def Ca{ws:List Int}(nd:∀i j,i<j->j<ws.length->ws.getD i 0≠ws.getD j 0):ar ws.reverse=(ar ws).map λk=>ws.length-1-k:=by
 have F:=bD ws
 have lt:∀i∈ar ws,i<ws.length:=λi hi=>OD.mp (F.perm.mem_iff.mp hi)
 refine (FallO.eq ⟨?_,?_⟩).symm
 ·rw[Ph]
  have p1:=F.perm.map λk=>ws.length-1-k
  refine p1.trans ?_
  rw[show (List.range ws.length).map (λk=>ws.length-1-k)=(List.range ws.length).reverse from ?_]
  ·exact List.reverse_perm _
  ·refine List.ext_getElem (by simp) λi h1 h2=>?_
   simp
 ·rw[PY,OM]
  intro i j hi hj hij
  have h:=OM.mp F.up i j hi hj hij
  have li:=lt _ (O0 hi)
  have lj:=lt _ (O0 hj)
  have ne:(ar ws)[i]≠(ar ws)[j]:=λz=>by rw[z,lu] at h;cases h
  have nw:ws.getD (ar ws)[i] 0≠ws.getD (ar ws)[j] 0:=by
   rcases Nat.lt_or_gt_of_ne ne with z |z
   ·exact nd _ _ z lj
   ·exact λy=>nd _ _ z li y.symm
  generalize (ar ws)[i]=x at *
  generalize (ar ws)[j]=y at *
  unfold a8 kyF at h ⊢
  rw[i8 li,i8 lj]
  rw[OR] at h ⊢
  have h:-(ws.getD x 0) < -(ws.getD y 0)\/(-(ws.getD x 0)=-(ws.getD y 0)/\((x:Nat):Int)<(y:Nat)):=h
  show -(ws.getD x 0) < -(ws.getD y 0)\/_
  omega
noncomputable def thN(xs:List Int):Nat->Nat->Nat
 |0,k=>k
 |f+1,k=>if 3*(xs.take k).sum<xs.sum then thN xs f (k+1) else k
def aX(xs:List Int):Nat:=thN xs (xs.length-1) 1
theorem yp(xs:List Int):∀f k,k<=thN xs f k
 |0,k=>o_ _
 |
  f+1,k=>by
  rw[thN]
  split
  ·have:=yp xs f (k+1);omega
  ·exact o_ _
theorem yi(xs:List Int){m:Nat}(hm:¬ 3*(xs.take m).sum<xs.sum):∀f k,k<=m->thN xs f k<=m
 |0,k,h=>h
 |
  f+1,k,h=>by
  rw[thN]
  split
  ·rename_i z
   refine yi xs hm f (k+1) ?_
   by_cases e:k=m
   ·rw[e] at z;exact absurd z hm
   ·omega
  ·exact h
def qU{xs:List Int}(h2:2<=xs.length)(hp:∀x∈xs,1<=x)(hd:xs.Pairwise (· >= ·)):1<=aX xs/\aX xs<xs.length:=by
 have key:¬ 3*(xs.take (xs.length-1)).sum<xs.sum:=by
  have e:xs.sum=(xs.take (xs.length-1)).sum+(xs.drop (xs.length-1)).sum:=by rw[<- List.sum_append,QA]
  have d1:xs.drop (xs.length-1)=[xs[xs.length-1]]:=by
   rw[Qh (by omega),List.drop_eq_nil_of_le (by omega)]
  obtain⟨y,ys,ey⟩:∃y ys,xs.take (xs.length-1)=y::ys:=by
   cases z:xs.take (xs.length-1) with
   |
    nil=>
    have:=OO List.length z
    rw[Pk,OC] at this
    omega
   |cons y ys=>exact⟨y,ys,rfl⟩
  have hy:y=xs[0]:=by
   have z:(xs.take (xs.length-1))[0]?=some y:=by rw[ey];rfl
   rw[List.getElem?_take_of_lt (by omega),x_ (by omega)] at z
   exact (H_ z).symm
  have hge:xs[0] >= xs[xs.length-1]:=OM.mp hd 0 (xs.length-1) (by omega) (by omega) (by omega)
  have hz:=hp xs[xs.length-1] (O0 _)
  have hs:0<=ys.sum:=by
   have:=iA (l:=ys) λx hx=>hp x (QI (i:=xs.length-1) (by rw[ey];exact m_ _ hx))
   omega
  rw[e,d1,ey,Oy,Oy,List.sum_nil]
  generalize xs[0]=x0 at *
  generalize xs[xs.length-1]=xl at *
  omega
 refine⟨yp xs _ 1,?_⟩
 have:=yi xs key (xs.length-1) 1 (by omega)
 unfold aX
 omega
end L3
namespace KK
open PySem PySem.Spec PyProof.Rows L2 L3
def top(i:Nat):Stmt:=PySem.Challenge.pw_weightrooms_k20_thirds.main.body.getD i (.Pass ⟨0,0,0,0⟩)
noncomputable def bW:iX:=[((.b "NoneType"),(.b "bool"),false),((.b "bool"),(.b "bool"),true),((.b "int"),(.b "bool"),false),((.b "str"),(.b "bool"),false),((.b "tuple"),(.b "bool"),false),((.b "list"),(.b "bool"),false),((.b "dict"),(.b "bool"),false),((.b "NoneType"),(.b "int"),false),((.b "bool"),(.b "int"),true),((.b "int"),(.b "int"),true),((.b "str"),(.b "int"),false),((.b "tuple"),(.b "int"),false),((.b "list"),(.b "int"),false),((.b "dict"),(.b "int"),false),((.b "NoneType"),(.b "list"),false),((.b "bool"),(.b "list"),false),((.b "int"),(.b "list"),false),((.b "str"),(.b "list"),false),((.b "tuple"),(.b "list"),false),((.b "list"),(.b "list"),true),((.b "dict"),(.b "list"),false),((.b "NoneType"),(.b "str"),false),((.b "bool"),(.b "str"),false),((.b "int"),(.b "str"),false),((.b "str"),(.b "str"),true),((.b "tuple"),(.b "str"),false),((.b "list"),(.b "str"),false),((.b "dict"),(.b "str"),false),((.b "NoneType"),(.b "tuple"),false),((.b "bool"),(.b "tuple"),false),((.b "int"),(.b "tuple"),false),((.b "str"),(.b "tuple"),false),((.b "tuple"),(.b "tuple"),true),((.b "list"),(.b "tuple"),false),((.b "dict"),(.b "tuple"),false)]
def iC:D:=(.int 40)
noncomputable def u6:D:=(.tup [(.str "across"),(.str "down"),(.str "halves"),(.str "rows"),(.str "greatest"),(.str "thirds")])
def xw:D:=(.tup [(.str "across"),(.str "down")])
abbrev tb:Tb:=⟨["NoFraction", "NoBox", "NoWay", "NoWeights", "TooMany", "NoTree", "NoRule"],["NoFraction", "NoBox", "NoWay", "NoWeights", "TooMany", "NoTree", "NoRule"],[],bW,[("MOST_WEIGHTS",iC),("RULES",u6),("WAYS",xw)]⟩
abbrev TT(K:W.Frag)(mg:Ra):Prop:=TyL tb top [10,11,12,13,14,15,17,22,23,24,25,27,28,29,31,32,33,35,36,37,43,44,45,46,47,48,49,52,53,54,55,56,57,58,59,60,62,63,64,65,66,67,68,69,70,71] K mg
section
variable{P:Program}{w:World}{K:W.Frag}{mg:Ra}{base:Heap}
def gF:PEx:=my iC (.int 40) (λ_ _=>.int _)
def mx(e:E3):gF.G e=.ok (.val (.int 40)) e:=rfl
noncomputable def sT:PEx:=my u6 (.tup [(.str "across"),(.str "down"),(.str "halves"),(.str "rows"),(.str "greatest"),(.str "thirds")]) (λ_ _=>.tup (.cons (.str _) (.cons (.str _) (.cons (.str _) (.cons (.str _) (.cons (.str _) (.cons (.str _) .nil)))))))
def Cg(e:E3):sT.G e=.ok (.val (.tup [(.str "across"),(.str "down"),(.str "halves"),(.str "rows"),(.str "greatest"),(.str "thirds")])) e:=rfl
noncomputable def uD:PEx:=my xw (.tup [(.str "across"),(.str "down")]) (λ_ _=>.tup (.cons (.str _) (.cons (.str _) .nil)))
def DD(e:E3):uD.G e=.ok (.val (.tup [(.str "across"),(.str "down")])) e:=rfl
def dI(s:String):Lean.TSyntax `term:=⟨Lean.mkIdent (s.replace "%" "").toName⟩
def dA(f:String)(a:Lean.TSyntax `term):Lean.TSyntax `term:=Lean.Syntax.mkApp (dI f) #[a]
def dF:List (Lean.TSyntax `tactic)->Lean.MacroM (Lean.TSyntax `tactic)
 | []=>`(tactic|fail)
 |a::l=>do `(tactic|first | $a:tactic | $(<- dF l):tactic)
def dL(f:String->Lean.MacroM (Lean.TSyntax `tactic)):List String->Lean.MacroM (List (Lean.TSyntax `tactic))
 | []=>pure []
 |s::l=>do return (<- f s)::(<- dL f l)
set_option hygiene false in
def dQ(ap:String->Lean.TSyntax `term)(s:String):Lean.MacroM (Lean.TSyntax `tactic):=match (s.splitOn ";").map ap with
 | [d,c,a,b]=>`(tactic|((case d=>with_reducible exact $d);(case c=>exact $c);(case a=>exact $a);(case b=>exact $b)))
 |d::c::_=>`(tactic|((case d=>with_reducible exact $d);(case c=>exact $c)))
 |_=>`(tactic|fail)
set_option hygiene false in
def dR(ap:String->Lean.TSyntax `term)(g:String):Lean.MacroM (Lean.TSyntax `tactic):=match g.splitOn ":" with
 | [r]=>`(tactic|refine $(ap r))
 |r::l=>do `(tactic|(refine' $(ap r);$(<- dF (<- dL (dQ ap) l)):tactic))
 | []=>`(tactic|fail)
set_option hygiene false in
local macro_rules | `('d')=>do
 let h <- `(?_)
 let u <- `(_)
 let R:=dI "rfl"
 let qA <- `(?a)
 let qB <- `(?b)
 let qC <- `(?c)
 let qD <- `(?d)
 let qp <- `((λ_ _=>rfl))
 let ap:=λ(s:String)=>let w:=s.splitOn " ";Lean.Syntax.mkApp (dI (w.getD 0 "")) (((w.getD 1 "").toList.map λc=>([('1',dI "hr.u100"),('8',dI "hr.u180"),('A',qA),('B',qB),('C',qC),('D',qD),('K',dI "T.k"),('_',u),('b',dA "%boT" R),('f',dA "%boF" R),('g',dA "T.g" R),('k',dA "T.n" R),('m',dA "T.m" R),('n',dI "nd"),('o',dI "%own1"),('p',qp),('r',R),('t',dI "T"),('u',dA "%N0" (dI "hr")),('v',dA "%xF" u),('x',dA "T.x" R),('z',dI "%rz1")].lookup c).getD h).toArray)
 let rd:=λ(s:String)=>dL (dR ap) (s.splitOn "|")
 let e0 <- `(tactic|refine zcF (by $(<- dF (<- rd "%ih|sQ t|qI t|tD t|oH t|sx t|lR t|sX t|oU t|jt t_|sA t|jA t|lU t|wA t|oV t|oJ t|ke t|g6 t|eU t|eV t|vH t|oQ t|rM t|xt t|zj t|vZ t|lX t|tE t|rG t|m8 t|er t_|lE t|nt t|mC t|oR t|kd t|kU t|oP t|oD t|tJ t|ng t|oI t|qL t|mH t_|rl t|tf t")):tactic) hr ?_)
 let e3 <- `(tactic|exact Hv rfl (by first |exact T.e rfl |exact (T.d.get 60 rfl).gl))
 `(by repeat' $(<- dF ((<- rd "%xF _|IA|Iu|cI ??|ay ??|fo ?|zsS _n?|pf ???|gw ?|JN ?|rT ?|G4|My|Ft|J4 ?")++[e0,e3]++(<- rd "%Ng CD??:Oh;ixK r|HM CD??:Df;eqDK r8:CT;Di:Dc;Dh:C6;C7:LC;neDK r8:GN;Lf r:Hd;Ah|gk CDrkf?:Jl;NV r:IP;zW:FU;zp r:EY;xu r:yE;nW rr:Gb;xy rr:EH;tH:IV K;Lx r|N4 CD??:JA;FJ:Ij;HG r:Jb;Kl:JF;Cj:Hw;GH:Km;IX:GV;Hi|zJ CDrkb?:Jj;xI:EU;IL r:En;wM rr|Gv CD??:CT;Di:Df;eqDK r8:Dc;Dh:Nc;inK r:C6;C7|El rABCD??:CG;JX r1;PySem.F.slot_list_index;PySem.F.type_list_index|KC rABCDv?:yA;xo;PySem.F.slot_list_append;PySem.F.type_list_append:wU;wa r;PySem.F.slot_list_extend;PySem.F.type_list_extend|F9 rABCDv:Kj;Jf;PySem.F.slot_list_pop;PySem.F.type_list_pop|MB CD?:Kp;K8|J9 n?CD:Hf;JH|Ep ?v?CD:Fm;A0:A4;BZ u|ZG.weak ?|zt_w ?|JG rv?|Kr ??|Mn|Cf u??p|NX rg|Gu ?|HQ ?|GP r??|Ed rkb|Bl r???|L8 rkb|zgN _n|Gh rr?|G0 rr?|Bw ??|DP|xJ rk?|xU rk?|xQ r?|J1 rrk?|EJ|EF ?|DZ ??|Eo ?|Gz or???|GK n?|B7 rzrmx?|Es|AX o??|qG ?|CB r?|Gp ??|DX ?|N3 ??|Jy ?"))):tactic)
def lF:PSt:=
 (aj (xIf (qOf (pOp bEq (pFn b0 (aa (af 0) ag)) (ah 0))) (az (df (aa (ah 0) (aa (ah 0) (aa (af 1) ag))))) xNx)
  (az (df (aa (pOp bIx (af 0) (pOp bS (af 1) (pFn b0 (aa (af 0) ag)))) (aa (ah 0) (aa (af 1) ag))))))
def cN:PFn:=fnP [false,false] 2 lF
def tI:cN.ms=[false,false]:=rfl
def sQ(T:TT K mg):Callee P w K mg base "_law_feed" 1 ["_law_script", "_law_k"] (spD K mg 2 cN.F):=aN (T.d.get 62 rfl) (aw (N:=["_law_script", "_law_k"]) (by decide)) (λ_ _ _ _ _ _=>ar2 λ_ _=>rfl) λnd _ _ _ _ _ _ _ hr=>'d'
def lT:PSt:=
 (aj (qN 0 seL (ah 1) (pOp aV (pOp bIx (af 0) (ah 1)) (ah 1)))
  (aj (xIf (qOf (pOp bGe (pOp bIx (af 0) (ah 0)) (pOp fN (ah 10) (ah 18)))) (aj (au false 2 (pOp bS (pOp bIx (af 0) (ah 0)) (af 1)))
  (aj (qN 0 seL (ah 0) (pOp iU (pOp bIx (af 0) (ah 0)) (af 1)))
  (az (af 2)))) xNx)
  (aj (au false 3 (pOp aV (pOp aV (pOp bS (pOp bIx (af 0) (ah 0)) (ah 1000003)) (pOp aG (ah 7919) (pOp bIx (af 0) (ah 2)))) (pOp aG (ah 104729) (pOp bIx (af 0) (ah 1)))))
  (aj (au false 3 (pOp bS (pOp aG (af 3) (ah 48271)) (ah 2147483647)))
  (az (pOp bS (pOp bS (pOp aG (af 3) (pOp aV (pOp bS (af 3) (ah 65521)) (pOp bIx (af 0) (ah 1)))) (ah 2147483629)) (af 1)))))))
def ao:PFn:=fnP [true,false] 4 lT
def sY:ao.ms=[true,false]:=rfl
def qI(T:TT K mg):Callee P w K mg base "_law_next" 1 ["_law_feed_here", "_law_many"] (spD K mg 2 ao.F):=aN (T.d.get 63 rfl) (aw (N:=["_law_feed_here", "_law_many", "_law_digit", "_law_mixed"]) (by decide)) (λ_ _ _ _ _ _=>ar2 λ_ _=>rfl) λnd _ _ _ _ _ _ _ hr=>'d'
def fS:PSt:=
 (fO 2 3 (aa (af 3) (aa (pOp bS (af 2) (af 3)) ag)))
def nR:PSt:=
 (aj (fO 2 3 (aa (pFn eL (aa (af 0) ag)) (aa (pFn eL (aa (af 1) ag)) ag)))
  (aj (xWh (qOf (pOp bGt (af 3) (ah 0))) (fS))
  (aj (xIf (qOf (pOp bLt (af 1) (ah 0))) (au false 2 (pOp dN (ah 0) (af 2))) xNx)
  (az (bC (aa (pOp iU (af 0) (af 2)) (aa (pOp iU (af 1) (af 2)) ag)))))))
def aQ:PFn:=fnP [false,false] 4 nR
def vd:aQ.ms=[false,false]:=rfl
def tD(T:TT K mg):Callee P w K mg base "_law_low" 1 ["_law_top", "_law_bottom"] (spD K mg 2 aQ.F):=aN (T.d.get 65 rfl) (aw (N:=["_law_top", "_law_bottom", "_law_one", "_law_two"]) (by decide)) (λ_ _ _ _ _ _=>ar2 λ_ _=>rfl) λnd _ _ _ _ _ _ _ hr=>'d'
def jk:PSt:=
 (au false 2 (pOp aV (pOp aG (af 2) (pOp fN (ah 10) (ah 6))) (ai ao (aa (af 0) (aa (pOp fN (ah 10) (ah 6)) ag)))))
def kz:PSt:=
 (aj (au false 2 (ah 0))
  (aj (kP (jJ (aa (ah 6) ag)) (gtN 3) (jk))
  (az (pOp dN (pOp bS (af 2) (pOp aV (pOp aG (ah 2) (af 1)) (ah 1))) (af 1)))))
def bg:PFn:=fnP [true,false] 4 kz
def sF:bg.ms=[true,false]:=rfl
def oH(T:TT K mg):Callee P w K mg base "_law_great" 2 ["_law_feed_here", "_law_far"] (spD K mg 2 bg.F):=aN (T.d.get 64 rfl) (aw (N:=["_law_feed_here", "_law_far", "_law_number", "_law_k"]) (by decide)) (λ_ _ _ _ _ _=>ar2 λ_ _=>rfl) λnd _ _ _ _ _ _ _ hr=>'d'
def i7:PSt:=
 (aj (au false 1 (ai ao (aa (af 0) (aa (ah 6) ag))))
  (aj (fO 2 3 (aa (bC (aa (pOp dN (ai ao (aa (af 0) (aa (ah 19) ag))) (ah 9)) (aa (ah 1) ag))) (aa (bC (aa (pOp dN (ai ao (aa (af 0) (aa (ah 19) ag))) (ah 9)) (aa (ah 1) ag))) ag)))
  (aj (fO 4 5 (aa (bC (aa (pOp aV (ah 1) (ai ao (aa (af 0) (aa (ah 12) ag)))) (aa (ah 1) ag))) (aa (bC (aa (pOp aV (ah 1) (ai ao (aa (af 0) (aa (ah 12) ag)))) (aa (ah 1) ag))) ag)))
  (aj (xIf (qOf (pOp bEq (af 1) (ah 1))) (au false 5 (af 4)) xNx)
  (aj (xIf (qOf (pOp bEq (af 1) (ah 2))) (au false 4 (bC (aa (pOp aV (ah 1) (ai ao (aa (af 0) (aa (ah 99) ag)))) (aa (ah 1) ag)))) xNx)
  (aj (xIf (qOf (pOp bEq (af 1) (ah 3))) (au false 5 (bC (aa (pOp aV (ah 1) (ai ao (aa (af 0) (aa (ah 99) ag)))) (aa (ah 1) ag)))) xNx)
  (aj (xIf (qOf (pOp bEq (af 1) (ah 4))) (aj (fO 2 3 (aa (ai aQ (aa (pOp dN (ai ao (aa (af 0) (aa (ah 199) ag))) (ah 99)) (aa (pOp aV (ah 1) (ai ao (aa (af 0) (aa (ah 30) ag)))) ag))) (aa (ai aQ (aa (ai ao (aa (af 0) (aa (ah 9) ag))) (aa (ah 7) ag))) ag)))
  (fO 4 5 (aa (ai aQ (aa (pOp aV (ah 1) (ai ao (aa (af 0) (aa (ah 99) ag)))) (aa (pOp aV (ah 1) (ai ao (aa (af 0) (aa (ah 30) ag)))) ag))) (aa (ai aQ (aa (pOp aV (ah 1) (ai ao (aa (af 0) (aa (ah 99) ag)))) (aa (ah 11) ag))) ag)))) xNx)
  (aj (xIf (qOf (pOp bEq (af 1) (ah 5))) (aj (au false 6 (pOp dN (pOp fN (ah 10) (ah 30)) (ah 1)))
  (aj (fO 2 3 (aa (ai aQ (aa (ai bg (aa (af 0) (aa (af 6) ag))) (aa (pOp aV (ah 1) (pFn eL (aa (ai bg (aa (af 0) (aa (pOp dN (af 6) (ah 1)) ag))) ag))) ag))) (aa (bC (aa (ai bg (aa (af 0) (aa (af 6) ag))) (aa (ah 1) ag))) ag)))
  (fO 4 5 (aa (bC (aa (pOp aV (ah 1) (pFn eL (aa (ai bg (aa (af 0) (aa (pOp dN (af 6) (ah 1)) ag))) ag))) (aa (ah 1) ag))) (aa (ai aQ (aa (pOp aV (ah 1) (pFn eL (aa (ai bg (aa (af 0) (aa (pOp dN (af 6) (ah 1)) ag))) ag))) (aa (af 6) ag))) ag))))) xNx)
  (az (bC (aa (af 2) (aa (af 3) (aa (af 4) (aa (af 5) ag))))))))))))))
def eO:PFn:=fnP [true] 7 i7
def tN:eO.ms=[true]:=rfl
def sx(T:TT K mg):Callee P w K mg base "_law_room" 3 ["_law_feed_here"] (spD K mg 1 eO.F):=aN (T.d.get 66 rfl) (aw (N:=["_law_feed_here", "_law_way", "_law_left", "_law_top", "_law_wide", "_law_high", "_law_far"]) (by decide)) (λ_ _ _ _ _ _=>ar1 λ_=>rfl) λnd _ _ _ _ _ _ _ hr=>'d'
def dH:PSt:=
 (aj (au true 3 (ai cN (aa (af 0) (aa (pOp aV (pOp aV (af 1) (ah 1)) (af 8)) ag))))
  (aj (au false 9 (pOp bIx (df (aa (ah 1) (aa (pOp aV (ah 1) (ai ao (aa (af 3) (aa (ah 9) ag)))) (aa (pOp sU (ah 1) (pOp bS (af 8) (ah 24))) (aa (pOp aV (ah 1) (ai ao (aa (af 3) (aa (ah 9) ag)))) (aa (ah 1) (aa (pOp aV (ah 1) (ai ao (aa (af 3) (aa (ah 3) ag)))) ag))))))) (af 6)))
  (aj (xIf (qAn (qOf (pOp bEq (af 6) (ah 3))) (qOf (pOp bEq (ai ao (aa (af 3) (aa (ah 4) ag))) (ah 0)))) (au false 9 (pOp aV (pOp fN (ah 10) (ah 29)) (ai ao (aa (af 3) (aa (ah 100) ag))))) xNx)
  (aj (xIf (qOf (pOp bEq (af 6) (ah 4))) (au false 9 (pOp aV (ah 1) (pFn eL (aa (ai bg (aa (af 3) (aa (pOp dN (pOp fN (ah 10) (ah 30)) (ah 2)) ag))) ag)))) xNx)
  (bz (iH 7 eB (aa (af 9) ag)))))))
def fM:PSt:=
 (aj (au true 3 (ai cN (aa (af 0) (aa (af 1) ag))))
  (aj (au false 4 (pOp aV (ah 1) (ai ao (aa (af 3) (aa (pFn sC (aa (af 2) (aa (ah 7) ag))) ag)))))
  (aj (au false 5 (ai ao (aa (af 3) (aa (ah 6) ag))))
  (aj (xIf (qOf (pOp bLt (af 5) (ah 2))) (au false 4 (pOp bIx (df (aa (af 2) (aa (pFn qZ (aa (ah 1) (aa (pOp iU (pOp aG (af 4) (af 2)) (ah 8)) ag))) ag))) (af 5))) xNx)
  (aj (au false 6 (ai ao (aa (af 3) (aa (ah 6) ag))))
  (aj (xIf (qOf (pOp bGt (af 4) (ah 9))) (au false 6 (pOp bS (af 6) (ah 3))) xNx)
  (aj (au true 7 (df ag))
  (aj (kP (jJ (aa (af 4) ag)) (gtN 8) (dH))
  (az (af 7))))))))))
def cQ:PFn:=fnP [false,false,false] 10 fM
def mQ:cQ.ms=[false,false,false]:=rfl
def lR(T:TT K mg):Callee P w K mg base "_law_weights" 3 ["_law_script", "_law_at", "_law_most"] (spD K mg 3 cQ.F):=aN (T.d.get 67 rfl) (aw (N:=["_law_script", "_law_at", "_law_most", "_law_feed_here", "_law_many", "_law_more", "_law_style", "_law_some", "_law_k", "_law_weight"]) (by decide)) (λ_ _ _ _ _ _=>ar3 λ_ _ _=>rfl) λnd _ _ _ _ _ _ _ hr=>'d'
def nZ:PSt:=
 (az (ai aQ (aa (pOp aV (pOp aG (pOp bIx (af 0) (ah 0)) (pOp bIx (af 1) (ah 1))) (pOp aG (pOp bIx (af 1) (ah 0)) (pOp bIx (af 0) (ah 1)))) (aa (pOp aG (pOp bIx (af 0) (ah 1)) (pOp bIx (af 1) (ah 1))) ag))))
def eF:PFn:=fnP [false,false] 2 nZ
def xi:eF.ms=[false,false]:=rfl
def sX(T:TT K mg):Callee P w K mg base "_law_add" 2 ["_law_one", "_law_two"] (spD K mg 2 eF.F):=aN (T.d.get 68 rfl) (aw (N:=["_law_one", "_law_two"]) (by decide)) (λ_ _ _ _ _ _=>ar2 λ_ _=>rfl) λnd _ _ _ _ _ _ _ hr=>'d'
def cG:PSt:=
 (aj (xIf (qOf (pOp bEq (af 1) (bX "across"))) (aj (au false 11 (ai eF (aa (af 3) (aa (ai aQ (aa (pOp aG (pOp bIx (af 5) (ah 0)) (af 9)) (aa (pOp aG (pOp bIx (af 5) (ah 1)) (af 7)) ag))) ag))))
  (bz (iH 8 eB (aa (bC (aa (af 11) (aa (af 4) (aa (ai aQ (aa (pOp aG (pOp bIx (af 5) (ah 0)) (af 10)) (aa (pOp aG (pOp bIx (af 5) (ah 1)) (af 7)) ag))) (aa (af 6) ag))))) ag)))) (aj (au false 11 (ai eF (aa (af 4) (aa (ai aQ (aa (pOp aG (pOp bIx (af 6) (ah 0)) (af 9)) (aa (pOp aG (pOp bIx (af 6) (ah 1)) (af 7)) ag))) ag))))
  (bz (iH 8 eB (aa (bC (aa (af 3) (aa (af 11) (aa (af 5) (aa (ai aQ (aa (pOp aG (pOp bIx (af 6) (ah 0)) (af 10)) (aa (pOp aG (pOp bIx (af 6) (ah 1)) (af 7)) ag))) ag))))) ag)))))
  (au false 9 (pOp aV (af 9) (af 10))))
def ki:PSt:=
 (aj (gH (af 0) (gtX (gtT 4 (aO (gtN 3) (aO (gtN 4) (aO (gtN 5) (aO (gtN 6) cX)))))))
  (aj (au false 7 (pFn bH (aa (af 2) ag)))
  (aj (au true 8 (df ag))
  (aj (au false 9 (ah 0))
  (aj (kP (c7 (af 2)) (gtN 10) (cG))
  (az (af 8)))))))
def dW:PFn:=fnP [false,false,false] 12 ki
def pE:dW.ms=[false,false,false]:=rfl
def oU(T:TT K mg):Callee P w K mg base "_law_parts" 3 ["_law_box", "_law_way", "_law_weights_here"] (spD K mg 3 dW.F):=aN (T.d.get 69 rfl) (aw (N:=["_law_box", "_law_way", "_law_weights_here", "_law_left", "_law_top", "_law_wide", "_law_high", "_law_whole", "_law_parts_here", "_law_ahead", "_law_weight", "_law_at"]) (by decide)) (λ_ _ _ _ _ _=>ar3 λ_ _ _=>rfl) λnd _ _ _ _ _ _ _ hr=>'d'
noncomputable def fR(s:PFx [false,false,false]):PSt:=
 (au false 4 (pOp aV (af 4) (ah 1)))
def eD(s:PFx [false,false,false]):PSt:=
 (aj (xIf (qOf (pOp bEq (pFn b0 (aa (af 2) ag)) (ah 1))) (az (pOp bIx (af 2) (ah 0))) xNx)
  (aj (au false 3 (pLC (c7 (af 2)) [none,some 1] (by decide) (gtN 0) qY (pOp bIx (af 1) (af 0))))
  (aj (au false 4 (ah 1))
  (aj (xWh (qOf (pOp bLt (pOp aG (ah 3) (pFn bH (aa (pSl (af 3) oN (oS (af 4))) ag))) (pFn bH (aa (af 3) ag)))) (fR s))
  (aj (au false 5 (pOp bIx (df (aa (bX "down") (aa (bX "across") ag))) (pFn o3 (aa (pOp bGe (pOp aG (pOp bIx (pOp bIx (af 0) (ah 2)) (ah 0)) (pOp bIx (pOp bIx (af 0) (ah 3)) (ah 1))) (pOp aG (pOp bIx (pOp bIx (af 0) (ah 3)) (ah 0)) (pOp bIx (pOp bIx (af 0) (ah 2)) (ah 1)))) ag))))
  (aj (gH (ai dW (aa (af 0) (aa (af 5) (aa (df (aa (pFn bH (aa (pSl (af 3) oN (oS (af 4))) ag)) (aa (pFn bH (aa (pSl (af 3) (oS (af 4)) oN) ag)) ag))) ag)))) (gtX (gtU 2 (aO (gtN 6) (aO (gtN 7) cX)))))
  (az (bC (aa (af 5) (aa (bC (aa (ai s.fn (aa (af 6) (aa (af 1) (aa (pSl (af 2) oN (oS (af 4))) ag)))) (aa (ai s.fn (aa (af 7) (aa (af 1) (aa (pSl (af 2) (oS (af 4)) oN) ag)))) ag))) ag))))))))))
def cq:Nat->PFx [false,false,false]
 |0=>PFx.none [false,false,false]
 |n+1=>PFx.of [false,false,false] 8 (eD (cq n))
theorem jt(T:TT K mg):∀n,Callee P w K mg base "_law_due" (5+n) ["_law_room_here", "_law_weights_here", "_law_numbers"] (spD K mg 3 (cq n).F)
 |0=>ok0 (T.d.get 70 rfl) (aw (N:=["_law_room_here", "_law_weights_here", "_law_numbers", "_law_some", "_law_at", "_law_way", "_law_one", "_law_two"]) (by decide)) (λ_ _ _ _ _ _=>ar3 λ_ _ _=>rfl)
 |
  n+1=>by
  have ih:=jt T n
  show Callee _ _ _ _ _ _ _ _ (spD _ _ _ (PFx.of [false,false,false] 8 (eD (cq n))).F)
  exact Ar (k:=5+n) (T.d.get 70 rfl) (aw (N:=["_law_room_here", "_law_weights_here", "_law_numbers", "_law_some", "_law_at", "_law_way", "_law_one", "_law_two"]) (by decide)) (λ_ _ _ _ _ _=>ar3 λ_ _ _=>rfl) λnd _ _ _ _ _ _ _ hr=>(ay 'd' (ay (B9 nd ["_law_room_here", "_law_weights_here", "_law_numbers", "_law_some", "_law_at", "_law_way", "_law_one", "_law_two"] (ak (top 70)).names ["_law_k", "_law_weights_here"] [none,some 1] 'd' (λnd _ _ _ _ _=>'d') (λnd _ _ _ _ _=>'d')) 'd'))
noncomputable def i0:PSt:=
 (az (i9 (pFn (bp bW) (aa (af 0) (aa (pTy "int") ag))) (Bf (pFn (bp bW) (aa (af 0) (aa (pTy "bool") ag))))))
def bE:PFn:=fnP [false] 1 i0
def tw:bE.ms=[false]:=rfl
def sA(T:TT K mg):Callee P w K mg base "is_whole" 1 ["thing"] (spD K mg 1 bE.F):=aN (T.d.get 10 rfl) (aw (N:=["thing"]) (by decide)) (λ_ _ _ _ _ _=>ar1 λ_=>rfl) λnd _ _ _ _ _ _ _ hr=>'d'
def cB:PSt:=
 (fO 0 1 (aa (af 1) (aa (pOp bS (af 0) (af 1)) ag)))
def gi:PSt:=
 (aj (fO 0 1 (aa (pFn eL (aa (af 0) ag)) (aa (pFn eL (aa (af 1) ag)) ag)))
  (aj (xWh (qOf (pOp bNe (af 1) (ah 0))) (cB))
  (az (af 0))))
def bA:PFn:=fnP [false,false] 2 gi
def kg:bA.ms=[false,false]:=rfl
def jA(T:TT K mg):Callee P w K mg base "common_divisor" 1 ["one", "other"] (spD K mg 2 bA.F):=aN (T.d.get 11 rfl) (aw (N:=["one", "other"]) (by decide)) (λ_ _ _ _ _ _=>ar2 λ_ _=>rfl) λnd _ _ _ _ _ _ _ hr=>'d'
def jh:PSt:=
 (aj (xIf (qO (qNo (qOf (pFn (bp bW) (aa (af 0) (aa (pTy "tuple") ag))))) (qOf (pOp bNe (pFn b0 (aa (af 0) ag)) (ah 2)))) (az (pBl false)) xNx)
  (aj (gH (af 0) (gtX (gtT 2 (aO (gtN 1) (aO (gtN 2) cX)))))
  (aj (xIf (qO (qNo (qOf (ai bE (aa (af 1) ag)))) (qNo (qOf (ai bE (aa (af 2) ag))))) (az (pBl false)) xNx)
  (az (i9 (pOp bGe (af 2) (ah 1)) (pOp bEq (ai bA (aa (af 1) (aa (af 2) ag))) (ah 1)))))))
def cm:PFn:=fnP [false] 3 jh
def nK:cm.ms=[false]:=rfl
def lU(T:TT K mg):Callee P w K mg base "is_fraction" 2 ["thing"] (spD K mg 1 cm.F):=aN (T.d.get 12 rfl) (aw (N:=["thing", "top", "bottom"]) (by decide)) (λ_ _ _ _ _ _=>ar1 λ_=>rfl) λnd _ _ _ _ _ _ _ hr=>'d'
def qM:PSt:=
 (aj (xIf (qO (qNo (qOf (pFn (bp bW) (aa (af 0) (aa (pTy "tuple") ag))))) (qOf (pOp bNe (pFn b0 (aa (af 0) ag)) (ah 4)))) (az (pBl false)) xNx)
  (aj (xIf (qNo (qOf (pFn o8 (aa (pLC (c7 (af 0)) [none] (by decide) (gtN 0) qY (ai cm (aa (af 0) ag))) ag)))) (az (pBl false)) xNx)
  (az (i9 (pOp bGt (pOp bIx (pOp bIx (af 0) (ah 2)) (ah 0)) (ah 0)) (pOp bGt (pOp bIx (pOp bIx (af 0) (ah 3)) (ah 0)) (ah 0))))))
def gm:PFn:=fnP [false] 1 qM
def zF:gm.ms=[false]:=rfl
def wA(T:TT K mg):Callee P w K mg base "is_box" 3 ["thing"] (spD K mg 1 gm.F):=aN (T.d.get 22 rfl) (aw (N:=["thing"]) (by decide)) (λ_ _ _ _ _ _=>ar1 λ_=>rfl) λnd _ _ _ _ _ _ _ hr=>(ay 'd' (ay (pf (qG (rT (gk (allK (K:=K) rfl rfl) ym rfl (T.n rfl) (by first |exact boF rfl |exact boT rfl) (cI (iF ["thing"] (ak (top 22)).names ["part"] [none] 'd' (λnd _ _ _ _ _=>'d') (λnd _ _ _ _ _=>'d')) 'd')))) 'd' 'd') 'd'))
def kC:PSt:=
 (xIf (qNo (qOf (ai gm (aa (af 0) ag)))) (dP "NoBox" (aa (bX "this is no box") ag)) xNx)
def bc:PFn:=fnP [false] 1 kC
def qu:bc.ms=[false]:=rfl
def oV(T:TT K mg):Callee P w K mg base "check_box" 4 ["thing"] (spD K mg 1 bc.F):=aN (T.d.get 23 rfl) (aw (N:=["thing"]) (by decide)) (λ_ _ _ _ _ _=>ar1 λ_=>rfl) λnd _ _ _ _ _ _ _ hr=>'d'
noncomputable def ko:PSt:=
 (az (i9 (ai bE (aa (af 0) ag)) (pOp bGe (af 0) (ah 1))))
def cV:PFn:=fnP [false] 1 ko
def rW:cV.ms=[false]:=rfl
def oJ(T:TT K mg):Callee P w K mg base "is_weight" 2 ["thing"] (spD K mg 1 cV.F):=aN (T.d.get 27 rfl) (aw (N:=["thing"]) (by decide)) (λ_ _ _ _ _ _=>ar1 λ_=>rfl) λnd _ _ _ _ _ _ _ hr=>'d'
def gA:PSt:=
 (aj (xIf (qO (qNo (qOf (pFn (bp bW) (aa (af 0) (aa (pTy "list") ag))))) (qOf (pOp bEq (pFn b0 (aa (af 0) ag)) (ah 0)))) (dP "NoWeights" (aa (bX "this is no list of weights") ag)) xNx)
  (aj (xIf (qNo (qOf (pFn o8 (aa (pLC (c7 (af 0)) [none] (by decide) (gtN 0) qY (ai cV (aa (af 0) ag))) ag)))) (dP "NoWeights" (aa (bX "a weight is a whole number from 1 on") ag)) xNx)
  (xIf (qOf (pOp bGt (pFn b0 (aa (af 0) ag)) gF)) (dP "TooMany" (aa (bX "these are more weights than forty") ag)) xNx)))
def aY:PFn:=fnP [false] 1 gA
def kM:aY.ms=[false]:=rfl
def ke(T:TT K mg):Callee P w K mg base "check_weights" 3 ["thing"] (spD K mg 1 aY.F):=aN (T.d.get 28 rfl) (aw (N:=["thing"]) (by decide)) (λ_ _ _ _ _ _=>ar1 λ_=>rfl) λnd _ _ _ _ _ _ _ hr=>(ay 'd' (ay (pf (qG (rT (gk (allK (K:=K) rfl rfl) ym rfl (T.n rfl) (by first |exact boF rfl |exact boT rfl) (cI (iF ["thing"] (ak (top 28)).names ["weight"] [none] 'd' (λnd _ _ _ _ _=>'d') (λnd _ _ _ _ _=>'d')) 'd')))) 'd' 'd') 'd'))
noncomputable def eN:PSt:=
 (az (pFn sg (aa (pFn b0 (aa (af 0) ag)) (aa (af 0) ag))))
def bj:PFn:=fnP [false] 1 eN
def ie:bj.ms=[false]:=rfl
def g6(T:TT K mg):Callee P w K mg base "by_falling_weights" 1 ["weights"] (spD K mg 1 bj.F):=okPL (T.d.get 37 rfl) T.l (aw (N:=["weights"]) (by decide)) (λ_ _ _ _ _ _=>ar1 λ_=>rfl) λnd _ _ _ _ _ _ _ _ e2 e3 hr=>(fo (gw (FA rfl hr.depth rfl (T.n rfl) rfl (T.n rfl) rfl rfl rfl e2 e3 'd')))
def ka:PSt:=
 (aj (au false 1 (pLC (CS (aa (ah 1) (aa (pFn b0 (aa (af 0) ag)) ag))) [none,some 0] (by decide) (gtN 0) qY (pFn eL (aa (pOp dN (pOp aG (ah 2) (pFn bH (aa (pSl (af 1) oN (oS (af 0))) ag))) (pFn bH (aa (af 1) ag))) ag))))
  (az (pOp aV (C3 u4 (af 1) (aa (pFn yr (aa (af 1) ag)) ag)) (ah 1))))
def fP:PFn:=fnP [false] 2 ka
def eU(T:TT K mg):Callee P w K mg base "nearest_to_half" 1 ["weights"] (spD K mg 1 fP.F):=aN (T.d.get 59 rfl) (aw (N:=["weights", "apart"]) (by decide)) (λ_ _ _ _ _ _=>ar1 λ_=>rfl) λnd _ _ _ _ _ _ _ hr=>(ay (B9 nd ["weights", "apart"] (ak (top 59)).names ["many", "weights"] [none,some 0] 'd' (λnd _ _ _ _ _=>'d') (λnd _ _ _ _ _=>'d')) 'd')
def cp:PSt:=
 (v5 1 vI (ah 1))
def fQ:PSt:=
 (aj (au false 1 (ah 1))
  (aj (xWh (qOf (pOp bLt (pOp aG (ah 3) (pFn bH (aa (pSl (af 0) oN (oS (af 1))) ag))) (pFn bH (aa (af 0) ag)))) (cp))
  (az (af 1))))
def bQ:PFn:=fnP [false] 2 fQ
def jx:bQ.ms=[false]:=rfl
def eV(T:TT K mg):Callee P w K mg base "fewest_to_third" 1 ["weights"] (spD K mg 1 bQ.F):=aN (T.d.get 60 rfl) (aw (N:=["weights", "many"]) (by decide)) (λ_ _ _ _ _ _=>ar1 λ_=>rfl) λnd _ _ _ _ _ _ _ hr=>'d'
noncomputable def lq:PSt:=
 (az (i9 (pFn (bp bW) (aa (af 0) (aa (pTy "str") ag))) (pOp bIn (af 0) uD)))
def da:PFn:=fnP [false] 1 lq
def yt:da.ms=[false]:=rfl
def vH(T:TT K mg):Callee P w K mg base "is_way" 1 ["thing"] (spD K mg 1 da.F):=aN (T.d.get 24 rfl) (aw (N:=["thing"]) (by decide)) (λ_ _ _ _ _ _=>ar1 λ_=>rfl) λnd _ _ _ _ _ _ _ hr=>'d'
noncomputable def ku:PSt:=
 (xIf (qNo (qOf (ai da (aa (af 0) ag)))) (dP "NoWay" (aa (bX "this is no way") ag)) xNx)
def dX:PFn:=fnP [false] 1 ku
def rS:dX.ms=[false]:=rfl
def oQ(T:TT K mg):Callee P w K mg base "check_way" 2 ["way"] (spD K mg 1 dX.F):=aN (T.d.get 25 rfl) (aw (N:=["way"]) (by decide)) (λ_ _ _ _ _ _=>ar1 λ_=>rfl) λnd _ _ _ _ _ _ _ hr=>'d'
def lI:PSt:=
 (aj (xIf (qOf (pOp bEq (af 1) (ah 0))) (dP "NoFraction" (aa (bX "a fraction has no bottom of 0") ag)) xNx)
  (aj (au false 2 (ai bA (aa (af 0) (aa (af 1) ag))))
  (aj (xIf (qOf (pOp bLt (af 1) (ah 0))) (au false 2 (pUn qS (af 2))) xNx)
  (az (bC (aa (pOp iU (af 0) (af 2)) (aa (pOp iU (af 1) (af 2)) ag)))))))
def cn:PFn:=fnP [false,false] 3 lI
def tG:cn.ms=[false,false]:=rfl
def rM(T:TT K mg):Callee P w K mg base "fraction" 2 ["top", "bottom"] (spD K mg 2 cn.F):=aN (T.d.get 13 rfl) (aw (N:=["top", "bottom", "divisor"]) (by decide)) (λ_ _ _ _ _ _=>ar2 λ_ _=>rfl) λnd _ _ _ _ _ _ _ hr=>'d'
def uw:PSt:=
 (az (ai cn (aa (pOp aV (pOp aG (pOp bIx (af 0) (ah 0)) (pOp bIx (af 1) (ah 1))) (pOp aG (pOp bIx (af 1) (ah 0)) (pOp bIx (af 0) (ah 1)))) (aa (pOp aG (pOp bIx (af 0) (ah 1)) (pOp bIx (af 1) (ah 1))) ag))))
def iq:PFn:=fnP [false,false] 2 uw
def BD:iq.ms=[false,false]:=rfl
def xt(T:TT K mg):Callee P w K mg base "added" 3 ["one", "other"] (spD K mg 2 iq.F):=aN (T.d.get 14 rfl) (aw (N:=["one", "other"]) (by decide)) (λ_ _ _ _ _ _=>ar2 λ_ _=>rfl) λnd _ _ _ _ _ _ _ hr=>'d'
def ue:PSt:=
 (az (ai cn (aa (pOp aG (pOp bIx (af 0) (ah 0)) (pOp bIx (af 1) (ah 0))) (aa (pOp aG (pOp bIx (af 0) (ah 1)) (pOp bIx (af 1) (ah 1))) ag))))
def fY:PFn:=fnP [false,false] 2 ue
def A5:fY.ms=[false,false]:=rfl
def zj(T:TT K mg):Callee P w K mg base "times" 3 ["one", "other"] (spD K mg 2 fY.F):=aN (T.d.get 15 rfl) (aw (N:=["one", "other"]) (by decide)) (λ_ _ _ _ _ _=>ar2 λ_ _=>rfl) λnd _ _ _ _ _ _ _ hr=>'d'
def gB:PSt:=
 (aj (au false 7 (ai iq (aa (af 0) (aa (ai fY (aa (af 1) (aa (ai cn (aa (af 4) (aa (af 3) ag))) ag))) ag))))
  (aj (bz (iH 5 eB (aa (bC (aa (af 7) (aa (ai fY (aa (af 1) (aa (ai cn (aa (af 6) (aa (af 3) ag))) ag))) ag))) ag)))
  (v5 4 vI (af 6))))
def qt:PSt:=
 (aj (au false 3 (pFn bH (aa (af 2) ag)))
  (aj (au false 4 (ah 0))
  (aj (au true 5 (df ag))
  (aj (kP (c7 (af 2)) (gtN 6) (gB))
  (az (af 5))))))
def eX:PFn:=fnP [false,false,false] 8 qt
def yI:eX.ms=[false,false,false]:=rfl
def vZ(T:TT K mg):Callee P w K mg base "shares" 4 ["start", "length", "weights"] (spD K mg 3 eX.F):=aN (T.d.get 31 rfl) (aw (N:=["start", "length", "weights", "whole", "ahead", "found", "weight", "begin"]) (by decide)) (λ_ _ _ _ _ _=>ar3 λ_ _ _=>rfl) λnd _ _ _ _ _ _ _ hr=>'d'
def p7:PSt:=
 (aj (bz (ai bc (aa (af 0) ag)))
  (aj (bz (ai dX (aa (af 1) ag)))
  (aj (bz (ai aY (aa (af 2) ag)))
  (aj (gH (af 0) (gtX (gtT 4 (aO (gtN 3) (aO (gtN 4) (aO (gtN 5) (aO (gtN 6) cX)))))))
  (aj (xIf (qOf (pOp bEq (af 1) (bX "across"))) (az (pLC (c7 (ai eX (aa (af 3) (aa (af 5) (aa (af 2) ag))))) [none,none,some 4,some 6] (by decide) (gtT 2 (aO (gtN 0) (aO (gtN 1) cX))) qY (bC (aa (af 0) (aa (af 2) (aa (af 1) (aa (af 3) ag))))))) xNx)
  (az (pLC (c7 (ai eX (aa (af 4) (aa (af 6) (aa (af 2) ag))))) [none,none,some 3,some 5] (by decide) (gtT 2 (aO (gtN 0) (aO (gtN 1) cX))) qY (bC (aa (af 2) (aa (af 0) (aa (af 3) (aa (af 1) ag))))))))))))
def d9:PFn:=fnP [false,false,false] 7 p7
def zH:d9.ms=[false,false,false]:=rfl
def lX(T:TT K mg):Callee P w K mg base "parted" 5 ["box", "way", "weights"] (spD K mg 3 d9.F):=aN (T.d.get 32 rfl) (aw (N:=["box", "way", "weights", "left", "top", "wide", "high"]) (by decide)) (λ_ _ _ _ _ _=>ar3 λ_ _ _=>rfl) λnd _ _ _ _ _ _ _ hr=>(ay 'd' (ay 'd' (ay 'd' (ay 'd' (ay (pf 'd' (fo (gw (iF ["box", "way", "weights", "left", "top", "wide", "high"] (ak (top 32)).names ["begin", "length", "top", "high"] [none,none,some 4,some 6] 'd' (λnd _ _ _ _ _=>'d') (λnd _ _ _ _ _=>'d')))) 'd') (fo (gw (iF ["box", "way", "weights", "left", "top", "wide", "high"] (ak (top 32)).names ["begin", "length", "left", "wide"] [none,none,some 3,some 5] 'd' (λnd _ _ _ _ _=>'d') (λnd _ _ _ _ _=>'d')))))))))
def oA:PSt:=
 (az (pOp bLt (pOp aG (pOp bIx (af 0) (ah 0)) (pOp bIx (af 1) (ah 1))) (pOp aG (pOp bIx (af 1) (ah 0)) (pOp bIx (af 0) (ah 1)))))
def fH:PFn:=fnP [false,false] 2 oA
def wj:fH.ms=[false,false]:=rfl
def tE(T:TT K mg):Callee P w K mg base "is_less" 1 ["one", "other"] (spD K mg 2 fH.F):=aN (T.d.get 17 rfl) (aw (N:=["one", "other"]) (by decide)) (λ_ _ _ _ _ _=>ar2 λ_ _=>rfl) λnd _ _ _ _ _ _ _ hr=>'d'
def l8:PSt:=
 (aj (bz (ai bc (aa (af 0) ag)))
  (aj (xIf (qOf (ai fH (aa (pOp bIx (af 0) (ah 2)) (aa (pOp bIx (af 0) (ah 3)) ag)))) (az (bX "down")) xNx)
  (az (bX "across"))))
def dE:PFn:=fnP [false] 1 l8
def sZ:dE.ms=[false]:=rfl
def rG(T:TT K mg):Callee P w K mg base "long_way" 5 ["box"] (spD K mg 1 dE.F):=aN (T.d.get 29 rfl) (aw (N:=["box"]) (by decide)) (λ_ _ _ _ _ _=>ar1 λ_=>rfl) λnd _ _ _ _ _ _ _ hr=>'d'
def jG:PSt:=
 (az (ai d9 (aa (af 0) (aa (ai dE (aa (af 0) ag)) (aa (df (aa (pFn bH (aa (pSl (af 1) oN (oS (af 2))) ag)) (aa (pFn bH (aa (pSl (af 1) (oS (af 2)) oN) ag)) ag))) ag)))))
def dg:PFn:=fnP [false,false,false] 3 jG
def oG:dg.ms=[false,false,false]:=rfl
def m8(T:TT K mg):Callee P w K mg base "cut_in_two" 6 ["room", "weights", "many"] (spD K mg 3 dg.F):=aN (T.d.get 33 rfl) (aw (N:=["room", "weights", "many"]) (by decide)) (λ_ _ _ _ _ _=>ar3 λ_ _ _=>rfl) λnd _ _ _ _ _ _ _ hr=>'d'
def b9(s:PFx [false,false,false,false]):PSt:=
 (aj (xIf (qOf (pOp bEq (pFn b0 (aa (af 1) ag)) (ah 1))) (az (pOp bIx (af 1) (ah 0))) xNx)
  (aj (au false 4 (qF [("nearest_to_half",fP),("fewest_to_third",bQ)] (af 3) (aa (af 2) ag)))
  (aj (gH (ai dg (aa (af 0) (aa (af 2) (aa (af 4) ag)))) (gtX (gtU 2 (aO (gtN 5) (aO (gtN 6) cX)))))
  (aj (au false 7 (ai s.fn (aa (af 5) (aa (pSl (af 1) oN (oS (af 4))) (aa (pSl (af 2) oN (oS (af 4))) (aa (af 3) ag))))))
  (aj (au false 8 (ai s.fn (aa (af 6) (aa (pSl (af 1) (oS (af 4)) oN) (aa (pSl (af 2) (oS (af 4)) oN) (aa (af 3) ag))))))
  (az (bC (aa (ai dE (aa (af 0) ag)) (aa (bC (aa (af 7) (aa (af 8) ag))) ag)))))))))
def br:Nat->PFx [false,false,false,false]
 |0=>PFx.none [false,false,false,false]
 |n+1=>PFx.of [false,false,false,false] 9 (b9 (br n))
theorem er(T:TT K mg):∀n,Callee P w K mg base "tree_in_two" (8+n) ["room", "numbers", "weights", "how_many"] (spD K mg 4 (br n).F)
 |0=>ok0 (T.d.get 58 rfl) (aw (N:=["room", "numbers", "weights", "how_many", "many", "first", "second", "ahead", "behind"]) (by decide)) (λ_ _ _ _ _ _=>ar4 λ_ _ _ _=>rfl)
 |
  n+1=>by
  have ih:=er T n
  show Callee _ _ _ _ _ _ _ _ (spD _ _ _ (PFx.of [false,false,false,false] 9 (b9 (br n))).F)
  exact Ar (k:=8+n) (T.d.get 58 rfl) (aw (N:=["room", "numbers", "weights", "how_many", "many", "first", "second", "ahead", "behind"]) (by decide)) (λ_ _ _ _ _ _=>ar4 λ_ _ _ _=>rfl) λnd _ _ _ _ _ _ _ hr=>(ay 'd' (ay (zsS 4 nd (AR (um (eU T) (hr.mono (by omega)) (um (eV T) (hr.mono (by omega)) KA)) 'd' (kq CQ) 'd')) 'd'))
def jf:PSt:=
 (aj (bz (ai bc (aa (af 0) ag)))
  (aj (bz (ai aY (aa (af 1) ag)))
  (aj (au false 2 (ai bj (aa (af 1) ag)))
  (az (ai (br 42).fn (aa (af 0) (aa (af 2) (aa (pLC (c7 (af 2)) [none,some 1] (by decide) (gtN 0) qY (pOp bIx (af 1) (af 0))) (aa (CC "fewest_to_third") ag)))))))))
def bq:PFn:=fnP [false,false] 3 jf
def nz:bq.ms=[false,false]:=rfl
def lE(T:TT K mg):Callee P w K mg base "thirds_tree" 51 ["room", "weights"] (spD K mg 2 bq.F):=aN (T.d.get 57 rfl) (aw (N:=["room", "weights", "numbers"]) (by decide)) (λ_ _ _ _ _ _=>ar2 λ_ _=>rfl) λnd _ _ _ _ _ _ _ hr=>(ay 'd' (ay 'd' (ay 'd' (fo (gw (zcF (er T 42) hr (cI 'd' (cI 'd' (cI (iF ["room", "weights", "numbers"] (ak (top 57)).names ["number", "weights"] [none,some 1] 'd' (λnd _ _ _ _ _=>'d') (λnd _ _ _ _ _=>'d')) 'd')))))))))
noncomputable def jo:PSt:=
 (xIf (qOf (pOp A2 (af 0) sT)) (dP "NoRule" (aa (bX "this is no rule") ag)) xNx)
def de:PFn:=fnP [false] 1 jo
def oM:de.ms=[false]:=rfl
def nt(T:TT K mg):Callee P w K mg base "check_rule" 1 ["rule"] (spD K mg 1 de.F):=aN (T.d.get 52 rfl) (aw (N:=["rule"]) (by decide)) (λ_ _ _ _ _ _=>ar1 λ_=>rfl) λnd _ _ _ _ _ _ _ hr=>'d'
def jg:Nat->PFx [false,false]:=λ_=>PFx.none [false,false]
def mC(T:TT K mg):Callee P w K mg base "halves_tree" 2 ["room", "weights"] (spD K mg 2 (jg 0).F):=by
 show Callee _ _ _ _ _ _ _ _ (spD _ _ _ (PFx.none [false,false]).F)
 exact ok0 (T.d.get 56 rfl) (aw (N:=["room", "weights"]) (by decide)) (λ_ _ _ _ _ _=>ar2 λ_ _=>rfl)
def kj:Nat->PFx [false,false]:=λ_=>PFx.none [false,false]
def oR(T:TT K mg):Callee P w K mg base "rows_tree" 2 ["room", "weights"] (spD K mg 2 (kj 0).F):=by
 show Callee _ _ _ _ _ _ _ _ (spD _ _ _ (PFx.none [false,false]).F)
 exact ok0 (T.d.get 35 rfl) (aw (N:=["room", "weights"]) (by decide)) (λ_ _ _ _ _ _=>ar2 λ_ _=>rfl)
def gJ:Nat->PFx [false,false]:=λ_=>PFx.none [false,false]
def kd(T:TT K mg):Callee P w K mg base "greatest_tree" 2 ["room", "weights"] (spD K mg 2 (gJ 0).F):=by
 show Callee _ _ _ _ _ _ _ _ (spD _ _ _ (PFx.none [false,false]).F)
 exact ok0 (T.d.get 36 rfl) (aw (N:=["room", "weights", "numbers"]) (by decide)) (λ_ _ _ _ _ _=>ar2 λ_ _=>rfl)
def ik:Nat->PFx [false,false,false]:=λ_=>PFx.none [false,false,false]
def kU(T:TT K mg):Callee P w K mg base "side_by_side" 2 ["way", "room", "weights"] (spD K mg 3 (ik 0).F):=by
 show Callee _ _ _ _ _ _ _ _ (spD _ _ _ (PFx.none [false,false,false]).F)
 exact ok0 (T.d.get 55 rfl) (aw (N:=["way", "room", "weights"]) (by decide)) (λ_ _ _ _ _ _=>ar3 λ_ _ _=>rfl)
def kB:PSt:=
 (aj (bz (ai de (aa (af 0) ag)))
  (aj (xIf (qOf (pOp bEq (af 0) (bX "halves"))) (az (ai (jg 0).fn (aa (af 1) (aa (af 2) ag)))) xNx)
  (aj (xIf (qOf (pOp bEq (af 0) (bX "rows"))) (az (ai (kj 0).fn (aa (af 1) (aa (af 2) ag)))) xNx)
  (aj (xIf (qOf (pOp bEq (af 0) (bX "greatest"))) (az (ai (gJ 0).fn (aa (af 1) (aa (af 2) ag)))) xNx)
  (aj (xIf (qOf (pOp bEq (af 0) (bX "thirds"))) (az (ai bq (aa (af 1) (aa (af 2) ag)))) xNx)
  (az (ai (ik 0).fn (aa (af 0) (aa (af 1) (aa (af 2) ag))))))))))
def cx:PFn:=fnP [false,false,false] 3 kB
def rR:cx.ms=[false,false,false]:=rfl
def oP(T:TT K mg):Callee P w K mg base "rule_tree" 52 ["rule", "room", "weights"] (spD K mg 3 cx.F):=aN (T.d.get 53 rfl) (aw (N:=["rule", "room", "weights"]) (by decide)) (λ_ _ _ _ _ _=>ar3 λ_ _ _=>rfl) λnd _ _ _ _ _ _ _ hr=>'d'
noncomputable def g0:PSt:=
 (aj (xIf (qO (qNo (qOf (pFn (bp bW) (aa (af 0) (aa (pTy "tuple") ag))))) (qOf (pOp bNe (pFn b0 (aa (af 0) ag)) (ah 2)))) (az (pBl false)) xNx)
  (az (i9 (ai da (aa (pOp bIx (af 0) (ah 0)) ag)) (i9 (pFn (bp bW) (aa (pOp bIx (af 0) (ah 1)) (aa (pTy "tuple") ag))) (pOp bGe (pFn b0 (aa (pOp bIx (af 0) (ah 1)) ag)) (ah 2))))))
def cz:PFn:=fnP [false] 1 g0
def qW:cz.ms=[false]:=rfl
def oD(T:TT K mg):Callee P w K mg base "is_branch" 2 ["thing"] (spD K mg 1 cz.F):=aN (T.d.get 43 rfl) (aw (N:=["thing"]) (by decide)) (λ_ _ _ _ _ _=>ar1 λ_=>rfl) λnd _ _ _ _ _ _ _ hr=>'d'
noncomputable def cL:PSt:=
 (aj (au false 4 (o6 3 pq))
  (xIf (qOf (ai cz (aa (af 4) ag))) (bz (iH 3 gx (aa (pOp bIx (af 4) (ah 1)) ag))) (xIf (qO (qNo (qOf (ai bE (aa (af 4) ag)))) (qO (qOf (pOp bLt (af 4) (ah 0))) (qO (qOf (pOp bGe (af 4) (af 1))) (qOf (pOp zY (af 4) (af 2)))))) (az (pBl false)) (bz (A7 2 (aa (af 4) ag))))))
def nY:PSt:=
 (aj (au true 2 wC)
  (aj (au true 3 (df (aa (af 0) ag)))
  (aj (xWh (qTr (af 3)) (cL))
  (az (pOp bEq (pFn ml (aa (af 2) ag)) (af 1))))))
def fF:PFn:=fnP [false,false] 5 nY
def wq:fF.ms=[false,false]:=rfl
def tJ(T:TT K mg):Callee P w K mg base "is_tree" 3 ["thing", "many"] (spD K mg 2 fF.F):=aN (T.d.get 44 rfl) (aw (N:=["thing", "many", "seen", "waiting", "part"]) (by decide)) (λ_ _ _ _ _ _=>ar2 λ_ _=>rfl) λnd _ _ _ _ _ _ _ hr=>'d'
def jD:PSt:=
 (xIf (qNo (qOf (ai fF (aa (af 0) (aa (af 1) ag))))) (dP "NoTree" (aa (bX "this is no tree for the things") ag)) xNx)
def dk:PFn:=fnP [false,false] 2 jD
def oO:dk.ms=[false,false]:=rfl
def ng(T:TT K mg):Callee P w K mg base "check_tree" 4 ["thing", "many"] (spD K mg 2 dk.F):=aN (T.d.get 45 rfl) (aw (N:=["thing", "many"]) (by decide)) (λ_ _ _ _ _ _=>ar2 λ_ _=>rfl) λnd _ _ _ _ _ _ _ hr=>'d'
noncomputable def bY:PSt:=
 (aj (au false 3 (o6 2 pq))
  (xIf (qOf (pFn (bp bW) (aa (af 3) (aa (pTy "tuple") ag)))) (bz (iH 2 gx (aa (pOp bIx (af 3) (ah 1)) ag))) (bz (iH 1 eB (aa (af 3) ag)))))
def ky:PSt:=
 (aj (au true 1 (df ag))
  (aj (au true 2 (df (aa (af 0) ag)))
  (aj (xWh (qTr (af 2)) (bY))
  (az (af 1)))))
def cS:PFn:=fnP [false] 4 ky
def pH:cS.ms=[false]:=rfl
def oI(T:TT K mg):Callee P w K mg base "things_in" 1 ["tree"] (spD K mg 1 cS.F):=aN (T.d.get 46 rfl) (aw (N:=["tree", "found", "waiting", "part"]) (by decide)) (λ_ _ _ _ _ _=>ar1 λ_=>rfl) λnd _ _ _ _ _ _ _ hr=>'d'
def l7:PSt:=
 (aj (gH (af 2) (gtX (gtT 2 (aO (gtN 3) (aO (gtN 4) cX)))))
  (az (ai d9 (aa (af 0) (aa (af 3) (aa (pLC (c7 (af 4)) [none,some 1] (by decide) (gtN 0) qY (pFn bH (aa (pLC (c7 (ai cS (aa (af 0) ag))) [none,some 1] (by decide) (gtN 0) qY (pOp bIx (af 1) (af 0))) ag))) ag))))))
def eK:PFn:=fnP [false,false,false] 5 l7
def tF:eK.ms=[false,false,false]:=rfl
def qL(T:TT K mg):Callee P w K mg base "parts_of" 6 ["room", "weights", "tree"] (spD K mg 3 eK.F):=aN (T.d.get 49 rfl) (aw (N:=["room", "weights", "tree", "way", "trees"]) (by decide)) (λ_ _ _ _ _ _=>ar3 λ_ _ _=>rfl) λnd _ _ _ _ _ _ _ hr=>(ay 'd' (fo (gw (zcF (lX T) hr (cI 'd' (cI 'd' (cI (iF ["room", "weights", "tree", "way", "trees"] (ak (top 49)).names ["part", "weights"] [none,some 1] 'd' (λnd _ _ _ _ _=>'d') (λnd _ _ _ _ _=>(gk (nW (K:=K) rfl rfl) yE rfl (T.n rfl) (by first |exact boF rfl |exact boT rfl) (cI (iF ["part", "weights"] [(PySem.Str.ofString ".0",PySem.NameKind.local),(PySem.Str.ofString "part",PySem.NameKind.local),(PySem.Str.ofString "sum",PySem.NameKind.globalImplicit),(PySem.Str.ofString "things_in",PySem.NameKind.globalImplicit),(PySem.Str.ofString "weights",PySem.NameKind.cell)] ["thing", "weights"] [none,some 1] 'd' (λnd _ _ _ _ _=>'d') (λnd _ _ _ _ _=>'d')) 'd')))) 'd')))))))
noncomputable def iO(s:PFx [false,false,false,true]):PSt:=
 (bz (ai s.fn (aa (af 5) (aa (af 1) (aa (af 4) (aa (af 3) ag))))))
def f9(s:PFx [false,false,false,true]):PSt:=
 (aj (xIf (qNo (qOf (pFn (bp bW) (aa (af 2) (aa (pTy "tuple") ag))))) (aj (qN 3 seI (af 2) (af 0))
  vf) xNx)
  (kP (wZ (aa (pOp bIx (af 2) (ah 1)) (aa (ai eK (aa (af 0) (aa (af 1) (aa (af 2) ag)))) ag))) (gtX (gtT 2 (aO (gtN 4) (aO (gtN 5) cX)))) (iO s)))
def cT:Nat->PFx [false,false,false,true]
 |0=>PFx.none [false,false,false,true]
 |n+1=>PFx.of [false,false,false,true] 6 (f9 (cT n))
theorem mH(T:TT K mg):∀n,Callee P w K mg base "place" (8+n) ["room", "weights", "tree", "placed"] (spD K mg 4 (cT n).F)
 |0=>ok0 (T.d.get 48 rfl) (aw (N:=["room", "weights", "tree", "placed", "part", "box"]) (by decide)) (λ_ _ _ _ _ _=>ar4 λ_ _ _ _=>rfl)
 |
  n+1=>by
  have ih:=mH T n
  show Callee _ _ _ _ _ _ _ _ (spD _ _ _ (PFx.of [false,false,false,true] 6 (f9 (cT n))).F)
  exact Ar (k:=8+n) (T.d.get 48 rfl) (aw (N:=["room", "weights", "tree", "placed", "part", "box"]) (by decide)) (λ_ _ _ _ _ _=>ar4 λ_ _ _ _=>rfl) λnd _ _ _ _ _ _ _ hr=>'d'
def lY:PSt:=
 (aj (bz (ai bc (aa (af 0) ag)))
  (aj (bz (ai aY (aa (af 1) ag)))
  (aj (bz (ai dk (aa (af 2) (aa (pFn b0 (aa (af 1) ag)) ag))))
  (aj (au true 3 pD0)
  (aj (bz (ai (cT 42).fn (aa (af 0) (aa (af 1) (aa (af 2) (aa (af 3) ag))))))
  (az (pLC (jJ (aa (pFn b0 (aa (af 1) ag)) ag)) [none,some 3] (by decide) (gtN 0) qY (pOp vX (af 1) (af 0)))))))))
def dM:PFn:=fnP [false,false,false] 4 lY
def tK:dM.ms=[false,false,false]:=rfl
def rl(T:TT K mg):Callee P w K mg base "boxes_by" 51 ["room", "weights", "tree"] (spD K mg 3 dM.F):=aN (T.d.get 47 rfl) (aw (N:=["room", "weights", "tree", "placed"]) (by decide)) (λ_ _ _ _ _ _=>ar3 λ_ _ _=>rfl) λnd _ _ _ _ _ _ _ hr=>(ay 'd' (ay 'd' (ay 'd' (ay 'd' (ay 'd' (fo (gw (iF ["room", "weights", "tree", "placed"] (ak (top 47)).names ["number", "placed"] [none,some 3] 'd' (λnd _ _ _ _ _=>'d') (λnd _ _ _ _ _=>'d')))))))))
def nN:PSt:=
 (az (ai dM (aa (af 1) (aa (af 2) (aa (ai cx (aa (af 0) (aa (af 1) (aa (af 2) ag)))) ag)))))
def du:PFn:=fnP [false,false,false] 3 nN
def vm:du.ms=[false,false,false]:=rfl
def tf(T:TT K mg):Callee P w K mg base "by_rule" 53 ["rule", "room", "weights"] (spD K mg 3 du.F):=aN (T.d.get 54 rfl) (aw (N:=["rule", "room", "weights"]) (by decide)) (λ_ _ _ _ _ _=>ar3 λ_ _ _=>rfl) λnd _ _ _ _ _ _ _ hr=>'d'
def vO:PSt:=
 (aj (au true 1 (ai cN (aa (af 0) (aa (ah 55) ag))))
  (aj (au false 2 (ai eO (aa (af 1) ag)))
  (aj (au false 3 (ai cQ (aa (af 0) (aa (ah 0) (aa (pOp bIx (df (aa (ah 9) (aa (ah 40) ag))) (pFn o3 (aa (pOp bEq (ai ao (aa (af 1) (aa (ah 6) ag))) (ah 0)) ag))) ag)))))
  (aj (au false 4 (pFn pG (aa (af 3) ag)))
  (aj (au false 5 (pLC (c7 (pFn nr (aa (pLC (jJ (aa (pFn b0 (aa (af 3) ag)) ag)) [none,some 3] (by decide) (gtN 0) qY (bC (aa (pOp dN (ah 0) (pOp bIx (af 1) (af 0))) (aa (af 0) ag)))) ag))) [none,none] (by decide) (gtT 2 (aO (gtN 0) (aO (gtN 1) cX))) qY (af 1)))
  (aj (au false 6 (ai (cq 42).fn (aa (af 2) (aa (af 3) (aa (af 5) ag)))))
  (aj (xIf (qO (qOf (pOp bNe (ai bq (aa (af 2) (aa (af 3) ag))) (af 6))) (qO (qOf (pOp bNe (ai cx (aa (bX "thirds") (aa (af 2) (aa (af 3) ag)))) (af 6))) (qOf (pOp bNe (af 3) (af 4))))) (az (pBl false)) xNx)
  (aj (xIf (qOf (pOp bLt (pFn ml (aa (pFn pX (aa (af 3) ag)) ag)) (pFn b0 (aa (af 3) ag)))) (az (pBl true)) xNx)
  (az (pOp bEq (ai du (aa (bX "thirds") (aa (af 2) (aa (pOp vF (af 3) (pUn qS (ah 1))) ag)))) (pOp vF (ai du (aa (bX "thirds") (aa (af 2) (aa (af 3) ag)))) (pUn qS (ah 1)))))))))))))
def pz:PFn:=fnP [false] 7 vO
def EL(T:TT K mg):Callee P w K mg base "law" 54 ["_law_script"] (spD K mg 1 pz.F):=aN (T.d.get 71 rfl) (aw (N:=["_law_script", "_law_feed_here", "_law_room_here", "_law_weights_here", "_law_kept", "_law_order", "_law_due_here"]) (by decide)) (λ_ _ _ _ _ _=>ar1 λ_=>rfl) λnd _ _ _ _ _ _ _ hr=>(ay 'd' (ay 'd' (ay 'd' (ay 'd' (ay (B9 nd ["_law_script", "_law_feed_here", "_law_room_here", "_law_weights_here", "_law_kept", "_law_order", "_law_due_here"] (ak (top 71)).names ["_law_weight", "_law_k"] [none,none] (xQ rfl (gk (tL (K:=K) rfl) AL rfl (T.n rfl) (by first |exact boF rfl |exact boT rfl) (cI (iF ["_law_script", "_law_feed_here", "_law_room_here", "_law_weights_here", "_law_kept", "_law_order", "_law_due_here"] (ak (top 71)).names ["_law_k", "_law_weights_here"] [none,some 3] 'd' (λnd _ _ _ _ _=>'d') (λnd _ _ _ _ _=>'d')) 'd'))) (λnd _ _ _ _ _=>'d') (λnd _ _ _ _ _=>'d')) 'd')))))
end
def fdV(a b k:Int):Val:=.lst [.int a,.int b,.int k]
def C9:fN.G (.int 10) (.int 18)=.val (.int (10^18)):=oY ⟨by decide,by decide,by decide⟩
def dm{a m:Int}(h:0<m):0<=a.fmod m/\a.fmod m<m:=⟨Int.fmod_nonneg_of_pos a h,Int.fmod_lt_of_pos a h⟩
set_option hygiene false in
local macro_rules | `(tactic|simp![$args,*])=>do
 let l <- ("% gy NA Mk L9 J2 o9 Mb zS wK Hr He Kz Ho Hz Ja JZ K3 D4 BK GI K4 yj FX JB Na Mf v_bl Mj v_ty MR v_un v_op Mu Ke v_fn LJ L4 Lj NC c_of c_tr c_an c_o c_no x_nx Gg M5 E6 EG FN IT CK x_if MN Nz MU EC zU Bm g_n g_sn g_sc g_t g_x Gj Nk Ll Of Fh Mx MW NK M9 Mc G9 H9 Lp Lh BH N7 NU IG Ih Ky Im MJ NY jN v_lc Jm IQ IC o_n o_s v_sl v_d0 Nq fx_G ML Nt k_lt k_gt k_ge Mp NL k_ix Lg Ka M1 k_eq k_ne L6 LG Np Nh NJ Nb Lo Io Gs zR bu List.getElem?_cons_zero List.getElem?_cons_succ List.set_cons_zero List.set_cons_succ List.length_cons List.length_nil Option.bind_some Option.map_some Option.isSome_some if_true if_false Bool.not_true Bool.not_false Bool.and_true Bool.true_and Bool.and_false Bool.false_and Bool.or_true Bool.true_or Bool.or_false Nat.reduceLeDiff Nat.reduceLT Nat.reduceAdd Nat.reduceSub Nat.zero_add Nat.add_zero Nat.sub_self List.cons_append List.nil_append List.append_nil List.replicate reduceCtorEq decide_true decide_false Bool.false_eq_true List.all_cons List.all_nil List.isEmpty_nil List.map_cons List.map_nil Int.reduceBEq Int.reduceLT Int.reduceAdd Int.reduceSub Int.reduceMul Int.cast_ofNat_Int HE Ew Hj Iv F4 AS JY xq Ec K5 ER yC Et HZ Af Ii F1 J7 zQ K0 IS Fe Oi N1 Ni NN yk zc xG wk tj zr Aw yQ zP ati0 ati1 ati2 ati3 ixn0 ixn1 Ls bZ KO Int.reduceNeg FT D5 List.lookup_cons List.lookup_nil g_uL tI sY vd sF tN mQ xi pE tw kg nK zF qu rW kM ie jx yt rS tG BD A5 yI zH wj sZ oG nz oM rR qW wq oO pH tF tK vm mx Cg DD".splitOn " ").tail.mapM λs=>`(Lean.Parser.Tactic.simpLemma| $(Lean.mkIdent s.toName):term)
 `(tactic|simp only[$(l.toArray),*,$args,*])
def aA{a b k m:Int}(h0:0<m)(hm:Sm 8000 m):∃r a' b',ao.G [fdV a b k,.int m]=.ok (.val (.int r)) [fdV a' b' k]/\0<=r/\r<m:=by
 unfold ao
 rw[aL]
 unfold lT fdV
 have m0:m≠0:=by omega
 have d1:=λi=>eI (i:=i) m0
 have d2:=λi=>jK (i:=i) (CDivB.of m0 hm)
 have ca:∀x:Int,CMulA 7919 x:=λx=>CMulA.left (by decide) (by decide)
 have cb:∀x:Int,CMulA 104729 x:=λx=>CMulA.left (by decide) (by decide)
 have cc:∀x:Int,CMulA x 48271:=λx=>CMulA.right (by decide) (by decide)
 have e1:bS.G (.int a) (.int 1000003)=.val (.int (a.fmod 1000003)):=eI (by decide)
 have e2:aG.G (.int 7919) (.int k)=.val (.int (7919*k)):=aZ (ca k)
 have e3:=λx=>aZ (cb x)
 have e4:=λx=>aZ (cc x)
 have e5:∀x:Int,bS.G (.int x) (.int 2147483647)=.val (.int (x.fmod 2147483647)):=λx=>eI (by decide)
 have e6:∀x:Int,bS.G (.int x) (.int 65521)=.val (.int (x.fmod 65521)):=λx=>eI (by decide)
 have e7:∀x y:Int,aG.G (.int (x.fmod 2147483647)) (.int y)=.val (.int (x.fmod 2147483647*y)):=λx y=>aZ (CMulA.left (by have:=(dm (a:=x) (m:=2147483647) (by decide)).1;omega) (by have:=(dm (a:=x) (m:=2147483647) (by decide)).2;omega))
 have e8:∀x:Int,bS.G (.int x) (.int 2147483629)=.val (.int (x.fmod 2147483629)):=λx=>eI (by decide)
 by_cases hc:(10^18:Int)<=a
 ·have hc':decide ((10^18:Int)<=a)=true:=J_ hc
  refine⟨a.fmod m,a.fdiv m,b+1,?_,dm h0⟩
  simp![C9,hc',d1,d2]
  done
 ·have hc':decide ((10^18:Int)<=a)=false:=B_ hc
  refine⟨Int.fmod (Int.fmod (Int.fmod ((Int.fmod a 1000003+7919*k+104729*(b+1))*48271) 2147483647*(Int.fmod (Int.fmod ((Int.fmod a 1000003+7919*k+104729*(b+1))*48271) 2147483647) 65521+(b+1))) 2147483629) m,a,b+1,?_,dm h0⟩
  simp![C9,hc',d1,e1,e2,e3,e4,e5,e6,e7,e8]
def xH(w:Bool):da.G [.str (wy w)]=.ok (.val (.bl true)) []:=by
 have i1:∀x:Str,(bp bW).G [.str x,.ty "str"]=.val (.bl true):=λ_=>rfl
 have i2:bIn.G (.str (wy w)) (.tup [.str "across",.str "down"])=.val (.bl true):=by cases w <;> rfl
 unfold da
 rw[aL]
 unfold lq
 simp![i1,i2]
def yc{w:Bool}{ts:List Val}(h:2<=ts.length):cz.G [.tup [.str (wy w),.tup ts]]=.ok (.val (.bl true)) []:=by
 have e:=xH w
 have i1:∀xs:List Val,(bp bW).G [.tup xs,.ty "tuple"]=.val (.bl true):=λ_=>rfl
 have g:decide ((2:Int)<=(ts.length:Nat))=true:=J_ (by omega)
 unfold cz
 rw[aL]
 unfold g0
 simp![i1,e,wH,g]
def yg{a:Val}(h:lfV a=true):cz.G [a]=.ok (.val (.bl false)) []:=by
 have i1:(bp bW).G [a,.ty "tuple"]=.val (.bl false):=by cases a <;> first |rfl |(cases h;done)
 unfold cz
 rw[aL]
 unfold g0
 simp![i1]
def yH(k:Nat):bE.G [.int (k:Nat)]=.ok (.val (.bl true)) []:=by
 have i1:(bp bW).G [.int (k:Nat),.ty "int"]=.val (.bl true):=rfl
 have i2:(bp bW).G [.int (k:Nat),.ty "bool"]=.val (.bl false):=rfl
 unfold bE
 rw[aL]
 unfold i0
 simp![i1,i2]
theorem jn{n:Nat}(v:Val):∀(N:Nat) (st:List AT) (xs:List Int) (s4:Sl),AT.cntL st<=N->s4.pl=true->(∀t∈st,t.ok=true)->(∀k∈AT.lvsL st,k<n)->(AT.lvsL st).Nodup->(∀k∈AT.lvsL st,((k:Nat):Int)∉xs)->xs.length+(AT.lvsL st).length<=3000->AT.cntL st<=100000->
 ∃(ys:List Int) (s4':Sl),ys.length=xs.length+(AT.lvsL st).length/\(xWh (qTr (af 3)) cL).G [.sh v,.sh (.int (n:Nat)),.ow (.set xs),.ow (.lst (st.map atV)),s4]=.nx [.sh v,.sh (.int (n:Nat)),.ow (.set ys),.ow (.lst []),s4']
 |
  N,[],xs,s4,_,_,_,_,_,_,_,_=>⟨xs,s4,by simp [AT.lvsL],by
  rw[g9]
  simp![OA,kN,List.isEmpty_nil]⟩
 |
  0,t::ts,xs,s4,h,_,_,_,_,_,_,_=>by
  rw[AT.cntL] at h
  cases t <;> (rw[AT.cnt] at h;omega)
 |
  N+1,t0::ts0,xs,s4,hN,h4,ho,hn,nd,hx,hl,hc=>by
  obtain⟨st,t,hst⟩:∃st t,t0::ts0=st++[t]:=⟨(t0::ts0).dropLast,(t0::ts0).getLast (by simp),(List.dropLast_concat_getLast (by simp)).symm⟩
  rw[hst] at hN ho hn nd hx hl hc ⊢
  rw[AT.lvsL_app] at hn nd hx hl
  rw[AT.lvsL_app]
  rw[AT.cntL_app] at hN hc
  have hn0:((st++[t]).map atV).isEmpty=false:=by cases st <;> rfl
  have c1:(qTr (af 3)).G [.sh v,.sh (.int (n:Nat)),.ow (.set xs),.ow (.lst ((st++[t]).map atV)),s4]=.ok true [.sh v,.sh (.int (n:Nat)),.ow (.set xs),.ow (.lst ((st++[t]).map atV)),s4]:=by
   simp![kN,hn0,Bool.not_false]
  have hto:=ho t (by simp)
  rw[g9,c1]
  show ∃ys s4',_/\((cL.G _).loop _)=_
  rw[Oz,v_,OA]
  cases t with
  |
   lf k=>
   simp only[AT.lvsL,AT.lvs,OG,z_,A_,OC,AT.cntL,AT.cnt] at hn nd hx hl hN hc ⊢
   have hk:=hn k (by simp)
   have hkx:=hx k (by simp)
   have nda:=List.nodup_append.mp nd
   obtain⟨ys,s4',q1,q2⟩:=jn (n:=n) v N st (eg xs (k:Nat)) (.sh (.int (k:Nat))) (by omega) rfl (λt ht=>ho t (by simp [ht])) (λj hj=>hn j (by simp [hj])) nda.1 (λj hj z=>by
    unfold eg at z
    rw[if_neg hkx] at z
    rcases I_.mp z with z |z
    ·exact nda.2.2 j hj k (by simp) (Int.ofNat.inj z)
    ·exact hx j (by simp [hj]) z) (by unfold eg;rw[if_neg hkx,A_];omega) (by omega)
   refine⟨ys,s4',by rw[q1];unfold eg;rw[if_neg hkx,A_];omega,?_⟩
   have b1:=yg (a:=.int (k:Nat)) rfl
   have w1:=yH k
   have l0:decide (((k:Nat):Int)<0)=false:=B_ (by omega)
   have l1:decide (((n:Nat):Int)<=(k:Nat))=false:=B_ (by omega)
   have in1:decide (((k:Nat):Int)∈xs)=false:=B_ hkx
   have av:atV (.lf k)=.int (k:Nat):=rfl
   have xl:xs.length<4000:=by omega
   have bb:cL.G [.sh v,.sh (.int (n:Nat)),.ow (.set xs),.ow (.lst (st.map atV++[atV (.lf k)])),s4]=.nx [.sh v,.sh (.int (n:Nat)),.ow (.set (eg xs (k:Nat))),.ow (.lst (st.map atV)),.sh (.int (k:Nat))]:=by
    unfold cL
    rw[av]
    simp![mi,h4,b1,w1,l0,l1,Ny,in1,Gr,qK,BE,xl]
   rw[bb]
   exact q2
  |
   nd w ts=>
   have ho':=hto
   rw[AT.ok,s_] at hto
   have h2:2<=ts.length:=P0 hto.1
   have hk:=AT.okL_mem.mp hto.2
   simp only[AT.lvsL,AT.lvs,OG,AT.cntL,AT.cnt] at hn nd hx hl hN hc ⊢
   obtain⟨ys,s4',q1,q2⟩:=jn (n:=n) v N (st++ts) xs (.sh (atV (.nd w ts))) (by rw[AT.cntL_app];omega) rfl (λt ht=>by
    rcases Pw.mp ht with ht |ht
    ·exact ho t (by simp [ht])
    ·exact hk t ht) (by rw[AT.lvsL_app];exact hn) (by rw[AT.lvsL_app];exact nd) (by rw[AT.lvsL_app];exact hx) (by rw[AT.lvsL_app];exact hl) (by rw[AT.cntL_app];omega)
   rw[AT.lvsL_app] at q1
   refine⟨ys,s4',q1,?_⟩
   have av:atV (.nd w ts)=.tup [.str (wy w),.tup (ts.map atV)]:=by
    unfold atV
    rw[AT.val,AT.vals_map]
   have b1:=yc (w:=w) (ts:=ts.map atV) (by rw[l_];exact h2)
   have le:∀l:List AT,l.length<=AT.cntL l:=by
    intro l
    induction l with
    |nil=>exact o_ _
    |cons t l ih=>rw[AT.cntL,A_];cases t <;> (rw[AT.cnt];omega)
   have ll:(st.map atV).length+(ts.map atV).length<=16777216:=by
    have:=le st
    have:=le ts
    rw[l_,l_]
    omega
   rw[av] at q2 ⊢
   rw[Oz] at q2
   have bb:cL.G [.sh v,.sh (.int (n:Nat)),.ow (.set xs),.ow (.lst (st.map atV++[.tup [.str (wy w),.tup (ts.map atV)]])),s4]=.nx [.sh v,.sh (.int (n:Nat)),.ow (.set xs),.ow (.lst (st.map atV++ts.map atV)),.sh (.tup [.str (wy w),.tup (ts.map atV)])]:=by
    unfold cL
    simp![mi,h4,b1,ou,ll]
   rw[bb]
   exact q2
def vh{t:AT}{n:Nat}(ho:t.ok=true)(hn:∀k∈t.lvs,k<n)(nd:t.lvs.Nodup)(hl:t.lvs.length=n)(h3:n<=3000)(hc:t.cnt<=100000):fF.G [atV t,.int (n:Nat)]=.ok (.val (.bl true)) []:=by
 have e1:AT.lvsL [t]=t.lvs:=by simp [AT.lvsL]
 have e2:AT.cntL [t]=t.cnt:=by simp [AT.cntL]
 obtain⟨ys,s4',q1,q2⟩:=jn (n:=n) (atV t) (AT.cntL [t]) [t] [] .no (o_ _) rfl (λu hu=>by rw[OL] at hu;rw[hu];exact ho) (by rw[e1];exact hn) (by rw[e1];exact nd) (λk hk z=>nomatch z) (by rw[e1,hl];simp;exact h3) (by rw[e2];exact hc)
 rw[e1,hl,OC,Nat.zero_add] at q1
 rw[v_,OA] at q2
 unfold fF
 rw[aL]
 unfold nY
 generalize atV t=tv at *
 simp![J5,q2,xW,q1,P9]
def oT{t:AT}{n:Nat}(ho:t.ok=true)(hn:∀k∈t.lvs,k<n)(nd:t.lvs.Nodup)(hl:t.lvs.length=n)(h3:n<=3000)(hc:t.cnt<=100000):dk.G [atV t,.int (n:Nat)]=.ok (.val .non) []:=by
 have e:=vh ho hn nd hl h3 hc
 unfold dk
 rw[aL]
 unfold jD
 generalize atV t=tv at *
 simp![e]
def f6(a:Int):(if a<0 then -a else a)=((a.natAbs:Nat):Int):=by split <;> omega
theorem pI:∀(n one bi:Nat),bi<=n->(xWh (qOf (pOp bNe (af 1) (ah 0))) cB).G [.sh (.int (one:Nat)),.sh (.int (bi:Nat))]=.nx [.sh (.int (Nat.gcd one bi:Nat)),.sh (.int 0)]
 |
  n,one,0,_=>by
  rw[g9]
  simp![gy]
  rw[Nat.gcd_zero_right]
  try rfl
 |0,one,bi+1,hl=>absurd hl (by omega)
 |
  n+1,one,bi+1,hl=>by
  rw[g9]
  have e:((((bi+1:Nat):Int)==0))=false:=by rw[D_];omega
  have e1:bS.G (.int (one:Nat)) (.int ((bi+1:Nat):Int))=.val (.int (((one:Nat):Int).fmod ((bi+1:Nat):Int))):=eI (by omega)
  have e2:((one:Nat):Int).fmod ((bi+1:Nat):Int)=((one % (bi+1):Nat):Int):=by
   rw[Int.fmod_eq_emod_of_nonneg _ (by omega)];rfl
  have ih:=pI n (bi+1) (one % (bi+1)) (by have:=Nat.mod_lt one (show bi+1>0 by omega);omega)
  rw[Fr.euc] at ih
  rw[e2] at e1
  have bb:cB.G [.sh (.int (one:Nat)),.sh (.int ((bi+1:Nat):Int))]=.nx [.sh (.int ((bi+1:Nat):Int)),.sh (.int ((one % (bi+1):Nat):Int))]:=by
   unfold cB
   simp![e1]
  simp![e,bb,ih]
def cC(a b:Int):bA.G [.int a,.int b]=.ok (.val (.int (Int.gcd a b:Nat))) []:=by
 unfold bA
 rw[aL]
 unfold gi
 have:=pI b.natAbs a.natAbs b.natAbs (o_ _)
 simp![f6,this]
 rfl
def fC{a b:Int}(hb:b≠0)(hs:Sm 8000 b):cn.G [.int a,.int b]=.ok (.val (fV ((a:Rat)/(b:Rat)))) []:=by
 unfold cn
 rw[aL]
 unfold lI
 have e:(b==0)=false:=by rw[D_];exact hb
 have c:∀x,CDivB x (Fr.dv a b):=λx=>CDivB.of (Fr.dv_ne hb) (hs.of_le (by
  rw[Fr.dv_abs]
  exact Nat.le_of_dvd (by omega) (Nat.gcd_dvd_right a.natAbs b.natAbs)))
 have k1:=jK (c a)
 have k2:=jK (c b)
 have hh:=mD (a:=a) hb
 have ii:Val.tup [.int (a.fdiv (Fr.dv a b)),.int (b.fdiv (Fr.dv a b))]=fV ((a:Rat)/(b:Rat)):=by
  unfold fV
  rw[<- hh.1,<- hh.2]
  rfl
 by_cases hn:b<0
 ·have hd:Fr.dv a b=-((Int.gcd a b:Nat):Int):=by unfold Fr.dv;rw[if_pos hn]
  rw[hd] at k1 k2 ii
  simp![e,cC,J_ hn,k1,k2,ii]
 ·have hd:Fr.dv a b=((Int.gcd a b:Nat):Int):=by unfold Fr.dv;rw[if_neg hn]
  rw[hd] at k1 k2 ii
  simp![e,cC,B_ hn,k1,k2,ii]
def z8{p q:Rat}{n m:Nat}(hp:Sz n p)(hq:Sz m q)(h:n+m<=8000):iq.G [fV p,fV q]=.ok (.val (fV (p+q))) []:=by
 have c1:=aZ (CMulA.of hp.top hq.bot (by omega) (by omega))
 have c2:=aZ (CMulA.of hq.top hp.bot (by omega) (by omega))
 have c3:=aZ (CMulA.of hp.bot hq.bot (by omega) (by omega))
 have fe:=fC (a:=p.num*q.den+q.num*p.den) (b:=p.den*q.den) (QE (dZ p) (dZ q)) ((hp.bot.mul hq.bot).mono h)
 rw[<- uu] at fe
 unfold iq
 rw[aL]
 unfold uw
 rw[show fV p=.tup [.int p.num,.int p.den] from rfl,show fV q=.tup [.int q.num,.int q.den] from rfl]
 simp![c1,c2,c3,fe]
def sk{p q:Rat}{n m:Nat}(hp:Sz n p)(hq:Sz m q)(h:n+m<=8000):fY.G [fV p,fV q]=.ok (.val (fV (p*q))) []:=by
 have c1:=aZ (CMulA.of hp.top hq.top (by omega) (by omega))
 have c2:=aZ (CMulA.of hp.bot hq.bot (by omega) (by omega))
 have fe:=fC (a:=p.num*q.num) (b:=p.den*q.den) (QE (dZ p) (dZ q)) ((hp.bot.mul hq.bot).mono h)
 rw[<- uV] at fe
 unfold fY
 rw[aL]
 unfold ue
 rw[show fV p=.tup [.int p.num,.int p.den] from rfl,show fV q=.tup [.int q.num,.int q.den] from rfl]
 simp![c1,c2,fe]
def wx{p q:Rat}{n m:Nat}(hp:Sz n p)(hq:Sz m q)(h1:n<=100000)(h2:m<=100000):fH.G [fV p,fV q]=.ok (.val (.bl (decide (p<q)))) []:=by
 have c1:=aZ (CMulA.of hp.top hq.bot h1 h2)
 have c2:=aZ (CMulA.of hq.top hp.bot h2 h1)
 unfold fH
 rw[aL]
 unfold oA
 rw[show fV p=.tup [.int p.num,.int p.den] from rfl,show fV q=.tup [.int q.num,.int q.den] from rfl]
 simp![c1,c2]
 rw[show decide (p.num*(q.den:Int)<q.num*(p.den:Int))=decide (p<q) from P_.mpr (JO p q).symm]
def j3{v:Val}(hk:knV v=true):(bp bW).G [v,.ty "tuple"]=.val (.bl (eR v)):=by
 cases v <;> first |rfl |cases hk
def gL{v:Val}(hk:knV v=true):bE.G [v]=.ok (.val (.bl (iN v))) []:=by
 unfold bE
 rw[aL]
 unfold i0
 cases v <;> first |rfl |cases hk
def sM(v:Val):eR v=false\/∃xs,v=.tup xs:=by
 cases v <;> first |exact .inr ⟨_,rfl⟩ |exact .inl rfl
def kY(v:Val):iN v=false\/∃i,v=.int i:=by
 cases v <;> first |exact .inr ⟨_,rfl⟩ |exact .inl rfl
def LO{v:Val}(h:eR v=false):aH v=false:=by
 cases v <;> first |rfl |cases h
def Nu{v:Val}(h:eR v=false):fD v=false:=by
 cases v <;> first |rfl |cases h
def KW{a b:Val}(h:iN a=false):aH (.tup [a,b])=false:=by
 cases a <;> first |rfl |cases h
def GG{i:Int}{b:Val}(h:iN b=false):aH (.tup [.int i,b])=false:=by
 cases b <;> first |rfl |cases h
def Me{xs:List Val}(hl:xs.length≠2):aH (.tup xs)=false:=by
 unfold aH
 split
 ·rename_i e;injection e with e;subst e;exact absurd rfl hl
 ·rfl
def L7{xs:List Val}(hl:xs.length≠4):fD (.tup xs)=false:=by
 unfold fD
 split
 ·rename_i e;injection e with e;subst e;exact absurd rfl hl
 ·rfl
def CO{k:Nat}{v:Val}(ha:gZ k v=true)(h:eR v=false):knV v=true:=by
 cases v with
 |tup xs=>cases h
 |_=>cases k <;> exact ha
def mS{v:Val}(ha:gZ 1 v=true):cm.G [v]=.ok (.val (.bl (aH v))) []:=by
 unfold cm
 rw[aL]
 unfold jh
 rcases sM v with ht |⟨xs,rfl⟩
 ·have it:=j3 (CO ha ht)
  rw[ht] at it
  simp![it,LO ht]
 have it:=j3 (v:=.tup xs) rfl
 by_cases hl:xs.length=2
 ·match xs,hl,ha with
  |
   [a,b],_,ha=>
   have ha':(knV a&&(knV b&&true))=true:=by simpa [gZ] using ha
   simp only[s_] at ha'
   have w1:=gL ha'.1
   have w2:=gL ha'.2.1
   rcases kY a with h1 |⟨i,rfl⟩
   ·rw[h1] at w1
    simp![it,eR,w1,KW h1]
   rcases kY b with h2 |⟨j,rfl⟩
   ·rw[h2] at w2
    simp![it,eR,w1,iN,w2,GG h2]
   have f:aH (.tup [.int i,.int j])=(decide (1<=j)&&decide (Int.gcd i j=1)):=rfl
   have g:((((Int.gcd i j:Nat):Int)==1):Bool)=decide (Int.gcd i j=1):=by
    rw[QB,Ov,PZ];omega
   by_cases hj:1<=j
   ·simp![it,eR,w1,w2,iN,cC,J_ hj,f,g]
   ·simp![it,eR,w1,w2,iN,cC,B_ hj,f,g]
 ·have e:(((xs.length:Nat):Int)==2)=false:=by rw[D_];omega
  simp![it,eR,e,Me hl]
def nV{v:Val}(ha:gZ 2 v=true):gm.G [v]=.ok (.val (.bl (fD v))) []:=by
 unfold gm
 rw[aL]
 unfold qM
 rcases sM v with ht |⟨xs,rfl⟩
 ·have it:=j3 (CO ha ht)
  rw[ht] at it
  simp![it,Nu ht]
 have it:=j3 (v:=.tup xs) rfl
 by_cases hl:xs.length=4
 ·match
   xs,hl,ha with
  |
   [a,b,c,d],_,ha=>
   have e1:fD (.tup [a,b,c,d])=(aH a&&(aH b&&(aH c&&(aH d&&(je c&&je d))))):=rfl
   have bl4:∀x y z w:Bool,js [.bl x,.bl y,.bl z,.bl w]=some [x,y,z,w]:=λ_ _ _ _=>rfl
   obtain⟨e',⟨s',rfl,_⟩,lc⟩:=nh (g:=(gtN 0).G) (F:=(ai cm (aa (af 0) ag)).G) (f:=λv=>.bl (aH v)) (λe=>∃s,e=[s]/\s.pl=true) [a,b,c,d] [] [.no] ⟨.no,rfl,rfl⟩ (by
    rintro v hv e ⟨s,rfl,hs⟩
    have hv':gZ 1 v=true:=Ot.mp (by simpa [gZ] using ha) v hv
    refine⟨[.sh v],.val (.bl (aH v)),[.sh v],?_,?_,rfl,⟨_,rfl,rfl⟩⟩
    ·simp![hs]
    ·simp![mS hv']) (by simp)
   have cy:cY=qY.G:=rfl
   rw[cy,OH] at lc
   simp only[v_,OA] at lc
   cases hA:(aH a&&(aH b&&(aH c&&aH d))) with
   |
    true=>
    simp only[s_] at hA
    obtain⟨p,rfl⟩:=xP hA.2.2.1
    obtain⟨q,rfl⟩:=xP hA.2.2.2
    rw[hA.1,hA.2.1,hA.2.2.1,hA.2.2.2] at e1 lc
    have e2:fD (.tup [a,b,fV p,fV q])=(decide (0<p.num)&&decide (0<q.num)):=by rw[e1];rfl
    rw[e2]
    have i1:(fV p).items=some [.int p.num,.int p.den]:=rfl
    have i2:(fV q).items=some [.int q.num,.int q.den]:=rfl
    by_cases hp:0<p.num
    ·simp![it,eR,lc,bZ,bl4,id,i1,i2,J_ hp]
    ·simp![it,eR,lc,bZ,bl4,id,i1,B_ hp]
   |
    false=>
    have e2:fD (.tup [a,b,c,d])=false:=by
     rw[e1]
     revert hA
     generalize aH a=a',aH b=b',aH c=c',aH d=d',(je c&&je d)=z
     revert a' b' c' d' z
     decide
    rw[e2]
    simp![it,eR,lc,bZ,bl4,id,hA]
 ·have e:(((xs.length:Nat):Int)==4)=false:=by rw[D_];omega
  simp![it,eR,e,L7 hl]
def rq{v:Val}(ha:gZ 2 v=true):bc.G [v]=if fD v=true then .ok (.val .non) [] else .exc "NoBox" []:=by
 unfold bc
 rw[aL]
 unfold kC
 cases h:fD v with
 |true=>simp![nV ha,h]
 |false=>simp![nV ha,h]
def eT{b:Bx}(hb:b.Ok):bc.G [bV b]=.ok (.val .non) []:=by rw[rq (Gm b),AJ hb];rfl
def LH{v:Val}(h:iN v=false):gK v=false:=by
 cases v <;> first |rfl |cases h
def BW(v:Val):eA v=false\/∃xs,v=.lst xs:=by
 cases v <;> first |exact .inr ⟨_,rfl⟩ |exact .inl rfl
def qz{v:Val}(hk:knV v=true):cV.G [v]=.ok (.val (.bl (gK v))) []:=by
 have w:=gL hk
 unfold cV
 rw[aL]
 unfold ko
 rcases kY v with h |⟨i,rfl⟩
 ·rw[h] at w
  simp![w,LH h]
 ·simp![w,iN];rfl
def uE{v:Val}(hk:knV v=true):(bp bW).G [v,.ty "list"]=.val (.bl (eA v)):=by
 cases v <;> first |rfl |cases hk
noncomputable def wR(v:Val):R3F:=match v with
 |.lst xs=>if xs=[] then .exc "NoWeights" [] else if xs.all gK=true then (if xs.length<=40 then .ok (.val .non) [] else .exc "TooMany" []) else .exc "NoWeights" []
 |_=>.exc "NoWeights" []
def HB{v:Val}(h:eA v=false):wR v=.exc "NoWeights" []:=by
 cases v <;> first |rfl |cases h
noncomputable def rO:Val->Bool
 |.lst xs=>decide (xs.length<=1000)&&xs.all knV
 |v=>knV v
def F6{v:Val}(h:rO v=true)(hl:eA v=false):knV v=true:=by cases v <;> first |(cases hl;done) |exact h
theorem iZ(f:Val->Bool):∀xs:List Val,js (xs.map λv=>.bl (f v))=some (xs.map f)
 | []=>rfl
 |x::xs=>by show (js (xs.map λv=>.bl (f v))).map (f x :: ·)=_;rw[iZ f xs];rfl
def i5(f:Val->Bool)(xs:List Val):(xs.map f).all id=xs.all f:=by rw[List.all_map];rfl
def kG{v:Val}(ha:rO v=true):aY.G [v]=wR v:=by
 unfold aY
 rw[aL]
 unfold gA
 rcases BW v with hv |⟨xs,rfl⟩
 ·have il:=uE (F6 ha hv)
  rw[hv] at il
  rw[HB hv]
  simp![il]
 ·have ha':xs.length<=1000/\xs.all knV=true:=by simpa [rO] using ha
  have il:=uE (v:=.lst xs) rfl
  unfold wR
  dsimp only
  by_cases h0:xs=[]
  ·subst h0
   simp![il]
  ·have e0:(((xs.length:Nat):Int)==0)=false:=by
    rw[D_]
    intro z
    exact h0 (List.length_eq_zero_iff.mp (by omega))
   rw[if_neg h0]
   obtain⟨e',p',lc⟩:=nh (g:=(gtN 0).G) (F:=(ai cV (aa (af 0) ag)).G) (f:=λv=>.bl (gK v)) (λe=>∃s,e=[s]/\s.pl=true) xs [] [.no] ⟨.no,rfl,rfl⟩ (by
    rintro v hv e ⟨s,rfl,hs⟩
    refine⟨[.sh v],.val (.bl (gK v)),[.sh v],?_,?_,rfl,⟨_,rfl,rfl⟩⟩
    ·simp![hs]
    ·simp![qz (Ot.mp ha'.2 v hv)]) (by simp;omega)
   obtain⟨s',rfl,_⟩:=p'
   have cy:cY=qY.G:=rfl
   rw[cy,OH] at lc
   have be:(xs.map λv=>Val.bl (gK v)).length<=16777216:=by rw[l_];omega
   by_cases hw:xs.all gK=true
   ·rw[if_pos hw]
    by_cases h40:xs.length<=40
    ·have hd:decide ((40:Int)<((xs.length:Nat):Int))=false:=B_ (by omega)
     rw[if_pos h40]
     simp![il,e0,bZ,lc,be,iZ,i5,hw,hd]
    ·have hd:decide ((40:Int)<((xs.length:Nat):Int))=true:=J_ (by omega)
     rw[if_neg h40]
     simp![il,e0,bZ,lc,be,iZ,i5,hw,hd]
   ·have hw':xs.all gK=false:=Bool.eq_false_iff.mpr hw
    rw[if_neg hw]
    simp![il,e0,bZ,lc,be,iZ,i5,hw']
def rF{ws:List Int}(h0:ws≠[])(h1:∀w∈ws,1<=w)(h2:ws.length<=40):aY.G [.lst (ws.map .int)]=.ok (.val .non) []:=by
 have ha:rO (.lst (ws.map .int))=true:=by
  simp only[rO,s_,PZ,l_]
  exact⟨by omega,by rw[Ot];intro v hv;obtain⟨w,_,rfl⟩:=OU.mp hv;rfl⟩
 rw[kG ha]
 unfold wR
 dsimp only
 rw[if_neg (by intro z;exact h0 (List.map_eq_nil_iff.mp z)),if_pos (by
  rw[Ot];intro v hv
  obtain⟨w,hw,rfl⟩:=OU.mp hv
  exact J_ (h1 w hw)),if_pos (by rw[l_];exact h2)]
def zM:bR (.str "down") (.str "across")=some false:=by rw[L3.eq_str (by decide) (by decide)];exact OO some (by decide)
def xE:bR (.str "across") (.str "across")=some true:=by rw[L3.eq_str (by decide) (by decide)];exact OO some (by decide)
noncomputable def prV(p:Rat×Rat):Val:=.tup [fV p.1,fV p.2]
theorem uL{s l:Rat}{n m:Nat}{W:Int}{wv:Val}(hs:Sz n s)(hl:Sz n l)(hW:0<W)(mW:Sm m W)(h:n+n+m<=8000):∀(ws:List Int) (a:Int) (acc:List (Rat×Rat)) (s6 s7:Sl),s6.pl=true->s7.pl=true->0<=a->(∀w∈ws,0<=w)->a+ws.sum<=W->acc.length+ws.length<=16777216->∃s6' s7',eW (gtN 6).G gB.G (ws.map .int) [.sh (fV s),.sh (fV l),.sh wv,.sh (.int W),.sh (.int a),.ow (.lst (acc.map prV)),s6,s7]=.nx [.sh (fV s),.sh (fV l),.sh wv,.sh (.int W),.sh (.int (a+ws.sum)),.ow (.lst ((acc++shL s l W a ws).map prV)),s6',s7']
 | [],a,acc,s6,s7,h6,h7,ha,hw,hsum,be=>⟨s6,s7,by rw[OA,jN,List.sum_nil,Int.add_zero];unfold shL;rw[OG]⟩
 |
  w::ws,a,acc,s6,s7,h6,h7,ha,hw,hsum,be=>by
  have hw0:=hw w (p_ ..)
  have hws:0<=ws.sum:=by
   have:∀l:List Int,(∀w∈l,0<=w)->0<=l.sum:=by
    intro l
    induction l with
    |nil=>intro _;simp
    |cons x l ih=>intro hx;rw[Oy];have:=hx x (p_ ..);have:=ih λw hw=>hx w (m_ _ hw);omega
   exact this ws λx hx=>hw x (m_ _ hx)
  rw[Oy] at hsum
  rw[A_] at be
  have sa:Sm m a:=mW.of_le (by omega)
  have sw:Sm m w:=mW.of_le (by omega)
  have f1:=fC (a:=a) (b:=W) (by omega) (mW.mono (by omega))
  have f2:=fC (a:=w) (b:=W) (by omega) (mW.mono (by omega))
  have z1:Sz m ((a:Rat)/(W:Rat)):=Sz.div (by omega) sa mW m (o_ _) (o_ _)
  have z2:Sz m ((w:Rat)/(W:Rat)):=Sz.div (by omega) sw mW m (o_ _) (o_ _)
  have t1:=sk hl z1 (by omega)
  have t2:=sk hl z2 (by omega)
  have ad:=z8 hs (hl.mul z1) (by omega)
  have ll:(acc.map prV).length<16777216:=by rw[l_];omega
  obtain⟨t6,t7,ih⟩:=uL (wv:=wv) hs hl hW mW h ws (a+w) (acc++[(s+l*((a:Rat)/(W:Rat)),l*((w:Rat)/(W:Rat)))]) (.sh (.int w)) (.sh (fV (s+l*((a:Rat)/(W:Rat))))) rfl rfl (by omega) (λx hx=>hw x (m_ _ hx)) (by omega) (by simp;omega)
  refine⟨t6,t7,?_⟩
  have g1:(gtN 6).G (.int w) [.sh (fV s),.sh (fV l),.sh wv,.sh (.int W),.sh (.int a),.ow (.lst (acc.map prV)),s6,s7]=some [.sh (fV s),.sh (fV l),.sh wv,.sh (.int W),.sh (.int a),.ow (.lst (acc.map prV)),.sh (.int w),s7]:=by
   simp![h6]
  have b1:gB.G [.sh (fV s),.sh (fV l),.sh wv,.sh (.int W),.sh (.int a),.ow (.lst (acc.map prV)),.sh (.int w),s7]=.nx [.sh (fV s),.sh (fV l),.sh wv,.sh (.int W),.sh (.int (a+w)),.ow (.lst ((acc++[(s+l*((a:Rat)/(W:Rat)),l*((w:Rat)/(W:Rat)))]).map prV)),.sh (.int w),.sh (fV (s+l*((a:Rat)/(W:Rat))))]:=by
   unfold gB
   rw[Oz]
   simp![h7,f1,f2,t1,t2,ad,ll,prV]
  rw[v_,fu,g1]
  simp only[b1,o9]
  rw[ih,Oy]
  rw[show shL s l W a (w::ws)=(s+l*((a:Rat)/(W:Rat)),l*((w:Rat)/(W:Rat)))::shL s l W (a+w) ws from rfl,PX,show a+w+ws.sum=a+(w+ws.sum) by omega]
  rfl
def oB{s l:Rat}{n m:Nat}{ws:List Int}(hs:Sz n s)(hl:Sz n l)(hw:∀w∈ws,0<=w)(h0:0<ws.sum)(mW:Sm m ws.sum)(h:n+n+m<=8000)(be:ws.length<=1000):eX.G [fV s,fV l,.lst (ws.map .int)]=.ok (.new (.lst ((shL s l ws.sum 0 ws).map prV))) []:=by
 obtain⟨s6,s7,lo⟩:=uL (wv:=.lst (ws.map .int)) hs hl h0 mW h ws 0 [] .no .no rfl rfl (by omega) hw (by omega) (by simp;omega)
 rw[OH,OA] at lo
 unfold eX
 rw[aL]
 unfold qt
 simp![lo]
def JW{way:Str}(hw:way="across" \/ way="down"):dX.G [.str way]=.ok (.val .non) []:=by
 have i1:∀x:Str,(bp bW).G [.str x,.ty "str"]=.val (.bl true):=λ_=>rfl
 have i2:bIn.G (.str way) (.tup [.str "across",.str "down"])=.val (.bl true):=by
  rcases hw with rfl |rfl <;> rfl
 have e1:da.G [.str way]=.ok (.val (.bl true)) []:=by
  unfold da
  rw[aL]
  unfold lq
  simp![i1,i2]
 unfold dX
 rw[aL]
 unfold ku
 simp![e1]
def nU{b:Bx}{n m:Nat}{way:Str}{ws:List Int}(hb:b.Ok)(hs:b.Sz n)(hway:way="across" \/ way="down")(h0:ws≠[])(hw:∀w∈ws,1<=w)(mW:Sm m ws.sum)(h:n+n+m<=8000)(be:ws.length<=40):d9.G [bV b,.str way,.lst (ws.map .int)]=.ok (.new (.lst ((aD b way ws).map bV))) []:=by
 have cw:=rF h0 hw be
 have cy:=JW hway
 have sp:0<ws.sum:=by
  cases ws with
  |nil=>exact absurd rfl h0
  |
   cons x l=>
   rw[Oy]
   have:=hw x (p_ ..)
   have:∀l:List Int,(∀w∈l,1<=w)->0<=l.sum:=by
    intro l
    induction l with
    |nil=>intro _;simp
    |cons x l ih=>intro hx;rw[Oy];have:=hx x (p_ ..);have:=ih λw hw=>hx w (m_ _ hw);omega
   have:=this l λx hx=>hw x (m_ _ hx)
   omega
 have cb:bc.G [.tup [fV b.l,fV b.t,fV b.w,fV b.h]]=.ok (.val .non) []:=eT hb
 have sh1:=oB hs.l hs.w (λw z=>by have:=hw w z;omega) sp mW h (by omega)
 have sh2:=oB hs.t hs.h (λw z=>by have:=hw w z;omega) sp mW h (by omega)
 show d9.G [.tup [fV b.l,fV b.t,fV b.w,fV b.h],.str way,.lst (ws.map .int)]=_
 unfold d9 aD
 rw[aL]
 unfold p7
 rcases hway with rfl |rfl
 ·rw[if_pos (rfl:("across" : Str)="across")]
  have ln:=iw b.l b.w ws.sum ws 0
  obtain⟨e',⟨s,t,rfl,_,_⟩,lc⟩:=c9 (g:=(gtT 2 (aO (gtN 0) (aO (gtN 1) cX))).G) (F:=(bC (aa (af 0) (aa (af 2) (aa (af 1) (aa (af 3) ag))))).G) prV (λp=>bV ⟨p.1,b.t,p.2,b.h⟩) (λe=>∃s t,e=[s,t,.sh (fV b.t),.sh (fV b.h)]/\s.pl=true/\t.pl=true) (shL b.l b.w ws.sum 0 ws) [] [.no,.no,.sh (fV b.t),.sh (fV b.h)] ⟨.no,.no,rfl,rfl,rfl⟩ (by
   rintro p hp e ⟨s,t,rfl,hs,ht⟩
   refine⟨[.sh (fV p.1),.sh (fV p.2),.sh (fV b.t),.sh (fV b.h)],.val (bV ⟨p.1,b.t,p.2,b.h⟩),[.sh (fV p.1),.sh (fV p.2),.sh (fV b.t),.sh (fV b.h)],?_,?_,rfl,⟨_,_,rfl,rfl,rfl⟩⟩
   ·simp![prV,hs,ht]
   ·simp![bV]) (by rw[ln,OC];omega)
  rw[OH] at lc
  have ll:((shL b.l b.w ws.sum 0 ws).map λp=>bV ⟨p.1,b.t,p.2,b.h⟩).length<=16777216:=by rw[l_,ln];omega
  rw[O_,show (bV ∘ λp:Rat×Rat=>(⟨p.1,b.t,p.2,b.h⟩:Bx))=λp=>bV ⟨p.1,b.t,p.2,b.h⟩ from rfl]
  simp![cb,cy,cw,xE,sh1,lc,ll]
 ·have hne:¬ (("down" : Str)="across"):=by decide
  rw[if_neg hne]
  have ln:=iw b.t b.h ws.sum ws 0
  obtain⟨e',⟨s,t,rfl,_,_⟩,lc⟩:=c9 (g:=(gtT 2 (aO (gtN 0) (aO (gtN 1) cX))).G) (F:=(bC (aa (af 2) (aa (af 0) (aa (af 3) (aa (af 1) ag))))).G) prV (λp=>bV ⟨b.l,p.1,b.w,p.2⟩) (λe=>∃s t,e=[s,t,.sh (fV b.l),.sh (fV b.w)]/\s.pl=true/\t.pl=true) (shL b.t b.h ws.sum 0 ws) [] [.no,.no,.sh (fV b.l),.sh (fV b.w)] ⟨.no,.no,rfl,rfl,rfl⟩ (by
   rintro p hp e ⟨s,t,rfl,hs,ht⟩
   refine⟨[.sh (fV p.1),.sh (fV p.2),.sh (fV b.l),.sh (fV b.w)],.val (bV ⟨b.l,p.1,b.w,p.2⟩),[.sh (fV p.1),.sh (fV p.2),.sh (fV b.l),.sh (fV b.w)],?_,?_,rfl,⟨_,_,rfl,rfl,rfl⟩⟩
   ·simp![prV,hs,ht]
   ·simp![bV]) (by rw[ln,OC];omega)
  rw[OH] at lc
  have ll:((shL b.t b.h ws.sum 0 ws).map λp=>bV ⟨b.l,p.1,b.w,p.2⟩).length<=16777216:=by rw[l_,ln];omega
  rw[O_,show (bV ∘ λp:Rat×Rat=>(⟨b.l,p.1,b.w,p.2⟩:Bx))=λp=>bV ⟨b.l,p.1,b.w,p.2⟩ from rfl]
  simp![cb,cy,cw,zM,sh2,lc,ll]
theorem hX{f:Nat->Val}(v:Val):∀(N:Nat) (st:List AT) (acc:List Nat) (s3:Sl),AT.cntL st<=N->s3.pl=true->(∀k∈AT.lvsL st,lfV (f k)=true)->acc.length+AT.cntL st<=100000->
 ∃(l:List Nat) (s3':Sl),l.Perm (AT.lvsL st)/\(xWh (qTr (af 2)) bY).G [.sh v,.ow (.lst (acc.map f)),.ow (.lst (st.map (AT.val f))),s3]=.nx [.sh v,.ow (.lst ((acc++l).map f)),.ow (.lst []),s3']
 |
  N,[],acc,s3,_,_,_,_=>⟨[],s3,.nil,by
  rw[g9,OG]
  simp![OA,kN,List.isEmpty_nil]⟩
 |
  0,t::ts,acc,s3,h,_,_,_=>by
  rw[AT.cntL] at h
  cases t <;> (rw[AT.cnt] at h;omega)
 |
  N+1,t0::ts0,acc,s3,hN,h3,hf,hl=>by
  obtain⟨st,t,hst⟩:∃st t,t0::ts0=st++[t]:=⟨(t0::ts0).dropLast,(t0::ts0).getLast (by simp),(List.dropLast_concat_getLast (by simp)).symm⟩
  rw[hst] at hN hf hl ⊢
  rw[AT.lvsL_app] at hf
  rw[AT.lvsL_app]
  rw[AT.cntL_app] at hN hl
  have hn0:((st++[t]).map (AT.val f)).isEmpty=false:=by cases st <;> rfl
  have c1:(qTr (af 2)).G [.sh v,.ow (.lst (acc.map f)),.ow (.lst ((st++[t]).map (AT.val f))),s3]=.ok true [.sh v,.ow (.lst (acc.map f)),.ow (.lst ((st++[t]).map (AT.val f))),s3]:=by
   simp![kN,hn0,Bool.not_false]
  rw[g9,c1]
  show ∃l s3',_/\((bY.G _).loop _)=_
  rw[Oz,v_,OA]
  cases t with
  |
   lf k=>
   simp only[AT.lvsL,AT.lvs,OG,AT.cntL,AT.cnt] at hf hN hl ⊢
   obtain⟨l,s3',q1,q2⟩:=hX (f:=f) v N st (acc++[k]) (.sh (f k)) (by omega) rfl (λj hj=>hf j (by simp [hj])) (by rw[z_];simp only[A_,OC];omega)
   refine⟨k::l,s3',((q1.cons k).trans (List.perm_append_comm (l₁:=[k]) (l₂:=AT.lvsL st))),?_⟩
   have i1:(bp bW).G [f k,.ty "tuple"]=.val (.bl false):=by
    have:=hf k (by simp)
    generalize f k=a at *
    cases a <;> first |rfl |(cases this;done)
   have al:(acc.map f).length<16777216:=by rw[l_];omega
   have bb:bY.G [.sh v,.ow (.lst (acc.map f)),.ow (.lst (st.map (AT.val f)++[AT.val f (.lf k)])),s3]=.nx [.sh v,.ow (.lst ((acc++[k]).map f)),.ow (.lst (st.map (AT.val f))),.sh (f k)]:=by
    unfold bY
    rw[AT.val,Oz,v_,OA]
    generalize f k=a at *
    simp![mi,h3,i1,al]
   rw[bb,show acc++k::l=acc++[k]++l by simp]
   exact q2
  |
   nd w ts=>
   simp only[AT.lvsL,AT.lvs,OG,AT.cntL,AT.cnt] at hf hN hl ⊢
   obtain⟨l,s3',q1,q2⟩:=hX (f:=f) v N (st++ts) acc (.sh (AT.val f (.nd w ts))) (by rw[AT.cntL_app];omega) rfl (by rw[AT.lvsL_app];exact hf) (by rw[AT.cntL_app];omega)
   rw[AT.lvsL_app] at q1
   refine⟨l,s3',q1,?_⟩
   have i1:∀xs:List Val,(bp bW).G [.tup xs,.ty "tuple"]=.val (.bl true):=λ_=>rfl
   have le:∀l:List AT,l.length<=AT.cntL l:=by
    intro l
    induction l with
    |nil=>exact o_ _
    |cons t l ih=>rw[AT.cntL,A_];cases t <;> (rw[AT.cnt];omega)
   have ll:(st.map (AT.val f)).length+(ts.map (AT.val f)).length<=16777216:=by
    have:=le st
    have:=le ts
    rw[l_,l_]
    omega
   rw[AT.val,AT.vals_map] at q2 ⊢
   rw[Oz] at q2
   have bb:bY.G [.sh v,.ow (.lst (acc.map f)),.ow (.lst (st.map (AT.val f)++[.tup [.str (wy w),.tup (ts.map (AT.val f))]])),s3]=.nx [.sh v,.ow (.lst (acc.map f)),.ow (.lst (st.map (AT.val f)++ts.map (AT.val f))),.sh (.tup [.str (wy w),.tup (ts.map (AT.val f))])]:=by
    unfold bY
    simp![mi,h3,i1,wH,ou,ll]
   rw[bb]
   exact q2
def ze{f:Nat->Val}{t:AT}(hf:∀k∈t.lvs,lfV (f k)=true)(hc:t.cnt<=100000):∃l:List Nat,l.Perm t.lvs/\cS.G [t.val f]=.ok (.new (.lst (l.map f))) []:=by
 have e1:AT.lvsL [t]=t.lvs:=by simp [AT.lvsL]
 have e2:AT.cntL [t]=t.cnt:=by simp [AT.cntL]
 obtain⟨l,s3',q1,q2⟩:=hX (f:=f) (t.val f) (AT.cntL [t]) [t] [] .no (o_ _) rfl (by rw[e1];exact hf) (by rw[e2,OC];omega)
 rw[e1] at q1
 refine⟨l,q1,?_⟩
 rw[v_,OA,OA,OH] at q2
 unfold cS
 rw[aL]
 unfold ky
 generalize t.val f=tv at *
 simp![q2]
def so{ws:List Int}{l:List Nat}(hl:l.length<=1000)(hi:∀k∈l,k<ws.length):∃s,lcV (gtN 0).G qY.G (pOp bIx (af 1) (af 0)).G (l.map λk:Nat=>.int k) [] [.no,.sh (liV ws)]=.ok ((l.map λk=>ws.getD k 0).map .int) [s,.sh (liV ws)]:=by
 obtain⟨e',⟨s,rfl,_⟩,lc⟩:=c9 (g:=(gtN 0).G) (F:=(pOp bIx (af 1) (af 0)).G) (λk:Nat=>Val.int k) (λk:Nat=>Val.int (ws.getD k 0)) (λe=>∃s:Sl,e=[s,.sh (liV ws)]/\s.pl=true) l [] [.no,.sh (liV ws)] ⟨.no,rfl,rfl⟩ (by
  rintro k hk _ ⟨s,rfl,hs⟩
  have h1:=hi k hk
  have a1:atI (ws.map Val.int) (k:Nat)=some (.int (ws.getD k 0)):=dD (by omega) (by
   rw[L_]
   show (ws[k]?).map _=_
   rw[Em,x_ h1]
   rfl)
  refine⟨[.sh (.int (k:Nat)),.sh (liV ws)],.val (.int (ws.getD k 0)),[.sh (.int (k:Nat)),.sh (liV ws)],?_,?_,rfl,_,rfl,rfl⟩
  ·simp![hs]
  ·unfold liV
   simp![a1]) (by rw[OC];omega)
 exact⟨s,by rw[O_];exact lc⟩
def sW{ws:List Int}{b:Bx}{w:Bool}{ts:List AT}{n m:Nat}(h:AT.lay ws n m (.nd w ts) b)(hnm:n+n+m<=8000)(hi:∀k∈AT.lvsL ts,k<ws.length)(hl:(AT.lvsL ts).length<=1000)(hc:AT.cntL ts<=100000):eK.G [bV b,liV ws,atV (.nd w ts)]=.ok (.new (.lst ((aD b (wy w) (ts.map (wtT ws))).map bV))) []:=by
 rw[AT.lay] at h
 obtain⟨h1,h2,h3,h4,h5,h6,_⟩:=h
 have ew:wy w="across" \/ wy w="down":=by cases w;exact .inr rfl;exact .inl rfl
 have pe:=nU h1 h2 ew (ws:=ts.map (wtT ws)) (by simpa using h3) (λx hx=>by obtain⟨t,ht,rfl⟩:=OU.mp hx;exact h5 t ht) h6 hnm (by rw[l_];exact h4)
 have cle:∀t∈ts,t.cnt<=AT.cntL ts:=λt ht=>AT.cnt_le ht
 have lle:∀t∈ts,t.lvs.length<=(AT.lvsL ts).length:=λt ht=>AT.lvs_le ht
 obtain⟨e',⟨s,rfl,_⟩,lc⟩:=c9 (g:=(gtN 0).G) (F:=(pFn bH (aa (pLC (c7 (ai cS (aa (af 0) ag))) [none,some 1] (by decide) (gtN 0) qY (pOp bIx (af 1) (af 0))) ag)).G) atV (λt=>Val.int (wtT ws t)) (λe=>∃s:Sl,e=[s,.sh (liV ws)]/\s.pl=true) ts [] [.no,.sh (liV ws)] ⟨.no,rfl,rfl⟩ (by
  rintro t ht _ ⟨s,rfl,hs⟩
  obtain⟨l,lp,e1⟩:=ze (f:=λk=>.int (k:Nat)) (t:=t) (λ_ _=>rfl) (by have:=cle t ht;omega)
  rw[show AT.val (λk=>Val.int (k:Nat)) t=atV t from rfl] at e1
  obtain⟨s',lc⟩:=so (ws:=ws) (l:=l) (by rw[lp.length_eq];have:=lle t ht;omega) (λk hk=>hi k (AT.lvsL_mem.mpr ⟨t,ht,lp.mem_iff.mp hk⟩))
  have ll:((l.map λk=>ws.getD k 0).map Val.int).length<=16777216:=by rw[l_,l_,lp.length_eq];have:=lle t ht;omega
  have sm:(l.map λk=>ws.getD k 0).sum=wtT ws t:=AB lp
  refine⟨[.sh (atV t),.sh (liV ws)],.val (.int (wtT ws t)),[.sh (atV t),.sh (liV ws)],?_,?_,rfl,_,rfl,rfl⟩
  ·generalize atV t=tv at *
   simp![hs]
  ·rw[<- sm]
   generalize atV t=tv at *
   generalize liV ws=wv at *
   generalize (l.map λk:Nat=>Val.int (k:Nat))=LV at *
   simp![e1,bZ,inS,lc,ll]) (by rw[OC];omega)
 have av:atV (.nd w ts)=.tup [.str (wy w),.tup (ts.map atV)]:=by
  unfold atV
  rw[AT.val,AT.vals_map]
 have lm:ts.map (λt=>Val.int (wtT ws t))=(ts.map (wtT ws)).map .int:=by rw[O_];rfl
 have l2:((ts.map (wtT ws)).map Val.int).length<=16777216:=by rw[l_,l_];omega
 rw[OH,lm] at lc
 rw[av]
 generalize (aD b (wy w) (ts.map (wtT ws))).map bV=PB at *
 generalize (ts.map (wtT ws)).map Val.int=SV at *
 generalize ts.map atV=TV at *
 generalize liV ws=wv at *
 generalize bV b=bv at *
 unfold eK
 rw[aL]
 unfold l7
 simp![bZ,inS,lc,l2,pe]
theorem lM{ws:List Int}{n m k:Nat}(rv tv:Val):∀(ts:List AT) (bs:List Bx) (kvs:List (Key×Val)) (s4 s5:Sl),s4.pl=true->s5.pl=true->ts.length=bs.length->(∀(t:AT) (b:Bx) (kvs:List (Key×Val)),t∈ts->AT.lay ws n m t b->kvs.length+t.lvs.length<=100000->(cT k).G [bV b,liV ws,atV t,.dct kvs]=.ok (.val .non) [.dct (cu kvs (AT.bx ws t b))])->AT.layL ws n m ts bs->kvs.length+(AT.lvsL ts).length<=100000->
 ∃s4' s5',eW (gtX (gtT 2 (aO (gtN 4) (aO (gtN 5) cX)))).G (iO (cT k)).G (List.zipWith (λx y=>Val.tup [x,y]) (ts.map atV) (bs.map bV)) [.sh rv,.sh (liV ws),.sh tv,.mu (.dct kvs),s4,s5]=.nx [.sh rv,.sh (liV ws),.sh tv,.mu (.dct (cu kvs (AT.bxL ws ts bs))),s4',s5']
 | [],bs,kvs,s4,s5,_,_,_,_,_,_=>⟨s4,s5,by cases bs <;> rfl⟩
 |t::ts,[],kvs,s4,s5,_,_,h,_,_,_=>nomatch h
 |
  t::ts,b::bs,kvs,s4,s5,h4,h5,hl,hp,hy,hk=>by
  rw[AT.layL] at hy
  rw[AT.lvsL,z_] at hk
  have e1:=hp t b kvs (p_ ..) hy.1 (by omega)
  have be:=rb (AT.bx ws t b) kvs
  have hfst:=(AT.bx_fst ws t b).1
  obtain⟨s4',s5',q⟩:=lM rv tv ts bs (cu kvs (AT.bx ws t b)) (.sh (atV t)) (.sh (bV b)) rfl rfl (by simpa using hl) (λu c kv hu=>hp u c kv (m_ _ hu)) hy.2 (by omega)
  refine⟨s4',s5',?_⟩
  rw[AT.bxL,B4,v_,v_,List.zipWith_cons_cons,fu]
  generalize cu kvs (AT.bx ws t b)=kvs1 at *
  generalize atV t=av at *
  generalize bV b=bv at *
  generalize liV ws=wv at *
  have g1:(gtX (gtT 2 (aO (gtN 4) (aO (gtN 5) cX)))).G (.tup [av,bv]) [.sh rv,.sh wv,.sh tv,.mu (.dct kvs),s4,s5]=some [.sh rv,.sh wv,.sh tv,.mu (.dct kvs),.sh av,.sh bv]:=by
   simp![h4,h5]
  have b1:(iO (cT k)).G [.sh rv,.sh wv,.sh tv,.mu (.dct kvs),.sh av,.sh bv]=.nx [.sh rv,.sh wv,.sh tv,.mu (.dct kvs1),.sh av,.sh bv]:=by
   unfold iO
   simp![e1]
  rw[g1]
  dsimp only
  rw[b1]
  exact q
def vy(b:Bx)(way:Str)(ws:List Int):(aD b way ws).length=ws.length:=by
 unfold aD
 split <;> rw[l_,iw]
def gr{ws:List Int}{n m:Nat}(hnm:n+n+m<=8000)(t:AT):∀(k:Nat) (b:Bx) (kvs:List (Key×Val)),t.dep<=k->AT.lay ws n m t b->(∀i∈t.lvs,i<ws.length)->t.lvs.length<=1000->t.cnt<=100000->kvs.length+t.lvs.length<=100000->(cT k).G [bV b,liV ws,atV t,.dct kvs]=.ok (.val .non) [.dct (cu kvs (AT.bx ws t b))]:=by
 induction t using AT.ind with
 |
  h1 x=>
  intro k b kvs hd _ _ _ _ hk
  cases k with
  |zero=>simp [AT.dep] at hd
  |
   succ k=>
   have i1:(bp bW).G [.int (x:Nat),.ty "tuple"]=.val (.bl false):=rfl
   have kl:kvs.length<16777216:=by omega
   have av:atV (.lf x)=.int (x:Nat):=rfl
   have pe:cu kvs (AT.bx ws (.lf x) b)=cE kvs (.inl (x:Nat)) (bV b):=by rw[AT.bx];rfl
   show (PFx.of [false,false,false,true] 6 (f9 (cT k))).G [bV b,liV ws,atV (.lf x),.dct kvs]=_
   rw[j6,av,pe]
   unfold f9
   generalize bV b=bv at *
   generalize liV ws=wv at *
   simp![i1,GJ,kl]
 |
  h2 w ts ih=>
  intro k b kvs hd hy hi hl hc hk
  cases k with
  |zero=>simp [AT.dep] at hd
  |
   succ k=>
   rw[AT.dep] at hd
   rw[AT.lvs] at hi hl hk
   rw[AT.cnt] at hc
   have hd':=AT.depL_le.mp (show AT.depL ts<=k by omega)
   have pe:=sW hy hnm hi hl (by omega)
   have hy':=hy
   rw[AT.lay] at hy'
   obtain⟨s4,s5,lo⟩:=lM (ws:=ws) (n:=n) (m:=m) (k:=k) (bV b) (atV (.nd w ts)) ts (aD b (wy w) (ts.map (wtT ws))) kvs .no .no rfl rfl (by rw[vy,l_]) (λt c kv ht hy2 hk2=>ih t ht k c kv (hd' t ht) hy2 (λi hi2=>hi i (AT.lvsL_mem.mpr ⟨t,ht,hi2⟩)) (by have:=AT.lvs_le ht;omega) (by have:=AT.cnt_le ht;omega) hk2) hy'.2.2.2.2.2.2 hk
   have av:atV (.nd w ts)=.tup [.str (wy w),.tup (ts.map atV)]:=by
    unfold atV
    rw[AT.val,AT.vals_map]
   have bxe:AT.bx ws (.nd w ts) b=AT.bxL ws ts (aD b (wy w) (ts.map (wtT ws))):=by rw[AT.bx]
   show (PFx.of [false,false,false,true] 6 (f9 (cT k))).G [bV b,liV ws,atV (.nd w ts),.dct kvs]=_
   rw[j6,bxe]
   unfold f9
   rw[av] at pe lo ⊢
   have i1:∀xs:List Val,(bp bW).G [.tup xs,.ty "tuple"]=.val (.bl true):=λ_=>rfl
   generalize cu kvs (AT.bxL ws ts (aD b (wy w) (ts.map (wtT ws))))=kvs1 at *
   generalize (aD b (wy w) (ts.map (wtT ws))).map bV=PB at *
   generalize ts.map atV=TV at *
   generalize bV b=bv at *
   generalize liV ws=wv at *
   simp![i1,wH,pe,lo]
def CA{ws:List Int}{n m:Nat}{b:Bx}{t:AT}(hnm:n+n+m<=8000)(hb:b.Ok)(h0:ws≠[])(hw:∀w∈ws,1<=w)(h40:ws.length<=40)(ho:t.ok=true)(hi:∀k,k∈t.lvs ↔ k<ws.length)(nd:t.lvs.Nodup)(hl:t.lvs.length=ws.length)(hd:t.dep<=42)(hy:AT.lay ws n m t b):dM.G [bV b,liV ws,atV t]=.ok (.new (.lst ((List.range ws.length).map λk=>bV (bxO (AT.bx ws t b) k)))) []:=by
 have hc:=AT.cnt_lvs t ho
 have cb:=eT hb
 have cw:=rF h0 hw h40
 have ct:=oT (n:=ws.length) ho (λk hk=>(hi k).mp hk) nd hl (by omega) (by omega)
 have pl:=gr (ws:=ws) hnm t 42 b [] hd hy (λk hk=>(hi k).mp hk) (by omega) (by omega) (by rw[OC];omega)
 have ll:((ws.map Val.int).length:Nat)=ws.length:=l_ ..
 have rg:gO [.int (ws.length:Nat)]=some (rgV ws.length):=m9 (by omega)
 have keys:=AT.bx_keys ws t b
 obtain⟨e',⟨s,rfl,_⟩,lc⟩:=c9 (g:=(gtN 0).G) (F:=(pOp vX (af 1) (af 0)).G) (λk:Nat=>Val.int k) (λk:Nat=>bV (bxO (AT.bx ws t b) k)) (λe=>∃s:Sl,e=[s,.mu (.dct (cu [] (AT.bx ws t b)))]/\s.pl=true) (List.range ws.length) [] [.no,.mu (.dct (cu [] (AT.bx ws t b)))] ⟨.no,rfl,rfl⟩ (by
  rintro k hk _ ⟨s,rfl,hs⟩
  rw[OD] at hk
  have lk:=NS ((ub (k:=k) (AT.bx ws t b) [] (by rw[keys];exact nd)).1 (by rw[keys];exact (hi k).mpr hk))
  generalize cu [] (AT.bx ws t b)=kv at *
  generalize bV (bxO (AT.bx ws t b) k)=bv at *
  refine⟨[.sh (.int (k:Nat)),.mu (.dct kv)],.val bv,[.sh (.int (k:Nat)),.mu (.dct kv)],?_,?_,rfl,_,rfl,rfl⟩
  ·simp![hs]
  ·simp![lk]) (by rw[OC,Ox];omega)
 have l2:((List.range ws.length).map λk=>bV (bxO (AT.bx ws t b) k)).length<=16777216:=by simp;omega
 rw[OH] at lc
 rw[show (List.range ws.length).map (λk:Nat=>Val.int k)=rgV ws.length from rfl] at lc
 generalize (List.range ws.length).map (λk=>bV (bxO (AT.bx ws t b) k))=RB at *
 generalize cu [] (AT.bx ws t b)=kv at *
 unfold liV at pl ⊢
 generalize atV t=tv at *
 generalize bV b=bv at *
 unfold dM
 rw[aL]
 unfold lY
 simp![cb,cw,ll,ct,pl,rg,bZ,inS,lc,l2]
def mU{ns:List Int}{k:Int}(hk:0<=k):∃a,cN.G [.kl (ns.map .int),.int k]=.ok (.new (fdV a 0 k)) []:=by
 unfold cN
 rw[aL]
 unfold lF fdV
 by_cases h0:ns.length=0
 ·have e:((((ns.map Val.int).length:Nat):Int)==0)=true:=by rw[Ov,l_];omega
  exact⟨0,by simp![e]⟩
 ·have e:((((ns.map Val.int).length:Nat):Int)==0)=false:=by rw[D_,l_];omega
  have e1:bS.G (.int k) (.int ((ns.map Val.int).length:Nat))=.val (.int (k.fmod ((ns.map Val.int).length:Nat))):=eI (by rw[l_];omega)
  have r:=dm (a:=k) (m:=((ns.map Val.int).length:Nat)) (by rw[l_];omega)
  rw[l_] at r e1
  have hi:(k.fmod (ns.length:Nat)).toNat<ns.length:=by omega
  have at1:atI (ns.map Val.int) (k.fmod (ns.length:Nat))=some (.int ns[(k.fmod (ns.length:Nat)).toNat]):=dD r.1 (by rw[L_,x_ hi];rfl)
  rw[l_] at e
  exact⟨ns[(k.fmod (ns.length:Nat)).toNat],by simp![l_,e,e1,at1]⟩
def pow6:fN.G (.int 10) (.int 6)=.val (.int 1000000):=oY ⟨by decide,by decide,by decide⟩
def M3:gO [.int 6]=some [.int 0,.int 1,.int 2,.int 3,.int 4,.int 5]:=uf (i:=6) (by decide) (by decide)
def fj{a b k far:Int}(h0:0<=far)(hf:far.natAbs<=2000000000000000000000000000000):∃r a' b',bg.G [fdV a b k,.int far]=.ok (.val (.int r)) [fdV a' b' k]/\-far<=r/\r<=far:=by
 obtain⟨r1,a1,b1,e1,_,_⟩:=aA (a:=a) (b:=b) (k:=k) (m:=1000000) (by decide) (sm8 (by decide))
 obtain⟨r2,a2,b2,e2,_,_⟩:=aA (a:=a1) (b:=b1) (k:=k) (m:=1000000) (by decide) (sm8 (by decide))
 obtain⟨r3,a3,b3,e3,_,_⟩:=aA (a:=a2) (b:=b2) (k:=k) (m:=1000000) (by decide) (sm8 (by decide))
 obtain⟨r4,a4,b4,e4,_,_⟩:=aA (a:=a3) (b:=b3) (k:=k) (m:=1000000) (by decide) (sm8 (by decide))
 obtain⟨r5,a5,b5,e5,_,_⟩:=aA (a:=a4) (b:=b4) (k:=k) (m:=1000000) (by decide) (sm8 (by decide))
 obtain⟨r6,a6,b6,e6,_,_⟩:=aA (a:=a5) (b:=b5) (k:=k) (m:=1000000) (by decide) (sm8 (by decide))
 have c6:∀x:Int,aG.G (.int x) (.int 1000000)=.val (.int (x*1000000)):=λx=>aZ (CMulA.right (by decide) (by decide))
 have c2:aG.G (.int 2) (.int far)=.val (.int (2*far)):=aZ (CMulA.left (by decide) (by decide))
 have c3:∀x:Int,bS.G (.int x) (.int (2*far+1))=.val (.int (x.fmod (2*far+1))):=λx=>eI (by omega)
 have fr:=dm (a:=(((((0*1000000+r1)*1000000+r2)*1000000+r3)*1000000+r4)*1000000+r5)*1000000+r6) (m:=2*far+1) (by omega)
 refine⟨((((((0*1000000+r1)*1000000+r2)*1000000+r3)*1000000+r4)*1000000+r5)*1000000+r6).fmod (2*far+1)-far,a6,b6,?_,by omega,by omega⟩
 unfold bg
 rw[aL]
 unfold kz jk
 unfold fdV at *
 simp![M3,fu,pow6,c6,e1,e2,e3,e4,e5,e6,c2,c3,Int.reduceMul]
theorem qh(x y:Val):∀(n one bi:Nat),bi<=n->(xWh (qOf (pOp bGt (af 3) (ah 0))) fS).G [.sh x,.sh y,.sh (.int (one:Nat)),.sh (.int (bi:Nat))]=.nx [.sh x,.sh y,.sh (.int (Nat.gcd one bi:Nat)),.sh (.int 0)]
 |
  n,one,0,_=>by
  rw[g9]
  simp![Nat.gcd_zero_right,Int.natCast_zero,Int.lt_irrefl]
 |0,one,bi+1,hl=>absurd hl (by omega)
 |
  n+1,one,bi+1,hl=>by
  rw[g9]
  have e:decide ((0:Int)<((bi+1:Nat):Int))=true:=J_ (by omega)
  have e1:bS.G (.int (one:Nat)) (.int ((bi+1:Nat):Int))=.val (.int (((one:Nat):Int).fmod ((bi+1:Nat):Int))):=eI (by omega)
  have e2:((one:Nat):Int).fmod ((bi+1:Nat):Int)=((one % (bi+1):Nat):Int):=by
   rw[Int.fmod_eq_emod_of_nonneg _ (by omega)];rfl
  have ih:=qh x y n (bi+1) (one % (bi+1)) (by have:=Nat.mod_lt one (show bi+1>0 by omega);omega)
  rw[Fr.euc] at ih
  rw[e2] at e1
  have bb:fS.G [.sh x,.sh y,.sh (.int (one:Nat)),.sh (.int ((bi+1:Nat):Int))]=.nx [.sh x,.sh y,.sh (.int ((bi+1:Nat):Int)),.sh (.int ((one % (bi+1):Nat):Int))]:=by
   unfold fS
   simp![e1]
  simp![e,bb,ih]
def fG{a b:Int}(hb:b≠0)(hs:Sm 8000 b):aQ.G [.int a,.int b]=.ok (.val (fV ((a:Rat)/(b:Rat)))) []:=by
 unfold aQ
 rw[aL]
 unfold nR
 have lo:=qh (.int a) (.int b) b.natAbs a.natAbs b.natAbs (o_ _)
 rw[show Nat.gcd a.natAbs b.natAbs=Int.gcd a b from rfl] at lo
 have c:∀x,CDivB x (Fr.dv a b):=λx=>CDivB.of (Fr.dv_ne hb) (hs.of_le (by
  rw[Fr.dv_abs]
  exact Nat.le_of_dvd (by omega) (Nat.gcd_dvd_right a.natAbs b.natAbs)))
 have k1:=jK (c a)
 have k2:=jK (c b)
 have hh:=mD (a:=a) hb
 have ii:Val.tup [.int (a.fdiv (Fr.dv a b)),.int (b.fdiv (Fr.dv a b))]=fV ((a:Rat)/(b:Rat)):=by
  unfold fV
  rw[<- hh.1,<- hh.2]
  rfl
 by_cases hn:b<0
 ·have hd:Fr.dv a b=0-((Int.gcd a b:Nat):Int):=by unfold Fr.dv;rw[if_pos hn];omega
  rw[hd] at k1 k2 ii
  simp![f6,lo,J_ hn,k1,k2,ii]
 ·have hd:Fr.dv a b=((Int.gcd a b:Nat):Int):=by unfold Fr.dv;rw[if_neg hn]
  rw[hd] at k1 k2 ii
  simp![f6,lo,B_ hn,k1,k2,ii]
def p30:fN.G (.int 10) (.int 30)=.val (.int 1000000000000000000000000000000):=oY ⟨by decide,by decide,by decide⟩
def rmQ(k:Int)(r:SR3):Prop:=∃b a c,Good b/\qT [true] r=.ok (.val (bV b)) [fdV a c k]
def rmI(k way:Int)(e:E3):Prop:=∃b x a c,Good b/\x.pl=true/\e=[.mu (fdV a c k),.sh (.int way),.sh (fV b.l),.sh (fV b.t),.sh (fV b.w),.sh (fV b.h),x]
def iY{r:Int}(h:0<=r):0<1+r:=by omega
def vx{r:Int}(h:0<=r):1+r≠0:=by omega
def hE{r m:Int}(h0:0<=r)(h1:r<m)(hm:m<=1000):(1+r).natAbs<=2000000000000000000000000000000:=by omega
def oZ{r m c:Int}(h0:0<=r)(h1:r<m)(hm:m<=1000)(hc:0<=c/\c<=1000):(r-c).natAbs<=2000000000000000000000000000000:=by omega
def ni{r far:Int}(h0:-far<=r)(h1:r<=far)(hf:far<=1000000000000000000000000000000):r.natAbs<=2000000000000000000000000000000/\(1+((r.natAbs:Nat):Int)).natAbs<=2000000000000000000000000000000:=by omega
def o7{r:Int}:0<1+((r.natAbs:Nat):Int):=by omega
def ye{r:Int}(h:0<r):r≠0:=by omega
def DL(a c k:Int):∃b a' c',Good b/\eO.G [fdV a c k]=.ok (.val (bV b)) [fdV a' c' k]:=by
 unfold eO
 rw[vB rfl]
 show rmQ k (i7.G [.mu (fdV a c k),.no,.no,.no,.no,.no,.no])
 unfold i7
 obtain⟨way,a1,c1,e1,hw0,hw1⟩:=aA (a:=a) (b:=c) (k:=k) (m:=6) (by decide) (sm8 (by decide))
 refine aJ (λe=>e=[.mu (fdV a1 c1 k),.sh (.int way),.no,.no,.no,.no,.no]) ⟨_,by simp![e1],rfl⟩ ?_
 rintro _ rfl
 obtain⟨l,a2,c2,e2,hl0,hl1⟩:=aA (a:=a1) (b:=c1) (k:=k) (m:=19) (by decide) (sm8 (by decide))
 obtain⟨t,a3,c3,e3,ht0,ht1⟩:=aA (a:=a2) (b:=c2) (k:=k) (m:=19) (by decide) (sm8 (by decide))
 refine aJ (λe=>e=[.mu (fdV a3 c3 k),.sh (.int way),.sh (fV ((l-9:Int):Rat)),.sh (fV ((t-9:Int):Rat)),.no,.no,.no]) ⟨_,by simp![e2,e3,iV],rfl⟩ ?_
 rintro _ rfl
 obtain⟨w,a4,c4,e4,hww0,hww1⟩:=aA (a:=a3) (b:=c3) (k:=k) (m:=12) (by decide) (sm8 (by decide))
 obtain⟨hh,a5,c5,e5,hh0,hh1⟩:=aA (a:=a4) (b:=c4) (k:=k) (m:=12) (by decide) (sm8 (by decide))
 refine aJ (rmI k way) ⟨[.mu (fdV a5 c5 k),.sh (.int way),.sh (fV ((l-9:Int):Rat)),.sh (fV ((t-9:Int):Rat)),.sh (fV ((1+w:Int):Rat)),.sh (fV ((1+hh:Int):Rat)),.no],by simp![e4,e5,iV],⟨_,_,_,_⟩,.no,a5,c5,⟨⟨ft (iY hww0),ft (iY hh0)⟩,⟨fE (oZ hl0 hl1 (by decide) (by decide)),fE (oZ ht0 ht1 (by decide) (by decide)),fE (hE hww0 hww1 (by decide)),fE (hE hh0 hh1 (by decide))⟩⟩,rfl,rfl⟩ ?_
 rintro _ ⟨b,x,a,c,gb,hx,rfl⟩
 refine aJ (rmI k way) ?_ ?_
 ·by_cases hw:way=1
  ·subst hw
   exact⟨[.mu (fdV a c k),.sh (.int 1),.sh (fV b.l),.sh (fV b.t),.sh (fV b.w),.sh (fV b.w),x],by simp![gy],⟨b.l,b.t,b.w,b.w⟩,x,a,c,⟨⟨gb.ok.w,gb.ok.w⟩,⟨gb.sz.l,gb.sz.t,gb.sz.w,gb.sz.w⟩⟩,hx,rfl⟩
  ·exact⟨_,by simp![D_.mpr hw],b,x,a,c,gb,hx,rfl⟩
 rintro _ ⟨b,x,a,c,gb,hx,rfl⟩
 refine aJ (rmI k way) ?_ ?_
 ·by_cases hw:way=2
  ·subst hw
   obtain⟨r,a1,c1,e1,h0,h1⟩:=aA (a:=a) (b:=c) (k:=k) (m:=99) (by decide) (sm8 (by decide))
   exact⟨[.mu (fdV a1 c1 k),.sh (.int 2),.sh (fV b.l),.sh (fV b.t),.sh (fV ((1+r:Int):Rat)),.sh (fV b.h),x],by simp![e1,iV],⟨b.l,b.t,((1+r:Int):Rat),b.h⟩,x,a1,c1,⟨⟨ft (iY h0),gb.ok.h⟩,⟨gb.sz.l,gb.sz.t,fE (hE h0 h1 (by decide)),gb.sz.h⟩⟩,hx,rfl⟩
  ·exact⟨_,by simp![D_.mpr hw],b,x,a,c,gb,hx,rfl⟩
 rintro _ ⟨b,x,a,c,gb,hx,rfl⟩
 refine aJ (rmI k way) ?_ ?_
 ·by_cases hw:way=3
  ·subst hw
   obtain⟨r,a1,c1,e1,h0,h1⟩:=aA (a:=a) (b:=c) (k:=k) (m:=99) (by decide) (sm8 (by decide))
   exact⟨[.mu (fdV a1 c1 k),.sh (.int 3),.sh (fV b.l),.sh (fV b.t),.sh (fV b.w),.sh (fV ((1+r:Int):Rat)),x],by simp![e1,iV],⟨b.l,b.t,b.w,((1+r:Int):Rat)⟩,x,a1,c1,⟨⟨gb.ok.w,ft (iY h0)⟩,⟨gb.sz.l,gb.sz.t,gb.sz.w,fE (hE h0 h1 (by decide))⟩⟩,hx,rfl⟩
  ·exact⟨_,by simp![D_.mpr hw],b,x,a,c,gb,hx,rfl⟩
 rintro _ ⟨b,x,a,c,gb,hx,rfl⟩
 refine aJ (rmI k way) ?_ ?_
 ·by_cases hw:way=4
  ·subst hw
   obtain⟨r1,a1,c1,e1,h10,h11⟩:=aA (a:=a) (b:=c) (k:=k) (m:=199) (by decide) (sm8 (by decide))
   obtain⟨r2,a2,c2,e2,h20,h21⟩:=aA (a:=a1) (b:=c1) (k:=k) (m:=30) (by decide) (sm8 (by decide))
   obtain⟨r3,a3,c3,e3,h30,h31⟩:=aA (a:=a2) (b:=c2) (k:=k) (m:=9) (by decide) (sm8 (by decide))
   obtain⟨r4,a4,c4,e4,h40,h41⟩:=aA (a:=a3) (b:=c3) (k:=k) (m:=99) (by decide) (sm8 (by decide))
   obtain⟨r5,a5,c5,e5,h50,h51⟩:=aA (a:=a4) (b:=c4) (k:=k) (m:=30) (by decide) (sm8 (by decide))
   obtain⟨r6,a6,c6,e6,h60,h61⟩:=aA (a:=a5) (b:=c5) (k:=k) (m:=99) (by decide) (sm8 (by decide))
   have l1:=fG (a:=r1-99) (b:=1+r2) (vx h20) (jQ (hE h20 h21 (by decide)))
   have l2:=fG (a:=r3) (b:=7) (by decide) (jQ (by decide))
   have l3:=fG (a:=1+r4) (b:=1+r5) (vx h50) (jQ (hE h50 h51 (by decide)))
   have l4:=fG (a:=1+r6) (b:=11) (by decide) (jQ (by decide))
   exact⟨[.mu (fdV a6 c6 k),.sh (.int 4),.sh (fV (((r1-99:Int):Rat)/((1+r2:Int):Rat))),.sh (fV (((r3:Int):Rat)/((7:Int):Rat))),.sh (fV (((1+r4:Int):Rat)/((1+r5:Int):Rat))),.sh (fV (((1+r6:Int):Rat)/((11:Int):Rat))),x],by simp![e1,e2,e3,e4,e5,e6,l1,l2,l3,l4],⟨_,_,_,_⟩,x,a6,c6,⟨⟨gu (iY h40) (iY h50),gu (iY h60) (by decide)⟩,⟨fZ (vx h20) (oZ h10 h11 (by decide) (by decide)) (hE h20 h21 (by decide)),fZ (by decide) (by have:=oZ (c:=0) h30 h31 (by decide) (by decide);rw[Int.sub_zero] at this;exact this) (by decide),fZ (vx h50) (hE h40 h41 (by decide)) (hE h50 h51 (by decide)),fZ (by decide) (hE h60 h61 (by decide)) (by decide)⟩⟩,hx,rfl⟩
  ·exact⟨_,by simp![D_.mpr hw],b,x,a,c,gb,hx,rfl⟩
 rintro _ ⟨b,x,a,c,gb,hx,rfl⟩
 refine aJ (rmI k way) ?_ ?_
 ·by_cases hw:way=5
  ·subst hw
   obtain⟨r1,a1,c1,e1,h10,h11⟩:=fj (a:=a) (b:=c) (k:=k) (far:=999999999999999999999999999999) (by decide) (by decide)
   obtain⟨r2,a2,c2,e2,h20,h21⟩:=fj (a:=a1) (b:=c1) (k:=k) (far:=999999999999999999999999999998) (by decide) (by decide)
   obtain⟨r3,a3,c3,e3,h30,h31⟩:=fj (a:=a2) (b:=c2) (k:=k) (far:=999999999999999999999999999999) (by decide) (by decide)
   obtain⟨r4,a4,c4,e4,h40,h41⟩:=fj (a:=a3) (b:=c3) (k:=k) (far:=999999999999999999999999999998) (by decide) (by decide)
   obtain⟨r5,a5,c5,e5,h50,h51⟩:=fj (a:=a4) (b:=c4) (k:=k) (far:=999999999999999999999999999998) (by decide) (by decide)
   have n2:=f6 r2
   have n4:=f6 r4
   have n5:=f6 r5
   have l1:=fG (a:=r1) (b:=1+((r2.natAbs:Nat):Int)) (ye o7) (jQ (ni h20 h21 (by decide)).2)
   have l4:=fG (a:=1+((r5.natAbs:Nat):Int)) (b:=999999999999999999999999999999) (by decide) (jQ (by decide))
   exact⟨[.mu (fdV a5 c5 k),.sh (.int 5),.sh (fV (((r1:Int):Rat)/((1+((r2.natAbs:Nat):Int):Int):Rat))),.sh (fV ((r3:Int):Rat)),.sh (fV ((1+((r4.natAbs:Nat):Int):Int):Rat)),.sh (fV (((1+((r5.natAbs:Nat):Int):Int):Rat)/((999999999999999999999999999999:Int):Rat))),.sh (.int 999999999999999999999999999999)],by simp![hx,p30,e1,e2,e3,e4,e5,n2,n4,n5,l1,l4,iV],⟨_,_,_,_⟩,_,a5,c5,⟨⟨ft o7,gu o7 (by decide)⟩,⟨fZ (ye o7) (ni h10 h11 (by decide)).1 (ni h20 h21 (by decide)).2,fE (ni h30 h31 (by decide)).1,fE (ni h40 h41 (by decide)).2,fZ (by decide) (ni h50 h51 (by decide)).2 (by decide)⟩⟩,rfl,rfl⟩
  ·exact⟨_,by simp![D_.mpr hw],b,x,a,c,gb,hx,rfl⟩
 rintro _ ⟨b,x,a,c,gb,hx,rfl⟩
 refine⟨b,a,c,gb,?_⟩
 simp![vU,bV]
def lW{p q:Rat}{n m:Nat}(hp:Sz n p)(hq:Sz m q)(h:n+m<=8000):eF.G [fV p,fV q]=.ok (.val (fV (p+q))) []:=by
 have c1:=aZ (CMulA.of hp.top hq.bot (by omega) (by omega))
 have c2:=aZ (CMulA.of hq.top hp.bot (by omega) (by omega))
 have c3:=aZ (CMulA.of hp.bot hq.bot (by omega) (by omega))
 have dp:=p.den_pos
 have dq:=q.den_pos
 have lo:=fG (a:=p.num*q.den+q.num*p.den) (b:=p.den*q.den) (Int.ne_of_gt (QP (by omega) (by omega))) ((hp.bot.mul hq.bot).mono h)
 rw[<- uu] at lo
 unfold eF
 rw[aL]
 unfold nZ
 rw[show fV p=.tup [.int p.num,.int p.den] from rfl,show fV q=.tup [.int q.num,.int q.den] from rfl]
 simp![c1,c2,c3,lo]
def EX(p:Rat)(a W:Int)(hW:0<W):((p.num*a:Int):Rat)/((p.den*W:Int):Rat)=p*((a:Rat)/(W:Rat)):=by
 have h1:p=(p.num:Rat)/(p.den:Rat):=by
  have z:=Rat.num_divInt_den p
  rw[Rat.divInt_eq_div] at z
  exact z.symm
 have h2:(p.den:Rat)≠0:=λz=>p.den_nz (by exact_mod_cast z)
 have h3:(W:Rat)≠0:=λz=>by
  have:W=0:=by exact_mod_cast z
  omega
 rw[OP,OP,Rat.intCast_natCast]
 generalize (p.num:Rat)=x at *
 generalize (p.den:Rat)=y at *
 generalize (W:Rat)=z at *
 generalize (a:Rat)=u at *
 subst h1
 grind
def jO{p:Rat}{n m:Nat}{a W:Int}(hp:Sz n p)(hW:0<W)(mW:Sm m W)(h:n+m<=8000):aQ.G [.int (p.num*a),.int (p.den*W)]=.ok (.val (fV (p*((a:Rat)/(W:Rat))))) []:=by
 have dp:=p.den_pos
 rw[fG (Int.ne_of_gt (QP (by omega) hW)) ((hp.bot.mul mW).mono h),EX p a W hW]
def ve(p:Rat):(fV p).items=some [.int p.num,.int p.den]:=rfl
noncomputable def prt(b:Bx)(way:Str)(W a:Int)(ws:List Int):List Bx:=if way="across" then (shL b.l b.w W a ws).map λp=>⟨p.1,b.t,p.2,b.h⟩ else (shL b.t b.h W a ws).map λp=>⟨b.l,p.1,b.w,p.2⟩
def Mz(b:Bx)(W a w:Int)(ws:List Int):prt b "across" W a (w::ws)=(⟨b.l+b.w*((a:Rat)/(W:Rat)),b.t,b.w*((w:Rat)/(W:Rat)),b.h⟩:Bx)::prt b "across" W (a+w) ws:=by
 unfold prt
 rw[if_pos rfl,if_pos rfl]
 rfl
def N5(b:Bx)(W a w:Int)(ws:List Int):prt b "down" W a (w::ws)=(⟨b.l,b.t+b.h*((a:Rat)/(W:Rat)),b.w,b.h*((w:Rat)/(W:Rat))⟩:Bx)::prt b "down" W (a+w) ws:=by
 have hne:¬ (("down" : Str)="across"):=by decide
 unfold prt
 rw[if_neg hne,if_neg hne]
 rfl
def FO(b:Bx)(way:Str)(W a:Int):prt b way W a []=[]:=by
 unfold prt
 split <;> rfl
theorem lg{b:Bx}{n m:Nat}{W:Int}{wv:Val}(hs:b.Sz n)(hW:0<W)(mW:Sm m W)(h:n+n+m<=8000){way:Str}(hway:way="across" \/ way="down"):∀(ws:List Int) (a:Int) (acc:List Bx) (s10 s11:Sl),s10.pl=true->s11.pl=true->0<=a->(∀w∈ws,1<=w)->a+ws.sum<=W->acc.length+ws.length<=1000->∃s9' s10' s11',eW (gtN 10).G cG.G (ws.map .int) [.sh (bV b),.sh (.str way),.sh wv,.sh (fV b.l),.sh (fV b.t),.sh (fV b.w),.sh (fV b.h),.sh (.int W),.ow (.lst (acc.map bV)),.sh (.int a),s10,s11]=.nx [.sh (bV b),.sh (.str way),.sh wv,.sh (fV b.l),.sh (fV b.t),.sh (fV b.w),.sh (fV b.h),.sh (.int W),.ow (.lst ((acc++prt b way W a ws).map bV)),s9',s10',s11']
 | [],a,acc,s10,s11,h10,h11,ha,hw,hs',be=>⟨.sh (.int a),s10,s11,by rw[OA,jN,FO,OG]⟩
 |
  w::ws,a,acc,s10,s11,h10,h11,ha,hw,hs',be=>by
  have hw0:=hw w (p_ ..)
  have hws:0<=ws.sum:=by
   have:∀l:List Int,(∀w∈l,1<=w)->0<=l.sum:=by
    intro l
    induction l with
    |nil=>intro _;simp
    |cons x l ih=>intro hx;rw[Oy];have:=hx x (p_ ..);have:=ih λw hw=>hx w (m_ _ hw);omega
   exact this ws λx hx=>hw x (m_ _ hx)
  rw[Oy] at hs'
  rw[A_] at be
  have sa:Sm m a:=mW.of_le (by omega)
  have sw:Sm m w:=mW.of_le (by omega)
  have z1:Sz m ((a:Rat)/(W:Rat)):=Sz.div (by omega) sa mW m (o_ _) (o_ _)
  have ll:(acc.map bV).length<16777216:=by rw[l_];omega
  have g1:(gtN 10).G (.int w) [.sh (bV b),.sh (.str way),.sh wv,.sh (fV b.l),.sh (fV b.t),.sh (fV b.w),.sh (fV b.h),.sh (.int W),.ow (.lst (acc.map bV)),.sh (.int a),s10,s11]=some [.sh (bV b),.sh (.str way),.sh wv,.sh (fV b.l),.sh (fV b.t),.sh (fV b.w),.sh (fV b.h),.sh (.int W),.ow (.lst (acc.map bV)),.sh (.int a),.sh (.int w),s11]:=by
   simp![h10]
  rcases hway with rfl |rfl
  ·have t1:=jO (a:=a) hs.w hW mW (by omega)
   have t2:=jO (a:=w) hs.w hW mW (by omega)
   have c1:=aZ (CMulA.of hs.w.top sa (by omega) (by omega))
   have c2:=aZ (CMulA.of hs.w.top sw (by omega) (by omega))
   have c3:=aZ (CMulA.of hs.w.bot mW (by omega) (by omega))
   have ad:=lW hs.l (hs.w.mul z1) (by omega)
   obtain⟨t9,t10,t11,ih⟩:=lg (wv:=wv) hs hW mW h (.inl rfl) ws (a+w) (acc++[(⟨b.l+b.w*((a:Rat)/(W:Rat)),b.t,b.w*((w:Rat)/(W:Rat)),b.h⟩:Bx)]) (.sh (.int w)) (.sh (fV (b.l+b.w*((a:Rat)/(W:Rat))))) rfl rfl (by omega) (λx hx=>hw x (m_ _ hx)) (by omega) (by rw[z_];show acc.length+1+_<=_;omega)
   refine⟨t9,t10,t11,?_⟩
   have b1:cG.G [.sh (bV b),.sh (.str "across"),.sh wv,.sh (fV b.l),.sh (fV b.t),.sh (fV b.w),.sh (fV b.h),.sh (.int W),.ow (.lst (acc.map bV)),.sh (.int a),.sh (.int w),s11]=.nx [.sh (bV b),.sh (.str "across"),.sh wv,.sh (fV b.l),.sh (fV b.t),.sh (fV b.w),.sh (fV b.h),.sh (.int W),.ow (.lst ((acc++[(⟨b.l+b.w*((a:Rat)/(W:Rat)),b.t,b.w*((w:Rat)/(W:Rat)),b.h⟩:Bx)]).map bV)),.sh (.int (a+w)),.sh (.int w),.sh (fV (b.l+b.w*((a:Rat)/(W:Rat))))]:=by
    unfold cG
    rw[Oz,show [(⟨b.l+b.w*((a:Rat)/(W:Rat)),b.t,b.w*((w:Rat)/(W:Rat)),b.h⟩:Bx)].map bV=[.tup [fV (b.l+b.w*((a:Rat)/(W:Rat))),fV b.t,fV (b.w*((w:Rat)/(W:Rat))),fV b.h]] from rfl]
    simp![h11,ve,c1,c2,c3,t1,t2,ad,ll,xE]
   rw[v_,fu,g1]
   simp only[b1,o9]
   rw[ih,Mz,PX]
   rfl
  ·have t1:=jO (a:=a) hs.h hW mW (by omega)
   have t2:=jO (a:=w) hs.h hW mW (by omega)
   have c1:=aZ (CMulA.of hs.h.top sa (by omega) (by omega))
   have c2:=aZ (CMulA.of hs.h.top sw (by omega) (by omega))
   have c3:=aZ (CMulA.of hs.h.bot mW (by omega) (by omega))
   have ad:=lW hs.t (hs.h.mul z1) (by omega)
   obtain⟨t9,t10,t11,ih⟩:=lg (wv:=wv) hs hW mW h (.inr rfl) ws (a+w) (acc++[(⟨b.l,b.t+b.h*((a:Rat)/(W:Rat)),b.w,b.h*((w:Rat)/(W:Rat))⟩:Bx)]) (.sh (.int w)) (.sh (fV (b.t+b.h*((a:Rat)/(W:Rat))))) rfl rfl (by omega) (λx hx=>hw x (m_ _ hx)) (by omega) (by rw[z_];show acc.length+1+_<=_;omega)
   refine⟨t9,t10,t11,?_⟩
   have b1:cG.G [.sh (bV b),.sh (.str "down"),.sh wv,.sh (fV b.l),.sh (fV b.t),.sh (fV b.w),.sh (fV b.h),.sh (.int W),.ow (.lst (acc.map bV)),.sh (.int a),.sh (.int w),s11]=.nx [.sh (bV b),.sh (.str "down"),.sh wv,.sh (fV b.l),.sh (fV b.t),.sh (fV b.w),.sh (fV b.h),.sh (.int W),.ow (.lst ((acc++[(⟨b.l,b.t+b.h*((a:Rat)/(W:Rat)),b.w,b.h*((w:Rat)/(W:Rat))⟩:Bx)]).map bV)),.sh (.int (a+w)),.sh (.int w),.sh (fV (b.t+b.h*((a:Rat)/(W:Rat))))]:=by
    unfold cG
    rw[Oz,show [(⟨b.l,b.t+b.h*((a:Rat)/(W:Rat)),b.w,b.h*((w:Rat)/(W:Rat))⟩:Bx)].map bV=[.tup [fV b.l,fV (b.t+b.h*((a:Rat)/(W:Rat))),fV b.w,fV (b.h*((w:Rat)/(W:Rat)))]] from rfl]
    simp![h11,ve,c1,c2,c3,t1,t2,ad,ll,zM]
   rw[v_,fu,g1]
   simp only[b1,o9]
   rw[ih,N5,PX]
   rfl
def sH{b:Bx}{n m:Nat}{way:Str}{ws:List Int}(hs:b.Sz n)(hway:way="across" \/ way="down")(hw:∀w∈ws,1<=w)(h0:0<ws.sum)(mW:Sm m ws.sum)(h:n+n+m<=8000)(be:ws.length<=1000):dW.G [bV b,.str way,.lst (ws.map .int)]=.ok (.new (.lst ((aD b way ws).map bV))) []:=by
 obtain⟨s9,s10,s11,lo⟩:=lg (wv:=.lst (ws.map .int)) hs h0 mW h hway ws 0 [] .no .no rfl rfl (by omega) hw (by omega) (by simpa using be)
 have pe:prt b way ws.sum 0 ws=aD b way ws:=rfl
 rw[OH,pe,OA] at lo
 have e0:bV b=.tup [fV b.l,fV b.t,fV b.w,fV b.h]:=rfl
 rw[e0] at lo ⊢
 unfold dW
 rw[aL]
 unfold ki
 simp![lo]
def p29:fN.G (.int 10) (.int 29)=.val (.int 100000000000000000000000000000):=oY ⟨by decide,by decide,by decide⟩
def GO{r:Int}(h0:0<=r)(h1:r<24):∃z,1<=z/\z<=8388608/\sU.G (.int 1) (.int r)=.val (.int z):=by
 have c1:(1:Nat)<=2^r.toNat:=Nat.one_le_two_pow
 have c2:2^r.toNat<=2^23:=O5 (by decide) (by omega)
 have e:(2:Int)^r.toNat=((2^r.toNat:Nat):Int):=by rw[Int.natCast_pow];rfl
 refine⟨1*2^r.toNat,?_,?_,LD ⟨h0,by omega,by decide⟩⟩
 ·rw[Int.one_mul,e];exact Int.ofNat_le.mpr c1
 ·rw[Int.one_mul,e];exact Int.ofNat_le.mpr c2
def EW{ns:List Int}{at_ most many more sty k:Int}{acc:List Int}{s9:Sl}(h9:s9.pl=true)(hk:0<=k/\k<=40)(hs:0<=sty/\sty<6)(a c q:Int):
 ∃w a' c',1<=w/\w<=8388608/\(au false 9 (pOp bIx (df (aa (ah 1) (aa (pOp aV (ah 1) (ai ao (aa (af 3) (aa (ah 9) ag)))) (aa (pOp sU (ah 1) (pOp bS (af 8) (ah 24))) (aa (pOp aV (ah 1) (ai ao (aa (af 3) (aa (ah 9) ag)))) (aa (ah 1) (aa (pOp aV (ah 1) (ai ao (aa (af 3) (aa (ah 3) ag)))) ag))))))) (af 6))).G [.sh (.kl (ns.map .int)),.sh (.int at_),.sh (.int most),.ow (fdV a c q),.sh (.int many),.sh (.int more),.sh (.int sty),.ow (.lst (acc.map .int)),.sh (.int k),s9]=.nx [.sh (.kl (ns.map .int)),.sh (.int at_),.sh (.int most),.ow (fdV a' c' q),.sh (.int many),.sh (.int more),.sh (.int sty),.ow (.lst (acc.map .int)),.sh (.int k),.sh (.int w)]:=by
 obtain⟨r1,a1,c1,e1,l1,u1⟩:=aA (a:=a) (b:=c) (k:=q) (m:=9) (by decide) (sm8 (by decide))
 obtain⟨r2,a2,c2,e2,l2,u2⟩:=aA (a:=a1) (b:=c1) (k:=q) (m:=9) (by decide) (sm8 (by decide))
 obtain⟨r3,a3,c3,e3,l3,u3⟩:=aA (a:=a2) (b:=c2) (k:=q) (m:=3) (by decide) (sm8 (by decide))
 have fm:=dm (a:=k) (m:=24) (by decide)
 have km:=eI (i:=k) (j:=24) (by decide)
 have sh:=GO fm.1 fm.2
 obtain⟨z,z1,z2,z3⟩:=sh
 have hc:sty=0\/sty=1\/sty=2\/sty=3\/sty=4\/sty=5:=by omega
 have at6:∃w,1<=w/\w<=8388608/\atI [Val.int 1,.int (1+r1),.int z,.int (1+r2),.int 1,.int (1+r3)] sty=some (.int w):=by
  rcases hc with rfl |rfl |rfl |rfl |rfl |rfl
  ·exact⟨1,by decide,by decide,rfl⟩
  ·exact⟨1+r1,by omega,by omega,rfl⟩
  ·exact⟨z,z1,z2,rfl⟩
  ·exact⟨1+r2,by omega,by omega,rfl⟩
  ·exact⟨1,by decide,by decide,rfl⟩
  ·exact⟨1+r3,by omega,by omega,rfl⟩
 obtain⟨w,w1,w2,w3⟩:=at6
 refine⟨w,a3,c3,w1,w2,?_⟩
 simp![e1,e2,e3,km,z3,w3,h9]
def wtI(ns:List Int)(at_ most many more sty k:Int)(acc:List Int)(e:E3):Prop:=∃w a c q,1<=w/\w<=1000000000000000000000000000000/\(sty<3->w<=8388608)/\e=[.sh (.kl (ns.map .int)),.sh (.int at_),.sh (.int most),.ow (fdV a c q),.sh (.int many),.sh (.int more),.sh (.int sty),.ow (.lst (acc.map .int)),.sh (.int k),.sh (.int w)]
def wtQ(ns:List Int)(at_ most many more sty k:Int)(acc:List Int)(r:SR3):Prop:=∃w s3,1<=w/\w<=1000000000000000000000000000000/\(sty<3->w<=8388608)/\s3.pl=true/\r=.nx [.sh (.kl (ns.map .int)),.sh (.int at_),.sh (.int most),s3,.sh (.int many),.sh (.int more),.sh (.int sty),.ow (.lst ((acc++[w]).map .int)),.sh (.int k),.sh (.int w)]
def EN{ns:List Int}{at_ most many more sty k:Int}{acc:List Int}{s3 s9:Sl}(h3:s3.pl=true)(h9:s9.pl=true)(ha:0<=at_)(hk:0<=k/\k<=40)(hs:0<=sty/\sty<6)(hl:acc.length<=1000):
 wtQ ns at_ most many more sty k acc (dH.G [.sh (.kl (ns.map .int)),.sh (.int at_),.sh (.int most),s3,.sh (.int many),.sh (.int more),.sh (.int sty),.ow (.lst (acc.map .int)),.sh (.int k),s9]):=by
 unfold dH
 obtain⟨f,ef⟩:=mU (ns:=ns) (k:=at_+1+k) (by omega)
 refine aJ (λe=>e=[.sh (.kl (ns.map .int)),.sh (.int at_),.sh (.int most),.ow (fdV f 0 (at_+1+k)),.sh (.int many),.sh (.int more),.sh (.int sty),.ow (.lst (acc.map .int)),.sh (.int k),s9]) ⟨_,by simp![ef,h3],rfl⟩ ?_
 rintro _ rfl
 refine aJ (wtI ns at_ most many more sty k acc) ?_ ?_
 ·obtain⟨w,a,c,w1,w2,e⟩:=EW (ns:=ns) (at_:=at_) (most:=most) (many:=many) (more:=more) (acc:=acc) h9 hk hs f 0 (at_+1+k)
  exact⟨_,e,w,a,c,_,w1,by omega,λ_=>w2,rfl⟩
 rintro _ ⟨w,a,c,q,w1,w2,w3,rfl⟩
 refine aJ (wtI ns at_ most many more sty k acc) ?_ ?_
 ·by_cases h:sty=3
  ·subst h
   obtain⟨r1,a1,c1,e1,l1,u1⟩:=aA (a:=a) (b:=c) (k:=q) (m:=4) (by decide) (sm8 (by decide))
   obtain⟨r2,a2,c2,e2,l2,u2⟩:=aA (a:=a1) (b:=c1) (k:=q) (m:=100) (by decide) (sm8 (by decide))
   by_cases hr:r1=0
   ·subst hr
    exact⟨[.sh (.kl (ns.map .int)),.sh (.int at_),.sh (.int most),.ow (fdV a2 c2 q),.sh (.int many),.sh (.int more),.sh (.int 3),.ow (.lst (acc.map .int)),.sh (.int k),.sh (.int (100000000000000000000000000000+r2))],by simp![e1,e2,p29],_,_,_,_,by omega,by omega,λz=>absurd z (by decide),rfl⟩
   ·exact⟨[.sh (.kl (ns.map .int)),.sh (.int at_),.sh (.int most),.ow (fdV a1 c1 q),.sh (.int many),.sh (.int more),.sh (.int 3),.ow (.lst (acc.map .int)),.sh (.int k),.sh (.int w)],by simp![e1,D_.mpr hr],_,_,_,_,w1,w2,w3,rfl⟩
  ·exact⟨_,by simp![D_.mpr h],w,a,c,q,w1,w2,w3,rfl⟩
 rintro _ ⟨w,a,c,q,w1,w2,w3,rfl⟩
 refine aJ (wtI ns at_ most many more sty k acc) ?_ ?_
 ·by_cases h:sty=4
  ·subst h
   obtain⟨r1,a1,c1,e1,l1,u1⟩:=fj (a:=a) (b:=c) (k:=q) (far:=999999999999999999999999999998) (by decide) (by decide)
   exact⟨[.sh (.kl (ns.map .int)),.sh (.int at_),.sh (.int most),.ow (fdV a1 c1 q),.sh (.int many),.sh (.int more),.sh (.int 4),.ow (.lst (acc.map .int)),.sh (.int k),.sh (.int (1+if r1<0 then -r1 else r1))],by simp![e1,p30],_,_,_,_,by split <;> omega,by split <;> omega,λz=>absurd z (by decide),rfl⟩
  ·exact⟨_,by simp![D_.mpr h],w,a,c,q,w1,w2,w3,rfl⟩
 rintro _ ⟨w,a,c,q,w1,w2,w3,rfl⟩
 have ll:(acc.map Val.int).length<16777216:=by rw[l_];omega
 refine⟨w,.ow (fdV a c q),w1,w2,w3,rfl,?_⟩
 rw[Oz,v_,OA]
 simp![ll]
theorem uU{ns:List Int}{at_ most many more sty:Int}(ha:0<=at_)(hs:0<=sty/\sty<6):∀(ks:List Nat) (acc:List Int) (s3 s8 s9:Sl),s3.pl=true->s8.pl=true->s9.pl=true->(∀k∈ks,k<=40)->acc.length+ks.length<=1000->
 ∃(ws:List Int) (s3' s8' s9':Sl),ws.length=ks.length/\(∀w∈ws,1<=w/\w<=1000000000000000000000000000000/\(sty<3->w<=8388608))/\eW (gtN 8).G dH.G (ks.map λk:Nat=>Val.int (k:Nat)) [.sh (.kl (ns.map .int)),.sh (.int at_),.sh (.int most),s3,.sh (.int many),.sh (.int more),.sh (.int sty),.ow (.lst (acc.map .int)),s8,s9]=.nx [.sh (.kl (ns.map .int)),.sh (.int at_),.sh (.int most),s3',.sh (.int many),.sh (.int more),.sh (.int sty),.ow (.lst ((acc++ws).map .int)),s8',s9']
 | [],acc,s3,s8,s9,_,_,_,_,_=>⟨[],s3,s8,s9,rfl,(λ_ h=>nomatch h),by rw[OA,jN,OG]⟩
 |
  k::ks,acc,s3,s8,s9,h3,h8,h9,hk,hl=>by
  rw[A_] at hl
  obtain⟨w,t3,w1,w2,w3,p3,e⟩:=EN (ns:=ns) (at_:=at_) (most:=most) (many:=many) (more:=more) (sty:=sty) (k:=(k:Nat)) (acc:=acc) h3 h9 ha ⟨by omega,by have:=hk k (p_ ..);omega⟩ hs (by omega)
  obtain⟨ws,s3',s8',s9',q1,q2,q3⟩:=uU (ns:=ns) (most:=most) (many:=many) (more:=more) ha hs ks (acc++[w]) t3 (.sh (.int (k:Nat))) (.sh (.int w)) p3 rfl rfl (λj hj=>hk j (m_ _ hj)) (by rw[z_];show acc.length+1+_<=_;omega)
  refine⟨w::ws,s3',s8',s9',by rw[A_,A_,q1],λx hx=>?_,?_⟩
  ·rcases I_.mp hx with rfl |hx
   ·exact⟨w1,w2,w3⟩
   ·exact q2 x hx
  ·have g1:(gtN 8).G (.int (k:Nat)) [.sh (.kl (ns.map .int)),.sh (.int at_),.sh (.int most),s3,.sh (.int many),.sh (.int more),.sh (.int sty),.ow (.lst (acc.map .int)),s8,s9]=some [.sh (.kl (ns.map .int)),.sh (.int at_),.sh (.int most),s3,.sh (.int many),.sh (.int more),.sh (.int sty),.ow (.lst (acc.map .int)),.sh (.int (k:Nat)),s9]:=by
    simp![h8]
   rw[v_,fu,g1]
   dsimp only
   rw[e]
   show eW _ _ _ _=_
   rw[q3,PX]
   rfl
def div8{x:Int}:iU.G (.int x) (.int 8)=.val (.int (x.fdiv 8)):=jK (CDivB.of (by decide) (sm8 (by decide)))
def wsQ(M:Int)(r:SR3):Prop:=∃ws:List Int,1<=ws.length/\(ws.length:Int)<=M/\(∀w∈ws,1<=w/\w<=1000000000000000000000000000000)/\(9<ws.length->∀w∈ws,w<=8388608)/\qT [false,false,false] r=.ok (.new (liV ws)) []
def ws_a{x most M:Int}(h:x<=most)(h1:most<=M)(h7:7<=M):1<=(if x>1 then x else 1)/\(if x>1 then x else 1)<=M:=by split <;> omega
def ws_b{most:Int}(h1:1<=most)(h2:most<=40):0<(if (7:Int)<most then 7 else most)/\Sm 8000 (if (7:Int)<most then 7 else most):=by
 split
 ·exact⟨by decide,sm8 (by decide)⟩
 ·exact⟨by omega,sm8 (by omega)⟩
def ws_c{r most:Int}(h:r<if (7:Int)<most then 7 else most):1+r<=7:=by split at h <;> omega
def w9{ns:List Int}{at_ most:Int}(ha:0<=at_)(hm:1<=most/\most<=40):∃ws:List Int,1<=ws.length/\(ws.length:Int)<=max most 7/\(∀w∈ws,1<=w/\w<=1000000000000000000000000000000)/\(9<ws.length->∀w∈ws,w<=8388608)/\cQ.G [.kl (ns.map .int),.int at_,.int most]=.ok (.new (liV ws)) []:=by
 have x1:most<=max most 7:=Int.le_max_left ..
 have x7:(7:Int)<=max most 7:=Int.le_max_right ..
 have x4:max most 7<=40:=Int.max_le.mpr ⟨hm.2,by decide⟩
 generalize max most 7=M at *
 unfold cQ
 rw[vB rfl]
 show wsQ M (fM.G [.sh (.kl (ns.map .int)),.sh (.int at_),.sh (.int most),.no,.no,.no,.no,.no,.no,.no])
 unfold fM
 obtain⟨f,ef⟩:=mU (ns:=ns) (k:=at_) ha
 refine aJ (λe=>e=[.sh (.kl (ns.map .int)),.sh (.int at_),.sh (.int most),.ow (fdV f 0 at_),.no,.no,.no,.no,.no,.no]) ⟨_,by simp![ef],rfl⟩ ?_
 rintro _ rfl
 obtain⟨r1,a1,c1,e1,l1,u1⟩:=aA (a:=f) (b:=0) (k:=at_) (m:=if (7:Int)<most then 7 else most) (ws_b hm.1 hm.2).1 (ws_b hm.1 hm.2).2
 refine aJ (λe=>e=[.sh (.kl (ns.map .int)),.sh (.int at_),.sh (.int most),.ow (fdV a1 c1 at_),.sh (.int (1+r1)),.no,.no,.no,.no,.no]) ⟨_,by simp![e1],rfl⟩ ?_
 rintro _ rfl
 have b1:1+r1<=7:=ws_c u1
 obtain⟨r2,a2,c2,e2,l2,u2⟩:=aA (a:=a1) (b:=c1) (k:=at_) (m:=6) (by decide) (sm8 (by decide))
 refine aJ (λe=>e=[.sh (.kl (ns.map .int)),.sh (.int at_),.sh (.int most),.ow (fdV a2 c2 at_),.sh (.int (1+r1)),.sh (.int r2),.no,.no,.no,.no]) ⟨_,by simp![e2],rfl⟩ ?_
 rintro _ rfl
 refine aJ (λe=>∃many:Int,1<=many/\many<=M/\e=[.sh (.kl (ns.map .int)),.sh (.int at_),.sh (.int most),.ow (fdV a2 c2 at_),.sh (.int many),.sh (.int r2),.no,.no,.no,.no]) ?_ ?_
 ·have mm:=aZ (i:=1+r1) (j:=most) (CMulA.of (sm8 (m:=1+r1) (by omega)) (sm8 (m:=most) (by omega)) (by decide) (by decide))
  by_cases h:r2<2
  ·have dl:((1+r1)*most).fdiv 8<=most:=by
    rw[Int.fdiv_eq_ediv_of_nonneg _ (by decide)]
    have:(1+r1)*most<=7*most:=Int.mul_le_mul_of_nonneg_right b1 (by omega)
    omega
   have hc:r2=0\/r2=1:=by omega
   rcases hc with rfl |rfl
   ·exact⟨_,by simp![mm,div8],most,hm.1,x1,rfl⟩
   ·exact⟨_,by simp![mm,div8],(if ((1+r1)*most).fdiv 8>1 then ((1+r1)*most).fdiv 8 else 1),(ws_a dl x1 x7).1,(ws_a dl x1 x7).2,rfl⟩
  ·exact⟨_,by simp![B_ h],1+r1,Int.le_add_of_nonneg_right l1,Int.le_trans b1 x7,rfl⟩
 rintro _ ⟨many,m1,m2,rfl⟩
 obtain⟨r3,a3,c3,e3,l3,u3⟩:=aA (a:=a2) (b:=c2) (k:=at_) (m:=6) (by decide) (sm8 (by decide))
 refine aJ (λe=>e=[.sh (.kl (ns.map .int)),.sh (.int at_),.sh (.int most),.ow (fdV a3 c3 at_),.sh (.int many),.sh (.int r2),.sh (.int r3),.no,.no,.no]) ⟨_,by simp![e3],rfl⟩ ?_
 rintro _ rfl
 refine aJ (λe=>∃sty:Int,0<=sty/\sty<6/\(9<many->sty<3)/\e=[.sh (.kl (ns.map .int)),.sh (.int at_),.sh (.int most),.ow (fdV a3 c3 at_),.sh (.int many),.sh (.int r2),.sh (.int sty),.no,.no,.no]) ?_ ?_
 ·have km:=eI (i:=r3) (j:=3) (by decide)
  have fm:=dm (a:=r3) (m:=3) (by decide)
  by_cases h:9<many
  ·exact⟨_,by simp![J_ h,km],r3.fmod 3,fm.1,Int.lt_trans fm.2 (by decide),λ_=>fm.2,rfl⟩
  ·exact⟨_,by simp![B_ h],r3,l3,u3,λz=>absurd z h,rfl⟩
 rintro _ ⟨sty,t0,t1,t2,rfl⟩
 refine aJ (λe=>e=[.sh (.kl (ns.map .int)),.sh (.int at_),.sh (.int most),.ow (fdV a3 c3 at_),.sh (.int many),.sh (.int r2),.sh (.int sty),.ow (.lst []),.no,.no]) ⟨_,by simp![OC],rfl⟩ ?_
 rintro _ rfl
 have rg:=uf (i:=many) (by omega) (by omega)
 obtain⟨ws,s3,s8,s9,q1,q2,q3⟩:=uU (ns:=ns) (at_:=at_) (most:=most) (many:=many) (more:=r2) (sty:=sty) ha ⟨t0,t1⟩ (List.range many.toNat) [] (.ow (fdV a3 c3 at_)) .no .no rfl rfl rfl (λk hk=>by have:=OD.mp hk;omega) (by rw[OC,Ox];omega)
 rw[Ox] at q1
 rw[OH,OA] at q3
 unfold rgV at rg
 refine⟨ws,by omega,by omega,λw hw=>⟨(q2 w hw).1,(q2 w hw).2.1⟩,λh w hw=>(q2 w hw).2.2 (t2 (by omega)),?_⟩
 unfold liV
 simp![rg,q3]
 rfl
def mE{q:Rat}{k D:Nat}(hs:Sz 101 q)(hD:D=q.den*k)(hk:0<k):∃z:Int,q=(z:Rat)/((D:Int):Rat)/\z.natAbs<=2^101*D/\(0<q->0<z/\z<=((2^101:Nat):Int)*(D:Int)):=by
 have dp:=q.den_pos
 have hn:q.num.natAbs<2^101:=hs.1
 have hz:(q.num*(k:Int)).natAbs<=2^101*D:=by
  rw[OX,Int.natAbs_natCast,hD]
  exact OF (by omega) (Qs _ dp)
 refine⟨q.num*(k:Int),?_,hz,λh=>⟨QP (tR.mpr h) (by omega),?_⟩⟩
 ·have:=mq (y:=q.num) (W:=(k:Int)) dp (by omega)
  rw[OK,<- hD] at this
  rw[<- this]
  exact ia q
 ·rw[<- Pt]
  generalize q.num*(k:Int)=z at *
  generalize 2^101*D=y at *
  omega
def Dr{b:Bx}(g:Good b):∃D,D<2^404/\Rp D (2^101) (2^101) b:=by
 have dl:=b.l.den_pos
 have dt:=b.t.den_pos
 have dw:=b.w.den_pos
 have dh:=b.h.den_pos
 have sz:∀q:Rat,Sz 101 q->q.den<=2^101:=λq h=>by have:(q.den:Int).natAbs<2^101:=h.2;omega
 have k1:=Pd (Pd dt dw) dh
 have k2:=Pd (Pd dl dw) dh
 have k3:=Pd (Pd dl dt) dh
 have k4:=Pd (Pd dl dt) dw
 refine⟨b.l.den*(b.t.den*b.w.den*b.h.den),?_,Pd dl k1,?_,?_,?_,?_⟩
 ·have a1:b.l.den<2^101:=by have:(b.l.den:Int).natAbs<2^101:=g.sz.l.2;omega
  have a2:=OF (OF (sz _ g.sz.t) (sz _ g.sz.w)) (sz _ g.sz.h)
  calc b.l.den*(b.t.den*b.w.den*b.h.den)<=b.l.den*(2^101*2^101*2^101):=O8 _ a2
   _<2^101*(2^101*2^101*2^101):=Nat.mul_lt_mul_of_pos_right a1 (by decide)
   _=2^404:=by rw[<- Pm,<- Pm,<- Pm]
 ·obtain⟨z,h1,h2,_⟩:=mE (D:=b.l.den*(b.t.den*b.w.den*b.h.den)) g.sz.l rfl k1
  exact⟨z,h1,h2⟩
 ·obtain⟨z,h1,h2,_⟩:=mE (D:=b.l.den*(b.t.den*b.w.den*b.h.den)) (k:=b.l.den*b.w.den*b.h.den) g.sz.t (by ac_rfl) k2
  exact⟨z,h1,h2⟩
 ·obtain⟨z,h1,_,h2⟩:=mE (D:=b.l.den*(b.t.den*b.w.den*b.h.den)) (k:=b.l.den*b.t.den*b.h.den) g.sz.w (by ac_rfl) k3
  exact⟨z,h1,h2 g.ok.w⟩
 ·obtain⟨z,h1,_,h2⟩:=mE (D:=b.l.den*(b.t.den*b.w.den*b.h.den)) (k:=b.l.den*b.t.den*b.w.den) g.sz.h (by ac_rfl) k4
  exact⟨z,h1,h2 g.ok.h⟩
structure WOk(ws:List Int):Prop where
 pos:1<=ws.length
 len:ws.length<=40
 wt:∀w∈ws,1<=w/\w<=1000000000000000000000000000000
 few:10<ws.length->∀w∈ws,w<=8388608
theorem jy{ws:List Int}{M:Int}:∀{l:List Nat},(∀k∈l,ws.getD k 0<=M)->wtA ws l<=(l.length:Int)*M
 | [],_=>by simp [wtA]
 |
  k::l,h=>by
  have h1:=h k (p_ ..)
  have h2:=jy (l:=l) λj hj=>h j (m_ _ hj)
  unfold wtA at h2 ⊢
  rw[v_,Oy,A_,Int.natCast_add,Int.add_mul]
  omega
def NG{ws:List Int}{t:AT}{o:List Nat}{b:Bx}(g:Good b)(W:WOk ws)(T:TOk t o)(ho:∀i,i∈o ↔ i<ws.length)(hl:o.length=ws.length):(∀k∈t.lvs,1<=ws.getD k 0)/\∃D m,m<=104/\Rp D (2^101) (2^101) b/\(2^101+t.dep*2^101)*(D*2^(m*t.dep))<2^2000/\wtT ws t<2^m:=by
 obtain⟨D,hD,R⟩:=Dr g
 have hlt:∀k∈t.lvs,k<ws.length:=λk hk=>(ho k).mp ((T.mem k).mp hk)
 have hin:∀k∈t.lvs,ws.getD k 0∈ws:=λk hk=>by
  rw[Em,x_ (hlt k hk)]
  exact O0 _
 have hd:=T.dep
 have len:=T.len
 have wl:=W.len
 refine⟨λk hk=>(W.wt _ (hin k hk)).1,D,?_⟩
 have key:∀m,m*t.dep<=1218->m<=104->wtT ws t<2^m->∃m,m<=104/\Rp D (2^101) (2^101) b/\(2^101+t.dep*2^101)*(D*2^(m*t.dep))<2^2000/\wtT ws t<2^m:=λm h1 h2 h3=>by
  refine⟨m,h2,R,?_,h3⟩
  have a1:2^101+t.dep*2^101<=2^107:=by
   have h1:=O4 (2^101) (show t.dep<=40 by omega)
   have h2:2^107=64*2^101:=by decide
   rw[h2]
   generalize 2^101=X at *
   omega
  have a2:2^(m*t.dep)<=2^1218:=O5 (by decide) h1
  have a3:=OF a1 (OF (P4 hD) a2)
  refine Pb a3 ?_
  rw[<- Pm,<- Pm]
  exact Nat.pow_lt_pow_right (by decide) (by decide)
 by_cases h9:10<ws.length
 ·refine key 29 (by omega) (by decide) ?_
  have:=jy (M:=8388608) λk hk=>W.few h9 _ (hin k hk)
  unfold wtT
  have:(2:Int)^29=536870912:=by decide
  omega
 ·refine key 104 (by omega) (by decide) ?_
  have:=jy (M:=1000000000000000000000000000000) λk hk=>(W.wt _ (hin k hk)).2
  unfold wtT
  have:(2:Int)^104=20282409603651670423947251286016:=by decide
  omega
def Nv{ws:List Int}{t:AT}{o:List Nat}{b:Bx}(g:Good b)(W:WOk ws)(T:TOk t o)(ho:∀i,i∈o ↔ i<ws.length)(hl:o.length=ws.length):∃m,m<=104/\AT.lay ws 2000 m t b:=by
 obtain⟨hw,D,m,h1,R,h2,h3⟩:=NG g W T ho hl
 have len:=T.len
 have wl:=W.len
 exact⟨m,h1,HX t b D (2^101) R (o_ _) (by decide) h2 T.ok hw h3 (by omega)⟩
def LA(ws:List Int):bR (liV ws) (liV ws)=some true:=by
 have:wfV 60 (liV ws)=true:=by
  show bN 59 (ws.map .int)=true
  exact j4 λv hv=>by obtain⟨w,_,rfl⟩:=OU.mp hv;rfl
 rw[Dq this this,j5 60 _ this]
def Oe(l:List Nat)(f:Nat->Bx):bR (.lst (l.map λk=>bV (f k))) (.lst (l.map λk=>bV (f k)))=some true:=by
 have:wfV 60 (.lst (l.map λk=>bV (f k)))=true:=by
  show bN 59 (l.map λk=>bV (f k))=true
  exact j4 λv hv=>by obtain⟨w,_,rfl⟩:=OU.mp hv;exact Od _ 57
 rw[Dq this this,j5 60 _ this]
def lwB(b:Bx):Bool:=!decide (b.w<b.h)
def kx{b:Bx}{n:Nat}(hb:b.Ok)(hs:b.Sz n)(h:n<=8000):dE.G [bV b]=.ok (.val (.str (wy (lwB b)))) []:=by
 have cb:=eT hb
 have il:=wx hs.w hs.h (by omega) (by omega)
 have ib:(bV b).items=some [fV b.l,fV b.t,fV b.w,fV b.h]:=rfl
 unfold dE lwB
 rw[aL]
 unfold l8
 by_cases hl:b.w<b.h
 ·rw[J_ hl] at il ⊢
  simp![cb,ib,il]
  rfl
 ·rw[B_ hl] at il ⊢
  simp![cb,ib,il]
  rfl
def Bd(m B:Nat)(b:Bx)(n:Nat):Prop:=∃D A,Rp D A B b/\B<=A/\1<=A/\(A+n*B)*(D*2^(m*n))<2^2000
def Bd.ok{m B n:Nat}{b:Bx}(h:Bd m B b n):b.Ok:=by
 obtain⟨D,A,r,_⟩:=h
 exact r.ok
def Bd.sz{m B n:Nat}{b:Bx}(h:Bd m B b n):b.Sz 2000:=by
 obtain⟨D,A,r,hBA,hA,hq⟩:=h
 have hD1:1<=2^(m*n):=Nat.one_le_two_pow
 have z1:A*D<=(A+n*B)*(D*2^(m*n)):=OF (by omega) (Nat.le_mul_of_pos_right _ hD1)
 have z2:D<=A*D:=Qs _ hA
 have z3:B*D<=A*D:=O4 _ hBA
 exact r.sz (by omega) (by omega) (by omega)
def Bd.part{m B n k:Nat}{b c:Bx}{way:Str}{ws:List Int}(h:Bd m B b n)(hw:∀w∈ws,1<=w)(hS:ws.sum<2^m)(hc:c∈aD b way ws)(hk:k<n):Bd m B c k:=by
 obtain⟨D,A,r,hBA,hA,hq⟩:=h
 have hT:ws.sum.toNat<=2^m:=by
  have h4:((2^m:Nat):Int)=(2:Int)^m:=by push_cast;rfl
  rw[<- h4] at hS
  generalize 2^m=X at hS ⊢
  clear hq
  omega
 refine⟨D*ws.sum.toNat,A+B,r.parts hw hc,by omega,by omega,Pb (OF ?_ ?_) hq⟩
 ·have:(k+1)*B<=n*B:=O4 _ hk
  rw[Nat.add_mul,Nat.one_mul] at this
  omega
 ·rw[Qu]
  refine O8 _ ?_
  have e:2^m*2^(m*k)=2^(m*(k+1)):=by rw[<- Pm];congr 1;rw[Nat.mul_add,Nat.mul_one,Nat.add_comm]
  exact E_ (O4 _ hT) (by rw[e];exact O5 (by decide) (O8 _ hk))
def lK(b:Bx)(w:Bool)(x y:Int):aD b (wy w) [x,y]=[cZ b w (x+y) 0 x,cZ b w (x+y) x y]:=by
 rw[zO]
 simp [frm]
def zC(w:Bool):wy w="across" \/ wy w="down":=by cases w;exact .inr rfl;exact .inl rfl
def yV{m:Nat}{S:Int}(h0:0<=S)(h:S<2^m):Sm m S:=by
 show S.natAbs<2^m
 have h4:((2^m:Nat):Int)=(2:Int)^m:=by push_cast;rfl
 rw[<- h4] at h
 omega
def xh{b:Bx}{xs:List Int}{m B n i:Nat}(hb:Bd m B b n)(hm:m<=104)(h1:1<=(xs.take i).sum)(h2:1<=(xs.drop i).sum)(hS:(xs.take i).sum+(xs.drop i).sum<2^m):dg.G [bV b,liV xs,.int (i:Nat)]=.ok (.new (.lst [bV (cZ b (lwB b) ((xs.take i).sum+(xs.drop i).sum) 0 (xs.take i).sum),bV (cZ b (lwB b) ((xs.take i).sum+(xs.drop i).sum) (xs.take i).sum (xs.drop i).sum)])) []:=by
 have lw:=kx hb.ok hb.sz (by decide)
 have pe:=nU (way:=wy (lwB b)) (ws:=[(xs.take i).sum,(xs.drop i).sum]) (m:=m) hb.ok hb.sz (zC _) (by simp) (λw hw=>by
  rcases I_.mp hw with rfl |hw
  ·exact h1
  ·rw[OL.mp hw];exact h2) (by
  rw[show [(xs.take i).sum,(xs.drop i).sum].sum=(xs.take i).sum+(xs.drop i).sum from by simp]
  exact yV (by omega) hS) (by omega) (by show 2<=40;decide)
 rw[lK] at pe
 simp only[v_,OA] at pe
 have ct:=jl (xs.map Val.int) i
 have cd:=kH (xs.map Val.int) i
 rw[<- Pa] at ct
 rw[<- Pz] at cd
 have m1:=bu (xs.take i)
 have m2:=bu (xs.drop i)
 unfold dg
 rw[aL]
 unfold jG
 unfold liV
 generalize (xs.take i).map Val.int=w1 at *
 generalize (xs.drop i).map Val.int=w2 at *
 generalize xs.map Val.int=w3 at *
 generalize bV (cZ b (lwB b) ((xs.take i).sum+(xs.drop i).sum) 0 (xs.take i).sum)=b1 at *
 generalize bV (cZ b (lwB b) ((xs.take i).sum+(xs.drop i).sum) (xs.take i).sum (xs.drop i).sum)=b2 at *
 generalize bV b=bv at *
 generalize wy (lwB b)=yy at *
 simp![lw,gv,ct,cd,m1,m2,pe]
def CF{b:Bx}:atI [Val.str "down",.str "across"] (if decide (b.h.num*(b.w.den:Int)<=b.w.num*(b.h.den:Int))=true then 1 else 0)=some (.str (wy (lwB b))):=by
 have e:decide (b.h.num*(b.w.den:Int)<=b.w.num*(b.h.den:Int))=lwB b:=by
  unfold lwB
  rw[show decide (b.h.num*(b.w.den:Int)<=b.w.num*(b.h.den:Int))=decide (b.h<=b.w) from P_.mpr (Rat.le_iff b.h b.w).symm]
  by_cases h:b.w<b.h
  ·rw[J_ h,B_ (Rat.not_le.mpr h)];rfl
  ·rw[B_ h,J_ (Rat.not_lt.mp h)];rfl
 rw[e]
 cases lwB b
 ·exact dD (by decide) rfl
 ·exact dD (by decide) rfl
def rm{xs:List Int}{k:Nat}:aG.G (.int 3) (.int (xs.take k).sum)=.val (.int (3*(xs.take k).sum)):=aZ (CMulA.left (by decide) (by decide))
theorem sd{xs:List Int}(hs:1<=xs.sum):∀f k,k+f=xs.length->(xWh (qOf (pOp bLt (pOp aG (ah 3) (pFn bH (aa (pSl (af 0) oN (oS (af 1))) ag))) (pFn bH (aa (af 0) ag)))) cp).G [.sh (liV xs),.sh (.int (k:Nat))]=.nx [.sh (liV xs),.sh (.int (thN xs f k:Nat))]
 |
  f,k,hf=>by
  have ct:=jl (xs.map Val.int) k
  rw[<- Pa] at ct
  have m1:=bu xs
  have m2:=bu (xs.take k)
  have fc:=rm (xs:=xs) (k:=k)
  rw[g9]
  by_cases hl:3*(xs.take k).sum<xs.sum
  ·cases f with
   |zero=>rw[OY (by omega)] at hl;omega
   |
    succ f=>
    have d1:=J_ hl
    have ih:=sd hs f (k+1) (by omega)
    have k1:((k:Nat):Int)+1=((k+1:Nat):Int):=by omega
    have bb:cp.G [.sh (liV xs),.sh (.int (k:Nat))]=.nx [.sh (liV xs),.sh (.int ((k+1:Nat):Int))]:=by
     unfold cp
     generalize liV xs=xv
     simp![k1]
    rw[thN,if_pos hl]
    unfold liV at ih bb ⊢
    generalize (xs.take k).map Val.int=w1 at *
    generalize xs.map Val.int=w2 at *
    simp![gv,ct,m1,m2,fc,d1,bb,ih]
  ·have d1:=B_ hl
   have e:thN xs f k=k:=by
    cases f with
    |zero=>rfl
    |succ f=>rw[thN,if_neg hl]
   rw[e]
   unfold liV
   generalize (xs.take k).map Val.int=w1 at *
   generalize xs.map Val.int=w2 at *
   simp![gv,ct,m1,m2,fc,d1]
def zo{xs:List Int}(h1:1<=xs.length)(hs:1<=xs.sum):bQ.G [liV xs]=.ok (.val (.int (aX xs:Nat))) []:=by
 have lo:=sd hs (xs.length-1) 1 (by omega)
 rw[show thN xs (xs.length-1) 1=aX xs from rfl,show ((1:Nat):Int)=1 from rfl] at lo
 unfold bQ
 rw[aL]
 unfold fQ
 generalize liV xs=xv at *
 simp![lo]
theorem rN{xs:List Int}{bv wv lv:Val}{p:PFx [false,false,false]}(hs:1<=xs.sum):∀f k,k+f=xs.length->(xWh (qOf (pOp bLt (pOp aG (ah 3) (pFn bH (aa (pSl (af 3) oN (oS (af 4))) ag))) (pFn bH (aa (af 3) ag)))) (fR p)).G [.sh bv,.sh wv,.sh lv,.sh (liV xs),.sh (.int (k:Nat)),.no,.no,.no]=.nx [.sh bv,.sh wv,.sh lv,.sh (liV xs),.sh (.int (thN xs f k:Nat)),.no,.no,.no]
 |
  f,k,hf=>by
  have ct:=jl (xs.map Val.int) k
  rw[<- Pa] at ct
  have m1:=bu xs
  have m2:=bu (xs.take k)
  have fc:=rm (xs:=xs) (k:=k)
  rw[g9]
  by_cases hl:3*(xs.take k).sum<xs.sum
  ·cases f with
   |zero=>rw[OY (by omega)] at hl;omega
   |
    succ f=>
    have d1:=J_ hl
    have ih:=rN (bv:=bv) (wv:=wv) (lv:=lv) (p:=p) hs f (k+1) (by omega)
    have k1:((k:Nat):Int)+1=((k+1:Nat):Int):=by omega
    have bb:(fR p).G [.sh bv,.sh wv,.sh lv,.sh (liV xs),.sh (.int (k:Nat)),.no,.no,.no]=.nx [.sh bv,.sh wv,.sh lv,.sh (liV xs),.sh (.int ((k+1:Nat):Int)),.no,.no,.no]:=by
     unfold fR
     generalize liV xs=xv
     simp![k1]
    rw[thN,if_pos hl]
    unfold liV at ih bb ⊢
    generalize (xs.take k).map Val.int=w1 at *
    generalize xs.map Val.int=w2 at *
    simp![gv,ct,m1,m2,fc,d1,bb,ih]
  ·have d1:=B_ hl
   have e:thN xs f k=k:=by
    cases f with
    |zero=>rfl
    |succ f=>rw[thN,if_neg hl]
   rw[e]
   unfold liV
   generalize (xs.take k).map Val.int=w1 at *
   generalize xs.map Val.int=w2 at *
   simp![gv,ct,m1,m2,fc,d1]
noncomputable def thT(ws:List Int):Nat->Bx->List Nat->AT
 |0,_,l=>.lf (l.headD 0)
 |N
  + 1,b,l=>if l.length=1 then .lf (l.headD 0) else .nd (lwB b) [thT ws N (cZ b (lwB b) (((l.map λk=>ws.getD k 0).take (aX (l.map λk=>ws.getD k 0))).sum+((l.map λk=>ws.getD k 0).drop (aX (l.map λk=>ws.getD k 0))).sum) 0 ((l.map λk=>ws.getD k 0).take (aX (l.map λk=>ws.getD k 0))).sum) (l.take (aX (l.map λk=>ws.getD k 0))),
  thT ws N (cZ b (lwB b) (((l.map λk=>ws.getD k 0).take (aX (l.map λk=>ws.getD k 0))).sum+((l.map λk=>ws.getD k 0).drop (aX (l.map λk=>ws.getD k 0))).sum) ((l.map λk=>ws.getD k 0).take (aX (l.map λk=>ws.getD k 0))).sum ((l.map λk=>ws.getD k 0).drop (aX (l.map λk=>ws.getD k 0))).sum) (l.drop (aX (l.map λk=>ws.getD k 0)))]
theorem jj{ws:List Int}{m B:Nat}(hm:m<=104)(hS:∀l:List Nat,(∀k∈l,k<ws.length)->l.length<=ws.length->wtA ws l<2^m)(hw:∀w∈ws,1<=w)(hn:ws.length<=40):∀(N:Nat) (l:List Nat) (b:Bx),l.length<=N->1<=l.length->l.length<=ws.length->(∀k∈l,k<ws.length)->(l.map λk=>ws.getD k 0).Pairwise (· >= ·)->Bd m B b l.length->
 (br N).G [bV b,itV l,liV (l.map λk=>ws.getD k 0),.glb "fewest_to_third"]=.ok (.val (atV (thT ws N b l))) []/\(cq N).G [bV b,liV ws,itV l]=.ok (.val (atV (thT ws N b l))) []/\(thT ws N b l).ok=true/\(thT ws N b l).lvs=l/\(thT ws N b l).dep<=l.length
 |0,l,b,h0,h1,_,_,_,_=>by omega
 |
  N+1,l,b,h0,h1,hl,hi,hde,hB=>by
  by_cases hl1:l.length=1
  ·obtain⟨k,rfl⟩:=List.length_eq_one_iff.mp hl1
   have a0:atI [Val.int (k:Nat)] 0=some (.int (k:Nat)):=dD (by decide) rfl
   have te:thT ws (N+1) b [k]=.lf k:=by rw[thT];exact if_pos rfl
   rw[te]
   refine⟨?_,?_,rfl,rfl,by simp [AT.dep]⟩
   ·show (PFx.of [false,false,false,false] 9 (b9 (br N))).G _=_
    rw[j6,show atV (.lf k)=.int (k:Nat) from rfl,show itV [k]=.lst [.int (k:Nat)] from rfl]
    unfold b9
    generalize bV b=bv
    generalize liV _=wv
    simp![a0]
   ·show (PFx.of [false,false,false] 8 (eD (cq N))).G _=_
    rw[j6,show atV (.lf k)=.int (k:Nat) from rfl,show itV [k]=.lst [.int (k:Nat)] from rfl]
    unfold eD
    generalize bV b=bv
    generalize liV _=wv
    simp![a0]
  ·have h2:2<=l.length:=by omega
   have te:thT ws (N+1) b l=.nd (lwB b) [thT ws N (cZ b (lwB b) (((l.map λk=>ws.getD k 0).take (aX (l.map λk=>ws.getD k 0))).sum+((l.map λk=>ws.getD k 0).drop (aX (l.map λk=>ws.getD k 0))).sum) 0 ((l.map λk=>ws.getD k 0).take (aX (l.map λk=>ws.getD k 0))).sum) (l.take (aX (l.map λk=>ws.getD k 0))),
    thT ws N (cZ b (lwB b) (((l.map λk=>ws.getD k 0).take (aX (l.map λk=>ws.getD k 0))).sum+((l.map λk=>ws.getD k 0).drop (aX (l.map λk=>ws.getD k 0))).sum) ((l.map λk=>ws.getD k 0).take (aX (l.map λk=>ws.getD k 0))).sum ((l.map λk=>ws.getD k 0).drop (aX (l.map λk=>ws.getD k 0))).sum) (l.drop (aX (l.map λk=>ws.getD k 0)))]:=by rw[thT,if_neg hl1]
   rw[te]
   have hp:∀k∈l,1<=ws.getD k 0:=λj hj=>by
    rw[Em,x_ (hi j hj)]
    exact hw _ (O0 _)
   have xl:(l.map λk=>ws.getD k 0).length=l.length:=l_ ..
   have xp:∀x∈l.map λk=>ws.getD k 0,1<=x:=λx hx=>by obtain⟨k,hk,rfl⟩:=OU.mp hx;exact hp k hk
   have xs1:=iA xp
   obtain⟨g1,g2⟩:=qU (xs:=l.map λk=>ws.getD k 0) (by omega) xp hde
   have ne:=zo (xs:=l.map λk=>ws.getD k 0) (by omega) (by omega)
   obtain⟨s0,lc0⟩:=so (ws:=ws) (l:=l) (by omega) hi
   have dlo:=rN (xs:=l.map λk=>ws.getD k 0) (bv:=bV b) (wv:=liV ws) (lv:=itV l) (p:=cq N) (by omega) ((l.map λk=>ws.getD k 0).length-1) 1 (by omega)
   rw[show thN (l.map λk=>ws.getD k 0) ((l.map λk=>ws.getD k 0).length-1) 1=aX (l.map λk=>ws.getD k 0) from rfl,show ((1:Nat):Int)=1 from rfl] at dlo
   have ht:∀i,∀j∈l.take i,j∈l:=λi j hj=>QI hj
   have hd:∀i,∀j∈l.drop i,j∈l:=λi j hj=>List.mem_of_mem_drop hj
   have wt:∀i,((l.map λk=>ws.getD k 0).take i).sum=wtA ws (l.take i):=λi=>by unfold wtA;rw[Pa]
   have wd:∀i,((l.map λk=>ws.getD k 0).drop i).sum=wtA ws (l.drop i):=λi=>by unfold wtA;rw[Pz]
   generalize hh:aX (l.map λk=>ws.getD k 0)=i at *
   have det:((l.take i).map λk=>ws.getD k 0).Pairwise (· >= ·):=by rw[Pa];exact hde.sublist (List.take_sublist _ _)
   have ded:((l.drop i).map λk=>ws.getD k 0).Pairwise (· >= ·):=by rw[Pz];exact hde.sublist (List.drop_sublist _ _)
   have lt:(l.take i).length=i:=by rw[Pk];omega
   have ld:(l.drop i).length=l.length-i:=P7 ..
   have p1:=iu (ws:=ws) (l:=l.take i) λj hj=>hp j (ht i j hj)
   have p2:=iu (ws:=ws) (l:=l.drop i) λj hj=>hp j (hd i j hj)
   have sp:wtA ws l=wtA ws (l.take i)+wtA ws (l.drop i):=by
    unfold wtA
    rw[<- List.sum_append,<- Oz,QA]
   have hs:=hS l hi hl
   have ct2:=xh (xs:=l.map λk=>ws.getD k 0) (i:=i) hB hm (by rw[wt];omega) (by rw[wd];omega) (by rw[wt,wd,<- sp];exact hs)
   have mt:(l.map λk=>ws.getD k 0).take i=(l.take i).map λk=>ws.getD k 0:=by rw[Pa]
   have md:(l.map λk=>ws.getD k 0).drop i=(l.drop i).map λk=>ws.getD k 0:=by rw[Pz]
   have pm:∀c∈[cZ b (lwB b) (wtA ws (l.take i)+wtA ws (l.drop i)) 0 (wtA ws (l.take i)),cZ b (lwB b) (wtA ws (l.take i)+wtA ws (l.drop i)) (wtA ws (l.take i)) (wtA ws (l.drop i))],∀k,k<l.length->Bd m B c k:=λc hc k hk=>hB.part (way:=wy (lwB b)) (ws:=[wtA ws (l.take i),wtA ws (l.drop i)]) (λw hw=>by
    rcases I_.mp hw with rfl |hw
    ·omega
    ·rw[OL.mp hw];omega) (by rw[show [wtA ws (l.take i),wtA ws (l.drop i)].sum=wtA ws l from by rw[sp];simp];exact hs) (by rw[lK];exact hc) hk
   rw[wt,wd] at ct2 ⊢
   have lpe:=sH (way:=wy (lwB b)) (ws:=[wtA ws (l.take i),wtA ws (l.drop i)]) (m:=m) hB.sz (zC _) (λw hw=>by
    rcases I_.mp hw with rfl |hw
    ·omega
    ·rw[OL.mp hw];omega) (by simp;omega) (by rw[show [wtA ws (l.take i),wtA ws (l.drop i)].sum=wtA ws l from by rw[sp];simp];exact yV (by omega) hs) (by omega) (by show 2<=1000;decide)
   rw[lK] at lpe
   simp only[v_,OA] at lpe
   obtain⟨a1,a2,a3,a4,a5⟩:=jj hm hS hw hn N (l.take i) _ (by omega) (by omega) (by omega) (λj hj=>hi j (ht i j hj)) det (pm _ (p_ ..) _ (by omega))
   obtain⟨b1,b2,b3,b4,b5⟩:=jj hm hS hw hn N (l.drop i) _ (by omega) (by omega) (by omega) (λj hj=>hi j (hd i j hj)) ded (pm _ (m_ _ (p_ ..)) _ (by omega))
   have lw:=kx hB.ok hB.sz (by decide)
   have wp:=CF (b:=b)
   have hsz:=hB.sz
   have c1:aG.G (.int b.w.num) (.int (b.h.den:Nat))=.val (.int (b.w.num*(b.h.den:Nat))):=aZ (CMulA.of hsz.w.top hsz.h.bot (by decide) (by decide))
   have c2:aG.G (.int b.h.num) (.int (b.w.den:Nat))=.val (.int (b.h.num*(b.w.den:Nat))):=aZ (CMulA.of hsz.h.top hsz.w.bot (by decide) (by decide))
   generalize thT ws N (cZ b (lwB b) (wtA ws (l.take i)+wtA ws (l.drop i)) 0 (wtA ws (l.take i))) (l.take i)=T1 at *
   generalize thT ws N (cZ b (lwB b) (wtA ws (l.take i)+wtA ws (l.drop i)) (wtA ws (l.take i)) (wtA ws (l.drop i))) (l.drop i)=T2 at *
   have te2:atV (.nd (lwB b) [T1,T2])=.tup [.str (wy (lwB b)),.tup [atV T1,atV T2]]:=rfl
   rw[te2]
   generalize cZ b (lwB b) (wtA ws (l.take i)+wtA ws (l.drop i)) 0 (wtA ws (l.take i))=B1 at *
   generalize cZ b (lwB b) (wtA ws (l.take i)+wtA ws (l.drop i)) (wtA ws (l.take i)) (wtA ws (l.drop i))=B2 at *
   have ctl:=jl (l.map λk:Nat=>Val.int k) i
   have cdl:=kH (l.map λk:Nat=>Val.int k) i
   rw[<- Pa] at ctl
   rw[<- Pz] at cdl
   have ctx:=jl ((l.map λk=>ws.getD k 0).map Val.int) i
   have cdx:=kH ((l.map λk=>ws.getD k 0).map Val.int) i
   rw[<- Pa,mt] at ctx
   rw[<- Pz,md] at cdx
   have n1:(((l.length:Nat):Int)==1)=false:=by rw[D_];omega
   have ll:((l.map λk:Nat=>Val.int k).length:Nat)=l.length:=l_ ..
   have lz:((l.map λk=>ws.getD k 0).map Val.int).length<=16777216:=by rw[l_,xl];omega
   have w1:dC (((l.take i).map λk=>ws.getD k 0).map Val.int)=some ((l.take i).map λk=>ws.getD k 0):=bu _
   have w2:dC (((l.drop i).map λk=>ws.getD k 0).map Val.int)=some ((l.drop i).map λk=>ws.getD k 0):=bu _
   have w3:((l.take i).map λk=>ws.getD k 0).sum=wtA ws (l.take i):=rfl
   have w4:((l.drop i).map λk=>ws.getD k 0).sum=wtA ws (l.drop i):=rfl
   have nq:(("fewest_to_third" : Str) == "fewest_to_third")=true:=by decide
   have nq0:(("fewest_to_third" : Str) == "nearest_to_half")=false:=by decide
   unfold itV at a1 a2 b1 b2 dlo ⊢
   unfold liV at a1 a2 b1 b2 ne ct2 lc0 dlo ⊢
   refine⟨?_,?_,?_,?_,?_⟩
   ·show (PFx.of [false,false,false,false] 9 (b9 (br N))).G _=_
    rw[j6]
    unfold b9
    clear dlo
    generalize bV b=bv at *
    generalize bV B1=bv1 at *
    generalize bV B2=bv2 at *
    generalize atV T1=tv1 at *
    generalize atV T2=tv2 at *
    generalize wy (lwB b)=yy at *
    generalize ((l.take i).map λk=>ws.getD k 0).map Val.int=x1 at *
    generalize ((l.drop i).map λk=>ws.getD k 0).map Val.int=x2 at *
    generalize (l.map λk=>ws.getD k 0).map Val.int=x0 at *
    generalize ((l.take i).map λk:Nat=>Val.int k)=l1 at *
    generalize ((l.drop i).map λk:Nat=>Val.int k)=l2 at *
    generalize (l.map λk:Nat=>Val.int k)=l0 at *
    simp![ll,n1,nq,nq0,ne,ct2,gv,ctl,cdl,ctx,cdx,a1,b1,lw]
   ·show (PFx.of [false,false,false] 8 (eD (cq N))).G _=_
    rw[j6]
    unfold eD
    have eb:bV b=.tup [fV b.l,fV b.t,fV b.w,fV b.h]:=rfl
    rw[eb] at lpe dlo ⊢
    generalize bV B1=bv1 at *
    generalize bV B2=bv2 at *
    generalize atV T1=tv1 at *
    generalize atV T2=tv2 at *
    generalize wy (lwB b)=yy at *
    generalize ((l.take i).map λk=>ws.getD k 0).map Val.int=x1 at *
    generalize ((l.drop i).map λk=>ws.getD k 0).map Val.int=x2 at *
    generalize (l.map λk=>ws.getD k 0).map Val.int=x0 at *
    generalize ((l.take i).map λk:Nat=>Val.int k)=l1 at *
    generalize ((l.drop i).map λk:Nat=>Val.int k)=l2 at *
    generalize (l.map λk:Nat=>Val.int k)=l0 at *
    generalize ws.map Val.int=wv at *
    simp![ll,n1,bZ,inS,lc0,lz,dlo,ve,c1,c2,wp,gv,ctx,cdx,w1,w2,w3,w4,lpe,ctl,cdl,a2,b2]
   ·simp [AT.ok,AT.okL,a3,b3]
   ·rw[AT.lvs,AT.lvsL,AT.lvsL,AT.lvsL,a4,b4,OG,QA]
   ·simp [AT.dep,AT.depL]
    omega
theorem mX{ws us:List Int}{r:Nat->Nat}:∀(N:Nat) (l:List Nat) (b:Bx),(∀k∈l,us.getD (r k) 0=ws.getD k 0)->(∀k∈l,1<=ws.getD k 0)->(l.map λk=>ws.getD k 0).Pairwise (· >= ·)->1<=l.length->thT us N b (l.map r)=(thT ws N b l).ren r
 |
  0,l,b,_,_,_,h1=>by
  cases l with
  |nil=>simp at h1
  |cons k l=>rfl
 |
  N+1,l,b,h,hp,hde,h1=>by
  have e:((l.map r).map λk=>us.getD k 0)=l.map λk=>ws.getD k 0:=by
   rw[O_]
   exact Pj λk hk=>h k hk
  rw[thT,thT,e,l_]
  by_cases hl1:l.length=1
  ·rw[if_pos hl1,if_pos hl1]
   cases l with
   |nil=>simp at h1
   |cons k l=>rfl
  ·rw[if_neg hl1,if_neg hl1]
   have xl:(l.map λk=>ws.getD k 0).length=l.length:=l_ ..
   have xp:∀x∈l.map λk=>ws.getD k 0,1<=x:=λx hx=>by obtain⟨k,hk,rfl⟩:=OU.mp hx;exact hp k hk
   obtain⟨g1,g2⟩:=qU (xs:=l.map λk=>ws.getD k 0) (by omega) xp hde
   generalize aX (l.map λk=>ws.getD k 0)=i at *
   have ht:∀j∈l.take i,j∈l:=λj hj=>QI hj
   have hd:∀j∈l.drop i,j∈l:=λj hj=>List.mem_of_mem_drop hj
   have det:((l.take i).map λk=>ws.getD k 0).Pairwise (· >= ·):=by rw[Pa];exact hde.sublist (List.take_sublist _ _)
   have ded:((l.drop i).map λk=>ws.getD k 0).Pairwise (· >= ·):=by rw[Pz];exact hde.sublist (List.drop_sublist _ _)
   rw[show (l.map r).take i=(l.take i).map r from by rw[Pa],show (l.map r).drop i=(l.drop i).map r from by rw[Pz],AT.ren,AT.renL,AT.renL,AT.renL]
   rw[mX N (l.take i) _ (λk hk=>h k (ht k hk)) (λk hk=>hp k (ht k hk)) det (by rw[Pk];omega),mX N (l.drop i) _ (λk hk=>h k (hd k hk)) (λk hk=>hp k (hd k hk)) ded (by rw[P7];omega)]
def bndN{ws:List Int}{b:Bx}(g:Good b)(W:WOk ws):∃m,m<=104/\Bd m (2^101) b ws.length/\∀l:List Nat,(∀k∈l,k<ws.length)->l.length<=ws.length->wtA ws l<2^m:=by
 obtain⟨D,hD,R⟩:=Dr g
 have hin:∀k,k<ws.length->ws.getD k 0∈ws:=λk hk=>by
  rw[Em,x_ hk]
  exact O0 _
 have wl:=W.len
 have key:∀m,m*ws.length<=1218->Bd m (2^101) b ws.length:=λm h1=>by
  refine⟨D,2^101,R,o_ _,by decide,?_⟩
  have a1:2^101+ws.length*2^101<=2^107:=by
   have h1:=O4 (2^101) (show ws.length<=40 by omega)
   have h2:2^107=64*2^101:=by decide
   rw[h2]
   generalize 2^101=X at *
   omega
  have a2:2^(m*ws.length)<=2^1218:=O5 (by decide) h1
  refine Pb (OF a1 (OF (P4 hD) a2)) ?_
  rw[<- Pm,<- Pm]
  exact Nat.pow_lt_pow_right (by decide) (by decide)
 by_cases h9:10<ws.length
 ·refine⟨29,by decide,key 29 (by omega),λl hl hn=>?_⟩
  have:=jy (M:=8388608) λk hk=>W.few h9 _ (hin k (hl k hk))
  have:(2:Int)^29=536870912:=by decide
  omega
 ·refine⟨104,by decide,key 104 (by omega),λl hl hn=>?_⟩
  have:=jy (M:=1000000000000000000000000000000) λk hk=>(W.wt _ (hin k (hl k hk))).2
  have:(2:Int)^104=20282409603651670423947251286016:=by decide
  omega
def og{ws:List Int}{b:Bx}{t:Val}(hb:b.Ok)(W:WOk ws)(h:(br 42).G [bV b,itV (ar ws),liV ((ar ws).map λk=>ws.getD k 0),.glb "fewest_to_third"]=.ok (.val t) []):bq.G [bV b,liV ws]=.ok (.val t) []:=by
 have wl:=W.len
 have wp:=W.pos
 have cb:=eT hb
 have cw:=rF (ws:=ws) (by intro z;rw[z] at wp;exact absurd wp (by decide)) (λw hw=>(W.wt w hw).1) wl
 have kf:=Lb ws (by omega)
 have lf:(ar ws).length=ws.length:=by rw[(bD ws).perm.length_eq,Ox]
 obtain⟨s,lc⟩:=so (ws:=ws) (l:=ar ws) (by omega) (λk hk=>OD.mp ((bD ws).perm.mem_iff.mp hk))
 have ll:((ws.map Val.int).length:Nat)=ws.length:=l_ ..
 have lz:(((ar ws).map λk=>ws.getD k 0).map Val.int).length<=16777216:=by rw[l_,l_];omega
 have bf:bj.G [liV ws]=.ok (.new (itV (ar ws))) []:=by
  unfold bj
  rw[aL]
  unfold eN
  unfold liV itV
  generalize (ar ws).map (λi:Nat=>Val.int (i:Nat))=fv at *
  generalize ws.map Val.int=wv at *
  simp![ll,kf]
 unfold bq
 rw[aL]
 unfold jf
 unfold itV at h bf
 unfold liV at h lc bf ⊢
 generalize ((ar ws).map λk=>ws.getD k 0).map Val.int=xv at *
 generalize (ar ws).map (λi:Nat=>Val.int (i:Nat))=fv at *
 generalize ws.map Val.int=wv at *
 generalize bV b=bv at *
 simp![cb,cw,bf,bZ,inS,lc,lz,h]
def tX{ws:List Int}{b:Bx}{t:Val}(h:bq.G [bV b,liV ws]=.ok (.val t) []):cx.G [.str "thirds",bV b,liV ws]=.ok (.val t) []:=by
 have n1:A2.G (.str "thirds") (.tup [.str "across",.str "down",.str "halves",.str "rows",.str "greatest",.str "thirds"])=.val (.bl false):=rfl
 have ck:de.G [.str "thirds"]=.ok (.val .non) []:=by
  unfold de
  rw[aL]
  unfold jo
  simp![n1]
 have e0:bR (.str "thirds") (.str "halves")=some false:=by rw[L3.eq_str (by decide) (by decide)];exact OO some (by decide)
 have e1:bR (.str "thirds") (.str "rows")=some false:=by rw[L3.eq_str (by decide) (by decide)];exact OO some (by decide)
 have e2:bR (.str "thirds") (.str "greatest")=some false:=by rw[L3.eq_str (by decide) (by decide)];exact OO some (by decide)
 have e3:bR (.str "thirds") (.str "thirds")=some true:=by rw[L3.eq_str (by decide) (by decide)];exact OO some (by decide)
 unfold cx
 rw[aL]
 unfold kB
 generalize liV ws=wv at *
 generalize bV b=bv at *
 simp![ck,e0,e1,e2,e3,h]
def MP{ws:List Int}{b:Bx}{t:Val}{r:Val}(h:cx.G [.str "thirds",bV b,liV ws]=.ok (.val t) [])(k:dM.G [bV b,liV ws,t]=.ok (.new r) []):du.G [.str "thirds",bV b,liV ws]=.ok (.new r) []:=by
 unfold du
 rw[aL]
 unfold nN
 generalize liV ws=wv at *
 generalize bV b=bv at *
 simp![h,k]
def n9{ws:List Int}{b:Bx}(g:Good b)(W:WOk ws):∃t:AT,t=thT ws 42 b (ar ws)/\bq.G [bV b,liV ws]=.ok (.val (atV t)) []/\(cq 42).G [bV b,liV ws,itV (ar ws)]=.ok (.val (atV t)) []/\t.dep<=40/\(∀k,k∈t.lvs ↔ k<ws.length)/\t.lvs.Nodup/\du.G [.str "thirds",bV b,liV ws]=.ok (.new (.lst ((List.range ws.length).map λk=>bV (bxO (AT.bx ws t b) k)))) []:=by
 obtain⟨mm,hm,B,hS⟩:=bndN g W
 have wl:=W.len
 have wp:=W.pos
 have F:=bD ws
 have lf:(ar ws).length=ws.length:=by rw[F.perm.length_eq,Ox]
 have mf:∀k,k∈ar ws ↔ k<ws.length:=λk=>by rw[F.perm.mem_iff];exact OD
 obtain⟨t1,t2,t3,t4,t5⟩:=jj (B:=2^101) hm hS (λw hw=>(W.wt w hw).1) wl 42 (ar ws) b (by omega) (by omega) (by omega) (λk hk=>(mf k).mp hk) (nX ws) (by rw[lf];exact B)
 refine⟨_,rfl,og g.ok W t1,t2,by omega,λk=>by rw[t4];exact mf k,by rw[t4];exact F.perm.nodup_iff.mpr P8,?_⟩
 have h2:=tX (og g.ok W t1)
 generalize thT ws 42 b (ar ws)=t at *
 have T:TOk t (ar ws):=⟨t3,λk=>by rw[t4],t5,by rw[t4]⟩
 obtain⟨m',hm',hy⟩:=Nv g W T mf lf
 have l2:=CA (ws:=ws) (n:=2000) (m:=m') (by omega) g.ok (by intro z;rw[z] at wp;exact absurd wp (by decide)) (λw hw=>(W.wt w hw).1) wl t3 (λk=>by rw[t4];exact mf k) (by rw[t4];exact F.perm.nodup_iff.mpr P8) (by rw[t4];exact lf) (by omega) hy
 exact MP h2 l2
def WOk.rev{ws:List Int}(W:WOk ws):WOk ws.reverse:=⟨by rw[Ph];exact W.pos,by rw[Ph];exact W.len,λw hw=>W.wt w (List.mem_reverse.mp hw),λh w hw=>W.few (by rw[Ph] at h;exact h) w (List.mem_reverse.mp hw)⟩
def nM{α:Type}(n:Nat)(f:Nat->α):((List.range n).map f).reverse=(List.range n).map λk=>f (n-1-k):=by
 refine List.ext_getElem (by simp) λi h1 h2=>?_
 simp
def BF(ws:List Int):srP (cJ ws)=(ar ws).map (kyF ws):=by
 refine m5 (k:=λx=>x) (yq (mO ws)) (PY.mpr (bD ws).up) ((qP _).trans ?_)
 unfold cJ
 exact ((bD ws).perm.map _).symm
def HI{ws:List Int}(hl:ws.length<=1000):∃s,lcV (gtN 0).G qY.G (bC (aa (pOp dN (ah 0) (pOp bIx (af 1) (af 0))) (aa (af 0) ag))).G (rgV ws.length) [] [.no,.sh (liV ws)]=.ok ((cJ ws).map dn) [s,.sh (liV ws)]:=by
 obtain⟨e',⟨s,rfl,_⟩,lc⟩:=c9 (g:=(gtN 0).G) (F:=(bC (aa (pOp dN (ah 0) (pOp bIx (af 1) (af 0))) (aa (af 0) ag))).G) (λk:Nat=>Val.int k) (λk:Nat=>dn (kyF ws k)) (λe=>∃s:Sl,e=[s,.sh (liV ws)]/\s.pl=true) (List.range ws.length) [] [.no,.sh (liV ws)] ⟨.no,rfl,rfl⟩ (by
  rintro k hk _ ⟨s,rfl,hs⟩
  have h1:=OD.mp hk
  have a1:atI (ws.map Val.int) (k:Nat)=some (.int (ws.getD k 0)):=dD (by omega) (by
   rw[L_]
   show (ws[k]?).map _=_
   rw[Em,x_ h1]
   rfl)
  have z0:∀x:Int,0-x=-x:=λx=>by omega
  refine⟨[.sh (.int (k:Nat)),.sh (liV ws)],.val (dn (kyF ws k)),[.sh (.int (k:Nat)),.sh (liV ws)],?_,?_,rfl,_,rfl,rfl⟩
  ·generalize liV ws=wv
   simp![hs]
  ·unfold liV dn kyF
   simp![a1,z0]) (by rw[OC,Ox];omega)
 rw[OH] at lc
 refine⟨s,lc.trans ?_⟩
 unfold cJ
 rw[O_]
 rfl
def HH{ws:List Int}(hl:ws.length<=1000):∃s1 s2,lcV (gtT 2 (aO (gtN 0) (aO (gtN 1) cX))).G qY.G (af 1).G ((srP (cJ ws)).map dn) [] [.no,.no]=.ok ((ar ws).map λi:Nat=>Val.int (i:Nat)) [s1,s2]:=by
 rw[BF]
 have lf:(ar ws).length=ws.length:=by rw[(bD ws).perm.length_eq,Ox]
 obtain⟨e',⟨s1,s2,rfl,_,_⟩,lc⟩:=c9 (g:=(gtT 2 (aO (gtN 0) (aO (gtN 1) cX))).G) (F:=(af 1).G) (λk:Nat=>dn (kyF ws k)) (λk:Nat=>Val.int (k:Nat)) (λe=>∃s1 s2:Sl,e=[s1,s2]/\s1.pl=true/\s2.pl=true) (ar ws) [] [.no,.no] ⟨.no,.no,rfl,rfl,rfl⟩ (by
  rintro k hk _ ⟨s1,s2,rfl,h1,h2⟩
  refine⟨[.sh (.int (kyF ws k).1),.sh (.int (k:Nat))],.val (.int (k:Nat)),[.sh (.int (kyF ws k).1),.sh (.int (k:Nat))],?_,?_,rfl,_,_,rfl,rfl,rfl⟩
  ·have e:dn (kyF ws k)=.tup [.int (kyF ws k).1,.int (k:Nat)]:=rfl
   rw[e]
   simp![h1,h2]
  ·simp![gy]) (by rw[OC];omega)
 rw[OH] at lc
 refine⟨s1,s2,?_⟩
 rw[O_]
 exact lc
def BA(r:SR3):Prop:=qT [false] r=.ok (.val (.bl true)) []
def HS{r:Int}:∃m:Int,1<=m/\m<=40/\atI [Val.int 9,.int 40] (if (r==0)=true then 1 else 0)=some (.int m):=by
 by_cases h:r=0
 ·exact⟨40,by decide,by decide,by rw[h];exact dD (by decide) rfl⟩
 ·have e:(r==0)=false:=by rw[D_];exact h
  exact⟨9,by decide,by decide,by rw[e];exact dD (by decide) rfl⟩
def IU(ns:List Int)(hl:ns.length<=63):pz.G [.kl (ns.map .int)]=.ok (.val (.bl true)) []:=by
 unfold pz
 rw[vB rfl]
 show BA (vO.G [.sh (.kl (ns.map .int)),.no,.no,.no,.no,.no,.no])
 unfold vO
 obtain⟨a,e0⟩:=mU (ns:=ns) (k:=55) (by omega)
 refine aJ (λe=>e=[.sh (.kl (ns.map .int)),.ow (fdV a 0 55),.no,.no,.no,.no,.no]) ⟨_,by simp![e0],rfl⟩ ?_
 rintro _ rfl
 obtain⟨b,a1,c1,g,e1⟩:=DL a 0 55
 refine aJ (λe=>e=[.sh (.kl (ns.map .int)),.ow (fdV a1 c1 55),.sh (bV b),.no,.no,.no,.no]) ⟨_,by simp![e1],rfl⟩ ?_
 rintro _ rfl
 obtain⟨r,a2,c2,e2,_,_⟩:=aA (a:=a1) (b:=c1) (k:=55) (m:=6) (by decide) (sm8 (by decide))
 obtain⟨m,m1,m2,pm⟩:=HS (r:=r)
 obtain⟨ws,p1,p2,p3,p4,p5⟩:=w9 (ns:=ns) (at_:=0) (most:=m) (by decide) ⟨m1,m2⟩
 have W:WOk ws:=⟨p1,by omega,p3,λh=>p4 (by omega)⟩
 refine aJ (λe=>e=[.sh (.kl (ns.map .int)),.ow (fdV a2 c2 55),.sh (bV b),.sh (liV ws),.no,.no,.no]) ⟨_,by
  generalize liV ws=wv at *
  generalize bV b=bv at *
  generalize fdV a1 c1 55=f1 at *
  generalize fdV a2 c2 55=f2 at *
  simp![e2,pm,p5],rfl⟩ ?_
 rintro _ rfl
 have wl:=W.len
 have wp:=W.pos
 have ll:((ws.map Val.int).length:Nat)=ws.length:=l_ ..
 refine aJ (λe=>e=[.sh (.kl (ns.map .int)),.ow (fdV a2 c2 55),.sh (bV b),.sh (liV ws),.sh (liV ws),.no,.no]) ⟨_,by
  unfold liV
  generalize ws.map Val.int=wv at *
  generalize bV b=bv at *
  generalize fdV a2 c2 55=f2 at *
  simp![gy],rfl⟩ ?_
 rintro _ rfl
 obtain⟨s0,lc1⟩:=HI (ws:=ws) (by omega)
 obtain⟨s1,s2,lc2⟩:=HH (ws:=ws) (by omega)
 have kl:(cJ ws).length=ws.length:=by unfold cJ;rw[l_,Ox]
 have ks:=F8 (cJ ws) (mO ws) (by omega)
 have lk:((cJ ws).map dn).length<=16777216:=by rw[l_];omega
 have lf:(ar ws).length=ws.length:=by rw[(bD ws).perm.length_eq,Ox]
 have lo:((ar ws).map λi:Nat=>Val.int (i:Nat)).length<=16777216:=by rw[l_];omega
 have rg:gO [.int (ws.length:Nat)]=some (rgV ws.length):=m9 (by omega)
 refine aJ (λe=>e=[.sh (.kl (ns.map .int)),.ow (fdV a2 c2 55),.sh (bV b),.sh (liV ws),.sh (liV ws),.sh (itV (ar ws)),.no]) ⟨_,by
  unfold liV at lc1 ⊢
  unfold itV
  generalize (cJ ws).map dn=kv at *
  generalize (srP (cJ ws)).map dn=sv at *
  generalize (ar ws).map (λi:Nat=>Val.int (i:Nat))=fv at *
  generalize ws.map Val.int=wv at *
  generalize bV b=bv at *
  generalize fdV a2 c2 55=f2 at *
  simp![ll,rg,bZ,inS,lc1,lk,ks,lc2,lo],rfl⟩ ?_
 rintro _ rfl
 obtain⟨t,et,h1,h2,td,tm,tn,h3⟩:=n9 g W
 refine aJ (λe=>e=[.sh (.kl (ns.map .int)),.ow (fdV a2 c2 55),.sh (bV b),.sh (liV ws),.sh (liV ws),.sh (itV (ar ws)),.sh (atV t)]) ⟨_,by
  generalize liV ws=wv at *
  generalize itV (ar ws)=fv at *
  generalize bV b=bv at *
  generalize atV t=tv at *
  generalize fdV a2 c2 55=f2 at *
  simp![h2],rfl⟩ ?_
 rintro _ rfl
 have h4:=tX h1
 have eqt:bR (atV t) (atV t)=some true:=E4 t (by omega) λ_ _=>rfl
 have ew:=LA ws
 refine aJ (λe=>e=[.sh (.kl (ns.map .int)),.ow (fdV a2 c2 55),.sh (bV b),.sh (liV ws),.sh (liV ws),.sh (itV (ar ws)),.sh (atV t)]) ⟨_,by
  generalize liV ws=wv at *
  generalize itV (ar ws)=fv at *
  generalize bV b=bv at *
  generalize atV t=tv at *
  generalize fdV a2 c2 55=f2 at *
  simp![h1,h4,eqt,ew],rfl⟩ ?_
 rintro _ rfl
 have sl:=Kk ws (by omega)
 have ls:=xW (ddI ws)
 by_cases hd:(ddI ws).length<ws.length
 ·have d1:decide (((ddI ws).length:Int)<((ws.length:Nat):Int))=true:=J_ (by omega)
  unfold BA
  unfold liV
  generalize itV (ar ws)=fv at *
  generalize ddI ws=dw at *
  generalize ws.map Val.int=wv at *
  generalize bV b=bv at *
  generalize atV t=tv at *
  generalize fdV a2 c2 55=f2 at *
  simp![sl,ls,ll,d1,vU]
 ·have d1:decide (((ddI ws).length:Int)<((ws.length:Nat):Int))=false:=B_ (by omega)
  have nd:∀i j,i<j->j<ws.length->ws.getD i 0≠ws.getD j 0:=λi j hij hj=>E7 (by omega) hij hj
  obtain⟨t',et',_,_,_,_,_,h5⟩:=n9 g W.rev
  have F:=bD ws
  have lt:∀i∈ar ws,i<ws.length:=λi hi=>OD.mp (F.perm.mem_iff.mp hi)
  have hp:∀k∈ar ws,1<=ws.getD k 0:=λk hk=>by
   rw[Em,x_ (lt k hk)]
   exact (W.wt _ (O0 _)).1
  have hr:∀k∈ar ws,ws.reverse.getD (ws.length-1-k) 0=ws.getD k 0:=λk hk=>i8 (lt k hk)
  rw[Ca nd,mX 42 (ar ws) b hr hp (nX ws) (by omega),<- et] at et'
  have bx:AT.bx ws.reverse t' b=(AT.bx ws t b).map (qQ λk=>ws.length-1-k):=by
   rw[et']
   exact AT.ren_bx t (λk hk=>i8 ((tm k).mp hk)) b
  have keys:=AT.bx_keys ws t b
  have eb:(List.range ws.length).map (λk=>bV (bxO (AT.bx ws.reverse t' b) k))=((List.range ws.length).map λk=>bV (bxO (AT.bx ws t b) k)).reverse:=by
   rw[nM]
   refine Pj λk hk=>?_
   have hk:=OD.mp hk
   rw[bx]
   congr 1
   have:=tU (r:=λk=>ws.length-1-k) (k:=ws.length-1-k) (l:=AT.bx ws t b) λp hp' e=>by
    have:p.1∈t.lvs:=by rw[<- keys];exact OU.mpr ⟨p,hp',rfl⟩
    have:=(tm _).mp this
    have e:ws.length-1-p.1=ws.length-1-(ws.length-1-k):=e
    omega
   rw[<- this]
   congr 1
   show k=ws.length-1-(ws.length-1-k)
   omega
  rw[Ph,eb] at h5
  have rv:(ws.map Val.int).reverse=ws.reverse.map Val.int:=(List.map_reverse).symm
  have ebx:=Oe (List.range ws.length) λk=>bxO (AT.bx ws t b) (ws.length-1-k)
  rw[<- nM ws.length λk=>bV (bxO (AT.bx ws t b) k)] at ebx
  unfold BA
  unfold liV at h3 h5 ⊢
  rw[<- rv] at h5
  generalize (List.range ws.length).map (λk=>bV (bxO (AT.bx ws t b) k))=RB at *
  generalize itV (ar ws)=fv at *
  generalize ddI ws=dw at *
  have kr:=C2 (ws.map Val.int)
  have kr2:=C2 RB
  generalize (ws.map Val.int).reverse=wr at *
  generalize RB.reverse=BR at *
  generalize ws.map Val.int=wv at *
  generalize bV b=bv at *
  generalize atV t=tv at *
  generalize fdV a2 c2 55=f2 at *
  simp![sl,ls,ll,d1,kr,kr2,h3,h5,ebx,vU]
end KK
namespace PySem.W.Fast
def tw10001055739666230567:=trivial
def tw10037318451414473562:=trivial
def tw10051442309632704222:=trivial
def tw10078352161089577408:=trivial
def tw10079281509865076138:=trivial
def tw10122789021605764687:=trivial
def tw10140759480017823440:=trivial
def tw10151001335272987890:=trivial
def tw1017420395450184550:=trivial
def tw10174303325634848081:=trivial
def tw10200629743922022754:=trivial
def tw10243188274503822666:=trivial
def tw10281070138701351520:=trivial
def tw10292001106069707047:=trivial
def tw1035068962133900926:=trivial
def tw10412339656714753563:=trivial
def tw10423939710198177126:=trivial
def tw10460038623775955565:=trivial
def tw10464720209678080257:=trivial
def tw10500452052259162436:=trivial
def tw105011280445259845:=trivial
def tw10521769909654398742:=trivial
def tw10568485204862452362:=trivial
def tw10571888837748134017:=trivial
def tw10672461331457537730:=trivial
def tw10731606479863696258:=trivial
def tw10743079475178440579:=trivial
def tw10768568556756193011:=trivial
def tw10769692423247899407:=trivial
def tw10801486753631090653:=trivial
def tw10902743767167705319:=trivial
def tw10964149489338118598:=trivial
def tw10968210326567012528:=trivial
def tw11147393356331557552:=trivial
def tw11206108271427387135:=trivial
def tw11252810045991513342:=trivial
def tw11397885507579548196:=trivial
def tw11418067876987153386:=trivial
def tw11531778143998796827:=trivial
def tw11569793745910743425:=trivial
def tw11590922699546578173:=trivial
def tw11601795787451002271:=trivial
def tw11602325513099902553:=trivial
def tw11607296051679377283:=trivial
def tw11669801833561762686:=trivial
def tw11682683386728672026:=trivial
def tw11747405933496161448:=trivial
def tw11785564223148189672:=trivial
def tw11849206280683039254:=trivial
def tw11871619283369571660:=trivial
def tw11874857634184363575:=trivial
def tw11886658053971336764:=trivial
def tw11907915326534894623:=trivial
def tw12030729740758099066:=trivial
def tw12116960128830976940:=trivial
def tw12260704126771620434:=trivial
def tw12321580546467132956:=trivial
def tw12324219028254141789:=trivial
def tw12452122412065619997:=trivial
def tw1247822262782046082:=trivial
def tw12569761697017664041:=trivial
def tw12579856538224622634:=trivial
def tw12589042873530835662:=trivial
def tw12590973479486126872:=trivial
def tw12605511160358885961:=trivial
def tw12672218921307503680:=trivial
def tw12687568457560192669:=trivial
def tw12695391766038436966:=trivial
def tw12756381528260766811:=trivial
def tw12779215121027111487:=trivial
def tw12804426003574030618:=trivial
def tw12812450950871421648:=trivial
def tw12820390142437754929:=trivial
def tw12904139261789040408:=trivial
def tw12917633070428611633:=trivial
def tw12924023318458101745:=trivial
def tw12985836101769116788:=trivial
def tw13031977727064439747:=trivial
def tw1315729218824919937:=trivial
def tw13167807610992217347:=trivial
def tw1328202535130190487:=trivial
def tw13298387470917210927:=trivial
def tw1330020440174051009:=trivial
def tw13359548544124302456:=trivial
def tw13367451068410070529:=trivial
def tw13448613762602812098:=trivial
def tw13470068169380312772:=trivial
def tw13547513739104326187:=trivial
def tw1358289726833897505:=trivial
def tw13748788407953526532:=trivial
def tw13807120669432674286:=trivial
def tw13813909996280549687:=trivial
def tw1386466095981244740:=trivial
def tw13877745840409002287:=trivial
def tw13940630013879615961:=trivial
def tw13961078637104595600:=trivial
def tw14037068273113092923:=trivial
def tw14093705366788402978:=trivial
def tw14119680587592157621:=trivial
def tw14165386352476557042:=trivial
def tw14185075934102370118:=trivial
def tw14205273178854050696:=trivial
def tw14304640031438432180:=trivial
def tw14357918465936026122:=trivial
def tw14374999639196935068:=trivial
def tw14468011356690959360:=trivial
def tw14489415316844156636:=trivial
def tw1454768269812276185:=trivial
def tw14613025011055036771:=trivial
def tw14626613971133647526:=trivial
def tw14642406496620090628:=trivial
def tw14705105504805386441:=trivial
def tw14721201241560469784:=trivial
def tw14749372209634309246:=trivial
def tw14766760740275611229:=trivial
def tw14813261624752848698:=trivial
def tw14841431833091612054:=trivial
def tw14878922969599465671:=trivial
def tw14901551163718284506:=trivial
def tw14903557619131194981:=trivial
def tw14903906937833700767:=trivial
def tw14973690311355312336:=trivial
def tw14975824400089004706:=trivial
def tw15003127820258518923:=trivial
def tw15031576055847452006:=trivial
def tw15093248621826203877:=trivial
def tw1510254060206930475:=trivial
def tw15139643901715162028:=trivial
def tw15337831843667912248:=trivial
def tw15342526127005902528:=trivial
def tw15365567707715179675:=trivial
def tw15407712032635585973:=trivial
def tw15445691764548285030:=trivial
def tw15488029245841464166:=trivial
def tw15554754206675780815:=trivial
def tw15600727552850602418:=trivial
def tw15633284891225541649:=trivial
def tw15747699877790883803:=trivial
def tw15754301324191221743:=trivial
def tw15764374219884597761:=trivial
def tw15814123629641851232:=trivial
def tw15839489985884266301:=trivial
def tw15851514052058072655:=trivial
def tw1586095295190288833:=trivial
def tw15899816287361508627:=trivial
def tw15934108056033867841:=trivial
def tw15943575282253405909:=trivial
def tw15987099803169977250:=trivial
def tw16008173077160807413:=trivial
def tw16023324886771318177:=trivial
def tw16048906997206965228:=trivial
def tw16069215554703379815:=trivial
def tw16074032470010468496:=trivial
def tw16092811775579778353:=trivial
def tw16117506279177161837:=trivial
def tw16151924325702028600:=trivial
def tw16207525141116521296:=trivial
def tw1623578163779300462:=trivial
def tw16242607876723213526:=trivial
def tw16271960404394404365:=trivial
def tw1630547815929648606:=trivial
def tw16347472432400846643:=trivial
def tw1651220326055252763:=trivial
def tw16566385589088650847:=trivial
def tw1658833529188623355:=trivial
def tw16598714031281233430:=trivial
def tw16600892757034660819:=trivial
def tw16626773681870249209:=trivial
def tw16650087318209732974:=trivial
def tw16651862076055963645:=trivial
def tw1674042644238983639:=trivial
def tw16790243973154228860:=trivial
def tw16934068825673075156:=trivial
def tw17004843884989794880:=trivial
def tw17057791968938279779:=trivial
def tw17070647841778115237:=trivial
def tw17129630939893734883:=trivial
def tw17140229135340830035:=trivial
def tw17149355143726632383:=trivial
def tw17168151394824563327:=trivial
def tw17169039936306739095:=trivial
def tw17220357947222337499:=trivial
def tw17229177963426915893:=trivial
def tw17333126230636261297:=trivial
def tw17339487371217743889:=trivial
def tw1733959860193996036:=trivial
def tw17350589279819200188:=trivial
def tw17354436205119072226:=trivial
def tw17363982573443543826:=trivial
def tw17368086659874865234:=trivial
def tw173719446582932527:=trivial
def tw17405559498682555367:=trivial
def tw17463481953976060348:=trivial
def tw17478374492230960451:=trivial
def tw1751601064149346991:=trivial
def tw17535268953515378409:=trivial
def tw1756798262168872791:=trivial
def tw17643971178012497322:=trivial
def tw17700741252757331746:=trivial
def tw17760980854292629615:=trivial
def tw17790463598868393074:=trivial
def tw17843824116313729078:=trivial
def tw17879831396496030530:=trivial
def tw17893941724348924546:=trivial
def tw17903282447230958135:=trivial
def tw17919174170374978496:=trivial
def tw17926055718322172706:=trivial
def tw17935796821585881745:=trivial
def tw17940096719547210290:=trivial
def tw17971287025737302746:=trivial
def tw18019437315494901364:=trivial
def tw1802115508191109301:=trivial
def tw18027277140069958444:=trivial
def tw18030223281177013295:=trivial
def tw18033192522173452105:=trivial
def tw18051220713876021545:=trivial
def tw1805653816256535253:=trivial
def tw18102739081093462993:=trivial
def tw18111208413477420365:=trivial
def tw18153689133481287197:=trivial
def tw18302097088566135888:=trivial
def tw18410617891600578323:=trivial
def tw1855796600609075390:=trivial
def tw197647955094028138:=trivial
def tw1990208871197791548:=trivial
def tw2016937534371626177:=trivial
def tw2061081505110330799:=trivial
def tw2094871037825077025:=trivial
def tw2117971006920427697:=trivial
def tw2118140549311625372:=trivial
def tw2122444215692410497:=trivial
def tw2203227901490097420:=trivial
def tw2237795712216612865:=trivial
def tw2243785103678909352:=trivial
def tw224872289206257326:=trivial
def tw23177690788724522:=trivial
def tw2365365624565578286:=trivial
def tw2381744944606835495:=trivial
def tw2402097369357034079:=trivial
def tw2421410091511187798:=trivial
def tw2425374083541777928:=trivial
def tw2445206632760037172:=trivial
def tw247269586687409465:=trivial
def tw258487830356251856:=trivial
def tw2651544174705631879:=trivial
def tw268555158750025234:=trivial
def tw2723660968015539207:=trivial
def tw2826824870745046608:=trivial
def tw2846540868152123544:=trivial
def tw2899573286251611673:=trivial
def tw2914094879384570166:=trivial
def tw2922475110980863064:=trivial
def tw3014136040360390179:=trivial
def tw3017889418208096717:=trivial
def tw3033135546140697925:=trivial
def tw3042604437969192822:=trivial
def tw309493416138407062:=trivial
def tw3107404846775196295:=trivial
def tw3152417641209111155:=trivial
def tw3186830525623699687:=trivial
def tw3193417715037602656:=trivial
def tw3200370190823464270:=trivial
def tw3238792633602067656:=trivial
def tw3315610167769114002:=trivial
def tw3401745103663437304:=trivial
def tw340666588460275226:=trivial
def tw3529745515399100813:=trivial
def tw3542378373977457753:=trivial
def tw356989871838404686:=trivial
def tw3583793492324829650:=trivial
def tw3614041398469916706:=trivial
def tw3625510929316776800:=trivial
def tw3644588997931991673:=trivial
def tw364718110809748999:=trivial
def tw3649325534138033334:=trivial
def tw3688301427640586801:=trivial
def tw375314626196728567:=trivial
def tw3753543878758681246:=trivial
def tw3814591187688988018:=trivial
def tw387196258448137868:=trivial
def tw3960857320043783480:=trivial
def tw4038449756410998848:=trivial
def tw4041355868593941686:=trivial
def tw4045040385711873294:=trivial
def tw405559854121176412:=trivial
def tw4103862513029673319:=trivial
def tw4107037588579289484:=trivial
def tw4130525561553555611:=trivial
def tw4261596201069621598:=trivial
def tw4285416920681848123:=trivial
def tw4287043279185193539:=trivial
def tw4332469668192659807:=trivial
def tw4376823795110320530:=trivial
def tw4484363988895154416:=trivial
def tw4528552126994404859:=trivial
def tw4559913565316545209:=trivial
def tw4562216752045927486:=trivial
def tw4567349627540040306:=trivial
def tw4625760624153778026:=trivial
def tw4643035739636362825:=trivial
def tw4740302695854828238:=trivial
def tw4852335907474703588:=trivial
def tw4877538346274995751:=trivial
def tw4886343082063141000:=trivial
def tw4900134960825284558:=trivial
def tw4900387842292080207:=trivial
def tw4960336637879190823:=trivial
def tw5022702169905530651:=trivial
def tw5037053808993312639:=trivial
def tw5054561744863560841:=trivial
def tw513120762058231136:=trivial
def tw5206483615440400495:=trivial
def tw5253761469205395679:=trivial
def tw5359666194497863129:=trivial
def tw5446732156987779759:=trivial
def tw5561373562243809486:=trivial
def tw5595514285145042593:=trivial
def tw5627016673206962778:=trivial
def tw5645368309302285066:=trivial
def tw5645523941113910758:=trivial
def tw566857234982768697:=trivial
def tw5692839690856597057:=trivial
def tw5757723725755891325:=trivial
def tw5792018416667856604:=trivial
def tw5795666070856196542:=trivial
def tw5797857521404524262:=trivial
def tw5803027046680225556:=trivial
def tw5861110610859189770:=trivial
def tw5913183125297857055:=trivial
def tw5955610645654119514:=trivial
def tw596124759923612937:=trivial
def tw6036881485103911622:=trivial
def tw6086763751838170313:=trivial
def tw6090293880594934232:=trivial
def tw6094821486814512293:=trivial
def tw6119869155890820615:=trivial
def tw6134068200869014478:=trivial
def tw6136156685913731756:=trivial
def tw6151107602112639969:=trivial
def tw622213955501194011:=trivial
def tw6298548075968059390:=trivial
def tw6425408081626073743:=trivial
def tw6500993436686677786:=trivial
def tw6516298942801253455:=trivial
def tw6660833215427766952:=trivial
def tw6668087035169550022:=trivial
def tw6726943740244375181:=trivial
def tw673681455681160948:=trivial
def tw6737096963081228265:=trivial
def tw6872053712588298060:=trivial
def tw6890117559107689299:=trivial
def tw6958441003240859678:=trivial
def tw6981410029576624651:=trivial
def tw7002257358835541639:=trivial
def tw7090984965958460193:=trivial
def tw7112290857225084190:=trivial
def tw7114774837261198556:=trivial
def tw715897908575185517:=trivial
def tw7162587587494024133:=trivial
def tw7229773647379524041:=trivial
def tw723108096742677371:=trivial
def tw7240712103578553772:=trivial
def tw7308029319739814039:=trivial
def tw748728351094455186:=trivial
def tw7513794829330634866:=trivial
def tw7576666504328826446:=trivial
def tw7653820364414328658:=trivial
def tw7674207533602323352:=trivial
def tw7706811710640513239:=trivial
def tw7728053246927208555:=trivial
def tw7729993598022517835:=trivial
def tw7731571126801007425:=trivial
def tw7734816334235780646:=trivial
def tw7742293937745930493:=trivial
def tw7764899065055029035:=trivial
def tw78031189036357680:=trivial
def tw7834411005793530782:=trivial
def tw7854624324678174286:=trivial
def tw7933156127190263490:=trivial
def tw7957936396655394774:=trivial
def tw7978268066769897991:=trivial
def tw8019877358816881554:=trivial
def tw8024441651184583420:=trivial
def tw8031732071687569371:=trivial
def tw8040378010488483318:=trivial
def tw8047945571933778162:=trivial
def tw8129096538151478108:=trivial
def tw8134929562181568315:=trivial
def tw8209137060515988889:=trivial
def tw822879018489176375:=trivial
def tw8301070970568608623:=trivial
def tw8312512710973669046:=trivial
def tw8315315972387912117:=trivial
def tw8326281518681572659:=trivial
def tw83430728581048404:=trivial
def tw8392517109882816248:=trivial
def tw8394581316065220068:=trivial
def tw8417333804343810554:=trivial
def tw846093970604613156:=trivial
def tw8499203877785436981:=trivial
def tw8517662519287263586:=trivial
def tw8556752602111282453:=trivial
def tw8573205773631955865:=trivial
def tw8590536157091919194:=trivial
def tw8629806896120190524:=trivial
def tw8642263900225564116:=trivial
def tw8645313641263454128:=trivial
def tw8649268730801534900:=trivial
def tw8688886169948215078:=trivial
def tw8698345375091028006:=trivial
def tw8754324929048816320:=trivial
def tw8799038276247260589:=trivial
def tw8799574667619281556:=trivial
def tw8923441801694581512:=trivial
def tw8999655911593091520:=trivial
def tw9054910108152236817:=trivial
def tw9096450029374526387:=trivial
def tw9104578453851578982:=trivial
def tw9123780220632388987:=trivial
def tw9199515410689128242:=trivial
def tw9201433449321567459:=trivial
def tw9236126759690840129:=trivial
def tw9265456130340266674:=trivial
def tw9266622116911800817:=trivial
def tw9389850383183435847:=trivial
def tw9477399166952781029:=trivial
def tw9501289945873483775:=trivial
def tw9542167314292073627:=trivial
def tw9553142693486872868:=trivial
def tw9556527949882698011:=trivial
def tw9566218620241117687:=trivial
def tw9579249077887973214:=trivial
def tw9581908383925874885:=trivial
def tw9593852512110867303:=trivial
def tw9614667978868589167:=trivial
def tw9655335816445751685:=trivial
def tw9786614913494518509:=trivial
def tw978733345929489808:=trivial
def tw9823374200098598055:=trivial
def tw9844605513992993420:=trivial
def tw9863716648766329241:=trivial
def tw986552259621911830:=trivial
def tw9875724755799090849:=trivial
def tw9905062067093133612:=trivial
def tw9910318507455312833:=trivial
def tw9923026372564476155:=trivial
def tw9948110219782006849:=trivial
def tw9982687472164950277:=trivial
def tw9987004915518955213:=trivial
def tw9987981168692770719:=trivial
end PySem.W.Fast
open PySem PySem.W PyProof.Rows L2 L3 KK
set_option maxRecDepth 100000 in
set_option maxHeartbeats 0 in
theorem PySem.Challenge.cw_weightrooms_k20_thirds_holds : PySem.Challenge.rw_weightrooms_k20_thirds.Holds := by
 w_on;o_law;k_head;(case hw=>w_witness2)
 k_fill
 refine L2.walk_lawT (l:=PySem.Challenge.rw_weightrooms_k20_thirds) (x:="_law_script") (k:=54) rfl rfl ⟨rfl,by decide,by decide⟩ (λw h Y=>⟨W.km_in_of Y,F7 (by kernel_rfl) (W.km_tabs_of Y)⟩) ?F ?D
 case F=>
  intro w mg h KX G base kb nb
  refine xM (EL ⟨⟨Mw KX G (by kernel_rfl),?_⟩,Gi KX G (by kernel_rfl)⟩) (GR KX G (by kernel_rfl)) (law3 pz rfl IU)
  repeat first
   |exact trivial
   |refine⟨by refine' zd KX G ?a ?l ?c ?k;(case a=>k_is);(case l=>k_is);(case c=>k_is);(case k=>k_is),?_⟩
 case D=>
  intro w mg h KX G
  refine⟨top 71,?_,(λ_ _ _ _ _ _=>ar1 λ_=>rfl)⟩
  refine' zd KX G ?a ?l ?c ?k;case a|l|c|k=>k_is
