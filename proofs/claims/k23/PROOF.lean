import PyProof.Rows.All
import Wide.All
import OpenK.AllK
import Wide.FinOn
import Lean
import PyProof.EqAt
import PyProof.EqKinds
import PyProof.TupleCall
import PyProof.Rows.SumAny
import PyProof.EnumMake
import PyProof.Draws
import PyProof.ZipIter
import KE.KNestM
import KE.KUnpack
import KE.KxIndex
import PyProof.SetRoads
import PyProof.SetNew
import PyProof.AutoSeq1
import KE.KRevSl
import PyProof.SeqI3
import PyProof.Rows.SortWalk
import PyProof.Rows.Range3
import KE.KSortTup
import KE.KLam
import PyProof.Rows.SetFrom
import PySem.Challenge.RW_weightrooms_k23_whole_rules_turned_over
local macro_rules|`(tactic|trivial)=>`(tactic|first|exact Or.inl rfl|exact Or.inr rfl)
local macro_rules|`(tactic|decide)=>`(tactic|decide +kernel)
set_option genSizeOf false
set_option genInjectivity false
set_option bootstrap.genMatcherCode false
noncomputable section
set_option Elab.async false
set_option linter.all false
def l_:=@PySem.wpAny_bind
def m_:=@List.length_map
def n_:=@List.mem_cons_of_mem
def o_:=@PySem.Heap.get?_push_of_some
def p_:=@Nat.le_refl
def r_:=@List.mem_cons_self
def s_:=@List.getElem?_eq_some_iff
def t_:=@List.map_cons
def u_:=@Bool.and_eq_true
def v_:=@List.length_range
def w_:=@List.getElem?_eq_getElem
def x_:=@PySem.wpAny_pure
def y_:=@PySem.Heap.lt_size
def z_:=@List.size_toArray
def A_:=@Bool.false_ne_true
def B_:=@decide_eq_false
def C_:=@List.length_cons
def D_:=@List.length_append
def Em:=@PySem.Heap.get?_push_size
def E_:=@beq_eq_false_iff_ne
def F_:=@Nat.le_trans
def G_:=@decide_eq_true
def H_:=@Nat.lt_of_lt_of_le
def I_:=@List.mem_cons
def J_:=@Option.some.inj
def K_:=@List.getD_eq_getElem?_getD
def L_:=@Option.map_eq_some_iff
def M_:=@List.getElem?_append_left
def N_:=@List.mem_range
def O_:=@List.getElem?_map
def P_:=@Nat.ne_of_lt
def QG:=@List.length_set
def QH:=@Nat.zero_le
def QI:=@List.all_eq_true
def QJ:=@List.length_take
def QK:=@Option.bind_eq_some_iff
def QL:=@List.length_drop
def QM:=@List.getElem?_append_right
def QN:=@List.mem_append_right
def QO:=@List.length_nil
def QP:=@beq_iff_eq
def QQ:=@List.map_nil
def QR:=@PySem.wpAny_mono
def QS:=@List.sum_cons
def QT:=@PyProof.Rows.callWith_type1
def QU:=@List.append_nil
def QV:=@List.map_append
def QW:=@congrArg
def QX:=@List.mem_map
def QY:=@Nat.mul_le_mul
def QZ:=@List.nil_append
def Q0:=@Array.length_toList
def Q1:=@List.contains_iff_mem
def Q2:=@List.take_append_drop
def Q3:=@Int.toNat_natCast
def Q4:=@List.find?_cons
def Q5:=@List.mem_of_mem_take
def Q6:=@List.mem_singleton
def Q7:=@PySem.wpAny_Call_Name_kw
def Q8:=@List.map_take
def Q9:=@List.map_map
def Q_:=@Rat.intCast_mul
def Ra:=@PySem.wpAny_field
def Rb:=@List.getElem?_replicate
def Rf:=@List.lookup_cons
def Rg:=@Nat.lt_irrefl
def Rh:=@Int.natAbs_mul
def Ri:=@List.take_of_length_le
def Rj:=@PySem.wpAny_newObj_type
def Rl:=@List.length_replicate
def Rm:=@List.getElem_mem
def Rn:=@Option.isSome_iff_exists
def Ro:=@Int.mul_assoc
def Rq:=@List.any_cons
def Rr:=@List.map_drop
def Ru:=@List.mem_of_mem_drop
def Rv:=@Nat.pow_le_pow_right
def Rw:=@Nat.mul_le_mul_left
def Rx:=@PySem.mem_of_lookup
def Ry:=@PySem.wpAny_holding
def RC:=@Nat.lt_of_le_of_lt
def RD:=@decide_eq_true_iff
def RH:=@List.getElem?_eq_none_iff
def RJ:=@List.pairwise_iff_getElem
def RK:=@Nat.mul_pos
def RL:=@List.mem_append
def RN:=@List.mem_of_getElem?
def RP:=@Nat.mul_le_mul_right
def RQ:=@PySem.wpAny_callSpecial?_slot
def RR:=@PySem.Heap.SameBut.update
def RV:=@List.filterMap_cons
def RW:=@PySem.wpAny_seqItems
def RX:=@List.find?_cons_of_neg
def RY:=@List.length_eq_one_iff
def RZ:=@Nat.pow_add
def R0:=@PySem.Calls.spliced_cons
def R4:=@PySem.wpAny_setField_rec
def R5:=@Int.natCast_mul
def R6:=@List.getElem?_zipWith
def R7:=@Nat.not_lt_zero
def R8:=@PySem.wpAny_passesOwn
def R9:=@PySem.F.slot_tuple_iterator_next
def R_:=@PySem.wpAny_truthy_bool
def Sa:=@if_true
def Sb:=@List.length_zipWith
def Se:=@decide_eq_false_iff_not
def Sf:=@List.take_nil
def Sg:=@Bool.false_eq_true
def Sh:=@Bool.or_eq_true
def Si:=@Int.mul_ne_zero
def Sj:=@List.nodup_cons
def Sk:=@List.sum_append
def Sn:=@List.find?_cons_of_pos
def So:=@Bool.not_eq_true'
def Sq:=@PySem.Calls.spliced_nil
def Sr:=@Int.mul_left_comm
def Ss:=@decide_eq_true_eq
def Su:=@of_decide_eq_true
def Sv:=@List.dropLast_eq_take
def Sw:=@List.mapM_cons
def Sx:=@Nat.le_of_lt
def Sy:=@Nat.ne_of_gt
def SA:=@Nat.sub_self
def SD:=@PySem.wpAny_call_entry
def SE:=@Int.eq_of_mul_eq_mul_right
def SF:=@List.all_cons
def SG:=@List.drop_nil
def SH:=@PySem.wpAny_standAt
def SI:=@Array.getElem?_eq_getElem
def SJ:=@Classical.byContradiction
def SK:=@List.drop_eq_getElem_cons
def SM:=@Int.mul_comm
def SN:=@Int.mul_right_comm
def SO:=@PySem.F.args_tuple_add_2
def SQ:=@PySem.Heap.size_push
def SS:=@PySem.F.entry_tuple_add
def SU:=@List.getElem?_set
def SW:=@PySem.Heap.get?_update_other
def SX:=@PySem.F.slot_tuple_add
def SY:=@Nat.mul_assoc
def S0:=@PySem.wpAny_attempt
def S7:=@List.cons_append
def S8:=@List.nodup_range
def S9:=@List.not_mem_nil
def S_:=@Nat.le_add_right
def Ta:=@beq_self_eq_true
def Tc:=@decide_eq_decide
def Td:=@if_false
def Te:=@PySem.F.slot_zip_next
def Tf:=@PySem.Heap.get?_none_of_le
def Tg:=@List.getElem?_append
def Th:=@List.getElem?_set_ne
def Ti:=@List.mem_append_left
def Tj:=@Nat.lt_trans
def Tn:=@Nat.zero_add
def To:=@Rat.num_eq_zero
def Tp:=@PySem.codeAny_builtin
def Tq:=@PySem.codeAny_mono
def Tr:=@PySem.wpAny_execs_nil
def Ts:=@PySem.wpAny_loadName_local
def Tt:=@PySem.wpAny_updateSeq_pair
def Tu:=@List.map_congr_left
def Tv:=@PySem.Paired.length
def Tw:=@PyProof.Rows.listUpdate_at
def Tz:=@PySem.rangeSize_one
def TB:=@PySem.wpAny_onRaise
set_option maxRecDepth 100000
namespace L2
open PySem PySem.Spec PyProof.Rows
abbrev _root_.Ua:=Str->Option Value
abbrev _root_.Ub:=List (Addr×Obj)
abbrev _root_.Uc:=Value->Shared->Prop
abbrev _root_.Ud:=List (Option Nat)
abbrev Key:=Sum Int Str
noncomputable def kJ:Key->Value->Bool
 |.inl k,v=>Value.isInt k v
 |.inr x,v=>Value.isStrOf x v
noncomputable def keyH(w:World):Key->Int
 |.inl k=>hashInt k
 |.inr x=>hashStr w x
theorem bL:∀{k:Key}{v:Value},kJ k v=true->(∃i t,k=Sum.inl i/\v=Value.int i t)\/(∃x t,k=Sum.inr x/\v=Value.str x t)
 |
  .inl i,v,h=>by
  obtain⟨t,e⟩:=Value.isInt_shape (k:=i) (v:=v) h;exact .inl ⟨i,t,rfl,e⟩
 |
  .inr x,v,h=>by
  obtain⟨t,e⟩:=Value.isStrOf_shape (x:=x) (v:=v) h;exact .inr ⟨x,t,rfl,e⟩
def zr(i:Int)(t:Tok):kJ (.inl i) (.int i t)=true:=by simp [kJ,Value.isInt]
def zK(x:Str)(t:Tok):kJ (.inr x) (.str x t)=true:=by simp [kJ,Value.isStrOf]
def Mk(a b:Int):decide ((Sum.inl a:Key)=Sum.inl b)=(a==b):=by
 by_cases e:a=b
 .subst e;simp
 .have h:¬ (Sum.inl a:Key)=Sum.inl b:=λq=>e (Sum.inl.inj q);rw[B_ h];exact (E_.mpr e).symm
def L7(a b:Str):decide ((Sum.inr a:Key)=Sum.inr b)=decide (a=b):=by
 by_cases e:a=b
 .subst e;simp
 .have h:¬ (Sum.inr a:Key)=Sum.inr b:=λq=>e (Sum.inr.inj q);rw[B_ h,B_ e]
def LB(a:Int)(b:Str):decide ((Sum.inl a:Key)=Sum.inr b)=false:=B_ (λq=>nomatch q)
def MM(a:Str)(b:Int):decide ((Sum.inr a:Key)=Sum.inl b)=false:=B_ (λq=>nomatch q)
noncomputable def bT(prog:Program)(w:World):PySem.KeyKind prog w Key where
 is:=kJ
 hash:=keyH w
 inj
  := λv a b ha hb=>by
  rcases bL ha with ⟨i,t,rfl,rfl⟩ |⟨x,t,rfl,rfl⟩
  .rcases bL hb with ⟨j,u,rfl,e⟩ |⟨y,u,rfl,e⟩
   .injection e with e1 _;rw[e1]
   .exact nomatch e
  .rcases bL hb with ⟨j,u,rfl,e⟩ |⟨y,u,rfl,e⟩
   .exact nomatch e
   .injection e with e1 _;rw[e1]
 byValue:=λk v h=>by rcases bL h with ⟨i,t,rfl,rfl⟩ |⟨x,t,rfl,rfl⟩ <;> rfl
 pyHash:=λhv h=>by
  rcases bL hv with ⟨i,t,rfl,rfl⟩ |⟨x,t,rfl,rfl⟩
  .exact wpAny_pyHash_int h
  .exact wpAny_pyHash_str h
 eqBool:=λhu hv h=>by
  rcases bL hu with ⟨i,t,rfl,rfl⟩ |⟨x,t,rfl,rfl⟩
  .rcases bL hv with ⟨j,u,rfl,rfl⟩ |⟨y,u,rfl,rfl⟩
   .rw[Mk] at h;exact wpAny_eqBool_int h
   .rw[LB] at h;exact SeqAt.EqAt.int_str i t y u _ _ _ _ h
  .rcases bL hv with ⟨j,u,rfl,rfl⟩ |⟨y,u,rfl,rfl⟩
   .rw[MM] at h;exact SeqAt.EqAt.str_int x t j u _ _ _ _ h
   .rw[L7] at h;exact wpAny_eqBool_str h
 «strs»:=λk x t v h=>by
  rcases bL h with ⟨i,u,rfl,e⟩ |⟨y,u,rfl,e⟩
  .exact nomatch e
  .injection e with e1 _;subst e1;cases v <;> rfl
def ve(prog:Program)(w:World)(i:Int)(t:Tok):(bT prog w).is (.inl i) (.int i t)=true:=zr i t
def vc(prog:Program)(w:World)(x:Str)(t:Tok):(bT prog w).is (.inr x) (.str x t)=true:=zK x t
inductive V where
 |non |bl (b:Bool) |int (i:Int) |str (x:Str) |byt (b:Array UInt8) |flt (b:UInt64) |ref (a:Addr) |ty (n:String)
 deriving DecidableEq
def RelV:V->Value->Prop
 |.non,u=>u=Value.none
 |.bl b,u=>u=Value.bool b
 |.int i,u=>∃t,u=Value.int i t
 |.str x,u=>∃t,u=Value.str x t
 |.byt b,u=>∃t,u=Value.bytes b t
 |.flt b,u=>∃t,u=Value.float b t
 |.ref a,u=>u=Value.ref a
 |.ty n,u=>u=Value.type n
abbrev Vals:List V->List Value->Prop:=Paired RelV
def Vals.length(r:Vals xs us):xs.length=us.length:=Tv r
def Vals.get{xs:List V}{us:List Value}{i:Nat}{x:V}(r:Vals xs us)(e:xs[i]?=some x):∃u,us[i]?=some u/\RelV x u:=by
 induction r generalizing i with
 |nil=>rw[List.getElem?_nil] at e;cases e
 |
  cons r t ih=>
  cases i with
  |zero=>cases e;exact⟨_,rfl,r⟩
  |succ i=>exact ih (i:=i) e
def Vals.set(r:RelV x u)(i:Nat)(q:Vals xs us):Vals (xs.set i x) (us.set i u):=by
 induction q generalizing i with
 |nil=>exact .nil
 |
  cons q t ih=>
  cases i with
  |zero=>exact .cons r t
  |succ i=>exact .cons q (ih i)
def Vals.append(r:Vals xs us)(s:Vals ys ws):Vals (xs++ys) (us++ws):=by
 induction r with
 |nil=>exact s
 |cons r t ih=>exact .cons r ih
def Vals.take(n:Nat)(r:Vals xs us):Vals (xs.take n) (us.take n):=by
 induction r generalizing n with
 |nil=>rw[Sf,Sf];exact .nil
 |
  cons r t ih=>
  cases n with
  |zero=>exact .nil
  |succ n=>exact .cons r (ih n)
def Vals.drop(n:Nat)(r:Vals xs us):Vals (xs.drop n) (us.drop n):=by
 induction r generalizing n with
 |nil=>rw[SG,SG];exact .nil
 |
  cons r t ih=>
  cases n with
  |zero=>exact .cons r t
  |succ n=>exact ih n
def RelO:Option V->Option Value->Prop
 |some v,some u=>RelV v u
 |none,none=>True
 |_,_=>False
def KV{κ:Type}:List (κ×V)->List (κ×Value)->Prop:=Paired λ(p:κ×V) (q:κ×Value)=>p.1=q.1/\RelV p.2 q.2
noncomputable def kV:Key->V
 |.inl i=>.int i
 |.inr x=>.str x
inductive HO where
 |lst (xs:List V)
 |tup (xs:List V)
 |dK (kvs:List (Key×V)) |dT (kvs:List (List Key×V))
 |set (S:Int->Bool) (n:Nat)
 |ins (C dx:Addr) (fs:List (Str×V))
 |own (x:Addr)
 |xd (fs:List (Str×V))
 |met (f x:Addr)
 |rng (lo hi:Int)
 |frz (o:Obj) (u:HO)
 |tbl (ps:Array Value)
 |ext (φ:Heap->Prop)
abbrev Hp:=Addr->Option HO
noncomputable def upd(H:Hp)(a:Addr)(o:HO):Hp:=λb=>if b=a then some o else H b
def aW:upd H a o a=some o:=by unfold upd;rw[if_pos rfl]
def ax(h:b≠a):upd H a o b=H b:=by unfold upd;rw[if_neg h]
def Pe{H:Hp}{a b:Addr}{o u:HO}(h:H a=some o)(h':H b=some u)(d:o≠u):a≠b:=by intro e;subst e;rw[h] at h';exact d (J_ h')
def aL{H:Hp}{a b:Addr}{o:HO}(h:H a=some o)(h':H b=none):a≠b:=by intro e;subst e;rw[h] at h';cases h'
section
variable(P:Program)(w:World)
def ObjOk(H:Hp)(h:Heap)(a:Addr):HO->Prop
 |.lst xs=>xs.length<=sizeLine/\∃(its:List Value) (n:Nat),Vals xs its/\h.get? a=some { cls:=.type "list",data:=.seq its.toArray n }
 |.tup xs=>xs.length<=sizeLine/\∃its:List Value,Vals xs its/\IsTup h a its.toArray
 |.dK kvs=>kvs.length<=sizeLine/\(a==sysModules)=false/\∃vs,KV kvs vs/\h.DictOf (bT P w) a vs
 |.dT kvs=>kvs.length<=sizeLine/\(a==sysModules)=false/\∃xs:List (List Key×Addr×Value),
  Paired (λ(p:List Key×V) (q:List Key×Addr×Value)=>p.1=q.1/\H q.2.1=some (.tup (p.1.map kV))/\RelV p.2 q.2.2) kvs xs/\
  ∃o es ep,h.get? a=some o/\o.ExactDict/\o.data=.dict es ep/\es.toList=xs.map (entryOfKey (tupleKind (bT P w)))/\(xs.map (·.1)).Nodup
 |.set S n=>h.SetOf (intKind P w) a S n
 |.ins C dx fs=>H dx=some (.own a)/\fs.length<=1000/\dx≠a/\h.get? a=some (W.instObj C dx)/\
  ∃mA,h.Ns1 dx mA/\(∀f,RelO (fs.lookup f) (mA f))/\PySem.Within mA (fs.map (·.1))
 |.own _=>∃o,h.get? a=some o
 |.xd fs=>∃mA,h.Ns1 a mA/\∀f,RelO (fs.lookup f) (mA f)
 |.rng lo hi=>∃t u v,h.get? a=some { cls:=.type "range",data:=.fields #[.int lo t,.int hi u,.int 1 v] }
 |.frz o u=>h.get? a=some o/\ObjOk H h a u
 |.tbl ps=>h.get? a=some { cls:=.none,data:=.fields ps }
 |.met f x=>h.get? a=some (W.methodObj (.ref f) (.ref x))
 |.ext φ=>φ h/\(∃o,h.get? a=some o)/\∀h1 h2:Heap,φ h1->(∀o,h1.get? a=some o->h2.get? a=some o)->φ h2
def HOk(H:Hp)(h:Heap):Prop:=∀a o,H a=some o->ObjOk P w H h a o
end
section
variable{P:Program}{w:World}{H H':Hp}{h h':Heap}{a:Addr}{o:HO}
def ObjOk.lt(x:ObjOk P w H h a o):a<h.objs.size:=by
 cases o with
 |lst xs=>obtain⟨_,_,_,_,e⟩:=x;exact y_ e
 |tup xs=>obtain⟨_,_,_,p⟩:=x;exact p.lt
 |dK kvs=>obtain⟨_,_,_,_,o,_,_,e,_⟩:=x;exact y_ e
 |dT kvs=>obtain⟨_,_,_,_,o,_,_,e,_⟩:=x;exact y_ e
 |set S n=>obtain⟨o,_,_,_,e,_⟩:=x;exact y_ e
 |ins C dx fs=>obtain⟨_,_,_,e,_⟩:=x;exact y_ e
 |own y=>obtain⟨_,e⟩:=x;exact y_ e
 |xd fs=>obtain⟨_,⟨_,_,_,e,_⟩,_⟩:=x;exact y_ e
 |rng lo hi=>obtain⟨_,_,_,e⟩:=x;exact y_ e
 |frz ob u=>obtain⟨e,_⟩:=x;exact y_ e
 |tbl ps=>exact y_ (show h.get? a=some _ from x)
 |met f y=>exact y_ (show h.get? a=some _ from x)
 |ext φ=>obtain⟨_,⟨_,e⟩,_⟩:=x;exact y_ e
def Paired.mapP(r:Paired F l₁ l₂)(f:∀a b,F a b->G a b):Paired G l₁ l₂:=by
 induction r with
 |nil=>exact .nil
 |cons r t ih=>exact .cons (f _ _ r) ih
def ObjOk.stay(x:ObjOk P w H h a o)(k:∀b u,(b=a\/H b=some (.own a))->h.get? b=some u->h'.get? b=some u)
 (ho:∀b,H b=some (.own a)->H' b=some (.own a)) (ht:∀b xs,H b=some (.tup xs)->H' b=some (.tup xs)):ObjOk P w H' h' a o:=by
 induction o with
 |lst xs=>obtain⟨z,its,n,r,e⟩:=x;exact⟨z,its,n,r,k _ _ (.inl rfl) e⟩
 |tup xs=>obtain⟨z,its,r,ob,e,c⟩:=x;exact⟨z,its,r,ob,k _ _ (.inl rfl) e,c⟩
 |dK kvs=>obtain⟨z,y,vs,r,ob,es,ep,e,c⟩:=x;exact⟨z,y,vs,r,ob,es,ep,k _ _ (.inl rfl) e,c⟩
 |dT kvs=>obtain⟨z,y,xs,r,ob,es,ep,e,c⟩:=x;exact⟨z,y,xs,Paired.mapP r λp q z=>⟨z.1,ht _ _ z.2.1,z.2.2⟩,ob,es,ep,k _ _ (.inl rfl) e,c⟩
 |set S n=>obtain⟨ob,es,ep,t,e,c⟩:=x;exact⟨ob,es,ep,t,k _ _ (.inl rfl) e,c⟩
 |ins C dx fs=>obtain⟨d,z,ne,e,mA,⟨od,es,ep,e2,c⟩,r⟩:=x;exact⟨ho _ d,z,ne,k _ _ (.inl rfl) e,mA,⟨od,es,ep,k _ _ (.inr d) e2,c⟩,r⟩
 |own y=>obtain⟨ob,e⟩:=x;exact⟨ob,k _ _ (.inl rfl) e⟩
 |xd fs=>obtain⟨mA,⟨od,es,ep,e,c⟩,r⟩:=x;exact⟨mA,⟨od,es,ep,k _ _ (.inl rfl) e,c⟩,r⟩
 |rng lo hi=>obtain⟨t,u,v,e⟩:=x;exact⟨t,u,v,k _ _ (.inl rfl) e⟩
 |frz ob u ih=>obtain⟨e,q⟩:=x;exact⟨k _ _ (.inl rfl) e,ih q⟩
 |tbl ps=>have e:h.get? a=some { cls:=.none,data:=.fields ps }:=x;show h'.get? a=some { cls:=.none,data:=.fields ps };exact k a _ (.inl rfl) e
 |met f y=>have e:h.get? a=some (W.methodObj (.ref f) (.ref y)):=x;show h'.get? a=some (W.methodObj (.ref f) (.ref y));exact k a _ (.inl rfl) e
 |ext φ=>obtain⟨p,⟨o,e⟩,st⟩:=x;exact⟨st _ _ p λo q=>k _ _ (.inl rfl) q,⟨o,k _ _ (.inl rfl) e⟩,st⟩
def HOk.lt(x:HOk P w H h)(e:H a=some o):a<h.objs.size:=(x a o e).lt
def HOk.fresh(x:HOk P w H h)(e:h.objs.size<=a):H a=none:=by
 cases q:H a with
 |none=>rfl
 |some u=>exact absurd (H_ (x.lt q) e) (Rg _)
def HOk.kept(x:HOk P w H h)(k:∀b u,h.get? b=some u->h'.get? b=some u):HOk P w H h':=λa o e=>
 (x a o e).stay (λb u _ q=>k b u q) (λ_ q=>q) λ_ _ q=>q
def HOk.laid(x:HOk P w H h)(k:∀b u,h.get? b=some u->h'.get? b=some u)(hp:h.objs.size<=a)(new:ObjOk P w (upd H a o) h' a o):HOk P w (upd H a o) h':=λb u e=>by
 have hn:=x.fresh hp;by_cases hb:b=a
 .subst hb;rw[aW] at e;cases e;exact new
 .rw[ax hb] at e;exact (x b u e).stay (λc v _ q=>k c v q) (λc q=>by rw[ax (aL q hn)];exact q) λc xs q=>by rw[ax (aL q hn)];exact q
end
def Rd(H:Hp)(a:Addr)(u:HO):Prop:=H a=some u\/∃o,H a=some (.frz o u)
def Rd.ok(r:Rd H a u)(x:HOk P w H h):ObjOk P w H h a u:=by
 rcases r with r |⟨o,r⟩
 .exact x a u r
 .obtain⟨_,q⟩:=x a _ r;exact q
def Mut:Option HO->Prop
 |some (.lst _)=>True
 |some (.dK _)=>True
 |some (.dT _)=>True
 |some (.set _ _)=>True
 |some (.ins _ _ _)=>True
 |some (.ext _)=>True
 |_=>False
section
variable{P:Program}{w:World}{H:Hp}{h h':Heap}{x e:Addr}{o':HO}
def HOk.write(ok:HOk P w H h)(mu:Mut (H x))(he:e=x\/H e=some (.own x))(k:∀b u,b≠e->h.get? b=some u->h'.get? b=some u)(heo:∃u,h'.get? e=some u)
 (new:ObjOk P w (upd H x o') h' x o'):HOk P w (upd H x o') h':=λb u q=>by
 have nown:∀c y,H c=some (.own y)->c≠x:=λc y r z=>by subst z;rw[r] at mu;exact mu
 have ntup:∀c xs,H c=some (.tup xs)->c≠x:=λc xs r z=>by subst z;rw[r] at mu;exact mu
 by_cases hb:b=x
 .subst hb;rw[aW] at q;cases q;exact new
 .rw[ax hb] at q;by_cases hbe:b=e
  .have q':H b=some (.own x):=by
    rcases he with z |z
    .exact absurd (hbe.trans z) hb
    .rw[hbe];exact z
   rw[q] at q';cases q';obtain⟨v,hv⟩:=heo;exact⟨v,by rw[hbe];exact hv⟩
  .refine (ok b u q).stay (λc v hc r=>k c v ?_ r) (λc r=>by rw[ax (nown c b r)];exact r) λc xs r=>by rw[ax (ntup c xs r)];exact r
   rcases hc with rfl |hc
   .exact hbe
   .rintro rfl;rcases he with z |z
    .exact nown c b hc z
    .rw[hc] at z;cases z;exact hb rfl
end
structure Un(fs ex:List Addr)(H H':Hp)(h h':Heap):Prop where
 keep:∀b o,h.get? b=some o->H b=none->b∉fs->b∉ex->h'.get? b=some o
 slot:∀b o,h.get? b=some o->H b=none->b∈fs->b∉ex->∃sl,h'.get? b=some { o with slots:=sl }
 free:∀b o,h.get? b=some o->H b=none->b∉ex->H' b=none
 there:∀b o,h.get? b=some o->b∉ex->∃o',h'.get? b=some o'
 tups:∀b xs,H b=some (.tup xs)->H' b=some (.tup xs)
 frzs:∀b o u,H b=some (.frz o u)->H' b=some (.frz o u)
 tbls:∀b ps,H b=some (.tbl ps)->∃more,H' b=some (.tbl (ps++more))
section
variable{fs ex:List Addr}{H H1:Hp}{h h1 h':Heap}{a x e:Addr}{o:HO}
def Un.any(u:Un fs ex H H1 h h1)(q:h.get? b=some ob)(n:H b=none)(hx:b∉ex):∃sl,h1.get? b=some { ob with slots:=sl }:=by
 by_cases hb:b∈fs
 .exact u.slot b ob q n hb hx
 .exact⟨ob.slots,u.keep b ob q n hb hx⟩
def Un.kept(k:∀b u,h.get? b=some u->h'.get? b=some u):Un fs ex H H h h':=
 ⟨λb ob q _ _ _=>k b ob q,λb ob q _ _ _=>⟨ob.slots,k b ob q⟩,λ_ _ _ n _=>n,λb ob q _=>⟨ob,k b ob q⟩,λ_ _ q=>q,λ_ _ _ q=>q,λ_ ps q=>⟨#[],by rw[q];simp⟩⟩
def Un.refl:Un fs ex H H h h:=Un.kept λ_ _ q=>q
def Un.laid(k:∀b u,h.get? b=some u->h'.get? b=some u)(hp:h.objs.size<=a)(hn:H a=none):Un fs ex H (upd H a o) h h' where
 keep:=λb u q _ _ _=>k b u q
 slot:=λb u q _ _ _=>⟨u.slots,k b u q⟩
 free:=λb u q n _=>by rw[ax (P_ (H_ (y_ q) hp))];exact n
 there:=λb u q _=>⟨u,k b u q⟩
 tups:=λb xs q=>by rw[ax (aL q hn)];exact q
 frzs:=λb u xs q=>by rw[ax (aL q hn)];exact q
 tbls:=λb ps q=>⟨#[],by rw[ax (aL q hn),q];simp⟩
def Un.write(mu:Mut (H x))(he:e=x\/H e=some (.own x))(k:∀b u,b≠e->h.get? b=some u->h'.get? b=some u)(heo:∃u,h'.get? e=some u):Un fs ex H (upd H x o) h h':=by
 have hx:∀b,H b=none->b≠x:=λb n z=>by subst z;rw[n] at mu;exact mu
 have hb:∀b,H b=none->b≠e:=λb n z=>by
  subst z;rcases he with r |r
  .exact hx b n r
  .rw[n] at r;cases r
 have hm:∀b u,H b=some u->¬ Mut (some u)->b≠x:=λb u q nm z=>by subst z;rw[q] at mu;exact nm mu
 refine⟨λb u q n _ _=>k b u (hb b n) q,λb u q n _ _=>⟨u.slots,k b u (hb b n) q⟩,λb u q n _=>by rw[ax (hx b n)];exact n,λb u q _=>?_,
  λb xs q=>by rw[ax (hm b _ q λz=>z)];exact q,λb u xs q=>by rw[ax (hm b _ q λz=>z)];exact q,λb ps q=>⟨#[],by rw[ax (hm b _ q λz=>z),q];simp⟩⟩
 by_cases hbe:b=e
 .subst hbe;exact heo
 .exact⟨u,k b u hbe q⟩
end
noncomputable def trk(h:Heap)(H:Hp):List Addr:=(List.range h.objs.size).filter λa=>(H a).isSome
def ft(h:Heap)(H:Hp):Heap:=W.hideAll h (trk h H)
def pM(h:Heap)(H:Hp):(ft h H).objs.size=h.objs.size:=W.hideAll_size _ _
def tV(e:h.get? b=some o)(n:H b=none):(ft h H).get? b=some o:=
 W.hideAll_get _ e λhm=>by have q:(H b).isSome=true:=(List.mem_filter.mp hm).2;rw[n] at q;simp at q
def vT(e:(ft h H).get? b=some o):h.get? b=some o/\H b=none:=by
 have e':h.get? b=some o:=W.of_hideAll (trk h H) e;refine⟨e',?_⟩;cases q:H b with
 |none=>rfl
 |some x=>have hm:b∈trk h H:=List.mem_filter.mpr ⟨N_.mpr (y_ e'),by simp [q]⟩;have z:(ft h H).get? b=none:=W.hideAll_none (trk h H) hm;rw[z] at e;cases e
noncomputable def GW(g h:Heap)(L:Addr):List (Addr×Obj):=(List.range h.objs.size).filterMap λa=>if a=L\/(g.get? a).isSome=true then none else (h.get? a).map λo=>(a,o)
noncomputable def gn(g h:Heap)(L d:Addr):List (Addr×Obj):=(GW g h L).filter λp=>decide (p.1≠d)
structure Mod(K:W.Frag)(mg:Ua)(base:Heap):Prop where
 kin:K.In base
 glob:base.Ns mainGlobals mg
 blt:∃mb,base.Ns builtinsNs mb/\∀x:Str,x ≠ "__name__"->mb x=bootBuiltins x
 nolimit:base.NoLimit
structure Cx where
 prog:Program
 w:World
 K:W.Frag
 mg:Str->Option Value
 base:Heap
 A:Around
 N:List Str
 s₀:Shared
 H₀:Hp
 env:Env
 outer:List Env
 stack:List Env
 ex:List Addr
 fn:Str->Bool
 calm:Bool
 pn:List (Addr×Obj)
 xe:Value->Shared->Prop
noncomputable def frs(l:List Env):List Addr:=l.filterMap (·.frame)
abbrev Cx.fs(X:Cx):List Addr:=frs X.outer
def Vis(sc:Scope)(x:Str):Prop:=sc.names.lookup x=some .local\/sc.names.lookup x=some .cell\/sc.names.lookup x=some .free
def Loc(sc:Scope)(x:Str):Prop:=sc.names.lookup x=some .local\/sc.names.lookup x=some .cell
def Look(env:Env)(h:Heap)(m:Ua)(x:Str)(u:Value):Prop:=
 (env.kindOf x=some .local/\m x=some u)\/((env.kindOf x=some .cell\/env.kindOf x=some .free)/\∃c,env.cells.lookup x=some c/\h.IsCell c (some u))
structure Cx.Ok(X:Cx):Prop where
 mod:Mod X.K X.mg X.base
 kind:X.env.scope.kind=.function
 glob:X.env.globals=mainGlobals
 blt:X.env.builtins=builtinsNs
 above:X.s₀.heap.objs.size<=X.env.locals
 inj:∀x y c,X.env.cells.lookup x=some c->X.env.cells.lookup y=some c->x=y
 has:∀x,(X.env.kindOf x=some .cell\/X.env.kindOf x=some .free)->∃c,X.env.cells.lookup x=some c
 cab:∀x c,X.fn x=true->X.env.cells.lookup x=some c->X.s₀.heap.objs.size<=c
 hd:X.calm=true->X.A.handled=none
 frames:X.A.frames=some X.stack
 stk:X.stack=X.outer\/(X.stack=X.env::X.outer/\X.env.frame=some X.env.locals)
 exf:∀b∈X.ex,b≠X.env.locals/\∀x c,X.env.cells.lookup x=some c->c≠b
 bs:∀b o,X.base.get? b=some o->X.s₀.heap.get? b=some o/\X.H₀ b=none
 bsz:X.base.objs.size<=X.s₀.heap.objs.size
 noex:∀b o,X.base.get? b=some o->b∉X.ex
 exfs:∀b∈X.ex,b∉X.fs
 funs:X.s₀.heap.FunFrames X.base X.outer
 frf:∀b∈X.fs,X.H₀ b=none
structure Inv(X:Cx)(pins:Ub)(σ:List (Option V))(H:Hp)(s:Shared):Prop where
 ok:X.Ok
 os:s.os=X.s₀.os
 bare:AllBare s.gens
 base:Un X.fs X.ex X.H₀ H X.s₀.heap s.heap
 loc:∃m,s.heap.Ns X.env.locals m/\∀(i:Nat) (x:Str) (v:V),X.N[i]?=some x->σ[i]?=some (some v)->Vis X.env.scope x->∃u,RelV v u/\Look X.env s.heap m x u
 cell:∀x c,X.env.cells.lookup x=some c->∃v,s.heap.IsCell c v
 free:H X.env.locals=none
 freeC:∀x c,X.env.cells.lookup x=some c->H c=none
 pin:∀p∈X.pn++pins,s.heap.get? p.1=some p.2/\H p.1=none/\p.1≠X.env.locals/\p.1∉X.fs/\∀v,p.2.data ≠ .cell v
 hok:HOk X.prog X.w H s.heap
 len:σ.length=X.N.length
section
variable{X:Cx}{pins:Ub}{σ:List (Option V)}{H H':Hp}{s:Shared}{h':Heap}
def Cx.Ok.nofr(ok:X.Ok)(e:X.base.get? b=some o):b∉X.fs:=λhb=>by
 have:=(ok.funs.mem hb).1
 rw[e] at this;cases this
def Inv.bs(I:Inv X pins σ H s):∀b o,X.base.get? b=some o->s.heap.get? b=some o/\H b=none:=λb o e=>
 ⟨I.base.keep b o (I.ok.bs b o e).1 (I.ok.bs b o e).2 (I.ok.nofr e) (I.ok.noex b o e),I.base.free b o (I.ok.bs b o e).1 (I.ok.bs b o e).2 (I.ok.noex b o e)⟩
def Inv.bk(I:Inv X pins σ H s):∀b o,X.base.get? b=some o->s.heap.get? b=some o:=λb o e=>(I.bs b o e).1
def Inv.mod(I:Inv X pins σ H s):Mod X.K X.mg X.base:=I.ok.mod
def Inv.kIn(I:Inv X pins σ H s):X.K.In s.heap:=I.ok.mod.kin.keeps I.bk
def Inv.nolimit(I:Inv X pins σ H s):s.heap.NoLimit:=I.ok.mod.nolimit.keeps I.bk
def Inv.lt(I:Inv X pins σ H s):X.env.locals<s.heap.objs.size:=let ⟨_,hn,_⟩:=I.loc;hn.lt
def Inv.sz(I:Inv X pins σ H s):X.s₀.heap.objs.size<=s.heap.objs.size:=F_ I.ok.above (Sx I.lt)
def Inv.nofs(I:Inv X pins σ H s)(h:s.heap.objs.size<=a):a∉X.fs:=λhb=>by obtain⟨_,o,ho,_⟩:=I.ok.funs.mem hb;exact absurd (H_ (y_ ho) (F_ I.sz h)) (Rg _)
def Inv.cne(I:Inv X pins σ H s):∀x c,X.env.cells.lookup x=some c->c≠X.env.locals:=λx c e z=>by obtain⟨v,o,ho,hd⟩:=I.cell x c e;obtain⟨m,⟨o',es,ep,ho',hd',_⟩,_⟩:=I.loc;rw[z,ho'] at ho;cases ho;rw[hd'] at hd;cases hd
def Inv.funs(I:Inv X pins σ H s):s.heap.FunFrames X.base X.outer:=by
 have all:∀(l:List Env),(∀b∈frs l,b∈X.fs)->X.s₀.heap.FunFrames X.base l->s.heap.FunFrames X.base l:=by
  intro l;induction l with
  |nil=>intro _ _;trivial
  |cons env r ih=>intro hs hl;obtain⟨hk,⟨L,o,hf,hn,ho,hd⟩,hr⟩:=hl;have hL:L∈X.fs:=hs L (by unfold frs;rw[RV,hf];exact r_);obtain⟨sl,e⟩:=I.base.slot L o ho (I.ok.frf L hL) hL λz=>I.ok.exfs L z hL;exact⟨hk,⟨L,_,hf,hn,e,hd⟩,ih (λb hb=>hs b (by unfold frs;rw[RV,hf];exact n_ _ hb)) hr⟩
 exact all X.outer (λ_ hb=>hb) I.ok.funs
def Inv.stack(I:Inv X pins σ H s):s.heap.FunFrames X.base X.stack:=by
 rcases I.ok.stk with e |⟨e,hf⟩
 .rw[e];exact I.funs
 .rw[e];obtain⟨m,hn,_⟩:=I.loc;refine .cons (by rw[I.ok.kind];decide) hf hn ?_ I.funs;exact Tf (F_ I.ok.bsz I.ok.above)
def Inv.stkSub(I:Inv X pins σ H s):∀b∈frs X.stack,b∈X.env.locals::X.fs:=λb hb=>by
 rcases I.ok.stk with e |⟨e,hf⟩
 .rw[e] at hb;exact n_ _ hb
 .rw[e] at hb;unfold frs at hb;rw[RV,hf] at hb;exact hb
def Inv.stkFree(I:Inv X pins σ H s):∀b∈frs X.stack,H b=none:=λb hb=>by
 rcases I_.mp (I.stkSub b hb) with e |hb
 .rw[e];exact I.free
 .obtain⟨_,o,ho,_⟩:=I.ok.funs.mem hb;exact I.base.free b o ho (I.ok.frf b hb) λz=>I.ok.exfs b z hb
def Inv.step{g':Array GenState}{t':Nat}{d':Drawn}{ch:List Addr}(I:Inv X pins σ H s)
 (hch:∀b∈ch,(b∈X.ex\/X.s₀.heap.objs.size<=b)/\b≠X.env.locals/\(∀x c,X.env.cells.lookup x=some c->c≠b)/\∀p∈X.pn++pins,p.1≠b)
 (keep:∀b o,b≠X.env.locals->b∉X.fs->b∉ch->s.heap.get? b=some o->H b=none->h'.get? b=some o)
 (slot:∀b o,b≠X.env.locals->b∈X.fs->b∉ch->s.heap.get? b=some o->H b=none->∃sl,h'.get? b=some { o with slots:=sl }) (free:∀b o,b∉ch->s.heap.get? b=some o->H b=none->H' b=none)
 (there:∀b o,b∉ch->s.heap.get? b=some o->∃o',h'.get? b=some o')
 (tups:∀b xs,H b=some (.tup xs)->H' b=some (.tup xs)) (frzs:∀b o u,H b=some (.frz o u)->H' b=some (.frz o u)) (tbls:∀b ps,H b=some (.tbl ps)->∃more,H' b=some (.tbl (ps++more)))
 (ns:∀m,s.heap.Ns X.env.locals m->h'.Ns X.env.locals m) (hok:HOk X.prog X.w H' h') (hg:AllBare g'):
 Inv X pins σ H' { s with heap:=h',gens:=g',drawn:=d',toks:=t' }:=by
 have neL:∀b o,X.s₀.heap.get? b=some o->b≠X.env.locals:=λb o e=>P_ (H_ (y_ e) I.ok.above);have neC:∀b o,X.s₀.heap.get? b=some o->b∉X.ex->b∉ch:=λb o e hx hb=>by
  rcases (hch b hb).1 with z |z
  .exact hx z
  .exact absurd (H_ (y_ e) z) (Rg _)
 have cellK:∀x c,X.env.cells.lookup x=some c->∀v,s.heap.IsCell c v->h'.IsCell c v:=λx c e v ⟨o,ho,hd⟩=>by
  have nch:c∉ch:=λz=>(hch c z).2.2.1 x c e rfl;by_cases hc:c∈X.fs
  .obtain⟨sl,q⟩:=slot c o (I.cne x c e) hc nch ho (I.freeC x c e);exact⟨_,q,hd⟩
  .exact⟨o,keep c o (I.cne x c e) hc nch ho (I.freeC x c e),hd⟩
 refine⟨I.ok,I.os,hg,⟨λb o e n hb hx=>?_,λb o e n hb hx=>?_,λb o e n hx=>?_,λb o e hx=>?_,λb xs e=>tups b xs (I.base.tups b xs e),λb o xs e=>frzs b o xs (I.base.frzs b o xs e),λb ps e=>?_⟩,?_,λx c e=>?_,?_,λx c e=>?_,λp hp=>?_,hok,I.len⟩
 .exact keep b o (neL b o e) hb (neC b o e hx) (I.base.keep b o e n hb hx) (I.base.free b o e n hx)
 .obtain⟨sl,e1⟩:=I.base.slot b o e n hb hx;obtain⟨sl',e2⟩:=slot b _ (neL b o e) hb (neC b o e hx) e1 (I.base.free b o e n hx);exact⟨sl',e2⟩
 .obtain⟨o',e1⟩:=I.base.there b o e hx;exact free b o' (neC b o e hx) e1 (I.base.free b o e n hx)
 .obtain⟨o',e1⟩:=I.base.there b o e hx;exact there b o' (neC b o e hx) e1
 .obtain⟨m1,e1⟩:=I.base.tbls b ps e;obtain⟨m2,e2⟩:=tbls b _ e1;exact⟨m1++m2,by rw[e2,Array.append_assoc]⟩
 .obtain⟨m,hn,hl⟩:=I.loc;refine⟨m,ns m hn,λi x v e1 e2 e3=>?_⟩;obtain⟨u,r,l⟩:=hl i x v e1 e2 e3;refine⟨u,r,?_⟩;rcases l with l |⟨k,c,e,z⟩
  .exact .inl l
  .exact .inr ⟨k,c,e,cellK x c e _ z⟩
 .obtain⟨v,z⟩:=I.cell x c e;exact⟨v,cellK x c e v z⟩
 .obtain⟨m,⟨o,_,_,ho,_⟩,_⟩:=I.loc;exact free _ o (λz=>(hch _ z).2.1 rfl) ho I.free
 .obtain⟨v,o,ho,hd⟩:=I.cell x c e;exact free c o (λz=>(hch c z).2.2.1 x c e rfl) ho (I.freeC x c e)
 .obtain⟨e,n,ne,nf,d⟩:=I.pin p hp;have nch:p.1∉ch:=λz=>(hch p.1 z).2.2.2 p hp rfl;exact⟨keep p.1 p.2 ne nf nch e n,free p.1 p.2 nch e n,ne,nf,d⟩
def Inv.un{t':Nat}(I:Inv X pins σ H s)(u:Un X.fs [] H H' s.heap h')(hok:HOk X.prog X.w H' h'):Inv X pins σ H' { s with heap:=h',toks:=t' }:=by obtain⟨m,⟨o,es,ep,ho,r⟩,_⟩:=id I.loc;obtain⟨sl,hL⟩:=u.any ho I.free (by simp);exact I.step (g':=s.gens) (d':=s.drawn) (ch:=[]) (λ_ z=>nomatch z) (λb o _ hb _ e n=>u.keep b o e n hb (by simp)) (λb o _ hb _ e n=>u.slot b o e n hb (by simp)) (λb o _ e n=>u.free b o e n (by simp)) (λb o _ e=>u.there b o e (by simp)) u.tups u.frzs u.tbls (λm' hm=>by obtain⟨o',es',ep',ho',r'⟩:=hm;rw[ho] at ho';cases ho';exact⟨_,es',ep',hL,r'⟩) hok I.bare
def Inv.call{g':Array GenState}{t':Nat}{d':Drawn}{ch:List Addr}(I:Inv X pins σ H s)(u:Un (frs X.stack) ch H H' s.heap h')(hok:HOk X.prog X.w H' h')(hg:AllBare g')
 (hch:∀b∈ch,(b∈X.ex\/X.s₀.heap.objs.size<=b)/\b≠X.env.locals/\(∀x c,X.env.cells.lookup x=some c->c≠b)/\∀p∈X.pn++pins,p.1≠b):
 Inv X pins σ H' { s with heap:=h',gens:=g',drawn:=d',toks:=t' }:=by
 obtain⟨m,⟨o,es,ep,ho,r⟩,_⟩:=id I.loc;obtain⟨sl,hL⟩:=u.any ho I.free λz=>(hch _ z).2.1 rfl;exact I.step (ch:=ch) hch (λb o hL hb hc e n=>u.keep b o e n (λz=>(I_.mp (I.stkSub b z)).elim hL hb) hc) (λb o _ _ hc e n=>u.any e n hc) (λb o hc e n=>u.free b o e n hc) (λb o hc e=>u.there b o e hc) u.tups u.frzs u.tbls (λm' hm=>by obtain⟨o',es',ep',ho',r'⟩:=hm;rw[ho] at ho';cases ho';exact⟨_,es',ep',hL,r'⟩) hok hg
def Inv.turned{t':Nat}{it:Addr}(I:Inv X pins σ H s)(k:∀b o,b≠it->s.heap.get? b=some o->h'.get? b=some o)(hn:H it=none)(hL:it≠X.env.locals)
 (h1:it∈X.ex\/X.s₀.heap.objs.size<=it) (h2:∀x c,X.env.cells.lookup x=some c->c≠it) (h3:∀p∈X.pn++pins,p.1≠it):Inv X pins σ H { s with heap:=h',toks:=t' }:=by
 have nit:∀b u,H b=some u->b≠it:=λb u e z=>by rw[z,hn] at e;cases e
 refine I.step (g':=s.gens) (d':=s.drawn) (ch:=[it]) (λb hb=>?_) (λb o _ _ hc e _=>k b o (λz=>hc (by simp [z])) e) (λb o _ _ hc e _=>⟨o.slots,k b o (λz=>hc (by simp [z])) e⟩) (λ_ _ _ _ n=>n)
  (λb o hc e=>⟨o,k b o (λz=>hc (by simp [z])) e⟩) (λ_ _ e=>e) (λ_ _ _ e=>e) (λb ps e=>⟨#[],by rw[e];simp⟩) (λm hm=>?_) (λb u e=>?_) I.bare
 .have e:b=it:=by simpa using hb
  subst e;exact⟨h1,hL,h2,h3⟩
 .obtain⟨o,es,ep,ho,r⟩:=hm;exact⟨o,es,ep,k _ o (Ne.symm hL) ho,r⟩
 .refine (I.hok b u e).stay (λc v hc q=>k c v ?_ q) (λ_ q=>q) λ_ _ q=>q;rcases hc with z |z
  .rw[z];exact nit b u e
  .exact nit c _ z
def Inv.tok(I:Inv X pins σ H s)(t:Nat):Inv X pins σ H { s with toks:=t }:=I.un (h':=s.heap) (t':=t) Un.refl I.hok
def Inv.kept(I:Inv X pins σ H s)(k:∀b u,s.heap.get? b=some u->h'.get? b=some u):Inv X pins σ H { s with heap:=h',toks:=t' }:=I.un (Un.kept k) (I.hok.kept k)
def Inv.laid(I:Inv X pins σ H s)(k:∀b u,s.heap.get? b=some u->h'.get? b=some u)(hp:s.heap.objs.size<=a)(new:ObjOk X.prog X.w (upd H a o) h' a o):
 Inv X pins σ (upd H a o) { s with heap:=h',toks:=t' }:=I.un (Un.laid k hp (I.hok.fresh hp)) (I.hok.laid k hp new)
def Inv.write(I:Inv X pins σ H s)(mu:Mut (H x))(he:e=x\/H e=some (.own x))(k:∀b u,b≠e->s.heap.get? b=some u->h'.get? b=some u)(heo:∃u,h'.get? e=some u)
 (new:ObjOk X.prog X.w (upd H x o) h' x o):Inv X pins σ (upd H x o) { s with heap:=h',toks:=t' }:=I.un (Un.write mu he k heo) (I.hok.write mu he k heo new)
def Inv.pins_of(I:Inv X pins σ H s)(h:∀p∈pins',s.heap.get? p.1=some p.2/\H p.1=none/\p.1≠X.env.locals/\p.1∉X.fs/\∀v,p.2.data ≠ .cell v):Inv X pins' σ H s:=
 ⟨I.ok,I.os,I.bare,I.base,I.loc,I.cell,I.free,I.freeC,λp hp=>(RL.mp hp).elim (λz=>I.pin p (Ti _ z)) (h p),I.hok,I.len⟩
def uV{N:List Str}(hN:N.Nodup){i j:Nat}{x:Str}(a:N[i]?=some x)(b:N[j]?=some x):i=j:=by obtain⟨h1,e1⟩:=s_.mp a;obtain⟨h2,e2⟩:=s_.mp b;exact (List.getElem_inj hN).mp (e1.trans e2.symm)
def pQ(I:Inv X pins σ H s)(hN:X.N.Nodup)(hi:X.N[i]?=some x)(hx:Loc X.env.scope x)(r:RelV v u)
 (h:∀s',Inv X pins (σ.set i (some v)) H s'->(∃a,Heap.SameBut a s.heap s'.heap/\(a=X.env.locals\/X.env.cells.lookup x=some a))->Q () s') (hf:X.fn x=true\/X.env.scope.names.lookup x=some .local):wpAny M A (storeName X.env x u) Q E s:=by
 obtain⟨m,hn,hl⟩:=id I.loc;have hcls:(X.env.scope.kind == .class || (X.env.scope.kind == .module&&X.env.locals != X.env.globals))=false:=by rw[I.ok.kind];rfl
 have hiσ:i<σ.length:=by rw[I.len];exact (s_.mp hi).1
 have cne:=I.cne;have tracked:∀{a:Addr}{h':Heap},(∃o,s.heap.get? a=some o/\H a=none)->Heap.SameBut a s.heap h'->HOk X.prog X.w H h':=λ{a h'} ha hs b ob e=>by
  obtain⟨_,_,hfree⟩:=ha;refine (I.hok b ob e).stay (λc w' hc q=>(hs.2 c ?_).trans q) (λ_ q=>q) λ_ _ q=>q;rintro rfl;rcases hc with rfl |hc
  .rw[hfree] at e;cases e
  .rw[hfree] at hc;cases hc
 rcases hx with hk |hk
 .refine wpAny_storeName_local hk hn (λh' hn' hs=>?_) hcls;obtain⟨oL,_,_,hoL,_⟩:=id hn;refine h _ ⟨I.ok,I.os,I.bare,⟨λb o e n hb hx=>?_,λb o e n hb hx=>?_,I.base.free,λb o e hx=>?_,I.base.tups,I.base.frzs,I.base.tbls⟩,⟨_,hn',λj y v' e1 e2 e3=>?_⟩,λy c e=>?_,I.free,I.freeC,λp hp=>?_,tracked ⟨oL,hoL,I.free⟩ hs,by simpa using I.len⟩ ⟨_,hs,.inl rfl⟩
  .exact (hs.2 b (P_ (H_ (y_ e) I.ok.above))).trans (I.base.keep b o e n hb hx)
  .obtain⟨sl,e1⟩:=I.base.slot b o e n hb hx;exact⟨sl,(hs.2 b (P_ (H_ (y_ e) I.ok.above))).trans e1⟩
  .obtain⟨o',e1⟩:=I.base.there b o e hx;exact⟨o',(hs.2 b (P_ (H_ (y_ e) I.ok.above))).trans e1⟩
  .by_cases hj:j=i
   .subst hj;rw[hi] at e1;cases e1;rw[List.getElem?_set_self hiσ] at e2;cases e2;exact⟨u,r,.inl ⟨hk,by simp⟩⟩
   .rw[Th (Ne.symm hj)] at e2;obtain⟨u',r',q⟩:=hl j y v' e1 e2 e3;refine⟨u',r',?_⟩;rcases q with ⟨k,e⟩ |⟨k,c,e,z⟩
    .refine .inl ⟨k,?_⟩;have:y≠x:=λe=>hj (uV hN e1 (e ▸ hi));simp [this,e]
    .exact .inr ⟨k,c,e,z.sameBut hs (cne y c e)⟩
  .obtain⟨w',z⟩:=I.cell y c e;exact⟨w',z.sameBut hs (cne y c e)⟩
  .obtain⟨e,n,ne,nf,d⟩:=I.pin p hp;exact⟨(hs.2 p.1 ne).trans e,n,ne,nf,d⟩
 .have hfn:X.fn x=true:=by
   rcases hf with z |z
   .exact z
   .rw[z] at hk;cases hk
  obtain⟨c,hc⟩:=I.ok.has x (.inl hk);obtain⟨w',z⟩:=I.cell x c hc;refine wpAny_storeName_cell I.ok.kind hk hc z (λh' hc' hs=>?_);obtain⟨oc,hoc,hocd⟩:=id z;refine h { s with heap:=h' } ⟨I.ok,I.os,I.bare,⟨λb o e n hb hx=>?_,λb o e n hb hx=>?_,I.base.free,λb o e hx=>?_,I.base.tups,I.base.frzs,I.base.tbls⟩,⟨m,hn.sameBut hs (Ne.symm (cne x c hc)),λj y v' e1 e2 e3=>?_⟩,λy c' e=>?_,I.free,I.freeC,λp hp=>?_,tracked ⟨oc,hoc,I.freeC x c hc⟩ hs,by simpa using I.len⟩ ⟨c,hs,.inr hc⟩
  .exact (hs.2 b (P_ (H_ (y_ e) (I.ok.cab x c hfn hc)))).trans (I.base.keep b o e n hb hx)
  .obtain⟨sl,e1⟩:=I.base.slot b o e n hb hx;exact⟨sl,(hs.2 b (P_ (H_ (y_ e) (I.ok.cab x c hfn hc)))).trans e1⟩
  .obtain⟨o',e1⟩:=I.base.there b o e hx;exact⟨o',(hs.2 b (P_ (H_ (y_ e) (I.ok.cab x c hfn hc)))).trans e1⟩
  .by_cases hj:j=i
   .subst hj;rw[hi] at e1;cases e1;rw[List.getElem?_set_self hiσ] at e2;cases e2;exact⟨u,r,.inr ⟨.inl hk,c,hc,hc'⟩⟩
   .rw[Th (Ne.symm hj)] at e2;obtain⟨u',r',q⟩:=hl j y v' e1 e2 e3;refine⟨u',r',?_⟩;rcases q with q |⟨k,c',e,z'⟩
    .exact .inl q
    .refine .inr ⟨k,c',e,z'.sameBut hs ?_⟩;rintro rfl;exact hj (uV hN e1 (I.ok.inj _ _ _ e hc ▸ hi))
  .by_cases hcc:c'=c
   .subst hcc;exact⟨_,hc'⟩
   .obtain⟨w2,z2⟩:=I.cell y c' e;exact⟨w2,z2.sameBut hs hcc⟩
  .obtain⟨e,n,ne,nf,d⟩:=I.pin p hp;refine⟨(hs.2 p.1 ?_).trans e,n,ne,nf,d⟩;intro q;rw[q,hoc] at e;have q':oc=p.2:=J_ e;exact d w' (by rw[<- q'];exact hocd)
def gW(I:Inv X pins σ H s)(hN:X.N.Nodup)(hi:X.N[i]?=some x)(hx:Loc X.env.scope x)(r:RelV v u)
 (h:∀s',Inv X pins (σ.set i (some v)) H s'->Q () s') (hf:X.fn x=true\/X.env.scope.names.lookup x=some .local):wpAny M A (storeName X.env x u) Q E s:=
 pQ I hN hi hx r (λs' I' _=>h s' I') hf
def Inv.call'(I:Inv X pins σ H s)(ho:s'.os=s.os)(u:Un (frs X.stack) ch H H' s.heap s'.heap)(hok:HOk X.prog X.w H' s'.heap)(hg:AllBare s'.gens)
 (hch:∀b∈ch,(b∈X.ex\/X.s₀.heap.objs.size<=b)/\b≠X.env.locals/\(∀x c,X.env.cells.lookup x=some c->c≠b)/\∀p∈X.pn++pins,p.1≠b):Inv X pins σ H' s':=by
 obtain⟨h',g',d',t',o'⟩:=s';have e:o'=s.os:=ho;subst e;exact I.call (g':=g') (t':=t') (d':=d') u hok hg hch
end
abbrev XK:=Value->Option Addr->Hp->Prop
abbrev St:=List (Option V)
abbrev VK:=V->Hp->Prop
abbrev TE:=St->Hp->VK->Prop
abbrev TT:=St->Hp->(Bool->Hp->Prop)->Prop
abbrev TA:=St->Hp->(List V->Hp->Prop)->Prop
structure Ends where
 nx:St->Hp->Prop
 rt:VK
 bk:St->Hp->Prop:=λ_ _=>False
 ct:St->Hp->Prop:=λ_ _=>False
abbrev TS:=Ends->St->Hp->Prop
def EP(X:Cx)(pins:Ub)(σ:St)(Q:VK)(u:Value)(s':Shared):Prop:=∃v H',Inv X pins σ H' s'/\RelV v u/\Q v H'
def TP(X:Cx)(pins:Ub)(σ:St)(Q:Bool->Hp->Prop)(b:Bool)(s':Shared):Prop:=∃H',Inv X pins σ H' s'/\Q b H'
def AP(X:Cx)(pins:Ub)(σ:St)(Q:List V->Hp->Prop)(us:List Value)(s':Shared):Prop:=∃vs H',Inv X pins σ H' s'/\Vals vs us/\Q vs H'
def SP(X:Cx)(pins:Ub)(D:Ends)(f:Flow)(s':Shared):Prop:=
 match f with
 |.next=>∃σ' H',Inv X pins σ' H' s'/\D.nx σ' H'
 |.brk=>∃σ' H',Inv X pins σ' H' s'/\D.bk σ' H'
 |.cont=>∃σ' H',Inv X pins σ' H' s'/\D.ct σ' H'
 |.ret u=>∃v σ' H',Inv X pins σ' H' s'/\RelV v u/\D.rt v H'
def PE(X:Cx)(e:Expr)(t:TE):Prop:=
 ∀(pins:Ub) (s:Shared) (σ:St) (H:Hp) (Q:VK),Inv X pins σ H s->t σ H Q->wpAny (model X.prog X.w) X.A (eval e X.env) (EP X pins σ Q) X.xe s
def PT(X:Cx)(e:Expr)(t:TT):Prop:=
 ∀(pins:Ub) (s:Shared) (σ:St) (H:Hp) (Q:Bool->Hp->Prop),Inv X pins σ H s->t σ H Q->wpAny (model X.prog X.w) X.A (isTrue e X.env (eval e X.env)) (TP X pins σ Q) X.xe s
def PW(X:Cx)(e:Expr)(t:TT):Prop:=
 ∀(db:Sem Value) (pins:Ub) (s:Shared) (σ:St) (H:Hp) (Q:Bool->Hp->Prop),Inv X pins σ H s->t σ H Q->wpAny (model X.prog X.w) X.A (isTrue e X.env db) (TP X pins σ Q) X.xe s
def PW.pt(h:PW X e t):PT X e t:=h _
def PA(X:Cx)(es:List Expr)(t:TA):Prop:=
 ∀(pos:Pos) (pins:Ub) (s:Shared) (σ:St) (H:Hp) (Q:List V->Hp->Prop),Inv X pins σ H s->t σ H Q->wpAny (model X.prog X.w) X.A (spliced (backTo pos (starEach es X.env))) (AP X pins σ Q) X.xe s
def PS(X:Cx)(st:Stmt)(t:TS):Prop:=
 ∀(pins:Ub) (s:Shared) (σ:St) (H:Hp) (D:Ends),Inv X pins σ H s->t D σ H->wpAny (model X.prog X.w) X.A (exec st X.env) (SP X pins D) X.xe s
def PSs(X:Cx)(st:List Stmt)(t:TS):Prop:=
 ∀(pins:Ub) (s:Shared) (σ:St) (H:Hp) (D:Ends),Inv X pins σ H s->t D σ H->wpAny (model X.prog X.w) X.A (execs st X.env) (SP X pins D) X.xe s
def thn(h:wpAny M A t Q E s)(hQ:∀a s,Q a s->Q' a s):wpAny M A t Q' E s:=QR h hQ λ_ _ x=>x
section
variable{X:Cx}
def tVar(i:Nat):TE:=λσ H Q=>∃v,σ[i]?=some (some v)/\Q v H
def tC(v:V):TE:=λ_ H Q=>Q v H
def JJ(hN:X.N[i]?=some x)(hv:Vis X.env.scope x)(hd:(x==("__debug__" : Str))=false)(kw:(x==("__classdict__" : Str))=false):PE X (.Name x pos) (tVar i):=by
 intro pins s σ H Q I h;obtain⟨v,e,h⟩:=h;obtain⟨m,hn,hl⟩:=I.loc;obtain⟨u,r,l⟩:=hl i x v hN e hv;have i_:EP X pins σ Q u s:=⟨v,H,I,r,h⟩;rcases l with ⟨hk,hm⟩ |⟨hk,c,hc,k_⟩
 .exact wpAny_Name (Ts I.ok.kind hk hn hm i_) hd
 .rcases hk with hk |hk
  .exact wpAny_Name (wpAny_loadName_cell I.ok.kind hk hc k_ i_) hd
  .exact wpAny_Name (wpAny_loadName_free I.ok.kind hk hc k_ i_ kw) hd
def Kn{i j pos}:PE X (.Constant (.int i) j pos) (tC (.int i)):=λ_ _ _ H _ I h=>wpAny_Constant_int ⟨.int i,H,I.tok _,⟨_,rfl⟩,h⟩
def QD{b j pos}:PE X (.Constant (.bool b) j pos) (tC (.bl b)):=λ_ _ _ H _ I h=>Constant_bool ⟨.bl b,H,I,rfl,h⟩
def Jc{x j pos}:PE X (.Constant (.str x) j pos) (tC (.str x)):=λ_ _ _ H _ I h=>Calls.Constant_str ⟨.str x,H,I.tok _,⟨_,rfl⟩,h⟩
def Gl(X:Cx)(x:Str):Prop:=X.env.kindOf x=some .globalImplicit
def n9(I:Inv X pins σ H s)(hg:Gl X x)(hm:X.mg x=some u)(h:Q u s)
 (hd:(x==("__debug__" : Str))=false):wpAny (model X.prog X.w) X.A (eval (.Name x pos) X.env) Q E s:=
 Calls.Name_function_global I.ok.kind hg (Calls.loadGlobal_global (by rw[I.ok.glob];exact I.mod.glob.keeps I.bk) hm h) hd
def cU(I:Inv X pins σ H s)(hg:Gl X x)(hm:X.mg x=none)(hv:bootBuiltins x=some u)(h:Q u s)
 (hn:x ≠ "__name__":=by decide) (hd:(x==("__debug__" : Str))=false:=by decide):wpAny (model X.prog X.w) X.A (eval (.Name x pos) X.env) Q E s:=by
 obtain⟨mb,h1,h2⟩:=I.mod.blt;exact Calls.Name_function_global I.ok.kind hg (Calls.loadGlobal_builtin (by rw[I.ok.glob];exact I.mod.glob.keeps I.bk) hm (by rw[I.ok.blt];exact h1.keeps I.bk) ((h2 x hn).trans hv) h) hd
def vV(hg:Gl X x)(hm:X.mg x=some u)(r:RelV v u)(hd:(x==("__debug__" : Str))=false):PE X (.Name x pos) (tC v):=
 λ_ _ _ H _ I h=>n9 I hg hm ⟨v,H,I,r,h⟩ hd
def GU(hg:Gl X x)(hm:X.mg x=none)(hv:bootBuiltins x=some u)(r:RelV v u)(hn:x ≠ "__name__")(hd:(x==("__debug__" : Str))=false):PE X (.Name x pos) (tC v):=
 λ_ _ _ H _ I h=>cU I hg hm hv ⟨v,H,I,r,h⟩ hn hd
variable{a b:Expr}{ta tb:TE}{pos:Pos}
def tB(t:TE):TT:=λσ H Q=>t σ H λx H1=>∃c,x=.bl c/\Q c H1
def JD(h:PE X e t)(he:∀db,isTrue e X.env db=(do let v <- db;standAt e.pos;holding [v] (truthy v))):PT X e (tB t):=by intro pins s σ H Q I hw;refine isTrue_plain (thn (h pins s σ H _ I hw) λv s1 ⟨x,H1,I1,r1,q1⟩=>?_) (he _);obtain⟨d,rfl,q⟩:=q1;cases r1;exact R_ ⟨H1,I1,q⟩
variable{tA tB':TT}{gn:List Expr}
def tAnd(t u:TT):TT:=λσ H Q=>t σ H λc H1=>if c=true then u σ H1 Q else Q false H1
def tOr(t u:TT):TT:=λσ H Q=>t σ H λc H1=>if c=true then Q true H1 else u σ H1 Q
def tNot(t:TT):TT:=λσ H Q=>t σ H λc H1=>Q (!c) H1
def Iv(ha:PT X a tA):PW X (.BoolOp .And [a] pos) tA:=by
 intro wh pins s σ H Q I h;refine isTrue_and (thn (ha pins s σ H Q I h) λc s1 e=>?_);cases c with
 |true=>exact isTrue_and_nil e
 |false=>exact e
def Jk(ha:PT X a tA):PW X (.BoolOp .Or [a] pos) tA:=by
 intro wh pins s σ H Q I h;refine isTrue_or (thn (ha pins s σ H Q I h) λc s1 e=>?_);cases c with
 |false=>exact isTrue_or_nil e
 |true=>exact e
def Kh(ha:PT X a tA)(hb:PW X (.BoolOp .And (b::gn) pos) tB'):PW X (.BoolOp .And (a::b::gn) pos) (tAnd tA tB'):=by
 intro wh pins s σ H Q I h;refine isTrue_and (thn (ha pins s σ H _ I h) λc s1 ⟨H1,I1,q1⟩=>?_);cases c with
 |true=>exact hb wh pins s1 σ H1 Q I1 q1
 |false=>exact⟨H1,I1,q1⟩
def Qt(ha:PT X a tA)(hb:PW X (.BoolOp .Or (b::gn) pos) tB'):PW X (.BoolOp .Or (a::b::gn) pos) (tOr tA tB'):=by
 intro wh pins s σ H Q I h;refine isTrue_or (thn (ha pins s σ H _ I h) λc s1 ⟨H1,I1,q1⟩=>?_);cases c with
 |true=>exact⟨H1,I1,q1⟩
 |false=>exact hb wh pins s1 σ H1 Q I1 q1
def M1(ha:PT X a tA):PT X (.UnaryOp .Not a pos) (tNot tA):=by intro pins s σ H Q I h;exact isTrue_not (ha pins s σ H (λc H1=>Q (!c) H1) I h)
def Pl(ta tb:TE):TE:=λσ H Q=>ta σ H λx H1=>∃c,x=.bl c/\if c=true then tb σ H1 Q else Q (.bl false) H1
def PR(ta:TE):TE:=λσ H Q=>ta σ H λx H1=>∃c,x=.bl c/\Q (.bl (!c)) H1
def LP{op}(h:PE X a t):PE X (.BoolOp op [a] pos) t:=λpins s σ H Q I hw=>BoolOp_one (h pins s σ H Q I hw)
def LU(ha:PE X a ta)(hb:PE X (.BoolOp .And (b::gn) pos) tb):PE X (.BoolOp .And (a::b::gn) pos) (Pl ta tb):=by
 intro pins s σ H Q I h;refine BoolOp_and (thn (ha pins s σ H _ I h) λv s1 ⟨x,H1,I1,r1,q1⟩=>?_);obtain⟨c,rfl,q1⟩:=q1;cases r1;refine R_ ?_;cases c with
 |true=>exact hb pins s1 σ H1 Q I1 q1
 |false=>exact⟨.bl false,H1,I1,rfl,q1⟩
def Mw(ha:PE X a ta):PE X (.UnaryOp .Not a pos) (PR ta):=by intro pins s σ H Q I h;refine UnaryOp_ (thn (ha pins s σ H _ I h) λv s1 ⟨x,H1,I1,r1,q1⟩=>?_);obtain⟨c,rfl,q1⟩:=q1;cases r1;exact not_of (R_ ⟨.bl (!c),H1,I1,rfl,q1⟩)
end
def SqL(K:W.Frag)(H:Hp)(a:Addr)(xs:List V):Prop:=
 Rd H a (.lst xs)\/
  ∃(o:Obj) (its:Array Value) (n:Nat),K.lookup a=some o/\o.cls=.type "list" /\ o.dict=none/\o.data=.seq its n/\its.size<=sizeLine/\Vals xs its.toList
def SqT(K:W.Frag)(H:Hp)(a:Addr)(xs:List V):Prop:=
 Rd H a (.tup xs)\/
  ∃(o:Obj) (its:Array Value) (n:Nat),K.lookup a=some o/\o.cls=.type "tuple" /\ o.data=.seq its n/\its.size<=sizeLine/\Vals xs its.toList
noncomputable def absV:Value->Option V
 |.none=>some .non
 |.bool b=>some (.bl b)
 |.int i _=>some (.int i)
 |.str x _=>some (.str x)
 |.bytes b _=>some (.byt b)
 |.float b _=>some (.flt b)
 |.ref a=>some (.ref a)
 |.type n=>some (.ty n)
 |_=>none
def RelV.abs(r:RelV x u):absV u=some x:=by
 cases x with
 |non=>cases r;rfl
 |bl _=>cases r;rfl
 |int _=>obtain⟨t,rfl⟩:=r;rfl
 |str _=>obtain⟨t,rfl⟩:=r;rfl
 |byt _=>obtain⟨t,rfl⟩:=r;rfl
 |flt _=>obtain⟨t,rfl⟩:=r;rfl
 |ref _=>cases r;rfl
 |ty _=>cases r;rfl
def RelV.inj(r:RelV x u)(q:RelV y u):x=y:=J_ (r.abs.symm.trans q.abs)
def Vals.inj(r:Vals xs us)(q:Vals ys us):xs=ys:=by
 induction r generalizing ys with
 |nil=>cases q;rfl
 |
  cons r t ih=>
  cases q with
  |cons q t'=>rw[r.inj q,ih t']
section
variable{X:Cx}{pins:Ub}{σ:St}{H:Hp}{s:Shared}{a:Addr}{xs ys:List V}
def SqL.of{K:W.Frag}(h:H a=some (.lst xs)):SqL K H a xs:=.inl (.inl h)
def SqT.of{K:W.Frag}(h:H a=some (.tup xs)):SqT K H a xs:=.inl (.inl h)
def Inv.list(I:Inv X pins σ H s)(h:SqL X.K H a xs):∃its:List Value,Vals xs its/\PlainL s.heap a its.toArray/\xs.length<=sizeLine:=by
 rcases h with h |⟨o,its,n,hk,hc,hd,hs,hz,r⟩
 .obtain⟨z,its,n,r,e⟩:=h.ok I.hok;exact⟨its,r,⟨_,n,e,rfl,rfl,rfl⟩,z⟩
 .refine⟨its.toList,r,⟨o,n,I.kIn a o hk,hc,hd,by simpa using hs⟩,?_⟩;have e:=r.length;simp only[Q0] at e;omega
def Inv.tuple(I:Inv X pins σ H s)(h:SqT X.K H a xs):∃its:List Value,Vals xs its/\IsTup s.heap a its.toArray/\xs.length<=sizeLine:=by
 rcases h with h |⟨o,its,n,hk,hc,hs,hz,r⟩
 .obtain⟨z,its,r,p⟩:=h.ok I.hok;exact⟨its,r,p,z⟩
 .refine⟨its.toList,r,⟨o,I.kIn a o hk,hc,n,by simpa using hs⟩,?_⟩;have e:=r.length;simp only[Q0] at e;omega
def Inv.list_inj(I:Inv X pins σ H s)(h:SqL X.K H a xs)(h':SqL X.K H a ys):xs=ys:=by
 obtain⟨its,r,⟨o,n,e,_,_,d⟩,_⟩:=I.list h;obtain⟨its',r',⟨o',n',e',_,_,d'⟩,_⟩:=I.list h';rw[e] at e';cases e';rw[d] at d';injection d' with d1 _;have:its=its':=by simpa using QW Array.toList d1
 subst this;exact r.inj r'
def Inv.tuple_inj(I:Inv X pins σ H s)(h:SqT X.K H a xs)(h':SqT X.K H a ys):xs=ys:=by
 obtain⟨its,r,⟨o,e,_,n,d⟩,_⟩:=I.tuple h;obtain⟨its',r',⟨o',e',_,n',d'⟩,_⟩:=I.tuple h';rw[e] at e';cases e';rw[d] at d';injection d' with d1 _;have:its=its':=by simpa using QW Array.toList d1
 subst this;exact r.inj r'
end
section
variable{X:Cx}{st:Stmt}{gn:List Stmt}{t u:TS}{e:Expr}{te:TE}{pos:Pos}
def ON:TS:=λD σ H=>D.nx σ H
def tSeq(t u:TS):TS:=λD σ H=>t { D with nx:=u D } σ H
def GP:PSs X [] ON:=λ_ _ σ H _ I h=>Tr ⟨σ,H,I,h⟩
def CZ(h1:PS X st t)(h2:PSs X gn u):PSs X (st::gn) (tSeq t u):=by
 intro pins s σ H D I h;refine wpAny_execs_cons (thn (h1 pins s σ H { D with nx:=u D } I h) λf s1 q=>?_);cases f with
 |next=>obtain⟨σ',H',I',q⟩:=q;exact h2 pins s1 σ' H' D I' q
 |ret v=>exact q
 |brk=>exact q
 |cont=>exact q
def HG(h1:PS X st t):PSs X [st] t:=by
 intro pins s σ H D I h;refine wpAny_execs_cons (thn (h1 pins s σ H D I h) λf s1 q=>?_);cases f with
 |next=>exact Tr q
 |ret v=>exact q
 |brk=>exact q
 |cont=>exact q
def IV:TS:=λD σ H=>D.bk σ H
def CQ:PS X (.Break pos) IV:=λ_ _ σ H _ I h=>wpAny_Break ⟨σ,H,I,h⟩
def Inv.quiet(I:Inv X pins σ H s):interactive X.env=false:=by simp [interactive,I.ok.kind]
def Qy(te:TE):TS:=λD σ H=>te σ H λ_ H1=>D.nx σ H1
def Ih(he:PE X e te)(hs:swapsWith e none pos.line X.env=pure false):PS X (.Expr e pos) (Qy te):=by intro pins s σ H D I h;exact wpAny_Expr_any (thn (he pins s σ H _ I h) λv s1 ⟨x,H1,I1,r1,q1⟩=>⟨σ,H1,I1,q1⟩) I.quiet hs
def tRet(te:TE):TS:=λD σ H=>te σ H D.rt
def J3(he:PE X e te):PS X (.Return (some e) pos) (tRet te):=by intro pins s σ H D I h;exact wpAny_Return_some (thn (he pins s σ H _ I h) λv s1 ⟨x,H1,I1,r1,q1⟩=>⟨x,σ,H1,I1,r1,q1⟩)
def Pg:TS:=λD _ H=>D.rt .non H
def Ie:PS X (.Return none pos) Pg:=λ_ _ σ H _ I h=>wpAny_Return_none ⟨.non,σ,H,I,rfl,h⟩
def tIfS(c:TT)(t u:TS):TS:=λD σ H=>c σ H λb H1=>if b=true then t D σ H1 else u D σ H1
def Qn(hc:PT X c tc)(ha:PSs X a t)(hb:PSs X b u):PS X (.If c a b pos) (tIfS tc t u):=by
 intro pins s σ H D I h;refine wpAny_If (thn (hc pins s σ H _ I h) λd s1 ⟨H1,I1,q1⟩=>?_);cases d with
 |true=>exact ha pins s1 σ H1 D I1 q1
 |false=>exact hb pins s1 σ H1 D I1 q1
end
abbrev TG:=V->St->Hp->(St->Hp->Prop)->Prop
abbrev TGs:=List V->St->Hp->(St->Hp->Prop)->Prop
def PG(X:Cx)(target:Expr)(t:TG):Prop:=
 ∀
  (pins:Ub) (s:Shared) (σ:St) (H:Hp) (v:V) (u:Value) (Q:St->Hp->Prop),Inv X pins σ H s->RelV v u->t v σ H Q->
  wpAny (model X.prog X.w) X.A (assign target X.env u) (λ_ s'=>∃σ' H',Inv X pins σ' H' s'/\Q σ' H') X.xe s
def PGs(X:Cx)(ts:List Expr)(t:TGs):Prop:=
 ∀
  (pins:Ub) (s:Shared) (σ:St) (H:Hp) (vs:List V) (us:List Value) (Q:St->Hp->Prop),Inv X pins σ H s->Vals vs us->t vs σ H Q->
  wpAny (model X.prog X.w) X.A (assignInOrder ((assignEach ts X.env).map (·.2)) us) (λ_ s'=>∃σ' H',Inv X pins σ' H' s'/\Q σ' H') X.xe s
abbrev xS:=V->V->V->Hp->(Hp->Prop)->Prop
def rL(X:Cx)(t:xS):Prop:=
 ∀
  (pins:Ub) (s:Shared) (σ:St) (H:Hp) (o i v:V) (ov iv u:Value) (Q:Hp->Prop),Inv X pins σ H s->RelV o ov->RelV i iv->RelV v u->t o i v H Q->
  wpAny (model X.prog X.w) X.A (setItem ov iv u) (λ_ s'=>∃H',Inv X pins σ H' s'/\Q H') X.xe s
abbrev TIp:=V->V->Hp->VK->Prop
def PIp(X:Cx)(op:Operator)(t:TIp):Prop:=
 ∀
  (pins:Ub) (s:Shared) (σ:St) (H:Hp) (x y:V) (v u:Value) (Q:VK),Inv X pins σ H s->RelV x v->RelV y u->t x y H Q->
  wpAny (model X.prog X.w) X.A (inplaceOp op v u) (EP X pins σ Q) X.xe s
section
variable{X:Cx}{pos:Pos}
def m8(i:Nat):TG:=λv σ H Q=>Q (σ.set i (some v)) H
def FV(hN:X.N.Nodup)(hi:X.N[i]?=some x)(hx:Loc X.env.scope x)(hf:X.fn x=true\/X.env.scope.names.lookup x=some .local):PG X (.Name x pos) (m8 i):=by intro pins s σ H v u Q I r h;exact wpAny_assign_Name (gW I hN hi hx r (λs' I'=>⟨_,H,I',h⟩) hf)
def gNil:TGs:=λvs σ H Q=>vs=[]/\Q σ H
def Pz(t:TG)(u:TGs):TGs:=λvs σ H Q=>∃v r,vs=v::r/\t v σ H λσ' H'=>u r σ' H' Q
def FJ:PGs X [] gNil:=by intro pins s σ H vs us Q I r h;obtain⟨e,h⟩:=h;subst e;cases r;exact assignInOrder_nil ⟨σ,H,I,h⟩
def CY(h1:PG X e t)(h2:PGs X es u)
 (hs:(assignEach (e::es) X.env).map (·.2)=assign e X.env::(assignEach es X.env).map (·.2)):PGs X (e::es) (Pz t u):=by
 intro pins s σ H vs us Q I r h;obtain⟨v,vr,e1,h⟩:=h;subst e1;cases r with
 |cons r rr=>rw[hs];refine assignInOrder_cons (thn (h1 pins s σ H _ _ _ I r h) λ_ s1 ⟨σ1,H1,I1,q1⟩=>?_);exact h2 pins s1 σ1 H1 _ _ Q I1 rr q1
def gTup(K:W.Frag)(n:Nat)(t:TGs):TG:=λv σ H Q=>∃a xs,v=.ref a/\SqT K H a xs/\xs.length=n/\t xs σ H Q
def Bs(hc:X.calm=true)(h:PGs X es t)
 (hn:(assignEach es X.env).length=n) (hst:(assignEach es X.env).findIdx? (·.1)=none):PG X (.Tuple es k pos) (gTup X.K n t):=by
 intro pins s σ H v u Q I r hw;obtain⟨a,xs,e1,hq,hl,hw⟩:=hw;subst e1;cases r;obtain⟨its,rv,ht,hz⟩:=I.tuple hq;refine assign_Tuple_tuple (I.ok.hd hc) ht (by simp [hn,<- hl,rv.length]) hst λh' hx=>?_;have I1:Inv X pins σ H { s with heap:=h' }:=I.kept (t':=s.toks) λb o e=>hx b o (P_ (y_ e)) e;exact h pins _ σ H xs _ Q I1 (by simpa using rv) hw
def gSub(to ti:TE)(t:xS):TG:=λv σ H Q=>to σ H λo H1=>ti σ H1 λi H2=>t o i v H2 λH3=>Q σ H3
def Jz(ho:PE X o to)(hi:PE X i ti)(hs:rL X t)
 (ha:∀v,assign (.Subscript o i pos) X.env v=(do
  let ov <- holding [v] (eval o X.env)
  let iv <- holding [v,ov] (eval i X.env)
  standAt pos
  holding [v,ov,iv] (setItem ov iv v)
  release [v,ov,iv] [])):PG X (.Subscript o i pos) (gSub to ti t):=by
 intro pins s σ H v u Q I r h;rw[ha];refine l_ (Ry (thn (ho pins s σ H _ I h) λov s1 ⟨x,H1,I1,r1,q1⟩=>?_));refine l_ (Ry (thn (hi pins s1 σ H1 _ I1 q1) λiv s2 ⟨y,H2,I2,r2,q2⟩=>?_));refine l_ (SH (l_ (Ry (thn (hs pins s2 σ H2 x y v ov iv u _ I2 r1 r2 r q2) λ_ s3 ⟨H3,I3,q3⟩=>?_))));exact wpAny_release ⟨σ,H3,I3,q3⟩
def uR(te:TE)(g:TG):TS:=λD σ H=>te σ H λx H1=>g x σ H1 D.nx
def MU(he:PE X e te)(hg:PG X tg g)(hs:swapsWithSole [tg] e pos.line X.env=pure false)(hw:swappedStores [tg] e X.env=pure none)
 (h1:(assignEach [tg] X.env).map (·.2)=[assign tg X.env]):PS X (.Assign [tg] e pos) (uR te g):=by
 intro pins s σ H D I h;refine wpAny_Assign_stores (thn (he pins s σ H _ I h) λv s1 ⟨x,H1,I1,r1,q1⟩=>?_) hs hw;rw[h1];exact thn (hg pins s1 σ H1 x v _ I1 r1 q1) λ_ s2 q=>q
def Js(hN:X.N.Nodup)(hi:X.N[i]?=some x)(hx:Loc X.env.scope x)(he:PE X e te)(hs:swapsWith e (some (.Name x io)) pos.line X.env=pure false)(hf:X.fn x=true\/X.env.scope.names.lookup x=some .local):
 PS X (.Assign [.Name x io] e pos) (uR te (m8 i)):=by
 intro pins s σ H D I h;refine wpAny_Assign_Name (thn (he pins s σ H _ I h) λv s1 ⟨y,H1,I1,r1,q1⟩=>?_) hs;exact gW I1 hN hi hx r1 (λs2 I2=>⟨_,H1,I2,q1⟩) hf
def tPar(i j:Nat)(ta:TA):TS:=λD σ H=>ta σ H λvs H1=>∃v w,vs=[v,w]/\D.nx ((σ.set i (some v)).set j (some w)) H1
def Nc{kt k2 pt2}(hc:X.calm=true)(hN:X.N.Nodup)(hi:X.N[i]?=some x)(hj:X.N[j]?=some y)(hij:i≠j)
 (hx:X.env.scope.names.lookup x=some .local) (hy:X.env.scope.names.lookup y=some .local) (ha:PA X [a,b] ta)
 (hw:swappedStores [.Tuple [.Name x px,.Name y py] kt pt] (.Tuple [a,b] k2 pt2) X.env=pure (some [x,y]))
 (hs:swapsWithSole [.Tuple [.Name x px,.Name y py] kt pt] (.Tuple [a,b] k2 pt2) pos.line X.env=pure false):
 PS X (.Assign [.Tuple [.Name x px,.Name y py] kt pt] (.Tuple [a,b] k2 pt2) pos) (tPar i j ta):=by
 intro pins s σ H D I h;rw[exec_Assign_arm];refine l_ (SH ?_);rw[hs];refine l_ (x_ ?_);rw[if_neg (by decide)];refine l_ (Tuple_ (thn (ha _ pins s σ H _ I h) λus s1 ⟨vs,H1,I1,r1,q1⟩=>?_));obtain⟨v,w,e1,q1⟩:=q1;subst e1;obtain⟨u1,u2,rfl,rv,rw'⟩:∃u1 u2,us=[u1,u2]/\RelV v u1/\RelV w u2:=by
  cases r1 with
  |
   cons p q=>
   cases q with
   |cons p' q'=>cases q';exact⟨_,_,rfl,p,p'⟩
 refine Rj ?_ (by show 2<=sizeLine;decide);have I2:Inv X pins σ H1 { s1 with heap:=s1.heap.push { cls:=.type "tuple",data:=.seq [u1,u2].toArray } }:=I1.kept (t':=s1.toks) λb o e=>o_ _ e;rw[hw];refine l_ (x_ ?_);show wpAny (model X.prog X.w) X.A (do rule "assign.swapped-stores";let items <- unpackItems (.ref s1.heap.objs.size) 2 none;assignInOrder [λv=>bindName X.env y v,λv=>bindName X.env x v] items.reverse;pure Flow.next) _ _ _;refine l_ (wpAny_rule (l_ (unpackItems_tuple (items:=#[u1,u2]) (I.ok.hd hc) (IsTup.new s1.heap _) λh' hx'=>?_)));have I3:=I2.kept (h':=h') (t':=s1.toks) λb o e=>hx' b o (P_ (y_ e)) e;show wpAny _ _ (assignInOrder [λv=>bindName X.env y v,λv=>bindName X.env x v] [u2,u1] >>= λ_=>pure Flow.next) _ _ _;refine l_ (assignInOrder_cons (wpAny_bindName (gW I3 hN hj (.inl hy) rw' (λs2 I4=>?_) (.inr hy))));refine assignInOrder_cons (wpAny_bindName (gW I4 hN hi (.inl hx) rv (λs3 I5=>assignInOrder_nil (x_ ?_)) (.inr hx)));rw[List.set_comm _ _ (Ne.symm hij)] at I5;exact⟨_,H1,I5,q1⟩
def tAug(i:Nat)(te:TE)(ti:TIp):TS:=λD σ H=>∃x,σ[i]?=some (some x)/\te σ H λy H1=>ti x y H1 λz H2=>D.nx (σ.set i (some z)) H2
def JL(hN:X.N.Nodup)(hi:X.N[i]?=some x)(hx:Loc X.env.scope x)(he:PE X e te)(ho:PIp X op ti)(hf:X.fn x=true\/X.env.scope.names.lookup x=some .local):
 PS X (.AugAssign (.Name x io) op e pos) (tAug i te ti):=by
 intro pins s σ H D I h;obtain⟨v,e1,h⟩:=h;obtain⟨m,hn,hl⟩:=I.loc;have vis:Vis X.env.scope x:=by rcases hx with k |k;exact .inl k;exact .inr (.inl k)
 obtain⟨u,r,l⟩:=hl i x v hi e1 vis;refine wpAny_AugAssign_Name ?_;have go:wpAny (model X.prog X.w) X.A (eval e X.env) (λw s₂=>wpAny (model X.prog X.w) X.A (inplaceOp op u w) (λr s₃=>wpAny (model X.prog X.w) X.A (storeName X.env x r) (λ_=>SP X pins D .next) X.xe s₃) X.xe s₂) X.xe s:=by refine thn (he pins s σ H _ I h) λw s1 ⟨y,H1,I1,r1,q1⟩=>?_;refine thn (ho pins s1 σ H1 v y u w _ I1 r r1 q1) λz s2 ⟨zv,H2,I2,r2,q2⟩=>?_;exact gW I2 hN hi hx r2 (λs3 I3=>⟨_,H2,I3,q2⟩) hf
 rcases l with ⟨hk,hm⟩ |⟨hk,c,hc,k_⟩
 .exact Ts I.ok.kind hk hn hm go
 .rcases hk with hk |hk
  .exact wpAny_loadName_cell I.ok.kind hk hc k_ go
  .rcases hx with k |k
   .have:X.env.scope.names.lookup x=some .free:=hk;rw[k] at this;cases this
   .have:X.env.scope.names.lookup x=some .free:=hk;rw[k] at this;cases this
def ipI(f:Int->Int->Int):TIp:=λx y H Q=>∃i j,x=.int i/\y=.int j/\Q (.int (f i j)) H
def Ni:PIp X .Add (ipI λi j=>i+j):=by intro pins s σ H x y v u Q I r1 r2 h;obtain⟨i,j,e1,e2,q⟩:=h;subst e1;subst e2;obtain⟨t,rfl⟩:=r1;obtain⟨t',rfl⟩:=r2;exact iadd_int ⟨.int _,H,I.tok _,⟨_,rfl⟩,q⟩
def MV(c:TT)(tb:TS):TS:=λD σ H=>∃W:Nat->St->Hp->Prop,(∃m,W m σ H)/\∀m σ H,W m σ H->
 c σ H λb H1=>if b=true then ∃N:St->Hp->Prop,(∀σ' H',N σ' H'->∃m',m'<m/\W m' σ' H')/\tb { D with nx:=N,ct:=N,bk:=D.nx } σ H1 else D.nx σ H1
def Ek(hp:PassesOwn (model X.prog X.w) X.A X.env X.xe)(hc:PT X c tc)(hb:PSs X body tb):PS X (.While c body [] pos) (MV tc tb):=by
 intro pins s σ H D I h;obtain⟨W,⟨m0,w0⟩,turn⟩:=h;refine wpAny_While (codeAny_whileLoop (λn s'=>∃σ' H',Inv X pins σ' H' s'/\W n σ' H') ?_ m0 ⟨σ,H,I,w0⟩);rintro n s1 ⟨σ1,H1,I1,w1⟩;refine R8 hp (thn (hc pins s1 σ1 H1 _ I1 (turn n σ1 H1 w1)) λb s2 ⟨H2,I2,q2⟩=>?_);cases b with
 |
  true=>
  obtain⟨N,hN,q2⟩:=q2;rw[if_pos rfl];refine R8 hp (thn (hb pins s2 σ1 H2 _ I2 q2) λf s3 q3=>?_);cases f with
  |next=>obtain⟨σ3,H3,I3,n3⟩:=q3;obtain⟨m',hm,w3⟩:=hN σ3 H3 n3;exact⟨m',hm,σ3,H3,I3,w3⟩
  |cont=>obtain⟨σ3,H3,I3,n3⟩:=q3;obtain⟨m',hm,w3⟩:=hN σ3 H3 n3;exact⟨m',hm,σ3,H3,I3,w3⟩
  |brk=>exact q3
  |ret v=>exact q3
 |false=>rw[if_neg A_];exact Tr ⟨σ1,H2,I2,q2⟩
end
structure It where
 go:Nat->Hp->Prop
 yld:Nat->Hp->V->Hp->Prop
 stop:Nat->Hp->Prop
def FpOk(X:Cx)(pins:Ub)(H:Hp)(b:Addr):Prop:=
 H b=none/\b≠X.env.locals/\b∉X.fs/\(b∈X.ex\/X.s₀.heap.objs.size<=b)/\(∀x c,X.env.cells.lookup x=some c->c≠b)/\∀p∈X.pn++pins,p.1≠b
def Inv.fpOk(I:Inv X pins σ H s)(hb:s.heap.objs.size<=b)(hn:H' b=none):FpOk X pins H' b:=by
 refine⟨hn,Sy (H_ I.lt hb),I.nofs hb,.inr (F_ I.sz hb),λx c e z=>?_,λp hp z=>?_⟩
 .obtain⟨v,q⟩:=I.cell x c e;exact absurd (H_ q.lt (by rw[z];exact hb)) (Rg _)
 .exact absurd (H_ (y_ (I.pin p hp).1) (by rw[z];exact hb)) (Rg _)
structure Turn(P:Program)(w:World)(K:W.Frag)(tg:Expr)(J:It)(fp:List Addr)(it:Addr)(tn:Nat->Heap->Prop):Prop where
 mem:it∈fp
 obj:∀i h,tn i h->∀b∈fp,∃o,h.get? b=some o/\∀v,o.data ≠ .cell v
 keep:∀i h h',tn i h->(∀b∈fp,∀o,h.get? b=some o->h'.get? b=some o)->tn i h'
 item:∀(X:Cx),X.prog=P->X.w=w->X.K=K->X.calm=true->∀(i:Nat) (pins:Ub) (s:Shared) (σ:St) (H:Hp) (E:Uc),Inv X pins σ H s->(∀b∈fp,FpOk X pins H b)->tn i s.heap->J.go i H->
  wpAny (model P w) X.A (pyNext (.ref it)) (λr s1=>∃u,r=some u/\
   wpAny (model P w) X.A (letOwnedTupleGo tg (.ref it) u) (λ_ s2=>∃x H',Inv X pins σ H' s2/\RelV x u/\J.yld i H x H'/\tn (i+1) s2.heap/\∀b∈fp,H' b=none) E s1) E s
 done:∀(X:Cx),X.prog=P->X.w=w->X.K=K->X.calm=true->∀(i:Nat) (pins:Ub) (s:Shared) (σ:St) (H:Hp) (E:Uc),Inv X pins σ H s->(∀b∈fp,FpOk X pins H b)->tn i s.heap->J.stop i H->
  wpAny (model P w) X.A (pyNext (.ref it)) (λr s1=>r=none/\Inv X pins σ H s1) E s
 self:∀(A:Around) (i:Nat) (s:Shared) (Q:Uc) (E:Uc),tn i s.heap->Q (.ref it) s->wpAny (model P w) A (pyIter (.ref it)) Q E s
abbrev TI:=St->Hp->(It->Hp->Prop)->Prop
def PIE(X:Cx)(pins:Ub)(σ:St)(tg:Expr)(R:It->Hp->Prop)(itv:Value)(s2:Shared):Prop:=
 ∃(it:Addr) (fp:List Addr) (tn:Nat->Heap->Prop) (J:It) (H':Hp),itv=.ref it/\Inv X pins σ H' s2/\Turn X.prog X.w X.K tg J fp it tn/\tn 0 s2.heap/\(∀b∈fp,FpOk X pins H' b)/\R J H'
def PI(X:Cx)(tg a_:Expr)(wi:TI):Prop:=
 ∀
  (pins:Ub) (s:Shared) (σ:St) (H:Hp) (R:It->Hp->Prop),Inv X pins σ H s->wi σ H R->
  wpAny (model X.prog X.w) X.A (eval a_ X.env) (λv s1=>wpAny (model X.prog X.w) X.A (pyIter v) (PIE X pins σ tg R) X.xe s1) X.xe s
def yQ(ho:s.heap.get? it=some o)(hc:o.cls=.type n)(hd:o.data=.fields vs)
 (hn:["enumerate", "zip", "dict_itemiterator", "dict_reverseitemiterator", "odict_iterator", "itertools.zip_longest", "itertools.pairwise"].contains n=false) (hQ:Q () s):wpAny M A (letOwnedTupleGo tg (.ref it) u) Q E s:=by
 unfold letOwnedTupleGo;cases tg
  <;> first
  |exact x_ hQ
  |(cases u <;> first
   |exact x_ hQ
   |(
    refine l_ (wpAny_load ho ?_);rw[hc,hd];show wpAny M A (if (["enumerate", "zip", "dict_itemiterator", "dict_reverseitemiterator", "odict_iterator", "itertools.zip_longest", "itertools.pairwise"].contains n&&vs[0]?==some (rawInt _))=true then _ else _) Q E s;rw[if_neg (by intro h;rw[hn,Bool.false_and] at h;cases h)];exact x_ hQ))
def Itl(K:W.Frag)(a:Addr):It:=
 ⟨λi H=>∃xs x,SqL K H a xs/\xs[i]?=some x,λi H x H'=>H'=H/\∀xs,SqL K H a xs->xs[i]?=some x,λi H=>∃xs,SqL K H a xs/\xs.length<=i⟩
def Itt(K:W.Frag)(a:Addr):It:=
 ⟨λi H=>∃xs x,SqT K H a xs/\xs[i]?=some x,λi H x H'=>H'=H/\∀xs,SqT K H a xs->xs[i]?=some x,λi H=>∃xs,SqT K H a xs/\xs.length<=i⟩
def Itr(lo:Int)(n:Nat):It:=⟨λi _=>i<n,λi H x H'=>H'=H/\x=.int (lo+i),λi _=>n<=i⟩
def Aw{P:Program}{w:World}{K:W.Frag}{tg:Expr}(a it:Addr):Turn P w K tg (Itl K a) [it] it (λi h=>h.IsListIter it a i) where
 mem:=by simp
 obj:=λi h st b hb=>by
  have e:b=it:=by simpa using hb
  subst e;obtain⟨o,e,c,d⟩:=st;exact⟨o,e,λv z=>by rw[d] at z;cases z⟩
 keep:=λi h h' st k=>st.at λo e=>k it (by simp) o e
 item:=by intro X hP hw hK hc i pins s σ H E I hf st hg;subst hP hw hK;obtain⟨xs,x,hq,hx⟩:=hg;obtain⟨its,rv,p,hz⟩:=I.list hq;obtain⟨u,hu,ru⟩:=rv.get hx;obtain⟨f0,f1,f2,f3,f4,f5⟩:=hf it (by simp);refine wpAny_pyNext_list_item st p.isList (x:=u) (by simpa using hu) λh' st' sb=>?_;have I1:Inv X pins σ H { s with heap:=h' }:=I.turned (t':=s.toks) (λb o hb e=>(sb.2 b hb).trans e) f0 f1 f3 f4 f5;obtain⟨o,e,c,d⟩:=id st';exact⟨u,rfl,yQ (s:={ s with heap:=h' }) e c d (by decide) ⟨x,H,I1,ru,⟨rfl,λys hy=>by rw[I.list_inj hy hq];exact hx⟩,st',λb hb=>(hf b hb).1⟩⟩
 done:=by intro X hP hw hK hc i pins s σ H E I hf st hg;subst hP hw hK;obtain⟨xs,hq,hx⟩:=hg;obtain⟨its,rv,p,hz⟩:=I.list hq;obtain⟨f0,f1,f2,f3,f4,f5⟩:=hf it (by simp);have hl:=rv.length;exact wpAny_pyNext_list_end (I.ok.hd hc) st p.isList (by simp;omega) λh' eb=>⟨rfl,I.turned (t':=s.toks) (λb o hb e=>eb b o hb e) f0 f1 f3 f4 f5⟩
 self:=λ_ _ _ _ _ st h=>wpAny_pyIter_listiter st h
def yI{P:Program}{w:World}{K:W.Frag}{tg:Expr}(a it:Addr):Turn P w K tg (Itt K a) [it] it (λi h=>h.IsTupleIter it a i) where
 mem:=by simp
 obj:=λi h st b hb=>by
  have e:b=it:=by simpa using hb
  subst e;obtain⟨o,e,c,d⟩:=st;exact⟨o,e,λv z=>by rw[d] at z;cases z⟩
 keep:=λi h h' st k=>st.at λo e=>k it (by simp) o e
 item:=by intro X hP hw hK hc i pins s σ H E I hf st hg;subst hP hw hK;obtain⟨xs,x,hq,hx⟩:=hg;obtain⟨its,rv,p,hz⟩:=I.tuple hq;obtain⟨u,hu,ru⟩:=rv.get hx;obtain⟨f0,f1,f2,f3,f4,f5⟩:=hf it (by simp);refine wpAny_pyNext_tuple_item st (show s.heap.IsTuple a its.toArray from p) (x:=u) (by simpa using hu) λh' st' sb=>?_;have I1:Inv X pins σ H { s with heap:=h' }:=I.turned (t':=s.toks) (λb o hb e=>(sb.2 b hb).trans e) f0 f1 f3 f4 f5;obtain⟨o,e,c,d⟩:=id st';exact⟨u,rfl,yQ (s:={ s with heap:=h' }) e c d (by decide) ⟨x,H,I1,ru,⟨rfl,λys hy=>by rw[I.tuple_inj hy hq];exact hx⟩,st',λb hb=>(hf b hb).1⟩⟩
 done:=by intro X hP hw hK hc i pins s σ H E I hf st hg;subst hP hw hK;obtain⟨xs,hq,hx⟩:=hg;obtain⟨its,rv,p,hz⟩:=I.tuple hq;obtain⟨f0,f1,f2,f3,f4,f5⟩:=hf it (by simp);have hl:=rv.length;exact wpAny_pyNext_tuple_end (I.ok.hd hc) st (show s.heap.IsTuple a its.toArray from p) (by simp;omega) λh' eb=>⟨rfl,I.turned (t':=s.toks) (λb o hb e=>eb b o hb e) f0 f1 f3 f4 f5⟩
 self:=λ_ _ _ _ _ st h=>wpAny_pyIter_tupleiter st h
def xQ{P:Program}{w:World}{K:W.Frag}{tg:Expr}(it:Addr)(lo:Int)(n:Nat):Turn P w K tg (Itr lo n) [it] it (λi h=>IsRangeIter h it (lo+(i:Nat)*1) ((n:Int)-(i:Nat)) 1) where
 mem:=by simp
 obj
  := λi h st b hb=>by
  have e:b=it:=by simpa using hb
  subst e;exact⟨_,st,λv z=>by have z':Data.fields _=Data.cell v:=z;cases z'⟩
 keep:=λi h h' st k=>k it (by simp) _ st
 item:=by intro X hP hw hK hc i pins s σ H E I hf st hg;subst hP hw hK;obtain⟨f0,f1,f2,f3,f4,f5⟩:=hf it (by simp);have W:=Walks.range (prog:=X.prog) (w:=X.w) (I.ok.hd hc) it lo 1 n;refine W.item i s _ _ hg st λv h' tk hv st' kk=>?_;obtain⟨t,rfl⟩:=hv;have I1:Inv X pins σ H { s with heap:=h',toks:=tk }:=I.turned (λb o hb e=>kk b o (by simpa using hb) e) f0 f1 f3 f4 f5;refine⟨_,rfl,yQ (s:={ s with heap:=h',toks:=tk }) (n:="range_iterator") st' rfl rfl (by decide) ⟨.int (lo+i),H,I1,⟨t,?_⟩,⟨rfl,rfl⟩,st',λb hb=>(hf b hb).1⟩⟩;rw[Int.mul_one]
 done:=by intro X hP hw hK hc i pins s σ H E I hf st hg;subst hP hw hK;obtain⟨f0,f1,f2,f3,f4,f5⟩:=hf it (by simp);exact wpAny_pyNext_range_end (I.ok.hd hc) st (by have:n<=i:=hg;omega) λh' eb=>⟨rfl,I.turned (t':=s.toks) (λb o hb e=>eb b o hb e) f0 f1 f3 f4 f5⟩
 self:=λ_ _ _ _ _ st h=>wpAny_pyIter_rangeiter st h
section
variable{X:Cx}{tg:Expr}
def rN{pins:Ub}{σ:St}{H:Hp}{s:Shared}{R:It->Hp->Prop}{E:Uc}{lo hi:Int}{t u v:Tok}{tk:Nat}(I:Inv X pins σ H s)(h1:-(2^62)<=lo)(h2:lo<2^62)(h3:-(2^62)<=hi)(h4:hi<2^62)
 (q:R (Itr lo (hi-lo).toNat) H):wpAny (model X.prog X.w) X.A (pyIter (.ref s.heap.objs.size)) (PIE X pins σ tg R) E { s with heap:=s.heap.push { cls:=.type "range",data:=.fields #[.int lo t,.int hi u,.int 1 v] },toks:=tk }:=by
 refine wpAny_pyIter_range (IsRange.new ..) (small_one h1 h2 h3 h4) ?_;have I1:Inv X pins σ H { s with heap:=s.heap.push { cls:=.type "range",data:=.fields #[.int lo t,.int hi u,.int 1 v] },toks:=tk }:=I.kept λb o e=>o_ _ e;refine⟨(s.heap.push { cls:=.type "range",data:=.fields #[.int lo t,.int hi u,.int 1 v] }).objs.size,[(s.heap.push { cls:=.type "range",data:=.fields #[.int lo t,.int hi u,.int 1 v] }).objs.size],_,_,H,rfl,
  I1.kept (t':=tk) λb o e=>o_ _ e,xQ _ lo (hi-lo).toNat,?_,λb hb=>?_,q⟩
 .have e1:lo+((0:Nat):Int)*1=lo:=by simp
  have e2:(((hi-lo).toNat:Nat):Int)-((0:Nat):Int)=Builtin.Range.rangeSize lo hi 1:=by rw[Tz];split <;> omega
  show IsRangeIter _ _ (lo+((0:Nat):Int)*1) ((((hi-lo).toNat:Nat):Int)-((0:Nat):Int)) 1;rw[e1,e2];exact Em _ rfl
 .have e:b=(s.heap.push { cls:=.type "range",data:=.fields #[.int lo t,.int hi u,.int 1 v] }).objs.size:=by simpa using hb
  subst e;exact I1.fpOk (p_ _) (I1.hok.fresh (p_ _))
def O1(ta:TA):TI:=λσ H R=>ta σ H λvs H1=>∃j:Int,vs=[.int j]/\-(2^62)<=j/\j<2^62/\R (Itr 0 j.toNat) H1
def PU(ta:TA):TI:=λσ H R=>ta σ H λvs H1=>∃i j:Int,vs=[.int i,.int j]/\(-(2^62)<=i/\i<2^62/\-(2^62)<=j/\j<2^62)/\R (Itr i (j-i).toNat) H1
def An(hg:Gl X "range")(hm:X.mg "range"=none)(ha:PA X [a] ta)(hs:starEach [a] X.env=[(false,eval a X.env)]):PI X tg (.Call (.Name "range" p) [a] [] pos) (O1 ta):=by
 intro pins s σ H R I h;refine Call_ (cU I hg hm boot_range (QT (thn (ha pos pins s σ H _ I h) λus s1 ⟨vs,H1,I1,r1,q1⟩=>?_) hs rfl));obtain⟨j,e,q1,q2,q⟩:=q1;subst e;cases r1 with
 |cons r rr=>cases rr;obtain⟨t,rfl⟩:=r;exact call_range_1 (rN I1 (by omega) (by omega) q1 q2 (by simpa using q))
def AG(hg:Gl X "range")(hm:X.mg "range"=none)(ha:PA X [a,b] ta)(hs:starEach [a,b] X.env=[(false,eval a X.env),(false,eval b X.env)])(hs2:starEach [b] X.env=[(false,eval b X.env)]):
 PI X tg (.Call (.Name "range" p) [a,b] [] pos) (PU ta):=by
 intro pins s σ H R I h;refine Call_ (cU I hg hm boot_range (QT (thn (ha pos pins s σ H _ I h) λus s1 ⟨vs,H1,I1,r1,q1⟩=>?_) (by rw[hs,hs2]) (by rw[hs2];rfl)));obtain⟨i,j,e,⟨q1,q2,q3,q4⟩,q⟩:=q1;subst e;cases r1 with
 |
  cons r rr=>
  cases rr with
  |cons r' rr=>cases rr;obtain⟨t,rfl⟩:=r;obtain⟨t',rfl⟩:=r';exact call_range_2 (rN I1 q1 q2 q3 q4 q)
def tFor(wi:TI)(g:TG)(tb:TS):TS:=λD σ H=>wi σ H λJ H1=>∃W:Nat->Nat->St->Hp->Prop,(∃m,W 0 m σ H1)/\∀i m σ H,W i m σ H->
 (J.stop i H/\D.nx σ H)\/(J.go i H/\∃N:St->Hp->Prop,(∀σ' H',N σ' H'->∃m',m'<m/\W (i+1) m' σ' H')/\∀x H',J.yld i H x H'->g x σ H' λσ2 H2=>tb { D with nx:=N,ct:=N,bk:=D.nx } σ2 H2)
def jU(fp:List Addr)(h:Heap):List (Addr×Obj):=fp.filterMap λb=>(h.get? b).map λo=>(b,o)
def gA(hb:b∈fp)(e:h.get? b=some o):(b,o)∈jU fp h:=List.mem_filterMap.mpr ⟨b,hb,by rw[e];rfl⟩
def AA(hp:p∈jU fp h):p.1∈fp/\h.get? p.1=some p.2:=by
 obtain⟨b,hb,e⟩:=List.mem_filterMap.mp hp;cases q:h.get? b with
 |none=>rw[q] at e;cases e
 |some o=>rw[q] at e;have e':(b,o)=p:=J_ e;subst e';exact⟨hb,q⟩
def Inv.pinned(I:Inv X pins σ H s)(hf:∀b∈fp,FpOk X pins H b)(ho:∀b∈fp,∃o,s.heap.get? b=some o/\∀v,o.data ≠ .cell v):Inv X (pins++jU fp s.heap) σ H s:=
 I.pins_of λp hp=>(RL.mp hp).elim (λz=>I.pin p (QN _ z)) λz=>by obtain⟨hb,e⟩:=AA z;obtain⟨f0,f1,f2,_⟩:=hf p.1 hb;obtain⟨o,e',d⟩:=ho p.1 hb;rw[e] at e';cases e';exact⟨e,f0,f1,f2,d⟩
def Inv.unpinned(I:Inv X (pins++pl) σ H s):Inv X pins σ H s:=I.pins_of λp hp=>I.pin p (QN _ (Ti _ hp))
def Ku(hp:PassesOwn (model X.prog X.w) X.A X.env X.xe)(hc:X.calm=true)(hi:PI X tg a_ wi)(hg:PG X tg g)(hb:PSs X body tb)
 (hs:∀x,foldedSetIterable a_ X.env x=pure x):PS X (.For tg a_ body [] pos) (tFor wi g tb):=by
 intro pins s σ H D I h;refine wpAny_For (thn (hi pins s σ H _ I h) λv s1 h1=>thn h1 λitv s2 h2=>?_) hs;obtain⟨it,fp,tn,J,H2,e,I2,T,st2,f2,W,⟨m0,w0⟩,turn⟩:=h2;subst e;have stat:∀{H':Hp},(∀b∈fp,H' b=none)->∀b∈fp,FpOk X pins H' b:=λhn b hb=>⟨hn b hb,(f2 b hb).2⟩;refine codeAny_forLoop_any (λn s'=>∃i σ' H',Inv X pins σ' H' s'/\tn i s'.heap/\(∀b∈fp,H' b=none)/\W i n σ' H') ?_ m0 ⟨0,σ,H2,I2,st2,λb hb=>(f2 b hb).1,w0⟩;rintro n s3 ⟨i,σ3,H3,I3,st3,fr3,w3⟩;rcases turn i n σ3 H3 w3 with ⟨stop,qn⟩ |⟨go,N,hN,step⟩
 .refine R8 hp (thn (T.done X rfl rfl rfl hc i pins s3 σ3 H3 X.xe I3 (stat fr3) st3 stop) λr s4 ⟨hr,I4⟩=>?_);subst hr;exact Tr ⟨σ3,H3,I4,qn⟩
 .refine R8 hp (thn (T.item X rfl rfl rfl hc i pins s3 σ3 H3 X.xe I3 (stat fr3) st3 go) λr s4 ⟨u,hr,h4⟩=>?_);subst hr;refine R8 hp (thn h4 λ_ s5 ⟨x,H5,I5,r5,y5,st5,fr5⟩=>?_);have I5':=I5.pinned (stat fr5) (T.obj _ _ st5);refine R8 hp (thn (hg _ s5 σ3 H5 x u _ I5' r5 (step x H5 y5)) λ_ s6 ⟨σ6,H6,I6,q6⟩=>?_);refine R8 hp (thn (hb _ s6 σ6 H6 _ I6 q6) λf s7 q7=>?_);have again:∀{σ7:St}{H7:Hp},Inv X (pins++jU fp s5.heap) σ7 H7 s7->N σ7 H7->∃m,m<n/\∃i σ' H',Inv X pins σ' H' s7/\tn i s7.heap/\(∀b∈fp,H' b=none)/\W i m σ' H':=λ{σ7 H7} I7 n7=>by obtain⟨m',hm,w7⟩:=hN σ7 H7 n7;refine⟨m',hm,i+1,σ7,H7,I7.unpinned,T.keep _ _ _ st5 λb hb o e=>(I7.pin (b,o) (QN _ (QN _ (gA hb e)))).1,λb hb=>?_,w7⟩;obtain⟨o,e,d⟩:=T.obj _ _ st5 b hb;exact (I7.pin (b,o) (QN _ (QN _ (gA hb e)))).2.1
  cases f with
  |next=>obtain⟨σ7,H7,I7,n7⟩:=q7;exact again I7 n7
  |cont=>obtain⟨σ7,H7,I7,n7⟩:=q7;exact again I7 n7
  |brk=>obtain⟨σ7,H7,I7,q7⟩:=q7;exact⟨σ7,H7,I7.unpinned,q7⟩
  |ret v=>obtain⟨x7,σ7,H7,I7,r7,q7⟩:=q7;exact⟨x7,σ7,H7,I7.unpinned,r7,q7⟩
end
abbrev R2:=V->V->Hp->VK->Prop
def OpR(X:Cx)(f:Value->Value->Sem Value)(r:R2):Prop:=
 ∀
  (pins:Ub) (s:Shared) (σ:St) (H:Hp) (x y:V) (v u:Value) (Q:VK),Inv X pins σ H s->RelV x v->RelV y u->r x y H Q->
  wpAny (model X.prog X.w) X.A (f v u) (EP X pins σ Q) X.xe s
def UnR(X:Cx)(f:Value->Sem Value)(r:V->Hp->VK->Prop):Prop:=
 ∀
  (pins:Ub) (s:Shared) (σ:St) (H:Hp) (x:V) (v:Value) (Q:VK),Inv X pins σ H s->RelV x v->r x H Q->
  wpAny (model X.prog X.w) X.A (f v) (EP X pins σ Q) X.xe s
def CallR(X:Cx)(f:Value)(r:List V->Hp->VK->Prop):Prop:=
 ∀
  (pins:Ub) (s:Shared) (σ:St) (H:Hp) (xs:List V) (us:List Value) (Q:VK),Inv X pins σ H s->Vals xs us->r xs H Q->
  wpAny (model X.prog X.w) X.A (call f us) (EP X pins σ Q) X.xe s
def TruR(X:Cx)(r:V->Hp->(Bool->Hp->Prop)->Prop):Prop:=
 ∀
  (pins:Ub) (s:Shared) (σ:St) (H:Hp) (x:V) (v:Value) (Q:Bool->Hp->Prop),Inv X pins σ H s->RelV x v->r x H Q->
  wpAny (model X.prog X.w) X.A (truthy v) (TP X pins σ Q) X.xe s
def tOp(r:R2)(ta tb:TE):TE:=λσ H Q=>ta σ H λx H1=>tb σ H1 λy H2=>r x y H2 Q
def tUn(r:V->Hp->VK->Prop)(ta:TE):TE:=λσ H Q=>ta σ H λx H1=>r x H1 Q
def rI(C:Int->Int->Prop)(g:Int->Int->V):R2:=λx y H Q=>∃i j,x=.int i/\y=.int j/\C i j/\Q (g i j) H
def rI0(g:Int->Int->V):R2:=λx y H Q=>∃i j,x=.int i/\y=.int j/\Q (g i j) H
def rU(g:Int->V):V->Hp->VK->Prop:=λx H Q=>∃i,x=.int i/\Q (g i) H
section
variable{X:Cx}{a b:Expr}{ta tb:TE}{pos:Pos}
def BS(ha:PE X a ta)(hb:PE X b tb){pins:Ub}{s:Shared}{σ:St}{H:Hp}{R:V->V->Hp->Prop}(I:Inv X pins σ H s)
 (h:ta σ H λx H1=>tb σ H1 λy H2=>R x y H2) {Q:Uc}{f:Value->Value->Sem Value}
 (hf:∀v u s2 x y H2,Inv X pins σ H2 s2->RelV x v->RelV y u->R x y H2->wpAny (model X.prog X.w) X.A (f v u) Q X.xe s2):
 wpAny (model X.prog X.w) X.A (eval a X.env) (λv s₁=>wpAny (model X.prog X.w) X.A (eval b X.env) (λu s₂=>wpAny (model X.prog X.w) X.A (f v u) Q X.xe s₂) X.xe s₁) X.xe s:=by
 refine thn (ha pins s σ H _ I h) λv s1 ⟨x,H1,I1,r1,q1⟩=>?_;refine thn (hb pins s1 σ H1 _ I1 q1) λu s2 ⟨y,H2,I2,r2,q2⟩=>?_;exact hf v u s2 x y H2 I2 r1 r2 q2
def NR(ho:OpR X (binaryOp op) r)(ha:PE X a ta)(hb:PE X b tb):PE X (.BinOp a op b pos) (tOp r ta tb):=by intro pins s σ H Q I h;exact wpAny_BinOp (BS ha hb I h λv u s2 x y H2 I2 rx ry q=>ho pins s2 σ H2 x y v u Q I2 rx ry q)
def Qr(ho:UnR X (unaryOp op) r)(ha:PE X a ta):PE X (.UnaryOp op a pos) (tUn r ta):=by intro pins s σ H Q I h;exact UnaryOp_ (thn (ha pins s σ H _ I h) λv s1 ⟨x,H1,I1,r1,q1⟩=>ho pins s1 σ H1 x v Q I1 r1 q1)
def opI{f:Value->Value->Sem Value}{C:Int->Int->Prop}{g:Int->Int->Int}
 (rule:∀(i j:Int) (t u:Tok) (s:Shared) (Q:Uc) (E:Uc),C i j->Q (.int (g i j) s.toks) { s with toks:=s.toks+1 }->wpAny (model X.prog X.w) X.A (f (.int i t) (.int j u)) Q E s):
 OpR X f (rI C λi j=>.int (g i j)):=by
 intro pins s σ H x y v u Q I rx ry h;obtain⟨i,j,rfl,rfl,hc,q⟩:=h;obtain⟨t,rfl⟩:=rx;obtain⟨t',rfl⟩:=ry;exact rule i j t t' s _ _ hc ⟨.int (g i j),H,I.tok _,⟨_,rfl⟩,q⟩
def opI0{f:Value->Value->Sem Value}{g:Int->Int->Int}
 (rule:∀(i j:Int) (t u:Tok) (s:Shared) (Q:Uc) (E:Uc),Q (.int (g i j) s.toks) { s with toks:=s.toks+1 }->wpAny (model X.prog X.w) X.A (f (.int i t) (.int j u)) Q E s):
 OpR X f (rI0 λi j=>.int (g i j)):=by
 intro pins s σ H x y v u Q I rx ry h;obtain⟨i,j,rfl,rfl,q⟩:=h;obtain⟨t,rfl⟩:=rx;obtain⟨t',rfl⟩:=ry;exact rule i j t t' s _ _ ⟨.int (g i j),H,I.tok _,⟨_,rfl⟩,q⟩
def Dt{f:Value->Value->Sem Value}{g:Int->Int->Bool}
 (rule:∀(i j:Int) (t u:Tok) (s:Shared) (Q:Uc) (E:Uc),Q (.bool (g i j)) s->wpAny (model X.prog X.w) X.A (f (.int i t) (.int j u)) Q E s):
 OpR X f (rI0 λi j=>.bl (g i j)):=by
 intro pins s σ H x y v u Q I rx ry h;obtain⟨i,j,rfl,rfl,q⟩:=h;obtain⟨t,rfl⟩:=rx;obtain⟨t',rfl⟩:=ry;exact rule i j t t' s _ _ ⟨.bl (g i j),H,I,rfl,q⟩
def gr(i j:Int):Prop:=0<=j/\j<=1000000/\i.natAbs<2^64
def CMul(i j:Int):Prop:=(-(2^64)<i/\i<2^64)\/(-(2^64)<j/\j<2^64)
def CMul.ok(h:CMul i j):IntMulOk i j:=by
 rcases h with ⟨h1,h2⟩ |⟨h1,h2⟩
 .exact .of_left (intBits_le_64 h1 h2)
 .exact .of_right (intBits_le_64 h1 h2)
def Iz:OpR X (binaryOp .Add) (rI0 λi j=>.int (i+j)):=opI0 λ_ _ _ _ _ _ _ q=>add_int q
def Lz:OpR X (binaryOp .Sub) (rI0 λi j=>.int (i-j)):=opI0 λ_ _ _ _ _ _ _ q=>sub_int q
def MX:OpR X (binaryOp .Mult) (rI CMul λi j=>.int (i*j)):=opI λ_ _ _ _ _ _ _ hc q=>mul_int q hc.ok
def FP:OpR X (binaryOp .Mod) (rI (λ_ j=>j≠0) λi j=>.int (i.fmod j)):=opI λ_ _ _ _ _ _ _ hc q=>mod_int' hc q
def Mg:OpR X (binaryOp .Pow) (rI gr λi j=>.int (i^j.toNat)):=opI λ_ _ _ _ _ _ _ hc q=>pow_int_small hc.1 hc.2.1 hc.2.2 q
def Lw:OpR X (binaryOp .LShift) (rI gr λi j=>.int (i*2^j.toNat)):=opI λ_ _ _ _ _ _ _ hc q=>lshift_int_small hc.1 hc.2.1 hc.2.2 q
def unI{f:Value->Sem Value}{g:Int->Int}
 (rule:∀(i:Int) (t:Tok) (s:Shared) (Q:Uc) (E:Uc),Q (.int (g i) s.toks) { s with toks:=s.toks+1 }->wpAny (model X.prog X.w) X.A (f (.int i t)) Q E s):
 UnR X f (rU λi=>.int (g i)):=by
 intro pins s σ H x v Q I rx h;obtain⟨i,rfl,q⟩:=h;obtain⟨t,rfl⟩:=rx;exact rule i t s _ _ ⟨.int (g i),H,I.tok _,⟨_,rfl⟩,q⟩
def KD:UnR X (unaryOp .USub) (rU λi=>.int (-i)):=unI λ_ _ _ _ _ q=>neg_int q
end
section
variable{X:Cx}{a b c:Expr}{ta tb:TE}{pos:Pos}
def Ba(I:Inv X pins σ H s)(q:Q (.bl k) H)(e:k=k'):EP X pins σ Q (.bool k') s:=by subst e;exact⟨.bl k,H,I,rfl,q⟩
def EM:OpR X (compareOp .Lt) (rI0 λi j=>.bl (decide (i<j))):=Dt λ_ _ _ _ _ _ _ q=>lt_int q
def E2:OpR X (compareOp .Gt) (rI0 λi j=>.bl (decide (j<i))):=Dt λ_ _ _ _ _ _ _ q=>gt_int q
def Fd:OpR X (compareOp .GtE) (rI0 λi j=>.bl (decide (j<=i))):=Dt λ_ _ _ _ _ _ _ q=>ge_int q
def OpR.or(h:OpR X f r)(h':OpR X f r'):OpR X f (λx y H Q=>r x y H Q\/r' x y H Q):=by
 intro pins s σ H x y v u Q I rx ry q;rcases q with q |q
 .exact h pins s σ H x y v u Q I rx ry q
 .exact h' pins s σ H x y v u Q I rx ry q
def m5(b:Expr)(h:op ≠ .In:=by decide)(h2:op ≠ .NotIn:=by decide):behindInMarks op b=false:=by
 have e1:(op==CmpOp.In)=false:=by cases op <;> first |rfl |exact absurd rfl h
 have e2:(op==CmpOp.NotIn)=false:=by cases op <;> first |rfl |exact absurd rfl h2
 cases b <;> simp [behindInMarks,e1,e2]
def F1(ho:OpR X (compareOp op) r)(ha:PE X a ta)(hb:PE X b tb)(hm:behindInMarks op b=false):PE X (.Compare a [op] [b] pos) (tOp r ta tb):=by intro pins s σ H Q I h;exact wpAny_Compare1 (BS ha hb I h λv u s2 x y H2 I2 rx ry q=>ho pins s2 σ H2 x y v u Q I2 rx ry q) hm
def OQ(t:TE):TT:=λσ H Q=>t σ H λx H'=>∃k,x=.bl k/\Q k H'
def Gs(ho:OpR X (compareOp op) r)(ha:PE X a ta)(hb:PE X b tb)(hm:behindInMarks op b=false):PT X (.Compare a [op] [b] pos) (OQ (tOp r ta tb)):=by
 intro pins s σ H Q I h;refine wpAny_isTrue_Compare1 (thn (ha pins s σ H _ I h) λv s1 ⟨x,H1,I1,r1,q1⟩=>thn (hb pins s1 σ H1 _ I1 q1) λu s2 ⟨y,H2,I2,r2,q2⟩=>
  thn (ho pins s2 σ H2 x y v u _ I2 r1 r2 q2) λc s3 ⟨z,H3,I3,r3,k,e,q3⟩=>?_) hm
 subst e;cases r3;exact R_ ⟨H3,I3,q3⟩
def Ew(K:W.Frag)(x:V)(H:Hp)(k:Bool):Prop:=
 match x with
 |.non=>k=false
 |.bl b=>k=b
 |.int i=>k=(i != 0)
 |.str y=>y.length<=sizeLine/\k=((y.length:Int) != 0)
 |.byt y=>y.size<=sizeLine/\k=((y.size:Int) != 0)
 |.ref p=>(∃xs,SqL K H p xs/\k=!xs.isEmpty)\/(∃xs,SqT K H p xs/\k=!xs.isEmpty)\/∃kvs,H p=some (.dK kvs)/\k=!kvs.isEmpty
 |_=>False
def xP(r:KV kvs vs):(!vs.isEmpty)=!kvs.isEmpty:=by cases r <;> rfl
def m9(r:Vals xs its):(!its.toArray.isEmpty)=!xs.isEmpty:=by cases r <;> simp
def g0:(sizeLine:Nat)<2^63:=by rw[sizeLine_eq];decide
def KI:TruR X (λx H Q=>∃k,Ew X.K x H k/\Q k H):=by
 intro pins s σ H x v Q I rx h;obtain⟨k,e,q⟩:=h;have hl:=g0;have hs:sizeLine=16777216:=sizeLine_eq;cases x with
 |non=>cases rx;have e':k=false:=e;subst e';exact truthy_none ⟨H,I,q⟩
 |bl b=>cases rx;have e':k=b:=e;subst e';exact R_ ⟨H,I,q⟩
 |int i=>obtain⟨t,rfl⟩:=rx;have e':k=(i != 0):=e;subst e';exact PySem.P.truthy_int ⟨H,I,q⟩
 |str y=>obtain⟨t,rfl⟩:=rx;obtain⟨hy,e'⟩:y.length<=sizeLine/\k=((y.length:Int) != 0):=e;subst e';exact PySem.P.truthy_str (by omega) ⟨H,I.tok _,q⟩
 |byt y=>obtain⟨t,rfl⟩:=rx;obtain⟨hy,e'⟩:y.size<=sizeLine/\k=((y.size:Int) != 0):=e;subst e';exact W.truthy_bytes (by omega) ⟨H,I.tok _,q⟩
 |
  ref p=>
  cases rx;have e':(∃xs,SqL X.K H p xs/\k=!xs.isEmpty)\/(∃xs,SqT X.K H p xs/\k=!xs.isEmpty)\/∃kvs,H p=some (.dK kvs)/\k=!kvs.isEmpty:=e;rcases e' with ⟨xs,hx,e'⟩ |⟨xs,hx,e'⟩ |⟨kvs,hx,e'⟩
  .subst e';obtain⟨its,r,pl,hz⟩:=I.list hx;have bi:=r.length;exact wpAny_truthy_list pl.isList (by simp only[z_];omega) ⟨H,I.tok _,by rw[m9 r];exact q⟩
  .subst e';obtain⟨its,r,pl,hz⟩:=I.tuple hx;have bi:=r.length;exact truthy_tuple pl (by simp only[z_];omega) ⟨H,I.tok _,by rw[m9 r];exact q⟩
  .subst e';obtain⟨hz,hS,vs,r,m⟩:kvs.length<=sizeLine/\(p==sysModules)=false/\∃vs,KV kvs vs/\s.heap.DictOf (bT X.prog X.w) p vs:=I.hok p _ hx;have bi:kvs.length=vs.length:=Tv r;exact wpAny_truthy_dict hS m (by omega) ⟨H,I.tok _,by rw[xP r];exact q⟩
 |_=>exact (show False from e).elim
def D9(ha:PE X a ta)(he:∀db,isTrue a X.env db=(do let v <- db;standAt a.pos;holding [v] (truthy v))):
 PT X a (λσ H Q=>ta σ H λx H'=>∃k,Ew X.K x H' k/\Q k H'):=by
 intro pins s σ H Q I h;exact isTrue_plain (thn (ha pins s σ H _ I h) λv s1 ⟨x,H1,I1,r1,q1⟩=>KI pins s1 σ H1 x v Q I1 r1 q1) (he _)
def f6(r:Vals [x] us):∃u,us=[u]/\RelV x u:=by
 cases r with
 |cons r1 r2=>cases r2;exact⟨_,rfl,r1⟩
def qJ(r:Vals [x,y] us):∃u w',us=[u,w']/\RelV x u/\RelV y w':=by
 cases r with
 |
  cons r1 r2=>
  cases r2 with
  |cons r3 r4=>cases r4;exact⟨_,_,rfl,r1,r3⟩
def DV:CallR X (.builtin "abs") (λxs H Q=>∃i,xs=[.int i]/\Q (.int (if i<0 then -i else i)) H):=by intro pins s σ H xs us Q I r h;obtain⟨i,rfl,q⟩:=h;obtain⟨u,rfl,t,rfl⟩:=f6 r;exact call_abs_int λu tk=>⟨.int (if i<0 then -i else i),H,I.tok _,⟨_,rfl⟩,q⟩
def Bn(hc:X.calm=true):CallR X (.builtin "max") (λxs H Q=>∃i j,xs=[.int i,.int j]/\Q (.int (if j>i then j else i)) H):=by
 intro pins s σ H xs us Q I r h;obtain⟨i,j,rfl,q⟩:=h;obtain⟨u,w',rfl,⟨t,rfl⟩,⟨t',rfl⟩⟩:=qJ r;refine max_two_ints (I.ok.hd hc) λh' tk k=>⟨_,H,I.kept k,?_,q⟩;by_cases hj:j>i
 .rw[if_pos hj,if_pos hj];exact⟨_,rfl⟩
 .rw[if_neg hj,if_neg hj];exact⟨_,rfl⟩
def zS(hc:X.calm=true):CallR X (.builtin "min") (λxs H Q=>∃i j,xs=[.int i,.int j]/\Q (.int (if j<i then j else i)) H):=by
 intro pins s σ H xs us Q I r h;obtain⟨i,j,rfl,q⟩:=h;obtain⟨u,w',rfl,⟨t,rfl⟩,⟨t',rfl⟩⟩:=qJ r;refine min_two_ints (I.ok.hd hc) λh' tk k=>⟨_,H,I.kept k,?_,q⟩;by_cases hj:j<i
 .rw[if_pos hj,if_pos hj];exact⟨_,rfl⟩
 .rw[if_neg hj,if_neg hj];exact⟨_,rfl⟩
def Aj:CallR X (.type "int") (λxs H Q=>(∃i,xs=[.int i]/\Q (.int i) H)\/∃k,xs=[.bl k]/\Q (.int (if k then 1 else 0)) H):=by
 intro pins s σ H xs us Q I r h;rcases h with ⟨i,rfl,q⟩ |⟨k,rfl,q⟩
 .obtain⟨u,rfl,t,rfl⟩:=f6 r;exact call_int_int ⟨.int i,H,I,⟨_,rfl⟩,q⟩
 .obtain⟨u,rfl,r1⟩:=f6 r;cases r1;exact call_int_bool ⟨.int (if k then 1 else 0),H,I.tok _,⟨_,rfl⟩,q⟩
end
structure ObjM(h:Heap)(x dx C:Addr)(mA:Ua):Prop where
 obj:h.get? x=some (W.instObj C dx)
 ns:h.Ns1 dx mA
 ne:dx≠x
def AF{h:Heap}{dx:Addr}{mA:Ua}(n:h.Ns1 dx mA):∃od,h.get? dx=some od/\∀name,W.lookIn name od=some (mA name):=by
 obtain⟨o,es,ep,ho,hd,hk,_,hm⟩:=n;refine⟨o,ho,λname=>?_⟩;have e:=hm name;unfold nsFind findBy at e;rw[<- Array.find?_toList] at e;unfold W.lookIn;rw[hd];dsimp only;split
 .rename_i y q;rw[q] at e;exact QW some e
 .rename_i q;rw[q] at e;have a:es.toList.any (·.refKey)=false:=by rw[List.any_eq_false];intro y hy;obtain⟨z,t,hkey⟩:=hk y (Array.mem_toList_iff.mp hy);simp [DictEntry.refKey,hkey]
  have a':¬ es.toList.any (·.refKey)=true:=by rw[a];exact A_
  rw[if_neg a'];exact QW some e
def ObjM.look(I:ObjM h x dx C mA):∃od,W.InstAt h x (W.instObj C dx) C (some od)/\∀name,W.lookIn name od=some (mA name):=
 let ⟨od,ho,hl⟩:=AF I.ns
 ⟨od,⟨I.obj,rfl,rfl,ho⟩,hl⟩
def RelO.some_of(r:RelO (some v) o):∃u,o=some u/\RelV v u:=by
 cases o with
 |none=>exact (show False from r).elim
 |some u=>exact⟨u,rfl,r⟩
section
variable{P:Program}{w:World}{H:Hp}{h:Heap}{a C dx:Addr}{fs:List (Str×V)}
def HI(hok:HOk P w H h)(e:H a=some (.ins C dx fs)):∃mA,ObjM h a dx C mA/\(∀f,RelO (fs.lookup f) (mA f))/\PySem.Within mA (fs.map (·.1))/\fs.length<=1000/\H dx=some (.own a):=by obtain⟨d,z,ne,ob,mA,n,r,q⟩:=(show ObjOk P w H h a (.ins C dx fs) from hok a _ e);exact⟨mA,⟨ob,n,ne⟩,r,q,z,d⟩
end
structure Cls(K:W.Frag)(C:Addr):Prop where
 pg:W.plainGet K C Str.empty=true
 hd:W.hasDictIn K C=true
 po:W.plainOver K C=true
 sa:W.findIn K (.ref C) "__setattr__"=some (some (.builtin "object.__setattr__"))
def Cls.get{K:W.Frag}{C:Addr}(c:Cls K C)(f:Str):W.plainGet K C f=true:=c.pg
section
variable{H:Hp}
inductive TyOf(K:W.Frag)(H:Hp):V->Value->Prop where
 |non:TyOf K H .non (.type "NoneType")
 |bl (x:Bool):TyOf K H (.bl x) (.type "bool")
 |int (i:Int):TyOf K H (.int i) (.type "int")
 |str (x:Str):TyOf K H (.str x) (.type "str")
 |flt (x:UInt64):TyOf K H (.flt x) (.type "float")
 |lst {a:Addr}{xs:List V} (e:H a=some (.lst xs)):TyOf K H (.ref a) (.type "list")
 |frz {a:Addr}{o:Obj}{xs:List V} (e:H a=some (.frz o (.lst xs))):TyOf K H (.ref a) (.type "list")
 |tup {a:Addr}{xs:List V} (e:H a=some (.tup xs)):TyOf K H (.ref a) (.type "tuple")
 |dK {a:Addr}{kvs:List (Key×V)} (e:H a=some (.dK kvs)):TyOf K H (.ref a) (.type "dict")
 |dT {a:Addr}{kvs:List (List Key×V)} (e:H a=some (.dT kvs)):TyOf K H (.ref a) (.type "dict")
 |ins {a C dx:Addr}{fs:List (Str×V)} (e:H a=some (.ins C dx fs)) (cl:Cls K C) (ha:W.findIn K (.ref C) "__class__"=some (some (.builtin "object.__class__")))
  (hn:W.specialIn K (.builtin "object.__class__") "__get__"=some (some (.builtin "getset_descriptor.__get__"))) (htk:W.takesIn K (.builtin "object.__class__")=some true)
  (hm:W.mroIn K C (.type "object")=some true):TyOf K H (.ref a) (.ref C)
end
structure Room(k:Nat)(A:Around):Prop where
 hd:A.handled=none
 dp:A.depth+3*k+5<recursionLimit
 un:A.units+16*k+200<cLine
def Room.mono(r:Room k A)(h:j<=k):Room j A:=⟨r.hd,by have:=r.dp;omega,by have:=r.un;omega⟩
def Room.deeper(r:Room (k+1) A)(env:Env):Room k (A.deeper env):=
 ⟨r.hd,by have:=r.dp;show A.depth+1+3*k+5<_;omega,by have:=r.un;show A.units+3+16*k+200<_;omega⟩
def Room.depth(r:Room k A):A.depth<recursionLimit:=by have:=r.dp;omega
def Room.units(r:Room k A):A.units+64<cLine:=by have:=r.un;omega
def tNil:TA:=λ_ H Q=>Q [] H
def Pj(ta:TE)(tr:TA):TA:=λσ H Q=>ta σ H λx H1=>tr σ H1 λxs H2=>Q (x::xs) H2
section
variable{X:Cx}{e:Expr}{es:List Expr}{te:TE}{t:TA}{pos:Pos}
def Nu:PA X [] tNil:=λ_ _ _ _ H Q I h=>Sq ⟨[],H,I,.nil,h⟩
def Gk(ha:PE X e te)(hr:PA X es t)(hs:starEach (e::es) X.env=(false,eval e X.env)::starEach es X.env):PA X (e::es) (Pj te t):=by intro pos pins s σ H Q I h;rw[hs];show wpAny _ _ (spliced ((false,eval e X.env)::backTo pos (starEach es X.env))) _ _ s;refine R0 (thn (ha pins s σ H _ I h) λu s1 ⟨x,H1,I1,r1,q1⟩=>?_);exact thn (hr pos pins s1 σ H1 _ I1 q1) λus s2 ⟨xs,H2,I2,r2,q2⟩=>⟨x::xs,H2,I2,.cons r1 r2,q2⟩
def tTup(t:TA):TE:=λσ H Q=>t σ H λxs H1=>xs.length<=sizeLine/\∀p,H1 p=none->Q (.ref p) (upd H1 p (.tup xs))
def tLst(t:TA):TE:=λσ H Q=>t σ H λxs H1=>xs.length<=sizeLine/\∀p,H1 p=none->Q (.ref p) (upd H1 p (.lst xs))
def JO{x1}(h:PA X es t):PE X (.Tuple es x1 pos) (tTup t):=by intro pins s σ H Q I hq;refine wpAny_Tuple_spliced (thn (h pos pins s σ H _ I hq) λus s1 ⟨xs,H1,I1,r,z,q⟩=>⟨by rw[<- r.length];exact z,?_⟩);have hf:H1 s1.heap.objs.size=none:=I1.hok.fresh (p_ _);refine⟨.ref s1.heap.objs.size,upd H1 s1.heap.objs.size (.tup xs),I1.laid (t':=s1.toks) (λb u e=>o_ _ e) (p_ _) ?_,rfl,q _ hf⟩;exact⟨z,us,r,⟨_,Em _ rfl,rfl,_,rfl⟩⟩
def Kd(h:PA X es t):PE X (.List es pos) (tLst t):=by intro pins s σ H Q I hq;refine wpAny_List_spliced (thn (h pos pins s σ H _ I hq) λus s1 ⟨xs,H1,I1,r,z,q⟩=>⟨by rw[<- r.length];exact z,?_⟩);have hf:H1 s1.heap.objs.size=none:=I1.hok.fresh (p_ _);refine⟨.ref s1.heap.objs.size,upd H1 s1.heap.objs.size (.lst xs),I1.laid (t':=s1.toks) (λb u e=>o_ _ e) (p_ _) ?_,rfl,q _ hf⟩;exact⟨z,us,0,r,Em _ rfl⟩
end
abbrev Sp:=List V->Hp->VK->XK->Prop
abbrev CXT:=List Env->Hp->Shared->XK->Value->Shared->Prop
structure Env0(P:Program)(w:World)(K:W.Frag)(mg:Ua)(base:Heap)(A:Around)(outer:List Env)(s:Shared)(H:Hp):Prop where
 frames:A.frames=some outer
 mod:Mod K mg base
 bs:∀b o,base.get? b=some o->s.heap.get? b=some o/\H b=none
 bsz:base.objs.size<=s.heap.objs.size
 funs:s.heap.FunFrames base outer
 frf:∀b∈frs outer,H b=none
 hok:HOk P w H s.heap
 bare:AllBare s.gens
def CE(outer:List Env)(P:Program)(w:World)(H:Hp)(s:Shared)(Q:VK)(u:Value)(s':Shared):Prop:=
 ∃v H',s'.os=s.os/\AllBare s'.gens/\Un (frs outer) [] H H' s.heap s'.heap/\HOk P w H' s'.heap/\RelV v u/\Q v H'
def CR(CX:CXT)(outer:List Env)(P:Program)(w:World)(H:Hp)(s:Shared)(Q:VK)(E:XK)(r:Result)(s':Shared):Prop:=
 match r with
 |.ok (.ret u)=>CE outer P w H s Q u s'
 |.ok _=>False
 |.error e=>CX outer H s E e s'
structure FnOk(P:Program)(w:World)(K:W.Frag)(mg:Ua)(base:Heap)(CX:CXT)(k:Nat)(f:Addr)(fd:FuncData)(ps:List Str)(sp:Sp):Prop where
 len:∀vs H Q E,sp vs H Q E->vs.length=ps.length
 run:∀(A:Around) (outer:List Env) (s:Shared) (H:Hp) (args:Args) (us:List Value) (vs:List V) (Q:VK) (E:XK),Room k A->Env0 P w K mg base A outer s H->BindsTo s fd args (ps.zip us)->Vals vs us->sp vs H Q E->
  codeAny (model P w) A (.call (.ref f) args) (CR CX outer P w H s Q E) s
def FnOk.imp{P:Program}{w:World}{K:W.Frag}{mg:Ua}{base:Heap}{CX:CXT}{k:Nat}{f:Addr}{fd:FuncData}{ps:List Str}{sp sp':Sp}(F:FnOk P w K mg base CX k f fd ps sp)
 (h:∀vs H Q E,sp' vs H Q E->sp vs H Q E):FnOk P w K mg base CX k f fd ps sp':=
 ⟨λvs H Q E q=>F.len vs H Q E (h _ _ _ _ q),λA outer s H args us vs Q E hr he hb hv hs=>F.run A outer s H args us vs Q E hr he hb hv (h _ _ _ _ hs)⟩
section
variable{X:Cx}{pins:Ub}{σ:St}{H:Hp}{s s':Shared}
def Inv.env0(I:Inv X pins σ H s):Env0 X.prog X.w X.K X.mg X.base X.A X.stack s H:=
 ⟨I.ok.frames,I.ok.mod,I.bs,F_ I.ok.bsz I.sz,I.stack,I.stkFree,I.hok,I.bare⟩
def Inv.after(I:Inv X pins σ H s)(h:CE X.stack X.prog X.w H s Q u s'):EP X pins σ Q u s':=by obtain⟨v,H',os,bare,un,hok,r,q⟩:=h;obtain⟨hh,g,d,t,os'⟩:=s';obtain rfl:os'=s.os:=os;exact⟨v,H',I.call (h':=hh) (g':=g) (d':=d) (t':=t) (ch:=[]) un hok bare (λb z=>absurd z (by simp)),r,q⟩
end
def Binds(K:W.Frag)(fd:FuncData)(ps:List Str)(ds:List Value):Prop:=
 ∀(s:Shared) (us:List Value),K.In s.heap->(us++ds).length=ps.length->BindsTo s fd ⟨us,[]⟩ (ps.zip (us++ds))
def Binds.all{K:W.Frag}{fd:FuncData}{ps:List Str}(h:∀us:List Value,us.length=ps.length->bindArgs fd ⟨us,[]⟩=pure (ps.zip us)):Binds K fd ps []:=λs us _ hl=>by rw[QU] at hl ⊢;exact .of_eq (h us hl)
def uY(CX:CXT)(X:Cx)(E:XK):Prop:=∀(pins:Ub) (σ:St) (H:Hp) (s:Shared) (e:Value) (s':Shared),Inv X pins σ H s->CX X.stack H s E e s'->X.xe e s'
structure FnScope(N P:List Str)(sc:Scope):Prop where
 kind:sc.kind=.function
 co:sc.isCoroutine=false
 gen:sc.isGenerator=false
 nd:N.Nodup
 pre:N.take P.length=P
 par:∀x∈P,sc.names.lookup x=some .local\/sc.names.lookup x=some .cell
 nofree:∀y∈sc.names,y.2 ≠ .free
theorem pJ{kindOf:Str->Option NameKind}{x:Str}:∀{binds:List (Str×Value)}{m:Ua},(∀v,(x,v)∉binds)->bindL kindOf binds m x=m x
 | [],_,_=>rfl
 |
  (n,v)::r,m,h=>by
  unfold bindL;rw[pJ λw hw=>h w (n_ _ hw)];split
  .have:x≠n:=by rintro rfl;exact h v r_
   simp [this]
  .rfl
theorem pE{kindOf:Str->Option NameKind}{x:Str}:∀{binds:List (Str×Value)}{m:Ua},(∀v,(x,v)∉binds)->bindC kindOf binds m x=m x
 | [],_,_=>rfl
 |
  (n,v)::r,m,h=>by
  unfold bindC;rw[pE λw hw=>h w (n_ _ hw)];split
  .rfl
  .have:x≠n:=by rintro rfl;exact h v r_
   simp [this]
theorem pq{kindOf:Str->Option NameKind}{x:Str}{v:Value}:∀{P:List Str}{vs:List Value}{i:Nat}{m:Ua},P.Nodup->P[i]?=some x->vs[i]?=some v->kindOf x=some .local->
 bindL kindOf (P.zip vs) m x=some v
 | [],_,_,_,_,h,_,_=>by simp at h
 |_::_,[],_,_,_,_,h,_=>by simp at h
 |
  p::P,w::vs,0,m,nd,h1,h2,hk=>by
  simp at h1 h2;subst h1;subst h2;show bindL kindOf ((p,w)::P.zip vs) m p=_;unfold bindL;rw[pJ λv hv=>(Sj.mp nd).1 (List.of_mem_zip hv).1,if_pos hk];simp
 |
  p::P,w::vs,i+1,m,nd,h1,h2,hk=>by
  show bindL kindOf ((p,w)::P.zip vs) m x=_;unfold bindL;exact pq (i:=i) (Sj.mp nd).2 (by simpa using h1) (by simpa using h2) hk
theorem pf{kindOf:Str->Option NameKind}{x:Str}{v:Value}:∀{P:List Str}{vs:List Value}{i:Nat}{m:Ua},P.Nodup->P[i]?=some x->vs[i]?=some v->kindOf x≠some .local->
 bindC kindOf (P.zip vs) m x=some v
 | [],_,_,_,_,h,_,_=>by simp at h
 |_::_,[],_,_,_,_,h,_=>by simp at h
 |
  p::P,w::vs,0,m,nd,h1,h2,hk=>by
  simp at h1 h2;subst h1;subst h2;show bindC kindOf ((p,w)::P.zip vs) m p=_;unfold bindC;rw[pE λv hv=>(Sj.mp nd).1 (List.of_mem_zip hv).1,if_neg hk];simp
 |
  p::P,w::vs,i+1,m,nd,h1,h2,hk=>by
  show bindC kindOf ((p,w)::P.zip vs) m x=_;unfold bindC;exact pf (i:=i) (Sj.mp nd).2 (by simpa using h1) (by simpa using h2) hk
noncomputable def fE(N:List Str)(vs:List V):St:=vs.map some++List.replicate (N.length-vs.length) none
noncomputable def c9(CX:CXT)(P:Program)(w:World)(K:W.Frag)(mg:Ua)(base:Heap)(N:List Str)(qual:Str)(scope:Scope)(f:Addr)(cd:Value)(A:Around)(outer:List Env)(s:Shared)(H:Hp)(E:XK):Cx where
 prog:=P
 w:=w
 K:=K
 mg:=mg
 base:=base
 A:=A.deeper (envOfC qual scope s.heap.objs.size f cd)
 N:=N
 s₀:=s
 H₀:=H
 env:=envOfC qual scope s.heap.objs.size f cd
 outer:=outer
 stack:=envOfC qual scope s.heap.objs.size f cd::outer
 ex:=[]
 calm:=true
 fn:=λ_=>true
 pn:=[]
 xe:=λe s'=>wpAny (model P w) (A.deeper (envOfC qual scope s.heap.objs.size f cd)) (leaving (envOfC qual scope s.heap.objs.size f cd) e) (λ_ s''=>CX outer H s E e s'') (λe' s''=>CX outer H s E e' s'') s'
def uN{sc:Scope}{n:Nat}{x:Str}(h:sc.names.lookup x=some .cell):∃c,(cellsFrom n sc.names []).lookup x=some c:=by have q:=W.cellsFrom_some sc.names n [] (.inl h);exact Rn.mp q
def AI{CX:CXT}{P:Program}{w:World}{K:W.Frag}{mg:Ua}{base:Heap}{N ps:List Str}{qual:Str}{scope:Scope}{f:Addr}{cd:Value}{A:Around}{outer:List Env}{s s1:Shared}{H:Hp}{E:XK}{us:List Value}{vs:List V}
 (S:FnScope N ps scope) (hd:A.handled=none) (e0:Env0 P w K mg base A outer s H) (hl:vs.length=ps.length) (r:Vals vs us)
 (x:InCallC s s.heap.objs.size (bindL (envOfC qual scope s.heap.objs.size f cd).kindOf (ps.zip us) λ_=>none) (cellsFrom (s.heap.objs.size+1) scope.names []) (bindC (envOfC qual scope s.heap.objs.size f cd).kindOf (ps.zip us) λ_=>none) s1):
 Inv (c9 CX P w K mg base N qual scope f cd A outer s H E) [] (fE N vs) H s1:=by
 have hpl:ps.length<=N.length:=by have:=QW List.length S.pre;rw[QJ] at this;omega
 obtain⟨h1,tk,rfl,hk⟩:=x.done;have noA:∀b:Addr,b∉(c9 CX P w K mg base N qual scope f cd A outer s H E).ex:=λb z=>absurd (show b∈([]:List Addr) from z) (by simp);refine⟨⟨e0.mod,S.kind,rfl,rfl,p_ _,λy z c h1 h2=>?_,λy hy=>?_,λy c _ h=>?_,λ_=>hd,Around.frames_deeper e0.frames,.inr ⟨rfl,rfl⟩,λb z=>absurd z (noA b),e0.bs,e0.bsz,λb _ _=>noA b,λb z=>absurd z (noA b),e0.funs,e0.frf⟩,
  rfl,e0.bare,Un.kept hk,⟨_,x.toInCall.ns,λi y v h1 h2 h3=>?_⟩,λy c h=>⟨_,x.cell y c h⟩,e0.hok.fresh (p_ _),λy c h=>?_,λp hp=>absurd (show p∈([]:Ub) from hp) (by simp),e0.hok.kept hk,?_⟩
 .exact name_of_addr x.apart (Rx h1) (Rx h2)
 .have hy:scope.names.lookup y=some .cell\/scope.names.lookup y=some .free:=hy;rcases hy with hy |hy
  .exact uN hy
  .exact absurd rfl (S.nofree _ (Rx hy))
 .exact Sx (x.above y c (Rx h))
 .have hi:i<vs.length:=by
   unfold fE at h2;by_cases hi:i<vs.length
   .exact hi
   .rw[QM (by simpa using hi)] at h2;rw[Rb] at h2;split at h2 <;> cases h2
  have ha:vs[i]?=some v:=by
   unfold fE at h2;rw[M_ (by simpa using hi),O_] at h2;cases e:vs[i]? with
   |none=>rw[e] at h2;cases h2
   |some a=>rw[e] at h2;cases h2;rfl
  obtain⟨u,hu,rv⟩:=r.get ha;have hp:ps[i]?=some y:=by rw[<- S.pre,List.getElem?_take_of_lt (by omega)];exact h1
  have ndP:ps.Nodup:=by rw[<- S.pre];exact S.nd.sublist (List.take_sublist _ _)
  refine⟨u,rv,?_⟩;rcases S.par y (RN hp) with k |k
  .exact .inl ⟨k,pq ndP hp hu k⟩
  .obtain⟨c,e⟩:=uN (n:=s.heap.objs.size+1) k;refine .inr ⟨.inl k,c,e,?_⟩;have q:=x.cell y c e;rw[pf ndP hp hu (by show scope.names.lookup y≠_;rw[k];decide)] at q;exact q
 .exact e0.hok.fresh (Sx (x.above y c (Rx h)))
 .unfold fE;show _=N.length;rw[D_,m_,Rl];omega
def Fo{CX:CXT}{P:Program}{w:World}{K:W.Frag}{mg:Ua}{base:Heap}{k:Nat}{f:Addr}{name qual:Str}{params:Arguments}{body:List Stmt}{scope:Scope}{dV kV doc pm cdv ct oc:Value}{an od:Option Addr}
 {osl:Array (Option Value)}{N ps:List Str}{sp:Sp} (lk:K.lookup f=some ⟨oc,od,.func (W.fnOf name qual params body scope dV kV doc pm an cdv ct),osl⟩) (kw:W.codeIn K cdv qual=true) (S:FnScope N ps scope)
 (len:∀vs H Q E,sp vs H Q E->vs.length=ps.length)
 (e_:∀(A:Around) (outer:List Env) (s:Shared) (H:Hp) (vs:List V) (Q:VK) (E:XK),Room k (A.deeper (envOfC qual scope s.heap.objs.size f cdv))->sp vs H Q E->
  ∃t,PSs (c9 CX P w K mg base N qual scope f cdv A outer s H E) body t/\t { nx:=λ_ H'=>Q .non H',rt:=Q } (fE N vs) H):
 FnOk P w K mg base CX (k+1) f (W.fnOf name qual params body scope dV kV doc pm an cdv ct) ps sp:=by
 refine⟨len,λA outer s H args us vs Q E hr e0 hb r hsp=>?_⟩;have hl:=len _ _ _ _ hsp;have KX:K.In s.heap:=e0.mod.kin.keeps λb o e=>(e0.bs b o e).1;have lim:s.heap.NoLimit:=e0.mod.nolimit.keeps λb o e=>(e0.bs b o e).1;have hkind:∀y∈ps.zip us,scope.names.lookup y.1=some .local\/(scope.names.lookup y.1=some .cell/\((cellsFrom (s.heap.objs.size+1) scope.names []).lookup y.1).isSome=true):=λ⟨n,v⟩ hy=>by
  rcases S.par n (List.of_mem_zip hy).1 with q |q
  .exact .inl q
  .exact .inr ⟨q,W.cellsFrom_some _ _ _ (.inl q)⟩
 refine codeAny_call_function hr.depth (KX _ _ lk) rfl S.co S.gen rfl (W.codeRec_of KX kw) (hb _ _ _ _ ?_);refine wpAny_newFunctionEnv_cells S.kind hkind λenv he s1 x=>?_;subst he;refine⟨lim.keeps x.toInCall.keep,codeAny_func ?_⟩;obtain⟨t,ht,hq⟩:=e_ A outer s H vs Q E (hr.deeper _) hsp;have I:Inv (c9 CX P w K mg base N qual scope f cdv A outer s H E) [] (fE N vs) H s1:=AI S hr.hd e0 hl r x;refine QR (ht [] s1 (fE N vs) H _ I hq) (λfl s' hs=>?_) λe s' hs=>hs;have i_:∀{σ':St}{H':Hp}{v:V}{u:Value},Inv (c9 CX P w K mg base N qual scope f cdv A outer s H E) [] σ' H' s'->RelV v u->Q v H'->CE outer P w H s Q u s':=
  λ{σ' H' v u} J rv q=>⟨v,H',J.os,J.bare,J.base,J.hok,rv,q⟩
 cases fl with
 |ret u=>obtain⟨v,σ',H',J,rv,q⟩:=hs;exact i_ J rv q
 |next=>obtain⟨σ',H',J,q⟩:=hs;exact i_ (v:=V.non) (u:=Value.none) J rfl q
 |brk=>obtain⟨_,_,_,q⟩:=hs;exact False.elim q
 |cont=>obtain⟨_,_,_,q⟩:=hs;exact False.elim q
section
variable{X:Cx}{x:Str}{p pos:Pos}{e:Expr}{es:List Expr}{t:TA}{id T:String}{r:List V->Hp->VK->Prop}
def tCB(r:List V->Hp->VK->Prop)(t:TA):TE:=λσ H Q=>t σ H λvs H1=>r vs H1 Q
def D3(hc:CallR X (.builtin id) r)(hg:Gl X x)(hm:X.mg x=none)(hv:bootBuiltins x=some (.builtin id))(ha:PA X (e::es) t)(hn:x ≠ "__name__")(hdb:(x==("__debug__" : Str))=false)
 (he:starEach (e::es) X.env=(false,eval e X.env)::starEach es X.env) (hpl:(backTo pos (starEach es X.env)).any (·.1)=false):PE X (.Call (.Name x p) (e::es) [] pos) (tCB r t):=by
 intro pins s σ H Q I h;refine Q7 (cU I hg hm hv ?_ hn hdb);exact PyProof.Rows.callWith_builtin1 (thn (ha pos pins s σ H _ I h) λus s1 ⟨vs,H1,I1,r1,q1⟩=>hc pins s1 σ H1 vs us Q I1 r1 q1) he hpl
def AZ(hc:CallR X (.type T) r)(hg:Gl X x)(hm:X.mg x=none)(hv:bootBuiltins x=some (.type T))(ha:PA X (e::es) t)(hn:x ≠ "__name__")(hdb:(x==("__debug__" : Str))=false)
 (he:starEach (e::es) X.env=(false,eval e X.env)::starEach es X.env) (hpl:(backTo pos (starEach es X.env)).any (·.1)=false):PE X (.Call (.Name x p) (e::es) [] pos) (tCB r t):=by
 intro pins s σ H Q I h;refine Q7 (cU I hg hm hv ?_ hn hdb);exact QT (thn (ha pos pins s σ H _ I h) λus s1 ⟨vs,H1,I1,r1,q1⟩=>hc pins s1 σ H1 vs us Q I1 r1 q1) he hpl
def xO(hc:CallR X (.type T) r)(hg:Gl X x)(hm:X.mg x=none)(hv:bootBuiltins x=some (.type T))(hn:x ≠ "__name__")(hdb:(x==("__debug__" : Str))=false):
 PE X (.Call (.Name x p) [] [] pos) (tCB r tNil):=by
 intro pins s σ H Q I h;refine Q7 (cU I hg hm hv ?_ hn hdb);exact PyProof.Rows.callWith_type0 (hc pins s σ H [] [] Q I .nil h)
end
end L2
namespace HT
open PySem PyProof.Rows
section
variable{prog:Program}{w:World}{A:Around}{E:Uc}{s:Shared}
def cat_tup(ht:IsTup s.heap t vs.toArray)(hb:IsTup s.heap b ws.toArray)(hv:vs≠[])
 (h1:ws=[]->Q (.ref t) s) (h2:ws≠[]->Q (.ref s.heap.objs.size) { s with heap:=s.heap.push { cls:=.type "tuple",data:=.seq (vs++ws).toArray } })
 (hsz:vs.length+ws.length<=sizeLine):wpAny (model prog w) A (binaryOp .Add (.ref t) (.ref b)) Q E s:=by
 obtain⟨⟨cls,dd,data,sl⟩,ho,hc,n,hd⟩:=id ht;obtain⟨⟨cls2,dd2,data2,sl2⟩,ho2,hc2,n2,hd2⟩:=id hb;simp only at hc hd hc2 hd2;subst hc hd hc2 hd2;have e:vs.toArray++ws.toArray=(vs++ws).toArray:=by simp
 by_cases hw:ws=[]
 .exact concat_meets ⟨_,ho,rfl⟩ ⟨_,ho2,rfl⟩ noFill_tuple_add seq_tuple_add SX SS (SO _ _)
   (tuple_addW1 t b vs.toArray ws.toArray n n2 dd dd2 sl sl2 (by simpa using hv) (by simp [hw])) ⟨ho,ho2,h1 hw⟩
 .refine concat_meets ⟨_,ho,rfl⟩ ⟨_,ho2,rfl⟩ noFill_tuple_add seq_tuple_add SX SS (SO _ _)
   (tuple_addW2 t b vs.toArray ws.toArray n n2 dd dd2 sl sl2 (by simpa using hv) (by simpa using hw) (by rw[z_,z_];exact hsz)) ⟨ho,ho2,?_⟩
  rw[e];exact h2 hw
noncomputable def sIx(n d:Nat):Option Int->Nat
 |none=>d
 |some v=>if v<0 then (v+(n:Int)).toNat else min v.toNat n
def sIx_none(n d:Nat):sIx n d none=d:=rfl
def sIx_nat(n d k:Nat):sIx n d (some (k:Int))=min k n:=by show (if (k:Int)<0 then ((k:Int)+(n:Int)).toNat else min (k:Int).toNat n)=min k n;rw[if_neg (by omega),Q3]
def Jt(n d:Nat)(hd:d<=n)(o:Option Int):sIx n d o<=n:=by
 cases o with
 |none=>exact hd
 |
  some v=>
  show (if v<0 then (v+(n:Int)).toNat else min v.toNat n)<=n;by_cases hv:v<0
  .rw[if_pos hv];omega
  .rw[if_neg hv];exact Nat.min_le_right _ _
def vH(v:Int)(n d:Nat):(if v<0 then max (v+(n:Int)) 0 else min v (n:Int))=((sIx n d (some v):Nat):Int):=by
 show (if v<0 then max (v+(n:Int)) 0 else min v (n:Int))=(((if v<0 then (v+(n:Int)).toNat else min v.toNat n):Nat):Int);by_cases hv:v<0
 .simp only[if_pos hv];omega
 .simp only[if_neg hv];omega
def yF(lo hi:Option Int)(n:Nat):Builtin.Slice.sliceAdjust lo hi 1 (n:Int)=(((sIx n 0 lo:Nat):Int),((sIx n n hi:Nat):Int)):=by
 have h1:¬ ((1:Int)<0):=by omega
 unfold Builtin.Slice.sliceAdjust;simp only[h1,Td];refine Prod.ext ?_ ?_
 .cases lo with
  |none=>rfl
  |some v=>exact vH v n 0
 .cases hi with
  |none=>rfl
  |some v=>exact vH v n n
def yt(i j:Nat):Builtin.Slice.slicePlaces (i:Int) (j:Int) 1=j-i:=by
 unfold Builtin.Slice.slicePlaces;have h1:(1:Int)>0:=by omega
 simp only[h1,Sa,Int.ediv_one];split <;> omega
def mK(p:IsPart v o)(h:Q o s):wpAny (model prog w) A (Builtin.Slice.slicePartIndex v) Q E s:=by
 cases p with
 |none=>exact slicePart_none h
 |int i t=>exact slicePart_int h
def l9{sl:Addr}{vl vu:Value}{lo hi:Option Int}{n:Nat}{Q:Int×Int×Nat->Shared->Prop}(hs:s.heap.IsSliceOf sl vl vu .none)(pl:IsPart vl lo)(pu:IsPart vu hi)
 (h:Q (((sIx n 0 lo:Nat):Int),1,sIx n n hi-sIx n 0 lo) s):wpAny (model prog w) A (Builtin.Slice.sliceApplied (.ref sl) (pure (n:Int))) Q E s:=by
 obtain⟨os,hos,hcs,hds⟩:=id hs;unfold Builtin.Slice.sliceApplied Builtin.Slice.sliceFields;refine l_ (l_ (Ra hos hds (x:=vl) rfl (l_ (Ra hos hds (x:=vu) rfl (l_ (Ra hos hds (x:=.none) rfl (x_ ?_)))))));refine l_ (slicePart_none ?_);show wpAny _ _ (if ((1:Int)==0)=true then _ else _) _ _ s;rw[if_neg (by decide)];refine l_ (mK pl (l_ (mK pu (l_ (x_ ?_)))));show wpAny _ _ (match Builtin.Slice.sliceAdjust lo hi 1 (n:Int) with |(lo,hi)=>pure (lo,(1:Int),Builtin.Slice.slicePlaces lo hi 1)) _ _ s;rw[yF lo hi n];show wpAny _ _ (pure (((sIx n 0 lo:Nat):Int),(1:Int),Builtin.Slice.slicePlaces ((sIx n 0 lo:Nat):Int) ((sIx n n hi:Nat):Int) 1)) _ _ s;rw[yt];exact x_ h
def C4(xs:Array Value)(i k:Nat):((List.range k).filterMap λ(m:Nat)=>xs[((i:Int)+(m:Int)*1).toNat]?).toArray=((xs.toList.drop i).take k).toArray:=by
 have e:(λ(m:Nat)=>xs[((i:Int)+(m:Int)*1).toNat]?)=λm=>xs[i+m]?:=by
  funext m;have:((i:Int)+(m:Int)*1).toNat=i+m:=by omega
  rw[this]
 rw[e]
 have:=pick_run xs i k
 rw[List.filterMap_map] at this;have e2:((λx=>xs[x]?) ∘ λx=>i+x)=λm=>xs[i+m]?:=rfl;rw[e2] at this;rw[this]
def getItem_tuple_cut{t sl:Addr}{items:Array Value}{vl vu:Value}{lo hi:Option Int}{Q:Uc}(ht:IsTup s.heap t items)(hs:s.heap.IsSliceOf sl vl vu .none)(pl:IsPart vl lo)(pu:IsPart vu hi)
 (hw:¬ (sIx items.size 0 lo=0/\sIx items.size items.size hi=items.size))
 (h:Q (.ref s.heap.objs.size) { s with heap:=s.heap.push { cls:=.type "tuple",data:=.seq ((items.toList.drop (sIx items.size 0 lo)).take (sIx items.size items.size hi-sIx items.size 0 lo)).toArray } })
 (hsz:items.size<=sizeLine):wpAny (model prog w) A (getItem (.ref t) (.ref sl)) Q E s:=by
 have htake:sizeOk (.seq ((items.toList.drop (sIx items.size 0 lo)).take (sIx items.size items.size hi-sIx items.size 0 lo)).toArray):=by show ((items.toList.drop (sIx items.size 0 lo)).take (sIx items.size items.size hi-sIx items.size 0 lo)).toArray.size<=sizeLine;rw[z_,QJ,QL,Q0];omega
 have hj:sIx items.size items.size hi<=items.size:=Jt _ _ (p_ _) hi;obtain⟨os,hos,hcs,hds⟩:=id hs;have hTs:s.TypeIs (.ref sl) "slice":=⟨os,hos,hcs⟩;unfold getItem;try with_reducible refine Ry ?_
 first |refine l_ (x_ ?_) |skip
 refine l_ (wpAny_sequenceKey ht.typeIs (by decide) ?_);refine l_ (RQ (name:=Str.ofString "__getitem__") ht.typeIs PyProof.Rows.slot_tuple_getitem
  (SD PyProof.Rows.slot_tuple_getitem ht.typeIs entry_tuple_getitem ?_ (args_tuple_getitem _ _)))
 show wpAny _ _ (Builtin.Tuple.tupleItemsOf (.ref t) >>= _) _ _ s;refine l_ (tupleItemsOf_ ht ?_);refine l_ (wpAny_typeOf hTs ?_);rw[if_pos (by decide)];refine l_ (l9 hs pl pu ?_);have hno:¬ ((((sIx items.size 0 lo:Nat):Int)==0&&(1:Int)==1&&(sIx items.size items.size hi-sIx items.size 0 lo)==items.size)=true):=by intro q;rw[u_,u_] at q;have q1:((sIx items.size 0 lo:Nat):Int)=0:=eq_of_beq q.1.1;have q2:sIx items.size items.size hi-sIx items.size 0 lo=items.size:=eq_of_beq q.2;exact hw ⟨by omega,by omega⟩
 show wpAny _ _ (if (((sIx items.size 0 lo:Nat):Int)==0&&(1:Int)==1&&(sIx items.size items.size hi-sIx items.size 0 lo)==items.size)=true then _ else _) _ _ s;rw[if_neg hno,C4];first
  |exact l_ (m:=Builtin.Tuple.tupleExact _) (Rj (x_ ⟨_,rfl,x_ h⟩) htake)
  |exact l_ (m:=Builtin.Tuple.tupleExact _) (Rj (l_ (x_ (x_ ⟨_,rfl,x_ h⟩))) htake)
  |exact l_ (l_ (m:=Builtin.Tuple.tupleExact _) (Rj (x_ (x_ ⟨_,rfl,x_ h⟩)) htake))
  |exact l_ (l_ (m:=Builtin.Tuple.tupleExact _) (Rj (x_ ⟨_,rfl,x_ h⟩) htake))
end
end HT
namespace L2
open PySem PySem.Spec PyProof.Rows
abbrev TO:=St->Hp->(Option Int->Hp->Prop)->Prop
def PO(X:Cx)(e:Option Expr)(t:TO):Prop:=
 ∀
  (pins:Ub) (s:Shared) (σ:St) (H:Hp) (Q:Option Int->Hp->Prop),Inv X pins σ H s->t σ H Q->
  wpAny (model X.prog X.w) X.A (evalPart e X.env) (λu s'=>∃o H',Inv X pins σ H' s'/\IsPart u o/\Q o H') X.xe s
def F2:TO:=λ_ H Q=>Q none H
def PY(t:TE):TO:=λσ H Q=>t σ H λx H1=>∃i,x=.int i/\Q (some i) H1
section
variable{X:Cx}{e:Expr}{te:TE}{lo hi:Option Expr}{tl th:TO}{pos p2:Pos}
def Hu:PO X none F2:=by intro pins s σ H Q I h;rw[evalPart_none];exact x_ ⟨none,H,I,.none,h⟩
def Ij(h:PE X e te):PO X (some e) (PY te):=by intro pins s σ H Q I hw;rw[evalPart_some];refine thn (h pins s σ H _ I hw) λu s1 ⟨x,H1,I1,r1,q1⟩=>?_;obtain⟨i,rfl,q⟩:=q1;obtain⟨t,rfl⟩:=r1;exact⟨some i,H1,I1,.int i t,q⟩
def SlR(X:Cx)(r:V->Option Int->Option Int->Hp->VK->Prop):Prop:=
 ∀
  (pins:Ub) (s:Shared) (σ:St) (H:Hp) (x:V) (v vl vu:Value) (lo hi:Option Int) (sl:Addr) (Q:VK),Inv X pins σ H s->RelV x v->s.heap.IsSliceOf sl vl vu .none->IsPart vl lo->IsPart vu hi->r x lo hi H Q->
  ∃T id,typeLookup (.type T) "__getitem__"=pure (some (.builtin id))/\s.TypeIs v T/\wpAny (model X.prog X.w) X.A (getItem v (.ref sl)) (EP X pins σ Q) X.xe s
def SlR.or(h:SlR X r)(h':SlR X r'):SlR X (λx lo hi H Q=>r x lo hi H Q\/r' x lo hi H Q):=by
 intro pins s σ H x v vl vu lo hi sl Q I rx hs pl pu q;rcases q with q |q
 .exact h pins s σ H x v vl vu lo hi sl Q I rx hs pl pu q
 .exact h' pins s σ H x v vl vu lo hi sl Q I rx hs pl pu q
def tSl(r:V->Option Int->Option Int->Hp->VK->Prop)(te:TE)(tl th:TO):TE:=λσ H Q=>te σ H λx H1=>tl σ H1 λl H2=>th σ H2 λu H3=>r x l u H3 Q
def Ck(hr:SlR X r)(he:PE X e te)(hl:PO X lo tl)(hu:PO X hi th):PE X (.Subscript e (.Slice lo hi none p2) pos) (tSl r te tl th):=by intro pins s σ H Q I h;refine Subscript_ (thn (he pins s σ H _ I h) λv s1 ⟨x,H1,I1,r1,q1⟩=>?_);refine wpAny_Slice (thn (hl pins s1 σ H1 _ I1 q1) λvl s2 ⟨l,H2,I2,pl,q2⟩=>thn (hu pins s2 σ H2 _ I2 q2) λvu s3 ⟨u,H3,I3,pu,q3⟩=>?_);rw[evalPart_none];refine x_ ?_;have I4:Inv X pins σ H3 { s3 with heap:=s3.heap.push { cls:=.type "slice",data:=.fields #[vl,vu,.none] } }:=I3.kept (t':=s3.toks) λb ob q=>o_ _ q;obtain⟨T,id,hT,ht,hg⟩:=hr pins { s3 with heap:=s3.heap.push { cls:=.type "slice",data:=.fields #[vl,vu,.none] } } σ H3 x v vl vu l u s3.heap.objs.size Q I4 r1 (Heap.IsSliceOf.new ..) pl pu q3;show wpAny (model X.prog X.w) X.A (subscriptTail e (.Slice lo hi none p2) v (.ref s3.heap.objs.size)) (EP X pins σ Q) X.xe { s3 with heap:=s3.heap.push { cls:=.type "slice",data:=.fields #[vl,vu,.none] } };exact tail_any (ops:=[.ref s3.heap.objs.size,v]) ht hT hg (by with_unfolding_all rfl)
noncomputable def ki(xs:List V)(lo hi:Option Int):List V:=(xs.drop (HT.sIx xs.length 0 lo)).take (HT.sIx xs.length xs.length hi-HT.sIx xs.length 0 lo)
def lH(xs:List V)(lo hi:Option Int):(ki xs lo hi).length<=xs.length:=by unfold ki;rw[QJ,QL];omega
def rSlT(K:W.Frag):V->Option Int->Option Int->Hp->VK->Prop:=λx lo hi H Q=>∃a xs,x=.ref a/\SqT K H a xs/\
 ¬ (HT.sIx xs.length 0 lo=0/\HT.sIx xs.length xs.length hi=xs.length)/\∀p,H p=none->Q (.ref p) (upd H p (.tup (ki xs lo hi)))
def MB:SlR X (rSlT X.K):=by
 intro pins s σ H x v vl vu lo hi sl Q I rx hs pl pu h;obtain⟨a,xs,rfl,hx,hw,q⟩:=h;cases rx;obtain⟨its,r,ht,hz⟩:=I.tuple hx;have bi:its.toArray.size=xs.length:=by rw[z_];exact r.length.symm
 refine⟨"tuple",_,PyProof.Rows.slot_tuple_getitem.lookup,ht.typeIs,?_⟩;refine HT.getItem_tuple_cut ht hs pl pu (by rw[bi];exact hw) ?_ (by rw[bi];exact hz);rw[bi];refine⟨.ref s.heap.objs.size,_,I.laid (t':=s.toks) (o:=.tup (ki xs lo hi)) (λb ob q=>o_ _ q) (p_ _) ?_,rfl,q _ (I.hok.fresh (p_ _))⟩;exact⟨F_ (lH xs lo hi) hz,_,(r.drop (HT.sIx xs.length 0 lo)).take (HT.sIx xs.length xs.length hi-HT.sIx xs.length 0 lo),IsTup.new _ _⟩
def kQ(K:W.Frag):R2:=λx y H Q=>∃a b xs ys,x=.ref a/\y=.ref b/\SqT K H a xs/\SqT K H b ys/\xs≠[]/\xs.length+ys.length<=sizeLine/\
 (ys=[]->Q (.ref a) H)/\(ys≠[]->∀p,H p=none->Q (.ref p) (upd H p (.tup (xs++ys))))
def Vals.nil_iff(r:Vals xs us):us=[] ↔ xs=[]:=by
 cases r with
 |nil=>simp
 |cons _ _=>simp
def GO:OpR X (binaryOp .Add) (kQ X.K):=by intro pins s σ H x y v u Q I rx ry h;obtain⟨a,b,xs,ys,rfl,rfl,ha,hb,hx,hz,q1,q2⟩:=h;cases rx;cases ry;obtain⟨its,r1,p1,_⟩:=I.tuple ha;obtain⟨its2,r2,p2,_⟩:=I.tuple hb;refine HT.cat_tup p1 p2 (λz=>hx (r1.nil_iff.mp z)) (λz=>⟨.ref a,H,I,rfl,q1 (r2.nil_iff.mp z)⟩) (λz=>?_) (by rw[<- r1.length,<- r2.length];exact hz);refine⟨.ref s.heap.objs.size,_,I.laid (t':=s.toks) (o:=.tup (xs++ys)) (λb ob q=>o_ _ q) (p_ _) ?_,rfl,q2 (λw=>z (r2.nil_iff.mpr w)) _ (I.hok.fresh (p_ _))⟩;exact⟨by rw[D_];exact hz,_,r1.append r2,IsTup.new _ _⟩
end
noncomputable def ixN(n:Nat)(i:Int):Option Nat:=if 0<=i then (if i<n then some i.toNat else none) else if -(n:Int)<=i then some (i+n).toNat else none
noncomputable def atI{α:Type}(xs:List α)(i:Int):Option α:=(ixN xs.length i).bind λj=>xs[j]?
def wg(h:ixN n i=some j):seqIndex? i n=some j/\j<n/\-(n:Int)<=i/\i<n:=by
 unfold ixN at h;by_cases h0:0<=i
 .rw[if_pos h0] at h;by_cases h1:i<n
  .rw[if_pos h1] at h;have e:i.toNat=j:=J_ h;exact⟨by rw[seqIndex_of h0 h1,e],by omega,by omega,h1⟩
  .rw[if_neg h1] at h;cases h
 .rw[if_neg h0] at h;by_cases h1:-(n:Int)<=i
  .rw[if_pos h1] at h;have e:(i+n).toNat=j:=J_ h;exact⟨by rw[seqIndex_neg (by omega) h1,e],by omega,h1,by omega⟩
  .rw[if_neg h1] at h;cases h
def wa(h:atI xs i=some v):∃j,seqIndex? i xs.length=some j/\xs[j]?=some v/\j<xs.length/\-(xs.length:Int)<=i/\i<xs.length:=by
 unfold atI at h;cases e:ixN xs.length i with
 |none=>rw[e] at h;cases h
 |some j=>rw[e] at h;obtain⟨h1,h2,h3,h4⟩:=wg e;exact⟨j,h1,h,h2,h3,h4⟩
def nY(b:Expr):Prop:=∀o i,subscripted b false o i=operate [o,i] (getItem o i)
def IxR(X:Cx)(r:R2):Prop:=
 ∀
  (value j':Expr) (pins:Ub) (s:Shared) (σ:St) (H:Hp) (x y:V) (v u:Value) (Q:VK),Inv X pins σ H s->RelV x v->RelV y u->r x y H Q->
  subscripted j' false v u=operate [v,u] (getItem v u)->wpAny (model X.prog X.w) X.A (subscriptTail value j' v u) (EP X pins σ Q) X.xe s
def MtR(X:Cx)(id:String)(r:V->List V->Hp->VK->Prop):Prop:=
 ∀
  (pins:Ub) (s:Shared) (σ:St) (H:Hp) (x:V) (xs:List V) (v:Value) (us:List Value) (Q:VK),Inv X pins σ H s->RelV x v->Vals xs us->r x xs H Q->
  wpAny (model X.prog X.w) X.A (call (.builtin id) (v::us)) (EP X pins σ Q) X.xe s
section
variable{X:Cx}{a b:Expr}{ta tb:TE}{pos:Pos}
def IxR.or(h:IxR X r)(h':IxR X r'):IxR X (λx y H Q=>r x y H Q\/r' x y H Q):=by
 intro value j' pins s σ H x y v u Q I rx ry q hs;rcases q with q |q
 .exact h value j' pins s σ H x y v u Q I rx ry q hs
 .exact h' value j' pins s σ H x y v u Q I rx ry q hs
def Qo(hr:IxR X r)(ha:PE X a ta)(hb:PE X b tb)(hs:nY b):PE X (.Subscript a b pos) (tOp r ta tb):=by intro pins s σ H Q I h;exact Subscript_ (BS ha hb I h λv u s2 x y H2 I2 rx ry q=>hr a b pins s2 σ H2 x y v u Q I2 rx ry q (hs _ _))
def yS(K:W.Frag):R2:=λx y H Q=>∃p xs i v,x=.ref p/\y=.int i/\SqL K H p xs/\atI xs i=some v/\Q v H
def xq(K:W.Frag):R2:=λx y H Q=>∃p xs i v,x=.ref p/\y=.int i/\SqT K H p xs/\atI xs i=some v/\Q v H
def FU:IxR X (yS X.K):=by
 intro value j' pins s σ H x y v u Q I rx ry h hs;obtain⟨p,xs,i,z,rfl,rfl,hq,he,q⟩:=h;cases rx;obtain⟨t,rfl⟩:=ry;obtain⟨its,r,pl,hz⟩:=I.list hq;obtain⟨j,h1,h2,h3,h4,h5⟩:=wa he;obtain⟨w,ew,rw'⟩:=r.get h2;have hl:=r.length;have hn:=g0;have i_:EP X pins σ Q w s:=⟨z,H,I,rw',q⟩;by_cases h0:0<=i
 .have hj:i.toNat=j:=by rw[seqIndex_of h0 h5] at h1;exact J_ h1
  exact item_listR pl.isList h0 (by omega) (by rw[hj];simpa using ew) i_ hs
 .have hj:(i+(its.toArray.size:Int)).toNat=j:=by rw[seqIndex_neg (by omega) h4] at h1;rw[z_,<- hl];exact J_ h1
  exact subscriptTail_builtinR (x:=w) pl.isList.typeIs slot_list_getitem.lookup
   (wpAny_getItem_list_neg (Q:=λr s'=>r=w/\EP X pins σ Q r s') pl.isList (by omega) (by rw[z_] <;> omega) (by omega) (by rw[hj];simpa using ew) ⟨rfl,i_⟩) hs
def IL:IxR X (xq X.K):=by
 intro value j' pins s σ H x y v u Q I rx ry h hs;obtain⟨p,xs,i,z,rfl,rfl,hq,he,q⟩:=h;cases rx;obtain⟨t,rfl⟩:=ry;obtain⟨its,r,pl,hz⟩:=I.tuple hq;obtain⟨j,h1,h2,h3,h4,h5⟩:=wa he;obtain⟨w,ew,rw'⟩:=r.get h2;have hl:=r.length;have hn:=g0;have i_:EP X pins σ Q w s:=⟨z,H,I,rw',q⟩;exact subscriptTail_builtinR (x:=w) pl.typeIs slot_tuple_getitem.lookup
  (getItem_tuple (j:=j) (Q:=λr s'=>r=w/\EP X pins σ Q r s') pl (by omega) (by omega) (by rw[z_,<- hl];exact h1) (by simpa using ew) ⟨rfl,i_⟩) hs
def yL(its:List Value)(n j:Nat)(u:Value):Obj.mapSeq (·.setIfInBounds j u) { cls:=.type "list",data:=.seq its.toArray n }={ cls:=.type "list",data:=.seq (its.set j u).toArray n }:=by simp [Obj.mapSeq]
def Inv.lst(I:Inv X pins σ H s)(h:H p=some (.lst xs)):
 ∃(its:List Value) (n:Nat),Vals xs its/\s.heap.get? p=some { cls:=.type "list",data:=.seq its.toArray n }/\xs.length<=sizeLine:=by
 obtain⟨z,its,n,r,e⟩:=I.hok p _ h;exact⟨its,n,r,e,z⟩
def Inv.lstUpd{pins:Ub}{σ:St}{H:Hp}{s:Shared}{p:Addr}{xs ys:List V}{its its':List Value}{n n':Nat}{f:Obj->Obj}(I:Inv X pins σ H s)(h:H p=some (.lst xs))
 (ho:s.heap.get? p=some { cls:=.type "list",data:=.seq its.toArray n }) (hf:f { cls:=.type "list",data:=.seq its.toArray n }={ cls:=.type "list",data:=.seq its'.toArray n' }) (r:Vals ys its') (hz:ys.length<=sizeLine) (t:Nat):
 Inv X pins σ (upd H p (.lst ys)) { s with heap:=s.heap.update p f,toks:=t }:=by
 have e:(s.heap.update p f).get? p=some { cls:=.type "list",data:=.seq its'.toArray n' }:=by rw[Heap.get?_update_self f ho (by rw[hf] <;> rfl),hf]
 refine I.write (x:=p) (e:=p) (by rw[h];trivial) (.inl rfl) (λb u hb q=>(SW _ _ (Ne.symm hb)).trans q) ⟨_,e⟩ ?_;exact⟨hz,its',n',r,e⟩
def yj:V->V->V->Hp->(Hp->Prop)->Prop:=λo i v H Q=>∃p xs k j,o=.ref p/\i=.int k/\H p=some (.lst xs)/\ixN xs.length k=some j/\Q (upd H p (.lst (xs.set j v)))
def Eh:rL X yj:=by
 intro pins s σ H o i v ov iv u Q I ro ri rv h;obtain⟨p,xs,k,j,rfl,rfl,hp,hj,q⟩:=h;cases ro;obtain⟨t,rfl⟩:=ri;obtain⟨its,n,r,ho,hz⟩:=I.lst hp;obtain⟨h1,h2,h3,h4⟩:=wg hj;have hl:=r.length;have hn:=g0;have I':Inv X pins σ (upd H p (.lst (xs.set j v))) { s with heap:=s.heap.update p (Obj.mapSeq (·.setIfInBounds j u)) }:=
  I.lstUpd hp ho (yL its n j u) (r.set rv j) (by rw[QG];exact hz) s.toks
 by_cases h0:0<=k
 .have hk:k.toNat=j:=by rw[seqIndex_of h0 h4] at h1;exact J_ h1
  exact W.ki_setAt ho h0 (by omega) (by rw[z_,<- hl];exact h4) (by rw[hk];exact⟨_,I',q⟩)
 .have hk:(k+(its.toArray.size:Int)).toNat=j:=by rw[seqIndex_neg (by omega) h3] at h1;rw[z_,<- hl];exact J_ h1
  exact W.ki_setBack ho (by omega) (by rw[z_,<- hl];exact h3) (by omega) (by rw[hk];exact⟨_,I',q⟩)
def tI(lo hi:Option Int)(n:Nat):(sliceBounds lo hi none n).1=((HT.sIx n 0 lo:Nat):Int)/\(sliceBounds lo hi none n).2.1=((HT.sIx n n hi:Nat):Int)/\(sliceBounds lo hi none n).2.2=1:=by
 refine⟨?_,?_,rfl⟩
 .cases lo with
  |none=>simp [sliceBounds,HT.sIx]
  |
   some i=>
   simp only[sliceBounds,HT.sIx,Option.getD_none,show (1:Int)>0 by decide,Sa];by_cases h:i<0
   .simp only[h,Sa] <;> omega
   .simp only[h,Td] <;> omega
 .cases hi with
  |none=>simp [sliceBounds,HT.sIx]
  |
   some i=>
   simp only[sliceBounds,HT.sIx,Option.getD_none,show (1:Int)>0 by decide,Sa];by_cases h:i<0
   .simp only[h,Sa] <;> omega
   .simp only[h,Td] <;> omega
def p8(its:List Value)(lo hi:Option Int):slicePick its.toArray lo hi none=((its.drop (HT.sIx its.length 0 lo)).take (HT.sIx its.length its.length hi-HT.sIx its.length 0 lo)).toArray:=by obtain⟨h1,h2,h3⟩:=tI lo hi its.toArray.size;unfold slicePick;rw[h1,h2,h3];simp only[sliceRange_one,pick_run,z_] <;> rfl
def rSlL(K:W.Frag):V->Option Int->Option Int->Hp->VK->Prop:=λx lo hi H Q=>∃a xs,x=.ref a/\SqL K H a xs/\∀p,H p=none->Q (.ref p) (upd H p (.lst (ki xs lo hi)))
def Ir:SlR X (rSlL X.K):=by intro pins s σ H x v vl vu lo hi sl Q I rx hs pl pu h;obtain⟨a,xs,rfl,hx,q⟩:=h;cases rx;obtain⟨its,r,ht,hz⟩:=I.list hx;have bi:=r.length;refine⟨"list",_,slot_list_getitem.lookup,ht.isList.typeIs,?_⟩;refine wpAny_getItem_list_slice ht.isList hs pl pu .none (by simp) ?_ (by rw[z_] <;> omega);rw[p8,<- bi];refine⟨.ref s.heap.objs.size,_,I.laid (t':=s.toks) (o:=.lst (ki xs lo hi)) (λb ob q=>o_ _ q) (p_ _) ?_,rfl,q _ (I.hok.fresh (p_ _))⟩;exact⟨F_ (lH xs lo hi) hz,_,0,(r.drop (HT.sIx xs.length 0 lo)).take (HT.sIx xs.length xs.length hi-HT.sIx xs.length 0 lo),Em _ rfl⟩
noncomputable def aZ:V->Bool
 |.non=>true
 |.bl _=>true
 |.int _=>true
 |.str _=>true
 |_=>false
noncomputable def eqV:V->V->Bool
 |.non,.non=>true
 |.bl a,.bl b=>a==b
 |.bl a,.int b=>(if a then 1 else 0)==b
 |.int a,.bl b=>a==(if b then 1 else 0)
 |.int a,.int b=>a==b
 |.str a,.str b=>a==b
 |_,_=>false
def Kj(ry:RelV y u)(rx:RelV x v)(fy:aZ y=true)(fx:aZ x=true):SeqAt.EqAt A s u v (eqV y x):=by
 cases y with
 |
  non=>
  cases ry;cases x with
  |non=>cases rx;exact SeqAt.EqAt.same _
  |bl b=>cases rx;exact SeqAt.EqAt.none_bool b
  |int b=>obtain⟨t,rfl⟩:=rx;exact SeqAt.EqAt.none_int b t
  |str b=>obtain⟨t,rfl⟩:=rx;exact SeqAt.EqAt.none_str b t
  |_=>exact absurd (show false=true from fx) A_
 |
  bl a=>
  cases ry;cases x with
  |non=>cases rx;exact SeqAt.EqAt.bool_none a
  |bl b=>cases rx;exact SeqAt.EqAt.bool_bool a b
  |int b=>obtain⟨t,rfl⟩:=rx;exact SeqAt.EqAt.bool_int a b t
  |str b=>obtain⟨t,rfl⟩:=rx;exact SeqAt.EqAt.bool_str a b t
  |_=>exact absurd (show false=true from fx) A_
 |
  int a=>
  obtain⟨t',rfl⟩:=ry;cases x with
  |non=>cases rx;exact SeqAt.EqAt.int_none a t'
  |bl b=>cases rx;exact SeqAt.EqAt.int_bool a t' b
  |int b=>obtain⟨t,rfl⟩:=rx;exact SeqAt.EqAt.int_int a t' b t
  |str b=>obtain⟨t,rfl⟩:=rx;exact SeqAt.EqAt.int_str a t' b t
  |_=>exact absurd (show false=true from fx) A_
 |
  str a=>
  obtain⟨t',rfl⟩:=ry;cases x with
  |non=>cases rx;exact SeqAt.EqAt.str_none a t'
  |bl b=>cases rx;exact SeqAt.EqAt.str_bool a t' b
  |int b=>obtain⟨t,rfl⟩:=rx;exact SeqAt.EqAt.str_int a t' b t
  |str b=>obtain⟨t,rfl⟩:=rx;exact SeqAt.EqAt.str_str a t' b t
  |_=>exact absurd (show false=true from fx) A_
 |_=>exact absurd (show false=true from fy) A_
noncomputable def eqU(x:V)(u:Value):Bool:=match u with
 |.none=>eqV .non x
 |.bool b=>eqV (.bl b) x
 |.int i _=>eqV (.int i) x
 |.str z _=>eqV (.str z) x
 |_=>false
def BI(r:RelV y u)(f:aZ y=true):eqU x u=eqV y x:=by
 cases y with
 |non=>cases r;rfl
 |bl b=>cases r;rfl
 |int i=>obtain⟨t,rfl⟩:=r;rfl
 |str z=>obtain⟨t,rfl⟩:=r;rfl
 |_=>exact absurd (show false=true from f) A_
theorem iZ:∀{xs:List V}{us:List Value},Vals xs us->xs.all aZ=true->us.any (eqU x)=xs.any λy=>eqV y x
 |_,_,.nil,_=>rfl
 |
  y::xs,u::us,.cons r t,f=>by
  rw[SF,u_] at f;rw[Rq,Rq,BI r f.1,iZ t f.2]
theorem gL(rx:RelV x v)(fx:aZ x=true):∀{xs:List V}{us:List Value},Vals xs us->xs.all aZ=true->∀u∈us,SeqAt.EqAt A s u v (eqU x u)
 |_,_,.nil,_=>λu hu=>by cases hu
 |
  y::xs,u::us,.cons r t,f=>λu' hu=>by
  rw[SF,u_] at f;rcases I_.mp hu with rfl |hu
  .rw[BI r f.1];exact Kj r rx f.1 fx
  .exact gL rx fx t f.2 u' hu
noncomputable def inV(x:V)(xs:List V):Bool:=xs.any λy=>eqV y x
def rIn(K:W.Frag)(neg:Bool):R2:=λx y H Q=>∃p xs,y=.ref p/\(SqL K H p xs\/SqT K H p xs)/\aZ x=true/\xs.all aZ=true/\Q (.bl (if neg then !inV x xs else inV x xs)) H
def Av:OpR X (compareOp .In) (rIn X.K false):=by
 intro pins s σ H x y v u Q I rx ry h;obtain⟨p,xs,rfl,hq,fx,fs,q⟩:=h;cases ry;rcases hq with hq |hq
 .obtain⟨its,r,pl,hz⟩:=I.list hq;refine SeqAt.in_listAt (eqU x) pl.isList (λw hw=>gL rx fx r fs w (by simpa using hw)) ⟨.bl _,H,I,rfl,?_⟩;rw[show its.toArray.any (eqU x)=its.any (eqU x) by simp,iZ r fs];exact q
 .obtain⟨its,r,pl,hz⟩:=I.tuple hq;refine SeqAt.in_tupleAt (eqU x) pl (λw hw=>gL rx fx r fs w (by simpa using hw)) ⟨.bl _,H,I,rfl,?_⟩;rw[show its.toArray.any (eqU x)=its.any (eqU x) by simp,iZ r fs];exact q
def ua:OpR X (compareOp .NotIn) (rIn X.K true):=by
 intro pins s σ H x y v u Q I rx ry h;obtain⟨p,xs,rfl,hq,fx,fs,q⟩:=h;cases ry;rcases hq with hq |hq
 .obtain⟨its,r,pl,hz⟩:=I.list hq;refine SeqAt.notIn_listAt (eqU x) pl.isList (λw hw=>gL rx fx r fs w (by simpa using hw)) ⟨.bl _,H,I,rfl,?_⟩;rw[show its.toArray.any (eqU x)=its.any (eqU x) by simp,iZ r fs];exact q
 .obtain⟨its,r,pl,hz⟩:=I.tuple hq;refine SeqAt.notIn_tupleAt (eqU x) pl (λw hw=>gL rx fx r fs w (by simpa using hw)) ⟨.bl _,H,I,rfl,?_⟩;rw[show its.toArray.any (eqU x)=its.any (eqU x) by simp,iZ r fs];exact q
def rn:CallR X (.builtin "len") (λxs H Q=>∃p ys,xs=[.ref p]/\(SqL X.K H p ys\/SqT X.K H p ys)/\Q (.int ys.length) H):=by
 intro pins s σ H xs us Q I r h;obtain⟨p,ys,rfl,hq,q⟩:=h;obtain⟨u,rfl,rx⟩:=f6 r;cases rx;have hn:=g0;rcases hq with hq |hq
 .obtain⟨its,r',pl,hz⟩:=I.list hq;have bi:=r'.length;exact Calls.call_len_list pl.isList (by simp only[z_] <;> omega) ⟨.int ys.length,H,I.tok _,⟨s.toks+1,by rw[z_,bi]⟩,q⟩
 .obtain⟨its,r',pl,hz⟩:=I.tuple hq;have bi:=r'.length;exact len_tuple pl (by simp only[z_] <;> omega) ⟨.int ys.length,H,I.tok _,⟨s.toks+1,by rw[z_,bi]⟩,q⟩
def ud:CallR X (.builtin "len") (λxs H Q=>∃z,xs=[.str z]/\z.length<=sizeLine/\Q (.int z.length) H):=by intro pins s σ H xs us Q I r h;obtain⟨z,rfl,hz,q⟩:=h;obtain⟨u,rfl,t,rfl⟩:=f6 r;have hn:=g0;exact len_str (by omega) ⟨.int z.length,H,I.tok _,⟨_,rfl⟩,q⟩
def CallR.or(h:CallR X f r)(h':CallR X f r'):CallR X f (λxs H Q=>r xs H Q\/r' xs H Q):=by
 intro pins s σ H xs us Q I rs q;rcases q with q |q
 .exact h pins s σ H xs us Q I rs q
 .exact h' pins s σ H xs us Q I rs q
def qc:CallR X (.type "tuple") (λxs H Q=>∃p ys,xs=[.ref p]/\((SqL X.K H p ys/\∀l,H l=none->Q (.ref l) (upd H l (.tup ys)))\/(SqT X.K H p ys/\Q (.ref p) H))):=by
 intro pins s σ H xs us Q I r h;obtain⟨p,ys,rfl,h⟩:=h;obtain⟨u,rfl,rx⟩:=f6 r;cases rx;rcases h with ⟨hq,q⟩ |⟨hq,q⟩
 .obtain⟨its,r',pl,hz⟩:=I.list hq;have bi:=r'.length;refine call_tuple_list pl.isList (λh' kp=>?_) (by simp only[z_] <;> omega);have I1:Inv X pins σ H { s with heap:=h' }:=I.kept (t':=s.toks) kp;have I2:Inv X pins σ (upd H h'.objs.size (.tup ys)) { s with heap:=h'.push { cls:=.type "tuple",data:=.seq its.toArray } }:=
   I1.laid (t':=s.toks) (λb o e=>o_ _ e) (p_ _) (show ObjOk X.prog X.w _ _ _ (.tup ys) from ⟨hz,its,r',IsTup.new _ _⟩)
  exact⟨.ref h'.objs.size,_,I2,rfl,q _ (I1.hok.fresh (p_ _))⟩
 .obtain⟨its,r',pl,hz⟩:=I.tuple hq;exact call_tuple_same pl ⟨.ref p,H,I,rfl,q⟩
def tyV(K:W.Frag)(T:String)(x:V)(H:Hp):Prop:=match x with
 |.str _=>T="str"
 |.int _=>T="int"
 |.ref p=>(T="list" /\ ∃xs,SqL K H p xs)\/(T="tuple" /\ ∃o,K.lookup p=some o/\o.cls=.type "tuple" /\ o.dict=none)\/
  (T="dict" /\ ((∃kvs,H p=some (.dK kvs))\/∃kvs,H p=some (.dT kvs)))\/(T="set" /\ ∃S n,H p=some (.set S n))
 |_=>False
def Bh(I:Inv X pins σ H s)(r:RelV x v)(ty:tyV X.K T x H):
 s.TypeIs v T/\∀a,v=.ref a->∃ob,s.heap.get? a=some ob/\ob.dict=none:=by
 cases x with
 |str z=>obtain⟨t,rfl⟩:=r;cases (show T="str" from ty);exact⟨typeIs_str s z t,λ_ e=>nomatch e⟩
 |int i=>obtain⟨t,rfl⟩:=r;cases (show T="int" from ty);exact⟨typeIs_int s i t,λ_ e=>nomatch e⟩
 |
  ref p=>
  cases r;rcases ty with ⟨rfl,xs,hq⟩ |⟨rfl,o,hk,hc,hd⟩ |⟨rfl,hk⟩ |⟨rfl,S,n,hk⟩
  .obtain⟨its,_,pl,_⟩:=I.list hq;refine⟨pl.isList.typeIs,λa e=>?_⟩;cases e;obtain⟨o,n,e,c,hd,_⟩:=pl;exact⟨o,e,hd⟩
  .refine⟨⟨o,I.kIn p o hk,hc⟩,λa e=>?_⟩;cases e;exact⟨o,I.kIn _ o hk,hd⟩
  .have z:∃o,s.heap.get? p=some o/\o.ExactDict:=by
    rcases hk with ⟨kvs,hk⟩ |⟨kvs,hk⟩
    .obtain⟨_,_,_,_,o,_,_,e,ex,_⟩:=I.hok p _ hk;exact⟨o,e,ex⟩
    .obtain⟨_,_,_,_,o,_,_,e,ex,_⟩:=I.hok p _ hk;exact⟨o,e,ex⟩
   obtain⟨o,e,ex⟩:=z;refine⟨⟨o,e,ex.1⟩,λa e2=>?_⟩;cases e2;exact⟨o,e,ex.2.1⟩
  .obtain⟨o,_,_,_,e,ex,_⟩:=I.hok p _ hk;refine⟨⟨o,e,ex.1⟩,λa e2=>?_⟩;cases e2;exact⟨o,e,ex.2.1⟩
 |_=>exact False.elim ty
def tBM0(K:W.Frag)(T:String)(r:V->List V->Hp->VK->Prop)(to:TE):TE:=λσ H Q=>to σ H λx H1=>tyV K T x H1/\r x [] H1 Q
def tBM(K:W.Frag)(T:String)(r:V->List V->Hp->VK->Prop)(to:TE)(t:TA):TE:=λσ H Q=>to σ H λx H1=>tyV K T x H1/\t σ H1 λxs H2=>r x xs H2 Q
variable{o e:Expr}{es:List Expr}{to:TE}{t:TA}{name:Str}{apos cpos:Pos}{T id:String}{r:V->List V->Hp->VK->Prop}
def Ks(pa:PlainAttrs T)(slot:Slot T name id)(hty:typeOf (.builtin id)=pure (.type "method_descriptor"))(hm:MtR X id r)(ho:PE X o to)
 (d_:attributeBase o name X.env (eval o X.env)=eval o X.env) (f_:(apos.endLine==cpos.line)=true):PE X (.Call (.Attribute o name apos) [] [] cpos) (tBM0 X.K T r to):=by
 intro pins s σ H Q I h;refine wpAny_Call_method0_late d_ f_ (thn (ho pins s σ H _ I h) λv s1 ⟨x,H1,I1,r1,ty,q1⟩=>?_);obtain⟨h1,h2⟩:=Bh I1 r1 ty;exact⟨T,id,pa,slot,hty,h1,h2,Calls.callWith_builtin rfl (PySem.evalArgs_none (hm pins s1 σ H1 x [] v [] Q I1 r1 .nil q1))⟩
def Fs(pa:PlainAttrs T)(slot:Slot T name id)(hty:typeOf (.builtin id)=pure (.type "method_descriptor"))(hm:MtR X id r)(ho:PE X o to)(ha:PA X (e::es) t)
 (d_:attributeBase o name X.env (eval o X.env)=eval o X.env)
 (hfew:((backTo cpos (starEach (e::es) X.env)).all (λx=>!x.1)&&(backToKw cpos (keywordEach [] X.env)).all (λx=>x.1.isSome)
  && decide ((e::es).length+([]:List Keyword).length+(if ([]:List Keyword).isEmpty then 0 else 1)<30))=true)
 (f_:(apos.endLine==cpos.line)=true) (hs:starEach (e::es) X.env=(false,eval e X.env)::starEach es X.env) (c_:(backTo cpos (starEach es X.env)).any (·.1)=false):
 PE X (.Call (.Attribute o name apos) (e::es) [] cpos) (tBM X.K T r to t):=by
 intro pins s σ H Q I h;refine wpAny_Call_method_late d_ hfew f_ rfl (thn (ho pins s σ H _ I h) λv s1 ⟨x,H1,I1,r1,ty,q1⟩=>?_);obtain⟨h1,h2⟩:=Bh I1 r1 ty;refine⟨T,id,pa,slot,hty,h1,h2,?_⟩;have hA:=ha cpos pins s1 σ H1 _ I1 q1;rw[hs] at hA ⊢;refine Calls.callWith_builtin (by show (false || (backTo cpos (starEach es X.env)).any (·.1))=false;rw[c_] <;> rfl) (Calls.evalArgs_plain ?_);exact thn hA λus s2 ⟨vs,H2,I2,r2,q2⟩=>hm pins s2 σ H2 x vs v us Q I2 r1 r2 q2
end
def MtM(X:Cx)(id:String)(r:V->List V->Hp->VK->Prop):Prop:=
 ∀
  (pins:Ub) (s:Shared) (σ:St) (H:Hp) (x:V) (xs:List V) (v:Value) (us:List Value) (Q:VK),Inv X pins σ H s->RelV x v->Vals xs us->r x xs H Q->
  wpAny (model X.prog X.w) X.A (call (.builtin id) (v::us)) (EP X pins σ Q) X.xe s
def Vals.one(r:Vals [x] us):∃u,us=[u]/\RelV x u:=by
 cases r with
 |cons r t=>cases t;exact⟨_,rfl,r⟩
theorem Vals.zero:∀{us:List Value},Vals [] us->us=[]
 |_,.nil=>rfl
def Vals.dropLast(h:Vals xs us):Vals xs.dropLast us.dropLast:=by
 induction h with
 |nil=>exact .nil
 |
  cons r t ih=>
  cases t with
  |nil=>exact .nil
  |cons q t'=>exact .cons r ih
def yZ{α:Type}(l:List α):l.eraseIdx (l.length-1)=l.dropLast:=by
 induction l with
 |nil=>rfl
 |
  cons a r ih=>
  cases r with
  |nil=>rfl
  |
   cons b r=>
   have e:(a::b::r).length-1=((b::r).length-1)+1:=by have h1:(a::b::r).length=r.length+2:=rfl;have h2:(b::r).length=r.length+1:=rfl;omega
   rw[e,List.eraseIdx_cons_succ,ih];all_goals rfl
section
variable{X:Cx}{pins:Ub}{σ:St}{H:Hp}{s:Shared}{l:Addr}{xs ys:List V}
def Inv.lset{its its':List Value}{n:Nat}{f:Array Value->Array Value}{t':Nat}(I:Inv X pins σ H s)(hH:H l=some (.lst xs))
 (e:s.heap.get? l=some { cls:=.type "list",data:=.seq its.toArray n }) (hf:f its.toArray=its'.toArray) (hv:Vals ys its') (hz:ys.length<=sizeLine):
 Inv X pins σ (upd H l (.lst ys)) { s with heap:=s.heap.update l (Obj.mapSeq f),toks:=t' }:=by
 have q:=PySem.IsL.update e f;rw[hf] at q;refine I.write (x:=l) (e:=l) (by rw[hH];exact trivial) (.inl rfl) (λb' u hb hu=>(SW s.heap (Obj.mapSeq f) (Ne.symm hb)).trans hu) ⟨_,q⟩ ?_;exact⟨hz,its',_,hv,q⟩
def Inv.lnew(I:Inv X pins σ H s)(hv:Vals ys its)(hz:ys.length<=sizeLine):
 Inv X pins σ (upd H s.heap.objs.size (.lst ys)) { s with heap:=s.heap.push { cls:=.type "list",data:=.seq its.toArray },toks:=t' }:=
 I.laid (λ_ _ q=>o_ _ q) (p_ _) ⟨hz,its,0,hv,Em _ rfl⟩
def Inv.fresh(I:Inv X pins σ H s):H s.heap.objs.size=none:=I.hok.fresh (p_ _)
def Inv.lstM(I:Inv X pins σ H s)(hH:H l=some (.lst xs)):xs.length<=sizeLine/\∃(its:List Value) (n:Nat),Vals xs its/\xs.length=its.length/\s.heap.get? l=some { cls:=.type "list",data:=.seq its.toArray n }:=by obtain⟨z,its,n,r,e⟩:=I.hok l _ hH;exact⟨z,its,n,r,r.length,e⟩
def DP{n:Nat}(h:n<=sizeLine):Builtin.List.listTooLong n=false:=by unfold Builtin.List.listTooLong;exact B_ (by omega)
end
section
variable{X:Cx}
def nQ:V->List V->Hp->VK->Prop:=λx vs H Q=>∃l xs y,x=.ref l/\vs=[y]/\H l=some (.lst xs)/\xs.length<sizeLine/\Q .non (upd H l (.lst (xs++[y])))
def zM:MtM X "list.append" nQ:=by intro pins s σ H x vs v us Q I rx rv h;obtain⟨l,xs,y,rfl,rfl,hH,hz,q⟩:=h;cases rx;obtain⟨u,rfl,ru⟩:=rv.one;obtain⟨z,its,n,r,hl,e⟩:=I.lstM hH;refine call_meets F.slot_list_append ⟨_,e,rfl⟩ F.entry_list_append (F.args_list_append_2 _ _) (PySem.list_append l its.toArray n u (by rw[z_];omega)) ⟨e,?_⟩;refine⟨.non,_,I.lset (its':=its++[u]) hH e (by simp) (r.append (.cons ru .nil)) ?_,rfl,q⟩;rw[D_,List.length_singleton];omega
def B9:V->List V->Hp->VK->Prop:=λx vs H Q=>∃l xs y,x=.ref l/\vs=[]/\H l=some (.lst xs)/\xs[xs.length-1]?=some y/\Q y (upd H l (.lst xs.dropLast))
def Nw:MtM X "list.pop" B9:=by
 intro pins s σ H x vs v us Q I rx rv h;obtain⟨l,xs,y,rfl,rfl,hH,hy,q⟩:=h;cases rx;have hus:=rv.zero;subst hus;obtain⟨z,its,n,r,hl,e⟩:=I.lstM hH;obtain⟨u,hu,ru⟩:=r.get hy;have hy':its.toArray[its.toArray.size-1]?=some u:=by show its.toArray[its.length-1]?=some u;rw[<- Array.getElem?_toList,<- hl];exact hu
 refine call_meets F.slot_list_pop ⟨_,e,rfl⟩ F.entry_list_pop (F.args_list_pop_1 _) (MeetsSeq.list_pop_last l its.toArray n u hy' (by rw[z_];omega)) ⟨e,?_⟩;refine⟨y,_,I.lset (its':=its.dropLast) hH e ?_ r.dropLast ?_,ru,q⟩
 .show its.toArray.eraseIdxIfInBounds (its.toArray.size-1)=its.dropLast.toArray;rw[z_,List.eraseIdxIfInBounds_toArray,yZ]
 .rw[List.length_dropLast];omega
def oU:R2:=λx y H Q=>∃l b xs zs,x=.ref l/\y=.ref b/\H l=some (.lst xs)/\H b=some (.lst zs)/\xs.length+zs.length<=sizeLine/\∀p,H p=none->Q (.ref p) (upd H p (.lst (xs++zs)))
def Nb:OpR X (binaryOp .Add) oU:=by
 intro pins s σ H x y v u Q I rx ry h;obtain⟨l,b,xs,zs,rfl,rfl,hH,hB,hz,q⟩:=h;cases rx;cases ry;obtain⟨z,its,n,r,hl,e⟩:=I.lstM hH;obtain⟨z2,its2,n2,r2,hl2,e2⟩:=I.lstM hB;refine PySem.P.add_list e e2 ?_ (by rw[z_,z_];omega);have ea:its.toArray++its2.toArray=(its++its2).toArray:=by simp
 rw[ea];exact⟨.ref _,_,I.lnew (t':=s.toks) (r.append r2) (by rw[D_];omega),rfl,q _ I.fresh⟩
end
section
set_option maxRecDepth 100000 in
end
end L2
namespace Att
open PySem PySem.W PySem.Calls PyProof.Rows
def mE:∀(ns:List Int) (vs:List Value),WellAll P h vs (ns.map WData.int)->IntsAre vs ns:=by
 intro ns;induction ns with
 |nil=>intro vs w;rw[QQ] at w;cases w;exact .nil
 |
  cons n ns ih=>
  intro vs w;rw[t_] at w;cases w with
  |cons a b=>cases a;exact .cons _ _ (ih _ b)
def A2{l:OpenLaw}{n:Nat}(hn:l.most=some n){P:Params}{h:Heap}{args:List WData}{vals:List Value}
 (hpre:l.row.toRowW.claim.pre args=true) (hwl:WellAll P h vals args):
 ∃a vs ns,vals=[Value.ref a]/\args=[WData.list (ns.map WData.int)]/\h.get? a=some { cls:=.type "list",data:=.seq vs.toArray }/\IntsAre vs ns/\ns.length<=n:=by
 have hsh:WShape.hasAll [] args [.list .int]=true:=(pre_splitW hpre).1;have hc:l.pre.holds [] { args:=args }=true:=(pre_splitW hpre).2;obtain⟨d,r,rfl,h1,h2⟩:=hasAllW_cons hsh;obtain rfl:=hasAllW_nil h2;obtain⟨xs,rfl,h3⟩:=hasW_list h1;obtain⟨ns,rfl⟩:=items_int h3;have bi:ns.length<=n:=by
  unfold OpenLaw.pre at hc;have h4:(WTm.not (.lt (.lit (.int (n:Int))) (.len (.arg 0)))).holds [] { args:=[.list (ns.map .int)] }=true:=by have h4:=(holds_andW hc).1;rw[hn] at h4;exact h4
  have h5:=condW_of h4 (w_not (w_lt w_lit (w_len_list (w_arg rfl))));rw[m_] at h5;refine Nat.le_of_not_lt λq=>?_;have q':(n:Int)<((ns.length:Nat):Int):=by omega
  first
   |(rw[G_ q'] at h5;exact absurd h5 (by decide))
   |(simp at h5;omega)
 cases hwl with
 |
  cons w1 w2=>
  cases w2;cases w1 with
  |list ho hall=>exact⟨_,_,ns,rfl,rfl,ho,mE ns _ hall,bi⟩
def Bz(l:OpenLaw)(args:List WData):l.row.toRowW.claim.post args (.bool true) args=true:=
 postW_of (r:=l.row.toRowW) (X:=(true==true))
  (show WShape.has [] (.bool true) .bool=true by first |rfl |decide |simp [WShape.has,WShape.arms,WShape.armsAll])
  (show (WTm.eq .res (.lit (.bool true))).value [] { args:=args,res:=some (.bool true),after:=args }=some (.bool (true==true)) from w_eq_bool (w_res rfl) w_lit) rfl
def attach_call{l:OpenLaw}{n:Nat}{q:Program}{loose:List Str}{XP:(Str->Option Value)->Heap->Prop}{YP:World->Heap->Prop}{d:DefRec}
 (hn:l.most=some n) (hdf:d.params.defaults=[])
 (call:∀(w:World) (s₀ s₁:Shared) (mg mb:Ua) (fa:Addr) (o:Obj) (pm cd doc:Value) (a:Addr) (vs:List Value) (ns:List Int),
  Ground q loose [] XP w s₀ mg mb s₁.heap->YP w s₁.heap->
  s₁.heap.get? fa=some o->o.data=.func (docDef d.name d.params d.body d.scope pm cd doc)->s₁.heap.CodeRec cd d.name->mg d.name=some (.ref fa)->
  s₁.heap.get? a=some { cls:=.type "list",data:=.seq vs.toArray }->IntsAre vs ns->ns.length<=n->s₁.gens=#[]->
  codeAny (model l.prog w) callerA (.call (.ref fa) ⟨[.ref a],[]⟩) (λr s'=>r=.ok (.ret (.bool true))/\OldK s₁.heap s'.heap/\s'.os=s₁.os/\AllBare s'.gens) s₁):
 WalkO q loose XP YP l.row.toRowW d [] (λf vs=>PySem.call f vs):=by
 intro w s₀ s₁ mg mb G Y fa o pm cd doc dV kV ho hd kw hD hmg hg args vals as hpre hlay hrd hwl hlo;obtain rfl:dV=.none:=Dflts.none hD hdf;obtain rfl:kV=.none:=Dflts.noKw hD;obtain⟨a,vs,ns,rfl,rfl,hobj,hints,bi⟩:=A2 hn hpre hwl;refine enter_call (Tq (call w s₀ s₁ mg mb fa o pm cd doc a vs ns G Y ho (fd_plain hd) kw hmg hobj hints bi hg) λr s' hq=>?_);obtain⟨rfl,h2,h3,h4⟩:=hq;exact⟨.inl ⟨.bool true,.bool true,[],rfl,λ_=>rfl,.bool true,Bz l _,λ_=>⟨List.Pairwise.nil,λ_ hm=>(nomatch hm)⟩⟩,h2,h3,h4⟩
section
def tJ(h:Heap):Heap:={ h with objs:=#[] }
def yq(h:Heap)(b:Addr):(tJ h).get? b=none:=by
 cases e:(tJ h).get? b with
 |none=>rfl
 |some o=>exact absurd (y_ e) (R7 _)
def ledger(h:Heap)(L d:Addr):List (Addr×Obj):=(List.range h.objs.size).filterMap λa=>if a=L\/a=d then none else (h.get? a).map λo=>(a,o)
def fr_all(n:h.Ns L m):Fr (tJ h) L h m:=
 ⟨n,λb o e=>(by rw[yq] at e;cases e),QH _⟩
end
end Att
namespace L2
open PySem PySem.Spec PyProof.Rows
theorem jZ:∀{vs:List Value}{ns:List Int},IntsAre vs ns->Vals (ns.map V.int) vs
 |_,_,.nil=>.nil
 |_,_,.cons n t h=>.cons ⟨t,rfl⟩ (jZ h)
def B0(H:Hp):Prop:=∀b,H b=none\/∃o xs,H b=some (.frz o (.lst xs))
def Cj{P:Program}{w:World}{K:W.Frag}{mg mb:Ua}{CX:CXT}{k:Nat}{fa a:Addr}{fd:FuncData}{x:Str}{sp:Sp}{s₁:Shared}{vs:List Value}{ns:List Int}
 (KX:K.In s₁.heap) (hns:s₁.heap.Ns mainGlobals mg) (hb:s₁.heap.Ns builtinsNs mb) (hbb:∀x:Str,x ≠ "__name__"->mb x=bootBuiltins x) (hlim:s₁.heap.NoLimit) (hg:s₁.gens=#[])
 (ha:s₁.heap.get? a=some { cls:=.type "list",data:=.seq vs.toArray }) (hi:IntsAre vs ns) (hl:ns.length<=sizeLine) (hr:Room k callerA)
 (F:∀base:Heap,K.In base->base.Ns mainGlobals mg->FnOk P w K mg base CX k fa fd [x] sp) (hbind:∀(s:Shared) (u:Value),BindsTo s fd ⟨[u],[]⟩ [(x,u)])
 (hsp:∀H:Hp,B0 H->SqL K H a (ns.map V.int)->sp [.ref a] H (λv _=>v=.bl true) λ_ _ _=>False)
 (hCX:∀H e s',CX [] H s₁ (λ_ _ _=>False) e s'->False):
 codeAny (model P w) callerA (.call (.ref fa) ⟨[.ref a],[]⟩) (λr s'=>r=.ok (.ret (.bool true))/\OldK s₁.heap s'.heap/\s'.os=s₁.os/\AllBare s'.gens) s₁:=by
 have rv:=jZ hi;have lenV:=hi.length;have core
  : ∀H:Hp,B0 H->SqL K H a (ns.map V.int)->HOk P w H s₁.heap->(∀b,H b≠none->b=a)->(H a≠none->K.lookup a=none)->
  codeAny (model P w) callerA (.call (.ref fa) ⟨[.ref a],[]⟩) (λr s'=>r=.ok (.ret (.bool true))/\OldK s₁.heap s'.heap/\s'.os=s₁.os/\AllBare s'.gens) s₁:=by
  intro H hO hS hok hA hK;have base_of:∀{b:Addr}{o:Obj},s₁.heap.get? b=some o->H b=none->(ft s₁.heap H).get? b=some o:=λe n=>tV e n;have noA:∀{b:Addr}{o:Obj}{es:Array DictEntry}{ep:Nat},s₁.heap.get? b=some o->o.data=.dict es ep->H b=none:=λ{b o es ep} e d=>by
   cases q:H b with
   |none=>rfl
   |some u=>have e':b=a:=hA b (by rw[q];simp);subst e';rw[ha] at e;cases e;have d':Data.seq vs.toArray _=Data.dict es ep:=d;cases d'
  have nsK:∀{b:Addr}{m:Ua},s₁.heap.Ns b m->(ft s₁.heap H).Ns b m:=λ{b m} ⟨o,es,ep,e,d,r⟩=>⟨o,es,ep,base_of e (noA e d),d,r⟩;have hKb:K.In (ft s₁.heap H):=λb o e=>base_of (KX b o e) (by
   cases q:H b with
   |none=>rfl
   |some u=>have e':b=a:=hA b (by rw[q];simp);subst e';rw[hK (by rw[q];simp)] at e;cases e)
  have hM:Mod K mg (ft s₁.heap H):=⟨hKb,nsK hns,⟨mb,nsK hb,hbb⟩,let ⟨mc,h1,h2⟩:=hlim;⟨mc,nsK h1,h2⟩⟩;have e0:Env0 P w K mg (ft s₁.heap H) callerA [] s₁ H:=⟨rfl,hM,λb o e=>vT e,Nat.le_of_eq (pM _ _),trivial,λb hb=>absurd (show b∈([]:List Addr) from hb) (by simp),hok,.of_eq hg⟩;refine Tq ((F _ hKb (nsK hns)).run callerA [] s₁ H ⟨[.ref a],[]⟩ [.ref a] [.ref a] _ _ hr e0 (hbind s₁ (.ref a)) (.cons rfl .nil) (hsp H hO hS)) λr s' h=>?_;cases r with
  |error e=>exact (hCX H e s' h).elim
  |
   ok fl=>
   cases fl with
   |next=>exact False.elim h
   |brk=>exact False.elim h
   |cont=>exact False.elim h
   |
    ret u=>
    obtain⟨v,H',os,bare,un,hok',r',q⟩:=h;have q':v=.bl true:=q;subst q';obtain rfl:u=Value.bool true:=r';refine⟨rfl,OldK.of_keep λb o e=>?_,os,bare⟩;cases q:H b with
    |none=>exact un.keep b o e q (by intro z;exact absurd (show b∈([]:List Addr) from z) (by simp)) (by simp)
    |
     some u=>
     rcases hO b with z |⟨ob,xs,z⟩
     .rw[q] at z;cases z
     .have z2:=un.frzs b ob _ z;obtain⟨e1,_⟩:=hok b _ z;obtain⟨e2,_⟩:=hok' b _ z2;rw[e] at e1;cases e1;exact e2
 cases hk:K.lookup a with
 |some o=>have e:=KX a o hk;rw[ha] at e;cases e;refine core (λ_=>none) (λ_=>.inl rfl) (.inr ⟨_,vs.toArray,_,hk,rfl,rfl,rfl,by rw[z_,lenV];exact hl,by simpa using rv⟩) (λb u z=>by have z':(none:Option HO)=some u:=z;cases z') (λb z=>absurd rfl z) λz=>absurd rfl z
 |
  none=>
  refine core (λb=>if b=a then some (.frz { cls:=.type "list",data:=.seq vs.toArray } (.lst (ns.map V.int))) else none) (λb=>?_) (.inl (.inr ⟨{ cls:=.type "list",data:=.seq vs.toArray },if_pos rfl⟩)) (λb u z=>?_) (λb z=>?_) λ_=>hk
  .by_cases hb:b=a
   .exact .inr ⟨_,_,if_pos hb⟩
   .exact .inl (if_neg hb)
  .by_cases hb:b=a
   .have z':=(if_pos hb).symm.trans z;cases z';subst hb;exact⟨ha,by rw[m_];exact hl,vs,_,rv,ha⟩
   .have z':=(if_neg hb).symm.trans z;cases z'
  .by_cases hb:b=a
   .exact hb
   .exact absurd (if_neg hb) z
abbrev KOf{K:W.Frag}{h:Heap}(_:K.In h):W.Frag:=K
def QF{l:W.OpenLaw}{n k:Nat}{q:Program}{loose:List Str}{XP:(Str->Option Value)->Heap->Prop}{YP:World->Heap->Prop}{d:DefRec}{K:Params->W.Frag}{CX:World->CXT}{sp:World->Sp}{x:Str}
 (hn:l.most=some n) (hn2:n<=sizeLine) (hdf:d.params.defaults=[]) (hr:Room k callerA)
 (hY:∀(w:World) (h:Heap),YP w h->(K w.params).In h)
 (F:∀(w:World) (mg:Ua) (fa:Addr) (h:Heap),(K w.params).In h->h.Ns mainGlobals mg->mg d.name=some (.ref fa)->
  ∃
   fd:FuncData,(∀(s:Shared) (u:Value),BindsTo s fd ⟨[u],[]⟩ [(x,u)])/\
   ∀base:Heap,(K w.params).In base->base.Ns mainGlobals mg->FnOk l.prog w (K w.params) mg base (CX w) k fa fd [x] (sp w))
 (hsp:∀(w:World) (H:Hp) (a:Addr) (ns:List Int),ns.length<=n->B0 H->SqL (K w.params) H a (ns.map V.int)->sp w [.ref a] H (λv _=>v=.bl true) λ_ _ _=>False)
 (hCX:∀(w:World) (H:Hp) (s:Shared) (e:Value) (s':Shared),CX w [] H s (λ_ _ _=>False) e s'->False):
 W.WalkO q loose XP YP l.row.toRowW d [] (λf vs=>PySem.call f vs):=by
 refine Att.attach_call hn hdf λw s₀ s₁ mg mb fa o pm cd doc a vs ns G Y ho hd kw hmg hobj hints bi hg=>?_;have KX:=hY w _ Y;obtain⟨fd,hb,hF⟩:=F w mg fa _ KX G.T.g hmg;exact Cj KX G.T.g G.T.b G.T.builtins G.T.nolimit hg hobj hints (F_ bi hn2) hr hF hb (λH hO hS=>hsp w H a ns bi hO hS) λH e s'=>hCX w H s₁ e s'
noncomputable def bS(s:Stmt):Arguments:=match s with
 |.FunctionDef _ a _ _ _ _ _ _ _ _=>a
 |_=>{ posonlyargs:=[],args:=[],vararg:=none,kwonlyargs:=[],kw_defaults:=[],kwarg:=none,defaults:=[] }
def aP(s:Stmt):List Stmt:=match s with
 |.FunctionDef _ _ b _ _ _ _ _ _ _=>b
 |_=>[]
noncomputable def ak(s:Stmt):Scope:=match s with
 |.FunctionDef _ _ _ _ _ _ sc _ _ _=>sc
 |_=>{ kind:=.function,names:=[],isGenerator:=false,isCoroutine:=false }
abbrev E0:XK:=λ_ _ _=>False
structure Fun(K:W.Frag)(x qual:Str)(st:Stmt)(f:Addr)(fd:FuncData):Prop where
 ex:∃(oc:Value) (od:Option Addr) (kV doc pm:Value) (an:Option Addr) (cdv ct:Value) (osl:Array (Option Value)),
  fd=W.fnOf x qual (bS st) (aP st) (ak st) .none kV doc pm an cdv ct/\K.lookup f=some ⟨oc,od,.func fd,osl⟩/\W.codeIn K cdv qual=true
 kp:W.keepIn K (.ref f)=true
section
variable{K:W.Frag}
def Fun.binds{x qual:Str}{st:Stmt}{f:Addr}{fd:FuncData}{ps:List Str}(F:Fun K x qual st f fd)
 (h:∀(kV doc pm:Value) (an:Option Addr) (cdv ct:Value) (us:List Value),us.length=ps.length->bindArgs (W.fnOf x qual (bS st) (aP st) (ak st) .none kV doc pm an cdv ct) ⟨us,[]⟩=pure (ps.zip us)):Binds K fd ps []:=by
 obtain⟨oc,od,kV,doc,pm,an,cdv,ct,osl,rfl,lk,kw⟩:=F.ex;exact .all (h kV doc pm an cdv ct)
def K1{x qual:Str}{st:Stmt}{f:Addr}{oc:Value}{od an:Option Addr}{osl:Array (Option Value)}{kV doc pm cdv ct:Value}(l:K.lookup f=some ⟨oc,od,.func (W.fnOf x qual (bS st) (aP st) (ak st) .none kV doc pm an cdv ct),osl⟩)
 (c:W.codeIn K cdv qual=true) (k:W.keepIn K (.ref f)=true):Fun K x qual st f (W.fnOf x qual (bS st) (aP st) (ak st) .none kV doc pm an cdv ct):=⟨⟨oc,od,kV,doc,pm,an,cdv,ct,osl,rfl,l,c⟩,k⟩
end
def OO(hr:Room k A):A.units+1<cLine:=RC (Nat.add_le_add_left (by decide:1<=64) _) hr.units
section
variable{X:Cx}{pins:Ub}{σ:St}{H:Hp}{s:Shared}
def Inv.track{a:Addr}{o:HO}(I:Inv X pins σ H s)(hn:H a=none)(h0:X.s₀.heap.get? a=none)(hL:a≠X.env.locals)(hc:∀x c,X.env.cells.lookup x=some c->c≠a)
 (hp:∀p∈X.pn++pins,p.1≠a) (new:ObjOk X.prog X.w (upd H a o) s.heap a o):Inv X pins σ (upd H a o) s:=by
 have ne:∀b u,H b=some u->b≠a:=λb u e z=>by rw[z,hn] at e;cases e
 have ne0:∀b u,X.s₀.heap.get? b=some u->b≠a:=λb u e z=>by rw[z,h0] at e;cases e
 refine⟨I.ok,I.os,I.bare,⟨I.base.keep,I.base.slot,λb u e n hx=>?_,I.base.there,λb xs e=>?_,λb u xs e=>?_,λb ps e=>?_⟩,I.loc,I.cell,?_,λx c e=>?_,λp hp'=>?_,λb u e=>?_,I.len⟩
 .rw[ax (ne0 b u e)];exact I.base.free b u e n hx
 .have q:=I.base.tups b xs e;rw[ax (ne _ _ q)];exact q
 .have q:=I.base.frzs b u xs e;rw[ax (ne _ _ q)];exact q
 .obtain⟨m,q⟩:=I.base.tbls b ps e;exact⟨m,by rw[ax (ne _ _ q)];exact q⟩
 .rw[ax (Ne.symm hL)];exact I.free
 .rw[ax (hc x c e)];exact I.freeC x c e
 .obtain⟨e,n,r⟩:=I.pin p hp';exact⟨e,by rw[ax (hp p hp')];exact n,r⟩
 .by_cases hb:b=a
  .subst hb;rw[aW] at e;cases e;exact new
  .rw[ax hb] at e;exact (I.hok b u e).stay (λc v _ q=>q) (λc q=>by rw[ax (ne _ _ q)];exact q) λc xs q=>by rw[ax (ne _ _ q)];exact q
end
theorem jd{env:Env}:∀{names:List (Str×NameKind)} (cs:List (Str×Addr)),(∀x∈names,x.2=.free->∃c,env.cells.lookup x.1=some c)->(∀x c,cs.lookup x=some c->env.cells.lookup x=some c)->
 ∃
  cl,(forIn names cs λ(x:Str×NameKind) (r:List (Str×Addr))=>if (x.2==NameKind.free)=true then do let a <- cellOf env x.1;pure (ForInStep.yield ((x.1,a)::r)) else pure (ForInStep.yield r):Sem (List (Str×Addr)))=pure cl/\
  (∀x c,cl.lookup x=some c->env.cells.lookup x=some c)/\(∀x c,cs.lookup x=some c->∃c',cl.lookup x=some c')/\∀x∈names,x.2=.free->∃c,cl.lookup x.1=some c
 | [],cs,_,h=>⟨cs,by simp,h,λx c e=>⟨c,e⟩,λ_ hx=>nomatch hx⟩
 |
  (n,k)::r,cs,hf,h=>by
  rw[List.forIn_cons];by_cases hk:k=.free
  .subst hk;obtain⟨c,hc⟩:=hf (n,.free) r_ rfl;have k_:cellOf env n=pure c:=by unfold cellOf;rw[hc]
   have h':∀x d,((n,c)::cs).lookup x=some d->env.cells.lookup x=some d:=λx d e=>by
    rw[Rf] at e;cases q:x==n with
    |true=>rw[q] at e;cases e;rw[QP.mp q];exact hc
    |false=>rw[q] at e;exact h x d e
   obtain⟨cl,e1,e2,e3,e4⟩:=jd (env:=env) (names:=r) ((n,c)::cs) (λx hx=>hf x (n_ _ hx)) h';have top:∃c',cl.lookup n=some c':=e3 n c (by rw[Rf];simp);refine⟨cl,?_,e2,λx d e=>?_,λx hx hfr=>?_⟩
   .simp only[Ta,Sa,k_];exact e1
   .by_cases q:x=n
    .rw[q];exact top
    .exact e3 x d (by rw[Rf,(E_.mpr q:(x==n)=false)];exact e)
   .rcases I_.mp hx with rfl |hx
    .exact top
    .exact e4 x hx hfr
  .have hb:(k==NameKind.free)=false:=by simpa using hk
   obtain⟨cl,e1,e2,e3,e4⟩:=jd (env:=env) (names:=r) cs (λx hx=>hf x (n_ _ hx)) h;refine⟨cl,?_,e2,e3,λx hx hfr=>?_⟩
   .simp only[hb,Sg,Td];exact e1
   .rcases I_.mp hx with rfl |hx
    .exact absurd hfr hk
    .exact e4 x hx hfr
def p7{env:Env}{scope:Scope}(hf:∀x∈scope.names,x.2=.free->∃c,env.cells.lookup x.1=some c):
 ∃cl,closureFor scope env=pure cl/\(∀x c,cl.lookup x=some c->env.cells.lookup x=some c)/\∀x∈scope.names,x.2=.free->∃c,cl.lookup x.1=some c:=by
 obtain⟨cl,e1,e2,_,e4⟩:=jd (env:=env) (names:=scope.names) [] hf (λx c e=>by simp at e);refine⟨cl,?_,e2,e4⟩;unfold closureFor;simp only[e1];rfl
noncomputable def aN(X:Cx)(N:List Str)(scope:Scope)(cl:List (Str×Addr))(C:Addr)(s₂:Shared)(H:Hp)(fp:List Addr):Cx:=
 { X with N:=N,s₀:=s₂,H₀:=H,env:=compEnvC scope cl C X.env,outer:=X.stack,stack:=X.stack,ex:=fp,fn:=λ_=>false,pn:=[],xe:=λ_ _=>False }
noncomputable def fY(sub:Ud)(σ:St):St:=sub.map λo=>o.bind λi=>(σ[i]?).bind id
def LcW(J:It)(sub:Ud)(g:TG)(tc:TT)(te:TE)(σ:St)(H1:Hp)(Q:VK):Prop:=∃W:Nat->Nat->List V->St->Hp->Prop,(∃m,W 0 m [] (fY sub σ) H1)/\∀i m ys σ H,W i m ys σ H->
 (J.stop i H/\ys.length<=sizeLine/\∀D,H D=none->Q (.ref D) (upd H D (.lst ys)))\/
 (J.go i H/\ys.length<sizeLine/\∃Nx:List V->St->Hp->Prop,(∀ys' σ' H',Nx ys' σ' H'->∃m',m'<m/\W (i+1) m' ys' σ' H')/\
  ∀x H',J.yld i H x H'->g x σ H' λσ2 H2=>tc σ2 H2 λb H3=>if b=true then te σ2 H3 λy H4=>Nx (ys++[y]) σ2 H4 else Nx ys σ2 H3)
def jc(wi:TI)(sub:Ud)(g:TG)(tc:TT)(te:TE):TE:=λσ H Q=>wi σ H λJ H1=>LcW J sub g tc te σ H1 Q
abbrev B8:TT:=λ_ H Q=>Q true H
section
variable{prog:Program}{w:World}{A:Around}{R:Result->Shared->Prop}{s:Shared}
def sx{jp target a_:Expr}{ifs:List Expr}{scope:Scope}{pos:Pos}{it acc:Value}{env:Env}(I:Nat->Shared->Prop)
 (turn
  : ∀n s,I n s->wpAny (model prog w) A (pyNext it) (λr s₁=>match r with
  |none=>R (.ok .next) s₁
  |some v=>wpAny (model prog w) A (letOwnedTupleGo target it v) (λ_ s₁'=>wpAny (model prog w) A (assign target env v) (λ_ s₂=>
   wpAny (model prog w) A (forIn ifs true λc r=>if r=true then do let ok <- isTrue c env (eval c env);pure (ForInStep.yield ok) else pure (ForInStep.yield r))
    (λok s₃=>if ok=true then wpAny (model prog w) A (eval jp env) (λx s₄=>wpAny (model prog w) A (call (.builtin "list.append") [acc,x]) (λ_ s₅=>∃m,m<n/\I m s₅) (λ_ _=>False) s₄) (λ_ _=>False) s₃
     else ∃m,m<n/\I m s₃) (λ_ _=>False) s₂) (λ_ _=>False) s₁') (λ_ _=>False) s₁) (λ_ _=>False) s)
 (n:Nat) (h:I n s):
 codeAny (model prog w) A (.compLoop (.ListComp jp [⟨target,a_,ifs,0⟩] scope pos) 0 it acc env) R s:=by
 refine codeAny_loop rfl I (λn s hI=>?_) n h;show wpAny _ _ ((compTurn (.ListComp jp [⟨target,a_,ifs,0⟩] scope pos) 0 it acc env).onRaise (λx=>do noteFrame x env;theTreesLotGoes x)) _ _ s;refine wpAny_noted ?_;rw[compTurn_list];refine QR (E:=λ_ _=>False) ?_ (λ_ _ q=>q) λ_ _ q=>q.elim;refine l_ (SH (l_ (QR (turn n s hI) (λr s₁ h₁=>?_) λ_ _ h'=>h')));cases r with
 |none=>exact x_ h₁
 |
  some v=>
  refine l_ (QR h₁ (λ_ s₁' h₁'=>?_) λ_ _ h'=>h');refine l_ (QR h₁' (λ_ s₂ h₂=>?_) λ_ _ h'=>h');refine l_ (QR h₂ (λok s₃ h₃=>?_) λ_ _ h'=>h');cases ok with
  |true=>simp only[Sa] at h₃ ⊢;refine l_ (l_ (QR h₃ (λx s₄ h₄=>?_) λ_ _ h'=>h'));refine l_ (QR h₄ (λ_ s₅ h₅=>?_) λ_ _ h'=>h');exact x_ (x_ ⟨rfl,h₅⟩)
  |
   false=>
   simp only[Sg,Td] at h₃ ⊢;first
    |exact l_ (x_ (x_ ⟨rfl,h₃⟩))
    |exact x_ ⟨rfl,h₃⟩
end
section
variable{X:Cx}
def PTs(X:Cx)(ifs:List Expr)(t:TT):Prop:=
 ∀
  (pins:Ub) (s:Shared) (σ:St) (H:Hp) (Q:Bool->Hp->Prop),Inv X pins σ H s->t σ H Q->
  wpAny (model X.prog X.w) X.A (forIn ifs true λc r=>if r=true then do let ok <- isTrue c X.env (eval c X.env);pure (ForInStep.yield ok) else pure (ForInStep.yield r)) (TP X pins σ Q) X.xe s
def vZ:PTs X [] (λ_ H Q=>Q true H):=λpins s σ H Q I h=>by rw[List.forIn_nil];exact x_ ⟨H,I,h⟩
structure LcEnd(X:Cx)(pins:Ub)(σ:St)(Q:VK)(D C:Addr)(s4:Shared):Prop where
 ns:∃m,s4.heap.Ns C m
 dc:D<C
 fr:X.env.locals<D
 cell:∀x c,X.env.cells.lookup x=some c->c<D
 pin:∀p∈X.pn++pins,p.1<D
 sz:X.s₀.heap.objs.size<=D
 inv:∃H',H' C=none/\Q (.ref D) H'/\∀h',Heap.SameBut C s4.heap h'->Inv X pins σ H' { s4 with heap:=h' }
def wK{jp a_ tg:Expr}{ifs:List Expr}{scope:Scope}{pos:Pos}{wi:TI}{g:TG}{tc:TT}{te:TE}{N:List Str}{sub:Ud}{use:Option (Value->Sem Unit)}{R:Uc}{pins:Ub}{s:Shared}{σ:St}{H:Hp}{Q:VK}{fpos:Pos}
 (hc:X.calm=true) (hi:PI X tg a_ wi)
 (hk:scope.kind=.function) (hnc:∀x∈scope.names,x.2 ≠ .cell) (ci:∀x∈scope.names,x.2=.local->scope.names.lookup x.1=some .local)
 (hfr:∀x∈scope.names,x.2=.free->X.env.kindOf x.1=some .cell\/X.env.kindOf x.1=some .free)
 (hsl:sub.length=N.length) (g_:∀(j i:Nat) (x:Str),sub[j]?=some (some i)->N[j]?=some x->X.N[i]?=some x/\scope.names.lookup x=some .free)
 (hg:∀cl C s₂ H fp,PG (aN X N scope cl C s₂ H fp) tg g) (ht:∀cl C s₂ H fp,PTs (aN X N scope cl C s₂ H fp) ifs tc) (he:∀cl C s₂ H fp,PE (aN X N scope cl C s₂ H fp) jp te)
 (hs:∀x,foldedSetIterable a_ X.env x=pure x) (I:Inv X pins σ H s) (h:jc wi sub g tc te σ H Q)
 (i_:∀D C s4,LcEnd X pins σ Q D C s4->compPost (model X.prog X.w) X.A X.xe use R (.ref D) C (.ok .next) s4):
 wpAny (model X.prog X.w) X.A (comprehension (.ListComp jp [⟨tg,a_,ifs,0⟩] scope pos) scope X.env fpos (newList []) false (eval a_ X.env) use) R X.xe s:=by
 obtain⟨cl,hclos,hcl,hclf⟩:=p7 (env:=X.env) (scope:=scope) λx hx hf=>I.ok.has x.1 (hfr x hx hf);refine wpAny_comprehension_free rfl hs hclos hk ci ?_;show wpAny _ _ (eval a_ X.env) _ _ _;refine thn (hi pins s σ H _ I h) λv s1 h1=>thn h1 λitv s2 h2=>?_;obtain⟨it,fp,tn,J,H2,e,I2,T,st2,f2,W,⟨m0,w0⟩,turn⟩:=h2;subst e;refine Rj (wpAny_newFunctionEnv hnc (by intro y hy;simp at hy) (λh₁ hns₁ hsb₁=>?_) hk);dsimp only at hns₁ hsb₁ ⊢;generalize hH2:s2.heap.push { cls:=.type "list",dict:=none,data:=.seq ([]:List Value).toArray }=G2 at hns₁ hsb₁ ⊢;have hC:G2.objs.size=s2.heap.objs.size+1:=by rw[<- hH2,SQ]
 have hDC:s2.heap.objs.size≠G2.objs.size:=by omega
 have below:∀b,b<s2.heap.objs.size->b≠G2.objs.size/\b≠s2.heap.objs.size:=λb hb=>⟨by omega,by omega⟩;have old:∀b o,s2.heap.get? b=some o->h₁.get? b=some o:=λb o e=>hsb₁.extBut b o (below b (y_ e)).1 (o_ _ (hH2 ▸ o_ _ e));have hD₁:h₁.get? s2.heap.objs.size=some { cls:=.type "list",dict:=none,data:=.seq ([]:List Value).toArray }:=hsb₁.extBut _ _ hDC (o_ _ (hH2 ▸ Em _ rfl));have fresh:∀a,s2.heap.objs.size<=a->s2.heap.get? a=none:=λa ha=>Tf ha;have cellOld:∀x c,cl.lookup x=some c->c<s2.heap.objs.size:=λx c e=>by obtain⟨v,z⟩:=I2.cell x c (hcl x c e);exact z.lt
 have fpOld:∀b∈fp,b<s2.heap.objs.size:=λb hb=>by obtain⟨o,e,_⟩:=T.obj _ _ st2 b hb;exact y_ e
 let Y:Cx:=aN X N scope cl G2.objs.size s2 H2 fp
 have okY:Y.Ok
  := by
  refine⟨I2.ok.mod,?_,I2.ok.glob,I2.ok.blt,?_,λx y c e1 e2=>I2.ok.inj x y c (hcl x c e1) (hcl y c e2),λx hx=>?_,λx c hfn _=>absurd hfn A_,I2.ok.hd,I2.ok.frames,.inl rfl,
   λb hb=>⟨?_,λx c e z=>?_⟩,I2.bs,F_ I2.ok.bsz I2.sz,λb o e hb=>?_,λb hb hf=>?_,I2.stack,I2.stkFree⟩
  .show (relabel scope X.env).kind=.function;exact hk
  .show s2.heap.objs.size<=G2.objs.size;omega
  .have hx':(
    relabel scope X.env).names.lookup x=some .cell\/(relabel scope X.env).names.lookup x=some .free:=hx
   have:∃k,
    (x,k)∈scope.names/\k=.free:=by
    have gen:∀(names:List (Str×NameKind)),(∀y∈names,y.2 ≠ .cell)->∀kk,(kk=NameKind.cell\/kk=NameKind.free)->(names.map λ(n,k)=>if (k==NameKind.free&&X.env.scope.kind == .function&&X.env.kindOf n==some .cell) then (n,NameKind.cell) else (n,k)).lookup x=some kk->∃k,(x,k)∈names/\k=.free:=by
     intro names;induction names with
     |nil=>intro _ kk _ e;simp at e
     |
      cons y r ih=>
      intro hn kk hkk e;obtain⟨n,k⟩:=y;rw[t_,Rf] at e;by_cases hkf:k=.free
      .subst hkf;by_cases hxn:x=n
       .exact⟨.free,by rw[hxn];exact r_,rfl⟩
       .have hb:(x==(if (NameKind.free==NameKind.free&&X.env.scope.kind == .function&&X.env.kindOf n==some .cell)=true then (n,NameKind.cell) else (n,NameKind.free)).1)=false:=by split <;> exact E_.mpr hxn
        rw[hb] at e;obtain⟨k',m,q⟩:=ih (λz hz=>hn z (n_ _ hz)) kk hkk e;exact⟨k',n_ _ m,q⟩
      .have hb0:(k==NameKind.free&&X.env.scope.kind == .function&&X.env.kindOf n==some .cell)=false:=by
        have:(k==NameKind.free)=false:=by simpa using hkf
        rw[this];rfl
       rw[hb0] at e;simp only[Sg,Td] at e;cases q:x==n with
       |
        true=>
        rw[q] at e;have e':k=kk:=J_ e;subst e';rcases hkk with z |z
        .exact absurd z (hn (n,k) r_)
        .exact absurd z hkf
       |false=>rw[q] at e;obtain⟨k',m,q⟩:=ih (λz hz=>hn z (n_ _ hz)) kk hkk e;exact⟨k',n_ _ m,q⟩
    rcases hx' with z |z
    .exact gen scope.names hnc _ (.inl rfl) z
    .exact gen scope.names hnc _ (.inr rfl) z
   obtain⟨k,m,q⟩:=this;exact hclf (x,k) m q
  .show b≠G2.objs.size;exact (below b (fpOld b hb)).1
  .exact (f2 b hb).2.2.2.2.1 x c (hcl x c e) z
  .rcases (f2 b hb).2.2.2.1 with z |z
   .exact I2.ok.noex b o e z
   .exact absurd (H_ (y_ e) (F_ I2.ok.bsz z)) (Rg _)
  .have hf':b∈frs X.stack:=hf;rcases I_.mp (I2.stkSub b hf') with z |z
   .exact (f2 b hb).2.1 z
   .exact (f2 b hb).2.2.1 z
 have startLoc
  : ∃m,h₁.Ns G2.objs.size m/\∀(i:Nat) (x:Str) (v:V),N[i]?=some x->(fY sub σ)[i]?=some (some v)->Vis (relabel scope X.env) x->∃u,RelV v u/\Look Y.env h₁ m x u:=by
  refine⟨_,hns₁,λj x v e1 e2 e3=>?_⟩;unfold fY at e2;rw[O_] at e2;cases q:sub[j]? with
  |none=>rw[q] at e2;cases e2
  |
   some o=>
   rw[q] at e2;cases o with
   |none=>cases e2
   |
    some i=>
    obtain⟨hNi,hfree⟩:=g_ j i x q e1;have e2':(σ[i]?).bind id=some v:=J_ e2;have e2'':σ[i]?=some (some v):=by
     cases z:σ[i]? with
     |none=>rw[z] at e2';cases e2'
     |some y=>rw[z] at e2';rw[show y=some v from e2']
    obtain⟨m2,hn2,hl2⟩:=I2.loc;have hkx:=hfr (x,.free) (Rx hfree) rfl;obtain⟨u,r,l⟩:=hl2 i x v hNi e2'' (by rcases hkx with z |z;exact .inr (.inl z);exact .inr (.inr z));refine⟨u,r,.inr ⟨?_,?_⟩⟩
    .rcases e3
      with z |z |z
     .exfalso;have gen:∀(names:List (Str×NameKind)),names.lookup x=some .free->(names.map λ(n,k)=>if (k==NameKind.free&&X.env.scope.kind == .function&&X.env.kindOf n==some .cell) then (n,NameKind.cell) else (n,k)).lookup x=some .local->False:=by
       intro names;induction names with
       |nil=>intro e _;simp at e
       |
        cons y r ih=>
        intro e1 e2;obtain⟨n,k⟩:=y;rw[Rf] at e1;rw[t_,Rf] at e2;by_cases hxn:x=n
        .have hb1:(x==n)=true:=QP.mpr hxn;rw[hb1] at e1;have:k=.free:=J_ e1;subst this;split at e2
         .rename_i hq;split at e2 <;> cases e2
         .rename_i hq;split at hq <;> (rw[hb1] at hq;cases hq)
        .have hb1:(x==n)=false:=E_.mpr hxn;rw[hb1] at e1;refine ih e1 ?_;split at e2
         .rename_i hq;split at hq <;> (rw[hb1] at hq;cases hq)
         .exact e2
      exact gen scope.names hfree z
     .exact .inl z
     .exact .inr z
    .obtain⟨c,hc'⟩:=hclf (x,.free) (Rx hfree) rfl;refine⟨c,hc',?_⟩;rcases l with ⟨k,_⟩ |⟨_,c2,ec2,z⟩
     .rcases hkx with z |z <;> (rw[k] at z;cases z)
     .have:=hcl x c hc'
      rw[ec2] at this;cases this;obtain⟨oc,hoc,hd⟩:=z;exact⟨oc,old _ _ hoc,hd⟩
 have pinD:∀{σ':St}{H':Hp}{s':Shared}{pl:Ub}{o:Obj},Inv Y pl σ' H' s'->s'.heap.get? s2.heap.objs.size=some o->(∀v,o.data ≠ .cell v)->H' s2.heap.objs.size=none->Inv Y [(s2.heap.objs.size,o)] σ' H' s':=λ{σ' H' s' pl o} IY e d n=>
  IY.pins_of λp hp=>by
   have e':p=(s2.heap.objs.size,o):=by simpa using hp
   subst e';refine⟨e,n,?_,?_,d⟩
   .show s2.heap.objs.size≠G2.objs.size;omega
   .intro hf;have hf':s2.heap.objs.size∈frs X.stack:=hf;obtain⟨_,o',ho',_⟩:=I2.stack.mem hf';exact absurd (y_ ho') (Rg _)
 have fpY:∀{H':Hp}{pl:Ub},(∀b∈fp,H' b=none)->(∀p∈pl,p.1∉fp)->∀b∈fp,FpOk Y pl H' b:=λ{H' pl} hn hp b hb=>by
  refine⟨hn b hb,?_,?_,.inl hb,λx c e=>?_,λp hp'=>?_⟩
  .exact (okY.exf b hb).1
  .exact okY.exfs b hb
  .exact (okY.exf b hb).2 x c e
  .intro z;have hp'':p∈pl:=by simpa [Y,aN] using hp'
   exact hp p hp'' (by rw[z];exact hb)
 have hDfp:s2.heap.objs.size∉fp:=λz=>Rg _ (fpOld _ z);have loop
  : ∀s₃:Shared,s₃={ s2 with heap:=h₁,toks:=s2.toks+([]:List (Str×Value)).length }->
  codeAny (model X.prog X.w) X.A (.compLoop (.ListComp jp [⟨tg,a_,ifs,0⟩] scope pos) 0 (.ref it) (.ref s2.heap.objs.size) (compEnvC scope cl G2.objs.size X.env))
   (compPost (model X.prog X.w) X.A X.xe use R (.ref s2.heap.objs.size) G2.objs.size) s₃:=by
  rintro s₃ rfl;have IY0:Inv Y [(s2.heap.objs.size,{ cls:=.type "list",dict:=none,data:=.seq ([]:List Value).toArray })] (fY sub σ) H2 { s2 with heap:=h₁,toks:=s2.toks+([]:List (Str×Value)).length }:=by
   have J0:Inv Y [] (fY sub σ) H2 { s2 with heap:=h₁,toks:=s2.toks+([]:List (Str×Value)).length }:=by
    refine⟨okY,rfl,I2.bare,Un.kept old,startLoc,λx c e=>?_,I2.hok.fresh (by show s2.heap.objs.size<=G2.objs.size;omega),λx c e=>I2.freeC x c (hcl x c e),λp hp=>absurd (show p∈([]:Ub) from hp) (by simp),I2.hok.kept old,?_⟩
    .obtain⟨v,oc,hoc,hd⟩:=I2.cell x c (hcl x c e);exact⟨v,oc,old _ _ hoc,hd⟩
    .show (fY sub σ).length=N.length;unfold fY;rw[m_];exact hsl
   exact pinD J0 hD₁ (λv z=>by cases z) I2.fresh
  refine sx (λn s'=>∃(i:Nat) (ys:List V) (its:List Value) (k:Nat) (σ':St) (H':Hp),Inv Y [(s2.heap.objs.size,{ cls:=.type "list",dict:=none,data:=.seq its.toArray k })] σ' H' s'/\Vals ys its/\tn i s'.heap/\(∀b∈fp,H' b=none)/\W i n ys σ' H') ?_ m0
   ⟨0,[],[],0,fY sub σ,H2,IY0,.nil,T.keep _ _ _ st2 (λb hb o e=>old b o e),λb hb=>(f2 b hb).1,w0⟩
  rintro n s3 ⟨i,ys,its,k,σ3,H3,I3,rv,st3,fr3,w3⟩;have npl:∀(o:Obj),∀p∈[(s2.heap.objs.size,o)],p.1∉fp:=λo p hp=>by
   have e':p=(s2.heap.objs.size,o):=by simpa using hp
   subst e';exact hDfp
  rcases turn i n ys σ3 H3 w3 with ⟨stop,hz,qn⟩ |⟨go,hz,Nx,hNx,step⟩
  .refine QR (T.done Y rfl rfl rfl hc i _ s3 σ3 H3 (λ_ _=>False) I3 (fpY fr3 (npl _)) st3 stop) (λr s4 ⟨hr,I4⟩=>?_) λ_ _ z=>z;subst hr;obtain⟨m4,hn4,_⟩:=I4.loc;have hCfree:H3 G2.objs.size=none:=I4.free;have hD4:=I4.pin (s2.heap.objs.size,{ cls:=.type "list",dict:=none,data:=.seq its.toArray k }) (QN _ r_);have un4:Un (frs X.stack) fp H2 H3 s2.heap s4.heap:=I4.base;have ne2:∀b o,s2.heap.get? b=some o->b≠G2.objs.size:=λb o e=>(below b (y_ e)).1;have hDfree:H3 s2.heap.objs.size=none:=hD4.2.1;have sz0:X.s₀.heap.objs.size<=s2.heap.objs.size:=I2.sz;refine i_ s2.heap.objs.size G2.objs.size s4 ⟨⟨m4,hn4⟩,by rw[hC];exact Nat.lt_succ_self _,I2.lt,λx c e=>?_,λp hp=>y_ (I2.pin p hp).1,sz0,upd H3 s2.heap.objs.size (.lst ys),by rw[ax (Ne.symm hDC)];exact hCfree,qn _ hDfree,λh' hs'=>?_⟩
   .obtain⟨v,q⟩:=I2.cell x c e;exact q.lt
   have up:∀b o,b≠G2.objs.size->s4.heap.get? b=some o->h'.get? b=some o:=λb o hb e=>hs'.extBut b o hb e;have un5:Un (frs X.stack) fp H2 H3 s2.heap h':=by
    refine⟨λb o e n hb hx=>up b o (ne2 b o e) (un4.keep b o e n hb hx),λb o e n hb hx=>?_,un4.free,λb o e hx=>?_,un4.tups,un4.frzs,un4.tbls⟩
    .obtain⟨sl,q⟩:=un4.slot b o e n hb hx;exact⟨sl,up b _ (ne2 b o e) q⟩
    .obtain⟨o',q⟩:=un4.there b o e hx;exact⟨o',up b _ (ne2 b o e) q⟩
   have hok5:HOk X.prog X.w H3 h':=λb u e=>(I4.hok b u e).stay (λc v hcc q=>up c v (λz=>by
    rcases hcc with zz |zz
    .rw[zz] at z;rw[z,hCfree] at e;cases e
    .rw[z,hCfree] at zz;cases zz) q) (λ_ q=>q) λ_ _ q=>q
   have I5:Inv X pins σ H3 { s4 with heap:=h' }:=I2.call' (s':={ s4 with heap:=h' }) (ch:=fp) I4.os un5 hok5 I4.bare λb hb=>by obtain⟨_,g1,_,g3,g4,g5⟩:=f2 b hb;exact⟨g3,g1,g4,g5⟩
   refine I5.track (o:=.lst ys) hDfree (Tf sz0) (Sy I2.lt) (λx c e z=>?_) (λp hp z=>?_) ?_
   .obtain⟨v,q⟩:=I2.cell x c e;exact absurd q.lt (by rw[z];exact Rg _)
   .exact absurd (y_ (I2.pin p hp).1) (by rw[z];exact Rg _)
   .exact⟨hz,its,k,rv,up _ _ hDC hD4.1⟩
  .refine QR (T.item Y rfl rfl rfl hc i _ s3 σ3 H3 (λ_ _=>False) I3 (fpY fr3 (npl _)) st3 go) (λr s4 ⟨u,hr,h4⟩=>?_) λ_ _ z=>z;subst hr;refine QR h4 (λ_ s5 ⟨x,H5,I5,r5,y5,st5,fr5⟩=>?_) λ_ _ z=>z;have I5':=I5.pinned (fpY fr5 (npl _)) (T.obj _ _ st5);refine QR (hg cl G2.objs.size s2 H2 fp _ s5 σ3 H5 x u _ I5' r5 (step x H5 y5)) (λ_ s6 ⟨σ6,H6,I6,q6⟩=>?_) λ_ _ z=>z;refine QR (ht cl G2.objs.size s2 H2 fp _ s6 σ6 H6 _ I6 q6) (λok s7 ⟨H7,I7,q7⟩=>?_) λ_ _ z=>z;have back:∀{σ':St}{H':Hp}{s':Shared},Inv Y ([(s2.heap.objs.size,{ cls:=.type "list",dict:=none,data:=.seq its.toArray k })]++jU fp s5.heap) σ' H' s'->tn (i+1) s'.heap/\∀b∈fp,H' b=none:=λ{σ' H' s'} IB=>by refine⟨T.keep _ _ _ st5 λb hb o e=>(IB.pin (b,o) (QN _ (QN _ (gA hb e)))).1,λb hb=>?_⟩;obtain⟨o,e,d⟩:=T.obj _ _ st5 b hb;exact (IB.pin (b,o) (QN _ (QN _ (gA hb e)))).2.1
   cases ok with
   |false=>rw[if_neg A_] at q7;obtain⟨m',hm,w7⟩:=hNx _ _ _ q7;rw[if_neg A_];obtain⟨t7,f7⟩:=back I7;exact⟨m',hm,i+1,ys,its,k,σ6,H7,I7.unpinned,rv,t7,f7,w7⟩
   |
    true=>
    rw[if_pos rfl] at q7;rw[if_pos rfl];refine QR (he cl G2.objs.size s2 H2 fp _ s7 σ6 H7 _ I7 q7) (λy s8 ⟨yv,H8,I8,r8,q8⟩=>?_) λ_ _ z=>z;obtain⟨m',hm,w8⟩:=hNx _ _ _ q8;obtain⟨t8,f8⟩:=back I8;have I9:=I8.unpinned;have hD9:=I9.pin (s2.heap.objs.size,{ cls:=.type "list",dict:=none,data:=.seq its.toArray k }) (QN _ r_);have e9:s8.heap.get? s2.heap.objs.size=some { cls:=.type "list",dict:=none,data:=.seq its.toArray k }:=hD9.1;have bi:=rv.length;refine call_meets F.slot_list_append ⟨_,e9,rfl⟩ F.entry_list_append (F.args_list_append_2 _ _) (PySem.list_append _ its.toArray k y (by rw[z_];omega)) ⟨e9,?_⟩;have q9:=PySem.IsL.update e9 (λxs=>xs.push y);have ea:its.toArray.push y=(its++[y]).toArray:=by simp
    rw[ea] at q9;have k9:∀b o,b≠s2.heap.objs.size->s8.heap.get? b=some o->(s8.heap.update s2.heap.objs.size (Obj.mapSeq λxs=>xs.push y)).get? b=some o:=λb o hb e=>(SW _ _ (Ne.symm hb)).trans e;have I10:Inv Y [] σ6 H8 { s8 with heap:=s8.heap.update s2.heap.objs.size (Obj.mapSeq λxs=>xs.push y) }:=
     (I9.pins_of (pins':=[]) (λp hp=>nomatch hp)).turned (t':=s8.toks) k9 hD9.2.1 hD9.2.2.1 (.inr (p_ _)) (λx c e z=>absurd (cellOld x c e) (by rw[z];exact Rg _))
      (λp hp=>absurd (show p∈([]:Ub) from hp) (by simp))
    refine⟨m',hm,i+1,ys++[yv],its++[y],_,σ6,H8,pinD I10 q9 (λv z=>by cases z) hD9.2.1,rv.append (.cons r8 .nil),?_,f8,w8⟩;exact T.keep _ _ _ t8 λb hb o e=>k9 b o (λz=>hDfp (by rw[<- z];exact hb)) e
 exact codeAny_compStart_list (loop _ rfl) (T.self _ 0 _ _ _ (T.keep _ _ _ st2 λb hb o e=>old b o e) (loop _ rfl))
def Jd{jp a_ tg:Expr}{ifs:List Expr}{scope:Scope}{pos:Pos}{wi:TI}{g:TG}{tc:TT}{te:TE}{N:List Str}{sub:Ud}
 (hc:X.calm=true) (hi:PI X tg a_ wi)
 (hk:scope.kind=.function) (hnc:∀x∈scope.names,x.2 ≠ .cell) (ci:∀x∈scope.names,x.2=.local->scope.names.lookup x.1=some .local)
 (hfr:∀x∈scope.names,x.2=.free->X.env.kindOf x.1=some .cell\/X.env.kindOf x.1=some .free)
 (hsl:sub.length=N.length) (g_:∀(j i:Nat) (x:Str),sub[j]?=some (some i)->N[j]?=some x->X.N[i]?=some x/\scope.names.lookup x=some .free)
 (hg:∀cl C s₂ H fp,PG (aN X N scope cl C s₂ H fp) tg g) (ht:∀cl C s₂ H fp,PTs (aN X N scope cl C s₂ H fp) ifs tc) (he:∀cl C s₂ H fp,PE (aN X N scope cl C s₂ H fp) jp te)
 (hs:∀x,foldedSetIterable a_ X.env x=pure x):
 PE X (.ListComp jp [⟨tg,a_,ifs,0⟩] scope pos) (jc wi sub g tc te):=by
 intro pins s σ H Q I h;rw[eval_ListComp];refine wK hc hi hk hnc ci hfr hsl g_ hg ht he hs I h λD C s4 e=>?_;obtain⟨m,hm⟩:=e.ns;obtain⟨H',_,q,i⟩:=e.inv;exact⟨m,hm,λh' hs'=>⟨.ref D,H',i h' hs',rfl,q⟩⟩
noncomputable def fZ(M:List Str)(names:List (Str×NameKind))(sub:Ud)(N:List Str):Bool:=(sub.zip N).all λp=>match p.1 with
 |none=>true
 |some i=>M[i]?==some p.2&&names.lookup p.2==some .free
def sW{M:List Str}{names:List (Str×NameKind)}{sub:Ud}{N:List Str}(h:fZ M names sub N=true)(j i:Nat)(x:Str)(h1:sub[j]?=some (some i))(h2:N[j]?=some x):
 M[i]?=some x/\names.lookup x=some .free:=by
 unfold fZ at h;rw[QI] at h;have hm:(some i,x)∈sub.zip N:=by refine RN (i:=j) ?_;rw[List.getElem?_zip_eq_some];exact⟨h1,h2⟩
 have q:=h _ hm;simp only[u_,QP] at q;exact q
noncomputable def iJ(kn names:List (Str×NameKind)):Bool:=names.all λx=>x.2 != .free || kn.lookup x.1==some .cell || kn.lookup x.1==some .free
def wz{kn names:List (Str×NameKind)}(h:iJ kn names=true):∀x∈names,x.2=.free->kn.lookup x.1=some .cell\/kn.lookup x.1=some .free:=λx hx hf=>by unfold iJ at h;rw[QI] at h;have q:=h x hx;rw[hf] at q;simpa using q
def N0{jp a_ tg:Expr}{scope:Scope}{pos:Pos}{wi:TI}{g:TG}{te:TE}(M:List Str)(kn:List (Str×NameKind))(N:List Str)(sub:Ud)
 (hc:X.calm=true) (hi:PI X tg a_ wi)
 (hg:∀cl C s₂ H fp,PG (aN X N scope cl C s₂ H fp) tg g) (he:∀cl C s₂ H fp,PE (aN X N scope cl C s₂ H fp) jp te)
 (hM:X.N=M) (hkn:X.env.scope.names=kn) (g_:fZ M scope.names sub N=true)
 (hk:scope.kind=.function) (hnc:∀x∈scope.names,x.2 ≠ .cell) (ci:∀x∈scope.names,x.2=.local->scope.names.lookup x.1=some .local)
 (hfr:iJ kn scope.names=true)
 (hsl:sub.length=N.length) (hs:∀x,foldedSetIterable a_ X.env x=pure x):
 PE X (.ListComp jp [⟨tg,a_,[],0⟩] scope pos) (jc wi sub g B8 te):=
 Jd hc hi hk hnc ci (by subst hkn;exact wz hfr) hsl (by subst hM;exact sW g_) hg (λcl C s₂ H fp=>vZ) he hs
end
open PySem PySem.Spec PyProof.Rows PySem.W PySem.Builtin PySem.Builtin.ObjectAttr PySem.Builtin.Getset_descriptor
structure XCls(K:W.Frag)(C:Addr):Prop where
 cls:(clsIn K C).isSome=true
 ga:findIn K (.ref C) "__getattribute__"=some (some (.builtin "BaseException.__getattribute__"))
 gt:findIn K (.ref C) "__getattr__"=some none
 at_:findIn K (.ref C) "__class__"=some (some (.builtin "object.__class__"))
 gs:specialIn K (.builtin "object.__class__") "__get__"=some (some (.builtin "getset_descriptor.__get__"))
 tk:takesIn K (.builtin "object.__class__")=some true
 mo:mroIn K C (.type "object")=some true
 mb:mroIn K C (.type "BaseException")=some true
section
variable{prog:Program}{w:World}{A:Around}{E:Uc}{K:W.Frag}{x C:Addr}{o:Obj}
def ji(hx:h.get? x=some o)(hc:o.cls=.ref C):Looks M h (typeOf (.ref x)) (.ref C):=hc ▸ (Looks.ld hx).andThen .now
def Cp(X:K.In h)(T:XCls K C):Looks M h (find (.ref x) (.ref C) "__class__") (.bind (.builtin "getset_descriptor.__get__") (.builtin "object.__class__")):=by have L1:=looks_findIn (M:=M) X T.at_;have L2:Looks M h (getOf (some (.builtin "object.__class__"))) (some (.builtin "getset_descriptor.__get__")):=looks_specialIn X T.gs;have L3:=looks_takesIn (M:=M) X T.tk;refine L1.andThen (L2.andThen ?_);exact (show Looks M h (dataDescriptor? (some (.builtin "object.__class__")) (some (.builtin "getset_descriptor.__get__"))) (some (.builtin "getset_descriptor.__get__",.builtin "object.__class__")) from L3.andThen .now).andThen (Looks.tag .now)
def pV(X:K.In s.heap)(hx:s.heap.get? x=some o)(hc:o.cls=.ref C)(T:XCls K C)
 (h:R (.ok (.ret (.ref C))) s):codeAny (model prog w) A (.call (.builtin "getset_descriptor.__get__") ⟨[.builtin "object.__class__",.ref x,tp],[]⟩) R s:=by
 obtain⟨hh,g,dr,t,os⟩:=s;have L0:=ji (M:=model prog w) hx hc;have L1:=looks_mroIn (M:=model prog w) X T.mo;refine codeAny_call_builtin KF.slot_gs.plain KF.entry_gs (KF.slot_gs.check _ _ _ _ _ _ _ _ KF.type_class (KF.args_gs _ _ _) ?_);unfold Builtin.«getset_descriptor.__get__» descrGet;rw[dga_obj];refine l_ (x_ ?_);unfold descrGetter descrCheckInstance descrNameAndClass isInstance;simp only[KF.owner_class];repeat lk
 refine⟨Code.quiet_builtin _ (by decide),Tp KF.entry_class ?_⟩;unfold Builtin.«object.__class__» shownTypeOf;repeat lk
 exact h
def BA(X:K.In s.heap)(hx:s.heap.get? x=some o)(hc:o.cls=.ref C)(T:XCls K C)(hq:Q () s):
 wpAny M A (checkBuiltinCall "BaseException.__getattribute__" ⟨[.ref x,nameV],[]⟩) Q E s:=by
 obtain⟨h,g,dr,t,os⟩:=s;have hk:builtinKind "BaseException.__getattribute__"=some .slot:=by decide
 have hsplit:splitId "BaseException.__getattribute__"=some ("BaseException", "__getattribute__"):=by decide
 have ha:=PySem.F.args_bexc_ga (.ref x) nameV;have L0:=ji (M:=M) hx hc;have LM:=looks_mroIn (M:=M) X T.mb;have LI:Looks M h (isInstance (.ref x) (.type "BaseException")) true:=L0.andThen LM;simp only[checkBuiltinCall,hk,hsplit];refine l_ ?_;refine LI.at ?_;repeat (first |wp_step)
 all_goals exact hq
def LA(X:K.In s.heap)(hx:s.heap.get? x=some o)(hc:o.cls=.ref C)(T:XCls K C)(h:Q (some (.ref C)) { s with toks:=s.toks+1 }):
 wpAny (model prog w) A (getAttr? (.ref x) "__class__") Q E s:=by
 obtain⟨hh,g,d,t,os⟩:=s;have L0:=ji (M:=model prog w) hx hc;have L1:=looks_findIn (M:=model prog w) X T.ga;have L2:=looks_findIn (M:=model prog w) X T.gt;have LF:=Cp (M:=model prog w) (x:=x) X T;have f3:=PySem.F.excAttr_ValueError.ga.bind (.ref x);have hx2:(Value.builtin "BaseException.__getattribute__" == Value.builtin "object.__getattribute__")=false:=by decide
 unfold getAttr? getAttrBy? getAttrBy;refine l_ (wpAny_mkText (l_ (S0 (Ry (l_ (L0.at (l_ (L1.at ?_))))))));dsimp only;rw[if_neg (by rw[hx2];simp)];unfold getAttrByItsOwn hookBefore;rw[if_pos (show onTheHeap (Value.ref C)=true from rfl)];refine l_ (L2.at ?_);unfold callGetattribute;refine l_ (S0 (Ry ?_));rw[if_neg (by simp)];unfold boundAndCalled;refine l_ (wpAny_of_eq f3 ?_);refine wpAny_call (codeAny_call_builtin PySem.F.excAttr_ValueError.ga.plain PySem.F.entry_bexc_ga (BA X hx hc T ?_));unfold Builtin.«object.__getattribute__»;repeat (first |(refine l_ (L0.at ?_)) |(refine l_ (LF.at ?_)) |wp_step)
 refine pV (s:=⟨hh,g,d,t+1,os⟩) X hx hc T ?_;repeat (first |exact h |wp_step)
def Dc(x:Addr)(C:Addr)(h:Heap):Prop:=∃o vs,h.get? x=some o/\o.cls=.ref C/\o.data=.fields vs
def Dv(T:XCls K C):KitX K (.ref x) (.ref C) (Dc x C) where
 ty:=λM h _ ⟨o,_,hx,hc,_⟩=>ji hx hc
 it:=λM h X _=>by
  obtain⟨cd,kw⟩:=Rn.mp T.cls;unfold clsIn at kw;split at kw
  .rename_i c' d' cd' sl' ho;intro A' Q' E' s' k q;unfold isType loadHead;exact l_ (wpAny_loadPart (k _ _ (X _ _ ho)) (x_ q))
  .cases kw
 ne:=λh tp dd its n sl X htp=>by
  obtain⟨cd,kw⟩:=Rn.mp T.cls;refine Bool.eq_false_iff.mpr λq=>?_;have e:C=tp:=Value.ref.inj (QP.mp q);subst e;unfold clsIn at kw;split at kw
  .rename_i c' d' cd' sl' ho;have z:=(X _ _ ho).symm.trans htp;cases z
  .cases kw
 ca:=λX ⟨o,_,hx,hc,_⟩ k=>LA X hx hc T k
end
inductive TyX(K:W.Frag)(H:Hp):V->Value->Prop where
 |of {x:V}{t:Value} (h:TyOf K H x t):TyX K H x t
 |exc {a C:Addr} (e:H a=some (.ext (Dc a C))) (T:XCls K C):TyX K H (.ref a) (.ref C)
 |sqT {a:Addr}{xs:List V} (h:SqT K H a xs):TyX K H (.ref a) (.type "tuple")
 |sqL {a:Addr}{xs:List V} (h:SqL K H a xs):TyX K H (.ref a) (.type "list")
section
variable{X:Cx}{pins:Ub}{σ:St}{H:Hp}{s:Shared}{c:Value}
def wI(I:Inv X pins σ H s)(rx:RelV x u)(ty:TyX X.K H x t):∃Hh:Heap->Prop,KitX X.K u t Hh/\Hh s.heap/\u ≠ .builtin "__main__.__loader__#opaque":=by
 cases ty with
 |exc ea T=>cases (show u=Value.ref _ from rx);exact⟨_,Dv T,(I.hok _ _ ea).1,λz=>nomatch z⟩
 |sqT h=>cases (show u=Value.ref _ from rx);obtain⟨its,rv,⟨o,e,c,_⟩,_⟩:=I.tuple h;exact⟨_,kitx_tuple,⟨o,e,c⟩,λz=>nomatch z⟩
 |sqL h=>cases (show u=Value.ref _ from rx);obtain⟨its,rv,⟨o,n,e,c,_⟩,_⟩:=I.list h;exact⟨_,kitx_list,⟨o,e,c⟩,λz=>nomatch z⟩
 |
  of ty=>
  cases ty with
  |non=>cases (show u=Value.none from rx);exact⟨_,kitx_none,True.intro,λz=>nomatch z⟩
  |bl y=>cases (show u=Value.bool y from rx);exact⟨_,kitx_bool,True.intro,λz=>nomatch z⟩
  |int i=>obtain⟨t,q⟩:=(show ∃t,u=Value.int i t from rx);cases q;exact⟨_,kitx_int,True.intro,λz=>nomatch z⟩
  |str y=>obtain⟨t,q⟩:=(show ∃t,u=Value.str y t from rx);cases q;exact⟨_,kitx_str,True.intro,λz=>nomatch z⟩
  |flt y=>obtain⟨t,q⟩:=(show ∃t,u=Value.float y t from rx);cases q;exact⟨_,kitx_float,True.intro,λz=>nomatch z⟩
  |@lst a xs ea=>cases (show u=Value.ref a from rx);obtain⟨_,_,n,_,h1⟩:=(show ObjOk X.prog X.w H s.heap a (.lst xs) from I.hok a _ ea);exact⟨_,kitx_list,⟨_,h1,rfl⟩,λz=>nomatch z⟩
  |@frz a ob xs ea=>cases (show u=Value.ref a from rx);obtain⟨_,_,_,n,_,h1⟩:=(show ObjOk X.prog X.w H s.heap a (.frz ob (.lst xs)) from I.hok a _ ea);exact⟨_,kitx_list,⟨_,h1,rfl⟩,λz=>nomatch z⟩
  |@tup a xs ea=>cases (show u=Value.ref a from rx);obtain⟨_,_,_,p⟩:=(show ObjOk X.prog X.w H s.heap a (.tup xs) from I.hok a _ ea);obtain⟨o,h1,h2,_⟩:=p;exact⟨_,kitx_tuple,⟨o,h1,h2⟩,λz=>nomatch z⟩
  |@dK a kvs ea=>cases (show u=Value.ref a from rx);obtain⟨_,_,vs,_,p⟩:=(show ObjOk X.prog X.w H s.heap a (.dK kvs) from I.hok a _ ea);obtain⟨o,es,ep,h1,h2,_⟩:=p;exact⟨_,kitx_dict,⟨o,h1,h2.1⟩,λz=>nomatch z⟩
  |@dT a kvs ea=>cases (show u=Value.ref a from rx);obtain⟨_,_,xs,_,o,es,ep,h1,h2,_⟩:=(show ObjOk X.prog X.w H s.heap a (.dT kvs) from I.hok a _ ea);exact⟨_,kitx_dict,⟨o,h1,h2.1⟩,λz=>nomatch z⟩
  |@ins a C dx fs ea cl ha hn htk hm=>cases (show u=Value.ref a from rx);obtain⟨mA,O,_⟩:=HI I.hok ea;obtain⟨od,J,_⟩:=O.look;exact⟨_,kitx_own (cl.get _) cl.hd ha hn htk hm,J,λz=>nomatch z⟩
end
section
variable{X:Cx}
noncomputable def fD:V->Option Value
 |.ref C=>some (.ref C)
 |.ty T=>some (.type T)
 |_=>none
def uE(h:fD c=some v)(r:RelV c u):u=v:=by
 cases c with
 |ref C=>cases r;exact J_ h
 |ty T=>cases r;exact J_ h
 |_=>cases h
theorem pH:∀{cs:List V}{us vs:List Value},cs.mapM fD=some vs->Vals cs us->us=vs
 |
  [],_,vs,h,.nil=>by
  have h':some ([]:List Value)=some vs:=h;exact J_ h'
 |
  c::cs,_,vs,h,.cons r rr=>by
  rw[Sw] at h;cases q:fD c with
  |none=>rw[q] at h;cases h
  |
   some v=>
   rw[q] at h;cases q2:cs.mapM fD with
   |none=>rw[q2] at h;cases h
   |some vs'=>rw[q2] at h;have h':some (v::vs')=some vs:=h;cases h';rw[uE q r,pH q2 rr]
def Cy:CallR X (.builtin "isinstance") (λxs H Q=>∃x c t v b,xs=[x,c]/\TyX X.K H x t/\fD c=some v/\kitOne X.K t v=some b/\Q (.bl b) H):=by intro pins s σ H xs us Q I r h;obtain⟨x,c,t,v,b,rfl,ty,hc,hk,q⟩:=h;obtain⟨u,w',rfl,rx,rc⟩:=qJ r;obtain rfl:=uE hc rc;obtain⟨Hh,Z,p,hne⟩:=wI I rx ty;exact kia_one Z I.kIn p hk hne λtk=>⟨.bl b,H,I.tok _,rfl,q⟩
end
def ObjOk.there(x:ObjOk P w H h a o):∃u,h.get? a=some u:=by
 cases o with
 |lst xs=>obtain⟨_,_,_,_,e⟩:=x;exact⟨_,e⟩
 |tup xs=>obtain⟨_,_,_,ob,e,_⟩:=x;exact⟨_,e⟩
 |dK kvs=>obtain⟨_,_,_,_,o,_,_,e,_⟩:=x;exact⟨_,e⟩
 |dT kvs=>obtain⟨_,_,_,_,o,_,_,e,_⟩:=x;exact⟨_,e⟩
 |set S n=>obtain⟨o,_,_,_,e,_⟩:=x;exact⟨_,e⟩
 |ins C dx fs=>obtain⟨_,_,_,e,_⟩:=x;exact⟨_,e⟩
 |own y=>exact x
 |xd fs=>obtain⟨_,⟨_,_,_,e,_⟩,_⟩:=x;exact⟨_,e⟩
 |rng lo hi=>obtain⟨_,_,_,e⟩:=x;exact⟨_,e⟩
 |frz ob u=>obtain⟨e,_⟩:=x;exact⟨_,e⟩
 |tbl ps=>exact⟨_,show h.get? a=some _ from x⟩
 |met f y=>exact⟨_,show h.get? a=some _ from x⟩
 |ext φ=>obtain⟨_,e,_⟩:=x;exact e
structure Fly(P:Program)(w:World)(outer:List Env)(H:Hp)(h₀:Heap)(H':Hp)(ea:Addr)(cls:Value)(h:Heap)(B:Heap)(t:Addr):Prop where
 un:Un (frs outer) [] H H' h₀ h
 hok:HOk P w H' h
 fl:Heap.FlyingW B outer ea cls (.ref t) h
 old:∀b o,h₀.get? b=some o->b∉frs outer->∃o',B.get? b=some o'
 trk:∀b o,H' b=some o->∃o',B.get? b=some o'
def CX1(P:Program)(w:World):CXT:=λouter H s E e s'=>∃(ea t:Addr) (cls:Value) (H':Hp) (B:Heap),e=.ref ea/\s'.os=s.os/\AllBare s'.gens/\Fly P w outer H s.heap H' ea cls s'.heap B t/\E cls none H'
def sS(h:env.frame=some L):frs (env::outer)=L::frs outer:=by unfold frs;rw[RV,h]
section
variable{P:Program}{w:World}{outer:List Env}{H H':Hp}{h₀ h h' B:Heap}{ea t:Addr}{cls:Value}
def Fly.step(F:Fly P w outer H h₀ H' ea cls h B t)(fl':Heap.FlyingW B outer' ea cls (.ref t) h')(up:h.UpToSlots h'):
 Un (frs outer) [] H H' h₀ h'/\HOk P w H' h':=by
 have st:=F.fl.1;have same:∀b o,(∃o',B.get? b=some o')->h.get? b=some o->h'.get? b=some o:=λb o ⟨o',e⟩ q=>by have z:=st b o' e;rw[q] at z;cases z;exact fl'.1 b _ e
 have frame:∀b o,b∈frs outer->h.get? b=some o->∃sl,h'.get? b=some { o with slots:=sl }:=λb o hb q=>by obtain⟨_,o',ho',hd⟩:=F.fl.2.2.1.mem hb;rw[q] at ho';cases ho';exact up b o q hd
 refine⟨⟨λb o e n hb hx=>same b o (F.old b o e hb) (F.un.keep b o e n hb hx),λb o e n hb hx=>?_,F.un.free,λb o e hx=>?_,F.un.tups,F.un.frzs,F.un.tbls⟩,λa o e=>?_⟩
 .obtain⟨sl,q⟩:=F.un.slot b o e n hb hx;obtain⟨sl',q'⟩:=frame b _ hb q;exact⟨sl',q'⟩
 .obtain⟨o',q⟩:=F.un.there b o e hx;by_cases hb:b∈frs outer
  .obtain⟨sl,q'⟩:=frame b _ hb q;exact⟨_,q'⟩
  .exact⟨o',same b o' (F.old b o e hb) q⟩
 .refine (F.hok a o e).stay (λb u hb q=>same b u ?_ q) (λ_ q=>q) λ_ _ q=>q;rcases hb with z |z
  .rw[z];exact F.trk a o e
  .exact F.trk b _ z
end
structure Cx.Top(X:Cx):Prop where
 ex:X.ex=[]
 stk:X.stack=X.env::X.outer
 fr:X.env.frame=some X.env.locals
section
variable{X:Cx}{pins:Ub}{σ:St}{H:Hp}{s s':Shared}{E:XK}{e:Value}
def Ad(T:X.Top)(hA:A.frames=some X.stack)(I:Inv X pins σ H s)(h:CX1 X.prog X.w X.stack H s E e s'):
 wpAny (model X.prog X.w) A (leaving X.env e) (λ_ s''=>CX1 X.prog X.w X.outer X.H₀ X.s₀ E e s'') E' s':=by
 obtain⟨ea,t,cls,H',B,rfl,os,bare,F,q⟩:=h;have F0:=F;rw[T.stk] at F;have hf:=sS (outer:=X.outer) T.fr;refine wpAny_leaves_onW (by rw[hA,T.stk]) T.fr F.fl λh'' fl'' up=>?_;obtain⟨un2,hok2⟩:=F.step fl'' up;have exn:∀b,b∉X.ex:=λb z=>by rw[T.ex] at z;cases z
 have neL:∀b o,X.s₀.heap.get? b=some o->b≠X.env.locals:=λb o e=>P_ (H_ (y_ e) I.ok.above);have notin:∀b o,X.s₀.heap.get? b=some o->b∉frs X.outer->b∉frs (X.env::X.outer):=λb o e hb z=>by
  rw[hf] at z;rcases I_.mp z with z |z
  .exact neL b o e z
  .exact hb z
 refine⟨ea,t,cls,H',B,rfl,os.trans I.os,bare,⟨⟨λb o e n hb hx=>?_,λb o e n hb hx=>?_,λb o e n hx=>?_,λb o e hx=>?_,λb xs e=>un2.tups b xs (I.base.tups b xs e),λb o xs e=>un2.frzs b o xs (I.base.frzs b o xs e),λb ps e=>?_⟩,hok2,fl'',λb o e hb=>?_,F.trk⟩,q⟩
 .exact un2.keep b o (I.base.keep b o e n hb (exn b)) (I.base.free b o e n (exn b)) (notin b o e hb) (by simp)
 .obtain⟨sl,e1⟩:=I.base.slot b o e n hb (exn b);obtain⟨sl',e2⟩:=un2.slot b _ e1 (I.base.free b o e n (exn b)) (by rw[hf];exact n_ _ hb) (by simp);exact⟨sl',e2⟩
 .obtain⟨o',e1⟩:=I.base.there b o e (exn b);exact un2.free b o' e1 (I.base.free b o e n (exn b)) (by simp)
 .obtain⟨o',e1⟩:=I.base.there b o e (exn b);exact un2.there b o' e1 (by simp)
 .obtain⟨m1,e1⟩:=I.base.tbls b ps e;obtain⟨m2,e2⟩:=un2.tbls b _ e1;exact⟨m1++m2,by rw[e2,Array.append_assoc]⟩
 .obtain⟨o',e1⟩:=I.base.there b o e (exn b);exact F.old b o' e1 (notin b o e hb)
def Ee(T:X.Top)(hA:A.frames=some X.stack)(I:Inv X pins σ H s)(hx:Heap.MadeExcOf s.heap h' ea cls args)(q:E cls none H):
 wpAny (model X.prog X.w) A (leaving X.env (.ref ea)) (λ_ s''=>CX1 X.prog X.w X.outer X.H₀ X.s₀ E (.ref ea) s'') E' { s with heap:=h' }:=by
 have hf:=sS (outer:=X.outer) T.fr;have stk:=I.stack;rw[T.stk] at stk;have hin:∀env∈(X.env::X.outer),∀b,env.frame=some b->b∈frs (X.env::X.outer):=λenv he b hb=>List.mem_filterMap.mpr ⟨env,he,hb⟩;refine wpAny_leaves_madeW (base:=W.hideAll s.heap (frs (X.env::X.outer))) (h:=s.heap) (by rw[hA,T.stk]) T.fr (λb o q=>W.of_hideAll _ q) (W.funFrames_hide stk hin) hx λh'' t fl tup tn up=>?_;have inB:∀b o,s.heap.get? b=some o->b∉frs (X.env::X.outer)->(W.hideAll s.heap (frs (X.env::X.outer))).get? b=some o:=λb o e hb=>W.hideAll_get _ e hb;have free:∀b∈frs (X.env::X.outer),H b=none:=λb hb=>I.stkFree b (by rw[T.stk];exact hb);have up2:s.heap.UpToSlots h'':=(Heap.UpToSlots.of_keeps hx.keeps).trans up;have exn:∀b,b∉X.ex:=λb z=>by rw[T.ex] at z;cases z
 have neL:∀b o,X.s₀.heap.get? b=some o->b≠X.env.locals:=λb o e=>P_ (H_ (y_ e) I.ok.above);have notin:∀b o,X.s₀.heap.get? b=some o->b∉frs X.outer->b∉frs (X.env::X.outer):=λb o e hb z=>by
  rw[hf] at z;rcases I_.mp z with z |z
  .exact neL b o e z
  .exact hb z
 have trk:∀b o,H b=some o->∃o',(W.hideAll s.heap (frs (X.env::X.outer))).get? b=some o':=λb o e=>by obtain⟨u,hu⟩:=(I.hok b o e).there;exact⟨u,inB b u hu λz=>by rw[free b z] at e;cases e⟩
 refine⟨ea,t,cls,H,_,rfl,I.os,I.bare,⟨⟨λb o e n hb hx=>?_,λb o e n hb hx=>?_,λb o e n hx=>?_,λb o e hx=>?_,I.base.tups,I.base.frzs,I.base.tbls⟩,λa o e=>?_,fl,λb o e hb=>?_,trk⟩,q⟩
 .exact fl.1 b o (inB b o (I.base.keep b o e n hb (exn b)) (notin b o e hb))
 .obtain⟨sl,e1⟩:=I.base.slot b o e n hb (exn b);obtain⟨_,o',ho',hd⟩:=I.ok.funs.mem hb;rw[e] at ho';cases ho';obtain⟨sl',e2⟩:=up2 b _ e1 hd;exact⟨sl',e2⟩
 .exact I.base.free b o e n (exn b)
 .obtain⟨o',e1⟩:=I.base.there b o e (exn b);by_cases hb:b∈frs X.outer
  .obtain⟨_,o2,ho2,hd⟩:=I.funs.mem hb;rw[e1] at ho2;cases ho2;obtain⟨sl',e2⟩:=up2 b _ e1 hd;exact⟨_,e2⟩
  .exact⟨o',fl.1 b o' (inB b o' e1 (notin b o e hb))⟩
 .refine (I.hok a o e).stay (λb u hb q=>?_) (λ_ q=>q) λ_ _ q=>q;refine fl.1 b u (inB b u q λz=>?_);rcases hb with y |y
  .rw[y] at z;rw[free a z] at e;cases e
  .rw[free b z] at y;cases y
 .obtain⟨o',e1⟩:=I.base.there b o e (exn b);exact⟨o',inB b o' e1 (notin b o e hb)⟩
end
section
variable{P:Program}{w:World}{K:W.Frag}{mg:Ua}{base:Heap}{N:List Str}{qual:Str}{scope:Scope}{f:Addr}{cd:Value}{A:Around}{outer:List Env}{s:Shared}{H:Hp}{E:XK}
def Fm:(c9 (CX1 P w) P w K mg base N qual scope f cd A outer s H E).Top:=⟨rfl,rfl,rfl⟩
def Fu:uY (CX1 P w) (c9 (CX1 P w) P w K mg base N qual scope f cd A outer s H E) E:=λpins σ H s e s' I h=>Ad Fm I.ok.frames I h
def Pu:uY (CX1 P w) X E0:=λpins σ H s e s' I ⟨_,_,_,_,_,_,_,_,_,q⟩=>q.elim
def Ds:PassesOwn (model P w) (c9 (CX1 P w) P w K mg base N qual scope f cd A outer s H E).A (c9 (CX1 P w) P w K mg base N qual scope f cd A outer s H E).env (c9 (CX1 P w) P w K mg base N qual scope f cd A outer s H E).xe:=PassesOwn.leaving
def Rz(X:Cx)(E:XK):Prop:=∀(pins:Ub) (σ:St) (H:Hp) (s:Shared) (h':Heap) (ea:Addr) (cls:Value) (args:List Value),Inv X pins σ H s->Heap.MadeExcOf s.heap h' ea cls args->E cls none H->X.xe (.ref ea) { s with heap:=h' }
def rz1:Rz (c9 (CX1 P w) P w K mg base N qual scope f cd A outer s H E) E:=λpins σ H s h' ea cls args I hx q=>Ee Fm I.ok.frames I hx q
def Fun.okR{x qual:Str}{st:Stmt}{f:Addr}{fd:FuncData}{N ps:List Str}{k:Nat}{sp:Sp}(F:Fun K x qual st f fd)(S:FnScope N ps (ak st))(len:∀vs H Q E,sp vs H Q E->vs.length=ps.length)
 (e_:∀(cdv:Value) (A:Around) (outer:List Env) (s:Shared) (H:Hp) (vs:List V) (Q:VK) (E:XK),Room k (A.deeper (envOfC qual (ak st) s.heap.objs.size f cdv))->sp vs H Q E->
  ∃t,PSs (c9 (CX1 P w) P w K mg base N qual (ak st) f cdv A outer s H E) (aP st) t/\t { nx:=λ_ H'=>Q .non H',rt:=Q } (fE N vs) H):FnOk P w K mg base (CX1 P w) (k+1) f fd ps sp:=by
 obtain⟨oc,od,kV,doc,pm,an,cdv,ct,osl,rfl,lk,kw⟩:=F.ex;exact Fo lk kw S len λA outer s H vs Q E hr hsp=>e_ cdv A outer s H vs Q E hr hsp
end
abbrev l6:List Value:=[.type "ValueError",.type "Exception",.type "BaseException",.type "object"]
def Bc{K:W.Frag}{h:Heap}{C:Addr}(X:K.In h)(q:W.excIn K C l6 "ValueError.__new__"=true):
 ∃bm N nm q' bs hdct sn sub ab col dd k0 k1 k2 k3 k5 mN,h.get? C=some (excClassObj nm q' C N bs bm hdct sn sub ab col dd k0 k1 k2 k3 k5 "ValueError.__new__")/\h.Ns N mN/\mN "__init__"=none/\OwnTail h l6 bm:=by
 unfold W.excIn at q;split at q
 .rename_i dd cd sl ho;split at q
  .rename_i C' bm k0 k1 k2 k3 n k5 hm hs;simp only[u_,QP,So] at q;obtain⟨⟨⟨⟨⟨rfl,rfl⟩,hdel⟩,ht⟩,hok⟩,hni⟩:=q;obtain⟨nm,bs,mro,ns,qn,hd,sn,sub,ab,col,del⟩:=cd;dsimp only at hm hdel hok hni;subst hm hdel;have hsl:sl=#[k0,k1,k2,k3,some (.builtin "ValueError.__new__"),k5]:=by obtain⟨l⟩:=sl;simp only at hs;rw[hs]
   subst hsl;exact⟨bm,ns,nm,qn,bs,hd,sn,sub,ab,col,dd,k0,k1,k2,k3,k5,_,X _ _ ho,.of_isNs (W.isNs_of_in X hok),W.nsMap_none_of_in X hok hni,W.tail_of_in X ht⟩
  .cases q
 .cases q
section
variable{X:Cx}{x:Str}{C:Addr}{E:XK}{np cpos pos:Pos}{e₀:Expr}{es:List Expr}{ta:TA}
def Md(C:Addr)(E:XK)(ta:TA):TS:=λ_ σ H=>ta σ H λvs H1=>vs.length<=sizeLine/\E (.ref C) none H1
def DX(hc:X.calm=true)(hR:Rz X E)(hg:Gl X x)(hm:X.mg x=some (.ref C))(hq:W.excIn X.K C l6 "ValueError.__new__"=true)(ha:PA X (e₀::es) ta)
 (he:starEach (e₀::es) X.env=(false,eval e₀ X.env)::starEach es X.env) (c_:(backTo cpos (starEach es X.env)).any (·.1)=false) (hd:(x==("__debug__" : Str))=false):
 PS X (.Raise (some (.Call (.Name x np) (e₀::es) [] cpos)) none pos) (Md C E ta):=by
 intro pins s σ H D I h;obtain⟨bm,N,nm,q',bs,hdct,sn,sub,ab,col,dd,k0,k1,k2,k3,k5,mN,hC,hN,hni,T⟩:=Bc I.ok.mod.kin hq;refine wpAny_Raise_call_subT (C:=C) (nm:=nm) (q:=q') (N:=N) (bs:=bs) (bm:=bm) (hdct:=hdct) (sn:=sn) (sub:=sub) (ab:=ab) (col:=col) (dd:=dd) (k0:=k0) (k1:=k1) (k2:=k2) (k3:=k3) (k5:=k5)
  PySem.F.excBase_ValueError (mN:=mN) (T.hasType PySem.F.excBase_ValueError.hasBase) (I.ok.hd hc) (by rw[he];show (false || (backTo cpos (starEach es X.env)).any (·.1))=false;rw[c_];rfl) hni (n9 I hg hm ⟨rfl,?_⟩ hd)
 have hA:=ha cpos pins s σ H _ I h;rw[he] at hA ⊢;refine Calls.evalArgs_plain (thn hA λus s2 ⟨vs,H2,I2,r2,hz,q2⟩=>⟨rfl,by rw[<- r2.length];exact hz,I2.bk _ _ hC,hN.keeps I2.bk,T.keeps I2.bk,λh' e hm'=>?_⟩);exact hR pins σ H2 s2 h' e _ _ I2 hm' q2
end
abbrev XS:=St->XK
abbrev TEx:=St->Hp->VK->XK->Prop
abbrev TSx:=Ends->XS->St->Hp->Prop
def XP(X:Cx)(pins:Ub)(E:XS)(e:Value)(s':Shared):Prop:=∃σ1 H1 s1,Inv X pins σ1 H1 s1/\CX1 X.prog X.w X.stack H1 s1 (E σ1) e s'
def PEx(X:Cx)(e:Expr)(t:TEx):Prop:=
 ∀(pins:Ub) (s:Shared) (σ:St) (H:Hp) (Q:VK) (E:XS),Inv X pins σ H s->t σ H Q (E σ)->wpAny (model X.prog X.w) X.A (eval e X.env) (EP X pins σ Q) (XP X pins E) s
structure XHand(K:W.Frag)(C:Addr):Prop where
 ty:W.typeIn K (.ref C)=some (.type "type")
 cls:(W.clsIn K C).isSome=true
 mb:W.mroIn K C (.type "BaseException")=some true
mutual
inductive Rep(K:W.Frag)(H:Hp):V->PyData->Prop where
 |non:Rep K H .non .none
 |bl (b:Bool):Rep K H (.bl b) (.bool b)
 |int (i:Int):Rep K H (.int i) (.int i)
 |str (x:Str):Rep K H (.str x) (.str x)
 |tup {a:Addr}{xs:List V}{ds:List PyData} (h:SqT K H a xs) (r:Reps K H xs ds):Rep K H (.ref a) (.tuple ds)
 |lst {a:Addr}{xs:List V}{ds:List PyData} (h:SqL K H a xs) (r:Reps K H xs ds):Rep K H (.ref a) (.list ds)
inductive Reps(K:W.Frag)(H:Hp):List V->List PyData->Prop where
 |nil:Reps K H [] []
 |cons {x:V}{d:PyData}{xs:List V}{ds:List PyData} (r:Rep K H x d) (rr:Reps K H xs ds):Reps K H (x::xs) (d::ds)
end
section
variable{X:Cx}{pins:Ub}{σ:St}{H:Hp}{s:Shared}{K:W.Frag}
def Rep.reads(I:Inv X pins σ H s)(r:Rep X.K H v d)(q:RelV v u):∃as,Reads s.heap u d as:=
 Rep.rec (motive_1:=λv d _=>∀u,RelV v u->∃as,Reads s.heap u d as) (motive_2:=λvs ds _=>∀us,Vals vs us->∃as,ReadsAll s.heap us ds as)
  (λu r=>by cases r;exact⟨_,.none⟩) (λb u r=>by cases r;exact⟨_,.bool b⟩) (λi u r=>by obtain⟨t,rfl⟩:=r;exact⟨_,.int i t⟩) (λx u r=>by obtain⟨t,rfl⟩:=r;exact⟨_,.str x t⟩)
  (λh _ ih u r=>by cases r;obtain⟨its,rv,⟨o,e,c,n,d⟩,_⟩:=I.tuple h;obtain⟨as,q⟩:=ih _ rv;exact⟨as,.tuple e c d (by simpa using q)⟩)
  (λh _ ih u r=>by cases r;obtain⟨its,rv,⟨o,n,e,c,_,d⟩,_⟩:=I.list h;obtain⟨as,q⟩:=ih _ rv;exact⟨_,.list e c d (by simpa using q)⟩)
  (λus r=>by cases r;exact⟨_,.nil⟩)
  (λ_ _ a b us q=>by
   cases q with
   |cons q1 q2=>obtain⟨as,h1⟩:=a _ q1;obtain⟨bs,h2⟩:=b _ q2;exact⟨_,.cons h1 h2⟩) r u q
end
section
variable{X:Cx}
noncomputable def shp(d:PyData):Bool:=d.canLay0&&decide (d.depth<=160)
def fX(h:shp d=true):d.canLay0=true:=(Bool.and_eq_true_iff.mp h).1
def ml{A:Around}{d e:PyData}(h:shp d=true)(hu:A.units+180<cLine):A.units+min d.depth e.depth<cLine:=by have h1:d.depth<=160:=Su (Bool.and_eq_true_iff.mp h).2;have h2:min d.depth e.depth<=d.depth:=Nat.min_le_left _ _;omega
def yR(K:W.Frag):R2:=λx y H Q=>∃dx dy,Rep K H x dx/\Rep K H y dy/\shp dx=true/\shp dy=true/\Q (.bl (PyData.eqv dx dy)) H
def yb(K:W.Frag):R2:=λx y H Q=>∃dx dy,Rep K H x dx/\Rep K H y dy/\shp dx=true/\shp dy=true/\Q (.bl (!PyData.eqv dx dy)) H
def L4(hu:X.A.units+180<cLine):OpR X (compareOp .Eq) (yR X.K):=by intro pins s σ H x y v u Q I rx ry h;obtain⟨dx,dy,r1,r2,h1,h2,q⟩:=h;obtain⟨as,q1⟩:=r1.reads I rx;obtain⟨bs,q2⟩:=r2.reads I ry;exact SeqAt.compareEq_reads q1 q2 (fX h1) (fX h2) (ml h1 hu) (Ba I q rfl)
def Ko(hu:X.A.units+180<cLine):OpR X (compareOp .NotEq) (yb X.K):=by intro pins s σ H x y v u Q I rx ry h;obtain⟨dx,dy,r1,r2,h1,h2,q⟩:=h;obtain⟨as,q1⟩:=r1.reads I rx;obtain⟨bs,q2⟩:=r2.reads I ry;exact SeqAt.compareNe_reads q1 q2 (fX h1) (fX h2) (ml h1 hu) (Ba I q rfl)
open PySem.Builtin.Int (intBits)
def CDivB(i j:Int):Prop:=j≠0/\intBits j<=8000
def FG(i j:Int):Prop:=intBits i<=100000/\intBits j<=100000
def D7:OpR X (binaryOp .FloorDiv) (rI CDivB λi j=>.int (i.fdiv j)):=opI λi j _ _ _ _ _ hc q=>floordiv_int hc.1 q (.inl (PyProof.noPylong_of_log2 (by
 have h:=hc.2;have h0:=hc.1;unfold intBits at h;have hb:(j==0)=false:=by simpa using h0
 rw[hb] at h;simp only[Sg,Td] at h;omega)))
def Hx:OpR X (binaryOp .Mult) (rI FG λi j=>.int (i*j)):=opI λi j _ _ _ _ _ hc q=>mul_int q (PySem.IntMulOk.of_le hc.1 hc.2 (by decide))
def Ak(bs:List Bool):((List.range bs.length).all λi=>bs.getD i false)=bs.all id:=by
 rw[Bool.eq_iff_iff,QI,QI];constructor
 .intro h x hx;obtain⟨i,hi,rfl⟩:=List.mem_iff_getElem.mp hx
  have:=h i (N_.mpr hi)
  simpa [K_,hi] using this
 .intro h i hi;have hi':=N_.mp hi
  have:=h bs[i] (Rm hi')
  simpa [K_,hi'] using this
def Ex(hc:X.calm=true):CallR X (.builtin "all") (λxs H Q=>∃(a:Addr) (bs:List Bool),xs=[.ref a]/\SqL X.K H a (bs.map V.bl)/\Q (.bl (bs.all id)) H):=by
 intro pins s σ H xs us Q I r h;obtain⟨a,bs,rfl,hq,q⟩:=h;obtain⟨u,rfl,ru⟩:=f6 r;cases ru;obtain⟨its,rv,p,hz⟩:=I.list hq;have hl:=rv.length;rw[m_] at hl;have hlt:a<s.heap.objs.size:=by obtain⟨o,n,e,_⟩:=p;exact y_ e
 refine call_all_walk (wpAny_pyIter_list p.isList ?_);refine⟨s.heap.objs.size,_,_,_,_,_,λi=>bs.getD i false,rfl,Walks.list (A:=X.A.in1) (I.ok.hd hc) s.heap.objs.size a (P_ hlt) its.toArray,⟨⟨_,Em _ rfl,rfl,rfl⟩,(p.keeps λb o e=>o_ _ e).isList⟩,λi v s' Q' E' hP hQ=>?_,λh' tk hk=>?_⟩
 .have hP':its[i]?=some v:=by simpa using hP
  have hi:i<bs.length:=by rw[hl];exact (s_.mp hP').1
  have hb:(bs.map V.bl)[i]?=some (V.bl bs[i]):=by simp [hi]
  obtain⟨u,hu,ru⟩:=rv.get hb;rw[hP'] at hu;cases hu;cases ru;refine R_ ?_;have e:bs.getD i false=bs[i]:=by simp [K_,hi]
  show Q' bs[i] s';rw[<- e];exact hQ
 .have e1:its.toArray.size=bs.length:=by rw[z_,hl]
  rw[e1,Ak];have hn:H s.heap.objs.size=none:=I.fresh;have I1:Inv X pins σ H { s with heap:=s.heap.push { cls:=.type "list_iterator",dict:=none,data:=.fields #[.ref a,rawInt 0] } }:=I.kept (t':=s.toks) λb o e=>o_ _ e;refine⟨.bl _,H,?_,rfl,q⟩;refine I.kept (t':=tk) λb o e=>?_;have hne:b≠s.heap.objs.size:=P_ (y_ e);exact hk b o (by simpa using hne) (o_ _ e)
end
structure Def(K:W.Frag)(mg:Ua)(x:Str)(st:Stmt):Prop where
 ex:∃f fd,Fun K x x st f fd/\mg x=some (.ref f)
def A8{K:W.Frag}{h:Heap}{mg:Ua}{x:Str}{st:Stmt}{f:Addr}{oc:Value}{od an:Option Addr}{osl:Array (Option Value)}{kV doc pm cdv ct:Value}(X:K.In h)(G:h.Ns mainGlobals mg)
 (a:W.nsIn K mainGlobals x=some (some (.ref f))) (l:K.lookup f=some ⟨oc,od,.func (W.fnOf x x (bS st) (aP st) (ak st) .none kV doc pm an cdv ct),osl⟩)
 (c:W.codeIn K cdv x=true) (k:W.keepIn K (.ref f)=true):Def K mg x st:=⟨f,_,K1 l c k,W.mg_of X G a⟩
def Fun.look{K:W.Frag}{x qual:Str}{st:Stmt}{f:Addr}{fd:FuncData}(F:Fun K x qual st f fd):∃oc od osl,K.lookup f=some ⟨oc,od,.func fd,osl⟩:=by obtain⟨oc,od,kV,doc,pm,an,cdv,ct,osl,rfl,lk,kw⟩:=F.ex;exact⟨oc,od,osl,lk⟩
structure Callee(P:Program)(w:World)(K:W.Frag)(mg:Ua)(base:Heap)(x:Str)(k:Nat)(ps:List Str)(sp:Sp):Prop where
 ex:∃f fd,FnOk P w K mg base (CX1 P w) k f fd ps sp/\mg x=some (.ref f)/\W.keepIn K (.ref f)=true/\Binds K fd ps []/\∃oc od osl,K.lookup f=some ⟨oc,od,.func fd,osl⟩
section
variable{P:Program}{w:World}{K:W.Frag}{mg:Ua}{base:Heap}{x:Str}{st:Stmt}{k:Nat}{ps N:List Str}{sp:Sp}
def Callee.imp(C:Callee P w K mg base x k ps sp)(h:∀vs H Q E,sp' vs H Q E->sp vs H Q E):Callee P w K mg base x k ps sp':=by obtain⟨f,fd,F,r⟩:=C.ex;exact⟨f,fd,F.imp h,r⟩
def Def.okR(D:Def K mg x st)(S:FnScope N ps (ak st))
 (hb:∀(kV doc pm:Value) (an:Option Addr) (cdv ct:Value) (us:List Value),us.length=ps.length->bindArgs (W.fnOf x x (bS st) (aP st) (ak st) .none kV doc pm an cdv ct) ⟨us,[]⟩=pure (ps.zip us))
 (len:∀vs H Q E,sp vs H Q E->vs.length=ps.length)
 (e_:∀(f:Addr) (cdv:Value) (A:Around) (outer:List Env) (s:Shared) (H:Hp) (vs:List V) (Q:VK) (E:XK),Room k (A.deeper (envOfC x (ak st) s.heap.objs.size f cdv))->sp vs H Q E->
  ∃t,PSs (c9 (CX1 P w) P w K mg base N x (ak st) f cdv A outer s H E) (aP st) t/\t { nx:=λ_ H'=>Q .non H',rt:=Q } (fE N vs) H):Callee P w K mg base x (k+1) ps sp:=by
 obtain⟨f,fd,F,m⟩:=D.ex;exact⟨f,fd,F.okR S len (e_ f),m,F.kp,F.binds hb,F.look⟩
end
section
variable{X:Cx}{K:W.Frag}
def allK(h:X.K=K)(hc:X.calm=true):CallR X (.builtin "all") (λxs H Q=>∃(a:Addr) (bs:List Bool),xs=[.ref a]/\SqL K H a (bs.map V.bl)/\Q (.bl (bs.all id)) H):=by subst h;exact Ex hc
def Room.u180(r:Room k A):A.units+180<cLine:=by have:=r.un;omega
def eqDK(h:X.K=K)(hu:X.A.units+180<cLine):OpR X (compareOp .Eq) (yR K):=by subst h;exact L4 hu
def Dh(h:X.K=K)(hu:X.A.units+180<cLine):OpR X (compareOp .NotEq) (yb K):=by subst h;exact Ko hu
def inK(h:X.K=K):OpR X (compareOp .In) (rIn K false):=by subst h;exact Av
def Jq(h:X.K=K):OpR X (compareOp .NotIn) (rIn K true):=by subst h;exact ua
end
section
variable{X:Cx}
def Jx{jp a_ tg:Expr}{ifs:List Expr}{scope:Scope}{pos:Pos}{wi:TI}{g:TG}{tc:TT}{te:TE}{N:List Str}{sub:Ud}{iT:Nat}{xT:Str}{px spos:Pos}
 (hc:X.calm=true) (hN:X.N.Nodup) (hix:X.N[iT]?=some xT) (hxl:Loc X.env.scope xT) (hi:PI X tg a_ wi)
 (hk:scope.kind=.function) (hnc:∀x∈scope.names,x.2 ≠ .cell) (ci:∀x∈scope.names,x.2=.local->scope.names.lookup x.1=some .local)
 (hfr:∀x∈scope.names,x.2=.free->X.env.kindOf x.1=some .cell\/X.env.kindOf x.1=some .free)
 (hsl:sub.length=N.length) (g_:∀(j i:Nat) (x:Str),sub[j]?=some (some i)->N[j]?=some x->X.N[i]?=some x/\scope.names.lookup x=some .free)
 (hg:∀cl C s₂ H fp,PG (aN X N scope cl C s₂ H fp) tg g) (ht:∀cl C s₂ H fp,PTs (aN X N scope cl C s₂ H fp) ifs tc) (he:∀cl C s₂ H fp,PE (aN X N scope cl C s₂ H fp) jp te)
 (hsw:swapsWith (.ListComp jp [⟨tg,a_,ifs,0⟩] scope pos) (some (.Name xT px)) spos.line X.env=pure true)
 (hs:∀x,foldedSetIterable a_ X.env x=pure x) (hf:X.fn xT=true\/X.env.scope.names.lookup xT=some .local):
 PS X (.Assign [.Name xT px] (.ListComp jp [⟨tg,a_,ifs,0⟩] scope pos) spos) (uR (jc wi sub g tc te) (m8 iT)):=by
 intro pins s σ H D0 I h;rw[exec_Assign_Name_used _ _ _ _ hsw];refine l_ (SH (l_ ?_));show wpAny _ X.A (do let _ <- comprehension (.ListComp jp [⟨tg,a_,ifs,0⟩] scope pos) scope X.env _ (newList []) false (eval a_ X.env) (some (assign (.Name xT px) X.env))) _ _ s;refine l_ (QR (wK (use:=some (assign (.Name xT px) X.env)) (R:=λ_ s'=>SP X pins D0 .next s') hc hi hk hnc ci hfr hsl g_ hg ht he hs I h λD C s4 e=>?_) (λ_ s' hq=>x_ (x_ hq)) λ_ _ e=>e);obtain⟨m,hm⟩:=e.ns;obtain⟨H',hC,q,i⟩:=e.inv;have dc:=e.dc;have fr:=e.fr;refine wpAny_assign_Name (pQ (v:=.ref D) (i s4.heap ⟨rfl,λ_ _=>rfl⟩) hN hix hxl rfl (λs7 I7 ⟨a7,sb7,ha7⟩=>?_) hf);have ha:a7<D:=by
  rcases ha7 with z |z
  .rw[z];exact fr
  .exact e.cell xT a7 z
 refine⟨m,hm.sameBut sb7 (Sy (Tj ha dc)),λh8 hs8=>⟨_,_,I7.turned (it:=C) (t':=s7.toks) (λb o hb e=>hs8.extBut b o hb e) hC (Sy (Tj fr dc)) (.inr (F_ e.sz (Sx dc))) (λx c q=>P_ (Tj (e.cell x c q) dc)) (λp hp=>P_ (Tj (e.pin p hp) dc)),q⟩⟩
def NF{jp a_ tg:Expr}{scope:Scope}{pos px spos:Pos}{wi:TI}{g:TG}{te:TE}{iT:Nat}{xT:Str}(M:List Str)(kn:List (Str×NameKind))(N:List Str)(sub:Ud)
 (hc:X.calm=true) (hN:X.N.Nodup) (hix:X.N[iT]?=some xT) (hxl:Loc X.env.scope xT) (hi:PI X tg a_ wi)
 (hg:∀cl C s₂ H fp,PG (aN X N scope cl C s₂ H fp) tg g) (he:∀cl C s₂ H fp,PE (aN X N scope cl C s₂ H fp) jp te)
 (hsw:swapsWith (.ListComp jp [⟨tg,a_,[],0⟩] scope pos) (some (.Name xT px)) spos.line X.env=pure true)
 (hM:X.N=M) (hkn:X.env.scope.names=kn) (g_:fZ M scope.names sub N=true)
 (hk:scope.kind=.function) (hnc:∀x∈scope.names,x.2 ≠ .cell) (ci:∀x∈scope.names,x.2=.local->scope.names.lookup x.1=some .local)
 (hfr:iJ kn scope.names=true)
 (hsl:sub.length=N.length) (hs:∀x,foldedSetIterable a_ X.env x=pure x) (hf:X.fn xT=true\/X.env.scope.names.lookup xT=some .local):
 PS X (.Assign [.Name xT px] (.ListComp jp [⟨tg,a_,[],0⟩] scope pos) spos) (uR (jc wi sub g B8 te) (m8 iT)):=
 Jx hc hN hix hxl hi hk hnc ci (by subst hkn;exact wz hfr) hsl (by subst hM;exact sW g_) hg (λcl C s₂ H fp=>vZ) he hsw hs hf
end
theorem oX:∀{ns:List Int}{its:List Value},Vals (ns.map V.int) its->IntsAre its ns
 | [],_,h=>by cases h;exact .nil
 |
  i::r,_,h=>by
  cases h with
  |cons h1 h2=>obtain⟨t,rfl⟩:=h1;exact .cons i t (oX h2)
def pG{X:Cx}{K:W.Frag}(hK:X.K=K)(hc:X.calm=true):CallR X (.builtin "sum") (λxs H Q=>∃(a:Addr) (ns:List Int),xs=[.ref a]/\SqL K H a (ns.map V.int)/\Q (.int ns.sum) H):=by
 subst hK;intro pins s σ H xs us Q I r h;obtain⟨a,ns,rfl,hq,q⟩:=h;obtain⟨u,rfl,ru⟩:=f6 r;cases ru;obtain⟨its,rv,p,hz⟩:=I.list hq;have hi:=oX rv;obtain⟨ys,hy⟩:=hi.allInts.items;have hn:numsOf its.toArray.toList=ns:=by rw[show its.toArray.toList=its from rfl,hi.numsOf]
 have pl:=p.isList;rw[hy] at pl hn;rw[nums_intItems] at hn;refine sum_intListG (I.ok.hd hc) pl λh' tk t' hk=>?_;rw[preSum_eq,Ri (by simp),hn];exact⟨.int ns.sum,H,I.kept (t':=tk) hk,⟨_,rfl⟩,q⟩
end L2
namespace Fr
def dv(a b:Int):Int:=if b<0 then -((Int.gcd a b:Nat):Int) else ((Int.gcd a b:Nat):Int)
def T(a b:Int):Int:=a.fdiv (dv a b)
def B(a b:Int):Int:=b.fdiv (dv a b)
def uJ(hb:b≠0):0<Int.gcd a b:=Int.gcd_pos_of_ne_zero_right a hb
def dv_ne(hb:b≠0):dv a b≠0:=by
 have:=uJ (a:=a) hb
 unfold dv;split <;> omega
def Df(a b:Int):dv a b ∣ a:=by
 have h:((Int.gcd a b:Nat):Int) ∣ a:=Int.gcd_dvd_left a b;unfold dv;split
 .exact Int.neg_dvd.mpr h
 .exact h
def Cn(a b:Int):dv a b ∣ b:=by
 have h:((Int.gcd a b:Nat):Int) ∣ b:=Int.gcd_dvd_right a b;unfold dv;split
 .exact Int.neg_dvd.mpr h
 .exact h
def vO{a d q:Int}(hd:d≠0)(h:a=d*q):a.fdiv d=q:=by rw[h,SM];exact Int.mul_fdiv_cancel q hd
def T_mul(hb:b≠0):T a b*dv a b=a:=by obtain⟨q,h⟩:=Df a b;have:T a b=q:=vO (dv_ne hb) h;rw[this,SM];exact h.symm
def B_mul(hb:b≠0):B a b*dv a b=b:=by obtain⟨q,h⟩:=Cn a b;have:B a b=q:=vO (dv_ne hb) h;rw[this,SM];exact h.symm
def B_pos(hb:b≠0):0<B a b:=by
 have h:=B_mul (a:=a) hb;have hg:=uJ (a:=a) hb;generalize hx:B a b=x at h ⊢;unfold dv at h;split at h
 .rename_i hneg;have h2:x*((Int.gcd a b:Nat):Int)=-b:=by rw[Int.mul_neg] at h;omega
  rcases Int.lt_or_le 0 x with z |z
  .exact z
  .have:x*((Int.gcd a b:Nat):Int)<=0:=Int.mul_nonpos_of_nonpos_of_nonneg z (by omega);omega
 .rename_i hpos;rcases Int.lt_or_le 0 x with z |z
  .exact z
  .have:x*((Int.gcd a b:Nat):Int)<=0:=Int.mul_nonpos_of_nonpos_of_nonneg z (by omega);omega
def cross(hb:b≠0):T a b*b=a*B a b:=by have h1:=T_mul (a:=a) hb;have h2:=B_mul (a:=a) hb;generalize T a b=x at *;generalize B a b=y at *;generalize dv a b=d at *;rw[<- h2,<- h1];rw[<- Ro,SN]
def dv_abs(a b:Int):(dv a b).natAbs=Int.gcd a b:=by unfold dv;split <;> simp
def low(hb:b≠0):Int.gcd (T a b) (B a b)=1:=by
 have h1:=T_mul (a:=a) hb;have h2:=B_mul (a:=a) hb;have hg:=uJ (a:=a) hb;have e1:a.natAbs=(T a b).natAbs*Int.gcd a b:=by rw[<- dv_abs a b,<- Rh,h1]
 have e2:b.natAbs=(B a b).natAbs*Int.gcd a b:=by rw[<- dv_abs a b,<- Rh,h2]
 have e3:Int.gcd a b=Nat.gcd ((T a b).natAbs*Int.gcd a b) ((B a b).natAbs*Int.gcd a b):=by rw[<- e1,<- e2];rfl
 rw[Nat.gcd_mul_right] at e3;show Nat.gcd (T a b).natAbs (B a b).natAbs=1;generalize Nat.gcd (T a b).natAbs (B a b).natAbs=k at *;generalize Int.gcd a b=g at *;have:(1:Nat)*g=k*g:=by omega
 exact (Nat.eq_of_mul_eq_mul_right hg this).symm
def uniq(hy:0<y)(hy':0<y')(h:Int.gcd x y=1)(h':Int.gcd x' y'=1)(e:x*y'=x'*y):x=x'/\y=y':=by
 have c1:Nat.Coprime y.natAbs x.natAbs:=by rw[Nat.coprime_comm];exact h
 have c2:Nat.Coprime y'.natAbs x'.natAbs:=by rw[Nat.coprime_comm];exact h'
 have e1:x.natAbs*y'.natAbs=x'.natAbs*y.natAbs:=by rw[<- Rh,<- Rh,e]
 have d1:y.natAbs ∣ y'.natAbs:=c1.dvd_of_dvd_mul_left (by rw[e1];exact Nat.dvd_mul_left _ _);have d2:y'.natAbs ∣ y.natAbs:=c2.dvd_of_dvd_mul_left (by rw[<- e1];exact Nat.dvd_mul_left _ _);have ey:y.natAbs=y'.natAbs:=Nat.dvd_antisymm d1 d2;have ey':y=y':=by omega
 subst ey';exact⟨SE (by omega) e,rfl⟩
def same(hb:b≠0)(hd:d≠0)(e:a*d=c*b):T a b=T c d/\B a b=B c d:=by
 refine uniq (B_pos hb) (B_pos hd) (low hb) (low hd) ?_;have h1:=cross (a:=a) hb;have h2:=cross (a:=c) hd;have hbd:b*d≠0:=Si hb hd;refine SE hbd ?_
 calc T a b*B c d*(b*d)=(T a b*b)*(B c d*d):=by rw[Ro,Sr (B c d) b d,<- Ro]
  _=(a*B a b)*(B c d*d):=by rw[h1]
  _=(a*d)*(B c d*B a b):=by rw[Ro a,Ro a,Sr (B a b),Sr d,SM (B a b) d]
  _=(c*b)*(B c d*B a b):=by rw[e]
  _=(c*B c d)*(B a b*b):=by rw[Ro c,Ro c,Sr b,SM b (B a b)]
  _=(T c d*d)*(B a b*b):=by rw[<- h2]
  _=T c d*B a b*(b*d):=by rw[Ro,Ro,Sr d,SM d b]
def self(hb:0<b)(h:Int.gcd a b=1):T a b=a/\B a b=b:=
 uniq (B_pos (by omega)) hb (low (by omega)) h (cross (by omega))
def euc(m n:Nat):Nat.gcd n (m % n)=Nat.gcd m n:=by rw[Nat.gcd_comm,<- Nat.gcd_rec,Nat.gcd_comm]
end Fr
set_option maxHeartbeats 1000000
namespace L2
open PySem PySem.Spec PyProof.Rows
def Inv.turnedL{X:Cx}{pins:Ub}{σ:St}{H:Hp}{s:Shared}{h':Heap}{t':Nat}{ch:List Addr}(I:Inv X pins σ H s)(k:∀b o,b∉ch->s.heap.get? b=some o->h'.get? b=some o)(hf:∀b∈ch,FpOk X pins H b):Inv X pins σ H { s with heap:=h',toks:=t' }:=by
 have away:∀b u,H b=some u->b∉ch:=λb u e z=>by have:=(hf b z).1;rw[e] at this;cases this
 refine I.step (g':=s.gens) (d':=s.drawn) (ch:=ch) (λb hb=>⟨(hf b hb).2.2.2.1,(hf b hb).2.1,(hf b hb).2.2.2.2.1,(hf b hb).2.2.2.2.2⟩) (λb o _ _ hc e _=>k b o hc e) (λb o _ _ hc e _=>⟨o.slots,k b o hc e⟩) (λ_ _ _ _ n=>n)
  (λb o hc e=>⟨o,k b o hc e⟩) (λ_ _ e=>e) (λ_ _ _ e=>e) (λb ps e=>⟨#[],by rw[e];simp⟩) (λm hm=>?_) (λb u e=>?_) I.bare
 .obtain⟨o,es,ep,ho,r⟩:=hm;exact⟨o,es,ep,k _ o (λz=>(hf _ z).2.1 rfl) ho,r⟩
 .refine (I.hok b u e).stay (λc v hc q=>k c v ?_ q) (λ_ q=>q) λ_ _ q=>q;rcases hc with z |z
  .rw[z];exact away b u e
  .exact away c _ z
def FpOk.up(f:FpOk X pins H b)(hn:b≠p):FpOk X pins (upd H p o) b:=⟨by rw[ax hn];exact f.1,f.2⟩
def yu(hj:s.heap.IsTupleIter j t n)(ht:s.heap.IsTuple t its)(hv:its[n]?=some v)
 (k:∀h',h'.IsTupleIter j t (n+1)->Heap.SameBut j s.heap h'->Q v { s with heap:=h' }):wpAny (model prog w) A (Builtin.SmallTypes.nextOf (.ref j)) Q E s:=by
 obtain⟨oj,ej,cj,dj⟩:=id hj;obtain⟨ot,et,_,m,dt⟩:=ht;unfold Builtin.SmallTypes.nextOf;refine l_ (RQ (name:=Str.ofString "__next__") hj.typeIs R9 (SD R9 hj.typeIs F.entry_tuple_iterator_next ?_ (F.args_tuple_iterator_next_1 _)));show wpAny _ _ (field (.ref j) 0 >>= _) _ _ s;refine l_ (Ra ej dj (x:=.ref t) rfl ?_);show wpAny _ _ (if (Value.ref t==Value.none)=true then _ else _) _ _ s;rw[if_neg (show ¬ ((Value.ref t==Value.none)=true) from A_)];show wpAny _ _ (field (.ref j) 1 >>= _) _ _ s;refine l_ (Ra ej dj (x:=.int n 0) rfl ?_);show wpAny _ _ (seqItems? (.ref t) >>= _) _ _ s;refine l_ (RW et dt ?_);simp only[Q3,hv];refine l_ (wpAny_setField ej dj (by simp) (x_ ⟨v,rfl,x_ (k _ ?_ (RR ..))⟩));exact⟨_,Heap.get?_update_self _ ej (Obj.isFreed_of_fields (Obj.data_mapFields dj _)),(Obj.cls_mapFields ..).trans cj,by rw[Obj.data_mapFields dj];simp [rawInt]⟩
def nW(hh:A.handled=none)(hj:s.heap.IsTupleIter j t n)(ht:s.heap.IsTuple t its)(hv:its[n]?=none)
 (k:∀h' e,Heap.ExtBut j s.heap h'->(∃o,h'.get? e=some o/\o.cls=.type "StopIteration")->E (.ref e) { s with heap:=h' }):wpAny (model prog w) A (Builtin.SmallTypes.nextOf (.ref j)) Q E s:=by
 obtain⟨oj,ej,cj,dj⟩:=id hj;obtain⟨ot,et,_,m,dt⟩:=ht;unfold Builtin.SmallTypes.nextOf;refine l_ (RQ (name:=Str.ofString "__next__") hj.typeIs R9 (SD R9 hj.typeIs F.entry_tuple_iterator_next ?_ (F.args_tuple_iterator_next_1 _)));show wpAny _ _ (field (.ref j) 0 >>= _) _ _ s;refine l_ (Ra ej dj (x:=.ref t) rfl ?_);show wpAny _ _ (if (Value.ref t==Value.none)=true then _ else _) _ _ s;rw[if_neg (show ¬ ((Value.ref t==Value.none)=true) from A_)];show wpAny _ _ (field (.ref j) 1 >>= _) _ _ s;refine l_ (Ra ej dj (x:=.int n 0) rfl ?_);show wpAny _ _ (seqItems? (.ref t) >>= _) _ _ s;refine l_ (RW et dt ?_);simp only[Q3,hv];refine l_ (wpAny_rule (l_ (wpAny_setField ej dj (by simp) ?_)));show wpAny _ _ (newExc (.type "StopIteration") [] >>= _) _ _ _;refine l_ ?_;simp only[newExc,newTuple];refine l_ (Rj ?_ (by size_fits));refine l_ (m:=firstArgMember _ _) (wpAny_of_eq (a:=Value.none) (by first |rfl |(simp only[firstArgMember];rfl)) ?_);refine Rj ?_ (by size_fits);simp only[raiseNew];refine l_ (wpAny_handled ?_);first |rw[show A.in1.handled=none from hh] |rw[hh]
 refine l_ (x_ (wpAny_throw ?_));exact k _ _ (((RR ..).extBut.push _).push _) ⟨_,Em _ rfl,rfl⟩
def SqB(K:W.Frag)(b:Bool)(H:Hp)(a:Addr)(xs:List V):Prop:=match b with
 |true=>SqL K H a xs
 |false=>SqT K H a xs
def ItB(b:Bool)(h:Heap)(j a:Addr)(i:Nat):Prop:=match b with
 |true=>h.IsListIter j a i
 |false=>h.IsTupleIter j a i
def SqB.inj(I:Inv X pins σ H s)(x:SqB X.K b H a xs)(y:SqB X.K b H a ys):xs=ys:=by
 cases b with
 |true=>exact I.list_inj x y
 |false=>exact I.tuple_inj x y
def IteE(K:W.Frag)(b:Bool)(a:Addr):It:=
 ⟨λi H=>∃xs x,SqB K b H a xs/\xs[i]?=some x,λi H x H'=>∃p u,x=.ref p/\H p=none/\H'=upd H p (.tup [.int (i:Nat),u])/\∀xs,SqB K b H a xs->xs[i]?=some u,λi H=>∃xs,SqB K b H a xs/\xs.length=i⟩
def kP(z:ItB b h j a i):∃o,h.get? j=some o/\(∀v,o.data ≠ .cell v)/\o.cls=.type (if b then "list_iterator" else "tuple_iterator"):=by
 cases b with
 |true=>obtain⟨o,e,c,d⟩:=z;exact⟨o,e,(λv y=>by rw[d] at y;cases y),c⟩
 |false=>obtain⟨o,e,c,d⟩:=z;exact⟨o,e,(λv y=>by rw[d] at y;cases y),c⟩
def bJ(z:ItB b h j a i)(k:∀o,h.get? j=some o->h'.get? j=some o):ItB b h' j a i:=by
 cases b with
 |true=>obtain⟨o,e,r⟩:=z;exact⟨o,k o e,r⟩
 |false=>obtain⟨o,e,r⟩:=z;exact⟨o,k o e,r⟩
def LsB(b:Bool)(h:Heap)(a:Addr)(its:Array Value):Prop:=match b with
 |true=>h.IsList a its
 |false=>h.IsTuple a its
def LsB.keep(z:LsB b h a its)(k:∀o,h.get? a=some o->h'.get? a=some o):LsB b h' a its:=by cases b <;> (obtain⟨o,e,r⟩:=z;exact⟨o,k o e,r⟩)
def yU(hj:ItB b s.heap j a n)(ht:LsB b s.heap a its)(hv:its[n]?=some v)
 (k:∀h',ItB b h' j a (n+1)->Heap.SameBut j s.heap h'->Q v { s with heap:=h' }):wpAny (model prog w) A (Builtin.SmallTypes.nextOf (.ref j)) Q E s:=by
 cases b with
 |true=>exact wpAny_nextOf_list_item hj ht hv k
 |false=>exact yu hj ht hv k
def pA(hh:A.handled=none)(hj:ItB b s.heap j a n)(ht:LsB b s.heap a its)(hv:its[n]?=none)
 (k:∀h' e,Heap.ExtBut j s.heap h'->(∃o,h'.get? e=some o/\o.cls=.type "StopIteration")->E (.ref e) { s with heap:=h' }):wpAny (model prog w) A (Builtin.SmallTypes.nextOf (.ref j)) Q E s:=by
 cases b with
 |true=>exact wpAny_nextOf_list_end hh hj ht hv k
 |false=>exact nW hh hj ht hv k
section
variable{prog:Program}{w:World}{A:Around}{E:Uc}{s:Shared}{b1 b2:Bool}{z p q j1 j2 a1 a2:Addr}{n:Nat}{xs ys:Array Value}{x y u v:Value}
def zipN{Q:Uc}(D:ZipApart z p q j1 j2 a1 a2)(hz:IsZip s.heap z p q .none)(hp:IsPair s.heap p (.ref j1) (.ref j2))(hq:IsPair s.heap q u v)
 (i1:ItB b1 s.heap j1 a1 n) (i2:ItB b2 s.heap j2 a2 n) (l1:LsB b1 s.heap a1 xs) (l2:LsB b2 s.heap a2 ys) (ex:xs[n]?=some x) (ey:ys[n]?=some y)
 (k:∀h',IsZip h' z p q (rawInt s.heap.objs.size)->IsPair h' q x y->ItB b1 h' j1 a1 (n+1)->ItB b2 h' j2 a2 (n+1)->IsPair h' s.heap.objs.size x y->(∀c o,c≠z->c≠q->c≠j1->c≠j2->s.heap.get? c=some o->h'.get? c=some o)->Q (.ref s.heap.objs.size) { s with heap:=h' }):
 wpAny (model prog w) A (Builtin.«zip.__next__» ⟨[.ref z],[]⟩) (λi_ s'=>∃v,i_=.done (.ret v)/\Q v s') E s:=by
 show wpAny _ _ (field (.ref z) 2 >>= _) _ _ _;refine l_ (Ra hz rfl (x:=.bool false) rfl ?_);show wpAny _ _ (field (.ref z) 3 >>= _) _ _ _;refine l_ (Ra hz rfl (x:=.ref p) rfl ?_);refine l_ (RW hp rfl ?_);show wpAny _ _ (Builtin.SmallTypes.ownedTupleIsFree (.ref z) >>= _) _ _ _;refine l_ ?_;unfold Builtin.SmallTypes.ownedTupleIsFree;refine l_ (Ra hz rfl (x:=.none) rfl (x_ ?_));simp only[Sa];refine l_ (wpAny_rule ?_);refine l_ (Ra hz rfl (x:=.ref q) rfl ?_);refine l_ (R4 hz (by simp) λg1 (y1:IsZip g1 z p q .ellipsis) t1=>?_);refine l_ ?_;simp only[List.zipIdx_cons,List.zipIdx_nil,List.forIn_cons,List.forIn_nil];refine l_ (l_ (TB ?_));show wpAny _ _ (Builtin.SmallTypes.nextOf (.ref j1) >>= _) _ _ _;refine l_ (yU (bJ i1 λo e=>t1.extBut _ _ D.i1z e) (l1.keep λo e=>t1.extBut _ _ D.l1z e) ex λg2 m1 t2=>x_ ?_);have q2:IsPair g2 q u v:=t2.extBut _ _ D.TOi1 (t1.extBut _ _ D.TOz hq);refine l_ (RW q2 rfl ?_);refine l_ (Tt q2 λg3 (q3:IsPair g3 q x v) t3=>?_);refine l_ (wpAny_letGo (x_ ?_));refine l_ (l_ (TB ?_));show wpAny _ _ (Builtin.SmallTypes.nextOf (.ref j2) >>= _) _ _ _;refine l_ (yU (bJ i2 λo e=>t3.extBut _ _ D.TOi2.symm (t2.extBut _ _ D.i12.symm (t1.extBut _ _ D.i2z e))) (l2.keep λo e=>t3.extBut _ _ D.l2TO (t2.extBut _ _ D.l2i1 (t1.extBut _ _ D.l2z e))) ey λg4 m2 t4=>x_ ?_);have q4:IsPair g4 q x v:=t4.extBut _ _ D.TOi2 q3;refine l_ (RW q4 rfl ?_);refine l_ (Tt q4 λg5 (q5:IsPair g5 q x y) t5=>?_);refine l_ (wpAny_letGo (x_ (x_ ?_)));refine l_ (RW q5 rfl ?_);refine l_ (wpAny_newTuple ?_);have sz:g5.objs.size=s.heap.objs.size:=by rw[t5.1,t4.1,t3.1,t2.1,t1.1]
 have y5:IsZip g5 z p q .ellipsis:=t5.extBut _ _ D.TOz.symm (t4.extBut _ _ D.i2z.symm (t3.extBut _ _ D.TOz.symm (t2.extBut _ _ D.i1z.symm y1)));have all5:∀c o,c≠z->c≠q->c≠j1->c≠j2->s.heap.get? c=some o->g5.get? c=some o:=λc o c1 c2 c3 c4 e=>t5.extBut _ _ c2 (t4.extBut _ _ c4 (t3.extBut _ _ c2 (t2.extBut _ _ c3 (t1.extBut _ _ c1 e))));have n1:ItB b1 g5 j1 a1 (n+1):=bJ m1 λo e=>t5.extBut _ _ D.TOi1.symm (t4.extBut _ _ D.i12 (t3.extBut _ _ D.TOi1.symm e));have n2:ItB b2 g5 j2 a2 (n+1):=bJ m2 λo e=>t5.extBut _ _ D.TOi2.symm e;have zl:z<g5.objs.size:=y_ y5;show wpAny _ _ (Builtin.SmallTypes.ownedTupleHandOut (.ref z) (.ref g5.objs.size) >>= _) _ _ _;refine l_ ?_;unfold Builtin.SmallTypes.ownedTupleHandOut;have y6:IsZip (g5.push { cls:=.type "tuple",data:=.seq #[x,y] }) z p q .ellipsis:=o_ _ y5;refine l_ (R4 y6 (by simp) λg7 (y7:IsZip g7 z p q (rawInt g5.objs.size)) t7=>?_);refine R4 y7 (by simp) λg8 (y8:IsZip g8 z p q (rawInt g5.objs.size)) t8=>?_;have up:∀c o,c≠z->g5.get? c=some o->g8.get? c=some o:=λc o c1 e=>t8.extBut _ _ c1 (t7.extBut _ _ c1 (o_ _ e));have w8:IsPair g8 g5.objs.size x y:=t8.extBut _ _ (Sy zl) (t7.extBut _ _ (Sy zl) (Em _ rfl));rw[sz] at y8 w8;refine x_ ⟨_,rfl,?_⟩;show Q (.ref g5.objs.size) _;rw[sz];exact k g8 y8 (up _ _ D.TOz q5) (bJ n1 λo e=>up _ o D.i1z e) (bJ n2 λo e=>up _ o D.i2z e) w8 λc o c1 c2 c3 c4 e=>up c o c1 (all5 c o c1 c2 c3 c4 e)
def DN(hh:A.handled=none)(D:ZipApart z p q j1 j2 a1 a2)(hz:IsZip s.heap z p q .none)(hp:IsPair s.heap p (.ref j1) (.ref j2))(hq:IsPair s.heap q u v)
 (i1:ItB b1 s.heap j1 a1 n) (i2:ItB b2 s.heap j2 a2 n) (l1:LsB b1 s.heap a1 xs) (l2:LsB b2 s.heap a2 ys) (en:xs[n]?=none\/ys[n]?=none)
 (k:∀h' e,(∀c o,c≠z->c≠q->c≠j1->c≠j2->s.heap.get? c=some o->h'.get? c=some o)->(∃o,h'.get? e=some o/\o.cls=.type "StopIteration")->E (.ref e) { s with heap:=h' }):wpAny (model prog w) A (Builtin.«zip.__next__» ⟨[.ref z],[]⟩) Q E s:=by
 show wpAny _ _ (field (.ref z) 2 >>= _) _ _ _;refine l_ (Ra hz rfl (x:=.bool false) rfl ?_);show wpAny _ _ (field (.ref z) 3 >>= _) _ _ _;refine l_ (Ra hz rfl (x:=.ref p) rfl ?_);refine l_ (RW hp rfl ?_);show wpAny _ _ (Builtin.SmallTypes.ownedTupleIsFree (.ref z) >>= _) _ _ _;refine l_ ?_;unfold Builtin.SmallTypes.ownedTupleIsFree;refine l_ (Ra hz rfl (x:=.none) rfl (x_ ?_));simp only[Sa];refine l_ (wpAny_rule ?_);refine l_ (Ra hz rfl (x:=.ref q) rfl ?_);refine l_ (R4 hz (by simp) λg1 (y1:IsZip g1 z p q .ellipsis) t1=>?_);refine l_ ?_;simp only[List.zipIdx_cons,List.zipIdx_nil,List.forIn_cons,List.forIn_nil];refine l_ (l_ (TB ?_));show wpAny _ _ (Builtin.SmallTypes.nextOf (.ref j1) >>= _) _ _ _;cases ex:xs[n]? with
 |
  none=>
  refine l_ (pA hh (bJ i1 λo e=>t1.extBut _ _ D.i1z e) (l1.keep λo e=>t1.extBut _ _ D.l1z e) ex λg2 e t2 ⟨oe,he,ce⟩=>?_);have y2:IsZip g2 z p q .ellipsis:=t2 _ _ D.i1z.symm y1;have ez:e≠z:=λw=>by subst w;rw[y2] at he;cases he;simp at ce
  exact R4 y2 (by simp) λg3 _ t3=>k g3 e (λc o c1 _ c3 _ w=>t3.extBut _ _ c1 (t2 _ _ c3 (t1.extBut _ _ c1 w))) ⟨oe,t3.extBut _ _ ez he,ce⟩
 |
  some x=>
  have ey:ys[n]?=none:=en.resolve_left λw=>by rw[ex] at w;cases w
  refine l_ (yU (bJ i1 λo e=>t1.extBut _ _ D.i1z e) (l1.keep λo e=>t1.extBut _ _ D.l1z e) ex λg2 m1 t2=>x_ ?_);have q2:IsPair g2 q u v:=t2.extBut _ _ D.TOi1 (t1.extBut _ _ D.TOz hq);refine l_ (RW q2 rfl ?_);refine l_ (Tt q2 λg3 q3 t3=>?_);refine l_ (wpAny_letGo (x_ ?_));refine l_ (l_ (TB ?_));show wpAny _ _ (Builtin.SmallTypes.nextOf (.ref j2) >>= _) _ _ _;refine l_ (pA hh (bJ i2 λo e=>t3.extBut _ _ D.TOi2.symm (t2.extBut _ _ D.i12.symm (t1.extBut _ _ D.i2z e))) (l2.keep λo e=>t3.extBut _ _ D.l2TO (t2.extBut _ _ D.l2i1 (t1.extBut _ _ D.l2z e))) ey λg4 e t4 ⟨oe,he,ce⟩=>?_);have y4:IsZip g4 z p q .ellipsis:=t4 _ _ D.i2z.symm (t3.extBut _ _ D.TOz.symm (t2.extBut _ _ D.i1z.symm y1));have ez:e≠z:=λw=>by subst w;rw[y4] at he;cases he;simp at ce
  exact R4 y4 (by simp) λg5 _ t5=>k g5 e (λc o c1 c2 c3 c4 w=>t5.extBut _ _ c1 (t4 _ _ c4 (t3.extBut _ _ c2 (t2.extBut _ _ c3 (t1.extBut _ _ c1 w))))) ⟨oe,t5.extBut _ _ ez he,ce⟩
end
noncomputable def DL(b:Bool):String:=if b then "list_iterator" else "tuple_iterator"
def vx(h:LsB b s.heap a its)(k:Q (.ref s.heap.objs.size) { s with heap:=s.heap.push { cls:=.type (DL b),data:=.fields #[.ref a,.int 0 0] } }):wpAny (model prog w) A (pyIter (.ref a)) Q E s:=by
 cases b with
 |true=>exact wpAny_pyIter_list h k
 |false=>exact wpAny_pyIter_tuple h k
abbrev zp1(h:Heap)(b:Bool)(a:Addr):Heap:=h.push { cls:=.type (DL b),data:=.fields #[.ref a,.int 0 0] }
abbrev zp2(h:Heap)(b c:Bool)(a d:Addr):Heap:=zp1 (zp1 h b a) c d
abbrev zp3(h:Heap)(b c:Bool)(a d:Addr):Heap:=(zp2 h b c a d).push { cls:=.type "tuple",data:=.seq #[.ref h.objs.size,.ref (zp1 h b a).objs.size] }
abbrev zp4(h:Heap)(b c:Bool)(a d:Addr):Heap:=(zp3 h b c a d).push { cls:=.type "tuple",data:=.seq #[.none,.none] }
abbrev zp5(h:Heap)(b c:Bool)(a d:Addr):Heap:=(zp4 h b c a d).push { cls:=.type "zip",data:=.fields #[.none,.bool false,.bool false,.ref (zp2 h b c a d).objs.size,.ref (zp3 h b c a d).objs.size] }
def Ci(b c:Bool)(a d:Addr)(xs ys:Array Value):Meets (Builtin.«zip.__new__» ⟨[.type "zip",.ref a,.ref d],[]⟩) (λ_ R s=>LsB b s.heap a xs/\LsB c s.heap d ys/\R (.ok (.ret (.ref (zp4 s.heap b c a d).objs.size))) { s with heap:=zp5 s.heap b c a d }):=
 .of_wp λprog w A R s h=>by
  obtain⟨hp,g,dr,tk,os⟩:=s;obtain⟨la,ld,h⟩:=h;have g_:=sub_zip;have L1:LsB b (Shared.heap ⟨hp,g,dr,tk,os⟩) a xs:=la;have L2':LsB c (Shared.heap ⟨hp.push { cls:=.type (DL b),data:=.fields #[.ref a,.int 0 0] },g,dr,tk,os⟩) d ys:=ld.keep λo e=>o_ _ e
  wp_walk using vx L1,vx L2'
  exact⟨_,rfl,h⟩
def zP(la:LsB b s.heap a xs)(ld:LsB c s.heap d ys)
 (k:∀h',IsZip h' (s.heap.objs.size+4) (s.heap.objs.size+2) (s.heap.objs.size+3) .none->IsPair h' (s.heap.objs.size+2) (.ref s.heap.objs.size) (.ref (s.heap.objs.size+1))->IsPair h' (s.heap.objs.size+3) .none .none->
  ItB b h' s.heap.objs.size a 0->ItB c h' (s.heap.objs.size+1) d 0->(∀c o,s.heap.get? c=some o->h'.get? c=some o)->Q (.ref (s.heap.objs.size+4)) { s with heap:=h' }):wpAny (model prog w) A (call (.type "zip") [.ref a,.ref d]) Q E s:=by
 refine callType_new F.called_zip (by decide) (F.typeCall_zip_2 _ _) (F.newCall_zip_2 _ _) (λobj=>F.args_object_init_3 obj _ _) F.entry_zip_new (Ci b c a d xs ys) ⟨la,ld,?_⟩;have n1:(zp1 s.heap b a).objs.size=s.heap.objs.size+1:=SQ ..;have n2:(zp2 s.heap b c a d).objs.size=s.heap.objs.size+2:=by rw[SQ,n1]
 have n3:(zp3 s.heap b c a d).objs.size=s.heap.objs.size+3:=by rw[SQ,n2]
 have n4:(zp4 s.heap b c a d).objs.size=s.heap.objs.size+4:=by rw[SQ,n3]
 have up:=λ{h:Heap}{x:Addr}{o:Obj} (o':Obj) (e:h.get? x=some o)=>o_ o' e;have e5:(zp5 s.heap b c a d).get? (zp4 s.heap b c a d).objs.size=some _:=Em _ rfl;have e4:(zp5 s.heap b c a d).get? (zp3 s.heap b c a d).objs.size=some _:=up _ (Em _ rfl);have e3:(zp5 s.heap b c a d).get? (zp2 s.heap b c a d).objs.size=some _:=up _ (up _ (Em _ rfl));have e2:(zp5 s.heap b c a d).get? (zp1 s.heap b a).objs.size=some _:=up _ (up _ (up _ (Em _ rfl)));have e1:(zp5 s.heap b c a d).get? s.heap.objs.size=some _:=up _ (up _ (up _ (up _ (Em _ rfl))));show _/\_;rw[n2,n3,n4] at e5;rw[n1,n2] at e3;rw[n3] at e4;rw[n1] at e2;rw[n4];have i1:ItB b (zp5 s.heap b c a d) s.heap.objs.size a 0:=by cases b <;> exact⟨_,e1,rfl,rfl⟩
 have i2:ItB c (zp5 s.heap b c a d) (s.heap.objs.size+1) d 0:=by cases c <;> exact⟨_,e2,rfl,rfl⟩
 exact⟨⟨_,e5,rfl⟩,k _ e5 e3 e4 i1 i2 λx o e=>up _ (up _ (up _ (up _ (up _ e))))⟩
noncomputable def ItZ(K:W.Frag)(b c:Bool)(a d:Addr):It:=
 ⟨λi H=>∃xs ys x y,SqB K b H a xs/\SqB K c H d ys/\xs[i]?=some x/\ys[i]?=some y,
  λi H x H'=>∃p u v,x=.ref p/\H p=none/\H'=upd H p (.tup [u,v])/\(∀xs,SqB K b H a xs->xs[i]?=some u)/\∀ys,SqB K c H d ys->ys[i]?=some v,
  λi H=>∃xs ys,SqB K b H a xs/\SqB K c H d ys/\(xs[i]?=none\/ys[i]?=none)⟩
def i9(I:Inv X pins σ H s)(hq:SqB X.K b H a xs):∃its:List Value,Vals xs its/\LsB b s.heap a its.toArray:=by
 cases b with
 |true=>obtain⟨its,rv,p,_⟩:=I.list hq;exact⟨its,rv,p.isList⟩
 |false=>obtain⟨its,rv,p,_⟩:=I.tuple hq;exact⟨its,rv,p⟩
def Ep{P:Program}{w:World}{K:W.Frag}{elts:List Expr}{x1:Nat}{tp:Pos}(b c:Bool)(a d z p q j1 j2:Addr)(D:ZipApart z p q j1 j2 a d):
 Turn P w K (.Tuple elts x1 tp) (ItZ K b c a d) [z,p,q,j1,j2] z (λi h=>IsZip h z p q .none/\IsPair h p (.ref j1) (.ref j2)/\(∃u v,IsPair h q u v)/\ItB b h j1 a i/\ItB c h j2 d i) where
 mem:=by simp
 obj:=λi h st e he=>by
  obtain⟨s1,s2,⟨u,v,s3⟩,s4,s5⟩:=st;obtain⟨o4,k4,l4,_⟩:=kP s4;obtain⟨o5,k5,l5,_⟩:=kP s5;simp only[I_,S9,or_false] at he;rcases he with rfl |rfl |rfl |rfl |rfl
  .exact⟨_,s1,λv y=>by cases y⟩
  .exact⟨_,s2,λv y=>by cases y⟩
  .exact⟨_,s3,λv y=>by cases y⟩
  .exact⟨o4,k4,l4⟩
  .exact⟨o5,k5,l5⟩
 keep:=λi h h' st k=>by obtain⟨s1,s2,⟨u,v,s3⟩,s4,s5⟩:=st;exact⟨k z (by simp) _ s1,k p (by simp) _ s2,⟨u,v,k q (by simp) _ s3⟩,bJ s4 λo e=>k j1 (by simp) o e,bJ s5 λo e=>k j2 (by simp) o e⟩
 item:=
  by
  intro X hP hw hK hc i pins s σ H E I hf st hg;subst hP hw hK;obtain⟨xs,ys,x,y,qx,qy,ex,ey⟩:=hg;obtain⟨s1,s2,⟨u,v,s3⟩,s4,s5⟩:=st;obtain⟨ix,rx,lx⟩:=i9 I qx;obtain⟨iy,ry,ly⟩:=i9 I qy;obtain⟨ux,hux,rux⟩:=rx.get ex;obtain⟨uy,huy,ruy⟩:=ry.get ey;have hTy:s.TypeIs (.ref z) "zip":=⟨_,s1,rfl⟩;have zl:=y_ s1;have pl:=y_ s2;have ql:=y_ s3;obtain⟨o4,k4,_,_⟩:=kP s4;obtain⟨o5,k5,_,_⟩:=kP s5;have j1l:=y_ k4;have j2l:=y_ k5;unfold pyNext;refine l_ (S0 (RQ (name:=Str.ofString "__next__") hTy Te (SD Te hTy F.entry_zip_next (zipN D s1 s2 s3 s4 s5 lx ly (by simpa using hux) (by simpa using huy) λh' y1 y3 y4 y5 yT hk=>x_ ?_) (F.args_zip_next_1 _))));refine⟨_,rfl,wpAny_letOwnedTupleGo_zip (s:={ s with heap:=h' }) y1 λh2 z2 sb=>?_⟩;have sb':Heap.SameBut z h' h2:=sb;have hT:H s.heap.objs.size=none:=I.hok.fresh (p_ _);have I1:Inv X pins σ (upd H s.heap.objs.size (.tup [x,y])) { s with heap:=s.heap.push { cls:=.type "tuple",data:=.seq #[ux,uy] },toks:=s.toks }:=
   I.laid (t':=s.toks) (λc o q=>o_ _ q) (p_ _) ⟨by show 2<=sizeLine;decide,[ux,uy],.cons rux (.cons ruy .nil),⟨_,Em _ rfl,rfl,_,rfl⟩⟩
  have fp':∀e∈[z,p,q,j1,j2],FpOk X pins (upd H s.heap.objs.size (.tup [x,y])) e:=λe he=>by
   have:=hf e he
   simp only[I_,S9,or_false] at he;rcases he with rfl |rfl |rfl |rfl |rfl
   .exact this.up (P_ zl)
   .exact this.up (P_ pl)
   .exact this.up (P_ ql)
   .exact this.up (P_ j1l)
   .exact this.up (P_ j2l)
  have I2:Inv X pins σ (upd H s.heap.objs.size (.tup [x,y])) { s with heap:=h2,toks:=s.toks }:=
   Inv.turnedL (s:={ s with heap:=s.heap.push { cls:=.type "tuple",data:=.seq #[ux,uy] },toks:=s.toks }) (ch:=[z,p,q,j1,j2]) (t':=s.toks) I1 (λe o he qe=>by
    have c1:e≠z:=λw=>he (by simp [w]);have c2:e≠q:=λw=>he (by simp [w]);have c3:e≠j1:=λw=>he (by simp [w]);have c4:e≠j2:=λw=>he (by simp [w]);rw[sb'.2 e c1];have q':(s.heap.push { cls:=.type "tuple",data:=.seq #[ux,uy] }).get? e=some o:=qe;by_cases w:e=s.heap.objs.size
    .subst w;rw[Em _ rfl] at q';cases q';exact yT
    .rw[Heap.get?_push_ne _ _ _ w] at q';exact hk e o c1 c2 c3 c4 q') fp'
  refine⟨.ref s.heap.objs.size,_,I2,rfl,⟨_,x,y,rfl,hT,rfl,λzs hz=>by rw[SqB.inj I hz qx];exact ex,λzs hz=>by rw[SqB.inj I hz qy];exact ey⟩,⟨z2,?_,⟨ux,uy,?_⟩,bJ y4 λo e=>(sb'.2 j1 D.i1z).trans e,bJ y5 λo e=>(sb'.2 j2 D.i2z).trans e⟩,λe he=>(fp' e he).1⟩
  .exact (sb'.2 p D.TIz).trans (hk p _ D.TIz D.TITO D.TIi1 D.TIi2 s2)
  .exact (sb'.2 q D.TOz).trans y3
 done:=by
  intro X hP hw hK hc i pins s σ H E I hf st hg;subst hP hw hK;obtain⟨xs,ys,qx,qy,en⟩:=hg;obtain⟨s1,s2,⟨u,v,s3⟩,s4,s5⟩:=st;obtain⟨ix,rx,lx⟩:=i9 I qx;obtain⟨iy,ry,ly⟩:=i9 I qy;have hTy:s.TypeIs (.ref z) "zip":=⟨_,s1,rfl⟩;have en':ix.toArray[i]?=none\/iy.toArray[i]?=none:=by
   rcases en with e |e
   .left;rw[RH] at e;simp;rw[<- rx.length];exact e
   .right;rw[RH] at e;simp;rw[<- ry.length];exact e
  unfold pyNext;refine l_ (S0 (RQ (name:=Str.ofString "__next__") hTy Te (SD Te hTy F.entry_zip_next (DN (I.ok.hd hc) D s1 s2 s3 s4 s5 lx ly en' λh' e hk ⟨o,ho,co⟩=>?_) (F.args_zip_next_1 _))));refine l_ (wpAny_isInstance (T:="StopIteration") (b:=true) ⟨o,ho,co⟩ isSubtype_stop (x_ ⟨rfl,?_⟩));exact Inv.turnedL (ch:=[z,p,q,j1,j2]) (t':=s.toks) I (λe o he qe=>hk e o (λw=>he (by simp [w])) (λw=>he (by simp [w])) (λw=>he (by simp [w])) (λw=>he (by simp [w])) qe) hf
 self:=λ_ _ _ _ _ st h=>wpAny_pyIter_zip st.1 h
def AK:bootBuiltins "zip"=some (.type "zip"):=by decide
def JS(hg:Gl X "zip")(hm:X.mg "zip"=none)(ha:PA X [l,m] tl)(hs:starEach [l,m] X.env=[(false,eval l X.env),(false,eval m X.env)])(hs2:starEach [m] X.env=[(false,eval m X.env)]):
 PI X (.Tuple elts x1 tp) (.Call (.Name "zip" p) [l,m] [] pos) (λσ H R=>tl σ H λvs H1=>∃(b c:Bool) (a d:Addr) (xs ys:List V),vs=[.ref a,.ref d]/\SqB X.K b H1 a xs/\SqB X.K c H1 d ys/\R (ItZ X.K b c a d) H1):=by
 intro pins s σ H R I h;refine Call_ (cU I hg hm AK (QT (thn (ha pos pins s σ H _ I h) λus s1 ⟨vs,H1,I1,r1,q1⟩=>?_) (by rw[hs,hs2]) (by rw[hs2];rfl)));obtain⟨b,c,a,d,xs,ys,e,qx,qy,q⟩:=q1;subst e;cases r1 with
 |
  cons r rr=>
  cases rr with
  |
   cons r' rr=>
   cases rr;cases r;cases r';obtain⟨ix,rx,lx⟩:=i9 I1 qx;obtain⟨iy,ry,ly⟩:=i9 I1 qy;have la:a<s1.heap.objs.size:=by cases b <;> (obtain⟨o,e,_⟩:=lx;exact y_ e)
   have ld:d<s1.heap.objs.size:=by cases c <;> (obtain⟨o,e,_⟩:=ly;exact y_ e)
   refine zP lx ly λh' y1 y2 y3 y4 y5 hk=>wpAny_pyIter_zip y1 ⟨s1.heap.objs.size+4,[s1.heap.objs.size+4,s1.heap.objs.size+2,s1.heap.objs.size+3,s1.heap.objs.size,s1.heap.objs.size+1],_,_,H1,rfl,I1.kept (t':=s1.toks) λc o z=>hk c o z,Ep b c a d _ _ _ _ _ (W.ktu_apart _ _ _ la ld),⟨y1,y2,⟨_,_,y3⟩,y4,y5⟩,λe he=>?_,q⟩;have hge:s1.heap.objs.size<=e:=by
    simp only[I_,S9,or_false] at he;rcases he with rfl |rfl |rfl |rfl |rfl
    .exact S_ _ _
    .exact S_ _ _
    .exact S_ _ _
    .exact p_ _
    .exact S_ _ _
   exact I1.fpOk hge (I1.hok.fresh hge)
inductive D where
 |non |bl (b:Bool) |int (i:Int) |str (x:Str) |ty (n:String) |glb (x:Str) |exc (x:Str) |tup (xs:List D) |ref (n:Nat) |kl (xs:List D)
 deriving Inhabited
inductive Ob where
 |lst (xs:List D) |fz (xs:List D) |set (xs:List Int) |dct (kvs:List (Key×D)) |any
 deriving Inhabited
abbrev AH:=List Ob
abbrev AE:=List (Option D)
inductive R(α:Type) where
 |ok (a:α) (h:AH) |exc (c:Str) (h:AH) |stuck
inductive SR where
 |nx (ae:AE) (h:AH) |rt (d:D) (h:AH) |bk (ae:AE) (h:AH) |ct (ae:AE) (h:AH) |exc (c:Str) (ae:AE) (h:AH) |stuck
abbrev ME:=AE->AH->R D
abbrev MT:=AE->AH->R Bool
abbrev MA:=AE->AH->R (List D)
abbrev MS:=AE->AH->SR
abbrev Fn:=List D->AH->R D
noncomputable def R.bind{α β:Type}(r:R α)(f:α->AH->R β):R β:=match r with
 |.ok a h=>f a h
 |.exc c h=>.exc c h
 |.stuck=>.stuck
section
variable(K:W.Frag)(mg:Ua)
mutual
inductive RelD(ρ:List Addr)(H:Hp):D->V->Prop where
 |non:RelD ρ H .non .non
 |bl (b:Bool):RelD ρ H (.bl b) (.bl b)
 |int (i:Int):RelD ρ H (.int i) (.int i)
 |str (x:Str):RelD ρ H (.str x) (.str x)
 |ty (n:String):RelD ρ H (.ty n) (.ty n)
 |glb {x:Str}{a:Addr} (m:mg x=some (.ref a)):RelD ρ H (.glb x) (.ref a)
 |exc {x:Str}{a C:Addr} (m:mg x=some (.ref C)) (e:H a=some (.ext (Dc a C))):RelD ρ H (.exc x) (.ref a)
 |tup {p:Addr}{vs:List V}{ds:List D} (h:SqT K H p vs) (r:RelDs ρ H ds vs):RelD ρ H (.tup ds) (.ref p)
 |ref {n:Nat}{a:Addr} (e:ρ[n]?=some a):RelD ρ H (.ref n) (.ref a)
 |kl {a:Addr}{vs:List V}{ds:List D} (h:∃(o:Obj) (its:Array Value) (n:Nat),K.lookup a=some o/\o.cls=.type "list" /\ o.dict=none/\o.data=.seq its n/\its.size<=sizeLine/\Vals vs its.toList) (r:RelDs ρ H ds vs):RelD ρ H (.kl ds) (.ref a)
inductive RelDs(ρ:List Addr)(H:Hp):List D->List V->Prop where
 |nil:RelDs ρ H [] []
 |cons {d:D}{v:V}{ds:List D}{vs:List V} (r:RelD ρ H d v) (rr:RelDs ρ H ds vs):RelDs ρ H (d::ds) (v::vs)
end
structure Le(ρ:List Addr)(H:Hp)(ρ':List Addr)(H':Hp):Prop where
 pre:∀(n:Nat) (a:Addr),ρ[n]?=some a->ρ'[n]?=some a
 tup:∀b xs,H b=some (.tup xs)->H' b=some (.tup xs)
 frz:∀b o u,H b=some (.frz o u)->H' b=some (.frz o u)
 ext:∀b φ,H b=some (.ext φ)->H' b=some (.ext φ)
def ObR(ρ:List Addr)(H:Hp)(a:Addr):Ob->Prop
 |.lst ds=>∃vs,H a=some (.lst vs)/\RelDs K mg ρ H ds vs
 |.fz ds=>∃o vs,H a=some (.frz o (.lst vs))/\RelDs K mg ρ H ds vs
 |.set xs=>xs.Nodup/\H a=some (.set (λi=>decide (i∈xs)) xs.length)
 |.dct kvs=>∃ws,H a=some (.dK ws)/\ws.map (·.1)=kvs.map (·.1)/\RelDs K mg ρ H (kvs.map (·.2)) (ws.map (·.2))
 |.any=>∃o,H a=some o
def jB(c:Addr)(q:Str):Heap->Prop:=λh=>h.CodeRec (.ref c) q
noncomputable def lW:List Str:=["by_falling_weights", "least_around"]
def LamT(P:Addr)(q:Str):Prop:=∃(x:Str) (f:Addr) (oc:Value) (od:Option Addr) (fd:FuncData) (sl:Array (Option Value)) (c:Addr),x∈lW/\(∀y∈lW,y≠x->mg y=none)/\mg x=some (.ref f)/\K.lookup f=some ⟨oc,od,.func fd,sl⟩/\fd.code=.ref c/\W.codeHdIn K c P=true/\q=fd.qualname ++ ".<locals>." ++ "<lambda>"
def TbP(ρ:List Addr)(H:Hp)(P:Addr)(q:Str):Prop:=P∉ρ/\∃ps:Array Value,H P=some (.tbl ps)/\TriplesOk ps.toList/\∀pos cv,codeAmong pos ps.toList=some cv->∃c,cv=.ref c/\H c=some (.ext (jB c q))
def bmP(o:Obj):Prop:=o.cls=.type "module" /\ o.dict=some builtinsNs/\o.data=.plain
def BMok(H:Hp):Prop:=∃b o,mg "__builtins__"=some (.ref b)/\b≠builtinsNs/\b≠mainGlobals/\bmP o/\(K.lookup b=some o\/∃u,H b=some (.frz o u))
structure Wd(ρ:List Addr)(h:AH)(H:Hp):Prop where
 len:ρ.length=h.length
 nd:ρ.Nodup
 tb:∀P q,LamT K mg P q->TbP ρ H P q/\BMok K mg H
 ob:∀(n:Nat) (a:Addr) (o:Ob),ρ[n]?=some a->h[n]?=some o->ObR K mg ρ H a o
structure RelE(ρ:List Addr)(H:Hp)(ae:AE)(σ:St):Prop where
 len:ae.length=σ.length
 at_:∀(i:Nat) (d:D),ae[i]?=some (some d)->∃v,σ[i]?=some (some v)/\RelD K mg ρ H d v
def PostG{α:Type}(ρ:List Addr)(H:Hp)(E:XK)(k:α->AH->List Addr->Hp->Prop):R α->Prop
 |.ok a h=>∀ρ' H',Le ρ H ρ' H'->Wd K mg ρ' h H'->k a h ρ' H'
 |.exc c h=>∀ρ' H' C,Le ρ H ρ' H'->Wd K mg ρ' h H'->mg c=some (.ref C)->E (.ref C) none H'
 |.stuck=>False
abbrev cQ(ρ:List Addr)(H:Hp)(Q:VK)(E:XK)(r:R D):Prop:=PostG K mg ρ H E (λd _ ρ' H'=>∀v,RelD K mg ρ' H' d v->Q v H') r
abbrev EW(ρ:List Addr)(H:Hp)(Q:Bool->Hp->Prop)(E:XK)(r:R Bool):Prop:=PostG K mg ρ H E (λb _ ρ' H'=>Q b H') r
abbrev ET(ρ:List Addr)(H:Hp)(Q:List V->Hp->Prop)(E:XK)(r:R (List D)):Prop:=PostG K mg ρ H E (λd _ ρ' H'=>∀vs,RelDs K mg ρ' H' d vs->Q vs H') r
def PostS(ρ:List Addr)(H:Hp)(D:Ends)(ES:St->XK):SR->Prop
 |.nx ae h=>∀ρ' H' σ',Le ρ H ρ' H'->Wd K mg ρ' h H'->RelE K mg ρ' H' ae σ'->D.nx σ' H'
 |.bk ae h=>∀ρ' H' σ',Le ρ H ρ' H'->Wd K mg ρ' h H'->RelE K mg ρ' H' ae σ'->D.bk σ' H'
 |.ct ae h=>∀ρ' H' σ',Le ρ H ρ' H'->Wd K mg ρ' h H'->RelE K mg ρ' H' ae σ'->D.ct σ' H'
 |.rt d h=>∀ρ' H' v,Le ρ H ρ' H'->Wd K mg ρ' h H'->RelD K mg ρ' H' d v->D.rt v H'
 |.exc c ae h=>∀ρ' H' σ' C,Le ρ H ρ' H'->Wd K mg ρ' h H'->RelE K mg ρ' H' ae σ'->mg c=some (.ref C)->ES σ' (.ref C) none H'
 |.stuck=>False
def rdE(ES:St->XK)(F:ME):TE:=λσ H Q=>∃ρ h ae,Wd K mg ρ h H/\RelE K mg ρ H ae σ/\cQ K mg ρ H Q (ES σ) (F ae h)
def rdT(ES:St->XK)(F:MT):TT:=λσ H Q=>∃ρ h ae,Wd K mg ρ h H/\RelE K mg ρ H ae σ/\EW K mg ρ H Q (ES σ) (F ae h)
def rdA(ES:St->XK)(F:MA):TA:=λσ H Q=>∃ρ h ae,Wd K mg ρ h H/\RelE K mg ρ H ae σ/\ET K mg ρ H Q (ES σ) (F ae h)
def rdS(ES:St->XK)(F:MS):TS:=λD σ H=>∃ρ h ae,Wd K mg ρ h H/\RelE K mg ρ H ae σ/\PostS K mg ρ H D ES (F ae h)
def spD(n:Nat)(S:Fn):Sp:=λvs H Q E=>∃ρ h ds,Wd K mg ρ h H/\RelDs K mg ρ H ds vs/\ds.length=n/\cQ K mg ρ H Q E (S ds h)
end
def rdE.el{K:W.Frag}{mg:Ua}{ES:St->XK}{F:ME}{σ:St}{H:Hp}{Q:VK}{C:Prop}(q:rdE K mg ES F σ H Q)(k:∀ρ h ae,Wd K mg ρ h H->RelE K mg ρ H ae σ->cQ K mg ρ H Q (ES σ) (F ae h)->C):C:=by obtain⟨ρ,h,ae,w,re,p⟩:=q;exact k ρ h ae w re p
def rdT.el{K:W.Frag}{mg:Ua}{ES:St->XK}{F:MT}{σ:St}{H:Hp}{Q:Bool->Hp->Prop}{C:Prop}(q:rdT K mg ES F σ H Q)(k:∀ρ h ae,Wd K mg ρ h H->RelE K mg ρ H ae σ->EW K mg ρ H Q (ES σ) (F ae h)->C):C:=by obtain⟨ρ,h,ae,w,re,p⟩:=q;exact k ρ h ae w re p
def rdA.el{K:W.Frag}{mg:Ua}{ES:St->XK}{F:MA}{σ:St}{H:Hp}{Q:List V->Hp->Prop}{C:Prop}(q:rdA K mg ES F σ H Q)(k:∀ρ h ae,Wd K mg ρ h H->RelE K mg ρ H ae σ->ET K mg ρ H Q (ES σ) (F ae h)->C):C:=by obtain⟨ρ,h,ae,w,re,p⟩:=q;exact k ρ h ae w re p
def rdS.el{K:W.Frag}{mg:Ua}{ES:St->XK}{F:MS}{σ:St}{H:Hp}{De:Ends}{C:Prop}(q:rdS K mg ES F De σ H)(k:∀ρ h ae,Wd K mg ρ h H->RelE K mg ρ H ae σ->PostS K mg ρ H De ES (F ae h)->C):C:=by obtain⟨ρ,h,ae,w,re,p⟩:=q;exact k ρ h ae w re p
section
variable{K:W.Frag}{mg:Ua}{ρ ρ' ρ1:List Addr}{H H' H1:Hp}{h:AH}{ae:AE}{σ:St}
def Le.refl:Le ρ H ρ H:=⟨λ_ _ e=>e,λ_ _ e=>e,λ_ _ _ e=>e,λ_ _ e=>e⟩
def Le.trans(a:Le ρ H ρ1 H1)(b:Le ρ1 H1 ρ' H'):Le ρ H ρ' H':=
 ⟨λn x e=>b.pre n x (a.pre n x e),λx y e=>b.tup x y (a.tup x y e),λx y z e=>b.frz x y z (a.frz x y z e),λx y e=>b.ext x y (a.ext x y e)⟩
def Le.sqT(l:Le ρ H ρ' H')(q:SqT K H a xs):SqT K H' a xs:=by
 rcases q with (q |⟨o,q⟩) |q
 .exact .inl (.inl (l.tup _ _ q))
 .exact .inl (.inr ⟨o,l.frz _ _ _ q⟩)
 .exact .inr q
def RelD.mono(l:Le ρ H ρ' H')(r:RelD K mg ρ H d v):RelD K mg ρ' H' d v:=
 RelD.rec (motive_1:=λd v _=>RelD K mg ρ' H' d v) (motive_2:=λds vs _=>RelDs K mg ρ' H' ds vs) .non (λb=>.bl b) (λi=>.int i) (λx=>.str x) (λn=>.ty n) (λm=>.glb m) (λm e=>.exc m (l.ext _ _ e)) (λh _ ih=>.tup (l.sqT h) ih) (λe=>.ref (l.pre _ _ e)) (λh _ ih=>.kl h ih) .nil (λ_ _ a b=>.cons a b) r
def RelDs.ind{M:List D->List V->Prop}(h0:M [] [])(h1:∀{d v ds vs},RelD K mg ρ H d v->RelDs K mg ρ H ds vs->M ds vs->M (d::ds) (v::vs)){ds:List D}{vs:List V}(r:RelDs K mg ρ H ds vs):M ds vs:=by
 induction ds generalizing vs with
 |nil=>cases r;exact h0
 |
  cons d ds ih=>
  cases r with
  |cons r rr=>exact h1 r rr (ih rr)
def RelDs.mono(l:Le ρ H ρ' H'){ds:List D}{vs:List V}(r:RelDs K mg ρ H ds vs):RelDs K mg ρ' H' ds vs:=r.ind .nil λr _ ih=>.cons (r.mono l) ih
def RelDs.len{ds:List D}{vs:List V}(r:RelDs K mg ρ H ds vs):ds.length=vs.length:=r.ind (M:=λds vs=>ds.length=vs.length) rfl λ_ _ ih=>QW (· + 1) ih
def RelDs.getD{ds:List D}{vs:List V}{i:Nat}{d:D}(r:RelDs K mg ρ H ds vs)(e:ds[i]?=some d):∃v,vs[i]?=some v/\RelD K mg ρ H d v:=
 r.ind (M:=λds vs=>∀i,ds[i]?=some d->∃v,vs[i]?=some v/\RelD K mg ρ H d v) (λ_ e=>by rw[List.getElem?_nil] at e;cases e) (λr _ ih i e=>match i,e with
  |0,e=>by cases e;exact⟨_,rfl,r⟩
  |i+1,e=>ih i e) i e
def RelDs.append{ds es:List D}{vs ws:List V}(r:RelDs K mg ρ H ds vs)(q:RelDs K mg ρ H es ws):RelDs K mg ρ H (ds++es) (vs++ws):=r.ind (M:=λds vs=>RelDs K mg ρ H (ds++es) (vs++ws)) q λr _ ih=>.cons r ih
def RelDs.take{ds:List D}{vs:List V}(n:Nat)(r:RelDs K mg ρ H ds vs):RelDs K mg ρ H (ds.take n) (vs.take n):=
 r.ind (M:=λds vs=>∀n:Nat,RelDs K mg ρ H (ds.take n) (vs.take n)) (λn=>by rw[Sf,Sf];exact .nil) (λr _ ih n=>by cases n with |zero=>exact .nil |succ n=>exact .cons r (ih n)) n
def RelDs.drop{ds:List D}{vs:List V}(n:Nat)(r:RelDs K mg ρ H ds vs):RelDs K mg ρ H (ds.drop n) (vs.drop n):=
 r.ind (M:=λds vs=>∀n:Nat,RelDs K mg ρ H (ds.drop n) (vs.drop n)) (λn=>by rw[SG,SG];exact .nil) (λr rr ih n=>by cases n with |zero=>exact .cons r rr |succ n=>exact ih n) n
def RelDs.set{d:D}{v:V}(r:RelD K mg ρ H d v){ds:List D}{vs:List V}(i:Nat)(q:RelDs K mg ρ H ds vs):RelDs K mg ρ H (ds.set i d) (vs.set i v):=
 q.ind (M:=λds vs=>∀i:Nat,RelDs K mg ρ H (ds.set i d) (vs.set i v)) (λ_=>.nil) (λq qq ih i=>by cases i with |zero=>exact .cons r qq |succ i=>exact .cons q (ih i)) i
def RelDs.ints:∀{ns:List Int}{vs:List V},RelDs K mg ρ H (ns.map D.int) vs->vs=ns.map V.int:=by
 intro ns;induction ns with
 |nil=>intro vs r;cases r;rfl
 |
  cons n ns ih=>
  intro vs r;cases r with
  |cons r rr=>cases r;rw[ih rr];rfl
def RelDs.bls:∀{ns:List Bool}{vs:List V},RelDs K mg ρ H (ns.map D.bl) vs->vs=ns.map V.bl:=by
 intro ns;induction ns with
 |nil=>intro vs r;cases r;rfl
 |
  cons n ns ih=>
  intro vs r;cases r with
  |cons r rr=>cases r;rw[ih rr];rfl
def RelE.mono(l:Le ρ H ρ' H')(r:RelE K mg ρ H ae σ):RelE K mg ρ' H' ae σ:=⟨r.len,λi d e=>by obtain⟨v,h1,h2⟩:=r.at_ i d e;exact⟨v,h1,h2.mono l⟩⟩
def RelE.set(i:Nat)(r:RelE K mg ρ H ae σ)(q:RelD K mg ρ H d v):RelE K mg ρ H (ae.set i (some d)) (σ.set i (some v)):=⟨by rw[QG,QG];exact r.len,λj d' e=>by
 rw[SU] at e ⊢;by_cases hij:i=j
 .rw[if_pos hij] at e ⊢;by_cases hi:i<ae.length
  .rw[if_pos hi] at e;cases e;rw[if_pos (by rw[<- r.len];exact hi)];exact⟨v,rfl,q⟩
  .rw[if_neg hi] at e;cases e
 .rw[if_neg hij] at e ⊢;exact r.at_ j d' e⟩
def ObR.mono(l:Le ρ H ρ' H')(e:H' a=H a)(q:ObR K mg ρ H a o):ObR K mg ρ' H' a o:=by
 cases o with
 |lst ds=>obtain⟨vs,h1,h2⟩:=q;exact⟨vs,e.trans h1,h2.mono l⟩
 |fz ds=>obtain⟨o,vs,h1,h2⟩:=q;exact⟨o,vs,e.trans h1,h2.mono l⟩
 |set xs=>exact⟨q.1,e.trans q.2⟩
 |dct kvs=>obtain⟨ws,h1,h2,h3⟩:=q;exact⟨ws,e.trans h1,h2,h3.mono l⟩
 |any=>obtain⟨o,h1⟩:=q;exact⟨o,e.trans h1⟩
def ObR.there(q:ObR K mg ρ H a o):∃u,H a=some u:=by
 cases o with
 |lst ds=>obtain⟨vs,h1,_⟩:=q;exact⟨_,h1⟩
 |fz ds=>obtain⟨o,vs,h1,_⟩:=q;exact⟨_,h1⟩
 |set xs=>exact⟨_,q.2⟩
 |dct kvs=>obtain⟨ws,h1,_⟩:=q;exact⟨_,h1⟩
 |any=>exact q
def Wd.fresh(w:Wd K mg ρ h H)(hp:H p=none):p∉ρ:=λhm=>by
 obtain⟨n,hn⟩:=List.getElem?_of_mem hm;have hl:n<h.length:=by rw[<- w.len];exact (s_.mp hn).1
 obtain⟨u,hu⟩:=(w.ob n p h[n] hn (w_ hl)).there;rw[hp] at hu;cases hu
def TbP.up{P:Addr}{q:Str}(t:TbP ρ H P q)(hp:H p=none):TbP ρ (upd H p u) P q:=by obtain⟨a,ps,b,c,d⟩:=t;refine⟨a,ps,by rw[ax (aL b hp)];exact b,c,λpos cv e=>?_⟩;obtain⟨x,e1,e2⟩:=d pos cv e;exact⟨x,e1,by rw[ax (aL e2 hp)];exact e2⟩
def TbP.rho{P:Addr}{q:Str}(t:TbP ρ H P q)(h:P∉ρ'):TbP ρ' H P q:=⟨h,t.2⟩
def TbP.more{P:Addr}{q:Str}(t:TbP ρ H P q)(hp:H p=none):TbP (ρ++[p]) (upd H p u) P q:=by
 obtain⟨ps,b,_⟩:=t.2;refine (t.up hp).rho λz=>?_;rcases RL.mp z with z |z
 .exact t.1 z
 .rw[Q6] at z;subst z;rw[hp] at b;cases b
def TbP.wr{P:Addr}{q:Str}{a:Addr}{o u:HO}(t:TbP ρ H P q)(ha:a∈ρ)(e:H a=some u)(hu:∀φ,u ≠ .ext φ):TbP ρ (upd H a o) P q:=by
 obtain⟨z,ps,b,c,d⟩:=t;refine⟨z,ps,by rw[ax (λw=>z (by rw[w];exact ha))];exact b,c,λpos cv y=>?_⟩;obtain⟨x,e1,e2⟩:=d pos cv y;refine⟨x,e1,?_⟩;rw[ax]
 .exact e2
 .intro w;subst w;rw[e] at e2;exact hu _ (J_ e2)
def cK(hp:H p=none):Le ρ H ρ (upd H p o):=
 ⟨λ_ _ e=>e,λb xs e=>by rw[ax (aL e hp)];exact e,λb xs u e=>by rw[ax (aL e hp)];exact e,λb xs e=>by rw[ax (aL e hp)];exact e⟩
def BMok.le(b:BMok K mg H)(l:Le ρ H ρ' H'):BMok K mg H':=by
 obtain⟨x,o,h1,h2,h3,h4,h5⟩:=b;refine⟨x,o,h1,h2,h3,h4,?_⟩;rcases h5 with z |⟨u,z⟩
 .exact .inl z
 .exact .inr ⟨u,l.frz _ _ _ z⟩
def lb:Le ρ H (ρ++m) H:=
 ⟨λn a e=>by rw[M_ (s_.mp e).1];exact e,λ_ _ e=>e,λ_ _ _ e=>e,λ_ _ e=>e⟩
def Wd.alloc(w:Wd K mg ρ h H)(hp:H p=none)(hn:ObR K mg (ρ++[p]) (upd H p u) p o):Wd K mg (ρ++[p]) (h++[o]) (upd H p u):=by
 refine⟨by rw[D_,D_,w.len];rfl,?_,λP q l=>⟨(w.tb P q l).1.more hp,(w.tb P q l).2.le (ρ:=ρ) (cK hp)⟩,λn a ob e1 e2=>?_⟩
 .rw[List.nodup_append];exact⟨w.nd,by simp,λa ha b hb=>by rw[Q6] at hb;subst hb;intro z;subst z;exact w.fresh hp ha⟩
 .by_cases hl:n<ρ.length
  .rw[M_ hl] at e1;rw[M_ (by rw[<- w.len];exact hl)] at e2;have q:=w.ob n a ob e1 e2;obtain⟨v,hv⟩:=q.there;exact q.mono ((cK hp).trans lb) (ax (aL hv hp))
  .have h1:n=ρ.length:=by
    have:=(s_.mp e1).1
    rw[D_] at this;simp at this;omega
   subst h1;rw[QM (p_ _),SA] at e1;rw[w.len,QM (p_ _),SA] at e2;simp at e1 e2;subst e1 e2;exact hn
def Wd.tuple(w:Wd K mg ρ h H)(hp:H p=none):Wd K mg ρ h (upd H p u):=
 ⟨w.len,w.nd,λP q l=>⟨(w.tb P q l).1.up hp,(w.tb P q l).2.le (ρ:=ρ) (cK hp)⟩,λn a ob e1 e2=>by have q:=w.ob n a ob e1 e2;obtain⟨v,hv⟩:=q.there;exact q.mono (cK hp) (ax (aL hv hp))⟩
def kO(e:H a=some u)(hu:(∀xs,u ≠ .tup xs)/\(∀x y,u ≠ .frz x y)/\∀φ,u ≠ .ext φ):Le ρ H ρ (upd H a o):=by refine⟨λ_ _ e=>e,λb xs q=>?_,λb x y q=>?_,λb φ q=>?_⟩ <;> rw[ax] <;> (try exact q) <;> (intro z;subst z;rw[e] at q;have:=J_ q;first |exact hu.1 _ this |exact hu.2.1 _ _ this |exact hu.2.2 _ this)
def Wd.write{n:Nat}{a:Addr}{o u:HO}{ob:Ob}(w:Wd K mg ρ h H)(ea:ρ[n]?=some a)(e:H a=some u)(hu:(∀xs,u ≠ .tup xs)/\(∀x y,u ≠ .frz x y)/\∀φ,u ≠ .ext φ)
 (hn:ObR K mg ρ (upd H a o) a ob):Wd K mg ρ (h.set n ob) (upd H a o):=by
 refine⟨by rw[QG];exact w.len,w.nd,λP q l=>⟨(w.tb P q l).1.wr (RN ea) e hu.2.2,(w.tb P q l).2.le (ρ:=ρ) (kO e hu)⟩,λm b ob' e1 e2=>?_⟩;rw[SU] at e2;by_cases hm:n=m
 .subst hm;rw[ea] at e1;cases e1;rw[if_pos rfl] at e2;split at e2
  .cases e2;exact hn
  .cases e2
 .rw[if_neg hm] at e2;have q:=w.ob m b ob' e1 e2;refine q.mono (kO e hu) (ax λz=>hm ?_);subst z;have h1:=(s_.mp e1);have h2:=(s_.mp ea);exact (List.getElem_inj (h₀:=h2.1) (h₁:=h1.1) w.nd).mp (h2.2.trans h1.2.symm)
def qR:(∀xs,HO.lst vs ≠ .tup xs)/\(∀x y,HO.lst vs ≠ .frz x y)/\∀φ,HO.lst vs ≠ .ext φ:=⟨λ_ z=>(nomatch z),λ_ _ z=>(nomatch z),λ_ z=>(nomatch z)⟩
def Fh:(∀xs,HO.set S n ≠ .tup xs)/\(∀x y,HO.set S n ≠ .frz x y)/\∀φ,HO.set S n ≠ .ext φ:=⟨λ_ z=>(nomatch z),λ_ _ z=>(nomatch z),λ_ z=>(nomatch z)⟩
def dKNo:(∀xs,HO.dK ws ≠ .tup xs)/\(∀x y,HO.dK ws ≠ .frz x y)/\∀φ,HO.dK ws ≠ .ext φ:=⟨λ_ z=>(nomatch z),λ_ _ z=>(nomatch z),λ_ z=>(nomatch z)⟩
def PostG.mono(l:Le ρ H ρ' H')(p:PostG K mg ρ H E k r):PostG K mg ρ' H' E k r:=by
 cases r with
 |ok d h=>exact λρ2 H2 l2=>p ρ2 H2 (l.trans l2)
 |exc c h=>exact λρ2 H2 C l2=>p ρ2 H2 C (l.trans l2)
 |stuck=>exact p
def PostG.imp(p:PostG K mg ρ H E k r)(i:∀a h1 ρ' H',Le ρ H ρ' H'->Wd K mg ρ' h1 H'->k a h1 ρ' H'->k' a h1 ρ' H'):PostG K mg ρ H E k' r:=by
 cases r with
 |ok d h=>exact λρ2 H2 l2 w2=>i _ _ _ _ l2 w2 (p ρ2 H2 l2 w2)
 |exc c h=>exact p
 |stuck=>exact p
def PostG.bind(p:PostG K mg ρ H E k (r.bind f)):PostG K mg ρ H E (λa h1 ρ' H'=>PostG K mg ρ' H' E k (f a h1)) r:=by
 cases r with
 |ok d h=>exact λρ2 H2 l2 w2=>PostG.mono l2 p
 |exc c h=>exact p
 |stuck=>exact p
def PostS.mono(l:Le ρ H ρ' H')(p:PostS K mg ρ H De ES r):PostS K mg ρ' H' De ES r:=by
 cases r with
 |nx ae h=>exact λρ2 H2 σ l2=>p ρ2 H2 σ (l.trans l2)
 |bk ae h=>exact λρ2 H2 σ l2=>p ρ2 H2 σ (l.trans l2)
 |ct ae h=>exact λρ2 H2 σ l2=>p ρ2 H2 σ (l.trans l2)
 |rt d h=>exact λρ2 H2 v l2=>p ρ2 H2 v (l.trans l2)
 |exc c ae h=>exact λρ2 H2 σ C l2=>p ρ2 H2 σ C (l.trans l2)
 |stuck=>exact p
end
section
variable{X:Cx}{e:Expr}{es:List Expr}{st:Stmt}{sts:List Stmt}
def PE.imp(h:PE X e t)(k:∀σ H Q,t' σ H Q->t σ H Q):PE X e t':=λpins s σ H Q I w=>h pins s σ H Q I (k σ H Q w)
def PT.imp(h:PT X e t)(k:∀σ H Q,t' σ H Q->t σ H Q):PT X e t':=λpins s σ H Q I w=>h pins s σ H Q I (k σ H Q w)
def PW.imp(h:PW X e t)(k:∀σ H Q,t' σ H Q->t σ H Q):PW X e t':=λwh pins s σ H Q I w=>h wh pins s σ H Q I (k σ H Q w)
def PA.imp(h:PA X es t)(k:∀σ H Q,t' σ H Q->t σ H Q):PA X es t':=λpos pins s σ H Q I w=>h pos pins s σ H Q I (k σ H Q w)
def PS.imp(h:PS X st t)(k:∀D σ H,t' D σ H->t D σ H):PS X st t':=λpins s σ H D I w=>h pins s σ H D I (k D σ H w)
def PSs.imp(h:PSs X sts t)(k:∀D σ H,t' D σ H->t D σ H):PSs X sts t':=λpins s σ H D I w=>h pins s σ H D I (k D σ H w)
def PG.imp(h:PG X e t)(k:∀v σ H Q,t' v σ H Q->t v σ H Q):PG X e t':=λpins s σ H v u Q I r w=>h pins s σ H v u Q I r (k v σ H Q w)
def PGs.imp(h:PGs X es t)(k:∀v σ H Q,t' v σ H Q->t v σ H Q):PGs X es t':=λpins s σ H v u Q I r w=>h pins s σ H v u Q I r (k v σ H Q w)
def PO.imp(h:PO X o t)(k:∀σ H Q,t' σ H Q->t σ H Q):PO X o t':=λpins s σ H Q I w=>h pins s σ H Q I (k σ H Q w)
end
section
variable(K:W.Frag)(mg:Ua)(X:Cx)(ES:St->XK)
def DE(e:Expr)(F:ME):Prop:=PE X e (rdE K mg ES F)
def DT(e:Expr)(F:MT):Prop:=PT X e (rdT K mg ES F)
def DW(e:Expr)(F:MT):Prop:=PW X e (rdT K mg ES F)
def DA(es:List Expr)(F:MA):Prop:=PA X es (rdA K mg ES F)
def DS(st:Stmt)(F:MS):Prop:=PS X st (rdS K mg ES F)
def DSs(st:List Stmt)(F:MS):Prop:=PSs X st (rdS K mg ES F)
end
def OpD(K:W.Frag)(mg:Ua)(r:R2)(g:D->D->AH->R D):Prop:=∀ρ h H dx dy x y Q E,Wd K mg ρ h H->RelD K mg ρ H dx x->RelD K mg ρ H dy y->cQ K mg ρ H Q E (g dx dy h)->r x y H Q
def UnD(K:W.Frag)(mg:Ua)(r:V->Hp->VK->Prop)(g:D->AH->R D):Prop:=∀ρ h H dx x Q E,Wd K mg ρ h H->RelD K mg ρ H dx x->cQ K mg ρ H Q E (g dx h)->r x H Q
def aV(K:W.Frag)(mg:Ua)(r:List V->Hp->VK->Prop)(g:Fn):Prop:=∀ρ h H ds vs Q E,Wd K mg ρ h H->RelDs K mg ρ H ds vs->cQ K mg ρ H Q E (g ds h)->r vs H Q
noncomputable def bo(i:Nat):ME:=λae h=>match ae[i]? with
 |some (some d)=>.ok d h
 |_=>.stuck
noncomputable def eC(d:D):ME:=λ_ h=>.ok d h
noncomputable def eOp(g:D->D->AH->R D)(F G:ME):ME:=λae h=>(F ae h).bind λx h1=>(G ae h1).bind λy h2=>g x y h2
def eUn(g:D->AH->R D)(F:ME):ME:=λae h=>(F ae h).bind g
def j9:MA:=λ_ h=>.ok [] h
noncomputable def jD(F:ME)(G:MA):MA:=λae h=>(F ae h).bind λx h1=>(G ae h1).bind λxs h2=>.ok (x::xs) h2
def eFn(g:Fn)(A:MA):ME:=λae h=>(A ae h).bind g
noncomputable def nj(ds:List D)(h:AH):R D:=if ds.length<=16777216 then .ok (.tup ds) h else .stuck
noncomputable def dP(ds:List D)(h:AH):R D:=if ds.length<=16777216 then .ok (.ref h.length) (h++[.lst ds]) else .stuck
noncomputable def asB(d:D)(h:AH):R Bool:=match d with
 |.bl b=>.ok b h
 |_=>.stuck
noncomputable def Co(F G:ME):ME:=λae h=>(F ae h).bind λx h1=>(asB x h1).bind λb h2=>if b=true then G ae h2 else .ok (.bl false) h2
noncomputable def BN(F:ME):ME:=λae h=>(F ae h).bind λx h1=>(asB x h1).bind λb h2=>.ok (.bl (!b)) h2
def tOf(F:ME):MT:=λae h=>(F ae h).bind asB
noncomputable def tAn(c d:MT):MT:=λae h=>(c ae h).bind λb h1=>if b=true then d ae h1 else .ok false h1
noncomputable def tO(c d:MT):MT:=λae h=>(c ae h).bind λb h1=>if b=true then .ok true h1 else d ae h1
noncomputable def tNo(c:MT):MT:=λae h=>(c ae h).bind λb h1=>.ok (!b) h1
section
variable{K:W.Frag}{mg:Ua}{ρ:List Addr}{H:Hp}{h:AH}
def eY(w:Wd K mg ρ h H)(rs:RelDs K mg ρ H ds vs)(hp:H p=none)(q:cQ K mg ρ H Q E (.ok (.ref h.length) (h++[.lst ds]))):Q (.ref p) (upd H p (.lst vs)):=by have l:Le ρ H (ρ++[p]) (upd H p (.lst vs)):=(cK hp).trans lb;refine q (ρ++[p]) _ l (w.alloc hp ⟨vs,aW,rs.mono l⟩) _ (.ref ?_);rw[<- w.len,QM (p_ _),SA];rfl
def gZ(w:Wd K mg ρ h H)(rs:RelDs K mg ρ H ds vs)(hp:H p=none)(q:cQ K mg ρ H Q E (.ok (.tup ds) h)):Q (.ref p) (upd H p (.tup vs)):=
 q ρ _ (cK hp) (w.tuple hp) _ (.tup (SqT.of aW) (rs.mono (cK hp)))
def az(w:Wd K mg ρ h H)(r:RelD K mg ρ H d v)(q:cQ K mg ρ H Q E (.ok d h)):Q v H:=q ρ H Le.refl w v r
end
section
variable{K:W.Frag}{mg:Ua}{X:Cx}{ES:St->XK}{e a b:Expr}{es:List Expr}{F G:ME}{A:MA}{cf cg:MT}{pos:Pos}
def Je(i:Nat)(hN:X.N[i]?=some x)(hv:Vis X.env.scope x)(hd:(x==("__debug__" : Str))=false)
 (kw:(x==("__classdict__" : Str))=false):DE K mg X ES (.Name x pos) (bo i):=PE.imp (JJ hN hv hd kw) λσ H Q q_=>q_.el λρ h ae w re p=>by
 unfold bo at p;split at p
 .rename_i d ed;obtain⟨v,e1,r⟩:=re.at_ i d ed;exact⟨v,e1,az w r p⟩
 .exact p.elim
def oK(hp:PE X e (tC v))(r:∀ρ H,RelD K mg ρ H d v):DE K mg X ES e (eC d):=PE.imp hp λσ H Q q_=>q_.el λρ h ae w re p=>az w (r ρ H) p
def LG:DE K mg X ES (.Constant (.int i) j pos) (eC (.int i)):=oK Kn λ_ _=>.int i
def Pd:DE K mg X ES (.Constant (.bool i) j pos) (eC (.bl i)):=oK QD λ_ _=>.bl i
def LX:DE K mg X ES (.Constant (.str x) j pos) (eC (.str x)):=oK Jc λ_ _=>.str x
def Kb(hg:Gl X x)(ha:∃a,mg x=some (.ref a))(hm:X.mg=mg)(hd:(x==("__debug__" : Str))=false):DE K mg X ES (.Name x pos) (eC (.glb x)):=by subst hm;obtain⟨a,ha⟩:=ha;exact oK (vV hg ha (v:=.ref a) rfl hd) λ_ _=>.glb ha
structure GC(K:W.Frag)(mg:Ua)(x:Str)(d:D):Prop where
 ex:∃u v,mg x=some u/\RelV v u/\∀ρ H,RelD K mg ρ H d v
def PV(hg:Gl X x)(ha:GC K mg x d)(hm:X.mg=mg)(hd:(x==("__debug__" : Str))=false):DE K mg X ES (.Name x pos) (eC d):=by subst hm;obtain⟨u,v,h1,h2,h3⟩:=ha.ex;exact oK (vV hg h1 h2 hd) h3
def P8(hg:Gl X x)(hm:mg x=none)(hv:bootBuiltins x=some (.type n))(he:X.mg=mg)(hn:x ≠ "__name__")(hd:(x==("__debug__" : Str))=false):DE K mg X ES (.Name x pos) (eC (.ty n)):=by subst he;exact oK (GU hg hm hv (v:=.ty n) rfl hn hd) λ_ _=>.ty n
def rh(hd:OpD K mg r g)(σ:St)(H:Hp)(Q:VK)(q:rdE K mg ES (eOp g F G) σ H Q):tOp r (rdE K mg ES F) (rdE K mg ES G) σ H Q:=by obtain⟨ρ,h,ae,w,re,p⟩:=q;exact⟨ρ,h,ae,w,re,p.bind.imp λdx h1 ρ1 H1 l1 w1 p1 x rx=>⟨ρ1,h1,ae,w1,re.mono l1,p1.bind.imp λdy h2 ρ2 H2 l2 w2 p2 y ry=>hd ρ2 h2 H2 dx dy x y Q _ w2 (rx.mono l2) ry p2⟩⟩
def NO(ho:OpR X (binaryOp op) r)(hd:OpD K mg r g)(ha:DE K mg X ES a F)(hb:DE K mg X ES b G):DE K mg X ES (.BinOp a op b pos) (eOp g F G):=PE.imp (NR ho ha hb) (rh hd)
def NN(hr:IxR X r)(hd:OpD K mg r g)(ha:DE K mg X ES a F)(hb:DE K mg X ES b G)(hs:nY b):DE K mg X ES (.Subscript a b pos) (eOp g F G):=PE.imp (Qo hr ha hb hs) (rh hd)
def Lp(ho:OpR X (compareOp op) r)(hd:OpD K mg r g)(ha:DE K mg X ES a F)(hb:DE K mg X ES b G)(hm:behindInMarks op b=false):DE K mg X ES (.Compare a [op] [b] pos) (eOp g F G):=PE.imp (F1 ho ha hb hm) (rh hd)
def vw(σ:St)(H:Hp)(Q:Bool->Hp->Prop)(q:rdT K mg ES (tOf F) σ H Q):rdE K mg ES F σ H λx H'=>∃k,x=.bl k/\Q k H':=by
 obtain⟨ρ,h,ae,w,re,p⟩:=q;refine⟨ρ,h,ae,w,re,p.bind.imp λd h1 ρ1 H1 l1 w1 p1 x rx=>?_⟩;unfold asB at p1;split at p1
 .cases rx;exact⟨_,rfl,p1 ρ1 H1 Le.refl w1⟩
 .exact p1.elim
def MZ(ho:OpR X (compareOp op) r)(hd:OpD K mg r g)(ha:DE K mg X ES a F)(hb:DE K mg X ES b G)(hm:behindInMarks op b=false):DT K mg X ES (.Compare a [op] [b] pos) (tOf (eOp g F G)):=
 PT.imp (Gs ho ha hb hm) λσ H Q q=>rh hd σ H _ (vw σ H Q q)
def KJ(ha:DE K mg X ES a F)(he:∀db,isTrue a X.env db=(do let v <- db;standAt a.pos;holding [v] (truthy v))):DT K mg X ES a (tOf F):=
 PT.imp (JD ha he) λσ H Q q=>vw σ H Q q
def K6(ha:DT K mg X ES a cf):DT K mg X ES (.UnaryOp .Not a pos) (tNo cf):=PT.imp (M1 ha) λσ H Q q_=>q_.el λρ h ae w re p=>
 ⟨ρ,h,ae,w,re,p.bind.imp λb h1 ρ1 H1 l1 w1 p1=>p1 ρ1 H1 Le.refl w1⟩
def FX(ha:DT K mg X ES a cf):DW K mg X ES (.BoolOp .And [a] pos) cf:=Iv ha
def Kp(ha:DT K mg X ES a cf):DW K mg X ES (.BoolOp .Or [a] pos) cf:=Jk ha
def L5(ha:DT K mg X ES a cf)(hb:DW K mg X ES (.BoolOp .And (b::es) pos) cg):DW K mg X ES (.BoolOp .And (a::b::es) pos) (tAn cf cg):=PW.imp (Kh ha hb) λσ H Q q_=>q_.el λρ h ae w re p=>
 ⟨ρ,h,ae,w,re,p.bind.imp λb h1 ρ1 H1 l1 w1 p1=>by
  cases b with
  |true=>exact⟨ρ1,h1,ae,w1,re.mono l1,p1⟩
  |false=>exact p1 ρ1 H1 Le.refl w1⟩
def OJ(ha:DT K mg X ES a cf)(hb:DW K mg X ES (.BoolOp .Or (b::es) pos) cg):DW K mg X ES (.BoolOp .Or (a::b::es) pos) (tO cf cg):=PW.imp (Qt ha hb) λσ H Q q_=>q_.el λρ h ae w re p=>
 ⟨ρ,h,ae,w,re,p.bind.imp λb h1 ρ1 H1 l1 w1 p1=>by
  cases b with
  |true=>exact p1 ρ1 H1 Le.refl w1
  |false=>exact⟨ρ1,h1,ae,w1,re.mono l1,p1⟩⟩
def DW.dt(h:DW K mg X ES a cf):DT K mg X ES a cf:=PW.pt h
def Na{op}(h:DE K mg X ES a F):DE K mg X ES (.BoolOp op [a] pos) F:=LP h
def JT(ha:DE K mg X ES a F)(hb:DE K mg X ES (.BoolOp .And (b::es) pos) G):DE K mg X ES (.BoolOp .And (a::b::es) pos) (Co F G):=PE.imp (LU ha hb) λσ H Q q_=>q_.el λρ h ae w re p=>by
 refine⟨ρ,h,ae,w,re,p.bind.imp λd h1 ρ1 H1 l1 w1 p1 x rx=>?_⟩;unfold asB at p1;split at p1
 .rename_i b';cases rx;refine⟨b',rfl,?_⟩;cases b' with
  |true=>exact⟨ρ1,h1,ae,w1,re.mono l1,p1⟩
  |false=>exact p1 ρ1 H1 Le.refl w1 _ (.bl false)
 .exact p1.elim
def Ki(ha:DE K mg X ES a F):DE K mg X ES (.UnaryOp .Not a pos) (BN F):=PE.imp (Mw ha) λσ H Q q_=>q_.el λρ h ae w re p=>by
 refine⟨ρ,h,ae,w,re,p.bind.imp λd h1 ρ1 H1 l1 w1 p1 x rx=>?_⟩;unfold asB at p1;split at p1
 .cases rx;exact⟨_,rfl,p1 ρ1 H1 Le.refl w1 _ (.bl _)⟩
 .exact p1.elim
def Ot(ho:UnR X (unaryOp op) r)(hd:UnD K mg r g)(ha:DE K mg X ES a F):DE K mg X ES (.UnaryOp op a pos) (eUn g F):=PE.imp (Qr ho ha) λσ H Q q_=>q_.el λρ h ae w re p=>
 ⟨ρ,h,ae,w,re,p.bind.imp λd h1 ρ1 H1 l1 w1 p1 x rx=>hd ρ1 h1 H1 d x Q _ w1 rx p1⟩
def A7:DA K mg X ES [] j9:=PA.imp Nu λσ H Q q_=>q_.el λρ h ae w re p=>p ρ H Le.refl w _ .nil
def wk(ha:DE K mg X ES e F)(hr:DA K mg X ES es A)(hs:starEach (e::es) X.env=(false,eval e X.env)::starEach es X.env):DA K mg X ES (e::es) (jD F A):=PA.imp (Gk ha hr hs) λσ H Q q_=>q_.el λρ h ae w re p=>
 ⟨ρ,h,ae,w,re,p.bind.imp λd h1 ρ1 H1 l1 w1 p1 x rx=>⟨ρ1,h1,ae,w1,re.mono l1,p1.bind.imp λds h2 ρ2 H2 l2 w2 p2 vs rs=>p2 ρ2 H2 Le.refl w2 _ (.cons (rx.mono l2) rs)⟩⟩
def Nf{x1}(h:DA K mg X ES es A):DE K mg X ES (.Tuple es x1 pos) (eFn nj A):=PE.imp (JO h) λσ H Q q_=>q_.el λρ h ae w re p=>
 ⟨ρ,
  h,ae,w,re,p.bind.imp λds h1 ρ1 H1 l1 w1 p1 vs rs=>by
  unfold nj at p1;split at p1
  .rename_i hl;exact⟨by rw[<- rs.len];exact hl,λq hq=>gZ w1 rs hq p1⟩
  .exact p1.elim⟩
def Lx(h:DA K mg X ES es A):DE K mg X ES (.List es pos) (eFn dP A):=PE.imp (Kd h) λσ H Q q_=>q_.el λρ h ae w re p=>
 ⟨ρ,
  h,ae,w,re,p.bind.imp λds h1 ρ1 H1 l1 w1 p1 vs rs=>by
  unfold dP at p1;split at p1
  .rename_i hl;exact⟨by rw[<- rs.len];exact hl,λq hq=>eY w1 rs hq p1⟩
  .exact p1.elim⟩
def yO(hd:aV K mg r g)(σ:St)(H:Hp)(Q:VK)(q:rdE K mg ES (eFn g A) σ H Q):tCB r (rdA K mg ES A) σ H Q:=by obtain⟨ρ,h,ae,w,re,p⟩:=q;exact⟨ρ,h,ae,w,re,p.bind.imp λds h1 ρ1 H1 l1 w1 p1 vs rs=>hd ρ1 h1 H1 ds vs Q _ w1 rs p1⟩
def EK{id:String}{r:List V->Hp->VK->Prop}{g:Fn}{x:Str}{p:Pos}(hc:CallR X (.builtin id) r)(hd:aV K mg r g)(hg:Gl X x)(hm:mg x=none)(hv:bootBuiltins x=some (.builtin id))(ha:DA K mg X ES (e::es) A)(hk:X.mg=mg)(hn:x ≠ "__name__")(hdb:(x==("__debug__" : Str))=false)
 (he:starEach (e::es) X.env=(false,eval e X.env)::starEach es X.env) (hpl:(backTo pos (starEach es X.env)).any (·.1)=false):DE K mg X ES (.Call (.Name x p) (e::es) [] pos) (eFn g A):=by
 subst hk;exact PE.imp (D3 hc hg hm hv ha hn hdb he hpl) (yO hd)
def Bq(hc:CallR X (.type T) r)(hd:aV K mg r g)(hg:Gl X x)(hm:mg x=none)(hv:bootBuiltins x=some (.type T))(ha:DA K mg X ES (e::es) A)(hk:X.mg=mg)(hn:x ≠ "__name__")(hdb:(x==("__debug__" : Str))=false)
 (he:starEach (e::es) X.env=(false,eval e X.env)::starEach es X.env) (hpl:(backTo pos (starEach es X.env)).any (·.1)=false):DE K mg X ES (.Call (.Name x p) (e::es) [] pos) (eFn g A):=by
 subst hk;exact PE.imp (AZ hc hg hm hv ha hn hdb he hpl) (yO hd)
end
def SR.then(r:SR)(f:AE->AH->SR):SR:=match r with
 |.nx ae h=>f ae h
 |.rt d h=>.rt d h
 |.bk ae h=>.bk ae h
 |.ct ae h=>.ct ae h
 |.exc c ae h=>.exc c ae h
 |.stuck=>.stuck
noncomputable def R.toS{α:Type}(r:R α)(ae:AE)(f:α->AH->SR):SR:=match r with
 |.ok a h=>f a h
 |.exc c h=>.exc c ae h
 |.stuck=>.stuck
def sNx:MS:=λae h=>.nx ae h
def sBk:MS:=λae h=>.bk ae h
noncomputable def xD:MS:=λ_ h=>.rt .non h
def CI(F G:MS):MS:=λae h=>(F ae h).then G
noncomputable def El(F:ME):MS:=λae h=>(F ae h).toS ae λd h1=>.rt d h1
noncomputable def xr(F:ME):MS:=λae h=>(F ae h).toS ae λ_ h1=>.nx ae h1
noncomputable def sIf(c:MT)(F G:MS):MS:=λae h=>(c ae h).toS ae λb h1=>if b=true then F ae h1 else G ae h1
abbrev MG:=D->AE->AH->R AE
abbrev MGs:=List D->AE->AH->R AE
noncomputable def iC(F:ME)(g:MG):MS:=λae h=>(F ae h).toS ae λd h1=>(g d ae h1).toS ae λb_ h2=>.nx b_ h2
noncomputable def gN(i:Nat):MG:=λd ae h=>.ok (ae.set i (some d)) h
noncomputable def gsN:MGs:=λds ae h=>match ds with
 | []=>.ok ae h
 |_=>.stuck
noncomputable def gsC(g:MG)(u:MGs):MGs:=λds ae h=>match ds with
 |d::r=>(g d ae h).bind λb_ h'=>u r b_ h'
 | []=>.stuck
noncomputable def gT(u:MGs):MG:=λd ae h=>match d with
 |.tup ds=>u ds ae h
 |_=>.stuck
noncomputable def gS(F G:ME)(w:D->D->D->AH->R Unit):MG:=λv ae h=>(F ae h).bind λo h1=>(G ae h1).bind λi h2=>(w o i v h2).bind λ_ h3=>.ok ae h3
noncomputable def CW(i j:Nat)(A:MA):MS:=λae h=>(A ae h).toS ae λds h1=>match ds with
 | [d,e]=>.nx ((ae.set i (some d)).set j (some e)) h1
 |_=>.stuck
noncomputable def so(i:Nat)(g:D->D->AH->R D)(F:ME):MS:=λae h=>match ae[i]? with
 |some (some x)=>(F ae h).toS ae λy h1=>(g x y h1).toS ae λz h2=>.nx (ae.set i (some z)) h2
 |_=>.stuck
noncomputable def tP(c:Str)(A:MA):MS:=λae h=>(A ae h).toS ae λds h1=>if ds.length<=16777216 then .exc c ae h1 else .stuck
section
variable(K:W.Frag)(mg:Ua)
def rdG(ES:St->XK)(g:MG):TG:=λv σ H Q=>∃ρ h ae d,Wd K mg ρ h H/\RelE K mg ρ H ae σ/\RelD K mg ρ H d v/\PostG K mg ρ H (ES σ) (λb_ _ ρ' H'=>∀σ',RelE K mg ρ' H' b_ σ'->Q σ' H') (g d ae h)
def rdGs(ES:St->XK)(g:MGs):TGs:=λvs σ H Q=>∃ρ h ae ds,Wd K mg ρ h H/\RelE K mg ρ H ae σ/\RelDs K mg ρ H ds vs/\PostG K mg ρ H (ES σ) (λb_ _ ρ' H'=>∀σ',RelE K mg ρ' H' b_ σ'->Q σ' H') (g ds ae h)
def DG(X:Cx)(ES:St->XK)(e:Expr)(g:MG):Prop:=PG X e (rdG K mg ES g)
def DGs(X:Cx)(ES:St->XK)(es:List Expr)(g:MGs):Prop:=PGs X es (rdGs K mg ES g)
def ir(X:Cx)(ES:St->XK):Prop:=∀(pins:Ub) (σ:St) (H:Hp) (s:Shared) (e:Value) (s':Shared),Inv X pins σ H s->CX1 X.prog X.w X.stack H s (ES σ) e s'->X.xe e s'
end
def rdG.el{K:W.Frag}{mg:Ua}{ES:St->XK}{g:MG}{v:V}{σ:St}{H:Hp}{Q:St->Hp->Prop}{C:Prop}(q:rdG K mg ES g v σ H Q)(k:∀ρ h ae d,Wd K mg ρ h H->RelE K mg ρ H ae σ->RelD K mg ρ H d v->PostG K mg ρ H (ES σ) (λb_ _ ρ' H'=>∀σ',RelE K mg ρ' H' b_ σ'->Q σ' H') (g d ae h)->C):C:=by obtain⟨ρ,h,ae,d,w,re,rd,p⟩:=q;exact k ρ h ae d w re rd p
def rdGs.el{K:W.Frag}{mg:Ua}{ES:St->XK}{g:MGs}{v:List V}{σ:St}{H:Hp}{Q:St->Hp->Prop}{C:Prop}(q:rdGs K mg ES g v σ H Q)(k:∀ρ h ae d,Wd K mg ρ h H->RelE K mg ρ H ae σ->RelDs K mg ρ H d v->PostG K mg ρ H (ES σ) (λb_ _ ρ' H'=>∀σ',RelE K mg ρ' H' b_ σ'->Q σ' H') (g d ae h)->C):C:=by obtain⟨ρ,h,ae,d,w,re,rd,p⟩:=q;exact k ρ h ae d w re rd p
section
variable{K:W.Frag}{mg:Ua}{ES:St->XK}{ρ:List Addr}{H:Hp}{h:AH}{ae:AE}{σ:St}{De:Ends}
def bQ(p:PostS K mg ρ H De ES (r.toS ae f))(re:RelE K mg ρ H ae σ)
 (i:∀a h1 ρ1 H1,Le ρ H ρ1 H1->Wd K mg ρ1 h1 H1->RelE K mg ρ1 H1 ae σ->PostS K mg ρ1 H1 De ES (f a h1)->k a h1 ρ1 H1):PostG K mg ρ H (ES σ) k r:=by
 cases r with
 |ok a h1=>exact λρ1 H1 l1 w1=>i a h1 ρ1 H1 l1 w1 (re.mono l1) (PostS.mono l1 p)
 |exc c h1=>exact λρ1 H1 C l1 w1 m=>p ρ1 H1 σ C l1 w1 (re.mono l1) m
 |stuck=>exact p
def gB(p:PostS K mg ρ H De ES (.nx b_ h))(w:Wd K mg ρ h H)(re:RelE K mg ρ H b_ σ):De.nx σ H:=p ρ H σ Le.refl w re
def CN(p:PostS K mg ρ H De ES (r.then f))(i:∀ii h1 ρ1 H1 σ1,Le ρ H ρ1 H1->Wd K mg ρ1 h1 H1->RelE K mg ρ1 H1 ii σ1->PostS K mg ρ1 H1 De ES (f ii h1)->N σ1 H1):PostS K mg ρ H { De with nx:=N } ES r:=by
 cases r with
 |nx ii h1=>exact λρ1 H1 σ1 l1 w1 re1=>i ii h1 ρ1 H1 σ1 l1 w1 re1 (PostS.mono l1 p)
 |rt d h1=>exact p
 |bk ii h1=>exact p
 |ct ii h1=>exact p
 |exc c ii h1=>exact p
 |stuck=>exact p
end
section
variable{K:W.Frag}{mg:Ua}{X:Cx}{ES:St->XK}{e a b c o i:Expr}{es:List Expr}{st:Stmt}{sts sts':List Stmt}{F:ME}{A:MA}{cf:MT}{U V':MS}{g:MG}{gs:MGs}{pos:Pos}
def GD:DSs K mg X ES [] sNx:=PSs.imp GP λD σ H q_=>q_.el λρ h ae w re p=>gB p w re
def G6(h1:DS K mg X ES st U):DSs K mg X ES [st] U:=HG h1
def C6(h1:DS K mg X ES st U)(h2:DSs K mg X ES sts V'):DSs K mg X ES (st::sts) (CI U V'):=PSs.imp (CZ h1 h2) λD σ H q_=>q_.el λρ h ae w re p=>
 ⟨ρ,h,ae,w,re,CN p λii h1 ρ1 H1 σ1 l1 w1 re1 p1=>⟨ρ1,h1,ii,w1,re1,p1⟩⟩
def C3:DS K mg X ES (.Break pos) sBk:=PS.imp CQ λD σ H q_=>q_.el λρ h ae w re p=>p ρ H σ Le.refl w re
def FT:DS K mg X ES (.Return none pos) xD:=PS.imp Ie λD σ H q_=>q_.el λρ h ae w re p=>p ρ H _ Le.refl w .non
def Kt(he:DE K mg X ES e F):DS K mg X ES (.Return (some e) pos) (El F):=PS.imp (J3 he) λD σ H q_=>q_.el λρ h ae w re p=>
 ⟨ρ,h,ae,w,re,bQ p re λd h1 ρ1 H1 l1 w1 re1 p1 v rv=>p1 ρ1 H1 v Le.refl w1 rv⟩
def F6(he:DE K mg X ES e F)(hs:swapsWith e none pos.line X.env=pure false):DS K mg X ES (.Expr e pos) (xr F):=PS.imp (Ih he hs) λD σ H q_=>q_.el λρ h ae w re p=>
 ⟨ρ,h,ae,w,re,bQ p re λd h1 ρ1 H1 l1 w1 re1 p1 v rv=>gB p1 w1 re1⟩
def Ou(hc:DT K mg X ES c cf)(ha:DSs K mg X ES sts U)(hb:DSs K mg X ES sts' V'):DS K mg X ES (.If c sts sts' pos) (sIf cf U V'):=PS.imp (Qn hc ha hb) λD σ H q_=>q_.el λρ h ae w re p=>
 ⟨ρ,h,ae,w,re,bQ p re λb h1 ρ1 H1 l1 w1 re1 p1=>by
  cases b with
  |true=>exact⟨ρ1,h1,ae,w1,re1,p1⟩
  |false=>exact⟨ρ1,h1,ae,w1,re1,p1⟩⟩
def Hz{i:Nat}{x:Str}(hN:X.N.Nodup)(hi:X.N[i]?=some x)(hx:Loc X.env.scope x)(hf:X.fn x=true\/X.env.scope.names.lookup x=some .local):DG K mg X ES (.Name x pos) (gN i):=
 PG.imp (FV hN hi hx hf) λv σ H Q q_=>q_.el λρ h ae d w re rd p=>p ρ H Le.refl w _ (re.set i rd)
def Gp:DGs K mg X ES [] gsN:=PGs.imp FJ λvs σ H Q q_=>q_.el λρ h ae ds w re rd p=>by
 cases rd with
 |nil=>exact⟨rfl,p ρ H Le.refl w _ re⟩
 |cons r rr=>exact p.elim
def Ej(h1:DG K mg X (λ_=>E0) e g)(h2:DGs K mg X (λ_=>E0) es gs)
 (hs:(assignEach (e::es) X.env).map (·.2)=assign e X.env::(assignEach es X.env).map (·.2)):DGs K mg X (λ_=>E0) (e::es) (gsC g gs):=PGs.imp (CY h1 h2 hs) λvs σ H Q q_=>q_.el λρ h ae ds w re rd p=>by
 cases rd with
 |nil=>exact p.elim
 |cons r rr=>exact⟨_,_,rfl,ρ,h,ae,_,w,re,r,p.bind.imp λii h1 ρ1 H1 l1 w1 p1 σ1 re1=>⟨ρ1,h1,ii,_,w1,re1,rr.mono l1,p1⟩⟩
def Mm{k n:Nat}(hK:X.K=K)(hc:X.calm=true)(h:DGs K mg X (λ_=>E0) es gs)
 (hn:(assignEach es X.env).length=n) (hst:(assignEach es X.env).findIdx? (·.1)=none):DG K mg X (λ_=>E0) (.Tuple es k pos) (gT λds ae h=>if ds.length=n then gs ds ae h else .stuck):=by
 subst hK;refine PG.imp (Bs hc h hn hst) λv σ H Q q_=>q_.el λρ h ae d w re rd p=>?_;unfold gT at p;cases rd with
 |
  tup q rs=>
  dsimp only at p;split at p
  .rename_i hl;exact⟨_,_,rfl,q,by rw[<- rs.len];exact hl,ρ,h,ae,_,w,re,rs,p⟩
  .exact p.elim
 |_=>exact p.elim
noncomputable def noX{α:Type}(r:R α):R α:=match r with
 |.exc _ _=>.stuck
 |.ok a h=>.ok a h
 |.stuck=>.stuck
def DG.weak(hg:DG K mg X (λ_=>E0) e g):DG K mg X ES e (λd ae h=>noX (g d ae h)):=PG.imp hg λv σ H Q q_=>q_.el λρ h ae d w re rd p=>by
 refine⟨ρ,h,ae,d,w,re,rd,?_⟩;try dsimp only at p
 cases q:g d ae h with
 |ok a h1=>rw[q] at p;exact p
 |exc c h1=>rw[q] at p;exact p.elim
 |stuck=>rw[q] at p;exact p.elim
def og(K:W.Frag)(mg:Ua)(r:xS)(f:D->D->D->AH->R Unit):Prop:=∀ρ h H do_ di dv o i v (Q:Hp->Prop) E,Wd K mg ρ h H->RelD K mg ρ H do_ o->RelD K mg ρ H di i->RelD K mg ρ H dv v->PostG K mg ρ H E (λ_ _ _ H'=>Q H') (f do_ di dv h)->r o i v H Q
def BG(he:DE K mg X ES e F)(hg:DG K mg X ES a g)(hs:swapsWithSole [a] e pos.line X.env=pure false)(hw:swappedStores [a] e X.env=pure none)
 (h1:(assignEach [a] X.env).map (·.2)=[assign a X.env]):DS K mg X ES (.Assign [a] e pos) (iC F g):=PS.imp (MU he hg hs hw h1) λD σ H q_=>q_.el λρ h ae w re p=>
 ⟨ρ,h,ae,w,re,bQ p re λd h1 ρ1 H1 l1 w1 re1 p1 v rv=>⟨ρ1,h1,ae,d,w1,re1,rv,bQ p1 re1 λae2 h2 ρ2 H2 l2 w2 re2 p2 σ' re'=>gB p2 w2 re'⟩⟩
def Lv{i:Nat}{x:Str}{io:Pos}(hN:X.N.Nodup)(hi:X.N[i]?=some x)(hx:Loc X.env.scope x)(he:DE K mg X ES e F)(hs:swapsWith e (some (.Name x io)) pos.line X.env=pure false)(hf:X.fn x=true\/X.env.scope.names.lookup x=some .local):
 DS K mg X ES (.Assign [.Name x io] e pos) (iC F (gN i)):=PS.imp (Js hN hi hx he hs hf) λD σ H q_=>q_.el λρ h ae w re p=>
 ⟨ρ,h,ae,w,re,bQ p re λd h1 ρ1 H1 l1 w1 re1 p1 v rv=>gB p1 w1 (re1.set i rv)⟩
def M3{i j:Nat}{x y:Str}{px py pt:Pos}{kt k2 pt2}(hc:X.calm=true)(hN:X.N.Nodup)(hi:X.N[i]?=some x)(hj:X.N[j]?=some y)(hij:i≠j)
 (hx:X.env.scope.names.lookup x=some .local) (hy:X.env.scope.names.lookup y=some .local) (ha:DA K mg X ES [a,b] A)
 (hw:swappedStores [.Tuple [.Name x px,.Name y py] kt pt] (.Tuple [a,b] k2 pt2) X.env=pure (some [x,y]))
 (hs:swapsWithSole [.Tuple [.Name x px,.Name y py] kt pt] (.Tuple [a,b] k2 pt2) pos.line X.env=pure false):
 DS K mg X ES (.Assign [.Tuple [.Name x px,.Name y py] kt pt] (.Tuple [a,b] k2 pt2) pos) (CW i j A):=PS.imp (Nc hc hN hi hj hij hx hy ha hw hs) λD σ H q_=>q_.el λρ h ae w re p=>
 ⟨ρ,h,ae,w,re,bQ p re λds h1 ρ1 H1 l1 w1 re1 p1 vs rs=>by
  split at p1
  .cases rs with
   |
    cons r1 rs=>
    cases rs with
    |cons r2 rs=>cases rs;exact⟨_,_,rfl,gB p1 w1 ((re1.set i r1).set j r2)⟩
  .exact p1.elim⟩
def IpD(K:W.Frag)(mg:Ua)(r:TIp)(g:D->D->AH->R D):Prop:=∀ρ h H dx dy x y Q E,Wd K mg ρ h H->RelD K mg ρ H dx x->RelD K mg ρ H dy y->cQ K mg ρ H Q E (g dx dy h)->r x y H Q
def ID{i:Nat}{x:Str}{op:Operator}{ti:TIp}{io:Pos}{gg:D->D->AH->R D}(hN:X.N.Nodup)(hi:X.N[i]?=some x)(hx:Loc X.env.scope x)(he:DE K mg X ES e F)(ho:PIp X op ti)(hd:IpD K mg ti gg)(hf:X.fn x=true\/X.env.scope.names.lookup x=some .local):
 DS K mg X ES (.AugAssign (.Name x io) op e pos) (so i gg F):=PS.imp (JL hN hi hx he ho hf) λD σ H q_=>q_.el λρ h ae w re p=>by
 unfold so at p;split at p
 .rename_i d ed;obtain⟨v,e1,r⟩:=re.at_ i d ed;exact⟨v,e1,ρ,h,ae,w,re,bQ p re λdy h1 ρ1 H1 l1 w1 re1 p1 y ry=>hd ρ1 h1 H1 d dy v y _ _ w1 (r.mono l1) ry (bQ p1 re1 λdz h2 ρ2 H2 l2 w2 re2 p2 z rz=>gB p2 w2 (re2.set i rz))⟩
 .exact p.elim
def Cw(hc:X.calm=true)(hR:Rz X E)(hg:Gl X x)(hm:mg x=some (.ref C))(hq:W.excIn X.K C l6 "ValueError.__new__"=true)(ha:DA K mg X (λ_=>E) (e::es) A)(hk:X.mg=mg)
 (he:starEach (e::es) X.env=(false,eval e X.env)::starEach es X.env) (c_:(backTo cpos (starEach es X.env)).any (·.1)=false) (hd:(x==("__debug__" : Str))=false):
 DS K mg X (λ_=>E) (.Raise (some (.Call (.Name x np) (e::es) [] cpos)) none pos) (tP x A):=by
 subst hk;exact
  PS.imp (DX hc hR hg hm hq ha he c_ hd) λD σ H q_=>q_.el λρ h ae w re p=>
  ⟨ρ,
   h,ae,w,re,bQ p re λds h1 ρ1 H1 l1 w1 re1 p1 vs rs=>by
   split at p1
   .rename_i hl;exact⟨by rw[<- rs.len];exact hl,p1 ρ1 H1 σ C Le.refl w1 re1 hm⟩
   .exact p1.elim⟩
def HE(C:Callee X.prog X.w X.K X.mg X.base x k ps (spD K mg n S))(hr:Room k X.A)(hg:Gl X x)(hx:ir X ES)(ha:DA K mg X ES (e::es) A)
 (hdb:(x==("__debug__" : Str))=false) (he:starEach (e::es) X.env=(false,eval e X.env)::starEach es X.env) (hpl:(backTo pos (starEach es X.env)).any (·.1)=false):
 DE K mg X ES (.Call (.Name x p) (e::es) [] pos) (eFn (λds h=>if ds.length=n then S ds h else .stuck) A):=by
 obtain⟨f,fd,F',m,kp,bb,_⟩:=C.ex;intro pins s σ H Q I hh;refine Q7 (n9 I hg m ?_ hdb);have rd:rdA K mg ES A σ H (λvs H1=>spD K mg n S vs H1 Q (ES σ)):=by
  obtain⟨ρ,h,ae,w,re,p⟩:=hh;refine⟨ρ,h,ae,w,re,p.bind.imp λds h1 ρ1 H1 l1 w1 p1 vs rs=>?_⟩;split at p1
  .rename_i hl;exact⟨ρ1,h1,ds,w1,rs,hl,p1⟩
  .exact p1.elim
 refine W.callWith_K (h₀:=X.base) I.ok.mod.kin kp (QR (ha pos pins s σ H _ I rd) (λus s1 ⟨vs,H1,I1,r,q⟩=>⟨I1.kIn,?_⟩) λ_ _ z=>z) he hpl;have hl:(us++[]).length=ps.length:=by rw[QU,<- r.length];exact F'.len _ _ _ _ q
 refine wpAny_call (Tq (F'.run X.A X.stack s1 H1 ⟨us,[]⟩ us vs Q (ES σ) hr I1.env0 (by simpa using bb s1 us I1.kIn hl) r q) λr s' hq=>?_);cases r with
 |error ex=>exact hx pins σ H1 s1 ex s' I1 hq
 |
  ok fl=>
  cases fl with
  |ret u=>exact I1.after hq
  |next=>exact False.elim hq
  |brk=>exact False.elim hq
  |cont=>exact False.elim hq
noncomputable def fnD(n:Nat)(F:MS):Fn:=λds h=>match F (ds.map some++List.replicate (n-ds.length) none) h with
 |.nx _ h'=>.ok .non h'
 |.rt d h'=>.ok d h'
 |.exc c _ h'=>.exc c h'
 |_=>.stuck
def lB(hp:uY (CX1 X.prog X.w) X E):ir X (λ_=>E):=λpins σ H s e s' I h=>hp pins σ H s e s' I h
def CP:ir X (λ_=>E0):=λpins σ H s e s' I h=>Pu pins σ H s e s' I h
end
section
variable{P:Program}{w:World}{K:W.Frag}{mg:Ua}{base:Heap}{x:Str}{st:Stmt}{k:Nat}{ps N:List Str}{F:MS}
def nu(rs:RelDs K mg ρ H ds vs):RelE K mg ρ H (ds.map some++List.replicate (N.length-ds.length) none) (fE N vs):=by
 unfold fE;refine⟨by rw[D_,D_,m_,m_,Rl,Rl,rs.len],λi d e=>?_⟩;by_cases hi:i<ds.length
 .rw[M_ (by rw[m_];exact hi),O_] at e;have e':ds[i]?=some d:=by
   cases q:ds[i]? with
   |none=>rw[q] at e;cases e
   |some z=>rw[q] at e;cases e;rfl
  obtain⟨v,h1,h2⟩:=rs.getD e';refine⟨v,?_,h2⟩;rw[M_ (by rw[m_,<- rs.len];exact hi),O_,h1];rfl
 .rw[QM (by rw[m_];omega),Rb] at e;split at e <;> cases e
def Def.okD(D:Def K mg x st)(S:FnScope N ps (ak st))
 (hb:∀(kV doc pm:Value) (an:Option Addr) (cdv ct:Value) (us:List Value),us.length=ps.length->bindArgs (W.fnOf x x (bS st) (aP st) (ak st) .none kV doc pm an cdv ct) ⟨us,[]⟩=pure (ps.zip us))
 (e_:∀(f:Addr) (cdv:Value) (A:Around) (outer:List Env) (s:Shared) (H:Hp) (E:XK),Room k (A.deeper (envOfC x (ak st) s.heap.objs.size f cdv))->
  DSs K mg (c9 (CX1 P w) P w K mg base N x (ak st) f cdv A outer s H E) (λ_=>E) (aP st) F):Callee P w K mg base x (k+1) ps (spD K mg ps.length (fnD N.length F)):=by
 refine D.okR S hb (λvs H Q E ⟨ρ,h,ds,w,rs,hl,p⟩=>by rw[<- rs.len];exact hl) λf cdv A outer s H vs Q E hr ⟨ρ,h,ds,w',rs,hl,p⟩=>?_;refine⟨_,e_ f cdv A outer s H E hr,ρ,h,_,w',nu rs,?_⟩;unfold fnD at p;split at p
 .rename_i e;rw[e];exact λρ1 H1 σ1 l1 w1 re1=>p ρ1 H1 l1 w1 _ .non
 .rename_i e;rw[e];exact λρ1 H1 v l1 w1 rv=>p ρ1 H1 l1 w1 v rv
 .rename_i e;rw[e];exact λρ1 H1 σ1 C l1 w1 re1 m=>p ρ1 H1 C l1 w1 m
 .exact p.elim
end
noncomputable def aM(h:AH)(n:Nat):Option (List D):=match h[n]? with
 |some (.lst xs)=>some xs
 |some (.fz xs)=>some xs
 |_=>none
noncomputable def dE(h:AH):D->Option (List D)
 |.tup xs=>some xs
 |.ref n=>aM h n
 |.kl xs=>some xs
 |_=>none
section
variable{K:W.Frag}{mg:Ua}{ρ:List Addr}{H:Hp}{h:AH}
def a9(w:Wd K mg ρ h H)(ea:ρ[n]?=some a)(e:aM h n=some xs):∃vs,SqL K H a vs/\RelDs K mg ρ H xs vs:=by
 unfold aM at e;split at e
 .rename_i ys eo;cases e;obtain⟨vs,h1,h2⟩:=w.ob n a _ ea eo;exact⟨vs,SqL.of h1,h2⟩
 .rename_i ys eo;cases e;obtain⟨o,vs,h1,h2⟩:=w.ob n a _ ea eo;exact⟨vs,.inl (.inr ⟨o,h1⟩),h2⟩
 .cases e
def eP(w:Wd K mg ρ h H)(r:RelD K mg ρ H d v)(e:dE h d=some xs):∃p vs,v=.ref p/\(SqL K H p vs\/SqT K H p vs)/\RelDs K mg ρ H xs vs:=by
 cases r with
 |tup q rs=>have e':some _=some xs:=e;cases e';exact⟨_,_,rfl,.inr q,rs⟩
 |ref ea=>obtain⟨vs,h1,h2⟩:=a9 w ea e;exact⟨_,vs,rfl,.inl h1,h2⟩
 |kl q rs=>have e':some _=some xs:=e;cases e';exact⟨_,_,rfl,.inl (.inr q),rs⟩
 |_=>cases e
end
noncomputable def g2(f:Int->Int->R D)(x y:D):R D:=match x,y with
 |.int i,.int j=>f i j
 |_,_=>.stuck
noncomputable def gI(f:Int->Int->D):D->D->AH->R D:=λx y h=>match x,y with
 |.int i,.int j=>.ok (f i j) h
 |_,_=>.stuck
open Classical in
def gIc(C:Int->Int->Prop)(f:Int->Int->D):D->D->AH->R D:=λx y h=>match x,y with
 |.int i,.int j=>if C i j then .ok (f i j) h else .stuck
 |_,_=>.stuck
section
variable{K:W.Frag}{mg:Ua}
def jX(hr:∀i j ρ H,RelD K mg ρ H (g i j) (f i j)):OpD K mg (rI0 f) (gI g):=λρ h H dx dy x y Q E w rx ry p=>by
 unfold gI at p;split at p
 .cases rx;cases ry;exact⟨_,_,rfl,rfl,az w (hr _ _ ρ H) p⟩
 .exact p.elim
def mG(hr:∀i j ρ H,RelD K mg ρ H (g i j) (f i j)):OpD K mg (rI C f) (gIc C g):=λρ h H dx dy x y Q E w rx ry p=>by
 unfold gIc at p;split at p
 .cases rx;cases ry;split at p
  .rename_i hc;exact⟨_,_,rfl,rfl,hc,az w (hr _ _ ρ H) p⟩
  .exact p.elim
 .exact p.elim
def gOr(g g':D->D->AH->R D):D->D->AH->R D:=λx y h=>match g x y h with
 |.stuck=>g' x y h
 |r=>r
def OpD.or(a:OpD K mg r g)(b:OpD K mg r' g'):OpD K mg (λx y H Q=>r x y H Q\/r' x y H Q) (gOr g g'):=λρ h H dx dy x y Q E w rx ry p=>by
 unfold gOr at p;split at p
 .exact .inr (b ρ h H dx dy x y Q E w rx ry p)
 .exact .inl (a ρ h H dx dy x y Q E w rx ry p)
end
noncomputable def mf:D->D->AH->R D:=λx y h=>match x,y with
 |.ref n,.ref m=>match h[n]?,h[m]? with
  |some (.lst xs),some (.lst ys)=>if xs.length+ys.length<=16777216 then .ok (.ref h.length) (h++[.lst (xs++ys)]) else .stuck
  |_,_=>.stuck
 |.tup xs,.tup ys=>if xs.length+ys.length<=16777216 then .ok (.tup (xs++ys)) h else .stuck
 |_,_=>.stuck
noncomputable def gIx:D->D->AH->R D:=λx y h=>match dE h x,y with
 |some xs,.int i=>match atI xs i with
  |some d=>.ok d h
  |none=>.stuck
 |_,_=>.stuck
section
variable{K:W.Frag}{mg:Ua}{X:Cx}
def kA(K:W.Frag):R2:=λx y H Q=>∃a b ys,x=.ref a/\y=.ref b/\SqT K H a []/\SqT K H b ys/\Q (.ref b) H
def HJ:OpR X (binaryOp .Add) (kA X.K):=by
 intro pins s σ H x y v u Q I rx ry h;obtain⟨a,b,ys,rfl,rfl,ha,hb,q⟩:=h;cases rx;cases ry;obtain⟨its,r1,p1,_⟩:=I.tuple ha;obtain⟨its2,r2,p2,_⟩:=I.tuple hb;have e:its=[]:=r1.nil_iff.mpr rfl;subst e;obtain⟨⟨cls,dd,data,sl⟩,ho,hc,n,hd⟩:=id p1;obtain⟨⟨cls2,dd2,data2,sl2⟩,ho2,hc2,n2,hd2⟩:=id p2;simp only at hc hd hc2 hd2;subst hc hd hc2 hd2;exact concat_meets ⟨_,ho,rfl⟩ ⟨_,ho2,rfl⟩ noFill_tuple_add seq_tuple_add SX SS (SO _ _)
  (tuple_addW0 _ _ _ _ n n2 dd dd2 sl sl2 rfl) ⟨ho,ho2,⟨.ref b,H,I,rfl,q⟩⟩
def Gm:OpD K mg (λx y H Q=>oU x y H Q\/(kQ K x y H Q\/kA K x y H Q)) mf:=λρ h H dx dy x y Q E w rx ry p=>by
 unfold mf at p;split at p
 .cases
   rx with
  |
   ref ea=>
   cases ry with
   |
    ref eb=>
    split at p
    .rename_i xs ys e1 e2;split at p
     .rename_i hl;obtain⟨vs,q1,r1⟩:=w.ob _ _ _ ea e1;obtain⟨ws,q2,r2⟩:=w.ob _ _ _ eb e2;exact .inl ⟨_,_,vs,ws,rfl,rfl,q1,q2,by rw[<- r1.len,<- r2.len];exact hl,λp' hp=>eY w (r1.append r2) hp p⟩
     .exact p.elim
    .exact p.elim
 .cases
   rx with
  |
   tup q1 r1=>
   cases ry with
   |
    tup q2 r2=>
    split at p
    .rename_i hl;cases r1 with
     |nil=>exact .inr (.inr ⟨_,_,_,rfl,rfl,q1,q2,az w (.tup q2 r2) p⟩)
     |cons r0 r1=>refine .inr (.inl ⟨_,_,_,_,rfl,rfl,q1,q2,(λz=>nomatch z),by rw[<- (RelDs.cons r0 r1).len,<- r2.len];exact hl,λz=>?_,λ_ p' hp=>gZ w ((RelDs.cons r0 r1).append r2) hp p⟩);subst z;cases r2;rw[QU] at p;exact az w (.tup q1 (.cons r0 r1)) p
    .exact p.elim
 .exact p.elim
def F5(r:RelDs K mg ρ H xs vs)(e:atI xs i=some d):∃v,atI vs i=some v/\RelD K mg ρ H d v:=by
 unfold atI at e ⊢;rw[<- r.len];cases q:ixN xs.length i with
 |none=>rw[q] at e;cases e
 |some j=>rw[q] at e;exact r.getD e
def LN:OpD K mg (λx y H Q=>yS K x y H Q\/xq K x y H Q) gIx:=λρ h H dx dy x y Q E w rx ry p=>by
 unfold gIx at p;split at p
 .rename_i xs i e1;split at p
  .rename_i d e2;cases ry;obtain⟨pa,vs,rfl,hq,rs⟩:=eP w rx e1;obtain⟨v,e3,rv⟩:=F5 rs e2;rcases hq with hq |hq
   .exact .inl ⟨_,_,_,_,rfl,rfl,hq,e3,az w rv p⟩
   .exact .inr ⟨_,_,_,_,rfl,rfl,hq,e3,az w rv p⟩
  .exact p.elim
 .exact p.elim
def ixK(h:X.K=K):IxR X (λx y H Q=>yS K x y H Q\/xq K x y H Q):=by subst h;exact FU.or IL
def catK(h:X.K=K):OpR X (binaryOp .Add) (λx y H Q=>oU x y H Q\/(kQ K x y H Q\/kA K x y H Q)):=by subst h;exact Nb.or (GO.or HJ)
end
noncomputable def dO:Nat->AH->D->Option PyData
 |0,_,_=>none
 |_+1,_,.non=>some .none
 |_+1,_,.bl b=>some (.bool b)
 |_+1,_,.int i=>some (.int i)
 |_+1,_,.str x=>some (.str x)
 |k+1,h,.tup xs=>(xs.mapM (dO k h)).map .tuple
 |k+1,h,.ref n=>match aM h n with
  |some xs=>(xs.mapM (dO k h)).map .list
  |none=>none
 |_+1,_,_=>none
def pC{K:W.Frag}{mg:Ua}{ρ:List Addr}{H:Hp}{f:D->Option PyData}(hf:∀d v pd,RelD K mg ρ H d v->f d=some pd->Rep K H v pd):∀{xs:List D}{vs:List V}{ps:List PyData},RelDs K mg ρ H xs vs->xs.mapM f=some ps->Reps K H vs ps:=by
 intro xs;induction xs with
 |nil=>intro vs ps r e;cases r;have e':some []=some _:=e;cases e';exact .nil
 |
  cons x xs ih=>
  intro vs ps r e;cases r with
  |
   cons r rr=>
   rw[Sw] at e;cases q:f x with
   |none=>rw[q] at e;cases e
   |
    some pd=>
    rw[q] at e;cases q2:xs.mapM f with
    |none=>rw[q2] at e;cases e
    |some pds=>rw[q2] at e;have e':some (pd::pds)=some ps:=e;cases e';exact .cons (hf _ _ _ r q) (ih rr q2)
theorem fL{K:W.Frag}{mg:Ua}{ρ:List Addr}{H:Hp}{h:AH}(w:Wd K mg ρ h H):∀(k:Nat) {d:D}{v:V}{pd:PyData},RelD K mg ρ H d v->dO k h d=some pd->Rep K H v pd
 |0,_,_,_,_,e=>by cases e
 |
  k+1,d,v,pd,r,e=>by
  cases r with
  |non=>have e':some _=some pd:=e;cases e';exact .non
  |bl b=>have e':some _=some pd:=e;cases e';exact .bl b
  |int b=>have e':some _=some pd:=e;cases e';exact .int b
  |str b=>have e':some _=some pd:=e;cases e';exact .str b
  |
   tup q rs=>
   rename_i ds;have e':(ds.mapM (dO k h)).map PyData.tuple=some pd:=e;cases q2:ds.mapM (dO k h) with
   |none=>rw[q2] at e';cases e'
   |some ps=>rw[q2] at e';cases e';exact .tup q (pC (λd v pd r e=>fL w k r e) rs q2)
  |
   ref ea=>
   rename_i n a;unfold dO at e;split at e
   .rename_i xs e1;obtain⟨vs,h1,h2⟩:=a9 w ea e1;cases q2:xs.mapM (dO k h) with
    |none=>rw[q2] at e;cases e
    |some ps=>rw[q2] at e;cases e;exact .lst h1 (pC (λd v pd r e=>fL w k r e) h2 q2)
   .cases e
  |_=>cases e
noncomputable def ke(h:AH)(x y:D):Option Bool:=match dO 164 h x,dO 164 h y with
 |some a,some b=>if shp a=true/\shp b=true then some (PyData.eqv a b) else none
 |_,_=>none
def gEq(neg:Bool):D->D->AH->R D:=λx y h=>match ke h x y with
 |some b=>.ok (.bl (if neg then !b else b)) h
 |none=>.stuck
section
variable{K:W.Frag}{mg:Ua}
def vR(w:Wd K mg ρ h H)(rx:RelD K mg ρ H dx x)(ry:RelD K mg ρ H dy y)(e:ke h dx dy=some b):
 ∃a c,Rep K H x a/\Rep K H y c/\shp a=true/\shp c=true/\PyData.eqv a c=b:=by
 unfold ke at e;split at e
 .rename_i a c e1 e2;split at e
  .rename_i hs;cases e;exact⟨a,c,fL w 164 rx e1,fL w 164 ry e2,hs.1,hs.2,rfl⟩
  .cases e
 .cases e
def Ka:OpD K mg (yR K) (gEq false):=λρ h H dx dy x y Q E w rx ry p=>by
 unfold gEq at p;split at p
 .rename_i b e;obtain⟨a,c,h1,h2,h3,h4,rfl⟩:=vR w rx ry e;exact⟨a,c,h1,h2,h3,h4,az w (.bl _) p⟩
 .exact p.elim
def La:OpD K mg (yb K) (gEq true):=λρ h H dx dy x y Q E w rx ry p=>by
 unfold gEq at p;split at p
 .rename_i b e;obtain⟨a,c,h1,h2,h3,h4,rfl⟩:=vR w rx ry e;exact⟨a,c,h1,h2,h3,h4,az w (.bl _) p⟩
 .exact p.elim
end
noncomputable def kH:D->Bool
 |.non=>true
 |.bl _=>true
 |.int _=>true
 |.str _=>true
 |_=>false
noncomputable def toV:D->V
 |.bl b=>.bl b
 |.int i=>.int i
 |.str x=>.str x
 |_=>.non
def eqF(x y:D):Bool:=eqV (toV x) (toV y)
def gIn(neg:Bool):D->D->AH->R D:=λx y h=>match dE h y with
 |some xs=>if kH x=true/\xs.all kH=true then .ok (.bl (if neg then !(xs.any λd=>eqF d x) else xs.any λd=>eqF d x)) h else .stuck
 |none=>.stuck
section
variable{K:W.Frag}{mg:Ua}{ρ:List Addr}{H:Hp}
def uk(r:RelD K mg ρ H d v)(f:kH d=true):v=toV d/\aZ v=true:=by
 cases r with
 |non=>exact⟨rfl,rfl⟩
 |bl=>exact⟨rfl,rfl⟩
 |int=>exact⟨rfl,rfl⟩
 |str=>exact⟨rfl,rfl⟩
 |_=>cases f
def Ac:∀{ds:List D}{vs:List V},RelDs K mg ρ H ds vs->ds.all kH=true->vs=ds.map toV/\vs.all aZ=true:=by
 intro ds;induction ds with
 |nil=>intro vs r f;cases r;exact⟨rfl,rfl⟩
 |
  cons d0 ds ih=>
  intro vs r f;cases r with
  |cons r rr=>rw[SF,u_] at f;obtain⟨rfl,h1⟩:=uk r f.1;obtain⟨rfl,h2⟩:=ih rr f.2;exact⟨rfl,by rw[SF,h1,h2];rfl⟩
def A9(neg:Bool):OpD K mg (rIn K neg) (gIn neg):=λρ h H dx dy x y Q E w rx ry p=>by
 unfold gIn at p;split at p
 .rename_i xs e;split at p
  .rename_i hf;obtain⟨pa,vs,rfl,hq,rs⟩:=eP w ry e;obtain⟨rfl,f1⟩:=uk rx hf.1;obtain⟨rfl,f2⟩:=Ac rs hf.2;refine⟨pa,_,rfl,hq,f1,f2,?_⟩;have e2:inV (toV dx) (xs.map toV)=xs.any λd=>eqF d dx:=by unfold inV eqF;rw[List.any_map];rfl
   rw[e2];exact az w (.bl _) p
  .exact p.elim
 .exact p.elim
noncomputable def D4(neg:Bool):D->D->AH->R D:=λx y h=>match x,y with
 |.non,.non=>.ok (.bl (!neg)) h
 |_,.non=>.ok (.bl neg) h
 |_,_=>.stuck
end
def Itd(lo:Int)(n:Nat):It:=⟨λj _=>j<n,λj G v G'=>G'=G/\v=.int (lo-j),λj _=>n<=j⟩
inductive AIt where
 |lst (n:Nat) (xs:List D) |tup (xs:List D) |rng (lo:Int) (k:Nat) |rgd (lo:Int) (k:Nat) |enm (s:AIt) |zip (s t:AIt)
noncomputable def iE:Nat->List D->List D
 |_,[]=>[]
 |i,d::ds=>.tup [.int (i:Nat),d]::iE (i+1) ds
noncomputable def AIt.items:AIt->List D
 |.lst _ xs=>xs
 |.tup xs=>xs
 |.rng lo k=>(List.range k).map λi=>D.int (lo+(i:Nat))
 |.rgd lo k=>(List.range k).map λi=>D.int (lo-(i:Nat))
 |.enm s=>iE 0 s.items
 |.zip s t=>List.zipWith (λx y=>.tup [x,y]) s.items t.items
def AIt.guard:AIt->AH->Prop
 |.lst n xs,h=>aM h n=some xs
 |.enm s,h=>s.guard h
 |.zip s t,h=>s.guard h/\t.guard h
 |_,_=>True
def SrcR(K:W.Frag)(mg:Ua)(ρ:List Addr)(H:Hp):AIt->Bool->Addr->Prop
 |.lst n _,true,a=>ρ[n]?=some a
 |.tup xs,false,p=>∃vs,SqT K H p vs/\RelDs K mg ρ H xs vs
 |_,_,_=>False
def ItR(K:W.Frag)(mg:Ua)(ρ:List Addr)(H:Hp):AIt->It->Prop
 |.lst n _,J=>∃a,ρ[n]?=some a/\J=Itl K a
 |.tup xs,J=>∃p vs,SqT K H p vs/\RelDs K mg ρ H xs vs/\J=Itt K p
 |.rng lo k,J=>J=Itr lo k
 |.rgd lo k,J=>J=Itd lo k
 |.enm s,J=>∃b a,SrcR K mg ρ H s b a/\J=IteE K b a
 |.zip s t,J=>∃b c a d,SrcR K mg ρ H s b a/\SrcR K mg ρ H t c d/\J=ItZ K b c a d
theorem uu:∀{ds:List D}{k i:Nat}{e:D},(iE k ds)[i]?=some e->∃d,ds[i]?=some d/\e=.tup [.int ((k+i:Nat):Int),d]
 | [],_,_,_,q=>by simp [iE] at q
 |d::ds,k,0,e,q=>⟨d,rfl,by simpa [iE] using q.symm⟩
 |
  d::ds,k,i+1,e,q=>by
  obtain⟨d',q1,q2⟩:=uu (ds:=ds) (k:=k+1) (i:=i) (e:=e) (by simpa [iE] using q);refine⟨d',by simpa using q1,?_⟩;rw[q2];congr 4;omega
theorem uA:∀(ds:List D) (k:Nat),(iE k ds).length=ds.length
 | [],_=>rfl
 |_::ds,k=>by show (iE (k+1) ds).length+1=ds.length+1;rw[uA ds]
section
variable{K:W.Frag}{mg:Ua}{ρ ρ1:List Addr}{H H1:Hp}{h1:AH}
def SrcR.at_(r:SrcR K mg ρ H s b a)(l:Le ρ H ρ1 H1)(w:Wd K mg ρ1 h1 H1)(g:s.guard h1):∃vs,SqB K b H1 a vs/\RelDs K mg ρ1 H1 s.items vs:=by
 cases s with
 |
  lst n xs=>
  cases b with
  |true=>exact a9 w (l.pre _ _ r) g
  |false=>exact r.elim
 |
  tup xs=>
  cases b with
  |true=>exact r.elim
  |false=>obtain⟨vs,q,rs⟩:=r;exact⟨vs,l.sqT q,rs.mono l⟩
 |rng _ _=>cases b <;> exact r.elim
 |rgd _ _=>cases b <;> exact r.elim
 |enm _=>cases b <;> exact r.elim
 |zip _ _=>cases b <;> exact r.elim
def ItR.nums{f:Nat->Int}{k:Nat}(w:Wd K mg ρ1 h1 H1):(∀(i:Nat) (d:D),((List.range k).map λi=>D.int (f i))[i]?=some d->i<k/\∀x H',(H'=H1/\x=V.int (f i))->Le ρ1 H1 ρ1 H'/\Wd K mg ρ1 h1 H'/\RelD K mg ρ1 H' d x)/\k<=((List.range k).map λi=>D.int (f i)).length:=by
 refine⟨λi d e=>?_,by simp⟩;rw[O_] at e;cases q:(List.range k)[i]? with
 |none=>rw[q] at e;cases e
 |some j=>rw[q] at e;have hj:=s_.mp q;have e2:=hj.2;rw[List.getElem_range] at e2;subst e2;cases e;refine⟨by simpa using hj.1,λx H' ⟨e1,e2⟩=>?_⟩;subst e1 e2;exact⟨Le.refl,w,.int _⟩
def ItR.step(hJ:ItR K mg ρ H it J)(l:Le ρ H ρ1 H1)(w:Wd K mg ρ1 h1 H1)(g:it.guard h1):
 (∀(i:Nat) (d:D),it.items[i]?=some d->J.go i H1/\∀x H',J.yld i H1 x H'->Le ρ1 H1 ρ1 H'/\Wd K mg ρ1 h1 H'/\RelD K mg ρ1 H' d x)/\J.stop it.items.length H1:=by
 cases it with
 |
  lst n xs=>
  obtain⟨a,ea,rfl⟩:=hJ;obtain⟨vs,q,rs⟩:=a9 w (l.pre _ _ ea) g;refine⟨λi d e=>?_,vs,q,by rw[<- rs.len];exact p_ _⟩;obtain⟨v,ev,rv⟩:=rs.getD e;refine⟨⟨vs,v,q,ev⟩,λx H' ⟨e1,y⟩=>?_⟩;subst e1
  have:=(y vs q).symm.trans ev
  cases this;exact⟨Le.refl,w,rv⟩
 |
  tup xs=>
  obtain⟨p,vs,q,rs,rfl⟩:=hJ;have q1:=l.sqT q;have rs1:=rs.mono l;refine⟨λi d e=>?_,vs,q1,by rw[<- rs1.len];exact p_ _⟩;obtain⟨v,ev,rv⟩:=rs1.getD e;refine⟨⟨vs,v,q1,ev⟩,λx H' ⟨e1,y⟩=>?_⟩;subst e1
  have:=(y vs q1).symm.trans ev
  cases this;exact⟨Le.refl,w,rv⟩
 |rng lo k=>cases hJ;exact ItR.nums w
 |rgd lo k=>cases hJ;exact ItR.nums w
 |
  enm s=>
  obtain⟨b,a,r,rfl⟩:=hJ;obtain⟨vs,q,rs⟩:=r.at_ l w g;refine⟨λi d e=>?_,vs,q,by show vs.length=(iE 0 s.items).length;rw[uA,rs.len]⟩;obtain⟨d',q1,rfl⟩:=uu (show (iE 0 s.items)[i]?=some d from e);obtain⟨v,ev,rv⟩:=rs.getD q1;refine⟨⟨vs,v,q,ev⟩,λx H' ⟨p,u,e1,hp,e2,hu⟩=>?_⟩;subst e1 e2
  have:=(hu vs q).symm.trans ev
  cases this;rw[Tn];exact⟨cK hp,w.tuple hp,.tup (SqT.of aW) (.cons (.int _) (.cons (rv.mono (cK hp)) .nil))⟩
 |
  zip s t=>
  obtain⟨b,c,a,d,r1,r2,rfl⟩:=hJ;obtain⟨vs,q,rs⟩:=r1.at_ l w g.1;obtain⟨us,q',rs'⟩:=r2.at_ l w g.2;refine⟨λi e ei=>?_,vs,us,q,q',?_⟩
  .have ei':(List.zipWith (λx y=>D.tup [x,y]) s.items t.items)[i]?=some e:=ei;rw[R6] at ei';cases k1:s.items[i]? with
   |none=>rw[k1] at ei';cases ei'
   |
    some d1=>
    cases k2:t.items[i]? with
    |none=>rw[k1,k2] at ei';cases ei'
    |
     some d2=>
     rw[k1,k2] at ei';cases ei';obtain⟨v,ev,rv⟩:=rs.getD k1;obtain⟨v',ev',rv'⟩:=rs'.getD k2;refine⟨⟨vs,us,v,v',q,q',ev,ev'⟩,λx H' ⟨p,u,u',e1,hp,e2,hu,hu'⟩=>?_⟩;subst e1 e2
     have:=(hu vs q).symm.trans ev
     cases this
     have:=(hu' us q').symm.trans ev'
     cases this;exact⟨cK hp,w.tuple hp,.tup (SqT.of aW) (.cons (rv.mono (cK hp)) (.cons (rv'.mono (cK hp)) .nil))⟩
  .have hl:(AIt.zip s t).items.length=min s.items.length t.items.length:=Sb ..;rw[hl,rs.len,rs'.len];rcases Nat.le_total vs.length us.length with z |z
   .left;rw[Nat.min_eq_left z];exact List.getElem?_eq_none (p_ _)
   .right;rw[Nat.min_eq_right z];exact List.getElem?_eq_none (p_ _)
end
noncomputable def SR.loop(r:SR)(f:AE->AH->SR):SR:=match r with
 |.nx ae h=>f ae h
 |.ct ae h=>f ae h
 |.bk ae h=>.nx ae h
 |.rt d h=>.rt d h
 |.exc c ae h=>.exc c ae h
 |.stuck=>.stuck
open Classical in
def jw(G:AH->Prop)(g:MG)(B:MS):List D->MS
 | [],ae,h=>if G h then .nx ae h else .stuck
 |d::ds,ae,h=>if G h then (g d ae h).toS ae λii h1=>(B ii h1).loop (jw G g B ds) else .stuck
abbrev MI:=AE->AH->R AIt
def EB(I:MI)(g:MG)(B:MS):MS:=λae h=>(I ae h).toS ae λit h1=>jw it.guard g B it.items ae h1
open Classical in
def lcL(G:AH->Prop)(g:MG)(c:MT)(F:ME):List D->List D->AE->AH->R (List D)
 | [],acc,_,h=>if G h then .ok acc h else .stuck
 |d::ds,acc,ae,h=>if G h/\acc.length<16777216 then (g d ae h).bind λii h1=>(c ii h1).bind λb h2=>if b=true then (F ii h2).bind λy h3=>lcL G g c F ds (acc++[y]) ii h3 else lcL G g c F ds acc ii h2 else .stuck
noncomputable def jx(sub:Ud)(ae:AE):AE:=sub.map λo=>o.bind λi=>(ae[i]?).bind id
def eLC(I:MI)(sub:Ud)(g:MG)(c:MT)(F:ME):ME:=λae h=>(I ae h).bind λit h1=>(noX (lcL it.guard g c F it.items [] (jx sub ae) h1)).bind dP
noncomputable def tY:MT:=λ_ h=>.ok true h
section
variable(K:W.Frag)(mg:Ua)
def rdI(ES:St->XK)(F:MI):TI:=λσ H R'=>∃ρ h ae,Wd K mg ρ h H/\RelE K mg ρ H ae σ/\PostG K mg ρ H (ES σ) (λit _ ρ' H'=>∀J,ItR K mg ρ' H' it J->R' J H') (F ae h)
def DI(X:Cx)(ES:St->XK)(tg a_:Expr)(F:MI):Prop:=PI X tg a_ (rdI K mg ES F)
end
noncomputable def Dx(F:ME):MI:=λae h=>(F ae h).bind λd h1=>match d with
 |.tup xs=>.ok (.tup xs) h1
 |.ref n=>match aM h1 n with
  |some xs=>.ok (.lst n xs) h1
  |none=>.stuck
 |_=>.stuck
noncomputable def C0(A:MA):MI:=λae h=>(A ae h).bind λds h1=>match ds with
 | [.int j]=>if -(2^62)<=j/\j<2^62 then .ok (.rng 0 j.toNat) h1 else .stuck
 |_=>.stuck
noncomputable def Dg(A:MA):MI:=λae h=>(A ae h).bind λds h1=>match ds with
 | [.int i,.int j]=>if -(2^62)<=i/\i<2^62/\-(2^62)<=j/\j<2^62 then .ok (.rng i (j-i).toNat) h1 else .stuck
 |_=>.stuck
noncomputable def gC(d:D)(h:AH):Option AIt:=match d with
 |.tup xs=>some (.tup xs)
 |.ref n=>(aM h n).map (.lst n)
 |_=>none
noncomputable def Dl(A:MA):MI:=λae h=>(A ae h).bind λds h1=>match ds with
 | [d,e]=>(match gC d h1,gC e h1 with
  |some s,some t=>.ok (.zip s t) h1
  |_,_=>.stuck)
 |_=>.stuck
section
variable{K:W.Frag}{mg:Ua}{X:Cx}{ES:St->XK}{tg a_ e a b c jp:Expr}{F:ME}{A:MA}{I:MI}{g:MG}{cf:MT}{U:MS}{sts:List Stmt}{pos:Pos}
def PI.imp(h:PI X tg a_ t)(k:∀σ H Q,t' σ H Q->t σ H Q):PI X tg a_ t':=λpins s σ H Q I w=>h pins s σ H Q I (k σ H Q w)
def JQ(hl:PE X l tl):PI X tg l (λσ H R=>tl σ H λx H1=>(∃a,x=.ref a/\(∃xs,SqL X.K H1 a xs)/\R (Itl X.K a) H1)\/(∃a,x=.ref a/\(∃xs,SqT X.K H1 a xs)/\R (Itt X.K a) H1)):=by
 intro pins s σ H R I h;refine thn (hl pins s σ H _ I h) λv s1 ⟨x,H1,I1,r1,q1⟩=>?_;rcases q1 with ⟨a,e,⟨xs,hq⟩,q⟩ |⟨a,e,⟨xs,hq⟩,q⟩
 .subst e;cases r1;obtain⟨its,rv,p,hz⟩:=I1.list hq;refine wpAny_pyIter_list p.isList ?_;refine⟨s1.heap.objs.size,[s1.heap.objs.size],_,_,H1,rfl,I1.kept (t':=s1.toks) λb o e=>o_ _ e,Aw a _,⟨_,Em _ rfl,rfl,rfl⟩,λb hb=>?_,q⟩;have e:b=s1.heap.objs.size:=by simpa using hb
  subst e;exact I1.fpOk (p_ _) (I1.hok.fresh (p_ _))
 .subst e;cases r1;obtain⟨its,rv,p,hz⟩:=I1.tuple hq;refine wpAny_pyIter_tuple (show s1.heap.IsTuple a its.toArray from p) ?_;refine⟨s1.heap.objs.size,[s1.heap.objs.size],_,_,H1,rfl,I1.kept (t':=s1.toks) λb o e=>o_ _ e,yI a _,⟨_,Em _ rfl,rfl,rfl⟩,λb hb=>?_,q⟩;have e:b=s1.heap.objs.size:=by simpa using hb
  subst e;exact I1.fpOk (p_ _) (I1.hok.fresh (p_ _))
def K9(hK:X.K=K)(he:DE K mg X ES e F):DI K mg X ES tg e (Dx F):=by
 subst hK;refine PI.imp (JQ he) λσ H R ⟨ρ,h,ae,w,re,p⟩=>⟨ρ,h,ae,w,re,p.bind.imp λd h1 ρ1 H1 l1 w1 p1 v rv=>?_⟩;cases rv with
 |tup q rs=>exact .inr ⟨_,rfl,⟨_,q⟩,p1 ρ1 H1 Le.refl w1 _ ⟨_,_,q,rs,rfl⟩⟩
 |
  ref ea=>
  dsimp only at p1;split at p1
  .rename_i xs e1;obtain⟨vs,q,rs⟩:=a9 w1 ea e1;exact .inl ⟨_,rfl,⟨_,q⟩,p1 ρ1 H1 Le.refl w1 _ ⟨_,ea,rfl⟩⟩
  .exact p1.elim
 |_=>exact p1.elim
def Af(hg:Gl X "range")(hm:mg "range"=none)(ha:DA K mg X ES [a] A)(hk:X.mg=mg)(hs:starEach [a] X.env=[(false,eval a X.env)]):DI K mg X ES tg (.Call (.Name "range" p) [a] [] pos) (C0 A):=by
 subst hk;refine PI.imp (An hg hm ha hs) λσ H R ⟨ρ,h,ae,w,re,p⟩=>⟨ρ,h,ae,w,re,p.bind.imp λds h1 ρ1 H1 l1 w1 p1 vs rs=>?_⟩;split at p1
 .cases rs with
  |
   cons r rs=>
   cases r;cases rs;split at p1
   .rename_i hb;exact⟨_,rfl,hb.1,hb.2,p1 ρ1 H1 Le.refl w1 _ rfl⟩
   .exact p1.elim
 .exact p1.elim
def A4(hg:Gl X "range")(hm:mg "range"=none)(ha:DA K mg X ES [a,b] A)(hk:X.mg=mg)(hs:starEach [a,b] X.env=[(false,eval a X.env),(false,eval b X.env)])(hs2:starEach [b] X.env=[(false,eval b X.env)]):DI K mg X ES tg (.Call (.Name "range" p) [a,b] [] pos) (Dg A):=by
 subst hk;refine PI.imp (AG hg hm ha hs hs2) λσ H R ⟨ρ,h,ae,w,re,p⟩=>⟨ρ,h,ae,w,re,p.bind.imp λds h1 ρ1 H1 l1 w1 p1 vs rs=>?_⟩;split at p1
 .cases
   rs with
  |
   cons r rs=>
   cases rs with
   |
    cons r2 rs=>
    cases r;cases r2;cases rs;split at p1
    .rename_i hb;exact⟨_,_,rfl,hb,p1 ρ1 H1 Le.refl w1 _ rfl⟩
    .exact p1.elim
 .exact p1.elim
def pz(w:Wd K mg ρ h H)(r:RelD K mg ρ H d v)(q:gC d h=some s):∃b p,v=.ref p/\SrcR K mg ρ H s b p/\∃vs,SqB K b H p vs:=by
 cases r with
 |tup hq rs=>cases q;exact⟨false,_,rfl,⟨_,hq,rs⟩,_,hq⟩
 |ref ea=>obtain⟨xs,q1,rfl⟩:=L_.mp q;obtain⟨vs,h1,h2⟩:=a9 w ea q1;exact⟨true,_,rfl,ea,vs,h1⟩
 |_=>cases q
def MW(hK:X.K=K)(hg:Gl X "zip")(hm:mg "zip"=none)(ha:DA K mg X ES [a,b] A)(hk:X.mg=mg)(hs:starEach [a,b] X.env=[(false,eval a X.env),(false,eval b X.env)])(hs2:starEach [b] X.env=[(false,eval b X.env)]):DI K mg X ES (.Tuple elts x1 tp) (.Call (.Name "zip" p) [a,b] [] pos) (Dl A):=by
 subst hk hK;refine PI.imp (JS hg hm ha hs hs2) λσ H R ⟨ρ,h,ae,w,re,p⟩=>⟨ρ,h,ae,w,re,p.bind.imp λds h1 ρ1 H1 l1 w1 p1 vs rs=>?_⟩;split at p1
 .cases
   rs with
  |
   cons r rs=>
   cases rs with
   |
    cons r' rs=>
    cases rs;split at p1
    .rename_i s t q q';obtain⟨b,pa,rfl,sr,xs,hx⟩:=pz w1 r q;obtain⟨c,pd,rfl,sr',ys,hy⟩:=pz w1 r' q';exact⟨b,c,pa,pd,xs,ys,rfl,hx,hy,p1 ρ1 H1 Le.refl w1 _ ⟨b,c,pa,pd,sr,sr',rfl⟩⟩
    .exact p1.elim
 .exact p1.elim
def sO(p:PostS K mg ρ H De ES (r.loop f))(i:∀ii h1 ρ1 H1 σ1,Le ρ H ρ1 H1->Wd K mg ρ1 h1 H1->RelE K mg ρ1 H1 ii σ1->PostS K mg ρ1 H1 De ES (f ii h1)->N σ1 H1):
 PostS K mg ρ H { De with nx:=N,ct:=N,bk:=De.nx } ES r:=by
 cases r with
 |nx ii h1=>exact λρ1 H1 σ1 l1 w1 re1=>i ii h1 ρ1 H1 σ1 l1 w1 re1 (PostS.mono l1 p)
 |rt d h1=>exact p
 |bk ii h1=>exact p
 |ct ii h1=>exact λρ1 H1 σ1 l1 w1 re1=>i ii h1 ρ1 H1 σ1 l1 w1 re1 (PostS.mono l1 p)
 |exc c ii h1=>exact p
 |stuck=>exact p
def Kl(hp:PassesOwn (model X.prog X.w) X.A X.env X.xe)(hc:X.calm=true)(hi:DI K mg X ES tg a_ I)(hg:DG K mg X ES tg g)(hb:DSs K mg X ES sts U)
 (hs:∀x,foldedSetIterable a_ X.env x=pure x):DS K mg X ES (.For tg a_ sts [] pos) (EB I g U):=by
 refine PS.imp (Ku hp hc hi hg hb hs) λDe σ H q_=>q_.el λρ h ae w re p=>⟨ρ,h,ae,w,re,bQ p re λit h1 ρ1 H1 l1 w1 re1 p1 J hJ=>?_⟩;refine⟨λi m σ2 H2=>m=it.items.length-i/\i<=it.items.length/\∃ρ2 h2 ae2,Le ρ1 H1 ρ2 H2/\Wd K mg ρ2 h2 H2/\RelE K mg ρ2 H2 ae2 σ2/\PostS K mg ρ2 H2 De ES (jw it.guard g U (it.items.drop i) ae2 h2),⟨_,rfl,QH _,ρ1,h1,ae,Le.refl,w1,re1,p1⟩,?_⟩;rintro i m σ2 H2 ⟨rfl,hi',ρ2,h2,ae2,l2,w2,re2,p2⟩;by_cases hlt:i<it.items.length
 .have hd:it.items.drop i=it.items[i]::it.items.drop (i+1):=SK hlt;rw[hd] at p2;unfold jw at p2;split at p2
  .rename_i hG;obtain⟨st,_⟩:=hJ.step l2 w2 hG;obtain⟨go,yl⟩:=st i it.items[i] (w_ hlt);refine .inr ⟨go,λσ' H'=>∃ρ3 h3 ae3,Le ρ1 H1 ρ3 H'/\Wd K mg ρ3 h3 H'/\RelE K mg ρ3 H' ae3 σ'/\PostS K mg ρ3 H' De ES (jw it.guard g U (it.items.drop (i+1)) ae3 h3),
    λσ' H' ⟨ρ3,h3,ae3,q⟩=>⟨_,by omega,rfl,hlt,ρ3,h3,ae3,q⟩,λx H' hy=>?_⟩
   obtain⟨ly,wy,rx⟩:=yl x H' hy;refine⟨ρ2,h2,ae2,_,wy,re2.mono ly,rx,bQ (PostS.mono ly p2) (re2.mono ly) λae3 h3 ρ3 H3 l3 w3 re3 p3 σ' re'=>⟨ρ3,h3,ae3,w3,re',sO p3 λae4 h4 ρ4 H4 σ4 l4 w4 re4 p4=>⟨ρ4,h4,ae4,((l2.trans ly).trans l3).trans l4,w4,re4,p4⟩⟩⟩
  .exact p2.elim
 .have hi2:i=it.items.length:=by omega
  subst hi2;rw[List.drop_length] at p2;unfold jw at p2;split at p2
  .rename_i hG;exact .inl ⟨(hJ.step l2 w2 hG).2,gB p2 w2 re2⟩
  .exact p2.elim
def Dn(re:RelE K mg ρ H ae σ)(sub:Ud):RelE K mg ρ H (jx sub ae) (fY sub σ):=by
 unfold jx fY;refine⟨by rw[m_,m_],λj d e=>?_⟩;rw[O_] at e ⊢;cases q:sub[j]? with
 |none=>rw[q] at e;cases e
 |
  some o=>
  rw[q] at e;cases o with
  |none=>cases e
  |
   some i=>
   have e':(ae[i]?).bind id=some d:=J_ e;cases q2:ae[i]? with
   |none=>rw[q2] at e';cases e'
   |some z=>rw[q2] at e';have e3:z=some d:=e';subst e3;obtain⟨v,h1,h2⟩:=re.at_ i d q2;refine⟨v,?_,h2⟩;show some ((σ[i]?).bind id)=some (some v);rw[h1];rfl
def l7(p:PostG K mg ρ H E k ((noX (r.bind f)).bind m)):
 PostG K mg ρ H E0 (λa h1 ρ' H'=>PostG K mg ρ' H' E k ((noX (f a h1)).bind m)) r:=by
 cases r with
 |ok a h1=>exact λρ1 H1 l1 w1=>PostG.mono l1 p
 |exc c h1=>exact p.elim
 |stuck=>exact p.elim
def Fg(σ:St)(H:Hp)(Q:VK)(q:rdE K mg ES (eLC I sub g cf F) σ H Q):jc (rdI K mg ES I) sub (rdG K mg (λ_=>E0) g) (rdT K mg (λ_=>E0) cf) (rdE K mg (λ_=>E0) F) σ H Q:=by
 obtain⟨ρ,h,ae,w,re,p⟩:=q;refine⟨ρ,h,ae,w,re,p.bind.imp λit h1 ρ1 H1 l1 w1 p1 J hJ=>?_⟩;have re1:=Dn (re.mono l1) sub;refine⟨λi m ys σ2 H2=>m=it.items.length-i/\i<=it.items.length/\∃ρ2 h2 ae2 acc,Le ρ1 H1 ρ2 H2/\Wd K mg ρ2 h2 H2/\RelE K mg ρ2 H2 ae2 σ2/\RelDs K mg ρ2 H2 acc ys/\
  PostG K mg ρ2 H2 (ES σ) (λd _ ρ' H'=>∀v,RelD K mg ρ' H' d v->Q v H') ((noX (lcL it.guard g cf F (it.items.drop i) acc ae2 h2)).bind dP),
  ⟨_,rfl,QH _,ρ1,h1,jx sub ae,[],Le.refl,w1,re1,.nil,p1⟩,?_⟩
 rintro i m ys σ2 H2 ⟨rfl,hi',ρ2,h2,ae2,acc,l2,w2,re2,rs,p2⟩;by_cases hlt:i<it.items.length
 .have hd:it.items.drop i=it.items[i]::it.items.drop (i+1):=SK hlt;rw[hd] at p2;unfold lcL at p2;split at p2
  .rename_i hG;obtain⟨st,_⟩:=hJ.step l2 w2 hG.1;obtain⟨go,yl⟩:=st i it.items[i] (w_ hlt);refine .inr ⟨go,by rw[<- rs.len];exact hG.2,λys' σ' H'=>∃ρ3 h3 ae3 acc3,Le ρ1 H1 ρ3 H'/\Wd K mg ρ3 h3 H'/\RelE K mg ρ3 H' ae3 σ'/\RelDs K mg ρ3 H' acc3 ys'/\
    PostG K mg ρ3 H' (ES σ) (λd _ ρ' H'=>∀v,RelD K mg ρ' H' d v->Q v H') ((noX (lcL it.guard g cf F (it.items.drop (i+1)) acc3 ae3 h3)).bind dP),
    λys' σ' H' ⟨ρ3,h3,ae3,acc3,q⟩=>⟨_,by omega,rfl,hlt,ρ3,h3,ae3,acc3,q⟩,λx H' hy=>?_⟩
   obtain⟨ly,wy,rx⟩:=yl x H' hy;refine⟨ρ2,h2,ae2,_,wy,re2.mono ly,rx,(l7 (PostG.mono ly p2)).imp λae3 h3 ρ3 H3 l3 w3 p3 σ3 re3=>⟨ρ3,h3,ae3,w3,re3,(l7 p3).imp λb h4 ρ4 H4 l4 w4 p4=>?_⟩⟩;cases b with
   |true=>exact⟨ρ4,h4,ae3,w4,re3.mono l4,(l7 p4).imp λy h5 ρ5 H5 l5 w5 p5 v rv=>⟨ρ5,h5,ae3,acc++[y],(((l2.trans ly).trans l3).trans l4).trans l5,w5,(re3.mono l4).mono l5,((((rs.mono ly).mono l3).mono l4).mono l5).append (.cons rv .nil),p5⟩⟩
   |false=>exact⟨ρ4,h4,ae3,acc,((l2.trans ly).trans l3).trans l4,w4,re3.mono l4,((rs.mono ly).mono l3).mono l4,p4⟩
  .exact p2.elim
 .have hi2:i=it.items.length:=by omega
  subst hi2;rw[List.drop_length] at p2;unfold lcL at p2;split at p2
  .rename_i hG;refine .inl ⟨(hJ.step l2 w2 hG).2,?_⟩;have p3:PostG K mg ρ2 H2 (ES σ) (λd _ ρ' H'=>∀v,RelD K mg ρ' H' d v->Q v H') (dP acc h2):=p2;unfold dP at p3;split at p3
   .rename_i hl;exact⟨by rw[<- rs.len];exact hl,λq hq=>eY w2 rs hq p3⟩
   .exact p3.elim
  .exact p2.elim
def Pp(M:List Str)(kn:List (Str×NameKind))(N:List Str)(sub:Ud)
 (hc:X.calm=true) (hi:DI K mg X ES tg a_ I)
 (hg:∀cl C s₂ H fp,DG K mg (aN X N scope cl C s₂ H fp) (λ_=>E0) tg g) (he:∀cl C s₂ H fp,DE K mg (aN X N scope cl C s₂ H fp) (λ_=>E0) jp F)
 (hM:X.N=M) (hkn:X.env.scope.names=kn) (g_:fZ M scope.names sub N=true)
 (hk:scope.kind=.function) (hnc:∀x∈scope.names,x.2 ≠ .cell) (ci:∀x∈scope.names,x.2=.local->scope.names.lookup x.1=some .local)
 (hfr:iJ kn scope.names=true)
 (hsl:sub.length=N.length) (hs:∀x,foldedSetIterable a_ X.env x=pure x):
 DE K mg X ES (.ListComp jp [⟨tg,a_,[],0⟩] scope pos) (eLC I sub g tY F):=
 PE.imp (N0 M kn N sub hc hi hg he hM hkn g_ hk hnc ci hfr hsl hs) λσ H Q q=>by
  have:=Fg (cf:=tY) σ H Q q
  obtain⟨ρ,h,ae,w,re,p⟩:=this;refine⟨ρ,h,ae,w,re,p.imp λit h1 ρ1 H1 l1 w1 k J hJ=>?_⟩;obtain⟨W,w0,tn⟩:=k J hJ;refine⟨W,w0,λi m ys σ2 H2 hW=>?_⟩;rcases tn i m ys σ2 H2 hW with z |⟨go,hl,Nx,hN,st⟩
  .exact .inl z
  .refine .inr ⟨go,hl,Nx,hN,λx H' hy=>?_⟩;obtain⟨ρ3,h3,ae3,d3,w3,re3,rd3,p3⟩:=st x H' hy;refine⟨ρ3,h3,ae3,d3,w3,re3,rd3,p3.imp λae4 h4 ρ4 H4 l4 w4 k4 σ4 re4=>?_⟩;obtain⟨ρ5,h5,ae5,w5,re5,p5⟩:=k4 σ4 re4;exact p5 ρ5 _ Le.refl w5
def L6(σ:St)(H:Hp)(Q:VK)(q:rdE K mg ES (eLC I sub g tY F) σ H Q):jc (rdI K mg ES I) sub (rdG K mg (λ_=>E0) g) B8 (rdE K mg (λ_=>E0) F) σ H Q:=by
 have:=Fg (cf:=tY) σ H Q q
 obtain⟨ρ,h,ae,w,re,p⟩:=this;refine⟨ρ,h,ae,w,re,p.imp λit h1 ρ1 H1 l1 w1 k J hJ=>?_⟩;obtain⟨W,w0,tn⟩:=k J hJ;refine⟨W,w0,λi m ys σ2 H2 hW=>?_⟩;rcases tn i m ys σ2 H2 hW with z |⟨go,hl,Nx,hN,st⟩
 .exact .inl z
 .refine .inr ⟨go,hl,Nx,hN,λx H' hy=>?_⟩;obtain⟨ρ3,h3,ae3,d3,w3,re3,rd3,p3⟩:=st x H' hy;refine⟨ρ3,h3,ae3,d3,w3,re3,rd3,p3.imp λae4 h4 ρ4 H4 l4 w4 k4 σ4 re4=>?_⟩;obtain⟨ρ5,h5,ae5,w5,re5,p5⟩:=k4 σ4 re4;exact p5 ρ5 _ Le.refl w5
def G4(ht:∀σ H Q,rdE K mg ES F σ H Q->t σ H Q)(De:Ends)(σ:St)(H:Hp)(q:rdS K mg ES (iC F (gN i)) De σ H):uR t (m8 i) De σ H:=by obtain⟨ρ,h,ae,w,re,p⟩:=q;exact ht σ H _ ⟨ρ,h,ae,w,re,bQ p re λd h1 ρ1 H1 l1 w1 re1 p1 v rv=>gB p1 w1 (re1.set i rv)⟩
def O9(M:List Str)(kn:List (Str×NameKind))(N:List Str)(sub:Ud)
 (hc:X.calm=true) (hN:X.N.Nodup) (hix:X.N[iT]?=some xT) (hxl:Loc X.env.scope xT) (hi:DI K mg X ES tg a_ I)
 (hg:∀cl C s₂ H fp,DG K mg (aN X N scope cl C s₂ H fp) (λ_=>E0) tg g) (he:∀cl C s₂ H fp,DE K mg (aN X N scope cl C s₂ H fp) (λ_=>E0) jp F)
 (hsw:swapsWith (.ListComp jp [⟨tg,a_,[],0⟩] scope pos) (some (.Name xT px)) spos.line X.env=pure true)
 (hM:X.N=M) (hkn:X.env.scope.names=kn) (g_:fZ M scope.names sub N=true)
 (hk:scope.kind=.function) (hnc:∀x∈scope.names,x.2 ≠ .cell) (ci:∀x∈scope.names,x.2=.local->scope.names.lookup x.1=some .local)
 (hfr:iJ kn scope.names=true)
 (hsl:sub.length=N.length) (hs:∀x,foldedSetIterable a_ X.env x=pure x) (hf:X.fn xT=true\/X.env.scope.names.lookup xT=some .local):
 DS K mg X ES (.Assign [.Name xT px] (.ListComp jp [⟨tg,a_,[],0⟩] scope pos) spos) (iC (eLC I sub g tY F) (gN iT)):=
 PS.imp (NF M kn N sub hc hN hix hxl hi hg he hsw hM hkn g_ hk hnc ci hfr hsl hs hf) (G4 L6)
end
noncomputable def whN(c:MT)(B:MS):Nat->MS
 |0,_,_=>.stuck
 |k+1,ae,h=>(c ae h).toS ae λb h1=>if b=true then (B ae h1).loop (whN c B k) else .nx ae h1
open Classical in
def sWh(c:MT)(B:MS):MS:=λae h=>if q:∃k,whN c B k ae h ≠ .stuck then whN c B q.choose ae h else .stuck
theorem mr:∀{k:Nat}{ae:AE}{h:AH},whN c B k ae h ≠ .stuck->whN c B (k+1) ae h=whN c B k ae h
 |0,_,_,q=>absurd rfl q
 |
  k+1,ae,h,q=>by
  have e1:whN c B (k+2) ae h=(c ae h).toS ae λb h1=>if b=true then (B ae h1).loop (whN c B (k+1)) else .nx ae h1:=rfl
  have e2:whN c B (k+1) ae h=(c ae h).toS ae λb h1=>if b=true then (B ae h1).loop (whN c B k) else .nx ae h1:=rfl
  rw[e2] at q;rw[e1,e2];cases r:c ae h with
  |exc _ _=>rfl
  |stuck=>rfl
  |
   ok b h1=>
   rw[r] at q;cases b with
   |false=>rfl
   |
    true=>
    have q':(B ae h1).loop (whN c B k) ≠ .stuck:=q;show (B ae h1).loop (whN c B (k+1))=(B ae h1).loop (whN c B k);cases s:B ae h1 with
    |nx a2 h2=>rw[s] at q';exact mr q'
    |ct a2 h2=>rw[s] at q';exact mr q'
    |_=>rfl
def AV(q:whN c B k ae h ≠ .stuck)(hj:k<=j):whN c B j ae h=whN c B k ae h:=by
 induction hj with
 |refl=>rfl
 |step _ ih=>rw[mr (by rw[ih];exact q),ih]
def Az(q:whN c B k ae h ≠ .stuck):sWh c B ae h=whN c B k ae h:=by
 have hq:∃k,whN c B k ae h ≠ .stuck:=⟨k,q⟩;unfold sWh;rw[dif_pos hq];rcases Nat.le_total hq.choose k with z |z
 .exact (AV hq.choose_spec z).symm
 .exact AV q z
section
variable{K:W.Frag}{mg:Ua}{X:Cx}{ES:St->XK}{c:Expr}{cf:MT}{U:MS}{sts:List Stmt}{pos:Pos}
def CV(hp:PassesOwn (model X.prog X.w) X.A X.env X.xe)(hc:DT K mg X ES c cf)(hb:DSs K mg X ES sts U):DS K mg X ES (.While c sts [] pos) (sWh cf U):=by
 refine PS.imp (Ek hp hc hb) λDe σ H q_=>q_.el λρ h ae w re p=>?_;have hx:∃k,whN cf U k ae h ≠ .stuck:=SJ λz=>by unfold sWh at p;rw[dif_neg z] at p;exact p.elim
 obtain⟨k,hk⟩:=hx;rw[Az hk] at p;refine⟨λm σ2 H2=>∃ρ2 h2 ae2,Wd K mg ρ2 h2 H2/\RelE K mg ρ2 H2 ae2 σ2/\PostS K mg ρ2 H2 De ES (whN cf U m ae2 h2),⟨k,ρ,h,ae,w,re,p⟩,?_⟩;rintro m σ2 H2 ⟨ρ2,h2,ae2,w2,re2,p2⟩;cases m with
 |zero=>exact p2.elim
 |
  succ m=>
  refine⟨ρ2,h2,ae2,w2,re2,bQ p2 re2 λb h3 ρ3 H3 l3 w3 re3 p3=>?_⟩;cases b with
  |true=>exact⟨λσ' H'=>∃ρ4 h4 ae4,Wd K mg ρ4 h4 H'/\RelE K mg ρ4 H' ae4 σ'/\PostS K mg ρ4 H' De ES (whN cf U m ae4 h4),λσ' H' q=>⟨m,Nat.lt_succ_self _,q⟩,ρ3,h3,ae2,w3,re3,sO p3 λae4 h4 ρ4 H4 σ4 l4 w4 re4 p4=>⟨ρ4,h4,ae4,w4,re4,p4⟩⟩
  |false=>exact gB p3 w3 re3
end
noncomputable def uB:Fn:=λds h=>match ds with
 | [d]=>match dE h d with
  |some xs=>.ok (.int xs.length) h
  |none=>match d with
   |.str z=>if z.length<=16777216 then .ok (.int z.length) h else .stuck
   |_=>.stuck
 |_=>.stuck
noncomputable def yr:Fn:=λds h=>match ds with
 | [.int i]=>.ok (.int (if i<0 then -i else i)) h
 |_=>.stuck
noncomputable def qF:Fn:=λds h=>match ds with
 | [.int i,.int j]=>.ok (.int (if j>i then j else i)) h
 |_=>.stuck
noncomputable def qZ:Fn:=λds h=>match ds with
 | [.int i,.int j]=>.ok (.int (if j<i then j else i)) h
 |_=>.stuck
noncomputable def hZ:List D->Option (List Bool)
 | []=>some []
 |.bl b::r=>(hZ r).map (b :: ·)
 |_=>none
noncomputable def eQ:List D->Option (List Int)
 | []=>some []
 |.int b::r=>(eQ r).map (b :: ·)
 |_=>none
theorem uT:∀{ds:List D}{bs:List Bool},hZ ds=some bs->ds=bs.map D.bl
 | [],bs,e=>by cases e;rfl
 |
  .bl b::r,bs,e=>by
  have e':(hZ r).map (b :: ·)=some bs:=e;cases q:hZ r with
  |none=>rw[q] at e';cases e'
  |some z=>rw[q] at e';cases e';rw[uT q];rfl
theorem jT:∀{ds:List D}{bs:List Int},eQ ds=some bs->ds=bs.map D.int
 | [],bs,e=>by cases e;rfl
 |
  .int b::r,bs,e=>by
  have e':(eQ r).map (b :: ·)=some bs:=e;cases q:eQ r with
  |none=>rw[q] at e';cases e'
  |some z=>rw[q] at e';cases e';rw[jT q];rfl
noncomputable def tF:Fn:=λds h=>match ds with
 | [.ref n]=>match (aM h n).bind hZ with
  |some bs=>.ok (.bl (bs.all id)) h
  |none=>.stuck
 |_=>.stuck
noncomputable def rq:Fn:=λds h=>match ds with
 | [.ref n]=>match (aM h n).bind eQ with
  |some ns=>.ok (.int ns.sum) h
  |none=>.stuck
 |_=>.stuck
def ku:Fn:=λds h=>match ds with
 | [d]=>match dE h d with
  |some xs=>.ok (.tup xs) h
  |none=>.stuck
 |_=>.stuck
noncomputable def xg:Fn:=λds h=>match ds with
 | [.int i]=>.ok (.int i) h
 | [.bl b]=>.ok (.int (if b then 1 else 0)) h
 |_=>.stuck
section
variable{K:W.Frag}{mg:Ua}{X:Cx}
def IK:aV K mg (λxs H Q=>(∃p ys,xs=[.ref p]/\(SqL K H p ys\/SqT K H p ys)/\Q (.int ys.length) H)\/(∃z,xs=[.str z]/\z.length<=sizeLine/\Q (.int z.length) H)) uB:=λρ h H ds vs Q E w rs p=>by
 unfold uB at p;split at p
 .cases
   rs with
  |
   cons r rs=>
   cases rs;split at p
   .rename_i xs e;obtain⟨pa,vs,rfl,hq,rs⟩:=eP w r e;exact .inl ⟨_,_,rfl,hq,by rw[<- rs.len];exact az w (.int _) p⟩
   .split at p
    .cases r;split at p
     .rename_i hl;exact .inr ⟨_,rfl,hl,az w (.int _) p⟩
     .exact p.elim
    .exact p.elim
 .exact p.elim
def Qd(h:X.K=K):CallR X (.builtin "len") (λxs H Q=>(∃p ys,xs=[.ref p]/\(SqL K H p ys\/SqT K H p ys)/\Q (.int ys.length) H)\/(∃z,xs=[.str z]/\z.length<=sizeLine/\Q (.int z.length) H)):=by subst h;exact rn.or ud
def KC:aV K mg (λxs H Q=>∃i,xs=[.int i]/\Q (.int (if i<0 then -i else i)) H) yr:=λρ h H ds vs Q E w rs p=>by
 unfold yr at p;split at p
 .cases rs with
  |cons r rs=>cases r;cases rs;exact⟨_,rfl,az w (.int _) p⟩
 .exact p.elim
def Il:aV K mg (λxs H Q=>∃i j,xs=[.int i,.int j]/\Q (.int (if j>i then j else i)) H) qF:=λρ h H ds vs Q E w rs p=>by
 unfold qF at p;split at p
 .cases rs with
  |cons r rs=>cases rs with |cons r2 rs=>cases r;cases r2;cases rs;exact⟨_,_,rfl,az w (.int _) p⟩
 .exact p.elim
def GA:aV K mg (λxs H Q=>∃i j,xs=[.int i,.int j]/\Q (.int (if j<i then j else i)) H) qZ:=λρ h H ds vs Q E w rs p=>by
 unfold qZ at p;split at p
 .cases rs with
  |cons r rs=>cases rs with |cons r2 rs=>cases r;cases r2;cases rs;exact⟨_,_,rfl,az w (.int _) p⟩
 .exact p.elim
def L8:aV K mg (λxs H Q=>∃(a:Addr) (bs:List Bool),xs=[.ref a]/\SqL K H a (bs.map V.bl)/\Q (.bl (bs.all id)) H) tF:=λρ h H ds vs Q E w rs p=>by
 unfold tF at p;split at p
 .cases
   rs with
  |
   cons r rs=>
   cases r with
   |
    ref ea=>
    cases rs;split at p
    .rename_i bs e;obtain⟨xs,q,e2⟩:=QK.mp e
     .obtain⟨vs,h1,h2⟩:=a9 w ea q;rw[uT e2] at h2;rw[h2.bls] at h1;exact⟨_,bs,rfl,h1,az w (.bl _) p⟩
    .exact p.elim
 .exact p.elim
def JG:aV K mg (λxs H Q=>∃(a:Addr) (ns:List Int),xs=[.ref a]/\SqL K H a (ns.map V.int)/\Q (.int ns.sum) H) rq:=λρ h H ds vs Q E w rs p=>by
 unfold rq at p;split at p
 .cases
   rs with
  |
   cons r rs=>
   cases r with
   |
    ref ea=>
    cases rs;split at p
    .rename_i bs e;obtain⟨xs,q,e2⟩:=QK.mp e
     .obtain⟨vs,h1,h2⟩:=a9 w ea q;rw[jT e2] at h2;rw[h2.ints] at h1;exact⟨_,bs,rfl,h1,az w (.int _) p⟩
    .exact p.elim
 .exact p.elim
def EF:aV K mg (λxs H Q=>∃p ys,xs=[.ref p]/\((SqL K H p ys/\∀l,H l=none->Q (.ref l) (upd H l (.tup ys)))\/(SqT K H p ys/\Q (.ref p) H))) ku:=λρ h H ds vs Q E w rs p=>by
 unfold ku at p;split at p
 .cases rs with
  |
   cons r rs=>
   cases rs;split at p
   .rename_i xs e;obtain⟨pa,vs,rfl,hq,rs⟩:=eP w r e;rcases hq with hq |hq
    .exact⟨_,_,rfl,.inl ⟨hq,λl hl=>gZ w rs hl p⟩⟩
    .exact⟨_,_,rfl,.inr ⟨hq,az w (.tup hq rs) p⟩⟩
   .exact p.elim
 .exact p.elim
def Mu:aV K mg (λxs H Q=>(∃i,xs=[.int i]/\Q (.int i) H)\/∃k,xs=[.bl k]/\Q (.int (if k then 1 else 0)) H) xg:=λρ h H ds vs Q E w rs p=>by
 unfold xg at p;split at p
 .cases rs with
  |cons r rs=>cases r;cases rs;exact .inl ⟨_,rfl,az w (.int _) p⟩
 .cases rs with
  |cons r rs=>cases r;cases rs;exact .inr ⟨_,rfl,az w (.int _) p⟩
 .exact p.elim
def GZ(h:X.K=K):CallR X (.type "tuple") (λxs H Q=>∃p ys,xs=[.ref p]/\((SqL K H p ys/\∀l,H l=none->Q (.ref l) (upd H l (.tup ys)))\/(SqT K H p ys/\Q (.ref p) H))):=by subst h;exact qc
end
inductive Cl where
 |b (n:String) |o (x:Str)
 deriving DecidableEq
noncomputable def tyD(h:AH):D->Option Cl
 |.non=>some (.b "NoneType")
 |.bl _=>some (.b "bool")
 |.int _=>some (.b "int")
 |.str _=>some (.b "str")
 |.tup _=>some (.b "tuple")
 |.exc x=>some (.o x)
 |.ref n=>match h[n]? with
  |some (.lst _)=>some (.b "list")
  |some (.fz _)=>some (.b "list")
  |some (.dct _)=>some (.b "dict")
  |_=>none
 |_=>none
noncomputable def clD:D->Option Cl
 |.ty n=>some (.b n)
 |.glb x=>some (.o x)
 |_=>none
def ClV(mg:Ua):Cl->Value->Prop
 |.b n,v=>v=.type n
 |.o x,v=>∃a,v=.ref a/\mg x=some (.ref a)
abbrev jG:=List (Cl×Cl×Bool)
structure KitsOk(K:W.Frag)(mg:Ua)(kt:jG):Prop where
 one:∀p∈kt,∀t v,ClV mg p.1 t->ClV mg p.2.1 v->W.kitOne K t v=some p.2.2
 xc:∀p∈kt,∀x C,p.1=.o x->mg x=some (.ref C)->XCls K C
noncomputable def kit(kt:jG)(t c:Cl):Option Bool:=(kt.find? λp=>decide (p.1=t)&&decide (p.2.1=c)).map (·.2.2)
noncomputable def fP(kt:jG)(t:Cl):List Cl->Option Bool
 | []=>some false
 |c::r=>match kit kt t c with
  |some true=>some true
  |some false=>fP kt t r
  |none=>none
noncomputable def uD(kt:jG):Fn:=λds h=>match ds with
 | [d,c]=>match tyD h d with
  |some t=>match c with
   |.tup cs=>match cs.mapM clD with
    |some (c0::cr)=>match fP kt t (c0::cr),kit kt t c0 with
     |some b,some _=>.ok (.bl b) h
     |_,_=>.stuck
    |_=>.stuck
   |c=>match clD c with
    |some cl=>match kit kt t cl with
     |some b=>.ok (.bl b) h
     |none=>.stuck
    |none=>.stuck
  |none=>.stuck
 |_=>.stuck
def oI(e:kit kt t c=some b):(t,c,b)∈kt:=by
 unfold kit at e;cases q:kt.find? (λp=>decide (p.1=t)&&decide (p.2.1=c)) with
 |none=>rw[q] at e;cases e
 |some p=>rw[q] at e;have h1:=List.find?_some q;have h2:=List.mem_of_find?_eq_some q;simp only[u_,Ss] at h1;obtain⟨p1,p2,p3⟩:=p;have e3:p3=b:=J_ e;obtain⟨rfl,rfl⟩:=h1;subst e3;exact h2
section
variable{K:W.Frag}{mg:Ua}{X:Cx}{ρ:List Addr}{H:Hp}{h:AH}
def vQ(ok:KitsOk K mg kt)(w:Wd K mg ρ h H)(r:RelD K mg ρ H d v)(e:tyD h d=some t)(k:kit kt t c=some b):∃tv,TyX K H v tv/\ClV mg t tv:=by
 cases r with
 |non=>cases e;exact⟨_,.of .non,rfl⟩
 |bl=>cases e;exact⟨_,.of (.bl _),rfl⟩
 |int=>cases e;exact⟨_,.of (.int _),rfl⟩
 |str=>cases e;exact⟨_,.of (.str _),rfl⟩
 |tup q rs=>cases e;exact⟨_,.sqT q,rfl⟩
 |exc m ex=>cases e;exact⟨_,.exc ex (ok.xc _ (oI k) _ _ rfl m),_,rfl,m⟩
 |
  ref ea=>
  unfold tyD at e;dsimp only at e;split at e
  .rename_i e1;cases e;obtain⟨vs,h1,h2⟩:=w.ob _ _ _ ea e1;exact⟨_,.of (.lst h1),rfl⟩
  .rename_i e1;cases e;obtain⟨o,vs,h1,h2⟩:=w.ob _ _ _ ea e1;exact⟨_,.of (.frz h1),rfl⟩
  .rename_i e1;cases e;obtain⟨ws,h1,_⟩:=w.ob _ _ _ ea e1;exact⟨_,.of (.dK h1),rfl⟩
  .cases e
 |_=>cases e
def vG(r:RelD K mg ρ H d v)(e:clD d=some c):∃cv,fD v=some cv/\ClV mg c cv:=by
 cases r with
 |ty n=>cases e;exact⟨_,rfl,rfl⟩
 |glb m=>cases e;exact⟨_,rfl,_,rfl,m⟩
 |_=>cases e
def DM:∀{ds:List D}{vs:List V}{cs:List Cl},RelDs K mg ρ H ds vs->ds.mapM clD=some cs->∃cvs,vs.mapM fD=some cvs/\Paired (ClV mg) cs cvs:=by
 intro ds;induction ds with
 |nil=>intro vs cs r e;cases r;have e':some ([]:List Cl)=some cs:=e;cases e';exact⟨[],rfl,.nil⟩
 |
  cons d ds ih=>
  intro vs cs r e;cases r with
  |
   cons r rr=>
   rw[Sw] at e;cases q:clD d with
   |none=>rw[q] at e;cases e
   |
    some c=>
    rw[q] at e;cases q2:ds.mapM clD with
    |none=>rw[q2] at e;cases e
    |some cs'=>rw[q2] at e;have e':some (c::cs')=some cs:=e;cases e';obtain⟨cv,h1,h2⟩:=vG r q;obtain⟨cvs,h3,h4⟩:=ih rr q2;refine⟨cv::cvs,?_,.cons h2 h4⟩;rw[Sw,h1,h3];rfl
def zA(ok:KitsOk K mg kt)(ht:ClV mg t tv):∀{cs:List Cl}{cvs:List Value}{b:Bool},Paired (ClV mg) cs cvs->fP kt t cs=some b->W.kitAny K tv cvs=some b:=by
 intro cs;induction cs with
 |nil=>intro cvs b r e;cases r;cases e;rfl
 |
  cons c cs ih=>
  intro cvs b r e;cases r with
  |
   cons r rr=>
   unfold fP at e;unfold W.kitAny;cases q:kit kt t c with
   |none=>rw[q] at e;cases e
   |
    some z=>
    rw[q] at e;rw[ok.one _ (oI q) _ _ ht r];cases z with
    |true=>exact e
    |false=>exact ih rr e
def zD:CallR X (.builtin "isinstance") (λxs H Q=>∃x tp cs t vs b,xs=[x,.ref tp]/\SqT X.K H tp cs/\TyX X.K H x t/\cs.mapM fD=some vs/\W.kitAny X.K t vs=some b/\Q (.bl b) H):=by intro pins s σ H xs us Q I r h;obtain⟨x,tp,cs,t,vs,b,rfl,ht,ty,hc,hk,q⟩:=h;obtain⟨u,w',rfl,rx,rc⟩:=qJ r;cases rc;obtain⟨its,rv,⟨o,e,c,n,d⟩,_⟩:=I.tuple ht;obtain rfl:=pH hc rv;obtain⟨Hh,Z,p,hne⟩:=wI I rx ty;obtain⟨oc,od,odt,osl⟩:=o;have c':oc=.type "tuple":=c;have d':odt=.seq its.toArray n:=d;subst c' d';exact W.kia_tup Z I.kIn p e hk hne λtk=>⟨.bl b,H,I.tok _,rfl,q⟩
def Oo(hK:X.K=K):CallR X (.builtin "isinstance") (λxs H Q=>(∃x c t v b,xs=[x,c]/\TyX K H x t/\fD c=some v/\W.kitOne K t v=some b/\Q (.bl b) H)\/
 (∃x tp cs t vs b,xs=[x,.ref tp]/\SqT K H tp cs/\TyX K H x t/\cs.mapM fD=some vs/\W.kitAny K t vs=some b/\Q (.bl b) H)):=by subst hK;exact Cy.or zD
def Lj(ok:KitsOk K mg kt):aV K mg (λxs H Q=>(∃x c t v b,xs=[x,c]/\TyX K H x t/\fD c=some v/\W.kitOne K t v=some b/\Q (.bl b) H)\/
 (∃x tp cs t vs b,xs=[x,.ref tp]/\SqT K H tp cs/\TyX K H x t/\cs.mapM fD=some vs/\W.kitAny K t vs=some b/\Q (.bl b) H)) (uD kt):=λρ h H ds vs Q E w rs p=>by
 unfold uD at p;split at p
 .cases
   rs with
  |
   cons r rs=>
   cases rs with
   |
    cons r2 rs=>
    cases rs;split at p
    .rename_i t e1;split at p
     .split
       at p
      .rename_i cs c0 cr e2;split at p
       .rename_i b b' e3 e4;cases r2 with
        |tup q rs2=>obtain⟨tv,h1,h2⟩:=vQ ok w r e1 e4;obtain⟨cvs,h3,h4⟩:=DM rs2 e2;exact .inr ⟨_,_,_,tv,cvs,b,rfl,q,h1,h3,zA ok h2 h4 e3,az w (.bl _) p⟩
       .exact p.elim
      .exact p.elim
     .split at p
      .rename_i cl e2;split at p
       .rename_i b e3;obtain⟨tv,h1,h2⟩:=vQ ok w r e1 e3;obtain⟨cv,h3,h4⟩:=vG r2 e2;exact .inl ⟨_,_,tv,cv,b,rfl,h1,h3,ok.one _ (oI e3) _ _ h2 h4,az w (.bl _) p⟩
       .exact p.elim
      .exact p.elim
    .exact p.elim
 .exact p.elim
end
def MtD(K:W.Frag)(mg:Ua)(r:V->List V->Hp->VK->Prop)(g:D->List D->AH->R D):Prop:=∀ρ h H dx ds x vs Q E,Wd K mg ρ h H->RelD K mg ρ H dx x->RelDs K mg ρ H ds vs->cQ K mg ρ H Q E (g dx ds h)->r x vs H Q
noncomputable def jt(h:AH):D->Bool
 |.ref n=>(aM h n).isSome
 |_=>false
noncomputable def eM(g:D->List D->AH->R D)(F:ME)(A:MA):ME:=λae h=>(F ae h).bind λx h1=>if jt h1 x=true then (A ae h1).bind λds h2=>g x ds h2 else .stuck
def eM0(g:D->List D->AH->R D)(F:ME):ME:=λae h=>(F ae h).bind λx h1=>if jt h1 x=true then g x [] h1 else .stuck
section
variable{K:W.Frag}{mg:Ua}{X:Cx}{ES:St->XK}{o e:Expr}{es:List Expr}{F:ME}{A:MA}
def pj(w:Wd K mg ρ h H)(r:RelD K mg ρ H d v)(q:jt h d=true):tyV K "list" v H:=by
 cases r with
 |ref ea=>obtain⟨xs,e⟩:=Rn.mp q;obtain⟨vs,h1,_⟩:=a9 w ea e;exact .inl ⟨rfl,vs,h1⟩
 |_=>cases q
def de_m{name:Str}{id:String}{apos cpos:Pos}{r:V->List V->Hp->VK->Prop}{g:D->List D->AH->R D}(hK:X.K=K)(slot:Slot "list" name id)(hty:typeOf (.builtin id)=pure (.type "method_descriptor"))(hm:MtM X id r)(hd:MtD K mg r g)(ho:DE K mg X ES o F)(ha:DA K mg X ES (e::es) A)
 (d_:attributeBase o name X.env (eval o X.env)=eval o X.env)
 (hfew:((backTo cpos (starEach (e::es) X.env)).all (λx=>!x.1)&&(backToKw cpos (keywordEach [] X.env)).all (λx=>x.1.isSome)
  && decide ((e::es).length+([]:List Keyword).length+(if ([]:List Keyword).isEmpty then 0 else 1)<30))=true)
 (f_:(apos.endLine==cpos.line)=true) (hs:starEach (e::es) X.env=(false,eval e X.env)::starEach es X.env) (c_:(backTo cpos (starEach es X.env)).any (·.1)=false):
 DE K mg X ES (.Call (.Attribute o name apos) (e::es) [] cpos) (eM g F A):=by
 subst hK;refine PE.imp (Fs PySem.F.plainAttrs_list slot hty hm ho ha d_ hfew f_ hs c_) λσ H Q q_=>q_.el λρ h ae w re p=>⟨ρ,h,ae,w,re,p.bind.imp λdx h1 ρ1 H1 l1 w1 p1 x rx=>?_⟩;split at p1
 .rename_i hl;exact⟨pj w1 rx hl,ρ1,h1,ae,w1,re.mono l1,p1.bind.imp λds h2 ρ2 H2 l2 w2 p2 vs rs=>hd ρ2 h2 H2 dx ds x vs Q _ w2 (rx.mono l2) rs p2⟩
 .exact p1.elim
def O8{name:Str}{id:String}{apos cpos:Pos}{r:V->List V->Hp->VK->Prop}{g:D->List D->AH->R D}(hK:X.K=K)(slot:Slot "list" name id)(hty:typeOf (.builtin id)=pure (.type "method_descriptor"))(hm:MtM X id r)(hd:MtD K mg r g)(ho:DE K mg X ES o F)
 (d_:attributeBase o name X.env (eval o X.env)=eval o X.env) (f_:(apos.endLine==cpos.line)=true):DE K mg X ES (.Call (.Attribute o name apos) [] [] cpos) (eM0 g F):=by
 subst hK;refine PE.imp (Ks PySem.F.plainAttrs_list slot hty hm ho d_ f_) λσ H Q q_=>q_.el λρ h ae w re p=>⟨ρ,h,ae,w,re,p.bind.imp λdx h1 ρ1 H1 l1 w1 p1 x rx=>?_⟩;split at p1
 .rename_i hl;exact⟨pj w1 rx hl,hd ρ1 h1 H1 dx [] x [] Q _ w1 rx .nil p1⟩
 .exact p1.elim
end
noncomputable def jA(h:AH)(d:D)(f:Nat->List D->R D):R D:=match d with
 |.ref n=>match h[n]? with
  |some (.lst xs)=>f n xs
  |_=>.stuck
 |_=>.stuck
noncomputable def ky:D->List D->AH->R D:=λx ds h=>jA h x λn xs=>match ds with
 | [d]=>if xs.length<16777216 then .ok .non (h.set n (.lst (xs++[d]))) else .stuck
 |_=>.stuck
noncomputable def xZ:D->List D->AH->R D:=λx ds h=>jA h x λn xs=>match ds with
 | []=>match xs[xs.length-1]? with
  |some d=>.ok d (h.set n (.lst xs.dropLast))
  |none=>.stuck
 |_=>.stuck
noncomputable def gz(h:AH)(d:D):List D->Option (List Bool)
 | []=>some []
 |x::r=>match ke h x d,gz h d r with
  |some b,some bs=>some (b::bs)
  |_,_=>none
noncomputable def jY:D->List D->AH->R D:=λx ds h=>match x,ds with
 |.ref n,[d]=>match (aM h n).bind (gz h d) with
  |some bs=>if bs.idxOf true<bs.length then .ok (.int (bs.idxOf true:Nat)) h else .stuck
  |none=>.stuck
 |_,_=>.stuck
section
variable{K:W.Frag}{mg:Ua}{X:Cx}{ρ:List Addr}{H:Hp}{h:AH}
def kg(w:Wd K mg ρ h H)(r:RelD K mg ρ H d v)(p:cQ K mg ρ H Q E (jA h d f)):
 ∃n xs a vs,d=.ref n/\h[n]?=some (.lst xs)/\ρ[n]?=some a/\v=.ref a/\H a=some (.lst vs)/\RelDs K mg ρ H xs vs/\cQ K mg ρ H Q E (f n xs):=by
 unfold jA at p;split at p
 .cases r with
  |
   ref ea=>
   split at p
   .rename_i n xs e;obtain⟨vs,h1,h2⟩:=w.ob _ _ _ ea e;exact⟨_,_,_,vs,rfl,e,ea,rfl,h1,h2,p⟩
   .exact p.elim
 .exact p.elim
def mi(w:Wd K mg ρ h H)(ea:ρ[n]?=some a)(e:H a=some (.lst vs))(rs:RelDs K mg ρ H ys ws)(rd:RelD K mg ρ H d v)(p:cQ K mg ρ H Q E (.ok d (h.set n (.lst ys)))):Q v (upd H a (.lst ws)):=by have l:Le ρ H ρ (upd H a (.lst ws)):=kO e qR;exact p ρ _ l (w.write ea e qR ⟨ws,aW,rs.mono l⟩) v (rd.mono l)
def zk:MtD K mg nQ ky:=λρ h H dx ds x vs Q E w rx rs p=>by
 obtain⟨n,xs,a,us,rfl,e,ea,rfl,h1,h2,p⟩:=kg w rx p;split at p
 .cases rs with
  |
   cons r rs=>
   cases rs;split at p
   .rename_i hl;exact⟨a,us,_,rfl,rfl,h1,by rw[<- h2.len];exact hl,mi w ea h1 (h2.append (.cons r .nil)) .non p⟩
   .exact p.elim
 .exact p.elim
def Lb:MtD K mg B9 xZ:=λρ h H dx ds x vs Q E w rx rs p=>by
 obtain⟨n,xs,a,us,rfl,e,ea,rfl,h1,h2,p⟩:=kg w rx p;split at p
 .cases rs;split at p
  .rename_i d ed;obtain⟨v,ev,rv⟩:=h2.getD ed;rw[h2.len] at ev;refine⟨a,us,v,rfl,rfl,h1,ev,mi w ea h1 ?_ rv p⟩;rw[Sv,Sv,h2.len];exact h2.take _
  .exact p.elim
 .exact p.elim
inductive EqsR(K:W.Frag)(H:Hp)(y:V)(pd:PyData):List V->List Bool->Prop where
 |nil:EqsR K H y pd [] []
 |cons {x:V}{px:PyData}{xs:List V}{bs:List Bool} (rx:Rep K H x px) (hx:shp px=true) (r:EqsR K H y pd xs bs):EqsR K H y pd (x::xs) (PyData.eqv px pd::bs)
def rEqs(K:W.Frag)(H:Hp)(l:Addr)(y:V)(bs:List Bool):Prop:=∃xs pd,SqL K H l xs/\Rep K H y pd/\shp pd=true/\EqsR K H y pd xs bs
def Gz(w:Wd K mg ρ h H)(ry:RelD K mg ρ H d y)(es:dO 164 h d=some pd):∀{xs:List D}{vs:List V}{bs:List Bool},RelDs K mg ρ H xs vs->gz h d xs=some bs->EqsR K H y pd vs bs:=by
 intro xs;induction xs with
 |nil=>intro vs bs r e;cases r;have e':some ([]:List Bool)=some bs:=e;cases e';exact .nil
 |
  cons x xs ih=>
  intro vs bs r e;cases r with
  |
   cons r rr=>
   unfold gz at e;split at e
   .rename_i b bs' e1 e2;cases e;unfold ke at e1;rw[es] at e1;split at e1
    .rename_i a c e3 e4;cases e4;split at e1
     .rename_i hs;cases e1;exact .cons (fL w 164 r e3) hs.1 (ih rr e2)
     .cases e1
    .cases e1
   .cases e
theorem CL:∀{xs:List D}{bs:List Bool},gz h d xs=some bs->xs=[]\/∃pd,dO 164 h d=some pd/\shp pd=true
 | [],_,_=>.inl rfl
 |
  x::xs,bs,e=>by
  right;unfold gz at e;split at e
  .rename_i b bs' e1 e2;unfold ke at e1;split at e1
   .rename_i a c e3 e4;split at e1
    .rename_i hs;exact⟨c,e4,hs.2⟩
    .cases e1
   .cases e1
  .cases e
def Ct(I:Inv X pins σ H s)(hu:X.A.units+190<cLine)(ry:Rep X.K H y pd)(rv:RelV y v)(hy:shp pd=true):∃e:Value->Bool,∀{xs:List V}{bs:List Bool}{its:List Value},EqsR X.K H y pd xs bs->Vals xs its->its.map e=bs/\∀u∈its,SeqAt.EqAt X.A.in1 s u v (e u):=by
 classical
 obtain⟨as,q1⟩:=ry.reads I rv;refine⟨λu=>if q:∃d as,Reads s.heap u d as/\shp d=true then PyData.eqv q.choose pd else false,λ{xs bs its} r rr=>?_⟩;induction r generalizing its with
 |nil=>cases rr;exact⟨rfl,λu hu=>nomatch hu⟩
 |
  cons rx hx r ih=>
  rename_i x px xs bs;cases rr with
  |
   cons r1 rr=>
   rename_i u us;obtain⟨ih1,ih2⟩:=ih rr;obtain⟨as1,q2⟩:=rx.reads I r1;have hq:∃d as,Reads s.heap u d as/\shp d=true:=⟨px,as1,q2,hx⟩;have e1:(if q:∃d as,Reads s.heap u d as/\shp d=true then PyData.eqv q.choose pd else false)=PyData.eqv px pd:=by
    rw[dif_pos hq];obtain⟨as2,q3,hs3⟩:=hq.choose_spec
    have:=SeqAt.Reads.unique px hq.choose u _ _ (fX hx) q2 q3
    rw[<- this]
   refine⟨by rw[t_,ih1,e1],λw hw=>?_⟩;rcases I_.mp hw with rfl |hw
   .dsimp only;rw[e1];exact SeqAt.eqAt_reads px pd X.A.in1 s _ _ _ _ q2 q1 (fX hx) (fX hy) (ml hx (by have:X.A.in1.units=X.A.units+1:=rfl;rw[this];omega))
   .exact ih2 w hw
def kE(K:W.Frag):V->List V->Hp->VK->Prop:=λx vs H Q=>∃l y bs,x=.ref l/\vs=[y]/\rEqs K H l y bs/\bs.idxOf true<bs.length/\Q (.int (bs.idxOf true:Nat)) H
def EqsR.len(r:EqsR K H y pd xs bs):xs.length=bs.length:=by
 induction r with
 |nil=>rfl
 |cons _ _ _ ih=>rw[C_,C_,ih]
def DZ(hu:X.A.units+190<cLine):MtM X "list.index" (kE X.K):=by
 intro pins s σ H x vs v us Q I rx rv h;obtain⟨l,y,bs,rfl,rfl,⟨xs,pd,hq,ry,hy,re⟩,hi,q⟩:=h;cases rx;obtain⟨u,rfl,ru⟩:=rv.one;obtain⟨e,he⟩:=Ct I hu ry ru hy;obtain⟨its,r,⟨o,n,eo,hc,hd,hs⟩,hz⟩:=I.list hq;obtain⟨m1,m2⟩:=he re r;have bi:=r.length;have hbl:=re.len;have hn:=g0;have hj:bs.idxOf true<its.toArray.size:=by rw[z_];omega
 have eo':s.heap.get? l=some { cls:=.type "list",dict:=o.dict,data:=.seq its.toArray n,slots:=o.slots }:=by rw[eo];obtain⟨oc,od,odt,osl⟩:=o;have h1:oc=.type "list":=hc;have h2:odt=.seq its.toArray n:=hs;subst h1 h2;rfl
 have em:∀(m:Nat) (hm:m<its.toArray.size),bs[m]?=some (e its.toArray[m]):=λm hm=>by
  rw[<- m1,O_];have:its[m]?=some its.toArray[m]:=by rw[w_ (by simpa using hm)];rfl
  rw[this];rfl
 refine call_meets PySem.F.slot_list_index ⟨_,eo',rfl⟩ PySem.F.entry_list_index (PySem.F.args_list_index_2 _ _)
  (SeqAt.list_indexAt l its.toArray n o.dict o.slots u e (bs.idxOf true) hj (by omega) ?_ ?_) ⟨eo',λw hw=>m2 w (by simpa using hw),?_⟩
 .have:=em _ hj
  rw[w_ hi,List.getElem_idxOf] at this;exact (J_ this).symm
 .intro m
   hm hlt
  have:=em m hm
  have hb:m<bs.length:=by omega
  rw[w_ hb] at this;have h3
   : bs[m]≠true:=λz=>by
   have h4:bs.idxOf true<=m:=by
    have:=List.idxOf_lt_length_iff (l:=bs) (a:=true)
    rcases Nat.lt_or_ge m (bs.idxOf true) with z' |z'
    .exact absurd z (by have h5:=List.not_of_lt_findIdx (xs:=bs) (p:=(· == true)) (i:=m) z';simpa using h5)
    .exact z'
   omega
  have h4:e its.toArray[m]=bs[m]:=(J_ this).symm;rw[h4];exact Bool.eq_false_iff.mpr h3
 .exact⟨.int _,H,I.tok _,⟨_,rfl⟩,q⟩
def Es:MtD K mg (kE K) jY:=λρ h H dx ds x vs Q E w rx rs p=>by
 unfold jY at p;split at p
 .cases
   rx with
  |
   ref ea=>
   cases rs with
   |
    cons r rs=>
    cases rs;split at p
    .rename_i bs e;split at p
     .rename_i hl;obtain⟨xs,q,e2⟩:=QK.mp e;obtain⟨vs,h1,h2⟩:=a9 w ea q;rcases CL e2 with rfl |⟨pd,h3,h4⟩
      .have e3:some ([]:List Bool)=some bs:=e2;cases e3;exact absurd hl (by simp)
      .exact⟨_,_,bs,rfl,rfl,⟨vs,pd,h1,fL w 164 r h3,h4,Gz w r h3 h2 e2⟩,hl,az w (.int _) p⟩
     .exact p.elim
    .exact p.elim
 .exact p.elim
def K4(h:X.K=K)(hu:X.A.units+190<cLine):MtM X "list.index" (kE K):=by subst h;exact DZ hu
def Room.u100(r:Room k A):A.units+190<cLine:=by have:=r.un;omega
end
noncomputable def wL(o i v:D)(h:AH):R Unit:=match o,i with
 |.ref n,.int k=>match h[n]? with
  |some (.lst xs)=>match ixN xs.length k with
   |some j=>.ok () (h.set n (.lst (xs.set j v)))
   |none=>.stuck
  |_=>.stuck
 |_,_=>.stuck
section
variable{K:W.Frag}{mg:Ua}{X:Cx}{ES:St->XK}{o i:Expr}{F G:ME}{pos:Pos}
def G8:og K mg yj wL:=λρ h H do_ di dv o i v Q E w ro ri rv p=>by
 unfold wL at p;split at p
 .cases
   ro with
  |
   ref ea=>
   cases ri;split at p
   .rename_i n k xs e;split at p
    .rename_i j ej;obtain⟨vs,h1,h2⟩:=w.ob _ _ _ ea e;have l:Le ρ H ρ (upd H _ (.lst (vs.set j v))):=kO h1 qR;exact⟨_,vs,_,j,rfl,rfl,h1,by rw[<- h2.len];exact ej,p ρ _ l (w.write ea h1 qR ⟨_,aW,(h2.set rv j).mono l⟩)⟩
    .exact p.elim
   .exact p.elim
 .exact p.elim
def Nj(ho:DE K mg X ES o F)(hi:DE K mg X ES i G)(hs:rL X t)(hd:og K mg t f)
 (ha:∀v,assign (.Subscript o i pos) X.env v=(do
  let ov <- holding [v] (eval o X.env)
  let iv <- holding [v,ov] (eval i X.env)
  standAt pos
  holding [v,ov,iv] (setItem ov iv v)
  release [v,ov,iv] [])):DG K mg X ES (.Subscript o i pos) (gS F G f):=
 PG.imp (Jz ho hi hs ha) λv σ H Q q_=>q_.el λρ h ae d w re rd p=>
  ⟨ρ,h,ae,w,re,p.bind.imp λdo_ h1 ρ1 H1 l1 w1 p1 o' ro=>⟨ρ1,h1,ae,w1,re.mono l1,p1.bind.imp λdi h2 ρ2 H2 l2 w2 p2 i' ri=>
   hd ρ2 h2 H2 do_ di d o' i' v _ _ w2 (ro.mono l2) ri ((rd.mono l1).mono l2) (p2.bind.imp λ_ h3 ρ3 H3 l3 w3 p3=>p3 ρ3 H3 Le.refl w3 σ (((re.mono l1).mono l2).mono l3))⟩⟩
end
noncomputable def cutD(xs:List D)(lo hi:Option Int):List D:=(xs.drop (HT.sIx xs.length 0 lo)).take (HT.sIx xs.length xs.length hi-HT.sIx xs.length 0 lo)
abbrev MO:=AE->AH->R (Option Int)
noncomputable def yJ:MO:=λ_ h=>.ok none h
noncomputable def xH(F:ME):MO:=λae h=>(F ae h).bind λd h1=>match d with
 |.int i=>.ok (some i) h1
 |_=>.stuck
noncomputable def gSl(x:D)(lo hi:Option Int)(h:AH):R D:=match x with
 |.tup xs=>if HT.sIx xs.length 0 lo=0/\HT.sIx xs.length xs.length hi=xs.length then .stuck else .ok (.tup (cutD xs lo hi)) h
 |.ref n=>match aM h n with
  |some xs=>.ok (.ref h.length) (h++[.lst (cutD xs lo hi)])
  |none=>.stuck
 |.kl xs=>.ok (.ref h.length) (h++[.lst (cutD xs lo hi)])
 |_=>.stuck
noncomputable def eSl(F:ME)(L U:MO):ME:=λae h=>(F ae h).bind λx h1=>(L ae h1).bind λlo h2=>(U ae h2).bind λhi h3=>gSl x lo hi h3
section
variable{K:W.Frag}{mg:Ua}{X:Cx}{ES:St->XK}{e:Expr}{F:ME}{L U:MO}{lo hi:Option Expr}{pos p2:Pos}
def rdO(K:W.Frag)(mg:Ua)(ES:St->XK)(F:MO):TO:=λσ H Q=>∃ρ h ae,Wd K mg ρ h H/\RelE K mg ρ H ae σ/\PostG K mg ρ H (ES σ) (λo _ ρ' H'=>Q o H') (F ae h)
def DO(K:W.Frag)(mg:Ua)(X:Cx)(ES:St->XK)(e:Option Expr)(F:MO):Prop:=PO X e (rdO K mg ES F)
def GV:DO K mg X ES none yJ:=PO.imp Hu λσ H Q ⟨ρ,h,ae,w,re,p⟩=>p ρ H Le.refl w
def Hl(he:DE K mg X ES e F):DO K mg X ES (some e) (xH F):=PO.imp (Ij he) λσ H Q ⟨ρ,h,ae,w,re,p⟩=>⟨ρ,h,ae,w,re,p.bind.imp λd h1 ρ1 H1 l1 w1 p1 v rv=>by
 split at p1
 .cases rv;exact⟨_,rfl,p1 ρ1 H1 Le.refl w1⟩
 .exact p1.elim⟩
def oY(r:RelDs K mg ρ H xs vs)(lo hi:Option Int):RelDs K mg ρ H (cutD xs lo hi) (ki vs lo hi):=by unfold cutD ki;rw[<- r.len];exact (r.drop _).take _
def slK(h:X.K=K):SlR X (λx lo hi H Q=>rSlL K x lo hi H Q\/rSlT K x lo hi H Q):=by subst h;exact Ir.or MB
def EL(hK:X.K=K)(he:DE K mg X ES e F)(hl:DO K mg X ES lo L)(hu:DO K mg X ES hi U):DE K mg X ES (.Subscript e (.Slice lo hi none p2) pos) (eSl F L U):=
 PE.imp (
  Ck (slK hK) he hl hu) λσ H Q q_=>q_.el λρ h ae w re p=>⟨ρ,h,ae,w,re,p.bind.imp λd h1 ρ1 H1 l1 w1 p1 x rx=>⟨ρ1,h1,ae,w1,re.mono l1,p1.bind.imp λlo h2 ρ2 H2 l2 w2 p2=>⟨ρ2,h2,ae,w2,(re.mono l1).mono l2,p2.bind.imp λhi h3 ρ3 H3 l3 w3 p3=>by
  have rx3:=(rx.mono l2).mono l3;unfold gSl at p3;split at p3
  .split at p3
   .exact p3.elim
   .rename_i hn;cases rx3 with
    |tup q rs=>exact .inr ⟨_,_,rfl,q,by rw[<- rs.len];exact hn,λl hl=>gZ w3 (oY rs lo hi) hl p3⟩
  .split at p3
   .rename_i xs e1;cases rx3 with
    |ref ea=>obtain⟨vs,q,rs⟩:=a9 w3 ea e1;exact .inl ⟨_,_,rfl,q,λl hl=>eY w3 (oY rs lo hi) hl p3⟩
   .exact p3.elim
  .cases rx3 with
   |kl q rs=>exact .inl ⟨_,_,rfl,.inr q,λl hl=>eY w3 (oY rs lo hi) hl p3⟩
  .exact p3.elim⟩⟩⟩
end
noncomputable def sI(d:D)(h:AH):R Bool:=match d with
 |.non=>.ok false h
 |.bl b=>.ok b h
 |.int i=>.ok (i != 0) h
 |d=>match dE h d with
  |some xs=>.ok (!xs.isEmpty) h
  |none=>.stuck
def tTr(F:ME):MT:=λae h=>(F ae h).bind sI
section
variable{K:W.Frag}{mg:Ua}{X:Cx}{ES:St->XK}{a:Expr}{F:ME}
def Di(hK:X.K=K)(ha:DE K mg X ES a F)(he:∀db,isTrue a X.env db=(do let v <- db;standAt a.pos;holding [v] (truthy v))):DT K mg X ES a (tTr F):=by
 subst hK;refine PT.imp (D9 ha he) λσ H Q q_=>q_.el λρ h ae w re p=>⟨ρ,h,ae,w,re,p.bind.imp λd h1 ρ1 H1 l1 w1 p1 x rx=>?_⟩;have items:∀{xs:List D},dE h1 d=some xs->Q (!xs.isEmpty) H1->∃k,Ew X.K x H1 k/\Q k H1:=λ{xs} e q=>by
  obtain⟨pa,vs,rfl,hq,rs⟩:=eP w1 rx e;have ee:xs.isEmpty=vs.isEmpty:=by cases rs <;> rfl
  rw[ee] at q;rcases hq with hq |hq
  .exact⟨_,.inl ⟨vs,hq,rfl⟩,q⟩
  .exact⟨_,.inr (.inl ⟨vs,hq,rfl⟩),q⟩
 unfold sI at p1;split at p1
 .cases rx;exact⟨_,rfl,p1 ρ1 H1 Le.refl w1⟩
 .cases rx;exact⟨_,rfl,p1 ρ1 H1 Le.refl w1⟩
 .cases rx;exact⟨_,rfl,p1 ρ1 H1 Le.refl w1⟩
 .split at p1
  .rename_i xs e1;exact items e1 (p1 ρ1 H1 Le.refl w1)
  .exact p1.elim
end
structure Script(h:AH)(d:D)(ns:List Int):Prop where
 form:(∃n,d=.ref n/\h[n]?=some (.fz (ns.map D.int)))\/d=.kl (ns.map D.int)
theorem jI{K:W.Frag}{mg:Ua}{ρ:List Addr}{H:Hp}:∀(ns:List Int),RelDs K mg ρ H (ns.map D.int) (ns.map V.int)
 | []=>.nil
 |_::r=>.cons (.int _) (jI r)
noncomputable def zd:D->D->AH->R D:=gOr (gI λi j=>.int (i+j)) mf
noncomputable def B5:D->D->AH->R D:=gI λi j=>.int (i-j)
def CMulA(i j:Int):Prop:=FG i j\/CMul i j
def Ea:D->D->AH->R D:=gIc CMulA λi j=>.int (i*j)
def Eo:D->D->AH->R D:=gIc CDivB λi j=>.int (i.fdiv j)
def DR:D->D->AH->R D:=gIc (λ_ j=>j≠0) λi j=>.int (i.fmod j)
def BY:D->D->AH->R D:=gIc gr λi j=>.int (i^j.toNat)
def D6:D->D->AH->R D:=gIc gr λi j=>.int (i*2^j.toNat)
noncomputable def gLt:D->D->AH->R D:=gI λi j=>.bl (decide (i<j))
noncomputable def gGt:D->D->AH->R D:=gI λi j=>.bl (decide (j<i))
noncomputable def gGe:D->D->AH->R D:=gI λi j=>.bl (decide (j<=i))
noncomputable def xC:D->AH->R D:=λx h=>match x with
 |.int i=>.ok (.int (-i)) h
 |_=>.stuck
noncomputable def qS(n:Nat)(S:Fn)(A:MA):ME:=eFn (λds h=>if ds.length=n then S ds h else .stuck) A
section
variable{K:W.Frag}{mg:Ua}{X:Cx}
def Iw(h:X.K=K):OpR X (binaryOp .Add) (λx y H Q=>rI0 (λi j=>.int (i+j)) x y H Q\/(oU x y H Q\/(kQ K x y H Q\/kA K x y H Q))):=Iz.or (catK h)
def Lh:OpD K mg (λx y H Q=>rI0 (λi j=>.int (i+j)) x y H Q\/(oU x y H Q\/(kQ K x y H Q\/kA K x y H Q))) zd:=(jX λ_ _ _ _=>.int _).or Gm
def IA:OpD K mg (rI0 λi j=>.int (i-j)) B5:=jX λ_ _ _ _=>.int _
def Lo:OpR X (binaryOp .Mult) (rI CMulA λi j=>.int (i*j)):=by
 intro pins s σ H x y v u Q I rx ry h;obtain⟨i,j,e1,e2,hc,q⟩:=h;rcases hc with hc |hc
 .exact Hx pins s σ H x y v u Q I rx ry ⟨i,j,e1,e2,hc,q⟩
 .exact MX pins s σ H x y v u Q I rx ry ⟨i,j,e1,e2,hc,q⟩
def K5:OpD K mg (rI CMulA λi j=>.int (i*j)) Ea:=mG λ_ _ _ _=>.int _
def LS:OpD K mg (rI CDivB λi j=>.int (i.fdiv j)) Eo:=mG λ_ _ _ _=>.int _
def JX:OpD K mg (rI (λ_ j=>j≠0) λi j=>.int (i.fmod j)) DR:=mG λ_ _ _ _=>.int _
def MK:OpD K mg (rI gr λi j=>.int (i^j.toNat)) BY:=mG λ_ _ _ _=>.int _
def IW:OpD K mg (rI gr λi j=>.int (i*2^j.toNat)) D6:=mG λ_ _ _ _=>.int _
def Oy:OpD K mg (rI0 λi j=>.bl (decide (i<j))) gLt:=jX λ_ _ _ _=>.bl _
def O4:OpD K mg (rI0 λi j=>.bl (decide (j<i))) gGt:=jX λ_ _ _ _=>.bl _
def O0:OpD K mg (rI0 λi j=>.bl (decide (j<=i))) gGe:=jX λ_ _ _ _=>.bl _
def Kx:UnD K mg (rU λi=>.int (-i)) xC:=λρ h H dx x Q E w rx p=>by
 unfold xC at p;split at p
 .cases rx;exact⟨_,rfl,az w (.int _) p⟩
 .exact p.elim
def Ik:IpD K mg (ipI λi j=>i+j) (gI λi j=>.int (i+j)):=λρ h H dx dy x y Q E w rx ry p=>by
 unfold gI at p;split at p
 .cases rx;cases ry;exact⟨_,_,rfl,rfl,az w (.int _) p⟩
 .exact p.elim
variable{ES:St->XK}{e:Expr}{es:List Expr}{A:MA}{pos:Pos}
def Dj(C:Callee X.prog X.w X.K X.mg X.base x k ps (spD K mg n S))(hr:Room k X.A)(hg:Gl X x)(hx:ir X ES)(ha:DA K mg X ES (e::es) A)
 (hdb:(x==("__debug__" : Str))=false) (he:starEach (e::es) X.env=(false,eval e X.env)::starEach es X.env) (hpl:(backTo pos (starEach es X.env)).any (·.1)=false):
 DE K mg X ES (.Call (.Name x p) (e::es) [] pos) (qS n S A):=HE C hr hg hx ha hdb he hpl
end
section
variable{h:AH}
@[simp] theorem fK(a:α)(h:AH)(f:α->AH->R β):(R.ok a h).bind f=f a h:=rfl
end
def ie(h1:pd.canLay0=true)(h2:pd.depth<=160):shp pd=true:=by unfold shp;rw[h1,G_ h2];rfl
def Sm(n:Nat)(x:Int):Prop:=x.natAbs<2^n
def Sm.mono(h:Sm n x)(l:n<=m):Sm m x:=H_ h (Rv (by omega) l)
def Sm.mul(h:Sm n x)(k:Sm m y):Sm (n+m) (x*y):=by unfold Sm at *;rw[Rh,RZ];exact Nat.mul_lt_mul'' h k
def Sm.bits(h:Sm n x):Builtin.Int.intBits x<=n:=intBits_le_iff.mpr h
def Sm.of_le(h:Sm n y)(l:x.natAbs<=y.natAbs):Sm n x:=RC l h
def CMulA.of(h:Sm n x)(k:Sm m y)(hn:n<=100000)(hm:m<=100000):CMulA x y:=.inl ⟨F_ h.bits hn,F_ k.bits hm⟩
def CMulA.left(h:-(2^64)<x)(k:x<2^64):CMulA x y:=.inr (.inl ⟨h,k⟩)
def CMulA.right(h:-(2^64)<y)(k:y<2^64):CMulA x y:=.inr (.inr ⟨h,k⟩)
def CDivB.of(h0:y≠0)(h:Sm 8000 y):CDivB x y:=⟨h0,h.bits⟩
structure Sz(n:Nat)(q:Rat):Prop where
 top:Sm n q.num
 bot:Sm n (q.den:Int)
def zY{a b:Int}(hb:b≠0):((a:Rat)/(b:Rat)).num*b=a*((a:Rat)/(b:Rat)).den:=by
 have h2:=Rat.num_divInt_den ((a:Rat)/(b:Rat));have h3:Rat.divInt ((a:Rat)/(b:Rat)).num (((a:Rat)/(b:Rat)).den:Int)=Rat.divInt a b:=by rw[h2,Rat.divInt_eq_div]
 exact (Rat.divInt_eq_divInt_iff (by have:=((a:Rat)/(b:Rat)).den_nz;omega) hb).mp h3
def wF(q:Rat):Int.gcd q.num q.den=1:=by
 have:=q.reduced
 exact this
def nA(hb:b≠0):Fr.T a b=((a:Rat)/(b:Rat)).num/\Fr.B a b=(((a:Rat)/(b:Rat)).den:Int):=by
 refine Fr.uniq (Fr.B_pos hb) (by have:=((a:Rat)/(b:Rat)).den_pos;omega) (Fr.low hb) (wF _) ?_;have h1:=Fr.cross (a:=a) hb;have h2:=zY (a:=a) hb;generalize ((a:Rat)/(b:Rat)).num=n at *;generalize (((a:Rat)/(b:Rat)).den:Int)=d at *;generalize Fr.T a b=x at *;generalize Fr.B a b=y at *;have h3:(x*d)*b=(n*y)*b:=by
  calc x*d*b=(x*b)*d:=by rw[SN]
   _=a*y*d:=by rw[h1]
   _=(a*d)*y:=by rw[SN]
   _=n*b*y:=by rw[h2]
   _=n*y*b:=by rw[SN]
 exact SE hb h3
def xR{a b:Int}(hb:b≠0):((a:Rat)/(b:Rat)).num.natAbs<=a.natAbs:=by
 have h:=(nA (a:=a) hb).1;rw[<- h];have h1:=Fr.T_mul (a:=a) hb;have h2:=Fr.dv_ne (a:=a) hb;have h3:(Fr.T a b).natAbs*(Fr.dv a b).natAbs=a.natAbs:=by rw[<- Rh,h1]
 have h4:1<=(Fr.dv a b).natAbs:=by omega
 calc (Fr.T a b).natAbs=(Fr.T a b).natAbs*1:=by omega
  _<=(Fr.T a b).natAbs*(Fr.dv a b).natAbs:=Rw _ h4
  _=a.natAbs:=h3
def xt{a b:Int}(hb:b≠0):((((a:Rat)/(b:Rat)).den:Int)).natAbs<=b.natAbs:=by
 have h:=(nA (a:=a) hb).2;rw[<- h];have h1:=Fr.B_mul (a:=a) hb;have h2:=Fr.dv_ne (a:=a) hb;have h3:(Fr.B a b).natAbs*(Fr.dv a b).natAbs=b.natAbs:=by rw[<- Rh,h1]
 have h4:1<=(Fr.dv a b).natAbs:=by omega
 calc (Fr.B a b).natAbs=(Fr.B a b).natAbs*1:=by omega
  _<=(Fr.B a b).natAbs*(Fr.dv a b).natAbs:=Rw _ h4
  _=b.natAbs:=h3
def Sz.div(hb:b≠0)(ha:Sm n a)(hb':Sm m b)(k:Nat)(h1:n<=k)(h2:m<=k):Sz k ((a:Rat)/(b:Rat)):=
 ⟨(ha.of_le (xR hb)).mono h1,(hb'.of_le (xt hb)).mono h2⟩
def cH(q:Rat):(q.den:Int)≠0:=by have:=q.den_nz;omega
def fQ(q:Rat):q=(q.num:Rat)/((q.den:Int):Rat):=by
 have:=Rat.num_divInt_den q
 rw[Rat.divInt_eq_div] at this;exact this.symm
def hE{b:Int}(h:b≠0):(b:Rat)≠0:=by intro z;exact h (by exact_mod_cast z)
def Hr(p q:Rat):p+q=((p.num*q.den+q.num*p.den:Int):Rat)/((p.den*q.den:Int):Rat):=by
 have h1:=hE (cH p);have h2:=hE (cH q)
 conv=>lhs;rw[fQ p,fQ q]
 simp only[Rat.intCast_add,Q_];grind
def wM(p q:Rat):p*q=((p.num*q.num:Int):Rat)/((p.den*q.den:Int):Rat):=by
 have h1:=hE (cH p);have h2:=hE (cH q)
 conv=>lhs;rw[fQ p,fQ q]
 simp only[Q_];grind
def Sz.mul(hp:Sz n p)(hq:Sz m q):Sz (n+m) (p*q):=by rw[wM];exact Sz.div (by have:=cH p;have:=cH q;exact Si ‹_› ‹_›) (hp.top.mul hq.top) (hp.bot.mul hq.bot) _ (by omega) (by omega)
def vy{q:Rat}:0<q.num ↔ 0<q:=by
 have h1:=Rat.num_nonneg (q:=q);have h2:=To (q:=q);constructor
 .intro h;refine Rat.lt_of_le_of_ne (h1.mp (by omega)) λz=>?_
  have:=h2.mpr z.symm
  omega
 .intro h;have h3:=h1.mpr (Rat.le_of_lt h);have h4:q.num≠0:=λz=>(Rat.ne_of_lt h) (h2.mp z).symm;omega
def JW(p q:Rat):p<q ↔ p.num*q.den<q.num*p.den:=Rat.lt_iff p q
theorem dB:∀{ws:List Int},(∀w∈ws,0<=w)->0<=ws.sum
 | [],_=>Int.le_refl _
 |
  w::ws,h=>by
  have:=h w (r_ ..)
  have:=dB (ws:=ws) λv hv=>h v (n_ _ hv)
  rw[QS];omega
def Mx{K:W.Frag}{h:Heap}{mg:Ua}{x:Str}{a:Addr}{dd:Option Addr}{its:Array Value}{n:Nat}{sl:Array (Option Value)}{vs:List V}{ds:List D}(X:K.In h)(G:h.Ns mainGlobals mg)(e:W.nsIn K mainGlobals x=some (some (.ref a)))
 (l:K.lookup a=some ⟨.type "tuple",dd,.seq its n,sl⟩) (hs:its.size<=sizeLine) (hv:Vals vs its.toList) (hr:∀ρ H,RelDs K mg ρ H ds vs):GC K mg x (.tup ds):=
 ⟨_,.ref a,W.mg_of X G e,rfl,λρ H=>.tup (.inr ⟨_,its,n,l,rfl,rfl,hs,hv⟩) (hr ρ H)⟩
def C8{P:Program}{w:World}{H:Hp}(h:Heap)(hb:sysModules<h.objs.size):ObjOk P w H (h.push { cls:=.type "dict",data:=.dict #[] }) h.objs.size (.dK []):=
 ⟨QH _,E_.mpr (Ne.symm (P_ hb)),[],.nil,Heap.DictOf.new h⟩
def Inv.big{X:Cx}{pins:Ub}{σ:St}{H:Hp}{s:Shared}(I:Inv X pins σ H s):sysModules<s.heap.objs.size:=by have h:mainGlobals<s.heap.objs.size:=(I.mod.glob.keeps I.bk).lt;exact Tj (by decide) h
def Jo:TE:=λ_ H Q=>∀p,H p=none->Q (.ref p) (upd H p (.dK []))
noncomputable def eD0:ME:=λ_ h=>.ok (.ref h.length) (h++[.dct []])
section
variable{K:W.Frag}{mg:Ua}{X:Cx}{ES:St->XK}{pos:Pos}
def Cb:PE X (.Dict [] [] pos) Jo:=λpins s σ H Q I h=>
 wpAny_Dict_empty ⟨.ref s.heap.objs.size,_,I.laid (a:=s.heap.objs.size) (o:=.dK []) (t':=s.toks) (λ_ _ q=>o_ _ q) (p_ _) (C8 s.heap I.big),rfl,h _ (I.hok.fresh (p_ _))⟩
def Qi:DE K mg X ES (.Dict [] [] pos) eD0:=PE.imp Cb λσ H Q ⟨ρ,h,ae,w,re,q⟩ p hp=>by have l:Le ρ H (ρ++[p]) (upd H p (.dK [])):=(cK hp).trans lb;refine q (ρ++[p]) _ l (w.alloc hp ⟨[],aW,rfl,.nil⟩) _ (.ref ?_);rw[<- w.len,QM (p_ _),SA];rfl
end
variable{K:W.Frag}{mg:Ua}
noncomputable def uP(cs:List (Str×Nat×Fn))(F:ME)(A:MA):ME:=λae h=>(F ae h).bind λd h1=>match d with
 |.glb x=>(match cs.lookup x with
  |some c=>qS c.1 c.2 A ae h1
  |none=>.stuck)
 |_=>.stuck
section
variable{K:W.Frag}{mg:Ua}{X:Cx}{ES:St->XK}{e:Expr}{es:List Expr}{A:MA}{pos:Pos}
theorem nJ{β:Type}{x:Str}{b:β}:∀{l:List (Str×β)},l.lookup x=some b->(x,b)∈l
 | [],h=>by simp at h
 |
  (y,c)::l,h=>by
  rw[Rf] at h;split at h
  .rename_i q
   have:=eq_of_beq q
   subst this;cases h;exact r_ ..
  .exact n_ _ (nJ h)
def D8{ef:Expr}{cs:List (Str×Nat×Fn)}{F:ME}
 (hc:∀c∈cs,∃k ps,Callee X.prog X.w X.K X.mg X.base c.1 k ps (spD K mg c.2.1 c.2.2)/\Room k X.A)
 (hf:DE K mg X ES ef F) (hx:ir X ES) (ha:DA K mg X ES (e::es) A) (hm:X.mg=mg)
 (harm:eval (.Call ef (e::es) [] pos) X.env=(do callWith pos (<- eval ef X.env) [] (backTo pos (starEach (e::es) X.env)) (backToKw pos (keywordEach [] X.env))))
 (he:starEach (e::es) X.env=(false,eval e X.env)::starEach es X.env) (hpl:(backTo pos (starEach es X.env)).any (·.1)=false):
 DE K mg X ES (.Call ef (e::es) [] pos) (uP cs F A):=by
 subst hm;intro pins s σ H Q I hh;rw[harm];refine l_ ?_;have rd
  : rdE K X.mg ES F σ H (λv H1=>∃x c f,(x,c)∈cs/\v=.ref f/\X.mg x=some (.ref f)/\rdA K X.mg ES A σ H1 (λvs H2=>spD K X.mg c.1 c.2 vs H2 Q (ES σ))):=by
  obtain⟨ρ,h,ae,w,re,p⟩:=hh;refine⟨ρ,h,ae,w,re,p.bind.imp λd h1 ρ1 H1 l1 w1 p1 v rv=>?_⟩;split at p1
  .rename_i x;split at p1
   .rename_i c q;cases rv with
    |
     glb m=>
     refine⟨x,c,_,nJ q,rfl,m,ρ1,h1,ae,w1,re.mono l1,p1.bind.imp λds h2 ρ2 H2 l2 w2 p2 vs rs=>?_⟩;split at p2
     .rename_i hl;exact⟨ρ2,h2,ds,w2,rs,hl,p2⟩
     .exact p2.elim
   .exact p1.elim
  .exact p1.elim
 refine QR (hf pins s σ H _ I rd) (λu s1 ⟨v,H1,I1,rv,x,c,f,hmem,ev,m,ra⟩=>?_) λ_ _ z=>z;subst ev;obtain rfl:u=Value.ref f:=rv;obtain⟨k,ps,C,hr⟩:=hc (x,c) hmem;obtain⟨f',fd,F',m',kp,bb,_⟩:=C.ex;rw[m] at m';cases m';refine W.callWith_K (h₀:=X.base) I.ok.mod.kin kp (QR (ha pos pins s1 σ H1 _ I1 ra) (λus s2 ⟨vs,H2,I2,r,q⟩=>⟨I2.kIn,?_⟩) λ_ _ z=>z) he hpl;have hl:(us++[]).length=ps.length:=by rw[QU,<- r.length];exact F'.len _ _ _ _ q
 refine wpAny_call (Tq (F'.run X.A X.stack s2 H2 ⟨us,[]⟩ us vs Q (ES σ) hr I2.env0 (by simpa using bb s2 us I2.kIn hl) r q) λr s' hq=>?_);cases r with
 |error ex=>exact hx pins σ H2 s2 ex s' I2 hq
 |
  ok fl=>
  cases fl with
  |ret u=>exact I2.after hq
  |next=>exact False.elim hq
  |brk=>exact False.elim hq
  |cont=>exact False.elim hq
end
section
variable{K:W.Frag}{mg:Ua}{ρ:List Addr}{H:Hp}{h:AH}{ae:AE}
def EG{β:Type}{i:Nat}{E:XK}{k:β->AH->List Addr->Hp->Prop}{f:D->AH->R β}(p:PostG K mg ρ H E k ((bo i ae h).bind f)):∃d,ae[i]?=some (some d)/\PostG K mg ρ H E k (f d h):=by
 unfold bo at p;split at p
 .exact⟨_,by assumption,p⟩
 .exact p.elim
end
section
variable{κ:Type}[DecidableEq κ]
noncomputable def fU(kvs:List (κ×V))(k:κ):Option V:=(kvs.find? λkv=>decide (kv.1=k)).map (·.2)
noncomputable def eW(kvs:List (κ×V))(k:κ)(v:V):List (κ×V):=
 if (kvs.any λkv=>decide (kv.1=k))=true then kvs.map (λkv=>if kv.1=k then (kv.1,v) else kv) else kvs++[(k,v)]
def lU{p:κ×V}{r:List (κ×V)}{k:κ}(e:p.1=k):fU (p::r) k=some p.2:=by simp [fU,Q4,e]
def my{p:κ×V}{r:List (κ×V)}{k:κ}(e:¬ p.1=k):fU (p::r) k=fU r k:=by simp [fU,Q4,e]
theorem rX(k:κ):∀kvs:List (κ×V),(kvs.any λkv=>decide (kv.1=k))=(fU kvs k).isSome
 | []=>rfl
 |
  p::r=>by
  rw[Rq];by_cases e:p.1=k
  .simp only[lU e,G_ e,Bool.true_or,Option.isSome_some]
  .rw[my e,B_ e,Bool.false_or];exact rX k r
def lA(kvs:List (κ×V))(k:κ)(v:V):(eW kvs k v).length<=kvs.length+1:=by
 unfold eW;split
 .rw[m_];omega
 .rw[D_,C_,QO];omega
def RelO.isSome_eq(r:RelO o u):o.isSome=u.isSome:=by
 cases o with
 |none=>cases u with
  |none=>rfl
  |some _=>exact (show False from r).elim
 |some _=>cases u with
  |none=>exact (show False from r).elim
  |some _=>rfl
def KV.val(r:KV kvs vs)(k:κ):RelO (fU kvs k) (valueAt vs k):=by
 unfold KV at r;induction r with
 |nil=>exact True.intro
 |
  @cons p q ps qs h t ih=>
  obtain⟨h1,h2⟩:=h;by_cases e:p.1=k
  .have e':q.1=k:=h1.symm.trans e;have b:valueAt (q::qs) k=some q.2:=by simp [valueAt,Q4,e']
   rw[lU e,b];exact h2
  .have e':¬ q.1=k:=λz=>e (h1.trans z);have b:valueAt (q::qs) k=valueAt qs k:=by simp [valueAt,Q4,e']
   rw[my e,b];exact ih
def KV.any(r:KV kvs vs)(k:κ):(kvs.any λkv=>decide (kv.1=k))=vs.any λkv=>decide (kv.1=k):=by
 unfold KV at r;induction r with
 |nil=>rfl
 |cons h t ih=>rw[Rq,Rq,ih,h.1]
def KV.repl(r:KV kvs vs)(k:κ)(ry:RelV y u):
 KV (kvs.map λkv=>if kv.1=k then (kv.1,y) else kv) (vs.map λkv=>if kv.1=k then (kv.1,u) else kv):=by
 unfold KV at r ⊢;induction r with
 |nil=>exact .nil
 |
  @cons p q ps qs h t ih=>
  rw[t_,t_];refine .cons ?_ ih;obtain⟨h1,h2⟩:=h;by_cases e:p.1=k
  .rw[if_pos e,if_pos (h1.symm.trans e)];exact⟨h1,ry⟩
  .rw[if_neg e,if_neg (λz=>e (h1.trans z))];exact⟨h1,h2⟩
def KV.put(r:KV kvs vs)(k:κ)(ry:RelV y u):KV (eW kvs k y) (stored vs k u):=by
 unfold eW stored;rw[r.any k];by_cases e:(vs.any λkv=>decide (kv.1=k))=true
 .rw[if_pos e,if_pos e];exact r.repl k ry
 .rw[if_neg e,if_neg e];exact Paired.snoc r ⟨rfl,ry⟩
def KV.length(r:KV kvs vs):kvs.length=vs.length:=Tv r
end
def za(r:RelV (kV k) u):(bT P w).is k u=true:=by
 cases k with
 |inl i=>obtain⟨t,e⟩:=(show ∃t,u=Value.int i t from r);subst e;exact ve P w i t
 |inr x=>obtain⟨t,e⟩:=(show ∃t,u=Value.str x t from r);subst e;exact vc P w x t
theorem pb:∀{ks:List Key}{us:List Value},Vals (ks.map kV) us->ItemsAre (bT P w) ks us
 | [],_,r=>by rw[QQ] at r;cases r;exact .nil
 |
  k::ks,_,r=>by
  rw[t_] at r;cases r with
  |cons h t=>exact .cons (za h) (pb t)
abbrev KT(H:Hp):List (List Key×V)->List (List Key×Addr×Value)->Prop:=Paired λp q=>p.1=q.1/\H q.2.1=some (.tup (p.1.map kV))/\RelV p.2 q.2.2
def KT.val(r:KT H kvs xs)(k:List Key):RelO (fU kvs k) ((atKey xs k).map (·.2)):=by
 induction r with
 |nil=>exact True.intro
 |
  @cons p q ps qs h t ih=>
  obtain⟨h1,_,h2⟩:=h;by_cases e:p.1=k
  .have e':q.1=k:=h1.symm.trans e;have b:atKey (q::qs) k=some q.2:=by simp [atKey,Q4,e']
   rw[lU e,b];exact h2
  .have e':¬ q.1=k:=λz=>e (h1.trans z);have b:atKey (q::qs) k=atKey qs k:=by simp [atKey,Q4,e']
   rw[my e,b];exact ih
def KT.repl(r:KT H kvs xs)(k:List Key)(ry:RelV y u):
 KT H (kvs.map λkv=>if kv.1=k then (kv.1,y) else kv) (xs.map (putAt k u)):=by
 induction r with
 |nil=>exact .nil
 |
  @cons p q ps qs h t ih=>
  rw[t_,t_];refine .cons ?_ ih;obtain⟨h1,h2,h3⟩:=h;unfold putAt;by_cases e:p.1=k
  .rw[if_pos e,if_pos (h1.symm.trans e)];exact⟨h1,h2,ry⟩
  .rw[if_neg e,if_neg (λz=>e (h1.trans z))];exact⟨h1,h2,h3⟩
def KT.put(r:KT H kvs xs)(k:List Key)(hb:H b=some (.tup (k.map kV)))(ry:RelV y u):
 KT H (eW kvs k y) (storedH xs k b u):=by
 have e:(kvs.any λkv=>decide (kv.1=k))=(atKey xs k).isSome:=by rw[rX,(r.val k).isSome_eq,Option.isSome_map]
 unfold eW storedH;rw[e];by_cases q:(atKey xs k).isSome=true
 .rw[if_pos q,if_pos q];exact r.repl k ry
 .rw[if_neg q,if_neg q];exact Paired.snoc r ⟨rfl,hb,ry⟩
def KT.keeps(r:KT H kvs xs)(ht:∀b ys,H b=some (.tup ys)->H' b=some (.tup ys)):KT H' kvs xs:=
 Paired.mapP r λ_ _ z=>⟨z.1,ht _ _ z.2.1,z.2.2⟩
section
variable{P:Program}{w:World}{H:Hp}{h:Heap}{a:Addr}
def Fq(ok:HOk P w H h)(e:Rd H a u):ObjOk P w H h a u:=e.ok ok
def xo(ok:HOk P w H h)(e:Rd H a (.dK kvs)):kvs.length<=sizeLine/\(a==sysModules)=false/\∃vs,KV kvs vs/\h.DictOf (bT P w) a vs:=
 show ObjOk P w H h a (.dK kvs) from Fq ok e
def Od(ok:HOk P w H h)(e:H a=some (.dK kvs)):kvs.length<=sizeLine/\(a==sysModules)=false/\∃vs,KV kvs vs/\h.DictOf (bT P w) a vs:=xo ok (.inl e)
def sT(ok:HOk P w H h)(e:H a=some (.tup (ks.map kV))):(tupleKind (bT P w)).is h ks a:=by obtain⟨_,its,r,o,h1,h2,n,h3⟩:=(show ObjOk P w H h a (.tup (ks.map kV)) from ok a _ e);exact⟨o,its.toArray,n,h1,h2,h3,by simpa using pb r⟩
def xy(ok:HOk P w H h)(e:Rd H a (.dT kvs)):kvs.length<=sizeLine/\(a==sysModules)=false/\
 ∃xs,KT H kvs xs/\h.DictOfH (tupleKind (bT P w)) a xs:=by
 obtain⟨z,y,xs,r,o,es,ep,h1,h2,h3,h4,h5⟩:=(show ObjOk P w H h a (.dT kvs) from Fq ok e);refine⟨z,y,xs,r,o,es,ep,h1,h2,h3,h4,λx hx=>?_,h5⟩;have all:∀{l:List (List Key×V)}{m:List (List Key×Addr×Value)},KT H l m->∀x∈m,(tupleKind (bT P w)).is h x.1 x.2.1:=by
  intro l m q;induction q with
  |nil=>intro x hx;exact nomatch hx
  |
   @cons p q ps qs hq t ih=>
   intro x hx;rcases I_.mp hx with e |hx
   .subst e;exact sT ok (by rw[<- hq.1];exact hq.2.1)
   .exact ih x hx
 exact all r x hx
def PM(ok:HOk P w H h)(e:H a=some (.dT kvs)):kvs.length<=sizeLine/\(a==sysModules)=false/\
 ∃xs,KT H kvs xs/\h.DictOfH (tupleKind (bT P w)) a xs:=xy ok (.inl e)
end
def DGet(H:Hp)(a:Addr)(y:V)(r:Option V):Prop:=
 (∃kvs k,Rd H a (.dK kvs)/\y=kV k/\r=fU kvs k)\/∃kvs k b,Rd H a (.dT kvs)/\y=.ref b/\H b=some (.tup (k.map kV))/\r=fU kvs k
def DPut(H:Hp)(a:Addr)(y v:V)(H':Hp):Prop:=
 (∃kvs k,H a=some (.dK kvs)/\y=kV k/\kvs.length<sizeLine/\H'=upd H a (.dK (eW kvs k v)))\/
 ∃kvs k b,H a=some (.dT kvs)/\y=.ref b/\H b=some (.tup (k.map kV))/\kvs.length<sizeLine/\H'=upd H a (.dT (eW kvs k v))
def DGet.k{H:Hp}{a:Addr}{kvs:List (Key×V)}{k:Key}(e:H a=some (.dK kvs)):DGet H a (kV k) (fU kvs k):=.inl ⟨kvs,k,.inl e,rfl,rfl⟩
def DPut.k{H:Hp}{a:Addr}{kvs:List (Key×V)}{k:Key}{v:V}(e:H a=some (.dK kvs))(hl:kvs.length<sizeLine):DPut H a (kV k) v (upd H a (.dK (eW kvs k v))):=.inl ⟨kvs,k,e,rfl,hl,rfl⟩
section
variable{X:Cx}{pins:Ub}{σ:St}{H:Hp}{s:Shared}{a:Addr}{y v:V}{u r:Value}{o:Option V}{A:Around}{E:Uc}
def zi(hu:A.units+1<cLine)(I:Inv X pins σ H s)(g:DGet H a y (some v))(ry:RelV y u)(h:∀w' s',Inv X pins σ H s'->RelV v w'->Q w' s'):
 wpAny (model X.prog X.w) A (getItem (.ref a) u) Q E s:=by
 rcases g with ⟨kvs,k,e,ey,l⟩ |⟨kvs,k,b,e,ey,eb,l⟩
 .subst ey;obtain⟨z,hd,vs,rel,dd⟩:=xo I.hok e;obtain⟨w',hw,rw'⟩:=RelO.some_of (v:=v) (o:=valueAt vs k) (by rw[l];exact rel.val k);exact wpAny_getItem_of (za ry) dd.mapOf hw (h w' _ (I.tok _) rw')
 .subst ey;cases (show u=Value.ref b from ry);obtain⟨z,hd,xs,rel,dd⟩:=xy I.hok e;obtain⟨w',hw,rw'⟩:=RelO.some_of (v:=v) (o:=(atKey xs k).map (·.2)) (by rw[l];exact rel.val k);obtain⟨p,hp,hp2⟩:=L_.mp hw;refine wpAny_getItem_heap (tupleKind_room_in1 hu) (sT I.hok eb) dd hp ?_;rw[hp2];exact h w' _ (I.tok _) rw'
def vS(I:Inv X pins σ H s)(mu:Mut (H a))(hs:Heap.SameBut a s.heap h')(he:∃q,h'.get? a=some q)(new:ObjOk X.prog X.w (upd H a ob) h' a ob):
 Inv X pins σ (upd H a ob) { s with heap:=h',toks:=t' }:=
 I.write (x:=a) (e:=a) mu (.inl rfl) (λb q hb z=>(hs.2 b hb).trans z) he new
def Jp(z:kvs.length<=sizeLine)(hd:(a==sysModules)=false)(rel:KV kvs vs)(dd:h'.DictOf (bT P w) a vs):
 ObjOk P w H' h' a (.dK kvs):=⟨z,hd,vs,rel,dd⟩
def zJ(hu:A.units+1<cLine)(I:Inv X pins σ H s)(g:DPut H a y v H')(ry:RelV y u)(rv:RelV v r)(h:∀s',Inv X pins σ H' s'->Q () s'):
 wpAny (model X.prog X.w) A (setItem (.ref a) u r) Q E s:=by
 rcases g with ⟨kvs,k,e,ey,l,eH⟩ |⟨kvs,k,b,e,ey,eb,l,eH⟩
 .subst ey eH;obtain⟨z,hd,vs,rel,dd⟩:=Od I.hok e;have hz:vs.length<=sizeLine:=by rw[<- rel.length];exact z
  have hl:(eW kvs k v).length<=sizeLine:=by have:=lA kvs k v;omega
  refine wpAny_setItem_pairs (hsz:=hz) (za ry) dd λh' dd' hs=>h _ ?_;have he:∃q,h'.get? a=some q:=let ⟨q,_,_,hq,_⟩:=dd';⟨q,hq⟩;exact vS I (by rw[e];exact True.intro) hs he (Jp hl hd (rel.put k rv) dd')
 .subst ey eH;cases (show u=Value.ref b from ry);obtain⟨z,hd,xs,rel,dd⟩:=PM I.hok e;have hz:xs.length<=sizeLine:=by rw[<- Tv rel];exact z
  have hl:(eW kvs k v).length<=sizeLine:=by have:=lA kvs k v;omega
  refine wpAny_setItem_heap (hsz:=hz) (tupleKind_room_in1 hu) (sT I.hok eb) dd λh' dd' hs=>h _ ?_;obtain⟨q,es,ep,hq,h2,h3,h4,_,h5⟩:=dd';refine vS I (by rw[e];exact True.intro) hs ⟨q,hq⟩ ⟨hl,hd,_,(rel.put k eb rv).keeps λc ys ec=>?_,q,es,ep,hq,h2,h3,h4,h5⟩;rw[ax (Pe ec e (λz=>nomatch z))];exact ec
end
def yB(i:Expr):Prop:=∀ov iv,subscripted i false ov iv=operate [ov,iv] (getItem ov iv)
def H9{prog:Program}{w:World}{A:Around}{E:Uc}{s:Shared}{env:Env}{value j':Expr}{pos:Pos}{T id:String}{Q:Uc}
 (hl:typeLookup (.type T) "__getitem__"=pure (some (.builtin id))) (hs:yB j')
 (h:wpAny (model prog w) A (eval value env) (λo s₁=>wpAny (model prog w) A (eval j' env) (λi s₂=>s₂.TypeIs o T/\wpAny (model prog w) A (getItem o i) Q E s₂) E s₁) E s):
 wpAny (model prog w) A (eval (.Subscript value j' pos) env) Q E s:=by
 refine Subscript_ (QR h (λo s₁ h₁=>QR h₁ (λi s₂ h₂=>?_) λ_ _ x=>x) λ_ _ x=>x);obtain⟨hT,h₂⟩:=h₂;unfold subscriptTail;refine l_ ?_;rw[getitemInPython_of_ne hT.not_modules];refine l_ (wpAny_specialOf hT hl ?_);have i_:wpAny (model prog w) A (subscripted j' false o i) (λr s₃=>wpAny (model prog w) A (letTemporaryGo value o r >>= λ_=>pure r) Q E s₃) E s₂:=by rw[hs o i];exact wpAny_operating (QR h₂ (λr s₃ h₃=>l_ (wpAny_letTemporaryGo (x_ h₃))) λ_ _ x=>x)
 first
  |exact x_ (l_ i_)
  |exact l_ (x_ (l_ i_))
  |exact l_ i_
def vm(I:Inv X pins σ H s)(g:DGet H a y o):s.TypeIs (.ref a) "dict":=by
 rcases g with ⟨kvs,k,e,_,_⟩ |⟨kvs,k,b,e,_,_,_⟩
 .obtain⟨_,_,vs,_,dd⟩:=xo I.hok e;exact dd.typeIs
 .obtain⟨_,_,xs,_,dd⟩:=xy I.hok e;exact dd.typeIs
def P2(td ty:TE):TE:=λσ H Q=>td σ H λx H1=>ty σ H1 λy H2=>∃a v,x=.ref a/\DGet H2 a y (some v)/\Q v H2
section
variable{X:Cx}{o i:Expr}{pos:Pos}{td ty:TE}
def Hi(hu:X.A.units+1<cLine)(ho:PE X o td)(hi:PE X i ty)(hs:yB i):PE X (.Subscript o i pos) (P2 td ty):=by intro pins s σ H Q I h;refine H9 PySem.F.slot_dict_getitem.lookup hs (thn (ho pins s σ H _ I h) λu s1 ⟨x,H1,I1,rx,q1⟩=>thn (hi pins s1 σ H1 _ I1 q1) λiv s2 ⟨y,H2,I2,ry,a,v,ex,g,q2⟩=>?_);subst ex;obtain rfl:u=Value.ref a:=rx;exact⟨vm I2 g,zi hu I2 g ry λw' s3 I3 rw'=>⟨v,H2,I3,rw',q2⟩⟩
end
section
variable[DecidableEq κ]
noncomputable def lkD(kvs:List (κ×α))(k:κ):Option α:=(kvs.find? λkv=>decide (kv.1=k)).map (·.2)
noncomputable def cV(kvs:List (κ×α))(k:κ)(v:α):List (κ×α):=if (kvs.any λkv=>decide (kv.1=k))=true then kvs.map λkv=>if kv.1=k then (kv.1,v) else kv else kvs++[(k,v)]
end
section
variable{K:W.Frag}{mg:Ua}{ρ:List Addr}{H:Hp}
def Gv:∀{kvs:List (Key×D)}{ws:List (Key×V)},ws.map (·.1)=kvs.map (·.1)->RelDs K mg ρ H (kvs.map (·.2)) (ws.map (·.2))->lkD kvs k=some d->∃v,fU ws k=some v/\RelD K mg ρ H d v:=by
 intro kvs;induction kvs with
 |nil=>intro ws e r q;cases q
 |
  cons p kvs ih=>
  intro ws e r q;cases ws with
  |nil=>cases e
  |
   cons w ws=>
   obtain⟨k1,d1⟩:=p;obtain⟨k2,v2⟩:=w;rw[t_,t_] at e;injection e with e1 e2;dsimp only at e1;subst e1;cases r with
   |
    cons r rr=>
    unfold lkD at q;unfold fU;rw[Q4] at q ⊢;dsimp only at q ⊢;by_cases hk:k2=k
    .rw[G_ hk] at q ⊢;cases q;exact⟨v2,rfl,r⟩
    .rw[B_ hk] at q ⊢;exact ih e2 rr q
def rR[DecidableEq κ]:∀{kvs:List (κ×α)}{ws:List (κ×β)},ws.map (·.1)=kvs.map (·.1)->(ws.any λkv=>decide (kv.1=k))=kvs.any λkv=>decide (kv.1=k):=by
 intro kvs;induction kvs with
 |
  nil=>
  intro ws e;cases ws with
  |nil=>rfl
  |cons _ _=>cases e
 |
  cons p kvs ih=>
  intro ws e;cases ws with
  |nil=>cases e
  |cons w ws=>rw[t_,t_] at e;injection e with e1 e2;rw[Rq,Rq,ih e2,e1]
def Ez{k:Key}{d:D}{v:V}(rd:RelD K mg ρ H d v){kvs:List (Key×D)}{ws:List (Key×V)}(e:ws.map (·.1)=kvs.map (·.1))(r:RelDs K mg ρ H (kvs.map (·.2)) (ws.map (·.2))):(eW ws k v).map (·.1)=(cV kvs k d).map (·.1)/\RelDs K mg ρ H ((cV kvs k d).map (·.2)) ((eW ws k v).map (·.2)):=by
 unfold eW cV;rw[rR e];by_cases hc:(kvs.any λkv=>decide (kv.1=k))=true
 .rw[if_pos hc,if_pos hc];clear hc;induction kvs generalizing ws with
  |
   nil=>
   cases ws with
   |nil=>exact⟨rfl,.nil⟩
   |cons _ _=>cases e
  |
   cons p kvs ih=>
   cases ws with
   |nil=>cases e
   |
    cons w ws=>
    obtain⟨k1,d1⟩:=p;obtain⟨k2,v2⟩:=w;rw[t_,t_] at e;injection e with e1 e2;dsimp only at e1;subst e1;cases r with
    |
     cons r rr=>
     obtain⟨h1,h2⟩:=ih e2 rr;simp only[t_];by_cases hk:k2=k
     .rw[if_pos hk,if_pos hk];exact⟨by rw[h1],.cons rd h2⟩
     .rw[if_neg hk,if_neg hk];exact⟨by rw[h1],.cons r h2⟩
 .rw[if_neg hc,if_neg hc,QV,QV,QV,QV,e];exact⟨rfl,r.append (.cons rd .nil)⟩
def yp:xS:=λo i v H Q=>∃a H4,o=.ref a/\DPut H a i v H4/\Q H4
variable{X:Cx}{a:Expr}
def CK(hu:X.A.units+1<cLine):rL X yp:=λpins s σ H o i v ov iv u Q I ro ri rv ⟨a,H4,eo,g,q⟩=>by subst eo;obtain rfl:ov=Value.ref a:=ro;exact zJ hu I g ri rv λs4 I4=>⟨H4,I4,q⟩
end
open PySem PySem.Spec PySem.Calls PyProof.Rows
section
variable{X:Cx}{K:W.Frag}{mg:Ua}{es:List Expr}{gs:MGs}{pos:Pos}
def gUnp(K:W.Frag)(n:Nat)(t:TGs):TG:=λv σ H Q=>∃a xs,v=.ref a/\(SqT K H a xs\/SqL K H a xs)/\xs.length=n/\t xs σ H Q
def My{k:Nat}{t:TGs}{n:Nat}(hc:X.calm=true)(h:PGs X es t)
 (hn:(assignEach es X.env).length=n) (hst:(assignEach es X.env).findIdx? (·.1)=none):PG X (.Tuple es k pos) (gUnp X.K n t):=by
 intro pins s σ H v u Q I r hw;obtain⟨a,xs,e1,hq,hl,hw⟩:=hw;rcases hq with hq |hq
 .exact Bs hc h hn hst pins s σ H v u Q I r ⟨a,xs,e1,hq,hl,hw⟩
 .subst e1;cases r;obtain⟨its,rv,⟨o,m,ho,oc,od,os⟩,hz⟩:=I.list hq;have ht:s.heap.IsList a its.toArray:=⟨o,ho,oc,m,os⟩;rw[assign_Tuple];refine l_ (SH ?_);unfold unpack;rw[hst,hn,show n=its.toArray.size by simp [<- hl,rv.length]];refine l_ (Ry (W.kun_itemsOf (I.ok.hd hc) ht λh' hx=>?_));have I1:Inv X pins σ H { s with heap:=h' }:=I.kept (t':=s.toks) λb o e=>hx b o (P_ (y_ e)) e;exact h pins _ σ H xs _ Q I1 (by simpa using rv) hw
noncomputable def gU(u:MGs):MG:=λd ae h=>match d with
 |.tup ds=>u ds ae h
 |.ref p=>match aM h p with
  |some ds=>u ds ae h
  |none=>.stuck
 |_=>.stuck
def M5{k n:Nat}(hK:X.K=K)(hc:X.calm=true)(h:DGs K mg X (λ_=>E0) es gs)
 (hn:(assignEach es X.env).length=n) (hst:(assignEach es X.env).findIdx? (·.1)=none):DG K mg X (λ_=>E0) (.Tuple es k pos) (gU λds ae h=>if ds.length=n then gs ds ae h else .stuck):=by
 subst hK;refine PG.imp (My hc h hn hst) λv σ H Q q_=>q_.el λρ h ae d w re rd p=>?_;unfold gU at p;cases rd with
 |
  tup q rs=>
  dsimp only at p;split at p
  .rename_i hl;exact⟨_,_,rfl,.inl q,by rw[<- rs.len];exact hl,ρ,h,ae,_,w,re,rs,p⟩
  .exact p.elim
 |
  ref ea=>
  dsimp only at p;split at p
  .rename_i ds q;obtain⟨vs,h1,h2⟩:=a9 w ea q;split at p
   .rename_i hl;exact⟨_,_,rfl,.inr h1,by rw[<- h2.len];exact hl,ρ,h,ae,_,w,re,h2,p⟩
   .exact p.elim
  .exact p.elim
 |_=>exact p.elim
end
section
variable{X:Cx}{K:W.Frag}{mg:Ua}{ES:St->XK}{a:Expr}{A:MA}{pos q2 p1 p2:Pos}
def iI(j:Int):List V:=(List.range j.toNat).map λi=>V.int ((i:Nat):Int)
def rLrg:List V->Hp->VK->Prop:=λxs H Q=>∃j:Int,xs=[.int j]/\-(2^62)<=j/\j<=16777216/\∀l,H l=none->Q (.ref l) (upd H l (.lst (iI j)))
theorem vI:∀(n:Nat) (f:Nat->Int) (is:List Nat) (ys:List Value),CarriedAll ys (is.map λi=>PyData.int (f i))->Vals (is.map λi=>V.int (f i)) ys
 |n,f,[],ys,h=>by cases h;exact .nil
 |
  n,f,i::is,ys,h=>by
  cases h with
  |cons c r=>cases c;exact .cons ⟨_,rfl⟩ (vI n f is _ r)
def Mc(hc:X.calm=true)(hl:Gl X "list")(hml:X.mg "list"=none)(hg:Gl X "range")(hm:X.mg "range"=none)(ha:PA X [a] ta)(hs:starEach [a] X.env=[(false,eval a X.env)])
 (hs1:starEach [.Call (.Name "range" p2) [a] [] q2] X.env=[(false,eval (.Call (.Name "range" p2) [a] [] q2) X.env)]):
 PE X (.Call (.Name "list" p1) [.Call (.Name "range" p2) [a] [] q2] [] pos) (tCB rLrg ta):=by
 intro pins s σ H Q I h;refine Q7 (cU I hl hml (show bootBuiltins "list"=some (.type "list") from rfl) ?_ (by decide) (by decide));refine QT ?_ hs1 rfl;rw[hs1];show wpAny _ _ (spliced ((false,eval (.Call (.Name "range" p2) [a] [] q2) X.env)::[])) _ _ s;refine R0 ?_;refine Q7 (cU I hg hm (show bootBuiltins "range"=some (.type "range") from rfl) ?_ (by decide) (by decide));refine QT (thn (ha q2 pins s σ H _ I h) λus s1 ⟨vs,H1,I1,r1,q1⟩=>?_) hs rfl;obtain⟨j,e,h1,h2,q⟩:=q1;subst e;cases r1 with
 |
  cons r rr=>
  cases rr;obtain⟨t,rfl⟩:=r;refine call_range_1 (Sq ?_);have I2:Inv X pins σ H1 { s1 with heap:=s1.heap.push { cls:=.type "range",data:=.fields #[.int 0 s1.toks,.int j t,.int 1 (s1.toks+1)] },toks:=s1.toks+1+1 }:=I1.kept λb o e=>o_ _ e;obtain⟨m,hns,_⟩:=I2.loc;refine list_rangeD (I.ok.hd hc) (Att.fr_all hns) (news:=[]) (λp hp=>nomatch hp) (IsRange.new ..) (small_one (by omega) (by omega) (by omega) (by omega)) (n:=j.toNat) (by rw[Tz];split <;> omega) (by omega) ?_;intro h' tk ys hf hn hk _ _ ⟨⟨c,hpl⟩,_⟩ hcar;have rv:Vals (iI j) ys:=vI 0 (λi=>((i:Nat):Int)) (List.range j.toNat) ys (by
   unfold rangeInts at hcar;rw[Q9] at hcar;have e:((λi=>PyData.int i) ∘ λ(i:Nat)=>(0:Int)+(i:Int)*1)=λi:Nat=>PyData.int (i:Int):=by funext i;simp
   rw[show (PyData.int ∘ λ(i:Nat)=>(0:Int)+(i:Int)*1)=λi:Nat=>PyData.int (i:Int) from e] at hcar;exact hcar)
  have hz:(iI j).length<=sizeLine:=by unfold iI;rw[m_,v_];have:sizeLine=16777216:=rfl;omega
  exact⟨.ref _,_,I2.laid (t':=tk) hk (p_ _) (show ObjOk X.prog X.w _ h' _ (.lst (iI j)) from ⟨hz,ys,c,rv,hpl⟩),rfl,q _ (I2.hok.fresh (p_ _))⟩
def oh(j:Int):List D:=(List.range j.toNat).map λi=>D.int ((i:Nat):Int)
def oO:Fn:=λds h=>match ds with
 | [.int j]=>if -(2^62)<=j/\j<=16777216 then .ok (.ref h.length) (h++[.lst (oh j)]) else .stuck
 |_=>.stuck
theorem sd(ρ:List Addr)(H:Hp):∀is:List Nat,RelDs K mg ρ H (is.map λi=>D.int ((i:Nat):Int)) (is.map λi=>V.int ((i:Nat):Int))
 | []=>.nil
 |i::is=>.cons (.int _) (sd ρ H is)
def M6:aV K mg rLrg oO:=λρ h H ds vs Q E w rs p=>by
 unfold oO at p;split at p
 .split at p
  .rename_i hb;cases rs with
   |cons r rs=>cases r;cases rs;exact⟨_,rfl,hb.1,hb.2,λl hl=>eY w (sd ρ H _) hl p⟩
  .exact p.elim
 .exact p.elim
def JY(hc:X.calm=true)(hl:Gl X "list")(hml:mg "list"=none)(hg:Gl X "range")(hm:mg "range"=none)(ha:DA K mg X ES [a] A)(hk:X.mg=mg)(hs:starEach [a] X.env=[(false,eval a X.env)])
 (hs1:starEach [.Call (.Name "range" p2) [a] [] q2] X.env=[(false,eval (.Call (.Name "range" p2) [a] [] q2) X.env)]):
 DE K mg X ES (.Call (.Name "list" p1) [.Call (.Name "range" p2) [a] [] q2] [] pos) (eFn oO A):=by
 subst hk;exact PE.imp (Mc hc hl hml hg hm ha hs hs1) (yO M6)
end
section
variable{X:Cx}
def Ox:List V->Hp->VK->Prop:=λxs H Q=>xs=[]/\∀l,H l=none->Q (.ref l) (upd H l (.set (λ_=>false) 0))
def tN:R2:=λx y H Q=>∃i a S n,x=.int i/\y=.ref a/\H a=some (.set S n)/\Q (.bl (S i)) H
def EA:OpR X (compareOp .In) tN:=by intro pins s σ H x y v u Q I rx ry h;obtain⟨i,a,S,n,rfl,rfl,hH,q⟩:=h;obtain⟨t,rfl⟩:=rx;cases ry;have hS:s.heap.SetOf (intKind X.prog X.w) a S n:=I.hok a _ hH;exact wpAny_inSet_of (intKind_is _ _ i t) rfl hS ⟨.bl (S i),H,I.tok _,rfl,q⟩
def xa:V->List V->Hp->VK->Prop:=λx vs H Q=>∃a i S n,x=.ref a/\vs=[.int i]/\H a=some (.set S n)/\n<4000/\Q .non (upd H a (.set (λk=>S k || decide (k=i)) (if S i then n else n+1)))
def Bi:MtM X "set.add" xa:=by intro pins s σ H x vs v us Q I rx rv h;obtain⟨a,i,S,n,rfl,rfl,hH,hn,q⟩:=h;cases rx;obtain⟨u,rfl,ru⟩:=rv.one;obtain⟨t,rfl⟩:=ru;have hS:s.heap.SetOf (intKind X.prog X.w) a S n:=I.hok a _ hH;refine call_set_add (intKind_is _ _ i t) rfl hS (by unfold scanBound;omega) λh' sb hS'=>?_;refine⟨.non,_,I.write (x:=a) (e:=a) (by rw[hH];exact trivial) (.inl rfl) (λb o hb e=>(sb.2 b hb).trans e) ?_ (show ObjOk X.prog X.w _ h' a (.set (λk=>S k || decide (k=i)) (if S i then n else n+1)) from hS'),rfl,q⟩;obtain⟨o,_,_,_,e,_⟩:=hS';exact⟨o,e⟩
def vg:CallR X (.builtin "len") (λxs H Q=>∃a S n,xs=[.ref a]/\H a=some (.set S n)/\Q (.int (n:Nat)) H):=by intro pins s σ H xs us Q I r h;obtain⟨a,S,n,rfl,hH,q⟩:=h;obtain⟨u,rfl,ru⟩:=f6 r;cases ru;have hS:s.heap.SetOf (intKind X.prog X.w) a S n:=I.hok a _ hH;obtain⟨o,es,ep,t,e,hex,hd,_,_,hb,hf,rfl⟩:=hS;refine call_len_set e hex hd hf (by unfold scanBound at hb;omega) ⟨.int (es.size:Nat),H,I.tok _,⟨_,rfl⟩,q⟩
def Ar:CallR X (.type "set") Ox:=by intro pins s σ H xs us Q I r h;obtain⟨rfl,q⟩:=h;cases r;refine call_set_0 λled=>?_;refine⟨.ref s.heap.objs.size,_,I.laid (t':=s.toks) (λb o e=>o_ _ e) (p_ _) (show ObjOk X.prog X.w _ _ _ (.set (λ_=>false) 0) from ?_),rfl,q _ (I.hok.fresh (p_ _))⟩;obtain⟨h1,es,ep,tt,h2,h3,h4,h5,h6⟩:=setObjOf_fresh (knd:=intKind X.prog X.w) led;exact⟨_,es,ep,tt,Em _ rfl,h1,h2,h3,h4,by rw[h5];decide,h6,h5⟩
end
section
variable{K:W.Frag}{mg:Ua}{X:Cx}{ES:St->XK}{o e:Expr}{es:List Expr}{F:ME}{A:MA}{pos:Pos}
noncomputable def xw:ME:=λ_ h=>.ok (.ref h.length) (h++[.set []])
noncomputable def sC:D->D->AH->R D:=λx y h=>match x,y with
 |.int i,.ref n=>match h[n]? with
  |some (.set xs)=>.ok (.bl (decide (i∈xs))) h
  |_=>.stuck
 |_,_=>.stuck
noncomputable def nC:Fn:=λds h=>match ds with
 | [.ref n]=>match h[n]? with
  |some (.set xs)=>.ok (.int (xs.length:Nat)) h
  |_=>.stuck
 |_=>.stuck
def eX(xs:List Int)(i:Int):List Int:=if i∈xs then xs else i::xs
noncomputable def sN:D->List D->AH->R D:=λx ds h=>match x,ds with
 |.ref n,[.int i]=>match h[n]? with
  |some (.set xs)=>if xs.length<4000 then .ok .non (h.set n (.set (eX xs i))) else .stuck
  |_=>.stuck
 |_,_=>.stuck
noncomputable def yw(h:AH):D->Bool
 |.ref n=>match h[n]? with
  |some (.set _)=>true
  |_=>false
 |_=>false
noncomputable def eMS(F:ME)(A:MA):ME:=λae h=>(F ae h).bind λx h1=>if yw h1 x=true then (A ae h1).bind λds h2=>sN x ds h2 else .stuck
def Iu:OpD K mg tN sC:=λρ h H dx dy x y Q E w rx ry p=>by
 unfold sC at p;split at p
 .cases rx;cases ry with
  |
   ref ea=>
   split at p
   .rename_i xs e;obtain⟨_,h1⟩:=w.ob _ _ _ ea e;exact⟨_,_,_,_,rfl,rfl,h1,az w (.bl _) p⟩
   .exact p.elim
 .exact p.elim
def HN:aV K mg (λxs H Q=>∃a S n,xs=[.ref a]/\H a=some (.set S n)/\Q (.int (n:Nat)) H) nC:=λρ h H ds vs Q E w rs p=>by
 unfold nC at p;split at p
 .cases
   rs with
  |
   cons r rs=>
   cases rs;cases r with
   |
    ref ea=>
    split at p
    .rename_i xs e;obtain⟨_,h1⟩:=w.ob _ _ _ ea e;exact⟨_,_,_,rfl,h1,az w (.int _) p⟩
    .exact p.elim
 .exact p.elim
def IF:MtD K mg xa sN:=λρ h H dx ds x vs Q E w rx rs p=>by
 unfold sN at p;split at p
 .rename_i n i;cases rx with
  |
   ref ea=>
   cases rs with
   |
    cons r rs=>
    cases rs;cases r;split at p
    .rename_i xs e;split at p
     .rename_i hl;obtain⟨nd,h1⟩:=w.ob _ _ _ ea e;refine⟨_,_,_,_,rfl,rfl,h1,hl,?_⟩;have e2:HO.set (λk=>decide (k∈xs) || decide (k=i)) (if decide (i∈xs)=true then xs.length else xs.length+1)=.set (λk=>decide (k∈eX xs i)) (eX xs i).length:=by
       unfold eX;by_cases hi:i∈xs
       .rw[if_pos (G_ hi),if_pos hi];congr 1;funext k;by_cases hk:k∈xs
        .rw[G_ hk];rfl
        .rw[B_ hk,B_ (show ¬ k=i from λz=>hk (by rw[z];exact hi))];rfl
       .rw[if_neg (by rw[B_ hi];exact A_),if_neg hi];congr 1;funext k;rw[Bool.eq_iff_iff,Sh,RD,RD,RD,I_];exact Or.comm
      rw[e2];have l:Le ρ H ρ (upd H _ (.set (λk=>decide (k∈eX xs i)) (eX xs i).length)):=kO h1 Fh;refine p ρ _ l (w.write ea h1 Fh ⟨?_,aW⟩) .non .non;unfold eX;split
      .exact nd
      .rename_i hi;exact Sj.mpr ⟨hi,nd⟩
     .exact p.elim
    .exact p.elim
 .exact p.elim
def Gx(hg:Gl X x)(hm:mg x=none)(hv:bootBuiltins x=some (.type "set"))(hk:X.mg=mg)(hn:x ≠ "__name__")(hdb:(x==("__debug__" : Str))=false):DE K mg X ES (.Call (.Name x p0) [] [] pos) xw:=by
 subst hk;refine PE.imp (xO Ar hg hm hv hn hdb) λσ H Q q_=>q_.el λρ h ae w re p=>⟨rfl,λl hl=>?_⟩;have le:Le ρ H (ρ++[l]) (upd H l (.set (λ_=>false) 0)):=(cK hl).trans lb;refine p (ρ++[l]) _ le (w.alloc hl ⟨List.nodup_nil,?_⟩) _ (.ref ?_)
 .rw[aW];congr 1
 .rw[<- w.len,QM (p_ _),SA];rfl
def N9(hK:X.K=K)(ho:DE K mg X ES o F)(ha:DA K mg X ES (e::es) A)
 (d_:attributeBase o "add" X.env (eval o X.env)=eval o X.env)
 (hfew:((backTo cpos (starEach (e::es) X.env)).all (λx=>!x.1)&&(backToKw cpos (keywordEach [] X.env)).all (λx=>x.1.isSome)
  && decide ((e::es).length+([]:List Keyword).length+(if ([]:List Keyword).isEmpty then 0 else 1)<30))=true)
 (f_:(apos.endLine==cpos.line)=true) (hs:starEach (e::es) X.env=(false,eval e X.env)::starEach es X.env) (c_:(backTo cpos (starEach es X.env)).any (·.1)=false):
 DE K mg X ES (.Call (.Attribute o "add" apos) (e::es) [] cpos) (eMS F A):=by
 subst hK;refine PE.imp (Fs PySem.F.plainAttrs_set PySem.F.slot_set_add PySem.F.type_set_add Bi ho ha d_ hfew f_ hs c_) λσ H Q q_=>q_.el λρ h ae w re p=>⟨ρ,h,ae,w,re,p.bind.imp λdx h1 ρ1 H1 l1 w1 p1 x rx=>?_⟩;split at p1
 .rename_i hl;have ty:tyV X.K "set" x H1:=by
   cases rx with
   |
    ref ea=>
    unfold yw at hl;dsimp only at hl;split at hl
    .rename_i xs q;obtain⟨_,hh⟩:=w1.ob _ _ _ ea q;exact .inr (.inr (.inr ⟨rfl,_,_,hh⟩))
    .cases hl
   |_=>cases hl
  exact⟨ty,ρ1,h1,ae,w1,re.mono l1,p1.bind.imp λds h2 ρ2 H2 l2 w2 p2 vs rs=>IF ρ2 h2 H2 dx ds x vs Q _ w2 (rx.mono l2) rs p2⟩
 .exact p1.elim
end
section
variable{K:W.Frag}{mg:Ua}
noncomputable def rF:D->D->AH->R D:=λx y h=>match x with
 |.ref n=>(match y with
  |.int k=>(match h[n]? with
   |some (.dct kvs)=>(match lkD kvs (.inl k) with
    |some d=>.ok d h
    |none=>.stuck)
   |_=>.stuck)
  |_=>.stuck)
 |_=>.stuck
noncomputable def wDI(o i v:D)(h:AH):R Unit:=match o with
 |.ref n=>(match i with
  |.int k=>(match h[n]? with
   |some (.dct kvs)=>if kvs.length<16777216 then .ok () (h.set n (.dct (cV kvs (.inl k) v))) else .stuck
   |_=>.stuck)
  |_=>.stuck)
 |_=>.stuck
variable{X:Cx}{ES:St->XK}{a b:Expr}{F G:ME}{pos:Pos}
def C1:og K mg yp wDI:=λρ h H do_ di dv o i v Q E w ro ri rv p=>by
 unfold wDI at p;split at p
 .split
   at p
  .split
    at p
   .rename_i n k _ kvs e;split at p
    .rename_i hl;cases ro with
     |
      ref ea=>
      cases ri;obtain⟨ws,h1,h2,h3⟩:=w.ob _ _ _ ea e;have bi:ws.length=kvs.length:=by have:=QW List.length h2;simpa using this
      have l:Le ρ H ρ (upd H _ (.dK (eW ws (.inl k) v))):=kO h1 dKNo;obtain⟨k1,k2⟩:=Ez (k:=.inl k) rv h2 h3;exact⟨_,_,rfl,DPut.k (k:=.inl k) h1 (by rw[bi];exact hl),p ρ _ l (w.write ea h1 dKNo ⟨_,aW,k1,k2.mono l⟩)⟩
    .exact p.elim
   .exact p.elim
  .exact p.elim
 .exact p.elim
def Et(hu:X.A.units+1<cLine)(ha:DE K mg X ES a F)(hb:DE K mg X ES b G)(hs:yB b):DE K mg X ES (.Subscript a b pos) (eOp rF F G):=PE.imp (Hi hu ha hb hs) λσ H Q q_=>q_.el λρ h ae w re p=>⟨ρ,h,ae,w,re,p.bind.imp λdx h1 ρ1 H1 l1 w1 p1 x rx=>⟨ρ1,h1,ae,w1,re.mono l1,p1.bind.imp λdy h2 ρ2 H2 l2 w2 p2 y ry=>by
 have rx2:=rx.mono l2;unfold rF at p2;split at p2
 .split
   at p2
  .split
    at p2
   .rename_i n k _ kvs e;split at p2
    .rename_i d q;cases rx2 with
     |ref ea=>cases ry;obtain⟨ws,k1,k2,k3⟩:=w2.ob _ _ _ ea e;obtain⟨v,q1,rv⟩:=Gv k2 k3 q;refine⟨_,v,rfl,?_,az w2 rv p2⟩;rw[<- q1];exact DGet.k (k:=.inl k) k1
    .exact p2.elim
   .exact p2.elim
  .exact p2.elim
 .exact p2.elim⟩⟩
end
section
variable{X:Cx}{K:W.Frag}{mg:Ua}
def mj(K:W.Frag):V->List V->Hp->VK->Prop:=λx vs H Q=>∃l b xs zs,x=.ref l/\vs=[.ref b]/\H l=some (.lst xs)/\SqT K H b zs/\xs.length+zs.length<=sizeLine/\Q .non (upd H l (.lst (xs++zs)))
def G7(l:Addr)(xs:Array Value)(n:Nat)(b:Addr)(ys:Array Value)(n2:Nat)(dd:Option Addr)(ss:Array (Option Value))(z0:¬(!xs.isEmpty&&Builtin.List.listTooLong (xs.size+ys.size))=true)(z1:xs.size<=sizeLine)(z2:xs.size+ys.size<=sizeLine+1):
 Meets (Builtin.«list.extend» ⟨[.ref l,.ref b],[]⟩) (λ_ R s=>s.heap.get? l=some { cls:=.type "list",dict:=none,data:=.seq xs n,slots:=#[] }/\s.heap.get? b=some { cls:=.type "tuple",dict:=dd,data:=.seq ys n2,slots:=ss }/\R (.ok (.ret Value.none)) { s with heap:=s.heap.update l (Obj.mapSeq λx=>x++ys),toks:=s.toks }):=
 .of_wp λprog w A R s h=>by
  obtain⟨hp,g,d,tk,os⟩:=s;obtain⟨el,eb,h⟩:=h;have e1:=PySem.AutoSeq1.idx_int;have e2:=PySem.F.sub_tuple_tuple;have e3:=PySem.F.sub_list_list;have e4:=PySem.F.sub_tuple_list;have e5:=PySem.F.sub_list_tuple;have zz:(xs++ys).size<=sizeLine+1:=by rw[Array.size_append];exact z2
  wp_walk using (wpAny_updateSeq el rfl (hz:=z1) (_hz':=zz)),wpAny_loadPart' el,wpAny_loadPart' eb
  exact⟨_,rfl,h⟩
def zc(hK:X.K=K):MtM X "list.extend" (mj K):=by
 subst hK;intro pins s σ H x vs v us Q I rx rv h;obtain⟨l,b,xs,zs,rfl,rfl,hH,hB,hz,q⟩:=h;cases rx;obtain⟨u,rfl,ru⟩:=rv.one;cases ru;obtain⟨z,its,n,r,hl,e⟩:=I.lstM hH;obtain⟨its2,r2,⟨⟨oc,od,oda,os⟩,e2,ec,n2,ed⟩,z2⟩:=I.tuple hB;dsimp only at ec ed;subst ec ed;have hl2:=r2.length;have hsz:its.toArray.size+its2.toArray.size<=sizeLine:=by rw[z_,z_];omega
 have hlong:¬ (!its.toArray.isEmpty&&Builtin.List.listTooLong (its.toArray.size+its2.toArray.size))=true:=by rw[DP hsz,Bool.and_false];exact A_
 refine call_meets PySem.F.slot_list_extend ⟨_,e,rfl⟩ PySem.F.entry_list_extend (PySem.F.args_list_extend_2 _ _)
  (G7 l its.toArray n b its2.toArray n2 od os hlong (by rw[z_];omega) (by omega)) ⟨e,e2,?_⟩
 refine⟨.non,_,I.lset (its':=its++its2) hH e (by simp) (r.append r2) ?_,rfl,q⟩;rw[D_];omega
noncomputable def jo:D->List D->AH->R D:=λx ds h=>jA h x λn xs=>match ds with
 | [.tup ys]=>if xs.length+ys.length<=16777216 then .ok .non (h.set n (.lst (xs++ys))) else .stuck
 |_=>.stuck
def yo:MtD K mg (mj K) jo:=λρ h H dx ds x vs Q E w rx rs p=>by
 obtain⟨n,xs,a,us,rfl,e,ea,rfl,h1,h2,p⟩:=kg w rx p;split at p
 .cases rs with
  |
   cons r rs=>
   cases rs;split at p
   .rename_i hb;cases r with
    |tup hq rr=>exact⟨a,_,us,_,rfl,rfl,h1,hq,by rw[<- h2.len,<- rr.len];exact hb,mi w ea h1 (h2.append rr) .non p⟩
   .exact p.elim
 .exact p.elim
end
noncomputable def mnI:List Int->Int
 | []=>0
 | [x]=>x
 |x::y::r=>if mnI (y::r)<x then mnI (y::r) else x
theorem n8:∀{l:List Int},l≠[]->mnI l∈l
 | [x],_=>by simp [mnI]
 |
  x::y::r,_=>by
  have:=n8 (l:=y::r) (by simp)
  rw[mnI];split
  .exact n_ _ this
  .exact r_ ..
theorem zR:∀{l:List Int}{a:Int},a∈l->mnI l<=a
 | [x],a,h=>by rw[Q6] at h;rw[h];exact Int.le_refl _
 |
  x::y::r,a,h=>by
  rw[mnI];rcases I_.mp h with rfl |h
  .split <;> omega
  .have:=zR (l:=y::r) h
   split <;> omega
section
variable{X:Cx}{K:W.Frag}{mg:Ua}
def EI(f:List Int->Int)(K:W.Frag):List V->Hp->VK->Prop:=λxs H Q=>∃(a:Addr) (ns:List Int),xs=[.ref a]/\SqL K H a (ns.map V.int)/\ns≠[]/\Q (.int (f ns)) H
def zC(hK:X.K=K)(hc:X.calm=true):CallR X (.builtin "min") (EI mnI K):=by
 subst hK;intro pins s σ H xs us Q I r h;obtain⟨a,ns,rfl,hq,hne,q⟩:=h;obtain⟨u,rfl,ru⟩:=f6 r;cases ru;obtain⟨its,rv,p,hz⟩:=I.list hq;have hi:=oX rv;obtain⟨ys,hy⟩:=hi.allInts.items;have hn:numsOf its.toArray.toList=ns:=by rw[show its.toArray.toList=its from rfl,hi.numsOf]
 have pl:=p.isList;rw[hy] at pl hn;rw[nums_intItems] at hn;have hsz:0<ys.size:=by
  have:ns.length=ys.size:=by rw[<- hn,m_,Q0]
  have:=List.length_pos_iff.mpr hne
  omega
 refine min_intList (I.ok.hd hc) pl hsz λv h' tk hv hk=>?_;obtain⟨t,rfl⟩:=intItems_at hv;obtain⟨h1,h2⟩:=argBest_lt (numAt ys) (ys.size-1);have m1:numAt ys (argBest (λi j=>decide (numAt ys i<numAt ys j)) (ys.size-1))∈ns:=by rw[<- hn,numAt_eq];exact getD_mem (by rw[m_,Q0];omega)
 have m2:∀b∈ns,numAt ys (argBest (λi j=>decide (numAt ys i<numAt ys j)) (ys.size-1))<=b:=λb hb=>by rw[<- hn] at hb;obtain⟨j,hj,rfl⟩:=mem_getD hb;rw[m_,Q0] at hj;rw[<- numAt_eq];exact h2 j (by omega)
 have e:numAt ys (argBest (λi j=>decide (numAt ys i<numAt ys j)) (ys.size-1))=mnI ns:=Int.le_antisymm (m2 _ (n8 hne)) (zR m1);rw[e];exact⟨.int (mnI ns),H,I.kept (t':=tk) hk,⟨_,rfl⟩,q⟩
noncomputable def rG(f:List Int->Int):Fn:=λds h=>match ds with
 | [.ref n]=>match (aM h n).bind eQ with
  |some ns=>if ns≠[] then .ok (.int (f ns)) h else .stuck
  |none=>.stuck
 |_=>.stuck
def IS(f:List Int->Int):aV K mg (EI f K) (rG f):=λρ h H ds vs Q E w rs p=>by
 unfold rG at p;split at p
 .cases
   rs with
  |
   cons r rs=>
   cases r with
   |
    ref ea=>
    cases rs;split at p
    .rename_i bs e;obtain⟨xs,q,e2⟩:=QK.mp e;split at p
     .rename_i hne;obtain⟨vs,h1,h2⟩:=a9 w ea q;rw[jT e2] at h2;rw[h2.ints] at h1;exact⟨_,bs,rfl,h1,hne,az w (.int _) p⟩
     .exact p.elim
    .exact p.elim
 .exact p.elim
end
section
variable{K:W.Frag}{mg:Ua}
noncomputable def nh:List D->Option (List Int)
 | []=>some []
 |.int i::ds=>(nh ds).map (i :: ·)
 |_::_=>none
theorem pK{ρ:List Addr}{H:Hp}:∀{ds:List D}{vs:List V}{ns:List Int},RelDs K mg ρ H ds vs->nh ds=some ns->vs=ns.map V.int
 | [],_,_,r,e=>by cases r;cases e;rfl
 |
  d::ds,_,ns,r,e=>by
  cases r with
  |
   cons r rr=>
   cases d with
   |int i=>obtain⟨ms,e1,rfl⟩:=L_.mp e;cases r;rw[pK rr e1];rfl
   |_=>cases e
end
open PySem PySem.W PyProof.Rows
structure LtO(lt:Nat->Nat->Bool)(N:Nat):Prop where
 irr:∀i,lt i i=false
 tr:∀i j k,lt i j=true->lt j k=true->lt i k=true
 tot:∀i j,i<N->j<N->i≠j->lt i j=true\/lt j i=true
abbrev Ask:=Nat->Nat->(Bool->Shared->Prop)->Shared->Prop
def Ans(cmp:Ask)(lt:Nat->Nat->Bool)(N:Nat)(s:Shared):Prop:=∀i j C,i<N->j<N->C (lt i j) s->cmp i j C s
structure PmO(N:Nat)(p:Array Nat):Prop where
 sz:p.size=N
 lt:∀i,i<N->p.getD i 0<N
 ne:∀i j,i<j->j<N->p.getD i 0≠p.getD j 0
def UpTo(lt:Nat->Nat->Bool)(p:Array Nat)(k:Nat):Prop:=∀i j,i<j->j<k->lt (p.getD i 0) (p.getD j 0)=true
def DnTo(lt:Nat->Nat->Bool)(p:Array Nat)(k:Nat):Prop:=∀i j,i<j->j<k->lt (p.getD j 0) (p.getD i 0)=true
def eN(p:Array Nat)(i:Nat):p.getD i 0=(p[i]?).getD 0:=by rw[Array.getD_eq_getD_getElem?]
def PmO.of{N:Nat}{p:Array Nat}(h:p.toList.Perm (List.range N)):PmO N p:=by
 have hl:p.size=N:=by rw[<- Q0,h.length_eq,v_]
 have nd:p.toList.Nodup:=h.nodup_iff.mpr S8;have e:∀i (hi:i<N),p.getD i 0=p.toList[i]'(by rw[Q0,hl];exact hi):=λi hi=>by rw[eN,SI (by rw[hl];exact hi)];simp
 refine⟨hl,λi hi=>?_,λi j hij hj=>?_⟩
 .rw[e i hi];exact N_.mp (h.mem_iff.mp (Rm _))
 .rw[e i (by omega),e j hj];exact RJ.mp nd i j _ _ hij
variable{lt:Nat->Nat->Bool}{N:Nat}{cmp:Ask}{s:Shared}
def LtO.flip(O:LtO lt N){p:Array Nat}(P:PmO N p){i j:Nat}(hij:i<j)(hj:j<N)(h:lt (p.getD j 0) (p.getD i 0)=false):lt (p.getD i 0) (p.getD j 0)=true:=by
 rcases O.tot _ _ (P.lt i (by omega)) (P.lt j hj) (P.ne i j hij hj) with z |z
 .exact z
 .rw[h] at z;cases z
def UpTo.more(O:LtO lt N){p:Array Nat}{n:Nat}(h:UpTo lt p n)(hn:1<=n)(e:lt (p.getD (n-1) 0) (p.getD n 0)=true):UpTo lt p (n+1):=λi j hij hj=>by
 by_cases hj':j<n
 .exact h i j hij hj'
 .obtain rfl:j=n:=by omega
  by_cases hi:i=j-1
  .rw[hi];exact e
  .exact O.tr _ _ _ (h i (j-1) (by omega) (by omega)) e
def DnTo.more(O:LtO lt N){p:Array Nat}{n:Nat}(h:DnTo lt p n)(hn:1<=n)(e:lt (p.getD n 0) (p.getD (n-1) 0)=true):DnTo lt p (n+1):=λi j hij hj=>by
 by_cases hj':j<n
 .exact h i j hij hj'
 .obtain rfl:j=n:=by omega
  by_cases hi:i=j-1
  .rw[hi];exact e
  .exact O.tr _ _ _ e (h i (j-1) (by omega) (by omega))
theorem rS(O:LtO lt N)(C:Ans cmp lt N s){p:Array Nat}(P:PmO N p){Q:Nat->Shared->Prop}:∀(f n:Nat),n+f=N->1<=n->UpTo lt p n->(∀m,n<=m->m<=N->UpTo lt p m->(m=N\/lt (p.getD m 0) (p.getD (m-1) 0)=true)->Q m s)->(kas_asc p f n).kasWp cmp Q s
 |0,n,hf,h1,hu,hq=>hq n (p_ _) (by omega) hu (.inl (by omega))
 |
  f+1,n,hf,h1,hu,hq=>by
  refine C _ _ _ (P.lt n (by omega)) (P.lt (n-1) (by omega)) ?_;cases z:lt (p.getD n 0) (p.getD (n-1) 0) with
  |true=>exact hq n (p_ _) (by omega) hu (.inr z)
  |false=>exact rS O C P f (n+1) (by omega) (by omega) (hu.more O h1 (O.flip P (by omega) (by omega) z)) λm a b=>hq m (by omega) b
theorem w6(O:LtO lt N)(C:Ans cmp lt N s){p:Array Nat}(P:PmO N p){Q:Array Nat×Nat×Nat->Shared->Prop}:∀(f n:Nat),n+f=N->1<=n->DnTo lt p n->(∀m,n<=m->m<=N->DnTo lt p m->Q (p,m,0) s)->(kas_desc f p n 0).kasWp cmp Q s
 |0,n,hf,h1,hu,hq=>hq n (p_ _) (by omega) hu
 |
  f+1,n,hf,h1,hu,hq=>by
  refine C _ _ _ (P.lt n (by omega)) (P.lt (n-1) (by omega)) ?_;cases z:lt (p.getD n 0) (p.getD (n-1) 0) with
  |true=>exact w6 O C P f (n+1) (by omega) (by omega) (hu.more O h1 z) λm a b=>hq m (by omega) b
  |false=>refine C _ _ _ (P.lt (n-1) (by omega)) (P.lt n (by omega)) ?_;rw[O.flip P (by omega) (by omega) z];exact hq n (p_ _) (by omega) hu
def By{p:Array Nat}{n k:Nat}(hn:n<=p.size):(kas_rev p 0 n).getD k 0=if k<n then p.getD (n-1-k) 0 else p.getD k 0:=by
 have e:=getElem?_mirror_all (xs:=p) (i:=0) hn k;unfold kas_rev;rw[eN,e];by_cases h:k<n
 .rw[if_pos ⟨QH _,h⟩,if_pos h,eN];congr 2;omega
 .rw[if_neg (λz=>h z.2),if_neg h,eN]
def C5(O:LtO lt N)(C:Ans cmp lt N s){p:Array Nat}(P:p.toList.Perm (List.range N)){Q:Nat×Array Nat->Shared->Prop}{n:Nat}(h1:1<=n)(hn:n<=N)(hd:DnTo lt p n)(hq:∀m p',p'.toList.Perm (List.range N)->1<=m->m<=N->UpTo lt p' m->Q (m,p') s):(kas_tail3 n N p).kasWp cmp Q s:=by have P':(kas_rev p 0 n).toList.Perm (List.range N):=(Array.perm_iff_toList_perm.mp (mirror_perm _ _ _ _)).trans P;have sz:=(PmO.of P).sz;unfold kas_tail3;rw[KasT.kasWp_bind];refine rS O C (PmO.of P') (N-n) n (by omega) h1 (λi j hij hj=>?_) λm a b c _=>hq m _ P' (by omega) b c;rw[By (by omega),By (by omega),if_pos (by omega),if_pos (by omega)];exact hd _ _ (by omega) (by omega)
def C9(O:LtO lt N)(C:Ans cmp lt N s){p:Array Nat}(P:p.toList.Perm (List.range N))(hN:1<=N){Q:Nat×Array Nat->Shared->Prop}(hq:∀m p',p'.toList.Perm (List.range N)->1<=m->m<=N->UpTo lt p' m->Q (m,p') s):(kas_count N p).kasWp cmp Q s:=by
 unfold kas_count;rw[KasT.kasWp_bind];refine rS O C (PmO.of P) (N-1) 1 (by omega) (p_ _) (λi j hij hj=>by omega) λm a b c d=>?_;by_cases hm:m=N
 .rw[if_pos (by rw[QP];exact hm)];exact hq m p P a b c
 .rw[if_neg (by rw[QP];exact hm)];by_cases h1:m>1
  .rw[if_pos h1];refine C _ _ _ ((PmO.of P).lt 0 (by omega)) ((PmO.of P).lt (m-1) (by omega)) ?_;rw[c 0 (m-1) (by omega) (by omega)];exact hq m p P a b c
  .rw[if_neg h1];obtain rfl:m=1:=by omega
   have z:=d.resolve_left hm;unfold kas_descPart;rw[KasT.kasWp_bind];refine w6 O C (PmO.of P) (N-2) 2 (by omega) (by omega) (λi j hij hj=>?_) λm' a' b' c'=>?_
   .obtain rfl:i=0:=by omega
    obtain rfl:j=1:=by omega
    exact z
   .dsimp only;rw[if_neg (by omega)];exact C5 O C P (by omega) b' c' hq
theorem uL(O:LtO lt N)(C:Ans cmp lt N s){p:Array Nat}(P:PmO N p){k:Nat}(hk:k<N){Q:Nat->Shared->Prop}(hu:UpTo lt p k):∀(f l r:Nat),l<=r->r<=k->r-l<=f->(∀i,i<l->lt (p.getD i 0) (p.getD k 0)=true)->(∀i,r<=i->i<k->lt (p.getD k 0) (p.getD i 0)=true)->(∀m,m<=k->(∀i,i<m->lt (p.getD i 0) (p.getD k 0)=true)->(∀i,m<=i->i<k->lt (p.getD k 0) (p.getD i 0)=true)->Q m s)->(kas_place p k f l r).kasWp cmp Q s
 |0,l,r,h1,h2,h3,h4,h5,hq=>hq l (by omega) h4 λi hi=>h5 i (by omega)
 |
  f+1,l,r,h1,h2,h3,h4,h5,hq=>by
  unfold kas_place;by_cases h:l >= r
  .rw[if_pos h];exact hq l (by omega) h4 λi hi=>h5 i (by omega)
  .rw[if_neg h];refine C _ _ _ (P.lt k hk) (P.lt _ (by omega)) ?_;cases z:lt (p.getD k 0) (p.getD ((l+r)/2) 0) with
   |
    true=>
    refine uL O C P hk hu f l ((l+r)/2) (by omega) (by omega) (by omega) h4 (λi hi hik=>?_) hq;by_cases hr:i=(l+r)/2
    .rw[hr];exact z
    .exact O.tr _ _ _ z (hu _ _ (by omega) hik)
   |
    false=>
    refine uL O C P hk hu f ((l+r)/2+1) r (by omega) h2 (by omega) (λi hi=>?_) h5 hq;have y:=O.flip P (show (l+r)/2<k by omega) hk z;by_cases hr:i=(l+r)/2
    .rw[hr];exact y
    .exact O.tr _ _ _ (hu _ _ (by omega) (by omega)) y
def AB{p:Array Nat}{k l t:Nat}(hk:k<p.size)(hl:l<=k):(bubble p k (k-l)).getD t 0=if t=l then p.getD k 0 else if l<t/\t<=k then p.getD (t-1) 0 else p.getD t 0:=by
 have e:=getElem?_bubble hk (k-l) (by omega) t;rw[show k-(k-l)=l by omega] at e;rw[eN,e];by_cases h:t=l
 .rw[if_pos h,if_pos h,eN]
 .rw[if_neg h,if_neg h];by_cases h':l<t/\t<=k
  .rw[if_pos h',if_pos h',eN]
  .rw[if_neg h',if_neg h',eN]
theorem AL(O:LtO lt N)(C:Ans cmp lt N s){Q:Array Nat->Shared->Prop}(hq:∀p,p.toList.Perm (List.range N)->UpTo lt p N->Q p s):∀(f:Nat) (p:Array Nat) (k:Nat),p.toList.Perm (List.range N)->k+f=N->1<=k->UpTo lt p k->(kas_bin f p k).kasWp cmp Q s
 |
  0,p,k,P,hf,h1,hu=>by
  obtain rfl:k=N:=by omega
  exact hq p P hu
 |
  f+1,p,k,P,hf,h1,hu=>by
  have sz:=(PmO.of P).sz;unfold kas_bin;rw[KasT.kasWp_bind];refine uL O C (PmO.of P) (by omega) hu k 0 k (by omega) (p_ _) (by omega) (λi hi=>by omega) (λi h1 h2=>by omega) λm hm ha hb=>?_;refine AL O C hq f _ (k+1) ((Array.perm_iff_toList_perm.mp (bubble_perm _ _ _)).trans P) (by omega) (by omega) λi j hij hj=>?_;rw[AB (by omega) hm,AB (by omega) hm];by_cases i1:i=m
  .rw[if_pos i1];rw[if_neg (by omega),if_pos (by omega)];exact hb _ (by omega) (by omega)
  .rw[if_neg i1];by_cases j1:j=m
   .rw[if_pos j1,if_neg (by omega)];exact ha i (by omega)
   .rw[if_neg j1];by_cases i2:m<i
    .rw[if_pos (by omega),if_pos (by omega)];exact hu _ _ (by omega) (by omega)
    .rw[if_neg (by omega)];by_cases j2:m<j
     .rw[if_pos (by omega)];exact hu _ _ (by omega) (by omega)
     .rw[if_neg (by omega)];exact hu _ _ (by omega) (by omega)
def GL(O:LtO lt N)(C:Ans cmp lt N s)(hN:1<=N){Q:Array Nat->Shared->Prop}(hq:∀p,p.toList.Perm (List.range N)->UpTo lt p N->Q p s):(kas_sort N).kasWp cmp Q s:=by
 unfold kas_sort;rw[KasT.kasWp_bind];refine C9 O C (by simp) hN λm p P h1 h2 hu=>?_;dsimp only;by_cases h:m<N
 .rw[if_pos h,show max m 1=m by omega];exact AL O C hq _ _ _ P (by omega) h1 hu
 .rw[if_neg h];obtain rfl:m=N:=by omega
  exact hq p P hu
def FI(H:Hp):Prop:=∀b,H b=none\/(∃o xs,H b=some (.frz o xs))\/H b=some (.tbl #[])
structure TabsOk(K:W.Frag)(ts:List Addr)(h:Heap):Prop where
 at_:∀P∈ts,h.get? P=some (W.tabObj #[])
 no:∀P∈ts,K.lookup P=none
 cd:∀P∈ts,∃c,W.codeHdIn K c P=true
def spT(K:W.Frag)(mg:Ua)(ts:List Addr):Sp:=λvs H Q _=>∃(a:Addr) (ns:List Int),vs=[.ref a]/\FI H/\SqL K H a (ns.map V.int)/\ns.length<=63/\(∀P∈ts,H P=some (.tbl #[]))/\BMok K mg H/\∀H',Q (.bl true) H'
def Qc{Pr:Program}{w:World}{K:W.Frag}{mg mb:Ua}{k:Nat}{fa a:Addr}{fd:FuncData}{x:Str}{s1:Shared}{vs:List Value}{ns:List Int}{ts:List Addr}
 (KX:K.In s1.heap) (hns:s1.heap.Ns mainGlobals mg) (hb:s1.heap.Ns builtinsNs mb) (hbb:∀y:Str,y ≠ "__name__"->mb y=bootBuiltins y) (hlim:s1.heap.NoLimit) (hg:s1.gens=#[]) (TO:TabsOk K ts s1.heap) (hbm:∃bm ob,mg "__builtins__"=some (.ref bm)/\bm≠builtinsNs/\s1.heap.get? bm=some ob/\ob.cls=.type "module" /\ ob.dict=some builtinsNs/\ob.data=.plain)
 (ha:s1.heap.get? a=some { cls:=.type "list",data:=.seq vs.toArray }) (hi:IntsAre vs ns) (hl:ns.length<=63) (hr:Room k callerA)
 (F:∀base:Heap,K.In base->base.Ns mainGlobals mg->FnOk Pr w K mg base (CX1 Pr w) k fa fd [x] (spT K mg ts)) (hbind:∀(s:Shared) (u:Value),BindsTo s fd ⟨[u],[]⟩ [(x,u)]):
 codeAny (model Pr w) callerA (.call (.ref fa) ⟨[.ref a],[]⟩) (λr s'=>r=.ok (.ret (.bool true))/\OldK s1.heap s'.heap/\s'.os=s1.os/\AllBare s'.gens) s1:=by
 have rv:=jZ hi;have hz:ns.length<=sizeLine:=F_ hl (by decide);have ant:a∉ts:=λz=>by
  have:=TO.at_ a z
  rw[ha] at this;cases this
 obtain⟨bm,ob,b1,b2,b3,b4,b5,b6⟩:=hbm;have bmG:bm≠mainGlobals:=λz=>by obtain⟨o,es,ep,e,dd,_⟩:=hns;rw[z,e] at b3;cases b3;rw[dd] at b6;cases b6
 have bmt:bm∉ts:=λz=>by
  have:=TO.at_ bm z
  rw[b3] at this;cases this;cases b6
 have bma:bm≠a:=λz=>by rw[z,ha] at b3;cases b3;cases b6
 have go
  : ∀Hs:Option HO,(Hs=none\/∃o xs,Hs=some (.frz o (.lst xs)))->(∀u,Hs=some u->ObjOk Pr w (λ_=>none) s1.heap a u)->(Hs≠none->K.lookup a=none)->(∀H:Hp,H a=Hs->SqL K H a (ns.map V.int))->
  codeAny (model Pr w) callerA (.call (.ref fa) ⟨[.ref a],[]⟩) (λr s'=>r=.ok (.ret (.bool true))/\OldK s1.heap s'.heap/\s'.os=s1.os/\AllBare s'.gens) s1:=by
  intro Hs h1 h2 h3 h4;obtain⟨H,eH⟩:∃H:Hp,H=λb=>if b=a then Hs else if b∈ts then some (.tbl #[]) else if b=bm/\K.lookup bm=none then some (.frz ob (.ext λ_=>True)) else none:=⟨_,rfl⟩
  have Ha:H a=Hs:=by rw[eH];exact if_pos rfl
  have Ht:∀P∈ts,H P=some (.tbl #[]):=λP hP=>by rw[eH];show (if P=a then _ else _)=_;rw[if_neg (λz=>ant (by rw[<- z];exact hP)),if_pos hP]
  have Hb:K.lookup bm=none->H bm=some (.frz ob (.ext λ_=>True)):=λq=>by rw[eH];show (if bm=a then _ else _)=_;rw[if_neg bma,if_neg bmt,if_pos ⟨rfl,q⟩]
  have Hn
   : ∀b,H b≠none->(b=a/\Hs≠none)\/b∈ts\/(b=bm/\K.lookup bm=none):=λb n=>by
   by_cases q:b=a
   .exact .inl ⟨q,by rw[<- Ha,<- q];exact n⟩
   .by_cases q2:b∈ts
    .exact .inr (.inl q2)
    .by_cases q3:b=bm/\K.lookup bm=none
     .exact .inr (.inr q3)
     .refine absurd ?_ n;rw[eH];show (if b=a then _ else _)=_;rw[if_neg q,if_neg q2,if_neg q3]
  have hO:FI H:=λb=>by
   by_cases n:H b=none
   .exact .inl n
   .rcases Hn b n with ⟨e,n2⟩ |e |⟨e,y⟩
    .rw[e,Ha];rcases h1 with z |⟨o,xs,z⟩
     .exact absurd z n2
     .exact .inr (.inl ⟨_,_,z⟩)
    .exact .inr (.inr (Ht b e))
    .rw[e];exact .inr (.inl ⟨_,_,Hb y⟩)
  have hok:HOk Pr w H s1.heap:=λb u e=>by
   rcases Hn b (by rw[e];simp) with ⟨z,n2⟩ |z |⟨z,y⟩
   .subst z;rw[Ha] at e;have q:=h2 u e;rcases h1 with y |⟨o,xs,y⟩
    .exact absurd y n2
    .rw[e] at y;cases y;exact q
   .have y:=Ht b z;rw[e] at y;cases y;exact TO.at_ b z
   .subst z;rw[Hb y] at e;cases e;exact⟨b3,trivial,⟨ob,b3⟩,λ_ _ _ _=>trivial⟩
  have keep:∀{b:Addr}{o:Obj},s1.heap.get? b=some o->H b=none->(ft s1.heap H).get? b=some o:=λe n=>tV e n;have noD:∀{b:Addr}{o:Obj}{es:Array DictEntry}{ep:Nat},s1.heap.get? b=some o->o.data=.dict es ep->H b=none:=λ{b o es ep} e dd=>by
   by_cases n:H b=none
   .exact n
   .rcases Hn b n with ⟨z,_⟩ |z |⟨z,_⟩
    .subst z;rw[ha] at e;cases e;cases dd
    .rw[TO.at_ b z] at e;cases e;cases dd
    .subst z;rw[b3] at e;cases e;rw[b6] at dd;cases dd
  have nsK:∀{b:Addr}{m:Ua},s1.heap.Ns b m->(ft s1.heap H).Ns b m:=λ{b m} ⟨o,es,ep,e,dd,r⟩=>⟨o,es,ep,keep e (noD e dd),dd,r⟩;have kb:K.In (ft s1.heap H):=λb o e=>keep (KX b o e) (by
   by_cases n:H b=none
   .exact n
   .rcases Hn b n with ⟨z,y⟩ |z |⟨z,y⟩
    .subst z
     have:=h3 y
     rw[e] at this;cases this
    .have:=TO.no b z
     rw[e] at this;cases this
    .subst z;rw[e] at y;cases y)
  have hM:Mod K mg (ft s1.heap H):=⟨kb,nsK hns,⟨mb,nsK hb,hbb⟩,let ⟨mc,q1,q2⟩:=hlim;⟨mc,nsK q1,q2⟩⟩;have e0:Env0 Pr w K mg (ft s1.heap H) callerA [] s1 H:=⟨rfl,hM,λb o e=>vT e,Nat.le_of_eq (pM _ _),trivial,λb z=>absurd (show b∈([]:List Addr) from z) (by simp),hok,.of_eq hg⟩;refine Tq ((F _ kb (nsK hns)).run callerA [] s1 H ⟨[.ref a],[]⟩ [.ref a] [.ref a] (λv _=>v=.bl true) (λ_ _ _=>False) hr e0 (hbind s1 (.ref a)) (.cons rfl .nil) ⟨a,ns,rfl,hO,h4 H Ha,hl,Ht,?bm,λ_=>rfl⟩) λr s' h=>?_
  case bm=>
   refine⟨bm,ob,b1,b2,bmG,⟨b4,b5,b6⟩,?_⟩;cases q:K.lookup bm with
   |none=>exact .inr ⟨_,Hb q⟩
   |
    some o=>
    have:=KX bm o q
    rw[b3] at this;cases this;exact .inl rfl
  cases r with
  |error e=>obtain⟨_,_,_,_,_,_,_,z⟩:=h;exact z.2.2.elim
  |
   ok fl=>
   cases fl with
   |next=>exact False.elim h
   |brk=>exact False.elim h
   |cont=>exact False.elim h
   |
    ret u=>
    obtain⟨v,H',os,bare,un,hok',r',q⟩:=h;have q':v=.bl true:=q;subst q';obtain rfl:u=Value.bool true:=r';refine⟨rfl,⟨λb o e=>?_,λb o e=>?_⟩,os,bare⟩
    .by_cases n:H b=none
     .exact .inl (un.keep b o e n (λz=>absurd (show b∈([]:List Addr) from z) (by simp)) (by simp))
     .have fz:∀ob xs,H b=some (.frz ob xs)->asItWas s1.heap s'.heap b o:=λob xs y=>by have y2:=un.frzs b ob _ y;obtain⟨e1,_⟩:=hok b _ y;obtain⟨e2,_⟩:=hok' b _ y2;rw[e] at e1;cases e1;exact .inl e2
      rcases Hn b n with ⟨z,n2⟩ |z |⟨z,y⟩
      .rcases h1 with y |⟨ob,xs,y⟩
       .exact absurd y n2
       .exact fz _ _ (by rw[z,Ha];exact y)
      .obtain⟨more,y⟩:=un.tbls b #[] (Ht b z);obtain⟨c,hc⟩:=TO.cd b z;have tab:=(W.codeHd_of_K KX hc).tab (TO.at_ b z);have e2:=TO.at_ b z;rw[e] at e2;cases e2;exact .inr (.inl ⟨tab.isCodeTable,rfl,#[],more,rfl,hok' b _ y⟩)
      .exact fz _ _ (by rw[z];exact Hb y)
    .exact un.there b o e (by simp)
 cases hk:K.lookup a with
 |some o=>have e:=KX a o hk;rw[ha] at e;cases e;exact go none (.inl rfl) (λu z=>nomatch z) (λz=>absurd rfl z) λH _=>.inr ⟨_,vs.toArray,_,hk,rfl,rfl,rfl,by rw[z_,hi.length];exact hz,by simpa using rv⟩
 |none=>exact go (some (.frz { cls:=.type "list",data:=.seq vs.toArray } (.lst (ns.map V.int)))) (.inr ⟨_,_,rfl⟩) (λu z=>by cases z;exact⟨ha,by rw[m_];exact hz,vs,_,rv,ha⟩) (λ_=>hk) λH e=>.inl (.inr ⟨_,e⟩)
def BC{Pr:Program}{w:World}{K:W.Frag}{mg:Ua}{base:Heap}{x y:Str}{k:Nat}{S:Fn}{ts:List Addr}(C:Callee Pr w K mg base x k [y] (spD K mg 1 S))(hT:∀P q,LamT K mg P q->P∈ts)
 (hS:∀(d:D) (h:AH) (ns:List Int),ns.length<=63->Script h d ns->∃h',S [d] h=.ok (.bl true) h'):Callee Pr w K mg base x k [y] (spT K mg ts):=by
 refine C.imp λvs H Q E ⟨a,ns,e,hO,hq,hl,ht,hB,q⟩=>?_;subst e;have tb:∀ρ:List Addr,(∀P∈ts,P∉ρ)->∀P q,LamT K mg P q->TbP ρ H P q/\BMok K mg H:=λρ n P q l=>⟨⟨n P (hT P q l),#[],ht P (hT P q l),trivial,λpos cv z=>by cases z⟩,hB⟩;rcases hq with (hq |⟨o,hq⟩) |hq
 .rcases hO a with z |⟨o,xs,z⟩ |z <;> rw[hq] at z <;> cases z
 .obtain⟨h',e⟩:=hS (.ref 0) [.fz (ns.map D.int)] ns hl ⟨.inl ⟨0,rfl,rfl⟩⟩;refine⟨[a],[.fz (ns.map D.int)],[.ref 0],⟨rfl,by simp,tb _ λP hP z=>?_,λn b ob e1 e2=>?_⟩,.cons (.ref rfl) .nil,rfl,?_⟩
  .rw[Q6] at z;subst z
   have:=ht P hP
   rw[hq] at this;cases this
  .cases n with
   |zero=>cases e1;cases e2;exact⟨o,_,hq,jI ns⟩
   |succ n=>simp at e1
  .rw[e];exact λρ' H' l' w' v rv=>by cases rv;exact q H'
 .obtain⟨h',e⟩:=hS (.kl (ns.map D.int)) [] ns hl ⟨.inr rfl⟩;refine⟨[],[],[.kl (ns.map D.int)],⟨rfl,by simp,tb _ λP hP z=>absurd z (by simp),λn b ob e1 e2=>by simp at e1⟩,.cons (.kl hq (jI ns)) .nil,rfl,?_⟩;rw[e];exact λρ' H' l' w' v rv=>by cases rv;exact q H'
def walk_lawT{l:W.OpenLaw}{q:Program}{loose:List Str}{XP:(Str->Option Value)->Heap->Prop}{YP:World->Heap->Prop}{d:DefRec}{K:Params->W.Frag}{x:Str}{k:Nat}{ts:List Addr}(hn:l.most=some 63)(hdf:d.params.defaults=[])(hr:Room k callerA)
 (hY:∀(w:World) (h:Heap),YP w h->(K w.params).In h/\TabsOk (K w.params) ts h)
 (F:∀(w:World) (mg:Ua) (h:Heap),(K w.params).In h->h.Ns mainGlobals mg->∀base:Heap,(K w.params).In base->base.Ns mainGlobals mg->Callee l.prog w (K w.params) mg base d.name k [x] (spT (K w.params) mg ts))
 (Dd:∀(w:World) (mg:Ua) (h:Heap),(K w.params).In h->h.Ns mainGlobals mg->∃st,Def (K w.params) mg d.name st/\∀(kV doc pm:Value) (an:Option Addr) (cdv ct:Value) (us:List Value),us.length=1->bindArgs (W.fnOf d.name d.name (bS st) (aP st) (ak st) .none kV doc pm an cdv ct) ⟨us,[]⟩=pure ([x].zip us)):
 W.WalkO q loose XP YP l.row.toRowW d [] (λf vs=>PySem.call f vs):=by
 refine Att.attach_call hn hdf λw s0 s1 mg mb fa o pm cd doc a vs ns G Y ho hd kw hmg hobj hints bi hg=>?_;obtain⟨KX,TO⟩:=hY w _ Y;obtain⟨st,De,hbind⟩:=Dd w mg _ KX G.T.g;obtain⟨f,fd,Ff,m⟩:=De.ex;have e:=hmg.symm.trans m;cases e;obtain⟨oc,od,kV,doc',pm',an,cdv,ct,osl,rfl,lk,hcd'⟩:=Ff.ex;refine Qc KX G.T.g G.T.b G.T.builtins G.T.nolimit hg TO G.T.bmain hobj hints bi hr (λbase kb nb=>?_) (λs u=>.of_eq (hbind kV doc' pm' an cdv ct [u] rfl));obtain⟨f',fd',F',m',kp',b',oc',od',osl',lk'⟩:=(F w mg _ KX G.T.g base kb nb).ex;rw[m] at m';cases m';rw[lk] at lk';cases lk';exact F'
noncomputable def bD(x y:Int×Int):Bool:=decide (x.1<y.1\/(x.1=y.1/\x.2<y.2))
def rH(x:Int×Int):bD x x=false:=by unfold bD;rw[Se];omega
def wG{x y z:Int×Int}(h1:bD x y=true)(h2:bD y z=true):bD x z=true:=by unfold bD at *;rw[RD] at *;omega
def rj{x y:Int×Int}(h:x≠y):bD x y=true\/bD y x=true:=by unfold bD;rw[RD,RD];have:¬ (x.1=y.1/\x.2=y.2):=λz=>h (Prod.ext z.1 z.2);omega
def vJ{α:Type}(d:α)(ks:List α):((List.range ks.length).map λi=>ks.getD i d)=ks:=List.ext_getElem (by simp) λi _ h=>by simp [h]
def BD{x y:Int×Int}(h1:bD x y=true):bD y x=false:=by
 cases z:bD y x with
 |false=>rfl
 |true=>have:=wG h1 z;rw[rH] at this;cases this
def Io{α:Type}{k:α->Int×Int}{a b:List α}(h:a.Pairwise λx y=>bD (k x) (k y)=true)(h':b.Pairwise λx y=>bD (k x) (k y)=true)(p:a.Perm b):a=b:=p.eq_of_pairwise (λx y _ _ h1 h2=>by rw[BD h1] at h2;cases h2) h h'
def OZ{α:Type}(k:α->Int×Int)(hk:∀{x y},k x=k y->x=y){l:List α}(nd:l.Nodup):(l.mergeSort λx y=>!bD (k y) (k x)).Pairwise λx y=>bD (k x) (k y)=true:=by
 have srt:=List.pairwise_mergeSort (le:=λx y:α=>!bD (k y) (k x)) (λa b c h1 h2=>by
  simp only[bD,So,Se] at *;omega) (λa b=>by
  simp only[bD,Sh,So,Se];omega) l
 refine List.Pairwise.imp (λ{a b} h=>?_) (List.Pairwise.and ((List.mergeSort_perm ..).nodup_iff.mpr nd) srt)
 have:=h.2
 simp only[So] at this;exact (rj λy=>h.1 (hk y)).resolve_right (by rw[this];exact Bool.noConfusion)
noncomputable def ltP(ks:List (Int×Int))(i j:Nat):Bool:=bD (ks.getD i (0,0)) (ks.getD j (0,0))
def JU{ks:List (Int×Int)}(nd:ks.Nodup):LtO (ltP ks) ks.length where
 irr:=λi=>rH _
 tr:=λi j k h1 h2=>wG h1 h2
 tot:=λi j hi hj hne=>by
  refine rj ?_;rw[K_,K_,w_ hi,w_ hj];show ks[i]≠ks[j];rcases Nat.lt_or_gt_of_ne hne with z |z
  .exact RJ.mp nd i j hi hj z
  .exact λy=>RJ.mp nd j i hj hi z y.symm
def GN{ks:List (Int×Int)}{n:Nat}{p:Array Nat}(h1:p.toList.Perm (List.range n))(h2:UpTo (ltP ks) p n):p.toList.Pairwise λi j=>bD (ks.getD i (0,0)) (ks.getD j (0,0))=true:=by
 have sz:=(PmO.of h1).sz;rw[RJ];intro i j hi hj hij;rw[Q0] at hi hj
 have:=h2 i j hij (by omega)
 rw[eN,eN,SI hi,SI hj] at this;exact this
def TupAt(h:Heap)(v:Value)(x:Int×Int):Prop:=∃(a:Addr) (e:Nat) (dd:Option Addr) (sl:Array (Option Value)) (t1 t2:Tok),v=.ref a/\h.get? a=some { cls:=.type "tuple",dict:=dd,data:=.seq #[.int x.1 t1,.int x.2 t2] e,slots:=sl }
def TupAt.keep{h h':Heap}{v:Value}{x:Int×Int}{b:Addr}(t:TupAt h v x)(hb:∃o,h.get? b=some o/\o.cls=.type "list")(k:∀c o,c≠b->h.get? c=some o->h'.get? c=some o):TupAt h' v x:=by obtain⟨a,e,dd,sl,t1,t2,rfl,ha⟩:=t;obtain⟨o,ho,hc⟩:=hb;exact⟨a,e,dd,sl,t1,t2,rfl,k a _ (λz=>by rw[z,ho] at ha;cases ha;injection hc with hc;exact absurd hc (by decide)) ha⟩
def TupAt.mono{h h':Heap}{v:Value}{x:Int×Int}(t:TupAt h v x)(k:∀c o,h.get? c=some o->h'.get? c=some o):TupAt h' v x:=by obtain⟨a,e,dd,sl,t1,t2,rfl,ha⟩:=t;exact⟨a,e,dd,sl,t1,t2,rfl,k a _ ha⟩
section
variable{prog:Program}{w:World}{A:Around}{E:Uc}{s:Shared}
def HB{v u:Value}{x y:Int×Int}{Q:Bool->Shared->Prop}(hv:TupAt s.heap v x)(hu:TupAt s.heap u y)(h:Q (bD x y) s):wpAny (model prog w) A (keyLt' (tuples' true) v u) Q E s:=by
 obtain⟨a,e,dd,sl,t1,t2,rfl,ha⟩:=hv;obtain⟨b,e',dd',sl',t3,t4,rfl,hb⟩:=hu;refine kat_lt ha rfl hb rfl ?_;show KatLex prog w A true false Q [(.int x.1 t1,.int y.1 t3),(.int x.2 t2,.int y.2 t4)] 0 s;refine kat_cons (wpAny_eqBool_int ?_);by_cases h1:x.1=y.1
 .rw[show (x.1==y.1)=true from QP.mpr h1];refine kat_yes (kat_cons (wpAny_eqBool_int ?_));by_cases h2:x.2=y.2
  .rw[show (x.2==y.2)=true from QP.mpr h2];refine kat_yes (kat_nil ?_);rw[show bD x y=false from by unfold bD;rw[Se];omega] at h;exact h
  .rw[show (x.2==y.2)=false from E_.mpr h2];refine kat_no (kat_one _ _ (lt_int ?_));rw[show bD x y=decide (x.2<y.2) from Tc.mpr (by omega)] at h;exact h
 .rw[show (x.1==y.1)=false from E_.mpr h1];refine kat_no (oneLt_int ?_);rw[show bD x y=decide (x.1<y.1) from Tc.mpr (by omega)] at h;exact h
def TupsAt(h:Heap):List Value->List (Int×Int)->Prop
 | [],[]=>True
 |v::vs,x::xs=>TupAt h v x/\TupsAt h vs xs
 |_,_=>False
theorem TupsAt.len{h:Heap}:∀{vs:List Value}{xs:List (Int×Int)},TupsAt h vs xs->vs.length=xs.length
 | [],[],_=>rfl
 | [],_::_,t=>t.elim
 |_::_,[],t=>t.elim
 |_::_,_::_,t=>by rw[C_,C_,t.2.len]
theorem TupsAt.get{h:Heap}:∀{vs:List Value}{xs:List (Int×Int)} (i:Nat),TupsAt h vs xs->i<xs.length->TupAt h (vs.getD i Value.none) (xs.getD i (0,0))
 | [],[],i,_,hi=>absurd hi (by simp)
 | [],_::_,i,t,_=>t.elim
 |_::_,[],i,t,_=>t.elim
 |_::_,_::_,0,t,_=>t.1
 |_::vs,_::xs,i+1,t,hi=>TupsAt.get (vs:=vs) (xs:=xs) i t.2 (by simpa using hi)
theorem TupsAt.imp{h h':Heap}(k:∀v x,TupAt h v x->TupAt h' v x):∀{vs:List Value}{xs:List (Int×Int)},TupsAt h vs xs->TupsAt h' vs xs
 | [],[],_=>trivial
 | [],_::_,t=>t.elim
 |_::_,[],t=>t.elim
 |_::_,_::_,t=>⟨k _ _ t.1,t.2.imp k⟩
theorem TupsAt.snoc{h:Heap}{v:Value}{x:Int×Int}(tv:TupAt h v x):∀{vs:List Value}{xs:List (Int×Int)},TupsAt h vs xs->TupsAt h (vs++[v]) (xs++[x])
 | [],[],_=>⟨tv,trivial⟩
 | [],_::_,t=>t.elim
 |_::_,[],t=>t.elim
 |_::_,_::_,t=>⟨t.1,t.2.snoc tv⟩
theorem TupsAt.kat{h:Heap}:∀{vs:List Value}{xs:List (Int×Int)},TupsAt h vs xs->∃fs,KatTups h vs fs/\fs.length=xs.length/\∀f∈fs,∃i t,f=Value.int i t
 | [],[],_=>⟨[],trivial,rfl,λf z=>nomatch z⟩
 | [],_::_,t=>t.elim
 |_::_,[],t=>t.elim
 |
  _::_,x::_,t=>by
  obtain⟨fs,k,l,q⟩:=t.2.kat;obtain⟨a,e,dd,sl,t1,t2,rfl,ha⟩:=t.1;refine⟨.int x.1 t1::fs,⟨⟨a,_,_,_,rfl,ha,rfl,rfl,rfl⟩,k⟩,by rw[C_,C_,l],λf hf=>?_⟩;rcases I_.mp hf with rfl |hf
  .exact⟨_,_,rfl⟩
  .exact q f hf
def xF{vs:List Value}{xs:List (Int×Int)}{Q:SortKind->Shared->Prop}(t:TupsAt s.heap vs xs)(h2:2<=xs.length)(h:Q (tuples' true) s):wpAny (model prog w) A (keyKind' vs.toArray) Q E s:=by obtain⟨fs,k,l,q⟩:=t.kat;refine kat_kind (T:=.type "int") k (by omega) (λf hf=>?_) (by decide) h;obtain⟨i,t,rfl⟩:=q f hf;exact .now
def Ao{vs:List Value}{xs:List (Int×Int)}(t:TupsAt s.heap vs xs):Ans (kas_ask prog w A (tuples' true) vs) (ltP xs) xs.length s:=λi j C hi hj c=>HB (t.get i hi) (t.get j hj) c
def Dw{β:Type}{vs ks:List Value}{xs:List (Int×Int)}{k:Unit×SortSt->Sem β}{P:β->Shared->Prop}(hkl:ks.length=vs.length)(h64:vs.length<64)(T:TupsAt s.heap ks xs)(nd:xs.Nodup)(h:∀(p:Array Nat) st',p.toList.Perm (List.range vs.length)->UpTo (ltP xs) p vs.length->(arrOf st').map (λp:Keyed=>p.2)=List.toArray (p.toList.map λi=>vs.getD i Value.none)->failedOf st'=none->wpAny (model prog w) A (k ((),st')) P E s):
 wpAny (model prog w) A (let f:=λκ=>(if vs.toArray.size<2 then pure () else sortRuns').run (SortSt.mk' κ (ks.toArray.zip vs.toArray) #[] 7 none) >>= k;if vs.toArray.size<2 then pure general' >>= f else keyKind' ks.toArray >>= f) P E s:=by
 dsimp only;have kl:=T.len;by_cases h2:vs.toArray.size<2
 .rw[if_pos h2,if_pos h2];rw[z_] at h2;refine l_ <| x_ ?_;rw[StateT.run_pure];refine l_ <| x_ (h (List.toArray (List.range vs.length)) _ (.refl _) (λi j hij hj=>by omega) ?_ rfl);show (ks.toArray.zip vs.toArray).map (λp:Keyed=>p.2)=List.toArray ((List.range vs.length).map _);rw[vJ];apply Array.toList_inj.mp;rw[Array.toList_map,ksk_zip];exact List.map_snd_zip (by simp [hkl])
 .rw[if_neg h2,if_neg h2];rw[z_] at h2;refine l_ <| xF T (by omega) ?_;have an:=Ao (prog:=prog) (w:=w) (A:=A) T;have O:=JU nd;rw[<- kl,hkl] at an O;have run:=kat_run (prog:=prog) (w:=w) (A:=A) (E:=E) (κ:=tuples' true) (s:=s) (Q:=λst' s'=>s'=s/\wpAny (model prog w) A (k ((),st')) P E s) (G:=λp s'=>s'=s/\p.toList.Perm (List.range vs.length)/\UpTo (ltP xs) p vs.length) hkl (by omega) h64
   (λp st' s' a1 a2 a3 a4=>⟨a4.1,h p st' a4.2.1 a4.2.2 (kat_snds hkl a2) a3⟩) (GL O an (by omega) λp p1 p2=>⟨rfl,p1,p2⟩)
  refine l_ <| QR run ?_ λ_ _ z=>z;rintro⟨⟨⟩,st'⟩ _ ⟨rfl,z⟩;exact z
end
set_option maxHeartbeats 4000000
section
variable{prog:Program}{w:World}{A:Around}{E:Uc}{s:Shared}
def DH{a kS:Addr}{st:SortSt}{out ks:List Value}{e e1:Nat}{P:PySem.Fin->Shared->Prop}(hk:s.heap.get? kS=some (seqObj "list" (List.toArray ks) e))(ha:s.heap.get? a=some (seqObj "list" #[] e1))(hne:kS≠a)(hout:(arrOf st).map (λp:Keyed=>p.2)=List.toArray out)(hf:failedOf st=none)(hz:out.length<64)(hkz:ks.length<64)
 (h:∀h' c,(∀b o,b≠kS->b≠a->s.heap.get? b=some o->h'.get? b=some o)->h'.get? a=some (seqObj "list" out.toArray c)->P (.done (.ret .none)) { s with heap:=h' }):wpAny (model prog w) A (ksk_tail a false e1 (.ref kS) st) P E s:=by
 have u1:=RR s.heap kS (Obj.mapSeq λ_=>(#[]:Array Value));have a1:=(u1.2 a hne.symm).trans ha;have u2:=RR (s.heap.update kS (Obj.mapSeq λ_=>(#[]:Array Value))) a (Obj.mapSeq λ_=>(arrOf st).map (·.2));obtain⟨c,hc⟩:∃c,((s.heap.update kS (Obj.mapSeq λ_=>(#[]:Array Value))).update a (Obj.mapSeq λ_=>(arrOf st).map (·.2))).get? a=some (seqObj "list" ((arrOf st).map (·.2)) c):=⟨_,get?_update_seq a1 λ_=>(arrOf st).map (·.2)⟩;have zs:((arrOf st).map (·.2)).size<64:=by rw[hout];exact hz
 have big:sizeLine=16777216:=rfl;unfold ksk_tail;try dsimp only
 refine l_ <| Tw hk rfl ?_ (by rw[z_];omega) (QH _);refine l_ <| wpAny_letGo ?_;refine l_ <| seqEpoch_at a1 rfl ?_;refine l_ <| Tw a1 rfl ?_ (QH _) (by show ((arrOf st).map (·.2)).size<=_;omega);rw[hf];simp only[bne_self_eq_false,Sg,Td];exact x_ (h _ c (λb o n1 n2 z=>(u2.2 b n2).trans ((u1.2 b n1).trans z)) (hc.trans (by rw[hout])))
def GJ{a kS:Addr}{vs ks:List Value}{xs:List (Int×Int)}{e e1:Nat}{P:PySem.Fin->Shared->Prop}(hl:xs.length=vs.length)(h64:vs.length<64)(T:TupsAt s.heap ks xs)(nd:xs.Nodup)(hk:s.heap.get? kS=some (seqObj "list" (List.toArray ks) e))(ha:s.heap.get? a=some (seqObj "list" #[] e1))(hne:kS≠a)
 (h:∀(p:Array Nat) h' c,p.toList.Perm (List.range vs.length)->UpTo (ltP xs) p vs.length->(∀b o,b≠kS->b≠a->s.heap.get? b=some o->h'.get? b=some o)->h'.get? a=some (seqObj "list" (p.toList.map λi=>vs.getD i Value.none).toArray c)->P (.done (.ret .none)) { s with heap:=h' }):
 wpAny (model prog w) A (ksk_end a false vs.toArray e1 (.ref kS) ks.toArray) P E s:=by
 have hkl:ks.length=vs.length:=by rw[T.len,hl]
 unfold ksk_end;try dsimp only
 refine Dw hkl h64 T nd λp st' p1 p2 out hf=>?_;exact DH hk ha hne out hf (by rw[m_,p1.length_eq,v_];exact h64) (by omega) λh' c k z=>h p h' c p1 p2 k z
def BM{a:Addr}{f:Value}{vs:List Value}{n:Nat}{xs:List (Int×Int)}{P:PySem.Fin->Shared->Prop}(ho:s.heap.get? a=some (seqObj "list" vs.toArray n))(h64:vs.length<64)(hx:xs.length=vs.length)(nd:xs.Nodup)
 (hc:∀(i:Nat) (v:Value) (x:Int×Int) (h':Heap) (tk:Nat),vs[i]?=some v->xs[i]?=some x->(∀b o,b≠a->s.heap.get? b=some o->h'.get? b=some o)->wpAny (model prog w) A (call f [v]) (λk s2=>∃h2 tk2,s2={ s with heap:=h2,toks:=tk2 }/\(∀b o,h'.get? b=some o->h2.get? b=some o)/\TupAt h2 k x) (λ_ _=>False) { s with heap:=h',toks:=tk })
 (h:∀(p:Array Nat) h' c tk,p.toList.Perm (List.range vs.length)->UpTo (ltP xs) p vs.length->(∀b o,b≠a->s.heap.get? b=some o->h'.get? b=some o)->h'.get? a=some (seqObj "list" (p.toList.map λi=>vs.getD i Value.none).toArray c)->P (.done (.ret .none)) { s with heap:=h',toks:=tk }):
 wpAny (model prog w) A (ksk_tree a f false) P E s:=by
 have lt:=y_ ho;have u1:=RR s.heap a (Obj.mapSeq λ_=>(#[]:Array Value));obtain⟨e1,a1⟩:∃e1,(s.heap.update a (Obj.mapSeq λ_=>(#[]:Array Value))).get? a=some (seqObj "list" #[] e1):=⟨_,get?_update_seq ho λ_=>#[]⟩;have big:sizeLine=16777216:=rfl;unfold ksk_tree;refine l_ <| listItems_at ho rfl ?_;refine l_ <| Tw ho rfl ?_ (by rw[z_];omega) (QH _);refine l_ <| seqEpoch_at a1 rfl ?_;refine l_ <| wpAny_newTuple ?_ (by show vs.length<=_;omega);refine l_ <| wpAny_newList ?_ (QH _);refine Ry ?_;obtain⟨h3,e3⟩:∃h3,h3=((s.heap.update a (Obj.mapSeq λ_=>(#[]:Array Value))).push (seqObj "tuple" vs.toArray 0)).push (seqObj "list" #[] 0):=⟨_,rfl⟩;obtain⟨kS,ek⟩:∃kS,kS=((s.heap.update a (Obj.mapSeq λ_=>(#[]:Array Value))).push (seqObj "tuple" vs.toArray 0)).objs.size:=⟨_,rfl⟩;have hk0:h3.get? kS=some (seqObj "list" #[] 0):=by rw[e3,ek];exact Em _ rfl
 have ha0:h3.get? a=some (seqObj "list" #[] e1):=by rw[e3];exact o_ _ (o_ _ a1)
 have hlt:a<kS:=by rw[ek,size_push',Heap.size_update];exact Nat.lt_succ_of_lt lt
 have k0:∀b o,b≠a->s.heap.get? b=some o->b≠kS/\h3.get? b=some o:=λb o n z=>⟨λy=>by
  have:=y_ z
  rw[y,ek,size_push',Heap.size_update] at this;exact Rg _ (Nat.lt_of_succ_lt this),by rw[e3];exact o_ _ (o_ _ ((u1.2 b n).trans z))⟩
 show wpAny (model prog w) A (ksk_rest a f false vs.toArray e1 (.ref ((s.heap.update a (Obj.mapSeq λ_=>(#[]:Array Value))).push (seqObj "tuple" vs.toArray 0)).objs.size)) P E { s with heap:=((s.heap.update a (Obj.mapSeq λ_=>(#[]:Array Value))).push (seqObj "tuple" vs.toArray 0)).push (seqObj "list" #[] 0) };rw[<- e3,<- ek];clear e3 ek;unfold ksk_rest;refine l_ <| wpAny_rule ?_;rw[List.forIn_toArray];refine l_ <| ksk_fold (λi s'=>∃h' tk ks e,s'={ s with heap:=h',toks:=tk }/\(∀b o,b≠kS->h3.get? b=some o->h'.get? b=some o)/\h'.get? kS=some (seqObj "list" (List.toArray ks) e)/\TupsAt h' ks (xs.take i)/\i<=vs.length) vs 0 _ ⟨h3,s.toks,[],0,rfl,λb o _ z=>z,hk0,by rw[List.take_zero];trivial,QH _⟩ (λj v s' hv I=>?_) λs' I=>?_
 .rw[Tn] at I ⊢;obtain⟨h',tk,ks,e,rfl,k,hk,T,hi⟩:=I;have hj:j<vs.length:=(s_.mp hv).1;have ex:xs[j]?=some (xs[j]'(by omega)):=w_ (by omega);have tl:=T.len;rw[QJ] at tl;refine l_ <| S0 <| QR (hc j v _ h' tk hv ex λb o n z=>k b o (k0 b o n z).1 (k0 b o n z).2) (λkv s2 hq=>?_) λ_ _ z=>z.elim;obtain⟨h2,tk2,rfl,k2,tp⟩:=hq;have hk2:=k2 kS _ hk;have u2:=RR h2 kS (Obj.mapSeq (·.push kv));obtain⟨c2,hc2⟩:∃c2,(h2.update kS (Obj.mapSeq (·.push kv))).get? kS=some (seqObj "list" (List.toArray (ks++[kv])) c2):=⟨_,by rw[<- List.push_toArray];exact get?_update_seq hk2 (·.push kv)⟩;try dsimp only
  refine l_ <| Tw hk2 rfl ?_ (by rw[z_];omega) (by rw[Array.size_push,z_];omega);refine x_ ⟨rfl,_,tk2,ks++[kv],c2,rfl,λb o n z=>(u2.2 b n).trans (k2 b o (k b o n z)),hc2,?_,by omega⟩;have kp:∀v x,TupAt h2 v x->TupAt (h2.update kS (Obj.mapSeq (·.push kv))) v x:=λv x t=>t.keep (b:=kS) ⟨_,hk2,rfl⟩ λc o n z=>(u2.2 c n).trans z;rw[List.take_succ,ex];exact TupsAt.snoc (kp _ _ tp) ((T.imp λv x t=>t.mono k2).imp kp)
 .rw[Tn] at I;obtain⟨h',tk,ks,e,rfl,k,hk,T,hi⟩:=I;rw[Ri (by omega)] at T;try dsimp only
  refine l_ <| listItems_at hk rfl ?_;exact GJ hx h64 T nd hk (k a _ (P_ hlt) ha0) (Sy hlt) λp h2 c p1 p2 k2 z=>h p h2 c tk p1 p2 (λb o n y=>k2 b o (k0 b o n y).1 n (k b o (k0 b o n y).1 (k0 b o n y).2)) z
def GB{S r:Addr}{j:Int}{t u v:Tok}{n:Nat}{R:Result->Shared->Prop}(hh:A.handled=none)(hr:IsRange s.heap r 0 j 1 t u v)(j_:Builtin.Range.small 0 j 1=true)(hn:Builtin.Range.rangeSize 0 j 1=n)(bi:n<=2^24)(hS:s.heap.get? S=some (seqObj "list" #[] 0))
 (h:∀h' tk acc c,(∀b o,b≠S->s.heap.get? b=some o->h'.get? b=some o)->h'.get? S=some (seqObj "list" acc c)->ItemsOf (λi v=>∃t,v=.int (0+i*1) t) acc n->R (.ok (.ret (.ref S))) { s with heap:=h',toks:=tk }):codeAny (model prog w) A (.builtin "list.__iadd__" ⟨[.ref S,.ref r],[]⟩) R s:=by
 refine Tp entry_list_iadd' ?_;show wpAny (model prog w) A.in1 (Builtin.List.listExtendWith (.ref S) (.ref r) (.ref S)) _ _ s;exact wpAny_extend_range hh hr j_ hn bi S _ 0 hS h
def mH{r:Addr}{j:Int}{t u v:Tok}{n:Nat}{Q:List Value->Shared->Prop}(hh:A.handled=none)(hr:IsRange s.heap r 0 j 1 t u v)(j_:Builtin.Range.small 0 j 1=true)(hn:Builtin.Range.rangeSize 0 j 1=n)(bi:n<=2^24)
 (h:∀h' tk (vs:List Value),s.heap.objs.size<=h'.objs.size->(∀b o,s.heap.get? b=some o->h'.get? b=some o)->vs.length=n->(∀(i:Nat) x,vs[i]?=some x->∃t,x=.int (i:Nat) t)->Q vs { s with heap:=h',toks:=tk }):wpAny (model prog w) A (collect (.ref r)) Q E s:=by
 unfold collect;refine l_ <| wpAny_runValue <| Tp entry_proto_collect' ?_;show wpAny _ _ (do again (.builtin "list.__iadd__" ⟨[<- newList [],.ref r],[]⟩)) _ _ s;have hS:(s.heap.push (seqObj "list" #[] 0)).get? s.heap.objs.size=some (seqObj "list" #[] 0):=Em _ rfl;refine l_ <| wpAny_newList <| x_ ⟨Code.quiet_builtin _ (by decide),GB (s:={ s with heap:=s.heap.push (seqObj "list" #[] 0) }) hh (o_ _ hr) j_ hn bi hS λh' tk acc c k z it=>?_⟩;show wpAny (model prog w) A (do
  let o <- load s.heap.objs.size
  match o.data with
  |.seq xs _=>pure xs.toList
  |_=>unsupported "internal:collect") Q E { s with heap:=h',toks:=tk }
 refine l_ <| wpAny_load z ?_;refine x_ (h h' tk acc.toList (Sx (y_ z)) (λb o y=>k b o (P_ (y_ y)) (o_ _ y)) (by rw[Q0];exact it.1) λi x y=>?_);obtain⟨t,e⟩:=it.2 i x (by simpa using y);exact⟨t,by rw[e];congr 1;omega⟩
end
abbrev eI(p:Pos):Arguments:=⟨[],[⟨"number",none,p⟩],none,[],[],none,[]⟩
abbrev aY:Scope:={ kind:=.function,names:=[("number",.local),("weights",.free)],isGenerator:=false,isCoroutine:=false,more:=[] }
abbrev dH(p1 p2 p3 p4 p5 p6:Pos):Expr:=.Tuple [.UnaryOp .USub (.Subscript (.Name "weights" p1) (.Name "number" p2) p3) p4,.Name "number" p5] 0 p6
section
variable{prog:Program}{w:World}{A:Around}{s:Shared}
def FQ{f c' cell a:Addr}{q:Str}{pm ctv:Value}{its:Array Value}{ws:List Int}{p0 p1 p2 p3 p4 p5 p6:Pos}{i:Nat}{t:Tok}
 (hroom:A.depth<recursionLimit) (ho:s.heap.get? f=some (kla_obj "<lambda>" q (eI p0) (dH p1 p2 p3 p4 p5 p6) aY [("weights",cell)] pm c' ctv)) (kw:s.heap.CodeRec (.ref c') q) (hlim:s.heap.NoLimit) (k_:s.heap.IsCell cell (some (.ref a))) (hl:s.heap.IsList a its) (hw:Vals (ws.map V.int) its.toList) (hi:i<ws.length) (hz:ws.length<64):
 wpAny (model prog w) A (call (.ref f) [.int (i:Nat) t]) (λk s2=>∃h2 tk2,s2={ s with heap:=h2,toks:=tk2 }/\(∀b o,s.heap.get? b=some o->h2.get? b=some o)/\TupAt h2 k (-(ws.getD i 0),(i:Nat))) (λ_ _=>False) s:=by
 refine wpAny_call ?_;refine kla_callFunE hroom ho rfl rfl rfl rfl kw ?_;rw[show bindArgs (kla_fn "<lambda>" q (eI p0) (dH p1 p2 p3 p4 p5 p6) aY [("weights",cell)] pm (.ref c') ctv) ⟨[Value.int (i:Nat) t],[]⟩=(pure [(("number" : Str),Value.int (i:Nat) t)]:Sem (List (Str×Value))) from by with_unfolding_all rfl];refine x_ (wpAny_newFunctionEnv (show ∀x∈aY.names,x.2 ≠ .cell by decide) (by intro y hy;rw[Q6] at hy;subst hy;rfl) (λh1 hns hsb=>⟨hlim.fresh _ hsb,?_⟩) rfl);show codeAny _ _ (.expr (dH p1 p2 p3 p4 p5 p6) (envX q aY s.heap.objs.size f (.ref c') [("weights",cell)])) _ _;have k1:∀b o,s.heap.get? b=some o->h1.get? b=some o:=λb o e=>hsb.extBut b o (P_ (y_ e)) (o_ _ e);have hc1:h1.IsCell cell (some (.ref a)):=by obtain⟨o,e,d⟩:=k_;exact⟨o,k1 _ _ e,d⟩
 have hl1:h1.IsList a its:=by obtain⟨o,e,d⟩:=hl;exact⟨o,k1 _ _ e,d⟩
 refine kla_codeExpr ?_;refine wpAny_Tuple_spliced ?_;obtain⟨u,eu,ru⟩:=hw.get (i:=i) (x:=V.int (ws.getD i 0)) (by rw[O_,w_ hi,K_,w_ hi];rfl);obtain⟨tx,rfl⟩:=ru;have ei:its[((i:Nat):Int).toNat]?=some (.int (ws.getD i 0) tx):=by rw[Q3,<- Array.getElem?_toList];exact eu
 have nm:∀(pp:Pos) (s':Shared) (Q:Uc) (E':Uc),s'.heap=h1->Q (.int (i:Nat) t) s'->wpAny (model prog w) (A.deeper (envX q aY s.heap.objs.size f (.ref c') [("weights",cell)])) (eval (.Name "number" pp) (envX q aY s.heap.objs.size f (.ref c') [("weights",cell)])) Q E' s':=λpp s' Q E' e hq=>
  wpAny_Name (Ts rfl rfl (by rw[e];exact hns) rfl hq) (by decide)
 show wpAny _ _ (spliced ((false,eval (.UnaryOp .USub (.Subscript (.Name "weights" p1) (.Name "number" p2) p3) p4) (envX q aY s.heap.objs.size f (.ref c') [("weights",cell)]))::backTo p6 (starEach [.Name "number" p5] (envX q aY s.heap.objs.size f (.ref c') [("weights",cell)])))) _ _ _;refine R0 ?_;refine UnaryOp_ ?_;refine Subscript_ ?_;refine wpAny_Name (wpAny_loadName_free rfl rfl rfl hc1 ?_) (by decide);refine nm p2 _ _ _ rfl ?_;refine item_listR hl1 (by omega) (by omega) ei ?_;refine neg_int ?_;show wpAny _ _ (spliced ((false,eval (.Name "number" p5) (envX q aY s.heap.objs.size f (.ref c') [("weights",cell)]))::[])) _ _ _;refine R0 ?_;refine nm p5 _ _ _ rfl ?_;refine Sq ?_;refine⟨show 2<=sizeLine by decide,_,_,rfl,λb o e=>o_ _ (k1 b o e),h1.objs.size,0,none,#[],_,t,rfl,Em _ rfl⟩
end
section
variable{prog:Program}{w:World}{A:Around}{E:Uc}{s:Shared}
def xJ{r f:Addr}{j:Int}{t u v:Tok}{n:Nat}{xs:List (Int×Int)}{Q:Uc}(hh:A.handled=none)(hr:IsRange s.heap r 0 j 1 t u v)(j_:Builtin.Range.small 0 j 1=true)(hn:Builtin.Range.rangeSize 0 j 1=n)(h64:n<64)(hx:xs.length=n)(nd:xs.Nodup)
 (hc:∀(i:Nat) (x:Int×Int) (tt:Tok) (h':Heap) (tk:Nat),xs[i]?=some x->(∀b o,s.heap.get? b=some o->h'.get? b=some o)->wpAny (model prog w) A.in1.in1 (call (.ref f) [.int (i:Nat) tt]) (λk s2=>∃h2 tk2,s2={ s with heap:=h2,toks:=tk2 }/\(∀b o,h'.get? b=some o->h2.get? b=some o)/\TupAt h2 k x) (λ_ _=>False) { s with heap:=h',toks:=tk })
 (h:∀(p:Array Nat) (h':Heap) (D:Addr) (c tk:Nat) (out:List Value),p.toList.Perm (List.range n)->UpTo (ltP xs) p n->s.heap.objs.size<=D->(∀b o,s.heap.get? b=some o->h'.get? b=some o)->h'.get? D=some (seqObj "list" out.toArray c)->Vals (p.toList.map λi:Nat=>V.int (i:Nat)) out->Q (.ref D) { s with heap:=h',toks:=tk }):
 wpAny (model prog w) A (call (.builtin "sorted") [.ref r] [(Str.ofString "key",.ref f)]) Q E s:=by
 refine call_function_entry_kw kind_sorted plain_sorted entry_sorted (ksk_s1 _ _) ?_;unfold Builtin.«sorted»;refine l_ (m:=checkCount "sorted" 1 1 _) <| x_ ?_;refine l_ <| mH (A:=A.in1) hh hr j_ hn (by omega) λh1 tk1 vs sz k1 lv iv=>?_;have big:sizeLine=16777216:=rfl;refine l_ <| wpAny_newList ?_ (by omega);have hoL:(h1.push (seqObj "list" vs.toArray 0)).get? h1.objs.size=some (seqObj "list" vs.toArray 0):=Em _ rfl;have kL:∀b o,s.heap.get? b=some o->b≠h1.objs.size/\(h1.push (seqObj "list" vs.toArray 0)).get? b=some o:=λb o e=>⟨P_ (y_ (k1 b o e)),o_ _ (k1 b o e)⟩;refine l_ <| Ry <| wpAny_call_entry_kw slot_list_sort ⟨_,hoL,rfl⟩ entry_list_sort ?body (ksk_l1 _ _)
 case body=>
  show wpAny (model prog w) A.in1.in1 (Builtin.«list.sort» ⟨[.ref h1.objs.size],[(Str.ofString "key",.ref f)]⟩) _ _ { s with heap:=h1.push (seqObj "list" vs.toArray 0),toks:=tk1 };rw[ksk_t1];refine BM (s:={ s with heap:=h1.push (seqObj "list" vs.toArray 0),toks:=tk1 }) (xs:=xs) hoL (by omega) (by omega) nd (λi v x h' tk e1 e2 k=>?_) λp h' c tk p1 p2 k z=>?_
  .obtain⟨tt,rfl⟩:=iv i v e1;exact hc i x tt h' tk e2 λb o e=>k b o (kL b o e).1 (kL b o e).2
  .rw[lv] at p1 p2;refine⟨_,rfl,x_ ⟨_,rfl,h p h' h1.objs.size c tk _ p1 p2 sz (λb o e=>k b o (kL b o e).1 (kL b o e).2) z ?_⟩⟩;have all:∀i∈p.toList,i<n:=λi hi=>N_.mp (p1.mem_iff.mp hi);clear z p1 p2;generalize p.toList=l at all;induction l with
   |nil=>exact .nil
   |cons i l ih=>refine .cons ?_ (ih λk hk=>all k (n_ _ hk));have hi:=all i (r_ ..);obtain⟨tt,e⟩:=iv i (vs.getD i Value.none) (by rw[K_,w_ (by omega)];rfl);exact⟨tt,e⟩
end
section
variable{X:Cx}{pins:Ub}{σ:St}{H:Hp}{s:Shared}{h':Heap}
def Inv.tabled{P c':Addr}{q:Str}{ps more:Array Value}{t':Nat}(I:Inv X pins σ H s)(hP:H P=some (.tbl ps))(hx:Heap.ExtBut P s.heap h')(hc:s.heap.objs.size<=c')(hrec:h'.CodeRec (.ref c') q)(htab:h'.get? P=some (tabObj (ps++more))):
 Inv X pins σ (upd (upd H P (.tbl (ps++more))) c' (.ext (jB c' q))) { s with heap:=h',toks:=t' }:=by
 have hcn:H c'=none:=I.hok.fresh hc;have nPc:P≠c':=aL hP hcn;have at_:∀b,b≠P->b≠c'->upd (upd H P (.tbl (ps++more))) c' (.ext (jB c' q)) b=H b:=λb n1 n2=>by rw[ax n2,ax n1]
 have atP:upd (upd H P (.tbl (ps++more))) c' (.ext (jB c' q)) P=some (.tbl (ps++more)):=by rw[ax nPc,aW]
 have nP:∀b,H b=none->b≠P:=λb n z=>by rw[z,hP] at n;cases n
 have ol:∀b o,s.heap.get? b=some o->b≠c':=λb o e=>P_ (H_ (y_ e) hc);have tr:∀b u,H b=some u->b≠c':=λb u e=>aL e hcn;refine I.un ⟨λb o e n _ _=>hx b o (nP b n) e,λb o e n _ _=>⟨o.slots,hx b o (nP b n) e⟩,λb o e n _=>by rw[at_ b (nP b n) (ol b o e)];exact n,λb o e _=>?_,λb ys e=>?_,λb o u e=>?_,λb qs e=>?_⟩ λb u e=>?_
 .by_cases z:b=P
  .exact⟨_,by rw[z];exact htab⟩
  .exact⟨o,hx b o z e⟩
 .rw[at_ b (λz=>by rw[z,hP] at e;cases e) (tr b _ e)];exact e
 .rw[at_ b (λz=>by rw[z,hP] at e;cases e) (tr b _ e)];exact e
 .by_cases z:b=P
  .subst z;rw[hP] at e;cases e;exact⟨more,atP⟩
  .exact⟨#[],by rw[at_ b z (tr b _ e),e];simp⟩
 .by_cases z:b=c'
  .subst z;rw[aW] at e;cases e;obtain⟨c,o,vs,t,e1,e2,e3⟩:=hrec;cases e1;refine⟨⟨_,o,vs,t,rfl,e2,e3⟩,⟨o,e2⟩,λh1 h2 q1 k=>?_⟩;obtain⟨c,o,vs,t,e1,e2,e3⟩:=q1;cases e1;exact⟨_,o,vs,t,rfl,k o e2,e3⟩
  .by_cases y:b=P
   .subst y;rw[atP] at e;cases e;exact htab
   .rw[at_ b y z] at e;refine (I.hok b u e).stay (λc v hc' r=>hx c v ?_ r) (λc r=>?_) λc ys r=>?_
    .rcases hc' with rfl |r
     .exact y
     .intro z';rw[z',hP] at r;cases r
    .rw[at_ c (λz'=>by rw[z',hP] at r;cases r) (tr c _ r)];exact r
    .rw[at_ c (λz'=>by rw[z',hP] at r;cases r) (tr c _ r)];exact r
end
noncomputable def kyF(ws:List Int)(i:Nat):Int×Int:=(-(ws.getD i 0),(i:Int))
noncomputable def je(ws:List Int):List (Int×Int):=(List.range ws.length).map (kyF ws)
noncomputable def aJ(ws:List Int):List Nat:=(List.range ws.length).mergeSort λi j=>!bD (kyF ws j) (kyF ws i)
structure FallO(ws:List Int)(l:List Nat):Prop where
 perm:l.Perm (List.range ws.length)
 up:l.Pairwise λi j=>bD (kyF ws i) (kyF ws j)=true
def vE{ws:List Int}{i j:Nat}(h:kyF ws i=kyF ws j):i=j:=by
 have:=QW Prod.snd h
 have:((i:Nat):Int)=(j:Nat):=this;omega
def GX(ws:List Int):(je ws).Nodup:=by unfold je;refine List.pairwise_map.mpr (List.Pairwise.imp (λ{a b} h z=>h (vE z)) S8)
def cN(ws:List Int):FallO ws (aJ ws):=⟨List.mergeSort_perm ..,OZ (kyF ws) vE S8⟩
def FallO.eq{ws:List Int}{l:List Nat}(h:FallO ws l):l=aJ ws:=Io h.up (cN ws).up (h.perm.trans (cN ws).perm.symm)
def FZ{ws:List Int}{p:Array Nat}(h1:p.toList.Perm (List.range ws.length))(h2:UpTo (ltP (je ws)) p ws.length):p.toList=aJ ws:=by
 refine FallO.eq ⟨h1,List.Pairwise.imp_of_mem (λ{i j} hi hj h=>?_) (GN h1 h2)⟩;have g:∀k∈p.toList,(je ws).getD k (0,0)=kyF ws k:=λk hk=>by unfold je;rw[K_,O_,List.getElem?_range (N_.mp (h1.mem_iff.mp hk))];rfl
 rw[g i hi,g j hj] at h;exact h
section
variable{X:Cx}{iW:Nat}{ta:TA}{c P:Addr}{a:Expr}{q1 q2 q6 q7 q8 q9 p0 p1 p2 p3 p4 p5 p6:Pos}
def Grown(H H2:Hp)(P:Addr)(q:Str)(ps:Array Value)(pos:Pos):Prop:=H2=H\/∃c',H c'=none/\codeAmong pos ps.toList=none/\H2=upd (upd H P (.tbl (ps++#[rawInt pos.line,rawInt pos.col,.ref c']))) c' (.ext (jB c' q))
def N4(K:W.Frag)(mg:Ua)(P:Addr)(q:Str)(pos:Pos)(vW:Option (Option V)):List V->Hp->VK->Prop:=λvs H Q=>∃(b:Addr) (ws:List Int) (ps:Array Value),vs=[.int (ws.length:Nat)]/\vW=some (some (.ref b))/\SqL K H b (ws.map V.int)/\ws.length<64/\H P=some (.tbl ps)/\TriplesOk ps.toList/\(∀ps' cv,codeAmong ps' ps.toList=some cv->∃c,cv=.ref c/\H c=some (.ext (jB c q)))/\BMok K mg H/\
 ∀H2 l,Grown H H2 P q ps pos->H2 l=none->Q (.ref l) (upd H2 l (.lst ((aJ ws).map λi:Nat=>V.int (i:Nat))))
def Qk(K:W.Frag)(mg:Ua)(iW:Nat)(P:Addr)(q:Str)(pos:Pos)(ta:TA):TE:=λσ H Q=>ta σ H λvs H1=>N4 K mg P q pos σ[iW]? vs H1 Q
def HH(hc:X.calm=true)(hdp:X.A.depth<recursionLimit)(hl:Gl X "sorted")(hml:X.mg "sorted"=none)(hg:Gl X "range")(hm:X.mg "range"=none)(ha:PA X [a] ta)(hN:X.N[iW]?=some "weights")(hv:X.env.scope.names.lookup ("weights" : Str)=some .cell)(kw:X.env.code=.ref c)(hh:codeHdIn X.K c P=true)(hs:starEach [a] X.env=[(false,eval a X.env)]):
 PE X (.Call (.Name "sorted" q1) [.Call (.Name "range" q2) [a] [] q6] [⟨some "key",.Lambda (eI p0) (dH p1 p2 p3 p4 p5 p6) aY q7,q8⟩] q9) (Qk X.K X.mg iW P (X.env.qual ++ "<lambda>") q7 ta):=by
 intro pins s σ H Q I h;refine Q7 (cU I hl hml (show bootBuiltins "sorted"=some (.builtin "sorted") from rfl) ?_ (by decide) (by decide));refine callWith_kw ?_ rfl rfl rfl rfl;show wpAny _ _ (spliced ((false,eval (.Call (.Name "range" q2) [a] [] q6) X.env)::[])) _ _ s;refine R0 ?_;refine Q7 (cU I hg hm (show bootBuiltins "range"=some (.type "range") from rfl) ?_ (by decide) (by decide));refine QT (thn (ha q6 pins s σ H _ I h) λus s1 ⟨vs,H1,I1,r1,z1⟩=>?_) hs rfl;obtain⟨b,ws,ps,e,ew,hq,hn,hP,htr,hcs,hB,q⟩:=z1;subst e;cases r1 with
 |
  cons r rr=>
  cases rr;obtain⟨t,rfl⟩:=r;refine call_range_1 (Sq ?_);have I2:Inv X pins σ H1 { s1 with heap:=s1.heap.push { cls:=.type "range",data:=.fields #[.int 0 s1.toks,.int (ws.length:Nat) t,.int 1 (s1.toks+1)] },toks:=s1.toks+1+1 }:=I1.kept λb o e=>o_ _ e;have hr2:IsRange (s1.heap.push { cls:=.type "range",data:=.fields #[.int 0 s1.toks,.int (ws.length:Nat) t,.int 1 (s1.toks+1)] }) s1.heap.objs.size 0 (ws.length:Nat) 1 s1.toks t (s1.toks+1):=IsRange.new ..;generalize s1.heap.push { cls:=.type "range",data:=.fields #[.int 0 s1.toks,.int (ws.length:Nat) t,.int 1 (s1.toks+1)] }=h2 at I2 hr2 ⊢;generalize s1.heap.objs.size=r at hr2 ⊢;have hk:X.env.kindOf "weights"=some .cell:=hv;obtain⟨m,hns,hloc⟩:=I2.loc;obtain⟨u,ru,lk⟩:=hloc iW "weights" (.ref b) hN ew (.inr (.inl hv));obtain rfl:u=.ref b:=ru;obtain⟨cell,ec,k_⟩:∃cell,X.env.cells.lookup ("weights" : Str)=some cell/\h2.IsCell cell (some (.ref b)):=by
   rcases lk with ⟨z,_⟩ |⟨_,cl,z1,z2⟩
   .rw[hk] at z;cases z
   .exact⟨cl,z1,z2⟩
  have clo:closureFor aY X.env=(pure [(("weights" : Str),cell)]:Sem (List (Str×Addr))):=by simp [closureFor,cellOf,ec]
  obtain⟨its,rv,pl,hz⟩:=I2.list hq;have i_:∀(H2:Hp) (s3:Shared) (f c':Addr) (pm ctv:Value),Grown H1 H2 P (X.env.qual ++ "<lambda>") ps q7->Inv X pins σ H2 s3->(∀b o,b≠P->h2.get? b=some o->s3.heap.get? b=some o)->s3.heap.get? f=some (kla_obj "<lambda>" (X.env.qual ++ "<lambda>") (eI p0) (dH p1 p2 p3 p4 p5 p6) aY [("weights",cell)] pm c' ctv)->s3.heap.CodeRec (.ref c') (X.env.qual ++ "<lambda>")->
   wpAny (model X.prog X.w) X.A (call (.builtin "sorted") [.ref r] [(Str.ofString "key",.ref f)]) (EP X pins σ Q) X.xe s3:=by
   intro H2 s3 f c' pm ctv G3 I3 k3 hf hrec;have nP:∀{b:Addr}{o:Obj},h2.get? b=some o->o.cls ≠ .none->b≠P:=λ{b o} e n z=>by have:h2.get? P=some { cls:=.none,data:=.fields ps }:=I2.hok P _ hP;rw[z,this] at e;cases e;exact n rfl
   have hr3:IsRange s3.heap r 0 (ws.length:Nat) 1 s1.toks t (s1.toks+1):=k3 _ _ (nP hr2 (λz=>nomatch z)) hr2;refine xJ (n:=ws.length) (xs:=je ws) (I.ok.hd hc) hr3 (small_one (by omega) (by omega) (by omega) (by omega)) (by rw[Tz];split <;> omega) hn (by unfold je;rw[m_,v_]) (GX ws) (λi x tt h' tk ex k=>?_) λp h' D c tk out pp up sz k z vz=>?_
   .have hi:i<ws.length:=by
     have:=(s_.mp ex).1
     unfold je at this;rw[m_,v_] at this;exact this
    obtain rfl:x=(-(ws.getD i 0),((i:Nat):Int)):=by unfold je at ex;rw[O_,List.getElem?_range hi] at ex;cases ex;rfl
    have hcell':h'.IsCell cell (some (.ref b)):=by obtain⟨o,e1,e2⟩:=k_;refine⟨o,k _ _ (k3 _ _ (λz=>?_) e1),e2⟩;have:h2.get? P=some { cls:=.none,data:=.fields ps }:=I2.hok P _ hP;rw[z,this] at e1;cases e1;cases e2
    have hl':h'.IsList b its.toArray:=by obtain⟨o,e1,e2⟩:=pl.isList;exact⟨o,k _ _ (k3 _ _ (nP e1 (by rw[e2.1];intro z;cases z)) e1),e2⟩
    exact FQ (s:={ s3 with heap:=h',toks:=tk }) hdp (k _ _ hf) (by obtain⟨c2,o,vs,tq,e1,e2,e3⟩:=hrec;exact⟨c2,o,vs,tq,e1,k _ _ e2,e3⟩) (I3.nolimit.keeps k) hcell' hl' (by simpa using rv) hi hn
   .rw[FZ pp up] at vz;have big:sizeLine=16777216:=rfl;have ln:((aJ ws).map λi:Nat=>V.int (i:Nat)).length<=sizeLine:=by rw[m_,(cN ws).perm.length_eq,v_];omega
    exact⟨.ref D,_,I3.laid (t':=tk) k sz (show ObjOk X.prog X.w _ h' _ (.lst _) from ⟨ln,out,c,vz,z⟩),rfl,q H2 D G3 (I3.hok.fresh sz)⟩
  have tabP:h2.get? P=some { cls:=.none,data:=.fields ps }:=I2.hok P _ hP;have glb:h2.Ns mainGlobals X.mg:=I2.mod.glob.keeps I2.bk;have gP:mainGlobals≠P:=λz=>by obtain⟨o,es,ep,e,d,_⟩:=glb;rw[z,tabP] at e;cases e;cases d
  have bAt:h2.BuiltinsAt X.mg P:=by
   obtain⟨bm,o,y1,y2,y3,⟨y4,y5,y6⟩,y7⟩:=hB;have y8:h2.get? bm=some o:=by
    rcases y7 with z |⟨u,z⟩
    .exact I2.kIn bm o z
    .exact (I2.hok bm _ z).1
   exact⟨bm,o,y1,y2,y3,(λz=>by rw[z,tabP] at y8;cases y8;cases y6),y8,y4,y5,y6⟩
  have CH:=codeHd_of_K I2.kIn hh;have lam:wpAny (model X.prog X.w) X.A (eval (.Lambda (eI p0) (dH p1 p2 p3 p4 p5 p6) aY q7) X.env) (λv s3=>∃f,v=.ref f/\wpAny (model X.prog X.w) X.A (call (.builtin "sorted") [.ref r] [(Str.ofString "key",.ref f)]) (EP X pins σ Q) X.xe s3) X.xe { s1 with heap:=h2,toks:=s1.toks+1+1 }:=by
   refine kla_eval rfl ?_;cases am:codeAmong q7 ps.toList with
   |
    none=>
    refine kla_makeFunction (mg:=X.mg) clo I.ok.glob glb kw CH tabP htr am gP bAt λc' ctv h' tk hx hge hlt hrec htb=>?_;have hrec':(h'.push (kla_obj "<lambda>" (X.env.qual ++ "<lambda>") (eI p0) (dH p1 p2 p3 p4 p5 p6) aY [("weights",cell)] ((X.mg "__name__").getD .none) c' ctv)).CodeRec (.ref c') (X.env.qual ++ "<lambda>"):=by obtain⟨c2,o,vs,tq,e1,e2,e3⟩:=hrec;exact⟨c2,o,vs,tq,e1,o_ _ e2,e3⟩
    exact⟨_,rfl,i_ _ _ _ c' _ ctv (.inr ⟨c',I2.hok.fresh hge,am,rfl⟩) (I2.tabled (t':=tk) hP (λb o n e=>o_ _ (hx b o n e)) hge hrec' (o_ _ htb)) (λb o n e=>o_ _ (hx b o n e)) (Em _ rfl) hrec'⟩
   |some cv=>obtain⟨c',rfl,hc'⟩:=hcs q7 cv am;refine kla_makeFunctionHit (mg:=X.mg) clo I.ok.glob glb kw CH tabP htr am bAt λctv h' tk k hsz=>?_;obtain⟨c2,o,vs,tq,e1,e2,e3⟩:h2.CodeRec (.ref c') (X.env.qual ++ "<lambda>"):=(I2.hok c' _ hc').1;exact⟨_,rfl,i_ _ _ _ c' _ ctv (.inl rfl) (I2.kept (t':=tk) λb o e=>o_ _ (k b o e)) (λb o n e=>o_ _ (k b o e)) (Em _ rfl) ⟨c2,o,vs,tq,e1,o_ _ (k _ _ e2),e3⟩⟩
  show wpAny _ _ (do
   let v <- (do let v <- eval (.Lambda (eI p0) (dH p1 p2 p3 p4 p5 p6) aY q7) X.env;standAt q9;pure v)
   return v::(<- holding [v] (evalAll []))) _ _ _
  refine l_ <| l_ <| QR lam (λv s3 hv3=>?_) λ_ _ z=>z;obtain⟨f,rfl,hv3⟩:=hv3;exact l_ (SH (x_ (l_ (Ry (x_ (x_ hv3))))))
end
section
variable{K:W.Frag}{mg:Ua}{ρ:List Addr}{H H2:Hp}{h:AH}
def LamT.one{P P':Addr}{q q':Str}(a:LamT K mg P q)(b:LamT K mg P' q'):q=q':=by
 obtain⟨x,f,oc,od,fd,sl,c,a1,a2,a3,a4,a5,a6,rfl⟩:=a;obtain⟨y,f',oc',od',fd',sl',c',b1,b2,b3,b4,b5,b6,rfl⟩:=b;have e:x=y:=by
  by_cases z:x=y
  .exact z
  .have:=a2 y b1 λw=>z w.symm
   rw[b3] at this;cases this
 subst e;rw[a3] at b3;cases b3;rw[a4] at b4;cases b4;rfl
def yn{pos:Pos}{a b:Int}{c cv:Value}(l:List Value)(h:TriplesOk l)(e:codeAmong pos (l++[rawInt a,rawInt b,c])=some cv):codeAmong pos l=some cv\/cv=c:=by
 fun_induction TriplesOk l with
 |
  case1=>
  simp only[QZ,codeAmong,rawInt] at e;split at e
  .cases e;exact .inr rfl
  .cases e
 |
  case2 a' t b' u x gn ih=>
  simp only[S7,codeAmong] at e ⊢;split at e
  .rename_i z;rw[if_pos z];exact .inl e
  .rename_i z;rw[if_neg z];exact ih h e
 |case3 l h1 h2=>exact h.elim
def Grown.ok{P:Addr}{q:Str}{ps:Array Value}{pos:Pos}(g:Grown H H2 P q ps pos)(w:Wd K mg ρ h H)(hT:LamT K mg P q)(hP:H P=some (.tbl ps)):Wd K mg ρ h H2/\Le ρ H ρ H2:=by
 rcases g with rfl |⟨c',hc,am,rfl⟩
 .exact⟨w,Le.refl⟩
 .have nPc:P≠c':=aL hP hc;have at_:∀b,b≠P->b≠c'->upd (upd H P (.tbl (ps++#[rawInt pos.line,rawInt pos.col,.ref c']))) c' (.ext (jB c' q)) b=H b:=λb n1 n2=>by rw[ax n2,ax n1]
  have atP:upd (upd H P (.tbl (ps++#[rawInt pos.line,rawInt pos.col,.ref c']))) c' (.ext (jB c' q)) P=some (.tbl (ps++#[rawInt pos.line,rawInt pos.col,.ref c'])):=by rw[ax nPc,aW]
  have nP:∀b u,H b=some u->(∀qs,u ≠ .tbl qs)->b≠P:=λb u e n z=>by rw[z,hP] at e;cases e;exact n _ rfl
  have nc:∀b u,H b=some u->b≠c':=λb u e=>aL e hc;have l:Le ρ H ρ (upd (upd H P (.tbl (ps++#[rawInt pos.line,rawInt pos.col,.ref c']))) c' (.ext (jB c' q))):=⟨λ_ _ e=>e,λb xs e=>by rw[at_ b (nP b _ e λ_ z=>nomatch z) (nc b _ e)];exact e,λb o u e=>by rw[at_ b (nP b _ e λ_ z=>nomatch z) (nc b _ e)];exact e,λb φ e=>by rw[at_ b (nP b _ e λ_ z=>nomatch z) (nc b _ e)];exact e⟩;refine⟨⟨w.len,w.nd,λP' q' l'=>?_,λn b ob e1 e2=>?_⟩,l⟩
  .obtain⟨⟨t1,ps',t2,t3,t4⟩,bm⟩:=w.tb P' q' l';refine⟨⟨t1,?_⟩,bm.le l⟩;have eq:=hT.one l';by_cases z:P'=P
   .subst z;rw[hP] at t2;cases t2;refine⟨_,atP,?_,λio cv e=>?_⟩
    .rw[Array.toList_append];exact TriplesOk_snoc _ _ _ _ t3
    .rw[Array.toList_append] at e;rcases yn _ t3 e with z |rfl
     .obtain⟨c,e1,e2⟩:=t4 io cv z;exact⟨c,e1,l.ext _ _ e2⟩
     .exact⟨c',rfl,by rw[aW,eq]⟩
   .exact⟨ps',by rw[at_ P' z (nc P' _ t2)];exact t2,t3,λio cv e=>by obtain⟨c,e1,e2⟩:=t4 io cv e;exact⟨c,e1,l.ext _ _ e2⟩⟩
  .have o:=w.ob n b ob e1 e2;have nb:b≠P:=λz=>(w.tb P q hT).1.1 (by rw[<- z];exact RN e1);obtain⟨u,hu⟩:=o.there;exact o.mono l (at_ b nb (nc b _ hu))
end
section
variable{X:Cx}{K:W.Frag}{mg:Ua}{ES:St->XK}{a:Expr}{F:ME}{iW:Nat}{c P:Addr}{q1 q2 q6 q7 q8 q9 p0 p1 p2 p3 p4 p5 p6:Pos}
noncomputable def lsD(h:AH):D->Option (List D)
 |.ref n=>aM h n
 |.kl xs=>some xs
 |_=>none
def FW{ρ:List Addr}{H:Hp}{h:AH}{d:D}{v:V}{xs:List D}(w:Wd K mg ρ h H)(r:RelD K mg ρ H d v)(e:lsD h d=some xs):∃p vs,v=.ref p/\SqL K H p vs/\RelDs K mg ρ H xs vs:=by
 cases r with
 |ref ea=>obtain⟨vs,h1,h2⟩:=a9 w ea e;exact⟨_,vs,rfl,h1,h2⟩
 |kl q rs=>have e':some _=some xs:=e;cases e';exact⟨_,_,rfl,.inr q,rs⟩
 |_=>cases e
noncomputable def js:Fn:=λds h=>match ds with
 | [.int j,d]=>match lsD h d with
  |some xs=>match nh xs with
   |some ws=>if j=(ws.length:Nat)/\ws.length<64 then .ok (.ref h.length) (h++[.lst ((aJ ws).map λi:Nat=>D.int (i:Nat))]) else .stuck
   |none=>.stuck
  |none=>.stuck
 |_=>.stuck
theorem sj{ρ:List Addr}{H:Hp}:∀l:List Nat,RelDs K mg ρ H (l.map λi:Nat=>D.int (i:Nat)) (l.map λi:Nat=>V.int (i:Nat))
 | []=>.nil
 |i::l=>.cons (.int _) (sj l)
def HQ(hc:X.calm=true)(hdp:X.A.depth<recursionLimit)(hl:Gl X "sorted")(hml:X.mg "sorted"=none)(hg:Gl X "range")(hm:X.mg "range"=none)(ha:DE K mg X ES a F)(hN:X.N[iW]?=some "weights")(hv:X.env.scope.names.lookup ("weights" : Str)=some .cell)(kw:X.env.code=.ref c)(hh:W.codeHdIn K c P=true)(hT:LamT K mg P (X.env.qual ++ "<lambda>"))(hs:starEach [a] X.env=[(false,eval a X.env)])(hK:X.K=K)(hk:X.mg=mg):
 DE K mg X ES (.Call (.Name "sorted" q1) [.Call (.Name "range" q2) [a] [] q6] [⟨some "key",.Lambda (eI p0) (dH p1 p2 p3 p4 p5 p6) aY q7,q8⟩] q9) (eFn js (jD F (jD (bo iW) j9))):=by
 subst hK hk;refine PE.imp (HH hc hdp hl hml hg hm (wk ha A7 hs) hN hv kw hh hs) λσ H Q q_=>q_.el λρ h ae w re p=>⟨ρ,h,ae,w,re,?_⟩;unfold eFn jD at p;unfold jD j9;cases hF:F ae h with
 |stuck=>rw[hF] at p;exact p.elim
 |exc c h1=>rw[hF] at p;exact p
 |
  ok x h1=>
  rw[hF] at p;intro ρ1 H1 l1 w1 vs rs;have p1:=PostG.mono l1 p;obtain⟨d,ed,p2⟩:=EG (f:=λx1 h2=>((j9 ae h2).bind λxs h3=>.ok (x1::xs) h3).bind λxs h4=>js (x::xs) h4) (p:=by refine Eq.mp ?_ p1;congr 1;show (((bo iW ae h1).bind _).bind _).bind _=_;cases bo iW ae h1 <;> rfl);obtain⟨v,ev,rv⟩:=(re.mono l1).at_ iW d ed;have p3:cQ X.K X.mg ρ1 H1 Q (ES σ) (js [x,d] h1):=p2;unfold js at p3;cases rs with
  |
   cons rx rr=>
   cases rr;cases x with
   |
    int j=>
    dsimp only at p3;split at p3
    .rename_i xs e1;split at p3
     .rename_i ws e2;split at p3
      .rename_i hj;obtain⟨b,us,rfl,hq,rs'⟩:=FW w1 rv e1;obtain rfl:=pK rs' e2;obtain⟨⟨t1,ps,t2,t3,t4⟩,bm⟩:=w1.tb P _ hT;cases rx;refine⟨b,ws,ps,by rw[hj.1],ev,hq,hj.2,t2,t3,t4,bm,λH2 l g hl2=>?_⟩;obtain⟨w2,l2⟩:=g.ok w1 hT t2;exact eY w2 (sj _) hl2 (PostG.mono l2 p3)
      .exact p3.elim
     .exact p3.elim
    .exact p3.elim
   |_=>exact p3.elim
end
section
variable{prog:Program}{w:World}{A:Around}{E:Uc}{s:Shared}
def D2{r:Addr}{j:Int}{t u v:Tok}{n:Nat}{Q:Uc}(hh:A.handled=none)(hr:IsRange s.heap r 0 j 1 t u v)(j_:Builtin.Range.small 0 j 1=true)(hn:Builtin.Range.rangeSize 0 j 1=n)(bi:n<=2^24)
 (h:∀(h':Heap) (tk:Nat) (vs:List Value),s.heap.objs.size<=h'.objs.size->(∀b o,s.heap.get? b=some o->h'.get? b=some o)->vs.length=n->(∀(i:Nat) x,vs[i]?=some x->∃t,x=.int (i:Nat) t)->Q (.ref h'.objs.size) { s with heap:=h'.push { cls:=.type "tuple",data:=.seq vs.toArray },toks:=tk }):
 codeAny (model prog w) A (.call (.builtin "tuple.__new__") ⟨[.type "tuple",.ref r],[]⟩) (wants Q E) s:=by
 refine codeAny_of_tree ?_;show wpAny _ A.in1 (do checkBuiltinCall "tuple.__new__" ⟨[.type "tuple",.ref r],[]⟩;again (.builtin "tuple.__new__" ⟨[.type "tuple",.ref r],[]⟩)) _ _ s;refine l_ <| wpAny_of_eq (F.newCall_tuple_1 _) <| x_ ⟨plainId_quiet F.plain_tuple_new _,Tp F.entry_tuple_new ?_⟩;rw[Around.under_plainId F.plain_tuple_new _];have g_:=sub_tuple_self;have hinit:=init_tuple_lookup;have hmh:=madeHere_tuple;have hTI:s.TypeIs (.ref r) "range":=⟨_,hr,rfl⟩
 wp_walk using wpAny_typeOf hTI,mH (A:=A.in1) hh hr j_ hn bi
 intro h' tk vs sz k lv iv;show wpAny _ _ (Builtin.Tuple.tupleExact vs.toArray >>= λv=>ret v) _ _ _;unfold Builtin.Tuple.tupleExact;have big:sizeLine=16777216:=rfl;refine l_ <| Rj ?_ (by show vs.length<=_;omega);exact x_ (h h' tk vs sz k lv iv)
def DJ{r:Addr}{j:Int}{t u v:Tok}{n:Nat}{Q:Uc}(hh:A.handled=none)(hr:IsRange s.heap r 0 j 1 t u v)(j_:Builtin.Range.small 0 j 1=true)(hn:Builtin.Range.rangeSize 0 j 1=n)(bi:n<=2^24)
 (h:∀(h':Heap) (tk:Nat) (vs:List Value),s.heap.objs.size<=h'.objs.size->(∀b o,s.heap.get? b=some o->h'.get? b=some o)->vs.length=n->(∀(i:Nat) x,vs[i]?=some x->∃t,x=.int (i:Nat) t)->Q (.ref h'.objs.size) { s with heap:=h'.push { cls:=.type "tuple",data:=.seq vs.toArray },toks:=tk }):
 wpAny (model prog w) A (call (.type "tuple") [.ref r]) Q E s:=by
 refine callType_codes (Q₁:=λobj s₁=>s₁.TypeIs obj "tuple" /\ Q obj s₁) F.called_tuple (F.typeCall_tuple_1 _) F.entry_object_init (D2 hh hr j_ hn bi λh' tk vs sz k lv iv=>⟨⟨_,Em _ rfl,rfl⟩,h h' tk vs sz k lv iv⟩) λobj s₁ h₁=>?_;exact⟨h₁.1,F.args_object_init_2 obj _,object_init_meets F.called_tuple.init.lookup F.called_tuple.made (by decide) prog w A.in1 _ s₁ ⟨h₁.1,rfl,h₁.2⟩⟩
end
section
variable{X:Cx}{K:W.Frag}{mg:Ua}{ES:St->XK}{a:Expr}{A:MA}{ta:TA}{pos q2 p1 p2:Pos}
def rTrg:List V->Hp->VK->Prop:=λxs H Q=>∃j:Int,xs=[.int j]/\0<=j/\j<=1000000/\∀l,H l=none->Q (.ref l) (upd H l (.tup (iI j)))
theorem ug:∀{vs:List Value} (i0:Nat),(∀(i:Nat) x,vs[i]?=some x->∃t,x=.int ((i0+i:Nat):Int) t)->Vals ((List.range' i0 vs.length).map λi:Nat=>V.int (i:Nat)) vs
 | [],_,_=>.nil
 |
  v::vs,i0,h=>by
  rw[C_,List.range'_succ,t_];refine .cons ?_ (ug (i0+1) λi x e=>?_)
  .obtain⟨t,e⟩:=h 0 v rfl;exact⟨t,by rw[e];rfl⟩
  .obtain⟨t,e'⟩:=h (i+1) x (by simpa using e);exact⟨t,by rw[e'];congr 1;omega⟩
def KP(hc:X.calm=true)(hl:Gl X "tuple")(hml:X.mg "tuple"=none)(hg:Gl X "range")(hm:X.mg "range"=none)(ha:PA X [a] ta)(hs:starEach [a] X.env=[(false,eval a X.env)])
 (hs1:starEach [.Call (.Name "range" p2) [a] [] q2] X.env=[(false,eval (.Call (.Name "range" p2) [a] [] q2) X.env)]):
 PE X (.Call (.Name "tuple" p1) [.Call (.Name "range" p2) [a] [] q2] [] pos) (tCB rTrg ta):=by
 intro pins s σ H Q I h;refine Q7 (cU I hl hml (show bootBuiltins "tuple"=some (.type "tuple") from rfl) ?_ (by decide) (by decide));refine QT ?_ hs1 rfl;rw[hs1];show wpAny _ _ (spliced ((false,eval (.Call (.Name "range" p2) [a] [] q2) X.env)::[])) _ _ s;refine R0 ?_;refine Q7 (cU I hg hm (show bootBuiltins "range"=some (.type "range") from rfl) ?_ (by decide) (by decide));refine QT (thn (ha q2 pins s σ H _ I h) λus s1 ⟨vs,H1,I1,r1,z1⟩=>?_) hs rfl;obtain⟨j,e,h1,h2,q⟩:=z1;subst e;cases r1 with
 |
  cons r rr=>
  cases rr;obtain⟨t,rfl⟩:=r;refine call_range_1 (Sq ?_);have I2:Inv X pins σ H1 { s1 with heap:=s1.heap.push { cls:=.type "range",data:=.fields #[.int 0 s1.toks,.int j t,.int 1 (s1.toks+1)] },toks:=s1.toks+1+1 }:=I1.kept λb o e=>o_ _ e;refine DJ (I.ok.hd hc) (IsRange.new ..) (small_one (by omega) (by omega) (by omega) (by omega)) (n:=j.toNat) (by rw[Tz];split <;> omega) (by omega) λh' tk vs sz k lv iv=>?_;have rv:Vals (iI j) vs:=by
   have:=ug (vs:=vs) 0 λi x e=>by obtain⟨t,e'⟩:=iv i x e;exact⟨t,by rw[e'];congr 1;omega⟩
   rw[lv,<- List.range_eq_range'] at this;exact this
  have hz:(iI j).length<=sizeLine:=by unfold iI;rw[m_,v_];have:sizeLine=16777216:=rfl;omega
  exact⟨.ref _,_,I2.laid (t':=tk) (a:=h'.objs.size) (λb o e=>o_ _ (k b o e)) sz (show ObjOk X.prog X.w _ _ _ (.tup (iI j)) from ⟨hz,vs,rv,⟨_,Em _ rfl,rfl,_,rfl⟩⟩),rfl,q _ (I2.hok.fresh sz)⟩
def tw:Fn:=λds h=>match ds with
 | [.int j]=>if 0<=j/\j<=1000000 then .ok (.tup (oh j)) h else .stuck
 |_=>.stuck
def LH(hc:X.calm=true)(hl:Gl X "tuple")(hml:mg "tuple"=none)(hg:Gl X "range")(hm:mg "range"=none)(ha:DA K mg X ES [a] A)(hk:X.mg=mg)(hs:starEach [a] X.env=[(false,eval a X.env)])
 (hs1:starEach [.Call (.Name "range" p2) [a] [] q2] X.env=[(false,eval (.Call (.Name "range" p2) [a] [] q2) X.env)]):
 DE K mg X ES (.Call (.Name "tuple" p1) [.Call (.Name "range" p2) [a] [] q2] [] pos) (eFn tw A):=by
 subst hk;refine PE.imp (KP hc hl hml hg hm ha hs hs1) λσ H Q q_=>q_.el λρ h ae w re p=>⟨ρ,h,ae,w,re,p.bind.imp λds h1 ρ1 H1 l1 w1 p1 vs rs=>?_⟩;unfold tw at p1;split at p1
 .split at p1
  .rename_i j hb;cases rs with
   |cons r1 rs=>cases rs;cases r1;exact⟨j,rfl,hb.1,hb.2,λl hl=>gZ w1 (sd _ _ _) hl p1⟩
  .exact p1.elim
 .exact p1.elim
end
end L2
namespace L3
open PySem PySem.Spec PyProof.Rows L2
set_option genInjectivity true in
inductive Val where
 |non |bl (b:Bool) |int (i:Int) |str (x:Str) |ty (n:String) |glb (x:Str) |exc (x:Str)
 |tup (xs:List Val) |lst (xs:List Val) |kl (xs:List Val) |dct (kvs:List (Key×Val)) |set (xs:List Int)
 deriving Inhabited
mutual
inductive Rd(P:Nat->Prop)(h:AH):D->Val->Prop where
 |non:Rd P h .non .non
 |bl (b:Bool):Rd P h (.bl b) (.bl b)
 |int (i:Int):Rd P h (.int i) (.int i)
 |str (x:Str):Rd P h (.str x) (.str x)
 |ty (n:String):Rd P h (.ty n) (.ty n)
 |glb (x:Str):Rd P h (.glb x) (.glb x)
 |exc (x:Str):Rd P h (.exc x) (.exc x)
 |tup {ds:List D}{vs:List Val} (r:Rds P h ds vs):Rd P h (.tup ds) (.tup vs)
 |kl {ds:List D}{vs:List Val} (r:Rds P h ds vs):Rd P h (.kl ds) (.kl vs)
 |cell {n:Nat}{o:Ob}{v:Val} (p:P n) (e:h[n]?=some o) (r:Rc P h o v):Rd P h (.ref n) v
inductive Rc(P:Nat->Prop)(h:AH):Ob->Val->Prop where
 |lst {ds:List D}{vs:List Val} (r:Rds P h ds vs):Rc P h (.lst ds) (.lst vs)
 |fz {ds:List D}{vs:List Val} (r:Rds P h ds vs):Rc P h (.fz ds) (.kl vs)
 |dct {ws:List (Key×D)}{us:List (Key×Val)} (r:Rk P h ws us):Rc P h (.dct ws) (.dct us)
 |set (xs:List Int):Rc P h (.set xs) (.set xs)
inductive Rds(P:Nat->Prop)(h:AH):List D->List Val->Prop where
 |nil:Rds P h [] []
 |cons {d:D}{v:Val}{ds:List D}{vs:List Val} (r:Rd P h d v) (rr:Rds P h ds vs):Rds P h (d::ds) (v::vs)
inductive Rk(P:Nat->Prop)(h:AH):List (Key×D)->List (Key×Val)->Prop where
 |nil:Rk P h [] []
 |cons {k:Key}{d:D}{v:Val}{ds:List (Key×D)}{vs:List (Key×Val)} (r:Rd P h d v) (rr:Rk P h ds vs):Rk P h ((k,d)::ds) ((k,v)::vs)
end
section
variable{P P':Nat->Prop}{h h':AH}
abbrev Mov(P P':Nat->Prop)(h h':AH):Prop:=∀n o,P n->h[n]?=some o->P' n/\h'[n]?=some o
def Rd.mono(m:Mov P P' h h')(r:Rd P h d v):Rd P' h' d v:=@Rd.rec P h (λd v _=>Rd P' h' d v) (λo v _=>Rc P' h' o v) (λds vs _=>Rds P' h' ds vs) (λws us _=>Rk P' h' ws us) .non (λb=>.bl b) (λi=>.int i) (λx=>.str x) (λn=>.ty n) (λx=>.glb x) (λx=>.exc x) (λ_ ih=>.tup ih) (λ_ ih=>.kl ih) (λp e _ ih=>.cell (m _ _ p e).1 (m _ _ p e).2 ih) (λ_ ih=>.lst ih) (λ_ ih=>.fz ih) (λ_ ih=>.dct ih) (λxs=>.set xs) .nil (λ_ _ a b=>.cons a b) .nil (λ_ _ a b=>.cons a b) d v r
def Rds.ind{M:List D->List Val->Prop}(h0:M [] [])(h1:∀{d v ds vs},Rd P h d v->Rds P h ds vs->M ds vs->M (d::ds) (v::vs)){ds:List D}{vs:List Val}(r:Rds P h ds vs):M ds vs:=by
 induction ds generalizing vs with
 |nil=>cases r;exact h0
 |
  cons d ds ih=>
  cases r with
  |cons r rr=>exact h1 r rr (ih rr)
def Rk.ind{M:List (Key×D)->List (Key×Val)->Prop}(h0:M [] [])(h1:∀{k d v ds vs},Rd P h d v->Rk P h ds vs->M ds vs->M ((k,d)::ds) ((k,v)::vs)){ds:List (Key×D)}{vs:List (Key×Val)}(r:Rk P h ds vs):M ds vs:=by
 induction ds generalizing vs with
 |nil=>cases r;exact h0
 |
  cons d ds ih=>
  cases r with
  |cons r rr=>exact h1 r rr (ih rr)
def Rds.mono(m:Mov P P' h h'){d:List D}{v:List Val}(r:Rds P h d v):Rds P' h' d v:=r.ind .nil λr _ ih=>.cons (r.mono m) ih
def Rk.mono(m:Mov P P' h h'){d:List (Key×D)}{v:List (Key×Val)}(r:Rk P h d v):Rk P' h' d v:=r.ind .nil λr _ ih=>.cons (r.mono m) ih
def Rc.mono(m:Mov P P' h h')(r:Rc P h d v):Rc P' h' d v:=by
 cases r with
 |lst r=>exact .lst (r.mono m)
 |fz r=>exact .fz (r.mono m)
 |dct r=>exact .dct (r.mono m)
 |set xs=>exact .set xs
def Rds.len{ds:List D}{vs:List Val}(r:Rds P h ds vs):ds.length=vs.length:=r.ind (M:=λds vs=>ds.length=vs.length) rfl λ_ _ ih=>QW (· + 1) ih
def Rds.get{ds:List D}{vs:List Val}{i:Nat}{v:Val}(r:Rds P h ds vs)(e:vs[i]?=some v):∃d,ds[i]?=some d/\Rd P h d v:=
 r.ind (M:=λds vs=>∀i,vs[i]?=some v->∃d,ds[i]?=some d/\Rd P h d v) (λ_ e=>by rw[List.getElem?_nil] at e;cases e) (λr _ ih i e=>match i,e with
  |0,e=>by cases e;exact⟨_,rfl,r⟩
  |i+1,e=>ih i e) i e
def Rds.append{ds es:List D}{vs ws:List Val}(r:Rds P h ds vs)(q:Rds P h es ws):Rds P h (ds++es) (vs++ws):=r.ind (M:=λds vs=>Rds P h (ds++es) (vs++ws)) q λr _ ih=>.cons r ih
def Rds.take{ds:List D}{vs:List Val}(n:Nat)(r:Rds P h ds vs):Rds P h (ds.take n) (vs.take n):=
 r.ind (M:=λds vs=>∀n:Nat,Rds P h (ds.take n) (vs.take n)) (λn=>by rw[Sf,Sf];exact .nil) (λr _ ih n=>by cases n with |zero=>exact .nil |succ n=>exact .cons r (ih n)) n
def Rds.drop{ds:List D}{vs:List Val}(n:Nat)(r:Rds P h ds vs):Rds P h (ds.drop n) (vs.drop n):=
 r.ind (M:=λds vs=>∀n:Nat,Rds P h (ds.drop n) (vs.drop n)) (λn=>by rw[SG,SG];exact .nil) (λr rr ih n=>by cases n with |zero=>exact .cons r rr |succ n=>exact ih n) n
def Rds.set{d:D}{v:Val}(r:Rd P h d v){ds:List D}{vs:List Val}(i:Nat)(q:Rds P h ds vs):Rds P h (ds.set i d) (vs.set i v):=
 q.ind (M:=λds vs=>∀i:Nat,Rds P h (ds.set i d) (vs.set i v)) (λ_=>.nil) (λq qq ih i=>by cases i with |zero=>exact .cons r qq |succ i=>exact .cons q (ih i)) i
def ShR(P:Nat->Prop)(h:AH)(d:D)(v:Val):Prop:=Rd P h d v\/∃n o,d=.ref n/\h[n]?=some o/\Rc P h o v
inductive ShRs(P:Nat->Prop)(h:AH):List D->List Val->Prop where
 |nil:ShRs P h [] []
 |cons {d:D}{v:Val}{ds:List D}{vs:List Val} (r:ShR P h d v) (rr:ShRs P h ds vs):ShRs P h (d::ds) (v::vs)
noncomputable def Val.items:Val->Option (List Val)
 |.tup xs=>some xs
 |.lst xs=>some xs
 |.kl xs=>some xs
 |_=>none
def ShR.int(r:ShR P h d (.int i)):d=.int i:=by
 rcases r with r |⟨n,o,rfl,e,r⟩
 .cases r with
  |int=>rfl
  |cell p e r=>cases r
 .cases r
def ShR.str(r:ShR P h d (.str i)):d=.str i:=by
 rcases r with r |⟨n,o,rfl,e,r⟩
 .cases r with
  |str=>rfl
  |cell p e r=>cases r
 .cases r
def ShR.bl(r:ShR P h d (.bl i)):d=.bl i:=by
 rcases r with r |⟨n,o,rfl,e,r⟩
 .cases r with
  |bl=>rfl
  |cell p e r=>cases r
 .cases r
def ShR.non(r:ShR P h d .non):d=.non:=by
 rcases r with r |⟨n,o,rfl,e,r⟩
 .cases r with
  |non=>rfl
  |cell p e r=>cases r
 .cases r
def ShR.exc(r:ShR P h d (.exc x)):d=.exc x:=by
 rcases r with r |⟨n,o,rfl,e,r⟩
 .cases r with
  |exc=>rfl
  |cell p e r=>cases r
 .cases r
def ShR.ty(r:ShR P h d (.ty x)):d=.ty x:=by
 rcases r with r |⟨n,o,rfl,e,r⟩
 .cases r with
  |ty=>rfl
  |cell p e r=>cases r
 .cases r
def ShR.glb(r:ShR P h d (.glb x)):d=.glb x:=by
 rcases r with r |⟨n,o,rfl,e,r⟩
 .cases r with
  |glb=>rfl
  |cell p e r=>cases r
 .cases r
def ShR.tup(r:ShR P h d (.tup vs)):∃ds,d=.tup ds/\Rds P h ds vs:=by
 rcases r with r |⟨n,o,rfl,e,r⟩
 .cases r with
  |tup r=>exact⟨_,rfl,r⟩
  |cell p e r=>cases r
 .cases r
def Rc.seq(e:h[n]?=some o)(r:Rc P h o (.lst vs)):∃ds,h[n]?=some (.lst ds)/\aM h n=some ds/\Rds P h ds vs:=by
 cases r with
 |lst r=>exact⟨_,e,by unfold aM;rw[e],r⟩
def ShR.lst(r:ShR P h d (.lst vs)):∃n ds,d=.ref n/\h[n]?=some (.lst ds)/\aM h n=some ds/\Rds P h ds vs:=by
 rcases r with r |⟨n,o,rfl,e,r⟩
 .cases r with
  |cell p e r=>obtain⟨ds,q,r⟩:=Rc.seq e r;exact⟨_,ds,rfl,q,r⟩
 .obtain⟨ds,q,r⟩:=Rc.seq e r;exact⟨_,ds,rfl,q,r⟩
def ShR.kl(r:ShR P h d (.kl vs)):∃ds,Rds P h ds vs/\(d=.kl ds\/∃n,d=.ref n/\aM h n=some ds):=by
 rcases r with r |⟨n,o,rfl,e,r⟩
 .cases r with
  |kl r=>exact⟨_,r,.inl rfl⟩
  |cell p e r=>cases r with |fz r=>exact⟨_,r,.inr ⟨_,rfl,by unfold aM;rw[e]⟩⟩
 .cases r with |fz r=>exact⟨_,r,.inr ⟨_,rfl,by unfold aM;rw[e]⟩⟩
def ShR.set(r:ShR P h d (.set xs)):∃n,d=.ref n/\h[n]?=some (.set xs):=by
 rcases r with r |⟨n,o,rfl,e,r⟩
 .cases r with
  |cell p e r=>cases r;exact⟨_,rfl,e⟩
 .cases r;exact⟨_,rfl,e⟩
def ShR.dct(r:ShR P h d (.dct us)):∃n ws,d=.ref n/\h[n]?=some (.dct ws)/\Rk P h ws us:=by
 rcases r with r |⟨n,o,rfl,e,r⟩
 .cases r with
  |cell p e r=>cases r with |dct r=>exact⟨_,_,rfl,e,r⟩
 .cases r with |dct r=>exact⟨_,_,rfl,e,r⟩
def ShR.items(r:ShR P h d v)(e:v.items=some vs):∃ds,dE h d=some ds/\Rds P h ds vs:=by
 cases v with
 |tup xs=>cases e;obtain⟨ds,rfl,q⟩:=r.tup;exact⟨ds,rfl,q⟩
 |lst xs=>cases e;obtain⟨n,ds,rfl,_,e,q⟩:=r.lst;exact⟨ds,e,q⟩
 |
  kl xs=>
  cases e;obtain⟨ds,q,rfl |⟨n,rfl,e⟩⟩:=r.kl
  .exact⟨ds,rfl,q⟩
  .exact⟨ds,e,q⟩
 |_=>cases e
end
inductive Sl where
 |no |sh (v:Val) |ow (v:Val) |mu (v:Val) |lo (v:Val) |lm (v:Val)
 deriving Inhabited
abbrev E3:=List Sl
noncomputable def Sl.val:Sl->Option Val
 |.no=>none
 |.sh v=>some v
 |.ow v=>some v
 |.mu v=>some v
 |.lo v=>some v
 |.lm v=>some v
def Sl.mt:Sl->Bool
 |.ow _=>true
 |.mu _=>true
 |_=>false
def Sl.lk:Sl->Bool
 |.lo _=>true
 |.lm _=>true
 |_=>false
abbrev Ns:=List (Option Nat)
def Oc(X:Nat->Prop)(ns:Ns)(n:Nat):Prop:=¬ X n/\some n∉ns
def bP:Ob->Prop
 |.fz _=>False
 |.any=>False
 |_=>True
def SlR(P:Nat->Prop)(h0:Nat)(n:Option (Option Nat))(d:Option (Option D))(h:AH):Sl->Prop
 |.no=>n=some none
 |.sh v=>n=some none/\∃x,d=some (some x)/\Rd P h x v
 |.ow v=>∃m o,n=some (some m)/\d=some (some (.ref m))/\h0<=m/\h[m]?=some o/\bP o/\Rc P h o v
 |.lo v=>∃m o,n=some (some m)/\d=some (some (.ref m))/\h0<=m/\h[m]?=some o/\bP o/\Rc P h o v
 |.mu v=>∃m o,n=some (some m)/\d=some (some (.ref m))/\h[m]?=some o/\bP o/\Rc P h o v
 |.lm v=>∃m o,n=some (some m)/\d=some (some (.ref m))/\h[m]?=some o/\bP o/\Rc P h o v
structure Sat(X:Nat->Prop)(h0:Nat)(ns:Ns)(e:E3)(ae:AE)(h:AH):Prop where
 l1:ae.length=e.length
 l2:ns.length=e.length
 lh:h0<=h.length
 xl:∀(n:Nat),X n->n<h.length
 inj:∀(i j n:Nat),ns[i]?=some (some n)->ns[j]?=some (some n)->i=j
 nx:∀(i n:Nat),ns[i]?=some (some n)->¬ X n
 sl:∀(i:Nat) (s:Sl),e[i]?=some s->SlR (Oc X ns) h0 (ns[i]?) (ae[i]?) h s
def Mt(ns:Ns)(e:E3)(n:Nat):Prop:=∃(i:Nat) (s:Sl),ns[i]?=some (some n)/\e[i]?=some s/\s.mt=true
structure Stp(ns:Ns)(e:E3)(h:AH)(ns':Ns)(e':E3)(h':AH):Prop where
 len:h.length<=h'.length
 keep:∀(m:Nat) (o:Ob),h[m]?=some o->¬ Mt ns e m->h'[m]?=some o
 nw:∀(i n:Nat),ns'[i]?=some (some n)->ns[i]?=some (some n)\/h.length<=n
 lk:∀(i:Nat) (s:Sl),e[i]?=some s->s.lk=true->e'[i]?=some s/\ns'[i]?=ns[i]?
 lk':∀(i:Nat) (s:Sl),e'[i]?=some s->s.lk=true->e[i]?=some s/\ns'[i]?=ns[i]?
 mu:∀(i:Nat) (v:Val),e'[i]?=some (.mu v)->∃u,e[i]?=some (.mu u)/\ns'[i]?=ns[i]?
 mu':∀(i:Nat) (u:Val),e[i]?=some (.mu u)->∃v,e'[i]?=some (.mu v)/\ns'[i]?=ns[i]?
section
variable{X:Nat->Prop}{h0:Nat}{ns ns1 im:Ns}{e e1 e2:E3}{ae:AE}{h h' h1 h2:AH}
def aX:some n∈ns ↔ ∃i:Nat,ns[i]?=some (some n):=by
 constructor
 .intro m;exact List.getElem?_of_mem m
 .rintro⟨i,e⟩;exact RN e
def Sat.own(S:Sat X h0 ns e ae h){i n:Nat}(q:ns[i]?=some (some n)):∃s v o,e[i]?=some s/\(s.mt=true\/s.lk=true)/\s.val=some v/\ae[i]?=some (some (.ref n))/\h[n]?=some o/\bP o/\Rc (Oc X ns) h o v:=by
 have hi:i<e.length:=by rw[<- S.l2];exact (s_.mp q).1
 have hs:=S.sl i e[i] (w_ hi);refine⟨e[i],?_⟩;have he:=w_ hi;generalize e[i]=s at *;rw[q] at hs;cases s with
 |no=>cases hs
 |sh v=>cases hs.1
 |ow v=>obtain⟨m,o,e1,e2,_,e3,e4,e5⟩:=hs;cases e1;exact⟨v,o,he,.inl rfl,rfl,e2,e3,e4,e5⟩
 |lo v=>obtain⟨m,o,e1,e2,_,e3,e4,e5⟩:=hs;cases e1;exact⟨v,o,he,.inr rfl,rfl,e2,e3,e4,e5⟩
 |mu v=>obtain⟨m,o,e1,e2,e3,e4,e5⟩:=hs;cases e1;exact⟨v,o,he,.inl rfl,rfl,e2,e3,e4,e5⟩
 |lm v=>obtain⟨m,o,e1,e2,e3,e4,e5⟩:=hs;cases e1;exact⟨v,o,he,.inr rfl,rfl,e2,e3,e4,e5⟩
def Stp.refl:Stp ns e h ns e h:=⟨p_ _,λ_ _ q _=>q,λ_ _ q=>.inl q,λ_ _ q _=>⟨q,rfl⟩,λ_ _ q _=>⟨q,rfl⟩,λ_ _ q=>⟨_,q,rfl⟩,λ_ _ q=>⟨_,q,rfl⟩⟩
def Stp.trans(S:Sat X h0 ns e ae h)(a:Stp ns e h ns1 e1 h1)(b:Stp ns1 e1 h1 im e2 h2):Stp ns e h im e2 h2:=by
 refine⟨F_ a.len b.len,λm o q hm=>?_,λi n q=>?_,λi s q hl=>?_,λi s q hl=>?_,λi v q=>?_,λi v q=>?_⟩
 .refine b.keep m o (a.keep m o q hm) λ⟨i,s,z1,z2,z3⟩=>hm ?_;have hlt:=(s_.mp q).1;rcases a.nw i m z1 with z |z
  .obtain⟨s0,v,o',q1,q2,_⟩:=S.own z;rcases q2 with q2 |q2
   .exact⟨i,s0,z,q1,q2⟩
   .have:=(a.lk i s0 q1 q2).1
    rw[z2] at this;cases this;exfalso;cases s <;> first |cases z3;done |cases q2;done
  .omega
 .rcases b.nw i n q with z |z
  .exact a.nw i n z
  .exact .inr (F_ a.len z)
 .obtain⟨q1,q2⟩:=a.lk i s q hl;obtain⟨q3,q4⟩:=b.lk i s q1 hl;exact⟨q3,q4.trans q2⟩
 .obtain⟨q1,q2⟩:=b.lk' i s q hl;obtain⟨q3,q4⟩:=a.lk' i s q1 hl;exact⟨q3,q2.trans q4⟩
 .obtain⟨u,q1,q2⟩:=b.mu i v q;obtain⟨u',q3,q4⟩:=a.mu i u q1;exact⟨u',q3,q2.trans q4⟩
 .obtain⟨u,q1,q2⟩:=a.mu' i v q;obtain⟨u',q3,q4⟩:=b.mu' i u q1;exact⟨u',q3,q4.trans q2⟩
def Stp.mov(S:Sat X h0 ns e ae h)(a:Stp ns e h ns1 e1 h1):Mov (Oc X ns) (Oc X ns1) h h1:=λn o p q=>by
 have hlt:=(s_.mp q).1;have hm:¬ Mt ns e n:=λ⟨i,s,z,_⟩=>p.2 (aX.mpr ⟨i,z⟩);refine⟨⟨p.1,λz=>?_⟩,a.keep n o q hm⟩;obtain⟨i,z⟩:=aX.mp z;rcases a.nw i n z with z |z
 .exact p.2 (aX.mpr ⟨i,z⟩)
 .omega
def c8(q:h[n]?=some o):n<h.length:=(s_.mp q).1
def kW{n:Nat}{o:Ob}{g:AH}(q:h[n]?=some o):(h++g)[n]?=some o:=by rw[M_ (c8 q)];exact q
def Gw:(h++[o])[h.length]?=some o:=by rw[QM (p_ _),SA];rfl
def SlR.mono(m:Mov P P' h h')(k:∀j o,n=some (some j)->h[j]?=some o->h'[j]?=some o)(r:SlR P h0 n d h s):SlR P' h0 n d h' s:=by
 cases s with
 |no=>exact r
 |sh v=>obtain⟨q,x,q1,q2⟩:=r;exact⟨q,x,q1,q2.mono m⟩
 |ow v=>obtain⟨j,o,q1,q2,q3,q4,q5,q6⟩:=r;exact⟨j,o,q1,q2,q3,k j o q1 q4,q5,q6.mono m⟩
 |lo v=>obtain⟨j,o,q1,q2,q3,q4,q5,q6⟩:=r;exact⟨j,o,q1,q2,q3,k j o q1 q4,q5,q6.mono m⟩
 |mu v=>obtain⟨j,o,q1,q2,q4,q5,q6⟩:=r;exact⟨j,o,q1,q2,k j o q1 q4,q5,q6.mono m⟩
 |lm v=>obtain⟨j,o,q1,q2,q4,q5,q6⟩:=r;exact⟨j,o,q1,q2,k j o q1 q4,q5,q6.mono m⟩
def Xn(X:Nat->Prop)(n:Nat):Nat->Prop:=λm=>X m\/m=n
def Sat.grow(S:Sat X h0 ns e ae h)(o:Ob):Sat (Xn X h.length) h0 ns e ae (h++[o]):=by
 have mv:Mov (Oc X ns) (Oc (Xn X h.length) ns) h (h++[o]):=λn o' p q=>⟨⟨λz=>by
  rcases z with z |z
  .exact p.1 z
  .have:=c8 q;omega,p.2⟩,kW q⟩
 refine⟨S.l1,S.l2,by rw[D_];have:=S.lh;omega,λn z=>?_,S.inj,λi n q z=>?_,λi s q=>(S.sl i s q).mono mv λj o' _ q'=>kW q'⟩
 .rw[D_];rcases z with z |z
  .have:=S.xl n z;omega
  .subst z;show h.length<h.length+1;omega
 .rcases z with z |z
  .exact S.nx i n q z
  .obtain⟨_,_,_,_,_,_,_,q',_⟩:=S.own q
   have:=c8 q';omega
def Sat.weak(S:Sat Y h0 ns e ae h)(hx:∀n,X n->Y n):Sat X h0 ns e ae h:=
 ⟨S.l1,S.l2,S.lh,λn z=>S.xl n (hx n z),S.inj,λi n q z=>S.nx i n q (hx n z),λi s q=>(S.sl i s q).mono (λn o p q=>⟨⟨λz=>p.1 (hx n z),p.2⟩,q⟩) λ_ _ _ q=>q⟩
def Stp.grow(o:Ob):Stp ns e h ns e (h++[o]):=⟨by rw[D_];omega,λ_ _ q _=>kW q,λ_ _ q=>.inl q,λ_ _ q _=>⟨q,rfl⟩,λ_ _ q _=>⟨q,rfl⟩,λ_ _ q=>⟨_,q,rfl⟩,λ_ _ q=>⟨_,q,rfl⟩⟩
end
section
variable{X:Nat->Prop}{h0:Nat}{ns:Ns}{e:E3}{ae:AE}{h hs:AH}
def bA{α:Type}{l:List α}{i j:Nat}{a b:α}(hi:i<l.length)(q:(l.set i a)[j]?=some b):(j=i/\b=a)\/(j≠i/\l[j]?=some b):=by
 rw[SU] at q;by_cases z:i=j
 .subst z;rw[if_pos rfl,if_pos hi] at q;exact .inl ⟨rfl,(J_ q).symm⟩
 .rw[if_neg z] at q;exact .inr ⟨λy=>z y.symm,q⟩
def bU{α:Type}{l:List α}{i:Nat}{a:α}(hi:i<l.length):(l.set i a)[i]?=some a:=by rw[SU,if_pos rfl,if_pos hi]
def bM{α:Type}{l:List α}{i j:Nat}{a:α}(hi:j≠i):(l.set i a)[j]?=l[j]?:=by rw[Th (λy=>hi y.symm)]
def fR(p:Oc X ns n):Oc X (ns.set i none) n:=⟨p.1,λz=>by
 rcases List.mem_or_eq_of_mem_set z with z |z
 .exact p.2 z
 .cases z⟩
def Sat.putN(S:Sat X h0 ns e ae h)(hi:i<e.length)(q:SlR (Oc X (ns.set i none)) h0 (some none) (some d) h s):Sat X h0 (ns.set i none) (e.set i s) (ae.set i d) h:=by
 have hn:i<ns.length:=by rw[S.l2];exact hi
 have ha:i<ae.length:=by rw[S.l1];exact hi
 refine⟨by rw[QG,QG];exact S.l1,by rw[QG,QG];exact S.l2,S.lh,S.xl,λj k n q1 q2=>?_,λj n q1=>?_,λj s' q1=>?_⟩
 .rcases bA hn q1 with ⟨_,z⟩ |⟨_,z⟩
  .cases z
  rcases bA hn q2 with ⟨_,y⟩ |⟨_,y⟩
  .cases y
  exact S.inj j k n z y
 .rcases bA hn q1 with ⟨_,z⟩ |⟨_,z⟩
  .cases z
  exact S.nx j n z
 .rcases bA hi q1 with ⟨rfl,rfl⟩ |⟨z,q2⟩
  .rw[bU hn,bU ha];exact q
  .rw[bM z,bM z];exact (S.sl j s' q2).mono (λn o p q=>⟨fR p,q⟩) λ_ _ _ q=>q
def Sat.putN'(S:Sat X h0 ns e ae h)(hi:i<e.length)(q:SlR (Oc X (ns.set i none)) h0 (some none) (ae[i]?) h s):Sat X h0 (ns.set i none) (e.set i s) ae h:=by
 have ha:i<ae.length:=by rw[S.l1];exact hi
 have:=S.putN hi (s:=s) (d:=ae[i]) (by rw[w_ ha] at q;exact q)
 rw[List.set_getElem_self] at this;exact this
def Sat.putO(S:Sat (Xn X n) h0 ns e ae h)(hx:¬ X n)(hi:i<e.length)(hn0:h0<=n)(eo:h[n]?=some o)(hf:bP o)(r:Rc (Oc (Xn X n) ns) h o v):Sat X h0 (ns.set i (some n)) (e.set i (.ow v)) (ae.set i (some (.ref n))) h:=by
 have hn:i<ns.length:=by rw[S.l2];exact hi
 have ha:i<ae.length:=by rw[S.l1];exact hi
 have nn:∀j:Nat,ns[j]?≠some (some n):=λj q=>S.nx j n q (.inr rfl);have mv:Mov (Oc (Xn X n) ns) (Oc X (ns.set i (some n))) h h:=λm o' p q=>⟨⟨λz=>p.1 (.inl z),λz=>by
  rcases List.mem_or_eq_of_mem_set z with z |z
  .exact p.2 z
  .cases z;exact p.1 (.inr rfl)⟩,q⟩
 refine⟨by rw[QG,QG];exact S.l1,by rw[QG,QG];exact S.l2,S.lh,λm z=>S.xl m (.inl z),λj k m q1 q2=>?_,λj m q1 z=>?_,λj s' q1=>?_⟩
 .rcases bA hn q1 with ⟨z1,z⟩ |⟨z1,z⟩ <;> rcases bA hn q2 with ⟨y1,y⟩ |⟨y1,y⟩
  .rw[z1,y1]
  .cases z;exact absurd y (nn k)
  .cases y;exact absurd z (nn j)
  .exact S.inj j k m z y
 .rcases bA hn q1 with ⟨_,y⟩ |⟨_,y⟩
  .cases y;exact hx z
  .exact S.nx j m y (.inl z)
 .rcases bA hi q1 with ⟨rfl,rfl⟩ |⟨z,q2⟩
  .rw[bU hn,bU ha];exact⟨n,o,rfl,rfl,hn0,eo,hf,r.mono mv⟩
  .rw[bM z,bM z];exact (S.sl j s' q2).mono mv λ_ _ _ q=>q
noncomputable def Sl.pl:Sl->Bool
 |.no=>true
 |.sh _=>true
 |.ow _=>true
 |_=>false
def Stp.put(A:Stp ns0 e0 hs ns e h)(hi:i<e.length)(hx:∀n,x=some n->hs.length<=n)(q0:e[i]?=some s0)(p0:s0.pl=true)(p:s.pl=true)(l2:ns.length=e.length):Stp ns0 e0 hs (ns.set i x) (e.set i s) h:=by
 have hn:i<ns.length:=by rw[l2];exact hi
 refine⟨A.len,A.keep,λj n q=>?_,λj s' q hl=>?_,λj s' q hl=>?_,λj v q=>?_,λj v q=>?_⟩
 .rcases bA hn q with ⟨_,z⟩ |⟨_,z⟩
  .exact .inr (hx n z.symm)
  .exact A.nw j n z
 .obtain⟨q1,q2⟩:=A.lk j s' q hl;have z:j≠i:=λz=>by subst z;rw[q0] at q1;cases q1;cases s0 <;> first |cases p0;done |cases hl;done
  rw[bM z,bM z];exact⟨q1,q2⟩
 .rcases bA hi q with ⟨_,z⟩ |⟨z,q1⟩
  .subst z;cases s' <;> first |cases p;done |cases hl;done
  .rw[bM z];exact A.lk' j s' q1 hl
 .rcases bA hi q with ⟨_,z⟩ |⟨z,q1⟩
  .subst z;cases p
  .rw[bM z];exact A.mu j v q1
 .obtain⟨u,q1,q2⟩:=A.mu' j v q;have z:j≠i:=λz=>by subst z;rw[q0] at q1;cases q1;cases p0
  exact⟨u,by rw[bM z];exact q1,by rw[bM z];exact q2⟩
end
inductive Tm where
 |val (v:Val) |new (v:Val) |bor (i:Nat)
inductive R3(α:Type) where
 |ok (a:α) (e:E3) |exc (c:Str) (e:E3) |stuck
noncomputable def R3.bind{α β:Type}(r:R3 α)(f:α->E3->R3 β):R3 β:=match r with
 |.ok a e=>f a e
 |.exc c e=>.exc c e
 |.stuck=>.stuck
abbrev ME3:=E3->R3 Tm
abbrev MT3:=E3->R3 Bool
abbrev MA3:=E3->R3 (List Tm)
def Po{δ α:Type}(X:Nat->Prop)(h0:Nat)(ns:Ns)(e:E3)(ae:AE)(h:AH)(rel:Ns->E3->AH->δ->α->Prop)(r2:R δ):R3 α->Prop
 |.stuck=>True
 |.ok t e'=>∃d h' ns',r2=.ok d h'/\Stp ns e h ns' e' h'/\Sat X h0 ns' e' ae h'/\rel ns' e' h' d t
 |.exc c e'=>∃h' ns',r2=.exc c h'/\Stp ns e h ns' e' h'/\Sat X h0 ns' e' ae h'
def relE(X:Nat->Prop)(h0 L:Nat)(ae:AE)(ns:Ns)(e:E3)(h:AH)(d:D):Tm->Prop
 |.val v=>Rd (Oc X ns) h d v
 |.new v=>∃n o,d=.ref n/\L<=n/\¬ X n/\h[n]?=some o/\bP o/\Sat (Xn X n) h0 ns e ae h/\Rc (Oc (Xn X n) ns) h o v
 |.bor i=>ae[i]?=some (some d)
def relT(_:Ns)(_:E3)(_:AH)(b c:Bool):Prop:=b=c
inductive TsR(X:Nat->Prop)(ns:Ns)(ae:AE)(h:AH):List D->List Tm->Prop where
 |nil:TsR X ns ae h [] []
 |val {d:D}{v:Val}{ds:List D}{ts:List Tm} (r:Rd (Oc X ns) h d v) (rr:TsR X ns ae h ds ts):TsR X ns ae h (d::ds) (.val v::ts)
 |bor {d:D}{i:Nat}{ds:List D}{ts:List Tm} (q:ae[i]?=some (some d)) (rr:TsR X ns ae h ds ts):TsR X ns ae h (d::ds) (.bor i::ts)
def relA(X:Nat->Prop)(ae:AE)(ns:Ns)(_:E3)(h:AH)(ds:List D)(ts:List Tm):Prop:=TsR X ns ae h ds ts
def RE(F:ME)(G:ME3):Prop:=∀X h0 L ns e ae h,Sat X h0 ns e ae h->L<=h.length->Po X h0 ns e ae h (relE X h0 L ae) (F ae h) (G e)
def RT(F:MT)(G:MT3):Prop:=∀X h0 ns e ae h,Sat X h0 ns e ae h->Po X h0 ns e ae h relT (F ae h) (G e)
def RA(F:MA)(G:MA3):Prop:=∀X h0 ns e ae h,Sat X h0 ns e ae h->Po X h0 ns e ae h (relA X ae) (F ae h) (G e)
section
variable{X:Nat->Prop}{h0 L:Nat}{ns ns':Ns}{e e':E3}{ae:AE}{h h':AH}
def Po.bind(S:Sat X h0 ns e ae h)(p:Po X h0 ns e ae h rel r2 r3)
 (k:∀d t h' ns' e',Stp ns e h ns' e' h'->Sat X h0 ns' e' ae h'->rel ns' e' h' d t->Po X h0 ns' e' ae h' rel' (f2 d h') (f3 t e')):Po X h0 ns e ae h rel' (r2.bind f2) (r3.bind f3):=by
 cases r3 with
 |stuck=>trivial
 |exc c e'=>obtain⟨h',ns',q,q1,q2⟩:=p;subst q;exact⟨h',ns',rfl,q1,q2⟩
 |
  ok t e'=>
  obtain⟨d,h',ns',q,q1,q2,q3⟩:=p;subst q
  have:=k d t h' ns' e' q1 q2 q3
  show Po X h0 ns e ae h rel' (f2 d h') (f3 t e');generalize f3 t e'=r at *;cases r with
  |stuck=>trivial
  |exc c e2=>obtain⟨h2,im,y,y1,y2⟩:=this;exact⟨h2,im,y,q1.trans S y1,y2⟩
  |ok t2 e2=>obtain⟨d2,h2,im,y,y1,y2,y3⟩:=this;exact⟨d2,h2,im,y,q1.trans S y1,y2,y3⟩
def Po.ret(S:Sat X h0 ns e ae h)(q:rel ns e h d t):Po X h0 ns e ae h rel (.ok d h) (.ok t e):=⟨d,h,ns,rfl,.refl,S,q⟩
def TsR.stp(S:Sat X h0 ns e ae h)(a:Stp ns e h ns' e' h')(r:TsR X ns ae h ds ts):TsR X ns' ae h' ds ts:=by
 induction r with
 |nil=>exact .nil
 |val r _ ih=>exact .val (r.mono (a.mov S)) ih
 |bor q _ ih=>exact .bor q ih
noncomputable def rs(e:E3):Tm->Option Val
 |.val v=>some v
 |.new v=>some v
 |.bor i=>(e[i]?).bind Sl.val
def Sat.bor(S:Sat X h0 ns e ae h){i:Nat}{d:D}{v:Val}(q:ae[i]?=some (some d))(r:(e[i]?).bind Sl.val=some v):ShR (Oc X ns) h d v:=by
 cases z:e[i]? with
 |none=>rw[z] at r;cases r
 |
  some s=>
  rw[z] at r;have y:=S.sl i s z;rw[q] at y;have r':s.val=some v:=r;cases s with
  |no=>cases r'
  |sh u=>cases r';obtain⟨_,x,e1,e2⟩:=y;cases e1;exact .inl e2
  |ow u=>cases r';obtain⟨m,o,_,e2,_,e3,_,e4⟩:=y;cases e2;exact .inr ⟨m,o,rfl,e3,e4⟩
  |lo u=>cases r';obtain⟨m,o,_,e2,_,e3,_,e4⟩:=y;cases e2;exact .inr ⟨m,o,rfl,e3,e4⟩
  |mu u=>cases r';obtain⟨m,o,_,e2,e3,_,e4⟩:=y;cases e2;exact .inr ⟨m,o,rfl,e3,e4⟩
  |lm u=>cases r';obtain⟨m,o,_,e2,e3,_,e4⟩:=y;cases e2;exact .inr ⟨m,o,rfl,e3,e4⟩
def relE.new(r:relE X h0 L ae ns e h d (.new v)):Rd (Oc X ns) h d v:=by obtain⟨n,o,rfl,_,hx,eo,_,S,rc⟩:=r;exact .cell ⟨hx,λz=>by obtain⟨i,z⟩:=aX.mp z;exact S.nx i n z (.inr rfl)⟩ eo (rc.mono λm o p q=>⟨⟨λz=>p.1 (.inl z),p.2⟩,q⟩)
def relE.sh{d:D}{t:Tm}{v:Val}(S:Sat X h0 ns e ae h)(r:relE X h0 L ae ns e h d t)(q:rs e t=some v):ShR (Oc X ns) h d v:=by
 cases t with
 |val u=>cases q;exact .inl r
 |new u=>cases q;exact .inl r.new
 |bor i=>exact S.bor r q
def relE.stp(S:Sat X h0 ns e ae h)(a:Stp ns e h ns' e' h')(r:relE X h0 L ae ns e h d t)(hn:∀v,t ≠ .new v):relE X h0 L ae ns' e' h' d t:=by
 cases t with
 |val u=>exact Rd.mono (a.mov S) r
 |new u=>exact absurd rfl (hn u)
 |bor i=>exact r
noncomputable def Tm.drop:Tm->Tm
 |.new v=>.val v
 |t=>t
def relE.drop(r:relE X h0 L ae ns e h d t):relE X h0 L ae ns e h d t.drop/\∀v,t.drop ≠ .new v:=by
 cases t with
 |val u=>exact⟨r,λ_ z=>nomatch z⟩
 |new u=>exact⟨r.new,λ_ z=>nomatch z⟩
 |bor i=>exact⟨r,λ_ z=>nomatch z⟩
noncomputable def rss(e:E3):List Tm->Option (List Val)
 | []=>some []
 |t::ts=>match rs e t,rss e ts with
  |some v,some vs=>some (v::vs)
  |_,_=>none
def TsR.sh{ds:List D}{ts:List Tm}{vs:List Val}(S:Sat X h0 ns e ae h)(r:TsR X ns ae h ds ts)(q:rss e ts=some vs):ShRs (Oc X ns) h ds vs:=by
 induction r generalizing vs with
 |nil=>cases q;exact .nil
 |
  val r _ ih=>
  unfold rss at q;split at q
  .rename_i e1 e2;cases q;cases e1;exact .cons (.inl r) (ih e2)
  .cases q
 |
  bor q' _ ih=>
  unfold rss at q;split at q
  .rename_i e1 e2;cases q;exact .cons (S.bor q' e1) (ih e2)
  .cases q
end
inductive Bv where
 |val (v:Val) |new (v:Val) |stuck
def BvR(P:Nat->Prop)(h:AH)(r:R D):Bv->Prop
 |.val v=>∃d,r=.ok d h/\Rd P h d v
 |.new v=>∃o,r=.ok (.ref h.length) (h++[o])/\bP o/\Rc P h o v
 |.stuck=>True
noncomputable def Bv.at(b:Bv)(e:E3):R3 Tm:=match b with
 |.val v=>.ok (.val v) e
 |.new v=>.ok (.new v) e
 |.stuck=>.stuck
def BvR.po(S:Sat X h0 ns e ae h)(hl:L<=h.length)(q:BvR (Oc X ns) h r b):Po X h0 ns e ae h (relE X h0 L ae) r (b.at e):=by
 cases b with
 |stuck=>trivial
 |val v=>obtain⟨d,rfl,r⟩:=q;exact Po.ret S r
 |
  new v=>
  obtain⟨o,rfl,hf,r⟩:=q;have S':=S.grow o;refine⟨_,_,ns,rfl,.grow o,S'.weak λn z=>.inl z,h.length,o,rfl,hl,λz=>?_,Gw,hf,S',r.mono λn o' p q=>⟨⟨λz=>?_,p.2⟩,kW q⟩⟩
  .have:=S.xl _ z;omega
  .rcases z with z |z
   .exact p.1 z
   .have:=c8 q;omega
def RU(g2:D->AH->R D)(g3:Val->Bv):Prop:=∀P h d v,ShR P h d v->BvR P h (g2 d h) (g3 v)
def RO(g2:D->D->AH->R D)(g3:Val->Val->Bv):Prop:=∀P h d1 d2 v1 v2,ShR P h d1 v1->ShR P h d2 v2->BvR P h (g2 d1 d2 h) (g3 v1 v2)
def RFn(g2:Fn)(g3:List Val->Bv):Prop:=∀P h ds vs,ShRs P h ds vs->BvR P h (g2 ds h) (g3 vs)
noncomputable def CF(i:Nat):ME3:=λe=>match e[i]? with
 |some (.sh v)=>.ok (.val v) e
 |some .no=>.stuck
 |some _=>.ok (.bor i) e
 |none=>.stuck
def vC(v:Val):ME3:=λe=>.ok (.val v) e
noncomputable def vUn(g:Val->Bv)(F:ME3):ME3:=λe=>(F e).bind λt e1=>match rs e1 t with
 |some v=>(g v).at e1
 |none=>.stuck
noncomputable def vOp(g:Val->Val->Bv)(F G:ME3):ME3:=λe=>(F e).bind λt1 e1=>(G e1).bind λt2 e2=>match rs e2 t1.drop,rs e2 t2 with
 |some v1,some v2=>(g v1 v2).at e2
 |_,_=>.stuck
def oT:MA3:=λe=>.ok [] e
noncomputable def Fp(F:ME3)(A:MA3):MA3:=λe=>(F e).bind λt e1=>(A e1).bind λts e2=>.ok (t.drop::ts) e2
noncomputable def vFn(g:List Val->Bv)(A:MA3):ME3:=λe=>(A e).bind λts e1=>match rss e1 ts with
 |some vs=>(g vs).at e1
 |none=>.stuck
noncomputable def cE(e:E3):Tm->Option (E3×Val)
 |.val v=>some (e,v)
 |.new v=>some (e,v)
 |.bor i=>match e[i]? with
  |some (.sh v)=>some (e,v)
  |some (.ow v)=>some (e.set i (.sh v),v)
  |_=>none
noncomputable def dem(e:E3):List Tm->Option (E3×List Val)
 | []=>some (e,[])
 |t::ts=>match cE e t with
  |some (e1,v)=>match dem e1 ts with
   |some (e2,vs)=>some (e2,v::vs)
   |none=>none
  |none=>none
noncomputable def vTup(A:MA3):ME3:=λe=>(A e).bind λts e1=>match dem e1 ts with
 |some (e2,vs)=>if vs.length<=16777216 then .ok (.val (.tup vs)) e2 else .stuck
 |none=>.stuck
noncomputable def vLst(A:MA3):ME3:=λe=>(A e).bind λts e1=>match dem e1 ts with
 |some (e2,vs)=>if vs.length<=16777216 then .ok (.new (.lst vs)) e2 else .stuck
 |none=>.stuck
noncomputable def bOf:Option Val->Option Bool
 |some (.bl b)=>some b
 |_=>none
noncomputable def vAnd(F G:ME3):ME3:=λe=>(F e).bind λt e1=>match bOf (rs e1 t) with
 |some true=>G e1
 |some false=>.ok (.val (.bl false)) e1
 |none=>.stuck
noncomputable def vNot(F:ME3):ME3:=λe=>(F e).bind λt e1=>match bOf (rs e1 t) with
 |some b=>.ok (.val (.bl (!b))) e1
 |none=>.stuck
noncomputable def cOf(F:ME3):MT3:=λe=>(F e).bind λt e1=>match bOf (rs e1 t) with
 |some b=>.ok b e1
 |none=>.stuck
noncomputable def cAn(c d:MT3):MT3:=λe=>(c e).bind λb e1=>if b=true then d e1 else .ok false e1
noncomputable def cO(c d:MT3):MT3:=λe=>(c e).bind λb e1=>if b=true then .ok true e1 else d e1
noncomputable def cNo(c:MT3):MT3:=λe=>(c e).bind λb e1=>.ok (!b) e1
def cY:MT3:=λe=>.ok true e
noncomputable def lM:Val->Option Bool
 |.non=>some false
 |.bl b=>some b
 |.int i=>some (i != 0)
 |.tup xs=>some (!xs.isEmpty)
 |.lst xs=>some (!xs.isEmpty)
 |.kl xs=>some (!xs.isEmpty)
 |_=>none
noncomputable def cTr(F:ME3):MT3:=λe=>(F e).bind λt e1=>match (rs e1 t).bind lM with
 |some b=>.ok b e1
 |none=>.stuck
section
variable{F G:ME}{F3 G3:ME3}{A:MA}{A3:MA3}{c d:MT}{c3 d3:MT3}
def Nr(i:Nat):RE (bo i) (CF i):=λX h0 L ns e ae h S hl=>by
 unfold CF;cases q:e[i]? with
 |none=>trivial
 |
  some s=>
  have y:=S.sl i s q;cases s with
  |no=>trivial
  |sh v=>obtain⟨_,x,e1,e2⟩:=y;unfold bo;rw[e1];exact Po.ret S e2
  |ow v=>obtain⟨m,o,_,e2,_⟩:=y;unfold bo;rw[e2];exact Po.ret S e2
  |lo v=>obtain⟨m,o,_,e2,_⟩:=y;unfold bo;rw[e2];exact Po.ret S e2
  |mu v=>obtain⟨m,o,_,e2,_⟩:=y;unfold bo;rw[e2];exact Po.ret S e2
  |lm v=>obtain⟨m,o,_,e2,_⟩:=y;unfold bo;rw[e2];exact Po.ret S e2
def ou{d:D}{v:Val}(r:∀P h,Rd P h d v):RE (eC d) (vC v):=λX h0 L ns e ae h S hl=>Po.ret S (r _ _)
def NP(hg:RU g g3)(hF:RE F F3):RE (eUn g F) (vUn g3 F3):=λX h0 L ns e ae h S hl=>
 Po.bind S (hF X h0 L ns e ae h S hl) λd t h1 ns1 e1 a1 S1 r1=>by
  try dsimp only
  split
  .rename_i v q;exact BvR.po S1 (F_ hl a1.len) (hg _ _ _ _ (r1.sh S1 q))
  .trivial
def OV(hg:RO g g3)(hF:RE F F3)(hG:RE G G3):RE (eOp g F G) (vOp g3 F3 G3):=λX h0 L ns e ae h S hl=>
 Po.bind S (hF X h0 L ns e ae h S hl) λd1 t1 h1 ns1 e1 a1 S1 r1=>Po.bind S1 (hG X h0 L ns1 e1 ae h1 S1 (F_ hl a1.len)) λd2 t2 h2 im e2 a2 S2 r2=>by
  try dsimp only
  split
  .rename_i v1 v2 q1 q2;obtain⟨r1',hn⟩:=r1.drop;exact BvR.po S2 (F_ hl (F_ a1.len a2.len)) (hg _ _ _ _ _ _ ((r1'.stp S1 a2 hn).sh S2 q1) (r2.sh S2 q2))
  .trivial
def AS:RA j9 oT:=λX h0 ns e ae h S=>Po.ret S .nil
def Gr(hF:RE F F3)(hA:RA A A3):RA (jD F A) (Fp F3 A3):=λX h0 ns e ae h S=>
 Po.bind S (hF X h0 0 ns e ae h S (QH _)) λd1 t1 h1 ns1 e1 a1 S1 r1=>Po.bind S1 (hA X h0 ns1 e1 ae h1 S1) λds ts h2 im e2 a2 S2 r2=>by
  obtain⟨r1',hn⟩:=r1.drop;have r3:=r1'.stp S1 a2 hn;refine Po.ret S2 ?_;show TsR X im ae h2 (d1::ds) (t1.drop::ts);generalize t1.drop=t at *;cases t with
  |val v=>exact .val r3 r2
  |new v=>exact absurd rfl (hn v)
  |bor i=>exact .bor r3 r2
def NS(hg:RFn g g3)(hA:RA A A3):RE (eFn g A) (vFn g3 A3):=λX h0 L ns e ae h S hl=>
 Po.bind S (hA X h0 ns e ae h S) λds ts h1 ns1 e1 a1 S1 r1=>by
  try dsimp only
  split
  .rename_i vs q;exact BvR.po S1 (F_ hl a1.len) (hg _ _ _ _ (TsR.sh S1 r1 q))
  .trivial
def Kq(S:Sat X h0 ns e ae h)(q:e[i]?=some (.ow v)):∃n,ae[i]?=some (some (.ref n))/\Sat X h0 (ns.set i none) (e.set i (.sh v)) ae h/\Stp ns e h (ns.set i none) (e.set i (.sh v)) h/\Rd (Oc X (ns.set i none)) h (.ref n) v:=by
 obtain⟨n,o,q1,q2,_,q3,_,q4⟩:=S.sl i _ q;have hi:=(s_.mp q).1;have hn:i<ns.length:=by rw[S.l2];exact hi
 have r:Rd (Oc X (ns.set i none)) h (.ref n) v:=.cell ⟨S.nx i n q1,λz=>by
  obtain⟨j,z⟩:=aX.mp z;rcases bA hn z with ⟨_,y⟩ |⟨y,z⟩
  .cases y
  .exact y (S.inj j i n z q1)⟩ q3 (q4.mono λm o p q=>⟨fR p,q⟩)
 exact⟨n,q2,S.putN' hi ⟨rfl,_,q2,r⟩,Stp.refl.put (x:=none) hi (λ_ z=>by cases z) q rfl rfl S.l2,r⟩
def fN{X:Nat->Prop}{h0 L:Nat}{ns:Ns}{e e':E3}{ae:AE}{h:AH}{d:D}{t:Tm}{v:Val}(S:Sat X h0 ns e ae h)(r:relE X h0 L ae ns e h d t)(q:cE e t=some (e',v)):∃ns',Sat X h0 ns' e' ae h/\Stp ns e h ns' e' h/\Rd (Oc X ns') h d v:=by
 cases t with
 |val u=>cases q;exact⟨ns,S,.refl,r⟩
 |new u=>cases q;exact⟨ns,S,.refl,r.new⟩
 |
  bor i=>
  unfold cE at q;dsimp only at q;have r':ae[i]?=some (some d):=r;split at q
  .rename_i u q1;cases q;obtain⟨_,x,e1,e2⟩:=S.sl i _ q1;rw[r'] at e1;cases e1;exact⟨ns,S,.refl,e2⟩
  .rename_i u q1;cases q;obtain⟨n,e1,S',a',e2⟩:=Kq S q1;rw[r'] at e1;cases e1;exact⟨_,S',a',e2⟩
  .cases q
def iQ:∀{ds:List D}{vs:List Val}{ns:Ns}{e e':E3},Sat X h0 ns e ae h->TsR X ns ae h ds ts->dem e ts=some (e',vs)->∃ns',Sat X h0 ns' e' ae h/\Stp ns e h ns' e' h/\Rds (Oc X ns') h ds vs:=by
 induction ts with
 |nil=>intro ds vs ns e e' S r q;cases r;cases q;exact⟨ns,S,.refl,.nil⟩
 |
  cons t ts ih=>
  intro ds vs ns e e' S r q;unfold dem at q;split at q
  .rename_i e1 v q1;split at q
   .rename_i e2 vs' q2;cases q;have hr:∃d ds',ds=d::ds'/\relE X h0 0 ae ns e h d t/\TsR X ns ae h ds' ts:=by
     cases r with
     |val r rr=>exact⟨_,_,rfl,r,rr⟩
     |bor r rr=>exact⟨_,_,rfl,r,rr⟩
    obtain⟨d,ds',rfl,hr⟩:=hr;obtain⟨ns1,S1,a1,r1⟩:=fN S hr.1 q1;obtain⟨im,S2,a2,r2⟩:=ih S1 (hr.2.stp S a1) q2;exact⟨im,S2,a1.trans S a2,.cons (r1.mono (a2.mov S1)) r2⟩
   .cases q
  .cases q
def Nk(hA:RA A A3):RE (eFn nj A) (vTup A3):=λX h0 L ns e ae h S hl=>
 Po.bind S (hA X h0 ns e ae h S) λds ts h1 ns1 e1 a1 S1 r1=>by
  try dsimp only
  split
  .rename_i e2 vs q;split
   .rename_i hv;obtain⟨im,S2,a2,r2⟩:=iQ S1 r1 q;exact⟨.tup ds,h1,im,by unfold nj;rw[if_pos (by rw[r2.len];exact hv)],a2,S2,.tup r2⟩
   .trivial
  .trivial
def KY(hA:RA A A3):RE (eFn dP A) (vLst A3):=λX h0 L ns e ae h S hl=>
 Po.bind S (hA X h0 ns e ae h S) λds ts h1 ns1 e1 a1 S1 r1=>by
  try dsimp only
  split
  .rename_i e2 vs q;split
   .rename_i hv;obtain⟨im,S2,a2,r2⟩:=iQ S1 r1 q;have p:=BvR.po (r:=dP ds h1) (b:=.new (.lst vs)) S2 (F_ hl a1.len) ⟨.lst ds,by unfold dP;rw[if_pos (by rw[r2.len];exact hv)],trivial,.lst r2⟩;obtain⟨d,h',ns',y,y1,y2,y3⟩:=p;exact⟨d,h',ns',y,a2.trans S1 y1,y2,y3⟩
   .trivial
  .trivial
def mX(S1:Sat X h0 ns1 e1 ae h1)(r1:relE X h0 L ae ns1 e1 h1 d1 t1)(q:bOf (rs e1 t1)=some b):d1=.bl b:=by
 unfold bOf at q;split at q
 .rename_i b' q';cases q;exact (r1.sh S1 q').bl
 .cases q
def Jj(hF:RE F F3)(hG:RE G G3):RE (Co F G) (vAnd F3 G3):=λX h0 L ns e ae h S hl=>
 Po.bind S (hF X h0 L ns e ae h S hl) λd1 t1 h1 ns1 e1 a1 S1 r1=>by
  try dsimp only
  split
  .rename_i q;rw[mX S1 r1 q];exact hG X h0 L ns1 e1 ae h1 S1 (F_ hl a1.len)
  .rename_i q;rw[mX S1 r1 q];exact Po.ret S1 (.bl false)
  .trivial
def KQ(hF:RE F F3):RE (BN F) (vNot F3):=λX h0 L ns e ae h S hl=>
 Po.bind S (hF X h0 L ns e ae h S hl) λd1 t1 h1 ns1 e1 a1 S1 r1=>by
  try dsimp only
  split
  .rename_i q;rw[mX S1 r1 q];exact Po.ret S1 (.bl _)
  .trivial
def N3(hF:RE F F3):RT (tOf F) (cOf F3):=λX h0 ns e ae h S=>
 Po.bind S (hF X h0 0 ns e ae h S (QH _)) λd1 t1 h1 ns1 e1 a1 S1 r1=>by
  try dsimp only
  split
  .rename_i q;rw[mX S1 r1 q];exact Po.ret S1 rfl
  .trivial
def Qw(hc:RT c c3)(hd:RT d d3):RT (tAn c d) (cAn c3 d3):=λX h0 ns e ae h S=>
 Po.bind S (hc X h0 ns e ae h S) λb b' h1 ns1 e1 a1 S1 r1=>by
  cases r1;try dsimp only
  split
  .exact hd X h0 ns1 e1 ae h1 S1
  .exact Po.ret S1 rfl
def rt_o(hc:RT c c3)(hd:RT d d3):RT (tO c d) (cO c3 d3):=λX h0 ns e ae h S=>
 Po.bind S (hc X h0 ns e ae h S) λb b' h1 ns1 e1 a1 S1 r1=>by
  cases r1;try dsimp only
  split
  .exact Po.ret S1 rfl
  .exact hd X h0 ns1 e1 ae h1 S1
def P4(hc:RT c c3):RT (tNo c) (cNo c3):=λX h0 ns e ae h S=>
 Po.bind S (hc X h0 ns e ae h S) λb b' h1 ns1 e1 a1 S1 r1=>by cases r1;exact Po.ret S1 rfl
def rt_y:RT tY cY:=λX h0 ns e ae h S=>Po.ret S rfl
def HF{P:Nat->Prop}{h:AH}{d:D}{v:Val}{b:Bool}(r:ShR P h d v)(q:lM v=some b):sI d h=.ok b h:=by
 have emp:∀{ds:List D}{vs:List Val},Rds P h ds vs->ds.isEmpty=vs.isEmpty:=λr=>by cases r <;> rfl
 cases v with
 |non=>cases q;rw[r.non];rfl
 |bl b=>cases q;rw[r.bl];rfl
 |int i=>cases q;rw[r.int];rfl
 |tup xs=>cases q;obtain⟨ds,rfl,r2⟩:=r.tup;show R.ok (!ds.isEmpty) h=_;rw[emp r2]
 |lst xs=>cases q;obtain⟨n,ds,rfl,_,e1,r1⟩:=r.lst;rw[<- emp r1];unfold sI dE;dsimp only;rw[e1]
 |
  kl xs=>
  cases q;obtain⟨ds,r2,rfl |⟨n,rfl,e1⟩⟩:=r.kl
  .show R.ok (!ds.isEmpty) h=_;rw[emp r2]
  .rw[<- emp r2];unfold sI dE;dsimp only;rw[e1]
 |_=>cases q
def N8(hF:RE F F3):RT (tTr F) (cTr F3):=λX h0 ns e ae h S=>
 Po.bind S (hF X h0 0 ns e ae h S (QH _)) λd1 t1 h1 ns1 e1 a1 S1 r1=>by
  try dsimp only
  split
  .rename_i b q;obtain⟨v,q1,q2⟩:=QK.mp q;rw[HF (r1.sh S1 q1) q2];exact Po.ret S1 rfl
  .trivial
end
inductive Rt where
 |val (v:Val) |new (v:Val) |par (i:Nat)
inductive SR3 where
 |nx (e:E3) |rt (r:Rt) (e:E3) |bk (e:E3) |ct (e:E3) |exc (c:Str) (e:E3) |stuck
abbrev MS3:=E3->SR3
def RtR(X:Nat->Prop)(h0:Nat)(ns:Ns)(e:E3)(ae:AE)(h:AH)(d:D):Rt->Prop
 |.val v=>Sat X h0 ns e ae h/\Rd (Oc X ns) h d v
 |.new v=>∃n o,d=.ref n/\h0<=n/\¬ X n/\h[n]?=some o/\bP o/\Sat (Xn X n) h0 ns e ae h/\Rc (Oc (Xn X n) ns) h o v
 |.par i=>Sat X h0 ns e ae h/\ae[i]?=some (some d)/\∃v,e[i]?=some (.mu v)
def PoS(X:Nat->Prop)(h0:Nat)(ns:Ns)(e:E3)(h:AH)(r2:SR):SR3->Prop
 |.stuck=>True
 |.nx e'=>∃b_ h' ns',r2=.nx b_ h'/\Stp ns e h ns' e' h'/\Sat X h0 ns' e' b_ h'
 |.bk e'=>∃b_ h' ns',r2=.bk b_ h'/\Stp ns e h ns' e' h'/\Sat X h0 ns' e' b_ h'
 |.ct e'=>∃b_ h' ns',r2=.ct b_ h'/\Stp ns e h ns' e' h'/\Sat X h0 ns' e' b_ h'
 |.exc c e'=>∃b_ h' ns',r2=.exc c b_ h'/\Stp ns e h ns' e' h'/\Sat X h0 ns' e' b_ h'
 |.rt r e'=>∃d b_ h' ns',r2=.rt d h'/\Stp ns e h ns' e' h'/\RtR X h0 ns' e' b_ h' d r
def RS(F:MS)(G:MS3):Prop:=∀X h0 ns e ae h,Sat X h0 ns e ae h->PoS X h0 ns e h (F ae h) (G e)
noncomputable def R3.toS{α:Type}(r:R3 α)(f:α->E3->SR3):SR3:=match r with
 |.ok a e=>f a e
 |.exc c e=>.exc c e
 |.stuck=>.stuck
def SR3.then(r:SR3)(f:E3->SR3):SR3:=match r with
 |.nx e=>f e
 |r=>r
section
variable{X:Nat->Prop}{h0:Nat}{ns ns1 ns':Ns}{e e1 e':E3}{ae:AE}{h h1 h':AH}
def PoS.after(S:Sat X h0 ns e ae h)(a:Stp ns e h ns1 e1 h1)(p:PoS X h0 ns1 e1 h1 r2 r3):PoS X h0 ns e h r2 r3:=by
 cases r3 with
 |stuck=>trivial
 |nx e'=>obtain⟨b_,h',ns',q,q1,q2⟩:=p;exact⟨b_,h',ns',q,a.trans S q1,q2⟩
 |bk e'=>obtain⟨b_,h',ns',q,q1,q2⟩:=p;exact⟨b_,h',ns',q,a.trans S q1,q2⟩
 |ct e'=>obtain⟨b_,h',ns',q,q1,q2⟩:=p;exact⟨b_,h',ns',q,a.trans S q1,q2⟩
 |exc c e'=>obtain⟨b_,h',ns',q,q1,q2⟩:=p;exact⟨b_,h',ns',q,a.trans S q1,q2⟩
 |rt r e'=>obtain⟨d,b_,h',ns',q,q1,q2⟩:=p;exact⟨d,b_,h',ns',q,a.trans S q1,q2⟩
def PoS.toS(p:Po X h0 ns e ae h rel r2 r3)
 (k:∀d t h' ns' e',Stp ns e h ns' e' h'->Sat X h0 ns' e' ae h'->rel ns' e' h' d t->PoS X h0 ns e h (f2 d h') (f3 t e')):PoS X h0 ns e h (r2.toS ae f2) (r3.toS f3):=by
 cases r3 with
 |stuck=>trivial
 |exc c e'=>obtain⟨h',ns',rfl,q1,q2⟩:=p;exact⟨ae,h',ns',rfl,q1,q2⟩
 |ok t e'=>obtain⟨d,h',ns',rfl,q1,q2,q3⟩:=p;exact k d t h' ns' e' q1 q2 q3
def PoS.nx(a:Stp ns e h ns' e' h')(S:Sat X h0 ns' e' b_ h'):PoS X h0 ns e h (.nx b_ h') (.nx e'):=⟨b_,h',ns',rfl,a,S⟩
end
def wNx:MS3:=λe=>.nx e
def wBk:MS3:=λe=>.bk e
def E8:MS3:=λe=>.rt (.val .non) e
def wSeq(F G:MS3):MS3:=λe=>(F e).then G
noncomputable def Fy(F:ME3):MS3:=λe=>(F e).toS λ_ e1=>.nx e1
noncomputable def wIf(c:MT3)(F G:MS3):MS3:=λe=>(c e).toS λb e1=>if b=true then F e1 else G e1
noncomputable def o6(t:Tm)(e:E3):SR3:=match t with
 |.val v=>.rt (.val v) e
 |.new v=>.rt (.new v) e
 |.bor i=>match e[i]? with
  |some (.sh v)=>.rt (.val v) e
  |some (.ow v)=>.rt (.new v) (e.set i .no)
  |some (.mu _)=>.rt (.par i) e
  |_=>.stuck
def wRet(F:ME3):MS3:=λe=>(F e).toS o6
noncomputable def iM(o:Bool)(i:Nat)(t:Tm)(e:E3):SR3:=match e[i]? with
 |some s0=>if s0.pl=true then (match t with
  |.val v=>.nx (e.set i (.sh v))
  |.new v=>.nx (e.set i (if o=true then .ow v else .sh v))
  |.bor j=>match cE e (.bor j) with
   |some (e2,v)=>.nx (e2.set i (.sh v))
   |none=>.stuck) else .stuck
 |none=>.stuck
noncomputable def wAsg(o:Bool)(i:Nat)(F:ME3):MS3:=λe=>(F e).toS (iM o i)
abbrev MG3:=Val->E3->Option E3
abbrev jy:=List Val->E3->Option E3
noncomputable def pN(i:Nat):MG3:=λv e=>match e[i]? with
 |some s=>if s.pl=true then some (e.set i (.sh v)) else none
 |none=>none
def psN:jy:=λvs e=>match vs with
 | []=>some e
 |_=>none
noncomputable def psC(g:MG3)(u:jy):jy:=λvs e=>match vs with
 |v::r=>(g v e).bind λe1=>u r e1
 | []=>none
noncomputable def pT(n:Nat)(u:jy):MG3:=λv e=>match v with
 |.tup vs=>if vs.length=n then u vs e else none
 |_=>none
noncomputable def FA(F:ME3)(g:MG3):MS3:=λe=>(F e).toS λt e1=>match cE e1 t with
 |some (e2,v)=>match g v e2 with
  |some e3=>.nx e3
  |none=>.stuck
 |none=>.stuck
noncomputable def wPar(i j:Nat)(A:MA3):MS3:=λe=>(A e).toS λts e1=>match dem e1 ts with
 |some (e2,[v,u])=>match (pN i v e2).bind (pN j u) with
  |some e3=>.nx e3
  |none=>.stuck
 |_=>.stuck
noncomputable def Ey(i:Nat)(g:Val->Val->Bv)(F:ME3):MS3:=λe=>match e[i]? with
 |some (.sh x)=>(F e).toS λt e1=>match rs e1 t with
  |some y=>match g x y with
   |.val z=>match pN i z e1 with
    |some e2=>.nx e2
    |none=>.stuck
   |_=>.stuck
  |none=>.stuck
 |_=>.stuck
noncomputable def Bf(c:Str)(A:MA3):MS3:=λe=>(A e).toS λts e1=>if ts.length<=16777216 then .exc c e1 else .stuck
def RG(g2:MG)(g3:MG3):Prop:=∀X h0 ns e ae h d v e',Sat X h0 ns e ae h->Rd (Oc X ns) h d v->g3 v e=some e'->∃b_ ns',g2 d ae h=.ok b_ h/\Sat X h0 ns' e' b_ h/\Stp ns e h ns' e' h
def RGs(g2:MGs)(g3:jy):Prop:=∀X h0 ns e ae h ds vs e',Sat X h0 ns e ae h->Rds (Oc X ns) h ds vs->g3 vs e=some e'->∃b_ ns',g2 ds ae h=.ok b_ h/\Sat X h0 ns' e' b_ h/\Stp ns e h ns' e' h
section
variable{F:ME}{F3:ME3}{A:MA}{A3:MA3}{c d:MT}{c3:MT3}{U V:MS}{U3 V3:MS3}{g:MG}{g3:MG3}{gs:MGs}{gs3:jy}
def Oz:RS sNx wNx:=λX h0 ns e ae h S=>.nx .refl S
def Pb:RS sBk wBk:=λX h0 ns e ae h S=>⟨ae,h,ns,rfl,.refl,S⟩
def FN:RS xD E8:=λX h0 ns e ae h S=>⟨.non,ae,h,ns,rfl,.refl,S,.non⟩
def Ng(hU:RS U U3)(hV:RS V V3):RS (CI U V) (wSeq U3 V3):=λX h0 ns e ae h S=>by
 have p:=hU X h0 ns e ae h S;show PoS X h0 ns e h ((U ae h).then V) ((U3 e).then V3);generalize U3 e=r at *;cases r with
 |stuck=>trivial
 |nx e'=>obtain⟨b_,h',ns',q,q1,q2⟩:=p;rw[q];exact PoS.after S q1 (hV X h0 ns' e' b_ h' q2)
 |bk e'=>obtain⟨b_,h',ns',q,q1,q2⟩:=p;rw[q];exact⟨b_,h',ns',rfl,q1,q2⟩
 |ct e'=>obtain⟨b_,h',ns',q,q1,q2⟩:=p;rw[q];exact⟨b_,h',ns',rfl,q1,q2⟩
 |exc c e'=>obtain⟨b_,h',ns',q,q1,q2⟩:=p;rw[q];exact⟨b_,h',ns',rfl,q1,q2⟩
 |rt r e'=>obtain⟨d,b_,h',ns',q,q1,q2⟩:=p;rw[q];exact⟨d,b_,h',ns',rfl,q1,q2⟩
def Gu(hF:RE F F3):RS (xr F) (Fy F3):=λX h0 ns e ae h S=>PoS.toS (hF X h0 0 ns e ae h S (QH _)) λd t h1 ns1 e1 a1 S1 r1=>.nx a1 S1
def NY(hc:RT c c3)(hU:RS U U3)(hV:RS V V3):RS (sIf c U V) (wIf c3 U3 V3):=λX h0 ns e ae h S=>PoS.toS (hc X h0 ns e ae h S) λb b' h1 ns1 e1 a1 S1 r1=>by
 cases r1;try dsimp only
 split
 .exact PoS.after S a1 (hU X h0 ns1 e1 ae h1 S1)
 .exact PoS.after S a1 (hV X h0 ns1 e1 ae h1 S1)
def Mh(hF:RE F F3):RS (El F) (wRet F3):=λX h0 ns e ae h S=>PoS.toS (hF X h0 h0 ns e ae h S S.lh) λd t h1 ns1 e1 a1 S1 r1=>by
 cases t with
 |val v=>exact⟨d,ae,h1,ns1,rfl,a1,S1,r1⟩
 |new v=>obtain⟨n,o,q⟩:=r1;exact⟨d,ae,h1,ns1,rfl,a1,n,o,q⟩
 |
  bor i=>
  unfold o6;dsimp only;have r':ae[i]?=some (some d):=r1;split
  .rename_i v q;obtain⟨_,x,e1',e2⟩:=S1.sl i _ q;rw[r'] at e1';cases e1';exact⟨d,ae,h1,ns1,rfl,a1,S1,e2⟩
  .rename_i v q;obtain⟨n,o,q1,q2,q3,q4,q5,q6⟩:=S1.sl i _ q;rw[r'] at q2;cases q2;have hi:=(s_.mp q).1;have hn:i<ns1.length:=by rw[S1.l2];exact hi
   have mv:Mov (Oc X ns1) (Oc (Xn X n) (ns1.set i none)) h1 h1:=λm o' p q'=>⟨⟨λz=>by
    rcases z with z |rfl
    .exact p.1 z
    .exact p.2 (aX.mpr ⟨i,q1⟩),(fR p).2⟩,q'⟩
   have S2:=S1.putN' hi (s:=.no) rfl;refine⟨.ref n,ae,h1,ns1.set i none,rfl,a1.put (x:=none) hi (λ_ z=>by cases z) q rfl rfl S1.l2,n,o,rfl,q3,S1.nx i n q1,q4,q5,⟨S2.l1,S2.l2,S2.lh,λm z=>?_,S2.inj,λj m qj z=>?_,λj s qj=>?_⟩,q6.mono mv⟩
   .rcases z with z |rfl
    .exact S2.xl m z
    .exact c8 q4
   .rcases z with z |rfl
    .exact S2.nx j m qj z
    .rcases bA hn qj with ⟨_,y⟩ |⟨y,z⟩
     .cases y
     .exact y (S1.inj j i _ z q1)
   .rcases bA hi qj with ⟨rfl,rfl⟩ |⟨z,qj'⟩
    .rw[bU hn];rfl
    .rw[bM z];exact (S1.sl j s qj').mono mv λ_ _ _ q=>q
  .rename_i v q;exact⟨d,ae,h1,ns1,rfl,a1,S1,r',v,q⟩
  .trivial
def MF(o:Bool)(i:Nat)(hF:RE F F3):RS (iC F (gN i)) (wAsg o i F3):=λX h0 ns e ae h S=>PoS.toS (hF X h0 h.length ns e ae h S (p_ _)) λd t h1 ns1 e1 a1 S1 r1=>by
 show PoS X h0 ns e h (.nx (ae.set i (some d)) h1) (iM o i t e1);unfold iM;split
 .rename_i s0 q0;split
  .rename_i p0;have hi:=(s_.mp q0).1;cases t with
   |val v=>exact .nx (a1.put (x:=none) (s:=.sh v) hi (λ_ z=>by cases z) q0 p0 rfl S1.l2) (S1.putN hi ⟨rfl,d,rfl,Rd.mono (λm o p q=>⟨fR p,q⟩) r1⟩)
   |
    new v=>
    try dsimp only
    split
    .obtain⟨n,ob,rfl,q1,q2,q3,q4,q5,q6⟩:=r1;exact .nx (a1.put (x:=some n) (s:=.ow v) hi (λm z=>by cases z;exact q1) q0 p0 rfl S1.l2) (Sat.putO q5 q2 hi (F_ S.lh q1) q3 q4 q6)
    .exact .nx (a1.put (x:=none) (s:=.sh v) hi (λ_ z=>by cases z) q0 p0 rfl S1.l2) (S1.putN hi ⟨rfl,d,rfl,Rd.mono (λm o p q=>⟨fR p,q⟩) r1.new⟩)
   |
    bor j=>
    try dsimp only
    split
    .rename_i e2 v q2;obtain⟨im,S2,a2,r2⟩:=fN S1 r1 q2;have hq:∃s2,e2[i]?=some s2/\s2.pl=true:=by
      unfold cE at q2;dsimp only at q2;split at q2
      .cases q2;exact⟨s0,q0,p0⟩
      .rename_i u q3;cases q2;by_cases z:i=j
       .subst z;exact⟨_,bU hi,rfl⟩
       .exact⟨s0,by rw[bM z];exact q0,p0⟩
      .cases q2
     obtain⟨s2,hq1,hq2⟩:=hq;have hi2:=(s_.mp hq1).1;exact .nx ((a1.trans S a2).put (x:=none) (s:=.sh v) hi2 (λ_ z=>by cases z) hq1 hq2 rfl S2.l2) (S2.putN hi2 ⟨rfl,d,rfl,Rd.mono (λm o p q=>⟨fR p,q⟩) r2⟩)
    .trivial
  .trivial
 .trivial
def yH(i:Nat):RG (gN i) (pN i):=λX h0 ns e ae h d v e' S r q=>by
 unfold pN at q;split at q
 .rename_i s q0;split at q
  .rename_i p0;cases q;have hi:=(s_.mp q0).1;exact⟨_,ns.set i none,rfl,S.putN hi ⟨rfl,d,rfl,Rd.mono (λm o p q=>⟨fR p,q⟩) r⟩,Stp.refl.put (x:=none) (s:=.sh v) hi (λ_ z=>by cases z) q0 p0 rfl S.l2⟩
  .cases q
 .cases q
def NH:RGs gsN psN:=λX h0 ns e ae h ds vs e' S r q=>by
 cases r with
 |nil=>cases q;exact⟨ae,ns,rfl,S,.refl⟩
 |cons _ _=>cases q
def OP(hg:RG g g3)(hs:RGs gs gs3):RGs (gsC g gs) (psC g3 gs3):=λX h0 ns e ae h ds vs e' S r q=>by
 cases r with
 |nil=>cases q
 |cons r rr=>obtain⟨e1,q1,q2⟩:=QK.mp q;obtain⟨ii,ns1,p1,S1,a1⟩:=hg _ _ _ _ _ _ _ _ _ S r q1;obtain⟨ae2,im,p2,S2,a2⟩:=hs _ _ _ _ _ _ _ _ _ S1 (rr.mono (a1.mov S)) q2;refine⟨ae2,im,?_,S2,a1.trans S a2⟩;unfold gsC;dsimp only;rw[p1];exact p2
def rg_t(n:Nat)(hs:RGs gs gs3):RG (gT λds ae h=>if ds.length=n then gs ds ae h else .stuck) (pT n gs3):=λX h0 ns e ae h d v e' S r q=>by
 unfold pT at q;split at q
 .split at q
  .rename_i hn;obtain⟨ds,rfl,r2⟩:=ShR.tup (.inl r);obtain⟨ii,ns1,p1,S1,a1⟩:=hs _ _ _ _ _ _ _ _ _ S r2 q;refine⟨ii,ns1,?_,S1,a1⟩;unfold gT;dsimp only;rw[if_pos (by rw[r2.len];exact hn)];exact p1
  .cases q
 .cases q
def Ky(hg:RG g g3):RG (λd ae h=>noX (g d ae h)) g3:=λX h0 ns e ae h d v e' S r q=>by obtain⟨ii,ns1,p1,S1,a1⟩:=hg _ _ _ _ _ _ _ _ _ S r q;exact⟨ii,ns1,by dsimp only;rw[p1];rfl,S1,a1⟩
def Hj(hF:RE F F3)(hg:RG g g3):RS (iC F g) (FA F3 g3):=λX h0 ns e ae h S=>PoS.toS (hF X h0 0 ns e ae h S (QH _)) λd t h1 ns1 e1 a1 S1 r1=>by
 try dsimp only
 split
 .rename_i e2 v q;obtain⟨im,S2,a2,r2⟩:=fN S1 r1 q;split
  .rename_i e3 q3;obtain⟨ae3,ns3,p3,S3,a3⟩:=hg _ _ _ _ _ _ _ _ _ S2 r2 q3;rw[p3];exact .nx ((a1.trans S a2).trans S a3) S3
  .trivial
 .trivial
def Kk(i j:Nat)(hA:RA A A3):RS (CW i j A) (wPar i j A3):=λX h0 ns e ae h S=>PoS.toS (hA X h0 ns e ae h S) λds ts h1 ns1 e1 a1 S1 r1=>by
 try dsimp only
 cases q:dem e1 ts with
 |none=>trivial
 |
  some w=>
  obtain⟨e2,vs⟩:=w;obtain⟨im,S2,a2,r2⟩:=iQ S1 r1 q
  match vs,ds,r2 with
  | [],_,_=>trivial
  | [_],_,_=>trivial
  |_::_::_::_,_,_=>trivial
  |
   [v,u],[d,d'],r2=>
   dsimp only;split
   .rename_i e3 q3;obtain⟨e4,q4,q5⟩:=QK.mp q3;cases r2 with
    |
     cons r rr=>
     cases rr with
     |
      cons r' rr=>
      obtain⟨ae3,ns3,p3,S3,a3⟩:=yH i _ _ _ _ _ _ _ _ _ S2 r q4;obtain⟨ae4,ns4,p4,S4,a4⟩:=yH j _ _ _ _ _ _ _ _ _ S3 (r'.mono (a3.mov S2)) q5;have z3:ae3=ae.set i (some d):=by have:=p3;unfold gN at this;cases this;rfl
      have z4:ae4=ae3.set j (some d'):=by have:=p4;unfold gN at this;cases this;rfl
      subst z4 z3;exact .nx (((a1.trans S a2).trans S a3).trans S a4) S4
   .trivial
def Ms(i:Nat)(hg:RO gg gg3)(hF:RE F F3):RS (so i gg F) (Ey i gg3 F3):=λX h0 ns e ae h S=>by
 unfold Ey;split
 .rename_i x q0;obtain⟨_,dx,e1,r0⟩:=S.sl i _ q0;unfold so;rw[e1];refine PoS.toS (hF X h0 0 ns e ae h S (QH _)) λd t h1 ns1 e1 a1 S1 r1=>?_;try dsimp only
  split
  .rename_i y q1;have b:=hg _ _ _ _ _ _ (.inl (r0.mono (a1.mov S))) (r1.sh S1 q1);split
   .rename_i z q2;rw[q2] at b;obtain⟨dz,p1,r2⟩:=b;split
    .rename_i e2 q3;rw[p1];obtain⟨ae3,ns3,p3,S3,a3⟩:=yH i _ _ _ _ _ _ _ _ _ S1 r2 q3;have z3:ae3=ae.set i (some dz):=by have:=p3;unfold gN at this;cases this;rfl
     subst z3;exact .nx (a1.trans S a3) S3
    .trivial
   .trivial
  .trivial
 .trivial
def TsR.len(r:TsR X ns ae h ds ts):ds.length=ts.length:=by
 induction r with
 |nil=>rfl
 |val _ _ ih=>rw[C_,C_,ih]
 |bor _ _ ih=>rw[C_,C_,ih]
def DU(x:Str)(hA:RA A A3):RS (tP x A) (Bf x A3):=λX h0 ns e ae h S=>PoS.toS (hA X h0 ns e ae h S) λds ts h1 ns1 e1 a1 S1 r1=>by
 try dsimp only
 by_cases hl:ts.length<=16777216
 .rw[if_pos hl,if_pos (by rw[TsR.len r1];exact hl)];exact⟨ae,h1,ns1,rfl,a1,S1⟩
 .rw[if_neg hl];trivial
end
noncomputable def Sl.re(s:Sl)(u:Val):Sl:=match s with
 |.ow _=>.ow u
 |.mu _=>.mu u
 |s=>s
def Sl.mv:Sl->Option Val
 |.ow v=>some v
 |.mu v=>some v
 |_=>none
section
variable{X:Nat->Prop}{h0:Nat}{ns:Ns}{e:E3}{ae:AE}{h:AH}
def Sat.write(S:Sat X h0 ns e ae h)(q:e[i]?=some s)(hm:s.mv=some u):∃n o,ae[i]?=some (some (.ref n))/\h[n]?=some o/\bP o/\Rc (Oc X ns) h o u/\
 ∀o' u',bP o'->Rc (Oc X ns) h o' u'->Mov (Oc X ns) (Oc X ns) h (h.set n o')/\Sat X h0 ns (e.set i (s.re u')) ae (h.set n o')/\Stp ns e h ns (e.set i (s.re u')) (h.set n o'):=by
 have hi:=(s_.mp q).1;have key:∃n o,ns[i]?=some (some n)/\ae[i]?=some (some (.ref n))/\h[n]?=some o/\bP o/\Rc (Oc X ns) h o u/\s.mt=true/\(∀o' u',bP o'->Rc (Oc X ns) (h.set n o') o' u'->SlR (Oc X ns) h0 (some (some n)) (some (some (.ref n))) (h.set n o') (s.re u')):=by
  have y:=S.sl i s q;cases s with
  |ow v=>cases hm;obtain⟨n,o,q1,q2,q3,q4,q5,q6⟩:=y;exact⟨n,o,q1,q2,q4,q5,q6,rfl,λo' u' hf r=>⟨n,o',rfl,rfl,q3,bU (c8 q4),hf,r⟩⟩
  |mu v=>cases hm;obtain⟨n,o,q1,q2,q4,q5,q6⟩:=y;exact⟨n,o,q1,q2,q4,q5,q6,rfl,λo' u' hf r=>⟨n,o',rfl,rfl,bU (c8 q4),hf,r⟩⟩
  |_=>cases hm
 obtain⟨n,o,k1,k2,k3,k4,k5,k6,k7⟩:=key;refine⟨n,o,k2,k3,k4,k5,λo' u' hf r=>?_⟩;have mv:Mov (Oc X ns) (Oc X ns) h (h.set n o'):=λm ob p q'=>⟨p,by have:m≠n:=λz=>p.2 (aX.mpr ⟨i,by rw[z];exact k1⟩);rw[bM this];exact q'⟩;refine⟨mv,⟨by rw[QG];exact S.l1,by rw[QG];exact S.l2,by rw[QG];exact S.lh,λm z=>by rw[QG];exact S.xl m z,S.inj,S.nx,λj s' qj=>?_⟩,?_⟩
 .rcases bA hi qj with ⟨rfl,rfl⟩ |⟨z,qj'⟩
  .rw[k1,k2];exact k7 o' u' hf (r.mono mv)
  .refine (S.sl j s' qj').mono mv λm ob qm qo=>?_;have:m≠n:=λy=>by subst y;exact z (S.inj j i m qm k1)
   rw[bM this];exact qo
 .refine⟨by rw[QG];exact p_ _,λm ob qm hM=>?_,λ_ _ q=>.inl q,λj s' qj hl=>?_,λj s' qj hl=>?_,λj v qj=>?_,λj v qj=>?_⟩
  .have:m≠n:=λy=>by subst y;exact hM ⟨i,s,k1,q,k6⟩
   rw[bM this];exact qm
  .have z:j≠i:=λz=>by subst z;rw[q] at qj;cases qj;cases s <;> first |cases hl;done |cases k6;done
   rw[bM z];exact⟨qj,rfl⟩
  .rcases bA hi qj with ⟨_,y⟩ |⟨z,qj'⟩
   .subst y;cases s <;> first |cases hl;done |cases k6;done
   .exact⟨qj',rfl⟩
  .rcases bA hi qj with ⟨rfl,y⟩ |⟨z,qj'⟩
   .cases s with
    |mu w=>exact⟨w,q,rfl⟩
    |ow w=>cases y
    |_=>cases k6
   .exact⟨v,qj',rfl⟩
  .by_cases z:j=i
   .subst z;rw[q] at qj;cases qj;exact⟨u',bU hi,rfl⟩
   .exact⟨v,by rw[bM z];exact qj,rfl⟩
end
def yW(w2:D->D->D->AH->R Unit)(w3:Val->Val->Val->Option Val):Prop:=∀P h n o u di vi d v u',¬ P n->h[n]?=some o->bP o->Rc P h o u->ShR P h di vi->Rd P h d v->w3 u vi v=some u'->∃o',w2 (.ref n) di d h=.ok () (h.set n o')/\bP o'/\Rc P h o' u'
noncomputable def wSet(i:Nat)(G:ME3)(F:ME3)(w:Val->Val->Val->Option Val):MS3:=λe=>(F e).toS λt e1=>match (e1[i]?).bind Sl.mv with
 |none=>.stuck
 |some _=>(G e1).toS λt2 e2=>match rs e2 t2 with
  |none=>.stuck
  |some vi=>match cE e2 t.drop with
   |none=>.stuck
   |some (e3,v)=>match e3[i]? with
    |none=>.stuck
    |some s=>match s.mv with
     |none=>.stuck
     |some u=>match w u vi v with
      |some u'=>.nx (e3.set i (s.re u'))
      |none=>.stuck
def RM(m2:D->List D->AH->R D)(m3:Val->List Val->Option (Val×Val)):Prop:=∀P h n o u ds vs u' v,h[n]?=some o->bP o->Rc P h o u->Rds P h ds vs->m3 u vs=some (u',v)->jt h (.ref n)=true/\∃o' d,m2 (.ref n) ds h=.ok d (h.set n o')/\bP o'/\Rc P h o' u'/\Rd P h d v
def dZ:Val->Bool
 |.lst _=>true
 |_=>false
noncomputable def mC(i:Nat)(m:Val->List Val->Option (Val×Val))(A:MA3):ME3:=λe=>match e[i]? with
 |some s=>if (s.mv.map dZ)=some true then (A e).bind λts e1=>match dem e1 ts with
  |some (e2,vs)=>match e2[i]? with
   |some s2=>match s2.mv with
    |some u=>match m u vs with
     |some (u',v)=>.ok (.val v) (e2.set i (s2.re u'))
     |none=>.stuck
    |none=>.stuck
   |none=>.stuck
  |none=>.stuck else .stuck
 |none=>.stuck
section
variable{F G:ME}{F3 G3:ME3}{A:MA}{A3:MA3}
def Gb{X:Nat->Prop}{h0:Nat}{ns:Ns}{e:E3}{ae:AE}{h:AH}(S:Sat X h0 ns e ae h){i:Nat}{u:Val}(q:(e[i]?).bind Sl.mv=some u):∃n o,ae[i]?=some (some (.ref n))/\h[n]?=some o/\bP o/\Rc (Oc X ns) h o u:=by obtain⟨s,q1,q2⟩:=QK.mp q;obtain⟨n,o,k1,k2,k3,k4,_⟩:=S.write q1 q2;exact⟨n,o,k1,k2,k3,k4⟩
def Lu(i:Nat)(hw:yW w2 w3)(hG:RE G G3)(hF:RE F F3):RS (iC F (gS (bo i) G w2)) (wSet i G3 F3 w3):=λX h0 ns e ae h S=>PoS.toS (hF X h0 0 ns e ae h S (QH _)) λd t h1 ns1 e1 a1 S1 r1=>by
 try dsimp only
 cases qm:(e1[i]?).bind Sl.mv with
 |none=>trivial
 |
  some u0=>
  obtain⟨n0,o0,b1,b2,b3,b4⟩:=Gb S1 qm;have L2e:∀h',(gS (bo i) G w2 d ae h').toS ae (λb_ h2=>SR.nx b_ h2)=(G ae h').toS ae λdi h2=>(w2 (.ref n0) di d h2).toS ae λ_ h3=>.nx ae h3:=λh'=>by
   unfold gS bo;rw[b1];simp only[fK];cases G ae h' with
   |ok di h2=>simp only[fK];show _=(w2 (.ref n0) di d h2).toS ae λ_ h3=>.nx ae h3;cases w2 (.ref n0) di d h2 <;> rfl
   |exc c h2=>rfl
   |stuck=>rfl
  rw[L2e];refine PoS.after S a1 (PoS.toS (hG X h0 0 ns1 e1 ae h1 S1 (QH _)) λdi t2 h2 im e2 a2 S2 r2=>?_);try dsimp only
  cases qi:rs e2 t2 with
  |none=>trivial
  |
   some vi=>
   try dsimp only
   cases qd:cE e2 t.drop with
   |none=>trivial
   |
    some w=>
    obtain⟨e3,v⟩:=w;try dsimp only
    obtain⟨r1',hn⟩:=r1.drop;have r3:=r1'.stp S1 a2 hn;have si:=r2.sh S2 qi;obtain⟨ns3,S3,a3,r4⟩:=fN S2 r3 qd;have si3:ShR (Oc X ns3) h2 di vi:=by
     rcases si with z |⟨n,o,z1,z2,z3⟩
     .exact .inl (z.mono (a3.mov S2))
     .exact .inr ⟨n,o,z1,z2,z3.mono (a3.mov S2)⟩
    cases q3:e3[i]? with
    |none=>trivial
    |
     some s=>
     try dsimp only
     cases q4:s.mv with
     |none=>trivial
     |
      some u=>
      try dsimp only
      cases q5:w3 u vi v with
      |none=>trivial
      |
       some u'=>
       obtain⟨n,o,k1,k2,k3,k4,k5⟩:=S3.write q3 q4;rw[b1] at k1;cases k1;have nP:¬ Oc X ns3 n0:=λp=>by have z1:=((k5 (.lst []) (.lst []) trivial (.lst .nil)).1 _ _ p k2).2;have z2:=((k5 (.lst [.non]) (.lst [.non]) trivial (.lst (.cons .non .nil))).1 _ _ p k2).2;rw[bU (c8 k2)] at z1 z2;rw[<- z2] at z1;cases z1
       obtain⟨o',p1,p2,p3⟩:=hw _ _ _ _ _ _ _ _ _ _ nP k2 k3 k4 si3 r4 q5;obtain⟨mv,S4,a4⟩:=k5 o' u' p2 p3;rw[p1];exact .nx ((a2.trans S1 a3).trans S1 a4) S4
def Aa(i:Nat)(hm:RM m2 m3)(hA:RA A A3):RE (eM m2 (bo i) A) (mC i m3 A3):=λX h0 L ns e ae h S hl=>by
 unfold mC;cases q0:e[i]? with
 |none=>trivial
 |
  some s0=>
  dsimp only;split
  .rename_i hz;obtain⟨u0,z1,z2⟩:=L_.mp hz;obtain⟨n0,o0,b1,b2,b3,b4,_⟩:=S.write q0 z1;have hL:jt h (.ref n0)=true:=by
    cases u0 with
    |lst xs=>obtain⟨ds,_,e1,_⟩:=Rc.seq b2 b4;show (aM h n0).isSome=true;rw[e1];rfl
    |_=>cases z2
   have L2e:eM m2 (bo i) A ae h=(A ae h).bind λds h2=>m2 (.ref n0) ds h2:=by unfold eM bo;rw[b1];simp only[fK,hL,Sa]
   rw[L2e];refine Po.bind S (hA X h0 ns e ae h S) λds ts h1 ns1 e1 a1 S1 r1=>?_;try dsimp only
   cases q1:dem e1 ts with
   |none=>trivial
   |
    some w=>
    obtain⟨e2,vs⟩:=w;try dsimp only
    obtain⟨im,S2,a2,r2⟩:=iQ S1 r1 q1;cases q2:e2[i]? with
    |none=>trivial
    |
     some s2=>
     try dsimp only
     cases q3:s2.mv with
     |none=>trivial
     |
      some u=>
      try dsimp only
      cases q4:m3 u vs with
      |none=>trivial
      |some w=>obtain⟨u',v⟩:=w;obtain⟨n,o,k1,k2,k3,k4,k5⟩:=S2.write q2 q3;rw[b1] at k1;cases k1;obtain⟨_,o',d,p1,p2,p3,p4⟩:=hm _ _ _ _ _ _ _ _ _ k2 k3 k4 r2 q4;obtain⟨mv,S4,a4⟩:=k5 o' u' p2 p3;exact⟨d,_,im,p1,a2.trans S1 a4,S4,p4.mono mv⟩
  .trivial
def Hd(i:Nat)(hm:RM m2 m3):RE (eM0 m2 (bo i)) (mC i m3 oT):=by
 have:=Aa i hm AS
 intro X h0 L ns e ae h S hl;have p:=this X h0 L ns e ae h S hl;have e1:eM m2 (bo i) j9 ae h=eM0 m2 (bo i) ae h:=by unfold eM eM0 j9;rfl
 rw[e1] at p;exact p
end
noncomputable def jq:Sl->Sl
 |.ow v=>.lo v
 |.mu v=>.lm v
 |s=>s
noncomputable def kX:Sl->Sl
 |.lo v=>.ow v
 |.lm v=>.mu v
 |s=>s
noncomputable def lock(e:E3)(k:Nat):E3:=match e[k]? with
 |some s=>e.set k (jq s)
 |none=>e
noncomputable def unlock(e:E3)(k:Nat):E3:=match e[k]? with
 |some s=>e.set k (kX s)
 |none=>e
def lockO(e:E3):Option Nat->E3
 |some k=>lock e k
 |none=>e
def fj(e:E3):Option Nat->E3
 |some k=>unlock e k
 |none=>e
section
variable{X:Nat->Prop}{h0:Nat}{ns ns':Ns}{e e':E3}{ae:AE}{h h':AH}
def SlR.lock(r:SlR P h0 n d h s):SlR P h0 n d h (jq s):=by cases s <;> exact r
def SlR.unlock(r:SlR P h0 n d h s):SlR P h0 n d h (kX s):=by cases s <;> exact r
def Sat.lock(S:Sat X h0 ns e ae h)(k:Nat):Sat X h0 ns (lock e k) ae h:=by
 unfold L3.lock;split
 .rename_i s q;have hi:=(s_.mp q).1;refine⟨by rw[QG];exact S.l1,by rw[QG];exact S.l2,S.lh,S.xl,S.inj,S.nx,λj s' qj=>?_⟩;rcases bA hi qj with ⟨rfl,rfl⟩ |⟨z,qj'⟩
  .exact (S.sl j s q).lock
  .exact S.sl j s' qj'
 .exact S
def Sat.unlock(S:Sat X h0 ns e ae h)(k:Nat):Sat X h0 ns (unlock e k) ae h:=by
 unfold L3.unlock;split
 .rename_i s q;have hi:=(s_.mp q).1;refine⟨by rw[QG];exact S.l1,by rw[QG];exact S.l2,S.lh,S.xl,S.inj,S.nx,λj s' qj=>?_⟩;rcases bA hi qj with ⟨rfl,rfl⟩ |⟨z,qj'⟩
  .exact (S.sl j s q).unlock
  .exact S.sl j s' qj'
 .exact S
def iO(z:j≠k):(lock e k)[j]?=e[j]?:=by
 unfold lock;split
 .rw[bM z]
 .rfl
def gh(z:j≠k):(unlock e k)[j]?=e[j]?:=by
 unfold unlock;split
 .rw[bM z]
 .rfl
def oB(q:e[k]?=some s):(lock e k)[k]?=some (jq s):=by unfold lock;rw[q];exact bU (s_.mp q).1
def iw(q:e[k]?=some s):(unlock e k)[k]?=some (kX s):=by unfold unlock;rw[q];exact bU (s_.mp q).1
def Stp.unlock(q:e[k]?=some s)(hs:s.mt=true)(a:Stp ns (L3.lock e k) h ns' e' h'):Stp ns e h ns' (L3.unlock e' k) h':=by
 have hl:(jq s).lk=true:=by cases s <;> first |rfl |cases hs
 have hu:kX (jq s)=s:=by cases s <;> first |rfl |cases hs
 obtain⟨qk,nk⟩:=a.lk k _ (oB q) hl;refine⟨a.len,λm o qm hM=>a.keep m o qm λ⟨j,s',z1,z2,z3⟩=>hM ?_,a.nw,λj s' qj hj=>?_,λj s' qj hj=>?_,λj v qj=>?_,λj v qj=>?_⟩
 .by_cases z:j=k
  .subst z;exact⟨j,s,z1,q,hs⟩
  .rw[iO z] at z2;exact⟨j,s',z1,z2,z3⟩
 .have z:j≠k:=λz=>by subst z;rw[q] at qj;cases qj;cases s <;> first |cases hs;done |cases hj;done
  rw[gh z];exact a.lk j s' (by rw[iO z];exact qj) hj
 .have z:j≠k:=λz=>by subst z;rw[iw qk,hu] at qj;cases qj;cases s <;> first |cases hs;done |cases hj;done
  rw[gh z] at qj;obtain⟨y1,y2⟩:=a.lk' j s' qj hj;rw[iO z] at y1;exact⟨y1,y2⟩
 .by_cases z:j=k
  .subst z;rw[iw qk,hu] at qj;cases qj;exact⟨v,q,nk⟩
  .rw[gh z] at qj;obtain⟨u,y1,y2⟩:=a.mu j v qj;rw[iO z] at y1;exact⟨u,y1,y2⟩
 .by_cases z:j=k
  .subst z;rw[q] at qj;cases qj;exact⟨v,by rw[iw qk,hu],nk⟩
  .obtain⟨u,y1,y2⟩:=a.mu' j v (by rw[iO z];exact qj);exact⟨u,by rw[gh z];exact y1,y2⟩
end
abbrev MI3:=E3->R3 (List Val×Option Nat)
def Stay(X:Nat->Prop)(ns:Ns)(k:Option Nat)(h h':AH):Prop:=∀(m:Nat) (o:Ob),h[m]?=some o->(Oc X ns m\/∃j:Nat,k=some j/\ns[j]?=some (some m))->h'[m]?=some o
def uj(X:Nat->Prop)(ns:Ns)(e:E3)(h:AH)(it:AIt)(p:List Val×Option Nat):Prop:=
 Rds (Oc X ns) h it.items p.1/\(∀h',Stay X ns p.2 h h'->it.guard h')/\∀k:Nat,p.2=some k->∃s,e[k]?=some s/\s.mt=true
def RI(I:MI)(J:MI3):Prop:=∀X h0 ns e ae h,Sat X h0 ns e ae h->Po X h0 ns e ae h (uj X) (I ae h) (J e)
noncomputable def ij:Val->Option (List Val)
 |.tup xs=>some xs
 |.lst xs=>some xs
 |_=>none
noncomputable def fS(t:Tm)(e:E3):Option (List Val×Option Nat):=match t with
 |.val v=>(ij v).map λxs=>(xs,none)
 |.new v=>(ij v).map λxs=>(xs,none)
 |.bor k=>match e[k]? with
  |some (.sh v)=>(ij v).map λxs=>(xs,none)
  |some (.ow (.lst xs))=>some (xs,some k)
  |some (.mu (.lst xs))=>some (xs,some k)
  |_=>none
noncomputable def Fv(F:ME3):MI3:=λe=>(F e).bind λt e1=>match fS t e1 with
 |some p=>.ok p e1
 |none=>.stuck
noncomputable def Fi(A:MA3):MI3:=λe=>(A e).bind λts e1=>match ts with
 | [t,u]=>(match fS t e1,fS u e1 with
  |some (xs,k),some (ys,none)=>.ok (List.zipWith (λx y=>.tup [x,y]) xs ys,k) e1
  |_,_=>.stuck)
 |_=>.stuck
noncomputable def ka(lo:Int)(k:Nat):List Val:=(List.range k).map λi=>Val.int (lo+(i:Nat))
structure RgB(j:Int):Prop where
 lo:-(2^62)<=j
 hi:j<2^62
def jr:List Val->Option (List Val)
 | [.int j]=>@ite _ (RgB j) (Classical.propDecidable _) (some (ka 0 j.toNat)) none
 |_=>none
def oP:List Val->Option (List Val)
 | [.int i,.int j]=>@ite _ (RgB i/\RgB j) (Classical.propDecidable _) (some (ka i (j-i).toNat)) none
 |_=>none
noncomputable def sF(f:List Val->Option (List Val))(A:MA3):MI3:=λe=>(A e).bind λts e1=>match (rss e1 ts).bind f with
 |some xs=>.ok (xs,none) e1
 |none=>.stuck
section
variable{F:ME}{F3:ME3}{A:MA}{A3:MA3}
def xX(S:Sat X h0 ns e ae h)(r:Rd (Oc X ns) h d v)(q:ij v=some xs):∃it,gC d h=some it/\uj X ns e h it (xs,none):=by
 cases v with
 |tup ys=>cases q;obtain⟨ds,rfl,r2⟩:=ShR.tup (.inl r);exact⟨_,rfl,r2,λ_ _=>trivial,λ_ z=>nomatch z⟩
 |
  lst ys=>
  cases q;cases r with
  |
   cell p eo rc=>
   rename_i n o;obtain⟨ds,_,e1,r1⟩:=Rc.seq eo rc;refine⟨.lst n ds,by unfold gC;dsimp only;rw[e1];rfl,r1,λh' st=>?_,λ_ z=>nomatch z⟩;show aM h' n=some ds
   have:=st n o eo (.inl p)
   unfold aM at e1 ⊢;rw[eo] at e1;rw[this];exact e1
 |_=>cases q
def uF(S:Sat X h0 ns e ae h)(r:relE X h0 L ae ns e h d t)(q:fS t e=some p):∃it,gC d h=some it/\uj X ns e h it p:=by
 cases t with
 |val v=>obtain⟨xs,q1,rfl⟩:=L_.mp q;exact xX S r q1
 |new v=>obtain⟨xs,q1,rfl⟩:=L_.mp q;exact xX S r.new q1
 |
  bor k=>
  have r':ae[k]?=some (some d):=r;have own:∀{s xs},e[k]?=some s->s.mv=some (.lst xs)->∃it,gC d h=some it/\uj X ns e h it (xs,some k):=λ{s xs} q qm=>by
   have hns:∃n,ns[k]?=some (some n)/\ae[k]?=some (some (.ref n)):=by
    have y:=S.sl k s q;cases s with
    |ow v=>obtain⟨n,o,y1,y2,_⟩:=y;exact⟨n,y1,y2⟩
    |mu v=>obtain⟨n,o,y1,y2,_⟩:=y;exact⟨n,y1,y2⟩
    |_=>cases qm
   obtain⟨n,y1,y2⟩:=hns;obtain⟨n',o,k1,k2,k3,k4,_⟩:=S.write q qm;rw[y2] at k1;cases k1;rw[r'] at y2;cases y2;obtain⟨ds,_,e2,r2⟩:=Rc.seq k2 k4;refine⟨.lst n ds,by unfold gC;dsimp only;rw[e2];rfl,r2,λh' st=>?_,λj z=>?_⟩
   .show aM h' n=some ds
    have:=st n o k2 (.inr ⟨k,rfl,y1⟩)
    unfold aM at e2 ⊢;rw[k2] at e2;rw[this];exact e2
   .cases z;exact⟨s,q,by cases s <;> first |rfl |cases qm⟩
  unfold fS at q;dsimp only at q;split at q
  .rename_i v qs;obtain⟨_,x,e2,r2⟩:=S.sl k _ qs;rw[r'] at e2;cases e2;obtain⟨xs,q1,rfl⟩:=L_.mp q;exact xX S r2 q1
  .rename_i xs qs;cases q;exact own qs rfl
  .rename_i xs qs;cases q;exact own qs rfl
  .cases q
noncomputable def Ef(d:D)(h:AH):R AIt:=match d with
 |.tup xs=>.ok (.tup xs) h
 |.ref n=>match aM h n with
  |some xs=>.ok (.lst n xs) h
  |none=>.stuck
 |_=>.stuck
def Ib(q:gC d h=some it):Ef d h=.ok it h:=by
 cases d with
 |tup xs=>cases q;rfl
 |ref n=>obtain⟨xs,y1,rfl⟩:=L_.mp (show (aM h n).map (AIt.lst n)=some it from q);unfold Ef;dsimp only;rw[y1]
 |_=>cases q
def MN(hF:RE F F3):RI (Dx F) (Fv F3):=λX h0 ns e ae h S=>
 Po.bind S (hF X h0 0 ns e ae h S (QH _)) λd t h1 ns1 e1 a1 S1 r1=>by
  show Po X h0 ns1 e1 ae h1 (uj X) (Ef d h1) _;cases q:fS t e1 with
  |none=>trivial
  |some p=>dsimp only;obtain⟨it,q1,q2⟩:=uF S1 r1 q;exact⟨it,h1,ns1,Ib q1,.refl,S1,q2⟩
def FL(r:Rds P h ds vs)(q:Rds P h es us):Rds P h (List.zipWith (λx y=>D.tup [x,y]) ds es) (List.zipWith (λx y=>Val.tup [x,y]) vs us):=
 r.ind (M:=λds vs=>∀{es:List D}{us:List Val},Rds P h es us->Rds P h (List.zipWith (λx y=>D.tup [x,y]) ds es) (List.zipWith (λx y=>Val.tup [x,y]) vs us)) (λ_=>.nil) (λr _ ih _ _ q=>by
  cases q with
  |nil=>exact .nil
  |cons q qq=>exact .cons (.tup (.cons r (.cons q .nil))) (ih qq)) q
def tsr1(r:TsR X ns ae h ds [t]):∃d,ds=[d]/\relE X h0 0 ae ns e h d t:=by
 cases r with
 |val r rr=>cases rr;exact⟨_,rfl,r⟩
 |bor r rr=>cases rr;exact⟨_,rfl,r⟩
def tsr2(r:TsR X ns ae h ds [t,u]):∃d d',ds=[d,d']/\relE X h0 0 ae ns e h d t/\relE X h0 0 ae ns e h d' u:=by
 cases r with
 |val r rr=>obtain⟨d',rfl,r'⟩:=tsr1 (h0:=h0) (e:=e) rr;exact⟨_,_,rfl,r,r'⟩
 |bor r rr=>obtain⟨d',rfl,r'⟩:=tsr1 (h0:=h0) (e:=e) rr;exact⟨_,_,rfl,r,r'⟩
def Np(hA:RA A A3):RI (Dl A) (Fi A3):=λX h0 ns e ae h S=>
 Po.bind
  S (hA X h0 ns e ae h S) λds ts h1 ns1 e1 a1 S1 r1=>by
  match ts,r1 with
  | [],_=>trivial
  | [_],_=>trivial
  |_::_::_::_,_=>trivial
  |
   [t,u],r1=>
   obtain⟨d,d',rfl,r2,r3⟩:=tsr2 (h0:=h0) (e:=e1) r1;dsimp only;cases q:fS t e1 with
   |none=>trivial
   |
    some p=>
    obtain⟨xs,k⟩:=p;cases q':fS u e1 with
    |none=>trivial
    |
     some p'=>
     obtain⟨ys,k'⟩:=p';cases k' with
     |some _=>trivial
     |none=>obtain⟨it,q1,q2,q3,q4⟩:=uF S1 r2 q;obtain⟨it',q1',q2',q3',q4'⟩:=uF S1 r3 q';rw[q1,q1'];exact⟨.zip it it',h1,ns1,rfl,.refl,S1,FL q2 q2',λh' st=>⟨q3 h' st,q3' h' λm o hm hc=>st m o hm (hc.elim .inl λ⟨_,z,_⟩=>nomatch z)⟩,q4⟩
def Hm(lo:Int)(k:Nat):Rds P h (AIt.rng lo k).items (ka lo k):=by
 show Rds P h ((List.range k).map λi=>D.int (lo+(i:Nat))) ((List.range k).map λi=>Val.int (lo+(i:Nat)));generalize List.range k=l;induction l with
 |nil=>exact .nil
 |cons i l ih=>exact .cons (.int _) ih
def eB(r:ShRs P h ds [v]):∃d,ds=[d]/\ShR P h d v:=by cases r with |cons r rr=>cases rr;exact⟨_,rfl,r⟩
def nE(r:ShRs P h ds [v,u]):∃d d',ds=[d,d']/\ShR P h d v/\ShR P h d' u:=by cases r with |cons r rr=>cases rr with |cons r' rr=>cases rr;exact⟨_,_,rfl,r,r'⟩
def Fc(hf:∀P h ds vs xs,ShRs P h ds vs->f3 vs=some xs->∃lo k,f2 ds h=.ok (.rng lo k) h/\xs=ka lo k)(hA:RA A A3):RI (λae h=>(A ae h).bind f2) (sF f3 A3):=λX h0 ns e ae h S=>
 Po.bind S (hA X h0 ns e ae h S) λds ts h1 ns1 e1 a1 S1 r1=>by
  try dsimp only
  split
  .rename_i xs q;obtain⟨vs,q1,q2⟩:=QK.mp q;obtain⟨lo,k,p1,rfl⟩:=hf _ _ _ _ _ (TsR.sh S1 r1 q1) q2;rw[p1];exact Po.ret S1 ⟨Hm _ _,λ_ _=>trivial,λ_ z=>nomatch z⟩
  .trivial
def IZ(hA:RA A A3):RI (C0 A) (sF jr A3):=Fc (f2:=λds h1=>match ds with
 | [.int j]=>if -(2^62)<=j/\j<2^62 then .ok (.rng 0 j.toNat) h1 else .stuck
 |
  _=>.stuck) (λP h ds vs xs r q=>by
  unfold jr at q;split at q
  .split at q
   .rename_i hb;cases q;obtain⟨d,rfl,r2⟩:=eB r;obtain rfl:=r2.int;exact⟨_,_,by dsimp only;rw[if_pos ⟨hb.lo,hb.hi⟩],rfl⟩
   .cases q
  .cases q) hA
def Ly(hA:RA A A3):RI (Dg A) (sF oP A3):=Fc (f2:=λds h1=>match ds with
 | [.int i,.int j]=>if -(2^62)<=i/\i<2^62/\-(2^62)<=j/\j<2^62 then .ok (.rng i (j-i).toNat) h1 else .stuck
 |
  _=>.stuck) (λP h ds vs xs r q=>by
  unfold oP at q;split at q
  .split at q
   .rename_i hb;cases q;obtain⟨d,d',rfl,r2,r3⟩:=nE r;obtain rfl:=r2.int;obtain rfl:=r3.int;exact⟨_,_,by dsimp only;rw[if_pos ⟨hb.1.lo,hb.1.hi,hb.2.lo,hb.2.hi⟩],rfl⟩
   .cases q
  .cases q) hA
end
noncomputable def SR3.loop(r:SR3)(f:E3->SR3):SR3:=match r with
 |.nx e=>f e
 |.ct e=>f e
 |.bk e=>.nx e
 |.rt d e=>.rt d e
 |.exc c e=>.exc c e
 |.stuck=>.stuck
noncomputable def fJ(g:MG3)(B:MS3):List Val->MS3
 | [],e=>.nx e
 |v::vs,e=>match g v e with
  |some e1=>(B e1).loop (fJ g B vs)
  |none=>.stuck
noncomputable def SR3.unl(k:Option Nat)(r:SR3):SR3:=match r with
 |.nx e=>.nx (fj e k)
 |.ct e=>.ct (fj e k)
 |.bk e=>.bk (fj e k)
 |.rt d e=>.rt d (fj e k)
 |.exc c e=>.exc c (fj e k)
 |.stuck=>.stuck
def wFor(I:MI3)(g:MG3)(B:MS3):MS3:=λe=>(I e).toS λp e1=>(fJ g B p.1 (lockO e1 p.2)).unl p.2
section
variable{I:MI}{I3:MI3}{g:MG}{g3:MG3}{B:MS}{B3:MS3}{c:MT}{c3:MT3}
def PoS.loop{X:Nat->Prop}{h0:Nat}{ns:Ns}{e:E3}{ae:AE}{h:AH}{r2:SR}{r3:SR3}{f2:AE->AH->SR}{f3:E3->SR3}(p:PoS X h0 ns e h r2 r3)
 (k:∀b_ h' ns' e',Stp ns e h ns' e' h'->Sat X h0 ns' e' b_ h'->PoS X h0 ns e h (f2 b_ h') (f3 e')):PoS X h0 ns e h (r2.loop f2) (r3.loop f3):=by
 cases r3 with
 |stuck=>trivial
 |nx e'=>obtain⟨b_,h',ns',q,q1,q2⟩:=p;rw[q];exact k b_ h' ns' e' q1 q2
 |ct e'=>obtain⟨b_,h',ns',q,q1,q2⟩:=p;rw[q];exact k b_ h' ns' e' q1 q2
 |bk e'=>obtain⟨b_,h',ns',q,q1,q2⟩:=p;rw[q];exact⟨b_,h',ns',rfl,q1,q2⟩
 |exc c e'=>obtain⟨b_,h',ns',q,q1,q2⟩:=p;rw[q];exact⟨b_,h',ns',rfl,q1,q2⟩
 |rt r e'=>obtain⟨d,b_,h',ns',q,q1,q2⟩:=p;rw[q];exact⟨d,b_,h',ns',rfl,q1,q2⟩
def G0(S:Sat X h0 ns e ae h)(hk:∀j:Nat,k=some j->∃s,e[j]?=some s/\s.mt=true)(a:Stp ns (lockO e k) h ns' e' h'):Stay X ns k h h':=λm o q hm=>by
 refine a.keep m o q λ⟨i,s,z1,z2,z3⟩=>?_;rcases hm with hm |⟨j,rfl,hj⟩
 .exact hm.2 (aX.mpr ⟨i,z1⟩)
 .have:i=j:=S.inj i j m z1 hj;subst this;obtain⟨s',y1,y2⟩:=hk i rfl;have:(lockO e (some i))[i]?=some (jq s'):=oB y1;rw[this] at z2;cases z2;cases s' <;> first |cases y2;done |cases z3;done
def PoS.unl(hk:∀j:Nat,k=some j->∃s,e[j]?=some s/\s.mt=true)(p:PoS X h0 ns (lockO e k) h r2 r3):PoS X h0 ns e h r2 (r3.unl k):=by
 cases k with
 |none=>cases r3 <;> exact p
 |
  some j=>
  obtain⟨s,y1,y2⟩:=hk j rfl;cases r3 with
  |stuck=>trivial
  |nx e'=>obtain⟨b_,h',ns',q,q1,q2⟩:=p;exact⟨b_,h',ns',q,q1.unlock y1 y2,q2.unlock j⟩
  |ct e'=>obtain⟨b_,h',ns',q,q1,q2⟩:=p;exact⟨b_,h',ns',q,q1.unlock y1 y2,q2.unlock j⟩
  |bk e'=>obtain⟨b_,h',ns',q,q1,q2⟩:=p;exact⟨b_,h',ns',q,q1.unlock y1 y2,q2.unlock j⟩
  |exc c e'=>obtain⟨b_,h',ns',q,q1,q2⟩:=p;exact⟨b_,h',ns',q,q1.unlock y1 y2,q2.unlock j⟩
  |
   rt r e'=>
   obtain⟨d,b_,h',ns',q,q1,q2⟩:=p;refine⟨d,b_,h',ns',q,q1.unlock y1 y2,?_⟩;cases r with
   |val v=>exact⟨q2.1.unlock j,q2.2⟩
   |new v=>obtain⟨n,o,z1,z2,z3,z4,z5,z6,z7⟩:=q2;exact⟨n,o,z1,z2,z3,z4,z5,z6.unlock j,z7⟩
   |
    par i=>
    obtain⟨z1,z2,v,z3⟩:=q2;refine⟨z1.unlock j,z2,v,?_⟩;by_cases z:i=j
    .subst z;exact iw z3
    .exact (gh z).trans z3
def Sat.lockO(S:Sat X h0 ns e ae h)(k:Option Nat):Sat X h0 ns (lockO e k) ae h:=by
 cases k with
 |none=>exact S
 |some k=>exact S.lock k
def GY{X:Nat->Prop}{h0:Nat}{ns:Ns}{e:E3}{ae:AE}{h:AH}{G:AH->Prop}(S:Sat X h0 ns e ae h)(hg:RG g g3)(hB:RS B B3)(hG:∀ns' e' h',Stp ns e h ns' e' h'->G h'):
 ∀{ds:List D}{vs:List Val},Rds (Oc X ns) h ds vs->∀{ns1:Ns}{e1:E3}{ii:AE}{h1:AH},Stp ns e h ns1 e1 h1->Sat X h0 ns1 e1 ii h1->PoS X h0 ns e h (jw G g B ds ii h1) (fJ g3 B3 vs e1):=by
 intro ds;induction ds with
 |nil=>intro vs r ns1 e1 ii h1 a1 S1;cases r;unfold jw;rw[if_pos (hG _ _ _ a1)];exact .nx a1 S1
 |
  cons d0 ds ih=>
  intro vs r ns1 e1 ii h1 a1 S1;cases r with
  |
   cons r rr=>
   unfold jw fJ;rw[if_pos (hG _ _ _ a1)];split
   .rename_i e2 q;obtain⟨ae2,im,p2,S2,a2⟩:=hg _ _ _ _ _ _ _ _ _ S1 (r.mono (a1.mov S)) q;rw[p2];have a12:=a1.trans S a2;show PoS X h0 ns e h ((B ae2 h1).loop _) _;refine PoS.loop (ae:=ae) (PoS.after S a12 (hB X h0 im e2 ae2 h1 S2)) λae3 h3 ns3 e3 a3 S3=>ih rr a3 S3
   .trivial
def Nq(hI:RI I I3)(hg:RG g g3)(hB:RS B B3):RS (EB I g B) (wFor I3 g3 B3):=λX h0 ns e ae h S=>PoS.toS (hI X h0 ns e ae h S) λit p h1 ns1 e1 a1 S1 r1=>by obtain⟨r2,gd,hk⟩:=r1;refine PoS.after S a1 (PoS.unl hk ?_);have S2:=S1.lockO p.2;exact GY S2 hg hB (λns' e' h' a=>gd h' (G0 S1 hk a)) r2 .refl S2
noncomputable def whV(c:MT3)(B:MS3):Nat->MS3
 |0,_=>.stuck
 |k+1,e=>(c e).toS λb e1=>if b=true then (B e1).loop (whV c B k) else .nx e1
open Classical in
def wWh(c:MT3)(B:MS3):MS3:=λe=>if q:∃k,whV c B k e ≠ .stuck then whV c B q.choose e else .stuck
theorem lO{c:MT3}{B:MS3}:∀{k:Nat}{e:E3},whV c B k e ≠ .stuck->whV c B (k+1) e=whV c B k e
 |0,_,q=>absurd rfl q
 |
  k+1,e,q=>by
  have e1:whV c B (k+2) e=(c e).toS λb e1=>if b=true then (B e1).loop (whV c B (k+1)) else .nx e1:=rfl
  have e2:whV c B (k+1) e=(c e).toS λb e1=>if b=true then (B e1).loop (whV c B k) else .nx e1:=rfl
  rw[e2] at q;rw[e1,e2];cases r:c e with
  |exc _ _=>rfl
  |stuck=>rfl
  |
   ok b h1=>
   rw[r] at q;cases b with
   |false=>rfl
   |
    true=>
    have q':(B h1).loop (whV c B k) ≠ .stuck:=q;show (B h1).loop (whV c B (k+1))=(B h1).loop (whV c B k);cases s:B h1 with
    |nx a2=>rw[s] at q';exact lO q'
    |ct a2=>rw[s] at q';exact lO q'
    |_=>rfl
def AX{c:MT3}{B:MS3}{k j:Nat}{e:E3}(q:whV c B k e ≠ .stuck)(hj:k<=j):whV c B j e=whV c B k e:=by
 induction hj with
 |refl=>rfl
 |step _ ih=>rw[lO (by rw[ih];exact q),ih]
def mI{c:MT3}{B:MS3}{k:Nat}{e:E3}(q:whV c B k e ≠ .stuck):wWh c B e=whV c B k e:=by
 have hq:∃k,whV c B k e ≠ .stuck:=⟨k,q⟩;unfold wWh;rw[dif_pos hq];rcases Nat.le_total hq.choose k with z |z
 .exact (AX hq.choose_spec z).symm
 .exact AX q z
def CT(c:MT3)(B:MS3)(e:E3):wWh c B e=(c e).toS λb e1=>if b=true then (B e1).loop (wWh c B) else .nx e1:=by
 by_cases q:∃k,whV c B k e ≠ .stuck
 .obtain⟨k,q⟩:=q;rw[mI q];cases k with
  |zero=>exact absurd rfl q
  |
   succ k=>
   have e2:whV c B (k+1) e=(c e).toS λb e1=>if b=true then (B e1).loop (whV c B k) else .nx e1:=rfl
   rw[e2] at q ⊢;cases r:c e with
   |exc _ _=>rfl
   |stuck=>rfl
   |
    ok b h1=>
    rw[r] at q;cases b with
    |false=>rfl
    |
     true=>
     have q':(B h1).loop (whV c B k) ≠ .stuck:=q;show (B h1).loop (whV c B k)=(B h1).loop (wWh c B);cases s:B h1 with
     |nx a2=>rw[s] at q';exact (mI q').symm
     |ct a2=>rw[s] at q';exact (mI q').symm
     |_=>rfl
 .have e0:wWh c B e=.stuck:=by unfold wWh;rw[dif_neg q]
  rw[e0];have hs:∀k,whV c B (k+1) e=.stuck:=λk=>SJ λz=>q ⟨_,z⟩;cases r:c e with
  |stuck=>rfl
  |
   exc c' h'=>
   have:=hs 0
   unfold whV at this;rw[r] at this;cases this
  |
   ok b h1=>
   cases b with
   |
    false=>
    have:=hs 0
    unfold whV at this;rw[r] at this;cases this
   |
    true=>
    have h2:∀k,(B h1).loop (whV c B k)=.stuck:=λk=>by
     have:=hs k
     unfold whV at this;rw[r] at this;exact this
    show SR3.stuck=(B h1).loop (wWh c B);have lim:∀a2,(∀k,whV c B k a2=.stuck)->wWh c B a2=.stuck:=λa2 z=>by unfold wWh;rw[dif_neg (λ⟨k,y⟩=>y (z k))]
    cases s:B h1 with
    |nx a2=>rw[s] at h2;exact (lim a2 h2).symm
    |ct a2=>rw[s] at h2;exact (lim a2 h2).symm
    |stuck=>rfl
    |_=>have:=h2 0;rw[s] at this;cases this
def Ma(p:PoS X h0 ns e h r2 r3)(q:r3 ≠ .stuck):r2 ≠ .stuck:=by
 cases r3 with
 |stuck=>exact absurd rfl q
 |nx e'=>obtain⟨b_,h',ns',z,_⟩:=p;rw[z];intro y;cases y
 |ct e'=>obtain⟨b_,h',ns',z,_⟩:=p;rw[z];intro y;cases y
 |bk e'=>obtain⟨b_,h',ns',z,_⟩:=p;rw[z];intro y;cases y
 |exc c e'=>obtain⟨b_,h',ns',z,_⟩:=p;rw[z];intro y;cases y
 |rt r e'=>obtain⟨d,b_,h',ns',z,_⟩:=p;rw[z];intro y;cases y
theorem zQ(hc:RT c c3)(hB:RS B B3):∀(k:Nat) (X:Nat->Prop) (h0:Nat) (ns:Ns) (e:E3) (ae:AE) (h:AH),Sat X h0 ns e ae h->PoS X h0 ns e h (whN c B k ae h) (whV c3 B3 k e)
 |0,_,_,_,_,_,_,_=>trivial
 |
  k+1,X,h0,ns,e,ae,h,S=>by
  refine PoS.toS (hc X h0 ns e ae h S) λb b' h1 ns1 e1 a1 S1 r1=>?_;cases r1;try dsimp only
  split
  .exact PoS.after S a1 (PoS.loop (ae:=ae) (hB X h0 ns1 e1 ae h1 S1) λae2 h2 im e2 a2 S2=>PoS.after S1 a2 (zQ hc hB k X h0 im e2 ae2 h2 S2))
  .exact .nx a1 S1
def N5(hc:RT c c3)(hB:RS B B3):RS (sWh c B) (wWh c3 B3):=λX h0 ns e ae h S=>by
 by_cases q:∃k,whV c3 B3 k e ≠ .stuck
 .obtain⟨k,q⟩:=q;rw[mI q];have p:=zQ hc hB k X h0 ns e ae h S;rw[Az (Ma p q)];exact p
 .unfold wWh;rw[dif_neg q];trivial
end
noncomputable def fH(o:Option Nat)(s:Sl)(e:E3):E3:=match o,s with
 |some i,.mu v=>(match e[i]? with
  |some t=>e.set i (t.re v)
  |none=>e)
 |_,_=>e
noncomputable def bg:List (Option Nat)->E3->E3->E3
 |o::sub,s::inner,e=>bg sub inner (fH o s e)
 |_,_,e=>e
def wA(hn:∀v,o=some i->s=.mu v->False):(fH o s e)[i]?=e[i]?:=by
 unfold fH;split
 .rename_i i' v;split
  .rename_i t q;by_cases z:i=i'
   .subst z;exact (hn v rfl rfl).elim
   .rw[bM z]
  .rfl
 .rfl
theorem o8:∀{sub:Ud}{e2 e:E3}{i:Nat},(∀(j:Nat) v,sub[j]?=some (some i)->e2[j]?=some (.mu v)->False)->(bg sub e2 e)[i]?=e[i]?
 | [],_,_,_,_=>rfl
 |_::_,[],_,_,_=>rfl
 |
  o::sub,s::e2,e,i,hn=>by
  show (bg sub e2 (fH o s e))[i]?=_;rw[o8 (λj v q1 q2=>hn (j+1) v (by simpa using q1) (by simpa using q2))];exact wA λv z1 z2=>hn 0 v (by rw[z1];rfl) (by rw[z2];rfl)
theorem wc:∀{sub:Ud}{e2 e:E3}{i j:Nat}{v:Val},(∀(j k:Nat) i,sub[j]?=some (some i)->sub[k]?=some (some i)->j=k)->sub[j]?=some (some i)->e2[j]?=some (.mu v)->(bg sub e2 e)[i]?=(e[i]?).map (Sl.re · v)
 | [],_,_,_,j,_,_,q,_=>by simp at q
 |_::_,[],_,_,j,_,_,_,q=>by simp at q
 |
  o::sub,s::e2,e,i,0,v,hj,q1,q2=>by
  have z1:o=some i:=by simpa using q1
  have z2:s=.mu v:=by simpa using q2
  subst z1 z2;show (bg sub e2 (fH (some i) (.mu v) e))[i]?=_;rw[o8 (λk u y1 _=>by have:=hj 0 (k+1) i rfl (by simpa using y1);omega)];unfold fH;dsimp only;split
  .rename_i t q;rw[bU (s_.mp q).1,q];rfl
  .rename_i q;rw[q];rfl
 |
  o::sub,s::e2,e,i,j+1,v,hj,q1,q2=>by
  show (bg sub e2 (fH o s e))[i]?=_;have q1':sub[j]?=some (some i):=by simpa using q1
  rw[wc (λa b c y1 y2=>by have:=hj (a+1) (b+1) c (by simpa using y1) (by simpa using y2);omega) q1' (by simpa using q2)];rw[wA λv z1 _=>by have:=hj 0 (j+1) i (by rw[z1];rfl) q1;omega]
noncomputable def bW(sub:Ud)(ns:Ns):Ns:=sub.map λo=>o.bind λi=>(ns[i]?).bind id
def cB{sub:Ud}{ns:Ns}{j n:Nat}(q:(bW sub ns)[j]?=some (some n)):∃i,sub[j]?=some (some i)/\ns[i]?=some (some n):=by
 unfold bW at q;rw[O_] at q;cases z:sub[j]? with
 |none=>rw[z] at q;cases q
 |
  some o=>
  rw[z] at q;cases o with
  |none=>cases q
  |
   some i=>
   refine⟨i,rfl,?_⟩;have q':(ns[i]?).bind id=some n:=J_ q;cases y:ns[i]? with
   |none=>rw[y] at q';cases q'
   |some w=>rw[y] at q';have:w=some n:=q';rw[this]
def HP{sub:Ud}{ns:Ns}{j i:Nat}{w:Option Nat}(q:sub[j]?=some (some i))(q2:ns[i]?=some w):(bW sub ns)[j]?=some w:=by unfold bW;rw[O_,q];show some ((ns[i]?).bind id)=some w;rw[q2];rfl
structure Lnk(sub:Ud)(e ei:E3):Prop where
 inj:∀(j k:Nat) (i:Nat),sub[j]?=some (some i)->sub[k]?=some (some i)->j=k
 mu:∀(j:Nat) (v:Val),ei[j]?=some (.mu v)->∃(i:Nat) (s:Sl),sub[j]?=some (some i)/\e[i]?=some s/\s.mt=true
 mt:∀(j:Nat) (s:Sl),ei[j]?=some s->s.mt=true->∃v,s=.mu v
def Sat.back(S:Sat X h0 ns e ae h)(K:Lnk sub e ei)(a:Stp (bW sub ns) ei h im e2 h2)
 (hY:∀n,Y n->n<h2.length/\(X n\/h.length<=n)) (hXY:∀n,X n->Y n)
 (hc:∀(j:Nat) v n,e2[j]?=some (.mu v)->im[j]?=some (some n)->∃o,h2[n]?=some o/\bP o/\Rc (Oc Y ns) h2 o v):Sat Y h0 ns (bg sub e2 e) ae h2/\Stp ns e h ns (bg sub e2 e) h2:=by
 have hM:∀n,Mt (bW sub ns) ei n->Mt ns e n:=λn ⟨j,s,z1,z2,z3⟩=>by obtain⟨v,rfl⟩:=K.mt j s z2 z3;obtain⟨i,s',y1,y2,y3⟩:=K.mu j v z2;obtain⟨i',y4,y5⟩:=cB z1;rw[y1] at y4;cases y4;exact⟨i,s',y5,y2,y3⟩
 have mv:Mov (Oc X ns) (Oc Y ns) h h2:=λn o p q=>⟨⟨λz=>by
  rcases (hY n z).2 with z |z
  .exact p.1 z
  .have:=c8 q;omega,p.2⟩,a.keep n o q λz=>by obtain⟨j,s,z1,_⟩:=z;obtain⟨i,_,y⟩:=cB z1;exact p.2 (aX.mpr ⟨i,y⟩)⟩
 have key:∀i:Nat,(∃(j:Nat) (v:Val) (s:Sl),sub[j]?=some (some i)/\e2[j]?=some (.mu v)/\e[i]?=some s/\s.mt=true/\(bg sub e2 e)[i]?=some (s.re v)/\im[j]?=ns[i]?)\/((∀n,ns[i]?=some (some n)->¬ Mt (bW sub ns) ei n)/\(bg sub e2 e)[i]?=e[i]?):=λi=>by
  by_cases hx:∃(j:Nat) (v:Val),sub[j]?=some (some i)/\e2[j]?=some (.mu v)
  .obtain⟨j,v,q1,q2⟩:=hx;obtain⟨u,q3,q4⟩:=a.mu j v q2;obtain⟨i',s,y1,y2,y3⟩:=K.mu j u q3;rw[q1] at y1;cases y1;refine .inl ⟨j,v,s,q1,q2,y2,y3,by rw[wc K.inj q1 q2,y2];rfl,?_⟩;rw[q4];have hl:i<ns.length:=by rw[S.l2];exact (s_.mp y2).1
   rw[w_ hl];exact HP q1 (w_ hl)
  .refine .inr ⟨λn q ⟨j,s,z1,z2,z3⟩=>hx ?_,o8 λj v y1 y2=>hx ⟨j,v,y1,y2⟩⟩;obtain⟨v,rfl⟩:=K.mt j s z2 z3;obtain⟨i',y4,y5⟩:=cB z1;have:i'=i:=S.inj i' i n y5 q;subst this;obtain⟨v',y6,_⟩:=a.mu' j v z2;exact⟨j,v',y4,y6⟩
 have lenB:(bg sub e2 e).length=e.length:=by
  clear key hc a K S hY hXY hM mv;induction sub generalizing e2 e with
  |nil=>rfl
  |
   cons o sub ih=>
   cases e2 with
   |nil=>rfl
   |
    cons s e2=>
    show (bg sub e2 (fH o s e)).length=_;rw[ih];unfold fH;split
    .split
     .rw[QG]
     .rfl
    .rfl
 refine⟨⟨by rw[lenB];exact S.l1,by rw[lenB];exact S.l2,F_ S.lh a.len,λn z=>(hY n z).1,S.inj,λi n q z=>?_,λi s q=>?_⟩,⟨a.len,λm o q hm=>a.keep m o q λz=>hm (hM m z),λ_ _ q=>.inl q,λi s q hl=>?_,λi s q hl=>?_,λi v q=>?_,λi v q=>?_⟩⟩
 .rcases (hY n z).2 with z |z
  .exact S.nx i n q z
  .obtain⟨_,_,_,_,_,_,_,q',_⟩:=S.own q
   have:=c8 q';omega
 .rcases key i with ⟨j,v,s0,k1,k2,k3,k4,k5,k6⟩ |⟨k1,k2⟩
  .rw[k5] at q;cases q;have y:=S.sl i s0 k3;cases s0 with
   |ow u=>obtain⟨n,o,y1,y2,y3,_⟩:=y;obtain⟨o',z1,z2,z3⟩:=hc j v n k2 (by rw[k6];exact y1);exact⟨n,o',y1,y2,y3,z1,z2,z3⟩
   |mu u=>obtain⟨n,o,y1,y2,_⟩:=y;obtain⟨o',z1,z2,z3⟩:=hc j v n k2 (by rw[k6];exact y1);exact⟨n,o',y1,y2,z1,z2,z3⟩
   |_=>cases k4
  .rw[k2] at q;exact (S.sl i s q).mono mv λn o q1 q2=>a.keep n o q2 (k1 n q1)
 .rcases key i with ⟨j,v,s0,k1,k2,k3,k4,k5,k6⟩ |⟨k1,k2⟩
  .rw[k3] at q;cases q;cases s <;> first |cases hl;done |cases k4;done
  .rw[k2];exact⟨q,rfl⟩
 .rcases key i with ⟨j,v,s0,k1,k2,k3,k4,k5,k6⟩ |⟨k1,k2⟩
  .rw[k5] at q;cases q;cases s0 <;> first |cases hl;done |cases k4;done
  .rw[k2] at q;exact⟨q,rfl⟩
 .rcases key i with ⟨j,u,s0,k1,k2,k3,k4,k5,k6⟩ |⟨k1,k2⟩
  .rw[k5] at q;cases s0 with
   |mu w=>exact⟨w,k3,rfl⟩
   |ow w=>cases q
   |_=>cases k4
  .rw[k2] at q;exact⟨v,q,rfl⟩
 .rcases key i with ⟨j,u,s0,k1,k2,k3,k4,k5,k6⟩ |⟨k1,k2⟩
  .rw[k3] at q;cases q;exact⟨u,k5,rfl⟩
  .exact⟨v,by rw[k2];exact q,rfl⟩
noncomputable def inS:Sl->Sl
 |.ow v=>.mu v
 |.lo v=>.lm v
 |s=>s
noncomputable def b0(sub:Ud)(e:E3):E3:=sub.map λo=>match o with
 |none=>.no
 |some i=>match e[i]? with
  |some s=>inS s
  |none=>.no
noncomputable def lcV(g:MG3)(c:MT3)(F:ME3):List Val->List Val->E3->R3 (List Val)
 | [],acc,e=>.ok acc e
 |v::vs,acc,e=>if acc.length<16777216 then (match g v e with
  |none=>.stuck
  |some e1=>(c e1).bind λb e2=>if b=true then (F e2).bind λt e3=>(match cE e3 t with
   |some (e4,y)=>lcV g c F vs (acc++[y]) e4
   |none=>.stuck) else lcV g c F vs acc e2) else .stuck
noncomputable def vLC(I:MI3)(sub:Ud)(g:MG3)(c:MT3)(F:ME3):ME3:=λe=>(I e).bind λp e1=>match lcV g c F p.1 [] (b0 sub (lockO e1 p.2)) with
 |.ok ys e2=>if ys.length<=16777216 then .ok (.new (.lst ys)) (fj (bg sub e2 (lockO e1 p.2)) p.2) else .stuck
 |_=>.stuck
def mQ(sub:Ud):Prop:=∀(j k:Nat) (i:Nat),sub[j]?=some (some i)->sub[k]?=some (some i)->j=k
def BH(h:(sub.filterMap id).Nodup):mQ sub:=by
 induction sub with
 |nil=>intro j k i q;simp at q
 |
  cons o sub ih=>
  have g_:(sub.filterMap id).Nodup:=by
   cases o with
   |none=>simpa using h
   |some i=>rw[RV] at h;simp at h;exact h.2
  have hno:∀(i k:Nat),o=some i->sub[k]?=some (some i)->False:=λi k z q=>by subst z;rw[RV] at h;simp at h;exact h.1 (RN q)
  intro j k i q1 q2;cases j with
  |
   zero=>
   cases k with
   |zero=>rfl
   |succ k=>exact (hno i k (by simpa using q1) (by simpa using q2)).elim
  |
   succ j=>
   cases k with
   |zero=>exact (hno i j (by simpa using q2) (by simpa using q1)).elim
   |succ k=>exact QW (· + 1) (ih g_ j k i (by simpa using q1) (by simpa using q2))
def Xin(X:Nat->Prop)(ns:Ns)(sub:Ud)(n:Nat):Prop:=X n\/(some n∈ns/\some n∉bW sub ns)
def l8(q:some n∈bW sub ns):some n∈ns:=by obtain⟨j,q⟩:=aX.mp q;obtain⟨i,_,q2⟩:=cB q;exact aX.mpr ⟨i,q2⟩
def ju{sub:Ud}{e:E3}{j:Nat}{s:Sl}(q:(b0 sub e)[j]?=some s):(sub[j]?=some none/\s=.no)\/(∃i,sub[j]?=some (some i)/\((e[i]?=none/\s=.no)\/∃t,e[i]?=some t/\s=inS t)):=by
 unfold b0 at q;rw[O_] at q;cases z:sub[j]? with
 |none=>rw[z] at q;cases q
 |
  some o=>
  rw[z] at q;cases o with
  |none=>cases q;exact .inl ⟨rfl,rfl⟩
  |
   some i=>
   refine .inr ⟨i,rfl,?_⟩;have q':=J_ q;dsimp only at q';cases y:e[i]? with
   |none=>rw[y] at q';exact .inl ⟨rfl,q'.symm⟩
   |some t=>rw[y] at q';exact .inr ⟨t,rfl,q'.symm⟩
def Sat.inner(S:Sat X h0 ns e ae h)(hs:mQ sub):Sat (Xin X ns sub) h0 (bW sub ns) (b0 sub e) (jx sub ae) h:=by
 refine⟨by unfold jx b0;rw[m_,m_],by unfold bW b0;rw[m_,m_],S.lh,λn z=>?_,λj k n q1 q2=>?_,λj n q z=>?_,λj s q=>?_⟩
 .rcases z with z |⟨z,_⟩
  .exact S.xl n z
  .obtain⟨i,z⟩:=aX.mp z;obtain⟨_,_,_,_,_,_,_,q',_⟩:=S.own z;exact c8 q'
 .obtain⟨i,y1,y2⟩:=cB q1;obtain⟨i',y3,y4⟩:=cB q2
  have:=S.inj i i' n y2 y4
  subst this;exact hs j k i y1 y3
 .rcases z with z |⟨_,z⟩
  .obtain⟨i,y1,y2⟩:=cB q;exact S.nx i n y2 z
  .exact z (aX.mpr ⟨j,q⟩)
 .have mv:Mov (Oc X ns) (Oc (Xin X ns sub) (bW sub ns)) h h:=λn o p q=>⟨⟨λz=>by
   rcases z with z |⟨z,_⟩
   .exact p.1 z
   .exact p.2 z,λz=>p.2 (l8 z)⟩,q⟩
  have hj:∀{o},sub[j]?=some o->(bW sub ns)[j]?=some (o.bind λi=>(ns[i]?).bind id)/\(jx sub ae)[j]?=some (o.bind λi=>(ae[i]?).bind id):=λ{o} z=>by unfold bW jx;rw[O_,O_,z];exact⟨rfl,rfl⟩
  rcases ju q with ⟨z,rfl⟩ |⟨i,z,⟨y,rfl⟩ |⟨t,y,rfl⟩⟩
  .rw[(hj z).1];rfl
  .rw[(hj z).1];show some ((ns[i]?).bind id)=some none;have:ns[i]?=none:=by rw[RH] at y ⊢;rw[S.l2];exact y
   rw[this];rfl
  .have k:=(S.sl i t y).mono mv λ_ _ _ q=>q;rw[(hj z).1,(hj z).2];show SlR _ h0 (some ((ns[i]?).bind id)) (some ((ae[i]?).bind id)) h (inS t);have w1:∀x,ns[i]?=some x->some ((ns[i]?).bind id)=some x:=λx q=>by rw[q];rfl
   have w2:∀x,ae[i]?=some x->some ((ae[i]?).bind id)=some x:=λx q=>by rw[q];rfl
   cases t with
   |no=>rw[w1 _ k];rfl
   |sh v=>obtain⟨k1,x,k2,k3⟩:=k;rw[w1 _ k1,w2 _ k2];exact⟨rfl,x,rfl,k3⟩
   |ow v=>obtain⟨m,o,k1,k2,_,k3⟩:=k;rw[w1 _ k1,w2 _ k2];exact⟨m,o,rfl,rfl,k3⟩
   |lo v=>obtain⟨m,o,k1,k2,_,k3⟩:=k;rw[w1 _ k1,w2 _ k2];exact⟨m,o,rfl,rfl,k3⟩
   |mu v=>obtain⟨m,o,k1,k2,k3⟩:=k;rw[w1 _ k1,w2 _ k2];exact⟨m,o,rfl,rfl,k3⟩
   |lm v=>obtain⟨m,o,k1,k2,k3⟩:=k;rw[w1 _ k1,w2 _ k2];exact⟨m,o,rfl,rfl,k3⟩
def vD(hs:mQ sub):Lnk sub e (b0 sub e):=by
 refine⟨hs,λj v q=>?_,λj s q hm=>?_⟩
 .rcases ju q with ⟨_,z⟩ |⟨i,z,⟨_,y⟩ |⟨t,y,y2⟩⟩
  .cases z
  .cases y
  .refine⟨i,t,z,y,?_⟩;cases t <;> first |rfl |cases y2
 .rcases ju q with ⟨_,z⟩ |⟨i,z,⟨_,y⟩ |⟨t,y,y2⟩⟩
  .subst z;cases hm
  .subst y;cases hm
  .subst y2;cases t with
   |ow v=>exact⟨v,rfl⟩
   |mu v=>exact⟨v,rfl⟩
   |_=>cases hm
section
variable{I:MI}{I3:MI3}{g:MG}{g3:MG3}{c:MT}{c3:MT3}{F:ME}{F3:ME3}
def Ls(S:Sat X h0 ns e ae h)(hg:RG g g3)(hc:RT c c3)(hF:RE F F3)(hG:∀ns' e' h',Stp ns e h ns' e' h'->G h'):
 ∀
  {ds:List D}{vs:List Val},Rds (Oc X ns) h ds vs->∀{acc:List D}{accv:List Val}{ns1:Ns}{e1:E3}{ii:AE}{h1:AH},Stp ns e h ns1 e1 h1->Sat X h0 ns1 e1 ii h1->Rds (Oc X ns1) h1 acc accv->lcV g3 c3 F3 vs accv e1=.ok ys e2->
  ∃dy h2 im ae2,lcL G g c F ds acc ii h1=.ok dy h2/\Stp ns e h im e2 h2/\Sat X h0 im e2 ae2 h2/\Rds (Oc X im) h2 dy ys:=by
 intro ds;induction ds with
 |nil=>intro vs r acc accv ns1 e1 ii h1 a1 S1 ra q;cases r;unfold lcL;rw[if_pos (hG _ _ _ a1)];cases q;exact⟨acc,h1,ns1,ii,rfl,a1,S1,ra⟩
 |
  cons d0 ds ih=>
  intro vs r acc accv ns1 e1 ii h1 a1 S1 ra q;cases r with
  |
   cons r rr=>
   rename_i v vs;unfold lcV at q;unfold lcL;by_cases hl:accv.length<16777216
   .rw[if_pos hl] at q;rw[if_pos ⟨hG _ _ _ a1,by rw[ra.len];exact hl⟩];cases q1:g3 v e1 with
    |none=>rw[q1] at q;cases q
    |
     some e3=>
     rw[q1] at q;dsimp only at q;obtain⟨ae3,ns3,p3,S3,a3⟩:=hg _ _ _ _ _ _ _ _ _ S1 (r.mono (a1.mov S)) q1;rw[p3,fK];have a13:=a1.trans S a3;have pc:=hc X h0 ns3 e3 ae3 h1 S3;cases q4:c3 e3 with
     |stuck=>rw[q4] at q;cases q
     |exc _ _=>rw[q4] at q;cases q
     |
      ok b e4=>
      rw[q4] at q pc;obtain⟨b',h4,ns4,p4,a4,S4,rfl⟩:=pc;rw[p4,fK];have a14:=a13.trans S a4;have ra4:=(ra.mono (a3.mov S1)).mono (a4.mov S3);have q':(if b'=true then (F3 e4).bind λt e3=>(match cE e3 t with
       |some (e4,y)=>lcV g3 c3 F3 _ (accv++[y]) e4
       |none=>.stuck) else lcV g3 c3 F3 _ accv e4)=.ok ys e2:=q
      by_cases hb:b'=true
      .rw[if_pos hb] at q' ⊢;have pF:=hF X h0 0 ns4 e4 ae3 h4 S4 (QH _);cases q5:F3 e4 with
       |stuck=>rw[q5] at q';cases q'
       |exc _ _=>rw[q5] at q';cases q'
       |
        ok t e5=>
        rw[q5] at q' pF;obtain⟨d5,h5,ns5,p5,a5,S5,r5⟩:=pF;rw[p5,fK];have q'':(match cE e5 t with
         |some (e4,y)=>lcV g3 c3 F3 _ (accv++[y]) e4
         |none=>.stuck)=.ok ys e2:=q'
        cases q6:cE e5 t with
        |none=>rw[q6] at q'';cases q''
        |some w=>obtain⟨e6,y⟩:=w;rw[q6] at q'';obtain⟨ns6,S6,a6,r6⟩:=fN S5 r5 q6;exact ih rr ((a14.trans S a5).trans S a6) S6 (((ra4.mono (a5.mov S4)).mono (a6.mov S5)).append (.cons r6 .nil)) q''
      .rw[if_neg hb] at q' ⊢;exact ih rr a14 S4 ra4 q'
   .rw[if_neg hl] at q;cases q
def Qj(hs:(sub.filterMap id).Nodup)(hI:RI I I3)(hg:RG g g3)(hc:RT c c3)(hF:RE F F3):RE (eLC I sub g c F) (vLC I3 sub g3 c3 F3):=λX h0 L ns e ae h S hl=>
 Po.bind
  S (hI X h0 ns e ae h S) λit p h1 ns1 e1 a1 S1 r1=>by
  try dsimp only
  obtain⟨r2,gd,hk⟩:=r1;have hs':=BH hs;have S2:=S1.lockO p.2;have S3:=S2.inner hs';cases q:lcV g3 c3 F3 p.1 [] (b0 sub (lockO e1 p.2)) with
  |stuck=>trivial
  |exc _ _=>trivial
  |
   ok ys e2=>
   dsimp only;split
   .rename_i hy;have gd':∀ns' e' h',Stp (bW sub ns1) (b0 sub (lockO e1 p.2)) h1 ns' e' h'->it.guard h':=λns' e' h' a=>gd h' λm o qm hm=>a.keep m o qm λ⟨j,s,z1,z2,z3⟩=>by
     obtain⟨i,y1,y2⟩:=cB z1;rcases hm with hm |⟨k,hk1,hk2⟩
     .exact hm.2 (aX.mpr ⟨i,y2⟩)
     .have:i=k:=S1.inj i k m y2 hk2;subst this;obtain⟨s',w1,w2⟩:=hk i hk1;rcases ju z2 with ⟨z,_⟩ |⟨i',z,y⟩
      .rw[y1] at z;cases z
      .rw[y1] at z;cases z;have hl:(lockO e1 p.2)[i]?=some (jq s'):=by rw[hk1];exact oB w1
       rcases y with ⟨y,_⟩ |⟨t,y,rfl⟩
       .rw[hl] at y;cases y
       .rw[hl] at y;cases y;cases s' <;> first |cases w2;done |cases z3;done
    have mvi:Mov (Oc X ns1) (Oc (Xin X ns1 sub) (bW sub ns1)) h1 h1:=λn o p q=>⟨⟨λz=>by
     rcases z with z |⟨z,_⟩
     .exact p.1 z
     .exact p.2 z,λz=>p.2 (l8 z)⟩,q⟩
    obtain⟨dy,h2,im,ae2,p2,a2,S4,r4⟩:=Ls (G:=it.guard) S3 hg hc hF gd' (r2.mono mvi) .refl S3 .nil q;have k3:∀n,Oc (Xin X ns1 sub) im n->Oc X ns1 n:=λn z=>⟨λy=>z.1 (.inl y),λy=>by
     by_cases w:some n∈bW sub ns1
     .obtain⟨j,w⟩:=aX.mp w;obtain⟨s,v,o,b1,b2,_⟩:=S3.own w;rcases b2 with b2 |b2
      .obtain⟨v',rfl⟩:=(vD (e:=lockO e1 p.2) hs').mt j s b1 b2;obtain⟨u,c1,c2⟩:=a2.mu' j v' b1;exact z.2 (aX.mpr ⟨j,by rw[c2];exact w⟩)
      .obtain⟨c1,c2⟩:=a2.lk j s b1 b2;exact z.2 (aX.mpr ⟨j,by rw[c2];exact w⟩)
     .exact z.1 (.inr ⟨y,w⟩)⟩
    have bk:=S2.back (Y:=X) (vD hs') a2 (λn z=>⟨H_ (S2.xl n z) a2.len,.inl z⟩) (λ_ z=>z) λj v n q1 q2=>by obtain⟨s,u,o,b1,b2,b3,b4,b5,b6,b7⟩:=S4.own q2;rw[q1] at b1;cases b1;cases b3;exact⟨o,b5,b6,b7.mono λm o' z y=>⟨k3 m z,y⟩⟩
    obtain⟨S5,a5⟩:=bk;have r5:Rds (Oc X ns1) h2 dy ys:=r4.mono λm o' z y=>⟨k3 m z,y⟩;have i_:∀(e':E3),Sat X h0 ns1 e' ae h2->Stp ns1 e1 h1 ns1 e' h2->Po X h0 ns1 e1 ae h1 (relE X h0 L ae) ((noX (lcL it.guard g c F it.items [] (jx sub ae) h1)).bind dP) (.ok (.new (.lst ys)) e'):=λe' S6 a6=>by rw[p2];have pp:=BvR.po (L:=L) (r:=dP dy h2) (b:=.new (.lst ys)) S6 (F_ hl (F_ a1.len a6.len)) ⟨.lst dy,by unfold dP;rw[if_pos (by rw[r5.len];exact hy)],trivial,.lst r5⟩;obtain⟨d,h',ns',y,y1,y2,y3⟩:=pp;exact⟨d,h',ns',y,a6.trans S1 y1,y2,y3⟩
    cases hp:p.2 with
    |none=>rw[hp] at S5 a5;exact i_ _ S5 a5
    |some k=>rw[hp] at S5 a5;obtain⟨s,w1,w2⟩:=hk k hp;exact i_ _ (S5.unlock k) (a5.unlock w1 w2)
   .trivial
end
inductive R3F where
 |ok (r:Rt) (mv:List Val) |exc (c:Str) (mv:List Val) |stuck
abbrev Fn3:=List Val->R3F
def sl1(b:Bool)(v:Val):Sl:=if b=true then .mu v else .sh v
def sls(ms:List Bool)(vs:List Val):E3:=List.zipWith sl1 ms vs
noncomputable def aG:List Bool->List Val->E3
 |true::ms,v::vs=>.mu v::aG ms vs
 |true::ms,[]=>.no::aG ms []
 |false::ms,vs=>.no::aG ms vs
 | [],_=>[]
noncomputable def muV:List Bool->E3->Option (List Val)
 |true::ms,.mu v::e=>(muV ms e).map (v :: ·)
 |true::_,_=>none
 |false::ms,_::e=>muV ms e
 |false::_,[]=>none
 | [],_=>some []
def RFp(X:Nat->Prop)(ps:Ns)(ms:List Bool)(vs:List Val)(ds:List D)(h:AH)(r2:R D):R3F->Prop
 |.stuck=>True
 |.ok r mv=>∃d h',r2=.ok d h'/\Stp ps (sls ms vs) h ps (aG ms mv) h'/\RtR X h.length ps (aG ms mv) (ds.map some) h' d r
 |.exc c mv=>∃h',r2=.exc c h'/\Stp ps (sls ms vs) h ps (aG ms mv) h'/\Sat X h.length ps (aG ms mv) (ds.map some) h'
def RF(ms:List Bool)(G2:Fn)(G3:Fn3):Prop:=∀X ps ds vs h,vs.length=ms.length->Sat X h.length ps (sls ms vs) (ds.map some) h->RFp X ps ms vs ds h (G2 ds h) (G3 vs)
noncomputable def fnV(ms:List Bool)(N:Nat)(F:MS3):Fn3:=λvs=>if vs.length=ms.length then (match F (sls ms vs++List.replicate (N-vs.length) .no) with
 |.nx e=>(match muV ms e with |some mv=>.ok (.val .non) mv |none=>.stuck)
 |.rt r e=>(match muV ms e with |some mv=>.ok r mv |none=>.stuck)
 |.exc c e=>(match muV ms e with |some mv=>.exc c mv |none=>.stuck)
 |_=>.stuck) else .stuck
def fi{ms:List Bool}{vs:List Val}{i:Nat}{s:Sl}(q:(sls ms vs)[i]?=some s):∃b v,ms[i]?=some b/\vs[i]?=some v/\s=sl1 b v:=by
 unfold sls at q;rw[R6] at q;cases h1:ms[i]? with
 |none=>rw[h1] at q;cases q
 |
  some b=>
  cases h2:vs[i]? with
  |none=>rw[h1,h2] at q;cases q
  |some v=>rw[h1,h2] at q;cases q;exact⟨b,v,rfl,rfl,rfl⟩
theorem gR:∀{ms:List Bool}{e:E3}{mv:List Val}{i:Nat}{s:Sl},muV ms e=some mv->(aG ms mv)[i]?=some s->(ms[i]?=some false/\s=.no)\/(ms[i]?=some true/\∃v,e[i]?=some (.mu v)/\s=.mu v)
 | [],_,_,_,_,_,q=>by unfold aG at q;simp at q
 |
  true::ms,.mu v::e,mv,i,s,q,q2=>by
  obtain⟨mv',z1,z2⟩:=L_.mp (show (muV ms e).map (v :: ·)=some mv from q);subst z2;cases i with
  |zero=>
   right;have:Sl.mu v=s:=by simpa [aG] using q2
   subst this;exact⟨rfl,v,rfl,rfl⟩
  |
   succ i=>
   have:=gR (i:=i) (s:=s) z1 (by simpa [aG] using q2)
   simpa using this
 |true::ms,[],mv,i,s,q,q2=>by cases q
 |true::ms,.no::e,mv,i,s,q,q2=>by cases q
 |true::ms,.sh v::e,mv,i,s,q,q2=>by cases q
 |true::ms,.ow v::e,mv,i,s,q,q2=>by cases q
 |true::ms,.lo v::e,mv,i,s,q,q2=>by cases q
 |true::ms,.lm v::e,mv,i,s,q,q2=>by cases q
 |false::ms,[],mv,i,s,q,q2=>by cases q
 |
  false::ms,t::e,mv,i,s,q,q2=>by
  cases i with
  |zero=>
   left;have:Sl.no=s:=by simpa [aG] using q2
   exact⟨rfl,this.symm⟩
  |
   succ i=>
   have:=gR (i:=i) (s:=s) (show muV ms e=some mv from q) (by simpa [aG] using q2)
   simpa using this
theorem oR:∀{ms:List Bool}{e:E3}{mv:List Val}{i:Nat},muV ms e=some mv->ms[i]?=some true->∃v,e[i]?=some (.mu v)/\(aG ms mv)[i]?=some (.mu v)
 | [],_,_,i,_,q=>by simp at q
 |
  true::ms,.mu v::e,mv,i,q,q2=>by
  obtain⟨mv',z1,z2⟩:=L_.mp (show (muV ms e).map (v :: ·)=some mv from q);subst z2;cases i with
  |zero=>exact⟨v,rfl,rfl⟩
  |succ i=>obtain⟨u,y1,y2⟩:=oR (i:=i) z1 (by simpa using q2);exact⟨u,by simpa using y1,by simpa [aG] using y2⟩
 |true::ms,[],mv,i,q,q2=>by cases q
 |true::ms,.no::e,mv,i,q,q2=>by cases q
 |true::ms,.sh v::e,mv,i,q,q2=>by cases q
 |true::ms,.ow v::e,mv,i,q,q2=>by cases q
 |true::ms,.lo v::e,mv,i,q,q2=>by cases q
 |true::ms,.lm v::e,mv,i,q,q2=>by cases q
 |false::ms,[],mv,i,q,q2=>by cases q
 |
  false::ms,t::e,mv,i,q,q2=>by
  cases i with
  |zero=>simp at q2
  |succ i=>obtain⟨u,y1,y2⟩:=oR (i:=i) (show muV ms e=some mv from q) (by simpa using q2);exact⟨u,by simpa using y1,by simpa [aG] using y2⟩
theorem gM:∀{ms:List Bool}{mv:List Val},(aG ms mv).length=ms.length
 | [],_=>rfl
 |true::ms,v::mv=>by show (aG ms mv).length+1=ms.length+1;rw[gM]
 |true::ms,[]=>by show (aG ms []).length+1=ms.length+1;rw[gM]
 |false::ms,mv=>by show (aG ms mv).length+1=ms.length+1;rw[gM]
def EZ(hF:RS F F3):RF ms (fnD N F) (fnV ms N F3):=λX ps ds vs h hl S=>by
 unfold fnV;rw[if_pos hl];have lS:(sls ms vs).length=vs.length:=by unfold sls;rw[Sb];omega
 have lD:ds.length=vs.length:=by have:=S.l1;rw[m_,lS] at this;exact this
 have lP:ps.length=vs.length:=S.l2.trans lS;have ltS:∀{i:Nat},i<ms.length->i<(sls ms vs).length:=λh=>by omega
 have ltP:∀{i:Nat},i<(sls ms vs).length->i<ps.length:=λh=>S.l2.symm ▸ h;have S1
  : Sat X h.length (ps++List.replicate (N-vs.length) none) (sls ms vs++List.replicate (N-vs.length) .no) (ds.map some++List.replicate (N-vs.length) none) h:=by
  have mns:∀n,some n∈ps++List.replicate (N-vs.length) (none:Option Nat) ↔ some n∈ps:=λn=>by
   rw[RL];constructor
   .rintro (z |z)
    .exact z
    .have:=List.eq_of_mem_replicate z;cases this
   .exact .inl
  have gns:∀{i n:Nat},(ps++List.replicate (N-vs.length) (none:Option Nat))[i]?=some (some n)->ps[i]?=some (some n):=λ{i n} q=>by
   rw[Tg] at q;split at q
   .exact q
   .rw[Rb] at q;split at q <;> cases q
  refine⟨?_,?_,S.lh,S.xl,λi j n q1 q2=>S.inj i j n (gns q1) (gns q2),λi n q=>S.nx i n (gns q),λi s q=>?_⟩
  .rw[D_,D_,Rl,Rl,S.l1]
  .rw[D_,D_,Rl,Rl,S.l2]
  .rw[Tg] at q;split at q
   .rename_i hi;have k:=S.sl i s q;rw[M_ (ltP hi),M_ (by rw[S.l1];exact hi)];exact k.mono (λn o p q=>⟨⟨p.1,λz=>p.2 ((mns n).mp z)⟩,q⟩) λ_ _ _ q=>q
   .rename_i hi;rw[Rb] at q;split at q
    .cases q;rw[QM (by rw[S.l2];exact Nat.le_of_not_lt hi),Rb,if_pos (by rw[S.l2];assumption)];rfl
    .cases q
 have p:=hF _ _ _ _ _ _ S1;have e2:fnD N F ds h=match F (ds.map some++List.replicate (N-vs.length) none) h with
  |.nx _ h'=>.ok .non h'
  |.rt d h'=>.ok d h'
  |.exc c _ h'=>.exc c h'
  |_=>.stuck:=by rw[<- lD];rfl
 rw[e2];have i_:∀(Y:Nat->Prop) (ns':Ns) (e':E3) (b_:AE) (h':AH) (mv:List Val),(∀n,X n->Y n)->Stp (ps++List.replicate (N-vs.length) none) (sls ms vs++List.replicate (N-vs.length) .no) h ns' e' h'->Sat Y h.length ns' e' b_ h'->muV ms e'=some mv->
  Stp ps (sls ms vs) h ps (aG ms mv) h'/\Sat Y h.length ps (aG ms mv) (ds.map some) h'/\∀n,Oc Y ns' n->Oc Y ps n:=by
  intro Y ns' e' b_ h' mv hXY a S2 qm;have kmu:∀{i:Nat},ms[i]?=some true->∃v u n o,e'[i]?=some (.mu v)/\(aG ms mv)[i]?=some (.mu v)/\(sls ms vs)[i]?=some (.mu u)/\ns'[i]?=ps[i]?/\ps[i]?=some (some n)/\(ds.map some)[i]?=some (some (.ref n))/\h'[n]?=some o/\bP o/\Rc (Oc Y ns') h' o v:=by intro i hi;obtain⟨v,y1,y2⟩:=oR qm hi;have hil:i<ms.length:=(s_.mp hi).1;obtain⟨u,y3,y4⟩:=a.mu i v y1;rw[M_ (ltS hil)] at y3;rw[M_ (ltP (ltS hil))] at y4;obtain⟨n,o,z1,z2,_⟩:=S.sl i _ y3;obtain⟨n',o',w1,w2,w3,w4,w5⟩:=S2.sl i _ y1;rw[y4,z1] at w1;cases w1;exact⟨v,u,n,o',y1,y2,y3,y4,z1,z2,w3,w4,w5⟩
  have kown:∀{i n:Nat},ps[i]?=some (some n)->ms[i]?=some true:=λ{i n} q=>by
   obtain⟨s,v,o,z1,z2,_⟩:=S.own q;obtain⟨b,u,y1,_,y2⟩:=fi z1;cases b with
   |true=>exact y1
   |false=>subst y2;rcases z2 with z2 |z2 <;> cases z2
  have koc:∀n,Oc Y ns' n->Oc Y ps n:=λn z=>⟨z.1,λy=>by obtain⟨i,y⟩:=aX.mp y;obtain⟨v,u,n',o,_,_,_,k1,k2,_⟩:=kmu (kown y);exact z.2 (aX.mpr ⟨i,by rw[k1];exact y⟩)⟩;refine⟨⟨a.len,λm o q hm=>a.keep m o q λ⟨i,s,z1,z2,z3⟩=>hm ?_,λ_ _ q=>.inl q,λi s q hl'=>?_,λi s q hl'=>?_,λi v q=>?_,λi v q=>?_⟩,⟨?_,?_,F_ (p_ _) a.len,S2.xl,S.inj,λi n q z=>?_,λi s q=>?_⟩,koc⟩
  .rw[Tg] at z1;split at z1
   .rename_i hi;rw[M_ (by rw[<- S.l2];exact hi)] at z2;exact⟨i,s,z1,z2,z3⟩
   .rw[Rb] at z1;split at z1 <;> cases z1
  .obtain⟨b,u,_,_,y⟩:=fi q;subst y;cases b <;> cases hl'
  .rcases gR qm q with ⟨_,z⟩ |⟨_,v,_,z⟩ <;> subst z <;> cases hl'
  .rcases gR qm q with ⟨_,z⟩ |⟨z,_⟩
   .cases z
   .obtain⟨v',u,n,o,_,_,k1,_⟩:=kmu z;exact⟨u,k1,rfl⟩
  .obtain⟨b,u,y1,_,y2⟩:=fi q;cases b with
   |false=>cases y2
   |true=>obtain⟨v',u,n,o,_,k0,k1,_⟩:=kmu y1;exact⟨v',k0,rfl⟩
  .rw[m_,gM];omega
  .rw[gM];omega
  .obtain⟨v,u,n',o,_,_,_,k1,k2,_⟩:=kmu (kown q);exact S2.nx i n (by rw[k1];exact q) z
  .rcases gR qm q with ⟨z,rfl⟩ |⟨z,v,z2,rfl⟩
   .have hil:i<ms.length:=(s_.mp z).1;have hi:i<(sls ms vs).length:=ltS hil;obtain⟨b,u,y1,_,y2⟩:=fi (w_ hi);rw[z] at y1;cases y1;have k:=S.sl i _ (w_ hi);rw[y2] at k;exact k.1
   .obtain⟨v',u,n,o,k0,_,_,k1,k2,k3,k4,k5,k6⟩:=kmu z;rw[z2] at k0;cases k0;exact⟨n,o,k2,k3,k4,k5,k6.mono λm o' y q=>⟨koc m y,q⟩⟩
 generalize F3 (sls ms vs++List.replicate (N-vs.length) .no)=r3 at *;cases r3 with
 |stuck=>trivial
 |bk _=>trivial
 |ct _=>trivial
 |
  nx e'=>
  obtain⟨b_,h',ns',q,a,S2⟩:=p;rw[q];dsimp only;cases qm:muV ms e' with
  |none=>trivial
  |some mv=>obtain⟨a3,S3,koc⟩:=i_ X ns' e' b_ h' mv (λ_ z=>z) a S2 qm;exact⟨.non,h',rfl,a3,S3,.non⟩
 |
  exc c e'=>
  obtain⟨b_,h',ns',q,a,S2⟩:=p;rw[q];dsimp only;cases qm:muV ms e' with
  |none=>trivial
  |some mv=>obtain⟨a3,S3,koc⟩:=i_ X ns' e' b_ h' mv (λ_ z=>z) a S2 qm;exact⟨h',rfl,a3,S3⟩
 |
  rt r e'=>
  obtain⟨d,b_,h',ns',q,a,rr⟩:=p;rw[q];dsimp only;cases qm:muV ms e' with
  |none=>trivial
  |
   some mv=>
   cases r with
   |val v=>obtain⟨a3,S3,koc⟩:=i_ X ns' e' b_ h' mv (λ_ z=>z) a rr.1 qm;exact⟨d,h',rfl,a3,S3,rr.2.mono λm o y q=>⟨koc m y,q⟩⟩
   |new v=>obtain⟨n,o,z1,z2,z3,z4,z5,z6,z7⟩:=rr;obtain⟨a3,S3,koc⟩:=i_ (Xn X n) ns' e' b_ h' mv (λ_ z=>.inl z) a z6 qm;exact⟨d,h',rfl,a3,n,o,z1,z2,z3,z4,z5,S3,z7.mono λm o y q=>⟨koc m y,q⟩⟩
   |
    par i=>
    obtain⟨R1,R2,v,R3⟩:=rr;obtain⟨a3,S3,koc⟩:=i_ X ns' e' b_ h' mv (λ_ z=>z) a R1 qm;obtain⟨u,k1,k2⟩:=a.mu i v R3;have hi:i<(sls ms vs).length:=by apply Decidable.byContradiction;intro hi;rw[QM (Nat.le_of_not_lt hi),Rb] at k1;split at k1 <;> cases k1
    rw[M_ hi] at k1;rw[M_ (by rw[S.l2];exact hi)] at k2;obtain⟨m,o,w1,w2,_⟩:=S.sl i _ k1;obtain⟨m',o',x1,x2,_⟩:=R1.sl i _ R3;rw[k2,w1] at x1;cases x1;rw[R2] at x2;cases x2;obtain⟨v',y,_⟩:=a3.mu' i u k1;exact⟨_,h',rfl,a3,S3,w2,v',y⟩
noncomputable def iB(i:Nat):List Tm->Bool
 |.bor j::ts=>(i==j) || iB i ts
 |_::ts=>iB i ts
 | []=>false
noncomputable def oa(i:Nat):List Bool->List Tm->Bool
 |true::ms,.bor j::ts=>(i==j) || oa i ms ts
 |_::ms,_::ts=>oa i ms ts
 |_,_=>false
noncomputable def okA(e:E3):List Bool->List Tm->Bool
 |true::ms,.bor i::ts=>((e[i]?).bind Sl.mv).isSome && !(iB i ts)&&okA e ms ts
 |true::_,_::_=>false
 |false::ms,.bor i::ts=>!(oa i ms ts)&&okA e ms ts
 |false::ms,_::ts=>okA e ms ts
 | [],[]=>true
 |_,_=>false
noncomputable def oQ(b:Bool)(t:Tm):Option Nat:=match b,t with
 |true,.bor i=>some i
 |_,_=>none
noncomputable def bY(ms:List Bool)(ts:List Tm):List (Option Nat):=List.zipWith oQ ms ts
noncomputable def aU(e:E3):List Bool->List Tm->List Nat
 |false::ms,.bor i::ts=>(match e[i]? with
  |some (.sh _)=>aU e ms ts
  |_=>i::aU e ms ts)
 |_::ms,_::ts=>aU e ms ts
 |_,_=>[]
mutual
def aZ:Val->Bool
 |.tup xs=>c7 xs
 |.lst _=>false
 |.kl _=>false
 |.dct _=>false
 |.set _=>false
 |_=>true
def c7:List Val->Bool
 | []=>true
 |v::vs=>aZ v&&c7 vs
end
noncomputable def nH:List (Key×Val)->Bool
 | []=>true
 |(_,v)::vs=>aZ v&&nH vs
noncomputable def dg:Val->Bool
 |.lst xs=>c7 xs
 |.dct xs=>nH xs
 |.set _=>true
 |_=>false
noncomputable def kG:Rt->Bool
 |.val v=>aZ v
 |.new v=>dg v
 |.par _=>true
noncomputable def oW(e:E3):List Nat->Option E3
 | []=>some e
 |i::is=>match cE e (.bor i) with
  |some (e1,_)=>oW e1 is
  |none=>none
noncomputable def Rt.tm(ts:List Tm):Rt->Tm
 |.val v=>.val v
 |.new v=>.new v
 |.par i=>(ts[i]?).getD (.val .non)
noncomputable def qI(ms:List Bool)(G:Fn3)(A:MA3):ME3:=λe=>(A e).bind λts e1=>match rss e1 ts with
 |none=>.stuck
 |some vs=>if okA e1 ms ts=true then (match G vs with
  |.stuck=>.stuck
  |.ok r mv=>if (aU e1 ms ts).isEmpty || (kG r&&mv.all dg) then .ok (r.tm ts) (bg (bY ms ts) (aG ms mv) e1) else (match oW e1 (aU e1 ms ts) with
   |some e2=>.ok (r.tm ts) (bg (bY ms ts) (aG ms mv) e2)
   |none=>.stuck)
  |.exc c mv=>if (aU e1 ms ts).isEmpty || mv.all dg then .exc c (bg (bY ms ts) (aG ms mv) e1) else .stuck) else .stuck
section
variable{P P':Nat->Prop}{h h':AH}
def Rd.flat(f:aZ v=true)(r:Rd P h d v):Rd P' h' d v:=
 @Rd.rec P h (λd v _=>aZ v=true->Rd P' h' d v) (λo v _=>aZ v=true->Rd P' h' .non v) (λds vs _=>c7 vs=true->Rds P' h' ds vs) (λws us _=>True) (λ_=>.non) (λb _=>.bl b) (λi _=>.int i) (λx _=>.str x) (λn _=>.ty n) (λx _=>.glb x) (λx _=>.exc x) (λ_ ih f=>.tup (ih f)) (λ_ _ f=>absurd f A_) (λ_ _ r _ f=>by cases r <;> exact absurd f A_) (λ_ _ f=>absurd f A_) (λ_ _ f=>absurd f A_) (λ_ _ f=>absurd f A_) (λ_ f=>absurd f A_) (λ_=>.nil) (λ_ _ a b f=>.cons (a (u_ .. ▸ f).1) (b (u_ .. ▸ f).2)) trivial (λ_ _ _ _=>trivial) d v r f
def Rds.flat(f:c7 v=true)(r:Rds P h d v):Rds P' h' d v:=
 r.ind (M:=λds vs=>c7 vs=true->Rds P' h' ds vs) (λ_=>.nil) (λr _ ih f=>by rw[c7,u_] at f;exact .cons (Rd.flat f.1 r) (ih f.2)) f
def Rk.flat(f:nH v=true)(r:Rk P h d v):Rk P' h' d v:=
 r.ind (M:=λds vs=>nH vs=true->Rk P' h' ds vs) (λ_=>.nil) (λr _ ih f=>by rw[nH,u_] at f;exact .cons (Rd.flat f.1 r) (ih f.2)) f
def Rc.flat(f:dg v=true)(r:Rc P h o v):Rc P' h' o v:=by
 cases r with
 |lst r=>exact .lst (Rds.flat (by simpa [dg] using f) r)
 |fz r=>simp [dg] at f
 |dct r=>exact .dct (Rk.flat (by simpa [dg] using f) r)
 |set xs=>exact .set xs
end
theorem nV:∀{ts:List Tm}{k:Nat},ts[k]?=some (.bor i)->iB i ts=true
 | [],_,q=>by simp at q
 |
  t::ts,0,q=>by
  have:t=.bor i:=by simpa using q
  subst this;simp [iB]
 |
  t::ts,k+1,q=>by
  have:=nV (ts:=ts) (k:=k) (by simpa using q)
  cases t <;> simp [iB,this]
theorem xb:∀{ms:List Bool}{ts:List Tm}{k:Nat},ms[k]?=some true->ts[k]?=some (.bor i)->oa i ms ts=true
 | [],_,_,q,_=>by simp at q
 |_::_,[],_,_,q=>by simp at q
 |
  b::ms,t::ts,0,q1,q=>by
  have:t=.bor i:=by simpa using q
  have:b=true:=by simpa using q1
  subst_vars;simp [oa]
 |
  b::ms,t::ts,k+1,q1,q=>by
  have:=xb (ms:=ms) (ts:=ts) (k:=k) (by simpa using q1) (by simpa using q)
  cases b <;> cases t <;> simp [oa,this]
theorem kY:∀{ms:List Bool}{ts:List Tm}{k:Nat},okA e ms ts=true->ms[k]?=some true->∃i,ts[k]?=some (.bor i)/\∃u,(e[i]?).bind Sl.mv=some u
 | [],_,_,_,q=>by simp at q
 |b::ms,[],_,o,_=>by cases b <;> simp [okA] at o
 |
  b::ms,t::ts,0,o,q=>by
  have:b=true:=by simpa using q
  subst this;cases t with
  |bor i=>simp only[okA,u_] at o;exact⟨i,rfl,Rn.mp o.1.1⟩
  |_=>simp [okA] at o
 |
  b::ms,t::ts,k+1,o,q=>by
  have o':okA e ms ts=true:=by cases b <;> cases t <;> simp only[okA,u_] at o <;> first |exact o.2 |exact o |(simp at o;done)
  obtain⟨i,y⟩:=kY (k:=k) o' (by simpa using q);exact⟨i,by simpa using y⟩
theorem iR:∀{ms:List Bool}{ts:List Tm}{k j i:Nat},okA e ms ts=true->ms[k]?=some true->ts[k]?=some (.bor i)->ts[j]?=some (.bor i)->j=k
 | [],_,_,_,_,_,q,_,_=>by simp at q
 |b::ms,[],_,_,_,o,_,_,_=>by cases b <;> simp [okA] at o
 |b::ms,t::ts,0,0,i,o,q1,q2,q3=>rfl
 |
  b::ms,t::ts,0,j+1,i,o,q1,q2,q3=>by
  have h1:b=true:=by simpa using q1
  have h2:t=.bor i:=by simpa using q2
  subst h1 h2;simp only[okA,u_] at o
  have:=nV (i:=i) (ts:=ts) (k:=j) (by simpa using q3)
  rw[this] at o;simp at o
 |
  b::ms,t::ts,k+1,0,i,o,q1,q2,q3=>by
  have h2:t=.bor i:=by simpa using q3
  subst h2;have hm:=xb (i:=i) (ms:=ms) (ts:=ts) (k:=k) (by simpa using q1) (by simpa using q2);have hb:=nV (i:=i) (ts:=ts) (k:=k) (by simpa using q2);cases b <;> simp [okA,hm,hb] at o
 |
  b::ms,t::ts,k+1,j+1,i,o,q1,q2,q3=>by
  have o':okA e ms ts=true:=by cases b <;> cases t <;> simp only[okA,u_] at o <;> first |exact o.2 |exact o |(simp at o;done)
  exact QW (· + 1) (iR (k:=k) (j:=j) (i:=i) o' (by simpa using q1) (by simpa using q2) (by simpa using q3))
theorem i7:∀{ms:List Bool}{ts:List Tm},okA e ms ts=true->ms.length=ts.length
 | [],[],_=>rfl
 | [],_::_,o=>by simp [okA] at o
 |b::ms,[],o=>by cases b <;> simp [okA] at o
 |
  b::ms,t::ts,o=>by
  have o':okA e ms ts=true:=by cases b <;> cases t <;> simp only[okA,u_] at o <;> first |exact o.2 |exact o |(simp at o;done)
  exact QW (· + 1) (i7 o')
theorem ma:∀{ms:List Bool}{ts:List Tm}{k i:Nat},ms[k]?=some false->ts[k]?=some (.bor i)->(∀v,e[i]?≠some (.sh v))->i∈aU e ms ts
 | [],_,_,_,q,_,_=>by simp at q
 |_::_,[],_,_,_,q,_=>by simp at q
 |
  b::ms,t::ts,0,i,q1,q2,hn=>by
  have h1:b=false:=by simpa using q1
  have h2:t=.bor i:=by simpa using q2
  subst h1 h2;unfold aU;split
  .rename_i v q;exact absurd q (hn v)
  .exact r_ ..
 |
  b::ms,t::ts,k+1,i,q1,q2,hn=>by
  have ih:=ma (ms:=ms) (ts:=ts) (k:=k) (by simpa using q1) (by simpa using q2) hn;cases b <;> cases t <;> simp only[aU] <;> first |exact ih |(split;exact ih;exact n_ _ ih)
def eZ{ms:List Bool}{ts:List Tm}{k i:Nat}(q:(bY ms ts)[k]?=some (some i)):ms[k]?=some true/\ts[k]?=some (.bor i):=by
 unfold bY at q;rw[R6] at q;cases h1:ms[k]? with
 |none=>rw[h1] at q;cases q
 |
  some b=>
  cases h2:ts[k]? with
  |none=>rw[h1,h2] at q;cases q
  |some t=>rw[h1,h2] at q;have q':oQ b t=some i:=J_ q;cases b <;> cases t <;> first |(cases q';done) |(cases q';exact⟨rfl,rfl⟩)
def FO{ms:List Bool}{ts:List Tm}{k i:Nat}(q1:ms[k]?=some true)(q2:ts[k]?=some (.bor i)):(bY ms ts)[k]?=some (some i):=by unfold bY;rw[R6,q1,q2];rfl
theorem wX:∀{ts:List Tm}{vs:List Val}{k:Nat}{v:Val},rss e ts=some vs->vs[k]?=some v->∃t,ts[k]?=some t/\rs e t=some v
 | [],_,_,_,q,q2=>by cases q;simp at q2
 |
  t::ts,vs,k,v,q,q2=>by
  unfold rss at q;split at q
  .rename_i u us e1 e2;cases q;cases k with
   |zero=>
    have:u=v:=by simpa using q2
    subst this;exact⟨t,rfl,e1⟩
   |succ k=>obtain⟨t',y1,y2⟩:=wX (k:=k) e2 (by simpa using q2);exact⟨t',by simpa using y1,y2⟩
  .cases q
theorem kD:∀{ts:List Tm}{vs:List Val},rss e ts=some vs->vs.length=ts.length
 | [],_,q=>by cases q;rfl
 |
  t::ts,vs,q=>by
  unfold rss at q;split at q
  .rename_i u us e1 e2;cases q;exact QW (· + 1) (kD e2)
  .cases q
theorem TsR.get:∀{ds:List D}{ts:List Tm}{k:Nat}{t:Tm},TsR X ns ae h ds ts->ts[k]?=some t->∃d,ds[k]?=some d/\((∃v,t=.val v/\Rd (Oc X ns) h d v)\/∃i,t=.bor i/\ae[i]?=some (some d))
 |_,_,_,_,.nil,q=>by simp at q
 |_,_,0,_,.val r rr,q=>by have:=(by simpa using q:Tm.val _=_);subst this;exact⟨_,rfl,.inl ⟨_,rfl,r⟩⟩
 |_,_,0,_,.bor r rr,q=>by have:=(by simpa using q:Tm.bor _=_);subst this;exact⟨_,rfl,.inr ⟨_,rfl,r⟩⟩
 |_,_,k+1,t,.val r rr,q=>by obtain⟨d,y⟩:=rr.get (k:=k) (by simpa using q);exact⟨d,by simpa using y⟩
 |_,_,k+1,t,.bor r rr,q=>by obtain⟨d,y⟩:=rr.get (k:=k) (by simpa using q);exact⟨d,by simpa using y⟩
def Xc(X:Nat->Prop)(ns:Ns)(e:E3)(ms:List Bool)(ts:List Tm)(n:Nat):Prop:=(X n\/some n∈ns)/\some n∉bW (bY ms ts) ns/\∀i∈aU e ms ts,ns[i]?≠some (some n)
def uc(S:Sat X h0 ns e ae h)(rt:TsR X ns ae h ds ts)(qv:rss e ts=some vs)(ok:okA e ms ts=true):
 Sat (Xc X ns e ms ts) h.length (bW (bY ms ts) ns) (sls ms vs) (ds.map some) h:=by
 have l1:=i7 ok;have l2:=kD qv;have l3:=TsR.len rt;have hs:mQ (bY ms ts):=λj k i q1 q2=>iR ok (eZ q2).1 (eZ q2).2 (eZ q1).2;have mv:Mov (Oc X ns) (Oc (Xc X ns e ms ts) (bW (bY ms ts) ns)) h h:=λn o p q=>⟨⟨λz=>by
  rcases z.1 with z |z
  .exact p.1 z
  .exact p.2 z,λz=>p.2 (l8 z)⟩,q⟩
 refine⟨?_,?_,p_ _,λn z=>?_,λj k n q1 q2=>?_,λj n q z=>z.2.1 (aX.mpr ⟨j,q⟩),λk s q=>?_⟩
 .unfold sls;rw[m_,Sb];omega
 .unfold bW bY sls;rw[m_,Sb,Sb];omega
 .rcases z.1 with z |z
  .exact S.xl n z
  .obtain⟨i,z⟩:=aX.mp z;obtain⟨_,_,_,_,_,_,_,q',_⟩:=S.own z;exact c8 q'
 .obtain⟨i,y1,y2⟩:=cB q1;obtain⟨i',y3,y4⟩:=cB q2
  have:=S.inj i i' n y2 y4
  subst this;exact hs j k i y1 y3
 .obtain⟨b,v,
   q1,q2,rfl⟩:=fi q
  obtain⟨t,q3,q4⟩:=wX qv q2;obtain⟨d,q5,q6⟩:=rt.get q3;have qd:(ds.map some)[k]?=some (some d):=by rw[O_,q5];rfl
  rw[qd];have qn:(bW (bY ms ts) ns)[k]?=some ((oQ b t).bind λi=>(ns[i]?).bind id):=by unfold bW bY;rw[O_,R6,q1,q3];rfl
  rw[qn];cases b with
  |
   true=>
   obtain⟨i,y1,u,y2⟩:=kY ok q1;rw[q3] at y1;cases y1;have q4':(e[i]?).bind Sl.val=some v:=q4;obtain⟨s,z1,z2⟩:=QK.mp y2;rw[z1] at q4';have hv:s.val=some v:=q4';have huv:u=v:=by cases s <;> first |cases z2;done |(cases z2;cases hv;rfl)
   subst huv;have hns:∃n,ns[i]?=some (some n):=by
    have y:=S.sl i s z1;cases s with
    |ow v=>obtain⟨n,o,y1,_⟩:=y;exact⟨n,y1⟩
    |mu v=>obtain⟨n,o,y1,_⟩:=y;exact⟨n,y1⟩
    |_=>cases z2
   obtain⟨n,hn⟩:=hns;obtain⟨n',o,k1,k2,k3,k4,_⟩:=S.write z1 z2;rcases q6 with ⟨_,z,_⟩ |⟨i',z,q6⟩
   .cases z
   .cases z;rw[q6] at k1;cases k1;obtain⟨_,_,_,_,_,_,w,_⟩:=S.own hn;rw[q6] at w;cases w;exact⟨n,o,by show some ((ns[i]?).bind id)=_;rw[hn];rfl,rfl,k2,k3,k4.mono mv⟩
  |
   false=>
   refine⟨by cases t <;> rfl,d,rfl,?_⟩;rcases q6 with ⟨u,rfl,q6⟩ |⟨i,rfl,q6⟩
   .cases q4;exact q6.mono mv
   .have q4':(
     e[i]?).bind Sl.val=some v:=q4
    rcases S.bor q6 q4' with z |⟨n,o,rfl,z1,z2⟩
    .exact z.mono mv
    .refine .cell ⟨λy=>?_,λy=>?_⟩ z1 (z2.mono mv)
     .
      by_cases hsh:∃w,e[i]?=some (.sh w)
      .obtain⟨w,hsh⟩:=hsh;obtain⟨_,x,w1,w2⟩:=S.sl i _ hsh;rw[q6] at w1;cases w1;cases w2 with
       |cell p _ _=>rcases y.1 with y |y;exact p.1 y;exact p.2 y
      .have hl:=ma q1 q3 λw z=>hsh ⟨w,z⟩;cases w:ns[i]? with
       |
        none=>
        have hi:i<e.length:=by
         cases z:e[i]? with
         |none=>rw[z] at q4';cases q4'
         |some _=>exact (s_.mp z).1
        rw[RH,S.l2] at w;omega
       |
        some w'=>
        cases w' with
        |
         none=>
         cases z:e[i]? with
         |none=>rw[z] at q4';cases q4'
         |
          some s=>
          have k:=S.sl i s z;rw[w] at k;cases s with
          |no=>rw[z] at q4';cases q4'
          |sh w=>exact hsh ⟨w,z⟩
          |ow w=>obtain⟨_,_,k,_⟩:=k;cases k
          |lo w=>obtain⟨_,_,k,_⟩:=k;cases k
          |mu w=>obtain⟨_,_,k,_⟩:=k;cases k
          |lm w=>obtain⟨_,_,k,_⟩:=k;cases k
        |some n'=>obtain⟨_,_,_,_,_,_,w2,_⟩:=S.own w;rw[q6] at w2;cases w2;exact y.2.2 i hl w
     .obtain⟨j,y⟩:=aX.mp y;obtain⟨i',y1,y2⟩:=cB y;obtain⟨y3,y4⟩:=eZ y1;obtain⟨_,_,_,_,_,_,w2,_⟩:=S.own y2;have:i'
       = i:=by
       cases w:ns[i]? with
       |
        none=>
        have hi:i<e.length:=by
         cases z:e[i]? with
         |none=>rw[z] at q4';cases q4'
         |some _=>exact (s_.mp z).1
        rw[RH,S.l2] at w;omega
       |
        some w'=>
        cases w' with
        |some n'=>obtain⟨_,_,_,_,_,_,w3,_⟩:=S.own w;rw[q6] at w3;cases w3;exact S.inj i' i n y2 w
        |
         none=>
         cases z:e[i]? with
         |none=>rw[z] at q4';cases q4'
         |
          some s=>
          have k:=S.sl i s z;rw[w,q6] at k;cases s with
          |no=>rw[z] at q4';cases q4'
          |
           sh w=>
           obtain⟨_,x,k1,k2⟩:=k;cases k1;cases k2 with
           |cell p _ _=>exact (p.2 (aX.mpr ⟨i',y2⟩)).elim
          |ow w=>obtain⟨_,_,k,_⟩:=k;cases k
          |lo w=>obtain⟨_,_,k,_⟩:=k;cases k
          |mu w=>obtain⟨_,_,k,_⟩:=k;cases k
          |lm w=>obtain⟨_,_,k,_⟩:=k;cases k
      subst this
      have:=iR ok y3 y4 q3
      subst this;rw[q1] at y3;cases y3
theorem ff:∀{ms:List Bool}{mv:List Val}{j:Nat}{v:Val},(aG ms mv)[j]?=some (.mu v)->v∈mv
 | [],_,_,_,q=>by simp [aG] at q
 |true::ms,u::mv,0,v,q=>by
  have:Sl.mu u=.mu v:=by simpa [aG] using q
  cases this;exact r_ ..
 |true::ms,u::mv,j+1,v,q=>n_ _ (ff (ms:=ms) (mv:=mv) (j:=j) (by simpa [aG] using q))
 |true::ms,[],0,v,q=>by simp [aG] at q
 |true::ms,[],j+1,v,q=>ff (ms:=ms) (mv:=[]) (j:=j) (by simpa [aG] using q)
 |false::ms,mv,0,v,q=>by simp [aG] at q
 |false::ms,mv,j+1,v,q=>ff (ms:=ms) (mv:=mv) (j:=j) (by simpa [aG] using q)
theorem mh:∀{ms:List Bool}{ts:List Tm}{i:Nat},i∈aU e ms ts->∃k:Nat,ms[k]?=some false/\ts[k]?=some (.bor i)
 | [],_,_,q=>by simp [aU] at q
 |_::_,[],_,q=>by simp [aU] at q
 |
  b::ms,t::ts,i,q=>by
  have up:i∈aU e ms ts->∃k:Nat,(b::ms)[k]?=some false/\(t::ts)[k]?=some (.bor i):=λz=>by obtain⟨k,y1,y2⟩:=mh z;exact⟨k+1,by simpa using y1,by simpa using y2⟩
  cases b <;> cases t <;> simp only[aU] at q <;> first |exact up q |skip
  split at q
  .exact up q
  .rcases I_.mp q with rfl |q
   .exact⟨0,rfl,rfl⟩
   .exact up q
def Ge(q:cE e (.bor i)=some (e1,v)):(∀j,j≠i->e1[j]?=e[j]?)/\e1[i]?=some (.sh v)/\(e[i]?).bind Sl.val=some v:=by
 unfold cE at q;dsimp only at q;split at q
 .rename_i u q1;cases q;exact⟨λ_ _=>rfl,q1,by rw[q1];rfl⟩
 .rename_i u q1;cases q;exact⟨λj z=>bM z,bU (s_.mp q1).1,by rw[q1];rfl⟩
 .cases q
theorem tE:∀{is:List Nat}{ns:Ns}{e e2:E3},Sat X h0 ns e ae h->(∀i∈is,∃d,ae[i]?=some (some d))->oW e is=some e2->∃im,Sat X h0 im e2 ae h/\Stp ns e h im e2 h/\(∀i,i∉is->e2[i]?=e[i]?)/\(∀i∈is,∃v,e2[i]?=some (.sh v))/\∀i:Nat,(e2[i]?).bind Sl.val=(e[i]?).bind Sl.val
 | [],ns,e,e2,S,_,q=>by cases q;exact⟨ns,S,.refl,λ_ _=>rfl,(λ_ z=>by cases z),λ_=>rfl⟩
 |
  i::is,ns,e,e2,S,hd,q=>by
  unfold oW at q;split at q
  .rename_i e1 v q1;obtain⟨d,hd0⟩:=hd i (r_ ..);obtain⟨ns1,S1,a1,r1⟩:=fN (L:=0) (t:=.bor i) S hd0 q1;obtain⟨im,S2,a2,k1,k2,k3⟩:=tE S1 (λj z=>hd j (n_ _ z)) q;obtain⟨y1,y2,y3⟩:=Ge q1;refine⟨im,S2,a1.trans S a2,λj hj=>?_,λj hj=>?_,λj=>?_⟩
   .rw[I_,not_or] at hj;rw[k1 j hj.2,y1 j hj.1]
   .by_cases z:j∈is
    .exact k2 j z
    .rcases I_.mp hj with rfl |hj
     .exact⟨v,by rw[k1 j z];exact y2⟩
     .exact absurd hj z
   .rw[k3 j];by_cases z:j=i
    .subst z;rw[y2,y3];rfl
    .rw[y1 j z]
  .cases q
theorem pL:∀{ms:List Bool}{ts:List Tm},(∀(k i:Nat),ms[k]?=some true->ts[k]?=some (.bor i)->e2[i]?=e[i]?)->okA e ms ts=true->okA e2 ms ts=true
 | [],[],_,o=>rfl
 | [],_::_,_,o=>by simp [okA] at o
 |b::ms,[],_,o=>by cases b <;> simp [okA] at o
 |
  b::ms,t::ts,hk,o=>by
  have o':okA e ms ts=true:=by cases b <;> cases t <;> simp only[okA,u_] at o <;> first |exact o.2 |exact o |(simp at o;done)
  have ih:=pL (λk i q1 q2=>hk (k+1) i (by simpa using q1) (by simpa using q2)) o';cases b with
  |false=>cases t <;> simp only[okA,u_] at o ⊢ <;> first |exact⟨o.1,ih⟩ |exact ih
  |
   true=>
   cases t with
   |bor i=>simp only[okA,u_] at o ⊢;rw[hk 0 i rfl rfl];exact⟨o.1,ih⟩
   |_=>simp [okA] at o
theorem tD:∀{ms:List Bool}{ts:List Tm},(∀(k i:Nat),ms[k]?=some false->ts[k]?=some (.bor i)->∃v,e[i]?=some (.sh v))->aU e ms ts=[]
 | [],_,_=>by simp [aU]
 |_::_,[],_=>by simp [aU]
 |
  b::ms,t::ts,hk=>by
  have ih:=tD (λk i q1 q2=>hk (k+1) i (by simpa using q1) (by simpa using q2));cases b <;> cases t <;> simp only[aU] <;> first |exact ih |skip
  rename_i i;obtain⟨v,q⟩:=hk 0 i rfl rfl;rw[q];exact ih
theorem pO(hv:∀i:Nat,(e2[i]?).bind Sl.val=(e[i]?).bind Sl.val):∀(ts:List Tm),rss e2 ts=rss e ts
 | []=>rfl
 |
  t::ts=>by
  unfold rss;rw[pO hv ts];have:rs e2 t=rs e t:=by
   cases t with
   |bor i=>exact hv i
   |_=>rfl
  rw[this]
def tj(ok:okA e ms ts=true):Lnk (bY ms ts) e (sls ms vs):=by
 refine⟨λj k i q1 q2=>iR ok (eZ q2).1 (eZ q2).2 (eZ q1).2,λj v q=>?_,λj s q hm=>?_⟩
 .obtain⟨b,u,q1,_,q2⟩:=fi q;cases b with
  |false=>cases q2
  |true=>obtain⟨i,y1,w,y2⟩:=kY ok q1;obtain⟨s,z1,z2⟩:=QK.mp y2;exact⟨i,s,FO q1 y1,z1,by cases s <;> first |rfl |cases z2⟩
 .obtain⟨b,u,q1,_,q2⟩:=fi q;cases b with
  |false=>subst q2;cases hm
  |true=>exact⟨u,q2⟩
section
variable{X:Nat->Prop}{h0 L:Nat}{ns:Ns}{e:E3}{ae:AE}{h:AH}{ms:List Bool}{ts:List Tm}{ds:List D}{vs:List Val}{S2:Fn}{G3:Fn3}
def iS(Y:Nat->Prop)(hY:∀n,Y n->X n\/Y n)(hl:aU e ms ts=[])(z:¬ Xc X ns e ms ts n)(z2:some n∉bW (bY ms ts) ns):Oc X ns n:=by refine⟨λy=>z ⟨.inl y,z2,λi hi=>by rw[hl] at hi;cases hi⟩,λy=>z ⟨.inr y,z2,λi hi=>by rw[hl] at hi;cases hi⟩⟩
def wq(S:Sat X h0 ns e ae h)(hL:L<=h.length)(rt:TsR X ns ae h ds ts)(qv:rss e ts=some vs)(ok:okA e ms ts=true)(hG:RF ms S2 G3)(q:G3 vs=.ok r mv)(hf:aU e ms ts=[]\/(kG r=true/\mv.all dg=true)):
 Po X h0 ns e ae h (relE X h0 L ae) (S2 ds h) (.ok (r.tm ts) (bg (bY ms ts) (aG ms mv) e)):=by
 have p:=hG _ _ ds vs h (by rw[kD qv,i7 ok]) (uc S rt qv ok);rw[q] at p;obtain⟨d,h',p1,a,rr⟩:=p;have K:=tj (vs:=vs) ok;have xcl:∀n,X n->n<h.length:=S.xl;cases r with
 |
  val v=>
  obtain⟨S3,rv⟩:=rr;obtain⟨S4,a4⟩:=S.back (Y:=X) K a (λn z=>⟨H_ (xcl n z) a.len,.inl z⟩) (λ_ z=>z) λj w n q1 q2=>by
   obtain⟨s,u,o,b1,b2,b3,b4,b5,b6,b7⟩:=S3.own q2;rw[q1] at b1;cases b1;cases b3;rcases hf with hf |hf
   .exact⟨o,b5,b6,b7.mono λm o' z y=>⟨iS X (λ_ z=>.inl z) hf z.1 z.2,y⟩⟩
   .exact⟨o,b5,b6,b7.flat (QI.mp hf.2 w (ff q1))⟩
  refine⟨d,h',ns,p1,a4,S4,?_⟩;rcases hf with hf |hf
  .exact rv.mono λm o' z y=>⟨iS X (λ_ z=>.inl z) hf z.1 z.2,y⟩
  .exact rv.flat hf.1
 |
  new v=>
  obtain⟨n,o,z1,z2,z3,z4,z5,S3,z7⟩:=rr;have hnx:¬ X n:=λy=>by have:=xcl n y;omega
  have kk:∀m,Oc (Xn (Xc X ns e ms ts) n) (bW (bY ms ts) ns) m->aU e ms ts=[]->Oc (Xn X n) ns m:=λm z hf=>by
   have:=iS X (λ_ z=>.inl z) hf (λy=>z.1 (.inl y)) z.2
   exact⟨λy=>by
    rcases y with y |y
    .exact this.1 y
    .exact z.1 (.inr y),this.2⟩
  obtain⟨S4,a4⟩:=S.back (Y:=Xn X n) K a (λm z=>by
   rcases z with z |rfl
   .exact⟨H_ (xcl m z) a.len,.inl z⟩
   .exact⟨c8 z4,.inr z2⟩) (λ_ z=>.inl z) λj w n' q1 q2=>by
   obtain⟨s,u,o,b1,b2,b3,b4,b5,b6,b7⟩:=S3.own q2;rw[q1] at b1;cases b1;cases b3;rcases hf with hf |hf
   .exact⟨o,b5,b6,b7.mono λm o' z y=>⟨kk m z hf,y⟩⟩
   .exact⟨o,b5,b6,b7.flat (QI.mp hf.2 w (ff q1))⟩
  refine⟨d,h',ns,p1,a4,S4.weak λ_ z=>.inl z,n,o,z1,F_ hL z2,hnx,z4,z5,S4,?_⟩;rcases hf with hf |hf
  .exact z7.mono λm o' z y=>⟨kk m z hf,y⟩
  .exact z7.flat hf.1
 |
  par i=>
  obtain⟨S3,w1,w,w2⟩:=rr;obtain⟨S4,a4⟩:=S.back (Y:=X) K a (λn z=>⟨H_ (xcl n z) a.len,.inl z⟩) (λ_ z=>z) λj w n q1 q2=>by
   obtain⟨s,u,o,b1,b2,b3,b4,b5,b6,b7⟩:=S3.own q2;rw[q1] at b1;cases b1;cases b3;rcases hf with hf |hf
   .exact⟨o,b5,b6,b7.mono λm o' z y=>⟨iS X (λ_ z=>.inl z) hf z.1 z.2,y⟩⟩
   .exact⟨o,b5,b6,b7.flat (QI.mp hf.2 w (ff q1))⟩
  refine⟨d,h',ns,p1,a4,S4,?_⟩;obtain⟨u,x1,_⟩:=a.mu i w w2;obtain⟨b,u',x2,_,x3⟩:=fi x1;cases b with
  |false=>cases x3
  |
   true=>
   obtain⟨k,y1,_⟩:=kY ok x2;obtain⟨d',y2,z⟩:=rt.get y1;have e1:(Rt.par i).tm ts=.bor k:=by show (ts[i]?).getD _=_;rw[y1];rfl
   rw[e1];rcases z with ⟨_,z,_⟩ |⟨j,z,z2⟩
   .cases z
   .cases z;rw[O_,y2] at w1;cases w1;exact z2
def BJ(S:Sat X h0 ns e ae h)(rt:TsR X ns ae h ds ts)(qv:rss e ts=some vs)(ok:okA e ms ts=true)(hG:RF ms S2 G3)(q:G3 vs=.exc c mv)(hf:aU e ms ts=[]\/mv.all dg=true):
 Po X h0 ns e ae h (relE X h0 L ae) (S2 ds h) (.exc c (bg (bY ms ts) (aG ms mv) e)):=by
 have p:=hG _ _ ds vs h (by rw[kD qv,i7 ok]) (uc S rt qv ok);rw[q] at p;obtain⟨h',p1,a,S3⟩:=p;have K:=tj (vs:=vs) ok;obtain⟨S4,a4⟩:=S.back (Y:=X) K a (λn z=>⟨H_ (S.xl n z) a.len,.inl z⟩) (λ_ z=>z) λj w n q1 q2=>by
  obtain⟨s,u,o,b1,b2,b3,b4,b5,b6,b7⟩:=S3.own q2;rw[q1] at b1;cases b1;cases b3;rcases hf with hf |hf
  .exact⟨o,b5,b6,b7.mono λm o' z y=>⟨iS X (λ_ z=>.inl z) hf z.1 z.2,y⟩⟩
  .exact⟨o,b5,b6,b7.flat (QI.mp hf w (ff q1))⟩
 exact⟨h',ns,p1,a4,S4⟩
def wm(hn:n=ms.length)(hG:RF ms S2 G3)(hA:RA A A3):RE (qS n S2 A) (qI ms G3 A3):=λX h0 L ns e ae h S hl=>
 Po.bind
  S (hA X h0 ns e ae h S) λds ts h1 ns1 e1 a1 S1 r1=>by
  try dsimp only
  cases qv:rss e1 ts with
  |none=>trivial
  |
   some vs=>
   dsimp only;by_cases ok:okA e1 ms ts=true
   .rw[if_pos ok];have bi:ds.length=n:=by rw[hn,i7 ok];exact TsR.len r1
    rw[if_pos bi];have hL:L<=h1.length:=F_ hl a1.len;cases q:G3 vs with
    |stuck=>trivial
    |
     exc c mv=>
     dsimp only;by_cases hf:((aU e1 ms ts).isEmpty || mv.all dg)=true
     .rw[if_pos hf];refine BJ S1 r1 qv ok hG q ?_;rw[Sh] at hf;rcases hf with hf |hf
      .exact .inl (List.isEmpty_iff.mp hf)
      .exact .inr hf
     .rw[if_neg hf];trivial
    |
     ok r mv=>
     dsimp only;by_cases hf:((aU e1 ms ts).isEmpty || (kG r&&mv.all dg))=true
     .rw[if_pos hf];refine wq S1 hL r1 qv ok hG q ?_;rw[Sh,u_] at hf;rcases hf with hf |hf
      .exact .inl (List.isEmpty_iff.mp hf)
      .exact .inr hf
     .rw[if_neg hf];cases qd:oW e1 (aU e1 ms ts) with
      |none=>trivial
      |
       some e2=>
       dsimp only;obtain⟨im,S2',a2,k1,k2,k3⟩:=tE S1 (λi hi=>by
        obtain⟨k,_,y⟩:=mh hi;obtain⟨d,_,z⟩:=r1.get y;rcases z with ⟨_,z,_⟩ |⟨j,z,z2⟩
        .cases z
        .cases z;exact⟨d,z2⟩) qd
       have ok2:okA e2 ms ts=true:=pL (λk i q1 q2=>k1 i λz=>by
        obtain⟨k',y1,y2⟩:=mh z
        have:=iR ok q1 q2 y2
        subst this;rw[q1] at y1;cases y1) ok
       have ln:aU e2 ms ts=[]:=tD λk i q1 q2=>by
        by_cases z:i∈aU e1 ms ts
        .exact k2 i z
        .rw[k1 i z];exact SJ λw=>z (ma q1 q2 λv y=>w ⟨v,y⟩)
       have pp:=wq (L:=L) S2' hL (r1.stp S1 a2) (by rw[pO k3];exact qv) ok2 hG q (.inl ln);obtain⟨d,h',ns',y,y1,y2,y3⟩:=pp;exact⟨d,h',ns',y,a2.trans S1 y1,y2,y3⟩
   .rw[if_neg ok];trivial
end
def RMv(m2:D->List D->AH->R D)(m3:Val->List Val->Bv):Prop:=∀P h d v ds vs,ShR P h d v->dZ v=true->ShRs P h ds vs->BvR P h (m2 d ds h) (m3 v vs)
noncomputable def E9(m:Val->List Val->Bv)(F:ME3)(A:MA3):ME3:=λe=>(F e).bind λt e1=>if (rs e1 t).map dZ=some true then (A e1).bind λts e2=>(match rs e2 t.drop,rss e2 ts with
 |some v,some vs=>if dZ v=true then (m v vs).at e2 else .stuck
 |_,_=>.stuck) else .stuck
def CM(r:ShR P h d v)(q:dZ v=true):jt h d=true:=by
 cases v with
 |lst xs=>obtain⟨n,ds,rfl,_,e1,_⟩:=r.lst;show (aM h n).isSome=true;rw[e1];rfl
 |_=>cases q
def GS(hm:RMv m2 m3)(hF:RE F F3)(hA:RA A A3):RE (eM m2 F A) (E9 m3 F3 A3):=λX h0 L ns e ae h S hl=>
 Po.bind
  S (hF X h0 L ns e ae h S hl) λd t h1 ns1 e1 a1 S1 r1=>by
  try dsimp only
  split
  .by_cases hq:(rs e1 t).map dZ=some true
   .rw[if_pos hq];refine Po.bind S1 (hA X h0 ns1 e1 ae h1 S1) λds ts h2 im e2 a2 S2 r2=>?_;try dsimp only
    split
    .rename_i v vs q1 q2;obtain⟨r1',hn⟩:=r1.drop;by_cases hv:dZ v=true
     .rw[if_pos hv];exact BvR.po S2 (F_ hl (F_ a1.len a2.len)) (hm _ _ _ _ _ _ ((r1'.stp S1 a2 hn).sh S2 q1) hv (TsR.sh S2 r2 q2))
     .rw[if_neg hv];trivial
    .trivial
   .rw[if_neg hq];trivial
  .rename_i hL;by_cases hq:(rs e1 t).map dZ=some true
   .obtain⟨v,z1,z2⟩:=L_.mp hq;exact absurd (CM (r1.sh S1 z1) z2) hL
   .rw[if_neg hq];trivial
noncomputable def aI(f:Int->Int->Val):Val->Val->Bv:=λx y=>match x,y with
 |.int i,.int j=>.val (f i j)
 |_,_=>.stuck
open Classical in
def aIc(C:Int->Int->Prop)(f:Int->Int->Val):Val->Val->Bv:=λx y=>match x,y with
 |.int i,.int j=>if C i j then .val (f i j) else .stuck
 |_,_=>.stuck
noncomputable def yh:Val->Val->Bv:=λx y=>match x,y with
 |.lst xs,.lst ys=>if xs.length+ys.length<=16777216 then .new (.lst (xs++ys)) else .stuck
 |.tup xs,.tup ys=>if xs.length+ys.length<=16777216 then .val (.tup (xs++ys)) else .stuck
 |_,_=>.stuck
noncomputable def CC:Val->Val->Bv:=λx y=>match x,y with
 |.int i,.int j=>.val (.int (i+j))
 |x,y=>yh x y
noncomputable def aMin:=aI λi j=>.int (i-j)
def xG:=aIc CMulA λi j=>.int (i*j)
def xx:=aIc CDivB λi j=>.int (i.fdiv j)
def xE:=aIc (λ_ j=>j≠0) λi j=>.int (i.fmod j)
def yX:=aIc gr λi j=>.int (i^j.toNat)
def xU:=aIc gr λi j=>.int (i*2^j.toNat)
noncomputable def aLt:=aI λi j=>.bl (decide (i<j))
noncomputable def aGt:=aI λi j=>.bl (decide (j<i))
noncomputable def aGe:=aI λi j=>.bl (decide (j<=i))
noncomputable def BV:Val->Bv:=λx=>match x with
 |.int i=>.val (.int (-i))
 |_=>.stuck
noncomputable def aIx:Val->Val->Bv:=λx y=>match x.items,y with
 |some xs,.int i=>(match atI xs i with
  |some v=>.val v
  |none=>.stuck)
 |_,_=>.stuck
section
def t9(hr:∀i j P h,Rd P h (f2 i j) (f3 i j)):RO (gI f2) (aI f3):=λP h d1 d2 v1 v2 r1 r2=>by
 unfold aI;split
 .obtain rfl:=r1.int;obtain rfl:=r2.int;exact⟨_,rfl,hr _ _ P h⟩
 .trivial
def nz(hr:∀i j P h,Rd P h (f2 i j) (f3 i j)):RO (gIc C f2) (aIc C f3):=λP h d1 d2 v1 v2 r1 r2=>by
 unfold aIc;split
 .obtain rfl:=r1.int;obtain rfl:=r2.int;split
  .rename_i hc;exact⟨_,by unfold gIc;dsimp only;rw[if_pos hc],hr _ _ P h⟩
  .trivial
 .trivial
def JK:RO mf yh:=λP h d1 d2 v1 v2 r1 r2=>by
 unfold yh;split
 .obtain⟨n,ds,rfl,e1,_,q1⟩:=r1.lst;obtain⟨m,es,rfl,e2,_,q2⟩:=r2.lst;split
  .rename_i hl;exact⟨.lst (ds++es),by unfold mf;dsimp only;rw[e1,e2];dsimp only;rw[if_pos (by rw[q1.len,q2.len];exact hl)],trivial,.lst (q1.append q2)⟩
  .trivial
 .obtain⟨ds,rfl,q1⟩:=r1.tup;obtain⟨es,rfl,q2⟩:=r2.tup;split
  .rename_i hl;exact⟨_,by unfold mf;dsimp only;rw[if_pos (by rw[q1.len,q2.len];exact hl)],.tup (q1.append q2)⟩
  .trivial
 .trivial
def LD:RO zd CC:=λP h d1 d2 v1 v2 r1 r2=>by
 unfold CC;split
 .obtain rfl:=r1.int;obtain rfl:=r2.int;exact⟨_,rfl,.int _⟩
 .rename_i hn;have k:=JK P h d1 d2 v1 v2 r1 r2;have e:zd d1 d2 h=mf d1 d2 h\/yh v1 v2=.stuck:=by
   cases v1 <;> first |(right;rfl) |(left;skip)
   .obtain⟨ds,rfl,_⟩:=r1.tup;rfl
   .obtain⟨n,ds,rfl,_⟩:=r1.lst;rfl
  rcases e with e |e
  .rw[e];exact k
  .rw[e];trivial
def Nv:RO B5 aMin:=t9 λ_ _ _ _=>.int _
def MP:RO Ea xG:=nz λ_ _ _ _=>.int _
def MD:RO Eo xx:=nz λ_ _ _ _=>.int _
def Jf:RO DR xE:=nz λ_ _ _ _=>.int _
def Lm:RO BY yX:=nz λ_ _ _ _=>.int _
def K0:RO D6 xU:=nz λ_ _ _ _=>.int _
def NI:RO gLt aLt:=t9 λ_ _ _ _=>.bl _
def Qu:RO gGt aGt:=t9 λ_ _ _ _=>.bl _
def PJ:RO gGe aGe:=t9 λ_ _ _ _=>.bl _
def Nn:RU xC BV:=λP h d v r=>by
 unfold BV;split
 .obtain rfl:=r.int;exact⟨_,rfl,.int _⟩
 .trivial
def P5(r:Rds P h ds vs)(e:atI vs i=some v):∃d,atI ds i=some d/\Rd P h d v:=by
 unfold atI at e ⊢;rw[r.len];cases q:ixN vs.length i with
 |none=>rw[q] at e;cases e
 |some j=>rw[q] at e;exact r.get e
def QE:RO gIx aIx:=λP h d1 d2 v1 v2 r1 r2=>by
 unfold aIx;split
 .rename_i xs i e1;obtain⟨ds,e2,q⟩:=r1.items e1;obtain rfl:=r2.int;split
  .rename_i v e3;obtain⟨d,e4,q2⟩:=P5 q e3;exact⟨d,by unfold gIx;rw[e2];dsimp only;rw[e4],q2⟩
  .trivial
 .trivial
end
mutual
def cR:Nat->Val->Option PyData
 |0,_=>none
 |_+1,.non=>some .none
 |_+1,.bl b=>some (.bool b)
 |_+1,.int i=>some (.int i)
 |_+1,.str x=>some (.str x)
 |k+1,.tup xs=>(eS k xs).map .tuple
 |k+1,.lst xs=>(eS k xs).map .list
 |_+1,_=>none
def eS:Nat->List Val->Option (List PyData)
 |_,[]=>some []
 |k,x::xs=>match cR k x,eS k xs with
  |some a,some b=>some (a::b)
  |_,_=>none
end
def DC(hk:∀d v pd,Rd P h d v->cR k v=some pd->dO k h d=some pd):∀{ds:List D}{vs:List Val}{ps:List PyData},Rds P h ds vs->eS k vs=some ps->ds.mapM (dO k h)=some ps:=by
 intro ds;induction ds with
 |nil=>intro vs ps r q;cases r;unfold eS at q;cases q;rfl
 |
  cons d0 ds ih=>
  intro vs ps r q;cases r with
  |
   cons r rr=>
   unfold eS at q;split at q
   .rename_i a b e1 e2;cases q;rw[Sw,hk _ _ _ r e1,ih rr e2];rfl
   .cases q
theorem oz:∀(k:Nat) (d:D) (v:Val) (pd:PyData),ShR P h d v->cR k v=some pd->dO k h d=some pd
 |0,_,_,_,_,q=>by unfold cR at q;cases q
 |
  k+1,d,v,pd,r,q=>by
  have ih:∀{ds:List D}{vs:List Val}{ps:List PyData},Rds P h ds vs->eS k vs=some ps->ds.mapM (dO k h)=some ps:=DC λd v pd r q=>oz k d v pd (.inl r) q;cases v with
  |non=>obtain rfl:=r.non;simp only[cR] at q;cases q;rfl
  |bl b=>obtain rfl:=r.bl;simp only[cR] at q;cases q;rfl
  |int b=>obtain rfl:=r.int;simp only[cR] at q;cases q;rfl
  |str b=>obtain rfl:=r.str;simp only[cR] at q;cases q;rfl
  |tup xs=>obtain⟨ds,rfl,r2⟩:=r.tup;simp only[cR] at q;obtain⟨ps,q1,rfl⟩:=L_.mp q;show (ds.mapM (dO k h)).map PyData.tuple=_;rw[ih r2 q1];rfl
  |lst xs=>obtain⟨n,ds,rfl,_,e1,r2⟩:=r.lst;simp only[cR] at q;obtain⟨ps,q1,rfl⟩:=L_.mp q;unfold dO;rw[e1];show (ds.mapM (dO k h)).map PyData.list=_;rw[ih r2 q1];rfl
  |_=>simp only[cR] at q;cases q
noncomputable def bz(x y:Val):Option Bool:=match cR 164 x,cR 164 y with
 |some a,some b=>if shp a=true/\shp b=true then some (PyData.eqv a b) else none
 |_,_=>none
noncomputable def aEq(neg:Bool):Val->Val->Bv:=λx y=>match bz x y with
 |some b=>.val (.bl (if neg then !b else b))
 |none=>.stuck
def AR(r1:ShR P h d1 v1)(r2:ShR P h d2 v2)(q:bz v1 v2=some b):ke h d1 d2=some b:=by
 unfold bz at q;split at q
 .rename_i a c e1 e2;unfold ke;rw[oz 164 _ _ _ r1 e1,oz 164 _ _ _ r2 e2];exact q
 .cases q
def EY(neg:Bool):RO (gEq neg) (aEq neg):=λP h d1 d2 v1 v2 r1 r2=>by
 unfold aEq;split
 .rename_i b q;exact⟨_,by unfold gEq;rw[AR r1 r2 q],.bl _⟩
 .trivial
noncomputable def qN:Val->Bool
 |.non=>true
 |.bl _=>true
 |.int _=>true
 |.str _=>true
 |_=>false
noncomputable def yN:Val->V
 |.bl b=>.bl b
 |.int i=>.int i
 |.str x=>.str x
 |_=>.non
def eq1(x y:Val):Bool:=eqV (yN x) (yN y)
noncomputable def aIn(neg:Bool):Val->Val->Bv:=λx y=>match y.items with
 |some xs=>if qN x=true/\xs.all qN=true then .val (.bl (if neg then !(xs.any λd=>eq1 d x) else xs.any λd=>eq1 d x)) else .stuck
 |none=>.stuck
def vY(r:ShR P h d v)(f:qN v=true):kH d=true/\toV d=yN v:=by
 cases v with
 |non=>obtain rfl:=r.non;exact⟨rfl,rfl⟩
 |bl b=>obtain rfl:=r.bl;exact⟨rfl,rfl⟩
 |int b=>obtain rfl:=r.int;exact⟨rfl,rfl⟩
 |str b=>obtain rfl:=r.str;exact⟨rfl,rfl⟩
 |_=>cases f
def BQ(x:D)(y:Val)(hx:toV x=yN y):∀{ds:List D}{vs:List Val},Rds P h ds vs->vs.all qN=true->ds.all kH=true/\(ds.any λd=>eqF d x)=vs.any λd=>eq1 d y:=by
 intro ds;induction ds with
 |nil=>intro vs r f;cases r;exact⟨rfl,rfl⟩
 |
  cons d0 ds ih=>
  intro vs r f;cases r with
  |cons r rr=>rw[SF,u_] at f;obtain⟨h1,h2⟩:=vY (.inl r) f.1;obtain⟨h3,h4⟩:=ih rr f.2;refine⟨by rw[SF,h1,h3];rfl,?_⟩;rw[Rq,Rq,h4];unfold eqF eq1;rw[h2,hx]
def Fe(neg:Bool):RO (gIn neg) (aIn neg):=λP h d1 d2 v1 v2 r1 r2=>by
 unfold aIn;split
 .rename_i xs e;obtain⟨ds,e2,q⟩:=r2.items e;split
  .rename_i hf;obtain⟨f1,f2⟩:=vY r1 hf.1;obtain⟨f3,f4⟩:=BQ d1 v1 f2 q hf.2;exact⟨_,by unfold gIn;rw[e2];dsimp only;rw[if_pos ⟨f1,f3⟩,f4],.bl _⟩
  .trivial
 .trivial
noncomputable def EE(neg:Bool):Val->Val->Bv:=λx y=>match x,y with
 |.non,.non=>.val (.bl (!neg))
 |_,.non=>.val (.bl neg)
 |_,_=>.stuck
def Ln(neg:Bool):RO (D4 neg) (EE neg):=λP h d1 d2 v1 v2 r1 r2=>by
 unfold EE;split
 .obtain rfl:=r1.non;obtain rfl:=r2.non;exact⟨_,rfl,.bl _⟩
 .rename_i hn;obtain rfl:=r2.non;have:d1 ≠ .non:=by
   rintro rfl;rcases r1 with r |⟨n,o,z,_⟩
   .cases r;exact hn rfl
   .cases z
  refine⟨_,?_,.bl neg⟩;unfold D4;split
  .exact absurd rfl this
  .rfl
  .rename_i h1 h2;exact (h1 rfl).elim
 .trivial
noncomputable def DB:List Val->Bv:=λvs=>match vs with
 | [v]=>(match v.items with
  |some xs=>.val (.int xs.length)
  |none=>(match v with
   |.str z=>if z.length<=16777216 then .val (.int z.length) else .stuck
   |_=>.stuck))
 |_=>.stuck
noncomputable def BR:List Val->Bv:=λvs=>match vs with
 | [.int i]=>.val (.int (if i<0 then -i else i))
 |_=>.stuck
noncomputable def xj:List Val->Bv:=λvs=>match vs with
 | [.int i,.int j]=>.val (.int (if j>i then j else i))
 |_=>.stuck
noncomputable def xn:List Val->Bv:=λvs=>match vs with
 | [.int i,.int j]=>.val (.int (if j<i then j else i))
 |_=>.stuck
noncomputable def j4:List Val->Option (List Bool)
 | []=>some []
 |.bl b::r=>(j4 r).map (b :: ·)
 |_=>none
noncomputable def gf:List Val->Option (List Int)
 | []=>some []
 |.int b::r=>(gf r).map (b :: ·)
 |_=>none
noncomputable def Cm:List Val->Bv:=λvs=>match vs with
 | [.lst xs]=>(match j4 xs with
  |some bs=>.val (.bl (bs.all id))
  |none=>.stuck)
 |_=>.stuck
noncomputable def Dz:List Val->Bv:=λvs=>match vs with
 | [.lst xs]=>(match gf xs with
  |some bs=>.val (.int bs.sum)
  |none=>.stuck)
 |_=>.stuck
noncomputable def uX:List Val->Bv:=λvs=>match vs with
 | [v]=>(match v.items with
  |some xs=>.val (.tup xs)
  |none=>.stuck)
 |_=>.stuck
noncomputable def BO:List Val->Bv:=λvs=>match vs with
 | [.int i]=>.val (.int i)
 | [.bl b]=>.val (.int (if b then 1 else 0))
 |_=>.stuck
def Mq:RFn uB DB:=λP h ds vs r=>by
 unfold DB;split
 .obtain⟨d,hd,rr1⟩:=eB r;subst hd;clear r;have r:=rr1;split
  .rename_i xs e;obtain⟨es,e2,q⟩:=r.items e;exact⟨_,by unfold uB;dsimp only;rw[e2],by rw[<- q.len];exact .int _⟩
  .split
   .rename_i z _;obtain rfl:=r.str;split
    .rename_i hl;exact⟨_,by show (if z.length<=16777216 then _ else _)=_;rw[if_pos hl],.int _⟩
    .trivial
   .trivial
 .trivial
def K7:RFn yr BR:=λP h ds vs r=>by
 unfold BR;split
 .obtain⟨d,hd,rr1⟩:=eB r;subst hd;clear r;have r:=rr1;obtain rfl:=r.int;exact⟨_,rfl,.int _⟩
 .trivial
def HW:RFn qF xj:=λP h ds vs r=>by
 unfold xj;split
 .obtain⟨d,d',hd,rr1,r'⟩:=nE r;subst hd;clear r;have r:=rr1;obtain rfl:=r.int;obtain rfl:=r'.int;exact⟨_,rfl,.int _⟩
 .trivial
def HV:RFn qZ xn:=λP h ds vs r=>by
 unfold xn;split
 .obtain⟨d,d',hd,rr1,r'⟩:=nE r;subst hd;clear r;have r:=rr1;obtain rfl:=r.int;obtain rfl:=r'.int;exact⟨_,rfl,.int _⟩
 .trivial
def NT:∀{ds:List D}{vs:List Val}{bs:List Bool},Rds P h ds vs->j4 vs=some bs->hZ ds=some bs:=by
 intro ds;induction ds with
 |nil=>intro vs bs r q;cases r;cases q;rfl
 |
  cons d0 ds ih=>
  intro vs bs r q;cases r with
  |
   cons r rr=>
   rename_i v vs;cases v with
   |bl b=>obtain rfl:=ShR.bl (.inl r);obtain⟨b',q1,rfl⟩:=L_.mp (show (j4 vs).map (b :: ·)=some bs from q);show (hZ _).map (b :: ·)=_;rw[ih rr q1];rfl
   |_=>cases q
def BF:∀{ds:List D}{vs:List Val}{bs:List Int},Rds P h ds vs->gf vs=some bs->eQ ds=some bs:=by
 intro ds;induction ds with
 |nil=>intro vs bs r q;cases r;cases q;rfl
 |
  cons d0 ds ih=>
  intro vs bs r q;cases r with
  |
   cons r rr=>
   rename_i v vs;cases v with
   |int b=>obtain rfl:=ShR.int (.inl r);obtain⟨b',q1,rfl⟩:=L_.mp (show (gf vs).map (b :: ·)=some bs from q);show (eQ _).map (b :: ·)=_;rw[ih rr q1];rfl
   |_=>cases q
def M7:RFn tF Cm:=λP h ds vs r=>by
 unfold Cm;split
 .obtain⟨d,hd,rr1⟩:=eB r;subst hd;clear r;have r:=rr1;obtain⟨n,es,rfl,_,e1,q⟩:=r.lst;split
  .rename_i bs e2;exact⟨_,by unfold tF;dsimp only;rw[e1];show (match hZ es with |some bs=>_ |none=>_)=_;rw[NT q e2],.bl _⟩
  .trivial
 .trivial
def LZ:RFn rq Dz:=λP h ds vs r=>by
 unfold Dz;split
 .obtain⟨d,hd,rr1⟩:=eB r;subst hd;clear r;have r:=rr1;obtain⟨n,es,rfl,_,e1,q⟩:=r.lst;split
  .rename_i bs e2;exact⟨_,by unfold rq;dsimp only;rw[e1];show (match eQ es with |some bs=>_ |none=>_)=_;rw[BF q e2],.int _⟩
  .trivial
 .trivial
def ED:RFn ku uX:=λP h ds vs r=>by
 unfold uX;split
 .obtain⟨d,hd,rr1⟩:=eB r;subst hd;clear r;have r:=rr1;split
  .rename_i xs e;obtain⟨es,e2,q⟩:=r.items e;exact⟨_,by unfold ku;dsimp only;rw[e2],.tup q⟩
  .trivial
 .trivial
def LJ:RFn xg BO:=λP h ds vs r=>by
 unfold BO;split
 .obtain⟨d,hd,rr1⟩:=eB r;subst hd;clear r;have r:=rr1;obtain rfl:=r.int;exact⟨_,rfl,.int _⟩
 .obtain⟨d,hd,rr1⟩:=eB r;subst hd;clear r;have r:=rr1;obtain rfl:=r.bl;exact⟨_,rfl,.int _⟩
 .trivial
noncomputable def tyC:Val->Option Cl
 |.non=>some (.b "NoneType")
 |.bl _=>some (.b "bool")
 |.int _=>some (.b "int")
 |.str _=>some (.b "str")
 |.tup _=>some (.b "tuple")
 |.exc x=>some (.o x)
 |.lst _=>some (.b "list")
 |.dct _=>some (.b "dict")
 |_=>none
noncomputable def clV:Val->Option Cl
 |.ty n=>some (.b n)
 |.glb x=>some (.o x)
 |_=>none
noncomputable def yA:List Val->Option (List Cl)
 | []=>some []
 |v::vs=>match clV v,yA vs with
  |some c,some cs=>some (c::cs)
  |_,_=>none
noncomputable def Ol:Val->Option (List Cl)
 |.tup cs=>yA cs
 |v=>(clV v).map ([·])
noncomputable def D5(kt:jG):List Val->Bv:=λvs=>match vs with
 | [v,c]=>(match tyC v,Ol c with
  |some t,some (c0::cr)=>(match fP kt t (c0::cr),kit kt t c0 with
   |some b,some _=>.val (.bl b)
   |_,_=>.stuck)
  |_,_=>.stuck)
 |_=>.stuck
def Qg(r:ShR P h d v)(q:tyC v=some t):tyD h d=some t:=by
 cases v with
 |non=>obtain rfl:=r.non;exact q
 |bl b=>obtain rfl:=r.bl;exact q
 |int b=>obtain rfl:=r.int;exact q
 |str b=>obtain rfl:=r.str;exact q
 |exc b=>obtain rfl:=r.exc;exact q
 |tup b=>obtain⟨ds,rfl,_⟩:=r.tup;exact q
 |lst b=>obtain⟨n,ds,rfl,e,_⟩:=r.lst;unfold tyD;dsimp only;rw[e];exact q
 |dct b=>obtain⟨n,ds,rfl,e,_⟩:=r.dct;unfold tyD;dsimp only;rw[e];exact q
 |_=>cases q
def FC(r:ShR P h d v)(q:clV v=some c):clD d=some c:=by
 cases v with
 |ty b=>obtain rfl:=r.ty;exact q
 |glb b=>obtain rfl:=r.glb;exact q
 |_=>cases q
def MJ:∀{ds:List D}{vs:List Val}{cs:List Cl},Rds P h ds vs->yA vs=some cs->ds.mapM clD=some cs:=by
 intro ds;induction ds with
 |nil=>intro vs cs r q;cases r;cases q;rfl
 |
  cons d0 ds ih=>
  intro vs cs r q;cases r with
  |
   cons r rr=>
   unfold yA at q;split at q
   .rename_i c cs' e1 e2;cases q;rw[Sw,FC (.inl r) e1,ih rr e2];rfl
   .cases q
def Jg(kt:jG):RFn (uD kt) (D5 kt):=λP h ds vs r=>by
 unfold D5;split
 .rename_i v c;obtain⟨d,d',rfl,r1,r2⟩:=nE r;split
  .rename_i t c0 cr e1 e2;have e3:=Qg r1 e1;split
   .rename_i b b' e4 e5;refine⟨.bl b,?_,.bl b⟩;unfold uD;dsimp only;rw[e3];dsimp only;by_cases ht:∃cs,c=.tup cs
    .obtain⟨cs,rfl⟩:=ht;obtain⟨es,rfl,q⟩:=r2.tup;dsimp only;rw[MJ q e2];dsimp only;rw[e4,e5]
    .have e2':(clV c).map ([·])=some (c0::cr):=by
      cases c with
      |tup cs=>exact absurd ⟨cs,rfl⟩ ht
      |_=>exact e2
     obtain⟨cl,y1,y2⟩:=L_.mp e2';cases y2;have y3:=FC r2 y1;have hd:∀cs,d' ≠ .tup cs:=λcs z=>by subst z;cases y3
     split
     .rename_i cs;exact absurd rfl (hd cs)
     .rw[y3];dsimp only;have:kit kt t c0=some b:=by
       unfold fP at e4;rw[e5] at e4 ⊢;cases b' with
       |true=>exact e4
       |false=>unfold fP at e4;exact e4
      rw[this]
   .trivial
  .trivial
 .trivial
noncomputable def g6(xs:List Val)(lo hi:Option Int):List Val:=(xs.drop (HT.sIx xs.length 0 lo)).take (HT.sIx xs.length xs.length hi-HT.sIx xs.length 0 lo)
abbrev MO3:=E3->R3 (Option Int)
def CA(_:Ns)(_:E3)(_:AH)(b c:Option Int):Prop:=b=c
def ROp(F:MO)(G:MO3):Prop:=∀X h0 ns e ae h,Sat X h0 ns e ae h->Po X h0 ns e ae h CA (F ae h) (G e)
def zg:MO3:=λe=>.ok none e
noncomputable def A1(F:ME3):MO3:=λe=>(F e).bind λt e1=>match rs e1 t with
 |some (.int i)=>.ok (some i) e1
 |_=>.stuck
noncomputable def aSl(x:Val)(lo hi:Option Int):Bv:=match x with
 |.tup xs=>if HT.sIx xs.length 0 lo=0/\HT.sIx xs.length xs.length hi=xs.length then .stuck else .val (.tup (g6 xs lo hi))
 |.lst xs=>.new (.lst (g6 xs lo hi))
 |.kl xs=>.new (.lst (g6 xs lo hi))
 |_=>.stuck
noncomputable def vSl(F:ME3)(L U:MO3):ME3:=λe=>(F e).bind λt e1=>(L e1).bind λlo e2=>(U e2).bind λhi e3=>match rs e3 t.drop with
 |some v=>(aSl v lo hi).at e3
 |none=>.stuck
def F4:ROp yJ zg:=λX h0 ns e ae h S=>Po.ret S rfl
def HM(hF:RE F F3):ROp (xH F) (A1 F3):=λX h0 ns e ae h S=>
 Po.bind S (hF X h0 0 ns e ae h S (QH _)) λd t h1 ns1 e1 a1 S1 r1=>by
  by_cases hq:∃i,rs e1 t=some (.int i)
  .obtain⟨i,hq⟩:=hq;have hd:=(r1.sh S1 hq).int;subst hd;show Po X h0 ns1 e1 ae h1 CA (R.ok (some i) h1) (match rs e1 t with |some (.int i)=>R3.ok (some i) e1 |_=>.stuck);rw[hq];exact Po.ret S1 rfl
  .have:(match rs e1 t with |some (.int i)=>R3.ok (some i) e1 |_=>.stuck)=(.stuck:R3 (Option Int)):=by
    split
    .rename_i i q;exact absurd ⟨i,q⟩ hq
    .rfl
   show Po X h0 ns1 e1 ae h1 CA _ (match rs e1 t with |some (.int i)=>R3.ok (some i) e1 |_=>.stuck);rw[this];trivial
def OW(hF:RE F F3)(hL:ROp L L3')(hU:ROp U U3):RE (eSl F L U) (vSl F3 L3' U3):=λX h0 LL ns e ae h S hl=>
 Po.bind
  S (hF X h0 LL ns e ae h S hl) λd t h1 ns1 e1 a1 S1 r1=>Po.bind S1 (hL X h0 ns1 e1 ae h1 S1) λlo lo' h2 im e2 a2 S2 r2=>Po.bind S2 (hU X h0 im e2 ae h2 S2) λhi hi' h3 ns3 e3 a3 S3 r3=>by
  cases r2;cases r3;obtain⟨r1',hn⟩:=r1.drop;have r4:=(r1'.stp S1 a2 hn).stp S2 a3 hn;try dsimp only
  split
  .rename_i v q;have rr:=r4.sh S3 q;refine BvR.po S3 (F_ hl (F_ a1.len (F_ a2.len a3.len))) ?_;unfold aSl;split
   .rename_i xs;obtain⟨ds,rfl,q1⟩:=rr.tup;split
    .trivial
    .rename_i hne;refine⟨_,by unfold gSl;dsimp only;rw[if_neg (by rw[q1.len];exact hne)],.tup ?_⟩;unfold L2.cutD g6;rw[q1.len];exact (q1.drop _).take _
   .rename_i xs;obtain⟨n,ds,rfl,_,e1,q1⟩:=rr.lst;refine⟨.lst (L2.cutD ds lo hi),by unfold gSl;dsimp only;rw[e1],trivial,.lst ?_⟩;unfold L2.cutD g6;rw[q1.len];exact (q1.drop _).take _
   .rename_i xs;have key:∃ds,gSl d lo hi h3=.ok (.ref h3.length) (h3++[.lst (L2.cutD ds lo hi)])/\Rds (Oc X ns3) h3 ds xs:=by
     rcases rr with rr |⟨n,o,rfl,e,rr⟩
     .cases rr with
      |kl q1=>exact⟨_,rfl,q1⟩
      |cell p e rc=>cases rc with |fz q1=>exact⟨_,by unfold gSl aM;dsimp only;rw[e],q1⟩
     .cases rr with |fz q1=>exact⟨_,by unfold gSl aM;dsimp only;rw[e],q1⟩
    obtain⟨ds,e1,q1⟩:=key;refine⟨.lst (L2.cutD ds lo hi),e1,trivial,.lst ?_⟩;unfold L2.cutD g6;rw[q1.len];exact (q1.drop _).take _
   .trivial
  .trivial
noncomputable def n6:Val->List Val->Option (Val×Val):=λu vs=>match u,vs with
 |.lst xs,[v]=>if xs.length<16777216 then some (.lst (xs++[v]),.non) else none
 |_,_=>none
noncomputable def rE:Val->List Val->Option (Val×Val):=λu vs=>match u,vs with
 |.lst xs,[]=>(match xs[xs.length-1]? with
  |some v=>some (.lst xs.dropLast,v)
  |none=>none)
 |_,_=>none
section
variable{P:Nat->Prop}{h:AH}
def qH(e:h[n]?=some o)(r:Rc P h o (.lst xs)):jt h (.ref n)=true/\∃ds,h[n]?=some (.lst ds)/\Rds P h ds xs/\∀f,jA h (.ref n) f=f n ds:=by obtain⟨ds,e1,e2,q⟩:=Rc.seq e r;refine⟨by show (aM h n).isSome=true;rw[e2];rfl,ds,e1,q,λf=>?_⟩;unfold jA;dsimp only;rw[e1]
def BX(r:Rds P h ds [v]):∃d,ds=[d]/\Rd P h d v:=by cases r with |cons r rr=>cases rr;exact⟨_,rfl,r⟩
end
def Ai:RM ky n6:=λP h n o u ds vs u' v e hf r rs q=>by
 unfold n6 at q;split at q
 .split at q
  .rename_i hl;cases q;obtain⟨q1,es,q2,q3,q4⟩:=qH e r;obtain⟨d,rfl,rd⟩:=BX rs;refine⟨q1,.lst (es++[d]),.non,?_,trivial,.lst (q3.append (.cons rd .nil)),.non⟩;unfold ky;rw[q4];dsimp only;rw[if_pos (by rw[q3.len];exact hl)]
  .cases q
 .cases q
def Mp:RM xZ rE:=λP h n o u ds vs u' v e hf r rs q=>by
 unfold rE at q;split at q
 .split at q
  .rename_i w hw;cases q;obtain⟨q1,es,q2,q3,q4⟩:=qH e r;cases rs;obtain⟨d,e2,rd⟩:=q3.get hw;refine⟨q1,.lst es.dropLast,d,?_,trivial,.lst ?_,rd⟩
   .unfold xZ;rw[q4];dsimp only;rw[q3.len,e2]
   .rw[Sv,Sv,q3.len];exact q3.take _
  .cases q
 .cases q
noncomputable def sL:Val->Val->Val->Option Val:=λu i v=>match u,i with
 |.lst xs,.int k=>(match ixN xs.length k with
  |some j=>some (.lst (xs.set j v))
  |none=>none)
 |_,_=>none
def K8:yW wL sL:=λP h n o u di vi d v u' _ e hf r ri rd q=>by
 unfold sL at q;split at q
 .split at q
  .rename_i j hj;cases q;obtain⟨q1,es,q2,q3,q4⟩:=qH e r;obtain rfl:=ri.int;refine⟨.lst (es.set j d),?_,trivial,.lst (q3.set rd j)⟩;unfold wL;dsimp only;rw[q2];dsimp only;rw[q3.len,hj]
  .cases q
 .cases q
noncomputable def ox(d:Val):List Val->Option (List Bool)
 | []=>some []
 |x::r=>match bz x d,ox d r with
  |some b,some bs=>some (b::bs)
  |_,_=>none
noncomputable def ja:Val->List Val->Bv:=λx vs=>match x,vs with
 |.lst xs,[d]=>(match ox d xs with
  |some bs=>if bs.idxOf true<bs.length then .val (.int (bs.idxOf true:Nat)) else .stuck
  |none=>.stuck)
 |_,_=>.stuck
def Of(rd:ShR P h d v):∀{ds:List D}{vs:List Val}{bs:List Bool},Rds P h ds vs->ox v vs=some bs->gz h d ds=some bs:=by
 intro ds;induction ds with
 |nil=>intro vs bs r q;cases r;cases q;rfl
 |
  cons d0 ds ih=>
  intro vs bs r q;cases r with
  |
   cons r rr=>
   unfold ox at q;split at q
   .rename_i b bs' e1 e2;cases q;unfold gz;rw[AR (.inl r) rd e1,ih rr e2]
   .cases q
def Bb:RMv jY ja:=λP h d v ds vs r hv rs=>by
 unfold ja;split
 .rename_i xs w;obtain⟨n,es,rfl,_,e1,q⟩:=r.lst;obtain⟨d',rfl,r'⟩:=eB rs;split
  .rename_i bs eb;split
   .rename_i hl;refine⟨_,?_,.int _⟩;unfold jY;dsimp only;rw[e1];show (match gz h d' es with |some bs=>_ |none=>_)=_;rw[Of r' q eb];dsimp only;rw[if_pos hl]
   .trivial
  .trivial
 .trivial
noncomputable def vD0:ME3:=λe=>.ok (.new (.dct [])) e
def OU:RE eD0 vD0:=λX h0 L ns e ae h S hl=>BvR.po (r:=eD0 ae h) (b:=.new (.dct [])) S hl ⟨.dct [],rfl,trivial,.dct .nil⟩
structure PEx where
 F:ME
 G:ME3
 ok:RE F G
structure PTs where
 F:MT
 G:MT3
 ok:RT F G
structure PAs where
 F:MA
 G:MA3
 ok:RA F G
structure PSt where
 F:MS
 G:MS3
 ok:RS F G
structure PGt where
 F:MG
 G:MG3
 ok:RG F G
structure PGs where
 F:MGs
 G:jy
 ok:RGs F G
structure PIt where
 F:MI
 G:MI3
 ok:RI F G
structure POp where
 F:MO
 G:MO3
 ok:ROp F G
structure PO2 where
 F:D->D->AH->R D
 G:Val->Val->Bv
 ok:RO F G
structure PU1 where
 F:D->AH->R D
 G:Val->Bv
 ok:RU F G
structure PBf where
 F:Fn
 G:List Val->Bv
 ok:RFn F G
structure PMm where
 F:D->List D->AH->R D
 G:Val->List Val->Option (Val×Val)
 ok:RM F G
structure PMv where
 F:D->List D->AH->R D
 G:Val->List Val->Bv
 ok:RMv F G
structure PSe where
 F:D->D->D->AH->R Unit
 G:Val->Val->Val->Option Val
 ok:yW F G
structure PFn where
 ms:List Bool
 F:Fn
 G:Fn3
 ok:RF ms F G
structure PFx(ms:List Bool) where
 F:Fn
 G:Fn3
 ok:RF ms F G
noncomputable section
def PFx.fn{ms:List Bool}(p:PFx ms):PFn:=⟨ms,p.F,p.G,p.ok⟩
def af(i:Nat):PEx:=⟨bo i,CF i,Nr i⟩
noncomputable def ah(i:Int):PEx:=⟨eC (.int i),vC (.int i),ou λ_ _=>.int i⟩
noncomputable def pBl(i:Bool):PEx:=⟨eC (.bl i),vC (.bl i),ou λ_ _=>.bl i⟩
def bu(i:Str):PEx:=⟨eC (.str i),vC (.str i),ou λ_ _=>.str i⟩
def pTy(i:String):PEx:=⟨eC (.ty i),vC (.ty i),ou λ_ _=>.ty i⟩
def xf(i:Str):PEx:=⟨eC (.glb i),vC (.glb i),ou λ_ _=>.glb i⟩
noncomputable def nM(d:D)(v:Val)(r:∀P h,Rd P h d v):PEx:=⟨eC d,vC v,ou r⟩
noncomputable def pUn(o:PU1)(a:PEx):PEx:=⟨eUn o.F a.F,vUn o.G a.G,NP o.ok a.ok⟩
noncomputable def pOp(o:PO2)(a b:PEx):PEx:=⟨eOp o.F a.F b.F,vOp o.G a.G b.G,OV o.ok a.ok b.ok⟩
def ag:PAs:=⟨j9,oT,AS⟩
noncomputable def aa(a:PEx)(r:PAs):PAs:=⟨jD a.F r.F,Fp a.G r.G,Gr a.ok r.ok⟩
noncomputable def pFn(o:PBf)(a:PAs):PEx:=⟨eFn o.F a.F,vFn o.G a.G,NS o.ok a.ok⟩
noncomputable def bI(a:PAs):PEx:=⟨eFn nj a.F,vTup a.G,Nk a.ok⟩
noncomputable def dU(a:PAs):PEx:=⟨eFn dP a.F,vLst a.G,KY a.ok⟩
noncomputable def jH(a b:PEx):PEx:=⟨Co a.F b.F,vAnd a.G b.G,Jj a.ok b.ok⟩
noncomputable def Cd(a:PEx):PEx:=⟨BN a.F,vNot a.G,KQ a.ok⟩
noncomputable def qOf(a:PEx):PTs:=⟨tOf a.F,cOf a.G,N3 a.ok⟩
noncomputable def qTr(a:PEx):PTs:=⟨tTr a.F,cTr a.G,N8 a.ok⟩
noncomputable def qAn(a b:PTs):PTs:=⟨tAn a.F b.F,cAn a.G b.G,Qw a.ok b.ok⟩
noncomputable def qO(a b:PTs):PTs:=⟨tO a.F b.F,cO a.G b.G,rt_o a.ok b.ok⟩
noncomputable def qNo(a:PTs):PTs:=⟨tNo a.F,cNo a.G,P4 a.ok⟩
def qY:PTs:=⟨tY,cY,rt_y⟩
noncomputable def xNx:PSt:=⟨sNx,wNx,Oz⟩
def xBk:PSt:=⟨sBk,wBk,Pb⟩
def xK:PSt:=⟨xD,E8,FN⟩
noncomputable def ar(a:PEx):PSt:=⟨El a.F,wRet a.G,Mh a.ok⟩
noncomputable def aT(a:PEx):PSt:=⟨xr a.F,Fy a.G,Gu a.ok⟩
noncomputable def aj(a b:PSt):PSt:=⟨CI a.F b.F,wSeq a.G b.G,Ng a.ok b.ok⟩
noncomputable def xIf(c:PTs)(a b:PSt):PSt:=⟨sIf c.F a.F b.F,wIf c.G a.G b.G,NY c.ok a.ok b.ok⟩
noncomputable def aw(o:Bool)(i:Nat)(a:PEx):PSt:=⟨iC a.F (gN i),wAsg o i a.G,MF o i a.ok⟩
def gtN(i:Nat):PGt:=⟨gN i,pN i,yH i⟩
def eV:PGs:=⟨gsN,psN,NH⟩
noncomputable def ba(a:PGt)(b:PGs):PGs:=⟨gsC a.F b.F,psC a.G b.G,OP a.ok b.ok⟩
noncomputable def gtT(n:Nat)(a:PGs):PGt:=⟨gT λds ae h=>if ds.length=n then a.F ds ae h else .stuck,pT n a.G,rg_t n a.ok⟩
noncomputable def gtX(a:PGt):PGt:=⟨λd ae h=>noX (a.F d ae h),a.G,Ky a.ok⟩
noncomputable def jC(a:PEx)(g:PGt):PSt:=⟨iC a.F g.F,FA a.G g.G,Hj a.ok g.ok⟩
noncomputable def gv(i j:Nat)(a:PAs):PSt:=⟨CW i j a.F,wPar i j a.G,Kk i j a.ok⟩
noncomputable def tW(i:Nat)(o:PO2)(a:PEx):PSt:=⟨so i o.F a.F,Ey i o.G a.G,Ms i o.ok a.ok⟩
noncomputable def eO(c:Str)(a:PAs):PSt:=⟨tP c a.F,Bf c a.G,DU c a.ok⟩
noncomputable def sU(i:Nat)(w:PSe)(k a:PEx):PSt:=⟨iC a.F (gS (bo i) k.F w.F),wSet i k.G a.G w.G,Lu i w.ok k.ok a.ok⟩
noncomputable def lL(i:Nat)(m:PMm)(a:PAs):PEx:=⟨eM m.F (bo i) a.F,mC i m.G a.G,Aa i m.ok a.ok⟩
noncomputable def qU(i:Nat)(m:PMm):PEx:=⟨eM0 m.F (bo i),mC i m.G oT,Hd i m.ok⟩
noncomputable def yK(m:PMv)(a:PEx)(b:PAs):PEx:=⟨eM m.F a.F b.F,E9 m.G a.G b.G,GS m.ok a.ok b.ok⟩
noncomputable def b9(a:PEx):PIt:=⟨Dx a.F,Fv a.G,MN a.ok⟩
def nI(a:PAs):PIt:=⟨C0 a.F,sF jr a.G,IZ a.ok⟩
def yf(a:PAs):PIt:=⟨Dg a.F,sF oP a.G,Ly a.ok⟩
noncomputable def xi(a:PAs):PIt:=⟨Dl a.F,Fi a.G,Np a.ok⟩
def jn(i:PIt)(g:PGt)(b:PSt):PSt:=⟨EB i.F g.F b.F,wFor i.G g.G b.G,Nq i.ok g.ok b.ok⟩
def xWh(c:PTs)(b:PSt):PSt:=⟨sWh c.F b.F,wWh c.G b.G,N5 c.ok b.ok⟩
def pLC(i:PIt)(sub:Ud)(hs:(sub.filterMap id).Nodup)(g:PGt)(c:PTs)(a:PEx):PEx:=⟨eLC i.F sub g.F c.F a.F,vLC i.G sub g.G c.G a.G,Qj hs i.ok g.ok c.ok a.ok⟩
noncomputable def ai(f:PFn)(a:PAs):PEx:=⟨qS f.ms.length f.F a.F,qI f.ms f.G a.G,wm rfl f.ok a.ok⟩
def oN:POp:=⟨yJ,zg,F4⟩
noncomputable def oS(a:PEx):POp:=⟨xH a.F,A1 a.G,HM a.ok⟩
noncomputable def pSl(a:PEx)(l u:POp):PEx:=⟨eSl a.F l.F u.F,vSl a.G l.G u.G,OW a.ok l.ok u.ok⟩
def pD0:PEx:=⟨eD0,vD0,OU⟩
noncomputable def PFx.none(ms:List Bool)(N:Nat:=0):PFx ms:=⟨λ_ _=>.stuck,λ_=>.stuck,λ_ _ _ _ _ _ _=>trivial⟩
noncomputable def PFx.of(ms:List Bool)(N:Nat)(c:PSt):PFx ms:=⟨fnD N c.F,fnV ms N c.G,EZ c.ok⟩
def fnP(ms:List Bool)(N:Nat)(c:PSt):PFn:=⟨ms,fnD N c.F,fnV ms N c.G,EZ c.ok⟩
noncomputable def a8:PO2:=⟨zd,CC,LD⟩
noncomputable def fg:PO2:=⟨B5,aMin,Nv⟩
def bq:PO2:=⟨Ea,xG,MP⟩
def jK:PO2:=⟨Eo,xx,MD⟩
def cz:PO2:=⟨DR,xE,Jf⟩
def gm:PO2:=⟨BY,yX,Lm⟩
def sH:PO2:=⟨D6,xU,K0⟩
noncomputable def bLt:PO2:=⟨gLt,aLt,NI⟩
noncomputable def bGt:PO2:=⟨gGt,aGt,Qu⟩
noncomputable def bGe:PO2:=⟨gGe,aGe,PJ⟩
noncomputable def bIx:PO2:=⟨gIx,aIx,QE⟩
noncomputable def bEq:PO2:=⟨gEq false,aEq false,EY false⟩
noncomputable def bNe:PO2:=⟨gEq true,aEq true,EY true⟩
noncomputable def bIn:PO2:=⟨gIn false,aIn false,Fe false⟩
noncomputable def D1:PO2:=⟨gIn true,aIn true,Fe true⟩
noncomputable def bIs:PO2:=⟨D4 false,EE false,Ln false⟩
noncomputable def rC:PO2:=⟨gI λi j=>.int (i+j),aI λi j=>.int (i+j),t9 λ_ _ _ _=>.int _⟩
noncomputable def Cr:PU1:=⟨xC,BV,Nn⟩
def bj:PBf:=⟨uB,DB,Mq⟩
def eG:PBf:=⟨yr,BR,K7⟩
def ur:PBf:=⟨qF,xj,HW⟩
def tS:PBf:=⟨qZ,xn,HV⟩
def qX:PBf:=⟨tF,Cm,M7⟩
def cJ:PBf:=⟨rq,Dz,LZ⟩
def nU:PBf:=⟨ku,uX,ED⟩
def qT:PBf:=⟨xg,BO,LJ⟩
def bC(kt:jG):PBf:=⟨uD kt,D5 kt,Jg kt⟩
noncomputable def gQ:PMm:=⟨ky,n6,Ai⟩
noncomputable def qW:PMm:=⟨xZ,rE,Mp⟩
noncomputable def kU:PMv:=⟨jY,ja,Bb⟩
noncomputable def seL:PSe:=⟨wL,sL,K8⟩
end
theorem om:∀(ns:List Int),Rds P h (ns.map D.int) (ns.map Val.int)
 | []=>.nil
 |_::r=>.cons (.int _) (om r)
def law3(p:PFn)(hm:p.ms=[false])(hG:∀ns:List Int,ns.length<=63->p.G [.kl (ns.map .int)]=.ok (.val (.bl true)) [])(d:D)(h:AH)(ns:List Int)(hl:ns.length<=63)(sc:Script h d ns):∃h',p.F [d] h=.ok (.bl true) h':=by
 have hp:=p.ok;rw[hm] at hp;have rd:Rd (Oc (λ_=>False) [none]) h d (.kl (ns.map .int)):=by
  rcases sc.form with ⟨n,rfl,e⟩ |rfl
  .exact .cell ⟨λz=>z,by simp⟩ e (.fz (om ns))
  .exact .kl (om ns)
 have S:Sat (λ_=>False) h.length [none] (sls [false] [.kl (ns.map .int)]) ([d].map some) h:=by
  refine⟨rfl,rfl,p_ _,λ_ z=>z.elim,λi j n q=>?_,λi n q z=>z,λi s q=>?_⟩
  .cases i with
   |zero=>simp at q
   |succ i=>simp at q
  .cases i with
   |
    zero=>
    have:sl1 false (.kl (ns.map .int))=s:=by simpa [sls] using q
    subst this;exact⟨rfl,d,rfl,rd⟩
   |succ i=>simp [sls] at q
 have:=hp _ _ [d] [.kl (ns.map .int)] h rfl S
 rw[hG ns hl] at this;obtain⟨d',h',e,_,_,r⟩:=this;cases r with
 |bl=>exact⟨h',e⟩
 |cell p e r=>cases r
section
variable(e:E3)
@[simp] theorem kN(a:α)(f:α->E3->R3 β):(R3.ok a e).bind f=f a e:=rfl
@[simp] theorem Pq(a:α)(f:α->E3->SR3):(R3.ok a e).toS f=f a e:=rfl
@[simp] theorem QB(f:E3->SR3):(SR3.nx e).then f=f e:=rfl
@[simp] theorem Ql(r:Rt)(f:E3->SR3):(SR3.rt r e).then f=.rt r e:=rfl
@[simp] theorem OA(f:E3->SR3):(SR3.bk e).then f=.bk e:=rfl
@[simp] theorem JH(c:Str)(f:E3->SR3):(SR3.exc c e).then f=.exc c e:=rfl
@[simp] theorem yD(f:E3->SR3):(SR3.nx e).loop f=f e:=rfl
@[simp] theorem OL(f:E3->SR3):(SR3.bk e).loop f=.nx e:=rfl
@[simp] theorem OM(r:SR3):r.unl none=r:=by cases r <;> rfl
@[simp] theorem Dy:lockO e none=e:=rfl
@[simp] theorem y9:fj e none=e:=rfl
@[simp] theorem ND(v:Val):(Bv.val v).at e=.ok (.val v) e:=rfl
@[simp] theorem Lg(v:Val):(Bv.new v).at e=.ok (.new v) e:=rfl
@[simp] theorem Mo(v:Val):rs e (.val v)=some v:=rfl
@[simp] theorem KS(v:Val):rs e (.new v)=some v:=rfl
@[simp] theorem IH(i:Nat):rs e (.bor i)=(e[i]?).bind Sl.val:=rfl
@[simp] theorem KL(v:Val):(Tm.val v).drop=.val v:=rfl
@[simp] theorem JC(v:Val):(Tm.new v).drop=.val v:=rfl
@[simp] theorem LO(i:Nat):(Tm.bor i).drop=.bor i:=rfl
@[simp] theorem HC:rss e []=some []:=rfl
@[simp] theorem Eu(t:Tm)(ts:List Tm):rss e (t::ts)=match rs e t,rss e ts with
 |some v,some vs=>some (v::vs)
 |_,_=>none:=rfl
@[simp] theorem J1(v:Val):cE e (.val v)=some (e,v):=rfl
@[simp] theorem NC(v:Val):cE e (.new v)=some (e,v):=rfl
@[simp] theorem zo:dem e []=some (e,[]):=rfl
@[simp] theorem GI(t:Tm)(ts:List Tm):dem e (t::ts)=match cE e t with
 |some (e1,v)=>match dem e1 ts with
  |some (e2,vs)=>some (e2,v::vs)
  |none=>none
 |none=>none:=rfl
@[simp] theorem Lk(b:Bool):bOf (some (.bl b))=some b:=rfl
@[simp] theorem Qx(i:Nat):(af i).G e=match e[i]? with
 |some (.sh v)=>.ok (.val v) e
 |some .no=>.stuck
 |some _=>.ok (.bor i) e
 |none=>.stuck:=rfl
@[simp] theorem Qh(i:Int):(ah i).G e=.ok (.val (.int i)) e:=rfl
@[simp] theorem v_bl(i:Bool):(pBl i).G e=.ok (.val (.bl i)) e:=rfl
@[simp] theorem Pw(i:Str):(bu i).G e=.ok (.val (.str i)) e:=rfl
@[simp] theorem v_ty(i:String):(pTy i).G e=.ok (.val (.ty i)) e:=rfl
@[simp] theorem Qb(i:Str):(xf i).G e=.ok (.val (.glb i)) e:=rfl
@[simp] theorem v_un(o:PU1)(a:PEx):(pUn o a).G e=(a.G e).bind λt e1=>match rs e1 t with
 |some v=>(o.G v).at e1
 |none=>.stuck:=rfl
@[simp] theorem v_op(o:PO2)(a b:PEx):(pOp o a b).G e=(a.G e).bind λt1 e1=>(b.G e1).bind λt2 e2=>match rs e2 t1.drop,rs e2 t2 with
 |some v1,some v2=>(o.G v1 v2).at e2
 |_,_=>.stuck:=rfl
@[simp] theorem Py:ag.G e=.ok [] e:=rfl
@[simp] theorem KG(a:PEx)(r:PAs):(aa a r).G e=(a.G e).bind λt e1=>(r.G e1).bind λts e2=>.ok (t.drop::ts) e2:=rfl
@[simp] theorem v_fn(o:PBf)(a:PAs):(pFn o a).G e=(a.G e).bind λts e1=>match rss e1 ts with
 |some vs=>(o.G vs).at e1
 |none=>.stuck:=rfl
@[simp] theorem Qe(a:PAs):(bI a).G e=(a.G e).bind λts e1=>match dem e1 ts with
 |some (e2,vs)=>if vs.length<=16777216 then .ok (.val (.tup vs)) e2 else .stuck
 |none=>.stuck:=rfl
@[simp] theorem Oi(a:PAs):(dU a).G e=(a.G e).bind λts e1=>match dem e1 ts with
 |some (e2,vs)=>if vs.length<=16777216 then .ok (.new (.lst vs)) e2 else .stuck
 |none=>.stuck:=rfl
@[simp] theorem O2(a b:PEx):(jH a b).G e=(a.G e).bind λt e1=>match bOf (rs e1 t) with
 |some true=>b.G e1
 |some false=>.ok (.val (.bl false)) e1
 |none=>.stuck:=rfl
@[simp] theorem OD(a:PEx):(Cd a).G e=(a.G e).bind λt e1=>match bOf (rs e1 t) with
 |some b=>.ok (.val (.bl (!b))) e1
 |none=>.stuck:=rfl
@[simp] theorem c_of(a:PEx):(qOf a).G e=(a.G e).bind λt e1=>match bOf (rs e1 t) with
 |some b=>.ok b e1
 |none=>.stuck:=rfl
@[simp] theorem c_tr(a:PEx):(qTr a).G e=(a.G e).bind λt e1=>match (rs e1 t).bind lM with
 |some b=>.ok b e1
 |none=>.stuck:=rfl
@[simp] theorem c_an(a b:PTs):(qAn a b).G e=(a.G e).bind λk e1=>if k=true then b.G e1 else .ok false e1:=rfl
@[simp] theorem c_o(a b:PTs):(qO a b).G e=(a.G e).bind λk e1=>if k=true then .ok true e1 else b.G e1:=rfl
@[simp] theorem c_no(a:PTs):(qNo a).G e=(a.G e).bind λk e1=>.ok (!k) e1:=rfl
@[simp] theorem x_nx:xNx.G e=.nx e:=rfl
@[simp] theorem x_bk:xBk.G e=.bk e:=rfl
@[simp] theorem KO:xK.G e=.rt (.val .non) e:=rfl
@[simp] theorem OX(a:PEx):(ar a).G e=(a.G e).toS o6:=rfl
@[simp] theorem Hk(v:Val):o6 (.val v) e=.rt (.val v) e:=rfl
@[simp] theorem H0(v:Val):o6 (.new v) e=.rt (.new v) e:=rfl
@[simp] theorem HR(i:Nat):o6 (.bor i) e=match e[i]? with
 |some (.sh v)=>.rt (.val v) e
 |some (.ow v)=>.rt (.new v) (e.set i .no)
 |some (.mu _)=>.rt (.par i) e
 |_=>.stuck:=rfl
@[simp] theorem MC(a:PEx):(aT a).G e=(a.G e).toS λ_ e1=>.nx e1:=rfl
@[simp] theorem FF(a b:PSt):(aj a b).G e=(a.G e).then b.G:=rfl
@[simp] theorem x_if(c:PTs)(a b:PSt):(xIf c a b).G e=(c.G e).toS λk e1=>if k=true then a.G e1 else b.G e1:=rfl
@[simp] theorem Ow(o:Bool)(i:Nat)(a:PEx):(aw o i a).G e=(a.G e).toS (iM o i):=rfl
@[simp] theorem NM:Sl.no.pl=true:=rfl
@[simp] theorem Qz(v:Val):(Sl.sh v).pl=true:=rfl
@[simp] theorem HA(o:Bool)(i:Nat)(v:Val):iM o i (.val v) e=match e[i]? with
 |some s0=>if s0.pl=true then .nx (e.set i (.sh v)) else .stuck
 |none=>.stuck:=by unfold iM;rfl
@[simp] theorem Dp(i:Nat)(v:Val):iM true i (.new v) e=match e[i]? with
 |some s0=>if s0.pl=true then .nx (e.set i (.ow v)) else .stuck
 |none=>.stuck:=by unfold iM;rfl
@[simp] theorem BZ(i:Nat)(v:Val):iM false i (.new v) e=match e[i]? with
 |some s0=>if s0.pl=true then .nx (e.set i (.sh v)) else .stuck
 |none=>.stuck:=by unfold iM;rfl
@[simp] theorem g_n(i:Nat)(v:Val):(gtN i).G v e=match e[i]? with
 |some s=>if s.pl=true then some (e.set i (.sh v)) else none
 |none=>none:=rfl
@[simp] theorem g_sn:eV.G [] e=some e:=rfl
@[simp] theorem g_sc(a:PGt)(b:PGs)(v:Val)(vs:List Val):(ba a b).G (v::vs) e=(a.G v e).bind λe1=>b.G vs e1:=rfl
@[simp] theorem g_t(n:Nat)(a:PGs)(vs:List Val):(gtT n a).G (.tup vs) e=if vs.length=n then a.G vs e else none:=rfl
@[simp] theorem g_x(a:PGt)(v:Val):(gtX a).G v e=a.G v e:=rfl
@[simp] theorem IP(a:PEx)(g:PGt):(jC a g).G e=(a.G e).toS λt e1=>match cE e1 t with
 |some (e2,v)=>match g.G v e2 with
  |some e3=>.nx e3
  |none=>.stuck
 |none=>.stuck:=rfl
@[simp] theorem P9(i j:Nat)(a:PAs):(gv i j a).G e=(a.G e).toS λts e1=>match dem e1 ts with
 |some (e2,[v,u])=>match (pN i v e2).bind (pN j u) with
  |some e3=>.nx e3
  |none=>.stuck
 |_=>.stuck:=rfl
@[simp] theorem OI(i:Nat)(v:Val):pN i v e=match e[i]? with
 |some s=>if s.pl=true then some (e.set i (.sh v)) else none
 |none=>none:=rfl
@[simp] theorem O3(i:Nat)(o:PO2)(a:PEx):(tW i o a).G e=match e[i]? with
 |some (.sh x)=>(a.G e).toS λt e1=>match rs e1 t with
  |some y=>match o.G x y with
   |.val z=>match pN i z e1 with
    |some e2=>.nx e2
    |none=>.stuck
   |_=>.stuck
  |none=>.stuck
 |_=>.stuck:=rfl
@[simp] theorem HU(c:Str)(a:PAs):(eO c a).G e=(a.G e).toS λts e1=>if ts.length<=16777216 then .exc c e1 else .stuck:=rfl
@[simp] theorem Om(i:Nat)(w:PSe)(k a:PEx):(sU i w k a).G e=(a.G e).toS λt e1=>match (e1[i]?).bind Sl.mv with
 |none=>.stuck
 |some _=>(k.G e1).toS λt2 e2=>match rs e2 t2 with
  |none=>.stuck
  |some vi=>match cE e2 t.drop with
   |none=>.stuck
   |some (e3,v)=>match e3[i]? with
    |none=>.stuck
    |some s=>match s.mv with
     |none=>.stuck
     |some u=>match w.G u vi v with
      |some u'=>.nx (e3.set i (s.re u'))
      |none=>.stuck:=rfl
@[simp] theorem P0(v:Val):(Sl.ow v).mv=some v:=rfl
@[simp] theorem NW(v:Val):(Sl.mu v).mv=some v:=rfl
@[simp] theorem Qa(v u:Val):(Sl.ow v).re u=.ow u:=rfl
@[simp] theorem P7(v u:Val):(Sl.mu v).re u=.mu u:=rfl
@[simp] theorem JR(v:Val):(Sl.ow v).val=some v:=rfl
@[simp] theorem M8(v:Val):(Sl.mu v).val=some v:=rfl
@[simp] theorem Oe(i:Nat)(m:PMm)(a:PAs):(lL i m a).G e=match e[i]? with
 |some s=>if (s.mv.map dZ)=some true then (a.G e).bind λts e1=>match dem e1 ts with
  |some (e2,vs)=>match e2[i]? with
   |some s2=>match s2.mv with
    |some u=>match m.G u vs with
     |some (u',v)=>.ok (.val v) (e2.set i (s2.re u'))
     |none=>.stuck
    |none=>.stuck
   |none=>.stuck
  |none=>.stuck else .stuck
 |none=>.stuck:=rfl
@[simp] theorem NA(i:Nat)(m:PMm):(qU i m).G e=match e[i]? with
 |some s=>if (s.mv.map dZ)=some true then (match s.mv with
  |some u=>match m.G u [] with
   |some (u',v)=>.ok (.val v) (e.set i (s.re u'))
   |none=>.stuck
  |none=>.stuck) else .stuck
 |none=>.stuck:=by
 show mC i m.G oT e=_;unfold mC;cases q:e[i]? with
 |none=>rfl
 |
  some s=>
  dsimp only;split
  .simp only[oT,kN,zo,q];try rfl
  .rfl
@[simp] theorem EC(xs:List Val):dZ (.lst xs)=true:=rfl
@[simp] theorem Mz(m:PMv)(a:PEx)(b:PAs):(yK m a b).G e=(a.G e).bind λt e1=>if (rs e1 t).map dZ=some true then (b.G e1).bind λts e2=>(match rs e2 t.drop,rss e2 ts with
 |some v,some vs=>if dZ v=true then (m.G v vs).at e2 else .stuck
 |_,_=>.stuck) else .stuck:=rfl
@[simp] theorem Pf(a:PEx):(b9 a).G e=(a.G e).bind λt e1=>match fS t e1 with
 |some p=>.ok p e1
 |none=>.stuck:=rfl
@[simp] theorem Pt(a:PAs):(xi a).G e=(a.G e).bind λts e1=>match ts with
 | [t,u]=>(match fS t e1,fS u e1 with
  |some (xs,k),some (ys,none)=>.ok (List.zipWith (λx y=>.tup [x,y]) xs ys,k) e1
  |_,_=>.stuck)
 |_=>.stuck:=rfl
@[simp] theorem Ji(v:Val):fS (.val v) e=(ij v).map λxs=>(xs,none):=rfl
@[simp] theorem J5(v:Val):fS (.new v) e=(ij v).map λxs=>(xs,none):=rfl
@[simp] theorem Jv(xs:List Val):ij (.tup xs)=some xs:=rfl
@[simp] theorem Ke(xs:List Val):ij (.lst xs)=some xs:=rfl
@[simp] theorem QC(a:PAs):(nI a).G e=(a.G e).bind λts e1=>match (rss e1 ts).bind jr with
 |some xs=>.ok (xs,none) e1
 |none=>.stuck:=rfl
@[simp] theorem PL(a:PAs):(yf a).G e=(a.G e).bind λts e1=>match (rss e1 ts).bind oP with
 |some xs=>.ok (xs,none) e1
 |none=>.stuck:=rfl
@[simp] theorem Qf(i:PIt)(g:PGt)(b:PSt):(jn i g b).G e=(i.G e).toS λp e1=>(fJ g.G b.G p.1 (lockO e1 p.2)).unl p.2:=rfl
@[simp] theorem gF(g:MG3)(B:MS3):fJ g B [] e=.nx e:=rfl
theorem fb(g:MG3)(B:MS3)(v:Val)(vs:List Val):fJ g B (v::vs) e=match g v e with
 |some e1=>(B e1).loop (fJ g B vs)
 |none=>.stuck:=rfl
def gu(c:PTs)(b:PSt):(xWh c b).G e=(c.G e).toS λk e1=>if k=true then (b.G e1).loop (xWh c b).G else .nx e1:=CT c.G b.G e
@[simp] theorem v_lc(i:PIt)(sub:Ud)(hs:(sub.filterMap id).Nodup)(g:PGt)(c:PTs)(a:PEx):(pLC i sub hs g c a).G e=(i.G e).bind λp e1=>match lcV g.G c.G a.G p.1 [] (b0 sub (lockO e1 p.2)) with
 |.ok ys e2=>if ys.length<=16777216 then .ok (.new (.lst ys)) (fj (bg sub e2 (lockO e1 p.2)) p.2) else .stuck
 |_=>.stuck:=rfl
@[simp] theorem JI(f:PFn)(a:PAs):(ai f a).G e=(a.G e).bind λts e1=>match rss e1 ts with
 |none=>.stuck
 |some vs=>if okA e1 f.ms ts=true then (match f.G vs with
  |.stuck=>.stuck
  |.ok r mv=>if (aU e1 f.ms ts).isEmpty || (kG r&&mv.all dg) then .ok (r.tm ts) (bg (bY f.ms ts) (aG f.ms mv) e1) else (match oW e1 (aU e1 f.ms ts) with
   |some e2=>.ok (r.tm ts) (bg (bY f.ms ts) (aG f.ms mv) e2)
   |none=>.stuck)
  |.exc c mv=>if (aU e1 f.ms ts).isEmpty || mv.all dg then .exc c (bg (bY f.ms ts) (aG f.ms mv) e1) else .stuck) else .stuck:=rfl
@[simp] theorem IU(ts:List Tm)(v:Val):(Rt.val v).tm ts=.val v:=rfl
@[simp] theorem IC(ts:List Tm)(v:Val):(Rt.new v).tm ts=.new v:=rfl
@[simp] theorem o_n:oN.G e=.ok none e:=rfl
@[simp] theorem o_s(a:PEx):(oS a).G e=(a.G e).bind λt e1=>match rs e1 t with
 |some (.int i)=>.ok (some i) e1
 |_=>.stuck:=rfl
@[simp] theorem v_sl(a:PEx)(l u:POp):(pSl a l u).G e=(a.G e).bind λt e1=>(l.G e1).bind λlo e2=>(u.G e2).bind λhi e3=>match rs e3 t.drop with
 |some v=>(aSl v lo hi).at e3
 |none=>.stuck:=rfl
@[simp] theorem v_d0:pD0.G e=.ok (.new (.dct [])) e:=rfl
theorem aA(ms:List Bool)(N:Nat)(c:PSt)(vs:List Val):(fnP ms N c).G vs=if vs.length=ms.length then (match c.G (sls ms vs++List.replicate (N-vs.length) .no) with
 |.nx e=>(match muV ms e with |some mv=>.ok (.val .non) mv |none=>.stuck)
 |.rt r e=>(match muV ms e with |some mv=>.ok r mv |none=>.stuck)
 |.exc c e=>(match muV ms e with |some mv=>.exc c mv |none=>.stuck)
 |_=>.stuck) else .stuck:=rfl
theorem kT(ms:List Bool)(N:Nat)(c:PSt)(vs:List Val):(PFx.of ms N c).G vs=if vs.length=ms.length then (match c.G (sls ms vs++List.replicate (N-vs.length) .no) with
 |.nx e=>(match muV ms e with |some mv=>.ok (.val .non) mv |none=>.stuck)
 |.rt r e=>(match muV ms e with |some mv=>.ok r mv |none=>.stuck)
 |.exc c e=>(match muV ms e with |some mv=>.exc c mv |none=>.stuck)
 |_=>.stuck) else .stuck:=rfl
@[simp] theorem P1(p:PFx ms):p.fn.ms=ms:=rfl
@[simp] theorem fx_G(p:PFx ms)(vs:List Val):p.fn.G vs=p.G vs:=rfl
end
@[simp] theorem P6(i j:Int):a8.G (.int i) (.int j)=.val (.int (i+j)):=rfl
@[simp] theorem Px(i j:Int):fg.G (.int i) (.int j)=.val (.int (i-j)):=rfl
@[simp] theorem k_lt(i j:Int):bLt.G (.int i) (.int j)=.val (.bl (decide (i<j))):=rfl
@[simp] theorem k_gt(i j:Int):bGt.G (.int i) (.int j)=.val (.bl (decide (j<i))):=rfl
@[simp] theorem k_ge(i j:Int):bGe.G (.int i) (.int j)=.val (.bl (decide (j<=i))):=rfl
@[simp] theorem Oq(i j:Int):rC.G (.int i) (.int j)=.val (.int (i+j)):=rfl
@[simp] theorem NG(i:Int):Cr.G (.int i)=.val (.int (-i)):=rfl
def cD(c:CMulA i j):bq.G (.int i) (.int j)=.val (.int (i*j)):=by show xG (.int i) (.int j)=_;unfold xG aIc;dsimp only;rw[if_pos c]
def kK(c:CDivB i j):jK.G (.int i) (.int j)=.val (.int (i.fdiv j)):=by show xx (.int i) (.int j)=_;unfold xx aIc;dsimp only;rw[if_pos c]
def fA(c:j≠0):cz.G (.int i) (.int j)=.val (.int (i.fmod j)):=by show xE (.int i) (.int j)=_;unfold xE aIc;dsimp only;rw[if_pos c]
def qQ(c:gr i j):gm.G (.int i) (.int j)=.val (.int (i^j.toNat)):=by show yX (.int i) (.int j)=_;unfold yX aIc;dsimp only;rw[if_pos c]
def OK(c:gr i j):sH.G (.int i) (.int j)=.val (.int (i*2^j.toNat)):=by show xU (.int i) (.int j)=_;unfold xU aIc;dsimp only;rw[if_pos c]
@[simp] theorem k_ix(x:Val)(i:Int):bIx.G x (.int i)=match x.items with
 |some xs=>(match atI xs i with
  |some v=>.val v
  |none=>.stuck)
 |none=>.stuck:=by show aIx x (.int i)=_;unfold aIx;cases x.items <;> rfl
@[simp] theorem MH(xs:List Val):(Val.tup xs).items=some xs:=rfl
@[simp] theorem MY(xs:List Val):(Val.lst xs).items=some xs:=rfl
@[simp] theorem Oa(xs:List Val):(Val.kl xs).items=some xs:=rfl
@[simp] theorem k_eq(x y:Val):bEq.G x y=match bz x y with
 |some b=>.val (.bl b)
 |none=>.stuck:=by show aEq false x y=_;unfold aEq;cases bz x y <;> rfl
@[simp] theorem k_ne(x y:Val):bNe.G x y=match bz x y with
 |some b=>.val (.bl (!b))
 |none=>.stuck:=by show aEq true x y=_;unfold aEq;cases bz x y <;> rfl
@[simp] theorem E4(x y:Int):bz (.int x) (.int y)=some (x==y):=rfl
def eq_str(hx:PyData.strOk x=true)(hy:PyData.strOk y=true):bz (.str x) (.str y)=some (x==y):=by unfold bz;show (if shp (.str x)=true/\shp (.str y)=true then _ else _)=_;rw[if_pos ⟨ie hx (QH _),ie hy (QH _)⟩];rfl
@[simp] theorem k_is(x:Val):bIs.G x .non=match x with
 |.non=>.val (.bl true)
 |_=>.val (.bl false):=by cases x <;> rfl
@[simp] theorem NV(v:Val):bj.G [v]=match v.items with
 |some xs=>.val (.int xs.length)
 |none=>(match v with
  |.str z=>if z.length<=16777216 then .val (.int z.length) else .stuck
  |_=>.stuck):=rfl
@[simp] theorem NQ(i:Int):eG.G [.int i]=.val (.int (if i<0 then -i else i)):=rfl
@[simp] theorem NK(i j:Int):ur.G [.int i,.int j]=.val (.int (if j>i then j else i)):=rfl
@[simp] theorem O7(i j:Int):tS.G [.int i,.int j]=.val (.int (if j<i then j else i)):=rfl
@[simp] theorem OR(xs:List Val):qX.G [.lst xs]=match j4 xs with
 |some bs=>.val (.bl (bs.all id))
 |none=>.stuck:=rfl
@[simp] theorem NZ(xs:List Val):cJ.G [.lst xs]=match gf xs with
 |some bs=>.val (.int bs.sum)
 |none=>.stuck:=rfl
@[simp] theorem Hf(v:Val):nU.G [v]=match v.items with
 |some xs=>.val (.tup xs)
 |none=>.stuck:=rfl
@[simp] theorem Jw(b:Bool):qT.G [.bl b]=.val (.int (if b then 1 else 0)):=rfl
@[simp] theorem BL(xs:List Val)(v:Val):gQ.G (.lst xs) [v]=if xs.length<16777216 then some (.lst (xs++[v]),.non) else none:=rfl
@[simp] theorem cn:∀(bs:List Int),gf (bs.map Val.int)=some bs
 | []=>rfl
 |b::r=>by show (gf (r.map Val.int)).map (b :: ·)=_;rw[cn r];rfl
def Bw{K:W.Frag}{mg:Ua}{X:Cx}{ES:L2.St->XK}{sts:List Stmt}:DSs K mg X ES sts (λ_ _=>.stuck):=λpins s σ H D I ⟨_,_,_,_,_,p⟩=>p.elim
section
variable(K:W.Frag)(mg:Ua)(X:Cx)(ES:L2.St->XK)
@[irreducible] def DE(e:Expr)(F:ME):Prop:=L2.DE K mg X ES e F
@[irreducible] def DT(e:Expr)(F:MT):Prop:=L2.DT K mg X ES e F
@[irreducible] def DA(es:List Expr)(F:MA):Prop:=L2.DA K mg X ES es F
@[irreducible] def DS(st:Stmt)(F:MS):Prop:=L2.DS K mg X ES st F
@[irreducible] def DSs(st:List Stmt)(F:MS):Prop:=L2.DSs K mg X ES st F
@[irreducible] def DI(tg a_:Expr)(F:MI):Prop:=L2.DI K mg X ES tg a_ F
end
section
variable{K:W.Frag}{mg:Ua}{X:Cx}{ES:L2.St->XK}{e a b c o i tg a_ jp:Expr}{es:List Expr}{st:Stmt}{sts sts':List Stmt}{p q r:PEx}{A:PAs}{t u:PTs}{x y:PSt}{g:PGt}{gs:PGs}{I:PIt}{pos:Pos}
def Bt(i:Nat){x:Str}(hN:X.N[i]?=some x:=by rfl)(hv:Vis X.env.scope x:=by first |exact Or.inl rfl |exact Or.inr (Or.inl rfl) |exact Or.inr (Or.inr rfl))(hd:(x==("__debug__" : Str))=false:=by decide)(kw:(x==("__classdict__" : Str))=false:=by decide):DE K mg X ES (.Name x pos) (af i).F:=by with_unfolding_all exact Je i hN hv hd kw
def Ml{i:Int}{j:Nat}:DE K mg X ES (.Constant (.int i) j pos) (ah i).F:=by with_unfolding_all exact LG
def Pc{i:Bool}{j:Nat}:DE K mg X ES (.Constant (.bool i) j pos) (pBl i).F:=by with_unfolding_all exact Pd
def Nt{i:Str}{j:Nat}:DE K mg X ES (.Constant (.str i) j pos) (bu i).F:=by with_unfolding_all exact LX
def Mr{x:Str}(hg:Gl X x)(ha:∃a,mg x=some (.ref a))(hm:X.mg=mg:=by rfl)(hd:(x==("__debug__" : Str))=false:=by decide):DE K mg X ES (.Name x pos) (xf x).F:=by with_unfolding_all exact Kb hg ha hm hd
def Qs{x:Str}{d:D}{v:Val}{r:∀P h,Rd P h d v}(hg:Gl X x)(ha:GC K mg x d)(hm:X.mg=mg:=by rfl)(hd:(x==("__debug__" : Str))=false:=by decide):DE K mg X ES (.Name x pos) (nM d v r).F:=by with_unfolding_all exact PV hg ha hm hd
def PF{x:Str}{n:String}(hg:Gl X x)(hm:mg x=none)(hv:bootBuiltins x=some (.type n))(he:X.mg=mg:=by rfl)(hn:x ≠ "__name__":=by decide)(hd:(x==("__debug__" : Str))=false:=by decide):DE K mg X ES (.Name x pos) (pTy n).F:=by with_unfolding_all exact P8 hg hm hv he hn hd
def OC(ho:OpR X (binaryOp op) r')(hd:OpD K mg r' k.F)(ha:DE K mg X ES a p.F)(hb:DE K mg X ES b q.F):DE K mg X ES (.BinOp a op b pos) (pOp k p q).F:=by with_unfolding_all exact NO ho hd ha hb
def Pm(hr:IxR X r')(hd:OpD K mg r' k.F)(ha:DE K mg X ES a p.F)(hb:DE K mg X ES b q.F)(hs:nY b:=by exact λ_ _=>rfl):DE K mg X ES (.Subscript a b pos) (pOp k p q).F:=by with_unfolding_all exact NN hr hd ha hb hs
def Jh(ho:OpR X (compareOp op) r')(hd:OpD K mg r' k.F)(ha:DE K mg X ES a p.F)(hb:DE K mg X ES b q.F)(hm:behindInMarks op b=false:=by first |exact m5 _ |with_unfolding_all rfl):DE K mg X ES (.Compare a [op] [b] pos) (pOp k p q).F:=by with_unfolding_all exact Lp ho hd ha hb hm
def uK(ho:OpR X (compareOp op) r')(hd:OpD K mg r' k.F)(ha:DE K mg X ES a p.F)(hb:DE K mg X ES b q.F)(hm:behindInMarks op b=false:=by first |exact m5 _ |with_unfolding_all rfl):DT K mg X ES (.Compare a [op] [b] pos) (qOf (pOp k p q)).F:=by with_unfolding_all exact MZ ho hd ha hb hm
def um(ha:DE K mg X ES a p.F)(he:∀db,isTrue a X.env db=(do let v <- db;standAt a.pos;holding [v] (truthy v)):=by intro _;rfl):DT K mg X ES a (qOf p).F:=by with_unfolding_all exact KJ ha he
def DQ(hK:X.K=K)(ha:DE K mg X ES a p.F)(he:∀db,isTrue a X.env db=(do let v <- db;standAt a.pos;holding [v] (truthy v)):=by intro _;rfl):DT K mg X ES a (qTr p).F:=by with_unfolding_all exact Di hK ha he
def sP(ha:DT K mg X ES a t.F):DT K mg X ES (.UnaryOp .Not a pos) (qNo t).F:=by with_unfolding_all exact K6 ha
def Gg(ha:DT K mg X ES a t.F):DW K mg X ES (.BoolOp .And [a] pos) t.F:=by with_unfolding_all exact FX ha
def KH(ha:DT K mg X ES a t.F):DW K mg X ES (.BoolOp .Or [a] pos) t.F:=by with_unfolding_all exact Kp ha
def Jb(ha:DT K mg X ES a t.F)(hb:DW K mg X ES (.BoolOp .And (b::es) pos) u.F):DW K mg X ES (.BoolOp .And (a::b::es) pos) (qAn t u).F:=by with_unfolding_all exact L5 ha hb
def PH(ha:DT K mg X ES a t.F)(hb:DW K mg X ES (.BoolOp .Or (b::es) pos) u.F):DW K mg X ES (.BoolOp .Or (a::b::es) pos) (qO t u).F:=by with_unfolding_all exact OJ ha hb
def ZW.dt(h:DW K mg X ES a t.F):DT K mg X ES a t.F:=by with_unfolding_all exact DW.dt h
def zt_w{op}(h:DW K mg X ES (.BoolOp op es pos) t.F):DT K mg X ES (.BoolOp op es pos) t.F:=ZW.dt h
def Jn{op}(h:DE K mg X ES a p.F):DE K mg X ES (.BoolOp op [a] pos) p.F:=by with_unfolding_all exact Na h
def Ju(ha:DE K mg X ES a p.F)(hb:DE K mg X ES (.BoolOp .And (b::es) pos) q.F):DE K mg X ES (.BoolOp .And (a::b::es) pos) (jH p q).F:=by with_unfolding_all exact JT ha hb
def KZ(ha:DE K mg X ES a p.F):DE K mg X ES (.UnaryOp .Not a pos) (Cd p).F:=by with_unfolding_all exact Ki ha
def PQ(ho:UnR X (unaryOp op) r')(hd:UnD K mg r' k.F)(ha:DE K mg X ES a p.F):DE K mg X ES (.UnaryOp op a pos) (pUn k p).F:=by with_unfolding_all exact Ot ho hd ha
def ML:DA K mg X ES [] ag.F:=by with_unfolding_all exact A7
def bR(ha:DE K mg X ES e p.F)(hr:DA K mg X ES es A.F)(hs:starEach (e::es) X.env=(false,eval e X.env)::starEach es X.env:=by rfl):DA K mg X ES (e::es) (aa p A).F:=by with_unfolding_all exact wk ha hr hs
def Kr{x1}(h:DA K mg X ES es A.F):DE K mg X ES (.Tuple es x1 pos) (bI A).F:=by with_unfolding_all exact Nf h
def Mb(h:DA K mg X ES es A.F):DE K mg X ES (.List es pos) (dU A).F:=by with_unfolding_all exact Lx h
def jM{id:String}{r':List V->Hp->VK->Prop}{k:PBf}{x:Str}{p0:Pos}(hc:CallR X (.builtin id) r')(hd:aV K mg r' k.F)(hg:Gl X x)(hm:mg x=none)(hv:bootBuiltins x=some (.builtin id))(ha:DA K mg X ES (e::es) A.F)(hk:X.mg=mg:=by rfl)(hn:x ≠ "__name__":=by decide)(hdb:(x==("__debug__" : Str))=false:=by decide)(he:starEach (e::es) X.env=(false,eval e X.env)::starEach es X.env:=by rfl)(hpl:(backTo pos (starEach es X.env)).any (·.1)=false:=by rfl):DE K mg X ES (.Call (.Name x p0) (e::es) [] pos) (pFn k A).F:=by with_unfolding_all exact EK hc hd hg hm hv ha hk hn hdb he hpl
def A0{id:String}{r':List V->Hp->VK->Prop}{k:PBf}{x:Str}{p0:Pos}(hc:CallR X (.type id) r')(hd:aV K mg r' k.F)(hg:Gl X x)(hm:mg x=none)(hv:bootBuiltins x=some (.type id))(ha:DA K mg X ES (e::es) A.F)(hk:X.mg=mg:=by rfl)(hn:x ≠ "__name__":=by decide)(hdb:(x==("__debug__" : Str))=false:=by decide)(he:starEach (e::es) X.env=(false,eval e X.env)::starEach es X.env:=by rfl)(hpl:(backTo pos (starEach es X.env)).any (·.1)=false:=by rfl):DE K mg X ES (.Call (.Name x p0) (e::es) [] pos) (pFn k A).F:=by with_unfolding_all exact Bq hc hd hg hm hv ha hk hn hdb he hpl
def Er{f:PFn}{x:Str}{p0:Pos}{k n:Nat}{ps:List Str}(C:Callee X.prog X.w X.K X.mg X.base x k ps (spD K mg n f.F))(hr:Room k X.A)(hg:Gl X x)(hx:ir X ES)(ha:DA K mg X ES (e::es) A.F)(hn:f.ms.length=n)(hdb:(x==("__debug__" : Str))=false)(he:starEach (e::es) X.env=(false,eval e X.env)::starEach es X.env)(hpl:(backTo pos (starEach es X.env)).any (·.1)=false):DE K mg X ES (.Call (.Name x p0) (e::es) [] pos) (ai f A).F:=by subst hn;with_unfolding_all exact Dj C hr hg hx ha hdb he hpl
def G9:DSs K mg X ES [] xNx.F:=by with_unfolding_all exact GD
def cX(h1:DS K mg X ES st x.F):DSs K mg X ES [st] x.F:=by with_unfolding_all exact G6 h1
def aq(h1:DS K mg X ES st x.F)(h2:DSs K mg X ES sts y.F):DSs K mg X ES (st::sts) (aj x y).F:=by with_unfolding_all exact C6 h1 h2
def Ei:DS K mg X ES (.Break pos) xBk.F:=by with_unfolding_all exact C3
def Ii:DS K mg X ES (.Return none pos) xK.F:=by with_unfolding_all exact FT
def fk(he:DE K mg X ES e p.F):DS K mg X ES (.Return (some e) pos) (ar p).F:=by with_unfolding_all exact Kt he
def Hc(he:DE K mg X ES e p.F)(hs:swapsWith e none pos.line X.env=pure false:=by rfl):DS K mg X ES (.Expr e pos) (aT p).F:=by with_unfolding_all exact F6 he hs
def kM(hc:DT K mg X ES c t.F)(ha:DSs K mg X ES sts x.F)(hb:DSs K mg X ES sts' y.F):DS K mg X ES (.If c sts sts' pos) (xIf t x y).F:=by with_unfolding_all exact Ou hc ha hb
def HL{i:Nat}{x:Str}(hN:X.N.Nodup)(hi:X.N[i]?=some x)(hx:Loc X.env.scope x)(hf:X.fn x=true\/X.env.scope.names.lookup x=some .local):DG K mg X ES (.Name x pos) (gtN i).F:=Hz hN hi hx hf
def Gh:DGs K mg X ES [] eV.F:=Gp
def Dk(h1:DG K mg X (λ_=>E0) e g.F)(h2:DGs K mg X (λ_=>E0) es gs.F)(hs:(assignEach (e::es) X.env).map (·.2)=assign e X.env::(assignEach es X.env).map (·.2):=by rfl):DGs K mg X (λ_=>E0) (e::es) (ba g gs).F:=Ej h1 h2 hs
def JF(hK:X.K=K)(hc:X.calm=true)(h:DGs K mg X (λ_=>E0) es gs.F)(hn:(assignEach es X.env).length=n:=by rfl)(hst:(assignEach es X.env).findIdx? (·.1)=none:=by rfl):DG K mg X (λ_=>E0) (.Tuple es k pos) (gtT n gs).F:=Mm hK hc h hn hst
def ZG.weak(hg:DG K mg X (λ_=>E0) e g.F):DG K mg X ES e (gtX g).F:=DG.weak hg
def Hw(he:DE K mg X ES e p.F)(hg:DG K mg X ES a g.F)(hs:swapsWithSole [a] e pos.line X.env=pure false:=by rfl)(hw:swappedStores [a] e X.env=pure none:=by rfl)(h1:(assignEach [a] X.env).map (·.2)=[assign a X.env]:=by rfl):DS K mg X ES (.Assign [a] e pos) (jC p g).F:=by with_unfolding_all exact BG he hg hs hw h1
def Ia(he:DE K mg X ES e p.F)(ho:DE K mg X ES o (af j).F)(hi:DE K mg X ES i q.F)(hs':rL X r')(hd:og K mg r' w.F)(hs:swapsWithSole [.Subscript o i p1] e pos.line X.env=pure false:=by rfl)(hw:swappedStores [.Subscript o i p1] e X.env=pure none:=by rfl)(h1:(assignEach [.Subscript o i p1] X.env).map (·.2)=[assign (.Subscript o i p1) X.env]:=by rfl)
 (ha:∀v,assign (.Subscript o i p1) X.env v=(do
  let ov <- holding [v] (eval o X.env)
  let iv <- holding [v,ov] (eval i X.env)
  standAt p1
  holding [v,ov,iv] (setItem ov iv v)
  release [v,ov,iv] []):=by intro _;rfl):DS K mg X ES (.Assign [.Subscript o i p1] e pos) (sU j w q p).F:=by with_unfolding_all exact BG he (Nj ho hi hs' hd ha) hs hw h1
def K2{ow:Bool}{i:Nat}{x:Str}{io:Pos}(hN:X.N.Nodup)(hi:X.N[i]?=some x)(hx:Loc X.env.scope x)(he:DE K mg X ES e p.F)(hs:swapsWith e (some (.Name x io)) pos.line X.env=pure false)(hf:X.fn x=true\/X.env.scope.names.lookup x=some .local):DS K mg X ES (.Assign [.Name x io] e pos) (aw ow i p).F:=by with_unfolding_all exact Lv hN hi hx he hs hf
def MR{i j:Nat}{x y:Str}{px py pt:Pos}{kt k2 pt2}(hN:X.N.Nodup)(ha:DA K mg X ES [a,b] A.F)(hc:X.calm=true:=by rfl)(hi:X.N[i]?=some x:=by rfl)(hj:X.N[j]?=some y:=by rfl)(hij:i≠j:=by decide)(hx:X.env.scope.names.lookup x=some .local:=by rfl)(hy:X.env.scope.names.lookup y=some .local:=by rfl)(hw:swappedStores [.Tuple [.Name x px,.Name y py] kt pt] (.Tuple [a,b] k2 pt2) X.env=pure (some [x,y]):=by rfl)(hs:swapsWithSole [.Tuple [.Name x px,.Name y py] kt pt] (.Tuple [a,b] k2 pt2) pos.line X.env=pure false:=by rfl):DS K mg X ES (.Assign [.Tuple [.Name x px,.Name y py] kt pt] (.Tuple [a,b] k2 pt2) pos) (gv i j A).F:=by with_unfolding_all exact M3 hc hN hi hj hij hx hy ha hw hs
def Jl{i:Nat}{x:Str}{op:Operator}{ti:TIp}{io:Pos}{k:PO2}(hN:X.N.Nodup)(he:DE K mg X ES e p.F)(ho:PIp X op ti)(hd:IpD K mg ti k.F)(hi:X.N[i]?=some x:=by rfl)(hx:Loc X.env.scope x:=by first |exact Or.inl rfl |exact Or.inr rfl)(hf:X.fn x=true\/X.env.scope.names.lookup x=some .local:=by first |exact .inl rfl |exact .inr rfl |assumption):DS K mg X ES (.AugAssign (.Name x io) op e pos) (tW i k p).F:=by with_unfolding_all exact ID hN hi hx he ho hd hf
def CJ{x:Str}{C:Addr}{E:XK}{np cpos:Pos}(hc:X.calm=true)(hR:Rz X E)(hg:Gl X x)(hm:mg x=some (.ref C))(hq:W.excIn X.K C l6 "ValueError.__new__"=true)(ha:DA K mg X (λ_=>E) (e::es) A.F)(hk:X.mg=mg:=by rfl)(he:starEach (e::es) X.env=(false,eval e X.env)::starEach es X.env:=by rfl)(c_:(backTo cpos (starEach es X.env)).any (·.1)=false:=by rfl)(hd:(x==("__debug__" : Str))=false:=by decide):DS K mg X (λ_=>E) (.Raise (some (.Call (.Name x np) (e::es) [] cpos)) none pos) (eO x A).F:=by with_unfolding_all exact Cw hc hR hg hm hq ha hk he c_ hd
def JM(hK:X.K=K)(he:DE K mg X ES e p.F):DI K mg X ES tg e (b9 p).F:=by with_unfolding_all exact K9 hK he
def zI(hg:Gl X "range")(hm:mg "range"=none)(ha:DA K mg X ES [a] A.F)(hk:X.mg=mg:=by rfl)(hs:starEach [a] X.env=[(false,eval a X.env)]:=by rfl):DI K mg X ES tg (.Call (.Name "range" p0) [a] [] pos) (nI A).F:=by with_unfolding_all exact Af hg hm ha hk hs
def AO(hg:Gl X "range")(hm:mg "range"=none)(ha:DA K mg X ES [a,b] A.F)(hk:X.mg=mg:=by rfl)(hs:starEach [a,b] X.env=[(false,eval a X.env),(false,eval b X.env)]:=by rfl)(hs2:starEach [b] X.env=[(false,eval b X.env)]:=by rfl):DI K mg X ES tg (.Call (.Name "range" p0) [a,b] [] pos) (yf A).F:=by with_unfolding_all exact A4 hg hm ha hk hs hs2
def Kg(hK:X.K=K)(hg:Gl X "zip")(hm:mg "zip"=none)(ha:DA K mg X ES [a,b] A.F)(hk:X.mg=mg:=by rfl)(hs:starEach [a,b] X.env=[(false,eval a X.env),(false,eval b X.env)]:=by rfl)(hs2:starEach [b] X.env=[(false,eval b X.env)]:=by rfl):DI K mg X ES (.Tuple elts x1 tp) (.Call (.Name "zip" p0) [a,b] [] pos) (xi A).F:=by with_unfolding_all exact MW hK hg hm ha hk hs hs2
def sX(hp:PassesOwn (model X.prog X.w) X.A X.env X.xe)(hc:X.calm=true)(hi:DI K mg X ES tg a_ I.F)(hg:DG K mg X ES tg g.F)(hb:DSs K mg X ES sts x.F)(hs:∀x,foldedSetIterable a_ X.env x=pure x:=by intro _;rfl):DS K mg X ES (.For tg a_ sts [] pos) (jn I g x).F:=by with_unfolding_all exact Kl hp hc hi hg hb hs
def Du(hp:PassesOwn (model X.prog X.w) X.A X.env X.xe)(hc:DT K mg X ES c t.F)(hb:DSs K mg X ES sts x.F):DS K mg X ES (.While c sts [] pos) (xWh t x).F:=by with_unfolding_all exact CV hp hc hb
def Qv{scope:Scope}(M:List Str)(kn:List (Str×NameKind))(N:List Str)(sub:Ud){hsb:(sub.filterMap id).Nodup}(hc:X.calm=true)(hi:DI K mg X ES tg a_ I.F)(hg:∀cl C s₂ H fp,DG K mg (aN X N scope cl C s₂ H fp) (λ_=>E0) tg g.F)(he:∀cl C s₂ H fp,DE K mg (aN X N scope cl C s₂ H fp) (λ_=>E0) jp p.F)(hM:X.N=M)(hkn:X.env.scope.names=kn)(g_:fZ M scope.names sub N=true)(hk:scope.kind=.function)(hnc:∀x∈scope.names,x.2 ≠ .cell)(ci:∀x∈scope.names,x.2=.local->scope.names.lookup x.1=some .local)(hfr:iJ kn scope.names=true)(hsl:sub.length=N.length)(hs:∀x,foldedSetIterable a_ X.env x=pure x):DE K mg X ES (.ListComp jp [⟨tg,a_,[],0⟩] scope pos) (pLC I sub hsb g qY p).F:=by with_unfolding_all exact Pp M kn N sub hc hi hg he hM hkn g_ hk hnc ci hfr hsl hs
def OH{ow:Bool}{px spos:Pos}{iT:Nat}{xT:Str}{scope:Scope}(M:List Str)(kn:List (Str×NameKind))(N:List Str)(sub:Ud){hsb:(sub.filterMap id).Nodup}(hc:X.calm=true)(hN:X.N.Nodup)(hix:X.N[iT]?=some xT)(hxl:Loc X.env.scope xT)(hi:DI K mg X ES tg a_ I.F)(hg:∀cl C s₂ H fp,DG K mg (aN X N scope cl C s₂ H fp) (λ_=>E0) tg g.F)(he:∀cl C s₂ H fp,DE K mg (aN X N scope cl C s₂ H fp) (λ_=>E0) jp p.F)(hsw:swapsWith (.ListComp jp [⟨tg,a_,[],0⟩] scope pos) (some (.Name xT px)) spos.line X.env=pure true)(hM:X.N=M)(hkn:X.env.scope.names=kn)(g_:fZ M scope.names sub N=true)(hk:scope.kind=.function)(hnc:∀x∈scope.names,x.2 ≠ .cell)(ci:∀x∈scope.names,x.2=.local->scope.names.lookup x.1=some .local)(hfr:iJ kn scope.names=true)(hsl:sub.length=N.length)(hs:∀x,foldedSetIterable a_ X.env x=pure x)(hf:X.fn xT=true\/X.env.scope.names.lookup xT=some .local):DS K mg X ES (.Assign [.Name xT px] (.ListComp jp [⟨tg,a_,[],0⟩] scope pos) spos) (aw ow iT (pLC I sub hsb g qY p)).F:=by with_unfolding_all exact O9 M kn N sub hc hN hix hxl hi hg he hsw hM hkn g_ hk hnc ci hfr hsl hs hf
def IG{j:Nat}{name:Str}{id:String}{apos cpos:Pos}{r':V->List V->Hp->VK->Prop}{k:PMm}(hK:X.K=K)(slot:Slot "list" name id)(hty:typeOf (.builtin id)=pure (.type "method_descriptor"))(hm:MtM X id r')(hd:MtD K mg r' k.F)(ho:DE K mg X ES o (af j).F)(ha:DA K mg X ES (e::es) A.F)(d_:attributeBase o name X.env (eval o X.env)=eval o X.env:=by rfl)(hfew:((backTo cpos (starEach (e::es) X.env)).all (λx=>!x.1)&&(backToKw cpos (keywordEach [] X.env)).all (λx=>x.1.isSome)&&decide ((e::es).length+([]:List Keyword).length+(if ([]:List Keyword).isEmpty then 0 else 1)<30))=true:=by rfl)(f_:(apos.endLine==cpos.line)=true:=by rfl)(hs:starEach (e::es) X.env=(false,eval e X.env)::starEach es X.env:=by rfl)(c_:(backTo cpos (starEach es X.env)).any (·.1)=false:=by rfl):DE K mg X ES (.Call (.Attribute o name apos) (e::es) [] cpos) (lL j k A).F:=by with_unfolding_all exact de_m hK slot hty hm hd ho ha d_ hfew f_ hs c_
def Gj{name:Str}{id:String}{apos cpos:Pos}{r':V->List V->Hp->VK->Prop}{k:PMv}(hK:X.K=K)(slot:Slot "list" name id)(hty:typeOf (.builtin id)=pure (.type "method_descriptor"))(hm:MtM X id r')(hd:MtD K mg r' k.F)(ho:DE K mg X ES o p.F)(ha:DA K mg X ES (e::es) A.F)(d_:attributeBase o name X.env (eval o X.env)=eval o X.env:=by rfl)(hfew:((backTo cpos (starEach (e::es) X.env)).all (λx=>!x.1)&&(backToKw cpos (keywordEach [] X.env)).all (λx=>x.1.isSome)&&decide ((e::es).length+([]:List Keyword).length+(if ([]:List Keyword).isEmpty then 0 else 1)<30))=true:=by rfl)(f_:(apos.endLine==cpos.line)=true:=by rfl)(hs:starEach (e::es) X.env=(false,eval e X.env)::starEach es X.env:=by rfl)(c_:(backTo cpos (starEach es X.env)).any (·.1)=false:=by rfl):DE K mg X ES (.Call (.Attribute o name apos) (e::es) [] cpos) (yK k p A).F:=by with_unfolding_all exact de_m hK slot hty hm hd ho ha d_ hfew f_ hs c_
def GR{j:Nat}{name:Str}{id:String}{apos cpos:Pos}{r':V->List V->Hp->VK->Prop}{k:PMm}(hK:X.K=K)(slot:Slot "list" name id)(hty:typeOf (.builtin id)=pure (.type "method_descriptor"))(hm:MtM X id r')(hd:MtD K mg r' k.F)(ho:DE K mg X ES o (af j).F)(d_:attributeBase o name X.env (eval o X.env)=eval o X.env:=by rfl)(f_:(apos.endLine==cpos.line)=true:=by rfl):DE K mg X ES (.Call (.Attribute o name apos) [] [] cpos) (qU j k).F:=by with_unfolding_all exact O8 hK slot hty hm hd ho d_ f_
def Hg:DO K mg X ES none oN.F:=GV
def Iq(he:DE K mg X ES e p.F):DO K mg X ES (some e) (oS p).F:=by with_unfolding_all exact Hl he
def Cg{l u:POp}{lo hi:Option Expr}{p2:Pos}(hK:X.K=K)(he:DE K mg X ES e p.F)(hl:DO K mg X ES lo l.F)(hu:DO K mg X ES hi u.F):DE K mg X ES (.Subscript e (.Slice lo hi none p2) pos) (pSl p l u).F:=by with_unfolding_all exact EL hK he hl hu
def N1:DE K mg X ES (.Dict [] [] pos) pD0.F:=by with_unfolding_all exact Qi
def IE:OpD K mg (λx y H Q=>rI0 (λi j=>.int (i+j)) x y H Q\/(oU x y H Q\/(kQ K x y H Q\/kA K x y H Q))) a8.F:=Lh
def LW:OpD K mg (rI0 λi j=>.int (i-j)) fg.F:=IA
def Nz:OpD K mg (rI CMulA λi j=>.int (i*j)) bq.F:=K5
def Kz:OpD K mg (rI CDivB λi j=>.int (i.fdiv j)) jK.F:=LS
def Ll:OpD K mg (rI (λ_ j=>j≠0) λi j=>.int (i.fmod j)) cz.F:=JX
def J9:OpD K mg (rI gr λi j=>.int (i^j.toNat)) gm.F:=MK
def JA:OpD K mg (rI gr λi j=>.int (i*2^j.toNat)) sH.F:=IW
def E7:OpD K mg (rI0 λi j=>.bl (decide (i<j))) bLt.F:=Oy
def EX:OpD K mg (rI0 λi j=>.bl (decide (j<i))) bGt.F:=O4
def Fl:OpD K mg (rI0 λi j=>.bl (decide (j<=i))) bGe.F:=O0
def N2:OpD K mg (λx y H Q=>yS K x y H Q\/xq K x y H Q) bIx.F:=LN
def EU:OpD K mg (yR K) bEq.F:=Ka
def yG:OpD K mg (yb K) bNe.F:=La
def Pa:OpD K mg (rIn K false) bIn.F:=(A9 false)
def Lc:OpD K mg (rIn K true) D1.F:=(A9 true)
def KW:aV K mg (λxs H Q=>(∃p ys,xs=[.ref p]/\(SqL K H p ys\/SqT K H p ys)/\Q (.int ys.length) H)\/(∃z,xs=[.str z]/\z.length<=sizeLine/\Q (.int z.length) H)) bj.F:=IK
def Mi:aV K mg (λxs H Q=>∃i,xs=[.int i]/\Q (.int (if i<0 then -i else i)) H) eG.F:=KC
def Ic:aV K mg (λxs H Q=>∃i j,xs=[.int i,.int j]/\Q (.int (if j>i then j else i)) H) ur.F:=Il
def FR:aV K mg (λxs H Q=>∃i j,xs=[.int i,.int j]/\Q (.int (if j<i then j else i)) H) tS.F:=GA
def zH:aV K mg (λxs H Q=>∃(a:Addr) (bs:List Bool),xs=[.ref a]/\SqL K H a (bs.map V.bl)/\Q (.bl (bs.all id)) H) qX.F:=L8
def z9:aV K mg (λxs H Q=>∃(a:Addr) (ns:List Int),xs=[.ref a]/\SqL K H a (ns.map V.int)/\Q (.int ns.sum) H) cJ.F:=JG
def Dm:aV K mg (λxs H Q=>∃p ys,xs=[.ref p]/\((SqL K H p ys/\∀l,H l=none->Q (.ref l) (upd H l (.tup ys)))\/(SqT K H p ys/\Q (.ref p) H))) nU.F:=EF
def Mv:aV K mg (λxs H Q=>(∃i,xs=[.int i]/\Q (.int i) H)\/∃k,xs=[.bl k]/\Q (.int (if k then 1 else 0)) H) qT.F:=Mu
def KN(ok:KitsOk K mg kt):aV K mg (λxs H Q=>(∃x c t v b,xs=[x,c]/\TyX K H x t/\fD c=some v/\W.kitOne K t v=some b/\Q (.bl b) H)\/
 (∃x tp cs t vs b,xs=[x,.ref tp]/\SqT K H tp cs/\TyX K H x t/\cs.mapM fD=some vs/\W.kitAny K t vs=some b/\Q (.bl b) H)) (bC kt).F:=Lj ok
def BB:MtD K mg nQ gQ.F:=zk
def Iy:MtD K mg B9 qW.F:=Lb
def Cq:MtD K mg (kE K) kU.F:=Es
def Gi:og K mg yj seL.F:=G8
def IM:IpD K mg (ipI λi j=>i+j) rC.F:=Ik
def JP:UnD K mg (rU λi=>.int (-i)) Cr.F:=Kx
variable{P:Program}{w:World}{base:Heap}{fx:Str}{h_:Stmt}{k n m:Nat}{ps N:List Str}{ms:List Bool}
def okP(D:Def K mg fx h_)(S:FnScope N ps (ak h_))
 (hb:∀(kV doc pm:Value) (an:Option Addr) (cdv ct:Value) (us:List Value),us.length=ps.length->bindArgs (W.fnOf fx fx (bS h_) (aP h_) (ak h_) .none kV doc pm an cdv ct) ⟨us,[]⟩=pure (ps.zip us))
 (e_:∀(f:Addr) (cdv:Value) (A:Around) (outer:List Env) (s:Shared) (H:Hp) (E:XK),Room k (A.deeper (envOfC fx (ak h_) s.heap.objs.size f cdv))->
  DSs K mg (c9 (CX1 P w) P w K mg base N fx (ak h_) f cdv A outer s H E) (λ_=>E) (aP h_) x.F) (hn:ps.length=n) (hm:N.length=m):Callee P w K mg base fx (k+1) ps (spD K mg n (fnP ms m x).F):=by
 subst hn hm;with_unfolding_all exact D.okD S hb e_
def okX(D:Def K mg fx h_)(S:FnScope N ps (ak h_))
 (hb:∀(kV doc pm:Value) (an:Option Addr) (cdv ct:Value) (us:List Value),us.length=ps.length->bindArgs (W.fnOf fx fx (bS h_) (aP h_) (ak h_) .none kV doc pm an cdv ct) ⟨us,[]⟩=pure (ps.zip us))
 (e_:∀(f:Addr) (cdv:Value) (A:Around) (outer:List Env) (s:Shared) (H:Hp) (E:XK),Room k (A.deeper (envOfC fx (ak h_) s.heap.objs.size f cdv))->
  DSs K mg (c9 (CX1 P w) P w K mg base N fx (ak h_) f cdv A outer s H E) (λ_=>E) (aP h_) x.F) (hn:ps.length=n) (hm:N.length=m):Callee P w K mg base fx (k+1) ps (spD K mg n (PFx.of ms m x).F):=by
 subst hn hm;with_unfolding_all exact D.okD S hb e_
def ok0(D:Def K mg fx h_)(S:FnScope N ps (ak h_))
 (hb:∀(kV doc pm:Value) (an:Option Addr) (cdv ct:Value) (us:List Value),us.length=ps.length->bindArgs (W.fnOf fx fx (bS h_) (aP h_) (ak h_) .none kV doc pm an cdv ct) ⟨us,[]⟩=pure (ps.zip us)) (hn:ps.length=n:=by rfl):Callee P w K mg base fx (k+1) ps (spD K mg n (PFx.none ms).F):=by
 subst hn;exact D.okD (F:=λ_ _=>.stuck) S hb λ_ _ _ _ _ _ _ _=>Bw
end
def KR(b:Bool)(ms:List Bool)(v:Val)(vs:List Val):sls (b::ms) (v::vs)=sl1 b v::sls ms vs:=rfl
def HK:sls [] []=[]:=rfl
def OE(v:Val):sl1 true v=.mu v:=rfl
def PD(v:Val):sl1 false v=.sh v:=rfl
section
variable(e:E3)
def GK:okA e [] []=true:=rfl
def Lq(i:Nat)(ms:List Bool)(ts:List Tm):okA e (true::ms) (.bor i::ts)=(((e[i]?).bind Sl.mv).isSome && !(iB i ts)&&okA e ms ts):=rfl
def K3(v:Val)(ms:List Bool)(ts:List Tm):okA e (false::ms) (.val v::ts)=okA e ms ts:=rfl
def BK(i:Nat):iB i []=false:=rfl
def I0(i:Nat)(v:Val)(ts:List Tm):iB i (.val v::ts)=iB i ts:=rfl
def AM:aU e [] []=[]:=rfl
def HS(v:Val)(ms:List Bool)(ts:List Tm):aU e (false::ms) (.val v::ts)=aU e ms ts:=rfl
def Li(t:Tm)(ms:List Bool)(ts:List Tm):aU e (true::ms) (t::ts)=aU e ms ts:=by cases t <;> rfl
end
def Bk:bY [] []=[]:=rfl
def HZ(b:Bool)(t:Tm)(ms:List Bool)(ts:List Tm):bY (b::ms) (t::ts)=oQ b t::bY ms ts:=rfl
def Hq(i:Nat):oQ true (.bor i)=some i:=rfl
def M9(t:Tm):oQ false t=none:=by cases t <;> rfl
def Cc(e:E3):bg [] [] e=e:=rfl
def Lr(o:Option Nat)(sub:Ud)(s:Sl)(i e:E3):bg (o::sub) (s::i) e=bg sub i (fH o s e):=rfl
theorem HY(i:Nat)(v:Val)(e:E3):fH (some i) (.mu v) e=match e[i]? with
 |some t=>e.set i (t.re v)
 |none=>e:=rfl
def J8(s:Sl)(e:E3):fH none s e=e:=rfl
def CU(vs:List Val):aG [] vs=[]:=rfl
def IX(ms:List Bool)(v:Val)(vs:List Val):aG (true::ms) (v::vs)=.mu v::aG ms vs:=rfl
def Kc(ms:List Bool)(vs:List Val):aG (false::ms) vs=.no::aG ms vs:=by cases vs <;> rfl
def GQ(e:E3):muV [] e=some []:=by cases e <;> rfl
def O6(ms:List Bool)(v:Val)(e:E3):muV (true::ms) (.mu v::e)=(muV ms e).map (v :: ·):=rfl
def Oj(ms:List Bool)(s:Sl)(e:E3):muV (false::ms) (s::e)=muV ms e:=by cases s <;> rfl
def zX(v:Val):kG (.val v)=aZ v:=rfl
def Am(v:Val):kG (.new v)=dg v:=rfl
def AU(xs:List Val):dg (.lst xs)=c7 xs:=rfl
def ym:c7 []=true:=by simp [c7]
def vb(v:Val)(vs:List Val):c7 (v::vs)=(aZ v&&c7 vs):=by simp [c7]
def Ap(i:Int):aZ (.int i)=true:=by simp [aZ]
def Cf(i:Bool):aZ (.bl i)=true:=by simp [aZ]
def Ab(i:Str):aZ (.str i)=true:=by simp [aZ]
def AW:aZ .non=true:=by simp [aZ]
def eU(h0:0<=i)(h:l[i.toNat]?=some x):atI l i=some x:=by have hl:=(s_.mp h).1;unfold atI ixN;rw[if_pos h0,if_pos (by omega)];exact h
def Be(h0:0<=i)(h:i.toNat<n):ixN n i=some i.toNat:=by unfold ixN;rw[if_pos h0,if_pos (by omega)]
section
variable(a b c d:α)(l:List α)
def ati0:atI (a::l) 0=some a:=eU (by decide) rfl
def ati1:atI (a::b::l) 1=some b:=eU (by decide) rfl
def ati2:atI (a::b::c::l) 2=some c:=eU (by decide) rfl
def ati3:atI (a::b::c::d::l) 3=some d:=eU (by decide) rfl
end
def ixn0(n:Nat):ixN (n+1) 0=some 0:=Be (i:=0) (by decide) (by show 0<n+_;omega)
def ixn1(n:Nat):ixN (n+2) 1=some 1:=Be (i:=1) (by decide) (by show 1<n+_;omega)
theorem QA(xs:List Val)(k:Int)(v:Val):seL.G (.lst xs) (.int k) v=match ixN xs.length k with
 |some j=>some (.lst (xs.set j v))
 |none=>none:=rfl
mutual
def vq:Val->Val->Bool
 |.non,.non=>true
 |.bl a,.bl b=>a==b
 |.bl a,.int j=>(if a then 1 else 0)==j
 |.int i,.bl b=>i==(if b then 1 else 0)
 |.int i,.int j=>i==j
 |.str x,.str y=>x==y
 |.tup xs,.tup ys=>vqs xs ys
 |.lst xs,.lst ys=>vqs xs ys
 |_,_=>false
def vqs:List Val->List Val->Bool
 | [],[]=>true
 |x::xs,y::ys=>vq x y&&vqs xs ys
 |_,_=>false
end
mutual
def wfV:Nat->Val->Bool
 |_,.non=>true
 |_,.bl _=>true
 |_,.int _=>true
 |_,.str x=>PyData.strOk x
 |k+1,.tup xs=>d8 k xs
 |k+1,.lst xs=>d8 k xs
 |_,_=>false
def d8:Nat->List Val->Bool
 |_,[]=>true
 |k,x::xs=>wfV k x&&d8 k xs
end
mutual
def gq:Val->PyData
 |.bl b=>.bool b
 |.int i=>.int i
 |.str x=>.str x
 |.tup xs=>.tuple (eJ xs)
 |.lst xs=>.list (eJ xs)
 |_=>.none
def eJ:List Val->List PyData
 | []=>[]
 |x::xs=>gq x::eJ xs
end
mutual
theorem oA:∀(k:Nat) (v:Val),wfV k v=true->(∀j,k<j->cR j v=some (gq v))/\(gq v).canLay0=true/\(gq v).depth<=k
 |k,.non,_=>⟨λj hj=>by cases j with |zero=>exact absurd hj (R7 _) |succ j=>rfl,rfl,QH _⟩
 |k,.bl b,_=>⟨λj hj=>by cases j with |zero=>exact absurd hj (R7 _) |succ j=>rfl,rfl,QH _⟩
 |k,.int b,_=>⟨λj hj=>by cases j with |zero=>exact absurd hj (R7 _) |succ j=>rfl,rfl,QH _⟩
 |k,.str b,w=>⟨λj hj=>by cases j with |zero=>exact absurd hj (R7 _) |succ j=>rfl,by cases k <;> exact w,QH _⟩
 |0,.tup xs,w=>absurd w A_
 |0,.lst xs,w=>absurd w A_
 |
  k+1,.tup xs,w=>by
  obtain⟨h1,h2,h3⟩:=lV k xs w;exact⟨λj hj=>by cases j with |zero=>exact absurd hj (R7 _) |succ j=>simp only[cR,gq,h1 j (Nat.lt_of_succ_lt_succ hj),Option.map_some],h2,by simpa [gq,PyData.depth] using h3⟩
 |
  k+1,.lst xs,w=>by
  obtain⟨h1,h2,h3⟩:=lV k xs w;exact⟨λj hj=>by cases j with |zero=>exact absurd hj (R7 _) |succ j=>simp only[cR,gq,h1 j (Nat.lt_of_succ_lt_succ hj),Option.map_some],h2,by simpa [gq,PyData.depth] using h3⟩
 |k,.ty _,w=>by cases k <;> exact absurd w A_
 |k,.glb _,w=>by cases k <;> exact absurd w A_
 |k,.exc _,w=>by cases k <;> exact absurd w A_
 |k,.kl _,w=>by cases k <;> exact absurd w A_
 |k,.dct _,w=>by cases k <;> exact absurd w A_
 |k,.set _,w=>by cases k <;> exact absurd w A_
theorem lV:∀(k:Nat) (vs:List Val),d8 k vs=true->(∀j,k<j->eS j vs=some (eJ vs))/\PyData.canLayAll0 (eJ vs)=true/\PyData.depthAll (eJ vs)<=k
 |k,[],_=>⟨λj hj=>by simp [eS,eJ],rfl,QH _⟩
 |
  k,v::vs,w=>by
  have w':(wfV k v&&d8 k vs)=true:=w;rw[u_] at w';obtain⟨h1,h2,h3⟩:=oA k v w'.1;obtain⟨i1,i2,i3⟩:=lV k vs w'.2;exact⟨λj hj=>by simp [eS,eJ,h1 j hj,i1 j hj],by simp [eJ,PyData.canLayAll0,h2,i2],Nat.max_le.mpr ⟨h3,i3⟩⟩
end
mutual
theorem zV:∀(k:Nat) (v u:Val),wfV k v=true->wfV k u=true->PyData.eqv (gq v) (gq u)=vq v u
 |
  k,v,u,hv,hu=>by
  cases v <;> first |(cases k <;> exact absurd hv A_) |skip
  all_goals (cases u <;> first |(cases k <;> exact absurd hu A_) |rfl |(cases k with |zero=>exact absurd hv A_ |succ k=>exact wZ k _ _ hv hu))
theorem wZ:∀(k:Nat) (v u:List Val),d8 k v=true->d8 k u=true->PyData.eqvAll (eJ v) (eJ u)=vqs v u
 |_,[],[],_,_=>rfl
 |_,[],_::_,_,_=>rfl
 |_,_::_,[],_,_=>rfl
 |
  k,x::xs,y::ys,hv,hu=>by
  have h1:(wfV k x&&d8 k xs)=true:=hv;have h2:(wfV k y&&d8 k ys)=true:=hu;rw[u_] at h1 h2;show (PyData.eqv (gq x) (gq y)&&PyData.eqvAll (eJ xs) (eJ ys))=(vq x y&&vqs xs ys);rw[zV k x y h1.1 h2.1,wZ k xs ys h1.2 h2.2]
end
def MQ(hk:k<=160)(hx:wfV k x=true)(hy:wfV k y=true):bz x y=some (vq x y):=by obtain⟨h1,h2,h3⟩:=oA k x hx;obtain⟨i1,i2,i3⟩:=oA k y hy;unfold bz;rw[h1 164 (by omega),i1 164 (by omega)];dsimp only;rw[if_pos ⟨ie h2 (by omega),ie i2 (by omega)⟩,zV k x y hx hy]
def Fz(hx:wfV 60 x=true)(hy:wfV 60 y=true):bz x y=some (vq x y):=MQ (by decide) hx hy
mutual
theorem oH:∀(k:Nat) (v:Val),wfV k v=true->vq v v=true
 |
  k,v,hv=>by
  cases v <;> first |(cases k <;> exact absurd hv A_) |rfl |exact Ta _ |(cases k with |zero=>exact absurd hv A_ |succ k=>exact uf k _ hv)
theorem uf:∀(k:Nat) (v:List Val),d8 k v=true->vqs v v=true
 |_,[],_=>rfl
 |
  k,x::xs,hv=>by
  have h1:(wfV k x&&d8 k xs)=true:=hv;rw[u_] at h1;show (vq x x&&vqs xs xs)=true;rw[oH k x h1.1,uf k xs h1.2];rfl
end
noncomputable def fV(q:Rat):Val:=.tup [.int q.num,.int q.den]
structure Bx where
 l:Rat
 t:Rat
 w:Rat
 h:Rat
structure Bx.Ok(b:Bx):Prop where
 w:0<b.w
 h:0<b.h
structure Bx.Sz(n:Nat)(b:Bx):Prop where
 l:L2.Sz n b.l
 t:L2.Sz n b.t
 w:L2.Sz n b.w
 h:L2.Sz n b.h
noncomputable def bV(b:Bx):Val:=.tup [fV b.l,fV b.t,fV b.w,fV b.h]
def NL(q:Rat)(k:Nat):wfV (k+1) (fV q)=true:=by simp [fV,wfV,d8]
def PN(b:Bx)(k:Nat):wfV (k+2) (bV b)=true:=by simp [bV,wfV,d8,NL]
noncomputable def knV:Val->Bool
 |.exc _=>false
 |v=>(tyC v).isSome
noncomputable def iA:Nat->Val->Bool
 |k+1,.tup xs=>xs.all (iA k)
 |_,v=>knV v
def jm:Val->Bool
 |.int _=>true
 |_=>false
noncomputable def aO:Val->Bool
 |.tup [.int a,.int b]=>decide (1<=b)&&decide (Int.gcd a b=1)
 |_=>false
noncomputable def jl:Val->Bool
 |.tup (.int a::_)=>decide (0<a)
 |_=>false
noncomputable def f9:Val->Bool
 |.tup [a,b,c,d]=>aO a&&(aO b&&(aO c&&(aO d&&(jl c&&jl d))))
 |_=>false
noncomputable def hX:Val->Bool
 |.int i=>decide (1<=i)
 |_=>false
def fC:Val->Bool
 |.tup _=>true
 |_=>false
def Qq(h1:1<=b)(h2:Int.gcd a b=1):Val.tup [.int a,.int b]=fV ((a:Rat)/(b:Rat)):=by
 have hb:b≠0:=by omega
 have h:=nA (a:=a) hb;have s:=Fr.self (by omega) h2;unfold fV;rw[<- h.1,<- h.2,s.1,s.2]
def jL(q:Rat):aO (fV q)=true:=by
 show (decide (1<=(q.den:Int))&&decide (Int.gcd q.num q.den=1))=true
 have:=q.den_pos
 rw[G_ (by omega),G_ (wF q)];rfl
def zT(h:aO d=true):∃q,d=fV q:=by
 unfold aO at h;split at h
 .simp only[u_,Ss] at h;exact⟨_,Qq h.1 h.2⟩
 .cases h
def wx(q:Rat):jl (fV q)=decide (0<q):=by show decide (0<q.num)=decide (0<q);rw[Tc];exact vy
def EJ(h:b.Ok):f9 (bV b)=true:=by show (aO (fV b.l)&&(aO (fV b.t)&&(aO (fV b.w)&&(aO (fV b.h)&&(jl (fV b.w)&&jl (fV b.h))))))=true;rw[jL,jL,jL,jL,wx,wx,G_ h.w,G_ h.h];rfl
def JV(b:Bx):iA 2 (bV b)=true:=by simp [bV,fV,iA,knV,tyC]
theorem oG(P:E3->Prop):∀(vs acc:List Val) (e:E3),P e->(∀v∈vs,∀e,P e->∃e1 t e2,g v e=some e1/\F e1=.ok t e2/\cE e2 t=some (e2,f v)/\P e2)->acc.length+vs.length<=16777216->∃e',P e'/\lcV g cY F vs acc e=.ok (acc++vs.map f) e'
 | [],acc,e,hp,_,_=>⟨e,hp,by simp [lcV]⟩
 |
  v::vs,acc,e,hp,hf,hl=>by
  obtain⟨e1,t,e2,q1,q2,q3,q4⟩:=hf v (r_ ..) e hp;obtain⟨e',p',q5⟩:=oG P vs (acc++[f v]) e2 q4 (λu hu=>hf u (n_ _ hu)) (by simp at hl ⊢;omega);refine⟨e',p',?_⟩;unfold lcV;rw[if_pos (by simp at hl;omega),q1];simp only[cY,kN,Sa,q2,q3,q5];simp
noncomputable def rgV(k:Nat):List Val:=(List.range k).map λj=>Val.int (j:Nat)
def vU(h:k<1000000):jr [.int (k:Nat)]=some (rgV k):=by simp only[jr];rw[if_pos (⟨by omega,by omega⟩:RgB _),Q3];unfold ka rgV;simp only[Int.zero_add]
def wV(h0:0<=i)(h:i<1000000):jr [.int i]=some (rgV i.toNat):=by
 have:=vU (k:=i.toNat) (by omega)
 rwa [show ((i.toNat:Nat):Int)=i from by omega] at this
theorem dk(fv fw:α->Val)(P:E3->Prop):∀(l:List α) (acc:List Val) (e:E3),P e->(∀a∈l,∀e,P e->∃e1 t e2,g (fv a) e=some e1/\F e1=.ok t e2/\cE e2 t=some (e2,fw a)/\P e2)->acc.length+l.length<=16777216->∃e',P e'/\lcV g qY.G F (l.map fv) acc e=.ok (acc++l.map fw) e'
 | [],acc,e,hp,_,_=>⟨e,hp,by simp [lcV]⟩
 |
  v::vs,acc,e,hp,hf,hl=>by
  obtain⟨e1,t,e2,q1,q2,q3,q4⟩:=hf v (r_ ..) e hp;obtain⟨e',p',q5⟩:=dk fv fw P vs (acc++[fw v]) e2 q4 (λu hu=>hf u (n_ _ hu)) (by simp at hl ⊢;omega);refine⟨e',p',?_⟩;rw[t_];unfold lcV;have cy:qY.G=cY:=rfl;rw[cy] at q5 ⊢;rw[if_pos (by simp at hl;omega),q1];simp only[cY,kN,Sa,q2,q3,q5];simp
def IJ(v:Val):inS (.sh v)=.sh v:=rfl
def G1(i:Nat)(v:Val)(e:E3):fH (some i) (.sh v) e=e:=rfl
noncomputable def mB(ms:List Bool)(r:SR3):R3F:=match r with
 |.nx e=>(match muV ms e with |some mv=>.ok (.val .non) mv |none=>.stuck)
 |.rt r e=>(match muV ms e with |some mv=>.ok r mv |none=>.stuck)
 |.exc c e=>(match muV ms e with |some mv=>.exc c mv |none=>.stuck)
 |_=>.stuck
def xN(h:vs.length=ms.length):(fnP ms N c).G vs=mB ms (c.G (sls ms vs++List.replicate (N-vs.length) .no)):=by rw[aA,if_pos h];rfl
def J7(h:vs.length=ms.length):(PFx.of ms N c).G vs=mB ms (c.G (sls ms vs++List.replicate (N-vs.length) .no)):=by rw[kT,if_pos h];rfl
def xI(ms:List Bool)(r:Rt)(e:E3):mB ms (.rt r e)=match muV ms e with |some mv=>.ok r mv |none=>.stuck:=rfl
def aK{Q:SR3->Prop}(I:E3->Prop){a b:PSt}{e:E3}(h1:∃e1,a.G e=.nx e1/\I e1)(h2:∀e1,I e1->Q (b.G e1)):Q ((aj a b).G e):=by obtain⟨e1,q,i⟩:=h1;rw[FF,q];exact h2 e1 i
def iV(i:Int):Val.tup [.int i,.int 1]=fV (i:Rat):=rfl
def sm8(h:m.natAbs<1099511627776):Sm 8000 m:=H_ (show m.natAbs<2^40 from h) (Rv (by decide) (by decide))
def nt(h:m.natAbs<=2000000000000000000000000000000):Sm 101 m:=by unfold Sm;exact RC h (by decide)
def gk{m:Int}(h:m.natAbs<=2000000000000000000000000000000):Sz 101 (m:Rat):=⟨nt h,nt (by show (1:Int).natAbs<=_;decide)⟩
def gE{a b:Int}(hb:b≠0)(h1:a.natAbs<=2000000000000000000000000000000)(h2:b.natAbs<=2000000000000000000000000000000):Sz 101 ((a:Rat)/(b:Rat)):=Sz.div hb (nt h1) (nt h2) 101 (p_ _) (p_ _)
def fO{m:Int}(h:0<m):(0:Rat)<(m:Rat):=Rat.intCast_pos.mpr h
def gX{a b:Int}(h1:0<a)(h2:0<b):(0:Rat)<(a:Rat)/(b:Rat):=by rw[Rat.div_def];exact Rat.mul_pos (fO h1) (Rat.inv_pos.mpr (fO h2))
structure Good(b:Bx):Prop where
 ok:b.Ok
 sz:b.Sz 101
def kB(h:m.natAbs<=2000000000000000000000000000000):Sm 8000 m:=(nt h).mono (by decide)
noncomputable def AJ(cs:List (Str×PFn))(F:ME3)(A:MA3):ME3:=λe=>(F e).bind λt e1=>match rs e1 t with
 |some (.glb x)=>(match cs.lookup x with
  |some p=>qI p.ms p.G A e1
  |none=>.stuck)
 |_=>.stuck
noncomputable def cs2(cs:List (Str×PFn)):List (Str×Nat×Fn):=cs.map λc=>(c.1,c.2.ms.length,c.2.F)
theorem mZ{x:Str}:∀(cs:List (Str×PFn)),(cs2 cs).lookup x=(cs.lookup x).map λp=>(p.ms.length,p.F)
 | []=>rfl
 |
  (y,p)::cs=>by
  show List.lookup x ((y,p.ms.length,p.F)::cs2 cs)=_;rw[Rf,Rf];split
  .rfl
  .exact mZ cs
def Eg{F:ME}{F3:ME3}{A:MA}{A3:MA3}(cs:List (Str×PFn))(hF:RE F F3)(hA:RA A A3):RE (uP (cs2 cs) F A) (AJ cs F3 A3):=λX h0 L ns e ae h S hl=>
 Po.bind S (hF X h0 L ns e ae h S hl) λd1 t1 h1 ns1 e1 a1 S1 r1=>by
  show Po X h0 ns1 e1 ae h1 (relE X h0 L ae) _ (match rs e1 t1 with
   |some (.glb x)=>(match cs.lookup x with
    |some p=>qI p.ms p.G A3 e1
    |none=>.stuck)
   |_=>.stuck)
  cases q:rs e1 t1 with
  |none=>trivial
  |
   some v=>
   cases v with
   |
    glb x=>
    obtain rfl:=(r1.sh S1 q).glb;dsimp only;rw[mZ];cases cs.lookup x with
    |none=>trivial
    |some p=>exact wm rfl p.ok hA X h0 L ns1 e1 ae h1 S1 (F_ hl a1.len)
   |_=>trivial
noncomputable def ny(cs:List (Str×PFn))(f:PEx)(a:PAs):PEx:=⟨uP (cs2 cs) f.F a.F,AJ cs f.G a.G,Eg cs f.ok a.ok⟩
theorem Gn(e:E3)(cs:List (Str×PFn))(f:PEx)(a:PAs):(ny cs f a).G e=(f.G e).bind λt e1=>match rs e1 t with
 |some (.glb x)=>(match cs.lookup x with
  |some p=>(ai p a).G e1
  |none=>.stuck)
 |_=>.stuck:=rfl
section
variable{K:W.Frag}{mg:Ua}{X:Cx}{ES:L2.St->XK}{e:Expr}{es:List Expr}{A:PAs}{pos:Pos}
def yi(K:W.Frag)(mg:Ua)(X:Cx)(cs:List (Str×PFn)):Prop:=∀c∈cs2 cs,∃k ps,Callee X.prog X.w X.K X.mg X.base c.1 k ps (spD K mg c.2.1 c.2.2)/\Room k X.A
def LK:yi K mg X []:=λ_ h=>nomatch h
def wj{f:PFn}{x:Str}{k n:Nat}{ps:List Str}{cs:List (Str×PFn)}(C:Callee X.prog X.w X.K X.mg X.base x k ps (spD K mg n f.F))(hr:Room k X.A)(h:yi K mg X cs)(hn:f.ms.length=n:=by rfl):yi K mg X ((x,f)::cs):=by
 subst hn;intro c hc;rcases I_.mp (show c∈(x,f.ms.length,f.F)::cs2 cs from hc) with rfl |hc
 .exact⟨k,ps,C,hr⟩
 .exact h c hc
def CB{ef:Expr}{cs:List (Str×PFn)}{p:PEx}(hc:yi K mg X cs)(hf:DE K mg X ES ef p.F)(hx:ir X ES)(ha:DA K mg X ES (e::es) A.F)(hm:X.mg=mg:=by rfl)
 (harm:eval (.Call ef (e::es) [] pos) X.env=(do callWith pos (<- eval ef X.env) [] (backTo pos (starEach (e::es) X.env)) (backToKw pos (keywordEach [] X.env))):=by rfl)
 (he:starEach (e::es) X.env=(false,eval e X.env)::starEach es X.env:=by rfl) (hpl:(backTo pos (starEach es X.env)).any (·.1)=false:=by rfl):DE K mg X ES (.Call ef (e::es) [] pos) (ny cs p A).F:=by with_unfolding_all exact D8 hc hf hx ha hm harm he hpl
end
theorem ar1{α:Type}{P:List α->Prop}(h:∀a,P [a]):∀us:List α,us.length=1->P us
 | [a],_=>h a
theorem ar2{α:Type}{P:List α->Prop}(h:∀a b,P [a,b]):∀us:List α,us.length=2->P us
 | [a,b],_=>h a b
theorem ar3{α:Type}{P:List α->Prop}(h:∀a b c,P [a,b,c]):∀us:List α,us.length=3->P us
 | [a,b,c],_=>h a b c
theorem ar4{α:Type}{P:List α->Prop}(h:∀a b c d,P [a,b,c,d]):∀us:List α,us.length=4->P us
 | [a,b,c,d],_=>h a b c d
section
variable{P:Nat->Prop}{h:AH}
def Ov(r:Rk P h ws us):lkD us k=some v->∃d,lkD ws k=some d/\Rd P h d v:=
 r.ind (M:=λws us=>lkD us k=some v->∃d,lkD ws k=some d/\Rd P h d v) (λq=>by cases q) (λ{k2 d v2 ds vs} r _ ih q=>by
  unfold lkD at q ih ⊢;rw[Q4] at q ⊢;dsimp only at q ⊢;by_cases hk:k2=k
  .rw[G_ hk] at q ⊢;cases q;exact⟨d,rfl,r⟩
  .rw[B_ hk] at q ⊢;exact ih q)
def Im(r:Rk P h ws us):us.map (·.1)=ws.map (·.1):=
 r.ind (M:=λws us=>us.map (·.1)=ws.map (·.1)) rfl λ_ _ ih=>by rw[t_,t_,ih]
def Kf(r:Rk P h ws us):ws.length=us.length:=
 r.ind (M:=λws us=>ws.length=us.length) rfl λ_ _ ih=>QW (· + 1) ih
def Kv(r:Rk P h ws us)(q:Rk P h ws' us'):Rk P h (ws++ws') (us++us'):=
 r.ind (M:=λws us=>Rk P h (ws++ws') (us++us')) q λr _ ih=>.cons r ih
def LY(rd:Rd P h d v)(r:Rk P h ws us):Rk P h (cV ws k d) (cV us k v):=by
 unfold cV;rw[rR (Im r)];by_cases hc:(ws.any λkv=>decide (kv.1=k))=true
 .rw[if_pos hc,if_pos hc];exact r.ind (M:=λws us=>Rk P h (ws.map λkv=>if kv.1=k then (kv.1,d) else kv) (us.map λkv=>if kv.1=k then (kv.1,v) else kv)) .nil (λ{k2 d2 v2 ds vs} r _ ih=>by
   rw[t_,t_];dsimp only;by_cases hk:k2=k
   .rw[if_pos hk,if_pos hk];exact .cons rd ih
   .rw[if_neg hk,if_neg hk];exact .cons r ih)
 .rw[if_neg hc,if_neg hc];exact Kv r (.cons rd .nil)
end
def sD:Val->Val->Val->Option Val:=λo i v=>match o with
 |.dct kvs=>(match i with
  |.str k=>if kvs.length<16777216 then some (.dct (cV kvs (.inr k) v)) else none
  |_=>none)
 |_=>none
def gi(xs:List Val)(n:Nat):g6 xs none (some (n:Int))=xs.take n:=by
 unfold g6;rw[HT.sIx_none,HT.sIx_nat,List.drop_zero,Nat.sub_zero];by_cases h:n<=xs.length
 .rw[Nat.min_eq_left h]
 .rw[Nat.min_eq_right (by omega),Ri (p_ _),Ri (by omega)]
def gK(xs:List Val)(n:Nat):g6 xs (some (n:Int)) none=xs.drop n:=by
 unfold g6;rw[HT.sIx_none,HT.sIx_nat];by_cases h:n<=xs.length
 .rw[Nat.min_eq_left h,Ri (by rw[QL];exact p_ _)]
 .rw[Nat.min_eq_right (by omega),List.drop_of_length_le (p_ _),List.drop_of_length_le (by omega),Sf]
def fq(xs:List Val)(lo hi:Option Int):aSl (.lst xs) lo hi=.new (.lst (g6 xs lo hi)):=rfl
noncomputable def pU(n:Nat)(u:jy):MG3:=λv e=>match v with
 |.tup vs=>if vs.length=n then u vs e else none
 |.lst vs=>if vs.length=n then u vs e else none
 |_=>none
section
variable{gs:MGs}{gs3:jy}
def rg_u(n:Nat)(hs:RGs gs gs3):RG (gU λds ae h=>if ds.length=n then gs ds ae h else .stuck) (pU n gs3):=λX h0 ns e ae h d v e' S r q=>by
 unfold pU at q;split at q
 .split at q
  .rename_i hn;obtain⟨ds,rfl,r2⟩:=ShR.tup (.inl r);obtain⟨ii,ns1,p1,S1,a1⟩:=hs _ _ _ _ _ _ _ _ _ S r2 q;refine⟨ii,ns1,?_,S1,a1⟩;unfold gU;dsimp only;rw[if_pos (by rw[r2.len];exact hn)];exact p1
  .cases q
 .split at q
  .rename_i hn;obtain⟨m,ds,rfl,_,eq,r2⟩:=ShR.lst (.inl r);obtain⟨ii,ns1,p1,S1,a1⟩:=hs _ _ _ _ _ _ _ _ _ S r2 q;refine⟨ii,ns1,?_,S1,a1⟩;unfold gU;dsimp only;rw[eq];dsimp only;rw[if_pos (by rw[r2.len];exact hn)];exact p1
  .cases q
 .cases q
end
noncomputable def gtU(n:Nat)(a:PGs):PGt:=⟨gU λds ae h=>if ds.length=n then a.F ds ae h else .stuck,pU n a.G,rg_u n a.ok⟩
section
variable{e:E3}
def g_uL(n:Nat)(a:PGs)(vs:List Val):(gtU n a).G (.lst vs) e=if vs.length=n then a.G vs e else none:=rfl
end
section
variable{K:W.Frag}{mg:Ua}{X:Cx}{es:List Expr}{gs:PGs}{pos:Pos}
def LR{k n:Nat}(hK:X.K=K)(hc:X.calm=true)(h:DGs K mg X (λ_=>E0) es gs.F)(hn:(assignEach es X.env).length=n:=by rfl)(hst:(assignEach es X.env).findIdx? (·.1)=none:=by rfl):DG K mg X (λ_=>E0) (.Tuple es k pos) (gtU n gs).F:=M5 hK hc h hn hst
end
def DF:List Val->Bv:=λvs=>match vs with
 | [.int j]=>if -(2^62)<=j/\j<=16777216 then .new (.lst (rgV j.toNat)) else .stuck
 |_=>.stuck
def LC:RFn oO DF:=λP h ds vs r=>by
 unfold DF;split
 .obtain⟨d,hd,rr1⟩:=eB r;subst hd;split
  .rename_i j hb;have e:=rr1.int;subst e;refine⟨.lst (oh j),by unfold oO;dsimp only;rw[if_pos hb],trivial,.lst ?_⟩;unfold oh rgV;generalize List.range j.toNat=l;induction l with
   |nil=>exact .nil
   |cons i l ih=>exact .cons (.int _) ih
  .trivial
 .trivial
def kI:PBf:=⟨oO,DF,LC⟩
def Ft{j:Int}(h:-(2^62)<=j/\j<=16777216):kI.G [.int j]=.new (.lst (rgV j.toNat)):=if_pos h
section
variable{K:W.Frag}{mg:Ua}{X:Cx}{ES:L2.St->XK}{a:Expr}{A:PAs}{pos q2 p1 p2:Pos}
def J2(hc:X.calm=true)(hl:Gl X "list")(hml:mg "list"=none)(hg:Gl X "range")(hm:mg "range"=none)(ha:DA K mg X ES [a] A.F)(hk:X.mg=mg:=by rfl)(hs:starEach [a] X.env=[(false,eval a X.env)]:=by rfl)
 (hs1:starEach [.Call (.Name "range" p2) [a] [] q2] X.env=[(false,eval (.Call (.Name "range" p2) [a] [] q2) X.env)]:=by rfl):
 DE K mg X ES (.Call (.Name "list" p1) [.Call (.Name "range" p2) [a] [] q2] [] pos) (pFn kI A).F:=by with_unfolding_all exact JY hc hl hml hg hm ha hk hs hs1
end
noncomputable def Fj:ME3:=λe=>.ok (.new (.set [])) e
def G5:RE xw Fj:=λX h0 L ns e ae h S hl=>BvR.po (r:=.ok (.ref h.length) (h++[Ob.set []])) (b:=.new (.set [])) S hl ⟨.set [],rfl,trivial,.set []⟩
def yY:PEx:=⟨xw,Fj,G5⟩
def NB(e:E3):yY.G e=.ok (.new (.set [])) e:=rfl
noncomputable def DD:Val->Val->Bv:=λx y=>match x,y with
 |.int i,.set xs=>.val (.bl (decide (i∈xs)))
 |_,_=>.stuck
def Mf:RO sC DD:=λP h d1 d2 v1 v2 r1 r2=>by
 unfold DD;split
 .rename_i i xs;rw[r1.int];obtain⟨n,rfl,e⟩:=r2.set;exact⟨_,by unfold sC;dsimp only;rw[e],.bl _⟩
 .trivial
noncomputable def En:PO2:=⟨sC,DD,Mf⟩
def PK(i:Int)(xs:List Int):En.G (.int i) (.set xs)=.val (.bl (decide (i∈xs))):=rfl
noncomputable def xh:List Val->Bv:=λvs=>match vs with
 | [.set xs]=>.val (.int (xs.length:Nat))
 |_=>.stuck
def Hv:RFn nC xh:=λP h ds vs r=>by
 unfold xh;split
 .obtain⟨d,hd,r1⟩:=eB r;subst hd;obtain⟨n,rfl,e⟩:=r1.set;exact⟨_,by unfold nC;dsimp only;rw[e],.int _⟩
 .trivial
def sq:PBf:=⟨nC,xh,Hv⟩
def JN(xs:List Int):sq.G [.set xs]=.val (.int (xs.length:Nat)):=rfl
noncomputable def CS:Val->Option (List Int)
 |.set xs=>some xs
 |_=>none
noncomputable def sA(i:Nat)(A:MA3):ME3:=λe=>match e[i]? with
 |some s=>match s.mv.bind CS with
  |some _=>(A e).bind λts e1=>match dem e1 ts with
   |some (e2,[.int k])=>match e2[i]? with
    |some s2=>match s2.mv.bind CS with
     |some xs=>if xs.length<4000 then .ok (.val .non) (e2.set i (s2.re (.set (eX xs k)))) else .stuck
     |none=>.stuck
    |none=>.stuck
   |_=>.stuck
  |none=>.stuck
 |none=>.stuck
def Lf(i:Nat)(hA:RA A A3):RE (eMS (bo i) A) (sA i A3):=λX h0 L ns e ae h S hl=>by
 unfold sA;cases q0:e[i]? with
 |none=>trivial
 |
  some s0=>
  dsimp only;split
  .rename_i xs0 hz;obtain⟨u0,z1,z2⟩:=QK.mp hz;obtain⟨n0,o0,b1,b2,b3,b4,_⟩:=S.write q0 z1;have hL:yw h (.ref n0)=true:=by
    cases u0 with
    |set ys=>cases b4;show (match h[n0]? with |some (.set _)=>true |_=>false)=true;rw[b2]
    |_=>cases z2
   have L2e:eMS (bo i) A ae h=(A ae h).bind λds h2=>sN (.ref n0) ds h2:=by unfold eMS bo;rw[b1];simp only[fK,hL,Sa]
   rw[L2e];refine Po.bind S (hA X h0 ns e ae h S) λds ts h1 ns1 e1 a1 S1 r1=>?_;split
   .rename_i e2 k q1;obtain⟨im,S2,a2,r2⟩:=iQ S1 r1 q1;cases q2:e2[i]? with
    |none=>trivial
    |
     some s2=>
     dsimp only;split
     .rename_i xs q3;split
      .rename_i bi;obtain⟨u,y1,y2⟩:=QK.mp q3;obtain⟨n,o,k1,k2,k3,k4,k5⟩:=S2.write q2 y1;rw[b1] at k1;cases k1;cases u with
       |set ys=>cases y2;cases k4;obtain⟨d,rfl,rd⟩:=BX r2;obtain rfl:=ShR.int (.inl rd);obtain⟨mv,S4,a4⟩:=k5 (.set (eX xs k)) (.set (eX xs k)) trivial (.set _);refine⟨.non,_,im,?_,a2.trans S1 a4,S4,.non⟩;unfold sN;dsimp only;rw[k2];dsimp only;rw[if_pos bi]
       |_=>cases y2
      .trivial
     .trivial
   .trivial
  .trivial
noncomputable def Cs(i:Nat)(a:PAs):PEx:=⟨eMS (bo i) a.F,sA i a.G,Lf i a.ok⟩
def Ld(e:E3)(i:Nat)(a:PAs):(Cs i a).G e=sA i a.G e:=rfl
noncomputable def rV:Val->Val->Bv:=λx y=>match x with
 |.dct kvs=>(match y with
  |.int k=>(match lkD kvs (.inl k) with
   |some v=>.val v
   |none=>.stuck)
  |_=>.stuck)
 |_=>.stuck
def JB:RO rF rV:=λP h d1 d2 v1 v2 r1 r2=>by
 unfold rV;split
 .split
  .split
   .rename_i kvs k _ v q;obtain⟨n,ws,rfl,e,rk⟩:=r1.dct;obtain rfl:=r2.int;obtain⟨d,q1,rd⟩:=Ov rk q;refine⟨d,?_,rd⟩;unfold rF;dsimp only;rw[e];dsimp only;rw[q1]
   .trivial
  .trivial
 .trivial
noncomputable def xm:PO2:=⟨rF,rV,JB⟩
def Ph(h:lkD kvs (.inl k)=some v):xm.G (.dct kvs) (.int k)=.val v:=by show rV (.dct kvs) (.int k)=_;unfold rV;dsimp only;rw[h]
noncomputable def sDI:Val->Val->Val->Option Val:=λo i v=>match o with
 |.dct kvs=>(match i with
  |.int k=>if kvs.length<16777216 then some (.dct (cV kvs (.inl k) v)) else none
  |_=>none)
 |_=>none
def F7:yW wDI sDI:=λP h n o u di vi d v u' np e hf r ri rd q=>by
 unfold sDI at q;split at q
 .rename_i kvs;split at q
  .rename_i k;split at q
   .rename_i hl;cases q;obtain rfl:=ri.int;cases r with
    |dct rk=>rename_i ws;refine⟨.dct (cV ws (.inl k) d),?_,trivial,.dct (LY rd rk)⟩;unfold wDI;dsimp only;rw[e];dsimp only;rw[if_pos (by rw[Kf rk];exact hl)]
   .cases q
  .cases q
 .cases q
noncomputable def seI:PSe:=⟨wDI,sDI,F7⟩
def II(kvs:List (Key×Val))(k:Int)(v:Val):seI.G (.dct kvs) (.int k) v=if kvs.length<16777216 then some (.dct (cV kvs (.inl k) v)) else none:=rfl
noncomputable def mz:Val->List Val->Option (Val×Val):=λu vs=>match u,vs with
 |.lst xs,[.tup ys]=>if xs.length+ys.length<=16777216 then some (.lst (xs++ys),.non) else none
 |_,_=>none
def y0:RM jo mz:=λP h n o u ds vs u' v e hf r rs q=>by
 unfold mz at q;split at q
 .split at q
  .rename_i hl;cases q;obtain⟨q1,es,q2,q3,q4⟩:=qH e r;obtain⟨d,rfl,rd⟩:=BX rs;obtain⟨ys',rfl,rr⟩:=ShR.tup (.inl rd);refine⟨q1,.lst (es++ys'),.non,?_,trivial,.lst (q3.append rr),.non⟩;unfold jo;rw[q4];dsimp only;rw[if_pos (by rw[q3.len,rr.len];exact hl)]
  .cases q
 .cases q
noncomputable def ik:PMm:=⟨jo,mz,y0⟩
def pI(xs ys:List Val):ik.G (.lst xs) [.tup ys]=if xs.length+ys.length<=16777216 then some (.lst (xs++ys),.non) else none:=rfl
section
variable{K:W.Frag}{mg:Ua}{X:Cx}{ES:L2.St->XK}{e o a b:Expr}{es:List Expr}{p q:PEx}{A:PAs}{pos:Pos}
def ya:MtD K mg (mj K) ik.F:=yo
def Km:OpD K mg tN En.F:=Iu
def GH:aV K mg (λxs H Q=>∃a S n,xs=[.ref a]/\H a=some (.set S n)/\Q (.int (n:Nat)) H) sq.F:=HN
def DK:og K mg yp seI.F:=C1
def HX(hg:Gl X x)(hm:mg x=none)(hv:bootBuiltins x=some (.type "set"))(hk:X.mg=mg:=by rfl)(hn:x ≠ "__name__":=by decide)(hdb:(x==("__debug__" : Str))=false:=by decide):DE K mg X ES (.Call (.Name x p0) [] [] pos) yY.F:=by with_unfolding_all exact Gx hg hm hv hk hn hdb
def JZ(hK:X.K=K)(ho:DE K mg X ES o (af j).F)(ha:DA K mg X ES (e::es) A.F)
 (d_:attributeBase o "add" X.env (eval o X.env)=eval o X.env:=by rfl)
 (hfew:((backTo cpos (starEach (e::es) X.env)).all (λx=>!x.1)&&(backToKw cpos (keywordEach [] X.env)).all (λx=>x.1.isSome)
  && decide ((e::es).length+([]:List Keyword).length+(if ([]:List Keyword).isEmpty then 0 else 1)<30))=true:=by rfl)
 (f_:(apos.endLine==cpos.line)=true:=by rfl) (hs:starEach (e::es) X.env=(false,eval e X.env)::starEach es X.env:=by rfl) (c_:(backTo cpos (starEach es X.env)).any (·.1)=false:=by rfl):
 DE K mg X ES (.Call (.Attribute o "add" apos) (e::es) [] cpos) (Cs j A).F:=by with_unfolding_all exact N9 hK ho ha d_ hfew f_ hs c_
def Dq(hu:X.A.units+1<cLine)(ha:DE K mg X ES a p.F)(hb:DE K mg X ES b q.F)(hs:yB b):DE K mg X ES (.Subscript a b pos) (pOp xm p q).F:=by with_unfolding_all exact Et hu ha hb hs
end
noncomputable def uo(f:List Int->Int):List Val->Bv:=λvs=>match vs with
 | [.lst xs]=>(match gf xs with
  |some bs=>if bs≠[] then .val (.int (f bs)) else .stuck
  |none=>.stuck)
 |_=>.stuck
def KA(f:List Int->Int):RFn (rG f) (uo f):=λP h ds vs r=>by
 unfold uo;split
 .obtain⟨d,hd,rr1⟩:=eB r;subst hd;clear r;have r:=rr1;obtain⟨n,es,rfl,_,e1,q⟩:=r.lst;split
  .rename_i bs e2;split
   .rename_i hne;exact⟨_,by unfold rG;dsimp only;rw[e1];show (match eQ es with |some bs=>_ |none=>_)=_;rw[BF q e2];dsimp only;rw[if_pos hne],.int _⟩
   .trivial
  .trivial
 .trivial
def tU:PBf:=⟨rG mnI,uo mnI,KA mnI⟩
def Nm{ns:List Int}(h:ns≠[]):tU.G [.lst (ns.map .int)]=.val (.int (mnI ns)):=by show uo mnI [.lst (ns.map .int)]=_;unfold uo;dsimp only;rw[cn];exact if_pos h
section
variable{K:W.Frag}{mg:Ua}
def GG:aV K mg (EI mnI K) tU.F:=IS mnI
end
section
variable{K:W.Frag}{mg:Ua}{X:Cx}{ES:L2.St->XK}{e:Expr}{es:List Expr}{p:PEx}{A:PAs}{pos:Pos}
def zcF{f:PFn}{x:Str}{p0:Pos}{k j n:Nat}{ps:List Str}(C:Callee X.prog X.w X.K X.mg X.base x j ps (spD K mg n f.F))(hr:Room k X.A)(ha:DA K mg X ES (e::es) A.F)(hk:j<=k:=by omega)(hg:Gl X x:=by exact rfl)(hx:ir X ES:=by first |exact lB Fu |exact CP |assumption)(hn:f.ms.length=n:=by rfl)(hdb:(x==("__debug__" : Str))=false:=by decide)(he:starEach (e::es) X.env=(false,eval e X.env)::starEach es X.env:=by rfl)(hpl:(backTo pos (starEach es X.env)).any (·.1)=false:=by rfl):DE K mg X ES (.Call (.Name x p0) (e::es) [] pos) (ai f A).F:=Er C (hr.mono hk) hg hx ha hn hdb he hpl
def zsS{ow:Bool}(i:Nat){x:Str}{io:Pos}(hN:X.N.Nodup)(he:DE K mg X ES e p.F)(hi:X.N[i]?=some x:=by exact rfl)(hx:Loc X.env.scope x:=by first |exact Or.inl rfl |exact Or.inr rfl)(hs:swapsWith e (some (.Name x io)) pos.line X.env=pure false:=by rfl)(hf:X.fn x=true\/X.env.scope.names.lookup x=some .local:=by first |exact .inl rfl |exact .inr rfl |assumption):DS K mg X ES (.Assign [.Name x io] e pos) (aw ow i p).F:=K2 hN hi hx he hs hf
def zgN(i:Nat){x:Str}(hN:X.N.Nodup)(hi:X.N[i]?=some x:=by exact rfl)(hx:Loc X.env.scope x:=by first |exact Or.inl rfl |exact Or.inr rfl)(hf:X.fn x=true\/X.env.scope.names.lookup x=some .local:=by first |exact .inl rfl |exact .inr rfl |assumption):DG K mg X ES (.Name x pos) (gtN i).F:=HL hN hi hx hf
end
def AN{P:Nat->Prop}{h:AH}:∀{ds:List D}{vs:List Val}{ns:List Int},Rds P h ds vs->gf vs=some ns->nh ds=some ns:=by
 intro ds;induction ds with
 |nil=>intro vs ns r e;cases r;cases e;rfl
 |
  cons d ds ih=>
  intro vs ns r e;cases r with
  |
   cons r rr=>
   rename_i v vs;cases v with
   |int i=>obtain⟨ms,e1,rfl⟩:=L_.mp e;obtain rfl:=ShR.int (.inl r);show (nh ds).map _=_;rw[ih rr e1];rfl
   |_=>cases e
open PySem PySem.Spec PyProof.Rows L2 PySem.W
noncomputable def adr(K:Frag)(x:Str):Addr:=match nsIn K mainGlobals x with
 |some (some (.ref a))=>a
 |_=>0
noncomputable def iz(K:Frag)(x:Str):Bool:=match nsIn K mainGlobals x with
 |some (some (.ref _))=>true
 |_=>false
noncomputable def uZ(K:Frag)(x:Str):Bool:=match nsIn K mainGlobals x with
 |some none=>true
 |_=>false
noncomputable def xcB(K:Frag)(C:Addr):Bool:=(clsIn K C).isSome&&(findIn K (.ref C) "__getattribute__" == some (some (.builtin "BaseException.__getattribute__"))&&(findIn K (.ref C) "__getattr__" == some none&&(findIn K (.ref C) "__class__" == some (some (.builtin "object.__class__"))&&(specialIn K (.builtin "object.__class__") "__get__" == some (some (.builtin "getset_descriptor.__get__"))&&(takesIn K (.builtin "object.__class__")==some true&&(mroIn K C (.type "object")==some true&&mroIn K C (.type "BaseException")==some true))))))
noncomputable def hdB(K:Frag)(C:Addr):Bool:=typeIn K (.ref C)==some (.type "type")&&((clsIn K C).isSome&&mroIn K C (.type "BaseException")==some true)
noncomputable def clA(K:Frag):Cl->Value
 |.b n=>.type n
 |.o x=>.ref (adr K x)
noncomputable def C7(K:Frag):Cl->Bool
 |.b _=>true
 |.o x=>iz K x
noncomputable def Eb(K:Frag)(p:Cl×Cl×Bool):Bool:=kitOne K (clA K p.1) (clA K p.2.1)==some p.2.2&&(C7 K p.1&&C7 K p.2.1)
noncomputable def xkB(K:Frag):Cl->Bool
 |.b _=>true
 |.o x=>xcB K (adr K x)
noncomputable def yE:D->Value->Bool
 |.int i,.int j _=>i==j
 |.str x,.str y _=>x==y
 |.non,.none=>true
 |.bl b,.bool c=>b==c
 |_,_=>false
noncomputable def dV:D->V
 |.int i=>.int i
 |.str x=>.str x
 |.bl b=>.bl b
 |_=>.non
noncomputable def qE:List D->List Value->Bool
 | [],[]=>true
 |d::ds,v::vs=>yE d v&&qE ds vs
 |_,_=>false
noncomputable def gcB(K:Frag)(x:Str):D->Bool
 |.tup ds=>(match nsIn K mainGlobals x with
  |some (some (.ref a))=>(match K.lookup a with
   |some ⟨.type "tuple",_,.seq its _,_⟩=>decide (its.size<=1000)&&qE ds its.toList
   |_=>false)
  |_=>false)
 |d=>match nsIn K mainGlobals x with
  |some (some v)=>yE d v
  |_=>false
noncomputable def bFn:List String:=["abs", "all", "any", "isinstance", "len", "max", "min", "sorted", "sum"]
noncomputable def bTy:List String:=["bool", "dict", "int", "list", "set", "str", "tuple"]
noncomputable def bIt:List String:=["range", "zip", "enumerate"]
def Kw:(bFn.all λn=>bootBuiltins (Str.ofString n)==some (.builtin n))=true:=by decide
def M4:(bTy.all λn=>bootBuiltins (Str.ofString n)==some (.type n))=true:=by decide
def boF{n:String}(h:bFn.contains n=true):bootBuiltins (Str.ofString n)=some (.builtin n):=QP.mp (QI.mp Kw n (Q1.mp h))
def boT{n:String}(h:bTy.contains n=true):bootBuiltins (Str.ofString n)=some (.type n):=QP.mp (QI.mp M4 n (Q1.mp h))
structure Tb where
 us:List Str
 rs:List Str
 hs:List (Str×List Str)
 kt:jG
 gs:List (Str×D)
noncomputable def Tb.ok(b:Tb)(K:Frag):Bool:=(bFn++(bTy++bIt)).all (λn=>uZ K (Str.ofString n))&&(b.us.all (iz K)&&(b.rs.all (λx=>excIn K (adr K x) l6 "ValueError.__new__" && iz K x)&&(b.hs.all (λp=>hdB K (adr K p.1)&&p.2.all λc=>mroIn K (adr K c) (.ref (adr K p.1))==some true&&iz K c)&&(b.kt.all (λp=>Eb K p&&xkB K p.1)&&b.gs.all λp=>gcB K p.1 p.2))))
structure Tx(b:Tb)(K:Frag)(mg:Ua):Prop where
 n:∀{n:String},(bFn++(bTy++bIt)).contains n=true->mg (Str.ofString n)=none
 m:∀{x:Str},b.us.contains x=true->mg x=some (.ref (adr K x))
 x:∀{x:Str},b.rs.contains x=true->excIn K (adr K x) l6 "ValueError.__new__"=true
 h:∀{x:Str}{l:List Str},(x,l)∈b.hs->XHand K (adr K x)/\∀c∈l,∀Ce,mg c=some (.ref Ce)->mroIn K Ce (.ref (adr K x))=some true
 k:KitsOk K mg b.kt
 g:∀{x:Str}{d:D},b.gs.lookup x=some d->GC K mg x d
section
variable{K:Frag}{h:Heap}{mg:Ua}{x:Str}(X:K.In h)(G:h.Ns mainGlobals mg)
include X G
def kC(e:iz K x=true):mg x=some (.ref (adr K x)):=by
 unfold iz at e;split at e
 .rename_i a q;unfold adr;rw[q];exact mg_of X G q
 .cases e
def yk(e:uZ K x=true):mg x=none:=by
 unfold uZ at e;split at e
 .rename_i q;exact mg_none_of X G q
 .cases e
omit X G in
def N7{C:Addr}(e:xcB K C=true):XCls K C:=by simp only[xcB,u_,QP] at e;obtain⟨e1,e2,e3,e4,e5,e6,e7,e8⟩:=e;exact⟨e1,e2,e3,e4,e5,e6,e7,e8⟩
def Fb{c:Cl}{v:Value}(e:C7 K c=true)(q:ClV mg c v):v=clA K c:=by
 cases c with
 |b n=>exact q
 |o y=>obtain⟨a,rfl,m⟩:=q;rw[kC X G (show iz K y=true from e)] at m;cases m;rfl
omit X G in
def Bm{d:D}{v:Value}(e:yE d v=true):RelV (dV d) v/\∀ρ H,RelD K mg ρ H d (dV d):=by
 unfold yE at e;split at e
 .cases QP.mp e;exact⟨⟨_,rfl⟩,λ_ _=>.int _⟩
 .cases QP.mp e;exact⟨⟨_,rfl⟩,λ_ _=>.str _⟩
 .exact⟨rfl,λ_ _=>.non⟩
 .cases QP.mp e;exact⟨rfl,λ_ _=>.bl _⟩
 .cases e
omit X G in
theorem vK:∀{ds:List D}{vs:List Value},qE ds vs=true->Vals (ds.map dV) vs/\∀ρ H,RelDs K mg ρ H ds (ds.map dV)
 | [],[],_=>⟨.nil,λ_ _=>.nil⟩
 |
  d::ds,v::vs,e=>by
  rw[qE,u_] at e;obtain⟨a1,a2⟩:=Bm (K:=K) (mg:=mg) e.1;obtain⟨b1,b2⟩:=vK e.2;exact⟨.cons a1 b1,λρ H=>.cons (a2 ρ H) (b2 ρ H)⟩
 | [],_::_,e=>nomatch e
 |_::_,[],e=>nomatch e
def Oh{d:D}(e:gcB K x d=true):GC K mg x d:=by
 unfold gcB at e;split at e
 .rename_i ds;split at e
  .rename_i a q;split at e
   .rename_i dd its n sl l;rw[u_] at e;obtain⟨v1,v2⟩:=vK (K:=K) (mg:=mg) e.2;exact Mx X G q l (F_ (Su e.1) (by decide)) v1 v2
   .cases e
  .cases e
 .split at e
  .rename_i v q;obtain⟨v1,v2⟩:=Bm (K:=K) (mg:=mg) e;exact⟨_,_,mg_of X G q,v1,v2⟩
  .cases e
omit X G in
theorem z8{d:D}:∀{l:List (Str×D)},l.lookup x=some d->(x,d)∈l
 | [],h=>nomatch h
 |
  (y,e)::l,h=>by
  rw[Rf] at h;split at h
  .rename_i q;cases h;rw[QP.mp q];exact r_
  .exact n_ _ (z8 h)
def PX{b:Tb}(e:b.ok K=true):Tx b K mg:=by
 unfold Tb.ok at e;simp only[u_] at e;obtain⟨e1,e2,e3,e4,e5,e6⟩:=e;simp only[QI,u_] at e1 e2 e3 e4 e5 e6;refine⟨λh=>yk X G (e1 _ (Q1.mp h)),λh=>kC X G (e2 _ (Q1.mp h)),λh=>(e3 _ (Q1.mp h)).1,λh=>?_,⟨λp hp t v h1 h2=>?_,λp hp x C e' m=>?_⟩,λh=>Oh X G (e6 _ (z8 h))⟩
 .obtain⟨a1,a2⟩:=e4 _ h;refine⟨?_,λc hc Ce m=>?_⟩
  .simp only[hdB,u_,QP] at a1;exact⟨a1.1,a1.2.1,a1.2.2⟩
  .obtain⟨b1,b2⟩:=a2 c hc;rw[kC X G b2] at m;cases m;exact QP.mp b1
 .obtain⟨a1,_⟩:=e5 p hp;simp only[Eb,u_,QP] at a1;rw[Fb X G a1.2.1 h1,Fb X G a1.2.2 h2];exact a1.1
 .obtain⟨a1,a2⟩:=e5 p hp;simp only[Eb,u_,QP] at a1;have a3:=a1.2.1;rw[e'] at a2 a3;rw[kC X G (show iz K x=true from a3)] at m;cases m;exact N7 a2
end
def dNm(s:Stmt):Str:=match s with
 |.FunctionDef n ..=>n
 |_=>""
def AllD(K:Frag)(mg:Ua)(top:Nat->Stmt):List Nat->Prop
 | []=>True
 |i::l=>Def K mg (dNm (top i)) (top i)/\AllD K mg top l
theorem AllD.get{K:Frag}{mg:Ua}{top:Nat->Stmt}:∀{l:List Nat},AllD K mg top l->∀i,l.contains i=true->Def K mg (dNm (top i)) (top i)
 | [],_,i,h=>nomatch h
 |
  j::l,⟨a,b⟩,i,h=>by
  rcases I_.mp (Q1.mp h) with rfl |h
  .exact a
  .exact b.get i (Q1.mpr h)
def _root_.L2.Def.gl{K:Frag}{mg:Ua}{x:Str}{st:Stmt}(D:Def K mg x st):∃a,mg x=some (.ref a):=let ⟨f,_,_,m⟩:=D.ex;⟨f,m⟩
structure Ty(b:Tb)(top:Nat->Stmt)(ds:List Nat)(K:Frag)(mg:Ua):Prop extends Tx b K mg where
 d:AllD K mg top ds
noncomputable def scB(N P:List Str)(sc:Scope):Bool:=decide (sc.kind=.function)&&(!sc.isCoroutine&&(!sc.isGenerator&&(decide N.Nodup&&(decide (N.take P.length=P)&&(P.all (λx=>decide (sc.names.lookup x=some .local\/sc.names.lookup x=some .cell))&&sc.names.all λy=>decide (y.2 ≠ .free))))))
def au{N P:List Str}{sc:Scope}(e:scB N P sc=true):FnScope N P sc:=by simp only[scB,u_,Ss,QI,So] at e;obtain⟨e1,e2,e3,e4,e5,e6,e7⟩:=e;exact⟨e1,e2,e3,e4,e5,e6,e7⟩
section
variable{K:W.Frag}{mg:Ua}{X:Cx}{ES:L2.St->XK}{tg a_ jp:Expr}{p:PEx}{x:PSt}{g:PGt}{I:PIt}{pos:Pos}
def fM{scope:Scope}(M:List Str)(kn:List (Str×NameKind))(N:List Str)(sub:Ud){hsb:(sub.filterMap id).Nodup}(hi:DI K mg X ES tg a_ I.F)(hg:N.Nodup->∀cl C s₂ H fp,DG K mg (aN X N scope cl C s₂ H fp) (λ_=>E0) tg g.F)(he:N.Nodup->∀cl C s₂ H fp,DE K mg (aN X N scope cl C s₂ H fp) (λ_=>E0) jp p.F)(hnd:N.Nodup:=by decide)(hc:X.calm=true:=by rfl)(hM:X.N=M:=by rfl)(hkn:X.env.scope.names=kn:=by rfl)(g_:fZ M scope.names sub N=true:=by decide)(hk:scope.kind=.function:=by rfl)(hnc:∀x∈scope.names,x.2 ≠ .cell:=by decide)(ci:∀x∈scope.names,x.2=.local->scope.names.lookup x.1=some .local:=by decide)(hfr:iJ kn scope.names=true:=by decide)(hsl:sub.length=N.length:=by rfl)(hs:∀x,foldedSetIterable a_ X.env x=pure x:=by intro _;rfl):DE K mg X ES (.ListComp jp [⟨tg,a_,[],0⟩] scope pos) (pLC I sub hsb g qY p).F:=Qv M kn N sub hc hi (hg hnd) (he hnd) hM hkn g_ hk hnc ci hfr hsl hs
def zSlc{ow:Bool}{px spos:Pos}{iT:Nat}{xT:Str}{scope:Scope}(hN:X.N.Nodup)(M:List Str)(kn:List (Str×NameKind))(N:List Str)(sub:Ud){hsb:(sub.filterMap id).Nodup}(hi:DI K mg X ES tg a_ I.F)(hg:N.Nodup->∀cl C s₂ H fp,DG K mg (aN X N scope cl C s₂ H fp) (λ_=>E0) tg g.F)(he:N.Nodup->∀cl C s₂ H fp,DE K mg (aN X N scope cl C s₂ H fp) (λ_=>E0) jp p.F)(hsw:swapsWith (.ListComp jp [⟨tg,a_,[],0⟩] scope pos) (some (.Name xT px)) spos.line X.env=pure true:=by rfl)(hnd:N.Nodup:=by decide)(hc:X.calm=true:=by rfl)(hix:X.N[iT]?=some xT:=by rfl)(hxl:Loc X.env.scope xT:=by first |exact Or.inl rfl |exact Or.inr rfl)(hM:X.N=M:=by rfl)(hkn:X.env.scope.names=kn:=by rfl)(g_:fZ M scope.names sub N=true:=by decide)(hk:scope.kind=.function:=by rfl)(hnc:∀x∈scope.names,x.2 ≠ .cell:=by decide)(ci:∀x∈scope.names,x.2=.local->scope.names.lookup x.1=some .local:=by decide)(hfr:iJ kn scope.names=true:=by decide)(hsl:sub.length=N.length:=by rfl)(hs:∀x,foldedSetIterable a_ X.env x=pure x:=by intro _;rfl)(hf:X.fn xT=true\/X.env.scope.names.lookup xT=some .local:=by first |exact .inl rfl |exact .inr rfl |assumption):DS K mg X ES (.Assign [.Name xT px] (.ListComp jp [⟨tg,a_,[],0⟩] scope pos) spos) (aw ow iT (pLC I sub hsb g qY p)).F:=OH M kn N sub hc hN hix hxl hi (hg hnd) (he hnd) hsw hM hkn g_ hk hnc ci hfr hsl hs hf
end
section
variable{K:W.Frag}{mg:Ua}{P:Program}{w:World}{base:Heap}{fx:Str}{h_:Stmt}{k n m:Nat}{ps N:List Str}{ms:List Bool}{x:PSt}
def aD(D:Def K mg fx h_)(S:FnScope N ps (ak h_))
 (hb:∀(kV doc pm:Value) (an:Option Addr) (cdv ct:Value) (us:List Value),us.length=ps.length->bindArgs (W.fnOf fx fx (bS h_) (aP h_) (ak h_) .none kV doc pm an cdv ct) ⟨us,[]⟩=pure (ps.zip us))
 (e_:N.Nodup->∀(f:Addr) (cdv:Value) (A:Around) (outer:List Env) (s:Shared) (H:Hp) (E:XK),Room k (A.deeper (envOfC fx (ak h_) s.heap.objs.size f cdv))->
  DSs K mg (c9 (CX1 P w) P w K mg base N fx (ak h_) f cdv A outer s H E) (λ_=>E) (aP h_) x.F) (hn:ps.length=n:=by rfl) (hm:N.length=m:=by rfl):Callee P w K mg base fx (k+1) ps (spD K mg n (fnP ms m x).F):=okP D S hb (e_ S.nd) hn hm
def CO(D:Def K mg fx h_)(S:FnScope N ps (ak h_))
 (hb:∀(kV doc pm:Value) (an:Option Addr) (cdv ct:Value) (us:List Value),us.length=ps.length->bindArgs (W.fnOf fx fx (bS h_) (aP h_) (ak h_) .none kV doc pm an cdv ct) ⟨us,[]⟩=pure (ps.zip us))
 (e_:N.Nodup->∀(f:Addr) (cdv:Value) (A:Around) (outer:List Env) (s:Shared) (H:Hp) (E:XK),Room k (A.deeper (envOfC fx (ak h_) s.heap.objs.size f cdv))->
  DSs K mg (c9 (CX1 P w) P w K mg base N fx (ak h_) f cdv A outer s H E) (λ_=>E) (aP h_) x.F) (hn:ps.length=n:=by rfl) (hm:N.length=m:=by rfl):Callee P w K mg base fx (k+1) ps (spD K mg n (PFx.of ms m x).F):=okX D S hb (e_ S.nd) hn hm
end
noncomputable def mF:List Val->Bv:=λvs=>match vs with
 | [.int j,.lst us]=>match gf us with
  |some ws=>if j=(ws.length:Nat)/\ws.length<64 then .new (.lst ((aJ ws).map λi:Nat=>.int (i:Nat))) else .stuck
  |none=>.stuck
 |_=>.stuck
theorem rZ{P:Nat->Prop}{h:AH}:∀l:List Nat,Rds P h (l.map λi:Nat=>D.int (i:Nat)) (l.map λi:Nat=>Val.int (i:Nat))
 | []=>.nil
 |i::l=>.cons (.int _) (rZ l)
def He:RFn js mF:=λP h ds vs r=>by
 unfold mF;split
 .obtain⟨d,e,hd,r1,r2⟩:=nE r;subst hd;split
  .rename_i ws q;split
   .rename_i hb;have e1:=r1.int;subst e1;obtain⟨n,es,rfl,g1,_,g2⟩:=ShR.lst r2;refine⟨.lst ((aJ ws).map λi:Nat=>D.int (i:Nat)),?_,trivial,.lst (rZ _)⟩;unfold js lsD aM;dsimp only;rw[g1];dsimp only;rw[AN g2 q];dsimp only;rw[if_pos hb]
   .trivial
  .trivial
 .trivial
def uQ:PBf:=⟨js,mF,He⟩
def zy(ws:List Int)(h:ws.length<64):uQ.G [.int (ws.length:Nat),.lst (ws.map .int)]=.new (.lst ((aJ ws).map λi:Nat=>.int (i:Nat))):=by show mF [.int (ws.length:Nat),.lst (ws.map .int)]=_;unfold mF;dsimp only;rw[cn];dsimp only;rw[if_pos ⟨rfl,h⟩]
section
variable{K:W.Frag}{mg:Ua}{X:Cx}{ES:L2.St->XK}{a:Expr}{p:PEx}{iW:Nat}{c P:Addr}{q1 q2 q6 q7 q8 q9 p0 p1 p2 p3 p4 p5 p6:Pos}
def F8(hc:X.calm=true)(hdp:X.A.depth<recursionLimit)(hl:Gl X "sorted")(hml:mg "sorted"=none)(hg:Gl X "range")(hm:mg "range"=none)(hN:X.N[iW]?=some "weights")(hv:X.env.scope.names.lookup ("weights" : Str)=some .cell)(kw:X.env.code=.ref c)(hh:W.codeHdIn K c P=true)(hT:LamT K mg P (X.env.qual ++ "<lambda>"))(ha:DE K mg X ES a p.F)(hK:X.K=K:=by rfl)(hk:X.mg=mg:=by rfl)(hs:starEach [a] X.env=[(false,eval a X.env)]:=by rfl):
 DE K mg X ES (.Call (.Name "sorted" q1) [.Call (.Name "range" q2) [a] [] q6] [⟨some "key",.Lambda (eI p0) (dH p1 p2 p3 p4 p5 p6) aY q7,q8⟩] q9) (pFn uQ (aa p (aa (af iW) ag))).F:=by
 subst hk;with_unfolding_all exact HQ hc hdp hl hml hg hm ha hN hv kw hh hT hs hK rfl
end
def DY(K:Frag)(mg:Ua)(x:Str):Prop:=x∈lW/\(∀y∈lW,y≠x->mg y=none)/\∀f oc od fd sl,mg x=some (.ref f)->K.lookup f=some ⟨oc,od,.func fd,sl⟩->∃c P,fd.code=.ref c/\codeHdIn K c P=true
noncomputable def yd(K:Frag)(a:Addr):Option (Addr×Addr):=match K.lookup a with
 |some ⟨_,_,.func fd,_⟩=>(match fd.code with
  |.ref c=>(match K.lookup c with
   |some ⟨_,_,.fields vs,_⟩=>(match (vs[11]?:Option Value) with
    |some (.ref P)=>if codeHdIn K c P=true then some (c,P) else none
    |_=>none)
   |_=>none)
  |_=>none)
 |_=>none
noncomputable def lamB(K:Frag)(x:Str):Bool:=lW.contains x&&(lW.all (λy=>y==x || uZ K y)&&(iz K x&&(yd K (adr K x)).isSome))
noncomputable def N6(K:Frag)(ts:List Addr):Bool:=lW.all λx=>uZ K x || (iz K x&&(match yd K (adr K x) with
 |some (_,P)=>ts.contains P
 |none=>false))
noncomputable def Fx(K:Frag)(ts:List Addr):Bool:=ts.all λP=>(K.lookup P).isNone&&K.any λp=>codeHdIn K p.1 P
def wC{K:Frag}{a c P:Addr}(e:yd K a=some (c,P)):∃oc od fd sl,K.lookup a=some ⟨oc,od,.func fd,sl⟩/\fd.code=.ref c/\codeHdIn K c P=true:=by
 unfold yd at e;split at e
 .rename_i oc od fd sl h1;split at e
  .rename_i c' h2;split at e
   .split at e
    .split at e
     .rename_i h3;cases e;exact⟨_,_,fd,_,h1,h2,h3⟩
     .cases e
    .cases e
   .cases e
  .cases e
 .cases e
def Ny{K:Frag}{c P P':Addr}(h:codeHdIn K c P=true)(h':codeHdIn K c P'=true):P=P':=by
 unfold codeHdIn at h h';split at h
 .rename_i vs hk;rw[hk] at h';simp only[u_] at h h';have a:=h.1.1.1.1.1;have b:=h'.1.1.1.1.1;split at a
  .rename_i x hx;rw[hx] at b;rw[QP] at a b;exact a.symm.trans b
  .cases a
 .cases h
section
variable{K:Frag}{h:Heap}{mg:Ua}(X:K.In h)(G:h.Ns mainGlobals mg)
include X G
def Jr{x:Str}(e:lamB K x=true):DY K mg x:=by
 simp only[lamB,u_,QI,Sh] at e;obtain⟨e1,e2,e3,e4⟩:=e;refine⟨Q1.mp e1,λy hy hne=>?_,λf oc od fd sl m lk=>?_⟩
 .rcases e2 y hy with z |z
  .exact absurd (QP.mp z) hne
  .exact yk X G z
 .obtain⟨⟨c,P⟩,ec⟩:=Rn.mp e4;obtain⟨oc',od',fd',sl',l1,l2,l3⟩:=wC ec;have m':=kC X G e3;rw[m] at m';cases m';rw[lk] at l1;cases l1;exact⟨c,P,l2,l3⟩
def Me{ts:List Addr}(e:N6 K ts=true)(P:Addr)(q:Str)(l:LamT K mg P q):P∈ts:=by
 obtain⟨x,f,oc,od,fd,sl,c,a1,a2,a3,a4,a5,a6,_⟩:=l;have z:=QI.mp e x a1;rw[Sh] at z;rcases z with z |z
 .have:=yk X G z
  rw[a3] at this;cases this
 .rw[u_] at z;obtain⟨z1,z2⟩:=z;have m':=kC X G z1;rw[a3] at m';cases m';split at z2
  .rename_i c' P' ec;obtain⟨oc',od',fd',sl',l1,l2,l3⟩:=wC ec;rw[a4] at l1;cases l1;rw[a5] at l2;cases l2;rw[Ny a6 l3];exact Q1.mp z2
  .cases z2
end
def Ig{K:Frag}{ts:List Addr}{h:Heap}(e:Fx K ts=true)(a:∀P∈ts,h.get? P=some (tabObj #[])):TabsOk K ts h:=by
 simp only[Fx,QI,u_,List.any_eq_true] at e;refine⟨a,λP hP=>?_,λP hP=>?_⟩
 .have:=(e P hP).1
  rw[Option.isNone_iff_eq_none] at this;exact this
 .obtain⟨p,_,q⟩:=(e P hP).2;exact⟨p.1,q⟩
structure TyL(b:Tb)(top:Nat->Stmt)(ds:List Nat)(K:Frag)(mg:Ua):Prop extends Ty b top ds K mg where
 l:DY K mg "by_falling_weights"
section
variable{K:W.Frag}{mg:Ua}{P:Program}{w:World}{base:Heap}{fx:Str}{h_:Stmt}{k n m:Nat}{ps N:List Str}{ms:List Bool}{x:PSt}
def okPL(D:Def K mg fx h_)(L:DY K mg fx)(S:FnScope N ps (ak h_))
 (hb:∀(kV doc pm:Value) (an:Option Addr) (cdv ct:Value) (us:List Value),us.length=ps.length->bindArgs (W.fnOf fx fx (bS h_) (aP h_) (ak h_) .none kV doc pm an cdv ct) ⟨us,[]⟩=pure (ps.zip us))
 (e_:N.Nodup->∀(f:Addr) (A:Around) (outer:List Env) (s:Shared) (H:Hp) (E:XK) (c T:Addr),codeHdIn K c T=true->LamT K mg T (fx ++ ".<locals>." ++ "<lambda>")->Room k (A.deeper (envOfC fx (ak h_) s.heap.objs.size f (.ref c)))->
  DSs K mg (c9 (CX1 P w) P w K mg base N fx (ak h_) f (.ref c) A outer s H E) (λ_=>E) (aP h_) x.F) (hn:ps.length=n:=by rfl) (hm:N.length=m:=by rfl):Callee P w K mg base fx (k+1) ps (spD K mg n (fnP ms m x).F):=by
 subst hn hm;obtain⟨f,fd,Ff,mm⟩:=D.ex;have bd:=Ff.binds hb;have kp:=Ff.kp;obtain⟨oc,od,kV,doc,pm,an,cdv,ct,osl,rfl,lk,kw⟩:=Ff.ex;obtain⟨c,T,e1,e2⟩:=L.2.2 f _ _ _ _ mm lk;have e1:cdv=.ref c:=e1;subst e1;have LT:LamT K mg T (fx ++ ".<locals>." ++ "<lambda>"):=⟨fx,f,oc,od,_,osl,c,L.1,L.2.1,mm,lk,rfl,e2,rfl⟩;refine⟨f,_,Fo lk kw S (λvs H Q E ⟨ρ,h,ds,w,rs,hl,p⟩=>by rw[<- rs.len];exact hl) λA outer s H vs Q E hr ⟨ρ,h,ds,w',rs,hl,p⟩=>?_,mm,kp,bd,oc,od,osl,lk⟩;have p:cQ K mg ρ H Q E (fnD N.length x.F ds h):=p;have hb2:=e_ S.nd f A outer s H E c T e2 LT hr;with_unfolding_all refine⟨_,hb2,ρ,h,_,w',nu rs,?_⟩
 unfold fnD at p;split at p
 .rename_i e;rw[e];exact λρ1 H1 σ1 l1 w1 re1=>p ρ1 H1 l1 w1 _ .non
 .rename_i e;rw[e];exact λρ1 H1 v l1 w1 rv=>p ρ1 H1 l1 w1 v rv
 .rename_i e;rw[e];exact λρ1 H1 σ1 C l1 w1 re1 m1=>p ρ1 H1 C l1 w1 m1
 .exact p.elim
end
def BU:List Val->Bv:=λvs=>match vs with
 | [.int j]=>if 0<=j/\j<=1000000 then .val (.tup (rgV j.toNat)) else .stuck
 |_=>.stuck
def L9:RFn tw BU:=λP h ds vs r=>by
 unfold BU;split
 .obtain⟨d,hd,rr1⟩:=eB r;subst hd;split
  .rename_i j hb;have e:=rr1.int;subst e;refine⟨.tup (oh j),by unfold tw;dsimp only;rw[if_pos hb],.tup ?_⟩;unfold oh rgV;generalize List.range j.toNat=l;induction l with
   |nil=>exact .nil
   |cons i l ih=>exact .cons (.int _) ih
  .trivial
 .trivial
def qV:PBf:=⟨tw,BU,L9⟩
def PC{j:Int}(h:0<=j/\j<=1000000):qV.G [.int j]=.val (.tup (rgV j.toNat)):=if_pos h
section
variable{K:W.Frag}{mg:Ua}{X:Cx}{ES:L2.St->XK}{a:Expr}{A:PAs}{pos q2 p1 p2:Pos}
def Nh(hc:X.calm=true)(hl:Gl X "tuple")(hml:mg "tuple"=none)(hg:Gl X "range")(hm:mg "range"=none)(ha:DA K mg X ES [a] A.F)(hk:X.mg=mg:=by rfl)(hs:starEach [a] X.env=[(false,eval a X.env)]:=by rfl)
 (hs1:starEach [.Call (.Name "range" p2) [a] [] q2] X.env=[(false,eval (.Call (.Name "range" p2) [a] [] q2) X.env)]:=by rfl):
 DE K mg X ES (.Call (.Name "tuple" p1) [.Call (.Name "range" p2) [a] [] q2] [] pos) (pFn qV A).F:=by with_unfolding_all exact LH hc hl hml hg hm ha hk hs hs1
end
end L3
namespace Wb
open L2
noncomputable def lc(qs:List Rat)(c:Nat):Nat:=qs.foldl (λc q=>Nat.lcm c q.den) c
noncomputable def gc(ws:List Int)(g:Nat):Nat:=ws.foldl (λg w=>Int.gcd (g:Int) w) g
noncomputable def wh(L:Nat)(qs:List Rat):List Int:=qs.map λq=>q.num*((L/q.den:Nat):Int)
def ws(qs:List Rat):List Int:=wh (lc qs 1) qs
def dv(qs:List Rat):Nat:=gc (ws qs) 0
end Wb
namespace L3
open PySem L2
def aS(b:Bx):Rat:=if b.w<b.h then b.h/b.w else b.w/b.h
noncomputable def shL(s l:Rat)(W:Int):Int->List Int->List (Rat×Rat)
 |_,[]=>[]
 |a,w::ws=>(s+l*((a:Rat)/(W:Rat)),l*((w:Rat)/(W:Rat)))::shL s l W (a+w) ws
theorem i8(s l:Rat)(W:Int):∀(ws:List Int) (a:Int),(shL s l W a ws).length=ws.length
 | [],_=>rfl
 |w::ws,a=>by unfold shL;rw[C_,C_,i8 s l W ws (a+w)]
noncomputable def ay(b:Bx)(way:Str)(ws:List Int):List Bx:=if way="across" then (shL b.l b.w ws.sum 0 ws).map λp=>⟨p.1,b.t,p.2,b.h⟩ else (shL b.t b.h ws.sum 0 ws).map λp=>⟨b.l,p.1,b.w,p.2⟩
theorem dB:∀{l:List Int},(∀w∈l,1<=w)->(l.length:Int)<=l.sum
 | [],_=>by simp
 |
  x::l,h=>by
  rw[QS,C_]
  have:=h x (r_ ..)
  have:=dB (l:=l) λw hw=>h w (n_ _ hw)
  omega
theorem wu:∀(ws:List Int) (a:Int),0<=a->(∀w∈ws,1<=w)->a+ws.sum<=W->p∈shL s l W a ws->∃a' w:Int,0<=a'/\a'<=W/\1<=w/\w<=W/\p=(s+l*((a':Rat)/(W:Rat)),l*((w:Rat)/(W:Rat)))
 | [],_,_,_,_,h=>nomatch h
 |
  w::ws,a,ha,hw,hs,h=>by
  have h1:=hw w (r_ ..);have h2:=dB (l:=ws) λx hx=>hw x (n_ _ hx);rw[QS] at hs;unfold shL at h;rcases I_.mp h with rfl |h
  .exact⟨a,w,ha,by omega,h1,by omega,rfl⟩
  .exact wu ws (a+w) (by omega) (λx hx=>hw x (n_ _ hx)) (by omega) h
noncomputable def cut1(b:Bx)(way:Str)(u v:Int):Bx:=(ay b way [u,v]).headD b
noncomputable def cut2(b:Bx)(way:Str)(u v:Int):Bx:=((ay b way [u,v]).drop 1).headD b
def j5(b:Bx)(way:Str)(u v:Int):ay b way [u,v]=[cut1 b way u v,cut2 b way u v]:=by unfold cut1 cut2 ay;split <;> rfl
noncomputable def liV(l:List Int):Val:=.lst (l.map .int)
def wsAt(ws:List Int)(i:Int):Int:=ws.getD i.toNat 0
def wt(ws l:List Int):Int:=(l.map (wsAt ws)).sum
def mx(x y:Rat):Rat:=if x<y then y else x
open PySem PySem.Spec PyProof.Rows L2
inductive AT where
 |lf (k:Nat)
 |nd (w:Bool) (ts:List AT)
noncomputable def wy(w:Bool):Str:=if w=true then "across" else "down"
def AT.ind{P:AT->Prop}(h1:∀k,P (.lf k))(h2:∀w ts,(∀t∈ts,P t)->P (.nd w ts))(t:AT):P t:=
 @AT.rec P (λts=>∀t∈ts,P t) h1 (λw ts ih=>h2 w ts ih) (λt h=>nomatch h) (λt ts i1 i2 u hu=>by
  rcases I_.mp hu with rfl |hu
  .exact i1
  .exact i2 u hu) t
mutual
def AT.val(f:Nat->Val):AT->Val
 |.lf k=>f k
 |.nd w ts=>.tup [.str (wy w),.tup (AT.vals f ts)]
def AT.vals(f:Nat->Val):List AT->List Val
 | []=>[]
 |t::ts=>AT.val f t::AT.vals f ts
end
mutual
def AT.lvs:AT->List Nat
 |.lf k=>[k]
 |.nd _ ts=>AT.lvsL ts
def AT.lvsL:List AT->List Nat
 | []=>[]
 |t::ts=>AT.lvs t++AT.lvsL ts
end
mutual
def AT.dep:AT->Nat
 |.lf _=>1
 |.nd _ ts=>AT.depL ts+1
def AT.depL:List AT->Nat
 | []=>0
 |t::ts=>max (AT.dep t) (AT.depL ts)
end
mutual
def AT.ok:AT->Bool
 |.lf _=>true
 |.nd _ ts=>decide (2<=ts.length)&&AT.okL ts
def AT.okL:List AT->Bool
 | []=>true
 |t::ts=>AT.ok t&&AT.okL ts
end
theorem AT.vals_map(f:Nat->Val):∀ts,AT.vals f ts=ts.map (AT.val f)
 | []=>rfl
 |t::ts=>by rw[AT.vals,AT.vals_map f ts];rfl
theorem AT.lvsL_mem:∀{ts:List AT},x∈AT.lvsL ts ↔ ∃t∈ts,x∈t.lvs
 | []=>by simp [AT.lvsL]
 |t::ts=>by rw[AT.lvsL,RL,AT.lvsL_mem (ts:=ts)];simp
theorem AT.lvsL_flat:∀ts:List AT,AT.lvsL ts=(ts.map AT.lvs).flatten
 | []=>rfl
 |t::ts=>by rw[AT.lvsL,AT.lvsL_flat ts];rfl
theorem AT.depL_le:∀{ts:List AT},AT.depL ts<=m ↔ ∀t∈ts,t.dep<=m
 | []=>by simp [AT.depL]
 |t::ts=>by rw[AT.depL,Nat.max_le,AT.depL_le (ts:=ts)];simp
theorem AT.okL_mem:∀{ts:List AT},AT.okL ts=true ↔ ∀t∈ts,t.ok=true
 | []=>by simp [AT.okL]
 |t::ts=>by rw[AT.okL,u_,AT.okL_mem (ts:=ts)];simp
noncomputable def wd(w b:Bool):Str:=if w=true then (if b=true then "left" else "right") else (if b=true then "above" else "below")
def w9{t:AT}(h:t.ok=true):1<=t.lvs.length:=by
 induction t using AT.ind with
 |h1 k=>simp [AT.lvs]
 |
  h2 w ts ih=>
  rw[AT.ok,u_] at h;cases ts with
  |nil=>exact absurd h.1 (by decide)
  |
   cons t ts=>
   have:=ih t (r_ ..) (AT.okL_mem.mp h.2 t (r_ ..))
   rw[AT.lvs,AT.lvsL,D_];omega
theorem sk{α β:Type}{f:α->List β}:∀{l:List α},(∀a∈l,1<=(f a).length)->l.length<=((l.map f).flatten).length
 | [],_=>p_ _
 |
  a::l,h=>by
  have h1:=h a (r_ ..);have h2:=sk (l:=l) λb hb=>h b (n_ _ hb);rw[t_,List.flatten_cons,D_,C_];omega
def lfV:Val->Bool
 |.int _=>true
 |.str _=>true
 |_=>false
theorem oo:∀{vs:List Val},(∀v∈vs,wfV k v=true)->d8 k vs=true
 | [],_=>rfl
 |
  v::vs,h=>by
  show (wfV k v&&d8 k vs)=true;rw[h v (r_ ..),oo λu hu=>h u (n_ _ hu)];rfl
def yM(v:Val)(l:List Val):atI (v::l) 0=some v:=eU (by decide) rfl
noncomputable def inB(x:Nat)(t:AT):Bool:=decide (x∈t.lvs)
def itV(l:List Nat):Val:=.lst (l.map λk:Nat=>.int k)
structure TOk(t:AT)(l:List Nat):Prop where
 ok:t.ok=true
 mem:∀k,k∈t.lvs ↔ k∈l
 dep:t.dep<=l.length
 len:t.lvs.length=l.length
def atV(t:AT):Val:=t.val λk=>.int (k:Nat)
mutual
def AT.cnt:AT->Nat
 |.lf _=>1
 |.nd _ ts=>AT.cntL ts+1
def AT.cntL:List AT->Nat
 | []=>0
 |t::ts=>AT.cnt t+AT.cntL ts
end
theorem AT.cntL_app:∀(a b:List AT),AT.cntL (a++b)=AT.cntL a+AT.cntL b
 | [],b=>by simp [AT.cntL]
 |t::a,b=>by rw[S7,AT.cntL,AT.cntL,AT.cntL_app a b];omega
theorem AT.lvsL_app:∀(a b:List AT),AT.lvsL (a++b)=AT.lvsL a++AT.lvsL b
 | [],b=>by simp [AT.lvsL]
 |t::a,b=>by rw[S7,AT.lvsL,AT.lvsL,AT.lvsL_app a b,List.append_assoc]
def nO(xs:List Val)(x:Val):qW.G (.lst (xs++[x])) []=some (.lst xs,x):=by show rE (.lst (xs++[x])) []=_;unfold rE;dsimp only;rw[D_,List.length_singleton,Nat.add_sub_cancel,QM (p_ _),SA,List.dropLast_concat];rfl
theorem AT.cnt_le:∀{ts:List AT}{t:AT},t∈ts->t.cnt<=AT.cntL ts
 | [],t,h=>nomatch h
 |
  u::ts,t,h=>by
  rw[AT.cntL];rcases I_.mp h with rfl |h
  .omega
  .have:=AT.cnt_le h;omega
def AT.lvs_le(h:t∈ts):t.lvs.length<=(AT.lvsL ts).length:=by rw[AT.lvsL_flat];exact List.Sublist.length_le (List.sublist_flatten_of_mem (List.mem_map_of_mem (f:=AT.lvs) h))
noncomputable def wtA(ws:List Int)(l:List Nat):Int:=(l.map λk=>ws.getD k 0).sum
def wtT(ws:List Int)(t:AT):Int:=wtA ws t.lvs
mutual
def AT.bx(ws:List Int):AT->Bx->List (Nat×Bx)
 |.lf k,b=>[(k,b)]
 |.nd w ts,b=>AT.bxL ws ts (ay b (wy w) (ts.map (wtT ws)))
def AT.bxL(ws:List Int):List AT->List Bx->List (Nat×Bx)
 |t::ts,b::bs=>AT.bx ws t b++AT.bxL ws ts bs
 |_,_=>[]
end
mutual
def AT.lay(ws:List Int)(n m:Nat):AT->Bx->Prop
 |.lf _,b=>b.Ok/\b.Sz n
 |.nd w ts,b=>b.Ok/\b.Sz n/\ts≠[]/\ts.length<=40/\(∀t∈ts,1<=wtT ws t)/\Sm m (ts.map (wtT ws)).sum/\AT.layL ws n m ts (ay b (wy w) (ts.map (wtT ws)))
def AT.layL(ws:List Int)(n m:Nat):List AT->List Bx->Prop
 |t::ts,b::bs=>AT.lay ws n m t b/\AT.layL ws n m ts bs
 |_,_=>True
end
noncomputable def cM(kvs:List (Key×Val))(l:List (Nat×Bx)):List (Key×Val):=l.foldl (λkvs p=>cV kvs (.inl (p.1:Nat)) (bV p.2)) kvs
def B6(kvs:List (Key×Val))(a b:List (Nat×Bx)):cM kvs (a++b)=cM (cM kvs a) b:=by unfold cM;rw[List.foldl_append]
def BW(h:a.Perm b):wtA ws a=wtA ws b:=by
 unfold wtA;induction h with
 |nil=>rfl
 |cons x _ ih=>rw[t_,t_,QS,QS,ih]
 |swap x y l=>simp only[t_,QS];omega
 |trans _ _ h1 h2=>rw[h1,h2]
theorem rO(ws:List Int):∀ts:List AT,wtA ws (AT.lvsL ts)=(ts.map (wtT ws)).sum
 | []=>rfl
 |
  t::ts=>by
  rw[AT.lvsL,t_,QS,<- rO ws ts];unfold wtT wtA;rw[QV,Sk]
def EH(kvs:List (Key×Val))(k:Key)(v:Val):(cV kvs k v).length<=kvs.length+1:=by
 unfold cV;split
 .rw[m_];omega
 .rw[D_];exact p_ _
theorem rW:∀(l:List (Nat×Bx)) (kvs:List (Key×Val)),(cM kvs l).length<=kvs.length+l.length
 | [],kvs=>p_ _
 |
  p::l,kvs=>by
  have h1:=EH kvs (.inl (p.1:Nat)) (bV p.2);have h2:=rW l (cV kvs (.inl (p.1:Nat)) (bV p.2));unfold cM at h2 ⊢;rw[List.foldl_cons,C_];omega
def AT.bx_fst(ws:List Int)(t:AT):∀b,(AT.bx ws t b).length<=t.lvs.length/\∀p∈AT.bx ws t b,p.1∈t.lvs:=by
 induction t using AT.ind with
 |h1 k=>intro b;simp [AT.bx,AT.lvs]
 |
  h2 w ts ih=>
  intro b;rw[AT.bx,AT.lvs];generalize ay b (wy w) (ts.map (wtT ws))=bs;induction ts generalizing bs with
  |nil=>simp [AT.bxL]
  |
   cons t ts ih2=>
   cases bs with
   |nil=>simp [AT.bxL]
   |
    cons b bs=>
    obtain⟨h1,h2⟩:=ih t (r_ ..) b;obtain⟨h3,h4⟩:=ih2 (λu hu=>ih u (n_ _ hu)) bs;rw[AT.bxL,AT.lvsL,D_,D_];refine⟨by omega,λp hp=>?_⟩;rcases RL.mp hp with hp |hp
    .exact Ti _ (h2 p hp)
    .exact QN _ (h4 p hp)
def Bo(kvs:List (Key×Val))(k k':Key)(v:Val):lkD (cV kvs k v) k'=if k=k' then some v else lkD kvs k':=by
 unfold cV;induction kvs with
 |
  nil=>
  rw[if_neg (by simp)];unfold lkD;by_cases h:k=k'
  .simp [h]
  .simp [h]
 |
  cons p kvs ih=>
  obtain⟨pk,pv⟩:=p;by_cases hp:pk=k
  .subst
    hp
   rw[if_pos (by simp)];by_cases h:pk=k'
   .subst h;simp [lkD]
   .rw[if_neg h];rw[if_neg h] at ih;simp only[t_,Sa];unfold lkD;simp only[Q4,B_ h];by_cases ha:(kvs.any λkv=>decide (kv.1=pk))=true
    .rw[if_pos ha] at ih;unfold lkD at ih;exact ih
    .have:(kvs.map λkv=>if kv.1=pk then (kv.1,v) else kv)=kvs:=by
      conv=>rhs;rw[<- List.map_id kvs]
      refine Tu λq hq=>?_;rw[if_neg]
      .rfl
      .intro z;exact ha (List.any_eq_true.mpr ⟨q,hq,G_ z⟩)
     rw[this]
  .by_cases ha:(kvs.any λkv=>decide (kv.1=k))=true
   .rw[if_pos ha] at ih;rw[if_pos (by rw[Rq,ha,Bool.or_true])];simp only[t_,if_neg hp];by_cases h:pk=k'
    .subst h;rw[if_neg (λz=>hp z.symm)];simp [lkD]
    .unfold lkD at ih ⊢;simp only[Q4,B_ h];exact ih
   .rw[if_neg ha] at ih;rw[if_neg (by rw[Rq,B_ hp,Bool.false_or];exact ha)];rw[S7];by_cases h:pk=k'
    .subst h;rw[if_neg (λz=>hp z.symm)];simp [lkD]
    .unfold lkD at ih ⊢;simp only[Q4,B_ h];exact ih
noncomputable def bxO(l:List (Nat×Bx))(k:Nat):Bx:=((l.find? λp=>p.1==k).map (·.2)).getD ⟨0,0,0,0⟩
theorem wB:∀(l:List (Nat×Bx)) (kvs:List (Key×Val)),(l.map (·.1)).Nodup->(k∈l.map (·.1)->lkD (cM kvs l) (.inl (k:Nat))=some (bV (bxO l k)))/\(k∉l.map (·.1)->lkD (cM kvs l) (.inl (k:Nat))=lkD kvs (.inl (k:Nat)))
 | [],kvs,_=>⟨(λh=>nomatch h),λ_=>rfl⟩
 |
  p::l,kvs,nd=>by
  rw[t_,Sj] at nd;obtain⟨h1,h2⟩:=wB (k:=k) l (cV kvs (.inl (p.1:Nat)) (bV p.2)) nd.2;have e:cM kvs (p::l)=cM (cV kvs (.inl (p.1:Nat)) (bV p.2)) l:=rfl;rw[e];by_cases hp:p.1=k
  .have hk:k∉l.map (·.1):=hp ▸ nd.1;rw[h2 hk,Bo,if_pos (by rw[hp])];refine⟨λ_=>?_,λz=>absurd (by rw[t_,hp];exact r_ ..) z⟩;unfold bxO;rw[Q4];simp [hp]
  .have hk:k∈(p::l).map (·.1) ↔ k∈l.map (·.1):=by rw[t_,I_];exact⟨λz=>z.resolve_left (λy=>hp y.symm),.inr⟩
   have hb:bxO (p::l) k=bxO l k:=by unfold bxO;rw[RX (by simpa using hp)]
   rw[hk,hb];refine⟨h1,λz=>?_⟩;rw[h2 z,Bo,if_neg];intro y;injection y with y;exact hp (Int.ofNat.inj y)
def kr(b:Bx)(way:Str)(ws:List Int):(ay b way ws).length=ws.length:=by unfold ay;split <;> rw[m_,i8]
def AT.bx_keys(ws:List Int)(t:AT):∀b,(AT.bx ws t b).map (·.1)=t.lvs:=by
 induction t using AT.ind with
 |h1 k=>intro b;rw[AT.bx,AT.lvs];rfl
 |
  h2 w ts ih=>
  intro b;rw[AT.bx,AT.lvs];have hl:(ay b (wy w) (ts.map (wtT ws))).length=ts.length:=by rw[kr,m_]
  generalize ay b (wy w) (ts.map (wtT ws))=bs at *;induction ts generalizing bs with
  |nil=>cases bs <;> rfl
  |
   cons t ts ih2=>
   cases bs with
   |nil=>exact nomatch hl
   |cons b bs=>rw[AT.bxL,AT.lvsL,QV,ih t (r_ ..) b,ih2 (λu hu=>ih u (n_ _ hu)) bs (by simpa using hl)]
def AT.cnt_lvs(t:AT)(h:t.ok=true):t.cnt+1<=2*t.lvs.length:=by
 induction t using AT.ind with
 |h1 k=>simp [AT.cnt,AT.lvs]
 |
  h2 w ts ih=>
  rw[AT.ok,u_] at h;have hk:=AT.okL_mem.mp h.2;have h2:2<=ts.length:=Su h.1;rw[AT.cnt,AT.lvs];have:∀ts:List AT,(∀t∈ts,t.cnt+1<=2*t.lvs.length)->AT.cntL ts+ts.length<=2*(AT.lvsL ts).length:=by
   intro ts;induction ts with
   |nil=>intro _;simp [AT.cntL,AT.lvsL]
   |cons t ts ih=>intro h;have h1:=h t (r_ ..);have h2:=ih λu hu=>h u (n_ _ hu);rw[AT.cntL,AT.lvsL,D_,C_];omega
  have:=this ts λt ht=>ih t ht (hk t ht)
  omega
structure Rp(D A B:Nat)(b:Bx):Prop where
 pos:0<D
 l:∃z:Int,b.l=(z:Rat)/((D:Int):Rat)/\z.natAbs<=A*D
 t:∃z:Int,b.t=(z:Rat)/((D:Int):Rat)/\z.natAbs<=A*D
 w:∃z:Int,b.w=(z:Rat)/((D:Int):Rat)/\0<z/\z<=B*D
 h:∃z:Int,b.h=(z:Rat)/((D:Int):Rat)/\0<z/\z<=B*D
def Qm(x y a D W:Rat)(h1:D≠0)(h2:W≠0):x/D+(y/D)*(a/W)=(x*W+y*a)/(D*W):=by grind
def OS(y a D W:Rat)(h1:D≠0)(h2:W≠0):(y/D)*(a/W)=(y*a)/(D*W):=by grind
def OT(y D W:Rat)(h1:D≠0)(h2:W≠0):y/D=(y*W)/(D*W):=by grind
def kx{z:Int}(h:z≠0):(z:Rat)≠0:=λe=>h (Rat.intCast_inj.mp e)
def FE{x y a W:Int}{D A B:Nat}(hD:0<D)(hx:x.natAbs<=A*D)(hy:0<y/\y<=B*D)(ha:0<=a/\a<=W)(hW:0<W):∃z:Int,(x:Rat)/((D:Int):Rat)+((y:Rat)/((D:Int):Rat))*((a:Rat)/(W:Rat))=(z:Rat)/(((D*W.toNat:Nat):Int):Rat)/\z.natAbs<=(A+B)*(D*W.toNat):=by
 obtain⟨V,rfl⟩:∃V:Nat,W=V:=⟨W.toNat,by omega⟩;refine⟨x*V+y*a,?_,?_⟩
 .rw[Qm _ _ _ _ _ (kx (by omega)) (kx (by omega))];congr 1
  .rw[Rat.intCast_add,Q_,Q_]
  .rw[Q3,R5,Q_]
 .rw[Q3];have h1:(x*(V:Int)).natAbs<=A*D*V:=by rw[Rh];exact QY hx (p_ _)
  have h2:(y*a).natAbs<=B*D*V:=by
   rw[Rh];refine QY ?_ (by omega)
   have:=hy.2
   omega
  have h3:=Int.natAbs_add_le (x*V) (y*a);rw[Nat.add_mul,<- SY,<- SY];omega
def EV{y a W:Int}{D B:Nat}(hD:0<D)(hy:0<y/\y<=B*D)(ha:1<=a/\a<=W):∃z:Int,((y:Rat)/((D:Int):Rat))*((a:Rat)/(W:Rat))=(z:Rat)/(((D*W.toNat:Nat):Int):Rat)/\0<z/\z<=((B:Nat):Int)*((D*W.toNat:Nat):Int):=by
 obtain⟨V,rfl⟩:∃V:Nat,W=V:=⟨W.toNat,by omega⟩;refine⟨y*a,?_,Int.mul_pos hy.1 (by omega),?_⟩
 .rw[OS _ _ _ _ (kx (by omega)) (kx (by omega))];congr 1
  .rw[Q_]
  .rw[Q3,R5,Q_]
 .rw[Q3,R5,<- Ro];exact Int.mul_le_mul hy.2 ha.2 (by omega) (Int.le_trans (Int.le_of_lt hy.1) hy.2)
def mD{y W:Int}{D:Nat}(hD:0<D)(hW:0<W):(y:Rat)/((D:Int):Rat)=((y*W:Int):Rat)/(((D*W.toNat:Nat):Int):Rat):=by obtain⟨V,rfl⟩:∃V:Nat,W=V:=⟨W.toNat,by omega⟩;rw[OT _ _ _ (kx (show ((D:Nat):Int)≠0 by omega)) (kx (show ((V:Nat):Int)≠0 by omega)),Q_,Q3,R5,Q_]
def zx{z W:Int}{D A B:Nat}(hz:z.natAbs<=A*D)(hW:0<W):(z*W).natAbs<=(A+B)*(D*W.toNat):=by rw[Rh,<- SY];refine QY ?_ (by omega);rw[Nat.add_mul];omega
def Ay{z W:Int}{D B:Nat}(hz:0<z/\z<=B*D)(hW:0<W):0<z*W/\z*W<=((B:Nat):Int)*((D*W.toNat:Nat):Int):=by refine⟨Int.mul_pos hz.1 hW,?_⟩;rw[R5,<- Ro,Int.toNat_of_nonneg (by omega)];exact Int.mul_le_mul_of_nonneg_right hz.2 (by omega)
def Rp.parts{D A B:Nat}{b b':Bx}{way:Str}{ws:List Int}(r:Rp D A B b)(hw:∀w∈ws,1<=w)(h:b'∈ay b way ws):Rp (D*ws.sum.toNat) (A+B) B b':=by
 obtain⟨pos,⟨zl,el,bl⟩,⟨zt,et,bt⟩,⟨zw,ew,bw⟩,⟨zh,eh,bh⟩⟩:=r;have key:∀p:Rat×Rat,∀s l:Rat,p∈shL s l ws.sum 0 ws->0<ws.sum/\∃a' w:Int,0<=a'/\a'<=ws.sum/\1<=w/\w<=ws.sum/\p=(s+l*((a':Rat)/(ws.sum:Rat)),l*((w:Rat)/(ws.sum:Rat))):=λp s l hp=>by obtain⟨a',w,h1,h2,h3,h4,h5⟩:=wu ws 0 (by omega) hw (by omega) hp;exact⟨by omega,a',w,h1,h2,h3,h4,h5⟩
 unfold ay at h;split at h
 .obtain⟨p,hp,rfl⟩:=QX.mp h;obtain⟨hS,a',w,h1,h2,h3,h4,rfl⟩:=key p _ _ hp;have hV:0<D*ws.sum.toNat:=RK pos (by omega);refine⟨hV,?_,⟨zt*ws.sum,by show b.t=_;rw[et];exact mD pos hS,zx bt hS⟩,?_,⟨zh*ws.sum,by show b.h=_;rw[eh];exact mD pos hS,Ay bh hS⟩⟩
  .show ∃z:Int,b.l+b.w*_=_/\_;rw[el,ew];exact FE pos bl bw ⟨h1,h2⟩ hS
  .show ∃z:Int,b.w*_=_/\_;rw[ew];exact EV pos bw ⟨h3,h4⟩
 .obtain⟨p,hp,rfl⟩:=QX.mp h;obtain⟨hS,a',w,h1,h2,h3,h4,rfl⟩:=key p _ _ hp;have hV:0<D*ws.sum.toNat:=RK pos (by omega);refine⟨hV,⟨zl*ws.sum,by show b.l=_;rw[el];exact mD pos hS,zx bl hS⟩,?_,⟨zw*ws.sum,by show b.w=_;rw[ew];exact mD pos hS,Ay bw hS⟩,?_⟩
  .show ∃z:Int,b.t+b.h*_=_/\_;rw[et,eh];exact FE pos bt bh ⟨h1,h2⟩ hS
  .show ∃z:Int,b.h*_=_/\_;rw[eh];exact EV pos bh ⟨h3,h4⟩
def Rp.ok{D A B:Nat}{b:Bx}(r:Rp D A B b):b.Ok:=by obtain⟨pos,_,_,⟨zw,ew,bw⟩,⟨zh,eh,bh⟩⟩:=r;exact⟨by rw[ew];exact gX bw.1 (by omega),by rw[eh];exact gX bh.1 (by omega)⟩
def Rp.sz{D A B n:Nat}{b:Bx}(r:Rp D A B b)(hA:A*D<2^n)(hB:B*D<2^n)(hD:D<2^n):b.Sz n:=by
 obtain⟨pos,⟨zl,el,bl⟩,⟨zt,et,bt⟩,⟨zw,ew,bw⟩,⟨zh,eh,bh⟩⟩:=r;have sD:Sm n ((D:Nat):Int):=by show ((D:Nat):Int).natAbs<2^n;omega
 have k:∀z:Int,z.natAbs<2^n->Sz n ((z:Rat)/((D:Int):Rat)):=λz hz=>Sz.div (by omega) hz sD n (p_ _) (p_ _);have hb:∀z:Int,0<z/\z<=B*D->z.natAbs<2^n:=λz hz=>by
  have h1:z<=((B*D:Nat):Int):=by rw[R5];exact hz.2
  omega
 exact⟨by rw[el];exact k zl (by omega),by rw[et];exact k zt (by omega),by rw[ew];exact k zw (hb zw bw),by rw[eh];exact k zh (hb zh bh)⟩
theorem oF{ws:List Int}:∀{l:List Nat},(∀k∈l,1<=ws.getD k 0)->(l.length:Int)<=wtA ws l
 | [],_=>by simp [wtA]
 |
  k::l,h=>by
  have h1:=h k (r_ ..);have h2:=oF (l:=l) λj hj=>h j (n_ _ hj);unfold wtA at h2 ⊢;rw[t_,QS,C_];omega
theorem wJ{ws:List Int}{n m:Nat}:∀{ts:List AT}{bs:List Bx},(∀t∈ts,∀b∈bs,AT.lay ws n m t b)->AT.layL ws n m ts bs
 | [],_,_=>by rw[AT.layL];trivial;intro t ts b bs z;cases z
 |t::ts,[],_=>by rw[AT.layL];trivial;intro t ts b bs _ z;cases z
 |
  t::ts,b::bs,h=>by
  rw[AT.layL];exact⟨h t (r_ ..) b (r_ ..),wJ λu hu c hc=>h u (n_ _ hu) c (n_ _ hc)⟩
def Rp.fine{n m B D A d:Nat}{b:Bx}(r:Rp D A B b)(hBA:B<=A)(hA:1<=A)(hq:(A+d*B)*(D*2^(m*d))<2^n):b.Ok/\b.Sz n:=by have hD1:1<=2^(m*d):=Nat.one_le_two_pow;have z1:A*D<=(A+d*B)*(D*2^(m*d)):=QY (by omega) (Nat.le_mul_of_pos_right _ hD1);have z2:D<=A*D:=Nat.le_mul_of_pos_left _ hA;have z3:B*D<=A*D:=RP _ hBA;exact⟨r.ok,r.sz (by omega) (by omega) (by omega)⟩
def Mj{ws:List Int}{n m B:Nat}(t:AT):∀(b:Bx) (D A:Nat),Rp D A B b->B<=A->1<=A->(A+t.dep*B)*(D*2^(m*t.dep))<2^n->t.ok=true->(∀k∈t.lvs,1<=ws.getD k 0)->wtT ws t<2^m->t.lvs.length<=40->AT.lay ws n m t b:=by
 induction t using AT.ind with
 |h1 k=>intro b D A r hBA hA hn _ _ _ _;rw[AT.lay];exact r.fine hBA hA hn
 |
  h2 w ts ih=>
  intro b D A r hBA hA hn ho hw hm hl;have ho':=ho;rw[AT.ok,u_] at ho';have h2:2<=ts.length:=Su ho'.1;have hk:=AT.okL_mem.mp ho'.2;rw[AT.lvs] at hw hl;have hws:∀t∈ts,∀k∈t.lvs,1<=ws.getD k 0:=λt ht k hk'=>hw k (AT.lvsL_mem.mpr ⟨t,ht,hk'⟩);have hone:∀t∈ts,1<=wtT ws t:=λt ht=>by have h1:=w9 (hk t ht);have h2:=oF (hws t ht);unfold wtT;omega
  have hsum:wtT ws (.nd w ts)=(ts.map (wtT ws)).sum:=by unfold wtT;rw[AT.lvs];exact rO ws ts
  rw[hsum] at hm;have hpos:0<=(ts.map (wtT ws)).sum:=by
   rw[<- rO]
   have:=oF hw
   omega
  rw[AT.dep] at hn;generalize hq:AT.depL ts=q at *;have fn:=r.fine hBA hA hn;have tl:ts.length<=40:=by rw[AT.lvsL_flat] at hl;have:ts.length<=((ts.map AT.lvs).flatten).length:=sk λt ht=>w9 (hk t ht);omega
  rw[AT.lay];refine⟨fn.1,fn.2,λz=>by rw[z] at h2;simp at h2,tl,hone,by
   show (ts.map (wtT ws)).sum.natAbs<2^m;have:(((ts.map (wtT ws)).sum.natAbs:Nat):Int)<((2^m:Nat):Int):=by
    rw[Int.natAbs_of_nonneg hpos]
    push_cast
    exact hm
   omega,wJ λt ht c hc=>?_⟩
  have rp:=r.parts (λx hx=>by obtain⟨u,hu,rfl⟩:=QX.mp hx;exact hone u hu) hc;have hdt:t.dep<=q:=by rw[<- hq];exact AT.depL_le.mp (p_ _) t ht
  have hS:(ts.map (wtT ws)).sum.toNat<=2^m:=by
   have:(((ts.map (wtT ws)).sum.toNat:Nat):Int)<((2^m:Nat):Int):=by
    rw[Int.toNat_of_nonneg hpos]
    push_cast
    exact hm
   omega
  refine ih t ht c _ (A+B) rp (by omega) (by omega) ?_ (hk t ht) (hws t ht) ?_ (by have:=AT.lvs_le ht;omega)
  .refine RC (QY ?_ ?_) hn
   .have:t.dep*B<=q*B:=RP _ hdt;rw[Nat.add_mul,Nat.one_mul];omega
   .rw[SY];refine Rw _ ?_;have e:2^(m*(q+1))=2^m*2^(m*q):=by rw[<- RZ];congr 1;rw[Nat.mul_add,Nat.mul_one,Nat.add_comm]
    rw[e];exact QY hS (Rv (by decide) (Rw _ hdt))
  .refine Int.lt_of_le_of_lt ?_ hm;have aux:∀us:List AT,(∀u∈us,0<=wtT ws u)->t∈us->wtT ws t<=(us.map (wtT ws)).sum:=by
    intro us;induction us with
    |nil=>intro _ h;exact nomatch h
    |
     cons u us ih=>
     intro h0 hm;have nn:∀us:List AT,(∀u∈us,0<=wtT ws u)->0<=(us.map (wtT ws)).sum:=by
      intro us;induction us with
      |nil=>intro _;simp
      |cons v us ih=>intro h;rw[t_,QS];have:=h v (r_ ..);have:=ih λu hu=>h u (n_ _ hu);omega
     rw[t_,QS];rcases I_.mp hm with rfl |hm
     .have:=nn us λu hu=>h0 u (n_ _ hu)
      omega
     .have h1:=ih (λu hu=>h0 u (n_ _ hu)) hm;have h2:=h0 u (r_ ..);omega
   exact aux ts (λu hu=>by have:=hone u hu;omega) ht
def Nd{ws:List Int}{n m:Nat}(t:AT):∀b:Bx,AT.lay ws n m t b->∀p∈AT.bx ws t b,p.2.Ok/\p.2.Sz n:=by
 induction t using AT.ind with
 |h1 k=>intro b h p hp;rw[AT.bx] at hp;rw[Q6.mp hp];rw[AT.lay] at h;exact h
 |
  h2 w ts ih=>
  intro b h p hp;rw[AT.bx] at hp;rw[AT.lay] at h;replace h:=h.2.2.2.2.2.2;generalize ay b (wy w) (ts.map (wtT ws))=bs at *;induction ts generalizing bs with
  |nil=>rw[AT.bxL] at hp;exact nomatch hp;intro _ _ _ _ z;cases z
  |
   cons t ts ih2=>
   cases bs with
   |nil=>rw[AT.bxL] at hp;exact nomatch hp;intro _ _ _ _ _ z;cases z
   |
    cons c cs=>
    rw[AT.bxL] at hp;rw[AT.layL] at h;rcases RL.mp hp with hp |hp
    .exact ih t (r_ ..) c h.1 p hp
    .exact ih2 (λu hu=>ih u (n_ _ hu)) cs hp h.2
noncomputable def bc(b:Bx)(w:Bool)(W a x:Int):Bx:=if w=true then ⟨b.l+b.w*((a:Rat)/(W:Rat)),b.t,b.w*((x:Rat)/(W:Rat)),b.h⟩ else ⟨b.l,b.t+b.h*((a:Rat)/(W:Rat)),b.w,b.h*((x:Rat)/(W:Rat))⟩
noncomputable def frm(b:Bx)(w:Bool)(W:Int):Int->List Int->List Bx
 |_,[]=>[]
 |a,x::xs=>bc b w W a x::frm b w W (a+x) xs
theorem vP(b:Bx)(w:Bool)(W:Int):∀(xs:List Int) (a:Int),(frm b w W a xs).length=xs.length
 | [],_=>rfl
 |x::xs,a=>by rw[frm,C_,C_,vP b w W xs]
def cG(b:Bx)(w:Bool)(xs:List Int):ay b (wy w) xs=frm b w xs.sum 0 xs:=by
 have key:∀(W:Int) (xs:List Int) (a:Int),(if wy w="across" then (shL b.l b.w W a xs).map λp=>(⟨p.1,b.t,p.2,b.h⟩:Bx) else (shL b.t b.h W a xs).map λp=>⟨b.l,p.1,b.w,p.2⟩)=frm b w W a xs:=by
  intro W xs;induction xs with
  |nil=>intro a;unfold shL frm;split <;> rfl
  |
   cons x xs ih=>
   intro a;rw[frm,<- ih,shL,shL];unfold bc;cases w with
   |true=>rw[if_pos (show wy true="across" from rfl),if_pos (show wy true="across" from rfl),if_pos rfl];rfl
   |
    false=>
    have hn:¬ (wy false="across"):=by decide
    rw[if_neg hn,if_neg hn,if_neg (by decide)];rfl
 exact key xs.sum xs 0
def pP(ws:List Int):((aJ ws).map λk=>ws.getD k 0).Pairwise (· >= ·):=by rw[List.pairwise_map];refine List.Pairwise.imp (λ{i j} h=>?_) (cN ws).up;unfold bD kyF at h;rw[RD] at h;show ws.getD j 0<=ws.getD i 0;have h:-(ws.getD i 0) < -(ws.getD j 0)\/(-(ws.getD i 0)=-(ws.getD j 0)/\((i:Nat):Int)<(j:Nat)):=h;omega
noncomputable def thN(xs:List Int):Nat->Nat->Nat
 |0,k=>k
 |f+1,k=>if 3*(xs.take k).sum<xs.sum then thN xs f (k+1) else k
def jF(xs:List Int):Nat:=thN xs (xs.length-1) 1
theorem zU(xs:List Int):∀f k,k<=thN xs f k
 |0,k=>p_ _
 |
  f+1,k=>by
  rw[thN];split
  .have:=zU xs f (k+1);omega
  .exact p_ _
theorem Aq(xs:List Int){m:Nat}(hm:¬ 3*(xs.take m).sum<xs.sum):∀f k,k<=m->thN xs f k<=m
 |0,k,h=>h
 |
  f+1,k,h=>by
  rw[thN];split
  .rename_i z;refine Aq xs hm f (k+1) ?_;by_cases e:k=m
   .rw[e] at z;exact absurd z hm
   .omega
  .exact h
def B7{xs:List Int}(h2:2<=xs.length)(hp:∀x∈xs,1<=x)(hd:xs.Pairwise (· >= ·)):1<=jF xs/\jF xs<xs.length:=by
 have key:¬ 3*(xs.take (xs.length-1)).sum<xs.sum:=by
  have e:xs.sum=(xs.take (xs.length-1)).sum+(xs.drop (xs.length-1)).sum:=by rw[<- Sk,Q2]
  have d1:xs.drop (xs.length-1)=[xs[xs.length-1]]:=by rw[SK (by omega),List.drop_eq_nil_of_le (by omega)]
  obtain⟨y,ys,ey⟩:∃y ys,xs.take (xs.length-1)=y::ys:=by
   cases z:xs.take (xs.length-1) with
   |
    nil=>
    have:=QW List.length z
    rw[QJ,QO] at this;omega
   |cons y ys=>exact⟨y,ys,rfl⟩
  have hy:y=xs[0]:=by
   have z:(xs.take (xs.length-1))[0]?=some y:=by rw[ey];rfl
   rw[List.getElem?_take_of_lt (by omega),w_ (by omega)] at z;exact (J_ z).symm
  have hge:xs[0] >= xs[xs.length-1]:=RJ.mp hd 0 (xs.length-1) (by omega) (by omega) (by omega);have hz:=hp xs[xs.length-1] (Rm _);have hs:0<=ys.sum:=by
   have:=dB (l:=ys) λx hx=>hp x (Q5 (i:=xs.length-1) (by rw[ey];exact n_ _ hx))
   omega
  rw[e,d1,ey,QS,QS,List.sum_nil];generalize xs[0]=x0 at *;generalize xs[xs.length-1]=xl at *;omega
 refine⟨zU xs _ 1,?_⟩
 have:=Aq xs key (xs.length-1) 1 (by omega)
 unfold jF;omega
def Bx.trn(b:Bx):Bx:=⟨b.t,b.l,b.h,b.w⟩
def Gy(b:Bx)(w:Bool)(W a x:Int):bc b.trn (!w) W a x=(bc b w W a x).trn:=by cases w <;> rfl
theorem wo(b:Bx)(w:Bool)(W:Int):∀(xs:List Int) (a:Int),frm b.trn (!w) W a xs=(frm b w W a xs).map Bx.trn
 | [],_=>rfl
 |x::xs,a=>by rw[frm,frm,t_,Gy,wo b w W xs]
end L3
namespace KK
open PySem PySem.Spec PyProof.Rows L2 L3
def top(i:Nat):Stmt:=PySem.Challenge.pw_weightrooms_k23_whole_rules_turned_over.main.body.getD i (.Pass ⟨0,0,0,0⟩)
noncomputable def cA:jG:=[((.b "NoneType"),(.b "bool"),false),((.b "bool"),(.b "bool"),true),((.b "int"),(.b "bool"),false),((.b "str"),(.b "bool"),false),((.b "tuple"),(.b "bool"),false),((.b "list"),(.b "bool"),false),((.b "dict"),(.b "bool"),false),((.b "NoneType"),(.b "int"),false),((.b "bool"),(.b "int"),true),((.b "int"),(.b "int"),true),((.b "str"),(.b "int"),false),((.b "tuple"),(.b "int"),false),((.b "list"),(.b "int"),false),((.b "dict"),(.b "int"),false),((.b "NoneType"),(.b "list"),false),((.b "bool"),(.b "list"),false),((.b "int"),(.b "list"),false),((.b "str"),(.b "list"),false),((.b "tuple"),(.b "list"),false),((.b "list"),(.b "list"),true),((.b "dict"),(.b "list"),false),((.b "NoneType"),(.b "str"),false),((.b "bool"),(.b "str"),false),((.b "int"),(.b "str"),false),((.b "str"),(.b "str"),true),((.b "tuple"),(.b "str"),false),((.b "list"),(.b "str"),false),((.b "dict"),(.b "str"),false),((.b "NoneType"),(.b "tuple"),false),((.b "bool"),(.b "tuple"),false),((.b "int"),(.b "tuple"),false),((.b "str"),(.b "tuple"),false),((.b "tuple"),(.b "tuple"),true),((.b "list"),(.b "tuple"),false),((.b "dict"),(.b "tuple"),false)]
def iX:D:=(.int 40)
noncomputable def wb:D:=(.tup [(.str "across"),(.str "down"),(.str "halves"),(.str "rows"),(.str "greatest"),(.str "thirds")])
noncomputable def zf:D:=(.tup [(.str "across"),(.str "down")])
abbrev tb:Tb:=⟨["NoFraction", "NoBox", "NoWay", "NoWeights", "TooMany", "NoTree", "NoRule"],["NoFraction", "NoBox", "NoWay", "NoWeights", "TooMany", "NoTree", "NoRule"],[],cA,[("MOST_WEIGHTS",iX),("RULES",wb),("WAYS",zf)]⟩
abbrev TT(K:W.Frag)(mg:Ua):Prop:=TyL tb top [10,11,12,13,14,15,16,17,18,22,23,24,25,26,27,28,29,30,31,32,33,34,36,37,38,39,40,41,42,44,45,46,47,48,49,50,53,54,55,56,57,58,59,60,61,63,64,65,66,67,68,69] K mg
section
variable{P:Program}{w:World}{K:W.Frag}{mg:Ua}{base:Heap}
noncomputable def ip:PEx:=nM iX (.int 40) (λ_ _=>.int _)
def nK(e:E3):ip.G e=.ok (.val (.int 40)) e:=rfl
noncomputable def rQ:PEx:=nM wb (.tup [(.str "across"),(.str "down"),(.str "halves"),(.str "rows"),(.str "greatest"),(.str "thirds")]) (λ_ _=>.tup (.cons (.str _) (.cons (.str _) (.cons (.str _) (.cons (.str _) (.cons (.str _) (.cons (.str _) .nil)))))))
def Ca(e:E3):rQ.G e=.ok (.val (.tup [(.str "across"),(.str "down"),(.str "halves"),(.str "rows"),(.str "greatest"),(.str "thirds")])) e:=rfl
noncomputable def wH:PEx:=nM zf (.tup [(.str "across"),(.str "down")]) (λ_ _=>.tup (.cons (.str _) (.cons (.str _) .nil)))
def HD(e:E3):wH.G e=.ok (.val (.tup [(.str "across"),(.str "down")])) e:=rfl
def dI(s:String):Lean.TSyntax `term:=⟨Lean.mkIdent (s.replace "%" "").toName⟩
def dA(f:String)(a:Lean.TSyntax `term):Lean.TSyntax `term:=Lean.Syntax.mkApp (dI f) #[a]
def dF:List (Lean.TSyntax `tactic)->Lean.MacroM (Lean.TSyntax `tactic)
 | []=>`(tactic|fail)
 |a::l=>do `(tactic|first | $a:tactic | $(<- dF l):tactic)
def dL(f:String->Lean.MacroM (Lean.TSyntax `tactic)):List String->Lean.MacroM (List (Lean.TSyntax `tactic))
 | []=>pure []
 |s::l=>do return (<- f s)::(<- dL f l)
set_option hygiene false in
def dQ(ap:String->Lean.TSyntax `term)(s:String):Lean.MacroM (Lean.TSyntax `tactic):=match (s.splitOn ";").map ap with
 | [d,c,a,b]=>`(tactic|((case d=>with_reducible exact $d);(case c=>exact $c);(case a=>exact $a);(case b=>exact $b)))
 |d::c::_=>`(tactic|((case d=>with_reducible exact $d);(case c=>exact $c)))
 |_=>`(tactic|fail)
set_option hygiene false in
def dR(ap:String->Lean.TSyntax `term)(g:String):Lean.MacroM (Lean.TSyntax `tactic):=match g.splitOn ":" with
 | [r]=>`(tactic|refine $(ap r))
 |r::l=>do `(tactic|(refine' $(ap r);$(<- dF (<- dL (dQ ap) l)):tactic))
 | []=>`(tactic|fail)
set_option hygiene false in
local macro_rules | `('d')=>do
 let h <- `(?_)
 let u <- `(_)
 let R:=dI "rfl"
 let qA <- `(?a)
 let qB <- `(?b)
 let qC <- `(?c)
 let qD <- `(?d)
 let qp <- `((λ_ _=>rfl))
 let ap:=λ(s:String)=>let w:=s.splitOn " ";Lean.Syntax.mkApp (dI (w.getD 0 "")) (((w.getD 1 "").toList.map λc=>([('1',dI "hr.u100"),('8',dI "hr.u180"),('A',qA),('B',qB),('C',qC),('D',qD),('K',dI "T.k"),('_',u),('b',dA "%boT" R),('f',dA "%boF" R),('g',dA "T.g" R),('k',dA "T.n" R),('m',dA "T.m" R),('n',dI "nd"),('o',dI "%Ds"),('p',qp),('r',R),('t',dI "T"),('u',dA "%OO" (dI "hr")),('v',dA "%Bt" u),('x',dA "T.x" R),('z',dI "%rz1")].lookup c).getD h).toArray)
 let rd:=λ(s:String)=>dL (dR ap) (s.splitOn "|")
 let e0 <- `(tactic|refine zcF (by $(<- dF (<- rd "%ih|uC t|sJ t|vj t|pY t|rK t|mU t|rm t|kh t|ni t|xW t|qb t|xA t|qt t|lq t|xY t|p9 t|u4 t|nR t|qa t|sy t|Ah t|AY t|xV t|mV t|qw t|sG t|nN t_|uU t|nS t|fF t|fG t|u7 t|uO t|oC t|fh t_|mR t|qr t|ia t|Ec t|zj t|lN t|oq t|nD t|eK t_|pW t|iH t|lj t|mM t|lY t|qf t|va t")):tactic) hr ?_)
 let e3 <- `(tactic|exact Mr rfl (by first |exact T.e rfl |exact (T.d.get 61 rfl).gl |exact (T.d.get 60 rfl).gl))
 `(by repeat' $(<- dF ((<- rd "%Bt _|Ml|ML|bR ??|aq ??|cX ?|zsS _n?|kM ???|fk ?|Kr ?|um ?|Nt|Pc|G9|Mb ?")++[e0,e3]++(<- rd "%Pm CD??:N2;ixK r|uK CD??:EU;eqDK r8:Fl;Fd:EX;E2:E7;EM:yG;Dh r8:Km;EA:Lc;Jq r|jM CDrkf?:KW;Qd r:Mi;DV:FR;zS r:Ic;Bn r:GH;vg:z9;pG rr:GG;zC rr:KN K;Oo r|OC CD??:Ll;FP:IE;Iw r:J9;Mg:Kz;D7:Nz;Lo:LW;Lz:JA;Lw|A0 CDrkb?:Mv;Aj:Dm;GZ r|Jh CD??:EX;E2:Fl;Fd:EU;eqDK r8:Pa;inK r:E7;EM|Gj rABCD??:Cq;K4 r1;PySem.F.slot_list_index;PySem.F.type_list_index|IG rABCDv?:BB;zM;PySem.F.slot_list_append;PySem.F.type_list_append:ya;zc r;PySem.F.slot_list_extend;PySem.F.type_list_extend|GR rABCDv:Iy;Nw;PySem.F.slot_list_pop;PySem.F.type_list_pop|PQ CD?:JP;KD|Jl n?CD:IM;Ni|Ia ?v?CD:Gi;Eh:DK;CK u|ZG.weak ?|zt_w ?|JZ rv?|Ju ??|N1|Dq u??p|Qs rg|J2 rrkrk?|KZ ?|Jn ?|HX rkb|Cg r???|Nh rrkrk?|PF rkb|zgN _n|JF rr?|LR rr?|Dk ??|Gh|zI rk?|AO rk?|JM r?|Kg rrk?|Hg|Iq ?|Hw ??|Ei|Hc ?|sX or???|MR n?|CJ rzrmx?|Ii|Du o??|sP ?|DQ r?|Jb ??|Gg ?|PH ??|KH ?"))):tactic)
def mL:PSt:=
 (aj (xIf (qOf (pOp bEq (pFn bj (aa (af 0) ag)) (ah 0))) (ar (dU (aa (ah 0) (aa (ah 0) (aa (af 1) ag))))) xNx)
  (ar (dU (aa (pOp bIx (af 0) (pOp cz (af 1) (pFn bj (aa (af 0) ag)))) (aa (ah 0) (aa (af 1) ag))))))
def df:PFn:=fnP [false,false] 2 mL
def vo:df.ms=[false,false]:=rfl
def uC(T:TT K mg):Callee P w K mg base "_law_feed" 1 ["_law_script", "_law_k"] (spD K mg 2 df.F):=aD (T.d.get 63 rfl) (au (N:=["_law_script", "_law_k"]) (by decide)) (λ_ _ _ _ _ _=>ar2 λ_ _=>rfl) λnd _ _ _ _ _ _ _ hr=>'d'
def nB:PSt:=
 (aj (sU 0 seL (ah 1) (pOp a8 (pOp bIx (af 0) (ah 1)) (ah 1)))
  (aj (xIf (qOf (pOp bGe (pOp bIx (af 0) (ah 0)) (pOp gm (ah 10) (ah 18)))) (aj (aw false 2 (pOp cz (pOp bIx (af 0) (ah 0)) (af 1)))
  (aj (sU 0 seL (ah 0) (pOp jK (pOp bIx (af 0) (ah 0)) (af 1)))
  (ar (af 2)))) xNx)
  (aj (aw false 3 (pOp a8 (pOp a8 (pOp cz (pOp bIx (af 0) (ah 0)) (ah 1000003)) (pOp bq (ah 7919) (pOp bIx (af 0) (ah 2)))) (pOp bq (ah 104729) (pOp bIx (af 0) (ah 1)))))
  (aj (aw false 3 (pOp cz (pOp bq (af 3) (ah 48271)) (ah 2147483647)))
  (ar (pOp cz (pOp cz (pOp bq (af 3) (pOp a8 (pOp cz (af 3) (ah 65521)) (pOp bIx (af 0) (ah 1)))) (ah 2147483629)) (af 1)))))))
def ao:PFn:=fnP [true,false] 4 nB
def vf:ao.ms=[true,false]:=rfl
def sJ(T:TT K mg):Callee P w K mg base "_law_next" 1 ["_law_feed_here", "_law_many"] (spD K mg 2 ao.F):=aD (T.d.get 64 rfl) (au (N:=["_law_feed_here", "_law_many", "_law_digit", "_law_mixed"]) (by decide)) (λ_ _ _ _ _ _=>ar2 λ_ _=>rfl) λnd _ _ _ _ _ _ _ hr=>'d'
def gy:PSt:=
 (gv 2 3 (aa (af 3) (aa (pOp cz (af 2) (af 3)) ag)))
def ph:PSt:=
 (aj (gv 2 3 (aa (pFn eG (aa (af 0) ag)) (aa (pFn eG (aa (af 1) ag)) ag)))
  (aj (xWh (qOf (pOp bGt (af 3) (ah 0))) (gy))
  (aj (xIf (qOf (pOp bLt (af 1) (ah 0))) (aw false 2 (pOp fg (ah 0) (af 2))) xNx)
  (ar (bI (aa (pOp jK (af 0) (af 2)) (aa (pOp jK (af 1) (af 2)) ag)))))))
def cp:PFn:=fnP [false,false] 4 ph
def xM:cp.ms=[false,false]:=rfl
def vj(T:TT K mg):Callee P w K mg base "_law_low" 1 ["_law_top", "_law_bottom"] (spD K mg 2 cp.F):=aD (T.d.get 66 rfl) (au (N:=["_law_top", "_law_bottom", "_law_one", "_law_two"]) (by decide)) (λ_ _ _ _ _ _=>ar2 λ_ _=>rfl) λnd _ _ _ _ _ _ _ hr=>'d'
def ko:PSt:=
 (aw false 2 (pOp a8 (pOp bq (af 2) (pOp gm (ah 10) (ah 6))) (ai ao (aa (af 0) (aa (pOp gm (ah 10) (ah 6)) ag)))))
def lE:PSt:=
 (aj (aw false 2 (ah 0))
  (aj (jn (nI (aa (ah 6) ag)) (gtN 3) (ko))
  (ar (pOp fg (pOp cz (af 2) (pOp a8 (pOp bq (ah 2) (af 1)) (ah 1))) (af 1)))))
def bp:PFn:=fnP [true,false] 4 lE
def rT:bp.ms=[true,false]:=rfl
def pY(T:TT K mg):Callee P w K mg base "_law_great" 2 ["_law_feed_here", "_law_far"] (spD K mg 2 bp.F):=aD (T.d.get 65 rfl) (au (N:=["_law_feed_here", "_law_far", "_law_number", "_law_k"]) (by decide)) (λ_ _ _ _ _ _=>ar2 λ_ _=>rfl) λnd _ _ _ _ _ _ _ hr=>'d'
def jz:PSt:=
 (aj (aw false 1 (ai ao (aa (af 0) (aa (ah 6) ag))))
  (aj (gv 2 3 (aa (bI (aa (pOp fg (ai ao (aa (af 0) (aa (ah 19) ag))) (ah 9)) (aa (ah 1) ag))) (aa (bI (aa (pOp fg (ai ao (aa (af 0) (aa (ah 19) ag))) (ah 9)) (aa (ah 1) ag))) ag)))
  (aj (gv 4 5 (aa (bI (aa (pOp a8 (ah 1) (ai ao (aa (af 0) (aa (ah 12) ag)))) (aa (ah 1) ag))) (aa (bI (aa (pOp a8 (ah 1) (ai ao (aa (af 0) (aa (ah 12) ag)))) (aa (ah 1) ag))) ag)))
  (aj (xIf (qOf (pOp bEq (af 1) (ah 1))) (aw false 5 (af 4)) xNx)
  (aj (xIf (qOf (pOp bEq (af 1) (ah 2))) (aw false 4 (bI (aa (pOp a8 (ah 1) (ai ao (aa (af 0) (aa (ah 99) ag)))) (aa (ah 1) ag)))) xNx)
  (aj (xIf (qOf (pOp bEq (af 1) (ah 3))) (aw false 5 (bI (aa (pOp a8 (ah 1) (ai ao (aa (af 0) (aa (ah 99) ag)))) (aa (ah 1) ag)))) xNx)
  (aj (xIf (qOf (pOp bEq (af 1) (ah 4))) (aj (gv 2 3 (aa (ai cp (aa (pOp fg (ai ao (aa (af 0) (aa (ah 199) ag))) (ah 99)) (aa (pOp a8 (ah 1) (ai ao (aa (af 0) (aa (ah 30) ag)))) ag))) (aa (ai cp (aa (ai ao (aa (af 0) (aa (ah 9) ag))) (aa (ah 7) ag))) ag)))
  (gv 4 5 (aa (ai cp (aa (pOp a8 (ah 1) (ai ao (aa (af 0) (aa (ah 99) ag)))) (aa (pOp a8 (ah 1) (ai ao (aa (af 0) (aa (ah 30) ag)))) ag))) (aa (ai cp (aa (pOp a8 (ah 1) (ai ao (aa (af 0) (aa (ah 99) ag)))) (aa (ah 11) ag))) ag)))) xNx)
  (aj (xIf (qOf (pOp bEq (af 1) (ah 5))) (aj (aw false 6 (pOp fg (pOp gm (ah 10) (ah 30)) (ah 1)))
  (aj (gv 2 3 (aa (ai cp (aa (ai bp (aa (af 0) (aa (af 6) ag))) (aa (pOp a8 (ah 1) (pFn eG (aa (ai bp (aa (af 0) (aa (pOp fg (af 6) (ah 1)) ag))) ag))) ag))) (aa (bI (aa (ai bp (aa (af 0) (aa (af 6) ag))) (aa (ah 1) ag))) ag)))
  (gv 4 5 (aa (bI (aa (pOp a8 (ah 1) (pFn eG (aa (ai bp (aa (af 0) (aa (pOp fg (af 6) (ah 1)) ag))) ag))) (aa (ah 1) ag))) (aa (ai cp (aa (pOp a8 (ah 1) (pFn eG (aa (ai bp (aa (af 0) (aa (pOp fg (af 6) (ah 1)) ag))) ag))) (aa (af 6) ag))) ag))))) xNx)
  (ar (bI (aa (af 2) (aa (af 3) (aa (af 4) (aa (af 5) ag))))))))))))))
def fu:PFn:=fnP [true] 7 jz
def u9:fu.ms=[true]:=rfl
def rK(T:TT K mg):Callee P w K mg base "_law_room" 3 ["_law_feed_here"] (spD K mg 1 fu.F):=aD (T.d.get 67 rfl) (au (N:=["_law_feed_here", "_law_way", "_law_left", "_law_top", "_law_wide", "_law_high", "_law_far"]) (by decide)) (λ_ _ _ _ _ _=>ar1 λ_=>rfl) λnd _ _ _ _ _ _ _ hr=>'d'
def eF:PSt:=
 (aj (aw true 3 (ai df (aa (af 0) (aa (pOp a8 (pOp a8 (af 1) (ah 1)) (af 9)) ag))))
  (aj (aw false 10 (pOp bIx (dU (aa (ah 1) (aa (pOp a8 (ah 1) (ai ao (aa (af 3) (aa (ah 9) ag)))) (aa (pOp sH (ah 1) (pOp cz (af 9) (af 8))) (aa (pOp a8 (ah 1) (ai ao (aa (af 3) (aa (ah 9) ag)))) (aa (ah 1) (aa (pOp a8 (ah 1) (ai ao (aa (af 3) (aa (ah 3) ag)))) ag))))))) (af 6)))
  (aj (xIf (qAn (qOf (pOp bEq (af 6) (ah 3))) (qOf (pOp bEq (ai ao (aa (af 3) (aa (ah 4) ag))) (ah 0)))) (aw false 10 (pOp a8 (pOp gm (ah 10) (ah 29)) (ai ao (aa (af 3) (aa (ah 100) ag))))) xNx)
  (aj (xIf (qOf (pOp bEq (af 6) (ah 4))) (aw false 10 (pOp a8 (ah 1) (pFn eG (aa (ai bp (aa (af 3) (aa (pOp fg (pOp gm (ah 10) (ah 30)) (ah 2)) ag))) ag)))) xNx)
  (aT (lL 7 gQ (aa (af 10) ag)))))))
def gp:PSt:=
 (aj (aw true 3 (ai df (aa (af 0) (aa (af 1) ag))))
  (aj (aw false 4 (pOp a8 (ah 1) (ai ao (aa (af 3) (aa (pFn tS (aa (af 2) (aa (ah 7) ag))) ag)))))
  (aj (aw false 5 (ai ao (aa (af 3) (aa (ah 6) ag))))
  (aj (xIf (qOf (pOp bLt (af 5) (ah 2))) (aw false 4 (pOp bIx (dU (aa (af 2) (aa (pFn ur (aa (ah 1) (aa (pOp jK (pOp bq (af 4) (af 2)) (ah 8)) ag))) ag))) (af 5))) xNx)
  (aj (aw false 6 (ai ao (aa (af 3) (aa (ah 6) ag))))
  (aj (xIf (qOf (pOp bGt (af 4) (ah 9))) (aw false 6 (pOp cz (af 6) (ah 3))) xNx)
  (aj (aw true 7 (dU ag))
  (aj (aw false 8 (pOp bIx (dU (aa (ah 24) (aa (ah 4) ag))) (pFn qT (aa (pOp bGt (af 4) (ah 9)) ag))))
  (aj (jn (nI (aa (af 4) ag)) (gtN 9) (eF))
  (ar (af 7)))))))))))
def dm:PFn:=fnP [false,false,false] 11 gp
def oE:dm.ms=[false,false,false]:=rfl
def mU(T:TT K mg):Callee P w K mg base "_law_weights" 3 ["_law_script", "_law_at", "_law_most"] (spD K mg 3 dm.F):=aD (T.d.get 68 rfl) (au (N:=["_law_script", "_law_at", "_law_most", "_law_feed_here", "_law_many", "_law_more", "_law_style", "_law_some", "_law_high", "_law_k", "_law_weight"]) (by decide)) (λ_ _ _ _ _ _=>ar3 λ_ _ _=>rfl) λnd _ _ _ _ _ _ _ hr=>'d'
noncomputable def jf:PSt:=
 (ar (jH (pFn (bC cA) (aa (af 0) (aa (pTy "int") ag))) (Cd (pFn (bC cA) (aa (af 0) (aa (pTy "bool") ag))))))
noncomputable def bK:PFn:=fnP [false] 1 jf
def u5:bK.ms=[false]:=rfl
def rm(T:TT K mg):Callee P w K mg base "is_whole" 1 ["thing"] (spD K mg 1 bK.F):=aD (T.d.get 10 rfl) (au (N:=["thing"]) (by decide)) (λ_ _ _ _ _ _=>ar1 λ_=>rfl) λnd _ _ _ _ _ _ _ hr=>'d'
def cS:PSt:=
 (gv 0 1 (aa (af 1) (aa (pOp cz (af 0) (af 1)) ag)))
def gJ:PSt:=
 (aj (gv 0 1 (aa (pFn eG (aa (af 0) ag)) (aa (pFn eG (aa (af 1) ag)) ag)))
  (aj (xWh (qOf (pOp bNe (af 1) (ah 0))) (cS))
  (ar (af 0))))
def bH:PFn:=fnP [false,false] 2 gJ
def lg:bH.ms=[false,false]:=rfl
def kh(T:TT K mg):Callee P w K mg base "common_divisor" 1 ["one", "other"] (spD K mg 2 bH.F):=aD (T.d.get 11 rfl) (au (N:=["one", "other"]) (by decide)) (λ_ _ _ _ _ _=>ar2 λ_ _=>rfl) λnd _ _ _ _ _ _ _ hr=>'d'
def jR:PSt:=
 (aj (xIf (qO (qNo (qOf (pFn (bC cA) (aa (af 0) (aa (pTy "tuple") ag))))) (qOf (pOp bNe (pFn bj (aa (af 0) ag)) (ah 2)))) (ar (pBl false)) xNx)
  (aj (jC (af 0) (gtX (gtT 2 (ba (gtN 1) (ba (gtN 2) eV)))))
  (aj (xIf (qO (qNo (qOf (ai bK (aa (af 1) ag)))) (qNo (qOf (ai bK (aa (af 2) ag))))) (ar (pBl false)) xNx)
  (ar (jH (pOp bGe (af 2) (ah 1)) (pOp bEq (ai bH (aa (af 1) (aa (af 2) ag))) (ah 1)))))))
def cF:PFn:=fnP [false] 3 jR
def nT:cF.ms=[false]:=rfl
def ni(T:TT K mg):Callee P w K mg base "is_fraction" 2 ["thing"] (spD K mg 1 cF.F):=aD (T.d.get 12 rfl) (au (N:=["thing", "top", "bottom"]) (by decide)) (λ_ _ _ _ _ _=>ar1 λ_=>rfl) λnd _ _ _ _ _ _ _ hr=>'d'
def tQ:PSt:=
 (aj (xIf (qO (qNo (qOf (pFn (bC cA) (aa (af 0) (aa (pTy "tuple") ag))))) (qOf (pOp bNe (pFn bj (aa (af 0) ag)) (ah 4)))) (ar (pBl false)) xNx)
  (aj (xIf (qNo (qOf (pFn qX (aa (pLC (b9 (af 0)) [none] (by decide) (gtN 0) qY (ai cF (aa (af 0) ag))) ag)))) (ar (pBl false)) xNx)
  (ar (jH (pOp bGt (pOp bIx (pOp bIx (af 0) (ah 2)) (ah 0)) (ah 0)) (pOp bGt (pOp bIx (pOp bIx (af 0) (ah 3)) (ah 0)) (ah 0))))))
def gO:PFn:=fnP [false] 1 tQ
def A5:gO.ms=[false]:=rfl
def xW(T:TT K mg):Callee P w K mg base "is_box" 3 ["thing"] (spD K mg 1 gO.F):=aD (T.d.get 22 rfl) (au (N:=["thing"]) (by decide)) (λ_ _ _ _ _ _=>ar1 λ_=>rfl) λnd _ _ _ _ _ _ _ hr=>(aq 'd' (aq (kM (sP (um (jM (allK (K:=K) rfl rfl) zH rfl (T.n rfl) (by first |exact boF rfl |exact boT rfl) (bR (fM ["thing"] (ak (top 22)).names ["part"] [none] 'd' (λnd _ _ _ _ _=>'d') (λnd _ _ _ _ _=>'d')) 'd')))) 'd' 'd') 'd'))
def lC:PSt:=
 (xIf (qNo (qOf (ai gO (aa (af 0) ag)))) (eO "NoBox" (aa (bu "this is no box") ag)) xNx)
def aH:PFn:=fnP [false] 1 lC
def ub:aH.ms=[false]:=rfl
def qb(T:TT K mg):Callee P w K mg base "check_box" 4 ["thing"] (spD K mg 1 aH.F):=aD (T.d.get 23 rfl) (au (N:=["thing"]) (by decide)) (λ_ _ _ _ _ _=>ar1 λ_=>rfl) λnd _ _ _ _ _ _ _ hr=>'d'
def sE:PSt:=
 (aj (aT (ai aH (aa (af 0) ag)))
  (aj (jC (af 0) (gtX (gtT 4 (ba (gtN 1) (ba (gtN 2) (ba (gtN 3) (ba (gtN 4) eV)))))))
  (ar (bI (aa (af 2) (aa (af 1) (aa (af 4) (aa (af 3) ag))))))))
def dW:PFn:=fnP [false] 5 sE
def Ax:dW.ms=[false]:=rfl
def xA(T:TT K mg):Callee P w K mg base "turned" 5 ["box"] (spD K mg 1 dW.F):=aD (T.d.get 31 rfl) (au (N:=["box", "left", "top", "wide", "high"]) (by decide)) (λ_ _ _ _ _ _=>ar1 λ_=>rfl) λnd _ _ _ _ _ _ _ hr=>'d'
noncomputable def lu:PSt:=
 (ar (jH (ai bK (aa (af 0) ag)) (pOp bGe (af 0) (ah 1))))
def dN:PFn:=fnP [false] 1 lu
def sZ:dN.ms=[false]:=rfl
def qt(T:TT K mg):Callee P w K mg base "is_weight" 2 ["thing"] (spD K mg 1 dN.F):=aD (T.d.get 27 rfl) (au (N:=["thing"]) (by decide)) (λ_ _ _ _ _ _=>ar1 λ_=>rfl) λnd _ _ _ _ _ _ _ hr=>'d'
def iq:PSt:=
 (aj (xIf (qO (qNo (qOf (pFn (bC cA) (aa (af 0) (aa (pTy "list") ag))))) (qOf (pOp bEq (pFn bj (aa (af 0) ag)) (ah 0)))) (eO "NoWeights" (aa (bu "this is no list of weights") ag)) xNx)
  (aj (xIf (qNo (qOf (pFn qX (aa (pLC (b9 (af 0)) [none] (by decide) (gtN 0) qY (ai dN (aa (af 0) ag))) ag)))) (eO "NoWeights" (aa (bu "a weight is a whole number from 1 on") ag)) xNx)
  (xIf (qOf (pOp bGt (pFn bj (aa (af 0) ag)) ip)) (eO "TooMany" (aa (bu "these are more weights than forty") ag)) xNx)))
def aE:PFn:=fnP [false] 1 iq
def lK:aE.ms=[false]:=rfl
def lq(T:TT K mg):Callee P w K mg base "check_weights" 3 ["thing"] (spD K mg 1 aE.F):=aD (T.d.get 28 rfl) (au (N:=["thing"]) (by decide)) (λ_ _ _ _ _ _=>ar1 λ_=>rfl) λnd _ _ _ _ _ _ _ hr=>(aq 'd' (aq (kM (sP (um (jM (allK (K:=K) rfl rfl) zH rfl (T.n rfl) (by first |exact boF rfl |exact boT rfl) (bR (fM ["thing"] (ak (top 28)).names ["weight"] [none] 'd' (λnd _ _ _ _ _=>'d') (λnd _ _ _ _ _=>'d')) 'd')))) 'd' 'd') 'd'))
noncomputable def lQ:PSt:=
 (ar (jH (pFn (bC cA) (aa (af 0) (aa (pTy "str") ag))) (pOp bIn (af 0) wH)))
def dS:PFn:=fnP [false] 1 lQ
def zN:dS.ms=[false]:=rfl
def xY(T:TT K mg):Callee P w K mg base "is_way" 1 ["thing"] (spD K mg 1 dS.F):=aD (T.d.get 24 rfl) (au (N:=["thing"]) (by decide)) (λ_ _ _ _ _ _=>ar1 λ_=>rfl) λnd _ _ _ _ _ _ _ hr=>'d'
def iG:PSt:=
 (aj (xIf (qO (qNo (qOf (pFn (bC cA) (aa (af 0) (aa (pTy "tuple") ag))))) (qOf (pOp bNe (pFn bj (aa (af 0) ag)) (ah 2)))) (ar (pBl false)) xNx)
  (ar (jH (ai dS (aa (pOp bIx (af 0) (ah 0)) ag)) (jH (pFn (bC cA) (aa (pOp bIx (af 0) (ah 1)) (aa (pTy "tuple") ag))) (pOp bGe (pFn bj (aa (pOp bIx (af 0) (ah 1)) ag)) (ah 2))))))
def cL:PFn:=fnP [false] 1 iG
def tX:cL.ms=[false]:=rfl
def p9(T:TT K mg):Callee P w K mg base "is_branch" 2 ["thing"] (spD K mg 1 cL.F):=aD (T.d.get 44 rfl) (au (N:=["thing"]) (by decide)) (λ_ _ _ _ _ _=>ar1 λ_=>rfl) λnd _ _ _ _ _ _ _ hr=>'d'
def de:PSt:=
 (aj (aw false 4 (qU 3 qW))
  (xIf (qOf (ai cL (aa (af 4) ag))) (aT (lL 3 ik (aa (pOp bIx (af 4) (ah 1)) ag))) (xIf (qO (qNo (qOf (ai bK (aa (af 4) ag)))) (qO (qOf (pOp bLt (af 4) (ah 0))) (qO (qOf (pOp bGe (af 4) (af 1))) (qOf (pOp En (af 4) (af 2)))))) (ar (pBl false)) (aT (Cs 2 (aa (af 4) ag))))))
def pB:PSt:=
 (aj (aw true 2 yY)
  (aj (aw true 3 (dU (aa (af 0) ag)))
  (aj (xWh (qTr (af 3)) (de))
  (ar (pOp bEq (pFn sq (aa (af 2) ag)) (af 1))))))
def gj:PFn:=fnP [false,false] 5 pB
def yP:gj.ms=[false,false]:=rfl
def u4(T:TT K mg):Callee P w K mg base "is_tree" 3 ["thing", "many"] (spD K mg 2 gj.F):=aD (T.d.get 45 rfl) (au (N:=["thing", "many", "seen", "waiting", "part"]) (by decide)) (λ_ _ _ _ _ _=>ar2 λ_ _=>rfl) λnd _ _ _ _ _ _ _ hr=>'d'
def kd:PSt:=
 (xIf (qNo (qOf (ai gj (aa (af 0) (aa (af 1) ag))))) (eO "NoTree" (aa (bu "this is no tree for the things") ag)) xNx)
def d7:PFn:=fnP [false,false] 2 kd
def qu:d7.ms=[false,false]:=rfl
def nR(T:TT K mg):Callee P w K mg base "check_tree" 4 ["thing", "many"] (spD K mg 2 d7.F):=aD (T.d.get 46 rfl) (au (N:=["thing", "many"]) (by decide)) (λ_ _ _ _ _ _=>ar2 λ_ _=>rfl) λnd _ _ _ _ _ _ _ hr=>'d'
noncomputable def lG:PSt:=
 (xIf (qNo (qOf (ai dS (aa (af 0) ag)))) (eO "NoWay" (aa (bu "this is no way") ag)) xNx)
def eR:PFn:=fnP [false] 1 lG
def tK:eR.ms=[false]:=rfl
def qa(T:TT K mg):Callee P w K mg base "check_way" 2 ["way"] (spD K mg 1 eR.F):=aD (T.d.get 25 rfl) (au (N:=["way"]) (by decide)) (λ_ _ _ _ _ _=>ar1 λ_=>rfl) λnd _ _ _ _ _ _ _ hr=>'d'
def mP:PSt:=
 (aj (xIf (qOf (pOp bEq (af 1) (ah 0))) (eO "NoFraction" (aa (bu "a fraction has no bottom of 0") ag)) xNx)
  (aj (aw false 2 (ai bH (aa (af 0) (aa (af 1) ag))))
  (aj (xIf (qOf (pOp bLt (af 1) (ah 0))) (aw false 2 (pUn Cr (af 2))) xNx)
  (ar (bI (aa (pOp jK (af 0) (af 2)) (aa (pOp jK (af 1) (af 2)) ag)))))))
def cm:PFn:=fnP [false,false] 3 mP
def vp:cm.ms=[false,false]:=rfl
def sy(T:TT K mg):Callee P w K mg base "fraction" 2 ["top", "bottom"] (spD K mg 2 cm.F):=aD (T.d.get 13 rfl) (au (N:=["top", "bottom", "divisor"]) (by decide)) (λ_ _ _ _ _ _=>ar2 λ_ _=>rfl) λnd _ _ _ _ _ _ _ hr=>'d'
def vN:PSt:=
 (ar (ai cm (aa (pOp a8 (pOp bq (pOp bIx (af 0) (ah 0)) (pOp bIx (af 1) (ah 1))) (pOp bq (pOp bIx (af 1) (ah 0)) (pOp bIx (af 0) (ah 1)))) (aa (pOp bq (pOp bIx (af 0) (ah 1)) (pOp bIx (af 1) (ah 1))) ag))))
def i5:PFn:=fnP [false,false] 2 vN
def BP:i5.ms=[false,false]:=rfl
def Ah(T:TT K mg):Callee P w K mg base "added" 3 ["one", "other"] (spD K mg 2 i5.F):=aD (T.d.get 14 rfl) (au (N:=["one", "other"]) (by decide)) (λ_ _ _ _ _ _=>ar2 λ_ _=>rfl) λnd _ _ _ _ _ _ _ hr=>'d'
def vA:PSt:=
 (ar (ai cm (aa (pOp bq (pOp bIx (af 0) (ah 0)) (pOp bIx (af 1) (ah 0))) (aa (pOp bq (pOp bIx (af 0) (ah 1)) (pOp bIx (af 1) (ah 1))) ag))))
def gD:PFn:=fnP [false,false] 2 vA
def Cv:gD.ms=[false,false]:=rfl
def AY(T:TT K mg):Callee P w K mg base "times" 3 ["one", "other"] (spD K mg 2 gD.F):=aD (T.d.get 15 rfl) (au (N:=["one", "other"]) (by decide)) (λ_ _ _ _ _ _=>ar2 λ_ _=>rfl) λnd _ _ _ _ _ _ _ hr=>'d'
def ig:PSt:=
 (aj (aw false 7 (ai i5 (aa (af 0) (aa (ai gD (aa (af 1) (aa (ai cm (aa (af 4) (aa (af 3) ag))) ag))) ag))))
  (aj (aT (lL 5 gQ (aa (bI (aa (af 7) (aa (ai gD (aa (af 1) (aa (ai cm (aa (af 6) (aa (af 3) ag))) ag))) ag))) ag)))
  (tW 4 rC (af 6))))
def rJ:PSt:=
 (aj (aw false 3 (pFn cJ (aa (af 2) ag)))
  (aj (aw false 4 (ah 0))
  (aj (aw true 5 (dU ag))
  (aj (jn (b9 (af 2)) (gtN 6) (ig))
  (ar (af 5))))))
def fI:PFn:=fnP [false,false,false] 8 rJ
def ze:fI.ms=[false,false,false]:=rfl
def xV(T:TT K mg):Callee P w K mg base "shares" 4 ["start", "length", "weights"] (spD K mg 3 fI.F):=aD (T.d.get 32 rfl) (au (N:=["start", "length", "weights", "whole", "ahead", "found", "weight", "begin"]) (by decide)) (λ_ _ _ _ _ _=>ar3 λ_ _ _=>rfl) λnd _ _ _ _ _ _ _ hr=>'d'
def sR:PSt:=
 (aj (aT (ai aH (aa (af 0) ag)))
  (aj (aT (ai eR (aa (af 1) ag)))
  (aj (aT (ai aE (aa (af 2) ag)))
  (aj (jC (af 0) (gtX (gtT 4 (ba (gtN 3) (ba (gtN 4) (ba (gtN 5) (ba (gtN 6) eV)))))))
  (aj (xIf (qOf (pOp bEq (af 1) (bu "across"))) (ar (pLC (b9 (ai fI (aa (af 3) (aa (af 5) (aa (af 2) ag))))) [none,none,some 4,some 6] (by decide) (gtT 2 (ba (gtN 0) (ba (gtN 1) eV))) qY (bI (aa (af 0) (aa (af 2) (aa (af 1) (aa (af 3) ag))))))) xNx)
  (ar (pLC (b9 (ai fI (aa (af 4) (aa (af 6) (aa (af 2) ag))))) [none,none,some 3,some 5] (by decide) (gtT 2 (ba (gtN 0) (ba (gtN 1) eV))) qY (bI (aa (af 2) (aa (af 0) (aa (af 3) (aa (af 1) ag))))))))))))
def dX:PFn:=fnP [false,false,false] 7 sR
def AQ:dX.ms=[false,false,false]:=rfl
def mV(T:TT K mg):Callee P w K mg base "parted" 5 ["box", "way", "weights"] (spD K mg 3 dX.F):=aD (T.d.get 33 rfl) (au (N:=["box", "way", "weights", "left", "top", "wide", "high"]) (by decide)) (λ_ _ _ _ _ _=>ar3 λ_ _ _=>rfl) λnd _ _ _ _ _ _ _ hr=>(aq 'd' (aq 'd' (aq 'd' (aq 'd' (aq (kM 'd' (cX (fk (fM ["box", "way", "weights", "left", "top", "wide", "high"] (ak (top 33)).names ["begin", "length", "top", "high"] [none,none,some 4,some 6] 'd' (λnd _ _ _ _ _=>'d') (λnd _ _ _ _ _=>'d')))) 'd') (cX (fk (fM ["box", "way", "weights", "left", "top", "wide", "high"] (ak (top 33)).names ["begin", "length", "left", "wide"] [none,none,some 3,some 5] 'd' (λnd _ _ _ _ _=>'d') (λnd _ _ _ _ _=>'d')))))))))
def cx:PSt:=
 (aj (aw false 3 (qU 2 qW))
  (xIf (qOf (pFn (bC cA) (aa (af 3) (aa (pTy "tuple") ag)))) (aT (lL 2 ik (aa (pOp bIx (af 3) (ah 1)) ag))) (aT (lL 1 gQ (aa (af 3) ag)))))
def lI:PSt:=
 (aj (aw true 1 (dU ag))
  (aj (aw true 2 (dU (aa (af 0) ag)))
  (aj (xWh (qTr (af 2)) (cx))
  (ar (af 1)))))
def dJ:PFn:=fnP [false] 4 lI
def rA:dJ.ms=[false]:=rfl
def qw(T:TT K mg):Callee P w K mg base "things_in" 1 ["tree"] (spD K mg 1 dJ.F):=aD (T.d.get 47 rfl) (au (N:=["tree", "found", "waiting", "part"]) (by decide)) (λ_ _ _ _ _ _=>ar1 λ_=>rfl) λnd _ _ _ _ _ _ _ hr=>'d'
def nG:PSt:=
 (aj (jC (af 2) (gtX (gtT 2 (ba (gtN 3) (ba (gtN 4) eV)))))
  (ar (ai dX (aa (af 0) (aa (af 3) (aa (pLC (b9 (af 4)) [none,some 1] (by decide) (gtN 0) qY (pFn cJ (aa (pLC (b9 (ai dJ (aa (af 0) ag))) [none,some 1] (by decide) (gtN 0) qY (pOp bIx (af 1) (af 0))) ag))) ag))))))
def fo:PFn:=fnP [false,false,false] 5 nG
def vh:fo.ms=[false,false,false]:=rfl
def sG(T:TT K mg):Callee P w K mg base "parts_of" 6 ["room", "weights", "tree"] (spD K mg 3 fo.F):=aD (T.d.get 50 rfl) (au (N:=["room", "weights", "tree", "way", "trees"]) (by decide)) (λ_ _ _ _ _ _=>ar3 λ_ _ _=>rfl) λnd _ _ _ _ _ _ _ hr=>(aq 'd' (cX (fk (zcF (mV T) hr (bR 'd' (bR 'd' (bR (fM ["room", "weights", "tree", "way", "trees"] (ak (top 50)).names ["part", "weights"] [none,some 1] 'd' (λnd _ _ _ _ _=>'d') (λnd _ _ _ _ _=>(jM (pG (K:=K) rfl rfl) z9 rfl (T.n rfl) (by first |exact boF rfl |exact boT rfl) (bR (fM ["part", "weights"] [(PySem.Str.ofString ".0",PySem.NameKind.local),(PySem.Str.ofString "part",PySem.NameKind.local),(PySem.Str.ofString "sum",PySem.NameKind.globalImplicit),(PySem.Str.ofString "things_in",PySem.NameKind.globalImplicit),(PySem.Str.ofString "weights",PySem.NameKind.cell)] ["thing", "weights"] [none,some 1] 'd' (λnd _ _ _ _ _=>'d') (λnd _ _ _ _ _=>'d')) 'd')))) 'd')))))))
def jE(s:PFx [false,false,false,true]):PSt:=
 (aT (ai s.fn (aa (af 5) (aa (af 1) (aa (af 4) (aa (af 3) ag))))))
def gG(s:PFx [false,false,false,true]):PSt:=
 (aj (xIf (qNo (qOf (pFn (bC cA) (aa (af 2) (aa (pTy "tuple") ag))))) (aj (sU 3 seI (af 2) (af 0))
  xK) xNx)
  (jn (xi (aa (pOp bIx (af 2) (ah 1)) (aa (ai fo (aa (af 0) (aa (af 1) (aa (af 2) ag)))) ag))) (gtX (gtT 2 (ba (gtN 4) (ba (gtN 5) eV)))) (jE s)))
def dD:Nat->PFx [false,false,false,true]
 |0=>PFx.none [false,false,false,true]
 |n+1=>PFx.of [false,false,false,true] 6 (gG (dD n))
theorem nN(T:TT K mg):∀n,Callee P w K mg base "place" (8+n) ["room", "weights", "tree", "placed"] (spD K mg 4 (dD n).F)
 |0=>ok0 (T.d.get 49 rfl) (au (N:=["room", "weights", "tree", "placed", "part", "box"]) (by decide)) (λ_ _ _ _ _ _=>ar4 λ_ _ _ _=>rfl)
 |
  n+1=>by
  have ih:=nN T n;show Callee _ _ _ _ _ _ _ _ (spD _ _ _ (PFx.of [false,false,false,true] 6 (gG (dD n))).F);exact CO (k:=8+n) (T.d.get 49 rfl) (au (N:=["room", "weights", "tree", "placed", "part", "box"]) (by decide)) (λ_ _ _ _ _ _=>ar4 λ_ _ _ _=>rfl) λnd _ _ _ _ _ _ _ hr=>'d'
def mS:PSt:=
 (aj (aT (ai aH (aa (af 0) ag)))
  (aj (aT (ai aE (aa (af 1) ag)))
  (aj (aT (ai d7 (aa (af 2) (aa (pFn bj (aa (af 1) ag)) ag))))
  (aj (aw true 3 pD0)
  (aj (aT (ai (dD 42).fn (aa (af 0) (aa (af 1) (aa (af 2) (aa (af 3) ag))))))
  (ar (pLC (nI (aa (pFn bj (aa (af 1) ag)) ag)) [none,some 3] (by decide) (gtN 0) qY (pOp xm (af 1) (af 0)))))))))
def eA:PFn:=fnP [false,false,false] 4 mS
def u6:eA.ms=[false,false,false]:=rfl
def uU(T:TT K mg):Callee P w K mg base "boxes_by" 51 ["room", "weights", "tree"] (spD K mg 3 eA.F):=aD (T.d.get 48 rfl) (au (N:=["room", "weights", "tree", "placed"]) (by decide)) (λ_ _ _ _ _ _=>ar3 λ_ _ _=>rfl) λnd _ _ _ _ _ _ _ hr=>(aq 'd' (aq 'd' (aq 'd' (aq 'd' (aq 'd' (cX (fk (fM ["room", "weights", "tree", "placed"] (ak (top 48)).names ["number", "placed"] [none,some 3] 'd' (λnd _ _ _ _ _=>'d') (λnd _ _ _ _ _=>'d')))))))))
def j6:PSt:=
 (xIf (qOf (pOp D1 (af 0) rQ)) (eO "NoRule" (aa (bu "this is no rule") ag)) xNx)
def cW:PFn:=fnP [false] 1 j6
def qh:cW.ms=[false]:=rfl
def nS(T:TT K mg):Callee P w K mg base "check_rule" 1 ["rule"] (spD K mg 1 cW.F):=aD (T.d.get 53 rfl) (au (N:=["rule"]) (by decide)) (λ_ _ _ _ _ _=>ar1 λ_=>rfl) λnd _ _ _ _ _ _ _ hr=>'d'
def gw:PSt:=
 (aj (aw false 1 (pLC (yf (aa (ah 1) (aa (pFn bj (aa (af 0) ag)) ag))) [none,some 0] (by decide) (gtN 0) qY (pFn eG (aa (pOp fg (pOp bq (ah 2) (pFn cJ (aa (pSl (af 1) oN (oS (af 0))) ag))) (pFn cJ (aa (af 1) ag))) ag))))
  (ar (pOp a8 (yK kU (af 1) (aa (pFn tU (aa (af 1) ag)) ag)) (ah 1))))
def bE:PFn:=fnP [false] 2 gw
def j8:bE.ms=[false]:=rfl
def fF(T:TT K mg):Callee P w K mg base "nearest_to_half" 1 ["weights"] (spD K mg 1 bE.F):=aD (T.d.get 60 rfl) (au (N:=["weights", "apart"]) (by decide)) (λ_ _ _ _ _ _=>ar1 λ_=>rfl) λnd _ _ _ _ _ _ _ hr=>(aq (zSlc nd ["weights", "apart"] (ak (top 60)).names ["many", "weights"] [none,some 0] 'd' (λnd _ _ _ _ _=>'d') (λnd _ _ _ _ _=>'d')) 'd')
def cI:PSt:=
 (tW 1 rC (ah 1))
def gx:PSt:=
 (aj (aw false 1 (ah 1))
  (aj (xWh (qOf (pOp bLt (pOp bq (ah 3) (pFn cJ (aa (pSl (af 0) oN (oS (af 1))) ag))) (pFn cJ (aa (af 0) ag)))) (cI))
  (ar (af 1))))
def bF:PFn:=fnP [false] 2 gx
def kj:bF.ms=[false]:=rfl
def fG(T:TT K mg):Callee P w K mg base "fewest_to_third" 1 ["weights"] (spD K mg 1 bF.F):=aD (T.d.get 61 rfl) (au (N:=["weights", "many"]) (by decide)) (λ_ _ _ _ _ _=>ar1 λ_=>rfl) λnd _ _ _ _ _ _ _ hr=>'d'
def pw:PSt:=
 (ar (pOp bLt (pOp bq (pOp bIx (af 0) (ah 0)) (pOp bIx (af 1) (ah 1))) (pOp bq (pOp bIx (af 1) (ah 0)) (pOp bIx (af 0) (ah 1)))))
def dY:PFn:=fnP [false,false] 2 pw
def ye:dY.ms=[false,false]:=rfl
def u7(T:TT K mg):Callee P w K mg base "is_less" 1 ["one", "other"] (spD K mg 2 dY.F):=aD (T.d.get 17 rfl) (au (N:=["one", "other"]) (by decide)) (λ_ _ _ _ _ _=>ar2 λ_ _=>rfl) λnd _ _ _ _ _ _ _ hr=>'d'
def nF:PSt:=
 (aj (aT (ai aH (aa (af 0) ag)))
  (aj (xIf (qOf (ai dY (aa (pOp bIx (af 0) (ah 2)) (aa (pOp bIx (af 0) (ah 3)) ag)))) (ar (bu "down")) xNx)
  (ar (bu "across"))))
def bN:PFn:=fnP [false] 1 nF
def vt:bN.ms=[false]:=rfl
def uO(T:TT K mg):Callee P w K mg base "long_way" 5 ["box"] (spD K mg 1 bN.F):=aD (T.d.get 29 rfl) (au (N:=["box"]) (by decide)) (λ_ _ _ _ _ _=>ar1 λ_=>rfl) λnd _ _ _ _ _ _ _ hr=>'d'
def kq:PSt:=
 (ar (ai dX (aa (af 0) (aa (ai bN (aa (af 0) ag)) (aa (dU (aa (pFn cJ (aa (pSl (af 1) oN (oS (af 2))) ag)) (aa (pFn cJ (aa (pSl (af 1) (oS (af 2)) oN) ag)) ag))) ag)))))
def cC:PFn:=fnP [false,false,false] 3 kq
def pZ:cC.ms=[false,false,false]:=rfl
def oC(T:TT K mg):Callee P w K mg base "cut_in_two" 6 ["room", "weights", "many"] (spD K mg 3 cC.F):=aD (T.d.get 34 rfl) (au (N:=["room", "weights", "many"]) (by decide)) (λ_ _ _ _ _ _=>ar3 λ_ _ _=>rfl) λnd _ _ _ _ _ _ _ hr=>'d'
def b8(s:PFx [false,false,false,false]):PSt:=
 (aj (xIf (qOf (pOp bEq (pFn bj (aa (af 1) ag)) (ah 1))) (ar (pOp bIx (af 1) (ah 0))) xNx)
  (aj (aw false 4 (ny [("nearest_to_half",bE),("fewest_to_third",bF)] (af 3) (aa (af 2) ag)))
  (aj (jC (ai cC (aa (af 0) (aa (af 2) (aa (af 4) ag)))) (gtX (gtU 2 (ba (gtN 5) (ba (gtN 6) eV)))))
  (aj (aw false 7 (ai s.fn (aa (af 5) (aa (pSl (af 1) oN (oS (af 4))) (aa (pSl (af 2) oN (oS (af 4))) (aa (af 3) ag))))))
  (aj (aw false 8 (ai s.fn (aa (af 6) (aa (pSl (af 1) (oS (af 4)) oN) (aa (pSl (af 2) (oS (af 4)) oN) (aa (af 3) ag))))))
  (ar (bI (aa (ai bN (aa (af 0) ag)) (aa (bI (aa (af 7) (aa (af 8) ag))) ag)))))))))
def aQ:Nat->PFx [false,false,false,false]
 |0=>PFx.none [false,false,false,false]
 |n+1=>PFx.of [false,false,false,false] 9 (b8 (aQ n))
theorem fh(T:TT K mg):∀n,Callee P w K mg base "tree_in_two" (8+n) ["room", "numbers", "weights", "how_many"] (spD K mg 4 (aQ n).F)
 |0=>ok0 (T.d.get 59 rfl) (au (N:=["room", "numbers", "weights", "how_many", "many", "first", "second", "ahead", "behind"]) (by decide)) (λ_ _ _ _ _ _=>ar4 λ_ _ _ _=>rfl)
 |
  n+1=>by
  have ih:=fh T n;show Callee _ _ _ _ _ _ _ _ (spD _ _ _ (PFx.of [false,false,false,false] 9 (b8 (aQ n))).F);exact CO (k:=8+n) (T.d.get 59 rfl) (au (N:=["room", "numbers", "weights", "how_many", "many", "first", "second", "ahead", "behind"]) (by decide)) (λ_ _ _ _ _ _=>ar4 λ_ _ _ _=>rfl) λnd _ _ _ _ _ _ _ hr=>(aq 'd' (aq (zsS 4 nd (CB (wj (fF T) (hr.mono (by omega)) (wj (fG T) (hr.mono (by omega)) LK)) 'd' (lB Fu) 'd')) 'd'))
def jO:PSt:=
 (aj (aT (ai aH (aa (af 0) ag)))
  (aj (aT (ai aE (aa (af 1) ag)))
  (ar (ai (aQ 42).fn (aa (af 0) (aa (pFn kI (aa (pFn bj (aa (af 1) ag)) ag)) (aa (af 1) (aa (xf "nearest_to_half") ag))))))))
def bZ:PFn:=fnP [false,false] 2 jO
def oJ:bZ.ms=[false,false]:=rfl
def mR(T:TT K mg):Callee P w K mg base "halves_tree" 51 ["room", "weights"] (spD K mg 2 bZ.F):=aD (T.d.get 57 rfl) (au (N:=["room", "weights"]) (by decide)) (λ_ _ _ _ _ _=>ar2 λ_ _=>rfl) λnd _ _ _ _ _ _ _ hr=>'d'
def lF:PSt:=
 (aj (xIf (qOf (pOp bEq (af 0) (bu "across"))) (ar (bu "down")) xNx)
  (ar (bu "across")))
def dG:PFn:=fnP [false] 1 lF
def rB:dG.ms=[false]:=rfl
def qr(T:TT K mg):Callee P w K mg base "other_way" 1 ["way"] (spD K mg 1 dG.F):=aD (T.d.get 26 rfl) (au (N:=["way"]) (by decide)) (λ_ _ _ _ _ _=>ar1 λ_=>rfl) λnd _ _ _ _ _ _ _ hr=>'d'
def eE:PSt:=
 (xIf (qOf (ai dY (aa (af 1) (aa (af 2) ag)))) (aw false 1 (af 2)) xNx)
def jQ:PSt:=
 (aj (aw false 1 (pOp bIx (af 0) (ah 0)))
  (aj (jn (b9 (af 0)) (gtN 2) (eE))
  (ar (af 1))))
def dq:PFn:=fnP [false] 3 jQ
def oZ:dq.ms=[false]:=rfl
def ia(T:TT K mg):Callee P w K mg base "greatest_of" 2 ["fractions"] (spD K mg 1 dq.F):=aD (T.d.get 18 rfl) (au (N:=["fractions", "found", "one"]) (by decide)) (λ_ _ _ _ _ _=>ar1 λ_=>rfl) λnd _ _ _ _ _ _ _ hr=>'d'
def zu:PSt:=
 (ar (ai cm (aa (pOp bq (pOp bIx (af 0) (ah 0)) (pOp bIx (af 1) (ah 1))) (aa (pOp bq (pOp bIx (af 0) (ah 1)) (pOp bIx (af 1) (ah 0))) ag))))
def iP:PFn:=fnP [false,false] 2 zu
def Gd:iP.ms=[false,false]:=rfl
def Ec(T:TT K mg):Callee P w K mg base "over" 3 ["one", "other"] (spD K mg 2 iP.F):=aD (T.d.get 16 rfl) (au (N:=["one", "other"]) (by decide)) (λ_ _ _ _ _ _=>ar2 λ_ _=>rfl) λnd _ _ _ _ _ _ _ hr=>'d'
def wQ:PSt:=
 (aj (xIf (qOf (pOp bEq (ai bN (aa (af 0) ag)) (bu "across"))) (ar (ai iP (aa (pOp bIx (af 0) (ah 2)) (aa (pOp bIx (af 0) (ah 3)) ag)))) xNx)
  (ar (ai iP (aa (pOp bIx (af 0) (ah 3)) (aa (pOp bIx (af 0) (ah 2)) ag)))))
def eD:PFn:=fnP [false] 1 wQ
def zj(T:TT K mg):Callee P w K mg base "shape" 6 ["box"] (spD K mg 1 eD.F):=aD (T.d.get 30 rfl) (au (N:=["box"]) (by decide)) (λ_ _ _ _ _ _=>ar1 λ_=>rfl) λnd _ _ _ _ _ _ _ hr=>'d'
def i4:PSt:=
 (aj (aw false 3 (af 0))
  (aj (xIf (qOf (pOp bLt (af 2) (pFn bj (aa (af 1) ag)))) (aw false 3 (pOp bIx (ai cC (aa (af 0) (aa (af 1) (aa (af 2) ag)))) (ah 0))) xNx)
  (aj (aw false 4 (ai dX (aa (af 3) (aa (ai dG (aa (ai bN (aa (af 0) ag)) ag)) (aa (pSl (af 1) oN (oS (af 2))) ag)))))
  (ar (ai dq (aa (pLC (b9 (af 4)) [none] (by decide) (gtN 0) qY (ai eD (aa (af 0) ag))) ag))))))
def cq:PFn:=fnP [false,false,false] 5 i4
def m6:cq.ms=[false,false,false]:=rfl
def lN(T:TT K mg):Callee P w K mg base "worst_of_row" 7 ["room", "weights", "many"] (spD K mg 3 cq.F):=aD (T.d.get 42 rfl) (au (N:=["room", "weights", "many", "part", "boxes"]) (by decide)) (λ_ _ _ _ _ _=>ar3 λ_ _ _=>rfl) λnd _ _ _ _ _ _ _ hr=>(aq 'd' (aq 'd' (aq 'd' (cX (fk (zcF (ia T) hr (bR (fM ["room", "weights", "many", "part", "boxes"] (ak (top 42)).names ["box"] [none] 'd' (λnd _ _ _ _ _=>'d') (λnd _ _ _ _ _=>'d')) 'd')))))))
def dn:PSt:=
 (aj (aw false 4 (ai cq (aa (af 0) (aa (af 1) (aa (pOp a8 (af 2) (ah 1)) ag)))))
  (aj (xIf (qOf (ai dY (aa (af 3) (aa (af 4) ag)))) xBk xNx)
  (aj (aw false 3 (af 4))
  (tW 2 rC (ah 1)))))
def jS:PSt:=
 (aj (aw false 2 (ah 1))
  (aj (aw false 3 (ai cq (aa (af 0) (aa (af 1) (aa (af 2) ag)))))
  (aj (xWh (qOf (pOp bLt (af 2) (pFn bj (aa (af 1) ag)))) (dn))
  (ar (af 2)))))
def eg:PFn:=fnP [false,false] 5 jS
def pX:eg.ms=[false,false]:=rfl
def oq(T:TT K mg):Callee P w K mg base "row_length" 8 ["room", "weights"] (spD K mg 2 eg.F):=aD (T.d.get 41 rfl) (au (N:=["room", "weights", "many", "before", "behind"]) (by decide)) (λ_ _ _ _ _ _=>ar2 λ_ _=>rfl) λnd _ _ _ _ _ _ _ hr=>'d'
def jN:PSt:=
 (aj (xIf (qOf (pOp bEq (pFn bj (aa (af 1) ag)) (ah 1))) (ar (pOp bIx (af 1) (ah 0))) xNx)
  (ar (bI (aa (ai dG (aa (ai bN (aa (af 0) ag)) ag)) (aa (pFn nU (aa (af 1) ag)) ag)))))
def du:PFn:=fnP [false,false] 2 jN
def oV:du.ms=[false,false]:=rfl
def nD(T:TT K mg):Callee P w K mg base "tree_of_row" 6 ["room", "numbers"] (spD K mg 2 du.F):=aD (T.d.get 40 rfl) (au (N:=["room", "numbers"]) (by decide)) (λ_ _ _ _ _ _=>ar2 λ_ _=>rfl) λnd _ _ _ _ _ _ _ hr=>'d'
def cu(s:PFx [false,false,false]):PSt:=
 (aj (aw false 3 (ai eg (aa (af 0) (aa (af 2) ag))))
  (aj (aw false 4 (ai du (aa (af 0) (aa (pSl (af 1) oN (oS (af 3))) ag))))
  (aj (xIf (qOf (pOp bEq (af 3) (pFn bj (aa (af 1) ag)))) (ar (af 4)) xNx)
  (aj (aw false 5 (pOp bIx (ai cC (aa (af 0) (aa (af 2) (aa (af 3) ag)))) (ah 1)))
  (ar (bI (aa (ai bN (aa (af 0) ag)) (aa (bI (aa (af 4) (aa (ai s.fn (aa (af 5) (aa (pSl (af 1) (oS (af 3)) oN) (aa (pSl (af 2) (oS (af 3)) oN) ag)))) ag))) ag))))))))
def aR:Nat->PFx [false,false,false]
 |0=>PFx.none [false,false,false]
 |n+1=>PFx.of [false,false,false] 6 (cu (aR n))
theorem eK(T:TT K mg):∀n,Callee P w K mg base "tree_of_rows" (10+n) ["room", "numbers", "weights"] (spD K mg 3 (aR n).F)
 |0=>ok0 (T.d.get 39 rfl) (au (N:=["room", "numbers", "weights", "many", "tree", "rest"]) (by decide)) (λ_ _ _ _ _ _=>ar3 λ_ _ _=>rfl)
 |
  n+1=>by
  have ih:=eK T n;show Callee _ _ _ _ _ _ _ _ (spD _ _ _ (PFx.of [false,false,false] 6 (cu (aR n))).F);exact CO (k:=10+n) (T.d.get 39 rfl) (au (N:=["room", "numbers", "weights", "many", "tree", "rest"]) (by decide)) (λ_ _ _ _ _ _=>ar3 λ_ _ _=>rfl) λnd _ _ _ _ _ _ _ hr=>'d'
def lJ:PSt:=
 (aj (aT (ai aH (aa (af 0) ag)))
  (aj (aT (ai aE (aa (af 1) ag)))
  (ar (ai (aR 42).fn (aa (af 0) (aa (pFn kI (aa (pFn bj (aa (af 1) ag)) ag)) (aa (af 1) ag)))))))
def cP:PFn:=fnP [false,false] 2 lJ
def uS:cP.ms=[false,false]:=rfl
def pW(T:TT K mg):Callee P w K mg base "rows_tree" 53 ["room", "weights"] (spD K mg 2 cP.F):=aD (T.d.get 36 rfl) (au (N:=["room", "weights"]) (by decide)) (λ_ _ _ _ _ _=>ar2 λ_ _=>rfl) λnd _ _ _ _ _ _ _ hr=>'d'
def da:PSt:=
 (ar (pFn uQ (aa (pFn bj (aa (af 0) ag)) (aa (af 0) ag))))
def aF:PFn:=fnP [false] 1 da
def iY:aF.ms=[false]:=rfl
def iH(T:TT K mg):Callee P w K mg base "by_falling_weights" 1 ["weights"] (spD K mg 1 aF.F):=okPL (T.d.get 38 rfl) T.l (au (N:=["weights"]) (by decide)) (λ_ _ _ _ _ _=>ar1 λ_=>rfl) λnd _ _ _ _ _ _ _ _ e2 e3 hr=>(cX (fk (F8 rfl hr.depth rfl (T.n rfl) rfl (T.n rfl) rfl rfl rfl e2 e3 'd')))
def iu:PSt:=
 (aj (aT (ai aH (aa (af 0) ag)))
  (aj (aT (ai aE (aa (af 1) ag)))
  (aj (aw false 2 (ai aF (aa (af 1) ag)))
  (ar (ai (aR 42).fn (aa (af 0) (aa (af 2) (aa (pLC (b9 (af 2)) [none,some 1] (by decide) (gtN 0) qY (pOp bIx (af 1) (af 0))) ag))))))))
def bB:PFn:=fnP [false,false] 3 iu
def me:bB.ms=[false,false]:=rfl
def lj(T:TT K mg):Callee P w K mg base "greatest_tree" 53 ["room", "weights"] (spD K mg 2 bB.F):=aD (T.d.get 37 rfl) (au (N:=["room", "weights", "numbers"]) (by decide)) (λ_ _ _ _ _ _=>ar2 λ_ _=>rfl) λnd _ _ _ _ _ _ _ hr=>(aq 'd' (aq 'd' (aq 'd' (cX (fk (zcF (eK T 42) hr (bR 'd' (bR 'd' (bR (fM ["room", "weights", "numbers"] (ak (top 37)).names ["number", "weights"] [none,some 1] 'd' (λnd _ _ _ _ _=>'d') (λnd _ _ _ _ _=>'d')) 'd')))))))))
def jP:PSt:=
 (aj (aT (ai aH (aa (af 0) ag)))
  (aj (aT (ai aE (aa (af 1) ag)))
  (aj (aw false 2 (ai aF (aa (af 1) ag)))
  (ar (ai (aQ 42).fn (aa (af 0) (aa (af 2) (aa (pLC (b9 (af 2)) [none,some 1] (by decide) (gtN 0) qY (pOp bIx (af 1) (af 0))) (aa (xf "fewest_to_third") ag)))))))))
def bX:PFn:=fnP [false,false] 3 jP
def nZ:bX.ms=[false,false]:=rfl
def mM(T:TT K mg):Callee P w K mg base "thirds_tree" 51 ["room", "weights"] (spD K mg 2 bX.F):=aD (T.d.get 58 rfl) (au (N:=["room", "weights", "numbers"]) (by decide)) (λ_ _ _ _ _ _=>ar2 λ_ _=>rfl) λnd _ _ _ _ _ _ _ hr=>(aq 'd' (aq 'd' (aq 'd' (cX (fk (zcF (fh T 42) hr (bR 'd' (bR 'd' (bR (fM ["room", "weights", "numbers"] (ak (top 58)).names ["number", "weights"] [none,some 1] 'd' (λnd _ _ _ _ _=>'d') (λnd _ _ _ _ _=>'d')) 'd')))))))))
def iN:PSt:=
 (aj (aT (ai aH (aa (af 1) ag)))
  (aj (aT (ai aE (aa (af 2) ag)))
  (aj (xIf (qOf (pOp bEq (pFn bj (aa (af 2) ag)) (ah 1))) (ar (ah 0)) xNx)
  (ar (bI (aa (af 0) (aa (pFn qV (aa (pFn bj (aa (af 2) ag)) ag)) ag)))))))
def cZ:PFn:=fnP [false,false,false] 3 iN
def nv:cZ.ms=[false,false,false]:=rfl
def lY(T:TT K mg):Callee P w K mg base "side_by_side" 5 ["way", "room", "weights"] (spD K mg 3 cZ.F):=aD (T.d.get 56 rfl) (au (N:=["way", "room", "weights"]) (by decide)) (λ_ _ _ _ _ _=>ar3 λ_ _ _=>rfl) λnd _ _ _ _ _ _ _ hr=>'d'
def dM:PSt:=
 (aj (aT (ai cW (aa (af 0) ag)))
  (aj (xIf (qOf (pOp bEq (af 0) (bu "halves"))) (ar (ai bZ (aa (af 1) (aa (af 2) ag)))) xNx)
  (aj (xIf (qOf (pOp bEq (af 0) (bu "rows"))) (ar (ai cP (aa (af 1) (aa (af 2) ag)))) xNx)
  (aj (xIf (qOf (pOp bEq (af 0) (bu "greatest"))) (ar (ai bB (aa (af 1) (aa (af 2) ag)))) xNx)
  (aj (xIf (qOf (pOp bEq (af 0) (bu "thirds"))) (ar (ai bX (aa (af 1) (aa (af 2) ag)))) xNx)
  (ar (ai cZ (aa (af 0) (aa (af 1) (aa (af 2) ag))))))))))
def aC:PFn:=fnP [false,false,false] 3 dM
def tf:aC.ms=[false,false,false]:=rfl
def qf(T:TT K mg):Callee P w K mg base "rule_tree" 54 ["rule", "room", "weights"] (spD K mg 3 aC.F):=aD (T.d.get 54 rfl) (au (N:=["rule", "room", "weights"]) (by decide)) (λ_ _ _ _ _ _=>ar3 λ_ _ _=>rfl) λnd _ _ _ _ _ _ _ hr=>'d'
def j7:PSt:=
 (ar (ai eA (aa (af 1) (aa (af 2) (aa (ai aC (aa (af 0) (aa (af 1) (aa (af 2) ag)))) ag)))))
def bO:PFn:=fnP [false,false,false] 3 j7
def yc:bO.ms=[false,false,false]:=rfl
def va(T:TT K mg):Callee P w K mg base "by_rule" 55 ["rule", "room", "weights"] (spD K mg 3 bO.F):=aD (T.d.get 55 rfl) (au (N:=["rule", "room", "weights"]) (by decide)) (λ_ _ _ _ _ _=>ar3 λ_ _ _=>rfl) λnd _ _ _ _ _ _ _ hr=>'d'
def su:PSt:=
 (aj (aw false 6 (ai bO (aa (af 5) (aa (af 2) (aa (af 3) ag)))))
  (aj (aw false 7 (ai bO (aa (af 5) (aa (af 4) (aa (af 3) ag)))))
  (xIf (qOf (pOp bNe (pLC (b9 (af 6)) [none] (by decide) (gtN 0) qY (ai eD (aa (af 0) ag))) (pLC (b9 (af 7)) [none] (by decide) (gtN 0) qY (ai eD (aa (af 0) ag))))) (ar (pBl false)) xNx)))
def rM:PSt:=
 (xIf (qOf (pOp bNe (ai bO (aa (af 8) (aa (af 4) (aa (af 3) ag)))) (pLC (b9 (ai bO (aa (af 9) (aa (af 2) (aa (af 3) ag))))) [none] (by decide) (gtN 0) qY (ai dW (aa (af 0) ag))))) (ar (pBl false)) xNx)
def xk:PSt:=
 (aj (aw true 1 (ai df (aa (af 0) (aa (ah 55) ag))))
  (aj (aw false 2 (ai fu (aa (af 1) ag)))
  (aj (aw false 3 (ai dm (aa (af 0) (aa (ah 0) (aa (pOp bIx (dU (aa (ah 9) (aa (ah 40) ag))) (pFn qT (aa (pOp bEq (ai ao (aa (af 1) (aa (ah 6) ag))) (ah 0)) ag))) ag)))))
  (aj (aw false 4 (ai dW (aa (af 2) ag)))
  (aj (jn (b9 (dU (aa (bu "halves") (aa (bu "rows") (aa (bu "greatest") (aa (bu "thirds") ag)))))) (gtN 5) (su))
  (aj (jn (b9 (dU (aa (bI (aa (bu "across") (aa (bu "down") ag))) (aa (bI (aa (bu "down") (aa (bu "across") ag))) ag)))) (gtX (gtT 2 (ba (gtN 8) (ba (gtN 9) eV)))) (rM))
  (ar (pBl true))))))))
def qK:PFn:=fnP [false] 10 xk
def Ip(T:TT K mg):Callee P w K mg base "law" 56 ["_law_script"] (spD K mg 1 qK.F):=aD (T.d.get 69 rfl) (au (N:=["_law_script", "_law_feed_here", "_law_room_here", "_law_weights_here", "_law_other", "_law_rule", "_law_here", "_law_there", "_law_one", "_law_two"]) (by decide)) (λ_ _ _ _ _ _=>ar1 λ_=>rfl) λnd _ _ _ _ _ _ _ hr=>(aq 'd' (aq 'd' (aq 'd' (aq 'd' (aq (sX Ds rfl 'd' 'd' (aq 'd' (aq 'd' (cX (kM (uK (Dh (K:=K) rfl hr.u180) yG (fM ["_law_script", "_law_feed_here", "_law_room_here", "_law_weights_here", "_law_other", "_law_rule", "_law_here", "_law_there", "_law_one", "_law_two"] (ak (top 69)).names ["_law_box"] [none] 'd' (λnd _ _ _ _ _=>'d') (λnd _ _ _ _ _=>'d')) (fM ["_law_script", "_law_feed_here", "_law_room_here", "_law_weights_here", "_law_other", "_law_rule", "_law_here", "_law_there", "_law_one", "_law_two"] (ak (top 69)).names ["_law_box"] [none] 'd' (λnd _ _ _ _ _=>'d') (λnd _ _ _ _ _=>'d')) (m5 _)) 'd' 'd'))))) (aq (sX Ds rfl 'd' 'd' (cX (kM (uK (Dh (K:=K) rfl hr.u180) yG 'd' (fM ["_law_script", "_law_feed_here", "_law_room_here", "_law_weights_here", "_law_other", "_law_rule", "_law_here", "_law_there", "_law_one", "_law_two"] (ak (top 69)).names ["_law_box"] [none] 'd' (λnd _ _ _ _ _=>'d') (λnd _ _ _ _ _=>'d')) (m5 _)) 'd' 'd'))) 'd'))))))
end
noncomputable def fdV(a b k:Int):Val:=.lst [.int a,.int b,.int k]
def Fw:gm.G (.int 10) (.int 18)=.val (.int (10^18)):=qQ ⟨by decide,by decide,by decide⟩
def d6{a m:Int}(h:0<m):0<=a.fmod m/\a.fmod m<m:=⟨Int.fmod_nonneg_of_pos a h,Int.fmod_lt_of_pos a h⟩
set_option hygiene false in
local macro_rules | `(tactic|simp![$args,*])=>do
 let l <- ("% kN Pq QB Ql OA JH yD OL OM Dy y9 ND Lg Mo KS IH KL JC LO HC Eu J1 NC zo GI Lk Qx Qh v_bl Pw v_ty Qb v_un v_op Py KG v_fn Qe Oi O2 OD c_of c_tr c_an c_o c_no x_nx x_bk KO OX Hk H0 HR MC FF x_if Ow NM Qz HA Dp BZ g_n g_sn g_sc g_t g_x IP P9 OI O3 HU Om P0 NW Qa P7 JR M8 Oe NA EC Mz Pf Pt Ji J5 Jv Ke QC PL Qf gF v_lc JI IU IC o_n o_s v_sl v_d0 P1 fx_G P6 Px k_lt k_gt k_ge Oq NG k_ix MH MY Oa k_eq k_ne E4 NV NQ NK O7 OR NZ Hf Jw BL cn List.getElem?_cons_zero List.getElem?_cons_succ List.set_cons_zero List.set_cons_succ List.length_cons List.length_nil Option.bind_some Option.map_some Option.isSome_some if_true if_false Bool.not_true Bool.not_false Bool.and_true Bool.true_and Bool.and_false Bool.false_and Bool.or_true Bool.true_or Bool.or_false Nat.reduceLeDiff Nat.reduceLT Nat.reduceAdd Nat.reduceSub Nat.zero_add Nat.add_zero Nat.sub_self List.cons_append List.nil_append List.append_nil List.replicate reduceCtorEq decide_true decide_false Bool.false_eq_true List.all_cons List.all_nil List.isEmpty_nil List.map_cons List.map_nil Int.reduceBEq Int.reduceLT Int.reduceAdd Int.reduceSub Int.reduceMul Int.cast_ofNat_Int KR HK Lq K3 GK BK I0 AM HS Li HZ Bk Hq M9 Cc Lr HY J8 CU IX Kc GQ O6 Oj OE PD zX Am AU ym vb Ap Cf Ab AW ati0 ati1 ati2 ati3 ixn0 ixn1 QA b0 IJ G1 Gn List.lookup_cons List.lookup_nil g_uL vo vf xM rT u9 oE u5 lg nT A5 ub Ax sZ lK zN tX yP qu tK vp BP Cv ze AQ rA vh u6 qh j8 kj ye vt pZ oJ rB oZ Gd m6 pX oV uS iY me nZ nv tf yc nK Ca HD".splitOn " ").tail.mapM λs=>`(Lean.Parser.Tactic.simpLemma| $(Lean.mkIdent s.toName):term)
 `(tactic|simp only[$(l.toArray),*,$args,*])
def aB{a b k m:Int}(h0:0<m)(hm:Sm 8000 m):∃r a' b',ao.G [fdV a b k,.int m]=.ok (.val (.int r)) [fdV a' b' k]/\0<=r/\r<m:=by
 unfold ao;rw[aA];unfold nB fdV;have m0:m≠0:=by omega
 have d1:=λi=>fA (i:=i) m0;have d2:=λi=>kK (i:=i) (CDivB.of m0 hm);have ca:∀x:Int,CMulA 7919 x:=λx=>CMulA.left (by decide) (by decide);have cb:∀x:Int,CMulA 104729 x:=λx=>CMulA.left (by decide) (by decide);have cc:∀x:Int,CMulA x 48271:=λx=>CMulA.right (by decide) (by decide);have e1:cz.G (.int a) (.int 1000003)=.val (.int (a.fmod 1000003)):=fA (by decide);have e2:bq.G (.int 7919) (.int k)=.val (.int (7919*k)):=cD (ca k);have e3:=λx=>cD (cb x);have e4:=λx=>cD (cc x);have e5:∀x:Int,cz.G (.int x) (.int 2147483647)=.val (.int (x.fmod 2147483647)):=λx=>fA (by decide);have e6:∀x:Int,cz.G (.int x) (.int 65521)=.val (.int (x.fmod 65521)):=λx=>fA (by decide);have e7:∀x y:Int,bq.G (.int (x.fmod 2147483647)) (.int y)=.val (.int (x.fmod 2147483647*y)):=λx y=>cD (CMulA.left (by have:=(d6 (a:=x) (m:=2147483647) (by decide)).1;omega) (by have:=(d6 (a:=x) (m:=2147483647) (by decide)).2;omega));have e8:∀x:Int,cz.G (.int x) (.int 2147483629)=.val (.int (x.fmod 2147483629)):=λx=>fA (by decide);by_cases hc:(10^18:Int)<=a
 .have hc':decide ((10^18:Int)<=a)=true:=G_ hc;refine⟨a.fmod m,a.fdiv m,b+1,?_,d6 h0⟩;simp![Fw,hc',d1,d2]
  done
 .have hc':decide ((10^18:Int)<=a)=false:=B_ hc;refine⟨Int.fmod (Int.fmod (Int.fmod ((Int.fmod a 1000003+7919*k+104729*(b+1))*48271) 2147483647*(Int.fmod (Int.fmod ((Int.fmod a 1000003+7919*k+104729*(b+1))*48271) 2147483647) 65521+(b+1))) 2147483629) m,a,b+1,?_,d6 h0⟩;simp![Fw,hc',d1,e1,e2,e3,e4,e5,e6,e7,e8]
def As(w:Bool):dS.G [.str (wy w)]=.ok (.val (.bl true)) []:=by
 have i1:∀x:Str,(bC cA).G [.str x,.ty "str"]=.val (.bl true):=λ_=>rfl;have i2:bIn.G (.str (wy w)) (.tup [.str "across",.str "down"])=.val (.bl true):=by cases w <;> rfl
 unfold dS;rw[aA];unfold lQ;simp![i1,i2]
def zp{w:Bool}{ts:List Val}(h:2<=ts.length):cL.G [.tup [.str (wy w),.tup ts]]=.ok (.val (.bl true)) []:=by have e:=As w;have i1:∀xs:List Val,(bC cA).G [.tup xs,.ty "tuple"]=.val (.bl true):=λ_=>rfl;have g:decide ((2:Int)<=(ts.length:Nat))=true:=G_ (by omega);unfold cL;rw[aA];unfold iG;simp![i1,e,yM,g]
def AD{a:Val}(h:lfV a=true):cL.G [a]=.ok (.val (.bl false)) []:=by
 have i1:(bC cA).G [a,.ty "tuple"]=.val (.bl false):=by cases a <;> first |rfl |(cases h;done)
 unfold cL;rw[aA];unfold iG;simp![i1]
def Bu(k:Nat):bK.G [.int (k:Nat)]=.ok (.val (.bl true)) []:=by have i1:(bC cA).G [.int (k:Nat),.ty "int"]=.val (.bl true):=rfl;have i2:(bC cA).G [.int (k:Nat),.ty "bool"]=.val (.bl false):=rfl;unfold bK;rw[aA];unfold jf;simp![i1,i2]
theorem j0{n:Nat}(v:Val):∀(N:Nat) (st:List AT) (xs:List Int) (s4:Sl),AT.cntL st<=N->s4.pl=true->(∀t∈st,t.ok=true)->(∀k∈AT.lvsL st,k<n)->(AT.lvsL st).Nodup->(∀k∈AT.lvsL st,((k:Nat):Int)∉xs)->xs.length+(AT.lvsL st).length<=3000->AT.cntL st<=100000->
 ∃(ys:List Int) (s4':Sl),ys.length=xs.length+(AT.lvsL st).length/\(xWh (qTr (af 3)) de).G [.sh v,.sh (.int (n:Nat)),.ow (.set xs),.ow (.lst (st.map atV)),s4]=.nx [.sh v,.sh (.int (n:Nat)),.ow (.set ys),.ow (.lst []),s4']
 |
  N,[],xs,s4,_,_,_,_,_,_,_,_=>⟨xs,s4,by simp [AT.lvsL],by
  rw[gu];simp![QQ,lM,List.isEmpty_nil]⟩
 |
  0,t::ts,xs,s4,h,_,_,_,_,_,_,_=>by
  rw[AT.cntL] at h;cases t <;> (rw[AT.cnt] at h;omega)
 |
  N+1,t0::ts0,xs,s4,hN,h4,ho,hn,nd,hx,hl,hc=>by
  obtain⟨st,t,hst⟩:∃st t,t0::ts0=st++[t]:=⟨(t0::ts0).dropLast,(t0::ts0).getLast (by simp),(List.dropLast_concat_getLast (by simp)).symm⟩;rw[hst] at hN ho hn nd hx hl hc ⊢;rw[AT.lvsL_app] at hn nd hx hl;rw[AT.lvsL_app];rw[AT.cntL_app] at hN hc;have hn0:((st++[t]).map atV).isEmpty=false:=by cases st <;> rfl
  have c1:(qTr (af 3)).G [.sh v,.sh (.int (n:Nat)),.ow (.set xs),.ow (.lst ((st++[t]).map atV)),s4]=.ok true [.sh v,.sh (.int (n:Nat)),.ow (.set xs),.ow (.lst ((st++[t]).map atV)),s4]:=by simp![lM,hn0,Bool.not_false]
  have hto:=ho t (by simp);rw[gu,c1];show ∃ys s4',_/\((de.G _).loop _)=_;rw[QV,t_,QQ];cases t with
  |
   lf k=>
   simp only[AT.lvsL,AT.lvs,QU,D_,C_,QO,AT.cntL,AT.cnt] at hn nd hx hl hN hc ⊢;have hk:=hn k (by simp);have hkx:=hx k (by simp);have nda:=List.nodup_append.mp nd;obtain⟨ys,s4',q1,q2⟩:=j0 (n:=n) v N st (eX xs (k:Nat)) (.sh (.int (k:Nat))) (by omega) rfl (λt ht=>ho t (by simp [ht])) (λj hj=>hn j (by simp [hj])) nda.1 (λj hj z=>by
    unfold eX at z;rw[if_neg hkx] at z;rcases I_.mp z with z |z
    .exact nda.2.2 j hj k (by simp) (Int.ofNat.inj z)
    .exact hx j (by simp [hj]) z) (by unfold eX;rw[if_neg hkx,C_];omega) (by omega)
   refine⟨ys,s4',by rw[q1];unfold eX;rw[if_neg hkx,C_];omega,?_⟩;have b1:=AD (a:=.int (k:Nat)) rfl;have w1:=Bu k;have l0:decide (((k:Nat):Int)<0)=false:=B_ (by omega);have l1:decide (((n:Nat):Int)<=(k:Nat))=false:=B_ (by omega);have in1:decide (((k:Nat):Int)∈xs)=false:=B_ hkx;have av:atV (.lf k)=.int (k:Nat):=rfl;have xl:xs.length<4000:=by omega
   have bb:de.G [.sh v,.sh (.int (n:Nat)),.ow (.set xs),.ow (.lst (st.map atV++[atV (.lf k)])),s4]=.nx [.sh v,.sh (.int (n:Nat)),.ow (.set (eX xs (k:Nat))),.ow (.lst (st.map atV)),.sh (.int (k:Nat))]:=by unfold de;rw[av];simp![nO,h4,b1,w1,l0,l1,PK,in1,Ld,sA,CS,xl]
   rw[bb];exact q2
  |
   nd w ts=>
   have ho':=hto;rw[AT.ok,u_] at hto;have h2:2<=ts.length:=Su hto.1;have hk:=AT.okL_mem.mp hto.2;simp only[AT.lvsL,AT.lvs,QU,AT.cntL,AT.cnt] at hn nd hx hl hN hc ⊢;obtain⟨ys,s4',q1,q2⟩:=j0 (n:=n) v N (st++ts) xs (.sh (atV (.nd w ts))) (by rw[AT.cntL_app];omega) rfl (λt ht=>by
    rcases RL.mp ht with ht |ht
    .exact ho t (by simp [ht])
    .exact hk t ht) (by rw[AT.lvsL_app];exact hn) (by rw[AT.lvsL_app];exact nd) (by rw[AT.lvsL_app];exact hx) (by rw[AT.lvsL_app];exact hl) (by rw[AT.cntL_app];omega)
   rw[AT.lvsL_app] at q1;refine⟨ys,s4',q1,?_⟩;have av:atV (.nd w ts)=.tup [.str (wy w),.tup (ts.map atV)]:=by unfold atV;rw[AT.val,AT.vals_map]
   have b1:=zp (w:=w) (ts:=ts.map atV) (by rw[m_];exact h2);have le:∀l:List AT,l.length<=AT.cntL l:=by
    intro l;induction l with
    |nil=>exact p_ _
    |cons t l ih=>rw[AT.cntL,C_];cases t <;> (rw[AT.cnt];omega)
   have ll:(st.map atV).length+(ts.map atV).length<=16777216:=by
    have:=le st
    have:=le ts
    rw[m_,m_];omega
   rw[av] at q2 ⊢;rw[QV] at q2;have bb:de.G [.sh v,.sh (.int (n:Nat)),.ow (.set xs),.ow (.lst (st.map atV++[.tup [.str (wy w),.tup (ts.map atV)]])),s4]=.nx [.sh v,.sh (.int (n:Nat)),.ow (.set xs),.ow (.lst (st.map atV++ts.map atV)),.sh (.tup [.str (wy w),.tup (ts.map atV)])]:=by unfold de;simp![nO,h4,b1,pI,ll]
   rw[bb];exact q2
def yx{t:AT}{n:Nat}(ho:t.ok=true)(hn:∀k∈t.lvs,k<n)(nd:t.lvs.Nodup)(hl:t.lvs.length=n)(h3:n<=3000)(hc:t.cnt<=100000):gj.G [atV t,.int (n:Nat)]=.ok (.val (.bl true)) []:=by
 have e1:AT.lvsL [t]=t.lvs:=by simp [AT.lvsL]
 have e2:AT.cntL [t]=t.cnt:=by simp [AT.cntL]
 obtain⟨ys,s4',q1,q2⟩:=j0 (n:=n) (atV t) (AT.cntL [t]) [t] [] .no (p_ _) rfl (λu hu=>by rw[Q6] at hu;rw[hu];exact ho) (by rw[e1];exact hn) (by rw[e1];exact nd) (λk hk z=>nomatch z) (by rw[e1,hl];simp;exact h3) (by rw[e2];exact hc);rw[e1,hl,QO,Tn] at q1;rw[t_,QQ] at q2;unfold gj;rw[aA];unfold pB;generalize atV t=tv at *;simp![NB,q2,JN,q1,Ta]
def qz{t:AT}{n:Nat}(ho:t.ok=true)(hn:∀k∈t.lvs,k<n)(nd:t.lvs.Nodup)(hl:t.lvs.length=n)(h3:n<=3000)(hc:t.cnt<=100000):d7.G [atV t,.int (n:Nat)]=.ok (.val .non) []:=by have e:=yx ho hn nd hl h3 hc;unfold d7;rw[aA];unfold kd;generalize atV t=tv at *;simp![e]
def gH(a:Int):(if a<0 then -a else a)=((a.natAbs:Nat):Int):=by split <;> omega
theorem uG:∀(n one bn:Nat),bn<=n->(xWh (qOf (pOp bNe (af 1) (ah 0))) cS).G [.sh (.int (one:Nat)),.sh (.int (bn:Nat))]=.nx [.sh (.int (Nat.gcd one bn:Nat)),.sh (.int 0)]
 |
  n,one,0,_=>by
  rw[gu];simp![kN];rw[Nat.gcd_zero_right];try rfl
 |0,one,bn+1,hl=>absurd hl (by omega)
 |
  n+1,one,bn+1,hl=>by
  rw[gu];have e:((((bn+1:Nat):Int)==0))=false:=by rw[E_];omega
  have e1:cz.G (.int (one:Nat)) (.int ((bn+1:Nat):Int))=.val (.int (((one:Nat):Int).fmod ((bn+1:Nat):Int))):=fA (by omega);have e2:((one:Nat):Int).fmod ((bn+1:Nat):Int)=((one % (bn+1):Nat):Int):=by rw[Int.fmod_eq_emod_of_nonneg _ (by omega)];rfl
  have ih:=uG n (bn+1) (one % (bn+1)) (by have:=Nat.mod_lt one (show bn+1>0 by omega);omega);rw[Fr.euc] at ih;rw[e2] at e1;have bb:cS.G [.sh (.int (one:Nat)),.sh (.int ((bn+1:Nat):Int))]=.nx [.sh (.int ((bn+1:Nat):Int)),.sh (.int ((one % (bn+1):Nat):Int))]:=by unfold cS;simp![e1]
  simp![e,bb,ih]
def cT(a b:Int):bH.G [.int a,.int b]=.ok (.val (.int (Int.gcd a b:Nat))) []:=by
 unfold bH;rw[aA];unfold gJ
 have:=uG b.natAbs a.natAbs b.natAbs (p_ _)
 simp![gH,this];rfl
def eT{a b:Int}(hb:b≠0)(hs:Sm 8000 b):cm.G [.int a,.int b]=.ok (.val (fV ((a:Rat)/(b:Rat)))) []:=by
 unfold cm;rw[aA];unfold mP;have e:(b==0)=false:=by rw[E_];exact hb
 have c:∀x,CDivB x (Fr.dv a b):=λx=>CDivB.of (Fr.dv_ne hb) (hs.of_le (by rw[Fr.dv_abs];exact Nat.le_of_dvd (by omega) (Nat.gcd_dvd_right a.natAbs b.natAbs)));have k1:=kK (c a);have k2:=kK (c b);have hh:=nA (a:=a) hb;have i_:Val.tup [.int (a.fdiv (Fr.dv a b)),.int (b.fdiv (Fr.dv a b))]=fV ((a:Rat)/(b:Rat)):=by unfold fV;rw[<- hh.1,<- hh.2];rfl
 by_cases hn:b<0
 .have hd:Fr.dv a b=-((Int.gcd a b:Nat):Int):=by unfold Fr.dv;rw[if_pos hn]
  rw[hd] at k1 k2 i_;simp![e,cT,G_ hn,k1,k2,i_]
 .have hd:Fr.dv a b=((Int.gcd a b:Nat):Int):=by unfold Fr.dv;rw[if_neg hn]
  rw[hd] at k1 k2 i_;simp![e,cT,B_ hn,k1,k2,i_]
def CD{p q:Rat}{n m:Nat}(hp:Sz n p)(hq:Sz m q)(h:n+m<=8000):i5.G [fV p,fV q]=.ok (.val (fV (p+q))) []:=by have c1:=cD (CMulA.of hp.top hq.bot (by omega) (by omega));have c2:=cD (CMulA.of hq.top hp.bot (by omega) (by omega));have c3:=cD (CMulA.of hp.bot hq.bot (by omega) (by omega));have fe:=eT (a:=p.num*q.den+q.num*p.den) (b:=p.den*q.den) (Si (cH p) (cH q)) ((hp.bot.mul hq.bot).mono h);rw[<- Hr] at fe;unfold i5;rw[aA];unfold vN;rw[show fV p=.tup [.int p.num,.int p.den] from rfl,show fV q=.tup [.int q.num,.int q.den] from rfl];simp![c1,c2,c3,fe]
def rY{p q:Rat}{n m:Nat}(hp:Sz n p)(hq:Sz m q)(h:n+m<=8000):gD.G [fV p,fV q]=.ok (.val (fV (p*q))) []:=by have c1:=cD (CMulA.of hp.top hq.top (by omega) (by omega));have c2:=cD (CMulA.of hp.bot hq.bot (by omega) (by omega));have fe:=eT (a:=p.num*q.num) (b:=p.den*q.den) (Si (cH p) (cH q)) ((hp.bot.mul hq.bot).mono h);rw[<- wM] at fe;unfold gD;rw[aA];unfold vA;rw[show fV p=.tup [.int p.num,.int p.den] from rfl,show fV q=.tup [.int q.num,.int q.den] from rfl];simp![c1,c2,fe]
def jv{p q:Rat}{n m:Nat}(hp:Sz n p)(hq:Sz m q)(h1:n<=100000)(h2:m<=100000):dY.G [fV p,fV q]=.ok (.val (.bl (decide (p<q)))) []:=by have c1:=cD (CMulA.of hp.top hq.bot h1 h2);have c2:=cD (CMulA.of hq.top hp.bot h2 h1);unfold dY;rw[aA];unfold pw;rw[show fV p=.tup [.int p.num,.int p.den] from rfl,show fV q=.tup [.int q.num,.int q.den] from rfl];simp![c1,c2];rw[show decide (p.num*(q.den:Int)<q.num*(p.den:Int))=decide (p<q) from Tc.mpr (JW p q).symm]
def kz{v:Val}(hk:knV v=true):(bC cA).G [v,.ty "tuple"]=.val (.bl (fC v)):=by cases v <;> first |rfl |cases hk
def iL{v:Val}(hk:knV v=true):bK.G [v]=.ok (.val (.bl (jm v))) []:=by unfold bK;rw[aA];unfold jf;cases v <;> first |rfl |cases hk
def ue(v:Val):fC v=false\/∃xs,v=.tup xs:=by cases v <;> first |exact .inr ⟨_,rfl⟩ |exact .inl rfl
def lZ(v:Val):jm v=false\/∃i,v=.int i:=by cases v <;> first |exact .inr ⟨_,rfl⟩ |exact .inl rfl
def NJ{v:Val}(h:fC v=false):aO v=false:=by cases v <;> first |rfl |cases h
def OB{v:Val}(h:fC v=false):f9 v=false:=by cases v <;> first |rfl |cases h
def Ja{a b:Val}(h:jm a=false):aO (.tup [a,b])=false:=by cases a <;> first |rfl |cases h
def LQ{i:Int}{b:Val}(h:jm b=false):aO (.tup [.int i,b])=false:=by cases b <;> first |rfl |cases h
def OY{xs:List Val}(hl:xs.length≠2):aO (.tup xs)=false:=by
 unfold aO;split
 .rename_i e;injection e with e;subst e;exact absurd rfl hl
 .rfl
def Og{xs:List Val}(hl:xs.length≠4):f9 (.tup xs)=false:=by
 unfold f9;split
 .rename_i e;injection e with e;subst e;exact absurd rfl hl
 .rfl
def FH{k:Nat}{v:Val}(ha:iA k v=true)(h:fC v=false):knV v=true:=by
 cases v with
 |tup xs=>cases h
 |_=>cases k <;> exact ha
def o7{v:Val}(ha:iA 1 v=true):cF.G [v]=.ok (.val (.bl (aO v))) []:=by
 unfold cF;rw[aA];unfold jR;rcases ue v with ht |⟨xs,rfl⟩
 .have it:=kz (FH ha ht);rw[ht] at it;simp![it,NJ ht]
 have it:=kz (v:=.tup xs) rfl;by_cases hl:xs.length=2
 .match xs,hl,ha with
  |
   [a,b],_,ha=>
   have ha':(knV a&&(knV b&&true))=true:=by simpa [iA] using ha
   simp only[u_] at ha';have w1:=iL ha'.1;have w2:=iL ha'.2.1;rcases lZ a with h1 |⟨i,rfl⟩
   .rw[h1] at w1;simp![it,fC,w1,Ja h1]
   rcases lZ b with h2 |⟨j,rfl⟩
   .rw[h2] at w2;simp![it,fC,w1,jm,w2,LQ h2]
   have f:aO (.tup [.int i,.int j])=(decide (1<=j)&&decide (Int.gcd i j=1)):=rfl;have g:((((Int.gcd i j:Nat):Int)==1):Bool)=decide (Int.gcd i j=1):=by rw[Bool.eq_iff_iff,QP,Ss];omega
   by_cases hj:1<=j
   .simp![it,fC,w1,w2,jm,cT,G_ hj,f,g]
   .simp![it,fC,w1,w2,jm,cT,B_ hj,f,g]
 .have e:(((xs.length:Nat):Int)==2)=false:=by rw[E_];omega
  simp![it,fC,e,OY hl]
def o9{v:Val}(ha:iA 2 v=true):gO.G [v]=.ok (.val (.bl (f9 v))) []:=by
 unfold gO;rw[aA];unfold tQ;rcases ue v with ht |⟨xs,rfl⟩
 .have it:=kz (FH ha ht);rw[ht] at it;simp![it,OB ht]
 have it:=kz (v:=.tup xs) rfl;by_cases hl:xs.length=4
 .match
   xs,hl,ha with
  |
   [a,b,c,d],_,ha=>
   have e1:f9 (.tup [a,b,c,d])=(aO a&&(aO b&&(aO c&&(aO d&&(jl c&&jl d))))):=rfl;have bl4:∀x y z w:Bool,j4 [.bl x,.bl y,.bl z,.bl w]=some [x,y,z,w]:=λ_ _ _ _=>rfl;obtain⟨e',⟨s',rfl,_⟩,lc⟩:=oG (g:=(gtN 0).G) (F:=(ai cF (aa (af 0) ag)).G) (f:=λv=>.bl (aO v)) (λe=>∃s,e=[s]/\s.pl=true) [a,b,c,d] [] [.no] ⟨.no,rfl,rfl⟩ (by
    rintro v hv e ⟨s,rfl,hs⟩;have hv':iA 1 v=true:=QI.mp (by simpa [iA] using ha) v hv;refine⟨[.sh v],.val (.bl (aO v)),[.sh v],?_,?_,rfl,⟨_,rfl,rfl⟩⟩
    .simp![hs]
    .simp![o7 hv']) (by simp)
   have cy:cY=qY.G:=rfl;rw[cy,QZ] at lc;simp only[t_,QQ] at lc;cases hA:(aO a&&(aO b&&(aO c&&aO d))) with
   |
    true=>
    simp only[u_] at hA;obtain⟨p,rfl⟩:=zT hA.2.2.1;obtain⟨q,rfl⟩:=zT hA.2.2.2;rw[hA.1,hA.2.1,hA.2.2.1,hA.2.2.2] at e1 lc;have e2:f9 (.tup [a,b,fV p,fV q])=(decide (0<p.num)&&decide (0<q.num)):=by rw[e1];rfl
    rw[e2];have i1:(fV p).items=some [.int p.num,.int p.den]:=rfl;have i2:(fV q).items=some [.int q.num,.int q.den]:=rfl;by_cases hp:0<p.num
    .simp![it,fC,lc,b0,bl4,id,i1,i2,G_ hp]
    .simp![it,fC,lc,b0,bl4,id,i1,B_ hp]
   |
    false=>
    have e2:f9 (.tup [a,b,c,d])=false:=by rw[e1];revert hA;generalize aO a=a',aO b=b',aO c=c',aO d=d',(jl c&&jl d)=z;revert a' b' c' d' z;decide
    rw[e2];simp![it,fC,lc,b0,bl4,id,hA]
 .have e:(((xs.length:Nat):Int)==4)=false:=by rw[E_];omega
  simp![it,fC,e,Og hl]
def uH{v:Val}(ha:iA 2 v=true):aH.G [v]=if f9 v=true then .ok (.val .non) [] else .exc "NoBox" []:=by
 unfold aH;rw[aA];unfold lC;cases h:f9 v with
 |true=>simp![o9 ha,h]
 |false=>simp![o9 ha,h]
def br{b:Bx}(hb:b.Ok):aH.G [bV b]=.ok (.val .non) []:=by rw[uH (JV b),EJ hb];rfl
def OG{v:Val}(h:jm v=false):hX v=false:=by cases v <;> first |rfl |cases h
def CG(v:Val):dZ v=false\/∃xs,v=.lst xs:=by cases v <;> first |exact .inr ⟨_,rfl⟩ |exact .inl rfl
def uz{v:Val}(hk:knV v=true):dN.G [v]=.ok (.val (.bl (hX v))) []:=by
 have w:=iL hk;unfold dN;rw[aA];unfold lu;rcases lZ v with h |⟨i,rfl⟩
 .rw[h] at w;simp![w,OG h]
 .simp![w,jm];rfl
def vX{v:Val}(hk:knV v=true):(bC cA).G [v,.ty "list"]=.val (.bl (dZ v)):=by cases v <;> first |rfl |cases hk
noncomputable def yg(v:Val):R3F:=match v with
 |.lst xs=>if xs=[] then .exc "NoWeights" [] else if xs.all hX=true then (if xs.length<=40 then .ok (.val .non) [] else .exc "TooMany" []) else .exc "NoWeights" []
 |_=>.exc "NoWeights" []
def J4{v:Val}(h:dZ v=false):yg v=.exc "NoWeights" []:=by cases v <;> first |rfl |cases h
noncomputable def sY:Val->Bool
 |.lst xs=>decide (xs.length<=1000)&&xs.all knV
 |v=>knV v
def FK{v:Val}(h:sY v=true)(hl:dZ v=false):knV v=true:=by cases v <;> first |(cases hl;done) |exact h
theorem jJ(f:Val->Bool):∀xs:List Val,j4 (xs.map λv=>.bl (f v))=some (xs.map f)
 | []=>rfl
 |x::xs=>by show (j4 (xs.map λv=>.bl (f v))).map (f x :: ·)=_;rw[jJ f xs];rfl
def jk(f:Val->Bool)(xs:List Val):(xs.map f).all id=xs.all f:=by rw[List.all_map];rfl
def lX{v:Val}(ha:sY v=true):aE.G [v]=yg v:=by
 unfold aE;rw[aA];unfold iq;rcases CG v with hv |⟨xs,rfl⟩
 .have il:=vX (FK ha hv);rw[hv] at il;rw[J4 hv];simp![il]
 .have ha':xs.length<=1000/\xs.all knV=true:=by simpa [sY] using ha
  have il:=vX (v:=.lst xs) rfl;unfold yg;dsimp only;by_cases h0:xs=[]
  .subst h0;simp![il]
  .have e0:(((xs.length:Nat):Int)==0)=false:=by rw[E_];intro z;exact h0 (List.length_eq_zero_iff.mp (by omega))
   rw[if_neg h0];obtain⟨e',p',lc⟩:=oG (g:=(gtN 0).G) (F:=(ai dN (aa (af 0) ag)).G) (f:=λv=>.bl (hX v)) (λe=>∃s,e=[s]/\s.pl=true) xs [] [.no] ⟨.no,rfl,rfl⟩ (by
    rintro v hv e ⟨s,rfl,hs⟩;refine⟨[.sh v],.val (.bl (hX v)),[.sh v],?_,?_,rfl,⟨_,rfl,rfl⟩⟩
    .simp![hs]
    .simp![uz (QI.mp ha'.2 v hv)]) (by simp;omega)
   obtain⟨s',rfl,_⟩:=p';have cy:cY=qY.G:=rfl;rw[cy,QZ] at lc;have bi:(xs.map λv=>Val.bl (hX v)).length<=16777216:=by rw[m_];omega
   by_cases hw:xs.all hX=true
   .rw[if_pos hw];by_cases h40:xs.length<=40
    .have hd:decide ((40:Int)<((xs.length:Nat):Int))=false:=B_ (by omega);rw[if_pos h40];simp![il,e0,b0,lc,bi,jJ,jk,hw,hd]
    .have hd:decide ((40:Int)<((xs.length:Nat):Int))=true:=G_ (by omega);rw[if_neg h40];simp![il,e0,b0,lc,bi,jJ,jk,hw,hd]
   .have hw':xs.all hX=false:=Bool.eq_false_iff.mpr hw;rw[if_neg hw];simp![il,e0,b0,lc,bi,jJ,jk,hw']
def gY{ws:List Int}(h0:ws≠[])(h1:∀w∈ws,1<=w)(h2:ws.length<=40):aE.G [.lst (ws.map .int)]=.ok (.val .non) []:=by
 have ha:sY (.lst (ws.map .int))=true:=by simp only[sY,u_,Ss,m_];exact⟨by omega,by rw[QI];intro v hv;obtain⟨w,_,rfl⟩:=QX.mp hv;rfl⟩
 rw[lX ha];unfold yg;dsimp only;rw[if_neg (by intro z;exact h0 (List.map_eq_nil_iff.mp z)),if_pos (by rw[QI];intro v hv;obtain⟨w,hw,rfl⟩:=QX.mp hv;exact G_ (h1 w hw)),if_pos (by rw[m_];exact h2)]
def uI:bz (.str "down") (.str "across")=some false:=by rw[L3.eq_str (by decide) (by decide)];exact QW some (by decide)
def sM:bz (.str "across") (.str "across")=some true:=by rw[L3.eq_str (by decide) (by decide)];exact QW some (by decide)
noncomputable def prV(p:Rat×Rat):Val:=.tup [fV p.1,fV p.2]
theorem vv{s l:Rat}{n m:Nat}{W:Int}{wv:Val}(hs:Sz n s)(hl:Sz n l)(hW:0<W)(mW:Sm m W)(h:n+n+m<=8000):∀(ws:List Int) (a:Int) (acc:List (Rat×Rat)) (s6 s7:Sl),s6.pl=true->s7.pl=true->0<=a->(∀w∈ws,0<=w)->a+ws.sum<=W->acc.length+ws.length<=16777216->∃s6' s7',fJ (gtN 6).G ig.G (ws.map .int) [.sh (fV s),.sh (fV l),.sh wv,.sh (.int W),.sh (.int a),.ow (.lst (acc.map prV)),s6,s7]=.nx [.sh (fV s),.sh (fV l),.sh wv,.sh (.int W),.sh (.int (a+ws.sum)),.ow (.lst ((acc++shL s l W a ws).map prV)),s6',s7']
 | [],a,acc,s6,s7,h6,h7,ha,hw,hsum,bi=>⟨s6,s7,by rw[QQ,gF,List.sum_nil,Int.add_zero];unfold shL;rw[QU]⟩
 |
  w::ws,a,acc,s6,s7,h6,h7,ha,hw,hsum,bi=>by
  have hw0:=hw w (r_ ..);have hws:0<=ws.sum:=by
   have:∀l:List Int,(∀w∈l,0<=w)->0<=l.sum:=by
    intro l;induction l with
    |nil=>intro _;simp
    |cons x l ih=>intro hx;rw[QS];have:=hx x (r_ ..);have:=ih λw hw=>hx w (n_ _ hw);omega
   exact this ws λx hx=>hw x (n_ _ hx)
  rw[QS] at hsum;rw[C_] at bi;have sa:Sm m a:=mW.of_le (by omega);have sw:Sm m w:=mW.of_le (by omega);have f1:=eT (a:=a) (b:=W) (by omega) (mW.mono (by omega));have f2:=eT (a:=w) (b:=W) (by omega) (mW.mono (by omega));have z1:Sz m ((a:Rat)/(W:Rat)):=Sz.div (by omega) sa mW m (p_ _) (p_ _);have z2:Sz m ((w:Rat)/(W:Rat)):=Sz.div (by omega) sw mW m (p_ _) (p_ _);have t1:=rY hl z1 (by omega);have t2:=rY hl z2 (by omega);have ad:=CD hs (hl.mul z1) (by omega);have ll:(acc.map prV).length<16777216:=by rw[m_];omega
  obtain⟨t6,t7,ih⟩:=vv (wv:=wv) hs hl hW mW h ws (a+w) (acc++[(s+l*((a:Rat)/(W:Rat)),l*((w:Rat)/(W:Rat)))]) (.sh (.int w)) (.sh (fV (s+l*((a:Rat)/(W:Rat))))) rfl rfl (by omega) (λx hx=>hw x (n_ _ hx)) (by omega) (by simp;omega);refine⟨t6,t7,?_⟩;have g1:(gtN 6).G (.int w) [.sh (fV s),.sh (fV l),.sh wv,.sh (.int W),.sh (.int a),.ow (.lst (acc.map prV)),s6,s7]=some [.sh (fV s),.sh (fV l),.sh wv,.sh (.int W),.sh (.int a),.ow (.lst (acc.map prV)),.sh (.int w),s7]:=by simp![h6]
  have b1:ig.G [.sh (fV s),.sh (fV l),.sh wv,.sh (.int W),.sh (.int a),.ow (.lst (acc.map prV)),.sh (.int w),s7]=.nx [.sh (fV s),.sh (fV l),.sh wv,.sh (.int W),.sh (.int (a+w)),.ow (.lst ((acc++[(s+l*((a:Rat)/(W:Rat)),l*((w:Rat)/(W:Rat)))]).map prV)),.sh (.int w),.sh (fV (s+l*((a:Rat)/(W:Rat))))]:=by unfold ig;rw[QV];simp![h7,f1,f2,t1,t2,ad,ll,prV]
  rw[t_,fb,g1];simp only[b1,yD];rw[ih,QS];rw[show shL s l W a (w::ws)=(s+l*((a:Rat)/(W:Rat)),l*((w:Rat)/(W:Rat)))::shL s l W (a+w) ws from rfl,List.append_assoc,show a+w+ws.sum=a+(w+ws.sum) by omega];rfl
def pR{s l:Rat}{n m:Nat}{ws:List Int}(hs:Sz n s)(hl:Sz n l)(hw:∀w∈ws,0<=w)(h0:0<ws.sum)(mW:Sm m ws.sum)(h:n+n+m<=8000)(bi:ws.length<=1000):fI.G [fV s,fV l,.lst (ws.map .int)]=.ok (.new (.lst ((shL s l ws.sum 0 ws).map prV))) []:=by obtain⟨s6,s7,lo⟩:=vv (wv:=.lst (ws.map .int)) hs hl h0 mW h ws 0 [] .no .no rfl rfl (by omega) hw (by omega) (by simp;omega);rw[QZ,QQ] at lo;unfold fI;rw[aA];unfold rJ;simp![lo]
def Nl{way:Str}(hw:way="across" \/ way="down"):eR.G [.str way]=.ok (.val .non) []:=by
 have i1:∀x:Str,(bC cA).G [.str x,.ty "str"]=.val (.bl true):=λ_=>rfl;have i2:bIn.G (.str way) (.tup [.str "across",.str "down"])=.val (.bl true):=by rcases hw with rfl |rfl <;> rfl
 have e1:dS.G [.str way]=.ok (.val (.bl true)) []:=by unfold dS;rw[aA];unfold lQ;simp![i1,i2]
 unfold eR;rw[aA];unfold lG;simp![e1]
def jW{b:Bx}{n m:Nat}{way:Str}{ws:List Int}(hb:b.Ok)(hs:b.Sz n)(hway:way="across" \/ way="down")(h0:ws≠[])(hw:∀w∈ws,1<=w)(mW:Sm m ws.sum)(h:n+n+m<=8000)(bi:ws.length<=40):dX.G [bV b,.str way,.lst (ws.map .int)]=.ok (.new (.lst ((ay b way ws).map bV))) []:=by
 have cw:=gY h0 hw bi;have cy:=Nl hway;have sp:0<ws.sum:=by
  cases ws with
  |nil=>exact absurd rfl h0
  |
   cons x l=>
   rw[QS]
   have:=hw x (r_ ..)
   have:∀l:List Int,(∀w∈l,1<=w)->0<=l.sum:=by
    intro l;induction l with
    |nil=>intro _;simp
    |cons x l ih=>intro hx;rw[QS];have:=hx x (r_ ..);have:=ih λw hw=>hx w (n_ _ hw);omega
   have:=this l λx hx=>hw x (n_ _ hx)
   omega
 have cb:aH.G [.tup [fV b.l,fV b.t,fV b.w,fV b.h]]=.ok (.val .non) []:=br hb;have sh1:=pR hs.l hs.w (λw z=>by have:=hw w z;omega) sp mW h (by omega);have sh2:=pR hs.t hs.h (λw z=>by have:=hw w z;omega) sp mW h (by omega);show dX.G [.tup [fV b.l,fV b.t,fV b.w,fV b.h],.str way,.lst (ws.map .int)]=_;unfold dX ay;rw[aA];unfold sR;rcases hway with rfl |rfl
 .rw[if_pos (rfl:("across" : Str)="across")];have ln:=i8 b.l b.w ws.sum ws 0;obtain⟨e',⟨s,t,rfl,_,_⟩,lc⟩:=dk (g:=(gtT 2 (ba (gtN 0) (ba (gtN 1) eV))).G) (F:=(bI (aa (af 0) (aa (af 2) (aa (af 1) (aa (af 3) ag))))).G) prV (λp=>bV ⟨p.1,b.t,p.2,b.h⟩) (λe=>∃s t,e=[s,t,.sh (fV b.t),.sh (fV b.h)]/\s.pl=true/\t.pl=true) (shL b.l b.w ws.sum 0 ws) [] [.no,.no,.sh (fV b.t),.sh (fV b.h)] ⟨.no,.no,rfl,rfl,rfl⟩ (by
   rintro p hp e ⟨s,t,rfl,hs,ht⟩;refine⟨[.sh (fV p.1),.sh (fV p.2),.sh (fV b.t),.sh (fV b.h)],.val (bV ⟨p.1,b.t,p.2,b.h⟩),[.sh (fV p.1),.sh (fV p.2),.sh (fV b.t),.sh (fV b.h)],?_,?_,rfl,⟨_,_,rfl,rfl,rfl⟩⟩
   .simp![prV,hs,ht]
   .simp![bV]) (by rw[ln,QO];omega)
  rw[QZ] at lc;have ll:((shL b.l b.w ws.sum 0 ws).map λp=>bV ⟨p.1,b.t,p.2,b.h⟩).length<=16777216:=by rw[m_,ln];omega
  rw[Q9,show (bV ∘ λp:Rat×Rat=>(⟨p.1,b.t,p.2,b.h⟩:Bx))=λp=>bV ⟨p.1,b.t,p.2,b.h⟩ from rfl];simp![cb,cy,cw,sM,sh1,lc,ll]
 .have hne:¬ (("down" : Str)="across"):=by decide
  rw[if_neg hne];have ln:=i8 b.t b.h ws.sum ws 0;obtain⟨e',⟨s,t,rfl,_,_⟩,lc⟩:=dk (g:=(gtT 2 (ba (gtN 0) (ba (gtN 1) eV))).G) (F:=(bI (aa (af 2) (aa (af 0) (aa (af 3) (aa (af 1) ag))))).G) prV (λp=>bV ⟨b.l,p.1,b.w,p.2⟩) (λe=>∃s t,e=[s,t,.sh (fV b.l),.sh (fV b.w)]/\s.pl=true/\t.pl=true) (shL b.t b.h ws.sum 0 ws) [] [.no,.no,.sh (fV b.l),.sh (fV b.w)] ⟨.no,.no,rfl,rfl,rfl⟩ (by
   rintro p hp e ⟨s,t,rfl,hs,ht⟩;refine⟨[.sh (fV p.1),.sh (fV p.2),.sh (fV b.l),.sh (fV b.w)],.val (bV ⟨b.l,p.1,b.w,p.2⟩),[.sh (fV p.1),.sh (fV p.2),.sh (fV b.l),.sh (fV b.w)],?_,?_,rfl,⟨_,_,rfl,rfl,rfl⟩⟩
   .simp![prV,hs,ht]
   .simp![bV]) (by rw[ln,QO];omega)
  rw[QZ] at lc;have ll:((shL b.t b.h ws.sum 0 ws).map λp=>bV ⟨b.l,p.1,b.w,p.2⟩).length<=16777216:=by rw[m_,ln];omega
  rw[Q9,show (bV ∘ λp:Rat×Rat=>(⟨b.l,p.1,b.w,p.2⟩:Bx))=λp=>bV ⟨b.l,p.1,b.w,p.2⟩ from rfl];simp![cb,cy,cw,uI,sh2,lc,ll]
theorem iD{f:Nat->Val}(v:Val):∀(N:Nat) (st:List AT) (acc:List Nat) (s3:Sl),AT.cntL st<=N->s3.pl=true->(∀k∈AT.lvsL st,lfV (f k)=true)->acc.length+AT.cntL st<=100000->
 ∃(l:List Nat) (s3':Sl),l.Perm (AT.lvsL st)/\(xWh (qTr (af 2)) cx).G [.sh v,.ow (.lst (acc.map f)),.ow (.lst (st.map (AT.val f))),s3]=.nx [.sh v,.ow (.lst ((acc++l).map f)),.ow (.lst []),s3']
 |
  N,[],acc,s3,_,_,_,_=>⟨[],s3,.nil,by
  rw[gu,QU];simp![QQ,lM,List.isEmpty_nil]⟩
 |
  0,t::ts,acc,s3,h,_,_,_=>by
  rw[AT.cntL] at h;cases t <;> (rw[AT.cnt] at h;omega)
 |
  N+1,t0::ts0,acc,s3,hN,h3,hf,hl=>by
  obtain⟨st,t,hst⟩:∃st t,t0::ts0=st++[t]:=⟨(t0::ts0).dropLast,(t0::ts0).getLast (by simp),(List.dropLast_concat_getLast (by simp)).symm⟩;rw[hst] at hN hf hl ⊢;rw[AT.lvsL_app] at hf;rw[AT.lvsL_app];rw[AT.cntL_app] at hN hl;have hn0:((st++[t]).map (AT.val f)).isEmpty=false:=by cases st <;> rfl
  have c1:(qTr (af 2)).G [.sh v,.ow (.lst (acc.map f)),.ow (.lst ((st++[t]).map (AT.val f))),s3]=.ok true [.sh v,.ow (.lst (acc.map f)),.ow (.lst ((st++[t]).map (AT.val f))),s3]:=by simp![lM,hn0,Bool.not_false]
  rw[gu,c1];show ∃l s3',_/\((cx.G _).loop _)=_;rw[QV,t_,QQ];cases t with
  |
   lf k=>
   simp only[AT.lvsL,AT.lvs,QU,AT.cntL,AT.cnt] at hf hN hl ⊢;obtain⟨l,s3',q1,q2⟩:=iD (f:=f) v N st (acc++[k]) (.sh (f k)) (by omega) rfl (λj hj=>hf j (by simp [hj])) (by rw[D_];simp only[C_,QO];omega);refine⟨k::l,s3',((q1.cons k).trans (List.perm_append_comm (l₁:=[k]) (l₂:=AT.lvsL st))),?_⟩;have i1:(bC cA).G [f k,.ty "tuple"]=.val (.bl false):=by
    have:=hf k (by simp)
    generalize f k=a at *;cases a <;> first |rfl |(cases this;done)
   have al:(acc.map f).length<16777216:=by rw[m_];omega
   have bb:cx.G [.sh v,.ow (.lst (acc.map f)),.ow (.lst (st.map (AT.val f)++[AT.val f (.lf k)])),s3]=.nx [.sh v,.ow (.lst ((acc++[k]).map f)),.ow (.lst (st.map (AT.val f))),.sh (f k)]:=by unfold cx;rw[AT.val,QV,t_,QQ];generalize f k=a at *;simp![nO,h3,i1,al]
   rw[bb,show acc++k::l=acc++[k]++l by simp];exact q2
  |
   nd w ts=>
   simp only[AT.lvsL,AT.lvs,QU,AT.cntL,AT.cnt] at hf hN hl ⊢;obtain⟨l,s3',q1,q2⟩:=iD (f:=f) v N (st++ts) acc (.sh (AT.val f (.nd w ts))) (by rw[AT.cntL_app];omega) rfl (by rw[AT.lvsL_app];exact hf) (by rw[AT.cntL_app];omega);rw[AT.lvsL_app] at q1;refine⟨l,s3',q1,?_⟩;have i1:∀xs:List Val,(bC cA).G [.tup xs,.ty "tuple"]=.val (.bl true):=λ_=>rfl;have le:∀l:List AT,l.length<=AT.cntL l:=by
    intro l;induction l with
    |nil=>exact p_ _
    |cons t l ih=>rw[AT.cntL,C_];cases t <;> (rw[AT.cnt];omega)
   have ll:(st.map (AT.val f)).length+(ts.map (AT.val f)).length<=16777216:=by
    have:=le st
    have:=le ts
    rw[m_,m_];omega
   rw[AT.val,AT.vals_map] at q2 ⊢;rw[QV] at q2;have bb:cx.G [.sh v,.ow (.lst (acc.map f)),.ow (.lst (st.map (AT.val f)++[.tup [.str (wy w),.tup (ts.map (AT.val f))]])),s3]=.nx [.sh v,.ow (.lst (acc.map f)),.ow (.lst (st.map (AT.val f)++ts.map (AT.val f))),.sh (.tup [.str (wy w),.tup (ts.map (AT.val f))])]:=by unfold cx;simp![nO,h3,i1,yM,pI,ll]
   rw[bb];exact q2
def zW{f:Nat->Val}{t:AT}(hf:∀k∈t.lvs,lfV (f k)=true)(hc:t.cnt<=100000):∃l:List Nat,l.Perm t.lvs/\dJ.G [t.val f]=.ok (.new (.lst (l.map f))) []:=by
 have e1:AT.lvsL [t]=t.lvs:=by simp [AT.lvsL]
 have e2:AT.cntL [t]=t.cnt:=by simp [AT.cntL]
 obtain⟨l,s3',q1,q2⟩:=iD (f:=f) (t.val f) (AT.cntL [t]) [t] [] .no (p_ _) rfl (by rw[e1];exact hf) (by rw[e2,QO];omega);rw[e1] at q1;refine⟨l,q1,?_⟩;rw[t_,QQ,QQ,QZ] at q2;unfold dJ;rw[aA];unfold lI;generalize t.val f=tv at *;simp![q2]
def uM{ws:List Int}{l:List Nat}(hl:l.length<=1000)(hi:∀k∈l,k<ws.length):∃s,lcV (gtN 0).G qY.G (pOp bIx (af 1) (af 0)).G (l.map λk:Nat=>.int k) [] [.no,.sh (liV ws)]=.ok ((l.map λk=>ws.getD k 0).map .int) [s,.sh (liV ws)]:=by
 obtain⟨e',⟨s,rfl,_⟩,lc⟩:=dk (g:=(gtN 0).G) (F:=(pOp bIx (af 1) (af 0)).G) (λk:Nat=>Val.int k) (λk:Nat=>Val.int (ws.getD k 0)) (λe=>∃s:Sl,e=[s,.sh (liV ws)]/\s.pl=true) l [] [.no,.sh (liV ws)] ⟨.no,rfl,rfl⟩ (by
  rintro k hk _ ⟨s,rfl,hs⟩;have h1:=hi k hk;have a1:atI (ws.map Val.int) (k:Nat)=some (.int (ws.getD k 0)):=eU (by omega) (by rw[O_];show (ws[k]?).map _=_;rw[K_,w_ h1];rfl);refine⟨[.sh (.int (k:Nat)),.sh (liV ws)],.val (.int (ws.getD k 0)),[.sh (.int (k:Nat)),.sh (liV ws)],?_,?_,rfl,_,rfl,rfl⟩
  .simp![hs]
  .unfold liV;simp![a1]) (by rw[QO];omega)
 exact⟨s,by rw[Q9];exact lc⟩
def vk{ws:List Int}{b:Bx}{w:Bool}{ts:List AT}{n m:Nat}(h:AT.lay ws n m (.nd w ts) b)(hnm:n+n+m<=8000)(hi:∀k∈AT.lvsL ts,k<ws.length)(hl:(AT.lvsL ts).length<=1000)(hc:AT.cntL ts<=100000):fo.G [bV b,liV ws,atV (.nd w ts)]=.ok (.new (.lst ((ay b (wy w) (ts.map (wtT ws))).map bV))) []:=by
 rw[AT.lay] at h;obtain⟨h1,h2,h3,h4,h5,h6,_⟩:=h;have ew:wy w="across" \/ wy w="down":=by cases w;exact .inr rfl;exact .inl rfl
 have pe:=jW h1 h2 ew (ws:=ts.map (wtT ws)) (by simpa using h3) (λx hx=>by obtain⟨t,ht,rfl⟩:=QX.mp hx;exact h5 t ht) h6 hnm (by rw[m_];exact h4);have cle:∀t∈ts,t.cnt<=AT.cntL ts:=λt ht=>AT.cnt_le ht;have lle:∀t∈ts,t.lvs.length<=(AT.lvsL ts).length:=λt ht=>AT.lvs_le ht;obtain⟨e',⟨s,rfl,_⟩,lc⟩:=dk (g:=(gtN 0).G) (F:=(pFn cJ (aa (pLC (b9 (ai dJ (aa (af 0) ag))) [none,some 1] (by decide) (gtN 0) qY (pOp bIx (af 1) (af 0))) ag)).G) atV (λt=>Val.int (wtT ws t)) (λe=>∃s:Sl,e=[s,.sh (liV ws)]/\s.pl=true) ts [] [.no,.sh (liV ws)] ⟨.no,rfl,rfl⟩ (by
  rintro t ht _ ⟨s,rfl,hs⟩;obtain⟨l,lp,e1⟩:=zW (f:=λk=>.int (k:Nat)) (t:=t) (λ_ _=>rfl) (by have:=cle t ht;omega);rw[show AT.val (λk=>Val.int (k:Nat)) t=atV t from rfl] at e1;obtain⟨s',lc⟩:=uM (ws:=ws) (l:=l) (by rw[lp.length_eq];have:=lle t ht;omega) (λk hk=>hi k (AT.lvsL_mem.mpr ⟨t,ht,lp.mem_iff.mp hk⟩));have ll:((l.map λk=>ws.getD k 0).map Val.int).length<=16777216:=by rw[m_,m_,lp.length_eq];have:=lle t ht;omega
  have sm:(l.map λk=>ws.getD k 0).sum=wtT ws t:=BW lp;refine⟨[.sh (atV t),.sh (liV ws)],.val (.int (wtT ws t)),[.sh (atV t),.sh (liV ws)],?_,?_,rfl,_,rfl,rfl⟩
  .generalize atV t=tv at *;simp![hs]
  .rw[<- sm];generalize atV t=tv at *;generalize liV ws=wv at *;generalize (l.map λk:Nat=>Val.int (k:Nat))=LV at *;simp![e1,b0,inS,lc,ll]) (by rw[QO];omega)
 have av:atV (.nd w ts)=.tup [.str (wy w),.tup (ts.map atV)]:=by unfold atV;rw[AT.val,AT.vals_map]
 have lm:ts.map (λt=>Val.int (wtT ws t))=(ts.map (wtT ws)).map .int:=by rw[Q9];rfl
 have l2:((ts.map (wtT ws)).map Val.int).length<=16777216:=by rw[m_,m_];omega
 rw[QZ,lm] at lc;rw[av];generalize (ay b (wy w) (ts.map (wtT ws))).map bV=PB at *;generalize (ts.map (wtT ws)).map Val.int=SV at *;generalize ts.map atV=TV at *;generalize liV ws=wv at *;generalize bV b=bv at *;unfold fo;rw[aA];unfold nG;simp![b0,inS,lc,l2,pe]
theorem mT{ws:List Int}{n m k:Nat}(rv tv:Val):∀(ts:List AT) (bs:List Bx) (kvs:List (Key×Val)) (s4 s5:Sl),s4.pl=true->s5.pl=true->ts.length=bs.length->(∀(t:AT) (b:Bx) (kvs:List (Key×Val)),t∈ts->AT.lay ws n m t b->kvs.length+t.lvs.length<=100000->(dD k).G [bV b,liV ws,atV t,.dct kvs]=.ok (.val .non) [.dct (cM kvs (AT.bx ws t b))])->AT.layL ws n m ts bs->kvs.length+(AT.lvsL ts).length<=100000->
 ∃s4' s5',fJ (gtX (gtT 2 (ba (gtN 4) (ba (gtN 5) eV)))).G (jE (dD k)).G (List.zipWith (λx y=>Val.tup [x,y]) (ts.map atV) (bs.map bV)) [.sh rv,.sh (liV ws),.sh tv,.mu (.dct kvs),s4,s5]=.nx [.sh rv,.sh (liV ws),.sh tv,.mu (.dct (cM kvs (AT.bxL ws ts bs))),s4',s5']
 | [],bs,kvs,s4,s5,_,_,_,_,_,_=>⟨s4,s5,by cases bs <;> rfl⟩
 |t::ts,[],kvs,s4,s5,_,_,h,_,_,_=>nomatch h
 |
  t::ts,b::bs,kvs,s4,s5,h4,h5,hl,hp,hy,hk=>by
  rw[AT.layL] at hy;rw[AT.lvsL,D_] at hk;have e1:=hp t b kvs (r_ ..) hy.1 (by omega);have bi:=rW (AT.bx ws t b) kvs;have hfst:=(AT.bx_fst ws t b).1;obtain⟨s4',s5',q⟩:=mT rv tv ts bs (cM kvs (AT.bx ws t b)) (.sh (atV t)) (.sh (bV b)) rfl rfl (by simpa using hl) (λu c kv hu=>hp u c kv (n_ _ hu)) hy.2 (by omega);refine⟨s4',s5',?_⟩;rw[AT.bxL,B6,t_,t_,List.zipWith_cons_cons,fb];generalize cM kvs (AT.bx ws t b)=kvs1 at *;generalize atV t=av at *;generalize bV b=bv at *;generalize liV ws=wv at *;have g1:(gtX (gtT 2 (ba (gtN 4) (ba (gtN 5) eV)))).G (.tup [av,bv]) [.sh rv,.sh wv,.sh tv,.mu (.dct kvs),s4,s5]=some [.sh rv,.sh wv,.sh tv,.mu (.dct kvs),.sh av,.sh bv]:=by simp![h4,h5]
  have b1:(jE (dD k)).G [.sh rv,.sh wv,.sh tv,.mu (.dct kvs),.sh av,.sh bv]=.nx [.sh rv,.sh wv,.sh tv,.mu (.dct kvs1),.sh av,.sh bv]:=by unfold jE;simp![e1]
  rw[g1];dsimp only;rw[b1];exact q
def xB(b:Bx)(way:Str)(ws:List Int):(ay b way ws).length=ws.length:=by unfold ay;split <;> rw[m_,i8]
def C2{ws:List Int}{n m:Nat}(hnm:n+n+m<=8000)(t:AT):∀(k:Nat) (b:Bx) (kvs:List (Key×Val)),t.dep<=k->AT.lay ws n m t b->(∀i∈t.lvs,i<ws.length)->t.lvs.length<=1000->t.cnt<=100000->kvs.length+t.lvs.length<=100000->(dD k).G [bV b,liV ws,atV t,.dct kvs]=.ok (.val .non) [.dct (cM kvs (AT.bx ws t b))]:=by
 induction t using AT.ind with
 |
  h1 x=>
  intro k b kvs hd _ _ _ _ hk;cases k with
  |zero=>simp [AT.dep] at hd
  |
   succ k=>
   have i1:(bC cA).G [.int (x:Nat),.ty "tuple"]=.val (.bl false):=rfl;have kl:kvs.length<16777216:=by omega
   have av:atV (.lf x)=.int (x:Nat):=rfl;have pe:cM kvs (AT.bx ws (.lf x) b)=cV kvs (.inl (x:Nat)) (bV b):=by rw[AT.bx];rfl
   show (PFx.of [false,false,false,true] 6 (gG (dD k))).G [bV b,liV ws,atV (.lf x),.dct kvs]=_;rw[kT,av,pe];unfold gG;generalize bV b=bv at *;generalize liV ws=wv at *;simp![i1,II,kl]
 |
  h2 w ts ih=>
  intro k b kvs hd hy hi hl hc hk;cases k with
  |zero=>simp [AT.dep] at hd
  |
   succ k=>
   rw[AT.dep] at hd;rw[AT.lvs] at hi hl hk;rw[AT.cnt] at hc;have hd':=AT.depL_le.mp (show AT.depL ts<=k by omega);have pe:=vk hy hnm hi hl (by omega);have hy':=hy;rw[AT.lay] at hy';obtain⟨s4,s5,lo⟩:=mT (ws:=ws) (n:=n) (m:=m) (k:=k) (bV b) (atV (.nd w ts)) ts (ay b (wy w) (ts.map (wtT ws))) kvs .no .no rfl rfl (by rw[xB,m_]) (λt c kv ht hy2 hk2=>ih t ht k c kv (hd' t ht) hy2 (λi hi2=>hi i (AT.lvsL_mem.mpr ⟨t,ht,hi2⟩)) (by have:=AT.lvs_le ht;omega) (by have:=AT.cnt_le ht;omega) hk2) hy'.2.2.2.2.2.2 hk;have av:atV (.nd w ts)=.tup [.str (wy w),.tup (ts.map atV)]:=by unfold atV;rw[AT.val,AT.vals_map]
   have bxe:AT.bx ws (.nd w ts) b=AT.bxL ws ts (ay b (wy w) (ts.map (wtT ws))):=by rw[AT.bx]
   show (PFx.of [false,false,false,true] 6 (gG (dD k))).G [bV b,liV ws,atV (.nd w ts),.dct kvs]=_;rw[kT,bxe];unfold gG;rw[av] at pe lo ⊢;have i1:∀xs:List Val,(bC cA).G [.tup xs,.ty "tuple"]=.val (.bl true):=λ_=>rfl;generalize cM kvs (AT.bxL ws ts (ay b (wy w) (ts.map (wtT ws))))=kvs1 at *;generalize (ay b (wy w) (ts.map (wtT ws))).map bV=PB at *;generalize ts.map atV=TV at *;generalize bV b=bv at *;generalize liV ws=wv at *;simp![i1,yM,pe,lo]
def rP{ws:List Int}{n m:Nat}{b:Bx}{t:AT}(hnm:n+n+m<=8000)(hb:b.Ok)(h0:ws≠[])(hw:∀w∈ws,1<=w)(h40:ws.length<=40)(ho:t.ok=true)(hi:∀k,k∈t.lvs ↔ k<ws.length)(nd:t.lvs.Nodup)(hl:t.lvs.length=ws.length)(hd:t.dep<=42)(hy:AT.lay ws n m t b):eA.G [bV b,liV ws,atV t]=.ok (.new (.lst ((List.range ws.length).map λk=>bV (bxO (AT.bx ws t b) k)))) []:=by
 have hc:=AT.cnt_lvs t ho;have cb:=br hb;have cw:=gY h0 hw h40;have ct:=qz (n:=ws.length) ho (λk hk=>(hi k).mp hk) nd hl (by omega) (by omega);have pl:=C2 (ws:=ws) hnm t 42 b [] hd hy (λk hk=>(hi k).mp hk) (by omega) (by omega) (by rw[QO];omega);have ll:((ws.map Val.int).length:Nat)=ws.length:=m_ ..;have rg:jr [.int (ws.length:Nat)]=some (rgV ws.length):=vU (by omega);have keys:=AT.bx_keys ws t b;obtain⟨e',⟨s,rfl,_⟩,lc⟩:=dk (g:=(gtN 0).G) (F:=(pOp xm (af 1) (af 0)).G) (λk:Nat=>Val.int k) (λk:Nat=>bV (bxO (AT.bx ws t b) k)) (λe=>∃s:Sl,e=[s,.mu (.dct (cM [] (AT.bx ws t b)))]/\s.pl=true) (List.range ws.length) [] [.no,.mu (.dct (cM [] (AT.bx ws t b)))] ⟨.no,rfl,rfl⟩ (by
  rintro k hk _ ⟨s,rfl,hs⟩;rw[N_] at hk;have lk:=Ph ((wB (k:=k) (AT.bx ws t b) [] (by rw[keys];exact nd)).1 (by rw[keys];exact (hi k).mpr hk));generalize cM [] (AT.bx ws t b)=kv at *;generalize bV (bxO (AT.bx ws t b) k)=bv at *;refine⟨[.sh (.int (k:Nat)),.mu (.dct kv)],.val bv,[.sh (.int (k:Nat)),.mu (.dct kv)],?_,?_,rfl,_,rfl,rfl⟩
  .simp![hs]
  .simp![lk]) (by rw[QO,v_];omega)
 have l2:((List.range ws.length).map λk=>bV (bxO (AT.bx ws t b) k)).length<=16777216:=by simp;omega
 rw[QZ] at lc;rw[show (List.range ws.length).map (λk:Nat=>Val.int k)=rgV ws.length from rfl] at lc;generalize (List.range ws.length).map (λk=>bV (bxO (AT.bx ws t b) k))=RB at *;generalize cM [] (AT.bx ws t b)=kv at *;unfold liV at pl ⊢;generalize atV t=tv at *;generalize bV b=bv at *;unfold eA;rw[aA];unfold mS;simp![cb,cw,ll,ct,pl,rg,b0,inS,lc,l2]
def oM{ns:List Int}{k:Int}(hk:0<=k):∃a,df.G [.kl (ns.map .int),.int k]=.ok (.new (fdV a 0 k)) []:=by
 unfold df;rw[aA];unfold mL fdV;by_cases h0:ns.length=0
 .have e:((((ns.map Val.int).length:Nat):Int)==0)=true:=by rw[QP,m_];omega
  exact⟨0,by simp![e]⟩
 .have e:((((ns.map Val.int).length:Nat):Int)==0)=false:=by rw[E_,m_];omega
  have e1:cz.G (.int k) (.int ((ns.map Val.int).length:Nat))=.val (.int (k.fmod ((ns.map Val.int).length:Nat))):=fA (by rw[m_];omega);have r:=d6 (a:=k) (m:=((ns.map Val.int).length:Nat)) (by rw[m_];omega);rw[m_] at r e1;have hi:(k.fmod (ns.length:Nat)).toNat<ns.length:=by omega
  have at1:atI (ns.map Val.int) (k.fmod (ns.length:Nat))=some (.int ns[(k.fmod (ns.length:Nat)).toNat]):=eU r.1 (by rw[O_,w_ hi];rfl);rw[m_] at e;exact⟨ns[(k.fmod (ns.length:Nat)).toNat],by simp![m_,e,e1,at1]⟩
def pow6:gm.G (.int 10) (.int 6)=.val (.int 1000000):=qQ ⟨by decide,by decide,by decide⟩
def Qp:jr [.int 6]=some [.int 0,.int 1,.int 2,.int 3,.int 4,.int 5]:=wV (i:=6) (by decide) (by decide)
def fW{a b k far:Int}(h0:0<=far)(hf:far.natAbs<=2000000000000000000000000000000):∃r a' b',bp.G [fdV a b k,.int far]=.ok (.val (.int r)) [fdV a' b' k]/\-far<=r/\r<=far:=by obtain⟨r1,a1,b1,e1,_,_⟩:=aB (a:=a) (b:=b) (k:=k) (m:=1000000) (by decide) (sm8 (by decide));obtain⟨r2,a2,b2,e2,_,_⟩:=aB (a:=a1) (b:=b1) (k:=k) (m:=1000000) (by decide) (sm8 (by decide));obtain⟨r3,a3,b3,e3,_,_⟩:=aB (a:=a2) (b:=b2) (k:=k) (m:=1000000) (by decide) (sm8 (by decide));obtain⟨r4,a4,b4,e4,_,_⟩:=aB (a:=a3) (b:=b3) (k:=k) (m:=1000000) (by decide) (sm8 (by decide));obtain⟨r5,a5,b5,e5,_,_⟩:=aB (a:=a4) (b:=b4) (k:=k) (m:=1000000) (by decide) (sm8 (by decide));obtain⟨r6,a6,b6,e6,_,_⟩:=aB (a:=a5) (b:=b5) (k:=k) (m:=1000000) (by decide) (sm8 (by decide));have c6:∀x:Int,bq.G (.int x) (.int 1000000)=.val (.int (x*1000000)):=λx=>cD (CMulA.right (by decide) (by decide));have c2:bq.G (.int 2) (.int far)=.val (.int (2*far)):=cD (CMulA.left (by decide) (by decide));have c3:∀x:Int,cz.G (.int x) (.int (2*far+1))=.val (.int (x.fmod (2*far+1))):=λx=>fA (by omega);have fr:=d6 (a:=(((((0*1000000+r1)*1000000+r2)*1000000+r3)*1000000+r4)*1000000+r5)*1000000+r6) (m:=2*far+1) (by omega);refine⟨((((((0*1000000+r1)*1000000+r2)*1000000+r3)*1000000+r4)*1000000+r5)*1000000+r6).fmod (2*far+1)-far,a6,b6,?_,by omega,by omega⟩;unfold bp;rw[aA];unfold lE ko;unfold fdV at *;simp![Qp,fb,pow6,c6,e1,e2,e3,e4,e5,e6,c2,c3,Int.reduceMul]
theorem uh(x y:Val):∀(n one bn:Nat),bn<=n->(xWh (qOf (pOp bGt (af 3) (ah 0))) gy).G [.sh x,.sh y,.sh (.int (one:Nat)),.sh (.int (bn:Nat))]=.nx [.sh x,.sh y,.sh (.int (Nat.gcd one bn:Nat)),.sh (.int 0)]
 |
  n,one,0,_=>by
  rw[gu];simp![Nat.gcd_zero_right,Int.natCast_zero,Int.lt_irrefl]
 |0,one,bn+1,hl=>absurd hl (by omega)
 |
  n+1,one,bn+1,hl=>by
  rw[gu];have e:decide ((0:Int)<((bn+1:Nat):Int))=true:=G_ (by omega);have e1:cz.G (.int (one:Nat)) (.int ((bn+1:Nat):Int))=.val (.int (((one:Nat):Int).fmod ((bn+1:Nat):Int))):=fA (by omega);have e2:((one:Nat):Int).fmod ((bn+1:Nat):Int)=((one % (bn+1):Nat):Int):=by rw[Int.fmod_eq_emod_of_nonneg _ (by omega)];rfl
  have ih:=uh x y n (bn+1) (one % (bn+1)) (by have:=Nat.mod_lt one (show bn+1>0 by omega);omega);rw[Fr.euc] at ih;rw[e2] at e1;have bb:gy.G [.sh x,.sh y,.sh (.int (one:Nat)),.sh (.int ((bn+1:Nat):Int))]=.nx [.sh x,.sh y,.sh (.int ((bn+1:Nat):Int)),.sh (.int ((one % (bn+1):Nat):Int))]:=by unfold gy;simp![e1]
  simp![e,bb,ih]
def i6{a b:Int}(hb:b≠0)(hs:Sm 8000 b):cp.G [.int a,.int b]=.ok (.val (fV ((a:Rat)/(b:Rat)))) []:=by
 unfold cp;rw[aA];unfold ph;have lo:=uh (.int a) (.int b) b.natAbs a.natAbs b.natAbs (p_ _);rw[show Nat.gcd a.natAbs b.natAbs=Int.gcd a b from rfl] at lo;have c:∀x,CDivB x (Fr.dv a b):=λx=>CDivB.of (Fr.dv_ne hb) (hs.of_le (by rw[Fr.dv_abs];exact Nat.le_of_dvd (by omega) (Nat.gcd_dvd_right a.natAbs b.natAbs)));have k1:=kK (c a);have k2:=kK (c b);have hh:=nA (a:=a) hb;have i_:Val.tup [.int (a.fdiv (Fr.dv a b)),.int (b.fdiv (Fr.dv a b))]=fV ((a:Rat)/(b:Rat)):=by unfold fV;rw[<- hh.1,<- hh.2];rfl
 by_cases hn:b<0
 .have hd:Fr.dv a b=0-((Int.gcd a b:Nat):Int):=by unfold Fr.dv;rw[if_pos hn];omega
  rw[hd] at k1 k2 i_;simp![gH,lo,G_ hn,k1,k2,i_]
 .have hd:Fr.dv a b=((Int.gcd a b:Nat):Int):=by unfold Fr.dv;rw[if_neg hn]
  rw[hd] at k1 k2 i_;simp![gH,lo,B_ hn,k1,k2,i_]
def p30:gm.G (.int 10) (.int 30)=.val (.int 1000000000000000000000000000000):=qQ ⟨by decide,by decide,by decide⟩
def rmQ(k:Int)(r:SR3):Prop:=∃b a c,Good b/\mB [true] r=.ok (.val (bV b)) [fdV a c k]
def rmI(k way:Int)(e:E3):Prop:=∃b x a c,Good b/\x.pl=true/\e=[.mu (fdV a c k),.sh (.int way),.sh (fV b.l),.sh (fV b.t),.sh (fV b.w),.sh (fV b.h),x]
def jj{r:Int}(h:0<=r):0<1+r:=by omega
def yC{r:Int}(h:0<=r):1+r≠0:=by omega
def iF{r m:Int}(h0:0<=r)(h1:r<m)(hm:m<=1000):(1+r).natAbs<=2000000000000000000000000000000:=by omega
def rf{r m c:Int}(h0:0<=r)(h1:r<m)(hm:m<=1000)(hc:0<=c/\c<=1000):(r-c).natAbs<=2000000000000000000000000000000:=by omega
def oi{r far:Int}(h0:-far<=r)(h1:r<=far)(hf:far<=1000000000000000000000000000000):r.natAbs<=2000000000000000000000000000000/\(1+((r.natAbs:Nat):Int)).natAbs<=2000000000000000000000000000000:=by omega
def qL{r:Int}:0<1+((r.natAbs:Nat):Int):=by omega
def Bg{r:Int}(h:0<r):r≠0:=by omega
def GF(a c k:Int):∃b a' c',Good b/\fu.G [fdV a c k]=.ok (.val (bV b)) [fdV a' c' k]:=by
 unfold fu;rw[xN rfl];show rmQ k (jz.G [.mu (fdV a c k),.no,.no,.no,.no,.no,.no]);unfold jz;obtain⟨way,a1,c1,e1,hw0,hw1⟩:=aB (a:=a) (b:=c) (k:=k) (m:=6) (by decide) (sm8 (by decide));refine aK (λe=>e=[.mu (fdV a1 c1 k),.sh (.int way),.no,.no,.no,.no,.no]) ⟨_,by simp![e1],rfl⟩ ?_;rintro _ rfl;obtain⟨l,a2,c2,e2,hl0,hl1⟩:=aB (a:=a1) (b:=c1) (k:=k) (m:=19) (by decide) (sm8 (by decide));obtain⟨t,a3,c3,e3,ht0,ht1⟩:=aB (a:=a2) (b:=c2) (k:=k) (m:=19) (by decide) (sm8 (by decide));refine aK (λe=>e=[.mu (fdV a3 c3 k),.sh (.int way),.sh (fV ((l-9:Int):Rat)),.sh (fV ((t-9:Int):Rat)),.no,.no,.no]) ⟨_,by simp![e2,e3,iV],rfl⟩ ?_;rintro _ rfl;obtain⟨w,a4,c4,e4,hww0,hww1⟩:=aB (a:=a3) (b:=c3) (k:=k) (m:=12) (by decide) (sm8 (by decide));obtain⟨hh,a5,c5,e5,hh0,hh1⟩:=aB (a:=a4) (b:=c4) (k:=k) (m:=12) (by decide) (sm8 (by decide));refine aK (rmI k way) ⟨[.mu (fdV a5 c5 k),.sh (.int way),.sh (fV ((l-9:Int):Rat)),.sh (fV ((t-9:Int):Rat)),.sh (fV ((1+w:Int):Rat)),.sh (fV ((1+hh:Int):Rat)),.no],by simp![e4,e5,iV],⟨_,_,_,_⟩,.no,a5,c5,⟨⟨fO (jj hww0),fO (jj hh0)⟩,⟨gk (rf hl0 hl1 (by decide) (by decide)),gk (rf ht0 ht1 (by decide) (by decide)),gk (iF hww0 hww1 (by decide)),gk (iF hh0 hh1 (by decide))⟩⟩,rfl,rfl⟩ ?_;rintro _ ⟨b,x,a,c,gb,hx,rfl⟩;refine aK (rmI k way) ?_ ?_
 .by_cases hw:way=1
  .subst hw;exact⟨[.mu (fdV a c k),.sh (.int 1),.sh (fV b.l),.sh (fV b.t),.sh (fV b.w),.sh (fV b.w),x],by simp![kN],⟨b.l,b.t,b.w,b.w⟩,x,a,c,⟨⟨gb.ok.w,gb.ok.w⟩,⟨gb.sz.l,gb.sz.t,gb.sz.w,gb.sz.w⟩⟩,hx,rfl⟩
  .exact⟨_,by simp![E_.mpr hw],b,x,a,c,gb,hx,rfl⟩
 rintro _ ⟨b,x,a,c,gb,hx,rfl⟩;refine aK (rmI k way) ?_ ?_
 .by_cases hw:way=2
  .subst hw;obtain⟨r,a1,c1,e1,h0,h1⟩:=aB (a:=a) (b:=c) (k:=k) (m:=99) (by decide) (sm8 (by decide));exact⟨[.mu (fdV a1 c1 k),.sh (.int 2),.sh (fV b.l),.sh (fV b.t),.sh (fV ((1+r:Int):Rat)),.sh (fV b.h),x],by simp![e1,iV],⟨b.l,b.t,((1+r:Int):Rat),b.h⟩,x,a1,c1,⟨⟨fO (jj h0),gb.ok.h⟩,⟨gb.sz.l,gb.sz.t,gk (iF h0 h1 (by decide)),gb.sz.h⟩⟩,hx,rfl⟩
  .exact⟨_,by simp![E_.mpr hw],b,x,a,c,gb,hx,rfl⟩
 rintro _ ⟨b,x,a,c,gb,hx,rfl⟩;refine aK (rmI k way) ?_ ?_
 .by_cases hw:way=3
  .subst hw;obtain⟨r,a1,c1,e1,h0,h1⟩:=aB (a:=a) (b:=c) (k:=k) (m:=99) (by decide) (sm8 (by decide));exact⟨[.mu (fdV a1 c1 k),.sh (.int 3),.sh (fV b.l),.sh (fV b.t),.sh (fV b.w),.sh (fV ((1+r:Int):Rat)),x],by simp![e1,iV],⟨b.l,b.t,b.w,((1+r:Int):Rat)⟩,x,a1,c1,⟨⟨gb.ok.w,fO (jj h0)⟩,⟨gb.sz.l,gb.sz.t,gb.sz.w,gk (iF h0 h1 (by decide))⟩⟩,hx,rfl⟩
  .exact⟨_,by simp![E_.mpr hw],b,x,a,c,gb,hx,rfl⟩
 rintro _ ⟨b,x,a,c,gb,hx,rfl⟩;refine aK (rmI k way) ?_ ?_
 .by_cases hw:way=4
  .subst hw;obtain⟨r1,a1,c1,e1,h10,h11⟩:=aB (a:=a) (b:=c) (k:=k) (m:=199) (by decide) (sm8 (by decide));obtain⟨r2,a2,c2,e2,h20,h21⟩:=aB (a:=a1) (b:=c1) (k:=k) (m:=30) (by decide) (sm8 (by decide));obtain⟨r3,a3,c3,e3,h30,h31⟩:=aB (a:=a2) (b:=c2) (k:=k) (m:=9) (by decide) (sm8 (by decide));obtain⟨r4,a4,c4,e4,h40,h41⟩:=aB (a:=a3) (b:=c3) (k:=k) (m:=99) (by decide) (sm8 (by decide));obtain⟨r5,a5,c5,e5,h50,h51⟩:=aB (a:=a4) (b:=c4) (k:=k) (m:=30) (by decide) (sm8 (by decide));obtain⟨r6,a6,c6,e6,h60,h61⟩:=aB (a:=a5) (b:=c5) (k:=k) (m:=99) (by decide) (sm8 (by decide));have l1:=i6 (a:=r1-99) (b:=1+r2) (yC h20) (kB (iF h20 h21 (by decide)));have l2:=i6 (a:=r3) (b:=7) (by decide) (kB (by decide));have l3:=i6 (a:=1+r4) (b:=1+r5) (yC h50) (kB (iF h50 h51 (by decide)));have l4:=i6 (a:=1+r6) (b:=11) (by decide) (kB (by decide));exact⟨[.mu (fdV a6 c6 k),.sh (.int 4),.sh (fV (((r1-99:Int):Rat)/((1+r2:Int):Rat))),.sh (fV (((r3:Int):Rat)/((7:Int):Rat))),.sh (fV (((1+r4:Int):Rat)/((1+r5:Int):Rat))),.sh (fV (((1+r6:Int):Rat)/((11:Int):Rat))),x],by simp![e1,e2,e3,e4,e5,e6,l1,l2,l3,l4],⟨_,_,_,_⟩,x,a6,c6,⟨⟨gX (jj h40) (jj h50),gX (jj h60) (by decide)⟩,⟨gE (yC h20) (rf h10 h11 (by decide) (by decide)) (iF h20 h21 (by decide)),gE (by decide) (by have:=rf (c:=0) h30 h31 (by decide) (by decide);rw[Int.sub_zero] at this;exact this) (by decide),gE (yC h50) (iF h40 h41 (by decide)) (iF h50 h51 (by decide)),gE (by decide) (iF h60 h61 (by decide)) (by decide)⟩⟩,hx,rfl⟩
  .exact⟨_,by simp![E_.mpr hw],b,x,a,c,gb,hx,rfl⟩
 rintro _ ⟨b,x,a,c,gb,hx,rfl⟩;refine aK (rmI k way) ?_ ?_
 .by_cases hw:way=5
  .subst hw;obtain⟨r1,a1,c1,e1,h10,h11⟩:=fW (a:=a) (b:=c) (k:=k) (far:=999999999999999999999999999999) (by decide) (by decide);obtain⟨r2,a2,c2,e2,h20,h21⟩:=fW (a:=a1) (b:=c1) (k:=k) (far:=999999999999999999999999999998) (by decide) (by decide);obtain⟨r3,a3,c3,e3,h30,h31⟩:=fW (a:=a2) (b:=c2) (k:=k) (far:=999999999999999999999999999999) (by decide) (by decide);obtain⟨r4,a4,c4,e4,h40,h41⟩:=fW (a:=a3) (b:=c3) (k:=k) (far:=999999999999999999999999999998) (by decide) (by decide);obtain⟨r5,a5,c5,e5,h50,h51⟩:=fW (a:=a4) (b:=c4) (k:=k) (far:=999999999999999999999999999998) (by decide) (by decide);have n2:=gH r2;have n4:=gH r4;have n5:=gH r5;have l1:=i6 (a:=r1) (b:=1+((r2.natAbs:Nat):Int)) (Bg qL) (kB (oi h20 h21 (by decide)).2);have l4:=i6 (a:=1+((r5.natAbs:Nat):Int)) (b:=999999999999999999999999999999) (by decide) (kB (by decide));exact⟨[.mu (fdV a5 c5 k),.sh (.int 5),.sh (fV (((r1:Int):Rat)/((1+((r2.natAbs:Nat):Int):Int):Rat))),.sh (fV ((r3:Int):Rat)),.sh (fV ((1+((r4.natAbs:Nat):Int):Int):Rat)),.sh (fV (((1+((r5.natAbs:Nat):Int):Int):Rat)/((999999999999999999999999999999:Int):Rat))),.sh (.int 999999999999999999999999999999)],by simp![hx,p30,e1,e2,e3,e4,e5,n2,n4,n5,l1,l4,iV],⟨_,_,_,_⟩,_,a5,c5,⟨⟨fO qL,gX qL (by decide)⟩,⟨gE (Bg qL) (oi h10 h11 (by decide)).1 (oi h20 h21 (by decide)).2,gk (oi h30 h31 (by decide)).1,gk (oi h40 h41 (by decide)).2,gE (by decide) (oi h50 h51 (by decide)).2 (by decide)⟩⟩,rfl,rfl⟩
  .exact⟨_,by simp![E_.mpr hw],b,x,a,c,gb,hx,rfl⟩
 rintro _ ⟨b,x,a,c,gb,hx,rfl⟩;refine⟨b,a,c,gb,?_⟩;simp![xI,bV]
def lwB(b:Bx):Bool:=!decide (b.w<b.h)
def dC{b:Bx}{n:Nat}(hb:b.Ok)(hs:b.Sz n)(h:n<=8000):bN.G [bV b]=.ok (.val (.str (wy (lwB b)))) []:=by
 have cb:=br hb;have il:=jv hs.w hs.h (by omega) (by omega);have ib:(bV b).items=some [fV b.l,fV b.t,fV b.w,fV b.h]:=rfl;unfold bN lwB;rw[aA];unfold nF;by_cases hl:b.w<b.h
 .rw[G_ hl] at il ⊢;simp![cb,ib,il];rfl
 .rw[B_ hl] at il ⊢;simp![cb,ib,il];rfl
def Bd(m B:Nat)(b:Bx)(n:Nat):Prop:=∃D A,Rp D A B b/\B<=A/\1<=A/\(A+n*B)*(D*2^(m*n))<2^2000
def Bd.fine{m B n:Nat}{b:Bx}(h:Bd m B b n):b.Ok/\b.Sz 2000:=by obtain⟨D,A,r,hBA,hA,hq⟩:=h;exact r.fine hBA hA hq
def Bd.ok{m B n:Nat}{b:Bx}(h:Bd m B b n):b.Ok:=h.fine.1
def Bd.sz{m B n:Nat}{b:Bx}(h:Bd m B b n):b.Sz 2000:=h.fine.2
def Bd.part{m B n k:Nat}{b c:Bx}{way:Str}{ws:List Int}(h:Bd m B b n)(hw:∀w∈ws,1<=w)(hS:ws.sum<2^m)(hc:c∈ay b way ws)(hk:k<n):Bd m B c k:=by
 obtain⟨D,A,r,hBA,hA,hq⟩:=h;have hT:ws.sum.toNat<=2^m:=by
  have h4:((2^m:Nat):Int)=(2:Int)^m:=by push_cast;rfl
  rw[<- h4] at hS;generalize 2^m=X at hS ⊢;clear hq;omega
 refine⟨D*ws.sum.toNat,A+B,r.parts hw hc,by omega,by omega,RC (QY ?_ ?_) hq⟩
 .have:(k+1)*B<=n*B:=RP _ hk;rw[Nat.add_mul,Nat.one_mul] at this;omega
 .rw[SY];refine Rw _ ?_;have e:2^m*2^(m*k)=2^(m*(k+1)):=by rw[<- RZ];congr 1;rw[Nat.mul_add,Nat.mul_one,Nat.add_comm]
  exact F_ (RP _ hT) (by rw[e];exact Rv (by decide) (Rw _ hk))
def j5(b:Bx)(w:Bool)(x y:Int):ay b (wy w) [x,y]=[bc b w (x+y) 0 x,bc b w (x+y) x y]:=by rw[cG];simp [frm]
def zE(w:Bool):wy w="across" \/ wy w="down":=by cases w;exact .inr rfl;exact .inl rfl
def Ag{m:Nat}{S:Int}(h0:0<=S)(h:S<2^m):Sm m S:=by
 show S.natAbs<2^m;have h4:((2^m:Nat):Int)=(2:Int)^m:=by push_cast;rfl
 rw[<- h4] at h;omega
def jh{b:Bx}{xs:List Int}{m B n i:Nat}(hb:Bd m B b n)(hm:m<=104)(h1:1<=(xs.take i).sum)(h2:1<=(xs.drop i).sum)(hS:(xs.take i).sum+(xs.drop i).sum<2^m):cC.G [bV b,liV xs,.int (i:Nat)]=.ok (.new (.lst [bV (bc b (lwB b) ((xs.take i).sum+(xs.drop i).sum) 0 (xs.take i).sum),bV (bc b (lwB b) ((xs.take i).sum+(xs.drop i).sum) (xs.take i).sum (xs.drop i).sum)])) []:=by
 have lw:=dC hb.ok hb.sz (by decide);have pe:=jW (way:=wy (lwB b)) (ws:=[(xs.take i).sum,(xs.drop i).sum]) (m:=m) hb.ok hb.sz (zE _) (by simp) (λw hw=>by
  rcases I_.mp hw with rfl |hw
  .exact h1
  .rw[Q6.mp hw];exact h2) (by
  rw[show [(xs.take i).sum,(xs.drop i).sum].sum=(xs.take i).sum+(xs.drop i).sum from by simp];exact Ag (by omega) hS) (by omega) (by show 2<=40;decide)
 rw[j5] at pe;simp only[t_,QQ] at pe;have ct:=gi (xs.map Val.int) i;have cd:=gK (xs.map Val.int) i;rw[<- Q8] at ct;rw[<- Rr] at cd;have m1:=cn (xs.take i);have m2:=cn (xs.drop i);unfold cC;rw[aA];unfold kq;unfold liV;generalize (xs.take i).map Val.int=w1 at *;generalize (xs.drop i).map Val.int=w2 at *;generalize xs.map Val.int=w3 at *;generalize bV (bc b (lwB b) ((xs.take i).sum+(xs.drop i).sum) 0 (xs.take i).sum)=b1 at *;generalize bV (bc b (lwB b) ((xs.take i).sum+(xs.drop i).sum) (xs.take i).sum (xs.drop i).sum)=b2 at *;generalize bV b=bv at *;generalize wy (lwB b)=yy at *;simp![lw,fq,ct,cd,m1,m2,pe]
def uq{p q:Rat}(hq:q≠0):p/q=((p.num*q.den:Int):Rat)/((p.den*q.num:Int):Rat):=by
 have h1:=hE (cH p);have h2:=hE (cH q);have h3:q.num≠0:=λz=>hq (To.mp z);have h4:=hE h3
 conv=>lhs;rw[fQ p,fQ q]
 rw[Q_,Q_];simp only[Rat.div_def,Rat.inv_mul_rev,Rat.inv_inv];rw[Rat.mul_assoc,Rat.mul_assoc,Rat.mul_comm (((p.den:Int):Rat))⁻¹,Rat.mul_assoc]
def wY{p q:Rat}{n m:Nat}(hp:Sz n p)(hq:Sz m q)(h0:0<q)(h:n+m<=8000):iP.G [fV p,fV q]=.ok (.val (fV (p/q))) []:=by
 have c1:=cD (CMulA.of hp.top hq.bot (by omega) (by omega));have c2:=cD (CMulA.of hp.bot hq.top (by omega) (by omega));have hq0:q≠0:=λz=>by rw[z] at h0;exact absurd h0 (by decide)
 have hn:q.num≠0:=λz=>hq0 (To.mp z);have fe:=eT (a:=p.num*q.den) (b:=p.den*q.num) (Si (cH p) hn) ((hp.bot.mul hq.top).mono h);rw[<- uq hq0] at fe;unfold iP;rw[aA];unfold zu;rw[show fV p=.tup [.int p.num,.int p.den] from rfl,show fV q=.tup [.int q.num,.int q.den] from rfl];simp![c1,c2,fe]
def mw{b:Bx}{n:Nat}(hb:b.Ok)(hs:b.Sz n)(h:n+n<=8000):eD.G [bV b]=.ok (.val (fV (aS b))) []:=by
 have lw:=dC hb hs (by omega);have ib:(bV b).items=some [fV b.l,fV b.t,fV b.w,fV b.h]:=rfl;have o1:=wY hs.w hs.h hb.2 h;have o2:=wY hs.h hs.w hb.1 h;unfold eD aS;rw[aA];unfold wQ;by_cases hl:b.w<b.h
 .rw[show wy (lwB b)="down" from by unfold lwB;rw[G_ hl];rfl] at lw;rw[if_pos hl];simp![lw,ib,o1,o2,uI]
 .rw[show wy (lwB b)="across" from by unfold lwB;rw[B_ hl];rfl] at lw;rw[if_neg hl];simp![lw,ib,o1,o2,sM]
def Sz.over{p q:Rat}{n m:Nat}(hp:Sz n p)(hq:Sz m q)(h0:0<q):Sz (n+m) (p/q):=by
 have hq0:q≠0:=λz=>by rw[z] at h0;exact absurd h0 (by decide)
 have hn:q.num≠0:=λz=>hq0 (To.mp z);rw[uq hq0];exact Sz.div (Si (cH p) hn) (hp.top.mul hq.bot) (hp.bot.mul hq.top) (n+m) (p_ _) (p_ _)
def JE{b:Bx}{n:Nat}(hb:b.Ok)(hs:b.Sz n):Sz (n+n) (aS b):=by
 unfold aS;split
 .exact Sz.over hs.h hs.w hb.1
 .exact Sz.over hs.w hs.h hb.2
def inT(f:List Int->Nat)(ws:List Int):Nat->Bx->List Nat->AT
 |0,_,l=>.lf (l.headD 0)
 |N
  + 1,b,l=>if l.length=1 then .lf (l.headD 0) else
  .nd (lwB b) [inT f ws N (bc b (lwB b) (wtA ws l) 0 (wtA ws (l.take (f (l.map λk=>ws.getD k 0))))) (l.take (f (l.map λk=>ws.getD k 0))),
   inT f ws N (bc b (lwB b) (wtA ws l) (wtA ws (l.take (f (l.map λk=>ws.getD k 0)))) (wtA ws (l.drop (f (l.map λk=>ws.getD k 0))))) (l.drop (f (l.map λk=>ws.getD k 0)))]
structure HowM(f:List Int->Nat)(nm:Str)(D:List Int->Prop):Prop where
 tk:∀xs i,D xs->D (xs.take i)
 dr:∀xs i,D xs->D (xs.drop i)
 lt:∀xs:List Int,D xs->2<=xs.length->(∀w∈xs,1<=w)->1<=f xs/\f xs<xs.length
 ev:∀(xs:List Int) (bv lv:Val),D xs->2<=xs.length->xs.length<=40->(∀w∈xs,1<=w)->(aw false 4 (ny [("nearest_to_half",bE),("fewest_to_third",bF)] (af 3) (aa (af 2) ag))).G [.sh bv,.sh lv,.sh (liV xs),.sh (.glb nm),.no,.no,.no,.no,.no]=.nx [.sh bv,.sh lv,.sh (liV xs),.sh (.glb nm),.sh (.int (f xs:Nat)),.no,.no,.no,.no]
def BE{l:List Nat}{i N n:Nat}(h0:l.length<=N+1)(h1:1<=i)(h2:i<l.length)(hl:l.length<=n):((l.take i).length<=N/\1<=(l.take i).length/\(l.take i).length<=n/\(l.take i).length<l.length)/\(l.drop i).length<=N/\1<=(l.drop i).length/\(l.drop i).length<=n/\(l.drop i).length<l.length:=by rw[QJ,QL];omega
def wU{l:List Nat}{i:Nat}{w:Bool}{s t:AT}(h1:1<=i)(h2:i<l.length)(a:s.dep<=(l.take i).length)(b:t.dep<=(l.drop i).length):(AT.nd w [s,t]).dep<=l.length:=by rw[QJ] at a;rw[QL] at b;rw[AT.dep,AT.depL,AT.depL,AT.depL];omega
def zq{n:Nat}{x:Int}(h:(n:Int)<=x)(h1:1<=n):1<=x:=by omega
def ttQ(v:Val)(r:SR3):Prop:=mB [false,false,false,false] r=.ok (.val v) []
theorem nL{f:List Int->Nat}{nm:Str}{D:List Int->Prop}(H:HowM f nm D){ws:List Int}{m B:Nat}(hm:m<=104)(hS:∀l:List Nat,(∀k∈l,k<ws.length)->l.length<=ws.length->wtA ws l<2^m)(hw:∀w∈ws,1<=w)(hn:ws.length<=40):∀(N:Nat) (l:List Nat) (b:Bx),l.length<=N->1<=l.length->l.length<=ws.length->(∀k∈l,k<ws.length)->Bd m B b l.length->D (l.map λk=>ws.getD k 0)->
 (aQ N).G [bV b,itV l,liV (l.map λk=>ws.getD k 0),.glb nm]=.ok (.val (atV (inT f ws N b l))) []/\(inT f ws N b l).ok=true/\(inT f ws N b l).lvs=l/\(inT f ws N b l).dep<=l.length
 |0,l,b,h0,h1,_,_,_,_=>by omega
 |
  N+1,l,b,h0,h1,hl,hi,hB,hD=>by
  by_cases hl1:l.length=1
  .obtain⟨k,rfl⟩:=RY.mp hl1;have a0:atI [Val.int (k:Nat)] 0=some (.int (k:Nat)):=eU (by decide) rfl;have te:inT f ws (N+1) b [k]=.lf k:=by rw[inT];exact if_pos rfl
   rw[te];refine⟨?_,rfl,rfl,by simp [AT.dep]⟩;show (PFx.of [false,false,false,false] 9 (b8 (aQ N))).G _=_;rw[kT,show atV (.lf k)=.int (k:Nat) from rfl,show itV [k]=.lst [.int (k:Nat)] from rfl];unfold b8;generalize bV b=bv;generalize liV _=wv;simp![a0]
  .have h2:2<=l.length:=by omega
   have hp:∀k∈l,1<=ws.getD k 0:=λj hj=>by rw[K_,w_ (hi j hj)];exact hw _ (Rm _)
   have xl:(l.map λk=>ws.getD k 0).length=l.length:=m_ ..;have xp:∀w∈l.map λk=>ws.getD k 0,1<=w:=λw hw=>by obtain⟨j,hj,rfl⟩:=QX.mp hw;exact hp j hj
   obtain⟨g1,g2⟩:=H.lt _ hD (by rw[xl];exact h2) xp;have ev:=H.ev (l.map λk=>ws.getD k 0) (bV b) (itV l) hD (by rw[xl];exact h2) (by rw[xl];exact F_ hl hn) xp;rw[inT,if_neg hl1];have ht:∀i,∀j∈l.take i,j∈l:=λi j hj=>Q5 hj;have hd:∀i,∀j∈l.drop i,j∈l:=λi j hj=>Ru hj;have wt:∀i,((l.map λk=>ws.getD k 0).take i).sum=wtA ws (l.take i):=λi=>by unfold wtA;rw[Q8]
   have wd:∀i,((l.map λk=>ws.getD k 0).drop i).sum=wtA ws (l.drop i):=λi=>by unfold wtA;rw[Rr]
   generalize hh:f (l.map λk=>ws.getD k 0)=i at *;rw[xl] at g2;obtain⟨⟨t1,t2,t3,t4⟩,d1,d2,d3,d4⟩:=BE h0 g1 g2 hl;have p1:=dB (l:=(l.take i).map λk=>ws.getD k 0) (λw hw=>by obtain⟨j,hj,rfl⟩:=QX.mp hw;exact hp j (ht i j hj));have p2:=dB (l:=(l.drop i).map λk=>ws.getD k 0) (λw hw=>by obtain⟨j,hj,rfl⟩:=QX.mp hw;exact hp j (hd i j hj));rw[m_] at p1 p2;replace p1:=zq p1 t2;replace p2:=zq p2 d2;have sp:wtA ws l=wtA ws (l.take i)+wtA ws (l.drop i):=by unfold wtA;rw[<- Sk,<- QV,Q2]
   rw[show ((l.take i).map λk=>ws.getD k 0).sum=wtA ws (l.take i) from rfl] at p1;rw[show ((l.drop i).map λk=>ws.getD k 0).sum=wtA ws (l.drop i) from rfl] at p2;have hs:=hS l hi hl;have ct2:=jh (xs:=l.map λk=>ws.getD k 0) (i:=i) hB hm (by rw[wt];exact p1) (by rw[wd];exact p2) (by rw[wt,wd,<- sp];exact hs);have mt:(l.map λk=>ws.getD k 0).take i=(l.take i).map λk=>ws.getD k 0:=by rw[Q8]
   have md:(l.map λk=>ws.getD k 0).drop i=(l.drop i).map λk=>ws.getD k 0:=by rw[Rr]
   rw[wt,wd,<- sp] at ct2;have pm:∀c∈[bc b (lwB b) (wtA ws l) 0 (wtA ws (l.take i)),bc b (lwB b) (wtA ws l) (wtA ws (l.take i)) (wtA ws (l.drop i))],∀k,k<l.length->Bd m B c k:=λc hc k hk=>hB.part (way:=wy (lwB b)) (ws:=[wtA ws (l.take i),wtA ws (l.drop i)]) (λw hw=>by
    rcases I_.mp hw with rfl |hw
    .exact p1
    .rw[Q6.mp hw];exact p2) (by rw[show [wtA ws (l.take i),wtA ws (l.drop i)].sum=wtA ws l from by rw[sp];simp];exact hs) (by rw[j5,<- sp];exact hc) hk
   obtain⟨a1,a3,a4,a5⟩:=nL H hm hS hw hn N (l.take i) _ t1 t2 t3 (λj hj=>hi j (ht i j hj)) (pm _ (r_ ..) _ t4) (by rw[<- mt];exact H.tk _ _ hD);obtain⟨b1,b3,b4,b5⟩:=nL H hm hS hw hn N (l.drop i) _ d1 d2 d3 (λj hj=>hi j (hd i j hj)) (pm _ (n_ _ (r_ ..)) _ d4) (by rw[<- md];exact H.dr _ _ hD);have lw:=dC hB.ok hB.sz (by decide);generalize inT f ws N (bc b (lwB b) (wtA ws l) 0 (wtA ws (l.take i))) (l.take i)=T1 at *;generalize inT f ws N (bc b (lwB b) (wtA ws l) (wtA ws (l.take i)) (wtA ws (l.drop i))) (l.drop i)=T2 at *;refine⟨?_,?_,?_,?_⟩
   .rw[show atV (.nd (lwB b) [T1,T2])=.tup [.str (wy (lwB b)),.tup [atV T1,atV T2]] from rfl];generalize bc b (lwB b) (wtA ws l) 0 (wtA ws (l.take i))=B1 at *;generalize bc b (lwB b) (wtA ws l) (wtA ws (l.take i)) (wtA ws (l.drop i))=B2 at *;have ctl:=gi (l.map λk:Nat=>Val.int k) i;have cdl:=gK (l.map λk:Nat=>Val.int k) i;rw[<- Q8] at ctl;rw[<- Rr] at cdl;have ctx:=gi ((l.map λk=>ws.getD k 0).map Val.int) i;have cdx:=gK ((l.map λk=>ws.getD k 0).map Val.int) i;rw[<- Q8,mt] at ctx;rw[<- Rr,md] at cdx;have n1:(((l.length:Nat):Int)==1)=false:=by rw[E_];omega
    have ll:((l.map λk:Nat=>Val.int k).length:Nat)=l.length:=m_ ..;show (PFx.of [false,false,false,false] 9 (b8 (aQ N))).G _=_;rw[J7 rfl];show ttQ _ ((b8 (aQ N)).G [.sh (bV b),.sh (itV l),.sh (liV (l.map λk=>ws.getD k 0)),.sh (.glb nm),.no,.no,.no,.no,.no]);unfold b8;unfold itV at a1 b1 ev ⊢;unfold liV at a1 b1 ct2 ev ⊢;generalize bV b=bv at *;generalize bV B1=bv1 at *;generalize bV B2=bv2 at *;generalize atV T1=t1 at *;generalize atV T2=t2 at *;generalize wy (lwB b)=yy at *;generalize (l.take i).map (λk:Nat=>Val.int k)=l1 at *;generalize (l.drop i).map (λk:Nat=>Val.int k)=l2 at *;generalize ((l.take i).map λk=>ws.getD k 0).map Val.int=x1 at *;generalize ((l.drop i).map λk=>ws.getD k 0).map Val.int=x2 at *;generalize (l.map λk=>ws.getD k 0).map Val.int=x0 at *;generalize l.map (λk:Nat=>Val.int k)=l0 at *;refine aK (λe=>e=[.sh bv,.sh (.lst l0),.sh (.lst x0),.sh (.glb nm),.no,.no,.no,.no,.no]) ⟨_,by simp![ll,n1],rfl⟩ ?_;rintro _ rfl;refine aK (λe=>e=[.sh bv,.sh (.lst l0),.sh (.lst x0),.sh (.glb nm),.sh (.int (i:Nat)),.no,.no,.no,.no]) ⟨_,ev,rfl⟩ ?_;rintro _ rfl;unfold ttQ;simp![ct2,fq,ctl,cdl,ctx,cdx,a1,b1,lw,xI]
   .rw[AT.ok,AT.okL,AT.okL,AT.okL,a3,b3];rfl
   .rw[AT.lvs,AT.lvsL,AT.lvsL,AT.lvsL,a4,b4,QU,Q2]
   .exact wU g1 g2 a5 b5
def p29:gm.G (.int 10) (.int 29)=.val (.int 100000000000000000000000000000):=qQ ⟨by decide,by decide,by decide⟩
def KU{r:Int}(h0:0<=r)(h1:r<24):∃z,1<=z/\z<=8388608/\sH.G (.int 1) (.int r)=.val (.int z):=by
 have c1:(1:Nat)<=2^r.toNat:=Nat.one_le_two_pow;have c2:2^r.toNat<=2^23:=Rv (by decide) (by omega);have e:(2:Int)^r.toNat=((2^r.toNat:Nat):Int):=by rw[Int.natCast_pow];rfl
 refine⟨1*2^r.toNat,?_,?_,OK ⟨h0,by omega,by decide⟩⟩
 .rw[Int.one_mul,e];exact Int.ofNat_le.mpr c1
 .rw[Int.one_mul,e];exact Int.ofNat_le.mpr c2
def Gf{ns:List Int}{at_ most many more sty hg k:Int}{acc:List Int}{s9:Sl}(h9:s9.pl=true)(hk:0<=k/\k<=40)(hs:0<=sty/\sty<6)(hh:1<=hg/\hg<=24)(a c q:Int):
 ∃w a' c',1<=w/\w<=8388608/\(aw false 10 (pOp bIx (dU (aa (ah 1) (aa (pOp a8 (ah 1) (ai ao (aa (af 3) (aa (ah 9) ag)))) (aa (pOp sH (ah 1) (pOp cz (af 9) (af 8))) (aa (pOp a8 (ah 1) (ai ao (aa (af 3) (aa (ah 9) ag)))) (aa (ah 1) (aa (pOp a8 (ah 1) (ai ao (aa (af 3) (aa (ah 3) ag)))) ag))))))) (af 6))).G [.sh (.kl (ns.map .int)),.sh (.int at_),.sh (.int most),.ow (fdV a c q),.sh (.int many),.sh (.int more),.sh (.int sty),.ow (.lst (acc.map .int)),.sh (.int hg),.sh (.int k),s9]=.nx [.sh (.kl (ns.map .int)),.sh (.int at_),.sh (.int most),.ow (fdV a' c' q),.sh (.int many),.sh (.int more),.sh (.int sty),.ow (.lst (acc.map .int)),.sh (.int hg),.sh (.int k),.sh (.int w)]:=by
 obtain⟨r1,a1,c1,e1,l1,u1⟩:=aB (a:=a) (b:=c) (k:=q) (m:=9) (by decide) (sm8 (by decide));obtain⟨r2,a2,c2,e2,l2,u2⟩:=aB (a:=a1) (b:=c1) (k:=q) (m:=9) (by decide) (sm8 (by decide));obtain⟨r3,a3,c3,e3,l3,u3⟩:=aB (a:=a2) (b:=c2) (k:=q) (m:=3) (by decide) (sm8 (by decide));have fm:=d6 (a:=k) (m:=hg) (by omega);have km:=fA (i:=k) (j:=hg) (by omega);have sh:=KU fm.1 (by omega);obtain⟨z,z1,z2,z3⟩:=sh;have hc:sty=0\/sty=1\/sty=2\/sty=3\/sty=4\/sty=5:=by omega
 have at6:∃w,1<=w/\w<=8388608/\atI [Val.int 1,.int (1+r1),.int z,.int (1+r2),.int 1,.int (1+r3)] sty=some (.int w):=by
  rcases hc with rfl |rfl |rfl |rfl |rfl |rfl
  .exact⟨1,by decide,by decide,rfl⟩
  .exact⟨1+r1,by omega,by omega,rfl⟩
  .exact⟨z,z1,z2,rfl⟩
  .exact⟨1+r2,by omega,by omega,rfl⟩
  .exact⟨1,by decide,by decide,rfl⟩
  .exact⟨1+r3,by omega,by omega,rfl⟩
 obtain⟨w,w1,w2,w3⟩:=at6;refine⟨w,a3,c3,w1,w2,?_⟩;simp![e1,e2,e3,km,z3,w3,h9]
def wtI(ns:List Int)(at_ most many more sty hg k:Int)(acc:List Int)(e:E3):Prop:=∃w a c q,1<=w/\w<=1000000000000000000000000000000/\(sty<3->w<=8388608)/\e=[.sh (.kl (ns.map .int)),.sh (.int at_),.sh (.int most),.ow (fdV a c q),.sh (.int many),.sh (.int more),.sh (.int sty),.ow (.lst (acc.map .int)),.sh (.int hg),.sh (.int k),.sh (.int w)]
def wtQ(ns:List Int)(at_ most many more sty hg k:Int)(acc:List Int)(r:SR3):Prop:=∃w s3,1<=w/\w<=1000000000000000000000000000000/\(sty<3->w<=8388608)/\s3.pl=true/\r=.nx [.sh (.kl (ns.map .int)),.sh (.int at_),.sh (.int most),s3,.sh (.int many),.sh (.int more),.sh (.int sty),.ow (.lst ((acc++[w]).map .int)),.sh (.int hg),.sh (.int k),.sh (.int w)]
def F9{ns:List Int}{at_ most many more sty hg k:Int}{acc:List Int}{s3 s9:Sl}(h3:s3.pl=true)(h9:s9.pl=true)(ha:0<=at_)(hk:0<=k/\k<=40)(hs:0<=sty/\sty<6)(hh:1<=hg/\hg<=24)(hl:acc.length<=1000):
 wtQ ns at_ most many more sty hg k acc (eF.G [.sh (.kl (ns.map .int)),.sh (.int at_),.sh (.int most),s3,.sh (.int many),.sh (.int more),.sh (.int sty),.ow (.lst (acc.map .int)),.sh (.int hg),.sh (.int k),s9]):=by
 unfold eF;obtain⟨f,ef⟩:=oM (ns:=ns) (k:=at_+1+k) (by omega);refine aK (λe=>e=[.sh (.kl (ns.map .int)),.sh (.int at_),.sh (.int most),.ow (fdV f 0 (at_+1+k)),.sh (.int many),.sh (.int more),.sh (.int sty),.ow (.lst (acc.map .int)),.sh (.int hg),.sh (.int k),s9]) ⟨_,by simp![ef,h3],rfl⟩ ?_;rintro _ rfl;refine aK (wtI ns at_ most many more sty hg k acc) ?_ ?_
 .obtain⟨w,a,c,w1,w2,e⟩:=Gf (ns:=ns) (at_:=at_) (most:=most) (many:=many) (more:=more) (acc:=acc) h9 hk hs hh f 0 (at_+1+k);exact⟨_,e,w,a,c,_,w1,by omega,λ_=>w2,rfl⟩
 rintro _ ⟨w,a,c,q,w1,w2,w3,rfl⟩;refine aK (wtI ns at_ most many more sty hg k acc) ?_ ?_
 .by_cases h:sty=3
  .subst h;obtain⟨r1,a1,c1,e1,l1,u1⟩:=aB (a:=a) (b:=c) (k:=q) (m:=4) (by decide) (sm8 (by decide));obtain⟨r2,a2,c2,e2,l2,u2⟩:=aB (a:=a1) (b:=c1) (k:=q) (m:=100) (by decide) (sm8 (by decide));by_cases hr:r1=0
   .subst hr;exact⟨[.sh (.kl (ns.map .int)),.sh (.int at_),.sh (.int most),.ow (fdV a2 c2 q),.sh (.int many),.sh (.int more),.sh (.int 3),.ow (.lst (acc.map .int)),.sh (.int hg),.sh (.int k),.sh (.int (100000000000000000000000000000+r2))],by simp![e1,e2,p29],_,_,_,_,by omega,by omega,λz=>absurd z (by decide),rfl⟩
   .exact⟨[.sh (.kl (ns.map .int)),.sh (.int at_),.sh (.int most),.ow (fdV a1 c1 q),.sh (.int many),.sh (.int more),.sh (.int 3),.ow (.lst (acc.map .int)),.sh (.int hg),.sh (.int k),.sh (.int w)],by simp![e1,E_.mpr hr],_,_,_,_,w1,w2,w3,rfl⟩
  .exact⟨_,by simp![E_.mpr h],w,a,c,q,w1,w2,w3,rfl⟩
 rintro _ ⟨w,a,c,q,w1,w2,w3,rfl⟩;refine aK (wtI ns at_ most many more sty hg k acc) ?_ ?_
 .by_cases h:sty=4
  .subst h;obtain⟨r1,a1,c1,e1,l1,u1⟩:=fW (a:=a) (b:=c) (k:=q) (far:=999999999999999999999999999998) (by decide) (by decide);exact⟨[.sh (.kl (ns.map .int)),.sh (.int at_),.sh (.int most),.ow (fdV a1 c1 q),.sh (.int many),.sh (.int more),.sh (.int 4),.ow (.lst (acc.map .int)),.sh (.int hg),.sh (.int k),.sh (.int (1+if r1<0 then -r1 else r1))],by simp![e1,p30],_,_,_,_,by split <;> omega,by split <;> omega,λz=>absurd z (by decide),rfl⟩
  .exact⟨_,by simp![E_.mpr h],w,a,c,q,w1,w2,w3,rfl⟩
 rintro _ ⟨w,a,c,q,w1,w2,w3,rfl⟩;have ll:(acc.map Val.int).length<16777216:=by rw[m_];omega
 refine⟨w,.ow (fdV a c q),w1,w2,w3,rfl,?_⟩;rw[QV,t_,QQ];simp![ll]
theorem vM{ns:List Int}{at_ most many more sty hg:Int}(ha:0<=at_)(hs:0<=sty/\sty<6)(hh:1<=hg/\hg<=24):∀(ks:List Nat) (acc:List Int) (s3 s8 s9:Sl),s3.pl=true->s8.pl=true->s9.pl=true->(∀k∈ks,k<=40)->acc.length+ks.length<=1000->
 ∃(ws:List Int) (s3' s8' s9':Sl),ws.length=ks.length/\(∀w∈ws,1<=w/\w<=1000000000000000000000000000000/\(sty<3->w<=8388608))/\fJ (gtN 9).G eF.G (ks.map λk:Nat=>Val.int (k:Nat)) [.sh (.kl (ns.map .int)),.sh (.int at_),.sh (.int most),s3,.sh (.int many),.sh (.int more),.sh (.int sty),.ow (.lst (acc.map .int)),.sh (.int hg),s8,s9]=.nx [.sh (.kl (ns.map .int)),.sh (.int at_),.sh (.int most),s3',.sh (.int many),.sh (.int more),.sh (.int sty),.ow (.lst ((acc++ws).map .int)),.sh (.int hg),s8',s9']
 | [],acc,s3,s8,s9,_,_,_,_,_=>⟨[],s3,s8,s9,rfl,(λ_ h=>nomatch h),by rw[QQ,gF,QU]⟩
 |
  k::ks,acc,s3,s8,s9,h3,h8,h9,hk,hl=>by
  rw[C_] at hl;obtain⟨w,t3,w1,w2,w3,p3,e⟩:=F9 (ns:=ns) (at_:=at_) (most:=most) (many:=many) (more:=more) (sty:=sty) (k:=(k:Nat)) (acc:=acc) h3 h9 ha ⟨by omega,by have:=hk k (r_ ..);omega⟩ hs hh (by omega);obtain⟨ws,s3',s8',s9',q1,q2,q3⟩:=vM (ns:=ns) (most:=most) (many:=many) (more:=more) ha hs hh ks (acc++[w]) t3 (.sh (.int (k:Nat))) (.sh (.int w)) p3 rfl rfl (λj hj=>hk j (n_ _ hj)) (by rw[D_];show acc.length+1+_<=_;omega);refine⟨w::ws,s3',s8',s9',by rw[C_,C_,q1],λx hx=>?_,?_⟩
  .rcases I_.mp hx with rfl |hx
   .exact⟨w1,w2,w3⟩
   .exact q2 x hx
  .have g1:(gtN 9).G (.int (k:Nat)) [.sh (.kl (ns.map .int)),.sh (.int at_),.sh (.int most),s3,.sh (.int many),.sh (.int more),.sh (.int sty),.ow (.lst (acc.map .int)),.sh (.int hg),s8,s9]=some [.sh (.kl (ns.map .int)),.sh (.int at_),.sh (.int most),s3,.sh (.int many),.sh (.int more),.sh (.int sty),.ow (.lst (acc.map .int)),.sh (.int hg),.sh (.int (k:Nat)),s9]:=by simp![h8]
   rw[t_,fb,g1];dsimp only;rw[e];show fJ _ _ _ _=_;rw[q3,List.append_assoc];rfl
def div8{x:Int}:jK.G (.int x) (.int 8)=.val (.int (x.fdiv 8)):=kK (CDivB.of (by decide) (sm8 (by decide)))
def wsQ(M:Int)(r:SR3):Prop:=∃ws:List Int,1<=ws.length/\(ws.length:Int)<=M/\(∀w∈ws,1<=w/\w<=1000000000000000000000000000000)/\(9<ws.length->∀w∈ws,w<=8388608)/\mB [false,false,false] r=.ok (.new (liV ws)) []
def ws_a{x most M:Int}(h:x<=most)(h1:most<=M)(h7:7<=M):1<=(if x>1 then x else 1)/\(if x>1 then x else 1)<=M:=by split <;> omega
def ws_b{most:Int}(h1:1<=most)(h2:most<=40):0<(if (7:Int)<most then 7 else most)/\Sm 8000 (if (7:Int)<most then 7 else most):=by
 split
 .exact⟨by decide,sm8 (by decide)⟩
 .exact⟨by omega,sm8 (by omega)⟩
def ws_c{r most:Int}(h:r<if (7:Int)<most then 7 else most):1+r<=7:=by split at h <;> omega
def yz{ns:List Int}{at_ most:Int}(ha:0<=at_)(hm:1<=most/\most<=40):∃ws:List Int,1<=ws.length/\(ws.length:Int)<=max most 7/\(∀w∈ws,1<=w/\w<=1000000000000000000000000000000)/\(9<ws.length->∀w∈ws,w<=8388608)/\dm.G [.kl (ns.map .int),.int at_,.int most]=.ok (.new (liV ws)) []:=by
 have x1:most<=max most 7:=Int.le_max_left ..;have x7:(7:Int)<=max most 7:=Int.le_max_right ..;have x4:max most 7<=40:=Int.max_le.mpr ⟨hm.2,by decide⟩;generalize max most 7=M at *;unfold dm;rw[xN rfl];show wsQ M (gp.G [.sh (.kl (ns.map .int)),.sh (.int at_),.sh (.int most),.no,.no,.no,.no,.no,.no,.no,.no]);unfold gp;obtain⟨f,ef⟩:=oM (ns:=ns) (k:=at_) ha;refine aK (λe=>e=[.sh (.kl (ns.map .int)),.sh (.int at_),.sh (.int most),.ow (fdV f 0 at_),.no,.no,.no,.no,.no,.no,.no]) ⟨_,by simp![ef],rfl⟩ ?_;rintro _ rfl;obtain⟨r1,a1,c1,e1,l1,u1⟩:=aB (a:=f) (b:=0) (k:=at_) (m:=if (7:Int)<most then 7 else most) (ws_b hm.1 hm.2).1 (ws_b hm.1 hm.2).2;refine aK (λe=>e=[.sh (.kl (ns.map .int)),.sh (.int at_),.sh (.int most),.ow (fdV a1 c1 at_),.sh (.int (1+r1)),.no,.no,.no,.no,.no,.no]) ⟨_,by simp![e1],rfl⟩ ?_;rintro _ rfl;have b1:1+r1<=7:=ws_c u1;obtain⟨r2,a2,c2,e2,l2,u2⟩:=aB (a:=a1) (b:=c1) (k:=at_) (m:=6) (by decide) (sm8 (by decide));refine aK (λe=>e=[.sh (.kl (ns.map .int)),.sh (.int at_),.sh (.int most),.ow (fdV a2 c2 at_),.sh (.int (1+r1)),.sh (.int r2),.no,.no,.no,.no,.no]) ⟨_,by simp![e2],rfl⟩ ?_;rintro _ rfl;refine aK (λe=>∃many:Int,1<=many/\many<=M/\e=[.sh (.kl (ns.map .int)),.sh (.int at_),.sh (.int most),.ow (fdV a2 c2 at_),.sh (.int many),.sh (.int r2),.no,.no,.no,.no,.no]) ?_ ?_
 .have mm:=cD (i:=1+r1) (j:=most) (CMulA.of (sm8 (m:=1+r1) (by omega)) (sm8 (m:=most) (by omega)) (by decide) (by decide));by_cases h:r2<2
  .have dl:((1+r1)*most).fdiv 8<=most:=by rw[Int.fdiv_eq_ediv_of_nonneg _ (by decide)];have:(1+r1)*most<=7*most:=Int.mul_le_mul_of_nonneg_right b1 (by omega);omega
   have hc:r2=0\/r2=1:=by omega
   rcases hc with rfl |rfl
   .exact⟨_,by simp![mm,div8],most,hm.1,x1,rfl⟩
   .exact⟨_,by simp![mm,div8],(if ((1+r1)*most).fdiv 8>1 then ((1+r1)*most).fdiv 8 else 1),(ws_a dl x1 x7).1,(ws_a dl x1 x7).2,rfl⟩
  .exact⟨_,by simp![B_ h],1+r1,Int.le_add_of_nonneg_right l1,Int.le_trans b1 x7,rfl⟩
 rintro _ ⟨many,m1,m2,rfl⟩;obtain⟨r3,a3,c3,e3,l3,u3⟩:=aB (a:=a2) (b:=c2) (k:=at_) (m:=6) (by decide) (sm8 (by decide));refine aK (λe=>e=[.sh (.kl (ns.map .int)),.sh (.int at_),.sh (.int most),.ow (fdV a3 c3 at_),.sh (.int many),.sh (.int r2),.sh (.int r3),.no,.no,.no,.no]) ⟨_,by simp![e3],rfl⟩ ?_;rintro _ rfl;refine aK (λe=>∃sty:Int,0<=sty/\sty<6/\(9<many->sty<3)/\e=[.sh (.kl (ns.map .int)),.sh (.int at_),.sh (.int most),.ow (fdV a3 c3 at_),.sh (.int many),.sh (.int r2),.sh (.int sty),.no,.no,.no,.no]) ?_ ?_
 .have km:=fA (i:=r3) (j:=3) (by decide);have fm:=d6 (a:=r3) (m:=3) (by decide);by_cases h:9<many
  .exact⟨_,by simp![G_ h,km],r3.fmod 3,fm.1,Int.lt_trans fm.2 (by decide),λ_=>fm.2,rfl⟩
  .exact⟨_,by simp![B_ h],r3,l3,u3,λz=>absurd z h,rfl⟩
 rintro _ ⟨sty,t0,t1,t2,rfl⟩;refine aK (λe=>e=[.sh (.kl (ns.map .int)),.sh (.int at_),.sh (.int most),.ow (fdV a3 c3 at_),.sh (.int many),.sh (.int r2),.sh (.int sty),.ow (.lst []),.no,.no,.no]) ⟨_,by simp![QO],rfl⟩ ?_;rintro _ rfl;refine aK (λe=>∃hg:Int,1<=hg/\hg<=24/\e=[.sh (.kl (ns.map .int)),.sh (.int at_),.sh (.int most),.ow (fdV a3 c3 at_),.sh (.int many),.sh (.int r2),.sh (.int sty),.ow (.lst []),.sh (.int hg),.no,.no]) ?_ ?_
 .by_cases h:9<many
  .exact⟨_,by simp![G_ h],4,by decide,by decide,rfl⟩
  .exact⟨_,by simp![B_ h],24,by decide,by decide,rfl⟩
 rintro _ ⟨hg,g1,g2,rfl⟩;have rg:=wV (i:=many) (by omega) (by omega);obtain⟨ws,s3,s8,s9,q1,q2,q3⟩:=vM (ns:=ns) (at_:=at_) (most:=most) (many:=many) (more:=r2) (sty:=sty) (hg:=hg) ha ⟨t0,t1⟩ ⟨g1,g2⟩ (List.range many.toNat) [] (.ow (fdV a3 c3 at_)) .no .no rfl rfl rfl (λk hk=>by have:=N_.mp hk;omega) (by rw[QO,v_];omega);rw[v_] at q1;rw[QZ,QQ] at q3;unfold rgV at rg;refine⟨ws,by omega,by omega,λw hw=>⟨(q2 w hw).1,(q2 w hw).2.1⟩,λh w hw=>(q2 w hw).2.2 (t2 (by omega)),?_⟩;unfold liV;simp![rg,q3];rfl
theorem uW:∀(n:Nat) (l:List Nat),l.length=n->(∀i,i<n->i∈l)->l.Perm (List.range n)
 |0,l,h,_=>by rw[List.length_eq_zero_iff.mp h];exact List.Perm.refl _
 |
  n+1,l,h,hm=>by
  have h1:=hm n (by omega);have p:=List.perm_cons_erase h1;have q:=uW n (l.erase n) (by rw[List.length_erase_of_mem h1];omega) λi hi=>(List.mem_erase_of_ne (by omega)).mpr (hm i (by omega));rw[List.range_succ];exact p.trans ((q.cons n).trans (List.perm_append_singleton n _).symm)
def zG{t:AT}{o:List Nat}{n:Nat}(T:TOk t o)(ho:∀i,i∈o ↔ i<n)(hl:o.length=n):t.lvs.Nodup:=
 (uW n t.lvs (by rw[T.len,hl]) λi hi=>(T.mem i).mpr ((ho i).mpr hi)).nodup_iff.mpr S8
def mJ{q:Rat}{k D:Nat}(hs:Sz 101 q)(hD:D=q.den*k)(hk:0<k):∃z:Int,q=(z:Rat)/((D:Int):Rat)/\z.natAbs<=2^101*D/\(0<q->0<z/\z<=((2^101:Nat):Int)*(D:Int)):=by
 have dp:=q.den_pos;have hn:q.num.natAbs<2^101:=hs.1;have hz:(q.num*(k:Int)).natAbs<=2^101*D:=by rw[Rh,Int.natAbs_natCast,hD];exact QY (by omega) (Nat.le_mul_of_pos_left _ dp)
 refine⟨q.num*(k:Int),?_,hz,λh=>⟨Int.mul_pos (vy.mpr h) (by omega),?_⟩⟩
 .have:=mD (y:=q.num) (W:=(k:Int)) dp (by omega)
  rw[Q3,<- hD] at this;rw[<- this];exact fQ q
 .rw[<- R5];generalize q.num*(k:Int)=z at *;generalize 2^101*D=y at *;omega
def ER{b:Bx}(g:Good b):∃D,D<2^404/\Rp D (2^101) (2^101) b:=by
 have dl:=b.l.den_pos;have dt:=b.t.den_pos;have dw:=b.w.den_pos;have dh:=b.h.den_pos;have sz:∀q:Rat,Sz 101 q->q.den<=2^101:=λq h=>by have:(q.den:Int).natAbs<2^101:=h.2;omega
 have k1:=RK (RK dt dw) dh;have k2:=RK (RK dl dw) dh;have k3:=RK (RK dl dt) dh;have k4:=RK (RK dl dt) dw;refine⟨b.l.den*(b.t.den*b.w.den*b.h.den),?_,RK dl k1,?_,?_,?_,?_⟩
 .have a1:b.l.den<2^101:=by have:(b.l.den:Int).natAbs<2^101:=g.sz.l.2;omega
  have a2:=QY (QY (sz _ g.sz.t) (sz _ g.sz.w)) (sz _ g.sz.h)
  calc b.l.den*(b.t.den*b.w.den*b.h.den)<=b.l.den*(2^101*2^101*2^101):=Rw _ a2
   _<2^101*(2^101*2^101*2^101):=Nat.mul_lt_mul_of_pos_right a1 (by decide)
   _=2^404:=by rw[<- RZ,<- RZ,<- RZ]
 .obtain⟨z,h1,h2,_⟩:=mJ (D:=b.l.den*(b.t.den*b.w.den*b.h.den)) g.sz.l rfl k1;exact⟨z,h1,h2⟩
 .obtain⟨z,h1,h2,_⟩:=mJ (D:=b.l.den*(b.t.den*b.w.den*b.h.den)) (k:=b.l.den*b.w.den*b.h.den) g.sz.t (by ac_rfl) k2;exact⟨z,h1,h2⟩
 .obtain⟨z,h1,_,h2⟩:=mJ (D:=b.l.den*(b.t.den*b.w.den*b.h.den)) (k:=b.l.den*b.t.den*b.h.den) g.sz.w (by ac_rfl) k3;exact⟨z,h1,h2 g.ok.w⟩
 .obtain⟨z,h1,_,h2⟩:=mJ (D:=b.l.den*(b.t.den*b.w.den*b.h.den)) (k:=b.l.den*b.t.den*b.w.den) g.sz.h (by ac_rfl) k4;exact⟨z,h1,h2 g.ok.h⟩
structure WOk(ws:List Int):Prop where
 pos:1<=ws.length
 len:ws.length<=40
 wt:∀w∈ws,1<=w/\w<=1000000000000000000000000000000
 few:10<ws.length->∀w∈ws,w<=8388608
theorem jV{ws:List Int}{M:Int}:∀{l:List Nat},(∀k∈l,ws.getD k 0<=M)->wtA ws l<=(l.length:Int)*M
 | [],_=>by simp [wtA]
 |
  k::l,h=>by
  have h1:=h k (r_ ..);have h2:=jV (l:=l) λj hj=>h j (n_ _ hj);unfold wtA at h2 ⊢;rw[t_,QS,C_,Int.natCast_add,Int.add_mul];omega
def NU{ws:List Int}{t:AT}{o:List Nat}{b:Bx}(g:Good b)(W:WOk ws)(T:TOk t o)(ho:∀i,i∈o ↔ i<ws.length)(hl:o.length=ws.length):(∀k∈t.lvs,1<=ws.getD k 0)/\∃D m,m<=104/\Rp D (2^101) (2^101) b/\(2^101+t.dep*2^101)*(D*2^(m*t.dep))<2^2000/\wtT ws t<2^m:=by
 obtain⟨D,hD,R⟩:=ER g;have hlt:∀k∈t.lvs,k<ws.length:=λk hk=>(ho k).mp ((T.mem k).mp hk);have hin:∀k∈t.lvs,ws.getD k 0∈ws:=λk hk=>by rw[K_,w_ (hlt k hk)];exact Rm _
 have hd:=T.dep;have len:=T.len;have wl:=W.len;refine⟨λk hk=>(W.wt _ (hin k hk)).1,D,?_⟩;have key:∀m,m*t.dep<=1218->m<=104->wtT ws t<2^m->∃m,m<=104/\Rp D (2^101) (2^101) b/\(2^101+t.dep*2^101)*(D*2^(m*t.dep))<2^2000/\wtT ws t<2^m:=λm h1 h2 h3=>by
  refine⟨m,h2,R,?_,h3⟩;have a1:2^101+t.dep*2^101<=2^107:=by
   have h1:=RP (2^101) (show t.dep<=40 by omega);have h2:2^107=64*2^101:=by decide
   rw[h2];generalize 2^101=X at *;omega
  have a2:2^(m*t.dep)<=2^1218:=Rv (by decide) h1;have a3:=QY a1 (QY (Sx hD) a2);refine RC a3 ?_;rw[<- RZ,<- RZ];exact Nat.pow_lt_pow_right (by decide) (by decide)
 by_cases h9:10<ws.length
 .refine key 29 (by omega) (by decide) ?_
  have:=jV (M:=8388608) λk hk=>W.few h9 _ (hin k hk)
  unfold wtT;have:(2:Int)^29=536870912:=by decide
  omega
 .refine key 104 (by omega) (by decide) ?_
  have:=jV (M:=1000000000000000000000000000000) λk hk=>(W.wt _ (hin k hk)).2
  unfold wtT;have:(2:Int)^104=20282409603651670423947251286016:=by decide
  omega
def xu{ws:List Int}{t:AT}{o:List Nat}{b:Bx}(g:Good b)(W:WOk ws)(T:TOk t o)(ho:∀i,i∈o ↔ i<ws.length)(hl:o.length=ws.length):∃m,m<=104/\AT.lay ws 2000 m t b:=by obtain⟨hw,D,m,h1,R,h2,h3⟩:=NU g W T ho hl;have len:=T.len;have wl:=W.len;exact⟨m,h1,Mj t b D (2^101) R (p_ _) (by decide) h2 T.ok hw h3 (by omega)⟩
theorem v9(m:Int):∀xs:List Int,ox (.int m) (xs.map .int)=some (xs.map (· == m))
 | []=>rfl
 |x::xs=>by rw[t_,ox,v9 m xs,E4];rfl
def Bp{xs:List Int}{m:Int}(h:m∈xs):(xs.map (· == m)).idxOf true<xs.length/\kU.G (.lst (xs.map .int)) [.int m]=.val (.int ((xs.map (· == m)).idxOf true:Nat)):=by have hm:true∈xs.map (· == m):=QX.mpr ⟨m,h,Ta m⟩;have hl:=List.idxOf_lt_length_iff.mpr hm;refine⟨by rw[m_] at hl;exact hl,?_⟩;show ja (.lst (xs.map .int)) [.int m]=_;unfold ja;dsimp only;rw[v9];dsimp only;rw[if_pos hl]
def apt(ws:List Int):List Int:=(List.range (ws.length-1)).map λi=>((2*(ws.take (i+1)).sum-ws.sum).natAbs:Int)
def g9(ws:List Int):Nat:=((apt ws).map (· == mnI (apt ws))).idxOf true+1
def we(ws:List Int):(apt ws).length=ws.length-1:=by unfold apt;rw[m_,v_]
def oD{ws:List Int}(h:2<=ws.length):apt ws≠[]/\1<=g9 ws/\g9 ws<ws.length/\kU.G (liV (apt ws)) [.int (mnI (apt ws))]=.val (.int ((g9 ws-1:Nat):Int)):=by
 have hl:=we ws;have h0:apt ws≠[]:=λz=>by rw[z] at hl;simp at hl;omega
 obtain⟨h1,h2⟩:=Bp (n8 h0);refine⟨h0,by unfold g9;omega,by unfold g9;omega,?_⟩;unfold g9 liV;rw[Nat.add_sub_cancel];exact h2
def IT{ws:List Int}(hl:ws.length<=1000):∃s,lcV (gtN 0).G qY.G (pFn eG (aa (pOp fg (pOp bq (ah 2) (pFn cJ (aa (pSl (af 1) oN (oS (af 0))) ag))) (pFn cJ (aa (af 1) ag))) ag)).G (ka 1 (ws.length-1)) [] [.no,.sh (liV ws)]=.ok ((apt ws).map .int) [s,.sh (liV ws)]:=by
 obtain⟨e',⟨s,rfl,_⟩,lc⟩:=dk (g:=(gtN 0).G) (F:=(pFn eG (aa (pOp fg (pOp bq (ah 2) (pFn cJ (aa (pSl (af 1) oN (oS (af 0))) ag))) (pFn cJ (aa (af 1) ag))) ag)).G) (λi:Nat=>Val.int (1+(i:Nat))) (λi:Nat=>Val.int ((2*(ws.take (i+1)).sum-ws.sum).natAbs:Int)) (λe=>∃s:Sl,e=[s,.sh (liV ws)]/\s.pl=true) (List.range (ws.length-1)) [] [.no,.sh (liV ws)] ⟨.no,rfl,rfl⟩ (by
  rintro i hi _ ⟨s,rfl,hs⟩;have ic:(1:Int)+(i:Nat)=((i+1:Nat):Int):=by omega
  have ct:=gi (ws.map Val.int) (i+1);rw[<- Q8] at ct;have c2:bq.G (.int 2) (.int (ws.take (i+1)).sum)=.val (.int (2*(ws.take (i+1)).sum)):=cD (CMulA.left (by decide) (by decide));refine⟨[.sh (.int (1+(i:Nat))),.sh (liV ws)],.val (.int ((2*(ws.take (i+1)).sum-ws.sum).natAbs:Int)),[.sh (.int (1+(i:Nat))),.sh (liV ws)],?_,?_,rfl,_,rfl,rfl⟩
  .generalize liV ws=wv;simp![hs]
  .unfold liV;rw[ic];have m1:=cn ws;have m2:=cn (ws.take (i+1));have ab:∀x:Int,(if x<0 then -x else x)=(x.natAbs:Int):=λx=>by split <;> omega
   generalize ((ws.take (i+1)).map Val.int)=w1 at *;generalize ws.map Val.int=w2 at *;simp![fq,ct,m1,m2,c2,ab]) (by rw[QO,v_];omega)
 rw[QZ] at lc;refine⟨s,lc.trans ?_⟩;unfold apt;rw[Q9];rfl
def Jy{n:Nat}(h:n<=1000):oP [.int 1,.int (n:Nat)]=some (ka 1 (n-1)):=by have e:((n:Nat):Int)-1=((n:Int)-1):=rfl;rw[show oP [.int 1,.int (n:Nat)]=some (ka 1 (((n:Nat):Int)-1).toNat) from if_pos ⟨⟨by decide,by decide⟩,⟨by omega,by omega⟩⟩];congr 2;omega
def zb{ws:List Int}(h2:2<=ws.length)(hl:ws.length<=1000):bE.G [liV ws]=.ok (.val (.int (g9 ws:Nat))) []:=by
 obtain⟨h0,h1,h3,ix⟩:=oD h2;obtain⟨s,lc⟩:=IT hl;have mn:=Nm h0;have rg:=Jy (n:=ws.length) hl;have ll:((ws.map Val.int).length:Nat)=ws.length:=m_ ..;have al:((apt ws).map Val.int).length<=16777216:=by rw[m_,we];omega
 have e1:((g9 ws-1:Nat):Int)+1=(g9 ws:Nat):=by omega
 unfold bE;rw[aA];unfold gw;unfold liV at lc ix ⊢;rw[<- e1];generalize (apt ws).map Val.int=av at *;generalize ws.map Val.int=wv at *;simp![ll,rg,b0,inS,lc,al,mn,ix]
def Cu{xs:List Int}{k:Nat}:bq.G (.int 3) (.int (xs.take k).sum)=.val (.int (3*(xs.take k).sum)):=cD (CMulA.left (by decide) (by decide))
theorem tM{xs:List Int}(hs:1<=xs.sum):∀f k,k+f=xs.length->(xWh (qOf (pOp bLt (pOp bq (ah 3) (pFn cJ (aa (pSl (af 0) oN (oS (af 1))) ag))) (pFn cJ (aa (af 0) ag)))) cI).G [.sh (liV xs),.sh (.int (k:Nat))]=.nx [.sh (liV xs),.sh (.int (thN xs f k:Nat))]
 |
  f,k,hf=>by
  have ct:=gi (xs.map Val.int) k;rw[<- Q8] at ct;have m1:=cn xs;have m2:=cn (xs.take k);have fc:=Cu (xs:=xs) (k:=k);rw[gu];by_cases hl:3*(xs.take k).sum<xs.sum
  .cases f with
   |zero=>rw[Ri (by omega)] at hl;omega
   |
    succ f=>
    have d1:=G_ hl;have ih:=tM hs f (k+1) (by omega);have k1:((k:Nat):Int)+1=((k+1:Nat):Int):=by omega
    have bb:cI.G [.sh (liV xs),.sh (.int (k:Nat))]=.nx [.sh (liV xs),.sh (.int ((k+1:Nat):Int))]:=by unfold cI;generalize liV xs=xv;simp![k1]
    rw[thN,if_pos hl];unfold liV at ih bb ⊢;generalize (xs.take k).map Val.int=w1 at *;generalize xs.map Val.int=w2 at *;simp![fq,ct,m1,m2,fc,d1,bb,ih]
  .have d1:=B_ hl;have e:thN xs f k=k:=by
    cases f with
    |zero=>rfl
    |succ f=>rw[thN,if_neg hl]
   rw[e];unfold liV;generalize (xs.take k).map Val.int=w1 at *;generalize xs.map Val.int=w2 at *;simp![fq,ct,m1,m2,fc,d1]
def zL{xs:List Int}(h1:1<=xs.length)(hs:1<=xs.sum):bF.G [liV xs]=.ok (.val (.int (jF xs:Nat))) []:=by have lo:=tM hs (xs.length-1) 1 (by omega);rw[show thN xs (xs.length-1) 1=jF xs from rfl,show ((1:Nat):Int)=1 from rfl] at lo;unfold bF;rw[aA];unfold gx;generalize liV xs=xv at *;simp![lo]
def rD:HowM g9 "nearest_to_half" λ_=>True:=⟨λ_ _ _=>trivial,λ_ _ _=>trivial,λxs _ h2 _=>⟨(oD h2).2.1,(oD h2).2.2.1⟩,λxs bv lv _ h2 h40 hp=>by
 have ne:=zb h2 (by omega);have nq:(("nearest_to_half" : Str) == "nearest_to_half")=true:=by decide
 generalize liV xs=xv at *;simp![nq,ne]⟩
def pD:HowM jF "fewest_to_third" λxs=>xs.Pairwise λx y=>y<=x:=⟨λ_ _ h=>h.sublist (List.take_sublist ..),λ_ _ h=>h.sublist (List.drop_sublist ..),λxs h h2 hp=>B7 h2 hp h,λxs bv lv _ h2 h40 hp=>by
 have sn:=dB hp;have ne:=zL (xs:=xs) (by omega) (by omega);have nq:(("nearest_to_half" : Str) == "fewest_to_third")=false:=by decide
 have nr:(("fewest_to_third" : Str) == "nearest_to_half")=false:=by decide
 have ns:(("fewest_to_third" : Str) == "fewest_to_third")=true:=by decide
 generalize liV xs=xv at *;simp![nq,nr,ns,ne]⟩
def mxL:List Rat->Rat
 | []=>0
 |x::xs=>xs.foldl mx x
theorem zB{n:Nat}:∀(xs:List Rat) (a:Rat),Sz n a->(∀x∈xs,Sz n x)->Sz n (xs.foldl mx a)
 | [],a,h,_=>h
 |
  x::xs,a,h,hx=>by
  rw[List.foldl_cons];refine zB xs _ ?_ λy hy=>hx y (n_ _ hy);unfold mx;split
  .exact hx x (r_ ..)
  .exact h
theorem mO{n:Nat}(hn:n<=100000){v:Val}:∀(xs:List Rat) (a:Rat) (s:Sl),s.pl=true->Sz n a->(∀x∈xs,Sz n x)->∃s',fJ (gtN 2).G eE.G (xs.map fV) [.sh v,.sh (fV a),s]=.nx [.sh v,.sh (fV (xs.foldl mx a)),s']
 | [],a,s,_,_,_=>⟨s,by rw[QQ,gF];rfl⟩
 |
  x::xs,a,s,hs,ha,hx=>by
  have hx0:=hx x (r_ ..);have il:=jv ha hx0 hn hn;have hm:Sz n (mx a x):=by
   unfold mx;split
   .exact hx0
   .exact ha
  obtain⟨s',ih⟩:=mO hn (v:=v) xs (mx a x) (.sh (fV x)) rfl hm λy hy=>hx y (n_ _ hy);refine⟨s',?_⟩;have bb:eE.G [.sh v,.sh (fV a),.sh (fV x)]=.nx [.sh v,.sh (fV (mx a x)),.sh (fV x)]:=by
   unfold eE mx;by_cases hl:a<x
   .rw[G_ hl] at il;rw[if_pos hl];simp![il]
   .rw[B_ hl] at il;rw[if_neg hl];simp![il]
  have g1:(gtN 2).G (fV x) [.sh v,.sh (fV a),s]=some [.sh v,.sh (fV a),.sh (fV x)]:=by simp![hs]
  rw[t_,fb,g1];simp only[bb,yD];rw[ih];rfl
def vn{n:Nat}(hn:n<=100000){qs:List Rat}(h0:qs≠[])(hq:∀q∈qs,Sz n q):dq.G [.lst (qs.map fV)]=.ok (.val (fV (mxL qs))) []:=by
 cases qs with
 |nil=>exact absurd rfl h0
 |
  cons q qs=>
  have hq0:=hq q (r_ ..);obtain⟨s',lo⟩:=mO hn (v:=.lst ((q::qs).map fV)) (q::qs) q .no rfl hq0 hq;have e:(q::qs).foldl mx q=mxL (q::qs):=by rw[List.foldl_cons,show mx q q=q from if_neg Rat.lt_irrefl];rfl
  rw[e] at lo;have a0:atI ((q::qs).map fV) 0=some (fV q):=eU (by decide) rfl;generalize mxL (q::qs)=r at *;generalize (q::qs).map fV=qv at *;unfold dq;rw[aA];unfold jQ;simp![a0,lo]
def tL{P:PFn}{bs:List Bx}(h:∀c∈bs,P.G [bV c]=.ok (.val (fV (aS c))) [])(hm:P.ms=[false])(hl:bs.length<=1000):∃s,lcV (gtN 0).G qY.G (ai P (aa (af 0) ag)).G (bs.map bV) [] [.no]=.ok ((bs.map aS).map fV) [s]:=by
 obtain⟨e',⟨s,rfl,_⟩,lc⟩:=dk (g:=(gtN 0).G) (F:=(ai P (aa (af 0) ag)).G) bV (λc=>fV (aS c)) (λe=>∃s:Sl,e=[s]/\s.pl=true) bs [] [.no] ⟨.no,rfl,rfl⟩ (by
  rintro c hc _ ⟨s,rfl,hs⟩;have hp:=h c hc;refine⟨[.sh (bV c)],.val (fV (aS c)),[.sh (bV c)],?_,?_,rfl,_,rfl,rfl⟩
  .simp![hs]
  .simp![hm,hp]) (by rw[QO];omega)
 rw[QZ] at lc;refine⟨s,?_⟩;rw[Q9];exact lc
def tZ(w:Bool):dG.G [.str (wy w)]=.ok (.val (.str (wy !w))) []:=by
 unfold dG;rw[aA];unfold lF;cases w
 .rw[show wy (!false)="across" from rfl,show wy false="down" from rfl];simp![uI]
 .rw[show wy (!true)="down" from rfl,show wy true="across" from rfl];simp![sM]
def iK(b:Bx)(xs:List Int)(k:Nat):Bx:=if k<xs.length then bc b (lwB b) ((xs.take k).sum+(xs.drop k).sum) 0 (xs.take k).sum else b
def eL(b:Bx)(xs:List Int)(k:Nat):List Bx:=ay (iK b xs k) (wy !lwB b) (xs.take k)
def bG(b:Bx)(xs:List Int)(k:Nat):Rat:=mxL ((eL b xs k).map aS)
structure RwIn(m B:Nat)(b:Bx)(xs:List Int):Prop where
 hm:m<=104
 bd:Bd m B b xs.length
 pos:∀w∈xs,1<=w
 sum:xs.sum<2^m
 len:xs.length<=40
def RwIn.two{m B:Nat}{b:Bx}{xs:List Int}(h:RwIn m B b xs){k:Nat}(h1:1<=k)(h2:k<xs.length):1<=(xs.take k).sum/\1<=(xs.drop k).sum/\(xs.take k).sum+(xs.drop k).sum<2^m:=by
 have a1:=dB (l:=xs.take k) λw hw=>h.pos w (Q5 hw);have a2:=dB (l:=xs.drop k) λw hw=>h.pos w (Ru hw);have a3:(xs.take k).sum+(xs.drop k).sum=xs.sum:=by rw[<- Sk,Q2]
 rw[QJ] at a1;rw[QL] at a2
 have:=h.sum
 refine⟨by omega,by omega,by rw[a3];exact this⟩
def RwIn.cut{m B:Nat}{b:Bx}{xs:List Int}(h:RwIn m B b xs){k:Nat}(h1:1<=k)(h2:k<xs.length){c:Bx}(hc:c∈[bc b (lwB b) ((xs.take k).sum+(xs.drop k).sum) 0 (xs.take k).sum,bc b (lwB b) ((xs.take k).sum+(xs.drop k).sum) (xs.take k).sum (xs.drop k).sum]){j:Nat}(hj:j<xs.length):Bd m B c j:=by
 obtain⟨a1,a2,a3⟩:=h.two h1 h2;exact
  h.bd.part (way:=wy (lwB b)) (ws:=[(xs.take k).sum,(xs.drop k).sum]) (λw hw=>by
  rcases I_.mp hw with rfl |hw
  .exact a1
  .rw[Q6.mp hw];exact a2) (by rw[show [(xs.take k).sum,(xs.drop k).sum].sum=(xs.take k).sum+(xs.drop k).sum from by simp];exact a3) (by rw[j5];exact hc) hj
def RwIn.row{m B:Nat}{b:Bx}{xs:List Int}(h:RwIn m B b xs){k:Nat}(h1:1<=k)(h2:k<=xs.length):∃j,1<=j/\Bd m B (iK b xs k) j:=by
 unfold iK;by_cases hk:k<xs.length
 .rw[if_pos hk];exact⟨k,h1,h.cut h1 hk (r_ ..) hk⟩
 .rw[if_neg hk];exact⟨xs.length,by omega,h.bd⟩
def RwIn.take{m B:Nat}{b:Bx}{xs:List Int}(h:RwIn m B b xs){k:Nat}:(xs.take k).sum<2^m:=by
 have a2:=dB (l:=xs.drop k) λw hw=>h.pos w (Ru hw);have a3:(xs.take k).sum+(xs.drop k).sum=xs.sum:=by rw[<- Sk,Q2]
 have:=h.sum
 omega
def zF(b:Bx)(w:Bool)(xs:List Int):(ay b (wy w) xs).length=xs.length:=by rw[cG,vP]
def RwIn.boxes{m B:Nat}{b:Bx}{xs:List Int}(h:RwIn m B b xs){k:Nat}(h1:1<=k)(h2:k<=xs.length):∀c∈eL b xs k,c.Ok/\c.Sz 2000:=λc hc=>by
 obtain⟨j,hj,hB⟩:=h.row h1 h2
 have:=hB.part (λw hw=>h.pos w (Q5 hw)) h.take hc (show 0<j by omega)
 exact⟨this.ok,this.sz⟩
def RwIn.len'{m B:Nat}{b:Bx}{xs:List Int}(h:RwIn m B b xs){k:Nat}(h2:k<=xs.length):(eL b xs k).length=k:=by unfold eL;rw[zF,QJ];omega
def RwIn.shp{m B:Nat}{b:Bx}{xs:List Int}(h:RwIn m B b xs){k:Nat}(h1:1<=k)(h2:k<=xs.length):(eL b xs k).map aS≠[]/\∀q∈(eL b xs k).map aS,Sz 4000 q:=by
 have:=h.len' h2
 refine⟨λz=>?_,λq hq=>?_⟩
 .have:=QW List.length z
  rw[m_,QO] at this;omega
 .obtain⟨c,hc,rfl⟩:=QX.mp hq;obtain⟨c1,c2⟩:=h.boxes h1 h2 c hc;exact JE c1 c2
def RwIn.wsz{m B:Nat}{b:Bx}{xs:List Int}(h:RwIn m B b xs){k:Nat}(h1:1<=k)(h2:k<=xs.length):Sz 4000 (bG b xs k):=by
 obtain⟨q1,q2⟩:=h.shp h1 h2;unfold bG;cases hq:(eL b xs k).map aS with
 |nil=>exact absurd hq q1
 |cons q qs=>rw[hq] at q2;exact zB qs q (q2 q (r_ ..)) λx hx=>q2 x (n_ _ hx)
def j3{m B:Nat}{b:Bx}{xs:List Int}(h:RwIn m B b xs){k:Nat}(h1:1<=k)(h2:k<=xs.length):cq.G [bV b,liV xs,.int (k:Nat)]=.ok (.val (fV (bG b xs k))) []:=by
 obtain⟨j,hj,hB⟩:=h.row h1 h2;have hm:=h.hm;have bi:=h.len;have lw:=dC h.bd.ok h.bd.sz (by decide);have ow:=tZ (lwB b);have tl:(xs.take k).length=k:=by rw[QJ];omega
 have tp:=dB (l:=xs.take k) λw hw=>h.pos w (Q5 hw);have pe:=jW (way:=wy !lwB b) (ws:=xs.take k) (m:=m) hB.ok hB.sz (zE _) (λz=>by rw[z] at tl;simp at tl;omega) (λw hw=>h.pos w (Q5 hw)) (Ag (by omega) h.take) (by omega) (by omega);rw[show ay (iK b xs k) (wy !lwB b) (xs.take k)=eL b xs k from rfl] at pe;have bl:=h.len' h2;obtain⟨s,lc⟩:=tL (P:=eD) (bs:=eL b xs k) (λc hc=>mw (h.boxes h1 h2 c hc).1 (h.boxes h1 h2 c hc).2 (by decide)) rfl (by omega);obtain⟨q1,q2⟩:=h.shp h1 h2;have ge:=vn (by decide) q1 q2;rw[show mxL ((eL b xs k).map aS)=bG b xs k from rfl] at ge;have sl:(((eL b xs k).map aS).map fV).length<=16777216:=by rw[m_,m_];omega
 have ct:=gi (xs.map Val.int) k;rw[<- Q8] at ct;have lx:((xs.map Val.int).length:Nat)=xs.length:=m_ ..;unfold cq;rw[aA];unfold i4;by_cases hk:k<xs.length
 .obtain⟨a1,a2,a3⟩:=h.two h1 hk;have ct2:=jh h.bd hm a1 a2 a3;rw[show bc b (lwB b) ((xs.take k).sum+(xs.drop k).sum) 0 (xs.take k).sum=iK b xs k from (if_pos hk).symm] at ct2;have c1:decide (((k:Nat):Int)<((xs.length:Nat):Int))=true:=G_ (by omega);unfold liV at ct2 ⊢;generalize bV (bc b (lwB b) ((xs.take k).sum+(xs.drop k).sum) (xs.take k).sum (xs.drop k).sum)=b2 at *;generalize bV (iK b xs k)=b1 at *;generalize ((eL b xs k).map aS).map fV=sv at *;generalize (eL b xs k).map bV=bs at *;generalize (xs.take k).map Val.int=w1 at *;generalize xs.map Val.int=w3 at *;generalize bV b=bv at *;generalize wy (!lwB b)=y1 at *;generalize wy (lwB b)=yy at *;generalize bG b xs k=rr at *;simp![lx,c1,ct2,lw,ow,fq,ct,pe,lc,sl,ge]
 .have c1:decide (((k:Nat):Int)<((xs.length:Nat):Int))=false:=B_ (by omega);rw[show iK b xs k=b from if_neg hk] at pe;unfold liV;generalize ((eL b xs k).map aS).map fV=sv at *;generalize (eL b xs k).map bV=bs at *;generalize (xs.take k).map Val.int=w1 at *;generalize xs.map Val.int=w3 at *;generalize bV b=bv at *;generalize wy (!lwB b)=y1 at *;generalize wy (lwB b)=yy at *;generalize bG b xs k=rr at *;simp![lx,c1,lw,ow,fq,ct,pe,lc,sl,ge]
def fB(b:Bx)(xs:List Int):Nat->Nat->Nat
 |0,k=>k
 |f+1,k=>if k<xs.length then (if bG b xs k<bG b xs (k+1) then k else fB b xs f (k+1)) else k
theorem wW(b:Bx)(xs:List Int):∀f k,k<=xs.length->k<=fB b xs f k/\fB b xs f k<=xs.length
 |0,k,h=>⟨p_ _,h⟩
 |
  f+1,k,h=>by
  rw[fB];split
  .split
   .omega
   .have:=wW b xs f (k+1) (by omega)
    omega
  .omega
theorem sV{m B:Nat}{b:Bx}{xs:List Int}(h:RwIn m B b xs):∀(f k:Nat) (s:Sl),s.pl=true->xs.length<=k+f->1<=k->k<=xs.length->∃s3 s4,(xWh (qOf (pOp bLt (af 2) (pFn bj (aa (af 1) ag)))) dn).G [.sh (bV b),.sh (liV xs),.sh (.int (k:Nat)),.sh (fV (bG b xs k)),s]=.nx [.sh (bV b),.sh (liV xs),.sh (.int (fB b xs f k:Nat)),s3,s4]
 |
  f,k,s,hs,hf,h1,h2=>by
  have lx:((xs.map Val.int).length:Nat)=xs.length:=m_ ..;by_cases hk:k<xs.length
  .cases
    f with
   |zero=>omega
   |
    succ f=>
    have c1:decide (((k:Nat):Int)<((xs.length:Nat):Int))=true:=G_ (by omega);have k1:((k:Nat):Int)+1=((k+1:Nat):Int):=by omega
    have wr:=j3 h (k:=k+1) (by omega) (by omega);have il:=jv (h.wsz h1 h2) (h.wsz (k:=k+1) (by omega) (by omega)) (by decide) (by decide);obtain⟨s3,s4,ih⟩:=sV h f (k+1) (.sh (fV (bG b xs (k+1)))) rfl (by omega) (by omega) (by omega);rw[fB,if_pos hk];by_cases hl:bG b xs k<bG b xs (k+1)
    .rw[if_pos hl];rw[G_ hl] at il;refine⟨.sh (fV (bG b xs k)),.sh (fV (bG b xs (k+1))),?_⟩;rw[gu];unfold dn;unfold liV at wr ⊢;generalize xs.map Val.int=w3 at *;generalize bV b=bv at *;generalize fV (bG b xs (k+1))=r1 at *;generalize fV (bG b xs k)=r0 at *;simp![hs,lx,c1,k1,wr,il]
    .rw[if_neg hl];rw[B_ hl] at il;refine⟨s3,s4,?_⟩;have bb:dn.G [.sh (bV b),.sh (liV xs),.sh (.int (k:Nat)),.sh (fV (bG b xs k)),s]=.nx [.sh (bV b),.sh (liV xs),.sh (.int ((k+1:Nat):Int)),.sh (fV (bG b xs (k+1))),.sh (fV (bG b xs (k+1)))]:=by unfold dn;generalize liV xs=w3 at *;generalize bV b=bv at *;generalize fV (bG b xs (k+1))=r1 at *;generalize fV (bG b xs k)=r0 at *;simp![hs,k1,wr,il]
     rw[gu];unfold liV at bb ih ⊢;generalize xs.map Val.int=w3 at *;generalize bV b=bv at *;generalize fV (bG b xs (k+1))=r1 at *;generalize fV (bG b xs k)=r0 at *;simp![lx,c1,bb,ih]
  .have c1:decide (((k:Nat):Int)<((xs.length:Nat):Int))=false:=B_ (by omega);refine⟨.sh (fV (bG b xs k)),s,?_⟩;have e:fB b xs f k=k:=by
    cases f with
    |zero=>rfl
    |succ f=>rw[fB,if_neg hk]
   rw[e,gu];unfold liV;generalize xs.map Val.int=w3 at *;simp![lx,c1]
def row(b:Bx)(xs:List Int):Nat:=fB b xs xs.length 1
def ui{b:Bx}{xs:List Int}(h:1<=xs.length):1<=row b xs/\row b xs<=xs.length:=wW b xs _ 1 h
def qg{m B:Nat}{b:Bx}{xs:List Int}(h:RwIn m B b xs)(h1:1<=xs.length):eg.G [bV b,liV xs]=.ok (.val (.int (row b xs:Nat))) []:=by have wr:=j3 h (k:=1) (by omega) (by omega);obtain⟨s3,s4,lo⟩:=sV h xs.length 1 .no rfl (by omega) (by omega) (by omega);rw[show fB b xs xs.length 1=row b xs from rfl] at lo;unfold eg;rw[aA];unfold jS;rw[show ((1:Nat):Int)=1 from rfl] at wr lo;generalize liV xs=w3 at *;generalize bV b=bv at *;generalize fV (bG b xs 1)=r0 at *;simp![wr,lo]
def d9(b:Bx)(l:List Nat):AT:=if l.length=1 then .lf (l.headD 0) else .nd (!lwB b) (l.map .lf)
def Ho(b:Bx)(l:List Nat):atV (.nd (!lwB b) (l.map .lf))=.tup [.str (wy !lwB b),.tup (l.map λk:Nat=>Val.int k)]:=by unfold atV;rw[AT.val,AT.vals_map,Q9];rfl
def vd{b:Bx}{l:List Nat}{n:Nat}(hb:b.Ok)(hs:b.Sz n)(h:n<=8000)(hl:1<=l.length)(hl2:l.length<=1000):du.G [bV b,itV l]=.ok (.val (atV (d9 b l))) []:=by
 have lw:=dC hb hs h;have ow:=tZ (lwB b);have ll:((l.map λk:Nat=>Val.int k).length:Nat)=l.length:=m_ ..;unfold du d9;rw[aA];unfold jN;by_cases h1:l.length=1
 .obtain⟨k,rfl⟩:=RY.mp h1;have a0:atI [Val.int (k:Nat)] 0=some (.int (k:Nat)):=eU (by decide) rfl;rw[if_pos h1,show atV (.lf ([k].headD 0))=.int (k:Nat) from rfl,show itV [k]=.lst [.int (k:Nat)] from rfl];simp![a0]
 .have n1:(((l.length:Nat):Int)==1)=false:=by rw[E_];omega
  rw[if_neg h1,Ho];unfold itV;generalize wy (!lwB b)=y1 at *;generalize wy (lwB b)=yy at *;generalize (l.map λk:Nat=>Val.int k)=l0 at *;generalize bV b=bv at *;simp![ll,n1,lw,ow]
def rwT(ws:List Int):Nat->Bx->List Nat->AT
 |0,_,l=>.lf (l.headD 0)
 |N+1,b,l=>if row b (l.map λk=>ws.getD k 0)=l.length then d9 b l else .nd (lwB b) [d9 b (l.take (row b (l.map λk=>ws.getD k 0))),rwT ws N (bc b (lwB b) (((l.map λk=>ws.getD k 0).take (row b (l.map λk=>ws.getD k 0))).sum+((l.map λk=>ws.getD k 0).drop (row b (l.map λk=>ws.getD k 0))).sum) ((l.map λk=>ws.getD k 0).take (row b (l.map λk=>ws.getD k 0))).sum ((l.map λk=>ws.getD k 0).drop (row b (l.map λk=>ws.getD k 0))).sum) (l.drop (row b (l.map λk=>ws.getD k 0)))]
theorem E1:∀l:List Nat,AT.okL (l.map .lf)=true/\AT.lvsL (l.map .lf)=l/\AT.depL (l.map .lf)<=1
 | []=>⟨rfl,rfl,by decide⟩
 |
  k::l=>by
  obtain⟨a,b,c⟩:=E1 l;rw[t_];refine⟨?_,?_,?_⟩
  .rw[AT.okL,a];rfl
  .rw[AT.lvsL,b];rfl
  .rw[AT.depL,AT.dep];omega
def kZ(b:Bx){l:List Nat}(hl:1<=l.length):(d9 b l).ok=true/\(d9 b l).lvs=l/\(d9 b l).dep<=l.length/\(d9 b l).dep<=2:=by
 unfold d9;by_cases h1:l.length=1
 .obtain⟨k,rfl⟩:=RY.mp h1;rw[if_pos h1];exact⟨rfl,rfl,by simp [AT.dep],by simp [AT.dep]⟩
 .rw[if_neg h1];obtain⟨a1,a2,a3⟩:=E1 l;refine⟨?_,?_,?_,?_⟩
  .simp [AT.ok,a1];omega
  .rw[AT.lvs,a2]
  .rw[AT.dep];omega
  .rw[AT.dep];omega
def Pk{l:List Nat}{i:Nat}(hn:l.length<=40)(h1:1<=l.length)(h2:1<=i):1<=(l.take i).length/\(l.take i).length<=1000:=by rw[QJ];omega
theorem oy{ws:List Int}{m B:Nat}(hm:m<=104)(hS:∀l:List Nat,(∀k∈l,k<ws.length)->l.length<=ws.length->wtA ws l<2^m)(hw:∀w∈ws,1<=w)(hn:ws.length<=40):∀(N:Nat) (l:List Nat) (b:Bx),l.length<=N->1<=l.length->l.length<=ws.length->(∀k∈l,k<ws.length)->Bd m B b l.length->
 (aR N).G [bV b,itV l,liV (l.map λk=>ws.getD k 0)]=.ok (.val (atV (rwT ws N b l))) []/\(rwT ws N b l).ok=true/\(rwT ws N b l).lvs=l/\(rwT ws N b l).dep<=l.length
 |0,l,b,h0,h1,_,_,_=>by omega
 |
  N+1,l,b,h0,h1,hl,hi,hB=>by
  have hp:∀k∈l,1<=ws.getD k 0:=λj hj=>by rw[K_,w_ (hi j hj)];exact hw _ (Rm _)
  have xl:(l.map λk=>ws.getD k 0).length=l.length:=m_ ..;have hR:RwIn m B b (l.map λk=>ws.getD k 0):=⟨hm,by rw[xl];exact hB,λw hw=>by obtain⟨k,hk,rfl⟩:=QX.mp hw;exact hp k hk,hS l hi hl,by rw[xl];exact F_ hl hn⟩;obtain⟨r1,r2⟩:=ui (b:=b) (xs:=l.map λk=>ws.getD k 0) (by rw[xl];exact h1);have re:=qg hR (by rw[xl];exact h1);have te:rwT ws (N+1) b l=_:=rwT.eq_2 ws b l N;rw[xl] at r2;have ll:((l.map λk:Nat=>Val.int k).length:Nat)=l.length:=m_ ..;have lw:=dC hB.ok hB.sz (by decide);have ctl:=gi (l.map λk:Nat=>Val.int k) (row b (l.map λk=>ws.getD k 0));have cdl:=gK (l.map λk:Nat=>Val.int k) (row b (l.map λk=>ws.getD k 0));rw[<- Q8] at ctl;rw[<- Rr] at cdl;have two:∀k,k<l.length->1<=k->_:=λk h1 h2=>hR.two (k:=k) h2 (by rw[xl];exact h1);have cut:∀k,k<l.length->1<=k->∀c,c∈_->∀j,j<l.length->Bd m B c j:=λk h1 h2 c hc j hj=>hR.cut (k:=k) h2 (by rw[xl];exact h1) hc (by rw[xl];exact hj);rw[te];generalize hi0:row b (l.map λk=>ws.getD k 0)=i at *;obtain⟨k1,k2⟩:=Pk (F_ hl hn) h1 r1;have tr:=vd (l:=l.take i) hB.ok hB.sz (by decide) k1 k2;obtain⟨o1,o2,o3,o4⟩:=kZ b (l:=l.take i) k1;by_cases hk:i=l.length
  .rw[if_pos hk];have et:l.take i=l:=Ri (Nat.le_of_eq hk.symm);rw[et] at o1 o2 o3 o4 tr ctl;have q1:(((i:Nat):Int)==((l.length:Nat):Int))=true:=by rw[QP,hk]
   refine⟨?_,o1,o2,o3⟩
   .show (PFx.of [false,false,false] 6 (cu (aR N))).G _=_;rw[kT];unfold cu;unfold itV at tr ⊢;generalize atV (d9 b l)=tv at *;generalize liV (l.map λk=>ws.getD k 0)=x0 at *;generalize (l.map λk:Nat=>Val.int k)=l0 at *;generalize bV b=bv at *;simp![re,fq,ctl,tr,ll,q1]
  .rw[if_neg hk];have q1:(((i:Nat):Int)==((l.length:Nat):Int))=false:=by rw[E_];exact λz=>hk (Int.ofNat.inj z)
   have hi2:i<l.length:=Nat.lt_of_le_of_ne r2 hk;obtain⟨p1,p2,p3⟩:=two i hi2 r1;have pm:=cut i hi2 r1;have ct2:=jh hR.bd hm p1 p2 p3;have ctx:=gi ((l.map λk=>ws.getD k 0).map Val.int) i;have cdx:=gK ((l.map λk=>ws.getD k 0).map Val.int) i;rw[<- Q8] at ctx;rw[<- Rr] at cdx;obtain⟨_,d1,d2,d3,d4⟩:=BE h0 r1 hi2 hl;obtain⟨b1,b3,b4,b5⟩:=oy hm hS hw hn N (l.drop i) _ d1 d2 d3 (λj hj=>hi j (Ru hj)) (pm _ (n_ _ (r_ ..)) _ d4);rw[Rr] at b1;generalize rwT ws N (bc b (lwB b) (((l.map λk=>ws.getD k 0).take i).sum+((l.map λk=>ws.getD k 0).drop i).sum) ((l.map λk=>ws.getD k 0).take i).sum ((l.map λk=>ws.getD k 0).drop i).sum) (l.drop i)=T2 at *;refine⟨?_,?_,?_,?_⟩
   .show (PFx.of [false,false,false] 6 (cu (aR N))).G _=_;rw[kT];unfold cu;rw[show atV (.nd (lwB b) [d9 b (l.take i),T2])=.tup [.str (wy (lwB b)),.tup [atV (d9 b (l.take i)),atV T2]] from rfl];generalize atV (d9 b (l.take i))=tv at *;generalize atV T2=tv2 at *;generalize wy (lwB b)=yy at *;generalize bV (bc b (lwB b) _ 0 _)=B1 at *;generalize bV (bc b (lwB b) _ _ _)=B2 at *;unfold itV at tr b1 ⊢;unfold liV at re ct2 b1 ⊢;generalize ((l.map λk=>ws.getD k 0).take i).map Val.int=x1 at *;generalize ((l.map λk=>ws.getD k 0).drop i).map Val.int=x2 at *;generalize (l.map λk=>ws.getD k 0).map Val.int=x0 at *;generalize ((l.take i).map λk:Nat=>Val.int k)=l1 at *;generalize ((l.drop i).map λk:Nat=>Val.int k)=l2 at *;generalize (l.map λk:Nat=>Val.int k)=l0 at *;generalize bV b=bv at *;simp![re,fq,ctl,tr,ll,q1,ct2,lw,cdl,cdx,b1]
   .simp [AT.ok,AT.okL,o1,b3]
   .rw[AT.lvs,AT.lvsL,AT.lvsL,AT.lvsL,o2,b4,QU,Q2]
   .exact wU r1 hi2 o3 b5
def Ga{ws:List Int}(hl:ws.length<64):aF.G [liV ws]=.ok (.new (itV (aJ ws))) []:=by have kf:=zy ws hl;have ll:((ws.map Val.int).length:Nat)=ws.length:=m_ ..;unfold aF;rw[aA];unfold da;unfold liV itV;generalize (aJ ws).map (λi:Nat=>Val.int (i:Nat))=fv at *;generalize ws.map Val.int=wv at *;simp![ll,kf]
def Bl{ws:List Int}{b:Bx}{t:Val}(hb:b.Ok)(W:WOk ws)(h:(aQ 42).G [bV b,itV (List.range ws.length),liV ws,.glb "nearest_to_half"]=.ok (.val t) []):bZ.G [bV b,liV ws]=.ok (.val t) []:=by have wl:=W.len;have wp:=W.pos;have cb:=br hb;have cw:=gY (ws:=ws) (by intro z;rw[z] at wp;exact absurd wp (by decide)) (λw hw=>(W.wt w hw).1) wl;have ll:((ws.map Val.int).length:Nat)=ws.length:=m_ ..;have lr:kI.G [.int (ws.length:Nat)]=.new (itV (List.range ws.length)):=Ft ⟨by omega,by omega⟩;unfold bZ;rw[aA];unfold jO;unfold liV at h ⊢;generalize itV (List.range ws.length)=rv at *;generalize ws.map Val.int=wv at *;generalize bV b=bv at *;simp![cb,cw,ll,lr,h]
def FY{ws:List Int}{b:Bx}{t:Val}(hb:b.Ok)(W:WOk ws)(h:(aR 42).G [bV b,itV (List.range ws.length),liV ws]=.ok (.val t) []):cP.G [bV b,liV ws]=.ok (.val t) []:=by have wl:=W.len;have wp:=W.pos;have cb:=br hb;have cw:=gY (ws:=ws) (by intro z;rw[z] at wp;exact absurd wp (by decide)) (λw hw=>(W.wt w hw).1) wl;have ll:((ws.map Val.int).length:Nat)=ws.length:=m_ ..;have lr:kI.G [.int (ws.length:Nat)]=.new (itV (List.range ws.length)):=Ft ⟨by omega,by omega⟩;unfold cP;rw[aA];unfold lJ;unfold liV at h ⊢;generalize itV (List.range ws.length)=rv at *;generalize ws.map Val.int=wv at *;generalize bV b=bv at *;simp![cb,cw,ll,lr,h]
def Ed{ws:List Int}{b:Bx}{t:Val}(hb:b.Ok)(W:WOk ws)(h:(aR 42).G [bV b,itV (aJ ws),liV ((aJ ws).map λk=>ws.getD k 0)]=.ok (.val t) []):bB.G [bV b,liV ws]=.ok (.val t) []:=by
 have wl:=W.len;have wp:=W.pos;have cb:=br hb;have cw:=gY (ws:=ws) (by intro z;rw[z] at wp;exact absurd wp (by decide)) (λw hw=>(W.wt w hw).1) wl;have bf:=Ga (ws:=ws) (by omega);have lf:(aJ ws).length=ws.length:=by rw[(cN ws).perm.length_eq,v_]
 obtain⟨s,lc⟩:=uM (ws:=ws) (l:=aJ ws) (by omega) (λk hk=>N_.mp ((cN ws).perm.mem_iff.mp hk));have lz:(((aJ ws).map λk=>ws.getD k 0).map Val.int).length<=16777216:=by rw[m_,m_];omega
 unfold bB;rw[aA];unfold iu;unfold itV at h bf;unfold liV at h lc bf ⊢;generalize ((aJ ws).map λk=>ws.getD k 0).map Val.int=xv at *;generalize (aJ ws).map (λi:Nat=>Val.int (i:Nat))=fv at *;generalize ws.map Val.int=wv at *;generalize bV b=bv at *;simp![cb,cw,bf,b0,inS,lc,lz,h]
def zO{ws:List Int}{b:Bx}{t:Val}(hb:b.Ok)(W:WOk ws)(h:(aQ 42).G [bV b,itV (aJ ws),liV ((aJ ws).map λk=>ws.getD k 0),.glb "fewest_to_third"]=.ok (.val t) []):bX.G [bV b,liV ws]=.ok (.val t) []:=by
 have wl:=W.len;have wp:=W.pos;have cb:=br hb;have cw:=gY (ws:=ws) (by intro z;rw[z] at wp;exact absurd wp (by decide)) (λw hw=>(W.wt w hw).1) wl;have kf:=zy ws (by omega);have lf:(aJ ws).length=ws.length:=by rw[(cN ws).perm.length_eq,v_]
 obtain⟨s,lc⟩:=uM (ws:=ws) (l:=aJ ws) (by omega) (λk hk=>N_.mp ((cN ws).perm.mem_iff.mp hk));have ll:((ws.map Val.int).length:Nat)=ws.length:=m_ ..;have lz:(((aJ ws).map λk=>ws.getD k 0).map Val.int).length<=16777216:=by rw[m_,m_];omega
 have bf:aF.G [liV ws]=.ok (.new (itV (aJ ws))) []:=by unfold aF;rw[aA];unfold da;unfold liV itV;generalize (aJ ws).map (λi:Nat=>Val.int (i:Nat))=fv at *;generalize ws.map Val.int=wv at *;simp![ll,kf]
 unfold bX;rw[aA];unfold jP;unfold itV at h bf;unfold liV at h lc bf ⊢;generalize ((aJ ws).map λk=>ws.getD k 0).map Val.int=xv at *;generalize (aJ ws).map (λi:Nat=>Val.int (i:Nat))=fv at *;generalize ws.map Val.int=wv at *;generalize bV b=bv at *;simp![cb,cw,bf,b0,inS,lc,lz,h]
def jg(ws:List Int):((List.range ws.length).map λk=>ws.getD k 0)=ws:=vJ 0 ws
def uv{ws:List Int}{b:Bx}(g:Good b)(W:WOk ws):∃m,m<=104/\Bd m (2^101) b ws.length/\∀l:List Nat,(∀k∈l,k<ws.length)->l.length<=ws.length->wtA ws l<2^m:=by
 obtain⟨D,hD,R⟩:=ER g;have hin:∀k,k<ws.length->ws.getD k 0∈ws:=λk hk=>by rw[K_,w_ hk];exact Rm _
 have wl:=W.len;have key:∀m,m*ws.length<=1218->Bd m (2^101) b ws.length:=λm h1=>by
  refine⟨D,2^101,R,p_ _,by decide,?_⟩;have a1:2^101+ws.length*2^101<=2^107:=by
   have h1:=RP (2^101) (show ws.length<=40 by omega);have h2:2^107=64*2^101:=by decide
   rw[h2];generalize 2^101=X at *;omega
  have a2:2^(m*ws.length)<=2^1218:=Rv (by decide) h1;refine RC (QY a1 (QY (Sx hD) a2)) ?_;rw[<- RZ,<- RZ];exact Nat.pow_lt_pow_right (by decide) (by decide)
 by_cases h9:10<ws.length
 .refine⟨29,by decide,key 29 (by omega),λl hl hn=>?_⟩
  have:=jV (M:=8388608) λk hk=>W.few h9 _ (hin k (hl k hk))
  have:(2:Int)^29=536870912:=by decide
  omega
 .refine⟨104,by decide,key 104 (by omega),λl hl hn=>?_⟩
  have:=jV (M:=1000000000000000000000000000000) λk hk=>(W.wt _ (hin k (hl k hk))).2
  have:(2:Int)^104=20282409603651670423947251286016:=by decide
  omega
def tH(b:Bx)(ws:List Int):AT:=inT g9 ws 42 b (List.range ws.length)
def tR(b:Bx)(ws:List Int):AT:=rwT ws 42 b (List.range ws.length)
def tG(b:Bx)(ws:List Int):AT:=rwT ws 42 b (aJ ws)
def tT(b:Bx)(ws:List Int):AT:=inT jF ws 42 b (aJ ws)
section
variable{ws:List Int}{b:Bx}
def jb{k:Nat}:k∈aJ ws ↔ k<ws.length:=(cN ws).perm.mem_iff.trans N_
def mq:(aJ ws).length=ws.length:=by rw[(cN ws).perm.length_eq,v_]
def m7{t:AT}{l:List Nat}(h1:t.ok=true)(h2:t.lvs=l)(h3:t.dep<=l.length)(hl:∀k,k∈l ↔ k<ws.length)(hn:l.length=ws.length):TOk t (List.range ws.length):=⟨h1,λk=>by rw[h2,hl,N_],by rw[v_];omega,by rw[h2,v_];exact hn⟩
def qP(g:Good b)(W:WOk ws):bZ.G [bV b,liV ws]=.ok (.val (atV (tH b ws))) []/\TOk (tH b ws) (List.range ws.length):=by have wl:=W.len;have wp:=W.pos;obtain⟨m,hm,B,hS⟩:=uv g W;obtain⟨t1,t2,t3,t4⟩:=nL rD hm hS (λw hw=>(W.wt w hw).1) wl 42 (List.range ws.length) b (by rw[v_];omega) (by rw[v_];omega) (by rw[v_];omega) (λk hk=>N_.mp hk) (by rw[v_];exact B) trivial;rw[jg] at t1;exact⟨Bl g.ok W t1,m7 t2 t3 t4 (λk=>N_) v_⟩
def qG(g:Good b)(W:WOk ws):cP.G [bV b,liV ws]=.ok (.val (atV (tR b ws))) []/\TOk (tR b ws) (List.range ws.length):=by have wl:=W.len;have wp:=W.pos;obtain⟨m,hm,B,hS⟩:=uv g W;obtain⟨t1,t2,t3,t4⟩:=oy (B:=2^101) hm hS (λw hw=>(W.wt w hw).1) wl 42 (List.range ws.length) b (by rw[v_];omega) (by rw[v_];omega) (by rw[v_];omega) (λk hk=>N_.mp hk) (by rw[v_];exact B);rw[jg] at t1;exact⟨FY g.ok W t1,m7 t2 t3 t4 (λk=>N_) v_⟩
def rb(g:Good b)(W:WOk ws):bB.G [bV b,liV ws]=.ok (.val (atV (tG b ws))) []/\TOk (tG b ws) (List.range ws.length):=by have wl:=W.len;have wp:=W.pos;have fl:=mq (ws:=ws);obtain⟨m,hm,B,hS⟩:=uv g W;obtain⟨t1,t2,t3,t4⟩:=oy (B:=2^101) hm hS (λw hw=>(W.wt w hw).1) wl 42 (aJ ws) b (by omega) (by omega) (by omega) (λk hk=>jb.mp hk) (by rw[fl];exact B);exact⟨Ed g.ok W t1,m7 t2 t3 t4 (λk=>jb) fl⟩
def qM(g:Good b)(W:WOk ws):bX.G [bV b,liV ws]=.ok (.val (atV (tT b ws))) []/\TOk (tT b ws) (List.range ws.length):=by have wl:=W.len;have wp:=W.pos;have fl:=mq (ws:=ws);obtain⟨m,hm,B,hS⟩:=uv g W;obtain⟨t1,t2,t3,t4⟩:=nL pD hm hS (λw hw=>(W.wt w hw).1) wl 42 (aJ ws) b (by omega) (by omega) (by omega) (λk hk=>jb.mp hk) (by rw[fl];exact B) (pP ws);exact⟨zO g.ok W t1,m7 t2 t3 t4 (λk=>jb) fl⟩
end
def PZ{ws:List Int}{b:Bx}{r:Str}{t:AT}(g:Good b)(W:WOk ws)(h:aC.G [.str r,bV b,liV ws]=.ok (.val (atV t)) [])(T:TOk t (List.range ws.length)):bO.G [.str r,bV b,liV ws]=.ok (.new (.lst ((List.range ws.length).map λk=>bV (bxO (AT.bx ws t b) k)))) []:=by have wp:=W.pos;have wl:=W.len;obtain⟨m,hm,hy⟩:=xu g W T (λi=>N_) v_;have be:=rP (by omega) g.ok (λz=>by rw[z] at wp;exact absurd wp (by decide)) (λx hx=>(W.wt x hx).1) wl T.ok (λk=>(T.mem k).trans N_) (zG T (λi=>N_) v_) (by rw[T.len,v_]) (by have:=T.dep;rw[v_] at this;omega) hy;unfold bO;rw[aA];unfold j7;generalize (List.range ws.length).map (λk=>bV (bxO (AT.bx ws t b) k))=pv at *;generalize atV t=tv at *;generalize liV ws=wv at *;generalize bV b=bv at *;simp![h,be]
def fT{r:Str}(h:D1.G (.str r) (.tup [.str "across",.str "down",.str "halves",.str "rows",.str "greatest",.str "thirds"])=.val (.bl false)):cW.G [.str r]=.ok (.val .non) []:=by unfold cW;rw[aA];unfold j6;simp![h]
def A6{bv wv t:Val}(h:bZ.G [bv,wv]=.ok (.val t) []):aC.G [.str "halves",bv,wv]=.ok (.val t) []:=by
 have ck:=fT (r:="halves") rfl;have e1:bz (.str "halves") (.str "halves")=some true:=by rw[L3.eq_str (by decide) (by decide)];exact QW some (by decide)
 unfold aC;rw[aA];unfold dM;simp![ck,e1,h]
def Bj{bv wv t:Val}(h:cP.G [bv,wv]=.ok (.val t) []):aC.G [.str "rows",bv,wv]=.ok (.val t) []:=by
 have ck:=fT (r:="rows") rfl;have e0:bz (.str "rows") (.str "halves")=some false:=by rw[L3.eq_str (by decide) (by decide)];exact QW some (by decide)
 have e1:bz (.str "rows") (.str "rows")=some true:=by rw[L3.eq_str (by decide) (by decide)];exact QW some (by decide)
 unfold aC;rw[aA];unfold dM;simp![ck,e0,e1,h]
def Ae{bv wv t:Val}(h:bB.G [bv,wv]=.ok (.val t) []):aC.G [.str "greatest",bv,wv]=.ok (.val t) []:=by
 have ck:=fT (r:="greatest") rfl;have e0:bz (.str "greatest") (.str "halves")=some false:=by rw[L3.eq_str (by decide) (by decide)];exact QW some (by decide)
 have e1:bz (.str "greatest") (.str "rows")=some false:=by rw[L3.eq_str (by decide) (by decide)];exact QW some (by decide)
 have e2:bz (.str "greatest") (.str "greatest")=some true:=by rw[L3.eq_str (by decide) (by decide)];exact QW some (by decide)
 unfold aC;rw[aA];unfold dM;simp![ck,e0,e1,e2,h]
def zm{bv wv t:Val}(h:bX.G [bv,wv]=.ok (.val t) []):aC.G [.str "thirds",bv,wv]=.ok (.val t) []:=by
 have ck:=fT (r:="thirds") rfl;have e0:bz (.str "thirds") (.str "halves")=some false:=by rw[L3.eq_str (by decide) (by decide)];exact QW some (by decide)
 have e1:bz (.str "thirds") (.str "rows")=some false:=by rw[L3.eq_str (by decide) (by decide)];exact QW some (by decide)
 have e2:bz (.str "thirds") (.str "greatest")=some false:=by rw[L3.eq_str (by decide) (by decide)];exact QW some (by decide)
 have e3:bz (.str "thirds") (.str "thirds")=some true:=by rw[L3.eq_str (by decide) (by decide)];exact QW some (by decide)
 unfold aC;rw[aA];unfold dM;simp![ck,e0,e1,e2,e3,h]
def Al(e:Bool)(b c:Bx):Prop:=if e=true then b.w=c.h/\b.h=c.w else b.w=c.w/\b.h=c.h
def Sd(b c:Bx):Prop:=∃e,Al e b c
def E5{x y:Rat}(h:x<y):¬ y<x:=Rat.not_lt.mpr (Rat.le_of_lt h)
def EN{b c:Bx}(h:Sd b c):∃e,Al e b c/\lwB c=Bool.xor (lwB b) e:=by
 obtain⟨e,h⟩:=h;cases e with
 |false=>obtain⟨h1,h2⟩:b.w=c.w/\b.h=c.h:=h;refine⟨false,⟨h1,h2⟩,?_⟩;unfold lwB;rw[h1,h2,Bool.xor_false]
 |
  true=>
  obtain⟨h1,h2⟩:b.w=c.h/\b.h=c.w:=h;by_cases hq:b.w=b.h
  .refine⟨false,⟨by rw[hq,h2],by rw[<- hq,h1]⟩,?_⟩;unfold lwB;rw[Bool.xor_false,<- h1,<- h2,hq]
  .refine⟨true,⟨h1,h2⟩,?_⟩;unfold lwB;rw[<- h1,<- h2,Bool.xor_true,Bool.not_not];by_cases hl:b.h<b.w
   .rw[G_ hl,B_ (E5 hl)];rfl
   .rw[B_ hl,G_ (Rat.lt_of_le_of_ne (Rat.not_lt.mp hl) hq)];rfl
def iU{e:Bool}{b c:Bx}(h:Al e b c)(w:Bool)(W a a' x:Int):Al e (bc b w W a x) (bc c (Bool.xor w e) W a' x):=by
 cases e with
 |
  false=>
  obtain⟨h1,h2⟩:b.w=c.w/\b.h=c.h:=h;rw[Bool.xor_false];cases w
  .exact⟨h1,by show b.h*_=c.h*_;rw[h2]⟩
  .exact⟨by show b.w*_=c.w*_;rw[h1],h2⟩
 |
  true=>
  obtain⟨h1,h2⟩:b.w=c.h/\b.h=c.w:=h;rw[Bool.xor_true];cases w
  .exact⟨h1,by show b.h*_=c.w*_;rw[h2]⟩
  .exact⟨by show b.w*_=c.h*_;rw[h1],h2⟩
def r9{e:Bool}{b c:Bx}(h:Al e b c):aS b=aS c:=by
 cases e with
 |false=>obtain⟨h1,h2⟩:b.w=c.w/\b.h=c.h:=h;unfold aS;rw[h1,h2]
 |
  true=>
  obtain⟨h1,h2⟩:b.w=c.h/\b.h=c.w:=h;unfold aS;rw[h1,h2];by_cases hl:c.h<c.w
  .rw[if_pos hl,if_neg (E5 hl)]
  .rw[if_neg hl];by_cases hq:c.w<c.h
   .rw[if_pos hq]
   .rw[if_neg hq,Rat.le_antisymm (Rat.not_lt.mp hl) (Rat.not_lt.mp hq)]
theorem sf{e:Bool}{b c:Bx}(h:Al e b c)(w:Bool)(W:Int):∀(xs:List Int) (a:Int),(frm b w W a xs).map aS=(frm c (Bool.xor w e) W a xs).map aS
 | [],_=>rfl
 |
  x::xs,a=>by
  rw[frm,frm,t_,t_,sf h w W xs (a+x),r9 (iU h w W a a x)]
def zZ{e:Bool}{b c:Bx}(h:Al e b c)(hl:lwB c=Bool.xor (lwB b) e)(xs:List Int)(k:Nat):bG b xs k=bG c xs k:=by
 unfold bG eL;have hb:Al e (iK b xs k) (iK c xs k):=by
  unfold iK;split
  .rw[hl];exact iU h ..
  .exact h
 rw[cG,cG,sf hb,hl];cases lwB b <;> cases e <;> rfl
theorem vF{e:Bool}{b c:Bx}(h:Al e b c)(hl:lwB c=Bool.xor (lwB b) e)(xs:List Int):∀f k,fB b xs f k=fB c xs f k
 |0,k=>rfl
 |f+1,k=>by rw[fB,fB,zZ h hl,zZ h hl,vF h hl xs f (k+1)]
theorem kF{f:List Int->Nat}{nm:Str}{D:List Int->Prop}(H:HowM f nm D){ws:List Int}(hw:∀w∈ws,1<=w):∀(N:Nat) (l:List Nat) (b:Bx),l.length<=N->1<=l.length->(∀k∈l,k<ws.length)->D (l.map λk=>ws.getD k 0)->(inT f ws N b l).lvs=l
 |0,l,b,h0,h1,_,_=>by omega
 |
  N+1,l,b,h0,h1,hi,hD=>by
  rw[inT];by_cases hl:l.length=1
  .obtain⟨k,rfl⟩:=RY.mp hl;rw[if_pos hl];rfl
  .rw[if_neg hl];have xl:(l.map λk=>ws.getD k 0).length=l.length:=m_ ..;obtain⟨g1,g2⟩:=H.lt _ hD (by omega) (λw hw'=>by obtain⟨j,hj,rfl⟩:=QX.mp hw';rw[K_,w_ (hi j hj)];exact hw _ (Rm _));have d1:=H.tk _ (f (l.map λk=>ws.getD k 0)) hD;have d2:=H.dr _ (f (l.map λk=>ws.getD k 0)) hD;rw[<- Q8] at d1;rw[<- Rr] at d2;generalize f (l.map λk=>ws.getD k 0)=i at *;rw[AT.lvs,AT.lvsL,AT.lvsL,AT.lvsL,kF H hw N (l.take i) _ (by rw[QJ];omega) (by rw[QJ];omega) (λk hk=>hi k (Q5 hk)) d1,kF H hw N (l.drop i) _ (by rw[QL];omega) (by rw[QL];omega) (λk hk=>hi k (Ru hk)) d2,QU,Q2]
def ksh(l:List (Nat×Bx)):List (Nat×Rat):=l.map λp=>(p.1,aS p.2)
def kR(a b:List (Nat×Bx)):ksh (a++b)=ksh a++ksh b:=QV ..
def bx2(ws:List Int)(w:Bool)(s t:AT)(b:Bx):AT.bx ws (.nd w [s,t]) b=AT.bx ws s (bc b w (wtT ws s+wtT ws t) 0 (wtT ws s))++AT.bx ws t (bc b w (wtT ws s+wtT ws t) (wtT ws s) (wtT ws t)):=by rw[AT.bx,t_,t_,QQ,j5,AT.bxL,AT.bxL,AT.bxL,QU];exact λ_ _ _ _ z=>nomatch z
theorem ng{f:List Int->Nat}{nm:Str}{D:List Int->Prop}(H:HowM f nm D){ws:List Int}(hw:∀w∈ws,1<=w):∀(N:Nat) (l:List Nat) (b c:Bx),l.length<=N->1<=l.length->(∀k∈l,k<ws.length)->D (l.map λk=>ws.getD k 0)->Sd b c->ksh (AT.bx ws (inT f ws N b l) b)=ksh (AT.bx ws (inT f ws N c l) c)
 |0,l,b,c,h0,h1,_,_,_=>by omega
 |
  N+1,l,b,c,h0,h1,hi,hD,hS=>by
  obtain⟨e,ha,hlw⟩:=EN hS;rw[inT,inT];by_cases hl:l.length=1
  .rw[if_pos hl,if_pos hl,AT.bx,AT.bx];show [(_,aS b)]=[(_,aS c)];rw[r9 ha]
  .rw[if_neg hl,if_neg hl];have xl:(l.map λk=>ws.getD k 0).length=l.length:=m_ ..;obtain⟨g1,g2⟩:=H.lt _ hD (by omega) (λw hw'=>by obtain⟨j,hj,rfl⟩:=QX.mp hw';rw[K_,w_ (hi j hj)];exact hw _ (Rm _));have d1:=H.tk _ (f (l.map λk=>ws.getD k 0)) hD;have d2:=H.dr _ (f (l.map λk=>ws.getD k 0)) hD;rw[<- Q8] at d1;rw[<- Rr] at d2;generalize f (l.map λk=>ws.getD k 0)=i at *;have v1:∀b,(inT f ws N b (l.take i)).lvs=l.take i:=λb=>kF H hw N (l.take i) b (by rw[QJ];omega) (by rw[QJ];omega) (λk hk=>hi k (Q5 hk)) d1;have v2:∀b,(inT f ws N b (l.drop i)).lvs=l.drop i:=λb=>kF H hw N (l.drop i) b (by rw[QL];omega) (by rw[QL];omega) (λk hk=>hi k (Ru hk)) d2;have sp:wtA ws (l.take i)+wtA ws (l.drop i)=wtA ws l:=by unfold wtA;rw[<- Sk,<- QV,Q2]
   rw[bx2,bx2,kR,kR];unfold wtT;rw[v1,v2,v1,v2,sp,hlw];rw[ng H hw N (l.take i) _ _ (by rw[QJ];omega) (by rw[QJ];omega) (λk hk=>hi k (Q5 hk)) d1 ⟨e,iU ha (lwB b) (wtA ws l) 0 0 (wtA ws (l.take i))⟩,ng H hw N (l.drop i) _ _ (by rw[QL];omega) (by rw[QL];omega) (λk hk=>hi k (Ru hk)) d2 ⟨e,iU ha (lwB b) (wtA ws l) (wtA ws (l.take i)) (wtA ws (l.take i)) (wtA ws (l.drop i))⟩]
theorem lT:∀l:List Nat,AT.lvsL (l.map .lf)=l
 | []=>rfl
 |k::l=>by rw[t_,AT.lvsL,lT l,AT.lvs];rfl
theorem wN:∀l:List Nat,AT.okL (l.map .lf)=true
 | []=>rfl
 |k::l=>by rw[t_,AT.okL,wN l,AT.ok];rfl
theorem uw:∀l:List Nat,AT.depL (l.map .lf)<=1
 | []=>by rw[QQ,AT.depL];omega
 |k::l=>by rw[t_,AT.depL,AT.dep];have:=uw l;omega
theorem k8(ws:List Int):∀(l:List Nat) (bs:List Bx),AT.bxL ws (l.map .lf) bs=l.zip bs
 | [],bs=>by rw[QQ,AT.bxL];rfl;exact λ_ _ _ _ z=>nomatch z
 |k::l,[]=>by rw[t_,AT.bxL];rfl;exact λ_ _ _ _ _ z=>nomatch z
 |k::l,b::bs=>by rw[t_,AT.bxL,k8 ws l bs,AT.bx];rfl
theorem wD:∀(bs:List Bx) (a i:Nat) (c:Bx),bs[i]?=some c->bxO ((List.range' a bs.length).zip bs) (a+i)=c
 | [],a,i,c,h=>by simp at h
 |
  b::bs,a,i,c,h=>by
  rw[C_,List.range'_succ,List.zip_cons_cons];unfold bxO;cases i with
  |zero=>rw[Sn (by simp)];simpa using h
  |
   succ i=>
   rw[RX (by simp)]
   have:=wD bs (a+1) i c (by simpa using h)
   unfold bxO at this;rw[show a+(i+1)=a+1+i by omega];exact this
def yV{bs:List Bx}{n:Nat}(h:bs.length=n):((List.range n).map λk=>bV (bxO ((List.range n).zip bs) k))=bs.map bV:=by
 subst h;refine List.ext_getElem (by simp) λi h1 h2=>?_;rw[m_] at h2;rw[List.getElem_map,List.getElem_map,List.getElem_range];congr 1
 have:=wD bs 0 i (bs[i]) (w_ h2)
 rw[Tn,<- List.range_eq_range'] at this;exact this
def sbT(w:Bool)(n:Nat):AT:=if n=1 then .lf 0 else .nd w ((List.range n).map .lf)
def Pn(w:Bool){n:Nat}(h:1<=n):TOk (sbT w n) (List.range n):=by
 unfold sbT;by_cases h1:n=1
 .rw[if_pos h1,h1];exact⟨rfl,λk=>Iff.rfl,p_ _,rfl⟩
 .rw[if_neg h1];refine⟨?_,λk=>by rw[AT.lvs,lT],?_,by rw[AT.lvs,lT]⟩
  .rw[AT.ok,wN,m_,v_,G_ (by omega)];rfl
  .rw[AT.dep,v_]
   have:=uw (List.range n)
   omega
def B4(b:Bx)(w:Bool){x:Int}(h:1<=x):ay b (wy w) [x]=[b]:=by
 rw[cG];have hx:(x:Rat)≠0:=λz=>by
  have:x=0:=by exact_mod_cast z
  omega
 have e:(x:Rat)/(x:Rat)=1:=by rw[Rat.div_def];exact Rat.mul_inv_cancel _ hx
 have e0:((0:Int):Rat)/(x:Rat)=0:=by rw[Rat.div_def];exact Rat.zero_mul _
 simp only[QS,List.sum_nil,Int.add_zero,frm,bc,e,e0,Rat.mul_zero,Rat.mul_one,Rat.add_zero];cases w <;> rfl
def O5{ws:List Int}(b:Bx)(w:Bool)(h:1<=ws.length)(hw:∀x∈ws,1<=x):((List.range ws.length).map λk=>bV (bxO (AT.bx ws (sbT w ws.length) b) k))=(ay b (wy w) ws).map bV:=by
 unfold sbT;by_cases h1:ws.length=1
 .rw[if_pos h1,AT.bx,h1];obtain⟨x,rfl⟩:=RY.mp h1;rw[B4 b w (hw x (r_ ..))];rfl
 .rw[if_neg h1,AT.bx,Q9];have e:(List.range ws.length).map (wtT ws ∘ AT.lf)=ws:=by
   have:=jg ws
   refine Eq.trans (Tu λk _=>?_) this;show wtA ws (AT.lvs (.lf k))=_;rw[AT.lvs];simp [wtA]
  rw[e,k8];exact yV (kr ..)
def Dr{ws:List Int}{b:Bx}(w:Bool)(g:Good b)(W:WOk ws):eA.G [bV b,liV ws,atV (sbT w ws.length)]=.ok (.new (.lst ((ay b (wy w) ws).map bV))) []:=by have wp:=W.pos;have wl:=W.len;have T:=Pn w wp;obtain⟨m,hm,hy⟩:=xu g W T (λi=>N_) v_;have be:=rP (by omega) g.ok (λz=>by rw[z] at wp;exact absurd wp (by decide)) (λx hx=>(W.wt x hx).1) wl T.ok (λk=>(T.mem k).trans N_) (zG T (λi=>N_) v_) (by rw[T.len,v_]) (by have:=T.dep;rw[v_] at this;omega) hy;rw[O5 b w wp λx hx=>(W.wt x hx).1] at be;exact be
def Cz(w:Bool)(l:List Nat):atV (.nd w (l.map .lf))=.tup [.str (wy w),.tup (l.map λk:Nat=>Val.int k)]:=by unfold atV;rw[AT.val,AT.vals_map,Q9];rfl
def Gq{ws:List Int}{b:Bx}(w:Bool)(hb:b.Ok)(W:WOk ws):cZ.G [.str (wy w),bV b,liV ws]=.ok (.val (atV (sbT w ws.length))) []:=by
 have wl:=W.len;have wp:=W.pos;have cb:=br hb;have cw:=gY (ws:=ws) (by intro z;rw[z] at wp;exact absurd wp (by decide)) (λx hx=>(W.wt x hx).1) wl;have ll:((ws.map Val.int).length:Nat)=ws.length:=m_ ..;have kt:qV.G [.int (ws.length:Nat)]=.val (.tup ((List.range ws.length).map λk:Nat=>Val.int k)):=PC ⟨by omega,by omega⟩;unfold cZ sbT;rw[aA];unfold iN;unfold liV;by_cases h1:ws.length=1
 .have n1:(((ws.length:Nat):Int)==1)=true:=by rw[QP];omega
  rw[if_pos h1,show atV (.lf 0)=.int 0 from rfl];generalize ws.map Val.int=wv at *;generalize bV b=bv at *;generalize wy w=yy at *;simp![cb,cw,ll,n1]
 .have n1:(((ws.length:Nat):Int)==1)=false:=by rw[E_];omega
  rw[if_neg h1,Cz];generalize ((List.range ws.length).map λk:Nat=>Val.int k)=rv at *;generalize ws.map Val.int=wv at *;generalize bV b=bv at *;generalize wy w=yy at *;simp![cb,cw,ll,n1,kt]
def wR(l:List Nat)(bs:List Bx):ksh (l.zip bs)=l.zip (bs.map aS):=by unfold ksh;rw[List.zip_map_right];rfl
def Br{ws:List Int}{e:Bool}{b c b1 c1:Bx}(hlw:lwB c=Bool.xor (lwB b) e)(h:Al e b1 c1)(l:List Nat):ksh (AT.bx ws (d9 b l) b1)=ksh (AT.bx ws (d9 c l) c1):=by
 unfold d9;by_cases h1:l.length=1
 .rw[if_pos h1,if_pos h1,AT.bx,AT.bx];show [(_,aS b1)]=[(_,aS c1)];rw[r9 h]
 .rw[if_neg h1,if_neg h1,AT.bx,AT.bx,k8,k8,wR,wR,cG,cG,sf h,hlw];cases lwB b <;> cases e <;> rfl
theorem wO{ws:List Int}:∀(N:Nat) (l:List Nat) (b:Bx),l.length<=N->1<=l.length->(rwT ws N b l).lvs=l
 |0,l,b,h0,h1=>by omega
 |
  N+1,l,b,h0,h1=>by
  have xl:(l.map λk=>ws.getD k 0).length=l.length:=m_ ..;obtain⟨r1,r2⟩:=ui (b:=b) (xs:=l.map λk=>ws.getD k 0) (by omega);rw[rwT];by_cases hl:row b (l.map λk=>ws.getD k 0)=l.length
  .rw[if_pos hl];exact (kZ b h1).2.1
  .rw[if_neg hl];generalize row b (l.map λk=>ws.getD k 0)=i at *;rw[AT.lvs,AT.lvsL,AT.lvsL,AT.lvsL,(kZ b (l:=l.take i) (by rw[QJ];omega)).2.1,wO N (l.drop i) _ (by rw[QL];omega) (by rw[QL];omega),QU,Q2]
theorem sQ{ws:List Int}:∀(N:Nat) (l:List Nat) (b c:Bx),l.length<=N->1<=l.length->Sd b c->ksh (AT.bx ws (rwT ws N b l) b)=ksh (AT.bx ws (rwT ws N c l) c)
 |0,l,b,c,h0,h1,_=>by omega
 |
  N+1,l,b,c,h0,h1,hS=>by
  obtain⟨e,ha,hlw⟩:=EN hS;have xl:(l.map λk=>ws.getD k 0).length=l.length:=m_ ..;obtain⟨r1,r2⟩:=ui (b:=b) (xs:=l.map λk=>ws.getD k 0) (by omega);have er:row c (l.map λk=>ws.getD k 0)=row b (l.map λk=>ws.getD k 0):=(vF ha hlw _ _ _).symm;rw[rwT,rwT,er];by_cases hl:row b (l.map λk=>ws.getD k 0)=l.length
  .rw[if_pos hl,if_pos hl];exact Br hlw ha l
  .rw[if_neg hl,if_neg hl];have wt:∀i,((l.map λk=>ws.getD k 0).take i).sum=wtA ws (l.take i):=λi=>by unfold wtA;rw[Q8]
   have wd:∀i,((l.map λk=>ws.getD k 0).drop i).sum=wtA ws (l.drop i):=λi=>by unfold wtA;rw[Rr]
   rw[wt,wd];generalize row b (l.map λk=>ws.getD k 0)=i at *;have v1:∀b,(d9 b (l.take i)).lvs=l.take i:=λb=>(kZ b (l:=l.take i) (by rw[QJ];omega)).2.1;have v2:∀b,(rwT ws N b (l.drop i)).lvs=l.drop i:=λb=>wO N (l.drop i) b (by rw[QL];omega) (by rw[QL];omega);rw[bx2,bx2,kR,kR];unfold wtT;rw[v1,v2,v1,v2,hlw];rw[Br hlw (iU ha (lwB b) (wtA ws (l.take i)+wtA ws (l.drop i)) 0 0 (wtA ws (l.take i))) (l.take i),sQ N (l.drop i) _ _ (by rw[QL];omega) (by rw[QL];omega) ⟨e,iU ha (lwB b) (wtA ws (l.take i)+wtA ws (l.drop i)) (wtA ws (l.take i)) (wtA ws (l.take i)) (wtA ws (l.drop i))⟩]
def sn(w:Bool){s:Str}(h:s∈(["halves", "rows", "greatest", "thirds"]:List Str)):bz (.str (wy w)) (.str s)=some false:=by simp only[I_,S9,or_false] at h;rcases h with rfl |rfl |rfl |rfl <;> cases w <;> (rw[L3.eq_str (by decide) (by decide)];exact QW some (by decide))
def Mn(w:Bool):cW.G [.str (wy w)]=.ok (.val .non) []:=by
 cases w
 .exact fT rfl
 .exact fT rfl
def FD{ws:List Int}{b:Bx}(w:Bool)(g:Good b)(W:WOk ws):bO.G [.str (wy w),bV b,liV ws]=.ok (.new (.lst ((ay b (wy w) ws).map bV))) []:=by
 have se:=Gq w g.ok W;have bb:=Dr w g W;have ck:=Mn w;have n1:=sn w (s:="halves") (by simp);have n2:=sn w (s:="rows") (by simp);have n3:=sn w (s:="greatest") (by simp);have n4:=sn w (s:="thirds") (by simp);have rt:aC.G [.str (wy w),bV b,liV ws]=.ok (.val (atV (sbT w ws.length))) []:=by unfold aC;rw[aA];unfold dM;generalize atV (sbT w ws.length)=tv at *;generalize liV ws=wv at *;generalize bV b=bv at *;generalize wy w=yy at *;simp![ck,n1,n2,n3,n4,se]
 unfold bO;rw[aA];unfold j7;generalize (ay b (wy w) ws).map bV=pv at *;generalize atV (sbT w ws.length)=tv at *;generalize liV ws=wv at *;generalize bV b=bv at *;generalize wy w=yy at *;simp![rt,bb]
theorem vL{k:Nat}:∀{l:List (Nat×Bx)},k∈l.map (·.1)->∃p∈l,bxO l k=p.2
 | [],h=>nomatch h
 |
  p::l,h=>by
  unfold bxO;by_cases hp:p.1=k
  .exact⟨p,r_ ..,by rw[Sn (by simpa using hp)];rfl⟩
  .rw[t_,I_] at h;obtain⟨q,hq,e⟩:=vL (l:=l) (h.resolve_left λz=>hp z.symm);refine⟨q,n_ _ hq,?_⟩;rw[RX (by simpa using hp)];exact e
def bsO(ws:List Int)(t:AT)(b:Bx):List Bx:=(List.range ws.length).map λk=>bxO (AT.bx ws t b) k
def Hy(ws:List Int)(t:AT)(b:Bx):((List.range ws.length).map λk=>bV (bxO (AT.bx ws t b) k))=(bsO ws t b).map bV:=by unfold bsO;rw[Q9];rfl
def sg{ws:List Int}{t:AT}{b:Bx}(g:Good b)(W:WOk ws)(T:TOk t (List.range ws.length)):∀c∈bsO ws t b,c.Ok/\c.Sz 2000:=λc hc=>by obtain⟨k,hk,rfl⟩:=QX.mp hc;obtain⟨m,hm,hy⟩:=xu g W T (λi=>N_) v_;obtain⟨p,hp,e⟩:=vL (l:=AT.bx ws t b) (k:=k) (by rw[AT.bx_keys];exact (T.mem k).mpr hk);rw[e];exact Nd t b hy p hp
def nX(ws:List Int)(t:AT)(b:Bx):(bsO ws t b).length=ws.length:=by unfold bsO;rw[m_,v_]
def EO{ws:List Int}{b:Bx}{r:Str}{t:AT}(g:Good b)(W:WOk ws)(h:aC.G [.str r,bV b,liV ws]=.ok (.val (atV t)) [])(T:TOk t (List.range ws.length)):bO.G [.str r,bV b,liV ws]=.ok (.new (.lst ((bsO ws t b).map bV))) []:=by rw[<- Hy];exact PZ g W h T
def OF(qs:List Rat):bz (.lst (qs.map fV)) (.lst (qs.map fV))=some true:=by
 have:wfV 60 (.lst (qs.map fV))=true:=by show d8 59 (qs.map fV)=true;exact oo λv hv=>by obtain⟨w,_,rfl⟩:=QX.mp hv;rfl
 rw[Fz this this,oH 60 _ this]
def NX(bs:List Bx):bz (.lst (bs.map bV)) (.lst (bs.map bV))=some true:=by
 have:wfV 60 (.lst (bs.map bV))=true:=by show d8 59 (bs.map bV)=true;exact oo λv hv=>by obtain⟨w,_,rfl⟩:=QX.mp hv;exact PN _ 57
 rw[Fz this this,oH 60 _ this]
def pS{b:Bx}(hb:b.Ok):dW.G [bV b]=.ok (.val (bV b.trn)) []:=by have c:=br hb;unfold dW;rw[aA];unfold sE;have e:bV b=.tup [fV b.l,fV b.t,fV b.w,fV b.h]:=rfl;have e2:bV b.trn=.tup [fV b.t,fV b.l,fV b.h,fV b.w]:=rfl;rw[e2];rw[e] at c ⊢;generalize fV b.l=l at *;generalize fV b.t=t at *;generalize fV b.w=w at *;generalize fV b.h=h at *;simp![c]
theorem vB{k:Nat}:∀(l l':List (Nat×Bx)),ksh l=ksh l'->aS (bxO l k)=aS (bxO l' k)
 | [],[],_=>rfl
 | [],_::_,h=>nomatch h
 |_::_,[],h=>nomatch h
 |
  p::l,q::l',h=>by
  have h':(p.1,aS p.2)::ksh l=(q.1,aS q.2)::ksh l':=h;injection h' with h1 h2;injection h1 with h3 h4;unfold bxO;by_cases hp:p.1=k
  .rw[Sn (by simpa using hp),Sn (by rw[<- h3];simpa using hp)];exact h4
  .rw[RX (by simpa using hp),RX (by rw[<- h3];simpa using hp)];exact vB l l' h2
def M0{ws:List Int}{t t':AT}{b b':Bx}(h:ksh (AT.bx ws t b)=ksh (AT.bx ws t' b')):(bsO ws t b).map aS=(bsO ws t' b').map aS:=by unfold bsO;rw[Q9,Q9];exact Tu λk _=>vB _ _ h
def IQ{bs:List Bx}(h:∀c∈bs,c.Ok)(hl:bs.length<=1000):∃s,lcV (gtN 0).G qY.G (ai dW (aa (af 0) ag)).G (bs.map bV) [] [.no]=.ok ((bs.map Bx.trn).map bV) [s]:=by
 obtain⟨e',⟨s,rfl,_⟩,lc⟩:=dk (g:=(gtN 0).G) (F:=(ai dW (aa (af 0) ag)).G) bV (λc=>bV c.trn) (λe=>∃s:Sl,e=[s]/\s.pl=true) bs [] [.no] ⟨.no,rfl,rfl⟩ (by
  rintro c hc _ ⟨s,rfl,hs⟩;have hp:=pS (h c hc);generalize bV c=cv at *;generalize bV c.trn=dv at *;refine⟨[.sh cv],.val dv,[.sh cv],?_,?_,rfl,_,rfl,rfl⟩
  .simp![hs]
  .simp![hp]) (by rw[QO];omega)
 rw[QZ] at lc;refine⟨s,?_⟩;rw[Q9];exact lc
def Au(b:Bx)(w:Bool)(ws:List Int):ay b.trn (wy !w) ws=(ay b (wy w) ws).map Bx.trn:=by rw[cG,cG,wo]
def lR{b:Bx}(g:Good b):Good b.trn:=⟨⟨g.ok.h,g.ok.w⟩,⟨g.sz.t,g.sz.l,g.sz.h,g.sz.w⟩⟩
def mY{r:Str}{b:Bx}{ws:List Int}{t t':AT}(g:Good b)(W:WOk ws)(h:aC.G [.str r,bV b,liV ws]=.ok (.val (atV t)) [])(h':aC.G [.str r,bV b.trn,liV ws]=.ok (.val (atV t')) [])(T:TOk t (List.range ws.length))(T':TOk t' (List.range ws.length))(hk:ksh (AT.bx ws t b)=ksh (AT.bx ws t' b.trn)){x0 x1 x6 x7 x8 x9:Sl}(h6:x6.pl=true)(h7:x7.pl=true):su.G [x0,x1,.sh (bV b),.sh (liV ws),.sh (bV b.trn),.sh (.str r),x6,x7,x8,x9]=.nx [x0,x1,.sh (bV b),.sh (liV ws),.sh (bV b.trn),.sh (.str r),.sh (.lst ((bsO ws t b).map bV)),.sh (.lst ((bsO ws t' b.trn).map bV)),x8,x9]:=by
 have gt:=lR g;have e1:=EO g W h T;have e2:=EO gt W h' T';have f1:=sg g W T;have f2:=sg gt W T';have wl:=W.len;obtain⟨s1,l1⟩:=tL (P:=eD) (bs:=bsO ws t b) (λc hc=>mw (f1 c hc).1 (f1 c hc).2 (by decide)) rfl (by rw[nX];omega);obtain⟨s2,l2⟩:=tL (P:=eD) (bs:=bsO ws t' b.trn) (λc hc=>mw (f2 c hc).1 (f2 c hc).2 (by decide)) rfl (by rw[nX];omega);rw[<- M0 hk] at l2;have ee:=OF ((bsO ws t b).map aS);have ln:(((bsO ws t b).map aS).map fV).length<=16777216:=by rw[m_,m_,nX];omega
 unfold su;generalize ((bsO ws t b).map aS).map fV=sv at *;generalize (bsO ws t b).map bV=v1 at *;generalize (bsO ws t' b.trn).map bV=v2 at *;generalize liV ws=wv at *;generalize bV b.trn=bw at *;generalize bV b=bv at *;simp![e1,e2,h6,h7,b0,inS,l1,l2,ln,ee]
def E6{b:Bx}{ws:List Int}(w:Bool)(g:Good b)(W:WOk ws){x0 x1 x5 x6 x7:Sl}:rM.G [x0,x1,.sh (bV b),.sh (liV ws),.sh (bV b.trn),x5,x6,x7,.sh (.str (wy !w)),.sh (.str (wy w))]=.nx [x0,x1,.sh (bV b),.sh (liV ws),.sh (bV b.trn),x5,x6,x7,.sh (.str (wy !w)),.sh (.str (wy w))]:=by
 have gt:=lR g;have wl:=W.len;have wp:=W.pos;have e1:=FD (!w) gt W;have e2:=FD w g W;have pl:=kr b (wy w) ws;obtain⟨m,hm,B,hS⟩:=uv g W;have hs:=hS (List.range ws.length) (λk hk=>N_.mp hk) (by rw[v_];omega);unfold wtA at hs;rw[jg] at hs;obtain⟨s1,l1⟩:=IQ (bs:=ay b (wy w) ws) (λc hc=>(B.part (λx hx=>(W.wt x hx).1) hs hc (show 0<ws.length by omega)).ok) (by omega);rw[Au] at e1;have ee:=NX ((ay b (wy w) ws).map Bx.trn);have ln:(((ay b (wy w) ws).map Bx.trn).map bV).length<=16777216:=by rw[m_,m_];omega
 unfold rM;generalize ((ay b (wy w) ws).map Bx.trn).map bV=sv at *;generalize (ay b (wy w) ws).map bV=v1 at *;generalize liV ws=wv at *;generalize bV b.trn=bw at *;generalize bV b=bv at *;generalize wy (!w)=y1 at *;generalize wy w=y2 at *;simp![e1,e2,b0,inS,l1,ln,ee]
def Jm{r:Int}:∃m:Int,1<=m/\m<=40/\atI [Val.int 9,.int 40] (if (r==0)=true then 1 else 0)=some (.int m):=by
 by_cases h:r=0
 .exact⟨40,by decide,by decide,by rw[h];exact eU (by decide) rfl⟩
 .have e:(r==0)=false:=by rw[E_];exact h
  exact⟨9,by decide,by decide,by rw[e];exact eU (by decide) rfl⟩
def lawQ(r:SR3):Prop:=mB [false] r=.ok (.val (.bl true)) []
def J6(ns:List Int)(hl:ns.length<=63):qK.G [.kl (ns.map .int)]=.ok (.val (.bl true)) []:=by unfold qK;rw[xN rfl];show lawQ (xk.G [.sh (.kl (ns.map .int)),.no,.no,.no,.no,.no,.no,.no,.no,.no]);unfold xk;obtain⟨a,e0⟩:=oM (ns:=ns) (k:=55) (by omega);refine aK (λe=>e=[.sh (.kl (ns.map .int)),.ow (fdV a 0 55),.no,.no,.no,.no,.no,.no,.no,.no]) ⟨_,by simp![e0],rfl⟩ ?_;rintro _ rfl;obtain⟨b,a1,c1,g,e1⟩:=GF a 0 55;refine aK (λe=>e=[.sh (.kl (ns.map .int)),.ow (fdV a1 c1 55),.sh (bV b),.no,.no,.no,.no,.no,.no,.no]) ⟨_,by simp![e1],rfl⟩ ?_;rintro _ rfl;obtain⟨r,a2,c2,e2,_,_⟩:=aB (a:=a1) (b:=c1) (k:=55) (m:=6) (by decide) (sm8 (by decide));obtain⟨m,m1,m2,pm⟩:=Jm (r:=r);obtain⟨ws,p1,p2,p3,p4,p5⟩:=yz (ns:=ns) (at_:=0) (most:=m) (by decide) ⟨m1,m2⟩;have W:WOk ws:=⟨p1,by omega,p3,λh=>p4 (by omega)⟩;refine aK (λe=>e=[.sh (.kl (ns.map .int)),.ow (fdV a2 c2 55),.sh (bV b),.sh (liV ws),.no,.no,.no,.no,.no,.no]) ⟨_,by generalize liV ws=wv at *;generalize bV b=bv at *;generalize fdV a1 c1 55=f1 at *;generalize fdV a2 c2 55=f2 at *;simp![e2,pm,p5],rfl⟩ ?_;rintro _ rfl;have tu:=pS g.ok;refine aK (λe=>e=[.sh (.kl (ns.map .int)),.ow (fdV a2 c2 55),.sh (bV b),.sh (liV ws),.sh (bV b.trn),.no,.no,.no,.no,.no]) ⟨_,by generalize liV ws=wv at *;generalize bV b.trn=bw at *;generalize bV b=bv at *;generalize fdV a2 c2 55=f2 at *;simp![tu],rfl⟩ ?_;rintro _ rfl;have wp:=W.pos;have wl:=W.len;have gt:=lR g;have hw:∀w∈ws,1<=w:=λw h=>(W.wt w h).1;have rl:(List.range ws.length).length=ws.length:=v_;have fl:=mq (ws:=ws);have S:Sd b b.trn:=⟨true,rfl,rfl⟩;have k1:=mY (x0:=.sh (.kl (ns.map .int))) (x1:=.ow (fdV a2 c2 55)) (x6:=.no) (x7:=.no) (x8:=.no) (x9:=.no) g W (A6 (qP g W).1) (A6 (qP gt W).1) (qP g W).2 (qP gt W).2 (ng rD hw 42 _ _ _ (by omega) (by omega) (λk hk=>N_.mp hk) trivial S) rfl rfl;have k2:=mY (x0:=.sh (.kl (ns.map .int))) (x1:=.ow (fdV a2 c2 55)) (x6:=.sh (.lst ((bsO ws (tH b ws) b).map bV))) (x7:=.sh (.lst ((bsO ws (tH b.trn ws) b.trn).map bV))) (x8:=.no) (x9:=.no) g W (Bj (qG g W).1) (Bj (qG gt W).1) (qG g W).2 (qG gt W).2 (sQ 42 _ _ _ (by omega) (by omega) S) rfl rfl;have k3:=mY (x0:=.sh (.kl (ns.map .int))) (x1:=.ow (fdV a2 c2 55)) (x6:=.sh (.lst ((bsO ws (tR b ws) b).map bV))) (x7:=.sh (.lst ((bsO ws (tR b.trn ws) b.trn).map bV))) (x8:=.no) (x9:=.no) g W (Ae (rb g W).1) (Ae (rb gt W).1) (rb g W).2 (rb gt W).2 (sQ 42 _ _ _ (by omega) (by omega) S) rfl rfl;have k4:=mY (x0:=.sh (.kl (ns.map .int))) (x1:=.ow (fdV a2 c2 55)) (x6:=.sh (.lst ((bsO ws (tG b ws) b).map bV))) (x7:=.sh (.lst ((bsO ws (tG b.trn ws) b.trn).map bV))) (x8:=.no) (x9:=.no) g W (zm (qM g W).1) (zm (qM gt W).1) (qM g W).2 (qM gt W).2 (ng pD hw 42 _ _ _ (by omega) (by omega) (λk hk=>jb.mp hk) (pP ws) S) rfl rfl;have k5:=E6 (x0:=.sh (.kl (ns.map .int))) (x1:=.ow (fdV a2 c2 55)) (x5:=.sh (.str "thirds")) (x6:=.sh (.lst ((bsO ws (tT b ws) b).map bV))) (x7:=.sh (.lst ((bsO ws (tT b.trn ws) b.trn).map bV))) false g W;have k6:=E6 (x0:=.sh (.kl (ns.map .int))) (x1:=.ow (fdV a2 c2 55)) (x5:=.sh (.str "thirds")) (x6:=.sh (.lst ((bsO ws (tT b ws) b).map bV))) (x7:=.sh (.lst ((bsO ws (tT b.trn ws) b.trn).map bV))) true g W;rw[show wy (!false)="across" from rfl,show wy false="down" from rfl] at k5;rw[show wy (!true)="down" from rfl,show wy true="across" from rfl] at k6;generalize (bsO ws (tH b ws) b).map bV=v1 at *;generalize (bsO ws (tH b.trn ws) b.trn).map bV=v2 at *;generalize (bsO ws (tR b ws) b).map bV=v3 at *;generalize (bsO ws (tR b.trn ws) b.trn).map bV=v4 at *;generalize (bsO ws (tG b ws) b).map bV=v5 at *;generalize (bsO ws (tG b.trn ws) b.trn).map bV=v6 at *;generalize (bsO ws (tT b ws) b).map bV=v7 at *;generalize (bsO ws (tT b.trn ws) b.trn).map bV=v8 at *;generalize liV ws=wv at *;generalize bV b.trn=bw at *;generalize bV b=bv at *;generalize fdV a2 c2 55=f2 at *;refine aK (λe=>e=[.sh (.kl (ns.map .int)),.ow f2,.sh bv,.sh wv,.sh bw,.sh (.str "thirds"),.sh (.lst v7),.sh (.lst v8),.no,.no]) ⟨_,by simp![fb,gF,k1,k2,k3,k4],rfl⟩ ?_;rintro _ rfl;refine aK (λe=>e=[.sh (.kl (ns.map .int)),.ow f2,.sh bv,.sh wv,.sh bw,.sh (.str "thirds"),.sh (.lst v7),.sh (.lst v8),.sh (.str "down"),.sh (.str "across")]) ⟨_,by simp![fb,gF,k5,k6],rfl⟩ ?_;rintro _ rfl;unfold lawQ;simp![xI]
end KK
namespace PySem.W.Fast
def q__:=trivial
def tw10027243904053617851:=q__
def tw10102711015411782181:=q__
def tw10118936839331995977:=q__
def tw10135046069610346030:=q__
def tw10138969184953223937:=q__
def tw10223714750242427993:=q__
def tw10274662075442282488:=q__
def tw10281715089661175941:=q__
def tw1041788872443808170:=q__
def tw10448368875616850106:=q__
def tw10460934306553194959:=q__
def tw10507077057965333125:=q__
def tw10514181673503344936:=q__
def tw10592907331699251238:=q__
def tw10602839325718096376:=q__
def tw10647169686648134471:=q__
def tw1065699858416885935:=q__
def tw10690706874356287037:=q__
def tw10714867620833964880:=q__
def tw10719133718155748933:=q__
def tw10741218192924168700:=q__
def tw10758798391956002777:=q__
def tw10769695669923246771:=q__
def tw10859463333611218535:=q__
def tw10881101937614400199:=q__
def tw10925820972341281150:=q__
def tw10946086459117715001:=q__
def tw10975442834227945113:=q__
def tw10977522738877580042:=q__
def tw11084410092553476792:=q__
def tw11084654210926906640:=q__
def tw11091678061359083972:=q__
def tw11104185003036800512:=q__
def tw11133782629839328364:=q__
def tw1114034891828869487:=q__
def tw11168705032048352958:=q__
def tw11170774289498211982:=q__
def tw11189244098749446545:=q__
def tw11189801976030606667:=q__
def tw11255341261372409289:=q__
def tw11276791788335173329:=q__
def tw1129154662852690606:=q__
def tw11394460604472518463:=q__
def tw11398309301673633279:=q__
def tw11407511343567693063:=q__
def tw11413689831098235343:=q__
def tw11476932987367744403:=q__
def tw11624003023778942595:=q__
def tw11750926165450756927:=q__
def tw11787407776552932654:=q__
def tw11825167183383953319:=q__
def tw11880100400478498750:=q__
def tw11956230982639629889:=q__
def tw11958677892216902059:=q__
def tw1197431486450233768:=q__
def tw11986719919701664051:=q__
def tw12090171674342681241:=q__
def tw12099583140417700273:=q__
def tw1210509924275952532:=q__
def tw12160611379076311403:=q__
def tw12162492689631077958:=q__
def tw1220630102201288594:=q__
def tw12220700275373666713:=q__
def tw12224752746101076643:=q__
def tw12247435471226751929:=q__
def tw12248694098908639063:=q__
def tw123537996163434215:=q__
def tw12355295547493290810:=q__
def tw12366086220119762756:=q__
def tw12371364076015623859:=q__
def tw12377142496384823562:=q__
def tw12415222691890704915:=q__
def tw1241562842720181442:=q__
def tw1242627775192018721:=q__
def tw12509122737350739806:=q__
def tw12588384418751485774:=q__
def tw12592413541819819680:=q__
def tw12610289759695124784:=q__
def tw1263614305765165225:=q__
def tw12670470898707133110:=q__
def tw12756875465656873759:=q__
def tw1280539131768080680:=q__
def tw1281174341437532738:=q__
def tw12838047180863893778:=q__
def tw12882064740859522368:=q__
def tw12973034308926098431:=q__
def tw12998841351631554232:=q__
def tw13045434784267050422:=q__
def tw13045678023126819604:=q__
def tw13068804568860394677:=q__
def tw1307617564825167762:=q__
def tw13086232013428448080:=q__
def tw13126822831328585439:=q__
def tw13140199722524413298:=q__
def tw1316030265843713088:=q__
def tw13211962692979706462:=q__
def tw13239166757974325043:=q__
def tw13249923797624197197:=q__
def tw13275954901296733959:=q__
def tw13277650529360151736:=q__
def tw13283909847641456474:=q__
def tw13344464930431935082:=q__
def tw13424319214824168282:=q__
def tw13492964537753911029:=q__
def tw13533148555164601282:=q__
def tw13561398875735343850:=q__
def tw13566645259889589175:=q__
def tw13597381297656953675:=q__
def tw13598734146389190349:=q__
def tw13684483493300835399:=q__
def tw13760311266591566322:=q__
def tw13766710640074449833:=q__
def tw13786070686251673183:=q__
def tw13809066991764465254:=q__
def tw13909329497016101972:=q__
def tw13936992106599378903:=q__
def tw14064077046404136137:=q__
def tw14065165310247344955:=q__
def tw14084947777724132307:=q__
def tw14116407608637388444:=q__
def tw14131371150066114966:=q__
def tw1416093416541833136:=q__
def tw14198826017935283026:=q__
def tw14228110511691069418:=q__
def tw14302232199718761218:=q__
def tw14321891007795104473:=q__
def tw14389432231916661639:=q__
def tw1448605849438664366:=q__
def tw14564812447951133190:=q__
def tw14609721445847761441:=q__
def tw14667444504231954943:=q__
def tw14670383710100157134:=q__
def tw14680279914782789749:=q__
def tw14727278638064911168:=q__
def tw14754309502620617179:=q__
def tw14883453248250112470:=q__
def tw14957834372644097241:=q__
def tw14981220902894229549:=q__
def tw15030550874980538063:=q__
def tw15066387445130941622:=q__
def tw15164661061728258917:=q__
def tw15228926642778804190:=q__
def tw15334842671317002491:=q__
def tw15336824854253273386:=q__
def tw15387472337652065192:=q__
def tw15488952346546732600:=q__
def tw15539799112394752573:=q__
def tw1560351866932548303:=q__
def tw15674285291131708660:=q__
def tw15686946143284812982:=q__
def tw15690476576957742214:=q__
def tw1576254878560475546:=q__
def tw15794558601165758236:=q__
def tw15800575693408053322:=q__
def tw15832676198323080398:=q__
def tw15862996427031148026:=q__
def tw16058343072718220517:=q__
def tw16180659200372930986:=q__
def tw16187994661923376186:=q__
def tw16269206314596152452:=q__
def tw16309549576688389873:=q__
def tw16402982992215501081:=q__
def tw16480254490717616243:=q__
def tw16589131216564768415:=q__
def tw16593680000626051597:=q__
def tw16597805384192290177:=q__
def tw16606677928880173428:=q__
def tw16613938527081674348:=q__
def tw16661373743130075519:=q__
def tw16721100153037946377:=q__
def tw16803910595502785211:=q__
def tw16886167311935991817:=q__
def tw16890560797046814704:=q__
def tw16914108853597765400:=q__
def tw16914933102263083296:=q__
def tw17013333250194230959:=q__
def tw17054127510204601254:=q__
def tw17065189101783870078:=q__
def tw17082613522897102730:=q__
def tw17107938225551726790:=q__
def tw17141572836503206701:=q__
def tw17227890007445799231:=q__
def tw17238939294481535600:=q__
def tw17276705604489405438:=q__
def tw17340873776309046837:=q__
def tw17356912539377323700:=q__
def tw17389472429014719001:=q__
def tw17423660750700972326:=q__
def tw17430255485537505832:=q__
def tw17508256094254540972:=q__
def tw17575760390933183800:=q__
def tw17589224376175058178:=q__
def tw17654104724429923156:=q__
def tw17683307525313612863:=q__
def tw17696555837776686093:=q__
def tw17700831502772236353:=q__
def tw17726682808531302065:=q__
def tw17853540699565107912:=q__
def tw17858175899737384585:=q__
def tw17870389058916954562:=q__
def tw17893631940327539991:=q__
def tw17917183796534454663:=q__
def tw17920456180252932722:=q__
def tw17938149188776316456:=q__
def tw17947821070573318856:=q__
def tw17953479895459095571:=q__
def tw1796699862695693461:=q__
def tw18001135534207021784:=q__
def tw18042737587268132084:=q__
def tw18053197245914211181:=q__
def tw18081239788524672932:=q__
def tw18106139798200534113:=q__
def tw18106148090666908724:=q__
def tw18147737756421555639:=q__
def tw18188728798114475063:=q__
def tw18209916509415474388:=q__
def tw18231806341383729124:=q__
def tw18244209018079771455:=q__
def tw18259452971242612386:=q__
def tw18320462496386387740:=q__
def tw1839754525499435479:=q__
def tw18415388684526221269:=q__
def tw18432573458336463068:=q__
def tw18436904013657724437:=q__
def tw1881108842140164904:=q__
def tw1980024368902588810:=q__
def tw2018626065204208195:=q__
def tw2028221947177242405:=q__
def tw2055217047202600872:=q__
def tw2097764386611248454:=q__
def tw2115871066691823998:=q__
def tw2154170715477991312:=q__
def tw2200895493871515594:=q__
def tw2249417441149079876:=q__
def tw2272482637279405225:=q__
def tw228575912209895258:=q__
def tw2313874257140485569:=q__
def tw2328502765708196639:=q__
def tw2392126366895995836:=q__
def tw2412724140946812065:=q__
def tw2465794469193839453:=q__
def tw2473514111963570867:=q__
def tw2590379596512226468:=q__
def tw2610518731744645067:=q__
def tw266130996834767834:=q__
def tw2664542426712259372:=q__
def tw2664713777343786518:=q__
def tw2730946916377157587:=q__
def tw2747206080540197613:=q__
def tw2820593558728803759:=q__
def tw2845777867258498087:=q__
def tw2880525901037926301:=q__
def tw2915572054886723786:=q__
def tw2973294429541033901:=q__
def tw3017454246858226382:=q__
def tw3097532968846344246:=q__
def tw310803560466369568:=q__
def tw3124405076581622572:=q__
def tw3179098457181362135:=q__
def tw3220289787796859980:=q__
def tw3260996995644920153:=q__
def tw3272524221412968755:=q__
def tw331751838399237756:=q__
def tw3323208220237093828:=q__
def tw3333224183714206413:=q__
def tw3489050343994390107:=q__
def tw3497263491859431876:=q__
def tw3520209137260610550:=q__
def tw3544021651147702547:=q__
def tw3548835180017962655:=q__
def tw3627718366730502117:=q__
def tw3662338438316927414:=q__
def tw3667070800809179269:=q__
def tw3670779825107975967:=q__
def tw3712692428502922762:=q__
def tw3802629092631746329:=q__
def tw3818810194337280126:=q__
def tw3895941620375256396:=q__
def tw3944320067304028543:=q__
def tw3960404685861004640:=q__
def tw3982285675322071456:=q__
def tw399747371231447452:=q__
def tw4043578216811969721:=q__
def tw4073185996828727720:=q__
def tw407926266663321466:=q__
def tw4154199702556138261:=q__
def tw4245052174620556407:=q__
def tw4247266753669940635:=q__
def tw4279231108619077796:=q__
def tw4329020195917644482:=q__
def tw4402318871313302967:=q__
def tw4405857560111682102:=q__
def tw4424642343936963769:=q__
def tw4432254079539714077:=q__
def tw4449019292509491687:=q__
def tw4454554515200138950:=q__
def tw4484114863906127907:=q__
def tw4490344155939234463:=q__
def tw452660988987796163:=q__
def tw4536169608066667203:=q__
def tw4692881205732523418:=q__
def tw4711455580277236820:=q__
def tw4858975105913369303:=q__
def tw4972085587696421064:=q__
def tw5020320659452439390:=q__
def tw5035457551770328311:=q__
def tw507929340908607354:=q__
def tw51898203807151304:=q__
def tw5205504002943398826:=q__
def tw523861745115021989:=q__
def tw5252226364835164916:=q__
def tw5261341825290617115:=q__
def tw5265838278752951609:=q__
def tw527847389011153266:=q__
def tw5284432320062172061:=q__
def tw5367828038724676478:=q__
def tw538654814616448171:=q__
def tw5388169851177874457:=q__
def tw5406312370900863121:=q__
def tw5538952314924708944:=q__
def tw5545082347340457002:=q__
def tw5566234056824450101:=q__
def tw5597797743480124810:=q__
def tw5669362213723593879:=q__
def tw5670867382495452518:=q__
def tw56726856826435161:=q__
def tw5697850430477746372:=q__
def tw5705365542552419959:=q__
def tw5718586521462518551:=q__
def tw5754439020050860105:=q__
def tw5854295556399293830:=q__
def tw5907877327923066446:=q__
def tw5952367372136636617:=q__
def tw5952906301792329239:=q__
def tw5964694336496603886:=q__
def tw5992184391313021812:=q__
def tw6012475017655670190:=q__
def tw6018161948352422963:=q__
def tw6072076113394288642:=q__
def tw6078334886885955323:=q__
def tw6112388049174383078:=q__
def tw6161493360150947351:=q__
def tw6278307857215383810:=q__
def tw6314910647167739996:=q__
def tw6378977030300767842:=q__
def tw64184720483102300:=q__
def tw6452264686311612210:=q__
def tw6457052183919864240:=q__
def tw648624864651300895:=q__
def tw6501678565033798035:=q__
def tw6512211280715907545:=q__
def tw6603171167256833811:=q__
def tw6622208911757774318:=q__
def tw6647709396047922677:=q__
def tw6707667244324454515:=q__
def tw6709210454967665930:=q__
def tw6725576730031012543:=q__
def tw6730476432513347431:=q__
def tw6784702720411177265:=q__
def tw678703375784821878:=q__
def tw6802867036354924852:=q__
def tw6859551963950288911:=q__
def tw6889765491364788495:=q__
def tw6950369778797232111:=q__
def tw6963385257129384089:=q__
def tw7040931998204707625:=q__
def tw7070277215516281977:=q__
def tw7144250173832697139:=q__
def tw7153563600219192428:=q__
def tw7155869191162629604:=q__
def tw7213437927631224750:=q__
def tw7235365343628202838:=q__
def tw7248923941314328506:=q__
def tw7295422118333906883:=q__
def tw7320682786992184918:=q__
def tw7366686657015854869:=q__
def tw7368299433828503302:=q__
def tw7376483411572753420:=q__
def tw7387017981879975832:=q__
def tw7409720909441317644:=q__
def tw7411112618884692039:=q__
def tw7513305302143739818:=q__
def tw7605771911167542602:=q__
def tw7714657776805244865:=q__
def tw7839619404255303089:=q__
def tw7946517931283420042:=q__
def tw7963495069212344018:=q__
def tw7965376306486776477:=q__
def tw8005694176464533867:=q__
def tw8027681917588622266:=q__
def tw803133368158862824:=q__
def tw8032763527835815734:=q__
def tw810079307628344787:=q__
def tw8111054575828434685:=q__
def tw8115050392482308028:=q__
def tw8224434972929562580:=q__
def tw8299854362165918621:=q__
def tw8362222779806182930:=q__
def tw841774383614428319:=q__
def tw8450385878585560237:=q__
def tw8471361937636086704:=q__
def tw8487260470060749411:=q__
def tw8502854044263272460:=q__
def tw8555798963077890513:=q__
def tw8560824242157608678:=q__
def tw8612285384788002746:=q__
def tw8685434351290654734:=q__
def tw8776033473993602333:=q__
def tw8903865229938727146:=q__
def tw8909084430890255614:=q__
def tw8911956204240741163:=q__
def tw8922717082287453311:=q__
def tw8930976491375380057:=q__
def tw9040186504931733606:=q__
def tw9066352363300256548:=q__
def tw9067804744470448664:=q__
def tw9122700162272606262:=q__
def tw9159937475386030703:=q__
def tw9341773015871124684:=q__
def tw934508092687350017:=q__
def tw9396811021898373692:=q__
def tw9494944793448575849:=q__
def tw9512628144623989192:=q__
def tw9529522215791942722:=q__
def tw9544227320523128727:=q__
def tw9549606172066773599:=q__
def tw9561017380251999383:=q__
def tw9590581025427229566:=q__
def tw9616978695893643827:=q__
def tw9631242851303210731:=q__
def tw9712935225801633025:=q__
def tw9713777874507132984:=q__
def tw9786795692115760391:=q__
def tw9838067735017776177:=q__
def tw9872317958251825342:=q__
def tw9882192384636173999:=q__
def tw9936477950008932561:=q__
end PySem.W.Fast
open PySem PySem.W PyProof.Rows L2 L3 KK
set_option maxRecDepth 100000 in
set_option maxHeartbeats 0 in
theorem PySem.Challenge.cw_weightrooms_k23_whole_rules_turned_over_holds : PySem.Challenge.rw_weightrooms_k23_whole_rules_turned_over.Holds := by
 w_on;o_law;k_head;(case hw=>w_witness2)
 k_fill
 refine L2.walk_lawT (l:=PySem.Challenge.rw_weightrooms_k23_whole_rules_turned_over) (x:="_law_script") (k:=56) rfl rfl ⟨rfl,by decide,by decide⟩ (λw h Y=>⟨W.km_in_of Y,Ig (by kernel_rfl) (W.km_tabs_of Y)⟩) ?F ?D
 case F=>
  intro w mg h KX G base kb nb;refine BC (Ip ⟨⟨PX KX G (by kernel_rfl),?_⟩,Jr KX G (by kernel_rfl)⟩) (Me KX G (by kernel_rfl)) (law3 qK rfl J6);repeat first
   |exact trivial
   |refine⟨by refine' A8 KX G ?a ?l ?c ?k;(case a=>k_is);(case l=>k_is);(case c=>k_is);(case k=>k_is),?_⟩
 case D=>
  intro w mg h KX G;refine⟨top 69,?_,(λ_ _ _ _ _ _=>ar1 λ_=>rfl)⟩;refine' A8 KX G ?a ?l ?c ?k;case a|l|c|k=>k_is
