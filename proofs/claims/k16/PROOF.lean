import PyProof.Rows.All
import Wide.All
import OpenK.AllK
import Wide.FinOn
import Lean
import PyProof.EqAt
import PyProof.EqKinds
import PyProof.TupleCall
import PyProof.Rows.SumAny
import PyProof.EnumMake
import PyProof.Draws
import PyProof.ZipIter
import KE.KUnpack
import KE.KxIndex
import PyProof.SetRoads
import PyProof.SetNew
import PyProof.AutoSeq1
import KE.KRevSl
import PyProof.SeqI3
import PySem.Challenge.RW_weightrooms_k16_whole_turned_over
local macro_rules|`(tactic|trivial)=>`(tactic|first|exact Or.inl rfl|exact Or.inr rfl)
local macro_rules|`(tactic|decide)=>`(tactic|decide +kernel)
set_option genSizeOf false
set_option genInjectivity false
set_option bootstrap.genMatcherCode false
noncomputable section
set_option Elab.async false
set_option linter.all false
def Qp:=@List.length_map
def Qq:=@PySem.wpAny_bind
def Qr:=@List.mem_cons_of_mem
def Qs:=@List.getElem?_eq_some_iff
def Qt:=@List.mem_cons_self
def Qu:=@Nat.le_refl
def Qv:=@List.map_cons
def Qw:=@List.length_append
def Qx:=@Bool.false_ne_true
def Qy:=@Bool.and_eq_true
def Qz:=@PySem.Heap.get?_push_of_some
def QA:=@PySem.Heap.lt_size
def QB:=@List.length_cons
def QC:=@List.size_toArray
def QD:=@List.mem_cons
def QE:=@PySem.wpAny_pure
def QF:=@List.getElem?_eq_getElem
def QG:=@decide_eq_false
def QH:=@List.length_set
def QI:=@Nat.le_trans
def QJ:=@PySem.Heap.get?_push_size
def QK:=@Option.some.inj
def QL:=@Nat.lt_of_lt_of_le
def QM:=@List.getElem?_map
def QN:=@beq_eq_false_iff_ne
def QO:=@List.getElem?_append_right
def QP:=@List.length_nil
def QQ:=@decide_eq_true
def QR:=@List.getElem?_append_left
def QS:=@Option.map_eq_some_iff
def QT:=@Nat.ne_of_lt
def QU:=@List.mem_append_right
def QW:=@Option.isSome_iff_exists
def QX:=@List.mem_map
def QY:=@List.nil_append
def QZ:=@List.map_nil
def Q0:=@Nat.zero_le
def Q1:=@Option.bind_eq_some_iff
def Q2:=@List.map_append
def Q3:=@List.append_nil
def Q4:=@List.all_eq_true
def Q5:=@List.getD_eq_getElem?_getD
def Q6:=@List.sum_cons
def Q7:=@List.mem_of_getElem?
def Q8:=@PySem.wpAny_mono
def Q9:=@PySem.W.mg_none_of
def Q_:=@Int.toNat_natCast
def Ra:=@List.find?_cons
def Rb:=@List.mem_map_of_mem
def Rg:=@List.map_map
def Rh:=@List.mem_append
def Ri:=@PySem.wpAny_field
def Rj:=@List.getElem?_replicate
def Rl:=@Nat.lt_irrefl
def Rm:=@Int.natAbs_mul
def Rn:=@List.mem_range
def Ro:=@Nat.mul_le_mul
def Rq:=@List.append_assoc
def Rr:=@List.length_replicate
def Ru:=@congrArg
def Rv:=@Int.mul_assoc
def Rw:=@List.any_cons
def Rx:=@PySem.wpAny_newObj_type
def Ry:=@Rat.intCast_mul
def RC:=@PySem.mem_of_lookup
def RD:=@List.length_take
def RH:=@List.getElem?_eq_none_iff
def RJ:=@List.mem_or_eq_of_mem_set
def RK:=@Nat.mul_pos
def RL:=@Nat.sub_self
def RN:=@of_decide_eq_true
def RP:=@PySem.wpAny_callSpecial?_slot
def RQ:=@List.filterMap_cons
def RR:=@if_true
def RV:=@PySem.wpAny_seqItems
def RW:=@List.take_of_length_le
def RX:=@PyProof.Rows.callWith_type1
def RY:=@decide_eq_true_iff
def RZ:=@PySem.wpAny_setField_rec
def R0:=@Int.natCast_mul
def R4:=@List.getElem?_zipWith
def R5:=@PySem.wpAny_passesOwn
def R6:=@PySem.F.slot_tuple_iterator_next
def R7:=@List.length_range
def R8:=@PySem.wpAny_truthy_bool
def R9:=@PySem.Heap.size_push
def R_:=@List.lookup_cons
def Sa:=@PySem.F.slot_list_append
def Sb:=@PySem.F.type_list_append
def Sd:=@List.length_zipWith
def Se:=@List.map_congr_left
def Sf:=@Nat.mul_le_mul_left
def Sg:=@List.all_cons
def Sh:=@List.take_nil
def Si:=@Bool.false_eq_true
def Sj:=@List.mem_singleton
def Sk:=@List.nodup_cons
def Sn:=@Nat.lt_of_le_of_lt
def So:=@Nat.not_lt_zero
def Sq:=@List.find?_cons_of_neg
def Sr:=@Int.mul_left_comm
def Ss:=@List.dropLast_eq_take
def Su:=@List.mapM_cons
def Sv:=@List.take_append_drop
def Sx:=@List.sublist_flatten_of_mem
def Sy:=@List.getElem?_set_ne
def SA:=@List.getElem_mem
def SD:=@List.length_drop
def SE:=@List.mem_append_left
def SF:=@Nat.pow_le_pow_right
def SH:=@beq_iff_eq
def SI:=@beq_self_eq_true
def SJ:=@PySem.wpAny_call_entry
def SK:=@Int.eq_of_mul_eq_mul_right
def SM:=@Int.fmod_eq_emod_of_nonneg
def SN:=@List.drop_nil
def SO:=@PySem.wpAny_holding
def SQ:=@Nat.pow_add
def SS:=@Bool.eq_iff_iff
def SU:=@Classical.byContradiction
def SW:=@PySem.AutoSeq1.wpAny_loadPart'
def SX:=@Int.mul_comm
def SY:=@Int.mul_right_comm
def S7:=@Nat.ne_of_gt
def S8:=@PySem.F.args_tuple_add_2
def S9:=@PySem.F.slot_list_extend
def S_:=@PySem.wpAny_Call_Name_kw
def Ta:=@PySem.wpAny_pyIter_tuple
def Tb:=@PySem.W.mg_of
def Tc:=@List.length_eq_zero_iff
def Td:=@PySem.F.entry_tuple_add
def Te:=@List.flatten_cons
def Tf:=@List.getElem?_nil
def Tg:=@List.getElem?_set
def Th:=@decide_eq_true_eq
def Ti:=@PySem.Heap.get?_update_other
def Tj:=@List.Sublist.length_le
def Tn:=@List.find?_cons_of_pos
def To:=@PySem.F.slot_tuple_add
def Tp:=@List.cons_append
def Tq:=@Nat.le_add_right
def Ts:=@if_false
def Tt:=@PySem.F.slot_zip_next
def Tu:=@PySem.Heap.get?_none_of_le
def Tv:=@Int.mul_ne_zero
def Tw:=@List.getElem?_append
def Tx:=@List.getElem?_of_mem
def Tz:=@Nat.le_of_lt
def TB:=@Nat.lt_trans
def TC:=@Nat.min_eq_left
def TF:=@Nat.mul_le_mul_right
def TH:=@PySem.wpAny_execs_nil
def TJ:=@PySem.wpAny_updateSeq_pair
def TK:=@Array.length_toList
def TL:=@List.length_pos_iff
def TM:=@Nat.mul_assoc
def TN:=@PySem.Paired.length
def TQ:=@PySem.wpAny_attempt
def TR:=@PySem.wpAny_onRaise
def TU:=@PySem.wpAny_standAt
set_option maxRecDepth 100000
namespace L2
open PySem PySem.Spec PyProof.Rows
abbrev _root_.Ua:=Str->Option Value
abbrev _root_.Ub:=List (Addr×Obj)
abbrev _root_.Uc:=Value->Shared->Prop
abbrev _root_.Ud:=List (Option Nat)
abbrev Key:=Sum Int Str
def nt:Key->Value->Bool
 |.inl k,v=>Value.isInt k v
 |.inr x,v=>Value.isStrOf x v
def keyH(w:World):Key->Int
 |.inl k=>hashInt k
 |.inr x=>hashStr w x
theorem cF:∀{k:Key}{v:Value},nt k v=true->(∃i t,k=Sum.inl i/\v=Value.int i t)\/(∃x t,k=Sum.inr x/\v=Value.str x t)
 |
  .inl i,v,h=>by
  obtain⟨t,e⟩:=Value.isInt_shape (k:=i) (v:=v) h
  exact .inl ⟨i,t,rfl,e⟩
 |
  .inr x,v,h=>by
  obtain⟨t,e⟩:=Value.isStrOf_shape (x:=x) (v:=v) h
  exact .inr ⟨x,t,rfl,e⟩
def Bh(i:Int)(t:Tok):nt (.inl i) (.int i t)=true:=by simp [nt,Value.isInt]
def AG(x:Str)(t:Tok):nt (.inr x) (.str x t)=true:=by simp [nt,Value.isStrOf]
def K6(a b:Int):decide ((Sum.inl a:Key)=Sum.inl b)=(a==b):=by
 by_cases e:a=b
 ·subst e;simp
 ·have h:¬ (Sum.inl a:Key)=Sum.inl b:=λq=>e (Sum.inl.inj q)
  rw[QG h]
  exact (QN.mpr e).symm
def Hg(a b:Str):decide ((Sum.inr a:Key)=Sum.inr b)=decide (a=b):=by
 by_cases e:a=b
 ·subst e;simp
 ·have h:¬ (Sum.inr a:Key)=Sum.inr b:=λq=>e (Sum.inr.inj q)
  rw[QG h,QG e]
def Lb(a:Int)(b:Str):decide ((Sum.inl a:Key)=Sum.inr b)=false:=QG (λq=>nomatch q)
def HC(a:Str)(b:Int):decide ((Sum.inr a:Key)=Sum.inl b)=false:=QG (λq=>nomatch q)
def ck(prog:Program)(w:World):PySem.KeyKind prog w Key where
 is:=nt
 hash:=keyH w
 inj
  := λv a b ha hb=>by
  rcases cF ha with ⟨i,t,rfl,rfl⟩ |⟨x,t,rfl,rfl⟩
  ·rcases cF hb with ⟨j,u,rfl,e⟩ |⟨y,u,rfl,e⟩
   ·injection e with e1 _;rw[e1]
   ·exact nomatch e
  ·rcases cF hb with ⟨j,u,rfl,e⟩ |⟨y,u,rfl,e⟩
   ·exact nomatch e
   ·injection e with e1 _;rw[e1]
 byValue:=λk v h=>by
  rcases cF h with ⟨i,t,rfl,rfl⟩ |⟨x,t,rfl,rfl⟩ <;> rfl
 pyHash:=λhv h=>by
  rcases cF hv with ⟨i,t,rfl,rfl⟩ |⟨x,t,rfl,rfl⟩
  ·exact wpAny_pyHash_int h
  ·exact wpAny_pyHash_str h
 eqBool:=λhu hv h=>by
  rcases cF hu with ⟨i,t,rfl,rfl⟩ |⟨x,t,rfl,rfl⟩
  ·rcases cF hv with ⟨j,u,rfl,rfl⟩ |⟨y,u,rfl,rfl⟩
   ·rw[K6] at h;exact wpAny_eqBool_int h
   ·rw[Lb] at h;exact SeqAt.EqAt.int_str i t y u _ _ _ _ h
  ·rcases cF hv with ⟨j,u,rfl,rfl⟩ |⟨y,u,rfl,rfl⟩
   ·rw[HC] at h;exact SeqAt.EqAt.str_int x t j u _ _ _ _ h
   ·rw[Hg] at h;exact wpAny_eqBool_str h
 «strs»:=λk x t v h=>by
  rcases cF h with ⟨i,u,rfl,e⟩ |⟨y,u,rfl,e⟩
  ·exact nomatch e
  ·injection e with e1 _
   subst e1
   cases v <;> rfl
def wb(prog:Program)(w:World)(i:Int)(t:Tok):(ck prog w).is (.inl i) (.int i t)=true:=Bh i t
def vR(prog:Program)(w:World)(x:Str)(t:Tok):(ck prog w).is (.inr x) (.str x t)=true:=AG x t
inductive V where
 |non |bl (b:Bool) |int (i:Int) |str (x:Str) |byt (b:Array UInt8) |flt (b:UInt64) |ref (a:Addr) |ty (n:String)
 deriving DecidableEq
noncomputable def RelV:V->Value->Prop
 |.non,u=>u=Value.none
 |.bl b,u=>u=Value.bool b
 |.int i,u=>∃t,u=Value.int i t
 |.str x,u=>∃t,u=Value.str x t
 |.byt b,u=>∃t,u=Value.bytes b t
 |.flt b,u=>∃t,u=Value.float b t
 |.ref a,u=>u=Value.ref a
 |.ty n,u=>u=Value.type n
abbrev Vals:List V->List Value->Prop:=Paired RelV
noncomputable def Vals.length(r:Vals xs us):xs.length=us.length:=TN r
def Vals.get{xs:List V}{us:List Value}{i:Nat}{x:V}(r:Vals xs us)(e:xs[i]?=some x):∃u,us[i]?=some u/\RelV x u:=by
 induction r generalizing i with
 |nil=>rw[Tf] at e;cases e
 |
  cons r t ih=>
  cases i with
  |zero=>cases e;exact⟨_,rfl,r⟩
  |succ i=>exact ih (i:=i) e
def Vals.set(r:RelV x u)(i:Nat)(q:Vals xs us):Vals (xs.set i x) (us.set i u):=by
 induction q generalizing i with
 |nil=>exact .nil
 |
  cons q t ih=>
  cases i with
  |zero=>exact .cons r t
  |succ i=>exact .cons q (ih i)
noncomputable def Vals.append(r:Vals xs us)(s:Vals ys ws):Vals (xs++ys) (us++ws):=by
 induction r with
 |nil=>exact s
 |cons r t ih=>exact .cons r ih
noncomputable def Vals.take(n:Nat)(r:Vals xs us):Vals (xs.take n) (us.take n):=by
 induction r generalizing n with
 |nil=>rw[Sh,Sh];exact .nil
 |
  cons r t ih=>
  cases n with
  |zero=>exact .nil
  |succ n=>exact .cons r (ih n)
noncomputable def Vals.drop(n:Nat)(r:Vals xs us):Vals (xs.drop n) (us.drop n):=by
 induction r generalizing n with
 |nil=>rw[SN,SN];exact .nil
 |
  cons r t ih=>
  cases n with
  |zero=>exact .cons r t
  |succ n=>exact ih n
def RelO:Option V->Option Value->Prop
 |some v,some u=>RelV v u
 |none,none=>True
 |_,_=>False
def KV{κ:Type}:List (κ×V)->List (κ×Value)->Prop:=Paired λ(p:κ×V) (q:κ×Value)=>p.1=q.1/\RelV p.2 q.2
def kV:Key->V
 |.inl i=>.int i
 |.inr x=>.str x
inductive HO where
 |lst (xs:List V)
 |tup (xs:List V)
 |dK (kvs:List (Key×V)) |dT (kvs:List (List Key×V))
 |set (S:Int->Bool) (n:Nat)
 |ins (C dx:Addr) (fs:List (Str×V))
 |own (x:Addr)
 |xd (fs:List (Str×V))
 |met (f x:Addr)
 |rng (lo hi:Int)
 |frz (o:Obj) (u:HO)
 |tbl (ps:Array Value)
 |ext (φ:Heap->Prop)
abbrev Hp:=Addr->Option HO
def upd(H:Hp)(a:Addr)(o:HO):Hp:=λb=>if b=a then some o else H b
def bR:upd H a o a=some o:=by unfold upd;rw[if_pos rfl]
def aR(h:b≠a):upd H a o b=H b:=by unfold upd;rw[if_neg h]
def MQ{H:Hp}{a b:Addr}{o u:HO}(h:H a=some o)(h':H b=some u)(d:o≠u):a≠b:=by
 intro e;subst e;rw[h] at h';exact d (QK h')
def cH{H:Hp}{a b:Addr}{o:HO}(h:H a=some o)(h':H b=none):a≠b:=by
 intro e;subst e;rw[h] at h';cases h'
section
variable(P:Program)(w:World)
def ObjOk(H:Hp)(h:Heap)(a:Addr):HO->Prop
 |.lst xs=>xs.length<=sizeLine/\∃(its:List Value) (n:Nat),Vals xs its/\h.get? a=some { cls:=.type "list",data:=.seq its.toArray n }
 |.tup xs=>xs.length<=sizeLine/\∃its:List Value,Vals xs its/\IsTup h a its.toArray
 |.dK kvs=>kvs.length<=sizeLine/\(a==sysModules)=false/\∃vs,KV kvs vs/\h.DictOf (ck P w) a vs
 |.dT kvs=>kvs.length<=sizeLine/\(a==sysModules)=false/\∃xs:List (List Key×Addr×Value),
  Paired (λ(p:List Key×V) (q:List Key×Addr×Value)=>p.1=q.1/\H q.2.1=some (.tup (p.1.map kV))/\RelV p.2 q.2.2) kvs xs/\
  ∃o es ep,h.get? a=some o/\o.ExactDict/\o.data=.dict es ep/\es.toList=xs.map (entryOfKey (tupleKind (ck P w)))/\(xs.map (·.1)).Nodup
 |.set S n=>h.SetOf (intKind P w) a S n
 |.ins C dx fs=>H dx=some (.own a)/\fs.length<=1000/\dx≠a/\h.get? a=some (W.instObj C dx)/\
  ∃mA,h.Ns1 dx mA/\(∀f,RelO (fs.lookup f) (mA f))/\PySem.Within mA (fs.map (·.1))
 |.own _=>∃o,h.get? a=some o
 |.xd fs=>∃mA,h.Ns1 a mA/\∀f,RelO (fs.lookup f) (mA f)
 |.rng lo hi=>∃t u v,h.get? a=some { cls:=.type "range",data:=.fields #[.int lo t,.int hi u,.int 1 v] }
 |.frz o u=>h.get? a=some o/\ObjOk H h a u
 |.tbl ps=>h.get? a=some { cls:=.none,data:=.fields ps }
 |.met f x=>h.get? a=some (W.methodObj (.ref f) (.ref x))
 |.ext φ=>φ h/\(∃o,h.get? a=some o)/\∀h1 h2:Heap,φ h1->(∀o,h1.get? a=some o->h2.get? a=some o)->φ h2
def HOk(H:Hp)(h:Heap):Prop:=∀a o,H a=some o->ObjOk P w H h a o
end
section
variable{P:Program}{w:World}{H H':Hp}{h h':Heap}{a:Addr}{o:HO}
def ObjOk.lt(x:ObjOk P w H h a o):a<h.objs.size:=by
 cases o with
 |lst xs=>obtain⟨_,_,_,_,e⟩:=x;exact QA e
 |tup xs=>obtain⟨_,_,_,p⟩:=x;exact p.lt
 |dK kvs=>obtain⟨_,_,_,_,o,_,_,e,_⟩:=x;exact QA e
 |dT kvs=>obtain⟨_,_,_,_,o,_,_,e,_⟩:=x;exact QA e
 |set S n=>obtain⟨o,_,_,_,e,_⟩:=x;exact QA e
 |ins C dx fs=>obtain⟨_,_,_,e,_⟩:=x;exact QA e
 |own y=>obtain⟨_,e⟩:=x;exact QA e
 |xd fs=>obtain⟨_,⟨_,_,_,e,_⟩,_⟩:=x;exact QA e
 |rng lo hi=>obtain⟨_,_,_,e⟩:=x;exact QA e
 |frz ob u=>obtain⟨e,_⟩:=x;exact QA e
 |tbl ps=>exact QA (show h.get? a=some _ from x)
 |met f y=>exact QA (show h.get? a=some _ from x)
 |ext φ=>obtain⟨_,⟨_,e⟩,_⟩:=x;exact QA e
def Paired.mapP(r:Paired F l₁ l₂)(f:∀a b,F a b->G a b):Paired G l₁ l₂:=by
 induction r with
 |nil=>exact .nil
 |cons r t ih=>exact .cons (f _ _ r) ih
def ObjOk.stay(x:ObjOk P w H h a o)(k:∀b u,(b=a\/H b=some (.own a))->h.get? b=some u->h'.get? b=some u)
 (ho:∀b,H b=some (.own a)->H' b=some (.own a)) (ht:∀b xs,H b=some (.tup xs)->H' b=some (.tup xs)):ObjOk P w H' h' a o:=by
 induction o with
 |lst xs=>obtain⟨z,its,n,r,e⟩:=x;exact⟨z,its,n,r,k _ _ (.inl rfl) e⟩
 |tup xs=>obtain⟨z,its,r,ob,e,c⟩:=x;exact⟨z,its,r,ob,k _ _ (.inl rfl) e,c⟩
 |dK kvs=>obtain⟨z,y,vs,r,ob,es,ep,e,c⟩:=x;exact⟨z,y,vs,r,ob,es,ep,k _ _ (.inl rfl) e,c⟩
 |
  dT kvs=>
  obtain⟨z,y,xs,r,ob,es,ep,e,c⟩:=x
  exact⟨z,y,xs,Paired.mapP r λp q z=>⟨z.1,ht _ _ z.2.1,z.2.2⟩,ob,es,ep,k _ _ (.inl rfl) e,c⟩
 |set S n=>obtain⟨ob,es,ep,t,e,c⟩:=x;exact⟨ob,es,ep,t,k _ _ (.inl rfl) e,c⟩
 |
  ins C dx fs=>
  obtain⟨d,z,ne,e,mA,⟨od,es,ep,e2,c⟩,r⟩:=x
  exact⟨ho _ d,z,ne,k _ _ (.inl rfl) e,mA,⟨od,es,ep,k _ _ (.inr d) e2,c⟩,r⟩
 |own y=>obtain⟨ob,e⟩:=x;exact⟨ob,k _ _ (.inl rfl) e⟩
 |xd fs=>obtain⟨mA,⟨od,es,ep,e,c⟩,r⟩:=x;exact⟨mA,⟨od,es,ep,k _ _ (.inl rfl) e,c⟩,r⟩
 |rng lo hi=>obtain⟨t,u,v,e⟩:=x;exact⟨t,u,v,k _ _ (.inl rfl) e⟩
 |frz ob u ih=>obtain⟨e,q⟩:=x;exact⟨k _ _ (.inl rfl) e,ih q⟩
 |
  tbl ps=>
  have e:h.get? a=some { cls:=.none,data:=.fields ps }:=x
  show h'.get? a=some { cls:=.none,data:=.fields ps }
  exact k a _ (.inl rfl) e
 |
  met f y=>
  have e:h.get? a=some (W.methodObj (.ref f) (.ref y)):=x
  show h'.get? a=some (W.methodObj (.ref f) (.ref y))
  exact k a _ (.inl rfl) e
 |ext φ=>obtain⟨p,⟨o,e⟩,st⟩:=x;exact⟨st _ _ p λo q=>k _ _ (.inl rfl) q,⟨o,k _ _ (.inl rfl) e⟩,st⟩
def HOk.lt(x:HOk P w H h)(e:H a=some o):a<h.objs.size:=(x a o e).lt
def HOk.fresh(x:HOk P w H h)(e:h.objs.size<=a):H a=none:=by
 cases q:H a with
 |none=>rfl
 |some u=>exact absurd (QL (x.lt q) e) (Rl _)
def HOk.kept(x:HOk P w H h)(k:∀b u,h.get? b=some u->h'.get? b=some u):HOk P w H h':=λa o e=>
 (x a o e).stay (λb u _ q=>k b u q) (λ_ q=>q) λ_ _ q=>q
def HOk.laid(x:HOk P w H h)(k:∀b u,h.get? b=some u->h'.get? b=some u)(hp:h.objs.size<=a)(new:ObjOk P w (upd H a o) h' a o):HOk P w (upd H a o) h':=λb u e=>by
 have hn:=x.fresh hp
 by_cases hb:b=a
 ·subst hb;rw[bR] at e;cases e;exact new
 ·rw[aR hb] at e
  exact (x b u e).stay (λc v _ q=>k c v q) (λc q=>by rw[aR (cH q hn)];exact q) λc xs q=>by rw[aR (cH q hn)];exact q
end
def Rd(H:Hp)(a:Addr)(u:HO):Prop:=H a=some u\/∃o,H a=some (.frz o u)
def Rd.ok(r:Rd H a u)(x:HOk P w H h):ObjOk P w H h a u:=by
 rcases r with r |⟨o,r⟩
 ·exact x a u r
 ·obtain⟨_,q⟩:=x a _ r
  exact q
def Mut:Option HO->Prop
 |some (.lst _)=>True
 |some (.dK _)=>True
 |some (.dT _)=>True
 |some (.set _ _)=>True
 |some (.ins _ _ _)=>True
 |some (.ext _)=>True
 |_=>False
section
variable{P:Program}{w:World}{H:Hp}{h h':Heap}{x e:Addr}{o':HO}
def HOk.write(ok:HOk P w H h)(mu:Mut (H x))(he:e=x\/H e=some (.own x))(k:∀b u,b≠e->h.get? b=some u->h'.get? b=some u)(heo:∃u,h'.get? e=some u)
 (new:ObjOk P w (upd H x o') h' x o'):HOk P w (upd H x o') h':=λb u q=>by
 have nown:∀c y,H c=some (.own y)->c≠x:=λc y r z=>by subst z;rw[r] at mu;exact mu
 have ntup:∀c xs,H c=some (.tup xs)->c≠x:=λc xs r z=>by subst z;rw[r] at mu;exact mu
 by_cases hb:b=x
 ·subst hb;rw[bR] at q;cases q;exact new
 ·rw[aR hb] at q
  by_cases hbe:b=e
  ·have q':H b=some (.own x):=by
    rcases he with z |z
    ·exact absurd (hbe.trans z) hb
    ·rw[hbe];exact z
   rw[q] at q';cases q'
   obtain⟨v,hv⟩:=heo
   exact⟨v,by rw[hbe];exact hv⟩
  ·refine (ok b u q).stay (λc v hc r=>k c v ?_ r) (λc r=>by rw[aR (nown c b r)];exact r) λc xs r=>by rw[aR (ntup c xs r)];exact r
   rcases hc with rfl |hc
   ·exact hbe
   ·rintro rfl
    rcases he with z |z
    ·exact nown c b hc z
    ·rw[hc] at z;cases z;exact hb rfl
end
structure Un(fs ex:List Addr)(H H':Hp)(h h':Heap):Prop where
 keep:∀b o,h.get? b=some o->H b=none->b∉fs->b∉ex->h'.get? b=some o
 slot:∀b o,h.get? b=some o->H b=none->b∈fs->b∉ex->∃sl,h'.get? b=some { o with slots:=sl }
 free:∀b o,h.get? b=some o->H b=none->b∉ex->H' b=none
 there:∀b o,h.get? b=some o->b∉ex->∃o',h'.get? b=some o'
 tups:∀b xs,H b=some (.tup xs)->H' b=some (.tup xs)
 frzs:∀b o u,H b=some (.frz o u)->H' b=some (.frz o u)
 tbls:∀b ps,H b=some (.tbl ps)->∃more,H' b=some (.tbl (ps++more))
section
variable{fs fs' ex ex':List Addr}{H H1 H2:Hp}{h h1 h2 h':Heap}{a x e:Addr}{o:HO}
def Un.any(u:Un fs ex H H1 h h1)(q:h.get? b=some ob)(n:H b=none)(hx:b∉ex):∃sl,h1.get? b=some { ob with slots:=sl }:=by
 by_cases hb:b∈fs
 ·exact u.slot b ob q n hb hx
 ·exact⟨ob.slots,u.keep b ob q n hb hx⟩
noncomputable def Un.kept(k:∀b u,h.get? b=some u->h'.get? b=some u):Un fs ex H H h h':=
 ⟨λb ob q _ _ _=>k b ob q,λb ob q _ _ _=>⟨ob.slots,k b ob q⟩,λ_ _ _ n _=>n,λb ob q _=>⟨ob,k b ob q⟩,λ_ _ q=>q,λ_ _ _ q=>q,λ_ ps q=>⟨#[],by rw[q];simp⟩⟩
def Un.refl:Un fs ex H H h h:=Un.kept λ_ _ q=>q
def Un.laid(k:∀b u,h.get? b=some u->h'.get? b=some u)(hp:h.objs.size<=a)(hn:H a=none):Un fs ex H (upd H a o) h h' where
 keep:=λb u q _ _ _=>k b u q
 slot:=λb u q _ _ _=>⟨u.slots,k b u q⟩
 free:=λb u q n _=>by rw[aR (QT (QL (QA q) hp))];exact n
 there:=λb u q _=>⟨u,k b u q⟩
 tups:=λb xs q=>by rw[aR (cH q hn)];exact q
 frzs:=λb u xs q=>by rw[aR (cH q hn)];exact q
 tbls:=λb ps q=>⟨#[],by rw[aR (cH q hn),q];simp⟩
def Un.write(mu:Mut (H x))(he:e=x\/H e=some (.own x))(k:∀b u,b≠e->h.get? b=some u->h'.get? b=some u)(heo:∃u,h'.get? e=some u):Un fs ex H (upd H x o) h h':=by
 have hx:∀b,H b=none->b≠x:=λb n z=>by subst z;rw[n] at mu;exact mu
 have hb:∀b,H b=none->b≠e:=λb n z=>by
  subst z
  rcases he with r |r
  ·exact hx b n r
  ·rw[n] at r;cases r
 have hm:∀b u,H b=some u->¬ Mut (some u)->b≠x:=λb u q nm z=>by subst z;rw[q] at mu;exact nm mu
 refine⟨λb u q n _ _=>k b u (hb b n) q,λb u q n _ _=>⟨u.slots,k b u (hb b n) q⟩,λb u q n _=>by rw[aR (hx b n)];exact n,λb u q _=>?_,
  λb xs q=>by rw[aR (hm b _ q λz=>z)];exact q,λb u xs q=>by rw[aR (hm b _ q λz=>z)];exact q,λb ps q=>⟨#[],by rw[aR (hm b _ q λz=>z),q];simp⟩⟩
 by_cases hbe:b=e
 ·subst hbe;exact heo
 ·exact⟨u,k b u hbe q⟩
end
def trk(h:Heap)(H:Hp):List Addr:=(List.range h.objs.size).filter λa=>(H a).isSome
def lQ(h:Heap)(H:Hp):Heap:=W.hideAll h (trk h H)
def Bp(h:Heap)(H:Hp):(lQ h H).objs.size=h.objs.size:=W.hideAll_size _ _
def CS(e:h.get? b=some o)(n:H b=none):(lQ h H).get? b=some o:=
 W.hideAll_get _ e λhm=>by
  have q:(H b).isSome=true:=(List.mem_filter.mp hm).2
  rw[n] at q;simp at q
def EZ(e:(lQ h H).get? b=some o):h.get? b=some o/\H b=none:=by
 have e':h.get? b=some o:=W.of_hideAll (trk h H) e
 refine⟨e',?_⟩
 cases q:H b with
 |none=>rfl
 |
  some x=>
  have hm:b∈trk h H:=List.mem_filter.mpr ⟨Rn.mpr (QA e'),by simp [q]⟩
  have z:(lQ h H).get? b=none:=W.hideAll_none (trk h H) hm
  rw[z] at e;cases e
noncomputable def Hb(g h:Heap)(L:Addr):List (Addr×Obj):=(List.range h.objs.size).filterMap λa=>if a=L\/(g.get? a).isSome=true then none else (h.get? a).map λo=>(a,o)
def d4(g h:Heap)(L d:Addr):List (Addr×Obj):=(Hb g h L).filter λp=>decide (p.1≠d)
structure Mod(K:W.Frag)(mg:Ua)(base:Heap):Prop where
 kin:K.In base
 glob:base.Ns mainGlobals mg
 blt:∃mb,base.Ns builtinsNs mb/\∀x:Str,x ≠ "__name__"->mb x=bootBuiltins x
 nolimit:base.NoLimit
structure Cx where
 prog:Program
 w:World
 K:W.Frag
 mg:Str->Option Value
 base:Heap
 A:Around
 N:List Str
 s₀:Shared
 H₀:Hp
 env:Env
 outer:List Env
 stack:List Env
 ex:List Addr
 fn:Str->Bool
 calm:Bool
 pn:List (Addr×Obj)
 xe:Value->Shared->Prop
noncomputable def frs(l:List Env):List Addr:=l.filterMap (·.frame)
abbrev Cx.fs(X:Cx):List Addr:=frs X.outer
def Vis(sc:Scope)(x:Str):Prop:=sc.names.lookup x=some .local\/sc.names.lookup x=some .cell\/sc.names.lookup x=some .free
def Loc(sc:Scope)(x:Str):Prop:=sc.names.lookup x=some .local\/sc.names.lookup x=some .cell
def Look(env:Env)(h:Heap)(m:Ua)(x:Str)(u:Value):Prop:=
 (env.kindOf x=some .local/\m x=some u)\/((env.kindOf x=some .cell\/env.kindOf x=some .free)/\∃c,env.cells.lookup x=some c/\h.IsCell c (some u))
structure Cx.Ok(X:Cx):Prop where
 mod:Mod X.K X.mg X.base
 kind:X.env.scope.kind=.function
 glob:X.env.globals=mainGlobals
 blt:X.env.builtins=builtinsNs
 above:X.s₀.heap.objs.size<=X.env.locals
 inj:∀x y c,X.env.cells.lookup x=some c->X.env.cells.lookup y=some c->x=y
 has:∀x,(X.env.kindOf x=some .cell\/X.env.kindOf x=some .free)->∃c,X.env.cells.lookup x=some c
 cab:∀x c,X.fn x=true->X.env.cells.lookup x=some c->X.s₀.heap.objs.size<=c
 hd:X.calm=true->X.A.handled=none
 frames:X.A.frames=some X.stack
 stk:X.stack=X.outer\/(X.stack=X.env::X.outer/\X.env.frame=some X.env.locals)
 exf:∀b∈X.ex,b≠X.env.locals/\∀x c,X.env.cells.lookup x=some c->c≠b
 bs:∀b o,X.base.get? b=some o->X.s₀.heap.get? b=some o/\X.H₀ b=none
 bsz:X.base.objs.size<=X.s₀.heap.objs.size
 noex:∀b o,X.base.get? b=some o->b∉X.ex
 exfs:∀b∈X.ex,b∉X.fs
 funs:X.s₀.heap.FunFrames X.base X.outer
 frf:∀b∈X.fs,X.H₀ b=none
structure Inv(X:Cx)(pins:Ub)(σ:List (Option V))(H:Hp)(s:Shared):Prop where
 ok:X.Ok
 os:s.os=X.s₀.os
 bare:AllBare s.gens
 base:Un X.fs X.ex X.H₀ H X.s₀.heap s.heap
 loc:∃m,s.heap.Ns X.env.locals m/\∀(i:Nat) (x:Str) (v:V),X.N[i]?=some x->σ[i]?=some (some v)->Vis X.env.scope x->∃u,RelV v u/\Look X.env s.heap m x u
 cell:∀x c,X.env.cells.lookup x=some c->∃v,s.heap.IsCell c v
 free:H X.env.locals=none
 freeC:∀x c,X.env.cells.lookup x=some c->H c=none
 pin:∀p∈X.pn++pins,s.heap.get? p.1=some p.2/\H p.1=none/\p.1≠X.env.locals/\p.1∉X.fs/\∀v,p.2.data ≠ .cell v
 hok:HOk X.prog X.w H s.heap
 len:σ.length=X.N.length
section
variable{X:Cx}{pins:Ub}{σ:List (Option V)}{H H':Hp}{s:Shared}{h':Heap}
def Cx.Ok.nofr(ok:X.Ok)(e:X.base.get? b=some o):b∉X.fs:=λhb=>by
 have:=(ok.funs.mem hb).1
 rw[e] at this;cases this
def Inv.bs(I:Inv X pins σ H s):∀b o,X.base.get? b=some o->s.heap.get? b=some o/\H b=none:=λb o e=>
 ⟨I.base.keep b o (I.ok.bs b o e).1 (I.ok.bs b o e).2 (I.ok.nofr e) (I.ok.noex b o e),I.base.free b o (I.ok.bs b o e).1 (I.ok.bs b o e).2 (I.ok.noex b o e)⟩
def Inv.bk(I:Inv X pins σ H s):∀b o,X.base.get? b=some o->s.heap.get? b=some o:=λb o e=>(I.bs b o e).1
def Inv.mod(I:Inv X pins σ H s):Mod X.K X.mg X.base:=I.ok.mod
def Inv.kIn(I:Inv X pins σ H s):X.K.In s.heap:=I.ok.mod.kin.keeps I.bk
def Inv.lt(I:Inv X pins σ H s):X.env.locals<s.heap.objs.size:=let ⟨_,hn,_⟩:=I.loc;hn.lt
def Inv.sz(I:Inv X pins σ H s):X.s₀.heap.objs.size<=s.heap.objs.size:=QI I.ok.above (Tz I.lt)
def Inv.nofs(I:Inv X pins σ H s)(h:s.heap.objs.size<=a):a∉X.fs:=λhb=>by
 obtain⟨_,o,ho,_⟩:=I.ok.funs.mem hb
 exact absurd (QL (QA ho) (QI I.sz h)) (Rl _)
def Inv.cne(I:Inv X pins σ H s):∀x c,X.env.cells.lookup x=some c->c≠X.env.locals:=λx c e z=>by
 obtain⟨v,o,ho,hd⟩:=I.cell x c e
 obtain⟨m,⟨o',es,ep,ho',hd',_⟩,_⟩:=I.loc
 rw[z,ho'] at ho;cases ho;rw[hd'] at hd;cases hd
def Inv.funs(I:Inv X pins σ H s):s.heap.FunFrames X.base X.outer:=by
 have all:∀(l:List Env),(∀b∈frs l,b∈X.fs)->X.s₀.heap.FunFrames X.base l->s.heap.FunFrames X.base l:=by
  intro l
  induction l with
  |nil=>intro _ _;trivial
  |
   cons env r ih=>
   intro hs hl
   obtain⟨hk,⟨L,o,hf,hn,ho,hd⟩,hr⟩:=hl
   have hL:L∈X.fs:=hs L (by unfold frs;rw[RQ,hf];exact Qt)
   obtain⟨sl,e⟩:=I.base.slot L o ho (I.ok.frf L hL) hL λz=>I.ok.exfs L z hL
   exact⟨hk,⟨L,_,hf,hn,e,hd⟩,ih (λb hb=>hs b (by unfold frs;rw[RQ,hf];exact Qr _ hb)) hr⟩
 exact all X.outer (λ_ hb=>hb) I.ok.funs
def Inv.stack(I:Inv X pins σ H s):s.heap.FunFrames X.base X.stack:=by
 rcases I.ok.stk with e |⟨e,hf⟩
 ·rw[e];exact I.funs
 ·rw[e]
  obtain⟨m,hn,_⟩:=I.loc
  refine .cons (by rw[I.ok.kind];decide) hf hn ?_ I.funs
  exact Tu (QI I.ok.bsz I.ok.above)
def Inv.stkSub(I:Inv X pins σ H s):∀b∈frs X.stack,b∈X.env.locals::X.fs:=λb hb=>by
 rcases I.ok.stk with e |⟨e,hf⟩
 ·rw[e] at hb;exact Qr _ hb
 ·rw[e] at hb
  unfold frs at hb
  rw[RQ,hf] at hb
  exact hb
def Inv.stkFree(I:Inv X pins σ H s):∀b∈frs X.stack,H b=none:=λb hb=>by
 rcases QD.mp (I.stkSub b hb) with e |hb
 ·rw[e];exact I.free
 ·obtain⟨_,o,ho,_⟩:=I.ok.funs.mem hb
  exact I.base.free b o ho (I.ok.frf b hb) λz=>I.ok.exfs b z hb
def Inv.step{g':Array GenState}{t':Nat}{d':Drawn}{ch:List Addr}(I:Inv X pins σ H s)
 (hch:∀b∈ch,(b∈X.ex\/X.s₀.heap.objs.size<=b)/\b≠X.env.locals/\(∀x c,X.env.cells.lookup x=some c->c≠b)/\∀p∈X.pn++pins,p.1≠b)
 (keep:∀b o,b≠X.env.locals->b∉X.fs->b∉ch->s.heap.get? b=some o->H b=none->h'.get? b=some o)
 (slot:∀b o,b≠X.env.locals->b∈X.fs->b∉ch->s.heap.get? b=some o->H b=none->∃sl,h'.get? b=some { o with slots:=sl }) (free:∀b o,b∉ch->s.heap.get? b=some o->H b=none->H' b=none)
 (there:∀b o,b∉ch->s.heap.get? b=some o->∃o',h'.get? b=some o')
 (tups:∀b xs,H b=some (.tup xs)->H' b=some (.tup xs)) (frzs:∀b o u,H b=some (.frz o u)->H' b=some (.frz o u)) (tbls:∀b ps,H b=some (.tbl ps)->∃more,H' b=some (.tbl (ps++more)))
 (ns:∀m,s.heap.Ns X.env.locals m->h'.Ns X.env.locals m) (hok:HOk X.prog X.w H' h') (hg:AllBare g'):
 Inv X pins σ H' { s with heap:=h',gens:=g',drawn:=d',toks:=t' }:=by
 have neL:∀b o,X.s₀.heap.get? b=some o->b≠X.env.locals:=λb o e=>QT (QL (QA e) I.ok.above)
 have neC:∀b o,X.s₀.heap.get? b=some o->b∉X.ex->b∉ch:=λb o e hx hb=>by
  rcases (hch b hb).1 with z |z
  ·exact hx z
  ·exact absurd (QL (QA e) z) (Rl _)
 have cellK:∀x c,X.env.cells.lookup x=some c->∀v,s.heap.IsCell c v->h'.IsCell c v:=λx c e v ⟨o,ho,hd⟩=>by
  have nch:c∉ch:=λz=>(hch c z).2.2.1 x c e rfl
  by_cases hc:c∈X.fs
  ·obtain⟨sl,q⟩:=slot c o (I.cne x c e) hc nch ho (I.freeC x c e)
   exact⟨_,q,hd⟩
  ·exact⟨o,keep c o (I.cne x c e) hc nch ho (I.freeC x c e),hd⟩
 refine⟨I.ok,I.os,hg,⟨λb o e n hb hx=>?_,λb o e n hb hx=>?_,λb o e n hx=>?_,λb o e hx=>?_,λb xs e=>tups b xs (I.base.tups b xs e),λb o xs e=>frzs b o xs (I.base.frzs b o xs e),λb ps e=>?_⟩,?_,λx c e=>?_,?_,λx c e=>?_,λp hp=>?_,hok,I.len⟩
 ·exact keep b o (neL b o e) hb (neC b o e hx) (I.base.keep b o e n hb hx) (I.base.free b o e n hx)
 ·obtain⟨sl,e1⟩:=I.base.slot b o e n hb hx
  obtain⟨sl',e2⟩:=slot b _ (neL b o e) hb (neC b o e hx) e1 (I.base.free b o e n hx)
  exact⟨sl',e2⟩
 ·obtain⟨o',e1⟩:=I.base.there b o e hx
  exact free b o' (neC b o e hx) e1 (I.base.free b o e n hx)
 ·obtain⟨o',e1⟩:=I.base.there b o e hx
  exact there b o' (neC b o e hx) e1
 ·obtain⟨m1,e1⟩:=I.base.tbls b ps e
  obtain⟨m2,e2⟩:=tbls b _ e1
  exact⟨m1++m2,by rw[e2,Array.append_assoc]⟩
 ·obtain⟨m,hn,hl⟩:=I.loc
  refine⟨m,ns m hn,λi x v e1 e2 e3=>?_⟩
  obtain⟨u,r,l⟩:=hl i x v e1 e2 e3
  refine⟨u,r,?_⟩
  rcases l with l |⟨k,c,e,z⟩
  ·exact .inl l
  ·exact .inr ⟨k,c,e,cellK x c e _ z⟩
 ·obtain⟨v,z⟩:=I.cell x c e
  exact⟨v,cellK x c e v z⟩
 ·obtain⟨m,⟨o,_,_,ho,_⟩,_⟩:=I.loc
  exact free _ o (λz=>(hch _ z).2.1 rfl) ho I.free
 ·obtain⟨v,o,ho,hd⟩:=I.cell x c e
  exact free c o (λz=>(hch c z).2.2.1 x c e rfl) ho (I.freeC x c e)
 ·obtain⟨e,n,ne,nf,d⟩:=I.pin p hp
  have nch:p.1∉ch:=λz=>(hch p.1 z).2.2.2 p hp rfl
  exact⟨keep p.1 p.2 ne nf nch e n,free p.1 p.2 nch e n,ne,nf,d⟩
def Inv.un{t':Nat}(I:Inv X pins σ H s)(u:Un X.fs [] H H' s.heap h')(hok:HOk X.prog X.w H' h'):Inv X pins σ H' { s with heap:=h',toks:=t' }:=by
 obtain⟨m,⟨o,es,ep,ho,r⟩,_⟩:=id I.loc
 obtain⟨sl,hL⟩:=u.any ho I.free (by simp)
 exact I.step (g':=s.gens) (d':=s.drawn) (ch:=[]) (λ_ z=>nomatch z) (λb o _ hb _ e n=>u.keep b o e n hb (by simp)) (λb o _ hb _ e n=>u.slot b o e n hb (by simp)) (λb o _ e n=>u.free b o e n (by simp)) (λb o _ e=>u.there b o e (by simp)) u.tups u.frzs u.tbls (λm' hm=>by
  obtain⟨o',es',ep',ho',r'⟩:=hm
  rw[ho] at ho';cases ho'
  exact⟨_,es',ep',hL,r'⟩) hok I.bare
def Inv.call{g':Array GenState}{t':Nat}{d':Drawn}{ch:List Addr}(I:Inv X pins σ H s)(u:Un (frs X.stack) ch H H' s.heap h')(hok:HOk X.prog X.w H' h')(hg:AllBare g')
 (hch:∀b∈ch,(b∈X.ex\/X.s₀.heap.objs.size<=b)/\b≠X.env.locals/\(∀x c,X.env.cells.lookup x=some c->c≠b)/\∀p∈X.pn++pins,p.1≠b):
 Inv X pins σ H' { s with heap:=h',gens:=g',drawn:=d',toks:=t' }:=by
 obtain⟨m,⟨o,es,ep,ho,r⟩,_⟩:=id I.loc
 obtain⟨sl,hL⟩:=u.any ho I.free λz=>(hch _ z).2.1 rfl
 exact I.step (ch:=ch) hch (λb o hL hb hc e n=>u.keep b o e n (λz=>(QD.mp (I.stkSub b z)).elim hL hb) hc) (λb o _ _ hc e n=>u.any e n hc) (λb o hc e n=>u.free b o e n hc) (λb o hc e=>u.there b o e hc) u.tups u.frzs u.tbls (λm' hm=>by
  obtain⟨o',es',ep',ho',r'⟩:=hm
  rw[ho] at ho';cases ho'
  exact⟨_,es',ep',hL,r'⟩) hok hg
def Inv.turned{t':Nat}{it:Addr}(I:Inv X pins σ H s)(k:∀b o,b≠it->s.heap.get? b=some o->h'.get? b=some o)(hn:H it=none)(hL:it≠X.env.locals)
 (h1:it∈X.ex\/X.s₀.heap.objs.size<=it) (h2:∀x c,X.env.cells.lookup x=some c->c≠it) (h3:∀p∈X.pn++pins,p.1≠it):Inv X pins σ H { s with heap:=h',toks:=t' }:=by
 have nit:∀b u,H b=some u->b≠it:=λb u e z=>by rw[z,hn] at e;cases e
 refine I.step (g':=s.gens) (d':=s.drawn) (ch:=[it]) (λb hb=>?_) (λb o _ _ hc e _=>k b o (λz=>hc (by simp [z])) e) (λb o _ _ hc e _=>⟨o.slots,k b o (λz=>hc (by simp [z])) e⟩) (λ_ _ _ _ n=>n)
  (λb o hc e=>⟨o,k b o (λz=>hc (by simp [z])) e⟩) (λ_ _ e=>e) (λ_ _ _ e=>e) (λb ps e=>⟨#[],by rw[e];simp⟩) (λm hm=>?_) (λb u e=>?_) I.bare
 ·have e:b=it:=by simpa using hb
  subst e
  exact⟨h1,hL,h2,h3⟩
 ·obtain⟨o,es,ep,ho,r⟩:=hm
  exact⟨o,es,ep,k _ o (Ne.symm hL) ho,r⟩
 ·refine (I.hok b u e).stay (λc v hc q=>k c v ?_ q) (λ_ q=>q) λ_ _ q=>q
  rcases hc with z |z
  ·rw[z];exact nit b u e
  ·exact nit c _ z
def Inv.tok(I:Inv X pins σ H s)(t:Nat):Inv X pins σ H { s with toks:=t }:=I.un (h':=s.heap) (t':=t) Un.refl I.hok
def Inv.kept(I:Inv X pins σ H s)(k:∀b u,s.heap.get? b=some u->h'.get? b=some u):Inv X pins σ H { s with heap:=h',toks:=t' }:=I.un (Un.kept k) (I.hok.kept k)
def Inv.laid(I:Inv X pins σ H s)(k:∀b u,s.heap.get? b=some u->h'.get? b=some u)(hp:s.heap.objs.size<=a)(new:ObjOk X.prog X.w (upd H a o) h' a o):
 Inv X pins σ (upd H a o) { s with heap:=h',toks:=t' }:=I.un (Un.laid k hp (I.hok.fresh hp)) (I.hok.laid k hp new)
def Inv.write(I:Inv X pins σ H s)(mu:Mut (H x))(he:e=x\/H e=some (.own x))(k:∀b u,b≠e->s.heap.get? b=some u->h'.get? b=some u)(heo:∃u,h'.get? e=some u)
 (new:ObjOk X.prog X.w (upd H x o) h' x o):Inv X pins σ (upd H x o) { s with heap:=h',toks:=t' }:=I.un (Un.write mu he k heo) (I.hok.write mu he k heo new)
def Inv.pins_of(I:Inv X pins σ H s)(h:∀p∈pins',s.heap.get? p.1=some p.2/\H p.1=none/\p.1≠X.env.locals/\p.1∉X.fs/\∀v,p.2.data ≠ .cell v):Inv X pins' σ H s:=
 ⟨I.ok,I.os,I.bare,I.base,I.loc,I.cell,I.free,I.freeC,λp hp=>(Rh.mp hp).elim (λz=>I.pin p (SE _ z)) (h p),I.hok,I.len⟩
def tT{N:List Str}(hN:N.Nodup){i j:Nat}{x:Str}(a:N[i]?=some x)(b:N[j]?=some x):i=j:=by
 obtain⟨h1,e1⟩:=Qs.mp a
 obtain⟨h2,e2⟩:=Qs.mp b
 exact (List.getElem_inj hN).mp (e1.trans e2.symm)
def sf(I:Inv X pins σ H s)(hN:X.N.Nodup)(hi:X.N[i]?=some x)(hx:Loc X.env.scope x)(r:RelV v u)
 (h:∀s',Inv X pins (σ.set i (some v)) H s'->(∃a,Heap.SameBut a s.heap s'.heap/\(a=X.env.locals\/X.env.cells.lookup x=some a))->Q () s') (hf:X.fn x=true\/X.env.scope.names.lookup x=some .local:=by first |exact .inl rfl |exact .inr rfl |assumption):wpAny M A (storeName X.env x u) Q E s:=by
 obtain⟨m,hn,hl⟩:=id I.loc
 have hcls:(X.env.scope.kind == .class || (X.env.scope.kind == .module&&X.env.locals != X.env.globals))=false:=by rw[I.ok.kind];rfl
 have hiσ:i<σ.length:=by rw[I.len];exact (Qs.mp hi).1
 have cne:=I.cne
 have tracked:∀{a:Addr}{h':Heap},(∃o,s.heap.get? a=some o/\H a=none)->Heap.SameBut a s.heap h'->HOk X.prog X.w H h':=λ{a h'} ha hs b ob e=>by
  obtain⟨_,_,hfree⟩:=ha
  refine (I.hok b ob e).stay (λc w' hc q=>(hs.2 c ?_).trans q) (λ_ q=>q) λ_ _ q=>q
  rintro rfl
  rcases hc with rfl |hc
  ·rw[hfree] at e;cases e
  ·rw[hfree] at hc;cases hc
 rcases hx with hk |hk
 ·refine wpAny_storeName_local hk hn (λh' hn' hs=>?_) hcls
  obtain⟨oL,_,_,hoL,_⟩:=id hn
  refine h _ ⟨I.ok,I.os,I.bare,⟨λb o e n hb hx=>?_,λb o e n hb hx=>?_,I.base.free,λb o e hx=>?_,I.base.tups,I.base.frzs,I.base.tbls⟩,⟨_,hn',λj y v' e1 e2 e3=>?_⟩,λy c e=>?_,I.free,I.freeC,λp hp=>?_,tracked ⟨oL,hoL,I.free⟩ hs,by simpa using I.len⟩ ⟨_,hs,.inl rfl⟩
  ·exact (hs.2 b (QT (QL (QA e) I.ok.above))).trans (I.base.keep b o e n hb hx)
  ·obtain⟨sl,e1⟩:=I.base.slot b o e n hb hx
   exact⟨sl,(hs.2 b (QT (QL (QA e) I.ok.above))).trans e1⟩
  ·obtain⟨o',e1⟩:=I.base.there b o e hx
   exact⟨o',(hs.2 b (QT (QL (QA e) I.ok.above))).trans e1⟩
  ·by_cases hj:j=i
   ·subst hj
    rw[hi] at e1;cases e1
    rw[List.getElem?_set_self hiσ] at e2
    cases e2
    exact⟨u,r,.inl ⟨hk,by simp⟩⟩
   ·rw[Sy (Ne.symm hj)] at e2
    obtain⟨u',r',q⟩:=hl j y v' e1 e2 e3
    refine⟨u',r',?_⟩
    rcases q with ⟨k,e⟩ |⟨k,c,e,z⟩
    ·refine .inl ⟨k,?_⟩
     have:y≠x:=λe=>hj (tT hN e1 (e ▸ hi))
     simp [this,e]
    ·exact .inr ⟨k,c,e,z.sameBut hs (cne y c e)⟩
  ·obtain⟨w',z⟩:=I.cell y c e
   exact⟨w',z.sameBut hs (cne y c e)⟩
  ·obtain⟨e,n,ne,nf,d⟩:=I.pin p hp
   exact⟨(hs.2 p.1 ne).trans e,n,ne,nf,d⟩
 ·have hfn:X.fn x=true:=by
   rcases hf with z |z
   ·exact z
   ·rw[z] at hk;cases hk
  obtain⟨c,hc⟩:=I.ok.has x (.inl hk)
  obtain⟨w',z⟩:=I.cell x c hc
  refine wpAny_storeName_cell I.ok.kind hk hc z (λh' hc' hs=>?_)
  obtain⟨oc,hoc,hocd⟩:=id z
  refine h { s with heap:=h' } ⟨I.ok,I.os,I.bare,⟨λb o e n hb hx=>?_,λb o e n hb hx=>?_,I.base.free,λb o e hx=>?_,I.base.tups,I.base.frzs,I.base.tbls⟩,⟨m,hn.sameBut hs (Ne.symm (cne x c hc)),λj y v' e1 e2 e3=>?_⟩,λy c' e=>?_,I.free,I.freeC,λp hp=>?_,tracked ⟨oc,hoc,I.freeC x c hc⟩ hs,by simpa using I.len⟩ ⟨c,hs,.inr hc⟩
  ·exact (hs.2 b (QT (QL (QA e) (I.ok.cab x c hfn hc)))).trans (I.base.keep b o e n hb hx)
  ·obtain⟨sl,e1⟩:=I.base.slot b o e n hb hx
   exact⟨sl,(hs.2 b (QT (QL (QA e) (I.ok.cab x c hfn hc)))).trans e1⟩
  ·obtain⟨o',e1⟩:=I.base.there b o e hx
   exact⟨o',(hs.2 b (QT (QL (QA e) (I.ok.cab x c hfn hc)))).trans e1⟩
  ·by_cases hj:j=i
   ·subst hj
    rw[hi] at e1;cases e1
    rw[List.getElem?_set_self hiσ] at e2
    cases e2
    exact⟨u,r,.inr ⟨.inl hk,c,hc,hc'⟩⟩
   ·rw[Sy (Ne.symm hj)] at e2
    obtain⟨u',r',q⟩:=hl j y v' e1 e2 e3
    refine⟨u',r',?_⟩
    rcases q with q |⟨k,c',e,z'⟩
    ·exact .inl q
    ·refine .inr ⟨k,c',e,z'.sameBut hs ?_⟩
     rintro rfl
     exact hj (tT hN e1 (I.ok.inj _ _ _ e hc ▸ hi))
  ·by_cases hcc:c'=c
   ·subst hcc;exact⟨_,hc'⟩
   ·obtain⟨w2,z2⟩:=I.cell y c' e
    exact⟨w2,z2.sameBut hs hcc⟩
  ·obtain⟨e,n,ne,nf,d⟩:=I.pin p hp
   refine⟨(hs.2 p.1 ?_).trans e,n,ne,nf,d⟩
   intro q
   rw[q,hoc] at e
   have q':oc=p.2:=QK e
   exact d w' (by rw[<- q'];exact hocd)
def jo(I:Inv X pins σ H s)(hN:X.N.Nodup)(hi:X.N[i]?=some x)(hx:Loc X.env.scope x)(r:RelV v u)
 (h:∀s',Inv X pins (σ.set i (some v)) H s'->Q () s') (hf:X.fn x=true\/X.env.scope.names.lookup x=some .local:=by first |exact .inl rfl |exact .inr rfl |assumption):wpAny M A (storeName X.env x u) Q E s:=
 sf I hN hi hx r (λs' I' _=>h s' I') hf
def Inv.call'(I:Inv X pins σ H s)(ho:s'.os=s.os)(u:Un (frs X.stack) ch H H' s.heap s'.heap)(hok:HOk X.prog X.w H' s'.heap)(hg:AllBare s'.gens)
 (hch:∀b∈ch,(b∈X.ex\/X.s₀.heap.objs.size<=b)/\b≠X.env.locals/\(∀x c,X.env.cells.lookup x=some c->c≠b)/\∀p∈X.pn++pins,p.1≠b):Inv X pins σ H' s':=by
 obtain⟨h',g',d',t',o'⟩:=s'
 have e:o'=s.os:=ho
 subst e
 exact I.call (g':=g') (t':=t') (d':=d') u hok hg hch
end
abbrev XK:=Value->Option Addr->Hp->Prop
abbrev St:=List (Option V)
abbrev VK:=V->Hp->Prop
abbrev TE:=St->Hp->VK->Prop
abbrev TT:=St->Hp->(Bool->Hp->Prop)->Prop
abbrev TA:=St->Hp->(List V->Hp->Prop)->Prop
structure Ends where
 nx:St->Hp->Prop
 rt:VK
 bk:St->Hp->Prop:=λ_ _=>False
 ct:St->Hp->Prop:=λ_ _=>False
abbrev TS:=Ends->St->Hp->Prop
def EP(X:Cx)(pins:Ub)(σ:St)(Q:VK)(u:Value)(s':Shared):Prop:=∃v H',Inv X pins σ H' s'/\RelV v u/\Q v H'
def TP(X:Cx)(pins:Ub)(σ:St)(Q:Bool->Hp->Prop)(b:Bool)(s':Shared):Prop:=∃H',Inv X pins σ H' s'/\Q b H'
def AP(X:Cx)(pins:Ub)(σ:St)(Q:List V->Hp->Prop)(us:List Value)(s':Shared):Prop:=∃vs H',Inv X pins σ H' s'/\Vals vs us/\Q vs H'
def SP(X:Cx)(pins:Ub)(D:Ends)(f:Flow)(s':Shared):Prop:=
 match f with
 |.next=>∃σ' H',Inv X pins σ' H' s'/\D.nx σ' H'
 |.brk=>∃σ' H',Inv X pins σ' H' s'/\D.bk σ' H'
 |.cont=>∃σ' H',Inv X pins σ' H' s'/\D.ct σ' H'
 |.ret u=>∃v σ' H',Inv X pins σ' H' s'/\RelV v u/\D.rt v H'
def PE(X:Cx)(e:Expr)(t:TE):Prop:=
 ∀(pins:Ub) (s:Shared) (σ:St) (H:Hp) (Q:VK),Inv X pins σ H s->t σ H Q->wpAny (model X.prog X.w) X.A (eval e X.env) (EP X pins σ Q) X.xe s
def PT(X:Cx)(e:Expr)(t:TT):Prop:=
 ∀(pins:Ub) (s:Shared) (σ:St) (H:Hp) (Q:Bool->Hp->Prop),Inv X pins σ H s->t σ H Q->wpAny (model X.prog X.w) X.A (isTrue e X.env (eval e X.env)) (TP X pins σ Q) X.xe s
def PW(X:Cx)(e:Expr)(t:TT):Prop:=
 ∀(db:Sem Value) (pins:Ub) (s:Shared) (σ:St) (H:Hp) (Q:Bool->Hp->Prop),Inv X pins σ H s->t σ H Q->wpAny (model X.prog X.w) X.A (isTrue e X.env db) (TP X pins σ Q) X.xe s
noncomputable def PW.pt(h:PW X e t):PT X e t:=h _
def PA(X:Cx)(es:List Expr)(t:TA):Prop:=
 ∀(pos:Pos) (pins:Ub) (s:Shared) (σ:St) (H:Hp) (Q:List V->Hp->Prop),Inv X pins σ H s->t σ H Q->wpAny (model X.prog X.w) X.A (spliced (backTo pos (starEach es X.env))) (AP X pins σ Q) X.xe s
def PS(X:Cx)(st:Stmt)(t:TS):Prop:=
 ∀(pins:Ub) (s:Shared) (σ:St) (H:Hp) (D:Ends),Inv X pins σ H s->t D σ H->wpAny (model X.prog X.w) X.A (exec st X.env) (SP X pins D) X.xe s
def PSs(X:Cx)(st:List Stmt)(t:TS):Prop:=
 ∀(pins:Ub) (s:Shared) (σ:St) (H:Hp) (D:Ends),Inv X pins σ H s->t D σ H->wpAny (model X.prog X.w) X.A (execs st X.env) (SP X pins D) X.xe s
noncomputable def thn(h:wpAny M A t Q E s)(hQ:∀a s,Q a s->Q' a s):wpAny M A t Q' E s:=Q8 h hQ λ_ _ x=>x
section
variable{X:Cx}
def tVar(i:Nat):TE:=λσ H Q=>∃v,σ[i]?=some (some v)/\Q v H
def tC(v:V):TE:=λ_ H Q=>Q v H
def A4(hN:X.N[i]?=some x)(hv:Vis X.env.scope x)(hd:(x==("__debug__" : Str))=false:=by decide)(hcd:(x==("__classdict__" : Str))=false:=by decide):PE X (.Name x pos) (tVar i):=by
 intro pins s σ H Q I h
 obtain⟨v,e,h⟩:=h
 obtain⟨m,hn,hl⟩:=I.loc
 obtain⟨u,r,l⟩:=hl i x v hN e hv
 have im:EP X pins σ Q u s:=⟨v,H,I,r,h⟩
 rcases l with ⟨hk,hm⟩ |⟨hk,c,hc,hcell⟩
 ·exact wpAny_Name (wpAny_loadName_local I.ok.kind hk hn hm im) hd
 ·rcases hk with hk |hk
  ·exact wpAny_Name (wpAny_loadName_cell I.ok.kind hk hc hcell im) hd
  ·exact wpAny_Name (wpAny_loadName_free I.ok.kind hk hc hcell im hcd) hd
def Kv{i j pos}:PE X (.Constant (.int i) j pos) (tC (.int i)):=λ_ _ _ H _ I h=>wpAny_Constant_int ⟨.int i,H,I.tok _,⟨_,rfl⟩,h⟩
def M3{b j pos}:PE X (.Constant (.bool b) j pos) (tC (.bl b)):=λ_ _ _ H _ I h=>Constant_bool ⟨.bl b,H,I,rfl,h⟩
def Ho{j pos}:PE X (.Constant .none j pos) (tC .non):=λ_ _ _ H _ I h=>Constant_none ⟨.non,H,I,rfl,h⟩
def zM{x j pos}:PE X (.Constant (.str x) j pos) (tC (.str x)):=λ_ _ _ H _ I h=>Calls.Constant_str ⟨.str x,H,I.tok _,⟨_,rfl⟩,h⟩
def Gl(X:Cx)(x:Str):Prop:=X.env.kindOf x=some .globalImplicit
def qT(I:Inv X pins σ H s)(hg:Gl X x)(hm:X.mg x=some u)(h:Q u s)
 (hd:(x==("__debug__" : Str))=false:=by decide):wpAny (model X.prog X.w) X.A (eval (.Name x pos) X.env) Q E s:=
 Calls.Name_function_global I.ok.kind hg (Calls.loadGlobal_global (by rw[I.ok.glob];exact I.mod.glob.keeps I.bk) hm h) hd
def jr(I:Inv X pins σ H s)(hg:Gl X x)(hm:X.mg x=none)(hv:bootBuiltins x=some u)(h:Q u s)
 (hn:x ≠ "__name__":=by decide) (hd:(x==("__debug__" : Str))=false:=by decide):wpAny (model X.prog X.w) X.A (eval (.Name x pos) X.env) Q E s:=by
 obtain⟨mb,h1,h2⟩:=I.mod.blt
 exact Calls.Name_function_global I.ok.kind hg (Calls.loadGlobal_builtin (by rw[I.ok.glob];exact I.mod.glob.keeps I.bk) hm (by rw[I.ok.blt];exact h1.keeps I.bk) ((h2 x hn).trans hv) h) hd
def FN(hg:Gl X x)(hm:X.mg x=some u)(r:RelV v u)(hd:(x==("__debug__" : Str))=false:=by decide):PE X (.Name x pos) (tC v):=
 λ_ _ _ H _ I h=>qT I hg hm ⟨v,H,I,r,h⟩ hd
def GF(hg:Gl X x)(hm:X.mg x=none)(hv:bootBuiltins x=some u)(r:RelV v u)(hn:x ≠ "__name__":=by decide)(hd:(x==("__debug__" : Str))=false:=by decide):PE X (.Name x pos) (tC v):=
 λ_ _ _ H _ I h=>jr I hg hm hv ⟨v,H,I,r,h⟩ hn hd
variable{a b:Expr}{ta tb:TE}{pos:Pos}
def tB(t:TE):TT:=λσ H Q=>t σ H λx H1=>∃c,x=.bl c/\Q c H1
def JE(h:PE X e t)(he:∀db,isTrue e X.env db=(do let v <- db;standAt e.pos;holding [v] (truthy v)):=by intro _;rfl):PT X e (tB t):=by
 intro pins s σ H Q I hw
 refine isTrue_plain (thn (h pins s σ H _ I hw) λv s1 ⟨x,H1,I1,r1,q1⟩=>?_) (he _)
 obtain⟨d,rfl,q⟩:=q1
 cases r1
 exact R8 ⟨H1,I1,q⟩
variable{tA tB':TT}{d4:List Expr}
def tAnd(t u:TT):TT:=λσ H Q=>t σ H λc H1=>if c=true then u σ H1 Q else Q false H1
def tOr(t u:TT):TT:=λσ H Q=>t σ H λc H1=>if c=true then Q true H1 else u σ H1 Q
def tNot(t:TT):TT:=λσ H Q=>t σ H λc H1=>Q (!c) H1
def GH(ha:PT X a tA):PW X (.BoolOp .And [a] pos) tA:=by
 intro wh pins s σ H Q I h
 refine isTrue_and (thn (ha pins s σ H Q I h) λc s1 e=>?_)
 cases c with
 |true=>exact isTrue_and_nil e
 |false=>exact e
def JV(ha:PT X a tA):PW X (.BoolOp .Or [a] pos) tA:=by
 intro wh pins s σ H Q I h
 refine isTrue_or (thn (ha pins s σ H Q I h) λc s1 e=>?_)
 cases c with
 |false=>exact isTrue_or_nil e
 |true=>exact e
def Ke(ha:PT X a tA)(hb:PW X (.BoolOp .And (b::d4) pos) tB'):PW X (.BoolOp .And (a::b::d4) pos) (tAnd tA tB'):=by
 intro wh pins s σ H Q I h
 refine isTrue_and (thn (ha pins s σ H _ I h) λc s1 ⟨H1,I1,q1⟩=>?_)
 cases c with
 |true=>exact hb wh pins s1 σ H1 Q I1 q1
 |false=>exact⟨H1,I1,q1⟩
def L9(ha:PT X a tA)(hb:PW X (.BoolOp .Or (b::d4) pos) tB'):PW X (.BoolOp .Or (a::b::d4) pos) (tOr tA tB'):=by
 intro wh pins s σ H Q I h
 refine isTrue_or (thn (ha pins s σ H _ I h) λc s1 ⟨H1,I1,q1⟩=>?_)
 cases c with
 |true=>exact⟨H1,I1,q1⟩
 |false=>exact hb wh pins s1 σ H1 Q I1 q1
def ID(ha:PT X a tA):PT X (.UnaryOp .Not a pos) (tNot tA):=by
 intro pins s σ H Q I h
 exact isTrue_not (ha pins s σ H (λc H1=>Q (!c) H1) I h)
def NZ(ta tb:TE):TE:=λσ H Q=>ta σ H λx H1=>∃c,x=.bl c/\if c=true then tb σ H1 Q else Q (.bl false) H1
def NX(ta:TE):TE:=λσ H Q=>ta σ H λx H1=>∃c,x=.bl c/\Q (.bl (!c)) H1
noncomputable def HD{op}(h:PE X a t):PE X (.BoolOp op [a] pos) t:=λpins s σ H Q I hw=>BoolOp_one (h pins s σ H Q I hw)
def Ks(ha:PE X a ta)(hb:PE X (.BoolOp .And (b::d4) pos) tb):PE X (.BoolOp .And (a::b::d4) pos) (NZ ta tb):=by
 intro pins s σ H Q I h
 refine BoolOp_and (thn (ha pins s σ H _ I h) λv s1 ⟨x,H1,I1,r1,q1⟩=>?_)
 obtain⟨c,rfl,q1⟩:=q1
 cases r1
 refine R8 ?_
 cases c with
 |true=>exact hb pins s1 σ H1 Q I1 q1
 |false=>exact⟨.bl false,H1,I1,rfl,q1⟩
def Kt(ha:PE X a ta):PE X (.UnaryOp .Not a pos) (NX ta):=by
 intro pins s σ H Q I h
 refine UnaryOp_ (thn (ha pins s σ H _ I h) λv s1 ⟨x,H1,I1,r1,q1⟩=>?_)
 obtain⟨c,rfl,q1⟩:=q1
 cases r1
 exact not_of (R8 ⟨.bl (!c),H1,I1,rfl,q1⟩)
def tIf(t:TT)(ta tb:TE):TE:=λσ H Q=>t σ H λc H1=>if c=true then ta σ H1 Q else tb σ H1 Q
def Dh(hc:PT X c tA)(ha:PE X a ta)(hb:PE X b tb):PE X (.IfExp c a b pos) (tIf tA ta tb):=by
 intro pins s σ H Q I h
 refine wpAny_IfExp (thn (hc pins s σ H _ I h) λd s1 ⟨H1,I1,q1⟩=>?_)
 cases d with
 |true=>exact ha pins s1 σ H1 Q I1 q1
 |false=>exact hb pins s1 σ H1 Q I1 q1
end
def SqL(K:W.Frag)(H:Hp)(a:Addr)(xs:List V):Prop:=
 Rd H a (.lst xs)\/
  ∃(o:Obj) (its:Array Value) (n:Nat),K.lookup a=some o/\o.cls=.type "list" /\ o.dict=none/\o.data=.seq its n/\its.size<=sizeLine/\Vals xs its.toList
def SqT(K:W.Frag)(H:Hp)(a:Addr)(xs:List V):Prop:=
 Rd H a (.tup xs)\/
  ∃(o:Obj) (its:Array Value) (n:Nat),K.lookup a=some o/\o.cls=.type "tuple" /\ o.data=.seq its n/\its.size<=sizeLine/\Vals xs its.toList
noncomputable def absV:Value->Option V
 |.none=>some .non
 |.bool b=>some (.bl b)
 |.int i _=>some (.int i)
 |.str x _=>some (.str x)
 |.bytes b _=>some (.byt b)
 |.float b _=>some (.flt b)
 |.ref a=>some (.ref a)
 |.type n=>some (.ty n)
 |_=>none
def RelV.abs(r:RelV x u):absV u=some x:=by
 cases x with
 |non=>cases r;rfl
 |bl _=>cases r;rfl
 |int _=>obtain⟨t,rfl⟩:=r;rfl
 |str _=>obtain⟨t,rfl⟩:=r;rfl
 |byt _=>obtain⟨t,rfl⟩:=r;rfl
 |flt _=>obtain⟨t,rfl⟩:=r;rfl
 |ref _=>cases r;rfl
 |ty _=>cases r;rfl
def RelV.inj(r:RelV x u)(q:RelV y u):x=y:=QK (r.abs.symm.trans q.abs)
def Vals.inj(r:Vals xs us)(q:Vals ys us):xs=ys:=by
 induction r generalizing ys with
 |nil=>cases q;rfl
 |
  cons r t ih=>
  cases q with
  |cons q t'=>rw[r.inj q,ih t']
section
variable{X:Cx}{pins:Ub}{σ:St}{H:Hp}{s:Shared}{a:Addr}{xs ys:List V}
noncomputable def SqL.of{K:W.Frag}(h:H a=some (.lst xs)):SqL K H a xs:=.inl (.inl h)
noncomputable def SqT.of{K:W.Frag}(h:H a=some (.tup xs)):SqT K H a xs:=.inl (.inl h)
def Inv.list(I:Inv X pins σ H s)(h:SqL X.K H a xs):∃its:List Value,Vals xs its/\PlainL s.heap a its.toArray/\xs.length<=sizeLine:=by
 rcases h with h |⟨o,its,n,hk,hc,hd,hs,hz,r⟩
 ·obtain⟨z,its,n,r,e⟩:=h.ok I.hok
  exact⟨its,r,⟨_,n,e,rfl,rfl,rfl⟩,z⟩
 ·refine⟨its.toList,r,⟨o,n,I.kIn a o hk,hc,hd,by simpa using hs⟩,?_⟩
  have e:=r.length
  simp only[TK] at e
  omega
def Inv.tuple(I:Inv X pins σ H s)(h:SqT X.K H a xs):∃its:List Value,Vals xs its/\IsTup s.heap a its.toArray/\xs.length<=sizeLine:=by
 rcases h with h |⟨o,its,n,hk,hc,hs,hz,r⟩
 ·obtain⟨z,its,r,p⟩:=h.ok I.hok
  exact⟨its,r,p,z⟩
 ·refine⟨its.toList,r,⟨o,I.kIn a o hk,hc,n,by simpa using hs⟩,?_⟩
  have e:=r.length
  simp only[TK] at e
  omega
def Inv.list_inj(I:Inv X pins σ H s)(h:SqL X.K H a xs)(h':SqL X.K H a ys):xs=ys:=by
 obtain⟨its,r,⟨o,n,e,_,_,d⟩,_⟩:=I.list h
 obtain⟨its',r',⟨o',n',e',_,_,d'⟩,_⟩:=I.list h'
 rw[e] at e';cases e'
 rw[d] at d'
 injection d' with d1 _
 have:its=its':=by simpa using Ru Array.toList d1
 subst this
 exact r.inj r'
def Inv.tuple_inj(I:Inv X pins σ H s)(h:SqT X.K H a xs)(h':SqT X.K H a ys):xs=ys:=by
 obtain⟨its,r,⟨o,e,_,n,d⟩,_⟩:=I.tuple h
 obtain⟨its',r',⟨o',e',_,n',d'⟩,_⟩:=I.tuple h'
 rw[e] at e';cases e'
 rw[d] at d'
 injection d' with d1 _
 have:its=its':=by simpa using Ru Array.toList d1
 subst this
 exact r.inj r'
end
section
variable{X:Cx}{pins:Ub}{σ:St}{H:Hp}{s:Shared}{E:Uc}
end
section
variable{X:Cx}{st:Stmt}{d4:List Stmt}{t u:TS}{e:Expr}{te:TE}{pos:Pos}
def Mw:TS:=λD σ H=>D.nx σ H
def tSeq(t u:TS):TS:=λD σ H=>t { D with nx:=u D } σ H
def Fm:PSs X [] Mw:=λ_ _ σ H _ I h=>TH ⟨σ,H,I,h⟩
def BW(h1:PS X st t)(h2:PSs X d4 u):PSs X (st::d4) (tSeq t u):=by
 intro pins s σ H D I h
 refine wpAny_execs_cons (thn (h1 pins s σ H { D with nx:=u D } I h) λf s1 q=>?_)
 cases f with
 |
  next=>
  obtain⟨σ',H',I',q⟩:=q
  exact h2 pins s1 σ' H' D I' q
 |ret v=>exact q
 |brk=>exact q
 |cont=>exact q
def Ft(h1:PS X st t):PSs X [st] t:=by
 intro pins s σ H D I h
 refine wpAny_execs_cons (thn (h1 pins s σ H D I h) λf s1 q=>?_)
 cases f with
 |next=>exact TH q
 |ret v=>exact q
 |brk=>exact q
 |cont=>exact q
def Inv.quiet(I:Inv X pins σ H s):interactive X.env=false:=by simp [interactive,I.ok.kind]
def LA(te:TE):TS:=λD σ H=>te σ H λ_ H1=>D.nx σ H1
def FJ(he:PE X e te)(hs:swapsWith e none pos.line X.env=pure false:=by rfl):PS X (.Expr e pos) (LA te):=by
 intro pins s σ H D I h
 exact wpAny_Expr_any (thn (he pins s σ H _ I h) λv s1 ⟨x,H1,I1,r1,q1⟩=>⟨σ,H1,I1,q1⟩) I.quiet hs
def tRet(te:TE):TS:=λD σ H=>te σ H D.rt
def IZ(he:PE X e te):PS X (.Return (some e) pos) (tRet te):=by
 intro pins s σ H D I h
 exact wpAny_Return_some (thn (he pins s σ H _ I h) λv s1 ⟨x,H1,I1,r1,q1⟩=>⟨x,σ,H1,I1,r1,q1⟩)
def Od:TS:=λD _ H=>D.rt .non H
def Fv:PS X (.Return none pos) Od:=λ_ _ σ H _ I h=>wpAny_Return_none ⟨.non,σ,H,I,rfl,h⟩
def tIfS(c:TT)(t u:TS):TS:=λD σ H=>c σ H λb H1=>if b=true then t D σ H1 else u D σ H1
def Nj(hc:PT X c tc)(ha:PSs X a t)(hb:PSs X b u):PS X (.If c a b pos) (tIfS tc t u):=by
 intro pins s σ H D I h
 refine wpAny_If (thn (hc pins s σ H _ I h) λd s1 ⟨H1,I1,q1⟩=>?_)
 cases d with
 |true=>exact ha pins s1 σ H1 D I1 q1
 |false=>exact hb pins s1 σ H1 D I1 q1
end
abbrev TG:=V->St->Hp->(St->Hp->Prop)->Prop
abbrev TGs:=List V->St->Hp->(St->Hp->Prop)->Prop
def PG(X:Cx)(target:Expr)(t:TG):Prop:=
 ∀
  (pins:Ub) (s:Shared) (σ:St) (H:Hp) (v:V) (u:Value) (Q:St->Hp->Prop),Inv X pins σ H s->RelV v u->t v σ H Q->
  wpAny (model X.prog X.w) X.A (assign target X.env u) (λ_ s'=>∃σ' H',Inv X pins σ' H' s'/\Q σ' H') X.xe s
def PGs(X:Cx)(ts:List Expr)(t:TGs):Prop:=
 ∀
  (pins:Ub) (s:Shared) (σ:St) (H:Hp) (vs:List V) (us:List Value) (Q:St->Hp->Prop),Inv X pins σ H s->Vals vs us->t vs σ H Q->
  wpAny (model X.prog X.w) X.A (assignInOrder ((assignEach ts X.env).map (·.2)) us) (λ_ s'=>∃σ' H',Inv X pins σ' H' s'/\Q σ' H') X.xe s
abbrev xO:=V->V->V->Hp->(Hp->Prop)->Prop
def uM(X:Cx)(t:xO):Prop:=
 ∀
  (pins:Ub) (s:Shared) (σ:St) (H:Hp) (o i v:V) (ov iv u:Value) (Q:Hp->Prop),Inv X pins σ H s->RelV o ov->RelV i iv->RelV v u->t o i v H Q->
  wpAny (model X.prog X.w) X.A (setItem ov iv u) (λ_ s'=>∃H',Inv X pins σ H' s'/\Q H') X.xe s
abbrev TIp:=V->V->Hp->VK->Prop
def PIp(X:Cx)(op:Operator)(t:TIp):Prop:=
 ∀
  (pins:Ub) (s:Shared) (σ:St) (H:Hp) (x y:V) (v u:Value) (Q:VK),Inv X pins σ H s->RelV x v->RelV y u->t x y H Q->
  wpAny (model X.prog X.w) X.A (inplaceOp op v u) (EP X pins σ Q) X.xe s
section
variable{X:Cx}{pos:Pos}
def oX(i:Nat):TG:=λv σ H Q=>Q (σ.set i (some v)) H
def Gd(hN:X.N.Nodup)(hi:X.N[i]?=some x)(hx:Loc X.env.scope x)(hf:X.fn x=true\/X.env.scope.names.lookup x=some .local:=by first |exact .inl rfl |exact .inr rfl |assumption):PG X (.Name x pos) (oX i):=by
 intro pins s σ H v u Q I r h
 exact wpAny_assign_Name (jo I hN hi hx r (λs' I'=>⟨_,H,I',h⟩) hf)
def gNil:TGs:=λvs σ H Q=>vs=[]/\Q σ H
def LZ(t:TG)(u:TGs):TGs:=λvs σ H Q=>∃v r,vs=v::r/\t v σ H λσ' H'=>u r σ' H' Q
def FD:PGs X [] gNil:=by
 intro pins s σ H vs us Q I r h
 obtain⟨e,h⟩:=h
 subst e
 cases r
 exact assignInOrder_nil ⟨σ,H,I,h⟩
def Ce(h1:PG X e t)(h2:PGs X es u)
 (hs:(assignEach (e::es) X.env).map (·.2)=assign e X.env::(assignEach es X.env).map (·.2):=by rfl):PGs X (e::es) (LZ t u):=by
 intro pins s σ H vs us Q I r h
 obtain⟨v,vr,e1,h⟩:=h
 subst e1
 cases r with
 |
  cons r rr=>
  rw[hs]
  refine assignInOrder_cons (thn (h1 pins s σ H _ _ _ I r h) λ_ s1 ⟨σ1,H1,I1,q1⟩=>?_)
  exact h2 pins s1 σ1 H1 _ _ Q I1 rr q1
def gTup(K:W.Frag)(n:Nat)(t:TGs):TG:=λv σ H Q=>∃a xs,v=.ref a/\SqT K H a xs/\xs.length=n/\t xs σ H Q
def KH(hc:X.calm=true)(h:PGs X es t)
 (hn:(assignEach es X.env).length=n:=by rfl) (hst:(assignEach es X.env).findIdx? (·.1)=none:=by rfl):PG X (.Tuple es k pos) (gTup X.K n t):=by
 intro pins s σ H v u Q I r hw
 obtain⟨a,xs,e1,hq,hl,hw⟩:=hw
 subst e1
 cases r
 obtain⟨its,rv,ht,hz⟩:=I.tuple hq
 refine assign_Tuple_tuple (I.ok.hd hc) ht (by simp [hn,<- hl,rv.length]) hst λh' hx=>?_
 have I1:Inv X pins σ H { s with heap:=h' }:=I.kept (t':=s.toks) λb o e=>hx b o (QT (QA e)) e
 exact h pins _ σ H xs _ Q I1 (by simpa using rv) hw
def gSub(to ti:TE)(t:xO):TG:=λv σ H Q=>to σ H λo H1=>ti σ H1 λi H2=>t o i v H2 λH3=>Q σ H3
def Kj(ho:PE X o to)(hi:PE X i ti)(hs:uM X t)
 (ha:∀v,assign (.Subscript o i pos) X.env v=(do
  let ov <- holding [v] (eval o X.env)
  let iv <- holding [v,ov] (eval i X.env)
  standAt pos
  holding [v,ov,iv] (setItem ov iv v)
  release [v,ov,iv] []):=by intro _;rfl):PG X (.Subscript o i pos) (gSub to ti t):=by
 intro pins s σ H v u Q I r h
 rw[ha]
 refine Qq (SO (thn (ho pins s σ H _ I h) λov s1 ⟨x,H1,I1,r1,q1⟩=>?_))
 refine Qq (SO (thn (hi pins s1 σ H1 _ I1 q1) λiv s2 ⟨y,H2,I2,r2,q2⟩=>?_))
 refine Qq (TU (Qq (SO (thn (hs pins s2 σ H2 x y v ov iv u _ I2 r1 r2 r q2) λ_ s3 ⟨H3,I3,q3⟩=>?_))))
 exact wpAny_release ⟨σ,H3,I3,q3⟩
def vM(te:TE)(g:TG):TS:=λD σ H=>te σ H λx H1=>g x σ H1 D.nx
def J6(he:PE X e te)(hg:PG X tg g)(hs:swapsWithSole [tg] e pos.line X.env=pure false:=by rfl)(hw:swappedStores [tg] e X.env=pure none:=by rfl)
 (h1:(assignEach [tg] X.env).map (·.2)=[assign tg X.env]:=by rfl):PS X (.Assign [tg] e pos) (vM te g):=by
 intro pins s σ H D I h
 refine wpAny_Assign_stores (thn (he pins s σ H _ I h) λv s1 ⟨x,H1,I1,r1,q1⟩=>?_) hs hw
 rw[h1]
 exact thn (hg pins s1 σ H1 x v _ I1 r1 q1) λ_ s2 q=>q
def K8(hN:X.N.Nodup)(hi:X.N[i]?=some x)(hx:Loc X.env.scope x)(he:PE X e te)(hs:swapsWith e (some (.Name x kw)) pos.line X.env=pure false:=by rfl)(hf:X.fn x=true\/X.env.scope.names.lookup x=some .local:=by first |exact .inl rfl |exact .inr rfl |assumption):
 PS X (.Assign [.Name x kw] e pos) (vM te (oX i)):=by
 intro pins s σ H D I h
 refine wpAny_Assign_Name (thn (he pins s σ H _ I h) λv s1 ⟨y,H1,I1,r1,q1⟩=>?_) hs
 exact jo I1 hN hi hx r1 (λs2 I2=>⟨_,H1,I2,q1⟩) hf
def tPar(i j:Nat)(ta:TA):TS:=λD σ H=>ta σ H λvs H1=>∃v w,vs=[v,w]/\D.nx ((σ.set i (some v)).set j (some w)) H1
def HH{kt k2 pt2}(hc:X.calm=true)(hN:X.N.Nodup)(hi:X.N[i]?=some x)(hj:X.N[j]?=some y)(hij:i≠j)
 (hx:X.env.scope.names.lookup x=some .local) (hy:X.env.scope.names.lookup y=some .local) (ha:PA X [a,b] ta)
 (hw:swappedStores [.Tuple [.Name x px,.Name y py] kt pt] (.Tuple [a,b] k2 pt2) X.env=pure (some [x,y]))
 (hs:swapsWithSole [.Tuple [.Name x px,.Name y py] kt pt] (.Tuple [a,b] k2 pt2) pos.line X.env=pure false:=by rfl):
 PS X (.Assign [.Tuple [.Name x px,.Name y py] kt pt] (.Tuple [a,b] k2 pt2) pos) (tPar i j ta):=by
 intro pins s σ H D I h
 rw[exec_Assign_arm]
 refine Qq (TU ?_)
 rw[hs]
 refine Qq (QE ?_)
 rw[if_neg (by decide)]
 refine Qq (Tuple_ (thn (ha _ pins s σ H _ I h) λus s1 ⟨vs,H1,I1,r1,q1⟩=>?_))
 obtain⟨v,w,e1,q1⟩:=q1
 subst e1
 obtain⟨u1,u2,rfl,rv,rw'⟩:∃u1 u2,us=[u1,u2]/\RelV v u1/\RelV w u2:=by
  cases r1 with
  |
   cons p q=>
   cases q with
   |
    cons p' q'=>
    cases q'
    exact⟨_,_,rfl,p,p'⟩
 refine Rx ?_ (by show 2<=sizeLine;decide)
 have I2:Inv X pins σ H1 { s1 with heap:=s1.heap.push { cls:=.type "tuple",data:=.seq [u1,u2].toArray } }:=I1.kept (t':=s1.toks) λb o e=>Qz _ e
 rw[hw]
 refine Qq (QE ?_)
 show wpAny (model X.prog X.w) X.A (do rule "assign.swapped-stores";let items <- unpackItems (.ref s1.heap.objs.size) 2 none;assignInOrder [λv=>bindName X.env y v,λv=>bindName X.env x v] items.reverse;pure Flow.next) _ _ _
 refine Qq (wpAny_rule (Qq (unpackItems_tuple (items:=#[u1,u2]) (I.ok.hd hc) (IsTup.new s1.heap _) λh' hx'=>?_)))
 have I3:=I2.kept (h':=h') (t':=s1.toks) λb o e=>hx' b o (QT (QA e)) e
 show wpAny _ _ (assignInOrder [λv=>bindName X.env y v,λv=>bindName X.env x v] [u2,u1] >>= λ_=>pure Flow.next) _ _ _
 refine Qq (assignInOrder_cons (wpAny_bindName (jo I3 hN hj (.inl hy) rw' (λs2 I4=>?_) (.inr hy))))
 refine assignInOrder_cons (wpAny_bindName (jo I4 hN hi (.inl hx) rv (λs3 I5=>assignInOrder_nil (QE ?_)) (.inr hx)))
 rw[List.set_comm _ _ (Ne.symm hij)] at I5
 exact⟨_,H1,I5,q1⟩
def tAug(i:Nat)(te:TE)(ti:TIp):TS:=λD σ H=>∃x,σ[i]?=some (some x)/\te σ H λy H1=>ti x y H1 λz H2=>D.nx (σ.set i (some z)) H2
def KY(hN:X.N.Nodup)(hi:X.N[i]?=some x)(hx:Loc X.env.scope x)(he:PE X e te)(ho:PIp X op ti)(hf:X.fn x=true\/X.env.scope.names.lookup x=some .local:=by first |exact .inl rfl |exact .inr rfl |assumption):
 PS X (.AugAssign (.Name x kw) op e pos) (tAug i te ti):=by
 intro pins s σ H D I h
 obtain⟨v,e1,h⟩:=h
 obtain⟨m,hn,hl⟩:=I.loc
 have vis:Vis X.env.scope x:=by rcases hx with k |k;exact .inl k;exact .inr (.inl k)
 obtain⟨u,r,l⟩:=hl i x v hi e1 vis
 refine wpAny_AugAssign_Name ?_
 have go:wpAny (model X.prog X.w) X.A (eval e X.env) (λw s₂=>wpAny (model X.prog X.w) X.A (inplaceOp op u w) (λr s₃=>wpAny (model X.prog X.w) X.A (storeName X.env x r) (λ_=>SP X pins D .next) X.xe s₃) X.xe s₂) X.xe s:=by
  refine thn (he pins s σ H _ I h) λw s1 ⟨y,H1,I1,r1,q1⟩=>?_
  refine thn (ho pins s1 σ H1 v y u w _ I1 r r1 q1) λz s2 ⟨zv,H2,I2,r2,q2⟩=>?_
  exact jo I2 hN hi hx r2 (λs3 I3=>⟨_,H2,I3,q2⟩) hf
 rcases l with ⟨hk,hm⟩ |⟨hk,c,hc,hcell⟩
 ·exact wpAny_loadName_local I.ok.kind hk hn hm go
 ·rcases hk with hk |hk
  ·exact wpAny_loadName_cell I.ok.kind hk hc hcell go
  ·rcases hx with k |k
   ·have:X.env.scope.names.lookup x=some .free:=hk
    rw[k] at this;cases this
   ·have:X.env.scope.names.lookup x=some .free:=hk
    rw[k] at this;cases this
def ipI(f:Int->Int->Int):TIp:=λx y H Q=>∃i j,x=.int i/\y=.int j/\Q (.int (f i j)) H
def JR:PIp X .Add (ipI λi j=>i+j):=by
 intro pins s σ H x y v u Q I r1 r2 h
 obtain⟨i,j,e1,e2,q⟩:=h
 subst e1;subst e2
 obtain⟨t,rfl⟩:=r1
 obtain⟨t',rfl⟩:=r2
 exact iadd_int ⟨.int _,H,I.tok _,⟨_,rfl⟩,q⟩
end
section
variable{X:Cx}{pos:Pos}
def I0(c:TT)(tb:TS):TS:=λD σ H=>∃W:Nat->St->Hp->Prop,(∃m,W m σ H)/\∀m σ H,W m σ H->
 c σ H λb H1=>if b=true then ∃N:St->Hp->Prop,(∀σ' H',N σ' H'->∃m',m'<m/\W m' σ' H')/\tb { D with nx:=N,ct:=N,bk:=D.nx } σ H1 else D.nx σ H1
def BX(hp:PassesOwn (model X.prog X.w) X.A X.env X.xe)(hc:PT X c tc)(hb:PSs X body tb):PS X (.While c body [] pos) (I0 tc tb):=by
 intro pins s σ H D I h
 obtain⟨W,⟨m0,w0⟩,turn⟩:=h
 refine wpAny_While (codeAny_whileLoop (λn s'=>∃σ' H',Inv X pins σ' H' s'/\W n σ' H') ?_ m0 ⟨σ,H,I,w0⟩)
 rintro n s1 ⟨σ1,H1,I1,w1⟩
 refine R5 hp (thn (hc pins s1 σ1 H1 _ I1 (turn n σ1 H1 w1)) λb s2 ⟨H2,I2,q2⟩=>?_)
 cases b with
 |
  true=>
  obtain⟨N,hN,q2⟩:=q2
  rw[if_pos rfl]
  refine R5 hp (thn (hb pins s2 σ1 H2 _ I2 q2) λf s3 q3=>?_)
  cases f with
  |
   next=>
   obtain⟨σ3,H3,I3,n3⟩:=q3
   obtain⟨m',hm,w3⟩:=hN σ3 H3 n3
   exact⟨m',hm,σ3,H3,I3,w3⟩
  |
   cont=>
   obtain⟨σ3,H3,I3,n3⟩:=q3
   obtain⟨m',hm,w3⟩:=hN σ3 H3 n3
   exact⟨m',hm,σ3,H3,I3,w3⟩
  |brk=>exact q3
  |ret v=>exact q3
 |
  false=>
  rw[if_neg Qx]
  exact TH ⟨σ1,H2,I2,q2⟩
end
structure It where
 go:Nat->Hp->Prop
 yld:Nat->Hp->V->Hp->Prop
 stop:Nat->Hp->Prop
def FpOk(X:Cx)(pins:Ub)(H:Hp)(b:Addr):Prop:=
 H b=none/\b≠X.env.locals/\b∉X.fs/\(b∈X.ex\/X.s₀.heap.objs.size<=b)/\(∀x c,X.env.cells.lookup x=some c->c≠b)/\∀p∈X.pn++pins,p.1≠b
def Inv.fpOk(I:Inv X pins σ H s)(hb:s.heap.objs.size<=b)(hn:H' b=none):FpOk X pins H' b:=by
 refine⟨hn,S7 (QL I.lt hb),I.nofs hb,.inr (QI I.sz hb),λx c e z=>?_,λp hp z=>?_⟩
 ·obtain⟨v,q⟩:=I.cell x c e
  exact absurd (QL q.lt (by rw[z];exact hb)) (Rl _)
 ·exact absurd (QL (QA (I.pin p hp).1) (by rw[z];exact hb)) (Rl _)
structure Turn(P:Program)(w:World)(K:W.Frag)(tg:Expr)(J:It)(fp:List Addr)(it:Addr)(tn:Nat->Heap->Prop):Prop where
 mem:it∈fp
 obj:∀i h,tn i h->∀b∈fp,∃o,h.get? b=some o/\∀v,o.data ≠ .cell v
 keep:∀i h h',tn i h->(∀b∈fp,∀o,h.get? b=some o->h'.get? b=some o)->tn i h'
 item:∀(X:Cx),X.prog=P->X.w=w->X.K=K->X.calm=true->∀(i:Nat) (pins:Ub) (s:Shared) (σ:St) (H:Hp) (E:Uc),Inv X pins σ H s->(∀b∈fp,FpOk X pins H b)->tn i s.heap->J.go i H->
  wpAny (model P w) X.A (pyNext (.ref it)) (λr s1=>∃u,r=some u/\
   wpAny (model P w) X.A (letOwnedTupleGo tg (.ref it) u) (λ_ s2=>∃x H',Inv X pins σ H' s2/\RelV x u/\J.yld i H x H'/\tn (i+1) s2.heap/\∀b∈fp,H' b=none) E s1) E s
 done:∀(X:Cx),X.prog=P->X.w=w->X.K=K->X.calm=true->∀(i:Nat) (pins:Ub) (s:Shared) (σ:St) (H:Hp) (E:Uc),Inv X pins σ H s->(∀b∈fp,FpOk X pins H b)->tn i s.heap->J.stop i H->
  wpAny (model P w) X.A (pyNext (.ref it)) (λr s1=>r=none/\Inv X pins σ H s1) E s
 self:∀(A:Around) (i:Nat) (s:Shared) (Q:Uc) (E:Uc),tn i s.heap->Q (.ref it) s->wpAny (model P w) A (pyIter (.ref it)) Q E s
abbrev TI:=St->Hp->(It->Hp->Prop)->Prop
def PIE(X:Cx)(pins:Ub)(σ:St)(tg:Expr)(R:It->Hp->Prop)(itv:Value)(s2:Shared):Prop:=
 ∃(it:Addr) (fp:List Addr) (tn:Nat->Heap->Prop) (J:It) (H':Hp),itv=.ref it/\Inv X pins σ H' s2/\Turn X.prog X.w X.K tg J fp it tn/\tn 0 s2.heap/\(∀b∈fp,FpOk X pins H' b)/\R J H'
def PI(X:Cx)(tg am:Expr)(wi:TI):Prop:=
 ∀
  (pins:Ub) (s:Shared) (σ:St) (H:Hp) (R:It->Hp->Prop),Inv X pins σ H s->wi σ H R->
  wpAny (model X.prog X.w) X.A (eval am X.env) (λv s1=>wpAny (model X.prog X.w) X.A (pyIter v) (PIE X pins σ tg R) X.xe s1) X.xe s
def zm(ho:s.heap.get? it=some o)(hc:o.cls=.type n)(hd:o.data=.fields vs)
 (hn:["enumerate", "zip", "dict_itemiterator", "dict_reverseitemiterator", "odict_iterator", "itertools.zip_longest", "itertools.pairwise"].contains n=false) (hQ:Q () s):wpAny M A (letOwnedTupleGo tg (.ref it) u) Q E s:=by
 unfold letOwnedTupleGo
 cases tg
  <;> first
  |exact QE hQ
  |(cases u <;> first
   |exact QE hQ
   |(
    refine Qq (wpAny_load ho ?_)
    rw[hc,hd]
    show wpAny M A (if (["enumerate", "zip", "dict_itemiterator", "dict_reverseitemiterator", "odict_iterator", "itertools.zip_longest", "itertools.pairwise"].contains n&&vs[0]?==some (rawInt _))=true then _ else _) Q E s
    rw[if_neg (by intro h;rw[hn,Bool.false_and] at h;cases h)]
    exact QE hQ))
def Itl(K:W.Frag)(a:Addr):It:=
 ⟨λi H=>∃xs x,SqL K H a xs/\xs[i]?=some x,λi H x H'=>H'=H/\∀xs,SqL K H a xs->xs[i]?=some x,λi H=>∃xs,SqL K H a xs/\xs.length<=i⟩
def Itt(K:W.Frag)(a:Addr):It:=
 ⟨λi H=>∃xs x,SqT K H a xs/\xs[i]?=some x,λi H x H'=>H'=H/\∀xs,SqT K H a xs->xs[i]?=some x,λi H=>∃xs,SqT K H a xs/\xs.length<=i⟩
noncomputable def Itr(lo:Int)(n:Nat):It:=⟨λi _=>i<n,λi H x H'=>H'=H/\x=.int (lo+i),λi _=>n<=i⟩
def AY{P:Program}{w:World}{K:W.Frag}{tg:Expr}(a it:Addr):Turn P w K tg (Itl K a) [it] it (λi h=>h.IsListIter it a i) where
 mem:=by simp
 obj:=λi h st b hb=>by
  have e:b=it:=by simpa using hb
  subst e
  obtain⟨o,e,c,d⟩:=st
  exact⟨o,e,λv z=>by rw[d] at z;cases z⟩
 keep:=λi h h' st k=>st.at λo e=>k it (by simp) o e
 item:=by
  intro X hP hw hK hc i pins s σ H E I hf st hg
  subst hP hw hK
  obtain⟨xs,x,hq,hx⟩:=hg
  obtain⟨its,rv,p,hz⟩:=I.list hq
  obtain⟨u,hu,ru⟩:=rv.get hx
  obtain⟨f0,f1,f2,f3,f4,f5⟩:=hf it (by simp)
  refine wpAny_pyNext_list_item st p.isList (x:=u) (by simpa using hu) λh' st' sb=>?_
  have I1:Inv X pins σ H { s with heap:=h' }:=I.turned (t':=s.toks) (λb o hb e=>(sb.2 b hb).trans e) f0 f1 f3 f4 f5
  obtain⟨o,e,c,d⟩:=id st'
  exact⟨u,rfl,zm (s:={ s with heap:=h' }) e c d (by decide) ⟨x,H,I1,ru,⟨rfl,λys hy=>by rw[I.list_inj hy hq];exact hx⟩,st',λb hb=>(hf b hb).1⟩⟩
 done:=by
  intro X hP hw hK hc i pins s σ H E I hf st hg
  subst hP hw hK
  obtain⟨xs,hq,hx⟩:=hg
  obtain⟨its,rv,p,hz⟩:=I.list hq
  obtain⟨f0,f1,f2,f3,f4,f5⟩:=hf it (by simp)
  have hl:=rv.length
  exact wpAny_pyNext_list_end (I.ok.hd hc) st p.isList (by simp;omega) λh' eb=>⟨rfl,I.turned (t':=s.toks) (λb o hb e=>eb b o hb e) f0 f1 f3 f4 f5⟩
 self:=λ_ _ _ _ _ st h=>wpAny_pyIter_listiter st h
def yg{P:Program}{w:World}{K:W.Frag}{tg:Expr}(a it:Addr):Turn P w K tg (Itt K a) [it] it (λi h=>h.IsTupleIter it a i) where
 mem:=by simp
 obj:=λi h st b hb=>by
  have e:b=it:=by simpa using hb
  subst e
  obtain⟨o,e,c,d⟩:=st
  exact⟨o,e,λv z=>by rw[d] at z;cases z⟩
 keep:=λi h h' st k=>st.at λo e=>k it (by simp) o e
 item:=by
  intro X hP hw hK hc i pins s σ H E I hf st hg
  subst hP hw hK
  obtain⟨xs,x,hq,hx⟩:=hg
  obtain⟨its,rv,p,hz⟩:=I.tuple hq
  obtain⟨u,hu,ru⟩:=rv.get hx
  obtain⟨f0,f1,f2,f3,f4,f5⟩:=hf it (by simp)
  refine wpAny_pyNext_tuple_item st (show s.heap.IsTuple a its.toArray from p) (x:=u) (by simpa using hu) λh' st' sb=>?_
  have I1:Inv X pins σ H { s with heap:=h' }:=I.turned (t':=s.toks) (λb o hb e=>(sb.2 b hb).trans e) f0 f1 f3 f4 f5
  obtain⟨o,e,c,d⟩:=id st'
  exact⟨u,rfl,zm (s:={ s with heap:=h' }) e c d (by decide) ⟨x,H,I1,ru,⟨rfl,λys hy=>by rw[I.tuple_inj hy hq];exact hx⟩,st',λb hb=>(hf b hb).1⟩⟩
 done:=by
  intro X hP hw hK hc i pins s σ H E I hf st hg
  subst hP hw hK
  obtain⟨xs,hq,hx⟩:=hg
  obtain⟨its,rv,p,hz⟩:=I.tuple hq
  obtain⟨f0,f1,f2,f3,f4,f5⟩:=hf it (by simp)
  have hl:=rv.length
  exact wpAny_pyNext_tuple_end (I.ok.hd hc) st (show s.heap.IsTuple a its.toArray from p) (by simp;omega) λh' eb=>⟨rfl,I.turned (t':=s.toks) (λb o hb e=>eb b o hb e) f0 f1 f3 f4 f5⟩
 self:=λ_ _ _ _ _ st h=>wpAny_pyIter_tupleiter st h
def y9{P:Program}{w:World}{K:W.Frag}{tg:Expr}(it:Addr)(lo:Int)(n:Nat):Turn P w K tg (Itr lo n) [it] it (λi h=>IsRangeIter h it (lo+(i:Nat)*1) ((n:Int)-(i:Nat)) 1) where
 mem:=by simp
 obj
  := λi h st b hb=>by
  have e:b=it:=by simpa using hb
  subst e
  exact⟨_,st,λv z=>by
   have z':Data.fields _=Data.cell v:=z
   cases z'⟩
 keep:=λi h h' st k=>k it (by simp) _ st
 item:=by
  intro X hP hw hK hc i pins s σ H E I hf st hg
  subst hP hw hK
  obtain⟨f0,f1,f2,f3,f4,f5⟩:=hf it (by simp)
  have W:=Walks.range (prog:=X.prog) (w:=X.w) (I.ok.hd hc) it lo 1 n
  refine W.item i s _ _ hg st λv h' tk hv st' kk=>?_
  obtain⟨t,rfl⟩:=hv
  have I1:Inv X pins σ H { s with heap:=h',toks:=tk }:=I.turned (λb o hb e=>kk b o (by simpa using hb) e) f0 f1 f3 f4 f5
  refine⟨_,rfl,zm (s:={ s with heap:=h',toks:=tk }) (n:="range_iterator") st' rfl rfl (by decide) ⟨.int (lo+i),H,I1,⟨t,?_⟩,⟨rfl,rfl⟩,st',λb hb=>(hf b hb).1⟩⟩
  rw[Int.mul_one]
 done:=by
  intro X hP hw hK hc i pins s σ H E I hf st hg
  subst hP hw hK
  obtain⟨f0,f1,f2,f3,f4,f5⟩:=hf it (by simp)
  exact wpAny_pyNext_range_end (I.ok.hd hc) st (by have:n<=i:=hg;omega) λh' eb=>⟨rfl,I.turned (t':=s.toks) (λb o hb e=>eb b o hb e) f0 f1 f3 f4 f5⟩
 self:=λ_ _ _ _ _ st h=>wpAny_pyIter_rangeiter st h
section
variable{X:Cx}{tg:Expr}
def B2{pins:Ub}{σ:St}{H:Hp}{s:Shared}{R:It->Hp->Prop}{E:Uc}{lo hi:Int}{t u v:Tok}{tk:Nat}(I:Inv X pins σ H s)(h1:-(2^62)<=lo)(h2:lo<2^62)(h3:-(2^62)<=hi)(h4:hi<2^62)
 (q:R (Itr lo (hi-lo).toNat) H):wpAny (model X.prog X.w) X.A (pyIter (.ref s.heap.objs.size)) (PIE X pins σ tg R) E { s with heap:=s.heap.push { cls:=.type "range",data:=.fields #[.int lo t,.int hi u,.int 1 v] },toks:=tk }:=by
 refine wpAny_pyIter_range (IsRange.new ..) (small_one h1 h2 h3 h4) ?_
 have I1:Inv X pins σ H { s with heap:=s.heap.push { cls:=.type "range",data:=.fields #[.int lo t,.int hi u,.int 1 v] },toks:=tk }:=I.kept λb o e=>Qz _ e
 refine⟨(s.heap.push { cls:=.type "range",data:=.fields #[.int lo t,.int hi u,.int 1 v] }).objs.size,[(s.heap.push { cls:=.type "range",data:=.fields #[.int lo t,.int hi u,.int 1 v] }).objs.size],_,_,H,rfl,
  I1.kept (t':=tk) λb o e=>Qz _ e,y9 _ lo (hi-lo).toNat,?_,λb hb=>?_,q⟩
 ·have e1:lo+((0:Nat):Int)*1=lo:=by simp
  have e2:(((hi-lo).toNat:Nat):Int)-((0:Nat):Int)=Builtin.Range.rangeSize lo hi 1:=by rw[rangeSize_one];split <;> omega
  show IsRangeIter _ _ (lo+((0:Nat):Int)*1) ((((hi-lo).toNat:Nat):Int)-((0:Nat):Int)) 1
  rw[e1,e2]
  exact QJ _ rfl
 ·have e:b=(s.heap.push { cls:=.type "range",data:=.fields #[.int lo t,.int hi u,.int 1 v] }).objs.size:=by simpa using hb
  subst e
  exact I1.fpOk (Qu _) (I1.hok.fresh (Qu _))
def My(ta:TA):TI:=λσ H R=>ta σ H λvs H1=>∃j:Int,vs=[.int j]/\-(2^62)<=j/\j<2^62/\R (Itr 0 j.toNat) H1
def Bn(hg:Gl X "range")(hm:X.mg "range"=none)(ha:PA X [a] ta)(hs:starEach [a] X.env=[(false,eval a X.env)]:=by rfl):PI X tg (.Call (.Name "range" p) [a] [] pos) (My ta):=by
 intro pins s σ H R I h
 refine Call_ (jr I hg hm boot_range (RX (thn (ha pos pins s σ H _ I h) λus s1 ⟨vs,H1,I1,r1,q1⟩=>?_) hs rfl))
 obtain⟨j,e,q1,q2,q⟩:=q1
 subst e
 cases r1 with
 |
  cons r rr=>
  cases rr
  obtain⟨t,rfl⟩:=r
  exact call_range_1 (B2 I1 (by omega) (by omega) q1 q2 (by simpa using q))
def tFor(wi:TI)(g:TG)(tb:TS):TS:=λD σ H=>wi σ H λJ H1=>∃W:Nat->Nat->St->Hp->Prop,(∃m,W 0 m σ H1)/\∀i m σ H,W i m σ H->
 (J.stop i H/\D.nx σ H)\/(J.go i H/\∃N:St->Hp->Prop,(∀σ' H',N σ' H'->∃m',m'<m/\W (i+1) m' σ' H')/\∀x H',J.yld i H x H'->g x σ H' λσ2 H2=>tb { D with nx:=N,ct:=N,bk:=D.nx } σ2 H2)
noncomputable def mU(fp:List Addr)(h:Heap):List (Addr×Obj):=fp.filterMap λb=>(h.get? b).map λo=>(b,o)
def iZ(hb:b∈fp)(e:h.get? b=some o):(b,o)∈mU fp h:=List.mem_filterMap.mpr ⟨b,hb,by rw[e];rfl⟩
def Al(hp:p∈mU fp h):p.1∈fp/\h.get? p.1=some p.2:=by
 obtain⟨b,hb,e⟩:=List.mem_filterMap.mp hp
 cases q:h.get? b with
 |none=>rw[q] at e;cases e
 |
  some o=>
  rw[q] at e
  have e':(b,o)=p:=QK e
  subst e'
  exact⟨hb,q⟩
def Inv.pinned(I:Inv X pins σ H s)(hf:∀b∈fp,FpOk X pins H b)(ho:∀b∈fp,∃o,s.heap.get? b=some o/\∀v,o.data ≠ .cell v):Inv X (pins++mU fp s.heap) σ H s:=
 I.pins_of λp hp=>(Rh.mp hp).elim (λz=>I.pin p (QU _ z)) λz=>by
  obtain⟨hb,e⟩:=Al z
  obtain⟨f0,f1,f2,_⟩:=hf p.1 hb
  obtain⟨o,e',d⟩:=ho p.1 hb
  rw[e] at e';cases e'
  exact⟨e,f0,f1,f2,d⟩
def Inv.unpinned(I:Inv X (pins++pl) σ H s):Inv X pins σ H s:=I.pins_of λp hp=>I.pin p (QU _ (SE _ hp))
def JF(hp:PassesOwn (model X.prog X.w) X.A X.env X.xe)(hc:X.calm=true)(hi:PI X tg am wi)(hg:PG X tg g)(hb:PSs X body tb)
 (hs:∀x,foldedSetIterable am X.env x=pure x:=by intro _;rfl):PS X (.For tg am body [] pos) (tFor wi g tb):=by
 intro pins s σ H D I h
 refine wpAny_For (thn (hi pins s σ H _ I h) λv s1 h1=>thn h1 λitv s2 h2=>?_) hs
 obtain⟨it,fp,tn,J,H2,e,I2,T,st2,f2,W,⟨m0,w0⟩,turn⟩:=h2
 subst e
 have stat:∀{H':Hp},(∀b∈fp,H' b=none)->∀b∈fp,FpOk X pins H' b:=λhn b hb=>⟨hn b hb,(f2 b hb).2⟩
 refine codeAny_forLoop_any (λn s'=>∃i σ' H',Inv X pins σ' H' s'/\tn i s'.heap/\(∀b∈fp,H' b=none)/\W i n σ' H') ?_ m0 ⟨0,σ,H2,I2,st2,λb hb=>(f2 b hb).1,w0⟩
 rintro n s3 ⟨i,σ3,H3,I3,st3,fr3,w3⟩
 rcases turn i n σ3 H3 w3 with ⟨stop,qn⟩ |⟨go,N,hN,step⟩
 ·refine R5 hp (thn (T.done X rfl rfl rfl hc i pins s3 σ3 H3 X.xe I3 (stat fr3) st3 stop) λr s4 ⟨hr,I4⟩=>?_)
  subst hr
  exact TH ⟨σ3,H3,I4,qn⟩
 ·refine R5 hp (thn (T.item X rfl rfl rfl hc i pins s3 σ3 H3 X.xe I3 (stat fr3) st3 go) λr s4 ⟨u,hr,h4⟩=>?_)
  subst hr
  refine R5 hp (thn h4 λ_ s5 ⟨x,H5,I5,r5,y5,st5,fr5⟩=>?_)
  have I5':=I5.pinned (stat fr5) (T.obj _ _ st5)
  refine R5 hp (thn (hg _ s5 σ3 H5 x u _ I5' r5 (step x H5 y5)) λ_ s6 ⟨σ6,H6,I6,q6⟩=>?_)
  refine R5 hp (thn (hb _ s6 σ6 H6 _ I6 q6) λf s7 q7=>?_)
  have again:∀{σ7:St}{H7:Hp},Inv X (pins++mU fp s5.heap) σ7 H7 s7->N σ7 H7->∃m,m<n/\∃i σ' H',Inv X pins σ' H' s7/\tn i s7.heap/\(∀b∈fp,H' b=none)/\W i m σ' H':=λ{σ7 H7} I7 n7=>by
   obtain⟨m',hm,w7⟩:=hN σ7 H7 n7
   refine⟨m',hm,i+1,σ7,H7,I7.unpinned,T.keep _ _ _ st5 λb hb o e=>(I7.pin (b,o) (QU _ (QU _ (iZ hb e)))).1,λb hb=>?_,w7⟩
   obtain⟨o,e,d⟩:=T.obj _ _ st5 b hb
   exact (I7.pin (b,o) (QU _ (QU _ (iZ hb e)))).2.1
  cases f with
  |next=>obtain⟨σ7,H7,I7,n7⟩:=q7;exact again I7 n7
  |cont=>obtain⟨σ7,H7,I7,n7⟩:=q7;exact again I7 n7
  |brk=>obtain⟨σ7,H7,I7,q7⟩:=q7;exact⟨σ7,H7,I7.unpinned,q7⟩
  |ret v=>obtain⟨x7,σ7,H7,I7,r7,q7⟩:=q7;exact⟨x7,σ7,H7,I7.unpinned,r7,q7⟩
end
abbrev R2:=V->V->Hp->VK->Prop
def OpR(X:Cx)(f:Value->Value->Sem Value)(r:R2):Prop:=
 ∀
  (pins:Ub) (s:Shared) (σ:St) (H:Hp) (x y:V) (v u:Value) (Q:VK),Inv X pins σ H s->RelV x v->RelV y u->r x y H Q->
  wpAny (model X.prog X.w) X.A (f v u) (EP X pins σ Q) X.xe s
def UnR(X:Cx)(f:Value->Sem Value)(r:V->Hp->VK->Prop):Prop:=
 ∀
  (pins:Ub) (s:Shared) (σ:St) (H:Hp) (x:V) (v:Value) (Q:VK),Inv X pins σ H s->RelV x v->r x H Q->
  wpAny (model X.prog X.w) X.A (f v) (EP X pins σ Q) X.xe s
def CallR(X:Cx)(f:Value)(r:List V->Hp->VK->Prop):Prop:=
 ∀
  (pins:Ub) (s:Shared) (σ:St) (H:Hp) (xs:List V) (us:List Value) (Q:VK),Inv X pins σ H s->Vals xs us->r xs H Q->
  wpAny (model X.prog X.w) X.A (call f us) (EP X pins σ Q) X.xe s
def TruR(X:Cx)(r:V->Hp->(Bool->Hp->Prop)->Prop):Prop:=
 ∀
  (pins:Ub) (s:Shared) (σ:St) (H:Hp) (x:V) (v:Value) (Q:Bool->Hp->Prop),Inv X pins σ H s->RelV x v->r x H Q->
  wpAny (model X.prog X.w) X.A (truthy v) (TP X pins σ Q) X.xe s
def tOp(r:R2)(ta tb:TE):TE:=λσ H Q=>ta σ H λx H1=>tb σ H1 λy H2=>r x y H2 Q
def tUn(r:V->Hp->VK->Prop)(ta:TE):TE:=λσ H Q=>ta σ H λx H1=>r x H1 Q
def rI(C:Int->Int->Prop)(g:Int->Int->V):R2:=λx y H Q=>∃i j,x=.int i/\y=.int j/\C i j/\Q (g i j) H
def rI0(g:Int->Int->V):R2:=λx y H Q=>∃i j,x=.int i/\y=.int j/\Q (g i j) H
def rU(g:Int->V):V->Hp->VK->Prop:=λx H Q=>∃i,x=.int i/\Q (g i) H
section
variable{X:Cx}{a b c:Expr}{ta tb tc:TE}{pos:Pos}
def Ct(ha:PE X a ta)(hb:PE X b tb){pins:Ub}{s:Shared}{σ:St}{H:Hp}{R:V->V->Hp->Prop}(I:Inv X pins σ H s)
 (h:ta σ H λx H1=>tb σ H1 λy H2=>R x y H2) {Q:Uc}{f:Value->Value->Sem Value}
 (hf:∀v u s2 x y H2,Inv X pins σ H2 s2->RelV x v->RelV y u->R x y H2->wpAny (model X.prog X.w) X.A (f v u) Q X.xe s2):
 wpAny (model X.prog X.w) X.A (eval a X.env) (λv s₁=>wpAny (model X.prog X.w) X.A (eval b X.env) (λu s₂=>wpAny (model X.prog X.w) X.A (f v u) Q X.xe s₂) X.xe s₁) X.xe s:=by
 refine thn (ha pins s σ H _ I h) λv s1 ⟨x,H1,I1,r1,q1⟩=>?_
 refine thn (hb pins s1 σ H1 _ I1 q1) λu s2 ⟨y,H2,I2,r2,q2⟩=>?_
 exact hf v u s2 x y H2 I2 r1 r2 q2
def Nf(ho:OpR X (binaryOp op) r)(ha:PE X a ta)(hb:PE X b tb):PE X (.BinOp a op b pos) (tOp r ta tb):=by
 intro pins s σ H Q I h
 exact wpAny_BinOp (Ct ha hb I h λv u s2 x y H2 I2 rx ry q=>ho pins s2 σ H2 x y v u Q I2 rx ry q)
def MJ(ho:UnR X (unaryOp op) r)(ha:PE X a ta):PE X (.UnaryOp op a pos) (tUn r ta):=by
 intro pins s σ H Q I h
 exact UnaryOp_ (thn (ha pins s σ H _ I h) λv s1 ⟨x,H1,I1,r1,q1⟩=>ho pins s1 σ H1 x v Q I1 r1 q1)
def opI{f:Value->Value->Sem Value}{C:Int->Int->Prop}{g:Int->Int->Int}
 (rule:∀(i j:Int) (t u:Tok) (s:Shared) (Q:Uc) (E:Uc),C i j->Q (.int (g i j) s.toks) { s with toks:=s.toks+1 }->wpAny (model X.prog X.w) X.A (f (.int i t) (.int j u)) Q E s):
 OpR X f (rI C λi j=>.int (g i j)):=by
 intro pins s σ H x y v u Q I rx ry h
 obtain⟨i,j,rfl,rfl,hc,q⟩:=h
 obtain⟨t,rfl⟩:=rx
 obtain⟨t',rfl⟩:=ry
 exact rule i j t t' s _ _ hc ⟨.int (g i j),H,I.tok _,⟨_,rfl⟩,q⟩
def opI0{f:Value->Value->Sem Value}{g:Int->Int->Int}
 (rule:∀(i j:Int) (t u:Tok) (s:Shared) (Q:Uc) (E:Uc),Q (.int (g i j) s.toks) { s with toks:=s.toks+1 }->wpAny (model X.prog X.w) X.A (f (.int i t) (.int j u)) Q E s):
 OpR X f (rI0 λi j=>.int (g i j)):=by
 intro pins s σ H x y v u Q I rx ry h
 obtain⟨i,j,rfl,rfl,q⟩:=h
 obtain⟨t,rfl⟩:=rx
 obtain⟨t',rfl⟩:=ry
 exact rule i j t t' s _ _ ⟨.int (g i j),H,I.tok _,⟨_,rfl⟩,q⟩
def CV{f:Value->Value->Sem Value}{g:Int->Int->Bool}
 (rule:∀(i j:Int) (t u:Tok) (s:Shared) (Q:Uc) (E:Uc),Q (.bool (g i j)) s->wpAny (model X.prog X.w) X.A (f (.int i t) (.int j u)) Q E s):
 OpR X f (rI0 λi j=>.bl (g i j)):=by
 intro pins s σ H x y v u Q I rx ry h
 obtain⟨i,j,rfl,rfl,q⟩:=h
 obtain⟨t,rfl⟩:=rx
 obtain⟨t',rfl⟩:=ry
 exact rule i j t t' s _ _ ⟨.bl (g i j),H,I,rfl,q⟩
def iN(i j:Int):Prop:=0<=j/\j<=1000000/\i.natAbs<2^64
def CMul(i j:Int):Prop:=(-(2^64)<i/\i<2^64)\/(-(2^64)<j/\j<2^64)
noncomputable def CMul.ok(h:CMul i j):IntMulOk i j:=by
 rcases h with ⟨h1,h2⟩ |⟨h1,h2⟩
 ·exact .of_left (intBits_le_64 h1 h2)
 ·exact .of_right (intBits_le_64 h1 h2)
def JK:OpR X (binaryOp .Add) (rI0 λi j=>.int (i+j)):=opI0 λ_ _ _ _ _ _ _ q=>add_int q
def eP:OpR X (binaryOp .Sub) (rI0 λi j=>.int (i-j)):=opI0 λ_ _ _ _ _ _ _ q=>sub_int q
def Hj:OpR X (binaryOp .Mult) (rI CMul λi j=>.int (i*j)):=opI λ_ _ _ _ _ _ _ hc q=>mul_int q hc.ok
def df:OpR X (binaryOp .Mod) (rI (λ_ j=>j≠0) λi j=>.int (i.fmod j)):=opI λ_ _ _ _ _ _ _ hc q=>mod_int' hc q
def jl:OpR X (binaryOp .Pow) (rI iN λi j=>.int (i^j.toNat)):=opI λ_ _ _ _ _ _ _ hc q=>pow_int_small hc.1 hc.2.1 hc.2.2 q
def Lx:OpR X (binaryOp .LShift) (rI iN λi j=>.int (i*2^j.toNat)):=opI λ_ _ _ _ _ _ _ hc q=>lshift_int_small hc.1 hc.2.1 hc.2.2 q
def unI{f:Value->Sem Value}{g:Int->Int}
 (rule:∀(i:Int) (t:Tok) (s:Shared) (Q:Uc) (E:Uc),Q (.int (g i) s.toks) { s with toks:=s.toks+1 }->wpAny (model X.prog X.w) X.A (f (.int i t)) Q E s):
 UnR X f (rU λi=>.int (g i)):=by
 intro pins s σ H x v Q I rx h
 obtain⟨i,rfl,q⟩:=h
 obtain⟨t,rfl⟩:=rx
 exact rule i t s _ _ ⟨.int (g i),H,I.tok _,⟨_,rfl⟩,q⟩
def Ie:UnR X (unaryOp .USub) (rU λi=>.int (-i)):=unI λ_ _ _ _ _ q=>neg_int q
end
section
variable{X:Cx}{a b c:Expr}{ta tb tc:TE}{pos:Pos}
def pR(I:Inv X pins σ H s)(q:Q (.bl k) H)(e:k=k'):EP X pins σ Q (.bool k') s:=by
 subst e
 exact⟨.bl k,H,I,rfl,q⟩
def pE:OpR X (compareOp .Lt) (rI0 λi j=>.bl (decide (i<j))):=CV λ_ _ _ _ _ _ _ q=>lt_int q
def m5:OpR X (compareOp .Gt) (rI0 λi j=>.bl (decide (j<i))):=CV λ_ _ _ _ _ _ _ q=>gt_int q
def pA:OpR X (compareOp .GtE) (rI0 λi j=>.bl (decide (j<=i))):=CV λ_ _ _ _ _ _ _ q=>ge_int q
def Bm:OpR X (compareOp .Is) (λx y H Q=>y=.non/\Q (.bl (decide (x=.non))) H):=by
 intro pins s σ H x y v u Q I rx ry h
 obtain⟨rfl,q⟩:=h
 cases ry
 refine is_none_gen (pR I q ?_)
 cases x <;> first
  |(cases rx;rfl)
  |(obtain⟨t,rfl⟩:=rx;rfl)
def EW:OpR X (compareOp .IsNot) (λx y H Q=>y=.non/\Q (.bl (!decide (x=.non))) H):=by
 intro pins s σ H x y v u Q I rx ry h
 obtain⟨rfl,q⟩:=h
 cases ry
 refine isnot_none_gen (pR I q ?_)
 cases x <;> first
  |(cases rx;rfl)
  |(obtain⟨t,rfl⟩:=rx;rfl)
def OpR.or(h:OpR X f r)(h':OpR X f r'):OpR X f (λx y H Q=>r x y H Q\/r' x y H Q):=by
 intro pins s σ H x y v u Q I rx ry q
 rcases q with q |q
 ·exact h pins s σ H x y v u Q I rx ry q
 ·exact h' pins s σ H x y v u Q I rx ry q
def aE(b:Expr)(h:op ≠ .In:=by decide)(h2:op ≠ .NotIn:=by decide):behindInMarks op b=false:=by
 have e1:(op==CmpOp.In)=false:=by cases op <;> first |rfl |exact absurd rfl h
 have e2:(op==CmpOp.NotIn)=false:=by cases op <;> first |rfl |exact absurd rfl h2
 cases b <;> simp [behindInMarks,e1,e2]
def FC(ho:OpR X (compareOp op) r)(ha:PE X a ta)(hb:PE X b tb)(hm:behindInMarks op b=false):PE X (.Compare a [op] [b] pos) (tOp r ta tb):=by
 intro pins s σ H Q I h
 exact wpAny_Compare1 (Ct ha hb I h λv u s2 x y H2 I2 rx ry q=>ho pins s2 σ H2 x y v u Q I2 rx ry q) hm
def NN(t:TE):TT:=λσ H Q=>t σ H λx H'=>∃k,x=.bl k/\Q k H'
def FG(ho:OpR X (compareOp op) r)(ha:PE X a ta)(hb:PE X b tb)(hm:behindInMarks op b=false):PT X (.Compare a [op] [b] pos) (NN (tOp r ta tb)):=by
 intro pins s σ H Q I h
 refine wpAny_isTrue_Compare1 (thn (ha pins s σ H _ I h) λv s1 ⟨x,H1,I1,r1,q1⟩=>thn (hb pins s1 σ H1 _ I1 q1) λu s2 ⟨y,H2,I2,r2,q2⟩=>
  thn (ho pins s2 σ H2 x y v u _ I2 r1 r2 q2) λc s3 ⟨z,H3,I3,r3,k,e,q3⟩=>?_) hm
 subst e
 cases r3
 exact R8 ⟨H3,I3,q3⟩
def Di(K:W.Frag)(x:V)(H:Hp)(k:Bool):Prop:=
 match x with
 |.non=>k=false
 |.bl b=>k=b
 |.int i=>k=(i != 0)
 |.str y=>y.length<=sizeLine/\k=((y.length:Int) != 0)
 |.byt y=>y.size<=sizeLine/\k=((y.size:Int) != 0)
 |.ref p=>(∃xs,SqL K H p xs/\k=!xs.isEmpty)\/(∃xs,SqT K H p xs/\k=!xs.isEmpty)\/∃kvs,H p=some (.dK kvs)/\k=!kvs.isEmpty
 |_=>False
def yo(r:KV kvs vs):(!vs.isEmpty)=!kvs.isEmpty:=by
 cases r <;> rfl
def o1(r:Vals xs its):(!its.toArray.isEmpty)=!xs.isEmpty:=by
 cases r <;> simp
def jJ:(sizeLine:Nat)<2^63:=by rw[sizeLine_eq];decide
def J1:TruR X (λx H Q=>∃k,Di X.K x H k/\Q k H):=by
 intro pins s σ H x v Q I rx h
 obtain⟨k,e,q⟩:=h
 have hl:=jJ
 have hs:sizeLine=16777216:=sizeLine_eq
 cases x with
 |
  non=>
  cases rx
  have e':k=false:=e
  subst e'
  exact truthy_none ⟨H,I,q⟩
 |
  bl b=>
  cases rx
  have e':k=b:=e
  subst e'
  exact R8 ⟨H,I,q⟩
 |
  int i=>
  obtain⟨t,rfl⟩:=rx
  have e':k=(i != 0):=e
  subst e'
  exact PySem.P.truthy_int ⟨H,I,q⟩
 |
  str y=>
  obtain⟨t,rfl⟩:=rx
  obtain⟨hy,e'⟩:y.length<=sizeLine/\k=((y.length:Int) != 0):=e
  subst e'
  exact PySem.P.truthy_str (by omega) ⟨H,I.tok _,q⟩
 |
  byt y=>
  obtain⟨t,rfl⟩:=rx
  obtain⟨hy,e'⟩:y.size<=sizeLine/\k=((y.size:Int) != 0):=e
  subst e'
  exact W.truthy_bytes (by omega) ⟨H,I.tok _,q⟩
 |
  ref p=>
  cases rx
  have e':(∃xs,SqL X.K H p xs/\k=!xs.isEmpty)\/(∃xs,SqT X.K H p xs/\k=!xs.isEmpty)\/∃kvs,H p=some (.dK kvs)/\k=!kvs.isEmpty:=e
  rcases e' with ⟨xs,hx,e'⟩ |⟨xs,hx,e'⟩ |⟨kvs,hx,e'⟩
  ·subst e'
   obtain⟨its,r,pl,hz⟩:=I.list hx
   have bi:=r.length
   exact wpAny_truthy_list pl.isList (by simp only[QC];omega) ⟨H,I.tok _,by rw[o1 r];exact q⟩
  ·subst e'
   obtain⟨its,r,pl,hz⟩:=I.tuple hx
   have bi:=r.length
   exact truthy_tuple pl (by simp only[QC];omega) ⟨H,I.tok _,by rw[o1 r];exact q⟩
  ·subst e'
   obtain⟨hz,hS,vs,r,m⟩:kvs.length<=sizeLine/\(p==sysModules)=false/\∃vs,KV kvs vs/\s.heap.DictOf (ck X.prog X.w) p vs:=I.hok p _ hx
   have bi:kvs.length=vs.length:=TN r
   exact wpAny_truthy_dict hS m (by omega) ⟨H,I.tok _,by rw[yo r];exact q⟩
 |_=>exact (show False from e).elim
def BU(ha:PE X a ta)(he:∀db,isTrue a X.env db=(do let v <- db;standAt a.pos;holding [v] (truthy v))):
 PT X a (λσ H Q=>ta σ H λx H'=>∃k,Di X.K x H' k/\Q k H'):=by
 intro pins s σ H Q I h
 exact isTrue_plain (thn (ha pins s σ H _ I h) λv s1 ⟨x,H1,I1,r1,q1⟩=>J1 pins s1 σ H1 x v Q I1 r1 q1) (he _)
def jb(r:Vals [x] us):∃u,us=[u]/\RelV x u:=by
 cases r with
 |cons r1 r2=>cases r2;exact⟨_,rfl,r1⟩
def oY(r:Vals [x,y] us):∃u w',us=[u,w']/\RelV x u/\RelV y w':=by
 cases r with
 |
  cons r1 r2=>
  cases r2 with
  |cons r3 r4=>cases r4;exact⟨_,_,rfl,r1,r3⟩
def fq:CallR X (.builtin "abs") (λxs H Q=>∃i,xs=[.int i]/\Q (.int (if i<0 then -i else i)) H):=by
 intro pins s σ H xs us Q I r h
 obtain⟨i,rfl,q⟩:=h
 obtain⟨u,rfl,t,rfl⟩:=jb r
 exact call_abs_int λu tk=>⟨.int (if i<0 then -i else i),H,I.tok _,⟨_,rfl⟩,q⟩
def Bc(hc:X.calm=true):CallR X (.builtin "max") (λxs H Q=>∃i j,xs=[.int i,.int j]/\Q (.int (if j>i then j else i)) H):=by
 intro pins s σ H xs us Q I r h
 obtain⟨i,j,rfl,q⟩:=h
 obtain⟨u,w',rfl,⟨t,rfl⟩,⟨t',rfl⟩⟩:=oY r
 refine max_two_ints (I.ok.hd hc) λh' tk k=>⟨_,H,I.kept k,?_,q⟩
 by_cases hj:j>i
 ·rw[if_pos hj,if_pos hj];exact⟨_,rfl⟩
 ·rw[if_neg hj,if_neg hj];exact⟨_,rfl⟩
def se(hc:X.calm=true):CallR X (.builtin "min") (λxs H Q=>∃i j,xs=[.int i,.int j]/\Q (.int (if j<i then j else i)) H):=by
 intro pins s σ H xs us Q I r h
 obtain⟨i,j,rfl,q⟩:=h
 obtain⟨u,w',rfl,⟨t,rfl⟩,⟨t',rfl⟩⟩:=oY r
 refine min_two_ints (I.ok.hd hc) λh' tk k=>⟨_,H,I.kept k,?_,q⟩
 by_cases hj:j<i
 ·rw[if_pos hj,if_pos hj];exact⟨_,rfl⟩
 ·rw[if_neg hj,if_neg hj];exact⟨_,rfl⟩
def zR:CallR X (.type "int") (λxs H Q=>(∃i,xs=[.int i]/\Q (.int i) H)\/∃k,xs=[.bl k]/\Q (.int (if k then 1 else 0)) H):=by
 intro pins s σ H xs us Q I r h
 rcases h with ⟨i,rfl,q⟩ |⟨k,rfl,q⟩
 ·obtain⟨u,rfl,t,rfl⟩:=jb r
  exact call_int_int ⟨.int i,H,I,⟨_,rfl⟩,q⟩
 ·obtain⟨u,rfl,r1⟩:=jb r
  cases r1
  exact call_int_bool ⟨.int (if k then 1 else 0),H,I.tok _,⟨_,rfl⟩,q⟩
end
structure ObjM(h:Heap)(x dx C:Addr)(mA:Ua):Prop where
 obj:h.get? x=some (W.instObj C dx)
 ns:h.Ns1 dx mA
 ne:dx≠x
def zZ{h:Heap}{dx:Addr}{mA:Ua}(n:h.Ns1 dx mA):∃od,h.get? dx=some od/\∀name,W.lookIn name od=some (mA name):=by
 obtain⟨o,es,ep,ho,hd,hk,_,hm⟩:=n
 refine⟨o,ho,λname=>?_⟩
 have e:=hm name
 unfold nsFind findBy at e
 rw[<- Array.find?_toList] at e
 unfold W.lookIn
 rw[hd]
 dsimp only
 split
 ·rename_i y q
  rw[q] at e
  exact Ru some e
 ·rename_i q
  rw[q] at e
  have a:es.toList.any (·.refKey)=false:=by
   rw[List.any_eq_false]
   intro y hy
   obtain⟨z,t,hkey⟩:=hk y (Array.mem_toList_iff.mp hy)
   simp [DictEntry.refKey,hkey]
  have a':¬ es.toList.any (·.refKey)=true:=by rw[a];exact Qx
  rw[if_neg a']
  exact Ru some e
def ObjM.look(I:ObjM h x dx C mA):∃od,W.InstAt h x (W.instObj C dx) C (some od)/\∀name,W.lookIn name od=some (mA name):=
 let ⟨od,ho,hl⟩:=zZ I.ns
 ⟨od,⟨I.obj,rfl,rfl,ho⟩,hl⟩
section
variable{prog:Program}{w:World}{A:Around}{E:Uc}{s:Shared}{K:W.Frag}{x dx C f:Addr}{mA:Ua}{name:Str}{v:Value}
end
def RelO.some_of(r:RelO (some v) o):∃u,o=some u/\RelV v u:=by
 cases o with
 |none=>exact (show False from r).elim
 |some u=>exact⟨u,rfl,r⟩
section
variable{P:Program}{w:World}{H H':Hp}{h h':Heap}{a C dx:Addr}{fs fs':List (Str×V)}
def F9(hok:HOk P w H h)(e:H a=some (.ins C dx fs)):∃mA,ObjM h a dx C mA/\(∀f,RelO (fs.lookup f) (mA f))/\PySem.Within mA (fs.map (·.1))/\fs.length<=1000/\H dx=some (.own a):=by
 obtain⟨d,z,ne,ob,mA,n,r,q⟩:=(show ObjOk P w H h a (.ins C dx fs) from hok a _ e)
 exact⟨mA,⟨ob,n,ne⟩,r,q,z,d⟩
end
structure Cls(K:W.Frag)(C:Addr):Prop where
 pg:W.plainGet K C Str.empty=true
 hd:W.hasDictIn K C=true
 po:W.plainOver K C=true
 sa:W.findIn K (.ref C) "__setattr__"=some (some (.builtin "object.__setattr__"))
noncomputable def Cls.get{K:W.Frag}{C:Addr}(c:Cls K C)(f:Str):W.plainGet K C f=true:=c.pg
structure Con(K:W.Frag)(C:Addr)(f:Str)(v:V)(u:Value):Prop where
 at_:W.findIn K (.ref C) f=some (some u)
 rel:RelV v u
 get:W.specialIn K u "__get__"=some none
 cp:W.copiedNames.contains f=false
structure Meth(K:W.Frag)(C:Addr)(m:Str)(f:Addr):Prop where
 at_:W.findIn K (.ref C) m=some (some (.ref f))
 fn:W.isFn K (.ref f)=true
 kp:W.keepIn K (.ref f)=true
section
variable{X:Cx}{pins:Ub}{σ:St}{H:Hp}{s:Shared}{a C dx:Addr}{fs:List (Str×V)}{f:Str}{v:V}{A:Around}{E:Uc}
end
section
variable{X:Cx}{o e value:Expr}{f:Str}{pos kw tpos:Pos}{ta tv:TE}
end
section
variable{X:Cx}{pins:Ub}{σ:St}{H:Hp}{s:Shared}{A:Around}{E:Uc}{Q:Uc}{c:Value}{b:Bool}
inductive TyOf(K:W.Frag)(H:Hp):V->Value->Prop where
 |non:TyOf K H .non (.type "NoneType")
 |bl (x:Bool):TyOf K H (.bl x) (.type "bool")
 |int (i:Int):TyOf K H (.int i) (.type "int")
 |str (x:Str):TyOf K H (.str x) (.type "str")
 |flt (x:UInt64):TyOf K H (.flt x) (.type "float")
 |lst {a:Addr}{xs:List V} (e:H a=some (.lst xs)):TyOf K H (.ref a) (.type "list")
 |frz {a:Addr}{o:Obj}{xs:List V} (e:H a=some (.frz o (.lst xs))):TyOf K H (.ref a) (.type "list")
 |tup {a:Addr}{xs:List V} (e:H a=some (.tup xs)):TyOf K H (.ref a) (.type "tuple")
 |dK {a:Addr}{kvs:List (Key×V)} (e:H a=some (.dK kvs)):TyOf K H (.ref a) (.type "dict")
 |dT {a:Addr}{kvs:List (List Key×V)} (e:H a=some (.dT kvs)):TyOf K H (.ref a) (.type "dict")
 |ins {a C dx:Addr}{fs:List (Str×V)} (e:H a=some (.ins C dx fs)) (cl:Cls K C) (ha:W.findIn K (.ref C) "__class__"=some (some (.builtin "object.__class__")))
  (hn:W.specialIn K (.builtin "object.__class__") "__get__"=some (some (.builtin "getset_descriptor.__get__"))) (htk:W.takesIn K (.builtin "object.__class__")=some true)
  (hm:W.mroIn K C (.type "object")=some true):TyOf K H (.ref a) (.ref C)
end
structure Room(k:Nat)(A:Around):Prop where
 hd:A.handled=none
 dp:A.depth+3*k+5<recursionLimit
 un:A.units+16*k+200<cLine
def Room.mono(r:Room k A)(h:j<=k):Room j A:=⟨r.hd,by have:=r.dp;omega,by have:=r.un;omega⟩
def Room.deeper(r:Room (k+1) A)(env:Env):Room k (A.deeper env):=
 ⟨r.hd,by have:=r.dp;show A.depth+1+3*k+5<_;omega,by have:=r.un;show A.units+3+16*k+200<_;omega⟩
def Room.depth(r:Room k A):A.depth<recursionLimit:=by have:=r.dp;omega
def Room.units(r:Room k A):A.units+64<cLine:=by have:=r.un;omega
def tNil:TA:=λ_ H Q=>Q [] H
def LQ(ta:TE)(tr:TA):TA:=λσ H Q=>ta σ H λx H1=>tr σ H1 λxs H2=>Q (x::xs) H2
section
variable{X:Cx}{e:Expr}{es:List Expr}{te:TE}{t:TA}{pos:Pos}
def J2:PA X [] tNil:=λ_ _ _ _ H Q I h=>Calls.spliced_nil ⟨[],H,I,.nil,h⟩
def FU(ha:PE X e te)(hr:PA X es t)(hs:starEach (e::es) X.env=(false,eval e X.env)::starEach es X.env:=by rfl):PA X (e::es) (LQ te t):=by
 intro pos pins s σ H Q I h
 rw[hs]
 show wpAny _ _ (spliced ((false,eval e X.env)::backTo pos (starEach es X.env))) _ _ s
 refine Calls.spliced_cons (thn (ha pins s σ H _ I h) λu s1 ⟨x,H1,I1,r1,q1⟩=>?_)
 exact thn (hr pos pins s1 σ H1 _ I1 q1) λus s2 ⟨xs,H2,I2,r2,q2⟩=>⟨x::xs,H2,I2,.cons r1 r2,q2⟩
def tTup(t:TA):TE:=λσ H Q=>t σ H λxs H1=>xs.length<=sizeLine/\∀p,H1 p=none->Q (.ref p) (upd H1 p (.tup xs))
def tLst(t:TA):TE:=λσ H Q=>t σ H λxs H1=>xs.length<=sizeLine/\∀p,H1 p=none->Q (.ref p) (upd H1 p (.lst xs))
def Ji{x1}(h:PA X es t):PE X (.Tuple es x1 pos) (tTup t):=by
 intro pins s σ H Q I hq
 refine wpAny_Tuple_spliced (thn (h pos pins s σ H _ I hq) λus s1 ⟨xs,H1,I1,r,z,q⟩=>⟨by rw[<- r.length];exact z,?_⟩)
 have hf:H1 s1.heap.objs.size=none:=I1.hok.fresh (Qu _)
 refine⟨.ref s1.heap.objs.size,upd H1 s1.heap.objs.size (.tup xs),I1.laid (t':=s1.toks) (λb u e=>Qz _ e) (Qu _) ?_,rfl,q _ hf⟩
 exact⟨z,us,r,⟨_,QJ _ rfl,rfl,_,rfl⟩⟩
def HX(h:PA X es t):PE X (.List es pos) (tLst t):=by
 intro pins s σ H Q I hq
 refine wpAny_List_spliced (thn (h pos pins s σ H _ I hq) λus s1 ⟨xs,H1,I1,r,z,q⟩=>⟨by rw[<- r.length];exact z,?_⟩)
 have hf:H1 s1.heap.objs.size=none:=I1.hok.fresh (Qu _)
 refine⟨.ref s1.heap.objs.size,upd H1 s1.heap.objs.size (.lst xs),I1.laid (t':=s1.toks) (λb u e=>Qz _ e) (Qu _) ?_,rfl,q _ hf⟩
 exact⟨z,us,0,r,QJ _ rfl⟩
end
abbrev Sp:=List V->Hp->VK->XK->Prop
abbrev CXT:=List Env->Hp->Shared->XK->Value->Shared->Prop
structure Env0(P:Program)(w:World)(K:W.Frag)(mg:Ua)(base:Heap)(A:Around)(outer:List Env)(s:Shared)(H:Hp):Prop where
 frames:A.frames=some outer
 mod:Mod K mg base
 bs:∀b o,base.get? b=some o->s.heap.get? b=some o/\H b=none
 bsz:base.objs.size<=s.heap.objs.size
 funs:s.heap.FunFrames base outer
 frf:∀b∈frs outer,H b=none
 hok:HOk P w H s.heap
 bare:AllBare s.gens
def CE(outer:List Env)(P:Program)(w:World)(H:Hp)(s:Shared)(Q:VK)(u:Value)(s':Shared):Prop:=
 ∃v H',s'.os=s.os/\AllBare s'.gens/\Un (frs outer) [] H H' s.heap s'.heap/\HOk P w H' s'.heap/\RelV v u/\Q v H'
def CR(CX:CXT)(outer:List Env)(P:Program)(w:World)(H:Hp)(s:Shared)(Q:VK)(E:XK)(r:Result)(s':Shared):Prop:=
 match r with
 |.ok (.ret u)=>CE outer P w H s Q u s'
 |.ok _=>False
 |.error e=>CX outer H s E e s'
structure FnOk(P:Program)(w:World)(K:W.Frag)(mg:Ua)(base:Heap)(CX:CXT)(k:Nat)(f:Addr)(fd:FuncData)(ps:List Str)(sp:Sp):Prop where
 len:∀vs H Q E,sp vs H Q E->vs.length=ps.length
 run:∀(A:Around) (outer:List Env) (s:Shared) (H:Hp) (args:Args) (us:List Value) (vs:List V) (Q:VK) (E:XK),Room k A->Env0 P w K mg base A outer s H->BindsTo s fd args (ps.zip us)->Vals vs us->sp vs H Q E->
  codeAny (model P w) A (.call (.ref f) args) (CR CX outer P w H s Q E) s
def FnOk.imp{P:Program}{w:World}{K:W.Frag}{mg:Ua}{base:Heap}{CX:CXT}{k:Nat}{f:Addr}{fd:FuncData}{ps:List Str}{sp sp':Sp}(F:FnOk P w K mg base CX k f fd ps sp)
 (h:∀vs H Q E,sp' vs H Q E->sp vs H Q E):FnOk P w K mg base CX k f fd ps sp':=
 ⟨λvs H Q E q=>F.len vs H Q E (h _ _ _ _ q),λA outer s H args us vs Q E hr he hb hv hs=>F.run A outer s H args us vs Q E hr he hb hv (h _ _ _ _ hs)⟩
section
variable{X:Cx}{pins:Ub}{σ:St}{H:Hp}{s s':Shared}
def Inv.env0(I:Inv X pins σ H s):Env0 X.prog X.w X.K X.mg X.base X.A X.stack s H:=
 ⟨I.ok.frames,I.ok.mod,I.bs,QI I.ok.bsz I.sz,I.stack,I.stkFree,I.hok,I.bare⟩
def Inv.after(I:Inv X pins σ H s)(h:CE X.stack X.prog X.w H s Q u s'):EP X pins σ Q u s':=by
 obtain⟨v,H',os,bare,un,hok,r,q⟩:=h
 obtain⟨hh,g,d,t,os'⟩:=s'
 obtain rfl:os'=s.os:=os
 exact⟨v,H',I.call (h':=hh) (g':=g) (d':=d) (t':=t) (ch:=[]) un hok bare (λb z=>absurd z (by simp)),r,q⟩
end
def Binds(K:W.Frag)(fd:FuncData)(ps:List Str)(ds:List Value):Prop:=
 ∀(s:Shared) (us:List Value),K.In s.heap->(us++ds).length=ps.length->BindsTo s fd ⟨us,[]⟩ (ps.zip (us++ds))
def Binds.all{K:W.Frag}{fd:FuncData}{ps:List Str}(h:∀us:List Value,us.length=ps.length->bindArgs fd ⟨us,[]⟩=pure (ps.zip us)):Binds K fd ps []:=λs us _ hl=>by
 rw[Q3] at hl ⊢
 exact .of_eq (h us hl)
def uF(CX:CXT)(X:Cx)(E:XK):Prop:=∀(pins:Ub) (σ:St) (H:Hp) (s:Shared) (e:Value) (s':Shared),Inv X pins σ H s->CX X.stack H s E e s'->X.xe e s'
section
variable{X:Cx}{CX:CXT}{k:Nat}{f C:Addr}{fd:FuncData}{ps:List Str}{sp:Sp}{dvs:List V}{ds:List Value}{E:XK}{x m:Str}{p pos apos:Pos}{e o:Expr}{es:List Expr}{ta:TE}{t:TA}
structure Mk(K:W.Frag)(C f:Addr):Prop where
 makes:W.makesIn K C=true
 init:W.findIn K (.ref C) "__init__"=some (some (.ref f))
 fn:W.isFn K (.ref f)=true
 kp:W.keepIn K (.ref C)=true
end
section
variable{X:Cx}{CX:CXT}{k:Nat}{f C:Addr}{fd:FuncData}{ps ks:List Str}{sp:Sp}{E:XK}{x m:Str}{p pos apos kpos:Pos}{e o:Expr}{es:List Expr}{kws:List Keyword}{te ta:TE}{t tk:TA}{nm:Option Str}
structure KBinds(K:W.Frag)(fd:FuncData)(ps ks:List Str)(g:List Value->List Value->List Value)(gV:List V->List V->List V):Prop where
 to:∀(s:Shared) (us ws:List Value),K.In s.heap->(g us ws).length=ps.length->BindsTo s fd ⟨us,ks.zip ws⟩ (ps.zip (g us ws))
 rel:∀{vs:List V}{us:List Value}{zs:List V}{ws:List Value},Vals vs us->Vals zs ws->Vals (gV vs zs) (g us ws)
variable{g:List Value->List Value->List Value}{gV:List V->List V->List V}
end
structure FnScope(N P:List Str)(sc:Scope):Prop where
 kind:sc.kind=.function
 co:sc.isCoroutine=false
 gen:sc.isGenerator=false
 nd:N.Nodup
 pre:N.take P.length=P
 par:∀x∈P,sc.names.lookup x=some .local\/sc.names.lookup x=some .cell
 nofree:∀y∈sc.names,y.2 ≠ .free
theorem rR{kindOf:Str->Option NameKind}{x:Str}:∀{binds:List (Str×Value)}{m:Ua},(∀v,(x,v)∉binds)->bindL kindOf binds m x=m x
 | [],_,_=>rfl
 |
  (n,v)::r,m,h=>by
  unfold bindL
  rw[rR λw hw=>h w (Qr _ hw)]
  split
  ·have:x≠n:=by rintro rfl;exact h v Qt
   simp [this]
  ·rfl
theorem rT{kindOf:Str->Option NameKind}{x:Str}:∀{binds:List (Str×Value)}{m:Ua},(∀v,(x,v)∉binds)->bindC kindOf binds m x=m x
 | [],_,_=>rfl
 |
  (n,v)::r,m,h=>by
  unfold bindC
  rw[rT λw hw=>h w (Qr _ hw)]
  split
  ·rfl
  ·have:x≠n:=by rintro rfl;exact h v Qt
   simp [this]
theorem rP{kindOf:Str->Option NameKind}{x:Str}{v:Value}:∀{P:List Str}{vs:List Value}{i:Nat}{m:Ua},P.Nodup->P[i]?=some x->vs[i]?=some v->kindOf x=some .local->
 bindL kindOf (P.zip vs) m x=some v
 | [],_,_,_,_,h,_,_=>by simp at h
 |_::_,[],_,_,_,_,h,_=>by simp at h
 |
  p::P,w::vs,0,m,nd,h1,h2,hk=>by
  simp at h1 h2;subst h1;subst h2
  show bindL kindOf ((p,w)::P.zip vs) m p=_
  unfold bindL
  rw[rR λv hv=>(Sk.mp nd).1 (List.of_mem_zip hv).1,if_pos hk]
  simp
 |
  p::P,w::vs,i+1,m,nd,h1,h2,hk=>by
  show bindL kindOf ((p,w)::P.zip vs) m x=_
  unfold bindL
  exact rP (i:=i) (Sk.mp nd).2 (by simpa using h1) (by simpa using h2) hk
theorem sg{kindOf:Str->Option NameKind}{x:Str}{v:Value}:∀{P:List Str}{vs:List Value}{i:Nat}{m:Ua},P.Nodup->P[i]?=some x->vs[i]?=some v->kindOf x≠some .local->
 bindC kindOf (P.zip vs) m x=some v
 | [],_,_,_,_,h,_,_=>by simp at h
 |_::_,[],_,_,_,_,h,_=>by simp at h
 |
  p::P,w::vs,0,m,nd,h1,h2,hk=>by
  simp at h1 h2;subst h1;subst h2
  show bindC kindOf ((p,w)::P.zip vs) m p=_
  unfold bindC
  rw[rT λv hv=>(Sk.mp nd).1 (List.of_mem_zip hv).1,if_neg hk]
  simp
 |
  p::P,w::vs,i+1,m,nd,h1,h2,hk=>by
  show bindC kindOf ((p,w)::P.zip vs) m x=_
  unfold bindC
  exact sg (i:=i) (Sk.mp nd).2 (by simpa using h1) (by simpa using h2) hk
def gw(N:List Str)(vs:List V):St:=vs.map some++List.replicate (N.length-vs.length) none
def fF(CX:CXT)(P:Program)(w:World)(K:W.Frag)(mg:Ua)(base:Heap)(N:List Str)(qual:Str)(scope:Scope)(f:Addr)(cd:Value)(A:Around)(outer:List Env)(s:Shared)(H:Hp)(E:XK):Cx where
 prog:=P
 w:=w
 K:=K
 mg:=mg
 base:=base
 A:=A.deeper (envOfC qual scope s.heap.objs.size f cd)
 N:=N
 s₀:=s
 H₀:=H
 env:=envOfC qual scope s.heap.objs.size f cd
 outer:=outer
 stack:=envOfC qual scope s.heap.objs.size f cd::outer
 ex:=[]
 calm:=true
 fn:=λ_=>true
 pn:=[]
 xe:=λe s'=>wpAny (model P w) (A.deeper (envOfC qual scope s.heap.objs.size f cd)) (leaving (envOfC qual scope s.heap.objs.size f cd) e) (λ_ s''=>CX outer H s E e s'') (λe' s''=>CX outer H s E e' s'') s'
def tL{sc:Scope}{n:Nat}{x:Str}(h:sc.names.lookup x=some .cell):∃c,(cellsFrom n sc.names []).lookup x=some c:=by
 have q:=W.cellsFrom_some sc.names n [] (.inl h)
 exact QW.mp q
def zu{CX:CXT}{P:Program}{w:World}{K:W.Frag}{mg:Ua}{base:Heap}{N ps:List Str}{qual:Str}{scope:Scope}{f:Addr}{cd:Value}{A:Around}{outer:List Env}{s s1:Shared}{H:Hp}{E:XK}{us:List Value}{vs:List V}
 (S:FnScope N ps scope) (hd:A.handled=none) (e0:Env0 P w K mg base A outer s H) (hl:vs.length=ps.length) (r:Vals vs us)
 (x:InCallC s s.heap.objs.size (bindL (envOfC qual scope s.heap.objs.size f cd).kindOf (ps.zip us) λ_=>none) (cellsFrom (s.heap.objs.size+1) scope.names []) (bindC (envOfC qual scope s.heap.objs.size f cd).kindOf (ps.zip us) λ_=>none) s1):
 Inv (fF CX P w K mg base N qual scope f cd A outer s H E) [] (gw N vs) H s1:=by
 have hpl:ps.length<=N.length:=by have:=Ru List.length S.pre;rw[RD] at this;omega
 obtain⟨h1,tk,rfl,hk⟩:=x.done
 have noA:∀b:Addr,b∉(fF CX P w K mg base N qual scope f cd A outer s H E).ex:=λb z=>absurd (show b∈([]:List Addr) from z) (by simp)
 refine⟨⟨e0.mod,S.kind,rfl,rfl,Qu _,λy z c h1 h2=>?_,λy hy=>?_,λy c _ h=>?_,λ_=>hd,Around.frames_deeper e0.frames,.inr ⟨rfl,rfl⟩,λb z=>absurd z (noA b),e0.bs,e0.bsz,λb _ _=>noA b,λb z=>absurd z (noA b),e0.funs,e0.frf⟩,
  rfl,e0.bare,Un.kept hk,⟨_,x.toInCall.ns,λi y v h1 h2 h3=>?_⟩,λy c h=>⟨_,x.cell y c h⟩,e0.hok.fresh (Qu _),λy c h=>?_,λp hp=>absurd (show p∈([]:Ub) from hp) (by simp),e0.hok.kept hk,?_⟩
 ·exact name_of_addr x.apart (RC h1) (RC h2)
 ·have hy:scope.names.lookup y=some .cell\/scope.names.lookup y=some .free:=hy
  rcases hy with hy |hy
  ·exact tL hy
  ·exact absurd rfl (S.nofree _ (RC hy))
 ·exact Tz (x.above y c (RC h))
 ·have hi:i<vs.length:=by
   unfold gw at h2
   by_cases hi:i<vs.length
   ·exact hi
   ·rw[QO (by simpa using hi)] at h2
    rw[Rj] at h2
    split at h2 <;> cases h2
  have ha:vs[i]?=some v:=by
   unfold gw at h2
   rw[QR (by simpa using hi),QM] at h2
   cases e:vs[i]? with
   |none=>rw[e] at h2;cases h2
   |some a=>rw[e] at h2;cases h2;rfl
  obtain⟨u,hu,rv⟩:=r.get ha
  have hp:ps[i]?=some y:=by
   rw[<- S.pre,List.getElem?_take_of_lt (by omega)];exact h1
  have ndP:ps.Nodup:=by rw[<- S.pre];exact S.nd.sublist (List.take_sublist _ _)
  refine⟨u,rv,?_⟩
  rcases S.par y (Q7 hp) with k |k
  ·exact .inl ⟨k,rP ndP hp hu k⟩
  ·obtain⟨c,e⟩:=tL (n:=s.heap.objs.size+1) k
   refine .inr ⟨.inl k,c,e,?_⟩
   have q:=x.cell y c e
   rw[sg ndP hp hu (by show scope.names.lookup y≠_;rw[k];decide)] at q
   exact q
 ·exact e0.hok.fresh (Tz (x.above y c (RC h)))
 ·unfold gw
  show _=N.length
  rw[Qw,Qp,Rr]
  omega
def Mn{CX:CXT}{P:Program}{w:World}{K:W.Frag}{mg:Ua}{base:Heap}{k:Nat}{f:Addr}{name qual:Str}{params:Arguments}{body:List Stmt}{scope:Scope}{dV kV doc pm cdv ct oc:Value}{an od:Option Addr}
 {osl:Array (Option Value)}{N ps:List Str}{sp:Sp} (lk:K.lookup f=some ⟨oc,od,.func (W.fnOf name qual params body scope dV kV doc pm an cdv ct),osl⟩) (hcd:W.codeIn K cdv qual=true) (S:FnScope N ps scope)
 (len:∀vs H Q E,sp vs H Q E->vs.length=ps.length)
 (jp:∀(A:Around) (outer:List Env) (s:Shared) (H:Hp) (vs:List V) (Q:VK) (E:XK),Room k (A.deeper (envOfC qual scope s.heap.objs.size f cdv))->sp vs H Q E->
  ∃t,PSs (fF CX P w K mg base N qual scope f cdv A outer s H E) body t/\t { nx:=λ_ H'=>Q .non H',rt:=Q } (gw N vs) H):
 FnOk P w K mg base CX (k+1) f (W.fnOf name qual params body scope dV kV doc pm an cdv ct) ps sp:=by
 refine⟨len,λA outer s H args us vs Q E hr e0 hb r hsp=>?_⟩
 have hl:=len _ _ _ _ hsp
 have KX:K.In s.heap:=e0.mod.kin.keeps λb o e=>(e0.bs b o e).1
 have lim:s.heap.NoLimit:=e0.mod.nolimit.keeps λb o e=>(e0.bs b o e).1
 have hkind:∀y∈ps.zip us,scope.names.lookup y.1=some .local\/(scope.names.lookup y.1=some .cell/\((cellsFrom (s.heap.objs.size+1) scope.names []).lookup y.1).isSome=true):=λ⟨n,v⟩ hy=>by
  rcases S.par n (List.of_mem_zip hy).1 with q |q
  ·exact .inl q
  ·exact .inr ⟨q,W.cellsFrom_some _ _ _ (.inl q)⟩
 refine codeAny_call_function hr.depth (KX _ _ lk) rfl S.co S.gen rfl (W.codeRec_of KX hcd) (hb _ _ _ _ ?_)
 refine wpAny_newFunctionEnv_cells S.kind hkind λenv he s1 x=>?_
 subst he
 refine⟨lim.keeps x.toInCall.keep,codeAny_func ?_⟩
 obtain⟨t,ht,hq⟩:=jp A outer s H vs Q E (hr.deeper _) hsp
 have I:Inv (fF CX P w K mg base N qual scope f cdv A outer s H E) [] (gw N vs) H s1:=zu S hr.hd e0 hl r x
 refine Q8 (ht [] s1 (gw N vs) H _ I hq) (λfl s' hs=>?_) λe s' hs=>hs
 have im:∀{σ':St}{H':Hp}{v:V}{u:Value},Inv (fF CX P w K mg base N qual scope f cdv A outer s H E) [] σ' H' s'->RelV v u->Q v H'->CE outer P w H s Q u s':=
  λ{σ' H' v u} J rv q=>⟨v,H',J.os,J.bare,J.base,J.hok,rv,q⟩
 cases fl with
 |
  ret u=>
  obtain⟨v,σ',H',J,rv,q⟩:=hs
  exact im J rv q
 |
  next=>
  obtain⟨σ',H',J,q⟩:=hs
  exact im (v:=V.non) (u:=Value.none) J rfl q
 |
  brk=>
  obtain⟨_,_,_,q⟩:=hs
  exact False.elim q
 |
  cont=>
  obtain⟨_,_,_,q⟩:=hs
  exact False.elim q
section
variable{X:Cx}{x:Str}{p pos:Pos}{e:Expr}{es:List Expr}{t:TA}{id T:String}{r:List V->Hp->VK->Prop}
def tCB(r:List V->Hp->VK->Prop)(t:TA):TE:=λσ H Q=>t σ H λvs H1=>r vs H1 Q
def BR(hc:CallR X (.builtin id) r)(hg:Gl X x)(hm:X.mg x=none)(hv:bootBuiltins x=some (.builtin id))(ha:PA X (e::es) t)(hn:x ≠ "__name__":=by decide)(hdb:(x==("__debug__" : Str))=false:=by decide)
 (he:starEach (e::es) X.env=(false,eval e X.env)::starEach es X.env:=by rfl) (hpl:(backTo pos (starEach es X.env)).any (·.1)=false:=by rfl):PE X (.Call (.Name x p) (e::es) [] pos) (tCB r t):=by
 intro pins s σ H Q I h
 refine S_ (jr I hg hm hv ?_ hn hdb)
 exact PyProof.Rows.callWith_builtin1 (thn (ha pos pins s σ H _ I h) λus s1 ⟨vs,H1,I1,r1,q1⟩=>hc pins s1 σ H1 vs us Q I1 r1 q1) he hpl
def AV(hc:CallR X (.type T) r)(hg:Gl X x)(hm:X.mg x=none)(hv:bootBuiltins x=some (.type T))(ha:PA X (e::es) t)(hn:x ≠ "__name__":=by decide)(hdb:(x==("__debug__" : Str))=false:=by decide)
 (he:starEach (e::es) X.env=(false,eval e X.env)::starEach es X.env:=by rfl) (hpl:(backTo pos (starEach es X.env)).any (·.1)=false:=by rfl):PE X (.Call (.Name x p) (e::es) [] pos) (tCB r t):=by
 intro pins s σ H Q I h
 refine S_ (jr I hg hm hv ?_ hn hdb)
 exact RX (thn (ha pos pins s σ H _ I h) λus s1 ⟨vs,H1,I1,r1,q1⟩=>hc pins s1 σ H1 vs us Q I1 r1 q1) he hpl
def yD(hc:CallR X (.type T) r)(hg:Gl X x)(hm:X.mg x=none)(hv:bootBuiltins x=some (.type T))(hn:x ≠ "__name__":=by decide)(hdb:(x==("__debug__" : Str))=false:=by decide):
 PE X (.Call (.Name x p) [] [] pos) (tCB r tNil):=by
 intro pins s σ H Q I h
 refine S_ (jr I hg hm hv ?_ hn hdb)
 exact PyProof.Rows.callWith_type0 (hc pins s σ H [] [] Q I .nil h)
end
end L2
namespace HT
open PySem PyProof.Rows
section
open PySem.SeqAt
open PySem.AutoSeq1 (wpAny_loadPart')
open PySem.MeetsSeq PySem.MeetsSeq2 PySem.MeetsSeq3
end
section
variable{prog:Program}{w:World}{A:Around}{E:Uc}{s:Shared}
def cat_tup(ht:IsTup s.heap t vs.toArray)(hb:IsTup s.heap b ws.toArray)(hv:vs≠[])
 (h1:ws=[]->Q (.ref t) s) (h2:ws≠[]->Q (.ref s.heap.objs.size) { s with heap:=s.heap.push { cls:=.type "tuple",data:=.seq (vs++ws).toArray } })
 (hsz:vs.length+ws.length<=sizeLine):wpAny (model prog w) A (binaryOp .Add (.ref t) (.ref b)) Q E s:=by
 obtain⟨⟨cls,dd,data,sl⟩,ho,hc,n,hd⟩:=id ht
 obtain⟨⟨cls2,dd2,data2,sl2⟩,ho2,hc2,n2,hd2⟩:=id hb
 simp only at hc hd hc2 hd2
 subst hc hd hc2 hd2
 have e:vs.toArray++ws.toArray=(vs++ws).toArray:=by simp
 by_cases hw:ws=[]
 ·exact concat_meets ⟨_,ho,rfl⟩ ⟨_,ho2,rfl⟩ noFill_tuple_add seq_tuple_add To Td (S8 _ _)
   (tuple_addW1 t b vs.toArray ws.toArray n n2 dd dd2 sl sl2 (by simpa using hv) (by simp [hw])) ⟨ho,ho2,h1 hw⟩
 ·refine concat_meets ⟨_,ho,rfl⟩ ⟨_,ho2,rfl⟩ noFill_tuple_add seq_tuple_add To Td (S8 _ _)
   (tuple_addW2 t b vs.toArray ws.toArray n n2 dd dd2 sl sl2 (by simpa using hv) (by simpa using hw) (by rw[QC,QC];exact hsz)) ⟨ho,ho2,?_⟩
  rw[e]
  exact h2 hw
noncomputable def sIx(n d:Nat):Option Int->Nat
 |none=>d
 |some v=>if v<0 then (v+(n:Int)).toNat else min v.toNat n
def sIx_none(n d:Nat):sIx n d none=d:=rfl
def sIx_nat(n d k:Nat):sIx n d (some (k:Int))=min k n:=by
 show (if (k:Int)<0 then ((k:Int)+(n:Int)).toNat else min (k:Int).toNat n)=min k n
 rw[if_neg (by omega),Q_]
def Ii(n d:Nat)(hd:d<=n)(o:Option Int):sIx n d o<=n:=by
 cases o with
 |none=>exact hd
 |
  some v=>
  show (if v<0 then (v+(n:Int)).toNat else min v.toNat n)<=n
  by_cases hv:v<0
  ·rw[if_pos hv];omega
  ·rw[if_neg hv];exact Nat.min_le_right _ _
def wO(v:Int)(n d:Nat):(if v<0 then max (v+(n:Int)) 0 else min v (n:Int))=((sIx n d (some v):Nat):Int):=by
 show (if v<0 then max (v+(n:Int)) 0 else min v (n:Int))=(((if v<0 then (v+(n:Int)).toNat else min v.toNat n):Nat):Int)
 by_cases hv:v<0
 ·simp only[if_pos hv];omega
 ·simp only[if_neg hv];omega
def yy(lo hi:Option Int)(n:Nat):Builtin.Slice.sliceAdjust lo hi 1 (n:Int)=(((sIx n 0 lo:Nat):Int),((sIx n n hi:Nat):Int)):=by
 have h1:¬ ((1:Int)<0):=by omega
 unfold Builtin.Slice.sliceAdjust
 simp only[h1,Ts]
 refine Prod.ext ?_ ?_
 ·cases lo with
  |none=>rfl
  |some v=>exact wO v n 0
 ·cases hi with
  |none=>rfl
  |some v=>exact wO v n n
def xM(i j:Nat):Builtin.Slice.slicePlaces (i:Int) (j:Int) 1=j-i:=by
 unfold Builtin.Slice.slicePlaces
 have h1:(1:Int)>0:=by omega
 simp only[h1,RR,Int.ediv_one]
 split <;> omega
noncomputable def pH(p:IsPart v o)(h:Q o s):wpAny (model prog w) A (Builtin.Slice.slicePartIndex v) Q E s:=by
 cases p with
 |none=>exact slicePart_none h
 |int i t=>exact slicePart_int h
def oK{sl:Addr}{vl vu:Value}{lo hi:Option Int}{n:Nat}{Q:Int×Int×Nat->Shared->Prop}(hs:s.heap.IsSliceOf sl vl vu .none)(pl:IsPart vl lo)(pu:IsPart vu hi)
 (h:Q (((sIx n 0 lo:Nat):Int),1,sIx n n hi-sIx n 0 lo) s):wpAny (model prog w) A (Builtin.Slice.sliceApplied (.ref sl) (pure (n:Int))) Q E s:=by
 obtain⟨os,hos,hcs,hds⟩:=id hs
 unfold Builtin.Slice.sliceApplied Builtin.Slice.sliceFields
 refine Qq (Qq (Ri hos hds (x:=vl) rfl (Qq (Ri hos hds (x:=vu) rfl (Qq (Ri hos hds (x:=.none) rfl (QE ?_)))))))
 refine Qq (slicePart_none ?_)
 show wpAny _ _ (if ((1:Int)==0)=true then _ else _) _ _ s
 rw[if_neg (by decide)]
 refine Qq (pH pl (Qq (pH pu (Qq (QE ?_)))))
 show wpAny _ _ (match Builtin.Slice.sliceAdjust lo hi 1 (n:Int) with |(lo,hi)=>pure (lo,(1:Int),Builtin.Slice.slicePlaces lo hi 1)) _ _ s
 rw[yy lo hi n]
 show wpAny _ _ (pure (((sIx n 0 lo:Nat):Int),(1:Int),Builtin.Slice.slicePlaces ((sIx n 0 lo:Nat):Int) ((sIx n n hi:Nat):Int) 1)) _ _ s
 rw[xM]
 exact QE h
def BY(xs:Array Value)(i k:Nat):((List.range k).filterMap λ(m:Nat)=>xs[((i:Int)+(m:Int)*1).toNat]?).toArray=((xs.toList.drop i).take k).toArray:=by
 have e:(λ(m:Nat)=>xs[((i:Int)+(m:Int)*1).toNat]?)=λm=>xs[i+m]?:=by
  funext m
  have:((i:Int)+(m:Int)*1).toNat=i+m:=by omega
  rw[this]
 rw[e]
 have:=pick_run xs i k
 rw[List.filterMap_map] at this
 have e2:((λx=>xs[x]?) ∘ λx=>i+x)=λm=>xs[i+m]?:=rfl
 rw[e2] at this
 rw[this]
def getItem_tuple_cut{t sl:Addr}{items:Array Value}{vl vu:Value}{lo hi:Option Int}{Q:Uc}(ht:IsTup s.heap t items)(hs:s.heap.IsSliceOf sl vl vu .none)(pl:IsPart vl lo)(pu:IsPart vu hi)
 (hw:¬ (sIx items.size 0 lo=0/\sIx items.size items.size hi=items.size))
 (h:Q (.ref s.heap.objs.size) { s with heap:=s.heap.push { cls:=.type "tuple",data:=.seq ((items.toList.drop (sIx items.size 0 lo)).take (sIx items.size items.size hi-sIx items.size 0 lo)).toArray } })
 (hsz:items.size<=sizeLine):wpAny (model prog w) A (getItem (.ref t) (.ref sl)) Q E s:=by
 have htake:sizeOk (.seq ((items.toList.drop (sIx items.size 0 lo)).take (sIx items.size items.size hi-sIx items.size 0 lo)).toArray):=by
  show ((items.toList.drop (sIx items.size 0 lo)).take (sIx items.size items.size hi-sIx items.size 0 lo)).toArray.size<=sizeLine
  rw[QC,RD,SD,TK]
  omega
 have hj:sIx items.size items.size hi<=items.size:=Ii _ _ (Qu _) hi
 obtain⟨os,hos,hcs,hds⟩:=id hs
 have hTs:s.TypeIs (.ref sl) "slice":=⟨os,hos,hcs⟩
 unfold getItem
 try with_reducible refine SO ?_
 first |refine Qq (QE ?_) |skip
 refine Qq (wpAny_sequenceKey ht.typeIs (by decide) ?_)
 refine Qq (RP (name:=Str.ofString "__getitem__") ht.typeIs PyProof.Rows.slot_tuple_getitem
  (SJ PyProof.Rows.slot_tuple_getitem ht.typeIs entry_tuple_getitem ?_ (args_tuple_getitem _ _)))
 show wpAny _ _ (Builtin.Tuple.tupleItemsOf (.ref t) >>= _) _ _ s
 refine Qq (tupleItemsOf_ ht ?_)
 refine Qq (wpAny_typeOf hTs ?_)
 rw[if_pos (by decide)]
 refine Qq (oK hs pl pu ?_)
 have hno:¬ ((((sIx items.size 0 lo:Nat):Int)==0&&(1:Int)==1&&(sIx items.size items.size hi-sIx items.size 0 lo)==items.size)=true):=by
  intro q
  rw[Qy,Qy] at q
  have q1:((sIx items.size 0 lo:Nat):Int)=0:=eq_of_beq q.1.1
  have q2:sIx items.size items.size hi-sIx items.size 0 lo=items.size:=eq_of_beq q.2
  exact hw ⟨by omega,by omega⟩
 show wpAny _ _ (if (((sIx items.size 0 lo:Nat):Int)==0&&(1:Int)==1&&(sIx items.size items.size hi-sIx items.size 0 lo)==items.size)=true then _ else _) _ _ s
 rw[if_neg hno,BY]
 first
  |exact Qq (m:=Builtin.Tuple.tupleExact _) (Rx (QE ⟨_,rfl,QE h⟩) htake)
  |exact Qq (m:=Builtin.Tuple.tupleExact _) (Rx (Qq (QE (QE ⟨_,rfl,QE h⟩))) htake)
  |exact Qq (Qq (m:=Builtin.Tuple.tupleExact _) (Rx (QE (QE ⟨_,rfl,QE h⟩)) htake))
  |exact Qq (Qq (m:=Builtin.Tuple.tupleExact _) (Rx (QE ⟨_,rfl,QE h⟩) htake))
end
end HT
namespace L2
open PySem PySem.Spec PyProof.Rows
abbrev TO:=St->Hp->(Option Int->Hp->Prop)->Prop
def PO(X:Cx)(e:Option Expr)(t:TO):Prop:=
 ∀
  (pins:Ub) (s:Shared) (σ:St) (H:Hp) (Q:Option Int->Hp->Prop),Inv X pins σ H s->t σ H Q->
  wpAny (model X.prog X.w) X.A (evalPart e X.env) (λu s'=>∃o H',Inv X pins σ H' s'/\IsPart u o/\Q o H') X.xe s
def Fx:TO:=λ_ H Q=>Q none H
def Nq(t:TE):TO:=λσ H Q=>t σ H λx H1=>∃i,x=.int i/\Q (some i) H1
section
variable{X:Cx}{e:Expr}{te:TE}{lo hi:Option Expr}{tl th:TO}{pos p2:Pos}
def FT:PO X none Fx:=by
 intro pins s σ H Q I h
 rw[evalPart_none]
 exact QE ⟨none,H,I,.none,h⟩
def Gf(h:PE X e te):PO X (some e) (Nq te):=by
 intro pins s σ H Q I hw
 rw[evalPart_some]
 refine thn (h pins s σ H _ I hw) λu s1 ⟨x,H1,I1,r1,q1⟩=>?_
 obtain⟨i,rfl,q⟩:=q1
 obtain⟨t,rfl⟩:=r1
 exact⟨some i,H1,I1,.int i t,q⟩
def SlR(X:Cx)(r:V->Option Int->Option Int->Hp->VK->Prop):Prop:=
 ∀
  (pins:Ub) (s:Shared) (σ:St) (H:Hp) (x:V) (v vl vu:Value) (lo hi:Option Int) (sl:Addr) (Q:VK),Inv X pins σ H s->RelV x v->s.heap.IsSliceOf sl vl vu .none->IsPart vl lo->IsPart vu hi->r x lo hi H Q->
  ∃T id,typeLookup (.type T) "__getitem__"=pure (some (.builtin id))/\s.TypeIs v T/\wpAny (model X.prog X.w) X.A (getItem v (.ref sl)) (EP X pins σ Q) X.xe s
def SlR.or(h:SlR X r)(h':SlR X r'):SlR X (λx lo hi H Q=>r x lo hi H Q\/r' x lo hi H Q):=by
 intro pins s σ H x v vl vu lo hi sl Q I rx hs pl pu q
 rcases q with q |q
 ·exact h pins s σ H x v vl vu lo hi sl Q I rx hs pl pu q
 ·exact h' pins s σ H x v vl vu lo hi sl Q I rx hs pl pu q
def tSl(r:V->Option Int->Option Int->Hp->VK->Prop)(te:TE)(tl th:TO):TE:=λσ H Q=>te σ H λx H1=>tl σ H1 λl H2=>th σ H2 λu H3=>r x l u H3 Q
def Dr(hr:SlR X r)(he:PE X e te)(hl:PO X lo tl)(hu:PO X hi th):PE X (.Subscript e (.Slice lo hi none p2) pos) (tSl r te tl th):=by
 intro pins s σ H Q I h
 refine Subscript_ (thn (he pins s σ H _ I h) λv s1 ⟨x,H1,I1,r1,q1⟩=>?_)
 refine wpAny_Slice (thn (hl pins s1 σ H1 _ I1 q1) λvl s2 ⟨l,H2,I2,pl,q2⟩=>thn (hu pins s2 σ H2 _ I2 q2) λvu s3 ⟨u,H3,I3,pu,q3⟩=>?_)
 rw[evalPart_none]
 refine QE ?_
 have I4:Inv X pins σ H3 { s3 with heap:=s3.heap.push { cls:=.type "slice",data:=.fields #[vl,vu,.none] } }:=I3.kept (t':=s3.toks) λb ob q=>Qz _ q
 obtain⟨T,id,hT,ht,hg⟩:=hr pins { s3 with heap:=s3.heap.push { cls:=.type "slice",data:=.fields #[vl,vu,.none] } } σ H3 x v vl vu l u s3.heap.objs.size Q I4 r1 (Heap.IsSliceOf.new ..) pl pu q3
 show wpAny (model X.prog X.w) X.A (subscriptTail e (.Slice lo hi none p2) v (.ref s3.heap.objs.size)) (EP X pins σ Q) X.xe { s3 with heap:=s3.heap.push { cls:=.type "slice",data:=.fields #[vl,vu,.none] } }
 exact tail_any (ops:=[.ref s3.heap.objs.size,v]) ht hT hg (by with_unfolding_all rfl)
def mz(xs:List V)(lo hi:Option Int):List V:=(xs.drop (HT.sIx xs.length 0 lo)).take (HT.sIx xs.length xs.length hi-HT.sIx xs.length 0 lo)
def nN(xs:List V)(lo hi:Option Int):(mz xs lo hi).length<=xs.length:=by
 unfold mz
 rw[RD,SD]
 omega
def rSlT(K:W.Frag):V->Option Int->Option Int->Hp->VK->Prop:=λx lo hi H Q=>∃a xs,x=.ref a/\SqT K H a xs/\
 ¬ (HT.sIx xs.length 0 lo=0/\HT.sIx xs.length xs.length hi=xs.length)/\∀p,H p=none->Q (.ref p) (upd H p (.tup (mz xs lo hi)))
def IE:SlR X (rSlT X.K):=by
 intro pins s σ H x v vl vu lo hi sl Q I rx hs pl pu h
 obtain⟨a,xs,rfl,hx,hw,q⟩:=h
 cases rx
 obtain⟨its,r,ht,hz⟩:=I.tuple hx
 have bi:its.toArray.size=xs.length:=by rw[QC];exact r.length.symm
 refine⟨"tuple",_,PyProof.Rows.slot_tuple_getitem.lookup,ht.typeIs,?_⟩
 refine HT.getItem_tuple_cut ht hs pl pu (by rw[bi];exact hw) ?_ (by rw[bi];exact hz)
 rw[bi]
 refine⟨.ref s.heap.objs.size,_,I.laid (t':=s.toks) (o:=.tup (mz xs lo hi)) (λb ob q=>Qz _ q) (Qu _) ?_,rfl,q _ (I.hok.fresh (Qu _))⟩
 exact⟨QI (nN xs lo hi) hz,_,(r.drop (HT.sIx xs.length 0 lo)).take (HT.sIx xs.length xs.length hi-HT.sIx xs.length 0 lo),IsTup.new _ _⟩
def nH(K:W.Frag):R2:=λx y H Q=>∃a b xs ys,x=.ref a/\y=.ref b/\SqT K H a xs/\SqT K H b ys/\xs≠[]/\xs.length+ys.length<=sizeLine/\
 (ys=[]->Q (.ref a) H)/\(ys≠[]->∀p,H p=none->Q (.ref p) (upd H p (.tup (xs++ys))))
def Vals.nil_iff(r:Vals xs us):us=[] ↔ xs=[]:=by
 cases r with
 |nil=>simp
 |cons _ _=>simp
def Fz:OpR X (binaryOp .Add) (nH X.K):=by
 intro pins s σ H x y v u Q I rx ry h
 obtain⟨a,b,xs,ys,rfl,rfl,ha,hb,hx,hz,q1,q2⟩:=h
 cases rx
 cases ry
 obtain⟨its,r1,p1,_⟩:=I.tuple ha
 obtain⟨its2,r2,p2,_⟩:=I.tuple hb
 refine HT.cat_tup p1 p2 (λz=>hx (r1.nil_iff.mp z)) (λz=>⟨.ref a,H,I,rfl,q1 (r2.nil_iff.mp z)⟩) (λz=>?_) (by rw[<- r1.length,<- r2.length];exact hz)
 refine⟨.ref s.heap.objs.size,_,I.laid (t':=s.toks) (o:=.tup (xs++ys)) (λb ob q=>Qz _ q) (Qu _) ?_,rfl,q2 (λw=>z (r2.nil_iff.mpr w)) _ (I.hok.fresh (Qu _))⟩
 exact⟨by rw[Qw];exact hz,_,r1.append r2,IsTup.new _ _⟩
end
noncomputable def ixN(n:Nat)(i:Int):Option Nat:=if 0<=i then (if i<n then some i.toNat else none) else if -(n:Int)<=i then some (i+n).toNat else none
def atI{α:Type}(xs:List α)(i:Int):Option α:=(ixN xs.length i).bind λj=>xs[j]?
def wI(h:ixN n i=some j):seqIndex? i n=some j/\j<n/\-(n:Int)<=i/\i<n:=by
 unfold ixN at h
 by_cases h0:0<=i
 ·rw[if_pos h0] at h
  by_cases h1:i<n
  ·rw[if_pos h1] at h
   have e:i.toNat=j:=QK h
   exact⟨by rw[seqIndex_of h0 h1,e],by omega,by omega,h1⟩
  ·rw[if_neg h1] at h;cases h
 ·rw[if_neg h0] at h
  by_cases h1:-(n:Int)<=i
  ·rw[if_pos h1] at h
   have e:(i+n).toNat=j:=QK h
   exact⟨by rw[seqIndex_neg (by omega) h1,e],by omega,h1,by omega⟩
  ·rw[if_neg h1] at h;cases h
def rf(h:atI xs i=some v):∃j,seqIndex? i xs.length=some j/\xs[j]?=some v/\j<xs.length/\-(xs.length:Int)<=i/\i<xs.length:=by
 unfold atI at h
 cases e:ixN xs.length i with
 |none=>rw[e] at h;cases h
 |
  some j=>
  rw[e] at h
  obtain⟨h1,h2,h3,h4⟩:=wI e
  exact⟨j,h1,h,h2,h3,h4⟩
def nD(b:Expr):Prop:=∀o i,subscripted b false o i=operate [o,i] (getItem o i)
def IxR(X:Cx)(r:R2):Prop:=
 ∀
  (value io:Expr) (pins:Ub) (s:Shared) (σ:St) (H:Hp) (x y:V) (v u:Value) (Q:VK),Inv X pins σ H s->RelV x v->RelV y u->r x y H Q->
  subscripted io false v u=operate [v,u] (getItem v u)->wpAny (model X.prog X.w) X.A (subscriptTail value io v u) (EP X pins σ Q) X.xe s
def MtR(X:Cx)(id:String)(r:V->List V->Hp->VK->Prop):Prop:=
 ∀
  (pins:Ub) (s:Shared) (σ:St) (H:Hp) (x:V) (xs:List V) (v:Value) (us:List Value) (Q:VK),Inv X pins σ H s->RelV x v->Vals xs us->r x xs H Q->
  wpAny (model X.prog X.w) X.A (call (.builtin id) (v::us)) (EP X pins σ Q) X.xe s
section
variable{X:Cx}{a b:Expr}{ta tb:TE}{pos:Pos}
def IxR.or(h:IxR X r)(h':IxR X r'):IxR X (λx y H Q=>r x y H Q\/r' x y H Q):=by
 intro value io pins s σ H x y v u Q I rx ry q hs
 rcases q with q |q
 ·exact h value io pins s σ H x y v u Q I rx ry q hs
 ·exact h' value io pins s σ H x y v u Q I rx ry q hs
def Mo(hr:IxR X r)(ha:PE X a ta)(hb:PE X b tb)(hs:nD b):PE X (.Subscript a b pos) (tOp r ta tb):=by
 intro pins s σ H Q I h
 exact Subscript_ (Ct ha hb I h λv u s2 x y H2 I2 rx ry q=>hr a b pins s2 σ H2 x y v u Q I2 rx ry q (hs _ _))
def yV(K:W.Frag):R2:=λx y H Q=>∃p xs i v,x=.ref p/\y=.int i/\SqL K H p xs/\atI xs i=some v/\Q v H
def ym(K:W.Frag):R2:=λx y H Q=>∃p xs i v,x=.ref p/\y=.int i/\SqT K H p xs/\atI xs i=some v/\Q v H
def BH:R2:=λx y H Q=>∃z i c,x=.str z/\y=.int i/\z.length<=sizeLine/\atI z.cps.toList i=some c/\Q (.str ⟨#[c]⟩) H
def EV:IxR X (yV X.K):=by
 intro value io pins s σ H x y v u Q I rx ry h hs
 obtain⟨p,xs,i,z,rfl,rfl,hq,he,q⟩:=h
 cases rx
 obtain⟨t,rfl⟩:=ry
 obtain⟨its,r,pl,hz⟩:=I.list hq
 obtain⟨j,h1,h2,h3,h4,h5⟩:=rf he
 obtain⟨w,ew,rw'⟩:=r.get h2
 have hl:=r.length
 have hn:=jJ
 have im:EP X pins σ Q w s:=⟨z,H,I,rw',q⟩
 by_cases h0:0<=i
 ·have hj:i.toNat=j:=by
   rw[seqIndex_of h0 h5] at h1
   exact QK h1
  exact item_listR pl.isList h0 (by omega) (by rw[hj];simpa using ew) im hs
 ·have hj:(i+(its.toArray.size:Int)).toNat=j:=by
   rw[seqIndex_neg (by omega) h4] at h1
   rw[QC,<- hl]
   exact QK h1
  exact subscriptTail_builtinR (x:=w) pl.isList.typeIs slot_list_getitem.lookup
   (wpAny_getItem_list_neg (Q:=λr s'=>r=w/\EP X pins σ Q r s') pl.isList (by omega) (by rw[QC] <;> omega) (by omega) (by rw[hj];simpa using ew) ⟨rfl,im⟩) hs
def Lo:IxR X (ym X.K):=by
 intro value io pins s σ H x y v u Q I rx ry h hs
 obtain⟨p,xs,i,z,rfl,rfl,hq,he,q⟩:=h
 cases rx
 obtain⟨t,rfl⟩:=ry
 obtain⟨its,r,pl,hz⟩:=I.tuple hq
 obtain⟨j,h1,h2,h3,h4,h5⟩:=rf he
 obtain⟨w,ew,rw'⟩:=r.get h2
 have hl:=r.length
 have hn:=jJ
 have im:EP X pins σ Q w s:=⟨z,H,I,rw',q⟩
 exact subscriptTail_builtinR (x:=w) pl.typeIs slot_tuple_getitem.lookup
  (getItem_tuple (j:=j) (Q:=λr s'=>r=w/\EP X pins σ Q r s') pl (by omega) (by omega) (by rw[QC,<- hl];exact h1) (by simpa using ew) ⟨rfl,im⟩) hs
def Lm:IxR X BH:=by
 intro value io pins s σ H x y v u Q I rx ry h hs
 obtain⟨z,i,c,rfl,rfl,hz,he,q⟩:=h
 obtain⟨t,rfl⟩:=rx
 obtain⟨t',rfl⟩:=ry
 obtain⟨j,h1,h2,h3,h4,h5⟩:=rf he
 have hl:z.cps.toList.length=z.length:=by simp [Str.length]
 rw[hl] at h1 h4 h5
 have hn:=jJ
 exact tail_any (typeIs_str s z t) slot_str_getitem.lookup (getItem_str (c:=c) (by
  have e1:decide (i < -(2^63:Int))=false:=QG (by omega)
  have e2:decide (i >= 2^63)=false:=QG (by omega)
  rw[e1,e2,Bool.or_false]) (by rw[h1];simpa using h2) ⟨.str ⟨#[c]⟩,H,I.tok _,⟨_,rfl⟩,q⟩) hs
def yA(its:List Value)(n j:Nat)(u:Value):Obj.mapSeq (·.setIfInBounds j u) { cls:=.type "list",data:=.seq its.toArray n }={ cls:=.type "list",data:=.seq (its.set j u).toArray n }:=by
 simp [Obj.mapSeq]
def Inv.lst(I:Inv X pins σ H s)(h:H p=some (.lst xs)):
 ∃(its:List Value) (n:Nat),Vals xs its/\s.heap.get? p=some { cls:=.type "list",data:=.seq its.toArray n }/\xs.length<=sizeLine:=by
 obtain⟨z,its,n,r,e⟩:=I.hok p _ h
 exact⟨its,n,r,e,z⟩
def Inv.lstUpd{pins:Ub}{σ:St}{H:Hp}{s:Shared}{p:Addr}{xs ys:List V}{its its':List Value}{n n':Nat}{f:Obj->Obj}(I:Inv X pins σ H s)(h:H p=some (.lst xs))
 (ho:s.heap.get? p=some { cls:=.type "list",data:=.seq its.toArray n }) (hf:f { cls:=.type "list",data:=.seq its.toArray n }={ cls:=.type "list",data:=.seq its'.toArray n' }) (r:Vals ys its') (hz:ys.length<=sizeLine) (t:Nat):
 Inv X pins σ (upd H p (.lst ys)) { s with heap:=s.heap.update p f,toks:=t }:=by
 have e:(s.heap.update p f).get? p=some { cls:=.type "list",data:=.seq its'.toArray n' }:=by
  rw[Heap.get?_update_self f ho (by rw[hf] <;> rfl),hf]
 refine I.write (x:=p) (e:=p) (by rw[h];trivial) (.inl rfl) (λb u hb q=>(Ti _ _ (Ne.symm hb)).trans q) ⟨_,e⟩ ?_
 exact⟨hz,its',n',r,e⟩
def yd:V->V->V->Hp->(Hp->Prop)->Prop:=λo i v H Q=>∃p xs k j,o=.ref p/\i=.int k/\H p=some (.lst xs)/\ixN xs.length k=some j/\Q (upd H p (.lst (xs.set j v)))
def vf:uM X yd:=by
 intro pins s σ H o i v ov iv u Q I ro ri rv h
 obtain⟨p,xs,k,j,rfl,rfl,hp,hj,q⟩:=h
 cases ro
 obtain⟨t,rfl⟩:=ri
 obtain⟨its,n,r,ho,hz⟩:=I.lst hp
 obtain⟨h1,h2,h3,h4⟩:=wI hj
 have hl:=r.length
 have hn:=jJ
 have I':Inv X pins σ (upd H p (.lst (xs.set j v))) { s with heap:=s.heap.update p (Obj.mapSeq (·.setIfInBounds j u)) }:=
  I.lstUpd hp ho (yA its n j u) (r.set rv j) (by rw[QH];exact hz) s.toks
 by_cases h0:0<=k
 ·have hk:k.toNat=j:=by
   rw[seqIndex_of h0 h4] at h1
   exact QK h1
  exact W.ki_setAt ho h0 (by omega) (by rw[QC,<- hl];exact h4) (by rw[hk];exact⟨_,I',q⟩)
 ·have hk:(k+(its.toArray.size:Int)).toNat=j:=by
   rw[seqIndex_neg (by omega) h3] at h1
   rw[QC,<- hl]
   exact QK h1
  exact W.ki_setBack ho (by omega) (by rw[QC,<- hl];exact h3) (by omega) (by rw[hk];exact⟨_,I',q⟩)
def uV(lo hi:Option Int)(n:Nat):(sliceBounds lo hi none n).1=((HT.sIx n 0 lo:Nat):Int)/\(sliceBounds lo hi none n).2.1=((HT.sIx n n hi:Nat):Int)/\(sliceBounds lo hi none n).2.2=1:=by
 refine⟨?_,?_,rfl⟩
 ·cases lo with
  |none=>simp [sliceBounds,HT.sIx]
  |
   some i=>
   simp only[sliceBounds,HT.sIx,Option.getD_none,show (1:Int)>0 by decide,RR]
   by_cases h:i<0
   ·simp only[h,RR] <;> omega
   ·simp only[h,Ts] <;> omega
 ·cases hi with
  |none=>simp [sliceBounds,HT.sIx]
  |
   some i=>
   simp only[sliceBounds,HT.sIx,Option.getD_none,show (1:Int)>0 by decide,RR]
   by_cases h:i<0
   ·simp only[h,RR] <;> omega
   ·simp only[h,Ts] <;> omega
def so(its:List Value)(lo hi:Option Int):slicePick its.toArray lo hi none=((its.drop (HT.sIx its.length 0 lo)).take (HT.sIx its.length its.length hi-HT.sIx its.length 0 lo)).toArray:=by
 obtain⟨h1,h2,h3⟩:=uV lo hi its.toArray.size
 unfold slicePick
 rw[h1,h2,h3]
 simp only[sliceRange_one,pick_run,QC] <;> rfl
def rSlL(K:W.Frag):V->Option Int->Option Int->Hp->VK->Prop:=λx lo hi H Q=>∃a xs,x=.ref a/\SqL K H a xs/\∀p,H p=none->Q (.ref p) (upd H p (.lst (mz xs lo hi)))
def E2:SlR X (rSlL X.K):=by
 intro pins s σ H x v vl vu lo hi sl Q I rx hs pl pu h
 obtain⟨a,xs,rfl,hx,q⟩:=h
 cases rx
 obtain⟨its,r,ht,hz⟩:=I.list hx
 have bi:=r.length
 refine⟨"list",_,slot_list_getitem.lookup,ht.isList.typeIs,?_⟩
 refine wpAny_getItem_list_slice ht.isList hs pl pu .none (by simp) ?_ (by rw[QC] <;> omega)
 rw[so,<- bi]
 refine⟨.ref s.heap.objs.size,_,I.laid (t':=s.toks) (o:=.lst (mz xs lo hi)) (λb ob q=>Qz _ q) (Qu _) ?_,rfl,q _ (I.hok.fresh (Qu _))⟩
 exact⟨QI (nN xs lo hi) hz,_,0,(r.drop (HT.sIx xs.length 0 lo)).take (HT.sIx xs.length xs.length hi-HT.sIx xs.length 0 lo),QJ _ rfl⟩
noncomputable def bg:V->Bool
 |.non=>true
 |.bl _=>true
 |.int _=>true
 |.str _=>true
 |_=>false
noncomputable def eqV:V->V->Bool
 |.non,.non=>true
 |.bl a,.bl b=>a==b
 |.bl a,.int b=>(if a then 1 else 0)==b
 |.int a,.bl b=>a==(if b then 1 else 0)
 |.int a,.int b=>a==b
 |.str a,.str b=>a==b
 |_,_=>false
def IS(ry:RelV y u)(rx:RelV x v)(fy:bg y=true)(fx:bg x=true):SeqAt.EqAt A s u v (eqV y x):=by
 cases y with
 |
  non=>
  cases ry
  cases x with
  |non=>cases rx;exact SeqAt.EqAt.same _
  |bl b=>cases rx;exact SeqAt.EqAt.none_bool b
  |int b=>obtain⟨t,rfl⟩:=rx;exact SeqAt.EqAt.none_int b t
  |str b=>obtain⟨t,rfl⟩:=rx;exact SeqAt.EqAt.none_str b t
  |_=>exact absurd (show false=true from fx) Qx
 |
  bl a=>
  cases ry
  cases x with
  |non=>cases rx;exact SeqAt.EqAt.bool_none a
  |bl b=>cases rx;exact SeqAt.EqAt.bool_bool a b
  |int b=>obtain⟨t,rfl⟩:=rx;exact SeqAt.EqAt.bool_int a b t
  |str b=>obtain⟨t,rfl⟩:=rx;exact SeqAt.EqAt.bool_str a b t
  |_=>exact absurd (show false=true from fx) Qx
 |
  int a=>
  obtain⟨t',rfl⟩:=ry
  cases x with
  |non=>cases rx;exact SeqAt.EqAt.int_none a t'
  |bl b=>cases rx;exact SeqAt.EqAt.int_bool a t' b
  |int b=>obtain⟨t,rfl⟩:=rx;exact SeqAt.EqAt.int_int a t' b t
  |str b=>obtain⟨t,rfl⟩:=rx;exact SeqAt.EqAt.int_str a t' b t
  |_=>exact absurd (show false=true from fx) Qx
 |
  str a=>
  obtain⟨t',rfl⟩:=ry
  cases x with
  |non=>cases rx;exact SeqAt.EqAt.str_none a t'
  |bl b=>cases rx;exact SeqAt.EqAt.str_bool a t' b
  |int b=>obtain⟨t,rfl⟩:=rx;exact SeqAt.EqAt.str_int a t' b t
  |str b=>obtain⟨t,rfl⟩:=rx;exact SeqAt.EqAt.str_str a t' b t
  |_=>exact absurd (show false=true from fx) Qx
 |_=>exact absurd (show false=true from fy) Qx
def eqU(x:V)(u:Value):Bool:=match u with
 |.none=>eqV .non x
 |.bool b=>eqV (.bl b) x
 |.int i _=>eqV (.int i) x
 |.str z _=>eqV (.str z) x
 |_=>false
def AS(r:RelV y u)(f:bg y=true):eqU x u=eqV y x:=by
 cases y with
 |non=>cases r;rfl
 |bl b=>cases r;rfl
 |int i=>obtain⟨t,rfl⟩:=r;rfl
 |str z=>obtain⟨t,rfl⟩:=r;rfl
 |_=>exact absurd (show false=true from f) Qx
theorem qg:∀{xs:List V}{us:List Value},Vals xs us->xs.all bg=true->us.any (eqU x)=xs.any λy=>eqV y x
 |_,_,.nil,_=>rfl
 |
  y::xs,u::us,.cons r t,f=>by
  rw[Sg,Qy] at f
  rw[Rw,Rw,AS r f.1,qg t f.2]
theorem oz(rx:RelV x v)(fx:bg x=true):∀{xs:List V}{us:List Value},Vals xs us->xs.all bg=true->∀u∈us,SeqAt.EqAt A s u v (eqU x u)
 |_,_,.nil,_=>λu hu=>by cases hu
 |
  y::xs,u::us,.cons r t,f=>λu' hu=>by
  rw[Sg,Qy] at f
  rcases QD.mp hu with rfl |hu
  ·rw[AS r f.1];exact IS r rx f.1 fx
  ·exact oz rx fx t f.2 u' hu
def inV(x:V)(xs:List V):Bool:=xs.any λy=>eqV y x
def rIn(K:W.Frag)(neg:Bool):R2:=λx y H Q=>∃p xs,y=.ref p/\(SqL K H p xs\/SqT K H p xs)/\bg x=true/\xs.all bg=true/\Q (.bl (if neg then !inV x xs else inV x xs)) H
def Ap:OpR X (compareOp .In) (rIn X.K false):=by
 intro pins s σ H x y v u Q I rx ry h
 obtain⟨p,xs,rfl,hq,fx,fs,q⟩:=h
 cases ry
 rcases hq with hq |hq
 ·obtain⟨its,r,pl,hz⟩:=I.list hq
  refine SeqAt.in_listAt (eqU x) pl.isList (λw hw=>oz rx fx r fs w (by simpa using hw)) ⟨.bl _,H,I,rfl,?_⟩
  rw[show its.toArray.any (eqU x)=its.any (eqU x) by simp,qg r fs]
  exact q
 ·obtain⟨its,r,pl,hz⟩:=I.tuple hq
  refine SeqAt.in_tupleAt (eqU x) pl (λw hw=>oz rx fx r fs w (by simpa using hw)) ⟨.bl _,H,I,rfl,?_⟩
  rw[show its.toArray.any (eqU x)=its.any (eqU x) by simp,qg r fs]
  exact q
def tI:CallR X (.builtin "len") (λxs H Q=>∃p ys,xs=[.ref p]/\(SqL X.K H p ys\/SqT X.K H p ys)/\Q (.int ys.length) H):=by
 intro pins s σ H xs us Q I r h
 obtain⟨p,ys,rfl,hq,q⟩:=h
 obtain⟨u,rfl,rx⟩:=jb r
 cases rx
 have hn:=jJ
 rcases hq with hq |hq
 ·obtain⟨its,r',pl,hz⟩:=I.list hq
  have bi:=r'.length
  exact Calls.call_len_list pl.isList (by simp only[QC] <;> omega) ⟨.int ys.length,H,I.tok _,⟨s.toks+1,by rw[QC,bi]⟩,q⟩
 ·obtain⟨its,r',pl,hz⟩:=I.tuple hq
  have bi:=r'.length
  exact len_tuple pl (by simp only[QC] <;> omega) ⟨.int ys.length,H,I.tok _,⟨s.toks+1,by rw[QC,bi]⟩,q⟩
def uH:CallR X (.builtin "len") (λxs H Q=>∃z,xs=[.str z]/\z.length<=sizeLine/\Q (.int z.length) H):=by
 intro pins s σ H xs us Q I r h
 obtain⟨z,rfl,hz,q⟩:=h
 obtain⟨u,rfl,t,rfl⟩:=jb r
 have hn:=jJ
 exact len_str (by omega) ⟨.int z.length,H,I.tok _,⟨_,rfl⟩,q⟩
def CallR.or(h:CallR X f r)(h':CallR X f r'):CallR X f (λxs H Q=>r xs H Q\/r' xs H Q):=by
 intro pins s σ H xs us Q I rs q
 rcases q with q |q
 ·exact h pins s σ H xs us Q I rs q
 ·exact h' pins s σ H xs us Q I rs q
def sS:CallR X (.type "tuple") (λxs H Q=>∃p ys,xs=[.ref p]/\((SqL X.K H p ys/\∀l,H l=none->Q (.ref l) (upd H l (.tup ys)))\/(SqT X.K H p ys/\Q (.ref p) H))):=by
 intro pins s σ H xs us Q I r h
 obtain⟨p,ys,rfl,h⟩:=h
 obtain⟨u,rfl,rx⟩:=jb r
 cases rx
 rcases h with ⟨hq,q⟩ |⟨hq,q⟩
 ·obtain⟨its,r',pl,hz⟩:=I.list hq
  have bi:=r'.length
  refine call_tuple_list pl.isList (λh' kp=>?_) (by simp only[QC] <;> omega)
  have I1:Inv X pins σ H { s with heap:=h' }:=I.kept (t':=s.toks) kp
  have I2:Inv X pins σ (upd H h'.objs.size (.tup ys)) { s with heap:=h'.push { cls:=.type "tuple",data:=.seq its.toArray } }:=
   I1.laid (t':=s.toks) (λb o e=>Qz _ e) (Qu _) (show ObjOk X.prog X.w _ _ _ (.tup ys) from ⟨hz,its,r',IsTup.new _ _⟩)
  exact⟨.ref h'.objs.size,_,I2,rfl,q _ (I1.hok.fresh (Qu _))⟩
 ·obtain⟨its,r',pl,hz⟩:=I.tuple hq
  exact call_tuple_same pl ⟨.ref p,H,I,rfl,q⟩
def tyV(K:W.Frag)(T:String)(x:V)(H:Hp):Prop:=match x with
 |.str _=>T="str"
 |.int _=>T="int"
 |.ref p=>(T="list" /\ ∃xs,SqL K H p xs)\/(T="tuple" /\ ∃o,K.lookup p=some o/\o.cls=.type "tuple" /\ o.dict=none)\/
  (T="dict" /\ ((∃kvs,H p=some (.dK kvs))\/∃kvs,H p=some (.dT kvs)))\/(T="set" /\ ∃S n,H p=some (.set S n))
 |_=>False
def zP(I:Inv X pins σ H s)(r:RelV x v)(ty:tyV X.K T x H):
 s.TypeIs v T/\∀a,v=.ref a->∃ob,s.heap.get? a=some ob/\ob.dict=none:=by
 cases x with
 |
  str z=>
  obtain⟨t,rfl⟩:=r
  cases (show T="str" from ty)
  exact⟨typeIs_str s z t,λ_ e=>nomatch e⟩
 |
  int i=>
  obtain⟨t,rfl⟩:=r
  cases (show T="int" from ty)
  exact⟨typeIs_int s i t,λ_ e=>nomatch e⟩
 |
  ref p=>
  cases r
  rcases ty with ⟨rfl,xs,hq⟩ |⟨rfl,o,hk,hc,hd⟩ |⟨rfl,hk⟩ |⟨rfl,S,n,hk⟩
  ·obtain⟨its,_,pl,_⟩:=I.list hq
   refine⟨pl.isList.typeIs,λa e=>?_⟩
   cases e
   obtain⟨o,n,e,c,hd,_⟩:=pl
   exact⟨o,e,hd⟩
  ·refine⟨⟨o,I.kIn p o hk,hc⟩,λa e=>?_⟩
   cases e
   exact⟨o,I.kIn _ o hk,hd⟩
  ·have z:∃o,s.heap.get? p=some o/\o.ExactDict:=by
    rcases hk with ⟨kvs,hk⟩ |⟨kvs,hk⟩
    ·obtain⟨_,_,_,_,o,_,_,e,ex,_⟩:=I.hok p _ hk
     exact⟨o,e,ex⟩
    ·obtain⟨_,_,_,_,o,_,_,e,ex,_⟩:=I.hok p _ hk
     exact⟨o,e,ex⟩
   obtain⟨o,e,ex⟩:=z
   refine⟨⟨o,e,ex.1⟩,λa e2=>?_⟩
   cases e2
   exact⟨o,e,ex.2.1⟩
  ·obtain⟨o,_,_,_,e,ex,_⟩:=I.hok p _ hk
   refine⟨⟨o,e,ex.1⟩,λa e2=>?_⟩
   cases e2
   exact⟨o,e,ex.2.1⟩
 |_=>exact False.elim ty
def tBM0(K:W.Frag)(T:String)(r:V->List V->Hp->VK->Prop)(to:TE):TE:=λσ H Q=>to σ H λx H1=>tyV K T x H1/\r x [] H1 Q
def tBM(K:W.Frag)(T:String)(r:V->List V->Hp->VK->Prop)(to:TE)(t:TA):TE:=λσ H Q=>to σ H λx H1=>tyV K T x H1/\t σ H1 λxs H2=>r x xs H2 Q
variable{o e:Expr}{es:List Expr}{to:TE}{t:TA}{name:Str}{apos cpos:Pos}{T id:String}{r:V->List V->Hp->VK->Prop}
def IF(pa:PlainAttrs T)(slot:Slot T name id)(hty:typeOf (.builtin id)=pure (.type "method_descriptor"))(hm:MtR X id r)(ho:PE X o to)
 (ge:attributeBase o name X.env (eval o X.env)=eval o X.env:=by rfl) (gl:(apos.endLine==cpos.line)=true:=by rfl):PE X (.Call (.Attribute o name apos) [] [] cpos) (tBM0 X.K T r to):=by
 intro pins s σ H Q I h
 refine wpAny_Call_method0_late ge gl (thn (ho pins s σ H _ I h) λv s1 ⟨x,H1,I1,r1,ty,q1⟩=>?_)
 obtain⟨h1,h2⟩:=zP I1 r1 ty
 exact⟨T,id,pa,slot,hty,h1,h2,Calls.callWith_builtin rfl (PySem.evalArgs_none (hm pins s1 σ H1 x [] v [] Q I1 r1 .nil q1))⟩
def D6(pa:PlainAttrs T)(slot:Slot T name id)(hty:typeOf (.builtin id)=pure (.type "method_descriptor"))(hm:MtR X id r)(ho:PE X o to)(ha:PA X (e::es) t)
 (ge:attributeBase o name X.env (eval o X.env)=eval o X.env:=by rfl)
 (hfew:((backTo cpos (starEach (e::es) X.env)).all (λx=>!x.1)&&(backToKw cpos (keywordEach [] X.env)).all (λx=>x.1.isSome)
  && decide ((e::es).length+([]:List Keyword).length+(if ([]:List Keyword).isEmpty then 0 else 1)<30))=true:=by rfl)
 (gl:(apos.endLine==cpos.line)=true:=by rfl) (hs:starEach (e::es) X.env=(false,eval e X.env)::starEach es X.env:=by rfl) (ci:(backTo cpos (starEach es X.env)).any (·.1)=false:=by rfl):
 PE X (.Call (.Attribute o name apos) (e::es) [] cpos) (tBM X.K T r to t):=by
 intro pins s σ H Q I h
 refine wpAny_Call_method_late ge hfew gl rfl (thn (ho pins s σ H _ I h) λv s1 ⟨x,H1,I1,r1,ty,q1⟩=>?_)
 obtain⟨h1,h2⟩:=zP I1 r1 ty
 refine⟨T,id,pa,slot,hty,h1,h2,?_⟩
 have hA:=ha cpos pins s1 σ H1 _ I1 q1
 rw[hs] at hA ⊢
 refine Calls.callWith_builtin (by show (false || (backTo cpos (starEach es X.env)).any (·.1))=false;rw[ci] <;> rfl) (Calls.evalArgs_plain ?_)
 exact thn hA λus s2 ⟨vs,H2,I2,r2,q2⟩=>hm pins s2 σ H2 x vs v us Q I2 r1 r2 q2
end
def MtM(X:Cx)(id:String)(r:V->List V->Hp->VK->Prop):Prop:=
 ∀
  (pins:Ub) (s:Shared) (σ:St) (H:Hp) (x:V) (xs:List V) (v:Value) (us:List Value) (Q:VK),Inv X pins σ H s->RelV x v->Vals xs us->r x xs H Q->
  wpAny (model X.prog X.w) X.A (call (.builtin id) (v::us)) (EP X pins σ Q) X.xe s
def Vals.one(r:Vals [x] us):∃u,us=[u]/\RelV x u:=by
 cases r with
 |cons r t=>cases t;exact⟨_,rfl,r⟩
theorem Vals.zero:∀{us:List Value},Vals [] us->us=[]
 |_,.nil=>rfl
noncomputable def Vals.dropLast(h:Vals xs us):Vals xs.dropLast us.dropLast:=by
 induction h with
 |nil=>exact .nil
 |
  cons r t ih=>
  cases t with
  |nil=>exact .nil
  |cons q t'=>exact .cons r ih
def yp{α:Type}(l:List α):l.eraseIdx (l.length-1)=l.dropLast:=by
 induction l with
 |nil=>rfl
 |
  cons a r ih=>
  cases r with
  |nil=>rfl
  |
   cons b r=>
   have e:(a::b::r).length-1=((b::r).length-1)+1:=by
    have h1:(a::b::r).length=r.length+2:=rfl
    have h2:(b::r).length=r.length+1:=rfl
    omega
   rw[e,List.eraseIdx_cons_succ,ih]
   all_goals rfl
section
variable{X:Cx}{pins:Ub}{σ:St}{H:Hp}{s:Shared}{l b:Addr}{xs ys zs:List V}
def Inv.lset{its its':List Value}{n:Nat}{f:Array Value->Array Value}{t':Nat}(I:Inv X pins σ H s)(hH:H l=some (.lst xs))
 (e:s.heap.get? l=some { cls:=.type "list",data:=.seq its.toArray n }) (hf:f its.toArray=its'.toArray) (hv:Vals ys its') (hz:ys.length<=sizeLine):
 Inv X pins σ (upd H l (.lst ys)) { s with heap:=s.heap.update l (Obj.mapSeq f),toks:=t' }:=by
 have q:=PySem.IsL.update e f
 rw[hf] at q
 refine I.write (x:=l) (e:=l) (by rw[hH];exact trivial) (.inl rfl) (λb' u hb hu=>(Ti s.heap (Obj.mapSeq f) (Ne.symm hb)).trans hu) ⟨_,q⟩ ?_
 exact⟨hz,its',_,hv,q⟩
def Inv.lnew(I:Inv X pins σ H s)(hv:Vals ys its)(hz:ys.length<=sizeLine):
 Inv X pins σ (upd H s.heap.objs.size (.lst ys)) { s with heap:=s.heap.push { cls:=.type "list",data:=.seq its.toArray },toks:=t' }:=
 I.laid (λ_ _ q=>Qz _ q) (Qu _) ⟨hz,its,0,hv,QJ _ rfl⟩
def Inv.fresh(I:Inv X pins σ H s):H s.heap.objs.size=none:=I.hok.fresh (Qu _)
def Inv.lstM(I:Inv X pins σ H s)(hH:H l=some (.lst xs)):xs.length<=sizeLine/\∃(its:List Value) (n:Nat),Vals xs its/\xs.length=its.length/\s.heap.get? l=some { cls:=.type "list",data:=.seq its.toArray n }:=by
 obtain⟨z,its,n,r,e⟩:=I.hok l _ hH
 exact⟨z,its,n,r,r.length,e⟩
def Cu{n:Nat}(h:n<=sizeLine):Builtin.List.listTooLong n=false:=by
 unfold Builtin.List.listTooLong
 exact QG (by omega)
end
section
variable{X:Cx}
def qP:V->List V->Hp->VK->Prop:=λx vs H Q=>∃l xs y,x=.ref l/\vs=[y]/\H l=some (.lst xs)/\xs.length<sizeLine/\Q .non (upd H l (.lst (xs++[y])))
def jK:MtM X "list.append" qP:=by
 intro pins s σ H x vs v us Q I rx rv h
 obtain⟨l,xs,y,rfl,rfl,hH,hz,q⟩:=h
 cases rx
 obtain⟨u,rfl,ru⟩:=rv.one
 obtain⟨z,its,n,r,hl,e⟩:=I.lstM hH
 refine call_meets F.slot_list_append ⟨_,e,rfl⟩ F.entry_list_append (F.args_list_append_2 _ _) (PySem.list_append l its.toArray n u (by rw[QC];omega)) ⟨e,?_⟩
 refine⟨.non,_,I.lset (its':=its++[u]) hH e (by simp) (r.append (.cons ru .nil)) ?_,rfl,q⟩
 rw[Qw,List.length_singleton]
 omega
def Cj:V->List V->Hp->VK->Prop:=λx vs H Q=>∃l xs y,x=.ref l/\vs=[]/\H l=some (.lst xs)/\xs[xs.length-1]?=some y/\Q y (upd H l (.lst xs.dropLast))
def zS:MtM X "list.pop" Cj:=by
 intro pins s σ H x vs v us Q I rx rv h
 obtain⟨l,xs,y,rfl,rfl,hH,hy,q⟩:=h
 cases rx
 have hus:=rv.zero
 subst hus
 obtain⟨z,its,n,r,hl,e⟩:=I.lstM hH
 obtain⟨u,hu,ru⟩:=r.get hy
 have hy':its.toArray[its.toArray.size-1]?=some u:=by
  show its.toArray[its.length-1]?=some u
  rw[<- Array.getElem?_toList,<- hl]
  exact hu
 refine call_meets F.slot_list_pop ⟨_,e,rfl⟩ F.entry_list_pop (F.args_list_pop_1 _) (MeetsSeq.list_pop_last l its.toArray n u hy' (by rw[QC];omega)) ⟨e,?_⟩
 refine⟨y,_,I.lset (its':=its.dropLast) hH e ?_ r.dropLast ?_,ru,q⟩
 ·show its.toArray.eraseIdxIfInBounds (its.toArray.size-1)=its.dropLast.toArray
  rw[QC,List.eraseIdxIfInBounds_toArray,yp]
 ·rw[List.length_dropLast]
  omega
def qZ:R2:=λx y H Q=>∃l b xs zs,x=.ref l/\y=.ref b/\H l=some (.lst xs)/\H b=some (.lst zs)/\xs.length+zs.length<=sizeLine/\∀p,H p=none->Q (.ref p) (upd H p (.lst (xs++zs)))
def K5:OpR X (binaryOp .Add) qZ:=by
 intro pins s σ H x y v u Q I rx ry h
 obtain⟨l,b,xs,zs,rfl,rfl,hH,hB,hz,q⟩:=h
 cases rx
 cases ry
 obtain⟨z,its,n,r,hl,e⟩:=I.lstM hH
 obtain⟨z2,its2,n2,r2,hl2,e2⟩:=I.lstM hB
 refine PySem.P.add_list e e2 ?_ (by rw[QC,QC];omega)
 have ea:its.toArray++its2.toArray=(its++its2).toArray:=by simp
 rw[ea]
 exact⟨.ref _,_,I.lnew (t':=s.toks) (r.append r2) (by rw[Qw];omega),rfl,q _ I.fresh⟩
end
section
variable{prog:Program}{w:World}{A:Around}{E:Uc}{s:Shared}
set_option maxRecDepth 100000 in
end
section
variable{X:Cx}
end
end L2
namespace Att
open PySem PySem.W PySem.Calls PyProof.Rows
def pZ:∀(ns:List Int) (vs:List Value),WellAll P h vs (ns.map WData.int)->IntsAre vs ns:=by
 intro ns
 induction ns with
 |
  nil=>
  intro vs w
  rw[QZ] at w
  cases w
  exact .nil
 |
  cons n ns ih=>
  intro vs w
  rw[Qv] at w
  cases w with
  |
   cons a b=>
   cases a
   exact .cons _ _ (ih _ b)
def zV{l:OpenLaw}{n:Nat}(hn:l.most=some n){P:Params}{h:Heap}{args:List WData}{vals:List Value}
 (hpre:l.row.toRowW.claim.pre args=true) (hwl:WellAll P h vals args):
 ∃a vs ns,vals=[Value.ref a]/\args=[WData.list (ns.map WData.int)]/\h.get? a=some { cls:=.type "list",data:=.seq vs.toArray }/\IntsAre vs ns/\ns.length<=n:=by
 have hsh:WShape.hasAll [] args [.list .int]=true:=(pre_splitW hpre).1
 have hc:l.pre.holds [] { args:=args }=true:=(pre_splitW hpre).2
 obtain⟨d,r,rfl,h1,h2⟩:=hasAllW_cons hsh
 obtain rfl:=hasAllW_nil h2
 obtain⟨xs,rfl,h3⟩:=hasW_list h1
 obtain⟨ns,rfl⟩:=items_int h3
 have bi:ns.length<=n:=by
  unfold OpenLaw.pre at hc
  have h4:(WTm.not (.lt (.lit (.int (n:Int))) (.len (.arg 0)))).holds [] { args:=[.list (ns.map .int)] }=true:=by
   have h4:=(holds_andW hc).1
   rw[hn] at h4
   exact h4
  have h5:=condW_of h4 (w_not (w_lt w_lit (w_len_list (w_arg rfl))))
  rw[Qp] at h5
  refine Nat.le_of_not_lt λq=>?_
  have q':(n:Int)<((ns.length:Nat):Int):=by omega
  first
   |(rw[QQ q'] at h5;exact absurd h5 (by decide))
   |(simp at h5;omega)
 cases hwl with
 |
  cons w1 w2=>
  cases w2
  cases w1 with
  |list ho hall=>exact⟨_,_,ns,rfl,rfl,ho,pZ ns _ hall,bi⟩
def zY(l:OpenLaw)(args:List WData):l.row.toRowW.claim.post args (.bool true) args=true:=
 postW_of (r:=l.row.toRowW) (X:=(true==true))
  (show WShape.has [] (.bool true) .bool=true by first |rfl |decide |simp [WShape.has,WShape.arms,WShape.armsAll])
  (show (WTm.eq .res (.lit (.bool true))).value [] { args:=args,res:=some (.bool true),after:=args }=some (.bool (true==true)) from w_eq_bool (w_res rfl) w_lit) rfl
def attach_call{l:OpenLaw}{n:Nat}{q:Program}{loose:List Str}{XP:(Str->Option Value)->Heap->Prop}{YP:World->Heap->Prop}{d:DefRec}
 (hn:l.most=some n) (hdf:d.params.defaults=[])
 (call:∀(w:World) (s₀ s₁:Shared) (mg mb:Ua) (fa:Addr) (o:Obj) (pm cd doc:Value) (a:Addr) (vs:List Value) (ns:List Int),
  Ground q loose [] XP w s₀ mg mb s₁.heap->YP w s₁.heap->
  s₁.heap.get? fa=some o->o.data=.func (docDef d.name d.params d.body d.scope pm cd doc)->s₁.heap.CodeRec cd d.name->mg d.name=some (.ref fa)->
  s₁.heap.get? a=some { cls:=.type "list",data:=.seq vs.toArray }->IntsAre vs ns->ns.length<=n->s₁.gens=#[]->
  codeAny (model l.prog w) callerA (.call (.ref fa) ⟨[.ref a],[]⟩) (λr s'=>r=.ok (.ret (.bool true))/\OldK s₁.heap s'.heap/\s'.os=s₁.os/\AllBare s'.gens) s₁):
 WalkO q loose XP YP l.row.toRowW d [] (λf vs=>PySem.call f vs):=by
 intro w s₀ s₁ mg mb G Y fa o pm cd doc dV kV ho hd hcd hD hmg hg args vals as hpre hlay hrd hwl hlo
 obtain rfl:dV=.none:=Dflts.none hD hdf
 obtain rfl:kV=.none:=Dflts.noKw hD
 obtain⟨a,vs,ns,rfl,rfl,hobj,hints,bi⟩:=zV hn hpre hwl
 refine enter_call (codeAny_mono (call w s₀ s₁ mg mb fa o pm cd doc a vs ns G Y ho (fd_plain hd) hcd hmg hobj hints bi hg) λr s' hq=>?_)
 obtain⟨rfl,h2,h3,h4⟩:=hq
 exact⟨.inl ⟨.bool true,.bool true,[],rfl,λ_=>rfl,.bool true,zY l _,λ_=>⟨List.Pairwise.nil,λ_ hm=>(nomatch hm)⟩⟩,h2,h3,h4⟩
section
variable{prog:Program}{w:World}{A:Around}{E:Uc}{s:Shared}{K:Frag}
noncomputable def ledger(h:Heap)(L d:Addr):List (Addr×Obj):=(List.range h.objs.size).filterMap λa=>if a=L\/a=d then none else (h.get? a).map λo=>(a,o)
end
end Att
namespace L2
open PySem PySem.Spec PyProof.Rows
theorem rN:∀{vs:List Value}{ns:List Int},IntsAre vs ns->Vals (ns.map V.int) vs
 |_,_,.nil=>.nil
 |_,_,.cons n t h=>.cons ⟨t,rfl⟩ (rN h)
def qC(H:Hp):Prop:=∀b,H b=none\/∃o xs,H b=some (.frz o (.lst xs))
def Cn{P:Program}{w:World}{K:W.Frag}{mg mb:Ua}{CX:CXT}{k:Nat}{fa a:Addr}{fd:FuncData}{x:Str}{sp:Sp}{s₁:Shared}{vs:List Value}{ns:List Int}
 (KX:K.In s₁.heap) (hns:s₁.heap.Ns mainGlobals mg) (hb:s₁.heap.Ns builtinsNs mb) (hbb:∀x:Str,x ≠ "__name__"->mb x=bootBuiltins x) (hlim:s₁.heap.NoLimit) (hg:s₁.gens=#[])
 (ha:s₁.heap.get? a=some { cls:=.type "list",data:=.seq vs.toArray }) (hi:IntsAre vs ns) (hl:ns.length<=sizeLine) (hr:Room k callerA)
 (F:∀base:Heap,K.In base->base.Ns mainGlobals mg->FnOk P w K mg base CX k fa fd [x] sp) (hbind:∀(s:Shared) (u:Value),BindsTo s fd ⟨[u],[]⟩ [(x,u)])
 (hsp:∀H:Hp,qC H->SqL K H a (ns.map V.int)->sp [.ref a] H (λv _=>v=.bl true) λ_ _ _=>False)
 (hCX:∀H e s',CX [] H s₁ (λ_ _ _=>False) e s'->False):
 codeAny (model P w) callerA (.call (.ref fa) ⟨[.ref a],[]⟩) (λr s'=>r=.ok (.ret (.bool true))/\OldK s₁.heap s'.heap/\s'.os=s₁.os/\AllBare s'.gens) s₁:=by
 have rv:=rN hi
 have lenV:=hi.length
 have core
  : ∀H:Hp,qC H->SqL K H a (ns.map V.int)->HOk P w H s₁.heap->(∀b,H b≠none->b=a)->(H a≠none->K.lookup a=none)->
  codeAny (model P w) callerA (.call (.ref fa) ⟨[.ref a],[]⟩) (λr s'=>r=.ok (.ret (.bool true))/\OldK s₁.heap s'.heap/\s'.os=s₁.os/\AllBare s'.gens) s₁:=by
  intro H hO hS hok hA hK
  have base_of:∀{b:Addr}{o:Obj},s₁.heap.get? b=some o->H b=none->(lQ s₁.heap H).get? b=some o:=λe n=>CS e n
  have noA:∀{b:Addr}{o:Obj}{es:Array DictEntry}{ep:Nat},s₁.heap.get? b=some o->o.data=.dict es ep->H b=none:=λ{b o es ep} e d=>by
   cases q:H b with
   |none=>rfl
   |
    some u=>
    have e':b=a:=hA b (by rw[q];simp)
    subst e'
    rw[ha] at e;cases e
    have d':Data.seq vs.toArray _=Data.dict es ep:=d
    cases d'
  have nsK:∀{b:Addr}{m:Ua},s₁.heap.Ns b m->(lQ s₁.heap H).Ns b m:=λ{b m} ⟨o,es,ep,e,d,r⟩=>⟨o,es,ep,base_of e (noA e d),d,r⟩
  have hKb:K.In (lQ s₁.heap H):=λb o e=>base_of (KX b o e) (by
   cases q:H b with
   |none=>rfl
   |
    some u=>
    have e':b=a:=hA b (by rw[q];simp)
    subst e'
    rw[hK (by rw[q];simp)] at e;cases e)
  have hM:Mod K mg (lQ s₁.heap H):=⟨hKb,nsK hns,⟨mb,nsK hb,hbb⟩,let ⟨mc,h1,h2⟩:=hlim;⟨mc,nsK h1,h2⟩⟩
  have e0:Env0 P w K mg (lQ s₁.heap H) callerA [] s₁ H:=⟨rfl,hM,λb o e=>EZ e,Nat.le_of_eq (Bp _ _),trivial,λb hb=>absurd (show b∈([]:List Addr) from hb) (by simp),hok,.of_eq hg⟩
  refine codeAny_mono ((F _ hKb (nsK hns)).run callerA [] s₁ H ⟨[.ref a],[]⟩ [.ref a] [.ref a] _ _ hr e0 (hbind s₁ (.ref a)) (.cons rfl .nil) (hsp H hO hS)) λr s' h=>?_
  cases r with
  |error e=>exact (hCX H e s' h).elim
  |
   ok fl=>
   cases fl with
   |next=>exact False.elim h
   |brk=>exact False.elim h
   |cont=>exact False.elim h
   |
    ret u=>
    obtain⟨v,H',os,bare,un,hok',r',q⟩:=h
    have q':v=.bl true:=q
    subst q'
    obtain rfl:u=Value.bool true:=r'
    refine⟨rfl,OldK.of_keep λb o e=>?_,os,bare⟩
    cases q:H b with
    |none=>exact un.keep b o e q (by intro z;exact absurd (show b∈([]:List Addr) from z) (by simp)) (by simp)
    |
     some u=>
     rcases hO b with z |⟨ob,xs,z⟩
     ·rw[q] at z;cases z
     ·have z2:=un.frzs b ob _ z
      obtain⟨e1,_⟩:=hok b _ z
      obtain⟨e2,_⟩:=hok' b _ z2
      rw[e] at e1;cases e1
      exact e2
 cases hk:K.lookup a with
 |
  some o=>
  have e:=KX a o hk
  rw[ha] at e
  cases e
  refine core (λ_=>none) (λ_=>.inl rfl) (.inr ⟨_,vs.toArray,_,hk,rfl,rfl,rfl,by rw[QC,lenV];exact hl,by simpa using rv⟩) (λb u z=>by have z':(none:Option HO)=some u:=z;cases z') (λb z=>absurd rfl z) λz=>absurd rfl z
 |
  none=>
  refine core (λb=>if b=a then some (.frz { cls:=.type "list",data:=.seq vs.toArray } (.lst (ns.map V.int))) else none) (λb=>?_) (.inl (.inr ⟨{ cls:=.type "list",data:=.seq vs.toArray },if_pos rfl⟩)) (λb u z=>?_) (λb z=>?_) λ_=>hk
  ·by_cases hb:b=a
   ·exact .inr ⟨_,_,if_pos hb⟩
   ·exact .inl (if_neg hb)
  ·by_cases hb:b=a
   ·have z':=(if_pos hb).symm.trans z
    cases z'
    subst hb
    exact⟨ha,by rw[Qp];exact hl,vs,_,rv,ha⟩
   ·have z':=(if_neg hb).symm.trans z
    cases z'
  ·by_cases hb:b=a
   ·exact hb
   ·exact absurd (if_neg hb) z
abbrev KOf{K:W.Frag}{h:Heap}(_:K.In h):W.Frag:=K
def walk_of{l:W.OpenLaw}{n k:Nat}{q:Program}{loose:List Str}{XP:(Str->Option Value)->Heap->Prop}{YP:World->Heap->Prop}{d:DefRec}{K:Params->W.Frag}{CX:World->CXT}{sp:World->Sp}{x:Str}
 (hn:l.most=some n) (hn2:n<=sizeLine) (hdf:d.params.defaults=[]) (hr:Room k callerA)
 (hY:∀(w:World) (h:Heap),YP w h->(K w.params).In h)
 (F:∀(w:World) (mg:Ua) (fa:Addr) (h:Heap),(K w.params).In h->h.Ns mainGlobals mg->mg d.name=some (.ref fa)->
  ∃
   fd:FuncData,(∀(s:Shared) (u:Value),BindsTo s fd ⟨[u],[]⟩ [(x,u)])/\
   ∀base:Heap,(K w.params).In base->base.Ns mainGlobals mg->FnOk l.prog w (K w.params) mg base (CX w) k fa fd [x] (sp w))
 (hsp:∀(w:World) (H:Hp) (a:Addr) (ns:List Int),ns.length<=n->qC H->SqL (K w.params) H a (ns.map V.int)->sp w [.ref a] H (λv _=>v=.bl true) λ_ _ _=>False)
 (hCX:∀(w:World) (H:Hp) (s:Shared) (e:Value) (s':Shared),CX w [] H s (λ_ _ _=>False) e s'->False):
 W.WalkO q loose XP YP l.row.toRowW d [] (λf vs=>PySem.call f vs):=by
 refine Att.attach_call hn hdf λw s₀ s₁ mg mb fa o pm cd doc a vs ns G Y ho hd hcd hmg hobj hints bi hg=>?_
 have KX:=hY w _ Y
 obtain⟨fd,hb,hF⟩:=F w mg fa _ KX G.T.g hmg
 exact Cn KX G.T.g G.T.b G.T.builtins G.T.nolimit hg hobj hints (QI bi hn2) hr hF hb (λH hO hS=>hsp w H a ns bi hO hS) λH e s'=>hCX w H s₁ e s'
noncomputable def d6(s:Stmt):Arguments:=match s with
 |.FunctionDef _ a _ _ _ _ _ _ _ _=>a
 |_=>{ posonlyargs:=[],args:=[],vararg:=none,kwonlyargs:=[],kw_defaults:=[],kwarg:=none,defaults:=[] }
noncomputable def b8(s:Stmt):List Stmt:=match s with
 |.FunctionDef _ _ b _ _ _ _ _ _ _=>b
 |_=>[]
noncomputable def aw(s:Stmt):Scope:=match s with
 |.FunctionDef _ _ _ _ _ _ sc _ _ _=>sc
 |_=>{ kind:=.function,names:=[],isGenerator:=false,isCoroutine:=false }
abbrev E0:XK:=λ_ _ _=>False
structure Fun(K:W.Frag)(x qual:Str)(st:Stmt)(f:Addr)(fd:FuncData):Prop where
 ex:∃(oc:Value) (od:Option Addr) (kV doc pm:Value) (an:Option Addr) (cdv ct:Value) (osl:Array (Option Value)),
  fd=W.fnOf x qual (d6 st) (b8 st) (aw st) .none kV doc pm an cdv ct/\K.lookup f=some ⟨oc,od,.func fd,osl⟩/\W.codeIn K cdv qual=true
 kp:W.keepIn K (.ref f)=true
section
variable{P:Program}{w:World}{K:W.Frag}{mg:Ua}{base:Heap}
def Fun.binds{x qual:Str}{st:Stmt}{f:Addr}{fd:FuncData}{ps:List Str}(F:Fun K x qual st f fd)
 (h:∀(kV doc pm:Value) (an:Option Addr) (cdv ct:Value) (us:List Value),us.length=ps.length->bindArgs (W.fnOf x qual (d6 st) (b8 st) (aw st) .none kV doc pm an cdv ct) ⟨us,[]⟩=pure (ps.zip us)):Binds K fd ps []:=by
 obtain⟨oc,od,kV,doc,pm,an,cdv,ct,osl,rfl,lk,hcd⟩:=F.ex
 exact .all (h kV doc pm an cdv ct)
def Kl{x qual:Str}{st:Stmt}{f:Addr}{oc:Value}{od an:Option Addr}{osl:Array (Option Value)}{kV doc pm cdv ct:Value}(l:K.lookup f=some ⟨oc,od,.func (W.fnOf x qual (d6 st) (b8 st) (aw st) .none kV doc pm an cdv ct),osl⟩)
 (c:W.codeIn K cdv qual=true) (k:W.keepIn K (.ref f)=true):Fun K x qual st f (W.fnOf x qual (d6 st) (b8 st) (aw st) .none kV doc pm an cdv ct):=⟨⟨oc,od,kV,doc,pm,an,cdv,ct,osl,rfl,l,c⟩,k⟩
end
def tj(hr:Room k A):A.units+1<cLine:=Sn (Nat.add_le_add_left (by decide:1<=64) _) hr.units
section
variable{X:Cx}
def pv(i:Nat)(hN:X.N[i]?=some x:=by rfl)(hv:Vis X.env.scope x:=by first |exact Or.inl rfl |exact Or.inr (Or.inl rfl) |exact Or.inr (Or.inr rfl))(hd:(x==("__debug__" : Str))=false:=by decide)
 (hcd:(x==("__classdict__" : Str))=false:=by decide):PE X (.Name x pos) (tVar i):=A4 hN hv hd hcd
end
section
variable{X:Cx}{pins:Ub}{σ:St}{H:Hp}{s:Shared}
def Inv.track{a:Addr}{o:HO}(I:Inv X pins σ H s)(hn:H a=none)(h0:X.s₀.heap.get? a=none)(hL:a≠X.env.locals)(hc:∀x c,X.env.cells.lookup x=some c->c≠a)
 (hp:∀p∈X.pn++pins,p.1≠a) (new:ObjOk X.prog X.w (upd H a o) s.heap a o):Inv X pins σ (upd H a o) s:=by
 have ne:∀b u,H b=some u->b≠a:=λb u e z=>by rw[z,hn] at e;cases e
 have ne0:∀b u,X.s₀.heap.get? b=some u->b≠a:=λb u e z=>by rw[z,h0] at e;cases e
 refine⟨I.ok,I.os,I.bare,⟨I.base.keep,I.base.slot,λb u e n hx=>?_,I.base.there,λb xs e=>?_,λb u xs e=>?_,λb ps e=>?_⟩,I.loc,I.cell,?_,λx c e=>?_,λp hp'=>?_,λb u e=>?_,I.len⟩
 ·rw[aR (ne0 b u e)];exact I.base.free b u e n hx
 ·have q:=I.base.tups b xs e
  rw[aR (ne _ _ q)];exact q
 ·have q:=I.base.frzs b u xs e
  rw[aR (ne _ _ q)];exact q
 ·obtain⟨m,q⟩:=I.base.tbls b ps e
  exact⟨m,by rw[aR (ne _ _ q)];exact q⟩
 ·rw[aR (Ne.symm hL)];exact I.free
 ·rw[aR (hc x c e)];exact I.freeC x c e
 ·obtain⟨e,n,r⟩:=I.pin p hp'
  exact⟨e,by rw[aR (hp p hp')];exact n,r⟩
 ·by_cases hb:b=a
  ·subst hb;rw[bR] at e;cases e;exact new
  ·rw[aR hb] at e
   exact (I.hok b u e).stay (λc v _ q=>q) (λc q=>by rw[aR (ne _ _ q)];exact q) λc xs q=>by rw[aR (ne _ _ q)];exact q
end
theorem lT{env:Env}:∀{names:List (Str×NameKind)} (cs:List (Str×Addr)),(∀x∈names,x.2=.free->∃c,env.cells.lookup x.1=some c)->(∀x c,cs.lookup x=some c->env.cells.lookup x=some c)->
 ∃
  cl,(forIn names cs λ(x:Str×NameKind) (r:List (Str×Addr))=>if (x.2==NameKind.free)=true then do let a <- cellOf env x.1;pure (ForInStep.yield ((x.1,a)::r)) else pure (ForInStep.yield r):Sem (List (Str×Addr)))=pure cl/\
  (∀x c,cl.lookup x=some c->env.cells.lookup x=some c)/\(∀x c,cs.lookup x=some c->∃c',cl.lookup x=some c')/\∀x∈names,x.2=.free->∃c,cl.lookup x.1=some c
 | [],cs,_,h=>⟨cs,by simp,h,λx c e=>⟨c,e⟩,λ_ hx=>nomatch hx⟩
 |
  (n,k)::r,cs,hf,h=>by
  rw[List.forIn_cons]
  by_cases hk:k=.free
  ·subst hk
   obtain⟨c,hc⟩:=hf (n,.free) Qt rfl
   have hcell:cellOf env n=pure c:=by unfold cellOf;rw[hc]
   have h':∀x d,((n,c)::cs).lookup x=some d->env.cells.lookup x=some d:=λx d e=>by
    rw[R_] at e
    cases q:x==n with
    |true=>rw[q] at e;cases e;rw[SH.mp q];exact hc
    |false=>rw[q] at e;exact h x d e
   obtain⟨cl,e1,e2,e3,e4⟩:=lT (env:=env) (names:=r) ((n,c)::cs) (λx hx=>hf x (Qr _ hx)) h'
   have top:∃c',cl.lookup n=some c':=e3 n c (by rw[R_];simp)
   refine⟨cl,?_,e2,λx d e=>?_,λx hx hfr=>?_⟩
   ·simp only[SI,RR,hcell]
    exact e1
   ·by_cases q:x=n
    ·rw[q];exact top
    ·exact e3 x d (by rw[R_,(QN.mpr q:(x==n)=false)];exact e)
   ·rcases QD.mp hx with rfl |hx
    ·exact top
    ·exact e4 x hx hfr
  ·have hb:(k==NameKind.free)=false:=by simpa using hk
   obtain⟨cl,e1,e2,e3,e4⟩:=lT (env:=env) (names:=r) cs (λx hx=>hf x (Qr _ hx)) h
   refine⟨cl,?_,e2,e3,λx hx hfr=>?_⟩
   ·simp only[hb,Si,Ts]
    exact e1
   ·rcases QD.mp hx with rfl |hx
    ·exact absurd hfr hk
    ·exact e4 x hx hfr
def sA{env:Env}{scope:Scope}(hf:∀x∈scope.names,x.2=.free->∃c,env.cells.lookup x.1=some c):
 ∃cl,closureFor scope env=pure cl/\(∀x c,cl.lookup x=some c->env.cells.lookup x=some c)/\∀x∈scope.names,x.2=.free->∃c,cl.lookup x.1=some c:=by
 obtain⟨cl,e1,e2,_,e4⟩:=lT (env:=env) (names:=scope.names) [] hf (λx c e=>by simp at e)
 refine⟨cl,?_,e2,e4⟩
 unfold closureFor
 simp only[e1]
 rfl
def bD(X:Cx)(N:List Str)(scope:Scope)(cl:List (Str×Addr))(C:Addr)(s₂:Shared)(H:Hp)(fp:List Addr):Cx:=
 { X with N:=N,s₀:=s₂,H₀:=H,env:=compEnvC scope cl C X.env,outer:=X.stack,stack:=X.stack,ex:=fp,fn:=λ_=>false,pn:=[],xe:=λ_ _=>False }
def ie(sub:Ud)(σ:St):St:=sub.map λo=>o.bind λi=>(σ[i]?).bind id
def LcW(J:It)(sub:Ud)(g:TG)(tc:TT)(te:TE)(σ:St)(H1:Hp)(Q:VK):Prop:=∃W:Nat->Nat->List V->St->Hp->Prop,(∃m,W 0 m [] (ie sub σ) H1)/\∀i m ys σ H,W i m ys σ H->
 (J.stop i H/\ys.length<=sizeLine/\∀D,H D=none->Q (.ref D) (upd H D (.lst ys)))\/
 (J.go i H/\ys.length<sizeLine/\∃Nx:List V->St->Hp->Prop,(∀ys' σ' H',Nx ys' σ' H'->∃m',m'<m/\W (i+1) m' ys' σ' H')/\
  ∀x H',J.yld i H x H'->g x σ H' λσ2 H2=>tc σ2 H2 λb H3=>if b=true then te σ2 H3 λy H4=>Nx (ys++[y]) σ2 H4 else Nx ys σ2 H3)
def lq(wi:TI)(sub:Ud)(g:TG)(tc:TT)(te:TE):TE:=λσ H Q=>wi σ H λJ H1=>LcW J sub g tc te σ H1 Q
abbrev B0:TT:=λ_ H Q=>Q true H
section
variable{prog:Program}{w:World}{A:Around}{R:Result->Shared->Prop}{s:Shared}
def uX{li target am:Expr}{ifs:List Expr}{scope:Scope}{pos:Pos}{it acc:Value}{env:Env}(I:Nat->Shared->Prop)
 (turn
  : ∀n s,I n s->wpAny (model prog w) A (pyNext it) (λr s₁=>match r with
  |none=>R (.ok .next) s₁
  |some v=>wpAny (model prog w) A (letOwnedTupleGo target it v) (λ_ s₁'=>wpAny (model prog w) A (assign target env v) (λ_ s₂=>
   wpAny (model prog w) A (forIn ifs true λc r=>if r=true then do let ok <- isTrue c env (eval c env);pure (ForInStep.yield ok) else pure (ForInStep.yield r))
    (λok s₃=>if ok=true then wpAny (model prog w) A (eval li env) (λx s₄=>wpAny (model prog w) A (call (.builtin "list.append") [acc,x]) (λ_ s₅=>∃m,m<n/\I m s₅) (λ_ _=>False) s₄) (λ_ _=>False) s₃
     else ∃m,m<n/\I m s₃) (λ_ _=>False) s₂) (λ_ _=>False) s₁') (λ_ _=>False) s₁) (λ_ _=>False) s)
 (n:Nat) (h:I n s):
 codeAny (model prog w) A (.compLoop (.ListComp li [⟨target,am,ifs,0⟩] scope pos) 0 it acc env) R s:=by
 refine codeAny_loop rfl I (λn s hI=>?_) n h
 show wpAny _ _ ((compTurn (.ListComp li [⟨target,am,ifs,0⟩] scope pos) 0 it acc env).onRaise (λx=>do noteFrame x env;theTreesLotGoes x)) _ _ s
 refine wpAny_noted ?_
 rw[compTurn_list]
 refine Q8 (E:=λ_ _=>False) ?_ (λ_ _ q=>q) λ_ _ q=>q.elim
 refine Qq (TU (Qq (Q8 (turn n s hI) (λr s₁ h₁=>?_) λ_ _ h'=>h')))
 cases r with
 |none=>exact QE h₁
 |
  some v=>
  refine Qq (Q8 h₁ (λ_ s₁' h₁'=>?_) λ_ _ h'=>h')
  refine Qq (Q8 h₁' (λ_ s₂ h₂=>?_) λ_ _ h'=>h')
  refine Qq (Q8 h₂ (λok s₃ h₃=>?_) λ_ _ h'=>h')
  cases ok with
  |
   true=>
   simp only[RR] at h₃ ⊢
   refine Qq (Qq (Q8 h₃ (λx s₄ h₄=>?_) λ_ _ h'=>h'))
   refine Qq (Q8 h₄ (λ_ s₅ h₅=>?_) λ_ _ h'=>h')
   exact QE (QE ⟨rfl,h₅⟩)
  |
   false=>
   simp only[Si,Ts] at h₃ ⊢
   first
    |exact Qq (QE (QE ⟨rfl,h₃⟩))
    |exact QE ⟨rfl,h₃⟩
end
section
variable{X:Cx}
def PTs(X:Cx)(ifs:List Expr)(t:TT):Prop:=
 ∀
  (pins:Ub) (s:Shared) (σ:St) (H:Hp) (Q:Bool->Hp->Prop),Inv X pins σ H s->t σ H Q->
  wpAny (model X.prog X.w) X.A (forIn ifs true λc r=>if r=true then do let ok <- isTrue c X.env (eval c X.env);pure (ForInStep.yield ok) else pure (ForInStep.yield r)) (TP X pins σ Q) X.xe s
def wU:PTs X [] (λ_ H Q=>Q true H):=λpins s σ H Q I h=>by
 rw[List.forIn_nil]
 exact QE ⟨H,I,h⟩
structure LcEnd(X:Cx)(pins:Ub)(σ:St)(Q:VK)(D C:Addr)(s4:Shared):Prop where
 ns:∃m,s4.heap.Ns C m
 dc:D<C
 fr:X.env.locals<D
 cell:∀x c,X.env.cells.lookup x=some c->c<D
 pin:∀p∈X.pn++pins,p.1<D
 sz:X.s₀.heap.objs.size<=D
 inv:∃H',H' C=none/\Q (.ref D) H'/\∀h',Heap.SameBut C s4.heap h'->Inv X pins σ H' { s4 with heap:=h' }
def wB{li am tg:Expr}{ifs:List Expr}{scope:Scope}{pos:Pos}{wi:TI}{g:TG}{tc:TT}{te:TE}{N:List Str}{sub:Ud}{use:Option (Value->Sem Unit)}{R:Uc}{pins:Ub}{s:Shared}{σ:St}{H:Hp}{Q:VK}{fpos:Pos}
 (hc:X.calm=true) (hi:PI X tg am wi)
 (hk:scope.kind=.function) (hnc:∀x∈scope.names,x.2 ≠ .cell) (bn:∀x∈scope.names,x.2=.local->scope.names.lookup x.1=some .local)
 (hfr:∀x∈scope.names,x.2=.free->X.env.kindOf x.1=some .cell\/X.env.kindOf x.1=some .free)
 (hsl:sub.length=N.length) (ii:∀(j i:Nat) (x:Str),sub[j]?=some (some i)->N[j]?=some x->X.N[i]?=some x/\scope.names.lookup x=some .free)
 (hg:∀cl C s₂ H fp,PG (bD X N scope cl C s₂ H fp) tg g) (ht:∀cl C s₂ H fp,PTs (bD X N scope cl C s₂ H fp) ifs tc) (he:∀cl C s₂ H fp,PE (bD X N scope cl C s₂ H fp) li te)
 (hs:∀x,foldedSetIterable am X.env x=pure x) (I:Inv X pins σ H s) (h:lq wi sub g tc te σ H Q)
 (im:∀D C s4,LcEnd X pins σ Q D C s4->compPost (model X.prog X.w) X.A X.xe use R (.ref D) C (.ok .next) s4):
 wpAny (model X.prog X.w) X.A (comprehension (.ListComp li [⟨tg,am,ifs,0⟩] scope pos) scope X.env fpos (newList []) false (eval am X.env) use) R X.xe s:=by
 obtain⟨cl,hclos,hcl,hclf⟩:=sA (env:=X.env) (scope:=scope) λx hx hf=>I.ok.has x.1 (hfr x hx hf)
 refine wpAny_comprehension_free rfl hs hclos hk bn ?_
 show wpAny _ _ (eval am X.env) _ _ _
 refine thn (hi pins s σ H _ I h) λv s1 h1=>thn h1 λitv s2 h2=>?_
 obtain⟨it,fp,tn,J,H2,e,I2,T,st2,f2,W,⟨m0,w0⟩,turn⟩:=h2
 subst e
 refine Rx (wpAny_newFunctionEnv hnc (by intro y hy;simp at hy) (λh₁ hns₁ hsb₁=>?_) hk)
 dsimp only at hns₁ hsb₁ ⊢
 generalize hH2:s2.heap.push { cls:=.type "list",dict:=none,data:=.seq ([]:List Value).toArray }=G2 at hns₁ hsb₁ ⊢
 have hC:G2.objs.size=s2.heap.objs.size+1:=by rw[<- hH2,R9]
 have hDC:s2.heap.objs.size≠G2.objs.size:=by omega
 have below:∀b,b<s2.heap.objs.size->b≠G2.objs.size/\b≠s2.heap.objs.size:=λb hb=>⟨by omega,by omega⟩
 have old:∀b o,s2.heap.get? b=some o->h₁.get? b=some o:=λb o e=>hsb₁.extBut b o (below b (QA e)).1 (Qz _ (hH2 ▸ Qz _ e))
 have hD₁:h₁.get? s2.heap.objs.size=some { cls:=.type "list",dict:=none,data:=.seq ([]:List Value).toArray }:=hsb₁.extBut _ _ hDC (Qz _ (hH2 ▸ QJ _ rfl))
 have fresh:∀a,s2.heap.objs.size<=a->s2.heap.get? a=none:=λa ha=>Tu ha
 have cellOld:∀x c,cl.lookup x=some c->c<s2.heap.objs.size:=λx c e=>by
  obtain⟨v,z⟩:=I2.cell x c (hcl x c e)
  exact z.lt
 have fpOld:∀b∈fp,b<s2.heap.objs.size:=λb hb=>by
  obtain⟨o,e,_⟩:=T.obj _ _ st2 b hb
  exact QA e
 let Y:Cx:=bD X N scope cl G2.objs.size s2 H2 fp
 have okY:Y.Ok
  := by
  refine⟨I2.ok.mod,?_,I2.ok.glob,I2.ok.blt,?_,λx y c e1 e2=>I2.ok.inj x y c (hcl x c e1) (hcl y c e2),λx hx=>?_,λx c hfn _=>absurd hfn Qx,I2.ok.hd,I2.ok.frames,.inl rfl,
   λb hb=>⟨?_,λx c e z=>?_⟩,I2.bs,QI I2.ok.bsz I2.sz,λb o e hb=>?_,λb hb hf=>?_,I2.stack,I2.stkFree⟩
  ·show (relabel scope X.env).kind=.function
   exact hk
  ·show s2.heap.objs.size<=G2.objs.size
   omega
  ·have hx':(
    relabel scope X.env).names.lookup x=some .cell\/(relabel scope X.env).names.lookup x=some .free:=hx
   have:∃k,
    (x,k)∈scope.names/\k=.free:=by
    have gen:∀(names:List (Str×NameKind)),(∀y∈names,y.2 ≠ .cell)->∀kk,(kk=NameKind.cell\/kk=NameKind.free)->(names.map λ(n,k)=>if (k==NameKind.free&&X.env.scope.kind == .function&&X.env.kindOf n==some .cell) then (n,NameKind.cell) else (n,k)).lookup x=some kk->∃k,(x,k)∈names/\k=.free:=by
     intro names
     induction names with
     |nil=>intro _ kk _ e;simp at e
     |
      cons y r ih=>
      intro hn kk hkk e
      obtain⟨n,k⟩:=y
      rw[Qv,R_] at e
      by_cases hkf:k=.free
      ·subst hkf
       by_cases hxn:x=n
       ·exact⟨.free,by rw[hxn];exact Qt,rfl⟩
       ·have hb:(x==(if (NameKind.free==NameKind.free&&X.env.scope.kind == .function&&X.env.kindOf n==some .cell)=true then (n,NameKind.cell) else (n,NameKind.free)).1)=false:=by
         split <;> exact QN.mpr hxn
        rw[hb] at e
        obtain⟨k',m,q⟩:=ih (λz hz=>hn z (Qr _ hz)) kk hkk e
        exact⟨k',Qr _ m,q⟩
      ·have hb0:(k==NameKind.free&&X.env.scope.kind == .function&&X.env.kindOf n==some .cell)=false:=by
        have:(k==NameKind.free)=false:=by simpa using hkf
        rw[this];rfl
       rw[hb0] at e
       simp only[Si,Ts] at e
       cases q:x==n with
       |
        true=>
        rw[q] at e
        have e':k=kk:=QK e
        subst e'
        rcases hkk with z |z
        ·exact absurd z (hn (n,k) Qt)
        ·exact absurd z hkf
       |
        false=>
        rw[q] at e
        obtain⟨k',m,q⟩:=ih (λz hz=>hn z (Qr _ hz)) kk hkk e
        exact⟨k',Qr _ m,q⟩
    rcases hx' with z |z
    ·exact gen scope.names hnc _ (.inl rfl) z
    ·exact gen scope.names hnc _ (.inr rfl) z
   obtain⟨k,m,q⟩:=this
   exact hclf (x,k) m q
  ·show b≠G2.objs.size
   exact (below b (fpOld b hb)).1
  ·exact (f2 b hb).2.2.2.2.1 x c (hcl x c e) z
  ·rcases (f2 b hb).2.2.2.1 with z |z
   ·exact I2.ok.noex b o e z
   ·exact absurd (QL (QA e) (QI I2.ok.bsz z)) (Rl _)
  ·have hf':b∈frs X.stack:=hf
   rcases QD.mp (I2.stkSub b hf') with z |z
   ·exact (f2 b hb).2.1 z
   ·exact (f2 b hb).2.2.1 z
 have startLoc
  : ∃m,h₁.Ns G2.objs.size m/\∀(i:Nat) (x:Str) (v:V),N[i]?=some x->(ie sub σ)[i]?=some (some v)->Vis (relabel scope X.env) x->∃u,RelV v u/\Look Y.env h₁ m x u:=by
  refine⟨_,hns₁,λj x v e1 e2 e3=>?_⟩
  unfold ie at e2
  rw[QM] at e2
  cases q:sub[j]? with
  |none=>rw[q] at e2;cases e2
  |
   some o=>
   rw[q] at e2
   cases o with
   |none=>cases e2
   |
    some i=>
    obtain⟨hNi,hfree⟩:=ii j i x q e1
    have e2':(σ[i]?).bind id=some v:=QK e2
    have e2'':σ[i]?=some (some v):=by
     cases z:σ[i]? with
     |none=>rw[z] at e2';cases e2'
     |some y=>rw[z] at e2';rw[show y=some v from e2']
    obtain⟨m2,hn2,hl2⟩:=I2.loc
    have hkx:=hfr (x,.free) (RC hfree) rfl
    obtain⟨u,r,l⟩:=hl2 i x v hNi e2'' (by rcases hkx with z |z;exact .inr (.inl z);exact .inr (.inr z))
    refine⟨u,r,.inr ⟨?_,?_⟩⟩
    ·rcases e3
      with z |z |z
     ·exfalso
      have gen:∀(names:List (Str×NameKind)),names.lookup x=some .free->(names.map λ(n,k)=>if (k==NameKind.free&&X.env.scope.kind == .function&&X.env.kindOf n==some .cell) then (n,NameKind.cell) else (n,k)).lookup x=some .local->False:=by
       intro names
       induction names with
       |nil=>intro e _;simp at e
       |
        cons y r ih=>
        intro e1 e2
        obtain⟨n,k⟩:=y
        rw[R_] at e1
        rw[Qv,R_] at e2
        by_cases hxn:x=n
        ·have hb1:(x==n)=true:=SH.mpr hxn
         rw[hb1] at e1
         have:k=.free:=QK e1
         subst this
         split at e2
         ·rename_i hq
          split at e2 <;> cases e2
         ·rename_i hq
          split at hq <;> (rw[hb1] at hq;cases hq)
        ·have hb1:(x==n)=false:=QN.mpr hxn
         rw[hb1] at e1
         refine ih e1 ?_
         split at e2
         ·rename_i hq
          split at hq <;> (rw[hb1] at hq;cases hq)
         ·exact e2
      exact gen scope.names hfree z
     ·exact .inl z
     ·exact .inr z
    ·obtain⟨c,hc'⟩:=hclf (x,.free) (RC hfree) rfl
     refine⟨c,hc',?_⟩
     rcases l with ⟨k,_⟩ |⟨_,c2,ec2,z⟩
     ·rcases hkx with z |z <;> (rw[k] at z;cases z)
     ·have:=hcl x c hc'
      rw[ec2] at this
      cases this
      obtain⟨oc,hoc,hd⟩:=z
      exact⟨oc,old _ _ hoc,hd⟩
 have pinD:∀{σ':St}{H':Hp}{s':Shared}{pl:Ub}{o:Obj},Inv Y pl σ' H' s'->s'.heap.get? s2.heap.objs.size=some o->(∀v,o.data ≠ .cell v)->H' s2.heap.objs.size=none->Inv Y [(s2.heap.objs.size,o)] σ' H' s':=λ{σ' H' s' pl o} IY e d n=>
  IY.pins_of λp hp=>by
   have e':p=(s2.heap.objs.size,o):=by simpa using hp
   subst e'
   refine⟨e,n,?_,?_,d⟩
   ·show s2.heap.objs.size≠G2.objs.size
    omega
   ·intro hf
    have hf':s2.heap.objs.size∈frs X.stack:=hf
    obtain⟨_,o',ho',_⟩:=I2.stack.mem hf'
    exact absurd (QA ho') (Rl _)
 have fpY:∀{H':Hp}{pl:Ub},(∀b∈fp,H' b=none)->(∀p∈pl,p.1∉fp)->∀b∈fp,FpOk Y pl H' b:=λ{H' pl} hn hp b hb=>by
  refine⟨hn b hb,?_,?_,.inl hb,λx c e=>?_,λp hp'=>?_⟩
  ·exact (okY.exf b hb).1
  ·exact okY.exfs b hb
  ·exact (okY.exf b hb).2 x c e
  ·intro z
   have hp'':p∈pl:=by simpa [Y,bD] using hp'
   exact hp p hp'' (by rw[z];exact hb)
 have hDfp:s2.heap.objs.size∉fp:=λz=>Rl _ (fpOld _ z)
 have loop
  : ∀s₃:Shared,s₃={ s2 with heap:=h₁,toks:=s2.toks+([]:List (Str×Value)).length }->
  codeAny (model X.prog X.w) X.A (.compLoop (.ListComp li [⟨tg,am,ifs,0⟩] scope pos) 0 (.ref it) (.ref s2.heap.objs.size) (compEnvC scope cl G2.objs.size X.env))
   (compPost (model X.prog X.w) X.A X.xe use R (.ref s2.heap.objs.size) G2.objs.size) s₃:=by
  rintro s₃ rfl
  have IY0:Inv Y [(s2.heap.objs.size,{ cls:=.type "list",dict:=none,data:=.seq ([]:List Value).toArray })] (ie sub σ) H2 { s2 with heap:=h₁,toks:=s2.toks+([]:List (Str×Value)).length }:=by
   have J0:Inv Y [] (ie sub σ) H2 { s2 with heap:=h₁,toks:=s2.toks+([]:List (Str×Value)).length }:=by
    refine⟨okY,rfl,I2.bare,Un.kept old,startLoc,λx c e=>?_,I2.hok.fresh (by show s2.heap.objs.size<=G2.objs.size;omega),λx c e=>I2.freeC x c (hcl x c e),λp hp=>absurd (show p∈([]:Ub) from hp) (by simp),I2.hok.kept old,?_⟩
    ·obtain⟨v,oc,hoc,hd⟩:=I2.cell x c (hcl x c e)
     exact⟨v,oc,old _ _ hoc,hd⟩
    ·show (ie sub σ).length=N.length
     unfold ie
     rw[Qp];exact hsl
   exact pinD J0 hD₁ (λv z=>by cases z) I2.fresh
  refine uX (λn s'=>∃(i:Nat) (ys:List V) (its:List Value) (k:Nat) (σ':St) (H':Hp),Inv Y [(s2.heap.objs.size,{ cls:=.type "list",dict:=none,data:=.seq its.toArray k })] σ' H' s'/\Vals ys its/\tn i s'.heap/\(∀b∈fp,H' b=none)/\W i n ys σ' H') ?_ m0
   ⟨0,[],[],0,ie sub σ,H2,IY0,.nil,T.keep _ _ _ st2 (λb hb o e=>old b o e),λb hb=>(f2 b hb).1,w0⟩
  rintro n s3 ⟨i,ys,its,k,σ3,H3,I3,rv,st3,fr3,w3⟩
  have npl:∀(o:Obj),∀p∈[(s2.heap.objs.size,o)],p.1∉fp:=λo p hp=>by
   have e':p=(s2.heap.objs.size,o):=by simpa using hp
   subst e'
   exact hDfp
  rcases turn i n ys σ3 H3 w3 with ⟨stop,hz,qn⟩ |⟨go,hz,Nx,hNx,step⟩
  ·refine Q8 (T.done Y rfl rfl rfl hc i _ s3 σ3 H3 (λ_ _=>False) I3 (fpY fr3 (npl _)) st3 stop) (λr s4 ⟨hr,I4⟩=>?_) λ_ _ z=>z
   subst hr
   obtain⟨m4,hn4,_⟩:=I4.loc
   have hCfree:H3 G2.objs.size=none:=I4.free
   have hD4:=I4.pin (s2.heap.objs.size,{ cls:=.type "list",dict:=none,data:=.seq its.toArray k }) (QU _ Qt)
   have un4:Un (frs X.stack) fp H2 H3 s2.heap s4.heap:=I4.base
   have ne2:∀b o,s2.heap.get? b=some o->b≠G2.objs.size:=λb o e=>(below b (QA e)).1
   have hDfree:H3 s2.heap.objs.size=none:=hD4.2.1
   have sz0:X.s₀.heap.objs.size<=s2.heap.objs.size:=I2.sz
   refine im s2.heap.objs.size G2.objs.size s4 ⟨⟨m4,hn4⟩,by rw[hC];exact Nat.lt_succ_self _,I2.lt,λx c e=>?_,λp hp=>QA (I2.pin p hp).1,sz0,upd H3 s2.heap.objs.size (.lst ys),by rw[aR (Ne.symm hDC)];exact hCfree,qn _ hDfree,λh' hs'=>?_⟩
   ·obtain⟨v,q⟩:=I2.cell x c e
    exact q.lt
   have up:∀b o,b≠G2.objs.size->s4.heap.get? b=some o->h'.get? b=some o:=λb o hb e=>hs'.extBut b o hb e
   have un5:Un (frs X.stack) fp H2 H3 s2.heap h':=by
    refine⟨λb o e n hb hx=>up b o (ne2 b o e) (un4.keep b o e n hb hx),λb o e n hb hx=>?_,un4.free,λb o e hx=>?_,un4.tups,un4.frzs,un4.tbls⟩
    ·obtain⟨sl,q⟩:=un4.slot b o e n hb hx
     exact⟨sl,up b _ (ne2 b o e) q⟩
    ·obtain⟨o',q⟩:=un4.there b o e hx
     exact⟨o',up b _ (ne2 b o e) q⟩
   have hok5:HOk X.prog X.w H3 h':=λb u e=>(I4.hok b u e).stay (λc v hcc q=>up c v (λz=>by
    rcases hcc with zz |zz
    ·rw[zz] at z;rw[z,hCfree] at e;cases e
    ·rw[z,hCfree] at zz;cases zz) q) (λ_ q=>q) λ_ _ q=>q
   have I5:Inv X pins σ H3 { s4 with heap:=h' }:=I2.call' (s':={ s4 with heap:=h' }) (ch:=fp) I4.os un5 hok5 I4.bare λb hb=>by
    obtain⟨_,g1,_,g3,g4,g5⟩:=f2 b hb
    exact⟨g3,g1,g4,g5⟩
   refine I5.track (o:=.lst ys) hDfree (Tu sz0) (S7 I2.lt) (λx c e z=>?_) (λp hp z=>?_) ?_
   ·obtain⟨v,q⟩:=I2.cell x c e
    exact absurd q.lt (by rw[z];exact Rl _)
   ·exact absurd (QA (I2.pin p hp).1) (by rw[z];exact Rl _)
   ·exact⟨hz,its,k,rv,up _ _ hDC hD4.1⟩
  ·refine Q8 (T.item Y rfl rfl rfl hc i _ s3 σ3 H3 (λ_ _=>False) I3 (fpY fr3 (npl _)) st3 go) (λr s4 ⟨u,hr,h4⟩=>?_) λ_ _ z=>z
   subst hr
   refine Q8 h4 (λ_ s5 ⟨x,H5,I5,r5,y5,st5,fr5⟩=>?_) λ_ _ z=>z
   have I5':=I5.pinned (fpY fr5 (npl _)) (T.obj _ _ st5)
   refine Q8 (hg cl G2.objs.size s2 H2 fp _ s5 σ3 H5 x u _ I5' r5 (step x H5 y5)) (λ_ s6 ⟨σ6,H6,I6,q6⟩=>?_) λ_ _ z=>z
   refine Q8 (ht cl G2.objs.size s2 H2 fp _ s6 σ6 H6 _ I6 q6) (λok s7 ⟨H7,I7,q7⟩=>?_) λ_ _ z=>z
   have back:∀{σ':St}{H':Hp}{s':Shared},Inv Y ([(s2.heap.objs.size,{ cls:=.type "list",dict:=none,data:=.seq its.toArray k })]++mU fp s5.heap) σ' H' s'->tn (i+1) s'.heap/\∀b∈fp,H' b=none:=λ{σ' H' s'} IB=>by
    refine⟨T.keep _ _ _ st5 λb hb o e=>(IB.pin (b,o) (QU _ (QU _ (iZ hb e)))).1,λb hb=>?_⟩
    obtain⟨o,e,d⟩:=T.obj _ _ st5 b hb
    exact (IB.pin (b,o) (QU _ (QU _ (iZ hb e)))).2.1
   cases ok with
   |
    false=>
    rw[if_neg Qx] at q7
    obtain⟨m',hm,w7⟩:=hNx _ _ _ q7
    rw[if_neg Qx]
    obtain⟨t7,f7⟩:=back I7
    exact⟨m',hm,i+1,ys,its,k,σ6,H7,I7.unpinned,rv,t7,f7,w7⟩
   |
    true=>
    rw[if_pos rfl] at q7
    rw[if_pos rfl]
    refine Q8 (he cl G2.objs.size s2 H2 fp _ s7 σ6 H7 _ I7 q7) (λy s8 ⟨yv,H8,I8,r8,q8⟩=>?_) λ_ _ z=>z
    obtain⟨m',hm,w8⟩:=hNx _ _ _ q8
    obtain⟨t8,f8⟩:=back I8
    have I9:=I8.unpinned
    have hD9:=I9.pin (s2.heap.objs.size,{ cls:=.type "list",dict:=none,data:=.seq its.toArray k }) (QU _ Qt)
    have e9:s8.heap.get? s2.heap.objs.size=some { cls:=.type "list",dict:=none,data:=.seq its.toArray k }:=hD9.1
    have bi:=rv.length
    refine call_meets F.slot_list_append ⟨_,e9,rfl⟩ F.entry_list_append (F.args_list_append_2 _ _) (PySem.list_append _ its.toArray k y (by rw[QC];omega)) ⟨e9,?_⟩
    have q9:=PySem.IsL.update e9 (λxs=>xs.push y)
    have ea:its.toArray.push y=(its++[y]).toArray:=by simp
    rw[ea] at q9
    have k9:∀b o,b≠s2.heap.objs.size->s8.heap.get? b=some o->(s8.heap.update s2.heap.objs.size (Obj.mapSeq λxs=>xs.push y)).get? b=some o:=λb o hb e=>(Ti _ _ (Ne.symm hb)).trans e
    have I10:Inv Y [] σ6 H8 { s8 with heap:=s8.heap.update s2.heap.objs.size (Obj.mapSeq λxs=>xs.push y) }:=
     (I9.pins_of (pins':=[]) (λp hp=>nomatch hp)).turned (t':=s8.toks) k9 hD9.2.1 hD9.2.2.1 (.inr (Qu _)) (λx c e z=>absurd (cellOld x c e) (by rw[z];exact Rl _))
      (λp hp=>absurd (show p∈([]:Ub) from hp) (by simp))
    refine⟨m',hm,i+1,ys++[yv],its++[y],_,σ6,H8,pinD I10 q9 (λv z=>by cases z) hD9.2.1,rv.append (.cons r8 .nil),?_,f8,w8⟩
    exact T.keep _ _ _ t8 λb hb o e=>k9 b o (λz=>hDfp (by rw[<- z];exact hb)) e
 exact codeAny_compStart_list (loop _ rfl) (T.self _ 0 _ _ _ (T.keep _ _ _ st2 λb hb o e=>old b o e) (loop _ rfl))
def Jo{li am tg:Expr}{ifs:List Expr}{scope:Scope}{pos:Pos}{wi:TI}{g:TG}{tc:TT}{te:TE}{N:List Str}{sub:Ud}
 (hc:X.calm=true) (hi:PI X tg am wi)
 (hk:scope.kind=.function) (hnc:∀x∈scope.names,x.2 ≠ .cell) (bn:∀x∈scope.names,x.2=.local->scope.names.lookup x.1=some .local)
 (hfr:∀x∈scope.names,x.2=.free->X.env.kindOf x.1=some .cell\/X.env.kindOf x.1=some .free)
 (hsl:sub.length=N.length) (ii:∀(j i:Nat) (x:Str),sub[j]?=some (some i)->N[j]?=some x->X.N[i]?=some x/\scope.names.lookup x=some .free)
 (hg:∀cl C s₂ H fp,PG (bD X N scope cl C s₂ H fp) tg g) (ht:∀cl C s₂ H fp,PTs (bD X N scope cl C s₂ H fp) ifs tc) (he:∀cl C s₂ H fp,PE (bD X N scope cl C s₂ H fp) li te)
 (hs:∀x,foldedSetIterable am X.env x=pure x:=by intro _;rfl):
 PE X (.ListComp li [⟨tg,am,ifs,0⟩] scope pos) (lq wi sub g tc te):=by
 intro pins s σ H Q I h
 rw[eval_ListComp]
 refine wB hc hi hk hnc bn hfr hsl ii hg ht he hs I h λD C s4 e=>?_
 obtain⟨m,hm⟩:=e.ns
 obtain⟨H',_,q,i⟩:=e.inv
 exact⟨m,hm,λh' hs'=>⟨.ref D,H',i h' hs',rfl,q⟩⟩
def jN(M:List Str)(names:List (Str×NameKind))(sub:Ud)(N:List Str):Bool:=(sub.zip N).all λp=>match p.1 with
 |none=>true
 |some i=>M[i]?==some p.2&&names.lookup p.2==some .free
def uR{M:List Str}{names:List (Str×NameKind)}{sub:Ud}{N:List Str}(h:jN M names sub N=true)(j i:Nat)(x:Str)(h1:sub[j]?=some (some i))(h2:N[j]?=some x):
 M[i]?=some x/\names.lookup x=some .free:=by
 unfold jN at h
 rw[Q4] at h
 have hm:(some i,x)∈sub.zip N:=by
  refine Q7 (i:=j) ?_
  rw[List.getElem?_zip_eq_some]
  exact⟨h1,h2⟩
 have q:=h _ hm
 simp only[Qy,SH] at q
 exact q
def mJ(kn names:List (Str×NameKind)):Bool:=names.all λx=>x.2 != .free || kn.lookup x.1==some .cell || kn.lookup x.1==some .free
def wA{kn names:List (Str×NameKind)}(h:mJ kn names=true):∀x∈names,x.2=.free->kn.lookup x.1=some .cell\/kn.lookup x.1=some .free:=λx hx hf=>by
 unfold mJ at h
 rw[Q4] at h
 have q:=h x hx
 rw[hf] at q
 simpa using q
def NU{li am tg:Expr}{scope:Scope}{pos:Pos}{wi:TI}{g:TG}{te:TE}(M:List Str)(kn:List (Str×NameKind))(N:List Str)(sub:Ud)
 (hc:X.calm=true) (hi:PI X tg am wi)
 (hg:∀cl C s₂ H fp,PG (bD X N scope cl C s₂ H fp) tg g) (he:∀cl C s₂ H fp,PE (bD X N scope cl C s₂ H fp) li te)
 (hM:X.N=M:=by rfl) (hkn:X.env.scope.names=kn:=by rfl) (ii:jN M scope.names sub N=true:=by decide)
 (hk:scope.kind=.function:=by rfl) (hnc:∀x∈scope.names,x.2 ≠ .cell:=by decide) (bn:∀x∈scope.names,x.2=.local->scope.names.lookup x.1=some .local:=by decide)
 (hfr:mJ kn scope.names=true:=by decide)
 (hsl:sub.length=N.length:=by rfl) (hs:∀x,foldedSetIterable am X.env x=pure x:=by intro _;rfl):
 PE X (.ListComp li [⟨tg,am,[],0⟩] scope pos) (lq wi sub g B0 te):=
 Jo hc hi hk hnc bn (by subst hkn;exact wA hfr) hsl (by subst hM;exact uR ii) hg (λcl C s₂ H fp=>wU) he hs
end
end L2
namespace L2
open PySem PySem.Spec PyProof.Rows PySem.W PySem.Builtin PySem.Builtin.ObjectAttr PySem.Builtin.Getset_descriptor
structure XCls(K:W.Frag)(C:Addr):Prop where
 cls:(clsIn K C).isSome=true
 ga:findIn K (.ref C) "__getattribute__"=some (some (.builtin "BaseException.__getattribute__"))
 gt:findIn K (.ref C) "__getattr__"=some none
 at_:findIn K (.ref C) "__class__"=some (some (.builtin "object.__class__"))
 gs:specialIn K (.builtin "object.__class__") "__get__"=some (some (.builtin "getset_descriptor.__get__"))
 tk:takesIn K (.builtin "object.__class__")=some true
 mo:mroIn K C (.type "object")=some true
 mb:mroIn K C (.type "BaseException")=some true
section
variable{prog:Program}{w:World}{A:Around}{E:Uc}{K:W.Frag}{x C:Addr}{o:Obj}
noncomputable def ma(hx:h.get? x=some o)(hc:o.cls=.ref C):Looks M h (typeOf (.ref x)) (.ref C):=hc ▸ (Looks.ld hx).andThen .now
noncomputable def C9(X:K.In h)(T:XCls K C):Looks M h (find (.ref x) (.ref C) "__class__") (.bind (.builtin "getset_descriptor.__get__") (.builtin "object.__class__")):=by
 have L1:=looks_findIn (M:=M) X T.at_
 have L2:Looks M h (getOf (some (.builtin "object.__class__"))) (some (.builtin "getset_descriptor.__get__")):=looks_specialIn X T.gs
 have L3:=looks_takesIn (M:=M) X T.tk
 refine L1.andThen (L2.andThen ?_)
 exact (show Looks M h (dataDescriptor? (some (.builtin "object.__class__")) (some (.builtin "getset_descriptor.__get__"))) (some (.builtin "getset_descriptor.__get__",.builtin "object.__class__")) from L3.andThen .now).andThen (Looks.tag .now)
def sM(X:K.In s.heap)(hx:s.heap.get? x=some o)(hc:o.cls=.ref C)(T:XCls K C)
 (h:R (.ok (.ret (.ref C))) s):codeAny (model prog w) A (.call (.builtin "getset_descriptor.__get__") ⟨[.builtin "object.__class__",.ref x,tp],[]⟩) R s:=by
 obtain⟨hh,g,dr,t,os⟩:=s
 have L0:=ma (M:=model prog w) hx hc
 have L1:=looks_mroIn (M:=model prog w) X T.mo
 refine codeAny_call_builtin KF.slot_gs.plain KF.entry_gs (KF.slot_gs.check _ _ _ _ _ _ _ _ KF.type_class (KF.args_gs _ _ _) ?_)
 unfold Builtin.«getset_descriptor.__get__» descrGet
 rw[dga_obj]
 refine Qq (QE ?_)
 unfold descrGetter descrCheckInstance descrNameAndClass isInstance
 simp only[KF.owner_class]
 repeat lk
 refine⟨Code.quiet_builtin _ (by decide),codeAny_builtin KF.entry_class ?_⟩
 unfold Builtin.«object.__class__» shownTypeOf
 repeat lk
 exact h
def Ak(X:K.In s.heap)(hx:s.heap.get? x=some o)(hc:o.cls=.ref C)(T:XCls K C)(hq:Q () s):
 wpAny M A (checkBuiltinCall "BaseException.__getattribute__" ⟨[.ref x,nameV],[]⟩) Q E s:=by
 obtain⟨h,g,dr,t,os⟩:=s
 have hk:builtinKind "BaseException.__getattribute__"=some .slot:=by decide
 have hsplit:splitId "BaseException.__getattribute__"=some ("BaseException", "__getattribute__"):=by decide
 have ha:=PySem.F.args_bexc_ga (.ref x) nameV
 have L0:=ma (M:=M) hx hc
 have LM:=looks_mroIn (M:=M) X T.mb
 have LI:Looks M h (isInstance (.ref x) (.type "BaseException")) true:=L0.andThen LM
 simp only[checkBuiltinCall,hk,hsplit]
 refine Qq ?_
 refine LI.at ?_
 repeat (first |wp_step)
 all_goals exact hq
def Kd(X:K.In s.heap)(hx:s.heap.get? x=some o)(hc:o.cls=.ref C)(T:XCls K C)(h:Q (some (.ref C)) { s with toks:=s.toks+1 }):
 wpAny (model prog w) A (getAttr? (.ref x) "__class__") Q E s:=by
 obtain⟨hh,g,d,t,os⟩:=s
 have L0:=ma (M:=model prog w) hx hc
 have L1:=looks_findIn (M:=model prog w) X T.ga
 have L2:=looks_findIn (M:=model prog w) X T.gt
 have LF:=C9 (M:=model prog w) (x:=x) X T
 have f3:=PySem.F.excAttr_ValueError.ga.bind (.ref x)
 have hx2:(Value.builtin "BaseException.__getattribute__" == Value.builtin "object.__getattribute__")=false:=by decide
 unfold getAttr? getAttrBy? getAttrBy
 refine Qq (wpAny_mkText (Qq (TQ (SO (Qq (L0.at (Qq (L1.at ?_))))))))
 dsimp only
 rw[if_neg (by rw[hx2];simp)]
 unfold getAttrByItsOwn hookBefore
 rw[if_pos (show onTheHeap (Value.ref C)=true from rfl)]
 refine Qq (L2.at ?_)
 unfold callGetattribute
 refine Qq (TQ (SO ?_))
 rw[if_neg (by simp)]
 unfold boundAndCalled
 refine Qq (wpAny_of_eq f3 ?_)
 refine wpAny_call (codeAny_call_builtin PySem.F.excAttr_ValueError.ga.plain PySem.F.entry_bexc_ga (Ak X hx hc T ?_))
 unfold Builtin.«object.__getattribute__»
 repeat (first |(refine Qq (L0.at ?_)) |(refine Qq (LF.at ?_)) |wp_step)
 refine sM (s:=⟨hh,g,d,t+1,os⟩) X hx hc T ?_
 repeat (first |exact h |wp_step)
def DK(x:Addr)(C:Addr)(h:Heap):Prop:=∃o vs,h.get? x=some o/\o.cls=.ref C/\o.data=.fields vs
def CY(T:XCls K C):KitX K (.ref x) (.ref C) (DK x C) where
 ty:=λM h _ ⟨o,_,hx,hc,_⟩=>ma hx hc
 it:=λM h X _=>by
  obtain⟨cd,hcd⟩:=QW.mp T.cls
  unfold clsIn at hcd
  split at hcd
  ·rename_i c' d' cd' sl' ho
   intro A' Q' E' s' k q
   unfold isType loadHead
   exact Qq (wpAny_loadPart (k _ _ (X _ _ ho)) (QE q))
  ·cases hcd
 ne:=λh tp dd its n sl X htp=>by
  obtain⟨cd,hcd⟩:=QW.mp T.cls
  refine Bool.eq_false_iff.mpr λq=>?_
  have e:C=tp:=Value.ref.inj (SH.mp q)
  subst e
  unfold clsIn at hcd
  split at hcd
  ·rename_i c' d' cd' sl' ho
   have z:=(X _ _ ho).symm.trans htp
   cases z
  ·cases hcd
 ca:=λX ⟨o,_,hx,hc,_⟩ k=>Kd X hx hc T k
end
inductive TyX(K:W.Frag)(H:Hp):V->Value->Prop where
 |of {x:V}{t:Value} (h:TyOf K H x t):TyX K H x t
 |exc {a C:Addr} (e:H a=some (.ext (DK a C))) (T:XCls K C):TyX K H (.ref a) (.ref C)
 |sqT {a:Addr}{xs:List V} (h:SqT K H a xs):TyX K H (.ref a) (.type "tuple")
 |sqL {a:Addr}{xs:List V} (h:SqL K H a xs):TyX K H (.ref a) (.type "list")
section
variable{X:Cx}{pins:Ub}{σ:St}{H:Hp}{s:Shared}{A:Around}{E:Uc}{Q:Uc}{c:Value}{b:Bool}
def xf(I:Inv X pins σ H s)(rx:RelV x u)(ty:TyX X.K H x t):∃Hh:Heap->Prop,KitX X.K u t Hh/\Hh s.heap/\u ≠ .builtin "__main__.__loader__#opaque":=by
 cases ty with
 |
  exc ea T=>
  cases (show u=Value.ref _ from rx)
  exact⟨_,CY T,(I.hok _ _ ea).1,λz=>nomatch z⟩
 |
  sqT h=>
  cases (show u=Value.ref _ from rx)
  obtain⟨its,rv,⟨o,e,c,_⟩,_⟩:=I.tuple h
  exact⟨_,kitx_tuple,⟨o,e,c⟩,λz=>nomatch z⟩
 |
  sqL h=>
  cases (show u=Value.ref _ from rx)
  obtain⟨its,rv,⟨o,n,e,c,_⟩,_⟩:=I.list h
  exact⟨_,kitx_list,⟨o,e,c⟩,λz=>nomatch z⟩
 |
  of ty=>
  cases ty with
  |non=>cases (show u=Value.none from rx);exact⟨_,kitx_none,True.intro,λz=>nomatch z⟩
  |bl y=>cases (show u=Value.bool y from rx);exact⟨_,kitx_bool,True.intro,λz=>nomatch z⟩
  |int i=>obtain⟨t,q⟩:=(show ∃t,u=Value.int i t from rx);cases q;exact⟨_,kitx_int,True.intro,λz=>nomatch z⟩
  |str y=>obtain⟨t,q⟩:=(show ∃t,u=Value.str y t from rx);cases q;exact⟨_,kitx_str,True.intro,λz=>nomatch z⟩
  |flt y=>obtain⟨t,q⟩:=(show ∃t,u=Value.float y t from rx);cases q;exact⟨_,kitx_float,True.intro,λz=>nomatch z⟩
  |
   @lst a xs ea=>
   cases (show u=Value.ref a from rx)
   obtain⟨_,_,n,_,h1⟩:=(show ObjOk X.prog X.w H s.heap a (.lst xs) from I.hok a _ ea)
   exact⟨_,kitx_list,⟨_,h1,rfl⟩,λz=>nomatch z⟩
  |
   @frz a ob xs ea=>
   cases (show u=Value.ref a from rx)
   obtain⟨_,_,_,n,_,h1⟩:=(show ObjOk X.prog X.w H s.heap a (.frz ob (.lst xs)) from I.hok a _ ea)
   exact⟨_,kitx_list,⟨_,h1,rfl⟩,λz=>nomatch z⟩
  |
   @tup a xs ea=>
   cases (show u=Value.ref a from rx)
   obtain⟨_,_,_,p⟩:=(show ObjOk X.prog X.w H s.heap a (.tup xs) from I.hok a _ ea)
   obtain⟨o,h1,h2,_⟩:=p
   exact⟨_,kitx_tuple,⟨o,h1,h2⟩,λz=>nomatch z⟩
  |
   @dK a kvs ea=>
   cases (show u=Value.ref a from rx)
   obtain⟨_,_,vs,_,p⟩:=(show ObjOk X.prog X.w H s.heap a (.dK kvs) from I.hok a _ ea)
   obtain⟨o,es,ep,h1,h2,_⟩:=p
   exact⟨_,kitx_dict,⟨o,h1,h2.1⟩,λz=>nomatch z⟩
  |
   @dT a kvs ea=>
   cases (show u=Value.ref a from rx)
   obtain⟨_,_,xs,_,o,es,ep,h1,h2,_⟩:=(show ObjOk X.prog X.w H s.heap a (.dT kvs) from I.hok a _ ea)
   exact⟨_,kitx_dict,⟨o,h1,h2.1⟩,λz=>nomatch z⟩
  |
   @ins a C dx fs ea cl ha hn htk hm=>
   cases (show u=Value.ref a from rx)
   obtain⟨mA,O,_⟩:=F9 I.hok ea
   obtain⟨od,J,_⟩:=O.look
   exact⟨_,kitx_own (cl.get _) cl.hd ha hn htk hm,J,λz=>nomatch z⟩
end
section
variable{X:Cx}
noncomputable def gD:V->Option Value
 |.ref C=>some (.ref C)
 |.ty T=>some (.type T)
 |_=>none
def tG(h:gD c=some v)(r:RelV c u):u=v:=by
 cases c with
 |ref C=>cases r;exact QK h
 |ty T=>cases r;exact QK h
 |_=>cases h
theorem sk:∀{cs:List V}{us vs:List Value},cs.mapM gD=some vs->Vals cs us->us=vs
 |
  [],_,vs,h,.nil=>by
  have h':some ([]:List Value)=some vs:=h
  exact QK h'
 |
  c::cs,_,vs,h,.cons r rr=>by
  rw[Su] at h
  cases q:gD c with
  |none=>rw[q] at h;cases h
  |
   some v=>
   rw[q] at h
   cases q2:cs.mapM gD with
   |none=>rw[q2] at h;cases h
   |
    some vs'=>
    rw[q2] at h
    have h':some (v::vs')=some vs:=h
    cases h'
    rw[tG q r,sk q2 rr]
def BK:CallR X (.builtin "isinstance") (λxs H Q=>∃x c t v b,xs=[x,c]/\TyX X.K H x t/\gD c=some v/\kitOne X.K t v=some b/\Q (.bl b) H):=by
 intro pins s σ H xs us Q I r h
 obtain⟨x,c,t,v,b,rfl,ty,hc,hk,q⟩:=h
 obtain⟨u,w',rfl,rx,rc⟩:=oY r
 obtain rfl:=tG hc rc
 obtain⟨Hh,Z,p,hne⟩:=xf I rx ty
 exact kia_one Z I.kIn p hk hne λtk=>⟨.bl b,H,I.tok _,rfl,q⟩
end
end L2
namespace L2
open PySem PySem.Spec PyProof.Rows
def ObjOk.there(x:ObjOk P w H h a o):∃u,h.get? a=some u:=by
 cases o with
 |lst xs=>obtain⟨_,_,_,_,e⟩:=x;exact⟨_,e⟩
 |tup xs=>obtain⟨_,_,_,ob,e,_⟩:=x;exact⟨_,e⟩
 |dK kvs=>obtain⟨_,_,_,_,o,_,_,e,_⟩:=x;exact⟨_,e⟩
 |dT kvs=>obtain⟨_,_,_,_,o,_,_,e,_⟩:=x;exact⟨_,e⟩
 |set S n=>obtain⟨o,_,_,_,e,_⟩:=x;exact⟨_,e⟩
 |ins C dx fs=>obtain⟨_,_,_,e,_⟩:=x;exact⟨_,e⟩
 |own y=>exact x
 |xd fs=>obtain⟨_,⟨_,_,_,e,_⟩,_⟩:=x;exact⟨_,e⟩
 |rng lo hi=>obtain⟨_,_,_,e⟩:=x;exact⟨_,e⟩
 |frz ob u=>obtain⟨e,_⟩:=x;exact⟨_,e⟩
 |tbl ps=>exact⟨_,show h.get? a=some _ from x⟩
 |met f y=>exact⟨_,show h.get? a=some _ from x⟩
 |ext φ=>obtain⟨_,e,_⟩:=x;exact e
structure Fly(P:Program)(w:World)(outer:List Env)(H:Hp)(h₀:Heap)(H':Hp)(ea:Addr)(cls:Value)(h:Heap)(B:Heap)(t:Addr):Prop where
 un:Un (frs outer) [] H H' h₀ h
 hok:HOk P w H' h
 fl:Heap.FlyingW B outer ea cls (.ref t) h
 old:∀b o,h₀.get? b=some o->b∉frs outer->∃o',B.get? b=some o'
 trk:∀b o,H' b=some o->∃o',B.get? b=some o'
def CX1(P:Program)(w:World):CXT:=λouter H s E e s'=>∃(ea t:Addr) (cls:Value) (H':Hp) (B:Heap),e=.ref ea/\s'.os=s.os/\AllBare s'.gens/\Fly P w outer H s.heap H' ea cls s'.heap B t/\E cls none H'
def uO(h:env.frame=some L):frs (env::outer)=L::frs outer:=by
 unfold frs
 rw[RQ,h]
section
variable{P:Program}{w:World}{outer:List Env}{H H':Hp}{h₀ h h' B:Heap}{ea t L:Addr}{cls:Value}
def Fly.step(F:Fly P w outer H h₀ H' ea cls h B t)(fl':Heap.FlyingW B outer' ea cls (.ref t) h')(up:h.UpToSlots h'):
 Un (frs outer) [] H H' h₀ h'/\HOk P w H' h':=by
 have st:=F.fl.1
 have same:∀b o,(∃o',B.get? b=some o')->h.get? b=some o->h'.get? b=some o:=λb o ⟨o',e⟩ q=>by
  have z:=st b o' e
  rw[q] at z;cases z
  exact fl'.1 b _ e
 have frame:∀b o,b∈frs outer->h.get? b=some o->∃sl,h'.get? b=some { o with slots:=sl }:=λb o hb q=>by
  obtain⟨_,o',ho',hd⟩:=F.fl.2.2.1.mem hb
  rw[q] at ho';cases ho'
  exact up b o q hd
 refine⟨⟨λb o e n hb hx=>same b o (F.old b o e hb) (F.un.keep b o e n hb hx),λb o e n hb hx=>?_,F.un.free,λb o e hx=>?_,F.un.tups,F.un.frzs,F.un.tbls⟩,λa o e=>?_⟩
 ·obtain⟨sl,q⟩:=F.un.slot b o e n hb hx
  obtain⟨sl',q'⟩:=frame b _ hb q
  exact⟨sl',q'⟩
 ·obtain⟨o',q⟩:=F.un.there b o e hx
  by_cases hb:b∈frs outer
  ·obtain⟨sl,q'⟩:=frame b _ hb q
   exact⟨_,q'⟩
  ·exact⟨o',same b o' (F.old b o e hb) q⟩
 ·refine (F.hok a o e).stay (λb u hb q=>same b u ?_ q) (λ_ q=>q) λ_ _ q=>q
  rcases hb with z |z
  ·rw[z];exact F.trk a o e
  ·exact F.trk b _ z
end
structure Cx.Top(X:Cx):Prop where
 ex:X.ex=[]
 stk:X.stack=X.env::X.outer
 fr:X.env.frame=some X.env.locals
section
variable{X:Cx}{pins:Ub}{σ:St}{H:Hp}{s s':Shared}{E:XK}{e:Value}
def Ax(T:X.Top)(hA:A.frames=some X.stack)(I:Inv X pins σ H s)(h:CX1 X.prog X.w X.stack H s E e s'):
 wpAny (model X.prog X.w) A (leaving X.env e) (λ_ s''=>CX1 X.prog X.w X.outer X.H₀ X.s₀ E e s'') E' s':=by
 obtain⟨ea,t,cls,H',B,rfl,os,bare,F,q⟩:=h
 have F0:=F
 rw[T.stk] at F
 have hf:=uO (outer:=X.outer) T.fr
 refine wpAny_leaves_onW (by rw[hA,T.stk]) T.fr F.fl λh'' fl'' up=>?_
 obtain⟨un2,hok2⟩:=F.step fl'' up
 have exn:∀b,b∉X.ex:=λb z=>by rw[T.ex] at z;cases z
 have neL:∀b o,X.s₀.heap.get? b=some o->b≠X.env.locals:=λb o e=>QT (QL (QA e) I.ok.above)
 have notin:∀b o,X.s₀.heap.get? b=some o->b∉frs X.outer->b∉frs (X.env::X.outer):=λb o e hb z=>by
  rw[hf] at z
  rcases QD.mp z with z |z
  ·exact neL b o e z
  ·exact hb z
 refine⟨ea,t,cls,H',B,rfl,os.trans I.os,bare,⟨⟨λb o e n hb hx=>?_,λb o e n hb hx=>?_,λb o e n hx=>?_,λb o e hx=>?_,λb xs e=>un2.tups b xs (I.base.tups b xs e),λb o xs e=>un2.frzs b o xs (I.base.frzs b o xs e),λb ps e=>?_⟩,hok2,fl'',λb o e hb=>?_,F.trk⟩,q⟩
 ·exact un2.keep b o (I.base.keep b o e n hb (exn b)) (I.base.free b o e n (exn b)) (notin b o e hb) (by simp)
 ·obtain⟨sl,e1⟩:=I.base.slot b o e n hb (exn b)
  obtain⟨sl',e2⟩:=un2.slot b _ e1 (I.base.free b o e n (exn b)) (by rw[hf];exact Qr _ hb) (by simp)
  exact⟨sl',e2⟩
 ·obtain⟨o',e1⟩:=I.base.there b o e (exn b)
  exact un2.free b o' e1 (I.base.free b o e n (exn b)) (by simp)
 ·obtain⟨o',e1⟩:=I.base.there b o e (exn b)
  exact un2.there b o' e1 (by simp)
 ·obtain⟨m1,e1⟩:=I.base.tbls b ps e
  obtain⟨m2,e2⟩:=un2.tbls b _ e1
  exact⟨m1++m2,by rw[e2,Array.append_assoc]⟩
 ·obtain⟨o',e1⟩:=I.base.there b o e (exn b)
  exact F.old b o' e1 (notin b o e hb)
def Dx(T:X.Top)(hA:A.frames=some X.stack)(I:Inv X pins σ H s)(hx:Heap.MadeExcOf s.heap h' ea cls args)(q:E cls none H):
 wpAny (model X.prog X.w) A (leaving X.env (.ref ea)) (λ_ s''=>CX1 X.prog X.w X.outer X.H₀ X.s₀ E (.ref ea) s'') E' { s with heap:=h' }:=by
 have hf:=uO (outer:=X.outer) T.fr
 have stk:=I.stack
 rw[T.stk] at stk
 have hin:∀env∈(X.env::X.outer),∀b,env.frame=some b->b∈frs (X.env::X.outer):=λenv he b hb=>List.mem_filterMap.mpr ⟨env,he,hb⟩
 refine wpAny_leaves_madeW (base:=W.hideAll s.heap (frs (X.env::X.outer))) (h:=s.heap) (by rw[hA,T.stk]) T.fr (λb o q=>W.of_hideAll _ q) (W.funFrames_hide stk hin) hx λh'' t fl tup tn up=>?_
 have inB:∀b o,s.heap.get? b=some o->b∉frs (X.env::X.outer)->(W.hideAll s.heap (frs (X.env::X.outer))).get? b=some o:=λb o e hb=>W.hideAll_get _ e hb
 have free:∀b∈frs (X.env::X.outer),H b=none:=λb hb=>I.stkFree b (by rw[T.stk];exact hb)
 have up2:s.heap.UpToSlots h'':=(Heap.UpToSlots.of_keeps hx.keeps).trans up
 have exn:∀b,b∉X.ex:=λb z=>by rw[T.ex] at z;cases z
 have neL:∀b o,X.s₀.heap.get? b=some o->b≠X.env.locals:=λb o e=>QT (QL (QA e) I.ok.above)
 have notin:∀b o,X.s₀.heap.get? b=some o->b∉frs X.outer->b∉frs (X.env::X.outer):=λb o e hb z=>by
  rw[hf] at z
  rcases QD.mp z with z |z
  ·exact neL b o e z
  ·exact hb z
 have trk:∀b o,H b=some o->∃o',(W.hideAll s.heap (frs (X.env::X.outer))).get? b=some o':=λb o e=>by
  obtain⟨u,hu⟩:=(I.hok b o e).there
  exact⟨u,inB b u hu λz=>by rw[free b z] at e;cases e⟩
 refine⟨ea,t,cls,H,_,rfl,I.os,I.bare,⟨⟨λb o e n hb hx=>?_,λb o e n hb hx=>?_,λb o e n hx=>?_,λb o e hx=>?_,I.base.tups,I.base.frzs,I.base.tbls⟩,λa o e=>?_,fl,λb o e hb=>?_,trk⟩,q⟩
 ·exact fl.1 b o (inB b o (I.base.keep b o e n hb (exn b)) (notin b o e hb))
 ·obtain⟨sl,e1⟩:=I.base.slot b o e n hb (exn b)
  obtain⟨_,o',ho',hd⟩:=I.ok.funs.mem hb
  rw[e] at ho';cases ho'
  obtain⟨sl',e2⟩:=up2 b _ e1 hd
  exact⟨sl',e2⟩
 ·exact I.base.free b o e n (exn b)
 ·obtain⟨o',e1⟩:=I.base.there b o e (exn b)
  by_cases hb:b∈frs X.outer
  ·obtain⟨_,o2,ho2,hd⟩:=I.funs.mem hb
   rw[e1] at ho2;cases ho2
   obtain⟨sl',e2⟩:=up2 b _ e1 hd
   exact⟨_,e2⟩
  ·exact⟨o',fl.1 b o' (inB b o' e1 (notin b o e hb))⟩
 ·refine (I.hok a o e).stay (λb u hb q=>?_) (λ_ q=>q) λ_ _ q=>q
  refine fl.1 b u (inB b u q λz=>?_)
  rcases hb with y |y
  ·rw[y] at z;rw[free a z] at e;cases e
  ·rw[free b z] at y;cases y
 ·obtain⟨o',e1⟩:=I.base.there b o e (exn b)
  exact⟨o',inB b o' e1 (notin b o e hb)⟩
end
section
variable{P:Program}{w:World}{K:W.Frag}{mg:Ua}{base:Heap}{N:List Str}{qual:Str}{scope:Scope}{f:Addr}{cd:Value}{A:Around}{outer:List Env}{s:Shared}{H:Hp}{E:XK}
def En:(fF (CX1 P w) P w K mg base N qual scope f cd A outer s H E).Top:=⟨rfl,rfl,rfl⟩
def Mf:uF (CX1 P w) (fF (CX1 P w) P w K mg base N qual scope f cd A outer s H E) E:=λpins σ H s e s' I h=>Ax En I.ok.frames I h
def MD:uF (CX1 P w) X E0:=λpins σ H s e s' I ⟨_,_,_,_,_,_,_,_,_,q⟩=>q.elim
def gf:PassesOwn (model P w) (fF (CX1 P w) P w K mg base N qual scope f cd A outer s H E).A (fF (CX1 P w) P w K mg base N qual scope f cd A outer s H E).env (fF (CX1 P w) P w K mg base N qual scope f cd A outer s H E).xe:=PassesOwn.leaving
def Rz(X:Cx)(E:XK):Prop:=∀(pins:Ub) (σ:St) (H:Hp) (s:Shared) (h':Heap) (ea:Addr) (cls:Value) (args:List Value),Inv X pins σ H s->Heap.MadeExcOf s.heap h' ea cls args->E cls none H->X.xe (.ref ea) { s with heap:=h' }
def rz1:Rz (fF (CX1 P w) P w K mg base N qual scope f cd A outer s H E) E:=λpins σ H s h' ea cls args I hx q=>Dx En I.ok.frames I hx q
def Fun.okR{x qual:Str}{st:Stmt}{f:Addr}{fd:FuncData}{N ps:List Str}{k:Nat}{sp:Sp}(F:Fun K x qual st f fd)(S:FnScope N ps (aw st))(len:∀vs H Q E,sp vs H Q E->vs.length=ps.length)
 (jp:∀(cdv:Value) (A:Around) (outer:List Env) (s:Shared) (H:Hp) (vs:List V) (Q:VK) (E:XK),Room k (A.deeper (envOfC qual (aw st) s.heap.objs.size f cdv))->sp vs H Q E->
  ∃t,PSs (fF (CX1 P w) P w K mg base N qual (aw st) f cdv A outer s H E) (b8 st) t/\t { nx:=λ_ H'=>Q .non H',rt:=Q } (gw N vs) H):FnOk P w K mg base (CX1 P w) (k+1) f fd ps sp:=by
 obtain⟨oc,od,kV,doc,pm,an,cdv,ct,osl,rfl,lk,hcd⟩:=F.ex
 exact Mn lk hcd S len λA outer s H vs Q E hr hsp=>jp cdv A outer s H vs Q E hr hsp
end
abbrev eF:List Value:=[.type "ValueError",.type "Exception",.type "BaseException",.type "object"]
def AD{K:W.Frag}{h:Heap}{C:Addr}(X:K.In h)(q:W.excIn K C eF "ValueError.__new__"=true):
 ∃bm N nm q' bs hdct sn sub ab col dd k0 k1 k2 k3 k5 mN,h.get? C=some (excClassObj nm q' C N bs bm hdct sn sub ab col dd k0 k1 k2 k3 k5 "ValueError.__new__")/\h.Ns N mN/\mN "__init__"=none/\OwnTail h eF bm:=by
 unfold W.excIn at q
 split at q
 ·rename_i dd cd sl ho
  split at q
  ·rename_i C' bm k0 k1 k2 k3 n k5 hm hs
   simp only[Qy,SH,Bool.not_eq_true'] at q
   obtain⟨⟨⟨⟨⟨rfl,rfl⟩,hdel⟩,ht⟩,hok⟩,hni⟩:=q
   obtain⟨nm,bs,mro,ns,qn,hd,sn,sub,ab,col,del⟩:=cd
   dsimp only at hm hdel hok hni
   subst hm hdel
   have hsl:sl=#[k0,k1,k2,k3,some (.builtin "ValueError.__new__"),k5]:=by
    obtain⟨l⟩:=sl
    simp only at hs
    rw[hs]
   subst hsl
   exact⟨bm,ns,nm,qn,bs,hd,sn,sub,ab,col,dd,k0,k1,k2,k3,k5,_,X _ _ ho,.of_isNs (W.isNs_of_in X hok),W.nsMap_none_of_in X hok hni,W.tail_of_in X ht⟩
  ·cases q
 ·cases q
section
variable{X:Cx}{x:Str}{C:Addr}{E:XK}{np cpos pos:Pos}{e₀:Expr}{es:List Expr}{ta:TA}
def Kw(C:Addr)(E:XK)(ta:TA):TS:=λ_ σ H=>ta σ H λvs H1=>vs.length<=sizeLine/\E (.ref C) none H1
def BE(hc:X.calm=true)(hR:Rz X E)(hg:Gl X x)(hm:X.mg x=some (.ref C))(hq:W.excIn X.K C eF "ValueError.__new__"=true)(ha:PA X (e₀::es) ta)
 (he:starEach (e₀::es) X.env=(false,eval e₀ X.env)::starEach es X.env:=by rfl) (ci:(backTo cpos (starEach es X.env)).any (·.1)=false:=by rfl) (hd:(x==("__debug__" : Str))=false:=by decide):
 PS X (.Raise (some (.Call (.Name x np) (e₀::es) [] cpos)) none pos) (Kw C E ta):=by
 intro pins s σ H D I h
 obtain⟨bm,N,nm,q',bs,hdct,sn,sub,ab,col,dd,k0,k1,k2,k3,k5,mN,hC,hN,hni,T⟩:=AD I.ok.mod.kin hq
 refine wpAny_Raise_call_subT (C:=C) (nm:=nm) (q:=q') (N:=N) (bs:=bs) (bm:=bm) (hdct:=hdct) (sn:=sn) (sub:=sub) (ab:=ab) (col:=col) (dd:=dd) (k0:=k0) (k1:=k1) (k2:=k2) (k3:=k3) (k5:=k5)
  PySem.F.excBase_ValueError (mN:=mN) (T.hasType PySem.F.excBase_ValueError.hasBase) (I.ok.hd hc) (by rw[he];show (false || (backTo cpos (starEach es X.env)).any (·.1))=false;rw[ci];rfl) hni (qT I hg hm ⟨rfl,?_⟩ hd)
 have hA:=ha cpos pins s σ H _ I h
 rw[he] at hA ⊢
 refine Calls.evalArgs_plain (thn hA λus s2 ⟨vs,H2,I2,r2,hz,q2⟩=>⟨rfl,by rw[<- r2.length];exact hz,I2.bk _ _ hC,hN.keeps I2.bk,T.keeps I2.bk,λh' e hm'=>?_⟩)
 exact hR pins σ H2 s2 h' e _ _ I2 hm' q2
end
abbrev XS:=St->XK
abbrev TEx:=St->Hp->VK->XK->Prop
abbrev TSx:=Ends->XS->St->Hp->Prop
def XP(X:Cx)(pins:Ub)(E:XS)(e:Value)(s':Shared):Prop:=∃σ1 H1 s1,Inv X pins σ1 H1 s1/\CX1 X.prog X.w X.stack H1 s1 (E σ1) e s'
def PEx(X:Cx)(e:Expr)(t:TEx):Prop:=
 ∀(pins:Ub) (s:Shared) (σ:St) (H:Hp) (Q:VK) (E:XS),Inv X pins σ H s->t σ H Q (E σ)->wpAny (model X.prog X.w) X.A (eval e X.env) (EP X pins σ Q) (XP X pins E) s
section
variable{X:Cx}{st:Stmt}{d4:List Stmt}{t u:TSx}{e:Expr}{es:List Expr}{te:TEx}{pos p:Pos}{x:Str}{f:Addr}{fd:FuncData}{ps:List Str}{sp:Sp}{k:Nat}{ta:TA}{dvs:List V}{ds:List Value}
end
section
variable{X:Cx}{pins:Ub}{σ:St}{H:Hp}{s:Shared}{ea:Addr}
end
structure XHand(K:W.Frag)(C:Addr):Prop where
 ty:W.typeIn K (.ref C)=some (.type "type")
 cls:(W.clsIn K C).isSome=true
 mb:W.mroIn K C (.type "BaseException")=some true
section
variable{X:Cx}{x n:Str}{C:Addr}{i:Nat}{body suite:List Stmt}{b₀:Stmt}{tb:TSx}{ts:TS}{np hpos pos:Pos}
end
mutual
inductive Rep(K:W.Frag)(H:Hp):V->PyData->Prop where
 |non:Rep K H .non .none
 |bl (b:Bool):Rep K H (.bl b) (.bool b)
 |int (i:Int):Rep K H (.int i) (.int i)
 |str (x:Str):Rep K H (.str x) (.str x)
 |tup {a:Addr}{xs:List V}{ds:List PyData} (h:SqT K H a xs) (r:Reps K H xs ds):Rep K H (.ref a) (.tuple ds)
 |lst {a:Addr}{xs:List V}{ds:List PyData} (h:SqL K H a xs) (r:Reps K H xs ds):Rep K H (.ref a) (.list ds)
inductive Reps(K:W.Frag)(H:Hp):List V->List PyData->Prop where
 |nil:Reps K H [] []
 |cons {x:V}{d:PyData}{xs:List V}{ds:List PyData} (r:Rep K H x d) (rr:Reps K H xs ds):Reps K H (x::xs) (d::ds)
end
section
variable{X:Cx}{pins:Ub}{σ:St}{H H':Hp}{s:Shared}{K:W.Frag}
def Rep.reads(I:Inv X pins σ H s)(r:Rep X.K H v d)(q:RelV v u):∃as,Reads s.heap u d as:=
 Rep.rec (motive_1:=λv d _=>∀u,RelV v u->∃as,Reads s.heap u d as) (motive_2:=λvs ds _=>∀us,Vals vs us->∃as,ReadsAll s.heap us ds as)
  (λu r=>by cases r;exact⟨_,.none⟩) (λb u r=>by cases r;exact⟨_,.bool b⟩) (λi u r=>by obtain⟨t,rfl⟩:=r;exact⟨_,.int i t⟩) (λx u r=>by obtain⟨t,rfl⟩:=r;exact⟨_,.str x t⟩)
  (λh _ ih u r=>by
   cases r
   obtain⟨its,rv,⟨o,e,c,n,d⟩,_⟩:=I.tuple h
   obtain⟨as,q⟩:=ih _ rv
   exact⟨as,.tuple e c d (by simpa using q)⟩)
  (λh _ ih u r=>by
   cases r
   obtain⟨its,rv,⟨o,n,e,c,_,d⟩,_⟩:=I.list h
   obtain⟨as,q⟩:=ih _ rv
   exact⟨_,.list e c d (by simpa using q)⟩)
  (λus r=>by cases r;exact⟨_,.nil⟩)
  (λ_ _ a b us q=>by
   cases q with
   |
    cons q1 q2=>
    obtain⟨as,h1⟩:=a _ q1
    obtain⟨bs,h2⟩:=b _ q2
    exact⟨_,.cons h1 h2⟩) r u q
end
section
variable{X:Cx}
noncomputable def shp(d:PyData):Bool:=d.canLay0&&decide (d.depth<=160)
def nF(h:shp d=true):d.canLay0=true:=(Bool.and_eq_true_iff.mp h).1
def tN{A:Around}{d e:PyData}(h:shp d=true)(hu:A.units+180<cLine):A.units+min d.depth e.depth<cLine:=by
 have h1:d.depth<=160:=RN (Bool.and_eq_true_iff.mp h).2
 have h2:min d.depth e.depth<=d.depth:=Nat.min_le_left _ _
 omega
def ze(K:W.Frag):R2:=λx y H Q=>∃dx dy,Rep K H x dx/\Rep K H y dy/\shp dx=true/\shp dy=true/\Q (.bl (PyData.eqv dx dy)) H
def yL(K:W.Frag):R2:=λx y H Q=>∃dx dy,Rep K H x dx/\Rep K H y dy/\shp dx=true/\shp dy=true/\Q (.bl (!PyData.eqv dx dy)) H
def Jj(hu:X.A.units+180<cLine):OpR X (compareOp .Eq) (ze X.K):=by
 intro pins s σ H x y v u Q I rx ry h
 obtain⟨dx,dy,r1,r2,h1,h2,q⟩:=h
 obtain⟨as,q1⟩:=r1.reads I rx
 obtain⟨bs,q2⟩:=r2.reads I ry
 exact SeqAt.compareEq_reads q1 q2 (nF h1) (nF h2) (tN h1 hu) (pR I q rfl)
def Jp(hu:X.A.units+180<cLine):OpR X (compareOp .NotEq) (yL X.K):=by
 intro pins s σ H x y v u Q I rx ry h
 obtain⟨dx,dy,r1,r2,h1,h2,q⟩:=h
 obtain⟨as,q1⟩:=r1.reads I rx
 obtain⟨bs,q2⟩:=r2.reads I ry
 exact SeqAt.compareNe_reads q1 q2 (nF h1) (nF h2) (tN h1 hu) (pR I q rfl)
open PySem.Builtin.Int (intBits)
def CDivB(i j:Int):Prop:=j≠0/\intBits j<=8000
def Ey(i j:Int):Prop:=intBits i<=100000/\intBits j<=100000
def gi:OpR X (binaryOp .FloorDiv) (rI CDivB λi j=>.int (i.fdiv j)):=opI λi j _ _ _ _ _ hc q=>floordiv_int hc.1 q (.inl (PyProof.noPylong_of_log2 (by
 have h:=hc.2
 have h0:=hc.1
 unfold intBits at h
 have hb:(j==0)=false:=by simpa using h0
 rw[hb] at h
 simp only[Si,Ts] at h
 omega)))
def Gy:OpR X (binaryOp .Mult) (rI Ey λi j=>.int (i*j)):=opI λi j _ _ _ _ _ hc q=>mul_int q (PySem.IntMulOk.of_le hc.1 hc.2 (by decide))
def Br(bs:List Bool):((List.range bs.length).all λi=>bs.getD i false)=bs.all id:=by
 rw[SS,Q4,Q4]
 constructor
 ·intro h x hx
  obtain⟨i,hi,rfl⟩:=List.mem_iff_getElem.mp hx
  have:=h i (Rn.mpr hi)
  simpa [Q5,hi] using this
 ·intro h i hi
  have hi':=Rn.mp hi
  have:=h bs[i] (SA hi')
  simpa [Q5,hi'] using this
def Cv(hc:X.calm=true):CallR X (.builtin "all") (λxs H Q=>∃(a:Addr) (bs:List Bool),xs=[.ref a]/\SqL X.K H a (bs.map V.bl)/\Q (.bl (bs.all id)) H):=by
 intro pins s σ H xs us Q I r h
 obtain⟨a,bs,rfl,hq,q⟩:=h
 obtain⟨u,rfl,ru⟩:=jb r
 cases ru
 obtain⟨its,rv,p,hz⟩:=I.list hq
 have hl:=rv.length
 rw[Qp] at hl
 have hlt:a<s.heap.objs.size:=by obtain⟨o,n,e,_⟩:=p;exact QA e
 refine call_all_walk (wpAny_pyIter_list p.isList ?_)
 refine⟨s.heap.objs.size,_,_,_,_,_,λi=>bs.getD i false,rfl,Walks.list (A:=X.A.in1) (I.ok.hd hc) s.heap.objs.size a (QT hlt) its.toArray,⟨⟨_,QJ _ rfl,rfl,rfl⟩,(p.keeps λb o e=>Qz _ e).isList⟩,λi v s' Q' E' hP hQ=>?_,λh' tk hk=>?_⟩
 ·have hP':its[i]?=some v:=by simpa using hP
  have hi:i<bs.length:=by rw[hl];exact (Qs.mp hP').1
  have hb:(bs.map V.bl)[i]?=some (V.bl bs[i]):=by simp [hi]
  obtain⟨u,hu,ru⟩:=rv.get hb
  rw[hP'] at hu
  cases hu
  cases ru
  refine R8 ?_
  have e:bs.getD i false=bs[i]:=by simp [Q5,hi]
  show Q' bs[i] s'
  rw[<- e]
  exact hQ
 ·have e1:its.toArray.size=bs.length:=by rw[QC,hl]
  rw[e1,Br]
  have hn:H s.heap.objs.size=none:=I.fresh
  have I1:Inv X pins σ H { s with heap:=s.heap.push { cls:=.type "list_iterator",dict:=none,data:=.fields #[.ref a,rawInt 0] } }:=I.kept (t':=s.toks) λb o e=>Qz _ e
  refine⟨.bl _,H,?_,rfl,q⟩
  refine I.kept (t':=tk) λb o e=>?_
  have hne:b≠s.heap.objs.size:=QT (QA e)
  exact hk b o (by simpa using hne) (Qz _ e)
end
structure Def(K:W.Frag)(mg:Ua)(x:Str)(st:Stmt):Prop where
 ex:∃f fd,Fun K x x st f fd/\mg x=some (.ref f)
def aN{K:W.Frag}{h:Heap}{mg:Ua}{x:Str}{st:Stmt}{f:Addr}{oc:Value}{od an:Option Addr}{osl:Array (Option Value)}{kV doc pm cdv ct:Value}(X:K.In h)(G:h.Ns mainGlobals mg)
 (a:W.nsIn K mainGlobals x=some (some (.ref f))) (l:K.lookup f=some ⟨oc,od,.func (W.fnOf x x (d6 st) (b8 st) (aw st) .none kV doc pm an cdv ct),osl⟩)
 (c:W.codeIn K cdv x=true) (k:W.keepIn K (.ref f)=true):Def K mg x st:=⟨f,_,Kl l c k,Tb X G a⟩
def Fun.look{K:W.Frag}{x qual:Str}{st:Stmt}{f:Addr}{fd:FuncData}(F:Fun K x qual st f fd):∃oc od osl,K.lookup f=some ⟨oc,od,.func fd,osl⟩:=by
 obtain⟨oc,od,kV,doc,pm,an,cdv,ct,osl,rfl,lk,hcd⟩:=F.ex
 exact⟨oc,od,osl,lk⟩
structure Callee(P:Program)(w:World)(K:W.Frag)(mg:Ua)(base:Heap)(x:Str)(k:Nat)(ps:List Str)(sp:Sp):Prop where
 ex:∃f fd,FnOk P w K mg base (CX1 P w) k f fd ps sp/\mg x=some (.ref f)/\W.keepIn K (.ref f)=true/\Binds K fd ps []/\∃oc od osl,K.lookup f=some ⟨oc,od,.func fd,osl⟩
section
variable{P:Program}{w:World}{K:W.Frag}{mg:Ua}{base:Heap}{x:Str}{st:Stmt}{k:Nat}{ps N:List Str}{sp:Sp}
def Callee.imp(C:Callee P w K mg base x k ps sp)(h:∀vs H Q E,sp' vs H Q E->sp vs H Q E):Callee P w K mg base x k ps sp':=by
 obtain⟨f,fd,F,r⟩:=C.ex
 exact⟨f,fd,F.imp h,r⟩
def Def.okR(D:Def K mg x st)(S:FnScope N ps (aw st))
 (hb:∀(kV doc pm:Value) (an:Option Addr) (cdv ct:Value) (us:List Value),us.length=ps.length->bindArgs (W.fnOf x x (d6 st) (b8 st) (aw st) .none kV doc pm an cdv ct) ⟨us,[]⟩=pure (ps.zip us))
 (len:∀vs H Q E,sp vs H Q E->vs.length=ps.length)
 (jp:∀(f:Addr) (cdv:Value) (A:Around) (outer:List Env) (s:Shared) (H:Hp) (vs:List V) (Q:VK) (E:XK),Room k (A.deeper (envOfC x (aw st) s.heap.objs.size f cdv))->sp vs H Q E->
  ∃t,PSs (fF (CX1 P w) P w K mg base N x (aw st) f cdv A outer s H E) (b8 st) t/\t { nx:=λ_ H'=>Q .non H',rt:=Q } (gw N vs) H):Callee P w K mg base x (k+1) ps sp:=by
 obtain⟨f,fd,F,m⟩:=D.ex
 exact⟨f,fd,F.okR S len (jp f),m,F.kp,F.binds hb,F.look⟩
end
section
variable{X:Cx}{x:Str}{p pos:Pos}{e:Expr}{es:List Expr}{ta:TA}{k:Nat}{ps:List Str}{sp:Sp}{E:XK}
end
section
variable{X:Cx}{K:W.Frag}{tg l:Expr}{tl:TE}
def allK(h:X.K=K)(hc:X.calm=true):CallR X (.builtin "all") (λxs H Q=>∃(a:Addr) (bs:List Bool),xs=[.ref a]/\SqL K H a (bs.map V.bl)/\Q (.bl (bs.all id)) H):=by subst h;exact Cv hc
def Room.u180(r:Room k A):A.units+180<cLine:=by have:=r.un;omega
def dS(h:X.K=K)(hu:X.A.units+180<cLine):OpR X (compareOp .Eq) (ze K):=by subst h;exact Jj hu
def lU(h:X.K=K)(hu:X.A.units+180<cLine):OpR X (compareOp .NotEq) (yL K):=by subst h;exact Jp hu
def inK(h:X.K=K):OpR X (compareOp .In) (rIn K false):=by subst h;exact Ap
end
section
variable{X:Cx}
def Lg{li am tg:Expr}{ifs:List Expr}{scope:Scope}{pos:Pos}{wi:TI}{g:TG}{tc:TT}{te:TE}{N:List Str}{sub:Ud}{iT:Nat}{xT:Str}{px spos:Pos}
 (hc:X.calm=true) (hN:X.N.Nodup) (hix:X.N[iT]?=some xT) (hxl:Loc X.env.scope xT) (hi:PI X tg am wi)
 (hk:scope.kind=.function) (hnc:∀x∈scope.names,x.2 ≠ .cell) (bn:∀x∈scope.names,x.2=.local->scope.names.lookup x.1=some .local)
 (hfr:∀x∈scope.names,x.2=.free->X.env.kindOf x.1=some .cell\/X.env.kindOf x.1=some .free)
 (hsl:sub.length=N.length) (ii:∀(j i:Nat) (x:Str),sub[j]?=some (some i)->N[j]?=some x->X.N[i]?=some x/\scope.names.lookup x=some .free)
 (hg:∀cl C s₂ H fp,PG (bD X N scope cl C s₂ H fp) tg g) (ht:∀cl C s₂ H fp,PTs (bD X N scope cl C s₂ H fp) ifs tc) (he:∀cl C s₂ H fp,PE (bD X N scope cl C s₂ H fp) li te)
 (hsw:swapsWith (.ListComp li [⟨tg,am,ifs,0⟩] scope pos) (some (.Name xT px)) spos.line X.env=pure true)
 (hs:∀x,foldedSetIterable am X.env x=pure x:=by intro _;rfl) (hf:X.fn xT=true\/X.env.scope.names.lookup xT=some .local:=by first |exact .inl rfl |exact .inr rfl |assumption):
 PS X (.Assign [.Name xT px] (.ListComp li [⟨tg,am,ifs,0⟩] scope pos) spos) (vM (lq wi sub g tc te) (oX iT)):=by
 intro pins s σ H D0 I h
 rw[exec_Assign_Name_used _ _ _ _ hsw]
 refine Qq (TU (Qq ?_))
 show wpAny _ X.A (do let _ <- comprehension (.ListComp li [⟨tg,am,ifs,0⟩] scope pos) scope X.env _ (newList []) false (eval am X.env) (some (assign (.Name xT px) X.env))) _ _ s
 refine Qq (Q8 (wB (use:=some (assign (.Name xT px) X.env)) (R:=λ_ s'=>SP X pins D0 .next s') hc hi hk hnc bn hfr hsl ii hg ht he hs I h λD C s4 e=>?_) (λ_ s' hq=>QE (QE hq)) λ_ _ e=>e)
 obtain⟨m,hm⟩:=e.ns
 obtain⟨H',hC,q,i⟩:=e.inv
 have dc:=e.dc
 have fr:=e.fr
 refine wpAny_assign_Name (sf (v:=.ref D) (i s4.heap ⟨rfl,λ_ _=>rfl⟩) hN hix hxl rfl (λs7 I7 ⟨a7,sb7,ha7⟩=>?_) hf)
 have ha:a7<D:=by
  rcases ha7 with z |z
  ·rw[z];exact fr
  ·exact e.cell xT a7 z
 refine⟨m,hm.sameBut sb7 (S7 (TB ha dc)),λh8 hs8=>⟨_,_,I7.turned (it:=C) (t':=s7.toks) (λb o hb e=>hs8.extBut b o hb e) hC (S7 (TB fr dc)) (.inr (QI e.sz (Tz dc))) (λx c q=>QT (TB (e.cell x c q) dc)) (λp hp=>QT (TB (e.pin p hp) dc)),q⟩⟩
def Mp{li am tg:Expr}{scope:Scope}{pos px spos:Pos}{wi:TI}{g:TG}{te:TE}{iT:Nat}{xT:Str}(M:List Str)(kn:List (Str×NameKind))(N:List Str)(sub:Ud)
 (hc:X.calm=true) (hN:X.N.Nodup) (hix:X.N[iT]?=some xT) (hxl:Loc X.env.scope xT) (hi:PI X tg am wi)
 (hg:∀cl C s₂ H fp,PG (bD X N scope cl C s₂ H fp) tg g) (he:∀cl C s₂ H fp,PE (bD X N scope cl C s₂ H fp) li te)
 (hsw:swapsWith (.ListComp li [⟨tg,am,[],0⟩] scope pos) (some (.Name xT px)) spos.line X.env=pure true:=by rfl)
 (hM:X.N=M:=by rfl) (hkn:X.env.scope.names=kn:=by rfl) (ii:jN M scope.names sub N=true:=by decide)
 (hk:scope.kind=.function:=by rfl) (hnc:∀x∈scope.names,x.2 ≠ .cell:=by decide) (bn:∀x∈scope.names,x.2=.local->scope.names.lookup x.1=some .local:=by decide)
 (hfr:mJ kn scope.names=true:=by decide)
 (hsl:sub.length=N.length:=by rfl) (hs:∀x,foldedSetIterable am X.env x=pure x:=by intro _;rfl) (hf:X.fn xT=true\/X.env.scope.names.lookup xT=some .local:=by first |exact .inl rfl |exact .inr rfl |assumption):
 PS X (.Assign [.Name xT px] (.ListComp li [⟨tg,am,[],0⟩] scope pos) spos) (vM (lq wi sub g B0 te) (oX iT)):=
 Lg hc hN hix hxl hi hk hnc bn (by subst hkn;exact wA hfr) hsl (by subst hM;exact uR ii) hg (λcl C s₂ H fp=>wU) he hsw hs hf
end
theorem wk:∀{ns:List Int}{its:List Value},Vals (ns.map V.int) its->IntsAre its ns
 | [],_,h=>by cases h;exact .nil
 |
  i::r,_,h=>by
  cases h with
  |
   cons h1 h2=>
   obtain⟨t,rfl⟩:=h1
   exact .cons i t (wk h2)
def rQ{X:Cx}{K:W.Frag}(hK:X.K=K)(hc:X.calm=true):CallR X (.builtin "sum") (λxs H Q=>∃(a:Addr) (ns:List Int),xs=[.ref a]/\SqL K H a (ns.map V.int)/\Q (.int ns.sum) H):=by
 subst hK
 intro pins s σ H xs us Q I r h
 obtain⟨a,ns,rfl,hq,q⟩:=h
 obtain⟨u,rfl,ru⟩:=jb r
 cases ru
 obtain⟨its,rv,p,hz⟩:=I.list hq
 have hi:=wk rv
 obtain⟨ys,hy⟩:=hi.allInts.items
 have hn:numsOf its.toArray.toList=ns:=by rw[show its.toArray.toList=its from rfl,hi.numsOf]
 have pl:=p.isList
 rw[hy] at pl hn
 rw[nums_intItems] at hn
 refine sum_intListG (I.ok.hd hc) pl λh' tk t' hk=>?_
 rw[preSum_eq,RW (by simp),hn]
 exact⟨.int ns.sum,H,I.kept (t':=tk) hk,⟨_,rfl⟩,q⟩
end L2
namespace Fr
noncomputable def dv(a b:Int):Int:=if b<0 then -((Int.gcd a b:Nat):Int) else ((Int.gcd a b:Nat):Int)
def T(a b:Int):Int:=a.fdiv (dv a b)
def B(a b:Int):Int:=b.fdiv (dv a b)
noncomputable def vE(hb:b≠0):0<Int.gcd a b:=Int.gcd_pos_of_ne_zero_right a hb
def dv_ne(hb:b≠0):dv a b≠0:=by
 have:=vE (a:=a) hb
 unfold dv
 split <;> omega
def Dq(a b:Int):dv a b ∣ a:=by
 have h:((Int.gcd a b:Nat):Int) ∣ a:=Int.gcd_dvd_left a b
 unfold dv
 split
 ·exact Int.neg_dvd.mpr h
 ·exact h
def Dc(a b:Int):dv a b ∣ b:=by
 have h:((Int.gcd a b:Nat):Int) ∣ b:=Int.gcd_dvd_right a b
 unfold dv
 split
 ·exact Int.neg_dvd.mpr h
 ·exact h
def xr{a d q:Int}(hd:d≠0)(h:a=d*q):a.fdiv d=q:=by
 rw[h,SX]
 exact Int.mul_fdiv_cancel q hd
def T_mul(hb:b≠0):T a b*dv a b=a:=by
 obtain⟨q,h⟩:=Dq a b
 have:T a b=q:=xr (dv_ne hb) h
 rw[this,SX];exact h.symm
def B_mul(hb:b≠0):B a b*dv a b=b:=by
 obtain⟨q,h⟩:=Dc a b
 have:B a b=q:=xr (dv_ne hb) h
 rw[this,SX];exact h.symm
def B_pos(hb:b≠0):0<B a b:=by
 have h:=B_mul (a:=a) hb
 have hg:=vE (a:=a) hb
 generalize hx:B a b=x at h ⊢
 unfold dv at h
 split at h
 ·rename_i hneg
  have h2:x*((Int.gcd a b:Nat):Int)=-b:=by rw[Int.mul_neg] at h;omega
  rcases Int.lt_or_le 0 x with z |z
  ·exact z
  ·have:x*((Int.gcd a b:Nat):Int)<=0:=Int.mul_nonpos_of_nonpos_of_nonneg z (by omega)
   omega
 ·rename_i hpos
  rcases Int.lt_or_le 0 x with z |z
  ·exact z
  ·have:x*((Int.gcd a b:Nat):Int)<=0:=Int.mul_nonpos_of_nonpos_of_nonneg z (by omega)
   omega
def cross(hb:b≠0):T a b*b=a*B a b:=by
 have h1:=T_mul (a:=a) hb
 have h2:=B_mul (a:=a) hb
 generalize T a b=x at *
 generalize B a b=y at *
 generalize dv a b=d at *
 rw[<- h2,<- h1]
 rw[<- Rv,SY]
def dv_abs(a b:Int):(dv a b).natAbs=Int.gcd a b:=by
 unfold dv
 split <;> simp
def low(hb:b≠0):Int.gcd (T a b) (B a b)=1:=by
 have h1:=T_mul (a:=a) hb
 have h2:=B_mul (a:=a) hb
 have hg:=vE (a:=a) hb
 have e1:a.natAbs=(T a b).natAbs*Int.gcd a b:=by rw[<- dv_abs a b,<- Rm,h1]
 have e2:b.natAbs=(B a b).natAbs*Int.gcd a b:=by rw[<- dv_abs a b,<- Rm,h2]
 have e3:Int.gcd a b=Nat.gcd ((T a b).natAbs*Int.gcd a b) ((B a b).natAbs*Int.gcd a b):=by rw[<- e1,<- e2];rfl
 rw[Nat.gcd_mul_right] at e3
 show Nat.gcd (T a b).natAbs (B a b).natAbs=1
 generalize Nat.gcd (T a b).natAbs (B a b).natAbs=k at *
 generalize Int.gcd a b=g at *
 have:(1:Nat)*g=k*g:=by omega
 exact (Nat.eq_of_mul_eq_mul_right hg this).symm
def uniq(hy:0<y)(hy':0<y')(h:Int.gcd x y=1)(h':Int.gcd x' y'=1)(e:x*y'=x'*y):x=x'/\y=y':=by
 have c1:Nat.Coprime y.natAbs x.natAbs:=by rw[Nat.coprime_comm];exact h
 have c2:Nat.Coprime y'.natAbs x'.natAbs:=by rw[Nat.coprime_comm];exact h'
 have e1:x.natAbs*y'.natAbs=x'.natAbs*y.natAbs:=by rw[<- Rm,<- Rm,e]
 have d1:y.natAbs ∣ y'.natAbs:=c1.dvd_of_dvd_mul_left (by rw[e1];exact Nat.dvd_mul_left _ _)
 have d2:y'.natAbs ∣ y.natAbs:=c2.dvd_of_dvd_mul_left (by rw[<- e1];exact Nat.dvd_mul_left _ _)
 have ey:y.natAbs=y'.natAbs:=Nat.dvd_antisymm d1 d2
 have ey':y=y':=by omega
 subst ey'
 exact⟨SK (by omega) e,rfl⟩
def same(hb:b≠0)(hd:d≠0)(e:a*d=c*b):T a b=T c d/\B a b=B c d:=by
 refine uniq (B_pos hb) (B_pos hd) (low hb) (low hd) ?_
 have h1:=cross (a:=a) hb
 have h2:=cross (a:=c) hd
 have hbd:b*d≠0:=Tv hb hd
 refine SK hbd ?_
 calc T a b*B c d*(b*d)=(T a b*b)*(B c d*d):=by rw[Rv,Sr (B c d) b d,<- Rv]
  _=(a*B a b)*(B c d*d):=by rw[h1]
  _=(a*d)*(B c d*B a b):=by rw[Rv a,Rv a,Sr (B a b),Sr d,SX (B a b) d]
  _=(c*b)*(B c d*B a b):=by rw[e]
  _=(c*B c d)*(B a b*b):=by rw[Rv c,Rv c,Sr b,SX b (B a b)]
  _=(T c d*d)*(B a b*b):=by rw[<- h2]
  _=T c d*B a b*(b*d):=by rw[Rv,Rv,Sr d,SX d b]
def self(hb:0<b)(h:Int.gcd a b=1):T a b=a/\B a b=b:=
 uniq (B_pos (by omega)) hb (low (by omega)) h (cross (by omega))
def euc(m n:Nat):Nat.gcd n (m % n)=Nat.gcd m n:=by
 rw[Nat.gcd_comm,<- Nat.gcd_rec,Nat.gcd_comm]
end Fr
set_option maxHeartbeats 1000000
namespace L2
open PySem PySem.Spec PyProof.Rows
def Inv.turnedL{X:Cx}{pins:Ub}{σ:St}{H:Hp}{s:Shared}{h':Heap}{t':Nat}{ch:List Addr}(I:Inv X pins σ H s)(k:∀b o,b∉ch->s.heap.get? b=some o->h'.get? b=some o)(hf:∀b∈ch,FpOk X pins H b):Inv X pins σ H { s with heap:=h',toks:=t' }:=by
 have away:∀b u,H b=some u->b∉ch:=λb u e z=>by have:=(hf b z).1;rw[e] at this;cases this
 refine I.step (g':=s.gens) (d':=s.drawn) (ch:=ch) (λb hb=>⟨(hf b hb).2.2.2.1,(hf b hb).2.1,(hf b hb).2.2.2.2.1,(hf b hb).2.2.2.2.2⟩) (λb o _ _ hc e _=>k b o hc e) (λb o _ _ hc e _=>⟨o.slots,k b o hc e⟩) (λ_ _ _ _ n=>n)
  (λb o hc e=>⟨o,k b o hc e⟩) (λ_ _ e=>e) (λ_ _ _ e=>e) (λb ps e=>⟨#[],by rw[e];simp⟩) (λm hm=>?_) (λb u e=>?_) I.bare
 ·obtain⟨o,es,ep,ho,r⟩:=hm
  exact⟨o,es,ep,k _ o (λz=>(hf _ z).2.1 rfl) ho,r⟩
 ·refine (I.hok b u e).stay (λc v hc q=>k c v ?_ q) (λ_ q=>q) λ_ _ q=>q
  rcases hc with z |z
  ·rw[z];exact away b u e
  ·exact away c _ z
def FpOk.up(f:FpOk X pins H b)(hn:b≠p):FpOk X pins (upd H p o) b:=⟨by rw[aR hn];exact f.1,f.2⟩
def o7(hj:s.heap.IsTupleIter j t n)(ht:s.heap.IsTuple t its)(hv:its[n]?=some v)
 (k:∀h',h'.IsTupleIter j t (n+1)->Heap.SameBut j s.heap h'->Q v { s with heap:=h' }):wpAny (model prog w) A (Builtin.SmallTypes.nextOf (.ref j)) Q E s:=by
 obtain⟨oj,ej,cj,dj⟩:=id hj
 obtain⟨ot,et,_,m,dt⟩:=ht
 unfold Builtin.SmallTypes.nextOf
 refine Qq (RP (name:=Str.ofString "__next__") hj.typeIs R6 (SJ R6 hj.typeIs F.entry_tuple_iterator_next ?_ (F.args_tuple_iterator_next_1 _)))
 show wpAny _ _ (field (.ref j) 0 >>= _) _ _ s
 refine Qq (Ri ej dj (x:=.ref t) rfl ?_)
 show wpAny _ _ (if (Value.ref t==Value.none)=true then _ else _) _ _ s;rw[if_neg (show ¬ ((Value.ref t==Value.none)=true) from Qx)]
 show wpAny _ _ (field (.ref j) 1 >>= _) _ _ s
 refine Qq (Ri ej dj (x:=.int n 0) rfl ?_)
 show wpAny _ _ (seqItems? (.ref t) >>= _) _ _ s;refine Qq (RV et dt ?_)
 simp only[Q_,hv]
 refine Qq (wpAny_setField ej dj (by simp) (QE ⟨v,rfl,QE (k _ ?_ (Heap.SameBut.update ..))⟩))
 exact⟨_,Heap.get?_update_self _ ej (Obj.isFreed_of_fields (Obj.data_mapFields dj _)),(Obj.cls_mapFields ..).trans cj,by rw[Obj.data_mapFields dj];simp [rawInt]⟩
def kC(hh:A.handled=none)(hj:s.heap.IsTupleIter j t n)(ht:s.heap.IsTuple t its)(hv:its[n]?=none)
 (k:∀h' e,Heap.ExtBut j s.heap h'->(∃o,h'.get? e=some o/\o.cls=.type "StopIteration")->E (.ref e) { s with heap:=h' }):wpAny (model prog w) A (Builtin.SmallTypes.nextOf (.ref j)) Q E s:=by
 obtain⟨oj,ej,cj,dj⟩:=id hj
 obtain⟨ot,et,_,m,dt⟩:=ht
 unfold Builtin.SmallTypes.nextOf
 refine Qq (RP (name:=Str.ofString "__next__") hj.typeIs R6 (SJ R6 hj.typeIs F.entry_tuple_iterator_next ?_ (F.args_tuple_iterator_next_1 _)))
 show wpAny _ _ (field (.ref j) 0 >>= _) _ _ s
 refine Qq (Ri ej dj (x:=.ref t) rfl ?_)
 show wpAny _ _ (if (Value.ref t==Value.none)=true then _ else _) _ _ s;rw[if_neg (show ¬ ((Value.ref t==Value.none)=true) from Qx)]
 show wpAny _ _ (field (.ref j) 1 >>= _) _ _ s
 refine Qq (Ri ej dj (x:=.int n 0) rfl ?_)
 show wpAny _ _ (seqItems? (.ref t) >>= _) _ _ s;refine Qq (RV et dt ?_)
 simp only[Q_,hv]
 refine Qq (wpAny_rule (Qq (wpAny_setField ej dj (by simp) ?_)));show wpAny _ _ (newExc (.type "StopIteration") [] >>= _) _ _ _
 refine Qq ?_;simp only[newExc,newTuple]
 refine Qq (Rx ?_ (by size_fits));refine Qq (m:=firstArgMember _ _) (wpAny_of_eq (a:=Value.none) (by first |rfl |(simp only[firstArgMember];rfl)) ?_)
 refine Rx ?_ (by size_fits);simp only[raiseNew]
 refine Qq (wpAny_handled ?_);first |rw[show A.in1.handled=none from hh] |rw[hh]
 refine Qq (QE (wpAny_throw ?_));exact k _ _ (((Heap.SameBut.update ..).extBut.push _).push _) ⟨_,QJ _ rfl,rfl⟩
def Im(hh:A.handled=none)(j t:Addr)(ne:t≠j)(its:Array Value):Draws prog w A j [j,t] its.size (λi v=>its[i]?=some v) (λi h=>h.IsTupleIter j t i/\h.IsTuple t its) where
 live:=λ_ _ z=>let ⟨o,e,_⟩:=z.1;⟨o,e⟩
 frame:=λ_ _ _ z k=>⟨z.1.at λo e=>k j (by simp) o e,let ⟨o,e,r⟩:=z.2;⟨o,k t (by simp) o e,r⟩⟩
 item:=λi s Q E hi z k=>o7 z.1 z.2 (v:=its[i]) (by simp [hi]) λh' z' sb=>k _ h' s.toks (by simp [hi]) ⟨z',let ⟨o,e,r⟩:=z.2;⟨o,(sb.2 t ne).trans e,r⟩⟩ sb
 done:=λs Q E z k=>kC hh z.1 z.2 (by simp) k
def Au(l:Addr)(its:Array Value)(n:Nat)(dc:Option Addr)(sl:Array (Option Value)):
 Meets (Builtin.«enumerate.__new__» ⟨[.type "enumerate",.ref l],[]⟩) (λ_ R s=>s.heap.get? l=some { cls:=.type "tuple",dict:=dc,data:=.seq its n,slots:=sl }/\
  R
   (.ok (.ret (.ref (s.heap.push { cls:=.type "tuple_iterator",data:=.fields #[.ref l,.int 0 0] }).objs.size)))
   { s with heap:=(s.heap.push { cls:=.type "tuple_iterator",data:=.fields #[.ref l,.int 0 0] }).push { cls:=.type "enumerate",data:=.fields #[.none,.bool false,.ref s.heap.objs.size,rawInt 0,.none,.none] } }):=
 .of_wp λprog w A R s h=>by
  obtain⟨hp,g,d,tk,os⟩:=s;obtain⟨hl,h⟩:=h
  have ii:=sub_enumerate
  have hT:Heap.IsTuple (Shared.heap ⟨hp,g,d,tk,os⟩) l its:=⟨_,hl,rfl,n,rfl⟩
  wp_walk using SW hl
  refine wpAny_stack_any λst=>QE ?_
  split
  ·rename_i c _ _ _ _ _
   cases (c==Value.type "enumerate") <;> (wp_walk using SW hl,Ta hT;exact⟨_,rfl,h⟩)
  ·wp_walk using SW hl,Ta hT;exact⟨_,rfl,h⟩
def yx(hT:s.heap.IsTuple l its)
 (k:∀h',IsEnum h' (s.heap.objs.size+1) s.heap.objs.size 0 .none->h'.IsTupleIter s.heap.objs.size l 0->h'.objs.size=s.heap.objs.size+2->(∀b o,s.heap.get? b=some o->h'.get? b=some o)->Q (.ref (s.heap.objs.size+1)) { s with heap:=h' }):
 wpAny (model prog w) A (call (.type "enumerate") [.ref l]) Q E s:=by
 obtain⟨⟨c,dc,dt,sl⟩,hl,hc,n,hd⟩:=hT
 have hc':c=.type "tuple":=hc
 have hd':dt=.seq its n:=hd
 subst hc' hd'
 refine callType_new F.called_enumerate (by decide) (F.typeCall_enumerate_1 _) (F.newCall_enumerate_1 _) (λobj=>F.args_object_init_2 obj _) F.entry_enumerate_new (Au l its n dc sl) ⟨hl,?_⟩
 have z1:(s.heap.push { cls:=.type "tuple_iterator",data:=.fields #[.ref l,.int 0 0] }).objs.size=s.heap.objs.size+1:=R9 ..
 show _/\_
 rw[z1]
 have he:IsEnum ((s.heap.push { cls:=.type "tuple_iterator",data:=.fields #[.ref l,.int 0 0] }).push { cls:=.type "enumerate",data:=.fields #[.none,.bool false,.ref s.heap.objs.size,rawInt 0,.none,.none] }) (s.heap.objs.size+1) s.heap.objs.size 0 .none:=by
  have z2:=QJ (s.heap.push { cls:=.type "tuple_iterator",data:=.fields #[.ref l,.int 0 0] }) (o:={ cls:=.type "enumerate",data:=.fields #[.none,.bool false,.ref s.heap.objs.size,rawInt 0,.none,.none] }) rfl
  rw[z1] at z2;exact z2
 exact⟨⟨_,he,rfl⟩,k _ he ⟨_,Qz _ (QJ _ rfl),rfl,rfl⟩ (by rw[R9,z1]) λb o x=>Qz _ (Qz _ x)⟩
def SqB(K:W.Frag)(b:Bool)(H:Hp)(a:Addr)(xs:List V):Prop:=match b with
 |true=>SqL K H a xs
 |false=>SqT K H a xs
def ItB(b:Bool)(h:Heap)(j a:Addr)(i:Nat):Prop:=match b with
 |true=>h.IsListIter j a i
 |false=>h.IsTupleIter j a i
def SqB.inj(I:Inv X pins σ H s)(x:SqB X.K b H a xs)(y:SqB X.K b H a ys):xs=ys:=by
 cases b with
 |true=>exact I.list_inj x y
 |false=>exact I.tuple_inj x y
def Cc(K:W.Frag)(b:Bool)(a:Addr):It:=
 ⟨λi H=>∃xs x,SqB K b H a xs/\xs[i]?=some x,λi H x H'=>∃p u,x=.ref p/\H p=none/\H'=upd H p (.tup [.int (i:Nat),u])/\∀xs,SqB K b H a xs->xs[i]?=some u,λi H=>∃xs,SqB K b H a xs/\xs.length=i⟩
def xw(I:Inv X pins σ H s)(hh:X.A.handled=none)(hq:SqB X.K b H a xs)(hj:ItB b s.heap j a i):
 ∃(its:List Value) (St:Nat->Heap->Prop),Vals xs its/\Draws X.prog X.w X.A.in1 j [j,a] its.length (λi v=>its[i]?=some v) St/\St i s.heap/\(∀i h,St i h->ItB b h j a i)/\∃o n,s.heap.get? a=some o/\o.cls=.type (if b then "list" else "tuple")/\o.data=.seq its.toArray n:=by
 cases b with
 |
  true=>
  obtain⟨its,rv,p,hz⟩:=I.list hq
  obtain⟨o,n,e,c,d,ds⟩:=p
  have hL:s.heap.IsList a its.toArray:=⟨o,e,c,n,ds⟩
  have hj':s.heap.IsListIter j a i:=hj
  have ne:a≠j:=λz=>by
   subst z
   obtain⟨o',e',c',_⟩:=hj'
   rw[e] at e';cases e'
   rw[c] at c';exact absurd (Value.type.inj c') (by decide)
  have D:=Draws.list (prog:=X.prog) (w:=X.w) (A:=X.A.in1) hh j a ne its.toArray
  refine⟨its,λi h=>h.IsListIter j a i/\h.IsList a its.toArray,rv,?_,⟨hj',hL⟩,λ_ _ z=>z.1,o,n,e,c,ds⟩
  have e1:its.toArray.size=its.length:=by simp
  have e2:(λ(i:Nat) (v:Value)=>its.toArray[i]?=some v)=λi v=>its[i]?=some v:=by funext i v;simp
  rw[e1,e2] at D
  exact D
 |
  false=>
  obtain⟨its,rv,p,hz⟩:=I.tuple hq
  have hT:s.heap.IsTuple a its.toArray:=p
  obtain⟨o,e,c,n,ds⟩:=id hT
  have hj':s.heap.IsTupleIter j a i:=hj
  have ne:a≠j:=λz=>by
   subst z
   obtain⟨o',e',c',_⟩:=hj'
   rw[e] at e';cases e'
   rw[c] at c';exact absurd (Value.type.inj c') (by decide)
  have D:=Im (prog:=X.prog) (w:=X.w) (A:=X.A.in1) hh j a ne its.toArray
  refine⟨its,λi h=>h.IsTupleIter j a i/\h.IsTuple a its.toArray,rv,?_,⟨hj',hT⟩,λ_ _ z=>z.1,o,n,e,c,ds⟩
  have e1:its.toArray.size=its.length:=by simp
  have e2:(λ(i:Nat) (v:Value)=>its.toArray[i]?=some v)=λi v=>its[i]?=some v:=by funext i v;simp
  rw[e1,e2] at D
  exact D
def jg(z:ItB b h j a i):∃o,h.get? j=some o/\(∀v,o.data ≠ .cell v)/\o.cls=.type (if b then "list_iterator" else "tuple_iterator"):=by
 cases b with
 |true=>obtain⟨o,e,c,d⟩:=z;exact⟨o,e,(λv y=>by rw[d] at y;cases y),c⟩
 |false=>obtain⟨o,e,c,d⟩:=z;exact⟨o,e,(λv y=>by rw[d] at y;cases y),c⟩
def bQ(z:ItB b h j a i)(k:∀o,h.get? j=some o->h'.get? j=some o):ItB b h' j a i:=by
 cases b with
 |true=>obtain⟨o,e,r⟩:=z;exact⟨o,k o e,r⟩
 |false=>obtain⟨o,e,r⟩:=z;exact⟨o,k o e,r⟩
def Bj{P:Program}{w:World}{K:W.Frag}{elts:List Expr}{x1:Nat}{tp:Pos}(b:Bool)(a e j:Addr)(hej:e≠j):Turn P w K (.Tuple elts x1 tp) (Cc K b a) [e,j] e (λi h=>(∃old,IsEnum h e j ((i:Nat):Int) old)/\ItB b h j a i) where
 mem:=by simp
 obj
  := λi h st c hc=>by
  rcases QD.mp hc with rfl |hc
  ·obtain⟨old,he⟩:=st.1
   exact⟨_,he,λv z=>by cases z⟩
  ·have:c=j:=by simpa using hc
   subst this
   obtain⟨o,q1,q2,_⟩:=jg st.2
   exact⟨o,q1,q2⟩
 keep:=λi h h' st k=>⟨let ⟨old,he⟩:=st.1;⟨old,k e (by simp) _ he⟩,bQ st.2 λo q=>k j (by simp) o q⟩
 item:=
  by
  intro X hP hw hK hc i pins s σ H E I hf st hg
  subst hP hw hK
  obtain⟨xs,x,hq,hx⟩:=hg
  obtain⟨⟨old,he⟩,hj⟩:=st
  obtain⟨its,St,rv,D,hst,hSt,oa,na,ea,ca,da⟩:=xw I (I.ok.hd hc) hq hj
  obtain⟨u,hu,ru⟩:=rv.get hx
  have hlt:i<its.length:=(Qs.mp hu).1
  have hea:e≠a:=λz=>by
   subst z
   rw[he] at ea;cases ea
   cases b <;> exact absurd (Value.type.inj ca) (by decide)
  refine wpAny_pyNext_enum_itemD D he hst hlt hej (by simp [hej,hea]) λy h' tk hy heo hst' ht hsz hk=>?_
  have:y=u:=by rw[hu] at hy;exact (QK hy).symm
  subst this
  refine⟨_,rfl,wpAny_letOwnedTupleGo_enum (s:={ s with heap:=h',toks:=tk+1 }) heo λh2 he2 sb=>?_⟩
  have hT:H s.heap.objs.size=none:=I.hok.fresh (Qu _)
  have hef:=QA he
  obtain⟨oj,q1,_,_⟩:=jg hj
  have hjf:=QA q1
  have I1:Inv X pins σ (upd H s.heap.objs.size (.tup [.int (i:Nat),x])) { s with heap:=s.heap.push { cls:=.type "tuple",data:=.seq #[.int (i:Nat) tk,y] },toks:=s.toks }:=
   I.laid (t':=s.toks) (λc o q=>Qz _ q) (Qu _) ⟨by show 2<=sizeLine;decide,[.int (i:Nat) tk,y],.cons ⟨tk,rfl⟩ (.cons ru .nil),⟨_,QJ _ rfl,rfl,_,rfl⟩⟩
  have sb':Heap.SameBut e h' h2:=sb
  have I2:Inv X pins σ (upd H s.heap.objs.size (.tup [.int (i:Nat),x])) { s with heap:=h2,toks:=tk+1 }:=
   Inv.turnedL (s:={ s with heap:=s.heap.push { cls:=.type "tuple",data:=.seq #[.int (i:Nat) tk,y] },toks:=s.toks }) (ch:=[e,j]) (t':=tk+1) I1 (λc o hc' q=>by
    have c1:c≠e:=λz=>hc' (by simp [z])
    have c2:c≠j:=λz=>hc' (by simp [z])
    rw[sb'.2 c c1]
    by_cases z:c=s.heap.objs.size
    ·subst z
     have q':(s.heap.push { cls:=.type "tuple",data:=.seq #[.int (i:Nat) tk,y] }).get? s.heap.objs.size=some o:=q
     rw[QJ _ rfl] at q'
     cases q'
     exact ht
    ·refine hk c o c1 c2 ?_
     have q':(s.heap.push { cls:=.type "tuple",data:=.seq #[.int (i:Nat) tk,y] }).get? c=some o:=q
     rw[Heap.get?_push_ne _ _ _ z] at q'
     exact q') λc hc'=>by
    rcases QD.mp hc' with rfl |hc'
    ·exact (hf c (by simp)).up (QT hef)
    ·have:c=j:=by simpa using hc'
     subst this
     exact (hf c (by simp)).up (QT hjf)
  refine⟨.ref s.heap.objs.size,_,I2,rfl,⟨_,x,rfl,hT,rfl,λys hy'=>by rw[SqB.inj I hy' hq];exact hx⟩,⟨⟨y,he2⟩,bQ (hSt _ _ hst') λo q=>(sb'.2 j (Ne.symm hej)).trans q⟩,λc hc'=>?_⟩
  rcases QD.mp hc' with rfl |hc'
  ·exact ((hf c (by simp)).up (QT hef)).1
  ·have:c=j:=by simpa using hc'
   subst this
   exact ((hf c (by simp)).up (QT hjf)).1
 done:=by
  intro X hP hw hK hc i pins s σ H E I hf st hg
  subst hP hw hK
  obtain⟨xs,hq,hx⟩:=hg
  obtain⟨⟨old,he⟩,hj⟩:=st
  obtain⟨its,St,rv,D,hst,hSt,oa,na,ea,ca,da⟩:=xw I (I.ok.hd hc) hq hj
  have hl:=rv.length
  subst hx
  rw[hl] at hst
  refine wpAny_pyNext_enum_endD D he hst λh' eb=>⟨rfl,Inv.turnedL (ch:=[j]) (t':=s.toks) I (λc o hc' q=>eb c o (λz=>hc' (by simp [z])) q) λc hc'=>?_⟩
  have:c=j:=by simpa using hc'
  subst this
  exact hf c (by simp)
 self:=λ_ _ _ _ _ st h=>let ⟨_,he⟩:=st.1;wpAny_pyIter_enum he h
def F8(hg:Gl X "enumerate")(hm:X.mg "enumerate"=none)(ha:PA X [l] tl)(hs:starEach [l] X.env=[(false,eval l X.env)]:=by rfl):
 PI X (.Tuple elts x1 tp) (.Call (.Name "enumerate" p) [l] [] pos) (λσ H R=>tl σ H λvs H1=>∃(b:Bool) (a:Addr) (xs:List V),vs=[.ref a]/\SqB X.K b H1 a xs/\R (Cc X.K b a) H1):=by
 intro pins s σ H R I h
 refine Call_ (jr I hg hm boot_enumerate (RX (thn (ha pos pins s σ H _ I h) λus s1 ⟨vs,H1,I1,r1,q1⟩=>?_) hs rfl))
 obtain⟨b,a,xs,e,hq,q⟩:=q1
 subst e
 cases r1 with
 |
  cons r rr=>
  cases rr
  cases r
  have im:∀h',IsEnum h' (s1.heap.objs.size+1) s1.heap.objs.size 0 .none->ItB b h' s1.heap.objs.size a 0->(∀c o,s1.heap.get? c=some o->h'.get? c=some o)->
   wpAny (model X.prog X.w) X.A (pyIter (.ref (s1.heap.objs.size+1))) (PIE X pins σ (.Tuple elts x1 tp) R) X.xe { s1 with heap:=h' }:=λh' he hj hk=>by
   refine wpAny_pyIter_enum he ⟨s1.heap.objs.size+1,[s1.heap.objs.size+1,s1.heap.objs.size],_,_,H1,rfl,I1.kept (t':=s1.toks) λc o z=>hk c o z,Bj b a _ _ (Nat.succ_ne_self _),⟨⟨.none,he⟩,hj⟩,λc hc=>?_,q⟩
   rcases QD.mp hc with rfl |hc
   ·exact I1.fpOk (Nat.le_succ _) (I1.hok.fresh (Nat.le_succ _))
   ·have:c=s1.heap.objs.size:=by simpa using hc
    subst this
    exact I1.fpOk (Qu _) (I1.hok.fresh (Qu _))
  cases b with
  |
   true=>
   obtain⟨its,rv,pp,hz⟩:=I1.list hq
   exact call_enumerate_list pp.isList λh' he hit _ hk=>im h' he hit hk
  |
   false=>
   obtain⟨its,rv,pp,hz⟩:=I1.tuple hq
   exact yx (show s1.heap.IsTuple a its.toArray from pp) λh' he hit _ hk=>im h' he hit hk
def LsB(b:Bool)(h:Heap)(a:Addr)(its:Array Value):Prop:=match b with
 |true=>h.IsList a its
 |false=>h.IsTuple a its
def LsB.keep(z:LsB b h a its)(k:∀o,h.get? a=some o->h'.get? a=some o):LsB b h' a its:=by
 cases b <;> (obtain⟨o,e,r⟩:=z;exact⟨o,k o e,r⟩)
def xN(hj:ItB b s.heap j a n)(ht:LsB b s.heap a its)(hv:its[n]?=some v)
 (k:∀h',ItB b h' j a (n+1)->Heap.SameBut j s.heap h'->Q v { s with heap:=h' }):wpAny (model prog w) A (Builtin.SmallTypes.nextOf (.ref j)) Q E s:=by
 cases b with
 |true=>exact wpAny_nextOf_list_item hj ht hv k
 |false=>exact o7 hj ht hv k
def rM(hh:A.handled=none)(hj:ItB b s.heap j a n)(ht:LsB b s.heap a its)(hv:its[n]?=none)
 (k:∀h' e,Heap.ExtBut j s.heap h'->(∃o,h'.get? e=some o/\o.cls=.type "StopIteration")->E (.ref e) { s with heap:=h' }):wpAny (model prog w) A (Builtin.SmallTypes.nextOf (.ref j)) Q E s:=by
 cases b with
 |true=>exact wpAny_nextOf_list_end hh hj ht hv k
 |false=>exact kC hh hj ht hv k
section
variable{prog:Program}{w:World}{A:Around}{E:Uc}{s:Shared}{b1 b2:Bool}{z p q j1 j2 a1 a2:Addr}{n:Nat}{xs ys:Array Value}{x y u v:Value}
def zipN{Q:Uc}(D:ZipApart z p q j1 j2 a1 a2)(hz:IsZip s.heap z p q .none)(hp:IsPair s.heap p (.ref j1) (.ref j2))(hq:IsPair s.heap q u v)
 (i1:ItB b1 s.heap j1 a1 n) (i2:ItB b2 s.heap j2 a2 n) (l1:LsB b1 s.heap a1 xs) (l2:LsB b2 s.heap a2 ys) (ex:xs[n]?=some x) (ey:ys[n]?=some y)
 (k:∀h',IsZip h' z p q (rawInt s.heap.objs.size)->IsPair h' q x y->ItB b1 h' j1 a1 (n+1)->ItB b2 h' j2 a2 (n+1)->IsPair h' s.heap.objs.size x y->(∀c o,c≠z->c≠q->c≠j1->c≠j2->s.heap.get? c=some o->h'.get? c=some o)->Q (.ref s.heap.objs.size) { s with heap:=h' }):
 wpAny (model prog w) A (Builtin.«zip.__next__» ⟨[.ref z],[]⟩) (λim s'=>∃v,im=.done (.ret v)/\Q v s') E s:=by
 show wpAny _ _ (field (.ref z) 2 >>= _) _ _ _;refine Qq (Ri hz rfl (x:=.bool false) rfl ?_)
 show wpAny _ _ (field (.ref z) 3 >>= _) _ _ _;refine Qq (Ri hz rfl (x:=.ref p) rfl ?_)
 refine Qq (RV hp rfl ?_);show wpAny _ _ (Builtin.SmallTypes.ownedTupleIsFree (.ref z) >>= _) _ _ _
 refine Qq ?_;unfold Builtin.SmallTypes.ownedTupleIsFree
 refine Qq (Ri hz rfl (x:=.none) rfl (QE ?_));simp only[RR]
 refine Qq (wpAny_rule ?_);refine Qq (Ri hz rfl (x:=.ref q) rfl ?_)
 refine Qq (RZ hz (by simp) λg1 (y1:IsZip g1 z p q .ellipsis) t1=>?_)
 refine Qq ?_;simp only[List.zipIdx_cons,List.zipIdx_nil,List.forIn_cons,List.forIn_nil]
 refine Qq (Qq (TR ?_));show wpAny _ _ (Builtin.SmallTypes.nextOf (.ref j1) >>= _) _ _ _
 refine Qq (xN (bQ i1 λo e=>t1.extBut _ _ D.i1z e) (l1.keep λo e=>t1.extBut _ _ D.l1z e) ex λg2 m1 t2=>QE ?_)
 have q2:IsPair g2 q u v:=t2.extBut _ _ D.TOi1 (t1.extBut _ _ D.TOz hq)
 refine Qq (RV q2 rfl ?_);refine Qq (TJ q2 λg3 (q3:IsPair g3 q x v) t3=>?_)
 refine Qq (wpAny_letGo (QE ?_));refine Qq (Qq (TR ?_))
 show wpAny _ _ (Builtin.SmallTypes.nextOf (.ref j2) >>= _) _ _ _
 refine Qq (xN (bQ i2 λo e=>t3.extBut _ _ D.TOi2.symm (t2.extBut _ _ D.i12.symm (t1.extBut _ _ D.i2z e))) (l2.keep λo e=>t3.extBut _ _ D.l2TO (t2.extBut _ _ D.l2i1 (t1.extBut _ _ D.l2z e))) ey λg4 m2 t4=>QE ?_)
 have q4:IsPair g4 q x v:=t4.extBut _ _ D.TOi2 q3
 refine Qq (RV q4 rfl ?_);refine Qq (TJ q4 λg5 (q5:IsPair g5 q x y) t5=>?_)
 refine Qq (wpAny_letGo (QE (QE ?_)));refine Qq (RV q5 rfl ?_);refine Qq (wpAny_newTuple ?_)
 have sz:g5.objs.size=s.heap.objs.size:=by rw[t5.1,t4.1,t3.1,t2.1,t1.1]
 have y5:IsZip g5 z p q .ellipsis:=t5.extBut _ _ D.TOz.symm (t4.extBut _ _ D.i2z.symm (t3.extBut _ _ D.TOz.symm (t2.extBut _ _ D.i1z.symm y1)))
 have all5:∀c o,c≠z->c≠q->c≠j1->c≠j2->s.heap.get? c=some o->g5.get? c=some o:=λc o c1 c2 c3 c4 e=>t5.extBut _ _ c2 (t4.extBut _ _ c4 (t3.extBut _ _ c2 (t2.extBut _ _ c3 (t1.extBut _ _ c1 e))))
 have n1:ItB b1 g5 j1 a1 (n+1):=bQ m1 λo e=>t5.extBut _ _ D.TOi1.symm (t4.extBut _ _ D.i12 (t3.extBut _ _ D.TOi1.symm e))
 have n2:ItB b2 g5 j2 a2 (n+1):=bQ m2 λo e=>t5.extBut _ _ D.TOi2.symm e
 have zl:z<g5.objs.size:=QA y5
 show wpAny _ _ (Builtin.SmallTypes.ownedTupleHandOut (.ref z) (.ref g5.objs.size) >>= _) _ _ _;refine Qq ?_;unfold Builtin.SmallTypes.ownedTupleHandOut
 have y6:IsZip (g5.push { cls:=.type "tuple",data:=.seq #[x,y] }) z p q .ellipsis:=Qz _ y5
 refine Qq (RZ y6 (by simp) λg7 (y7:IsZip g7 z p q (rawInt g5.objs.size)) t7=>?_)
 refine RZ y7 (by simp) λg8 (y8:IsZip g8 z p q (rawInt g5.objs.size)) t8=>?_
 have up:∀c o,c≠z->g5.get? c=some o->g8.get? c=some o:=λc o c1 e=>t8.extBut _ _ c1 (t7.extBut _ _ c1 (Qz _ e))
 have w8:IsPair g8 g5.objs.size x y:=t8.extBut _ _ (S7 zl) (t7.extBut _ _ (S7 zl) (QJ _ rfl))
 rw[sz] at y8 w8
 refine QE ⟨_,rfl,?_⟩
 show Q (.ref g5.objs.size) _;rw[sz]
 exact k g8 y8 (up _ _ D.TOz q5) (bQ n1 λo e=>up _ o D.i1z e) (bQ n2 λo e=>up _ o D.i2z e) w8 λc o c1 c2 c3 c4 e=>up c o c1 (all5 c o c1 c2 c3 c4 e)
def B5(hh:A.handled=none)(D:ZipApart z p q j1 j2 a1 a2)(hz:IsZip s.heap z p q .none)(hp:IsPair s.heap p (.ref j1) (.ref j2))(hq:IsPair s.heap q u v)
 (i1:ItB b1 s.heap j1 a1 n) (i2:ItB b2 s.heap j2 a2 n) (l1:LsB b1 s.heap a1 xs) (l2:LsB b2 s.heap a2 ys) (en:xs[n]?=none\/ys[n]?=none)
 (k:∀h' e,(∀c o,c≠z->c≠q->c≠j1->c≠j2->s.heap.get? c=some o->h'.get? c=some o)->(∃o,h'.get? e=some o/\o.cls=.type "StopIteration")->E (.ref e) { s with heap:=h' }):wpAny (model prog w) A (Builtin.«zip.__next__» ⟨[.ref z],[]⟩) Q E s:=by
 show wpAny _ _ (field (.ref z) 2 >>= _) _ _ _;refine Qq (Ri hz rfl (x:=.bool false) rfl ?_)
 show wpAny _ _ (field (.ref z) 3 >>= _) _ _ _;refine Qq (Ri hz rfl (x:=.ref p) rfl ?_)
 refine Qq (RV hp rfl ?_);show wpAny _ _ (Builtin.SmallTypes.ownedTupleIsFree (.ref z) >>= _) _ _ _
 refine Qq ?_;unfold Builtin.SmallTypes.ownedTupleIsFree
 refine Qq (Ri hz rfl (x:=.none) rfl (QE ?_));simp only[RR]
 refine Qq (wpAny_rule ?_);refine Qq (Ri hz rfl (x:=.ref q) rfl ?_)
 refine Qq (RZ hz (by simp) λg1 (y1:IsZip g1 z p q .ellipsis) t1=>?_)
 refine Qq ?_;simp only[List.zipIdx_cons,List.zipIdx_nil,List.forIn_cons,List.forIn_nil]
 refine Qq (Qq (TR ?_));show wpAny _ _ (Builtin.SmallTypes.nextOf (.ref j1) >>= _) _ _ _
 cases ex:xs[n]? with
 |
  none=>
  refine Qq (rM hh (bQ i1 λo e=>t1.extBut _ _ D.i1z e) (l1.keep λo e=>t1.extBut _ _ D.l1z e) ex λg2 e t2 ⟨oe,he,ce⟩=>?_)
  have y2:IsZip g2 z p q .ellipsis:=t2 _ _ D.i1z.symm y1
  have ez:e≠z:=λw=>by subst w;rw[y2] at he;cases he;simp at ce
  exact RZ y2 (by simp) λg3 _ t3=>k g3 e (λc o c1 _ c3 _ w=>t3.extBut _ _ c1 (t2 _ _ c3 (t1.extBut _ _ c1 w))) ⟨oe,t3.extBut _ _ ez he,ce⟩
 |
  some x=>
  have ey:ys[n]?=none:=en.resolve_left λw=>by rw[ex] at w;cases w
  refine Qq (xN (bQ i1 λo e=>t1.extBut _ _ D.i1z e) (l1.keep λo e=>t1.extBut _ _ D.l1z e) ex λg2 m1 t2=>QE ?_)
  have q2:IsPair g2 q u v:=t2.extBut _ _ D.TOi1 (t1.extBut _ _ D.TOz hq)
  refine Qq (RV q2 rfl ?_);refine Qq (TJ q2 λg3 q3 t3=>?_);refine Qq (wpAny_letGo (QE ?_))
  refine Qq (Qq (TR ?_));show wpAny _ _ (Builtin.SmallTypes.nextOf (.ref j2) >>= _) _ _ _
  refine Qq (rM hh (bQ i2 λo e=>t3.extBut _ _ D.TOi2.symm (t2.extBut _ _ D.i12.symm (t1.extBut _ _ D.i2z e))) (l2.keep λo e=>t3.extBut _ _ D.l2TO (t2.extBut _ _ D.l2i1 (t1.extBut _ _ D.l2z e))) ey λg4 e t4 ⟨oe,he,ce⟩=>?_)
  have y4:IsZip g4 z p q .ellipsis:=t4 _ _ D.i2z.symm (t3.extBut _ _ D.TOz.symm (t2.extBut _ _ D.i1z.symm y1))
  have ez:e≠z:=λw=>by subst w;rw[y4] at he;cases he;simp at ce
  exact RZ y4 (by simp) λg5 _ t5=>k g5 e (λc o c1 c2 c3 c4 w=>t5.extBut _ _ c1 (t4 _ _ c4 (t3.extBut _ _ c2 (t2.extBut _ _ c3 (t1.extBut _ _ c1 w))))) ⟨oe,t5.extBut _ _ ez he,ce⟩
end
noncomputable def Dm(b:Bool):String:=if b then "list_iterator" else "tuple_iterator"
def w9(h:LsB b s.heap a its)(k:Q (.ref s.heap.objs.size) { s with heap:=s.heap.push { cls:=.type (Dm b),data:=.fields #[.ref a,.int 0 0] } }):wpAny (model prog w) A (pyIter (.ref a)) Q E s:=by
 cases b with
 |true=>exact wpAny_pyIter_list h k
 |false=>exact Ta h k
abbrev zp1(h:Heap)(b:Bool)(a:Addr):Heap:=h.push { cls:=.type (Dm b),data:=.fields #[.ref a,.int 0 0] }
abbrev zp2(h:Heap)(b c:Bool)(a d:Addr):Heap:=zp1 (zp1 h b a) c d
abbrev zp3(h:Heap)(b c:Bool)(a d:Addr):Heap:=(zp2 h b c a d).push { cls:=.type "tuple",data:=.seq #[.ref h.objs.size,.ref (zp1 h b a).objs.size] }
abbrev zp4(h:Heap)(b c:Bool)(a d:Addr):Heap:=(zp3 h b c a d).push { cls:=.type "tuple",data:=.seq #[.none,.none] }
abbrev zp5(h:Heap)(b c:Bool)(a d:Addr):Heap:=(zp4 h b c a d).push { cls:=.type "zip",data:=.fields #[.none,.bool false,.bool false,.ref (zp2 h b c a d).objs.size,.ref (zp3 h b c a d).objs.size] }
def Dg(b c:Bool)(a d:Addr)(xs ys:Array Value):Meets (Builtin.«zip.__new__» ⟨[.type "zip",.ref a,.ref d],[]⟩) (λ_ R s=>LsB b s.heap a xs/\LsB c s.heap d ys/\R (.ok (.ret (.ref (zp4 s.heap b c a d).objs.size))) { s with heap:=zp5 s.heap b c a d }):=
 .of_wp λprog w A R s h=>by
  obtain⟨hp,g,dr,tk,os⟩:=s;obtain⟨la,ld,h⟩:=h
  have ii:=sub_zip
  have L1:LsB b (Shared.heap ⟨hp,g,dr,tk,os⟩) a xs:=la
  have L2':LsB c (Shared.heap ⟨hp.push { cls:=.type (Dm b),data:=.fields #[.ref a,.int 0 0] },g,dr,tk,os⟩) d ys:=ld.keep λo e=>Qz _ e
  wp_walk using w9 L1,w9 L2'
  exact⟨_,rfl,h⟩
def Aa(la:LsB b s.heap a xs)(ld:LsB c s.heap d ys)
 (k:∀h',IsZip h' (s.heap.objs.size+4) (s.heap.objs.size+2) (s.heap.objs.size+3) .none->IsPair h' (s.heap.objs.size+2) (.ref s.heap.objs.size) (.ref (s.heap.objs.size+1))->IsPair h' (s.heap.objs.size+3) .none .none->
  ItB b h' s.heap.objs.size a 0->ItB c h' (s.heap.objs.size+1) d 0->(∀c o,s.heap.get? c=some o->h'.get? c=some o)->Q (.ref (s.heap.objs.size+4)) { s with heap:=h' }):wpAny (model prog w) A (call (.type "zip") [.ref a,.ref d]) Q E s:=by
 refine callType_new F.called_zip (by decide) (F.typeCall_zip_2 _ _) (F.newCall_zip_2 _ _) (λobj=>F.args_object_init_3 obj _ _) F.entry_zip_new (Dg b c a d xs ys) ⟨la,ld,?_⟩
 have n1:(zp1 s.heap b a).objs.size=s.heap.objs.size+1:=R9 ..
 have n2:(zp2 s.heap b c a d).objs.size=s.heap.objs.size+2:=by rw[R9,n1]
 have n3:(zp3 s.heap b c a d).objs.size=s.heap.objs.size+3:=by rw[R9,n2]
 have n4:(zp4 s.heap b c a d).objs.size=s.heap.objs.size+4:=by rw[R9,n3]
 have up:=λ{h:Heap}{x:Addr}{o:Obj} (o':Obj) (e:h.get? x=some o)=>Qz o' e
 have e5:(zp5 s.heap b c a d).get? (zp4 s.heap b c a d).objs.size=some _:=QJ _ rfl
 have e4:(zp5 s.heap b c a d).get? (zp3 s.heap b c a d).objs.size=some _:=up _ (QJ _ rfl)
 have e3:(zp5 s.heap b c a d).get? (zp2 s.heap b c a d).objs.size=some _:=up _ (up _ (QJ _ rfl))
 have e2:(zp5 s.heap b c a d).get? (zp1 s.heap b a).objs.size=some _:=up _ (up _ (up _ (QJ _ rfl)))
 have e1:(zp5 s.heap b c a d).get? s.heap.objs.size=some _:=up _ (up _ (up _ (up _ (QJ _ rfl))))
 show _/\_
 rw[n2,n3,n4] at e5;rw[n1,n2] at e3;rw[n3] at e4;rw[n1] at e2;rw[n4]
 have i1:ItB b (zp5 s.heap b c a d) s.heap.objs.size a 0:=by cases b <;> exact⟨_,e1,rfl,rfl⟩
 have i2:ItB c (zp5 s.heap b c a d) (s.heap.objs.size+1) d 0:=by cases c <;> exact⟨_,e2,rfl,rfl⟩
 exact⟨⟨_,e5,rfl⟩,k _ e5 e3 e4 i1 i2 λx o e=>up _ (up _ (up _ (up _ (up _ e))))⟩
def ItZ(K:W.Frag)(b c:Bool)(a d:Addr):It:=
 ⟨λi H=>∃xs ys x y,SqB K b H a xs/\SqB K c H d ys/\xs[i]?=some x/\ys[i]?=some y,
  λi H x H'=>∃p u v,x=.ref p/\H p=none/\H'=upd H p (.tup [u,v])/\(∀xs,SqB K b H a xs->xs[i]?=some u)/\∀ys,SqB K c H d ys->ys[i]?=some v,
  λi H=>∃xs ys,SqB K b H a xs/\SqB K c H d ys/\(xs[i]?=none\/ys[i]?=none)⟩
def kL(I:Inv X pins σ H s)(hq:SqB X.K b H a xs):∃its:List Value,Vals xs its/\LsB b s.heap a its.toArray:=by
 cases b with
 |true=>obtain⟨its,rv,p,_⟩:=I.list hq;exact⟨its,rv,p.isList⟩
 |false=>obtain⟨its,rv,p,_⟩:=I.tuple hq;exact⟨its,rv,p⟩
def CA{P:Program}{w:World}{K:W.Frag}{elts:List Expr}{x1:Nat}{tp:Pos}(b c:Bool)(a d z p q j1 j2:Addr)(D:ZipApart z p q j1 j2 a d):
 Turn P w K (.Tuple elts x1 tp) (ItZ K b c a d) [z,p,q,j1,j2] z (λi h=>IsZip h z p q .none/\IsPair h p (.ref j1) (.ref j2)/\(∃u v,IsPair h q u v)/\ItB b h j1 a i/\ItB c h j2 d i) where
 mem:=by simp
 obj:=λi h st e he=>by
  obtain⟨s1,s2,⟨u,v,s3⟩,s4,s5⟩:=st
  obtain⟨o4,k4,l4,_⟩:=jg s4
  obtain⟨o5,k5,l5,_⟩:=jg s5
  simp only[QD,List.not_mem_nil,or_false] at he
  rcases he with rfl |rfl |rfl |rfl |rfl
  ·exact⟨_,s1,λv y=>by cases y⟩
  ·exact⟨_,s2,λv y=>by cases y⟩
  ·exact⟨_,s3,λv y=>by cases y⟩
  ·exact⟨o4,k4,l4⟩
  ·exact⟨o5,k5,l5⟩
 keep:=λi h h' st k=>by
  obtain⟨s1,s2,⟨u,v,s3⟩,s4,s5⟩:=st
  exact⟨k z (by simp) _ s1,k p (by simp) _ s2,⟨u,v,k q (by simp) _ s3⟩,bQ s4 λo e=>k j1 (by simp) o e,bQ s5 λo e=>k j2 (by simp) o e⟩
 item:=
  by
  intro X hP hw hK hc i pins s σ H E I hf st hg
  subst hP hw hK
  obtain⟨xs,ys,x,y,qx,qy,ex,ey⟩:=hg
  obtain⟨s1,s2,⟨u,v,s3⟩,s4,s5⟩:=st
  obtain⟨ix,rx,lx⟩:=kL I qx
  obtain⟨iy,ry,ly⟩:=kL I qy
  obtain⟨ux,hux,rux⟩:=rx.get ex
  obtain⟨uy,huy,ruy⟩:=ry.get ey
  have hTy:s.TypeIs (.ref z) "zip":=⟨_,s1,rfl⟩
  have zl:=QA s1
  have pl:=QA s2
  have ql:=QA s3
  obtain⟨o4,k4,_,_⟩:=jg s4
  obtain⟨o5,k5,_,_⟩:=jg s5
  have j1l:=QA k4
  have j2l:=QA k5
  unfold pyNext
  refine Qq (TQ (RP (name:=Str.ofString "__next__") hTy Tt (SJ Tt hTy F.entry_zip_next (zipN D s1 s2 s3 s4 s5 lx ly (by simpa using hux) (by simpa using huy) λh' y1 y3 y4 y5 yT hk=>QE ?_) (F.args_zip_next_1 _))))
  refine⟨_,rfl,wpAny_letOwnedTupleGo_zip (s:={ s with heap:=h' }) y1 λh2 z2 sb=>?_⟩
  have sb':Heap.SameBut z h' h2:=sb
  have hT:H s.heap.objs.size=none:=I.hok.fresh (Qu _)
  have I1:Inv X pins σ (upd H s.heap.objs.size (.tup [x,y])) { s with heap:=s.heap.push { cls:=.type "tuple",data:=.seq #[ux,uy] },toks:=s.toks }:=
   I.laid (t':=s.toks) (λc o q=>Qz _ q) (Qu _) ⟨by show 2<=sizeLine;decide,[ux,uy],.cons rux (.cons ruy .nil),⟨_,QJ _ rfl,rfl,_,rfl⟩⟩
  have fp':∀e∈[z,p,q,j1,j2],FpOk X pins (upd H s.heap.objs.size (.tup [x,y])) e:=λe he=>by
   have:=hf e he
   simp only[QD,List.not_mem_nil,or_false] at he
   rcases he with rfl |rfl |rfl |rfl |rfl
   ·exact this.up (QT zl)
   ·exact this.up (QT pl)
   ·exact this.up (QT ql)
   ·exact this.up (QT j1l)
   ·exact this.up (QT j2l)
  have I2:Inv X pins σ (upd H s.heap.objs.size (.tup [x,y])) { s with heap:=h2,toks:=s.toks }:=
   Inv.turnedL (s:={ s with heap:=s.heap.push { cls:=.type "tuple",data:=.seq #[ux,uy] },toks:=s.toks }) (ch:=[z,p,q,j1,j2]) (t':=s.toks) I1 (λe o he qe=>by
    have c1:e≠z:=λw=>he (by simp [w])
    have c2:e≠q:=λw=>he (by simp [w])
    have c3:e≠j1:=λw=>he (by simp [w])
    have c4:e≠j2:=λw=>he (by simp [w])
    rw[sb'.2 e c1]
    have q':(s.heap.push { cls:=.type "tuple",data:=.seq #[ux,uy] }).get? e=some o:=qe
    by_cases w:e=s.heap.objs.size
    ·subst w
     rw[QJ _ rfl] at q'
     cases q'
     exact yT
    ·rw[Heap.get?_push_ne _ _ _ w] at q'
     exact hk e o c1 c2 c3 c4 q') fp'
  refine⟨.ref s.heap.objs.size,_,I2,rfl,⟨_,x,y,rfl,hT,rfl,λzs hz=>by rw[SqB.inj I hz qx];exact ex,λzs hz=>by rw[SqB.inj I hz qy];exact ey⟩,⟨z2,?_,⟨ux,uy,?_⟩,bQ y4 λo e=>(sb'.2 j1 D.i1z).trans e,bQ y5 λo e=>(sb'.2 j2 D.i2z).trans e⟩,λe he=>(fp' e he).1⟩
  ·exact (sb'.2 p D.TIz).trans (hk p _ D.TIz D.TITO D.TIi1 D.TIi2 s2)
  ·exact (sb'.2 q D.TOz).trans y3
 done:=by
  intro X hP hw hK hc i pins s σ H E I hf st hg
  subst hP hw hK
  obtain⟨xs,ys,qx,qy,en⟩:=hg
  obtain⟨s1,s2,⟨u,v,s3⟩,s4,s5⟩:=st
  obtain⟨ix,rx,lx⟩:=kL I qx
  obtain⟨iy,ry,ly⟩:=kL I qy
  have hTy:s.TypeIs (.ref z) "zip":=⟨_,s1,rfl⟩
  have en':ix.toArray[i]?=none\/iy.toArray[i]?=none:=by
   rcases en with e |e
   ·left;rw[RH] at e;simp;rw[<- rx.length];exact e
   ·right;rw[RH] at e;simp;rw[<- ry.length];exact e
  unfold pyNext
  refine Qq (TQ (RP (name:=Str.ofString "__next__") hTy Tt (SJ Tt hTy F.entry_zip_next (B5 (I.ok.hd hc) D s1 s2 s3 s4 s5 lx ly en' λh' e hk ⟨o,ho,co⟩=>?_) (F.args_zip_next_1 _))))
  refine Qq (wpAny_isInstance (T:="StopIteration") (b:=true) ⟨o,ho,co⟩ isSubtype_stop (QE ⟨rfl,?_⟩))
  exact Inv.turnedL (ch:=[z,p,q,j1,j2]) (t':=s.toks) I (λe o he qe=>hk e o (λw=>he (by simp [w])) (λw=>he (by simp [w])) (λw=>he (by simp [w])) (λw=>he (by simp [w])) qe) hf
 self:=λ_ _ _ _ _ st h=>wpAny_pyIter_zip st.1 h
def Ab:bootBuiltins "zip"=some (.type "zip"):=by decide
def Iw(hg:Gl X "zip")(hm:X.mg "zip"=none)(ha:PA X [l,m] tl)(hs:starEach [l,m] X.env=[(false,eval l X.env),(false,eval m X.env)]:=by rfl)(hs2:starEach [m] X.env=[(false,eval m X.env)]:=by rfl):
 PI X (.Tuple elts x1 tp) (.Call (.Name "zip" p) [l,m] [] pos) (λσ H R=>tl σ H λvs H1=>∃(b c:Bool) (a d:Addr) (xs ys:List V),vs=[.ref a,.ref d]/\SqB X.K b H1 a xs/\SqB X.K c H1 d ys/\R (ItZ X.K b c a d) H1):=by
 intro pins s σ H R I h
 refine Call_ (jr I hg hm Ab (RX (thn (ha pos pins s σ H _ I h) λus s1 ⟨vs,H1,I1,r1,q1⟩=>?_) (by rw[hs,hs2]) (by rw[hs2];rfl)))
 obtain⟨b,c,a,d,xs,ys,e,qx,qy,q⟩:=q1
 subst e
 cases r1 with
 |
  cons r rr=>
  cases rr with
  |
   cons r' rr=>
   cases rr
   cases r
   cases r'
   obtain⟨ix,rx,lx⟩:=kL I1 qx
   obtain⟨iy,ry,ly⟩:=kL I1 qy
   have la:a<s1.heap.objs.size:=by cases b <;> (obtain⟨o,e,_⟩:=lx;exact QA e)
   have ld:d<s1.heap.objs.size:=by cases c <;> (obtain⟨o,e,_⟩:=ly;exact QA e)
   refine Aa lx ly λh' y1 y2 y3 y4 y5 hk=>wpAny_pyIter_zip y1 ⟨s1.heap.objs.size+4,[s1.heap.objs.size+4,s1.heap.objs.size+2,s1.heap.objs.size+3,s1.heap.objs.size,s1.heap.objs.size+1],_,_,H1,rfl,I1.kept (t':=s1.toks) λc o z=>hk c o z,CA b c a d _ _ _ _ _ (W.ktu_apart _ _ _ la ld),⟨y1,y2,⟨_,_,y3⟩,y4,y5⟩,λe he=>?_,q⟩
   have hge:s1.heap.objs.size<=e:=by
    simp only[QD,List.not_mem_nil,or_false] at he
    rcases he with rfl |rfl |rfl |rfl |rfl
    ·exact Tq _ _
    ·exact Tq _ _
    ·exact Tq _ _
    ·exact Qu _
    ·exact Tq _ _
   exact I1.fpOk hge (I1.hok.fresh hge)
inductive D where
 |non |bl (b:Bool) |int (i:Int) |str (x:Str) |ty (n:String) |glb (x:Str) |exc (x:Str) |tup (xs:List D) |ref (n:Nat) |kl (xs:List D)
 deriving Inhabited
inductive Ob where
 |lst (xs:List D) |fz (xs:List D) |set (xs:List Int) |dct (kvs:List (Key×D)) |any
 deriving Inhabited
abbrev AH:=List Ob
abbrev AE:=List (Option D)
inductive R(α:Type) where
 |ok (a:α) (h:AH) |exc (c:Str) (h:AH) |stuck
inductive SR where
 |nx (ae:AE) (h:AH) |rt (d:D) (h:AH) |bk (ae:AE) (h:AH) |ct (ae:AE) (h:AH) |exc (c:Str) (ae:AE) (h:AH) |stuck
abbrev ME:=AE->AH->R D
abbrev MT:=AE->AH->R Bool
abbrev MA:=AE->AH->R (List D)
abbrev MS:=AE->AH->SR
abbrev Fn:=List D->AH->R D
def R.bind{α β:Type}(r:R α)(f:α->AH->R β):R β:=match r with
 |.ok a h=>f a h
 |.exc c h=>.exc c h
 |.stuck=>.stuck
section
variable(K:W.Frag)(mg:Ua)
mutual
inductive RelD(ρ:List Addr)(H:Hp):D->V->Prop where
 |non:RelD ρ H .non .non
 |bl (b:Bool):RelD ρ H (.bl b) (.bl b)
 |int (i:Int):RelD ρ H (.int i) (.int i)
 |str (x:Str):RelD ρ H (.str x) (.str x)
 |ty (n:String):RelD ρ H (.ty n) (.ty n)
 |glb {x:Str}{a:Addr} (m:mg x=some (.ref a)):RelD ρ H (.glb x) (.ref a)
 |exc {x:Str}{a C:Addr} (m:mg x=some (.ref C)) (e:H a=some (.ext (DK a C))):RelD ρ H (.exc x) (.ref a)
 |tup {p:Addr}{vs:List V}{ds:List D} (h:SqT K H p vs) (r:RelDs ρ H ds vs):RelD ρ H (.tup ds) (.ref p)
 |ref {n:Nat}{a:Addr} (e:ρ[n]?=some a):RelD ρ H (.ref n) (.ref a)
 |kl {a:Addr}{vs:List V}{ds:List D} (h:∃(o:Obj) (its:Array Value) (n:Nat),K.lookup a=some o/\o.cls=.type "list" /\ o.dict=none/\o.data=.seq its n/\its.size<=sizeLine/\Vals vs its.toList) (r:RelDs ρ H ds vs):RelD ρ H (.kl ds) (.ref a)
inductive RelDs(ρ:List Addr)(H:Hp):List D->List V->Prop where
 |nil:RelDs ρ H [] []
 |cons {d:D}{v:V}{ds:List D}{vs:List V} (r:RelD ρ H d v) (rr:RelDs ρ H ds vs):RelDs ρ H (d::ds) (v::vs)
end
structure Le(ρ:List Addr)(H:Hp)(ρ':List Addr)(H':Hp):Prop where
 pre:∀(n:Nat) (a:Addr),ρ[n]?=some a->ρ'[n]?=some a
 tup:∀b xs,H b=some (.tup xs)->H' b=some (.tup xs)
 frz:∀b o u,H b=some (.frz o u)->H' b=some (.frz o u)
 ext:∀b φ,H b=some (.ext φ)->H' b=some (.ext φ)
def ObR(ρ:List Addr)(H:Hp)(a:Addr):Ob->Prop
 |.lst ds=>∃vs,H a=some (.lst vs)/\RelDs K mg ρ H ds vs
 |.fz ds=>∃o vs,H a=some (.frz o (.lst vs))/\RelDs K mg ρ H ds vs
 |.set xs=>xs.Nodup/\H a=some (.set (λi=>decide (i∈xs)) xs.length)
 |.dct kvs=>∃ws,H a=some (.dK ws)/\ws.map (·.1)=kvs.map (·.1)/\RelDs K mg ρ H (kvs.map (·.2)) (ws.map (·.2))
 |.any=>∃o,H a=some o
structure Wd(ρ:List Addr)(h:AH)(H:Hp):Prop where
 len:ρ.length=h.length
 nd:ρ.Nodup
 ob:∀(n:Nat) (a:Addr) (o:Ob),ρ[n]?=some a->h[n]?=some o->ObR K mg ρ H a o
structure RelE(ρ:List Addr)(H:Hp)(ae:AE)(σ:St):Prop where
 len:ae.length=σ.length
 at_:∀(i:Nat) (d:D),ae[i]?=some (some d)->∃v,σ[i]?=some (some v)/\RelD K mg ρ H d v
def PostG{α:Type}(ρ:List Addr)(H:Hp)(E:XK)(k:α->AH->List Addr->Hp->Prop):R α->Prop
 |.ok a h=>∀ρ' H',Le ρ H ρ' H'->Wd K mg ρ' h H'->k a h ρ' H'
 |.exc c h=>∀ρ' H' C,Le ρ H ρ' H'->Wd K mg ρ' h H'->mg c=some (.ref C)->E (.ref C) none H'
 |.stuck=>False
abbrev eV(ρ:List Addr)(H:Hp)(Q:VK)(E:XK)(r:R D):Prop:=PostG K mg ρ H E (λd _ ρ' H'=>∀v,RelD K mg ρ' H' d v->Q v H') r
abbrev Ew(ρ:List Addr)(H:Hp)(Q:Bool->Hp->Prop)(E:XK)(r:R Bool):Prop:=PostG K mg ρ H E (λb _ ρ' H'=>Q b H') r
abbrev Er(ρ:List Addr)(H:Hp)(Q:List V->Hp->Prop)(E:XK)(r:R (List D)):Prop:=PostG K mg ρ H E (λd _ ρ' H'=>∀vs,RelDs K mg ρ' H' d vs->Q vs H') r
def PostS(ρ:List Addr)(H:Hp)(D:Ends)(ES:St->XK):SR->Prop
 |.nx ae h=>∀ρ' H' σ',Le ρ H ρ' H'->Wd K mg ρ' h H'->RelE K mg ρ' H' ae σ'->D.nx σ' H'
 |.bk ae h=>∀ρ' H' σ',Le ρ H ρ' H'->Wd K mg ρ' h H'->RelE K mg ρ' H' ae σ'->D.bk σ' H'
 |.ct ae h=>∀ρ' H' σ',Le ρ H ρ' H'->Wd K mg ρ' h H'->RelE K mg ρ' H' ae σ'->D.ct σ' H'
 |.rt d h=>∀ρ' H' v,Le ρ H ρ' H'->Wd K mg ρ' h H'->RelD K mg ρ' H' d v->D.rt v H'
 |.exc c ae h=>∀ρ' H' σ' C,Le ρ H ρ' H'->Wd K mg ρ' h H'->RelE K mg ρ' H' ae σ'->mg c=some (.ref C)->ES σ' (.ref C) none H'
 |.stuck=>False
def rdE(ES:St->XK)(F:ME):TE:=λσ H Q=>∃ρ h ae,Wd K mg ρ h H/\RelE K mg ρ H ae σ/\eV K mg ρ H Q (ES σ) (F ae h)
def rdT(ES:St->XK)(F:MT):TT:=λσ H Q=>∃ρ h ae,Wd K mg ρ h H/\RelE K mg ρ H ae σ/\Ew K mg ρ H Q (ES σ) (F ae h)
def rdA(ES:St->XK)(F:MA):TA:=λσ H Q=>∃ρ h ae,Wd K mg ρ h H/\RelE K mg ρ H ae σ/\Er K mg ρ H Q (ES σ) (F ae h)
def rdS(ES:St->XK)(F:MS):TS:=λD σ H=>∃ρ h ae,Wd K mg ρ h H/\RelE K mg ρ H ae σ/\PostS K mg ρ H D ES (F ae h)
def spD(n:Nat)(S:Fn):Sp:=λvs H Q E=>∃ρ h ds,Wd K mg ρ h H/\RelDs K mg ρ H ds vs/\ds.length=n/\eV K mg ρ H Q E (S ds h)
end
def rdE.el{K:W.Frag}{mg:Ua}{ES:St->XK}{F:ME}{σ:St}{H:Hp}{Q:VK}{C:Prop}(q:rdE K mg ES F σ H Q)(k:∀ρ h ae,Wd K mg ρ h H->RelE K mg ρ H ae σ->eV K mg ρ H Q (ES σ) (F ae h)->C):C:=by
 obtain⟨ρ,h,ae,w,re,p⟩:=q
 exact k ρ h ae w re p
def rdT.el{K:W.Frag}{mg:Ua}{ES:St->XK}{F:MT}{σ:St}{H:Hp}{Q:Bool->Hp->Prop}{C:Prop}(q:rdT K mg ES F σ H Q)(k:∀ρ h ae,Wd K mg ρ h H->RelE K mg ρ H ae σ->Ew K mg ρ H Q (ES σ) (F ae h)->C):C:=by
 obtain⟨ρ,h,ae,w,re,p⟩:=q
 exact k ρ h ae w re p
def rdA.el{K:W.Frag}{mg:Ua}{ES:St->XK}{F:MA}{σ:St}{H:Hp}{Q:List V->Hp->Prop}{C:Prop}(q:rdA K mg ES F σ H Q)(k:∀ρ h ae,Wd K mg ρ h H->RelE K mg ρ H ae σ->Er K mg ρ H Q (ES σ) (F ae h)->C):C:=by
 obtain⟨ρ,h,ae,w,re,p⟩:=q
 exact k ρ h ae w re p
def rdS.el{K:W.Frag}{mg:Ua}{ES:St->XK}{F:MS}{σ:St}{H:Hp}{De:Ends}{C:Prop}(q:rdS K mg ES F De σ H)(k:∀ρ h ae,Wd K mg ρ h H->RelE K mg ρ H ae σ->PostS K mg ρ H De ES (F ae h)->C):C:=by
 obtain⟨ρ,h,ae,w,re,p⟩:=q
 exact k ρ h ae w re p
section
variable{K:W.Frag}{mg:Ua}{ρ ρ' ρ1:List Addr}{H H' H1:Hp}{h h':AH}{ae:AE}{σ:St}
noncomputable def Le.refl:Le ρ H ρ H:=⟨λ_ _ e=>e,λ_ _ e=>e,λ_ _ _ e=>e,λ_ _ e=>e⟩
noncomputable def Le.trans(a:Le ρ H ρ1 H1)(b:Le ρ1 H1 ρ' H'):Le ρ H ρ' H':=
 ⟨λn x e=>b.pre n x (a.pre n x e),λx y e=>b.tup x y (a.tup x y e),λx y z e=>b.frz x y z (a.frz x y z e),λx y e=>b.ext x y (a.ext x y e)⟩
noncomputable def Le.sqT(l:Le ρ H ρ' H')(q:SqT K H a xs):SqT K H' a xs:=by
 rcases q with (q |⟨o,q⟩) |q
 ·exact .inl (.inl (l.tup _ _ q))
 ·exact .inl (.inr ⟨o,l.frz _ _ _ q⟩)
 ·exact .inr q
def RelD.mono(l:Le ρ H ρ' H')(r:RelD K mg ρ H d v):RelD K mg ρ' H' d v:=
 RelD.rec (motive_1:=λd v _=>RelD K mg ρ' H' d v) (motive_2:=λds vs _=>RelDs K mg ρ' H' ds vs) .non (λb=>.bl b) (λi=>.int i) (λx=>.str x) (λn=>.ty n) (λm=>.glb m) (λm e=>.exc m (l.ext _ _ e)) (λh _ ih=>.tup (l.sqT h) ih) (λe=>.ref (l.pre _ _ e)) (λh _ ih=>.kl h ih) .nil (λ_ _ a b=>.cons a b) r
def RelDs.ind{M:List D->List V->Prop}(h0:M [] [])(h1:∀{d v ds vs},RelD K mg ρ H d v->RelDs K mg ρ H ds vs->M ds vs->M (d::ds) (v::vs)){ds:List D}{vs:List V}(r:RelDs K mg ρ H ds vs):M ds vs:=by
 induction ds generalizing vs with
 |nil=>cases r;exact h0
 |
  cons d ds ih=>
  cases r with
  |cons r rr=>exact h1 r rr (ih rr)
def RelDs.mono(l:Le ρ H ρ' H'){ds:List D}{vs:List V}(r:RelDs K mg ρ H ds vs):RelDs K mg ρ' H' ds vs:=r.ind .nil λr _ ih=>.cons (r.mono l) ih
def RelDs.len{ds:List D}{vs:List V}(r:RelDs K mg ρ H ds vs):ds.length=vs.length:=r.ind (M:=λds vs=>ds.length=vs.length) rfl λ_ _ ih=>Ru (· + 1) ih
def RelDs.getD{ds:List D}{vs:List V}{i:Nat}{d:D}(r:RelDs K mg ρ H ds vs)(e:ds[i]?=some d):∃v,vs[i]?=some v/\RelD K mg ρ H d v:=
 r.ind (M:=λds vs=>∀i,ds[i]?=some d->∃v,vs[i]?=some v/\RelD K mg ρ H d v) (λ_ e=>by rw[Tf] at e;cases e) (λr _ ih i e=>match i,e with
  |0,e=>by cases e;exact⟨_,rfl,r⟩
  |i+1,e=>ih i e) i e
noncomputable def RelDs.append{ds es:List D}{vs ws:List V}(r:RelDs K mg ρ H ds vs)(q:RelDs K mg ρ H es ws):RelDs K mg ρ H (ds++es) (vs++ws):=r.ind (M:=λds vs=>RelDs K mg ρ H (ds++es) (vs++ws)) q λr _ ih=>.cons r ih
def RelDs.take{ds:List D}{vs:List V}(n:Nat)(r:RelDs K mg ρ H ds vs):RelDs K mg ρ H (ds.take n) (vs.take n):=
 r.ind (M:=λds vs=>∀n:Nat,RelDs K mg ρ H (ds.take n) (vs.take n)) (λn=>by rw[Sh,Sh];exact .nil) (λr _ ih n=>by cases n with |zero=>exact .nil |succ n=>exact .cons r (ih n)) n
def RelDs.drop{ds:List D}{vs:List V}(n:Nat)(r:RelDs K mg ρ H ds vs):RelDs K mg ρ H (ds.drop n) (vs.drop n):=
 r.ind (M:=λds vs=>∀n:Nat,RelDs K mg ρ H (ds.drop n) (vs.drop n)) (λn=>by rw[SN,SN];exact .nil) (λr rr ih n=>by cases n with |zero=>exact .cons r rr |succ n=>exact ih n) n
def RelDs.set{d:D}{v:V}(r:RelD K mg ρ H d v){ds:List D}{vs:List V}(i:Nat)(q:RelDs K mg ρ H ds vs):RelDs K mg ρ H (ds.set i d) (vs.set i v):=
 q.ind (M:=λds vs=>∀i:Nat,RelDs K mg ρ H (ds.set i d) (vs.set i v)) (λ_=>.nil) (λq qq ih i=>by cases i with |zero=>exact .cons r qq |succ i=>exact .cons q (ih i)) i
def RelDs.ints:∀{ns:List Int}{vs:List V},RelDs K mg ρ H (ns.map D.int) vs->vs=ns.map V.int:=by
 intro ns
 induction ns with
 |nil=>intro vs r;cases r;rfl
 |
  cons n ns ih=>
  intro vs r
  cases r with
  |cons r rr=>cases r;rw[ih rr];rfl
def RelDs.bls:∀{ns:List Bool}{vs:List V},RelDs K mg ρ H (ns.map D.bl) vs->vs=ns.map V.bl:=by
 intro ns
 induction ns with
 |nil=>intro vs r;cases r;rfl
 |
  cons n ns ih=>
  intro vs r
  cases r with
  |cons r rr=>cases r;rw[ih rr];rfl
def RelE.mono(l:Le ρ H ρ' H')(r:RelE K mg ρ H ae σ):RelE K mg ρ' H' ae σ:=⟨r.len,λi d e=>by
 obtain⟨v,h1,h2⟩:=r.at_ i d e
 exact⟨v,h1,h2.mono l⟩⟩
def RelE.set(i:Nat)(r:RelE K mg ρ H ae σ)(q:RelD K mg ρ H d v):RelE K mg ρ H (ae.set i (some d)) (σ.set i (some v)):=⟨by rw[QH,QH];exact r.len,λj d' e=>by
 rw[Tg] at e ⊢
 by_cases hij:i=j
 ·rw[if_pos hij] at e ⊢
  by_cases hi:i<ae.length
  ·rw[if_pos hi] at e
   cases e
   rw[if_pos (by rw[<- r.len];exact hi)]
   exact⟨v,rfl,q⟩
  ·rw[if_neg hi] at e;cases e
 ·rw[if_neg hij] at e ⊢
  exact r.at_ j d' e⟩
def ObR.mono(l:Le ρ H ρ' H')(e:H' a=H a)(q:ObR K mg ρ H a o):ObR K mg ρ' H' a o:=by
 cases o with
 |lst ds=>obtain⟨vs,h1,h2⟩:=q;exact⟨vs,e.trans h1,h2.mono l⟩
 |fz ds=>obtain⟨o,vs,h1,h2⟩:=q;exact⟨o,vs,e.trans h1,h2.mono l⟩
 |set xs=>exact⟨q.1,e.trans q.2⟩
 |dct kvs=>obtain⟨ws,h1,h2,h3⟩:=q;exact⟨ws,e.trans h1,h2,h3.mono l⟩
 |any=>obtain⟨o,h1⟩:=q;exact⟨o,e.trans h1⟩
def ObR.there(q:ObR K mg ρ H a o):∃u,H a=some u:=by
 cases o with
 |lst ds=>obtain⟨vs,h1,_⟩:=q;exact⟨_,h1⟩
 |fz ds=>obtain⟨o,vs,h1,_⟩:=q;exact⟨_,h1⟩
 |set xs=>exact⟨_,q.2⟩
 |dct kvs=>obtain⟨ws,h1,_⟩:=q;exact⟨_,h1⟩
 |any=>exact q
def Wd.fresh(w:Wd K mg ρ h H)(hp:H p=none):p∉ρ:=λhm=>by
 obtain⟨n,hn⟩:=Tx hm
 have hl:n<h.length:=by rw[<- w.len];exact (Qs.mp hn).1
 obtain⟨u,hu⟩:=(w.ob n p h[n] hn (QF hl)).there
 rw[hp] at hu;cases hu
def er(hp:H p=none):Le ρ H ρ (upd H p o):=
 ⟨λ_ _ e=>e,λb xs e=>by rw[aR (cH e hp)];exact e,λb xs u e=>by rw[aR (cH e hp)];exact e,λb xs e=>by rw[aR (cH e hp)];exact e⟩
noncomputable def kI:Le ρ H (ρ++m) H:=
 ⟨λn a e=>by rw[QR (Qs.mp e).1];exact e,λ_ _ e=>e,λ_ _ _ e=>e,λ_ _ e=>e⟩
def Wd.alloc(w:Wd K mg ρ h H)(hp:H p=none)(hn:ObR K mg (ρ++[p]) (upd H p u) p o):Wd K mg (ρ++[p]) (h++[o]) (upd H p u):=by
 refine⟨by rw[Qw,Qw,w.len];rfl,?_,λn a ob e1 e2=>?_⟩
 ·rw[List.nodup_append]
  exact⟨w.nd,by simp,λa ha b hb=>by rw[Sj] at hb;subst hb;intro z;subst z;exact w.fresh hp ha⟩
 ·by_cases hl:n<ρ.length
  ·rw[QR hl] at e1
   rw[QR (by rw[<- w.len];exact hl)] at e2
   have q:=w.ob n a ob e1 e2
   obtain⟨v,hv⟩:=q.there
   exact q.mono ((er hp).trans kI) (aR (cH hv hp))
  ·have h1:n=ρ.length:=by
    have:=(Qs.mp e1).1
    rw[Qw] at this
    simp at this
    omega
   subst h1
   rw[QO (Qu _),RL] at e1
   rw[w.len,QO (Qu _),RL] at e2
   simp at e1 e2
   subst e1 e2
   exact hn
def Wd.tuple(w:Wd K mg ρ h H)(hp:H p=none):Wd K mg ρ h (upd H p u):=
 ⟨w.len,w.nd,λn a ob e1 e2=>by
  have q:=w.ob n a ob e1 e2
  obtain⟨v,hv⟩:=q.there
  exact q.mono (er hp) (aR (cH hv hp))⟩
def nA(e:H a=some u)(hu:(∀xs,u ≠ .tup xs)/\(∀x y,u ≠ .frz x y)/\∀φ,u ≠ .ext φ):Le ρ H ρ (upd H a o):=by
 refine⟨λ_ _ e=>e,λb xs q=>?_,λb x y q=>?_,λb φ q=>?_⟩ <;> rw[aR] <;> (try exact q) <;> (intro z;subst z;rw[e] at q;have:=QK q;first |exact hu.1 _ this |exact hu.2.1 _ _ this |exact hu.2.2 _ this)
def Wd.write{n:Nat}{a:Addr}{o u:HO}{ob:Ob}(w:Wd K mg ρ h H)(ea:ρ[n]?=some a)(e:H a=some u)(hu:(∀xs,u ≠ .tup xs)/\(∀x y,u ≠ .frz x y)/\∀φ,u ≠ .ext φ)
 (hn:ObR K mg ρ (upd H a o) a ob):Wd K mg ρ (h.set n ob) (upd H a o):=by
 refine⟨by rw[QH];exact w.len,w.nd,λm b ob' e1 e2=>?_⟩
 rw[Tg] at e2
 by_cases hm:n=m
 ·subst hm
  rw[ea] at e1;cases e1
  rw[if_pos rfl] at e2
  split at e2
  ·cases e2;exact hn
  ·cases e2
 ·rw[if_neg hm] at e2
  have q:=w.ob m b ob' e1 e2
  refine q.mono (nA e hu) (aR λz=>hm ?_)
  subst z
  have h1:=(Qs.mp e1)
  have h2:=(Qs.mp ea)
  exact (List.getElem_inj (h₀:=h2.1) (h₁:=h1.1) w.nd).mp (h2.2.trans h1.2.symm)
def sZ:(∀xs,HO.lst vs ≠ .tup xs)/\(∀x y,HO.lst vs ≠ .frz x y)/\∀φ,HO.lst vs ≠ .ext φ:=⟨λ_ z=>(nomatch z),λ_ _ z=>(nomatch z),λ_ z=>(nomatch z)⟩
def EG:(∀xs,HO.set S n ≠ .tup xs)/\(∀x y,HO.set S n ≠ .frz x y)/\∀φ,HO.set S n ≠ .ext φ:=⟨λ_ z=>(nomatch z),λ_ _ z=>(nomatch z),λ_ z=>(nomatch z)⟩
noncomputable def yF:(∀xs,HO.dK ws ≠ .tup xs)/\(∀x y,HO.dK ws ≠ .frz x y)/\∀φ,HO.dK ws ≠ .ext φ:=⟨λ_ z=>(nomatch z),λ_ _ z=>(nomatch z),λ_ z=>(nomatch z)⟩
def PostG.mono(l:Le ρ H ρ' H')(p:PostG K mg ρ H E k r):PostG K mg ρ' H' E k r:=by
 cases r with
 |ok d h=>exact λρ2 H2 l2=>p ρ2 H2 (l.trans l2)
 |exc c h=>exact λρ2 H2 C l2=>p ρ2 H2 C (l.trans l2)
 |stuck=>exact p
def PostG.imp(p:PostG K mg ρ H E k r)(i:∀a h1 ρ' H',Le ρ H ρ' H'->Wd K mg ρ' h1 H'->k a h1 ρ' H'->k' a h1 ρ' H'):PostG K mg ρ H E k' r:=by
 cases r with
 |ok d h=>exact λρ2 H2 l2 w2=>i _ _ _ _ l2 w2 (p ρ2 H2 l2 w2)
 |exc c h=>exact p
 |stuck=>exact p
def PostG.bind(p:PostG K mg ρ H E k (r.bind f)):PostG K mg ρ H E (λa h1 ρ' H'=>PostG K mg ρ' H' E k (f a h1)) r:=by
 cases r with
 |ok d h=>exact λρ2 H2 l2 w2=>PostG.mono l2 p
 |exc c h=>exact p
 |stuck=>exact p
def PostS.mono(l:Le ρ H ρ' H')(p:PostS K mg ρ H De ES r):PostS K mg ρ' H' De ES r:=by
 cases r with
 |nx ae h=>exact λρ2 H2 σ l2=>p ρ2 H2 σ (l.trans l2)
 |bk ae h=>exact λρ2 H2 σ l2=>p ρ2 H2 σ (l.trans l2)
 |ct ae h=>exact λρ2 H2 σ l2=>p ρ2 H2 σ (l.trans l2)
 |rt d h=>exact λρ2 H2 v l2=>p ρ2 H2 v (l.trans l2)
 |exc c ae h=>exact λρ2 H2 σ C l2=>p ρ2 H2 σ C (l.trans l2)
 |stuck=>exact p
end
section
variable{X:Cx}{e:Expr}{es:List Expr}{st:Stmt}{sts:List Stmt}
def PE.imp(h:PE X e t)(k:∀σ H Q,t' σ H Q->t σ H Q):PE X e t':=λpins s σ H Q I w=>h pins s σ H Q I (k σ H Q w)
def PT.imp(h:PT X e t)(k:∀σ H Q,t' σ H Q->t σ H Q):PT X e t':=λpins s σ H Q I w=>h pins s σ H Q I (k σ H Q w)
def PW.imp(h:PW X e t)(k:∀σ H Q,t' σ H Q->t σ H Q):PW X e t':=λwh pins s σ H Q I w=>h wh pins s σ H Q I (k σ H Q w)
def PA.imp(h:PA X es t)(k:∀σ H Q,t' σ H Q->t σ H Q):PA X es t':=λpos pins s σ H Q I w=>h pos pins s σ H Q I (k σ H Q w)
def PS.imp(h:PS X st t)(k:∀D σ H,t' D σ H->t D σ H):PS X st t':=λpins s σ H D I w=>h pins s σ H D I (k D σ H w)
def PSs.imp(h:PSs X sts t)(k:∀D σ H,t' D σ H->t D σ H):PSs X sts t':=λpins s σ H D I w=>h pins s σ H D I (k D σ H w)
def PG.imp(h:PG X e t)(k:∀v σ H Q,t' v σ H Q->t v σ H Q):PG X e t':=λpins s σ H v u Q I r w=>h pins s σ H v u Q I r (k v σ H Q w)
def PGs.imp(h:PGs X es t)(k:∀v σ H Q,t' v σ H Q->t v σ H Q):PGs X es t':=λpins s σ H v u Q I r w=>h pins s σ H v u Q I r (k v σ H Q w)
def PO.imp(h:PO X o t)(k:∀σ H Q,t' σ H Q->t σ H Q):PO X o t':=λpins s σ H Q I w=>h pins s σ H Q I (k σ H Q w)
end
section
variable(K:W.Frag)(mg:Ua)(X:Cx)(ES:St->XK)
def DE(e:Expr)(F:ME):Prop:=PE X e (rdE K mg ES F)
def DT(e:Expr)(F:MT):Prop:=PT X e (rdT K mg ES F)
def DW(e:Expr)(F:MT):Prop:=PW X e (rdT K mg ES F)
def DA(es:List Expr)(F:MA):Prop:=PA X es (rdA K mg ES F)
def DS(st:Stmt)(F:MS):Prop:=PS X st (rdS K mg ES F)
def DSs(st:List Stmt)(F:MS):Prop:=PSs X st (rdS K mg ES F)
end
def OpD(K:W.Frag)(mg:Ua)(r:R2)(g:D->D->AH->R D):Prop:=∀ρ h H dx dy x y Q E,Wd K mg ρ h H->RelD K mg ρ H dx x->RelD K mg ρ H dy y->eV K mg ρ H Q E (g dx dy h)->r x y H Q
def UnD(K:W.Frag)(mg:Ua)(r:V->Hp->VK->Prop)(g:D->AH->R D):Prop:=∀ρ h H dx x Q E,Wd K mg ρ h H->RelD K mg ρ H dx x->eV K mg ρ H Q E (g dx h)->r x H Q
def bO(K:W.Frag)(mg:Ua)(r:List V->Hp->VK->Prop)(g:Fn):Prop:=∀ρ h H ds vs Q E,Wd K mg ρ h H->RelDs K mg ρ H ds vs->eV K mg ρ H Q E (g ds h)->r vs H Q
def ba(i:Nat):ME:=λae h=>match ae[i]? with
 |some (some d)=>.ok d h
 |_=>.stuck
def eC(d:D):ME:=λ_ h=>.ok d h
def eOp(g:D->D->AH->R D)(F G:ME):ME:=λae h=>(F ae h).bind λx h1=>(G ae h1).bind λy h2=>g x y h2
def eUn(g:D->AH->R D)(F:ME):ME:=λae h=>(F ae h).bind g
def fK:MA:=λ_ h=>.ok [] h
def eR(F:ME)(G:MA):MA:=λae h=>(F ae h).bind λx h1=>(G ae h1).bind λxs h2=>.ok (x::xs) h2
def eFn(g:Fn)(A:MA):ME:=λae h=>(A ae h).bind g
def pK(ds:List D)(h:AH):R D:=if ds.length<=16777216 then .ok (.tup ds) h else .stuck
def cE(ds:List D)(h:AH):R D:=if ds.length<=16777216 then .ok (.ref h.length) (h++[.lst ds]) else .stuck
def asB(d:D)(h:AH):R Bool:=match d with
 |.bl b=>.ok b h
 |_=>.stuck
def CN(F G:ME):ME:=λae h=>(F ae h).bind λx h1=>(asB x h1).bind λb h2=>if b=true then G ae h2 else .ok (.bl false) h2
def C2(F:ME):ME:=λae h=>(F ae h).bind λx h1=>(asB x h1).bind λb h2=>.ok (.bl (!b)) h2
def eIf(c:MT)(F G:ME):ME:=λae h=>(c ae h).bind λb h1=>if b=true then F ae h1 else G ae h1
def tOf(F:ME):MT:=λae h=>(F ae h).bind asB
def tAn(c d:MT):MT:=λae h=>(c ae h).bind λb h1=>if b=true then d ae h1 else .ok false h1
def tO(c d:MT):MT:=λae h=>(c ae h).bind λb h1=>if b=true then .ok true h1 else d ae h1
def tNo(c:MT):MT:=λae h=>(c ae h).bind λb h1=>.ok (!b) h1
section
variable{K:W.Frag}{mg:Ua}{ρ:List Addr}{H:Hp}{h:AH}
def jq(w:Wd K mg ρ h H)(rs:RelDs K mg ρ H ds vs)(hp:H p=none)(q:eV K mg ρ H Q E (.ok (.ref h.length) (h++[.lst ds]))):Q (.ref p) (upd H p (.lst vs)):=by
 have l:Le ρ H (ρ++[p]) (upd H p (.lst vs)):=(er hp).trans kI
 refine q (ρ++[p]) _ l (w.alloc hp ⟨vs,bR,rs.mono l⟩) _ (.ref ?_)
 rw[<- w.len,QO (Qu _),RL]
 rfl
def lA(w:Wd K mg ρ h H)(rs:RelDs K mg ρ H ds vs)(hp:H p=none)(q:eV K mg ρ H Q E (.ok (.tup ds) h)):Q (.ref p) (upd H p (.tup vs)):=
 q ρ _ (er hp) (w.tuple hp) _ (.tup (SqT.of bR) (rs.mono (er hp)))
def aG(w:Wd K mg ρ h H)(r:RelD K mg ρ H d v)(q:eV K mg ρ H Q E (.ok d h)):Q v H:=q ρ H Le.refl w v r
end
section
variable{K:W.Frag}{mg:Ua}{X:Cx}{ES:St->XK}{e a b c:Expr}{es:List Expr}{F G:ME}{A:MA}{cf cg:MT}{pos:Pos}
def Lq(i:Nat)(hN:X.N[i]?=some x:=by rfl)(hv:Vis X.env.scope x:=by first |exact Or.inl rfl |exact Or.inr (Or.inl rfl) |exact Or.inr (Or.inr rfl))(hd:(x==("__debug__" : Str))=false:=by decide)
 (hcd:(x==("__classdict__" : Str))=false:=by decide):DE K mg X ES (.Name x pos) (ba i):=PE.imp (A4 hN hv hd hcd) λσ H Q q_=>q_.el λρ h ae w re p=>by
 unfold ba at p
 split at p
 ·rename_i d ed
  obtain⟨v,e1,r⟩:=re.at_ i d ed
  exact⟨v,e1,aG w r p⟩
 ·exact p.elim
def qB(hp:PE X e (tC v))(r:∀ρ H,RelD K mg ρ H d v):DE K mg X ES e (eC d):=PE.imp hp λσ H Q q_=>q_.el λρ h ae w re p=>aG w (r ρ H) p
def H0:DE K mg X ES (.Constant (.int i) j pos) (eC (.int i)):=qB Kv λ_ _=>.int i
def Mb:DE K mg X ES (.Constant (.bool i) j pos) (eC (.bl i)):=qB M3 λ_ _=>.bl i
def IX:DE K mg X ES (.Constant .none j pos) (eC .non):=qB Ho λ_ _=>.non
def Ky:DE K mg X ES (.Constant (.str x) j pos) (eC (.str x)):=qB zM λ_ _=>.str x
structure GC(K:W.Frag)(mg:Ua)(x:Str)(d:D):Prop where
 ex:∃u v,mg x=some u/\RelV v u/\∀ρ H,RelD K mg ρ H d v
def LD(hg:Gl X x)(ha:GC K mg x d)(hm:X.mg=mg:=by rfl)(hd:(x==("__debug__" : Str))=false:=by decide):DE K mg X ES (.Name x pos) (eC d):=by
 subst hm
 obtain⟨u,v,h1,h2,h3⟩:=ha.ex
 exact qB (FN hg h1 h2 hd) h3
def MW(hg:Gl X x)(hm:mg x=none)(hv:bootBuiltins x=some (.type n))(he:X.mg=mg:=by rfl)(hn:x ≠ "__name__":=by decide)(hd:(x==("__debug__" : Str))=false:=by decide):DE K mg X ES (.Name x pos) (eC (.ty n)):=by
 subst he
 exact qB (GF hg hm hv (v:=.ty n) rfl hn hd) λ_ _=>.ty n
def sX(hd:OpD K mg r g)(σ:St)(H:Hp)(Q:VK)(q:rdE K mg ES (eOp g F G) σ H Q):tOp r (rdE K mg ES F) (rdE K mg ES G) σ H Q:=by
 obtain⟨ρ,h,ae,w,re,p⟩:=q
 exact⟨ρ,h,ae,w,re,p.bind.imp λdx h1 ρ1 H1 l1 w1 p1 x rx=>⟨ρ1,h1,ae,w1,re.mono l1,p1.bind.imp λdy h2 ρ2 H2 l2 w2 p2 y ry=>hd ρ2 h2 H2 dx dy x y Q _ w2 (rx.mono l2) ry p2⟩⟩
def L4(ho:OpR X (binaryOp op) r)(hd:OpD K mg r g)(ha:DE K mg X ES a F)(hb:DE K mg X ES b G):DE K mg X ES (.BinOp a op b pos) (eOp g F G):=PE.imp (Nf ho ha hb) (sX hd)
def D7(hr:IxR X r)(hd:OpD K mg r g)(ha:DE K mg X ES a F)(hb:DE K mg X ES b G)(hs:nD b):DE K mg X ES (.Subscript a b pos) (eOp g F G):=PE.imp (Mo hr ha hb hs) (sX hd)
def K3(ho:OpR X (compareOp op) r)(hd:OpD K mg r g)(ha:DE K mg X ES a F)(hb:DE K mg X ES b G)(hm:behindInMarks op b=false):DE K mg X ES (.Compare a [op] [b] pos) (eOp g F G):=PE.imp (FC ho ha hb hm) (sX hd)
def xt(σ:St)(H:Hp)(Q:Bool->Hp->Prop)(q:rdT K mg ES (tOf F) σ H Q):rdE K mg ES F σ H λx H'=>∃k,x=.bl k/\Q k H':=by
 obtain⟨ρ,h,ae,w,re,p⟩:=q
 refine⟨ρ,h,ae,w,re,p.bind.imp λd h1 ρ1 H1 l1 w1 p1 x rx=>?_⟩
 unfold asB at p1
 split at p1
 ·cases rx;exact⟨_,rfl,p1 ρ1 H1 Le.refl w1⟩
 ·exact p1.elim
def Hf(ho:OpR X (compareOp op) r)(hd:OpD K mg r g)(ha:DE K mg X ES a F)(hb:DE K mg X ES b G)(hm:behindInMarks op b=false):DT K mg X ES (.Compare a [op] [b] pos) (tOf (eOp g F G)):=
 PT.imp (FG ho ha hb hm) λσ H Q q=>sX hd σ H _ (xt σ H Q q)
def J9(ha:DE K mg X ES a F)(he:∀db,isTrue a X.env db=(do let v <- db;standAt a.pos;holding [v] (truthy v)):=by intro _;rfl):DT K mg X ES a (tOf F):=
 PT.imp (JE ha he) λσ H Q q=>xt σ H Q q
def Ig(ha:DT K mg X ES a cf):DT K mg X ES (.UnaryOp .Not a pos) (tNo cf):=PT.imp (ID ha) λσ H Q q_=>q_.el λρ h ae w re p=>
 ⟨ρ,h,ae,w,re,p.bind.imp λb h1 ρ1 H1 l1 w1 p1=>p1 ρ1 H1 Le.refl w1⟩
def E9(ha:DT K mg X ES a cf):DW K mg X ES (.BoolOp .And [a] pos) cf:=GH ha
def J8(ha:DT K mg X ES a cf):DW K mg X ES (.BoolOp .Or [a] pos) cf:=JV ha
def K7(ha:DT K mg X ES a cf)(hb:DW K mg X ES (.BoolOp .And (b::es) pos) cg):DW K mg X ES (.BoolOp .And (a::b::es) pos) (tAn cf cg):=PW.imp (Ke ha hb) λσ H Q q_=>q_.el λρ h ae w re p=>
 ⟨ρ,h,ae,w,re,p.bind.imp λb h1 ρ1 H1 l1 w1 p1=>by
  cases b with
  |true=>exact⟨ρ1,h1,ae,w1,re.mono l1,p1⟩
  |false=>exact p1 ρ1 H1 Le.refl w1⟩
def N6(ha:DT K mg X ES a cf)(hb:DW K mg X ES (.BoolOp .Or (b::es) pos) cg):DW K mg X ES (.BoolOp .Or (a::b::es) pos) (tO cf cg):=PW.imp (L9 ha hb) λσ H Q q_=>q_.el λρ h ae w re p=>
 ⟨ρ,h,ae,w,re,p.bind.imp λb h1 ρ1 H1 l1 w1 p1=>by
  cases b with
  |true=>exact p1 ρ1 H1 Le.refl w1
  |false=>exact⟨ρ1,h1,ae,w1,re.mono l1,p1⟩⟩
def DW.dt(h:DW K mg X ES a cf):DT K mg X ES a cf:=PW.pt h
def Jd{op}(h:DE K mg X ES a F):DE K mg X ES (.BoolOp op [a] pos) F:=HD h
def Lj(ha:DE K mg X ES a F)(hb:DE K mg X ES (.BoolOp .And (b::es) pos) G):DE K mg X ES (.BoolOp .And (a::b::es) pos) (CN F G):=PE.imp (Ks ha hb) λσ H Q q_=>q_.el λρ h ae w re p=>by
 refine⟨ρ,h,ae,w,re,p.bind.imp λd h1 ρ1 H1 l1 w1 p1 x rx=>?_⟩
 unfold asB at p1
 split at p1
 ·rename_i b'
  cases rx
  refine⟨b',rfl,?_⟩
  cases b' with
  |true=>exact⟨ρ1,h1,ae,w1,re.mono l1,p1⟩
  |false=>exact p1 ρ1 H1 Le.refl w1 _ (.bl false)
 ·exact p1.elim
def KL(ha:DE K mg X ES a F):DE K mg X ES (.UnaryOp .Not a pos) (C2 F):=PE.imp (Kt ha) λσ H Q q_=>q_.el λρ h ae w re p=>by
 refine⟨ρ,h,ae,w,re,p.bind.imp λd h1 ρ1 H1 l1 w1 p1 x rx=>?_⟩
 unfold asB at p1
 split at p1
 ·cases rx
  exact⟨_,rfl,p1 ρ1 H1 Le.refl w1 _ (.bl _)⟩
 ·exact p1.elim
def Oj(hc:DT K mg X ES c cf)(ha:DE K mg X ES a F)(hb:DE K mg X ES b G):DE K mg X ES (.IfExp c a b pos) (eIf cf F G):=PE.imp (Dh hc ha hb) λσ H Q q_=>q_.el λρ h ae w re p=>
 ⟨ρ,h,ae,w,re,p.bind.imp λb h1 ρ1 H1 l1 w1 p1=>by
  cases b with
  |true=>exact⟨ρ1,h1,ae,w1,re.mono l1,p1⟩
  |false=>exact⟨ρ1,h1,ae,w1,re.mono l1,p1⟩⟩
def LY(ho:UnR X (unaryOp op) r)(hd:UnD K mg r g)(ha:DE K mg X ES a F):DE K mg X ES (.UnaryOp op a pos) (eUn g F):=PE.imp (MJ ho ha) λσ H Q q_=>q_.el λρ h ae w re p=>
 ⟨ρ,h,ae,w,re,p.bind.imp λd h1 ρ1 H1 l1 w1 p1 x rx=>hd ρ1 h1 H1 d x Q _ w1 rx p1⟩
def zy:DA K mg X ES [] fK:=PA.imp J2 λσ H Q q_=>q_.el λρ h ae w re p=>p ρ H Le.refl w _ .nil
def w6(ha:DE K mg X ES e F)(hr:DA K mg X ES es A)(hs:starEach (e::es) X.env=(false,eval e X.env)::starEach es X.env:=by rfl):DA K mg X ES (e::es) (eR F A):=PA.imp (FU ha hr hs) λσ H Q q_=>q_.el λρ h ae w re p=>
 ⟨ρ,h,ae,w,re,p.bind.imp λd h1 ρ1 H1 l1 w1 p1 x rx=>⟨ρ1,h1,ae,w1,re.mono l1,p1.bind.imp λds h2 ρ2 H2 l2 w2 p2 vs rs=>p2 ρ2 H2 Le.refl w2 _ (.cons (rx.mono l2) rs)⟩⟩
def HA{x1}(h:DA K mg X ES es A):DE K mg X ES (.Tuple es x1 pos) (eFn pK A):=PE.imp (Ji h) λσ H Q q_=>q_.el λρ h ae w re p=>
 ⟨ρ,
  h,ae,w,re,p.bind.imp λds h1 ρ1 H1 l1 w1 p1 vs rs=>by
  unfold pK at p1
  split at p1
  ·rename_i hl
   exact⟨by rw[<- rs.len];exact hl,λq hq=>lA w1 rs hq p1⟩
  ·exact p1.elim⟩
def HV(h:DA K mg X ES es A):DE K mg X ES (.List es pos) (eFn cE A):=PE.imp (HX h) λσ H Q q_=>q_.el λρ h ae w re p=>
 ⟨ρ,
  h,ae,w,re,p.bind.imp λds h1 ρ1 H1 l1 w1 p1 vs rs=>by
  unfold cE at p1
  split at p1
  ·rename_i hl
   exact⟨by rw[<- rs.len];exact hl,λq hq=>jq w1 rs hq p1⟩
  ·exact p1.elim⟩
def Ek(hd:bO K mg r g)(σ:St)(H:Hp)(Q:VK)(q:rdE K mg ES (eFn g A) σ H Q):tCB r (rdA K mg ES A) σ H Q:=by
 obtain⟨ρ,h,ae,w,re,p⟩:=q
 exact⟨ρ,h,ae,w,re,p.bind.imp λds h1 ρ1 H1 l1 w1 p1 vs rs=>hd ρ1 h1 H1 ds vs Q _ w1 rs p1⟩
def DM{id:String}{r:List V->Hp->VK->Prop}{g:Fn}{x:Str}{p:Pos}(hc:CallR X (.builtin id) r)(hd:bO K mg r g)(hg:Gl X x)(hm:mg x=none)(hv:bootBuiltins x=some (.builtin id))(ha:DA K mg X ES (e::es) A)(hk:X.mg=mg:=by rfl)(hn:x ≠ "__name__":=by decide)(hdb:(x==("__debug__" : Str))=false:=by decide)
 (he:starEach (e::es) X.env=(false,eval e X.env)::starEach es X.env:=by rfl) (hpl:(backTo pos (starEach es X.env)).any (·.1)=false:=by rfl):DE K mg X ES (.Call (.Name x p) (e::es) [] pos) (eFn g A):=by
 subst hk
 exact PE.imp (BR hc hg hm hv ha hn hdb he hpl) (Ek hd)
def A0(hc:CallR X (.type T) r)(hd:bO K mg r g)(hg:Gl X x)(hm:mg x=none)(hv:bootBuiltins x=some (.type T))(ha:DA K mg X ES (e::es) A)(hk:X.mg=mg:=by rfl)(hn:x ≠ "__name__":=by decide)(hdb:(x==("__debug__" : Str))=false:=by decide)
 (he:starEach (e::es) X.env=(false,eval e X.env)::starEach es X.env:=by rfl) (hpl:(backTo pos (starEach es X.env)).any (·.1)=false:=by rfl):DE K mg X ES (.Call (.Name x p) (e::es) [] pos) (eFn g A):=by
 subst hk
 exact PE.imp (AV hc hg hm hv ha hn hdb he hpl) (Ek hd)
end
def SR.then(r:SR)(f:AE->AH->SR):SR:=match r with
 |.nx ae h=>f ae h
 |.rt d h=>.rt d h
 |.bk ae h=>.bk ae h
 |.ct ae h=>.ct ae h
 |.exc c ae h=>.exc c ae h
 |.stuck=>.stuck
def R.toS{α:Type}(r:R α)(ae:AE)(f:α->AH->SR):SR:=match r with
 |.ok a h=>f a h
 |.exc c h=>.exc c ae h
 |.stuck=>.stuck
def sNx:MS:=λae h=>.nx ae h
def yQ:MS:=λ_ h=>.rt .non h
def jk(F G:MS):MS:=λae h=>(F ae h).then G
def CU(F:ME):MS:=λae h=>(F ae h).toS ae λd h1=>.rt d h1
def iP(F:ME):MS:=λae h=>(F ae h).toS ae λ_ h1=>.nx ae h1
def sIf(c:MT)(F G:MS):MS:=λae h=>(c ae h).toS ae λb h1=>if b=true then F ae h1 else G ae h1
abbrev MG:=D->AE->AH->R AE
abbrev MGs:=List D->AE->AH->R AE
def iJ(F:ME)(g:MG):MS:=λae h=>(F ae h).toS ae λd h1=>(g d ae h1).toS ae λbe h2=>.nx be h2
def gN(i:Nat):MG:=λd ae h=>.ok (ae.set i (some d)) h
def gsN:MGs:=λds ae h=>match ds with
 | []=>.ok ae h
 |_=>.stuck
def gsC(g:MG)(u:MGs):MGs:=λds ae h=>match ds with
 |d::r=>(g d ae h).bind λbe h'=>u r be h'
 | []=>.stuck
def gT(u:MGs):MG:=λd ae h=>match d with
 |.tup ds=>u ds ae h
 |_=>.stuck
def gS(F G:ME)(w:D->D->D->AH->R Unit):MG:=λv ae h=>(F ae h).bind λo h1=>(G ae h1).bind λi h2=>(w o i v h2).bind λ_ h3=>.ok ae h3
def BI(i j:Nat)(A:MA):MS:=λae h=>(A ae h).toS ae λds h1=>match ds with
 | [d,e]=>.nx ((ae.set i (some d)).set j (some e)) h1
 |_=>.stuck
def vw(i:Nat)(g:D->D->AH->R D)(F:ME):MS:=λae h=>match ae[i]? with
 |some (some x)=>(F ae h).toS ae λy h1=>(g x y h1).toS ae λz h2=>.nx (ae.set i (some z)) h2
 |_=>.stuck
def ud(c:Str)(A:MA):MS:=λae h=>(A ae h).toS ae λds h1=>if ds.length<=16777216 then .exc c ae h1 else .stuck
section
variable(K:W.Frag)(mg:Ua)
def rdG(ES:St->XK)(g:MG):TG:=λv σ H Q=>∃ρ h ae d,Wd K mg ρ h H/\RelE K mg ρ H ae σ/\RelD K mg ρ H d v/\PostG K mg ρ H (ES σ) (λbe _ ρ' H'=>∀σ',RelE K mg ρ' H' be σ'->Q σ' H') (g d ae h)
def rdGs(ES:St->XK)(g:MGs):TGs:=λvs σ H Q=>∃ρ h ae ds,Wd K mg ρ h H/\RelE K mg ρ H ae σ/\RelDs K mg ρ H ds vs/\PostG K mg ρ H (ES σ) (λbe _ ρ' H'=>∀σ',RelE K mg ρ' H' be σ'->Q σ' H') (g ds ae h)
def DG(X:Cx)(ES:St->XK)(e:Expr)(g:MG):Prop:=PG X e (rdG K mg ES g)
def DGs(X:Cx)(ES:St->XK)(es:List Expr)(g:MGs):Prop:=PGs X es (rdGs K mg ES g)
def nu(X:Cx)(ES:St->XK):Prop:=∀(pins:Ub) (σ:St) (H:Hp) (s:Shared) (e:Value) (s':Shared),Inv X pins σ H s->CX1 X.prog X.w X.stack H s (ES σ) e s'->X.xe e s'
end
def rdG.el{K:W.Frag}{mg:Ua}{ES:St->XK}{g:MG}{v:V}{σ:St}{H:Hp}{Q:St->Hp->Prop}{C:Prop}(q:rdG K mg ES g v σ H Q)(k:∀ρ h ae d,Wd K mg ρ h H->RelE K mg ρ H ae σ->RelD K mg ρ H d v->PostG K mg ρ H (ES σ) (λbe _ ρ' H'=>∀σ',RelE K mg ρ' H' be σ'->Q σ' H') (g d ae h)->C):C:=by
 obtain⟨ρ,h,ae,d,w,re,rd,p⟩:=q
 exact k ρ h ae d w re rd p
def rdGs.el{K:W.Frag}{mg:Ua}{ES:St->XK}{g:MGs}{v:List V}{σ:St}{H:Hp}{Q:St->Hp->Prop}{C:Prop}(q:rdGs K mg ES g v σ H Q)(k:∀ρ h ae d,Wd K mg ρ h H->RelE K mg ρ H ae σ->RelDs K mg ρ H d v->PostG K mg ρ H (ES σ) (λbe _ ρ' H'=>∀σ',RelE K mg ρ' H' be σ'->Q σ' H') (g d ae h)->C):C:=by
 obtain⟨ρ,h,ae,d,w,re,rd,p⟩:=q
 exact k ρ h ae d w re rd p
section
variable{K:W.Frag}{mg:Ua}{X:Cx}{ES:St->XK}{ρ:List Addr}{H:Hp}{h:AH}{ae:AE}{σ:St}{De:Ends}
def cN(p:PostS K mg ρ H De ES (r.toS ae f))(re:RelE K mg ρ H ae σ)
 (i:∀a h1 ρ1 H1,Le ρ H ρ1 H1->Wd K mg ρ1 h1 H1->RelE K mg ρ1 H1 ae σ->PostS K mg ρ1 H1 De ES (f a h1)->k a h1 ρ1 H1):PostG K mg ρ H (ES σ) k r:=by
 cases r with
 |ok a h1=>exact λρ1 H1 l1 w1=>i a h1 ρ1 H1 l1 w1 (re.mono l1) (PostS.mono l1 p)
 |exc c h1=>exact λρ1 H1 C l1 w1 m=>p ρ1 H1 σ C l1 w1 (re.mono l1) m
 |stuck=>exact p
def iS(p:PostS K mg ρ H De ES (.nx be h))(w:Wd K mg ρ h H)(re:RelE K mg ρ H be σ):De.nx σ H:=p ρ H σ Le.refl w re
def Df(p:PostS K mg ρ H De ES (r.then f))(i:∀ae1 h1 ρ1 H1 σ1,Le ρ H ρ1 H1->Wd K mg ρ1 h1 H1->RelE K mg ρ1 H1 ae1 σ1->PostS K mg ρ1 H1 De ES (f ae1 h1)->N σ1 H1):PostS K mg ρ H { De with nx:=N } ES r:=by
 cases r with
 |nx ae1 h1=>exact λρ1 H1 σ1 l1 w1 re1=>i ae1 h1 ρ1 H1 σ1 l1 w1 re1 (PostS.mono l1 p)
 |rt d h1=>exact p
 |bk ae1 h1=>exact p
 |ct ae1 h1=>exact p
 |exc c ae1 h1=>exact p
 |stuck=>exact p
end
section
variable{K:W.Frag}{mg:Ua}{X:Cx}{ES:St->XK}{e a b c o i:Expr}{es:List Expr}{st:Stmt}{sts sts':List Stmt}{F G:ME}{A:MA}{cf:MT}{U V':MS}{g:MG}{gs:MGs}{pos:Pos}
def GA:DSs K mg X ES [] sNx:=PSs.imp Fm λD σ H q_=>q_.el λρ h ae w re p=>iS p w re
def wW(h1:DS K mg X ES st U):DSs K mg X ES [st] U:=Ft h1
def oF(h1:DS K mg X ES st U)(h2:DSs K mg X ES sts V'):DSs K mg X ES (st::sts) (jk U V'):=PSs.imp (BW h1 h2) λD σ H q_=>q_.el λρ h ae w re p=>
 ⟨ρ,h,ae,w,re,Df p λae1 h1 ρ1 H1 σ1 l1 w1 re1 p1=>⟨ρ1,h1,ae1,w1,re1,p1⟩⟩
def Fc:DS K mg X ES (.Return none pos) yQ:=PS.imp Fv λD σ H q_=>q_.el λρ h ae w re p=>p ρ H _ Le.refl w .non
def JB(he:DE K mg X ES e F):DS K mg X ES (.Return (some e) pos) (CU F):=PS.imp (IZ he) λD σ H q_=>q_.el λρ h ae w re p=>
 ⟨ρ,h,ae,w,re,cN p re λd h1 ρ1 H1 l1 w1 re1 p1 v rv=>p1 ρ1 H1 v Le.refl w1 rv⟩
def xn(he:DE K mg X ES e F)(hs:swapsWith e none pos.line X.env=pure false:=by rfl):DS K mg X ES (.Expr e pos) (iP F):=PS.imp (FJ he hs) λD σ H q_=>q_.el λρ h ae w re p=>
 ⟨ρ,h,ae,w,re,cN p re λd h1 ρ1 H1 l1 w1 re1 p1 v rv=>iS p1 w1 re1⟩
def Ol(hc:DT K mg X ES c cf)(ha:DSs K mg X ES sts U)(hb:DSs K mg X ES sts' V'):DS K mg X ES (.If c sts sts' pos) (sIf cf U V'):=PS.imp (Nj hc ha hb) λD σ H q_=>q_.el λρ h ae w re p=>
 ⟨ρ,h,ae,w,re,cN p re λb h1 ρ1 H1 l1 w1 re1 p1=>by
  cases b with
  |true=>exact⟨ρ1,h1,ae,w1,re1,p1⟩
  |false=>exact⟨ρ1,h1,ae,w1,re1,p1⟩⟩
def Gv{i:Nat}{x:Str}(hN:X.N.Nodup)(hi:X.N[i]?=some x)(hx:Loc X.env.scope x)(hf:X.fn x=true\/X.env.scope.names.lookup x=some .local:=by first |exact .inl rfl |exact .inr rfl |assumption):DG K mg X ES (.Name x pos) (gN i):=
 PG.imp (Gd hN hi hx hf) λv σ H Q q_=>q_.el λρ h ae d w re rd p=>p ρ H Le.refl w _ (re.set i rd)
def GS:DGs K mg X ES [] gsN:=PGs.imp FD λvs σ H Q q_=>q_.el λρ h ae ds w re rd p=>by
 cases rd with
 |nil=>exact⟨rfl,p ρ H Le.refl w _ re⟩
 |cons r rr=>exact p.elim
def Du(h1:DG K mg X (λ_=>E0) e g)(h2:DGs K mg X (λ_=>E0) es gs)
 (hs:(assignEach (e::es) X.env).map (·.2)=assign e X.env::(assignEach es X.env).map (·.2):=by rfl):DGs K mg X (λ_=>E0) (e::es) (gsC g gs):=PGs.imp (Ce h1 h2 hs) λvs σ H Q q_=>q_.el λρ h ae ds w re rd p=>by
 cases rd with
 |nil=>exact p.elim
 |cons r rr=>exact⟨_,_,rfl,ρ,h,ae,_,w,re,r,p.bind.imp λae1 h1 ρ1 H1 l1 w1 p1 σ1 re1=>⟨ρ1,h1,ae1,_,w1,re1,rr.mono l1,p1⟩⟩
def HN{k n:Nat}(hK:X.K=K)(hc:X.calm=true)(h:DGs K mg X (λ_=>E0) es gs)
 (hn:(assignEach es X.env).length=n:=by rfl) (hst:(assignEach es X.env).findIdx? (·.1)=none:=by rfl):DG K mg X (λ_=>E0) (.Tuple es k pos) (gT λds ae h=>if ds.length=n then gs ds ae h else .stuck):=by
 subst hK
 refine PG.imp (KH hc h hn hst) λv σ H Q q_=>q_.el λρ h ae d w re rd p=>?_
 unfold gT at p
 cases rd with
 |
  tup q rs=>
  dsimp only at p
  split at p
  ·rename_i hl
   exact⟨_,_,rfl,q,by rw[<- rs.len];exact hl,ρ,h,ae,_,w,re,rs,p⟩
  ·exact p.elim
 |_=>exact p.elim
def noX{α:Type}(r:R α):R α:=match r with
 |.exc _ _=>.stuck
 |.ok a h=>.ok a h
 |.stuck=>.stuck
def DG.weak(hg:DG K mg X (λ_=>E0) e g):DG K mg X ES e (λd ae h=>noX (g d ae h)):=PG.imp hg λv σ H Q q_=>q_.el λρ h ae d w re rd p=>by
 refine⟨ρ,h,ae,d,w,re,rd,?_⟩
 try dsimp only at p
 cases q:g d ae h with
 |ok a h1=>rw[q] at p;exact p
 |exc c h1=>rw[q] at p;exact p.elim
 |stuck=>rw[q] at p;exact p.elim
def qU(K:W.Frag)(mg:Ua)(r:xO)(f:D->D->D->AH->R Unit):Prop:=∀ρ h H do_ di dv o i v (Q:Hp->Prop) E,Wd K mg ρ h H->RelD K mg ρ H do_ o->RelD K mg ρ H di i->RelD K mg ρ H dv v->PostG K mg ρ H E (λ_ _ _ H'=>Q H') (f do_ di dv h)->r o i v H Q
def A1(he:DE K mg X ES e F)(hg:DG K mg X ES a g)(hs:swapsWithSole [a] e pos.line X.env=pure false:=by rfl)(hw:swappedStores [a] e X.env=pure none:=by rfl)
 (h1:(assignEach [a] X.env).map (·.2)=[assign a X.env]:=by rfl):DS K mg X ES (.Assign [a] e pos) (iJ F g):=PS.imp (J6 he hg hs hw h1) λD σ H q_=>q_.el λρ h ae w re p=>
 ⟨ρ,h,ae,w,re,cN p re λd h1 ρ1 H1 l1 w1 re1 p1 v rv=>⟨ρ1,h1,ae,d,w1,re1,rv,cN p1 re1 λae2 h2 ρ2 H2 l2 w2 re2 p2 σ' re'=>iS p2 w2 re'⟩⟩
def IH{i:Nat}{x:Str}{kw:Pos}(hN:X.N.Nodup)(hi:X.N[i]?=some x)(hx:Loc X.env.scope x)(he:DE K mg X ES e F)(hs:swapsWith e (some (.Name x kw)) pos.line X.env=pure false:=by rfl)(hf:X.fn x=true\/X.env.scope.names.lookup x=some .local:=by first |exact .inl rfl |exact .inr rfl |assumption):
 DS K mg X ES (.Assign [.Name x kw] e pos) (iJ F (gN i)):=PS.imp (K8 hN hi hx he hs hf) λD σ H q_=>q_.el λρ h ae w re p=>
 ⟨ρ,h,ae,w,re,cN p re λd h1 ρ1 H1 l1 w1 re1 p1 v rv=>iS p1 w1 (re1.set i rv)⟩
def II{i j:Nat}{x y:Str}{px py pt:Pos}{kt k2 pt2}(hc:X.calm=true)(hN:X.N.Nodup)(hi:X.N[i]?=some x)(hj:X.N[j]?=some y)(hij:i≠j)
 (hx:X.env.scope.names.lookup x=some .local) (hy:X.env.scope.names.lookup y=some .local) (ha:DA K mg X ES [a,b] A)
 (hw:swappedStores [.Tuple [.Name x px,.Name y py] kt pt] (.Tuple [a,b] k2 pt2) X.env=pure (some [x,y]))
 (hs:swapsWithSole [.Tuple [.Name x px,.Name y py] kt pt] (.Tuple [a,b] k2 pt2) pos.line X.env=pure false:=by rfl):
 DS K mg X ES (.Assign [.Tuple [.Name x px,.Name y py] kt pt] (.Tuple [a,b] k2 pt2) pos) (BI i j A):=PS.imp (HH hc hN hi hj hij hx hy ha hw hs) λD σ H q_=>q_.el λρ h ae w re p=>
 ⟨ρ,h,ae,w,re,cN p re λds h1 ρ1 H1 l1 w1 re1 p1 vs rs=>by
  split at p1
  ·cases rs with
   |
    cons r1 rs=>
    cases rs with
    |
     cons r2 rs=>
     cases rs
     exact⟨_,_,rfl,iS p1 w1 ((re1.set i r1).set j r2)⟩
  ·exact p1.elim⟩
def IpD(K:W.Frag)(mg:Ua)(r:TIp)(g:D->D->AH->R D):Prop:=∀ρ h H dx dy x y Q E,Wd K mg ρ h H->RelD K mg ρ H dx x->RelD K mg ρ H dy y->eV K mg ρ H Q E (g dx dy h)->r x y H Q
def JH{i:Nat}{x:Str}{op:Operator}{ti:TIp}{kw:Pos}{gg:D->D->AH->R D}(hN:X.N.Nodup)(hi:X.N[i]?=some x)(hx:Loc X.env.scope x)(he:DE K mg X ES e F)(ho:PIp X op ti)(hd:IpD K mg ti gg)(hf:X.fn x=true\/X.env.scope.names.lookup x=some .local:=by first |exact .inl rfl |exact .inr rfl |assumption):
 DS K mg X ES (.AugAssign (.Name x kw) op e pos) (vw i gg F):=PS.imp (KY hN hi hx he ho hf) λD σ H q_=>q_.el λρ h ae w re p=>by
 unfold vw at p
 split at p
 ·rename_i d ed
  obtain⟨v,e1,r⟩:=re.at_ i d ed
  exact⟨v,e1,ρ,h,ae,w,re,cN p re λdy h1 ρ1 H1 l1 w1 re1 p1 y ry=>hd ρ1 h1 H1 d dy v y _ _ w1 (r.mono l1) ry (cN p1 re1 λdz h2 ρ2 H2 l2 w2 re2 p2 z rz=>iS p2 w2 (re2.set i rz))⟩
 ·exact p.elim
def BS(hc:X.calm=true)(hR:Rz X E)(hg:Gl X x)(hm:mg x=some (.ref C))(hq:W.excIn X.K C eF "ValueError.__new__"=true)(ha:DA K mg X (λ_=>E) (e::es) A)(hk:X.mg=mg:=by rfl)
 (he:starEach (e::es) X.env=(false,eval e X.env)::starEach es X.env:=by rfl) (ci:(backTo cpos (starEach es X.env)).any (·.1)=false:=by rfl) (hd:(x==("__debug__" : Str))=false:=by decide):
 DS K mg X (λ_=>E) (.Raise (some (.Call (.Name x np) (e::es) [] cpos)) none pos) (ud x A):=by
 subst hk
 exact
  PS.imp (BE hc hR hg hm hq ha he ci hd) λD σ H q_=>q_.el λρ h ae w re p=>
  ⟨ρ,
   h,ae,w,re,cN p re λds h1 ρ1 H1 l1 w1 re1 p1 vs rs=>by
   split at p1
   ·rename_i hl
    exact⟨by rw[<- rs.len];exact hl,p1 ρ1 H1 σ C Le.refl w1 re1 hm⟩
   ·exact p1.elim⟩
def GJ(C:Callee X.prog X.w X.K X.mg X.base x k ps (spD K mg n S))(hr:Room k X.A)(hg:Gl X x)(hx:nu X ES)(ha:DA K mg X ES (e::es) A)
 (hdb:(x==("__debug__" : Str))=false:=by decide) (he:starEach (e::es) X.env=(false,eval e X.env)::starEach es X.env:=by rfl) (hpl:(backTo pos (starEach es X.env)).any (·.1)=false:=by rfl):
 DE K mg X ES (.Call (.Name x p) (e::es) [] pos) (eFn (λds h=>if ds.length=n then S ds h else .stuck) A):=by
 obtain⟨f,fd,F',m,kp,bb,_⟩:=C.ex
 intro pins s σ H Q I hh
 refine S_ (qT I hg m ?_ hdb)
 have rd:rdA K mg ES A σ H (λvs H1=>spD K mg n S vs H1 Q (ES σ)):=by
  obtain⟨ρ,h,ae,w,re,p⟩:=hh
  refine⟨ρ,h,ae,w,re,p.bind.imp λds h1 ρ1 H1 l1 w1 p1 vs rs=>?_⟩
  split at p1
  ·rename_i hl
   exact⟨ρ1,h1,ds,w1,rs,hl,p1⟩
  ·exact p1.elim
 refine W.callWith_K (h₀:=X.base) I.ok.mod.kin kp (Q8 (ha pos pins s σ H _ I rd) (λus s1 ⟨vs,H1,I1,r,q⟩=>⟨I1.kIn,?_⟩) λ_ _ z=>z) he hpl
 have hl:(us++[]).length=ps.length:=by rw[Q3,<- r.length];exact F'.len _ _ _ _ q
 refine wpAny_call (codeAny_mono (F'.run X.A X.stack s1 H1 ⟨us,[]⟩ us vs Q (ES σ) hr I1.env0 (by simpa using bb s1 us I1.kIn hl) r q) λr s' hq=>?_)
 cases r with
 |error ex=>exact hx pins σ H1 s1 ex s' I1 hq
 |
  ok fl=>
  cases fl with
  |ret u=>exact I1.after hq
  |next=>exact False.elim hq
  |brk=>exact False.elim hq
  |cont=>exact False.elim hq
def fnD(n:Nat)(F:MS):Fn:=λds h=>match F (ds.map some++List.replicate (n-ds.length) none) h with
 |.nx _ h'=>.ok .non h'
 |.rt d h'=>.ok d h'
 |.exc c _ h'=>.exc c h'
 |_=>.stuck
def vX(hp:uF (CX1 X.prog X.w) X E):nu X (λ_=>E):=λpins σ H s e s' I h=>hp pins σ H s e s' I h
def ff:nu X (λ_=>E0):=λpins σ H s e s' I h=>MD pins σ H s e s' I h
end
section
variable{P:Program}{w:World}{K:W.Frag}{mg:Ua}{base:Heap}{x:Str}{st:Stmt}{k:Nat}{ps N:List Str}{F:MS}
def yP(rs:RelDs K mg ρ H ds vs):RelE K mg ρ H (ds.map some++List.replicate (N.length-ds.length) none) (gw N vs):=by
 unfold gw
 refine⟨by rw[Qw,Qw,Qp,Qp,Rr,Rr,rs.len],λi d e=>?_⟩
 by_cases hi:i<ds.length
 ·rw[QR (by rw[Qp];exact hi),QM] at e
  have e':ds[i]?=some d:=by
   cases q:ds[i]? with
   |none=>rw[q] at e;cases e
   |some z=>rw[q] at e;cases e;rfl
  obtain⟨v,h1,h2⟩:=rs.getD e'
  refine⟨v,?_,h2⟩
  rw[QR (by rw[Qp,<- rs.len];exact hi),QM,h1];rfl
 ·rw[QO (by rw[Qp];omega),Rj] at e
  split at e <;> cases e
def Def.okD(D:Def K mg x st)(S:FnScope N ps (aw st))
 (hb:∀(kV doc pm:Value) (an:Option Addr) (cdv ct:Value) (us:List Value),us.length=ps.length->bindArgs (W.fnOf x x (d6 st) (b8 st) (aw st) .none kV doc pm an cdv ct) ⟨us,[]⟩=pure (ps.zip us))
 (jp:∀(f:Addr) (cdv:Value) (A:Around) (outer:List Env) (s:Shared) (H:Hp) (E:XK),Room k (A.deeper (envOfC x (aw st) s.heap.objs.size f cdv))->
  DSs K mg (fF (CX1 P w) P w K mg base N x (aw st) f cdv A outer s H E) (λ_=>E) (b8 st) F):Callee P w K mg base x (k+1) ps (spD K mg ps.length (fnD N.length F)):=by
 refine D.okR S hb (λvs H Q E ⟨ρ,h,ds,w,rs,hl,p⟩=>by rw[<- rs.len];exact hl) λf cdv A outer s H vs Q E hr ⟨ρ,h,ds,w',rs,hl,p⟩=>?_
 refine⟨_,jp f cdv A outer s H E hr,ρ,h,_,w',yP rs,?_⟩
 unfold fnD at p
 split at p
 ·rename_i e;rw[e];exact λρ1 H1 σ1 l1 w1 re1=>p ρ1 H1 l1 w1 _ .non
 ·rename_i e;rw[e];exact λρ1 H1 v l1 w1 rv=>p ρ1 H1 l1 w1 v rv
 ·rename_i e;rw[e];exact λρ1 H1 σ1 C l1 w1 re1 m=>p ρ1 H1 C l1 w1 m
 ·exact p.elim
end
def bq(h:AH)(n:Nat):Option (List D):=match h[n]? with
 |some (.lst xs)=>some xs
 |some (.fz xs)=>some xs
 |_=>none
def d7(h:AH):D->Option (List D)
 |.tup xs=>some xs
 |.ref n=>bq h n
 |.kl xs=>some xs
 |_=>none
section
variable{K:W.Frag}{mg:Ua}{ρ:List Addr}{H:Hp}{h:AH}
def c9(w:Wd K mg ρ h H)(ea:ρ[n]?=some a)(e:bq h n=some xs):∃vs,SqL K H a vs/\RelDs K mg ρ H xs vs:=by
 unfold bq at e
 split at e
 ·rename_i ys eo
  cases e
  obtain⟨vs,h1,h2⟩:=w.ob n a _ ea eo
  exact⟨vs,SqL.of h1,h2⟩
 ·rename_i ys eo
  cases e
  obtain⟨o,vs,h1,h2⟩:=w.ob n a _ ea eo
  exact⟨vs,.inl (.inr ⟨o,h1⟩),h2⟩
 ·cases e
def fO(w:Wd K mg ρ h H)(r:RelD K mg ρ H d v)(e:d7 h d=some xs):∃p vs,v=.ref p/\(SqL K H p vs\/SqT K H p vs)/\RelDs K mg ρ H xs vs:=by
 cases r with
 |
  tup q rs=>
  have e':some _=some xs:=e
  cases e'
  exact⟨_,_,rfl,.inr q,rs⟩
 |
  ref ea=>
  obtain⟨vs,h1,h2⟩:=c9 w ea e
  exact⟨_,vs,rfl,.inl h1,h2⟩
 |
  kl q rs=>
  have e':some _=some xs:=e
  cases e'
  exact⟨_,_,rfl,.inl (.inr q),rs⟩
 |_=>cases e
end
noncomputable def g2(f:Int->Int->R D)(x y:D):R D:=match x,y with
 |.int i,.int j=>f i j
 |_,_=>.stuck
def gI(f:Int->Int->D):D->D->AH->R D:=λx y h=>match x,y with
 |.int i,.int j=>.ok (f i j) h
 |_,_=>.stuck
open Classical in
def gIc(C:Int->Int->Prop)(f:Int->Int->D):D->D->AH->R D:=λx y h=>match x,y with
 |.int i,.int j=>if C i j then .ok (f i j) h else .stuck
 |_,_=>.stuck
section
variable{K:W.Frag}{mg:Ua}{X:Cx}
def mS(hr:∀i j ρ H,RelD K mg ρ H (g i j) (f i j)):OpD K mg (rI0 f) (gI g):=λρ h H dx dy x y Q E w rx ry p=>by
 unfold gI at p
 split at p
 ·cases rx;cases ry;exact⟨_,_,rfl,rfl,aG w (hr _ _ ρ H) p⟩
 ·exact p.elim
def pW(hr:∀i j ρ H,RelD K mg ρ H (g i j) (f i j)):OpD K mg (rI C f) (gIc C g):=λρ h H dx dy x y Q E w rx ry p=>by
 unfold gIc at p
 split at p
 ·cases rx;cases ry
  split at p
  ·rename_i hc;exact⟨_,_,rfl,rfl,hc,aG w (hr _ _ ρ H) p⟩
  ·exact p.elim
 ·exact p.elim
def gOr(g g':D->D->AH->R D):D->D->AH->R D:=λx y h=>match g x y h with
 |.stuck=>g' x y h
 |r=>r
def OpD.or(a:OpD K mg r g)(b:OpD K mg r' g'):OpD K mg (λx y H Q=>r x y H Q\/r' x y H Q) (gOr g g'):=λρ h H dx dy x y Q E w rx ry p=>by
 unfold gOr at p
 split at p
 ·exact .inr (b ρ h H dx dy x y Q E w rx ry p)
 ·exact .inl (a ρ h H dx dy x y Q E w rx ry p)
end
def oI:D->D->AH->R D:=λx y h=>match x,y with
 |.ref n,.ref m=>match h[n]?,h[m]? with
  |some (.lst xs),some (.lst ys)=>if xs.length+ys.length<=16777216 then .ok (.ref h.length) (h++[.lst (xs++ys)]) else .stuck
  |_,_=>.stuck
 |.tup xs,.tup ys=>if xs.length+ys.length<=16777216 then .ok (.tup (xs++ys)) h else .stuck
 |_,_=>.stuck
def gIx:D->D->AH->R D:=λx y h=>match d7 h x,y with
 |some xs,.int i=>match atI xs i with
  |some d=>.ok d h
  |none=>.stuck
 |_,_=>.stuck
section
variable{K:W.Frag}{mg:Ua}{X:Cx}
def nc(K:W.Frag):R2:=λx y H Q=>∃a b ys,x=.ref a/\y=.ref b/\SqT K H a []/\SqT K H b ys/\Q (.ref b) H
def Gs:OpR X (binaryOp .Add) (nc X.K):=by
 intro pins s σ H x y v u Q I rx ry h
 obtain⟨a,b,ys,rfl,rfl,ha,hb,q⟩:=h
 cases rx
 cases ry
 obtain⟨its,r1,p1,_⟩:=I.tuple ha
 obtain⟨its2,r2,p2,_⟩:=I.tuple hb
 have e:its=[]:=r1.nil_iff.mpr rfl
 subst e
 obtain⟨⟨cls,dd,data,sl⟩,ho,hc,n,hd⟩:=id p1
 obtain⟨⟨cls2,dd2,data2,sl2⟩,ho2,hc2,n2,hd2⟩:=id p2
 simp only at hc hd hc2 hd2
 subst hc hd hc2 hd2
 exact concat_meets ⟨_,ho,rfl⟩ ⟨_,ho2,rfl⟩ noFill_tuple_add seq_tuple_add To Td (S8 _ _)
  (tuple_addW0 _ _ _ _ n n2 dd dd2 sl sl2 rfl) ⟨ho,ho2,⟨.ref b,H,I,rfl,q⟩⟩
def GZ:OpD K mg (λx y H Q=>qZ x y H Q\/(nH K x y H Q\/nc K x y H Q)) oI:=λρ h H dx dy x y Q E w rx ry p=>by
 unfold oI at p
 split at p
 ·cases
   rx with
  |
   ref ea=>
   cases ry with
   |
    ref eb=>
    split at p
    ·rename_i xs ys e1 e2
     split at p
     ·rename_i hl
      obtain⟨vs,q1,r1⟩:=w.ob _ _ _ ea e1
      obtain⟨ws,q2,r2⟩:=w.ob _ _ _ eb e2
      exact .inl ⟨_,_,vs,ws,rfl,rfl,q1,q2,by rw[<- r1.len,<- r2.len];exact hl,λp' hp=>jq w (r1.append r2) hp p⟩
     ·exact p.elim
    ·exact p.elim
 ·cases
   rx with
  |
   tup q1 r1=>
   cases ry with
   |
    tup q2 r2=>
    split at p
    ·rename_i hl
     cases r1 with
     |nil=>exact .inr (.inr ⟨_,_,_,rfl,rfl,q1,q2,aG w (.tup q2 r2) p⟩)
     |
      cons r0 r1=>
      refine .inr (.inl ⟨_,_,_,_,rfl,rfl,q1,q2,(λz=>nomatch z),by rw[<- (RelDs.cons r0 r1).len,<- r2.len];exact hl,λz=>?_,λ_ p' hp=>lA w ((RelDs.cons r0 r1).append r2) hp p⟩)
      subst z
      cases r2
      rw[Q3] at p
      exact aG w (.tup q1 (.cons r0 r1)) p
    ·exact p.elim
 ·exact p.elim
def FH(r:RelDs K mg ρ H xs vs)(e:atI xs i=some d):∃v,atI vs i=some v/\RelD K mg ρ H d v:=by
 unfold atI at e ⊢
 rw[<- r.len]
 cases q:ixN xs.length i with
 |none=>rw[q] at e;cases e
 |some j=>rw[q] at e;exact r.getD e
def KR:OpD K mg (λx y H Q=>yV K x y H Q\/ym K x y H Q) gIx:=λρ h H dx dy x y Q E w rx ry p=>by
 unfold gIx at p
 split at p
 ·rename_i xs i e1
  split at p
  ·rename_i d e2
   cases ry
   obtain⟨pa,vs,rfl,hq,rs⟩:=fO w rx e1
   obtain⟨v,e3,rv⟩:=FH rs e2
   rcases hq with hq |hq
   ·exact .inl ⟨_,_,_,_,rfl,rfl,hq,e3,aG w rv p⟩
   ·exact .inr ⟨_,_,_,_,rfl,rfl,hq,e3,aG w rv p⟩
  ·exact p.elim
 ·exact p.elim
def ixK(h:X.K=K):IxR X (λx y H Q=>yV K x y H Q\/ym K x y H Q):=by subst h;exact EV.or Lo
def catK(h:X.K=K):OpR X (binaryOp .Add) (λx y H Q=>qZ x y H Q\/(nH K x y H Q\/nc K x y H Q)):=by subst h;exact K5.or (Fz.or Gs)
end
def fJ:Nat->AH->D->Option PyData
 |0,_,_=>none
 |_+1,_,.non=>some .none
 |_+1,_,.bl b=>some (.bool b)
 |_+1,_,.int i=>some (.int i)
 |_+1,_,.str x=>some (.str x)
 |k+1,h,.tup xs=>(xs.mapM (fJ k h)).map .tuple
 |k+1,h,.ref n=>match bq h n with
  |some xs=>(xs.mapM (fJ k h)).map .list
  |none=>none
 |_+1,_,_=>none
def rK{K:W.Frag}{mg:Ua}{ρ:List Addr}{H:Hp}{f:D->Option PyData}(hf:∀d v pd,RelD K mg ρ H d v->f d=some pd->Rep K H v pd):∀{xs:List D}{vs:List V}{ps:List PyData},RelDs K mg ρ H xs vs->xs.mapM f=some ps->Reps K H vs ps:=by
 intro xs
 induction xs with
 |
  nil=>
  intro vs ps r e
  cases r
  have e':some []=some _:=e
  cases e';exact .nil
 |
  cons x xs ih=>
  intro vs ps r e
  cases r with
  |
   cons r rr=>
   rw[Su] at e
   cases q:f x with
   |none=>rw[q] at e;cases e
   |
    some pd=>
    rw[q] at e
    cases q2:xs.mapM f with
    |none=>rw[q2] at e;cases e
    |
     some pds=>
     rw[q2] at e
     have e':some (pd::pds)=some ps:=e
     cases e'
     exact .cons (hf _ _ _ r q) (ih rr q2)
theorem l6{K:W.Frag}{mg:Ua}{ρ:List Addr}{H:Hp}{h:AH}(w:Wd K mg ρ h H):∀(k:Nat) {d:D}{v:V}{pd:PyData},RelD K mg ρ H d v->fJ k h d=some pd->Rep K H v pd
 |0,_,_,_,_,e=>by cases e
 |
  k+1,d,v,pd,r,e=>by
  cases r with
  |non=>have e':some _=some pd:=e;cases e';exact .non
  |bl b=>have e':some _=some pd:=e;cases e';exact .bl b
  |int b=>have e':some _=some pd:=e;cases e';exact .int b
  |str b=>have e':some _=some pd:=e;cases e';exact .str b
  |
   tup q rs=>
   rename_i ds
   have e':(ds.mapM (fJ k h)).map PyData.tuple=some pd:=e
   cases q2:ds.mapM (fJ k h) with
   |none=>rw[q2] at e';cases e'
   |
    some ps=>
    rw[q2] at e'
    cases e'
    exact .tup q (rK (λd v pd r e=>l6 w k r e) rs q2)
  |
   ref ea=>
   rename_i n a
   unfold fJ at e
   split at e
   ·rename_i xs e1
    obtain⟨vs,h1,h2⟩:=c9 w ea e1
    cases q2:xs.mapM (fJ k h) with
    |none=>rw[q2] at e;cases e
    |
     some ps=>
     rw[q2] at e
     cases e
     exact .lst h1 (rK (λd v pd r e=>l6 w k r e) h2 q2)
   ·cases e
  |_=>cases e
def uf(h:AH)(x y:D):Option Bool:=match fJ 164 h x,fJ 164 h y with
 |some a,some b=>if shp a=true/\shp b=true then some (PyData.eqv a b) else none
 |_,_=>none
def gEq(neg:Bool):D->D->AH->R D:=λx y h=>match uf h x y with
 |some b=>.ok (.bl (if neg then !b else b)) h
 |none=>.stuck
section
variable{K:W.Frag}{mg:Ua}{X:Cx}
def wY(w:Wd K mg ρ h H)(rx:RelD K mg ρ H dx x)(ry:RelD K mg ρ H dy y)(e:uf h dx dy=some b):
 ∃a c,Rep K H x a/\Rep K H y c/\shp a=true/\shp c=true/\PyData.eqv a c=b:=by
 unfold uf at e
 split at e
 ·rename_i a c e1 e2
  split at e
  ·rename_i hs
   cases e
   exact⟨a,c,l6 w 164 rx e1,l6 w 164 ry e2,hs.1,hs.2,rfl⟩
  ·cases e
 ·cases e
def Ki:OpD K mg (ze K) (gEq false):=λρ h H dx dy x y Q E w rx ry p=>by
 unfold gEq at p
 split at p
 ·rename_i b e
  obtain⟨a,c,h1,h2,h3,h4,rfl⟩:=wY w rx ry e
  exact⟨a,c,h1,h2,h3,h4,aG w (.bl _) p⟩
 ·exact p.elim
def KD:OpD K mg (yL K) (gEq true):=λρ h H dx dy x y Q E w rx ry p=>by
 unfold gEq at p
 split at p
 ·rename_i b e
  obtain⟨a,c,h1,h2,h3,h4,rfl⟩:=wY w rx ry e
  exact⟨a,c,h1,h2,h3,h4,aG w (.bl _) p⟩
 ·exact p.elim
end
noncomputable def nz:D->Bool
 |.non=>true
 |.bl _=>true
 |.int _=>true
 |.str _=>true
 |_=>false
noncomputable def toV:D->V
 |.bl b=>.bl b
 |.int i=>.int i
 |.str x=>.str x
 |_=>.non
def eqF(x y:D):Bool:=eqV (toV x) (toV y)
def gIn(neg:Bool):D->D->AH->R D:=λx y h=>match d7 h y with
 |some xs=>if nz x=true/\xs.all nz=true then .ok (.bl (if neg then !(xs.any λd=>eqF d x) else xs.any λd=>eqF d x)) h else .stuck
 |none=>.stuck
section
variable{K:W.Frag}{mg:Ua}{X:Cx}{ρ:List Addr}{H:Hp}
def tP(r:RelD K mg ρ H d v)(f:nz d=true):v=toV d/\bg v=true:=by
 cases r with
 |non=>exact⟨rfl,rfl⟩
 |bl=>exact⟨rfl,rfl⟩
 |int=>exact⟨rfl,rfl⟩
 |str=>exact⟨rfl,rfl⟩
 |_=>cases f
def AU:∀{ds:List D}{vs:List V},RelDs K mg ρ H ds vs->ds.all nz=true->vs=ds.map toV/\vs.all bg=true:=by
 intro ds
 induction ds with
 |
  nil=>
  intro vs r f
  cases r
  exact⟨rfl,rfl⟩
 |
  cons d0 ds ih=>
  intro vs r f
  cases r with
  |
   cons r rr=>
   rw[Sg,Qy] at f
   obtain⟨rfl,h1⟩:=tP r f.1
   obtain⟨rfl,h2⟩:=ih rr f.2
   exact⟨rfl,by rw[Sg,h1,h2];rfl⟩
def Hw(neg:Bool):OpD K mg (rIn K neg) (gIn neg):=λρ h H dx dy x y Q E w rx ry p=>by
 unfold gIn at p
 split at p
 ·rename_i xs e
  split at p
  ·rename_i hf
   obtain⟨pa,vs,rfl,hq,rs⟩:=fO w ry e
   obtain⟨rfl,f1⟩:=tP rx hf.1
   obtain⟨rfl,f2⟩:=AU rs hf.2
   refine⟨pa,_,rfl,hq,f1,f2,?_⟩
   have e2:inV (toV dx) (xs.map toV)=xs.any λd=>eqF d dx:=by
    unfold inV eqF
    rw[List.any_map];rfl
   rw[e2]
   exact aG w (.bl _) p
  ·exact p.elim
 ·exact p.elim
def mT(neg:Bool):D->D->AH->R D:=λx y h=>match x,y with
 |.non,.non=>.ok (.bl (!neg)) h
 |_,.non=>.ok (.bl neg) h
 |_,_=>.stuck
def E6:OpD K mg (λx y H Q=>y=.non/\Q (.bl (decide (x=.non))) H) (mT false):=λρ h H dx dy x y Q E w rx ry p=>by
 unfold mT at p
 split at p
 ·cases rx;cases ry;exact⟨rfl,aG w (.bl _) p⟩
 ·rename_i hne
  cases ry
  refine⟨rfl,?_⟩
  have e:decide (x=V.non)=false:=by
   rw[decide_eq_false_iff_not]
   rintro rfl
   cases rx
   exact hne rfl
  rw[e]
  exact aG w (.bl _) p
 ·exact p.elim
def Dp:OpD K mg (λx y H Q=>y=.non/\Q (.bl (!decide (x=.non))) H) (mT true):=λρ h H dx dy x y Q E w rx ry p=>by
 unfold mT at p
 split at p
 ·cases rx;cases ry;exact⟨rfl,aG w (.bl _) p⟩
 ·rename_i hne
  cases ry
  refine⟨rfl,?_⟩
  have e:decide (x=V.non)=false:=by
   rw[decide_eq_false_iff_not]
   rintro rfl
   cases rx
   exact hne rfl
  rw[e]
  exact aG w (.bl _) p
 ·exact p.elim
end
inductive AIt where
 |lst (n:Nat) (xs:List D) |tup (xs:List D) |rng (lo:Int) (k:Nat) |enm (s:AIt) |zip (s t:AIt)
noncomputable def iL:Nat->List D->List D
 |_,[]=>[]
 |i,d::ds=>.tup [.int (i:Nat),d]::iL (i+1) ds
def AIt.items:AIt->List D
 |.lst _ xs=>xs
 |.tup xs=>xs
 |.rng lo k=>(List.range k).map λi=>D.int (lo+(i:Nat))
 |.enm s=>iL 0 s.items
 |.zip s t=>List.zipWith (λx y=>.tup [x,y]) s.items t.items
def AIt.guard:AIt->AH->Prop
 |.lst n xs,h=>bq h n=some xs
 |.enm s,h=>s.guard h
 |.zip s t,h=>s.guard h/\t.guard h
 |_,_=>True
def SrcR(K:W.Frag)(mg:Ua)(ρ:List Addr)(H:Hp):AIt->Bool->Addr->Prop
 |.lst n _,true,a=>ρ[n]?=some a
 |.tup xs,false,p=>∃vs,SqT K H p vs/\RelDs K mg ρ H xs vs
 |_,_,_=>False
def ItR(K:W.Frag)(mg:Ua)(ρ:List Addr)(H:Hp):AIt->It->Prop
 |.lst n _,J=>∃a,ρ[n]?=some a/\J=Itl K a
 |.tup xs,J=>∃p vs,SqT K H p vs/\RelDs K mg ρ H xs vs/\J=Itt K p
 |.rng lo k,J=>J=Itr lo k
 |.enm s,J=>∃b a,SrcR K mg ρ H s b a/\J=Cc K b a
 |.zip s t,J=>∃b c a d,SrcR K mg ρ H s b a/\SrcR K mg ρ H t c d/\J=ItZ K b c a d
theorem vK:∀{ds:List D}{k i:Nat}{e:D},(iL k ds)[i]?=some e->∃d,ds[i]?=some d/\e=.tup [.int ((k+i:Nat):Int),d]
 | [],_,_,_,q=>by simp [iL] at q
 |d::ds,k,0,e,q=>⟨d,rfl,by simpa [iL] using q.symm⟩
 |
  d::ds,k,i+1,e,q=>by
  obtain⟨d',q1,q2⟩:=vK (ds:=ds) (k:=k+1) (i:=i) (e:=e) (by simpa [iL] using q)
  refine⟨d',by simpa using q1,?_⟩
  rw[q2]
  congr 4
  omega
theorem vG:∀(ds:List D) (k:Nat),(iL k ds).length=ds.length
 | [],_=>rfl
 |_::ds,k=>by show (iL (k+1) ds).length+1=ds.length+1;rw[vG ds]
section
variable{K:W.Frag}{mg:Ua}{ρ ρ1:List Addr}{H H1:Hp}{h h1:AH}
def SrcR.at_(r:SrcR K mg ρ H s b a)(l:Le ρ H ρ1 H1)(w:Wd K mg ρ1 h1 H1)(g:s.guard h1):∃vs,SqB K b H1 a vs/\RelDs K mg ρ1 H1 s.items vs:=by
 cases s with
 |
  lst n xs=>
  cases b with
  |true=>exact c9 w (l.pre _ _ r) g
  |false=>exact r.elim
 |
  tup xs=>
  cases b with
  |true=>exact r.elim
  |false=>obtain⟨vs,q,rs⟩:=r;exact⟨vs,l.sqT q,rs.mono l⟩
 |rng _ _=>cases b <;> exact r.elim
 |enm _=>cases b <;> exact r.elim
 |zip _ _=>cases b <;> exact r.elim
def ItR.step(hJ:ItR K mg ρ H it J)(l:Le ρ H ρ1 H1)(w:Wd K mg ρ1 h1 H1)(g:it.guard h1):
 (∀(i:Nat) (d:D),it.items[i]?=some d->J.go i H1/\∀x H',J.yld i H1 x H'->Le ρ1 H1 ρ1 H'/\Wd K mg ρ1 h1 H'/\RelD K mg ρ1 H' d x)/\J.stop it.items.length H1:=by
 cases it with
 |
  lst n xs=>
  obtain⟨a,ea,rfl⟩:=hJ
  obtain⟨vs,q,rs⟩:=c9 w (l.pre _ _ ea) g
  refine⟨λi d e=>?_,vs,q,by rw[<- rs.len];exact Qu _⟩
  obtain⟨v,ev,rv⟩:=rs.getD e
  refine⟨⟨vs,v,q,ev⟩,λx H' ⟨e1,y⟩=>?_⟩
  subst e1
  have:=(y vs q).symm.trans ev
  cases this
  exact⟨Le.refl,w,rv⟩
 |
  tup xs=>
  obtain⟨p,vs,q,rs,rfl⟩:=hJ
  have q1:=l.sqT q
  have rs1:=rs.mono l
  refine⟨λi d e=>?_,vs,q1,by rw[<- rs1.len];exact Qu _⟩
  obtain⟨v,ev,rv⟩:=rs1.getD e
  refine⟨⟨vs,v,q1,ev⟩,λx H' ⟨e1,y⟩=>?_⟩
  subst e1
  have:=(y vs q1).symm.trans ev
  cases this
  exact⟨Le.refl,w,rv⟩
 |
  rng lo k=>
  cases hJ
  refine⟨λi d e=>?_,?_⟩
  ·have e':((List.range k).map λi=>D.int (lo+(i:Nat)))[i]?=some d:=e
   rw[QM] at e'
   cases q:(List.range k)[i]? with
   |none=>rw[q] at e';cases e'
   |
    some j=>
    rw[q] at e'
    have hj:=Qs.mp q
    have e2:=hj.2
    rw[List.getElem_range] at e2
    subst e2
    cases e'
    refine⟨show i<k by simpa using hj.1,λx H' ⟨e1,e2⟩=>?_⟩
    subst e1 e2
    exact⟨Le.refl,w,.int _⟩
  ·show k<=((List.range k).map λi=>D.int (lo+(i:Nat))).length
   simp
 |
  enm s=>
  obtain⟨b,a,r,rfl⟩:=hJ
  obtain⟨vs,q,rs⟩:=r.at_ l w g
  refine⟨λi d e=>?_,vs,q,by show vs.length=(iL 0 s.items).length;rw[vG,rs.len]⟩
  obtain⟨d',q1,rfl⟩:=vK (show (iL 0 s.items)[i]?=some d from e)
  obtain⟨v,ev,rv⟩:=rs.getD q1
  refine⟨⟨vs,v,q,ev⟩,λx H' ⟨p,u,e1,hp,e2,hu⟩=>?_⟩
  subst e1 e2
  have:=(hu vs q).symm.trans ev
  cases this
  rw[Nat.zero_add]
  exact⟨er hp,w.tuple hp,.tup (SqT.of bR) (.cons (.int _) (.cons (rv.mono (er hp)) .nil))⟩
 |
  zip s t=>
  obtain⟨b,c,a,d,r1,r2,rfl⟩:=hJ
  obtain⟨vs,q,rs⟩:=r1.at_ l w g.1
  obtain⟨us,q',rs'⟩:=r2.at_ l w g.2
  refine⟨λi e ei=>?_,vs,us,q,q',?_⟩
  ·have ei':(List.zipWith (λx y=>D.tup [x,y]) s.items t.items)[i]?=some e:=ei
   rw[R4] at ei'
   cases k1:s.items[i]? with
   |none=>rw[k1] at ei';cases ei'
   |
    some d1=>
    cases k2:t.items[i]? with
    |none=>rw[k1,k2] at ei';cases ei'
    |
     some d2=>
     rw[k1,k2] at ei'
     cases ei'
     obtain⟨v,ev,rv⟩:=rs.getD k1
     obtain⟨v',ev',rv'⟩:=rs'.getD k2
     refine⟨⟨vs,us,v,v',q,q',ev,ev'⟩,λx H' ⟨p,u,u',e1,hp,e2,hu,hu'⟩=>?_⟩
     subst e1 e2
     have:=(hu vs q).symm.trans ev
     cases this
     have:=(hu' us q').symm.trans ev'
     cases this
     exact⟨er hp,w.tuple hp,.tup (SqT.of bR) (.cons (rv.mono (er hp)) (.cons (rv'.mono (er hp)) .nil))⟩
  ·have hl:(AIt.zip s t).items.length=min s.items.length t.items.length:=Sd ..
   rw[hl,rs.len,rs'.len]
   rcases Nat.le_total vs.length us.length with z |z
   ·left;rw[TC z];exact List.getElem?_eq_none (Qu _)
   ·right;rw[Nat.min_eq_right z];exact List.getElem?_eq_none (Qu _)
end
def SR.loop(r:SR)(f:AE->AH->SR):SR:=match r with
 |.nx ae h=>f ae h
 |.ct ae h=>f ae h
 |.bk ae h=>.nx ae h
 |.rt d h=>.rt d h
 |.exc c ae h=>.exc c ae h
 |.stuck=>.stuck
open Classical in
def ia(G:AH->Prop)(g:MG)(B:MS):List D->MS
 | [],ae,h=>if G h then .nx ae h else .stuck
 |d::ds,ae,h=>if G h then (g d ae h).toS ae λae1 h1=>(B ae1 h1).loop (ia G g B ds) else .stuck
abbrev MI:=AE->AH->R AIt
def qF(I:MI)(g:MG)(B:MS):MS:=λae h=>(I ae h).toS ae λit h1=>ia it.guard g B it.items ae h1
open Classical in
def lcL(G:AH->Prop)(g:MG)(c:MT)(F:ME):List D->List D->AE->AH->R (List D)
 | [],acc,_,h=>if G h then .ok acc h else .stuck
 |d::ds,acc,ae,h=>if G h/\acc.length<16777216 then (g d ae h).bind λae1 h1=>(c ae1 h1).bind λb h2=>if b=true then (F ae1 h2).bind λy h3=>lcL G g c F ds (acc++[y]) ae1 h3 else lcL G g c F ds acc ae1 h2 else .stuck
def kS(sub:Ud)(ae:AE):AE:=sub.map λo=>o.bind λi=>(ae[i]?).bind id
def eLC(I:MI)(sub:Ud)(g:MG)(c:MT)(F:ME):ME:=λae h=>(I ae h).bind λit h1=>(noX (lcL it.guard g c F it.items [] (kS sub ae) h1)).bind cE
def tY:MT:=λ_ h=>.ok true h
section
variable(K:W.Frag)(mg:Ua)
def rdI(ES:St->XK)(F:MI):TI:=λσ H R'=>∃ρ h ae,Wd K mg ρ h H/\RelE K mg ρ H ae σ/\PostG K mg ρ H (ES σ) (λit _ ρ' H'=>∀J,ItR K mg ρ' H' it J->R' J H') (F ae h)
def DI(X:Cx)(ES:St->XK)(tg am:Expr)(F:MI):Prop:=PI X tg am (rdI K mg ES F)
end
def C8(F:ME):MI:=λae h=>(F ae h).bind λd h1=>match d with
 |.tup xs=>.ok (.tup xs) h1
 |.ref n=>match bq h1 n with
  |some xs=>.ok (.lst n xs) h1
  |none=>.stuck
 |_=>.stuck
def DY(A:MA):MI:=λae h=>(A ae h).bind λds h1=>match ds with
 | [.int j]=>if -(2^62)<=j/\j<2^62 then .ok (.rng 0 j.toNat) h1 else .stuck
 |_=>.stuck
def ig(d:D)(h:AH):Option AIt:=match d with
 |.tup xs=>some (.tup xs)
 |.ref n=>(bq h n).map (.lst n)
 |_=>none
def Cs(A:MA):MI:=λae h=>(A ae h).bind λds h1=>match ds with
 | [d]=>(match ig d h1 with
  |some s=>.ok (.enm s) h1
  |none=>.stuck)
 |_=>.stuck
def CG(A:MA):MI:=λae h=>(A ae h).bind λds h1=>match ds with
 | [d,e]=>(match ig d h1,ig e h1 with
  |some s,some t=>.ok (.zip s t) h1
  |_,_=>.stuck)
 |_=>.stuck
section
variable{K:W.Frag}{mg:Ua}{X:Cx}{ES:St->XK}{tg am e a b c li:Expr}{F:ME}{A:MA}{I:MI}{g:MG}{cf:MT}{U:MS}{sts:List Stmt}{pos:Pos}
def PI.imp(h:PI X tg am t)(k:∀σ H Q,t' σ H Q->t σ H Q):PI X tg am t':=λpins s σ H Q I w=>h pins s σ H Q I (k σ H Q w)
def Ja(hl:PE X l tl):PI X tg l (λσ H R=>tl σ H λx H1=>(∃a,x=.ref a/\(∃xs,SqL X.K H1 a xs)/\R (Itl X.K a) H1)\/(∃a,x=.ref a/\(∃xs,SqT X.K H1 a xs)/\R (Itt X.K a) H1)):=by
 intro pins s σ H R I h
 refine thn (hl pins s σ H _ I h) λv s1 ⟨x,H1,I1,r1,q1⟩=>?_
 rcases q1 with ⟨a,e,⟨xs,hq⟩,q⟩ |⟨a,e,⟨xs,hq⟩,q⟩
 ·subst e
  cases r1
  obtain⟨its,rv,p,hz⟩:=I1.list hq
  refine wpAny_pyIter_list p.isList ?_
  refine⟨s1.heap.objs.size,[s1.heap.objs.size],_,_,H1,rfl,I1.kept (t':=s1.toks) λb o e=>Qz _ e,AY a _,⟨_,QJ _ rfl,rfl,rfl⟩,λb hb=>?_,q⟩
  have e:b=s1.heap.objs.size:=by simpa using hb
  subst e
  exact I1.fpOk (Qu _) (I1.hok.fresh (Qu _))
 ·subst e
  cases r1
  obtain⟨its,rv,p,hz⟩:=I1.tuple hq
  refine Ta (show s1.heap.IsTuple a its.toArray from p) ?_
  refine⟨s1.heap.objs.size,[s1.heap.objs.size],_,_,H1,rfl,I1.kept (t':=s1.toks) λb o e=>Qz _ e,yg a _,⟨_,QJ _ rfl,rfl,rfl⟩,λb hb=>?_,q⟩
  have e:b=s1.heap.objs.size:=by simpa using hb
  subst e
  exact I1.fpOk (Qu _) (I1.hok.fresh (Qu _))
def Hm(hK:X.K=K)(he:DE K mg X ES e F):DI K mg X ES tg e (C8 F):=by
 subst hK
 refine PI.imp (Ja he) λσ H R ⟨ρ,h,ae,w,re,p⟩=>⟨ρ,h,ae,w,re,p.bind.imp λd h1 ρ1 H1 l1 w1 p1 v rv=>?_⟩
 cases rv with
 |tup q rs=>exact .inr ⟨_,rfl,⟨_,q⟩,p1 ρ1 H1 Le.refl w1 _ ⟨_,_,q,rs,rfl⟩⟩
 |
  ref ea=>
  dsimp only at p1
  split at p1
  ·rename_i xs e1
   obtain⟨vs,q,rs⟩:=c9 w1 ea e1
   exact .inl ⟨_,rfl,⟨_,q⟩,p1 ρ1 H1 Le.refl w1 _ ⟨_,ea,rfl⟩⟩
  ·exact p1.elim
 |_=>exact p1.elim
def AL(hg:Gl X "range")(hm:mg "range"=none)(ha:DA K mg X ES [a] A)(hk:X.mg=mg:=by rfl)(hs:starEach [a] X.env=[(false,eval a X.env)]:=by rfl):DI K mg X ES tg (.Call (.Name "range" p) [a] [] pos) (DY A):=by
 subst hk
 refine PI.imp (Bn hg hm ha hs) λσ H R ⟨ρ,h,ae,w,re,p⟩=>⟨ρ,h,ae,w,re,p.bind.imp λds h1 ρ1 H1 l1 w1 p1 vs rs=>?_⟩
 split at p1
 ·cases rs with
  |
   cons r rs=>
   cases r;cases rs
   split at p1
   ·rename_i hb
    exact⟨_,rfl,hb.1,hb.2,p1 ρ1 H1 Le.refl w1 _ rfl⟩
   ·exact p1.elim
 ·exact p1.elim
def mL(w:Wd K mg ρ h H)(r:RelD K mg ρ H d v)(q:ig d h=some s):∃b p,v=.ref p/\SrcR K mg ρ H s b p/\∃vs,SqB K b H p vs:=by
 cases r with
 |tup hq rs=>cases q;exact⟨false,_,rfl,⟨_,hq,rs⟩,_,hq⟩
 |
  ref ea=>
  obtain⟨xs,q1,rfl⟩:=QS.mp q
  obtain⟨vs,h1,h2⟩:=c9 w ea q1
  exact⟨true,_,rfl,ea,vs,h1⟩
 |_=>cases q
def G6(hK:X.K=K)(hg:Gl X "enumerate")(hm:mg "enumerate"=none)(ha:DA K mg X ES [a] A)(hk:X.mg=mg:=by rfl)(hs:starEach [a] X.env=[(false,eval a X.env)]:=by rfl):DI K mg X ES (.Tuple elts x1 tp) (.Call (.Name "enumerate" p) [a] [] pos) (Cs A):=by
 subst hk hK
 refine PI.imp (F8 hg hm ha hs) λσ H R ⟨ρ,h,ae,w,re,p⟩=>⟨ρ,h,ae,w,re,p.bind.imp λds h1 ρ1 H1 l1 w1 p1 vs rs=>?_⟩
 split at p1
 ·cases rs with
  |
   cons r rs=>
   cases rs
   split at p1
   ·rename_i s q
    obtain⟨b,pa,rfl,sr,xs,hx⟩:=mL w1 r q
    exact⟨b,pa,xs,rfl,hx,p1 ρ1 H1 Le.refl w1 _ ⟨b,pa,sr,rfl⟩⟩
   ·exact p1.elim
 ·exact p1.elim
def Lp(hK:X.K=K)(hg:Gl X "zip")(hm:mg "zip"=none)(ha:DA K mg X ES [a,b] A)(hk:X.mg=mg:=by rfl)(hs:starEach [a,b] X.env=[(false,eval a X.env),(false,eval b X.env)]:=by rfl)(hs2:starEach [b] X.env=[(false,eval b X.env)]:=by rfl):DI K mg X ES (.Tuple elts x1 tp) (.Call (.Name "zip" p) [a,b] [] pos) (CG A):=by
 subst hk hK
 refine PI.imp (Iw hg hm ha hs hs2) λσ H R ⟨ρ,h,ae,w,re,p⟩=>⟨ρ,h,ae,w,re,p.bind.imp λds h1 ρ1 H1 l1 w1 p1 vs rs=>?_⟩
 split at p1
 ·cases
   rs with
  |
   cons r rs=>
   cases rs with
   |
    cons r' rs=>
    cases rs
    split at p1
    ·rename_i s t q q'
     obtain⟨b,pa,rfl,sr,xs,hx⟩:=mL w1 r q
     obtain⟨c,pd,rfl,sr',ys,hy⟩:=mL w1 r' q'
     exact⟨b,c,pa,pd,xs,ys,rfl,hx,hy,p1 ρ1 H1 Le.refl w1 _ ⟨b,c,pa,pd,sr,sr',rfl⟩⟩
    ·exact p1.elim
 ·exact p1.elim
def uu(p:PostS K mg ρ H De ES (r.loop f))(i:∀ae1 h1 ρ1 H1 σ1,Le ρ H ρ1 H1->Wd K mg ρ1 h1 H1->RelE K mg ρ1 H1 ae1 σ1->PostS K mg ρ1 H1 De ES (f ae1 h1)->N σ1 H1):
 PostS K mg ρ H { De with nx:=N,ct:=N,bk:=De.nx } ES r:=by
 cases r with
 |nx ae1 h1=>exact λρ1 H1 σ1 l1 w1 re1=>i ae1 h1 ρ1 H1 σ1 l1 w1 re1 (PostS.mono l1 p)
 |rt d h1=>exact p
 |bk ae1 h1=>exact p
 |ct ae1 h1=>exact λρ1 H1 σ1 l1 w1 re1=>i ae1 h1 ρ1 H1 σ1 l1 w1 re1 (PostS.mono l1 p)
 |exc c ae1 h1=>exact p
 |stuck=>exact p
def zp(hp:PassesOwn (model X.prog X.w) X.A X.env X.xe)(hc:X.calm=true)(hi:DI K mg X ES tg am I)(hg:DG K mg X ES tg g)(hb:DSs K mg X ES sts U)
 (hs:∀x,foldedSetIterable am X.env x=pure x:=by intro _;rfl):DS K mg X ES (.For tg am sts [] pos) (qF I g U):=by
 refine PS.imp (JF hp hc hi hg hb hs) λDe σ H q_=>q_.el λρ h ae w re p=>⟨ρ,h,ae,w,re,cN p re λit h1 ρ1 H1 l1 w1 re1 p1 J hJ=>?_⟩
 refine⟨λi m σ2 H2=>m=it.items.length-i/\i<=it.items.length/\∃ρ2 h2 ae2,Le ρ1 H1 ρ2 H2/\Wd K mg ρ2 h2 H2/\RelE K mg ρ2 H2 ae2 σ2/\PostS K mg ρ2 H2 De ES (ia it.guard g U (it.items.drop i) ae2 h2),⟨_,rfl,Q0 _,ρ1,h1,ae,Le.refl,w1,re1,p1⟩,?_⟩
 rintro i m σ2 H2 ⟨rfl,hi',ρ2,h2,ae2,l2,w2,re2,p2⟩
 by_cases hlt:i<it.items.length
 ·have hd:it.items.drop i=it.items[i]::it.items.drop (i+1):=List.drop_eq_getElem_cons hlt
  rw[hd] at p2
  unfold ia at p2
  split at p2
  ·rename_i hG
   obtain⟨st,_⟩:=hJ.step l2 w2 hG
   obtain⟨go,yl⟩:=st i it.items[i] (QF hlt)
   refine .inr ⟨go,λσ' H'=>∃ρ3 h3 ae3,Le ρ1 H1 ρ3 H'/\Wd K mg ρ3 h3 H'/\RelE K mg ρ3 H' ae3 σ'/\PostS K mg ρ3 H' De ES (ia it.guard g U (it.items.drop (i+1)) ae3 h3),
    λσ' H' ⟨ρ3,h3,ae3,q⟩=>⟨_,by omega,rfl,hlt,ρ3,h3,ae3,q⟩,λx H' hy=>?_⟩
   obtain⟨ly,wy,rx⟩:=yl x H' hy
   refine⟨ρ2,h2,ae2,_,wy,re2.mono ly,rx,cN (PostS.mono ly p2) (re2.mono ly) λae3 h3 ρ3 H3 l3 w3 re3 p3 σ' re'=>⟨ρ3,h3,ae3,w3,re',uu p3 λae4 h4 ρ4 H4 σ4 l4 w4 re4 p4=>⟨ρ4,h4,ae4,((l2.trans ly).trans l3).trans l4,w4,re4,p4⟩⟩⟩
  ·exact p2.elim
 ·have hi2:i=it.items.length:=by omega
  subst hi2
  rw[List.drop_length] at p2
  unfold ia at p2
  split at p2
  ·rename_i hG
   exact .inl ⟨(hJ.step l2 w2 hG).2,iS p2 w2 re2⟩
  ·exact p2.elim
def Cq(re:RelE K mg ρ H ae σ)(sub:Ud):RelE K mg ρ H (kS sub ae) (ie sub σ):=by
 unfold kS ie
 refine⟨by rw[Qp,Qp],λj d e=>?_⟩
 rw[QM] at e ⊢
 cases q:sub[j]? with
 |none=>rw[q] at e;cases e
 |
  some o=>
  rw[q] at e
  cases o with
  |none=>cases e
  |
   some i=>
   have e':(ae[i]?).bind id=some d:=QK e
   cases q2:ae[i]? with
   |none=>rw[q2] at e';cases e'
   |
    some z=>
    rw[q2] at e'
    have e3:z=some d:=e'
    subst e3
    obtain⟨v,h1,h2⟩:=re.at_ i d q2
    refine⟨v,?_,h2⟩
    show some ((σ[i]?).bind id)=some (some v)
    rw[h1];rfl
def nT(p:PostG K mg ρ H E k ((noX (r.bind f)).bind m)):
 PostG K mg ρ H E0 (λa h1 ρ' H'=>PostG K mg ρ' H' E k ((noX (f a h1)).bind m)) r:=by
 cases r with
 |ok a h1=>exact λρ1 H1 l1 w1=>PostG.mono l1 p
 |exc c h1=>exact p.elim
 |stuck=>exact p.elim
def El(σ:St)(H:Hp)(Q:VK)(q:rdE K mg ES (eLC I sub g cf F) σ H Q):lq (rdI K mg ES I) sub (rdG K mg (λ_=>E0) g) (rdT K mg (λ_=>E0) cf) (rdE K mg (λ_=>E0) F) σ H Q:=by
 obtain⟨ρ,h,ae,w,re,p⟩:=q
 refine⟨ρ,h,ae,w,re,p.bind.imp λit h1 ρ1 H1 l1 w1 p1 J hJ=>?_⟩
 have re1:=Cq (re.mono l1) sub
 refine⟨λi m ys σ2 H2=>m=it.items.length-i/\i<=it.items.length/\∃ρ2 h2 ae2 acc,Le ρ1 H1 ρ2 H2/\Wd K mg ρ2 h2 H2/\RelE K mg ρ2 H2 ae2 σ2/\RelDs K mg ρ2 H2 acc ys/\
  PostG K mg ρ2 H2 (ES σ) (λd _ ρ' H'=>∀v,RelD K mg ρ' H' d v->Q v H') ((noX (lcL it.guard g cf F (it.items.drop i) acc ae2 h2)).bind cE),
  ⟨_,rfl,Q0 _,ρ1,h1,kS sub ae,[],Le.refl,w1,re1,.nil,p1⟩,?_⟩
 rintro i m ys σ2 H2 ⟨rfl,hi',ρ2,h2,ae2,acc,l2,w2,re2,rs,p2⟩
 by_cases hlt:i<it.items.length
 ·have hd:it.items.drop i=it.items[i]::it.items.drop (i+1):=List.drop_eq_getElem_cons hlt
  rw[hd] at p2
  unfold lcL at p2
  split at p2
  ·rename_i hG
   obtain⟨st,_⟩:=hJ.step l2 w2 hG.1
   obtain⟨go,yl⟩:=st i it.items[i] (QF hlt)
   refine .inr ⟨go,by rw[<- rs.len];exact hG.2,λys' σ' H'=>∃ρ3 h3 ae3 acc3,Le ρ1 H1 ρ3 H'/\Wd K mg ρ3 h3 H'/\RelE K mg ρ3 H' ae3 σ'/\RelDs K mg ρ3 H' acc3 ys'/\
    PostG K mg ρ3 H' (ES σ) (λd _ ρ' H'=>∀v,RelD K mg ρ' H' d v->Q v H') ((noX (lcL it.guard g cf F (it.items.drop (i+1)) acc3 ae3 h3)).bind cE),
    λys' σ' H' ⟨ρ3,h3,ae3,acc3,q⟩=>⟨_,by omega,rfl,hlt,ρ3,h3,ae3,acc3,q⟩,λx H' hy=>?_⟩
   obtain⟨ly,wy,rx⟩:=yl x H' hy
   refine⟨ρ2,h2,ae2,_,wy,re2.mono ly,rx,(nT (PostG.mono ly p2)).imp λae3 h3 ρ3 H3 l3 w3 p3 σ3 re3=>⟨ρ3,h3,ae3,w3,re3,(nT p3).imp λb h4 ρ4 H4 l4 w4 p4=>?_⟩⟩
   cases b with
   |true=>exact⟨ρ4,h4,ae3,w4,re3.mono l4,(nT p4).imp λy h5 ρ5 H5 l5 w5 p5 v rv=>⟨ρ5,h5,ae3,acc++[y],(((l2.trans ly).trans l3).trans l4).trans l5,w5,(re3.mono l4).mono l5,((((rs.mono ly).mono l3).mono l4).mono l5).append (.cons rv .nil),p5⟩⟩
   |false=>exact⟨ρ4,h4,ae3,acc,((l2.trans ly).trans l3).trans l4,w4,re3.mono l4,((rs.mono ly).mono l3).mono l4,p4⟩
  ·exact p2.elim
 ·have hi2:i=it.items.length:=by omega
  subst hi2
  rw[List.drop_length] at p2
  unfold lcL at p2
  split at p2
  ·rename_i hG
   refine .inl ⟨(hJ.step l2 w2 hG).2,?_⟩
   have p3:PostG K mg ρ2 H2 (ES σ) (λd _ ρ' H'=>∀v,RelD K mg ρ' H' d v->Q v H') (cE acc h2):=p2
   unfold cE at p3
   split at p3
   ·rename_i hl
    exact⟨by rw[<- rs.len];exact hl,λq hq=>jq w2 rs hq p3⟩
   ·exact p3.elim
  ·exact p2.elim
def NR(M:List Str)(kn:List (Str×NameKind))(N:List Str)(sub:Ud)
 (hc:X.calm=true) (hi:DI K mg X ES tg am I)
 (hg:∀cl C s₂ H fp,DG K mg (bD X N scope cl C s₂ H fp) (λ_=>E0) tg g) (he:∀cl C s₂ H fp,DE K mg (bD X N scope cl C s₂ H fp) (λ_=>E0) li F)
 (hM:X.N=M:=by rfl) (hkn:X.env.scope.names=kn:=by rfl) (ii:jN M scope.names sub N=true:=by decide)
 (hk:scope.kind=.function:=by rfl) (hnc:∀x∈scope.names,x.2 ≠ .cell:=by decide) (bn:∀x∈scope.names,x.2=.local->scope.names.lookup x.1=some .local:=by decide)
 (hfr:mJ kn scope.names=true:=by decide)
 (hsl:sub.length=N.length:=by rfl) (hs:∀x,foldedSetIterable am X.env x=pure x:=by intro _;rfl):
 DE K mg X ES (.ListComp li [⟨tg,am,[],0⟩] scope pos) (eLC I sub g tY F):=
 PE.imp (NU M kn N sub hc hi hg he hM hkn ii hk hnc bn hfr hsl hs) λσ H Q q=>by
  have:=El (cf:=tY) σ H Q q
  obtain⟨ρ,h,ae,w,re,p⟩:=this
  refine⟨ρ,h,ae,w,re,p.imp λit h1 ρ1 H1 l1 w1 k J hJ=>?_⟩
  obtain⟨W,w0,tn⟩:=k J hJ
  refine⟨W,w0,λi m ys σ2 H2 hW=>?_⟩
  rcases tn i m ys σ2 H2 hW with z |⟨go,hl,Nx,hN,st⟩
  ·exact .inl z
  ·refine .inr ⟨go,hl,Nx,hN,λx H' hy=>?_⟩
   obtain⟨ρ3,h3,ae3,d3,w3,re3,rd3,p3⟩:=st x H' hy
   refine⟨ρ3,h3,ae3,d3,w3,re3,rd3,p3.imp λae4 h4 ρ4 H4 l4 w4 k4 σ4 re4=>?_⟩
   obtain⟨ρ5,h5,ae5,w5,re5,p5⟩:=k4 σ4 re4
   exact p5 ρ5 _ Le.refl w5
def Jv(σ:St)(H:Hp)(Q:VK)(q:rdE K mg ES (eLC I sub g tY F) σ H Q):lq (rdI K mg ES I) sub (rdG K mg (λ_=>E0) g) B0 (rdE K mg (λ_=>E0) F) σ H Q:=by
 have:=El (cf:=tY) σ H Q q
 obtain⟨ρ,h,ae,w,re,p⟩:=this
 refine⟨ρ,h,ae,w,re,p.imp λit h1 ρ1 H1 l1 w1 k J hJ=>?_⟩
 obtain⟨W,w0,tn⟩:=k J hJ
 refine⟨W,w0,λi m ys σ2 H2 hW=>?_⟩
 rcases tn i m ys σ2 H2 hW with z |⟨go,hl,Nx,hN,st⟩
 ·exact .inl z
 ·refine .inr ⟨go,hl,Nx,hN,λx H' hy=>?_⟩
  obtain⟨ρ3,h3,ae3,d3,w3,re3,rd3,p3⟩:=st x H' hy
  refine⟨ρ3,h3,ae3,d3,w3,re3,rd3,p3.imp λae4 h4 ρ4 H4 l4 w4 k4 σ4 re4=>?_⟩
  obtain⟨ρ5,h5,ae5,w5,re5,p5⟩:=k4 σ4 re4
  exact p5 ρ5 _ Le.refl w5
def Gb(ht:∀σ H Q,rdE K mg ES F σ H Q->t σ H Q)(De:Ends)(σ:St)(H:Hp)(q:rdS K mg ES (iJ F (gN i)) De σ H):vM t (oX i) De σ H:=by
 obtain⟨ρ,h,ae,w,re,p⟩:=q
 exact ht σ H _ ⟨ρ,h,ae,w,re,cN p re λd h1 ρ1 H1 l1 w1 re1 p1 v rv=>iS p1 w1 (re1.set i rv)⟩
def LJ(M:List Str)(kn:List (Str×NameKind))(N:List Str)(sub:Ud)
 (hc:X.calm=true) (hN:X.N.Nodup) (hix:X.N[iT]?=some xT) (hxl:Loc X.env.scope xT) (hi:DI K mg X ES tg am I)
 (hg:∀cl C s₂ H fp,DG K mg (bD X N scope cl C s₂ H fp) (λ_=>E0) tg g) (he:∀cl C s₂ H fp,DE K mg (bD X N scope cl C s₂ H fp) (λ_=>E0) li F)
 (hsw:swapsWith (.ListComp li [⟨tg,am,[],0⟩] scope pos) (some (.Name xT px)) spos.line X.env=pure true:=by rfl)
 (hM:X.N=M:=by rfl) (hkn:X.env.scope.names=kn:=by rfl) (ii:jN M scope.names sub N=true:=by decide)
 (hk:scope.kind=.function:=by rfl) (hnc:∀x∈scope.names,x.2 ≠ .cell:=by decide) (bn:∀x∈scope.names,x.2=.local->scope.names.lookup x.1=some .local:=by decide)
 (hfr:mJ kn scope.names=true:=by decide)
 (hsl:sub.length=N.length:=by rfl) (hs:∀x,foldedSetIterable am X.env x=pure x:=by intro _;rfl) (hf:X.fn xT=true\/X.env.scope.names.lookup xT=some .local:=by first |exact .inl rfl |exact .inr rfl |assumption):
 DS K mg X ES (.Assign [.Name xT px] (.ListComp li [⟨tg,am,[],0⟩] scope pos) spos) (iJ (eLC I sub g tY F) (gN iT)):=
 PS.imp (Mp M kn N sub hc hN hix hxl hi hg he hsw hM hkn ii hk hnc bn hfr hsl hs hf) (Gb Jv)
end
def whN(c:MT)(B:MS):Nat->MS
 |0,_,_=>.stuck
 |k+1,ae,h=>(c ae h).toS ae λb h1=>if b=true then (B ae h1).loop (whN c B k) else .nx ae h1
open Classical in
def sWh(c:MT)(B:MS):MS:=λae h=>if q:∃k,whN c B k ae h ≠ .stuck then whN c B q.choose ae h else .stuck
theorem nQ:∀{k:Nat}{ae:AE}{h:AH},whN c B k ae h ≠ .stuck->whN c B (k+1) ae h=whN c B k ae h
 |0,_,_,q=>absurd rfl q
 |
  k+1,ae,h,q=>by
  have e1:whN c B (k+2) ae h=(c ae h).toS ae λb h1=>if b=true then (B ae h1).loop (whN c B (k+1)) else .nx ae h1:=rfl
  have e2:whN c B (k+1) ae h=(c ae h).toS ae λb h1=>if b=true then (B ae h1).loop (whN c B k) else .nx ae h1:=rfl
  rw[e2] at q
  rw[e1,e2]
  cases r:c ae h with
  |exc _ _=>rfl
  |stuck=>rfl
  |
   ok b h1=>
   rw[r] at q
   cases b with
   |false=>rfl
   |
    true=>
    have q':(B ae h1).loop (whN c B k) ≠ .stuck:=q
    show (B ae h1).loop (whN c B (k+1))=(B ae h1).loop (whN c B k)
    cases s:B ae h1 with
    |nx a2 h2=>rw[s] at q';exact nQ q'
    |ct a2 h2=>rw[s] at q';exact nQ q'
    |_=>rfl
def zq(q:whN c B k ae h ≠ .stuck)(hj:k<=j):whN c B j ae h=whN c B k ae h:=by
 induction hj with
 |refl=>rfl
 |step _ ih=>rw[nQ (by rw[ih];exact q),ih]
def AX(q:whN c B k ae h ≠ .stuck):sWh c B ae h=whN c B k ae h:=by
 have hq:∃k,whN c B k ae h ≠ .stuck:=⟨k,q⟩
 unfold sWh
 rw[dif_pos hq]
 rcases Nat.le_total hq.choose k with z |z
 ·exact (zq hq.choose_spec z).symm
 ·exact zq q z
section
variable{K:W.Frag}{mg:Ua}{X:Cx}{ES:St->XK}{c:Expr}{cf:MT}{U:MS}{sts:List Stmt}{pos:Pos}
def BQ(hp:PassesOwn (model X.prog X.w) X.A X.env X.xe)(hc:DT K mg X ES c cf)(hb:DSs K mg X ES sts U):DS K mg X ES (.While c sts [] pos) (sWh cf U):=by
 refine PS.imp (BX hp hc hb) λDe σ H q_=>q_.el λρ h ae w re p=>?_
 have hx:∃k,whN cf U k ae h ≠ .stuck:=SU λz=>by
  unfold sWh at p
  rw[dif_neg z] at p
  exact p.elim
 obtain⟨k,hk⟩:=hx
 rw[AX hk] at p
 refine⟨λm σ2 H2=>∃ρ2 h2 ae2,Wd K mg ρ2 h2 H2/\RelE K mg ρ2 H2 ae2 σ2/\PostS K mg ρ2 H2 De ES (whN cf U m ae2 h2),⟨k,ρ,h,ae,w,re,p⟩,?_⟩
 rintro m σ2 H2 ⟨ρ2,h2,ae2,w2,re2,p2⟩
 cases m with
 |zero=>exact p2.elim
 |
  succ m=>
  refine⟨ρ2,h2,ae2,w2,re2,cN p2 re2 λb h3 ρ3 H3 l3 w3 re3 p3=>?_⟩
  cases b with
  |true=>exact⟨λσ' H'=>∃ρ4 h4 ae4,Wd K mg ρ4 h4 H'/\RelE K mg ρ4 H' ae4 σ'/\PostS K mg ρ4 H' De ES (whN cf U m ae4 h4),λσ' H' q=>⟨m,Nat.lt_succ_self _,q⟩,ρ3,h3,ae2,w3,re3,uu p3 λae4 h4 ρ4 H4 σ4 l4 w4 re4 p4=>⟨ρ4,h4,ae4,w4,re4,p4⟩⟩
  |false=>exact iS p3 w3 re3
end
def tM:Fn:=λds h=>match ds with
 | [d]=>match d7 h d with
  |some xs=>.ok (.int xs.length) h
  |none=>match d with
   |.str z=>if z.length<=16777216 then .ok (.int z.length) h else .stuck
   |_=>.stuck
 |_=>.stuck
def yK:Fn:=λds h=>match ds with
 | [.int i]=>.ok (.int (if i<0 then -i else i)) h
 |_=>.stuck
def tE:Fn:=λds h=>match ds with
 | [.int i,.int j]=>.ok (.int (if j>i then j else i)) h
 |_=>.stuck
def tq:Fn:=λds h=>match ds with
 | [.int i,.int j]=>.ok (.int (if j<i then j else i)) h
 |_=>.stuck
noncomputable def jP:List D->Option (List Bool)
 | []=>some []
 |.bl b::r=>(jP r).map (b :: ·)
 |_=>none
noncomputable def iE:List D->Option (List Int)
 | []=>some []
 |.int b::r=>(iE r).map (b :: ·)
 |_=>none
theorem vz:∀{ds:List D}{bs:List Bool},jP ds=some bs->ds=bs.map D.bl
 | [],bs,e=>by cases e;rfl
 |
  .bl b::r,bs,e=>by
  have e':(jP r).map (b :: ·)=some bs:=e
  cases q:jP r with
  |none=>rw[q] at e';cases e'
  |some z=>rw[q] at e';cases e';rw[vz q];rfl
theorem r9:∀{ds:List D}{bs:List Int},iE ds=some bs->ds=bs.map D.int
 | [],bs,e=>by cases e;rfl
 |
  .int b::r,bs,e=>by
  have e':(iE r).map (b :: ·)=some bs:=e
  cases q:iE r with
  |none=>rw[q] at e';cases e'
  |some z=>rw[q] at e';cases e';rw[r9 q];rfl
def uG:Fn:=λds h=>match ds with
 | [.ref n]=>match (bq h n).bind jP with
  |some bs=>.ok (.bl (bs.all id)) h
  |none=>.stuck
 |_=>.stuck
def uS:Fn:=λds h=>match ds with
 | [.ref n]=>match (bq h n).bind iE with
  |some ns=>.ok (.int ns.sum) h
  |none=>.stuck
 |_=>.stuck
def mM:Fn:=λds h=>match ds with
 | [d]=>match d7 h d with
  |some xs=>.ok (.tup xs) h
  |none=>.stuck
 |_=>.stuck
def yn:Fn:=λds h=>match ds with
 | [.int i]=>.ok (.int i) h
 | [.bl b]=>.ok (.int (if b then 1 else 0)) h
 |_=>.stuck
section
variable{K:W.Frag}{mg:Ua}{X:Cx}
def JU:bO K mg (λxs H Q=>(∃p ys,xs=[.ref p]/\(SqL K H p ys\/SqT K H p ys)/\Q (.int ys.length) H)\/(∃z,xs=[.str z]/\z.length<=sizeLine/\Q (.int z.length) H)) tM:=λρ h H ds vs Q E w rs p=>by
 unfold tM at p
 split at p
 ·cases
   rs with
  |
   cons r rs=>
   cases rs
   split at p
   ·rename_i xs e
    obtain⟨pa,vs,rfl,hq,rs⟩:=fO w r e
    exact .inl ⟨_,_,rfl,hq,by rw[<- rs.len];exact aG w (.int _) p⟩
   ·split at p
    ·cases r
     split at p
     ·rename_i hl;exact .inr ⟨_,rfl,hl,aG w (.int _) p⟩
     ·exact p.elim
    ·exact p.elim
 ·exact p.elim
def dD(h:X.K=K):CallR X (.builtin "len") (λxs H Q=>(∃p ys,xs=[.ref p]/\(SqL K H p ys\/SqT K H p ys)/\Q (.int ys.length) H)\/(∃z,xs=[.str z]/\z.length<=sizeLine/\Q (.int z.length) H)):=by subst h;exact tI.or uH
def Jl:bO K mg (λxs H Q=>∃i,xs=[.int i]/\Q (.int (if i<0 then -i else i)) H) yK:=λρ h H ds vs Q E w rs p=>by
 unfold yK at p
 split at p
 ·cases rs with
  |cons r rs=>cases r;cases rs;exact⟨_,rfl,aG w (.int _) p⟩
 ·exact p.elim
def G7:bO K mg (λxs H Q=>∃i j,xs=[.int i,.int j]/\Q (.int (if j>i then j else i)) H) tE:=λρ h H ds vs Q E w rs p=>by
 unfold tE at p
 split at p
 ·cases rs with
  |cons r rs=>cases rs with |cons r2 rs=>cases r;cases r2;cases rs;exact⟨_,_,rfl,aG w (.int _) p⟩
 ·exact p.elim
def Gw:bO K mg (λxs H Q=>∃i j,xs=[.int i,.int j]/\Q (.int (if j<i then j else i)) H) tq:=λρ h H ds vs Q E w rs p=>by
 unfold tq at p
 split at p
 ·cases rs with
  |cons r rs=>cases rs with |cons r2 rs=>cases r;cases r2;cases rs;exact⟨_,_,rfl,aG w (.int _) p⟩
 ·exact p.elim
def IP:bO K mg (λxs H Q=>∃(a:Addr) (bs:List Bool),xs=[.ref a]/\SqL K H a (bs.map V.bl)/\Q (.bl (bs.all id)) H) uG:=λρ h H ds vs Q E w rs p=>by
 unfold uG at p
 split at p
 ·cases
   rs with
  |
   cons r rs=>
   cases r with
   |
    ref ea=>
    cases rs
    split at p
    ·rename_i bs e
     obtain⟨xs,q,e2⟩:=Q1.mp e
     ·obtain⟨vs,h1,h2⟩:=c9 w ea q
      rw[vz e2] at h2
      rw[h2.bls] at h1
      exact⟨_,bs,rfl,h1,aG w (.bl _) p⟩
    ·exact p.elim
 ·exact p.elim
def Jr:bO K mg (λxs H Q=>∃(a:Addr) (ns:List Int),xs=[.ref a]/\SqL K H a (ns.map V.int)/\Q (.int ns.sum) H) uS:=λρ h H ds vs Q E w rs p=>by
 unfold uS at p
 split at p
 ·cases
   rs with
  |
   cons r rs=>
   cases r with
   |
    ref ea=>
    cases rs
    split at p
    ·rename_i bs e
     obtain⟨xs,q,e2⟩:=Q1.mp e
     ·obtain⟨vs,h1,h2⟩:=c9 w ea q
      rw[r9 e2] at h2
      rw[h2.ints] at h1
      exact⟨_,bs,rfl,h1,aG w (.int _) p⟩
    ·exact p.elim
 ·exact p.elim
def CT:bO K mg (λxs H Q=>∃p ys,xs=[.ref p]/\((SqL K H p ys/\∀l,H l=none->Q (.ref l) (upd H l (.tup ys)))\/(SqT K H p ys/\Q (.ref p) H))) mM:=λρ h H ds vs Q E w rs p=>by
 unfold mM at p
 split at p
 ·cases rs with
  |
   cons r rs=>
   cases rs
   split at p
   ·rename_i xs e
    obtain⟨pa,vs,rfl,hq,rs⟩:=fO w r e
    rcases hq with hq |hq
    ·exact⟨_,_,rfl,.inl ⟨hq,λl hl=>lA w rs hl p⟩⟩
    ·exact⟨_,_,rfl,.inr ⟨hq,aG w (.tup hq rs) p⟩⟩
   ·exact p.elim
 ·exact p.elim
def Io:bO K mg (λxs H Q=>(∃i,xs=[.int i]/\Q (.int i) H)\/∃k,xs=[.bl k]/\Q (.int (if k then 1 else 0)) H) yn:=λρ h H ds vs Q E w rs p=>by
 unfold yn at p
 split at p
 ·cases rs with
  |cons r rs=>cases r;cases rs;exact .inl ⟨_,rfl,aG w (.int _) p⟩
 ·cases rs with
  |cons r rs=>cases r;cases rs;exact .inr ⟨_,rfl,aG w (.int _) p⟩
 ·exact p.elim
def mZ(h:X.K=K):CallR X (.type "tuple") (λxs H Q=>∃p ys,xs=[.ref p]/\((SqL K H p ys/\∀l,H l=none->Q (.ref l) (upd H l (.tup ys)))\/(SqT K H p ys/\Q (.ref p) H))):=by subst h;exact sS
end
inductive Cl where
 |b (n:String) |o (x:Str)
 deriving DecidableEq
def tyD(h:AH):D->Option Cl
 |.non=>some (.b "NoneType")
 |.bl _=>some (.b "bool")
 |.int _=>some (.b "int")
 |.str _=>some (.b "str")
 |.tup _=>some (.b "tuple")
 |.exc x=>some (.o x)
 |.ref n=>match h[n]? with
  |some (.lst _)=>some (.b "list")
  |some (.fz _)=>some (.b "list")
  |some (.dct _)=>some (.b "dict")
  |_=>none
 |_=>none
noncomputable def clD:D->Option Cl
 |.ty n=>some (.b n)
 |.glb x=>some (.o x)
 |_=>none
def ClV(mg:Ua):Cl->Value->Prop
 |.b n,v=>v=.type n
 |.o x,v=>∃a,v=.ref a/\mg x=some (.ref a)
abbrev lz:=List (Cl×Cl×Bool)
structure KitsOk(K:W.Frag)(mg:Ua)(kt:lz):Prop where
 one:∀p∈kt,∀t v,ClV mg p.1 t->ClV mg p.2.1 v->W.kitOne K t v=some p.2.2
 xc:∀p∈kt,∀x C,p.1=.o x->mg x=some (.ref C)->XCls K C
def kit(kt:lz)(t c:Cl):Option Bool:=(kt.find? λp=>decide (p.1=t)&&decide (p.2.1=c)).map (·.2.2)
def g6(kt:lz)(t:Cl):List Cl->Option Bool
 | []=>some false
 |c::r=>match kit kt t c with
  |some true=>some true
  |some false=>g6 kt t r
  |none=>none
def ve(kt:lz):Fn:=λds h=>match ds with
 | [d,c]=>match tyD h d with
  |some t=>match c with
   |.tup cs=>match cs.mapM clD with
    |some (c0::cr)=>match g6 kt t (c0::cr),kit kt t c0 with
     |some b,some _=>.ok (.bl b) h
     |_,_=>.stuck
    |_=>.stuck
   |c=>match clD c with
    |some cl=>match kit kt t cl with
     |some b=>.ok (.bl b) h
     |none=>.stuck
    |none=>.stuck
  |none=>.stuck
 |_=>.stuck
def rl(e:kit kt t c=some b):(t,c,b)∈kt:=by
 unfold kit at e
 cases q:kt.find? (λp=>decide (p.1=t)&&decide (p.2.1=c)) with
 |none=>rw[q] at e;cases e
 |
  some p=>
  rw[q] at e
  have h1:=List.find?_some q
  have h2:=List.mem_of_find?_eq_some q
  simp only[Qy,Th] at h1
  obtain⟨p1,p2,p3⟩:=p
  have e3:p3=b:=QK e
  obtain⟨rfl,rfl⟩:=h1
  subst e3
  exact h2
section
variable{K:W.Frag}{mg:Ua}{X:Cx}{ρ:List Addr}{H:Hp}{h:AH}
def wq(ok:KitsOk K mg kt)(w:Wd K mg ρ h H)(r:RelD K mg ρ H d v)(e:tyD h d=some t)(k:kit kt t c=some b):∃tv,TyX K H v tv/\ClV mg t tv:=by
 cases r with
 |non=>cases e;exact⟨_,.of .non,rfl⟩
 |bl=>cases e;exact⟨_,.of (.bl _),rfl⟩
 |int=>cases e;exact⟨_,.of (.int _),rfl⟩
 |str=>cases e;exact⟨_,.of (.str _),rfl⟩
 |tup q rs=>cases e;exact⟨_,.sqT q,rfl⟩
 |
  exc m ex=>
  cases e
  exact⟨_,.exc ex (ok.xc _ (rl k) _ _ rfl m),_,rfl,m⟩
 |
  ref ea=>
  unfold tyD at e
  dsimp only at e
  split at e
  ·rename_i e1;cases e;obtain⟨vs,h1,h2⟩:=w.ob _ _ _ ea e1;exact⟨_,.of (.lst h1),rfl⟩
  ·rename_i e1;cases e;obtain⟨o,vs,h1,h2⟩:=w.ob _ _ _ ea e1;exact⟨_,.of (.frz h1),rfl⟩
  ·rename_i e1;cases e;obtain⟨ws,h1,_⟩:=w.ob _ _ _ ea e1;exact⟨_,.of (.dK h1),rfl⟩
  ·cases e
 |_=>cases e
def xm(r:RelD K mg ρ H d v)(e:clD d=some c):∃cv,gD v=some cv/\ClV mg c cv:=by
 cases r with
 |ty n=>cases e;exact⟨_,rfl,rfl⟩
 |glb m=>cases e;exact⟨_,rfl,_,rfl,m⟩
 |_=>cases e
def BB:∀{ds:List D}{vs:List V}{cs:List Cl},RelDs K mg ρ H ds vs->ds.mapM clD=some cs->∃cvs,vs.mapM gD=some cvs/\Paired (ClV mg) cs cvs:=by
 intro ds
 induction ds with
 |
  nil=>
  intro vs cs r e
  cases r
  have e':some ([]:List Cl)=some cs:=e
  cases e';exact⟨[],rfl,.nil⟩
 |
  cons d ds ih=>
  intro vs cs r e
  cases r with
  |
   cons r rr=>
   rw[Su] at e
   cases q:clD d with
   |none=>rw[q] at e;cases e
   |
    some c=>
    rw[q] at e
    cases q2:ds.mapM clD with
    |none=>rw[q2] at e;cases e
    |
     some cs'=>
     rw[q2] at e
     have e':some (c::cs')=some cs:=e
     cases e'
     obtain⟨cv,h1,h2⟩:=xm r q
     obtain⟨cvs,h3,h4⟩:=ih rr q2
     refine⟨cv::cvs,?_,.cons h2 h4⟩
     rw[Su,h1,h3];rfl
def z9(ok:KitsOk K mg kt)(ht:ClV mg t tv):∀{cs:List Cl}{cvs:List Value}{b:Bool},Paired (ClV mg) cs cvs->g6 kt t cs=some b->W.kitAny K tv cvs=some b:=by
 intro cs
 induction cs with
 |
  nil=>
  intro cvs b r e
  cases r
  cases e;rfl
 |
  cons c cs ih=>
  intro cvs b r e
  cases r with
  |
   cons r rr=>
   unfold g6 at e
   unfold W.kitAny
   cases q:kit kt t c with
   |none=>rw[q] at e;cases e
   |
    some z=>
    rw[q] at e
    rw[ok.one _ (rl q) _ _ ht r]
    cases z with
    |true=>exact e
    |false=>exact ih rr e
def An:CallR X (.builtin "isinstance") (λxs H Q=>∃x tp cs t vs b,xs=[x,.ref tp]/\SqT X.K H tp cs/\TyX X.K H x t/\cs.mapM gD=some vs/\W.kitAny X.K t vs=some b/\Q (.bl b) H):=by
 intro pins s σ H xs us Q I r h
 obtain⟨x,tp,cs,t,vs,b,rfl,ht,ty,hc,hk,q⟩:=h
 obtain⟨u,w',rfl,rx,rc⟩:=oY r
 cases rc
 obtain⟨its,rv,⟨o,e,c,n,d⟩,_⟩:=I.tuple ht
 obtain rfl:=sk hc rv
 obtain⟨Hh,Z,p,hne⟩:=xf I rx ty
 obtain⟨oc,od,odt,osl⟩:=o
 have c':oc=.type "tuple":=c
 have d':odt=.seq its.toArray n:=d
 subst c' d'
 exact W.kia_tup Z I.kIn p e hk hne λtk=>⟨.bl b,H,I.tok _,rfl,q⟩
def eK(hK:X.K=K):CallR X (.builtin "isinstance") (λxs H Q=>(∃x c t v b,xs=[x,c]/\TyX K H x t/\gD c=some v/\W.kitOne K t v=some b/\Q (.bl b) H)\/
 (∃x tp cs t vs b,xs=[x,.ref tp]/\SqT K H tp cs/\TyX K H x t/\cs.mapM gD=some vs/\W.kitAny K t vs=some b/\Q (.bl b) H)):=by subst hK;exact BK.or An
def Jx(ok:KitsOk K mg kt):bO K mg (λxs H Q=>(∃x c t v b,xs=[x,c]/\TyX K H x t/\gD c=some v/\W.kitOne K t v=some b/\Q (.bl b) H)\/
 (∃x tp cs t vs b,xs=[x,.ref tp]/\SqT K H tp cs/\TyX K H x t/\cs.mapM gD=some vs/\W.kitAny K t vs=some b/\Q (.bl b) H)) (ve kt):=λρ h H ds vs Q E w rs p=>by
 unfold ve at p
 split at p
 ·cases
   rs with
  |
   cons r rs=>
   cases rs with
   |
    cons r2 rs=>
    cases rs
    split at p
    ·rename_i t e1
     split at p
     ·split
       at p
      ·rename_i cs c0 cr e2
       split at p
       ·rename_i b b' e3 e4
        cases r2 with
        |
         tup q rs2=>
         obtain⟨tv,h1,h2⟩:=wq ok w r e1 e4
         obtain⟨cvs,h3,h4⟩:=BB rs2 e2
         exact .inr ⟨_,_,_,tv,cvs,b,rfl,q,h1,h3,z9 ok h2 h4 e3,aG w (.bl _) p⟩
       ·exact p.elim
      ·exact p.elim
     ·split at p
      ·rename_i cl e2
       split at p
       ·rename_i b e3
        obtain⟨tv,h1,h2⟩:=wq ok w r e1 e3
        obtain⟨cv,h3,h4⟩:=xm r2 e2
        exact .inl ⟨_,_,tv,cv,b,rfl,h1,h3,ok.one _ (rl e3) _ _ h2 h4,aG w (.bl _) p⟩
       ·exact p.elim
      ·exact p.elim
    ·exact p.elim
 ·exact p.elim
end
def MtD(K:W.Frag)(mg:Ua)(r:V->List V->Hp->VK->Prop)(g:D->List D->AH->R D):Prop:=∀ρ h H dx ds x vs Q E,Wd K mg ρ h H->RelD K mg ρ H dx x->RelDs K mg ρ H ds vs->eV K mg ρ H Q E (g dx ds h)->r x vs H Q
def l7(h:AH):D->Bool
 |.ref n=>(bq h n).isSome
 |_=>false
def eM(g:D->List D->AH->R D)(F:ME)(A:MA):ME:=λae h=>(F ae h).bind λx h1=>if l7 h1 x=true then (A ae h1).bind λds h2=>g x ds h2 else .stuck
def eM0(g:D->List D->AH->R D)(F:ME):ME:=λae h=>(F ae h).bind λx h1=>if l7 h1 x=true then g x [] h1 else .stuck
section
variable{K:W.Frag}{mg:Ua}{X:Cx}{ES:St->XK}{o e:Expr}{es:List Expr}{F G:ME}{A:MA}{pos:Pos}
def sd(w:Wd K mg ρ h H)(r:RelD K mg ρ H d v)(q:l7 h d=true):tyV K "list" v H:=by
 cases r with
 |
  ref ea=>
  obtain⟨xs,e⟩:=QW.mp q
  obtain⟨vs,h1,_⟩:=c9 w ea e
  exact .inl ⟨rfl,vs,h1⟩
 |_=>cases q
def de_m{name:Str}{id:String}{apos cpos:Pos}{r:V->List V->Hp->VK->Prop}{g:D->List D->AH->R D}(hK:X.K=K)(slot:Slot "list" name id)(hty:typeOf (.builtin id)=pure (.type "method_descriptor"))(hm:MtM X id r)(hd:MtD K mg r g)(ho:DE K mg X ES o F)(ha:DA K mg X ES (e::es) A)
 (ge:attributeBase o name X.env (eval o X.env)=eval o X.env:=by rfl)
 (hfew:((backTo cpos (starEach (e::es) X.env)).all (λx=>!x.1)&&(backToKw cpos (keywordEach [] X.env)).all (λx=>x.1.isSome)
  && decide ((e::es).length+([]:List Keyword).length+(if ([]:List Keyword).isEmpty then 0 else 1)<30))=true:=by rfl)
 (gl:(apos.endLine==cpos.line)=true:=by rfl) (hs:starEach (e::es) X.env=(false,eval e X.env)::starEach es X.env:=by rfl) (ci:(backTo cpos (starEach es X.env)).any (·.1)=false:=by rfl):
 DE K mg X ES (.Call (.Attribute o name apos) (e::es) [] cpos) (eM g F A):=by
 subst hK
 refine PE.imp (D6 PySem.F.plainAttrs_list slot hty hm ho ha ge hfew gl hs ci) λσ H Q q_=>q_.el λρ h ae w re p=>⟨ρ,h,ae,w,re,p.bind.imp λdx h1 ρ1 H1 l1 w1 p1 x rx=>?_⟩
 split at p1
 ·rename_i hl
  exact⟨sd w1 rx hl,ρ1,h1,ae,w1,re.mono l1,p1.bind.imp λds h2 ρ2 H2 l2 w2 p2 vs rs=>hd ρ2 h2 H2 dx ds x vs Q _ w2 (rx.mono l2) rs p2⟩
 ·exact p1.elim
def NA{name:Str}{id:String}{apos cpos:Pos}{r:V->List V->Hp->VK->Prop}{g:D->List D->AH->R D}(hK:X.K=K)(slot:Slot "list" name id)(hty:typeOf (.builtin id)=pure (.type "method_descriptor"))(hm:MtM X id r)(hd:MtD K mg r g)(ho:DE K mg X ES o F)
 (ge:attributeBase o name X.env (eval o X.env)=eval o X.env:=by rfl) (gl:(apos.endLine==cpos.line)=true:=by rfl):DE K mg X ES (.Call (.Attribute o name apos) [] [] cpos) (eM0 g F):=by
 subst hK
 refine PE.imp (IF PySem.F.plainAttrs_list slot hty hm ho ge gl) λσ H Q q_=>q_.el λρ h ae w re p=>⟨ρ,h,ae,w,re,p.bind.imp λdx h1 ρ1 H1 l1 w1 p1 x rx=>?_⟩
 split at p1
 ·rename_i hl
  exact⟨sd w1 rx hl,hd ρ1 h1 H1 dx [] x [] Q _ w1 rx .nil p1⟩
 ·exact p1.elim
end
def iX(h:AH)(d:D)(f:Nat->List D->R D):R D:=match d with
 |.ref n=>match h[n]? with
  |some (.lst xs)=>f n xs
  |_=>.stuck
 |_=>.stuck
def dZ:D->List D->AH->R D:=λx ds h=>iX h x λn xs=>match ds with
 | [d]=>if xs.length<16777216 then .ok .non (h.set n (.lst (xs++[d]))) else .stuck
 |_=>.stuck
def xK:D->List D->AH->R D:=λx ds h=>iX h x λn xs=>match ds with
 | []=>match xs[xs.length-1]? with
  |some d=>.ok d (h.set n (.lst xs.dropLast))
  |none=>.stuck
 |_=>.stuck
section
variable{K:W.Frag}{mg:Ua}{X:Cx}{ρ:List Addr}{H:Hp}{h:AH}
def jS(w:Wd K mg ρ h H)(r:RelD K mg ρ H d v)(p:eV K mg ρ H Q E (iX h d f)):
 ∃n xs a vs,d=.ref n/\h[n]?=some (.lst xs)/\ρ[n]?=some a/\v=.ref a/\H a=some (.lst vs)/\RelDs K mg ρ H xs vs/\eV K mg ρ H Q E (f n xs):=by
 unfold iX at p
 split at p
 ·cases r with
  |
   ref ea=>
   split at p
   ·rename_i n xs e
    obtain⟨vs,h1,h2⟩:=w.ob _ _ _ ea e
    exact⟨_,_,_,vs,rfl,e,ea,rfl,h1,h2,p⟩
   ·exact p.elim
 ·exact p.elim
def lO(w:Wd K mg ρ h H)(ea:ρ[n]?=some a)(e:H a=some (.lst vs))(rs:RelDs K mg ρ H ys ws)(rd:RelD K mg ρ H d v)(p:eV K mg ρ H Q E (.ok d (h.set n (.lst ys)))):Q v (upd H a (.lst ws)):=by
 have l:Le ρ H ρ (upd H a (.lst ws)):=nA e sZ
 exact p ρ _ l (w.write ea e sZ ⟨ws,bR,rs.mono l⟩) v (rd.mono l)
def sj:MtD K mg qP dZ:=λρ h H dx ds x vs Q E w rx rs p=>by
 obtain⟨n,xs,a,us,rfl,e,ea,rfl,h1,h2,p⟩:=jS w rx p
 split at p
 ·cases rs with
  |
   cons r rs=>
   cases rs
   split at p
   ·rename_i hl
    exact⟨a,us,_,rfl,rfl,h1,by rw[<- h2.len];exact hl,lO w ea h1 (h2.append (.cons r .nil)) .non p⟩
   ·exact p.elim
 ·exact p.elim
def He:MtD K mg Cj xK:=λρ h H dx ds x vs Q E w rx rs p=>by
 obtain⟨n,xs,a,us,rfl,e,ea,rfl,h1,h2,p⟩:=jS w rx p
 split at p
 ·cases rs
  split at p
  ·rename_i d ed
   obtain⟨v,ev,rv⟩:=h2.getD ed
   rw[h2.len] at ev
   refine⟨a,us,v,rfl,rfl,h1,ev,lO w ea h1 ?_ rv p⟩
   rw[Ss,Ss,h2.len]
   exact h2.take _
  ·exact p.elim
 ·exact p.elim
inductive EqsR(K:W.Frag)(H:Hp)(y:V)(pd:PyData):List V->List Bool->Prop where
 |nil:EqsR K H y pd [] []
 |cons {x:V}{px:PyData}{xs:List V}{bs:List Bool} (rx:Rep K H x px) (hx:shp px=true) (r:EqsR K H y pd xs bs):EqsR K H y pd (x::xs) (PyData.eqv px pd::bs)
end
def wL(o i v:D)(h:AH):R Unit:=match o,i with
 |.ref n,.int k=>match h[n]? with
  |some (.lst xs)=>match ixN xs.length k with
   |some j=>.ok () (h.set n (.lst (xs.set j v)))
   |none=>.stuck
  |_=>.stuck
 |_,_=>.stuck
section
variable{K:W.Frag}{mg:Ua}{X:Cx}{ES:St->XK}{o i:Expr}{F G:ME}{pos:Pos}
def EN:qU K mg yd wL:=λρ h H do_ di dv o i v Q E w ro ri rv p=>by
 unfold wL at p
 split at p
 ·cases
   ro with
  |
   ref ea=>
   cases ri
   split at p
   ·rename_i n k xs e
    split at p
    ·rename_i j ej
     obtain⟨vs,h1,h2⟩:=w.ob _ _ _ ea e
     have l:Le ρ H ρ (upd H _ (.lst (vs.set j v))):=nA h1 sZ
     exact⟨_,vs,_,j,rfl,rfl,h1,by rw[<- h2.len];exact ej,p ρ _ l (w.write ea h1 sZ ⟨_,bR,(h2.set rv j).mono l⟩)⟩
    ·exact p.elim
   ·exact p.elim
 ·exact p.elim
def Ko(ho:DE K mg X ES o F)(hi:DE K mg X ES i G)(hs:uM X t)(hd:qU K mg t f)
 (ha:∀v,assign (.Subscript o i pos) X.env v=(do
  let ov <- holding [v] (eval o X.env)
  let iv <- holding [v,ov] (eval i X.env)
  standAt pos
  holding [v,ov,iv] (setItem ov iv v)
  release [v,ov,iv] []):=by intro _;rfl):DG K mg X ES (.Subscript o i pos) (gS F G f):=
 PG.imp (Kj ho hi hs ha) λv σ H Q q_=>q_.el λρ h ae d w re rd p=>
  ⟨ρ,h,ae,w,re,p.bind.imp λdo_ h1 ρ1 H1 l1 w1 p1 o' ro=>⟨ρ1,h1,ae,w1,re.mono l1,p1.bind.imp λdi h2 ρ2 H2 l2 w2 p2 i' ri=>
   hd ρ2 h2 H2 do_ di d o' i' v _ _ w2 (ro.mono l2) ri ((rd.mono l1).mono l2) (p2.bind.imp λ_ h3 ρ3 H3 l3 w3 p3=>p3 ρ3 H3 Le.refl w3 σ (((re.mono l1).mono l2).mono l3))⟩⟩
end
def cutD(xs:List D)(lo hi:Option Int):List D:=(xs.drop (HT.sIx xs.length 0 lo)).take (HT.sIx xs.length xs.length hi-HT.sIx xs.length 0 lo)
abbrev MO:=AE->AH->R (Option Int)
def yG:MO:=λ_ h=>.ok none h
def xX(F:ME):MO:=λae h=>(F ae h).bind λd h1=>match d with
 |.int i=>.ok (some i) h1
 |_=>.stuck
def gSl(x:D)(lo hi:Option Int)(h:AH):R D:=match x with
 |.tup xs=>if HT.sIx xs.length 0 lo=0/\HT.sIx xs.length xs.length hi=xs.length then .stuck else .ok (.tup (cutD xs lo hi)) h
 |.ref n=>match bq h n with
  |some xs=>.ok (.ref h.length) (h++[.lst (cutD xs lo hi)])
  |none=>.stuck
 |.kl xs=>.ok (.ref h.length) (h++[.lst (cutD xs lo hi)])
 |_=>.stuck
def eSl(F:ME)(L U:MO):ME:=λae h=>(F ae h).bind λx h1=>(L ae h1).bind λlo h2=>(U ae h2).bind λhi h3=>gSl x lo hi h3
section
variable{K:W.Frag}{mg:Ua}{X:Cx}{ES:St->XK}{e:Expr}{F:ME}{L U:MO}{lo hi:Option Expr}{pos p2:Pos}
def rdO(K:W.Frag)(mg:Ua)(ES:St->XK)(F:MO):TO:=λσ H Q=>∃ρ h ae,Wd K mg ρ h H/\RelE K mg ρ H ae σ/\PostG K mg ρ H (ES σ) (λo _ ρ' H'=>Q o H') (F ae h)
def DO(K:W.Frag)(mg:Ua)(X:Cx)(ES:St->XK)(e:Option Expr)(F:MO):Prop:=PO X e (rdO K mg ES F)
def Gp:DO K mg X ES none yG:=PO.imp FT λσ H Q ⟨ρ,h,ae,w,re,p⟩=>p ρ H Le.refl w
def E5(he:DE K mg X ES e F):DO K mg X ES (some e) (xX F):=PO.imp (Gf he) λσ H Q ⟨ρ,h,ae,w,re,p⟩=>⟨ρ,h,ae,w,re,p.bind.imp λd h1 ρ1 H1 l1 w1 p1 v rv=>by
 split at p1
 ·cases rv;exact⟨_,rfl,p1 ρ1 H1 Le.refl w1⟩
 ·exact p1.elim⟩
def qS(r:RelDs K mg ρ H xs vs)(lo hi:Option Int):RelDs K mg ρ H (cutD xs lo hi) (mz vs lo hi):=by
 unfold cutD mz
 rw[<- r.len]
 exact (r.drop _).take _
def slK(h:X.K=K):SlR X (λx lo hi H Q=>rSlL K x lo hi H Q\/rSlT K x lo hi H Q):=by subst h;exact E2.or IE
def C1(hK:X.K=K)(he:DE K mg X ES e F)(hl:DO K mg X ES lo L)(hu:DO K mg X ES hi U):DE K mg X ES (.Subscript e (.Slice lo hi none p2) pos) (eSl F L U):=
 PE.imp (
  Dr (slK hK) he hl hu) λσ H Q q_=>q_.el λρ h ae w re p=>⟨ρ,h,ae,w,re,p.bind.imp λd h1 ρ1 H1 l1 w1 p1 x rx=>⟨ρ1,h1,ae,w1,re.mono l1,p1.bind.imp λlo h2 ρ2 H2 l2 w2 p2=>⟨ρ2,h2,ae,w2,(re.mono l1).mono l2,p2.bind.imp λhi h3 ρ3 H3 l3 w3 p3=>by
  have rx3:=(rx.mono l2).mono l3
  unfold gSl at p3
  split at p3
  ·split at p3
   ·exact p3.elim
   ·rename_i hn
    cases rx3 with
    |tup q rs=>exact .inr ⟨_,_,rfl,q,by rw[<- rs.len];exact hn,λl hl=>lA w3 (qS rs lo hi) hl p3⟩
  ·split at p3
   ·rename_i xs e1
    cases rx3 with
    |
     ref ea=>
     obtain⟨vs,q,rs⟩:=c9 w3 ea e1
     exact .inl ⟨_,_,rfl,q,λl hl=>jq w3 (qS rs lo hi) hl p3⟩
   ·exact p3.elim
  ·cases rx3 with
   |kl q rs=>exact .inl ⟨_,_,rfl,.inr q,λl hl=>jq w3 (qS rs lo hi) hl p3⟩
  ·exact p3.elim⟩⟩⟩
end
def vN(d:D)(h:AH):R Bool:=match d with
 |.non=>.ok false h
 |.bl b=>.ok b h
 |.int i=>.ok (i != 0) h
 |d=>match d7 h d with
  |some xs=>.ok (!xs.isEmpty) h
  |none=>.stuck
def tTr(F:ME):MT:=λae h=>(F ae h).bind vN
section
variable{K:W.Frag}{mg:Ua}{X:Cx}{ES:St->XK}{a:Expr}{F:ME}
def CZ(hK:X.K=K)(ha:DE K mg X ES a F)(he:∀db,isTrue a X.env db=(do let v <- db;standAt a.pos;holding [v] (truthy v)):=by intro _;rfl):DT K mg X ES a (tTr F):=by
 subst hK
 refine PT.imp (BU ha he) λσ H Q q_=>q_.el λρ h ae w re p=>⟨ρ,h,ae,w,re,p.bind.imp λd h1 ρ1 H1 l1 w1 p1 x rx=>?_⟩
 have items:∀{xs:List D},d7 h1 d=some xs->Q (!xs.isEmpty) H1->∃k,Di X.K x H1 k/\Q k H1:=λ{xs} e q=>by
  obtain⟨pa,vs,rfl,hq,rs⟩:=fO w1 rx e
  have ee:xs.isEmpty=vs.isEmpty:=by cases rs <;> rfl
  rw[ee] at q
  rcases hq with hq |hq
  ·exact⟨_,.inl ⟨vs,hq,rfl⟩,q⟩
  ·exact⟨_,.inr (.inl ⟨vs,hq,rfl⟩),q⟩
 unfold vN at p1
 split at p1
 ·cases rx;exact⟨_,rfl,p1 ρ1 H1 Le.refl w1⟩
 ·cases rx;exact⟨_,rfl,p1 ρ1 H1 Le.refl w1⟩
 ·cases rx;exact⟨_,rfl,p1 ρ1 H1 Le.refl w1⟩
 ·split at p1
  ·rename_i xs e1;exact items e1 (p1 ρ1 H1 Le.refl w1)
  ·exact p1.elim
end
section
variable{X:Cx}{pins pins2 pn:Ub}{σ:St}{H:Hp}{s:Shared}{xe:Uc}
end
section
variable{K:W.Frag}{mg:Ua}{X:Cx}{ES:St->XK}{x n:Str}{C:Addr}{i:Nat}{body suite:List Stmt}{b₀:Stmt}{B U:MS}{np hpos pos:Pos}{mro:List Str}
end
structure Script(h:AH)(d:D)(ns:List Int):Prop where
 form:(∃n,d=.ref n/\h[n]?=some (.fz (ns.map D.int)))\/d=.kl (ns.map D.int)
theorem lb{K:W.Frag}{mg:Ua}{ρ:List Addr}{H:Hp}:∀(ns:List Int),RelDs K mg ρ H (ns.map D.int) (ns.map V.int)
 | []=>.nil
 |_::r=>.cons (.int _) (lb r)
def Dk{P:Program}{w:World}{K:W.Frag}{mg:Ua}{base:Heap}{x y:Str}{k:Nat}{S:Fn}(C:Callee P w K mg base x k [y] (spD K mg 1 S))
 (hS:∀(d:D) (h:AH) (ns:List Int),ns.length<=63->Script h d ns->∃h',S [d] h=.ok (.bl true) h'):Callee P w K mg base x k [y] (λvs H Q _=>∃(a:Addr) (ns:List Int),vs=[.ref a]/\qC H/\SqL K H a (ns.map V.int)/\ns.length<=63/\∀H',Q (.bl true) H'):=by
 refine C.imp λvs H Q E ⟨a,ns,e,hO,hq,hl,q⟩=>?_
 subst e
 rcases hq with (hq |⟨o,hq⟩) |hq
 ·rcases hO a with z |⟨o,xs,z⟩ <;> rw[hq] at z <;> cases z
 ·obtain⟨h',e⟩:=hS (.ref 0) [.fz (ns.map D.int)] ns hl ⟨.inl ⟨0,rfl,rfl⟩⟩
  refine⟨[a],[.fz (ns.map D.int)],[.ref 0],⟨rfl,by simp,λn b ob e1 e2=>?_⟩,.cons (.ref rfl) .nil,rfl,?_⟩
  ·cases n with
   |zero=>cases e1;cases e2;exact⟨o,_,hq,lb ns⟩
   |succ n=>simp at e1
  ·rw[e]
   exact λρ' H' l' w' v rv=>by cases rv;exact q H'
 ·obtain⟨h',e⟩:=hS (.kl (ns.map D.int)) [] ns hl ⟨.inr rfl⟩
  refine⟨[],[],[.kl (ns.map D.int)],⟨rfl,by simp,λn b ob e1 e2=>by simp at e1⟩,.cons (.kl hq (lb ns)) .nil,rfl,?_⟩
  rw[e]
  exact λρ' H' l' w' v rv=>by cases rv;exact q H'
def walk_lawD{l:W.OpenLaw}{q:Program}{loose:List Str}{XP:(Str->Option Value)->Heap->Prop}{YP:World->Heap->Prop}{d:DefRec}{K:Params->W.Frag}{x:Str}{k:Nat}(hn:l.most=some 63)(hdf:d.params.defaults=[])(hr:Room k callerA)
 (hY:∀(w:World) (h:Heap),YP w h->(K w.params).In h)
 (F:∀(w:World) (mg:Ua) (h:Heap),(K w.params).In h->h.Ns mainGlobals mg->∀base:Heap,(K w.params).In base->base.Ns mainGlobals mg->Callee l.prog w (K w.params) mg base d.name k [x] (λvs H Q _=>∃(a:Addr) (ns:List Int),vs=[.ref a]/\qC H/\SqL (K w.params) H a (ns.map V.int)/\ns.length<=63/\∀H',Q (.bl true) H'))
 (D:∀(w:World) (mg:Ua) (h:Heap),(K w.params).In h->h.Ns mainGlobals mg->∃st,Def (K w.params) mg d.name st/\∀(kV doc pm:Value) (an:Option Addr) (cdv ct:Value) (us:List Value),us.length=1->bindArgs (W.fnOf d.name d.name (d6 st) (b8 st) (aw st) .none kV doc pm an cdv ct) ⟨us,[]⟩=pure ([x].zip us)):
 W.WalkO q loose XP YP l.row.toRowW d [] (λf vs=>PySem.call f vs):=by
 refine L2.walk_of (n:=63) (k:=k) (x:=x) (CX:=λw=>CX1 l.prog w) (sp:=λw=>λvs H Q _=>∃(a:Addr) (ns:List Int),vs=[.ref a]/\qC H/\SqL (K w.params) H a (ns.map V.int)/\ns.length<=63/\∀H',Q (.bl true) H') hn (by decide) hdf hr hY (λw mg fa h KX G hmg=>?_) (λ_ _ a ns hl hO hS=>⟨a,ns,rfl,hO,hS,hl,λ_=>rfl⟩) λ_ _ _ _ _ ⟨_,_,_,_,_,_,_,_,_,z⟩=>z
 obtain⟨st,Dd,hbind⟩:=D w mg h KX G
 obtain⟨f,fd,Ff,m⟩:=Dd.ex
 have e:=hmg.symm.trans m
 cases e
 obtain⟨oc,od,kV,doc,pm,an,cdv,ct,osl,rfl,lk,hcd⟩:=Ff.ex
 refine⟨_,λs u=>.of_eq (hbind kV doc pm an cdv ct [u] rfl),λbase kb nb=>?_⟩
 obtain⟨f',fd',F',m',kp',b',oc',od',osl',lk'⟩:=(F w mg h KX G base kb nb).ex
 rw[m] at m'
 cases m'
 rw[lk] at lk'
 cases lk'
 exact F'
mutual
inductive Bel(N:Nat):D->Prop where
 |non:Bel N .non
 |bl (b:Bool):Bel N (.bl b)
 |int (i:Int):Bel N (.int i)
 |str (x:Str):Bel N (.str x)
 |ty (n:String):Bel N (.ty n)
 |glb (x:Str):Bel N (.glb x)
 |exc (x:Str):Bel N (.exc x)
 |tup {ds:List D} (r:Bels N ds):Bel N (.tup ds)
 |ref {n:Nat} (h:n<N):Bel N (.ref n)
 |kl {ds:List D} (r:Bels N ds):Bel N (.kl ds)
inductive Bels(N:Nat):List D->Prop where
 |nil:Bels N []
 |cons {d:D}{ds:List D} (r:Bel N d) (rr:Bels N ds):Bels N (d::ds)
end
def DP(N:Nat):Ob->Prop
 |.lst xs=>Bels N xs
 |.fz xs=>Bels N xs
 |.dct kvs=>Bels N (kvs.map (·.2))
 |_=>True
section
variable{K:W.Frag}{mg:Ua}{ρ ρ1 ρ2:List Addr}{H H1:Hp}{h:AH}
end
inductive Rf(h:AH):R D->R D->Prop where
 |stuck (r:R D):Rf h r .stuck
 |eq (r:R D):Rf h r r
 |val {d:D}{h2 g:AH} (hl:h2.length=h.length) (ho:∀(n:Nat) (o:Ob),h2[n]?=some o->h[n]?=some o\/DP h.length o) (hd:Bel h.length d):Rf h (.ok d (h2++g)) (.ok d h2)
 |exc {c:Str}{h2 g:AH} (hl:h2.length=h.length) (ho:∀(n:Nat) (o:Ob),h2[n]?=some o->h[n]?=some o\/DP h.length o):Rf h (.exc c (h2++g)) (.exc c h2)
 |lst {m:Nat}{h1 h2:AH}{ys:List D} (hl:h2.length=h.length) (ho:∀(n:Nat) (o:Ob),h2[n]?=some o->h[n]?=some o\/DP h.length o) (hs:∀(n:Nat) (o:Ob),h2[n]?=some o->h1[n]?=some o) (em:h1[m]?=some (.lst ys)) (hm:h.length<=m) (hy:Bels h.length ys):Rf h (.ok (.ref m) h1) (.ok (.ref h.length) (h2++[.lst ys]))
section
variable{K:W.Frag}{mg:Ua}{ρ:List Addr}{H:Hp}{h:AH}
end
def yB:D->D->AH->R D:=gOr (gI λi j=>.int (i+j)) oI
def Bz:D->D->AH->R D:=gI λi j=>.int (i-j)
def CMulA(i j:Int):Prop:=Ey i j\/CMul i j
def DR:D->D->AH->R D:=gIc CMulA λi j=>.int (i*j)
def Dz:D->D->AH->R D:=gIc CDivB λi j=>.int (i.fdiv j)
def C7:D->D->AH->R D:=gIc (λ_ j=>j≠0) λi j=>.int (i.fmod j)
def C3:D->D->AH->R D:=gIc iN λi j=>.int (i^j.toNat)
def Dv:D->D->AH->R D:=gIc iN λi j=>.int (i*2^j.toNat)
def gLt:D->D->AH->R D:=gI λi j=>.bl (decide (i<j))
def gGt:D->D->AH->R D:=gI λi j=>.bl (decide (j<i))
def gGe:D->D->AH->R D:=gI λi j=>.bl (decide (j<=i))
def yE:D->AH->R D:=λx h=>match x with
 |.int i=>.ok (.int (-i)) h
 |_=>.stuck
def xU(n:Nat)(S:Fn)(A:MA):ME:=eFn (λds h=>if ds.length=n then S ds h else .stuck) A
section
variable{K:W.Frag}{mg:Ua}{X:Cx}
def aV(h:X.K=K):OpR X (binaryOp .Add) (λx y H Q=>rI0 (λi j=>.int (i+j)) x y H Q\/(qZ x y H Q\/(nH K x y H Q\/nc K x y H Q))):=JK.or (catK h)
def JD:OpD K mg (λx y H Q=>rI0 (λi j=>.int (i+j)) x y H Q\/(qZ x y H Q\/(nH K x y H Q\/nc K x y H Q))) yB:=(mS λ_ _ _ _=>.int _).or GZ
def HY:OpD K mg (rI0 λi j=>.int (i-j)) Bz:=mS λ_ _ _ _=>.int _
def eg:OpR X (binaryOp .Mult) (rI CMulA λi j=>.int (i*j)):=by
 intro pins s σ H x y v u Q I rx ry h
 obtain⟨i,j,e1,e2,hc,q⟩:=h
 rcases hc with hc |hc
 ·exact Gy pins s σ H x y v u Q I rx ry ⟨i,j,e1,e2,hc,q⟩
 ·exact Hj pins s σ H x y v u Q I rx ry ⟨i,j,e1,e2,hc,q⟩
def HS:OpD K mg (rI CMulA λi j=>.int (i*j)) DR:=pW λ_ _ _ _=>.int _
def KQ:OpD K mg (rI CDivB λi j=>.int (i.fdiv j)) Dz:=pW λ_ _ _ _=>.int _
def KN:OpD K mg (rI (λ_ j=>j≠0) λi j=>.int (i.fmod j)) C7:=pW λ_ _ _ _=>.int _
def KC:OpD K mg (rI iN λi j=>.int (i^j.toNat)) C3:=pW λ_ _ _ _=>.int _
def Kz:OpD K mg (rI iN λi j=>.int (i*2^j.toNat)) Dv:=pW λ_ _ _ _=>.int _
def LU:OpD K mg (rI0 λi j=>.bl (decide (i<j))) gLt:=mS λ_ _ _ _=>.bl _
def Ny:OpD K mg (rI0 λi j=>.bl (decide (j<i))) gGt:=mS λ_ _ _ _=>.bl _
def MN:OpD K mg (rI0 λi j=>.bl (decide (j<=i))) gGe:=mS λ_ _ _ _=>.bl _
def Kn:UnD K mg (rU λi=>.int (-i)) yE:=λρ h H dx x Q E w rx p=>by
 unfold yE at p
 split at p
 ·cases rx;exact⟨_,rfl,aG w (.int _) p⟩
 ·exact p.elim
def Gh:IpD K mg (ipI λi j=>i+j) (gI λi j=>.int (i+j)):=λρ h H dx dy x y Q E w rx ry p=>by
 unfold gI at p
 split at p
 ·cases rx;cases ry;exact⟨_,_,rfl,rfl,aG w (.int _) p⟩
 ·exact p.elim
variable{ES:St->XK}{e:Expr}{es:List Expr}{A:MA}{pos:Pos}
def BP(C:Callee X.prog X.w X.K X.mg X.base x k ps (spD K mg n S))(hr:Room k X.A)(hg:Gl X x)(hx:nu X ES)(ha:DA K mg X ES (e::es) A)
 (hdb:(x==("__debug__" : Str))=false:=by decide) (he:starEach (e::es) X.env=(false,eval e X.env)::starEach es X.env:=by rfl) (hpl:(backTo pos (starEach es X.env)).any (·.1)=false:=by rfl):
 DE K mg X ES (.Call (.Name x p) (e::es) [] pos) (xU n S A):=GJ C hr hg hx ha hdb he hpl
end
section
variable{ae:AE}{h:AH}
@[simp] theorem hZ(a:α)(h:AH)(f:α->AH->R β):(R.ok a h).bind f=f a h:=rfl
end
def jQ(h1:pd.canLay0=true)(h2:pd.depth<=160):shp pd=true:=by
 unfold shp
 rw[h1,QQ h2];rfl
def Sm(n:Nat)(x:Int):Prop:=x.natAbs<2^n
noncomputable def Sm.mono(h:Sm n x)(l:n<=m):Sm m x:=QL h (SF (by omega) l)
noncomputable def Sm.mul(h:Sm n x)(k:Sm m y):Sm (n+m) (x*y):=by
 unfold Sm at *
 rw[Rm,SQ]
 exact Nat.mul_lt_mul'' h k
noncomputable def Sm.bits(h:Sm n x):Builtin.Int.intBits x<=n:=intBits_le_iff.mpr h
noncomputable def Sm.of_le(h:Sm n y)(l:x.natAbs<=y.natAbs):Sm n x:=Sn l h
def CMulA.of(h:Sm n x)(k:Sm m y)(hn:n<=100000)(hm:m<=100000):CMulA x y:=.inl ⟨QI h.bits hn,QI k.bits hm⟩
noncomputable def CMulA.left(h:-(2^64)<x)(k:x<2^64):CMulA x y:=.inr (.inl ⟨h,k⟩)
noncomputable def CMulA.right(h:-(2^64)<y)(k:y<2^64):CMulA x y:=.inr (.inr ⟨h,k⟩)
def CDivB.of(h0:y≠0)(h:Sm 8000 y):CDivB x y:=⟨h0,h.bits⟩
structure Sz(n:Nat)(q:Rat):Prop where
 top:Sm n q.num
 bot:Sm n (q.den:Int)
def zU{a b:Int}(hb:b≠0):((a:Rat)/(b:Rat)).num*b=a*((a:Rat)/(b:Rat)).den:=by
 have h2:=Rat.num_divInt_den ((a:Rat)/(b:Rat))
 have h3:Rat.divInt ((a:Rat)/(b:Rat)).num (((a:Rat)/(b:Rat)).den:Int)=Rat.divInt a b:=by rw[h2,Rat.divInt_eq_div]
 exact (Rat.divInt_eq_divInt_iff (by have:=((a:Rat)/(b:Rat)).den_nz;omega) hb).mp h3
def wx(q:Rat):Int.gcd q.num q.den=1:=by
 have:=q.reduced
 exact this
def pQ(hb:b≠0):Fr.T a b=((a:Rat)/(b:Rat)).num/\Fr.B a b=(((a:Rat)/(b:Rat)).den:Int):=by
 refine Fr.uniq (Fr.B_pos hb) (by have:=((a:Rat)/(b:Rat)).den_pos;omega) (Fr.low hb) (wx _) ?_
 have h1:=Fr.cross (a:=a) hb
 have h2:=zU (a:=a) hb
 generalize ((a:Rat)/(b:Rat)).num=n at *
 generalize (((a:Rat)/(b:Rat)).den:Int)=d at *
 generalize Fr.T a b=x at *
 generalize Fr.B a b=y at *
 have h3:(x*d)*b=(n*y)*b:=by
  calc x*d*b=(x*b)*d:=by rw[SY]
   _=a*y*d:=by rw[h1]
   _=(a*d)*y:=by rw[SY]
   _=n*b*y:=by rw[h2]
   _=n*y*b:=by rw[SY]
 exact SK hb h3
def xZ{a b:Int}(hb:b≠0):((a:Rat)/(b:Rat)).num.natAbs<=a.natAbs:=by
 have h:=(pQ (a:=a) hb).1
 rw[<- h]
 have h1:=Fr.T_mul (a:=a) hb
 have h2:=Fr.dv_ne (a:=a) hb
 have h3:(Fr.T a b).natAbs*(Fr.dv a b).natAbs=a.natAbs:=by rw[<- Rm,h1]
 have h4:1<=(Fr.dv a b).natAbs:=by omega
 calc (Fr.T a b).natAbs=(Fr.T a b).natAbs*1:=by omega
  _<=(Fr.T a b).natAbs*(Fr.dv a b).natAbs:=Sf _ h4
  _=a.natAbs:=h3
def xS{a b:Int}(hb:b≠0):((((a:Rat)/(b:Rat)).den:Int)).natAbs<=b.natAbs:=by
 have h:=(pQ (a:=a) hb).2
 rw[<- h]
 have h1:=Fr.B_mul (a:=a) hb
 have h2:=Fr.dv_ne (a:=a) hb
 have h3:(Fr.B a b).natAbs*(Fr.dv a b).natAbs=b.natAbs:=by rw[<- Rm,h1]
 have h4:1<=(Fr.dv a b).natAbs:=by omega
 calc (Fr.B a b).natAbs=(Fr.B a b).natAbs*1:=by omega
  _<=(Fr.B a b).natAbs*(Fr.dv a b).natAbs:=Sf _ h4
  _=b.natAbs:=h3
def Sz.div(hb:b≠0)(ha:Sm n a)(hb':Sm m b)(k:Nat)(h1:n<=k)(h2:m<=k):Sz k ((a:Rat)/(b:Rat)):=
 ⟨(ha.of_le (xZ hb)).mono h1,(hb'.of_le (xS hb)).mono h2⟩
def fN(q:Rat):(q.den:Int)≠0:=by have:=q.den_nz;omega
def kD(q:Rat):q=(q.num:Rat)/((q.den:Int):Rat):=by
 have:=Rat.num_divInt_den q
 rw[Rat.divInt_eq_div] at this
 exact this.symm
def o6{b:Int}(h:b≠0):(b:Rat)≠0:=by
 intro z
 exact h (by exact_mod_cast z)
def FO(p q:Rat):p+q=((p.num*q.den+q.num*p.den:Int):Rat)/((p.den*q.den:Int):Rat):=by
 have h1:=o6 (fN p)
 have h2:=o6 (fN q)
 conv=>lhs;rw[kD p,kD q]
 simp only[Rat.intCast_add,Ry]
 grind
def xC(p q:Rat):p*q=((p.num*q.num:Int):Rat)/((p.den*q.den:Int):Rat):=by
 have h1:=o6 (fN p)
 have h2:=o6 (fN q)
 conv=>lhs;rw[kD p,kD q]
 simp only[Ry]
 grind
def Sz.mul(hp:Sz n p)(hq:Sz m q):Sz (n+m) (p*q):=by
 rw[xC]
 exact Sz.div (by have:=fN p;have:=fN q;exact Tv ‹_› ‹_›) (hp.top.mul hq.top) (hp.bot.mul hq.bot) _ (by omega) (by omega)
def xa{q:Rat}:0<q.num ↔ 0<q:=by
 have h1:=Rat.num_nonneg (q:=q)
 have h2:=Rat.num_eq_zero (q:=q)
 constructor
 ·intro h
  refine Rat.lt_of_le_of_ne (h1.mp (by omega)) λz=>?_
  have:=h2.mpr z.symm
  omega
 ·intro h
  have h3:=h1.mpr (Rat.le_of_lt h)
  have h4:q.num≠0:=λz=>(Rat.ne_of_lt h) (h2.mp z).symm
  omega
section
variable(ae:AE)(h:AH)
end
theorem mK:∀{ws:List Int},(∀w∈ws,0<=w)->0<=ws.sum
 | [],_=>Int.le_refl _
 |
  w::ws,h=>by
  have:=h w (Qt ..)
  have:=mK (ws:=ws) λv hv=>h v (Qr _ hv)
  rw[Q6];omega
def Vl(mg:Ua)(c:Cl)(u:Value):Prop:=match c with
 |.b n=>u=.type n
 |.o x=>mg x=some u
def MV{K:W.Frag}{mg:Ua}{c d:Cl}{tu cu t v:Value}{b:Bool}(e:W.kitOne K tu cu=some b)(hc:Vl mg c tu)(hd:Vl mg d cu)(h1:ClV mg c t)(h2:ClV mg d v):W.kitOne K t v=some b:=by
 have f:∀{c:Cl}{u t:Value},Vl mg c u->ClV mg c t->u=t:=by
  intro c u t h1 h2
  cases c with
  |b n=>exact (show u=_ from h1).trans (show t=_ from h2).symm
  |
   o x=>
   obtain⟨a,rfl,m⟩:=h2
   have h1':mg x=some u:=h1
   rw[m] at h1'
   exact (QK h1').symm
 rw[<- f hc h1,<- f hd h2]
 exact e
def DQ{K:W.Frag}{mg:Ua}:KitsOk K mg []:=⟨λp hp=>(nomatch hp),λp hp=>(nomatch hp)⟩
def aD{K:W.Frag}{mg:Ua}{c d:Cl}{tu cu:Value}{b:Bool}{kt:lz}(e:W.kitOne K tu cu=some b)(hc:Vl mg c tu)(hd:Vl mg d cu)(hx:∀x C,c=.o x->mg x=some (.ref C)->XCls K C)(r:KitsOk K mg kt):KitsOk K mg ((c,d,b)::kt):=
 ⟨λp hp t v h1 h2=>by
  rcases QD.mp hp with rfl |hp
  ·exact MV e hc hd h1 h2
  ·exact r.one p hp t v h1 h2,λp hp x C e' m=>by
  rcases QD.mp hp with rfl |hp
  ·exact hx x C e' m
  ·exact r.xc p hp x C e' m⟩
def a9{K:W.Frag}{mg:Ua}{n:String}:∀x C,Cl.b n=.o x->mg x=some (.ref C)->XCls K C:=λ_ _ e=>nomatch e
def JN{K:W.Frag}{h:Heap}{mg:Ua}{x:Str}{i:Int}{t:Tok}(X:K.In h)(G:h.Ns mainGlobals mg)(e:W.nsIn K mainGlobals x=some (some (.int i t))):GC K mg x (.int i):=
 ⟨_,.int i,Tb X G e,⟨t,rfl⟩,λ_ _=>.int i⟩
def HG{K:W.Frag}{h:Heap}{mg:Ua}{x:Str}{a:Addr}{dd:Option Addr}{its:Array Value}{n:Nat}{sl:Array (Option Value)}{vs:List V}{ds:List D}(X:K.In h)(G:h.Ns mainGlobals mg)(e:W.nsIn K mainGlobals x=some (some (.ref a)))
 (l:K.lookup a=some ⟨.type "tuple",dd,.seq its n,sl⟩) (hs:its.size<=sizeLine) (hv:Vals vs its.toList) (hr:∀ρ H,RelDs K mg ρ H ds vs):GC K mg x (.tup ds):=
 ⟨_,.ref a,Tb X G e,rfl,λρ H=>.tup (.inr ⟨_,its,n,l,rfl,rfl,hs,hv⟩) (hr ρ H)⟩
def uw{P:Program}{w:World}{H:Hp}(h:Heap)(hb:sysModules<h.objs.size):ObjOk P w H (h.push { cls:=.type "dict",data:=.dict #[] }) h.objs.size (.dK []):=
 ⟨Q0 _,QN.mpr (Ne.symm (QT hb)),[],.nil,Heap.DictOf.new h⟩
def Inv.big{X:Cx}{pins:Ub}{σ:St}{H:Hp}{s:Shared}(I:Inv X pins σ H s):sysModules<s.heap.objs.size:=by
 have h:mainGlobals<s.heap.objs.size:=(I.mod.glob.keeps I.bk).lt
 exact TB (by decide) h
def Hs:TE:=λ_ H Q=>∀p,H p=none->Q (.ref p) (upd H p (.dK []))
def eD0:ME:=λ_ h=>.ok (.ref h.length) (h++[.dct []])
section
variable{K:W.Frag}{mg:Ua}{X:Cx}{ES:St->XK}{pos:Pos}
def DF:PE X (.Dict [] [] pos) Hs:=λpins s σ H Q I h=>
 wpAny_Dict_empty ⟨.ref s.heap.objs.size,_,I.laid (a:=s.heap.objs.size) (o:=.dK []) (t':=s.toks) (λ_ _ q=>Qz _ q) (Qu _) (uw s.heap I.big),rfl,h _ (I.hok.fresh (Qu _))⟩
def NG:DE K mg X ES (.Dict [] [] pos) eD0:=PE.imp DF λσ H Q ⟨ρ,h,ae,w,re,q⟩ p hp=>by
 have l:Le ρ H (ρ++[p]) (upd H p (.dK [])):=(er hp).trans kI
 refine q (ρ++[p]) _ l (w.alloc hp ⟨[],bR,rfl,.nil⟩) _ (.ref ?_)
 rw[<- w.len,QO (Qu _),RL]
 rfl
end
variable{K:W.Frag}{mg:Ua}
end L2
namespace L2
open PySem PySem.Spec PyProof.Rows
section
variable{K:W.Frag}{mg:Ua}{X:Cx}{ES:St->XK}{e:Expr}{es:List Expr}{A:MA}{pos:Pos}
end
section
variable{K:W.Frag}{mg:Ua}{X:Cx}{ES:St->XK}{e a b c o lo hi:Expr}{F G L U:ME}{pos p2:Pos}{ρ:List Addr}{H:Hp}{h:AH}{ae:AE}
end
section
variable{κ:Type}[DecidableEq κ]
noncomputable def fH(kvs:List (κ×V))(k:κ):Option V:=(kvs.find? λkv=>decide (kv.1=k)).map (·.2)
def dE(kvs:List (κ×V))(k:κ)(v:V):List (κ×V):=
 if (kvs.any λkv=>decide (kv.1=k))=true then kvs.map (λkv=>if kv.1=k then (kv.1,v) else kv) else kvs++[(k,v)]
def nZ{p:κ×V}{r:List (κ×V)}{k:κ}(e:p.1=k):fH (p::r) k=some p.2:=by simp [fH,Ra,e]
def oA{p:κ×V}{r:List (κ×V)}{k:κ}(e:¬ p.1=k):fH (p::r) k=fH r k:=by simp [fH,Ra,e]
theorem oH(k:κ):∀kvs:List (κ×V),(kvs.any λkv=>decide (kv.1=k))=(fH kvs k).isSome
 | []=>rfl
 |
  p::r=>by
  rw[Rw]
  by_cases e:p.1=k
  ·simp only[nZ e,QQ e,Bool.true_or,Option.isSome_some]
  ·rw[oA e,QG e,Bool.false_or];exact oH k r
def j5(kvs:List (κ×V))(k:κ)(v:V):(dE kvs k v).length<=kvs.length+1:=by
 unfold dE
 split
 ·rw[Qp];omega
 ·rw[Qw,QB,QP];omega
def BM{kvs:List (κ×V)}{k:κ}(v:V)(h:fH kvs k=none):dE kvs k v=kvs++[(k,v)]:=by
 unfold dE
 rw[oH,h]
 exact if_neg (by decide)
def RelO.isSome_eq(r:RelO o u):o.isSome=u.isSome:=by
 cases o with
 |none=>cases u with
  |none=>rfl
  |some _=>exact (show False from r).elim
 |some _=>cases u with
  |none=>exact (show False from r).elim
  |some _=>rfl
def KV.val(r:KV kvs vs)(k:κ):RelO (fH kvs k) (valueAt vs k):=by
 unfold KV at r
 induction r with
 |nil=>exact True.intro
 |
  @cons p q ps qs h t ih=>
  obtain⟨h1,h2⟩:=h
  by_cases e:p.1=k
  ·have e':q.1=k:=h1.symm.trans e
   have b:valueAt (q::qs) k=some q.2:=by simp [valueAt,Ra,e']
   rw[nZ e,b];exact h2
  ·have e':¬ q.1=k:=λz=>e (h1.trans z)
   have b:valueAt (q::qs) k=valueAt qs k:=by simp [valueAt,Ra,e']
   rw[oA e,b];exact ih
def KV.any(r:KV kvs vs)(k:κ):(kvs.any λkv=>decide (kv.1=k))=vs.any λkv=>decide (kv.1=k):=by
 unfold KV at r
 induction r with
 |nil=>rfl
 |cons h t ih=>rw[Rw,Rw,ih,h.1]
def KV.repl(r:KV kvs vs)(k:κ)(ry:RelV y u):
 KV (kvs.map λkv=>if kv.1=k then (kv.1,y) else kv) (vs.map λkv=>if kv.1=k then (kv.1,u) else kv):=by
 unfold KV at r ⊢
 induction r with
 |nil=>exact .nil
 |
  @cons p q ps qs h t ih=>
  rw[Qv,Qv]
  refine .cons ?_ ih
  obtain⟨h1,h2⟩:=h
  by_cases e:p.1=k
  ·rw[if_pos e,if_pos (h1.symm.trans e)];exact⟨h1,ry⟩
  ·rw[if_neg e,if_neg (λz=>e (h1.trans z))];exact⟨h1,h2⟩
def KV.put(r:KV kvs vs)(k:κ)(ry:RelV y u):KV (dE kvs k y) (stored vs k u):=by
 unfold dE stored
 rw[r.any k]
 by_cases e:(vs.any λkv=>decide (kv.1=k))=true
 ·rw[if_pos e,if_pos e];exact r.repl k ry
 ·rw[if_neg e,if_neg e];exact Paired.snoc r ⟨rfl,ry⟩
def KV.length(r:KV kvs vs):kvs.length=vs.length:=TN r
end
def tf(r:RelV (kV k) u):(ck P w).is k u=true:=by
 cases k with
 |inl i=>obtain⟨t,e⟩:=(show ∃t,u=Value.int i t from r);subst e;exact wb P w i t
 |inr x=>obtain⟨t,e⟩:=(show ∃t,u=Value.str x t from r);subst e;exact vR P w x t
theorem rO:∀{ks:List Key}{us:List Value},Vals (ks.map kV) us->ItemsAre (ck P w) ks us
 | [],_,r=>by rw[QZ] at r;cases r;exact .nil
 |
  k::ks,_,r=>by
  rw[Qv] at r
  cases r with
  |cons h t=>exact .cons (tf h) (rO t)
abbrev KT(H:Hp):List (List Key×V)->List (List Key×Addr×Value)->Prop:=Paired λp q=>p.1=q.1/\H q.2.1=some (.tup (p.1.map kV))/\RelV p.2 q.2.2
def KT.val(r:KT H kvs xs)(k:List Key):RelO (fH kvs k) ((atKey xs k).map (·.2)):=by
 induction r with
 |nil=>exact True.intro
 |
  @cons p q ps qs h t ih=>
  obtain⟨h1,_,h2⟩:=h
  by_cases e:p.1=k
  ·have e':q.1=k:=h1.symm.trans e
   have b:atKey (q::qs) k=some q.2:=by simp [atKey,Ra,e']
   rw[nZ e,b];exact h2
  ·have e':¬ q.1=k:=λz=>e (h1.trans z)
   have b:atKey (q::qs) k=atKey qs k:=by simp [atKey,Ra,e']
   rw[oA e,b];exact ih
def KT.repl(r:KT H kvs xs)(k:List Key)(ry:RelV y u):
 KT H (kvs.map λkv=>if kv.1=k then (kv.1,y) else kv) (xs.map (putAt k u)):=by
 induction r with
 |nil=>exact .nil
 |
  @cons p q ps qs h t ih=>
  rw[Qv,Qv]
  refine .cons ?_ ih
  obtain⟨h1,h2,h3⟩:=h
  unfold putAt
  by_cases e:p.1=k
  ·rw[if_pos e,if_pos (h1.symm.trans e)];exact⟨h1,h2,ry⟩
  ·rw[if_neg e,if_neg (λz=>e (h1.trans z))];exact⟨h1,h2,h3⟩
def KT.put(r:KT H kvs xs)(k:List Key)(hb:H b=some (.tup (k.map kV)))(ry:RelV y u):
 KT H (dE kvs k y) (storedH xs k b u):=by
 have e:(kvs.any λkv=>decide (kv.1=k))=(atKey xs k).isSome:=by
  rw[oH,(r.val k).isSome_eq,Option.isSome_map]
 unfold dE storedH
 rw[e]
 by_cases q:(atKey xs k).isSome=true
 ·rw[if_pos q,if_pos q];exact r.repl k ry
 ·rw[if_neg q,if_neg q];exact Paired.snoc r ⟨rfl,hb,ry⟩
noncomputable def KT.keeps(r:KT H kvs xs)(ht:∀b ys,H b=some (.tup ys)->H' b=some (.tup ys)):KT H' kvs xs:=
 Paired.mapP r λ_ _ z=>⟨z.1,ht _ _ z.2.1,z.2.2⟩
section
variable{P:Program}{w:World}{H:Hp}{h:Heap}{a:Addr}
def Eb(ok:HOk P w H h)(e:Rd H a u):ObjOk P w H h a u:=e.ok ok
def xR(ok:HOk P w H h)(e:Rd H a (.dK kvs)):kvs.length<=sizeLine/\(a==sysModules)=false/\∃vs,KV kvs vs/\h.DictOf (ck P w) a vs:=
 show ObjOk P w H h a (.dK kvs) from Eb ok e
def Ed(ok:HOk P w H h)(e:H a=some (.dK kvs)):kvs.length<=sizeLine/\(a==sysModules)=false/\∃vs,KV kvs vs/\h.DictOf (ck P w) a vs:=xR ok (.inl e)
def ui(ok:HOk P w H h)(e:H a=some (.tup (ks.map kV))):(tupleKind (ck P w)).is h ks a:=by
 obtain⟨_,its,r,o,h1,h2,n,h3⟩:=(show ObjOk P w H h a (.tup (ks.map kV)) from ok a _ e)
 exact⟨o,its.toArray,n,h1,h2,h3,by simpa using rO r⟩
def yC(ok:HOk P w H h)(e:Rd H a (.dT kvs)):kvs.length<=sizeLine/\(a==sysModules)=false/\
 ∃xs,KT H kvs xs/\h.DictOfH (tupleKind (ck P w)) a xs:=by
 obtain⟨z,y,xs,r,o,es,ep,h1,h2,h3,h4,h5⟩:=(show ObjOk P w H h a (.dT kvs) from Eb ok e)
 refine⟨z,y,xs,r,o,es,ep,h1,h2,h3,h4,λx hx=>?_,h5⟩
 have all:∀{l:List (List Key×V)}{m:List (List Key×Addr×Value)},KT H l m->∀x∈m,(tupleKind (ck P w)).is h x.1 x.2.1:=by
  intro l m q
  induction q with
  |nil=>intro x hx;exact nomatch hx
  |
   @cons p q ps qs hq t ih=>
   intro x hx
   rcases QD.mp hx with e |hx
   ·subst e
    exact ui ok (by rw[<- hq.1];exact hq.2.1)
   ·exact ih x hx
 exact all r x hx
def Nw(ok:HOk P w H h)(e:H a=some (.dT kvs)):kvs.length<=sizeLine/\(a==sysModules)=false/\
 ∃xs,KT H kvs xs/\h.DictOfH (tupleKind (ck P w)) a xs:=yC ok (.inl e)
end
def DGet(H:Hp)(a:Addr)(y:V)(r:Option V):Prop:=
 (∃kvs k,Rd H a (.dK kvs)/\y=kV k/\r=fH kvs k)\/∃kvs k b,Rd H a (.dT kvs)/\y=.ref b/\H b=some (.tup (k.map kV))/\r=fH kvs k
def DPut(H:Hp)(a:Addr)(y v:V)(H':Hp):Prop:=
 (∃kvs k,H a=some (.dK kvs)/\y=kV k/\kvs.length<sizeLine/\H'=upd H a (.dK (dE kvs k v)))\/
 ∃kvs k b,H a=some (.dT kvs)/\y=.ref b/\H b=some (.tup (k.map kV))/\kvs.length<sizeLine/\H'=upd H a (.dT (dE kvs k v))
def DGet.k{H:Hp}{a:Addr}{kvs:List (Key×V)}{k:Key}(e:H a=some (.dK kvs)):DGet H a (kV k) (fH kvs k):=.inl ⟨kvs,k,.inl e,rfl,rfl⟩
def DPut.k{H:Hp}{a:Addr}{kvs:List (Key×V)}{k:Key}{v:V}(e:H a=some (.dK kvs))(hl:kvs.length<sizeLine):DPut H a (kV k) v (upd H a (.dK (dE kvs k v))):=.inl ⟨kvs,k,e,rfl,hl,rfl⟩
section
variable{X:Cx}{pins:Ub}{σ:St}{H:Hp}{s:Shared}{a:Addr}{y v:V}{u r:Value}{o:Option V}{A:Around}{E:Uc}
def zH(hu:A.units+1<cLine)(I:Inv X pins σ H s)(g:DGet H a y (some v))(ry:RelV y u)(h:∀w' s',Inv X pins σ H s'->RelV v w'->Q w' s'):
 wpAny (model X.prog X.w) A (getItem (.ref a) u) Q E s:=by
 rcases g with ⟨kvs,k,e,ey,l⟩ |⟨kvs,k,b,e,ey,eb,l⟩
 ·subst ey
  obtain⟨z,hd,vs,rel,dd⟩:=xR I.hok e
  obtain⟨w',hw,rw'⟩:=RelO.some_of (v:=v) (o:=valueAt vs k) (by rw[l];exact rel.val k)
  exact wpAny_getItem_of (tf ry) dd.mapOf hw (h w' _ (I.tok _) rw')
 ·subst ey
  cases (show u=Value.ref b from ry)
  obtain⟨z,hd,xs,rel,dd⟩:=yC I.hok e
  obtain⟨w',hw,rw'⟩:=RelO.some_of (v:=v) (o:=(atKey xs k).map (·.2)) (by rw[l];exact rel.val k)
  obtain⟨p,hp,hp2⟩:=QS.mp hw
  refine wpAny_getItem_heap (tupleKind_room_in1 hu) (ui I.hok eb) dd hp ?_
  rw[hp2]
  exact h w' _ (I.tok _) rw'
def rm(I:Inv X pins σ H s)(mu:Mut (H a))(hs:Heap.SameBut a s.heap h')(he:∃q,h'.get? a=some q)(new:ObjOk X.prog X.w (upd H a ob) h' a ob):
 Inv X pins σ (upd H a ob) { s with heap:=h',toks:=t' }:=
 I.write (x:=a) (e:=a) mu (.inl rfl) (λb q hb z=>(hs.2 b hb).trans z) he new
def Af(z:kvs.length<=sizeLine)(hd:(a==sysModules)=false)(rel:KV kvs vs)(dd:h'.DictOf (ck P w) a vs):
 ObjOk P w H' h' a (.dK kvs):=⟨z,hd,vs,rel,dd⟩
def Bi(hu:A.units+1<cLine)(I:Inv X pins σ H s)(g:DPut H a y v H')(ry:RelV y u)(rv:RelV v r)(h:∀s',Inv X pins σ H' s'->Q () s'):
 wpAny (model X.prog X.w) A (setItem (.ref a) u r) Q E s:=by
 rcases g with ⟨kvs,k,e,ey,l,eH⟩ |⟨kvs,k,b,e,ey,eb,l,eH⟩
 ·subst ey eH
  obtain⟨z,hd,vs,rel,dd⟩:=Ed I.hok e
  have hz:vs.length<=sizeLine:=by rw[<- rel.length];exact z
  have hl:(dE kvs k v).length<=sizeLine:=by have:=j5 kvs k v;omega
  refine wpAny_setItem_pairs (hsz:=hz) (tf ry) dd λh' dd' hs=>h _ ?_
  have he:∃q,h'.get? a=some q:=let ⟨q,_,_,hq,_⟩:=dd';⟨q,hq⟩
  exact rm I (by rw[e];exact True.intro) hs he (Af hl hd (rel.put k rv) dd')
 ·subst ey eH
  cases (show u=Value.ref b from ry)
  obtain⟨z,hd,xs,rel,dd⟩:=Nw I.hok e
  have hz:xs.length<=sizeLine:=by rw[<- TN rel];exact z
  have hl:(dE kvs k v).length<=sizeLine:=by have:=j5 kvs k v;omega
  refine wpAny_setItem_heap (hsz:=hz) (tupleKind_room_in1 hu) (ui I.hok eb) dd λh' dd' hs=>h _ ?_
  obtain⟨q,es,ep,hq,h2,h3,h4,_,h5⟩:=dd'
  refine rm I (by rw[e];exact True.intro) hs ⟨q,hq⟩ ⟨hl,hd,_,(rel.put k eb rv).keeps λc ys ec=>?_,q,es,ep,hq,h2,h3,h4,h5⟩
  rw[aR (MQ ec e (λz=>nomatch z))]
  exact ec
end
section
variable{X:Cx}{pins:Ub}{σ:St}{H:Hp}{s:Shared}{a:Addr}{kvs:List (Key×V)}{k:Key}{u:Value}{A:Around}{E:Uc}
end
def rF(i:Expr):Prop:=∀ov iv,subscripted i false ov iv=operate [ov,iv] (getItem ov iv)
def FZ{prog:Program}{w:World}{A:Around}{E:Uc}{s:Shared}{env:Env}{value io:Expr}{pos:Pos}{T id:String}{Q:Uc}
 (hl:typeLookup (.type T) "__getitem__"=pure (some (.builtin id))) (hs:rF io)
 (h:wpAny (model prog w) A (eval value env) (λo s₁=>wpAny (model prog w) A (eval io env) (λi s₂=>s₂.TypeIs o T/\wpAny (model prog w) A (getItem o i) Q E s₂) E s₁) E s):
 wpAny (model prog w) A (eval (.Subscript value io pos) env) Q E s:=by
 refine Subscript_ (Q8 h (λo s₁ h₁=>Q8 h₁ (λi s₂ h₂=>?_) λ_ _ x=>x) λ_ _ x=>x)
 obtain⟨hT,h₂⟩:=h₂
 unfold subscriptTail
 refine Qq ?_
 rw[getitemInPython_of_ne hT.not_modules]
 refine Qq (wpAny_specialOf hT hl ?_)
 have im:wpAny (model prog w) A (subscripted io false o i) (λr s₃=>wpAny (model prog w) A (letTemporaryGo value o r >>= λ_=>pure r) Q E s₃) E s₂:=by
  rw[hs o i]
  exact wpAny_operating (Q8 h₂ (λr s₃ h₃=>Qq (wpAny_letTemporaryGo (QE h₃))) λ_ _ x=>x)
 first
  |exact QE (Qq im)
  |exact Qq (QE (Qq im))
  |exact Qq im
def wc(I:Inv X pins σ H s)(g:DGet H a y o):s.TypeIs (.ref a) "dict":=by
 rcases g with ⟨kvs,k,e,_,_⟩ |⟨kvs,k,b,e,_,_,_⟩
 ·obtain⟨_,_,vs,_,dd⟩:=xR I.hok e
  exact dd.typeIs
 ·obtain⟨_,_,xs,_,dd⟩:=yC I.hok e
  exact dd.typeIs
def MX(td ty:TE):TE:=λσ H Q=>td σ H λx H1=>ty σ H1 λy H2=>∃a v,x=.ref a/\DGet H2 a y (some v)/\Q v H2
section
variable{X:Cx}{o i e value:Expr}{pos kw tpos:Pos}{td ty tv:TE}
def wK(hu:X.A.units+1<cLine)(ho:PE X o td)(hi:PE X i ty)(hs:rF i):PE X (.Subscript o i pos) (MX td ty):=by
 intro pins s σ H Q I h
 refine FZ PySem.F.slot_dict_getitem.lookup hs (thn (ho pins s σ H _ I h) λu s1 ⟨x,H1,I1,rx,q1⟩=>thn (hi pins s1 σ H1 _ I1 q1) λiv s2 ⟨y,H2,I2,ry,a,v,ex,g,q2⟩=>?_)
 subst ex
 obtain rfl:u=Value.ref a:=rx
 exact⟨wc I2 g,zH hu I2 g ry λw' s3 I3 rw'=>⟨v,H2,I3,rw',q2⟩⟩
end
section
variable{X:Cx}{pos:Pos}
end
def pV:List (TE×TE)->St->Hp->(List (V×V)->Hp->Prop)->Prop
 | [],_,H,Q=>Q [] H
 |(tk,tv)::r,σ,H,Q=>tk σ H λx H1=>tv σ H1 λy H2=>pV r σ H2 λps H3=>Q ((x,y)::ps) H3
abbrev VV:List (V×V)->List (Value×Value)->Prop:=Paired λp q=>RelV p.1 q.1/\RelV p.2 q.2
def PPs(X:Cx)(pos:Pos)(keys:List (Option Expr))(values:List Expr)(trs:List (TE×TE)):Prop:=
 ∀
  (pins:Ub) (s:Shared) (σ:St) (H:Hp) (Q:List (V×V)->Hp->Prop),Inv X pins σ H s->pV trs σ H Q->
  wpAny (model X.prog X.w) X.A (evalPairs (pairTrees keys values X.env pos)) (λvs s'=>∃ps H',Inv X pins σ H' s'/\VV ps vs/\Q ps H') X.xe s
noncomputable def FW:PPs X pos [] [] []:=λpins s σ H Q I h=>pairTrees_nil_walk ⟨[],H,I,.nil,h⟩
def BF(hk:PE X k tk)(hv:PE X v tv)(hr:PPs X pos ks vs trs):
 PPs X pos (some k::ks) (v::vs) ((tk,tv)::trs):=λpins s σ H Q I h=>
 pairTrees_cons_walk (thn (hk pins s σ H _ I h) λu s1 ⟨x,H1,I1,rx,q1⟩=>thn (hv pins s1 σ H1 _ I1 q1) λw2 s2 ⟨y,H2,I2,ry,q2⟩=>
  thn (hr pins s2 σ H2 _ I2 q2) λws s3 ⟨ps,H3,I3,rel,q3⟩=>⟨(x,y)::ps,H3,I3,.cons ⟨rx,ry⟩ rel,q3⟩)
def jv(kvs more:List (Key×V)):List (Key×V):=more.foldl (λacc kv=>dE acc kv.1 kv.2) kvs
def KV.merge:∀{more:List (Key×V)}{rs:List (Key×Value)}{kvs:List (Key×V)}{vs:List (Key×Value)},KV more rs->KV kvs vs->KV (jv kvs more) (merged vs rs):=by
 intro more rs kvs vs r
 unfold KV at r
 induction r generalizing kvs vs with
 |nil=>intro q;exact q
 |
  @cons p q ps qs h t ih=>
  intro r0
  have e:KV (dE kvs p.1 p.2) (stored vs q.1 q.2):=by
   have:=r0.put p.1 h.2
   rw[<- h.1];exact this
  exact ih e
theorem me:∀(more kvs:List (Key×V)),(jv kvs more).length<=kvs.length+more.length
 | [],kvs=>by show kvs.length<=kvs.length+0;omega
 |
  p::r,kvs=>by
  have h1:=me r (dE kvs p.1 p.2)
  have h2:=j5 kvs p.1 p.2
  show (jv (dE kvs p.1 p.2) r).length<=_
  rw[QB];omega
theorem o8:∀{kvs:List (Key×V)}{ws:List (Value×Value)},VV (kvs.map λkv=>(kV kv.1,kv.2)) ws->∃rs,Carries (ck P w) ws rs/\KV kvs rs
 | [],_,r=>by rw[QZ] at r;cases r;exact⟨[],True.intro,.nil⟩
 |
  p::kvs,_,r=>by
  rw[Qv] at r
  cases r with
  |
   @cons a b as bs h t=>
   obtain⟨rs,c,q⟩:=o8 (P:=P) (w:=w) t
   obtain⟨b1,b2⟩:=b
   exact⟨(p.1,b2)::rs,⟨tf h.1,rfl,c⟩,.cons ⟨rfl,h.2⟩ q⟩
def Oa(trs:List (TE×TE)):TE:=λσ H Q=>∀p,H p=none->pV trs σ (upd H p (.dK [])) λps H2=>H2 p=some (.dK [])/\∃kvs:List (Key×V),ps=kvs.map (λkv=>(kV kv.1,kv.2))/\kvs.length<=15/\Q (.ref p) (upd H2 p (.dK (jv [] kvs)))
def G5(h:PPs X pos keys values trs)(hall:keys.all (·.isSome)=true)(hl:keys.length=values.length)(h0:keys≠[])
 (h15:keys.length<=15):PE X (.Dict keys values pos) (Oa trs):=by
 intro pins s σ H Q I q
 have hn:=I.hok.fresh (Qu s.heap.objs.size)
 have I1:=I.laid (a:=s.heap.objs.size) (o:=.dK []) (h':=s.heap.push { cls:=.type "dict",data:=.dict #[] }) (t':=s.toks) (λ_ _ q=>Qz _ q) (Qu _) (uw s.heap I.big)
 refine wpAny_Dict_walk (knd:=ck X.prog X.w) hall hl h0 h15 (thn (h pins _ σ _ _ I1 (q _ hn)) λws s2 ⟨ps,H2,I2,rel,e,kvs,ep,lk,q2⟩=>?_)
 subst ep
 obtain⟨rs,c,rk⟩:=o8 (P:=X.prog) (w:=X.w) rel
 obtain⟨z,hd,vs0,r0,dd⟩:=Ed I2.hok e
 cases r0
 refine⟨rs,c,dd,λh' dd' hs=>⟨.ref s.heap.objs.size,_,?_,rfl,q2⟩⟩
 have hz:(jv [] kvs).length<=sizeLine:=by
  have h1:=me kvs []
  rw[QP] at h1
  rw[sizeLine_eq];omega
 have he:∃q,h'.get? s.heap.objs.size=some q:=let ⟨q,_,_,hq,_⟩:=dd';⟨q,hq⟩
 exact rm I2 (by rw[e];exact True.intro) hs he (Af hz hd (rk.merge .nil) dd')
structure M1(X:Cx)(o:Expr)(m:Str)(apos:Pos)(e:Expr)(cpos:Pos):Prop where
 base:attributeBase o m X.env (eval o X.env)=eval o X.env
 few:((backTo cpos (starEach [e] X.env)).all (λx=>!x.1)&&(backToKw cpos (keywordEach [] X.env)).all (λx=>x.1.isSome)
  && decide (([e]:List Expr).length+([]:List Keyword).length+(if ([]:List Keyword).isEmpty then 0 else 1)<30))=true
 line:(apos.endLine==cpos.line)=true
 trees:backTo cpos (starEach [e] X.env)=[(false,eval e X.env)]
structure M2(X:Cx)(o:Expr)(m:Str)(apos:Pos)(e f:Expr)(cpos:Pos):Prop where
 base:attributeBase o m X.env (eval o X.env)=eval o X.env
 few:((backTo cpos (starEach [e,f] X.env)).all (λx=>!x.1)&&(backToKw cpos (keywordEach [] X.env)).all (λx=>x.1.isSome)
  && decide (([e,f]:List Expr).length+([]:List Keyword).length+(if ([]:List Keyword).isEmpty then 0 else 1)<30))=true
 line:(apos.endLine==cpos.line)=true
 trees:backTo cpos (starEach [e,f] X.env)=[(false,eval e X.env),(false,eval f X.env)]
section
variable{X:Cx}{pins:Ub}{σ:St}{H:Hp}{s:Shared}{a:Addr}{y d:V}{u r:Value}{o:Option V}{A:Around}{E:Uc}
end
section
variable{X:Cx}{o e f:Expr}{apos cpos:Pos}{td ty tx:TE}
end
section
variable{X:Cx}{pins:Ub}{σ:St}{H:Hp}{s:Shared}{a:Addr}{kvs:List (Key×V)}{A:Around}{E:Uc}
end
section
variable{X:Cx}{pins:Ub}{σ:St}{H:Hp}{s:Shared}{a:Addr}{y:V}{u:Value}{A:Around}{E:Uc}
end
section
variable{prog:Program}{w:World}{A:Around}{E:Uc}{s:Shared}
end
section
variable[DecidableEq κ]
def lkD(kvs:List (κ×α))(k:κ):Option α:=(kvs.find? λkv=>decide (kv.1=k)).map (·.2)
def d8(kvs:List (κ×α))(k:κ)(v:α):List (κ×α):=if (kvs.any λkv=>decide (kv.1=k))=true then kvs.map λkv=>if kv.1=k then (kv.1,v) else kv else kvs++[(k,v)]
end
section
variable{K:W.Frag}{mg:Ua}{ρ:List Addr}{H:Hp}
def xu:∀{kvs:List (Key×D)}{ws:List (Key×V)},ws.map (·.1)=kvs.map (·.1)->RelDs K mg ρ H (kvs.map (·.2)) (ws.map (·.2))->lkD kvs k=some d->∃v,fH ws k=some v/\RelD K mg ρ H d v:=by
 intro kvs
 induction kvs with
 |nil=>intro ws e r q;cases q
 |
  cons p kvs ih=>
  intro ws e r q
  cases ws with
  |nil=>cases e
  |
   cons w ws=>
   obtain⟨k1,d1⟩:=p
   obtain⟨k2,v2⟩:=w
   rw[Qv,Qv] at e
   injection e with e1 e2
   dsimp only at e1
   subst e1
   cases r with
   |
    cons r rr=>
    unfold lkD at q
    unfold fH
    rw[Ra] at q ⊢
    dsimp only at q ⊢
    by_cases hk:k2=k
    ·rw[QQ hk] at q ⊢
     cases q
     exact⟨v2,rfl,r⟩
    ·rw[QG hk] at q ⊢
     exact ih e2 rr q
def vd[DecidableEq κ]:∀{kvs:List (κ×α)}{ws:List (κ×β)},ws.map (·.1)=kvs.map (·.1)->(ws.any λkv=>decide (kv.1=k))=kvs.any λkv=>decide (kv.1=k):=by
 intro kvs
 induction kvs with
 |
  nil=>
  intro ws e
  cases ws with
  |nil=>rfl
  |cons _ _=>cases e
 |
  cons p kvs ih=>
  intro ws e
  cases ws with
  |nil=>cases e
  |
   cons w ws=>
   rw[Qv,Qv] at e
   injection e with e1 e2
   rw[Rw,Rw,ih e2,e1]
def Ck{k:Key}{d:D}{v:V}(rd:RelD K mg ρ H d v){kvs:List (Key×D)}{ws:List (Key×V)}(e:ws.map (·.1)=kvs.map (·.1))(r:RelDs K mg ρ H (kvs.map (·.2)) (ws.map (·.2))):(dE ws k v).map (·.1)=(d8 kvs k d).map (·.1)/\RelDs K mg ρ H ((d8 kvs k d).map (·.2)) ((dE ws k v).map (·.2)):=by
 unfold dE d8
 rw[vd e]
 by_cases hc:(kvs.any λkv=>decide (kv.1=k))=true
 ·rw[if_pos hc,if_pos hc]
  clear hc
  induction kvs generalizing ws with
  |
   nil=>
   cases ws with
   |nil=>exact⟨rfl,.nil⟩
   |cons _ _=>cases e
  |
   cons p kvs ih=>
   cases ws with
   |nil=>cases e
   |
    cons w ws=>
    obtain⟨k1,d1⟩:=p
    obtain⟨k2,v2⟩:=w
    rw[Qv,Qv] at e
    injection e with e1 e2
    dsimp only at e1
    subst e1
    cases r with
    |
     cons r rr=>
     obtain⟨h1,h2⟩:=ih e2 rr
     simp only[Qv]
     by_cases hk:k2=k
     ·rw[if_pos hk,if_pos hk]
      exact⟨by rw[h1],.cons rd h2⟩
     ·rw[if_neg hk,if_neg hk]
      exact⟨by rw[h1],.cons r h2⟩
 ·rw[if_neg hc,if_neg hc,Q2,Q2,Q2,Q2,e]
  exact⟨rfl,r.append (.cons rd .nil)⟩
def vF:D->D->AH->R D:=λx y h=>match x with
 |.ref n=>(match y with
  |.str k=>(match h[n]? with
   |some (.dct kvs)=>(match lkD kvs (.inr k) with
    |some d=>.ok d h
    |none=>.stuck)
   |_=>.stuck)
  |_=>.stuck)
 |_=>.stuck
def xY:xO:=λo i v H Q=>∃a H4,o=.ref a/\DPut H a i v H4/\Q H4
variable{X:Cx}{ES:St->XK}{a b:Expr}{F G:ME}{pos:Pos}
def Cp(hu:X.A.units+1<cLine):uM X xY:=λpins s σ H o i v ov iv u Q I ro ri rv ⟨a,H4,eo,g,q⟩=>by
 subst eo
 obtain rfl:ov=Value.ref a:=ro
 exact Bi hu I g ri rv λs4 I4=>⟨H4,I4,q⟩
def Gi(hu:X.A.units+1<cLine)(ha:DE K mg X ES a F)(hb:DE K mg X ES b G)(hs:rF b):DE K mg X ES (.Subscript a b pos) (eOp vF F G):=PE.imp (wK hu ha hb hs) λσ H Q q_=>q_.el λρ h ae w re p=>⟨ρ,h,ae,w,re,p.bind.imp λdx h1 ρ1 H1 l1 w1 p1 x rx=>⟨ρ1,h1,ae,w1,re.mono l1,p1.bind.imp λdy h2 ρ2 H2 l2 w2 p2 y ry=>by
 have rx2:=rx.mono l2
 unfold vF at p2
 split at p2
 ·split
   at p2
  ·split
    at p2
   ·rename_i n k _ kvs e
    split at p2
    ·rename_i d q
     cases rx2 with
     |
      ref ea=>
      cases ry
      obtain⟨ws,k1,k2,k3⟩:=w2.ob _ _ _ ea e
      obtain⟨v,q1,rv⟩:=xu k2 k3 q
      refine⟨_,v,rfl,?_,aG w2 rv p2⟩
      rw[<- q1]
      exact DGet.k (k:=.inr k) k1
    ·exact p2.elim
   ·exact p2.elim
  ·exact p2.elim
 ·exact p2.elim⟩⟩
def pS(ks:List Str)(A:MA):ME:=λae h=>(A ae (h++[.dct []])).bind λds h2=>match h2[h.length]? with
 |some (.dct [])=>if ks.length=ds.length then .ok (.ref h.length) (h2.set h.length (.dct ((ks.map Sum.inr).zip ds))) else .stuck
 |_=>.stuck
def aL:List (Str×ME)->MA
 | []=>fK
 |p::r=>eR p.2 (aL r)
def tps(K:W.Frag)(mg:Ua)(ES:St->XK)(prs:List (Str×ME)):List (TE×TE):=prs.map λp=>(tC (.str p.1),rdE K mg ES p.2)
theorem uI:∀(prs:List (Str×ME)) {ρ:List Addr}{h:AH}{ae:AE}{H:Hp}{Q:List (V×V)->Hp->Prop},Wd K mg ρ h H->RelE K mg ρ H ae σ->PostG K mg ρ H (ES σ) (λds _ ρ' H'=>∀vs,RelDs K mg ρ' H' ds vs->Q ((prs.map λp=>V.str p.1).zip vs) H') (aL prs ae h)->pV (tps K mg ES prs) σ H Q
 | [],ρ,h,ae,H,Q,w,re,p=>p ρ H Le.refl w [] .nil
 |pr::r,ρ,h,ae,H,Q,w,re,p=>⟨ρ,h,ae,w,re,(PostG.bind p).imp λd h1 ρ1 H1 l1 w1 p1 y ry=>uI r w1 (re.mono l1) ((PostG.bind p1).imp λds h2 ρ2 H2 l2 w2 p2 vs rs=>p2 ρ2 H2 Le.refl w2 (y::vs) (.cons (ry.mono l2) rs))⟩
theorem tV:∀(more acc:List (Key×V)),((acc++more).map (·.1)).Nodup->jv acc more=acc++more
 | [],acc,_=>(Q3 _).symm
 |
  (k,v)::more,acc,h=>by
  show jv (dE acc k v) more=_
  have hk:fH acc k=none:=by
   unfold fH
   rw[Option.map_eq_none_iff,List.find?_eq_none]
   intro p hp z
   have z:=RN z
   rw[Q2,List.nodup_append] at h
   exact h.2.2 p.1 (Rb hp) k (Qt ..) z
  rw[BM v hk,tV more (acc++[(k,v)]) (by rw[Rq];exact h),Rq]
  rfl
def wJ:PPs X pos [] [] (tps K mg ES []):=FW
def DN(hv:DE K mg X ES v F)(hr:PPs X pos ks vs (tps K mg ES prs)):PPs X pos (some (.Constant (.str k) j kp)::ks) (v::vs) (tps K mg ES ((k,F)::prs)):=BF zM hv hr
theorem uQ:∀(ks:List Str) (vs:List V),(ks.map V.str).zip vs=((ks.map Sum.inr).zip vs).map λkv:Key×V=>(kV kv.1,kv.2)
 | [],_=>rfl
 |_::_,[]=>rfl
 |
  k::ks,v::vs=>by
  show (V.str k,v)::(ks.map V.str).zip vs=_
  rw[uQ ks vs]
  rfl
def Gm(hp:PPs X pos keys values (tps K mg ES prs))(hall:keys.all (·.isSome)=true)(hl:keys.length=values.length)(h0:keys≠[])(h15:keys.length<=15)(hn:(prs.map (·.1)).Nodup)(hp15:prs.length<=15):DE K mg X ES (.Dict keys values pos) (pS (prs.map (·.1)) (aL prs)):=PE.imp (G5 hp hall hl h0 h15) λσ H Q q_=>q_.el λρ h ae w re p=>λpp hpp=>by
 have l:Le ρ H (ρ++[pp]) (upd H pp (.dK [])):=(er hpp).trans kI
 have w1:=w.alloc hpp (o:=.dct []) (u:=.dK []) ⟨[],bR,rfl,.nil⟩
 refine uI prs w1 (re.mono l) ((PostG.mono l (PostG.bind p)).imp λds h2 ρ2 H2 l2 w2 p2 vs rs=>?_)
 split at p2
 ·rename_i e
  split at p2
  ·rename_i bi
   have ea:ρ2[h.length]?=some pp:=l2.pre _ _ (by rw[<- w.len,QO (Qu _),RL];rfl)
   obtain⟨ws,k1,k2,_⟩:=w2.ob _ _ _ ea e
   have:ws=[]:=by cases ws with |nil=>rfl |cons _ _=>cases k2
   subst this
   have hlv:vs.length=prs.length:=by rw[<- rs.len,<- bi,Qp]
   refine⟨k1,((prs.map (·.1)).map Sum.inr).zip vs,?_,?_,?_⟩
   ·rw[<- uQ,Rg]
    rfl
   ·rw[List.length_zip,Qp,Qp]
    omega
   ·have hz:(((prs.map (·.1)).map Sum.inr).zip vs:List (Key×V)).map (·.1)=(prs.map (·.1)).map Sum.inr:=List.map_fst_zip (by rw[Qp,Qp];omega)
    rw[tV _ [] (by
     rw[QY,hz]
     exact List.Pairwise.map _ (λa b hab z=>hab (Sum.inr.inj z)) hn),QY]
    have l3:Le ρ2 H2 ρ2 (upd H2 pp (.dK (((prs.map (·.1)).map Sum.inr).zip vs))):=nA k1 yF
    refine p2 ρ2 _ l3 (w2.write ea k1 yF ⟨_,bR,?_,?_⟩) _ (.ref ea)
    ·rw[hz,List.map_fst_zip (by rw[Qp];omega)]
    ·rw[List.map_snd_zip (by rw[Qp];omega),List.map_snd_zip (by rw[Qp,Qp];omega)]
     exact rs.mono l3
  ·exact p2.elim
 ·exact p2.elim
end
section
variable{X:Cx}
end
section
variable{K:W.Frag}{mg:Ua}
end
section
variable{K:W.Frag}{mg:Ua}{X:Cx}{ES:St->XK}{o:Expr}{F:ME}{pos p2:Pos}
end
end L2
namespace L2
open PySem PySem.Spec PySem.Calls PyProof.Rows
section
variable{X:Cx}{K:W.Frag}{mg:Ua}{ES:St->XK}{es:List Expr}{gs:MGs}{pos:Pos}
end
section
variable{X:Cx}{K:W.Frag}{mg:Ua}{ES:St->XK}{a:Expr}{A:MA}{pos q2 p1 p2:Pos}
end
inductive EntOk(w:World):List DictEntry->List (Str×Int)->Prop
 |nil:EntOk w [] []
 |cons {e:DictEntry}{es:List DictEntry}{k:Str}{i:Int}{t t':Tok}{kvs:List (Str×Int)} (h:e.hash=hashStr w k) (hk:e.key=.str k t) (hv:e.val=.int i t') (r:EntOk w es kvs):EntOk w (e::es) ((k,i)::kvs)
section
variable{X:Cx}{K:W.Frag}{mg:Ua}{w:World}{n:Str}{kvs:List (Str×Int)}
end
end L2
namespace L2
open PySem
end L2
namespace L2
open PySem PySem.Spec PySem.Calls PyProof.Rows
section
variable{X:Cx}{K:W.Frag}{mg:Ua}
end
structure RoomU(k:Nat)(A:Around):Prop where
 dp:A.depth+3*k+5<recursionLimit
 un:A.units+16*k+200<cLine
structure FnOkU(P:Program)(w:World)(K:W.Frag)(mg:Ua)(base:Heap)(CX:CXT)(k:Nat)(f:Addr)(fd:FuncData)(ps:List Str)(sp:Sp):Prop where
 len:∀vs H Q E,sp vs H Q E->vs.length=ps.length
 run:∀(A:Around) (outer:List Env) (s:Shared) (H:Hp) (args:Args) (us:List Value) (vs:List V) (Q:VK) (E:XK),RoomU k A->Env0 P w K mg base A outer s H->BindsTo s fd args (ps.zip us)->Vals vs us->sp vs H Q E->
  codeAny (model P w) A (.call (.ref f) args) (CR CX outer P w H s Q E) s
section
variable{P:Program}{w:World}{K:W.Frag}{mg:Ua}{base:Heap}{x:Str}{st:Stmt}{k:Nat}{ps N:List Str}{sp:Sp}
structure CalleeU(P:Program)(w:World)(K:W.Frag)(mg:Ua)(base:Heap)(x:Str)(k:Nat)(ps:List Str)(sp:Sp):Prop where
 ex:∃f fd,FnOkU P w K mg base (CX1 P w) k f fd ps sp/\mg x=some (.ref f)/\W.keepIn K (.ref f)=true/\Binds K fd ps []/\∃oc od osl,K.lookup f=some ⟨oc,od,.func fd,osl⟩
variable{F:MS}
end
section
variable{X:Cx}{K:W.Frag}{mg:Ua}{ES:St->XK}{e:Expr}{es:List Expr}{A:MA}{pos:Pos}
end
end L2
namespace L2
open PySem PySem.Spec PyProof.Rows
section
variable{X:Cx}
def qI:V->List V->Hp->VK->Prop:=λx vs H Q=>∃l xs i y,x=.ref l/\vs=[.int i,y]/\H l=some (.lst xs)/\0<=i/\i<=(xs.length:Nat)/\xs.length<sizeLine/\Q .non (upd H l (.lst (xs.take i.toNat++y::xs.drop i.toNat)))
def Ag:MtM X "list.insert" qI:=by
 intro pins s σ H x vs v us Q I rx rv h
 obtain⟨l,xs,i,y,rfl,rfl,hH,h0,h1,hz,q⟩:=h
 cases rx
 obtain⟨u1,u2,rfl,ru1,ru2⟩:=oY rv
 obtain⟨t,rfl⟩:=ru1
 obtain⟨z,its,n,r,hl,e⟩:=I.lstM hH
 have hs:sizeLine=16777216:=rfl
 have hf:Builtin.List.listFitsIndex i=true:=fitsIndex_both (by omega) (by omega)
 refine call_meets PySem.F.slot_list_insert ⟨_,e,rfl⟩ PySem.F.entry_list_insert (PySem.F.args_list_insert_3 _ _ _) (AutoSeq1.list_insert_list_int_val_1 l its.toArray n i t u2 (by rw[hf];decide) (by rw[QC];omega)) ⟨e,?_⟩
 refine⟨.non,_,I.lset (its':=its.take i.toNat++u2::its.drop i.toNat) hH e ?_ ((r.take _).append (.cons ru2 (r.drop _))) ?_,rfl,q⟩
 ·show (have k:=if i<0 then (i+(its.toArray.size:Int)).toNat else min i.toNat its.toArray.size;(its.toArray.extract 0 k).push u2++its.toArray.extract k)=_
  rw[if_neg (by omega),QC,TC (by omega)]
  apply Array.ext'
  simp [RW]
 ·simp only[Qw,QB,RD,SD]
  omega
inductive Lsts(H:Hp):List V->List (List V)->Prop where
 |nil:Lsts H [] []
 |cons {a:Addr}{xs:List V}{vs:List V}{xss:List (List V)} (e:H a=some (.lst xs)) (r:Lsts H vs xss):Lsts H (.ref a::vs) (xs::xss)
end
section
variable{K:W.Frag}{mg:Ua}
def nB:D->List D->AH->R D:=λx ds h=>iX h x λn xs=>match ds with
 | [.int i,d]=>if 0<=i/\i<=(xs.length:Nat)/\xs.length<16777216 then .ok .non (h.set n (.lst (xs.take i.toNat++d::xs.drop i.toNat))) else .stuck
 |_=>.stuck
def zG:MtD K mg qI nB:=λρ h H dx ds x vs Q E w rx rs p=>by
 obtain⟨n,xs,a,us,rfl,e,ea,rfl,h1,h2,p⟩:=jS w rx p
 split at p
 ·cases
   rs with
  |
   cons r rs=>
   cases rs with
   |
    cons r2 rs=>
    cases rs
    cases r
    split at p
    ·rename_i hb
     rw[h2.len] at hb
     exact⟨a,us,_,_,rfl,rfl,h1,hb.1,hb.2.1,hb.2.2,lO w ea h1 ((h2.take _).append (.cons r2 (h2.drop _))) .non p⟩
    ·exact p.elim
 ·exact p.elim
end
section
variable{X:Cx}{K:W.Frag}{mg:Ua}
def u7:D->D->AH->R D:=λx y h=>match x,y with
 |
  .str z,.int i=>if z.length<=16777216 then match atI z.cps.toList i with
   |some c=>.ok (.str ⟨#[c]⟩) h
   |none=>.stuck
  else .stuck
 |_,_=>.stuck
def G4:OpD K mg BH u7:=λρ h H dx dy x y Q E w rx ry p=>by
 unfold u7 at p
 split at p
 ·cases rx
  cases ry
  split at p
  ·rename_i hz
   split at p
   ·rename_i c e
    exact⟨_,_,c,rfl,rfl,hz,e,aG w (.str _) p⟩
   ·exact p.elim
  ·exact p.elim
 ·exact p.elim
def yY:R2:=λx y H Q=>∃z i,x=.str z/\y=.int i/\z.length<=16/\0<=i/\i<=1000/\Q (.str (Txt.mul z i)) H
def GY:OpR X (binaryOp .Mult) yY:=by
 intro pins s σ H x y v u Q I rx ry h
 obtain⟨z,i,rfl,rfl,hz,h0,h1,q⟩:=h
 obtain⟨t,rfl⟩:=rx
 obtain⟨t',rfl⟩:=ry
 exact W.KXi.mul rfl hz (by omega) (by omega) λt'' k _ _=>⟨.str (Txt.mul z i),H,I.tok _,⟨_,rfl⟩,q⟩
def pz:D->D->AH->R D:=λx y h=>match x,y with
 |.str z,.int i=>if z.length<=16/\0<=i/\i<=1000 then .ok (.str (Txt.mul z i)) h else .stuck
 |_,_=>.stuck
def B6:OpD K mg yY pz:=λρ h H dx dy x y Q E w rx ry p=>by
 unfold pz at p
 split at p
 ·cases rx
  cases ry
  split at p
  ·rename_i hz
   exact⟨_,_,rfl,rfl,hz.1,hz.2.1,hz.2.2,aG w (.str _) p⟩
  ·exact p.elim
 ·exact p.elim
end
section
variable{X:Cx}
def LW:List V->Hp->VK->Prop:=λxs H Q=>xs=[]/\∀l,H l=none->Q (.ref l) (upd H l (.set (λ_=>false) 0))
def vm:R2:=λx y H Q=>∃i a S n,x=.int i/\y=.ref a/\H a=some (.set S n)/\Q (.bl (S i)) H
def BV:OpR X (compareOp .In) vm:=by
 intro pins s σ H x y v u Q I rx ry h
 obtain⟨i,a,S,n,rfl,rfl,hH,q⟩:=h
 obtain⟨t,rfl⟩:=rx
 cases ry
 have hS:s.heap.SetOf (intKind X.prog X.w) a S n:=I.hok a _ hH
 exact wpAny_inSet_of (intKind_is _ _ i t) rfl hS ⟨.bl (S i),H,I.tok _,rfl,q⟩
def xp:V->List V->Hp->VK->Prop:=λx vs H Q=>∃a i S n,x=.ref a/\vs=[.int i]/\H a=some (.set S n)/\n<4000/\Q .non (upd H a (.set (λk=>S k || decide (k=i)) (if S i then n else n+1)))
def Az:MtM X "set.add" xp:=by
 intro pins s σ H x vs v us Q I rx rv h
 obtain⟨a,i,S,n,rfl,rfl,hH,hn,q⟩:=h
 cases rx
 obtain⟨u,rfl,ru⟩:=rv.one
 obtain⟨t,rfl⟩:=ru
 have hS:s.heap.SetOf (intKind X.prog X.w) a S n:=I.hok a _ hH
 refine call_set_add (intKind_is _ _ i t) rfl hS (by unfold scanBound;omega) λh' sb hS'=>?_
 refine⟨.non,_,I.write (x:=a) (e:=a) (by rw[hH];exact trivial) (.inl rfl) (λb o hb e=>(sb.2 b hb).trans e) ?_ (show ObjOk X.prog X.w _ h' a (.set (λk=>S k || decide (k=i)) (if S i then n else n+1)) from hS'),rfl,q⟩
 obtain⟨o,_,_,_,e,_⟩:=hS'
 exact⟨o,e⟩
def vZ:CallR X (.builtin "len") (λxs H Q=>∃a S n,xs=[.ref a]/\H a=some (.set S n)/\Q (.int (n:Nat)) H):=by
 intro pins s σ H xs us Q I r h
 obtain⟨a,S,n,rfl,hH,q⟩:=h
 obtain⟨u,rfl,ru⟩:=jb r
 cases ru
 have hS:s.heap.SetOf (intKind X.prog X.w) a S n:=I.hok a _ hH
 obtain⟨o,es,ep,t,e,hex,hd,_,_,hb,hf,rfl⟩:=hS
 refine call_len_set e hex hd hf (by unfold scanBound at hb;omega) ⟨.int (es.size:Nat),H,I.tok _,⟨_,rfl⟩,q⟩
def A7:CallR X (.type "set") LW:=by
 intro pins s σ H xs us Q I r h
 obtain⟨rfl,q⟩:=h
 cases r
 refine call_set_0 λled=>?_
 refine⟨.ref s.heap.objs.size,_,I.laid (t':=s.toks) (λb o e=>Qz _ e) (Qu _) (show ObjOk X.prog X.w _ _ _ (.set (λ_=>false) 0) from ?_),rfl,q _ (I.hok.fresh (Qu _))⟩
 obtain⟨h1,es,ep,tt,h2,h3,h4,h5,h6⟩:=setObjOf_fresh (knd:=intKind X.prog X.w) led
 exact⟨_,es,ep,tt,QJ _ rfl,h1,h2,h3,h4,by rw[h5];decide,h6,h5⟩
end
section
variable{K:W.Frag}{mg:Ua}{X:Cx}{ES:St->XK}{o e:Expr}{es:List Expr}{F:ME}{A:MA}{pos:Pos}
def yh:ME:=λ_ h=>.ok (.ref h.length) (h++[.set []])
def vc:D->D->AH->R D:=λx y h=>match x,y with
 |.int i,.ref n=>match h[n]? with
  |some (.set xs)=>.ok (.bl (decide (i∈xs))) h
  |_=>.stuck
 |_,_=>.stuck
def oQ:Fn:=λds h=>match ds with
 | [.ref n]=>match h[n]? with
  |some (.set xs)=>.ok (.int (xs.length:Nat)) h
  |_=>.stuck
 |_=>.stuck
def f9(xs:List Int)(i:Int):List Int:=if i∈xs then xs else i::xs
def vn:D->List D->AH->R D:=λx ds h=>match x,ds with
 |.ref n,[.int i]=>match h[n]? with
  |some (.set xs)=>if xs.length<4000 then .ok .non (h.set n (.set (f9 xs i))) else .stuck
  |_=>.stuck
 |_,_=>.stuck
def yJ(h:AH):D->Bool
 |.ref n=>match h[n]? with
  |some (.set _)=>true
  |_=>false
 |_=>false
def eMS(F:ME)(A:MA):ME:=λae h=>(F ae h).bind λx h1=>if yJ h1 x=true then (A ae h1).bind λds h2=>vn x ds h2 else .stuck
def Hc:OpD K mg vm vc:=λρ h H dx dy x y Q E w rx ry p=>by
 unfold vc at p
 split at p
 ·cases rx
  cases ry with
  |
   ref ea=>
   split at p
   ·rename_i xs e
    obtain⟨_,h1⟩:=w.ob _ _ _ ea e
    exact⟨_,_,_,_,rfl,rfl,h1,aG w (.bl _) p⟩
   ·exact p.elim
 ·exact p.elim
def Gz:bO K mg (λxs H Q=>∃a S n,xs=[.ref a]/\H a=some (.set S n)/\Q (.int (n:Nat)) H) oQ:=λρ h H ds vs Q E w rs p=>by
 unfold oQ at p
 split at p
 ·cases
   rs with
  |
   cons r rs=>
   cases rs
   cases r with
   |
    ref ea=>
    split at p
    ·rename_i xs e
     obtain⟨_,h1⟩:=w.ob _ _ _ ea e
     exact⟨_,_,_,rfl,h1,aG w (.int _) p⟩
    ·exact p.elim
 ·exact p.elim
def HL:MtD K mg xp vn:=λρ h H dx ds x vs Q E w rx rs p=>by
 unfold vn at p
 split at p
 ·rename_i n i
  cases rx with
  |
   ref ea=>
   cases rs with
   |
    cons r rs=>
    cases rs
    cases r
    split at p
    ·rename_i xs e
     split at p
     ·rename_i hl
      obtain⟨nd,h1⟩:=w.ob _ _ _ ea e
      refine⟨_,_,_,_,rfl,rfl,h1,hl,?_⟩
      have e2:HO.set (λk=>decide (k∈xs) || decide (k=i)) (if decide (i∈xs)=true then xs.length else xs.length+1)=.set (λk=>decide (k∈f9 xs i)) (f9 xs i).length:=by
       unfold f9
       by_cases hi:i∈xs
       ·rw[if_pos (QQ hi),if_pos hi]
        congr 1
        funext k
        by_cases hk:k∈xs
        ·rw[QQ hk];rfl
        ·rw[QG hk,QG (show ¬ k=i from λz=>hk (by rw[z];exact hi))];rfl
       ·rw[if_neg (by rw[QG hi];exact Qx),if_neg hi]
        congr 1
        funext k
        rw[SS,Bool.or_eq_true,RY,RY,RY,QD]
        exact Or.comm
      rw[e2]
      have l:Le ρ H ρ (upd H _ (.set (λk=>decide (k∈f9 xs i)) (f9 xs i).length)):=nA h1 EG
      refine p ρ _ l (w.write ea h1 EG ⟨?_,bR⟩) .non .non
      unfold f9
      split
      ·exact nd
      ·rename_i hi;exact Sk.mpr ⟨hi,nd⟩
     ·exact p.elim
    ·exact p.elim
 ·exact p.elim
def FL(hg:Gl X x)(hm:mg x=none)(hv:bootBuiltins x=some (.type "set"))(hk:X.mg=mg:=by rfl)(hn:x ≠ "__name__":=by decide)(hdb:(x==("__debug__" : Str))=false:=by decide):DE K mg X ES (.Call (.Name x p0) [] [] pos) yh:=by
 subst hk
 refine PE.imp (yD A7 hg hm hv hn hdb) λσ H Q q_=>q_.el λρ h ae w re p=>⟨rfl,λl hl=>?_⟩
 have le:Le ρ H (ρ++[l]) (upd H l (.set (λ_=>false) 0)):=(er hl).trans kI
 refine p (ρ++[l]) _ le (w.alloc hl ⟨List.nodup_nil,?_⟩) _ (.ref ?_)
 ·rw[bR]
  congr 1
 ·rw[<- w.len,QO (Qu _),RL]
  rfl
def LG(hK:X.K=K)(ho:DE K mg X ES o F)(ha:DA K mg X ES (e::es) A)
 (ge:attributeBase o "add" X.env (eval o X.env)=eval o X.env:=by rfl)
 (hfew:((backTo cpos (starEach (e::es) X.env)).all (λx=>!x.1)&&(backToKw cpos (keywordEach [] X.env)).all (λx=>x.1.isSome)
  && decide ((e::es).length+([]:List Keyword).length+(if ([]:List Keyword).isEmpty then 0 else 1)<30))=true:=by rfl)
 (gl:(apos.endLine==cpos.line)=true:=by rfl) (hs:starEach (e::es) X.env=(false,eval e X.env)::starEach es X.env:=by rfl) (ci:(backTo cpos (starEach es X.env)).any (·.1)=false:=by rfl):
 DE K mg X ES (.Call (.Attribute o "add" apos) (e::es) [] cpos) (eMS F A):=by
 subst hK
 refine PE.imp (D6 PySem.F.plainAttrs_set PySem.F.slot_set_add PySem.F.type_set_add Az ho ha ge hfew gl hs ci) λσ H Q q_=>q_.el λρ h ae w re p=>⟨ρ,h,ae,w,re,p.bind.imp λdx h1 ρ1 H1 l1 w1 p1 x rx=>?_⟩
 split at p1
 ·rename_i hl
  have ty:tyV X.K "set" x H1:=by
   cases rx with
   |
    ref ea=>
    unfold yJ at hl
    dsimp only at hl
    split at hl
    ·rename_i xs q
     obtain⟨_,hh⟩:=w1.ob _ _ _ ea q
     exact .inr (.inr (.inr ⟨rfl,_,_,hh⟩))
    ·cases hl
   |_=>cases hl
  exact⟨ty,ρ1,h1,ae,w1,re.mono l1,p1.bind.imp λds h2 ρ2 H2 l2 w2 p2 vs rs=>HL ρ2 h2 H2 dx ds x vs Q _ w2 (rx.mono l2) rs p2⟩
 ·exact p1.elim
end
section
variable{K:W.Frag}{mg:Ua}
def vy:D->D->AH->R D:=λx y h=>match x with
 |.ref n=>(match y with
  |.int k=>(match h[n]? with
   |some (.dct kvs)=>(match lkD kvs (.inl k) with
    |some d=>.ok d h
    |none=>.stuck)
   |_=>.stuck)
  |_=>.stuck)
 |_=>.stuck
def wDI(o i v:D)(h:AH):R Unit:=match o with
 |.ref n=>(match i with
  |.int k=>(match h[n]? with
   |some (.dct kvs)=>if kvs.length<16777216 then .ok () (h.set n (.dct (d8 kvs (.inl k) v))) else .stuck
   |_=>.stuck)
  |_=>.stuck)
 |_=>.stuck
variable{X:Cx}{ES:St->XK}{a b:Expr}{F G:ME}{pos:Pos}
def DX:qU K mg xY wDI:=λρ h H do_ di dv o i v Q E w ro ri rv p=>by
 unfold wDI at p
 split at p
 ·split
   at p
  ·split
    at p
   ·rename_i n k _ kvs e
    split at p
    ·rename_i hl
     cases ro with
     |
      ref ea=>
      cases ri
      obtain⟨ws,h1,h2,h3⟩:=w.ob _ _ _ ea e
      have bi:ws.length=kvs.length:=by have:=Ru List.length h2;simpa using this
      have l:Le ρ H ρ (upd H _ (.dK (dE ws (.inl k) v))):=nA h1 yF
      obtain⟨k1,k2⟩:=Ck (k:=.inl k) rv h2 h3
      exact⟨_,_,rfl,DPut.k (k:=.inl k) h1 (by rw[bi];exact hl),p ρ _ l (w.write ea h1 yF ⟨_,bR,k1,k2.mono l⟩)⟩
    ·exact p.elim
   ·exact p.elim
  ·exact p.elim
 ·exact p.elim
def Co(hu:X.A.units+1<cLine)(ha:DE K mg X ES a F)(hb:DE K mg X ES b G)(hs:rF b):DE K mg X ES (.Subscript a b pos) (eOp vy F G):=PE.imp (wK hu ha hb hs) λσ H Q q_=>q_.el λρ h ae w re p=>⟨ρ,h,ae,w,re,p.bind.imp λdx h1 ρ1 H1 l1 w1 p1 x rx=>⟨ρ1,h1,ae,w1,re.mono l1,p1.bind.imp λdy h2 ρ2 H2 l2 w2 p2 y ry=>by
 have rx2:=rx.mono l2
 unfold vy at p2
 split at p2
 ·split
   at p2
  ·split
    at p2
   ·rename_i n k _ kvs e
    split at p2
    ·rename_i d q
     cases rx2 with
     |
      ref ea=>
      cases ry
      obtain⟨ws,k1,k2,k3⟩:=w2.ob _ _ _ ea e
      obtain⟨v,q1,rv⟩:=xu k2 k3 q
      refine⟨_,v,rfl,?_,aG w2 rv p2⟩
      rw[<- q1]
      exact DGet.k (k:=.inl k) k1
    ·exact p2.elim
   ·exact p2.elim
  ·exact p2.elim
 ·exact p2.elim⟩⟩
end
section
variable{X:Cx}{K:W.Frag}{mg:Ua}
def oo(K:W.Frag):V->List V->Hp->VK->Prop:=λx vs H Q=>∃l b xs zs,x=.ref l/\vs=[.ref b]/\H l=some (.lst xs)/\SqT K H b zs/\xs.length+zs.length<=sizeLine/\Q .non (upd H l (.lst (xs++zs)))
def Gu(l:Addr)(xs:Array Value)(n:Nat)(b:Addr)(ys:Array Value)(n2:Nat)(dd:Option Addr)(ss:Array (Option Value))(z0:¬(!xs.isEmpty&&Builtin.List.listTooLong (xs.size+ys.size))=true)(z1:xs.size<=sizeLine)(z2:xs.size+ys.size<=sizeLine+1):
 Meets (Builtin.«list.extend» ⟨[.ref l,.ref b],[]⟩) (λ_ R s=>s.heap.get? l=some { cls:=.type "list",dict:=none,data:=.seq xs n,slots:=#[] }/\s.heap.get? b=some { cls:=.type "tuple",dict:=dd,data:=.seq ys n2,slots:=ss }/\R (.ok (.ret Value.none)) { s with heap:=s.heap.update l (Obj.mapSeq λx=>x++ys),toks:=s.toks }):=
 .of_wp λprog w A R s h=>by
  obtain⟨hp,g,d,tk,os⟩:=s
  obtain⟨el,eb,h⟩:=h
  have e1:=PySem.AutoSeq1.idx_int
  have e2:=PySem.F.sub_tuple_tuple
  have e3:=PySem.F.sub_list_list
  have e4:=PySem.F.sub_tuple_list
  have e5:=PySem.F.sub_list_tuple
  have zz:(xs++ys).size<=sizeLine+1:=by rw[Array.size_append];exact z2
  wp_walk using (wpAny_updateSeq el rfl (hz:=z1) (_hz':=zz)),wpAny_loadPart' el,wpAny_loadPart' eb
  exact⟨_,rfl,h⟩
def p9(hK:X.K=K):MtM X "list.extend" (oo K):=by
 subst hK
 intro pins s σ H x vs v us Q I rx rv h
 obtain⟨l,b,xs,zs,rfl,rfl,hH,hB,hz,q⟩:=h
 cases rx
 obtain⟨u,rfl,ru⟩:=rv.one
 cases ru
 obtain⟨z,its,n,r,hl,e⟩:=I.lstM hH
 obtain⟨its2,r2,⟨⟨oc,od,oda,os⟩,e2,ec,n2,ed⟩,z2⟩:=I.tuple hB
 dsimp only at ec ed
 subst ec ed
 have hl2:=r2.length
 have hsz:its.toArray.size+its2.toArray.size<=sizeLine:=by rw[QC,QC];omega
 have hlong:¬ (!its.toArray.isEmpty&&Builtin.List.listTooLong (its.toArray.size+its2.toArray.size))=true:=by
  rw[Cu hsz,Bool.and_false]
  exact Qx
 refine call_meets S9 ⟨_,e,rfl⟩ PySem.F.entry_list_extend (PySem.F.args_list_extend_2 _ _)
  (Gu l its.toArray n b its2.toArray n2 od os hlong (by rw[QC];omega) (by omega)) ⟨e,e2,?_⟩
 refine⟨.non,_,I.lset (its':=its++its2) hH e (by simp) (r.append r2) ?_,rfl,q⟩
 rw[Qw]
 omega
def lJ:D->List D->AH->R D:=λx ds h=>iX h x λn xs=>match ds with
 | [.tup ys]=>if xs.length+ys.length<=16777216 then .ok .non (h.set n (.lst (xs++ys))) else .stuck
 |_=>.stuck
def x6:MtD K mg (oo K) lJ:=λρ h H dx ds x vs Q E w rx rs p=>by
 obtain⟨n,xs,a,us,rfl,e,ea,rfl,h1,h2,p⟩:=jS w rx p
 split at p
 ·cases rs with
  |
   cons r rs=>
   cases rs
   split at p
   ·rename_i hb
    cases r with
    |tup hq rr=>exact⟨a,_,us,_,rfl,rfl,h1,hq,by rw[<- h2.len,<- rr.len];exact hb,lO w ea h1 (h2.append rr) .non p⟩
   ·exact p.elim
 ·exact p.elim
end
section
variable{X:Cx}{e st:Expr}{te tst:TE}{pos p2:Pos}
end
section
variable{K:W.Frag}{mg:Ua}{X:Cx}{ES:St->XK}{e st:Expr}{F G:ME}{pos p2:Pos}
end
section
variable{X:Cx}{K:W.Frag}{mg:Ua}
end
section
variable{K:W.Frag}{mg:Ua}{X:Cx}
end
end L2
namespace L3
open PySem PySem.Spec PyProof.Rows L2
set_option genInjectivity true in
inductive Val where
 |non |bl (b:Bool) |int (i:Int) |str (x:Str) |ty (n:String) |glb (x:Str) |exc (x:Str)
 |tup (xs:List Val) |lst (xs:List Val) |kl (xs:List Val) |dct (kvs:List (Key×Val)) |set (xs:List Int)
 deriving Inhabited
mutual
inductive Rd(P:Nat->Prop)(h:AH):D->Val->Prop where
 |non:Rd P h .non .non
 |bl (b:Bool):Rd P h (.bl b) (.bl b)
 |int (i:Int):Rd P h (.int i) (.int i)
 |str (x:Str):Rd P h (.str x) (.str x)
 |ty (n:String):Rd P h (.ty n) (.ty n)
 |glb (x:Str):Rd P h (.glb x) (.glb x)
 |exc (x:Str):Rd P h (.exc x) (.exc x)
 |tup {ds:List D}{vs:List Val} (r:Rds P h ds vs):Rd P h (.tup ds) (.tup vs)
 |kl {ds:List D}{vs:List Val} (r:Rds P h ds vs):Rd P h (.kl ds) (.kl vs)
 |cell {n:Nat}{o:Ob}{v:Val} (p:P n) (e:h[n]?=some o) (r:Rc P h o v):Rd P h (.ref n) v
inductive Rc(P:Nat->Prop)(h:AH):Ob->Val->Prop where
 |lst {ds:List D}{vs:List Val} (r:Rds P h ds vs):Rc P h (.lst ds) (.lst vs)
 |fz {ds:List D}{vs:List Val} (r:Rds P h ds vs):Rc P h (.fz ds) (.kl vs)
 |dct {ws:List (Key×D)}{us:List (Key×Val)} (r:Rk P h ws us):Rc P h (.dct ws) (.dct us)
 |set (xs:List Int):Rc P h (.set xs) (.set xs)
inductive Rds(P:Nat->Prop)(h:AH):List D->List Val->Prop where
 |nil:Rds P h [] []
 |cons {d:D}{v:Val}{ds:List D}{vs:List Val} (r:Rd P h d v) (rr:Rds P h ds vs):Rds P h (d::ds) (v::vs)
inductive Rk(P:Nat->Prop)(h:AH):List (Key×D)->List (Key×Val)->Prop where
 |nil:Rk P h [] []
 |cons {k:Key}{d:D}{v:Val}{ds:List (Key×D)}{vs:List (Key×Val)} (r:Rd P h d v) (rr:Rk P h ds vs):Rk P h ((k,d)::ds) ((k,v)::vs)
end
section
variable{P P':Nat->Prop}{h h':AH}
abbrev Mov(P P':Nat->Prop)(h h':AH):Prop:=∀n o,P n->h[n]?=some o->P' n/\h'[n]?=some o
def Rd.mono(m:Mov P P' h h')(r:Rd P h d v):Rd P' h' d v:=@Rd.rec P h (λd v _=>Rd P' h' d v) (λo v _=>Rc P' h' o v) (λds vs _=>Rds P' h' ds vs) (λws us _=>Rk P' h' ws us) .non (λb=>.bl b) (λi=>.int i) (λx=>.str x) (λn=>.ty n) (λx=>.glb x) (λx=>.exc x) (λ_ ih=>.tup ih) (λ_ ih=>.kl ih) (λp e _ ih=>.cell (m _ _ p e).1 (m _ _ p e).2 ih) (λ_ ih=>.lst ih) (λ_ ih=>.fz ih) (λ_ ih=>.dct ih) (λxs=>.set xs) .nil (λ_ _ a b=>.cons a b) .nil (λ_ _ a b=>.cons a b) d v r
def Rds.ind{M:List D->List Val->Prop}(h0:M [] [])(h1:∀{d v ds vs},Rd P h d v->Rds P h ds vs->M ds vs->M (d::ds) (v::vs)){ds:List D}{vs:List Val}(r:Rds P h ds vs):M ds vs:=by
 induction ds generalizing vs with
 |nil=>cases r;exact h0
 |
  cons d ds ih=>
  cases r with
  |cons r rr=>exact h1 r rr (ih rr)
def Rk.ind{M:List (Key×D)->List (Key×Val)->Prop}(h0:M [] [])(h1:∀{k d v ds vs},Rd P h d v->Rk P h ds vs->M ds vs->M ((k,d)::ds) ((k,v)::vs)){ds:List (Key×D)}{vs:List (Key×Val)}(r:Rk P h ds vs):M ds vs:=by
 induction ds generalizing vs with
 |nil=>cases r;exact h0
 |
  cons d ds ih=>
  cases r with
  |cons r rr=>exact h1 r rr (ih rr)
def Rds.mono(m:Mov P P' h h'){d:List D}{v:List Val}(r:Rds P h d v):Rds P' h' d v:=r.ind .nil λr _ ih=>.cons (r.mono m) ih
def Rk.mono(m:Mov P P' h h'){d:List (Key×D)}{v:List (Key×Val)}(r:Rk P h d v):Rk P' h' d v:=r.ind .nil λr _ ih=>.cons (r.mono m) ih
def Rc.mono(m:Mov P P' h h')(r:Rc P h d v):Rc P' h' d v:=by
 cases r with
 |lst r=>exact .lst (r.mono m)
 |fz r=>exact .fz (r.mono m)
 |dct r=>exact .dct (r.mono m)
 |set xs=>exact .set xs
def Rds.len{ds:List D}{vs:List Val}(r:Rds P h ds vs):ds.length=vs.length:=r.ind (M:=λds vs=>ds.length=vs.length) rfl λ_ _ ih=>Ru (· + 1) ih
def Rds.get{ds:List D}{vs:List Val}{i:Nat}{v:Val}(r:Rds P h ds vs)(e:vs[i]?=some v):∃d,ds[i]?=some d/\Rd P h d v:=
 r.ind (M:=λds vs=>∀i,vs[i]?=some v->∃d,ds[i]?=some d/\Rd P h d v) (λ_ e=>by rw[Tf] at e;cases e) (λr _ ih i e=>match i,e with
  |0,e=>by cases e;exact⟨_,rfl,r⟩
  |i+1,e=>ih i e) i e
def Rds.append{ds es:List D}{vs ws:List Val}(r:Rds P h ds vs)(q:Rds P h es ws):Rds P h (ds++es) (vs++ws):=r.ind (M:=λds vs=>Rds P h (ds++es) (vs++ws)) q λr _ ih=>.cons r ih
def Rds.take{ds:List D}{vs:List Val}(n:Nat)(r:Rds P h ds vs):Rds P h (ds.take n) (vs.take n):=
 r.ind (M:=λds vs=>∀n:Nat,Rds P h (ds.take n) (vs.take n)) (λn=>by rw[Sh,Sh];exact .nil) (λr _ ih n=>by cases n with |zero=>exact .nil |succ n=>exact .cons r (ih n)) n
def Rds.drop{ds:List D}{vs:List Val}(n:Nat)(r:Rds P h ds vs):Rds P h (ds.drop n) (vs.drop n):=
 r.ind (M:=λds vs=>∀n:Nat,Rds P h (ds.drop n) (vs.drop n)) (λn=>by rw[SN,SN];exact .nil) (λr rr ih n=>by cases n with |zero=>exact .cons r rr |succ n=>exact ih n) n
def Rds.set{d:D}{v:Val}(r:Rd P h d v){ds:List D}{vs:List Val}(i:Nat)(q:Rds P h ds vs):Rds P h (ds.set i d) (vs.set i v):=
 q.ind (M:=λds vs=>∀i:Nat,Rds P h (ds.set i d) (vs.set i v)) (λ_=>.nil) (λq qq ih i=>by cases i with |zero=>exact .cons r qq |succ i=>exact .cons q (ih i)) i
def ShR(P:Nat->Prop)(h:AH)(d:D)(v:Val):Prop:=Rd P h d v\/∃n o,d=.ref n/\h[n]?=some o/\Rc P h o v
inductive ShRs(P:Nat->Prop)(h:AH):List D->List Val->Prop where
 |nil:ShRs P h [] []
 |cons {d:D}{v:Val}{ds:List D}{vs:List Val} (r:ShR P h d v) (rr:ShRs P h ds vs):ShRs P h (d::ds) (v::vs)
def Val.items:Val->Option (List Val)
 |.tup xs=>some xs
 |.lst xs=>some xs
 |.kl xs=>some xs
 |_=>none
def ShR.int(r:ShR P h d (.int i)):d=.int i:=by
 rcases r with r |⟨n,o,rfl,e,r⟩
 ·cases r with
  |int=>rfl
  |cell p e r=>cases r
 ·cases r
def ShR.str(r:ShR P h d (.str i)):d=.str i:=by
 rcases r with r |⟨n,o,rfl,e,r⟩
 ·cases r with
  |str=>rfl
  |cell p e r=>cases r
 ·cases r
def ShR.bl(r:ShR P h d (.bl i)):d=.bl i:=by
 rcases r with r |⟨n,o,rfl,e,r⟩
 ·cases r with
  |bl=>rfl
  |cell p e r=>cases r
 ·cases r
def ShR.non(r:ShR P h d .non):d=.non:=by
 rcases r with r |⟨n,o,rfl,e,r⟩
 ·cases r with
  |non=>rfl
  |cell p e r=>cases r
 ·cases r
def ShR.exc(r:ShR P h d (.exc x)):d=.exc x:=by
 rcases r with r |⟨n,o,rfl,e,r⟩
 ·cases r with
  |exc=>rfl
  |cell p e r=>cases r
 ·cases r
def ShR.ty(r:ShR P h d (.ty x)):d=.ty x:=by
 rcases r with r |⟨n,o,rfl,e,r⟩
 ·cases r with
  |ty=>rfl
  |cell p e r=>cases r
 ·cases r
def ShR.glb(r:ShR P h d (.glb x)):d=.glb x:=by
 rcases r with r |⟨n,o,rfl,e,r⟩
 ·cases r with
  |glb=>rfl
  |cell p e r=>cases r
 ·cases r
def ShR.tup(r:ShR P h d (.tup vs)):∃ds,d=.tup ds/\Rds P h ds vs:=by
 rcases r with r |⟨n,o,rfl,e,r⟩
 ·cases r with
  |tup r=>exact⟨_,rfl,r⟩
  |cell p e r=>cases r
 ·cases r
def Rc.seq(e:h[n]?=some o)(r:Rc P h o (.lst vs)):∃ds,h[n]?=some (.lst ds)/\bq h n=some ds/\Rds P h ds vs:=by
 cases r with
 |lst r=>exact⟨_,e,by unfold bq;rw[e],r⟩
def ShR.lst(r:ShR P h d (.lst vs)):∃n ds,d=.ref n/\h[n]?=some (.lst ds)/\bq h n=some ds/\Rds P h ds vs:=by
 rcases r with r |⟨n,o,rfl,e,r⟩
 ·cases r with
  |
   cell p e r=>
   obtain⟨ds,q,r⟩:=Rc.seq e r
   exact⟨_,ds,rfl,q,r⟩
 ·obtain⟨ds,q,r⟩:=Rc.seq e r
  exact⟨_,ds,rfl,q,r⟩
def ShR.kl(r:ShR P h d (.kl vs)):∃ds,Rds P h ds vs/\(d=.kl ds\/∃n,d=.ref n/\bq h n=some ds):=by
 rcases r with r |⟨n,o,rfl,e,r⟩
 ·cases r with
  |kl r=>exact⟨_,r,.inl rfl⟩
  |cell p e r=>cases r with |fz r=>exact⟨_,r,.inr ⟨_,rfl,by unfold bq;rw[e]⟩⟩
 ·cases r with |fz r=>exact⟨_,r,.inr ⟨_,rfl,by unfold bq;rw[e]⟩⟩
def ShR.set(r:ShR P h d (.set xs)):∃n,d=.ref n/\h[n]?=some (.set xs):=by
 rcases r with r |⟨n,o,rfl,e,r⟩
 ·cases r with
  |cell p e r=>cases r;exact⟨_,rfl,e⟩
 ·cases r;exact⟨_,rfl,e⟩
def ShR.dct(r:ShR P h d (.dct us)):∃n ws,d=.ref n/\h[n]?=some (.dct ws)/\Rk P h ws us:=by
 rcases r with r |⟨n,o,rfl,e,r⟩
 ·cases r with
  |cell p e r=>cases r with |dct r=>exact⟨_,_,rfl,e,r⟩
 ·cases r with |dct r=>exact⟨_,_,rfl,e,r⟩
def ShR.items(r:ShR P h d v)(e:v.items=some vs):∃ds,d7 h d=some ds/\Rds P h ds vs:=by
 cases v with
 |tup xs=>cases e;obtain⟨ds,rfl,q⟩:=r.tup;exact⟨ds,rfl,q⟩
 |lst xs=>cases e;obtain⟨n,ds,rfl,_,e,q⟩:=r.lst;exact⟨ds,e,q⟩
 |
  kl xs=>
  cases e
  obtain⟨ds,q,rfl |⟨n,rfl,e⟩⟩:=r.kl
  ·exact⟨ds,rfl,q⟩
  ·exact⟨ds,e,q⟩
 |_=>cases e
end
inductive Sl where
 |no |sh (v:Val) |ow (v:Val) |mu (v:Val) |lo (v:Val) |lm (v:Val)
 deriving Inhabited
abbrev E3:=List Sl
noncomputable def Sl.val:Sl->Option Val
 |.no=>none
 |.sh v=>some v
 |.ow v=>some v
 |.mu v=>some v
 |.lo v=>some v
 |.lm v=>some v
noncomputable def Sl.mt:Sl->Bool
 |.ow _=>true
 |.mu _=>true
 |_=>false
noncomputable def Sl.lk:Sl->Bool
 |.lo _=>true
 |.lm _=>true
 |_=>false
abbrev Ns:=List (Option Nat)
def Oc(X:Nat->Prop)(ns:Ns)(n:Nat):Prop:=¬ X n/\some n∉ns
noncomputable def cM:Ob->Prop
 |.fz _=>False
 |.any=>False
 |_=>True
def SlR(P:Nat->Prop)(h0:Nat)(n:Option (Option Nat))(d:Option (Option D))(h:AH):Sl->Prop
 |.no=>n=some none
 |.sh v=>n=some none/\∃x,d=some (some x)/\Rd P h x v
 |.ow v=>∃m o,n=some (some m)/\d=some (some (.ref m))/\h0<=m/\h[m]?=some o/\cM o/\Rc P h o v
 |.lo v=>∃m o,n=some (some m)/\d=some (some (.ref m))/\h0<=m/\h[m]?=some o/\cM o/\Rc P h o v
 |.mu v=>∃m o,n=some (some m)/\d=some (some (.ref m))/\h[m]?=some o/\cM o/\Rc P h o v
 |.lm v=>∃m o,n=some (some m)/\d=some (some (.ref m))/\h[m]?=some o/\cM o/\Rc P h o v
structure Sat(X:Nat->Prop)(h0:Nat)(ns:Ns)(e:E3)(ae:AE)(h:AH):Prop where
 l1:ae.length=e.length
 l2:ns.length=e.length
 lh:h0<=h.length
 xl:∀(n:Nat),X n->n<h.length
 inj:∀(i j n:Nat),ns[i]?=some (some n)->ns[j]?=some (some n)->i=j
 nx:∀(i n:Nat),ns[i]?=some (some n)->¬ X n
 sl:∀(i:Nat) (s:Sl),e[i]?=some s->SlR (Oc X ns) h0 (ns[i]?) (ae[i]?) h s
def Mt(ns:Ns)(e:E3)(n:Nat):Prop:=∃(i:Nat) (s:Sl),ns[i]?=some (some n)/\e[i]?=some s/\s.mt=true
structure Stp(ns:Ns)(e:E3)(h:AH)(ns':Ns)(e':E3)(h':AH):Prop where
 len:h.length<=h'.length
 keep:∀(m:Nat) (o:Ob),h[m]?=some o->¬ Mt ns e m->h'[m]?=some o
 nw:∀(i n:Nat),ns'[i]?=some (some n)->ns[i]?=some (some n)\/h.length<=n
 lk:∀(i:Nat) (s:Sl),e[i]?=some s->s.lk=true->e'[i]?=some s/\ns'[i]?=ns[i]?
 lk':∀(i:Nat) (s:Sl),e'[i]?=some s->s.lk=true->e[i]?=some s/\ns'[i]?=ns[i]?
 mu:∀(i:Nat) (v:Val),e'[i]?=some (.mu v)->∃u,e[i]?=some (.mu u)/\ns'[i]?=ns[i]?
 mu':∀(i:Nat) (u:Val),e[i]?=some (.mu u)->∃v,e'[i]?=some (.mu v)/\ns'[i]?=ns[i]?
section
variable{X:Nat->Prop}{h0:Nat}{ns ns' ns1 dL:Ns}{e e' e1 e2:E3}{ae:AE}{h h' h1 h2:AH}
def bp:some n∈ns ↔ ∃i:Nat,ns[i]?=some (some n):=by
 constructor
 ·intro m;exact Tx m
 ·rintro⟨i,e⟩;exact Q7 e
def Sat.own(S:Sat X h0 ns e ae h){i n:Nat}(q:ns[i]?=some (some n)):∃s v o,e[i]?=some s/\(s.mt=true\/s.lk=true)/\s.val=some v/\ae[i]?=some (some (.ref n))/\h[n]?=some o/\cM o/\Rc (Oc X ns) h o v:=by
 have hi:i<e.length:=by rw[<- S.l2];exact (Qs.mp q).1
 have hs:=S.sl i e[i] (QF hi)
 refine⟨e[i],?_⟩
 have he:=QF hi
 generalize e[i]=s at *
 rw[q] at hs
 cases s with
 |no=>cases hs
 |sh v=>cases hs.1
 |ow v=>obtain⟨m,o,e1,e2,_,e3,e4,e5⟩:=hs;cases e1;exact⟨v,o,he,.inl rfl,rfl,e2,e3,e4,e5⟩
 |lo v=>obtain⟨m,o,e1,e2,_,e3,e4,e5⟩:=hs;cases e1;exact⟨v,o,he,.inr rfl,rfl,e2,e3,e4,e5⟩
 |mu v=>obtain⟨m,o,e1,e2,e3,e4,e5⟩:=hs;cases e1;exact⟨v,o,he,.inl rfl,rfl,e2,e3,e4,e5⟩
 |lm v=>obtain⟨m,o,e1,e2,e3,e4,e5⟩:=hs;cases e1;exact⟨v,o,he,.inr rfl,rfl,e2,e3,e4,e5⟩
noncomputable def Stp.refl:Stp ns e h ns e h:=⟨Qu _,λ_ _ q _=>q,λ_ _ q=>.inl q,λ_ _ q _=>⟨q,rfl⟩,λ_ _ q _=>⟨q,rfl⟩,λ_ _ q=>⟨_,q,rfl⟩,λ_ _ q=>⟨_,q,rfl⟩⟩
def Stp.trans(S:Sat X h0 ns e ae h)(a:Stp ns e h ns1 e1 h1)(b:Stp ns1 e1 h1 dL e2 h2):Stp ns e h dL e2 h2:=by
 refine⟨QI a.len b.len,λm o q hm=>?_,λi n q=>?_,λi s q hl=>?_,λi s q hl=>?_,λi v q=>?_,λi v q=>?_⟩
 ·refine b.keep m o (a.keep m o q hm) λ⟨i,s,z1,z2,z3⟩=>hm ?_
  have hlt:=(Qs.mp q).1
  rcases a.nw i m z1 with z |z
  ·obtain⟨s0,v,o',q1,q2,_⟩:=S.own z
   rcases q2 with q2 |q2
   ·exact⟨i,s0,z,q1,q2⟩
   ·have:=(a.lk i s0 q1 q2).1
    rw[z2] at this
    cases this
    exfalso
    cases s <;> first |cases z3;done |cases q2;done
  ·omega
 ·rcases b.nw i n q with z |z
  ·exact a.nw i n z
  ·exact .inr (QI a.len z)
 ·obtain⟨q1,q2⟩:=a.lk i s q hl
  obtain⟨q3,q4⟩:=b.lk i s q1 hl
  exact⟨q3,q4.trans q2⟩
 ·obtain⟨q1,q2⟩:=b.lk' i s q hl
  obtain⟨q3,q4⟩:=a.lk' i s q1 hl
  exact⟨q3,q2.trans q4⟩
 ·obtain⟨u,q1,q2⟩:=b.mu i v q
  obtain⟨u',q3,q4⟩:=a.mu i u q1
  exact⟨u',q3,q2.trans q4⟩
 ·obtain⟨u,q1,q2⟩:=a.mu' i v q
  obtain⟨u',q3,q4⟩:=b.mu' i u q1
  exact⟨u',q3,q4.trans q2⟩
noncomputable def Stp.mov(S:Sat X h0 ns e ae h)(a:Stp ns e h ns1 e1 h1):Mov (Oc X ns) (Oc X ns1) h h1:=λn o p q=>by
 have hlt:=(Qs.mp q).1
 have hm:¬ Mt ns e n:=λ⟨i,s,z,_⟩=>p.2 (bp.mpr ⟨i,z⟩)
 refine⟨⟨p.1,λz=>?_⟩,a.keep n o q hm⟩
 obtain⟨i,z⟩:=bp.mp z
 rcases a.nw i n z with z |z
 ·exact p.2 (bp.mpr ⟨i,z⟩)
 ·omega
def bU(q:h[n]?=some o):n<h.length:=(Qs.mp q).1
def gp{n:Nat}{o:Ob}{g:AH}(q:h[n]?=some o):(h++g)[n]?=some o:=by rw[QR (bU q)];exact q
def wQ:(h++[o])[h.length]?=some o:=by rw[QO (Qu _),RL];rfl
def SlR.mono(m:Mov P P' h h')(k:∀j o,n=some (some j)->h[j]?=some o->h'[j]?=some o)(r:SlR P h0 n d h s):SlR P' h0 n d h' s:=by
 cases s with
 |no=>exact r
 |sh v=>obtain⟨q,x,q1,q2⟩:=r;exact⟨q,x,q1,q2.mono m⟩
 |ow v=>obtain⟨j,o,q1,q2,q3,q4,q5,q6⟩:=r;exact⟨j,o,q1,q2,q3,k j o q1 q4,q5,q6.mono m⟩
 |lo v=>obtain⟨j,o,q1,q2,q3,q4,q5,q6⟩:=r;exact⟨j,o,q1,q2,q3,k j o q1 q4,q5,q6.mono m⟩
 |mu v=>obtain⟨j,o,q1,q2,q4,q5,q6⟩:=r;exact⟨j,o,q1,q2,k j o q1 q4,q5,q6.mono m⟩
 |lm v=>obtain⟨j,o,q1,q2,q4,q5,q6⟩:=r;exact⟨j,o,q1,q2,k j o q1 q4,q5,q6.mono m⟩
def Xn(X:Nat->Prop)(n:Nat):Nat->Prop:=λm=>X m\/m=n
def Sat.grow(S:Sat X h0 ns e ae h)(o:Ob):Sat (Xn X h.length) h0 ns e ae (h++[o]):=by
 have mv:Mov (Oc X ns) (Oc (Xn X h.length) ns) h (h++[o]):=λn o' p q=>⟨⟨λz=>by
  rcases z with z |z
  ·exact p.1 z
  ·have:=bU q;omega,p.2⟩,gp q⟩
 refine⟨S.l1,S.l2,by rw[Qw];have:=S.lh;omega,λn z=>?_,S.inj,λi n q z=>?_,λi s q=>(S.sl i s q).mono mv λj o' _ q'=>gp q'⟩
 ·rw[Qw]
  rcases z with z |z
  ·have:=S.xl n z;omega
  ·subst z;show h.length<h.length+1;omega
 ·rcases z with z |z
  ·exact S.nx i n q z
  ·obtain⟨_,_,_,_,_,_,_,q',_⟩:=S.own q
   have:=bU q';omega
def Sat.weak(S:Sat Y h0 ns e ae h)(hx:∀n,X n->Y n):Sat X h0 ns e ae h:=
 ⟨S.l1,S.l2,S.lh,λn z=>S.xl n (hx n z),S.inj,λi n q z=>S.nx i n q (hx n z),λi s q=>(S.sl i s q).mono (λn o p q=>⟨⟨λz=>p.1 (hx n z),p.2⟩,q⟩) λ_ _ _ q=>q⟩
def Stp.grow(o:Ob):Stp ns e h ns e (h++[o]):=⟨by rw[Qw];omega,λ_ _ q _=>gp q,λ_ _ q=>.inl q,λ_ _ q _=>⟨q,rfl⟩,λ_ _ q _=>⟨q,rfl⟩,λ_ _ q=>⟨_,q,rfl⟩,λ_ _ q=>⟨_,q,rfl⟩⟩
end
section
variable{X:Nat->Prop}{h0:Nat}{ns ns':Ns}{e e':E3}{ae:AE}{h h' hs:AH}
def bX{α:Type}{l:List α}{i j:Nat}{a b:α}(hi:i<l.length)(q:(l.set i a)[j]?=some b):(j=i/\b=a)\/(j≠i/\l[j]?=some b):=by
 rw[Tg] at q
 by_cases z:i=j
 ·subst z
  rw[if_pos rfl,if_pos hi] at q
  exact .inl ⟨rfl,(QK q).symm⟩
 ·rw[if_neg z] at q
  exact .inr ⟨λy=>z y.symm,q⟩
def bS{α:Type}{l:List α}{i:Nat}{a:α}(hi:i<l.length):(l.set i a)[i]?=some a:=by rw[Tg,if_pos rfl,if_pos hi]
def br{α:Type}{l:List α}{i j:Nat}{a:α}(hi:j≠i):(l.set i a)[j]?=l[j]?:=by rw[Sy (λy=>hi y.symm)]
def fA(p:Oc X ns n):Oc X (ns.set i none) n:=⟨p.1,λz=>by
 rcases RJ z with z |z
 ·exact p.2 z
 ·cases z⟩
def Sat.putN(S:Sat X h0 ns e ae h)(hi:i<e.length)(q:SlR (Oc X (ns.set i none)) h0 (some none) (some d) h s):Sat X h0 (ns.set i none) (e.set i s) (ae.set i d) h:=by
 have hn:i<ns.length:=by rw[S.l2];exact hi
 have ha:i<ae.length:=by rw[S.l1];exact hi
 refine⟨by rw[QH,QH];exact S.l1,by rw[QH,QH];exact S.l2,S.lh,S.xl,λj k n q1 q2=>?_,λj n q1=>?_,λj s' q1=>?_⟩
 ·rcases bX hn q1 with ⟨_,z⟩ |⟨_,z⟩
  ·cases z
  rcases bX hn q2 with ⟨_,y⟩ |⟨_,y⟩
  ·cases y
  exact S.inj j k n z y
 ·rcases bX hn q1 with ⟨_,z⟩ |⟨_,z⟩
  ·cases z
  exact S.nx j n z
 ·rcases bX hi q1 with ⟨rfl,rfl⟩ |⟨z,q2⟩
  ·rw[bS hn,bS ha];exact q
  ·rw[br z,br z]
   exact (S.sl j s' q2).mono (λn o p q=>⟨fA p,q⟩) λ_ _ _ q=>q
def Sat.putN'(S:Sat X h0 ns e ae h)(hi:i<e.length)(q:SlR (Oc X (ns.set i none)) h0 (some none) (ae[i]?) h s):Sat X h0 (ns.set i none) (e.set i s) ae h:=by
 have ha:i<ae.length:=by rw[S.l1];exact hi
 have:=S.putN hi (s:=s) (d:=ae[i]) (by rw[QF ha] at q;exact q)
 rw[List.set_getElem_self] at this
 exact this
def Sat.putO(S:Sat (Xn X n) h0 ns e ae h)(hx:¬ X n)(hi:i<e.length)(hn0:h0<=n)(eo:h[n]?=some o)(hf:cM o)(r:Rc (Oc (Xn X n) ns) h o v):Sat X h0 (ns.set i (some n)) (e.set i (.ow v)) (ae.set i (some (.ref n))) h:=by
 have hn:i<ns.length:=by rw[S.l2];exact hi
 have ha:i<ae.length:=by rw[S.l1];exact hi
 have nn:∀j:Nat,ns[j]?≠some (some n):=λj q=>S.nx j n q (.inr rfl)
 have mv:Mov (Oc (Xn X n) ns) (Oc X (ns.set i (some n))) h h:=λm o' p q=>⟨⟨λz=>p.1 (.inl z),λz=>by
  rcases RJ z with z |z
  ·exact p.2 z
  ·cases z;exact p.1 (.inr rfl)⟩,q⟩
 refine⟨by rw[QH,QH];exact S.l1,by rw[QH,QH];exact S.l2,S.lh,λm z=>S.xl m (.inl z),λj k m q1 q2=>?_,λj m q1 z=>?_,λj s' q1=>?_⟩
 ·rcases bX hn q1 with ⟨z1,z⟩ |⟨z1,z⟩ <;> rcases bX hn q2 with ⟨y1,y⟩ |⟨y1,y⟩
  ·rw[z1,y1]
  ·cases z;exact absurd y (nn k)
  ·cases y;exact absurd z (nn j)
  ·exact S.inj j k m z y
 ·rcases bX hn q1 with ⟨_,y⟩ |⟨_,y⟩
  ·cases y;exact hx z
  ·exact S.nx j m y (.inl z)
 ·rcases bX hi q1 with ⟨rfl,rfl⟩ |⟨z,q2⟩
  ·rw[bS hn,bS ha];exact⟨n,o,rfl,rfl,hn0,eo,hf,r.mono mv⟩
  ·rw[br z,br z]
   exact (S.sl j s' q2).mono mv λ_ _ _ q=>q
noncomputable def Sl.pl:Sl->Bool
 |.no=>true
 |.sh _=>true
 |.ow _=>true
 |_=>false
def Stp.put(A:Stp ns0 e0 hs ns e h)(hi:i<e.length)(hx:∀n,x=some n->hs.length<=n)(q0:e[i]?=some s0)(p0:s0.pl=true)(p:s.pl=true)(l2:ns.length=e.length):Stp ns0 e0 hs (ns.set i x) (e.set i s) h:=by
 have hn:i<ns.length:=by rw[l2];exact hi
 refine⟨A.len,A.keep,λj n q=>?_,λj s' q hl=>?_,λj s' q hl=>?_,λj v q=>?_,λj v q=>?_⟩
 ·rcases bX hn q with ⟨_,z⟩ |⟨_,z⟩
  ·exact .inr (hx n z.symm)
  ·exact A.nw j n z
 ·obtain⟨q1,q2⟩:=A.lk j s' q hl
  have z:j≠i:=λz=>by
   subst z
   rw[q0] at q1;cases q1
   cases s0 <;> first |cases p0;done |cases hl;done
  rw[br z,br z];exact⟨q1,q2⟩
 ·rcases bX hi q with ⟨_,z⟩ |⟨z,q1⟩
  ·subst z;cases s' <;> first |cases p;done |cases hl;done
  ·rw[br z];exact A.lk' j s' q1 hl
 ·rcases bX hi q with ⟨_,z⟩ |⟨z,q1⟩
  ·subst z;cases p
  ·rw[br z];exact A.mu j v q1
 ·obtain⟨u,q1,q2⟩:=A.mu' j v q
  have z:j≠i:=λz=>by
   subst z
   rw[q0] at q1;cases q1;cases p0
  exact⟨u,by rw[br z];exact q1,by rw[br z];exact q2⟩
end
inductive Tm where
 |val (v:Val) |new (v:Val) |bor (i:Nat)
inductive R3(α:Type) where
 |ok (a:α) (e:E3) |exc (c:Str) (e:E3) |stuck
def R3.bind{α β:Type}(r:R3 α)(f:α->E3->R3 β):R3 β:=match r with
 |.ok a e=>f a e
 |.exc c e=>.exc c e
 |.stuck=>.stuck
abbrev ME3:=E3->R3 Tm
abbrev MT3:=E3->R3 Bool
abbrev MA3:=E3->R3 (List Tm)
def Po{δ α:Type}(X:Nat->Prop)(h0:Nat)(ns:Ns)(e:E3)(ae:AE)(h:AH)(rel:Ns->E3->AH->δ->α->Prop)(r2:R δ):R3 α->Prop
 |.stuck=>True
 |.ok t e'=>∃d h' ns',r2=.ok d h'/\Stp ns e h ns' e' h'/\Sat X h0 ns' e' ae h'/\rel ns' e' h' d t
 |.exc c e'=>∃h' ns',r2=.exc c h'/\Stp ns e h ns' e' h'/\Sat X h0 ns' e' ae h'
def relE(X:Nat->Prop)(h0 L:Nat)(ae:AE)(ns:Ns)(e:E3)(h:AH)(d:D):Tm->Prop
 |.val v=>Rd (Oc X ns) h d v
 |.new v=>∃n o,d=.ref n/\L<=n/\¬ X n/\h[n]?=some o/\cM o/\Sat (Xn X n) h0 ns e ae h/\Rc (Oc (Xn X n) ns) h o v
 |.bor i=>ae[i]?=some (some d)
def relT(_:Ns)(_:E3)(_:AH)(b c:Bool):Prop:=b=c
inductive TsR(X:Nat->Prop)(ns:Ns)(ae:AE)(h:AH):List D->List Tm->Prop where
 |nil:TsR X ns ae h [] []
 |val {d:D}{v:Val}{ds:List D}{ts:List Tm} (r:Rd (Oc X ns) h d v) (rr:TsR X ns ae h ds ts):TsR X ns ae h (d::ds) (.val v::ts)
 |bor {d:D}{i:Nat}{ds:List D}{ts:List Tm} (q:ae[i]?=some (some d)) (rr:TsR X ns ae h ds ts):TsR X ns ae h (d::ds) (.bor i::ts)
def relA(X:Nat->Prop)(ae:AE)(ns:Ns)(_:E3)(h:AH)(ds:List D)(ts:List Tm):Prop:=TsR X ns ae h ds ts
def RE(F:ME)(G:ME3):Prop:=∀X h0 L ns e ae h,Sat X h0 ns e ae h->L<=h.length->Po X h0 ns e ae h (relE X h0 L ae) (F ae h) (G e)
def RT(F:MT)(G:MT3):Prop:=∀X h0 ns e ae h,Sat X h0 ns e ae h->Po X h0 ns e ae h relT (F ae h) (G e)
def RA(F:MA)(G:MA3):Prop:=∀X h0 ns e ae h,Sat X h0 ns e ae h->Po X h0 ns e ae h (relA X ae) (F ae h) (G e)
section
variable{X:Nat->Prop}{h0 L:Nat}{ns ns':Ns}{e e':E3}{ae:AE}{h h':AH}
def Po.bind(S:Sat X h0 ns e ae h)(p:Po X h0 ns e ae h rel r2 r3)
 (k:∀d t h' ns' e',Stp ns e h ns' e' h'->Sat X h0 ns' e' ae h'->rel ns' e' h' d t->Po X h0 ns' e' ae h' rel' (f2 d h') (f3 t e')):Po X h0 ns e ae h rel' (r2.bind f2) (r3.bind f3):=by
 cases r3 with
 |stuck=>trivial
 |exc c e'=>obtain⟨h',ns',q,q1,q2⟩:=p;subst q;exact⟨h',ns',rfl,q1,q2⟩
 |
  ok t e'=>
  obtain⟨d,h',ns',q,q1,q2,q3⟩:=p
  subst q
  have:=k d t h' ns' e' q1 q2 q3
  show Po X h0 ns e ae h rel' (f2 d h') (f3 t e')
  generalize f3 t e'=r at *
  cases r with
  |stuck=>trivial
  |exc c e2=>obtain⟨h2,dL,y,y1,y2⟩:=this;exact⟨h2,dL,y,q1.trans S y1,y2⟩
  |ok t2 e2=>obtain⟨d2,h2,dL,y,y1,y2,y3⟩:=this;exact⟨d2,h2,dL,y,q1.trans S y1,y2,y3⟩
def Po.ret(S:Sat X h0 ns e ae h)(q:rel ns e h d t):Po X h0 ns e ae h rel (.ok d h) (.ok t e):=⟨d,h,ns,rfl,.refl,S,q⟩
def TsR.stp(S:Sat X h0 ns e ae h)(a:Stp ns e h ns' e' h')(r:TsR X ns ae h ds ts):TsR X ns' ae h' ds ts:=by
 induction r with
 |nil=>exact .nil
 |val r _ ih=>exact .val (r.mono (a.mov S)) ih
 |bor q _ ih=>exact .bor q ih
def rs(e:E3):Tm->Option Val
 |.val v=>some v
 |.new v=>some v
 |.bor i=>(e[i]?).bind Sl.val
def Sat.bor(S:Sat X h0 ns e ae h){i:Nat}{d:D}{v:Val}(q:ae[i]?=some (some d))(r:(e[i]?).bind Sl.val=some v):ShR (Oc X ns) h d v:=by
 cases z:e[i]? with
 |none=>rw[z] at r;cases r
 |
  some s=>
  rw[z] at r
  have y:=S.sl i s z
  rw[q] at y
  have r':s.val=some v:=r
  cases s with
  |no=>cases r'
  |sh u=>cases r';obtain⟨_,x,e1,e2⟩:=y;cases e1;exact .inl e2
  |ow u=>cases r';obtain⟨m,o,_,e2,_,e3,_,e4⟩:=y;cases e2;exact .inr ⟨m,o,rfl,e3,e4⟩
  |lo u=>cases r';obtain⟨m,o,_,e2,_,e3,_,e4⟩:=y;cases e2;exact .inr ⟨m,o,rfl,e3,e4⟩
  |mu u=>cases r';obtain⟨m,o,_,e2,e3,_,e4⟩:=y;cases e2;exact .inr ⟨m,o,rfl,e3,e4⟩
  |lm u=>cases r';obtain⟨m,o,_,e2,e3,_,e4⟩:=y;cases e2;exact .inr ⟨m,o,rfl,e3,e4⟩
def relE.new(r:relE X h0 L ae ns e h d (.new v)):Rd (Oc X ns) h d v:=by
 obtain⟨n,o,rfl,_,hx,eo,_,S,rc⟩:=r
 exact .cell ⟨hx,λz=>by obtain⟨i,z⟩:=bp.mp z;exact S.nx i n z (.inr rfl)⟩ eo (rc.mono λm o p q=>⟨⟨λz=>p.1 (.inl z),p.2⟩,q⟩)
def relE.sh{d:D}{t:Tm}{v:Val}(S:Sat X h0 ns e ae h)(r:relE X h0 L ae ns e h d t)(q:rs e t=some v):ShR (Oc X ns) h d v:=by
 cases t with
 |val u=>cases q;exact .inl r
 |new u=>cases q;exact .inl r.new
 |bor i=>exact S.bor r q
def relE.stp(S:Sat X h0 ns e ae h)(a:Stp ns e h ns' e' h')(r:relE X h0 L ae ns e h d t)(hn:∀v,t ≠ .new v):relE X h0 L ae ns' e' h' d t:=by
 cases t with
 |val u=>exact Rd.mono (a.mov S) r
 |new u=>exact absurd rfl (hn u)
 |bor i=>exact r
def Tm.drop:Tm->Tm
 |.new v=>.val v
 |t=>t
def relE.drop(r:relE X h0 L ae ns e h d t):relE X h0 L ae ns e h d t.drop/\∀v,t.drop ≠ .new v:=by
 cases t with
 |val u=>exact⟨r,λ_ z=>nomatch z⟩
 |new u=>exact⟨r.new,λ_ z=>nomatch z⟩
 |bor i=>exact⟨r,λ_ z=>nomatch z⟩
def rss(e:E3):List Tm->Option (List Val)
 | []=>some []
 |t::ts=>match rs e t,rss e ts with
  |some v,some vs=>some (v::vs)
  |_,_=>none
def TsR.sh{ds:List D}{ts:List Tm}{vs:List Val}(S:Sat X h0 ns e ae h)(r:TsR X ns ae h ds ts)(q:rss e ts=some vs):ShRs (Oc X ns) h ds vs:=by
 induction r generalizing vs with
 |nil=>cases q;exact .nil
 |
  val r _ ih=>
  unfold rss at q
  split at q
  ·rename_i e1 e2;cases q;cases e1;exact .cons (.inl r) (ih e2)
  ·cases q
 |
  bor q' _ ih=>
  unfold rss at q
  split at q
  ·rename_i e1 e2;cases q;exact .cons (S.bor q' e1) (ih e2)
  ·cases q
end
inductive Bv where
 |val (v:Val) |new (v:Val) |stuck
def BvR(P:Nat->Prop)(h:AH)(r:R D):Bv->Prop
 |.val v=>∃d,r=.ok d h/\Rd P h d v
 |.new v=>∃o,r=.ok (.ref h.length) (h++[o])/\cM o/\Rc P h o v
 |.stuck=>True
def Bv.at(b:Bv)(e:E3):R3 Tm:=match b with
 |.val v=>.ok (.val v) e
 |.new v=>.ok (.new v) e
 |.stuck=>.stuck
def BvR.po(S:Sat X h0 ns e ae h)(hl:L<=h.length)(q:BvR (Oc X ns) h r b):Po X h0 ns e ae h (relE X h0 L ae) r (b.at e):=by
 cases b with
 |stuck=>trivial
 |val v=>obtain⟨d,rfl,r⟩:=q;exact Po.ret S r
 |
  new v=>
  obtain⟨o,rfl,hf,r⟩:=q
  have S':=S.grow o
  refine⟨_,_,ns,rfl,.grow o,S'.weak λn z=>.inl z,h.length,o,rfl,hl,λz=>?_,wQ,hf,S',r.mono λn o' p q=>⟨⟨λz=>?_,p.2⟩,gp q⟩⟩
  ·have:=S.xl _ z;omega
  ·rcases z with z |z
   ·exact p.1 z
   ·have:=bU q;omega
def RU(g2:D->AH->R D)(g3:Val->Bv):Prop:=∀P h d v,ShR P h d v->BvR P h (g2 d h) (g3 v)
def RO(g2:D->D->AH->R D)(g3:Val->Val->Bv):Prop:=∀P h d1 d2 v1 v2,ShR P h d1 v1->ShR P h d2 v2->BvR P h (g2 d1 d2 h) (g3 v1 v2)
def RFn(g2:Fn)(g3:List Val->Bv):Prop:=∀P h ds vs,ShRs P h ds vs->BvR P h (g2 ds h) (g3 vs)
def DH(i:Nat):ME3:=λe=>match e[i]? with
 |some (.sh v)=>.ok (.val v) e
 |some .no=>.stuck
 |some _=>.ok (.bor i) e
 |none=>.stuck
def vC(v:Val):ME3:=λe=>.ok (.val v) e
def vUn(g:Val->Bv)(F:ME3):ME3:=λe=>(F e).bind λt e1=>match rs e1 t with
 |some v=>(g v).at e1
 |none=>.stuck
def vOp(g:Val->Val->Bv)(F G:ME3):ME3:=λe=>(F e).bind λt1 e1=>(G e1).bind λt2 e2=>match rs e2 t1.drop,rs e2 t2 with
 |some v1,some v2=>(g v1 v2).at e2
 |_,_=>.stuck
def rb:MA3:=λe=>.ok [] e
def Ez(F:ME3)(A:MA3):MA3:=λe=>(F e).bind λt e1=>(A e1).bind λts e2=>.ok (t.drop::ts) e2
def vFn(g:List Val->Bv)(A:MA3):ME3:=λe=>(A e).bind λts e1=>match rss e1 ts with
 |some vs=>(g vs).at e1
 |none=>.stuck
def dG(e:E3):Tm->Option (E3×Val)
 |.val v=>some (e,v)
 |.new v=>some (e,v)
 |.bor i=>match e[i]? with
  |some (.sh v)=>some (e,v)
  |some (.ow v)=>some (e.set i (.sh v),v)
  |_=>none
def dem(e:E3):List Tm->Option (E3×List Val)
 | []=>some (e,[])
 |t::ts=>match dG e t with
  |some (e1,v)=>match dem e1 ts with
   |some (e2,vs)=>some (e2,v::vs)
   |none=>none
  |none=>none
def vTup(A:MA3):ME3:=λe=>(A e).bind λts e1=>match dem e1 ts with
 |some (e2,vs)=>if vs.length<=16777216 then .ok (.val (.tup vs)) e2 else .stuck
 |none=>.stuck
def vLst(A:MA3):ME3:=λe=>(A e).bind λts e1=>match dem e1 ts with
 |some (e2,vs)=>if vs.length<=16777216 then .ok (.new (.lst vs)) e2 else .stuck
 |none=>.stuck
noncomputable def bOf:Option Val->Option Bool
 |some (.bl b)=>some b
 |_=>none
def vAnd(F G:ME3):ME3:=λe=>(F e).bind λt e1=>match bOf (rs e1 t) with
 |some true=>G e1
 |some false=>.ok (.val (.bl false)) e1
 |none=>.stuck
def vNot(F:ME3):ME3:=λe=>(F e).bind λt e1=>match bOf (rs e1 t) with
 |some b=>.ok (.val (.bl (!b))) e1
 |none=>.stuck
def vIf(c:MT3)(F G:ME3):ME3:=λe=>(c e).bind λb e1=>if b=true then F e1 else G e1
def cOf(F:ME3):MT3:=λe=>(F e).bind λt e1=>match bOf (rs e1 t) with
 |some b=>.ok b e1
 |none=>.stuck
def cAn(c d:MT3):MT3:=λe=>(c e).bind λb e1=>if b=true then d e1 else .ok false e1
def cO(c d:MT3):MT3:=λe=>(c e).bind λb e1=>if b=true then .ok true e1 else d e1
def cNo(c:MT3):MT3:=λe=>(c e).bind λb e1=>.ok (!b) e1
def cY:MT3:=λe=>.ok true e
def mV:Val->Option Bool
 |.non=>some false
 |.bl b=>some b
 |.int i=>some (i != 0)
 |.tup xs=>some (!xs.isEmpty)
 |.lst xs=>some (!xs.isEmpty)
 |.kl xs=>some (!xs.isEmpty)
 |_=>none
def cTr(F:ME3):MT3:=λe=>(F e).bind λt e1=>match (rs e1 t).bind mV with
 |some b=>.ok b e1
 |none=>.stuck
section
variable{F G:ME}{F3 G3:ME3}{A:MA}{A3:MA3}{c d:MT}{c3 d3:MT3}
def Kr(i:Nat):RE (ba i) (DH i):=λX h0 L ns e ae h S hl=>by
 unfold DH
 cases q:e[i]? with
 |none=>trivial
 |
  some s=>
  have y:=S.sl i s q
  cases s with
  |no=>trivial
  |sh v=>obtain⟨_,x,e1,e2⟩:=y;unfold ba;rw[e1];exact Po.ret S e2
  |ow v=>obtain⟨m,o,_,e2,_⟩:=y;unfold ba;rw[e2];exact Po.ret S e2
  |lo v=>obtain⟨m,o,_,e2,_⟩:=y;unfold ba;rw[e2];exact Po.ret S e2
  |mu v=>obtain⟨m,o,_,e2,_⟩:=y;unfold ba;rw[e2];exact Po.ret S e2
  |lm v=>obtain⟨m,o,_,e2,_⟩:=y;unfold ba;rw[e2];exact Po.ret S e2
def qH{d:D}{v:Val}(r:∀P h,Rd P h d v):RE (eC d) (vC v):=λX h0 L ns e ae h S hl=>Po.ret S (r _ _)
def N3(hg:RU g g3)(hF:RE F F3):RE (eUn g F) (vUn g3 F3):=λX h0 L ns e ae h S hl=>
 Po.bind S (hF X h0 L ns e ae h S hl) λd t h1 ns1 e1 a1 S1 r1=>by
  try dsimp only
  split
  ·rename_i v q
   exact BvR.po S1 (QI hl a1.len) (hg _ _ _ _ (r1.sh S1 q))
  ·trivial
def Nn(hg:RO g g3)(hF:RE F F3)(hG:RE G G3):RE (eOp g F G) (vOp g3 F3 G3):=λX h0 L ns e ae h S hl=>
 Po.bind S (hF X h0 L ns e ae h S hl) λd1 t1 h1 ns1 e1 a1 S1 r1=>Po.bind S1 (hG X h0 L ns1 e1 ae h1 S1 (QI hl a1.len)) λd2 t2 h2 dL e2 a2 S2 r2=>by
  try dsimp only
  split
  ·rename_i v1 v2 q1 q2
   obtain⟨r1',hn⟩:=r1.drop
   exact BvR.po S2 (QI hl (QI a1.len a2.len)) (hg _ _ _ _ _ _ ((r1'.stp S1 a2 hn).sh S2 q1) (r2.sh S2 q2))
  ·trivial
def zB:RA fK rb:=λX h0 ns e ae h S=>Po.ret S .nil
def FR(hF:RE F F3)(hA:RA A A3):RA (eR F A) (Ez F3 A3):=λX h0 ns e ae h S=>
 Po.bind S (hF X h0 0 ns e ae h S (Q0 _)) λd1 t1 h1 ns1 e1 a1 S1 r1=>Po.bind S1 (hA X h0 ns1 e1 ae h1 S1) λds ts h2 dL e2 a2 S2 r2=>by
  obtain⟨r1',hn⟩:=r1.drop
  have r3:=r1'.stp S1 a2 hn
  refine Po.ret S2 ?_
  show TsR X dL ae h2 (d1::ds) (t1.drop::ts)
  generalize t1.drop=t at *
  cases t with
  |val v=>exact .val r3 r2
  |new v=>exact absurd rfl (hn v)
  |bor i=>exact .bor r3 r2
def Nt(hg:RFn g g3)(hA:RA A A3):RE (eFn g A) (vFn g3 A3):=λX h0 L ns e ae h S hl=>
 Po.bind S (hA X h0 ns e ae h S) λds ts h1 ns1 e1 a1 S1 r1=>by
  try dsimp only
  split
  ·rename_i vs q
   exact BvR.po S1 (QI hl a1.len) (hg _ _ _ _ (TsR.sh S1 r1 q))
  ·trivial
def Jc(S:Sat X h0 ns e ae h)(q:e[i]?=some (.ow v)):∃n,ae[i]?=some (some (.ref n))/\Sat X h0 (ns.set i none) (e.set i (.sh v)) ae h/\Stp ns e h (ns.set i none) (e.set i (.sh v)) h/\Rd (Oc X (ns.set i none)) h (.ref n) v:=by
 obtain⟨n,o,q1,q2,_,q3,_,q4⟩:=S.sl i _ q
 have hi:=(Qs.mp q).1
 have hn:i<ns.length:=by rw[S.l2];exact hi
 have r:Rd (Oc X (ns.set i none)) h (.ref n) v:=.cell ⟨S.nx i n q1,λz=>by
  obtain⟨j,z⟩:=bp.mp z
  rcases bX hn z with ⟨_,y⟩ |⟨y,z⟩
  ·cases y
  ·exact y (S.inj j i n z q1)⟩ q3 (q4.mono λm o p q=>⟨fA p,q⟩)
 exact⟨n,q2,S.putN' hi ⟨rfl,_,q2,r⟩,Stp.refl.put (x:=none) hi (λ_ z=>by cases z) q rfl rfl S.l2,r⟩
def gY{X:Nat->Prop}{h0 L:Nat}{ns:Ns}{e e':E3}{ae:AE}{h:AH}{d:D}{t:Tm}{v:Val}(S:Sat X h0 ns e ae h)(r:relE X h0 L ae ns e h d t)(q:dG e t=some (e',v)):∃ns',Sat X h0 ns' e' ae h/\Stp ns e h ns' e' h/\Rd (Oc X ns') h d v:=by
 cases t with
 |val u=>cases q;exact⟨ns,S,.refl,r⟩
 |new u=>cases q;exact⟨ns,S,.refl,r.new⟩
 |
  bor i=>
  unfold dG at q
  dsimp only at q
  have r':ae[i]?=some (some d):=r
  split at q
  ·rename_i u q1;cases q
   obtain⟨_,x,e1,e2⟩:=S.sl i _ q1
   rw[r'] at e1;cases e1
   exact⟨ns,S,.refl,e2⟩
  ·rename_i u q1;cases q
   obtain⟨n,e1,S',a',e2⟩:=Jc S q1
   rw[r'] at e1;cases e1
   exact⟨_,S',a',e2⟩
  ·cases q
def jh:∀{ds:List D}{vs:List Val}{ns:Ns}{e e':E3},Sat X h0 ns e ae h->TsR X ns ae h ds ts->dem e ts=some (e',vs)->∃ns',Sat X h0 ns' e' ae h/\Stp ns e h ns' e' h/\Rds (Oc X ns') h ds vs:=by
 induction ts with
 |nil=>intro ds vs ns e e' S r q;cases r;cases q;exact⟨ns,S,.refl,.nil⟩
 |
  cons t ts ih=>
  intro ds vs ns e e' S r q
  unfold dem at q
  split at q
  ·rename_i e1 v q1
   split at q
   ·rename_i e2 vs' q2
    cases q
    have hr:∃d ds',ds=d::ds'/\relE X h0 0 ae ns e h d t/\TsR X ns ae h ds' ts:=by
     cases r with
     |val r rr=>exact⟨_,_,rfl,r,rr⟩
     |bor r rr=>exact⟨_,_,rfl,r,rr⟩
    obtain⟨d,ds',rfl,hr⟩:=hr
    obtain⟨ns1,S1,a1,r1⟩:=gY S hr.1 q1
    obtain⟨dL,S2,a2,r2⟩:=ih S1 (hr.2.stp S a1) q2
    exact⟨dL,S2,a1.trans S a2,.cons (r1.mono (a2.mov S1)) r2⟩
   ·cases q
  ·cases q
def HW(hA:RA A A3):RE (eFn pK A) (vTup A3):=λX h0 L ns e ae h S hl=>
 Po.bind S (hA X h0 ns e ae h S) λds ts h1 ns1 e1 a1 S1 r1=>by
  try dsimp only
  split
  ·rename_i e2 vs q
   split
   ·rename_i hv
    obtain⟨dL,S2,a2,r2⟩:=jh S1 r1 q
    exact⟨.tup ds,h1,dL,by unfold pK;rw[if_pos (by rw[r2.len];exact hv)],a2,S2,.tup r2⟩
   ·trivial
  ·trivial
def HU(hA:RA A A3):RE (eFn cE A) (vLst A3):=λX h0 L ns e ae h S hl=>
 Po.bind S (hA X h0 ns e ae h S) λds ts h1 ns1 e1 a1 S1 r1=>by
  try dsimp only
  split
  ·rename_i e2 vs q
   split
   ·rename_i hv
    obtain⟨dL,S2,a2,r2⟩:=jh S1 r1 q
    have p:=BvR.po (r:=cE ds h1) (b:=.new (.lst vs)) S2 (QI hl a1.len) ⟨.lst ds,by unfold cE;rw[if_pos (by rw[r2.len];exact hv)],trivial,.lst r2⟩
    obtain⟨d,h',ns',y,y1,y2,y3⟩:=p
    exact⟨d,h',ns',y,a2.trans S1 y1,y2,y3⟩
   ·trivial
  ·trivial
def p7(S1:Sat X h0 ns1 e1 ae h1)(r1:relE X h0 L ae ns1 e1 h1 d1 t1)(q:bOf (rs e1 t1)=some b):d1=.bl b:=by
 unfold bOf at q
 split at q
 ·rename_i b' q';cases q;exact (r1.sh S1 q').bl
 ·cases q
def K1(hF:RE F F3)(hG:RE G G3):RE (CN F G) (vAnd F3 G3):=λX h0 L ns e ae h S hl=>
 Po.bind S (hF X h0 L ns e ae h S hl) λd1 t1 h1 ns1 e1 a1 S1 r1=>by
  try dsimp only
  split
  ·rename_i q;rw[p7 S1 r1 q];exact hG X h0 L ns1 e1 ae h1 S1 (QI hl a1.len)
  ·rename_i q;rw[p7 S1 r1 q];exact Po.ret S1 (.bl false)
  ·trivial
def Je(hF:RE F F3):RE (C2 F) (vNot F3):=λX h0 L ns e ae h S hl=>
 Po.bind S (hF X h0 L ns e ae h S hl) λd1 t1 h1 ns1 e1 a1 S1 r1=>by
  try dsimp only
  split
  ·rename_i q;rw[p7 S1 r1 q];exact Po.ret S1 (.bl _)
  ·trivial
def LC(hc:RT c c3)(hF:RE F F3)(hG:RE G G3):RE (eIf c F G) (vIf c3 F3 G3):=λX h0 L ns e ae h S hl=>
 Po.bind S (hc X h0 ns e ae h S) λb b' h1 ns1 e1 a1 S1 r1=>by
  cases r1
  try dsimp only
  split
  ·exact hF X h0 L ns1 e1 ae h1 S1 (QI hl a1.len)
  ·exact hG X h0 L ns1 e1 ae h1 S1 (QI hl a1.len)
def L8(hF:RE F F3):RT (tOf F) (cOf F3):=λX h0 ns e ae h S=>
 Po.bind S (hF X h0 0 ns e ae h S (Q0 _)) λd1 t1 h1 ns1 e1 a1 S1 r1=>by
  try dsimp only
  split
  ·rename_i q;rw[p7 S1 r1 q];exact Po.ret S1 rfl
  ·trivial
def Ly(hc:RT c c3)(hd:RT d d3):RT (tAn c d) (cAn c3 d3):=λX h0 ns e ae h S=>
 Po.bind S (hc X h0 ns e ae h S) λb b' h1 ns1 e1 a1 S1 r1=>by
  cases r1
  try dsimp only
  split
  ·exact hd X h0 ns1 e1 ae h1 S1
  ·exact Po.ret S1 rfl
def rt_o(hc:RT c c3)(hd:RT d d3):RT (tO c d) (cO c3 d3):=λX h0 ns e ae h S=>
 Po.bind S (hc X h0 ns e ae h S) λb b' h1 ns1 e1 a1 S1 r1=>by
  cases r1
  try dsimp only
  split
  ·exact Po.ret S1 rfl
  ·exact hd X h0 ns1 e1 ae h1 S1
def N0(hc:RT c c3):RT (tNo c) (cNo c3):=λX h0 ns e ae h S=>
 Po.bind S (hc X h0 ns e ae h S) λb b' h1 ns1 e1 a1 S1 r1=>by
  cases r1
  exact Po.ret S1 rfl
def rt_y:RT tY cY:=λX h0 ns e ae h S=>Po.ret S rfl
def F5{P:Nat->Prop}{h:AH}{d:D}{v:Val}{b:Bool}(r:ShR P h d v)(q:mV v=some b):vN d h=.ok b h:=by
 have emp:∀{ds:List D}{vs:List Val},Rds P h ds vs->ds.isEmpty=vs.isEmpty:=λr=>by cases r <;> rfl
 cases v with
 |non=>cases q;rw[r.non];rfl
 |bl b=>cases q;rw[r.bl];rfl
 |int i=>cases q;rw[r.int];rfl
 |tup xs=>cases q;obtain⟨ds,rfl,r2⟩:=r.tup;show R.ok (!ds.isEmpty) h=_;rw[emp r2]
 |
  lst xs=>
  cases q
  obtain⟨n,ds,rfl,_,e1,r1⟩:=r.lst
  rw[<- emp r1]
  unfold vN d7;dsimp only;rw[e1]
 |
  kl xs=>
  cases q
  obtain⟨ds,r2,rfl |⟨n,rfl,e1⟩⟩:=r.kl
  ·show R.ok (!ds.isEmpty) h=_;rw[emp r2]
  ·rw[<- emp r2]
   unfold vN d7;dsimp only;rw[e1]
 |_=>cases q
def Om(hF:RE F F3):RT (tTr F) (cTr F3):=λX h0 ns e ae h S=>
 Po.bind S (hF X h0 0 ns e ae h S (Q0 _)) λd1 t1 h1 ns1 e1 a1 S1 r1=>by
  try dsimp only
  split
  ·rename_i b q
   obtain⟨v,q1,q2⟩:=Q1.mp q
   rw[F5 (r1.sh S1 q1) q2]
   exact Po.ret S1 rfl
  ·trivial
end
inductive Rt where
 |val (v:Val) |new (v:Val) |par (i:Nat)
inductive SR3 where
 |nx (e:E3) |rt (r:Rt) (e:E3) |bk (e:E3) |ct (e:E3) |exc (c:Str) (e:E3) |stuck
abbrev MS3:=E3->SR3
def RtR(X:Nat->Prop)(h0:Nat)(ns:Ns)(e:E3)(ae:AE)(h:AH)(d:D):Rt->Prop
 |.val v=>Sat X h0 ns e ae h/\Rd (Oc X ns) h d v
 |.new v=>∃n o,d=.ref n/\h0<=n/\¬ X n/\h[n]?=some o/\cM o/\Sat (Xn X n) h0 ns e ae h/\Rc (Oc (Xn X n) ns) h o v
 |.par i=>Sat X h0 ns e ae h/\ae[i]?=some (some d)/\∃v,e[i]?=some (.mu v)
def PoS(X:Nat->Prop)(h0:Nat)(ns:Ns)(e:E3)(h:AH)(r2:SR):SR3->Prop
 |.stuck=>True
 |.nx e'=>∃be h' ns',r2=.nx be h'/\Stp ns e h ns' e' h'/\Sat X h0 ns' e' be h'
 |.bk e'=>∃be h' ns',r2=.bk be h'/\Stp ns e h ns' e' h'/\Sat X h0 ns' e' be h'
 |.ct e'=>∃be h' ns',r2=.ct be h'/\Stp ns e h ns' e' h'/\Sat X h0 ns' e' be h'
 |.exc c e'=>∃be h' ns',r2=.exc c be h'/\Stp ns e h ns' e' h'/\Sat X h0 ns' e' be h'
 |.rt r e'=>∃d be h' ns',r2=.rt d h'/\Stp ns e h ns' e' h'/\RtR X h0 ns' e' be h' d r
def RS(F:MS)(G:MS3):Prop:=∀X h0 ns e ae h,Sat X h0 ns e ae h->PoS X h0 ns e h (F ae h) (G e)
def R3.toS{α:Type}(r:R3 α)(f:α->E3->SR3):SR3:=match r with
 |.ok a e=>f a e
 |.exc c e=>.exc c e
 |.stuck=>.stuck
def SR3.then(r:SR3)(f:E3->SR3):SR3:=match r with
 |.nx e=>f e
 |r=>r
section
variable{X:Nat->Prop}{h0 L:Nat}{ns ns1 ns':Ns}{e e1 e':E3}{ae:AE}{h h1 h':AH}
def PoS.after(S:Sat X h0 ns e ae h)(a:Stp ns e h ns1 e1 h1)(p:PoS X h0 ns1 e1 h1 r2 r3):PoS X h0 ns e h r2 r3:=by
 cases r3 with
 |stuck=>trivial
 |nx e'=>obtain⟨be,h',ns',q,q1,q2⟩:=p;exact⟨be,h',ns',q,a.trans S q1,q2⟩
 |bk e'=>obtain⟨be,h',ns',q,q1,q2⟩:=p;exact⟨be,h',ns',q,a.trans S q1,q2⟩
 |ct e'=>obtain⟨be,h',ns',q,q1,q2⟩:=p;exact⟨be,h',ns',q,a.trans S q1,q2⟩
 |exc c e'=>obtain⟨be,h',ns',q,q1,q2⟩:=p;exact⟨be,h',ns',q,a.trans S q1,q2⟩
 |rt r e'=>obtain⟨d,be,h',ns',q,q1,q2⟩:=p;exact⟨d,be,h',ns',q,a.trans S q1,q2⟩
def PoS.toS(p:Po X h0 ns e ae h rel r2 r3)
 (k:∀d t h' ns' e',Stp ns e h ns' e' h'->Sat X h0 ns' e' ae h'->rel ns' e' h' d t->PoS X h0 ns e h (f2 d h') (f3 t e')):PoS X h0 ns e h (r2.toS ae f2) (r3.toS f3):=by
 cases r3 with
 |stuck=>trivial
 |exc c e'=>obtain⟨h',ns',rfl,q1,q2⟩:=p;exact⟨ae,h',ns',rfl,q1,q2⟩
 |ok t e'=>obtain⟨d,h',ns',rfl,q1,q2,q3⟩:=p;exact k d t h' ns' e' q1 q2 q3
def PoS.nx(a:Stp ns e h ns' e' h')(S:Sat X h0 ns' e' be h'):PoS X h0 ns e h (.nx be h') (.nx e'):=⟨be,h',ns',rfl,a,S⟩
end
def wNx:MS3:=λe=>.nx e
def Ep:MS3:=λe=>.rt (.val .non) e
def wSeq(F G:MS3):MS3:=λe=>(F e).then G
def D9(F:ME3):MS3:=λe=>(F e).toS λ_ e1=>.nx e1
def wIf(c:MT3)(F G:MS3):MS3:=λe=>(c e).toS λb e1=>if b=true then F e1 else G e1
def qA(t:Tm)(e:E3):SR3:=match t with
 |.val v=>.rt (.val v) e
 |.new v=>.rt (.new v) e
 |.bor i=>match e[i]? with
  |some (.sh v)=>.rt (.val v) e
  |some (.ow v)=>.rt (.new v) (e.set i .no)
  |some (.mu _)=>.rt (.par i) e
  |_=>.stuck
def wRet(F:ME3):MS3:=λe=>(F e).toS qA
def kf(o:Bool)(i:Nat)(t:Tm)(e:E3):SR3:=match e[i]? with
 |some s0=>if s0.pl=true then (match t with
  |.val v=>.nx (e.set i (.sh v))
  |.new v=>.nx (e.set i (if o=true then .ow v else .sh v))
  |.bor j=>match dG e (.bor j) with
   |some (e2,v)=>.nx (e2.set i (.sh v))
   |none=>.stuck) else .stuck
 |none=>.stuck
def wAsg(o:Bool)(i:Nat)(F:ME3):MS3:=λe=>(F e).toS (kf o i)
abbrev MG3:=Val->E3->Option E3
abbrev ml:=List Val->E3->Option E3
def pN(i:Nat):MG3:=λv e=>match e[i]? with
 |some s=>if s.pl=true then some (e.set i (.sh v)) else none
 |none=>none
def psN:ml:=λvs e=>match vs with
 | []=>some e
 |_=>none
def psC(g:MG3)(u:ml):ml:=λvs e=>match vs with
 |v::r=>(g v e).bind λe1=>u r e1
 | []=>none
def pT(n:Nat)(u:ml):MG3:=λv e=>match v with
 |.tup vs=>if vs.length=n then u vs e else none
 |_=>none
def Eu(F:ME3)(g:MG3):MS3:=λe=>(F e).toS λt e1=>match dG e1 t with
 |some (e2,v)=>match g v e2 with
  |some e3=>.nx e3
  |none=>.stuck
 |none=>.stuck
def wPar(i j:Nat)(A:MA3):MS3:=λe=>(A e).toS λts e1=>match dem e1 ts with
 |some (e2,[v,u])=>match (pN i v e2).bind (pN j u) with
  |some e3=>.nx e3
  |none=>.stuck
 |_=>.stuck
def B9(i:Nat)(g:Val->Val->Bv)(F:ME3):MS3:=λe=>match e[i]? with
 |some (.sh x)=>(F e).toS λt e1=>match rs e1 t with
  |some y=>match g x y with
   |.val z=>match pN i z e1 with
    |some e2=>.nx e2
    |none=>.stuck
   |_=>.stuck
  |none=>.stuck
 |_=>.stuck
def AA(c:Str)(A:MA3):MS3:=λe=>(A e).toS λts e1=>if ts.length<=16777216 then .exc c e1 else .stuck
def RG(g2:MG)(g3:MG3):Prop:=∀X h0 ns e ae h d v e',Sat X h0 ns e ae h->Rd (Oc X ns) h d v->g3 v e=some e'->∃be ns',g2 d ae h=.ok be h/\Sat X h0 ns' e' be h/\Stp ns e h ns' e' h
def RGs(g2:MGs)(g3:ml):Prop:=∀X h0 ns e ae h ds vs e',Sat X h0 ns e ae h->Rds (Oc X ns) h ds vs->g3 vs e=some e'->∃be ns',g2 ds ae h=.ok be h/\Sat X h0 ns' e' be h/\Stp ns e h ns' e' h
section
variable{F G:ME}{F3 G3:ME3}{A:MA}{A3:MA3}{c d:MT}{c3 d3:MT3}{U V:MS}{U3 V3:MS3}{g:MG}{g3:MG3}{gs:MGs}{gs3:ml}
def MZ:RS sNx wNx:=λX h0 ns e ae h S=>.nx .refl S
def G8:RS yQ Ep:=λX h0 ns e ae h S=>⟨.non,ae,h,ns,rfl,.refl,S,.non⟩
def IJ(hU:RS U U3)(hV:RS V V3):RS (jk U V) (wSeq U3 V3):=λX h0 ns e ae h S=>by
 have p:=hU X h0 ns e ae h S
 show PoS X h0 ns e h ((U ae h).then V) ((U3 e).then V3)
 generalize U3 e=r at *
 cases r with
 |stuck=>trivial
 |nx e'=>obtain⟨be,h',ns',q,q1,q2⟩:=p;rw[q];exact PoS.after S q1 (hV X h0 ns' e' be h' q2)
 |bk e'=>obtain⟨be,h',ns',q,q1,q2⟩:=p;rw[q];exact⟨be,h',ns',rfl,q1,q2⟩
 |ct e'=>obtain⟨be,h',ns',q,q1,q2⟩:=p;rw[q];exact⟨be,h',ns',rfl,q1,q2⟩
 |exc c e'=>obtain⟨be,h',ns',q,q1,q2⟩:=p;rw[q];exact⟨be,h',ns',rfl,q1,q2⟩
 |rt r e'=>obtain⟨d,be,h',ns',q,q1,q2⟩:=p;rw[q];exact⟨d,be,h',ns',rfl,q1,q2⟩
def EO(hF:RE F F3):RS (iP F) (D9 F3):=λX h0 ns e ae h S=>PoS.toS (hF X h0 0 ns e ae h S (Q0 _)) λd t h1 ns1 e1 a1 S1 r1=>.nx a1 S1
def N9(hc:RT c c3)(hU:RS U U3)(hV:RS V V3):RS (sIf c U V) (wIf c3 U3 V3):=λX h0 ns e ae h S=>PoS.toS (hc X h0 ns e ae h S) λb b' h1 ns1 e1 a1 S1 r1=>by
 cases r1
 try dsimp only
 split
 ·exact PoS.after S a1 (hU X h0 ns1 e1 ae h1 S1)
 ·exact PoS.after S a1 (hV X h0 ns1 e1 ae h1 S1)
def Jk(hF:RE F F3):RS (CU F) (wRet F3):=λX h0 ns e ae h S=>PoS.toS (hF X h0 h0 ns e ae h S S.lh) λd t h1 ns1 e1 a1 S1 r1=>by
 cases t with
 |val v=>exact⟨d,ae,h1,ns1,rfl,a1,S1,r1⟩
 |new v=>obtain⟨n,o,q⟩:=r1;exact⟨d,ae,h1,ns1,rfl,a1,n,o,q⟩
 |
  bor i=>
  unfold qA
  dsimp only
  have r':ae[i]?=some (some d):=r1
  split
  ·rename_i v q
   obtain⟨_,x,e1',e2⟩:=S1.sl i _ q
   rw[r'] at e1';cases e1'
   exact⟨d,ae,h1,ns1,rfl,a1,S1,e2⟩
  ·rename_i v q
   obtain⟨n,o,q1,q2,q3,q4,q5,q6⟩:=S1.sl i _ q
   rw[r'] at q2;cases q2
   have hi:=(Qs.mp q).1
   have hn:i<ns1.length:=by rw[S1.l2];exact hi
   have mv:Mov (Oc X ns1) (Oc (Xn X n) (ns1.set i none)) h1 h1:=λm o' p q'=>⟨⟨λz=>by
    rcases z with z |rfl
    ·exact p.1 z
    ·exact p.2 (bp.mpr ⟨i,q1⟩),(fA p).2⟩,q'⟩
   have S2:=S1.putN' hi (s:=.no) rfl
   refine⟨.ref n,ae,h1,ns1.set i none,rfl,a1.put (x:=none) hi (λ_ z=>by cases z) q rfl rfl S1.l2,n,o,rfl,q3,S1.nx i n q1,q4,q5,⟨S2.l1,S2.l2,S2.lh,λm z=>?_,S2.inj,λj m qj z=>?_,λj s qj=>?_⟩,q6.mono mv⟩
   ·rcases z with z |rfl
    ·exact S2.xl m z
    ·exact bU q4
   ·rcases z with z |rfl
    ·exact S2.nx j m qj z
    ·rcases bX hn qj with ⟨_,y⟩ |⟨y,z⟩
     ·cases y
     ·exact y (S1.inj j i _ z q1)
   ·rcases bX hi qj with ⟨rfl,rfl⟩ |⟨z,qj'⟩
    ·rw[bS hn];rfl
    ·rw[br z]
     exact (S1.sl j s qj').mono mv λ_ _ _ q=>q
  ·rename_i v q
   exact⟨d,ae,h1,ns1,rfl,a1,S1,r',v,q⟩
  ·trivial
def HQ(o:Bool)(i:Nat)(hF:RE F F3):RS (iJ F (gN i)) (wAsg o i F3):=λX h0 ns e ae h S=>PoS.toS (hF X h0 h.length ns e ae h S (Qu _)) λd t h1 ns1 e1 a1 S1 r1=>by
 show PoS X h0 ns e h (.nx (ae.set i (some d)) h1) (kf o i t e1)
 unfold kf
 split
 ·rename_i s0 q0
  split
  ·rename_i p0
   have hi:=(Qs.mp q0).1
   cases t with
   |val v=>exact .nx (a1.put (x:=none) (s:=.sh v) hi (λ_ z=>by cases z) q0 p0 rfl S1.l2) (S1.putN hi ⟨rfl,d,rfl,Rd.mono (λm o p q=>⟨fA p,q⟩) r1⟩)
   |
    new v=>
    try dsimp only
    split
    ·obtain⟨n,ob,rfl,q1,q2,q3,q4,q5,q6⟩:=r1
     exact .nx (a1.put (x:=some n) (s:=.ow v) hi (λm z=>by cases z;exact q1) q0 p0 rfl S1.l2) (Sat.putO q5 q2 hi (QI S.lh q1) q3 q4 q6)
    ·exact .nx (a1.put (x:=none) (s:=.sh v) hi (λ_ z=>by cases z) q0 p0 rfl S1.l2) (S1.putN hi ⟨rfl,d,rfl,Rd.mono (λm o p q=>⟨fA p,q⟩) r1.new⟩)
   |
    bor j=>
    try dsimp only
    split
    ·rename_i e2 v q2
     obtain⟨dL,S2,a2,r2⟩:=gY S1 r1 q2
     have hq:∃s2,e2[i]?=some s2/\s2.pl=true:=by
      unfold dG at q2
      dsimp only at q2
      split at q2
      ·cases q2;exact⟨s0,q0,p0⟩
      ·rename_i u q3
       cases q2
       by_cases z:i=j
       ·subst z;exact⟨_,bS hi,rfl⟩
       ·exact⟨s0,by rw[br z];exact q0,p0⟩
      ·cases q2
     obtain⟨s2,hq1,hq2⟩:=hq
     have hi2:=(Qs.mp hq1).1
     exact .nx ((a1.trans S a2).put (x:=none) (s:=.sh v) hi2 (λ_ z=>by cases z) hq1 hq2 rfl S2.l2) (S2.putN hi2 ⟨rfl,d,rfl,Rd.mono (λm o p q=>⟨fA p,q⟩) r2⟩)
    ·trivial
  ·trivial
 ·trivial
def vO(i:Nat):RG (gN i) (pN i):=λX h0 ns e ae h d v e' S r q=>by
 unfold pN at q
 split at q
 ·rename_i s q0
  split at q
  ·rename_i p0
   cases q
   have hi:=(Qs.mp q0).1
   exact⟨_,ns.set i none,rfl,S.putN hi ⟨rfl,d,rfl,Rd.mono (λm o p q=>⟨fA p,q⟩) r⟩,Stp.refl.put (x:=none) (s:=.sh v) hi (λ_ z=>by cases z) q0 p0 rfl S.l2⟩
  ·cases q
 ·cases q
def Nr:RGs gsN psN:=λX h0 ns e ae h ds vs e' S r q=>by
 cases r with
 |nil=>cases q;exact⟨ae,ns,rfl,S,.refl⟩
 |cons _ _=>cases q
def NY(hg:RG g g3)(hs:RGs gs gs3):RGs (gsC g gs) (psC g3 gs3):=λX h0 ns e ae h ds vs e' S r q=>by
 cases r with
 |nil=>cases q
 |
  cons r rr=>
  obtain⟨e1,q1,q2⟩:=Q1.mp q
  obtain⟨ae1,ns1,p1,S1,a1⟩:=hg _ _ _ _ _ _ _ _ _ S r q1
  obtain⟨ae2,dL,p2,S2,a2⟩:=hs _ _ _ _ _ _ _ _ _ S1 (rr.mono (a1.mov S)) q2
  refine⟨ae2,dL,?_,S2,a1.trans S a2⟩
  unfold gsC;dsimp only;rw[p1];exact p2
def rg_t(n:Nat)(hs:RGs gs gs3):RG (gT λds ae h=>if ds.length=n then gs ds ae h else .stuck) (pT n gs3):=λX h0 ns e ae h d v e' S r q=>by
 unfold pT at q
 split at q
 ·split at q
  ·rename_i hn
   obtain⟨ds,rfl,r2⟩:=ShR.tup (.inl r)
   obtain⟨ae1,ns1,p1,S1,a1⟩:=hs _ _ _ _ _ _ _ _ _ S r2 q
   refine⟨ae1,ns1,?_,S1,a1⟩
   unfold gT;dsimp only;rw[if_pos (by rw[r2.len];exact hn)];exact p1
  ·cases q
 ·cases q
def Jt(hg:RG g g3):RG (λd ae h=>noX (g d ae h)) g3:=λX h0 ns e ae h d v e' S r q=>by
 obtain⟨ae1,ns1,p1,S1,a1⟩:=hg _ _ _ _ _ _ _ _ _ S r q
 exact⟨ae1,ns1,by dsimp only;rw[p1];rfl,S1,a1⟩
def Gq(hF:RE F F3)(hg:RG g g3):RS (iJ F g) (Eu F3 g3):=λX h0 ns e ae h S=>PoS.toS (hF X h0 0 ns e ae h S (Q0 _)) λd t h1 ns1 e1 a1 S1 r1=>by
 try dsimp only
 split
 ·rename_i e2 v q
  obtain⟨dL,S2,a2,r2⟩:=gY S1 r1 q
  split
  ·rename_i e3 q3
   obtain⟨ae3,ns3,p3,S3,a3⟩:=hg _ _ _ _ _ _ _ _ _ S2 r2 q3
   rw[p3]
   exact .nx ((a1.trans S a2).trans S a3) S3
  ·trivial
 ·trivial
def Kg(i j:Nat)(hA:RA A A3):RS (BI i j A) (wPar i j A3):=λX h0 ns e ae h S=>PoS.toS (hA X h0 ns e ae h S) λds ts h1 ns1 e1 a1 S1 r1=>by
 try dsimp only
 cases q:dem e1 ts with
 |none=>trivial
 |
  some w=>
  obtain⟨e2,vs⟩:=w
  obtain⟨dL,S2,a2,r2⟩:=jh S1 r1 q
  match vs,ds,r2 with
  | [],_,_=>trivial
  | [_],_,_=>trivial
  |_::_::_::_,_,_=>trivial
  |
   [v,u],[d,d'],r2=>
   dsimp only
   split
   ·rename_i e3 q3
    obtain⟨e4,q4,q5⟩:=Q1.mp q3
    cases r2 with
    |
     cons r rr=>
     cases rr with
     |
      cons r' rr=>
      obtain⟨ae3,ns3,p3,S3,a3⟩:=vO i _ _ _ _ _ _ _ _ _ S2 r q4
      obtain⟨ae4,ns4,p4,S4,a4⟩:=vO j _ _ _ _ _ _ _ _ _ S3 (r'.mono (a3.mov S2)) q5
      have z3:ae3=ae.set i (some d):=by have:=p3;unfold gN at this;cases this;rfl
      have z4:ae4=ae3.set j (some d'):=by have:=p4;unfold gN at this;cases this;rfl
      subst z4 z3
      exact .nx (((a1.trans S a2).trans S a3).trans S a4) S4
   ·trivial
def JP(i:Nat)(hg:RO gg gg3)(hF:RE F F3):RS (vw i gg F) (B9 i gg3 F3):=λX h0 ns e ae h S=>by
 unfold B9
 split
 ·rename_i x q0
  obtain⟨_,dx,e1,r0⟩:=S.sl i _ q0
  unfold vw
  rw[e1]
  refine PoS.toS (hF X h0 0 ns e ae h S (Q0 _)) λd t h1 ns1 e1 a1 S1 r1=>?_
  try dsimp only
  split
  ·rename_i y q1
   have b:=hg _ _ _ _ _ _ (.inl (r0.mono (a1.mov S))) (r1.sh S1 q1)
   split
   ·rename_i z q2
    rw[q2] at b
    obtain⟨dz,p1,r2⟩:=b
    split
    ·rename_i e2 q3
     rw[p1]
     obtain⟨ae3,ns3,p3,S3,a3⟩:=vO i _ _ _ _ _ _ _ _ _ S1 r2 q3
     have z3:ae3=ae.set i (some dz):=by have:=p3;unfold gN at this;cases this;rfl
     subst z3
     exact .nx (a1.trans S a3) S3
    ·trivial
   ·trivial
  ·trivial
 ·trivial
def TsR.len(r:TsR X ns ae h ds ts):ds.length=ts.length:=by
 induction r with
 |nil=>rfl
 |val _ _ ih=>rw[QB,QB,ih]
 |bor _ _ ih=>rw[QB,QB,ih]
def Dj(x:Str)(hA:RA A A3):RS (ud x A) (AA x A3):=λX h0 ns e ae h S=>PoS.toS (hA X h0 ns e ae h S) λds ts h1 ns1 e1 a1 S1 r1=>by
 try dsimp only
 by_cases hl:ts.length<=16777216
 ·rw[if_pos hl,if_pos (by rw[TsR.len r1];exact hl)]
  exact⟨ae,h1,ns1,rfl,a1,S1⟩
 ·rw[if_neg hl];trivial
end
noncomputable def Sl.re(s:Sl)(u:Val):Sl:=match s with
 |.ow _=>.ow u
 |.mu _=>.mu u
 |s=>s
noncomputable def Sl.mv:Sl->Option Val
 |.ow v=>some v
 |.mu v=>some v
 |_=>none
section
variable{X:Nat->Prop}{h0 L:Nat}{ns ns1 ns':Ns}{e e1 e':E3}{ae:AE}{h h1 h':AH}
def Sat.write(S:Sat X h0 ns e ae h)(q:e[i]?=some s)(hm:s.mv=some u):∃n o,ae[i]?=some (some (.ref n))/\h[n]?=some o/\cM o/\Rc (Oc X ns) h o u/\
 ∀o' u',cM o'->Rc (Oc X ns) h o' u'->Mov (Oc X ns) (Oc X ns) h (h.set n o')/\Sat X h0 ns (e.set i (s.re u')) ae (h.set n o')/\Stp ns e h ns (e.set i (s.re u')) (h.set n o'):=by
 have hi:=(Qs.mp q).1
 have key:∃n o,ns[i]?=some (some n)/\ae[i]?=some (some (.ref n))/\h[n]?=some o/\cM o/\Rc (Oc X ns) h o u/\s.mt=true/\(∀o' u',cM o'->Rc (Oc X ns) (h.set n o') o' u'->SlR (Oc X ns) h0 (some (some n)) (some (some (.ref n))) (h.set n o') (s.re u')):=by
  have y:=S.sl i s q
  cases s with
  |ow v=>cases hm;obtain⟨n,o,q1,q2,q3,q4,q5,q6⟩:=y;exact⟨n,o,q1,q2,q4,q5,q6,rfl,λo' u' hf r=>⟨n,o',rfl,rfl,q3,bS (bU q4),hf,r⟩⟩
  |mu v=>cases hm;obtain⟨n,o,q1,q2,q4,q5,q6⟩:=y;exact⟨n,o,q1,q2,q4,q5,q6,rfl,λo' u' hf r=>⟨n,o',rfl,rfl,bS (bU q4),hf,r⟩⟩
  |_=>cases hm
 obtain⟨n,o,k1,k2,k3,k4,k5,k6,k7⟩:=key
 refine⟨n,o,k2,k3,k4,k5,λo' u' hf r=>?_⟩
 have mv:Mov (Oc X ns) (Oc X ns) h (h.set n o'):=λm ob p q'=>⟨p,by
  have:m≠n:=λz=>p.2 (bp.mpr ⟨i,by rw[z];exact k1⟩)
  rw[br this];exact q'⟩
 refine⟨mv,⟨by rw[QH];exact S.l1,by rw[QH];exact S.l2,by rw[QH];exact S.lh,λm z=>by rw[QH];exact S.xl m z,S.inj,S.nx,λj s' qj=>?_⟩,?_⟩
 ·rcases bX hi qj with ⟨rfl,rfl⟩ |⟨z,qj'⟩
  ·rw[k1,k2];exact k7 o' u' hf (r.mono mv)
  ·refine (S.sl j s' qj').mono mv λm ob qm qo=>?_
   have:m≠n:=λy=>by subst y;exact z (S.inj j i m qm k1)
   rw[br this];exact qo
 ·refine⟨by rw[QH];exact Qu _,λm ob qm hM=>?_,λ_ _ q=>.inl q,λj s' qj hl=>?_,λj s' qj hl=>?_,λj v qj=>?_,λj v qj=>?_⟩
  ·have:m≠n:=λy=>by subst y;exact hM ⟨i,s,k1,q,k6⟩
   rw[br this];exact qm
  ·have z:j≠i:=λz=>by subst z;rw[q] at qj;cases qj;cases s <;> first |cases hl;done |cases k6;done
   rw[br z];exact⟨qj,rfl⟩
  ·rcases bX hi qj with ⟨_,y⟩ |⟨z,qj'⟩
   ·subst y;cases s <;> first |cases hl;done |cases k6;done
   ·exact⟨qj',rfl⟩
  ·rcases bX hi qj with ⟨rfl,y⟩ |⟨z,qj'⟩
   ·cases s with
    |mu w=>exact⟨w,q,rfl⟩
    |ow w=>cases y
    |_=>cases k6
   ·exact⟨v,qj',rfl⟩
  ·by_cases z:j=i
   ·subst z;rw[q] at qj;cases qj;exact⟨u',bS hi,rfl⟩
   ·exact⟨v,by rw[br z];exact qj,rfl⟩
end
def yN(w2:D->D->D->AH->R Unit)(w3:Val->Val->Val->Option Val):Prop:=∀P h n o u di vi d v u',¬ P n->h[n]?=some o->cM o->Rc P h o u->ShR P h di vi->Rd P h d v->w3 u vi v=some u'->∃o',w2 (.ref n) di d h=.ok () (h.set n o')/\cM o'/\Rc P h o' u'
def wSet(i:Nat)(G:ME3)(F:ME3)(w:Val->Val->Val->Option Val):MS3:=λe=>(F e).toS λt e1=>match (e1[i]?).bind Sl.mv with
 |none=>.stuck
 |some _=>(G e1).toS λt2 e2=>match rs e2 t2 with
  |none=>.stuck
  |some vi=>match dG e2 t.drop with
   |none=>.stuck
   |some (e3,v)=>match e3[i]? with
    |none=>.stuck
    |some s=>match s.mv with
     |none=>.stuck
     |some u=>match w u vi v with
      |some u'=>.nx (e3.set i (s.re u'))
      |none=>.stuck
def RM(m2:D->List D->AH->R D)(m3:Val->List Val->Option (Val×Val)):Prop:=∀P h n o u ds vs u' v,h[n]?=some o->cM o->Rc P h o u->Rds P h ds vs->m3 u vs=some (u',v)->l7 h (.ref n)=true/\∃o' d,m2 (.ref n) ds h=.ok d (h.set n o')/\cM o'/\Rc P h o' u'/\Rd P h d v
def kO:Val->Bool
 |.lst _=>true
 |_=>false
def n6(i:Nat)(m:Val->List Val->Option (Val×Val))(A:MA3):ME3:=λe=>match e[i]? with
 |some s=>if (s.mv.map kO)=some true then (A e).bind λts e1=>match dem e1 ts with
  |some (e2,vs)=>match e2[i]? with
   |some s2=>match s2.mv with
    |some u=>match m u vs with
     |some (u',v)=>.ok (.val v) (e2.set i (s2.re u'))
     |none=>.stuck
    |none=>.stuck
   |none=>.stuck
  |none=>.stuck else .stuck
 |none=>.stuck
section
variable{F G:ME}{F3 G3:ME3}{A:MA}{A3:MA3}
def G1{X:Nat->Prop}{h0:Nat}{ns:Ns}{e:E3}{ae:AE}{h:AH}(S:Sat X h0 ns e ae h){i:Nat}{u:Val}(q:(e[i]?).bind Sl.mv=some u):∃n o,ae[i]?=some (some (.ref n))/\h[n]?=some o/\cM o/\Rc (Oc X ns) h o u:=by
 obtain⟨s,q1,q2⟩:=Q1.mp q
 obtain⟨n,o,k1,k2,k3,k4,_⟩:=S.write q1 q2
 exact⟨n,o,k1,k2,k3,k4⟩
def Ll(i:Nat)(hw:yN w2 w3)(hG:RE G G3)(hF:RE F F3):RS (iJ F (gS (ba i) G w2)) (wSet i G3 F3 w3):=λX h0 ns e ae h S=>PoS.toS (hF X h0 0 ns e ae h S (Q0 _)) λd t h1 ns1 e1 a1 S1 r1=>by
 try dsimp only
 cases qm:(e1[i]?).bind Sl.mv with
 |none=>trivial
 |
  some u0=>
  obtain⟨n0,o0,b1,b2,b3,b4⟩:=G1 S1 qm
  have L2e:∀h',(gS (ba i) G w2 d ae h').toS ae (λbe h2=>SR.nx be h2)=(G ae h').toS ae λdi h2=>(w2 (.ref n0) di d h2).toS ae λ_ h3=>.nx ae h3:=λh'=>by
   unfold gS ba
   rw[b1]
   simp only[hZ]
   cases G ae h' with
   |
    ok di h2=>
    simp only[hZ]
    show _=(w2 (.ref n0) di d h2).toS ae λ_ h3=>.nx ae h3
    cases w2 (.ref n0) di d h2 <;> rfl
   |exc c h2=>rfl
   |stuck=>rfl
  rw[L2e]
  refine PoS.after S a1 (PoS.toS (hG X h0 0 ns1 e1 ae h1 S1 (Q0 _)) λdi t2 h2 dL e2 a2 S2 r2=>?_)
  try dsimp only
  cases qi:rs e2 t2 with
  |none=>trivial
  |
   some vi=>
   try dsimp only
   cases qd:dG e2 t.drop with
   |none=>trivial
   |
    some w=>
    obtain⟨e3,v⟩:=w
    try dsimp only
    obtain⟨r1',hn⟩:=r1.drop
    have r3:=r1'.stp S1 a2 hn
    have si:=r2.sh S2 qi
    obtain⟨ns3,S3,a3,r4⟩:=gY S2 r3 qd
    have si3:ShR (Oc X ns3) h2 di vi:=by
     rcases si with z |⟨n,o,z1,z2,z3⟩
     ·exact .inl (z.mono (a3.mov S2))
     ·exact .inr ⟨n,o,z1,z2,z3.mono (a3.mov S2)⟩
    cases q3:e3[i]? with
    |none=>trivial
    |
     some s=>
     try dsimp only
     cases q4:s.mv with
     |none=>trivial
     |
      some u=>
      try dsimp only
      cases q5:w3 u vi v with
      |none=>trivial
      |
       some u'=>
       obtain⟨n,o,k1,k2,k3,k4,k5⟩:=S3.write q3 q4
       rw[b1] at k1;cases k1
       have nP:¬ Oc X ns3 n0:=λp=>by
        have z1:=((k5 (.lst []) (.lst []) trivial (.lst .nil)).1 _ _ p k2).2
        have z2:=((k5 (.lst [.non]) (.lst [.non]) trivial (.lst (.cons .non .nil))).1 _ _ p k2).2
        rw[bS (bU k2)] at z1 z2
        rw[<- z2] at z1
        cases z1
       obtain⟨o',p1,p2,p3⟩:=hw _ _ _ _ _ _ _ _ _ _ nP k2 k3 k4 si3 r4 q5
       obtain⟨mv,S4,a4⟩:=k5 o' u' p2 p3
       rw[p1]
       exact .nx ((a2.trans S1 a3).trans S1 a4) S4
def Bo(i:Nat)(hm:RM m2 m3)(hA:RA A A3):RE (eM m2 (ba i) A) (n6 i m3 A3):=λX h0 L ns e ae h S hl=>by
 unfold n6
 cases q0:e[i]? with
 |none=>trivial
 |
  some s0=>
  dsimp only
  split
  ·rename_i hz
   obtain⟨u0,z1,z2⟩:=QS.mp hz
   obtain⟨n0,o0,b1,b2,b3,b4,_⟩:=S.write q0 z1
   have hL:l7 h (.ref n0)=true:=by
    cases u0 with
    |lst xs=>obtain⟨ds,_,e1,_⟩:=Rc.seq b2 b4;show (bq h n0).isSome=true;rw[e1];rfl
    |_=>cases z2
   have L2e:eM m2 (ba i) A ae h=(A ae h).bind λds h2=>m2 (.ref n0) ds h2:=by
    unfold eM ba
    rw[b1]
    simp only[hZ,hL,RR]
   rw[L2e]
   refine Po.bind S (hA X h0 ns e ae h S) λds ts h1 ns1 e1 a1 S1 r1=>?_
   try dsimp only
   cases q1:dem e1 ts with
   |none=>trivial
   |
    some w=>
    obtain⟨e2,vs⟩:=w
    try dsimp only
    obtain⟨dL,S2,a2,r2⟩:=jh S1 r1 q1
    cases q2:e2[i]? with
    |none=>trivial
    |
     some s2=>
     try dsimp only
     cases q3:s2.mv with
     |none=>trivial
     |
      some u=>
      try dsimp only
      cases q4:m3 u vs with
      |none=>trivial
      |
       some w=>
       obtain⟨u',v⟩:=w
       obtain⟨n,o,k1,k2,k3,k4,k5⟩:=S2.write q2 q3
       rw[b1] at k1;cases k1
       obtain⟨_,o',d,p1,p2,p3,p4⟩:=hm _ _ _ _ _ _ _ _ _ k2 k3 k4 r2 q4
       obtain⟨mv,S4,a4⟩:=k5 o' u' p2 p3
       exact⟨d,_,dL,p1,a2.trans S1 a4,S4,p4.mono mv⟩
  ·trivial
def Fg(i:Nat)(hm:RM m2 m3):RE (eM0 m2 (ba i)) (n6 i m3 rb):=by
 have:=Bo i hm zB
 intro X h0 L ns e ae h S hl
 have p:=this X h0 L ns e ae h S hl
 have e1:eM m2 (ba i) fK ae h=eM0 m2 (ba i) ae h:=by
  unfold eM eM0 fK
  rfl
 rw[e1] at p
 exact p
end
noncomputable def kZ:Sl->Sl
 |.ow v=>.lo v
 |.mu v=>.lm v
 |s=>s
noncomputable def m9:Sl->Sl
 |.lo v=>.ow v
 |.lm v=>.mu v
 |s=>s
def lock(e:E3)(k:Nat):E3:=match e[k]? with
 |some s=>e.set k (kZ s)
 |none=>e
def unlock(e:E3)(k:Nat):E3:=match e[k]? with
 |some s=>e.set k (m9 s)
 |none=>e
def lockO(e:E3):Option Nat->E3
 |some k=>lock e k
 |none=>e
def gn(e:E3):Option Nat->E3
 |some k=>unlock e k
 |none=>e
section
variable{X:Nat->Prop}{h0 L:Nat}{ns ns1 ns':Ns}{e e1 e':E3}{ae be:AE}{h h1 h':AH}
def SlR.lock(r:SlR P h0 n d h s):SlR P h0 n d h (kZ s):=by cases s <;> exact r
def SlR.unlock(r:SlR P h0 n d h s):SlR P h0 n d h (m9 s):=by cases s <;> exact r
def Sat.lock(S:Sat X h0 ns e ae h)(k:Nat):Sat X h0 ns (lock e k) ae h:=by
 unfold L3.lock
 split
 ·rename_i s q
  have hi:=(Qs.mp q).1
  refine⟨by rw[QH];exact S.l1,by rw[QH];exact S.l2,S.lh,S.xl,S.inj,S.nx,λj s' qj=>?_⟩
  rcases bX hi qj with ⟨rfl,rfl⟩ |⟨z,qj'⟩
  ·exact (S.sl j s q).lock
  ·exact S.sl j s' qj'
 ·exact S
def Sat.unlock(S:Sat X h0 ns e ae h)(k:Nat):Sat X h0 ns (unlock e k) ae h:=by
 unfold L3.unlock
 split
 ·rename_i s q
  have hi:=(Qs.mp q).1
  refine⟨by rw[QH];exact S.l1,by rw[QH];exact S.l2,S.lh,S.xl,S.inj,S.nx,λj s' qj=>?_⟩
  rcases bX hi qj with ⟨rfl,rfl⟩ |⟨z,qj'⟩
  ·exact (S.sl j s q).unlock
  ·exact S.sl j s' qj'
 ·exact S
def kz(z:j≠k):(lock e k)[j]?=e[j]?:=by
 unfold lock;split
 ·rw[br z]
 ·rfl
def iC(z:j≠k):(unlock e k)[j]?=e[j]?:=by
 unfold unlock;split
 ·rw[br z]
 ·rfl
def qN(q:e[k]?=some s):(lock e k)[k]?=some (kZ s):=by
 unfold lock;rw[q];exact bS (Qs.mp q).1
def jT(q:e[k]?=some s):(unlock e k)[k]?=some (m9 s):=by
 unfold unlock;rw[q];exact bS (Qs.mp q).1
def Stp.unlock(q:e[k]?=some s)(hs:s.mt=true)(a:Stp ns (L3.lock e k) h ns' e' h'):Stp ns e h ns' (L3.unlock e' k) h':=by
 have hl:(kZ s).lk=true:=by cases s <;> first |rfl |cases hs
 have hu:m9 (kZ s)=s:=by cases s <;> first |rfl |cases hs
 obtain⟨qk,nk⟩:=a.lk k _ (qN q) hl
 refine⟨a.len,λm o qm hM=>a.keep m o qm λ⟨j,s',z1,z2,z3⟩=>hM ?_,a.nw,λj s' qj hj=>?_,λj s' qj hj=>?_,λj v qj=>?_,λj v qj=>?_⟩
 ·by_cases z:j=k
  ·subst z;exact⟨j,s,z1,q,hs⟩
  ·rw[kz z] at z2;exact⟨j,s',z1,z2,z3⟩
 ·have z:j≠k:=λz=>by subst z;rw[q] at qj;cases qj;cases s <;> first |cases hs;done |cases hj;done
  rw[iC z]
  exact a.lk j s' (by rw[kz z];exact qj) hj
 ·have z:j≠k:=λz=>by
   subst z
   rw[jT qk,hu] at qj;cases qj;cases s <;> first |cases hs;done |cases hj;done
  rw[iC z] at qj
  obtain⟨y1,y2⟩:=a.lk' j s' qj hj
  rw[kz z] at y1
  exact⟨y1,y2⟩
 ·by_cases z:j=k
  ·subst z;rw[jT qk,hu] at qj;cases qj;exact⟨v,q,nk⟩
  ·rw[iC z] at qj
   obtain⟨u,y1,y2⟩:=a.mu j v qj
   rw[kz z] at y1
   exact⟨u,y1,y2⟩
 ·by_cases z:j=k
  ·subst z;rw[q] at qj;cases qj;exact⟨v,by rw[jT qk,hu],nk⟩
  ·obtain⟨u,y1,y2⟩:=a.mu' j v (by rw[kz z];exact qj)
   exact⟨u,by rw[iC z];exact y1,y2⟩
end
abbrev MI3:=E3->R3 (List Val×Option Nat)
def Stay(X:Nat->Prop)(ns:Ns)(k:Option Nat)(h h':AH):Prop:=∀(m:Nat) (o:Ob),h[m]?=some o->(Oc X ns m\/∃j:Nat,k=some j/\ns[j]?=some (some m))->h'[m]?=some o
def vt(X:Nat->Prop)(ns:Ns)(e:E3)(h:AH)(it:AIt)(p:List Val×Option Nat):Prop:=
 Rds (Oc X ns) h it.items p.1/\(∀h',Stay X ns p.2 h h'->it.guard h')/\∀k:Nat,p.2=some k->∃s,e[k]?=some s/\s.mt=true
def RI(I:MI)(J:MI3):Prop:=∀X h0 ns e ae h,Sat X h0 ns e ae h->Po X h0 ns e ae h (vt X) (I ae h) (J e)
def jM:Val->Option (List Val)
 |.tup xs=>some xs
 |.lst xs=>some xs
 |_=>none
def fG(t:Tm)(e:E3):Option (List Val×Option Nat):=match t with
 |.val v=>(jM v).map λxs=>(xs,none)
 |.new v=>(jM v).map λxs=>(xs,none)
 |.bor k=>match e[k]? with
  |some (.sh v)=>(jM v).map λxs=>(xs,none)
  |some (.ow (.lst xs))=>some (xs,some k)
  |some (.mu (.lst xs))=>some (xs,some k)
  |_=>none
def ED(F:ME3):MI3:=λe=>(F e).bind λt e1=>match fG t e1 with
 |some p=>.ok p e1
 |none=>.stuck
noncomputable def nW:Nat->List Val->List Val
 |_,[]=>[]
 |i,d::ds=>.tup [.int (i:Nat),d]::nW (i+1) ds
def EE(A:MA3):MI3:=λe=>(A e).bind λts e1=>match ts with
 | [t]=>(match fG t e1 with
  |some p=>.ok (nW 0 p.1,p.2) e1
  |none=>.stuck)
 |_=>.stuck
def Ej(A:MA3):MI3:=λe=>(A e).bind λts e1=>match ts with
 | [t,u]=>(match fG t e1,fG u e1 with
  |some (xs,k),some (ys,none)=>.ok (List.zipWith (λx y=>.tup [x,y]) xs ys,k) e1
  |_,_=>.stuck)
 |_=>.stuck
def zb(lo:Int)(k:Nat):List Val:=(List.range k).map λi=>Val.int (lo+(i:Nat))
structure RgB(j:Int):Prop where
 lo:-(2^62)<=j
 hi:j<2^62
def jG:List Val->Option (List Val)
 | [.int j]=>@ite _ (RgB j) (Classical.propDecidable _) (some (zb 0 j.toNat)) none
 |_=>none
def D1(f:List Val->Option (List Val))(A:MA3):MI3:=λe=>(A e).bind λts e1=>match (rss e1 ts).bind f with
 |some xs=>.ok (xs,none) e1
 |none=>.stuck
section
variable{F:ME}{F3:ME3}{A:MA}{A3:MA3}
def zd(S:Sat X h0 ns e ae h)(r:Rd (Oc X ns) h d v)(q:jM v=some xs):∃it,ig d h=some it/\vt X ns e h it (xs,none):=by
 cases v with
 |
  tup ys=>
  cases q
  obtain⟨ds,rfl,r2⟩:=ShR.tup (.inl r)
  exact⟨_,rfl,r2,λ_ _=>trivial,λ_ z=>nomatch z⟩
 |
  lst ys=>
  cases q
  cases r with
  |
   cell p eo rc=>
   rename_i n o
   obtain⟨ds,_,e1,r1⟩:=Rc.seq eo rc
   refine⟨.lst n ds,by unfold ig;dsimp only;rw[e1];rfl,r1,λh' st=>?_,λ_ z=>nomatch z⟩
   show bq h' n=some ds
   have:=st n o eo (.inl p)
   unfold bq at e1 ⊢
   rw[eo] at e1
   rw[this];exact e1
 |_=>cases q
def pX(S:Sat X h0 ns e ae h)(r:relE X h0 L ae ns e h d t)(q:fG t e=some p):∃it,ig d h=some it/\vt X ns e h it p:=by
 cases t with
 |val v=>obtain⟨xs,q1,rfl⟩:=QS.mp q;exact zd S r q1
 |new v=>obtain⟨xs,q1,rfl⟩:=QS.mp q;exact zd S r.new q1
 |
  bor k=>
  have r':ae[k]?=some (some d):=r
  have own:∀{s xs},e[k]?=some s->s.mv=some (.lst xs)->∃it,ig d h=some it/\vt X ns e h it (xs,some k):=λ{s xs} q qm=>by
   have hns:∃n,ns[k]?=some (some n)/\ae[k]?=some (some (.ref n)):=by
    have y:=S.sl k s q
    cases s with
    |ow v=>obtain⟨n,o,y1,y2,_⟩:=y;exact⟨n,y1,y2⟩
    |mu v=>obtain⟨n,o,y1,y2,_⟩:=y;exact⟨n,y1,y2⟩
    |_=>cases qm
   obtain⟨n,y1,y2⟩:=hns
   obtain⟨n',o,k1,k2,k3,k4,_⟩:=S.write q qm
   rw[y2] at k1;cases k1
   rw[r'] at y2;cases y2
   obtain⟨ds,_,e2,r2⟩:=Rc.seq k2 k4
   refine⟨.lst n ds,by unfold ig;dsimp only;rw[e2];rfl,r2,λh' st=>?_,λj z=>?_⟩
   ·show bq h' n=some ds
    have:=st n o k2 (.inr ⟨k,rfl,y1⟩)
    unfold bq at e2 ⊢
    rw[k2] at e2
    rw[this];exact e2
   ·cases z;exact⟨s,q,by cases s <;> first |rfl |cases qm⟩
  unfold fG at q
  dsimp only at q
  split at q
  ·rename_i v qs
   obtain⟨_,x,e2,r2⟩:=S.sl k _ qs
   rw[r'] at e2;cases e2
   obtain⟨xs,q1,rfl⟩:=QS.mp q
   exact zd S r2 q1
  ·rename_i xs qs;cases q;exact own qs rfl
  ·rename_i xs qs;cases q;exact own qs rfl
  ·cases q
def CJ(d:D)(h:AH):R AIt:=match d with
 |.tup xs=>.ok (.tup xs) h
 |.ref n=>match bq h n with
  |some xs=>.ok (.lst n xs) h
  |none=>.stuck
 |_=>.stuck
def Gn(q:ig d h=some it):CJ d h=.ok it h:=by
 cases d with
 |tup xs=>cases q;rfl
 |
  ref n=>
  obtain⟨xs,y1,rfl⟩:=QS.mp (show (bq h n).map (AIt.lst n)=some it from q)
  unfold CJ;dsimp only;rw[y1]
 |_=>cases q
def Lr(hF:RE F F3):RI (C8 F) (ED F3):=λX h0 ns e ae h S=>
 Po.bind S (hF X h0 0 ns e ae h S (Q0 _)) λd t h1 ns1 e1 a1 S1 r1=>by
  show Po X h0 ns1 e1 ae h1 (vt X) (CJ d h1) _
  cases q:fG t e1 with
  |none=>trivial
  |
   some p=>
   dsimp only
   obtain⟨it,q1,q2⟩:=pX S1 r1 q
   exact⟨it,h1,ns1,Gn q1,.refl,S1,q2⟩
def Ga(k:Nat)(r:Rds P h ds vs):Rds P h (iL k ds) (nW k vs):=
 r.ind (M:=λds vs=>∀k,Rds P h (iL k ds) (nW k vs)) (λ_=>.nil) (λr _ ih k=>.cons (.tup (.cons (.int _) (.cons r .nil))) (ih (k+1))) k
def GU(r:Rds P h ds vs)(q:Rds P h es us):Rds P h (List.zipWith (λx y=>D.tup [x,y]) ds es) (List.zipWith (λx y=>Val.tup [x,y]) vs us):=
 r.ind (M:=λds vs=>∀{es:List D}{us:List Val},Rds P h es us->Rds P h (List.zipWith (λx y=>D.tup [x,y]) ds es) (List.zipWith (λx y=>Val.tup [x,y]) vs us)) (λ_=>.nil) (λr _ ih _ _ q=>by
  cases q with
  |nil=>exact .nil
  |cons q qq=>exact .cons (.tup (.cons r (.cons q .nil))) (ih qq)) q
def BC(r:TsR X ns ae h ds [t]):∃d,ds=[d]/\relE X h0 0 ae ns e h d t:=by
 cases r with
 |val r rr=>cases rr;exact⟨_,rfl,r⟩
 |bor r rr=>cases rr;exact⟨_,rfl,r⟩
def tsr2(r:TsR X ns ae h ds [t,u]):∃d d',ds=[d,d']/\relE X h0 0 ae ns e h d t/\relE X h0 0 ae ns e h d' u:=by
 cases r with
 |val r rr=>obtain⟨d',rfl,r'⟩:=BC (h0:=h0) (e:=e) rr;exact⟨_,_,rfl,r,r'⟩
 |bor r rr=>obtain⟨d',rfl,r'⟩:=BC (h0:=h0) (e:=e) rr;exact⟨_,_,rfl,r,r'⟩
def JC(hA:RA A A3):RI (Cs A) (EE A3):=λX h0 ns e ae h S=>
 Po.bind S (hA X h0 ns e ae h S) λds ts h1 ns1 e1 a1 S1 r1=>by
  match ts,r1 with
  | [],_=>trivial
  |_::_::_,_=>trivial
  |
   [t],r1=>
   obtain⟨d,rfl,r2⟩:=BC (h0:=h0) (e:=e1) r1
   dsimp only
   cases q:fG t e1 with
   |none=>trivial
   |
    some p=>
    obtain⟨it,q1,q2,q3,q4⟩:=pX S1 r2 q
    rw[q1]
    exact⟨.enm it,h1,ns1,rfl,.refl,S1,Ga 0 q2,q3,q4⟩
def HZ(hA:RA A A3):RI (CG A) (Ej A3):=λX h0 ns e ae h S=>
 Po.bind
  S (hA X h0 ns e ae h S) λds ts h1 ns1 e1 a1 S1 r1=>by
  match ts,r1 with
  | [],_=>trivial
  | [_],_=>trivial
  |_::_::_::_,_=>trivial
  |
   [t,u],r1=>
   obtain⟨d,d',rfl,r2,r3⟩:=tsr2 (h0:=h0) (e:=e1) r1
   dsimp only
   cases q:fG t e1 with
   |none=>trivial
   |
    some p=>
    obtain⟨xs,k⟩:=p
    cases q':fG u e1 with
    |none=>trivial
    |
     some p'=>
     obtain⟨ys,k'⟩:=p'
     cases k' with
     |some _=>trivial
     |
      none=>
      obtain⟨it,q1,q2,q3,q4⟩:=pX S1 r2 q
      obtain⟨it',q1',q2',q3',q4'⟩:=pX S1 r3 q'
      rw[q1,q1']
      exact⟨.zip it it',h1,ns1,rfl,.refl,S1,GU q2 q2',λh' st=>⟨q3 h' st,q3' h' λm o hm hc=>st m o hm (hc.elim .inl λ⟨_,z,_⟩=>nomatch z)⟩,q4⟩
def FP(lo:Int)(k:Nat):Rds P h (AIt.rng lo k).items (zb lo k):=by
 show Rds P h ((List.range k).map λi=>D.int (lo+(i:Nat))) ((List.range k).map λi=>Val.int (lo+(i:Nat)))
 generalize List.range k=l
 induction l with
 |nil=>exact .nil
 |cons i l ih=>exact .cons (.int _) ih
def jc(r:ShRs P h ds [v]):∃d,ds=[d]/\ShR P h d v:=by
 cases r with |cons r rr=>cases rr;exact⟨_,rfl,r⟩
def yZ(r:ShRs P h ds [v,u]):∃d d',ds=[d,d']/\ShR P h d v/\ShR P h d' u:=by
 cases r with |cons r rr=>cases rr with |cons r' rr=>cases rr;exact⟨_,_,rfl,r,r'⟩
def ND(hf:∀P h ds vs xs,ShRs P h ds vs->f3 vs=some xs->∃lo k,f2 ds h=.ok (.rng lo k) h/\xs=zb lo k)(hA:RA A A3):RI (λae h=>(A ae h).bind f2) (D1 f3 A3):=λX h0 ns e ae h S=>
 Po.bind S (hA X h0 ns e ae h S) λds ts h1 ns1 e1 a1 S1 r1=>by
  try dsimp only
  split
  ·rename_i xs q
   obtain⟨vs,q1,q2⟩:=Q1.mp q
   obtain⟨lo,k,p1,rfl⟩:=hf _ _ _ _ _ (TsR.sh S1 r1 q1) q2
   rw[p1]
   exact Po.ret S1 ⟨FP _ _,λ_ _=>trivial,λ_ z=>nomatch z⟩
  ·trivial
def IQ(hA:RA A A3):RI (DY A) (D1 jG A3):=ND (f2:=λds h1=>match ds with
 | [.int j]=>if -(2^62)<=j/\j<2^62 then .ok (.rng 0 j.toNat) h1 else .stuck
 |
  _=>.stuck) (λP h ds vs xs r q=>by
  unfold jG at q
  split at q
  ·split at q
   ·rename_i hb
    cases q
    obtain⟨d,rfl,r2⟩:=jc r
    obtain rfl:=r2.int
    exact⟨_,_,by dsimp only;rw[if_pos ⟨hb.lo,hb.hi⟩],rfl⟩
   ·cases q
  ·cases q) hA
end
def SR3.loop(r:SR3)(f:E3->SR3):SR3:=match r with
 |.nx e=>f e
 |.ct e=>f e
 |.bk e=>.nx e
 |.rt d e=>.rt d e
 |.exc c e=>.exc c e
 |.stuck=>.stuck
def fg(g:MG3)(B:MS3):List Val->MS3
 | [],e=>.nx e
 |v::vs,e=>match g v e with
  |some e1=>(B e1).loop (fg g B vs)
  |none=>.stuck
def SR3.unl(k:Option Nat)(r:SR3):SR3:=match r with
 |.nx e=>.nx (gn e k)
 |.ct e=>.ct (gn e k)
 |.bk e=>.bk (gn e k)
 |.rt d e=>.rt d (gn e k)
 |.exc c e=>.exc c (gn e k)
 |.stuck=>.stuck
def wFor(I:MI3)(g:MG3)(B:MS3):MS3:=λe=>(I e).toS λp e1=>(fg g B p.1 (lockO e1 p.2)).unl p.2
section
variable{I:MI}{I3:MI3}{g:MG}{g3:MG3}{B:MS}{B3:MS3}{c:MT}{c3:MT3}{F:ME}{F3:ME3}
def PoS.loop{X:Nat->Prop}{h0:Nat}{ns:Ns}{e:E3}{ae:AE}{h:AH}{r2:SR}{r3:SR3}{f2:AE->AH->SR}{f3:E3->SR3}(p:PoS X h0 ns e h r2 r3)
 (k:∀be h' ns' e',Stp ns e h ns' e' h'->Sat X h0 ns' e' be h'->PoS X h0 ns e h (f2 be h') (f3 e')):PoS X h0 ns e h (r2.loop f2) (r3.loop f3):=by
 cases r3 with
 |stuck=>trivial
 |nx e'=>obtain⟨be,h',ns',q,q1,q2⟩:=p;rw[q];exact k be h' ns' e' q1 q2
 |ct e'=>obtain⟨be,h',ns',q,q1,q2⟩:=p;rw[q];exact k be h' ns' e' q1 q2
 |bk e'=>obtain⟨be,h',ns',q,q1,q2⟩:=p;rw[q];exact⟨be,h',ns',rfl,q1,q2⟩
 |exc c e'=>obtain⟨be,h',ns',q,q1,q2⟩:=p;rw[q];exact⟨be,h',ns',rfl,q1,q2⟩
 |rt r e'=>obtain⟨d,be,h',ns',q,q1,q2⟩:=p;rw[q];exact⟨d,be,h',ns',rfl,q1,q2⟩
def Gx(S:Sat X h0 ns e ae h)(hk:∀j:Nat,k=some j->∃s,e[j]?=some s/\s.mt=true)(a:Stp ns (lockO e k) h ns' e' h'):Stay X ns k h h':=λm o q hm=>by
 refine a.keep m o q λ⟨i,s,z1,z2,z3⟩=>?_
 rcases hm with hm |⟨j,rfl,hj⟩
 ·exact hm.2 (bp.mpr ⟨i,z1⟩)
 ·have:i=j:=S.inj i j m z1 hj
  subst this
  obtain⟨s',y1,y2⟩:=hk i rfl
  have:(lockO e (some i))[i]?=some (kZ s'):=qN y1
  rw[this] at z2;cases z2
  cases s' <;> first |cases y2;done |cases z3;done
def PoS.unl(hk:∀j:Nat,k=some j->∃s,e[j]?=some s/\s.mt=true)(p:PoS X h0 ns (lockO e k) h r2 r3):PoS X h0 ns e h r2 (r3.unl k):=by
 cases k with
 |none=>cases r3 <;> exact p
 |
  some j=>
  obtain⟨s,y1,y2⟩:=hk j rfl
  cases r3 with
  |stuck=>trivial
  |nx e'=>obtain⟨be,h',ns',q,q1,q2⟩:=p;exact⟨be,h',ns',q,q1.unlock y1 y2,q2.unlock j⟩
  |ct e'=>obtain⟨be,h',ns',q,q1,q2⟩:=p;exact⟨be,h',ns',q,q1.unlock y1 y2,q2.unlock j⟩
  |bk e'=>obtain⟨be,h',ns',q,q1,q2⟩:=p;exact⟨be,h',ns',q,q1.unlock y1 y2,q2.unlock j⟩
  |exc c e'=>obtain⟨be,h',ns',q,q1,q2⟩:=p;exact⟨be,h',ns',q,q1.unlock y1 y2,q2.unlock j⟩
  |
   rt r e'=>
   obtain⟨d,be,h',ns',q,q1,q2⟩:=p
   refine⟨d,be,h',ns',q,q1.unlock y1 y2,?_⟩
   cases r with
   |val v=>exact⟨q2.1.unlock j,q2.2⟩
   |new v=>obtain⟨n,o,z1,z2,z3,z4,z5,z6,z7⟩:=q2;exact⟨n,o,z1,z2,z3,z4,z5,z6.unlock j,z7⟩
   |
    par i=>
    obtain⟨z1,z2,v,z3⟩:=q2
    refine⟨z1.unlock j,z2,v,?_⟩
    by_cases z:i=j
    ·subst z;exact jT z3
    ·exact (iC z).trans z3
def Sat.lockO(S:Sat X h0 ns e ae h)(k:Option Nat):Sat X h0 ns (lockO e k) ae h:=by
 cases k with
 |none=>exact S
 |some k=>exact S.lock k
def FA{X:Nat->Prop}{h0:Nat}{ns:Ns}{e:E3}{ae:AE}{h:AH}{G:AH->Prop}(S:Sat X h0 ns e ae h)(hg:RG g g3)(hB:RS B B3)(hG:∀ns' e' h',Stp ns e h ns' e' h'->G h'):
 ∀{ds:List D}{vs:List Val},Rds (Oc X ns) h ds vs->∀{ns1:Ns}{e1:E3}{ae1:AE}{h1:AH},Stp ns e h ns1 e1 h1->Sat X h0 ns1 e1 ae1 h1->PoS X h0 ns e h (ia G g B ds ae1 h1) (fg g3 B3 vs e1):=by
 intro ds
 induction ds with
 |
  nil=>
  intro vs r ns1 e1 ae1 h1 a1 S1
  cases r
  unfold ia
  rw[if_pos (hG _ _ _ a1)]
  exact .nx a1 S1
 |
  cons d0 ds ih=>
  intro vs r ns1 e1 ae1 h1 a1 S1
  cases r with
  |
   cons r rr=>
   unfold ia fg
   rw[if_pos (hG _ _ _ a1)]
   split
   ·rename_i e2 q
    obtain⟨ae2,dL,p2,S2,a2⟩:=hg _ _ _ _ _ _ _ _ _ S1 (r.mono (a1.mov S)) q
    rw[p2]
    have a12:=a1.trans S a2
    show PoS X h0 ns e h ((B ae2 h1).loop _) _
    refine PoS.loop (ae:=ae) (PoS.after S a12 (hB X h0 dL e2 ae2 h1 S2)) λae3 h3 ns3 e3 a3 S3=>ih rr a3 S3
   ·trivial
def Ip(hI:RI I I3)(hg:RG g g3)(hB:RS B B3):RS (qF I g B) (wFor I3 g3 B3):=λX h0 ns e ae h S=>PoS.toS (hI X h0 ns e ae h S) λit p h1 ns1 e1 a1 S1 r1=>by
 obtain⟨r2,gd,hk⟩:=r1
 refine PoS.after S a1 (PoS.unl hk ?_)
 have S2:=S1.lockO p.2
 exact FA S2 hg hB (λns' e' h' a=>gd h' (Gx S1 hk a)) r2 .refl S2
def whV(c:MT3)(B:MS3):Nat->MS3
 |0,_=>.stuck
 |k+1,e=>(c e).toS λb e1=>if b=true then (B e1).loop (whV c B k) else .nx e1
open Classical in
def wWh(c:MT3)(B:MS3):MS3:=λe=>if q:∃k,whV c B k e ≠ .stuck then whV c B q.choose e else .stuck
theorem nU{c:MT3}{B:MS3}:∀{k:Nat}{e:E3},whV c B k e ≠ .stuck->whV c B (k+1) e=whV c B k e
 |0,_,q=>absurd rfl q
 |
  k+1,e,q=>by
  have e1:whV c B (k+2) e=(c e).toS λb e1=>if b=true then (B e1).loop (whV c B (k+1)) else .nx e1:=rfl
  have e2:whV c B (k+1) e=(c e).toS λb e1=>if b=true then (B e1).loop (whV c B k) else .nx e1:=rfl
  rw[e2] at q
  rw[e1,e2]
  cases r:c e with
  |exc _ _=>rfl
  |stuck=>rfl
  |
   ok b h1=>
   rw[r] at q
   cases b with
   |false=>rfl
   |
    true=>
    have q':(B h1).loop (whV c B k) ≠ .stuck:=q
    show (B h1).loop (whV c B (k+1))=(B h1).loop (whV c B k)
    cases s:B h1 with
    |nx a2=>rw[s] at q';exact nU q'
    |ct a2=>rw[s] at q';exact nU q'
    |_=>rfl
def Aw{c:MT3}{B:MS3}{k j:Nat}{e:E3}(q:whV c B k e ≠ .stuck)(hj:k<=j):whV c B j e=whV c B k e:=by
 induction hj with
 |refl=>rfl
 |step _ ih=>rw[nU (by rw[ih];exact q),ih]
def pI{c:MT3}{B:MS3}{k:Nat}{e:E3}(q:whV c B k e ≠ .stuck):wWh c B e=whV c B k e:=by
 have hq:∃k,whV c B k e ≠ .stuck:=⟨k,q⟩
 unfold wWh
 rw[dif_pos hq]
 rcases Nat.le_total hq.choose k with z |z
 ·exact (Aw hq.choose_spec z).symm
 ·exact Aw q z
def CQ(c:MT3)(B:MS3)(e:E3):wWh c B e=(c e).toS λb e1=>if b=true then (B e1).loop (wWh c B) else .nx e1:=by
 by_cases q:∃k,whV c B k e ≠ .stuck
 ·obtain⟨k,q⟩:=q
  rw[pI q]
  cases k with
  |zero=>exact absurd rfl q
  |
   succ k=>
   have e2:whV c B (k+1) e=(c e).toS λb e1=>if b=true then (B e1).loop (whV c B k) else .nx e1:=rfl
   rw[e2] at q ⊢
   cases r:c e with
   |exc _ _=>rfl
   |stuck=>rfl
   |
    ok b h1=>
    rw[r] at q
    cases b with
    |false=>rfl
    |
     true=>
     have q':(B h1).loop (whV c B k) ≠ .stuck:=q
     show (B h1).loop (whV c B k)=(B h1).loop (wWh c B)
     cases s:B h1 with
     |nx a2=>rw[s] at q';exact (pI q').symm
     |ct a2=>rw[s] at q';exact (pI q').symm
     |_=>rfl
 ·have e0:wWh c B e=.stuck:=by unfold wWh;rw[dif_neg q]
  rw[e0]
  have hs:∀k,whV c B (k+1) e=.stuck:=λk=>SU λz=>q ⟨_,z⟩
  cases r:c e with
  |stuck=>rfl
  |
   exc c' h'=>
   have:=hs 0
   unfold whV at this
   rw[r] at this
   cases this
  |
   ok b h1=>
   cases b with
   |
    false=>
    have:=hs 0
    unfold whV at this
    rw[r] at this
    cases this
   |
    true=>
    have h2:∀k,(B h1).loop (whV c B k)=.stuck:=λk=>by
     have:=hs k
     unfold whV at this
     rw[r] at this
     exact this
    show SR3.stuck=(B h1).loop (wWh c B)
    have lim:∀a2,(∀k,whV c B k a2=.stuck)->wWh c B a2=.stuck:=λa2 z=>by
     unfold wWh
     rw[dif_neg (λ⟨k,y⟩=>y (z k))]
    cases s:B h1 with
    |nx a2=>rw[s] at h2;exact (lim a2 h2).symm
    |ct a2=>rw[s] at h2;exact (lim a2 h2).symm
    |stuck=>rfl
    |_=>have:=h2 0;rw[s] at this;cases this
def HB(p:PoS X h0 ns e h r2 r3)(q:r3 ≠ .stuck):r2 ≠ .stuck:=by
 cases r3 with
 |stuck=>exact absurd rfl q
 |nx e'=>obtain⟨be,h',ns',z,_⟩:=p;rw[z];intro y;cases y
 |ct e'=>obtain⟨be,h',ns',z,_⟩:=p;rw[z];intro y;cases y
 |bk e'=>obtain⟨be,h',ns',z,_⟩:=p;rw[z];intro y;cases y
 |exc c e'=>obtain⟨be,h',ns',z,_⟩:=p;rw[z];intro y;cases y
 |rt r e'=>obtain⟨d,be,h',ns',z,_⟩:=p;rw[z];intro y;cases y
theorem Ae(hc:RT c c3)(hB:RS B B3):∀(k:Nat) (X:Nat->Prop) (h0:Nat) (ns:Ns) (e:E3) (ae:AE) (h:AH),Sat X h0 ns e ae h->PoS X h0 ns e h (whN c B k ae h) (whV c3 B3 k e)
 |0,_,_,_,_,_,_,_=>trivial
 |
  k+1,X,h0,ns,e,ae,h,S=>by
  refine PoS.toS (hc X h0 ns e ae h S) λb b' h1 ns1 e1 a1 S1 r1=>?_
  cases r1
  try dsimp only
  split
  ·exact PoS.after S a1 (PoS.loop (ae:=ae) (hB X h0 ns1 e1 ae h1 S1) λae2 h2 dL e2 a2 S2=>PoS.after S1 a2 (Ae hc hB k X h0 dL e2 ae2 h2 S2))
  ·exact .nx a1 S1
def Oo(hc:RT c c3)(hB:RS B B3):RS (sWh c B) (wWh c3 B3):=λX h0 ns e ae h S=>by
 by_cases q:∃k,whV c3 B3 k e ≠ .stuck
 ·obtain⟨k,q⟩:=q
  rw[pI q]
  have p:=Ae hc hB k X h0 ns e ae h S
  rw[AX (HB p q)]
  exact p
 ·unfold wWh;rw[dif_neg q];trivial
end
def gM(o:Option Nat)(s:Sl)(e:E3):E3:=match o,s with
 |some i,.mu v=>(match e[i]? with
  |some t=>e.set i (t.re v)
  |none=>e)
 |_,_=>e
def bN:List (Option Nat)->E3->E3->E3
 |o::sub,s::inner,e=>bN sub inner (gM o s e)
 |_,_,e=>e
def wz(hn:∀v,o=some i->s=.mu v->False):(gM o s e)[i]?=e[i]?:=by
 unfold gM
 split
 ·rename_i i' v
  split
  ·rename_i t q
   by_cases z:i=i'
   ·subst z;exact (hn v rfl rfl).elim
   ·rw[br z]
  ·rfl
 ·rfl
theorem rA:∀{sub:Ud}{e2 e:E3}{i:Nat},(∀(j:Nat) v,sub[j]?=some (some i)->e2[j]?=some (.mu v)->False)->(bN sub e2 e)[i]?=e[i]?
 | [],_,_,_,_=>rfl
 |_::_,[],_,_,_=>rfl
 |
  o::sub,s::e2,e,i,hn=>by
  show (bN sub e2 (gM o s e))[i]?=_
  rw[rA (λj v q1 q2=>hn (j+1) v (by simpa using q1) (by simpa using q2))]
  exact wz λv z1 z2=>hn 0 v (by rw[z1];rfl) (by rw[z2];rfl)
theorem xh:∀{sub:Ud}{e2 e:E3}{i j:Nat}{v:Val},(∀(j k:Nat) i,sub[j]?=some (some i)->sub[k]?=some (some i)->j=k)->sub[j]?=some (some i)->e2[j]?=some (.mu v)->(bN sub e2 e)[i]?=(e[i]?).map (Sl.re · v)
 | [],_,_,_,j,_,_,q,_=>by simp at q
 |_::_,[],_,_,j,_,_,_,q=>by simp at q
 |
  o::sub,s::e2,e,i,0,v,hj,q1,q2=>by
  have z1:o=some i:=by simpa using q1
  have z2:s=.mu v:=by simpa using q2
  subst z1 z2
  show (bN sub e2 (gM (some i) (.mu v) e))[i]?=_
  rw[rA (λk u y1 _=>by have:=hj 0 (k+1) i rfl (by simpa using y1);omega)]
  unfold gM
  dsimp only
  split
  ·rename_i t q;rw[bS (Qs.mp q).1,q];rfl
  ·rename_i q;rw[q];rfl
 |
  o::sub,s::e2,e,i,j+1,v,hj,q1,q2=>by
  show (bN sub e2 (gM o s e))[i]?=_
  have q1':sub[j]?=some (some i):=by simpa using q1
  rw[xh (λa b c y1 y2=>by have:=hj (a+1) (b+1) c (by simpa using y1) (by simpa using y2);omega) q1' (by simpa using q2)]
  rw[wz λv z1 _=>by have:=hj 0 (j+1) i (by rw[z1];rfl) q1;omega]
def cP(sub:Ud)(ns:Ns):Ns:=sub.map λo=>o.bind λi=>(ns[i]?).bind id
def dm{sub:Ud}{ns:Ns}{j n:Nat}(q:(cP sub ns)[j]?=some (some n)):∃i,sub[j]?=some (some i)/\ns[i]?=some (some n):=by
 unfold cP at q
 rw[QM] at q
 cases z:sub[j]? with
 |none=>rw[z] at q;cases q
 |
  some o=>
  rw[z] at q
  cases o with
  |none=>cases q
  |
   some i=>
   refine⟨i,rfl,?_⟩
   have q':(ns[i]?).bind id=some n:=QK q
   cases y:ns[i]? with
   |none=>rw[y] at q';cases q'
   |some w=>rw[y] at q';have:w=some n:=q';rw[this]
def Fo{sub:Ud}{ns:Ns}{j i:Nat}{w:Option Nat}(q:sub[j]?=some (some i))(q2:ns[i]?=some w):(cP sub ns)[j]?=some w:=by
 unfold cP
 rw[QM,q]
 show some ((ns[i]?).bind id)=some w
 rw[q2];rfl
structure Lnk(sub:Ud)(e ei:E3):Prop where
 inj:∀(j k:Nat) (i:Nat),sub[j]?=some (some i)->sub[k]?=some (some i)->j=k
 mu:∀(j:Nat) (v:Val),ei[j]?=some (.mu v)->∃(i:Nat) (s:Sl),sub[j]?=some (some i)/\e[i]?=some s/\s.mt=true
 mt:∀(j:Nat) (s:Sl),ei[j]?=some s->s.mt=true->∃v,s=.mu v
def Sat.back(S:Sat X h0 ns e ae h)(K:Lnk sub e ei)(a:Stp (cP sub ns) ei h dL e2 h2)
 (hY:∀n,Y n->n<h2.length/\(X n\/h.length<=n)) (hXY:∀n,X n->Y n)
 (hc:∀(j:Nat) v n,e2[j]?=some (.mu v)->dL[j]?=some (some n)->∃o,h2[n]?=some o/\cM o/\Rc (Oc Y ns) h2 o v):Sat Y h0 ns (bN sub e2 e) ae h2/\Stp ns e h ns (bN sub e2 e) h2:=by
 have hM:∀n,Mt (cP sub ns) ei n->Mt ns e n:=λn ⟨j,s,z1,z2,z3⟩=>by
  obtain⟨v,rfl⟩:=K.mt j s z2 z3
  obtain⟨i,s',y1,y2,y3⟩:=K.mu j v z2
  obtain⟨i',y4,y5⟩:=dm z1
  rw[y1] at y4;cases y4
  exact⟨i,s',y5,y2,y3⟩
 have mv:Mov (Oc X ns) (Oc Y ns) h h2:=λn o p q=>⟨⟨λz=>by
  rcases (hY n z).2 with z |z
  ·exact p.1 z
  ·have:=bU q;omega,p.2⟩,a.keep n o q λz=>by
   obtain⟨j,s,z1,_⟩:=z
   obtain⟨i,_,y⟩:=dm z1
   exact p.2 (bp.mpr ⟨i,y⟩)⟩
 have key:∀i:Nat,(∃(j:Nat) (v:Val) (s:Sl),sub[j]?=some (some i)/\e2[j]?=some (.mu v)/\e[i]?=some s/\s.mt=true/\(bN sub e2 e)[i]?=some (s.re v)/\dL[j]?=ns[i]?)\/((∀n,ns[i]?=some (some n)->¬ Mt (cP sub ns) ei n)/\(bN sub e2 e)[i]?=e[i]?):=λi=>by
  by_cases hx:∃(j:Nat) (v:Val),sub[j]?=some (some i)/\e2[j]?=some (.mu v)
  ·obtain⟨j,v,q1,q2⟩:=hx
   obtain⟨u,q3,q4⟩:=a.mu j v q2
   obtain⟨i',s,y1,y2,y3⟩:=K.mu j u q3
   rw[q1] at y1;cases y1
   refine .inl ⟨j,v,s,q1,q2,y2,y3,by rw[xh K.inj q1 q2,y2];rfl,?_⟩
   rw[q4]
   have hl:i<ns.length:=by rw[S.l2];exact (Qs.mp y2).1
   rw[QF hl]
   exact Fo q1 (QF hl)
  ·refine .inr ⟨λn q ⟨j,s,z1,z2,z3⟩=>hx ?_,rA λj v y1 y2=>hx ⟨j,v,y1,y2⟩⟩
   obtain⟨v,rfl⟩:=K.mt j s z2 z3
   obtain⟨i',y4,y5⟩:=dm z1
   have:i'=i:=S.inj i' i n y5 q
   subst this
   obtain⟨v',y6,_⟩:=a.mu' j v z2
   exact⟨j,v',y4,y6⟩
 have lenB:(bN sub e2 e).length=e.length:=by
  clear key hc a K S hY hXY hM mv
  induction sub generalizing e2 e with
  |nil=>rfl
  |
   cons o sub ih=>
   cases e2 with
   |nil=>rfl
   |
    cons s e2=>
    show (bN sub e2 (gM o s e)).length=_
    rw[ih]
    unfold gM
    split
    ·split
     ·rw[QH]
     ·rfl
    ·rfl
 refine⟨⟨by rw[lenB];exact S.l1,by rw[lenB];exact S.l2,QI S.lh a.len,λn z=>(hY n z).1,S.inj,λi n q z=>?_,λi s q=>?_⟩,⟨a.len,λm o q hm=>a.keep m o q λz=>hm (hM m z),λ_ _ q=>.inl q,λi s q hl=>?_,λi s q hl=>?_,λi v q=>?_,λi v q=>?_⟩⟩
 ·rcases (hY n z).2 with z |z
  ·exact S.nx i n q z
  ·obtain⟨_,_,_,_,_,_,_,q',_⟩:=S.own q
   have:=bU q';omega
 ·rcases key i with ⟨j,v,s0,k1,k2,k3,k4,k5,k6⟩ |⟨k1,k2⟩
  ·rw[k5] at q;cases q
   have y:=S.sl i s0 k3
   cases s0 with
   |
    ow u=>
    obtain⟨n,o,y1,y2,y3,_⟩:=y
    obtain⟨o',z1,z2,z3⟩:=hc j v n k2 (by rw[k6];exact y1)
    exact⟨n,o',y1,y2,y3,z1,z2,z3⟩
   |
    mu u=>
    obtain⟨n,o,y1,y2,_⟩:=y
    obtain⟨o',z1,z2,z3⟩:=hc j v n k2 (by rw[k6];exact y1)
    exact⟨n,o',y1,y2,z1,z2,z3⟩
   |_=>cases k4
  ·rw[k2] at q
   exact (S.sl i s q).mono mv λn o q1 q2=>a.keep n o q2 (k1 n q1)
 ·rcases key i with ⟨j,v,s0,k1,k2,k3,k4,k5,k6⟩ |⟨k1,k2⟩
  ·rw[k3] at q;cases q;cases s <;> first |cases hl;done |cases k4;done
  ·rw[k2];exact⟨q,rfl⟩
 ·rcases key i with ⟨j,v,s0,k1,k2,k3,k4,k5,k6⟩ |⟨k1,k2⟩
  ·rw[k5] at q;cases q;cases s0 <;> first |cases hl;done |cases k4;done
  ·rw[k2] at q;exact⟨q,rfl⟩
 ·rcases key i with ⟨j,u,s0,k1,k2,k3,k4,k5,k6⟩ |⟨k1,k2⟩
  ·rw[k5] at q
   cases s0 with
   |mu w=>exact⟨w,k3,rfl⟩
   |ow w=>cases q
   |_=>cases k4
  ·rw[k2] at q;exact⟨v,q,rfl⟩
 ·rcases key i with ⟨j,u,s0,k1,k2,k3,k4,k5,k6⟩ |⟨k1,k2⟩
  ·rw[k3] at q;cases q;exact⟨u,k5,rfl⟩
  ·exact⟨v,by rw[k2];exact q,rfl⟩
noncomputable def inS:Sl->Sl
 |.ow v=>.mu v
 |.lo v=>.lm v
 |s=>s
def cA(sub:Ud)(e:E3):E3:=sub.map λo=>match o with
 |none=>.no
 |some i=>match e[i]? with
  |some s=>inS s
  |none=>.no
def lcV(g:MG3)(c:MT3)(F:ME3):List Val->List Val->E3->R3 (List Val)
 | [],acc,e=>.ok acc e
 |v::vs,acc,e=>if acc.length<16777216 then (match g v e with
  |none=>.stuck
  |some e1=>(c e1).bind λb e2=>if b=true then (F e2).bind λt e3=>(match dG e3 t with
   |some (e4,y)=>lcV g c F vs (acc++[y]) e4
   |none=>.stuck) else lcV g c F vs acc e2) else .stuck
def vLC(I:MI3)(sub:Ud)(g:MG3)(c:MT3)(F:ME3):ME3:=λe=>(I e).bind λp e1=>match lcV g c F p.1 [] (cA sub (lockO e1 p.2)) with
 |.ok ys e2=>if ys.length<=16777216 then .ok (.new (.lst ys)) (gn (bN sub e2 (lockO e1 p.2)) p.2) else .stuck
 |_=>.stuck
def pG(sub:Ud):Prop:=∀(j k:Nat) (i:Nat),sub[j]?=some (some i)->sub[k]?=some (some i)->j=k
def zW(h:(sub.filterMap id).Nodup):pG sub:=by
 induction sub with
 |nil=>intro j k i q;simp at q
 |
  cons o sub ih=>
  have ii:(sub.filterMap id).Nodup:=by
   cases o with
   |none=>simpa using h
   |some i=>rw[RQ] at h;simp at h;exact h.2
  have hno:∀(i k:Nat),o=some i->sub[k]?=some (some i)->False:=λi k z q=>by
   subst z
   rw[RQ] at h
   simp at h
   exact h.1 (Q7 q)
  intro j k i q1 q2
  cases j with
  |
   zero=>
   cases k with
   |zero=>rfl
   |succ k=>exact (hno i k (by simpa using q1) (by simpa using q2)).elim
  |
   succ j=>
   cases k with
   |zero=>exact (hno i j (by simpa using q2) (by simpa using q1)).elim
   |succ k=>exact Ru (· + 1) (ih ii j k i (by simpa using q1) (by simpa using q2))
def Xin(X:Nat->Prop)(ns:Ns)(sub:Ud)(n:Nat):Prop:=X n\/(some n∈ns/\some n∉cP sub ns)
def nS(q:some n∈cP sub ns):some n∈ns:=by
 obtain⟨j,q⟩:=bp.mp q
 obtain⟨i,_,q2⟩:=dm q
 exact bp.mpr ⟨i,q2⟩
def kU{sub:Ud}{e:E3}{j:Nat}{s:Sl}(q:(cA sub e)[j]?=some s):(sub[j]?=some none/\s=.no)\/(∃i,sub[j]?=some (some i)/\((e[i]?=none/\s=.no)\/∃t,e[i]?=some t/\s=inS t)):=by
 unfold cA at q
 rw[QM] at q
 cases z:sub[j]? with
 |none=>rw[z] at q;cases q
 |
  some o=>
  rw[z] at q
  cases o with
  |none=>cases q;exact .inl ⟨rfl,rfl⟩
  |
   some i=>
   refine .inr ⟨i,rfl,?_⟩
   have q':=QK q
   dsimp only at q'
   cases y:e[i]? with
   |none=>rw[y] at q';exact .inl ⟨rfl,q'.symm⟩
   |some t=>rw[y] at q';exact .inr ⟨t,rfl,q'.symm⟩
def Sat.inner(S:Sat X h0 ns e ae h)(hs:pG sub):Sat (Xin X ns sub) h0 (cP sub ns) (cA sub e) (kS sub ae) h:=by
 refine⟨by unfold kS cA;rw[Qp,Qp],by unfold cP cA;rw[Qp,Qp],S.lh,λn z=>?_,λj k n q1 q2=>?_,λj n q z=>?_,λj s q=>?_⟩
 ·rcases z with z |⟨z,_⟩
  ·exact S.xl n z
  ·obtain⟨i,z⟩:=bp.mp z
   obtain⟨_,_,_,_,_,_,_,q',_⟩:=S.own z
   exact bU q'
 ·obtain⟨i,y1,y2⟩:=dm q1
  obtain⟨i',y3,y4⟩:=dm q2
  have:=S.inj i i' n y2 y4
  subst this
  exact hs j k i y1 y3
 ·rcases z with z |⟨_,z⟩
  ·obtain⟨i,y1,y2⟩:=dm q
   exact S.nx i n y2 z
  ·exact z (bp.mpr ⟨j,q⟩)
 ·have mv:Mov (Oc X ns) (Oc (Xin X ns sub) (cP sub ns)) h h:=λn o p q=>⟨⟨λz=>by
   rcases z with z |⟨z,_⟩
   ·exact p.1 z
   ·exact p.2 z,λz=>p.2 (nS z)⟩,q⟩
  have hj:∀{o},sub[j]?=some o->(cP sub ns)[j]?=some (o.bind λi=>(ns[i]?).bind id)/\(kS sub ae)[j]?=some (o.bind λi=>(ae[i]?).bind id):=λ{o} z=>by
   unfold cP kS
   rw[QM,QM,z]
   exact⟨rfl,rfl⟩
  rcases kU q with ⟨z,rfl⟩ |⟨i,z,⟨y,rfl⟩ |⟨t,y,rfl⟩⟩
  ·rw[(hj z).1];rfl
  ·rw[(hj z).1]
   show some ((ns[i]?).bind id)=some none
   have:ns[i]?=none:=by
    rw[RH] at y ⊢
    rw[S.l2];exact y
   rw[this];rfl
  ·have k:=(S.sl i t y).mono mv λ_ _ _ q=>q
   rw[(hj z).1,(hj z).2]
   show SlR _ h0 (some ((ns[i]?).bind id)) (some ((ae[i]?).bind id)) h (inS t)
   have w1:∀x,ns[i]?=some x->some ((ns[i]?).bind id)=some x:=λx q=>by rw[q];rfl
   have w2:∀x,ae[i]?=some x->some ((ae[i]?).bind id)=some x:=λx q=>by rw[q];rfl
   cases t with
   |no=>rw[w1 _ k];rfl
   |sh v=>obtain⟨k1,x,k2,k3⟩:=k;rw[w1 _ k1,w2 _ k2];exact⟨rfl,x,rfl,k3⟩
   |ow v=>obtain⟨m,o,k1,k2,_,k3⟩:=k;rw[w1 _ k1,w2 _ k2];exact⟨m,o,rfl,rfl,k3⟩
   |lo v=>obtain⟨m,o,k1,k2,_,k3⟩:=k;rw[w1 _ k1,w2 _ k2];exact⟨m,o,rfl,rfl,k3⟩
   |mu v=>obtain⟨m,o,k1,k2,k3⟩:=k;rw[w1 _ k1,w2 _ k2];exact⟨m,o,rfl,rfl,k3⟩
   |lm v=>obtain⟨m,o,k1,k2,k3⟩:=k;rw[w1 _ k1,w2 _ k2];exact⟨m,o,rfl,rfl,k3⟩
def wM(hs:pG sub):Lnk sub e (cA sub e):=by
 refine⟨hs,λj v q=>?_,λj s q hm=>?_⟩
 ·rcases kU q with ⟨_,z⟩ |⟨i,z,⟨_,y⟩ |⟨t,y,y2⟩⟩
  ·cases z
  ·cases y
  ·refine⟨i,t,z,y,?_⟩
   cases t <;> first |rfl |cases y2
 ·rcases kU q with ⟨_,z⟩ |⟨i,z,⟨_,y⟩ |⟨t,y,y2⟩⟩
  ·subst z;cases hm
  ·subst y;cases hm
  ·subst y2
   cases t with
   |ow v=>exact⟨v,rfl⟩
   |mu v=>exact⟨v,rfl⟩
   |_=>cases hm
section
variable{I:MI}{I3:MI3}{g:MG}{g3:MG3}{c:MT}{c3:MT3}{F:ME}{F3:ME3}
def Ib(S:Sat X h0 ns e ae h)(hg:RG g g3)(hc:RT c c3)(hF:RE F F3)(hG:∀ns' e' h',Stp ns e h ns' e' h'->G h'):
 ∀
  {ds:List D}{vs:List Val},Rds (Oc X ns) h ds vs->∀{acc:List D}{accv:List Val}{ns1:Ns}{e1:E3}{ae1:AE}{h1:AH},Stp ns e h ns1 e1 h1->Sat X h0 ns1 e1 ae1 h1->Rds (Oc X ns1) h1 acc accv->lcV g3 c3 F3 vs accv e1=.ok ys e2->
  ∃dy h2 dL ae2,lcL G g c F ds acc ae1 h1=.ok dy h2/\Stp ns e h dL e2 h2/\Sat X h0 dL e2 ae2 h2/\Rds (Oc X dL) h2 dy ys:=by
 intro ds
 induction ds with
 |
  nil=>
  intro vs r acc accv ns1 e1 ae1 h1 a1 S1 ra q
  cases r
  unfold lcL
  rw[if_pos (hG _ _ _ a1)]
  cases q
  exact⟨acc,h1,ns1,ae1,rfl,a1,S1,ra⟩
 |
  cons d0 ds ih=>
  intro vs r acc accv ns1 e1 ae1 h1 a1 S1 ra q
  cases r with
  |
   cons r rr=>
   rename_i v vs
   unfold lcV at q
   unfold lcL
   by_cases hl:accv.length<16777216
   ·rw[if_pos hl] at q
    rw[if_pos ⟨hG _ _ _ a1,by rw[ra.len];exact hl⟩]
    cases q1:g3 v e1 with
    |none=>rw[q1] at q;cases q
    |
     some e3=>
     rw[q1] at q
     dsimp only at q
     obtain⟨ae3,ns3,p3,S3,a3⟩:=hg _ _ _ _ _ _ _ _ _ S1 (r.mono (a1.mov S)) q1
     rw[p3,hZ]
     have a13:=a1.trans S a3
     have pc:=hc X h0 ns3 e3 ae3 h1 S3
     cases q4:c3 e3 with
     |stuck=>rw[q4] at q;cases q
     |exc _ _=>rw[q4] at q;cases q
     |
      ok b e4=>
      rw[q4] at q pc
      obtain⟨b',h4,ns4,p4,a4,S4,rfl⟩:=pc
      rw[p4,hZ]
      have a14:=a13.trans S a4
      have ra4:=(ra.mono (a3.mov S1)).mono (a4.mov S3)
      have q':(if b'=true then (F3 e4).bind λt e3=>(match dG e3 t with
       |some (e4,y)=>lcV g3 c3 F3 _ (accv++[y]) e4
       |none=>.stuck) else lcV g3 c3 F3 _ accv e4)=.ok ys e2:=q
      by_cases hb:b'=true
      ·rw[if_pos hb] at q' ⊢
       have pF:=hF X h0 0 ns4 e4 ae3 h4 S4 (Q0 _)
       cases q5:F3 e4 with
       |stuck=>rw[q5] at q';cases q'
       |exc _ _=>rw[q5] at q';cases q'
       |
        ok t e5=>
        rw[q5] at q' pF
        obtain⟨d5,h5,ns5,p5,a5,S5,r5⟩:=pF
        rw[p5,hZ]
        have q'':(match dG e5 t with
         |some (e4,y)=>lcV g3 c3 F3 _ (accv++[y]) e4
         |none=>.stuck)=.ok ys e2:=q'
        cases q6:dG e5 t with
        |none=>rw[q6] at q'';cases q''
        |
         some w=>
         obtain⟨e6,y⟩:=w
         rw[q6] at q''
         obtain⟨ns6,S6,a6,r6⟩:=gY S5 r5 q6
         exact ih rr ((a14.trans S a5).trans S a6) S6 (((ra4.mono (a5.mov S4)).mono (a6.mov S5)).append (.cons r6 .nil)) q''
      ·rw[if_neg hb] at q' ⊢
       exact ih rr a14 S4 ra4 q'
   ·rw[if_neg hl] at q;cases q
def Mm(hs:(sub.filterMap id).Nodup)(hI:RI I I3)(hg:RG g g3)(hc:RT c c3)(hF:RE F F3):RE (eLC I sub g c F) (vLC I3 sub g3 c3 F3):=λX h0 L ns e ae h S hl=>
 Po.bind
  S (hI X h0 ns e ae h S) λit p h1 ns1 e1 a1 S1 r1=>by
  try dsimp only
  obtain⟨r2,gd,hk⟩:=r1
  have hs':=zW hs
  have S2:=S1.lockO p.2
  have S3:=S2.inner hs'
  cases q:lcV g3 c3 F3 p.1 [] (cA sub (lockO e1 p.2)) with
  |stuck=>trivial
  |exc _ _=>trivial
  |
   ok ys e2=>
   dsimp only
   split
   ·rename_i hy
    have gd':∀ns' e' h',Stp (cP sub ns1) (cA sub (lockO e1 p.2)) h1 ns' e' h'->it.guard h':=λns' e' h' a=>gd h' λm o qm hm=>a.keep m o qm λ⟨j,s,z1,z2,z3⟩=>by
     obtain⟨i,y1,y2⟩:=dm z1
     rcases hm with hm |⟨k,hk1,hk2⟩
     ·exact hm.2 (bp.mpr ⟨i,y2⟩)
     ·have:i=k:=S1.inj i k m y2 hk2
      subst this
      obtain⟨s',w1,w2⟩:=hk i hk1
      rcases kU z2 with ⟨z,_⟩ |⟨i',z,y⟩
      ·rw[y1] at z;cases z
      ·rw[y1] at z;cases z
       have hl:(lockO e1 p.2)[i]?=some (kZ s'):=by rw[hk1];exact qN w1
       rcases y with ⟨y,_⟩ |⟨t,y,rfl⟩
       ·rw[hl] at y;cases y
       ·rw[hl] at y;cases y
        cases s' <;> first |cases w2;done |cases z3;done
    have mvi:Mov (Oc X ns1) (Oc (Xin X ns1 sub) (cP sub ns1)) h1 h1:=λn o p q=>⟨⟨λz=>by
     rcases z with z |⟨z,_⟩
     ·exact p.1 z
     ·exact p.2 z,λz=>p.2 (nS z)⟩,q⟩
    obtain⟨dy,h2,dL,ae2,p2,a2,S4,r4⟩:=Ib (G:=it.guard) S3 hg hc hF gd' (r2.mono mvi) .refl S3 .nil q
    have k3:∀n,Oc (Xin X ns1 sub) dL n->Oc X ns1 n:=λn z=>⟨λy=>z.1 (.inl y),λy=>by
     by_cases w:some n∈cP sub ns1
     ·obtain⟨j,w⟩:=bp.mp w
      obtain⟨s,v,o,b1,b2,_⟩:=S3.own w
      rcases b2 with b2 |b2
      ·obtain⟨v',rfl⟩:=(wM (e:=lockO e1 p.2) hs').mt j s b1 b2
       obtain⟨u,c1,c2⟩:=a2.mu' j v' b1
       exact z.2 (bp.mpr ⟨j,by rw[c2];exact w⟩)
      ·obtain⟨c1,c2⟩:=a2.lk j s b1 b2
       exact z.2 (bp.mpr ⟨j,by rw[c2];exact w⟩)
     ·exact z.1 (.inr ⟨y,w⟩)⟩
    have bk:=S2.back (Y:=X) (wM hs') a2 (λn z=>⟨QL (S2.xl n z) a2.len,.inl z⟩) (λ_ z=>z) λj v n q1 q2=>by
     obtain⟨s,u,o,b1,b2,b3,b4,b5,b6,b7⟩:=S4.own q2
     rw[q1] at b1;cases b1
     cases b3
     exact⟨o,b5,b6,b7.mono λm o' z y=>⟨k3 m z,y⟩⟩
    obtain⟨S5,a5⟩:=bk
    have r5:Rds (Oc X ns1) h2 dy ys:=r4.mono λm o' z y=>⟨k3 m z,y⟩
    have im:∀(e':E3),Sat X h0 ns1 e' ae h2->Stp ns1 e1 h1 ns1 e' h2->Po X h0 ns1 e1 ae h1 (relE X h0 L ae) ((noX (lcL it.guard g c F it.items [] (kS sub ae) h1)).bind cE) (.ok (.new (.lst ys)) e'):=λe' S6 a6=>by
     rw[p2]
     have pp:=BvR.po (L:=L) (r:=cE dy h2) (b:=.new (.lst ys)) S6 (QI hl (QI a1.len a6.len)) ⟨.lst dy,by unfold cE;rw[if_pos (by rw[r5.len];exact hy)],trivial,.lst r5⟩
     obtain⟨d,h',ns',y,y1,y2,y3⟩:=pp
     exact⟨d,h',ns',y,a6.trans S1 y1,y2,y3⟩
    cases hp:p.2 with
    |
     none=>
     rw[hp] at S5 a5
     exact im _ S5 a5
    |
     some k=>
     rw[hp] at S5 a5
     obtain⟨s,w1,w2⟩:=hk k hp
     exact im _ (S5.unlock k) (a5.unlock w1 w2)
   ·trivial
end
inductive R3F where
 |ok (r:Rt) (mv:List Val) |exc (c:Str) (mv:List Val) |stuck
abbrev Fn3:=List Val->R3F
def sl1(b:Bool)(v:Val):Sl:=if b=true then .mu v else .sh v
def sls(ms:List Bool)(vs:List Val):E3:=List.zipWith sl1 ms vs
def a8:List Bool->List Val->E3
 |true::ms,v::vs=>.mu v::a8 ms vs
 |true::ms,[]=>.no::a8 ms []
 |false::ms,vs=>.no::a8 ms vs
 | [],_=>[]
def muV:List Bool->E3->Option (List Val)
 |true::ms,.mu v::e=>(muV ms e).map (v :: ·)
 |true::_,_=>none
 |false::ms,_::e=>muV ms e
 |false::_,[]=>none
 | [],_=>some []
def RFp(X:Nat->Prop)(ps:Ns)(ms:List Bool)(vs:List Val)(ds:List D)(h:AH)(r2:R D):R3F->Prop
 |.stuck=>True
 |.ok r mv=>∃d h',r2=.ok d h'/\Stp ps (sls ms vs) h ps (a8 ms mv) h'/\RtR X h.length ps (a8 ms mv) (ds.map some) h' d r
 |.exc c mv=>∃h',r2=.exc c h'/\Stp ps (sls ms vs) h ps (a8 ms mv) h'/\Sat X h.length ps (a8 ms mv) (ds.map some) h'
def RF(ms:List Bool)(G2:Fn)(G3:Fn3):Prop:=∀X ps ds vs h,vs.length=ms.length->Sat X h.length ps (sls ms vs) (ds.map some) h->RFp X ps ms vs ds h (G2 ds h) (G3 vs)
def fnV(ms:List Bool)(N:Nat)(F:MS3):Fn3:=λvs=>if vs.length=ms.length then (match F (sls ms vs++List.replicate (N-vs.length) .no) with
 |.nx e=>(match muV ms e with |some mv=>.ok (.val .non) mv |none=>.stuck)
 |.rt r e=>(match muV ms e with |some mv=>.ok r mv |none=>.stuck)
 |.exc c e=>(match muV ms e with |some mv=>.exc c mv |none=>.stuck)
 |_=>.stuck) else .stuck
def gm{ms:List Bool}{vs:List Val}{i:Nat}{s:Sl}(q:(sls ms vs)[i]?=some s):∃b v,ms[i]?=some b/\vs[i]?=some v/\s=sl1 b v:=by
 unfold sls at q
 rw[R4] at q
 cases h1:ms[i]? with
 |none=>rw[h1] at q;cases q
 |
  some b=>
  cases h2:vs[i]? with
  |none=>rw[h1,h2] at q;cases q
  |some v=>rw[h1,h2] at q;cases q;exact⟨b,v,rfl,rfl,rfl⟩
theorem jI:∀{ms:List Bool}{e:E3}{mv:List Val}{i:Nat}{s:Sl},muV ms e=some mv->(a8 ms mv)[i]?=some s->(ms[i]?=some false/\s=.no)\/(ms[i]?=some true/\∃v,e[i]?=some (.mu v)/\s=.mu v)
 | [],_,_,_,_,_,q=>by unfold a8 at q;simp at q
 |
  true::ms,.mu v::e,mv,i,s,q,q2=>by
  obtain⟨mv',z1,z2⟩:=QS.mp (show (muV ms e).map (v :: ·)=some mv from q)
  subst z2
  cases i with
  |zero=>
   right;have:Sl.mu v=s:=by simpa [a8] using q2
   subst this;exact⟨rfl,v,rfl,rfl⟩
  |
   succ i=>
   have:=jI (i:=i) (s:=s) z1 (by simpa [a8] using q2)
   simpa using this
 |true::ms,[],mv,i,s,q,q2=>by cases q
 |true::ms,.no::e,mv,i,s,q,q2=>by cases q
 |true::ms,.sh v::e,mv,i,s,q,q2=>by cases q
 |true::ms,.ow v::e,mv,i,s,q,q2=>by cases q
 |true::ms,.lo v::e,mv,i,s,q,q2=>by cases q
 |true::ms,.lm v::e,mv,i,s,q,q2=>by cases q
 |false::ms,[],mv,i,s,q,q2=>by cases q
 |
  false::ms,t::e,mv,i,s,q,q2=>by
  cases i with
  |zero=>
   left;have:Sl.no=s:=by simpa [a8] using q2
   exact⟨rfl,this.symm⟩
  |
   succ i=>
   have:=jI (i:=i) (s:=s) (show muV ms e=some mv from q) (by simpa [a8] using q2)
   simpa using this
theorem qJ:∀{ms:List Bool}{e:E3}{mv:List Val}{i:Nat},muV ms e=some mv->ms[i]?=some true->∃v,e[i]?=some (.mu v)/\(a8 ms mv)[i]?=some (.mu v)
 | [],_,_,i,_,q=>by simp at q
 |
  true::ms,.mu v::e,mv,i,q,q2=>by
  obtain⟨mv',z1,z2⟩:=QS.mp (show (muV ms e).map (v :: ·)=some mv from q)
  subst z2
  cases i with
  |zero=>exact⟨v,rfl,rfl⟩
  |
   succ i=>
   obtain⟨u,y1,y2⟩:=qJ (i:=i) z1 (by simpa using q2)
   exact⟨u,by simpa using y1,by simpa [a8] using y2⟩
 |true::ms,[],mv,i,q,q2=>by cases q
 |true::ms,.no::e,mv,i,q,q2=>by cases q
 |true::ms,.sh v::e,mv,i,q,q2=>by cases q
 |true::ms,.ow v::e,mv,i,q,q2=>by cases q
 |true::ms,.lo v::e,mv,i,q,q2=>by cases q
 |true::ms,.lm v::e,mv,i,q,q2=>by cases q
 |false::ms,[],mv,i,q,q2=>by cases q
 |
  false::ms,t::e,mv,i,q,q2=>by
  cases i with
  |zero=>simp at q2
  |
   succ i=>
   obtain⟨u,y1,y2⟩:=qJ (i:=i) (show muV ms e=some mv from q) (by simpa using q2)
   exact⟨u,by simpa using y1,by simpa [a8] using y2⟩
theorem jD:∀{ms:List Bool}{mv:List Val},(a8 ms mv).length=ms.length
 | [],_=>rfl
 |true::ms,v::mv=>by show (a8 ms mv).length+1=ms.length+1;rw[jD]
 |true::ms,[]=>by show (a8 ms []).length+1=ms.length+1;rw[jD]
 |false::ms,mv=>by show (a8 ms mv).length+1=ms.length+1;rw[jD]
def Es(hF:RS F F3):RF ms (fnD N F) (fnV ms N F3):=λX ps ds vs h hl S=>by
 unfold fnV
 rw[if_pos hl]
 have lS:(sls ms vs).length=vs.length:=by unfold sls;rw[Sd];omega
 have lD:ds.length=vs.length:=by have:=S.l1;rw[Qp] at this;omega
 have lP:ps.length=vs.length:=by have:=S.l2;omega
 have S1
  : Sat X h.length (ps++List.replicate (N-vs.length) none) (sls ms vs++List.replicate (N-vs.length) .no) (ds.map some++List.replicate (N-vs.length) none) h:=by
  have mns:∀n,some n∈ps++List.replicate (N-vs.length) (none:Option Nat) ↔ some n∈ps:=λn=>by
   rw[Rh]
   constructor
   ·rintro (z |z)
    ·exact z
    ·have:=List.eq_of_mem_replicate z;cases this
   ·exact .inl
  have gns:∀{i n:Nat},(ps++List.replicate (N-vs.length) (none:Option Nat))[i]?=some (some n)->ps[i]?=some (some n):=λ{i n} q=>by
   rw[Tw] at q
   split at q
   ·exact q
   ·rw[Rj] at q;split at q <;> cases q
  refine⟨?_,?_,S.lh,S.xl,λi j n q1 q2=>S.inj i j n (gns q1) (gns q2),λi n q=>S.nx i n (gns q),λi s q=>?_⟩
  ·rw[Qw,Qw,Rr,Rr,S.l1]
  ·rw[Qw,Qw,Rr,Rr,S.l2]
  ·rw[Tw] at q
   split at q
   ·rename_i hi
    have k:=S.sl i s q
    rw[QR (by omega),QR (by rw[Qp];omega)]
    exact k.mono (λn o p q=>⟨⟨p.1,λz=>p.2 ((mns n).mp z)⟩,q⟩) λ_ _ _ q=>q
   ·rename_i hi
    rw[Rj] at q
    split at q
    ·cases q
     rw[QO (by omega),Rj,if_pos (by omega)]
     rfl
    ·cases q
 have p:=hF _ _ _ _ _ _ S1
 have e2:fnD N F ds h=match F (ds.map some++List.replicate (N-vs.length) none) h with
  |.nx _ h'=>.ok .non h'
  |.rt d h'=>.ok d h'
  |.exc c _ h'=>.exc c h'
  |_=>.stuck:=by rw[<- lD];rfl
 rw[e2]
 have im:∀(Y:Nat->Prop) (ns':Ns) (e':E3) (be:AE) (h':AH) (mv:List Val),(∀n,X n->Y n)->Stp (ps++List.replicate (N-vs.length) none) (sls ms vs++List.replicate (N-vs.length) .no) h ns' e' h'->Sat Y h.length ns' e' be h'->muV ms e'=some mv->
  Stp ps (sls ms vs) h ps (a8 ms mv) h'/\Sat Y h.length ps (a8 ms mv) (ds.map some) h'/\∀n,Oc Y ns' n->Oc Y ps n:=by
  intro Y ns' e' be h' mv hXY a S2 qm
  have kmu:∀{i:Nat},ms[i]?=some true->∃v u n o,e'[i]?=some (.mu v)/\(a8 ms mv)[i]?=some (.mu v)/\(sls ms vs)[i]?=some (.mu u)/\ns'[i]?=ps[i]?/\ps[i]?=some (some n)/\(ds.map some)[i]?=some (some (.ref n))/\h'[n]?=some o/\cM o/\Rc (Oc Y ns') h' o v:=by
   intro i hi
   obtain⟨v,y1,y2⟩:=qJ qm hi
   have hil:i<ms.length:=(Qs.mp hi).1
   obtain⟨u,y3,y4⟩:=a.mu i v y1
   rw[QR (by omega)] at y3 y4
   obtain⟨n,o,z1,z2,_⟩:=S.sl i _ y3
   obtain⟨n',o',w1,w2,w3,w4,w5⟩:=S2.sl i _ y1
   rw[y4,z1] at w1;cases w1
   exact⟨v,u,n,o',y1,y2,y3,y4,z1,z2,w3,w4,w5⟩
  have kown:∀{i n:Nat},ps[i]?=some (some n)->ms[i]?=some true:=λ{i n} q=>by
   obtain⟨s,v,o,z1,z2,_⟩:=S.own q
   obtain⟨b,u,y1,_,y2⟩:=gm z1
   cases b with
   |true=>exact y1
   |false=>subst y2;rcases z2 with z2 |z2 <;> cases z2
  have koc:∀n,Oc Y ns' n->Oc Y ps n:=λn z=>⟨z.1,λy=>by
   obtain⟨i,y⟩:=bp.mp y
   obtain⟨v,u,n',o,_,_,_,k1,k2,_⟩:=kmu (kown y)
   exact z.2 (bp.mpr ⟨i,by rw[k1];exact y⟩)⟩
  refine⟨⟨a.len,λm o q hm=>a.keep m o q λ⟨i,s,z1,z2,z3⟩=>hm ?_,λ_ _ q=>.inl q,λi s q hl'=>?_,λi s q hl'=>?_,λi v q=>?_,λi v q=>?_⟩,⟨?_,?_,QI (Qu _) a.len,S2.xl,S.inj,λi n q z=>?_,λi s q=>?_⟩,koc⟩
  ·rw[Tw] at z1
   split at z1
   ·rename_i hi
    rw[QR (by omega)] at z2
    exact⟨i,s,z1,z2,z3⟩
   ·rw[Rj] at z1;split at z1 <;> cases z1
  ·obtain⟨b,u,_,_,y⟩:=gm q
   subst y
   cases b <;> cases hl'
  ·rcases jI qm q with ⟨_,z⟩ |⟨_,v,_,z⟩ <;> subst z <;> cases hl'
  ·rcases jI qm q with ⟨_,z⟩ |⟨z,_⟩
   ·cases z
   ·obtain⟨v',u,n,o,_,_,k1,_⟩:=kmu z
    exact⟨u,k1,rfl⟩
  ·obtain⟨b,u,y1,_,y2⟩:=gm q
   cases b with
   |false=>cases y2
   |
    true=>
    obtain⟨v',u,n,o,_,k0,k1,_⟩:=kmu y1
    exact⟨v',k0,rfl⟩
  ·rw[Qp,jD];omega
  ·rw[jD];omega
  ·obtain⟨v,u,n',o,_,_,_,k1,k2,_⟩:=kmu (kown q)
   exact S2.nx i n (by rw[k1];exact q) z
  ·rcases jI qm q with ⟨z,rfl⟩ |⟨z,v,z2,rfl⟩
   ·have hil:i<ms.length:=(Qs.mp z).1
    have hi:i<(sls ms vs).length:=by omega
    obtain⟨b,u,y1,_,y2⟩:=gm (QF hi)
    rw[z] at y1;cases y1
    have k:=S.sl i _ (QF hi)
    rw[y2] at k
    exact k.1
   ·obtain⟨v',u,n,o,k0,_,_,k1,k2,k3,k4,k5,k6⟩:=kmu z
    rw[z2] at k0;cases k0
    exact⟨n,o,k2,k3,k4,k5,k6.mono λm o' y q=>⟨koc m y,q⟩⟩
 generalize F3 (sls ms vs++List.replicate (N-vs.length) .no)=r3 at *
 cases r3 with
 |stuck=>trivial
 |bk _=>trivial
 |ct _=>trivial
 |
  nx e'=>
  obtain⟨be,h',ns',q,a,S2⟩:=p
  rw[q]
  dsimp only
  cases qm:muV ms e' with
  |none=>trivial
  |
   some mv=>
   obtain⟨a3,S3,koc⟩:=im X ns' e' be h' mv (λ_ z=>z) a S2 qm
   exact⟨.non,h',rfl,a3,S3,.non⟩
 |
  exc c e'=>
  obtain⟨be,h',ns',q,a,S2⟩:=p
  rw[q]
  dsimp only
  cases qm:muV ms e' with
  |none=>trivial
  |
   some mv=>
   obtain⟨a3,S3,koc⟩:=im X ns' e' be h' mv (λ_ z=>z) a S2 qm
   exact⟨h',rfl,a3,S3⟩
 |
  rt r e'=>
  obtain⟨d,be,h',ns',q,a,rr⟩:=p
  rw[q]
  dsimp only
  cases qm:muV ms e' with
  |none=>trivial
  |
   some mv=>
   cases r with
   |
    val v=>
    obtain⟨a3,S3,koc⟩:=im X ns' e' be h' mv (λ_ z=>z) a rr.1 qm
    exact⟨d,h',rfl,a3,S3,rr.2.mono λm o y q=>⟨koc m y,q⟩⟩
   |
    new v=>
    obtain⟨n,o,z1,z2,z3,z4,z5,z6,z7⟩:=rr
    obtain⟨a3,S3,koc⟩:=im (Xn X n) ns' e' be h' mv (λ_ z=>.inl z) a z6 qm
    exact⟨d,h',rfl,a3,n,o,z1,z2,z3,z4,z5,S3,z7.mono λm o y q=>⟨koc m y,q⟩⟩
   |
    par i=>
    obtain⟨R1,R2,v,R3⟩:=rr
    obtain⟨a3,S3,koc⟩:=im X ns' e' be h' mv (λ_ z=>z) a R1 qm
    obtain⟨u,k1,k2⟩:=a.mu i v R3
    have hi:i<(sls ms vs).length:=by
     apply Decidable.byContradiction
     intro hi
     rw[QO (by omega),Rj] at k1
     split at k1 <;> cases k1
    rw[QR hi] at k1
    rw[QR (by rw[S.l2];exact hi)] at k2
    obtain⟨m,o,w1,w2,_⟩:=S.sl i _ k1
    obtain⟨m',o',x1,x2,_⟩:=R1.sl i _ R3
    rw[k2,w1] at x1;cases x1
    rw[R2] at x2;cases x2
    obtain⟨v',y,_⟩:=a3.mu' i u k1
    exact⟨_,h',rfl,a3,S3,w2,v',y⟩
def jZ(i:Nat):List Tm->Bool
 |.bor j::ts=>(i==j) || jZ i ts
 |_::ts=>jZ i ts
 | []=>false
def qc(i:Nat):List Bool->List Tm->Bool
 |true::ms,.bor j::ts=>(i==j) || qc i ms ts
 |_::ms,_::ts=>qc i ms ts
 |_,_=>false
def okA(e:E3):List Bool->List Tm->Bool
 |true::ms,.bor i::ts=>((e[i]?).bind Sl.mv).isSome && !(jZ i ts)&&okA e ms ts
 |true::_,_::_=>false
 |false::ms,.bor i::ts=>!(qc i ms ts)&&okA e ms ts
 |false::ms,_::ts=>okA e ms ts
 | [],[]=>true
 |_,_=>false
def rE(b:Bool)(t:Tm):Option Nat:=match b,t with
 |true,.bor i=>some i
 |_,_=>none
def cT(ms:List Bool)(ts:List Tm):List (Option Nat):=List.zipWith rE ms ts
def bC(e:E3):List Bool->List Tm->List Nat
 |false::ms,.bor i::ts=>(match e[i]? with
  |some (.sh _)=>bC e ms ts
  |_=>i::bC e ms ts)
 |_::ms,_::ts=>bC e ms ts
 |_,_=>[]
mutual
def bg:Val->Bool
 |.tup xs=>cV xs
 |.lst _=>false
 |.kl _=>false
 |.dct _=>false
 |.set _=>false
 |_=>true
def cV:List Val->Bool
 | []=>true
 |v::vs=>bg v&&cV vs
end
def o3:List (Key×Val)->Bool
 | []=>true
 |(_,v)::vs=>bg v&&o3 vs
def eG:Val->Bool
 |.lst xs=>cV xs
 |.dct xs=>o3 xs
 |.set _=>true
 |_=>false
def ng:Rt->Bool
 |.val v=>bg v
 |.new v=>eG v
 |.par _=>true
def qa(e:E3):List Nat->Option E3
 | []=>some e
 |i::is=>match dG e (.bor i) with
  |some (e1,_)=>qa e1 is
  |none=>none
def Rt.tm(ts:List Tm):Rt->Tm
 |.val v=>.val v
 |.new v=>.new v
 |.par i=>(ts[i]?).getD (.val .non)
def EH(ms:List Bool)(G:Fn3)(A:MA3):ME3:=λe=>(A e).bind λts e1=>match rss e1 ts with
 |none=>.stuck
 |some vs=>if okA e1 ms ts=true then (match G vs with
  |.stuck=>.stuck
  |.ok r mv=>if (bC e1 ms ts).isEmpty || (ng r&&mv.all eG) then .ok (r.tm ts) (bN (cT ms ts) (a8 ms mv) e1) else (match qa e1 (bC e1 ms ts) with
   |some e2=>.ok (r.tm ts) (bN (cT ms ts) (a8 ms mv) e2)
   |none=>.stuck)
  |.exc c mv=>if (bC e1 ms ts).isEmpty || mv.all eG then .exc c (bN (cT ms ts) (a8 ms mv) e1) else .stuck) else .stuck
section
variable{P P':Nat->Prop}{h h':AH}
def Rd.flat(f:bg v=true)(r:Rd P h d v):Rd P' h' d v:=
 @Rd.rec P h (λd v _=>bg v=true->Rd P' h' d v) (λo v _=>bg v=true->Rd P' h' .non v) (λds vs _=>cV vs=true->Rds P' h' ds vs) (λws us _=>True) (λ_=>.non) (λb _=>.bl b) (λi _=>.int i) (λx _=>.str x) (λn _=>.ty n) (λx _=>.glb x) (λx _=>.exc x) (λ_ ih f=>.tup (ih f)) (λ_ _ f=>absurd f Qx) (λ_ _ r _ f=>by cases r <;> exact absurd f Qx) (λ_ _ f=>absurd f Qx) (λ_ _ f=>absurd f Qx) (λ_ _ f=>absurd f Qx) (λ_ f=>absurd f Qx) (λ_=>.nil) (λ_ _ a b f=>.cons (a (Qy .. ▸ f).1) (b (Qy .. ▸ f).2)) trivial (λ_ _ _ _=>trivial) d v r f
def Rds.flat(f:cV v=true)(r:Rds P h d v):Rds P' h' d v:=
 r.ind (M:=λds vs=>cV vs=true->Rds P' h' ds vs) (λ_=>.nil) (λr _ ih f=>by
  rw[cV,Qy] at f
  exact .cons (Rd.flat f.1 r) (ih f.2)) f
def Rk.flat(f:o3 v=true)(r:Rk P h d v):Rk P' h' d v:=
 r.ind (M:=λds vs=>o3 vs=true->Rk P' h' ds vs) (λ_=>.nil) (λr _ ih f=>by
  rw[o3,Qy] at f
  exact .cons (Rd.flat f.1 r) (ih f.2)) f
def Rc.flat(f:eG v=true)(r:Rc P h o v):Rc P' h' o v:=by
 cases r with
 |lst r=>exact .lst (Rds.flat (by simpa [eG] using f) r)
 |fz r=>simp [eG] at f
 |dct r=>exact .dct (Rk.flat (by simpa [eG] using f) r)
 |set xs=>exact .set xs
end
theorem qV:∀{ts:List Tm}{k:Nat},ts[k]?=some (.bor i)->jZ i ts=true
 | [],_,q=>by simp at q
 |
  t::ts,0,q=>by
  have:t=.bor i:=by simpa using q
  subst this;simp [jZ]
 |
  t::ts,k+1,q=>by
  have:=qV (ts:=ts) (k:=k) (by simpa using q)
  cases t <;> simp [jZ,this]
theorem wD:∀{ms:List Bool}{ts:List Tm}{k:Nat},ms[k]?=some true->ts[k]?=some (.bor i)->qc i ms ts=true
 | [],_,_,q,_=>by simp at q
 |_::_,[],_,_,q=>by simp at q
 |
  b::ms,t::ts,0,q1,q=>by
  have:t=.bor i:=by simpa using q
  have:b=true:=by simpa using q1
  subst_vars;simp [qc]
 |
  b::ms,t::ts,k+1,q1,q=>by
  have:=wD (ms:=ms) (ts:=ts) (k:=k) (by simpa using q1) (by simpa using q)
  cases b <;> cases t <;> simp [qc,this]
theorem nC:∀{ms:List Bool}{ts:List Tm}{k:Nat},okA e ms ts=true->ms[k]?=some true->∃i,ts[k]?=some (.bor i)/\∃u,(e[i]?).bind Sl.mv=some u
 | [],_,_,_,q=>by simp at q
 |b::ms,[],_,o,_=>by cases b <;> simp [okA] at o
 |
  b::ms,t::ts,0,o,q=>by
  have:b=true:=by simpa using q
  subst this
  cases t with
  |
   bor i=>
   simp only[okA,Qy] at o
   exact⟨i,rfl,QW.mp o.1.1⟩
  |_=>simp [okA] at o
 |
  b::ms,t::ts,k+1,o,q=>by
  have o':okA e ms ts=true:=by
   cases b <;> cases t <;> simp only[okA,Qy] at o <;> first |exact o.2 |exact o |(simp at o;done)
  obtain⟨i,y⟩:=nC (k:=k) o' (by simpa using q)
  exact⟨i,by simpa using y⟩
theorem kJ:∀{ms:List Bool}{ts:List Tm}{k j i:Nat},okA e ms ts=true->ms[k]?=some true->ts[k]?=some (.bor i)->ts[j]?=some (.bor i)->j=k
 | [],_,_,_,_,_,q,_,_=>by simp at q
 |b::ms,[],_,_,_,o,_,_,_=>by cases b <;> simp [okA] at o
 |b::ms,t::ts,0,0,i,o,q1,q2,q3=>rfl
 |
  b::ms,t::ts,0,j+1,i,o,q1,q2,q3=>by
  have h1:b=true:=by simpa using q1
  have h2:t=.bor i:=by simpa using q2
  subst h1 h2
  simp only[okA,Qy] at o
  have:=qV (i:=i) (ts:=ts) (k:=j) (by simpa using q3)
  rw[this] at o
  simp at o
 |
  b::ms,t::ts,k+1,0,i,o,q1,q2,q3=>by
  have h2:t=.bor i:=by simpa using q3
  subst h2
  have hm:=wD (i:=i) (ms:=ms) (ts:=ts) (k:=k) (by simpa using q1) (by simpa using q2)
  have hb:=qV (i:=i) (ts:=ts) (k:=k) (by simpa using q2)
  cases b <;> simp [okA,hm,hb] at o
 |
  b::ms,t::ts,k+1,j+1,i,o,q1,q2,q3=>by
  have o':okA e ms ts=true:=by
   cases b <;> cases t <;> simp only[okA,Qy] at o <;> first |exact o.2 |exact o |(simp at o;done)
  exact Ru (· + 1) (kJ (k:=k) (j:=j) (i:=i) o' (by simpa using q1) (by simpa using q2) (by simpa using q3))
theorem kE:∀{ms:List Bool}{ts:List Tm},okA e ms ts=true->ms.length=ts.length
 | [],[],_=>rfl
 | [],_::_,o=>by simp [okA] at o
 |b::ms,[],o=>by cases b <;> simp [okA] at o
 |
  b::ms,t::ts,o=>by
  have o':okA e ms ts=true:=by
   cases b <;> cases t <;> simp only[okA,Qy] at o <;> first |exact o.2 |exact o |(simp at o;done)
  exact Ru (· + 1) (kE o')
theorem nX:∀{ms:List Bool}{ts:List Tm}{k i:Nat},ms[k]?=some false->ts[k]?=some (.bor i)->(∀v,e[i]?≠some (.sh v))->i∈bC e ms ts
 | [],_,_,_,q,_,_=>by simp at q
 |_::_,[],_,_,_,q,_=>by simp at q
 |
  b::ms,t::ts,0,i,q1,q2,hn=>by
  have h1:b=false:=by simpa using q1
  have h2:t=.bor i:=by simpa using q2
  subst h1 h2
  unfold bC
  split
  ·rename_i v q;exact absurd q (hn v)
  ·exact Qt ..
 |
  b::ms,t::ts,k+1,i,q1,q2,hn=>by
  have ih:=nX (ms:=ms) (ts:=ts) (k:=k) (by simpa using q1) (by simpa using q2) hn
  cases b <;> cases t <;> simp only[bC] <;> first |exact ih |(split;exact ih;exact Qr _ ih)
def fZ{ms:List Bool}{ts:List Tm}{k i:Nat}(q:(cT ms ts)[k]?=some (some i)):ms[k]?=some true/\ts[k]?=some (.bor i):=by
 unfold cT at q
 rw[R4] at q
 cases h1:ms[k]? with
 |none=>rw[h1] at q;cases q
 |
  some b=>
  cases h2:ts[k]? with
  |none=>rw[h1,h2] at q;cases q
  |
   some t=>
   rw[h1,h2] at q
   have q':rE b t=some i:=QK q
   cases b <;> cases t <;> first |(cases q';done) |(cases q';exact⟨rfl,rfl⟩)
def E8{ms:List Bool}{ts:List Tm}{k i:Nat}(q1:ms[k]?=some true)(q2:ts[k]?=some (.bor i)):(cT ms ts)[k]?=some (some i):=by
 unfold cT
 rw[R4,q1,q2];rfl
theorem xi:∀{ts:List Tm}{vs:List Val}{k:Nat}{v:Val},rss e ts=some vs->vs[k]?=some v->∃t,ts[k]?=some t/\rs e t=some v
 | [],_,_,_,q,q2=>by cases q;simp at q2
 |
  t::ts,vs,k,v,q,q2=>by
  unfold rss at q
  split at q
  ·rename_i u us e1 e2
   cases q
   cases k with
   |zero=>
    have:u=v:=by simpa using q2
    subst this;exact⟨t,rfl,e1⟩
   |
    succ k=>
    obtain⟨t',y1,y2⟩:=xi (k:=k) e2 (by simpa using q2)
    exact⟨t',by simpa using y1,y2⟩
  ·cases q
theorem nj:∀{ts:List Tm}{vs:List Val},rss e ts=some vs->vs.length=ts.length
 | [],_,q=>by cases q;rfl
 |
  t::ts,vs,q=>by
  unfold rss at q
  split at q
  ·rename_i u us e1 e2;cases q;exact Ru (· + 1) (nj e2)
  ·cases q
theorem TsR.get:∀{ds:List D}{ts:List Tm}{k:Nat}{t:Tm},TsR X ns ae h ds ts->ts[k]?=some t->∃d,ds[k]?=some d/\((∃v,t=.val v/\Rd (Oc X ns) h d v)\/∃i,t=.bor i/\ae[i]?=some (some d))
 |_,_,_,_,.nil,q=>by simp at q
 |_,_,0,_,.val r rr,q=>by have:=(by simpa using q:Tm.val _=_);subst this;exact⟨_,rfl,.inl ⟨_,rfl,r⟩⟩
 |_,_,0,_,.bor r rr,q=>by have:=(by simpa using q:Tm.bor _=_);subst this;exact⟨_,rfl,.inr ⟨_,rfl,r⟩⟩
 |_,_,k+1,t,.val r rr,q=>by obtain⟨d,y⟩:=rr.get (k:=k) (by simpa using q);exact⟨d,by simpa using y⟩
 |_,_,k+1,t,.bor r rr,q=>by obtain⟨d,y⟩:=rr.get (k:=k) (by simpa using q);exact⟨d,by simpa using y⟩
def Xc(X:Nat->Prop)(ns:Ns)(e:E3)(ms:List Bool)(ts:List Tm)(n:Nat):Prop:=(X n\/some n∈ns)/\some n∉cP (cT ms ts) ns/\∀i∈bC e ms ts,ns[i]?≠some (some n)
def uY(S:Sat X h0 ns e ae h)(rt:TsR X ns ae h ds ts)(qv:rss e ts=some vs)(ok:okA e ms ts=true):
 Sat (Xc X ns e ms ts) h.length (cP (cT ms ts) ns) (sls ms vs) (ds.map some) h:=by
 have l1:=kE ok
 have l2:=nj qv
 have l3:=TsR.len rt
 have hs:pG (cT ms ts):=λj k i q1 q2=>kJ ok (fZ q2).1 (fZ q2).2 (fZ q1).2
 have mv:Mov (Oc X ns) (Oc (Xc X ns e ms ts) (cP (cT ms ts) ns)) h h:=λn o p q=>⟨⟨λz=>by
  rcases z.1 with z |z
  ·exact p.1 z
  ·exact p.2 z,λz=>p.2 (nS z)⟩,q⟩
 refine⟨?_,?_,Qu _,λn z=>?_,λj k n q1 q2=>?_,λj n q z=>z.2.1 (bp.mpr ⟨j,q⟩),λk s q=>?_⟩
 ·unfold sls;rw[Qp,Sd];omega
 ·unfold cP cT sls;rw[Qp,Sd,Sd];omega
 ·rcases z.1 with z |z
  ·exact S.xl n z
  ·obtain⟨i,z⟩:=bp.mp z
   obtain⟨_,_,_,_,_,_,_,q',_⟩:=S.own z
   exact bU q'
 ·obtain⟨i,y1,y2⟩:=dm q1
  obtain⟨i',y3,y4⟩:=dm q2
  have:=S.inj i i' n y2 y4
  subst this
  exact hs j k i y1 y3
 ·obtain⟨b,v,
   q1,q2,rfl⟩:=gm q
  obtain⟨t,q3,q4⟩:=xi qv q2
  obtain⟨d,q5,q6⟩:=rt.get q3
  have qd:(ds.map some)[k]?=some (some d):=by rw[QM,q5];rfl
  rw[qd]
  have qn:(cP (cT ms ts) ns)[k]?=some ((rE b t).bind λi=>(ns[i]?).bind id):=by
   unfold cP cT
   rw[QM,R4,q1,q3];rfl
  rw[qn]
  cases b with
  |
   true=>
   obtain⟨i,y1,u,y2⟩:=nC ok q1
   rw[q3] at y1;cases y1
   have q4':(e[i]?).bind Sl.val=some v:=q4
   obtain⟨s,z1,z2⟩:=Q1.mp y2
   rw[z1] at q4'
   have hv:s.val=some v:=q4'
   have huv:u=v:=by cases s <;> first |cases z2;done |(cases z2;cases hv;rfl)
   subst huv
   have hns:∃n,ns[i]?=some (some n):=by
    have y:=S.sl i s z1
    cases s with
    |ow v=>obtain⟨n,o,y1,_⟩:=y;exact⟨n,y1⟩
    |mu v=>obtain⟨n,o,y1,_⟩:=y;exact⟨n,y1⟩
    |_=>cases z2
   obtain⟨n,hn⟩:=hns
   obtain⟨n',o,k1,k2,k3,k4,_⟩:=S.write z1 z2
   rcases q6 with ⟨_,z,_⟩ |⟨i',z,q6⟩
   ·cases z
   ·cases z
    rw[q6] at k1;cases k1
    obtain⟨_,_,_,_,_,_,w,_⟩:=S.own hn
    rw[q6] at w;cases w
    exact⟨n,o,by show some ((ns[i]?).bind id)=_;rw[hn];rfl,rfl,k2,k3,k4.mono mv⟩
  |
   false=>
   refine⟨by cases t <;> rfl,d,rfl,?_⟩
   rcases q6 with ⟨u,rfl,q6⟩ |⟨i,rfl,q6⟩
   ·cases q4;exact q6.mono mv
   ·have q4':(
     e[i]?).bind Sl.val=some v:=q4
    rcases S.bor q6 q4' with z |⟨n,o,rfl,z1,z2⟩
    ·exact z.mono mv
    ·refine .cell ⟨λy=>?_,λy=>?_⟩ z1 (z2.mono mv)
     ·
      by_cases hsh:∃w,e[i]?=some (.sh w)
      ·obtain⟨w,hsh⟩:=hsh
       obtain⟨_,x,w1,w2⟩:=S.sl i _ hsh
       rw[q6] at w1;cases w1
       cases w2 with
       |cell p _ _=>rcases y.1 with y |y;exact p.1 y;exact p.2 y
      ·have hl:=nX q1 q3 λw z=>hsh ⟨w,z⟩
       cases w:ns[i]? with
       |
        none=>
        have hi:i<e.length:=by
         cases z:e[i]? with
         |none=>rw[z] at q4';cases q4'
         |some _=>exact (Qs.mp z).1
        rw[RH,S.l2] at w
        omega
       |
        some w'=>
        cases w' with
        |
         none=>
         cases z:e[i]? with
         |none=>rw[z] at q4';cases q4'
         |
          some s=>
          have k:=S.sl i s z
          rw[w] at k
          cases s with
          |no=>rw[z] at q4';cases q4'
          |sh w=>exact hsh ⟨w,z⟩
          |ow w=>obtain⟨_,_,k,_⟩:=k;cases k
          |lo w=>obtain⟨_,_,k,_⟩:=k;cases k
          |mu w=>obtain⟨_,_,k,_⟩:=k;cases k
          |lm w=>obtain⟨_,_,k,_⟩:=k;cases k
        |
         some n'=>
         obtain⟨_,_,_,_,_,_,w2,_⟩:=S.own w
         rw[q6] at w2;cases w2
         exact y.2.2 i hl w
     ·obtain⟨j,y⟩:=bp.mp y
      obtain⟨i',y1,y2⟩:=dm y
      obtain⟨y3,y4⟩:=fZ y1
      obtain⟨_,_,_,_,_,_,w2,_⟩:=S.own y2
      have:i'
       = i:=by
       cases w:ns[i]? with
       |
        none=>
        have hi:i<e.length:=by
         cases z:e[i]? with
         |none=>rw[z] at q4';cases q4'
         |some _=>exact (Qs.mp z).1
        rw[RH,S.l2] at w
        omega
       |
        some w'=>
        cases w' with
        |
         some n'=>
         obtain⟨_,_,_,_,_,_,w3,_⟩:=S.own w
         rw[q6] at w3;cases w3
         exact S.inj i' i n y2 w
        |
         none=>
         cases z:e[i]? with
         |none=>rw[z] at q4';cases q4'
         |
          some s=>
          have k:=S.sl i s z
          rw[w,q6] at k
          cases s with
          |no=>rw[z] at q4';cases q4'
          |
           sh w=>
           obtain⟨_,x,k1,k2⟩:=k
           cases k1
           cases k2 with
           |cell p _ _=>exact (p.2 (bp.mpr ⟨i',y2⟩)).elim
          |ow w=>obtain⟨_,_,k,_⟩:=k;cases k
          |lo w=>obtain⟨_,_,k,_⟩:=k;cases k
          |mu w=>obtain⟨_,_,k,_⟩:=k;cases k
          |lm w=>obtain⟨_,_,k,_⟩:=k;cases k
      subst this
      have:=kJ ok y3 y4 q3
      subst this
      rw[q1] at y3;cases y3
theorem gj:∀{ms:List Bool}{mv:List Val}{j:Nat}{v:Val},(a8 ms mv)[j]?=some (.mu v)->v∈mv
 | [],_,_,_,q=>by simp [a8] at q
 |true::ms,u::mv,0,v,q=>by
  have:Sl.mu u=.mu v:=by simpa [a8] using q
  cases this;exact Qt ..
 |true::ms,u::mv,j+1,v,q=>Qr _ (gj (ms:=ms) (mv:=mv) (j:=j) (by simpa [a8] using q))
 |true::ms,[],0,v,q=>by simp [a8] at q
 |true::ms,[],j+1,v,q=>gj (ms:=ms) (mv:=[]) (j:=j) (by simpa [a8] using q)
 |false::ms,mv,0,v,q=>by simp [a8] at q
 |false::ms,mv,j+1,v,q=>gj (ms:=ms) (mv:=mv) (j:=j) (by simpa [a8] using q)
theorem oy:∀{ms:List Bool}{ts:List Tm}{i:Nat},i∈bC e ms ts->∃k:Nat,ms[k]?=some false/\ts[k]?=some (.bor i)
 | [],_,_,q=>by simp [bC] at q
 |_::_,[],_,q=>by simp [bC] at q
 |
  b::ms,t::ts,i,q=>by
  have up:i∈bC e ms ts->∃k:Nat,(b::ms)[k]?=some false/\(t::ts)[k]?=some (.bor i):=λz=>by
   obtain⟨k,y1,y2⟩:=oy z
   exact⟨k+1,by simpa using y1,by simpa using y2⟩
  cases b <;> cases t <;> simp only[bC] at q <;> first |exact up q |skip
  split at q
  ·exact up q
  ·rcases QD.mp q with rfl |q
   ·exact⟨0,rfl,rfl⟩
   ·exact up q
def Gk(q:dG e (.bor i)=some (e1,v)):(∀j,j≠i->e1[j]?=e[j]?)/\e1[i]?=some (.sh v)/\(e[i]?).bind Sl.val=some v:=by
 unfold dG at q
 dsimp only at q
 split at q
 ·rename_i u q1;cases q;exact⟨λ_ _=>rfl,q1,by rw[q1];rfl⟩
 ·rename_i u q1;cases q;exact⟨λj z=>br z,bS (Qs.mp q1).1,by rw[q1];rfl⟩
 ·cases q
theorem uz:∀{is:List Nat}{ns:Ns}{e e2:E3},Sat X h0 ns e ae h->(∀i∈is,∃d,ae[i]?=some (some d))->qa e is=some e2->∃dL,Sat X h0 dL e2 ae h/\Stp ns e h dL e2 h/\(∀i,i∉is->e2[i]?=e[i]?)/\(∀i∈is,∃v,e2[i]?=some (.sh v))/\∀i:Nat,(e2[i]?).bind Sl.val=(e[i]?).bind Sl.val
 | [],ns,e,e2,S,_,q=>by cases q;exact⟨ns,S,.refl,λ_ _=>rfl,(λ_ z=>by cases z),λ_=>rfl⟩
 |
  i::is,ns,e,e2,S,hd,q=>by
  unfold qa at q
  split at q
  ·rename_i e1 v q1
   obtain⟨d,hd0⟩:=hd i (Qt ..)
   obtain⟨ns1,S1,a1,r1⟩:=gY (L:=0) (t:=.bor i) S hd0 q1
   obtain⟨dL,S2,a2,k1,k2,k3⟩:=uz S1 (λj z=>hd j (Qr _ z)) q
   obtain⟨y1,y2,y3⟩:=Gk q1
   refine⟨dL,S2,a1.trans S a2,λj hj=>?_,λj hj=>?_,λj=>?_⟩
   ·rw[QD,not_or] at hj
    rw[k1 j hj.2,y1 j hj.1]
   ·by_cases z:j∈is
    ·exact k2 j z
    ·rcases QD.mp hj with rfl |hj
     ·exact⟨v,by rw[k1 j z];exact y2⟩
     ·exact absurd hj z
   ·rw[k3 j]
    by_cases z:j=i
    ·subst z;rw[y2,y3];rfl
    ·rw[y1 j z]
  ·cases q
theorem rZ:∀{ms:List Bool}{ts:List Tm},(∀(k i:Nat),ms[k]?=some true->ts[k]?=some (.bor i)->e2[i]?=e[i]?)->okA e ms ts=true->okA e2 ms ts=true
 | [],[],_,o=>rfl
 | [],_::_,_,o=>by simp [okA] at o
 |b::ms,[],_,o=>by cases b <;> simp [okA] at o
 |
  b::ms,t::ts,hk,o=>by
  have o':okA e ms ts=true:=by
   cases b <;> cases t <;> simp only[okA,Qy] at o <;> first |exact o.2 |exact o |(simp at o;done)
  have ih:=rZ (λk i q1 q2=>hk (k+1) i (by simpa using q1) (by simpa using q2)) o'
  cases b with
  |false=>cases t <;> simp only[okA,Qy] at o ⊢ <;> first |exact⟨o.1,ih⟩ |exact ih
  |
   true=>
   cases t with
   |
    bor i=>
    simp only[okA,Qy] at o ⊢
    rw[hk 0 i rfl rfl]
    exact⟨o.1,ih⟩
   |_=>simp [okA] at o
theorem vk:∀{ms:List Bool}{ts:List Tm},(∀(k i:Nat),ms[k]?=some false->ts[k]?=some (.bor i)->∃v,e[i]?=some (.sh v))->bC e ms ts=[]
 | [],_,_=>by simp [bC]
 |_::_,[],_=>by simp [bC]
 |
  b::ms,t::ts,hk=>by
  have ih:=vk (λk i q1 q2=>hk (k+1) i (by simpa using q1) (by simpa using q2))
  cases b <;> cases t <;> simp only[bC] <;> first |exact ih |skip
  rename_i i
  obtain⟨v,q⟩:=hk 0 i rfl rfl
  rw[q];exact ih
theorem rV(hv:∀i:Nat,(e2[i]?).bind Sl.val=(e[i]?).bind Sl.val):∀(ts:List Tm),rss e2 ts=rss e ts
 | []=>rfl
 |
  t::ts=>by
  unfold rss
  rw[rV hv ts]
  have:rs e2 t=rs e t:=by
   cases t with
   |bor i=>exact hv i
   |_=>rfl
  rw[this]
def uP(ok:okA e ms ts=true):Lnk (cT ms ts) e (sls ms vs):=by
 refine⟨λj k i q1 q2=>kJ ok (fZ q2).1 (fZ q2).2 (fZ q1).2,λj v q=>?_,λj s q hm=>?_⟩
 ·obtain⟨b,u,q1,_,q2⟩:=gm q
  cases b with
  |false=>cases q2
  |
   true=>
   obtain⟨i,y1,w,y2⟩:=nC ok q1
   obtain⟨s,z1,z2⟩:=Q1.mp y2
   exact⟨i,s,E8 q1 y1,z1,by cases s <;> first |rfl |cases z2⟩
 ·obtain⟨b,u,q1,_,q2⟩:=gm q
  cases b with
  |false=>subst q2;cases hm
  |true=>exact⟨u,q2⟩
section
variable{X:Nat->Prop}{h0 L:Nat}{ns:Ns}{e:E3}{ae:AE}{h:AH}{ms:List Bool}{ts:List Tm}{ds:List D}{vs:List Val}{S2:Fn}{G3:Fn3}
def kG(Y:Nat->Prop)(hY:∀n,Y n->X n\/Y n)(hl:bC e ms ts=[])(z:¬ Xc X ns e ms ts n)(z2:some n∉cP (cT ms ts) ns):Oc X ns n:=by
 refine⟨λy=>z ⟨.inl y,z2,λi hi=>by rw[hl] at hi;cases hi⟩,λy=>z ⟨.inr y,z2,λi hi=>by rw[hl] at hi;cases hi⟩⟩
def xb(S:Sat X h0 ns e ae h)(hL:L<=h.length)(rt:TsR X ns ae h ds ts)(qv:rss e ts=some vs)(ok:okA e ms ts=true)(hG:RF ms S2 G3)(q:G3 vs=.ok r mv)(hf:bC e ms ts=[]\/(ng r=true/\mv.all eG=true)):
 Po X h0 ns e ae h (relE X h0 L ae) (S2 ds h) (.ok (r.tm ts) (bN (cT ms ts) (a8 ms mv) e)):=by
 have p:=hG _ _ ds vs h (by rw[nj qv,kE ok]) (uY S rt qv ok)
 rw[q] at p
 obtain⟨d,h',p1,a,rr⟩:=p
 have K:=uP (vs:=vs) ok
 have xcl:∀n,X n->n<h.length:=S.xl
 cases r with
 |
  val v=>
  obtain⟨S3,rv⟩:=rr
  obtain⟨S4,a4⟩:=S.back (Y:=X) K a (λn z=>⟨QL (xcl n z) a.len,.inl z⟩) (λ_ z=>z) λj w n q1 q2=>by
   obtain⟨s,u,o,b1,b2,b3,b4,b5,b6,b7⟩:=S3.own q2
   rw[q1] at b1;cases b1;cases b3
   rcases hf with hf |hf
   ·exact⟨o,b5,b6,b7.mono λm o' z y=>⟨kG X (λ_ z=>.inl z) hf z.1 z.2,y⟩⟩
   ·exact⟨o,b5,b6,b7.flat (Q4.mp hf.2 w (gj q1))⟩
  refine⟨d,h',ns,p1,a4,S4,?_⟩
  rcases hf with hf |hf
  ·exact rv.mono λm o' z y=>⟨kG X (λ_ z=>.inl z) hf z.1 z.2,y⟩
  ·exact rv.flat hf.1
 |
  new v=>
  obtain⟨n,o,z1,z2,z3,z4,z5,S3,z7⟩:=rr
  have hnx:¬ X n:=λy=>by have:=xcl n y;omega
  have kk:∀m,Oc (Xn (Xc X ns e ms ts) n) (cP (cT ms ts) ns) m->bC e ms ts=[]->Oc (Xn X n) ns m:=λm z hf=>by
   have:=kG X (λ_ z=>.inl z) hf (λy=>z.1 (.inl y)) z.2
   exact⟨λy=>by
    rcases y with y |y
    ·exact this.1 y
    ·exact z.1 (.inr y),this.2⟩
  obtain⟨S4,a4⟩:=S.back (Y:=Xn X n) K a (λm z=>by
   rcases z with z |rfl
   ·exact⟨QL (xcl m z) a.len,.inl z⟩
   ·exact⟨bU z4,.inr z2⟩) (λ_ z=>.inl z) λj w n' q1 q2=>by
   obtain⟨s,u,o,b1,b2,b3,b4,b5,b6,b7⟩:=S3.own q2
   rw[q1] at b1;cases b1;cases b3
   rcases hf with hf |hf
   ·exact⟨o,b5,b6,b7.mono λm o' z y=>⟨kk m z hf,y⟩⟩
   ·exact⟨o,b5,b6,b7.flat (Q4.mp hf.2 w (gj q1))⟩
  refine⟨d,h',ns,p1,a4,S4.weak λ_ z=>.inl z,n,o,z1,QI hL z2,hnx,z4,z5,S4,?_⟩
  rcases hf with hf |hf
  ·exact z7.mono λm o' z y=>⟨kk m z hf,y⟩
  ·exact z7.flat hf.1
 |
  par i=>
  obtain⟨S3,w1,w,w2⟩:=rr
  obtain⟨S4,a4⟩:=S.back (Y:=X) K a (λn z=>⟨QL (xcl n z) a.len,.inl z⟩) (λ_ z=>z) λj w n q1 q2=>by
   obtain⟨s,u,o,b1,b2,b3,b4,b5,b6,b7⟩:=S3.own q2
   rw[q1] at b1;cases b1;cases b3
   rcases hf with hf |hf
   ·exact⟨o,b5,b6,b7.mono λm o' z y=>⟨kG X (λ_ z=>.inl z) hf z.1 z.2,y⟩⟩
   ·exact⟨o,b5,b6,b7.flat (Q4.mp hf.2 w (gj q1))⟩
  refine⟨d,h',ns,p1,a4,S4,?_⟩
  obtain⟨u,x1,_⟩:=a.mu i w w2
  obtain⟨b,u',x2,_,x3⟩:=gm x1
  cases b with
  |false=>cases x3
  |
   true=>
   obtain⟨k,y1,_⟩:=nC ok x2
   obtain⟨d',y2,z⟩:=rt.get y1
   have e1:(Rt.par i).tm ts=.bor k:=by show (ts[i]?).getD _=_;rw[y1];rfl
   rw[e1]
   rcases z with ⟨_,z,_⟩ |⟨j,z,z2⟩
   ·cases z
   ·cases z
    rw[QM,y2] at w1
    cases w1
    exact z2
def Ci(S:Sat X h0 ns e ae h)(rt:TsR X ns ae h ds ts)(qv:rss e ts=some vs)(ok:okA e ms ts=true)(hG:RF ms S2 G3)(q:G3 vs=.exc c mv)(hf:bC e ms ts=[]\/mv.all eG=true):
 Po X h0 ns e ae h (relE X h0 L ae) (S2 ds h) (.exc c (bN (cT ms ts) (a8 ms mv) e)):=by
 have p:=hG _ _ ds vs h (by rw[nj qv,kE ok]) (uY S rt qv ok)
 rw[q] at p
 obtain⟨h',p1,a,S3⟩:=p
 have K:=uP (vs:=vs) ok
 obtain⟨S4,a4⟩:=S.back (Y:=X) K a (λn z=>⟨QL (S.xl n z) a.len,.inl z⟩) (λ_ z=>z) λj w n q1 q2=>by
  obtain⟨s,u,o,b1,b2,b3,b4,b5,b6,b7⟩:=S3.own q2
  rw[q1] at b1;cases b1;cases b3
  rcases hf with hf |hf
  ·exact⟨o,b5,b6,b7.mono λm o' z y=>⟨kG X (λ_ z=>.inl z) hf z.1 z.2,y⟩⟩
  ·exact⟨o,b5,b6,b7.flat (Q4.mp hf w (gj q1))⟩
 exact⟨h',ns,p1,a4,S4⟩
def GB(hn:n=ms.length)(hG:RF ms S2 G3)(hA:RA A A3):RE (xU n S2 A) (EH ms G3 A3):=λX h0 L ns e ae h S hl=>
 Po.bind
  S (hA X h0 ns e ae h S) λds ts h1 ns1 e1 a1 S1 r1=>by
  try dsimp only
  cases qv:rss e1 ts with
  |none=>trivial
  |
   some vs=>
   dsimp only
   by_cases ok:okA e1 ms ts=true
   ·rw[if_pos ok]
    have bi:ds.length=n:=by rw[hn,kE ok];exact TsR.len r1
    rw[if_pos bi]
    have hL:L<=h1.length:=QI hl a1.len
    cases q:G3 vs with
    |stuck=>trivial
    |
     exc c mv=>
     dsimp only
     by_cases hf:((bC e1 ms ts).isEmpty || mv.all eG)=true
     ·rw[if_pos hf]
      refine Ci S1 r1 qv ok hG q ?_
      rw[Bool.or_eq_true] at hf
      rcases hf with hf |hf
      ·exact .inl (List.isEmpty_iff.mp hf)
      ·exact .inr hf
     ·rw[if_neg hf];trivial
    |
     ok r mv=>
     dsimp only
     by_cases hf:((bC e1 ms ts).isEmpty || (ng r&&mv.all eG))=true
     ·rw[if_pos hf]
      refine xb S1 hL r1 qv ok hG q ?_
      rw[Bool.or_eq_true,Qy] at hf
      rcases hf with hf |hf
      ·exact .inl (List.isEmpty_iff.mp hf)
      ·exact .inr hf
     ·rw[if_neg hf]
      cases qd:qa e1 (bC e1 ms ts) with
      |none=>trivial
      |
       some e2=>
       dsimp only
       obtain⟨dL,S2',a2,k1,k2,k3⟩:=uz S1 (λi hi=>by
        obtain⟨k,_,y⟩:=oy hi
        obtain⟨d,_,z⟩:=r1.get y
        rcases z with ⟨_,z,_⟩ |⟨j,z,z2⟩
        ·cases z
        ·cases z;exact⟨d,z2⟩) qd
       have ok2:okA e2 ms ts=true:=rZ (λk i q1 q2=>k1 i λz=>by
        obtain⟨k',y1,y2⟩:=oy z
        have:=kJ ok q1 q2 y2
        subst this
        rw[q1] at y1;cases y1) ok
       have ln:bC e2 ms ts=[]:=vk λk i q1 q2=>by
        by_cases z:i∈bC e1 ms ts
        ·exact k2 i z
        ·rw[k1 i z]
         exact SU λw=>z (nX q1 q2 λv y=>w ⟨v,y⟩)
       have pp:=xb (L:=L) S2' hL (r1.stp S1 a2) (by rw[rV k3];exact qv) ok2 hG q (.inl ln)
       obtain⟨d,h',ns',y,y1,y2,y3⟩:=pp
       exact⟨d,h',ns',y,a2.trans S1 y1,y2,y3⟩
   ·rw[if_neg ok];trivial
end
def RMv(m2:D->List D->AH->R D)(m3:Val->List Val->Bv):Prop:=∀P h d v ds vs,ShR P h d v->kO v=true->ShRs P h ds vs->BvR P h (m2 d ds h) (m3 v vs)
def aI(f:Int->Int->Val):Val->Val->Bv:=λx y=>match x,y with
 |.int i,.int j=>.val (f i j)
 |_,_=>.stuck
open Classical in
def aIc(C:Int->Int->Prop)(f:Int->Int->Val):Val->Val->Bv:=λx y=>match x,y with
 |.int i,.int j=>if C i j then .val (f i j) else .stuck
 |_,_=>.stuck
def yb:Val->Val->Bv:=λx y=>match x,y with
 |.lst xs,.lst ys=>if xs.length+ys.length<=16777216 then .new (.lst (xs++ys)) else .stuck
 |.tup xs,.tup ys=>if xs.length+ys.length<=16777216 then .val (.tup (xs++ys)) else .stuck
 |_,_=>.stuck
def C6:Val->Val->Bv:=λx y=>match x,y with
 |.int i,.int j=>.val (.int (i+j))
 |x,y=>yb x y
def aMin:=aI λi j=>.int (i-j)
def yt:=aIc CMulA λi j=>.int (i*j)
def yj:=aIc CDivB λi j=>.int (i.fdiv j)
def yX:=aIc (λ_ j=>j≠0) λi j=>.int (i.fmod j)
def zf:=aIc iN λi j=>.int (i^j.toNat)
def yf:=aIc iN λi j=>.int (i*2^j.toNat)
def aLt:=aI λi j=>.bl (decide (i<j))
def aGt:=aI λi j=>.bl (decide (j<i))
def aGe:=aI λi j=>.bl (decide (j<=i))
def Dw:Val->Bv:=λx=>match x with
 |.int i=>.val (.int (-i))
 |_=>.stuck
def aIx:Val->Val->Bv:=λx y=>match x.items,y with
 |some xs,.int i=>(match atI xs i with
  |some v=>.val v
  |none=>.stuck)
 |_,_=>.stuck
section
def uN(hr:∀i j P h,Rd P h (f2 i j) (f3 i j)):RO (gI f2) (aI f3):=λP h d1 d2 v1 v2 r1 r2=>by
 unfold aI
 split
 ·obtain rfl:=r1.int;obtain rfl:=r2.int;exact⟨_,rfl,hr _ _ P h⟩
 ·trivial
def oM(hr:∀i j P h,Rd P h (f2 i j) (f3 i j)):RO (gIc C f2) (aIc C f3):=λP h d1 d2 v1 v2 r1 r2=>by
 unfold aIc
 split
 ·obtain rfl:=r1.int;obtain rfl:=r2.int
  split
  ·rename_i hc;exact⟨_,by unfold gIc;dsimp only;rw[if_pos hc],hr _ _ P h⟩
  ·trivial
 ·trivial
def Jg:RO oI yb:=λP h d1 d2 v1 v2 r1 r2=>by
 unfold yb
 split
 ·obtain⟨n,ds,rfl,e1,_,q1⟩:=r1.lst
  obtain⟨m,es,rfl,e2,_,q2⟩:=r2.lst
  split
  ·rename_i hl
   exact⟨.lst (ds++es),by unfold oI;dsimp only;rw[e1,e2];dsimp only;rw[if_pos (by rw[q1.len,q2.len];exact hl)],trivial,.lst (q1.append q2)⟩
  ·trivial
 ·obtain⟨ds,rfl,q1⟩:=r1.tup
  obtain⟨es,rfl,q2⟩:=r2.tup
  split
  ·rename_i hl
   exact⟨_,by unfold oI;dsimp only;rw[if_pos (by rw[q1.len,q2.len];exact hl)],.tup (q1.append q2)⟩
  ·trivial
 ·trivial
def Jz:RO yB C6:=λP h d1 d2 v1 v2 r1 r2=>by
 unfold C6
 split
 ·obtain rfl:=r1.int;obtain rfl:=r2.int;exact⟨_,rfl,.int _⟩
 ·rename_i hn
  have k:=Jg P h d1 d2 v1 v2 r1 r2
  have e:yB d1 d2 h=oI d1 d2 h\/yb v1 v2=.stuck:=by
   cases v1 <;> first |(right;rfl) |(left;skip)
   ·obtain⟨ds,rfl,_⟩:=r1.tup;rfl
   ·obtain⟨n,ds,rfl,_⟩:=r1.lst;rfl
  rcases e with e |e
  ·rw[e];exact k
  ·rw[e];trivial
def JM:RO Bz aMin:=uN λ_ _ _ _=>.int _
def Hx:RO DR yt:=oM λ_ _ _ _=>.int _
def IT:RO Dz yj:=oM λ_ _ _ _=>.int _
def Ht:RO C7 yX:=oM λ_ _ _ _=>.int _
def JY:RO C3 zf:=oM λ_ _ _ _=>.int _
def HF:RO Dv yf:=oM λ_ _ _ _=>.int _
def LB:RO gLt aLt:=uN λ_ _ _ _=>.bl _
def Oq:RO gGt aGt:=uN λ_ _ _ _=>.bl _
def Md:RO gGe aGe:=uN λ_ _ _ _=>.bl _
def Kq:RU yE Dw:=λP h d v r=>by
 unfold Dw
 split
 ·obtain rfl:=r.int;exact⟨_,rfl,.int _⟩
 ·trivial
def NK(r:Rds P h ds vs)(e:atI vs i=some v):∃d,atI ds i=some d/\Rd P h d v:=by
 unfold atI at e ⊢
 rw[r.len]
 cases q:ixN vs.length i with
 |none=>rw[q] at e;cases e
 |some j=>rw[q] at e;exact r.get e
def Oi:RO gIx aIx:=λP h d1 d2 v1 v2 r1 r2=>by
 unfold aIx
 split
 ·rename_i xs i e1
  obtain⟨ds,e2,q⟩:=r1.items e1
  obtain rfl:=r2.int
  split
  ·rename_i v e3
   obtain⟨d,e4,q2⟩:=NK q e3
   exact⟨d,by unfold gIx;rw[e2];dsimp only;rw[e4],q2⟩
  ·trivial
 ·trivial
end
mutual
def dX:Nat->Val->Option PyData
 |0,_=>none
 |_+1,.non=>some .none
 |_+1,.bl b=>some (.bool b)
 |_+1,.int i=>some (.int i)
 |_+1,.str x=>some (.str x)
 |k+1,.tup xs=>(fQ k xs).map .tuple
 |k+1,.lst xs=>(fQ k xs).map .list
 |_+1,_=>none
def fQ:Nat->List Val->Option (List PyData)
 |_,[]=>some []
 |k,x::xs=>match dX k x,fQ k xs with
  |some a,some b=>some (a::b)
  |_,_=>none
end
def CO(hk:∀d v pd,Rd P h d v->dX k v=some pd->fJ k h d=some pd):∀{ds:List D}{vs:List Val}{ps:List PyData},Rds P h ds vs->fQ k vs=some ps->ds.mapM (fJ k h)=some ps:=by
 intro ds
 induction ds with
 |
  nil=>
  intro vs ps r q
  cases r
  unfold fQ at q
  cases q
  rfl
 |
  cons d0 ds ih=>
  intro vs ps r q
  cases r with
  |
   cons r rr=>
   unfold fQ at q
   split at q
   ·rename_i a b e1 e2
    cases q
    rw[Su,hk _ _ _ r e1,ih rr e2];rfl
   ·cases q
theorem qz:∀(k:Nat) (d:D) (v:Val) (pd:PyData),ShR P h d v->dX k v=some pd->fJ k h d=some pd
 |0,_,_,_,_,q=>by unfold dX at q;cases q
 |
  k+1,d,v,pd,r,q=>by
  have ih:∀{ds:List D}{vs:List Val}{ps:List PyData},Rds P h ds vs->fQ k vs=some ps->ds.mapM (fJ k h)=some ps:=CO λd v pd r q=>qz k d v pd (.inl r) q
  cases v with
  |non=>obtain rfl:=r.non;simp only[dX] at q;cases q;rfl
  |bl b=>obtain rfl:=r.bl;simp only[dX] at q;cases q;rfl
  |int b=>obtain rfl:=r.int;simp only[dX] at q;cases q;rfl
  |str b=>obtain rfl:=r.str;simp only[dX] at q;cases q;rfl
  |
   tup xs=>
   obtain⟨ds,rfl,r2⟩:=r.tup
   simp only[dX] at q
   obtain⟨ps,q1,rfl⟩:=QS.mp q
   show (ds.mapM (fJ k h)).map PyData.tuple=_
   rw[ih r2 q1];rfl
  |
   lst xs=>
   obtain⟨n,ds,rfl,_,e1,r2⟩:=r.lst
   simp only[dX] at q
   obtain⟨ps,q1,rfl⟩:=QS.mp q
   unfold fJ
   rw[e1]
   show (ds.mapM (fJ k h)).map PyData.list=_
   rw[ih r2 q1];rfl
  |_=>simp only[dX] at q;cases q
def dA(x y:Val):Option Bool:=match dX 164 x,dX 164 y with
 |some a,some b=>if shp a=true/\shp b=true then some (PyData.eqv a b) else none
 |_,_=>none
def aEq(neg:Bool):Val->Val->Bv:=λx y=>match dA x y with
 |some b=>.val (.bl (if neg then !b else b))
 |none=>.stuck
def Lh(r1:ShR P h d1 v1)(r2:ShR P h d2 v2)(q:dA v1 v2=some b):uf h d1 d2=some b:=by
 unfold dA at q
 split at q
 ·rename_i a c e1 e2
  unfold uf
  rw[qz 164 _ _ _ r1 e1,qz 164 _ _ _ r2 e2]
  exact q
 ·cases q
def EK(neg:Bool):RO (gEq neg) (aEq neg):=λP h d1 d2 v1 v2 r1 r2=>by
 unfold aEq
 split
 ·rename_i b q
  exact⟨_,by unfold gEq;rw[Lh r1 r2 q],.bl _⟩
 ·trivial
noncomputable def tD:Val->Bool
 |.non=>true
 |.bl _=>true
 |.int _=>true
 |.str _=>true
 |_=>false
noncomputable def xG:Val->V
 |.bl b=>.bl b
 |.int i=>.int i
 |.str x=>.str x
 |_=>.non
def eq1(x y:Val):Bool:=eqV (xG x) (xG y)
def aIn(neg:Bool):Val->Val->Bv:=λx y=>match y.items with
 |some xs=>if tD x=true/\xs.all tD=true then .val (.bl (if neg then !(xs.any λd=>eq1 d x) else xs.any λd=>eq1 d x)) else .stuck
 |none=>.stuck
def wG(r:ShR P h d v)(f:tD v=true):nz d=true/\toV d=xG v:=by
 cases v with
 |non=>obtain rfl:=r.non;exact⟨rfl,rfl⟩
 |bl b=>obtain rfl:=r.bl;exact⟨rfl,rfl⟩
 |int b=>obtain rfl:=r.int;exact⟨rfl,rfl⟩
 |str b=>obtain rfl:=r.str;exact⟨rfl,rfl⟩
 |_=>cases f
def B8(x:D)(y:Val)(hx:toV x=xG y):∀{ds:List D}{vs:List Val},Rds P h ds vs->vs.all tD=true->ds.all nz=true/\(ds.any λd=>eqF d x)=vs.any λd=>eq1 d y:=by
 intro ds
 induction ds with
 |
  nil=>
  intro vs r f
  cases r
  exact⟨rfl,rfl⟩
 |
  cons d0 ds ih=>
  intro vs r f
  cases r with
  |
   cons r rr=>
   rw[Sg,Qy] at f
   obtain⟨h1,h2⟩:=wG (.inl r) f.1
   obtain⟨h3,h4⟩:=ih rr f.2
   refine⟨by rw[Sg,h1,h3];rfl,?_⟩
   rw[Rw,Rw,h4]
   unfold eqF eq1
   rw[h2,hx]
def Mv(neg:Bool):RO (gIn neg) (aIn neg):=λP h d1 d2 v1 v2 r1 r2=>by
 unfold aIn
 split
 ·rename_i xs e
  obtain⟨ds,e2,q⟩:=r2.items e
  split
  ·rename_i hf
   obtain⟨f1,f2⟩:=wG r1 hf.1
   obtain⟨f3,f4⟩:=B8 d1 v1 f2 q hf.2
   exact⟨_,by unfold gIn;rw[e2];dsimp only;rw[if_pos ⟨f1,f3⟩,f4],.bl _⟩
  ·trivial
 ·trivial
def yq(neg:Bool):Val->Val->Bv:=λx y=>match x,y with
 |.non,.non=>.val (.bl (!neg))
 |_,.non=>.val (.bl neg)
 |_,_=>.stuck
def AJ(neg:Bool):RO (mT neg) (yq neg):=λP h d1 d2 v1 v2 r1 r2=>by
 unfold yq
 split
 ·obtain rfl:=r1.non;obtain rfl:=r2.non;exact⟨_,rfl,.bl _⟩
 ·rename_i hn
  obtain rfl:=r2.non
  have:d1 ≠ .non:=by
   rintro rfl
   rcases r1 with r |⟨n,o,z,_⟩
   ·cases r;exact hn rfl
   ·cases z
  refine⟨_,?_,.bl neg⟩
  unfold mT
  split
  ·exact absurd rfl this
  ·rfl
  ·rename_i h1 h2;exact (h1 rfl).elim
 ·trivial
def Cd:List Val->Bv:=λvs=>match vs with
 | [v]=>(match v.items with
  |some xs=>.val (.int xs.length)
  |none=>(match v with
   |.str z=>if z.length<=16777216 then .val (.int z.length) else .stuck
   |_=>.stuck))
 |_=>.stuck
def Cb:List Val->Bv:=λvs=>match vs with
 | [.int i]=>.val (.int (if i<0 then -i else i))
 |_=>.stuck
def yI:List Val->Bv:=λvs=>match vs with
 | [.int i,.int j]=>.val (.int (if j>i then j else i))
 |_=>.stuck
def xQ:List Val->Bv:=λvs=>match vs with
 | [.int i,.int j]=>.val (.int (if j<i then j else i))
 |_=>.stuck
noncomputable def mE:List Val->Option (List Bool)
 | []=>some []
 |.bl b::r=>(mE r).map (b :: ·)
 |_=>none
noncomputable def kX:List Val->Option (List Int)
 | []=>some []
 |.int b::r=>(kX r).map (b :: ·)
 |_=>none
def BD:List Val->Bv:=λvs=>match vs with
 | [.lst xs]=>(match mE xs with
  |some bs=>.val (.bl (bs.all id))
  |none=>.stuck)
 |_=>.stuck
def BN:List Val->Bv:=λvs=>match vs with
 | [.lst xs]=>(match kX xs with
  |some bs=>.val (.int bs.sum)
  |none=>.stuck)
 |_=>.stuck
def uj:List Val->Bv:=λvs=>match vs with
 | [v]=>(match v.items with
  |some xs=>.val (.tup xs)
  |none=>.stuck)
 |_=>.stuck
def CI:List Val->Bv:=λvs=>match vs with
 | [.int i]=>.val (.int i)
 | [.bl b]=>.val (.int (if b then 1 else 0))
 |_=>.stuck
def IM:RFn tM Cd:=λP h ds vs r=>by
 unfold Cd
 split
 ·obtain⟨d,hd,rr1⟩:=jc r;subst hd;clear r;have r:=rr1
  split
  ·rename_i xs e
   obtain⟨es,e2,q⟩:=r.items e
   exact⟨_,by unfold tM;dsimp only;rw[e2],by rw[<- q.len];exact .int _⟩
  ·split
   ·rename_i z _
    obtain rfl:=r.str
    split
    ·rename_i hl;exact⟨_,by show (if z.length<=16777216 then _ else _)=_;rw[if_pos hl],.int _⟩
    ·trivial
   ·trivial
 ·trivial
def Lk:RFn yK Cb:=λP h ds vs r=>by
 unfold Cb
 split
 ·obtain⟨d,hd,rr1⟩:=jc r;subst hd;clear r;have r:=rr1;obtain rfl:=r.int;exact⟨_,rfl,.int _⟩
 ·trivial
def Gr:RFn tE yI:=λP h ds vs r=>by
 unfold yI
 split
 ·obtain⟨d,d',hd,rr1,r'⟩:=yZ r;subst hd;clear r;have r:=rr1;obtain rfl:=r.int;obtain rfl:=r'.int;exact⟨_,rfl,.int _⟩
 ·trivial
def EY:RFn tq xQ:=λP h ds vs r=>by
 unfold xQ
 split
 ·obtain⟨d,d',hd,rr1,r'⟩:=yZ r;subst hd;clear r;have r:=rr1;obtain rfl:=r.int;obtain rfl:=r'.int;exact⟨_,rfl,.int _⟩
 ·trivial
def Nz:∀{ds:List D}{vs:List Val}{bs:List Bool},Rds P h ds vs->mE vs=some bs->jP ds=some bs:=by
 intro ds
 induction ds with
 |
  nil=>
  intro vs bs r q
  cases r
  cases q
  rfl
 |
  cons d0 ds ih=>
  intro vs bs r q
  cases r with
  |
   cons r rr=>
   rename_i v vs
   cases v with
   |
    bl b=>
    obtain rfl:=ShR.bl (.inl r)
    obtain⟨b',q1,rfl⟩:=QS.mp (show (mE vs).map (b :: ·)=some bs from q)
    show (jP _).map (b :: ·)=_
    rw[ih rr q1];rfl
   |_=>cases q
def Jf:∀{ds:List D}{vs:List Val}{bs:List Int},Rds P h ds vs->kX vs=some bs->iE ds=some bs:=by
 intro ds
 induction ds with
 |
  nil=>
  intro vs bs r q
  cases r
  cases q
  rfl
 |
  cons d0 ds ih=>
  intro vs bs r q
  cases r with
  |
   cons r rr=>
   rename_i v vs
   cases v with
   |
    int b=>
    obtain rfl:=ShR.int (.inl r)
    obtain⟨b',q1,rfl⟩:=QS.mp (show (kX vs).map (b :: ·)=some bs from q)
    show (iE _).map (b :: ·)=_
    rw[ih rr q1];rfl
   |_=>cases q
def Ls:RFn uG BD:=λP h ds vs r=>by
 unfold BD
 split
 ·obtain⟨d,hd,rr1⟩:=jc r;subst hd;clear r;have r:=rr1
  obtain⟨n,es,rfl,_,e1,q⟩:=r.lst
  split
  ·rename_i bs e2
   exact⟨_,by unfold uG;dsimp only;rw[e1];show (match jP es with |some bs=>_ |none=>_)=_;rw[Nz q e2],.bl _⟩
  ·trivial
 ·trivial
def Iu:RFn uS BN:=λP h ds vs r=>by
 unfold BN
 split
 ·obtain⟨d,hd,rr1⟩:=jc r;subst hd;clear r;have r:=rr1
  obtain⟨n,es,rfl,_,e1,q⟩:=r.lst
  split
  ·rename_i bs e2
   exact⟨_,by unfold uS;dsimp only;rw[e1];show (match iE es with |some bs=>_ |none=>_)=_;rw[Jf q e2],.int _⟩
  ·trivial
 ·trivial
def C4:RFn mM uj:=λP h ds vs r=>by
 unfold uj
 split
 ·obtain⟨d,hd,rr1⟩:=jc r;subst hd;clear r;have r:=rr1
  split
  ·rename_i xs e
   obtain⟨es,e2,q⟩:=r.items e
   exact⟨_,by unfold mM;dsimp only;rw[e2],.tup q⟩
  ·trivial
 ·trivial
def HR:RFn yn CI:=λP h ds vs r=>by
 unfold CI
 split
 ·obtain⟨d,hd,rr1⟩:=jc r;subst hd;clear r;have r:=rr1;obtain rfl:=r.int;exact⟨_,rfl,.int _⟩
 ·obtain⟨d,hd,rr1⟩:=jc r;subst hd;clear r;have r:=rr1;obtain rfl:=r.bl;exact⟨_,rfl,.int _⟩
 ·trivial
def tyC:Val->Option Cl
 |.non=>some (.b "NoneType")
 |.bl _=>some (.b "bool")
 |.int _=>some (.b "int")
 |.str _=>some (.b "str")
 |.tup _=>some (.b "tuple")
 |.exc x=>some (.o x)
 |.lst _=>some (.b "list")
 |.dct _=>some (.b "dict")
 |_=>none
noncomputable def clV:Val->Option Cl
 |.ty n=>some (.b n)
 |.glb x=>some (.o x)
 |_=>none
def yk:List Val->Option (List Cl)
 | []=>some []
 |v::vs=>match clV v,yk vs with
  |some c,some cs=>some (c::cs)
  |_,_=>none
def Na:Val->Option (List Cl)
 |.tup cs=>yk cs
 |v=>(clV v).map ([·])
def D5(kt:lz):List Val->Bv:=λvs=>match vs with
 | [v,c]=>(match tyC v,Na c with
  |some t,some (c0::cr)=>(match g6 kt t (c0::cr),kit kt t c0 with
   |some b,some _=>.val (.bl b)
   |_,_=>.stuck)
  |_,_=>.stuck)
 |_=>.stuck
def MH(r:ShR P h d v)(q:tyC v=some t):tyD h d=some t:=by
 cases v with
 |non=>obtain rfl:=r.non;exact q
 |bl b=>obtain rfl:=r.bl;exact q
 |int b=>obtain rfl:=r.int;exact q
 |str b=>obtain rfl:=r.str;exact q
 |exc b=>obtain rfl:=r.exc;exact q
 |tup b=>obtain⟨ds,rfl,_⟩:=r.tup;exact q
 |lst b=>obtain⟨n,ds,rfl,e,_⟩:=r.lst;unfold tyD;dsimp only;rw[e];exact q
 |dct b=>obtain⟨n,ds,rfl,e,_⟩:=r.dct;unfold tyD;dsimp only;rw[e];exact q
 |_=>cases q
def Eg(r:ShR P h d v)(q:clV v=some c):clD d=some c:=by
 cases v with
 |ty b=>obtain rfl:=r.ty;exact q
 |glb b=>obtain rfl:=r.glb;exact q
 |_=>cases q
def J5:∀{ds:List D}{vs:List Val}{cs:List Cl},Rds P h ds vs->yk vs=some cs->ds.mapM clD=some cs:=by
 intro ds
 induction ds with
 |
  nil=>
  intro vs cs r q
  cases r
  cases q
  rfl
 |
  cons d0 ds ih=>
  intro vs cs r q
  cases r with
  |
   cons r rr=>
   unfold yk at q
   split at q
   ·rename_i c cs' e1 e2
    cases q
    rw[Su,Eg (.inl r) e1,ih rr e2];rfl
   ·cases q
def JG(kt:lz):RFn (ve kt) (D5 kt):=λP h ds vs r=>by
 unfold D5
 split
 ·rename_i v c
  obtain⟨d,d',rfl,r1,r2⟩:=yZ r
  split
  ·rename_i t c0 cr e1 e2
   have e3:=MH r1 e1
   split
   ·rename_i b b' e4 e5
    refine⟨.bl b,?_,.bl b⟩
    unfold ve
    dsimp only
    rw[e3]
    dsimp only
    by_cases ht:∃cs,c=.tup cs
    ·obtain⟨cs,rfl⟩:=ht
     obtain⟨es,rfl,q⟩:=r2.tup
     dsimp only
     rw[J5 q e2]
     dsimp only
     rw[e4,e5]
    ·have e2':(clV c).map ([·])=some (c0::cr):=by
      cases c with
      |tup cs=>exact absurd ⟨cs,rfl⟩ ht
      |_=>exact e2
     obtain⟨cl,y1,y2⟩:=QS.mp e2'
     cases y2
     have y3:=Eg r2 y1
     have hd:∀cs,d' ≠ .tup cs:=λcs z=>by subst z;cases y3
     split
     ·rename_i cs;exact absurd rfl (hd cs)
     ·rw[y3]
      dsimp only
      have:kit kt t c0=some b:=by
       unfold g6 at e4
       rw[e5] at e4 ⊢
       cases b' with
       |true=>exact e4
       |false=>unfold g6 at e4;exact e4
      rw[this]
   ·trivial
  ·trivial
 ·trivial
def iI(xs:List Val)(lo hi:Option Int):List Val:=(xs.drop (HT.sIx xs.length 0 lo)).take (HT.sIx xs.length xs.length hi-HT.sIx xs.length 0 lo)
abbrev MO3:=E3->R3 (Option Int)
def CW(_:Ns)(_:E3)(_:AH)(b c:Option Int):Prop:=b=c
def ROp(F:MO)(G:MO3):Prop:=∀X h0 ns e ae h,Sat X h0 ns e ae h->Po X h0 ns e ae h CW (F ae h) (G e)
def A5:MO3:=λe=>.ok none e
def zF(F:ME3):MO3:=λe=>(F e).bind λt e1=>match rs e1 t with
 |some (.int i)=>.ok (some i) e1
 |_=>.stuck
def aSl(x:Val)(lo hi:Option Int):Bv:=match x with
 |.tup xs=>if HT.sIx xs.length 0 lo=0/\HT.sIx xs.length xs.length hi=xs.length then .stuck else .val (.tup (iI xs lo hi))
 |.lst xs=>.new (.lst (iI xs lo hi))
 |.kl xs=>.new (.lst (iI xs lo hi))
 |_=>.stuck
def vSl(F:ME3)(L U:MO3):ME3:=λe=>(F e).bind λt e1=>(L e1).bind λlo e2=>(U e2).bind λhi e3=>match rs e3 t.drop with
 |some v=>(aSl v lo hi).at e3
 |none=>.stuck
def FY:ROp yG A5:=λX h0 ns e ae h S=>Po.ret S rfl
def GV(hF:RE F F3):ROp (xX F) (zF F3):=λX h0 ns e ae h S=>
 Po.bind S (hF X h0 0 ns e ae h S (Q0 _)) λd t h1 ns1 e1 a1 S1 r1=>by
  by_cases hq:∃i,rs e1 t=some (.int i)
  ·obtain⟨i,hq⟩:=hq
   have hd:=(r1.sh S1 hq).int
   subst hd
   show Po X h0 ns1 e1 ae h1 CW (R.ok (some i) h1) (match rs e1 t with |some (.int i)=>R3.ok (some i) e1 |_=>.stuck)
   rw[hq]
   exact Po.ret S1 rfl
  ·have:(match rs e1 t with |some (.int i)=>R3.ok (some i) e1 |_=>.stuck)=(.stuck:R3 (Option Int)):=by
    split
    ·rename_i i q;exact absurd ⟨i,q⟩ hq
    ·rfl
   show Po X h0 ns1 e1 ae h1 CW _ (match rs e1 t with |some (.int i)=>R3.ok (some i) e1 |_=>.stuck)
   rw[this];trivial
def MF(hF:RE F F3)(hL:ROp L L3')(hU:ROp U U3):RE (eSl F L U) (vSl F3 L3' U3):=λX h0 LL ns e ae h S hl=>
 Po.bind
  S (hF X h0 LL ns e ae h S hl) λd t h1 ns1 e1 a1 S1 r1=>Po.bind S1 (hL X h0 ns1 e1 ae h1 S1) λlo lo' h2 dL e2 a2 S2 r2=>Po.bind S2 (hU X h0 dL e2 ae h2 S2) λhi hi' h3 ns3 e3 a3 S3 r3=>by
  cases r2;cases r3
  obtain⟨r1',hn⟩:=r1.drop
  have r4:=(r1'.stp S1 a2 hn).stp S2 a3 hn
  try dsimp only
  split
  ·rename_i v q
   have rr:=r4.sh S3 q
   refine BvR.po S3 (QI hl (QI a1.len (QI a2.len a3.len))) ?_
   unfold aSl
   split
   ·rename_i xs
    obtain⟨ds,rfl,q1⟩:=rr.tup
    split
    ·trivial
    ·rename_i hne
     refine⟨_,by unfold gSl;dsimp only;rw[if_neg (by rw[q1.len];exact hne)],.tup ?_⟩
     unfold L2.cutD iI
     rw[q1.len]
     exact (q1.drop _).take _
   ·rename_i xs
    obtain⟨n,ds,rfl,_,e1,q1⟩:=rr.lst
    refine⟨.lst (L2.cutD ds lo hi),by unfold gSl;dsimp only;rw[e1],trivial,.lst ?_⟩
    unfold L2.cutD iI
    rw[q1.len]
    exact (q1.drop _).take _
   ·rename_i xs
    have key:∃ds,gSl d lo hi h3=.ok (.ref h3.length) (h3++[.lst (L2.cutD ds lo hi)])/\Rds (Oc X ns3) h3 ds xs:=by
     rcases rr with rr |⟨n,o,rfl,e,rr⟩
     ·cases rr with
      |kl q1=>exact⟨_,rfl,q1⟩
      |cell p e rc=>cases rc with |fz q1=>exact⟨_,by unfold gSl bq;dsimp only;rw[e],q1⟩
     ·cases rr with |fz q1=>exact⟨_,by unfold gSl bq;dsimp only;rw[e],q1⟩
    obtain⟨ds,e1,q1⟩:=key
    refine⟨.lst (L2.cutD ds lo hi),e1,trivial,.lst ?_⟩
    unfold L2.cutD iI
    rw[q1.len]
    exact (q1.drop _).take _
   ·trivial
  ·trivial
def qX:Val->List Val->Option (Val×Val):=λu vs=>match u,vs with
 |.lst xs,[v]=>if xs.length<16777216 then some (.lst (xs++[v]),.non) else none
 |_,_=>none
def uC:Val->List Val->Option (Val×Val):=λu vs=>match u,vs with
 |.lst xs,[]=>(match xs[xs.length-1]? with
  |some v=>some (.lst xs.dropLast,v)
  |none=>none)
 |_,_=>none
section
variable{P:Nat->Prop}{h:AH}
def pf(e:h[n]?=some o)(r:Rc P h o (.lst xs)):l7 h (.ref n)=true/\∃ds,h[n]?=some (.lst ds)/\Rds P h ds xs/\∀f,iX h (.ref n) f=f n ds:=by
 obtain⟨ds,e1,e2,q⟩:=Rc.seq e r
 refine⟨by show (bq h n).isSome=true;rw[e2];rfl,ds,e1,q,λf=>?_⟩
 unfold iX;dsimp only;rw[e1]
def zj(r:Rds P h ds [v]):∃d,ds=[d]/\Rd P h d v:=by
 cases r with |cons r rr=>cases rr;exact⟨_,rfl,r⟩
end
def AK:RM dZ qX:=λP h n o u ds vs u' v e hf r rs q=>by
 unfold qX at q
 split at q
 ·split at q
  ·rename_i hl
   cases q
   obtain⟨q1,es,q2,q3,q4⟩:=pf e r
   obtain⟨d,rfl,rd⟩:=zj rs
   refine⟨q1,.lst (es++[d]),.non,?_,trivial,.lst (q3.append (.cons rd .nil)),.non⟩
   unfold dZ;rw[q4];dsimp only;rw[if_pos (by rw[q3.len];exact hl)]
  ·cases q
 ·cases q
def Kk:RM xK uC:=λP h n o u ds vs u' v e hf r rs q=>by
 unfold uC at q
 split at q
 ·split at q
  ·rename_i w hw
   cases q
   obtain⟨q1,es,q2,q3,q4⟩:=pf e r
   cases rs
   obtain⟨d,e2,rd⟩:=q3.get hw
   refine⟨q1,.lst es.dropLast,d,?_,trivial,.lst ?_,rd⟩
   ·unfold xK;rw[q4];dsimp only;rw[q3.len,e2]
   ·rw[Ss,Ss,q3.len];exact q3.take _
  ·cases q
 ·cases q
def sL:Val->Val->Val->Option Val:=λu i v=>match u,i with
 |.lst xs,.int k=>(match ixN xs.length k with
  |some j=>some (.lst (xs.set j v))
  |none=>none)
 |_,_=>none
def Lu:yN wL sL:=λP h n o u di vi d v u' _ e hf r ri rd q=>by
 unfold sL at q
 split at q
 ·split at q
  ·rename_i j hj
   cases q
   obtain⟨q1,es,q2,q3,q4⟩:=pf e r
   obtain rfl:=ri.int
   refine⟨.lst (es.set j d),?_,trivial,.lst (q3.set rd j)⟩
   unfold wL;dsimp only;rw[q2];dsimp only;rw[q3.len,hj]
  ·cases q
 ·cases q
def vD0:ME3:=λe=>.ok (.new (.dct [])) e
def MU:RE eD0 vD0:=λX h0 L ns e ae h S hl=>BvR.po (r:=eD0 ae h) (b:=.new (.dct [])) S hl ⟨.dct [],rfl,trivial,.dct .nil⟩
structure PEx where
 F:ME
 G:ME3
 ok:RE F G
structure PTs where
 F:MT
 G:MT3
 ok:RT F G
structure PAs where
 F:MA
 G:MA3
 ok:RA F G
structure PSt where
 F:MS
 G:MS3
 ok:RS F G
structure PGt where
 F:MG
 G:MG3
 ok:RG F G
structure PGs where
 F:MGs
 G:ml
 ok:RGs F G
structure PIt where
 F:MI
 G:MI3
 ok:RI F G
structure POp where
 F:MO
 G:MO3
 ok:ROp F G
structure PO2 where
 F:D->D->AH->R D
 G:Val->Val->Bv
 ok:RO F G
structure PU1 where
 F:D->AH->R D
 G:Val->Bv
 ok:RU F G
structure PBf where
 F:Fn
 G:List Val->Bv
 ok:RFn F G
structure PMm where
 F:D->List D->AH->R D
 G:Val->List Val->Option (Val×Val)
 ok:RM F G
structure PMv where
 F:D->List D->AH->R D
 G:Val->List Val->Bv
 ok:RMv F G
structure PSe where
 F:D->D->D->AH->R Unit
 G:Val->Val->Val->Option Val
 ok:yN F G
structure PFn where
 ms:List Bool
 F:Fn
 G:Fn3
 ok:RF ms F G
structure PFx(ms:List Bool) where
 F:Fn
 G:Fn3
 ok:RF ms F G
noncomputable section
def PFx.fn{ms:List Bool}(p:PFx ms):PFn:=⟨ms,p.F,p.G,p.ok⟩
def ah(i:Nat):PEx:=⟨ba i,DH i,Kr i⟩
def aq(i:Int):PEx:=⟨eC (.int i),vC (.int i),qH λ_ _=>.int i⟩
def pBl(i:Bool):PEx:=⟨eC (.bl i),vC (.bl i),qH λ_ _=>.bl i⟩
def bH(i:Str):PEx:=⟨eC (.str i),vC (.str i),qH λ_ _=>.str i⟩
def oE:PEx:=⟨eC .non,vC .non,qH λ_ _=>.non⟩
def pTy(i:String):PEx:=⟨eC (.ty i),vC (.ty i),qH λ_ _=>.ty i⟩
def vp(d:D)(v:Val)(r:∀P h,Rd P h d v):PEx:=⟨eC d,vC v,qH r⟩
def pUn(o:PU1)(a:PEx):PEx:=⟨eUn o.F a.F,vUn o.G a.G,N3 o.ok a.ok⟩
def pOp(o:PO2)(a b:PEx):PEx:=⟨eOp o.F a.F b.F,vOp o.G a.G b.G,Nn o.ok a.ok b.ok⟩
def ao:PAs:=⟨fK,rb,zB⟩
def ag(a:PEx)(r:PAs):PAs:=⟨eR a.F r.F,Ez a.G r.G,FR a.ok r.ok⟩
def pFn(o:PBf)(a:PAs):PEx:=⟨eFn o.F a.F,vFn o.G a.G,Nt o.ok a.ok⟩
def cJ(a:PAs):PEx:=⟨eFn pK a.F,vTup a.G,HW a.ok⟩
def dg(a:PAs):PEx:=⟨eFn cE a.F,vLst a.G,HU a.ok⟩
def lX(a b:PEx):PEx:=⟨CN a.F b.F,vAnd a.G b.G,K1 a.ok b.ok⟩
def CC(a:PEx):PEx:=⟨C2 a.F,vNot a.G,Je a.ok⟩
def pIf(c:PTs)(a b:PEx):PEx:=⟨eIf c.F a.F b.F,vIf c.G a.G b.G,LC c.ok a.ok b.ok⟩
def qOf(a:PEx):PTs:=⟨tOf a.F,cOf a.G,L8 a.ok⟩
def qTr(a:PEx):PTs:=⟨tTr a.F,cTr a.G,Om a.ok⟩
def qAn(a b:PTs):PTs:=⟨tAn a.F b.F,cAn a.G b.G,Ly a.ok b.ok⟩
def qO(a b:PTs):PTs:=⟨tO a.F b.F,cO a.G b.G,rt_o a.ok b.ok⟩
def qNo(a:PTs):PTs:=⟨tNo a.F,cNo a.G,N0 a.ok⟩
def qY:PTs:=⟨tY,cY,rt_y⟩
def xNx:PSt:=⟨sNx,wNx,MZ⟩
def yH:PSt:=⟨yQ,Ep,G8⟩
def aO(a:PEx):PSt:=⟨CU a.F,wRet a.G,Jk a.ok⟩
def dC(a:PEx):PSt:=⟨iP a.F,D9 a.G,EO a.ok⟩
def az(a b:PSt):PSt:=⟨jk a.F b.F,wSeq a.G b.G,IJ a.ok b.ok⟩
def xIf(c:PTs)(a b:PSt):PSt:=⟨sIf c.F a.F b.F,wIf c.G a.G b.G,N9 c.ok a.ok b.ok⟩
def aQ(o:Bool)(i:Nat)(a:PEx):PSt:=⟨iJ a.F (gN i),wAsg o i a.G,HQ o i a.ok⟩
def gtN(i:Nat):PGt:=⟨gN i,pN i,vO i⟩
def eX:PGs:=⟨gsN,psN,Nr⟩
def bB(a:PGt)(b:PGs):PGs:=⟨gsC a.F b.F,psC a.G b.G,NY a.ok b.ok⟩
def gtT(n:Nat)(a:PGs):PGt:=⟨gT λds ae h=>if ds.length=n then a.F ds ae h else .stuck,pT n a.G,rg_t n a.ok⟩
def gtX(a:PGt):PGt:=⟨λd ae h=>noX (a.F d ae h),a.G,Jt a.ok⟩
def lR(a:PEx)(g:PGt):PSt:=⟨iJ a.F g.F,Eu a.G g.G,Gq a.ok g.ok⟩
def gh(i j:Nat)(a:PAs):PSt:=⟨BI i j a.F,wPar i j a.G,Kg i j a.ok⟩
def Ds(i:Nat)(o:PO2)(a:PEx):PSt:=⟨vw i o.F a.F,B9 i o.G a.G,JP i o.ok a.ok⟩
def fU(c:Str)(a:PAs):PSt:=⟨ud c a.F,AA c a.G,Dj c a.ok⟩
def vj(i:Nat)(w:PSe)(k a:PEx):PSt:=⟨iJ a.F (gS (ba i) k.F w.F),wSet i k.G a.G w.G,Ll i w.ok k.ok a.ok⟩
def mD(i:Nat)(m:PMm)(a:PAs):PEx:=⟨eM m.F (ba i) a.F,n6 i m.G a.G,Bo i m.ok a.ok⟩
def sU(i:Nat)(m:PMm):PEx:=⟨eM0 m.F (ba i),n6 i m.G rb,Fg i m.ok⟩
def bZ(a:PEx):PIt:=⟨C8 a.F,ED a.G,Lr a.ok⟩
def jL(a:PAs):PIt:=⟨DY a.F,D1 jG a.G,IQ a.ok⟩
def ye(a:PAs):PIt:=⟨Cs a.F,EE a.G,JC a.ok⟩
def yO(a:PAs):PIt:=⟨CG a.F,Ej a.G,HZ a.ok⟩
def jC(i:PIt)(g:PGt)(b:PSt):PSt:=⟨qF i.F g.F b.F,wFor i.G g.G b.G,Ip i.ok g.ok b.ok⟩
def xWh(c:PTs)(b:PSt):PSt:=⟨sWh c.F b.F,wWh c.G b.G,Oo c.ok b.ok⟩
def pLC(i:PIt)(sub:Ud)(hs:(sub.filterMap id).Nodup)(g:PGt)(c:PTs)(a:PEx):PEx:=⟨eLC i.F sub g.F c.F a.F,vLC i.G sub g.G c.G a.G,Mm hs i.ok g.ok c.ok a.ok⟩
def ax(f:PFn)(a:PAs):PEx:=⟨xU f.ms.length f.F a.F,EH f.ms f.G a.G,GB rfl f.ok a.ok⟩
def oN:POp:=⟨yG,A5,FY⟩
def oS(a:PEx):POp:=⟨xX a.F,zF a.G,GV a.ok⟩
def pSl(a:PEx)(l u:POp):PEx:=⟨eSl a.F l.F u.F,vSl a.G l.G u.G,MF a.ok l.ok u.ok⟩
def pD0:PEx:=⟨eD0,vD0,MU⟩
noncomputable def PFx.none(ms:List Bool)(N:Nat:=0):PFx ms:=⟨λ_ _=>.stuck,λ_=>.stuck,λ_ _ _ _ _ _ _=>trivial⟩
def PFx.of(ms:List Bool)(N:Nat)(c:PSt):PFx ms:=⟨fnD N c.F,fnV ms N c.G,Es c.ok⟩
def fnP(ms:List Bool)(N:Nat)(c:PSt):PFn:=⟨ms,fnD N c.F,fnV ms N c.G,Es c.ok⟩
def aY:PO2:=⟨yB,C6,Jz⟩
def gB:PO2:=⟨Bz,aMin,JM⟩
def dF:PO2:=⟨DR,yt,Hx⟩
def g0:PO2:=⟨Dz,yj,IT⟩
def cB:PO2:=⟨C7,yX,Ht⟩
def fL:PO2:=⟨C3,zf,JY⟩
def uq:PO2:=⟨Dv,yf,HF⟩
def bLt:PO2:=⟨gLt,aLt,LB⟩
def bGt:PO2:=⟨gGt,aGt,Oq⟩
def bGe:PO2:=⟨gGe,aGe,Md⟩
def bIx:PO2:=⟨gIx,aIx,Oi⟩
def bEq:PO2:=⟨gEq false,aEq false,EK false⟩
def bNe:PO2:=⟨gEq true,aEq true,EK true⟩
def bIn:PO2:=⟨gIn false,aIn false,Mv false⟩
def bIs:PO2:=⟨mT false,yq false,AJ false⟩
def yc:PO2:=⟨mT true,yq true,AJ true⟩
def Bu:PO2:=⟨gI λi j=>.int (i+j),aI λi j=>.int (i+j),uN λ_ _ _ _=>.int _⟩
def CB:PU1:=⟨yE,Dw,Kq⟩
def cL:PBf:=⟨tM,Cd,IM⟩
def ip:PBf:=⟨yK,Cb,Lk⟩
def uJ:PBf:=⟨tE,yI,Gr⟩
def oU:PBf:=⟨tq,xQ,EY⟩
def tF:PBf:=⟨uG,BD,Ls⟩
def pB:PBf:=⟨uS,BN,Iu⟩
def jj:PBf:=⟨mM,uj,C4⟩
def xW:PBf:=⟨yn,CI,HR⟩
def bc(kt:lz):PBf:=⟨ve kt,D5 kt,JG kt⟩
def jA:PMm:=⟨dZ,qX,AK⟩
def sW:PMm:=⟨xK,uC,Kk⟩
def seL:PSe:=⟨wL,sL,Lu⟩
end
theorem qb:∀(ns:List Int),Rds P h (ns.map D.int) (ns.map Val.int)
 | []=>.nil
 |_::r=>.cons (.int _) (qb r)
def law3(p:PFn)(hm:p.ms=[false])(hG:∀ns:List Int,ns.length<=63->p.G [.kl (ns.map .int)]=.ok (.val (.bl true)) [])(d:D)(h:AH)(ns:List Int)(hl:ns.length<=63)(sc:Script h d ns):∃h',p.F [d] h=.ok (.bl true) h':=by
 have hp:=p.ok
 rw[hm] at hp
 have rd:Rd (Oc (λ_=>False) [none]) h d (.kl (ns.map .int)):=by
  rcases sc.form with ⟨n,rfl,e⟩ |rfl
  ·exact .cell ⟨λz=>z,by simp⟩ e (.fz (qb ns))
  ·exact .kl (qb ns)
 have S:Sat (λ_=>False) h.length [none] (sls [false] [.kl (ns.map .int)]) ([d].map some) h:=by
  refine⟨rfl,rfl,Qu _,λ_ z=>z.elim,λi j n q=>?_,λi n q z=>z,λi s q=>?_⟩
  ·cases i with
   |zero=>simp at q
   |succ i=>simp at q
  ·cases i with
   |
    zero=>
    have:sl1 false (.kl (ns.map .int))=s:=by simpa [sls] using q
    subst this
    exact⟨rfl,d,rfl,rd⟩
   |succ i=>simp [sls] at q
 have:=hp _ _ [d] [.kl (ns.map .int)] h rfl S
 rw[hG ns hl] at this
 obtain⟨d',h',e,_,_,r⟩:=this
 cases r with
 |bl=>exact⟨h',e⟩
 |cell p e r=>cases r
section
variable(e:E3)
@[simp] theorem lY(a:α)(f:α->E3->R3 β):(R3.ok a e).bind f=f a e:=rfl
@[simp] theorem NO(a:α)(f:α->E3->SR3):(R3.ok a e).toS f=f a e:=rfl
@[simp] theorem MY(f:E3->SR3):(SR3.nx e).then f=f e:=rfl
@[simp] theorem Nb(r:Rt)(f:E3->SR3):(SR3.rt r e).then f=.rt r e:=rfl
@[simp] theorem IV(c:Str)(f:E3->SR3):(SR3.exc c e).then f=.exc c e:=rfl
@[simp] theorem sY(f:E3->SR3):(SR3.nx e).loop f=f e:=rfl
@[simp] theorem EL(f:E3->SR3):(SR3.ct e).loop f=f e:=rfl
@[simp] theorem Ms(r:SR3):r.unl none=r:=by cases r <;> rfl
@[simp] theorem Cm:lockO e none=e:=rfl
@[simp] theorem yu:gn e none=e:=rfl
@[simp] theorem KS(v:Val):(Bv.val v).at e=.ok (.val v) e:=rfl
@[simp] theorem Hr(v:Val):(Bv.new v).at e=.ok (.new v) e:=rfl
@[simp] theorem JI(v:Val):rs e (.val v)=some v:=rfl
@[simp] theorem JS(v:Val):rs e (.new v)=some v:=rfl
@[simp] theorem Kb(i:Nat):rs e (.bor i)=(e[i]?).bind Sl.val:=rfl
@[simp] theorem Ju(v:Val):(Tm.val v).drop=.val v:=rfl
@[simp] theorem Lv(v:Val):(Tm.new v).drop=.val v:=rfl
@[simp] theorem Il(i:Nat):(Tm.bor i).drop=.bor i:=rfl
@[simp] theorem GQ:rss e []=some []:=rfl
@[simp] theorem BO(t:Tm)(ts:List Tm):rss e (t::ts)=match rs e t,rss e ts with
 |some v,some vs=>some (v::vs)
 |_,_=>none:=rfl
@[simp] theorem Hk(v:Val):dG e (.val v)=some (e,v):=rfl
@[simp] theorem z8:dem e []=some (e,[]):=rfl
@[simp] theorem Fp(t:Tm)(ts:List Tm):dem e (t::ts)=match dG e t with
 |some (e1,v)=>match dem e1 ts with
  |some (e2,vs)=>some (e2,v::vs)
  |none=>none
 |none=>none:=rfl
@[simp] theorem J3(b:Bool):bOf (some (.bl b))=some b:=rfl
@[simp] theorem N4(i:Nat):(ah i).G e=match e[i]? with
 |some (.sh v)=>.ok (.val v) e
 |some .no=>.stuck
 |some _=>.ok (.bor i) e
 |none=>.stuck:=rfl
@[simp] theorem MC(i:Int):(aq i).G e=.ok (.val (.int i)) e:=rfl
@[simp] theorem v_bl(i:Bool):(pBl i).G e=.ok (.val (.bl i)) e:=rfl
@[simp] theorem Mz(i:Str):(bH i).G e=.ok (.val (.str i)) e:=rfl
@[simp] theorem Nh:oE.G e=.ok (.val .non) e:=rfl
@[simp] theorem v_ty(i:String):(pTy i).G e=.ok (.val (.ty i)) e:=rfl
@[simp] theorem v_un(o:PU1)(a:PEx):(pUn o a).G e=(a.G e).bind λt e1=>match rs e1 t with
 |some v=>(o.G v).at e1
 |none=>.stuck:=rfl
@[simp] theorem v_op(o:PO2)(a b:PEx):(pOp o a b).G e=(a.G e).bind λt1 e1=>(b.G e1).bind λt2 e2=>match rs e2 t1.drop,rs e2 t2 with
 |some v1,some v2=>(o.G v1 v2).at e2
 |_,_=>.stuck:=rfl
@[simp] theorem Nc:ao.G e=.ok [] e:=rfl
@[simp] theorem HK(a:PEx)(r:PAs):(ag a r).G e=(a.G e).bind λt e1=>(r.G e1).bind λts e2=>.ok (t.drop::ts) e2:=rfl
@[simp] theorem v_fn(o:PBf)(a:PAs):(pFn o a).G e=(a.G e).bind λts e1=>match rss e1 ts with
 |some vs=>(o.G vs).at e1
 |none=>.stuck:=rfl
@[simp] theorem NM(a:PAs):(cJ a).G e=(a.G e).bind λts e1=>match dem e1 ts with
 |some (e2,vs)=>if vs.length<=16777216 then .ok (.val (.tup vs)) e2 else .stuck
 |none=>.stuck:=rfl
@[simp] theorem NF(a:PAs):(dg a).G e=(a.G e).bind λts e1=>match dem e1 ts with
 |some (e2,vs)=>if vs.length<=16777216 then .ok (.new (.lst vs)) e2 else .stuck
 |none=>.stuck:=rfl
@[simp] theorem MR(a b:PEx):(lX a b).G e=(a.G e).bind λt e1=>match bOf (rs e1 t) with
 |some true=>b.G e1
 |some false=>.ok (.val (.bl false)) e1
 |none=>.stuck:=rfl
@[simp] theorem Nd(a:PEx):(CC a).G e=(a.G e).bind λt e1=>match bOf (rs e1 t) with
 |some b=>.ok (.val (.bl (!b))) e1
 |none=>.stuck:=rfl
@[simp] theorem v_if(c:PTs)(a b:PEx):(pIf c a b).G e=(c.G e).bind λk e1=>if k=true then a.G e1 else b.G e1:=rfl
@[simp] theorem c_of(a:PEx):(qOf a).G e=(a.G e).bind λt e1=>match bOf (rs e1 t) with
 |some b=>.ok b e1
 |none=>.stuck:=rfl
@[simp] theorem c_tr(a:PEx):(qTr a).G e=(a.G e).bind λt e1=>match (rs e1 t).bind mV with
 |some b=>.ok b e1
 |none=>.stuck:=rfl
@[simp] theorem c_an(a b:PTs):(qAn a b).G e=(a.G e).bind λk e1=>if k=true then b.G e1 else .ok false e1:=rfl
@[simp] theorem c_o(a b:PTs):(qO a b).G e=(a.G e).bind λk e1=>if k=true then .ok true e1 else b.G e1:=rfl
@[simp] theorem c_no(a:PTs):(qNo a).G e=(a.G e).bind λk e1=>.ok (!k) e1:=rfl
@[simp] theorem x_nx:xNx.G e=.nx e:=rfl
@[simp] theorem Ku:yH.G e=.rt (.val .non) e:=rfl
@[simp] theorem M4(a:PEx):(aO a).G e=(a.G e).toS qA:=rfl
@[simp] theorem FK(v:Val):qA (.val v) e=.rt (.val v) e:=rfl
@[simp] theorem E7(v:Val):qA (.new v) e=.rt (.new v) e:=rfl
@[simp] theorem FE(i:Nat):qA (.bor i) e=match e[i]? with
 |some (.sh v)=>.rt (.val v) e
 |some (.ow v)=>.rt (.new v) (e.set i .no)
 |some (.mu _)=>.rt (.par i) e
 |_=>.stuck:=rfl
@[simp] theorem KO(a:PEx):(dC a).G e=(a.G e).toS λ_ e1=>.nx e1:=rfl
@[simp] theorem EI(a b:PSt):(az a b).G e=(a.G e).then b.G:=rfl
@[simp] theorem x_if(c:PTs)(a b:PSt):(xIf c a b).G e=(c.G e).toS λk e1=>if k=true then a.G e1 else b.G e1:=rfl
@[simp] theorem Lz(o:Bool)(i:Nat)(a:PEx):(aQ o i a).G e=(a.G e).toS (kf o i):=rfl
@[simp] theorem NT:Sl.no.pl=true:=rfl
@[simp] theorem M0(v:Val):(Sl.sh v).pl=true:=rfl
@[simp] theorem F2(o:Bool)(i:Nat)(v:Val):kf o i (.val v) e=match e[i]? with
 |some s0=>if s0.pl=true then .nx (e.set i (.sh v)) else .stuck
 |none=>.stuck:=by unfold kf;rfl
@[simp] theorem Cy(i:Nat)(v:Val):kf true i (.new v) e=match e[i]? with
 |some s0=>if s0.pl=true then .nx (e.set i (.ow v)) else .stuck
 |none=>.stuck:=by unfold kf;rfl
@[simp] theorem BL(i:Nat)(v:Val):kf false i (.new v) e=match e[i]? with
 |some s0=>if s0.pl=true then .nx (e.set i (.sh v)) else .stuck
 |none=>.stuck:=by unfold kf;rfl
@[simp] theorem g_n(i:Nat)(v:Val):(gtN i).G v e=match e[i]? with
 |some s=>if s.pl=true then some (e.set i (.sh v)) else none
 |none=>none:=rfl
@[simp] theorem g_sn:eX.G [] e=some e:=rfl
@[simp] theorem g_sc(a:PGt)(b:PGs)(v:Val)(vs:List Val):(bB a b).G (v::vs) e=(a.G v e).bind λe1=>b.G vs e1:=rfl
@[simp] theorem g_t(n:Nat)(a:PGs)(vs:List Val):(gtT n a).G (.tup vs) e=if vs.length=n then a.G vs e else none:=rfl
@[simp] theorem g_x(a:PGt)(v:Val):(gtX a).G v e=a.G v e:=rfl
@[simp] theorem Ir(a:PEx)(g:PGt):(lR a g).G e=(a.G e).toS λt e1=>match dG e1 t with
 |some (e2,v)=>match g.G v e2 with
  |some e3=>.nx e3
  |none=>.stuck
 |none=>.stuck:=rfl
@[simp] theorem M5(i j:Nat)(a:PAs):(gh i j a).G e=(a.G e).toS λts e1=>match dem e1 ts with
 |some (e2,[v,u])=>match (pN i v e2).bind (pN j u) with
  |some e3=>.nx e3
  |none=>.stuck
 |_=>.stuck:=rfl
@[simp] theorem Ou(i:Nat)(v:Val):pN i v e=match e[i]? with
 |some s=>if s.pl=true then some (e.set i (.sh v)) else none
 |none=>none:=rfl
@[simp] theorem Mj(i:Nat)(o:PO2)(a:PEx):(Ds i o a).G e=match e[i]? with
 |some (.sh x)=>(a.G e).toS λt e1=>match rs e1 t with
  |some y=>match o.G x y with
   |.val z=>match pN i z e1 with
    |some e2=>.nx e2
    |none=>.stuck
   |_=>.stuck
  |none=>.stuck
 |_=>.stuck:=rfl
@[simp] theorem F4(c:Str)(a:PAs):(fU c a).G e=(a.G e).toS λts e1=>if ts.length<=16777216 then .exc c e1 else .stuck:=rfl
@[simp] theorem LN(i:Nat)(w:PSe)(k a:PEx):(vj i w k a).G e=(a.G e).toS λt e1=>match (e1[i]?).bind Sl.mv with
 |none=>.stuck
 |some _=>(k.G e1).toS λt2 e2=>match rs e2 t2 with
  |none=>.stuck
  |some vi=>match dG e2 t.drop with
   |none=>.stuck
   |some (e3,v)=>match e3[i]? with
    |none=>.stuck
    |some s=>match s.mv with
     |none=>.stuck
     |some u=>match w.G u vi v with
      |some u'=>.nx (e3.set i (s.re u'))
      |none=>.stuck:=rfl
@[simp] theorem N8(v:Val):(Sl.ow v).mv=some v:=rfl
@[simp] theorem NP(v:Val):(Sl.mu v).mv=some v:=rfl
@[simp] theorem Nu(v u:Val):(Sl.ow v).re u=.ow u:=rfl
@[simp] theorem Og(v u:Val):(Sl.mu v).re u=.mu u:=rfl
@[simp] theorem KW(v:Val):(Sl.ow v).val=some v:=rfl
@[simp] theorem JX(v:Val):(Sl.mu v).val=some v:=rfl
@[simp] theorem NQ(i:Nat)(m:PMm)(a:PAs):(mD i m a).G e=match e[i]? with
 |some s=>if (s.mv.map kO)=some true then (a.G e).bind λts e1=>match dem e1 ts with
  |some (e2,vs)=>match e2[i]? with
   |some s2=>match s2.mv with
    |some u=>match m.G u vs with
     |some (u',v)=>.ok (.val v) (e2.set i (s2.re u'))
     |none=>.stuck
    |none=>.stuck
   |none=>.stuck
  |none=>.stuck else .stuck
 |none=>.stuck:=rfl
@[simp] theorem Kp(i:Nat)(m:PMm):(sU i m).G e=match e[i]? with
 |some s=>if (s.mv.map kO)=some true then (match s.mv with
  |some u=>match m.G u [] with
   |some (u',v)=>.ok (.val v) (e.set i (s.re u'))
   |none=>.stuck
  |none=>.stuck) else .stuck
 |none=>.stuck:=by
 show n6 i m.G rb e=_
 unfold n6
 cases q:e[i]? with
 |none=>rfl
 |
  some s=>
  dsimp only
  split
  ·simp only[rb,lY,z8,q];try rfl
  ·rfl
@[simp] theorem DL(xs:List Val):kO (.lst xs)=true:=rfl
@[simp] theorem L5(a:PEx):(bZ a).G e=(a.G e).bind λt e1=>match fG t e1 with
 |some p=>.ok p e1
 |none=>.stuck:=rfl
@[simp] theorem NL(a:PAs):(ye a).G e=(a.G e).bind λts e1=>match ts with
 | [t]=>(match fG t e1 with
  |some p=>.ok (nW 0 p.1,p.2) e1
  |none=>.stuck)
 |_=>.stuck:=rfl
@[simp] theorem LO(a:PAs):(yO a).G e=(a.G e).bind λts e1=>match ts with
 | [t,u]=>(match fG t e1,fG u e1 with
  |some (xs,k),some (ys,none)=>.ok (List.zipWith (λx y=>.tup [x,y]) xs ys,k) e1
  |_,_=>.stuck)
 |_=>.stuck:=rfl
@[simp] theorem La(v:Val):fG (.val v) e=(jM v).map λxs=>(xs,none):=rfl
@[simp] theorem Jy(v:Val):fG (.new v) e=(jM v).map λxs=>(xs,none):=rfl
@[simp] theorem Ih(xs:List Val):jM (.tup xs)=some xs:=rfl
@[simp] theorem Jb(xs:List Val):jM (.lst xs)=some xs:=rfl
@[simp] theorem Oh(a:PAs):(jL a).G e=(a.G e).bind λts e1=>match (rss e1 ts).bind jG with
 |some xs=>.ok (xs,none) e1
 |none=>.stuck:=rfl
@[simp] theorem Ma(i:PIt)(g:PGt)(b:PSt):(jC i g b).G e=(i.G e).toS λp e1=>(fg g.G b.G p.1 (lockO e1 p.2)).unl p.2:=rfl
@[simp] theorem qK(g:MG3)(B:MS3):fg g B [] e=.nx e:=rfl
theorem fb(g:MG3)(B:MS3)(v:Val)(vs:List Val):fg g B (v::vs) e=match g v e with
 |some e1=>(B e1).loop (fg g B vs)
 |none=>.stuck:=rfl
def kW(c:PTs)(b:PSt):(xWh c b).G e=(c.G e).toS λk e1=>if k=true then (b.G e1).loop (xWh c b).G else .nx e1:=CQ c.G b.G e
@[simp] theorem v_lc(i:PIt)(sub:Ud)(hs:(sub.filterMap id).Nodup)(g:PGt)(c:PTs)(a:PEx):(pLC i sub hs g c a).G e=(i.G e).bind λp e1=>match lcV g.G c.G a.G p.1 [] (cA sub (lockO e1 p.2)) with
 |.ok ys e2=>if ys.length<=16777216 then .ok (.new (.lst ys)) (gn (bN sub e2 (lockO e1 p.2)) p.2) else .stuck
 |_=>.stuck:=rfl
@[simp] theorem Iy(f:PFn)(a:PAs):(ax f a).G e=(a.G e).bind λts e1=>match rss e1 ts with
 |none=>.stuck
 |some vs=>if okA e1 f.ms ts=true then (match f.G vs with
  |.stuck=>.stuck
  |.ok r mv=>if (bC e1 f.ms ts).isEmpty || (ng r&&mv.all eG) then .ok (r.tm ts) (bN (cT f.ms ts) (a8 f.ms mv) e1) else (match qa e1 (bC e1 f.ms ts) with
   |some e2=>.ok (r.tm ts) (bN (cT f.ms ts) (a8 f.ms mv) e2)
   |none=>.stuck)
  |.exc c mv=>if (bC e1 f.ms ts).isEmpty || mv.all eG then .exc c (bN (cT f.ms ts) (a8 f.ms mv) e1) else .stuck) else .stuck:=rfl
@[simp] theorem KU(ts:List Tm)(v:Val):(Rt.val v).tm ts=.val v:=rfl
@[simp] theorem IG(ts:List Tm)(v:Val):(Rt.new v).tm ts=.new v:=rfl
@[simp] theorem o_n:oN.G e=.ok none e:=rfl
@[simp] theorem o_s(a:PEx):(oS a).G e=(a.G e).bind λt e1=>match rs e1 t with
 |some (.int i)=>.ok (some i) e1
 |_=>.stuck:=rfl
@[simp] theorem v_sl(a:PEx)(l u:POp):(pSl a l u).G e=(a.G e).bind λt e1=>(l.G e1).bind λlo e2=>(u.G e2).bind λhi e3=>match rs e3 t.drop with
 |some v=>(aSl v lo hi).at e3
 |none=>.stuck:=rfl
@[simp] theorem v_d0:pD0.G e=.ok (.new (.dct [])) e:=rfl
theorem bL(ms:List Bool)(N:Nat)(c:PSt)(vs:List Val):(fnP ms N c).G vs=if vs.length=ms.length then (match c.G (sls ms vs++List.replicate (N-vs.length) .no) with
 |.nx e=>(match muV ms e with |some mv=>.ok (.val .non) mv |none=>.stuck)
 |.rt r e=>(match muV ms e with |some mv=>.ok r mv |none=>.stuck)
 |.exc c e=>(match muV ms e with |some mv=>.exc c mv |none=>.stuck)
 |_=>.stuck) else .stuck:=rfl
theorem fY(ms:List Bool)(N:Nat)(c:PSt)(vs:List Val):(PFx.of ms N c).G vs=if vs.length=ms.length then (match c.G (sls ms vs++List.replicate (N-vs.length) .no) with
 |.nx e=>(match muV ms e with |some mv=>.ok (.val .non) mv |none=>.stuck)
 |.rt r e=>(match muV ms e with |some mv=>.ok r mv |none=>.stuck)
 |.exc c e=>(match muV ms e with |some mv=>.exc c mv |none=>.stuck)
 |_=>.stuck) else .stuck:=rfl
@[simp] theorem Of(p:PFx ms):p.fn.ms=ms:=rfl
@[simp] theorem fx_G(p:PFx ms)(vs:List Val):p.fn.G vs=p.G vs:=rfl
end
@[simp] theorem Mi(i j:Int):aY.G (.int i) (.int j)=.val (.int (i+j)):=rfl
@[simp] theorem Mr(i j:Int):gB.G (.int i) (.int j)=.val (.int (i-j)):=rfl
@[simp] theorem k_lt(i j:Int):bLt.G (.int i) (.int j)=.val (.bl (decide (i<j))):=rfl
@[simp] theorem k_gt(i j:Int):bGt.G (.int i) (.int j)=.val (.bl (decide (j<i))):=rfl
@[simp] theorem k_ge(i j:Int):bGe.G (.int i) (.int j)=.val (.bl (decide (j<=i))):=rfl
@[simp] theorem M8(i j:Int):Bu.G (.int i) (.int j)=.val (.int (i+j)):=rfl
@[simp] theorem MP(i:Int):CB.G (.int i)=.val (.int (-i)):=rfl
def fD(c:CMulA i j):dF.G (.int i) (.int j)=.val (.int (i*j)):=by show yt (.int i) (.int j)=_;unfold yt aIc;dsimp only;rw[if_pos c]
def k8(c:CDivB i j):g0.G (.int i) (.int j)=.val (.int (i.fdiv j)):=by show yj (.int i) (.int j)=_;unfold yj aIc;dsimp only;rw[if_pos c]
def fW(c:j≠0):cB.G (.int i) (.int j)=.val (.int (i.fmod j)):=by show yX (.int i) (.int j)=_;unfold yX aIc;dsimp only;rw[if_pos c]
def pC(c:iN i j):fL.G (.int i) (.int j)=.val (.int (i^j.toNat)):=by show zf (.int i) (.int j)=_;unfold zf aIc;dsimp only;rw[if_pos c]
def Nm(c:iN i j):uq.G (.int i) (.int j)=.val (.int (i*2^j.toNat)):=by show yf (.int i) (.int j)=_;unfold yf aIc;dsimp only;rw[if_pos c]
@[simp] theorem k_ix(x:Val)(i:Int):bIx.G x (.int i)=match x.items with
 |some xs=>(match atI xs i with
  |some v=>.val v
  |none=>.stuck)
 |none=>.stuck:=by show aIx x (.int i)=_;unfold aIx;cases x.items <;> rfl
@[simp] theorem HM(xs:List Val):(Val.tup xs).items=some xs:=rfl
@[simp] theorem Hn(xs:List Val):(Val.lst xs).items=some xs:=rfl
@[simp] theorem NB(xs:List Val):(Val.kl xs).items=some xs:=rfl
@[simp] theorem k_eq(x y:Val):bEq.G x y=match dA x y with
 |some b=>.val (.bl b)
 |none=>.stuck:=by show aEq false x y=_;unfold aEq;cases dA x y <;> rfl
@[simp] theorem k_ne(x y:Val):bNe.G x y=match dA x y with
 |some b=>.val (.bl (!b))
 |none=>.stuck:=by show aEq true x y=_;unfold aEq;cases dA x y <;> rfl
@[simp] theorem EC(x y:Int):dA (.int x) (.int y)=some (x==y):=rfl
def eq_str(hx:PyData.strOk x=true)(hy:PyData.strOk y=true):dA (.str x) (.str y)=some (x==y):=by
 unfold dA
 show (if shp (.str x)=true/\shp (.str y)=true then _ else _)=_
 rw[if_pos ⟨jQ hx (Q0 _),jQ hy (Q0 _)⟩]
 rfl
@[simp] theorem k_is(x:Val):bIs.G x .non=match x with
 |.non=>.val (.bl true)
 |_=>.val (.bl false):=by cases x <;> rfl
@[simp] theorem LK(v:Val):cL.G [v]=match v.items with
 |some xs=>.val (.int xs.length)
 |none=>(match v with
  |.str z=>if z.length<=16777216 then .val (.int z.length) else .stuck
  |_=>.stuck):=rfl
@[simp] theorem Np(i:Int):ip.G [.int i]=.val (.int (if i<0 then -i else i)):=rfl
@[simp] theorem Nl(i j:Int):uJ.G [.int i,.int j]=.val (.int (if j>i then j else i)):=rfl
@[simp] theorem LH(i j:Int):oU.G [.int i,.int j]=.val (.int (if j<i then j else i)):=rfl
@[simp] theorem ML(xs:List Val):tF.G [.lst xs]=match mE xs with
 |some bs=>.val (.bl (bs.all id))
 |none=>.stuck:=rfl
@[simp] theorem M6(xs:List Val):pB.G [.lst xs]=match kX xs with
 |some bs=>.val (.int bs.sum)
 |none=>.stuck:=rfl
@[simp] theorem Fh(v:Val):jj.G [v]=match v.items with
 |some xs=>.val (.tup xs)
 |none=>.stuck:=rfl
@[simp] theorem Hq(b:Bool):xW.G [.bl b]=.val (.int (if b then 1 else 0)):=rfl
@[simp] theorem DU(xs:List Val)(v:Val):jA.G (.lst xs) [v]=if xs.length<16777216 then some (.lst (xs++[v]),.non) else none:=rfl
@[simp] theorem rS:∀(bs:List Int),kX (bs.map Val.int)=some bs
 | []=>rfl
 |b::r=>by show (kX (r.map Val.int)).map (b :: ·)=_;rw[rS r];rfl
def Ac{K:W.Frag}{mg:Ua}{X:Cx}{ES:L2.St->XK}{sts:List Stmt}:DSs K mg X ES sts (λ_ _=>.stuck):=λpins s σ H D I ⟨_,_,_,_,_,p⟩=>p.elim
section
variable(K:W.Frag)(mg:Ua)(X:Cx)(ES:L2.St->XK)
@[irreducible] def DE(e:Expr)(F:ME):Prop:=L2.DE K mg X ES e F
@[irreducible] def DT(e:Expr)(F:MT):Prop:=L2.DT K mg X ES e F
@[irreducible] def DA(es:List Expr)(F:MA):Prop:=L2.DA K mg X ES es F
@[irreducible] def DS(st:Stmt)(F:MS):Prop:=L2.DS K mg X ES st F
@[irreducible] def DSs(st:List Stmt)(F:MS):Prop:=L2.DSs K mg X ES st F
@[irreducible] def DI(tg am:Expr)(F:MI):Prop:=L2.DI K mg X ES tg am F
end
section
variable{K:W.Frag}{mg:Ua}{X:Cx}{ES:L2.St->XK}{e a b c o i tg am li:Expr}{es:List Expr}{st:Stmt}{sts sts':List Stmt}{p q r:PEx}{A:PAs}{t u:PTs}{x y:PSt}{g:PGt}{gs:PGs}{I:PIt}{pos:Pos}
def af(i:Nat){x:Str}(hN:X.N[i]?=some x:=by rfl)(hv:Vis X.env.scope x:=by first |exact Or.inl rfl |exact Or.inr (Or.inl rfl) |exact Or.inr (Or.inr rfl))(hd:(x==("__debug__" : Str))=false:=by decide)(hcd:(x==("__classdict__" : Str))=false:=by decide):DE K mg X ES (.Name x pos) (ah i).F:=by with_unfolding_all exact Lq i hN hv hd hcd
def ak{i:Int}{j:Nat}:DE K mg X ES (.Constant (.int i) j pos) (aq i).F:=by with_unfolding_all exact H0
def gE{i:Bool}{j:Nat}:DE K mg X ES (.Constant (.bool i) j pos) (pBl i).F:=by with_unfolding_all exact Mb
def mh:DE K mg X ES (.Constant .none j pos) oE.F:=by with_unfolding_all exact IX
def aX{i:Str}{j:Nat}:DE K mg X ES (.Constant (.str i) j pos) (bH i).F:=by with_unfolding_all exact Ky
def Eh{x:Str}{d:D}{v:Val}{r:∀P h,Rd P h d v}(hg:Gl X x)(ha:GC K mg x d)(hm:X.mg=mg:=by rfl)(hd:(x==("__debug__" : Str))=false:=by decide):DE K mg X ES (.Name x pos) (vp d v r).F:=by with_unfolding_all exact LD hg ha hm hd
def eL{x:Str}{n:String}(hg:Gl X x)(hm:mg x=none)(hv:bootBuiltins x=some (.type n))(he:X.mg=mg:=by rfl)(hn:x ≠ "__name__":=by decide)(hd:(x==("__debug__" : Str))=false:=by decide):DE K mg X ES (.Name x pos) (pTy n).F:=by with_unfolding_all exact MW hg hm hv he hn hd
def aA(ho:OpR X (binaryOp op) r')(hd:OpD K mg r' k.F)(ha:DE K mg X ES a p.F)(hb:DE K mg X ES b q.F):DE K mg X ES (.BinOp a op b pos) (pOp k p q).F:=by with_unfolding_all exact L4 ho hd ha hb
def aH(hr:IxR X r')(hd:OpD K mg r' k.F)(ha:DE K mg X ES a p.F)(hb:DE K mg X ES b q.F)(hs:nD b):DE K mg X ES (.Subscript a b pos) (pOp k p q).F:=by with_unfolding_all exact D7 hr hd ha hb hs
def fM(ho:OpR X (compareOp op) r')(hd:OpD K mg r' k.F)(ha:DE K mg X ES a p.F)(hb:DE K mg X ES b q.F)(hm:behindInMarks op b=false):DE K mg X ES (.Compare a [op] [b] pos) (pOp k p q).F:=by with_unfolding_all exact K3 ho hd ha hb hm
def aK(ho:OpR X (compareOp op) r')(hd:OpD K mg r' k.F)(ha:DE K mg X ES a p.F)(hb:DE K mg X ES b q.F)(hm:behindInMarks op b=false):DT K mg X ES (.Compare a [op] [b] pos) (qOf (pOp k p q)).F:=by with_unfolding_all exact Hf ho hd ha hb hm
def bT(ha:DE K mg X ES a p.F)(he:∀db,isTrue a X.env db=(do let v <- db;standAt a.pos;holding [v] (truthy v)):=by intro _;rfl):DT K mg X ES a (qOf p).F:=by with_unfolding_all exact J9 ha he
def kP(hK:X.K=K)(ha:DE K mg X ES a p.F)(he:∀db,isTrue a X.env db=(do let v <- db;standAt a.pos;holding [v] (truthy v)):=by intro _;rfl):DT K mg X ES a (qTr p).F:=by with_unfolding_all exact CZ hK ha he
def cx(ha:DT K mg X ES a t.F):DT K mg X ES (.UnaryOp .Not a pos) (qNo t).F:=by with_unfolding_all exact Ig ha
def wF(ha:DT K mg X ES a t.F):DW K mg X ES (.BoolOp .And [a] pos) t.F:=by with_unfolding_all exact E9 ha
def iu(ha:DT K mg X ES a t.F):DW K mg X ES (.BoolOp .Or [a] pos) t.F:=by with_unfolding_all exact J8 ha
def A8(ha:DT K mg X ES a t.F)(hb:DW K mg X ES (.BoolOp .And (b::es) pos) u.F):DW K mg X ES (.BoolOp .And (a::b::es) pos) (qAn t u).F:=by with_unfolding_all exact K7 ha hb
def gG(ha:DT K mg X ES a t.F)(hb:DW K mg X ES (.BoolOp .Or (b::es) pos) u.F):DW K mg X ES (.BoolOp .Or (a::b::es) pos) (qO t u).F:=by with_unfolding_all exact N6 ha hb
def ZW.dt(h:DW K mg X ES a t.F):DT K mg X ES a t.F:=by with_unfolding_all exact DW.dt h
def kF{op}(h:DE K mg X ES a p.F):DE K mg X ES (.BoolOp op [a] pos) p.F:=by with_unfolding_all exact Jd h
def ju(ha:DE K mg X ES a p.F)(hb:DE K mg X ES (.BoolOp .And (b::es) pos) q.F):DE K mg X ES (.BoolOp .And (a::b::es) pos) (lX p q).F:=by with_unfolding_all exact Lj ha hb
def K9(ha:DE K mg X ES a p.F):DE K mg X ES (.UnaryOp .Not a pos) (CC p).F:=by with_unfolding_all exact KL ha
def yU(hc:DT K mg X ES c t.F)(ha:DE K mg X ES a p.F)(hb:DE K mg X ES b q.F):DE K mg X ES (.IfExp c a b pos) (pIf t p q).F:=by with_unfolding_all exact Oj hc ha hb
def Me(ho:UnR X (unaryOp op) r')(hd:UnD K mg r' k.F)(ha:DE K mg X ES a p.F):DE K mg X ES (.UnaryOp op a pos) (pUn k p).F:=by with_unfolding_all exact LY ho hd ha
def ai:DA K mg X ES [] ao.F:=by with_unfolding_all exact zy
def aa(ha:DE K mg X ES e p.F)(hr:DA K mg X ES es A.F)(hs:starEach (e::es) X.env=(false,eval e X.env)::starEach es X.env:=by rfl):DA K mg X ES (e::es) (ag p A).F:=by with_unfolding_all exact w6 ha hr hs
def bK{x1}(h:DA K mg X ES es A.F):DE K mg X ES (.Tuple es x1 pos) (cJ A).F:=by with_unfolding_all exact HA h
def bW(h:DA K mg X ES es A.F):DE K mg X ES (.List es pos) (dg A).F:=by with_unfolding_all exact HV h
def aB{id:String}{r':List V->Hp->VK->Prop}{k:PBf}{x:Str}{p0:Pos}(hc:CallR X (.builtin id) r')(hd:bO K mg r' k.F)(hg:Gl X x)(hm:mg x=none)(hv:bootBuiltins x=some (.builtin id))(ha:DA K mg X ES (e::es) A.F)(hk:X.mg=mg:=by rfl)(hn:x ≠ "__name__":=by decide)(hdb:(x==("__debug__" : Str))=false:=by decide)(he:starEach (e::es) X.env=(false,eval e X.env)::starEach es X.env:=by rfl)(hpl:(backTo pos (starEach es X.env)).any (·.1)=false:=by rfl):DE K mg X ES (.Call (.Name x p0) (e::es) [] pos) (pFn k A).F:=by with_unfolding_all exact DM hc hd hg hm hv ha hk hn hdb he hpl
def iF{id:String}{r':List V->Hp->VK->Prop}{k:PBf}{x:Str}{p0:Pos}(hc:CallR X (.type id) r')(hd:bO K mg r' k.F)(hg:Gl X x)(hm:mg x=none)(hv:bootBuiltins x=some (.type id))(ha:DA K mg X ES (e::es) A.F)(hk:X.mg=mg:=by rfl)(hn:x ≠ "__name__":=by decide)(hdb:(x==("__debug__" : Str))=false:=by decide)(he:starEach (e::es) X.env=(false,eval e X.env)::starEach es X.env:=by rfl)(hpl:(backTo pos (starEach es X.env)).any (·.1)=false:=by rfl):DE K mg X ES (.Call (.Name x p0) (e::es) [] pos) (pFn k A).F:=by with_unfolding_all exact A0 hc hd hg hm hv ha hk hn hdb he hpl
def eD{f:PFn}{x:Str}{p0:Pos}{k n:Nat}{ps:List Str}(C:Callee X.prog X.w X.K X.mg X.base x k ps (spD K mg n f.F))(hr:Room k X.A)(hg:Gl X x)(hx:nu X ES)(ha:DA K mg X ES (e::es) A.F)(hn:f.ms.length=n:=by rfl)(hdb:(x==("__debug__" : Str))=false:=by decide)(he:starEach (e::es) X.env=(false,eval e X.env)::starEach es X.env:=by rfl)(hpl:(backTo pos (starEach es X.env)).any (·.1)=false:=by rfl):DE K mg X ES (.Call (.Name x p0) (e::es) [] pos) (ax f A).F:=by
 subst hn
 with_unfolding_all exact BP C hr hg hx ha hdb he hpl
def aF:DSs K mg X ES [] xNx.F:=by with_unfolding_all exact GA
def au(h1:DS K mg X ES st x.F):DSs K mg X ES [st] x.F:=by with_unfolding_all exact wW h1
def ar(h1:DS K mg X ES st x.F)(h2:DSs K mg X ES sts y.F):DSs K mg X ES (st::sts) (az x y).F:=by with_unfolding_all exact oF h1 h2
def GR:DS K mg X ES (.Return none pos) yH.F:=by with_unfolding_all exact Fc
def aC(he:DE K mg X ES e p.F):DS K mg X ES (.Return (some e) pos) (aO p).F:=by with_unfolding_all exact JB he
def b9(he:DE K mg X ES e p.F)(hs:swapsWith e none pos.line X.env=pure false:=by rfl):DS K mg X ES (.Expr e pos) (dC p).F:=by with_unfolding_all exact xn he hs
def aP(hc:DT K mg X ES c t.F)(ha:DSs K mg X ES sts x.F)(hb:DSs K mg X ES sts' y.F):DS K mg X ES (.If c sts sts' pos) (xIf t x y).F:=by with_unfolding_all exact Ol hc ha hb
def GO{i:Nat}{x:Str}(hN:X.N.Nodup)(hi:X.N[i]?=some x)(hx:Loc X.env.scope x)(hf:X.fn x=true\/X.env.scope.names.lookup x=some .local:=by first |exact .inl rfl |exact .inr rfl |assumption):DG K mg X ES (.Name x pos) (gtN i).F:=Gv hN hi hx hf
def ft:DGs K mg X ES [] eX.F:=GS
def aZ(h1:DG K mg X (λ_=>E0) e g.F)(h2:DGs K mg X (λ_=>E0) es gs.F)(hs:(assignEach (e::es) X.env).map (·.2)=assign e X.env::(assignEach es X.env).map (·.2):=by rfl):DGs K mg X (λ_=>E0) (e::es) (bB g gs).F:=Du h1 h2 hs
def gK(hK:X.K=K)(hc:X.calm=true)(h:DGs K mg X (λ_=>E0) es gs.F)(hn:(assignEach es X.env).length=n:=by rfl)(hst:(assignEach es X.env).findIdx? (·.1)=none:=by rfl):DG K mg X (λ_=>E0) (.Tuple es k pos) (gtT n gs).F:=HN hK hc h hn hst
def ZG.weak(hg:DG K mg X (λ_=>E0) e g.F):DG K mg X ES e (gtX g).F:=DG.weak hg
def kB(he:DE K mg X ES e p.F)(hg:DG K mg X ES a g.F)(hs:swapsWithSole [a] e pos.line X.env=pure false:=by rfl)(hw:swappedStores [a] e X.env=pure none:=by rfl)(h1:(assignEach [a] X.env).map (·.2)=[assign a X.env]:=by rfl):DS K mg X ES (.Assign [a] e pos) (lR p g).F:=by with_unfolding_all exact A1 he hg hs hw h1
def rh(he:DE K mg X ES e p.F)(ho:DE K mg X ES o (ah j).F)(hi:DE K mg X ES i q.F)(hs':uM X r')(hd:qU K mg r' w.F)(hs:swapsWithSole [.Subscript o i p1] e pos.line X.env=pure false:=by rfl)(hw:swappedStores [.Subscript o i p1] e X.env=pure none:=by rfl)(h1:(assignEach [.Subscript o i p1] X.env).map (·.2)=[assign (.Subscript o i p1) X.env]:=by rfl)
 (ha:∀v,assign (.Subscript o i p1) X.env v=(do
  let ov <- holding [v] (eval o X.env)
  let iv <- holding [v,ov] (eval i X.env)
  standAt p1
  holding [v,ov,iv] (setItem ov iv v)
  release [v,ov,iv] []):=by intro _;rfl):DS K mg X ES (.Assign [.Subscript o i p1] e pos) (vj j w q p).F:=by with_unfolding_all exact A1 he (Ko ho hi hs' hd ha) hs hw h1
def H9{ow:Bool}{i:Nat}{x:Str}{kw:Pos}(hN:X.N.Nodup)(hi:X.N[i]?=some x)(hx:Loc X.env.scope x)(he:DE K mg X ES e p.F)(hs:swapsWith e (some (.Name x kw)) pos.line X.env=pure false:=by rfl)(hf:X.fn x=true\/X.env.scope.names.lookup x=some .local:=by first |exact .inl rfl |exact .inr rfl |assumption):DS K mg X ES (.Assign [.Name x kw] e pos) (aQ ow i p).F:=by with_unfolding_all exact IH hN hi hx he hs hf
def dY{i j:Nat}{x y:Str}{px py pt:Pos}{kt k2 pt2}(hc:X.calm=true)(hN:X.N.Nodup)(hi:X.N[i]?=some x)(hj:X.N[j]?=some y)(hij:i≠j)(hx:X.env.scope.names.lookup x=some .local)(hy:X.env.scope.names.lookup y=some .local)(ha:DA K mg X ES [a,b] A.F)(hw:swappedStores [.Tuple [.Name x px,.Name y py] kt pt] (.Tuple [a,b] k2 pt2) X.env=pure (some [x,y]))(hs:swapsWithSole [.Tuple [.Name x px,.Name y py] kt pt] (.Tuple [a,b] k2 pt2) pos.line X.env=pure false:=by rfl):DS K mg X ES (.Assign [.Tuple [.Name x px,.Name y py] kt pt] (.Tuple [a,b] k2 pt2) pos) (gh i j A).F:=by with_unfolding_all exact II hc hN hi hj hij hx hy ha hw hs
def Jm{i:Nat}{x:Str}{op:Operator}{ti:TIp}{kw:Pos}{k:PO2}(hN:X.N.Nodup)(hi:X.N[i]?=some x)(hx:Loc X.env.scope x)(he:DE K mg X ES e p.F)(ho:PIp X op ti)(hd:IpD K mg ti k.F)(hf:X.fn x=true\/X.env.scope.names.lookup x=some .local:=by first |exact .inl rfl |exact .inr rfl |assumption):DS K mg X ES (.AugAssign (.Name x kw) op e pos) (Ds i k p).F:=by with_unfolding_all exact JH hN hi hx he ho hd hf
def fi{x:Str}{C:Addr}{E:XK}{np cpos:Pos}(hc:X.calm=true)(hR:Rz X E)(hg:Gl X x)(hm:mg x=some (.ref C))(hq:W.excIn X.K C eF "ValueError.__new__"=true)(ha:DA K mg X (λ_=>E) (e::es) A.F)(hk:X.mg=mg:=by rfl)(he:starEach (e::es) X.env=(false,eval e X.env)::starEach es X.env:=by rfl)(ci:(backTo cpos (starEach es X.env)).any (·.1)=false:=by rfl)(hd:(x==("__debug__" : Str))=false:=by decide):DS K mg X (λ_=>E) (.Raise (some (.Call (.Name x np) (e::es) [] cpos)) none pos) (fU x A).F:=by with_unfolding_all exact BS hc hR hg hm hq ha hk he ci hd
def cK(hK:X.K=K)(he:DE K mg X ES e p.F):DI K mg X ES tg e (bZ p).F:=by with_unfolding_all exact Hm hK he
def gr(hg:Gl X "range")(hm:mg "range"=none)(ha:DA K mg X ES [a] A.F)(hk:X.mg=mg:=by rfl)(hs:starEach [a] X.env=[(false,eval a X.env)]:=by rfl):DI K mg X ES tg (.Call (.Name "range" p0) [a] [] pos) (jL A).F:=by with_unfolding_all exact AL hg hm ha hk hs
def GN(hK:X.K=K)(hg:Gl X "enumerate")(hm:mg "enumerate"=none)(ha:DA K mg X ES [a] A.F)(hk:X.mg=mg:=by rfl)(hs:starEach [a] X.env=[(false,eval a X.env)]:=by rfl):DI K mg X ES (.Tuple elts x1 tp) (.Call (.Name "enumerate" p0) [a] [] pos) (ye A).F:=by with_unfolding_all exact G6 hK hg hm ha hk hs
def Hv(hK:X.K=K)(hg:Gl X "zip")(hm:mg "zip"=none)(ha:DA K mg X ES [a,b] A.F)(hk:X.mg=mg:=by rfl)(hs:starEach [a,b] X.env=[(false,eval a X.env),(false,eval b X.env)]:=by rfl)(hs2:starEach [b] X.env=[(false,eval b X.env)]:=by rfl):DI K mg X ES (.Tuple elts x1 tp) (.Call (.Name "zip" p0) [a,b] [] pos) (yO A).F:=by with_unfolding_all exact Lp hK hg hm ha hk hs hs2
def gF(hp:PassesOwn (model X.prog X.w) X.A X.env X.xe)(hc:X.calm=true)(hi:DI K mg X ES tg am I.F)(hg:DG K mg X ES tg g.F)(hb:DSs K mg X ES sts x.F)(hs:∀x,foldedSetIterable am X.env x=pure x:=by intro _;rfl):DS K mg X ES (.For tg am sts [] pos) (jC I g x).F:=by with_unfolding_all exact zp hp hc hi hg hb hs
def js(hp:PassesOwn (model X.prog X.w) X.A X.env X.xe)(hc:DT K mg X ES c t.F)(hb:DSs K mg X ES sts x.F):DS K mg X ES (.While c sts [] pos) (xWh t x).F:=by with_unfolding_all exact BQ hp hc hb
def eT{scope:Scope}(M:List Str)(kn:List (Str×NameKind))(N:List Str)(sub:Ud){hsb:(sub.filterMap id).Nodup}(hc:X.calm=true)(hi:DI K mg X ES tg am I.F)(hg:∀cl C s₂ H fp,DG K mg (bD X N scope cl C s₂ H fp) (λ_=>E0) tg g.F)(he:∀cl C s₂ H fp,DE K mg (bD X N scope cl C s₂ H fp) (λ_=>E0) li p.F)(hM:X.N=M:=by rfl)(hkn:X.env.scope.names=kn:=by rfl)(ii:jN M scope.names sub N=true:=by decide)(hk:scope.kind=.function:=by rfl)(hnc:∀x∈scope.names,x.2 ≠ .cell:=by decide)(bn:∀x∈scope.names,x.2=.local->scope.names.lookup x.1=some .local:=by decide)(hfr:mJ kn scope.names=true:=by decide)(hsl:sub.length=N.length:=by rfl)(hs:∀x,foldedSetIterable am X.env x=pure x:=by intro _;rfl):DE K mg X ES (.ListComp li [⟨tg,am,[],0⟩] scope pos) (pLC I sub hsb g qY p).F:=by with_unfolding_all exact NR M kn N sub hc hi hg he hM hkn ii hk hnc bn hfr hsl hs
def M7{ow:Bool}{px spos:Pos}{iT:Nat}{xT:Str}{scope:Scope}(M:List Str)(kn:List (Str×NameKind))(N:List Str)(sub:Ud){hsb:(sub.filterMap id).Nodup}(hc:X.calm=true)(hN:X.N.Nodup)(hix:X.N[iT]?=some xT)(hxl:Loc X.env.scope xT)(hi:DI K mg X ES tg am I.F)(hg:∀cl C s₂ H fp,DG K mg (bD X N scope cl C s₂ H fp) (λ_=>E0) tg g.F)(he:∀cl C s₂ H fp,DE K mg (bD X N scope cl C s₂ H fp) (λ_=>E0) li p.F)(hsw:swapsWith (.ListComp li [⟨tg,am,[],0⟩] scope pos) (some (.Name xT px)) spos.line X.env=pure true:=by rfl)(hM:X.N=M:=by rfl)(hkn:X.env.scope.names=kn:=by rfl)(ii:jN M scope.names sub N=true:=by decide)(hk:scope.kind=.function:=by rfl)(hnc:∀x∈scope.names,x.2 ≠ .cell:=by decide)(bn:∀x∈scope.names,x.2=.local->scope.names.lookup x.1=some .local:=by decide)(hfr:mJ kn scope.names=true:=by decide)(hsl:sub.length=N.length:=by rfl)(hs:∀x,foldedSetIterable am X.env x=pure x:=by intro _;rfl)(hf:X.fn xT=true\/X.env.scope.names.lookup xT=some .local:=by first |exact .inl rfl |exact .inr rfl |assumption):DS K mg X ES (.Assign [.Name xT px] (.ListComp li [⟨tg,am,[],0⟩] scope pos) spos) (aQ ow iT (pLC I sub hsb g qY p)).F:=by with_unfolding_all exact LJ M kn N sub hc hN hix hxl hi hg he hsw hM hkn ii hk hnc bn hfr hsl hs hf
def ky{j:Nat}{name:Str}{id:String}{apos cpos:Pos}{r':V->List V->Hp->VK->Prop}{k:PMm}(hK:X.K=K)(slot:Slot "list" name id)(hty:typeOf (.builtin id)=pure (.type "method_descriptor"))(hm:MtM X id r')(hd:MtD K mg r' k.F)(ho:DE K mg X ES o (ah j).F)(ha:DA K mg X ES (e::es) A.F)(ge:attributeBase o name X.env (eval o X.env)=eval o X.env:=by rfl)(hfew:((backTo cpos (starEach (e::es) X.env)).all (λx=>!x.1)&&(backToKw cpos (keywordEach [] X.env)).all (λx=>x.1.isSome)&&decide ((e::es).length+([]:List Keyword).length+(if ([]:List Keyword).isEmpty then 0 else 1)<30))=true:=by rfl)(gl:(apos.endLine==cpos.line)=true:=by rfl)(hs:starEach (e::es) X.env=(false,eval e X.env)::starEach es X.env:=by rfl)(ci:(backTo cpos (starEach es X.env)).any (·.1)=false:=by rfl):DE K mg X ES (.Call (.Attribute o name apos) (e::es) [] cpos) (mD j k A).F:=by with_unfolding_all exact de_m hK slot hty hm hd ho ha ge hfew gl hs ci
def wj{j:Nat}{name:Str}{id:String}{apos cpos:Pos}{r':V->List V->Hp->VK->Prop}{k:PMm}(hK:X.K=K)(slot:Slot "list" name id)(hty:typeOf (.builtin id)=pure (.type "method_descriptor"))(hm:MtM X id r')(hd:MtD K mg r' k.F)(ho:DE K mg X ES o (ah j).F)(ge:attributeBase o name X.env (eval o X.env)=eval o X.env:=by rfl)(gl:(apos.endLine==cpos.line)=true:=by rfl):DE K mg X ES (.Call (.Attribute o name apos) [] [] cpos) (sU j k).F:=by with_unfolding_all exact NA hK slot hty hm hd ho ge gl
def kH:DO K mg X ES none oN.F:=Gp
def kx(he:DE K mg X ES e p.F):DO K mg X ES (some e) (oS p).F:=by with_unfolding_all exact E5 he
def jx{l u:POp}{lo hi:Option Expr}{p2:Pos}(hK:X.K=K)(he:DE K mg X ES e p.F)(hl:DO K mg X ES lo l.F)(hu:DO K mg X ES hi u.F):DE K mg X ES (.Subscript e (.Slice lo hi none p2) pos) (pSl p l u).F:=by with_unfolding_all exact C1 hK he hl hu
def NW:DE K mg X ES (.Dict [] [] pos) pD0.F:=by with_unfolding_all exact NG
def aU:OpD K mg (λx y H Q=>rI0 (λi j=>.int (i+j)) x y H Q\/(qZ x y H Q\/(nH K x y H Q\/nc K x y H Q))) aY.F:=JD
def eN:OpD K mg (rI0 λi j=>.int (i-j)) gB.F:=HY
def ek:OpD K mg (rI CMulA λi j=>.int (i*j)) dF.F:=HS
def jF:OpD K mg (rI CDivB λi j=>.int (i.fdiv j)) g0.F:=KQ
def eA:OpD K mg (rI (λ_ j=>j≠0) λi j=>.int (i.fmod j)) cB.F:=KN
def jn:OpD K mg (rI iN λi j=>.int (i^j.toNat)) fL.F:=KC
def Jh:OpD K mg (rI iN λi j=>.int (i*2^j.toNat)) uq.F:=Kz
def oT:OpD K mg (rI0 λi j=>.bl (decide (i<j))) bLt.F:=LU
def nr:OpD K mg (rI0 λi j=>.bl (decide (j<i))) bGt.F:=Ny
def pM:OpD K mg (rI0 λi j=>.bl (decide (j<=i))) bGe.F:=MN
def aJ:OpD K mg (λx y H Q=>yV K x y H Q\/ym K x y H Q) bIx.F:=KR
def cG:OpD K mg (ze K) bEq.F:=Ki
def iY:OpD K mg (yL K) bNe.F:=KD
def N7:OpD K mg (rIn K false) bIn.F:=(Hw false)
def EM:OpD K mg (λx y H Q=>y=.non/\Q (.bl (decide (x=.non))) H) bIs.F:=E6
def JZ:OpD K mg (λx y H Q=>y=.non/\Q (.bl (!decide (x=.non))) H) yc.F:=Dp
def cz:bO K mg (λxs H Q=>(∃p ys,xs=[.ref p]/\(SqL K H p ys\/SqT K H p ys)/\Q (.int ys.length) H)\/(∃z,xs=[.str z]/\z.length<=sizeLine/\Q (.int z.length) H)) cL.F:=JU
def iB:bO K mg (λxs H Q=>∃i,xs=[.int i]/\Q (.int (if i<0 then -i else i)) H) ip.F:=Jl
def Fl:bO K mg (λxs H Q=>∃i j,xs=[.int i,.int j]/\Q (.int (if j>i then j else i)) H) uJ.F:=G7
def xF:bO K mg (λxs H Q=>∃i j,xs=[.int i,.int j]/\Q (.int (if j<i then j else i)) H) oU.F:=Gw
def Ba:bO K mg (λxs H Q=>∃(a:Addr) (bs:List Bool),xs=[.ref a]/\SqL K H a (bs.map V.bl)/\Q (.bl (bs.all id)) H) tF.F:=IP
def Bd:bO K mg (λxs H Q=>∃(a:Addr) (ns:List Int),xs=[.ref a]/\SqL K H a (ns.map V.int)/\Q (.int ns.sum) H) pB.F:=Jr
def l8:bO K mg (λxs H Q=>∃p ys,xs=[.ref p]/\((SqL K H p ys/\∀l,H l=none->Q (.ref l) (upd H l (.tup ys)))\/(SqT K H p ys/\Q (.ref p) H))) jj.F:=CT
def KZ:bO K mg (λxs H Q=>(∃i,xs=[.int i]/\Q (.int i) H)\/∃k,xs=[.bl k]/\Q (.int (if k then 1 else 0)) H) xW.F:=Io
def dB(ok:KitsOk K mg kt):bO K mg (λxs H Q=>(∃x c t v b,xs=[x,c]/\TyX K H x t/\gD c=some v/\W.kitOne K t v=some b/\Q (.bl b) H)\/
 (∃x tp cs t vs b,xs=[x,.ref tp]/\SqT K H tp cs/\TyX K H x t/\cs.mapM gD=some vs/\W.kitAny K t vs=some b/\Q (.bl b) H)) (bc kt).F:=Jx ok
def mR:MtD K mg qP jA.F:=sj
def zC:MtD K mg Cj sW.F:=He
def wN:qU K mg yd seL.F:=EN
def Jw:IpD K mg (ipI λi j=>i+j) Bu.F:=Gh
def Jn:UnD K mg (rU λi=>.int (-i)) CB.F:=Kn
variable{P:Program}{w:World}{base:Heap}{fx:Str}{fst:Stmt}{k n m:Nat}{ps N:List Str}{ms:List Bool}
def okP(D:Def K mg fx fst)(S:FnScope N ps (aw fst))
 (hb:∀(kV doc pm:Value) (an:Option Addr) (cdv ct:Value) (us:List Value),us.length=ps.length->bindArgs (W.fnOf fx fx (d6 fst) (b8 fst) (aw fst) .none kV doc pm an cdv ct) ⟨us,[]⟩=pure (ps.zip us))
 (jp:∀(f:Addr) (cdv:Value) (A:Around) (outer:List Env) (s:Shared) (H:Hp) (E:XK),Room k (A.deeper (envOfC fx (aw fst) s.heap.objs.size f cdv))->
  DSs K mg (fF (CX1 P w) P w K mg base N fx (aw fst) f cdv A outer s H E) (λ_=>E) (b8 fst) x.F) (hn:ps.length=n:=by rfl) (hm:N.length=m:=by rfl):Callee P w K mg base fx (k+1) ps (spD K mg n (fnP ms m x).F):=by
 subst hn hm
 with_unfolding_all exact D.okD S hb jp
def okX(D:Def K mg fx fst)(S:FnScope N ps (aw fst))
 (hb:∀(kV doc pm:Value) (an:Option Addr) (cdv ct:Value) (us:List Value),us.length=ps.length->bindArgs (W.fnOf fx fx (d6 fst) (b8 fst) (aw fst) .none kV doc pm an cdv ct) ⟨us,[]⟩=pure (ps.zip us))
 (jp:∀(f:Addr) (cdv:Value) (A:Around) (outer:List Env) (s:Shared) (H:Hp) (E:XK),Room k (A.deeper (envOfC fx (aw fst) s.heap.objs.size f cdv))->
  DSs K mg (fF (CX1 P w) P w K mg base N fx (aw fst) f cdv A outer s H E) (λ_=>E) (b8 fst) x.F) (hn:ps.length=n:=by rfl) (hm:N.length=m:=by rfl):Callee P w K mg base fx (k+1) ps (spD K mg n (PFx.of ms m x).F):=by
 subst hn hm
 with_unfolding_all exact D.okD S hb jp
def ok0(D:Def K mg fx fst)(S:FnScope N ps (aw fst))
 (hb:∀(kV doc pm:Value) (an:Option Addr) (cdv ct:Value) (us:List Value),us.length=ps.length->bindArgs (W.fnOf fx fx (d6 fst) (b8 fst) (aw fst) .none kV doc pm an cdv ct) ⟨us,[]⟩=pure (ps.zip us)) (hn:ps.length=n:=by rfl):Callee P w K mg base fx (k+1) ps (spD K mg n (PFx.none ms).F):=by
 subst hn
 exact D.okD (F:=λ_ _=>.stuck) S hb λ_ _ _ _ _ _ _ _=>Ac
end
def IA(b:Bool)(ms:List Bool)(v:Val)(vs:List Val):sls (b::ms) (v::vs)=sl1 b v::sls ms vs:=rfl
def FV:sls [] []=[]:=rfl
def L6(v:Val):sl1 true v=.mu v:=rfl
def Mc(v:Val):sl1 false v=.sh v:=rfl
section
variable(e:E3)
def FQ:okA e [] []=true:=rfl
def Lf(i:Nat)(ms:List Bool)(ts:List Tm):okA e (true::ms) (.bor i::ts)=(((e[i]?).bind Sl.mv).isSome && !(jZ i ts)&&okA e ms ts):=rfl
def JA(v:Val)(ms:List Bool)(ts:List Tm):okA e (false::ms) (.val v::ts)=okA e ms ts:=rfl
def CK(i:Nat):jZ i []=false:=rfl
def HJ(i:Nat)(v:Val)(ts:List Tm):jZ i (.val v::ts)=jZ i ts:=rfl
def zO:bC e [] []=[]:=rfl
def Fe(v:Val)(ms:List Bool)(ts:List Tm):bC e (false::ms) (.val v::ts)=bC e ms ts:=rfl
def J7(t:Tm)(ms:List Bool)(ts:List Tm):bC e (true::ms) (t::ts)=bC e ms ts:=by cases t <;> rfl
end
def zE:cT [] []=[]:=rfl
def E1(b:Bool)(t:Tm)(ms:List Bool)(ts:List Tm):cT (b::ms) (t::ts)=rE b t::cT ms ts:=rfl
def F6(i:Nat):rE true (.bor i)=some i:=rfl
def Iv(t:Tm):rE false t=none:=by cases t <;> rfl
def C0(e:E3):bN [] [] e=e:=rfl
def Iq(o:Option Nat)(sub:Ud)(s:Sl)(i e:E3):bN (o::sub) (s::i) e=bN sub i (gM o s e):=rfl
theorem ET(i:Nat)(v:Val)(e:E3):gM (some i) (.mu v) e=match e[i]? with
 |some t=>e.set i (t.re v)
 |none=>e:=rfl
def Kc(s:Sl)(e:E3):gM none s e=e:=rfl
def CD(vs:List Val):a8 [] vs=[]:=rfl
def JW(ms:List Bool)(v:Val)(vs:List Val):a8 (true::ms) (v::vs)=.mu v::a8 ms vs:=rfl
def Ic(ms:List Bool)(vs:List Val):a8 (false::ms) vs=.no::a8 ms vs:=by cases vs <;> rfl
def Fu(e:E3):muV [] e=some []:=by cases e <;> rfl
def LS(ms:List Bool)(v:Val)(e:E3):muV (true::ms) (.mu v::e)=(muV ms e).map (v :: ·):=rfl
def Ng(ms:List Bool)(s:Sl)(e:E3):muV (false::ms) (s::e)=muV ms e:=by cases s <;> rfl
def Ah(v:Val):ng (.val v)=bg v:=rfl
def zI(v:Val):ng (.new v)=eG v:=rfl
def Bb(xs:List Val):eG (.lst xs)=cV xs:=rfl
def oZ:cV []=true:=by simp [cV]
def nK(v:Val)(vs:List Val):cV (v::vs)=(bg v&&cV vs):=by simp [cV]
def Bs(i:Int):bg (.int i)=true:=by simp [bg]
def CM(i:Bool):bg (.bl i)=true:=by simp [bg]
def Ai(i:Str):bg (.str i)=true:=by simp [bg]
def zN:bg .non=true:=by simp [bg]
theorem lM(f:α->Val)(hf:∀a,bg (f a)=true):∀l:List α,cV (l.map f)=true
 | []=>oZ
 |a::l=>by rw[Qv,nK,hf a,lM f hf l];rfl
def eU(h0:0<=i)(h:l[i.toNat]?=some x):atI l i=some x:=by
 have hl:=(Qs.mp h).1
 unfold atI ixN
 rw[if_pos h0,if_pos (by omega)]
 exact h
def uT(h0:0<=i)(h:i.toNat<n):ixN n i=some i.toNat:=by
 unfold ixN
 rw[if_pos h0,if_pos (by omega)]
section
variable(a b c d e f g h:α)(l:List α)
def ati0:atI (a::l) 0=some a:=eU (by decide) rfl
def ati1:atI (a::b::l) 1=some b:=eU (by decide) rfl
def ati2:atI (a::b::c::l) 2=some c:=eU (by decide) rfl
def ati3:atI (a::b::c::d::l) 3=some d:=eU (by decide) rfl
end
def ixn0(n:Nat):ixN (n+1) 0=some 0:=uT (i:=0) (by decide) (by show 0<n+_;omega)
def ixn1(n:Nat):ixN (n+2) 1=some 1:=uT (i:=1) (by decide) (by show 1<n+_;omega)
theorem N5(xs:List Val)(k:Int)(v:Val):seL.G (.lst xs) (.int k) v=match ixN xs.length k with
 |some j=>some (.lst (xs.set j v))
 |none=>none:=rfl
mutual
def vq:Val->Val->Bool
 |.non,.non=>true
 |.bl a,.bl b=>a==b
 |.bl a,.int j=>(if a then 1 else 0)==j
 |.int i,.bl b=>i==(if b then 1 else 0)
 |.int i,.int j=>i==j
 |.str x,.str y=>x==y
 |.tup xs,.tup ys=>vqs xs ys
 |.lst xs,.lst ys=>vqs xs ys
 |_,_=>false
def vqs:List Val->List Val->Bool
 | [],[]=>true
 |x::xs,y::ys=>vq x y&&vqs xs ys
 |_,_=>false
end
mutual
def wfV:Nat->Val->Bool
 |_,.non=>true
 |_,.bl _=>true
 |_,.int _=>true
 |_,.str x=>PyData.strOk x
 |k+1,.tup xs=>cW k xs
 |k+1,.lst xs=>cW k xs
 |_,_=>false
def cW:Nat->List Val->Bool
 |_,[]=>true
 |k,x::xs=>wfV k x&&cW k xs
end
mutual
def iH:Val->PyData
 |.bl b=>.bool b
 |.int i=>.int i
 |.str x=>.str x
 |.tup xs=>.tuple (fB xs)
 |.lst xs=>.list (fB xs)
 |_=>.none
def fB:List Val->List PyData
 | []=>[]
 |x::xs=>iH x::fB xs
end
mutual
theorem qr:∀(k:Nat) (v:Val),wfV k v=true->(∀j,k<j->dX j v=some (iH v))/\(iH v).canLay0=true/\(iH v).depth<=k
 |k,.non,_=>⟨λj hj=>by cases j with |zero=>exact absurd hj (So _) |succ j=>rfl,rfl,Q0 _⟩
 |k,.bl b,_=>⟨λj hj=>by cases j with |zero=>exact absurd hj (So _) |succ j=>rfl,rfl,Q0 _⟩
 |k,.int b,_=>⟨λj hj=>by cases j with |zero=>exact absurd hj (So _) |succ j=>rfl,rfl,Q0 _⟩
 |k,.str b,w=>⟨λj hj=>by cases j with |zero=>exact absurd hj (So _) |succ j=>rfl,by cases k <;> exact w,Q0 _⟩
 |0,.tup xs,w=>absurd w Qx
 |0,.lst xs,w=>absurd w Qx
 |
  k+1,.tup xs,w=>by
  obtain⟨h1,h2,h3⟩:=nO k xs w
  exact⟨λj hj=>by cases j with |zero=>exact absurd hj (So _) |succ j=>simp only[dX,iH,h1 j (Nat.lt_of_succ_lt_succ hj),Option.map_some],h2,by simpa [iH,PyData.depth] using h3⟩
 |
  k+1,.lst xs,w=>by
  obtain⟨h1,h2,h3⟩:=nO k xs w
  exact⟨λj hj=>by cases j with |zero=>exact absurd hj (So _) |succ j=>simp only[dX,iH,h1 j (Nat.lt_of_succ_lt_succ hj),Option.map_some],h2,by simpa [iH,PyData.depth] using h3⟩
 |k,.ty _,w=>by cases k <;> exact absurd w Qx
 |k,.glb _,w=>by cases k <;> exact absurd w Qx
 |k,.exc _,w=>by cases k <;> exact absurd w Qx
 |k,.kl _,w=>by cases k <;> exact absurd w Qx
 |k,.dct _,w=>by cases k <;> exact absurd w Qx
 |k,.set _,w=>by cases k <;> exact absurd w Qx
theorem nO:∀(k:Nat) (vs:List Val),cW k vs=true->(∀j,k<j->fQ j vs=some (fB vs))/\PyData.canLayAll0 (fB vs)=true/\PyData.depthAll (fB vs)<=k
 |k,[],_=>⟨λj hj=>by simp [fQ,fB],rfl,Q0 _⟩
 |
  k,v::vs,w=>by
  have w':(wfV k v&&cW k vs)=true:=w
  rw[Qy] at w'
  obtain⟨h1,h2,h3⟩:=qr k v w'.1
  obtain⟨i1,i2,i3⟩:=nO k vs w'.2
  exact⟨λj hj=>by simp [fQ,fB,h1 j hj,i1 j hj],by simp [fB,PyData.canLayAll0,h2,i2],Nat.max_le.mpr ⟨h3,i3⟩⟩
end
mutual
theorem zJ:∀(k:Nat) (v u:Val),wfV k v=true->wfV k u=true->PyData.eqv (iH v) (iH u)=vq v u
 |
  k,v,u,hv,hu=>by
  cases v <;> first |(cases k <;> exact absurd hv Qx) |skip
  all_goals (cases u <;> first |(cases k <;> exact absurd hu Qx) |rfl |(cases k with |zero=>exact absurd hv Qx |succ k=>exact wZ k _ _ hv hu))
theorem wZ:∀(k:Nat) (v u:List Val),cW k v=true->cW k u=true->PyData.eqvAll (fB v) (fB u)=vqs v u
 |_,[],[],_,_=>rfl
 |_,[],_::_,_,_=>rfl
 |_,_::_,[],_,_=>rfl
 |
  k,x::xs,y::ys,hv,hu=>by
  have h1:(wfV k x&&cW k xs)=true:=hv
  have h2:(wfV k y&&cW k ys)=true:=hu
  rw[Qy] at h1 h2
  show (PyData.eqv (iH x) (iH y)&&PyData.eqvAll (fB xs) (fB ys))=(vq x y&&vqs xs ys)
  rw[zJ k x y h1.1 h2.1,wZ k xs ys h1.2 h2.2]
end
def A9(hk:k<=160)(hx:wfV k x=true)(hy:wfV k y=true):dA x y=some (vq x y):=by
 obtain⟨h1,h2,h3⟩:=qr k x hx
 obtain⟨i1,i2,i3⟩:=qr k y hy
 unfold dA
 rw[h1 164 (by omega),i1 164 (by omega)]
 dsimp only
 rw[if_pos ⟨jQ h2 (by omega),jQ i2 (by omega)⟩,zJ k x y hx hy]
def Ei(hx:wfV 60 x=true)(hy:wfV 60 y=true):dA x y=some (vq x y):=A9 (by decide) hx hy
mutual
def mC:Val->Bool
 |.bl _=>false
 |.tup xs=>ja xs
 |.lst xs=>ja xs
 |.non=>true
 |.int _=>true
 |.str _=>true
 |_=>false
def ja:List Val->Bool
 | []=>true
 |x::xs=>mC x&&ja xs
end
mutual
theorem zA:∀(v u:Val),mC v=true->mC u=true->(vq v u=true ↔ v=u)
 |
  v,u,hv,hu=>by
  cases v <;> first |exact absurd hv Qx |skip
  all_goals (cases u <;> first |exact absurd hu Qx |exact⟨λz=>absurd z Qx,λz=>nomatch z⟩ |(simp [vq];done) |skip)
  all_goals
   refine Iff.trans (xx _ _ hv hu) ?_
   constructor
   ·rintro rfl;rfl
   ·intro z;cases z;rfl
theorem xx:∀(v u:List Val),ja v=true->ja u=true->(vqs v u=true ↔ v=u)
 | [],[],_,_=>⟨λ_=>rfl,λ_=>rfl⟩
 | [],_::_,_,_=>⟨λz=>absurd z Qx,λz=>nomatch z⟩
 |_::_,[],_,_=>⟨λz=>absurd z Qx,λz=>nomatch z⟩
 |
  x::xs,y::ys,hv,hu=>by
  have h1:(mC x&&ja xs)=true:=hv
  have h2:(mC y&&ja ys)=true:=hu
  rw[Qy] at h1 h2
  show (vq x y&&vqs xs ys)=true ↔ _
  rw[Qy,zA x y h1.1 h2.1,xx xs ys h1.2 h2.2,List.cons.injEq]
end
mutual
theorem qR:∀(k:Nat) (v:Val),wfV k v=true->vq v v=true
 |
  k,v,hv=>by
  cases v <;> first |(cases k <;> exact absurd hv Qx) |rfl |exact SI _ |(cases k with |zero=>exact absurd hv Qx |succ k=>exact ub k _ hv)
theorem ub:∀(k:Nat) (v:List Val),cW k v=true->vqs v v=true
 |_,[],_=>rfl
 |
  k,x::xs,hv=>by
  have h1:(wfV k x&&cW k xs)=true:=hv
  rw[Qy] at h1
  show (vq x x&&vqs xs xs)=true
  rw[qR k x h1.1,ub k xs h1.2]
  rfl
end
noncomputable def fV(q:Rat):Val:=.tup [.int q.num,.int q.den]
structure Bx where
 l:Rat
 t:Rat
 w:Rat
 h:Rat
structure Bx.Ok(b:Bx):Prop where
 w:0<b.w
 h:0<b.h
structure Bx.Sz(n:Nat)(b:Bx):Prop where
 l:L2.Sz n b.l
 t:L2.Sz n b.t
 w:L2.Sz n b.w
 h:L2.Sz n b.h
def bV(b:Bx):Val:=.tup [fV b.l,fV b.t,fV b.w,fV b.h]
def NV(q:Rat)(k:Nat):wfV (k+1) (fV q)=true:=by simp [fV,wfV,cW]
def MM(b:Bx)(k:Nat):wfV (k+2) (bV b)=true:=by simp [bV,wfV,cW,NV]
def NH(q:Rat):bg (fV q)=true:=by simp [fV,bg,cV]
def Et(b:Bx):bg (bV b)=true:=by simp [bV,bg,cV,NH]
def knV:Val->Bool
 |.exc _=>false
 |v=>(tyC v).isSome
def jW:Nat->Val->Bool
 |k+1,.tup xs=>xs.all (jW k)
 |_,v=>knV v
noncomputable def lj:Val->Bool
 |.int _=>true
 |_=>false
noncomputable def bj:Val->Bool
 |.tup [.int a,.int b]=>decide (1<=b)&&decide (Int.gcd a b=1)
 |_=>false
noncomputable def lK:Val->Bool
 |.tup (.int a::_)=>decide (0<a)
 |_=>false
def ik:Val->Bool
 |.tup [a,b,c,d]=>bj a&&(bj b&&(bj c&&(bj d&&(lK c&&lK d))))
 |_=>false
noncomputable def jO:Val->Bool
 |.int i=>decide (1<=i)
 |_=>false
noncomputable def gA:Val->Bool
 |.tup _=>true
 |_=>false
def M9(h1:1<=b)(h2:Int.gcd a b=1):Val.tup [.int a,.int b]=fV ((a:Rat)/(b:Rat)):=by
 have hb:b≠0:=by omega
 have h:=pQ (a:=a) hb
 have s:=Fr.self (by omega) h2
 unfold fV
 rw[<- h.1,<- h.2,s.1,s.2]
def kQ(q:Rat):bj (fV q)=true:=by
 show (decide (1<=(q.den:Int))&&decide (Int.gcd q.num q.den=1))=true
 have:=q.den_pos
 rw[QQ (by omega),QQ (wx q)];rfl
def AZ(h:bj d=true):∃q,d=fV q:=by
 unfold bj at h
 split at h
 ·simp only[Qy,Th] at h
  exact⟨_,M9 h.1 h.2⟩
 ·cases h
def xq(q:Rat):lK (fV q)=decide (0<q):=by
 show decide (0<q.num)=decide (0<q)
 rw[decide_eq_decide]
 exact xa
def Ca(h:b.Ok):ik (bV b)=true:=by
 show (bj (fV b.l)&&(bj (fV b.t)&&(bj (fV b.w)&&(bj (fV b.h)&&(lK (fV b.w)&&lK (fV b.h))))))=true
 rw[kQ,kQ,kQ,kQ,xq,xq,QQ h.w,QQ h.h];rfl
def Ik(b:Bx):jW 2 (bV b)=true:=by simp [bV,fV,jW,knV,tyC]
theorem rB(P:E3->Prop):∀(vs acc:List Val) (e:E3),P e->(∀v∈vs,∀e,P e->∃e1 t e2,g v e=some e1/\F e1=.ok t e2/\dG e2 t=some (e2,f v)/\P e2)->acc.length+vs.length<=16777216->∃e',P e'/\lcV g cY F vs acc e=.ok (acc++vs.map f) e'
 | [],acc,e,hp,_,_=>⟨e,hp,by simp [lcV]⟩
 |
  v::vs,acc,e,hp,hf,hl=>by
  obtain⟨e1,t,e2,q1,q2,q3,q4⟩:=hf v (Qt ..) e hp
  obtain⟨e',p',q5⟩:=rB P vs (acc++[f v]) e2 q4 (λu hu=>hf u (Qr _ hu)) (by simp at hl ⊢;omega)
  refine⟨e',p',?_⟩
  unfold lcV
  rw[if_pos (by simp at hl;omega),q1]
  simp only[cY,lY,RR,q2,q3,q5]
  simp
theorem nY(P:E3->Prop):∀(vs:List Val) (e:E3),P e->(∀v∈vs,∀e,P e->∃e1 e2,g v e=some e1/\(B e1=.nx e2\/B e1=.ct e2)/\P e2)->∃e',P e'/\fg g B vs e=.nx e'
 | [],e,hp,_=>⟨e,hp,rfl⟩
 |
  v::vs,e,hp,hf=>by
  obtain⟨e1,e2,q1,q2,q3⟩:=hf v (Qt ..) e hp
  obtain⟨e',p',q4⟩:=nY P vs e2 q3 λu hu=>hf u (Qr _ hu)
  refine⟨e',p',?_⟩
  rw[fb,q1]
  rcases q2 with q2 |q2 <;> simp only[q2,sY,EL,q4]
def rgV(k:Nat):List Val:=(List.range k).map λj=>Val.int (j:Nat)
def qu(h:k<1000000):jG [.int (k:Nat)]=some (rgV k):=by
 simp only[jG]
 rw[if_pos (⟨by omega,by omega⟩:RgB _),Q_]
 unfold zb rgV
 simp only[Int.zero_add]
def qE(h0:0<=i)(h:i<1000000):jG [.int i]=some (rgV i.toNat):=by
 have:=qu (k:=i.toNat) (by omega)
 rwa [show ((i.toNat:Nat):Int)=i from by omega] at this
theorem cS(fv fw:α->Val)(P:E3->Prop):∀(l:List α) (acc:List Val) (e:E3),P e->(∀a∈l,∀e,P e->∃e1 t e2,g (fv a) e=some e1/\F e1=.ok t e2/\dG e2 t=some (e2,fw a)/\P e2)->acc.length+l.length<=16777216->∃e',P e'/\lcV g qY.G F (l.map fv) acc e=.ok (acc++l.map fw) e'
 | [],acc,e,hp,_,_=>⟨e,hp,by simp [lcV]⟩
 |
  v::vs,acc,e,hp,hf,hl=>by
  obtain⟨e1,t,e2,q1,q2,q3,q4⟩:=hf v (Qt ..) e hp
  obtain⟨e',p',q5⟩:=cS fv fw P vs (acc++[fw v]) e2 q4 (λu hu=>hf u (Qr _ hu)) (by simp at hl ⊢;omega)
  refine⟨e',p',?_⟩
  rw[Qv]
  unfold lcV
  have cy:qY.G=cY:=rfl
  rw[cy] at q5 ⊢
  rw[if_pos (by simp at hl;omega),q1]
  simp only[cY,lY,RR,q2,q3,q5]
  simp
def K2(v:Val):inS (.sh v)=.sh v:=rfl
mutual
theorem vD:∀(k:Nat) (v:Val),wfV k v=true->wfV (k+1) v=true
 |k,.non,_=>by simp [wfV]
 |k,.bl _,_=>by simp [wfV]
 |k,.int _,_=>by simp [wfV]
 |k,.str x,h=>by cases k <;> simpa [wfV] using h
 |0,.tup _,h=>by simp [wfV] at h
 |0,.lst _,h=>by simp [wfV] at h
 |
  k+1,.tup xs,h=>by
  have:=mr k xs (by simpa [wfV] using h)
  simpa [wfV] using this
 |
  k+1,.lst xs,h=>by
  have:=mr k xs (by simpa [wfV] using h)
  simpa [wfV] using this
 |k,.ty _,h=>by cases k <;> simp [wfV] at h
 |k,.glb _,h=>by cases k <;> simp [wfV] at h
 |k,.exc _,h=>by cases k <;> simp [wfV] at h
 |k,.kl _,h=>by cases k <;> simp [wfV] at h
 |k,.dct _,h=>by cases k <;> simp [wfV] at h
 |k,.set _,h=>by cases k <;> simp [wfV] at h
theorem mr:∀(k:Nat) (vs:List Val),cW k vs=true->cW (k+1) vs=true
 |k,[],_=>by simp [cW]
 |
  k,v::vs,h=>by
  have h':wfV k v=true/\cW k vs=true:=by simpa [cW] using h
  simp only[cW,vD k v h'.1,mr k vs h'.2,Bool.and_self]
end
def Ka(h:wfV k v=true)(l:k<=m):wfV m v=true:=by
 induction l with
 |refl=>exact h
 |step _ ih=>exact vD _ _ ih
def Fj(i:Nat)(v:Val)(e:E3):gM (some i) (.sh v) e=e:=rfl
def oG(ms:List Bool)(r:SR3):R3F:=match r with
 |.nx e=>(match muV ms e with |some mv=>.ok (.val .non) mv |none=>.stuck)
 |.rt r e=>(match muV ms e with |some mv=>.ok r mv |none=>.stuck)
 |.exc c e=>(match muV ms e with |some mv=>.exc c mv |none=>.stuck)
 |_=>.stuck
def x9(h:vs.length=ms.length):(fnP ms N c).G vs=oG ms (c.G (sls ms vs++List.replicate (N-vs.length) .no)):=by
 rw[bL,if_pos h];rfl
def Hu(h:vs.length=ms.length):(PFx.of ms N c).G vs=oG ms (c.G (sls ms vs++List.replicate (N-vs.length) .no)):=by
 rw[fY,if_pos h];rfl
def ya(ms:List Bool)(r:Rt)(e:E3):oG ms (.rt r e)=match muV ms e with |some mv=>.ok r mv |none=>.stuck:=rfl
def aT{Q:SR3->Prop}(I:E3->Prop){a b:PSt}{e:E3}(h1:∃e1,a.G e=.nx e1/\I e1)(h2:∀e1,I e1->Q (b.G e1)):Q ((az a b).G e):=by
 obtain⟨e1,q,i⟩:=h1
 rw[EI,q]
 exact h2 e1 i
def iV(i:Int):Val.tup [.int i,.int 1]=fV (i:Rat):=rfl
noncomputable def sm8(h:m.natAbs<1099511627776):Sm 8000 m:=QL (show m.natAbs<2^40 from h) (SF (by decide) (by decide))
def pj(h:m.natAbs<=2000000000000000000000000000000):Sm 101 m:=by unfold Sm;exact Sn h (by decide)
noncomputable def iA{m:Int}(h:m.natAbs<=2000000000000000000000000000000):Sz 101 (m:Rat):=⟨pj h,pj (by show (1:Int).natAbs<=_;decide)⟩
def jf{a b:Int}(hb:b≠0)(h1:a.natAbs<=2000000000000000000000000000000)(h2:b.natAbs<=2000000000000000000000000000000):Sz 101 ((a:Rat)/(b:Rat)):=Sz.div hb (pj h1) (pj h2) 101 (Qu _) (Qu _)
noncomputable def gR{m:Int}(h:0<m):(0:Rat)<(m:Rat):=Rat.intCast_pos.mpr h
def ib{a b:Int}(h1:0<a)(h2:0<b):(0:Rat)<(a:Rat)/(b:Rat):=by
 rw[Rat.div_def]
 exact Rat.mul_pos (gR h1) (Rat.inv_pos.mpr (gR h2))
structure Good(b:Bx):Prop where
 ok:b.Ok
 sz:b.Sz 101
def m7(h:m.natAbs<=2000000000000000000000000000000):Sm 8000 m:=(pj h).mono (by decide)
section
variable{K:W.Frag}{mg:Ua}{X:Cx}{ES:L2.St->XK}{e:Expr}{es:List Expr}{A:PAs}{pos:Pos}
end
def Bk(xs ys:List Val):aY.G (.lst xs) (.lst ys)=if xs.length+ys.length<=16777216 then .new (.lst (xs++ys)) else .stuck:=rfl
section
variable{K:W.Frag}{mg:Ua}{X:Cx}{ES:L2.St->XK}{e a b c o lo hi:Expr}{p q r:PEx}{pos p1 p2:Pos}
end
theorem ar1{α:Type}{P:List α->Prop}(h:∀a,P [a]):∀us:List α,us.length=1->P us
 | [a],_=>h a
theorem ar2{α:Type}{P:List α->Prop}(h:∀a b,P [a,b]):∀us:List α,us.length=2->P us
 | [a,b],_=>h a b
theorem ar3{α:Type}{P:List α->Prop}(h:∀a b c,P [a,b,c]):∀us:List α,us.length=3->P us
 | [a,b,c],_=>h a b c
theorem ar4{α:Type}{P:List α->Prop}(h:∀a b c d,P [a,b,c,d]):∀us:List α,us.length=4->P us
 | [a,b,c,d],_=>h a b c d
section
variable{P:Nat->Prop}{h:AH}
def EJ(r:Rk P h ws us):lkD us k=some v->∃d,lkD ws k=some d/\Rd P h d v:=
 r.ind (M:=λws us=>lkD us k=some v->∃d,lkD ws k=some d/\Rd P h d v) (λq=>by cases q) (λ{k2 d v2 ds vs} r _ ih q=>by
  unfold lkD at q ih ⊢
  rw[Ra] at q ⊢
  dsimp only at q ⊢
  by_cases hk:k2=k
  ·rw[QQ hk] at q ⊢
   cases q
   exact⟨d,rfl,r⟩
  ·rw[QG hk] at q ⊢
   exact ih q)
def ER(r:Rk P h ws us):us.map (·.1)=ws.map (·.1):=
 r.ind (M:=λws us=>us.map (·.1)=ws.map (·.1)) rfl λ_ _ ih=>by rw[Qv,Qv,ih]
def IU(r:Rk P h ws us):ws.length=us.length:=
 r.ind (M:=λws us=>ws.length=us.length) rfl λ_ _ ih=>Ru (· + 1) ih
def K0(r:Rk P h ws us)(q:Rk P h ws' us'):Rk P h (ws++ws') (us++us'):=
 r.ind (M:=λws us=>Rk P h (ws++ws') (us++us')) q λr _ ih=>.cons r ih
def Hi(rd:Rd P h d v)(r:Rk P h ws us):Rk P h (d8 ws k d) (d8 us k v):=by
 unfold d8
 rw[vd (ER r)]
 by_cases hc:(ws.any λkv=>decide (kv.1=k))=true
 ·rw[if_pos hc,if_pos hc]
  exact r.ind (M:=λws us=>Rk P h (ws.map λkv=>if kv.1=k then (kv.1,d) else kv) (us.map λkv=>if kv.1=k then (kv.1,v) else kv)) .nil (λ{k2 d2 v2 ds vs} r _ ih=>by
   rw[Qv,Qv]
   dsimp only
   by_cases hk:k2=k
   ·rw[if_pos hk,if_pos hk];exact .cons rd ih
   ·rw[if_neg hk,if_neg hk];exact .cons r ih)
 ·rw[if_neg hc,if_neg hc]
  exact K0 r (.cons rd .nil)
def KJ:∀{ks:List Key}{ds:List D}{vs:List Val},Rds P h ds vs->Rk P h (ks.zip ds) (ks.zip vs):=by
 intro ks
 induction ks with
 |nil=>intro ds vs _;exact .nil
 |
  cons k ks ih=>
  intro ds vs r
  cases r with
  |nil=>exact .nil
  |cons r rr=>exact .cons r (ih rr)
end
def Cz:Val->Val->Bv:=λx y=>match x with
 |.dct kvs=>(match y with
  |.str k=>(match lkD kvs (.inr k) with
   |some v=>.val v
   |none=>.stuck)
  |_=>.stuck)
 |_=>.stuck
def Kf:RO vF Cz:=λP h d1 d2 v1 v2 r1 r2=>by
 unfold Cz
 split
 ·rename_i kvs
  split
  ·rename_i k
   split
   ·rename_i v q
    obtain⟨n,ws,rfl,e,rk⟩:=r1.dct
    obtain rfl:=r2.str
    obtain⟨d,q1,rd⟩:=EJ rk q
    refine⟨d,?_,rd⟩
    unfold vF
    dsimp only
    rw[e]
    dsimp only
    rw[q1]
   ·trivial
  ·trivial
 ·trivial
def yi:PO2:=⟨vF,Cz,Kf⟩
theorem Nk(kvs:List (Key×Val))(k:Str):yi.G (.dct kvs) (.str k)=match lkD kvs (.inr k) with
 |some v=>.val v
 |none=>.stuck:=rfl
def sD:Val->Val->Val->Option Val:=λo i v=>match o with
 |.dct kvs=>(match i with
  |.str k=>if kvs.length<16777216 then some (.dct (d8 kvs (.inr k) v)) else none
  |_=>none)
 |_=>none
def xJ(ks:List Str)(A:MA3):ME3:=λe=>(A e).bind λts e1=>match dem e1 ts with
 |some (e2,vs)=>if ks.length=vs.length then .ok (.new (.dct ((ks.map Sum.inr).zip vs))) e2 else .stuck
 |none=>.stuck
def GK(ks:List Str)(hA:RA A A3):RE (pS ks A) (xJ ks A3):=λX h0 L ns e ae h S hl=>by
 have SG:=S.grow (.dct [])
 have p:=hA (Xn X h.length) h0 ns e ae (h++[.dct []]) SG
 unfold xJ pS
 cases q:A3 e with
 |stuck=>trivial
 |
  exc c e'=>
  rw[q] at p
  obtain⟨h',ns',y,a,S'⟩:=p
  exact⟨h',ns',by rw[y];rfl,(Stp.grow _).trans S a,S'.weak λn z=>.inl z⟩
 |
  ok ts e1=>
  rw[q] at p
  obtain⟨ds,h1,ns1,y,a1,S1,r1⟩:=p
  rw[y]
  show Po X h0 ns e ae h (relE X h0 L ae) _ (match dem e1 ts with
   |some (e2,vs)=>if ks.length=vs.length then .ok (.new (.dct ((ks.map Sum.inr).zip vs))) e2 else .stuck
   |none=>.stuck)
  cases qd:dem e1 ts with
  |none=>trivial
  |
   some w=>
   obtain⟨e2,vs⟩:=w
   dsimp only
   by_cases bi:ks.length=vs.length
   ·rw[if_pos bi]
    obtain⟨dL,S2,a2,r2⟩:=jh S1 r1 qd
    have hk:h1[h.length]?=some (.dct []):=a1.keep _ _ wQ λ⟨i,s,z,_⟩=>SG.nx i _ z (.inr rfl)
    have A:=((Stp.grow (.dct [])).trans S a1).trans S a2
    have hlt:=bU hk
    have mv:Mov (Oc (Xn X h.length) dL) (Oc (Xn X h.length) dL) h1 (h1.set h.length (.dct ((ks.map Sum.inr).zip ds))):=λm o p q=>⟨p,by
     have:m≠h.length:=λz=>p.1 (.inr z)
     rw[br this];exact q⟩
    have S3:Sat (Xn X h.length) h0 dL e2 ae (h1.set h.length (.dct ((ks.map Sum.inr).zip ds))):=⟨S2.l1,S2.l2,by rw[QH];exact S2.lh,λm z=>by rw[QH];exact S2.xl m z,S2.inj,S2.nx,λj s qj=>(S2.sl j s qj).mono mv λm o qm qo=>by
     have:m≠h.length:=λz=>S2.nx j m qm (.inr z)
     rw[br this];exact qo⟩
    have A3':Stp ns e h dL e2 (h1.set h.length (.dct ((ks.map Sum.inr).zip ds))):=⟨by rw[QH];exact A.len,λm o qm hm=>by
     have:m≠h.length:=QT (bU qm)
     rw[br this];exact A.keep m o qm hm,A.nw,A.lk,A.lk',A.mu,A.mu'⟩
    refine⟨.ref h.length,_,dL,?_,A3',S3.weak λn z=>.inl z,h.length,_,rfl,hl,λz=>Rl _ (S.xl _ z),bS hlt,trivial,S3,.dct ((KJ r2).mono mv)⟩
    show (match h1[h.length]? with
     |some (.dct [])=>if ks.length=ds.length then R.ok (D.ref h.length) (h1.set h.length (.dct ((ks.map Sum.inr).zip ds))) else .stuck
     |_=>.stuck)=_
    rw[hk]
    dsimp only
    rw[if_pos (by rw[r2.len];exact bi)]
   ·rw[if_neg bi]
    trivial
def sV(ks:List Str)(a:PAs):PEx:=⟨pS ks a.F,xJ ks a.G,GK ks a.ok⟩
theorem KG(e:E3)(ks:List Str)(a:PAs):(sV ks a).G e=(a.G e).bind λts e1=>match dem e1 ts with
 |some (e2,vs)=>if ks.length=vs.length then .ok (.new (.dct ((ks.map Sum.inr).zip vs))) e2 else .stuck
 |none=>.stuck:=rfl
section
variable{K:W.Frag}{mg:Ua}{X:Cx}{ES:L2.St->XK}{a b:Expr}{p q:PEx}{pos:Pos}
def xD(hu:X.A.units+1<cLine)(ha:DE K mg X ES a p.F)(hb:DE K mg X ES b q.F)(hs:rF b):DE K mg X ES (.Subscript a b pos) (pOp yi p q).F:=by with_unfolding_all exact Gi hu ha hb hs
def gP(hv:DE K mg X ES v F)(hr:PPs X pos ks vs (tps K mg ES prs)):PPs X pos (some (.Constant (.str k) j kp)::ks) (v::vs) (tps K mg ES ((k,F)::prs)):=by with_unfolding_all exact DN hv hr
def xB(hp:PPs X pos keys values (tps K mg ES prs))(h1:ks=prs.map (·.1):=by rfl)(h2:A.F=aL prs:=by rfl)(hn:ks.Nodup:=by decide)(hall:keys.all (·.isSome)=true:=by rfl)(hl:keys.length=values.length:=by rfl)(h0:keys≠[]:=by intro h;cases h)(h15:keys.length<=15:=by decide)(hp15:prs.length<=15:=by decide):DE K mg X ES (.Dict keys values pos) (sV ks A).F:=by
 subst h1
 show DE K mg X ES (.Dict keys values pos) (pS (prs.map (·.1)) A.F)
 rw[h2]
 with_unfolding_all exact Gm hp hall hl h0 h15 hn hp15
end
end L3
namespace L3
open PySem L2
theorem rG(P:Nat->E3->Prop)(m:Nat)(hs:∀i,i<m->∀e,P i e->∃e1 e2,g (.int (i:Nat)) e=some e1/\(B e1=.nx e2\/B e1=.ct e2)/\P (i+1) e2):∀(k i:Nat) (e:E3),i+k=m->P i e->∃e',P m e'/\fg g B ((List.range' i k).map λj=>Val.int (j:Nat)) e=.nx e'
 |
  0,i,e,h,p=>by
  obtain rfl:i=m:=by omega
  exact⟨e,p,rfl⟩
 |
  k+1,i,e,h,p=>by
  obtain⟨e1,e2,q1,q2,q3⟩:=hs i (by omega) e p
  obtain⟨e',p',q4⟩:=rG P m hs k (i+1) e2 (by omega) q3
  refine⟨e',p',?_⟩
  rw[List.range'_succ,Qv,fb,q1]
  rcases q2 with q2 |q2
  ·simp only[q2,sY];exact q4
  ·simp only[q2,EL];exact q4
def DJ(P:Nat->E3->Prop)(m:Nat)(h0:P 0 e)(hs:∀i,i<m->∀e,P i e->∃e1 e2,g (.int (i:Nat)) e=some e1/\(B e1=.nx e2\/B e1=.ct e2)/\P (i+1) e2):∃e',P m e'/\fg g B (rgV m) e=.nx e':=by
 have:=rG P m hs m 0 e (by omega) h0
 rw[<- List.range_eq_range'] at this
 exact this
def Ln(xs:List Val)(n:Nat):iI xs none (some (n:Int))=xs.take n:=by
 unfold iI
 rw[HT.sIx_none,HT.sIx_nat,List.drop_zero,Nat.sub_zero]
 by_cases h:n<=xs.length
 ·rw[TC h]
 ·rw[Nat.min_eq_right (by omega),RW (Qu _),RW (by omega)]
def vx(xs:List Val)(n:Nat):iI xs (some (n:Int)) none=xs.drop n:=by
 unfold iI
 rw[HT.sIx_none,HT.sIx_nat]
 by_cases h:n<=xs.length
 ·rw[TC h,RW (by rw[SD];exact Qu _)]
 ·rw[Nat.min_eq_right (by omega),List.drop_of_length_le (Qu _),List.drop_of_length_le (by omega),Sh]
def pL(xs:List Val)(lo hi:Option Int):aSl (.lst xs) lo hi=.new (.lst (iI xs lo hi)):=rfl
end L3
namespace L3
open PySem PySem.Spec PyProof.Rows L2
section
variable{gs:MGs}{gs3:ml}
end
section
variable{e:E3}
end
section
variable{K:W.Frag}{mg:Ua}{X:Cx}{es:List Expr}{gs:PGs}{pos:Pos}
end
section
variable{K:W.Frag}{mg:Ua}{X:Cx}{ES:L2.St->XK}{a:Expr}{A:PAs}{pos q2 p1 p2:Pos}
end
section
variable{K:W.Frag}{mg:Ua}{n:Str}{kvs:List (Str×Int)}
end
end L3
namespace L3
open PySem L2
end L3
namespace L3
open PySem PySem.Spec PyProof.Rows L2
section
variable{K:W.Frag}{mg:Ua}
end
section
variable{X:Cx}{K:W.Frag}{mg:Ua}{ES:L2.St->XK}{e:Expr}{es:List Expr}{A:PAs}{pos:Pos}{x:PSt}
variable{P:Program}{w:World}{base:Heap}{fx:Str}{fst:Stmt}{k n m:Nat}{ps N:List Str}{ms:List Bool}
end
end L3
namespace L3
open PySem L2
end L3
namespace L3
open PySem PySem.Spec PyProof.Rows L2
def qL:Val->List Val->Option (Val×Val):=λu vs=>match u,vs with
 |.lst xs,[.int i,v]=>if 0<=i/\i<=(xs.length:Nat)/\xs.length<16777216 then some (.lst (xs.take i.toNat++v::xs.drop i.toNat),.non) else none
 |_,_=>none
def zx:RM nB qL:=λP h n o u ds vs u' v e hf r rs q=>by
 unfold qL at q
 split at q
 ·split at q
  ·rename_i hb
   cases q
   obtain⟨q1,es,q2,q3,q4⟩:=pf e r
   cases rs with
   |
    cons r1 rs=>
    obtain⟨d,rfl,rd⟩:=zj rs
    obtain rfl:=ShR.int (.inl r1)
    refine⟨q1,.lst (es.take _++d::es.drop _),.non,?_,trivial,.lst ((q3.take _).append (.cons rd (q3.drop _))),.non⟩
    unfold nB;rw[q4];dsimp only;rw[if_pos (by rw[q3.len];exact hb)]
  ·cases q
 ·cases q
def nV:PMm:=⟨nB,qL,zx⟩
def B4(xs:List Val)(i:Int)(v:Val):nV.G (.lst xs) [.int i,v]=if 0<=i/\i<=(xs.length:Nat)/\xs.length<16777216 then some (.lst (xs.take i.toNat++v::xs.drop i.toNat),.non) else none:=rfl
def zL{K:W.Frag}{mg:Ua}:MtD K mg qI nV.F:=zG
def Xd(X:Nat->Prop)(b k:Nat):Nat->Prop:=λn=>X n\/(b<=n/\n<b+k)
section
variable{X:Nat->Prop}{h0:Nat}{ns ns1:Ns}{e e1:E3}{ae:AE}{h h1:AH}
def Sat.growL(S:Sat X h0 ns e ae h)(os:List Ob):Sat (Xd X h.length os.length) h0 ns e ae (h++os):=by
 have mv:Mov (Oc X ns) (Oc (Xd X h.length os.length) ns) h (h++os):=λn o' p q=>⟨⟨λz=>by
  rcases z with z |z
  ·exact p.1 z
  ·have:=bU q;omega,p.2⟩,gp q⟩
 refine⟨S.l1,S.l2,by rw[Qw];have:=S.lh;omega,λn z=>?_,S.inj,λi n q z=>?_,λi s q=>(S.sl i s q).mono mv λj o' _ q'=>gp q'⟩
 ·rw[Qw]
  rcases z with z |z
  ·have:=S.xl n z;omega
  ·exact z.2
 ·rcases z with z |z
  ·exact S.nx i n q z
  ·obtain⟨_,_,_,_,_,_,_,q',_⟩:=S.own q
   have:=bU q';omega
def Stp.growL(os:List Ob):Stp ns e h ns e (h++os):=⟨by rw[Qw];omega,λ_ _ q _=>gp q,λ_ _ q=>.inl q,λ_ _ q _=>⟨q,rfl⟩,λ_ _ q _=>⟨q,rfl⟩,λ_ _ q=>⟨_,q,rfl⟩,λ_ _ q=>⟨_,q,rfl⟩⟩
def Stp.wr(a:Stp ns e h ns1 e1 h1)(hc:h.length<=c):Stp ns e h ns1 e1 (h1.set c o):=
 ⟨by rw[QH];exact a.len,λm o' q z=>by rw[br (by have:=bU q;omega)];exact a.keep m o' q z,a.nw,a.lk,a.lk',a.mu,a.mu'⟩
def Bt(hc:X c):Mov (Oc X ns) (Oc X ns) h (h.set c o):=λn o' p q=>⟨p,by rw[br (show n≠c from λz=>p.1 (by rw[z];exact hc))];exact q⟩
def Sat.wr(S:Sat X h0 ns e ae h)(hc:X c):Sat X h0 ns e ae (h.set c o):=by
 refine⟨S.l1,S.l2,by rw[QH];exact S.lh,λn z=>by rw[QH];exact S.xl n z,S.inj,S.nx,λi s q=>?_⟩
 exact (S.sl i s q).mono (Bt hc) λj o' z q'=>by rw[br (λy=>S.nx i c (by rw[<- y];exact z) hc)];exact q'
end
def gH(j t:Nat)(q:ME3):List Val->List (List Val)->MS3
 | [],xss,e=>match e[j]? with
  |some .no=>.nx (e.set j (.sh (.lst (xss.map .lst))))
  |_=>.stuck
 |v::vs,xss,e=>match pN t v e with
  |none=>.stuck
  |some e1=>match q e1 with
   |.ok tm e2=>match rs e2 tm,e2[j]?,e2[t]? with
    |some (.int i),some .no,some (.sh u)=>match xss[i.toNat]? with
     |some xs=>if 0<=i/\xs.length<16777216 then gH j t q vs (xss.set i.toNat (xs++[u])) e2 else .stuck
     |none=>.stuck
    |_,_,_=>.stuck
   |_=>.stuck
def rfs(b k:Nat):List D:=(List.range' b k).map D.ref
def Kx(hi:i<k):(rfs b k)[i]?=some (.ref (b+i)):=by
 unfold rfs
 rw[QM,List.getElem?_range' hi]
 simp
structure Dl(X:Nat->Prop)(b k j:Nat)(ns:Ns)(ae:AE)(h:AH)(xss:List (List Val)):Prop where
 aj:ae[j]?=some (some (.ref (b+k)))
 hm:h[b+k]?=some (.lst (rfs b k))
 len:xss.length=k
 cs:∀(i:Nat) (xs:List Val),xss[i]?=some xs->∃ds,h[b+i]?=some (.lst ds)/\Rds (Oc (Xd X b (k+1)) ns) h ds xs
def Dl.step(d:Dl X b k j ns ae h xss)(S:Sat (Xd X b (k+1)) h0 ns e ae h)(a:Stp ns e h ns1 e1 h1)(ha:ae1[j]?=ae[j]?):Dl X b k j ns1 ae1 h1 xss:=by
 have kp:∀(m:Nat) (o:Ob),b<=m->m<b+(k+1)->h[m]?=some o->h1[m]?=some o:=λm o z1 z2 q=>a.keep m o q λ⟨i,s,y,_⟩=>S.nx i m y (.inr ⟨z1,z2⟩)
 refine⟨ha.trans d.aj,kp _ _ (by omega) (by omega) d.hm,d.len,λi xs q=>?_⟩
 obtain⟨ds,q1,q2⟩:=d.cs i xs q
 have hi:=(Qs.mp q).1
 rw[d.len] at hi
 exact⟨ds,kp _ _ (by omega) (by omega) q1,q2.mono (a.mov S)⟩
open Classical in
def Bw{X:Nat->Prop}{h0:Nat}{ns0:Ns}{e0:E3}{ae0:AE}{hh:AH}(S0:Sat X h0 ns0 e0 ae0 hh){b k j t:Nat}(hb:hh.length<=b)(hX:∀n,X n->n<b)(hjt:j≠t){q:PEx}{ns:Ns}{h:AH}{G:AH->Prop}(hG:∀h',(∀m o,Oc (Xd X b (k+1)) ns m->h[m]?=some o->h'[m]?=some o)->G h'):
 ∀{ds:List D}{vs:List Val},Rds (Oc (Xd X b (k+1)) ns) h ds vs->∀{ns1:Ns}{e1:E3}{ae1:AE}{h1:AH}{xss:List (List Val)},Mov (Oc (Xd X b (k+1)) ns) (Oc (Xd X b (k+1)) ns1) h h1->Stp ns0 e0 hh ns1 e1 h1->Sat (Xd X b (k+1)) h0 ns1 e1 ae1 h1->Dl X b k j ns1 ae1 h1 xss->e1[j]?=some .no->
 PoS X h0 ns0 e0 hh (ia G (gN t) (iP (eM dZ (eOp gIx (ba j) q.F) (eR (ba t) fK))) ds ae1 h1) (gH j t q.G vs xss e1):=by
 intro ds
 induction ds with
 |
  nil=>
  intro vs r ns1 e1 ae1 h1 xss M A S1 D hj
  cases r
  unfold ia gH
  rw[if_pos (hG _ λm o p q=>(M m o p q).2),hj]
  dsimp only
  have hi:=(Qs.mp hj).1
  have oc:∀n,b<=n->n<b+(k+1)->Oc X (ns1.set j none) n:=λn z1 z2=>⟨λz=>by have:=hX n z;omega,λz=>by
   rcases RJ z with z |z
   ·obtain⟨i,z⟩:=bp.mp z
    exact S1.nx i n z (.inr ⟨z1,z2⟩)
   ·cases z⟩
  have mv:Mov (Oc (Xd X b (k+1)) ns1) (Oc X (ns1.set j none)) h1 h1:=λn o p q=>⟨fA ⟨λz=>p.1 (.inl z),p.2⟩,q⟩
  have rows:Rds (Oc X (ns1.set j none)) h1 (rfs b k) (xss.map .lst):=by
   have aux:∀(l:List (List Val)) (i:Nat),xss.drop i=l->Rds (Oc X (ns1.set j none)) h1 (rfs (b+i) l.length) (l.map .lst):=by
    intro l
    induction l with
    |nil=>intro i _;exact .nil
    |
     cons x l ih=>
     intro i hd
     have hx:xss[i]?=some x:=by
      have:=Ru (λq=>q[0]?) hd
      simpa using this
     have hil:=(Qs.mp hx).1
     rw[D.len] at hil
     obtain⟨ds,q1,q2⟩:=D.cs i x hx
     have:=ih (i+1) (by rw[<- List.tail_drop,hd];rfl)
     exact .cons (.cell (oc _ (by omega) (by omega)) q1 (.lst (q2.mono mv))) this
   have:=aux xss 0 rfl
   rw[D.len] at this
   exact this
  have Sw:=S1.weak (X:=X) λn z=>.inl z
  refine .nx (A.put (x:=none) hi (λ_ z=>by cases z) hj rfl rfl S1.l2) (Sw.putN' hi ⟨rfl,_,D.aj,.cell (oc _ (by omega) (by omega)) D.hm (.lst rows)⟩)
 |
  cons d0 ds ih=>
  intro vs r ns1 e1 ae1 h1 xss M A S1 D hj
  cases r with
  |
   cons r rr=>
   unfold ia gH
   rw[if_pos (hG _ λm o p q=>(M m o p q).2)]
   split
   ·trivial
   ·rename_i e2
     q2
    obtain⟨ae2,dL,p2,S2,a2⟩:=vO t _ _ _ _ _ _ _ _ _ S1 (r.mono M) q2
    have hae:ae2=ae1.set t (some d0):=by cases p2;rfl
    have D2:=D.step S1 a2 (ae1:=ae2) (by rw[hae,br hjt])
    have A2:=A.trans S0 a2
    have M2:Mov (Oc (Xd X b (k+1)) ns) (Oc (Xd X b (k+1)) dL) h h1:=λn o p q=>by
     have:=M n o p q
     exact a2.mov S1 n o this.1 this.2
    rw[p2]
    have pq:=q.ok (Xd X b (k+1)) h0 0 dL e2 ae2 h1 S2 (Q0 _)
    show PoS X h0 ns0 e0 hh ((iP (eM dZ (eOp gIx (ba j) q.F) (eR (ba t) fK)) ae2 h1).loop _) _
    split
    ·rename_i tm e3 q3
     rw[q3] at pq
     obtain⟨dq,h3,ns3,y1,a3,S3,y4⟩:=pq
     split
     ·rename_i i u z1 z2 z3
      split
      ·rename_i xs z4
       split
       ·rename_i hb'
        have D3:=D2.step S2 a3 (ae1:=ae2) rfl
        have A3:=A2.trans S0 a3
        obtain rfl:=(y4.sh S3 z1).int
        have hil:=(Qs.mp z4).1
        rw[D.len] at hil
        obtain⟨dsi,w1,w2⟩:=D3.cs _ xs z4
        obtain⟨_,du,w3,w4⟩:=S3.sl t _ z3
        have ix:atI (rfs b k) i=some (.ref (b+i.toNat)):=by
         unfold atI
         rw[show (rfs b k).length=k from by unfold rfs;rw[Qp,List.length_range'],uT hb'.1 (by omega)]
         exact Kx hil
        have f1:eOp gIx (ba j) q.F ae2 h1=.ok (.ref (b+i.toNat)) h3:=by
         unfold eOp ba
         rw[D2.aj]
         show (q.F ae2 h1).bind _=_
         rw[y1]
         show gIx (.ref (b+k)) (.int i) h3=_
         unfold gIx d7 bq
         dsimp only
         rw[D3.hm]
         dsimp only
         rw[ix]
        have f2:iP (eM dZ (eOp gIx (ba j) q.F) (eR (ba t) fK)) ae2 h1=.nx ae2 (h3.set (b+i.toNat) (.lst (dsi++[du]))):=by
         unfold iP eM
         rw[f1]
         show R.toS (if l7 h3 (.ref (b+i.toNat))=true then _ else _) _ _=_
         rw[if_pos (by show (bq h3 (b+i.toNat)).isSome=true;unfold bq;rw[w1];rfl)]
         unfold eR ba fK
         rw[w3]
         show R.toS (dZ (.ref (b+i.toNat)) [du] h3) _ _=_
         unfold dZ iX
         dsimp only
         rw[w1]
         dsimp only
         rw[if_pos (by rw[w2.len];exact hb'.2)]
         rfl
        rw[f2]
        have xc:Xd X b (k+1) (b+i.toNat):=.inr ⟨by omega,by omega⟩
        have mw:=Bt (ns:=ns3) (h:=h3) (o:=.lst (dsi++[du])) xc
        have bnd:b+i.toNat<h3.length:=bU w1
        refine ih rr (λn o p q=>?_) (A3.wr (by omega)) (S3.wr xc) ⟨D3.aj,?_,by rw[QH];exact D3.len,λi' xs' qx=>?_⟩ z2
        ·have m2:=M2 n o p q
         have m3:=a3.mov S2 n o m2.1 m2.2
         exact mw n o m3.1 m3.2
        ·rw[br (by omega)]
         exact D3.hm
        ·rcases bX (by rw[D3.len];exact hil) qx with ⟨rfl,rfl⟩ |⟨z,qx⟩
         ·exact⟨_,bS bnd,((w2.append (.cons w4 .nil)).mono mw)⟩
         ·obtain⟨dsj,v1,v2⟩:=D3.cs i' xs' qx
          exact⟨dsj,by rw[br (by omega)];exact v1,v2.mono mw⟩
       ·trivial
      ·trivial
     ·trivial
    ·trivial
theorem vI:∀(ds acc:List D) (x:Option D) (h:AH),acc.length+ds.length<=16777216->(∀g,G (h++g))->lcL G (gN 0) tY (eFn cE (eR (ba 0) fK)) ds acc [x] h=.ok (acc++rfs h.length ds.length) (h++ds.map λd=>Ob.lst [d])
 |
  [],acc,x,h,_,hG=>by
  unfold lcL
  rw[if_pos (by have:=hG [];rwa [Q3] at this)]
  simp [rfs]
 |
  d::ds,acc,x,h,hl,hG=>by
  rw[QB] at hl
  have ih:=vI ds (acc++[.ref h.length]) (some d) (h++[.lst [d]]) (by rw[Qw];show acc.length+1+_<=_;omega) (λg=>by rw[Rq];exact hG _)
  unfold lcL
  rw[if_pos ⟨by have:=hG [];rwa [Q3] at this,by omega⟩]
  show lcL G (gN 0) tY (eFn cE (eR (ba 0) fK)) ds (acc++[.ref h.length]) [some d] (h++[.lst [d]])=_
  rw[ih]
  congr 1
  ·rw[Rq,Qw]
   simp [rfs,List.range'_succ]
  ·simp
def m6(I1 I2:MI)(j t:Nat)(q:ME):MS:=jk (iJ (eLC I1 [none] (gN 0) tY (eFn cE (eR (ba 0) fK))) (gN j)) (qF I2 (gN t) (iP (eM dZ (eOp gIx (ba j) q) (eR (ba t) fK))))
def Ea(I1 I2:MI3)(j t:Nat)(q:ME3):MS3:=λe=>(I1 e).toS λp e1=>match p.2,e1[j]? with
 |
  none,some s=>if s.pl=true/\p.1.length<16777216 then (I2 (e1.set j .no)).toS λp2 e2=>match p2.2,e2[j]? with
   |none,some .no=>gH j t q p2.1 (p.1.map λv=>[v]) e2
   |_,_=>.stuck
  else .stuck
 |_,_=>.stuck
def Fi{I1 I2:PIt}{j t:Nat}{q:PEx}(hjt:j≠t):RS (m6 I1.F I2.F j t q.F) (Ea I1.G I2.G j t q.G):=λX h0 ns e ae h S=>by
 have hs:m6 I1.F I2.F j t q.F ae h=(I1.F ae h).toS ae λit h1=>(((noX (lcL it.guard (gN 0) tY (eFn cE (eR (ba 0) fK)) it.items [] [none] h1)).bind cE).toS ae λd h2=>.nx (ae.set j (some d)) h2).then (qF I2.F (gN t) (iP (eM dZ (eOp gIx (ba j) q.F) (eR (ba t) fK)))):=by
  unfold m6 jk iJ eLC
  cases I1.F ae h <;> rfl
 rw[hs]
 refine PoS.toS (I1.ok X h0 ns e ae h S) λit p h1 ns1 e1 a1 S1 r1=>?_
 obtain⟨vs,lk⟩:=p
 obtain⟨r2,gd,hk⟩:=r1
 cases lk with
 |some _=>trivial
 |none=>
 cases z2:e1[j]? with
 |none=>trivial
 |
  some s=>
  dsimp only
  split
  ·rename_i hp
   dsimp only at r2 gd hp
   have ln:=r2.len
   have g1:∀g,it.guard (h1++g):=λg=>gd _ λm o q _=>gp q
   rw[vI it.items [] none h1 (by rw[QP];omega) g1,QY]
   have hk1:(rfs h1.length it.items.length).length<=16777216:=by unfold rfs;rw[Qp,List.length_range'];omega
   show PoS X h0 ns e h (SR.then (R.toS (cE (rfs h1.length it.items.length) _) ae _) _) _
   unfold cE
   rw[if_pos hk1]
   show PoS X h0 ns e h (qF I2.F (gN t) _ (ae.set j (some (.ref (h1++it.items.map λd=>Ob.lst [d]).length))) (h1++(it.items.map λd=>Ob.lst [d])++[Ob.lst (rfs h1.length it.items.length)])) _
   have bi:(h1++it.items.map λd=>Ob.lst [d]).length=h1.length+it.items.length:=by rw[Qw,Qp]
   rw[bi,Rq]
   have hol:((it.items.map λd=>Ob.lst [d])++[Ob.lst (rfs h1.length it.items.length)]).length=it.items.length+1:=by rw[Qw,Qp];rfl
   have S2:=S1.growL ((it.items.map λd=>Ob.lst [d])++[Ob.lst (rfs h1.length it.items.length)])
   rw[hol] at S2
   have A2:Stp ns1 e1 h1 ns1 e1 (h1++((it.items.map λd=>Ob.lst [d])++[Ob.lst (rfs h1.length it.items.length)])):=.growL _
   have hj:=(Qs.mp z2).1
   have S3:=S2.putN hj (s:=.no) (d:=some (.ref (h1.length+it.items.length))) rfl
   have A3:=A2.put (x:=none) (s:=.no) hj (λ_ z=>by cases z) z2 hp.1 rfl S1.l2
   have A3':Stp ns e h _ _ _:=a1.trans S A3
   have cellAt:∀(i:Nat) (d:D),it.items[i]?=some d->(h1++((it.items.map λd=>Ob.lst [d])++[Ob.lst (rfs h1.length it.items.length)]))[h1.length+i]?=some (.lst [d]):=λi d qd=>by
    have:=(Qs.mp qd).1
    rw[QO (by omega),QR (by rw[Qp];omega),Nat.add_sub_cancel_left,QM,qd]
    rfl
   have hmAt:(h1++((it.items.map λd=>Ob.lst [d])++[Ob.lst (rfs h1.length it.items.length)]))[h1.length+it.items.length]?=some (.lst (rfs h1.length it.items.length)):=by
    rw[QO (by omega),QO (by rw[Qp];omega),Qp,Nat.add_sub_cancel_left,RL]
    rfl
   generalize h1++((it.items.map λd=>Ob.lst [d])++[Ob.lst (rfs h1.length it.items.length)])=h2 at *
   have mv:Mov (Oc X ns1) (Oc (Xd X h1.length (it.items.length+1)) (ns1.set j none)) h1 h2:=λn o p qn=>by
    have:=bU qn
    exact⟨fA ⟨λz=>by rcases z with z |z;exact p.1 z;omega,p.2⟩,A2.keep n o qn λ⟨i,s,y,_⟩=>p.2 (bp.mpr ⟨i,y⟩)⟩
   have D3:Dl X h1.length it.items.length j (ns1.set j none) (ae.set j (some (.ref (h1.length+it.items.length)))) h2 (vs.map λv=>[v]):=by
    refine⟨bS (by rw[S1.l1];exact hj),hmAt,by rw[Qp,ln],λi xs qx=>?_⟩
    rw[QM] at qx
    obtain⟨v,qv,rfl⟩:=QS.mp qx
    obtain⟨d,qd,rd⟩:=r2.get qv
    exact⟨[d],cellAt i d qd,.cons (rd.mono mv) .nil⟩
   show PoS X h0 ns e h ((I2.F _ h2).toS _ _) _
   have p2:=I2.ok _ h0 _ _ _ h2 S3
   cases q2:I2.G (e1.set j .no) with
   |stuck=>trivial
   |
    exc c e2=>
    rw[q2] at p2
    obtain⟨h3,ns3,y1,a3,S4⟩:=p2
    rw[y1]
    exact⟨_,h3,ns3,rfl,A3'.trans S a3,S4.weak λn z=>.inl z⟩
   |
    ok p2' e2=>
    rw[q2] at p2
    obtain⟨it2,h3,ns3,y1,a3,S4,r3,gd3,hk3⟩:=p2
    obtain⟨vs2,lk2⟩:=p2'
    rw[y1]
    cases lk2 with
    |some _=>trivial
    |none=>
    cases y3:e2[j]? with
    |none=>simp only[R3.toS,y3];trivial
    |
     some s3=>
     by_cases hs3:s3=.no
     case neg=>(simp only[R3.toS,y3];cases s3 <;> first |exact absurd rfl hs3 |trivial)
     subst hs3
     simp only[R3.toS,y3]
     show PoS X h0 ns e h (ia it2.guard (gN t) _ it2.items _ h3) _
     have D4:=D3.step S3 a3 (ae1:=ae.set j (some (.ref (h1.length+it.items.length)))) rfl
     exact Bw S (QI a1.len (Qu _)) (λn z=>S1.xl n z) hjt (λh' hh'=>gd3 h' λm o qm z=>by
      rcases z with z |⟨_,z,_⟩
      ·exact hh' m o z qm
      ·cases z) r3 (λn o p q=>⟨p,q⟩) (A3'.trans S a3) S4 D4 y3
  ·trivial
def xP(I1 I2:PIt)(j t:Nat)(q:PEx)(hjt:j≠t):PSt:=⟨m6 I1.F I2.F j t q.F,Ea I1.G I2.G j t q.G,Fi hjt⟩
def Ao(a b c:MS):jk (jk a b) c=jk a (jk b c):=by
 funext ae h
 unfold jk
 cases a ae h <;> rfl
section
variable{K:W.Frag}{mg:Ua}{X:Cx}{ES:L2.St->XK}{re qe am:Expr}{st1:Stmt}{sts:List Stmt}{q:PEx}{y:PSt}{g:PGt}{I1 I2:PIt}{pos p2 p3 p4 p5:Pos}{x:Str}{j t:Nat}{hjt:j≠t}{ow:Bool}{tg oe:Expr}{hsb:(([none]:Ud).filterMap id).Nodup}
def DC(h1:DS K mg X ES st1 (aQ ow j (pLC I1 [none] hsb (gtN 0) qY (dg (ag (ah 0) ao)))).F)(hp:PassesOwn (model X.prog X.w) X.A X.env X.xe)(hc:X.calm=true)(hK:X.K=K)(hi:DI K mg X ES tg am I2.F)(hg:DG K mg X ES tg (gtN t).F)(hx:DE K mg X ES oe (ah j).F)(hq:DE K mg X ES qe q.F)(hr:DE K mg X ES re (ah t).F)(hy:DSs K mg X ES sts y.F)
 (hpx:nD qe:=by exact λ_ _=>rfl) (hs:∀x,foldedSetIterable am X.env x=pure x:=by intro _;rfl)
 (hsw:swapsWith (.Call (.Attribute (.Subscript oe qe p2) "append" p3) [re] [] p4) none p5.line X.env=pure false:=by rfl)
 (ge:attributeBase (.Subscript oe qe p2) "append" X.env (eval (.Subscript oe qe p2) X.env)=eval (.Subscript oe qe p2) X.env:=by rfl)
 (hfew:((backTo p4 (starEach [re] X.env)).all (λx=>!x.1)&&(backToKw p4 (keywordEach [] X.env)).all (λx=>x.1.isSome)
  && decide ([re].length+([]:List Keyword).length+(if ([]:List Keyword).isEmpty then 0 else 1)<30))=true:=by rfl)
 (gl:(p3.endLine==p4.line)=true:=by rfl) (hs1:starEach [re] X.env=[(false,eval re X.env)]:=by rfl) (ci:(backTo p4 (starEach ([]:List Expr) X.env)).any (·.1)=false:=by rfl) (hs0:starEach ([]:List Expr) X.env=[]:=by rfl):
 DSs K mg X ES (st1 :: .For tg am [.Expr (.Call (.Attribute (.Subscript oe qe p2) "append" p3) [re] [] p4) p5] [] pos::sts) (az (xP I1 I2 j t q hjt) y).F:=by
 have sh:starEach (re::[]) X.env=(false,eval re X.env)::starEach [] X.env:=by rw[hs0];exact hs1
 show DSs K mg X ES _ (jk (m6 I1.F I2.F j t q.F) y.F)
 unfold m6
 rw[Ao]
 with_unfolding_all exact oF h1 (oF (zp hp hc hi hg (wW (xn (de_m hK PySem.F.slot_list_append PySem.F.type_list_append jK sj (D7 (ixK (K:=K) hK) aJ hx hq hpx) (w6 hr zy sh) ge hfew gl sh ci) hsw)) hs) hy)
end
def vJ:Val->Val->Bv:=λx y=>match x,y with
 |
  .str z,.int i=>if z.length<=16777216 then match atI z.cps.toList i with
   |some c=>.val (.str ⟨#[c]⟩)
   |none=>.stuck
  else .stuck
 |_,_=>.stuck
def HI:RO u7 vJ:=λP h d1 d2 v1 v2 r1 r2=>by
 unfold vJ
 split
 ·rw[r1.str,r2.int]
  split
  ·rename_i hz
   split
   ·rename_i c e
    exact⟨_,by unfold u7;dsimp only;rw[if_pos hz,e],.str _⟩
   ·trivial
  ·trivial
 ·trivial
def rD:PO2:=⟨u7,vJ,HI⟩
def Mh{z:Str}{i:Int}{c:Nat}(hz:z.length<=16777216)(e:atI z.cps.toList i=some c):rD.G (.str z) (.int i)=.val (.str ⟨#[c]⟩):=by
 show vJ (.str z) (.int i)=_
 unfold vJ
 dsimp only
 rw[if_pos hz,e]
def oR:Val->Val->Bv:=λx y=>match x,y with
 |.str z,.int i=>if z.length<=16/\0<=i/\i<=1000 then .val (.str (Txt.mul z i)) else .stuck
 |_,_=>.stuck
def Gj:RO pz oR:=λP h d1 d2 v1 v2 r1 r2=>by
 unfold oR
 split
 ·rw[r1.str,r2.int]
  split
  ·rename_i hz
   exact⟨_,by unfold pz;dsimp only;rw[if_pos hz],.str _⟩
  ·trivial
 ·trivial
def nG:PO2:=⟨pz,oR,Gj⟩
def Km{z:Str}{i:Int}(hz:z.length<=16/\0<=i/\i<=1000):nG.G (.str z) (.int i)=.val (.str (Txt.mul z i)):=by
 show oR (.str z) (.int i)=_
 unfold oR
 dsimp only
 rw[if_pos hz]
section
variable{K:W.Frag}{mg:Ua}
def Hy:OpD K mg BH rD.F:=G4
def FF:OpD K mg yY nG.F:=B6
end
def Ec:ME3:=λe=>.ok (.new (.set [])) e
def Fb:RE yh Ec:=λX h0 L ns e ae h S hl=>BvR.po (r:=.ok (.ref h.length) (h++[Ob.set []])) (b:=.new (.set [])) S hl ⟨.set [],rfl,trivial,.set []⟩
def xV:PEx:=⟨yh,Ec,Fb⟩
def Kh(e:E3):xV.G e=.ok (.new (.set [])) e:=rfl
def By:Val->Val->Bv:=λx y=>match x,y with
 |.int i,.set xs=>.val (.bl (decide (i∈xs)))
 |_,_=>.stuck
def Js:RO vc By:=λP h d1 d2 v1 v2 r1 r2=>by
 unfold By
 split
 ·rename_i i xs
  rw[r1.int]
  obtain⟨n,rfl,e⟩:=r2.set
  exact⟨_,by unfold vc;dsimp only;rw[e],.bl _⟩
 ·trivial
def CL:PO2:=⟨vc,By,Js⟩
def Ni(i:Int)(xs:List Int):CL.G (.int i) (.set xs)=.val (.bl (decide (i∈xs))):=rfl
def yW:List Val->Bv:=λvs=>match vs with
 | [.set xs]=>.val (.int (xs.length:Nat))
 |_=>.stuck
def FI:RFn oQ yW:=λP h ds vs r=>by
 unfold yW
 split
 ·obtain⟨d,hd,r1⟩:=jc r
  subst hd
  obtain⟨n,rfl,e⟩:=r1.set
  exact⟨_,by unfold oQ;dsimp only;rw[e],.int _⟩
 ·trivial
def vB:PBf:=⟨oQ,yW,FI⟩
def Li(xs:List Int):vB.G [.set xs]=.val (.int (xs.length:Nat)):=rfl
def CP:Val->Option (List Int)
 |.set xs=>some xs
 |_=>none
def uZ(i:Nat)(A:MA3):ME3:=λe=>match e[i]? with
 |some s=>match s.mv.bind CP with
  |some _=>(A e).bind λts e1=>match dem e1 ts with
   |some (e2,[.int k])=>match e2[i]? with
    |some s2=>match s2.mv.bind CP with
     |some xs=>if xs.length<4000 then .ok (.val .non) (e2.set i (s2.re (.set (f9 xs k)))) else .stuck
     |none=>.stuck
    |none=>.stuck
   |_=>.stuck
  |none=>.stuck
 |none=>.stuck
def K4(i:Nat)(hA:RA A A3):RE (eMS (ba i) A) (uZ i A3):=λX h0 L ns e ae h S hl=>by
 unfold uZ
 cases q0:e[i]? with
 |none=>trivial
 |
  some s0=>
  dsimp only
  split
  ·rename_i xs0 hz
   obtain⟨u0,z1,z2⟩:=Q1.mp hz
   obtain⟨n0,o0,b1,b2,b3,b4,_⟩:=S.write q0 z1
   have hL:yJ h (.ref n0)=true:=by
    cases u0 with
    |set ys=>cases b4;show (match h[n0]? with |some (.set _)=>true |_=>false)=true;rw[b2]
    |_=>cases z2
   have L2e:eMS (ba i) A ae h=(A ae h).bind λds h2=>vn (.ref n0) ds h2:=by
    unfold eMS ba
    rw[b1]
    simp only[hZ,hL,RR]
   rw[L2e]
   refine Po.bind S (hA X h0 ns e ae h S) λds ts h1 ns1 e1 a1 S1 r1=>?_
   split
   ·rename_i e2 k q1
    obtain⟨dL,S2,a2,r2⟩:=jh S1 r1 q1
    cases q2:e2[i]? with
    |none=>trivial
    |
     some s2=>
     dsimp only
     split
     ·rename_i xs q3
      split
      ·rename_i bi
       obtain⟨u,y1,y2⟩:=Q1.mp q3
       obtain⟨n,o,k1,k2,k3,k4,k5⟩:=S2.write q2 y1
       rw[b1] at k1;cases k1
       cases u with
       |
        set ys=>
        cases y2
        cases k4
        obtain⟨d,rfl,rd⟩:=zj r2
        obtain rfl:=ShR.int (.inl rd)
        obtain⟨mv,S4,a4⟩:=k5 (.set (f9 xs k)) (.set (f9 xs k)) trivial (.set _)
        refine⟨.non,_,dL,?_,a2.trans S1 a4,S4,.non⟩
        unfold vn
        dsimp only
        rw[k2]
        dsimp only
        rw[if_pos bi]
       |_=>cases y2
      ·trivial
     ·trivial
   ·trivial
  ·trivial
def BA(i:Nat)(a:PAs):PEx:=⟨eMS (ba i) a.F,uZ i a.G,K4 i a.ok⟩
def JT(e:E3)(i:Nat)(a:PAs):(BA i a).G e=uZ i a.G e:=rfl
def uh:Val->Val->Bv:=λx y=>match x with
 |.dct kvs=>(match y with
  |.int k=>(match lkD kvs (.inl k) with
   |some v=>.val v
   |none=>.stuck)
  |_=>.stuck)
 |_=>.stuck
def Jq:RO vy uh:=λP h d1 d2 v1 v2 r1 r2=>by
 unfold uh
 split
 ·split
  ·split
   ·rename_i kvs k _ v q
    obtain⟨n,ws,rfl,e,rk⟩:=r1.dct
    obtain rfl:=r2.int
    obtain⟨d,q1,rd⟩:=EJ rk q
    refine⟨d,?_,rd⟩
    unfold vy
    dsimp only
    rw[e]
    dsimp only
    rw[q1]
   ·trivial
  ·trivial
 ·trivial
def zi:PO2:=⟨vy,uh,Jq⟩
def Ot(h:lkD kvs (.inl k)=some v):zi.G (.dct kvs) (.int k)=.val v:=by
 show uh (.dct kvs) (.int k)=_
 unfold uh
 dsimp only
 rw[h]
def sDI:Val->Val->Val->Option Val:=λo i v=>match o with
 |.dct kvs=>(match i with
  |.int k=>if kvs.length<16777216 then some (.dct (d8 kvs (.inl k) v)) else none
  |_=>none)
 |_=>none
def G9:yN wDI sDI:=λP h n o u di vi d v u' np e hf r ri rd q=>by
 unfold sDI at q
 split at q
 ·rename_i kvs
  split at q
  ·rename_i k
   split at q
   ·rename_i hl
    cases q
    obtain rfl:=ri.int
    cases r with
    |
     dct rk=>
     rename_i ws
     refine⟨.dct (d8 ws (.inl k) d),?_,trivial,.dct (Hi rd rk)⟩
     unfold wDI
     dsimp only
     rw[e]
     dsimp only
     rw[if_pos (by rw[IU rk];exact hl)]
   ·cases q
  ·cases q
 ·cases q
def seI:PSe:=⟨wDI,sDI,G9⟩
def Ia(kvs:List (Key×Val))(k:Int)(v:Val):seI.G (.dct kvs) (.int k) v=if kvs.length<16777216 then some (.dct (d8 kvs (.inl k) v)) else none:=rfl
def n8:Val->List Val->Option (Val×Val):=λu vs=>match u,vs with
 |.lst xs,[.tup ys]=>if xs.length+ys.length<=16777216 then some (.lst (xs++ys),.non) else none
 |_,_=>none
def xH:RM lJ n8:=λP h n o u ds vs u' v e hf r rs q=>by
 unfold n8 at q
 split at q
 ·split at q
  ·rename_i hl
   cases q
   obtain⟨q1,es,q2,q3,q4⟩:=pf e r
   obtain⟨d,rfl,rd⟩:=zj rs
   obtain⟨ys',rfl,rr⟩:=ShR.tup (.inl rd)
   refine⟨q1,.lst (es++ys'),.non,?_,trivial,.lst (q3.append rr),.non⟩
   unfold lJ;rw[q4];dsimp only;rw[if_pos (by rw[q3.len,rr.len];exact hl)]
  ·cases q
 ·cases q
def jR:PMm:=⟨lJ,n8,xH⟩
def rY(xs ys:List Val):jR.G (.lst xs) [.tup ys]=if xs.length+ys.length<=16777216 then some (.lst (xs++ys),.non) else none:=rfl
section
variable{K:W.Frag}{mg:Ua}{X:Cx}{ES:L2.St->XK}{e o a b:Expr}{es:List Expr}{p q:PEx}{A:PAs}{pos:Pos}
def pO:MtD K mg (oo K) jR.F:=x6
def JO:OpD K mg vm CL.F:=Hc
def G0:bO K mg (λxs H Q=>∃a S n,xs=[.ref a]/\H a=some (.set S n)/\Q (.int (n:Nat)) H) vB.F:=Gz
def Cr:qU K mg xY seI.F:=DX
def Fs(hg:Gl X x)(hm:mg x=none)(hv:bootBuiltins x=some (.type "set"))(hk:X.mg=mg:=by rfl)(hn:x ≠ "__name__":=by decide)(hdb:(x==("__debug__" : Str))=false:=by decide):DE K mg X ES (.Call (.Name x p0) [] [] pos) xV.F:=by with_unfolding_all exact FL hg hm hv hk hn hdb
def IW(hK:X.K=K)(ho:DE K mg X ES o (ah j).F)(ha:DA K mg X ES (e::es) A.F)
 (ge:attributeBase o "add" X.env (eval o X.env)=eval o X.env:=by rfl)
 (hfew:((backTo cpos (starEach (e::es) X.env)).all (λx=>!x.1)&&(backToKw cpos (keywordEach [] X.env)).all (λx=>x.1.isSome)
  && decide ((e::es).length+([]:List Keyword).length+(if ([]:List Keyword).isEmpty then 0 else 1)<30))=true:=by rfl)
 (gl:(apos.endLine==cpos.line)=true:=by rfl) (hs:starEach (e::es) X.env=(false,eval e X.env)::starEach es X.env:=by rfl) (ci:(backTo cpos (starEach es X.env)).any (·.1)=false:=by rfl):
 DE K mg X ES (.Call (.Attribute o "add" apos) (e::es) [] cpos) (BA j A).F:=by with_unfolding_all exact LG hK ho ha ge hfew gl hs ci
def Cg(hu:X.A.units+1<cLine)(ha:DE K mg X ES a p.F)(hb:DE K mg X ES b q.F)(hs:rF b):DE K mg X ES (.Subscript a b pos) (pOp zi p q).F:=by with_unfolding_all exact Co hu ha hb hs
end
section
variable{K:W.Frag}{mg:Ua}
end
end L3
namespace L3
open PySem L2
end L3
namespace L3
open PySem PySem.Spec PyProof.Rows L2
section
variable{K:W.Frag}{mg:Ua}
end
section
variable{K:W.Frag}{mg:Ua}{X:Cx}{ES:L2.St->XK}{e:Expr}{es:List Expr}{p:PEx}{A:PAs}{pos:Pos}
def zcF{f:PFn}{x:Str}{p0:Pos}{k j n:Nat}{ps:List Str}(C:Callee X.prog X.w X.K X.mg X.base x j ps (spD K mg n f.F))(hr:Room k X.A)(ha:DA K mg X ES (e::es) A.F)(hk:j<=k:=by omega)(hg:Gl X x:=by exact rfl)(hx:nu X ES:=by exact vX Mf)(hn:f.ms.length=n:=by rfl)(hdb:(x==("__debug__" : Str))=false:=by decide)(he:starEach (e::es) X.env=(false,eval e X.env)::starEach es X.env:=by rfl)(hpl:(backTo pos (starEach es X.env)).any (·.1)=false:=by rfl):DE K mg X ES (.Call (.Name x p0) (e::es) [] pos) (ax f A).F:=eD C (hr.mono hk) hg hx ha hn hdb he hpl
def zsS{ow:Bool}(i:Nat){x:Str}{kw:Pos}(hN:X.N.Nodup)(he:DE K mg X ES e p.F)(hi:X.N[i]?=some x:=by exact rfl)(hx:Loc X.env.scope x:=by first |exact Or.inl rfl |exact Or.inr rfl)(hs:swapsWith e (some (.Name x kw)) pos.line X.env=pure false:=by rfl)(hf:X.fn x=true\/X.env.scope.names.lookup x=some .local:=by first |exact .inl rfl |exact .inr rfl |assumption):DS K mg X ES (.Assign [.Name x kw] e pos) (aQ ow i p).F:=H9 hN hi hx he hs hf
def zgN(i:Nat){x:Str}(hN:X.N.Nodup)(hi:X.N[i]?=some x:=by exact rfl)(hx:Loc X.env.scope x:=by first |exact Or.inl rfl |exact Or.inr rfl)(hf:X.fn x=true\/X.env.scope.names.lookup x=some .local:=by first |exact .inl rfl |exact .inr rfl |assumption):DG K mg X ES (.Name x pos) (gtN i).F:=GO hN hi hx hf
end
end L3
namespace L3
open PySem L2
def shpB(b:Bx):Rat:=if b.w<b.h then b.h/b.w else b.w/b.h
noncomputable def shL(s l:Rat)(W:Int):Int->List Int->List (Rat×Rat)
 |_,[]=>[]
 |a,w::ws=>(s+l*((a:Rat)/(W:Rat)),l*((w:Rat)/(W:Rat)))::shL s l W (a+w) ws
theorem kM(s l:Rat)(W:Int):∀(ws:List Int) (a:Int),(shL s l W a ws).length=ws.length
 | [],_=>rfl
 |w::ws,a=>by unfold shL;rw[QB,QB,kM s l W ws (a+w)]
def bJ(b:Bx)(way:Str)(ws:List Int):List Bx:=if way="across" then (shL b.l b.w ws.sum 0 ws).map λp=>⟨p.1,b.t,p.2,b.h⟩ else (shL b.t b.h ws.sum 0 ws).map λp=>⟨b.l,p.1,b.w,p.2⟩
theorem mK:∀{l:List Int},(∀w∈l,1<=w)->(l.length:Int)<=l.sum
 | [],_=>by simp
 |
  x::l,h=>by
  rw[Q6,QB]
  have:=h x (Qt ..)
  have:=mK (l:=l) λw hw=>h w (Qr _ hw)
  omega
theorem wX:∀(ws:List Int) (a:Int),0<=a->(∀w∈ws,1<=w)->a+ws.sum<=W->p∈shL s l W a ws->∃a' w:Int,0<=a'/\a'<=W/\1<=w/\w<=W/\p=(s+l*((a':Rat)/(W:Rat)),l*((w:Rat)/(W:Rat)))
 | [],_,_,_,_,h=>nomatch h
 |
  w::ws,a,ha,hw,hs,h=>by
  have h1:=hw w (Qt ..)
  have h2:=mK (l:=ws) λx hx=>hw x (Qr _ hx)
  rw[Q6] at hs
  unfold shL at h
  rcases QD.mp h with rfl |h
  ·exact⟨a,w,ha,by omega,h1,by omega,rfl⟩
  ·exact wX ws (a+w) (by omega) (λx hx=>hw x (Qr _ hx)) (by omega) h
def cut1(b:Bx)(way:Str)(u v:Int):Bx:=(bJ b way [u,v]).headD b
def cut2(b:Bx)(way:Str)(u v:Int):Bx:=((bJ b way [u,v]).drop 1).headD b
def liV(l:List Int):Val:=.lst (l.map .int)
noncomputable def wsAt(ws:List Int)(i:Int):Int:=ws.getD i.toNat 0
def wt(ws l:List Int):Int:=(l.map (wsAt ws)).sum
noncomputable def rst(nums l:List Int):List Int:=nums.filter λx=>!l.contains x
structure Lot(nums l:List Int):Prop where
 sub:l.Sublist nums
 ne:l≠[]
 lt:l.length<nums.length
def mx(x y:Rat):Rat:=if x<y then y else x
structure CutOk(nums:List Int)(c:Str×List Int×List Int):Prop where
 way:c.1="across" \/ c.1="down"
 one:Lot nums c.2.1
 two:Lot nums c.2.2
 d4:c.2.2=rst nums c.2.1
inductive Tr(ws:List Int):Bx->List Int->Val->Rat->Prop
 |leaf (b:Bx) (i:Int):Tr ws b [i] (.int i) (shpB b)
 |node {b:Bx}{way:Str}{l r:List Int}{t1 t2:Val}{q1 q2:Rat} (hw:way="across" \/ way="down") (h1:Tr ws (cut1 b way (wt ws l) (wt ws r)) l t1 q1) (h2:Tr ws (cut2 b way (wt ws l) (wt ws r)) r t2 q2):Tr ws b (l++r) (.tup [.str way,.tup [t1,t2]]) (mx q1 q2)
end L3
namespace L3
open PySem PySem.Spec PyProof.Rows L2
inductive AT where
 |lf (k:Nat)
 |nd (w:Bool) (ts:List AT)
def wy(w:Bool):Str:=if w=true then "across" else "down"
def AT.ind{P:AT->Prop}(h1:∀k,P (.lf k))(h2:∀w ts,(∀t∈ts,P t)->P (.nd w ts))(t:AT):P t:=
 @AT.rec P (λts=>∀t∈ts,P t) h1 (λw ts ih=>h2 w ts ih) (λt h=>nomatch h) (λt ts i1 i2 u hu=>by
  rcases QD.mp hu with rfl |hu
  ·exact i1
  ·exact i2 u hu) t
mutual
def AT.val(f:Nat->Val):AT->Val
 |.lf k=>f k
 |.nd w ts=>.tup [.str (wy w),.tup (AT.vals f ts)]
def AT.vals(f:Nat->Val):List AT->List Val
 | []=>[]
 |t::ts=>AT.val f t::AT.vals f ts
end
mutual
def AT.lvs:AT->List Nat
 |.lf k=>[k]
 |.nd _ ts=>AT.lvsL ts
def AT.lvsL:List AT->List Nat
 | []=>[]
 |t::ts=>AT.lvs t++AT.lvsL ts
end
mutual
def AT.dep:AT->Nat
 |.lf _=>1
 |.nd _ ts=>AT.depL ts+1
def AT.depL:List AT->Nat
 | []=>0
 |t::ts=>max (AT.dep t) (AT.depL ts)
end
mutual
def AT.pth(x:Nat):AT->Option (List Nat)
 |.lf k=>if k=x then some [] else none
 |.nd _ ts=>AT.pthL x 0 ts
def AT.pthL(x:Nat):Nat->List AT->Option (List Nat)
 |_,[]=>none
 |i,t::ts=>match AT.pth x t with
  |some q=>some (i::q)
  |none=>AT.pthL x (i+1) ts
end
mutual
def AT.ok:AT->Bool
 |.lf _=>true
 |.nd _ ts=>decide (2<=ts.length)&&AT.okL ts
def AT.okL:List AT->Bool
 | []=>true
 |t::ts=>AT.ok t&&AT.okL ts
end
theorem AT.vals_map(f:Nat->Val):∀ts,AT.vals f ts=ts.map (AT.val f)
 | []=>rfl
 |t::ts=>by rw[AT.vals,AT.vals_map f ts];rfl
theorem AT.lvsL_mem:∀{ts:List AT},x∈AT.lvsL ts ↔ ∃t∈ts,x∈t.lvs
 | []=>by simp [AT.lvsL]
 |t::ts=>by rw[AT.lvsL,Rh,AT.lvsL_mem (ts:=ts)];simp
theorem AT.lvsL_flat:∀ts:List AT,AT.lvsL ts=(ts.map AT.lvs).flatten
 | []=>rfl
 |t::ts=>by rw[AT.lvsL,AT.lvsL_flat ts];rfl
theorem AT.depL_le:∀{ts:List AT},AT.depL ts<=m ↔ ∀t∈ts,t.dep<=m
 | []=>by simp [AT.depL]
 |t::ts=>by rw[AT.depL,Nat.max_le,AT.depL_le (ts:=ts)];simp
theorem AT.okL_mem:∀{ts:List AT},AT.okL ts=true ↔ ∀t∈ts,t.ok=true
 | []=>by simp [AT.okL]
 |t::ts=>by rw[AT.okL,Qy,AT.okL_mem (ts:=ts)];simp
def AT.dep_pos(t:AT):1<=t.dep:=by cases t <;> simp [AT.dep]
theorem AT.pthL_some:∀{ts:List AT}{i:Nat}{q:List Nat},AT.pthL x i ts=some q->∃k t r,ts[k]?=some t/\t.pth x=some r/\q=(i+k)::r/\∀(k':Nat) (t':AT),k'<k->ts[k']?=some t'->t'.pth x=none
 | [],i,q,h=>by rw[AT.pthL] at h;cases h
 |
  t::ts,i,q,h=>by
  rw[AT.pthL] at h
  split at h
  ·rename_i r e
   cases h
   exact⟨0,t,r,rfl,e,rfl,λk' t' hk=>absurd hk (by omega)⟩
  ·rename_i e
   obtain⟨k,u,r,h1,h2,h3,h4⟩:=AT.pthL_some h
   refine⟨k+1,u,r,h1,h2,by rw[h3];congr 1;omega,λk' t' hk e'=>?_⟩
   cases k' with
   |zero=>cases e';exact e
   |succ k'=>exact h4 k' t' (by omega) e'
theorem AT.pthL_none:∀{ts:List AT}{i:Nat},AT.pthL x i ts=none ↔ ∀t∈ts,t.pth x=none
 | [],i=>by simp [AT.pthL]
 |
  t::ts,i=>by
  rw[AT.pthL]
  cases e:t.pth x with
  |some q=>simp [e]
  |none=>simp [e,AT.pthL_none (ts:=ts)]
def AT.pth_mem(t:AT):t.pth x=none ↔ x∉t.lvs:=by
 induction t using AT.ind with
 |h1 k=>simp [AT.pth,AT.lvs,eq_comm]
 |
  h2 w ts ih=>
  rw[AT.pth,AT.lvs,AT.pthL_none,AT.lvsL_mem]
  constructor
  ·rintro h ⟨t,ht,hx⟩
   exact (ih t ht).mp (h t ht) hx
  ·intro h t ht
   exact (ih t ht).mpr λhx=>h ⟨t,ht,hx⟩
def AT.at:List Nat->AT->Option Nat
 | [],.lf k=>some k
 |i::p,.nd _ ts=>match ts[i]? with
  |some t=>AT.at p t
  |none=>none
 |_,_=>none
def AT.pth_at(t:AT):∀p,t.pth x=some p->AT.at p t=some x:=by
 induction t using AT.ind with
 |
  h1 k=>
  intro p h
  rw[AT.pth] at h
  split at h
  ·cases h;rename_i e;rw[<- e];rfl
  ·cases h
 |
  h2 w ts ih=>
  intro p h
  rw[AT.pth] at h
  obtain⟨k,u,r,h1,h2,h3,_⟩:=AT.pthL_some h
  subst h3
  rw[Nat.zero_add,AT.at,h1]
  exact ih u (Q7 h1) r h2
def wd(w b:Bool):Str:=if w=true then (if b=true then "left" else "right") else (if b=true then "above" else "below")
def AT.rel:List Nat->List Nat->AT->Option Str
 |i::p,j::q,.nd w ts=>if i=j then (match ts[i]? with
  |some t=>AT.rel p q t
  |none=>none) else some (wd w (decide (i<j)))
 |_,_,_=>none
theorem AT.rel_some(hxy:x≠y):∀(p q:List Nat) (t:AT),AT.at p t=some x->AT.at q t=some y->∃u,AT.rel p q t=some u
 |
  [],q,.lf k,h1,h2=>by
  cases q with
  |
   nil=>
   rw[AT.at] at h1 h2
   rw[QK h1] at h2
   exact absurd (QK h2) hxy
  |cons j q=>simp [AT.at] at h2
 | [],q,.nd w ts,h1,h2=>by simp [AT.at] at h1
 |i::p,q,.lf k,h1,h2=>by simp [AT.at] at h1
 |i::p,[],.nd w ts,h1,h2=>by simp [AT.at] at h2
 |
  i::p,j::q,.nd w ts,h1,h2=>by
  rw[AT.rel]
  split
  ·rename_i e
   subst e
   rw[AT.at] at h1 h2
   split at h1
   ·rename_i t e
    rw[e] at h2
    exact AT.rel_some hxy p q t h1 h2
   ·cases h1
  ·exact⟨_,rfl⟩
def je{t:AT}(h:t.ok=true):1<=t.lvs.length:=by
 induction t using AT.ind with
 |h1 k=>simp [AT.lvs]
 |
  h2 w ts ih=>
  rw[AT.ok,Qy] at h
  cases ts with
  |nil=>exact absurd h.1 (by decide)
  |
   cons t ts=>
   have:=ih t (Qt ..) (AT.okL_mem.mp h.2 t (Qt ..))
   rw[AT.lvs,AT.lvsL,Qw]
   omega
theorem gX{α β:Type}{f:α->List β}:∀{l:List α},(∀a∈l,1<=(f a).length)->l.length<=((l.map f).flatten).length
 | [],_=>Qu _
 |
  a::l,h=>by
  have h1:=h a (Qt ..)
  have h2:=gX (l:=l) λb hb=>h b (Qr _ hb)
  rw[Qv,Te,Qw,QB]
  omega
noncomputable def lfV:Val->Bool
 |.int _=>true
 |.str _=>true
 |_=>false
def ntV(q:List Nat):Val:=.lst (q.map λi:Nat=>.int i)
def EU(t:AT):∀q,t.pth x=some q->q.length<t.dep:=by
 induction t using AT.ind with
 |
  h1 k=>
  intro q h
  rw[AT.pth] at h
  split at h
  ·cases h;simp [AT.dep]
  ·cases h
 |
  h2 w ts ih=>
  intro q h
  rw[AT.pth] at h
  obtain⟨k,u,r,h1,h2,h3,_⟩:=AT.pthL_some h
  have hu:=Q7 h1
  have:=ih u hu r h2
  have:=AT.depL_le.mp (Qu (AT.depL ts)) u hu
  rw[AT.dep,h3,QB]
  omega
def EqA(f:Nat->Val)(fx:Val)(x:Nat)(l:List Nat):Prop:=∀k∈l,lfV (f k)=true/\dA (f k) fx=some (decide (k=x))
theorem nE:∀{vs:List Val},(∀v∈vs,wfV k v=true)->cW k vs=true
 | [],_=>rfl
 |
  v::vs,h=>by
  show (wfV k v&&cW k vs)=true
  rw[h v (Qt ..),nE λu hu=>h u (Qr _ hu)]
  rfl
theorem xo:∀{vs:List Val},(∀v∈vs,mC v=true)->ja vs=true
 | [],_=>rfl
 |
  v::vs,h=>by
  show (mC v&&ja vs)=true
  rw[h v (Qt ..),xo λu hu=>h u (Qr _ hu)]
  rfl
def L7(h:p≠q):dA (ntV p) (ntV q)=some false:=by
 have w:∀p:List Nat,wfV 60 (ntV p)=true:=λp=>nE (k:=59) λv hv=>by obtain⟨i,_,rfl⟩:=QX.mp hv;rfl
 have b:∀p:List Nat,mC (ntV p)=true:=λp=>xo λv hv=>by obtain⟨i,_,rfl⟩:=QX.mp hv;rfl
 rw[Ei (w p) (w q)]
 congr 1
 cases hq:vq (ntV p) (ntV q) with
 |false=>rfl
 |
  true=>
  have:=(zA _ _ (b p) (b q)).mp hq
  unfold ntV at this
  injection this with this
  exact absurd (List.map_inj_right (λa b z=>by injection z with z;exact Int.ofNat.inj z) |>.mp this) h
def zK(i j:Nat):(((i:Nat):Int)==(j:Nat))=decide (i=j):=by
 rw[SS,SH,RY]
 omega
def pD(i j:Nat):decide (((i:Nat):Int)<(j:Nat))=decide (i<j):=by
 rw[SS,RY,RY]
 omega
def fC(v:Val)(l:List Val):atI (v::l) 0=some v:=eU (by decide) rfl
def Ex(v:Val)(l:List Val):iI (v::l) (some 1) none=l:=vx _ 1
noncomputable def inB(x:Nat)(t:AT):Bool:=decide (x∈t.lvs)
def itV(l:List Nat):Val:=.lst (l.map λk:Nat=>.int k)
structure TOk(t:AT)(l:List Nat):Prop where
 ok:t.ok=true
 mem:∀k,k∈t.lvs ↔ k∈l
 dep:t.dep<=l.length
 len:t.lvs.length=l.length
def B1(xss:List (List Nat)):List Val:=xss.map itV
theorem B7(I1 I2:PIt)(j t:Nat)(q:PEx)(hjt:j≠t)(e:E3):(xP I1 I2 j t q hjt).G e=(I1.G e).toS λp e1=>match p.2,e1[j]? with
 |
  none,some s=>if s.pl=true/\p.1.length<16777216 then (I2.G (e1.set j .no)).toS λp2 e2=>match p2.2,e2[j]? with
   |none,some .no=>gH j t q.G p2.1 (p.1.map λv=>[v]) e2
   |_,_=>.stuck
  else .stuck
 |_,_=>.stuck:=rfl
structure Lots(yss xss:List (List Nat))(vs:List Nat):Prop where
 len:yss.length=xss.length
 ne:∀l∈yss,l≠[]
 mem:∀k,(∃l∈yss,k∈l) ↔ (∃l∈xss,k∈l)\/k∈vs
 tot:yss.flatten.length=xss.flatten.length+vs.length
def Cf(h:xss[i]?=some xs)(ne:∀l∈xss,l≠[]):Lots (xss.set i (xs++[u])) xss [u]:=by
 have hi:=(Qs.mp h).1
 refine⟨QH ..,λl hl=>?_,λk=>?_,?_⟩
 ·rcases RJ hl with hl |rfl
  ·exact ne l hl
  ·simp
 ·constructor
  ·rintro⟨l,hl,hk⟩
   rcases RJ hl with hl |rfl
   ·exact .inl ⟨l,hl,hk⟩
   ·rcases Rh.mp hk with hk |hk
    ·exact .inl ⟨xs,Q7 h,hk⟩
    ·exact .inr hk
  ·rintro (⟨l,hl,hk⟩ |hk)
   ·obtain⟨j,hj⟩:=Tx hl
    by_cases hij:i=j
    ·subst hij
     rw[h] at hj
     cases hj
     exact⟨_,List.mem_set (by omega) _,SE _ hk⟩
    ·exact⟨l,Q7 (i:=j) (by rw[Sy hij];exact hj),hk⟩
   ·exact⟨_,List.mem_set (by omega) _,QU _ hk⟩
 ·have aux:∀(xss:List (List Nat)) (i:Nat),xss[i]?=some xs->(xss.set i (xs++[u])).flatten.length=xss.flatten.length+1:=by
   intro xss
   induction xss with
   |nil=>intro i h;rw[Tf] at h;cases h
   |
    cons y ys ih=>
    intro i h
    cases i with
    |zero=>cases h;simp [List.set];omega
    |succ i=>simp only[List.set,Te,Qw];rw[ih i h];omega
  exact aux xss i h
def qW{xss:List (List Nat)}(ne:∀l∈xss,l≠[]):xss.length<=xss.flatten.length:=by
 have:=gX (f:=id) (l:=xss) λl hl=>TL.mpr (ne l hl)
 rw[List.map_id] at this
 exact this
theorem vg:∀{yss:List (List Nat)},(∀l∈yss,l≠[])->∀l∈yss,l.length+yss.length<=yss.flatten.length+1
 | [],_,l,hl=>nomatch hl
 |
  y::ys,ne,l,hl=>by
  have h0:=qW (xss:=ys) λl hl=>ne l (Qr _ hl)
  have h1:=TL.mpr (ne y (Qt ..))
  rw[Te,Qw,QB]
  rcases QD.mp hl with rfl |hl
  ·omega
  ·have:=vg (yss:=ys) (λl hl=>ne l (Qr _ hl)) l hl
   omega
def atV(t:AT):Val:=t.val λk=>.int (k:Nat)
def Fy{w:Bool}{ps:List (AT×List Nat)}(h:∀p∈ps,TOk p.1 p.2)(hne:ps≠[])(hne2:∀p∈ps,p.2≠[])(h2:2<=ps.length):TOk (.nd w (ps.map (·.1))) (ps.map (·.2)).flatten:=by
 have hlot:=vg (yss:=ps.map (·.2)) (λl hl=>by obtain⟨p,hp,rfl⟩:=QX.mp hl;exact hne2 p hp)
 refine⟨?_,λk=>?_,?_,?_⟩
 ·rw[AT.ok,Qy]
  refine⟨QQ (by rw[Qp];exact h2),AT.okL_mem.mpr λt ht=>?_⟩
  obtain⟨p,hp,rfl⟩:=QX.mp ht
  exact (h p hp).ok
 ·rw[AT.lvs,AT.lvsL_mem,List.mem_flatten]
  constructor
  ·rintro⟨t,ht,hk⟩
   obtain⟨p,hp,rfl⟩:=QX.mp ht
   exact⟨p.2,Rb hp,((h p hp).mem k).mp hk⟩
  ·rintro⟨l,hl,hk⟩
   obtain⟨p,hp,rfl⟩:=QX.mp hl
   exact⟨p.1,Rb hp,((h p hp).mem k).mpr hk⟩
 ·rw[AT.dep]
  have:AT.depL (ps.map (·.1))<=(ps.map (·.2)).flatten.length-1:=AT.depL_le.mpr λt ht=>by
   obtain⟨p,hp,rfl⟩:=QX.mp ht
   have:=(h p hp).dep
   have:=hlot p.2 (Rb hp)
   rw[Qp] at this
   omega
  obtain⟨p,hp⟩:=List.exists_mem_of_ne_nil ps hne
  have:=hlot p.2 (Rb hp)
  rw[Qp] at this
  omega
 ·rw[AT.lvs]
  clear hlot h2 hne hne2
  induction ps with
  |nil=>rfl
  |
   cons p ps ih=>
   rw[Qv,Qv,AT.lvsL,Qw,Te,Qw,ih λp hp=>h p (Qr _ hp),(h p (Qt ..)).len]
def trQ(v f:Val)(r:SR3):Prop:=oG [true,false] r=.ok (.val v) [f]
def HE(a b:Nat):((a:Nat):Int).fmod (b:Nat)=((a % b:Nat):Int):=by rw[SM _ (by omega)];rfl
def Hz(a b:Nat):((a:Nat):Int).fdiv (b:Nat)=((a/b:Nat):Int):=by rw[Int.fdiv_eq_ediv_of_nonneg _ (by omega)];rfl
structure Nms(m:Nat)(ns:List Val)(f:Nat->Val):Prop where
 at_:∀i,i<m->ns[i]?=some (f i)
 lf:∀i,i<m->lfV (f i)=true
 eq:∀i j,i<m->j<m->dA (f i) (f j)=some (decide (i=j))
mutual
def AT.cnt:AT->Nat
 |.lf _=>1
 |.nd _ ts=>AT.cntL ts+1
def AT.cntL:List AT->Nat
 | []=>0
 |t::ts=>AT.cnt t+AT.cntL ts
end
theorem AT.cntL_app:∀(a b:List AT),AT.cntL (a++b)=AT.cntL a+AT.cntL b
 | [],b=>by simp [AT.cntL]
 |t::a,b=>by rw[Tp,AT.cntL,AT.cntL,AT.cntL_app a b];omega
theorem AT.lvsL_app:∀(a b:List AT),AT.lvsL (a++b)=AT.lvsL a++AT.lvsL b
 | [],b=>by simp [AT.lvsL]
 |t::a,b=>by rw[Tp,AT.lvsL,AT.lvsL,AT.lvsL_app a b,Rq]
def o9(xs:List Val)(x:Val):sW.G (.lst (xs++[x])) []=some (.lst xs,x):=by
 show uC (.lst (xs++[x])) []=_
 unfold uC
 dsimp only
 rw[Qw,List.length_singleton,Nat.add_sub_cancel,QO (Qu _),RL,List.dropLast_concat]
 rfl
theorem AT.cnt_le:∀{ts:List AT}{t:AT},t∈ts->t.cnt<=AT.cntL ts
 | [],t,h=>nomatch h
 |
  u::ts,t,h=>by
  rw[AT.cntL]
  rcases QD.mp h with rfl |h
  ·omega
  ·have:=AT.cnt_le h;omega
def AT.lvs_le(h:t∈ts):t.lvs.length<=(AT.lvsL ts).length:=by
 rw[AT.lvsL_flat]
 exact Tj (Sx (Rb (f:=AT.lvs) h))
def wtA(ws:List Int)(l:List Nat):Int:=(l.map λk=>ws.getD k 0).sum
def wtT(ws:List Int)(t:AT):Int:=wtA ws t.lvs
mutual
def AT.bx(ws:List Int):AT->Bx->List (Nat×Bx)
 |.lf k,b=>[(k,b)]
 |.nd w ts,b=>AT.bxL ws ts (bJ b (wy w) (ts.map (wtT ws)))
def AT.bxL(ws:List Int):List AT->List Bx->List (Nat×Bx)
 |t::ts,b::bs=>AT.bx ws t b++AT.bxL ws ts bs
 |_,_=>[]
end
mutual
def AT.lay(ws:List Int)(n m:Nat):AT->Bx->Prop
 |.lf _,_=>True
 |.nd w ts,b=>b.Ok/\b.Sz n/\ts≠[]/\ts.length<=40/\(∀t∈ts,1<=wtT ws t)/\Sm m (ts.map (wtT ws)).sum/\AT.layL ws n m ts (bJ b (wy w) (ts.map (wtT ws)))
def AT.layL(ws:List Int)(n m:Nat):List AT->List Bx->Prop
 |t::ts,b::bs=>AT.lay ws n m t b/\AT.layL ws n m ts bs
 |_,_=>True
end
def dN(kvs:List (Key×Val))(l:List (Nat×Bx)):List (Key×Val):=l.foldl (λkvs p=>d8 kvs (.inl (p.1:Nat)) (bV p.2)) kvs
def C5(kvs:List (Key×Val))(a b:List (Nat×Bx)):dN kvs (a++b)=dN (dN kvs a) b:=by unfold dN;rw[List.foldl_append]
def BG(h:a.Perm b):wtA ws a=wtA ws b:=by
 unfold wtA
 induction h with
 |nil=>rfl
 |cons x _ ih=>rw[Qv,Qv,Q6,Q6,ih]
 |swap x y l=>simp only[Qv,Q6];omega
 |trans _ _ h1 h2=>rw[h1,h2]
theorem va(ws:List Int):∀ts:List AT,wtA ws (AT.lvsL ts)=(ts.map (wtT ws)).sum
 | []=>rfl
 |
  t::ts=>by
  rw[AT.lvsL,Qv,Q6,<- va ws ts]
  unfold wtT wtA
  rw[Q2,List.sum_append]
def CF(kvs:List (Key×Val))(k:Key)(v:Val):(d8 kvs k v).length<=kvs.length+1:=by
 unfold d8
 split
 ·rw[Qp];omega
 ·rw[Qw];exact Qu _
theorem vv:∀(l:List (Nat×Bx)) (kvs:List (Key×Val)),(dN kvs l).length<=kvs.length+l.length
 | [],kvs=>Qu _
 |
  p::l,kvs=>by
  have h1:=CF kvs (.inl (p.1:Nat)) (bV p.2)
  have h2:=vv l (d8 kvs (.inl (p.1:Nat)) (bV p.2))
  unfold dN at h2 ⊢
  rw[List.foldl_cons,QB]
  omega
def AT.bx_fst(ws:List Int)(t:AT):∀b,(AT.bx ws t b).length<=t.lvs.length/\∀p∈AT.bx ws t b,p.1∈t.lvs:=by
 induction t using AT.ind with
 |h1 k=>intro b;simp [AT.bx,AT.lvs]
 |
  h2 w ts ih=>
  intro b
  rw[AT.bx,AT.lvs]
  generalize bJ b (wy w) (ts.map (wtT ws))=bs
  induction ts generalizing bs with
  |nil=>simp [AT.bxL]
  |
   cons t ts ih2=>
   cases bs with
   |nil=>simp [AT.bxL]
   |
    cons b bs=>
    obtain⟨h1,h2⟩:=ih t (Qt ..) b
    obtain⟨h3,h4⟩:=ih2 (λu hu=>ih u (Qr _ hu)) bs
    rw[AT.bxL,AT.lvsL,Qw,Qw]
    refine⟨by omega,λp hp=>?_⟩
    rcases Rh.mp hp with hp |hp
    ·exact SE _ (h2 p hp)
    ·exact QU _ (h4 p hp)
def Am(kvs:List (Key×Val))(k k':Key)(v:Val):lkD (d8 kvs k v) k'=if k=k' then some v else lkD kvs k':=by
 unfold d8
 induction kvs with
 |
  nil=>
  rw[if_neg (by simp)]
  unfold lkD
  by_cases h:k=k'
  ·simp [h]
  ·simp [h]
 |
  cons p kvs ih=>
  obtain⟨pk,pv⟩:=p
  by_cases hp:pk=k
  ·subst
    hp
   rw[if_pos (by simp)]
   by_cases h:pk=k'
   ·subst h
    simp [lkD]
   ·rw[if_neg h]
    rw[if_neg h] at ih
    simp only[Qv,RR]
    unfold lkD
    simp only[Ra,QG h]
    by_cases ha:(kvs.any λkv=>decide (kv.1=pk))=true
    ·rw[if_pos ha] at ih
     unfold lkD at ih
     exact ih
    ·have:(kvs.map λkv=>if kv.1=pk then (kv.1,v) else kv)=kvs:=by
      conv=>rhs;rw[<- List.map_id kvs]
      refine Se λq hq=>?_
      rw[if_neg]
      ·rfl
      ·intro z
       exact ha (List.any_eq_true.mpr ⟨q,hq,QQ z⟩)
     rw[this]
  ·by_cases ha:(kvs.any λkv=>decide (kv.1=k))=true
   ·rw[if_pos ha] at ih
    rw[if_pos (by rw[Rw,ha,Bool.or_true])]
    simp only[Qv,if_neg hp]
    by_cases h:pk=k'
    ·subst h
     rw[if_neg (λz=>hp z.symm)]
     simp [lkD]
    ·unfold lkD at ih ⊢
     simp only[Ra,QG h]
     exact ih
   ·rw[if_neg ha] at ih
    rw[if_neg (by rw[Rw,QG hp,Bool.false_or];exact ha)]
    rw[Tp]
    by_cases h:pk=k'
    ·subst h
     rw[if_neg (λz=>hp z.symm)]
     simp [lkD]
    ·unfold lkD at ih ⊢
     simp only[Ra,QG h]
     exact ih
def bxO(l:List (Nat×Bx))(k:Nat):Bx:=((l.find? λp=>p.1==k).map (·.2)).getD ⟨0,0,0,0⟩
theorem wV:∀(l:List (Nat×Bx)) (kvs:List (Key×Val)),(l.map (·.1)).Nodup->(k∈l.map (·.1)->lkD (dN kvs l) (.inl (k:Nat))=some (bV (bxO l k)))/\(k∉l.map (·.1)->lkD (dN kvs l) (.inl (k:Nat))=lkD kvs (.inl (k:Nat)))
 | [],kvs,_=>⟨(λh=>nomatch h),λ_=>rfl⟩
 |
  p::l,kvs,nd=>by
  rw[Qv,Sk] at nd
  obtain⟨h1,h2⟩:=wV (k:=k) l (d8 kvs (.inl (p.1:Nat)) (bV p.2)) nd.2
  have e:dN kvs (p::l)=dN (d8 kvs (.inl (p.1:Nat)) (bV p.2)) l:=rfl
  rw[e]
  by_cases hp:p.1=k
  ·have hk:k∉l.map (·.1):=hp ▸ nd.1
   rw[h2 hk,Am,if_pos (by rw[hp])]
   refine⟨λ_=>?_,λz=>absurd (by rw[Qv,hp];exact Qt ..) z⟩
   unfold bxO
   rw[Ra]
   simp [hp]
  ·have hk:k∈(p::l).map (·.1) ↔ k∈l.map (·.1):=by rw[Qv,QD];exact⟨λz=>z.resolve_left (λy=>hp y.symm),.inr⟩
   have hb:bxO (p::l) k=bxO l k:=by
    unfold bxO
    rw[Sq (by simpa using hp)]
   rw[hk,hb]
   refine⟨h1,λz=>?_⟩
   rw[h2 z,Am,if_neg]
   intro y
   injection y with y
   exact hp (Int.ofNat.inj y)
def AF(b:Bx)(way:Str)(ws:List Int):(bJ b way ws).length=ws.length:=by
 unfold bJ
 split <;> rw[Qp,kM]
def AT.bx_keys(ws:List Int)(t:AT):∀b,(AT.bx ws t b).map (·.1)=t.lvs:=by
 induction t using AT.ind with
 |h1 k=>intro b;rw[AT.bx,AT.lvs];rfl
 |
  h2 w ts ih=>
  intro b
  rw[AT.bx,AT.lvs]
  have hl:(bJ b (wy w) (ts.map (wtT ws))).length=ts.length:=by rw[AF,Qp]
  generalize bJ b (wy w) (ts.map (wtT ws))=bs at *
  induction ts generalizing bs with
  |nil=>cases bs <;> rfl
  |
   cons t ts ih2=>
   cases bs with
   |nil=>exact nomatch hl
   |
    cons b bs=>
    rw[AT.bxL,AT.lvsL,Q2,ih t (Qt ..) b,ih2 (λu hu=>ih u (Qr _ hu)) bs (by simpa using hl)]
def AT.cnt_lvs(t:AT)(h:t.ok=true):t.cnt+1<=2*t.lvs.length:=by
 induction t using AT.ind with
 |h1 k=>simp [AT.cnt,AT.lvs]
 |
  h2 w ts ih=>
  rw[AT.ok,Qy] at h
  have hk:=AT.okL_mem.mp h.2
  have h2:2<=ts.length:=RN h.1
  rw[AT.cnt,AT.lvs]
  have:∀ts:List AT,(∀t∈ts,t.cnt+1<=2*t.lvs.length)->AT.cntL ts+ts.length<=2*(AT.lvsL ts).length:=by
   intro ts
   induction ts with
   |nil=>intro _;simp [AT.cntL,AT.lvsL]
   |
    cons t ts ih=>
    intro h
    have h1:=h t (Qt ..)
    have h2:=ih λu hu=>h u (Qr _ hu)
    rw[AT.cntL,AT.lvsL,Qw,QB]
    omega
  have:=this ts λt ht=>ih t ht (hk t ht)
  omega
structure Rp(D A B:Nat)(b:Bx):Prop where
 pos:0<D
 l:∃z:Int,b.l=(z:Rat)/((D:Int):Rat)/\z.natAbs<=A*D
 t:∃z:Int,b.t=(z:Rat)/((D:Int):Rat)/\z.natAbs<=A*D
 w:∃z:Int,b.w=(z:Rat)/((D:Int):Rat)/\0<z/\z<=B*D
 h:∃z:Int,b.h=(z:Rat)/((D:Int):Rat)/\0<z/\z<=B*D
def MK(x y a D W:Rat)(h1:D≠0)(h2:W≠0):x/D+(y/D)*(a/W)=(x*W+y*a)/(D*W):=by grind
def Ml(y a D W:Rat)(h1:D≠0)(h2:W≠0):(y/D)*(a/W)=(y*a)/(D*W):=by grind
def NJ(y D W:Rat)(h1:D≠0)(h2:W≠0):y/D=(y*W)/(D*W):=by grind
def nh{z:Int}(h:z≠0):(z:Rat)≠0:=λe=>h (Rat.intCast_inj.mp e)
def Eo{x y a W:Int}{D A B:Nat}(hD:0<D)(hx:x.natAbs<=A*D)(hy:0<y/\y<=B*D)(ha:0<=a/\a<=W)(hW:0<W):∃z:Int,(x:Rat)/((D:Int):Rat)+((y:Rat)/((D:Int):Rat))*((a:Rat)/(W:Rat))=(z:Rat)/(((D*W.toNat:Nat):Int):Rat)/\z.natAbs<=(A+B)*(D*W.toNat):=by
 obtain⟨V,rfl⟩:∃V:Nat,W=V:=⟨W.toNat,by omega⟩
 refine⟨x*V+y*a,?_,?_⟩
 ·rw[MK _ _ _ _ _ (nh (by omega)) (nh (by omega))]
  congr 1
  ·rw[Rat.intCast_add,Ry,Ry]
  ·rw[Q_,R0,Ry]
 ·rw[Q_]
  have h1:(x*(V:Int)).natAbs<=A*D*V:=by rw[Rm];exact Ro hx (Qu _)
  have h2:(y*a).natAbs<=B*D*V:=by
   rw[Rm]
   refine Ro ?_ (by omega)
   have:=hy.2
   omega
  have h3:=Int.natAbs_add_le (x*V) (y*a)
  rw[Nat.add_mul,<- TM,<- TM]
  omega
def Ef{y a W:Int}{D B:Nat}(hD:0<D)(hy:0<y/\y<=B*D)(ha:1<=a/\a<=W):∃z:Int,((y:Rat)/((D:Int):Rat))*((a:Rat)/(W:Rat))=(z:Rat)/(((D*W.toNat:Nat):Int):Rat)/\0<z/\z<=((B:Nat):Int)*((D*W.toNat:Nat):Int):=by
 obtain⟨V,rfl⟩:∃V:Nat,W=V:=⟨W.toNat,by omega⟩
 refine⟨y*a,?_,Int.mul_pos hy.1 (by omega),?_⟩
 ·rw[Ml _ _ _ _ (nh (by omega)) (nh (by omega))]
  congr 1
  ·rw[Ry]
  ·rw[Q_,R0,Ry]
 ·rw[Q_,R0,<- Rv]
  exact Int.mul_le_mul hy.2 ha.2 (by omega) (Int.le_trans (Int.le_of_lt hy.1) hy.2)
def p8{y W:Int}{D:Nat}(hD:0<D)(hW:0<W):(y:Rat)/((D:Int):Rat)=((y*W:Int):Rat)/(((D*W.toNat:Nat):Int):Rat):=by
 obtain⟨V,rfl⟩:∃V:Nat,W=V:=⟨W.toNat,by omega⟩
 rw[NJ _ _ _ (nh (show ((D:Nat):Int)≠0 by omega)) (nh (show ((V:Nat):Int)≠0 by omega)),Ry,Q_,R0,Ry]
def AB{z W:Int}{D A B:Nat}(hz:z.natAbs<=A*D)(hW:0<W):(z*W).natAbs<=(A+B)*(D*W.toNat):=by
 rw[Rm,<- TM]
 refine Ro ?_ (by omega)
 rw[Nat.add_mul]
 omega
def Ay{z W:Int}{D B:Nat}(hz:0<z/\z<=B*D)(hW:0<W):0<z*W/\z*W<=((B:Nat):Int)*((D*W.toNat:Nat):Int):=by
 refine⟨Int.mul_pos hz.1 hW,?_⟩
 rw[R0,<- Rv,Int.toNat_of_nonneg (by omega)]
 exact Int.mul_le_mul_of_nonneg_right hz.2 (by omega)
def Rp.parts{D A B:Nat}{b b':Bx}{way:Str}{ws:List Int}(r:Rp D A B b)(hw:∀w∈ws,1<=w)(h:b'∈bJ b way ws):Rp (D*ws.sum.toNat) (A+B) B b':=by
 obtain⟨pos,⟨zl,el,bl⟩,⟨zt,et,bt⟩,⟨zw,ew,bw⟩,⟨zh,eh,bh⟩⟩:=r
 have key:∀p:Rat×Rat,∀s l:Rat,p∈shL s l ws.sum 0 ws->0<ws.sum/\∃a' w:Int,0<=a'/\a'<=ws.sum/\1<=w/\w<=ws.sum/\p=(s+l*((a':Rat)/(ws.sum:Rat)),l*((w:Rat)/(ws.sum:Rat))):=λp s l hp=>by
  obtain⟨a',w,h1,h2,h3,h4,h5⟩:=wX ws 0 (by omega) hw (by omega) hp
  exact⟨by omega,a',w,h1,h2,h3,h4,h5⟩
 unfold bJ at h
 split at h
 ·obtain⟨p,hp,rfl⟩:=QX.mp h
  obtain⟨hS,a',w,h1,h2,h3,h4,rfl⟩:=key p _ _ hp
  have hV:0<D*ws.sum.toNat:=RK pos (by omega)
  refine⟨hV,?_,⟨zt*ws.sum,by show b.t=_;rw[et];exact p8 pos hS,AB bt hS⟩,?_,⟨zh*ws.sum,by show b.h=_;rw[eh];exact p8 pos hS,Ay bh hS⟩⟩
  ·show ∃z:Int,b.l+b.w*_=_/\_
   rw[el,ew]
   exact Eo pos bl bw ⟨h1,h2⟩ hS
  ·show ∃z:Int,b.w*_=_/\_
   rw[ew]
   exact Ef pos bw ⟨h3,h4⟩
 ·obtain⟨p,hp,rfl⟩:=QX.mp h
  obtain⟨hS,a',w,h1,h2,h3,h4,rfl⟩:=key p _ _ hp
  have hV:0<D*ws.sum.toNat:=RK pos (by omega)
  refine⟨hV,⟨zl*ws.sum,by show b.l=_;rw[el];exact p8 pos hS,AB bl hS⟩,?_,⟨zw*ws.sum,by show b.w=_;rw[ew];exact p8 pos hS,Ay bw hS⟩,?_⟩
  ·show ∃z:Int,b.t+b.h*_=_/\_
   rw[et,eh]
   exact Eo pos bt bh ⟨h1,h2⟩ hS
  ·show ∃z:Int,b.h*_=_/\_
   rw[eh]
   exact Ef pos bh ⟨h3,h4⟩
def Rp.ok{D A B:Nat}{b:Bx}(r:Rp D A B b):b.Ok:=by
 obtain⟨pos,_,_,⟨zw,ew,bw⟩,⟨zh,eh,bh⟩⟩:=r
 exact⟨by rw[ew];exact ib bw.1 (by omega),by rw[eh];exact ib bh.1 (by omega)⟩
def Rp.sz{D A B n:Nat}{b:Bx}(r:Rp D A B b)(hA:A*D<2^n)(hB:B*D<2^n)(hD:D<2^n):b.Sz n:=by
 obtain⟨pos,⟨zl,el,bl⟩,⟨zt,et,bt⟩,⟨zw,ew,bw⟩,⟨zh,eh,bh⟩⟩:=r
 have sD:Sm n ((D:Nat):Int):=by show ((D:Nat):Int).natAbs<2^n;omega
 have k:∀z:Int,z.natAbs<2^n->Sz n ((z:Rat)/((D:Int):Rat)):=λz hz=>Sz.div (by omega) hz sD n (Qu _) (Qu _)
 have hb:∀z:Int,0<z/\z<=B*D->z.natAbs<2^n:=λz hz=>by
  have h1:z<=((B*D:Nat):Int):=by rw[R0];exact hz.2
  omega
 exact⟨by rw[el];exact k zl (by omega),by rw[et];exact k zt (by omega),by rw[ew];exact k zw (hb zw bw),by rw[eh];exact k zh (hb zh bh)⟩
theorem m8{ws:List Int}:∀{l:List Nat},(∀k∈l,1<=ws.getD k 0)->(l.length:Int)<=wtA ws l
 | [],_=>by simp [wtA]
 |
  k::l,h=>by
  have h1:=h k (Qt ..)
  have h2:=m8 (l:=l) λj hj=>h j (Qr _ hj)
  unfold wtA at h2 ⊢
  rw[Qv,Q6,QB]
  omega
theorem xv{ws:List Int}{n m:Nat}:∀{ts:List AT}{bs:List Bx},(∀t∈ts,∀b∈bs,AT.lay ws n m t b)->AT.layL ws n m ts bs
 | [],_,_=>by rw[AT.layL];trivial;intro t ts b bs z;cases z
 |t::ts,[],_=>by rw[AT.layL];trivial;intro t ts b bs _ z;cases z
 |
  t::ts,b::bs,h=>by
  rw[AT.layL]
  exact⟨h t (Qt ..) b (Qt ..),xv λu hu c hc=>h u (Qr _ hu) c (Qr _ hc)⟩
def KP{ws:List Int}{n m B:Nat}(t:AT):∀(b:Bx) (D A:Nat),Rp D A B b->B<=A->1<=A->(A+t.dep*B)*(D*2^(m*t.dep))<2^n->t.ok=true->(∀k∈t.lvs,1<=ws.getD k 0)->wtT ws t<2^m->t.lvs.length<=40->AT.lay ws n m t b:=by
 induction t using AT.ind with
 |h1 k=>intros;rw[AT.lay];trivial
 |
  h2 w ts ih=>
  intro b D A r hBA hA hn ho hw hm hl
  have ho':=ho
  rw[AT.ok,Qy] at ho'
  have h2:2<=ts.length:=RN ho'.1
  have hk:=AT.okL_mem.mp ho'.2
  rw[AT.lvs] at hw hl
  have hws:∀t∈ts,∀k∈t.lvs,1<=ws.getD k 0:=λt ht k hk'=>hw k (AT.lvsL_mem.mpr ⟨t,ht,hk'⟩)
  have hone:∀t∈ts,1<=wtT ws t:=λt ht=>by
   have h1:=je (hk t ht)
   have h2:=m8 (hws t ht)
   unfold wtT
   omega
  have hsum:wtT ws (.nd w ts)=(ts.map (wtT ws)).sum:=by
   unfold wtT
   rw[AT.lvs]
   exact va ws ts
  rw[hsum] at hm
  have hpos:0<=(ts.map (wtT ws)).sum:=by
   rw[<- va]
   have:=m8 hw
   omega
  rw[AT.dep] at hn
  generalize hq:AT.depL ts=q at *
  have hD1:1<=2^(m*(q+1)):=Nat.one_le_two_pow
  have hAle:A*D<=(A+(q+1)*B)*(D*2^(m*(q+1))):=Ro (by omega) (Nat.le_mul_of_pos_right _ hD1)
  have hDle:D<=A*D:=Nat.le_mul_of_pos_left _ hA
  have hBle:B*D<=A*D:=TF _ hBA
  have tl:ts.length<=40:=by
   rw[AT.lvsL_flat] at hl
   have:ts.length<=((ts.map AT.lvs).flatten).length:=gX λt ht=>je (hk t ht)
   omega
  rw[AT.lay]
  refine⟨r.ok,r.sz (by omega) (by omega) (by omega),λz=>by rw[z] at h2;simp at h2,tl,hone,by
   show (ts.map (wtT ws)).sum.natAbs<2^m
   have:(((ts.map (wtT ws)).sum.natAbs:Nat):Int)<((2^m:Nat):Int):=by
    rw[Int.natAbs_of_nonneg hpos]
    push_cast
    exact hm
   omega,xv λt ht c hc=>?_⟩
  have rp:=r.parts (λx hx=>by obtain⟨u,hu,rfl⟩:=QX.mp hx;exact hone u hu) hc
  have hdt:t.dep<=q:=by rw[<- hq];exact AT.depL_le.mp (Qu _) t ht
  have hS:(ts.map (wtT ws)).sum.toNat<=2^m:=by
   have:(((ts.map (wtT ws)).sum.toNat:Nat):Int)<((2^m:Nat):Int):=by
    rw[Int.toNat_of_nonneg hpos]
    push_cast
    exact hm
   omega
  refine ih t ht c _ (A+B) rp (by omega) (by omega) ?_ (hk t ht) (hws t ht) ?_ (by have:=AT.lvs_le ht;omega)
  ·refine Sn (Ro ?_ ?_) hn
   ·have:t.dep*B<=q*B:=TF _ hdt
    rw[Nat.add_mul,Nat.one_mul]
    omega
   ·rw[TM]
    refine Sf _ ?_
    have e:2^(m*(q+1))=2^m*2^(m*q):=by rw[<- SQ];congr 1;rw[Nat.mul_add,Nat.mul_one,Nat.add_comm]
    rw[e]
    exact Ro hS (SF (by decide) (Sf _ hdt))
  ·refine Int.lt_of_le_of_lt ?_ hm
   have aux:∀us:List AT,(∀u∈us,0<=wtT ws u)->t∈us->wtT ws t<=(us.map (wtT ws)).sum:=by
    intro us
    induction us with
    |nil=>intro _ h;exact nomatch h
    |
     cons u us ih=>
     intro h0 hm
     have nn:∀us:List AT,(∀u∈us,0<=wtT ws u)->0<=(us.map (wtT ws)).sum:=by
      intro us
      induction us with
      |nil=>intro _;simp
      |cons v us ih=>intro h;rw[Qv,Q6];have:=h v (Qt ..);have:=ih λu hu=>h u (Qr _ hu);omega
     rw[Qv,Q6]
     rcases QD.mp hm with rfl |hm
     ·have:=nn us λu hu=>h0 u (Qr _ hu)
      omega
     ·have h1:=ih (λu hu=>h0 u (Qr _ hu)) hm
      have h2:=h0 u (Qt ..)
      omega
   exact aux ts (λu hu=>by have:=hone u hu;omega) ht
def qM(b:Bx)(w:Bool)(W a x:Int):Bx:=if w=true then ⟨b.l+b.w*((a:Rat)/(W:Rat)),b.t,b.w*((x:Rat)/(W:Rat)),b.h⟩ else ⟨b.l,b.t+b.h*((a:Rat)/(W:Rat)),b.w,b.h*((x:Rat)/(W:Rat))⟩
def frm(b:Bx)(w:Bool)(W:Int):Int->List Int->List Bx
 |_,[]=>[]
 |a,x::xs=>qM b w W a x::frm b w W (a+x) xs
def mF(b:Bx)(w:Bool)(xs:List Int):bJ b (wy w) xs=frm b w xs.sum 0 xs:=by
 have key:∀(W:Int) (xs:List Int) (a:Int),(if wy w="across" then (shL b.l b.w W a xs).map λp=>(⟨p.1,b.t,p.2,b.h⟩:Bx) else (shL b.t b.h W a xs).map λp=>⟨b.l,p.1,b.w,p.2⟩)=frm b w W a xs:=by
  intro W xs
  induction xs with
  |nil=>intro a;unfold shL frm;split <;> rfl
  |
   cons x xs ih=>
   intro a
   rw[frm,<- ih,shL,shL]
   unfold qM
   cases w with
   |true=>rw[if_pos (show wy true="across" from rfl),if_pos (show wy true="across" from rfl),if_pos rfl];rfl
   |
    false=>
    have hn:¬ (wy false="across"):=by decide
    rw[if_neg hn,if_neg hn,if_neg (by decide)];rfl
 exact key xs.sum xs 0
def qp(ws:List Int)(bs:List Bx):AT.bxL ws [] bs=[]:=by rw[AT.bxL];intro _ _ _ _ h;cases h
def za(w:Bool):PyData.strOk (wy w)=true:=by cases w <;> decide +kernel
def Fq{f:Nat->Val}(t:AT):∀d,t.dep<=d->(∀k∈t.lvs,wfV 0 (f k)=true)->wfV (2*d) (t.val f)=true:=by
 induction t using AT.ind with
 |
  h1 k=>
  intro d _ h
  rw[AT.val]
  exact Ka (h k (by rw[AT.lvs];exact Qt ..)) (Q0 _)
 |
  h2 w ts ih=>
  intro d hd h
  rw[AT.dep] at hd
  obtain⟨e,rfl⟩:∃e,d=e+1:=⟨d-1,by omega⟩
  have hc:cW (2*e) (AT.vals f ts)=true:=by
   rw[AT.vals_map]
   refine nE λv hv=>?_
   obtain⟨t,ht,rfl⟩:=QX.mp hv
   exact ih t ht e (AT.depL_le.mp (show AT.depL ts<=e by omega) t ht) λk hk=>h k (by rw[AT.lvs];exact AT.lvsL_mem.mpr ⟨t,ht,hk⟩)
  rw[AT.val,show 2*(e+1)=2*e+1+1 from by omega]
  show (wfV (2*e+1) (.str (wy w))&&(cW (2*e) (AT.vals f ts)&&true))=true
  rw[hc,show wfV (2*e+1) (.str (wy w))=true from za w]
  rfl
def qD{f:Nat->Val}(t:AT)(hd:t.dep<=60)(h:∀k∈t.lvs,wfV 0 (f k)=true):dA (t.val f) (t.val f)=some true:=by
 have:=Fq (f:=f) t 60 hd h
 rw[A9 (by decide) this this,qR _ _ this]
mutual
def AT.trn:AT->AT
 |.lf k=>.lf k
 |.nd w ts=>.nd (!w) (AT.trnL ts)
def AT.trnL:List AT->List AT
 | []=>[]
 |t::ts=>AT.trn t::AT.trnL ts
end
theorem AT.trnL_map:∀ts,AT.trnL ts=ts.map AT.trn
 | []=>rfl
 |t::ts=>by rw[AT.trnL,AT.trnL_map ts];rfl
def AT.trn_lvs(t:AT):t.trn.lvs=t.lvs:=by
 induction t using AT.ind with
 |h1 k=>rfl
 |
  h2 w ts ih=>
  rw[AT.trn,AT.lvs,AT.lvs,AT.lvsL_flat,AT.lvsL_flat,AT.trnL_map,Rg]
  congr 1
  exact Se λt ht=>ih t ht
def AT.trn_trn(t:AT):t.trn.trn=t:=by
 induction t using AT.ind with
 |h1 k=>rfl
 |
  h2 w ts ih=>
  rw[AT.trn,AT.trn,AT.trnL_map,AT.trnL_map,Rg,Bool.not_not]
  congr 1
  conv=>rhs;rw[<- List.map_id ts]
  exact Se λt ht=>ih t ht
def AT.trn_ok(t:AT)(h:t.ok=true):t.trn.ok=true:=by
 induction t using AT.ind with
 |h1 k=>rfl
 |
  h2 w ts ih=>
  rw[AT.ok,Qy] at h
  have hk:=AT.okL_mem.mp h.2
  have h2:=RN h.1
  rw[AT.trn,AT.ok,Qy,AT.trnL_map]
  refine⟨QQ (by rw[Qp];exact h2),AT.okL_mem.mpr λt ht=>?_⟩
  obtain⟨u,hu,rfl⟩:=QX.mp ht
  exact ih u hu (hk u hu)
def AT.trn_dep(t:AT):t.trn.dep<=t.dep:=by
 induction t using AT.ind with
 |h1 k=>exact Qu _
 |
  h2 w ts ih=>
  rw[AT.trn,AT.dep,AT.dep,AT.trnL_map]
  refine Nat.succ_le_succ (AT.depL_le.mpr λt ht=>?_)
  obtain⟨u,hu,rfl⟩:=QX.mp ht
  exact QI (ih u hu) (AT.depL_le.mp (Qu _) u hu)
def TOk.trn{t:AT}{l:List Nat}(T:TOk t l):TOk t.trn l:=⟨t.trn_ok T.ok,λk=>by rw[AT.trn_lvs];exact T.mem k,QI t.trn_dep T.dep,by rw[AT.trn_lvs];exact T.len⟩
noncomputable def Bx.trn(b:Bx):Bx:=⟨b.t,b.l,b.h,b.w⟩
def Gg(b:Bx)(w:Bool)(W a x:Int):qM b.trn (!w) W a x=(qM b w W a x).trn:=by cases w <;> rfl
theorem wC(b:Bx)(w:Bool)(W:Int):∀(xs:List Int) (a:Int),frm b.trn (!w) W a xs=(frm b w W a xs).map Bx.trn
 | [],_=>rfl
 |x::xs,a=>by rw[frm,frm,Qv,Gg,wC b w W xs]
def FX(ws:List Int)(t:AT):wtT ws t.trn=wtT ws t:=by unfold wtT;rw[AT.trn_lvs]
def yw(p:Nat×Bx):Nat×Bx:=(p.1,p.2.trn)
def AT.trn_bx{ws:List Int}(t:AT):∀b,AT.bx ws t.trn b.trn=(AT.bx ws t b).map yw:=by
 induction t using AT.ind with
 |h1 k=>intro b;rfl
 |
  h2 w ts ih=>
  intro b
  have hm:(AT.trnL ts).map (wtT ws)=ts.map (wtT ws):=by
   rw[AT.trnL_map,Rg]
   exact Se λt _=>FX ws t
  rw[AT.trn,AT.bx,AT.bx,mF,mF,hm,wC]
  generalize frm b w (ts.map (wtT ws)).sum 0 (ts.map (wtT ws))=bs
  clear hm
  induction ts generalizing bs with
  |nil=>rw[AT.trnL,qp,qp];rfl
  |
   cons t ts ih2=>
   cases bs with
   |
    nil=>
    have hn:∀ts,AT.bxL ws ts []=[]:=λts=>by rw[AT.bxL];intro _ _ _ _ _ h;cases h
    rw[QZ,hn,hn];rfl
   |cons c cs=>rw[AT.trnL,Qv,AT.bxL,AT.bxL,Q2,ih t (Qt ..),ih2 λu hu=>ih u (Qr _ hu)]
theorem xA{k:Nat}:∀(l:List (Nat×Bx)),k∈l.map (·.1)->bxO (l.map yw) k=(bxO l k).trn
 | [],h=>nomatch h
 |
  p::l,h=>by
  unfold bxO
  rw[Qv]
  by_cases hp:p.1=k
  ·rw[Tn (by simpa [yw] using hp),Tn (by simpa using hp)]
   rfl
  ·rw[Sq (by simpa [yw] using hp),Sq (by simpa using hp)]
   rw[Qv,QD] at h
   exact xA l (h.resolve_left λz=>hp z.symm)
theorem tZ{x:Nat}:∀(ts:List AT) (i:Nat),(∀t∈ts,t.trn.pth x=t.pth x)->AT.pthL x i (AT.trnL ts)=AT.pthL x i ts
 | [],_,_=>rfl
 |
  t::ts,i,h=>by
  rw[AT.trnL,AT.pthL,AT.pthL,h t (Qt ..),tZ ts (i+1) λu hu=>h u (Qr _ hu)]
def AT.trn_pth{x:Nat}(t:AT):t.trn.pth x=t.pth x:=by
 induction t using AT.ind with
 |h1 k=>rfl
 |h2 w ts ih=>rw[AT.trn,AT.pth,AT.pth,tZ ts 0 ih]
def exW(u:Str):Str:=if u="left" then "above" else if u="above" then "left" else if u="right" then "below" else "right"
def Lc(w b:Bool):wd (!w) b=exW (wd w b):=by cases w <;> cases b <;> decide +kernel
theorem xk{u:Str}:∀{p q:List Nat}{t:AT},AT.rel p q t=some u->AT.rel p q t.trn=some (exW u)
 | [],q,t,h=>by rw[AT.rel] at h;cases h;intro _ _ _ _ _ _ z;cases z
 |i::p,[],t,h=>by rw[AT.rel] at h;cases h;intro _ _ _ _ _ _ _ z;cases z
 |i::p,j::q,.lf k,h=>by rw[AT.rel] at h;cases h;intro _ _ _ _ _ _ _ _ z;cases z
 |
  i::p,j::q,.nd w ts,h=>by
  rw[AT.trn]
  unfold AT.rel at h ⊢
  split at h
  ·rename_i e
   rw[if_pos e,AT.trnL_map,QM]
   cases q1:ts[i]? with
   |none=>rw[q1] at h;cases h
   |
    some t=>
    rw[q1] at h
    exact xk (t:=t) h
  ·rename_i e
   rw[if_neg e,Lc]
   cases h
   rfl
theorem tK{u:Str}:∀{p q:List Nat}{t:AT},AT.rel p q t=some u->∃w b,u=wd w b
 | [],q,t,h=>by rw[AT.rel] at h;cases h;intro _ _ _ _ _ _ z;cases z
 |i::p,[],t,h=>by rw[AT.rel] at h;cases h;intro _ _ _ _ _ _ _ z;cases z
 |i::p,j::q,.lf k,h=>by rw[AT.rel] at h;cases h;intro _ _ _ _ _ _ _ _ z;cases z
 |
  i::p,j::q,.nd w ts,h=>by
  unfold AT.rel at h
  split at h
  ·cases q1:ts[i]? with
   |none=>rw[q1] at h;cases h
   |
    some t=>
    rw[q1] at h
    exact tK (t:=t) h
  ·cases h
   exact⟨_,_,rfl⟩
end L3
set_option maxHeartbeats 4000000
namespace KK
open PySem PySem.Spec PyProof.Rows L2 L3
def iz:bootBuiltins "abs"=some (.builtin "abs"):=by decide
def AQ:bootBuiltins "all"=some (.builtin "all"):=by decide
def xy:bootBuiltins "bool"=some (.type "bool"):=by decide
def zQ:bootBuiltins "int"=some (.type "int"):=by decide
def aS:bootBuiltins "isinstance"=some (.builtin "isinstance"):=by decide
def bY:bootBuiltins "len"=some (.builtin "len"):=by decide
def GD:bootBuiltins "list"=some (.type "list"):=by decide
def Hl:bootBuiltins "max"=some (.builtin "max"):=by decide
def AI:bootBuiltins "min"=some (.builtin "min"):=by decide
def Iz:bootBuiltins "set"=some (.type "set"):=by decide
def Ij:bootBuiltins "str"=some (.type "str"):=by decide
def AN:bootBuiltins "sum"=some (.builtin "sum"):=by decide
def b0:bootBuiltins "tuple"=some (.type "tuple"):=by decide
noncomputable def top(i:Nat):Stmt:=PySem.Challenge.pw_weightrooms_k16_whole_turned_over.main.body.getD i (.Pass ⟨0,0,0,0⟩)
abbrev lB:Stmt:=top 41
def vY:FnScope ["_law_script", "_law_k"] ["_law_script", "_law_k"] (aw lB):=⟨rfl,rfl,rfl,by decide,rfl,by decide,by decide⟩
abbrev lW:Stmt:=top 42
def ic:FnScope ["_law_feed_here", "_law_many", "_law_digit", "_law_mixed"] ["_law_feed_here", "_law_many"] (aw lW):=⟨rfl,rfl,rfl,by decide,rfl,by decide,by decide⟩
abbrev mH:Stmt:=top 44
def iR:FnScope ["_law_top", "_law_bottom", "_law_one", "_law_two"] ["_law_top", "_law_bottom"] (aw mH):=⟨rfl,rfl,rfl,by decide,rfl,by decide,by decide⟩
abbrev ka:Stmt:=top 43
def gx:FnScope ["_law_feed_here", "_law_far", "_law_number", "_law_k"] ["_law_feed_here", "_law_far"] (aw ka):=⟨rfl,rfl,rfl,by decide,rfl,by decide,by decide⟩
abbrev lZ:Stmt:=top 45
def bF:FnScope ["_law_feed_here", "_law_way", "_law_left", "_law_top", "_law_wide", "_law_high", "_law_far"] ["_law_feed_here"] (aw lZ):=⟨rfl,rfl,rfl,by decide,rfl,by decide,by decide⟩
abbrev iK:Stmt:=top 46
def aW:FnScope ["_law_script", "_law_at", "_law_most", "_law_feed_here", "_law_many", "_law_more", "_law_style", "_law_some", "_law_k", "_law_weight"] ["_law_script", "_law_at", "_law_most"] (aw iK):=⟨rfl,rfl,rfl,by decide,rfl,by decide,by decide⟩
abbrev j3:Stmt:=top 47
def jB:FnScope ["_law_feed_here", "_law_many", "_law_order_here", "_law_k"] ["_law_feed_here", "_law_many"] (aw j3):=⟨rfl,rfl,rfl,by decide,rfl,by decide,by decide⟩
abbrev fu:Stmt:=top 48
def fS:FnScope ["_law_feed_here", "_law_numbers", "_law_many", "_law_some", "_law_number"] ["_law_feed_here", "_law_numbers"] (aw fu):=⟨rfl,rfl,rfl,by decide,rfl,by decide,by decide⟩
abbrev j4:Stmt:=top 49
def gv:FnScope ["_law_feed_here", "_law_numbers", "_law_found", "_law_number"] ["_law_feed_here", "_law_numbers"] (aw j4):=⟨rfl,rfl,rfl,by decide,rfl,by decide,by decide⟩
abbrev j6:Stmt:=top 23
def vo:FnScope ["way"] ["way"] (aw j6):=⟨rfl,rfl,rfl,by decide,rfl,by decide,by decide⟩
abbrev eO:Stmt:=top 39
def fE:FnScope ["tree", "way", "trees"] ["tree"] (aw eO):=⟨rfl,rfl,rfl,by decide,rfl,by decide,by decide⟩
abbrev fT:Stmt:=top 50
def mq:FnScope ["_law_tree_here"] ["_law_tree_here"] (aw fT):=⟨rfl,rfl,rfl,by decide,rfl,by decide,by decide⟩
abbrev fP:Stmt:=top 51
def mI:FnScope ["_law_tree_here", "_law_names"] ["_law_tree_here", "_law_names"] (aw fP):=⟨rfl,rfl,rfl,by decide,rfl,by decide,by decide⟩
abbrev kY:Stmt:=top 10
def vU:FnScope ["thing"] ["thing"] (aw kY):=⟨rfl,rfl,rfl,by decide,rfl,by decide,by decide⟩
abbrev gc:Stmt:=top 11
def fI:FnScope ["one", "other"] ["one", "other"] (aw gc):=⟨rfl,rfl,rfl,by decide,rfl,by decide,by decide⟩
abbrev iG:Stmt:=top 12
def gW:FnScope ["thing", "top", "bottom"] ["thing"] (aw iG):=⟨rfl,rfl,rfl,by decide,rfl,by decide,by decide⟩
abbrev md:Stmt:=top 19
def zD:FnScope ["thing"] ["thing"] (aw md):=⟨rfl,rfl,rfl,by decide,rfl,by decide,by decide⟩
abbrev j0:Stmt:=top 20
def uB:FnScope ["thing"] ["thing"] (aw j0):=⟨rfl,rfl,rfl,by decide,rfl,by decide,by decide⟩
abbrev kd:Stmt:=top 24
def tQ:FnScope ["thing"] ["thing"] (aw kd):=⟨rfl,rfl,rfl,by decide,rfl,by decide,by decide⟩
abbrev eS:Stmt:=top 25
def oh:FnScope ["thing"] ["thing"] (aw eS):=⟨rfl,rfl,rfl,by decide,rfl,by decide,by decide⟩
abbrev oD:Stmt:=top 21
def Bf:FnScope ["thing"] ["thing"] (aw oD):=⟨rfl,rfl,rfl,by decide,rfl,by decide,by decide⟩
abbrev kr:Stmt:=top 30
def uo:FnScope ["thing"] ["thing"] (aw kr):=⟨rfl,rfl,rfl,by decide,rfl,by decide,by decide⟩
abbrev mY:Stmt:=top 31
def iO:FnScope ["thing", "many", "seen", "waiting", "part"] ["thing", "many"] (aw mY):=⟨rfl,rfl,rfl,by decide,rfl,by decide,by decide⟩
abbrev jt:Stmt:=top 32
def sy:FnScope ["thing", "many"] ["thing", "many"] (aw jt):=⟨rfl,rfl,rfl,by decide,rfl,by decide,by decide⟩
abbrev jV:Stmt:=top 22
def vL:FnScope ["way"] ["way"] (aw jV):=⟨rfl,rfl,rfl,by decide,rfl,by decide,by decide⟩
abbrev lG:Stmt:=top 13
def ki:FnScope ["top", "bottom", "divisor"] ["top", "bottom"] (aw lG):=⟨rfl,rfl,rfl,by decide,rfl,by decide,by decide⟩
abbrev qh:Stmt:=top 14
def DV:FnScope ["one", "other"] ["one", "other"] (aw qh):=⟨rfl,rfl,rfl,by decide,rfl,by decide,by decide⟩
abbrev qf:Stmt:=top 15
def CH:FnScope ["one", "other"] ["one", "other"] (aw qf):=⟨rfl,rfl,rfl,by decide,rfl,by decide,by decide⟩
abbrev oi:Stmt:=top 27
def eW:FnScope ["start", "length", "weights", "whole", "ahead", "found", "weight", "begin"] ["start", "length", "weights"] (aw oi):=⟨rfl,rfl,rfl,by decide,rfl,by decide,by decide⟩
abbrev jy:Stmt:=top 28
def iw:FnScope ["box", "way", "weights", "left", "top", "wide", "high"] ["box", "way", "weights"] (aw jy):=⟨rfl,rfl,rfl,by decide,rfl,by decide,by decide⟩
abbrev kq:Stmt:=top 33
def gC:FnScope ["tree", "found", "waiting", "part"] ["tree"] (aw kq):=⟨rfl,rfl,rfl,by decide,rfl,by decide,by decide⟩
abbrev iQ:Stmt:=top 36
def j9:FnScope ["room", "weights", "tree", "way", "trees"] ["room", "weights", "tree"] (aw iQ):=⟨rfl,rfl,rfl,by decide,rfl,by decide,by decide⟩
abbrev ny:Stmt:=top 35
def l9:FnScope ["room", "weights", "tree", "placed", "part", "box"] ["room", "weights", "tree", "placed"] (aw ny):=⟨rfl,rfl,rfl,by decide,rfl,by decide,by decide⟩
abbrev iU:Stmt:=top 34
def nM:FnScope ["room", "weights", "tree", "placed"] ["room", "weights", "tree"] (aw iU):=⟨rfl,rfl,rfl,by decide,rfl,by decide,by decide⟩
abbrev og:Stmt:=top 26
def ir:FnScope ["box", "left", "top", "wide", "high"] ["box"] (aw og):=⟨rfl,rfl,rfl,by decide,rfl,by decide,by decide⟩
abbrev jU:Stmt:=top 37
def gL:FnScope ["tree", "thing", "at", "part", "path"] ["tree", "thing"] (aw jU):=⟨rfl,rfl,rfl,by decide,rfl,by decide,by decide⟩
abbrev lV:Stmt:=top 38
def fR:FnScope ["tree", "one", "other", "path", "beyond", "ahead"] ["tree", "one", "other"] (aw lV):=⟨rfl,rfl,rfl,by decide,rfl,by decide,by decide⟩
abbrev lC:Stmt:=top 52
def fh:FnScope ["_law_script", "_law_feed_here", "_law_room_here", "_law_weights_here", "_law_order_here", "_law_exchanged", "_law_tree_here", "_law_other_here", "_law_names", "_law_some", "_law_i", "_law_j"] ["_law_script"] (aw lC):=⟨rfl,rfl,rfl,by decide,rfl,by decide,by decide⟩
def kits:lz:=[((.b "NoneType"),(.b "bool"),false),((.b "bool"),(.b "bool"),true),((.b "int"),(.b "bool"),false),((.b "str"),(.b "bool"),false),((.b "tuple"),(.b "bool"),false),((.b "list"),(.b "bool"),false),((.b "dict"),(.b "bool"),false),((.b "NoneType"),(.b "int"),false),((.b "bool"),(.b "int"),true),((.b "int"),(.b "int"),true),((.b "str"),(.b "int"),false),((.b "tuple"),(.b "int"),false),((.b "list"),(.b "int"),false),((.b "dict"),(.b "int"),false),((.b "NoneType"),(.b "list"),false),((.b "bool"),(.b "list"),false),((.b "int"),(.b "list"),false),((.b "str"),(.b "list"),false),((.b "tuple"),(.b "list"),false),((.b "list"),(.b "list"),true),((.b "dict"),(.b "list"),false),((.b "NoneType"),(.b "str"),false),((.b "bool"),(.b "str"),false),((.b "int"),(.b "str"),false),((.b "str"),(.b "str"),true),((.b "tuple"),(.b "str"),false),((.b "list"),(.b "str"),false),((.b "dict"),(.b "str"),false),((.b "NoneType"),(.b "tuple"),false),((.b "bool"),(.b "tuple"),false),((.b "int"),(.b "tuple"),false),((.b "str"),(.b "tuple"),false),((.b "tuple"),(.b "tuple"),true),((.b "list"),(.b "tuple"),false),((.b "dict"),(.b "tuple"),false)]
noncomputable def gZ:D:=(.int 40)
noncomputable def uD:D:=(.tup [(.str "across"),(.str "down")])
structure Txt(K:W.Frag)(mg:Ua)(a_:Addr)(g_:Addr)(h_:Addr)(b_:Addr)(c_:Addr)(f_:Addr)(d_:Addr):Prop where
 t_:GC K mg "MOST_WEIGHTS" gZ
 OA:mg "NoBox"=some (.ref g_)
 w_:mg "NoFraction"=some (.ref a_)
 N_:mg "NoTree"=some (.ref f_)
 OB:mg "NoWay"=some (.ref h_)
 u_:mg "NoWeights"=some (.ref b_)
 H_:mg "TooMany"=some (.ref c_)
 I_:mg "Unknown"=some (.ref d_)
 OU:GC K mg "WAYS" uD
 E_:mg "abs"=none
 O4:mg "all"=none
 OG:mg "bool"=none
 D_:mg "enumerate"=none
 O5:mg "int"=none
 i_:mg "isinstance"=none
 k_:mg "len"=none
 O0:mg "list"=none
 Pn:mg "max"=none
 O6:mg "min"=none
 x_:mg "range"=none
 Pp:mg "set"=none
 Pq:mg "str"=none
 O7:mg "sum"=none
 j_:mg "tuple"=none
 Pr:mg "zip"=none
 y_:W.excIn K a_ eF "ValueError.__new__"=true
 OC:W.excIn K g_ eF "ValueError.__new__"=true
 OD:W.excIn K h_ eF "ValueError.__new__"=true
 v_:W.excIn K b_ eF "ValueError.__new__"=true
 J_:W.excIn K c_ eF "ValueError.__new__"=true
 Ov:W.excIn K f_ eF "ValueError.__new__"=true
 K_:W.excIn K d_ eF "ValueError.__new__"=true
 kits:KitsOk K mg kits
section
variable{P:Program}{w:World}{K:W.Frag}{mg:Ua}{base:Heap}{a_ g_ h_ b_ c_ f_ d_:Addr}
def gJ:PEx:=vp gZ (.int 40) (λ_ _=>.int _)
def oO(e:E3):gJ.G e=.ok (.val (.int 40)) e:=rfl
def qQ:PEx:=vp uD (.tup [(.str "across"),(.str "down")]) (λ_ _=>.tup (.cons (.str _) (.cons (.str _) .nil)))
def Fw(e:E3):qQ.G e=.ok (.val (.tup [(.str "across"),(.str "down")])) e:=rfl
def lE:PSt:=
 (az (xIf (qOf (pOp bEq (pFn cL (ag (ah 0) ao)) (aq 0))) (aO (dg (ag (aq 0) (ag (aq 0) (ag (ah 1) ao))))) xNx)
  (aO (dg (ag (pOp bIx (ah 0) (pOp cB (ah 1) (pFn cL (ag (ah 0) ao)))) (ag (aq 0) (ag (ah 1) ao))))))
def cD:PFn:=fnP [false,false] 2 lE
def vW:cD.ms=[false,false]:=rfl
def vb(T:Txt K mg a_ g_ h_ b_ c_ f_ d_)(D:Def K mg "_law_feed" lB)  : Callee P w K mg base "_law_feed" (0+1) ["_law_script", "_law_k"] (spD K mg 2 cD.F):=by
 unfold cD lE
 exact okP D vY (λ_ _ _ _ _ _=>ar2 λ_ _=>rfl) λf cdv A outer s H E hr=>
  (ar (aP (aK (dS (K:=K) rfl hr.u180) cG (aB (dD (K:=K) rfl) cz rfl T.k_ bY (aa (af 0) ai)) ak (aE _)) (au (aC (bW (aa ak (aa ak (aa (af 1) ai)))))) aF)
   (au (aC (bW (aa (aH (ixK (K:=K) rfl) aJ (af 0) (aA df eA (af 1) (aB (dD (K:=K) rfl) cz rfl T.k_ bY (aa (af 0) ai))) (λ_ _=>rfl)) (aa ak (aa (af 1) ai)))))))
def lu:PSt:=
 (az (vj 0 seL (aq 1) (pOp aY (pOp bIx (ah 0) (aq 1)) (aq 1)))
  (az (xIf (qOf (pOp bGe (pOp bIx (ah 0) (aq 0)) (pOp fL (aq 10) (aq 18)))) (az (aQ false 2 (pOp cB (pOp bIx (ah 0) (aq 0)) (ah 1)))
  (az (vj 0 seL (aq 0) (pOp g0 (pOp bIx (ah 0) (aq 0)) (ah 1)))
  (aO (ah 2)))) xNx)
  (az (aQ false 3 (pOp aY (pOp aY (pOp cB (pOp bIx (ah 0) (aq 0)) (aq 1000003)) (pOp dF (aq 7919) (pOp bIx (ah 0) (aq 2)))) (pOp dF (aq 104729) (pOp bIx (ah 0) (aq 1)))))
  (az (aQ false 3 (pOp cB (pOp dF (ah 3) (aq 48271)) (aq 2147483647)))
  (aO (pOp cB (pOp cB (pOp dF (ah 3) (pOp aY (pOp cB (ah 3) (aq 65521)) (pOp bIx (ah 0) (aq 1)))) (aq 2147483629)) (ah 1)))))))
def ay:PFn:=fnP [true,false] 4 lu
def vT:ay.ms=[true,false]:=rfl
def ue(T:Txt K mg a_ g_ h_ b_ c_ f_ d_)(D:Def K mg "_law_next" lW)  : Callee P w K mg base "_law_next" (0+1) ["_law_feed_here", "_law_many"] (spD K mg 2 ay.F):=by
 unfold ay lu
 exact okP D ic (λ_ _ _ _ _ _=>ar2 λ_ _=>rfl) λf cdv A outer s H E hr=>
  (ar (rh (aA (aV (K:=K) rfl) aU (aH (ixK (K:=K) rfl) aJ (af 0) ak (λ_ _=>rfl)) ak) (af 0) ak vf wN)
   (ar (aP (aK pA pM (aH (ixK (K:=K) rfl) aJ (af 0) ak (λ_ _=>rfl)) (aA jl jn ak ak) (aE _)) (ar (zsS 2 ic.nd (aA df eA (aH (ixK (K:=K) rfl) aJ (af 0) ak (λ_ _=>rfl)) (af 1)))
   (ar (rh (aA gi jF (aH (ixK (K:=K) rfl) aJ (af 0) ak (λ_ _=>rfl)) (af 1)) (af 0) ak vf wN)
   (au (aC (af 2))))) aF)
   (ar (zsS 3 ic.nd (aA (aV (K:=K) rfl) aU (aA (aV (K:=K) rfl) aU (aA df eA (aH (ixK (K:=K) rfl) aJ (af 0) ak (λ_ _=>rfl)) ak) (aA eg ek ak (aH (ixK (K:=K) rfl) aJ (af 0) ak (λ_ _=>rfl)))) (aA eg ek ak (aH (ixK (K:=K) rfl) aJ (af 0) ak (λ_ _=>rfl)))))
   (ar (zsS 3 ic.nd (aA df eA (aA eg ek (af 3) ak) ak))
   (au (aC (aA df eA (aA df eA (aA eg ek (af 3) (aA (aV (K:=K) rfl) aU (aA df eA (af 3) ak) (aH (ixK (K:=K) rfl) aJ (af 0) ak (λ_ _=>rfl)))) ak) (af 1))))))))
def gu:PSt:=
 (gh 2 3 (ag (ah 3) (ag (pOp cB (ah 2) (ah 3)) ao)))
def mX:PSt:=
 (az (gh 2 3 (ag (pFn ip (ag (ah 0) ao)) (ag (pFn ip (ag (ah 1) ao)) ao)))
  (az (xWh (qOf (pOp bGt (ah 3) (aq 0))) (gu))
  (az (xIf (qOf (pOp bLt (ah 1) (aq 0))) (aQ false 2 (pOp gB (aq 0) (ah 2))) xNx)
  (aO (cJ (ag (pOp g0 (ah 0) (ah 2)) (ag (pOp g0 (ah 1) (ah 2)) ao)))))))
def cn:PFn:=fnP [false,false] 4 mX
def xI:cn.ms=[false,false]:=rfl
def we(T:Txt K mg a_ g_ h_ b_ c_ f_ d_)(D:Def K mg "_law_low" mH)  : Callee P w K mg base "_law_low" (0+1) ["_law_top", "_law_bottom"] (spD K mg 2 cn.F):=by
 unfold cn mX gu
 exact okP D iR (λ_ _ _ _ _ _=>ar2 λ_ _=>rfl) λf cdv A outer s H E hr=>
  (ar (dY (i:=2) (j:=3) rfl iR.nd rfl rfl (by decide) rfl rfl (aa (aB fq iB rfl T.E_ iz (aa (af 0) ai)) (aa (aB fq iB rfl T.E_ iz (aa (af 1) ai)) ai)) rfl)
   (ar (js gf (aK m5 nr (af 3) ak (aE _)) (au (dY (i:=2) (j:=3) rfl iR.nd rfl rfl (by decide) rfl rfl (aa (af 3) (aa (aA df eA (af 2) (af 3)) ai)) rfl)))
   (ar (aP (aK pE oT (af 1) ak (aE _)) (au (zsS 2 iR.nd (aA eP eN ak (af 2)))) aF)
   (au (aC (bK (aa (aA gi jF (af 0) (af 2)) (aa (aA gi jF (af 1) (af 2)) ai))))))))
def jE:PSt:=
 (aQ false 2 (pOp aY (pOp dF (ah 2) (pOp fL (aq 10) (aq 6))) (ax ay (ag (ah 0) (ag (pOp fL (aq 10) (aq 6)) ao)))))
def ke:PSt:=
 (az (aQ false 2 (aq 0))
  (az (jC (jL (ag (aq 6) ao)) (gtN 3) (jE))
  (aO (pOp gB (pOp cB (ah 2) (pOp aY (pOp dF (aq 2) (ah 1)) (aq 1))) (ah 1)))))
def bu:PFn:=fnP [true,false] 4 ke
def uU:bu.ms=[true,false]:=rfl
def sQ(T:Txt K mg a_ g_ h_ b_ c_ f_ d_)(D:Def K mg "_law_great" ka)(e_:Callee P w K mg base "_law_next" 1 ["_law_feed_here", "_law_many"] (spD K mg 2 ay.F)):Callee P w K mg base "_law_great" (1+1) ["_law_feed_here", "_law_far"] (spD K mg 2 bu.F):=by
 unfold bu ke jE
 exact okP D gx (λ_ _ _ _ _ _=>ar2 λ_ _=>rfl) λf cdv A outer s H E hr=>
  (ar (zsS 2 gx.nd ak)
   (ar (gF gf rfl (gr rfl T.x_ (aa ak ai)) (zgN 3 gx.nd) (au (zsS 2 gx.nd (aA (aV (K:=K) rfl) aU (aA eg ek (af 2) (aA jl jn ak ak)) (zcF e_ hr (aa (af 0) (aa (aA jl jn ak ak) ai)))))))
   (au (aC (aA eP eN (aA df eA (af 2) (aA (aV (K:=K) rfl) aU (aA eg ek ak (af 1)) ak)) (af 1))))))
def iW:PSt:=
 (az (aQ false 1 (ax ay (ag (ah 0) (ag (aq 6) ao))))
  (az (gh 2 3 (ag (cJ (ag (pOp gB (ax ay (ag (ah 0) (ag (aq 19) ao))) (aq 9)) (ag (aq 1) ao))) (ag (cJ (ag (pOp gB (ax ay (ag (ah 0) (ag (aq 19) ao))) (aq 9)) (ag (aq 1) ao))) ao)))
  (az (gh 4 5 (ag (cJ (ag (pOp aY (aq 1) (ax ay (ag (ah 0) (ag (aq 12) ao)))) (ag (aq 1) ao))) (ag (cJ (ag (pOp aY (aq 1) (ax ay (ag (ah 0) (ag (aq 12) ao)))) (ag (aq 1) ao))) ao)))
  (az (xIf (qOf (pOp bEq (ah 1) (aq 1))) (aQ false 5 (ah 4)) xNx)
  (az (xIf (qOf (pOp bEq (ah 1) (aq 2))) (aQ false 4 (cJ (ag (pOp aY (aq 1) (ax ay (ag (ah 0) (ag (aq 99) ao)))) (ag (aq 1) ao)))) xNx)
  (az (xIf (qOf (pOp bEq (ah 1) (aq 3))) (aQ false 5 (cJ (ag (pOp aY (aq 1) (ax ay (ag (ah 0) (ag (aq 99) ao)))) (ag (aq 1) ao)))) xNx)
  (az (xIf (qOf (pOp bEq (ah 1) (aq 4))) (az (gh 2 3 (ag (ax cn (ag (pOp gB (ax ay (ag (ah 0) (ag (aq 199) ao))) (aq 99)) (ag (pOp aY (aq 1) (ax ay (ag (ah 0) (ag (aq 30) ao)))) ao))) (ag (ax cn (ag (ax ay (ag (ah 0) (ag (aq 9) ao))) (ag (aq 7) ao))) ao)))
  (gh 4 5 (ag (ax cn (ag (pOp aY (aq 1) (ax ay (ag (ah 0) (ag (aq 99) ao)))) (ag (pOp aY (aq 1) (ax ay (ag (ah 0) (ag (aq 30) ao)))) ao))) (ag (ax cn (ag (pOp aY (aq 1) (ax ay (ag (ah 0) (ag (aq 99) ao)))) (ag (aq 11) ao))) ao)))) xNx)
  (az (xIf (qOf (pOp bEq (ah 1) (aq 5))) (az (aQ false 6 (pOp gB (pOp fL (aq 10) (aq 30)) (aq 1)))
  (az (gh 2 3 (ag (ax cn (ag (ax bu (ag (ah 0) (ag (ah 6) ao))) (ag (pOp aY (aq 1) (pFn ip (ag (ax bu (ag (ah 0) (ag (pOp gB (ah 6) (aq 1)) ao))) ao))) ao))) (ag (cJ (ag (ax bu (ag (ah 0) (ag (ah 6) ao))) (ag (aq 1) ao))) ao)))
  (gh 4 5 (ag (cJ (ag (pOp aY (aq 1) (pFn ip (ag (ax bu (ag (ah 0) (ag (pOp gB (ah 6) (aq 1)) ao))) ao))) (ag (aq 1) ao))) (ag (ax cn (ag (pOp aY (aq 1) (pFn ip (ag (ax bu (ag (ah 0) (ag (pOp gB (ah 6) (aq 1)) ao))) ao))) (ag (ah 6) ao))) ao))))) xNx)
  (aO (cJ (ag (ah 2) (ag (ah 3) (ag (ah 4) (ag (ah 5) ao))))))))))))))
def eJ:PFn:=fnP [true] 7 iW
def vS:eJ.ms=[true]:=rfl
def uE(T:Txt K mg a_ g_ h_ b_ c_ f_ d_)(D:Def K mg "_law_room" lZ)(e_:Callee P w K mg base "_law_next" 1 ["_law_feed_here", "_law_many"] (spD K mg 2 ay.F))(z_:Callee P w K mg base "_law_low" 1 ["_law_top", "_law_bottom"] (spD K mg 2 cn.F))(l_:Callee P w K mg base "_law_great" 2 ["_law_feed_here", "_law_far"] (spD K mg 2 bu.F)):Callee P w K mg base "_law_room" (2+1) ["_law_feed_here"] (spD K mg 1 eJ.F):=by
 unfold eJ iW
 exact okP D bF (λ_ _ _ _ _ _=>ar1 λ_=>rfl) λf cdv A outer s H E hr=>
  (ar (zsS 1 bF.nd (zcF e_ hr (aa (af 0) (aa ak ai))))
   (ar (dY (i:=2) (j:=3) rfl bF.nd rfl rfl (by decide) rfl rfl (aa (bK (aa (aA eP eN (zcF e_ hr (aa (af 0) (aa ak ai))) ak) (aa ak ai))) (aa (bK (aa (aA eP eN (zcF e_ hr (aa (af 0) (aa ak ai))) ak) (aa ak ai))) ai)) rfl)
   (ar (dY (i:=4) (j:=5) rfl bF.nd rfl rfl (by decide) rfl rfl (aa (bK (aa (aA (aV (K:=K) rfl) aU ak (zcF e_ hr (aa (af 0) (aa ak ai)))) (aa ak ai))) (aa (bK (aa (aA (aV (K:=K) rfl) aU ak (zcF e_ hr (aa (af 0) (aa ak ai)))) (aa ak ai))) ai)) rfl)
   (ar (aP (aK (dS (K:=K) rfl hr.u180) cG (af 1) ak (aE _)) (au (zsS 5 bF.nd (af 4))) aF)
   (ar (aP (aK (dS (K:=K) rfl hr.u180) cG (af 1) ak (aE _)) (au (zsS 4 bF.nd (bK (aa (aA (aV (K:=K) rfl) aU ak (zcF e_ hr (aa (af 0) (aa ak ai)))) (aa ak ai))))) aF)
   (ar (aP (aK (dS (K:=K) rfl hr.u180) cG (af 1) ak (aE _)) (au (zsS 5 bF.nd (bK (aa (aA (aV (K:=K) rfl) aU ak (zcF e_ hr (aa (af 0) (aa ak ai)))) (aa ak ai))))) aF)
   (ar (aP (aK (dS (K:=K) rfl hr.u180) cG (af 1) ak (aE _)) (ar (dY (i:=2) (j:=3) rfl bF.nd rfl rfl (by decide) rfl rfl (aa (zcF z_ hr (aa (aA eP eN (zcF e_ hr (aa (af 0) (aa ak ai))) ak) (aa (aA (aV (K:=K) rfl) aU ak (zcF e_ hr (aa (af 0) (aa ak ai)))) ai))) (aa (zcF z_ hr (aa (zcF e_ hr (aa (af 0) (aa ak ai))) (aa ak ai))) ai)) rfl)
   (au (dY (i:=4) (j:=5) rfl bF.nd rfl rfl (by decide) rfl rfl (aa (zcF z_ hr (aa (aA (aV (K:=K) rfl) aU ak (zcF e_ hr (aa (af 0) (aa ak ai)))) (aa (aA (aV (K:=K) rfl) aU ak (zcF e_ hr (aa (af 0) (aa ak ai)))) ai))) (aa (zcF z_ hr (aa (aA (aV (K:=K) rfl) aU ak (zcF e_ hr (aa (af 0) (aa ak ai)))) (aa ak ai))) ai)) rfl))) aF)
   (ar (aP (aK (dS (K:=K) rfl hr.u180) cG (af 1) ak (aE _)) (ar (zsS 6 bF.nd (aA eP eN (aA jl jn ak ak) ak))
   (ar (dY (i:=2) (j:=3) rfl bF.nd rfl rfl (by decide) rfl rfl (aa (zcF z_ hr (aa (zcF l_ hr (aa (af 0) (aa (af 6) ai))) (aa (aA (aV (K:=K) rfl) aU ak (aB fq iB rfl T.E_ iz (aa (zcF l_ hr (aa (af 0) (aa (aA eP eN (af 6) ak) ai))) ai))) ai))) (aa (bK (aa (zcF l_ hr (aa (af 0) (aa (af 6) ai))) (aa ak ai))) ai)) rfl)
   (au (dY (i:=4) (j:=5) rfl bF.nd rfl rfl (by decide) rfl rfl (aa (bK (aa (aA (aV (K:=K) rfl) aU ak (aB fq iB rfl T.E_ iz (aa (zcF l_ hr (aa (af 0) (aa (aA eP eN (af 6) ak) ai))) ai))) (aa ak ai))) (aa (zcF z_ hr (aa (aA (aV (K:=K) rfl) aU ak (aB fq iB rfl T.E_ iz (aa (zcF l_ hr (aa (af 0) (aa (aA eP eN (af 6) ak) ai))) ai))) (aa (af 6) ai))) ai)) rfl)))) aF)
   (au (aC (bK (aa (af 2) (aa (af 3) (aa (af 4) (aa (af 5) ai)))))))))))))))
def eu:PSt:=
 (az (aQ true 3 (ax cD (ag (ah 0) (ag (pOp aY (pOp aY (ah 1) (aq 1)) (ah 8)) ao))))
  (az (aQ false 9 (pOp bIx (dg (ag (aq 1) (ag (pOp aY (aq 1) (ax ay (ag (ah 3) (ag (aq 9) ao)))) (ag (pOp uq (aq 1) (pOp cB (ah 8) (aq 24))) (ag (pOp aY (aq 1) (ax ay (ag (ah 3) (ag (aq 9) ao)))) (ag (aq 1) (ag (pOp aY (aq 1) (ax ay (ag (ah 3) (ag (aq 3) ao)))) ao))))))) (ah 6)))
  (az (xIf (qAn (qOf (pOp bEq (ah 6) (aq 3))) (qOf (pOp bEq (ax ay (ag (ah 3) (ag (aq 4) ao))) (aq 0)))) (aQ false 9 (pOp aY (pOp fL (aq 10) (aq 29)) (ax ay (ag (ah 3) (ag (aq 100) ao))))) xNx)
  (az (xIf (qOf (pOp bEq (ah 6) (aq 4))) (aQ false 9 (pOp aY (aq 1) (pFn ip (ag (ax bu (ag (ah 3) (ag (pOp gB (pOp fL (aq 10) (aq 30)) (aq 2)) ao))) ao)))) xNx)
  (dC (mD 7 jA (ag (ah 9) ao)))))))
def fX:PSt:=
 (az (aQ true 3 (ax cD (ag (ah 0) (ag (ah 1) ao))))
  (az (aQ false 4 (pOp aY (aq 1) (ax ay (ag (ah 3) (ag (pFn oU (ag (ah 2) (ag (aq 7) ao))) ao)))))
  (az (aQ false 5 (ax ay (ag (ah 3) (ag (aq 6) ao))))
  (az (xIf (qOf (pOp bLt (ah 5) (aq 2))) (aQ false 4 (pOp bIx (dg (ag (ah 2) (ag (pFn uJ (ag (aq 1) (ag (pOp g0 (pOp dF (ah 4) (ah 2)) (aq 8)) ao))) ao))) (ah 5))) xNx)
  (az (aQ false 6 (ax ay (ag (ah 3) (ag (aq 6) ao))))
  (az (xIf (qOf (pOp bGt (ah 4) (aq 9))) (aQ false 6 (pOp cB (ah 6) (aq 3))) xNx)
  (az (aQ true 7 (dg ao))
  (az (jC (jL (ag (ah 4) ao)) (gtN 8) (eu))
  (aO (ah 7))))))))))
def cR:PFn:=fnP [false,false,false] 10 fX
def rq:cR.ms=[false,false,false]:=rfl
def pb(T:Txt K mg a_ g_ h_ b_ c_ f_ d_)(D:Def K mg "_law_weights" iK)(A_:Callee P w K mg base "_law_feed" 1 ["_law_script", "_law_k"] (spD K mg 2 cD.F))(e_:Callee P w K mg base "_law_next" 1 ["_law_feed_here", "_law_many"] (spD K mg 2 ay.F))(l_:Callee P w K mg base "_law_great" 2 ["_law_feed_here", "_law_far"] (spD K mg 2 bu.F)):Callee P w K mg base "_law_weights" (2+1) ["_law_script", "_law_at", "_law_most"] (spD K mg 3 cR.F):=by
 unfold cR fX eu
 exact okP D aW (λ_ _ _ _ _ _=>ar3 λ_ _ _=>rfl) λf cdv A outer s H E hr=>
  (ar (zsS 3 aW.nd (zcF A_ hr (aa (af 0) (aa (af 1) ai))))
   (ar (zsS 4 aW.nd (aA (aV (K:=K) rfl) aU ak (zcF e_ hr (aa (af 3) (aa (aB (se rfl) xF rfl T.O6 AI (aa (af 2) (aa ak ai))) ai)))))
   (ar (zsS 5 aW.nd (zcF e_ hr (aa (af 3) (aa ak ai))))
   (ar (aP (aK pE oT (af 5) ak (aE _)) (au (zsS 4 aW.nd (aH (ixK (K:=K) rfl) aJ (bW (aa (af 2) (aa (aB (Bc rfl) Fl rfl T.Pn Hl (aa ak (aa (aA gi jF (aA eg ek (af 4) (af 2)) ak) ai))) ai))) (af 5) (λ_ _=>rfl)))) aF)
   (ar (zsS 6 aW.nd (zcF e_ hr (aa (af 3) (aa ak ai))))
   (ar (aP (aK m5 nr (af 4) ak (aE _)) (au (zsS 6 aW.nd (aA df eA (af 6) ak))) aF)
   (ar (zsS 7 aW.nd (bW ai))
   (ar (gF gf rfl (gr rfl T.x_ (aa (af 4) ai)) (zgN 8 aW.nd) (ar (zsS 3 aW.nd (zcF A_ hr (aa (af 0) (aa (aA (aV (K:=K) rfl) aU (aA (aV (K:=K) rfl) aU (af 1) ak) (af 8)) ai))))
   (ar (zsS 9 aW.nd (aH (ixK (K:=K) rfl) aJ (bW (aa ak (aa (aA (aV (K:=K) rfl) aU ak (zcF e_ hr (aa (af 3) (aa ak ai)))) (aa (aA Lx Jh ak (aA df eA (af 8) ak)) (aa (aA (aV (K:=K) rfl) aU ak (zcF e_ hr (aa (af 3) (aa ak ai)))) (aa ak (aa (aA (aV (K:=K) rfl) aU ak (zcF e_ hr (aa (af 3) (aa ak ai)))) ai))))))) (af 6) (λ_ _=>rfl)))
   (ar (aP (ZW.dt (A8 (aK (dS (K:=K) rfl hr.u180) cG (af 6) ak (aE _)) (wF (aK (dS (K:=K) rfl hr.u180) cG (zcF e_ hr (aa (af 3) (aa ak ai))) ak (aE _))))) (au (zsS 9 aW.nd (aA (aV (K:=K) rfl) aU (aA jl jn ak ak) (zcF e_ hr (aa (af 3) (aa ak ai)))))) aF)
   (ar (aP (aK (dS (K:=K) rfl hr.u180) cG (af 6) ak (aE _)) (au (zsS 9 aW.nd (aA (aV (K:=K) rfl) aU ak (aB fq iB rfl T.E_ iz (aa (zcF l_ hr (aa (af 3) (aa (aA eP eN (aA jl jn ak ak) ak) ai))) ai))))) aF)
   (au (b9 (ky rfl Sa Sb jK mR (af 7) (aa (af 9) ai)))))))))
   (au (aC (af 7)))))))))))
def gy:PSt:=
 (dC (mD 2 nV (ag (ax ay (ag (ah 0) (ag (pOp aY (pFn cL (ag (ah 2) ao)) (aq 1)) ao))) (ag (ah 3) ao))))
def j8:PSt:=
 (az (aQ true 2 (dg ao))
  (az (jC (jL (ag (ah 1) ao)) (gtN 3) (gy))
  (aO (ah 2))))
def dR:PFn:=fnP [true,false] 4 j8
def u5:dR.ms=[true,false]:=rfl
def sC(T:Txt K mg a_ g_ h_ b_ c_ f_ d_)(D:Def K mg "_law_order" j3)(e_:Callee P w K mg base "_law_next" 1 ["_law_feed_here", "_law_many"] (spD K mg 2 ay.F)):Callee P w K mg base "_law_order" (1+1) ["_law_feed_here", "_law_many"] (spD K mg 2 dR.F):=by
 unfold dR j8 gy
 exact okP D jB (λ_ _ _ _ _ _=>ar2 λ_ _=>rfl) λf cdv A outer s H E hr=>
  (ar (zsS 2 jB.nd (bW ai))
   (ar (gF gf rfl (gr rfl T.x_ (aa (af 1) ai)) (zgN 3 jB.nd) (au (b9 (ky rfl PySem.F.slot_list_insert PySem.F.type_list_insert Ag zL (af 2) (aa (zcF e_ hr (aa (af 0) (aa (aA (aV (K:=K) rfl) aU (aB (dD (K:=K) rfl) cz rfl T.k_ bY (aa (af 2) ai)) ak) ai))) (aa (af 3) ai))))))
   (au (aC (af 2)))))
def eI(s:PFx [true,false]):PSt:=
 (az (xIf (qOf (pOp bEq (pFn cL (ag (ah 1) ao)) (aq 1))) (aO (pOp bIx (ah 1) (aq 0))) xNx)
  (az (aQ false 2 (pOp aY (aq 2) (ax ay (ag (ah 0) (ag (pFn oU (ag (aq 3) (ag (pOp gB (pFn cL (ag (ah 1) ao)) (aq 1)) ao))) ao)))))
  (az (xP (bZ (pSl (ah 1) oN (oS (ah 2)))) (bZ (pSl (ah 1) (oS (ah 2)) oN)) 3 4 (ax ay (ag (ah 0) (ag (ah 2) ao))) (by decide))
  (aO (cJ (ag (pOp bIx (dg (ag (bH "across") (ag (bH "down") ao))) (ax ay (ag (ah 0) (ag (aq 2) ao)))) (ag (pFn jj (ag (pLC (bZ (ah 3)) [none,some 0] (by decide) (gtN 0) qY (ax s.fn (ag (ah 1) (ag (ah 0) ao)))) ao)) ao)))))))
def bI:Nat->PFx [true,false]
 |0=>PFx.none [true,false]
 |n+1=>PFx.of [true,false] 5 (eI (bI n))
def uK{n:Nat}(T:Txt K mg a_ g_ h_ b_ c_ f_ d_)(D:Def K mg "_law_tree" fu)(e_:Callee P w K mg base "_law_next" 1 ["_law_feed_here", "_law_many"] (spD K mg 2 ay.F))(L_:Callee P w K mg base "_law_tree" (3+n) ["_law_feed_here", "_law_numbers"] (spD K mg 2 (bI n).F)):Callee P w K mg base "_law_tree" (3+n+1) ["_law_feed_here", "_law_numbers"] (spD K mg 2 (bI (n+1)).F):=by
 show Callee P w K mg base _ _ _ (spD K mg _ (PFx.of [true,false] 5 (eI (bI n))).F)
 unfold eI
 exact okX D fS (λ_ _ _ _ _ _=>ar2 λ_ _=>rfl) λf cdv A outer s H E hr=>
  (ar (aP (aK (dS (K:=K) rfl hr.u180) cG (aB (dD (K:=K) rfl) cz rfl T.k_ bY (aa (af 1) ai)) ak (aE _)) (au (aC (aH (ixK (K:=K) rfl) aJ (af 1) ak (λ_ _=>rfl)))) aF)
   (ar (zsS 2 fS.nd (aA (aV (K:=K) rfl) aU ak (zcF e_ hr (aa (af 0) (aa (aB (se rfl) xF rfl T.O6 AI (aa ak (aa (aA eP eN (aB (dD (K:=K) rfl) cz rfl T.k_ bY (aa (af 1) ai)) ak) ai))) ai)))))
   (DC (ow:=false) (hsb:=by decide) (M7 (iT:=3) ["_law_feed_here", "_law_numbers", "_law_many", "_law_some", "_law_number"] (aw fu).names ["_law_number"] [none] rfl fS.nd rfl (by trivial) (cK rfl (jx rfl (af 1) kH (kx (af 2)))) (λ_ _ _ _ _=>(zgN 0 (show List.Nodup (["_law_number"]:List Str) from by decide))) (λ_ _ _ _ _=>(bW (aa (af 0) ai)))) gf rfl rfl (cK rfl (jx rfl (af 1) (kx (af 2)) kH)) (zgN 4 fS.nd) (af 3) (zcF e_ hr (aa (af 0) (aa (af 2) ai))) (af 4)
   (au (aC (bK (aa (aH (ixK (K:=K) rfl) aJ (bW (aa aX (aa aX ai))) (zcF e_ hr (aa (af 0) (aa ak ai))) (λ_ _=>rfl)) (aa (iF (mZ (K:=K) rfl) l8 rfl T.j_ b0 (aa (eT ["_law_feed_here", "_law_numbers", "_law_many", "_law_some", "_law_number"] (aw fu).names ["_law_part", "_law_feed_here"] [none,some 0] rfl (cK rfl (af 3)) (λ_ _ _ _ _=>(zgN 0 (show List.Nodup (["_law_part", "_law_feed_here"]:List Str) from by decide))) (λ_ _ _ _ _=>(eD L_ (hr.mono (by omega)) rfl ff (aa (af 1) (aa (af 0) ai))))) ai)) ai))))))))
theorem mf(T:Txt K mg a_ g_ h_ b_ c_ f_ d_)(D:Def K mg "_law_tree" fu)(e_:Callee P w K mg base "_law_next" 1 ["_law_feed_here", "_law_many"] (spD K mg 2 ay.F)):∀n,Callee P w K mg base "_law_tree" (3+n) ["_law_feed_here", "_law_numbers"] (spD K mg 2 (bI n).F)
 |0=>ok0 D fS (λ_ _ _ _ _ _=>ar2 λ_ _=>rfl)
 |n+1=>uK T D e_ (mf T D e_ n)
def d9:PSt:=
 (aQ false 2 (cJ (ag (pOp bIx (dg (ag (bH "across") (ag (bH "down") ao))) (ax ay (ag (ah 0) (ag (aq 2) ao)))) (ag (pOp bIx (dg (ag (cJ (ag (ah 3) (ag (ah 2) ao))) (ag (cJ (ag (ah 2) (ag (ah 3) ao))) ao))) (ax ay (ag (ah 0) (ag (aq 2) ao)))) ao))))
def kj:PSt:=
 (az (aQ false 2 (pOp bIx (ah 1) (aq 0)))
  (az (jC (bZ (pSl (ah 1) (oS (aq 1)) oN)) (gtN 3) (d9))
  (aO (ah 2))))
def dP:PFn:=fnP [true,false] 4 kj
def u6:dP.ms=[true,false]:=rfl
def sH(T:Txt K mg a_ g_ h_ b_ c_ f_ d_)(D:Def K mg "_law_chain" j4)(e_:Callee P w K mg base "_law_next" 1 ["_law_feed_here", "_law_many"] (spD K mg 2 ay.F)):Callee P w K mg base "_law_chain" (1+1) ["_law_feed_here", "_law_numbers"] (spD K mg 2 dP.F):=by
 unfold dP kj d9
 exact okP D gv (λ_ _ _ _ _ _=>ar2 λ_ _=>rfl) λf cdv A outer s H E hr=>
  (ar (zsS 2 gv.nd (aH (ixK (K:=K) rfl) aJ (af 1) ak (λ_ _=>rfl)))
   (ar (gF gf rfl (cK rfl (jx rfl (af 1) (kx ak) kH)) (zgN 3 gv.nd) (au (zsS 2 gv.nd (bK (aa (aH (ixK (K:=K) rfl) aJ (bW (aa aX (aa aX ai))) (zcF e_ hr (aa (af 0) (aa ak ai))) (λ_ _=>rfl)) (aa (aH (ixK (K:=K) rfl) aJ (bW (aa (bK (aa (af 3) (aa (af 2) ai))) (aa (bK (aa (af 2) (aa (af 3) ai))) ai))) (zcF e_ hr (aa (af 0) (aa ak ai))) (λ_ _=>rfl)) ai))))))
   (au (aC (af 2)))))
def kh:PSt:=
 (az (xIf (qOf (pOp bEq (ah 0) (bH "across"))) (aO (bH "down")) xNx)
  (aO (bH "across")))
def cZ:PFn:=fnP [false] 1 kh
def uk:cZ.ms=[false]:=rfl
def su(T:Txt K mg a_ g_ h_ b_ c_ f_ d_)(D:Def K mg "other_way" j6)  : Callee P w K mg base "other_way" (0+1) ["way"] (spD K mg 1 cZ.F):=by
 unfold cZ kh
 exact okP D vo (λ_ _ _ _ _ _=>ar1 λ_=>rfl) λf cdv A outer s H E hr=>
  (ar (aP (aK (dS (K:=K) rfl hr.u180) cG (af 0) aX (aE _)) (au (aC aX)) aF)
   (au (aC aX)))
def cQ(s:PFx [false]):PSt:=
 (az (xIf (qNo (qOf (pFn (bc kits) (ag (ah 0) (ag (pTy "tuple") ao))))) (aO (ah 0)) xNx)
  (az (lR (ah 0) (gtX (gtT 2 (bB (gtN 1) (bB (gtN 2) eX)))))
  (aO (cJ (ag (ax cZ (ag (ah 1) ao)) (ag (pFn jj (ag (pLC (bZ (ah 2)) [none] (by decide) (gtN 0) qY (ax s.fn (ag (ah 0) ao))) ao)) ao))))))
def a0:Nat->PFx [false]
 |0=>PFx.none [false]
 |n+1=>PFx.of [false] 3 (cQ (a0 n))
def pY{n:Nat}(T:Txt K mg a_ g_ h_ b_ c_ f_ d_)(D:Def K mg "turned_tree" eO)(C_:Callee P w K mg base "other_way" 1 ["way"] (spD K mg 1 cZ.F))(s_:Callee P w K mg base "turned_tree" (3+n) ["tree"] (spD K mg 1 (a0 n).F)):Callee P w K mg base "turned_tree" (3+n+1) ["tree"] (spD K mg 1 (a0 (n+1)).F):=by
 show Callee P w K mg base _ _ _ (spD K mg _ (PFx.of [false] 3 (cQ (a0 n))).F)
 unfold cQ
 exact okX D fE (λ_ _ _ _ _ _=>ar1 λ_=>rfl) λf cdv A outer s H E hr=>
  (ar (aP (cx (bT (aB (eK (K:=K) rfl) (dB T.kits) rfl T.i_ aS (aa (af 0) (aa (eL rfl T.j_ b0) ai))))) (au (aC (af 0))) aF)
   (ar (kB (af 0) (ZG.weak (gK rfl rfl (aZ (zgN 1 fE.nd) (aZ (zgN 2 fE.nd) ft)))))
   (au (aC (bK (aa (zcF C_ hr (aa (af 1) ai)) (aa (iF (mZ (K:=K) rfl) l8 rfl T.j_ b0 (aa (eT ["tree", "way", "trees"] (aw eO).names ["part"] [none] rfl (cK rfl (af 2)) (λ_ _ _ _ _=>(zgN 0 (show List.Nodup (["part"]:List Str) from by decide))) (λ_ _ _ _ _=>(eD s_ (hr.mono (by omega)) rfl ff (aa (af 0) ai)))) ai)) ai)))))))
theorem jm(T:Txt K mg a_ g_ h_ b_ c_ f_ d_)(D:Def K mg "turned_tree" eO)(C_:Callee P w K mg base "other_way" 1 ["way"] (spD K mg 1 cZ.F)):∀n,Callee P w K mg base "turned_tree" (3+n) ["tree"] (spD K mg 1 (a0 n).F)
 |0=>ok0 D fE (λ_ _ _ _ _ _=>ar1 λ_=>rfl)
 |n+1=>pY T D C_ (jm T D C_ n)
def dQ(s:PFx [false]):PSt:=
 (az (xIf (qNo (qOf (pFn (bc kits) (ag (ah 0) (ag (pTy "tuple") ao))))) (aO (ah 0)) xNx)
  (aO (cJ (ag (pOp yi (sV ["across", "down"] (ag (bH "down") (ag (bH "across") ao))) (pOp bIx (ah 0) (aq 0))) (ag (pFn jj (ag (pLC (bZ (pOp bIx (ah 0) (aq 1))) [none] (by decide) (gtN 0) qY (ax s.fn (ag (ah 0) ao))) ao)) ao)))))
def bM:Nat->PFx [false]
 |0=>PFx.none [false]
 |n+1=>PFx.of [false] 1 (dQ (bM n))
def sq{n:Nat}(T:Txt K mg a_ g_ h_ b_ c_ f_ d_)(D:Def K mg "_law_other" fT)(F_:Callee P w K mg base "_law_other" (2+n) ["_law_tree_here"] (spD K mg 1 (bM n).F)):Callee P w K mg base "_law_other" (2+n+1) ["_law_tree_here"] (spD K mg 1 (bM (n+1)).F):=by
 show Callee P w K mg base _ _ _ (spD K mg _ (PFx.of [false] 1 (dQ (bM n))).F)
 unfold dQ
 exact okX D mq (λ_ _ _ _ _ _=>ar1 λ_=>rfl) λf cdv A outer s H E hr=>
  (ar (aP (cx (bT (aB (eK (K:=K) rfl) (dB T.kits) rfl T.i_ aS (aa (af 0) (aa (eL rfl T.j_ b0) ai))))) (au (aC (af 0))) aF)
   (au (aC (bK (aa (xD (tj hr) (xB (gP aX (gP aX wJ))) (aH (ixK (K:=K) rfl) aJ (af 0) ak (λ_ _=>rfl)) (λ_ _=>rfl)) (aa (iF (mZ (K:=K) rfl) l8 rfl T.j_ b0 (aa (eT ["_law_tree_here"] (aw fT).names ["_law_one"] [none] rfl (cK rfl (aH (ixK (K:=K) rfl) aJ (af 0) ak (λ_ _=>rfl))) (λ_ _ _ _ _=>(zgN 0 (show List.Nodup (["_law_one"]:List Str) from by decide))) (λ_ _ _ _ _=>(eD F_ (hr.mono (by omega)) rfl ff (aa (af 0) ai)))) ai)) ai))))))
theorem kA(T:Txt K mg a_ g_ h_ b_ c_ f_ d_)(D:Def K mg "_law_other" fT)  : ∀n,Callee P w K mg base "_law_other" (2+n) ["_law_tree_here"] (spD K mg 1 (bM n).F)
 |0=>ok0 D mq (λ_ _ _ _ _ _=>ar1 λ_=>rfl)
 |n+1=>sq T D (kA T D n)
def dO(s:PFx [false,false]):PSt:=
 (az (xIf (qNo (qOf (pFn (bc kits) (ag (ah 0) (ag (pTy "tuple") ao))))) (aO (pOp bIx (ah 1) (ah 0))) xNx)
  (aO (cJ (ag (pOp bIx (ah 0) (aq 0)) (ag (pFn jj (ag (pLC (bZ (pOp bIx (ah 0) (aq 1))) [none,some 1] (by decide) (gtN 0) qY (ax s.fn (ag (ah 0) (ag (ah 1) ao)))) ao)) ao)))))
def bG:Nat->PFx [false,false]
 |0=>PFx.none [false,false]
 |n+1=>PFx.of [false,false] 2 (dO (bG n))
def sO{n:Nat}(T:Txt K mg a_ g_ h_ b_ c_ f_ d_)(D:Def K mg "_law_named" fP)(B_:Callee P w K mg base "_law_named" (2+n) ["_law_tree_here", "_law_names"] (spD K mg 2 (bG n).F)):Callee P w K mg base "_law_named" (2+n+1) ["_law_tree_here", "_law_names"] (spD K mg 2 (bG (n+1)).F):=by
 show Callee P w K mg base _ _ _ (spD K mg _ (PFx.of [false,false] 2 (dO (bG n))).F)
 unfold dO
 exact okX D mI (λ_ _ _ _ _ _=>ar2 λ_ _=>rfl) λf cdv A outer s H E hr=>
  (ar (aP (cx (bT (aB (eK (K:=K) rfl) (dB T.kits) rfl T.i_ aS (aa (af 0) (aa (eL rfl T.j_ b0) ai))))) (au (aC (aH (ixK (K:=K) rfl) aJ (af 1) (af 0) (λ_ _=>rfl)))) aF)
   (au (aC (bK (aa (aH (ixK (K:=K) rfl) aJ (af 0) ak (λ_ _=>rfl)) (aa (iF (mZ (K:=K) rfl) l8 rfl T.j_ b0 (aa (eT ["_law_tree_here", "_law_names"] (aw fP).names ["_law_one", "_law_names"] [none,some 1] rfl (cK rfl (aH (ixK (K:=K) rfl) aJ (af 0) ak (λ_ _=>rfl))) (λ_ _ _ _ _=>(zgN 0 (show List.Nodup (["_law_one", "_law_names"]:List Str) from by decide))) (λ_ _ _ _ _=>(eD B_ (hr.mono (by omega)) rfl ff (aa (af 0) (aa (af 1) ai))))) ai)) ai))))))
theorem ku(T:Txt K mg a_ g_ h_ b_ c_ f_ d_)(D:Def K mg "_law_named" fP)  : ∀n,Callee P w K mg base "_law_named" (2+n) ["_law_tree_here", "_law_names"] (spD K mg 2 (bG n).F)
 |0=>ok0 D mI (λ_ _ _ _ _ _=>ar2 λ_ _=>rfl)
 |n+1=>sO T D (ku T D n)
def jd:PSt:=
 (aO (lX (pFn (bc kits) (ag (ah 0) (ag (pTy "int") ao))) (CC (pFn (bc kits) (ag (ah 0) (ag (pTy "bool") ao))))))
def bA:PFn:=fnP [false] 1 jd
def v8:bA.ms=[false]:=rfl
def vH(T:Txt K mg a_ g_ h_ b_ c_ f_ d_)(D:Def K mg "is_whole" kY)  : Callee P w K mg base "is_whole" (0+1) ["thing"] (spD K mg 1 bA.F):=by
 unfold bA jd
 exact okP D vU (λ_ _ _ _ _ _=>ar1 λ_=>rfl) λf cdv A outer s H E hr=>
  (au (aC (ju (aB (eK (K:=K) rfl) (dB T.kits) rfl T.i_ aS (aa (af 0) (aa (eL rfl T.O5 zQ) ai))) (kF (K9 (aB (eK (K:=K) rfl) (dB T.kits) rfl T.i_ aS (aa (af 0) (aa (eL rfl T.OG xy) ai))))))))
def cU:PSt:=
 (gh 0 1 (ag (ah 1) (ag (pOp cB (ah 0) (ah 1)) ao)))
def gk:PSt:=
 (az (gh 0 1 (ag (pFn ip (ag (ah 0) ao)) (ag (pFn ip (ag (ah 1) ao)) ao)))
  (az (xWh (qOf (pOp bNe (ah 1) (aq 0))) (cU))
  (aO (ah 0))))
def bo:PFn:=fnP [false,false] 2 gk
def nI:bo.ms=[false,false]:=rfl
def mG(T:Txt K mg a_ g_ h_ b_ c_ f_ d_)(D:Def K mg "common_divisor" gc)  : Callee P w K mg base "common_divisor" (0+1) ["one", "other"] (spD K mg 2 bo.F):=by
 unfold bo gk cU
 exact okP D fI (λ_ _ _ _ _ _=>ar2 λ_ _=>rfl) λf cdv A outer s H E hr=>
  (ar (dY (i:=0) (j:=1) rfl fI.nd rfl rfl (by decide) rfl rfl (aa (aB fq iB rfl T.E_ iz (aa (af 0) ai)) (aa (aB fq iB rfl T.E_ iz (aa (af 1) ai)) ai)) rfl)
   (ar (js gf (aK (lU (K:=K) rfl hr.u180) iY (af 1) ak (aE _)) (au (dY (i:=0) (j:=1) rfl fI.nd rfl rfl (by decide) rfl rfl (aa (af 1) (aa (aA df eA (af 0) (af 1)) ai)) rfl)))
   (au (aC (af 0)))))
def iM:PSt:=
 (az (xIf (qO (qNo (qOf (pFn (bc kits) (ag (ah 0) (ag (pTy "tuple") ao))))) (qOf (pOp bNe (pFn cL (ag (ah 0) ao)) (aq 2)))) (aO (pBl false)) xNx)
  (az (lR (ah 0) (gtX (gtT 2 (bB (gtN 1) (bB (gtN 2) eX)))))
  (az (xIf (qO (qNo (qOf (ax bA (ag (ah 1) ao)))) (qNo (qOf (ax bA (ag (ah 2) ao))))) (aO (pBl false)) xNx)
  (aO (lX (pOp bGe (ah 2) (aq 1)) (pOp bEq (ax bo (ag (ah 1) (ag (ah 2) ao))) (aq 1)))))))
def cq:PFn:=fnP [false] 3 iM
def qG:cq.ms=[false]:=rfl
def pP(T:Txt K mg a_ g_ h_ b_ c_ f_ d_)(D:Def K mg "is_fraction" iG)(p_:Callee P w K mg base "is_whole" 1 ["thing"] (spD K mg 1 bA.F))(m_:Callee P w K mg base "common_divisor" 1 ["one", "other"] (spD K mg 2 bo.F)):Callee P w K mg base "is_fraction" (1+1) ["thing"] (spD K mg 1 cq.F):=by
 unfold cq iM
 exact okP D gW (λ_ _ _ _ _ _=>ar1 λ_=>rfl) λf cdv A outer s H E hr=>
  (ar (aP (ZW.dt (gG (cx (bT (aB (eK (K:=K) rfl) (dB T.kits) rfl T.i_ aS (aa (af 0) (aa (eL rfl T.j_ b0) ai))))) (iu (aK (lU (K:=K) rfl hr.u180) iY (aB (dD (K:=K) rfl) cz rfl T.k_ bY (aa (af 0) ai)) ak (aE _))))) (au (aC gE)) aF)
   (ar (kB (af 0) (ZG.weak (gK rfl rfl (aZ (zgN 1 gW.nd) (aZ (zgN 2 gW.nd) ft)))))
   (ar (aP (ZW.dt (gG (cx (bT (zcF p_ hr (aa (af 1) ai)))) (iu (cx (bT (zcF p_ hr (aa (af 2) ai))))))) (au (aC gE)) aF)
   (au (aC (ju (fM pA pM (af 2) ak (aE _)) (kF (fM (dS (K:=K) rfl hr.u180) cG (zcF m_ hr (aa (af 1) (aa (af 2) ai))) ak (aE _)))))))))
def nR:PSt:=
 (az (xIf (qO (qNo (qOf (pFn (bc kits) (ag (ah 0) (ag (pTy "tuple") ao))))) (qOf (pOp bNe (pFn cL (ag (ah 0) ao)) (aq 4)))) (aO (pBl false)) xNx)
  (az (xIf (qNo (qOf (pFn tF (ag (pLC (bZ (ah 0)) [none] (by decide) (gtN 0) qY (ax cq (ag (ah 0) ao))) ao)))) (aO (pBl false)) xNx)
  (aO (lX (pOp bGt (pOp bIx (pOp bIx (ah 0) (aq 2)) (aq 0)) (aq 0)) (pOp bGt (pOp bIx (pOp bIx (ah 0) (aq 3)) (aq 0)) (aq 0))))))
def f6:PFn:=fnP [false] 1 nR
def Be:f6.ms=[false]:=rfl
def yS(T:Txt K mg a_ g_ h_ b_ c_ f_ d_)(D:Def K mg "is_box" md)(Ow:Callee P w K mg base "is_fraction" 2 ["thing"] (spD K mg 1 cq.F)):Callee P w K mg base "is_box" (2+1) ["thing"] (spD K mg 1 f6.F):=by
 unfold f6 nR
 exact okP D zD (λ_ _ _ _ _ _=>ar1 λ_=>rfl) λf cdv A outer s H E hr=>
  (ar (aP (ZW.dt (gG (cx (bT (aB (eK (K:=K) rfl) (dB T.kits) rfl T.i_ aS (aa (af 0) (aa (eL rfl T.j_ b0) ai))))) (iu (aK (lU (K:=K) rfl hr.u180) iY (aB (dD (K:=K) rfl) cz rfl T.k_ bY (aa (af 0) ai)) ak (aE _))))) (au (aC gE)) aF)
   (ar (aP (cx (bT (aB (allK (K:=K) rfl rfl) Ba rfl T.O4 AQ (aa (eT ["thing"] (aw md).names ["part"] [none] rfl (cK rfl (af 0)) (λ_ _ _ _ _=>(zgN 0 (show List.Nodup (["part"]:List Str) from by decide))) (λ_ _ _ _ _=>(eD Ow (hr.mono (by omega)) rfl ff (aa (af 0) ai)))) ai)))) (au (aC gE)) aF)
   (au (aC (ju (fM m5 nr (aH (ixK (K:=K) rfl) aJ (aH (ixK (K:=K) rfl) aJ (af 0) ak (λ_ _=>rfl)) ak (λ_ _=>rfl)) ak (aE _)) (kF (fM m5 nr (aH (ixK (K:=K) rfl) aJ (aH (ixK (K:=K) rfl) aJ (af 0) ak (λ_ _=>rfl)) ak (λ_ _=>rfl)) ak (aE _))))))))
def ko:PSt:=
 (xIf (qNo (qOf (ax f6 (ag (ah 0) ao)))) (fU "NoBox" (ag (bH "this is no box") ao)) xNx)
def bz:PFn:=fnP [false] 1 ko
def uL:bz.ms=[false]:=rfl
def sR(T:Txt K mg a_ g_ h_ b_ c_ f_ d_)(D:Def K mg "check_box" j0)(PD:Callee P w K mg base "is_box" 3 ["thing"] (spD K mg 1 f6.F)):Callee P w K mg base "check_box" (3+1) ["thing"] (spD K mg 1 bz.F):=by
 unfold bz ko
 exact okP D uB (λ_ _ _ _ _ _=>ar1 λ_=>rfl) λf cdv A outer s H E hr=>
  (au (aP (cx (bT (zcF PD hr (aa (af 0) ai)))) (au (fi rfl rz1 rfl T.OA T.OC (aa aX ai))) aF))
def jX:PSt:=
 (aO (lX (ax bA (ag (ah 0) ao)) (pOp bGe (ah 0) (aq 1))))
def c8:PFn:=fnP [false] 1 jX
def vh:c8.ms=[false]:=rfl
def sP(T:Txt K mg a_ g_ h_ b_ c_ f_ d_)(D:Def K mg "is_weight" kd)(p_:Callee P w K mg base "is_whole" 1 ["thing"] (spD K mg 1 bA.F)):Callee P w K mg base "is_weight" (1+1) ["thing"] (spD K mg 1 c8.F):=by
 unfold c8 jX
 exact okP D tQ (λ_ _ _ _ _ _=>ar1 λ_=>rfl) λf cdv A outer s H E hr=>
  (au (aC (ju (zcF p_ hr (aa (af 0) ai)) (kF (fM pA pM (af 0) ak (aE _))))))
def gz:PSt:=
 (az (xIf (qO (qNo (qOf (pFn (bc kits) (ag (ah 0) (ag (pTy "list") ao))))) (qOf (pOp bEq (pFn cL (ag (ah 0) ao)) (aq 0)))) (fU "NoWeights" (ag (bH "this is no list of weights") ao)) xNx)
  (az (xIf (qNo (qOf (pFn tF (ag (pLC (bZ (ah 0)) [none] (by decide) (gtN 0) qY (ax c8 (ag (ah 0) ao))) ao)))) (fU "NoWeights" (ag (bH "a weight is a whole number from 1 on") ao)) xNx)
  (xIf (qOf (pOp bGt (pFn cL (ag (ah 0) ao)) gJ)) (fU "TooMany" (ag (bH "these are more weights than forty") ao)) xNx)))
def bf:PFn:=fnP [false] 1 gz
def oJ:bf.ms=[false]:=rfl
def nJ(T:Txt K mg a_ g_ h_ b_ c_ f_ d_)(D:Def K mg "check_weights" eS)(OP:Callee P w K mg base "is_weight" 2 ["thing"] (spD K mg 1 c8.F)):Callee P w K mg base "check_weights" (2+1) ["thing"] (spD K mg 1 bf.F):=by
 unfold bf gz gJ
 exact okP D oh (λ_ _ _ _ _ _=>ar1 λ_=>rfl) λf cdv A outer s H E hr=>
  (ar (aP (ZW.dt (gG (cx (bT (aB (eK (K:=K) rfl) (dB T.kits) rfl T.i_ aS (aa (af 0) (aa (eL rfl T.O0 GD) ai))))) (iu (aK (dS (K:=K) rfl hr.u180) cG (aB (dD (K:=K) rfl) cz rfl T.k_ bY (aa (af 0) ai)) ak (aE _))))) (au (fi rfl rz1 rfl T.u_ T.v_ (aa aX ai))) aF)
   (ar (aP (cx (bT (aB (allK (K:=K) rfl rfl) Ba rfl T.O4 AQ (aa (eT ["thing"] (aw eS).names ["weight"] [none] rfl (cK rfl (af 0)) (λ_ _ _ _ _=>(zgN 0 (show List.Nodup (["weight"]:List Str) from by decide))) (λ_ _ _ _ _=>(eD OP (hr.mono (by omega)) rfl ff (aa (af 0) ai)))) ai)))) (au (fi rfl rz1 rfl T.u_ T.v_ (aa aX ai))) aF)
   (au (aP (aK m5 nr (aB (dD (K:=K) rfl) cz rfl T.k_ bY (aa (af 0) ai)) (Eh rfl T.t_) (aE _)) (au (fi rfl rz1 rfl T.H_ T.J_ (aa aX ai))) aF))))
def kR:PSt:=
 (aO (lX (pFn (bc kits) (ag (ah 0) (ag (pTy "str") ao))) (pOp bIn (ah 0) qQ)))
def dk:PFn:=fnP [false] 1 kR
def Bg:dk.ms=[false]:=rfl
def zo(T:Txt K mg a_ g_ h_ b_ c_ f_ d_)(D:Def K mg "is_way" oD)  : Callee P w K mg base "is_way" (0+1) ["thing"] (spD K mg 1 dk.F):=by
 unfold dk kR qQ
 exact okP D Bf (λ_ _ _ _ _ _=>ar1 λ_=>rfl) λf cdv A outer s H E hr=>
  (au (aC (ju (aB (eK (K:=K) rfl) (dB T.kits) rfl T.i_ aS (aa (af 0) (aa (eL rfl T.Pq Ij) ai))) (kF (fM (inK (K:=K) rfl) N7 (af 0) (Eh rfl T.OU) (by with_unfolding_all rfl))))))
def iq:PSt:=
 (az (xIf (qO (qNo (qOf (pFn (bc kits) (ag (ah 0) (ag (pTy "tuple") ao))))) (qOf (pOp bNe (pFn cL (ag (ah 0) ao)) (aq 2)))) (aO (pBl false)) xNx)
  (aO (lX (ax dk (ag (pOp bIx (ah 0) (aq 0)) ao)) (lX (pFn (bc kits) (ag (pOp bIx (ah 0) (aq 1)) (ag (pTy "tuple") ao))) (pOp bGe (pFn cL (ag (pOp bIx (ah 0) (aq 1)) ao)) (aq 2))))))
def cC:PFn:=fnP [false] 1 iq
def tU:cC.ms=[false]:=rfl
def sG(T:Txt K mg a_ g_ h_ b_ c_ f_ d_)(D:Def K mg "is_branch" kr)(M_:Callee P w K mg base "is_way" 1 ["thing"] (spD K mg 1 dk.F)):Callee P w K mg base "is_branch" (1+1) ["thing"] (spD K mg 1 cC.F):=by
 unfold cC iq
 exact okP D uo (λ_ _ _ _ _ _=>ar1 λ_=>rfl) λf cdv A outer s H E hr=>
  (ar (aP (ZW.dt (gG (cx (bT (aB (eK (K:=K) rfl) (dB T.kits) rfl T.i_ aS (aa (af 0) (aa (eL rfl T.j_ b0) ai))))) (iu (aK (lU (K:=K) rfl hr.u180) iY (aB (dD (K:=K) rfl) cz rfl T.k_ bY (aa (af 0) ai)) ak (aE _))))) (au (aC gE)) aF)
   (au (aC (ju (zcF M_ hr (aa (aH (ixK (K:=K) rfl) aJ (af 0) ak (λ_ _=>rfl)) ai)) (ju (aB (eK (K:=K) rfl) (dB T.kits) rfl T.i_ aS (aa (aH (ixK (K:=K) rfl) aJ (af 0) ak (λ_ _=>rfl)) (aa (eL rfl T.j_ b0) ai))) (kF (fM pA pM (aB (dD (K:=K) rfl) cz rfl T.k_ bY (aa (aH (ixK (K:=K) rfl) aJ (af 0) ak (λ_ _=>rfl)) ai)) ak (aE _))))))))
def dI:PSt:=
 (az (aQ false 4 (sU 3 sW))
  (xIf (qOf (ax cC (ag (ah 4) ao))) (dC (mD 3 jR (ag (pOp bIx (ah 4) (aq 1)) ao))) (xIf (qO (qNo (qOf (ax bA (ag (ah 4) ao)))) (qO (qOf (pOp bLt (ah 4) (aq 0))) (qO (qOf (pOp bGe (ah 4) (ah 1))) (qOf (pOp CL (ah 4) (ah 2)))))) (aO (pBl false)) (dC (BA 2 (ag (ah 4) ao))))))
def mP:PSt:=
 (az (aQ true 2 xV)
  (az (aQ true 3 (dg (ag (ah 0) ao)))
  (az (xWh (qTr (ah 3)) (dI))
  (aO (pOp bEq (pFn vB (ag (ah 2) ao)) (ah 1))))))
def fj:PFn:=fnP [false,false] 5 mP
def yz:fj.ms=[false,false]:=rfl
def v5(T:Txt K mg a_ g_ h_ b_ c_ f_ d_)(D:Def K mg "is_tree" mY)(OO:Callee P w K mg base "is_branch" 2 ["thing"] (spD K mg 1 cC.F))(p_:Callee P w K mg base "is_whole" 1 ["thing"] (spD K mg 1 bA.F)):Callee P w K mg base "is_tree" (2+1) ["thing", "many"] (spD K mg 2 fj.F):=by
 unfold fj mP dI
 exact okP D iO (λ_ _ _ _ _ _=>ar2 λ_ _=>rfl) λf cdv A outer s H E hr=>
  (ar (zsS 2 iO.nd (Fs rfl T.Pp Iz))
   (ar (zsS 3 iO.nd (bW (aa (af 0) ai)))
   (ar (js gf (kP rfl (af 3)) (ar (zsS 4 iO.nd (wj rfl PySem.F.slot_list_pop PySem.F.type_list_pop zS zC (af 3)))
   (au (aP (bT (zcF OO hr (aa (af 4) ai))) (au (b9 (ky rfl S9 PySem.F.type_list_extend (p9 (K:=K) rfl) pO (af 3) (aa (aH (ixK (K:=K) rfl) aJ (af 4) ak (λ_ _=>rfl)) ai)))) (au (aP (ZW.dt (gG (cx (bT (zcF p_ hr (aa (af 4) ai)))) (gG (aK pE oT (af 4) ak (aE _)) (gG (aK pA pM (af 4) (af 1) (aE _)) (iu (aK BV JO (af 4) (af 2) (by with_unfolding_all rfl))))))) (au (aC gE)) (au (b9 (IW rfl (af 2) (aa (af 4) ai))))))))))
   (au (aC (fM (dS (K:=K) rfl hr.u180) cG (aB vZ G0 rfl T.k_ bY (aa (af 2) ai)) (af 1) (aE _)))))))
def jH:PSt:=
 (xIf (qNo (qOf (ax fj (ag (ah 0) (ag (ah 1) ao))))) (fU "NoTree" (ag (bH "this is no tree for the things") ao)) xNx)
def dn:PFn:=fnP [false,false] 2 jH
def sJ:dn.ms=[false,false]:=rfl
def qt(T:Txt K mg a_ g_ h_ b_ c_ f_ d_)(D:Def K mg "check_tree" jt)(O_:Callee P w K mg base "is_tree" 3 ["thing", "many"] (spD K mg 2 fj.F)):Callee P w K mg base "check_tree" (3+1) ["thing", "many"] (spD K mg 2 dn.F):=by
 unfold dn jH
 exact okP D sy (λ_ _ _ _ _ _=>ar2 λ_ _=>rfl) λf cdv A outer s H E hr=>
  (au (aP (cx (bT (zcF O_ hr (aa (af 0) (aa (af 1) ai))))) (au (fi rfl rz1 rfl T.N_ T.Ov (aa aX ai))) aF))
def jY:PSt:=
 (xIf (qNo (qOf (ax dk (ag (ah 0) ao)))) (fU "NoWay" (ag (bH "this is no way") ao)) xNx)
def dU:PFn:=fnP [false] 1 jY
def vQ:dU.ms=[false]:=rfl
def sE(T:Txt K mg a_ g_ h_ b_ c_ f_ d_)(D:Def K mg "check_way" jV)(M_:Callee P w K mg base "is_way" 1 ["thing"] (spD K mg 1 dk.F)):Callee P w K mg base "check_way" (1+1) ["way"] (spD K mg 1 dU.F):=by
 unfold dU jY
 exact okP D vL (λ_ _ _ _ _ _=>ar1 λ_=>rfl) λf cdv A outer s H E hr=>
  (au (aP (cx (bT (zcF M_ hr (aa (af 0) ai)))) (au (fi rfl rz1 rfl T.OB T.OD (aa aX ai))) aF))
def lF:PSt:=
 (az (xIf (qOf (pOp bEq (ah 1) (aq 0))) (fU "NoFraction" (ag (bH "a fraction has no bottom of 0") ao)) xNx)
  (az (aQ false 2 (ax bo (ag (ah 0) (ag (ah 1) ao))))
  (az (xIf (qOf (pOp bLt (ah 1) (aq 0))) (aQ false 2 (pUn CB (ah 2))) xNx)
  (aO (cJ (ag (pOp g0 (ah 0) (ah 2)) (ag (pOp g0 (ah 1) (ah 2)) ao)))))))
def bP:PFn:=fnP [false,false] 3 lF
def wg:bP.ms=[false,false]:=rfl
def ua(T:Txt K mg a_ g_ h_ b_ c_ f_ d_)(D:Def K mg "fraction" lG)(m_:Callee P w K mg base "common_divisor" 1 ["one", "other"] (spD K mg 2 bo.F)):Callee P w K mg base "fraction" (1+1) ["top", "bottom"] (spD K mg 2 bP.F):=by
 unfold bP lF
 exact okP D ki (λ_ _ _ _ _ _=>ar2 λ_ _=>rfl) λf cdv A outer s H E hr=>
  (ar (aP (aK (dS (K:=K) rfl hr.u180) cG (af 1) ak (aE _)) (au (fi rfl rz1 rfl T.w_ T.y_ (aa aX ai))) aF)
   (ar (zsS 2 ki.nd (zcF m_ hr (aa (af 0) (aa (af 1) ai))))
   (ar (aP (aK pE oT (af 1) ak (aE _)) (au (zsS 2 ki.nd (Me Ie Jn (af 2)))) aF)
   (au (aC (bK (aa (aA gi jF (af 0) (af 2)) (aa (aA gi jF (af 1) (af 2)) ai))))))))
def rC:PSt:=
 (aO (ax bP (ag (pOp aY (pOp dF (pOp bIx (ah 0) (aq 0)) (pOp bIx (ah 1) (aq 1))) (pOp dF (pOp bIx (ah 1) (aq 0)) (pOp bIx (ah 0) (aq 1)))) (ag (pOp dF (pOp bIx (ah 0) (aq 1)) (pOp bIx (ah 1) (aq 1))) ao))))
def gO:PFn:=fnP [false,false] 2 rC
def DB:gO.ms=[false,false]:=rfl
def AW(T:Txt K mg a_ g_ h_ b_ c_ f_ d_)(D:Def K mg "added" qh)(o_:Callee P w K mg base "fraction" 2 ["top", "bottom"] (spD K mg 2 bP.F)):Callee P w K mg base "added" (2+1) ["one", "other"] (spD K mg 2 gO.F):=by
 unfold gO rC
 exact okP D DV (λ_ _ _ _ _ _=>ar2 λ_ _=>rfl) λf cdv A outer s H E hr=>
  (au (aC (zcF o_ hr (aa (aA (aV (K:=K) rfl) aU (aA eg ek (aH (ixK (K:=K) rfl) aJ (af 0) ak (λ_ _=>rfl)) (aH (ixK (K:=K) rfl) aJ (af 1) ak (λ_ _=>rfl))) (aA eg ek (aH (ixK (K:=K) rfl) aJ (af 1) ak (λ_ _=>rfl)) (aH (ixK (K:=K) rfl) aJ (af 0) ak (λ_ _=>rfl)))) (aa (aA eg ek (aH (ixK (K:=K) rfl) aJ (af 0) ak (λ_ _=>rfl)) (aH (ixK (K:=K) rfl) aJ (af 1) ak (λ_ _=>rfl))) ai)))))
def rj:PSt:=
 (aO (ax bP (ag (pOp dF (pOp bIx (ah 0) (aq 0)) (pOp bIx (ah 1) (aq 0))) (ag (pOp dF (pOp bIx (ah 0) (aq 1)) (pOp bIx (ah 1) (aq 1))) ao))))
def gq:PFn:=fnP [false,false] 2 rj
def BJ:gq.ms=[false,false]:=rfl
def zr(T:Txt K mg a_ g_ h_ b_ c_ f_ d_)(D:Def K mg "times" qf)(o_:Callee P w K mg base "fraction" 2 ["top", "bottom"] (spD K mg 2 bP.F)):Callee P w K mg base "times" (2+1) ["one", "other"] (spD K mg 2 gq.F):=by
 unfold gq rj
 exact okP D CH (λ_ _ _ _ _ _=>ar2 λ_ _=>rfl) λf cdv A outer s H E hr=>
  (au (aC (zcF o_ hr (aa (aA eg ek (aH (ixK (K:=K) rfl) aJ (af 0) ak (λ_ _=>rfl)) (aH (ixK (K:=K) rfl) aJ (af 1) ak (λ_ _=>rfl))) (aa (aA eg ek (aH (ixK (K:=K) rfl) aJ (af 0) ak (λ_ _=>rfl)) (aH (ixK (K:=K) rfl) aJ (af 1) ak (λ_ _=>rfl))) ai)))))
def iD:PSt:=
 (az (aQ false 7 (ax gO (ag (ah 0) (ag (ax gq (ag (ah 1) (ag (ax bP (ag (ah 4) (ag (ah 3) ao))) ao))) ao))))
  (az (dC (mD 5 jA (ag (cJ (ag (ah 7) (ag (ax gq (ag (ah 1) (ag (ax bP (ag (ah 6) (ag (ah 3) ao))) ao))) ao))) ao)))
  (Ds 4 Bu (ah 6))))
def ou:PSt:=
 (az (aQ false 3 (pFn pB (ag (ah 2) ao)))
  (az (aQ false 4 (aq 0))
  (az (aQ true 5 (dg ao))
  (az (jC (bZ (ah 2)) (gtN 6) (iD))
  (aO (ah 5))))))
def fo:PFn:=fnP [false,false,false] 8 ou
def zT:fo.ms=[false,false,false]:=rfl
def yr(T:Txt K mg a_ g_ h_ b_ c_ f_ d_)(D:Def K mg "shares" oi)(PX:Callee P w K mg base "added" 3 ["one", "other"] (spD K mg 2 gO.F))(Pm:Callee P w K mg base "times" 3 ["one", "other"] (spD K mg 2 gq.F))(o_:Callee P w K mg base "fraction" 2 ["top", "bottom"] (spD K mg 2 bP.F)):Callee P w K mg base "shares" (3+1) ["start", "length", "weights"] (spD K mg 3 fo.F):=by
 unfold fo ou iD
 exact okP D eW (λ_ _ _ _ _ _=>ar3 λ_ _ _=>rfl) λf cdv A outer s H E hr=>
  (ar (zsS 3 eW.nd (aB (rQ (K:=K) rfl rfl) Bd rfl T.O7 AN (aa (af 2) ai)))
   (ar (zsS 4 eW.nd ak)
   (ar (zsS 5 eW.nd (bW ai))
   (ar (gF gf rfl (cK rfl (af 2)) (zgN 6 eW.nd) (ar (zsS 7 eW.nd (zcF PX hr (aa (af 0) (aa (zcF Pm hr (aa (af 1) (aa (zcF o_ hr (aa (af 4) (aa (af 3) ai))) ai))) ai))))
   (ar (b9 (ky rfl Sa Sb jK mR (af 5) (aa (bK (aa (af 7) (aa (zcF Pm hr (aa (af 1) (aa (zcF o_ hr (aa (af 6) (aa (af 3) ai))) ai))) ai))) ai)))
   (au (Jm (i:=4) eW.nd rfl (by trivial) (af 6) JR Jw)))))
   (au (aC (af 5)))))))
def ox:PSt:=
 (az (dC (ax bz (ag (ah 0) ao)))
  (az (dC (ax dU (ag (ah 1) ao)))
  (az (dC (ax bf (ag (ah 2) ao)))
  (az (lR (ah 0) (gtX (gtT 4 (bB (gtN 3) (bB (gtN 4) (bB (gtN 5) (bB (gtN 6) eX)))))))
  (az (xIf (qOf (pOp bEq (ah 1) (bH "across"))) (aO (pLC (bZ (ax fo (ag (ah 3) (ag (ah 5) (ag (ah 2) ao))))) [none,none,some 4,some 6] (by decide) (gtT 2 (bB (gtN 0) (bB (gtN 1) eX))) qY (cJ (ag (ah 0) (ag (ah 2) (ag (ah 1) (ag (ah 3) ao))))))) xNx)
  (aO (pLC (bZ (ax fo (ag (ah 4) (ag (ah 6) (ag (ah 2) ao))))) [none,none,some 3,some 5] (by decide) (gtT 2 (bB (gtN 0) (bB (gtN 1) eX))) qY (cJ (ag (ah 2) (ag (ah 0) (ag (ah 3) (ag (ah 1) ao))))))))))))
def eZ:PFn:=fnP [false,false,false] 7 ox
def As:eZ.ms=[false,false,false]:=rfl
def zg(T:Txt K mg a_ g_ h_ b_ c_ f_ d_)(D:Def K mg "parted" jy)(n_:Callee P w K mg base "check_box" 4 ["thing"] (spD K mg 1 bz.F))(ON:Callee P w K mg base "check_way" 2 ["way"] (spD K mg 1 dU.F))(r_:Callee P w K mg base "check_weights" 3 ["thing"] (spD K mg 1 bf.F))(O2:Callee P w K mg base "shares" 4 ["start", "length", "weights"] (spD K mg 3 fo.F)):Callee P w K mg base "parted" (4+1) ["box", "way", "weights"] (spD K mg 3 eZ.F):=by
 unfold eZ ox
 exact okP D iw (λ_ _ _ _ _ _=>ar3 λ_ _ _=>rfl) λf cdv A outer s H E hr=>
  (ar (b9 (zcF n_ hr (aa (af 0) ai)))
   (ar (b9 (zcF ON hr (aa (af 1) ai)))
   (ar (b9 (zcF r_ hr (aa (af 2) ai)))
   (ar (kB (af 0) (ZG.weak (gK rfl rfl (aZ (zgN 3 iw.nd) (aZ (zgN 4 iw.nd) (aZ (zgN 5 iw.nd) (aZ (zgN 6 iw.nd) ft)))))))
   (ar (aP (aK (dS (K:=K) rfl hr.u180) cG (af 1) aX (aE _)) (au (aC (eT ["box", "way", "weights", "left", "top", "wide", "high"] (aw jy).names ["begin", "length", "top", "high"] [none,none,some 4,some 6] rfl (cK rfl (zcF O2 hr (aa (af 3) (aa (af 5) (aa (af 2) ai))))) (λ_ _ _ _ _=>(gK rfl rfl (aZ (zgN 0 (show List.Nodup (["begin", "length", "top", "high"]:List Str) from by decide)) (aZ (zgN 1 (show List.Nodup (["begin", "length", "top", "high"]:List Str) from by decide)) ft)))) (λ_ _ _ _ _=>(bK (aa (af 0) (aa (af 2) (aa (af 1) (aa (af 3) ai))))))))) aF)
   (au (aC (eT ["box", "way", "weights", "left", "top", "wide", "high"] (aw jy).names ["begin", "length", "left", "wide"] [none,none,some 3,some 5] rfl (cK rfl (zcF O2 hr (aa (af 4) (aa (af 6) (aa (af 2) ai))))) (λ_ _ _ _ _=>(gK rfl rfl (aZ (zgN 0 (show List.Nodup (["begin", "length", "left", "wide"]:List Str) from by decide)) (aZ (zgN 1 (show List.Nodup (["begin", "length", "left", "wide"]:List Str) from by decide)) ft)))) (λ_ _ _ _ _=>(bK (aa (af 2) (aa (af 0) (aa (af 3) (aa (af 1) ai))))))))))))))
def cI:PSt:=
 (az (aQ false 3 (sU 2 sW))
  (xIf (qOf (pFn (bc kits) (ag (ah 3) (ag (pTy "tuple") ao)))) (dC (mD 2 jR (ag (pOp bIx (ah 3) (aq 1)) ao))) (dC (mD 1 jA (ag (ah 3) ao)))))
def j7:PSt:=
 (az (aQ true 1 (dg ao))
  (az (aQ true 2 (dg (ag (ah 0) ao)))
  (az (xWh (qTr (ah 2)) (cI))
  (aO (ah 1)))))
def cX:PFn:=fnP [false] 4 j7
def tW:cX.ms=[false]:=rfl
def sv(T:Txt K mg a_ g_ h_ b_ c_ f_ d_)(D:Def K mg "things_in" kq)  : Callee P w K mg base "things_in" (0+1) ["tree"] (spD K mg 1 cX.F):=by
 unfold cX j7 cI
 exact okP D gC (λ_ _ _ _ _ _=>ar1 λ_=>rfl) λf cdv A outer s H E hr=>
  (ar (zsS 1 gC.nd (bW ai))
   (ar (zsS 2 gC.nd (bW (aa (af 0) ai)))
   (ar (js gf (kP rfl (af 2)) (ar (zsS 3 gC.nd (wj rfl PySem.F.slot_list_pop PySem.F.type_list_pop zS zC (af 2)))
   (au (aP (bT (aB (eK (K:=K) rfl) (dB T.kits) rfl T.i_ aS (aa (af 3) (aa (eL rfl T.j_ b0) ai)))) (au (b9 (ky rfl S9 PySem.F.type_list_extend (p9 (K:=K) rfl) pO (af 2) (aa (aH (ixK (K:=K) rfl) aJ (af 3) ak (λ_ _=>rfl)) ai)))) (au (b9 (ky rfl Sa Sb jK mR (af 1) (aa (af 3) ai))))))))
   (au (aC (af 1))))))
def lH:PSt:=
 (az (lR (ah 2) (gtX (gtT 2 (bB (gtN 3) (bB (gtN 4) eX)))))
  (aO (ax eZ (ag (ah 0) (ag (ah 3) (ag (pLC (bZ (ah 4)) [none,some 1] (by decide) (gtN 0) qY (pFn pB (ag (pLC (bZ (ax cX (ag (ah 0) ao))) [none,some 1] (by decide) (gtN 0) qY (pOp bIx (ah 1) (ah 0))) ao))) ao))))))
def dH:PFn:=fnP [false,false,false] 5 lH
def wa:dH.ms=[false,false,false]:=rfl
def u9(T:Txt K mg a_ g_ h_ b_ c_ f_ d_)(D:Def K mg "parts_of" iQ)(PF:Callee P w K mg base "parted" 5 ["box", "way", "weights"] (spD K mg 3 eZ.F))(OS:Callee P w K mg base "things_in" 1 ["tree"] (spD K mg 1 cX.F)):Callee P w K mg base "parts_of" (5+1) ["room", "weights", "tree"] (spD K mg 3 dH.F):=by
 unfold dH lH
 exact okP D j9 (λ_ _ _ _ _ _=>ar3 λ_ _ _=>rfl) λf cdv A outer s H E hr=>
  (ar (kB (af 2) (ZG.weak (gK rfl rfl (aZ (zgN 3 j9.nd) (aZ (zgN 4 j9.nd) ft)))))
   (au (aC (zcF PF hr (aa (af 0) (aa (af 3) (aa (eT ["room", "weights", "tree", "way", "trees"] (aw iQ).names ["part", "weights"] [none,some 1] rfl (cK rfl (af 4)) (λ_ _ _ _ _=>(zgN 0 (show List.Nodup (["part", "weights"]:List Str) from by decide))) (λ_ _ _ _ _=>(aB (rQ (K:=K) rfl rfl) Bd rfl T.O7 AN (aa (eT ["part", "weights"] [(PySem.Str.ofString ".0",PySem.NameKind.local),(PySem.Str.ofString "part",PySem.NameKind.local),(PySem.Str.ofString "sum",PySem.NameKind.globalImplicit),(PySem.Str.ofString "things_in",PySem.NameKind.globalImplicit),(PySem.Str.ofString "weights",PySem.NameKind.cell)] ["thing", "weights"] [none,some 1] rfl (cK rfl (eD OS (hr.mono (by omega)) rfl ff (aa (af 0) ai))) (λ_ _ _ _ _=>(zgN 0 (show List.Nodup (["thing", "weights"]:List Str) from by decide))) (λ_ _ _ _ _=>(aH (ixK (K:=K) rfl) aJ (af 1) (af 0) (λ_ _=>rfl)))) ai)))) ai)))))))
def jz(s:PFx [false,false,false,true]):PSt:=
 (dC (ax s.fn (ag (ah 5) (ag (ah 1) (ag (ah 4) (ag (ah 3) ao))))))
def gU(s:PFx [false,false,false,true]):PSt:=
 (az (xIf (qNo (qOf (pFn (bc kits) (ag (ah 2) (ag (pTy "tuple") ao))))) (az (vj 3 seI (ah 2) (ah 0))
  yH) xNx)
  (jC (yO (ag (pOp bIx (ah 2) (aq 1)) (ag (ax dH (ag (ah 0) (ag (ah 1) (ag (ah 2) ao)))) ao))) (gtX (gtT 2 (bB (gtN 4) (bB (gtN 5) eX)))) (jz s)))
def de:Nat->PFx [false,false,false,true]
 |0=>PFx.none [false,false,false,true]
 |n+1=>PFx.of [false,false,false,true] 6 (gU (de n))
def AM{n:Nat}(T:Txt K mg a_ g_ h_ b_ c_ f_ d_)(D:Def K mg "place" ny)(Em:Callee P w K mg base "parts_of" 6 ["room", "weights", "tree"] (spD K mg 3 dH.F))(OT:Callee P w K mg base "place" (8+n) ["room", "weights", "tree", "placed"] (spD K mg 4 (de n).F)):Callee P w K mg base "place" (8+n+1) ["room", "weights", "tree", "placed"] (spD K mg 4 (de (n+1)).F):=by
 show Callee P w K mg base _ _ _ (spD K mg _ (PFx.of [false,false,false,true] 6 (gU (de n))).F)
 unfold gU jz
 exact okX D l9 (λ_ _ _ _ _ _=>ar4 λ_ _ _ _=>rfl) λf cdv A outer s H E hr=>
  (ar (aP (cx (bT (aB (eK (K:=K) rfl) (dB T.kits) rfl T.i_ aS (aa (af 2) (aa (eL rfl T.j_ b0) ai))))) (ar (rh (af 0) (af 3) (af 2) (Cp (tj hr)) Cr)
   (au GR)) aF)
   (au (gF gf rfl (Hv rfl rfl T.Pr (aa (aH (ixK (K:=K) rfl) aJ (af 2) ak (λ_ _=>rfl)) (aa (zcF Em hr (aa (af 0) (aa (af 1) (aa (af 2) ai)))) ai))) (ZG.weak (gK rfl rfl (aZ (zgN 4 l9.nd) (aZ (zgN 5 l9.nd) ft)))) (au (b9 (zcF OT hr (aa (af 5) (aa (af 1) (aa (af 4) (aa (af 3) ai))))))))))
theorem oW(T:Txt K mg a_ g_ h_ b_ c_ f_ d_)(D:Def K mg "place" ny)(Em:Callee P w K mg base "parts_of" 6 ["room", "weights", "tree"] (spD K mg 3 dH.F)):∀n,Callee P w K mg base "place" (8+n) ["room", "weights", "tree", "placed"] (spD K mg 4 (de n).F)
 |0=>ok0 D l9 (λ_ _ _ _ _ _=>ar4 λ_ _ _ _=>rfl)
 |n+1=>AM T D Em (oW T D Em n)
def lg:PSt:=
 (az (dC (ax bz (ag (ah 0) ao)))
  (az (dC (ax bf (ag (ah 1) ao)))
  (az (dC (ax dn (ag (ah 2) (ag (pFn cL (ag (ah 1) ao)) ao))))
  (az (aQ true 3 pD0)
  (az (dC (ax (de 42).fn (ag (ah 0) (ag (ah 1) (ag (ah 2) (ag (ah 3) ao))))))
  (aO (pLC (jL (ag (pFn cL (ag (ah 1) ao)) ao)) [none,some 3] (by decide) (gtN 0) qY (pOp zi (ah 1) (ah 0)))))))))
def dJ:PFn:=fnP [false,false,false] 4 lg
def v3:dJ.ms=[false,false,false]:=rfl
def tR(T:Txt K mg a_ g_ h_ b_ c_ f_ d_)(D:Def K mg "boxes_by" iU)(n_:Callee P w K mg base "check_box" 4 ["thing"] (spD K mg 1 bz.F))(r_:Callee P w K mg base "check_weights" 3 ["thing"] (spD K mg 1 bf.F))(OE:Callee P w K mg base "check_tree" 4 ["thing", "many"] (spD K mg 2 dn.F))(OT:Callee P w K mg base "place" 50 ["room", "weights", "tree", "placed"] (spD K mg 4 (de 42).F)):Callee P w K mg base "boxes_by" (50+1) ["room", "weights", "tree"] (spD K mg 3 dJ.F):=by
 unfold dJ lg
 exact okP D nM (λ_ _ _ _ _ _=>ar3 λ_ _ _=>rfl) λf cdv A outer s H E hr=>
  (ar (b9 (zcF n_ hr (aa (af 0) ai)))
   (ar (b9 (zcF r_ hr (aa (af 1) ai)))
   (ar (b9 (zcF OE hr (aa (af 2) (aa (aB (dD (K:=K) rfl) cz rfl T.k_ bY (aa (af 1) ai)) ai))))
   (ar (zsS 3 nM.nd NW)
   (ar (b9 (zcF OT hr (aa (af 0) (aa (af 1) (aa (af 2) (aa (af 3) ai))))))
   (au (aC (eT ["room", "weights", "tree", "placed"] (aw iU).names ["number", "placed"] [none,some 3] rfl (gr rfl T.x_ (aa (aB (dD (K:=K) rfl) cz rfl T.k_ bY (aa (af 1) ai)) ai)) (λ_ _ _ _ _=>(zgN 0 (show List.Nodup (["number", "placed"]:List Str) from by decide))) (λ_ _ _ _ _=>(Cg (tj hr) (af 1) (af 0) (λ_ _=>rfl)))))))))))
def oq:PSt:=
 (az (dC (ax bz (ag (ah 0) ao)))
  (az (lR (ah 0) (gtX (gtT 4 (bB (gtN 1) (bB (gtN 2) (bB (gtN 3) (bB (gtN 4) eX)))))))
  (aO (cJ (ag (ah 2) (ag (ah 1) (ag (ah 4) (ag (ah 3) ao))))))))
def eE:PFn:=fnP [false] 5 oq
def Bl:eE.ms=[false]:=rfl
def zc(T:Txt K mg a_ g_ h_ b_ c_ f_ d_)(D:Def K mg "turned" og)(n_:Callee P w K mg base "check_box" 4 ["thing"] (spD K mg 1 bz.F)):Callee P w K mg base "turned" (4+1) ["box"] (spD K mg 1 eE.F):=by
 unfold eE oq
 exact okP D ir (λ_ _ _ _ _ _=>ar1 λ_=>rfl) λf cdv A outer s H E hr=>
  (ar (b9 (zcF n_ hr (aa (af 0) ai)))
   (ar (kB (af 0) (ZG.weak (gK rfl rfl (aZ (zgN 1 ir.nd) (aZ (zgN 2 ir.nd) (aZ (zgN 3 ir.nd) (aZ (zgN 4 ir.nd) ft)))))))
   (au (aC (bK (aa (af 2) (aa (af 1) (aa (af 4) (aa (af 3) ai)))))))))
def eB(s:PFx [false,false]):PSt:=
 (az (aQ false 4 (ax s.fn (ag (ah 3) (ag (ah 1) ao))))
  (xIf (qOf (pOp yc (ah 4) oE)) (aO (pOp aY (dg (ag (ah 2) ao)) (ah 4))) xNx))
def eY(s:PFx [false,false]):PSt:=
 (az (xIf (qNo (qOf (pFn (bc kits) (ag (ah 0) (ag (pTy "tuple") ao))))) (aO (pIf (qAn (qOf (pOp bEq (ah 0) (ah 1))) (qNo (qOf (pFn (bc kits) (ag (ah 1) (ag (pTy "bool") ao)))))) (dg ao) oE)) xNx)
  (az (jC (ye (ag (pOp bIx (ah 0) (aq 1)) ao)) (gtX (gtT 2 (bB (gtN 2) (bB (gtN 3) eX)))) (eB s))
  (aO oE)))
def bE:Nat->PFx [false,false]
 |0=>PFx.none [false,false]
 |n+1=>PFx.of [false,false] 5 (eY (bE n))
def v9{n:Nat}(T:Txt K mg a_ g_ h_ b_ c_ f_ d_)(D:Def K mg "path_to" jU)(G_:Callee P w K mg base "path_to" (2+n) ["tree", "thing"] (spD K mg 2 (bE n).F)):Callee P w K mg base "path_to" (2+n+1) ["tree", "thing"] (spD K mg 2 (bE (n+1)).F):=by
 show Callee P w K mg base _ _ _ (spD K mg _ (PFx.of [false,false] 5 (eY (bE n))).F)
 unfold eY eB
 exact okX D gL (λ_ _ _ _ _ _=>ar2 λ_ _=>rfl) λf cdv A outer s H E hr=>
  (ar (aP (cx (bT (aB (eK (K:=K) rfl) (dB T.kits) rfl T.i_ aS (aa (af 0) (aa (eL rfl T.j_ b0) ai))))) (au (aC (yU (ZW.dt (A8 (aK (dS (K:=K) rfl hr.u180) cG (af 0) (af 1) (aE _)) (wF (cx (bT (aB (eK (K:=K) rfl) (dB T.kits) rfl T.i_ aS (aa (af 1) (aa (eL rfl T.OG xy) ai)))))))) (bW ai) mh))) aF)
   (ar (gF gf rfl (GN rfl rfl T.D_ (aa (aH (ixK (K:=K) rfl) aJ (af 0) ak (λ_ _=>rfl)) ai)) (ZG.weak (gK rfl rfl (aZ (zgN 2 gL.nd) (aZ (zgN 3 gL.nd) ft)))) (ar (zsS 4 gL.nd (zcF G_ hr (aa (af 3) (aa (af 1) ai))))
   (au (aP (aK EW JZ (af 4) mh (aE _)) (au (aC (aA (aV (K:=K) rfl) aU (bW (aa (af 2) ai)) (af 4)))) aF))))
   (au (aC mh))))
theorem mQ(T:Txt K mg a_ g_ h_ b_ c_ f_ d_)(D:Def K mg "path_to" jU)  : ∀n,Callee P w K mg base "path_to" (2+n) ["tree", "thing"] (spD K mg 2 (bE n).F)
 |0=>ok0 D gL (λ_ _ _ _ _ _=>ar2 λ_ _=>rfl)
 |n+1=>v9 T D (mQ T D n)
def eQ:PSt:=
 (az (aQ false 0 (pOp bIx (pOp bIx (ah 0) (aq 1)) (pOp bIx (ah 3) (aq 0))))
  (gh 3 4 (ag (pSl (ah 3) (oS (aq 1)) oN) (ag (pSl (ah 4) (oS (aq 1)) oN) ao))))
def kT:PSt:=
 (az (gh 3 4 (ag (ax (bE 42).fn (ag (ah 0) (ag (ah 1) ao))) (ag (ax (bE 42).fn (ag (ah 0) (ag (ah 2) ao))) ao)))
  (az (xIf (qO (qOf (pOp bIs (ah 3) oE)) (qO (qOf (pOp bIs (ah 4) oE)) (qOf (pOp bEq (ah 3) (ah 4))))) (fU "Unknown" (ag (bH "these are no two things of the tree") ao)) xNx)
  (az (xWh (qOf (pOp bEq (pOp bIx (ah 3) (aq 0)) (pOp bIx (ah 4) (aq 0)))) (eQ))
  (az (aQ false 5 (pOp bLt (pOp bIx (ah 3) (aq 0)) (pOp bIx (ah 4) (aq 0))))
  (az (xIf (qOf (pOp bEq (pOp bIx (ah 0) (aq 0)) (bH "across"))) (aO (pIf (qTr (ah 5)) (bH "left") (bH "right"))) xNx)
  (aO (pIf (qTr (ah 5)) (bH "above") (bH "below"))))))))
def dM:PFn:=fnP [false,false,false] 6 kT
def v7:dM.ms=[false,false,false]:=rfl
def ur(T:Txt K mg a_ g_ h_ b_ c_ f_ d_)(D:Def K mg "relation" lV)(G_:Callee P w K mg base "path_to" 44 ["tree", "thing"] (spD K mg 2 (bE 42).F)):Callee P w K mg base "relation" (44+1) ["tree", "one", "other"] (spD K mg 3 dM.F):=by
 unfold dM kT eQ
 exact okP D fR (λ_ _ _ _ _ _=>ar3 λ_ _ _=>rfl) λf cdv A outer s H E hr=>
  (ar (dY (i:=3) (j:=4) rfl fR.nd rfl rfl (by decide) rfl rfl (aa (zcF G_ hr (aa (af 0) (aa (af 1) ai))) (aa (zcF G_ hr (aa (af 0) (aa (af 2) ai))) ai)) rfl)
   (ar (aP (ZW.dt (gG (aK Bm EM (af 3) mh (aE _)) (gG (aK Bm EM (af 4) mh (aE _)) (iu (aK (dS (K:=K) rfl hr.u180) cG (af 3) (af 4) (aE _)))))) (au (fi rfl rz1 rfl T.I_ T.K_ (aa aX ai))) aF)
   (ar (js gf (aK (dS (K:=K) rfl hr.u180) cG (aH (ixK (K:=K) rfl) aJ (af 3) ak (λ_ _=>rfl)) (aH (ixK (K:=K) rfl) aJ (af 4) ak (λ_ _=>rfl)) (aE _)) (ar (zsS 0 fR.nd (aH (ixK (K:=K) rfl) aJ (aH (ixK (K:=K) rfl) aJ (af 0) ak (λ_ _=>rfl)) (aH (ixK (K:=K) rfl) aJ (af 3) ak (λ_ _=>rfl)) (λ_ _=>rfl)))
   (au (dY (i:=3) (j:=4) rfl fR.nd rfl rfl (by decide) rfl rfl (aa (jx rfl (af 3) (kx ak) kH) (aa (jx rfl (af 4) (kx ak) kH) ai)) rfl))))
   (ar (zsS 5 fR.nd (fM pE oT (aH (ixK (K:=K) rfl) aJ (af 3) ak (λ_ _=>rfl)) (aH (ixK (K:=K) rfl) aJ (af 4) ak (λ_ _=>rfl)) (aE _)))
   (ar (aP (aK (dS (K:=K) rfl hr.u180) cG (aH (ixK (K:=K) rfl) aJ (af 0) ak (λ_ _=>rfl)) aX (aE _)) (au (aC (yU (kP rfl (af 5)) aX aX))) aF)
   (au (aC (yU (kP rfl (af 5)) aX aX))))))))
def my:PSt:=
 (xIf (qOf (pOp bNe (ax (a0 42).fn (ag (ax (bG 42).fn (ag (ah 6) (ag (ah 9) ao))) ao)) (ax (bG 42).fn (ag (ah 7) (ag (ah 9) ao))))) (aO (pBl false)) xNx)
def mO:PSt:=
 (az (aQ false 7 (ax (a0 42).fn (ag (ah 6) ao)))
  (az (xIf (qO (qOf (pOp bNe (ah 7) (ax (bM 42).fn (ag (ah 6) ao)))) (qOf (pOp bNe (ax (a0 42).fn (ag (ah 7) ao)) (ah 6)))) (aO (pBl false)) xNx)
  (az (aQ false 8 (pOp aY (dg (ag (bH "down") (ag (bH "across") ao))) (pLC (jL (ag (pFn cL (ag (ah 3) ao)) ao)) [none] (by decide) (gtN 0) qY (pOp nG (pOp rD (bH "abcdefghijklmnopqrstuvwxyz") (pOp cB (ah 0) (aq 26))) (pOp aY (aq 1) (pOp g0 (ah 0) (aq 26)))))))
  (az (jC (bZ (dg (ag (ah 8) (ag (pLC (jL (ag (pFn cL (ag (ah 3) ao)) ao)) [none] (by decide) (gtN 0) qY (pOp aY (pOp dF (ah 0) (pOp fL (aq 10) (aq 28))) (aq 1))) ao)))) (gtN 9) (my))
  (az (xIf (qOf (pOp bNe (ax dJ (ag (ax eE (ag (ah 2) ao)) (ag (ah 3) (ag (ah 7) ao)))) (pLC (bZ (ax dJ (ag (ah 2) (ag (ah 3) (ag (ah 6) ao))))) [none] (by decide) (gtN 0) qY (ax eE (ag (ah 0) ao))))) (aO (pBl false)) xNx)
  (xIf (qOf (pOp bGt (pFn cL (ag (ah 3) ao)) (aq 1))) (az (gh 10 11 (ag (pOp bIx (ah 4) (aq 0)) (ag (pOp bIx (ah 4) (pOp aY (aq 1) (ax ay (ag (ah 1) (ag (pOp gB (pFn cL (ag (ah 4) ao)) (aq 1)) ao))))) ao)))
  (xIf (qOf (pOp bNe (ax dM (ag (ah 7) (ag (ah 10) (ag (ah 11) ao)))) (pOp yi (ah 5) (ax dM (ag (ah 6) (ag (ah 10) (ag (ah 11) ao))))))) (aO (pBl false)) xNx)) xNx))))))
def sT:PSt:=
 (az (aQ true 1 (ax cD (ag (ah 0) (ag (aq 55) ao))))
  (az (aQ false 2 (ax eJ (ag (ah 1) ao)))
  (az (aQ false 3 (ax cR (ag (ah 0) (ag (aq 0) (ag (pOp bIx (dg (ag (aq 9) (ag (aq 40) ao))) (pFn xW (ag (pOp bEq (ax ay (ag (ah 1) (ag (aq 6) ao))) (aq 0)) ao))) ao)))))
  (az (aQ false 4 (ax dR (ag (ah 1) (ag (pFn cL (ag (ah 3) ao)) ao))))
  (az (aQ false 5 (sV ["left", "above", "right", "below"] (ag (bH "above") (ag (bH "left") (ag (bH "below") (ag (bH "right") ao))))))
  (az (jC (bZ (dg (ag (ax (bI 42).fn (ag (ah 1) (ag (ah 4) ao))) (ag (ax dP (ag (ah 1) (ag (ah 4) ao))) ao)))) (gtN 6) (mO))
  (aO (pBl true))))))))
def p6:PFn:=fnP [false] 12 sT
def Fd(T:Txt K mg a_ g_ h_ b_ c_ f_ d_)(D:Def K mg "law" lC)(A_:Callee P w K mg base "_law_feed" 1 ["_law_script", "_law_k"] (spD K mg 2 cD.F))(O1:Callee P w K mg base "_law_room" 3 ["_law_feed_here"] (spD K mg 1 eJ.F))(Ox:Callee P w K mg base "_law_weights" 3 ["_law_script", "_law_at", "_law_most"] (spD K mg 3 cR.F))(e_:Callee P w K mg base "_law_next" 1 ["_law_feed_here", "_law_many"] (spD K mg 2 ay.F))(OR:Callee P w K mg base "_law_order" 2 ["_law_feed_here", "_law_many"] (spD K mg 2 dR.F))(L_:Callee P w K mg base "_law_tree" 45 ["_law_feed_here", "_law_numbers"] (spD K mg 2 (bI 42).F))(OQ:Callee P w K mg base "_law_chain" 2 ["_law_feed_here", "_law_numbers"] (spD K mg 2 dP.F))(s_:Callee P w K mg base "turned_tree" 45 ["tree"] (spD K mg 1 (a0 42).F))(F_:Callee P w K mg base "_law_other" 44 ["_law_tree_here"] (spD K mg 1 (bM 42).F))(B_:Callee P w K mg base "_law_named" 44 ["_law_tree_here", "_law_names"] (spD K mg 2 (bG 42).F))(Oy:Callee P w K mg base "boxes_by" 51 ["room", "weights", "tree"] (spD K mg 3 dJ.F))(O3:Callee P w K mg base "turned" 5 ["box"] (spD K mg 1 eE.F))(Oz:Callee P w K mg base "relation" 45 ["tree", "one", "other"] (spD K mg 3 dM.F)):Callee P w K mg base "law" (51+1) ["_law_script"] (spD K mg 1 p6.F):=by
 unfold p6 sT mO my
 exact okP D fh (λ_ _ _ _ _ _=>ar1 λ_=>rfl) λf cdv A outer s H E hr=>
  (ar (zsS 1 fh.nd (zcF A_ hr (aa (af 0) (aa ak ai))))
   (ar (zsS 2 fh.nd (zcF O1 hr (aa (af 1) ai)))
   (ar (zsS 3 fh.nd (zcF Ox hr (aa (af 0) (aa ak (aa (aH (ixK (K:=K) rfl) aJ (bW (aa ak (aa ak ai))) (iF zR KZ rfl T.O5 zQ (aa (fM (dS (K:=K) rfl hr.u180) cG (zcF e_ hr (aa (af 1) (aa ak ai))) ak (aE _)) ai)) (λ_ _=>rfl)) ai)))))
   (ar (zsS 4 fh.nd (zcF OR hr (aa (af 1) (aa (aB (dD (K:=K) rfl) cz rfl T.k_ bY (aa (af 3) ai)) ai))))
   (ar (zsS 5 fh.nd (xB (gP aX (gP aX (gP aX (gP aX wJ))))))
   (ar (gF gf rfl (cK rfl (bW (aa (zcF L_ hr (aa (af 1) (aa (af 4) ai))) (aa (zcF OQ hr (aa (af 1) (aa (af 4) ai))) ai)))) (zgN 6 fh.nd) (ar (zsS 7 fh.nd (zcF s_ hr (aa (af 6) ai)))
   (ar (aP (ZW.dt (gG (aK (lU (K:=K) rfl hr.u180) iY (af 7) (zcF F_ hr (aa (af 6) ai)) (aE _)) (iu (aK (lU (K:=K) rfl hr.u180) iY (zcF s_ hr (aa (af 7) ai)) (af 6) (aE _))))) (au (aC gE)) aF)
   (ar (zsS 8 fh.nd (aA (aV (K:=K) rfl) aU (bW (aa aX (aa aX ai))) (eT ["_law_script", "_law_feed_here", "_law_room_here", "_law_weights_here", "_law_order_here", "_law_exchanged", "_law_tree_here", "_law_other_here", "_law_names", "_law_some", "_law_i", "_law_j"] (aw lC).names ["_law_j"] [none] rfl (gr rfl T.x_ (aa (aB (dD (K:=K) rfl) cz rfl T.k_ bY (aa (af 3) ai)) ai)) (λ_ _ _ _ _=>(zgN 0 (show List.Nodup (["_law_j"]:List Str) from by decide))) (λ_ _ _ _ _=>(aA GY FF (aH Lm Hy aX (aA df eA (af 0) ak) (λ_ _=>rfl)) (aA (aV (K:=K) rfl) aU ak (aA gi jF (af 0) ak)))))))
   (ar (gF gf rfl (cK rfl (bW (aa (af 8) (aa (eT ["_law_script", "_law_feed_here", "_law_room_here", "_law_weights_here", "_law_order_here", "_law_exchanged", "_law_tree_here", "_law_other_here", "_law_names", "_law_some", "_law_i", "_law_j"] (aw lC).names ["_law_j"] [none] rfl (gr rfl T.x_ (aa (aB (dD (K:=K) rfl) cz rfl T.k_ bY (aa (af 3) ai)) ai)) (λ_ _ _ _ _=>(zgN 0 (show List.Nodup (["_law_j"]:List Str) from by decide))) (λ_ _ _ _ _=>(aA (aV (K:=K) rfl) aU (aA eg ek (af 0) (aA jl jn ak ak)) ak))) ai)))) (zgN 9 fh.nd) (au (aP (aK (lU (K:=K) rfl hr.u180) iY (zcF s_ hr (aa (zcF B_ hr (aa (af 6) (aa (af 9) ai))) ai)) (zcF B_ hr (aa (af 7) (aa (af 9) ai))) (aE _)) (au (aC gE)) aF)))
   (ar (aP (aK (lU (K:=K) rfl hr.u180) iY (zcF Oy hr (aa (zcF O3 hr (aa (af 2) ai)) (aa (af 3) (aa (af 7) ai)))) (eT ["_law_script", "_law_feed_here", "_law_room_here", "_law_weights_here", "_law_order_here", "_law_exchanged", "_law_tree_here", "_law_other_here", "_law_names", "_law_some", "_law_i", "_law_j"] (aw lC).names ["_law_box"] [none] rfl (cK rfl (zcF Oy hr (aa (af 2) (aa (af 3) (aa (af 6) ai))))) (λ_ _ _ _ _=>(zgN 0 (show List.Nodup (["_law_box"]:List Str) from by decide))) (λ_ _ _ _ _=>(eD O3 (hr.mono (by omega)) rfl ff (aa (af 0) ai)))) (aE _)) (au (aC gE)) aF)
   (au (aP (aK m5 nr (aB (dD (K:=K) rfl) cz rfl T.k_ bY (aa (af 3) ai)) ak (aE _)) (ar (dY (i:=10) (j:=11) rfl fh.nd rfl rfl (by decide) rfl rfl (aa (aH (ixK (K:=K) rfl) aJ (af 4) ak (λ_ _=>rfl)) (aa (aH (ixK (K:=K) rfl) aJ (af 4) (aA (aV (K:=K) rfl) aU ak (zcF e_ hr (aa (af 1) (aa (aA eP eN (aB (dD (K:=K) rfl) cz rfl T.k_ bY (aa (af 4) ai)) ak) ai)))) (λ_ _=>rfl)) ai)) rfl)
   (au (aP (aK (lU (K:=K) rfl hr.u180) iY (zcF Oz hr (aa (af 7) (aa (af 10) (aa (af 11) ai)))) (xD (tj hr) (af 5) (zcF Oz hr (aa (af 6) (aa (af 10) (aa (af 11) ai)))) (λ_ _=>rfl)) (aE _)) (au (aC gE)) aF))) aF))))))))
   (au (aC gE))))))))
end
def fdV(a b k:Int):Val:=.lst [.int a,.int b,.int k]
def EF:fL.G (.int 10) (.int 18)=.val (.int (10^18)):=pC ⟨by decide,by decide,by decide⟩
noncomputable def fc{a m:Int}(h:0<m):0<=a.fmod m/\a.fmod m<m:=⟨Int.fmod_nonneg_of_pos a h,Int.fmod_lt_of_pos a h⟩
set_option hygiene false in
local macro_rules | `(tactic|simp![$args,*])=>`(tactic|simp only[lY,NO,MY,Nb,IV,sY,Ms,Cm,yu,KS,Hr,JI,JS,Kb,Ju,Lv,Il,GQ,BO,Hk,z8,Fp,J3,N4,MC,v_bl,Mz,Nh,v_ty,v_un,v_op,Nc,HK,v_fn,NM,NF,MR,Nd,v_if,c_of,c_tr,c_an,c_o,c_no,x_nx,Ku,M4,FK,E7,FE,KO,EI,x_if,Lz,NT,M0,F2,Cy,BL,g_n,g_sn,g_sc,g_t,g_x,Ir,M5,Ou,Mj,F4,LN,N8,NP,Nu,Og,KW,JX,NQ,Kp,DL,L5,NL,LO,La,Jy,Ih,Jb,Oh,Ma,qK,v_lc,Iy,KU,IG,o_n,o_s,v_sl,v_d0,Of,fx_G,Mi,Mr,k_lt,k_gt,k_ge,M8,MP,k_ix,HM,Hn,NB,k_eq,k_ne,EC,LK,Np,Nl,LH,ML,M6,Fh,Hq,DU,rS,List.getElem?_cons_zero,List.getElem?_cons_succ,List.set_cons_zero,List.set_cons_succ,List.length_cons,List.length_nil,Option.bind_some,Option.map_some,Option.isSome_some,if_true,if_false,Bool.not_true,Bool.not_false,Bool.and_true,Bool.true_and,Bool.and_false,Bool.false_and,Bool.or_true,Bool.true_or,Bool.or_false,Bool.false_or,Nat.reduceLeDiff,Nat.reduceLT,Nat.reduceAdd,Nat.reduceSub,Nat.zero_add,Nat.add_zero,Nat.sub_self,List.cons_append,List.nil_append,List.append_nil,List.replicate,reduceCtorEq,decide_true,decide_false,Bool.false_eq_true,List.all_cons,List.all_nil,List.isEmpty_nil,List.map_cons,List.map_nil,Int.reduceBEq,Int.reduceLT,Int.reduceAdd,Int.reduceSub,Int.reduceMul,Int.cast_ofNat_Int,IA,FV,Lf,JA,FQ,CK,HJ,zO,Fe,J7,E1,zE,F6,Iv,C0,Iq,ET,Kc,CD,JW,Ic,Fu,LS,Ng,L6,Mc,Ah,zI,Bb,oZ,nK,Bs,CM,Ai,zN,ati0,ati1,ati2,ati3,ixn0,ixn1,N5,cA,K2,Fj,KG,Nk,vW,vT,xI,uU,vS,rq,u5,u6,uk,v8,nI,qG,Be,uL,vh,oJ,Bg,tU,yz,sJ,vQ,wg,DB,BJ,zT,As,tW,wa,v3,Bl,v7,oO,Fw,$args,*])
def aM{a b k m:Int}(h0:0<m)(hm:Sm 8000 m):∃r a' b',ay.G [fdV a b k,.int m]=.ok (.val (.int r)) [fdV a' b' k]/\0<=r/\r<m:=by
 unfold ay
 rw[bL]
 unfold lu fdV
 have m0:m≠0:=by omega
 have d1:=λi=>fW (i:=i) m0
 have d2:=λi=>k8 (i:=i) (CDivB.of m0 hm)
 have ca:∀x:Int,CMulA 7919 x:=λx=>CMulA.left (by decide) (by decide)
 have cb:∀x:Int,CMulA 104729 x:=λx=>CMulA.left (by decide) (by decide)
 have cc:∀x:Int,CMulA x 48271:=λx=>CMulA.right (by decide) (by decide)
 have e1:cB.G (.int a) (.int 1000003)=.val (.int (a.fmod 1000003)):=fW (by decide)
 have e2:dF.G (.int 7919) (.int k)=.val (.int (7919*k)):=fD (ca k)
 have e3:=λx=>fD (cb x)
 have e4:=λx=>fD (cc x)
 have e5:∀x:Int,cB.G (.int x) (.int 2147483647)=.val (.int (x.fmod 2147483647)):=λx=>fW (by decide)
 have e6:∀x:Int,cB.G (.int x) (.int 65521)=.val (.int (x.fmod 65521)):=λx=>fW (by decide)
 have e7:∀x y:Int,dF.G (.int (x.fmod 2147483647)) (.int y)=.val (.int (x.fmod 2147483647*y)):=λx y=>fD (CMulA.left (by have:=(fc (a:=x) (m:=2147483647) (by decide)).1;omega) (by have:=(fc (a:=x) (m:=2147483647) (by decide)).2;omega))
 have e8:∀x:Int,cB.G (.int x) (.int 2147483629)=.val (.int (x.fmod 2147483629)):=λx=>fW (by decide)
 by_cases hc:(10^18:Int)<=a
 ·have hc':decide ((10^18:Int)<=a)=true:=QQ hc
  refine⟨a.fmod m,a.fdiv m,b+1,?_,fc h0⟩
  simp![EF,hc',d1,d2]
  done
 ·have hc':decide ((10^18:Int)<=a)=false:=QG hc
  refine⟨Int.fmod (Int.fmod (Int.fmod ((Int.fmod a 1000003+7919*k+104729*(b+1))*48271) 2147483647*(Int.fmod (Int.fmod ((Int.fmod a 1000003+7919*k+104729*(b+1))*48271) 2147483647) 65521+(b+1))) 2147483629) m,a,b+1,?_,fc h0⟩
  simp![EF,hc',d1,e1,e2,e3,e4,e5,e6,e7,e8]
def Cw{a b k:Int}{m:Nat}(hm:m<=1000):∃(o:List Nat) (a' b':Int),(∀i,i∈o ↔ i<m)/\o.length=m/\dR.G [fdV a b k,.int (m:Nat)]=.ok (.new (itV o)) [fdV a' b' k]:=by
 have rg:jG [.int (m:Nat)]=some (rgV m):=qE (i:=(m:Nat)) (by omega) (by omega)
 obtain⟨e',⟨a',b',o,s3,h1,h2,_,rfl⟩,lo⟩:=DJ (g:=(gtN 3).G) (B:=gy.G) (λi e=>∃(a b:Int) (o:List Nat) (s3:Sl),o.length=i/\(∀j,j∈o ↔ j<i)/\s3.pl=true/\e=[.mu (fdV a b k),.sh (.int (m:Nat)),.ow (itV o),s3]) m (e:=[.mu (fdV a b k),.sh (.int (m:Nat)),.ow (itV []),.no]) ⟨a,b,[],.no,rfl,by simp,rfl,rfl⟩ (by
  rintro i hi _ ⟨a,b,o,s3,h1,h2,h3,rfl⟩
  obtain⟨r,a1,b1,e1,r0,r1⟩:=aM (a:=a) (b:=b) (k:=k) (m:=(o.length:Nat)+1) (by omega) (sm8 (by omega))
  refine⟨[.mu (fdV a b k),.sh (.int (m:Nat)),.ow (itV o),.sh (.int (i:Nat))],[.mu (fdV a1 b1 k),.sh (.int (m:Nat)),.ow (itV (o.take r.toNat++i::o.drop r.toNat)),.sh (.int (i:Nat))],?_,.inl ?_,a1,b1,_,_,?_,?_,rfl,rfl⟩
  ·simp![h3]
  ·have ln:(o.map λk:Nat=>Val.int k).length=o.length:=Qp ..
   have ins:(0<=r/\r<=(o.length:Nat)/\o.length<16777216):=⟨r0,by omega,by omega⟩
   unfold gy itV
   generalize hf:fdV a b k=f0 at *
   generalize hf1:fdV a1 b1 k=f1 at *
   simp![ln,e1,B4,ins,true_and,and_true,and_self]
   simp [List.map_take,List.map_drop]
  ·simp only[Qw,QB,RD,SD]
   omega
  ·intro j
   rw[Rh,QD]
   have:j∈o ↔ j∈o.take r.toNat\/j∈o.drop r.toNat:=by rw[<- Rh,Sv]
   rw[show (j<i+1 ↔ j<i\/j=i) from by omega,<- h2 j,this]
   constructor
   ·rintro (h |h |h)
    ·exact .inl (.inl h)
    ·exact .inr h
    ·exact .inl (.inr h)
   ·rintro ((h |h) |h)
    ·exact .inl h
    ·exact .inr (.inr h)
    ·exact .inr (.inl h))
 refine⟨o,a',b',h2,h1,?_⟩
 unfold dR
 rw[bL]
 unfold j8
 unfold itV at lo ⊢
 generalize fdV a b k=f0 at *
 generalize fdV a' b' k=f1 at *
 rw[QZ] at lo
 simp![rg,lo]
def xg{a b k:Int}:∃(w:Bool) (r a' b':Int),ay.G [fdV a b k,.int 2]=.ok (.val (.int r)) [fdV a' b' k]/\atI [Val.str "across",Val.str "down"] r=some (Val.str (wy w)):=by
 obtain⟨r,a1,b1,e1,r0,r1⟩:=aM (a:=a) (b:=b) (k:=k) (m:=2) (by decide) (sm8 (by decide))
 obtain rfl |rfl:r=0\/r=1:=by omega
 ·exact⟨true,0,a1,b1,e1,eU (by decide) rfl⟩
 ·exact⟨false,1,a1,b1,e1,eU (by decide) rfl⟩
theorem ph{k:Int}(nv:Val):∀(d4:List Nat) (t:AT) (l:List Nat) (a b:Int) (s3:Sl),s3.pl=true->TOk t l->∃(t':AT) (a' b':Int) (s3':Sl),TOk t' (d4.reverse++l)/\fg (gtN 3).G d9.G (d4.map λi:Nat=>.int i) [.mu (fdV a b k),.sh nv,.sh (t.val λk=>.int (k:Nat)),s3]=.nx [.mu (fdV a' b' k),.sh nv,.sh (t'.val λk=>.int (k:Nat)),s3']
 | [],t,l,a,b,s3,_,h=>⟨t,a,b,s3,h,rfl⟩
 |
  x::d4,t,l,a,b,s3,h3,h=>by
  obtain⟨w,r,a1,b1,e1,w1⟩:=xg (a:=a) (b:=b) (k:=k)
  obtain⟨r2,a2,b2,e2,r0,r1⟩:=aM (a:=a1) (b:=b1) (k:=k) (m:=2) (by decide) (sm8 (by decide))
  have key:∃t1,TOk t1 (x::l)/\d9.G [.mu (fdV a b k),.sh nv,.sh (t.val λk=>.int (k:Nat)),.sh (.int (x:Nat))]=.nx [.mu (fdV a2 b2 k),.sh nv,.sh (t1.val λk=>.int (k:Nat)),.sh (.int (x:Nat))]:=by
   have hd:=h.dep
   have hp:=AT.dep_pos t
   obtain rfl |rfl:r2=0\/r2=1:=by omega
   ·refine⟨.nd w [.lf x,t],⟨by simp [AT.ok,AT.okL,h.ok],λk=>by simp [AT.lvs,AT.lvsL,h.mem],by simp [AT.dep,AT.depL] <;> omega,by simp [AT.lvs,AT.lvsL,h.len] <;> omega⟩,?_⟩
    unfold d9
    rw[AT.val,AT.vals,AT.vals,AT.vals,AT.val]
    generalize AT.val (λk=>Val.int (k:Nat)) t=tv at *
    generalize fdV a b k=f0 at *
    generalize fdV a1 b1 k=f1 at *
    generalize fdV a2 b2 k=f2 at *
    simp![e1,w1,e2]
   ·refine⟨.nd w [t,.lf x],⟨by simp [AT.ok,AT.okL,h.ok],λk=>by simp [AT.lvs,AT.lvsL,h.mem,or_comm],by simp [AT.dep,AT.depL] <;> omega,by simp [AT.lvs,AT.lvsL,h.len]⟩,?_⟩
    unfold d9
    rw[AT.val,AT.vals,AT.vals,AT.vals,AT.val]
    generalize AT.val (λk=>Val.int (k:Nat)) t=tv at *
    generalize fdV a b k=f0 at *
    generalize fdV a1 b1 k=f1 at *
    generalize fdV a2 b2 k=f2 at *
    simp![e1,w1,e2]
  obtain⟨t1,h1,bb⟩:=key
  obtain⟨t',a',b',s3',h',q⟩:=ph (k:=k) nv d4 t1 (x::l) a2 b2 (.sh (.int (x:Nat))) rfl h1
  refine⟨t',a',b',s3',by rw[List.reverse_cons,Rq];exact h',?_⟩
  rw[Qv,fb]
  have g1:(gtN 3).G (.int (x:Nat)) [.mu (fdV a b k),.sh nv,.sh (t.val λk=>.int (k:Nat)),s3]=some [.mu (fdV a b k),.sh nv,.sh (t.val λk=>.int (k:Nat)),.sh (.int (x:Nat))]:=by
   generalize AT.val (λk=>Val.int (k:Nat)) t=tv at *
   simp![h3]
  rw[g1]
  dsimp only
  rw[bb]
  exact q
def DD{a b k:Int}{l:List Nat}(hl:l≠[]):∃(t:AT) (a' b':Int),TOk t l/\dP.G [fdV a b k,itV l]=.ok (.val (t.val λk=>.int (k:Nat))) [fdV a' b' k]:=by
 cases l with
 |nil=>exact absurd rfl hl
 |
  cons x d4=>
  obtain⟨t,a',b',s3,h,q⟩:=ph (k:=k) (itV (x::d4)) d4 (.lf x) [x] a b .no rfl ⟨rfl,λk=>by simp [AT.lvs],Qu _,rfl⟩
  refine⟨t,a',b',⟨h.ok,λk=>by rw[h.mem];simp [or_comm],by have:=h.dep;simpa using this,by have:=h.len;simpa using this⟩,?_⟩
  unfold dP
  rw[bL]
  unfold kj
  rw[AT.val] at q
  unfold itV at q ⊢
  generalize AT.val (λk=>Val.int (k:Nat)) t=tv at *
  generalize fdV a b k=f0 at *
  generalize fdV a' b' k=f1 at *
  rw[Qv] at q ⊢
  simp![pL,Ex,fC,q]
theorem wo{k:Int}(nv:Val)(m:Nat)(hm:1<=m/\m<=1000):∀(vs:List Nat) (xss:List (List Nat)) (a b:Int) (s4:Sl),s4.pl=true->xss.length=m->(∀l∈xss,l≠[])->xss.flatten.length+vs.length<=1000->∃(yss:List (List Nat)) (a' b':Int) (s4':Sl),Lots yss xss vs/\gH 3 4 (ax ay (ag (ah 0) (ag (ah 2) ao))).G (vs.map λi:Nat=>.int i) (xss.map λl=>l.map λi:Nat=>.int i) [.mu (fdV a b k),.sh nv,.sh (.int (m:Nat)),.no,s4]=.nx [.mu (fdV a' b' k),.sh nv,.sh (.int (m:Nat)),.sh (.lst (B1 yss)),s4']
 |
  [],xss,a,b,s4,_,_,ne,_=>⟨xss,a,b,s4,⟨rfl,ne,λk=>by simp,rfl⟩,by
  unfold gH
  show SR3.nx _=_
  rw[Rg]
  rfl⟩
 |
  v::vs,xss,a,b,s4,h4,hl,ne,ht=>by
  rw[QB] at ht
  obtain⟨r,a1,b1,e1,r0,r1⟩:=aM (a:=a) (b:=b) (k:=k) (m:=(m:Nat)) (by omega) (sm8 (by omega))
  have hi:r.toNat<xss.length:=by omega
  have hx:=QF hi
  generalize xss[r.toNat]=xs at hx
  have L1:=Cf (u:=v) hx ne
  have hxl:xs.length<=1000:=by
   have:=Tj (Sx (Q7 hx))
   omega
  obtain⟨yss,a',b',s4',L2,q⟩:=wo (k:=k) nv m hm vs (xss.set r.toNat (xs++[v])) a1 b1 (.sh (.int (v:Nat))) rfl (by rw[QH];exact hl) L1.ne (by have:=L1.tot;simp only[QB,QP] at this;omega)
  refine⟨yss,a',b',s4',⟨L2.len.trans L1.len,L2.ne,λk=>by rw[L2.mem,L1.mem];simp [or_assoc],by have t1:=L2.tot;have t2:=L1.tot;simp only[QB,QP] at t2 ⊢;omega⟩,?_⟩
  have g1:pN 4 (.int (v:Nat)) [.mu (fdV a b k),.sh nv,.sh (.int (m:Nat)),.no,s4]=some [.mu (fdV a b k),.sh nv,.sh (.int (m:Nat)),.no,.sh (.int (v:Nat))]:=by
   unfold pN
   show (if s4.pl=true then _ else _)=_
   rw[if_pos h4]
   rfl
  have q1:(ax ay (ag (ah 0) (ag (ah 2) ao))).G [.mu (fdV a b k),.sh nv,.sh (.int (m:Nat)),.no,.sh (.int (v:Nat))]=.ok (.val (.int r)) [.mu (fdV a1 b1 k),.sh nv,.sh (.int (m:Nat)),.no,.sh (.int (v:Nat))]:=by
   generalize fdV a b k=f0 at *
   generalize fdV a1 b1 k=f1 at *
   simp![e1]
  have hx':(xss.map λl=>l.map λi:Nat=>Val.int i)[r.toNat]?=some (xs.map λi:Nat=>Val.int i):=by rw[QM,hx];rfl
  have sx:(xss.map λl=>l.map λi:Nat=>Val.int i).set r.toNat ((xs.map λi:Nat=>Val.int i)++[.int (v:Nat)])=(xss.set r.toNat (xs++[v])).map λl=>l.map λi:Nat=>Val.int i:=by rw[List.map_set,Q2];rfl
  rw[Qv]
  unfold gH
  rw[g1]
  dsimp only
  rw[q1]
  dsimp only [rs]
  show (match (xss.map λl=>l.map λi:Nat=>Val.int i)[r.toNat]? with |some xs=>(if 0<=r/\xs.length<16777216 then gH 3 4 _ _ _ _ else .stuck) |none=>.stuck)=_
  rw[hx']
  dsimp only
  rw[if_pos ⟨r0,by rw[Qp];omega⟩,sx]
  exact q
theorem rH{k:Int}{m n:Nat}(ih:∀(l:List Nat) (a b:Int),l≠[]->l.length<=n->∃(t:AT) (a' b':Int),TOk t l/\(bI m).G [fdV a b k,itV l]=.ok (.val (atV t)) [fdV a' b' k]):
 ∀(ls:List (List Nat)) (acc:List Val) (a b:Int) (s:Sl),s.pl=true->(∀l∈ls,l≠[]/\l.length<=n)->acc.length+ls.length<=16777216->∃(ps:List (AT×List Nat)) (a' b':Int) (s':Sl),ps.map (·.2)=ls/\(∀p∈ps,TOk p.1 p.2)/\lcV (gtN 0).G qY.G (ax (bI m).fn (ag (ah 1) (ag (ah 0) ao))).G (ls.map itV) acc [s,.mu (fdV a b k)]=.ok (acc++ps.map λp=>atV p.1) [s',.mu (fdV a' b' k)]
 | [],acc,a,b,s,_,_,_=>⟨[],a,b,s,rfl,(λ_ h=>nomatch h),by simp [lcV]⟩
 |
  l::ls,acc,a,b,s,hs,hl,ha=>by
  rw[QB] at ha
  obtain⟨h1,h2⟩:=hl l (Qt ..)
  obtain⟨t,a1,b1,ht,e1⟩:=ih l a b h1 h2
  obtain⟨ps,a',b',s',q1,q2,q3⟩:=rH ih ls (acc++[atV t]) a1 b1 (.sh (itV l)) rfl (λl hl'=>hl l (Qr _ hl')) (by rw[Qw];show acc.length+1+_<=_;omega)
  refine⟨(t,l)::ps,a',b',s',by rw[Qv,q1],λp hp=>?_,?_⟩
  ·rcases QD.mp hp with rfl |hp
   ·exact ht
   ·exact q2 p hp
  ·show lcV _ _ _ (itV l::ls.map itV) acc _=.ok (acc++atV t::ps.map λp=>atV p.1) _
   generalize atV t=tv at *
   generalize itV l=lv at *
   have g1:(gtN 0).G lv [s,.mu (fdV a b k)]=some [.sh lv,.mu (fdV a b k)]:=by
    simp![hs]
   have F1:(ax (bI m).fn (ag (ah 1) (ag (ah 0) ao))).G [.sh lv,.mu (fdV a b k)]=.ok (.val tv) [.sh lv,.mu (fdV a1 b1 k)]:=by
    generalize fdV a b k=f0 at *
    generalize fdV a1 b1 k=f1 at *
    simp![e1]
   have d1:dG [.sh lv,.mu (fdV a1 b1 k)] (.val tv)=some ([.sh lv,.mu (fdV a1 b1 k)],tv):=rfl
   unfold lcV
   have cy:qY.G=cY:=rfl
   rw[cy] at q3 ⊢
   rw[if_pos (by omega),g1]
   simp only[cY,lY,RR,F1,d1,q3]
   simp
theorem xE{k:Int}:∀(n m:Nat) (l:List Nat) (a b:Int),l≠[]->l.length<=n->n<=m->n<=100->∃(t:AT) (a' b':Int),TOk t l/\(bI m).G [fdV a b k,itV l]=.ok (.val (atV t)) [fdV a' b' k]
 |0,m,l,a,b,hl,hn,_,_=>absurd (Tc.mp (by omega)) hl
 |n+1,0,l,a,b,_,_,hm,_=>absurd hm (by omega)
 |
  n+1,m+1,l,a,b,hl,hn,hm,h100=>by
  have ih:=λ(l:List Nat) (a b:Int) (h1:l≠[]) (h2:l.length<=n)=>xE (k:=k) n m l a b h1 h2 (by omega) (by omega)
  have hpos:=TL.mpr hl
  have ll:(l.map λk:Nat=>Val.int k).length=l.length:=Qp ..
  show ∃t a' b',_/\(PFx.of [true,false] 5 (eI (bI m))).G [fdV a b k,itV l]=_
  by_cases h1:l.length=1
  ·obtain⟨x,rfl⟩:=List.length_eq_one_iff.mp h1
   refine⟨.lf x,a,b,⟨rfl,λk=>by simp [AT.lvs],Qu _,rfl⟩,?_⟩
   rw[fY]
   unfold eI atV itV
   rw[AT.val]
   generalize fdV a b k=f0 at *
   simp![Qv,QZ,fC]
  ·obtain⟨r,a1,b1,e1,r0,r1⟩:=aM (a:=a) (b:=b) (k:=k) (m:=if ((l.length:Nat):Int)-1<3 then ((l.length:Nat):Int)-1 else 3) (by split <;> omega) (sm8 (by split <;> omega))
   have hr:r<3/\r<(l.length:Int)-1:=by split at r1 <;> omega
   obtain⟨mn,hmn⟩:∃mn:Nat,(mn:Int)=2+r:=⟨(2+r).toNat,by omega⟩
   have ne1:(((l.length:Nat):Int)==1)=false:=by rw[QN];omega
   obtain⟨yss,a2,b2,s4,L,dl⟩:=wo (k:=k) (itV l) mn (by omega) (l.drop mn) ((l.take mn).map λx=>[x]) a1 b1 .no rfl (by rw[Qp,RD];omega) (λx hx=>by obtain⟨y,_,rfl⟩:=QX.mp hx;simp) (by
    have:((l.take mn).map λx=>[x]).flatten=l.take mn:=by rw[<- List.flatMap_def];exact List.flatMap_singleton' _
    rw[this,<- Qw,Sv]
    omega)
   have hfl:((l.take mn).map λx=>[x]).flatten=l.take mn:=by rw[<- List.flatMap_def];exact List.flatMap_singleton' _
   have hy2:2<=yss.length:=by rw[L.len,Qp,RD];omega
   have htot:yss.flatten.length=l.length:=by rw[L.tot,hfl,<- Qw,Sv]
   obtain⟨w,rw',a3,b3,e3,w3⟩:=xg (a:=a2) (b:=b2) (k:=k)
   have hlt:=vg L.ne
   obtain⟨ps,a4,b4,s0,q1,q2,q3⟩:=rH (k:=k) (m:=m) (n:=n) ih yss [] a3 b3 .no rfl (λx hx=>⟨L.ne x hx,by have:=hlt x hx;omega⟩) (by have:=qW L.ne;rw[QP];omega)
   have pl:ps.length=yss.length:=by rw[<- q1,Qp]
   have T:=Fy (w:=w) q2 (λz=>by rw[z] at pl;simp at pl;omega) (λp hp=>L.ne p.2 (by rw[<- q1];exact Rb hp)) (by omega)
   rw[q1] at T
   refine⟨.nd w (ps.map (·.1)),a4,b4,⟨T.ok,λk=>?_,by have:=T.dep;omega,by rw[T.len,htot]⟩,?_⟩
   ·rw[T.mem,List.mem_flatten,L.mem]
    constructor
    ·rintro (⟨x,hx,hk⟩ |hk)
     ·obtain⟨y,hy,rfl⟩:=QX.mp hx
      rw[Sj] at hk
      subst hk
      exact List.mem_of_mem_take hy
     ·exact List.mem_of_mem_drop hk
    ·intro hk
     rw[<- Sv mn l] at hk
     rcases Rh.mp hk with hk |hk
     ·exact .inl ⟨[k],Rb (f:=λx=>[x]) hk,Sj.mpr rfl⟩
     ·exact .inr hk
   ·rw[Hu rfl]
    show trQ (atV (.nd w (ps.map (·.1)))) (fdV a4 b4 k) ((eI (bI m)).G [.mu (fdV a b k),.sh (itV l),.no,.no,.no])
    unfold eI
    refine aT (λe=>e=[.mu (fdV a b k),.sh (itV l),.no,.no,.no]) ⟨_,by unfold itV;simp![ll,ne1],rfl⟩ ?_
    rintro _ rfl
    refine aT (λe=>e=[.mu (fdV a1 b1 k),.sh (itV l),.sh (.int (mn:Nat)),.no,.no]) ⟨_,by
     unfold itV
     generalize fdV a b k=f0 at *
     generalize fdV a1 b1 k=f1 at *
     simp![ll,e1,hmn],rfl⟩ ?_
    rintro _ rfl
    refine aT (λe=>e=[.mu (fdV a2 b2 k),.sh (itV l),.sh (.int (mn:Nat)),.sh (.lst (B1 yss)),s4]) ⟨_,?_,rfl⟩ ?_
    ·rw[B7]
     have i1:(bZ (pSl (ah 1) oN (oS (ah 2)))).G [.mu (fdV a1 b1 k),.sh (itV l),.sh (.int (mn:Nat)),.no,.no]=.ok ((l.take mn).map λi:Nat=>.int i,none) [.mu (fdV a1 b1 k),.sh (itV l),.sh (.int (mn:Nat)),.no,.no]:=by
      unfold itV
      simp![pL,Ln,List.map_take]
     have i2:(bZ (pSl (ah 1) (oS (ah 2)) oN)).G [.mu (fdV a1 b1 k),.sh (itV l),.sh (.int (mn:Nat)),.no,.no]=.ok ((l.drop mn).map λi:Nat=>.int i,none) [.mu (fdV a1 b1 k),.sh (itV l),.sh (.int (mn:Nat)),.no,.no]:=by
      unfold itV
      simp![pL,vx,List.map_drop]
     rw[i1]
     show (if Sl.pl .no=true/\((l.take mn).map λi:Nat=>Val.int i).length<16777216 then _ else _)=_
     rw[if_pos ⟨rfl,by rw[Qp,RD];omega⟩]
     show ((bZ (pSl (ah 1) (oS (ah 2)) oN)).G [.mu (fdV a1 b1 k),.sh (itV l),.sh (.int (mn:Nat)),.no,.no]).toS _=_
     rw[i2]
     show gH 3 4 _ ((l.drop mn).map λi:Nat=>.int i) (((l.take mn).map λi:Nat=>Val.int i).map λv=>[v]) [.mu (fdV a1 b1 k),.sh (itV l),.sh (.int (mn:Nat)),.no,.no]=_
     have sx:(((l.take mn).map λi:Nat=>Val.int i).map λv=>[v])=((l.take mn).map λx=>[x]).map λl=>l.map λi:Nat=>Val.int i:=by rw[Rg,Rg];rfl
     rw[sx]
     exact dl
    ·rintro _ rfl
     have lp:(ps.map λp=>atV p.1).length<=16777216:=by have:=qW L.ne;rw[Qp];omega
     rw[QY] at q3
     unfold trQ
     unfold atV at q3 lp ⊢
     rw[AT.val,AT.vals_map,Rg]
     unfold B1
     have cm:(List.map (AT.val (λk=>Val.int (k:Nat)) ∘ λx=>x.fst) ps)=ps.map λp=>AT.val (λk=>Val.int (k:Nat)) p.1:=rfl
     rw[cm]
     generalize (ps.map λp=>AT.val (λk=>Val.int (k:Nat)) p.1)=PS at *
     generalize itV l=lv at *
     generalize fdV a2 b2 k=f2 at *
     generalize fdV a3 b3 k=f3 at *
     generalize fdV a4 b4 k=f4 at *
     generalize yss.map itV=YS at *
     simp![e3,w3,cA,inS,q3,lp,ya]
def kN(xs:List Val):(bc kits).G [.tup xs,.ty "tuple"]=.val (.bl true):=rfl
def Av{a:Val}(h:lfV a=true):(bc kits).G [a,.ty "tuple"]=.val (.bl false):=by cases a <;> first |rfl |(cases h;done)
def JQ{a:Val}(h:lfV a=true):(bc kits).G [a,.ty "bool"]=.val (.bl false):=by cases a <;> first |rfl |(cases h;done)
def Ad(w:Bool):dk.G [.str (wy w)]=.ok (.val (.bl true)) []:=by
 have i1:∀x:Str,(bc kits).G [.str x,.ty "str"]=.val (.bl true):=λ_=>rfl
 have i2:bIn.G (.str (wy w)) (.tup [.str "across",.str "down"])=.val (.bl true):=by cases w <;> rfl
 unfold dk
 rw[bL]
 unfold kR
 simp![i1,i2]
def Bq{w:Bool}{ts:List Val}(h:2<=ts.length):cC.G [.tup [.str (wy w),.tup ts]]=.ok (.val (.bl true)) []:=by
 have e:=Ad w
 have i1:∀xs:List Val,(bc kits).G [.tup xs,.ty "tuple"]=.val (.bl true):=λ_=>rfl
 have g:decide ((2:Int)<=(ts.length:Nat))=true:=QQ (by omega)
 unfold cC
 rw[bL]
 unfold iq
 simp![i1,e,fC,g]
def A6{a:Val}(h:lfV a=true):cC.G [a]=.ok (.val (.bl false)) []:=by
 have i1:(bc kits).G [a,.ty "tuple"]=.val (.bl false):=by cases a <;> first |rfl |(cases h;done)
 unfold cC
 rw[bL]
 unfold iq
 simp![i1]
def Aq(k:Nat):bA.G [.int (k:Nat)]=.ok (.val (.bl true)) []:=by
 have i1:(bc kits).G [.int (k:Nat),.ty "int"]=.val (.bl true):=rfl
 have i2:(bc kits).G [.int (k:Nat),.ty "bool"]=.val (.bl false):=rfl
 unfold bA
 rw[bL]
 unfold jd
 simp![i1,i2]
theorem mB{n:Nat}(v:Val):∀(N:Nat) (st:List AT) (xs:List Int) (s4:Sl),AT.cntL st<=N->s4.pl=true->(∀t∈st,t.ok=true)->(∀k∈AT.lvsL st,k<n)->(AT.lvsL st).Nodup->(∀k∈AT.lvsL st,((k:Nat):Int)∉xs)->xs.length+(AT.lvsL st).length<=3000->AT.cntL st<=100000->
 ∃(ys:List Int) (s4':Sl),ys.length=xs.length+(AT.lvsL st).length/\(xWh (qTr (ah 3)) dI).G [.sh v,.sh (.int (n:Nat)),.ow (.set xs),.ow (.lst (st.map atV)),s4]=.nx [.sh v,.sh (.int (n:Nat)),.ow (.set ys),.ow (.lst []),s4']
 |
  N,[],xs,s4,_,_,_,_,_,_,_,_=>⟨xs,s4,by simp [AT.lvsL],by
  rw[kW]
  simp![QZ,mV,List.isEmpty_nil]⟩
 |
  0,t::ts,xs,s4,h,_,_,_,_,_,_,_=>by
  rw[AT.cntL] at h
  cases t <;> (rw[AT.cnt] at h;omega)
 |
  N+1,t0::ts0,xs,s4,hN,h4,ho,hn,nd,hx,hl,hc=>by
  obtain⟨st,t,hst⟩:∃st t,t0::ts0=st++[t]:=⟨(t0::ts0).dropLast,(t0::ts0).getLast (by simp),(List.dropLast_concat_getLast (by simp)).symm⟩
  rw[hst] at hN ho hn nd hx hl hc ⊢
  rw[AT.lvsL_app] at hn nd hx hl
  rw[AT.lvsL_app]
  rw[AT.cntL_app] at hN hc
  have hn0:((st++[t]).map atV).isEmpty=false:=by cases st <;> rfl
  have c1:(qTr (ah 3)).G [.sh v,.sh (.int (n:Nat)),.ow (.set xs),.ow (.lst ((st++[t]).map atV)),s4]=.ok true [.sh v,.sh (.int (n:Nat)),.ow (.set xs),.ow (.lst ((st++[t]).map atV)),s4]:=by
   simp![mV,hn0,Bool.not_false]
  have hto:=ho t (by simp)
  rw[kW,c1]
  show ∃ys s4',_/\((dI.G _).loop _)=_
  rw[Q2,Qv,QZ]
  cases t with
  |
   lf k=>
   simp only[AT.lvsL,AT.lvs,Q3,Qw,QB,QP,AT.cntL,AT.cnt] at hn nd hx hl hN hc ⊢
   have hk:=hn k (by simp)
   have hkx:=hx k (by simp)
   have nda:=List.nodup_append.mp nd
   obtain⟨ys,s4',q1,q2⟩:=mB (n:=n) v N st (f9 xs (k:Nat)) (.sh (.int (k:Nat))) (by omega) rfl (λt ht=>ho t (by simp [ht])) (λj hj=>hn j (by simp [hj])) nda.1 (λj hj z=>by
    unfold f9 at z
    rw[if_neg hkx] at z
    rcases QD.mp z with z |z
    ·exact nda.2.2 j hj k (by simp) (Int.ofNat.inj z)
    ·exact hx j (by simp [hj]) z) (by unfold f9;rw[if_neg hkx,QB];omega) (by omega)
   refine⟨ys,s4',by rw[q1];unfold f9;rw[if_neg hkx,QB];omega,?_⟩
   have b1:=A6 (a:=.int (k:Nat)) rfl
   have w1:=Aq k
   have l0:decide (((k:Nat):Int)<0)=false:=QG (by omega)
   have l1:decide (((n:Nat):Int)<=(k:Nat))=false:=QG (by omega)
   have in1:decide (((k:Nat):Int)∈xs)=false:=QG hkx
   have av:atV (.lf k)=.int (k:Nat):=rfl
   have xl:xs.length<4000:=by omega
   have bb:dI.G [.sh v,.sh (.int (n:Nat)),.ow (.set xs),.ow (.lst (st.map atV++[atV (.lf k)])),s4]=.nx [.sh v,.sh (.int (n:Nat)),.ow (.set (f9 xs (k:Nat))),.ow (.lst (st.map atV)),.sh (.int (k:Nat))]:=by
    unfold dI
    rw[av]
    simp![o9,h4,b1,w1,l0,l1,Ni,in1,JT,uZ,CP,xl]
   rw[bb]
   exact q2
  |
   nd w ts=>
   have ho':=hto
   rw[AT.ok,Qy] at hto
   have h2:2<=ts.length:=RN hto.1
   have hk:=AT.okL_mem.mp hto.2
   simp only[AT.lvsL,AT.lvs,Q3,AT.cntL,AT.cnt] at hn nd hx hl hN hc ⊢
   obtain⟨ys,s4',q1,q2⟩:=mB (n:=n) v N (st++ts) xs (.sh (atV (.nd w ts))) (by rw[AT.cntL_app];omega) rfl (λt ht=>by
    rcases Rh.mp ht with ht |ht
    ·exact ho t (by simp [ht])
    ·exact hk t ht) (by rw[AT.lvsL_app];exact hn) (by rw[AT.lvsL_app];exact nd) (by rw[AT.lvsL_app];exact hx) (by rw[AT.lvsL_app];exact hl) (by rw[AT.cntL_app];omega)
   rw[AT.lvsL_app] at q1
   refine⟨ys,s4',q1,?_⟩
   have av:atV (.nd w ts)=.tup [.str (wy w),.tup (ts.map atV)]:=by
    unfold atV
    rw[AT.val,AT.vals_map]
   have b1:=Bq (w:=w) (ts:=ts.map atV) (by rw[Qp];exact h2)
   have le:∀l:List AT,l.length<=AT.cntL l:=by
    intro l
    induction l with
    |nil=>exact Qu _
    |cons t l ih=>rw[AT.cntL,QB];cases t <;> (rw[AT.cnt];omega)
   have ll:(st.map atV).length+(ts.map atV).length<=16777216:=by
    have:=le st
    have:=le ts
    rw[Qp,Qp]
    omega
   rw[av] at q2 ⊢
   rw[Q2] at q2
   have bb:dI.G [.sh v,.sh (.int (n:Nat)),.ow (.set xs),.ow (.lst (st.map atV++[.tup [.str (wy w),.tup (ts.map atV)]])),s4]=.nx [.sh v,.sh (.int (n:Nat)),.ow (.set xs),.ow (.lst (st.map atV++ts.map atV)),.sh (.tup [.str (wy w),.tup (ts.map atV)])]:=by
    unfold dI
    simp![o9,h4,b1,rY,ll]
   rw[bb]
   exact q2
def yM{t:AT}{n:Nat}(ho:t.ok=true)(hn:∀k∈t.lvs,k<n)(nd:t.lvs.Nodup)(hl:t.lvs.length=n)(h3:n<=3000)(hc:t.cnt<=100000):fj.G [atV t,.int (n:Nat)]=.ok (.val (.bl true)) []:=by
 have e1:AT.lvsL [t]=t.lvs:=by simp [AT.lvsL]
 have e2:AT.cntL [t]=t.cnt:=by simp [AT.cntL]
 obtain⟨ys,s4',q1,q2⟩:=mB (n:=n) (atV t) (AT.cntL [t]) [t] [] .no (Qu _) rfl (λu hu=>by rw[Sj] at hu;rw[hu];exact ho) (by rw[e1];exact hn) (by rw[e1];exact nd) (λk hk z=>nomatch z) (by rw[e1,hl];simp;exact h3) (by rw[e2];exact hc)
 rw[e1,hl,QP,Nat.zero_add] at q1
 rw[Qv,QZ] at q2
 unfold fj
 rw[bL]
 unfold mP
 generalize atV t=tv at *
 simp![Kh,q2,Li,q1,SI]
def sF{t:AT}{n:Nat}(ho:t.ok=true)(hn:∀k∈t.lvs,k<n)(nd:t.lvs.Nodup)(hl:t.lvs.length=n)(h3:n<=3000)(hc:t.cnt<=100000):dn.G [atV t,.int (n:Nat)]=.ok (.val .non) []:=by
 have e:=yM ho hn nd hl h3 hc
 unfold dn
 rw[bL]
 unfold jH
 generalize atV t=tv at *
 simp![e]
def ji(a:Int):(if a<0 then -a else a)=((a.natAbs:Nat):Int):=by split <;> omega
theorem tJ:∀(n one bd:Nat),bd<=n->(xWh (qOf (pOp bNe (ah 1) (aq 0))) cU).G [.sh (.int (one:Nat)),.sh (.int (bd:Nat))]=.nx [.sh (.int (Nat.gcd one bd:Nat)),.sh (.int 0)]
 |
  n,one,0,_=>by
  rw[kW]
  simp![lY]
  rw[Nat.gcd_zero_right]
  try rfl
 |0,one,bd+1,hl=>absurd hl (by omega)
 |
  n+1,one,bd+1,hl=>by
  rw[kW]
  have e:((((bd+1:Nat):Int)==0))=false:=by rw[QN];omega
  have e1:cB.G (.int (one:Nat)) (.int ((bd+1:Nat):Int))=.val (.int (((one:Nat):Int).fmod ((bd+1:Nat):Int))):=fW (by omega)
  have e2:((one:Nat):Int).fmod ((bd+1:Nat):Int)=((one % (bd+1):Nat):Int):=by
   rw[SM _ (by omega)];rfl
  have ih:=tJ n (bd+1) (one % (bd+1)) (by have:=Nat.mod_lt one (show bd+1>0 by omega);omega)
  rw[Fr.euc] at ih
  rw[e2] at e1
  have bb:cU.G [.sh (.int (one:Nat)),.sh (.int ((bd+1:Nat):Int))]=.nx [.sh (.int ((bd+1:Nat):Int)),.sh (.int ((one % (bd+1):Nat):Int))]:=by
   unfold cU
   simp![e1]
  simp![e,bb,ih]
def dW(a b:Int):bo.G [.int a,.int b]=.ok (.val (.int (Int.gcd a b:Nat))) []:=by
 unfold bo
 rw[bL]
 unfold gk
 have:=tJ b.natAbs a.natAbs b.natAbs (Qu _)
 simp![ji,this]
 rfl
def ij{a b:Int}(hb:b≠0)(hs:Sm 8000 b):bP.G [.int a,.int b]=.ok (.val (fV ((a:Rat)/(b:Rat)))) []:=by
 unfold bP
 rw[bL]
 unfold lF
 have e:(b==0)=false:=by rw[QN];exact hb
 have c:∀x,CDivB x (Fr.dv a b):=λx=>CDivB.of (Fr.dv_ne hb) (hs.of_le (by
  rw[Fr.dv_abs]
  exact Nat.le_of_dvd (by omega) (Nat.gcd_dvd_right a.natAbs b.natAbs)))
 have k1:=k8 (c a)
 have k2:=k8 (c b)
 have hh:=pQ (a:=a) hb
 have im:Val.tup [.int (a.fdiv (Fr.dv a b)),.int (b.fdiv (Fr.dv a b))]=fV ((a:Rat)/(b:Rat)):=by
  unfold fV
  rw[<- hh.1,<- hh.2]
  rfl
 by_cases hn:b<0
 ·have hd:Fr.dv a b=-((Int.gcd a b:Nat):Int):=by unfold Fr.dv;rw[if_pos hn]
  rw[hd] at k1 k2 im
  simp![e,dW,QQ hn,k1,k2,im]
 ·have hd:Fr.dv a b=((Int.gcd a b:Nat):Int):=by unfold Fr.dv;rw[if_neg hn]
  rw[hd] at k1 k2 im
  simp![e,dW,QG hn,k1,k2,im]
def Dy{p q:Rat}{n m:Nat}(hp:Sz n p)(hq:Sz m q)(h:n+m<=8000):gO.G [fV p,fV q]=.ok (.val (fV (p+q))) []:=by
 have c1:=fD (CMulA.of hp.top hq.bot (by omega) (by omega))
 have c2:=fD (CMulA.of hq.top hp.bot (by omega) (by omega))
 have c3:=fD (CMulA.of hp.bot hq.bot (by omega) (by omega))
 have fe:=ij (a:=p.num*q.den+q.num*p.den) (b:=p.den*q.den) (Tv (fN p) (fN q)) ((hp.bot.mul hq.bot).mono h)
 rw[<- FO] at fe
 unfold gO
 rw[bL]
 unfold rC
 rw[show fV p=.tup [.int p.num,.int p.den] from rfl,show fV q=.tup [.int q.num,.int q.den] from rfl]
 simp![c1,c2,c3,fe]
def uW{p q:Rat}{n m:Nat}(hp:Sz n p)(hq:Sz m q)(h:n+m<=8000):gq.G [fV p,fV q]=.ok (.val (fV (p*q))) []:=by
 have c1:=fD (CMulA.of hp.top hq.top (by omega) (by omega))
 have c2:=fD (CMulA.of hp.bot hq.bot (by omega) (by omega))
 have fe:=ij (a:=p.num*q.num) (b:=p.den*q.den) (Tv (fN p) (fN q)) ((hp.bot.mul hq.bot).mono h)
 rw[<- xC] at fe
 unfold gq
 rw[bL]
 unfold rj
 rw[show fV p=.tup [.int p.num,.int p.den] from rfl,show fV q=.tup [.int q.num,.int q.den] from rfl]
 simp![c1,c2,fe]
def ni{v:Val}(hk:knV v=true):(bc kits).G [v,.ty "tuple"]=.val (.bl (gA v)):=by
 cases v <;> first |rfl |cases hk
def kc{v:Val}(hk:knV v=true):bA.G [v]=.ok (.val (.bl (lj v))) []:=by
 unfold bA
 rw[bL]
 unfold jd
 cases v <;> first |rfl |cases hk
def uc(v:Val):gA v=false\/∃xs,v=.tup xs:=by
 cases v <;> first |exact .inr ⟨_,rfl⟩ |exact .inl rfl
def oB(v:Val):lj v=false\/∃i,v=.int i:=by
 cases v <;> first |exact .inr ⟨_,rfl⟩ |exact .inl rfl
def Mg{v:Val}(h:gA v=false):bj v=false:=by
 cases v <;> first |rfl |cases h
def Mu{v:Val}(h:gA v=false):ik v=false:=by
 cases v <;> first |rfl |cases h
def KA{a b:Val}(h:lj a=false):bj (.tup [a,b])=false:=by
 cases a <;> first |rfl |cases h
def JL{i:Int}{b:Val}(h:lj b=false):bj (.tup [.int i,b])=false:=by
 cases b <;> first |rfl |cases h
def Mx{xs:List Val}(hl:xs.length≠2):bj (.tup xs)=false:=by
 unfold bj
 split
 ·rename_i e;injection e with e;subst e;exact absurd rfl hl
 ·rfl
def Mq{xs:List Val}(hl:xs.length≠4):ik (.tup xs)=false:=by
 unfold ik
 split
 ·rename_i e;injection e with e;subst e;exact absurd rfl hl
 ·rfl
def D8{k:Nat}{v:Val}(ha:jW k v=true)(h:gA v=false):knV v=true:=by
 cases v with
 |tup xs=>cases h
 |_=>cases k <;> exact ha
def qw{v:Val}(ha:jW 1 v=true):cq.G [v]=.ok (.val (.bl (bj v))) []:=by
 unfold cq
 rw[bL]
 unfold iM
 rcases uc v with ht |⟨xs,rfl⟩
 ·have it:=ni (D8 ha ht)
  rw[ht] at it
  simp![it,Mg ht]
 have it:=ni (v:=.tup xs) rfl
 by_cases hl:xs.length=2
 ·match xs,hl,ha with
  |
   [a,b],_,ha=>
   have ha':(knV a&&(knV b&&true))=true:=by simpa [jW] using ha
   simp only[Qy] at ha'
   have w1:=kc ha'.1
   have w2:=kc ha'.2.1
   rcases oB a with h1 |⟨i,rfl⟩
   ·rw[h1] at w1
    simp![it,gA,w1,KA h1]
   rcases oB b with h2 |⟨j,rfl⟩
   ·rw[h2] at w2
    simp![it,gA,w1,lj,w2,JL h2]
   have f:bj (.tup [.int i,.int j])=(decide (1<=j)&&decide (Int.gcd i j=1)):=rfl
   have g:((((Int.gcd i j:Nat):Int)==1):Bool)=decide (Int.gcd i j=1):=by
    rw[SS,SH,Th];omega
   by_cases hj:1<=j
   ·simp![it,gA,w1,w2,lj,dW,QQ hj,f,g]
   ·simp![it,gA,w1,w2,lj,dW,QG hj,f,g]
 ·have e:(((xs.length:Nat):Int)==2)=false:=by rw[QN];omega
  simp![it,gA,e,Mx hl]
def rL{v:Val}(ha:jW 2 v=true):f6.G [v]=.ok (.val (.bl (ik v))) []:=by
 unfold f6
 rw[bL]
 unfold nR
 rcases uc v with ht |⟨xs,rfl⟩
 ·have it:=ni (D8 ha ht)
  rw[ht] at it
  simp![it,Mu ht]
 have it:=ni (v:=.tup xs) rfl
 by_cases hl:xs.length=4
 ·match
   xs,hl,ha with
  |
   [a,b,c,d],_,ha=>
   have e1:ik (.tup [a,b,c,d])=(bj a&&(bj b&&(bj c&&(bj d&&(lK c&&lK d))))):=rfl
   have bl4:∀x y z w:Bool,mE [.bl x,.bl y,.bl z,.bl w]=some [x,y,z,w]:=λ_ _ _ _=>rfl
   obtain⟨e',⟨s',rfl,_⟩,lc⟩:=rB (g:=(gtN 0).G) (F:=(ax cq (ag (ah 0) ao)).G) (f:=λv=>.bl (bj v)) (λe=>∃s,e=[s]/\s.pl=true) [a,b,c,d] [] [.no] ⟨.no,rfl,rfl⟩ (by
    rintro v hv e ⟨s,rfl,hs⟩
    have hv':jW 1 v=true:=Q4.mp (by simpa [jW] using ha) v hv
    refine⟨[.sh v],.val (.bl (bj v)),[.sh v],?_,?_,rfl,⟨_,rfl,rfl⟩⟩
    ·simp![hs]
    ·simp![qw hv']) (by simp)
   have cy:cY=qY.G:=rfl
   rw[cy,QY] at lc
   simp only[Qv,QZ] at lc
   cases hA:(bj a&&(bj b&&(bj c&&bj d))) with
   |
    true=>
    simp only[Qy] at hA
    obtain⟨p,rfl⟩:=AZ hA.2.2.1
    obtain⟨q,rfl⟩:=AZ hA.2.2.2
    rw[hA.1,hA.2.1,hA.2.2.1,hA.2.2.2] at e1 lc
    have e2:ik (.tup [a,b,fV p,fV q])=(decide (0<p.num)&&decide (0<q.num)):=by rw[e1];rfl
    rw[e2]
    have i1:(fV p).items=some [.int p.num,.int p.den]:=rfl
    have i2:(fV q).items=some [.int q.num,.int q.den]:=rfl
    by_cases hp:0<p.num
    ·simp![it,gA,lc,cA,bl4,id,i1,i2,QQ hp]
    ·simp![it,gA,lc,cA,bl4,id,i1,QG hp]
   |
    false=>
    have e2:ik (.tup [a,b,c,d])=false:=by
     rw[e1]
     revert hA
     generalize bj a=a',bj b=b',bj c=c',bj d=d',(lK c&&lK d)=z
     revert a' b' c' d' z
     decide
    rw[e2]
    simp![it,gA,lc,cA,bl4,id,hA]
 ·have e:(((xs.length:Nat):Int)==4)=false:=by rw[QN];omega
  simp![it,gA,e,Mq hl]
def uA{v:Val}(ha:jW 2 v=true):bz.G [v]=if ik v=true then .ok (.val .non) [] else .exc "NoBox" []:=by
 unfold bz
 rw[bL]
 unfold ko
 cases h:ik v with
 |true=>simp![rL ha,h]
 |false=>simp![rL ha,h]
def jw{b:Bx}(hb:b.Ok):bz.G [bV b]=.ok (.val .non) []:=by rw[uA (Ik b),Ca hb];rfl
def LR{v:Val}(h:lj v=false):jO v=false:=by
 cases v <;> first |rfl |cases h
def Dt(v:Val):kO v=false\/∃xs,v=.lst xs:=by
 cases v <;> first |exact .inr ⟨_,rfl⟩ |exact .inl rfl
def um{v:Val}(hk:knV v=true):c8.G [v]=.ok (.val (.bl (jO v))) []:=by
 have w:=kc hk
 unfold c8
 rw[bL]
 unfold jX
 rcases oB v with h |⟨i,rfl⟩
 ·rw[h] at w
  simp![w,LR h]
 ·simp![w,lj];rfl
def wR{v:Val}(hk:knV v=true):(bc kits).G [v,.ty "list"]=.val (.bl (kO v)):=by
 cases v <;> first |rfl |cases hk
def zk(v:Val):R3F:=match v with
 |.lst xs=>if xs=[] then .exc "NoWeights" [] else if xs.all jO=true then (if xs.length<=40 then .ok (.val .non) [] else .exc "TooMany" []) else .exc "NoWeights" []
 |_=>.exc "NoWeights" []
def Lw{v:Val}(h:kO v=false):zk v=.exc "NoWeights" []:=by
 cases v <;> first |rfl |cases h
def tX:Val->Bool
 |.lst xs=>decide (xs.length<=1000)&&xs.all knV
 |v=>knV v
def F7{v:Val}(h:tX v=true)(hl:kO v=false):knV v=true:=by cases v <;> first |(cases hl;done) |exact h
theorem lr(f:Val->Bool):∀xs:List Val,mE (xs.map λv=>.bl (f v))=some (xs.map f)
 | []=>rfl
 |x::xs=>by show (mE (xs.map λv=>.bl (f v))).map (f x :: ·)=_;rw[lr f xs];rfl
def lL(f:Val->Bool)(xs:List Val):(xs.map f).all id=xs.all f:=by rw[List.all_map];rfl
def n9{v:Val}(ha:tX v=true):bf.G [v]=zk v:=by
 unfold bf
 rw[bL]
 unfold gz
 rcases Dt v with hv |⟨xs,rfl⟩
 ·have il:=wR (F7 ha hv)
  rw[hv] at il
  rw[Lw hv]
  simp![il]
 ·have ha':xs.length<=1000/\xs.all knV=true:=by simpa [tX] using ha
  have il:=wR (v:=.lst xs) rfl
  unfold zk
  dsimp only
  by_cases h0:xs=[]
  ·subst h0
   simp![il]
  ·have e0:(((xs.length:Nat):Int)==0)=false:=by
    rw[QN]
    intro z
    exact h0 (Tc.mp (by omega))
   rw[if_neg h0]
   obtain⟨e',p',lc⟩:=rB (g:=(gtN 0).G) (F:=(ax c8 (ag (ah 0) ao)).G) (f:=λv=>.bl (jO v)) (λe=>∃s,e=[s]/\s.pl=true) xs [] [.no] ⟨.no,rfl,rfl⟩ (by
    rintro v hv e ⟨s,rfl,hs⟩
    refine⟨[.sh v],.val (.bl (jO v)),[.sh v],?_,?_,rfl,⟨_,rfl,rfl⟩⟩
    ·simp![hs]
    ·simp![um (Q4.mp ha'.2 v hv)]) (by simp;omega)
   obtain⟨s',rfl,_⟩:=p'
   have cy:cY=qY.G:=rfl
   rw[cy,QY] at lc
   have bi:(xs.map λv=>Val.bl (jO v)).length<=16777216:=by rw[Qp];omega
   by_cases hw:xs.all jO=true
   ·rw[if_pos hw]
    by_cases h40:xs.length<=40
    ·have hd:decide ((40:Int)<((xs.length:Nat):Int))=false:=QG (by omega)
     rw[if_pos h40]
     simp![il,e0,cA,lc,bi,lr,lL,hw,hd]
    ·have hd:decide ((40:Int)<((xs.length:Nat):Int))=true:=QQ (by omega)
     rw[if_neg h40]
     simp![il,e0,cA,lc,bi,lr,lL,hw,hd]
   ·have hw':xs.all jO=false:=Bool.eq_false_iff.mpr hw
    rw[if_neg hw]
    simp![il,e0,cA,lc,bi,lr,lL,hw']
def Aj{ws:List Int}(h0:ws≠[])(h1:∀w∈ws,1<=w)(h2:ws.length<=40):bf.G [.lst (ws.map .int)]=.ok (.val .non) []:=by
 have ha:tX (.lst (ws.map .int))=true:=by
  simp only[tX,Qy,Th,Qp]
  exact⟨by omega,by rw[Q4];intro v hv;obtain⟨w,_,rfl⟩:=QX.mp hv;rfl⟩
 rw[n9 ha]
 unfold zk
 dsimp only
 rw[if_neg (by intro z;exact h0 (List.map_eq_nil_iff.mp z)),if_pos (by
  rw[Q4];intro v hv
  obtain⟨w,hw,rfl⟩:=QX.mp hv
  exact QQ (h1 w hw)),if_pos (by rw[Qp];exact h2)]
def IK:dA (.str "down") (.str "across")=some false:=by rw[L3.eq_str (by decide) (by decide)];exact Ru some (by decide)
def IL:dA (.str "across") (.str "across")=some true:=by rw[L3.eq_str (by decide) (by decide)];exact Ru some (by decide)
def prV(p:Rat×Rat):Val:=.tup [fV p.1,fV p.2]
theorem wH{s l:Rat}{n m:Nat}{W:Int}{wv:Val}(hs:Sz n s)(hl:Sz n l)(hW:0<W)(mW:Sm m W)(h:n+n+m<=8000):∀(ws:List Int) (a:Int) (acc:List (Rat×Rat)) (s6 s7:Sl),s6.pl=true->s7.pl=true->0<=a->(∀w∈ws,0<=w)->a+ws.sum<=W->acc.length+ws.length<=16777216->∃s6' s7',fg (gtN 6).G iD.G (ws.map .int) [.sh (fV s),.sh (fV l),.sh wv,.sh (.int W),.sh (.int a),.ow (.lst (acc.map prV)),s6,s7]=.nx [.sh (fV s),.sh (fV l),.sh wv,.sh (.int W),.sh (.int (a+ws.sum)),.ow (.lst ((acc++shL s l W a ws).map prV)),s6',s7']
 | [],a,acc,s6,s7,h6,h7,ha,hw,hsum,bi=>⟨s6,s7,by rw[QZ,qK,List.sum_nil,Int.add_zero];unfold shL;rw[Q3]⟩
 |
  w::ws,a,acc,s6,s7,h6,h7,ha,hw,hsum,bi=>by
  have hw0:=hw w (Qt ..)
  have hws:0<=ws.sum:=by
   have:∀l:List Int,(∀w∈l,0<=w)->0<=l.sum:=by
    intro l
    induction l with
    |nil=>intro _;simp
    |cons x l ih=>intro hx;rw[Q6];have:=hx x (Qt ..);have:=ih λw hw=>hx w (Qr _ hw);omega
   exact this ws λx hx=>hw x (Qr _ hx)
  rw[Q6] at hsum
  rw[QB] at bi
  have sa:Sm m a:=mW.of_le (by omega)
  have sw:Sm m w:=mW.of_le (by omega)
  have f1:=ij (a:=a) (b:=W) (by omega) (mW.mono (by omega))
  have f2:=ij (a:=w) (b:=W) (by omega) (mW.mono (by omega))
  have z1:Sz m ((a:Rat)/(W:Rat)):=Sz.div (by omega) sa mW m (Qu _) (Qu _)
  have z2:Sz m ((w:Rat)/(W:Rat)):=Sz.div (by omega) sw mW m (Qu _) (Qu _)
  have t1:=uW hl z1 (by omega)
  have t2:=uW hl z2 (by omega)
  have ad:=Dy hs (hl.mul z1) (by omega)
  have ll:(acc.map prV).length<16777216:=by rw[Qp];omega
  obtain⟨t6,t7,ih⟩:=wH (wv:=wv) hs hl hW mW h ws (a+w) (acc++[(s+l*((a:Rat)/(W:Rat)),l*((w:Rat)/(W:Rat)))]) (.sh (.int w)) (.sh (fV (s+l*((a:Rat)/(W:Rat))))) rfl rfl (by omega) (λx hx=>hw x (Qr _ hx)) (by omega) (by simp;omega)
  refine⟨t6,t7,?_⟩
  have g1:(gtN 6).G (.int w) [.sh (fV s),.sh (fV l),.sh wv,.sh (.int W),.sh (.int a),.ow (.lst (acc.map prV)),s6,s7]=some [.sh (fV s),.sh (fV l),.sh wv,.sh (.int W),.sh (.int a),.ow (.lst (acc.map prV)),.sh (.int w),s7]:=by
   simp![h6]
  have b1:iD.G [.sh (fV s),.sh (fV l),.sh wv,.sh (.int W),.sh (.int a),.ow (.lst (acc.map prV)),.sh (.int w),s7]=.nx [.sh (fV s),.sh (fV l),.sh wv,.sh (.int W),.sh (.int (a+w)),.ow (.lst ((acc++[(s+l*((a:Rat)/(W:Rat)),l*((w:Rat)/(W:Rat)))]).map prV)),.sh (.int w),.sh (fV (s+l*((a:Rat)/(W:Rat))))]:=by
   unfold iD
   rw[Q2]
   simp![h7,f1,f2,t1,t2,ad,ll,prV]
  rw[Qv,fb,g1]
  simp only[b1,sY]
  rw[ih,Q6]
  rw[show shL s l W a (w::ws)=(s+l*((a:Rat)/(W:Rat)),l*((w:Rat)/(W:Rat)))::shL s l W (a+w) ws from rfl,Rq,show a+w+ws.sum=a+(w+ws.sum) by omega]
  rfl
def rW{s l:Rat}{n m:Nat}{ws:List Int}(hs:Sz n s)(hl:Sz n l)(hw:∀w∈ws,0<=w)(h0:0<ws.sum)(mW:Sm m ws.sum)(h:n+n+m<=8000)(bi:ws.length<=1000):fo.G [fV s,fV l,.lst (ws.map .int)]=.ok (.new (.lst ((shL s l ws.sum 0 ws).map prV))) []:=by
 obtain⟨s6,s7,lo⟩:=wH (wv:=.lst (ws.map .int)) hs hl h0 mW h ws 0 [] .no .no rfl rfl (by omega) hw (by omega) (by simp;omega)
 rw[QY,QZ] at lo
 unfold fo
 rw[bL]
 unfold ou
 simp![lo]
def J4{way:Str}(hw:way="across" \/ way="down"):dU.G [.str way]=.ok (.val .non) []:=by
 have i1:∀x:Str,(bc kits).G [.str x,.ty "str"]=.val (.bl true):=λ_=>rfl
 have i2:bIn.G (.str way) (.tup [.str "across",.str "down"])=.val (.bl true):=by
  rcases hw with rfl |rfl <;> rfl
 have e1:dk.G [.str way]=.ok (.val (.bl true)) []:=by
  unfold dk
  rw[bL]
  unfold kR
  simp![i1,i2]
 unfold dU
 rw[bL]
 unfold jY
 simp![e1]
def zX{b:Bx}{n m:Nat}{way:Str}{ws:List Int}(hb:b.Ok)(hs:b.Sz n)(hway:way="across" \/ way="down")(h0:ws≠[])(hw:∀w∈ws,1<=w)(mW:Sm m ws.sum)(h:n+n+m<=8000)(bi:ws.length<=40):eZ.G [bV b,.str way,.lst (ws.map .int)]=.ok (.new (.lst ((bJ b way ws).map bV))) []:=by
 have cw:=Aj h0 hw bi
 have cy:=J4 hway
 have sp:0<ws.sum:=by
  cases ws with
  |nil=>exact absurd rfl h0
  |
   cons x l=>
   rw[Q6]
   have:=hw x (Qt ..)
   have:∀l:List Int,(∀w∈l,1<=w)->0<=l.sum:=by
    intro l
    induction l with
    |nil=>intro _;simp
    |cons x l ih=>intro hx;rw[Q6];have:=hx x (Qt ..);have:=ih λw hw=>hx w (Qr _ hw);omega
   have:=this l λx hx=>hw x (Qr _ hx)
   omega
 have cb:bz.G [.tup [fV b.l,fV b.t,fV b.w,fV b.h]]=.ok (.val .non) []:=jw hb
 have sh1:=rW hs.l hs.w (λw z=>by have:=hw w z;omega) sp mW h (by omega)
 have sh2:=rW hs.t hs.h (λw z=>by have:=hw w z;omega) sp mW h (by omega)
 show eZ.G [.tup [fV b.l,fV b.t,fV b.w,fV b.h],.str way,.lst (ws.map .int)]=_
 unfold eZ bJ
 rw[bL]
 unfold ox
 rcases hway with rfl |rfl
 ·rw[if_pos (rfl:("across" : Str)="across")]
  have ln:=kM b.l b.w ws.sum ws 0
  obtain⟨e',⟨s,t,rfl,_,_⟩,lc⟩:=cS (g:=(gtT 2 (bB (gtN 0) (bB (gtN 1) eX))).G) (F:=(cJ (ag (ah 0) (ag (ah 2) (ag (ah 1) (ag (ah 3) ao))))).G) prV (λp=>bV ⟨p.1,b.t,p.2,b.h⟩) (λe=>∃s t,e=[s,t,.sh (fV b.t),.sh (fV b.h)]/\s.pl=true/\t.pl=true) (shL b.l b.w ws.sum 0 ws) [] [.no,.no,.sh (fV b.t),.sh (fV b.h)] ⟨.no,.no,rfl,rfl,rfl⟩ (by
   rintro p hp e ⟨s,t,rfl,hs,ht⟩
   refine⟨[.sh (fV p.1),.sh (fV p.2),.sh (fV b.t),.sh (fV b.h)],.val (bV ⟨p.1,b.t,p.2,b.h⟩),[.sh (fV p.1),.sh (fV p.2),.sh (fV b.t),.sh (fV b.h)],?_,?_,rfl,⟨_,_,rfl,rfl,rfl⟩⟩
   ·simp![prV,hs,ht]
   ·simp![bV]) (by rw[ln,QP];omega)
  rw[QY] at lc
  have ll:((shL b.l b.w ws.sum 0 ws).map λp=>bV ⟨p.1,b.t,p.2,b.h⟩).length<=16777216:=by rw[Qp,ln];omega
  rw[Rg,show (bV ∘ λp:Rat×Rat=>(⟨p.1,b.t,p.2,b.h⟩:Bx))=λp=>bV ⟨p.1,b.t,p.2,b.h⟩ from rfl]
  simp![cb,cy,cw,IL,sh1,lc,ll]
 ·have hne:¬ (("down" : Str)="across"):=by decide
  rw[if_neg hne]
  have ln:=kM b.t b.h ws.sum ws 0
  obtain⟨e',⟨s,t,rfl,_,_⟩,lc⟩:=cS (g:=(gtT 2 (bB (gtN 0) (bB (gtN 1) eX))).G) (F:=(cJ (ag (ah 2) (ag (ah 0) (ag (ah 3) (ag (ah 1) ao))))).G) prV (λp=>bV ⟨b.l,p.1,b.w,p.2⟩) (λe=>∃s t,e=[s,t,.sh (fV b.l),.sh (fV b.w)]/\s.pl=true/\t.pl=true) (shL b.t b.h ws.sum 0 ws) [] [.no,.no,.sh (fV b.l),.sh (fV b.w)] ⟨.no,.no,rfl,rfl,rfl⟩ (by
   rintro p hp e ⟨s,t,rfl,hs,ht⟩
   refine⟨[.sh (fV p.1),.sh (fV p.2),.sh (fV b.l),.sh (fV b.w)],.val (bV ⟨b.l,p.1,b.w,p.2⟩),[.sh (fV p.1),.sh (fV p.2),.sh (fV b.l),.sh (fV b.w)],?_,?_,rfl,⟨_,_,rfl,rfl,rfl⟩⟩
   ·simp![prV,hs,ht]
   ·simp![bV]) (by rw[ln,QP];omega)
  rw[QY] at lc
  have ll:((shL b.t b.h ws.sum 0 ws).map λp=>bV ⟨b.l,p.1,b.w,p.2⟩).length<=16777216:=by rw[Qp,ln];omega
  rw[Rg,show (bV ∘ λp:Rat×Rat=>(⟨b.l,p.1,b.w,p.2⟩:Bx))=λp=>bV ⟨b.l,p.1,b.w,p.2⟩ from rfl]
  simp![cb,cy,cw,IK,sh2,lc,ll]
theorem kg{f:Nat->Val}(v:Val):∀(N:Nat) (st:List AT) (acc:List Nat) (s3:Sl),AT.cntL st<=N->s3.pl=true->(∀k∈AT.lvsL st,lfV (f k)=true)->acc.length+AT.cntL st<=100000->
 ∃(l:List Nat) (s3':Sl),l.Perm (AT.lvsL st)/\(xWh (qTr (ah 2)) cI).G [.sh v,.ow (.lst (acc.map f)),.ow (.lst (st.map (AT.val f))),s3]=.nx [.sh v,.ow (.lst ((acc++l).map f)),.ow (.lst []),s3']
 |
  N,[],acc,s3,_,_,_,_=>⟨[],s3,.nil,by
  rw[kW,Q3]
  simp![QZ,mV,List.isEmpty_nil]⟩
 |
  0,t::ts,acc,s3,h,_,_,_=>by
  rw[AT.cntL] at h
  cases t <;> (rw[AT.cnt] at h;omega)
 |
  N+1,t0::ts0,acc,s3,hN,h3,hf,hl=>by
  obtain⟨st,t,hst⟩:∃st t,t0::ts0=st++[t]:=⟨(t0::ts0).dropLast,(t0::ts0).getLast (by simp),(List.dropLast_concat_getLast (by simp)).symm⟩
  rw[hst] at hN hf hl ⊢
  rw[AT.lvsL_app] at hf
  rw[AT.lvsL_app]
  rw[AT.cntL_app] at hN hl
  have hn0:((st++[t]).map (AT.val f)).isEmpty=false:=by cases st <;> rfl
  have c1:(qTr (ah 2)).G [.sh v,.ow (.lst (acc.map f)),.ow (.lst ((st++[t]).map (AT.val f))),s3]=.ok true [.sh v,.ow (.lst (acc.map f)),.ow (.lst ((st++[t]).map (AT.val f))),s3]:=by
   simp![mV,hn0,Bool.not_false]
  rw[kW,c1]
  show ∃l s3',_/\((cI.G _).loop _)=_
  rw[Q2,Qv,QZ]
  cases t with
  |
   lf k=>
   simp only[AT.lvsL,AT.lvs,Q3,AT.cntL,AT.cnt] at hf hN hl ⊢
   obtain⟨l,s3',q1,q2⟩:=kg (f:=f) v N st (acc++[k]) (.sh (f k)) (by omega) rfl (λj hj=>hf j (by simp [hj])) (by rw[Qw];simp only[QB,QP];omega)
   refine⟨k::l,s3',((q1.cons k).trans (List.perm_append_comm (l₁:=[k]) (l₂:=AT.lvsL st))),?_⟩
   have i1:(bc kits).G [f k,.ty "tuple"]=.val (.bl false):=by
    have:=hf k (by simp)
    generalize f k=a at *
    cases a <;> first |rfl |(cases this;done)
   have al:(acc.map f).length<16777216:=by rw[Qp];omega
   have bb:cI.G [.sh v,.ow (.lst (acc.map f)),.ow (.lst (st.map (AT.val f)++[AT.val f (.lf k)])),s3]=.nx [.sh v,.ow (.lst ((acc++[k]).map f)),.ow (.lst (st.map (AT.val f))),.sh (f k)]:=by
    unfold cI
    rw[AT.val,Q2,Qv,QZ]
    generalize f k=a at *
    simp![o9,h3,i1,al]
   rw[bb,show acc++k::l=acc++[k]++l by simp]
   exact q2
  |
   nd w ts=>
   simp only[AT.lvsL,AT.lvs,Q3,AT.cntL,AT.cnt] at hf hN hl ⊢
   obtain⟨l,s3',q1,q2⟩:=kg (f:=f) v N (st++ts) acc (.sh (AT.val f (.nd w ts))) (by rw[AT.cntL_app];omega) rfl (by rw[AT.lvsL_app];exact hf) (by rw[AT.cntL_app];omega)
   rw[AT.lvsL_app] at q1
   refine⟨l,s3',q1,?_⟩
   have i1:∀xs:List Val,(bc kits).G [.tup xs,.ty "tuple"]=.val (.bl true):=λ_=>rfl
   have le:∀l:List AT,l.length<=AT.cntL l:=by
    intro l
    induction l with
    |nil=>exact Qu _
    |cons t l ih=>rw[AT.cntL,QB];cases t <;> (rw[AT.cnt];omega)
   have ll:(st.map (AT.val f)).length+(ts.map (AT.val f)).length<=16777216:=by
    have:=le st
    have:=le ts
    rw[Qp,Qp]
    omega
   rw[AT.val,AT.vals_map] at q2 ⊢
   rw[Q2] at q2
   have bb:cI.G [.sh v,.ow (.lst (acc.map f)),.ow (.lst (st.map (AT.val f)++[.tup [.str (wy w),.tup (ts.map (AT.val f))]])),s3]=.nx [.sh v,.ow (.lst (acc.map f)),.ow (.lst (st.map (AT.val f)++ts.map (AT.val f))),.sh (.tup [.str (wy w),.tup (ts.map (AT.val f))])]:=by
    unfold cI
    simp![o9,h3,i1,fC,rY,ll]
   rw[bb]
   exact q2
def AO{f:Nat->Val}{t:AT}(hf:∀k∈t.lvs,lfV (f k)=true)(hc:t.cnt<=100000):∃l:List Nat,l.Perm t.lvs/\cX.G [t.val f]=.ok (.new (.lst (l.map f))) []:=by
 have e1:AT.lvsL [t]=t.lvs:=by simp [AT.lvsL]
 have e2:AT.cntL [t]=t.cnt:=by simp [AT.cntL]
 obtain⟨l,s3',q1,q2⟩:=kg (f:=f) (t.val f) (AT.cntL [t]) [t] [] .no (Qu _) rfl (by rw[e1];exact hf) (by rw[e2,QP];omega)
 rw[e1] at q1
 refine⟨l,q1,?_⟩
 rw[Qv,QZ,QZ,QY] at q2
 unfold cX
 rw[bL]
 unfold j7
 generalize t.val f=tv at *
 simp![q2]
def HP{ws:List Int}{l:List Nat}(hl:l.length<=1000)(hi:∀k∈l,k<ws.length):∃s,lcV (gtN 0).G qY.G (pOp bIx (ah 1) (ah 0)).G (l.map λk:Nat=>.int k) [] [.no,.sh (liV ws)]=.ok ((l.map λk=>ws.getD k 0).map .int) [s,.sh (liV ws)]:=by
 obtain⟨e',⟨s,rfl,_⟩,lc⟩:=cS (g:=(gtN 0).G) (F:=(pOp bIx (ah 1) (ah 0)).G) (λk:Nat=>Val.int k) (λk:Nat=>Val.int (ws.getD k 0)) (λe=>∃s:Sl,e=[s,.sh (liV ws)]/\s.pl=true) l [] [.no,.sh (liV ws)] ⟨.no,rfl,rfl⟩ (by
  rintro k hk _ ⟨s,rfl,hs⟩
  have h1:=hi k hk
  have a1:atI (ws.map Val.int) (k:Nat)=some (.int (ws.getD k 0)):=eU (by omega) (by
   rw[QM]
   show (ws[k]?).map _=_
   rw[Q5,QF h1]
   rfl)
  refine⟨[.sh (.int (k:Nat)),.sh (liV ws)],.val (.int (ws.getD k 0)),[.sh (.int (k:Nat)),.sh (liV ws)],?_,?_,rfl,_,rfl,rfl⟩
  ·simp![hs]
  ·unfold liV
   simp![a1]) (by rw[QP];omega)
 exact⟨s,by rw[Rg];exact lc⟩
def vV{ws:List Int}{b:Bx}{w:Bool}{ts:List AT}{n m:Nat}(h:AT.lay ws n m (.nd w ts) b)(hnm:n+n+m<=8000)(hi:∀k∈AT.lvsL ts,k<ws.length)(hl:(AT.lvsL ts).length<=1000)(hc:AT.cntL ts<=100000):dH.G [bV b,liV ws,atV (.nd w ts)]=.ok (.new (.lst ((bJ b (wy w) (ts.map (wtT ws))).map bV))) []:=by
 rw[AT.lay] at h
 obtain⟨h1,h2,h3,h4,h5,h6,_⟩:=h
 have ew:wy w="across" \/ wy w="down":=by cases w;exact .inr rfl;exact .inl rfl
 have pe:=zX h1 h2 ew (ws:=ts.map (wtT ws)) (by simpa using h3) (λx hx=>by obtain⟨t,ht,rfl⟩:=QX.mp hx;exact h5 t ht) h6 hnm (by rw[Qp];exact h4)
 have cle:∀t∈ts,t.cnt<=AT.cntL ts:=λt ht=>AT.cnt_le ht
 have lle:∀t∈ts,t.lvs.length<=(AT.lvsL ts).length:=λt ht=>AT.lvs_le ht
 obtain⟨e',⟨s,rfl,_⟩,lc⟩:=cS (g:=(gtN 0).G) (F:=(pFn pB (ag (pLC (bZ (ax cX (ag (ah 0) ao))) [none,some 1] (by decide) (gtN 0) qY (pOp bIx (ah 1) (ah 0))) ao)).G) atV (λt=>Val.int (wtT ws t)) (λe=>∃s:Sl,e=[s,.sh (liV ws)]/\s.pl=true) ts [] [.no,.sh (liV ws)] ⟨.no,rfl,rfl⟩ (by
  rintro t ht _ ⟨s,rfl,hs⟩
  obtain⟨l,lp,e1⟩:=AO (f:=λk=>.int (k:Nat)) (t:=t) (λ_ _=>rfl) (by have:=cle t ht;omega)
  rw[show AT.val (λk=>Val.int (k:Nat)) t=atV t from rfl] at e1
  obtain⟨s',lc⟩:=HP (ws:=ws) (l:=l) (by rw[lp.length_eq];have:=lle t ht;omega) (λk hk=>hi k (AT.lvsL_mem.mpr ⟨t,ht,lp.mem_iff.mp hk⟩))
  have ll:((l.map λk=>ws.getD k 0).map Val.int).length<=16777216:=by rw[Qp,Qp,lp.length_eq];have:=lle t ht;omega
  have sm:(l.map λk=>ws.getD k 0).sum=wtT ws t:=BG lp
  refine⟨[.sh (atV t),.sh (liV ws)],.val (.int (wtT ws t)),[.sh (atV t),.sh (liV ws)],?_,?_,rfl,_,rfl,rfl⟩
  ·generalize atV t=tv at *
   simp![hs]
  ·rw[<- sm]
   generalize atV t=tv at *
   generalize liV ws=wv at *
   generalize (l.map λk:Nat=>Val.int (k:Nat))=LV at *
   simp![e1,cA,inS,lc,ll]) (by rw[QP];omega)
 have av:atV (.nd w ts)=.tup [.str (wy w),.tup (ts.map atV)]:=by
  unfold atV
  rw[AT.val,AT.vals_map]
 have lm:ts.map (λt=>Val.int (wtT ws t))=(ts.map (wtT ws)).map .int:=by rw[Rg];rfl
 have l2:((ts.map (wtT ws)).map Val.int).length<=16777216:=by rw[Qp,Qp];omega
 rw[QY,lm] at lc
 rw[av]
 generalize (bJ b (wy w) (ts.map (wtT ws))).map bV=PB at *
 generalize (ts.map (wtT ws)).map Val.int=SV at *
 generalize ts.map atV=TV at *
 generalize liV ws=wv at *
 generalize bV b=bv at *
 unfold dH
 rw[bL]
 unfold lH
 simp![cA,inS,lc,l2,pe]
theorem oV{ws:List Int}{n m k:Nat}(rv tv:Val):∀(ts:List AT) (bs:List Bx) (kvs:List (Key×Val)) (s4 s5:Sl),s4.pl=true->s5.pl=true->ts.length=bs.length->(∀(t:AT) (b:Bx) (kvs:List (Key×Val)),t∈ts->AT.lay ws n m t b->kvs.length+t.lvs.length<=100000->(de k).G [bV b,liV ws,atV t,.dct kvs]=.ok (.val .non) [.dct (dN kvs (AT.bx ws t b))])->AT.layL ws n m ts bs->kvs.length+(AT.lvsL ts).length<=100000->
 ∃s4' s5',fg (gtX (gtT 2 (bB (gtN 4) (bB (gtN 5) eX)))).G (jz (de k)).G (List.zipWith (λx y=>Val.tup [x,y]) (ts.map atV) (bs.map bV)) [.sh rv,.sh (liV ws),.sh tv,.mu (.dct kvs),s4,s5]=.nx [.sh rv,.sh (liV ws),.sh tv,.mu (.dct (dN kvs (AT.bxL ws ts bs))),s4',s5']
 | [],bs,kvs,s4,s5,_,_,_,_,_,_=>⟨s4,s5,by cases bs <;> rfl⟩
 |t::ts,[],kvs,s4,s5,_,_,h,_,_,_=>nomatch h
 |
  t::ts,b::bs,kvs,s4,s5,h4,h5,hl,hp,hy,hk=>by
  rw[AT.layL] at hy
  rw[AT.lvsL,Qw] at hk
  have e1:=hp t b kvs (Qt ..) hy.1 (by omega)
  have bi:=vv (AT.bx ws t b) kvs
  have hfst:=(AT.bx_fst ws t b).1
  obtain⟨s4',s5',q⟩:=oV rv tv ts bs (dN kvs (AT.bx ws t b)) (.sh (atV t)) (.sh (bV b)) rfl rfl (by simpa using hl) (λu c kv hu=>hp u c kv (Qr _ hu)) hy.2 (by omega)
  refine⟨s4',s5',?_⟩
  rw[AT.bxL,C5,Qv,Qv,List.zipWith_cons_cons,fb]
  generalize dN kvs (AT.bx ws t b)=kvs1 at *
  generalize atV t=av at *
  generalize bV b=bv at *
  generalize liV ws=wv at *
  have g1:(gtX (gtT 2 (bB (gtN 4) (bB (gtN 5) eX)))).G (.tup [av,bv]) [.sh rv,.sh wv,.sh tv,.mu (.dct kvs),s4,s5]=some [.sh rv,.sh wv,.sh tv,.mu (.dct kvs),.sh av,.sh bv]:=by
   simp![h4,h5]
  have b1:(jz (de k)).G [.sh rv,.sh wv,.sh tv,.mu (.dct kvs),.sh av,.sh bv]=.nx [.sh rv,.sh wv,.sh tv,.mu (.dct kvs1),.sh av,.sh bv]:=by
   unfold jz
   simp![e1]
  rw[g1]
  dsimp only
  rw[b1]
  exact q
def yR(b:Bx)(way:Str)(ws:List Int):(bJ b way ws).length=ws.length:=by
 unfold bJ
 split <;> rw[Qp,kM]
def DZ{ws:List Int}{n m:Nat}(hnm:n+n+m<=8000)(t:AT):∀(k:Nat) (b:Bx) (kvs:List (Key×Val)),t.dep<=k->AT.lay ws n m t b->(∀i∈t.lvs,i<ws.length)->t.lvs.length<=1000->t.cnt<=100000->kvs.length+t.lvs.length<=100000->(de k).G [bV b,liV ws,atV t,.dct kvs]=.ok (.val .non) [.dct (dN kvs (AT.bx ws t b))]:=by
 induction t using AT.ind with
 |
  h1 x=>
  intro k b kvs hd _ _ _ _ hk
  cases k with
  |zero=>simp [AT.dep] at hd
  |
   succ k=>
   have i1:(bc kits).G [.int (x:Nat),.ty "tuple"]=.val (.bl false):=rfl
   have kl:kvs.length<16777216:=by omega
   have av:atV (.lf x)=.int (x:Nat):=rfl
   have pe:dN kvs (AT.bx ws (.lf x) b)=d8 kvs (.inl (x:Nat)) (bV b):=by rw[AT.bx];rfl
   show (PFx.of [false,false,false,true] 6 (gU (de k))).G [bV b,liV ws,atV (.lf x),.dct kvs]=_
   rw[fY,av,pe]
   unfold gU
   generalize bV b=bv at *
   generalize liV ws=wv at *
   simp![i1,Ia,kl]
 |
  h2 w ts ih=>
  intro k b kvs hd hy hi hl hc hk
  cases k with
  |zero=>simp [AT.dep] at hd
  |
   succ k=>
   rw[AT.dep] at hd
   rw[AT.lvs] at hi hl hk
   rw[AT.cnt] at hc
   have hd':=AT.depL_le.mp (show AT.depL ts<=k by omega)
   have pe:=vV hy hnm hi hl (by omega)
   have hy':=hy
   rw[AT.lay] at hy'
   obtain⟨s4,s5,lo⟩:=oV (ws:=ws) (n:=n) (m:=m) (k:=k) (bV b) (atV (.nd w ts)) ts (bJ b (wy w) (ts.map (wtT ws))) kvs .no .no rfl rfl (by rw[yR,Qp]) (λt c kv ht hy2 hk2=>ih t ht k c kv (hd' t ht) hy2 (λi hi2=>hi i (AT.lvsL_mem.mpr ⟨t,ht,hi2⟩)) (by have:=AT.lvs_le ht;omega) (by have:=AT.cnt_le ht;omega) hk2) hy'.2.2.2.2.2.2 hk
   have av:atV (.nd w ts)=.tup [.str (wy w),.tup (ts.map atV)]:=by
    unfold atV
    rw[AT.val,AT.vals_map]
   have bxe:AT.bx ws (.nd w ts) b=AT.bxL ws ts (bJ b (wy w) (ts.map (wtT ws))):=by rw[AT.bx]
   show (PFx.of [false,false,false,true] 6 (gU (de k))).G [bV b,liV ws,atV (.nd w ts),.dct kvs]=_
   rw[fY,bxe]
   unfold gU
   rw[av] at pe lo ⊢
   have i1:∀xs:List Val,(bc kits).G [.tup xs,.ty "tuple"]=.val (.bl true):=λ_=>rfl
   generalize dN kvs (AT.bxL ws ts (bJ b (wy w) (ts.map (wtT ws))))=kvs1 at *
   generalize (bJ b (wy w) (ts.map (wtT ws))).map bV=PB at *
   generalize ts.map atV=TV at *
   generalize bV b=bv at *
   generalize liV ws=wv at *
   simp![i1,fC,pe,lo]
def tS{ws:List Int}{n m:Nat}{b:Bx}{t:AT}(hnm:n+n+m<=8000)(hb:b.Ok)(h0:ws≠[])(hw:∀w∈ws,1<=w)(h40:ws.length<=40)(ho:t.ok=true)(hi:∀k,k∈t.lvs ↔ k<ws.length)(nd:t.lvs.Nodup)(hl:t.lvs.length=ws.length)(hd:t.dep<=42)(hy:AT.lay ws n m t b):dJ.G [bV b,liV ws,atV t]=.ok (.new (.lst ((List.range ws.length).map λk=>bV (bxO (AT.bx ws t b) k)))) []:=by
 have hc:=AT.cnt_lvs t ho
 have cb:=jw hb
 have cw:=Aj h0 hw h40
 have ct:=sF (n:=ws.length) ho (λk hk=>(hi k).mp hk) nd hl (by omega) (by omega)
 have pl:=DZ (ws:=ws) hnm t 42 b [] hd hy (λk hk=>(hi k).mp hk) (by omega) (by omega) (by rw[QP];omega)
 have ll:((ws.map Val.int).length:Nat)=ws.length:=Qp ..
 have rg:jG [.int (ws.length:Nat)]=some (rgV ws.length):=qu (by omega)
 have keys:=AT.bx_keys ws t b
 obtain⟨e',⟨s,rfl,_⟩,lc⟩:=cS (g:=(gtN 0).G) (F:=(pOp zi (ah 1) (ah 0)).G) (λk:Nat=>Val.int k) (λk:Nat=>bV (bxO (AT.bx ws t b) k)) (λe=>∃s:Sl,e=[s,.mu (.dct (dN [] (AT.bx ws t b)))]/\s.pl=true) (List.range ws.length) [] [.no,.mu (.dct (dN [] (AT.bx ws t b)))] ⟨.no,rfl,rfl⟩ (by
  rintro k hk _ ⟨s,rfl,hs⟩
  rw[Rn] at hk
  have lk:=Ot ((wV (k:=k) (AT.bx ws t b) [] (by rw[keys];exact nd)).1 (by rw[keys];exact (hi k).mpr hk))
  generalize dN [] (AT.bx ws t b)=kv at *
  generalize bV (bxO (AT.bx ws t b) k)=bv at *
  refine⟨[.sh (.int (k:Nat)),.mu (.dct kv)],.val bv,[.sh (.int (k:Nat)),.mu (.dct kv)],?_,?_,rfl,_,rfl,rfl⟩
  ·simp![hs]
  ·simp![lk]) (by rw[QP,R7];omega)
 have l2:((List.range ws.length).map λk=>bV (bxO (AT.bx ws t b) k)).length<=16777216:=by simp;omega
 rw[QY] at lc
 rw[show (List.range ws.length).map (λk:Nat=>Val.int k)=rgV ws.length from rfl] at lc
 generalize (List.range ws.length).map (λk=>bV (bxO (AT.bx ws t b) k))=RB at *
 generalize dN [] (AT.bx ws t b)=kv at *
 unfold liV at pl ⊢
 generalize atV t=tv at *
 generalize bV b=bv at *
 unfold dJ
 rw[bL]
 unfold lg
 simp![cb,cw,ll,ct,pl,rg,cA,inS,lc,l2]
def rn{ns:List Int}{k:Int}(hk:0<=k):∃a,cD.G [.kl (ns.map .int),.int k]=.ok (.new (fdV a 0 k)) []:=by
 unfold cD
 rw[bL]
 unfold lE fdV
 by_cases h0:ns.length=0
 ·have e:((((ns.map Val.int).length:Nat):Int)==0)=true:=by rw[SH,Qp];omega
  exact⟨0,by simp![e]⟩
 ·have e:((((ns.map Val.int).length:Nat):Int)==0)=false:=by rw[QN,Qp];omega
  have e1:cB.G (.int k) (.int ((ns.map Val.int).length:Nat))=.val (.int (k.fmod ((ns.map Val.int).length:Nat))):=fW (by rw[Qp];omega)
  have r:=fc (a:=k) (m:=((ns.map Val.int).length:Nat)) (by rw[Qp];omega)
  rw[Qp] at r e1
  have hi:(k.fmod (ns.length:Nat)).toNat<ns.length:=by omega
  have at1:atI (ns.map Val.int) (k.fmod (ns.length:Nat))=some (.int ns[(k.fmod (ns.length:Nat)).toNat]):=eU r.1 (by rw[QM,QF hi];rfl)
  rw[Qp] at e
  exact⟨ns[(k.fmod (ns.length:Nat)).toNat],by simp![Qp,e,e1,at1]⟩
def pow6:fL.G (.int 10) (.int 6)=.val (.int 1000000):=pC ⟨by decide,by decide,by decide⟩
def LP:jG [.int 6]=some [.int 0,.int 1,.int 2,.int 3,.int 4,.int 5]:=qE (i:=6) (by decide) (by decide)
def gQ{a b k far:Int}(h0:0<=far)(hf:far.natAbs<=2000000000000000000000000000000):∃r a' b',bu.G [fdV a b k,.int far]=.ok (.val (.int r)) [fdV a' b' k]/\-far<=r/\r<=far:=by
 obtain⟨r1,a1,b1,e1,_,_⟩:=aM (a:=a) (b:=b) (k:=k) (m:=1000000) (by decide) (sm8 (by decide))
 obtain⟨r2,a2,b2,e2,_,_⟩:=aM (a:=a1) (b:=b1) (k:=k) (m:=1000000) (by decide) (sm8 (by decide))
 obtain⟨r3,a3,b3,e3,_,_⟩:=aM (a:=a2) (b:=b2) (k:=k) (m:=1000000) (by decide) (sm8 (by decide))
 obtain⟨r4,a4,b4,e4,_,_⟩:=aM (a:=a3) (b:=b3) (k:=k) (m:=1000000) (by decide) (sm8 (by decide))
 obtain⟨r5,a5,b5,e5,_,_⟩:=aM (a:=a4) (b:=b4) (k:=k) (m:=1000000) (by decide) (sm8 (by decide))
 obtain⟨r6,a6,b6,e6,_,_⟩:=aM (a:=a5) (b:=b5) (k:=k) (m:=1000000) (by decide) (sm8 (by decide))
 have c6:∀x:Int,dF.G (.int x) (.int 1000000)=.val (.int (x*1000000)):=λx=>fD (CMulA.right (by decide) (by decide))
 have c2:dF.G (.int 2) (.int far)=.val (.int (2*far)):=fD (CMulA.left (by decide) (by decide))
 have c3:∀x:Int,cB.G (.int x) (.int (2*far+1))=.val (.int (x.fmod (2*far+1))):=λx=>fW (by omega)
 have fr:=fc (a:=(((((0*1000000+r1)*1000000+r2)*1000000+r3)*1000000+r4)*1000000+r5)*1000000+r6) (m:=2*far+1) (by omega)
 refine⟨((((((0*1000000+r1)*1000000+r2)*1000000+r3)*1000000+r4)*1000000+r5)*1000000+r6).fmod (2*far+1)-far,a6,b6,?_,by omega,by omega⟩
 unfold bu
 rw[bL]
 unfold ke jE
 unfold fdV at *
 simp![LP,fb,pow6,c6,e1,e2,e3,e4,e5,e6,c2,c3,Int.reduceMul]
theorem tH(x y:Val):∀(n one bd:Nat),bd<=n->(xWh (qOf (pOp bGt (ah 3) (aq 0))) gu).G [.sh x,.sh y,.sh (.int (one:Nat)),.sh (.int (bd:Nat))]=.nx [.sh x,.sh y,.sh (.int (Nat.gcd one bd:Nat)),.sh (.int 0)]
 |
  n,one,0,_=>by
  rw[kW]
  simp![Nat.gcd_zero_right,Int.natCast_zero,Int.lt_irrefl]
 |0,one,bd+1,hl=>absurd hl (by omega)
 |
  n+1,one,bd+1,hl=>by
  rw[kW]
  have e:decide ((0:Int)<((bd+1:Nat):Int))=true:=QQ (by omega)
  have e1:cB.G (.int (one:Nat)) (.int ((bd+1:Nat):Int))=.val (.int (((one:Nat):Int).fmod ((bd+1:Nat):Int))):=fW (by omega)
  have e2:((one:Nat):Int).fmod ((bd+1:Nat):Int)=((one % (bd+1):Nat):Int):=by
   rw[SM _ (by omega)];rfl
  have ih:=tH x y n (bd+1) (one % (bd+1)) (by have:=Nat.mod_lt one (show bd+1>0 by omega);omega)
  rw[Fr.euc] at ih
  rw[e2] at e1
  have bb:gu.G [.sh x,.sh y,.sh (.int (one:Nat)),.sh (.int ((bd+1:Nat):Int))]=.nx [.sh x,.sh y,.sh (.int ((bd+1:Nat):Int)),.sh (.int ((one % (bd+1):Nat):Int))]:=by
   unfold gu
   simp![e1]
  simp![e,bb,ih]
def kK{a b:Int}(hb:b≠0)(hs:Sm 8000 b):cn.G [.int a,.int b]=.ok (.val (fV ((a:Rat)/(b:Rat)))) []:=by
 unfold cn
 rw[bL]
 unfold mX
 have lo:=tH (.int a) (.int b) b.natAbs a.natAbs b.natAbs (Qu _)
 rw[show Nat.gcd a.natAbs b.natAbs=Int.gcd a b from rfl] at lo
 have c:∀x,CDivB x (Fr.dv a b):=λx=>CDivB.of (Fr.dv_ne hb) (hs.of_le (by
  rw[Fr.dv_abs]
  exact Nat.le_of_dvd (by omega) (Nat.gcd_dvd_right a.natAbs b.natAbs)))
 have k1:=k8 (c a)
 have k2:=k8 (c b)
 have hh:=pQ (a:=a) hb
 have im:Val.tup [.int (a.fdiv (Fr.dv a b)),.int (b.fdiv (Fr.dv a b))]=fV ((a:Rat)/(b:Rat)):=by
  unfold fV
  rw[<- hh.1,<- hh.2]
  rfl
 by_cases hn:b<0
 ·have hd:Fr.dv a b=0-((Int.gcd a b:Nat):Int):=by unfold Fr.dv;rw[if_pos hn];omega
  rw[hd] at k1 k2 im
  simp![ji,lo,QQ hn,k1,k2,im]
 ·have hd:Fr.dv a b=((Int.gcd a b:Nat):Int):=by unfold Fr.dv;rw[if_neg hn]
  rw[hd] at k1 k2 im
  simp![ji,lo,QG hn,k1,k2,im]
def p30:fL.G (.int 10) (.int 30)=.val (.int 1000000000000000000000000000000):=pC ⟨by decide,by decide,by decide⟩
def rmQ(k:Int)(r:SR3):Prop:=∃b a c,Good b/\oG [true] r=.ok (.val (bV b)) [fdV a c k]
def rmI(k way:Int)(e:E3):Prop:=∃b x a c,Good b/\x.pl=true/\e=[.mu (fdV a c k),.sh (.int way),.sh (fV b.l),.sh (fV b.t),.sh (fV b.w),.sh (fV b.h),x]
def GX(a c k:Int):∃b a' c',Good b/\eJ.G [fdV a c k]=.ok (.val (bV b)) [fdV a' c' k]:=by
 unfold eJ
 rw[x9 rfl]
 show rmQ k (iW.G [.mu (fdV a c k),.no,.no,.no,.no,.no,.no])
 unfold iW
 obtain⟨way,a1,c1,e1,hw0,hw1⟩:=aM (a:=a) (b:=c) (k:=k) (m:=6) (by decide) (sm8 (by decide))
 refine aT (λe=>e=[.mu (fdV a1 c1 k),.sh (.int way),.no,.no,.no,.no,.no]) ⟨_,by simp![e1],rfl⟩ ?_
 rintro _ rfl
 obtain⟨l,a2,c2,e2,hl0,hl1⟩:=aM (a:=a1) (b:=c1) (k:=k) (m:=19) (by decide) (sm8 (by decide))
 obtain⟨t,a3,c3,e3,ht0,ht1⟩:=aM (a:=a2) (b:=c2) (k:=k) (m:=19) (by decide) (sm8 (by decide))
 refine aT (λe=>e=[.mu (fdV a3 c3 k),.sh (.int way),.sh (fV ((l-9:Int):Rat)),.sh (fV ((t-9:Int):Rat)),.no,.no,.no]) ⟨_,by simp![e2,e3,iV],rfl⟩ ?_
 rintro _ rfl
 obtain⟨w,a4,c4,e4,hww0,hww1⟩:=aM (a:=a3) (b:=c3) (k:=k) (m:=12) (by decide) (sm8 (by decide))
 obtain⟨hh,a5,c5,e5,hh0,hh1⟩:=aM (a:=a4) (b:=c4) (k:=k) (m:=12) (by decide) (sm8 (by decide))
 refine aT (rmI k way) ⟨[.mu (fdV a5 c5 k),.sh (.int way),.sh (fV ((l-9:Int):Rat)),.sh (fV ((t-9:Int):Rat)),.sh (fV ((1+w:Int):Rat)),.sh (fV ((1+hh:Int):Rat)),.no],by simp![e4,e5,iV],⟨_,_,_,_⟩,.no,a5,c5,⟨⟨gR (by omega),gR (by omega)⟩,⟨iA (by omega),iA (by omega),iA (by omega),iA (by omega)⟩⟩,rfl,rfl⟩ ?_
 rintro _ ⟨b,x,a,c,gb,hx,rfl⟩
 refine aT (rmI k way) ?_ ?_
 ·by_cases hw:way=1
  ·subst hw
   exact⟨[.mu (fdV a c k),.sh (.int 1),.sh (fV b.l),.sh (fV b.t),.sh (fV b.w),.sh (fV b.w),x],by simp![lY],⟨b.l,b.t,b.w,b.w⟩,x,a,c,⟨⟨gb.ok.w,gb.ok.w⟩,⟨gb.sz.l,gb.sz.t,gb.sz.w,gb.sz.w⟩⟩,hx,rfl⟩
  ·exact⟨_,by simp![QN.mpr hw],b,x,a,c,gb,hx,rfl⟩
 rintro _ ⟨b,x,a,c,gb,hx,rfl⟩
 refine aT (rmI k way) ?_ ?_
 ·by_cases hw:way=2
  ·subst hw
   obtain⟨r,a1,c1,e1,h0,h1⟩:=aM (a:=a) (b:=c) (k:=k) (m:=99) (by decide) (sm8 (by decide))
   exact⟨[.mu (fdV a1 c1 k),.sh (.int 2),.sh (fV b.l),.sh (fV b.t),.sh (fV ((1+r:Int):Rat)),.sh (fV b.h),x],by simp![e1,iV],⟨b.l,b.t,((1+r:Int):Rat),b.h⟩,x,a1,c1,⟨⟨gR (by omega),gb.ok.h⟩,⟨gb.sz.l,gb.sz.t,iA (by omega),gb.sz.h⟩⟩,hx,rfl⟩
  ·exact⟨_,by simp![QN.mpr hw],b,x,a,c,gb,hx,rfl⟩
 rintro _ ⟨b,x,a,c,gb,hx,rfl⟩
 refine aT (rmI k way) ?_ ?_
 ·by_cases hw:way=3
  ·subst hw
   obtain⟨r,a1,c1,e1,h0,h1⟩:=aM (a:=a) (b:=c) (k:=k) (m:=99) (by decide) (sm8 (by decide))
   exact⟨[.mu (fdV a1 c1 k),.sh (.int 3),.sh (fV b.l),.sh (fV b.t),.sh (fV b.w),.sh (fV ((1+r:Int):Rat)),x],by simp![e1,iV],⟨b.l,b.t,b.w,((1+r:Int):Rat)⟩,x,a1,c1,⟨⟨gb.ok.w,gR (by omega)⟩,⟨gb.sz.l,gb.sz.t,gb.sz.w,iA (by omega)⟩⟩,hx,rfl⟩
  ·exact⟨_,by simp![QN.mpr hw],b,x,a,c,gb,hx,rfl⟩
 rintro _ ⟨b,x,a,c,gb,hx,rfl⟩
 refine aT (rmI k way) ?_ ?_
 ·by_cases hw:way=4
  ·subst hw
   obtain⟨r1,a1,c1,e1,h10,h11⟩:=aM (a:=a) (b:=c) (k:=k) (m:=199) (by decide) (sm8 (by decide))
   obtain⟨r2,a2,c2,e2,h20,h21⟩:=aM (a:=a1) (b:=c1) (k:=k) (m:=30) (by decide) (sm8 (by decide))
   obtain⟨r3,a3,c3,e3,h30,h31⟩:=aM (a:=a2) (b:=c2) (k:=k) (m:=9) (by decide) (sm8 (by decide))
   obtain⟨r4,a4,c4,e4,h40,h41⟩:=aM (a:=a3) (b:=c3) (k:=k) (m:=99) (by decide) (sm8 (by decide))
   obtain⟨r5,a5,c5,e5,h50,h51⟩:=aM (a:=a4) (b:=c4) (k:=k) (m:=30) (by decide) (sm8 (by decide))
   obtain⟨r6,a6,c6,e6,h60,h61⟩:=aM (a:=a5) (b:=c5) (k:=k) (m:=99) (by decide) (sm8 (by decide))
   have l1:=kK (a:=r1-99) (b:=1+r2) (by omega) (m7 (by omega))
   have l2:=kK (a:=r3) (b:=7) (by omega) (m7 (by omega))
   have l3:=kK (a:=1+r4) (b:=1+r5) (by omega) (m7 (by omega))
   have l4:=kK (a:=1+r6) (b:=11) (by omega) (m7 (by omega))
   exact⟨[.mu (fdV a6 c6 k),.sh (.int 4),.sh (fV (((r1-99:Int):Rat)/((1+r2:Int):Rat))),.sh (fV (((r3:Int):Rat)/((7:Int):Rat))),.sh (fV (((1+r4:Int):Rat)/((1+r5:Int):Rat))),.sh (fV (((1+r6:Int):Rat)/((11:Int):Rat))),x],by simp![e1,e2,e3,e4,e5,e6,l1,l2,l3,l4],⟨_,_,_,_⟩,x,a6,c6,⟨⟨ib (by omega) (by omega),ib (by omega) (by omega)⟩,⟨jf (by omega) (by omega) (by omega),jf (by omega) (by omega) (by omega),jf (by omega) (by omega) (by omega),jf (by omega) (by omega) (by omega)⟩⟩,hx,rfl⟩
  ·exact⟨_,by simp![QN.mpr hw],b,x,a,c,gb,hx,rfl⟩
 rintro _ ⟨b,x,a,c,gb,hx,rfl⟩
 refine aT (rmI k way) ?_ ?_
 ·by_cases hw:way=5
  ·subst hw
   obtain⟨r1,a1,c1,e1,h10,h11⟩:=gQ (a:=a) (b:=c) (k:=k) (far:=999999999999999999999999999999) (by decide) (by decide)
   obtain⟨r2,a2,c2,e2,h20,h21⟩:=gQ (a:=a1) (b:=c1) (k:=k) (far:=999999999999999999999999999998) (by decide) (by decide)
   obtain⟨r3,a3,c3,e3,h30,h31⟩:=gQ (a:=a2) (b:=c2) (k:=k) (far:=999999999999999999999999999999) (by decide) (by decide)
   obtain⟨r4,a4,c4,e4,h40,h41⟩:=gQ (a:=a3) (b:=c3) (k:=k) (far:=999999999999999999999999999998) (by decide) (by decide)
   obtain⟨r5,a5,c5,e5,h50,h51⟩:=gQ (a:=a4) (b:=c4) (k:=k) (far:=999999999999999999999999999998) (by decide) (by decide)
   have n2:=ji r2
   have n4:=ji r4
   have n5:=ji r5
   have l1:=kK (a:=r1) (b:=1+((r2.natAbs:Nat):Int)) (by omega) (m7 (by omega))
   have l4:=kK (a:=1+((r5.natAbs:Nat):Int)) (b:=999999999999999999999999999999) (by omega) (m7 (by omega))
   exact⟨[.mu (fdV a5 c5 k),.sh (.int 5),.sh (fV (((r1:Int):Rat)/((1+((r2.natAbs:Nat):Int):Int):Rat))),.sh (fV ((r3:Int):Rat)),.sh (fV ((1+((r4.natAbs:Nat):Int):Int):Rat)),.sh (fV (((1+((r5.natAbs:Nat):Int):Int):Rat)/((999999999999999999999999999999:Int):Rat))),.sh (.int 999999999999999999999999999999)],by simp![hx,p30,e1,e2,e3,e4,e5,n2,n4,n5,l1,l4,iV],⟨_,_,_,_⟩,_,a5,c5,⟨⟨gR (by omega),ib (by omega) (by omega)⟩,⟨jf (by omega) (by omega) (by omega),iA (by omega),iA (by omega),jf (by omega) (by omega) (by omega)⟩⟩,rfl,rfl⟩
  ·exact⟨_,by simp![QN.mpr hw],b,x,a,c,gb,hx,rfl⟩
 rintro _ ⟨b,x,a,c,gb,hx,rfl⟩
 refine⟨b,a,c,gb,?_⟩
 simp![ya,bV]
def p29:fL.G (.int 10) (.int 29)=.val (.int 100000000000000000000000000000):=pC ⟨by decide,by decide,by decide⟩
def EX{ns:List Int}{at_ most many more sty k:Int}{acc:List Int}{s9:Sl}(h9:s9.pl=true)(hk:0<=k/\k<=40)(hs:0<=sty/\sty<6)(a c q:Int):
 ∃w a' c',1<=w/\w<=8388608/\(aQ false 9 (pOp bIx (dg (ag (aq 1) (ag (pOp aY (aq 1) (ax ay (ag (ah 3) (ag (aq 9) ao)))) (ag (pOp uq (aq 1) (pOp cB (ah 8) (aq 24))) (ag (pOp aY (aq 1) (ax ay (ag (ah 3) (ag (aq 9) ao)))) (ag (aq 1) (ag (pOp aY (aq 1) (ax ay (ag (ah 3) (ag (aq 3) ao)))) ao))))))) (ah 6))).G [.sh (.kl (ns.map .int)),.sh (.int at_),.sh (.int most),.ow (fdV a c q),.sh (.int many),.sh (.int more),.sh (.int sty),.ow (.lst (acc.map .int)),.sh (.int k),s9]=.nx [.sh (.kl (ns.map .int)),.sh (.int at_),.sh (.int most),.ow (fdV a' c' q),.sh (.int many),.sh (.int more),.sh (.int sty),.ow (.lst (acc.map .int)),.sh (.int k),.sh (.int w)]:=by
 obtain⟨r1,a1,c1,e1,l1,u1⟩:=aM (a:=a) (b:=c) (k:=q) (m:=9) (by decide) (sm8 (by decide))
 obtain⟨r2,a2,c2,e2,l2,u2⟩:=aM (a:=a1) (b:=c1) (k:=q) (m:=9) (by decide) (sm8 (by decide))
 obtain⟨r3,a3,c3,e3,l3,u3⟩:=aM (a:=a2) (b:=c2) (k:=q) (m:=3) (by decide) (sm8 (by decide))
 have fm:=fc (a:=k) (m:=24) (by decide)
 have km:=fW (i:=k) (j:=24) (by decide)
 have sh:∃z,1<=z/\z<=8388608/\uq.G (.int 1) (.int (k.fmod 24))=.val (.int z):=by
  generalize k.fmod 24=r at *
  have:r=0\/r=1\/r=2\/r=3\/r=4\/r=5\/r=6\/r=7\/r=8\/r=9\/r=10\/r=11\/r=12\/r=13\/r=14\/r=15\/r=16\/r=17\/r=18\/r=19\/r=20\/r=21\/r=22\/r=23:=by omega
  rcases this with rfl |rfl |rfl |rfl |rfl |rfl |rfl |rfl |rfl |rfl |rfl |rfl |rfl |rfl |rfl |rfl |rfl |rfl |rfl |rfl |rfl |rfl |rfl |rfl <;> exact⟨_,by decide,by decide,Nm ⟨by decide,by decide,by decide⟩⟩
 obtain⟨z,z1,z2,z3⟩:=sh
 have hc:sty=0\/sty=1\/sty=2\/sty=3\/sty=4\/sty=5:=by omega
 have at6:∃w,1<=w/\w<=8388608/\atI [Val.int 1,.int (1+r1),.int z,.int (1+r2),.int 1,.int (1+r3)] sty=some (.int w):=by
  rcases hc with rfl |rfl |rfl |rfl |rfl |rfl
  ·exact⟨1,by decide,by decide,rfl⟩
  ·exact⟨1+r1,by omega,by omega,rfl⟩
  ·exact⟨z,z1,z2,rfl⟩
  ·exact⟨1+r2,by omega,by omega,rfl⟩
  ·exact⟨1,by decide,by decide,rfl⟩
  ·exact⟨1+r3,by omega,by omega,rfl⟩
 obtain⟨w,w1,w2,w3⟩:=at6
 refine⟨w,a3,c3,w1,w2,?_⟩
 simp![e1,e2,e3,km,z3,w3,h9]
def wtI(ns:List Int)(at_ most many more sty k:Int)(acc:List Int)(e:E3):Prop:=∃w a c q,1<=w/\w<=1000000000000000000000000000000/\(sty<3->w<=8388608)/\e=[.sh (.kl (ns.map .int)),.sh (.int at_),.sh (.int most),.ow (fdV a c q),.sh (.int many),.sh (.int more),.sh (.int sty),.ow (.lst (acc.map .int)),.sh (.int k),.sh (.int w)]
def wtQ(ns:List Int)(at_ most many more sty k:Int)(acc:List Int)(r:SR3):Prop:=∃w s3,1<=w/\w<=1000000000000000000000000000000/\(sty<3->w<=8388608)/\s3.pl=true/\r=.nx [.sh (.kl (ns.map .int)),.sh (.int at_),.sh (.int most),s3,.sh (.int many),.sh (.int more),.sh (.int sty),.ow (.lst ((acc++[w]).map .int)),.sh (.int k),.sh (.int w)]
def E4{ns:List Int}{at_ most many more sty k:Int}{acc:List Int}{s3 s9:Sl}(h3:s3.pl=true)(h9:s9.pl=true)(ha:0<=at_)(hk:0<=k/\k<=40)(hs:0<=sty/\sty<6)(hl:acc.length<=1000):
 wtQ ns at_ most many more sty k acc (eu.G [.sh (.kl (ns.map .int)),.sh (.int at_),.sh (.int most),s3,.sh (.int many),.sh (.int more),.sh (.int sty),.ow (.lst (acc.map .int)),.sh (.int k),s9]):=by
 unfold eu
 obtain⟨f,ef⟩:=rn (ns:=ns) (k:=at_+1+k) (by omega)
 refine aT (λe=>e=[.sh (.kl (ns.map .int)),.sh (.int at_),.sh (.int most),.ow (fdV f 0 (at_+1+k)),.sh (.int many),.sh (.int more),.sh (.int sty),.ow (.lst (acc.map .int)),.sh (.int k),s9]) ⟨_,by simp![ef,h3],rfl⟩ ?_
 rintro _ rfl
 refine aT (wtI ns at_ most many more sty k acc) ?_ ?_
 ·obtain⟨w,a,c,w1,w2,e⟩:=EX (ns:=ns) (at_:=at_) (most:=most) (many:=many) (more:=more) (acc:=acc) h9 hk hs f 0 (at_+1+k)
  exact⟨_,e,w,a,c,_,w1,by omega,λ_=>w2,rfl⟩
 rintro _ ⟨w,a,c,q,w1,w2,w3,rfl⟩
 refine aT (wtI ns at_ most many more sty k acc) ?_ ?_
 ·by_cases h:sty=3
  ·subst h
   obtain⟨r1,a1,c1,e1,l1,u1⟩:=aM (a:=a) (b:=c) (k:=q) (m:=4) (by decide) (sm8 (by decide))
   obtain⟨r2,a2,c2,e2,l2,u2⟩:=aM (a:=a1) (b:=c1) (k:=q) (m:=100) (by decide) (sm8 (by decide))
   by_cases hr:r1=0
   ·subst hr
    exact⟨[.sh (.kl (ns.map .int)),.sh (.int at_),.sh (.int most),.ow (fdV a2 c2 q),.sh (.int many),.sh (.int more),.sh (.int 3),.ow (.lst (acc.map .int)),.sh (.int k),.sh (.int (100000000000000000000000000000+r2))],by simp![e1,e2,p29],_,_,_,_,by omega,by omega,λz=>absurd z (by decide),rfl⟩
   ·exact⟨[.sh (.kl (ns.map .int)),.sh (.int at_),.sh (.int most),.ow (fdV a1 c1 q),.sh (.int many),.sh (.int more),.sh (.int 3),.ow (.lst (acc.map .int)),.sh (.int k),.sh (.int w)],by simp![e1,QN.mpr hr],_,_,_,_,w1,w2,w3,rfl⟩
  ·exact⟨_,by simp![QN.mpr h],w,a,c,q,w1,w2,w3,rfl⟩
 rintro _ ⟨w,a,c,q,w1,w2,w3,rfl⟩
 refine aT (wtI ns at_ most many more sty k acc) ?_ ?_
 ·by_cases h:sty=4
  ·subst h
   obtain⟨r1,a1,c1,e1,l1,u1⟩:=gQ (a:=a) (b:=c) (k:=q) (far:=999999999999999999999999999998) (by decide) (by decide)
   exact⟨[.sh (.kl (ns.map .int)),.sh (.int at_),.sh (.int most),.ow (fdV a1 c1 q),.sh (.int many),.sh (.int more),.sh (.int 4),.ow (.lst (acc.map .int)),.sh (.int k),.sh (.int (1+if r1<0 then -r1 else r1))],by simp![e1,p30],_,_,_,_,by split <;> omega,by split <;> omega,λz=>absurd z (by decide),rfl⟩
  ·exact⟨_,by simp![QN.mpr h],w,a,c,q,w1,w2,w3,rfl⟩
 rintro _ ⟨w,a,c,q,w1,w2,w3,rfl⟩
 have ll:(acc.map Val.int).length<16777216:=by rw[Qp];omega
 refine⟨w,.ow (fdV a c q),w1,w2,w3,rfl,?_⟩
 rw[Q2,Qv,QZ]
 simp![ll]
theorem wu{ns:List Int}{at_ most many more sty:Int}(ha:0<=at_)(hs:0<=sty/\sty<6):∀(ks:List Nat) (acc:List Int) (s3 s8 s9:Sl),s3.pl=true->s8.pl=true->s9.pl=true->(∀k∈ks,k<=40)->acc.length+ks.length<=1000->
 ∃(ws:List Int) (s3' s8' s9':Sl),ws.length=ks.length/\(∀w∈ws,1<=w/\w<=1000000000000000000000000000000/\(sty<3->w<=8388608))/\fg (gtN 8).G eu.G (ks.map λk:Nat=>Val.int (k:Nat)) [.sh (.kl (ns.map .int)),.sh (.int at_),.sh (.int most),s3,.sh (.int many),.sh (.int more),.sh (.int sty),.ow (.lst (acc.map .int)),s8,s9]=.nx [.sh (.kl (ns.map .int)),.sh (.int at_),.sh (.int most),s3',.sh (.int many),.sh (.int more),.sh (.int sty),.ow (.lst ((acc++ws).map .int)),s8',s9']
 | [],acc,s3,s8,s9,_,_,_,_,_=>⟨[],s3,s8,s9,rfl,(λ_ h=>nomatch h),by rw[QZ,qK,Q3]⟩
 |
  k::ks,acc,s3,s8,s9,h3,h8,h9,hk,hl=>by
  rw[QB] at hl
  obtain⟨w,t3,w1,w2,w3,p3,e⟩:=E4 (ns:=ns) (at_:=at_) (most:=most) (many:=many) (more:=more) (sty:=sty) (k:=(k:Nat)) (acc:=acc) h3 h9 ha ⟨by omega,by have:=hk k (Qt ..);omega⟩ hs (by omega)
  obtain⟨ws,s3',s8',s9',q1,q2,q3⟩:=wu (ns:=ns) (most:=most) (many:=many) (more:=more) ha hs ks (acc++[w]) t3 (.sh (.int (k:Nat))) (.sh (.int w)) p3 rfl rfl (λj hj=>hk j (Qr _ hj)) (by rw[Qw];show acc.length+1+_<=_;omega)
  refine⟨w::ws,s3',s8',s9',by rw[QB,QB,q1],λx hx=>?_,?_⟩
  ·rcases QD.mp hx with rfl |hx
   ·exact⟨w1,w2,w3⟩
   ·exact q2 x hx
  ·have g1:(gtN 8).G (.int (k:Nat)) [.sh (.kl (ns.map .int)),.sh (.int at_),.sh (.int most),s3,.sh (.int many),.sh (.int more),.sh (.int sty),.ow (.lst (acc.map .int)),s8,s9]=some [.sh (.kl (ns.map .int)),.sh (.int at_),.sh (.int most),s3,.sh (.int many),.sh (.int more),.sh (.int sty),.ow (.lst (acc.map .int)),.sh (.int (k:Nat)),s9]:=by
    simp![h8]
   rw[Qv,fb,g1]
   dsimp only
   rw[e]
   show fg _ _ _ _=_
   rw[q3,Rq]
   rfl
def div8{x:Int}:g0.G (.int x) (.int 8)=.val (.int (x.fdiv 8)):=k8 (CDivB.of (by decide) (sm8 (by decide)))
def wsQ(most:Int)(r:SR3):Prop:=∃ws:List Int,1<=ws.length/\(ws.length:Int)<=max most 7/\(∀w∈ws,1<=w/\w<=1000000000000000000000000000000)/\(9<ws.length->∀w∈ws,w<=8388608)/\oG [false,false,false] r=.ok (.new (liV ws)) []
def pU{ns:List Int}{at_ most:Int}(ha:0<=at_)(hm:1<=most/\most<=40):∃ws:List Int,1<=ws.length/\(ws.length:Int)<=max most 7/\(∀w∈ws,1<=w/\w<=1000000000000000000000000000000)/\(9<ws.length->∀w∈ws,w<=8388608)/\cR.G [.kl (ns.map .int),.int at_,.int most]=.ok (.new (liV ws)) []:=by
 unfold cR
 rw[x9 rfl]
 show wsQ most (fX.G [.sh (.kl (ns.map .int)),.sh (.int at_),.sh (.int most),.no,.no,.no,.no,.no,.no,.no])
 unfold fX
 obtain⟨f,ef⟩:=rn (ns:=ns) (k:=at_) ha
 refine aT (λe=>e=[.sh (.kl (ns.map .int)),.sh (.int at_),.sh (.int most),.ow (fdV f 0 at_),.no,.no,.no,.no,.no,.no]) ⟨_,by simp![ef],rfl⟩ ?_
 rintro _ rfl
 obtain⟨r1,a1,c1,e1,l1,u1⟩:=aM (a:=f) (b:=0) (k:=at_) (m:=if (7:Int)<most then 7 else most) (by split <;> omega) (sm8 (by split <;> omega))
 refine aT (λe=>e=[.sh (.kl (ns.map .int)),.sh (.int at_),.sh (.int most),.ow (fdV a1 c1 at_),.sh (.int (1+r1)),.no,.no,.no,.no,.no]) ⟨_,by simp![e1],rfl⟩ ?_
 rintro _ rfl
 have b1:1+r1<=7:=by split at u1 <;> omega
 obtain⟨r2,a2,c2,e2,l2,u2⟩:=aM (a:=a1) (b:=c1) (k:=at_) (m:=6) (by decide) (sm8 (by decide))
 refine aT (λe=>e=[.sh (.kl (ns.map .int)),.sh (.int at_),.sh (.int most),.ow (fdV a2 c2 at_),.sh (.int (1+r1)),.sh (.int r2),.no,.no,.no,.no]) ⟨_,by simp![e2],rfl⟩ ?_
 rintro _ rfl
 refine aT (λe=>∃many:Int,1<=many/\many<=max most 7/\e=[.sh (.kl (ns.map .int)),.sh (.int at_),.sh (.int most),.ow (fdV a2 c2 at_),.sh (.int many),.sh (.int r2),.no,.no,.no,.no]) ?_ ?_
 ·have mm:=fD (i:=1+r1) (j:=most) (CMulA.of (sm8 (m:=1+r1) (by omega)) (sm8 (m:=most) (by omega)) (by decide) (by decide))
  by_cases h:r2<2
  ·have dl:((1+r1)*most).fdiv 8<=most:=by
    rw[Int.fdiv_eq_ediv_of_nonneg _ (by decide)]
    have:(1+r1)*most<=7*most:=Int.mul_le_mul_of_nonneg_right b1 (by omega)
    omega
   have hc:r2=0\/r2=1:=by omega
   rcases hc with rfl |rfl
   ·exact⟨_,by simp![mm,div8],most,by omega,by omega,rfl⟩
   ·exact⟨_,by simp![mm,div8],(if ((1+r1)*most).fdiv 8>1 then ((1+r1)*most).fdiv 8 else 1),by split <;> omega,by split <;> omega,rfl⟩
  ·exact⟨_,by simp![QG h],1+r1,by omega,by omega,rfl⟩
 rintro _ ⟨many,m1,m2,rfl⟩
 obtain⟨r3,a3,c3,e3,l3,u3⟩:=aM (a:=a2) (b:=c2) (k:=at_) (m:=6) (by decide) (sm8 (by decide))
 refine aT (λe=>e=[.sh (.kl (ns.map .int)),.sh (.int at_),.sh (.int most),.ow (fdV a3 c3 at_),.sh (.int many),.sh (.int r2),.sh (.int r3),.no,.no,.no]) ⟨_,by simp![e3],rfl⟩ ?_
 rintro _ rfl
 refine aT (λe=>∃sty:Int,0<=sty/\sty<6/\(9<many->sty<3)/\e=[.sh (.kl (ns.map .int)),.sh (.int at_),.sh (.int most),.ow (fdV a3 c3 at_),.sh (.int many),.sh (.int r2),.sh (.int sty),.no,.no,.no]) ?_ ?_
 ·have km:=fW (i:=r3) (j:=3) (by decide)
  have fm:=fc (a:=r3) (m:=3) (by decide)
  by_cases h:9<many
  ·exact⟨_,by simp![QQ h,km],r3.fmod 3,by omega,by omega,λ_=>fm.2,rfl⟩
  ·exact⟨_,by simp![QG h],r3,by omega,by omega,λz=>absurd z h,rfl⟩
 rintro _ ⟨sty,t0,t1,t2,rfl⟩
 refine aT (λe=>e=[.sh (.kl (ns.map .int)),.sh (.int at_),.sh (.int most),.ow (fdV a3 c3 at_),.sh (.int many),.sh (.int r2),.sh (.int sty),.ow (.lst []),.no,.no]) ⟨_,by simp![QP],rfl⟩ ?_
 rintro _ rfl
 have rg:=qE (i:=many) (by omega) (by omega)
 obtain⟨ws,s3,s8,s9,q1,q2,q3⟩:=wu (ns:=ns) (at_:=at_) (most:=most) (many:=many) (more:=r2) (sty:=sty) ha ⟨t0,t1⟩ (List.range many.toNat) [] (.ow (fdV a3 c3 at_)) .no .no rfl rfl rfl (λk hk=>by have:=Rn.mp hk;omega) (by rw[QP,R7];omega)
 rw[R7] at q1
 rw[QY,QZ] at q3
 unfold rgV at rg
 refine⟨ws,by omega,by omega,λw hw=>⟨(q2 w hw).1,(q2 w hw).2.1⟩,λh w hw=>(q2 w hw).2.2 (t2 (by omega)),?_⟩
 unfold liV
 simp![rg,q3]
 rfl
theorem oC:∀(n:Nat) (l:List Nat),l.length=n->(∀i,i<n->i∈l)->l.Perm (List.range n)
 |0,l,h,_=>by rw[Tc.mp h];exact List.Perm.refl _
 |
  n+1,l,h,hm=>by
  have h1:=hm n (by omega)
  have p:=List.perm_cons_erase h1
  have q:=oC n (l.erase n) (by rw[List.length_erase_of_mem h1];omega) λi hi=>(List.mem_erase_of_ne (by omega)).mpr (hm i (by omega))
  rw[List.range_succ]
  exact p.trans ((q.cons n).trans (List.perm_append_singleton n _).symm)
def AR{t:AT}{o:List Nat}{n:Nat}(T:TOk t o)(ho:∀i,i∈o ↔ i<n)(hl:o.length=n):t.lvs.Nodup:=
 (oC n t.lvs (by rw[T.len,hl]) λi hi=>(T.mem i).mpr ((ho i).mpr hi)).nodup_iff.mpr List.nodup_range
def oP{q:Rat}{k D:Nat}(hs:Sz 101 q)(hD:D=q.den*k)(hk:0<k):∃z:Int,q=(z:Rat)/((D:Int):Rat)/\z.natAbs<=2^101*D/\(0<q->0<z/\z<=((2^101:Nat):Int)*(D:Int)):=by
 have dp:=q.den_pos
 have hn:q.num.natAbs<2^101:=hs.1
 have hz:(q.num*(k:Int)).natAbs<=2^101*D:=by
  rw[Rm,Int.natAbs_natCast,hD]
  exact Ro (by omega) (Nat.le_mul_of_pos_left _ dp)
 refine⟨q.num*(k:Int),?_,hz,λh=>⟨Int.mul_pos (xa.mpr h) (by omega),?_⟩⟩
 ·have:=p8 (y:=q.num) (W:=(k:Int)) dp (by omega)
  rw[Q_,<- hD] at this
  rw[<- this]
  exact kD q
 ·rw[<- R0]
  generalize q.num*(k:Int)=z at *
  generalize 2^101*D=y at *
  omega
def LX{b:Bx}(g:Good b):∃D,D<2^404/\Rp D (2^101) (2^101) b:=by
 have dl:=b.l.den_pos
 have dt:=b.t.den_pos
 have dw:=b.w.den_pos
 have dh:=b.h.den_pos
 have sz:∀q:Rat,Sz 101 q->q.den<=2^101:=λq h=>by have:(q.den:Int).natAbs<2^101:=h.2;omega
 have k1:=RK (RK dt dw) dh
 have k2:=RK (RK dl dw) dh
 have k3:=RK (RK dl dt) dh
 have k4:=RK (RK dl dt) dw
 refine⟨b.l.den*(b.t.den*b.w.den*b.h.den),?_,RK dl k1,?_,?_,?_,?_⟩
 ·have a1:b.l.den<2^101:=by have:(b.l.den:Int).natAbs<2^101:=g.sz.l.2;omega
  have a2:=Ro (Ro (sz _ g.sz.t) (sz _ g.sz.w)) (sz _ g.sz.h)
  calc b.l.den*(b.t.den*b.w.den*b.h.den)<=b.l.den*(2^101*2^101*2^101):=Sf _ a2
   _<2^101*(2^101*2^101*2^101):=Nat.mul_lt_mul_of_pos_right a1 (by decide)
   _=2^404:=by rw[<- SQ,<- SQ,<- SQ]
 ·obtain⟨z,h1,h2,_⟩:=oP (D:=b.l.den*(b.t.den*b.w.den*b.h.den)) g.sz.l rfl k1
  exact⟨z,h1,h2⟩
 ·obtain⟨z,h1,h2,_⟩:=oP (D:=b.l.den*(b.t.den*b.w.den*b.h.den)) (k:=b.l.den*b.w.den*b.h.den) g.sz.t (by ac_rfl) k2
  exact⟨z,h1,h2⟩
 ·obtain⟨z,h1,_,h2⟩:=oP (D:=b.l.den*(b.t.den*b.w.den*b.h.den)) (k:=b.l.den*b.t.den*b.h.den) g.sz.w (by ac_rfl) k3
  exact⟨z,h1,h2 g.ok.w⟩
 ·obtain⟨z,h1,_,h2⟩:=oP (D:=b.l.den*(b.t.den*b.w.den*b.h.den)) (k:=b.l.den*b.t.den*b.w.den) g.sz.h (by ac_rfl) k4
  exact⟨z,h1,h2 g.ok.h⟩
structure WOk(ws:List Int):Prop where
 pos:1<=ws.length
 len:ws.length<=40
 wt:∀w∈ws,1<=w/\w<=1000000000000000000000000000000
 few:9<ws.length->∀w∈ws,w<=8388608
theorem ug{ws:List Int}{M:Int}:∀{l:List Nat},(∀k∈l,ws.getD k 0<=M)->wtA ws l<=(l.length:Int)*M
 | [],_=>by simp [wtA]
 |
  k::l,h=>by
  have h1:=h k (Qt ..)
  have h2:=ug (l:=l) λj hj=>h j (Qr _ hj)
  unfold wtA at h2 ⊢
  rw[Qv,Q6,QB,Int.natCast_add,Int.add_mul]
  omega
def Ee{ws:List Int}{t:AT}{o:List Nat}{b:Bx}(g:Good b)(W:WOk ws)(T:TOk t o)(ho:∀i,i∈o ↔ i<ws.length)(hl:o.length=ws.length):∃m,m<=104/\AT.lay ws 2000 m t b:=by
 obtain⟨D,hD,R⟩:=LX g
 have hlt:∀k∈t.lvs,k<ws.length:=λk hk=>(ho k).mp ((T.mem k).mp hk)
 have hin:∀k∈t.lvs,ws.getD k 0∈ws:=λk hk=>by
  rw[Q5,QF (hlt k hk)]
  exact SA _
 have hw:∀k∈t.lvs,1<=ws.getD k 0:=λk hk=>(W.wt _ (hin k hk)).1
 have hd:=T.dep
 have len:=T.len
 have wl:=W.len
 have key:∀m,m*t.dep<=1218->m<=104->wtT ws t<2^m->∃m,m<=104/\AT.lay ws 2000 m t b:=λm h1 h2 h3=>by
  refine⟨m,h2,KP t b D (2^101) R (Qu _) (by decide) ?_ T.ok hw h3 (by omega)⟩
  have a1:2^101+t.dep*2^101<=2^107:=by
   have h1:=TF (2^101) (show t.dep<=40 by omega)
   have h2:2^107=64*2^101:=by decide
   rw[h2]
   generalize 2^101=X at *
   omega
  have a2:2^(m*t.dep)<=2^1218:=SF (by decide) h1
  have a3:=Ro a1 (Ro (Tz hD) a2)
  refine Sn a3 ?_
  rw[<- SQ,<- SQ]
  exact Nat.pow_lt_pow_right (by decide) (by decide)
 by_cases h9:9<ws.length
 ·refine key 29 (by omega) (by decide) ?_
  have:=ug (M:=8388608) λk hk=>W.few h9 _ (hin k hk)
  unfold wtT
  have:(2:Int)^29=536870912:=by decide
  omega
 ·refine key 104 (by omega) (by decide) ?_
  have:=ug (M:=1000000000000000000000000000000) λk hk=>(W.wt _ (hin k hk)).2
  unfold wtT
  have:(2:Int)^104=20282409603651670423947251286016:=by decide
  omega
def MB(l:List Nat)(f:Nat->Bx):dA (.lst (l.map λk=>bV (f k))) (.lst (l.map λk=>bV (f k)))=some true:=by
 have:wfV 60 (.lst (l.map λk=>bV (f k)))=true:=by
  show cW 59 (l.map λk=>bV (f k))=true
  exact nE λv hv=>by obtain⟨w,_,rfl⟩:=QX.mp hv;exact MM _ 57
 rw[Ei this this,qR 60 _ this]
def NC(v w:Bool):dA (.str (wy v)) (.str (wy w))=some (v==w):=by
 rw[eq_str (za v) (za w)]
 cases v <;> cases w <;> decide +kernel
def pJ(f:Nat->Val)(w:Bool)(ts:List AT):AT.val f (.nd w ts)=.tup [.str (wy w),.tup (ts.map (AT.val f))]:=by rw[AT.val,AT.vals_map]
def Dn(w:Bool):cZ.G [.str (wy w)]=.ok (.val (.str (wy (!w)))) []:=by
 have e:=NC w true
 unfold cZ
 rw[bL]
 unfold kh
 rw[show wy true="across" from rfl] at e
 cases w with
 |
  true=>
  rw[show (true==true)=true from rfl] at e
  simp![e]
  rfl
 |
  false=>
  rw[show (false==true)=false from rfl] at e
  generalize wy false=x at *
  simp![e]
  rfl
def rJ{b:Bx}(hb:b.Ok):eE.G [bV b]=.ok (.val (bV b.trn)) []:=by
 have c:=jw hb
 unfold eE
 rw[bL]
 unfold oq
 have e:bV b=.tup [fV b.l,fV b.t,fV b.w,fV b.h]:=rfl
 have e2:bV b.trn=.tup [fV b.t,fV b.l,fV b.h,fV b.w]:=rfl
 rw[e2]
 rw[e] at c ⊢
 generalize fV b.l=l at *
 generalize fV b.t=t at *
 generalize fV b.w=w at *
 generalize fV b.h=h at *
 simp![c]
def g9{f:Nat->Val}(t:AT):∀m,t.dep<=m->t.ok=true->t.lvs.length<=1000->(∀k∈t.lvs,lfV (f k)=true)->(a0 m).G [t.val f]=.ok (.val (t.trn.val f)) []:=by
 induction t using AT.ind with
 |
  h1 k=>
  intro m hm _ _ hf
  have i1:=Av (hf k (by rw[AT.lvs];exact Qt ..))
  cases m with
  |zero=>simp [AT.dep] at hm
  |
   succ m=>
   show (PFx.of [false] 3 (cQ (a0 m))).G [AT.val f (.lf k)]=_
   rw[fY]
   unfold cQ
   rw[AT.trn,AT.val]
   generalize f k=fk at *
   simp![i1]
 |
  h2 w ts ih=>
  intro m hm ho hl hf
  cases m with
  |zero=>simp [AT.dep] at hm
  |
   succ m=>
   rw[AT.dep] at hm
   have hd:=AT.depL_le.mp (show AT.depL ts<=m by omega)
   rw[AT.ok,Qy] at ho
   have hk:=AT.okL_mem.mp ho.2
   rw[AT.lvs] at hl hf
   have lt:ts.length<=1000:=by
    have:=gX (f:=AT.lvs) (l:=ts) λt ht=>je (hk t ht)
    rw[<- AT.lvsL_flat] at this
    omega
   obtain⟨e',⟨s,rfl,_⟩,lc⟩:=cS (g:=(gtN 0).G) (F:=(ax (a0 m).fn (ag (ah 0) ao)).G) (AT.val f) (λt=>AT.val f t.trn) (λe=>∃s:Sl,e=[s]/\s.pl=true) ts [] [.no] ⟨.no,rfl,rfl⟩ (by
    rintro t ht _ ⟨s,rfl,hs⟩
    have:=ih t ht m (hd t ht) (hk t ht) (by have:=AT.lvs_le ht;omega) λk hk'=>hf k (AT.lvsL_mem.mpr ⟨t,ht,hk'⟩)
    generalize AT.val f t=tv at *
    generalize AT.val f t.trn=tw at *
    refine⟨[.sh tv],.val tw,[.sh tv],?_,?_,rfl,_,rfl,rfl⟩
    ·simp![hs]
    ·simp![this]) (by rw[QP];omega)
   have l3:(ts.map λt=>AT.val f t.trn).length<=16777216:=by rw[Qp];omega
   have ow:=Dn w
   rw[QY] at lc
   show (PFx.of [false] 3 (cQ (a0 m))).G [AT.val f (.nd w ts)]=_
   rw[fY]
   unfold cQ
   rw[AT.trn,pJ,pJ,AT.trnL_map,Rg]
   show _=R3F.ok (.val (.tup [.str (wy (!w)),.tup (ts.map λt=>AT.val f t.trn)])) []
   generalize ts.map (λt=>AT.val f t.trn)=QV at *
   generalize ts.map (AT.val f)=TV at *
   generalize wy (!w)=y at *
   generalize wy w=x at *
   simp![kN,ow,cA,inS,lc,l3]
def Ld(w:Bool):lkD ([(.inr "across",.str "down"),(.inr "down",.str "across")]:List (Key×Val)) (.inr (wy w))=some (.str (wy (!w))):=by
 cases w <;> rfl
def vA(t:AT):∀m,t.dep<=m->t.ok=true->t.lvs.length<=1000->(bM m).G [atV t]=.ok (.val (atV t.trn)) []:=by
 induction t using AT.ind with
 |
  h1 k=>
  intro m hm _ _
  have i1:(bc kits).G [.int (k:Nat),.ty "tuple"]=.val (.bl false):=rfl
  have av:atV (.lf k)=.int (k:Nat):=rfl
  cases m with
  |zero=>simp [AT.dep] at hm
  |
   succ m=>
   show (PFx.of [false] 1 (dQ (bM m))).G [atV (.lf k)]=_
   rw[fY]
   unfold dQ
   rw[AT.trn,av]
   simp![i1]
 |
  h2 w ts ih=>
  intro m hm ho hl
  cases m with
  |zero=>simp [AT.dep] at hm
  |
   succ m=>
   rw[AT.dep] at hm
   have hd:=AT.depL_le.mp (show AT.depL ts<=m by omega)
   rw[AT.ok,Qy] at ho
   have hk:=AT.okL_mem.mp ho.2
   rw[AT.lvs] at hl
   have lt:ts.length<=1000:=by
    have:=gX (f:=AT.lvs) (l:=ts) λt ht=>je (hk t ht)
    rw[<- AT.lvsL_flat] at this
    omega
   obtain⟨e',⟨s,rfl,_⟩,lc⟩:=cS (g:=(gtN 0).G) (F:=(ax (bM m).fn (ag (ah 0) ao)).G) atV (λt=>atV t.trn) (λe=>∃s:Sl,e=[s]/\s.pl=true) ts [] [.no] ⟨.no,rfl,rfl⟩ (by
    rintro t ht _ ⟨s,rfl,hs⟩
    have:=ih t ht m (hd t ht) (hk t ht) (by have:=AT.lvs_le ht;omega)
    generalize atV t=tv at *
    generalize atV t.trn=tw at *
    refine⟨[.sh tv],.val tw,[.sh tv],?_,?_,rfl,_,rfl,rfl⟩
    ·simp![hs]
    ·simp![this]) (by rw[QP];omega)
   have l3:(ts.map λt=>atV t.trn).length<=16777216:=by rw[Qp];omega
   have ix:=Ld w
   have av:atV (.nd w ts)=.tup [.str (wy w),.tup (ts.map atV)]:=pJ _ w ts
   have ap:atV (.nd (!w) (AT.trnL ts))=.tup [.str (wy (!w)),.tup (ts.map λt=>atV t.trn)]:=by rw[AT.trnL_map];exact (pJ _ (!w) _).trans (by rw[Rg];rfl)
   rw[QY] at lc
   show (PFx.of [false] 1 (dQ (bM m))).G [atV (.nd w ts)]=_
   rw[fY]
   unfold dQ
   rw[AT.trn,av,ap]
   generalize ts.map (λt=>atV t.trn)=QV at *
   generalize ts.map atV=TV at *
   generalize wy (!w)=y at *
   generalize wy w=x at *
   simp![kN,fC,List.zip_cons_cons,List.zip_nil_right,ix,cA,inS,lc,l3]
def vP{f:Nat->Val}{ns:List Val}(t:AT):∀m,t.dep<=m->t.ok=true->t.lvs.length<=1000->(∀k∈t.lvs,ns[k]?=some (f k))->(bG m).G [t.val λk=>.int (k:Nat),.lst ns]=.ok (.val (t.val f)) []:=by
 induction t using AT.ind with
 |
  h1 k=>
  intro m hm _ _ hn
  have h1:=hn k (by rw[AT.lvs];exact Qt ..)
  cases m with
  |zero=>simp [AT.dep] at hm
  |
   succ m=>
   have i1:(bc kits).G [.int (k:Nat),.ty "tuple"]=.val (.bl false):=rfl
   have a1:atI ns (k:Nat)=some (f k):=eU (by omega) h1
   show (PFx.of [false,false] 2 (dO (bG m))).G [AT.val _ (.lf k),.lst ns]=_
   rw[fY]
   unfold dO
   rw[AT.val,AT.val]
   simp![i1,a1]
 |
  h2 w ts ih=>
  intro m hm ho hl hn
  cases m with
  |zero=>simp [AT.dep] at hm
  |
   succ m=>
   rw[AT.dep] at hm
   have hd:=AT.depL_le.mp (show AT.depL ts<=m by omega)
   rw[AT.ok,Qy] at ho
   have hk:=AT.okL_mem.mp ho.2
   rw[AT.lvs] at hl hn
   have hl2:=hl
   rw[AT.lvsL_flat] at hl
   have hll:∀t∈ts,t.lvs.length<=1000:=λt ht=>by
    have:=Tj (Sx (Rb (f:=AT.lvs) ht))
    omega
   have ll:ts.length<=1000:=by
    have:ts.length<=((ts.map AT.lvs).flatten).length:=gX λt ht=>je (hk t ht)
    omega
   show (PFx.of [false,false] 2 (dO (bG m))).G [AT.val _ (.nd w ts),.lst ns]=_
   rw[fY]
   unfold dO
   rw[AT.val,AT.val,AT.vals_map,AT.vals_map]
   obtain⟨e',⟨s,rfl,_⟩,lc⟩:=cS (g:=(gtN 0).G) (F:=(ax (bG m).fn (ag (ah 0) (ag (ah 1) ao))).G) (AT.val λk=>.int (k:Nat)) (AT.val f) (λe=>∃s:Sl,e=[s,.sh (.lst ns)]/\s.pl=true) ts [] [.no,.sh (.lst ns)] ⟨.no,rfl,rfl⟩ (by
    rintro t ht _ ⟨s,rfl,hs⟩
    have:=ih t ht m (hd t ht) (hk t ht) (hll t ht) λk hk'=>hn k (AT.lvsL_mem.mpr ⟨t,ht,hk'⟩)
    generalize AT.val (λk=>Val.int (k:Nat)) t=tv at *
    generalize AT.val f t=tw at *
    refine⟨[.sh tv,.sh (.lst ns)],.val tw,[.sh tv,.sh (.lst ns)],?_,?_,rfl,_,rfl,rfl⟩
    ·simp![hs]
    ·simp![this]) (by rw[QP];omega)
   have l2:(ts.map (AT.val f)).length<=16777216:=by rw[Qp];omega
   rw[QY] at lc
   simp![kN,cA,inS,lc,l2]
theorem rX{f:Nat->Val}{x m:Nat}(v fx:Val):∀(ts:List AT) (i:Nat) (s2 s3 s4:Sl),s2.pl=true->s3.pl=true->s4.pl=true->(∀t∈ts,(bE m).G [t.val f,fx]=.ok (match t.pth x with |some q=>.new (ntV q) |none=>.val .non) []/\∀q,t.pth x=some q->q.length<1000)->
 ∃s2' s3' s4',fg (gtX (gtT 2 (bB (gtN 2) (bB (gtN 3) eX)))).G (eB (bE m)).G (nW i (ts.map (AT.val f))) [.sh v,.sh (fx),s2,s3,s4]=match AT.pthL x i ts with |some q=>.rt (.new (ntV q)) [.sh v,.sh (fx),s2',s3',s4'] |none=>.nx [.sh v,.sh (fx),s2',s3',s4']
 | [],i,s2,s3,s4,h2,h3,h4,_=>⟨s2,s3,s4,rfl⟩
 |
  t::ts,i,s2,s3,s4,h2,h3,h4,ht=>by
  obtain⟨e1,e2⟩:=ht t (Qt ..)
  rw[Qv,nW,fb]
  have g1:(gtX (gtT 2 (bB (gtN 2) (bB (gtN 3) eX)))).G (.tup [.int (i:Nat),t.val f]) [.sh v,.sh (fx),s2,s3,s4]=some [.sh v,.sh (fx),.sh (.int (i:Nat)),.sh (t.val f),s4]:=by
   simp![h2,h3]
  rw[g1,AT.pthL]
  dsimp only
  generalize t.val f=tv at *
  cases hp:t.pth x with
  |
   some q=>
   rw[hp] at e1
   dsimp only at e1
   have hl:=e2 q hp
   have ap:aY.G (.lst [.int (i:Nat)]) (ntV q)=.new (ntV (i::q)):=by
    unfold ntV
    rw[Bk,if_pos (by rw[Qp];simp only[QB,QP];omega)]
    rfl
   have b1:(eB (bE m)).G [.sh v,.sh fx,.sh (.int (i:Nat)),.sh tv,s4]=.rt (.new (ntV (i::q))) [.sh v,.sh fx,.sh (.int (i:Nat)),.sh tv,.sh (ntV q)]:=by
    unfold eB
    have isn:yc.G (ntV q) .non=.val (.bl true):=rfl
    generalize hq:ntV q=qv at *
    simp![e1,h4,isn,ap]
   rw[b1]
   exact⟨_,_,_,rfl⟩
  |
   none=>
   rw[hp] at e1
   dsimp only at e1
   have isn:yc.G .non .non=.val (.bl false):=rfl
   have b1:(eB (bE m)).G [.sh v,.sh fx,.sh (.int (i:Nat)),.sh tv,s4]=.nx [.sh v,.sh fx,.sh (.int (i:Nat)),.sh tv,.sh .non]:=by
    unfold eB
    simp![e1,h4,isn]
   rw[b1]
   exact rX v fx ts (i+1) (.sh (.int (i:Nat))) (.sh tv) (.sh .non) rfl rfl rfl λu hu=>ht u (Qr _ hu)
def xj{f:Nat->Val}{fx:Val}{x:Nat}(hx:lfV fx=true)(t:AT):∀m,t.dep<=m->m<=1000->EqA f fx x t.lvs->(bE m).G [t.val f,fx]=.ok (match t.pth x with |some q=>.new (ntV q) |none=>.val .non) []:=by
 induction t using AT.ind with
 |
  h1 k=>
  intro m hm _ hE
  obtain⟨h1,h2⟩:=hE k (by rw[AT.lvs];exact Qt ..)
  cases m with
  |zero=>simp [AT.dep] at hm
  |
   succ m=>
   have i1:=Av h1
   have i2:=JQ hx
   show (PFx.of [false,false] 5 (eY (bE m))).G [AT.val f (.lf k),fx]=_
   rw[fY]
   unfold eY
   rw[AT.val,AT.pth]
   generalize f k=fk at *
   by_cases hk:k=x
   ·rw[QQ hk] at h2
    rw[if_pos hk]
    unfold ntV
    simp![i1,i2,h2,QZ]
   ·rw[QG hk] at h2
    rw[if_neg hk]
    simp![i1,i2,h2]
 |
  h2 w ts ih=>
  intro m hm h1000 hE
  cases m with
  |zero=>simp [AT.dep] at hm
  |
   succ m=>
   rw[AT.dep] at hm
   have hd:=AT.depL_le.mp (show AT.depL ts<=m by omega)
   rw[AT.lvs] at hE
   obtain⟨s2,s3,s4,lo⟩:=rX (f:=f) (x:=x) (m:=m) (.tup [.str (wy w),.tup (ts.map (AT.val f))]) fx ts 0 .no .no .no rfl rfl rfl λt ht=>⟨ih t ht m (hd t ht) (by omega) λk hk=>hE k (AT.lvsL_mem.mpr ⟨t,ht,hk⟩),λq hq=>by have:=EU t q hq;have:=hd t ht;omega⟩
   show (PFx.of [false,false] 5 (eY (bE m))).G [AT.val f (.nd w ts),fx]=_
   rw[fY]
   unfold eY
   rw[AT.val,AT.pth,AT.vals_map]
   cases hp:AT.pthL x 0 ts with
   |
    some q=>
    rw[hp] at lo
    dsimp only at lo ⊢
    generalize ntV q=nq at *
    simp![kN,lo]
   |
    none=>
    rw[hp] at lo
    dsimp only at lo
    simp![kN,lo]
theorem u4{f:Nat->Val}(fx fy:Val)(u:Str):∀(p q:List Nat) (t:AT),AT.rel p q t=some u->∃w ts i j p' q',i≠j/\u=wd w (decide (i<j))/\(xWh (qOf (pOp bEq (pOp bIx (ah 3) (aq 0)) (pOp bIx (ah 4) (aq 0)))) eQ).G [.sh (t.val f),.sh fx,.sh fy,.sh (ntV p),.sh (ntV q),.no]=.nx [.sh (AT.val f (.nd w ts)),.sh fx,.sh fy,.sh (ntV (i::p')),.sh (ntV (j::q')),.no]
 | [],q,t,h=>by rw[AT.rel] at h;cases h;rintro i p j q w ts z;cases z
 |i::p,[],t,h=>by rw[AT.rel] at h;cases h;rintro i p j q w ts _ z;cases z
 |i::p,j::q,.lf k,h=>by rw[AT.rel] at h;cases h;rintro i p j q w ts _ _ z;cases z
 |
  i::p,j::q,.nd w ts,h=>by
  rw[AT.rel] at h
  rw[kW]
  by_cases hij:i=j
  ·subst hij
   rw[if_pos rfl] at h
   cases ht:ts[i]? with
   |none=>rw[ht] at h;cases h
   |
    some t=>
    rw[ht] at h
    obtain⟨w',ts',i',j',p',q',h1,h2,h3⟩:=u4 fx fy u p q t h
    refine⟨w',ts',i',j',p',q',h1,h2,?_⟩
    have c1:(qOf (pOp bEq (pOp bIx (ah 3) (aq 0)) (pOp bIx (ah 4) (aq 0)))).G [.sh (AT.val f (.nd w ts)),.sh fx,.sh fy,.sh (ntV (i::p)),.sh (ntV (i::q)),.no]=.ok true [.sh (AT.val f (.nd w ts)),.sh fx,.sh fy,.sh (ntV (i::p)),.sh (ntV (i::q)),.no]:=by
     unfold ntV
     simp![Qv,fC,SI]
    have at1:atI (ts.map (AT.val f)) (i:Nat)=some (t.val f):=eU (by omega) (by rw[QM];show (ts[i]?).map _=_;rw[ht];rfl)
    have b1:eQ.G [.sh (AT.val f (.nd w ts)),.sh fx,.sh fy,.sh (ntV (i::p)),.sh (ntV (i::q)),.no]=.nx [.sh (t.val f),.sh fx,.sh fy,.sh (ntV p),.sh (ntV q),.no]:=by
     unfold eQ ntV
     rw[AT.val,AT.vals_map]
     generalize t.val f=tv at *
     simp![Qv,fC,at1,pL,Ex]
    rw[c1]
    show ((eQ.G _).loop _)=_
    rw[b1]
    exact h3
  ·rw[if_neg hij] at h
   refine⟨w,ts,i,j,p,q,hij,(QK h).symm,?_⟩
   have c1:(qOf (pOp bEq (pOp bIx (ah 3) (aq 0)) (pOp bIx (ah 4) (aq 0)))).G [.sh (AT.val f (.nd w ts)),.sh fx,.sh fy,.sh (ntV (i::p)),.sh (ntV (j::q)),.no]=.ok false [.sh (AT.val f (.nd w ts)),.sh fx,.sh fy,.sh (ntV (i::p)),.sh (ntV (j::q)),.no]:=by
    unfold ntV
    simp![Qv,fC,zK,QG hij]
   rw[c1]
   rfl
def nL{f:Nat->Val}{fx fy:Val}{x y:Nat}{t:AT}{p q:List Nat}{u:Str}(hx:lfV fx=true)(hy:lfV fy=true)(hd:t.dep<=42)(ex:EqA f fx x t.lvs)(ey:EqA f fy y t.lvs)(hp:t.pth x=some p)(hq:t.pth y=some q)(hpq:p≠q)(hr:AT.rel p q t=some u):dM.G [t.val f,fx,fy]=.ok (.val (.str u)) []:=by
 have e1:=xj hx t 42 hd (by omega) ex
 have e2:=xj hy t 42 hd (by omega) ey
 rw[hp] at e1
 rw[hq] at e2
 dsimp only at e1 e2
 have ne:=L7 hpq
 obtain⟨w,ts,i,j,p',q',hij,hu,lo⟩:=u4 (f:=f) fx fy u p q t hr
 have is1:bIs.G (ntV p) .non=.val (.bl false):=rfl
 have is2:bIs.G (ntV q) .non=.val (.bl false):=rfl
 have n1:ntV (i::p')=.lst ((i::p').map λi:Nat=>.int i):=rfl
 have n2:ntV (j::q')=.lst ((j::q').map λi:Nat=>.int i):=rfl
 have tr:∀b,mV (.bl b)=some b:=λ_=>rfl
 have es:dA (.str (wy w)) (.str "across")=some w:=by
  cases w
  ·exact eq_str (x:="down") (y:="across") (by decide) (by decide) |>.trans (by decide)
  ·exact eq_str (x:="across") (y:="across") (by decide) (by decide) |>.trans (by decide)
 rw[AT.val] at lo
 rw[n1,n2] at lo
 generalize AT.vals f ts=tvs at *
 generalize ntV p=np at *
 generalize ntV q=nq at *
 generalize t.val f=tv at *
 unfold dM
 rw[bL]
 unfold kT
 cases w with
 |
  true=>
  cases hb:decide (i<j) with
  |
   true=>
   rw[hb] at hu
   subst hu
   simp![e1,e2,is1,is2,ne,lo,Qv,fC,pD,hb,es,tr,wd]
  |
   false=>
   rw[hb] at hu
   subst hu
   simp![e1,e2,is1,is2,ne,lo,Qv,fC,pD,hb,es,tr,wd]
 |
  false=>
  cases hb:decide (i<j) with
  |
   true=>
   rw[hb] at hu
   subst hu
   simp![e1,e2,is1,is2,ne,lo,Qv,fC,pD,hb,es,tr,wd]
  |
   false=>
   rw[hb] at hu
   subst hu
   simp![e1,e2,is1,is2,ne,lo,Qv,fC,pD,hb,es,tr,wd]
noncomputable def zyx:Str:="abcdefghijklmnopqrstuvwxyz"
def nmC(j:Nat):Nat:=zyx.cps.toList.getD (j % 26) 0
def nmS(j:Nat):Str:=Txt.mul ⟨#[nmC j]⟩ (1+((j/26:Nat):Int))
def Oe:((List.range 40).all λj=>PyData.strOk (nmS j))=true:=by decide
def GL:zyx.cps.toList.length=26:=by decide
def KI:zyx.length<=16777216:=by decide
def BZ{m:Nat}(hm:m<=40):∃s,lcV (gtN 0).G qY.G (pOp nG (pOp rD (bH "abcdefghijklmnopqrstuvwxyz") (pOp cB (ah 0) (aq 26))) (pOp aY (aq 1) (pOp g0 (ah 0) (aq 26)))).G (rgV m) [] [.no]=.ok ((List.range m).map λj=>.str (nmS j)) [s]:=by
 obtain⟨e',⟨s,rfl,_⟩,lc⟩:=cS (g:=(gtN 0).G) (F:=(pOp nG (pOp rD (bH "abcdefghijklmnopqrstuvwxyz") (pOp cB (ah 0) (aq 26))) (pOp aY (aq 1) (pOp g0 (ah 0) (aq 26)))).G) (λi:Nat=>Val.int (i:Nat)) (λj=>Val.str (nmS j)) (λe=>∃s:Sl,e=[s]/\s.pl=true) (List.range m) [] [.no] ⟨.no,rfl,rfl⟩ (by
  rintro j hj _ ⟨s,rfl,hs⟩
  rw[Rn] at hj
  have m1:cB.G (.int (j:Nat)) (.int 26)=.val (.int ((j % 26:Nat):Int)):=by
   rw[fW (by decide)]
   exact Ru (λx=>Bv.val (.int x)) (HE j 26)
  have d1:g0.G (.int (j:Nat)) (.int 26)=.val (.int ((j/26:Nat):Int)):=by
   rw[k8 (CDivB.of (by decide) (sm8 (by decide)))]
   exact Ru (λx=>Bv.val (.int x)) (Hz j 26)
  have x1:rD.G (.str "abcdefghijklmnopqrstuvwxyz") (.int ((j % 26:Nat):Int))=.val (.str ⟨#[nmC j]⟩):=Mh KI (eU (by omega) (by
   have h1:j % 26<zyx.cps.toList.length:=by rw[GL];omega
   show zyx.cps.toList[((j % 26:Nat):Int).toNat]?=_
   rw[Q_,QF h1]
   unfold nmC
   rw[Q5,QF h1]
   rfl))
  have y1:nG.G (.str ⟨#[nmC j]⟩) (.int (1+((j/26:Nat):Int)))=.val (.str (nmS j)):=Km ⟨by show (1:Nat)<=16;decide,by omega,by omega⟩
  refine⟨[.sh (.int (j:Nat))],.val (.str (nmS j)),[.sh (.int (j:Nat))],?_,?_,rfl,_,rfl,rfl⟩
  ·simp![hs]
  ·generalize hx:nmC j=c at *
   generalize nmS j=y at *
   simp![m1,d1,x1,y1]) (by rw[QP,R7];omega)
 exact⟨s,lc⟩
def p28:fL.G (.int 10) (.int 28)=.val (.int (10^28)):=pC ⟨by decide,by decide,by decide⟩
def Ge{m:Nat}{c:Int}(hm:m<=40):∃s,lcV (gtN 0).G qY.G (pOp aY (pOp dF (ah 0) (pOp fL (aq 10) (aq 28))) (aq c)).G (rgV m) [] [.no]=.ok ((List.range m).map λj=>.int ((j:Nat)*10^28+c)) [s]:=by
 obtain⟨e',⟨s,rfl,_⟩,lc⟩:=cS (g:=(gtN 0).G) (F:=(pOp aY (pOp dF (ah 0) (pOp fL (aq 10) (aq 28))) (aq c)).G) (λi:Nat=>Val.int (i:Nat)) (λj:Nat=>Val.int ((j:Nat)*10^28+c)) (λe=>∃s:Sl,e=[s]/\s.pl=true) (List.range m) [] [.no] ⟨.no,rfl,rfl⟩ (by
  rintro j hj _ ⟨s,rfl,hs⟩
  rw[Rn] at hj
  have m1:dF.G (.int (j:Nat)) (.int (10^28))=.val (.int ((j:Nat)*10^28)):=fD (CMulA.left (by omega) (by omega))
  refine⟨[.sh (.int (j:Nat))],.val (.int ((j:Nat)*10^28+c)),[.sh (.int (j:Nat))],?_,?_,rfl,_,rfl,rfl⟩
  ·simp![hs]
  ·simp![p28,m1]) (by rw[QP,R7];omega)
 exact⟨s,lc⟩
def NOk(m:Nat)(ns:List Val):Prop:=m<=ns.length/\∀v∈ns,lfV v=true/\wfV 0 v=true
def GG{m:Nat}{x y:Str}(hm:m<=40)(hx:PyData.strOk x=true)(hy:PyData.strOk y=true):NOk m (.str x :: .str y::(List.range m).map λj=>.str (nmS j)):=by
 have ok:=Q4.mp Oe
 refine⟨by simp;omega,λv hv=>?_⟩
 rcases QD.mp hv with rfl |hv
 ·exact⟨rfl,hx⟩
 ·rcases QD.mp hv with rfl |hv
  ·exact⟨rfl,hy⟩
  ·obtain⟨j,hj,rfl⟩:=QX.mp hv
   exact⟨rfl,ok j (Rn.mpr (by have:=Rn.mp hj;omega))⟩
def GP{m:Nat}{c:Int}:NOk m ((List.range m).map λj:Nat=>.int ((j:Nat)*10^28+c)):=by
 refine⟨by simp,λv hv=>?_⟩
 obtain⟨j,_,rfl⟩:=QX.mp hv
 exact⟨rfl,rfl⟩
def JJ{b:Bx}{w:Bool}{W a x:Int}(hb:b.Ok)(hW:0<W)(hx:0<x):(qM b w W a x).Ok:=by
 have h:(0:Rat)<(x:Rat)/(W:Rat):=ib hx hW
 unfold qM
 cases w with
 |true=>exact⟨Rat.mul_pos hb.w h,hb.h⟩
 |false=>exact⟨hb.w,Rat.mul_pos hb.h h⟩
theorem Ar{b:Bx}{w:Bool}{W:Int}(hb:b.Ok)(hW:0<W):∀(xs:List Int) (a:Int),(∀x∈xs,1<=x)->∀c∈frm b w W a xs,c.Ok
 | [],_,_,c,h=>nomatch h
 |
  x::xs,a,hx,c,h=>by
  rw[frm] at h
  rcases QD.mp h with rfl |h
  ·exact JJ hb hW (hx x (Qt ..))
  ·exact Ar hb hW xs (a+x) (λy hy=>hx y (Qr _ hy)) c h
def Nv{ws:List Int}(t:AT)(ho:t.ok=true)(hw:∀k∈t.lvs,1<=ws.getD k 0):∀b:Bx,b.Ok->∀p∈AT.bx ws t b,p.2.Ok:=by
 induction t using AT.ind with
 |h1 k=>intro b hb p hp;rw[AT.bx] at hp;rw[Sj.mp hp];exact hb
 |
  h2 w ts ih=>
  intro b hb p hp
  rw[AT.ok,Qy] at ho
  have hk:=AT.okL_mem.mp ho.2
  rw[AT.lvs] at hw
  have hone:∀t∈ts,1<=wtT ws t:=λt ht=>by
   have h1:=je (hk t ht)
   have h2:=m8 (ws:=ws) (l:=t.lvs) λk hk'=>hw k (AT.lvsL_mem.mpr ⟨t,ht,hk'⟩)
   unfold wtT
   omega
  rw[AT.bx,mF] at hp
  have hs:=mK (l:=ts.map (wtT ws)) λx hx=>by obtain⟨t,ht,rfl⟩:=QX.mp hx;exact hone t ht
  have h2:=RN ho.1
  rw[Qp] at hs
  have hf:=Ar (w:=w) (W:=(ts.map (wtT ws)).sum) hb (by omega) (ts.map (wtT ws)) 0 λx hx=>by obtain⟨t,ht,rfl⟩:=QX.mp hx;exact hone t ht
  generalize frm b w (ts.map (wtT ws)).sum 0 (ts.map (wtT ws))=bs at *
  have ih':∀t∈ts,∀b:Bx,b.Ok->∀p∈AT.bx ws t b,p.2.Ok:=λt ht=>ih t ht (hk t ht) λk hk'=>hw k (AT.lvsL_mem.mpr ⟨t,ht,hk'⟩)
  clear hone hs h2 hk hw ho ih
  induction ts generalizing bs with
  |nil=>rw[qp] at hp;exact nomatch hp
  |
   cons t ts ih2=>
   cases bs with
   |nil=>rw[show AT.bxL ws (t::ts) []=[] from by rw[AT.bxL];intro _ _ _ _ _ h;cases h] at hp;exact nomatch hp
   |
    cons c cs=>
    rw[AT.bxL] at hp
    rcases Rh.mp hp with hp |hp
    ·exact ih' t (Qt ..) c (hf c (Qt ..)) p hp
    ·exact ih2 cs hp (λc hc=>hf c (Qr _ hc)) λu hu=>ih' u (Qr _ hu)
theorem wm{k:Nat}:∀{l:List (Nat×Bx)},k∈l.map (·.1)->∃p∈l,bxO l k=p.2
 | [],h=>nomatch h
 |
  p::l,h=>by
  unfold bxO
  by_cases hp:p.1=k
  ·exact⟨p,Qt ..,by rw[Tn (by simpa using hp)];rfl⟩
  ·rw[Qv,QD] at h
   obtain⟨q,hq,e⟩:=wm (l:=l) (h.resolve_left λz=>hp z.symm)
   refine⟨q,Qr _ hq,?_⟩
   rw[Sq (by simpa using hp)]
   exact e
def GI{m:Nat}{t:AT}{o:List Nat}{ns:List Val}(hm:m<=40)(T:TOk t o)(ho:∀i,i∈o ↔ i<m)(hl:o.length=m)(N:NOk m ns){x0 x1 x2 x3 x4 x5 x8 x10 x11:Sl}:
 my.G [x0,x1,x2,x3,x4,x5,.sh (atV t),.sh (atV t.trn),x8,.sh (.lst ns),x10,x11]=.nx [x0,x1,x2,x3,x4,x5,.sh (atV t),.sh (atV t.trn),x8,.sh (.lst ns),x10,x11]:=by
 have hk:∀k∈t.lvs,ns[k]?=some (ns.getD k .non):=λk hk=>by
  have h1:=(ho k).mp ((T.mem k).mp hk)
  have h2:=N.1
  rw[Q5,QF (show k<ns.length by omega)]
  rfl
 have hv:∀k∈t.lvs,lfV (ns.getD k .non)=true/\wfV 0 (ns.getD k .non)=true:=λk hk'=>N.2 _ (Q7 (hk k hk'))
 have hd:=T.dep
 have hd2:=T.trn.dep
 have len:=T.len
 have e1:=vP (f:=λk=>ns.getD k .non) (ns:=ns) t 42 (by omega) T.ok (by omega) hk
 have e2:=vP (f:=λk=>ns.getD k .non) (ns:=ns) t.trn 42 (by omega) T.trn.ok (by rw[AT.trn_lvs];omega) (by rw[AT.trn_lvs];exact hk)
 have e3:=g9 (f:=λk=>ns.getD k .non) t 42 (by omega) T.ok (by omega) λk hk'=>(hv k hk').1
 have e4:=qD (f:=λk=>ns.getD k .non) t.trn (by omega) (by rw[AT.trn_lvs];exact λk hk'=>(hv k hk').2)
 rw[show AT.val (λk=>Val.int (k:Nat)) t=atV t from rfl] at e1
 rw[show AT.val (λk=>Val.int (k:Nat)) t.trn=atV t.trn from rfl] at e2
 generalize AT.val (λk=>ns.getD k .non) t=tw at *
 generalize AT.val (λk=>ns.getD k .non) t.trn=pw at *
 generalize atV t=tv at *
 generalize atV t.trn=pv at *
 unfold my
 simp![e1,e2,e3,e4]
def exD:Val:=.dct [(.inr "left",.str "above"),(.inr "above",.str "left"),(.inr "right",.str "below"),(.inr "below",.str "right")]
def Ha(w b:Bool):lkD ([(.inr "left",.str "above"),(.inr "above",.str "left"),(.inr "right",.str "below"),(.inr "below",.str "right")]:List (Key×Val)) (.inr (wd w b))=some (.str (exW (wd w b))):=by cases w <;> cases b <;> rfl
def EB(w b:Bool):PyData.strOk (exW (wd w b))=true:=by cases w <;> cases b <;> decide +kernel
def bdQ(sc:Val)(b:Bx)(ws:List Int)(o:List Nat)(t:AT)(r:SR3):Prop:=∃(a c:Int) (s7 s8 s9 s10 s11:Sl),(s7.pl=true/\s8.pl=true/\s9.pl=true/\s10.pl=true/\s11.pl=true)/\r=.nx [.sh sc,.ow (fdV a c 55),.sh (bV b),.sh (liV ws),.sh (itV o),.sh exD,.sh (atV t),s7,s8,s9,s10,s11]
def GW{sc:Val}{a c:Int}{s7 s8 s9 s10 s11:Sl}{b:Bx}{ws:List Int}{t:AT}{o:List Nat}(g:Good b)(W:WOk ws)(T:TOk t o)(om:∀i,i∈o ↔ i<ws.length)(ol:o.length=ws.length)(h7:s7.pl=true)(h8:s8.pl=true)(h9:s9.pl=true)(h10:s10.pl=true)(h11:s11.pl=true):
 bdQ sc b ws o t (mO.G [.sh sc,.ow (fdV a c 55),.sh (bV b),.sh (liV ws),.sh (itV o),.sh exD,.sh (atV t),s7,s8,s9,s10,s11]):=by
 have wl:=W.len
 have wp:=W.pos
 have hd:=T.dep
 have hdp:=T.trn.dep
 have len:=T.len
 have ll:((ws.map Val.int).length:Nat)=ws.length:=Qp ..
 have lfi:∀(k:Nat),lfV (.int (k:Nat))=true:=λ_=>rfl
 have wfi:∀(k:Nat),wfV 0 (.int (k:Nat))=true:=λ_=>rfl
 have lp:=vA t 42 (by omega) T.ok (by omega)
 have pp:=g9 (f:=λk=>.int (k:Nat)) t 42 (by omega) T.ok (by omega) λk _=>lfi k
 have p2:=g9 (f:=λk=>.int (k:Nat)) t.trn 42 (by omega) T.trn.ok (by rw[AT.trn_lvs];omega) λk _=>lfi k
 have ee:=qD (f:=λk=>.int (k:Nat)) t.trn (by omega) λk _=>wfi k
 have e0:=qD (f:=λk=>.int (k:Nat)) t (by omega) λk _=>wfi k
 rw[AT.trn_trn] at p2
 rw[show AT.val (λk=>Val.int (k:Nat)) t.trn=atV t.trn from rfl] at pp p2 ee
 rw[show AT.val (λk=>Val.int (k:Nat)) t=atV t from rfl] at pp p2 e0
 unfold mO
 refine aT (λe=>e=[.sh sc,.ow (fdV a c 55),.sh (bV b),.sh (liV ws),.sh (itV o),.sh exD,.sh (atV t),.sh (atV t.trn),s8,s9,s10,s11]) ⟨_,by
  generalize fdV a c 55=f0 at *
  generalize itV o=ov at *
  generalize atV t=tv at *
  generalize atV t.trn=pv at *
  generalize exD=xd at *
  generalize bV b=bv at *
  generalize liV ws=wv at *
  simp![pp,h7],rfl⟩ ?_
 rintro _ rfl
 refine aT (λe=>e=[.sh sc,.ow (fdV a c 55),.sh (bV b),.sh (liV ws),.sh (itV o),.sh exD,.sh (atV t),.sh (atV t.trn),s8,s9,s10,s11]) ⟨_,by
  generalize fdV a c 55=f0 at *
  generalize itV o=ov at *
  generalize atV t=tv at *
  generalize atV t.trn=pv at *
  generalize exD=xd at *
  generalize bV b=bv at *
  generalize liV ws=wv at *
  simp![lp,ee,p2,e0],rfl⟩ ?_
 rintro _ rfl
 have rg:jG [.int (ws.length:Nat)]=some (rgV ws.length):=qu (by omega)
 obtain⟨sN,lcN⟩:=BZ (m:=ws.length) (by omega)
 obtain⟨sI,lcI⟩:=Ge (m:=ws.length) (c:=1) (by omega)
 have lN:((List.range ws.length).map λj=>Val.str (nmS j)).length<=16777216:=by simp;omega
 have lI:((List.range ws.length).map λj:Nat=>Val.int ((j:Nat)*10^28+1)).length<=16777216:=by simp;omega
 have ct:aY.G (.lst [.str "down",.str "across"]) (.lst ((List.range ws.length).map λj=>.str (nmS j)))=.new (.lst (.str "down" :: .str "across" :: (List.range ws.length).map λj=>.str (nmS j))):=by
  rw[Bk,if_pos (by simp;omega)]
  rfl
 have N1:=GG (m:=ws.length) (x:="down") (y:="across") (by omega) (by decide) (by decide)
 have N2:=GP (m:=ws.length) (c:=1)
 generalize hL1:(Val.str "down" :: .str "across" :: (List.range ws.length).map λj=>.str (nmS j))=L1 at *
 generalize (List.range ws.length).map (λj=>Val.str (nmS j))=NS at *
 generalize (List.range ws.length).map (λj:Nat=>Val.int ((j:Nat)*10^28+1))=NI at *
 refine aT (λe=>e=[.sh sc,.ow (fdV a c 55),.sh (bV b),.sh (liV ws),.sh (itV o),.sh exD,.sh (atV t),.sh (atV t.trn),.sh (.lst L1),s9,s10,s11]) ⟨_,by
  unfold liV
  generalize fdV a c 55=f0 at *
  generalize itV o=ov at *
  generalize atV t=tv at *
  generalize atV t.trn=pv at *
  generalize exD=xd at *
  generalize bV b=bv at *
  simp![ll,rg,cA,lcN,lN,ct,h8],rfl⟩ ?_
 rintro _ rfl
 have hn:∀v∈[Val.lst L1,.lst NI],∃ns,v=.lst ns/\NOk ws.length ns:=λv hv=>by
  rcases QD.mp hv with rfl |hv
  ·exact⟨_,rfl,N1⟩
  ·rcases QD.mp hv with rfl |hv
   ·exact⟨_,rfl,N2⟩
   ·exact nomatch hv
 refine aT (λe=>∃s9:Sl,s9.pl=true/\e=[.sh sc,.ow (fdV a c 55),.sh (bV b),.sh (liV ws),.sh (itV o),.sh exD,.sh (atV t),.sh (atV t.trn),.sh (.lst L1),s9,s10,s11]) ?_ ?_
 ·obtain⟨e',p',lo⟩:=nY (g:=(gtN 9).G) (B:=my.G) (λe=>∃s9:Sl,s9.pl=true/\e=[.sh sc,.ow (fdV a c 55),.sh (bV b),.sh (liV ws),.sh (itV o),.sh exD,.sh (atV t),.sh (atV t.trn),.sh (.lst L1),s9,s10,s11]) [Val.lst L1,.lst NI] [.sh sc,.ow (fdV a c 55),.sh (bV b),.sh (liV ws),.sh (itV o),.sh exD,.sh (atV t),.sh (atV t.trn),.sh (.lst L1),s9,s10,s11] ⟨s9,h9,rfl⟩ (by
   rintro v hv _ ⟨s9,h9,rfl⟩
   obtain⟨ns,rfl,N⟩:=hn v hv
   refine⟨_,_,?_,.inl (GI (by omega) T om ol N),_,rfl,rfl⟩
   generalize fdV a c 55=f0 at *
   generalize itV o=ov at *
   generalize atV t=tv at *
   generalize atV t.trn=pv at *
   generalize exD=xd at *
   generalize bV b=bv at *
   generalize liV ws=wv at *
   simp![h9])
  exact⟨e',by
   clear p'
   unfold liV at lo ⊢
   generalize fdV a c 55=f0 at *
   generalize itV o=ov at *
   generalize atV t=tv at *
   generalize atV t.trn=pv at *
   generalize exD=xd at *
   generalize bV b=bv at *
   simp![ll,rg,cA,lcI,lI,lo],p'⟩
 rintro _ ⟨s9,h9,rfl⟩
 have gt:Good b.trn:=⟨⟨g.ok.h,g.ok.w⟩,⟨g.sz.t,g.sz.l,g.sz.h,g.sz.w⟩⟩
 obtain⟨n1,hn1,hy1⟩:=Ee g W T om ol
 obtain⟨n2,hn2,hy2⟩:=Ee gt W T.trn om ol
 have wne:ws≠[]:=λz=>by rw[z] at wp;exact absurd wp (by decide)
 have hi:∀k,k∈t.lvs ↔ k<ws.length:=λk=>(T.mem k).trans (om k)
 have q1:=tS (ws:=ws) (n:=2000) (m:=n1) (by omega) g.ok wne (λw hw=>(W.wt w hw).1) W.len T.ok hi (AR T om ol) (T.len.trans ol) (by omega) hy1
 have q2:=tS (ws:=ws) (n:=2000) (m:=n2) (by omega) gt.ok wne (λw hw=>(W.wt w hw).1) W.len T.trn.ok (by rw[AT.trn_lvs];exact hi) (AR T.trn om ol) (T.trn.len.trans ol) (by omega) hy2
 have hw1:∀k∈t.lvs,1<=ws.getD k 0:=λk hk=>by
  have h1:=(hi k).mp hk
  rw[Q5,QF h1]
  exact (W.wt _ (SA _)).1
 have keys:=AT.bx_keys ws t b
 have hin:∀k,k<ws.length->k∈(AT.bx ws t b).map (·.1):=λk hk=>by rw[keys];exact (hi k).mpr hk
 have tr:(List.range ws.length).map (λk=>bV (bxO (AT.bx ws t.trn b.trn) k))=(List.range ws.length).map (λk=>bV (bxO (AT.bx ws t b) k).trn):=Se λk hk=>by
  rw[AT.trn_bx,xA _ (hin k (Rn.mp hk))]
 rw[tr] at q2
 have tu:=rJ g.ok
 obtain⟨e',⟨s,rfl,_⟩,lc⟩:=cS (g:=(gtN 0).G) (F:=(ax eE (ag (ah 0) ao)).G) (λk:Nat=>bV (bxO (AT.bx ws t b) k)) (λk:Nat=>bV (bxO (AT.bx ws t b) k).trn) (λe=>∃s:Sl,e=[s]/\s.pl=true) (List.range ws.length) [] [.no] ⟨.no,rfl,rfl⟩ (by
  rintro k hk _ ⟨s,rfl,hs⟩
  obtain⟨p,hp,ep⟩:=wm (hin k (Rn.mp hk))
  have te:=rJ (b:=bxO (AT.bx ws t b) k) (by rw[ep];exact Nv t T.ok hw1 b g.ok p hp)
  generalize bxO (AT.bx ws t b) k=bb at *
  generalize bV bb=bv at *
  generalize bV bb.trn=tv at *
  refine⟨[.sh bv],.val tv,[.sh bv],?_,?_,rfl,_,rfl,rfl⟩
  ·simp![hs]
  ·simp![te]) (by rw[QP,R7];omega)
 rw[QY] at lc
 have ebx:=MB (List.range ws.length) λk=>(bxO (AT.bx ws t b) k).trn
 have fb1:=lM (λk=>bV (bxO (AT.bx ws t b) k)) (λk=>Et _) (List.range ws.length)
 have fb2:=lM (λk=>bV (bxO (AT.bx ws t b) k).trn) (λk=>Et _) (List.range ws.length)
 have l2:((List.range ws.length).map λk=>bV (bxO (AT.bx ws t b) k).trn).length<=16777216:=by simp;omega
 refine aT (λe=>e=[.sh sc,.ow (fdV a c 55),.sh (bV b),.sh (liV ws),.sh (itV o),.sh exD,.sh (atV t),.sh (atV t.trn),.sh (.lst L1),s9,s10,s11]) ⟨_,by
  generalize (List.range ws.length).map (λk=>bV (bxO (AT.bx ws t b) k).trn)=RT at *
  generalize (List.range ws.length).map (λk=>bV (bxO (AT.bx ws t b) k))=RB at *
  generalize fdV a c 55=f0 at *
  generalize itV o=ov at *
  generalize atV t=tv at *
  generalize atV t.trn=pv at *
  generalize exD=xd at *
  generalize bV b.trn=bt at *
  generalize bV b=bv at *
  generalize liV ws=wv at *
  simp![tu,q2,q1,fb1,fb2,cA,inS,lc,l2,ebx],rfl⟩ ?_
 rintro _ rfl
 clear lc ebx fb1 fb2 l2 q1 q2 tr keys hin
 by_cases h1:(1:Int)<((ws.length:Nat):Int)
 ·have hg:decide ((1:Int)<((ws.length:Nat):Int))=true:=QQ h1
  have lo:((o.map λk:Nat=>Val.int k).length:Nat)=ws.length:=by rw[Qp];exact ol
  obtain⟨r,a1,c1,e1,r0,r1⟩:=aM (a:=a) (b:=c) (k:=55) (m:=((ws.length:Nat):Int)-1) (by omega) (sm8 (by omega))
  have ond:o.Nodup:=(oC ws.length o ol λi h=>(om i).mpr h).nodup_iff.mpr List.nodup_range
  have hi0:0<o.length:=by omega
  have hj0:(1+r).toNat<o.length:=by omega
  have x0:=QF hi0
  have y0:=QF hj0
  have hij:o[0]≠o[(1+r).toNat]:=λz=>by
   have:=(List.getElem_inj ond (h₀:=hi0) (h₁:=hj0)).mp z
   omega
  have mi:=(om _).mp (SA hi0)
  have mj:=(om _).mp (SA hj0)
  have atx:atI (o.map λk:Nat=>Val.int k) 0=some (.int ((o[0]:Nat):Int)):=eU (by decide) (by rw[QM];show (o[0]?).map _=_;rw[x0];rfl)
  have aty:atI (o.map λk:Nat=>Val.int k) (1+r)=some (.int ((o[(1+r).toNat]:Nat):Int)):=eU (by omega) (by rw[QM,y0];rfl)
  generalize o[0]=i at *
  generalize o[(1+r).toNat]=j at *
  have mem:∀k,k<ws.length->∃p,t.pth k=some p:=λk hk=>by
   cases q:t.pth k with
   |some p=>exact⟨p,rfl⟩
   |none=>exact absurd ((hi k).mpr hk) ((AT.pth_mem t).mp q)
  obtain⟨p,hp1⟩:=mem i mi
  obtain⟨q,hq1⟩:=mem j mj
  have hpq:p≠q:=λz=>by
   have a1:=AT.pth_at t p hp1
   have a2:=AT.pth_at t q hq1
   rw[z,a2] at a1
   exact hij (QK a1).symm
  obtain⟨u,hu⟩:=AT.rel_some hij p q t (AT.pth_at t p hp1) (AT.pth_at t q hq1)
  have EA:∀(x:Nat),EqA (λk=>.int (k:Nat)) (.int (x:Nat)) x t.lvs:=λx k hk=>⟨rfl,by rw[EC,zK]⟩
  have f1:=nL (f:=λk=>.int (k:Nat)) (fx:=.int (i:Nat)) (fy:=.int (j:Nat)) rfl rfl (by omega) (EA i) (EA j) hp1 hq1 hpq hu
  have f2:=nL (t:=t.trn) (f:=λk=>.int (k:Nat)) (fx:=.int (i:Nat)) (fy:=.int (j:Nat)) rfl rfl (by omega) (by rw[AT.trn_lvs];exact EA i) (by rw[AT.trn_lvs];exact EA j) (by rw[AT.trn_pth];exact hp1) (by rw[AT.trn_pth];exact hq1) hpq (xk hu)
  rw[show AT.val (λk=>Val.int (k:Nat)) t=atV t from rfl] at f1
  rw[show AT.val (λk=>Val.int (k:Nat)) t.trn=atV t.trn from rfl] at f2
  obtain⟨w,bb,rfl⟩:=tK hu
  have lk:=Ha w bb
  have es:dA (.str (exW (wd w bb))) (.str (exW (wd w bb)))=some true:=by rw[eq_str (EB w bb) (EB w bb),SI]
  refine⟨a1,c1,.sh (atV t.trn),.sh (.lst L1),s9,.sh (.int (i:Nat)),.sh (.int (j:Nat)),⟨rfl,rfl,h9,rfl,rfl⟩,?_⟩
  unfold liV itV exD
  generalize fdV a c 55=f0 at *
  generalize fdV a1 c1 55=f3 at *
  generalize o.map (λk:Nat=>Val.int k)=ov at *
  generalize atV t=tv at *
  generalize atV t.trn=pv at *
  generalize bV b=bv at *
  generalize exW (wd w bb)=u1 at *
  generalize wd w bb=u0 at *
  simp![ll,lo,hg,e1,atx,aty,f1,f2,lk,es,h10,h11]
 ·have hg:decide ((1:Int)<((ws.length:Nat):Int))=false:=QG h1
  refine⟨a,c,.sh (atV t.trn),.sh (.lst L1),s9,s10,s11,⟨rfl,rfl,h9,h10,h11⟩,?_⟩
  unfold liV
  generalize fdV a c 55=f0 at *
  generalize itV o=ov at *
  generalize atV t=tv at *
  generalize atV t.trn=pv at *
  generalize bV b=bv at *
  simp![ll,hg]
def lawQ(r:SR3):Prop:=oG [false] r=.ok (.val (.bl true)) []
def Hd(ns:List Int)(hl:ns.length<=63):p6.G [.kl (ns.map .int)]=.ok (.val (.bl true)) []:=by
 unfold p6
 rw[x9 rfl]
 show lawQ (sT.G [.sh (.kl (ns.map .int)),.no,.no,.no,.no,.no,.no,.no,.no,.no,.no,.no])
 unfold sT
 obtain⟨a,e0⟩:=rn (ns:=ns) (k:=55) (by omega)
 refine aT (λe=>e=[.sh (.kl (ns.map .int)),.ow (fdV a 0 55),.no,.no,.no,.no,.no,.no,.no,.no,.no,.no]) ⟨_,by simp![e0],rfl⟩ ?_
 rintro _ rfl
 obtain⟨b,a1,c1,g,e1⟩:=GX a 0 55
 refine aT (λe=>e=[.sh (.kl (ns.map .int)),.ow (fdV a1 c1 55),.sh (bV b),.no,.no,.no,.no,.no,.no,.no,.no,.no]) ⟨_,by simp![e1],rfl⟩ ?_
 rintro _ rfl
 refine aT (λe=>∃ws a c,WOk ws/\e=[.sh (.kl (ns.map .int)),.ow (fdV a c 55),.sh (bV b),.sh (liV ws),.no,.no,.no,.no,.no,.no,.no,.no]) ?_ ?_
 ·obtain⟨r,a2,c2,e2,r0,r1⟩:=aM (a:=a1) (b:=c1) (k:=55) (m:=6) (by decide) (sm8 (by decide))
  by_cases hr:r=0
  ·subst hr
   obtain⟨ws,p1,p2,p3,p4,p5⟩:=pU (ns:=ns) (at_:=0) (most:=40) (by decide) (by decide)
   exact⟨_,by simp![e2,p5],ws,a2,c2,⟨p1,by omega,p3,p4⟩,rfl⟩
  ·obtain⟨ws,p1,p2,p3,p4,p5⟩:=pU (ns:=ns) (at_:=0) (most:=9) (by decide) (by decide)
   exact⟨_,by simp![e2,QN.mpr hr,p5],ws,a2,c2,⟨p1,by omega,p3,p4⟩,rfl⟩
 rintro _ ⟨ws,a2,c2,W,rfl⟩
 have wl:=W.len
 have wp:=W.pos
 have ll:((ws.map Val.int).length:Nat)=ws.length:=Qp ..
 obtain⟨o,a3,c3,om,ol,e3⟩:=Cw (a:=a2) (b:=c2) (k:=55) (m:=ws.length) (by omega)
 refine aT (λe=>e=[.sh (.kl (ns.map .int)),.ow (fdV a3 c3 55),.sh (bV b),.sh (liV ws),.sh (itV o),.no,.no,.no,.no,.no,.no,.no]) ⟨_,by
  unfold liV
  generalize bV b=bv at *
  generalize itV o=ov at *
  simp![ll,e3],rfl⟩ ?_
 rintro _ rfl
 refine aT (λe=>e=[.sh (.kl (ns.map .int)),.ow (fdV a3 c3 55),.sh (bV b),.sh (liV ws),.sh (itV o),.sh exD,.no,.no,.no,.no,.no,.no]) ⟨_,by
  unfold exD
  generalize bV b=bv at *
  generalize itV o=ov at *
  generalize liV ws=wv at *
  simp![List.zip_cons_cons,List.zip_nil_right],rfl⟩ ?_
 rintro _ rfl
 have one:o≠[]:=λz=>by rw[z] at ol;simp at ol;omega
 obtain⟨t,a4,c4,T,e4⟩:=xE (k:=55) o.length 42 o a3 c3 one (Qu _) (by omega) (by omega)
 obtain⟨u,a5,c5,U,e5⟩:=DD (a:=a4) (b:=c4) (k:=55) one
 rw[show AT.val (λk=>Val.int (k:Nat)) u=atV u from rfl] at e5
 refine aT (λe=>∃e1,e=.sh (.kl (ns.map .int))::e1) ?_ ?_
 ·obtain⟨e',p',lo⟩:=nY (g:=(gtN 6).G) (B:=mO.G) (λe=>∃(a c:Int) (s6 s7 s8 s9 s10 s11:Sl),(s6.pl=true/\s7.pl=true/\s8.pl=true/\s9.pl=true/\s10.pl=true/\s11.pl=true)/\e=[.sh (.kl (ns.map .int)),.ow (fdV a c 55),.sh (bV b),.sh (liV ws),.sh (itV o),.sh exD,s6,s7,s8,s9,s10,s11]) [atV t,atV u] [.sh (.kl (ns.map .int)),.ow (fdV a5 c5 55),.sh (bV b),.sh (liV ws),.sh (itV o),.sh exD,.no,.no,.no,.no,.no,.no] ⟨a5,c5,.no,.no,.no,.no,.no,.no,⟨rfl,rfl,rfl,rfl,rfl,rfl⟩,rfl⟩ (by
   rintro v hv _ ⟨a6,c6,s6,s7,s8,s9,s10,s11,⟨h6,h7,h8,h9,h10,h11⟩,rfl⟩
   obtain⟨x,X,rfl⟩:∃x,TOk x o/\v=atV x:=by
    rcases QD.mp hv with rfl |hv
    ·exact⟨t,T,rfl⟩
    ·rcases QD.mp hv with rfl |hv
     ·exact⟨u,U,rfl⟩
     ·exact nomatch hv
   obtain⟨a7,c7,t7,t8,t9,t10,t11,hp,he⟩:=GW (sc:=.kl (ns.map .int)) (a:=a6) (c:=c6) g W X om ol h7 h8 h9 h10 h11
   refine⟨[.sh (.kl (ns.map .int)),.ow (fdV a6 c6 55),.sh (bV b),.sh (liV ws),.sh (itV o),.sh exD,.sh (atV x),s7,s8,s9,s10,s11],_,?_,.inl he,a7,c7,.sh (atV x),t7,t8,t9,t10,t11,⟨rfl,hp⟩,rfl⟩
   generalize liV ws=wv at *
   generalize bV b=bv at *
   generalize atV x=tv at *
   generalize itV o=ov at *
   generalize exD=xd at *
   simp![h6])
  exact⟨e',by
   clear p'
   generalize fdV a3 c3 55=f3 at *
   generalize fdV a4 c4 55=f4 at *
   generalize fdV a5 c5 55=f5 at *
   generalize liV ws=wv at *
   generalize bV b=bv at *
   generalize atV t=tv at *
   generalize atV u=uv at *
   generalize itV o=ov at *
   generalize exD=xd at *
   simp![e4,e5,lo],by obtain⟨_,_,_,_,_,_,_,_,_,rfl⟩:=p';exact⟨_,rfl⟩⟩
 rintro _ ⟨e1,rfl⟩
 unfold lawQ
 simp![ya]
def IC{K:W.Frag}{h:Heap}{mg:Ua}{a_:Addr}{g_:Addr}{h_:Addr}{b_:Addr}{c_:Addr}{f_:Addr}{d_:Addr}(X:K.In h)(G:h.Ns mainGlobals mg)
 (OA:W.nsIn K mainGlobals "NoBox"=some (some (.ref g_)))
 (w_:W.nsIn K mainGlobals "NoFraction"=some (some (.ref a_)))
 (N_:W.nsIn K mainGlobals "NoTree"=some (some (.ref f_)))
 (OB:W.nsIn K mainGlobals "NoWay"=some (some (.ref h_)))
 (u_:W.nsIn K mainGlobals "NoWeights"=some (some (.ref b_)))
 (H_:W.nsIn K mainGlobals "TooMany"=some (some (.ref c_)))
 (I_:W.nsIn K mainGlobals "Unknown"=some (some (.ref d_)))
 (E_:W.nsIn K mainGlobals "abs"=some none)
 (O4:W.nsIn K mainGlobals "all"=some none)
 (OG:W.nsIn K mainGlobals "bool"=some none)
 (D_:W.nsIn K mainGlobals "enumerate"=some none)
 (O5:W.nsIn K mainGlobals "int"=some none)
 (i_:W.nsIn K mainGlobals "isinstance"=some none)
 (k_:W.nsIn K mainGlobals "len"=some none)
 (O0:W.nsIn K mainGlobals "list"=some none)
 (Pn:W.nsIn K mainGlobals "max"=some none)
 (O6:W.nsIn K mainGlobals "min"=some none)
 (x_:W.nsIn K mainGlobals "range"=some none)
 (Pp:W.nsIn K mainGlobals "set"=some none)
 (Pq:W.nsIn K mainGlobals "str"=some none)
 (O7:W.nsIn K mainGlobals "sum"=some none)
 (j_:W.nsIn K mainGlobals "tuple"=some none)
 (Pr:W.nsIn K mainGlobals "zip"=some none)
 (t_:GC K mg "MOST_WEIGHTS" gZ)
 (OU:GC K mg "WAYS" uD)
 (Qn:W.specialIn K (.builtin "object.__class__") "__get__"=some (some (.builtin "getset_descriptor.__get__")))
 (Qo:W.takesIn K (.builtin "object.__class__")=some true)
 (y_:W.excIn K a_ eF "ValueError.__new__"=true)
 (OF:(W.clsIn K a_).isSome=true)
 (OI:W.findIn K (.ref a_) "__getattribute__"=some (some (.builtin "BaseException.__getattribute__")))
 (OJ:W.findIn K (.ref a_) "__getattr__"=some none)
 (OH:W.findIn K (.ref a_) "__class__"=some (some (.builtin "object.__class__")))
 (OL:W.mroIn K a_ (.type "object")=some true)
 (OK:W.mroIn K a_ (.type "BaseException")=some true)
 (OC:W.excIn K g_ eF "ValueError.__new__"=true)
 (Pt:(W.clsIn K g_).isSome=true)
 (PJ:W.findIn K (.ref g_) "__getattribute__"=some (some (.builtin "BaseException.__getattribute__")))
 (PK:W.findIn K (.ref g_) "__getattr__"=some none)
 (PH:W.findIn K (.ref g_) "__class__"=some (some (.builtin "object.__class__")))
 (PM:W.mroIn K g_ (.type "object")=some true)
 (PL:W.mroIn K g_ (.type "BaseException")=some true)
 (OD:W.excIn K h_ eF "ValueError.__new__"=true)
 (PC:(W.clsIn K h_).isSome=true)
 (PQ:W.findIn K (.ref h_) "__getattribute__"=some (some (.builtin "BaseException.__getattribute__")))
 (PR:W.findIn K (.ref h_) "__getattr__"=some none)
 (PN:W.findIn K (.ref h_) "__class__"=some (some (.builtin "object.__class__")))
 (PV:W.mroIn K h_ (.type "object")=some true)
 (PU:W.mroIn K h_ (.type "BaseException")=some true)
 (v_:W.excIn K b_ eF "ValueError.__new__"=true)
 (OM:(W.clsIn K b_).isSome=true)
 (OW:W.findIn K (.ref b_) "__getattribute__"=some (some (.builtin "BaseException.__getattribute__")))
 (OX:W.findIn K (.ref b_) "__getattr__"=some none)
 (OV:W.findIn K (.ref b_) "__class__"=some (some (.builtin "object.__class__")))
 (OZ:W.mroIn K b_ (.type "object")=some true)
 (OY:W.mroIn K b_ (.type "BaseException")=some true)
 (J_:W.excIn K c_ eF "ValueError.__new__"=true)
 (O8:(W.clsIn K c_).isSome=true)
 (Pc:W.findIn K (.ref c_) "__getattribute__"=some (some (.builtin "BaseException.__getattribute__")))
 (Pd:W.findIn K (.ref c_) "__getattr__"=some none)
 (Pb:W.findIn K (.ref c_) "__class__"=some (some (.builtin "object.__class__")))
 (Pf:W.mroIn K c_ (.type "object")=some true)
 (Pe:W.mroIn K c_ (.type "BaseException")=some true)
 (Ov:W.excIn K f_ eF "ValueError.__new__"=true)
 (Pa:(W.clsIn K f_).isSome=true)
 (Pw:W.findIn K (.ref f_) "__getattribute__"=some (some (.builtin "BaseException.__getattribute__")))
 (Px:W.findIn K (.ref f_) "__getattr__"=some none)
 (Pu:W.findIn K (.ref f_) "__class__"=some (some (.builtin "object.__class__")))
 (Pz:W.mroIn K f_ (.type "object")=some true)
 (Py:W.mroIn K f_ (.type "BaseException")=some true)
 (K_:W.excIn K d_ eF "ValueError.__new__"=true)
 (O9:(W.clsIn K d_).isSome=true)
 (Ph:W.findIn K (.ref d_) "__getattribute__"=some (some (.builtin "BaseException.__getattribute__")))
 (Pj:W.findIn K (.ref d_) "__getattr__"=some none)
 (Pg:W.findIn K (.ref d_) "__class__"=some (some (.builtin "object.__class__")))
 (Pl:W.mroIn K d_ (.type "object")=some true)
 (Pk:W.mroIn K d_ (.type "BaseException")=some true)
 (i0:W.kitOne K (.type "NoneType") (.type "bool")=some false)
 (i1:W.kitOne K (.type "bool") (.type "bool")=some true)
 (i2:W.kitOne K (.type "int") (.type "bool")=some false)
 (i3:W.kitOne K (.type "str") (.type "bool")=some false)
 (i4:W.kitOne K (.type "tuple") (.type "bool")=some false)
 (i5:W.kitOne K (.type "list") (.type "bool")=some false)
 (i6:W.kitOne K (.type "dict") (.type "bool")=some false)
 (i7:W.kitOne K (.type "NoneType") (.type "int")=some false)
 (i8:W.kitOne K (.type "bool") (.type "int")=some true)
 (i9:W.kitOne K (.type "int") (.type "int")=some true)
 (PY:W.kitOne K (.type "str") (.type "int")=some false)
 (PZ:W.kitOne K (.type "tuple") (.type "int")=some false)
 (i12:W.kitOne K (.type "list") (.type "int")=some false)
 (P0:W.kitOne K (.type "dict") (.type "int")=some false)
 (P1:W.kitOne K (.type "NoneType") (.type "list")=some false)
 (P2:W.kitOne K (.type "bool") (.type "list")=some false)
 (P4:W.kitOne K (.type "int") (.type "list")=some false)
 (P5:W.kitOne K (.type "str") (.type "list")=some false)
 (P6:W.kitOne K (.type "tuple") (.type "list")=some false)
 (P7:W.kitOne K (.type "list") (.type "list")=some true)
 (P8:W.kitOne K (.type "dict") (.type "list")=some false)
 (P9:W.kitOne K (.type "NoneType") (.type "str")=some false)
 (P_:W.kitOne K (.type "bool") (.type "str")=some false)
 (Qa:W.kitOne K (.type "int") (.type "str")=some false)
 (Qb:W.kitOne K (.type "str") (.type "str")=some true)
 (Qc:W.kitOne K (.type "tuple") (.type "str")=some false)
 (Qd:W.kitOne K (.type "list") (.type "str")=some false)
 (Qe:W.kitOne K (.type "dict") (.type "str")=some false)
 (Qf:W.kitOne K (.type "NoneType") (.type "tuple")=some false)
 (Qg:W.kitOne K (.type "bool") (.type "tuple")=some false)
 (Qh:W.kitOne K (.type "int") (.type "tuple")=some false)
 (Qi:W.kitOne K (.type "str") (.type "tuple")=some false)
 (Qj:W.kitOne K (.type "tuple") (.type "tuple")=some true)
 (Qk:W.kitOne K (.type "list") (.type "tuple")=some false)
 (Ql:W.kitOne K (.type "dict") (.type "tuple")=some false)
 : Txt K mg a_ g_ h_ b_ c_ f_ d_:=by
 have mNoBox:=Tb X G OA
 have mNoFraction:=Tb X G w_
 have mNoTree:=Tb X G N_
 have mNoWay:=Tb X G OB
 have mNoWeights:=Tb X G u_
 have mTooMany:=Tb X G H_
 have mUnknown:=Tb X G I_
 exact {
 t_:=t_,
 OA:=mNoBox,
 w_:=mNoFraction,
 N_:=mNoTree,
 OB:=mNoWay,
 u_:=mNoWeights,
 H_:=mTooMany,
 I_:=mUnknown,
 OU:=OU,
 E_:=Q9 X G E_,
 O4:=Q9 X G O4,
 OG:=Q9 X G OG,
 D_:=Q9 X G D_,
 O5:=Q9 X G O5,
 i_:=Q9 X G i_,
 k_:=Q9 X G k_,
 O0:=Q9 X G O0,
 Pn:=Q9 X G Pn,
 O6:=Q9 X G O6,
 x_:=Q9 X G x_,
 Pp:=Q9 X G Pp,
 Pq:=Q9 X G Pq,
 O7:=Q9 X G O7,
 j_:=Q9 X G j_,
 Pr:=Q9 X G Pr,
 y_:=y_,
 OC:=OC,
 OD:=OD,
 v_:=v_,
 J_:=J_,
 Ov:=Ov,
 K_:=K_,
 kits:=(aD i0 rfl rfl a9
  (aD i1 rfl rfl a9
  (aD i2 rfl rfl a9
  (aD i3 rfl rfl a9
  (aD i4 rfl rfl a9
  (aD i5 rfl rfl a9
  (aD i6 rfl rfl a9
  (aD i7 rfl rfl a9
  (aD i8 rfl rfl a9
  (aD i9 rfl rfl a9
  (aD PY rfl rfl a9
  (aD PZ rfl rfl a9
  (aD i12 rfl rfl a9
  (aD P0 rfl rfl a9
  (aD P1 rfl rfl a9
  (aD P2 rfl rfl a9
  (aD P4 rfl rfl a9
  (aD P5 rfl rfl a9
  (aD P6 rfl rfl a9
  (aD P7 rfl rfl a9
  (aD P8 rfl rfl a9
  (aD P9 rfl rfl a9
  (aD P_ rfl rfl a9
  (aD Qa rfl rfl a9
  (aD Qb rfl rfl a9
  (aD Qc rfl rfl a9
  (aD Qd rfl rfl a9
  (aD Qe rfl rfl a9
  (aD Qf rfl rfl a9
  (aD Qg rfl rfl a9
  (aD Qh rfl rfl a9
  (aD Qi rfl rfl a9
  (aD Qj rfl rfl a9
  (aD Qk rfl rfl a9
  (aD Ql rfl rfl a9
  DQ)))))))))))))))))))))))))))))))))))
 }
end KK
namespace PySem.W.Fast
def tw10150996207817464618:=trivial
def tw10161482886374099795:=trivial
def tw10182313055670869850:=trivial
def tw10269719274375232467:=trivial
def tw10325810597143125089:=trivial
def tw10367583399609110483:=trivial
def tw10374030896692340051:=trivial
def tw1037539094426891748:=trivial
def tw10428021681003335433:=trivial
def tw10453266860868777731:=trivial
def tw10597151324057515379:=trivial
def tw10658573886629028229:=trivial
def tw10700224247882847036:=trivial
def tw10738649533256403376:=trivial
def tw10782886540178578105:=trivial
def tw10829155849021112470:=trivial
def tw10852350680804022414:=trivial
def tw10903823514373274720:=trivial
def tw10932322535400018242:=trivial
def tw109513880695441527:=trivial
def tw11010812688278212906:=trivial
def tw11050320421529506079:=trivial
def tw1105313595683016768:=trivial
def tw11126804664186810868:=trivial
def tw11225842684305321911:=trivial
def tw11317499981357771410:=trivial
def tw11443606836325324362:=trivial
def tw11454955968958322138:=trivial
def tw11483549850122350894:=trivial
def tw11496102518111742931:=trivial
def tw11616573352939471623:=trivial
def tw11629846814224275937:=trivial
def tw11635072997813553705:=trivial
def tw11659115915313942094:=trivial
def tw117644374400260991:=trivial
def tw11947326469329186574:=trivial
def tw11970507068616077427:=trivial
def tw12052248279797936315:=trivial
def tw12068497365504826745:=trivial
def tw1218830296342113093:=trivial
def tw12188868373170967499:=trivial
def tw12198538309132939385:=trivial
def tw12305122400796014:=trivial
def tw12325696842095893910:=trivial
def tw12475814614235898904:=trivial
def tw12583760597523277691:=trivial
def tw12597400454269731721:=trivial
def tw1264985298740208377:=trivial
def tw12663007503251905793:=trivial
def tw12674759757898009355:=trivial
def tw12688626814245756796:=trivial
def tw12711455304800200670:=trivial
def tw12802024852416394138:=trivial
def tw12837629688721174147:=trivial
def tw12926186997270578850:=trivial
def tw12973918501866109707:=trivial
def tw12980536340191233540:=trivial
def tw1299915793059701493:=trivial
def tw13032404918920217490:=trivial
def tw13103571938869477972:=trivial
def tw13148076191283466332:=trivial
def tw13162600055091269837:=trivial
def tw13171987163095669481:=trivial
def tw13209468535445052936:=trivial
def tw13229539941286139836:=trivial
def tw13232777492428109406:=trivial
def tw13307784911618899861:=trivial
def tw13362360779900002091:=trivial
def tw13473852809624194018:=trivial
def tw13476674817145290719:=trivial
def tw13511750312839688429:=trivial
def tw1355680094408990379:=trivial
def tw13652368107310177136:=trivial
def tw13682105898384893027:=trivial
def tw13778107477300076050:=trivial
def tw1380690465161081318:=trivial
def tw13844699303649507661:=trivial
def tw13880783294814181205:=trivial
def tw13908452296677160562:=trivial
def tw1392981271557727513:=trivial
def tw14004177841395616617:=trivial
def tw14029215388202779193:=trivial
def tw14047131368266903718:=trivial
def tw14108852781795223481:=trivial
def tw14134176753683102873:=trivial
def tw14217736388032667823:=trivial
def tw14243238146031370138:=trivial
def tw142887857027522192:=trivial
def tw14337746520427012636:=trivial
def tw14483871284004065815:=trivial
def tw14486872283770764719:=trivial
def tw14507928795694866814:=trivial
def tw14511316036187358192:=trivial
def tw14533089799955980979:=trivial
def tw14602003774634728191:=trivial
def tw14620349448196011209:=trivial
def tw14747288733753984993:=trivial
def tw14770753608845289378:=trivial
def tw14827054514735667652:=trivial
def tw14884315465642800421:=trivial
def tw14944465008231332089:=trivial
def tw14947523500908194213:=trivial
def tw1499221121190468233:=trivial
def tw15053712930822822309:=trivial
def tw15073552828370451810:=trivial
def tw15092666696627709323:=trivial
def tw1512278887468820246:=trivial
def tw15163134402605362785:=trivial
def tw15167010134080583133:=trivial
def tw15209033986732296402:=trivial
def tw15216437083869488573:=trivial
def tw15294231751365603617:=trivial
def tw15305866133466172794:=trivial
def tw15311217189500209488:=trivial
def tw15332639444959224021:=trivial
def tw15397867288890082461:=trivial
def tw1547860853775434591:=trivial
def tw15521828479480708696:=trivial
def tw1562534318494358774:=trivial
def tw15632311482703181544:=trivial
def tw15728844053398908438:=trivial
def tw15845119316192411106:=trivial
def tw15887008116391034350:=trivial
def tw15894787219254068149:=trivial
def tw15898671755877983128:=trivial
def tw15910268096421003359:=trivial
def tw15911374153204839357:=trivial
def tw15994899816630347347:=trivial
def tw16145097246588910311:=trivial
def tw16165296423407928302:=trivial
def tw16180344633981103795:=trivial
def tw16222565582932067373:=trivial
def tw16412986149058294564:=trivial
def tw16419234430633691286:=trivial
def tw1649097875453543941:=trivial
def tw16521484648632071583:=trivial
def tw1661441872024810613:=trivial
def tw1663225429680893170:=trivial
def tw16739625407905733086:=trivial
def tw16871130353325264157:=trivial
def tw16896135190190581079:=trivial
def tw1695601147907095216:=trivial
def tw17013662333426375703:=trivial
def tw17073610972949590434:=trivial
def tw17077537903396832154:=trivial
def tw17109681617366599079:=trivial
def tw17121963415760212738:=trivial
def tw17127803980969242924:=trivial
def tw17163275451007740987:=trivial
def tw17229947372734538310:=trivial
def tw17240691416434901190:=trivial
def tw17244143247096248039:=trivial
def tw17244710409509162334:=trivial
def tw17279722819273709840:=trivial
def tw1728775940534791826:=trivial
def tw17313415677765617089:=trivial
def tw17422663529172754897:=trivial
def tw17453400871197822575:=trivial
def tw1746707631361503692:=trivial
def tw17482511892254403486:=trivial
def tw17484232801543130516:=trivial
def tw17487765199655281767:=trivial
def tw17541362044636793194:=trivial
def tw17549685993222966804:=trivial
def tw17550712822981725643:=trivial
def tw1772179752858526790:=trivial
def tw17807235751581385030:=trivial
def tw17841937096749922760:=trivial
def tw17907024032883976655:=trivial
def tw17918267549487427294:=trivial
def tw17921369991389150514:=trivial
def tw18016101830272224297:=trivial
def tw180545709015148033:=trivial
def tw18267374649683201591:=trivial
def tw18270814627568251188:=trivial
def tw18356292585244863135:=trivial
def tw18392835608569495526:=trivial
def tw1891928085876976022:=trivial
def tw1897852841825480261:=trivial
def tw1940510565731381159:=trivial
def tw2010155339339270058:=trivial
def tw2033334427544518575:=trivial
def tw2134619701830777465:=trivial
def tw2155792636778681895:=trivial
def tw216080652133564054:=trivial
def tw2170549593788293686:=trivial
def tw2211872246118250613:=trivial
def tw2237837375160484074:=trivial
def tw226609037391777102:=trivial
def tw2289392550710661795:=trivial
def tw2394701218739550153:=trivial
def tw2429646027862401852:=trivial
def tw2430225917928326330:=trivial
def tw2461375139149228005:=trivial
def tw251611412506434129:=trivial
def tw2562504303246138391:=trivial
def tw2595600568279756255:=trivial
def tw2680095881622663647:=trivial
def tw2694667711660100599:=trivial
def tw272099606419822474:=trivial
def tw2794988465933555402:=trivial
def tw2837404157959593645:=trivial
def tw2838684807409994259:=trivial
def tw2907928757582729071:=trivial
def tw2948613204366413695:=trivial
def tw2993136298795831966:=trivial
def tw3038688371402737286:=trivial
def tw311080796833274679:=trivial
def tw3149128757135549455:=trivial
def tw3161928333050838921:=trivial
def tw3188103708531797495:=trivial
def tw323542123094127365:=trivial
def tw324131143007601366:=trivial
def tw3241524336408213536:=trivial
def tw3329374640051587757:=trivial
def tw34004400713446253:=trivial
def tw3493719377654982583:=trivial
def tw3505723359538342515:=trivial
def tw3513463411582608650:=trivial
def tw3621438390597863651:=trivial
def tw3760774909012044932:=trivial
def tw3814734327754936810:=trivial
def tw4018483851829273280:=trivial
def tw4022634503063810105:=trivial
def tw4214821799975999090:=trivial
def tw4268659297849672211:=trivial
def tw430383600121682115:=trivial
def tw4474854653759806783:=trivial
def tw4477037319988887978:=trivial
def tw4508847683783697945:=trivial
def tw4536357657700618016:=trivial
def tw4580763456870846548:=trivial
def tw459310806945953983:=trivial
def tw4608588165922068569:=trivial
def tw4653528405635792189:=trivial
def tw4713830839142811805:=trivial
def tw4731983528261242088:=trivial
def tw4767026477472524814:=trivial
def tw4774762286646688625:=trivial
def tw4811099765965745593:=trivial
def tw4856520237859405924:=trivial
def tw492859345155287652:=trivial
def tw50353086911626560:=trivial
def tw5040373588785177657:=trivial
def tw5044392618664884749:=trivial
def tw5055688337142506196:=trivial
def tw5127992258167555231:=trivial
def tw5138129659091654995:=trivial
def tw5139145678757464888:=trivial
def tw5209617310157394751:=trivial
def tw521619547496529133:=trivial
def tw5244185837014613647:=trivial
def tw5420883067069152129:=trivial
def tw5499180420883387898:=trivial
def tw5537885922915062566:=trivial
def tw5538322168447735191:=trivial
def tw5583785637551728625:=trivial
def tw560124473293493447:=trivial
def tw5663960469619469417:=trivial
def tw5693077171269721194:=trivial
def tw5755848011529858126:=trivial
def tw5760910281129507999:=trivial
def tw5970131090373053610:=trivial
def tw6056347713906317804:=trivial
def tw60585893618298035:=trivial
def tw6259352280493470128:=trivial
def tw6338063240747245999:=trivial
def tw6345583949039376320:=trivial
def tw6389024018466242915:=trivial
def tw6438444609810646199:=trivial
def tw6440006813712955342:=trivial
def tw6613205804113952545:=trivial
def tw6686848053089925791:=trivial
def tw670649368063234887:=trivial
def tw6746965326822947394:=trivial
def tw6780301535320375379:=trivial
def tw6786249335203988396:=trivial
def tw6805746304306677287:=trivial
def tw6879829201127442018:=trivial
def tw6894532594328240742:=trivial
def tw6912805990529796374:=trivial
def tw6912971068360787135:=trivial
def tw6920978420317424660:=trivial
def tw698037150005122891:=trivial
def tw7012017085983120215:=trivial
def tw7021033155278702663:=trivial
def tw7091789952637157372:=trivial
def tw7109149667909210998:=trivial
def tw7216045383442104654:=trivial
def tw722139454620410504:=trivial
def tw7241027515711398476:=trivial
def tw725491507682943116:=trivial
def tw7280202773139944667:=trivial
def tw7480635836633237823:=trivial
def tw7506908946051527371:=trivial
def tw7598322920280450486:=trivial
def tw7634265678317492523:=trivial
def tw7691207584300540921:=trivial
def tw7732641023338742010:=trivial
def tw7737482477776997926:=trivial
def tw7823237683930688209:=trivial
def tw7847826819303100852:=trivial
def tw7852918665597584264:=trivial
def tw7871531883083319929:=trivial
def tw7897029262648065182:=trivial
def tw7912658020644494846:=trivial
def tw7954802320300770868:=trivial
def tw7964595095869156760:=trivial
def tw800639605039936566:=trivial
def tw8045723905899447437:=trivial
def tw809142408106223014:=trivial
def tw8113854458552935373:=trivial
def tw8278880803945263421:=trivial
def tw8311597075154725987:=trivial
def tw8340226448573643160:=trivial
def tw8387060838949994442:=trivial
def tw8436017296163402696:=trivial
def tw8480602160518782854:=trivial
def tw8569658648785682939:=trivial
def tw8627188227261873489:=trivial
def tw8688130439276447889:=trivial
def tw8717107579359122610:=trivial
def tw8744794273625029116:=trivial
def tw8888541227695055960:=trivial
def tw8966332906644780800:=trivial
def tw8971231771168820421:=trivial
def tw90284840395387134:=trivial
def tw9044141579273093305:=trivial
def tw9062587759751265025:=trivial
def tw9177000865546705668:=trivial
def tw9181635209770872147:=trivial
def tw9185987091496809369:=trivial
def tw9203628346303338938:=trivial
def tw9249817607008984798:=trivial
def tw9285330440434002800:=trivial
def tw9288132123368517276:=trivial
def tw9288408567198321725:=trivial
def tw9317581013959189018:=trivial
def tw9410697515456101072:=trivial
def tw9426792329461335572:=trivial
def tw9529379738574454872:=trivial
def tw9696686549492884104:=trivial
def tw9744548841211292150:=trivial
def tw9795894861283921780:=trivial
def tw982285890071434483:=trivial
def tw9831344161378285520:=trivial
def tw9848828956034330105:=trivial
def tw987619627946343099:=trivial
def tw997337122594427095:=trivial
end PySem.W.Fast
open PySem PySem.W PyProof.Rows L2 L3 KK
set_option maxRecDepth 100000 in
set_option maxHeartbeats 0 in
theorem PySem.Challenge.cw_weightrooms_k16_whole_turned_over_holds : PySem.Challenge.rw_weightrooms_k16_whole_turned_over.Holds := by
 w_on;o_law;k_head;(case hw=>w_witness2)
 k_fill
 refine L2.walk_lawD (l:=PySem.Challenge.rw_weightrooms_k16_whole_turned_over) (x:="_law_script") (k:=52) rfl rfl ⟨rfl,by decide,by decide⟩ (λw h Y=>W.kIn_of Y) ?F ?D
 case F=>
  intro w mg h KX G base kb nb
  have TT:=by
   refine' IC KX G ?OA ?w_ ?N_ ?OB ?u_ ?H_ ?I_ ?E_ ?O4 ?OG ?D_ ?O5 ?i_ ?k_ ?O0 ?Pn ?O6 ?x_ ?Pp ?Pq ?O7 ?j_ ?Pr ?t_ ?OU ?Qn ?Qo ?y_ ?OF ?OI ?OJ ?OH ?OL ?OK ?OC ?Pt ?PJ ?PK ?PH ?PM ?PL ?OD ?PC ?PQ ?PR ?PN ?PV ?PU ?v_ ?OM ?OW ?OX ?OV ?OZ ?OY ?J_ ?O8 ?Pc ?Pd ?Pb ?Pf ?Pe ?Ov ?Pa ?Pw ?Px ?Pu ?Pz ?Py ?K_ ?O9 ?Ph ?Pj ?Pg ?Pl ?Pk ?i0 ?i1 ?i2 ?i3 ?i4 ?i5 ?i6 ?i7 ?i8 ?i9 ?PY ?PZ ?i12 ?P0 ?P1 ?P2 ?P4 ?P5 ?P6 ?P7 ?P8 ?P9 ?P_ ?Qa ?Qb ?Qc ?Qd ?Qe ?Qf ?Qg ?Qh ?Qi ?Qj ?Qk ?Ql
   case OA|w_|N_|OB|u_|H_|I_|E_|O4|OG|D_|O5|i_|k_|O0|Pn|O6|x_|Pp|Pq|O7|j_|Pr=>k_is
   (case t_=>exact (by refine' JN KX G ?a;(case a=>k_is)))
   (case OU=>exact (by refine' HG (vs:=[.str "across",.str "down"]) (ds:=[.str "across",.str "down"]) KX G ?a ?l ?s ?v ?r;(case a=>k_is);(case l=>k_is);(case s=>decide);(case v=>exact (.cons ⟨_,rfl⟩ (.cons ⟨_,rfl⟩ .nil)));(case r=>exact λ_ _=>(.cons (.str _) (.cons (.str _) .nil)))))
   case Qn|Qo=>k_is
   (case y_=>k_exc)
   (case OF=>exact QW.mpr ⟨_,by k_is⟩)
   case OI|OJ|OH|OL|OK=>k_is
   (case OC=>k_exc)
   (case Pt=>exact QW.mpr ⟨_,by k_is⟩)
   case PJ|PK|PH|PM|PL=>k_is
   (case OD=>k_exc)
   (case PC=>exact QW.mpr ⟨_,by k_is⟩)
   case PQ|PR|PN|PV|PU=>k_is
   (case v_=>k_exc)
   (case OM=>exact QW.mpr ⟨_,by k_is⟩)
   case OW|OX|OV|OZ|OY=>k_is
   (case J_=>k_exc)
   (case O8=>exact QW.mpr ⟨_,by k_is⟩)
   case Pc|Pd|Pb|Pf|Pe=>k_is
   (case Ov=>k_exc)
   (case Pa=>exact QW.mpr ⟨_,by k_is⟩)
   case Pw|Px|Pu|Pz|Py=>k_is
   (case K_=>k_exc)
   (case O9=>exact QW.mpr ⟨_,by k_is⟩)
   case Ph|Pj|Pg|Pl|Pk=>k_is
   (case i0=>kit_is)
   (case i1=>kit_is)
   (case i2=>kit_is)
   (case i3=>kit_is)
   (case i4=>kit_is)
   (case i5=>kit_is)
   (case i6=>kit_is)
   (case i7=>kit_is)
   (case i8=>kit_is)
   (case i9=>kit_is)
   (case PY=>kit_is)
   (case PZ=>kit_is)
   (case i12=>kit_is)
   (case P0=>kit_is)
   (case P1=>kit_is)
   (case P2=>kit_is)
   (case P4=>kit_is)
   (case P5=>kit_is)
   (case P6=>kit_is)
   (case P7=>kit_is)
   (case P8=>kit_is)
   (case P9=>kit_is)
   (case P_=>kit_is)
   (case Qa=>kit_is)
   (case Qb=>kit_is)
   (case Qc=>kit_is)
   (case Qd=>kit_is)
   (case Qe=>kit_is)
   (case Qf=>kit_is)
   (case Qg=>kit_is)
   (case Qh=>kit_is)
   (case Qi=>kit_is)
   (case Qj=>kit_is)
   (case Qk=>kit_is)
   (case Ql=>kit_is)
  have D_law_feed:=by
   refine' aN (x:="_law_feed") (st:=lB) KX G ?a ?l ?c ?k
   (case a=>k_is);(case l=>k_is);(case c=>k_is);(case k=>k_is)
  have D_law_next:=by
   refine' aN (x:="_law_next") (st:=lW) KX G ?a ?l ?c ?k
   (case a=>k_is);(case l=>k_is);(case c=>k_is);(case k=>k_is)
  have D_law_low:=by
   refine' aN (x:="_law_low") (st:=mH) KX G ?a ?l ?c ?k
   (case a=>k_is);(case l=>k_is);(case c=>k_is);(case k=>k_is)
  have D_law_great:=by
   refine' aN (x:="_law_great") (st:=ka) KX G ?a ?l ?c ?k
   (case a=>k_is);(case l=>k_is);(case c=>k_is);(case k=>k_is)
  have D_law_room:=by
   refine' aN (x:="_law_room") (st:=lZ) KX G ?a ?l ?c ?k
   (case a=>k_is);(case l=>k_is);(case c=>k_is);(case k=>k_is)
  have D_law_weights:=by
   refine' aN (x:="_law_weights") (st:=iK) KX G ?a ?l ?c ?k
   (case a=>k_is);(case l=>k_is);(case c=>k_is);(case k=>k_is)
  have D_law_order:=by
   refine' aN (x:="_law_order") (st:=j3) KX G ?a ?l ?c ?k
   (case a=>k_is);(case l=>k_is);(case c=>k_is);(case k=>k_is)
  have D_law_tree:=by
   refine' aN (x:="_law_tree") (st:=fu) KX G ?a ?l ?c ?k
   (case a=>k_is);(case l=>k_is);(case c=>k_is);(case k=>k_is)
  have D_law_chain:=by
   refine' aN (x:="_law_chain") (st:=j4) KX G ?a ?l ?c ?k
   (case a=>k_is);(case l=>k_is);(case c=>k_is);(case k=>k_is)
  have D_other_way:=by
   refine' aN (x:="other_way") (st:=j6) KX G ?a ?l ?c ?k
   (case a=>k_is);(case l=>k_is);(case c=>k_is);(case k=>k_is)
  have D_turned_tree:=by
   refine' aN (x:="turned_tree") (st:=eO) KX G ?a ?l ?c ?k
   (case a=>k_is);(case l=>k_is);(case c=>k_is);(case k=>k_is)
  have D_law_other:=by
   refine' aN (x:="_law_other") (st:=fT) KX G ?a ?l ?c ?k
   (case a=>k_is);(case l=>k_is);(case c=>k_is);(case k=>k_is)
  have D_law_named:=by
   refine' aN (x:="_law_named") (st:=fP) KX G ?a ?l ?c ?k
   (case a=>k_is);(case l=>k_is);(case c=>k_is);(case k=>k_is)
  have D_is_whole:=by
   refine' aN (x:="is_whole") (st:=kY) KX G ?a ?l ?c ?k
   (case a=>k_is);(case l=>k_is);(case c=>k_is);(case k=>k_is)
  have D_common_divisor:=by
   refine' aN (x:="common_divisor") (st:=gc) KX G ?a ?l ?c ?k
   (case a=>k_is);(case l=>k_is);(case c=>k_is);(case k=>k_is)
  have D_is_fraction:=by
   refine' aN (x:="is_fraction") (st:=iG) KX G ?a ?l ?c ?k
   (case a=>k_is);(case l=>k_is);(case c=>k_is);(case k=>k_is)
  have D_is_box:=by
   refine' aN (x:="is_box") (st:=md) KX G ?a ?l ?c ?k
   (case a=>k_is);(case l=>k_is);(case c=>k_is);(case k=>k_is)
  have D_check_box:=by
   refine' aN (x:="check_box") (st:=j0) KX G ?a ?l ?c ?k
   (case a=>k_is);(case l=>k_is);(case c=>k_is);(case k=>k_is)
  have D_is_weight:=by
   refine' aN (x:="is_weight") (st:=kd) KX G ?a ?l ?c ?k
   (case a=>k_is);(case l=>k_is);(case c=>k_is);(case k=>k_is)
  have D_check_weights:=by
   refine' aN (x:="check_weights") (st:=eS) KX G ?a ?l ?c ?k
   (case a=>k_is);(case l=>k_is);(case c=>k_is);(case k=>k_is)
  have D_is_way:=by
   refine' aN (x:="is_way") (st:=oD) KX G ?a ?l ?c ?k
   (case a=>k_is);(case l=>k_is);(case c=>k_is);(case k=>k_is)
  have D_is_branch:=by
   refine' aN (x:="is_branch") (st:=kr) KX G ?a ?l ?c ?k
   (case a=>k_is);(case l=>k_is);(case c=>k_is);(case k=>k_is)
  have D_is_tree:=by
   refine' aN (x:="is_tree") (st:=mY) KX G ?a ?l ?c ?k
   (case a=>k_is);(case l=>k_is);(case c=>k_is);(case k=>k_is)
  have D_check_tree:=by
   refine' aN (x:="check_tree") (st:=jt) KX G ?a ?l ?c ?k
   (case a=>k_is);(case l=>k_is);(case c=>k_is);(case k=>k_is)
  have D_check_way:=by
   refine' aN (x:="check_way") (st:=jV) KX G ?a ?l ?c ?k
   (case a=>k_is);(case l=>k_is);(case c=>k_is);(case k=>k_is)
  have D_fraction:=by
   refine' aN (x:="fraction") (st:=lG) KX G ?a ?l ?c ?k
   (case a=>k_is);(case l=>k_is);(case c=>k_is);(case k=>k_is)
  have D_added:=by
   refine' aN (x:="added") (st:=qh) KX G ?a ?l ?c ?k
   (case a=>k_is);(case l=>k_is);(case c=>k_is);(case k=>k_is)
  have D_times:=by
   refine' aN (x:="times") (st:=qf) KX G ?a ?l ?c ?k
   (case a=>k_is);(case l=>k_is);(case c=>k_is);(case k=>k_is)
  have D_shares:=by
   refine' aN (x:="shares") (st:=oi) KX G ?a ?l ?c ?k
   (case a=>k_is);(case l=>k_is);(case c=>k_is);(case k=>k_is)
  have D_parted:=by
   refine' aN (x:="parted") (st:=jy) KX G ?a ?l ?c ?k
   (case a=>k_is);(case l=>k_is);(case c=>k_is);(case k=>k_is)
  have D_things_in:=by
   refine' aN (x:="things_in") (st:=kq) KX G ?a ?l ?c ?k
   (case a=>k_is);(case l=>k_is);(case c=>k_is);(case k=>k_is)
  have D_parts_of:=by
   refine' aN (x:="parts_of") (st:=iQ) KX G ?a ?l ?c ?k
   (case a=>k_is);(case l=>k_is);(case c=>k_is);(case k=>k_is)
  have D_place:=by
   refine' aN (x:="place") (st:=ny) KX G ?a ?l ?c ?k
   (case a=>k_is);(case l=>k_is);(case c=>k_is);(case k=>k_is)
  have D_boxes_by:=by
   refine' aN (x:="boxes_by") (st:=iU) KX G ?a ?l ?c ?k
   (case a=>k_is);(case l=>k_is);(case c=>k_is);(case k=>k_is)
  have D_turned:=by
   refine' aN (x:="turned") (st:=og) KX G ?a ?l ?c ?k
   (case a=>k_is);(case l=>k_is);(case c=>k_is);(case k=>k_is)
  have D_path_to:=by
   refine' aN (x:="path_to") (st:=jU) KX G ?a ?l ?c ?k
   (case a=>k_is);(case l=>k_is);(case c=>k_is);(case k=>k_is)
  have D_relation:=by
   refine' aN (x:="relation") (st:=lV) KX G ?a ?l ?c ?k
   (case a=>k_is);(case l=>k_is);(case c=>k_is);(case k=>k_is)
  have D_law:=by
   refine' aN (x:="law") (st:=lC) KX G ?a ?l ?c ?k
   (case a=>k_is);(case l=>k_is);(case c=>k_is);(case k=>k_is)
  have A_:=vb (P:=PySem.Challenge.rw_weightrooms_k16_whole_turned_over.prog) (w:=w) (base:=base) TT D_law_feed
  have e_:=ue (P:=PySem.Challenge.rw_weightrooms_k16_whole_turned_over.prog) (w:=w) (base:=base) TT D_law_next
  have z_:=we (P:=PySem.Challenge.rw_weightrooms_k16_whole_turned_over.prog) (w:=w) (base:=base) TT D_law_low
  have l_:=sQ (P:=PySem.Challenge.rw_weightrooms_k16_whole_turned_over.prog) (w:=w) (base:=base) TT D_law_great e_
  have O1:=uE (P:=PySem.Challenge.rw_weightrooms_k16_whole_turned_over.prog) (w:=w) (base:=base) TT D_law_room e_ z_ l_
  have Ox:=pb (P:=PySem.Challenge.rw_weightrooms_k16_whole_turned_over.prog) (w:=w) (base:=base) TT D_law_weights A_ e_ l_
  have OR:=sC (P:=PySem.Challenge.rw_weightrooms_k16_whole_turned_over.prog) (w:=w) (base:=base) TT D_law_order e_
  have L_:=mf (P:=PySem.Challenge.rw_weightrooms_k16_whole_turned_over.prog) (w:=w) (base:=base) TT D_law_tree e_ 42
  have OQ:=sH (P:=PySem.Challenge.rw_weightrooms_k16_whole_turned_over.prog) (w:=w) (base:=base) TT D_law_chain e_
  have C_:=su (P:=PySem.Challenge.rw_weightrooms_k16_whole_turned_over.prog) (w:=w) (base:=base) TT D_other_way
  have s_:=jm (P:=PySem.Challenge.rw_weightrooms_k16_whole_turned_over.prog) (w:=w) (base:=base) TT D_turned_tree C_ 42
  have F_:=kA (P:=PySem.Challenge.rw_weightrooms_k16_whole_turned_over.prog) (w:=w) (base:=base) TT D_law_other 42
  have B_:=ku (P:=PySem.Challenge.rw_weightrooms_k16_whole_turned_over.prog) (w:=w) (base:=base) TT D_law_named 42
  have p_:=vH (P:=PySem.Challenge.rw_weightrooms_k16_whole_turned_over.prog) (w:=w) (base:=base) TT D_is_whole
  have m_:=mG (P:=PySem.Challenge.rw_weightrooms_k16_whole_turned_over.prog) (w:=w) (base:=base) TT D_common_divisor
  have Ow:=pP (P:=PySem.Challenge.rw_weightrooms_k16_whole_turned_over.prog) (w:=w) (base:=base) TT D_is_fraction p_ m_
  have PD:=yS (P:=PySem.Challenge.rw_weightrooms_k16_whole_turned_over.prog) (w:=w) (base:=base) TT D_is_box Ow
  have n_:=sR (P:=PySem.Challenge.rw_weightrooms_k16_whole_turned_over.prog) (w:=w) (base:=base) TT D_check_box PD
  have OP:=sP (P:=PySem.Challenge.rw_weightrooms_k16_whole_turned_over.prog) (w:=w) (base:=base) TT D_is_weight p_
  have r_:=nJ (P:=PySem.Challenge.rw_weightrooms_k16_whole_turned_over.prog) (w:=w) (base:=base) TT D_check_weights OP
  have M_:=zo (P:=PySem.Challenge.rw_weightrooms_k16_whole_turned_over.prog) (w:=w) (base:=base) TT D_is_way
  have OO:=sG (P:=PySem.Challenge.rw_weightrooms_k16_whole_turned_over.prog) (w:=w) (base:=base) TT D_is_branch M_
  have O_:=v5 (P:=PySem.Challenge.rw_weightrooms_k16_whole_turned_over.prog) (w:=w) (base:=base) TT D_is_tree OO p_
  have OE:=qt (P:=PySem.Challenge.rw_weightrooms_k16_whole_turned_over.prog) (w:=w) (base:=base) TT D_check_tree O_
  have ON:=sE (P:=PySem.Challenge.rw_weightrooms_k16_whole_turned_over.prog) (w:=w) (base:=base) TT D_check_way M_
  have o_:=ua (P:=PySem.Challenge.rw_weightrooms_k16_whole_turned_over.prog) (w:=w) (base:=base) TT D_fraction m_
  have PX:=AW (P:=PySem.Challenge.rw_weightrooms_k16_whole_turned_over.prog) (w:=w) (base:=base) TT D_added o_
  have Pm:=zr (P:=PySem.Challenge.rw_weightrooms_k16_whole_turned_over.prog) (w:=w) (base:=base) TT D_times o_
  have O2:=yr (P:=PySem.Challenge.rw_weightrooms_k16_whole_turned_over.prog) (w:=w) (base:=base) TT D_shares PX Pm o_
  have PF:=zg (P:=PySem.Challenge.rw_weightrooms_k16_whole_turned_over.prog) (w:=w) (base:=base) TT D_parted n_ ON r_ O2
  have OS:=sv (P:=PySem.Challenge.rw_weightrooms_k16_whole_turned_over.prog) (w:=w) (base:=base) TT D_things_in
  have Em:=u9 (P:=PySem.Challenge.rw_weightrooms_k16_whole_turned_over.prog) (w:=w) (base:=base) TT D_parts_of PF OS
  have OT:=oW (P:=PySem.Challenge.rw_weightrooms_k16_whole_turned_over.prog) (w:=w) (base:=base) TT D_place Em 42
  have Oy:=tR (P:=PySem.Challenge.rw_weightrooms_k16_whole_turned_over.prog) (w:=w) (base:=base) TT D_boxes_by n_ r_ OE OT
  have O3:=zc (P:=PySem.Challenge.rw_weightrooms_k16_whole_turned_over.prog) (w:=w) (base:=base) TT D_turned n_
  have G_:=mQ (P:=PySem.Challenge.rw_weightrooms_k16_whole_turned_over.prog) (w:=w) (base:=base) TT D_path_to 42
  have Oz:=ur (P:=PySem.Challenge.rw_weightrooms_k16_whole_turned_over.prog) (w:=w) (base:=base) TT D_relation G_
  have Qm:=Fd (P:=PySem.Challenge.rw_weightrooms_k16_whole_turned_over.prog) (w:=w) (base:=base) TT D_law A_ O1 Ox e_ OR L_ OQ s_ F_ B_ Oy O3 Oz
  exact Dk Qm (law3 p6 rfl Hd)
 case D=>
  intro w mg h KX G
  refine⟨lC,?_,(λ_ _ _ _ _ _=>ar1 λ_=>rfl)⟩
  refine' aN KX G ?a ?l ?c ?k;case a|l|c|k=>k_is
