import PyProof.Rows.All
import Wide.All
import OpenK.AllK
import Wide.FinOn
import Lean
import PyProof.EqAt
import PyProof.EqKinds
import PyProof.TupleCall
import PyProof.Rows.SumAny
import PyProof.EnumMake
import PyProof.Draws
import PyProof.ZipIter
import KE.KUnpack
import KE.KxIndex
import PyProof.SetRoads
import PyProof.SetNew
import PyProof.AutoSeq1
import KE.KRevSl
import PyProof.SeqI3
import PySem.Challenge.RW_weightrooms_k12_boxes_by_trees
local macro_rules|`(tactic|trivial)=>`(tactic|first|exact Or.inl rfl|exact Or.inr rfl)
local macro_rules|`(tactic|decide)=>`(tactic|decide +kernel)
set_option genSizeOf false
set_option genInjectivity false
set_option bootstrap.genMatcherCode false
noncomputable section
set_option Elab.async false
set_option linter.all false
def N7:=@PySem.wpAny_bind
def N8:=@List.length_map
def N9:=@List.mem_cons_of_mem
def N_:=@List.getElem?_eq_some_iff
def Oa:=@List.length_append
def Od:=@List.mem_cons_self
def Oe:=@Nat.le_refl
def Of:=@List.map_cons
def Og:=@PySem.Heap.get?_push_of_some
def Oh:=@PySem.Heap.lt_size
def Oi:=@Bool.false_ne_true
def Oj:=@List.size_toArray
def Ol:=@Bool.and_eq_true
def Om:=@PySem.wpAny_pure
def Oo:=@List.length_cons
def Oq:=@List.length_set
def Ot:=@Nat.lt_of_lt_of_le
def Ou:=@PySem.Heap.get?_push_size
def Ov:=@beq_eq_false_iff_ne
def Ow:=@List.mem_cons
def Ox:=@List.mem_append_right
def Oy:=@Nat.le_trans
def Oz:=@Option.some.inj
def OA:=@decide_eq_false
def OB:=@List.getElem?_append_right
def OC:=@List.length_nil
def OD:=@List.getElem?_map
def OE:=@Option.map_eq_some_iff
def OF:=@List.getElem?_append_left
def OG:=@List.getElem?_eq_getElem
def OH:=@decide_eq_true
def OI:=@Nat.ne_of_lt
def OJ:=@List.map_nil
def OK:=@Nat.zero_le
def OL:=@Option.isSome_iff_exists
def OM:=@List.sum_cons
def ON:=@PySem.wpAny_mono
def OO:=@Option.bind_eq_some_iff
def OP:=@List.map_append
def OQ:=@List.nil_append
def OR:=@List.append_nil
def OS:=@Nat.lt_irrefl
def OT:=@PySem.Heap.get?_update_other
def OU:=@List.mem_map
def OV:=@List.all_eq_true
def OW:=@List.find?_cons
def OX:=@PySem.W.mg_none_of
def OY:=@List.mem_or_eq_of_mem_set
def OZ:=@PySem.mem_of_lookup
def O0:=@Int.toNat_natCast
def O1:=@List.append_assoc
def O2:=@PySem.wpAny_newObj_type
def O3:=@congrArg
def O4:=@List.mem_append
def O5:=@Rat.intCast_mul
def O6:=@PySem.wpAny_field
def O7:=@Bool.false_eq_true
def O8:=@List.getElem?_replicate
def O9:=@Int.natAbs_mul
def O_:=@Nat.mul_le_mul
def Pa:=@List.mem_map_of_mem
def Pb:=@List.length_replicate
def Pc:=@List.lookup_cons
def Pd:=@PySem.F.slot_list_append
def Pe:=@PySem.F.type_list_append
def Pf:=@Int.mul_assoc
def Pg:=@List.any_cons
def Ph:=@List.mem_of_getElem?
def Pj:=@PySem.wpAny_seqItems
def Pk:=@List.length_eq_zero_iff
def Pl:=@List.map_map
def Pm:=@List.getD_eq_getElem?_getD
def Pn:=@List.length_take
def Pp:=@PySem.Heap.size_push
def Pq:=@List.getElem?_eq_none_iff
def Pr:=@Nat.mul_pos
def Pt:=@PySem.wpAny_callSpecial?_slot
def Pu:=@List.filterMap_cons
def Pw:=@if_true
def Px:=@List.take_of_length_le
def Py:=@Nat.sub_self
def Pz:=@PySem.wpAny_setField_rec
def PC:=@Int.natCast_mul
def PD:=@List.getElem?_zipWith
def PF:=@PySem.wpAny_passesOwn
def PH:=@PySem.F.slot_tuple_iterator_next
def PJ:=@List.flatten_cons
def PK:=@PySem.wpAny_truthy_bool
def PL:=@PySem.Heap.get?_none_of_le
def PM:=@List.getElem?_set_ne
def PN:=@Nat.ne_of_gt
def PQ:=@if_false
def PR:=@List.length_zipWith
def PU:=@Nat.mul_le_mul_left
def PV:=@List.all_cons
def PX:=@List.take_nil
def PY:=@PySem.wpAny_holding
def PZ:=@List.nodup_cons
def P0:=@Nat.lt_of_le_of_lt
def P1:=@Nat.not_lt_zero
def P2:=@PySem.F.plain_sum_loop
def P4:=@Int.mul_left_comm
def P5:=@List.getElem?_nil
def P6:=@PySem.Heap.get?_update_self
def P7:=@List.dropLast_eq_take
def P8:=@List.mapM_cons
def P9:=@List.mem_range
def P_:=@List.take_append_drop
def Qa:=@List.sublist_flatten_of_mem
def Qb:=@PyProof.Rows.callWith_type1
def Qc:=@List.length_drop
def Qd:=@List.mem_append_left
def Qe:=@Nat.pow_le_pow_right
def Qf:=@beq_iff_eq
def Qg:=@PySem.wpAny_call_entry
def Qh:=@Int.eq_of_mul_eq_mul_right
def Qi:=@List.drop_nil
def Qj:=@Nat.pow_add
def Qk:=@Classical.byContradiction
def Ql:=@Int.mul_comm
def Qm:=@Int.mul_right_comm
def Qn:=@List.mem_singleton
def Qo:=@PySem.F.args_tuple_add_2
def Qp:=@PySem.F.slot_list_extend
def Qq:=@PySem.wpAny_Call_Name_kw
def Qr:=@PySem.call_meets
def Qs:=@PySem.F.entry_tuple_add
def Qt:=@List.getElem?_set
def Qu:=@List.length_range
def Qv:=@decide_eq_true_eq
def Qw:=@PySem.wpAny_pyIter_list
def Qx:=@List.Sublist.length_le
def Qy:=@List.getElem?_set_self
def Qz:=@PySem.F.slot_tuple_add
def QA:=@PySem.wpAny_attempt
def QB:=@List.cons_append
def QC:=@Nat.le_add_right
def QD:=@PySem.wpAny_isInstance
def QE:=@PySem.W.mg_of
def QF:=@PySem.F.args_list_append_2
def QG:=@PySem.F.slot_zip_next
def QH:=@Int.mul_ne_zero
def QI:=@List.forIn_cons
def QJ:=@List.getElem?_append
def QK:=@List.getElem?_of_mem
def QL:=@Nat.le_of_lt
def QM:=@Nat.min_eq_left
def QN:=@Nat.mul_le_mul_right
def QO:=@PySem.wpAny_execs_nil
def QP:=@PySem.wpAny_updateSeq_pair
def QQ:=@Array.length_toList
def QR:=@PySem.F.entry_list_append
def QS:=@List.length_pos_iff
def QT:=@List.forIn_nil
def QU:=@Int.mul_pos
def QV:=@Nat.mul_assoc
def QW:=@PySem.Paired.length
def QX:=@PySem.wpAny_onRaise
def QY:=@PySem.wpAny_standAt
set_option maxRecDepth 100000
namespace L2
open PySem PySem.Spec PyProof.Rows
abbrev Key:=Sum Int Str
def mC:Key->Value->Bool
 |.inl k,v=>Value.isInt k v
 |.inr x,v=>Value.isStrOf x v
def keyH(w:World):Key->Int
 |.inl k=>hashInt k
 |.inr x=>hashStr w x
theorem cC:∀{k:Key}{v:Value},mC k v=true->(∃i t,k=Sum.inl i/\v=Value.int i t)\/(∃x t,k=Sum.inr x/\v=Value.str x t)
 |
  .inl i,v,h=>by
  obtain⟨t,e⟩:=Value.isInt_shape (k:=i) (v:=v) h
  exact .inl ⟨i,t,rfl,e⟩
 |
  .inr x,v,h=>by
  obtain⟨t,e⟩:=Value.isStrOf_shape (x:=x) (v:=v) h
  exact .inr ⟨x,t,rfl,e⟩
def yf(i:Int)(t:Tok):mC (.inl i) (.int i t)=true:=by simp [mC,Value.isInt]
def yM(x:Str)(t:Tok):mC (.inr x) (.str x t)=true:=by simp [mC,Value.isStrOf]
def Iz(a b:Int):decide ((Sum.inl a:Key)=Sum.inl b)=(a==b):=by
 by_cases e:a=b
 ·subst e;simp
 ·have h:¬ (Sum.inl a:Key)=Sum.inl b:=λq=>e (Sum.inl.inj q)
  rw[OA h]
  exact (Ov.mpr e).symm
def Jg(a b:Str):decide ((Sum.inr a:Key)=Sum.inr b)=decide (a=b):=by
 by_cases e:a=b
 ·subst e;simp
 ·have h:¬ (Sum.inr a:Key)=Sum.inr b:=λq=>e (Sum.inr.inj q)
  rw[OA h,OA e]
def GB(a:Int)(b:Str):decide ((Sum.inl a:Key)=Sum.inr b)=false:=OA (λq=>nomatch q)
def Gs(a:Str)(b:Int):decide ((Sum.inr a:Key)=Sum.inl b)=false:=OA (λq=>nomatch q)
def cM(prog:Program)(w:World):PySem.KeyKind prog w Key where
 is:=mC
 hash:=keyH w
 inj
  := λv a b ha hb=>by
  rcases cC ha with ⟨i,t,rfl,rfl⟩ |⟨x,t,rfl,rfl⟩
  ·rcases cC hb with ⟨j,u,rfl,e⟩ |⟨y,u,rfl,e⟩
   ·injection e with e1 _;rw[e1]
   ·exact nomatch e
  ·rcases cC hb with ⟨j,u,rfl,e⟩ |⟨y,u,rfl,e⟩
   ·exact nomatch e
   ·injection e with e1 _;rw[e1]
 byValue:=λk v h=>by
  rcases cC h with ⟨i,t,rfl,rfl⟩ |⟨x,t,rfl,rfl⟩ <;> rfl
 pyHash:=λhv h=>by
  rcases cC hv with ⟨i,t,rfl,rfl⟩ |⟨x,t,rfl,rfl⟩
  ·exact wpAny_pyHash_int h
  ·exact wpAny_pyHash_str h
 eqBool:=λhu hv h=>by
  rcases cC hu with ⟨i,t,rfl,rfl⟩ |⟨x,t,rfl,rfl⟩
  ·rcases cC hv with ⟨j,u,rfl,rfl⟩ |⟨y,u,rfl,rfl⟩
   ·rw[Iz] at h;exact wpAny_eqBool_int h
   ·rw[GB] at h;exact SeqAt.EqAt.int_str i t y u _ _ _ _ h
  ·rcases cC hv with ⟨j,u,rfl,rfl⟩ |⟨y,u,rfl,rfl⟩
   ·rw[Gs] at h;exact SeqAt.EqAt.str_int x t j u _ _ _ _ h
   ·rw[Jg] at h;exact wpAny_eqBool_str h
 «strs»:=λk x t v h=>by
  rcases cC h with ⟨i,u,rfl,e⟩ |⟨y,u,rfl,e⟩
  ·exact nomatch e
  ·injection e with e1 _
   subst e1
   cases v <;> rfl
def vg(prog:Program)(w:World)(i:Int)(t:Tok):(cM prog w).is (.inl i) (.int i t)=true:=yf i t
def u7(prog:Program)(w:World)(x:Str)(t:Tok):(cM prog w).is (.inr x) (.str x t)=true:=yM x t
end L2
namespace L2
open PySem PySem.Spec PyProof.Rows
inductive V where
 |non |bl (b:Bool) |int (i:Int) |str (x:Str) |byt (b:Array UInt8) |flt (b:UInt64) |ref (a:Addr) |ty (n:String)
 deriving DecidableEq
def RelV:V->Value->Prop
 |.non,u=>u=Value.none
 |.bl b,u=>u=Value.bool b
 |.int i,u=>∃t,u=Value.int i t
 |.str x,u=>∃t,u=Value.str x t
 |.byt b,u=>∃t,u=Value.bytes b t
 |.flt b,u=>∃t,u=Value.float b t
 |.ref a,u=>u=Value.ref a
 |.ty n,u=>u=Value.type n
abbrev Vals:List V->List Value->Prop:=Paired RelV
def Vals.length{xs:List V}{us:List Value}(r:Vals xs us):xs.length=us.length:=QW r
def Vals.get{xs:List V}{us:List Value}{i:Nat}{x:V}(r:Vals xs us)(e:xs[i]?=some x):∃u,us[i]?=some u/\RelV x u:=by
 induction r generalizing i with
 |nil=>rw[P5] at e;cases e
 |
  cons r t ih=>
  cases i with
  |zero=>cases e;exact⟨_,rfl,r⟩
  |succ i=>exact ih (i:=i) e
def Vals.set{x:V}{u:Value}(r:RelV x u){xs:List V}{us:List Value}(i:Nat)(q:Vals xs us):Vals (xs.set i x) (us.set i u):=by
 induction q generalizing i with
 |nil=>exact .nil
 |
  cons q t ih=>
  cases i with
  |zero=>exact .cons r t
  |succ i=>exact .cons q (ih i)
def Vals.append{xs ys:List V}{us ws:List Value}(r:Vals xs us)(s:Vals ys ws):Vals (xs++ys) (us++ws):=by
 induction r with
 |nil=>exact s
 |cons r t ih=>exact .cons r ih
def Vals.take{xs:List V}{us:List Value}(n:Nat)(r:Vals xs us):Vals (xs.take n) (us.take n):=by
 induction r generalizing n with
 |nil=>rw[PX,PX];exact .nil
 |
  cons r t ih=>
  cases n with
  |zero=>exact .nil
  |succ n=>exact .cons r (ih n)
def Vals.drop{xs:List V}{us:List Value}(n:Nat)(r:Vals xs us):Vals (xs.drop n) (us.drop n):=by
 induction r generalizing n with
 |nil=>rw[Qi,Qi];exact .nil
 |
  cons r t ih=>
  cases n with
  |zero=>exact .cons r t
  |succ n=>exact ih n
def RelO:Option V->Option Value->Prop
 |some v,some u=>RelV v u
 |none,none=>True
 |_,_=>False
def KV{κ:Type}:List (κ×V)->List (κ×Value)->Prop:=Paired λ(p:κ×V) (q:κ×Value)=>p.1=q.1/\RelV p.2 q.2
def kV:Key->V
 |.inl i=>.int i
 |.inr x=>.str x
inductive HO where
 |lst (xs:List V)
 |tup (xs:List V)
 |dK (kvs:List (Key×V)) |dT (kvs:List (List Key×V))
 |set (S:Int->Bool) (n:Nat)
 |ins (C dx:Addr) (fs:List (Str×V))
 |own (x:Addr)
 |xd (fs:List (Str×V))
 |met (f x:Addr)
 |rng (lo hi:Int)
 |frz (o:Obj) (u:HO)
 |tbl (ps:Array Value)
 |ext (φ:Heap->Prop)
abbrev Hp:=Addr->Option HO
def upd(H:Hp)(a:Addr)(o:HO):Hp:=λb=>if b=a then some o else H b
def cB{H:Hp}{a:Addr}{o:HO}:upd H a o a=some o:=by unfold upd;rw[if_pos rfl]
def aT{H:Hp}{a b:Addr}{o:HO}(h:b≠a):upd H a o b=H b:=by unfold upd;rw[if_neg h]
def La{H:Hp}{a b:Addr}{o u:HO}(h:H a=some o)(h':H b=some u)(d:o≠u):a≠b:=by
 intro e;subst e;rw[h] at h';exact d (Oz h')
def cI{H:Hp}{a b:Addr}{o:HO}(h:H a=some o)(h':H b=none):a≠b:=by
 intro e;subst e;rw[h] at h';cases h'
section
variable(P:Program)(w:World)
def ObjOk(H:Hp)(h:Heap)(a:Addr):HO->Prop
 |.lst xs=>xs.length<=sizeLine/\∃(its:List Value) (n:Nat),Vals xs its/\h.get? a=some { cls:=.type "list",data:=.seq its.toArray n }
 |.tup xs=>xs.length<=sizeLine/\∃its:List Value,Vals xs its/\IsTup h a its.toArray
 |.dK kvs=>kvs.length<=sizeLine/\(a==sysModules)=false/\∃vs,KV kvs vs/\h.DictOf (cM P w) a vs
 |.dT kvs=>kvs.length<=sizeLine/\(a==sysModules)=false/\∃xs:List (List Key×Addr×Value),
  Paired (λ(p:List Key×V) (q:List Key×Addr×Value)=>p.1=q.1/\H q.2.1=some (.tup (p.1.map kV))/\RelV p.2 q.2.2) kvs xs/\
  ∃o es ep,h.get? a=some o/\o.ExactDict/\o.data=.dict es ep/\es.toList=xs.map (entryOfKey (tupleKind (cM P w)))/\(xs.map (·.1)).Nodup
 |.set S n=>h.SetOf (intKind P w) a S n
 |.ins C dx fs=>H dx=some (.own a)/\fs.length<=1000/\dx≠a/\h.get? a=some (W.instObj C dx)/\
  ∃mA,h.Ns1 dx mA/\(∀f,RelO (fs.lookup f) (mA f))/\PySem.Within mA (fs.map (·.1))
 |.own _=>∃o,h.get? a=some o
 |.xd fs=>∃mA,h.Ns1 a mA/\∀f,RelO (fs.lookup f) (mA f)
 |.rng lo hi=>∃t u v,h.get? a=some { cls:=.type "range",data:=.fields #[.int lo t,.int hi u,.int 1 v] }
 |.frz o u=>h.get? a=some o/\ObjOk H h a u
 |.tbl ps=>h.get? a=some { cls:=.none,data:=.fields ps }
 |.met f x=>h.get? a=some (W.methodObj (.ref f) (.ref x))
 |.ext φ=>φ h/\(∃o,h.get? a=some o)/\∀h1 h2:Heap,φ h1->(∀o,h1.get? a=some o->h2.get? a=some o)->φ h2
def HOk(H:Hp)(h:Heap):Prop:=∀a o,H a=some o->ObjOk P w H h a o
end
section
variable{P:Program}{w:World}{H H':Hp}{h h':Heap}{a:Addr}{o:HO}
def ObjOk.lt(x:ObjOk P w H h a o):a<h.objs.size:=by
 cases o with
 |lst xs=>obtain⟨_,_,_,_,e⟩:=x;exact Oh e
 |tup xs=>obtain⟨_,_,_,p⟩:=x;exact p.lt
 |dK kvs=>obtain⟨_,_,_,_,o,_,_,e,_⟩:=x;exact Oh e
 |dT kvs=>obtain⟨_,_,_,_,o,_,_,e,_⟩:=x;exact Oh e
 |set S n=>obtain⟨o,_,_,_,e,_⟩:=x;exact Oh e
 |ins C dx fs=>obtain⟨_,_,_,e,_⟩:=x;exact Oh e
 |own y=>obtain⟨_,e⟩:=x;exact Oh e
 |xd fs=>obtain⟨_,⟨_,_,_,e,_⟩,_⟩:=x;exact Oh e
 |rng lo hi=>obtain⟨_,_,_,e⟩:=x;exact Oh e
 |frz ob u=>obtain⟨e,_⟩:=x;exact Oh e
 |tbl ps=>exact Oh (show h.get? a=some _ from x)
 |met f y=>exact Oh (show h.get? a=some _ from x)
 |ext φ=>obtain⟨_,⟨_,e⟩,_⟩:=x;exact Oh e
def Paired.mapP{α β:Type}{F G:α->β->Prop}{l₁:List α}{l₂:List β}(r:Paired F l₁ l₂)(f:∀a b,F a b->G a b):Paired G l₁ l₂:=by
 induction r with
 |nil=>exact .nil
 |cons r t ih=>exact .cons (f _ _ r) ih
def ObjOk.stay(x:ObjOk P w H h a o)(k:∀b u,(b=a\/H b=some (.own a))->h.get? b=some u->h'.get? b=some u)
 (ho:∀b,H b=some (.own a)->H' b=some (.own a)) (ht:∀b xs,H b=some (.tup xs)->H' b=some (.tup xs)):ObjOk P w H' h' a o:=by
 induction o with
 |lst xs=>obtain⟨z,its,n,r,e⟩:=x;exact⟨z,its,n,r,k _ _ (.inl rfl) e⟩
 |tup xs=>obtain⟨z,its,r,ob,e,c⟩:=x;exact⟨z,its,r,ob,k _ _ (.inl rfl) e,c⟩
 |dK kvs=>obtain⟨z,y,vs,r,ob,es,ep,e,c⟩:=x;exact⟨z,y,vs,r,ob,es,ep,k _ _ (.inl rfl) e,c⟩
 |
  dT kvs=>
  obtain⟨z,y,xs,r,ob,es,ep,e,c⟩:=x
  exact⟨z,y,xs,Paired.mapP r λp q z=>⟨z.1,ht _ _ z.2.1,z.2.2⟩,ob,es,ep,k _ _ (.inl rfl) e,c⟩
 |set S n=>obtain⟨ob,es,ep,t,e,c⟩:=x;exact⟨ob,es,ep,t,k _ _ (.inl rfl) e,c⟩
 |
  ins C dx fs=>
  obtain⟨d,z,ne,e,mA,⟨od,es,ep,e2,c⟩,r⟩:=x
  exact⟨ho _ d,z,ne,k _ _ (.inl rfl) e,mA,⟨od,es,ep,k _ _ (.inr d) e2,c⟩,r⟩
 |own y=>obtain⟨ob,e⟩:=x;exact⟨ob,k _ _ (.inl rfl) e⟩
 |xd fs=>obtain⟨mA,⟨od,es,ep,e,c⟩,r⟩:=x;exact⟨mA,⟨od,es,ep,k _ _ (.inl rfl) e,c⟩,r⟩
 |rng lo hi=>obtain⟨t,u,v,e⟩:=x;exact⟨t,u,v,k _ _ (.inl rfl) e⟩
 |frz ob u ih=>obtain⟨e,q⟩:=x;exact⟨k _ _ (.inl rfl) e,ih q⟩
 |
  tbl ps=>
  have e:h.get? a=some { cls:=.none,data:=.fields ps }:=x
  show h'.get? a=some { cls:=.none,data:=.fields ps }
  exact k a _ (.inl rfl) e
 |
  met f y=>
  have e:h.get? a=some (W.methodObj (.ref f) (.ref y)):=x
  show h'.get? a=some (W.methodObj (.ref f) (.ref y))
  exact k a _ (.inl rfl) e
 |ext φ=>obtain⟨p,⟨o,e⟩,st⟩:=x;exact⟨st _ _ p λo q=>k _ _ (.inl rfl) q,⟨o,k _ _ (.inl rfl) e⟩,st⟩
def HOk.lt(x:HOk P w H h)(e:H a=some o):a<h.objs.size:=(x a o e).lt
def HOk.fresh(x:HOk P w H h)(e:h.objs.size<=a):H a=none:=by
 cases q:H a with
 |none=>rfl
 |some u=>exact absurd (Ot (x.lt q) e) (OS _)
def HOk.kept(x:HOk P w H h)(k:∀b u,h.get? b=some u->h'.get? b=some u):HOk P w H h':=λa o e=>
 (x a o e).stay (λb u _ q=>k b u q) (λ_ q=>q) λ_ _ q=>q
def HOk.laid(x:HOk P w H h)(k:∀b u,h.get? b=some u->h'.get? b=some u)(hp:h.objs.size<=a)(new:ObjOk P w (upd H a o) h' a o):HOk P w (upd H a o) h':=λb u e=>by
 have hn:=x.fresh hp
 by_cases hb:b=a
 ·subst hb;rw[cB] at e;cases e;exact new
 ·rw[aT hb] at e
  exact (x b u e).stay (λc v _ q=>k c v q) (λc q=>by rw[aT (cI q hn)];exact q) λc xs q=>by rw[aT (cI q hn)];exact q
end
def Rd(H:Hp)(a:Addr)(u:HO):Prop:=H a=some u\/∃o,H a=some (.frz o u)
def Rd.ok{P:Program}{w:World}{H:Hp}{h:Heap}{a:Addr}{u:HO}(r:Rd H a u)(x:HOk P w H h):ObjOk P w H h a u:=by
 rcases r with r |⟨o,r⟩
 ·exact x a u r
 ·obtain⟨_,q⟩:=x a _ r
  exact q
def Mut:Option HO->Prop
 |some (.lst _)=>True
 |some (.dK _)=>True
 |some (.dT _)=>True
 |some (.set _ _)=>True
 |some (.ins _ _ _)=>True
 |some (.ext _)=>True
 |_=>False
section
variable{P:Program}{w:World}{H:Hp}{h h':Heap}{x e:Addr}{o':HO}
def HOk.write(ok:HOk P w H h)(mu:Mut (H x))(he:e=x\/H e=some (.own x))(k:∀b u,b≠e->h.get? b=some u->h'.get? b=some u)(heo:∃u,h'.get? e=some u)
 (new:ObjOk P w (upd H x o') h' x o'):HOk P w (upd H x o') h':=λb u q=>by
 have nown:∀c y,H c=some (.own y)->c≠x:=λc y r z=>by subst z;rw[r] at mu;exact mu
 have ntup:∀c xs,H c=some (.tup xs)->c≠x:=λc xs r z=>by subst z;rw[r] at mu;exact mu
 by_cases hb:b=x
 ·subst hb;rw[cB] at q;cases q;exact new
 ·rw[aT hb] at q
  by_cases hbe:b=e
  ·have q':H b=some (.own x):=by
    rcases he with z |z
    ·exact absurd (hbe.trans z) hb
    ·rw[hbe];exact z
   rw[q] at q';cases q'
   obtain⟨v,hv⟩:=heo
   exact⟨v,by rw[hbe];exact hv⟩
  ·refine (ok b u q).stay (λc v hc r=>k c v ?_ r) (λc r=>by rw[aT (nown c b r)];exact r) λc xs r=>by rw[aT (ntup c xs r)];exact r
   rcases hc with rfl |hc
   ·exact hbe
   ·rintro rfl
    rcases he with z |z
    ·exact nown c b hc z
    ·rw[hc] at z;cases z;exact hb rfl
end
structure Un(fs ex:List Addr)(H H':Hp)(h h':Heap):Prop where
 keep:∀b o,h.get? b=some o->H b=none->b∉fs->b∉ex->h'.get? b=some o
 slot:∀b o,h.get? b=some o->H b=none->b∈fs->b∉ex->∃sl,h'.get? b=some { o with slots:=sl }
 free:∀b o,h.get? b=some o->H b=none->b∉ex->H' b=none
 there:∀b o,h.get? b=some o->b∉ex->∃o',h'.get? b=some o'
 tups:∀b xs,H b=some (.tup xs)->H' b=some (.tup xs)
 frzs:∀b o u,H b=some (.frz o u)->H' b=some (.frz o u)
 tbls:∀b ps,H b=some (.tbl ps)->∃more,H' b=some (.tbl (ps++more))
section
variable{fs fs' ex ex':List Addr}{H H1 H2:Hp}{h h1 h2 h':Heap}{a x e:Addr}{o:HO}
def Un.any(u:Un fs ex H H1 h h1){b:Addr}{ob:Obj}(q:h.get? b=some ob)(n:H b=none)(hx:b∉ex):∃sl,h1.get? b=some { ob with slots:=sl }:=by
 by_cases hb:b∈fs
 ·exact u.slot b ob q n hb hx
 ·exact⟨ob.slots,u.keep b ob q n hb hx⟩
def Un.kept(k:∀b u,h.get? b=some u->h'.get? b=some u):Un fs ex H H h h':=
 ⟨λb ob q _ _ _=>k b ob q,λb ob q _ _ _=>⟨ob.slots,k b ob q⟩,λ_ _ _ n _=>n,λb ob q _=>⟨ob,k b ob q⟩,λ_ _ q=>q,λ_ _ _ q=>q,λ_ ps q=>⟨#[],by rw[q];simp⟩⟩
def Un.refl:Un fs ex H H h h:=Un.kept λ_ _ q=>q
def Un.laid(k:∀b u,h.get? b=some u->h'.get? b=some u)(hp:h.objs.size<=a)(hn:H a=none):Un fs ex H (upd H a o) h h' where
 keep:=λb u q _ _ _=>k b u q
 slot:=λb u q _ _ _=>⟨u.slots,k b u q⟩
 free:=λb u q n _=>by rw[aT (OI (Ot (Oh q) hp))];exact n
 there:=λb u q _=>⟨u,k b u q⟩
 tups:=λb xs q=>by rw[aT (cI q hn)];exact q
 frzs:=λb u xs q=>by rw[aT (cI q hn)];exact q
 tbls:=λb ps q=>⟨#[],by rw[aT (cI q hn),q];simp⟩
def Un.write(mu:Mut (H x))(he:e=x\/H e=some (.own x))(k:∀b u,b≠e->h.get? b=some u->h'.get? b=some u)(heo:∃u,h'.get? e=some u):Un fs ex H (upd H x o) h h':=by
 have hx:∀b,H b=none->b≠x:=λb n z=>by subst z;rw[n] at mu;exact mu
 have hb:∀b,H b=none->b≠e:=λb n z=>by
  subst z
  rcases he with r |r
  ·exact hx b n r
  ·rw[n] at r;cases r
 have hm:∀b u,H b=some u->¬ Mut (some u)->b≠x:=λb u q nm z=>by subst z;rw[q] at mu;exact nm mu
 refine⟨λb u q n _ _=>k b u (hb b n) q,λb u q n _ _=>⟨u.slots,k b u (hb b n) q⟩,λb u q n _=>by rw[aT (hx b n)];exact n,λb u q _=>?_,
  λb xs q=>by rw[aT (hm b _ q λz=>z)];exact q,λb u xs q=>by rw[aT (hm b _ q λz=>z)];exact q,λb ps q=>⟨#[],by rw[aT (hm b _ q λz=>z),q];simp⟩⟩
 by_cases hbe:b=e
 ·subst hbe;exact heo
 ·exact⟨u,k b u hbe q⟩
end
def trk(h:Heap)(H:Hp):List Addr:=(List.range h.objs.size).filter λa=>(H a).isSome
def lu(h:Heap)(H:Hp):Heap:=W.hideAll h (trk h H)
def yD(h:Heap)(H:Hp):(lu h H).objs.size=h.objs.size:=W.hideAll_size _ _
def Ai{h:Heap}{H:Hp}{b:Addr}{o:Obj}(e:h.get? b=some o)(n:H b=none):(lu h H).get? b=some o:=
 W.hideAll_get _ e λhm=>by
  have q:(H b).isSome=true:=(List.mem_filter.mp hm).2
  rw[n] at q;simp at q
def D9{h:Heap}{H:Hp}{b:Addr}{o:Obj}(e:(lu h H).get? b=some o):h.get? b=some o/\H b=none:=by
 have e':h.get? b=some o:=W.of_hideAll (trk h H) e
 refine⟨e',?_⟩
 cases q:H b with
 |none=>rfl
 |
  some x=>
  have hm:b∈trk h H:=List.mem_filter.mpr ⟨P9.mpr (Oh e'),by simp [q]⟩
  have z:(lu h H).get? b=none:=W.hideAll_none (trk h H) hm
  rw[z] at e;cases e
def Eg(g h:Heap)(L:Addr):List (Addr×Obj):=(List.range h.objs.size).filterMap λa=>if a=L\/(g.get? a).isSome=true then none else (h.get? a).map λo=>(a,o)
def b0(g h:Heap)(L d:Addr):List (Addr×Obj):=(Eg g h L).filter λp=>decide (p.1≠d)
end L2
namespace L2
open PySem PySem.Spec PyProof.Rows
structure Mod(K:W.Frag)(mg:Str->Option Value)(base:Heap):Prop where
 kin:K.In base
 glob:base.Ns mainGlobals mg
 blt:∃mb,base.Ns builtinsNs mb/\∀x:Str,x ≠ "__name__"->mb x=bootBuiltins x
 nolimit:base.NoLimit
structure Cx where
 prog:Program
 w:World
 K:W.Frag
 mg:Str->Option Value
 base:Heap
 A:Around
 N:List Str
 s₀:Shared
 H₀:Hp
 env:Env
 outer:List Env
 stack:List Env
 ex:List Addr
 fn:Str->Bool
 calm:Bool
 pn:List (Addr×Obj)
 xe:Value->Shared->Prop
def frs(l:List Env):List Addr:=l.filterMap (·.frame)
abbrev Cx.fs(X:Cx):List Addr:=frs X.outer
def Vis(sc:Scope)(x:Str):Prop:=sc.names.lookup x=some .local\/sc.names.lookup x=some .cell\/sc.names.lookup x=some .free
def Loc(sc:Scope)(x:Str):Prop:=sc.names.lookup x=some .local\/sc.names.lookup x=some .cell
def BY(env:Env)(h:Heap)(m:Str->Option Value)(x:Str)(u:Value):Prop:=
 (env.kindOf x=some .local/\m x=some u)\/((env.kindOf x=some .cell\/env.kindOf x=some .free)/\∃c,env.cells.lookup x=some c/\h.IsCell c (some u))
structure Cx.Ok(X:Cx):Prop where
 mod:Mod X.K X.mg X.base
 kind:X.env.scope.kind=.function
 glob:X.env.globals=mainGlobals
 blt:X.env.builtins=builtinsNs
 above:X.s₀.heap.objs.size<=X.env.locals
 inj:∀x y c,X.env.cells.lookup x=some c->X.env.cells.lookup y=some c->x=y
 has:∀x,(X.env.kindOf x=some .cell\/X.env.kindOf x=some .free)->∃c,X.env.cells.lookup x=some c
 cab:∀x c,X.fn x=true->X.env.cells.lookup x=some c->X.s₀.heap.objs.size<=c
 hd:X.calm=true->X.A.handled=none
 frames:X.A.frames=some X.stack
 stk:X.stack=X.outer\/(X.stack=X.env::X.outer/\X.env.frame=some X.env.locals)
 exf:∀b∈X.ex,b≠X.env.locals/\∀x c,X.env.cells.lookup x=some c->c≠b
 bs:∀b o,X.base.get? b=some o->X.s₀.heap.get? b=some o/\X.H₀ b=none
 bsz:X.base.objs.size<=X.s₀.heap.objs.size
 noex:∀b o,X.base.get? b=some o->b∉X.ex
 exfs:∀b∈X.ex,b∉X.fs
 funs:X.s₀.heap.FunFrames X.base X.outer
 frf:∀b∈X.fs,X.H₀ b=none
structure Inv(X:Cx)(pins:List (Addr×Obj))(σ:List (Option V))(H:Hp)(s:Shared):Prop where
 ok:X.Ok
 os:s.os=X.s₀.os
 bare:AllBare s.gens
 base:Un X.fs X.ex X.H₀ H X.s₀.heap s.heap
 loc:∃m,s.heap.Ns X.env.locals m/\∀(i:Nat) (x:Str) (v:V),X.N[i]?=some x->σ[i]?=some (some v)->Vis X.env.scope x->∃u,RelV v u/\BY X.env s.heap m x u
 cell:∀x c,X.env.cells.lookup x=some c->∃v,s.heap.IsCell c v
 free:H X.env.locals=none
 freeC:∀x c,X.env.cells.lookup x=some c->H c=none
 pin:∀p∈X.pn++pins,s.heap.get? p.1=some p.2/\H p.1=none/\p.1≠X.env.locals/\p.1∉X.fs/\∀v,p.2.data ≠ .cell v
 hok:HOk X.prog X.w H s.heap
 len:σ.length=X.N.length
section
variable{X:Cx}{pins:List (Addr×Obj)}{σ:List (Option V)}{H H':Hp}{s:Shared}{h':Heap}
def Cx.Ok.nofr(ok:X.Ok){b:Addr}{o:Obj}(e:X.base.get? b=some o):b∉X.fs:=λhb=>by
 have:=(ok.funs.mem hb).1
 rw[e] at this;cases this
def Inv.bs(I:Inv X pins σ H s):∀b o,X.base.get? b=some o->s.heap.get? b=some o/\H b=none:=λb o e=>
 ⟨I.base.keep b o (I.ok.bs b o e).1 (I.ok.bs b o e).2 (I.ok.nofr e) (I.ok.noex b o e),I.base.free b o (I.ok.bs b o e).1 (I.ok.bs b o e).2 (I.ok.noex b o e)⟩
def Inv.bk(I:Inv X pins σ H s):∀b o,X.base.get? b=some o->s.heap.get? b=some o:=λb o e=>(I.bs b o e).1
def Inv.mod(I:Inv X pins σ H s):Mod X.K X.mg X.base:=I.ok.mod
def Inv.kIn(I:Inv X pins σ H s):X.K.In s.heap:=I.ok.mod.kin.keeps I.bk
def Inv.lt(I:Inv X pins σ H s):X.env.locals<s.heap.objs.size:=let ⟨_,hn,_⟩:=I.loc;hn.lt
def Inv.sz(I:Inv X pins σ H s):X.s₀.heap.objs.size<=s.heap.objs.size:=Oy I.ok.above (QL I.lt)
def Inv.nofs(I:Inv X pins σ H s){a:Addr}(h:s.heap.objs.size<=a):a∉X.fs:=λhb=>by
 obtain⟨_,o,ho,_⟩:=I.ok.funs.mem hb
 exact absurd (Ot (Oh ho) (Oy I.sz h)) (OS _)
def Inv.cne(I:Inv X pins σ H s):∀x c,X.env.cells.lookup x=some c->c≠X.env.locals:=λx c e z=>by
 obtain⟨v,o,ho,hd⟩:=I.cell x c e
 obtain⟨m,⟨o',es,ep,ho',hd',_⟩,_⟩:=I.loc
 rw[z,ho'] at ho;cases ho;rw[hd'] at hd;cases hd
def Inv.funs(I:Inv X pins σ H s):s.heap.FunFrames X.base X.outer:=by
 have all:∀(l:List Env),(∀b∈frs l,b∈X.fs)->X.s₀.heap.FunFrames X.base l->s.heap.FunFrames X.base l:=by
  intro l
  induction l with
  |nil=>intro _ _;trivial
  |
   cons env r ih=>
   intro hs hl
   obtain⟨hk,⟨L,o,hf,hn,ho,hd⟩,hr⟩:=hl
   have hL:L∈X.fs:=hs L (by unfold frs;rw[Pu,hf];exact Od)
   obtain⟨sl,e⟩:=I.base.slot L o ho (I.ok.frf L hL) hL λz=>I.ok.exfs L z hL
   exact⟨hk,⟨L,_,hf,hn,e,hd⟩,ih (λb hb=>hs b (by unfold frs;rw[Pu,hf];exact N9 _ hb)) hr⟩
 exact all X.outer (λ_ hb=>hb) I.ok.funs
def Inv.stack(I:Inv X pins σ H s):s.heap.FunFrames X.base X.stack:=by
 rcases I.ok.stk with e |⟨e,hf⟩
 ·rw[e];exact I.funs
 ·rw[e]
  obtain⟨m,hn,_⟩:=I.loc
  refine .cons (by rw[I.ok.kind];decide) hf hn ?_ I.funs
  exact PL (Oy I.ok.bsz I.ok.above)
def Inv.stkSub(I:Inv X pins σ H s):∀b∈frs X.stack,b∈X.env.locals::X.fs:=λb hb=>by
 rcases I.ok.stk with e |⟨e,hf⟩
 ·rw[e] at hb;exact N9 _ hb
 ·rw[e] at hb
  unfold frs at hb
  rw[Pu,hf] at hb
  exact hb
def Inv.stkFree(I:Inv X pins σ H s):∀b∈frs X.stack,H b=none:=λb hb=>by
 rcases Ow.mp (I.stkSub b hb) with e |hb
 ·rw[e];exact I.free
 ·obtain⟨_,o,ho,_⟩:=I.ok.funs.mem hb
  exact I.base.free b o ho (I.ok.frf b hb) λz=>I.ok.exfs b z hb
def Inv.step{g':Array GenState}{t':Nat}{d':Drawn}{ch:List Addr}(I:Inv X pins σ H s)
 (hch:∀b∈ch,(b∈X.ex\/X.s₀.heap.objs.size<=b)/\b≠X.env.locals/\(∀x c,X.env.cells.lookup x=some c->c≠b)/\∀p∈X.pn++pins,p.1≠b)
 (keep:∀b o,b≠X.env.locals->b∉X.fs->b∉ch->s.heap.get? b=some o->H b=none->h'.get? b=some o)
 (slot:∀b o,b≠X.env.locals->b∈X.fs->b∉ch->s.heap.get? b=some o->H b=none->∃sl,h'.get? b=some { o with slots:=sl }) (free:∀b o,b∉ch->s.heap.get? b=some o->H b=none->H' b=none)
 (there:∀b o,b∉ch->s.heap.get? b=some o->∃o',h'.get? b=some o')
 (tups:∀b xs,H b=some (.tup xs)->H' b=some (.tup xs)) (frzs:∀b o u,H b=some (.frz o u)->H' b=some (.frz o u)) (tbls:∀b ps,H b=some (.tbl ps)->∃more,H' b=some (.tbl (ps++more)))
 (ns:∀m,s.heap.Ns X.env.locals m->h'.Ns X.env.locals m) (hok:HOk X.prog X.w H' h') (hg:AllBare g'):
 Inv X pins σ H' { s with heap:=h',gens:=g',drawn:=d',toks:=t' }:=by
 have neL:∀b o,X.s₀.heap.get? b=some o->b≠X.env.locals:=λb o e=>OI (Ot (Oh e) I.ok.above)
 have neC:∀b o,X.s₀.heap.get? b=some o->b∉X.ex->b∉ch:=λb o e hx hb=>by
  rcases (hch b hb).1 with z |z
  ·exact hx z
  ·exact absurd (Ot (Oh e) z) (OS _)
 have cellK:∀x c,X.env.cells.lookup x=some c->∀v,s.heap.IsCell c v->h'.IsCell c v:=λx c e v ⟨o,ho,hd⟩=>by
  have nch:c∉ch:=λz=>(hch c z).2.2.1 x c e rfl
  by_cases hc:c∈X.fs
  ·obtain⟨sl,q⟩:=slot c o (I.cne x c e) hc nch ho (I.freeC x c e)
   exact⟨_,q,hd⟩
  ·exact⟨o,keep c o (I.cne x c e) hc nch ho (I.freeC x c e),hd⟩
 refine⟨I.ok,I.os,hg,⟨λb o e n hb hx=>?_,λb o e n hb hx=>?_,λb o e n hx=>?_,λb o e hx=>?_,λb xs e=>tups b xs (I.base.tups b xs e),λb o xs e=>frzs b o xs (I.base.frzs b o xs e),λb ps e=>?_⟩,?_,λx c e=>?_,?_,λx c e=>?_,λp hp=>?_,hok,I.len⟩
 ·exact keep b o (neL b o e) hb (neC b o e hx) (I.base.keep b o e n hb hx) (I.base.free b o e n hx)
 ·obtain⟨sl,e1⟩:=I.base.slot b o e n hb hx
  obtain⟨sl',e2⟩:=slot b _ (neL b o e) hb (neC b o e hx) e1 (I.base.free b o e n hx)
  exact⟨sl',e2⟩
 ·obtain⟨o',e1⟩:=I.base.there b o e hx
  exact free b o' (neC b o e hx) e1 (I.base.free b o e n hx)
 ·obtain⟨o',e1⟩:=I.base.there b o e hx
  exact there b o' (neC b o e hx) e1
 ·obtain⟨m1,e1⟩:=I.base.tbls b ps e
  obtain⟨m2,e2⟩:=tbls b _ e1
  exact⟨m1++m2,by rw[e2,Array.append_assoc]⟩
 ·obtain⟨m,hn,hl⟩:=I.loc
  refine⟨m,ns m hn,λi x v e1 e2 e3=>?_⟩
  obtain⟨u,r,l⟩:=hl i x v e1 e2 e3
  refine⟨u,r,?_⟩
  rcases l with l |⟨k,c,e,z⟩
  ·exact .inl l
  ·exact .inr ⟨k,c,e,cellK x c e _ z⟩
 ·obtain⟨v,z⟩:=I.cell x c e
  exact⟨v,cellK x c e v z⟩
 ·obtain⟨m,⟨o,_,_,ho,_⟩,_⟩:=I.loc
  exact free _ o (λz=>(hch _ z).2.1 rfl) ho I.free
 ·obtain⟨v,o,ho,hd⟩:=I.cell x c e
  exact free c o (λz=>(hch c z).2.2.1 x c e rfl) ho (I.freeC x c e)
 ·obtain⟨e,n,ne,nf,d⟩:=I.pin p hp
  have nch:p.1∉ch:=λz=>(hch p.1 z).2.2.2 p hp rfl
  exact⟨keep p.1 p.2 ne nf nch e n,free p.1 p.2 nch e n,ne,nf,d⟩
def Inv.un{t':Nat}(I:Inv X pins σ H s)(u:Un X.fs [] H H' s.heap h')(hok:HOk X.prog X.w H' h'):Inv X pins σ H' { s with heap:=h',toks:=t' }:=by
 obtain⟨m,⟨o,es,ep,ho,r⟩,_⟩:=id I.loc
 obtain⟨sl,hL⟩:=u.any ho I.free (by simp)
 exact I.step (g':=s.gens) (d':=s.drawn) (ch:=[]) (λ_ z=>nomatch z) (λb o _ hb _ e n=>u.keep b o e n hb (by simp)) (λb o _ hb _ e n=>u.slot b o e n hb (by simp)) (λb o _ e n=>u.free b o e n (by simp)) (λb o _ e=>u.there b o e (by simp)) u.tups u.frzs u.tbls (λm' hm=>by
  obtain⟨o',es',ep',ho',r'⟩:=hm
  rw[ho] at ho';cases ho'
  exact⟨_,es',ep',hL,r'⟩) hok I.bare
def Inv.call{g':Array GenState}{t':Nat}{d':Drawn}{ch:List Addr}(I:Inv X pins σ H s)(u:Un (frs X.stack) ch H H' s.heap h')(hok:HOk X.prog X.w H' h')(hg:AllBare g')
 (hch:∀b∈ch,(b∈X.ex\/X.s₀.heap.objs.size<=b)/\b≠X.env.locals/\(∀x c,X.env.cells.lookup x=some c->c≠b)/\∀p∈X.pn++pins,p.1≠b):
 Inv X pins σ H' { s with heap:=h',gens:=g',drawn:=d',toks:=t' }:=by
 obtain⟨m,⟨o,es,ep,ho,r⟩,_⟩:=id I.loc
 obtain⟨sl,hL⟩:=u.any ho I.free λz=>(hch _ z).2.1 rfl
 exact I.step (ch:=ch) hch (λb o hL hb hc e n=>u.keep b o e n (λz=>(Ow.mp (I.stkSub b z)).elim hL hb) hc) (λb o _ _ hc e n=>u.any e n hc) (λb o hc e n=>u.free b o e n hc) (λb o hc e=>u.there b o e hc) u.tups u.frzs u.tbls (λm' hm=>by
  obtain⟨o',es',ep',ho',r'⟩:=hm
  rw[ho] at ho';cases ho'
  exact⟨_,es',ep',hL,r'⟩) hok hg
def Inv.turned{t':Nat}{it:Addr}(I:Inv X pins σ H s)(k:∀b o,b≠it->s.heap.get? b=some o->h'.get? b=some o)(hn:H it=none)(hL:it≠X.env.locals)
 (h1:it∈X.ex\/X.s₀.heap.objs.size<=it) (h2:∀x c,X.env.cells.lookup x=some c->c≠it) (h3:∀p∈X.pn++pins,p.1≠it):Inv X pins σ H { s with heap:=h',toks:=t' }:=by
 have nit:∀b u,H b=some u->b≠it:=λb u e z=>by rw[z,hn] at e;cases e
 refine I.step (g':=s.gens) (d':=s.drawn) (ch:=[it]) (λb hb=>?_) (λb o _ _ hc e _=>k b o (λz=>hc (by simp [z])) e) (λb o _ _ hc e _=>⟨o.slots,k b o (λz=>hc (by simp [z])) e⟩) (λ_ _ _ _ n=>n)
  (λb o hc e=>⟨o,k b o (λz=>hc (by simp [z])) e⟩) (λ_ _ e=>e) (λ_ _ _ e=>e) (λb ps e=>⟨#[],by rw[e];simp⟩) (λm hm=>?_) (λb u e=>?_) I.bare
 ·have e:b=it:=by simpa using hb
  subst e
  exact⟨h1,hL,h2,h3⟩
 ·obtain⟨o,es,ep,ho,r⟩:=hm
  exact⟨o,es,ep,k _ o (Ne.symm hL) ho,r⟩
 ·refine (I.hok b u e).stay (λc v hc q=>k c v ?_ q) (λ_ q=>q) λ_ _ q=>q
  rcases hc with z |z
  ·rw[z];exact nit b u e
  ·exact nit c _ z
def Inv.tok(I:Inv X pins σ H s)(t:Nat):Inv X pins σ H { s with toks:=t }:=I.un (h':=s.heap) (t':=t) Un.refl I.hok
def Inv.kept{t':Nat}(I:Inv X pins σ H s)(k:∀b u,s.heap.get? b=some u->h'.get? b=some u):Inv X pins σ H { s with heap:=h',toks:=t' }:=I.un (Un.kept k) (I.hok.kept k)
def Inv.laid{a:Addr}{o:HO}{t':Nat}(I:Inv X pins σ H s)(k:∀b u,s.heap.get? b=some u->h'.get? b=some u)(hp:s.heap.objs.size<=a)(new:ObjOk X.prog X.w (upd H a o) h' a o):
 Inv X pins σ (upd H a o) { s with heap:=h',toks:=t' }:=I.un (Un.laid k hp (I.hok.fresh hp)) (I.hok.laid k hp new)
def Inv.write{x e:Addr}{o:HO}{t':Nat}(I:Inv X pins σ H s)(mu:Mut (H x))(he:e=x\/H e=some (.own x))(k:∀b u,b≠e->s.heap.get? b=some u->h'.get? b=some u)(heo:∃u,h'.get? e=some u)
 (new:ObjOk X.prog X.w (upd H x o) h' x o):Inv X pins σ (upd H x o) { s with heap:=h',toks:=t' }:=I.un (Un.write mu he k heo) (I.hok.write mu he k heo new)
def Inv.pins_of{pins':List (Addr×Obj)}(I:Inv X pins σ H s)(h:∀p∈pins',s.heap.get? p.1=some p.2/\H p.1=none/\p.1≠X.env.locals/\p.1∉X.fs/\∀v,p.2.data ≠ .cell v):Inv X pins' σ H s:=
 ⟨I.ok,I.os,I.bare,I.base,I.loc,I.cell,I.free,I.freeC,λp hp=>(O4.mp hp).elim (λz=>I.pin p (Qd _ z)) (h p),I.hok,I.len⟩
def uz{N:List Str}(hN:N.Nodup){i j:Nat}{x:Str}(a:N[i]?=some x)(b:N[j]?=some x):i=j:=by
 obtain⟨h1,e1⟩:=N_.mp a
 obtain⟨h2,e2⟩:=N_.mp b
 exact (List.getElem_inj hN).mp (e1.trans e2.symm)
def rf{M:Model}{A:Around}{E:Value->Shared->Prop}{i:Nat}{x:Str}{v:V}{u:Value}{Q:Unit->Shared->Prop}(I:Inv X pins σ H s)(hN:X.N.Nodup)(hi:X.N[i]?=some x)(hx:Loc X.env.scope x)(r:RelV v u)
 (h:∀s',Inv X pins (σ.set i (some v)) H s'->(∃a,Heap.SameBut a s.heap s'.heap/\(a=X.env.locals\/X.env.cells.lookup x=some a))->Q () s') (hf:X.fn x=true\/X.env.scope.names.lookup x=some .local:=by first |exact .inl rfl |exact .inr rfl |assumption):wpAny M A (storeName X.env x u) Q E s:=by
 obtain⟨m,hn,hl⟩:=id I.loc
 have hcls:(X.env.scope.kind == .class || (X.env.scope.kind == .module&&X.env.locals != X.env.globals))=false:=by rw[I.ok.kind];rfl
 have hiσ:i<σ.length:=by rw[I.len];exact (N_.mp hi).1
 have cne:=I.cne
 have tracked:∀{a:Addr}{h':Heap},(∃o,s.heap.get? a=some o/\H a=none)->Heap.SameBut a s.heap h'->HOk X.prog X.w H h':=λ{a h'} ha hs b ob e=>by
  obtain⟨_,_,hfree⟩:=ha
  refine (I.hok b ob e).stay (λc w' hc q=>(hs.2 c ?_).trans q) (λ_ q=>q) λ_ _ q=>q
  rintro rfl
  rcases hc with rfl |hc
  ·rw[hfree] at e;cases e
  ·rw[hfree] at hc;cases hc
 rcases hx with hk |hk
 ·refine wpAny_storeName_local hk hn (λh' hn' hs=>?_) hcls
  obtain⟨oL,_,_,hoL,_⟩:=id hn
  refine h _ ⟨I.ok,I.os,I.bare,⟨λb o e n hb hx=>?_,λb o e n hb hx=>?_,I.base.free,λb o e hx=>?_,I.base.tups,I.base.frzs,I.base.tbls⟩,⟨_,hn',λj y v' e1 e2 e3=>?_⟩,λy c e=>?_,I.free,I.freeC,λp hp=>?_,tracked ⟨oL,hoL,I.free⟩ hs,by simpa using I.len⟩ ⟨_,hs,.inl rfl⟩
  ·exact (hs.2 b (OI (Ot (Oh e) I.ok.above))).trans (I.base.keep b o e n hb hx)
  ·obtain⟨sl,e1⟩:=I.base.slot b o e n hb hx
   exact⟨sl,(hs.2 b (OI (Ot (Oh e) I.ok.above))).trans e1⟩
  ·obtain⟨o',e1⟩:=I.base.there b o e hx
   exact⟨o',(hs.2 b (OI (Ot (Oh e) I.ok.above))).trans e1⟩
  ·by_cases hj:j=i
   ·subst hj
    rw[hi] at e1;cases e1
    rw[Qy hiσ] at e2
    cases e2
    exact⟨u,r,.inl ⟨hk,by simp⟩⟩
   ·rw[PM (Ne.symm hj)] at e2
    obtain⟨u',r',q⟩:=hl j y v' e1 e2 e3
    refine⟨u',r',?_⟩
    rcases q with ⟨k,e⟩ |⟨k,c,e,z⟩
    ·refine .inl ⟨k,?_⟩
     have:y≠x:=λe=>hj (uz hN e1 (e ▸ hi))
     simp [this,e]
    ·exact .inr ⟨k,c,e,z.sameBut hs (cne y c e)⟩
  ·obtain⟨w',z⟩:=I.cell y c e
   exact⟨w',z.sameBut hs (cne y c e)⟩
  ·obtain⟨e,n,ne,nf,d⟩:=I.pin p hp
   exact⟨(hs.2 p.1 ne).trans e,n,ne,nf,d⟩
 ·have hfn:X.fn x=true:=by
   rcases hf with z |z
   ·exact z
   ·rw[z] at hk;cases hk
  obtain⟨c,hc⟩:=I.ok.has x (.inl hk)
  obtain⟨w',z⟩:=I.cell x c hc
  refine wpAny_storeName_cell I.ok.kind hk hc z (λh' hc' hs=>?_)
  obtain⟨oc,hoc,hocd⟩:=id z
  refine h { s with heap:=h' } ⟨I.ok,I.os,I.bare,⟨λb o e n hb hx=>?_,λb o e n hb hx=>?_,I.base.free,λb o e hx=>?_,I.base.tups,I.base.frzs,I.base.tbls⟩,⟨m,hn.sameBut hs (Ne.symm (cne x c hc)),λj y v' e1 e2 e3=>?_⟩,λy c' e=>?_,I.free,I.freeC,λp hp=>?_,tracked ⟨oc,hoc,I.freeC x c hc⟩ hs,by simpa using I.len⟩ ⟨c,hs,.inr hc⟩
  ·exact (hs.2 b (OI (Ot (Oh e) (I.ok.cab x c hfn hc)))).trans (I.base.keep b o e n hb hx)
  ·obtain⟨sl,e1⟩:=I.base.slot b o e n hb hx
   exact⟨sl,(hs.2 b (OI (Ot (Oh e) (I.ok.cab x c hfn hc)))).trans e1⟩
  ·obtain⟨o',e1⟩:=I.base.there b o e hx
   exact⟨o',(hs.2 b (OI (Ot (Oh e) (I.ok.cab x c hfn hc)))).trans e1⟩
  ·by_cases hj:j=i
   ·subst hj
    rw[hi] at e1;cases e1
    rw[Qy hiσ] at e2
    cases e2
    exact⟨u,r,.inr ⟨.inl hk,c,hc,hc'⟩⟩
   ·rw[PM (Ne.symm hj)] at e2
    obtain⟨u',r',q⟩:=hl j y v' e1 e2 e3
    refine⟨u',r',?_⟩
    rcases q with q |⟨k,c',e,z'⟩
    ·exact .inl q
    ·refine .inr ⟨k,c',e,z'.sameBut hs ?_⟩
     rintro rfl
     exact hj (uz hN e1 (I.ok.inj _ _ _ e hc ▸ hi))
  ·by_cases hcc:c'=c
   ·subst hcc;exact⟨_,hc'⟩
   ·obtain⟨w2,z2⟩:=I.cell y c' e
    exact⟨w2,z2.sameBut hs hcc⟩
  ·obtain⟨e,n,ne,nf,d⟩:=I.pin p hp
   refine⟨(hs.2 p.1 ?_).trans e,n,ne,nf,d⟩
   intro q
   rw[q,hoc] at e
   have q':oc=p.2:=Oz e
   exact d w' (by rw[<- q'];exact hocd)
def jl{M:Model}{A:Around}{E:Value->Shared->Prop}{i:Nat}{x:Str}{v:V}{u:Value}{Q:Unit->Shared->Prop}(I:Inv X pins σ H s)(hN:X.N.Nodup)(hi:X.N[i]?=some x)(hx:Loc X.env.scope x)(r:RelV v u)
 (h:∀s',Inv X pins (σ.set i (some v)) H s'->Q () s') (hf:X.fn x=true\/X.env.scope.names.lookup x=some .local:=by first |exact .inl rfl |exact .inr rfl |assumption):wpAny M A (storeName X.env x u) Q E s:=
 rf I hN hi hx r (λs' I' _=>h s' I') hf
def Inv.call'{s':Shared}{ch:List Addr}(I:Inv X pins σ H s)(ho:s'.os=s.os)(u:Un (frs X.stack) ch H H' s.heap s'.heap)(hok:HOk X.prog X.w H' s'.heap)(hg:AllBare s'.gens)
 (hch:∀b∈ch,(b∈X.ex\/X.s₀.heap.objs.size<=b)/\b≠X.env.locals/\(∀x c,X.env.cells.lookup x=some c->c≠b)/\∀p∈X.pn++pins,p.1≠b):Inv X pins σ H' s':=by
 obtain⟨h',g',d',t',o'⟩:=s'
 have e:o'=s.os:=ho
 subst e
 exact I.call (g':=g') (t':=t') (d':=d') u hok hg hch
end
abbrev XK:=Value->Option Addr->Hp->Prop
abbrev St:=List (Option V)
abbrev VK:=V->Hp->Prop
abbrev TE:=St->Hp->VK->Prop
abbrev TT:=St->Hp->(Bool->Hp->Prop)->Prop
abbrev TA:=St->Hp->(List V->Hp->Prop)->Prop
structure Ends where
 nx:St->Hp->Prop
 rt:VK
 bk:St->Hp->Prop:=λ_ _=>False
 ct:St->Hp->Prop:=λ_ _=>False
abbrev TS:=Ends->St->Hp->Prop
def EP(X:Cx)(pins:List (Addr×Obj))(σ:St)(Q:VK)(u:Value)(s':Shared):Prop:=∃v H',Inv X pins σ H' s'/\RelV v u/\Q v H'
def TP(X:Cx)(pins:List (Addr×Obj))(σ:St)(Q:Bool->Hp->Prop)(b:Bool)(s':Shared):Prop:=∃H',Inv X pins σ H' s'/\Q b H'
def AP(X:Cx)(pins:List (Addr×Obj))(σ:St)(Q:List V->Hp->Prop)(us:List Value)(s':Shared):Prop:=∃vs H',Inv X pins σ H' s'/\Vals vs us/\Q vs H'
def SP(X:Cx)(pins:List (Addr×Obj))(D:Ends)(f:Flow)(s':Shared):Prop:=
 match f with
 |.next=>∃σ' H',Inv X pins σ' H' s'/\D.nx σ' H'
 |.brk=>∃σ' H',Inv X pins σ' H' s'/\D.bk σ' H'
 |.cont=>∃σ' H',Inv X pins σ' H' s'/\D.ct σ' H'
 |.ret u=>∃v σ' H',Inv X pins σ' H' s'/\RelV v u/\D.rt v H'
def PE(X:Cx)(e:Expr)(t:TE):Prop:=
 ∀(pins:List (Addr×Obj)) (s:Shared) (σ:St) (H:Hp) (Q:VK),Inv X pins σ H s->t σ H Q->wpAny (model X.prog X.w) X.A (eval e X.env) (EP X pins σ Q) X.xe s
def PT(X:Cx)(e:Expr)(t:TT):Prop:=
 ∀(pins:List (Addr×Obj)) (s:Shared) (σ:St) (H:Hp) (Q:Bool->Hp->Prop),Inv X pins σ H s->t σ H Q->wpAny (model X.prog X.w) X.A (isTrue e X.env (eval e X.env)) (TP X pins σ Q) X.xe s
def PW(X:Cx)(e:Expr)(t:TT):Prop:=
 ∀(ci:Sem Value) (pins:List (Addr×Obj)) (s:Shared) (σ:St) (H:Hp) (Q:Bool->Hp->Prop),Inv X pins σ H s->t σ H Q->wpAny (model X.prog X.w) X.A (isTrue e X.env ci) (TP X pins σ Q) X.xe s
def PW.pt{X:Cx}{e:Expr}{t:TT}(h:PW X e t):PT X e t:=h _
def PA(X:Cx)(es:List Expr)(t:TA):Prop:=
 ∀(pos:Pos) (pins:List (Addr×Obj)) (s:Shared) (σ:St) (H:Hp) (Q:List V->Hp->Prop),Inv X pins σ H s->t σ H Q->wpAny (model X.prog X.w) X.A (spliced (backTo pos (starEach es X.env))) (AP X pins σ Q) X.xe s
def PS(X:Cx)(st:Stmt)(t:TS):Prop:=
 ∀(pins:List (Addr×Obj)) (s:Shared) (σ:St) (H:Hp) (D:Ends),Inv X pins σ H s->t D σ H->wpAny (model X.prog X.w) X.A (exec st X.env) (SP X pins D) X.xe s
def PSs(X:Cx)(st:List Stmt)(t:TS):Prop:=
 ∀(pins:List (Addr×Obj)) (s:Shared) (σ:St) (H:Hp) (D:Ends),Inv X pins σ H s->t D σ H->wpAny (model X.prog X.w) X.A (execs st X.env) (SP X pins D) X.xe s
def thn{α:Type}{t:Sem α}{Q Q':α->Shared->Prop}{M:Model}{A:Around}{E:Value->Shared->Prop}{s:Shared}(h:wpAny M A t Q E s)(hQ:∀a s,Q a s->Q' a s):wpAny M A t Q' E s:=ON h hQ λ_ _ x=>x
end L2
namespace L2
open PySem PySem.Spec PyProof.Rows
section
variable{X:Cx}
def tVar(i:Nat):TE:=λσ H Q=>∃v,σ[i]?=some (some v)/\Q v H
def tC(v:V):TE:=λ_ H Q=>Q v H
def zY{i:Nat}{x:Str}{pos:Pos}(hN:X.N[i]?=some x)(hv:Vis X.env.scope x)(hd:(x==("__debug__" : Str))=false:=by decide)(hcd:(x==("__classdict__" : Str))=false:=by decide):PE X (.Name x pos) (tVar i):=by
 intro pins s σ H Q I h
 obtain⟨v,e,h⟩:=h
 obtain⟨m,hn,hl⟩:=I.loc
 obtain⟨u,r,l⟩:=hl i x v hN e hv
 have fin:EP X pins σ Q u s:=⟨v,H,I,r,h⟩
 rcases l with ⟨hk,hm⟩ |⟨hk,c,hc,hcell⟩
 ·exact wpAny_Name (wpAny_loadName_local I.ok.kind hk hn hm fin) hd
 ·rcases hk with hk |hk
  ·exact wpAny_Name (wpAny_loadName_cell I.ok.kind hk hc hcell fin) hd
  ·exact wpAny_Name (wpAny_loadName_free I.ok.kind hk hc hcell fin hcd) hd
def Jm{i j pos}:PE X (.Constant (.int i) j pos) (tC (.int i)):=λ_ _ _ H _ I h=>wpAny_Constant_int ⟨.int i,H,I.tok _,⟨_,rfl⟩,h⟩
def KY{b j pos}:PE X (.Constant (.bool b) j pos) (tC (.bl b)):=λ_ _ _ H _ I h=>Constant_bool ⟨.bl b,H,I,rfl,h⟩
def F8{x j pos}:PE X (.Constant (.str x) j pos) (tC (.str x)):=λ_ _ _ H _ I h=>Calls.Constant_str ⟨.str x,H,I.tok _,⟨_,rfl⟩,h⟩
def Gl(X:Cx)(x:Str):Prop:=X.env.kindOf x=some .globalImplicit
def pQ{E:Value->Shared->Prop}{pins:List (Addr×Obj)}{s:Shared}{σ:St}{H:Hp}{x:Str}{u:Value}{pos:Pos}{Q:Value->Shared->Prop}(I:Inv X pins σ H s)(hg:Gl X x)(hm:X.mg x=some u)(h:Q u s)
 (hd:(x==("__debug__" : Str))=false:=by decide):wpAny (model X.prog X.w) X.A (eval (.Name x pos) X.env) Q E s:=
 Calls.Name_function_global I.ok.kind hg (Calls.loadGlobal_global (by rw[I.ok.glob];exact I.mod.glob.keeps I.bk) hm h) hd
def j5{E:Value->Shared->Prop}{pins:List (Addr×Obj)}{s:Shared}{σ:St}{H:Hp}{x:Str}{u:Value}{pos:Pos}{Q:Value->Shared->Prop}(I:Inv X pins σ H s)(hg:Gl X x)(hm:X.mg x=none)(hv:bootBuiltins x=some u)(h:Q u s)
 (hn:x ≠ "__name__":=by decide) (hd:(x==("__debug__" : Str))=false:=by decide):wpAny (model X.prog X.w) X.A (eval (.Name x pos) X.env) Q E s:=by
 obtain⟨mb,h1,h2⟩:=I.mod.blt
 exact Calls.Name_function_global I.ok.kind hg (Calls.loadGlobal_builtin (by rw[I.ok.glob];exact I.mod.glob.keeps I.bk) hm (by rw[I.ok.blt];exact h1.keeps I.bk) ((h2 x hn).trans hv) h) hd
def Fh{x:Str}{v:V}{u:Value}{pos:Pos}(hg:Gl X x)(hm:X.mg x=some u)(r:RelV v u)(hd:(x==("__debug__" : Str))=false:=by decide):PE X (.Name x pos) (tC v):=
 λ_ _ _ H _ I h=>pQ I hg hm ⟨v,H,I,r,h⟩ hd
def Es{x:Str}{v:V}{u:Value}{pos:Pos}(hg:Gl X x)(hm:X.mg x=none)(hv:bootBuiltins x=some u)(r:RelV v u)(hn:x ≠ "__name__":=by decide)(hd:(x==("__debug__" : Str))=false:=by decide):PE X (.Name x pos) (tC v):=
 λ_ _ _ H _ I h=>j5 I hg hm hv ⟨v,H,I,r,h⟩ hn hd
variable{a b:Expr}{ta tb:TE}{pos:Pos}
def tB(t:TE):TT:=λσ H Q=>t σ H λx H1=>∃c,x=.bl c/\Q c H1
def Jq{e:Expr}{t:TE}(h:PE X e t)(he:∀ci,isTrue e X.env ci=(do let v <- ci;standAt e.pos;holding [v] (truthy v)):=by intro _;rfl):PT X e (tB t):=by
 intro pins s σ H Q I hw
 refine isTrue_plain (thn (h pins s σ H _ I hw) λv s1 ⟨x,H1,I1,r1,q1⟩=>?_) (he _)
 obtain⟨d,rfl,q⟩:=q1
 cases r1
 exact PK ⟨H1,I1,q⟩
variable{tA tB':TT}{b0:List Expr}
def tAnd(t u:TT):TT:=λσ H Q=>t σ H λc H1=>if c=true then u σ H1 Q else Q false H1
def tOr(t u:TT):TT:=λσ H Q=>t σ H λc H1=>if c=true then Q true H1 else u σ H1 Q
def tNot(t:TT):TT:=λσ H Q=>t σ H λc H1=>Q (!c) H1
def Ez(ha:PT X a tA):PW X (.BoolOp .And [a] pos) tA:=by
 intro wh pins s σ H Q I h
 refine isTrue_and (thn (ha pins s σ H Q I h) λc s1 e=>?_)
 cases c with
 |true=>exact isTrue_and_nil e
 |false=>exact e
def FQ(ha:PT X a tA):PW X (.BoolOp .Or [a] pos) tA:=by
 intro wh pins s σ H Q I h
 refine isTrue_or (thn (ha pins s σ H Q I h) λc s1 e=>?_)
 cases c with
 |false=>exact isTrue_or_nil e
 |true=>exact e
def GD(ha:PT X a tA)(hb:PW X (.BoolOp .And (b::b0) pos) tB'):PW X (.BoolOp .And (a::b::b0) pos) (tAnd tA tB'):=by
 intro wh pins s σ H Q I h
 refine isTrue_and (thn (ha pins s σ H _ I h) λc s1 ⟨H1,I1,q1⟩=>?_)
 cases c with
 |true=>exact hb wh pins s1 σ H1 Q I1 q1
 |false=>exact⟨H1,I1,q1⟩
def Lx(ha:PT X a tA)(hb:PW X (.BoolOp .Or (b::b0) pos) tB'):PW X (.BoolOp .Or (a::b::b0) pos) (tOr tA tB'):=by
 intro wh pins s σ H Q I h
 refine isTrue_or (thn (ha pins s σ H _ I h) λc s1 ⟨H1,I1,q1⟩=>?_)
 cases c with
 |true=>exact⟨H1,I1,q1⟩
 |false=>exact hb wh pins s1 σ H1 Q I1 q1
def Gr(ha:PT X a tA):PT X (.UnaryOp .Not a pos) (tNot tA):=by
 intro pins s σ H Q I h
 exact isTrue_not (ha pins s σ H (λc H1=>Q (!c) H1) I h)
def Lv(ta tb:TE):TE:=λσ H Q=>ta σ H λx H1=>∃c,x=.bl c/\if c=true then tb σ H1 Q else Q (.bl false) H1
def LY(ta:TE):TE:=λσ H Q=>ta σ H λx H1=>∃c,x=.bl c/\Q (.bl (!c)) H1
def GV{op}{t:TE}(h:PE X a t):PE X (.BoolOp op [a] pos) t:=λpins s σ H Q I hw=>BoolOp_one (h pins s σ H Q I hw)
def JC(ha:PE X a ta)(hb:PE X (.BoolOp .And (b::b0) pos) tb):PE X (.BoolOp .And (a::b::b0) pos) (Lv ta tb):=by
 intro pins s σ H Q I h
 refine BoolOp_and (thn (ha pins s σ H _ I h) λv s1 ⟨x,H1,I1,r1,q1⟩=>?_)
 obtain⟨c,rfl,q1⟩:=q1
 cases r1
 refine PK ?_
 cases c with
 |true=>exact hb pins s1 σ H1 Q I1 q1
 |false=>exact⟨.bl false,H1,I1,rfl,q1⟩
def Io(ha:PE X a ta):PE X (.UnaryOp .Not a pos) (LY ta):=by
 intro pins s σ H Q I h
 refine UnaryOp_ (thn (ha pins s σ H _ I h) λv s1 ⟨x,H1,I1,r1,q1⟩=>?_)
 obtain⟨c,rfl,q1⟩:=q1
 cases r1
 exact not_of (PK ⟨.bl (!c),H1,I1,rfl,q1⟩)
end
end L2
namespace L2
open PySem PySem.Spec PyProof.Rows
def SqL(K:W.Frag)(H:Hp)(a:Addr)(xs:List V):Prop:=
 Rd H a (.lst xs)\/
  ∃(o:Obj) (its:Array Value) (n:Nat),K.lookup a=some o/\o.cls=.type "list" /\ o.dict=none/\o.data=.seq its n/\its.size<=sizeLine/\Vals xs its.toList
def SqT(K:W.Frag)(H:Hp)(a:Addr)(xs:List V):Prop:=
 Rd H a (.tup xs)\/
  ∃(o:Obj) (its:Array Value) (n:Nat),K.lookup a=some o/\o.cls=.type "tuple" /\ o.data=.seq its n/\its.size<=sizeLine/\Vals xs its.toList
def absV:Value->Option V
 |.none=>some .non
 |.bool b=>some (.bl b)
 |.int i _=>some (.int i)
 |.str x _=>some (.str x)
 |.bytes b _=>some (.byt b)
 |.float b _=>some (.flt b)
 |.ref a=>some (.ref a)
 |.type n=>some (.ty n)
 |_=>none
def RelV.abs{x:V}{u:Value}(r:RelV x u):absV u=some x:=by
 cases x with
 |non=>cases r;rfl
 |bl _=>cases r;rfl
 |int _=>obtain⟨t,rfl⟩:=r;rfl
 |str _=>obtain⟨t,rfl⟩:=r;rfl
 |byt _=>obtain⟨t,rfl⟩:=r;rfl
 |flt _=>obtain⟨t,rfl⟩:=r;rfl
 |ref _=>cases r;rfl
 |ty _=>cases r;rfl
def RelV.inj{x y:V}{u:Value}(r:RelV x u)(q:RelV y u):x=y:=Oz (r.abs.symm.trans q.abs)
def Vals.inj{xs ys:List V}{us:List Value}(r:Vals xs us)(q:Vals ys us):xs=ys:=by
 induction r generalizing ys with
 |nil=>cases q;rfl
 |
  cons r t ih=>
  cases q with
  |cons q t'=>rw[r.inj q,ih t']
section
variable{X:Cx}{pins:List (Addr×Obj)}{σ:St}{H:Hp}{s:Shared}{a:Addr}{xs ys:List V}
def SqL.of{K:W.Frag}(h:H a=some (.lst xs)):SqL K H a xs:=.inl (.inl h)
def SqT.of{K:W.Frag}(h:H a=some (.tup xs)):SqT K H a xs:=.inl (.inl h)
def Inv.list(I:Inv X pins σ H s)(h:SqL X.K H a xs):∃its:List Value,Vals xs its/\PlainL s.heap a its.toArray/\xs.length<=sizeLine:=by
 rcases h with h |⟨o,its,n,hk,hc,hd,hs,hz,r⟩
 ·obtain⟨z,its,n,r,e⟩:=h.ok I.hok
  exact⟨its,r,⟨_,n,e,rfl,rfl,rfl⟩,z⟩
 ·refine⟨its.toList,r,⟨o,n,I.kIn a o hk,hc,hd,by simpa using hs⟩,?_⟩
  have e:=r.length
  simp only[QQ] at e
  omega
def Inv.tuple(I:Inv X pins σ H s)(h:SqT X.K H a xs):∃its:List Value,Vals xs its/\IsTup s.heap a its.toArray/\xs.length<=sizeLine:=by
 rcases h with h |⟨o,its,n,hk,hc,hs,hz,r⟩
 ·obtain⟨z,its,r,p⟩:=h.ok I.hok
  exact⟨its,r,p,z⟩
 ·refine⟨its.toList,r,⟨o,I.kIn a o hk,hc,n,by simpa using hs⟩,?_⟩
  have e:=r.length
  simp only[QQ] at e
  omega
def Inv.list_inj(I:Inv X pins σ H s)(h:SqL X.K H a xs)(h':SqL X.K H a ys):xs=ys:=by
 obtain⟨its,r,⟨o,n,e,_,_,d⟩,_⟩:=I.list h
 obtain⟨its',r',⟨o',n',e',_,_,d'⟩,_⟩:=I.list h'
 rw[e] at e';cases e'
 rw[d] at d'
 injection d' with d1 _
 have:its=its':=by simpa using O3 Array.toList d1
 subst this
 exact r.inj r'
def Inv.tuple_inj(I:Inv X pins σ H s)(h:SqT X.K H a xs)(h':SqT X.K H a ys):xs=ys:=by
 obtain⟨its,r,⟨o,e,_,n,d⟩,_⟩:=I.tuple h
 obtain⟨its',r',⟨o',e',_,n',d'⟩,_⟩:=I.tuple h'
 rw[e] at e';cases e'
 rw[d] at d'
 injection d' with d1 _
 have:its=its':=by simpa using O3 Array.toList d1
 subst this
 exact r.inj r'
end
section
variable{X:Cx}{pins:List (Addr×Obj)}{σ:St}{H:Hp}{s:Shared}{E:Value->Shared->Prop}
end
section
variable{X:Cx}{st:Stmt}{b0:List Stmt}{t u:TS}{e:Expr}{te:TE}{pos:Pos}
def K0:TS:=λD σ H=>D.nx σ H
def tSeq(t u:TS):TS:=λD σ H=>t { D with nx:=u D } σ H
def DP:PSs X [] K0:=λ_ _ σ H _ I h=>QO ⟨σ,H,I,h⟩
def Ao(h1:PS X st t)(h2:PSs X b0 u):PSs X (st::b0) (tSeq t u):=by
 intro pins s σ H D I h
 refine wpAny_execs_cons (thn (h1 pins s σ H { D with nx:=u D } I h) λf s1 q=>?_)
 cases f with
 |
  next=>
  obtain⟨σ',H',I',q⟩:=q
  exact h2 pins s1 σ' H' D I' q
 |ret v=>exact q
 |brk=>exact q
 |cont=>exact q
def Dw(h1:PS X st t):PSs X [st] t:=by
 intro pins s σ H D I h
 refine wpAny_execs_cons (thn (h1 pins s σ H D I h) λf s1 q=>?_)
 cases f with
 |next=>exact QO q
 |ret v=>exact q
 |brk=>exact q
 |cont=>exact q
def Inv.quiet{pins:List (Addr×Obj)}{σ:St}{H:Hp}{s:Shared}(I:Inv X pins σ H s):interactive X.env=false:=by simp [interactive,I.ok.kind]
def Ly(te:TE):TS:=λD σ H=>te σ H λ_ H1=>D.nx σ H1
def DF(he:PE X e te)(hs:swapsWith e none pos.line X.env=pure false:=by rfl):PS X (.Expr e pos) (Ly te):=by
 intro pins s σ H D I h
 exact wpAny_Expr_any (thn (he pins s σ H _ I h) λv s1 ⟨x,H1,I1,r1,q1⟩=>⟨σ,H1,I1,q1⟩) I.quiet hs
def tRet(te:TE):TS:=λD σ H=>te σ H D.rt
def Hf(he:PE X e te):PS X (.Return (some e) pos) (tRet te):=by
 intro pins s σ H D I h
 exact wpAny_Return_some (thn (he pins s σ H _ I h) λv s1 ⟨x,H1,I1,r1,q1⟩=>⟨x,σ,H1,I1,r1,q1⟩)
def J1:TS:=λD _ H=>D.rt .non H
def Ed:PS X (.Return none pos) J1:=λ_ _ σ H _ I h=>wpAny_Return_none ⟨.non,σ,H,I,rfl,h⟩
def tIfS(c:TT)(t u:TS):TS:=λD σ H=>c σ H λb H1=>if b=true then t D σ H1 else u D σ H1
def JQ{c:Expr}{a b:List Stmt}{tc:TT}(hc:PT X c tc)(ha:PSs X a t)(hb:PSs X b u):PS X (.If c a b pos) (tIfS tc t u):=by
 intro pins s σ H D I h
 refine wpAny_If (thn (hc pins s σ H _ I h) λd s1 ⟨H1,I1,q1⟩=>?_)
 cases d with
 |true=>exact ha pins s1 σ H1 D I1 q1
 |false=>exact hb pins s1 σ H1 D I1 q1
end
abbrev TG:=V->St->Hp->(St->Hp->Prop)->Prop
abbrev TGs:=List V->St->Hp->(St->Hp->Prop)->Prop
def PG(X:Cx)(target:Expr)(t:TG):Prop:=
 ∀
  (pins:List (Addr×Obj)) (s:Shared) (σ:St) (H:Hp) (v:V) (u:Value) (Q:St->Hp->Prop),Inv X pins σ H s->RelV v u->t v σ H Q->
  wpAny (model X.prog X.w) X.A (assign target X.env u) (λ_ s'=>∃σ' H',Inv X pins σ' H' s'/\Q σ' H') X.xe s
def PGs(X:Cx)(ts:List Expr)(t:TGs):Prop:=
 ∀
  (pins:List (Addr×Obj)) (s:Shared) (σ:St) (H:Hp) (vs:List V) (us:List Value) (Q:St->Hp->Prop),Inv X pins σ H s->Vals vs us->t vs σ H Q->
  wpAny (model X.prog X.w) X.A (assignInOrder ((assignEach ts X.env).map (·.2)) us) (λ_ s'=>∃σ' H',Inv X pins σ' H' s'/\Q σ' H') X.xe s
abbrev m7:=V->V->V->Hp->(Hp->Prop)->Prop
def su(X:Cx)(t:m7):Prop:=
 ∀
  (pins:List (Addr×Obj)) (s:Shared) (σ:St) (H:Hp) (o i v:V) (ov iv u:Value) (Q:Hp->Prop),Inv X pins σ H s->RelV o ov->RelV i iv->RelV v u->t o i v H Q->
  wpAny (model X.prog X.w) X.A (setItem ov iv u) (λ_ s'=>∃H',Inv X pins σ H' s'/\Q H') X.xe s
abbrev TIp:=V->V->Hp->VK->Prop
def PIp(X:Cx)(op:Operator)(t:TIp):Prop:=
 ∀
  (pins:List (Addr×Obj)) (s:Shared) (σ:St) (H:Hp) (x y:V) (v u:Value) (Q:VK),Inv X pins σ H s->RelV x v->RelV y u->t x y H Q->
  wpAny (model X.prog X.w) X.A (inplaceOp op v u) (EP X pins σ Q) X.xe s
section
variable{X:Cx}{pos:Pos}
def oz(i:Nat):TG:=λv σ H Q=>Q (σ.set i (some v)) H
def DH{i:Nat}{x:Str}(hN:X.N.Nodup)(hi:X.N[i]?=some x)(hx:Loc X.env.scope x)(hf:X.fn x=true\/X.env.scope.names.lookup x=some .local:=by first |exact .inl rfl |exact .inr rfl |assumption):PG X (.Name x pos) (oz i):=by
 intro pins s σ H v u Q I r h
 exact wpAny_assign_Name (jl I hN hi hx r (λs' I'=>⟨_,H,I',h⟩) hf)
def gNil:TGs:=λvs σ H Q=>vs=[]/\Q σ H
def J7(t:TG)(u:TGs):TGs:=λvs σ H Q=>∃v r,vs=v::r/\t v σ H λσ' H'=>u r σ' H' Q
def DM:PGs X [] gNil:=by
 intro pins s σ H vs us Q I r h
 obtain⟨e,h⟩:=h
 subst e
 cases r
 exact assignInOrder_nil ⟨σ,H,I,h⟩
def Aj{e:Expr}{es:List Expr}{t:TG}{u:TGs}(h1:PG X e t)(h2:PGs X es u)
 (hs:(assignEach (e::es) X.env).map (·.2)=assign e X.env::(assignEach es X.env).map (·.2):=by rfl):PGs X (e::es) (J7 t u):=by
 intro pins s σ H vs us Q I r h
 obtain⟨v,vr,e1,h⟩:=h
 subst e1
 cases r with
 |
  cons r rr=>
  rw[hs]
  refine assignInOrder_cons (thn (h1 pins s σ H _ _ _ I r h) λ_ s1 ⟨σ1,H1,I1,q1⟩=>?_)
  exact h2 pins s1 σ1 H1 _ _ Q I1 rr q1
def gTup(K:W.Frag)(n:Nat)(t:TGs):TG:=λv σ H Q=>∃a xs,v=.ref a/\SqT K H a xs/\xs.length=n/\t xs σ H Q
def IC{es:List Expr}{k:Nat}{t:TGs}{n:Nat}(hc:X.calm=true)(h:PGs X es t)
 (hn:(assignEach es X.env).length=n:=by rfl) (hst:(assignEach es X.env).findIdx? (·.1)=none:=by rfl):PG X (.Tuple es k pos) (gTup X.K n t):=by
 intro pins s σ H v u Q I r hw
 obtain⟨a,xs,e1,hq,hl,hw⟩:=hw
 subst e1
 cases r
 obtain⟨its,rv,ht,hz⟩:=I.tuple hq
 refine assign_Tuple_tuple (I.ok.hd hc) ht (by simp [hn,<- hl,rv.length]) hst λh' hx=>?_
 have I1:Inv X pins σ H { s with heap:=h' }:=I.kept (t':=s.toks) λb o e=>hx b o (OI (Oh e)) e
 exact h pins _ σ H xs _ Q I1 (by simpa using rv) hw
def gSub(to ti:TE)(t:m7):TG:=λv σ H Q=>to σ H λo H1=>ti σ H1 λi H2=>t o i v H2 λH3=>Q σ H3
def Gh{o i:Expr}{to ti:TE}{t:m7}(ho:PE X o to)(hi:PE X i ti)(hs:su X t)
 (ha:∀v,assign (.Subscript o i pos) X.env v=(do
  let ov <- holding [v] (eval o X.env)
  let iv <- holding [v,ov] (eval i X.env)
  standAt pos
  holding [v,ov,iv] (setItem ov iv v)
  release [v,ov,iv] []):=by intro _;rfl):PG X (.Subscript o i pos) (gSub to ti t):=by
 intro pins s σ H v u Q I r h
 rw[ha]
 refine N7 (PY (thn (ho pins s σ H _ I h) λov s1 ⟨x,H1,I1,r1,q1⟩=>?_))
 refine N7 (PY (thn (hi pins s1 σ H1 _ I1 q1) λiv s2 ⟨y,H2,I2,r2,q2⟩=>?_))
 refine N7 (QY (N7 (PY (thn (hs pins s2 σ H2 x y v ov iv u _ I2 r1 r2 r q2) λ_ s3 ⟨H3,I3,q3⟩=>?_))))
 exact wpAny_release ⟨σ,H3,I3,q3⟩
def uC(te:TE)(g:TG):TS:=λD σ H=>te σ H λx H1=>g x σ H1 D.nx
def GK{tg e:Expr}{te:TE}{g:TG}(he:PE X e te)(hg:PG X tg g)(hs:swapsWithSole [tg] e pos.line X.env=pure false:=by rfl)(hw:swappedStores [tg] e X.env=pure none:=by rfl)
 (h1:(assignEach [tg] X.env).map (·.2)=[assign tg X.env]:=by rfl):PS X (.Assign [tg] e pos) (uC te g):=by
 intro pins s σ H D I h
 refine wpAny_Assign_stores (thn (he pins s σ H _ I h) λv s1 ⟨x,H1,I1,r1,q1⟩=>?_) hs hw
 rw[h1]
 exact thn (hg pins s1 σ H1 x v _ I1 r1 q1) λ_ s2 q=>q
def Hu{i:Nat}{x:Str}{e:Expr}{te:TE}{io:Pos}(hN:X.N.Nodup)(hi:X.N[i]?=some x)(hx:Loc X.env.scope x)(he:PE X e te)(hs:swapsWith e (some (.Name x io)) pos.line X.env=pure false:=by rfl)(hf:X.fn x=true\/X.env.scope.names.lookup x=some .local:=by first |exact .inl rfl |exact .inr rfl |assumption):
 PS X (.Assign [.Name x io] e pos) (uC te (oz i)):=by
 intro pins s σ H D I h
 refine wpAny_Assign_Name (thn (he pins s σ H _ I h) λv s1 ⟨y,H1,I1,r1,q1⟩=>?_) hs
 exact jl I1 hN hi hx r1 (λs2 I2=>⟨_,H1,I2,q1⟩) hf
def tPar(i j:Nat)(ta:TA):TS:=λD σ H=>ta σ H λvs H1=>∃v w,vs=[v,w]/\D.nx ((σ.set i (some v)).set j (some w)) H1
def IZ{i j:Nat}{x y:Str}{a b:Expr}{ta:TA}{px py pt:Pos}{kt k2 pt2}(hc:X.calm=true)(hN:X.N.Nodup)(hi:X.N[i]?=some x)(hj:X.N[j]?=some y)(hij:i≠j)
 (hx:X.env.scope.names.lookup x=some .local) (hy:X.env.scope.names.lookup y=some .local) (ha:PA X [a,b] ta)
 (hw:swappedStores [.Tuple [.Name x px,.Name y py] kt pt] (.Tuple [a,b] k2 pt2) X.env=pure (some [x,y]))
 (hs:swapsWithSole [.Tuple [.Name x px,.Name y py] kt pt] (.Tuple [a,b] k2 pt2) pos.line X.env=pure false:=by rfl):
 PS X (.Assign [.Tuple [.Name x px,.Name y py] kt pt] (.Tuple [a,b] k2 pt2) pos) (tPar i j ta):=by
 intro pins s σ H D I h
 rw[exec_Assign_arm]
 refine N7 (QY ?_)
 rw[hs]
 refine N7 (Om ?_)
 rw[if_neg (by decide)]
 refine N7 (Tuple_ (thn (ha _ pins s σ H _ I h) λus s1 ⟨vs,H1,I1,r1,q1⟩=>?_))
 obtain⟨v,w,e1,q1⟩:=q1
 subst e1
 obtain⟨u1,u2,rfl,rv,rw'⟩:∃u1 u2,us=[u1,u2]/\RelV v u1/\RelV w u2:=by
  cases r1 with
  |
   cons p q=>
   cases q with
   |
    cons p' q'=>
    cases q'
    exact⟨_,_,rfl,p,p'⟩
 refine O2 ?_ (by show 2<=sizeLine;decide)
 have I2:Inv X pins σ H1 { s1 with heap:=s1.heap.push { cls:=.type "tuple",data:=.seq [u1,u2].toArray } }:=I1.kept (t':=s1.toks) λb o e=>Og _ e
 rw[hw]
 refine N7 (Om ?_)
 show wpAny (model X.prog X.w) X.A (do rule "assign.swapped-stores";let items <- unpackItems (.ref s1.heap.objs.size) 2 none;assignInOrder [λv=>bindName X.env y v,λv=>bindName X.env x v] items.reverse;pure Flow.next) _ _ _
 refine N7 (wpAny_rule (N7 (unpackItems_tuple (items:=#[u1,u2]) (I.ok.hd hc) (IsTup.new s1.heap _) λh' hx'=>?_)))
 have I3:=I2.kept (h':=h') (t':=s1.toks) λb o e=>hx' b o (OI (Oh e)) e
 show wpAny _ _ (assignInOrder [λv=>bindName X.env y v,λv=>bindName X.env x v] [u2,u1] >>= λ_=>pure Flow.next) _ _ _
 refine N7 (assignInOrder_cons (wpAny_bindName (jl I3 hN hj (.inl hy) rw' (λs2 I4=>?_) (.inr hy))))
 refine assignInOrder_cons (wpAny_bindName (jl I4 hN hi (.inl hx) rv (λs3 I5=>assignInOrder_nil (Om ?_)) (.inr hx)))
 rw[List.set_comm _ _ (Ne.symm hij)] at I5
 exact⟨_,H1,I5,q1⟩
def tAug(i:Nat)(te:TE)(ti:TIp):TS:=λD σ H=>∃x,σ[i]?=some (some x)/\te σ H λy H1=>ti x y H1 λz H2=>D.nx (σ.set i (some z)) H2
def Jb{i:Nat}{x:Str}{e:Expr}{te:TE}{op:Operator}{ti:TIp}{io:Pos}(hN:X.N.Nodup)(hi:X.N[i]?=some x)(hx:Loc X.env.scope x)(he:PE X e te)(ho:PIp X op ti)(hf:X.fn x=true\/X.env.scope.names.lookup x=some .local:=by first |exact .inl rfl |exact .inr rfl |assumption):
 PS X (.AugAssign (.Name x io) op e pos) (tAug i te ti):=by
 intro pins s σ H D I h
 obtain⟨v,e1,h⟩:=h
 obtain⟨m,hn,hl⟩:=I.loc
 have vis:Vis X.env.scope x:=by rcases hx with k |k;exact .inl k;exact .inr (.inl k)
 obtain⟨u,r,l⟩:=hl i x v hi e1 vis
 refine wpAny_AugAssign_Name ?_
 have go:wpAny (model X.prog X.w) X.A (eval e X.env) (λw s₂=>wpAny (model X.prog X.w) X.A (inplaceOp op u w) (λr s₃=>wpAny (model X.prog X.w) X.A (storeName X.env x r) (λ_=>SP X pins D .next) X.xe s₃) X.xe s₂) X.xe s:=by
  refine thn (he pins s σ H _ I h) λw s1 ⟨y,H1,I1,r1,q1⟩=>?_
  refine thn (ho pins s1 σ H1 v y u w _ I1 r r1 q1) λz s2 ⟨zv,H2,I2,r2,q2⟩=>?_
  exact jl I2 hN hi hx r2 (λs3 I3=>⟨_,H2,I3,q2⟩) hf
 rcases l with ⟨hk,hm⟩ |⟨hk,c,hc,hcell⟩
 ·exact wpAny_loadName_local I.ok.kind hk hn hm go
 ·rcases hk with hk |hk
  ·exact wpAny_loadName_cell I.ok.kind hk hc hcell go
  ·rcases hx with k |k
   ·have:X.env.scope.names.lookup x=some .free:=hk
    rw[k] at this;cases this
   ·have:X.env.scope.names.lookup x=some .free:=hk
    rw[k] at this;cases this
def ipI(f:Int->Int->Int):TIp:=λx y H Q=>∃i j,x=.int i/\y=.int j/\Q (.int (f i j)) H
def JG:PIp X .Add (ipI λi j=>i+j):=by
 intro pins s σ H x y v u Q I r1 r2 h
 obtain⟨i,j,e1,e2,q⟩:=h
 subst e1;subst e2
 obtain⟨t,rfl⟩:=r1
 obtain⟨t',rfl⟩:=r2
 exact iadd_int ⟨.int _,H,I.tok _,⟨_,rfl⟩,q⟩
end
section
variable{X:Cx}{pos:Pos}
def Gn(c:TT)(tb:TS):TS:=λD σ H=>∃W:Nat->St->Hp->Prop,(∃m,W m σ H)/\∀m σ H,W m σ H->
 c σ H λb H1=>if b=true then ∃N:St->Hp->Prop,(∀σ' H',N σ' H'->∃m',m'<m/\W m' σ' H')/\tb { D with nx:=N,ct:=N,bk:=D.nx } σ H1 else D.nx σ H1
def An{c:Expr}{body:List Stmt}{tc:TT}{tb:TS}(hp:PassesOwn (model X.prog X.w) X.A X.env X.xe)(hc:PT X c tc)(hb:PSs X body tb):PS X (.While c body [] pos) (Gn tc tb):=by
 intro pins s σ H D I h
 obtain⟨W,⟨m0,w0⟩,turn⟩:=h
 refine wpAny_While (codeAny_whileLoop (λn s'=>∃σ' H',Inv X pins σ' H' s'/\W n σ' H') ?_ m0 ⟨σ,H,I,w0⟩)
 rintro n s1 ⟨σ1,H1,I1,w1⟩
 refine PF hp (thn (hc pins s1 σ1 H1 _ I1 (turn n σ1 H1 w1)) λb s2 ⟨H2,I2,q2⟩=>?_)
 cases b with
 |
  true=>
  obtain⟨N,hN,q2⟩:=q2
  rw[if_pos rfl]
  refine PF hp (thn (hb pins s2 σ1 H2 _ I2 q2) λf s3 q3=>?_)
  cases f with
  |
   next=>
   obtain⟨σ3,H3,I3,n3⟩:=q3
   obtain⟨m',hm,w3⟩:=hN σ3 H3 n3
   exact⟨m',hm,σ3,H3,I3,w3⟩
  |
   cont=>
   obtain⟨σ3,H3,I3,n3⟩:=q3
   obtain⟨m',hm,w3⟩:=hN σ3 H3 n3
   exact⟨m',hm,σ3,H3,I3,w3⟩
  |brk=>exact q3
  |ret v=>exact q3
 |
  false=>
  rw[if_neg Oi]
  exact QO ⟨σ1,H2,I2,q2⟩
end
structure It where
 go:Nat->Hp->Prop
 yld:Nat->Hp->V->Hp->Prop
 stop:Nat->Hp->Prop
def FpOk(X:Cx)(pins:List (Addr×Obj))(H:Hp)(b:Addr):Prop:=
 H b=none/\b≠X.env.locals/\b∉X.fs/\(b∈X.ex\/X.s₀.heap.objs.size<=b)/\(∀x c,X.env.cells.lookup x=some c->c≠b)/\∀p∈X.pn++pins,p.1≠b
def Inv.fpOk{X:Cx}{pins:List (Addr×Obj)}{σ:St}{H H':Hp}{s:Shared}{b:Addr}(I:Inv X pins σ H s)(hb:s.heap.objs.size<=b)(hn:H' b=none):FpOk X pins H' b:=by
 refine⟨hn,PN (Ot I.lt hb),I.nofs hb,.inr (Oy I.sz hb),λx c e z=>?_,λp hp z=>?_⟩
 ·obtain⟨v,q⟩:=I.cell x c e
  exact absurd (Ot q.lt (by rw[z];exact hb)) (OS _)
 ·exact absurd (Ot (Oh (I.pin p hp).1) (by rw[z];exact hb)) (OS _)
structure Turn(P:Program)(w:World)(K:W.Frag)(tg:Expr)(J:It)(fp:List Addr)(it:Addr)(tn:Nat->Heap->Prop):Prop where
 mem:it∈fp
 obj:∀i h,tn i h->∀b∈fp,∃o,h.get? b=some o/\∀v,o.data ≠ .cell v
 keep:∀i h h',tn i h->(∀b∈fp,∀o,h.get? b=some o->h'.get? b=some o)->tn i h'
 item:∀(X:Cx),X.prog=P->X.w=w->X.K=K->X.calm=true->∀(i:Nat) (pins:List (Addr×Obj)) (s:Shared) (σ:St) (H:Hp) (E:Value->Shared->Prop),Inv X pins σ H s->(∀b∈fp,FpOk X pins H b)->tn i s.heap->J.go i H->
  wpAny (model P w) X.A (pyNext (.ref it)) (λr s1=>∃u,r=some u/\
   wpAny (model P w) X.A (letOwnedTupleGo tg (.ref it) u) (λ_ s2=>∃x H',Inv X pins σ H' s2/\RelV x u/\J.yld i H x H'/\tn (i+1) s2.heap/\∀b∈fp,H' b=none) E s1) E s
 done:∀(X:Cx),X.prog=P->X.w=w->X.K=K->X.calm=true->∀(i:Nat) (pins:List (Addr×Obj)) (s:Shared) (σ:St) (H:Hp) (E:Value->Shared->Prop),Inv X pins σ H s->(∀b∈fp,FpOk X pins H b)->tn i s.heap->J.stop i H->
  wpAny (model P w) X.A (pyNext (.ref it)) (λr s1=>r=none/\Inv X pins σ H s1) E s
 self:∀(A:Around) (i:Nat) (s:Shared) (Q:Value->Shared->Prop) (E:Value->Shared->Prop),tn i s.heap->Q (.ref it) s->wpAny (model P w) A (pyIter (.ref it)) Q E s
abbrev TI:=St->Hp->(It->Hp->Prop)->Prop
def PIE(X:Cx)(pins:List (Addr×Obj))(σ:St)(tg:Expr)(R:It->Hp->Prop)(itv:Value)(s2:Shared):Prop:=
 ∃(it:Addr) (fp:List Addr) (tn:Nat->Heap->Prop) (J:It) (H':Hp),itv=.ref it/\Inv X pins σ H' s2/\Turn X.prog X.w X.K tg J fp it tn/\tn 0 s2.heap/\(∀b∈fp,FpOk X pins H' b)/\R J H'
def PI(X:Cx)(tg am:Expr)(wi:TI):Prop:=
 ∀
  (pins:List (Addr×Obj)) (s:Shared) (σ:St) (H:Hp) (R:It->Hp->Prop),Inv X pins σ H s->wi σ H R->
  wpAny (model X.prog X.w) X.A (eval am X.env) (λv s1=>wpAny (model X.prog X.w) X.A (pyIter v) (PIE X pins σ tg R) X.xe s1) X.xe s
def wz{M:Model}{A:Around}{E:Value->Shared->Prop}{s:Shared}{tg:Expr}{it:Addr}{u:Value}{o:Obj}{n:String}{vs:Array Value}{Q:Unit->Shared->Prop}(ho:s.heap.get? it=some o)(hc:o.cls=.type n)(hd:o.data=.fields vs)
 (hn:["enumerate", "zip", "dict_itemiterator", "dict_reverseitemiterator", "odict_iterator", "itertools.zip_longest", "itertools.pairwise"].contains n=false) (hQ:Q () s):wpAny M A (letOwnedTupleGo tg (.ref it) u) Q E s:=by
 unfold letOwnedTupleGo
 cases tg
  <;> first
  |exact Om hQ
  |(cases u <;> first
   |exact Om hQ
   |(
    refine N7 (wpAny_load ho ?_)
    rw[hc,hd]
    show wpAny M A (if (["enumerate", "zip", "dict_itemiterator", "dict_reverseitemiterator", "odict_iterator", "itertools.zip_longest", "itertools.pairwise"].contains n&&vs[0]?==some (rawInt _))=true then _ else _) Q E s
    rw[if_neg (by intro h;rw[hn,Bool.false_and] at h;cases h)]
    exact Om hQ))
def Itl(K:W.Frag)(a:Addr):It:=
 ⟨λi H=>∃xs x,SqL K H a xs/\xs[i]?=some x,λi H x H'=>H'=H/\∀xs,SqL K H a xs->xs[i]?=some x,λi H=>∃xs,SqL K H a xs/\xs.length<=i⟩
def Itt(K:W.Frag)(a:Addr):It:=
 ⟨λi H=>∃xs x,SqT K H a xs/\xs[i]?=some x,λi H x H'=>H'=H/\∀xs,SqT K H a xs->xs[i]?=some x,λi H=>∃xs,SqT K H a xs/\xs.length<=i⟩
def Itr(lo:Int)(n:Nat):It:=⟨λi _=>i<n,λi H x H'=>H'=H/\x=.int (lo+i),λi _=>n<=i⟩
def yO{P:Program}{w:World}{K:W.Frag}{tg:Expr}(a it:Addr):Turn P w K tg (Itl K a) [it] it (λi h=>h.IsListIter it a i) where
 mem:=by simp
 obj:=λi h st b hb=>by
  have e:b=it:=by simpa using hb
  subst e
  obtain⟨o,e,c,d⟩:=st
  exact⟨o,e,λv z=>by rw[d] at z;cases z⟩
 keep:=λi h h' st k=>st.at λo e=>k it (by simp) o e
 item:=by
  intro X hP hw hK hc i pins s σ H E I hf st hg
  subst hP hw hK
  obtain⟨xs,x,hq,hx⟩:=hg
  obtain⟨its,rv,p,hz⟩:=I.list hq
  obtain⟨u,hu,ru⟩:=rv.get hx
  obtain⟨f0,f1,f2,f3,f4,f5⟩:=hf it (by simp)
  refine wpAny_pyNext_list_item st p.isList (x:=u) (by simpa using hu) λh' st' sb=>?_
  have I1:Inv X pins σ H { s with heap:=h' }:=I.turned (t':=s.toks) (λb o hb e=>(sb.2 b hb).trans e) f0 f1 f3 f4 f5
  obtain⟨o,e,c,d⟩:=id st'
  exact⟨u,rfl,wz (s:={ s with heap:=h' }) e c d (by decide) ⟨x,H,I1,ru,⟨rfl,λys hy=>by rw[I.list_inj hy hq];exact hx⟩,st',λb hb=>(hf b hb).1⟩⟩
 done:=by
  intro X hP hw hK hc i pins s σ H E I hf st hg
  subst hP hw hK
  obtain⟨xs,hq,hx⟩:=hg
  obtain⟨its,rv,p,hz⟩:=I.list hq
  obtain⟨f0,f1,f2,f3,f4,f5⟩:=hf it (by simp)
  have hl:=rv.length
  exact wpAny_pyNext_list_end (I.ok.hd hc) st p.isList (by simp;omega) λh' eb=>⟨rfl,I.turned (t':=s.toks) (λb o hb e=>eb b o hb e) f0 f1 f3 f4 f5⟩
 self:=λ_ _ _ _ _ st h=>wpAny_pyIter_listiter st h
def wQ{P:Program}{w:World}{K:W.Frag}{tg:Expr}(a it:Addr):Turn P w K tg (Itt K a) [it] it (λi h=>h.IsTupleIter it a i) where
 mem:=by simp
 obj:=λi h st b hb=>by
  have e:b=it:=by simpa using hb
  subst e
  obtain⟨o,e,c,d⟩:=st
  exact⟨o,e,λv z=>by rw[d] at z;cases z⟩
 keep:=λi h h' st k=>st.at λo e=>k it (by simp) o e
 item:=by
  intro X hP hw hK hc i pins s σ H E I hf st hg
  subst hP hw hK
  obtain⟨xs,x,hq,hx⟩:=hg
  obtain⟨its,rv,p,hz⟩:=I.tuple hq
  obtain⟨u,hu,ru⟩:=rv.get hx
  obtain⟨f0,f1,f2,f3,f4,f5⟩:=hf it (by simp)
  refine wpAny_pyNext_tuple_item st (show s.heap.IsTuple a its.toArray from p) (x:=u) (by simpa using hu) λh' st' sb=>?_
  have I1:Inv X pins σ H { s with heap:=h' }:=I.turned (t':=s.toks) (λb o hb e=>(sb.2 b hb).trans e) f0 f1 f3 f4 f5
  obtain⟨o,e,c,d⟩:=id st'
  exact⟨u,rfl,wz (s:={ s with heap:=h' }) e c d (by decide) ⟨x,H,I1,ru,⟨rfl,λys hy=>by rw[I.tuple_inj hy hq];exact hx⟩,st',λb hb=>(hf b hb).1⟩⟩
 done:=by
  intro X hP hw hK hc i pins s σ H E I hf st hg
  subst hP hw hK
  obtain⟨xs,hq,hx⟩:=hg
  obtain⟨its,rv,p,hz⟩:=I.tuple hq
  obtain⟨f0,f1,f2,f3,f4,f5⟩:=hf it (by simp)
  have hl:=rv.length
  exact wpAny_pyNext_tuple_end (I.ok.hd hc) st (show s.heap.IsTuple a its.toArray from p) (by simp;omega) λh' eb=>⟨rfl,I.turned (t':=s.toks) (λb o hb e=>eb b o hb e) f0 f1 f3 f4 f5⟩
 self:=λ_ _ _ _ _ st h=>wpAny_pyIter_tupleiter st h
def wq{P:Program}{w:World}{K:W.Frag}{tg:Expr}(it:Addr)(lo:Int)(n:Nat):Turn P w K tg (Itr lo n) [it] it (λi h=>IsRangeIter h it (lo+(i:Nat)*1) ((n:Int)-(i:Nat)) 1) where
 mem:=by simp
 obj
  := λi h st b hb=>by
  have e:b=it:=by simpa using hb
  subst e
  exact⟨_,st,λv z=>by
   have z':Data.fields _=Data.cell v:=z
   cases z'⟩
 keep:=λi h h' st k=>k it (by simp) _ st
 item:=by
  intro X hP hw hK hc i pins s σ H E I hf st hg
  subst hP hw hK
  obtain⟨f0,f1,f2,f3,f4,f5⟩:=hf it (by simp)
  have W:=Walks.range (prog:=X.prog) (w:=X.w) (I.ok.hd hc) it lo 1 n
  refine W.item i s _ _ hg st λv h' tk hv st' kk=>?_
  obtain⟨t,rfl⟩:=hv
  have I1:Inv X pins σ H { s with heap:=h',toks:=tk }:=I.turned (λb o hb e=>kk b o (by simpa using hb) e) f0 f1 f3 f4 f5
  refine⟨_,rfl,wz (s:={ s with heap:=h',toks:=tk }) (n:="range_iterator") st' rfl rfl (by decide) ⟨.int (lo+i),H,I1,⟨t,?_⟩,⟨rfl,rfl⟩,st',λb hb=>(hf b hb).1⟩⟩
  rw[Int.mul_one]
 done:=by
  intro X hP hw hK hc i pins s σ H E I hf st hg
  subst hP hw hK
  obtain⟨f0,f1,f2,f3,f4,f5⟩:=hf it (by simp)
  exact wpAny_pyNext_range_end (I.ok.hd hc) st (by have:n<=i:=hg;omega) λh' eb=>⟨rfl,I.turned (t':=s.toks) (λb o hb e=>eb b o hb e) f0 f1 f3 f4 f5⟩
 self:=λ_ _ _ _ _ st h=>wpAny_pyIter_rangeiter st h
end L2
namespace L2
open PySem PySem.Spec PyProof.Rows
section
variable{X:Cx}{tg:Expr}
def Ar{pins:List (Addr×Obj)}{σ:St}{H:Hp}{s:Shared}{R:It->Hp->Prop}{E:Value->Shared->Prop}{lo hi:Int}{t u v:Tok}{tk:Nat}(I:Inv X pins σ H s)(h1:-(2^62)<=lo)(h2:lo<2^62)(h3:-(2^62)<=hi)(h4:hi<2^62)
 (q:R (Itr lo (hi-lo).toNat) H):wpAny (model X.prog X.w) X.A (pyIter (.ref s.heap.objs.size)) (PIE X pins σ tg R) E { s with heap:=s.heap.push { cls:=.type "range",data:=.fields #[.int lo t,.int hi u,.int 1 v] },toks:=tk }:=by
 refine wpAny_pyIter_range (IsRange.new ..) (small_one h1 h2 h3 h4) ?_
 have I1:Inv X pins σ H { s with heap:=s.heap.push { cls:=.type "range",data:=.fields #[.int lo t,.int hi u,.int 1 v] },toks:=tk }:=I.kept λb o e=>Og _ e
 refine⟨(s.heap.push { cls:=.type "range",data:=.fields #[.int lo t,.int hi u,.int 1 v] }).objs.size,[(s.heap.push { cls:=.type "range",data:=.fields #[.int lo t,.int hi u,.int 1 v] }).objs.size],_,_,H,rfl,
  I1.kept (t':=tk) λb o e=>Og _ e,wq _ lo (hi-lo).toNat,?_,λb hb=>?_,q⟩
 ·have e1:lo+((0:Nat):Int)*1=lo:=by simp
  have e2:(((hi-lo).toNat:Nat):Int)-((0:Nat):Int)=Builtin.Range.rangeSize lo hi 1:=by rw[rangeSize_one];split <;> omega
  show IsRangeIter _ _ (lo+((0:Nat):Int)*1) ((((hi-lo).toNat:Nat):Int)-((0:Nat):Int)) 1
  rw[e1,e2]
  exact Ou _ rfl
 ·have e:b=(s.heap.push { cls:=.type "range",data:=.fields #[.int lo t,.int hi u,.int 1 v] }).objs.size:=by simpa using hb
  subst e
  exact I1.fpOk (Oe _) (I1.hok.fresh (Oe _))
def KR(ta:TA):TI:=λσ H R=>ta σ H λvs H1=>∃j:Int,vs=[.int j]/\-(2^62)<=j/\j<2^62/\R (Itr 0 j.toNat) H1
def yj{a:Expr}{ta:TA}{p pos:Pos}(hg:Gl X "range")(hm:X.mg "range"=none)(ha:PA X [a] ta)(hs:starEach [a] X.env=[(false,eval a X.env)]:=by rfl):PI X tg (.Call (.Name "range" p) [a] [] pos) (KR ta):=by
 intro pins s σ H R I h
 refine Call_ (j5 I hg hm boot_range (Qb (thn (ha pos pins s σ H _ I h) λus s1 ⟨vs,H1,I1,r1,q1⟩=>?_) hs rfl))
 obtain⟨j,e,q1,q2,q⟩:=q1
 subst e
 cases r1 with
 |
  cons r rr=>
  cases rr
  obtain⟨t,rfl⟩:=r
  exact call_range_1 (Ar I1 (by omega) (by omega) q1 q2 (by simpa using q))
def tFor(wi:TI)(g:TG)(tb:TS):TS:=λD σ H=>wi σ H λJ H1=>∃W:Nat->Nat->St->Hp->Prop,(∃m,W 0 m σ H1)/\∀i m σ H,W i m σ H->
 (J.stop i H/\D.nx σ H)\/(J.go i H/\∃N:St->Hp->Prop,(∀σ' H',N σ' H'->∃m',m'<m/\W (i+1) m' σ' H')/\∀x H',J.yld i H x H'->g x σ H' λσ2 H2=>tb { D with nx:=N,ct:=N,bk:=D.nx } σ2 H2)
def ki(fp:List Addr)(h:Heap):List (Addr×Obj):=fp.filterMap λb=>(h.get? b).map λo=>(b,o)
def fk{fp:List Addr}{h:Heap}{b:Addr}{o:Obj}(hb:b∈fp)(e:h.get? b=some o):(b,o)∈ki fp h:=List.mem_filterMap.mpr ⟨b,hb,by rw[e];rfl⟩
def yH{fp:List Addr}{h:Heap}{p:Addr×Obj}(hp:p∈ki fp h):p.1∈fp/\h.get? p.1=some p.2:=by
 obtain⟨b,hb,e⟩:=List.mem_filterMap.mp hp
 cases q:h.get? b with
 |none=>rw[q] at e;cases e
 |
  some o=>
  rw[q] at e
  have e':(b,o)=p:=Oz e
  subst e'
  exact⟨hb,q⟩
def Inv.pinned{pins:List (Addr×Obj)}{σ:St}{H:Hp}{s:Shared}{fp:List Addr}(I:Inv X pins σ H s)(hf:∀b∈fp,FpOk X pins H b)(ho:∀b∈fp,∃o,s.heap.get? b=some o/\∀v,o.data ≠ .cell v):Inv X (pins++ki fp s.heap) σ H s:=
 I.pins_of λp hp=>(O4.mp hp).elim (λz=>I.pin p (Ox _ z)) λz=>by
  obtain⟨hb,e⟩:=yH z
  obtain⟨f0,f1,f2,_⟩:=hf p.1 hb
  obtain⟨o,e',d⟩:=ho p.1 hb
  rw[e] at e';cases e'
  exact⟨e,f0,f1,f2,d⟩
def Inv.unpinned{pins pl:List (Addr×Obj)}{σ:St}{H:Hp}{s:Shared}(I:Inv X (pins++pl) σ H s):Inv X pins σ H s:=I.pins_of λp hp=>I.pin p (Ox _ (Qd _ hp))
def HH{am:Expr}{body:List Stmt}{wi:TI}{g:TG}{tb:TS}{pos:Pos}(hp:PassesOwn (model X.prog X.w) X.A X.env X.xe)(hc:X.calm=true)(hi:PI X tg am wi)(hg:PG X tg g)(hb:PSs X body tb)
 (hs:∀x,foldedSetIterable am X.env x=pure x:=by intro _;rfl):PS X (.For tg am body [] pos) (tFor wi g tb):=by
 intro pins s σ H D I h
 refine wpAny_For (thn (hi pins s σ H _ I h) λv s1 h1=>thn h1 λitv s2 h2=>?_) hs
 obtain⟨it,fp,tn,J,H2,e,I2,T,st2,f2,W,⟨m0,w0⟩,turn⟩:=h2
 subst e
 have stat:∀{H':Hp},(∀b∈fp,H' b=none)->∀b∈fp,FpOk X pins H' b:=λhn b hb=>⟨hn b hb,(f2 b hb).2⟩
 refine codeAny_forLoop_any (λn s'=>∃i σ' H',Inv X pins σ' H' s'/\tn i s'.heap/\(∀b∈fp,H' b=none)/\W i n σ' H') ?_ m0 ⟨0,σ,H2,I2,st2,λb hb=>(f2 b hb).1,w0⟩
 rintro n s3 ⟨i,σ3,H3,I3,st3,fr3,w3⟩
 rcases turn i n σ3 H3 w3 with ⟨stop,qn⟩ |⟨go,N,hN,step⟩
 ·refine PF hp (thn (T.done X rfl rfl rfl hc i pins s3 σ3 H3 X.xe I3 (stat fr3) st3 stop) λr s4 ⟨hr,I4⟩=>?_)
  subst hr
  exact QO ⟨σ3,H3,I4,qn⟩
 ·refine PF hp (thn (T.item X rfl rfl rfl hc i pins s3 σ3 H3 X.xe I3 (stat fr3) st3 go) λr s4 ⟨u,hr,h4⟩=>?_)
  subst hr
  refine PF hp (thn h4 λ_ s5 ⟨x,H5,I5,r5,y5,st5,fr5⟩=>?_)
  have I5':=I5.pinned (stat fr5) (T.obj _ _ st5)
  refine PF hp (thn (hg _ s5 σ3 H5 x u _ I5' r5 (step x H5 y5)) λ_ s6 ⟨σ6,H6,I6,q6⟩=>?_)
  refine PF hp (thn (hb _ s6 σ6 H6 _ I6 q6) λf s7 q7=>?_)
  have again:∀{σ7:St}{H7:Hp},Inv X (pins++ki fp s5.heap) σ7 H7 s7->N σ7 H7->∃m,m<n/\∃i σ' H',Inv X pins σ' H' s7/\tn i s7.heap/\(∀b∈fp,H' b=none)/\W i m σ' H':=λ{σ7 H7} I7 n7=>by
   obtain⟨m',hm,w7⟩:=hN σ7 H7 n7
   refine⟨m',hm,i+1,σ7,H7,I7.unpinned,T.keep _ _ _ st5 λb hb o e=>(I7.pin (b,o) (Ox _ (Ox _ (fk hb e)))).1,λb hb=>?_,w7⟩
   obtain⟨o,e,d⟩:=T.obj _ _ st5 b hb
   exact (I7.pin (b,o) (Ox _ (Ox _ (fk hb e)))).2.1
  cases f with
  |next=>obtain⟨σ7,H7,I7,n7⟩:=q7;exact again I7 n7
  |cont=>obtain⟨σ7,H7,I7,n7⟩:=q7;exact again I7 n7
  |brk=>obtain⟨σ7,H7,I7,q7⟩:=q7;exact⟨σ7,H7,I7.unpinned,q7⟩
  |ret v=>obtain⟨x7,σ7,H7,I7,r7,q7⟩:=q7;exact⟨x7,σ7,H7,I7.unpinned,r7,q7⟩
end
end L2
namespace L2
open PySem PySem.Spec PyProof.Rows
abbrev R2:=V->V->Hp->VK->Prop
def OpR(X:Cx)(f:Value->Value->Sem Value)(r:R2):Prop:=
 ∀
  (pins:List (Addr×Obj)) (s:Shared) (σ:St) (H:Hp) (x y:V) (v u:Value) (Q:VK),Inv X pins σ H s->RelV x v->RelV y u->r x y H Q->
  wpAny (model X.prog X.w) X.A (f v u) (EP X pins σ Q) X.xe s
def UnR(X:Cx)(f:Value->Sem Value)(r:V->Hp->VK->Prop):Prop:=
 ∀
  (pins:List (Addr×Obj)) (s:Shared) (σ:St) (H:Hp) (x:V) (v:Value) (Q:VK),Inv X pins σ H s->RelV x v->r x H Q->
  wpAny (model X.prog X.w) X.A (f v) (EP X pins σ Q) X.xe s
def CallR(X:Cx)(f:Value)(r:List V->Hp->VK->Prop):Prop:=
 ∀
  (pins:List (Addr×Obj)) (s:Shared) (σ:St) (H:Hp) (xs:List V) (us:List Value) (Q:VK),Inv X pins σ H s->Vals xs us->r xs H Q->
  wpAny (model X.prog X.w) X.A (call f us) (EP X pins σ Q) X.xe s
def TruR(X:Cx)(r:V->Hp->(Bool->Hp->Prop)->Prop):Prop:=
 ∀
  (pins:List (Addr×Obj)) (s:Shared) (σ:St) (H:Hp) (x:V) (v:Value) (Q:Bool->Hp->Prop),Inv X pins σ H s->RelV x v->r x H Q->
  wpAny (model X.prog X.w) X.A (truthy v) (TP X pins σ Q) X.xe s
def tOp(r:R2)(ta tb:TE):TE:=λσ H Q=>ta σ H λx H1=>tb σ H1 λy H2=>r x y H2 Q
def tUn(r:V->Hp->VK->Prop)(ta:TE):TE:=λσ H Q=>ta σ H λx H1=>r x H1 Q
def rI(C:Int->Int->Prop)(g:Int->Int->V):R2:=λx y H Q=>∃i j,x=.int i/\y=.int j/\C i j/\Q (g i j) H
def rI0(g:Int->Int->V):R2:=λx y H Q=>∃i j,x=.int i/\y=.int j/\Q (g i j) H
def rU(g:Int->V):V->Hp->VK->Prop:=λx H Q=>∃i,x=.int i/\Q (g i) H
section
variable{X:Cx}{a b c:Expr}{ta tb tc:TE}{pos:Pos}
def Cn(ha:PE X a ta)(hb:PE X b tb){pins:List (Addr×Obj)}{s:Shared}{σ:St}{H:Hp}{R:V->V->Hp->Prop}(I:Inv X pins σ H s)
 (h:ta σ H λx H1=>tb σ H1 λy H2=>R x y H2) {Q:Value->Shared->Prop}{f:Value->Value->Sem Value}
 (hf:∀v u s2 x y H2,Inv X pins σ H2 s2->RelV x v->RelV y u->R x y H2->wpAny (model X.prog X.w) X.A (f v u) Q X.xe s2):
 wpAny (model X.prog X.w) X.A (eval a X.env) (λv s₁=>wpAny (model X.prog X.w) X.A (eval b X.env) (λu s₂=>wpAny (model X.prog X.w) X.A (f v u) Q X.xe s₂) X.xe s₁) X.xe s:=by
 refine thn (ha pins s σ H _ I h) λv s1 ⟨x,H1,I1,r1,q1⟩=>?_
 refine thn (hb pins s1 σ H1 _ I1 q1) λu s2 ⟨y,H2,I2,r2,q2⟩=>?_
 exact hf v u s2 x y H2 I2 r1 r2 q2
def JO{op:Operator}{r:R2}(ho:OpR X (binaryOp op) r)(ha:PE X a ta)(hb:PE X b tb):PE X (.BinOp a op b pos) (tOp r ta tb):=by
 intro pins s σ H Q I h
 exact wpAny_BinOp (Cn ha hb I h λv u s2 x y H2 I2 rx ry q=>ho pins s2 σ H2 x y v u Q I2 rx ry q)
def Ls{op:UnaryOp}{r:V->Hp->VK->Prop}(ho:UnR X (unaryOp op) r)(ha:PE X a ta):PE X (.UnaryOp op a pos) (tUn r ta):=by
 intro pins s σ H Q I h
 exact UnaryOp_ (thn (ha pins s σ H _ I h) λv s1 ⟨x,H1,I1,r1,q1⟩=>ho pins s1 σ H1 x v Q I1 r1 q1)
def opI{f:Value->Value->Sem Value}{C:Int->Int->Prop}{g:Int->Int->Int}
 (rule:∀(i j:Int) (t u:Tok) (s:Shared) (Q:Value->Shared->Prop) (E:Value->Shared->Prop),C i j->Q (.int (g i j) s.toks) { s with toks:=s.toks+1 }->wpAny (model X.prog X.w) X.A (f (.int i t) (.int j u)) Q E s):
 OpR X f (rI C λi j=>.int (g i j)):=by
 intro pins s σ H x y v u Q I rx ry h
 obtain⟨i,j,rfl,rfl,hc,q⟩:=h
 obtain⟨t,rfl⟩:=rx
 obtain⟨t',rfl⟩:=ry
 exact rule i j t t' s _ _ hc ⟨.int (g i j),H,I.tok _,⟨_,rfl⟩,q⟩
def opI0{f:Value->Value->Sem Value}{g:Int->Int->Int}
 (rule:∀(i j:Int) (t u:Tok) (s:Shared) (Q:Value->Shared->Prop) (E:Value->Shared->Prop),Q (.int (g i j) s.toks) { s with toks:=s.toks+1 }->wpAny (model X.prog X.w) X.A (f (.int i t) (.int j u)) Q E s):
 OpR X f (rI0 λi j=>.int (g i j)):=by
 intro pins s σ H x y v u Q I rx ry h
 obtain⟨i,j,rfl,rfl,q⟩:=h
 obtain⟨t,rfl⟩:=rx
 obtain⟨t',rfl⟩:=ry
 exact rule i j t t' s _ _ ⟨.int (g i j),H,I.tok _,⟨_,rfl⟩,q⟩
def BX{f:Value->Value->Sem Value}{g:Int->Int->Bool}
 (rule:∀(i j:Int) (t u:Tok) (s:Shared) (Q:Value->Shared->Prop) (E:Value->Shared->Prop),Q (.bool (g i j)) s->wpAny (model X.prog X.w) X.A (f (.int i t) (.int j u)) Q E s):
 OpR X f (rI0 λi j=>.bl (g i j)):=by
 intro pins s σ H x y v u Q I rx ry h
 obtain⟨i,j,rfl,rfl,q⟩:=h
 obtain⟨t,rfl⟩:=rx
 obtain⟨t',rfl⟩:=ry
 exact rule i j t t' s _ _ ⟨.bl (g i j),H,I,rfl,q⟩
def iG(i j:Int):Prop:=0<=j/\j<=1000000/\i.natAbs<2^64
def CMul(i j:Int):Prop:=(-(2^64)<i/\i<2^64)\/(-(2^64)<j/\j<2^64)
def CMul.ok{i j:Int}(h:CMul i j):IntMulOk i j:=by
 rcases h with ⟨h1,h2⟩ |⟨h1,h2⟩
 ·exact .of_left (intBits_le_64 h1 h2)
 ·exact .of_right (intBits_le_64 h1 h2)
def F4:OpR X (binaryOp .Add) (rI0 λi j=>.int (i+j)):=opI0 λ_ _ _ _ _ _ _ q=>add_int q
def eD:OpR X (binaryOp .Sub) (rI0 λi j=>.int (i-j)):=opI0 λ_ _ _ _ _ _ _ q=>sub_int q
def Jr:OpR X (binaryOp .Mult) (rI CMul λi j=>.int (i*j)):=opI λ_ _ _ _ _ _ _ hc q=>mul_int q hc.ok
def dg:OpR X (binaryOp .Mod) (rI (λ_ j=>j≠0) λi j=>.int (i.fmod j)):=opI λ_ _ _ _ _ _ _ hc q=>mod_int' hc q
def jm:OpR X (binaryOp .Pow) (rI iG λi j=>.int (i^j.toNat)):=opI λ_ _ _ _ _ _ _ hc q=>pow_int_small hc.1 hc.2.1 hc.2.2 q
def Ij:OpR X (binaryOp .LShift) (rI iG λi j=>.int (i*2^j.toNat)):=opI λ_ _ _ _ _ _ _ hc q=>lshift_int_small hc.1 hc.2.1 hc.2.2 q
def unI{f:Value->Sem Value}{g:Int->Int}
 (rule:∀(i:Int) (t:Tok) (s:Shared) (Q:Value->Shared->Prop) (E:Value->Shared->Prop),Q (.int (g i) s.toks) { s with toks:=s.toks+1 }->wpAny (model X.prog X.w) X.A (f (.int i t)) Q E s):
 UnR X f (rU λi=>.int (g i)):=by
 intro pins s σ H x v Q I rx h
 obtain⟨i,rfl,q⟩:=h
 obtain⟨t,rfl⟩:=rx
 exact rule i t s _ _ ⟨.int (g i),H,I.tok _,⟨_,rfl⟩,q⟩
def Ip:UnR X (unaryOp .USub) (rU λi=>.int (-i)):=unI λ_ _ _ _ _ q=>neg_int q
end
section
variable{X:Cx}{a b c:Expr}{ta tb tc:TE}{pos:Pos}
def zJ{pins:List (Addr×Obj)}{σ:St}{H:Hp}{s:Shared}{Q:VK}{k k':Bool}(I:Inv X pins σ H s)(q:Q (.bl k) H)(e:k=k'):EP X pins σ Q (.bool k') s:=by
 subst e
 exact⟨.bl k,H,I,rfl,q⟩
def rP:OpR X (compareOp .Lt) (rI0 λi j=>.bl (decide (i<j))):=BX λ_ _ _ _ _ _ _ q=>lt_int q
def og:OpR X (compareOp .Gt) (rI0 λi j=>.bl (decide (j<i))):=BX λ_ _ _ _ _ _ _ q=>gt_int q
def nO:OpR X (compareOp .GtE) (rI0 λi j=>.bl (decide (j<=i))):=BX λ_ _ _ _ _ _ _ q=>ge_int q
def OpR.or{f:Value->Value->Sem Value}{r r':R2}(h:OpR X f r)(h':OpR X f r'):OpR X f (λx y H Q=>r x y H Q\/r' x y H Q):=by
 intro pins s σ H x y v u Q I rx ry q
 rcases q with q |q
 ·exact h pins s σ H x y v u Q I rx ry q
 ·exact h' pins s σ H x y v u Q I rx ry q
def aQ(b:Expr){op:CmpOp}(h:op ≠ .In:=by decide)(h2:op ≠ .NotIn:=by decide):behindInMarks op b=false:=by
 have e1:(op==CmpOp.In)=false:=by cases op <;> first |rfl |exact absurd rfl h
 have e2:(op==CmpOp.NotIn)=false:=by cases op <;> first |rfl |exact absurd rfl h2
 cases b <;> simp [behindInMarks,e1,e2]
def Fx{op:CmpOp}{r:R2}(ho:OpR X (compareOp op) r)(ha:PE X a ta)(hb:PE X b tb)(hm:behindInMarks op b=false):PE X (.Compare a [op] [b] pos) (tOp r ta tb):=by
 intro pins s σ H Q I h
 exact wpAny_Compare1 (Cn ha hb I h λv u s2 x y H2 I2 rx ry q=>ho pins s2 σ H2 x y v u Q I2 rx ry q) hm
def K2(t:TE):TT:=λσ H Q=>t σ H λx H'=>∃k,x=.bl k/\Q k H'
def Fb{op:CmpOp}{r:R2}(ho:OpR X (compareOp op) r)(ha:PE X a ta)(hb:PE X b tb)(hm:behindInMarks op b=false):PT X (.Compare a [op] [b] pos) (K2 (tOp r ta tb)):=by
 intro pins s σ H Q I h
 refine wpAny_isTrue_Compare1 (thn (ha pins s σ H _ I h) λv s1 ⟨x,H1,I1,r1,q1⟩=>thn (hb pins s1 σ H1 _ I1 q1) λu s2 ⟨y,H2,I2,r2,q2⟩=>
  thn (ho pins s2 σ H2 x y v u _ I2 r1 r2 q2) λc s3 ⟨z,H3,I3,r3,k,e,q3⟩=>?_) hm
 subst e
 cases r3
 exact PK ⟨H3,I3,q3⟩
def B1(K:W.Frag)(x:V)(H:Hp)(k:Bool):Prop:=
 match x with
 |.non=>k=false
 |.bl b=>k=b
 |.int i=>k=(i != 0)
 |.str y=>y.length<=sizeLine/\k=((y.length:Int) != 0)
 |.byt y=>y.size<=sizeLine/\k=((y.size:Int) != 0)
 |.ref p=>(∃xs,SqL K H p xs/\k=!xs.isEmpty)\/(∃xs,SqT K H p xs/\k=!xs.isEmpty)\/∃kvs,H p=some (.dK kvs)/\k=!kvs.isEmpty
 |_=>False
def xI{κ:Type}{kvs:List (κ×V)}{vs:List (κ×Value)}(r:KV kvs vs):(!vs.isEmpty)=!kvs.isEmpty:=by
 cases r <;> rfl
def nZ{xs:List V}{its:List Value}(r:Vals xs its):(!its.toArray.isEmpty)=!xs.isEmpty:=by
 cases r <;> simp
def ko:(sizeLine:Nat)<2^63:=by rw[sizeLine_eq];decide
def Gm:TruR X (λx H Q=>∃k,B1 X.K x H k/\Q k H):=by
 intro pins s σ H x v Q I rx h
 obtain⟨k,e,q⟩:=h
 have hl:=ko
 have hs:sizeLine=16777216:=sizeLine_eq
 cases x with
 |
  non=>
  cases rx
  have e':k=false:=e
  subst e'
  exact truthy_none ⟨H,I,q⟩
 |
  bl b=>
  cases rx
  have e':k=b:=e
  subst e'
  exact PK ⟨H,I,q⟩
 |
  int i=>
  obtain⟨t,rfl⟩:=rx
  have e':k=(i != 0):=e
  subst e'
  exact PySem.P.truthy_int ⟨H,I,q⟩
 |
  str y=>
  obtain⟨t,rfl⟩:=rx
  obtain⟨hy,e'⟩:y.length<=sizeLine/\k=((y.length:Int) != 0):=e
  subst e'
  exact PySem.P.truthy_str (by omega) ⟨H,I.tok _,q⟩
 |
  byt y=>
  obtain⟨t,rfl⟩:=rx
  obtain⟨hy,e'⟩:y.size<=sizeLine/\k=((y.size:Int) != 0):=e
  subst e'
  exact W.truthy_bytes (by omega) ⟨H,I.tok _,q⟩
 |
  ref p=>
  cases rx
  have e':(∃xs,SqL X.K H p xs/\k=!xs.isEmpty)\/(∃xs,SqT X.K H p xs/\k=!xs.isEmpty)\/∃kvs,H p=some (.dK kvs)/\k=!kvs.isEmpty:=e
  rcases e' with ⟨xs,hx,e'⟩ |⟨xs,hx,e'⟩ |⟨kvs,hx,e'⟩
  ·subst e'
   obtain⟨its,r,pl,hz⟩:=I.list hx
   have be:=r.length
   exact wpAny_truthy_list pl.isList (by simp only[Oj];omega) ⟨H,I.tok _,by rw[nZ r];exact q⟩
  ·subst e'
   obtain⟨its,r,pl,hz⟩:=I.tuple hx
   have be:=r.length
   exact truthy_tuple pl (by simp only[Oj];omega) ⟨H,I.tok _,by rw[nZ r];exact q⟩
  ·subst e'
   obtain⟨hz,hS,vs,r,m⟩:kvs.length<=sizeLine/\(p==sysModules)=false/\∃vs,KV kvs vs/\s.heap.DictOf (cM X.prog X.w) p vs:=I.hok p _ hx
   have be:kvs.length=vs.length:=QW r
   exact wpAny_truthy_dict hS m (by omega) ⟨H,I.tok _,by rw[xI r];exact q⟩
 |_=>exact (show False from e).elim
def Cc(ha:PE X a ta)(he:∀ci,isTrue a X.env ci=(do let v <- ci;standAt a.pos;holding [v] (truthy v))):
 PT X a (λσ H Q=>ta σ H λx H'=>∃k,B1 X.K x H' k/\Q k H'):=by
 intro pins s σ H Q I h
 exact isTrue_plain (thn (ha pins s σ H _ I h) λv s1 ⟨x,H1,I1,r1,q1⟩=>Gm pins s1 σ H1 x v Q I1 r1 q1) (he _)
def gX{x:V}{us:List Value}(r:Vals [x] us):∃u,us=[u]/\RelV x u:=by
 cases r with
 |cons r1 r2=>cases r2;exact⟨_,rfl,r1⟩
def ml{x y:V}{us:List Value}(r:Vals [x,y] us):∃u w',us=[u,w']/\RelV x u/\RelV y w':=by
 cases r with
 |
  cons r1 r2=>
  cases r2 with
  |cons r3 r4=>cases r4;exact⟨_,_,rfl,r1,r3⟩
def eP:CallR X (.builtin "abs") (λxs H Q=>∃i,xs=[.int i]/\Q (.int (if i<0 then -i else i)) H):=by
 intro pins s σ H xs us Q I r h
 obtain⟨i,rfl,q⟩:=h
 obtain⟨u,rfl,t,rfl⟩:=gX r
 exact call_abs_int λu tk=>⟨.int (if i<0 then -i else i),H,I.tok _,⟨_,rfl⟩,q⟩
def yJ(hc:X.calm=true):CallR X (.builtin "max") (λxs H Q=>∃i j,xs=[.int i,.int j]/\Q (.int (if j>i then j else i)) H):=by
 intro pins s σ H xs us Q I r h
 obtain⟨i,j,rfl,q⟩:=h
 obtain⟨u,w',rfl,⟨t,rfl⟩,⟨t',rfl⟩⟩:=ml r
 refine max_two_ints (I.ok.hd hc) λh' tk k=>⟨_,H,I.kept k,?_,q⟩
 by_cases hj:j>i
 ·rw[if_pos hj,if_pos hj];exact⟨_,rfl⟩
 ·rw[if_neg hj,if_neg hj];exact⟨_,rfl⟩
def qJ(hc:X.calm=true):CallR X (.builtin "min") (λxs H Q=>∃i j,xs=[.int i,.int j]/\Q (.int (if j<i then j else i)) H):=by
 intro pins s σ H xs us Q I r h
 obtain⟨i,j,rfl,q⟩:=h
 obtain⟨u,w',rfl,⟨t,rfl⟩,⟨t',rfl⟩⟩:=ml r
 refine min_two_ints (I.ok.hd hc) λh' tk k=>⟨_,H,I.kept k,?_,q⟩
 by_cases hj:j<i
 ·rw[if_pos hj,if_pos hj];exact⟨_,rfl⟩
 ·rw[if_neg hj,if_neg hj];exact⟨_,rfl⟩
def zU:CallR X (.type "int") (λxs H Q=>(∃i,xs=[.int i]/\Q (.int i) H)\/∃k,xs=[.bl k]/\Q (.int (if k then 1 else 0)) H):=by
 intro pins s σ H xs us Q I r h
 rcases h with ⟨i,rfl,q⟩ |⟨k,rfl,q⟩
 ·obtain⟨u,rfl,t,rfl⟩:=gX r
  exact call_int_int ⟨.int i,H,I,⟨_,rfl⟩,q⟩
 ·obtain⟨u,rfl,r1⟩:=gX r
  cases r1
  exact call_int_bool ⟨.int (if k then 1 else 0),H,I.tok _,⟨_,rfl⟩,q⟩
end
end L2
namespace L2
open PySem PySem.Spec PyProof.Rows
structure ObjM(h:Heap)(x dx C:Addr)(mA:Str->Option Value):Prop where
 obj:h.get? x=some (W.instObj C dx)
 ns:h.Ns1 dx mA
 ne:dx≠x
def zL{h:Heap}{dx:Addr}{mA:Str->Option Value}(n:h.Ns1 dx mA):∃od,h.get? dx=some od/\∀name,W.lookIn name od=some (mA name):=by
 obtain⟨o,es,ep,ho,hd,hk,_,hm⟩:=n
 refine⟨o,ho,λname=>?_⟩
 have e:=hm name
 unfold nsFind findBy at e
 rw[<- Array.find?_toList] at e
 unfold W.lookIn
 rw[hd]
 dsimp only
 split
 ·rename_i y q
  rw[q] at e
  exact O3 some e
 ·rename_i q
  rw[q] at e
  have a:es.toList.any (·.refKey)=false:=by
   rw[List.any_eq_false]
   intro y hy
   obtain⟨z,t,hkey⟩:=hk y (Array.mem_toList_iff.mp hy)
   simp [DictEntry.refKey,hkey]
  have a':¬ es.toList.any (·.refKey)=true:=by rw[a];exact Oi
  rw[if_neg a']
  exact O3 some e
def ObjM.look{h:Heap}{x dx C:Addr}{mA:Str->Option Value}(I:ObjM h x dx C mA):∃od,W.InstAt h x (W.instObj C dx) C (some od)/\∀name,W.lookIn name od=some (mA name):=
 let ⟨od,ho,hl⟩:=zL I.ns
 ⟨od,⟨I.obj,rfl,rfl,ho⟩,hl⟩
section
variable{prog:Program}{w:World}{A:Around}{E:Value->Shared->Prop}{s:Shared}{K:W.Frag}{x dx C f:Addr}{mA:Str->Option Value}{name:Str}{v:Value}
end
def RelO.some_of{v:V}{o:Option Value}(r:RelO (some v) o):∃u,o=some u/\RelV v u:=by
 cases o with
 |none=>exact (show False from r).elim
 |some u=>exact⟨u,rfl,r⟩
section
variable{P:Program}{w:World}{H H':Hp}{h h':Heap}{a C dx:Addr}{fs fs':List (Str×V)}
def Dp(hok:HOk P w H h)(e:H a=some (.ins C dx fs)):∃mA,ObjM h a dx C mA/\(∀f,RelO (fs.lookup f) (mA f))/\PySem.Within mA (fs.map (·.1))/\fs.length<=1000/\H dx=some (.own a):=by
 obtain⟨d,z,ne,ob,mA,n,r,q⟩:=(show ObjOk P w H h a (.ins C dx fs) from hok a _ e)
 exact⟨mA,⟨ob,n,ne⟩,r,q,z,d⟩
end
structure Cls(K:W.Frag)(C:Addr):Prop where
 pg:W.plainGet K C Str.empty=true
 hd:W.hasDictIn K C=true
 po:W.plainOver K C=true
 sa:W.findIn K (.ref C) "__setattr__"=some (some (.builtin "object.__setattr__"))
def Cls.get{K:W.Frag}{C:Addr}(c:Cls K C)(f:Str):W.plainGet K C f=true:=c.pg
structure Con(K:W.Frag)(C:Addr)(f:Str)(v:V)(u:Value):Prop where
 at_:W.findIn K (.ref C) f=some (some u)
 rel:RelV v u
 get:W.specialIn K u "__get__"=some none
 cp:W.copiedNames.contains f=false
structure Meth(K:W.Frag)(C:Addr)(m:Str)(f:Addr):Prop where
 at_:W.findIn K (.ref C) m=some (some (.ref f))
 fn:W.isFn K (.ref f)=true
 kp:W.keepIn K (.ref f)=true
section
variable{X:Cx}{pins:List (Addr×Obj)}{σ:St}{H:Hp}{s:Shared}{a C dx:Addr}{fs:List (Str×V)}{f:Str}{v:V}{A:Around}{E:Value->Shared->Prop}
end
section
variable{X:Cx}{o e value:Expr}{f:Str}{pos io tpos:Pos}{ta tv:TE}
end
section
variable{X:Cx}{pins:List (Addr×Obj)}{σ:St}{H:Hp}{s:Shared}{A:Around}{E:Value->Shared->Prop}{Q:Value->Shared->Prop}{c:Value}{b:Bool}
inductive TyOf(K:W.Frag)(H:Hp):V->Value->Prop where
 |non:TyOf K H .non (.type "NoneType")
 |bl (x:Bool):TyOf K H (.bl x) (.type "bool")
 |int (i:Int):TyOf K H (.int i) (.type "int")
 |str (x:Str):TyOf K H (.str x) (.type "str")
 |flt (x:UInt64):TyOf K H (.flt x) (.type "float")
 |lst {a:Addr}{xs:List V} (e:H a=some (.lst xs)):TyOf K H (.ref a) (.type "list")
 |frz {a:Addr}{o:Obj}{xs:List V} (e:H a=some (.frz o (.lst xs))):TyOf K H (.ref a) (.type "list")
 |tup {a:Addr}{xs:List V} (e:H a=some (.tup xs)):TyOf K H (.ref a) (.type "tuple")
 |dK {a:Addr}{kvs:List (Key×V)} (e:H a=some (.dK kvs)):TyOf K H (.ref a) (.type "dict")
 |dT {a:Addr}{kvs:List (List Key×V)} (e:H a=some (.dT kvs)):TyOf K H (.ref a) (.type "dict")
 |ins {a C dx:Addr}{fs:List (Str×V)} (e:H a=some (.ins C dx fs)) (cl:Cls K C) (ha:W.findIn K (.ref C) "__class__"=some (some (.builtin "object.__class__")))
  (hn:W.specialIn K (.builtin "object.__class__") "__get__"=some (some (.builtin "getset_descriptor.__get__"))) (htk:W.takesIn K (.builtin "object.__class__")=some true)
  (hm:W.mroIn K C (.type "object")=some true):TyOf K H (.ref a) (.ref C)
end
end L2
namespace L2
open PySem PySem.Spec PyProof.Rows
structure Room(k:Nat)(A:Around):Prop where
 hd:A.handled=none
 dp:A.depth+3*k+5<recursionLimit
 un:A.units+16*k+200<cLine
def Room.mono{j k:Nat}{A:Around}(r:Room k A)(h:j<=k):Room j A:=⟨r.hd,by have:=r.dp;omega,by have:=r.un;omega⟩
def Room.deeper{k:Nat}{A:Around}(r:Room (k+1) A)(env:Env):Room k (A.deeper env):=
 ⟨r.hd,by have:=r.dp;show A.depth+1+3*k+5<_;omega,by have:=r.un;show A.units+3+16*k+200<_;omega⟩
def Room.depth{k:Nat}{A:Around}(r:Room k A):A.depth<recursionLimit:=by have:=r.dp;omega
def Room.units{k:Nat}{A:Around}(r:Room k A):A.units+64<cLine:=by have:=r.un;omega
def tNil:TA:=λ_ H Q=>Q [] H
def JW(ta:TE)(tr:TA):TA:=λσ H Q=>ta σ H λx H1=>tr σ H1 λxs H2=>Q (x::xs) H2
section
variable{X:Cx}{e:Expr}{es:List Expr}{te:TE}{t:TA}{pos:Pos}
def Jw:PA X [] tNil:=λ_ _ _ _ H Q I h=>Calls.spliced_nil ⟨[],H,I,.nil,h⟩
def DY(ha:PE X e te)(hr:PA X es t)(hs:starEach (e::es) X.env=(false,eval e X.env)::starEach es X.env:=by rfl):PA X (e::es) (JW te t):=by
 intro pos pins s σ H Q I h
 rw[hs]
 show wpAny _ _ (spliced ((false,eval e X.env)::backTo pos (starEach es X.env))) _ _ s
 refine Calls.spliced_cons (thn (ha pins s σ H _ I h) λu s1 ⟨x,H1,I1,r1,q1⟩=>?_)
 exact thn (hr pos pins s1 σ H1 _ I1 q1) λus s2 ⟨xs,H2,I2,r2,q2⟩=>⟨x::xs,H2,I2,.cons r1 r2,q2⟩
def tTup(t:TA):TE:=λσ H Q=>t σ H λxs H1=>xs.length<=sizeLine/\∀p,H1 p=none->Q (.ref p) (upd H1 p (.tup xs))
def tLst(t:TA):TE:=λσ H Q=>t σ H λxs H1=>xs.length<=sizeLine/\∀p,H1 p=none->Q (.ref p) (upd H1 p (.lst xs))
def Hq{x1}(h:PA X es t):PE X (.Tuple es x1 pos) (tTup t):=by
 intro pins s σ H Q I hq
 refine wpAny_Tuple_spliced (thn (h pos pins s σ H _ I hq) λus s1 ⟨xs,H1,I1,r,z,q⟩=>⟨by rw[<- r.length];exact z,?_⟩)
 have hf:H1 s1.heap.objs.size=none:=I1.hok.fresh (Oe _)
 refine⟨.ref s1.heap.objs.size,upd H1 s1.heap.objs.size (.tup xs),I1.laid (t':=s1.toks) (λb u e=>Og _ e) (Oe _) ?_,rfl,q _ hf⟩
 exact⟨z,us,r,⟨_,Ou _ rfl,rfl,_,rfl⟩⟩
def JE(h:PA X es t):PE X (.List es pos) (tLst t):=by
 intro pins s σ H Q I hq
 refine wpAny_List_spliced (thn (h pos pins s σ H _ I hq) λus s1 ⟨xs,H1,I1,r,z,q⟩=>⟨by rw[<- r.length];exact z,?_⟩)
 have hf:H1 s1.heap.objs.size=none:=I1.hok.fresh (Oe _)
 refine⟨.ref s1.heap.objs.size,upd H1 s1.heap.objs.size (.lst xs),I1.laid (t':=s1.toks) (λb u e=>Og _ e) (Oe _) ?_,rfl,q _ hf⟩
 exact⟨z,us,0,r,Ou _ rfl⟩
end
abbrev Sp:=List V->Hp->VK->XK->Prop
abbrev CXT:=List Env->Hp->Shared->XK->Value->Shared->Prop
structure Env0(P:Program)(w:World)(K:W.Frag)(mg:Str->Option Value)(base:Heap)(A:Around)(outer:List Env)(s:Shared)(H:Hp):Prop where
 frames:A.frames=some outer
 mod:Mod K mg base
 bs:∀b o,base.get? b=some o->s.heap.get? b=some o/\H b=none
 bsz:base.objs.size<=s.heap.objs.size
 funs:s.heap.FunFrames base outer
 frf:∀b∈frs outer,H b=none
 hok:HOk P w H s.heap
 bare:AllBare s.gens
def CE(outer:List Env)(P:Program)(w:World)(H:Hp)(s:Shared)(Q:VK)(u:Value)(s':Shared):Prop:=
 ∃v H',s'.os=s.os/\AllBare s'.gens/\Un (frs outer) [] H H' s.heap s'.heap/\HOk P w H' s'.heap/\RelV v u/\Q v H'
def CR(CX:CXT)(outer:List Env)(P:Program)(w:World)(H:Hp)(s:Shared)(Q:VK)(E:XK)(r:Result)(s':Shared):Prop:=
 match r with
 |.ok (.ret u)=>CE outer P w H s Q u s'
 |.ok _=>False
 |.error e=>CX outer H s E e s'
structure FnOk(P:Program)(w:World)(K:W.Frag)(mg:Str->Option Value)(base:Heap)(CX:CXT)(k:Nat)(f:Addr)(fd:FuncData)(ps:List Str)(sp:Sp):Prop where
 len:∀vs H Q E,sp vs H Q E->vs.length=ps.length
 run:∀(A:Around) (outer:List Env) (s:Shared) (H:Hp) (args:Args) (us:List Value) (vs:List V) (Q:VK) (E:XK),Room k A->Env0 P w K mg base A outer s H->BindsTo s fd args (ps.zip us)->Vals vs us->sp vs H Q E->
  codeAny (model P w) A (.call (.ref f) args) (CR CX outer P w H s Q E) s
def FnOk.imp{P:Program}{w:World}{K:W.Frag}{mg:Str->Option Value}{base:Heap}{CX:CXT}{k:Nat}{f:Addr}{fd:FuncData}{ps:List Str}{sp sp':Sp}(F:FnOk P w K mg base CX k f fd ps sp)
 (h:∀vs H Q E,sp' vs H Q E->sp vs H Q E):FnOk P w K mg base CX k f fd ps sp':=
 ⟨λvs H Q E q=>F.len vs H Q E (h _ _ _ _ q),λA outer s H args us vs Q E hr he hb hv hs=>F.run A outer s H args us vs Q E hr he hb hv (h _ _ _ _ hs)⟩
section
variable{X:Cx}{pins:List (Addr×Obj)}{σ:St}{H:Hp}{s s':Shared}
def Inv.env0(I:Inv X pins σ H s):Env0 X.prog X.w X.K X.mg X.base X.A X.stack s H:=
 ⟨I.ok.frames,I.ok.mod,I.bs,Oy I.ok.bsz I.sz,I.stack,I.stkFree,I.hok,I.bare⟩
def Inv.after{Q:VK}{u:Value}(I:Inv X pins σ H s)(h:CE X.stack X.prog X.w H s Q u s'):EP X pins σ Q u s':=by
 obtain⟨v,H',os,bare,un,hok,r,q⟩:=h
 obtain⟨hh,g,d,t,os'⟩:=s'
 obtain rfl:os'=s.os:=os
 exact⟨v,H',I.call (h':=hh) (g':=g) (d':=d) (t':=t) (ch:=[]) un hok bare (λb z=>absurd z (by simp)),r,q⟩
end
def Binds(K:W.Frag)(fd:FuncData)(ps:List Str)(ds:List Value):Prop:=
 ∀(s:Shared) (us:List Value),K.In s.heap->(us++ds).length=ps.length->BindsTo s fd ⟨us,[]⟩ (ps.zip (us++ds))
def Binds.all{K:W.Frag}{fd:FuncData}{ps:List Str}(h:∀us:List Value,us.length=ps.length->bindArgs fd ⟨us,[]⟩=pure (ps.zip us)):Binds K fd ps []:=λs us _ hl=>by
 rw[OR] at hl ⊢
 exact .of_eq (h us hl)
def uF(CX:CXT)(X:Cx)(E:XK):Prop:=∀(pins:List (Addr×Obj)) (σ:St) (H:Hp) (s:Shared) (e:Value) (s':Shared),Inv X pins σ H s->CX X.stack H s E e s'->X.xe e s'
section
variable{X:Cx}{CX:CXT}{k:Nat}{f C:Addr}{fd:FuncData}{ps:List Str}{sp:Sp}{dvs:List V}{ds:List Value}{E:XK}{x m:Str}{p pos apos:Pos}{e o:Expr}{es:List Expr}{ta:TE}{t:TA}
structure Mk(K:W.Frag)(C f:Addr):Prop where
 makes:W.makesIn K C=true
 init:W.findIn K (.ref C) "__init__"=some (some (.ref f))
 fn:W.isFn K (.ref f)=true
 kp:W.keepIn K (.ref C)=true
end
section
variable{X:Cx}{CX:CXT}{k:Nat}{f C:Addr}{fd:FuncData}{ps ks:List Str}{sp:Sp}{E:XK}{x m:Str}{p pos apos kpos:Pos}{e o:Expr}{es:List Expr}{kws:List Keyword}{te ta:TE}{t tk:TA}{nm:Option Str}
structure KBinds(K:W.Frag)(fd:FuncData)(ps ks:List Str)(g:List Value->List Value->List Value)(gV:List V->List V->List V):Prop where
 to:∀(s:Shared) (us ws:List Value),K.In s.heap->(g us ws).length=ps.length->BindsTo s fd ⟨us,ks.zip ws⟩ (ps.zip (g us ws))
 rel:∀{vs:List V}{us:List Value}{zs:List V}{ws:List Value},Vals vs us->Vals zs ws->Vals (gV vs zs) (g us ws)
variable{g:List Value->List Value->List Value}{gV:List V->List V->List V}
end
structure FnScope(N P:List Str)(sc:Scope):Prop where
 kind:sc.kind=.function
 co:sc.isCoroutine=false
 gen:sc.isGenerator=false
 nd:N.Nodup
 pre:N.take P.length=P
 par:∀x∈P,sc.names.lookup x=some .local\/sc.names.lookup x=some .cell
 nofree:∀y∈sc.names,y.2 ≠ .free
theorem qN{kindOf:Str->Option NameKind}{x:Str}:∀{binds:List (Str×Value)}{m:Str->Option Value},(∀v,(x,v)∉binds)->bindL kindOf binds m x=m x
 | [],_,_=>rfl
 |
  (n,v)::r,m,h=>by
  unfold bindL
  rw[qN λw hw=>h w (N9 _ hw)]
  split
  ·have:x≠n:=by rintro rfl;exact h v Od
   simp [this]
  ·rfl
theorem qK{kindOf:Str->Option NameKind}{x:Str}:∀{binds:List (Str×Value)}{m:Str->Option Value},(∀v,(x,v)∉binds)->bindC kindOf binds m x=m x
 | [],_,_=>rfl
 |
  (n,v)::r,m,h=>by
  unfold bindC
  rw[qK λw hw=>h w (N9 _ hw)]
  split
  ·rfl
  ·have:x≠n:=by rintro rfl;exact h v Od
   simp [this]
theorem qU{kindOf:Str->Option NameKind}{x:Str}{v:Value}:∀{P:List Str}{vs:List Value}{i:Nat}{m:Str->Option Value},P.Nodup->P[i]?=some x->vs[i]?=some v->kindOf x=some .local->
 bindL kindOf (P.zip vs) m x=some v
 | [],_,_,_,_,h,_,_=>by simp at h
 |_::_,[],_,_,_,_,h,_=>by simp at h
 |
  p::P,w::vs,0,m,nd,h1,h2,hk=>by
  simp at h1 h2;subst h1;subst h2
  show bindL kindOf ((p,w)::P.zip vs) m p=_
  unfold bindL
  rw[qN λv hv=>(PZ.mp nd).1 (List.of_mem_zip hv).1,if_pos hk]
  simp
 |
  p::P,w::vs,i+1,m,nd,h1,h2,hk=>by
  show bindL kindOf ((p,w)::P.zip vs) m x=_
  unfold bindL
  exact qU (i:=i) (PZ.mp nd).2 (by simpa using h1) (by simpa using h2) hk
theorem qT{kindOf:Str->Option NameKind}{x:Str}{v:Value}:∀{P:List Str}{vs:List Value}{i:Nat}{m:Str->Option Value},P.Nodup->P[i]?=some x->vs[i]?=some v->kindOf x≠some .local->
 bindC kindOf (P.zip vs) m x=some v
 | [],_,_,_,_,h,_,_=>by simp at h
 |_::_,[],_,_,_,_,h,_=>by simp at h
 |
  p::P,w::vs,0,m,nd,h1,h2,hk=>by
  simp at h1 h2;subst h1;subst h2
  show bindC kindOf ((p,w)::P.zip vs) m p=_
  unfold bindC
  rw[qK λv hv=>(PZ.mp nd).1 (List.of_mem_zip hv).1,if_neg hk]
  simp
 |
  p::P,w::vs,i+1,m,nd,h1,h2,hk=>by
  show bindC kindOf ((p,w)::P.zip vs) m x=_
  unfold bindC
  exact qT (i:=i) (PZ.mp nd).2 (by simpa using h1) (by simpa using h2) hk
def gp(N:List Str)(vs:List V):St:=vs.map some++List.replicate (N.length-vs.length) none
def fo(CX:CXT)(P:Program)(w:World)(K:W.Frag)(mg:Str->Option Value)(base:Heap)(N:List Str)(qual:Str)(scope:Scope)(f:Addr)(cd:Value)(A:Around)(outer:List Env)(s:Shared)(H:Hp)(E:XK):Cx where
 prog:=P
 w:=w
 K:=K
 mg:=mg
 base:=base
 A:=A.deeper (envOfC qual scope s.heap.objs.size f cd)
 N:=N
 s₀:=s
 H₀:=H
 env:=envOfC qual scope s.heap.objs.size f cd
 outer:=outer
 stack:=envOfC qual scope s.heap.objs.size f cd::outer
 ex:=[]
 calm:=true
 fn:=λ_=>true
 pn:=[]
 xe:=λe s'=>wpAny (model P w) (A.deeper (envOfC qual scope s.heap.objs.size f cd)) (leaving (envOfC qual scope s.heap.objs.size f cd) e) (λ_ s''=>CX outer H s E e s'') (λe' s''=>CX outer H s E e' s'') s'
def tR{sc:Scope}{n:Nat}{x:Str}(h:sc.names.lookup x=some .cell):∃c,(cellsFrom n sc.names []).lookup x=some c:=by
 have q:=W.cellsFrom_some sc.names n [] (.inl h)
 exact OL.mp q
def zy{CX:CXT}{P:Program}{w:World}{K:W.Frag}{mg:Str->Option Value}{base:Heap}{N ps:List Str}{qual:Str}{scope:Scope}{f:Addr}{cd:Value}{A:Around}{outer:List Env}{s s1:Shared}{H:Hp}{E:XK}{us:List Value}{vs:List V}
 (S:FnScope N ps scope) (hd:A.handled=none) (e0:Env0 P w K mg base A outer s H) (hl:vs.length=ps.length) (r:Vals vs us)
 (x:InCallC s s.heap.objs.size (bindL (envOfC qual scope s.heap.objs.size f cd).kindOf (ps.zip us) λ_=>none) (cellsFrom (s.heap.objs.size+1) scope.names []) (bindC (envOfC qual scope s.heap.objs.size f cd).kindOf (ps.zip us) λ_=>none) s1):
 Inv (fo CX P w K mg base N qual scope f cd A outer s H E) [] (gp N vs) H s1:=by
 have hpl:ps.length<=N.length:=by have:=O3 List.length S.pre;rw[Pn] at this;omega
 obtain⟨h1,tk,rfl,hk⟩:=x.done
 have noA:∀b:Addr,b∉(fo CX P w K mg base N qual scope f cd A outer s H E).ex:=λb z=>absurd (show b∈([]:List Addr) from z) (by simp)
 refine⟨⟨e0.mod,S.kind,rfl,rfl,Oe _,λy z c h1 h2=>?_,λy hy=>?_,λy c _ h=>?_,λ_=>hd,Around.frames_deeper e0.frames,.inr ⟨rfl,rfl⟩,λb z=>absurd z (noA b),e0.bs,e0.bsz,λb _ _=>noA b,λb z=>absurd z (noA b),e0.funs,e0.frf⟩,
  rfl,e0.bare,Un.kept hk,⟨_,x.toInCall.ns,λi y v h1 h2 h3=>?_⟩,λy c h=>⟨_,x.cell y c h⟩,e0.hok.fresh (Oe _),λy c h=>?_,λp hp=>absurd (show p∈([]:List (Addr×Obj)) from hp) (by simp),e0.hok.kept hk,?_⟩
 ·exact name_of_addr x.apart (OZ h1) (OZ h2)
 ·have hy:scope.names.lookup y=some .cell\/scope.names.lookup y=some .free:=hy
  rcases hy with hy |hy
  ·exact tR hy
  ·exact absurd rfl (S.nofree _ (OZ hy))
 ·exact QL (x.above y c (OZ h))
 ·have hi:i<vs.length:=by
   unfold gp at h2
   by_cases hi:i<vs.length
   ·exact hi
   ·rw[OB (by simpa using hi)] at h2
    rw[O8] at h2
    split at h2 <;> cases h2
  have ha:vs[i]?=some v:=by
   unfold gp at h2
   rw[OF (by simpa using hi),OD] at h2
   cases e:vs[i]? with
   |none=>rw[e] at h2;cases h2
   |some a=>rw[e] at h2;cases h2;rfl
  obtain⟨u,hu,rv⟩:=r.get ha
  have hp:ps[i]?=some y:=by
   rw[<- S.pre,List.getElem?_take_of_lt (by omega)];exact h1
  have ndP:ps.Nodup:=by rw[<- S.pre];exact S.nd.sublist (List.take_sublist _ _)
  refine⟨u,rv,?_⟩
  rcases S.par y (Ph hp) with k |k
  ·exact .inl ⟨k,qU ndP hp hu k⟩
  ·obtain⟨c,e⟩:=tR (n:=s.heap.objs.size+1) k
   refine .inr ⟨.inl k,c,e,?_⟩
   have q:=x.cell y c e
   rw[qT ndP hp hu (by show scope.names.lookup y≠_;rw[k];decide)] at q
   exact q
 ·exact e0.hok.fresh (QL (x.above y c (OZ h)))
 ·unfold gp
  show _=N.length
  rw[Oa,N8,Pb]
  omega
def K4{CX:CXT}{P:Program}{w:World}{K:W.Frag}{mg:Str->Option Value}{base:Heap}{k:Nat}{f:Addr}{name qual:Str}{params:Arguments}{body:List Stmt}{scope:Scope}{dV kV doc pm cdv ct oc:Value}{an od:Option Addr}
 {osl:Array (Option Value)}{N ps:List Str}{sp:Sp} (lk:K.lookup f=some ⟨oc,od,.func (W.fnOf name qual params body scope dV kV doc pm an cdv ct),osl⟩) (hcd:W.codeIn K cdv qual=true) (S:FnScope N ps scope)
 (len:∀vs H Q E,sp vs H Q E->vs.length=ps.length)
 (im:∀(A:Around) (outer:List Env) (s:Shared) (H:Hp) (vs:List V) (Q:VK) (E:XK),Room k (A.deeper (envOfC qual scope s.heap.objs.size f cdv))->sp vs H Q E->
  ∃t,PSs (fo CX P w K mg base N qual scope f cdv A outer s H E) body t/\t { nx:=λ_ H'=>Q .non H',rt:=Q } (gp N vs) H):
 FnOk P w K mg base CX (k+1) f (W.fnOf name qual params body scope dV kV doc pm an cdv ct) ps sp:=by
 refine⟨len,λA outer s H args us vs Q E hr e0 hb r hsp=>?_⟩
 have hl:=len _ _ _ _ hsp
 have KX:K.In s.heap:=e0.mod.kin.keeps λb o e=>(e0.bs b o e).1
 have lim:s.heap.NoLimit:=e0.mod.nolimit.keeps λb o e=>(e0.bs b o e).1
 have hkind:∀y∈ps.zip us,scope.names.lookup y.1=some .local\/(scope.names.lookup y.1=some .cell/\((cellsFrom (s.heap.objs.size+1) scope.names []).lookup y.1).isSome=true):=λ⟨n,v⟩ hy=>by
  rcases S.par n (List.of_mem_zip hy).1 with q |q
  ·exact .inl q
  ·exact .inr ⟨q,W.cellsFrom_some _ _ _ (.inl q)⟩
 refine codeAny_call_function hr.depth (KX _ _ lk) rfl S.co S.gen rfl (W.codeRec_of KX hcd) (hb _ _ _ _ ?_)
 refine wpAny_newFunctionEnv_cells S.kind hkind λenv he s1 x=>?_
 subst he
 refine⟨lim.keeps x.toInCall.keep,codeAny_func ?_⟩
 obtain⟨t,ht,hq⟩:=im A outer s H vs Q E (hr.deeper _) hsp
 have I:Inv (fo CX P w K mg base N qual scope f cdv A outer s H E) [] (gp N vs) H s1:=zy S hr.hd e0 hl r x
 refine ON (ht [] s1 (gp N vs) H _ I hq) (λfl s' hs=>?_) λe s' hs=>hs
 have fin:∀{σ':St}{H':Hp}{v:V}{u:Value},Inv (fo CX P w K mg base N qual scope f cdv A outer s H E) [] σ' H' s'->RelV v u->Q v H'->CE outer P w H s Q u s':=
  λ{σ' H' v u} J rv q=>⟨v,H',J.os,J.bare,J.base,J.hok,rv,q⟩
 cases fl with
 |
  ret u=>
  obtain⟨v,σ',H',J,rv,q⟩:=hs
  exact fin J rv q
 |
  next=>
  obtain⟨σ',H',J,q⟩:=hs
  exact fin (v:=V.non) (u:=Value.none) J rfl q
 |
  brk=>
  obtain⟨_,_,_,q⟩:=hs
  exact False.elim q
 |
  cont=>
  obtain⟨_,_,_,q⟩:=hs
  exact False.elim q
end L2
namespace L2
open PySem PySem.Spec PyProof.Rows
section
variable{X:Cx}{x:Str}{p pos:Pos}{e:Expr}{es:List Expr}{t:TA}{id T:String}{r:List V->Hp->VK->Prop}
def tCB(r:List V->Hp->VK->Prop)(t:TA):TE:=λσ H Q=>t σ H λvs H1=>r vs H1 Q
def Bf(hc:CallR X (.builtin id) r)(hg:Gl X x)(hm:X.mg x=none)(hv:bootBuiltins x=some (.builtin id))(ha:PA X (e::es) t)(hn:x ≠ "__name__":=by decide)(hdb:(x==("__debug__" : Str))=false:=by decide)
 (he:starEach (e::es) X.env=(false,eval e X.env)::starEach es X.env:=by rfl) (hpl:(backTo pos (starEach es X.env)).any (·.1)=false:=by rfl):PE X (.Call (.Name x p) (e::es) [] pos) (tCB r t):=by
 intro pins s σ H Q I h
 refine Qq (j5 I hg hm hv ?_ hn hdb)
 exact PyProof.Rows.callWith_builtin1 (thn (ha pos pins s σ H _ I h) λus s1 ⟨vs,H1,I1,r1,q1⟩=>hc pins s1 σ H1 vs us Q I1 r1 q1) he hpl
def yP(hc:CallR X (.type T) r)(hg:Gl X x)(hm:X.mg x=none)(hv:bootBuiltins x=some (.type T))(ha:PA X (e::es) t)(hn:x ≠ "__name__":=by decide)(hdb:(x==("__debug__" : Str))=false:=by decide)
 (he:starEach (e::es) X.env=(false,eval e X.env)::starEach es X.env:=by rfl) (hpl:(backTo pos (starEach es X.env)).any (·.1)=false:=by rfl):PE X (.Call (.Name x p) (e::es) [] pos) (tCB r t):=by
 intro pins s σ H Q I h
 refine Qq (j5 I hg hm hv ?_ hn hdb)
 exact Qb (thn (ha pos pins s σ H _ I h) λus s1 ⟨vs,H1,I1,r1,q1⟩=>hc pins s1 σ H1 vs us Q I1 r1 q1) he hpl
def xh(hc:CallR X (.type T) r)(hg:Gl X x)(hm:X.mg x=none)(hv:bootBuiltins x=some (.type T))(hn:x ≠ "__name__":=by decide)(hdb:(x==("__debug__" : Str))=false:=by decide):
 PE X (.Call (.Name x p) [] [] pos) (tCB r tNil):=by
 intro pins s σ H Q I h
 refine Qq (j5 I hg hm hv ?_ hn hdb)
 exact PyProof.Rows.callWith_type0 (hc pins s σ H [] [] Q I .nil h)
end
end L2
namespace HT
open PySem PyProof.Rows
section
open PySem.SeqAt
open PySem.AutoSeq1 (wpAny_loadPart')
open PySem.MeetsSeq PySem.MeetsSeq2 PySem.MeetsSeq3
end
section
variable{prog:Program}{w:World}{A:Around}{E:Value->Shared->Prop}{s:Shared}
def cat_tup{t b:Addr}{vs ws:List Value}{Q:Value->Shared->Prop}(ht:IsTup s.heap t vs.toArray)(hb:IsTup s.heap b ws.toArray)(hv:vs≠[])
 (h1:ws=[]->Q (.ref t) s) (h2:ws≠[]->Q (.ref s.heap.objs.size) { s with heap:=s.heap.push { cls:=.type "tuple",data:=.seq (vs++ws).toArray } })
 (hsz:vs.length+ws.length<=sizeLine):wpAny (model prog w) A (binaryOp .Add (.ref t) (.ref b)) Q E s:=by
 obtain⟨⟨cls,dd,data,sl⟩,ho,hc,n,hd⟩:=id ht
 obtain⟨⟨cls2,dd2,data2,sl2⟩,ho2,hc2,n2,hd2⟩:=id hb
 simp only at hc hd hc2 hd2
 subst hc hd hc2 hd2
 have e:vs.toArray++ws.toArray=(vs++ws).toArray:=by simp
 by_cases hw:ws=[]
 ·exact concat_meets ⟨_,ho,rfl⟩ ⟨_,ho2,rfl⟩ noFill_tuple_add seq_tuple_add Qz Qs (Qo _ _)
   (tuple_addW1 t b vs.toArray ws.toArray n n2 dd dd2 sl sl2 (by simpa using hv) (by simp [hw])) ⟨ho,ho2,h1 hw⟩
 ·refine concat_meets ⟨_,ho,rfl⟩ ⟨_,ho2,rfl⟩ noFill_tuple_add seq_tuple_add Qz Qs (Qo _ _)
   (tuple_addW2 t b vs.toArray ws.toArray n n2 dd dd2 sl sl2 (by simpa using hv) (by simpa using hw) (by rw[Oj,Oj];exact hsz)) ⟨ho,ho2,?_⟩
  rw[e]
  exact h2 hw
def sIx(n d:Nat):Option Int->Nat
 |none=>d
 |some v=>if v<0 then (v+(n:Int)).toNat else min v.toNat n
def sIx_none(n d:Nat):sIx n d none=d:=rfl
def sIx_nat(n d k:Nat):sIx n d (some (k:Int))=min k n:=by
 show (if (k:Int)<0 then ((k:Int)+(n:Int)).toNat else min (k:Int).toNat n)=min k n
 rw[if_neg (by omega),O0]
def Im(n d:Nat)(hd:d<=n)(o:Option Int):sIx n d o<=n:=by
 cases o with
 |none=>exact hd
 |
  some v=>
  show (if v<0 then (v+(n:Int)).toNat else min v.toNat n)<=n
  by_cases hv:v<0
  ·rw[if_pos hv];omega
  ·rw[if_neg hv];exact Nat.min_le_right _ _
def vG(v:Int)(n d:Nat):(if v<0 then max (v+(n:Int)) 0 else min v (n:Int))=((sIx n d (some v):Nat):Int):=by
 show (if v<0 then max (v+(n:Int)) 0 else min v (n:Int))=(((if v<0 then (v+(n:Int)).toNat else min v.toNat n):Nat):Int)
 by_cases hv:v<0
 ·simp only[if_pos hv];omega
 ·simp only[if_neg hv];omega
def xp(lo hi:Option Int)(n:Nat):Builtin.Slice.sliceAdjust lo hi 1 (n:Int)=(((sIx n 0 lo:Nat):Int),((sIx n n hi:Nat):Int)):=by
 have h1:¬ ((1:Int)<0):=by omega
 unfold Builtin.Slice.sliceAdjust
 simp only[h1,PQ]
 refine Prod.ext ?_ ?_
 ·cases lo with
  |none=>rfl
  |some v=>exact vG v n 0
 ·cases hi with
  |none=>rfl
  |some v=>exact vG v n n
def xa(i j:Nat):Builtin.Slice.slicePlaces (i:Int) (j:Int) 1=j-i:=by
 unfold Builtin.Slice.slicePlaces
 have h1:(1:Int)>0:=by omega
 simp only[h1,Pw,Int.ediv_one]
 split <;> omega
def o7{v:Value}{o:Option Int}{Q:Option Int->Shared->Prop}(p:IsPart v o)(h:Q o s):wpAny (model prog w) A (Builtin.Slice.slicePartIndex v) Q E s:=by
 cases p with
 |none=>exact slicePart_none h
 |int i t=>exact slicePart_int h
def nG{sl:Addr}{vl vu:Value}{lo hi:Option Int}{n:Nat}{Q:Int×Int×Nat->Shared->Prop}(hs:s.heap.IsSliceOf sl vl vu .none)(pl:IsPart vl lo)(pu:IsPart vu hi)
 (h:Q (((sIx n 0 lo:Nat):Int),1,sIx n n hi-sIx n 0 lo) s):wpAny (model prog w) A (Builtin.Slice.sliceApplied (.ref sl) (pure (n:Int))) Q E s:=by
 obtain⟨os,hos,hcs,hds⟩:=id hs
 unfold Builtin.Slice.sliceApplied Builtin.Slice.sliceFields
 refine N7 (N7 (O6 hos hds (x:=vl) rfl (N7 (O6 hos hds (x:=vu) rfl (N7 (O6 hos hds (x:=.none) rfl (Om ?_)))))))
 refine N7 (slicePart_none ?_)
 show wpAny _ _ (if ((1:Int)==0)=true then _ else _) _ _ s
 rw[if_neg (by decide)]
 refine N7 (o7 pl (N7 (o7 pu (N7 (Om ?_)))))
 show wpAny _ _ (match Builtin.Slice.sliceAdjust lo hi 1 (n:Int) with |(lo,hi)=>pure (lo,(1:Int),Builtin.Slice.slicePlaces lo hi 1)) _ _ s
 rw[xp lo hi n]
 show wpAny _ _ (pure (((sIx n 0 lo:Nat):Int),(1:Int),Builtin.Slice.slicePlaces ((sIx n 0 lo:Nat):Int) ((sIx n n hi:Nat):Int) 1)) _ _ s
 rw[xa]
 exact Om h
def Bg(xs:Array Value)(i k:Nat):((List.range k).filterMap λ(m:Nat)=>xs[((i:Int)+(m:Int)*1).toNat]?).toArray=((xs.toList.drop i).take k).toArray:=by
 have e:(λ(m:Nat)=>xs[((i:Int)+(m:Int)*1).toNat]?)=λm=>xs[i+m]?:=by
  funext m
  have:((i:Int)+(m:Int)*1).toNat=i+m:=by omega
  rw[this]
 rw[e]
 have:=pick_run xs i k
 rw[List.filterMap_map] at this
 have e2:((λx=>xs[x]?) ∘ λx=>i+x)=λm=>xs[i+m]?:=rfl
 rw[e2] at this
 rw[this]
def getItem_tuple_cut{t sl:Addr}{items:Array Value}{vl vu:Value}{lo hi:Option Int}{Q:Value->Shared->Prop}(ht:IsTup s.heap t items)(hs:s.heap.IsSliceOf sl vl vu .none)(pl:IsPart vl lo)(pu:IsPart vu hi)
 (hw:¬ (sIx items.size 0 lo=0/\sIx items.size items.size hi=items.size))
 (h:Q (.ref s.heap.objs.size) { s with heap:=s.heap.push { cls:=.type "tuple",data:=.seq ((items.toList.drop (sIx items.size 0 lo)).take (sIx items.size items.size hi-sIx items.size 0 lo)).toArray } })
 (hsz:items.size<=sizeLine):wpAny (model prog w) A (getItem (.ref t) (.ref sl)) Q E s:=by
 have htake:sizeOk (.seq ((items.toList.drop (sIx items.size 0 lo)).take (sIx items.size items.size hi-sIx items.size 0 lo)).toArray):=by
  show ((items.toList.drop (sIx items.size 0 lo)).take (sIx items.size items.size hi-sIx items.size 0 lo)).toArray.size<=sizeLine
  rw[Oj,Pn,Qc,QQ]
  omega
 have hj:sIx items.size items.size hi<=items.size:=Im _ _ (Oe _) hi
 obtain⟨os,hos,hcs,hds⟩:=id hs
 have hTs:s.TypeIs (.ref sl) "slice":=⟨os,hos,hcs⟩
 unfold getItem
 try with_reducible refine PY ?_
 first |refine N7 (Om ?_) |skip
 refine N7 (wpAny_sequenceKey ht.typeIs (by decide) ?_)
 refine N7 (Pt (name:=Str.ofString "__getitem__") ht.typeIs PyProof.Rows.slot_tuple_getitem
  (Qg PyProof.Rows.slot_tuple_getitem ht.typeIs entry_tuple_getitem ?_ (args_tuple_getitem _ _)))
 show wpAny _ _ (Builtin.Tuple.tupleItemsOf (.ref t) >>= _) _ _ s
 refine N7 (tupleItemsOf_ ht ?_)
 refine N7 (wpAny_typeOf hTs ?_)
 rw[if_pos (by decide)]
 refine N7 (nG hs pl pu ?_)
 have hno:¬ ((((sIx items.size 0 lo:Nat):Int)==0&&(1:Int)==1&&(sIx items.size items.size hi-sIx items.size 0 lo)==items.size)=true):=by
  intro q
  rw[Ol,Ol] at q
  have q1:((sIx items.size 0 lo:Nat):Int)=0:=eq_of_beq q.1.1
  have q2:sIx items.size items.size hi-sIx items.size 0 lo=items.size:=eq_of_beq q.2
  exact hw ⟨by omega,by omega⟩
 show wpAny _ _ (if (((sIx items.size 0 lo:Nat):Int)==0&&(1:Int)==1&&(sIx items.size items.size hi-sIx items.size 0 lo)==items.size)=true then _ else _) _ _ s
 rw[if_neg hno,Bg]
 first
  |exact N7 (m:=Builtin.Tuple.tupleExact _) (O2 (Om ⟨_,rfl,Om h⟩) htake)
  |exact N7 (m:=Builtin.Tuple.tupleExact _) (O2 (N7 (Om (Om ⟨_,rfl,Om h⟩))) htake)
  |exact N7 (N7 (m:=Builtin.Tuple.tupleExact _) (O2 (Om (Om ⟨_,rfl,Om h⟩)) htake))
  |exact N7 (N7 (m:=Builtin.Tuple.tupleExact _) (O2 (Om ⟨_,rfl,Om h⟩) htake))
end
end HT
namespace L2
open PySem PySem.Spec PyProof.Rows
abbrev TO:=St->Hp->(Option Int->Hp->Prop)->Prop
def PO(X:Cx)(e:Option Expr)(t:TO):Prop:=
 ∀
  (pins:List (Addr×Obj)) (s:Shared) (σ:St) (H:Hp) (Q:Option Int->Hp->Prop),Inv X pins σ H s->t σ H Q->
  wpAny (model X.prog X.w) X.A (evalPart e X.env) (λu s'=>∃o H',Inv X pins σ H' s'/\IsPart u o/\Q o H') X.xe s
def Er:TO:=λ_ H Q=>Q none H
def KW(t:TE):TO:=λσ H Q=>t σ H λx H1=>∃i,x=.int i/\Q (some i) H1
section
variable{X:Cx}{e:Expr}{te:TE}{lo hi:Option Expr}{tl th:TO}{pos p2:Pos}
def Fi:PO X none Er:=by
 intro pins s σ H Q I h
 rw[evalPart_none]
 exact Om ⟨none,H,I,.none,h⟩
def Ec(h:PE X e te):PO X (some e) (KW te):=by
 intro pins s σ H Q I hw
 rw[evalPart_some]
 refine thn (h pins s σ H _ I hw) λu s1 ⟨x,H1,I1,r1,q1⟩=>?_
 obtain⟨i,rfl,q⟩:=q1
 obtain⟨t,rfl⟩:=r1
 exact⟨some i,H1,I1,.int i t,q⟩
def SlR(X:Cx)(r:V->Option Int->Option Int->Hp->VK->Prop):Prop:=
 ∀
  (pins:List (Addr×Obj)) (s:Shared) (σ:St) (H:Hp) (x:V) (v vl vu:Value) (lo hi:Option Int) (sl:Addr) (Q:VK),Inv X pins σ H s->RelV x v->s.heap.IsSliceOf sl vl vu .none->IsPart vl lo->IsPart vu hi->r x lo hi H Q->
  ∃T id,typeLookup (.type T) "__getitem__"=pure (some (.builtin id))/\s.TypeIs v T/\wpAny (model X.prog X.w) X.A (getItem v (.ref sl)) (EP X pins σ Q) X.xe s
def SlR.or{r r':V->Option Int->Option Int->Hp->VK->Prop}(h:SlR X r)(h':SlR X r'):SlR X (λx lo hi H Q=>r x lo hi H Q\/r' x lo hi H Q):=by
 intro pins s σ H x v vl vu lo hi sl Q I rx hs pl pu q
 rcases q with q |q
 ·exact h pins s σ H x v vl vu lo hi sl Q I rx hs pl pu q
 ·exact h' pins s σ H x v vl vu lo hi sl Q I rx hs pl pu q
def tSl(r:V->Option Int->Option Int->Hp->VK->Prop)(te:TE)(tl th:TO):TE:=λσ H Q=>te σ H λx H1=>tl σ H1 λl H2=>th σ H2 λu H3=>r x l u H3 Q
def Cu{r:V->Option Int->Option Int->Hp->VK->Prop}(hr:SlR X r)(he:PE X e te)(hl:PO X lo tl)(hu:PO X hi th):PE X (.Subscript e (.Slice lo hi none p2) pos) (tSl r te tl th):=by
 intro pins s σ H Q I h
 refine Subscript_ (thn (he pins s σ H _ I h) λv s1 ⟨x,H1,I1,r1,q1⟩=>?_)
 refine wpAny_Slice (thn (hl pins s1 σ H1 _ I1 q1) λvl s2 ⟨l,H2,I2,pl,q2⟩=>thn (hu pins s2 σ H2 _ I2 q2) λvu s3 ⟨u,H3,I3,pu,q3⟩=>?_)
 rw[evalPart_none]
 refine Om ?_
 have I4:Inv X pins σ H3 { s3 with heap:=s3.heap.push { cls:=.type "slice",data:=.fields #[vl,vu,.none] } }:=I3.kept (t':=s3.toks) λb ob q=>Og _ q
 obtain⟨T,id,hT,ht,hg⟩:=hr pins { s3 with heap:=s3.heap.push { cls:=.type "slice",data:=.fields #[vl,vu,.none] } } σ H3 x v vl vu l u s3.heap.objs.size Q I4 r1 (Heap.IsSliceOf.new ..) pl pu q3
 show wpAny (model X.prog X.w) X.A (subscriptTail e (.Slice lo hi none p2) v (.ref s3.heap.objs.size)) (EP X pins σ Q) X.xe { s3 with heap:=s3.heap.push { cls:=.type "slice",data:=.fields #[vl,vu,.none] } }
 exact tail_any (ops:=[.ref s3.heap.objs.size,v]) ht hT hg (by with_unfolding_all rfl)
def lO(xs:List V)(lo hi:Option Int):List V:=(xs.drop (HT.sIx xs.length 0 lo)).take (HT.sIx xs.length xs.length hi-HT.sIx xs.length 0 lo)
def mT(xs:List V)(lo hi:Option Int):(lO xs lo hi).length<=xs.length:=by
 unfold lO
 rw[Pn,Qc]
 omega
def rSlT(K:W.Frag):V->Option Int->Option Int->Hp->VK->Prop:=λx lo hi H Q=>∃a xs,x=.ref a/\SqT K H a xs/\
 ¬ (HT.sIx xs.length 0 lo=0/\HT.sIx xs.length xs.length hi=xs.length)/\∀p,H p=none->Q (.ref p) (upd H p (.tup (lO xs lo hi)))
def Hi:SlR X (rSlT X.K):=by
 intro pins s σ H x v vl vu lo hi sl Q I rx hs pl pu h
 obtain⟨a,xs,rfl,hx,hw,q⟩:=h
 cases rx
 obtain⟨its,r,ht,hz⟩:=I.tuple hx
 have be:its.toArray.size=xs.length:=by rw[Oj];exact r.length.symm
 refine⟨"tuple",_,PyProof.Rows.slot_tuple_getitem.lookup,ht.typeIs,?_⟩
 refine HT.getItem_tuple_cut ht hs pl pu (by rw[be];exact hw) ?_ (by rw[be];exact hz)
 rw[be]
 refine⟨.ref s.heap.objs.size,_,I.laid (t':=s.toks) (o:=.tup (lO xs lo hi)) (λb ob q=>Og _ q) (Oe _) ?_,rfl,q _ (I.hok.fresh (Oe _))⟩
 exact⟨Oy (mT xs lo hi) hz,_,(r.drop (HT.sIx xs.length 0 lo)).take (HT.sIx xs.length xs.length hi-HT.sIx xs.length 0 lo),IsTup.new _ _⟩
def ma(K:W.Frag):R2:=λx y H Q=>∃a b xs ys,x=.ref a/\y=.ref b/\SqT K H a xs/\SqT K H b ys/\xs≠[]/\xs.length+ys.length<=sizeLine/\
 (ys=[]->Q (.ref a) H)/\(ys≠[]->∀p,H p=none->Q (.ref p) (upd H p (.tup (xs++ys))))
def Vals.nil_iff{xs:List V}{us:List Value}(r:Vals xs us):us=[] ↔ xs=[]:=by
 cases r with
 |nil=>simp
 |cons _ _=>simp
def DQ:OpR X (binaryOp .Add) (ma X.K):=by
 intro pins s σ H x y v u Q I rx ry h
 obtain⟨a,b,xs,ys,rfl,rfl,ha,hb,hx,hz,q1,q2⟩:=h
 cases rx
 cases ry
 obtain⟨its,r1,p1,_⟩:=I.tuple ha
 obtain⟨its2,r2,p2,_⟩:=I.tuple hb
 refine HT.cat_tup p1 p2 (λz=>hx (r1.nil_iff.mp z)) (λz=>⟨.ref a,H,I,rfl,q1 (r2.nil_iff.mp z)⟩) (λz=>?_) (by rw[<- r1.length,<- r2.length];exact hz)
 refine⟨.ref s.heap.objs.size,_,I.laid (t':=s.toks) (o:=.tup (xs++ys)) (λb ob q=>Og _ q) (Oe _) ?_,rfl,q2 (λw=>z (r2.nil_iff.mpr w)) _ (I.hok.fresh (Oe _))⟩
 exact⟨by rw[Oa];exact hz,_,r1.append r2,IsTup.new _ _⟩
end
end L2
namespace L2
open PySem PySem.Spec PyProof.Rows
def ixN(n:Nat)(i:Int):Option Nat:=if 0<=i then (if i<n then some i.toNat else none) else if -(n:Int)<=i then some (i+n).toNat else none
def atI{α:Type}(xs:List α)(i:Int):Option α:=(ixN xs.length i).bind λj=>xs[j]?
def vx{n:Nat}{i:Int}{j:Nat}(h:ixN n i=some j):seqIndex? i n=some j/\j<n/\-(n:Int)<=i/\i<n:=by
 unfold ixN at h
 by_cases h0:0<=i
 ·rw[if_pos h0] at h
  by_cases h1:i<n
  ·rw[if_pos h1] at h
   have e:i.toNat=j:=Oz h
   exact⟨by rw[seqIndex_of h0 h1,e],by omega,by omega,h1⟩
  ·rw[if_neg h1] at h;cases h
 ·rw[if_neg h0] at h
  by_cases h1:-(n:Int)<=i
  ·rw[if_pos h1] at h
   have e:(i+n).toNat=j:=Oz h
   exact⟨by rw[seqIndex_neg (by omega) h1,e],by omega,h1,by omega⟩
  ·rw[if_neg h1] at h;cases h
def vv{α:Type}{xs:List α}{i:Int}{v:α}(h:atI xs i=some v):∃j,seqIndex? i xs.length=some j/\xs[j]?=some v/\j<xs.length/\-(xs.length:Int)<=i/\i<xs.length:=by
 unfold atI at h
 cases e:ixN xs.length i with
 |none=>rw[e] at h;cases h
 |
  some j=>
  rw[e] at h
  obtain⟨h1,h2,h3,h4⟩:=vx e
  exact⟨j,h1,h,h2,h3,h4⟩
def mI(b:Expr):Prop:=∀o i,subscripted b false o i=operate [o,i] (getItem o i)
def IxR(X:Cx)(r:R2):Prop:=
 ∀
  (value gl:Expr) (pins:List (Addr×Obj)) (s:Shared) (σ:St) (H:Hp) (x y:V) (v u:Value) (Q:VK),Inv X pins σ H s->RelV x v->RelV y u->r x y H Q->
  subscripted gl false v u=operate [v,u] (getItem v u)->wpAny (model X.prog X.w) X.A (subscriptTail value gl v u) (EP X pins σ Q) X.xe s
def MtR(X:Cx)(id:String)(r:V->List V->Hp->VK->Prop):Prop:=
 ∀
  (pins:List (Addr×Obj)) (s:Shared) (σ:St) (H:Hp) (x:V) (xs:List V) (v:Value) (us:List Value) (Q:VK),Inv X pins σ H s->RelV x v->Vals xs us->r x xs H Q->
  wpAny (model X.prog X.w) X.A (call (.builtin id) (v::us)) (EP X pins σ Q) X.xe s
section
variable{X:Cx}{a b:Expr}{ta tb:TE}{pos:Pos}
def IxR.or{r r':R2}(h:IxR X r)(h':IxR X r'):IxR X (λx y H Q=>r x y H Q\/r' x y H Q):=by
 intro value gl pins s σ H x y v u Q I rx ry q hs
 rcases q with q |q
 ·exact h value gl pins s σ H x y v u Q I rx ry q hs
 ·exact h' value gl pins s σ H x y v u Q I rx ry q hs
def KO{r:R2}(hr:IxR X r)(ha:PE X a ta)(hb:PE X b tb)(hs:mI b):PE X (.Subscript a b pos) (tOp r ta tb):=by
 intro pins s σ H Q I h
 exact Subscript_ (Cn ha hb I h λv u s2 x y H2 I2 rx ry q=>hr a b pins s2 σ H2 x y v u Q I2 rx ry q (hs _ _))
def xt(K:W.Frag):R2:=λx y H Q=>∃p xs i v,x=.ref p/\y=.int i/\SqL K H p xs/\atI xs i=some v/\Q v H
def xi(K:W.Frag):R2:=λx y H Q=>∃p xs i v,x=.ref p/\y=.int i/\SqT K H p xs/\atI xs i=some v/\Q v H
def Ej:IxR X (xt X.K):=by
 intro value gl pins s σ H x y v u Q I rx ry h hs
 obtain⟨p,xs,i,z,rfl,rfl,hq,he,q⟩:=h
 cases rx
 obtain⟨t,rfl⟩:=ry
 obtain⟨its,r,pl,hz⟩:=I.list hq
 obtain⟨j,h1,h2,h3,h4,h5⟩:=vv he
 obtain⟨w,ew,rw'⟩:=r.get h2
 have hl:=r.length
 have hn:=ko
 have fin:EP X pins σ Q w s:=⟨z,H,I,rw',q⟩
 by_cases h0:0<=i
 ·have hj:i.toNat=j:=by
   rw[seqIndex_of h0 h5] at h1
   exact Oz h1
  exact item_listR pl.isList h0 (by omega) (by rw[hj];simpa using ew) fin hs
 ·have hj:(i+(its.toArray.size:Int)).toNat=j:=by
   rw[seqIndex_neg (by omega) h4] at h1
   rw[Oj,<- hl]
   exact Oz h1
  exact subscriptTail_builtinR (x:=w) pl.isList.typeIs slot_list_getitem.lookup
   (wpAny_getItem_list_neg (Q:=λr s'=>r=w/\EP X pins σ Q r s') pl.isList (by omega) (by rw[Oj] <;> omega) (by omega) (by rw[hj];simpa using ew) ⟨rfl,fin⟩) hs
def FW:IxR X (xi X.K):=by
 intro value gl pins s σ H x y v u Q I rx ry h hs
 obtain⟨p,xs,i,z,rfl,rfl,hq,he,q⟩:=h
 cases rx
 obtain⟨t,rfl⟩:=ry
 obtain⟨its,r,pl,hz⟩:=I.tuple hq
 obtain⟨j,h1,h2,h3,h4,h5⟩:=vv he
 obtain⟨w,ew,rw'⟩:=r.get h2
 have hl:=r.length
 have hn:=ko
 have fin:EP X pins σ Q w s:=⟨z,H,I,rw',q⟩
 exact subscriptTail_builtinR (x:=w) pl.typeIs slot_tuple_getitem.lookup
  (getItem_tuple (j:=j) (Q:=λr s'=>r=w/\EP X pins σ Q r s') pl (by omega) (by omega) (by rw[Oj,<- hl];exact h1) (by simpa using ew) ⟨rfl,fin⟩) hs
def xB(its:List Value)(n j:Nat)(u:Value):Obj.mapSeq (·.setIfInBounds j u) { cls:=.type "list",data:=.seq its.toArray n }={ cls:=.type "list",data:=.seq (its.set j u).toArray n }:=by
 simp [Obj.mapSeq]
def Inv.lst{pins:List (Addr×Obj)}{σ:St}{H:Hp}{s:Shared}{p:Addr}{xs:List V}(I:Inv X pins σ H s)(h:H p=some (.lst xs)):
 ∃(its:List Value) (n:Nat),Vals xs its/\s.heap.get? p=some { cls:=.type "list",data:=.seq its.toArray n }/\xs.length<=sizeLine:=by
 obtain⟨z,its,n,r,e⟩:=I.hok p _ h
 exact⟨its,n,r,e,z⟩
def Inv.lstUpd{pins:List (Addr×Obj)}{σ:St}{H:Hp}{s:Shared}{p:Addr}{xs ys:List V}{its its':List Value}{n n':Nat}{f:Obj->Obj}(I:Inv X pins σ H s)(h:H p=some (.lst xs))
 (ho:s.heap.get? p=some { cls:=.type "list",data:=.seq its.toArray n }) (hf:f { cls:=.type "list",data:=.seq its.toArray n }={ cls:=.type "list",data:=.seq its'.toArray n' }) (r:Vals ys its') (hz:ys.length<=sizeLine) (t:Nat):
 Inv X pins σ (upd H p (.lst ys)) { s with heap:=s.heap.update p f,toks:=t }:=by
 have e:(s.heap.update p f).get? p=some { cls:=.type "list",data:=.seq its'.toArray n' }:=by
  rw[P6 f ho (by rw[hf] <;> rfl),hf]
 refine I.write (x:=p) (e:=p) (by rw[h];trivial) (.inl rfl) (λb u hb q=>(OT _ _ (Ne.symm hb)).trans q) ⟨_,e⟩ ?_
 exact⟨hz,its',n',r,e⟩
def xU:V->V->V->Hp->(Hp->Prop)->Prop:=λo i v H Q=>∃p xs k j,o=.ref p/\i=.int k/\H p=some (.lst xs)/\ixN xs.length k=some j/\Q (upd H p (.lst (xs.set j v)))
def m8:su X xU:=by
 intro pins s σ H o i v ov iv u Q I ro ri rv h
 obtain⟨p,xs,k,j,rfl,rfl,hp,hj,q⟩:=h
 cases ro
 obtain⟨t,rfl⟩:=ri
 obtain⟨its,n,r,ho,hz⟩:=I.lst hp
 obtain⟨h1,h2,h3,h4⟩:=vx hj
 have hl:=r.length
 have hn:=ko
 have I':Inv X pins σ (upd H p (.lst (xs.set j v))) { s with heap:=s.heap.update p (Obj.mapSeq (·.setIfInBounds j u)) }:=
  I.lstUpd hp ho (xB its n j u) (r.set rv j) (by rw[Oq];exact hz) s.toks
 by_cases h0:0<=k
 ·have hk:k.toNat=j:=by
   rw[seqIndex_of h0 h4] at h1
   exact Oz h1
  exact W.ki_setAt ho h0 (by omega) (by rw[Oj,<- hl];exact h4) (by rw[hk];exact⟨_,I',q⟩)
 ·have hk:(k+(its.toArray.size:Int)).toNat=j:=by
   rw[seqIndex_neg (by omega) h3] at h1
   rw[Oj,<- hl]
   exact Oz h1
  exact W.ki_setBack ho (by omega) (by rw[Oj,<- hl];exact h3) (by omega) (by rw[hk];exact⟨_,I',q⟩)
def sT(lo hi:Option Int)(n:Nat):(sliceBounds lo hi none n).1=((HT.sIx n 0 lo:Nat):Int)/\(sliceBounds lo hi none n).2.1=((HT.sIx n n hi:Nat):Int)/\(sliceBounds lo hi none n).2.2=1:=by
 refine⟨?_,?_,rfl⟩
 ·cases lo with
  |none=>simp [sliceBounds,HT.sIx]
  |
   some i=>
   simp only[sliceBounds,HT.sIx,Option.getD_none,show (1:Int)>0 by decide,Pw]
   by_cases h:i<0
   ·simp only[h,Pw] <;> omega
   ·simp only[h,PQ] <;> omega
 ·cases hi with
  |none=>simp [sliceBounds,HT.sIx]
  |
   some i=>
   simp only[sliceBounds,HT.sIx,Option.getD_none,show (1:Int)>0 by decide,Pw]
   by_cases h:i<0
   ·simp only[h,Pw] <;> omega
   ·simp only[h,PQ] <;> omega
def rC(its:List Value)(lo hi:Option Int):slicePick its.toArray lo hi none=((its.drop (HT.sIx its.length 0 lo)).take (HT.sIx its.length its.length hi-HT.sIx its.length 0 lo)).toArray:=by
 obtain⟨h1,h2,h3⟩:=sT lo hi its.toArray.size
 unfold slicePick
 rw[h1,h2,h3]
 simp only[sliceRange_one,pick_run,Oj] <;> rfl
def rSlL(K:W.Frag):V->Option Int->Option Int->Hp->VK->Prop:=λx lo hi H Q=>∃a xs,x=.ref a/\SqL K H a xs/\∀p,H p=none->Q (.ref p) (upd H p (.lst (lO xs lo hi)))
def Dk:SlR X (rSlL X.K):=by
 intro pins s σ H x v vl vu lo hi sl Q I rx hs pl pu h
 obtain⟨a,xs,rfl,hx,q⟩:=h
 cases rx
 obtain⟨its,r,ht,hz⟩:=I.list hx
 have be:=r.length
 refine⟨"list",_,slot_list_getitem.lookup,ht.isList.typeIs,?_⟩
 refine wpAny_getItem_list_slice ht.isList hs pl pu .none (by simp) ?_ (by rw[Oj] <;> omega)
 rw[rC,<- be]
 refine⟨.ref s.heap.objs.size,_,I.laid (t':=s.toks) (o:=.lst (lO xs lo hi)) (λb ob q=>Og _ q) (Oe _) ?_,rfl,q _ (I.hok.fresh (Oe _))⟩
 exact⟨Oy (mT xs lo hi) hz,_,0,(r.drop (HT.sIx xs.length 0 lo)).take (HT.sIx xs.length xs.length hi-HT.sIx xs.length 0 lo),Ou _ rfl⟩
def flatV:V->Bool
 |.non=>true
 |.bl _=>true
 |.int _=>true
 |.str _=>true
 |_=>false
def eqV:V->V->Bool
 |.non,.non=>true
 |.bl a,.bl b=>a==b
 |.bl a,.int b=>(if a then 1 else 0)==b
 |.int a,.bl b=>a==(if b then 1 else 0)
 |.int a,.int b=>a==b
 |.str a,.str b=>a==b
 |_,_=>false
def IP{A:Around}{s:Shared}{y x:V}{u v:Value}(ry:RelV y u)(rx:RelV x v)(fy:flatV y=true)(fx:flatV x=true):SeqAt.EqAt A s u v (eqV y x):=by
 cases y with
 |
  non=>
  cases ry
  cases x with
  |non=>cases rx;exact SeqAt.EqAt.same _
  |bl b=>cases rx;exact SeqAt.EqAt.none_bool b
  |int b=>obtain⟨t,rfl⟩:=rx;exact SeqAt.EqAt.none_int b t
  |str b=>obtain⟨t,rfl⟩:=rx;exact SeqAt.EqAt.none_str b t
  |_=>exact absurd (show false=true from fx) Oi
 |
  bl a=>
  cases ry
  cases x with
  |non=>cases rx;exact SeqAt.EqAt.bool_none a
  |bl b=>cases rx;exact SeqAt.EqAt.bool_bool a b
  |int b=>obtain⟨t,rfl⟩:=rx;exact SeqAt.EqAt.bool_int a b t
  |str b=>obtain⟨t,rfl⟩:=rx;exact SeqAt.EqAt.bool_str a b t
  |_=>exact absurd (show false=true from fx) Oi
 |
  int a=>
  obtain⟨t',rfl⟩:=ry
  cases x with
  |non=>cases rx;exact SeqAt.EqAt.int_none a t'
  |bl b=>cases rx;exact SeqAt.EqAt.int_bool a t' b
  |int b=>obtain⟨t,rfl⟩:=rx;exact SeqAt.EqAt.int_int a t' b t
  |str b=>obtain⟨t,rfl⟩:=rx;exact SeqAt.EqAt.int_str a t' b t
  |_=>exact absurd (show false=true from fx) Oi
 |
  str a=>
  obtain⟨t',rfl⟩:=ry
  cases x with
  |non=>cases rx;exact SeqAt.EqAt.str_none a t'
  |bl b=>cases rx;exact SeqAt.EqAt.str_bool a t' b
  |int b=>obtain⟨t,rfl⟩:=rx;exact SeqAt.EqAt.str_int a t' b t
  |str b=>obtain⟨t,rfl⟩:=rx;exact SeqAt.EqAt.str_str a t' b t
  |_=>exact absurd (show false=true from fx) Oi
 |_=>exact absurd (show false=true from fy) Oi
def eqU(x:V)(u:Value):Bool:=match u with
 |.none=>eqV .non x
 |.bool b=>eqV (.bl b) x
 |.int i _=>eqV (.int i) x
 |.str z _=>eqV (.str z) x
 |_=>false
def zr{x y:V}{u:Value}(r:RelV y u)(f:flatV y=true):eqU x u=eqV y x:=by
 cases y with
 |non=>cases r;rfl
 |bl b=>cases r;rfl
 |int i=>obtain⟨t,rfl⟩:=r;rfl
 |str z=>obtain⟨t,rfl⟩:=r;rfl
 |_=>exact absurd (show false=true from f) Oi
theorem pR{x:V}:∀{xs:List V}{us:List Value},Vals xs us->xs.all flatV=true->us.any (eqU x)=xs.any λy=>eqV y x
 |_,_,.nil,_=>rfl
 |
  y::xs,u::us,.cons r t,f=>by
  rw[PV,Ol] at f
  rw[Pg,Pg,zr r f.1,pR t f.2]
theorem nH{A:Around}{s:Shared}{x:V}{v:Value}(rx:RelV x v)(fx:flatV x=true):∀{xs:List V}{us:List Value},Vals xs us->xs.all flatV=true->∀u∈us,SeqAt.EqAt A s u v (eqU x u)
 |_,_,.nil,_=>λu hu=>by cases hu
 |
  y::xs,u::us,.cons r t,f=>λu' hu=>by
  rw[PV,Ol] at f
  rcases Ow.mp hu with rfl |hu
  ·rw[zr r f.1];exact IP r rx f.1 fx
  ·exact nH rx fx t f.2 u' hu
def inV(x:V)(xs:List V):Bool:=xs.any λy=>eqV y x
def rIn(K:W.Frag)(neg:Bool):R2:=λx y H Q=>∃p xs,y=.ref p/\(SqL K H p xs\/SqT K H p xs)/\flatV x=true/\xs.all flatV=true/\Q (.bl (if neg then !inV x xs else inV x xs)) H
def zm:OpR X (compareOp .In) (rIn X.K false):=by
 intro pins s σ H x y v u Q I rx ry h
 obtain⟨p,xs,rfl,hq,fx,fs,q⟩:=h
 cases ry
 rcases hq with hq |hq
 ·obtain⟨its,r,pl,hz⟩:=I.list hq
  refine SeqAt.in_listAt (eqU x) pl.isList (λw hw=>nH rx fx r fs w (by simpa using hw)) ⟨.bl _,H,I,rfl,?_⟩
  rw[show its.toArray.any (eqU x)=its.any (eqU x) by simp,pR r fs]
  exact q
 ·obtain⟨its,r,pl,hz⟩:=I.tuple hq
  refine SeqAt.in_tupleAt (eqU x) pl (λw hw=>nH rx fx r fs w (by simpa using hw)) ⟨.bl _,H,I,rfl,?_⟩
  rw[show its.toArray.any (eqU x)=its.any (eqU x) by simp,pR r fs]
  exact q
def ui:CallR X (.builtin "len") (λxs H Q=>∃p ys,xs=[.ref p]/\(SqL X.K H p ys\/SqT X.K H p ys)/\Q (.int ys.length) H):=by
 intro pins s σ H xs us Q I r h
 obtain⟨p,ys,rfl,hq,q⟩:=h
 obtain⟨u,rfl,rx⟩:=gX r
 cases rx
 have hn:=ko
 rcases hq with hq |hq
 ·obtain⟨its,r',pl,hz⟩:=I.list hq
  have be:=r'.length
  exact Calls.call_len_list pl.isList (by simp only[Oj] <;> omega) ⟨.int ys.length,H,I.tok _,⟨s.toks+1,by rw[Oj,be]⟩,q⟩
 ·obtain⟨its,r',pl,hz⟩:=I.tuple hq
  have be:=r'.length
  exact len_tuple pl (by simp only[Oj] <;> omega) ⟨.int ys.length,H,I.tok _,⟨s.toks+1,by rw[Oj,be]⟩,q⟩
def sX:CallR X (.builtin "len") (λxs H Q=>∃z,xs=[.str z]/\z.length<=sizeLine/\Q (.int z.length) H):=by
 intro pins s σ H xs us Q I r h
 obtain⟨z,rfl,hz,q⟩:=h
 obtain⟨u,rfl,t,rfl⟩:=gX r
 have hn:=ko
 exact len_str (by omega) ⟨.int z.length,H,I.tok _,⟨_,rfl⟩,q⟩
def CallR.or{f:Value}{r r':List V->Hp->VK->Prop}(h:CallR X f r)(h':CallR X f r'):CallR X f (λxs H Q=>r xs H Q\/r' xs H Q):=by
 intro pins s σ H xs us Q I rs q
 rcases q with q |q
 ·exact h pins s σ H xs us Q I rs q
 ·exact h' pins s σ H xs us Q I rs q
def se:CallR X (.type "list") (λxs H Q=>∃p ys,xs=[.ref p]/\(SqL X.K H p ys\/SqT X.K H p ys)/\∀l,H l=none->Q (.ref l) (upd H l (.lst ys))):=by
 intro pins s σ H xs us Q I r h
 obtain⟨p,ys,rfl,hq,q⟩:=h
 obtain⟨u,rfl,rx⟩:=gX r
 cases rx
 have fin:∀(its:List Value),Vals ys its->ys.length<=sizeLine->∀(h':Heap) (c':Nat),(∀b o',s.heap.get? b=some o'->h'.get? b=some o')->
  h'.get? s.heap.objs.size=some { cls:=.type "list",dict:=none,data:=.seq its.toArray c',slots:=#[] }->EP X pins σ Q (.ref s.heap.objs.size) { s with heap:=h' }:=λits r' hz h' c' kp e=>
  ⟨.ref s.heap.objs.size,_,I.laid (t':=s.toks) kp (Oe _) (show ObjOk X.prog X.w _ h' _ (.lst ys) from ⟨hz,its,c',r',e⟩),rfl,q _ (I.hok.fresh (Oe _))⟩
 rcases hq with hq |hq
 ·obtain⟨its,r',pl,hz⟩:=I.list hq
  have be:=r'.length
  obtain⟨o,ho,hc,n,hd⟩:=pl.isList
  exact call_list_seq p (.inl rfl) ho hc hd (λh' c' kp e=>fin its r' hz h' c' kp e) (by simp only[Oj] <;> omega)
 ·obtain⟨its,r',pl,hz⟩:=I.tuple hq
  have be:=r'.length
  obtain⟨o,ho,hc,n,hd⟩:=pl
  exact call_list_seq p (.inr rfl) ho hc hd (λh' c' kp e=>fin its r' hz h' c' kp e) (by simp only[Oj] <;> omega)
def rK:CallR X (.type "tuple") (λxs H Q=>∃p ys,xs=[.ref p]/\((SqL X.K H p ys/\∀l,H l=none->Q (.ref l) (upd H l (.tup ys)))\/(SqT X.K H p ys/\Q (.ref p) H))):=by
 intro pins s σ H xs us Q I r h
 obtain⟨p,ys,rfl,h⟩:=h
 obtain⟨u,rfl,rx⟩:=gX r
 cases rx
 rcases h with ⟨hq,q⟩ |⟨hq,q⟩
 ·obtain⟨its,r',pl,hz⟩:=I.list hq
  have be:=r'.length
  refine call_tuple_list pl.isList (λh' kp=>?_) (by simp only[Oj] <;> omega)
  have I1:Inv X pins σ H { s with heap:=h' }:=I.kept (t':=s.toks) kp
  have I2:Inv X pins σ (upd H h'.objs.size (.tup ys)) { s with heap:=h'.push { cls:=.type "tuple",data:=.seq its.toArray } }:=
   I1.laid (t':=s.toks) (λb o e=>Og _ e) (Oe _) (show ObjOk X.prog X.w _ _ _ (.tup ys) from ⟨hz,its,r',IsTup.new _ _⟩)
  exact⟨.ref h'.objs.size,_,I2,rfl,q _ (I1.hok.fresh (Oe _))⟩
 ·obtain⟨its,r',pl,hz⟩:=I.tuple hq
  exact call_tuple_same pl ⟨.ref p,H,I,rfl,q⟩
def tyV(K:W.Frag)(T:String)(x:V)(H:Hp):Prop:=match x with
 |.str _=>T="str"
 |.int _=>T="int"
 |.ref p=>(T="list" /\ ∃xs,SqL K H p xs)\/(T="tuple" /\ ∃o,K.lookup p=some o/\o.cls=.type "tuple" /\ o.dict=none)\/
  (T="dict" /\ ((∃kvs,H p=some (.dK kvs))\/∃kvs,H p=some (.dT kvs)))\/(T="set" /\ ∃S n,H p=some (.set S n))
 |_=>False
def zk{pins:List (Addr×Obj)}{σ:St}{H:Hp}{s:Shared}{T:String}{x:V}{v:Value}(I:Inv X pins σ H s)(r:RelV x v)(ty:tyV X.K T x H):
 s.TypeIs v T/\∀a,v=.ref a->∃ob,s.heap.get? a=some ob/\ob.dict=none:=by
 cases x with
 |
  str z=>
  obtain⟨t,rfl⟩:=r
  cases (show T="str" from ty)
  exact⟨typeIs_str s z t,λ_ e=>nomatch e⟩
 |
  int i=>
  obtain⟨t,rfl⟩:=r
  cases (show T="int" from ty)
  exact⟨typeIs_int s i t,λ_ e=>nomatch e⟩
 |
  ref p=>
  cases r
  rcases ty with ⟨rfl,xs,hq⟩ |⟨rfl,o,hk,hc,hd⟩ |⟨rfl,hk⟩ |⟨rfl,S,n,hk⟩
  ·obtain⟨its,_,pl,_⟩:=I.list hq
   refine⟨pl.isList.typeIs,λa e=>?_⟩
   cases e
   obtain⟨o,n,e,c,hd,_⟩:=pl
   exact⟨o,e,hd⟩
  ·refine⟨⟨o,I.kIn p o hk,hc⟩,λa e=>?_⟩
   cases e
   exact⟨o,I.kIn _ o hk,hd⟩
  ·have z:∃o,s.heap.get? p=some o/\o.ExactDict:=by
    rcases hk with ⟨kvs,hk⟩ |⟨kvs,hk⟩
    ·obtain⟨_,_,_,_,o,_,_,e,ex,_⟩:=I.hok p _ hk
     exact⟨o,e,ex⟩
    ·obtain⟨_,_,_,_,o,_,_,e,ex,_⟩:=I.hok p _ hk
     exact⟨o,e,ex⟩
   obtain⟨o,e,ex⟩:=z
   refine⟨⟨o,e,ex.1⟩,λa e2=>?_⟩
   cases e2
   exact⟨o,e,ex.2.1⟩
  ·obtain⟨o,_,_,_,e,ex,_⟩:=I.hok p _ hk
   refine⟨⟨o,e,ex.1⟩,λa e2=>?_⟩
   cases e2
   exact⟨o,e,ex.2.1⟩
 |_=>exact False.elim ty
def tBM0(K:W.Frag)(T:String)(r:V->List V->Hp->VK->Prop)(to:TE):TE:=λσ H Q=>to σ H λx H1=>tyV K T x H1/\r x [] H1 Q
def tBM(K:W.Frag)(T:String)(r:V->List V->Hp->VK->Prop)(to:TE)(t:TA):TE:=λσ H Q=>to σ H λx H1=>tyV K T x H1/\t σ H1 λxs H2=>r x xs H2 Q
variable{o e:Expr}{es:List Expr}{to:TE}{t:TA}{name:Str}{apos cpos:Pos}{T id:String}{r:V->List V->Hp->VK->Prop}
def IT(pa:PlainAttrs T)(slot:Slot T name id)(hty:typeOf (.builtin id)=pure (.type "method_descriptor"))(hm:MtR X id r)(ho:PE X o to)
 (db:attributeBase o name X.env (eval o X.env)=eval o X.env:=by rfl) (dL:(apos.endLine==cpos.line)=true:=by rfl):PE X (.Call (.Attribute o name apos) [] [] cpos) (tBM0 X.K T r to):=by
 intro pins s σ H Q I h
 refine wpAny_Call_method0_late db dL (thn (ho pins s σ H _ I h) λv s1 ⟨x,H1,I1,r1,ty,q1⟩=>?_)
 obtain⟨h1,h2⟩:=zk I1 r1 ty
 exact⟨T,id,pa,slot,hty,h1,h2,Calls.callWith_builtin rfl (PySem.evalArgs_none (hm pins s1 σ H1 x [] v [] Q I1 r1 .nil q1))⟩
def CW(pa:PlainAttrs T)(slot:Slot T name id)(hty:typeOf (.builtin id)=pure (.type "method_descriptor"))(hm:MtR X id r)(ho:PE X o to)(ha:PA X (e::es) t)
 (db:attributeBase o name X.env (eval o X.env)=eval o X.env:=by rfl)
 (hfew:((backTo cpos (starEach (e::es) X.env)).all (λx=>!x.1)&&(backToKw cpos (keywordEach [] X.env)).all (λx=>x.1.isSome)
  && decide ((e::es).length+([]:List Keyword).length+(if ([]:List Keyword).isEmpty then 0 else 1)<30))=true:=by rfl)
 (dL:(apos.endLine==cpos.line)=true:=by rfl) (hs:starEach (e::es) X.env=(false,eval e X.env)::starEach es X.env:=by rfl) (bi:(backTo cpos (starEach es X.env)).any (·.1)=false:=by rfl):
 PE X (.Call (.Attribute o name apos) (e::es) [] cpos) (tBM X.K T r to t):=by
 intro pins s σ H Q I h
 refine wpAny_Call_method_late db hfew dL rfl (thn (ho pins s σ H _ I h) λv s1 ⟨x,H1,I1,r1,ty,q1⟩=>?_)
 obtain⟨h1,h2⟩:=zk I1 r1 ty
 refine⟨T,id,pa,slot,hty,h1,h2,?_⟩
 have hA:=ha cpos pins s1 σ H1 _ I1 q1
 rw[hs] at hA ⊢
 refine Calls.callWith_builtin (by show (false || (backTo cpos (starEach es X.env)).any (·.1))=false;rw[bi] <;> rfl) (Calls.evalArgs_plain ?_)
 exact thn hA λus s2 ⟨vs,H2,I2,r2,q2⟩=>hm pins s2 σ H2 x vs v us Q I2 r1 r2 q2
end
end L2
namespace L2
open PySem PySem.Spec PyProof.Rows
def MtM(X:Cx)(id:String)(r:V->List V->Hp->VK->Prop):Prop:=
 ∀
  (pins:List (Addr×Obj)) (s:Shared) (σ:St) (H:Hp) (x:V) (xs:List V) (v:Value) (us:List Value) (Q:VK),Inv X pins σ H s->RelV x v->Vals xs us->r x xs H Q->
  wpAny (model X.prog X.w) X.A (call (.builtin id) (v::us)) (EP X pins σ Q) X.xe s
def Vals.one{x:V}{us:List Value}(r:Vals [x] us):∃u,us=[u]/\RelV x u:=by
 cases r with
 |cons r t=>cases t;exact⟨_,rfl,r⟩
theorem Vals.zero:∀{us:List Value},Vals [] us->us=[]
 |_,.nil=>rfl
def Vals.dropLast{xs:List V}{us:List Value}(h:Vals xs us):Vals xs.dropLast us.dropLast:=by
 induction h with
 |nil=>exact .nil
 |
  cons r t ih=>
  cases t with
  |nil=>exact .nil
  |cons q t'=>exact .cons r ih
def wR{α:Type}(l:List α):l.eraseIdx (l.length-1)=l.dropLast:=by
 induction l with
 |nil=>rfl
 |
  cons a r ih=>
  cases r with
  |nil=>rfl
  |
   cons b r=>
   have e:(a::b::r).length-1=((b::r).length-1)+1:=by
    have h1:(a::b::r).length=r.length+2:=rfl
    have h2:(b::r).length=r.length+1:=rfl
    omega
   rw[e,List.eraseIdx_cons_succ,ih]
   all_goals rfl
section
variable{X:Cx}{pins:List (Addr×Obj)}{σ:St}{H:Hp}{s:Shared}{l b:Addr}{xs ys zs:List V}
def Inv.lset{its its':List Value}{n:Nat}{f:Array Value->Array Value}{t':Nat}(I:Inv X pins σ H s)(hH:H l=some (.lst xs))
 (e:s.heap.get? l=some { cls:=.type "list",data:=.seq its.toArray n }) (hf:f its.toArray=its'.toArray) (hv:Vals ys its') (hz:ys.length<=sizeLine):
 Inv X pins σ (upd H l (.lst ys)) { s with heap:=s.heap.update l (Obj.mapSeq f),toks:=t' }:=by
 have q:=PySem.IsL.update e f
 rw[hf] at q
 refine I.write (x:=l) (e:=l) (by rw[hH];exact trivial) (.inl rfl) (λb' u hb hu=>(OT s.heap (Obj.mapSeq f) (Ne.symm hb)).trans hu) ⟨_,q⟩ ?_
 exact⟨hz,its',_,hv,q⟩
def Inv.lnew{its:List Value}{t':Nat}(I:Inv X pins σ H s)(hv:Vals ys its)(hz:ys.length<=sizeLine):
 Inv X pins σ (upd H s.heap.objs.size (.lst ys)) { s with heap:=s.heap.push { cls:=.type "list",data:=.seq its.toArray },toks:=t' }:=
 I.laid (λ_ _ q=>Og _ q) (Oe _) ⟨hz,its,0,hv,Ou _ rfl⟩
def Inv.fresh(I:Inv X pins σ H s):H s.heap.objs.size=none:=I.hok.fresh (Oe _)
def Inv.lstM(I:Inv X pins σ H s)(hH:H l=some (.lst xs)):xs.length<=sizeLine/\∃(its:List Value) (n:Nat),Vals xs its/\xs.length=its.length/\s.heap.get? l=some { cls:=.type "list",data:=.seq its.toArray n }:=by
 obtain⟨z,its,n,r,e⟩:=I.hok l _ hH
 exact⟨z,its,n,r,r.length,e⟩
def Cv{n:Nat}(h:n<=sizeLine):Builtin.List.listTooLong n=false:=by
 unfold Builtin.List.listTooLong
 exact OA (by omega)
end
section
variable{X:Cx}
def pw:V->List V->Hp->VK->Prop:=λx vs H Q=>∃l xs y,x=.ref l/\vs=[y]/\H l=some (.lst xs)/\xs.length<sizeLine/\Q .non (upd H l (.lst (xs++[y])))
def fS:MtM X "list.append" pw:=by
 intro pins s σ H x vs v us Q I rx rv h
 obtain⟨l,xs,y,rfl,rfl,hH,hz,q⟩:=h
 cases rx
 obtain⟨u,rfl,ru⟩:=rv.one
 obtain⟨z,its,n,r,hl,e⟩:=I.lstM hH
 refine Qr F.slot_list_append ⟨_,e,rfl⟩ QR (QF _ _) (PySem.list_append l its.toArray n u (by rw[Oj];omega)) ⟨e,?_⟩
 refine⟨.non,_,I.lset (its':=its++[u]) hH e (by simp) (r.append (.cons ru .nil)) ?_,rfl,q⟩
 rw[Oa,List.length_singleton]
 omega
def Ck:V->List V->Hp->VK->Prop:=λx vs H Q=>∃l xs y,x=.ref l/\vs=[]/\H l=some (.lst xs)/\xs[xs.length-1]?=some y/\Q y (upd H l (.lst xs.dropLast))
def zI:MtM X "list.pop" Ck:=by
 intro pins s σ H x vs v us Q I rx rv h
 obtain⟨l,xs,y,rfl,rfl,hH,hy,q⟩:=h
 cases rx
 have hus:=rv.zero
 subst hus
 obtain⟨z,its,n,r,hl,e⟩:=I.lstM hH
 obtain⟨u,hu,ru⟩:=r.get hy
 have hy':its.toArray[its.toArray.size-1]?=some u:=by
  show its.toArray[its.length-1]?=some u
  rw[<- Array.getElem?_toList,<- hl]
  exact hu
 refine Qr F.slot_list_pop ⟨_,e,rfl⟩ F.entry_list_pop (F.args_list_pop_1 _) (MeetsSeq.list_pop_last l its.toArray n u hy' (by rw[Oj];omega)) ⟨e,?_⟩
 refine⟨y,_,I.lset (its':=its.dropLast) hH e ?_ r.dropLast ?_,ru,q⟩
 ·show its.toArray.eraseIdxIfInBounds (its.toArray.size-1)=its.dropLast.toArray
  rw[Oj,List.eraseIdxIfInBounds_toArray,wR]
 ·rw[List.length_dropLast]
  omega
def sJ:V->List V->Hp->VK->Prop:=λx vs H Q=>∃l xs,x=.ref l/\vs=[]/\H l=some (.lst xs)/\Q .non (upd H l (.lst []))
def AI:MtM X "list.clear" sJ:=by
 intro pins s σ H x vs v us Q I rx rv h
 obtain⟨l,xs,rfl,rfl,hH,q⟩:=h
 cases rx
 have hus:=rv.zero
 subst hus
 obtain⟨z,its,n,r,hl,e⟩:=I.lstM hH
 refine Qr F.slot_list_clear ⟨_,e,rfl⟩ F.entry_list_clear (F.args_list_clear_1 _) (AutoSeq1.list_clear_list_0 l its.toArray n (by rw[Oj];omega)) ⟨e,?_⟩
 exact⟨.non,_,I.lset (its':=[]) (ys:=[]) hH e rfl .nil (OK _),rfl,q⟩
def qc:R2:=λx y H Q=>∃l b xs zs,x=.ref l/\y=.ref b/\H l=some (.lst xs)/\H b=some (.lst zs)/\xs.length+zs.length<=sizeLine/\∀p,H p=none->Q (.ref p) (upd H p (.lst (xs++zs)))
def HK:OpR X (binaryOp .Add) qc:=by
 intro pins s σ H x y v u Q I rx ry h
 obtain⟨l,b,xs,zs,rfl,rfl,hH,hB,hz,q⟩:=h
 cases rx
 cases ry
 obtain⟨z,its,n,r,hl,e⟩:=I.lstM hH
 obtain⟨z2,its2,n2,r2,hl2,e2⟩:=I.lstM hB
 refine PySem.P.add_list e e2 ?_ (by rw[Oj,Oj];omega)
 have ea:its.toArray++its2.toArray=(its++its2).toArray:=by simp
 rw[ea]
 exact⟨.ref _,_,I.lnew (t':=s.toks) (r.append r2) (by rw[Oa];omega),rfl,q _ I.fresh⟩
end
section
variable{prog:Program}{w:World}{A:Around}{E:Value->Shared->Prop}{s:Shared}
set_option maxRecDepth 100000 in
end
section
variable{X:Cx}
end
end L2
namespace Att
open PySem PySem.W PySem.Calls PyProof.Rows
def oT{P:Params}{h:Heap}:∀(ns:List Int) (vs:List Value),WellAll P h vs (ns.map WData.int)->IntsAre vs ns:=by
 intro ns
 induction ns with
 |
  nil=>
  intro vs w
  rw[OJ] at w
  cases w
  exact .nil
 |
  cons n ns ih=>
  intro vs w
  rw[Of] at w
  cases w with
  |
   cons a b=>
   cases a
   exact .cons _ _ (ih _ b)
def yz{l:OpenLaw}{n:Nat}(hn:l.most=some n){P:Params}{h:Heap}{args:List WData}{vals:List Value}
 (hpre:l.row.toRowW.claim.pre args=true) (hwl:WellAll P h vals args):
 ∃a vs ns,vals=[Value.ref a]/\args=[WData.list (ns.map WData.int)]/\h.get? a=some { cls:=.type "list",data:=.seq vs.toArray }/\IntsAre vs ns/\ns.length<=n:=by
 have hsh:WShape.hasAll [] args [.list .int]=true:=(pre_splitW hpre).1
 have hc:l.pre.holds [] { args:=args }=true:=(pre_splitW hpre).2
 obtain⟨d,r,rfl,h1,h2⟩:=hasAllW_cons hsh
 obtain rfl:=hasAllW_nil h2
 obtain⟨xs,rfl,h3⟩:=hasW_list h1
 obtain⟨ns,rfl⟩:=items_int h3
 have be:ns.length<=n:=by
  unfold OpenLaw.pre at hc
  have h4:(WTm.not (.lt (.lit (.int (n:Int))) (.len (.arg 0)))).holds [] { args:=[.list (ns.map .int)] }=true:=by
   have h4:=(holds_andW hc).1
   rw[hn] at h4
   exact h4
  have h5:=condW_of h4 (w_not (w_lt w_lit (w_len_list (w_arg rfl))))
  rw[N8] at h5
  refine Nat.le_of_not_lt λq=>?_
  have q':(n:Int)<((ns.length:Nat):Int):=by omega
  first
   |(rw[OH q'] at h5;exact absurd h5 (by decide))
   |(simp at h5;omega)
 cases hwl with
 |
  cons w1 w2=>
  cases w2
  cases w1 with
  |list ho hall=>exact⟨_,_,ns,rfl,rfl,ho,oT ns _ hall,be⟩
def zW(l:OpenLaw)(args:List WData):l.row.toRowW.claim.post args (.bool true) args=true:=
 postW_of (r:=l.row.toRowW) (X:=(true==true))
  (show WShape.has [] (.bool true) .bool=true by first |rfl |decide |simp [WShape.has,WShape.arms,WShape.armsAll])
  (show (WTm.eq .res (.lit (.bool true))).value [] { args:=args,res:=some (.bool true),after:=args }=some (.bool (true==true)) from w_eq_bool (w_res rfl) w_lit) rfl
def attach_call{l:OpenLaw}{n:Nat}{q:Program}{loose:List Str}{XP:(Str->Option Value)->Heap->Prop}{YP:World->Heap->Prop}{d:DefRec}
 (hn:l.most=some n) (hdf:d.params.defaults=[])
 (call:∀(w:World) (s₀ s₁:Shared) (mg mb:Str->Option Value) (fa:Addr) (o:Obj) (pm cd doc:Value) (a:Addr) (vs:List Value) (ns:List Int),
  Ground q loose [] XP w s₀ mg mb s₁.heap->YP w s₁.heap->
  s₁.heap.get? fa=some o->o.data=.func (docDef d.name d.params d.body d.scope pm cd doc)->s₁.heap.CodeRec cd d.name->mg d.name=some (.ref fa)->
  s₁.heap.get? a=some { cls:=.type "list",data:=.seq vs.toArray }->IntsAre vs ns->ns.length<=n->s₁.gens=#[]->
  codeAny (model l.prog w) callerA (.call (.ref fa) ⟨[.ref a],[]⟩) (λr s'=>r=.ok (.ret (.bool true))/\OldK s₁.heap s'.heap/\s'.os=s₁.os/\AllBare s'.gens) s₁):
 WalkO q loose XP YP l.row.toRowW d [] (λf vs=>PySem.call f vs):=by
 intro w s₀ s₁ mg mb G Y fa o pm cd doc dV kV ho hd hcd hD hmg hg args vals as hpre hlay hrd hwl hlo
 obtain rfl:dV=.none:=Dflts.none hD hdf
 obtain rfl:kV=.none:=Dflts.noKw hD
 obtain⟨a,vs,ns,rfl,rfl,hobj,hints,be⟩:=yz hn hpre hwl
 refine enter_call (codeAny_mono (call w s₀ s₁ mg mb fa o pm cd doc a vs ns G Y ho (fd_plain hd) hcd hmg hobj hints be hg) λr s' hq=>?_)
 obtain⟨rfl,h2,h3,h4⟩:=hq
 exact⟨.inl ⟨.bool true,.bool true,[],rfl,λ_=>rfl,.bool true,zW l _,λ_=>⟨List.Pairwise.nil,λ_ hm=>(nomatch hm)⟩⟩,h2,h3,h4⟩
section
variable{prog:Program}{w:World}{A:Around}{E:Value->Shared->Prop}{s:Shared}{K:Frag}
def ledger(h:Heap)(L d:Addr):List (Addr×Obj):=(List.range h.objs.size).filterMap λa=>if a=L\/a=d then none else (h.get? a).map λo=>(a,o)
end
end Att
namespace L2
open PySem PySem.Spec PyProof.Rows
theorem rb:∀{vs:List Value}{ns:List Int},IntsAre vs ns->Vals (ns.map V.int) vs
 |_,_,.nil=>.nil
 |_,_,.cons n t h=>.cons ⟨t,rfl⟩ (rb h)
def pA(H:Hp):Prop:=∀b,H b=none\/∃o xs,H b=some (.frz o (.lst xs))
def BM{P:Program}{w:World}{K:W.Frag}{mg mb:Str->Option Value}{CX:CXT}{k:Nat}{fa a:Addr}{fd:FuncData}{x:Str}{sp:Sp}{s₁:Shared}{vs:List Value}{ns:List Int}
 (KX:K.In s₁.heap) (hns:s₁.heap.Ns mainGlobals mg) (hb:s₁.heap.Ns builtinsNs mb) (hbb:∀x:Str,x ≠ "__name__"->mb x=bootBuiltins x) (hlim:s₁.heap.NoLimit) (hg:s₁.gens=#[])
 (ha:s₁.heap.get? a=some { cls:=.type "list",data:=.seq vs.toArray }) (hi:IntsAre vs ns) (hl:ns.length<=sizeLine) (hr:Room k callerA)
 (F:∀base:Heap,K.In base->base.Ns mainGlobals mg->FnOk P w K mg base CX k fa fd [x] sp) (hbind:∀(s:Shared) (u:Value),BindsTo s fd ⟨[u],[]⟩ [(x,u)])
 (hsp:∀H:Hp,pA H->SqL K H a (ns.map V.int)->sp [.ref a] H (λv _=>v=.bl true) λ_ _ _=>False)
 (hCX:∀H e s',CX [] H s₁ (λ_ _ _=>False) e s'->False):
 codeAny (model P w) callerA (.call (.ref fa) ⟨[.ref a],[]⟩) (λr s'=>r=.ok (.ret (.bool true))/\OldK s₁.heap s'.heap/\s'.os=s₁.os/\AllBare s'.gens) s₁:=by
 have rv:=rb hi
 have lenV:=hi.length
 have core
  : ∀H:Hp,pA H->SqL K H a (ns.map V.int)->HOk P w H s₁.heap->(∀b,H b≠none->b=a)->(H a≠none->K.lookup a=none)->
  codeAny (model P w) callerA (.call (.ref fa) ⟨[.ref a],[]⟩) (λr s'=>r=.ok (.ret (.bool true))/\OldK s₁.heap s'.heap/\s'.os=s₁.os/\AllBare s'.gens) s₁:=by
  intro H hO hS hok hA hK
  have base_of:∀{b:Addr}{o:Obj},s₁.heap.get? b=some o->H b=none->(lu s₁.heap H).get? b=some o:=λe n=>Ai e n
  have noA:∀{b:Addr}{o:Obj}{es:Array DictEntry}{ep:Nat},s₁.heap.get? b=some o->o.data=.dict es ep->H b=none:=λ{b o es ep} e d=>by
   cases q:H b with
   |none=>rfl
   |
    some u=>
    have e':b=a:=hA b (by rw[q];simp)
    subst e'
    rw[ha] at e;cases e
    have d':Data.seq vs.toArray _=Data.dict es ep:=d
    cases d'
  have nsK:∀{b:Addr}{m:Str->Option Value},s₁.heap.Ns b m->(lu s₁.heap H).Ns b m:=λ{b m} ⟨o,es,ep,e,d,r⟩=>⟨o,es,ep,base_of e (noA e d),d,r⟩
  have hKb:K.In (lu s₁.heap H):=λb o e=>base_of (KX b o e) (by
   cases q:H b with
   |none=>rfl
   |
    some u=>
    have e':b=a:=hA b (by rw[q];simp)
    subst e'
    rw[hK (by rw[q];simp)] at e;cases e)
  have hM:Mod K mg (lu s₁.heap H):=⟨hKb,nsK hns,⟨mb,nsK hb,hbb⟩,let ⟨mc,h1,h2⟩:=hlim;⟨mc,nsK h1,h2⟩⟩
  have e0:Env0 P w K mg (lu s₁.heap H) callerA [] s₁ H:=⟨rfl,hM,λb o e=>D9 e,Nat.le_of_eq (yD _ _),trivial,λb hb=>absurd (show b∈([]:List Addr) from hb) (by simp),hok,.of_eq hg⟩
  refine codeAny_mono ((F _ hKb (nsK hns)).run callerA [] s₁ H ⟨[.ref a],[]⟩ [.ref a] [.ref a] _ _ hr e0 (hbind s₁ (.ref a)) (.cons rfl .nil) (hsp H hO hS)) λr s' h=>?_
  cases r with
  |error e=>exact (hCX H e s' h).elim
  |
   ok fl=>
   cases fl with
   |next=>exact False.elim h
   |brk=>exact False.elim h
   |cont=>exact False.elim h
   |
    ret u=>
    obtain⟨v,H',os,bare,un,hok',r',q⟩:=h
    have q':v=.bl true:=q
    subst q'
    obtain rfl:u=Value.bool true:=r'
    refine⟨rfl,OldK.of_keep λb o e=>?_,os,bare⟩
    cases q:H b with
    |none=>exact un.keep b o e q (by intro z;exact absurd (show b∈([]:List Addr) from z) (by simp)) (by simp)
    |
     some u=>
     rcases hO b with z |⟨ob,xs,z⟩
     ·rw[q] at z;cases z
     ·have z2:=un.frzs b ob _ z
      obtain⟨e1,_⟩:=hok b _ z
      obtain⟨e2,_⟩:=hok' b _ z2
      rw[e] at e1;cases e1
      exact e2
 cases hk:K.lookup a with
 |
  some o=>
  have e:=KX a o hk
  rw[ha] at e
  cases e
  refine core (λ_=>none) (λ_=>.inl rfl) (.inr ⟨_,vs.toArray,_,hk,rfl,rfl,rfl,by rw[Oj,lenV];exact hl,by simpa using rv⟩) (λb u z=>by have z':(none:Option HO)=some u:=z;cases z') (λb z=>absurd rfl z) λz=>absurd rfl z
 |
  none=>
  refine core (λb=>if b=a then some (.frz { cls:=.type "list",data:=.seq vs.toArray } (.lst (ns.map V.int))) else none) (λb=>?_) (.inl (.inr ⟨{ cls:=.type "list",data:=.seq vs.toArray },if_pos rfl⟩)) (λb u z=>?_) (λb z=>?_) λ_=>hk
  ·by_cases hb:b=a
   ·exact .inr ⟨_,_,if_pos hb⟩
   ·exact .inl (if_neg hb)
  ·by_cases hb:b=a
   ·have z':=(if_pos hb).symm.trans z
    cases z'
    subst hb
    exact⟨ha,by rw[N8];exact hl,vs,_,rv,ha⟩
   ·have z':=(if_neg hb).symm.trans z
    cases z'
  ·by_cases hb:b=a
   ·exact hb
   ·exact absurd (if_neg hb) z
end L2
namespace L2
open PySem PySem.Spec PyProof.Rows
abbrev KOf{K:W.Frag}{h:Heap}(_:K.In h):W.Frag:=K
def walk_of{l:W.OpenLaw}{n k:Nat}{q:Program}{loose:List Str}{XP:(Str->Option Value)->Heap->Prop}{YP:World->Heap->Prop}{d:DefRec}{K:Params->W.Frag}{CX:World->CXT}{sp:World->Sp}{x:Str}
 (hn:l.most=some n) (hn2:n<=sizeLine) (hdf:d.params.defaults=[]) (hr:Room k callerA)
 (hY:∀(w:World) (h:Heap),YP w h->(K w.params).In h)
 (F:∀(w:World) (mg:Str->Option Value) (fa:Addr) (h:Heap),(K w.params).In h->h.Ns mainGlobals mg->mg d.name=some (.ref fa)->
  ∃
   fd:FuncData,(∀(s:Shared) (u:Value),BindsTo s fd ⟨[u],[]⟩ [(x,u)])/\
   ∀base:Heap,(K w.params).In base->base.Ns mainGlobals mg->FnOk l.prog w (K w.params) mg base (CX w) k fa fd [x] (sp w))
 (hsp:∀(w:World) (H:Hp) (a:Addr) (ns:List Int),ns.length<=n->pA H->SqL (K w.params) H a (ns.map V.int)->sp w [.ref a] H (λv _=>v=.bl true) λ_ _ _=>False)
 (hCX:∀(w:World) (H:Hp) (s:Shared) (e:Value) (s':Shared),CX w [] H s (λ_ _ _=>False) e s'->False):
 W.WalkO q loose XP YP l.row.toRowW d [] (λf vs=>PySem.call f vs):=by
 refine Att.attach_call hn hdf λw s₀ s₁ mg mb fa o pm cd doc a vs ns G Y ho hd hcd hmg hobj hints be hg=>?_
 have KX:=hY w _ Y
 obtain⟨fd,hb,hF⟩:=F w mg fa _ KX G.T.g hmg
 exact BM KX G.T.g G.T.b G.T.builtins G.T.nolimit hg hobj hints (Oy be hn2) hr hF hb (λH hO hS=>hsp w H a ns be hO hS) λH e s'=>hCX w H s₁ e s'
end L2
namespace L2
open PySem PySem.Spec PyProof.Rows
def d7(s:Stmt):Arguments:=match s with
 |.FunctionDef _ a _ _ _ _ _ _ _ _=>a
 |_=>{ posonlyargs:=[],args:=[],vararg:=none,kwonlyargs:=[],kw_defaults:=[],kwarg:=none,defaults:=[] }
def cn(s:Stmt):List Stmt:=match s with
 |.FunctionDef _ _ b _ _ _ _ _ _ _=>b
 |_=>[]
def az(s:Stmt):Scope:=match s with
 |.FunctionDef _ _ _ _ _ _ sc _ _ _=>sc
 |_=>{ kind:=.function,names:=[],isGenerator:=false,isCoroutine:=false }
abbrev E0:XK:=λ_ _ _=>False
structure Fun(K:W.Frag)(x qual:Str)(st:Stmt)(f:Addr)(fd:FuncData):Prop where
 ex:∃(oc:Value) (od:Option Addr) (kV doc pm:Value) (an:Option Addr) (cdv ct:Value) (osl:Array (Option Value)),
  fd=W.fnOf x qual (d7 st) (cn st) (az st) .none kV doc pm an cdv ct/\K.lookup f=some ⟨oc,od,.func fd,osl⟩/\W.codeIn K cdv qual=true
 kp:W.keepIn K (.ref f)=true
section
variable{P:Program}{w:World}{K:W.Frag}{mg:Str->Option Value}{base:Heap}
def Fun.binds{x qual:Str}{st:Stmt}{f:Addr}{fd:FuncData}{ps:List Str}(F:Fun K x qual st f fd)
 (h:∀(kV doc pm:Value) (an:Option Addr) (cdv ct:Value) (us:List Value),us.length=ps.length->bindArgs (W.fnOf x qual (d7 st) (cn st) (az st) .none kV doc pm an cdv ct) ⟨us,[]⟩=pure (ps.zip us)):Binds K fd ps []:=by
 obtain⟨oc,od,kV,doc,pm,an,cdv,ct,osl,rfl,lk,hcd⟩:=F.ex
 exact .all (h kV doc pm an cdv ct)
def H0{x qual:Str}{st:Stmt}{f:Addr}{oc:Value}{od an:Option Addr}{osl:Array (Option Value)}{kV doc pm cdv ct:Value}(l:K.lookup f=some ⟨oc,od,.func (W.fnOf x qual (d7 st) (cn st) (az st) .none kV doc pm an cdv ct),osl⟩)
 (c:W.codeIn K cdv qual=true) (k:W.keepIn K (.ref f)=true):Fun K x qual st f (W.fnOf x qual (d7 st) (cn st) (az st) .none kV doc pm an cdv ct):=⟨⟨oc,od,kV,doc,pm,an,cdv,ct,osl,rfl,l,c⟩,k⟩
end
def rQ{A:Around}{k:Nat}(hr:Room k A):A.units+1<cLine:=P0 (Nat.add_le_add_left (by decide:1<=64) _) hr.units
section
variable{X:Cx}
def pv(i:Nat){x:Str}{pos:Pos}(hN:X.N[i]?=some x:=by rfl)(hv:Vis X.env.scope x:=by first |exact Or.inl rfl |exact Or.inr (Or.inl rfl) |exact Or.inr (Or.inr rfl))(hd:(x==("__debug__" : Str))=false:=by decide)
 (hcd:(x==("__classdict__" : Str))=false:=by decide):PE X (.Name x pos) (tVar i):=zY hN hv hd hcd
end
end L2
namespace L2
open PySem PySem.Spec PyProof.Rows
section
variable{X:Cx}{pins:List (Addr×Obj)}{σ:St}{H:Hp}{s:Shared}
def Inv.track{a:Addr}{o:HO}(I:Inv X pins σ H s)(hn:H a=none)(h0:X.s₀.heap.get? a=none)(hL:a≠X.env.locals)(hc:∀x c,X.env.cells.lookup x=some c->c≠a)
 (hp:∀p∈X.pn++pins,p.1≠a) (new:ObjOk X.prog X.w (upd H a o) s.heap a o):Inv X pins σ (upd H a o) s:=by
 have ne:∀b u,H b=some u->b≠a:=λb u e z=>by rw[z,hn] at e;cases e
 have ne0:∀b u,X.s₀.heap.get? b=some u->b≠a:=λb u e z=>by rw[z,h0] at e;cases e
 refine⟨I.ok,I.os,I.bare,⟨I.base.keep,I.base.slot,λb u e n hx=>?_,I.base.there,λb xs e=>?_,λb u xs e=>?_,λb ps e=>?_⟩,I.loc,I.cell,?_,λx c e=>?_,λp hp'=>?_,λb u e=>?_,I.len⟩
 ·rw[aT (ne0 b u e)];exact I.base.free b u e n hx
 ·have q:=I.base.tups b xs e
  rw[aT (ne _ _ q)];exact q
 ·have q:=I.base.frzs b u xs e
  rw[aT (ne _ _ q)];exact q
 ·obtain⟨m,q⟩:=I.base.tbls b ps e
  exact⟨m,by rw[aT (ne _ _ q)];exact q⟩
 ·rw[aT (Ne.symm hL)];exact I.free
 ·rw[aT (hc x c e)];exact I.freeC x c e
 ·obtain⟨e,n,r⟩:=I.pin p hp'
  exact⟨e,by rw[aT (hp p hp')];exact n,r⟩
 ·by_cases hb:b=a
  ·subst hb;rw[cB] at e;cases e;exact new
  ·rw[aT hb] at e
   exact (I.hok b u e).stay (λc v _ q=>q) (λc q=>by rw[aT (ne _ _ q)];exact q) λc xs q=>by rw[aT (ne _ _ q)];exact q
end
theorem kT{env:Env}:∀{names:List (Str×NameKind)} (cs:List (Str×Addr)),(∀x∈names,x.2=.free->∃c,env.cells.lookup x.1=some c)->(∀x c,cs.lookup x=some c->env.cells.lookup x=some c)->
 ∃
  cl,(forIn names cs λ(x:Str×NameKind) (r:List (Str×Addr))=>if (x.2==NameKind.free)=true then do let a <- cellOf env x.1;pure (ForInStep.yield ((x.1,a)::r)) else pure (ForInStep.yield r):Sem (List (Str×Addr)))=pure cl/\
  (∀x c,cl.lookup x=some c->env.cells.lookup x=some c)/\(∀x c,cs.lookup x=some c->∃c',cl.lookup x=some c')/\∀x∈names,x.2=.free->∃c,cl.lookup x.1=some c
 | [],cs,_,h=>⟨cs,by simp,h,λx c e=>⟨c,e⟩,λ_ hx=>nomatch hx⟩
 |
  (n,k)::r,cs,hf,h=>by
  rw[QI]
  by_cases hk:k=.free
  ·subst hk
   obtain⟨c,hc⟩:=hf (n,.free) Od rfl
   have hcell:cellOf env n=pure c:=by unfold cellOf;rw[hc]
   have h':∀x d,((n,c)::cs).lookup x=some d->env.cells.lookup x=some d:=λx d e=>by
    rw[Pc] at e
    cases q:x==n with
    |true=>rw[q] at e;cases e;rw[Qf.mp q];exact hc
    |false=>rw[q] at e;exact h x d e
   obtain⟨cl,e1,e2,e3,e4⟩:=kT (env:=env) (names:=r) ((n,c)::cs) (λx hx=>hf x (N9 _ hx)) h'
   have top:∃c',cl.lookup n=some c':=e3 n c (by rw[Pc];simp)
   refine⟨cl,?_,e2,λx d e=>?_,λx hx hfr=>?_⟩
   ·simp only[beq_self_eq_true,Pw,hcell]
    exact e1
   ·by_cases q:x=n
    ·rw[q];exact top
    ·exact e3 x d (by rw[Pc,(Ov.mpr q:(x==n)=false)];exact e)
   ·rcases Ow.mp hx with rfl |hx
    ·exact top
    ·exact e4 x hx hfr
  ·have hb:(k==NameKind.free)=false:=by simpa using hk
   obtain⟨cl,e1,e2,e3,e4⟩:=kT (env:=env) (names:=r) cs (λx hx=>hf x (N9 _ hx)) h
   refine⟨cl,?_,e2,e3,λx hx hfr=>?_⟩
   ·simp only[hb,O7,PQ]
    exact e1
   ·rcases Ow.mp hx with rfl |hx
    ·exact absurd hfr hk
    ·exact e4 x hx hfr
def lz{env:Env}{scope:Scope}(hf:∀x∈scope.names,x.2=.free->∃c,env.cells.lookup x.1=some c):
 ∃cl,closureFor scope env=pure cl/\(∀x c,cl.lookup x=some c->env.cells.lookup x=some c)/\∀x∈scope.names,x.2=.free->∃c,cl.lookup x.1=some c:=by
 obtain⟨cl,e1,e2,_,e4⟩:=kT (env:=env) (names:=scope.names) [] hf (λx c e=>by simp at e)
 refine⟨cl,?_,e2,e4⟩
 unfold closureFor
 simp only[e1]
 rfl
def bQ(X:Cx)(N:List Str)(scope:Scope)(cl:List (Str×Addr))(C:Addr)(s₂:Shared)(H:Hp)(fp:List Addr):Cx:=
 { X with N:=N,s₀:=s₂,H₀:=H,env:=compEnvC scope cl C X.env,outer:=X.stack,stack:=X.stack,ex:=fp,fn:=λ_=>false,pn:=[],xe:=λ_ _=>False }
def dI(sub:List (Option Nat))(σ:St):St:=sub.map λo=>o.bind λi=>(σ[i]?).bind id
def LcW(J:It)(sub:List (Option Nat))(g:TG)(tc:TT)(te:TE)(σ:St)(H1:Hp)(Q:VK):Prop:=∃W:Nat->Nat->List V->St->Hp->Prop,(∃m,W 0 m [] (dI sub σ) H1)/\∀i m ys σ H,W i m ys σ H->
 (J.stop i H/\ys.length<=sizeLine/\∀D,H D=none->Q (.ref D) (upd H D (.lst ys)))\/
 (J.go i H/\ys.length<sizeLine/\∃Nx:List V->St->Hp->Prop,(∀ys' σ' H',Nx ys' σ' H'->∃m',m'<m/\W (i+1) m' ys' σ' H')/\
  ∀x H',J.yld i H x H'->g x σ H' λσ2 H2=>tc σ2 H2 λb H3=>if b=true then te σ2 H3 λy H4=>Nx (ys++[y]) σ2 H4 else Nx ys σ2 H3)
def mO(wi:TI)(sub:List (Option Nat))(g:TG)(tc:TT)(te:TE):TE:=λσ H Q=>wi σ H λJ H1=>LcW J sub g tc te σ H1 Q
abbrev AY:TT:=λ_ H Q=>Q true H
section
variable{prog:Program}{w:World}{A:Around}{R:Result->Shared->Prop}{s:Shared}
def lY{jp target am:Expr}{ifs:List Expr}{scope:Scope}{pos:Pos}{it acc:Value}{env:Env}(I:Nat->Shared->Prop)
 (turn
  : ∀n s,I n s->wpAny (model prog w) A (pyNext it) (λr s₁=>match r with
  |none=>R (.ok .next) s₁
  |some v=>wpAny (model prog w) A (letOwnedTupleGo target it v) (λ_ s₁'=>wpAny (model prog w) A (assign target env v) (λ_ s₂=>
   wpAny (model prog w) A (forIn ifs true λc r=>if r=true then do let ok <- isTrue c env (eval c env);pure (ForInStep.yield ok) else pure (ForInStep.yield r))
    (λok s₃=>if ok=true then wpAny (model prog w) A (eval jp env) (λx s₄=>wpAny (model prog w) A (call (.builtin "list.append") [acc,x]) (λ_ s₅=>∃m,m<n/\I m s₅) (λ_ _=>False) s₄) (λ_ _=>False) s₃
     else ∃m,m<n/\I m s₃) (λ_ _=>False) s₂) (λ_ _=>False) s₁') (λ_ _=>False) s₁) (λ_ _=>False) s)
 (n:Nat) (h:I n s):
 codeAny (model prog w) A (.compLoop (.ListComp jp [⟨target,am,ifs,0⟩] scope pos) 0 it acc env) R s:=by
 refine codeAny_loop rfl I (λn s hI=>?_) n h
 show wpAny _ _ ((compTurn (.ListComp jp [⟨target,am,ifs,0⟩] scope pos) 0 it acc env).onRaise (λx=>do noteFrame x env;theTreesLotGoes x)) _ _ s
 refine wpAny_noted ?_
 rw[compTurn_list]
 refine ON (E:=λ_ _=>False) ?_ (λ_ _ q=>q) λ_ _ q=>q.elim
 refine N7 (QY (N7 (ON (turn n s hI) (λr s₁ h₁=>?_) λ_ _ h'=>h')))
 cases r with
 |none=>exact Om h₁
 |
  some v=>
  refine N7 (ON h₁ (λ_ s₁' h₁'=>?_) λ_ _ h'=>h')
  refine N7 (ON h₁' (λ_ s₂ h₂=>?_) λ_ _ h'=>h')
  refine N7 (ON h₂ (λok s₃ h₃=>?_) λ_ _ h'=>h')
  cases ok with
  |
   true=>
   simp only[Pw] at h₃ ⊢
   refine N7 (N7 (ON h₃ (λx s₄ h₄=>?_) λ_ _ h'=>h'))
   refine N7 (ON h₄ (λ_ s₅ h₅=>?_) λ_ _ h'=>h')
   exact Om (Om ⟨rfl,h₅⟩)
  |
   false=>
   simp only[O7,PQ] at h₃ ⊢
   first
    |exact N7 (Om (Om ⟨rfl,h₃⟩))
    |exact Om ⟨rfl,h₃⟩
end
section
variable{X:Cx}
def PTs(X:Cx)(ifs:List Expr)(t:TT):Prop:=
 ∀
  (pins:List (Addr×Obj)) (s:Shared) (σ:St) (H:Hp) (Q:Bool->Hp->Prop),Inv X pins σ H s->t σ H Q->
  wpAny (model X.prog X.w) X.A (forIn ifs true λc r=>if r=true then do let ok <- isTrue c X.env (eval c X.env);pure (ForInStep.yield ok) else pure (ForInStep.yield r)) (TP X pins σ Q) X.xe s
def vw:PTs X [] (λ_ H Q=>Q true H):=λpins s σ H Q I h=>by
 rw[QT]
 exact Om ⟨H,I,h⟩
def IA{jp am tg:Expr}{ifs:List Expr}{scope:Scope}{pos:Pos}{wi:TI}{g:TG}{tc:TT}{te:TE}{N:List Str}{sub:List (Option Nat)}
 (hc:X.calm=true) (hi:PI X tg am wi)
 (hk:scope.kind=.function) (hnc:∀x∈scope.names,x.2 ≠ .cell) (bn:∀x∈scope.names,x.2=.local->scope.names.lookup x.1=some .local)
 (hfr:∀x∈scope.names,x.2=.free->X.env.kindOf x.1=some .cell\/X.env.kindOf x.1=some .free)
 (hsl:sub.length=N.length) (ii:∀(j i:Nat) (x:Str),sub[j]?=some (some i)->N[j]?=some x->X.N[i]?=some x/\scope.names.lookup x=some .free)
 (hg:∀cl C s₂ H fp,PG (bQ X N scope cl C s₂ H fp) tg g) (ht:∀cl C s₂ H fp,PTs (bQ X N scope cl C s₂ H fp) ifs tc) (he:∀cl C s₂ H fp,PE (bQ X N scope cl C s₂ H fp) jp te)
 (hs:∀x,foldedSetIterable am X.env x=pure x:=by intro _;rfl):
 PE X (.ListComp jp [⟨tg,am,ifs,0⟩] scope pos) (mO wi sub g tc te):=by
 intro pins s σ H Q I h
 obtain⟨cl,hclos,hcl,hclf⟩:=lz (env:=X.env) (scope:=scope) λx hx hf=>I.ok.has x.1 (hfr x hx hf)
 rw[eval_ListComp]
 refine wpAny_comprehension_free (use:=none) rfl hs hclos hk bn ?_
 show wpAny _ _ (eval am X.env) _ _ _
 refine thn (hi pins s σ H _ I h) λv s1 h1=>thn h1 λitv s2 h2=>?_
 obtain⟨it,fp,tn,J,H2,e,I2,T,st2,f2,W,⟨m0,w0⟩,turn⟩:=h2
 subst e
 refine O2 (wpAny_newFunctionEnv hnc (by intro y hy;simp at hy) (λh₁ hns₁ hsb₁=>?_) hk)
 dsimp only at hns₁ hsb₁ ⊢
 generalize hH2:s2.heap.push { cls:=.type "list",dict:=none,data:=.seq ([]:List Value).toArray }=G2 at hns₁ hsb₁ ⊢
 have hC:G2.objs.size=s2.heap.objs.size+1:=by rw[<- hH2,Pp]
 have hDC:s2.heap.objs.size≠G2.objs.size:=by omega
 have below:∀b,b<s2.heap.objs.size->b≠G2.objs.size/\b≠s2.heap.objs.size:=λb hb=>⟨by omega,by omega⟩
 have old:∀b o,s2.heap.get? b=some o->h₁.get? b=some o:=λb o e=>hsb₁.extBut b o (below b (Oh e)).1 (Og _ (hH2 ▸ Og _ e))
 have hD₁:h₁.get? s2.heap.objs.size=some { cls:=.type "list",dict:=none,data:=.seq ([]:List Value).toArray }:=hsb₁.extBut _ _ hDC (Og _ (hH2 ▸ Ou _ rfl))
 have fresh:∀a,s2.heap.objs.size<=a->s2.heap.get? a=none:=λa ha=>PL ha
 have cellOld:∀x c,cl.lookup x=some c->c<s2.heap.objs.size:=λx c e=>by
  obtain⟨v,z⟩:=I2.cell x c (hcl x c e)
  exact z.lt
 have fpOld:∀b∈fp,b<s2.heap.objs.size:=λb hb=>by
  obtain⟨o,e,_⟩:=T.obj _ _ st2 b hb
  exact Oh e
 let Y:Cx:=bQ X N scope cl G2.objs.size s2 H2 fp
 have okY:Y.Ok
  := by
  refine⟨I2.ok.mod,?_,I2.ok.glob,I2.ok.blt,?_,λx y c e1 e2=>I2.ok.inj x y c (hcl x c e1) (hcl y c e2),λx hx=>?_,λx c hfn _=>absurd hfn Oi,I2.ok.hd,I2.ok.frames,.inl rfl,
   λb hb=>⟨?_,λx c e z=>?_⟩,I2.bs,Oy I2.ok.bsz I2.sz,λb o e hb=>?_,λb hb hf=>?_,I2.stack,I2.stkFree⟩
  ·show (relabel scope X.env).kind=.function
   exact hk
  ·show s2.heap.objs.size<=G2.objs.size
   omega
  ·have hx':(
    relabel scope X.env).names.lookup x=some .cell\/(relabel scope X.env).names.lookup x=some .free:=hx
   have:∃k,
    (x,k)∈scope.names/\k=.free:=by
    have gen:∀(names:List (Str×NameKind)),(∀y∈names,y.2 ≠ .cell)->∀kk,(kk=NameKind.cell\/kk=NameKind.free)->(names.map λ(n,k)=>if (k==NameKind.free&&X.env.scope.kind == .function&&X.env.kindOf n==some .cell) then (n,NameKind.cell) else (n,k)).lookup x=some kk->∃k,(x,k)∈names/\k=.free:=by
     intro names
     induction names with
     |nil=>intro _ kk _ e;simp at e
     |
      cons y r ih=>
      intro hn kk hkk e
      obtain⟨n,k⟩:=y
      rw[Of,Pc] at e
      by_cases hkf:k=.free
      ·subst hkf
       by_cases hxn:x=n
       ·exact⟨.free,by rw[hxn];exact Od,rfl⟩
       ·have hb:(x==(if (NameKind.free==NameKind.free&&X.env.scope.kind == .function&&X.env.kindOf n==some .cell)=true then (n,NameKind.cell) else (n,NameKind.free)).1)=false:=by
         split <;> exact Ov.mpr hxn
        rw[hb] at e
        obtain⟨k',m,q⟩:=ih (λz hz=>hn z (N9 _ hz)) kk hkk e
        exact⟨k',N9 _ m,q⟩
      ·have hb0:(k==NameKind.free&&X.env.scope.kind == .function&&X.env.kindOf n==some .cell)=false:=by
        have:(k==NameKind.free)=false:=by simpa using hkf
        rw[this];rfl
       rw[hb0] at e
       simp only[O7,PQ] at e
       cases q:x==n with
       |
        true=>
        rw[q] at e
        have e':k=kk:=Oz e
        subst e'
        rcases hkk with z |z
        ·exact absurd z (hn (n,k) Od)
        ·exact absurd z hkf
       |
        false=>
        rw[q] at e
        obtain⟨k',m,q⟩:=ih (λz hz=>hn z (N9 _ hz)) kk hkk e
        exact⟨k',N9 _ m,q⟩
    rcases hx' with z |z
    ·exact gen scope.names hnc _ (.inl rfl) z
    ·exact gen scope.names hnc _ (.inr rfl) z
   obtain⟨k,m,q⟩:=this
   exact hclf (x,k) m q
  ·show b≠G2.objs.size
   exact (below b (fpOld b hb)).1
  ·exact (f2 b hb).2.2.2.2.1 x c (hcl x c e) z
  ·rcases (f2 b hb).2.2.2.1 with z |z
   ·exact I2.ok.noex b o e z
   ·exact absurd (Ot (Oh e) (Oy I2.ok.bsz z)) (OS _)
  ·have hf':b∈frs X.stack:=hf
   rcases Ow.mp (I2.stkSub b hf') with z |z
   ·exact (f2 b hb).2.1 z
   ·exact (f2 b hb).2.2.1 z
 have startLoc
  : ∃m,h₁.Ns G2.objs.size m/\∀(i:Nat) (x:Str) (v:V),N[i]?=some x->(dI sub σ)[i]?=some (some v)->Vis (relabel scope X.env) x->∃u,RelV v u/\BY Y.env h₁ m x u:=by
  refine⟨_,hns₁,λj x v e1 e2 e3=>?_⟩
  unfold dI at e2
  rw[OD] at e2
  cases q:sub[j]? with
  |none=>rw[q] at e2;cases e2
  |
   some o=>
   rw[q] at e2
   cases o with
   |none=>cases e2
   |
    some i=>
    obtain⟨hNi,hfree⟩:=ii j i x q e1
    have e2':(σ[i]?).bind id=some v:=Oz e2
    have e2'':σ[i]?=some (some v):=by
     cases z:σ[i]? with
     |none=>rw[z] at e2';cases e2'
     |some y=>rw[z] at e2';rw[show y=some v from e2']
    obtain⟨m2,hn2,hl2⟩:=I2.loc
    have hkx:=hfr (x,.free) (OZ hfree) rfl
    obtain⟨u,r,l⟩:=hl2 i x v hNi e2'' (by rcases hkx with z |z;exact .inr (.inl z);exact .inr (.inr z))
    refine⟨u,r,.inr ⟨?_,?_⟩⟩
    ·rcases e3
      with z |z |z
     ·exfalso
      have gen:∀(names:List (Str×NameKind)),names.lookup x=some .free->(names.map λ(n,k)=>if (k==NameKind.free&&X.env.scope.kind == .function&&X.env.kindOf n==some .cell) then (n,NameKind.cell) else (n,k)).lookup x=some .local->False:=by
       intro names
       induction names with
       |nil=>intro e _;simp at e
       |
        cons y r ih=>
        intro e1 e2
        obtain⟨n,k⟩:=y
        rw[Pc] at e1
        rw[Of,Pc] at e2
        by_cases hxn:x=n
        ·have hb1:(x==n)=true:=Qf.mpr hxn
         rw[hb1] at e1
         have:k=.free:=Oz e1
         subst this
         split at e2
         ·rename_i hq
          split at e2 <;> cases e2
         ·rename_i hq
          split at hq <;> (rw[hb1] at hq;cases hq)
        ·have hb1:(x==n)=false:=Ov.mpr hxn
         rw[hb1] at e1
         refine ih e1 ?_
         split at e2
         ·rename_i hq
          split at hq <;> (rw[hb1] at hq;cases hq)
         ·exact e2
      exact gen scope.names hfree z
     ·exact .inl z
     ·exact .inr z
    ·obtain⟨c,hc'⟩:=hclf (x,.free) (OZ hfree) rfl
     refine⟨c,hc',?_⟩
     rcases l with ⟨k,_⟩ |⟨_,c2,ec2,z⟩
     ·rcases hkx with z |z <;> (rw[k] at z;cases z)
     ·have:=hcl x c hc'
      rw[ec2] at this
      cases this
      obtain⟨oc,hoc,hd⟩:=z
      exact⟨oc,old _ _ hoc,hd⟩
 have pinD:∀{σ':St}{H':Hp}{s':Shared}{pl:List (Addr×Obj)}{o:Obj},Inv Y pl σ' H' s'->s'.heap.get? s2.heap.objs.size=some o->(∀v,o.data ≠ .cell v)->H' s2.heap.objs.size=none->Inv Y [(s2.heap.objs.size,o)] σ' H' s':=λ{σ' H' s' pl o} IY e d n=>
  IY.pins_of λp hp=>by
   have e':p=(s2.heap.objs.size,o):=by simpa using hp
   subst e'
   refine⟨e,n,?_,?_,d⟩
   ·show s2.heap.objs.size≠G2.objs.size
    omega
   ·intro hf
    have hf':s2.heap.objs.size∈frs X.stack:=hf
    obtain⟨_,o',ho',_⟩:=I2.stack.mem hf'
    exact absurd (Oh ho') (OS _)
 have fpY:∀{H':Hp}{pl:List (Addr×Obj)},(∀b∈fp,H' b=none)->(∀p∈pl,p.1∉fp)->∀b∈fp,FpOk Y pl H' b:=λ{H' pl} hn hp b hb=>by
  refine⟨hn b hb,?_,?_,.inl hb,λx c e=>?_,λp hp'=>?_⟩
  ·exact (okY.exf b hb).1
  ·exact okY.exfs b hb
  ·exact (okY.exf b hb).2 x c e
  ·intro z
   have hp'':p∈pl:=by simpa [Y,bQ] using hp'
   exact hp p hp'' (by rw[z];exact hb)
 have hDfp:s2.heap.objs.size∉fp:=λz=>OS _ (fpOld _ z)
 have loop
  : ∀s₃:Shared,s₃={ s2 with heap:=h₁,toks:=s2.toks+([]:List (Str×Value)).length }->
  codeAny (model X.prog X.w) X.A (.compLoop (.ListComp jp [⟨tg,am,ifs,0⟩] scope pos) 0 (.ref it) (.ref s2.heap.objs.size) (compEnvC scope cl G2.objs.size X.env))
   (compPost (model X.prog X.w) X.A X.xe none (EP X pins σ Q) (.ref s2.heap.objs.size) G2.objs.size) s₃:=by
  rintro s₃ rfl
  have IY0:Inv Y [(s2.heap.objs.size,{ cls:=.type "list",dict:=none,data:=.seq ([]:List Value).toArray })] (dI sub σ) H2 { s2 with heap:=h₁,toks:=s2.toks+([]:List (Str×Value)).length }:=by
   have J0:Inv Y [] (dI sub σ) H2 { s2 with heap:=h₁,toks:=s2.toks+([]:List (Str×Value)).length }:=by
    refine⟨okY,rfl,I2.bare,Un.kept old,startLoc,λx c e=>?_,I2.hok.fresh (by show s2.heap.objs.size<=G2.objs.size;omega),λx c e=>I2.freeC x c (hcl x c e),λp hp=>absurd (show p∈([]:List (Addr×Obj)) from hp) (by simp),I2.hok.kept old,?_⟩
    ·obtain⟨v,oc,hoc,hd⟩:=I2.cell x c (hcl x c e)
     exact⟨v,oc,old _ _ hoc,hd⟩
    ·show (dI sub σ).length=N.length
     unfold dI
     rw[N8];exact hsl
   exact pinD J0 hD₁ (λv z=>by cases z) I2.fresh
  refine lY (λn s'=>∃(i:Nat) (ys:List V) (its:List Value) (k:Nat) (σ':St) (H':Hp),Inv Y [(s2.heap.objs.size,{ cls:=.type "list",dict:=none,data:=.seq its.toArray k })] σ' H' s'/\Vals ys its/\tn i s'.heap/\(∀b∈fp,H' b=none)/\W i n ys σ' H') ?_ m0
   ⟨0,[],[],0,dI sub σ,H2,IY0,.nil,T.keep _ _ _ st2 (λb hb o e=>old b o e),λb hb=>(f2 b hb).1,w0⟩
  rintro n s3 ⟨i,ys,its,k,σ3,H3,I3,rv,st3,fr3,w3⟩
  have npl:∀(o:Obj),∀p∈[(s2.heap.objs.size,o)],p.1∉fp:=λo p hp=>by
   have e':p=(s2.heap.objs.size,o):=by simpa using hp
   subst e'
   exact hDfp
  rcases turn i n ys σ3 H3 w3 with ⟨stop,hz,qn⟩ |⟨go,hz,Nx,hNx,step⟩
  ·refine ON (T.done Y rfl rfl rfl hc i _ s3 σ3 H3 (λ_ _=>False) I3 (fpY fr3 (npl _)) st3 stop) (λr s4 ⟨hr,I4⟩=>?_) λ_ _ z=>z
   subst hr
   obtain⟨m4,hn4,_⟩:=I4.loc
   refine⟨m4,hn4,λh' hs'=>?_⟩
   have hCfree:H3 G2.objs.size=none:=I4.free
   have hD4:=I4.pin (s2.heap.objs.size,{ cls:=.type "list",dict:=none,data:=.seq its.toArray k }) (Ox _ Od)
   have un4:Un (frs X.stack) fp H2 H3 s2.heap s4.heap:=I4.base
   have up:∀b o,b≠G2.objs.size->s4.heap.get? b=some o->h'.get? b=some o:=λb o hb e=>hs'.extBut b o hb e
   have ne2:∀b o,s2.heap.get? b=some o->b≠G2.objs.size:=λb o e=>(below b (Oh e)).1
   have un5:Un (frs X.stack) fp H2 H3 s2.heap h':=by
    refine⟨λb o e n hb hx=>up b o (ne2 b o e) (un4.keep b o e n hb hx),λb o e n hb hx=>?_,un4.free,λb o e hx=>?_,un4.tups,un4.frzs,un4.tbls⟩
    ·obtain⟨sl,q⟩:=un4.slot b o e n hb hx
     exact⟨sl,up b _ (ne2 b o e) q⟩
    ·obtain⟨o',q⟩:=un4.there b o e hx
     exact⟨o',up b _ (ne2 b o e) q⟩
   have hok5:HOk X.prog X.w H3 h':=λb u e=>(I4.hok b u e).stay (λc v hcc q=>up c v (λz=>by
    rcases hcc with zz |zz
    ·rw[zz] at z;rw[z,hCfree] at e;cases e
    ·rw[z,hCfree] at zz;cases zz) q) (λ_ q=>q) λ_ _ q=>q
   have I5:Inv X pins σ H3 { s4 with heap:=h' }:=I2.call' (s':={ s4 with heap:=h' }) (ch:=fp) I4.os un5 hok5 I4.bare λb hb=>by
    obtain⟨_,g1,_,g3,g4,g5⟩:=f2 b hb
    exact⟨g3,g1,g4,g5⟩
   have hDfree:H3 s2.heap.objs.size=none:=hD4.2.1
   have sz0:X.s₀.heap.objs.size<=s2.heap.objs.size:=I2.sz
   refine⟨.ref s2.heap.objs.size,_,I5.track (o:=.lst ys) hDfree (PL sz0) (PN I2.lt) (λx c e z=>?_) (λp hp z=>?_) ?_,rfl,qn _ hDfree⟩
   ·obtain⟨v,q⟩:=I2.cell x c e
    exact absurd q.lt (by rw[z];exact OS _)
   ·exact absurd (Oh (I2.pin p hp).1) (by rw[z];exact OS _)
   ·exact⟨hz,its,k,rv,up _ _ hDC hD4.1⟩
  ·refine ON (T.item Y rfl rfl rfl hc i _ s3 σ3 H3 (λ_ _=>False) I3 (fpY fr3 (npl _)) st3 go) (λr s4 ⟨u,hr,h4⟩=>?_) λ_ _ z=>z
   subst hr
   refine ON h4 (λ_ s5 ⟨x,H5,I5,r5,y5,st5,fr5⟩=>?_) λ_ _ z=>z
   have I5':=I5.pinned (fpY fr5 (npl _)) (T.obj _ _ st5)
   refine ON (hg cl G2.objs.size s2 H2 fp _ s5 σ3 H5 x u _ I5' r5 (step x H5 y5)) (λ_ s6 ⟨σ6,H6,I6,q6⟩=>?_) λ_ _ z=>z
   refine ON (ht cl G2.objs.size s2 H2 fp _ s6 σ6 H6 _ I6 q6) (λok s7 ⟨H7,I7,q7⟩=>?_) λ_ _ z=>z
   have back:∀{σ':St}{H':Hp}{s':Shared},Inv Y ([(s2.heap.objs.size,{ cls:=.type "list",dict:=none,data:=.seq its.toArray k })]++ki fp s5.heap) σ' H' s'->tn (i+1) s'.heap/\∀b∈fp,H' b=none:=λ{σ' H' s'} IB=>by
    refine⟨T.keep _ _ _ st5 λb hb o e=>(IB.pin (b,o) (Ox _ (Ox _ (fk hb e)))).1,λb hb=>?_⟩
    obtain⟨o,e,d⟩:=T.obj _ _ st5 b hb
    exact (IB.pin (b,o) (Ox _ (Ox _ (fk hb e)))).2.1
   cases ok with
   |
    false=>
    rw[if_neg Oi] at q7
    obtain⟨m',hm,w7⟩:=hNx _ _ _ q7
    rw[if_neg Oi]
    obtain⟨t7,f7⟩:=back I7
    exact⟨m',hm,i+1,ys,its,k,σ6,H7,I7.unpinned,rv,t7,f7,w7⟩
   |
    true=>
    rw[if_pos rfl] at q7
    rw[if_pos rfl]
    refine ON (he cl G2.objs.size s2 H2 fp _ s7 σ6 H7 _ I7 q7) (λy s8 ⟨yv,H8,I8,r8,q8⟩=>?_) λ_ _ z=>z
    obtain⟨m',hm,w8⟩:=hNx _ _ _ q8
    obtain⟨t8,f8⟩:=back I8
    have I9:=I8.unpinned
    have hD9:=I9.pin (s2.heap.objs.size,{ cls:=.type "list",dict:=none,data:=.seq its.toArray k }) (Ox _ Od)
    have e9:s8.heap.get? s2.heap.objs.size=some { cls:=.type "list",dict:=none,data:=.seq its.toArray k }:=hD9.1
    have be:=rv.length
    refine Qr F.slot_list_append ⟨_,e9,rfl⟩ QR (QF _ _) (PySem.list_append _ its.toArray k y (by rw[Oj];omega)) ⟨e9,?_⟩
    have q9:=PySem.IsL.update e9 (λxs=>xs.push y)
    have ea:its.toArray.push y=(its++[y]).toArray:=by simp
    rw[ea] at q9
    have k9:∀b o,b≠s2.heap.objs.size->s8.heap.get? b=some o->(s8.heap.update s2.heap.objs.size (Obj.mapSeq λxs=>xs.push y)).get? b=some o:=λb o hb e=>(OT _ _ (Ne.symm hb)).trans e
    have I10:Inv Y [] σ6 H8 { s8 with heap:=s8.heap.update s2.heap.objs.size (Obj.mapSeq λxs=>xs.push y) }:=
     (I9.pins_of (pins':=[]) (λp hp=>nomatch hp)).turned (t':=s8.toks) k9 hD9.2.1 hD9.2.2.1 (.inr (Oe _)) (λx c e z=>absurd (cellOld x c e) (by rw[z];exact OS _))
      (λp hp=>absurd (show p∈([]:List (Addr×Obj)) from hp) (by simp))
    refine⟨m',hm,i+1,ys++[yv],its++[y],_,σ6,H8,pinD I10 q9 (λv z=>by cases z) hD9.2.1,rv.append (.cons r8 .nil),?_,f8,w8⟩
    exact T.keep _ _ _ t8 λb hb o e=>k9 b o (λz=>hDfp (by rw[<- z];exact hb)) e
 exact codeAny_compStart_list (loop _ rfl) (T.self _ 0 _ _ _ (T.keep _ _ _ st2 λb hb o e=>old b o e) (loop _ rfl))
def jt(M:List Str)(names:List (Str×NameKind))(sub:List (Option Nat))(N:List Str):Bool:=(sub.zip N).all λp=>match p.1 with
 |none=>true
 |some i=>M[i]?==some p.2&&names.lookup p.2==some .free
def um{M:List Str}{names:List (Str×NameKind)}{sub:List (Option Nat)}{N:List Str}(h:jt M names sub N=true)(j i:Nat)(x:Str)(h1:sub[j]?=some (some i))(h2:N[j]?=some x):
 M[i]?=some x/\names.lookup x=some .free:=by
 unfold jt at h
 rw[OV] at h
 have hm:(some i,x)∈sub.zip N:=by
  refine Ph (i:=j) ?_
  rw[List.getElem?_zip_eq_some]
  exact⟨h1,h2⟩
 have q:=h _ hm
 simp only[Ol,Qf] at q
 exact q
def lG(kn names:List (Str×NameKind)):Bool:=names.all λx=>x.2 != .free || kn.lookup x.1==some .cell || kn.lookup x.1==some .free
def vN{kn names:List (Str×NameKind)}(h:lG kn names=true):∀x∈names,x.2=.free->kn.lookup x.1=some .cell\/kn.lookup x.1=some .free:=λx hx hf=>by
 unfold lG at h
 rw[OV] at h
 have q:=h x hx
 rw[hf] at q
 simpa using q
def Kl{jp am tg:Expr}{scope:Scope}{pos:Pos}{wi:TI}{g:TG}{te:TE}(M:List Str)(kn:List (Str×NameKind))(N:List Str)(sub:List (Option Nat))
 (hc:X.calm=true) (hi:PI X tg am wi)
 (hg:∀cl C s₂ H fp,PG (bQ X N scope cl C s₂ H fp) tg g) (he:∀cl C s₂ H fp,PE (bQ X N scope cl C s₂ H fp) jp te)
 (hM:X.N=M:=by rfl) (hkn:X.env.scope.names=kn:=by rfl) (ii:jt M scope.names sub N=true:=by decide)
 (hk:scope.kind=.function:=by rfl) (hnc:∀x∈scope.names,x.2 ≠ .cell:=by decide) (bn:∀x∈scope.names,x.2=.local->scope.names.lookup x.1=some .local:=by decide)
 (hfr:lG kn scope.names=true:=by decide)
 (hsl:sub.length=N.length:=by rfl) (hs:∀x,foldedSetIterable am X.env x=pure x:=by intro _;rfl):
 PE X (.ListComp jp [⟨tg,am,[],0⟩] scope pos) (mO wi sub g AY te):=
 IA hc hi hk hnc bn (by subst hkn;exact vN hfr) hsl (by subst hM;exact um ii) hg (λcl C s₂ H fp=>vw) he hs
end
end L2
namespace L2
open PySem PySem.Spec PyProof.Rows PySem.W PySem.Builtin PySem.Builtin.ObjectAttr PySem.Builtin.Getset_descriptor
structure XCls(K:W.Frag)(C:Addr):Prop where
 cls:(clsIn K C).isSome=true
 ga:findIn K (.ref C) "__getattribute__"=some (some (.builtin "BaseException.__getattribute__"))
 gt:findIn K (.ref C) "__getattr__"=some none
 at_:findIn K (.ref C) "__class__"=some (some (.builtin "object.__class__"))
 gs:specialIn K (.builtin "object.__class__") "__get__"=some (some (.builtin "getset_descriptor.__get__"))
 tk:takesIn K (.builtin "object.__class__")=some true
 mo:mroIn K C (.type "object")=some true
 mb:mroIn K C (.type "BaseException")=some true
section
variable{prog:Program}{w:World}{A:Around}{E:Value->Shared->Prop}{K:W.Frag}{x C:Addr}{o:Obj}
def kJ{M:Model}{h:Heap}(hx:h.get? x=some o)(hc:o.cls=.ref C):Looks M h (typeOf (.ref x)) (.ref C):=hc ▸ (Looks.ld hx).andThen .now
def Av{M:Model}{h:Heap}(X:K.In h)(T:XCls K C):Looks M h (find (.ref x) (.ref C) "__class__") (.bind (.builtin "getset_descriptor.__get__") (.builtin "object.__class__")):=by
 have L1:=looks_findIn (M:=M) X T.at_
 have L2:Looks M h (getOf (some (.builtin "object.__class__"))) (some (.builtin "getset_descriptor.__get__")):=looks_specialIn X T.gs
 have L3:=looks_takesIn (M:=M) X T.tk
 refine L1.andThen (L2.andThen ?_)
 exact (show Looks M h (dataDescriptor? (some (.builtin "object.__class__")) (some (.builtin "getset_descriptor.__get__"))) (some (.builtin "getset_descriptor.__get__",.builtin "object.__class__")) from L3.andThen .now).andThen (Looks.tag .now)
def rn{s:Shared}{tp:Value}{R:Result->Shared->Prop}(X:K.In s.heap)(hx:s.heap.get? x=some o)(hc:o.cls=.ref C)(T:XCls K C)
 (h:R (.ok (.ret (.ref C))) s):codeAny (model prog w) A (.call (.builtin "getset_descriptor.__get__") ⟨[.builtin "object.__class__",.ref x,tp],[]⟩) R s:=by
 obtain⟨hh,g,dr,t,os⟩:=s
 have L0:=kJ (M:=model prog w) hx hc
 have L1:=looks_mroIn (M:=model prog w) X T.mo
 refine codeAny_call_builtin KF.slot_gs.plain KF.entry_gs (KF.slot_gs.check _ _ _ _ _ _ _ _ KF.type_class (KF.args_gs _ _ _) ?_)
 unfold Builtin.«getset_descriptor.__get__» descrGet
 rw[dga_obj]
 refine N7 (Om ?_)
 unfold descrGetter descrCheckInstance descrNameAndClass isInstance
 simp only[KF.owner_class]
 repeat lk
 refine⟨Code.quiet_builtin _ (by decide),codeAny_builtin KF.entry_class ?_⟩
 unfold Builtin.«object.__class__» shownTypeOf
 repeat lk
 exact h
def yG{M:Model}{nameV:Value}{s:Shared}{Q:Unit->Shared->Prop}(X:K.In s.heap)(hx:s.heap.get? x=some o)(hc:o.cls=.ref C)(T:XCls K C)(hq:Q () s):
 wpAny M A (checkBuiltinCall "BaseException.__getattribute__" ⟨[.ref x,nameV],[]⟩) Q E s:=by
 obtain⟨h,g,dr,t,os⟩:=s
 have hk:builtinKind "BaseException.__getattribute__"=some .slot:=by decide
 have hsplit:splitId "BaseException.__getattribute__"=some ("BaseException", "__getattribute__"):=by decide
 have ha:=PySem.F.args_bexc_ga (.ref x) nameV
 have L0:=kJ (M:=M) hx hc
 have LM:=looks_mroIn (M:=M) X T.mb
 have LI:Looks M h (isInstance (.ref x) (.type "BaseException")) true:=L0.andThen LM
 simp only[checkBuiltinCall,hk,hsplit]
 refine N7 ?_
 refine LI.at ?_
 repeat (first |wp_step)
 all_goals exact hq
def HN{s:Shared}{Q:Option Value->Shared->Prop}(X:K.In s.heap)(hx:s.heap.get? x=some o)(hc:o.cls=.ref C)(T:XCls K C)(h:Q (some (.ref C)) { s with toks:=s.toks+1 }):
 wpAny (model prog w) A (getAttr? (.ref x) "__class__") Q E s:=by
 obtain⟨hh,g,d,t,os⟩:=s
 have L0:=kJ (M:=model prog w) hx hc
 have L1:=looks_findIn (M:=model prog w) X T.ga
 have L2:=looks_findIn (M:=model prog w) X T.gt
 have LF:=Av (M:=model prog w) (x:=x) X T
 have f3:=PySem.F.excAttr_ValueError.ga.bind (.ref x)
 have hx2:(Value.builtin "BaseException.__getattribute__" == Value.builtin "object.__getattribute__")=false:=by decide
 unfold getAttr? getAttrBy? getAttrBy
 refine N7 (wpAny_mkText (N7 (QA (PY (N7 (L0.at (N7 (L1.at ?_))))))))
 dsimp only
 rw[if_neg (by rw[hx2];simp)]
 unfold getAttrByItsOwn hookBefore
 rw[if_pos (show onTheHeap (Value.ref C)=true from rfl)]
 refine N7 (L2.at ?_)
 unfold callGetattribute
 refine N7 (QA (PY ?_))
 rw[if_neg (by simp)]
 unfold boundAndCalled
 refine N7 (wpAny_of_eq f3 ?_)
 refine wpAny_call (codeAny_call_builtin PySem.F.excAttr_ValueError.ga.plain PySem.F.entry_bexc_ga (yG X hx hc T ?_))
 unfold Builtin.«object.__getattribute__»
 repeat (first |(refine N7 (L0.at ?_)) |(refine N7 (LF.at ?_)) |wp_step)
 refine rn (s:=⟨hh,g,d,t+1,os⟩) X hx hc T ?_
 repeat (first |exact h |wp_step)
def B8(x:Addr)(C:Addr)(h:Heap):Prop:=∃o vs,h.get? x=some o/\o.cls=.ref C/\o.data=.fields vs
def As(T:XCls K C):KitX K (.ref x) (.ref C) (B8 x C) where
 ty:=λM h _ ⟨o,_,hx,hc,_⟩=>kJ hx hc
 it:=λM h X _=>by
  obtain⟨cd,hcd⟩:=OL.mp T.cls
  unfold clsIn at hcd
  split at hcd
  ·rename_i c' d' cd' sl' ho
   intro A' Q' E' s' k q
   unfold isType loadHead
   exact N7 (wpAny_loadPart (k _ _ (X _ _ ho)) (Om q))
  ·cases hcd
 ne:=λh tp dd its n sl X htp=>by
  obtain⟨cd,hcd⟩:=OL.mp T.cls
  refine Bool.eq_false_iff.mpr λq=>?_
  have e:C=tp:=Value.ref.inj (Qf.mp q)
  subst e
  unfold clsIn at hcd
  split at hcd
  ·rename_i c' d' cd' sl' ho
   have z:=(X _ _ ho).symm.trans htp
   cases z
  ·cases hcd
 ca:=λX ⟨o,_,hx,hc,_⟩ k=>HN X hx hc T k
end
inductive TyX(K:W.Frag)(H:Hp):V->Value->Prop where
 |of {x:V}{t:Value} (h:TyOf K H x t):TyX K H x t
 |exc {a C:Addr} (e:H a=some (.ext (B8 a C))) (T:XCls K C):TyX K H (.ref a) (.ref C)
 |sqT {a:Addr}{xs:List V} (h:SqT K H a xs):TyX K H (.ref a) (.type "tuple")
 |sqL {a:Addr}{xs:List V} (h:SqL K H a xs):TyX K H (.ref a) (.type "list")
section
variable{X:Cx}{pins:List (Addr×Obj)}{σ:St}{H:Hp}{s:Shared}{A:Around}{E:Value->Shared->Prop}{Q:Value->Shared->Prop}{c:Value}{b:Bool}
def vE{x:V}{u t:Value}(I:Inv X pins σ H s)(rx:RelV x u)(ty:TyX X.K H x t):∃Hh:Heap->Prop,KitX X.K u t Hh/\Hh s.heap/\u ≠ .builtin "__main__.__loader__#opaque":=by
 cases ty with
 |
  exc ea T=>
  cases (show u=Value.ref _ from rx)
  exact⟨_,As T,(I.hok _ _ ea).1,λz=>nomatch z⟩
 |
  sqT h=>
  cases (show u=Value.ref _ from rx)
  obtain⟨its,rv,⟨o,e,c,_⟩,_⟩:=I.tuple h
  exact⟨_,kitx_tuple,⟨o,e,c⟩,λz=>nomatch z⟩
 |
  sqL h=>
  cases (show u=Value.ref _ from rx)
  obtain⟨its,rv,⟨o,n,e,c,_⟩,_⟩:=I.list h
  exact⟨_,kitx_list,⟨o,e,c⟩,λz=>nomatch z⟩
 |
  of ty=>
  cases ty with
  |non=>cases (show u=Value.none from rx);exact⟨_,kitx_none,True.intro,λz=>nomatch z⟩
  |bl y=>cases (show u=Value.bool y from rx);exact⟨_,kitx_bool,True.intro,λz=>nomatch z⟩
  |int i=>obtain⟨t,q⟩:=(show ∃t,u=Value.int i t from rx);cases q;exact⟨_,kitx_int,True.intro,λz=>nomatch z⟩
  |str y=>obtain⟨t,q⟩:=(show ∃t,u=Value.str y t from rx);cases q;exact⟨_,kitx_str,True.intro,λz=>nomatch z⟩
  |flt y=>obtain⟨t,q⟩:=(show ∃t,u=Value.float y t from rx);cases q;exact⟨_,kitx_float,True.intro,λz=>nomatch z⟩
  |
   @lst a xs ea=>
   cases (show u=Value.ref a from rx)
   obtain⟨_,_,n,_,h1⟩:=(show ObjOk X.prog X.w H s.heap a (.lst xs) from I.hok a _ ea)
   exact⟨_,kitx_list,⟨_,h1,rfl⟩,λz=>nomatch z⟩
  |
   @frz a ob xs ea=>
   cases (show u=Value.ref a from rx)
   obtain⟨_,_,_,n,_,h1⟩:=(show ObjOk X.prog X.w H s.heap a (.frz ob (.lst xs)) from I.hok a _ ea)
   exact⟨_,kitx_list,⟨_,h1,rfl⟩,λz=>nomatch z⟩
  |
   @tup a xs ea=>
   cases (show u=Value.ref a from rx)
   obtain⟨_,_,_,p⟩:=(show ObjOk X.prog X.w H s.heap a (.tup xs) from I.hok a _ ea)
   obtain⟨o,h1,h2,_⟩:=p
   exact⟨_,kitx_tuple,⟨o,h1,h2⟩,λz=>nomatch z⟩
  |
   @dK a kvs ea=>
   cases (show u=Value.ref a from rx)
   obtain⟨_,_,vs,_,p⟩:=(show ObjOk X.prog X.w H s.heap a (.dK kvs) from I.hok a _ ea)
   obtain⟨o,es,ep,h1,h2,_⟩:=p
   exact⟨_,kitx_dict,⟨o,h1,h2.1⟩,λz=>nomatch z⟩
  |
   @dT a kvs ea=>
   cases (show u=Value.ref a from rx)
   obtain⟨_,_,xs,_,o,es,ep,h1,h2,_⟩:=(show ObjOk X.prog X.w H s.heap a (.dT kvs) from I.hok a _ ea)
   exact⟨_,kitx_dict,⟨o,h1,h2.1⟩,λz=>nomatch z⟩
  |
   @ins a C dx fs ea cl ha hn htk hm=>
   cases (show u=Value.ref a from rx)
   obtain⟨mA,O,_⟩:=Dp I.hok ea
   obtain⟨od,J,_⟩:=O.look
   exact⟨_,kitx_own (cl.get _) cl.hd ha hn htk hm,J,λz=>nomatch z⟩
end
section
variable{X:Cx}
def f9:V->Option Value
 |.ref C=>some (.ref C)
 |.ty T=>some (.type T)
 |_=>none
def uk{c:V}{u v:Value}(h:f9 c=some v)(r:RelV c u):u=v:=by
 cases c with
 |ref C=>cases r;exact Oz h
 |ty T=>cases r;exact Oz h
 |_=>cases h
theorem qW:∀{cs:List V}{us vs:List Value},cs.mapM f9=some vs->Vals cs us->us=vs
 |
  [],_,vs,h,.nil=>by
  have h':some ([]:List Value)=some vs:=h
  exact Oz h'
 |
  c::cs,_,vs,h,.cons r rr=>by
  rw[P8] at h
  cases q:f9 c with
  |none=>rw[q] at h;cases h
  |
   some v=>
   rw[q] at h
   cases q2:cs.mapM f9 with
   |none=>rw[q2] at h;cases h
   |
    some vs'=>
    rw[q2] at h
    have h':some (v::vs')=some vs:=h
    cases h'
    rw[uk q r,qW q2 rr]
def Bh:CallR X (.builtin "isinstance") (λxs H Q=>∃x c t v b,xs=[x,c]/\TyX X.K H x t/\f9 c=some v/\kitOne X.K t v=some b/\Q (.bl b) H):=by
 intro pins s σ H xs us Q I r h
 obtain⟨x,c,t,v,b,rfl,ty,hc,hk,q⟩:=h
 obtain⟨u,w',rfl,rx,rc⟩:=ml r
 obtain rfl:=uk hc rc
 obtain⟨Hh,Z,p,hne⟩:=vE I rx ty
 exact kia_one Z I.kIn p hk hne λtk=>⟨.bl b,H,I.tok _,rfl,q⟩
end
end L2
namespace L2
open PySem PySem.Spec PyProof.Rows
def ObjOk.there{P:Program}{w:World}{H:Hp}{h:Heap}{a:Addr}{o:HO}(x:ObjOk P w H h a o):∃u,h.get? a=some u:=by
 cases o with
 |lst xs=>obtain⟨_,_,_,_,e⟩:=x;exact⟨_,e⟩
 |tup xs=>obtain⟨_,_,_,ob,e,_⟩:=x;exact⟨_,e⟩
 |dK kvs=>obtain⟨_,_,_,_,o,_,_,e,_⟩:=x;exact⟨_,e⟩
 |dT kvs=>obtain⟨_,_,_,_,o,_,_,e,_⟩:=x;exact⟨_,e⟩
 |set S n=>obtain⟨o,_,_,_,e,_⟩:=x;exact⟨_,e⟩
 |ins C dx fs=>obtain⟨_,_,_,e,_⟩:=x;exact⟨_,e⟩
 |own y=>exact x
 |xd fs=>obtain⟨_,⟨_,_,_,e,_⟩,_⟩:=x;exact⟨_,e⟩
 |rng lo hi=>obtain⟨_,_,_,e⟩:=x;exact⟨_,e⟩
 |frz ob u=>obtain⟨e,_⟩:=x;exact⟨_,e⟩
 |tbl ps=>exact⟨_,show h.get? a=some _ from x⟩
 |met f y=>exact⟨_,show h.get? a=some _ from x⟩
 |ext φ=>obtain⟨_,e,_⟩:=x;exact e
structure Fly(P:Program)(w:World)(outer:List Env)(H:Hp)(h₀:Heap)(H':Hp)(ea:Addr)(cls:Value)(h:Heap)(B:Heap)(t:Addr):Prop where
 un:Un (frs outer) [] H H' h₀ h
 hok:HOk P w H' h
 fl:Heap.FlyingW B outer ea cls (.ref t) h
 old:∀b o,h₀.get? b=some o->b∉frs outer->∃o',B.get? b=some o'
 trk:∀b o,H' b=some o->∃o',B.get? b=some o'
def CX1(P:Program)(w:World):CXT:=λouter H s E e s'=>∃(ea t:Addr) (cls:Value) (H':Hp) (B:Heap),e=.ref ea/\s'.os=s.os/\AllBare s'.gens/\Fly P w outer H s.heap H' ea cls s'.heap B t/\E cls none H'
def tD{env:Env}{outer:List Env}{L:Addr}(h:env.frame=some L):frs (env::outer)=L::frs outer:=by
 unfold frs
 rw[Pu,h]
section
variable{P:Program}{w:World}{outer:List Env}{H H':Hp}{h₀ h h' B:Heap}{ea t L:Addr}{cls:Value}
def Fly.step{outer':List Env}(F:Fly P w outer H h₀ H' ea cls h B t)(fl':Heap.FlyingW B outer' ea cls (.ref t) h')(up:h.UpToSlots h'):
 Un (frs outer) [] H H' h₀ h'/\HOk P w H' h':=by
 have st:=F.fl.1
 have same:∀b o,(∃o',B.get? b=some o')->h.get? b=some o->h'.get? b=some o:=λb o ⟨o',e⟩ q=>by
  have z:=st b o' e
  rw[q] at z;cases z
  exact fl'.1 b _ e
 have frame:∀b o,b∈frs outer->h.get? b=some o->∃sl,h'.get? b=some { o with slots:=sl }:=λb o hb q=>by
  obtain⟨_,o',ho',hd⟩:=F.fl.2.2.1.mem hb
  rw[q] at ho';cases ho'
  exact up b o q hd
 refine⟨⟨λb o e n hb hx=>same b o (F.old b o e hb) (F.un.keep b o e n hb hx),λb o e n hb hx=>?_,F.un.free,λb o e hx=>?_,F.un.tups,F.un.frzs,F.un.tbls⟩,λa o e=>?_⟩
 ·obtain⟨sl,q⟩:=F.un.slot b o e n hb hx
  obtain⟨sl',q'⟩:=frame b _ hb q
  exact⟨sl',q'⟩
 ·obtain⟨o',q⟩:=F.un.there b o e hx
  by_cases hb:b∈frs outer
  ·obtain⟨sl,q'⟩:=frame b _ hb q
   exact⟨_,q'⟩
  ·exact⟨o',same b o' (F.old b o e hb) q⟩
 ·refine (F.hok a o e).stay (λb u hb q=>same b u ?_ q) (λ_ q=>q) λ_ _ q=>q
  rcases hb with z |z
  ·rw[z];exact F.trk a o e
  ·exact F.trk b _ z
end
structure Cx.Top(X:Cx):Prop where
 ex:X.ex=[]
 stk:X.stack=X.env::X.outer
 fr:X.env.frame=some X.env.locals
section
variable{X:Cx}{pins:List (Addr×Obj)}{σ:St}{H:Hp}{s s':Shared}{E:XK}{e:Value}
def yd{A:Around}{E':Value->Shared->Prop}(T:X.Top)(hA:A.frames=some X.stack)(I:Inv X pins σ H s)(h:CX1 X.prog X.w X.stack H s E e s'):
 wpAny (model X.prog X.w) A (leaving X.env e) (λ_ s''=>CX1 X.prog X.w X.outer X.H₀ X.s₀ E e s'') E' s':=by
 obtain⟨ea,t,cls,H',B,rfl,os,bare,F,q⟩:=h
 have F0:=F
 rw[T.stk] at F
 have hf:=tD (outer:=X.outer) T.fr
 refine wpAny_leaves_onW (by rw[hA,T.stk]) T.fr F.fl λh'' fl'' up=>?_
 obtain⟨un2,hok2⟩:=F.step fl'' up
 have exn:∀b,b∉X.ex:=λb z=>by rw[T.ex] at z;cases z
 have neL:∀b o,X.s₀.heap.get? b=some o->b≠X.env.locals:=λb o e=>OI (Ot (Oh e) I.ok.above)
 have notin:∀b o,X.s₀.heap.get? b=some o->b∉frs X.outer->b∉frs (X.env::X.outer):=λb o e hb z=>by
  rw[hf] at z
  rcases Ow.mp z with z |z
  ·exact neL b o e z
  ·exact hb z
 refine⟨ea,t,cls,H',B,rfl,os.trans I.os,bare,⟨⟨λb o e n hb hx=>?_,λb o e n hb hx=>?_,λb o e n hx=>?_,λb o e hx=>?_,λb xs e=>un2.tups b xs (I.base.tups b xs e),λb o xs e=>un2.frzs b o xs (I.base.frzs b o xs e),λb ps e=>?_⟩,hok2,fl'',λb o e hb=>?_,F.trk⟩,q⟩
 ·exact un2.keep b o (I.base.keep b o e n hb (exn b)) (I.base.free b o e n (exn b)) (notin b o e hb) (by simp)
 ·obtain⟨sl,e1⟩:=I.base.slot b o e n hb (exn b)
  obtain⟨sl',e2⟩:=un2.slot b _ e1 (I.base.free b o e n (exn b)) (by rw[hf];exact N9 _ hb) (by simp)
  exact⟨sl',e2⟩
 ·obtain⟨o',e1⟩:=I.base.there b o e (exn b)
  exact un2.free b o' e1 (I.base.free b o e n (exn b)) (by simp)
 ·obtain⟨o',e1⟩:=I.base.there b o e (exn b)
  exact un2.there b o' e1 (by simp)
 ·obtain⟨m1,e1⟩:=I.base.tbls b ps e
  obtain⟨m2,e2⟩:=un2.tbls b _ e1
  exact⟨m1++m2,by rw[e2,Array.append_assoc]⟩
 ·obtain⟨o',e1⟩:=I.base.there b o e (exn b)
  exact F.old b o' e1 (notin b o e hb)
def Bj{A:Around}{E':Value->Shared->Prop}{h':Heap}{ea:Addr}{cls:Value}{args:List Value}(T:X.Top)(hA:A.frames=some X.stack)(I:Inv X pins σ H s)(hx:Heap.MadeExcOf s.heap h' ea cls args)(q:E cls none H):
 wpAny (model X.prog X.w) A (leaving X.env (.ref ea)) (λ_ s''=>CX1 X.prog X.w X.outer X.H₀ X.s₀ E (.ref ea) s'') E' { s with heap:=h' }:=by
 have hf:=tD (outer:=X.outer) T.fr
 have stk:=I.stack
 rw[T.stk] at stk
 have hin:∀env∈(X.env::X.outer),∀b,env.frame=some b->b∈frs (X.env::X.outer):=λenv he b hb=>List.mem_filterMap.mpr ⟨env,he,hb⟩
 refine wpAny_leaves_madeW (base:=W.hideAll s.heap (frs (X.env::X.outer))) (h:=s.heap) (by rw[hA,T.stk]) T.fr (λb o q=>W.of_hideAll _ q) (W.funFrames_hide stk hin) hx λh'' t fl tup tn up=>?_
 have inB:∀b o,s.heap.get? b=some o->b∉frs (X.env::X.outer)->(W.hideAll s.heap (frs (X.env::X.outer))).get? b=some o:=λb o e hb=>W.hideAll_get _ e hb
 have free:∀b∈frs (X.env::X.outer),H b=none:=λb hb=>I.stkFree b (by rw[T.stk];exact hb)
 have up2:s.heap.UpToSlots h'':=(Heap.UpToSlots.of_keeps hx.keeps).trans up
 have exn:∀b,b∉X.ex:=λb z=>by rw[T.ex] at z;cases z
 have neL:∀b o,X.s₀.heap.get? b=some o->b≠X.env.locals:=λb o e=>OI (Ot (Oh e) I.ok.above)
 have notin:∀b o,X.s₀.heap.get? b=some o->b∉frs X.outer->b∉frs (X.env::X.outer):=λb o e hb z=>by
  rw[hf] at z
  rcases Ow.mp z with z |z
  ·exact neL b o e z
  ·exact hb z
 have trk:∀b o,H b=some o->∃o',(W.hideAll s.heap (frs (X.env::X.outer))).get? b=some o':=λb o e=>by
  obtain⟨u,hu⟩:=(I.hok b o e).there
  exact⟨u,inB b u hu λz=>by rw[free b z] at e;cases e⟩
 refine⟨ea,t,cls,H,_,rfl,I.os,I.bare,⟨⟨λb o e n hb hx=>?_,λb o e n hb hx=>?_,λb o e n hx=>?_,λb o e hx=>?_,I.base.tups,I.base.frzs,I.base.tbls⟩,λa o e=>?_,fl,λb o e hb=>?_,trk⟩,q⟩
 ·exact fl.1 b o (inB b o (I.base.keep b o e n hb (exn b)) (notin b o e hb))
 ·obtain⟨sl,e1⟩:=I.base.slot b o e n hb (exn b)
  obtain⟨_,o',ho',hd⟩:=I.ok.funs.mem hb
  rw[e] at ho';cases ho'
  obtain⟨sl',e2⟩:=up2 b _ e1 hd
  exact⟨sl',e2⟩
 ·exact I.base.free b o e n (exn b)
 ·obtain⟨o',e1⟩:=I.base.there b o e (exn b)
  by_cases hb:b∈frs X.outer
  ·obtain⟨_,o2,ho2,hd⟩:=I.funs.mem hb
   rw[e1] at ho2;cases ho2
   obtain⟨sl',e2⟩:=up2 b _ e1 hd
   exact⟨_,e2⟩
  ·exact⟨o',fl.1 b o' (inB b o' e1 (notin b o e hb))⟩
 ·refine (I.hok a o e).stay (λb u hb q=>?_) (λ_ q=>q) λ_ _ q=>q
  refine fl.1 b u (inB b u q λz=>?_)
  rcases hb with y |y
  ·rw[y] at z;rw[free a z] at e;cases e
  ·rw[free b z] at y;cases y
 ·obtain⟨o',e1⟩:=I.base.there b o e (exn b)
  exact⟨o',inB b o' e1 (notin b o e hb)⟩
end
end L2
namespace L2
open PySem PySem.Spec PyProof.Rows
section
variable{P:Program}{w:World}{K:W.Frag}{mg:Str->Option Value}{base:Heap}{N:List Str}{qual:Str}{scope:Scope}{f:Addr}{cd:Value}{A:Around}{outer:List Env}{s:Shared}{H:Hp}{E:XK}
def CZ:(fo (CX1 P w) P w K mg base N qual scope f cd A outer s H E).Top:=⟨rfl,rfl,rfl⟩
def aD:uF (CX1 P w) (fo (CX1 P w) P w K mg base N qual scope f cd A outer s H E) E:=λpins σ H s e s' I h=>yd CZ I.ok.frames I h
def Lr{X:Cx}:uF (CX1 P w) X E0:=λpins σ H s e s' I ⟨_,_,_,_,_,_,_,_,_,q⟩=>q.elim
def ft:PassesOwn (model P w) (fo (CX1 P w) P w K mg base N qual scope f cd A outer s H E).A (fo (CX1 P w) P w K mg base N qual scope f cd A outer s H E).env (fo (CX1 P w) P w K mg base N qual scope f cd A outer s H E).xe:=PassesOwn.leaving
def Rz(X:Cx)(E:XK):Prop:=∀(pins:List (Addr×Obj)) (σ:St) (H:Hp) (s:Shared) (h':Heap) (ea:Addr) (cls:Value) (args:List Value),Inv X pins σ H s->Heap.MadeExcOf s.heap h' ea cls args->E cls none H->X.xe (.ref ea) { s with heap:=h' }
def rz1:Rz (fo (CX1 P w) P w K mg base N qual scope f cd A outer s H E) E:=λpins σ H s h' ea cls args I hx q=>Bj CZ I.ok.frames I hx q
def Fun.okR{x qual:Str}{st:Stmt}{f:Addr}{fd:FuncData}{N ps:List Str}{k:Nat}{sp:Sp}(F:Fun K x qual st f fd)(S:FnScope N ps (az st))(len:∀vs H Q E,sp vs H Q E->vs.length=ps.length)
 (im:∀(cdv:Value) (A:Around) (outer:List Env) (s:Shared) (H:Hp) (vs:List V) (Q:VK) (E:XK),Room k (A.deeper (envOfC qual (az st) s.heap.objs.size f cdv))->sp vs H Q E->
  ∃t,PSs (fo (CX1 P w) P w K mg base N qual (az st) f cdv A outer s H E) (cn st) t/\t { nx:=λ_ H'=>Q .non H',rt:=Q } (gp N vs) H):FnOk P w K mg base (CX1 P w) (k+1) f fd ps sp:=by
 obtain⟨oc,od,kV,doc,pm,an,cdv,ct,osl,rfl,lk,hcd⟩:=F.ex
 exact K4 lk hcd S len λA outer s H vs Q E hr hsp=>im cdv A outer s H vs Q E hr hsp
end
abbrev eY:List Value:=[.type "ValueError",.type "Exception",.type "BaseException",.type "object"]
def zM{K:W.Frag}{h:Heap}{C:Addr}(X:K.In h)(q:W.excIn K C eY "ValueError.__new__"=true):
 ∃bm N nm q' bs hdct sn sub ab col dd k0 k1 k2 k3 k5 mN,h.get? C=some (excClassObj nm q' C N bs bm hdct sn sub ab col dd k0 k1 k2 k3 k5 "ValueError.__new__")/\h.Ns N mN/\mN "__init__"=none/\OwnTail h eY bm:=by
 unfold W.excIn at q
 split at q
 ·rename_i dd cd sl ho
  split at q
  ·rename_i C' bm k0 k1 k2 k3 n k5 hm hs
   simp only[Ol,Qf,Bool.not_eq_true'] at q
   obtain⟨⟨⟨⟨⟨rfl,rfl⟩,hdel⟩,ht⟩,hok⟩,hni⟩:=q
   obtain⟨nm,bs,mro,ns,qn,hd,sn,sub,ab,col,del⟩:=cd
   dsimp only at hm hdel hok hni
   subst hm hdel
   have hsl:sl=#[k0,k1,k2,k3,some (.builtin "ValueError.__new__"),k5]:=by
    obtain⟨l⟩:=sl
    simp only at hs
    rw[hs]
   subst hsl
   exact⟨bm,ns,nm,qn,bs,hd,sn,sub,ab,col,dd,k0,k1,k2,k3,k5,_,X _ _ ho,.of_isNs (W.isNs_of_in X hok),W.nsMap_none_of_in X hok hni,W.tail_of_in X ht⟩
  ·cases q
 ·cases q
section
variable{X:Cx}{x:Str}{C:Addr}{E:XK}{np cpos pos:Pos}{e₀:Expr}{es:List Expr}{ta:TA}
def HA(C:Addr)(E:XK)(ta:TA):TS:=λ_ σ H=>ta σ H λvs H1=>vs.length<=sizeLine/\E (.ref C) none H1
def BA(hc:X.calm=true)(hR:Rz X E)(hg:Gl X x)(hm:X.mg x=some (.ref C))(hq:W.excIn X.K C eY "ValueError.__new__"=true)(ha:PA X (e₀::es) ta)
 (he:starEach (e₀::es) X.env=(false,eval e₀ X.env)::starEach es X.env:=by rfl) (bi:(backTo cpos (starEach es X.env)).any (·.1)=false:=by rfl) (hd:(x==("__debug__" : Str))=false:=by decide):
 PS X (.Raise (some (.Call (.Name x np) (e₀::es) [] cpos)) none pos) (HA C E ta):=by
 intro pins s σ H D I h
 obtain⟨bm,N,nm,q',bs,hdct,sn,sub,ab,col,dd,k0,k1,k2,k3,k5,mN,hC,hN,hni,T⟩:=zM I.ok.mod.kin hq
 refine wpAny_Raise_call_subT (C:=C) (nm:=nm) (q:=q') (N:=N) (bs:=bs) (bm:=bm) (hdct:=hdct) (sn:=sn) (sub:=sub) (ab:=ab) (col:=col) (dd:=dd) (k0:=k0) (k1:=k1) (k2:=k2) (k3:=k3) (k5:=k5)
  PySem.F.excBase_ValueError (mN:=mN) (T.hasType PySem.F.excBase_ValueError.hasBase) (I.ok.hd hc) (by rw[he];show (false || (backTo cpos (starEach es X.env)).any (·.1))=false;rw[bi];rfl) hni (pQ I hg hm ⟨rfl,?_⟩ hd)
 have hA:=ha cpos pins s σ H _ I h
 rw[he] at hA ⊢
 refine Calls.evalArgs_plain (thn hA λus s2 ⟨vs,H2,I2,r2,hz,q2⟩=>⟨rfl,by rw[<- r2.length];exact hz,I2.bk _ _ hC,hN.keeps I2.bk,T.keeps I2.bk,λh' e hm'=>?_⟩)
 exact hR pins σ H2 s2 h' e _ _ I2 hm' q2
end
abbrev XS:=St->XK
abbrev TEx:=St->Hp->VK->XK->Prop
abbrev TSx:=Ends->XS->St->Hp->Prop
def XP(X:Cx)(pins:List (Addr×Obj))(E:XS)(e:Value)(s':Shared):Prop:=∃σ1 H1 s1,Inv X pins σ1 H1 s1/\CX1 X.prog X.w X.stack H1 s1 (E σ1) e s'
def PEx(X:Cx)(e:Expr)(t:TEx):Prop:=
 ∀(pins:List (Addr×Obj)) (s:Shared) (σ:St) (H:Hp) (Q:VK) (E:XS),Inv X pins σ H s->t σ H Q (E σ)->wpAny (model X.prog X.w) X.A (eval e X.env) (EP X pins σ Q) (XP X pins E) s
section
variable{X:Cx}{st:Stmt}{b0:List Stmt}{t u:TSx}{e:Expr}{es:List Expr}{te:TEx}{pos p:Pos}{x:Str}{f:Addr}{fd:FuncData}{ps:List Str}{sp:Sp}{k:Nat}{ta:TA}{dvs:List V}{ds:List Value}
end
section
variable{X:Cx}{pins:List (Addr×Obj)}{σ:St}{H:Hp}{s:Shared}{ea:Addr}
end
structure XHand(K:W.Frag)(C:Addr):Prop where
 ty:W.typeIn K (.ref C)=some (.type "type")
 cls:(W.clsIn K C).isSome=true
 mb:W.mroIn K C (.type "BaseException")=some true
section
variable{X:Cx}{x n:Str}{C:Addr}{i:Nat}{body suite:List Stmt}{b₀:Stmt}{tb:TSx}{ts:TS}{np hpos pos:Pos}
end
end L2
namespace L2
open PySem PySem.Spec PyProof.Rows
mutual
inductive Rep(K:W.Frag)(H:Hp):V->PyData->Prop where
 |non:Rep K H .non .none
 |bl (b:Bool):Rep K H (.bl b) (.bool b)
 |int (i:Int):Rep K H (.int i) (.int i)
 |str (x:Str):Rep K H (.str x) (.str x)
 |tup {a:Addr}{xs:List V}{ds:List PyData} (h:SqT K H a xs) (r:Reps K H xs ds):Rep K H (.ref a) (.tuple ds)
 |lst {a:Addr}{xs:List V}{ds:List PyData} (h:SqL K H a xs) (r:Reps K H xs ds):Rep K H (.ref a) (.list ds)
inductive Reps(K:W.Frag)(H:Hp):List V->List PyData->Prop where
 |nil:Reps K H [] []
 |cons {x:V}{d:PyData}{xs:List V}{ds:List PyData} (r:Rep K H x d) (rr:Reps K H xs ds):Reps K H (x::xs) (d::ds)
end
section
variable{X:Cx}{pins:List (Addr×Obj)}{σ:St}{H H':Hp}{s:Shared}{K:W.Frag}
def Rep.reads(I:Inv X pins σ H s){v:V}{d:PyData}{u:Value}(r:Rep X.K H v d)(q:RelV v u):∃as,Reads s.heap u d as:=
 Rep.rec (motive_1:=λv d _=>∀u,RelV v u->∃as,Reads s.heap u d as) (motive_2:=λvs ds _=>∀us,Vals vs us->∃as,ReadsAll s.heap us ds as)
  (λu r=>by cases r;exact⟨_,.none⟩) (λb u r=>by cases r;exact⟨_,.bool b⟩) (λi u r=>by obtain⟨t,rfl⟩:=r;exact⟨_,.int i t⟩) (λx u r=>by obtain⟨t,rfl⟩:=r;exact⟨_,.str x t⟩)
  (λh _ ih u r=>by
   cases r
   obtain⟨its,rv,⟨o,e,c,n,d⟩,_⟩:=I.tuple h
   obtain⟨as,q⟩:=ih _ rv
   exact⟨as,.tuple e c d (by simpa using q)⟩)
  (λh _ ih u r=>by
   cases r
   obtain⟨its,rv,⟨o,n,e,c,_,d⟩,_⟩:=I.list h
   obtain⟨as,q⟩:=ih _ rv
   exact⟨_,.list e c d (by simpa using q)⟩)
  (λus r=>by cases r;exact⟨_,.nil⟩)
  (λ_ _ a b us q=>by
   cases q with
   |
    cons q1 q2=>
    obtain⟨as,h1⟩:=a _ q1
    obtain⟨bs,h2⟩:=b _ q2
    exact⟨_,.cons h1 h2⟩) r u q
end
section
variable{X:Cx}
def xH(K:W.Frag):R2:=λx y H Q=>∃dx dy,Rep K H x dx/\Rep K H y dy/\SeqAt.shaped dx=true/\SeqAt.shaped dy=true/\Q (.bl (PyData.eqv dx dy)) H
def wY(K:W.Frag):R2:=λx y H Q=>∃dx dy,Rep K H x dx/\Rep K H y dy/\SeqAt.shaped dx=true/\SeqAt.shaped dy=true/\Q (.bl (!PyData.eqv dx dy)) H
def Gu(hu:X.A.units+64<cLine):OpR X (compareOp .Eq) (xH X.K):=by
 intro pins s σ H x y v u Q I rx ry h
 obtain⟨dx,dy,r1,r2,h1,h2,q⟩:=h
 obtain⟨as,q1⟩:=r1.reads I rx
 obtain⟨bs,q2⟩:=r2.reads I ry
 exact SeqAt.compareEq_shaped q1 q2 h1 h2 hu (zJ I q rfl)
def Hd(hu:X.A.units+64<cLine):OpR X (compareOp .NotEq) (wY X.K):=by
 intro pins s σ H x y v u Q I rx ry h
 obtain⟨dx,dy,r1,r2,h1,h2,q⟩:=h
 obtain⟨as,q1⟩:=r1.reads I rx
 obtain⟨bs,q2⟩:=r2.reads I ry
 exact SeqAt.compareNe_shaped q1 q2 h1 h2 hu (zJ I q rfl)
open PySem.Builtin.Int (intBits)
def CDivB(i j:Int):Prop:=j≠0/\intBits j<=8000
def Dc(i j:Int):Prop:=intBits i<=100000/\intBits j<=100000
def gC:OpR X (binaryOp .FloorDiv) (rI CDivB λi j=>.int (i.fdiv j)):=opI λi j _ _ _ _ _ hc q=>floordiv_int hc.1 q (.inl (PyProof.noPylong_of_log2 (by
 have h:=hc.2
 have h0:=hc.1
 unfold intBits at h
 have hb:(j==0)=false:=by simpa using h0
 rw[hb] at h
 simp only[O7,PQ] at h
 omega)))
def Ei:OpR X (binaryOp .Mult) (rI Dc λi j=>.int (i*j)):=opI λi j _ _ _ _ _ hc q=>mul_int q (PySem.IntMulOk.of_le hc.1 hc.2 (by decide))
def yI(bs:List Bool):((List.range bs.length).all λi=>bs.getD i false)=bs.all id:=by
 rw[Bool.eq_iff_iff,OV,OV]
 constructor
 ·intro h x hx
  obtain⟨i,hi,rfl⟩:=List.mem_iff_getElem.mp hx
  have:=h i (P9.mpr hi)
  simpa [Pm,hi] using this
 ·intro h i hi
  have hi':=P9.mp hi
  have:=h bs[i] (List.getElem_mem hi')
  simpa [Pm,hi'] using this
def AW(hc:X.calm=true):CallR X (.builtin "all") (λxs H Q=>∃(a:Addr) (bs:List Bool),xs=[.ref a]/\SqL X.K H a (bs.map V.bl)/\Q (.bl (bs.all id)) H):=by
 intro pins s σ H xs us Q I r h
 obtain⟨a,bs,rfl,hq,q⟩:=h
 obtain⟨u,rfl,ru⟩:=gX r
 cases ru
 obtain⟨its,rv,p,hz⟩:=I.list hq
 have hl:=rv.length
 rw[N8] at hl
 have hlt:a<s.heap.objs.size:=by obtain⟨o,n,e,_⟩:=p;exact Oh e
 refine call_all_walk (Qw p.isList ?_)
 refine⟨s.heap.objs.size,_,_,_,_,_,λi=>bs.getD i false,rfl,Walks.list (A:=X.A.in1) (I.ok.hd hc) s.heap.objs.size a (OI hlt) its.toArray,⟨⟨_,Ou _ rfl,rfl,rfl⟩,(p.keeps λb o e=>Og _ e).isList⟩,λi v s' Q' E' hP hQ=>?_,λh' tk hk=>?_⟩
 ·have hP':its[i]?=some v:=by simpa using hP
  have hi:i<bs.length:=by rw[hl];exact (N_.mp hP').1
  have hb:(bs.map V.bl)[i]?=some (V.bl bs[i]):=by simp [hi]
  obtain⟨u,hu,ru⟩:=rv.get hb
  rw[hP'] at hu
  cases hu
  cases ru
  refine PK ?_
  have e:bs.getD i false=bs[i]:=by simp [Pm,hi]
  show Q' bs[i] s'
  rw[<- e]
  exact hQ
 ·have e1:its.toArray.size=bs.length:=by rw[Oj,hl]
  rw[e1,yI]
  have hn:H s.heap.objs.size=none:=I.fresh
  have I1:Inv X pins σ H { s with heap:=s.heap.push { cls:=.type "list_iterator",dict:=none,data:=.fields #[.ref a,rawInt 0] } }:=I.kept (t':=s.toks) λb o e=>Og _ e
  refine⟨.bl _,H,?_,rfl,q⟩
  refine I.kept (t':=tk) λb o e=>?_
  have hne:b≠s.heap.objs.size:=OI (Oh e)
  exact hk b o (by simpa using hne) (Og _ e)
end
end L2
namespace L2
open PySem PySem.Spec PyProof.Rows
structure Def(K:W.Frag)(mg:Str->Option Value)(x:Str)(st:Stmt):Prop where
 ex:∃f fd,Fun K x x st f fd/\mg x=some (.ref f)
def aS{K:W.Frag}{h:Heap}{mg:Str->Option Value}{x:Str}{st:Stmt}{f:Addr}{oc:Value}{od an:Option Addr}{osl:Array (Option Value)}{kV doc pm cdv ct:Value}(X:K.In h)(G:h.Ns mainGlobals mg)
 (a:W.nsIn K mainGlobals x=some (some (.ref f))) (l:K.lookup f=some ⟨oc,od,.func (W.fnOf x x (d7 st) (cn st) (az st) .none kV doc pm an cdv ct),osl⟩)
 (c:W.codeIn K cdv x=true) (k:W.keepIn K (.ref f)=true):Def K mg x st:=⟨f,_,H0 l c k,QE X G a⟩
def Fun.look{K:W.Frag}{x qual:Str}{st:Stmt}{f:Addr}{fd:FuncData}(F:Fun K x qual st f fd):∃oc od osl,K.lookup f=some ⟨oc,od,.func fd,osl⟩:=by
 obtain⟨oc,od,kV,doc,pm,an,cdv,ct,osl,rfl,lk,hcd⟩:=F.ex
 exact⟨oc,od,osl,lk⟩
structure Callee(P:Program)(w:World)(K:W.Frag)(mg:Str->Option Value)(base:Heap)(x:Str)(k:Nat)(ps:List Str)(sp:Sp):Prop where
 ex:∃f fd,FnOk P w K mg base (CX1 P w) k f fd ps sp/\mg x=some (.ref f)/\W.keepIn K (.ref f)=true/\Binds K fd ps []/\∃oc od osl,K.lookup f=some ⟨oc,od,.func fd,osl⟩
section
variable{P:Program}{w:World}{K:W.Frag}{mg:Str->Option Value}{base:Heap}{x:Str}{st:Stmt}{k:Nat}{ps N:List Str}{sp:Sp}
def Callee.imp{sp':Sp}(C:Callee P w K mg base x k ps sp)(h:∀vs H Q E,sp' vs H Q E->sp vs H Q E):Callee P w K mg base x k ps sp':=by
 obtain⟨f,fd,F,r⟩:=C.ex
 exact⟨f,fd,F.imp h,r⟩
def Def.okR(D:Def K mg x st)(S:FnScope N ps (az st))
 (hb:∀(kV doc pm:Value) (an:Option Addr) (cdv ct:Value) (us:List Value),us.length=ps.length->bindArgs (W.fnOf x x (d7 st) (cn st) (az st) .none kV doc pm an cdv ct) ⟨us,[]⟩=pure (ps.zip us))
 (len:∀vs H Q E,sp vs H Q E->vs.length=ps.length)
 (im:∀(f:Addr) (cdv:Value) (A:Around) (outer:List Env) (s:Shared) (H:Hp) (vs:List V) (Q:VK) (E:XK),Room k (A.deeper (envOfC x (az st) s.heap.objs.size f cdv))->sp vs H Q E->
  ∃t,PSs (fo (CX1 P w) P w K mg base N x (az st) f cdv A outer s H E) (cn st) t/\t { nx:=λ_ H'=>Q .non H',rt:=Q } (gp N vs) H):Callee P w K mg base x (k+1) ps sp:=by
 obtain⟨f,fd,F,m⟩:=D.ex
 exact⟨f,fd,F.okR S len (im f),m,F.kp,F.binds hb,F.look⟩
end
section
variable{X:Cx}{x:Str}{p pos:Pos}{e:Expr}{es:List Expr}{ta:TA}{k:Nat}{ps:List Str}{sp:Sp}{E:XK}
end
section
variable{X:Cx}{K:W.Frag}{tg l:Expr}{tl:TE}
def allK(h:X.K=K)(hc:X.calm=true):CallR X (.builtin "all") (λxs H Q=>∃(a:Addr) (bs:List Bool),xs=[.ref a]/\SqL K H a (bs.map V.bl)/\Q (.bl (bs.all id)) H):=by subst h;exact AW hc
def eW(h:X.K=K)(hu:X.A.units+64<cLine):OpR X (compareOp .Eq) (xH K):=by subst h;exact Gu hu
def pE(h:X.K=K)(hu:X.A.units+64<cLine):OpR X (compareOp .NotEq) (wY K):=by subst h;exact Hd hu
def inK(h:X.K=K):OpR X (compareOp .In) (rIn K false):=by subst h;exact zm
end
end L2
namespace L2
open PySem PySem.Spec PyProof.Rows
section
variable{X:Cx}
def Jc{jp am tg:Expr}{ifs:List Expr}{scope:Scope}{pos:Pos}{wi:TI}{g:TG}{tc:TT}{te:TE}{N:List Str}{sub:List (Option Nat)}{iT:Nat}{xT:Str}{px spos:Pos}
 (hc:X.calm=true) (hN:X.N.Nodup) (hix:X.N[iT]?=some xT) (hxl:Loc X.env.scope xT) (hi:PI X tg am wi)
 (hk:scope.kind=.function) (hnc:∀x∈scope.names,x.2 ≠ .cell) (bn:∀x∈scope.names,x.2=.local->scope.names.lookup x.1=some .local)
 (hfr:∀x∈scope.names,x.2=.free->X.env.kindOf x.1=some .cell\/X.env.kindOf x.1=some .free)
 (hsl:sub.length=N.length) (ii:∀(j i:Nat) (x:Str),sub[j]?=some (some i)->N[j]?=some x->X.N[i]?=some x/\scope.names.lookup x=some .free)
 (hg:∀cl C s₂ H fp,PG (bQ X N scope cl C s₂ H fp) tg g) (ht:∀cl C s₂ H fp,PTs (bQ X N scope cl C s₂ H fp) ifs tc) (he:∀cl C s₂ H fp,PE (bQ X N scope cl C s₂ H fp) jp te)
 (hsw:swapsWith (.ListComp jp [⟨tg,am,ifs,0⟩] scope pos) (some (.Name xT px)) spos.line X.env=pure true)
 (hs:∀x,foldedSetIterable am X.env x=pure x:=by intro _;rfl) (hf:X.fn xT=true\/X.env.scope.names.lookup xT=some .local:=by first |exact .inl rfl |exact .inr rfl |assumption):
 PS X (.Assign [.Name xT px] (.ListComp jp [⟨tg,am,ifs,0⟩] scope pos) spos) (uC (mO wi sub g tc te) (oz iT)):=by
 intro pins s σ H D0 I h
 obtain⟨cl,hclos,hcl,hclf⟩:=lz (env:=X.env) (scope:=scope) λx hx hf=>I.ok.has x.1 (hfr x hx hf)
 rw[exec_Assign_Name_used _ _ _ _ hsw]
 refine N7 (QY (N7 ?_))
 show wpAny _ X.A (do let _ <- comprehension (.ListComp jp [⟨tg,am,ifs,0⟩] scope pos) scope X.env _ (newList []) false (eval am X.env) (some (assign (.Name xT px) X.env))) _ _ s
 refine N7 (ON (wpAny_comprehension_free (use:=some (assign (.Name xT px) X.env)) (Q:=λ_ s'=>SP X pins D0 .next s') rfl hs hclos hk bn ?_) (λ_ s' hq=>Om (Om hq)) λ_ _ e=>e)
 show wpAny _ _ (eval am X.env) _ _ _
 refine thn (hi pins s σ H _ I h) λv s1 h1=>thn h1 λitv s2 h2=>?_
 obtain⟨it,fp,tn,J,H2,e,I2,T,st2,f2,W,⟨m0,w0⟩,turn⟩:=h2
 subst e
 refine O2 (wpAny_newFunctionEnv hnc (by intro y hy;simp at hy) (λh₁ hns₁ hsb₁=>?_) hk)
 dsimp only at hns₁ hsb₁ ⊢
 generalize hH2:s2.heap.push { cls:=.type "list",dict:=none,data:=.seq ([]:List Value).toArray }=G2 at hns₁ hsb₁ ⊢
 have hC:G2.objs.size=s2.heap.objs.size+1:=by rw[<- hH2,Pp]
 have hDC:s2.heap.objs.size≠G2.objs.size:=by omega
 have below:∀b,b<s2.heap.objs.size->b≠G2.objs.size/\b≠s2.heap.objs.size:=λb hb=>⟨by omega,by omega⟩
 have old:∀b o,s2.heap.get? b=some o->h₁.get? b=some o:=λb o e=>hsb₁.extBut b o (below b (Oh e)).1 (Og _ (hH2 ▸ Og _ e))
 have hD₁:h₁.get? s2.heap.objs.size=some { cls:=.type "list",dict:=none,data:=.seq ([]:List Value).toArray }:=hsb₁.extBut _ _ hDC (Og _ (hH2 ▸ Ou _ rfl))
 have fresh:∀a,s2.heap.objs.size<=a->s2.heap.get? a=none:=λa ha=>PL ha
 have cellOld:∀x c,cl.lookup x=some c->c<s2.heap.objs.size:=λx c e=>by
  obtain⟨v,z⟩:=I2.cell x c (hcl x c e)
  exact z.lt
 have fpOld:∀b∈fp,b<s2.heap.objs.size:=λb hb=>by
  obtain⟨o,e,_⟩:=T.obj _ _ st2 b hb
  exact Oh e
 let Y:Cx:=bQ X N scope cl G2.objs.size s2 H2 fp
 have okY:Y.Ok
  := by
  refine⟨I2.ok.mod,?_,I2.ok.glob,I2.ok.blt,?_,λx y c e1 e2=>I2.ok.inj x y c (hcl x c e1) (hcl y c e2),λx hx=>?_,λx c hfn _=>absurd hfn Oi,I2.ok.hd,I2.ok.frames,.inl rfl,
   λb hb=>⟨?_,λx c e z=>?_⟩,I2.bs,Oy I2.ok.bsz I2.sz,λb o e hb=>?_,λb hb hf=>?_,I2.stack,I2.stkFree⟩
  ·show (relabel scope X.env).kind=.function
   exact hk
  ·show s2.heap.objs.size<=G2.objs.size
   omega
  ·have hx':(
    relabel scope X.env).names.lookup x=some .cell\/(relabel scope X.env).names.lookup x=some .free:=hx
   have:∃k,
    (x,k)∈scope.names/\k=.free:=by
    have gen:∀(names:List (Str×NameKind)),(∀y∈names,y.2 ≠ .cell)->∀kk,(kk=NameKind.cell\/kk=NameKind.free)->(names.map λ(n,k)=>if (k==NameKind.free&&X.env.scope.kind == .function&&X.env.kindOf n==some .cell) then (n,NameKind.cell) else (n,k)).lookup x=some kk->∃k,(x,k)∈names/\k=.free:=by
     intro names
     induction names with
     |nil=>intro _ kk _ e;simp at e
     |
      cons y r ih=>
      intro hn kk hkk e
      obtain⟨n,k⟩:=y
      rw[Of,Pc] at e
      by_cases hkf:k=.free
      ·subst hkf
       by_cases hxn:x=n
       ·exact⟨.free,by rw[hxn];exact Od,rfl⟩
       ·have hb:(x==(if (NameKind.free==NameKind.free&&X.env.scope.kind == .function&&X.env.kindOf n==some .cell)=true then (n,NameKind.cell) else (n,NameKind.free)).1)=false:=by
         split <;> exact Ov.mpr hxn
        rw[hb] at e
        obtain⟨k',m,q⟩:=ih (λz hz=>hn z (N9 _ hz)) kk hkk e
        exact⟨k',N9 _ m,q⟩
      ·have hb0:(k==NameKind.free&&X.env.scope.kind == .function&&X.env.kindOf n==some .cell)=false:=by
        have:(k==NameKind.free)=false:=by simpa using hkf
        rw[this];rfl
       rw[hb0] at e
       simp only[O7,PQ] at e
       cases q:x==n with
       |
        true=>
        rw[q] at e
        have e':k=kk:=Oz e
        subst e'
        rcases hkk with z |z
        ·exact absurd z (hn (n,k) Od)
        ·exact absurd z hkf
       |
        false=>
        rw[q] at e
        obtain⟨k',m,q⟩:=ih (λz hz=>hn z (N9 _ hz)) kk hkk e
        exact⟨k',N9 _ m,q⟩
    rcases hx' with z |z
    ·exact gen scope.names hnc _ (.inl rfl) z
    ·exact gen scope.names hnc _ (.inr rfl) z
   obtain⟨k,m,q⟩:=this
   exact hclf (x,k) m q
  ·show b≠G2.objs.size
   exact (below b (fpOld b hb)).1
  ·exact (f2 b hb).2.2.2.2.1 x c (hcl x c e) z
  ·rcases (f2 b hb).2.2.2.1 with z |z
   ·exact I2.ok.noex b o e z
   ·exact absurd (Ot (Oh e) (Oy I2.ok.bsz z)) (OS _)
  ·have hf':b∈frs X.stack:=hf
   rcases Ow.mp (I2.stkSub b hf') with z |z
   ·exact (f2 b hb).2.1 z
   ·exact (f2 b hb).2.2.1 z
 have startLoc
  : ∃m,h₁.Ns G2.objs.size m/\∀(i:Nat) (x:Str) (v:V),N[i]?=some x->(dI sub σ)[i]?=some (some v)->Vis (relabel scope X.env) x->∃u,RelV v u/\BY Y.env h₁ m x u:=by
  refine⟨_,hns₁,λj x v e1 e2 e3=>?_⟩
  unfold dI at e2
  rw[OD] at e2
  cases q:sub[j]? with
  |none=>rw[q] at e2;cases e2
  |
   some o=>
   rw[q] at e2
   cases o with
   |none=>cases e2
   |
    some i=>
    obtain⟨hNi,hfree⟩:=ii j i x q e1
    have e2':(σ[i]?).bind id=some v:=Oz e2
    have e2'':σ[i]?=some (some v):=by
     cases z:σ[i]? with
     |none=>rw[z] at e2';cases e2'
     |some y=>rw[z] at e2';rw[show y=some v from e2']
    obtain⟨m2,hn2,hl2⟩:=I2.loc
    have hkx:=hfr (x,.free) (OZ hfree) rfl
    obtain⟨u,r,l⟩:=hl2 i x v hNi e2'' (by rcases hkx with z |z;exact .inr (.inl z);exact .inr (.inr z))
    refine⟨u,r,.inr ⟨?_,?_⟩⟩
    ·rcases e3
      with z |z |z
     ·exfalso
      have gen:∀(names:List (Str×NameKind)),names.lookup x=some .free->(names.map λ(n,k)=>if (k==NameKind.free&&X.env.scope.kind == .function&&X.env.kindOf n==some .cell) then (n,NameKind.cell) else (n,k)).lookup x=some .local->False:=by
       intro names
       induction names with
       |nil=>intro e _;simp at e
       |
        cons y r ih=>
        intro e1 e2
        obtain⟨n,k⟩:=y
        rw[Pc] at e1
        rw[Of,Pc] at e2
        by_cases hxn:x=n
        ·have hb1:(x==n)=true:=Qf.mpr hxn
         rw[hb1] at e1
         have:k=.free:=Oz e1
         subst this
         split at e2
         ·rename_i hq
          split at e2 <;> cases e2
         ·rename_i hq
          split at hq <;> (rw[hb1] at hq;cases hq)
        ·have hb1:(x==n)=false:=Ov.mpr hxn
         rw[hb1] at e1
         refine ih e1 ?_
         split at e2
         ·rename_i hq
          split at hq <;> (rw[hb1] at hq;cases hq)
         ·exact e2
      exact gen scope.names hfree z
     ·exact .inl z
     ·exact .inr z
    ·obtain⟨c,hc'⟩:=hclf (x,.free) (OZ hfree) rfl
     refine⟨c,hc',?_⟩
     rcases l with ⟨k,_⟩ |⟨_,c2,ec2,z⟩
     ·rcases hkx with z |z <;> (rw[k] at z;cases z)
     ·have:=hcl x c hc'
      rw[ec2] at this
      cases this
      obtain⟨oc,hoc,hd⟩:=z
      exact⟨oc,old _ _ hoc,hd⟩
 have pinD:∀{σ':St}{H':Hp}{s':Shared}{pl:List (Addr×Obj)}{o:Obj},Inv Y pl σ' H' s'->s'.heap.get? s2.heap.objs.size=some o->(∀v,o.data ≠ .cell v)->H' s2.heap.objs.size=none->Inv Y [(s2.heap.objs.size,o)] σ' H' s':=λ{σ' H' s' pl o} IY e d n=>
  IY.pins_of λp hp=>by
   have e':p=(s2.heap.objs.size,o):=by simpa using hp
   subst e'
   refine⟨e,n,?_,?_,d⟩
   ·show s2.heap.objs.size≠G2.objs.size
    omega
   ·intro hf
    have hf':s2.heap.objs.size∈frs X.stack:=hf
    obtain⟨_,o',ho',_⟩:=I2.stack.mem hf'
    exact absurd (Oh ho') (OS _)
 have fpY:∀{H':Hp}{pl:List (Addr×Obj)},(∀b∈fp,H' b=none)->(∀p∈pl,p.1∉fp)->∀b∈fp,FpOk Y pl H' b:=λ{H' pl} hn hp b hb=>by
  refine⟨hn b hb,?_,?_,.inl hb,λx c e=>?_,λp hp'=>?_⟩
  ·exact (okY.exf b hb).1
  ·exact okY.exfs b hb
  ·exact (okY.exf b hb).2 x c e
  ·intro z
   have hp'':p∈pl:=by simpa [Y,bQ] using hp'
   exact hp p hp'' (by rw[z];exact hb)
 have hDfp:s2.heap.objs.size∉fp:=λz=>OS _ (fpOld _ z)
 have loop
  : ∀s₃:Shared,s₃={ s2 with heap:=h₁,toks:=s2.toks+([]:List (Str×Value)).length }->
  codeAny (model X.prog X.w) X.A (.compLoop (.ListComp jp [⟨tg,am,ifs,0⟩] scope pos) 0 (.ref it) (.ref s2.heap.objs.size) (compEnvC scope cl G2.objs.size X.env))
   (compPost (model X.prog X.w) X.A X.xe (some (assign (.Name xT px) X.env)) (λ_ s'=>SP X pins D0 .next s') (.ref s2.heap.objs.size) G2.objs.size) s₃:=by
  rintro s₃ rfl
  have IY0:Inv Y [(s2.heap.objs.size,{ cls:=.type "list",dict:=none,data:=.seq ([]:List Value).toArray })] (dI sub σ) H2 { s2 with heap:=h₁,toks:=s2.toks+([]:List (Str×Value)).length }:=by
   have J0:Inv Y [] (dI sub σ) H2 { s2 with heap:=h₁,toks:=s2.toks+([]:List (Str×Value)).length }:=by
    refine⟨okY,rfl,I2.bare,Un.kept old,startLoc,λx c e=>?_,I2.hok.fresh (by show s2.heap.objs.size<=G2.objs.size;omega),λx c e=>I2.freeC x c (hcl x c e),λp hp=>absurd (show p∈([]:List (Addr×Obj)) from hp) (by simp),I2.hok.kept old,?_⟩
    ·obtain⟨v,oc,hoc,hd⟩:=I2.cell x c (hcl x c e)
     exact⟨v,oc,old _ _ hoc,hd⟩
    ·show (dI sub σ).length=N.length
     unfold dI
     rw[N8];exact hsl
   exact pinD J0 hD₁ (λv z=>by cases z) I2.fresh
  refine lY (λn s'=>∃(i:Nat) (ys:List V) (its:List Value) (k:Nat) (σ':St) (H':Hp),Inv Y [(s2.heap.objs.size,{ cls:=.type "list",dict:=none,data:=.seq its.toArray k })] σ' H' s'/\Vals ys its/\tn i s'.heap/\(∀b∈fp,H' b=none)/\W i n ys σ' H') ?_ m0
   ⟨0,[],[],0,dI sub σ,H2,IY0,.nil,T.keep _ _ _ st2 (λb hb o e=>old b o e),λb hb=>(f2 b hb).1,w0⟩
  rintro n s3 ⟨i,ys,its,k,σ3,H3,I3,rv,st3,fr3,w3⟩
  have npl:∀(o:Obj),∀p∈[(s2.heap.objs.size,o)],p.1∉fp:=λo p hp=>by
   have e':p=(s2.heap.objs.size,o):=by simpa using hp
   subst e'
   exact hDfp
  rcases turn i n ys σ3 H3 w3 with ⟨stop,hz,qn⟩ |⟨go,hz,Nx,hNx,step⟩
  ·refine ON (T.done Y rfl rfl rfl hc i _ s3 σ3 H3 (λ_ _=>False) I3 (fpY fr3 (npl _)) st3 stop) (λr s4 ⟨hr,I4⟩=>?_) λ_ _ z=>z
   subst hr
   obtain⟨m4,hn4,_⟩:=I4.loc
   have hs':Heap.SameBut G2.objs.size s4.heap s4.heap:=⟨rfl,λ_ _=>rfl⟩
   obtain⟨h',hh'⟩:∃h',h'=s4.heap:=⟨_,rfl⟩
   rw[<- hh'] at hs'
   rw[hh'] at hs'
   clear hh' h'
   generalize hh':s4.heap=h' at hs'
   have hs':Heap.SameBut G2.objs.size s4.heap h':=by rw[hh'];exact hs'
   have hCfree:H3 G2.objs.size=none:=I4.free
   have hD4:=I4.pin (s2.heap.objs.size,{ cls:=.type "list",dict:=none,data:=.seq its.toArray k }) (Ox _ Od)
   have un4:Un (frs X.stack) fp H2 H3 s2.heap s4.heap:=I4.base
   have up:∀b o,b≠G2.objs.size->s4.heap.get? b=some o->h'.get? b=some o:=λb o hb e=>hs'.extBut b o hb e
   have ne2:∀b o,s2.heap.get? b=some o->b≠G2.objs.size:=λb o e=>(below b (Oh e)).1
   have un5:Un (frs X.stack) fp H2 H3 s2.heap h':=by
    refine⟨λb o e n hb hx=>up b o (ne2 b o e) (un4.keep b o e n hb hx),λb o e n hb hx=>?_,un4.free,λb o e hx=>?_,un4.tups,un4.frzs,un4.tbls⟩
    ·obtain⟨sl,q⟩:=un4.slot b o e n hb hx
     exact⟨sl,up b _ (ne2 b o e) q⟩
    ·obtain⟨o',q⟩:=un4.there b o e hx
     exact⟨o',up b _ (ne2 b o e) q⟩
   have hok5:HOk X.prog X.w H3 h':=λb u e=>(I4.hok b u e).stay (λc v hcc q=>up c v (λz=>by
    rcases hcc with zz |zz
    ·rw[zz] at z;rw[z,hCfree] at e;cases e
    ·rw[z,hCfree] at zz;cases zz) q) (λ_ q=>q) λ_ _ q=>q
   have I5:Inv X pins σ H3 { s4 with heap:=h' }:=I2.call' (s':={ s4 with heap:=h' }) (ch:=fp) I4.os un5 hok5 I4.bare λb hb=>by
    obtain⟨_,g1,_,g3,g4,g5⟩:=f2 b hb
    exact⟨g3,g1,g4,g5⟩
   have hDfree:H3 s2.heap.objs.size=none:=hD4.2.1
   have sz0:X.s₀.heap.objs.size<=s2.heap.objs.size:=I2.sz
   have hCold:∀b,b<s2.heap.objs.size->b≠G2.objs.size:=λb hb=>(below b hb).1
   have I6:Inv X pins σ (upd H3 s2.heap.objs.size (.lst ys)) { s4 with heap:=h' }:=by
    refine I5.track (o:=.lst ys) hDfree (PL sz0) (PN I2.lt) (λx c e z=>?_) (λp hp z=>?_) ?_
    ·obtain⟨v,q⟩:=I2.cell x c e
     exact absurd q.lt (by rw[z];exact OS _)
    ·exact absurd (Oh (I2.pin p hp).1) (by rw[z];exact OS _)
    ·exact⟨hz,its,k,rv,up _ _ hDC hD4.1⟩
   have I6':Inv X pins σ (upd H3 s2.heap.objs.size (.lst ys)) s4:=by
    have e4:({ s4 with heap:=h' }:Shared)=s4:=by rw[<- hh']
    rw[e4] at I6;exact I6
   refine wpAny_assign_Name (rf (v:=.ref s2.heap.objs.size) I6' hN hix hxl rfl (λs7 I7 ⟨a7,sb7,ha7⟩=>?_) hf)
   have ha:a7<s2.heap.objs.size:=by
    rcases ha7 with z |z
    ·rw[z];exact I2.lt
    ·obtain⟨v,q⟩:=I2.cell xT a7 z
     exact q.lt
   refine⟨m4,hn4.sameBut sb7 (Ne.symm (hCold a7 ha)),λh8 hs8=>?_⟩
   have I8:Inv X pins (σ.set iT (some (.ref s2.heap.objs.size))) (upd H3 s2.heap.objs.size (.lst ys)) { s7 with heap:=h8,toks:=s7.toks }:=by
    refine I7.turned (it:=G2.objs.size) (t':=s7.toks) (λb o hb e=>hs8.extBut b o hb e) ?_ ?_ (.inr ?_) (λx c e=>?_) (λp hp=>?_)
    ·rw[aT (Ne.symm hDC)];exact hCfree
    ·exact Ne.symm (hCold _ I2.lt)
    ·omega
    ·obtain⟨v,q⟩:=I2.cell x c e
     exact hCold _ q.lt
    ·exact hCold _ (Oh (I2.pin p hp).1)
   exact⟨_,_,I8,qn _ hDfree⟩
  ·refine ON (T.item Y rfl rfl rfl hc i _ s3 σ3 H3 (λ_ _=>False) I3 (fpY fr3 (npl _)) st3 go) (λr s4 ⟨u,hr,h4⟩=>?_) λ_ _ z=>z
   subst hr
   refine ON h4 (λ_ s5 ⟨x,H5,I5,r5,y5,st5,fr5⟩=>?_) λ_ _ z=>z
   have I5':=I5.pinned (fpY fr5 (npl _)) (T.obj _ _ st5)
   refine ON (hg cl G2.objs.size s2 H2 fp _ s5 σ3 H5 x u _ I5' r5 (step x H5 y5)) (λ_ s6 ⟨σ6,H6,I6,q6⟩=>?_) λ_ _ z=>z
   refine ON (ht cl G2.objs.size s2 H2 fp _ s6 σ6 H6 _ I6 q6) (λok s7 ⟨H7,I7,q7⟩=>?_) λ_ _ z=>z
   have back:∀{σ':St}{H':Hp}{s':Shared},Inv Y ([(s2.heap.objs.size,{ cls:=.type "list",dict:=none,data:=.seq its.toArray k })]++ki fp s5.heap) σ' H' s'->tn (i+1) s'.heap/\∀b∈fp,H' b=none:=λ{σ' H' s'} IB=>by
    refine⟨T.keep _ _ _ st5 λb hb o e=>(IB.pin (b,o) (Ox _ (Ox _ (fk hb e)))).1,λb hb=>?_⟩
    obtain⟨o,e,d⟩:=T.obj _ _ st5 b hb
    exact (IB.pin (b,o) (Ox _ (Ox _ (fk hb e)))).2.1
   cases ok with
   |
    false=>
    rw[if_neg Oi] at q7
    obtain⟨m',hm,w7⟩:=hNx _ _ _ q7
    rw[if_neg Oi]
    obtain⟨t7,f7⟩:=back I7
    exact⟨m',hm,i+1,ys,its,k,σ6,H7,I7.unpinned,rv,t7,f7,w7⟩
   |
    true=>
    rw[if_pos rfl] at q7
    rw[if_pos rfl]
    refine ON (he cl G2.objs.size s2 H2 fp _ s7 σ6 H7 _ I7 q7) (λy s8 ⟨yv,H8,I8,r8,q8⟩=>?_) λ_ _ z=>z
    obtain⟨m',hm,w8⟩:=hNx _ _ _ q8
    obtain⟨t8,f8⟩:=back I8
    have I9:=I8.unpinned
    have hD9:=I9.pin (s2.heap.objs.size,{ cls:=.type "list",dict:=none,data:=.seq its.toArray k }) (Ox _ Od)
    have e9:s8.heap.get? s2.heap.objs.size=some { cls:=.type "list",dict:=none,data:=.seq its.toArray k }:=hD9.1
    have be:=rv.length
    refine Qr F.slot_list_append ⟨_,e9,rfl⟩ QR (QF _ _) (PySem.list_append _ its.toArray k y (by rw[Oj];omega)) ⟨e9,?_⟩
    have q9:=PySem.IsL.update e9 (λxs=>xs.push y)
    have ea:its.toArray.push y=(its++[y]).toArray:=by simp
    rw[ea] at q9
    have k9:∀b o,b≠s2.heap.objs.size->s8.heap.get? b=some o->(s8.heap.update s2.heap.objs.size (Obj.mapSeq λxs=>xs.push y)).get? b=some o:=λb o hb e=>(OT _ _ (Ne.symm hb)).trans e
    have I10:Inv Y [] σ6 H8 { s8 with heap:=s8.heap.update s2.heap.objs.size (Obj.mapSeq λxs=>xs.push y) }:=
     (I9.pins_of (pins':=[]) (λp hp=>nomatch hp)).turned (t':=s8.toks) k9 hD9.2.1 hD9.2.2.1 (.inr (Oe _)) (λx c e z=>absurd (cellOld x c e) (by rw[z];exact OS _))
      (λp hp=>absurd (show p∈([]:List (Addr×Obj)) from hp) (by simp))
    refine⟨m',hm,i+1,ys++[yv],its++[y],_,σ6,H8,pinD I10 q9 (λv z=>by cases z) hD9.2.1,rv.append (.cons r8 .nil),?_,f8,w8⟩
    exact T.keep _ _ _ t8 λb hb o e=>k9 b o (λz=>hDfp (by rw[<- z];exact hb)) e
 exact codeAny_compStart_list (loop _ rfl) (T.self _ 0 _ _ _ (T.keep _ _ _ st2 λb hb o e=>old b o e) (loop _ rfl))
def KG{jp am tg:Expr}{scope:Scope}{pos px spos:Pos}{wi:TI}{g:TG}{te:TE}{iT:Nat}{xT:Str}(M:List Str)(kn:List (Str×NameKind))(N:List Str)(sub:List (Option Nat))
 (hc:X.calm=true) (hN:X.N.Nodup) (hix:X.N[iT]?=some xT) (hxl:Loc X.env.scope xT) (hi:PI X tg am wi)
 (hg:∀cl C s₂ H fp,PG (bQ X N scope cl C s₂ H fp) tg g) (he:∀cl C s₂ H fp,PE (bQ X N scope cl C s₂ H fp) jp te)
 (hsw:swapsWith (.ListComp jp [⟨tg,am,[],0⟩] scope pos) (some (.Name xT px)) spos.line X.env=pure true:=by rfl)
 (hM:X.N=M:=by rfl) (hkn:X.env.scope.names=kn:=by rfl) (ii:jt M scope.names sub N=true:=by decide)
 (hk:scope.kind=.function:=by rfl) (hnc:∀x∈scope.names,x.2 ≠ .cell:=by decide) (bn:∀x∈scope.names,x.2=.local->scope.names.lookup x.1=some .local:=by decide)
 (hfr:lG kn scope.names=true:=by decide)
 (hsl:sub.length=N.length:=by rfl) (hs:∀x,foldedSetIterable am X.env x=pure x:=by intro _;rfl) (hf:X.fn xT=true\/X.env.scope.names.lookup xT=some .local:=by first |exact .inl rfl |exact .inr rfl |assumption):
 PS X (.Assign [.Name xT px] (.ListComp jp [⟨tg,am,[],0⟩] scope pos) spos) (uC (mO wi sub g AY te) (oz iT)):=
 Jc hc hN hix hxl hi hk hnc bn (by subst hkn;exact vN hfr) hsl (by subst hM;exact um ii) hg (λcl C s₂ H fp=>vw) he hsw hs hf
end
end L2
namespace L2
open PySem PySem.Spec PyProof.Rows
theorem vO:∀{ns:List Int}{its:List Value},Vals (ns.map V.int) its->IntsAre its ns
 | [],_,h=>by cases h;exact .nil
 |
  i::r,_,h=>by
  cases h with
  |
   cons h1 h2=>
   obtain⟨t,rfl⟩:=h1
   exact .cons i t (vO h2)
def jr{X:Cx}{K:W.Frag}(hK:X.K=K)(hc:X.calm=true):CallR X (.builtin "sum") (λxs H Q=>∃(a:Addr) (ns:List Int),xs=[.ref a]/\SqL K H a (ns.map V.int)/\Q (.int ns.sum) H):=by
 subst hK
 intro pins s σ H xs us Q I r h
 obtain⟨a,ns,rfl,hq,q⟩:=h
 obtain⟨u,rfl,ru⟩:=gX r
 cases ru
 obtain⟨its,rv,p,hz⟩:=I.list hq
 have hi:=vO rv
 obtain⟨ys,hy⟩:=hi.allInts.items
 have hn:numsOf its.toArray.toList=ns:=by rw[show its.toArray.toList=its from rfl,hi.numsOf]
 have pl:=p.isList
 rw[hy] at pl hn
 rw[nums_intItems] at hn
 refine sum_intListG (I.ok.hd hc) pl λh' tk t' hk=>?_
 rw[preSum_eq,Px (by simp),hn]
 exact⟨.int ns.sum,H,I.kept (t':=tk) hk,⟨_,rfl⟩,q⟩
end L2
namespace Fr
def dv(a b:Int):Int:=if b<0 then -((Int.gcd a b:Nat):Int) else ((Int.gcd a b:Nat):Int)
def T(a b:Int):Int:=a.fdiv (dv a b)
def B(a b:Int):Int:=b.fdiv (dv a b)
def tZ{a b:Int}(hb:b≠0):0<Int.gcd a b:=Int.gcd_pos_of_ne_zero_right a hb
def dv_ne{a b:Int}(hb:b≠0):dv a b≠0:=by
 have:=tZ (a:=a) hb
 unfold dv
 split <;> omega
def B0(a b:Int):dv a b ∣ a:=by
 have h:((Int.gcd a b:Nat):Int) ∣ a:=Int.gcd_dvd_left a b
 unfold dv
 split
 ·exact Int.neg_dvd.mpr h
 ·exact h
def Be(a b:Int):dv a b ∣ b:=by
 have h:((Int.gcd a b:Nat):Int) ∣ b:=Int.gcd_dvd_right a b
 unfold dv
 split
 ·exact Int.neg_dvd.mpr h
 ·exact h
def vB{a d q:Int}(hd:d≠0)(h:a=d*q):a.fdiv d=q:=by
 rw[h,Ql]
 exact Int.mul_fdiv_cancel q hd
def T_mul{a b:Int}(hb:b≠0):T a b*dv a b=a:=by
 obtain⟨q,h⟩:=B0 a b
 have:T a b=q:=vB (dv_ne hb) h
 rw[this,Ql];exact h.symm
def B_mul{a b:Int}(hb:b≠0):B a b*dv a b=b:=by
 obtain⟨q,h⟩:=Be a b
 have:B a b=q:=vB (dv_ne hb) h
 rw[this,Ql];exact h.symm
def B_pos{a b:Int}(hb:b≠0):0<B a b:=by
 have h:=B_mul (a:=a) hb
 have hg:=tZ (a:=a) hb
 generalize hx:B a b=x at h ⊢
 unfold dv at h
 split at h
 ·rename_i hneg
  have h2:x*((Int.gcd a b:Nat):Int)=-b:=by rw[Int.mul_neg] at h;omega
  rcases Int.lt_or_le 0 x with z |z
  ·exact z
  ·have:x*((Int.gcd a b:Nat):Int)<=0:=Int.mul_nonpos_of_nonpos_of_nonneg z (by omega)
   omega
 ·rename_i hpos
  rcases Int.lt_or_le 0 x with z |z
  ·exact z
  ·have:x*((Int.gcd a b:Nat):Int)<=0:=Int.mul_nonpos_of_nonpos_of_nonneg z (by omega)
   omega
def cross{a b:Int}(hb:b≠0):T a b*b=a*B a b:=by
 have h1:=T_mul (a:=a) hb
 have h2:=B_mul (a:=a) hb
 generalize T a b=x at *
 generalize B a b=y at *
 generalize dv a b=d at *
 rw[<- h2,<- h1]
 rw[<- Pf,Qm]
def dv_abs(a b:Int):(dv a b).natAbs=Int.gcd a b:=by
 unfold dv
 split <;> simp
def low{a b:Int}(hb:b≠0):Int.gcd (T a b) (B a b)=1:=by
 have h1:=T_mul (a:=a) hb
 have h2:=B_mul (a:=a) hb
 have hg:=tZ (a:=a) hb
 have e1:a.natAbs=(T a b).natAbs*Int.gcd a b:=by rw[<- dv_abs a b,<- O9,h1]
 have e2:b.natAbs=(B a b).natAbs*Int.gcd a b:=by rw[<- dv_abs a b,<- O9,h2]
 have e3:Int.gcd a b=Nat.gcd ((T a b).natAbs*Int.gcd a b) ((B a b).natAbs*Int.gcd a b):=by rw[<- e1,<- e2];rfl
 rw[Nat.gcd_mul_right] at e3
 show Nat.gcd (T a b).natAbs (B a b).natAbs=1
 generalize Nat.gcd (T a b).natAbs (B a b).natAbs=k at *
 generalize Int.gcd a b=g at *
 have:(1:Nat)*g=k*g:=by omega
 exact (Nat.eq_of_mul_eq_mul_right hg this).symm
def uniq{x y x' y':Int}(hy:0<y)(hy':0<y')(h:Int.gcd x y=1)(h':Int.gcd x' y'=1)(e:x*y'=x'*y):x=x'/\y=y':=by
 have c1:Nat.Coprime y.natAbs x.natAbs:=by rw[Nat.coprime_comm];exact h
 have c2:Nat.Coprime y'.natAbs x'.natAbs:=by rw[Nat.coprime_comm];exact h'
 have e1:x.natAbs*y'.natAbs=x'.natAbs*y.natAbs:=by rw[<- O9,<- O9,e]
 have d1:y.natAbs ∣ y'.natAbs:=c1.dvd_of_dvd_mul_left (by rw[e1];exact Nat.dvd_mul_left _ _)
 have d2:y'.natAbs ∣ y.natAbs:=c2.dvd_of_dvd_mul_left (by rw[<- e1];exact Nat.dvd_mul_left _ _)
 have ey:y.natAbs=y'.natAbs:=Nat.dvd_antisymm d1 d2
 have ey':y=y':=by omega
 subst ey'
 exact⟨Qh (by omega) e,rfl⟩
def same{a b c d:Int}(hb:b≠0)(hd:d≠0)(e:a*d=c*b):T a b=T c d/\B a b=B c d:=by
 refine uniq (B_pos hb) (B_pos hd) (low hb) (low hd) ?_
 have h1:=cross (a:=a) hb
 have h2:=cross (a:=c) hd
 have hbd:b*d≠0:=QH hb hd
 refine Qh hbd ?_
 calc T a b*B c d*(b*d)=(T a b*b)*(B c d*d):=by rw[Pf,P4 (B c d) b d,<- Pf]
  _=(a*B a b)*(B c d*d):=by rw[h1]
  _=(a*d)*(B c d*B a b):=by rw[Pf a,Pf a,P4 (B a b),P4 d,Ql (B a b) d]
  _=(c*b)*(B c d*B a b):=by rw[e]
  _=(c*B c d)*(B a b*b):=by rw[Pf c,Pf c,P4 b,Ql b (B a b)]
  _=(T c d*d)*(B a b*b):=by rw[<- h2]
  _=T c d*B a b*(b*d):=by rw[Pf,Pf,P4 d,Ql d b]
def self{a b:Int}(hb:0<b)(h:Int.gcd a b=1):T a b=a/\B a b=b:=
 uniq (B_pos (by omega)) hb (low (by omega)) h (cross (by omega))
def euc(m n:Nat):Nat.gcd n (m % n)=Nat.gcd m n:=by
 rw[Nat.gcd_comm,<- Nat.gcd_rec,Nat.gcd_comm]
end Fr
set_option maxHeartbeats 1000000
namespace L2
open PySem PySem.Spec PyProof.Rows
def Inv.turnedL{X:Cx}{pins:List (Addr×Obj)}{σ:St}{H:Hp}{s:Shared}{h':Heap}{t':Nat}{ch:List Addr}(I:Inv X pins σ H s)(k:∀b o,b∉ch->s.heap.get? b=some o->h'.get? b=some o)(hf:∀b∈ch,FpOk X pins H b):Inv X pins σ H { s with heap:=h',toks:=t' }:=by
 have away:∀b u,H b=some u->b∉ch:=λb u e z=>by have:=(hf b z).1;rw[e] at this;cases this
 refine I.step (g':=s.gens) (d':=s.drawn) (ch:=ch) (λb hb=>⟨(hf b hb).2.2.2.1,(hf b hb).2.1,(hf b hb).2.2.2.2.1,(hf b hb).2.2.2.2.2⟩) (λb o _ _ hc e _=>k b o hc e) (λb o _ _ hc e _=>⟨o.slots,k b o hc e⟩) (λ_ _ _ _ n=>n)
  (λb o hc e=>⟨o,k b o hc e⟩) (λ_ _ e=>e) (λ_ _ _ e=>e) (λb ps e=>⟨#[],by rw[e];simp⟩) (λm hm=>?_) (λb u e=>?_) I.bare
 ·obtain⟨o,es,ep,ho,r⟩:=hm
  exact⟨o,es,ep,k _ o (λz=>(hf _ z).2.1 rfl) ho,r⟩
 ·refine (I.hok b u e).stay (λc v hc q=>k c v ?_ q) (λ_ q=>q) λ_ _ q=>q
  rcases hc with z |z
  ·rw[z];exact away b u e
  ·exact away c _ z
def FpOk.up{X:Cx}{pins:List (Addr×Obj)}{H:Hp}{b p:Addr}{o:HO}(f:FpOk X pins H b)(hn:b≠p):FpOk X pins (upd H p o) b:=⟨by rw[aT hn];exact f.1,f.2⟩
def xx{prog:Program}{w:World}{A:Around}{E:Value->Shared->Prop}{s:Shared}{j t:Addr}{n:Nat}{its:Array Value}{v:Value}{Q:Value->Shared->Prop}(hj:s.heap.IsTupleIter j t n)(ht:s.heap.IsTuple t its)(hv:its[n]?=some v)
 (k:∀h',h'.IsTupleIter j t (n+1)->Heap.SameBut j s.heap h'->Q v { s with heap:=h' }):wpAny (model prog w) A (Builtin.SmallTypes.nextOf (.ref j)) Q E s:=by
 obtain⟨oj,ej,cj,dj⟩:=id hj
 obtain⟨ot,et,_,m,dt⟩:=ht
 unfold Builtin.SmallTypes.nextOf
 refine N7 (Pt (name:=Str.ofString "__next__") hj.typeIs PH (Qg PH hj.typeIs F.entry_tuple_iterator_next ?_ (F.args_tuple_iterator_next_1 _)))
 show wpAny _ _ (field (.ref j) 0 >>= _) _ _ s
 refine N7 (O6 ej dj (x:=.ref t) rfl ?_)
 show wpAny _ _ (if (Value.ref t==Value.none)=true then _ else _) _ _ s;rw[if_neg (show ¬ ((Value.ref t==Value.none)=true) from Oi)]
 show wpAny _ _ (field (.ref j) 1 >>= _) _ _ s
 refine N7 (O6 ej dj (x:=.int n 0) rfl ?_)
 show wpAny _ _ (seqItems? (.ref t) >>= _) _ _ s;refine N7 (Pj et dt ?_)
 simp only[O0,hv]
 refine N7 (wpAny_setField ej dj (by simp) (Om ⟨v,rfl,Om (k _ ?_ (Heap.SameBut.update ..))⟩))
 exact⟨_,P6 _ ej (Obj.isFreed_of_fields (Obj.data_mapFields dj _)),(Obj.cls_mapFields ..).trans cj,by rw[Obj.data_mapFields dj];simp [rawInt]⟩
def qD{prog:Program}{w:World}{A:Around}{E:Value->Shared->Prop}{s:Shared}{j t:Addr}{n:Nat}{its:Array Value}{Q:Value->Shared->Prop}(hh:A.handled=none)(hj:s.heap.IsTupleIter j t n)(ht:s.heap.IsTuple t its)(hv:its[n]?=none)
 (k:∀h' e,Heap.ExtBut j s.heap h'->(∃o,h'.get? e=some o/\o.cls=.type "StopIteration")->E (.ref e) { s with heap:=h' }):wpAny (model prog w) A (Builtin.SmallTypes.nextOf (.ref j)) Q E s:=by
 obtain⟨oj,ej,cj,dj⟩:=id hj
 obtain⟨ot,et,_,m,dt⟩:=ht
 unfold Builtin.SmallTypes.nextOf
 refine N7 (Pt (name:=Str.ofString "__next__") hj.typeIs PH (Qg PH hj.typeIs F.entry_tuple_iterator_next ?_ (F.args_tuple_iterator_next_1 _)))
 show wpAny _ _ (field (.ref j) 0 >>= _) _ _ s
 refine N7 (O6 ej dj (x:=.ref t) rfl ?_)
 show wpAny _ _ (if (Value.ref t==Value.none)=true then _ else _) _ _ s;rw[if_neg (show ¬ ((Value.ref t==Value.none)=true) from Oi)]
 show wpAny _ _ (field (.ref j) 1 >>= _) _ _ s
 refine N7 (O6 ej dj (x:=.int n 0) rfl ?_)
 show wpAny _ _ (seqItems? (.ref t) >>= _) _ _ s;refine N7 (Pj et dt ?_)
 simp only[O0,hv]
 refine N7 (wpAny_rule (N7 (wpAny_setField ej dj (by simp) ?_)));show wpAny _ _ (newExc (.type "StopIteration") [] >>= _) _ _ _
 refine N7 ?_;simp only[newExc,newTuple]
 refine N7 (O2 ?_ (by size_fits));refine N7 (m:=firstArgMember _ _) (wpAny_of_eq (a:=Value.none) (by first |rfl |(simp only[firstArgMember];rfl)) ?_)
 refine O2 ?_ (by size_fits);simp only[raiseNew]
 refine N7 (wpAny_handled ?_);first |rw[show A.in1.handled=none from hh] |rw[hh]
 refine N7 (Om (wpAny_throw ?_));exact k _ _ (((Heap.SameBut.update ..).extBut.push _).push _) ⟨_,Ou _ rfl,rfl⟩
def SqB(K:W.Frag)(b:Bool)(H:Hp)(a:Addr)(xs:List V):Prop:=match b with
 |true=>SqL K H a xs
 |false=>SqT K H a xs
def ItB(b:Bool)(h:Heap)(j a:Addr)(i:Nat):Prop:=match b with
 |true=>h.IsListIter j a i
 |false=>h.IsTupleIter j a i
def SqB.inj{X:Cx}{pins:List (Addr×Obj)}{σ:St}{H:Hp}{s:Shared}{b:Bool}{a:Addr}{xs ys:List V}(I:Inv X pins σ H s)(x:SqB X.K b H a xs)(y:SqB X.K b H a ys):xs=ys:=by
 cases b with
 |true=>exact I.list_inj x y
 |false=>exact I.tuple_inj x y
def IteE(K:W.Frag)(b:Bool)(a:Addr):It:=
 ⟨λi H=>∃xs x,SqB K b H a xs/\xs[i]?=some x,λi H x H'=>∃p u,x=.ref p/\H p=none/\H'=upd H p (.tup [.int (i:Nat),u])/\∀xs,SqB K b H a xs->xs[i]?=some u,λi H=>∃xs,SqB K b H a xs/\xs.length=i⟩
def mG{b:Bool}{h:Heap}{j a:Addr}{i:Nat}(z:ItB b h j a i):∃o,h.get? j=some o/\(∀v,o.data ≠ .cell v)/\o.cls=.type (if b then "list_iterator" else "tuple_iterator"):=by
 cases b with
 |true=>obtain⟨o,e,c,d⟩:=z;exact⟨o,e,(λv y=>by rw[d] at y;cases y),c⟩
 |false=>obtain⟨o,e,c,d⟩:=z;exact⟨o,e,(λv y=>by rw[d] at y;cases y),c⟩
def cA{b:Bool}{h h':Heap}{j a:Addr}{i:Nat}(z:ItB b h j a i)(k:∀o,h.get? j=some o->h'.get? j=some o):ItB b h' j a i:=by
 cases b with
 |true=>obtain⟨o,e,r⟩:=z;exact⟨o,k o e,r⟩
 |false=>obtain⟨o,e,r⟩:=z;exact⟨o,k o e,r⟩
def LsB(b:Bool)(h:Heap)(a:Addr)(its:Array Value):Prop:=match b with
 |true=>h.IsList a its
 |false=>h.IsTuple a its
def LsB.keep{b:Bool}{h h':Heap}{a:Addr}{its:Array Value}(z:LsB b h a its)(k:∀o,h.get? a=some o->h'.get? a=some o):LsB b h' a its:=by
 cases b <;> (obtain⟨o,e,r⟩:=z;exact⟨o,k o e,r⟩)
def wZ{prog:Program}{w:World}{A:Around}{E:Value->Shared->Prop}{s:Shared}{b:Bool}{j a:Addr}{n:Nat}{its:Array Value}{v:Value}{Q:Value->Shared->Prop}(hj:ItB b s.heap j a n)(ht:LsB b s.heap a its)(hv:its[n]?=some v)
 (k:∀h',ItB b h' j a (n+1)->Heap.SameBut j s.heap h'->Q v { s with heap:=h' }):wpAny (model prog w) A (Builtin.SmallTypes.nextOf (.ref j)) Q E s:=by
 cases b with
 |true=>exact wpAny_nextOf_list_item hj ht hv k
 |false=>exact xx hj ht hv k
def rm{prog:Program}{w:World}{A:Around}{E:Value->Shared->Prop}{s:Shared}{b:Bool}{j a:Addr}{n:Nat}{its:Array Value}{Q:Value->Shared->Prop}(hh:A.handled=none)(hj:ItB b s.heap j a n)(ht:LsB b s.heap a its)(hv:its[n]?=none)
 (k:∀h' e,Heap.ExtBut j s.heap h'->(∃o,h'.get? e=some o/\o.cls=.type "StopIteration")->E (.ref e) { s with heap:=h' }):wpAny (model prog w) A (Builtin.SmallTypes.nextOf (.ref j)) Q E s:=by
 cases b with
 |true=>exact wpAny_nextOf_list_end hh hj ht hv k
 |false=>exact qD hh hj ht hv k
section
variable{prog:Program}{w:World}{A:Around}{E:Value->Shared->Prop}{s:Shared}{b1 b2:Bool}{z p q j1 j2 a1 a2:Addr}{n:Nat}{xs ys:Array Value}{x y u v:Value}
def zipN{Q:Value->Shared->Prop}(D:ZipApart z p q j1 j2 a1 a2)(hz:IsZip s.heap z p q .none)(hp:IsPair s.heap p (.ref j1) (.ref j2))(hq:IsPair s.heap q u v)
 (i1:ItB b1 s.heap j1 a1 n) (i2:ItB b2 s.heap j2 a2 n) (l1:LsB b1 s.heap a1 xs) (l2:LsB b2 s.heap a2 ys) (ex:xs[n]?=some x) (ey:ys[n]?=some y)
 (k:∀h',IsZip h' z p q (rawInt s.heap.objs.size)->IsPair h' q x y->ItB b1 h' j1 a1 (n+1)->ItB b2 h' j2 a2 (n+1)->IsPair h' s.heap.objs.size x y->(∀c o,c≠z->c≠q->c≠j1->c≠j2->s.heap.get? c=some o->h'.get? c=some o)->Q (.ref s.heap.objs.size) { s with heap:=h' }):
 wpAny (model prog w) A (Builtin.«zip.__next__» ⟨[.ref z],[]⟩) (λfin s'=>∃v,fin=.done (.ret v)/\Q v s') E s:=by
 show wpAny _ _ (field (.ref z) 2 >>= _) _ _ _;refine N7 (O6 hz rfl (x:=.bool false) rfl ?_)
 show wpAny _ _ (field (.ref z) 3 >>= _) _ _ _;refine N7 (O6 hz rfl (x:=.ref p) rfl ?_)
 refine N7 (Pj hp rfl ?_);show wpAny _ _ (Builtin.SmallTypes.ownedTupleIsFree (.ref z) >>= _) _ _ _
 refine N7 ?_;unfold Builtin.SmallTypes.ownedTupleIsFree
 refine N7 (O6 hz rfl (x:=.none) rfl (Om ?_));simp only[Pw]
 refine N7 (wpAny_rule ?_);refine N7 (O6 hz rfl (x:=.ref q) rfl ?_)
 refine N7 (Pz hz (by simp) λg1 (y1:IsZip g1 z p q .ellipsis) t1=>?_)
 refine N7 ?_;simp only[List.zipIdx_cons,List.zipIdx_nil,QI,QT]
 refine N7 (N7 (QX ?_));show wpAny _ _ (Builtin.SmallTypes.nextOf (.ref j1) >>= _) _ _ _
 refine N7 (wZ (cA i1 λo e=>t1.extBut _ _ D.i1z e) (l1.keep λo e=>t1.extBut _ _ D.l1z e) ex λg2 m1 t2=>Om ?_)
 have q2:IsPair g2 q u v:=t2.extBut _ _ D.TOi1 (t1.extBut _ _ D.TOz hq)
 refine N7 (Pj q2 rfl ?_);refine N7 (QP q2 λg3 (q3:IsPair g3 q x v) t3=>?_)
 refine N7 (wpAny_letGo (Om ?_));refine N7 (N7 (QX ?_))
 show wpAny _ _ (Builtin.SmallTypes.nextOf (.ref j2) >>= _) _ _ _
 refine N7 (wZ (cA i2 λo e=>t3.extBut _ _ D.TOi2.symm (t2.extBut _ _ D.i12.symm (t1.extBut _ _ D.i2z e))) (l2.keep λo e=>t3.extBut _ _ D.l2TO (t2.extBut _ _ D.l2i1 (t1.extBut _ _ D.l2z e))) ey λg4 m2 t4=>Om ?_)
 have q4:IsPair g4 q x v:=t4.extBut _ _ D.TOi2 q3
 refine N7 (Pj q4 rfl ?_);refine N7 (QP q4 λg5 (q5:IsPair g5 q x y) t5=>?_)
 refine N7 (wpAny_letGo (Om (Om ?_)));refine N7 (Pj q5 rfl ?_);refine N7 (wpAny_newTuple ?_)
 have sz:g5.objs.size=s.heap.objs.size:=by rw[t5.1,t4.1,t3.1,t2.1,t1.1]
 have y5:IsZip g5 z p q .ellipsis:=t5.extBut _ _ D.TOz.symm (t4.extBut _ _ D.i2z.symm (t3.extBut _ _ D.TOz.symm (t2.extBut _ _ D.i1z.symm y1)))
 have all5:∀c o,c≠z->c≠q->c≠j1->c≠j2->s.heap.get? c=some o->g5.get? c=some o:=λc o c1 c2 c3 c4 e=>t5.extBut _ _ c2 (t4.extBut _ _ c4 (t3.extBut _ _ c2 (t2.extBut _ _ c3 (t1.extBut _ _ c1 e))))
 have n1:ItB b1 g5 j1 a1 (n+1):=cA m1 λo e=>t5.extBut _ _ D.TOi1.symm (t4.extBut _ _ D.i12 (t3.extBut _ _ D.TOi1.symm e))
 have n2:ItB b2 g5 j2 a2 (n+1):=cA m2 λo e=>t5.extBut _ _ D.TOi2.symm e
 have zl:z<g5.objs.size:=Oh y5
 show wpAny _ _ (Builtin.SmallTypes.ownedTupleHandOut (.ref z) (.ref g5.objs.size) >>= _) _ _ _;refine N7 ?_;unfold Builtin.SmallTypes.ownedTupleHandOut
 have y6:IsZip (g5.push { cls:=.type "tuple",data:=.seq #[x,y] }) z p q .ellipsis:=Og _ y5
 refine N7 (Pz y6 (by simp) λg7 (y7:IsZip g7 z p q (rawInt g5.objs.size)) t7=>?_)
 refine Pz y7 (by simp) λg8 (y8:IsZip g8 z p q (rawInt g5.objs.size)) t8=>?_
 have up:∀c o,c≠z->g5.get? c=some o->g8.get? c=some o:=λc o c1 e=>t8.extBut _ _ c1 (t7.extBut _ _ c1 (Og _ e))
 have w8:IsPair g8 g5.objs.size x y:=t8.extBut _ _ (PN zl) (t7.extBut _ _ (PN zl) (Ou _ rfl))
 rw[sz] at y8 w8
 refine Om ⟨_,rfl,?_⟩
 show Q (.ref g5.objs.size) _;rw[sz]
 exact k g8 y8 (up _ _ D.TOz q5) (cA n1 λo e=>up _ o D.i1z e) (cA n2 λo e=>up _ o D.i2z e) w8 λc o c1 c2 c3 c4 e=>up c o c1 (all5 c o c1 c2 c3 c4 e)
def Ax{Q:Fin->Shared->Prop}(hh:A.handled=none)(D:ZipApart z p q j1 j2 a1 a2)(hz:IsZip s.heap z p q .none)(hp:IsPair s.heap p (.ref j1) (.ref j2))(hq:IsPair s.heap q u v)
 (i1:ItB b1 s.heap j1 a1 n) (i2:ItB b2 s.heap j2 a2 n) (l1:LsB b1 s.heap a1 xs) (l2:LsB b2 s.heap a2 ys) (en:xs[n]?=none\/ys[n]?=none)
 (k:∀h' e,(∀c o,c≠z->c≠q->c≠j1->c≠j2->s.heap.get? c=some o->h'.get? c=some o)->(∃o,h'.get? e=some o/\o.cls=.type "StopIteration")->E (.ref e) { s with heap:=h' }):wpAny (model prog w) A (Builtin.«zip.__next__» ⟨[.ref z],[]⟩) Q E s:=by
 show wpAny _ _ (field (.ref z) 2 >>= _) _ _ _;refine N7 (O6 hz rfl (x:=.bool false) rfl ?_)
 show wpAny _ _ (field (.ref z) 3 >>= _) _ _ _;refine N7 (O6 hz rfl (x:=.ref p) rfl ?_)
 refine N7 (Pj hp rfl ?_);show wpAny _ _ (Builtin.SmallTypes.ownedTupleIsFree (.ref z) >>= _) _ _ _
 refine N7 ?_;unfold Builtin.SmallTypes.ownedTupleIsFree
 refine N7 (O6 hz rfl (x:=.none) rfl (Om ?_));simp only[Pw]
 refine N7 (wpAny_rule ?_);refine N7 (O6 hz rfl (x:=.ref q) rfl ?_)
 refine N7 (Pz hz (by simp) λg1 (y1:IsZip g1 z p q .ellipsis) t1=>?_)
 refine N7 ?_;simp only[List.zipIdx_cons,List.zipIdx_nil,QI,QT]
 refine N7 (N7 (QX ?_));show wpAny _ _ (Builtin.SmallTypes.nextOf (.ref j1) >>= _) _ _ _
 cases ex:xs[n]? with
 |
  none=>
  refine N7 (rm hh (cA i1 λo e=>t1.extBut _ _ D.i1z e) (l1.keep λo e=>t1.extBut _ _ D.l1z e) ex λg2 e t2 ⟨oe,he,ce⟩=>?_)
  have y2:IsZip g2 z p q .ellipsis:=t2 _ _ D.i1z.symm y1
  have ez:e≠z:=λw=>by subst w;rw[y2] at he;cases he;simp at ce
  exact Pz y2 (by simp) λg3 _ t3=>k g3 e (λc o c1 _ c3 _ w=>t3.extBut _ _ c1 (t2 _ _ c3 (t1.extBut _ _ c1 w))) ⟨oe,t3.extBut _ _ ez he,ce⟩
 |
  some x=>
  have ey:ys[n]?=none:=en.resolve_left λw=>by rw[ex] at w;cases w
  refine N7 (wZ (cA i1 λo e=>t1.extBut _ _ D.i1z e) (l1.keep λo e=>t1.extBut _ _ D.l1z e) ex λg2 m1 t2=>Om ?_)
  have q2:IsPair g2 q u v:=t2.extBut _ _ D.TOi1 (t1.extBut _ _ D.TOz hq)
  refine N7 (Pj q2 rfl ?_);refine N7 (QP q2 λg3 q3 t3=>?_);refine N7 (wpAny_letGo (Om ?_))
  refine N7 (N7 (QX ?_));show wpAny _ _ (Builtin.SmallTypes.nextOf (.ref j2) >>= _) _ _ _
  refine N7 (rm hh (cA i2 λo e=>t3.extBut _ _ D.TOi2.symm (t2.extBut _ _ D.i12.symm (t1.extBut _ _ D.i2z e))) (l2.keep λo e=>t3.extBut _ _ D.l2TO (t2.extBut _ _ D.l2i1 (t1.extBut _ _ D.l2z e))) ey λg4 e t4 ⟨oe,he,ce⟩=>?_)
  have y4:IsZip g4 z p q .ellipsis:=t4 _ _ D.i2z.symm (t3.extBut _ _ D.TOz.symm (t2.extBut _ _ D.i1z.symm y1))
  have ez:e≠z:=λw=>by subst w;rw[y4] at he;cases he;simp at ce
  exact Pz y4 (by simp) λg5 _ t5=>k g5 e (λc o c1 c2 c3 c4 w=>t5.extBut _ _ c1 (t4 _ _ c4 (t3.extBut _ _ c2 (t2.extBut _ _ c3 (t1.extBut _ _ c1 w))))) ⟨oe,t5.extBut _ _ ez he,ce⟩
end
end L2
namespace L2
open PySem PySem.Spec PyProof.Rows
def Cf(b:Bool):String:=if b then "list_iterator" else "tuple_iterator"
def vU{prog:Program}{w:World}{A:Around}{E:Value->Shared->Prop}{s:Shared}{b:Bool}{a:Addr}{its:Array Value}{Q:Value->Shared->Prop}(h:LsB b s.heap a its)(k:Q (.ref s.heap.objs.size) { s with heap:=s.heap.push { cls:=.type (Cf b),data:=.fields #[.ref a,.int 0 0] } }):wpAny (model prog w) A (pyIter (.ref a)) Q E s:=by
 cases b with
 |true=>exact Qw h k
 |false=>exact wpAny_pyIter_tuple h k
abbrev zp1(h:Heap)(b:Bool)(a:Addr):Heap:=h.push { cls:=.type (Cf b),data:=.fields #[.ref a,.int 0 0] }
abbrev zp2(h:Heap)(b c:Bool)(a d:Addr):Heap:=zp1 (zp1 h b a) c d
abbrev zp3(h:Heap)(b c:Bool)(a d:Addr):Heap:=(zp2 h b c a d).push { cls:=.type "tuple",data:=.seq #[.ref h.objs.size,.ref (zp1 h b a).objs.size] }
abbrev zp4(h:Heap)(b c:Bool)(a d:Addr):Heap:=(zp3 h b c a d).push { cls:=.type "tuple",data:=.seq #[.none,.none] }
abbrev zp5(h:Heap)(b c:Bool)(a d:Addr):Heap:=(zp4 h b c a d).push { cls:=.type "zip",data:=.fields #[.none,.bool false,.bool false,.ref (zp2 h b c a d).objs.size,.ref (zp3 h b c a d).objs.size] }
def Ag(b c:Bool)(a d:Addr)(xs ys:Array Value):Meets (Builtin.«zip.__new__» ⟨[.type "zip",.ref a,.ref d],[]⟩) (λ_ R s=>LsB b s.heap a xs/\LsB c s.heap d ys/\R (.ok (.ret (.ref (zp4 s.heap b c a d).objs.size))) { s with heap:=zp5 s.heap b c a d }):=
 .of_wp λprog w A R s h=>by
  obtain⟨hp,g,dr,tk,os⟩:=s;obtain⟨la,ld,h⟩:=h
  have ii:=sub_zip
  have L1:LsB b (Shared.heap ⟨hp,g,dr,tk,os⟩) a xs:=la
  have L2':LsB c (Shared.heap ⟨hp.push { cls:=.type (Cf b),data:=.fields #[.ref a,.int 0 0] },g,dr,tk,os⟩) d ys:=ld.keep λo e=>Og _ e
  wp_walk using vU L1,vU L2'
  exact⟨_,rfl,h⟩
def zi{prog:Program}{w:World}{A:Around}{E:Value->Shared->Prop}{s:Shared}{b c:Bool}{a d:Addr}{xs ys:Array Value}{Q:Value->Shared->Prop}(la:LsB b s.heap a xs)(ld:LsB c s.heap d ys)
 (k:∀h',IsZip h' (s.heap.objs.size+4) (s.heap.objs.size+2) (s.heap.objs.size+3) .none->IsPair h' (s.heap.objs.size+2) (.ref s.heap.objs.size) (.ref (s.heap.objs.size+1))->IsPair h' (s.heap.objs.size+3) .none .none->
  ItB b h' s.heap.objs.size a 0->ItB c h' (s.heap.objs.size+1) d 0->(∀c o,s.heap.get? c=some o->h'.get? c=some o)->Q (.ref (s.heap.objs.size+4)) { s with heap:=h' }):wpAny (model prog w) A (call (.type "zip") [.ref a,.ref d]) Q E s:=by
 refine callType_new F.called_zip (by decide) (F.typeCall_zip_2 _ _) (F.newCall_zip_2 _ _) (λobj=>F.args_object_init_3 obj _ _) F.entry_zip_new (Ag b c a d xs ys) ⟨la,ld,?_⟩
 have n1:(zp1 s.heap b a).objs.size=s.heap.objs.size+1:=Pp ..
 have n2:(zp2 s.heap b c a d).objs.size=s.heap.objs.size+2:=by rw[Pp,n1]
 have n3:(zp3 s.heap b c a d).objs.size=s.heap.objs.size+3:=by rw[Pp,n2]
 have n4:(zp4 s.heap b c a d).objs.size=s.heap.objs.size+4:=by rw[Pp,n3]
 have up:=λ{h:Heap}{x:Addr}{o:Obj} (o':Obj) (e:h.get? x=some o)=>Og o' e
 have e5:(zp5 s.heap b c a d).get? (zp4 s.heap b c a d).objs.size=some _:=Ou _ rfl
 have e4:(zp5 s.heap b c a d).get? (zp3 s.heap b c a d).objs.size=some _:=up _ (Ou _ rfl)
 have e3:(zp5 s.heap b c a d).get? (zp2 s.heap b c a d).objs.size=some _:=up _ (up _ (Ou _ rfl))
 have e2:(zp5 s.heap b c a d).get? (zp1 s.heap b a).objs.size=some _:=up _ (up _ (up _ (Ou _ rfl)))
 have e1:(zp5 s.heap b c a d).get? s.heap.objs.size=some _:=up _ (up _ (up _ (up _ (Ou _ rfl))))
 show _/\_
 rw[n2,n3,n4] at e5;rw[n1,n2] at e3;rw[n3] at e4;rw[n1] at e2;rw[n4]
 have i1:ItB b (zp5 s.heap b c a d) s.heap.objs.size a 0:=by cases b <;> exact⟨_,e1,rfl,rfl⟩
 have i2:ItB c (zp5 s.heap b c a d) (s.heap.objs.size+1) d 0:=by cases c <;> exact⟨_,e2,rfl,rfl⟩
 exact⟨⟨_,e5,rfl⟩,k _ e5 e3 e4 i1 i2 λx o e=>up _ (up _ (up _ (up _ (up _ e))))⟩
def ItZ(K:W.Frag)(b c:Bool)(a d:Addr):It:=
 ⟨λi H=>∃xs ys x y,SqB K b H a xs/\SqB K c H d ys/\xs[i]?=some x/\ys[i]?=some y,
  λi H x H'=>∃p u v,x=.ref p/\H p=none/\H'=upd H p (.tup [u,v])/\(∀xs,SqB K b H a xs->xs[i]?=some u)/\∀ys,SqB K c H d ys->ys[i]?=some v,
  λi H=>∃xs ys,SqB K b H a xs/\SqB K c H d ys/\(xs[i]?=none\/ys[i]?=none)⟩
def ka{X:Cx}{pins:List (Addr×Obj)}{σ:St}{H:Hp}{s:Shared}{b:Bool}{a:Addr}{xs:List V}(I:Inv X pins σ H s)(hq:SqB X.K b H a xs):∃its:List Value,Vals xs its/\LsB b s.heap a its.toArray:=by
 cases b with
 |true=>obtain⟨its,rv,p,_⟩:=I.list hq;exact⟨its,rv,p.isList⟩
 |false=>obtain⟨its,rv,p,_⟩:=I.tuple hq;exact⟨its,rv,p⟩
def Bd{P:Program}{w:World}{K:W.Frag}{elts:List Expr}{x1:Nat}{tp:Pos}(b c:Bool)(a d z p q j1 j2:Addr)(D:ZipApart z p q j1 j2 a d):
 Turn P w K (.Tuple elts x1 tp) (ItZ K b c a d) [z,p,q,j1,j2] z (λi h=>IsZip h z p q .none/\IsPair h p (.ref j1) (.ref j2)/\(∃u v,IsPair h q u v)/\ItB b h j1 a i/\ItB c h j2 d i) where
 mem:=by simp
 obj:=λi h st e he=>by
  obtain⟨s1,s2,⟨u,v,s3⟩,s4,s5⟩:=st
  obtain⟨o4,k4,l4,_⟩:=mG s4
  obtain⟨o5,k5,l5,_⟩:=mG s5
  simp only[Ow,List.not_mem_nil,or_false] at he
  rcases he with rfl |rfl |rfl |rfl |rfl
  ·exact⟨_,s1,λv y=>by cases y⟩
  ·exact⟨_,s2,λv y=>by cases y⟩
  ·exact⟨_,s3,λv y=>by cases y⟩
  ·exact⟨o4,k4,l4⟩
  ·exact⟨o5,k5,l5⟩
 keep:=λi h h' st k=>by
  obtain⟨s1,s2,⟨u,v,s3⟩,s4,s5⟩:=st
  exact⟨k z (by simp) _ s1,k p (by simp) _ s2,⟨u,v,k q (by simp) _ s3⟩,cA s4 λo e=>k j1 (by simp) o e,cA s5 λo e=>k j2 (by simp) o e⟩
 item:=
  by
  intro X hP hw hK hc i pins s σ H E I hf st hg
  subst hP hw hK
  obtain⟨xs,ys,x,y,qx,qy,ex,ey⟩:=hg
  obtain⟨s1,s2,⟨u,v,s3⟩,s4,s5⟩:=st
  obtain⟨ix,rx,lx⟩:=ka I qx
  obtain⟨iy,ry,ly⟩:=ka I qy
  obtain⟨ux,hux,rux⟩:=rx.get ex
  obtain⟨uy,huy,ruy⟩:=ry.get ey
  have hTy:s.TypeIs (.ref z) "zip":=⟨_,s1,rfl⟩
  have zl:=Oh s1
  have pl:=Oh s2
  have ql:=Oh s3
  obtain⟨o4,k4,_,_⟩:=mG s4
  obtain⟨o5,k5,_,_⟩:=mG s5
  have j1l:=Oh k4
  have j2l:=Oh k5
  unfold pyNext
  refine N7 (QA (Pt (name:=Str.ofString "__next__") hTy QG (Qg QG hTy F.entry_zip_next (zipN D s1 s2 s3 s4 s5 lx ly (by simpa using hux) (by simpa using huy) λh' y1 y3 y4 y5 yT hk=>Om ?_) (F.args_zip_next_1 _))))
  refine⟨_,rfl,wpAny_letOwnedTupleGo_zip (s:={ s with heap:=h' }) y1 λh2 z2 sb=>?_⟩
  have sb':Heap.SameBut z h' h2:=sb
  have hT:H s.heap.objs.size=none:=I.hok.fresh (Oe _)
  have I1:Inv X pins σ (upd H s.heap.objs.size (.tup [x,y])) { s with heap:=s.heap.push { cls:=.type "tuple",data:=.seq #[ux,uy] },toks:=s.toks }:=
   I.laid (t':=s.toks) (λc o q=>Og _ q) (Oe _) ⟨by show 2<=sizeLine;decide,[ux,uy],.cons rux (.cons ruy .nil),⟨_,Ou _ rfl,rfl,_,rfl⟩⟩
  have fp':∀e∈[z,p,q,j1,j2],FpOk X pins (upd H s.heap.objs.size (.tup [x,y])) e:=λe he=>by
   have:=hf e he
   simp only[Ow,List.not_mem_nil,or_false] at he
   rcases he with rfl |rfl |rfl |rfl |rfl
   ·exact this.up (OI zl)
   ·exact this.up (OI pl)
   ·exact this.up (OI ql)
   ·exact this.up (OI j1l)
   ·exact this.up (OI j2l)
  have I2:Inv X pins σ (upd H s.heap.objs.size (.tup [x,y])) { s with heap:=h2,toks:=s.toks }:=
   Inv.turnedL (s:={ s with heap:=s.heap.push { cls:=.type "tuple",data:=.seq #[ux,uy] },toks:=s.toks }) (ch:=[z,p,q,j1,j2]) (t':=s.toks) I1 (λe o he qe=>by
    have c1:e≠z:=λw=>he (by simp [w])
    have c2:e≠q:=λw=>he (by simp [w])
    have c3:e≠j1:=λw=>he (by simp [w])
    have c4:e≠j2:=λw=>he (by simp [w])
    rw[sb'.2 e c1]
    have q':(s.heap.push { cls:=.type "tuple",data:=.seq #[ux,uy] }).get? e=some o:=qe
    by_cases w:e=s.heap.objs.size
    ·subst w
     rw[Ou _ rfl] at q'
     cases q'
     exact yT
    ·rw[Heap.get?_push_ne _ _ _ w] at q'
     exact hk e o c1 c2 c3 c4 q') fp'
  refine⟨.ref s.heap.objs.size,_,I2,rfl,⟨_,x,y,rfl,hT,rfl,λzs hz=>by rw[SqB.inj I hz qx];exact ex,λzs hz=>by rw[SqB.inj I hz qy];exact ey⟩,⟨z2,?_,⟨ux,uy,?_⟩,cA y4 λo e=>(sb'.2 j1 D.i1z).trans e,cA y5 λo e=>(sb'.2 j2 D.i2z).trans e⟩,λe he=>(fp' e he).1⟩
  ·exact (sb'.2 p D.TIz).trans (hk p _ D.TIz D.TITO D.TIi1 D.TIi2 s2)
  ·exact (sb'.2 q D.TOz).trans y3
 done:=by
  intro X hP hw hK hc i pins s σ H E I hf st hg
  subst hP hw hK
  obtain⟨xs,ys,qx,qy,en⟩:=hg
  obtain⟨s1,s2,⟨u,v,s3⟩,s4,s5⟩:=st
  obtain⟨ix,rx,lx⟩:=ka I qx
  obtain⟨iy,ry,ly⟩:=ka I qy
  have hTy:s.TypeIs (.ref z) "zip":=⟨_,s1,rfl⟩
  have en':ix.toArray[i]?=none\/iy.toArray[i]?=none:=by
   rcases en with e |e
   ·left;rw[Pq] at e;simp;rw[<- rx.length];exact e
   ·right;rw[Pq] at e;simp;rw[<- ry.length];exact e
  unfold pyNext
  refine N7 (QA (Pt (name:=Str.ofString "__next__") hTy QG (Qg QG hTy F.entry_zip_next (Ax (I.ok.hd hc) D s1 s2 s3 s4 s5 lx ly en' λh' e hk ⟨o,ho,co⟩=>?_) (F.args_zip_next_1 _))))
  refine N7 (QD (T:="StopIteration") (b:=true) ⟨o,ho,co⟩ isSubtype_stop (Om ⟨rfl,?_⟩))
  exact Inv.turnedL (ch:=[z,p,q,j1,j2]) (t':=s.toks) I (λe o he qe=>hk e o (λw=>he (by simp [w])) (λw=>he (by simp [w])) (λw=>he (by simp [w])) (λw=>he (by simp [w])) qe) hf
 self:=λ_ _ _ _ _ st h=>wpAny_pyIter_zip st.1 h
def zE:bootBuiltins "zip"=some (.type "zip"):=by decide
def Ht{X:Cx}{l m:Expr}{tl:TA}{elts:List Expr}{x1:Nat}{tp p pos:Pos}(hg:Gl X "zip")(hm:X.mg "zip"=none)(ha:PA X [l,m] tl)(hs:starEach [l,m] X.env=[(false,eval l X.env),(false,eval m X.env)]:=by rfl)(hs2:starEach [m] X.env=[(false,eval m X.env)]:=by rfl):
 PI X (.Tuple elts x1 tp) (.Call (.Name "zip" p) [l,m] [] pos) (λσ H R=>tl σ H λvs H1=>∃(b c:Bool) (a d:Addr) (xs ys:List V),vs=[.ref a,.ref d]/\SqB X.K b H1 a xs/\SqB X.K c H1 d ys/\R (ItZ X.K b c a d) H1):=by
 intro pins s σ H R I h
 refine Call_ (j5 I hg hm zE (Qb (thn (ha pos pins s σ H _ I h) λus s1 ⟨vs,H1,I1,r1,q1⟩=>?_) (by rw[hs,hs2]) (by rw[hs2];rfl)))
 obtain⟨b,c,a,d,xs,ys,e,qx,qy,q⟩:=q1
 subst e
 cases r1 with
 |
  cons r rr=>
  cases rr with
  |
   cons r' rr=>
   cases rr
   cases r
   cases r'
   obtain⟨ix,rx,lx⟩:=ka I1 qx
   obtain⟨iy,ry,ly⟩:=ka I1 qy
   have la:a<s1.heap.objs.size:=by cases b <;> (obtain⟨o,e,_⟩:=lx;exact Oh e)
   have ld:d<s1.heap.objs.size:=by cases c <;> (obtain⟨o,e,_⟩:=ly;exact Oh e)
   refine zi lx ly λh' y1 y2 y3 y4 y5 hk=>wpAny_pyIter_zip y1 ⟨s1.heap.objs.size+4,[s1.heap.objs.size+4,s1.heap.objs.size+2,s1.heap.objs.size+3,s1.heap.objs.size,s1.heap.objs.size+1],_,_,H1,rfl,I1.kept (t':=s1.toks) λc o z=>hk c o z,Bd b c a d _ _ _ _ _ (W.ktu_apart _ _ _ la ld),⟨y1,y2,⟨_,_,y3⟩,y4,y5⟩,λe he=>?_,q⟩
   have hge:s1.heap.objs.size<=e:=by
    simp only[Ow,List.not_mem_nil,or_false] at he
    rcases he with rfl |rfl |rfl |rfl |rfl
    ·exact QC _ _
    ·exact QC _ _
    ·exact QC _ _
    ·exact Oe _
    ·exact QC _ _
   exact I1.fpOk hge (I1.hok.fresh hge)
end L2
namespace L2
open PySem PySem.Spec PyProof.Rows
inductive D where
 |non |bl (b:Bool) |int (i:Int) |str (x:Str) |ty (n:String) |glb (x:Str) |exc (x:Str) |tup (xs:List D) |ref (n:Nat) |kl (xs:List D)
 deriving Inhabited
inductive Ob where
 |lst (xs:List D) |fz (xs:List D) |set (xs:List Int) |dct (kvs:List (Key×D)) |any
 deriving Inhabited
abbrev AH:=List Ob
abbrev AE:=List (Option D)
inductive R(α:Type) where
 |ok (a:α) (h:AH) |exc (c:Str) (h:AH) |stuck
inductive SR where
 |nx (ae:AE) (h:AH) |rt (d:D) (h:AH) |bk (ae:AE) (h:AH) |ct (ae:AE) (h:AH) |exc (c:Str) (ae:AE) (h:AH) |stuck
abbrev ME:=AE->AH->R D
abbrev MT:=AE->AH->R Bool
abbrev MA:=AE->AH->R (List D)
abbrev MS:=AE->AH->SR
abbrev Fn:=List D->AH->R D
def R.bind{α β:Type}(r:R α)(f:α->AH->R β):R β:=match r with
 |.ok a h=>f a h
 |.exc c h=>.exc c h
 |.stuck=>.stuck
section
variable(K:W.Frag)(mg:Str->Option Value)
mutual
inductive RelD(ρ:List Addr)(H:Hp):D->V->Prop where
 |non:RelD ρ H .non .non
 |bl (b:Bool):RelD ρ H (.bl b) (.bl b)
 |int (i:Int):RelD ρ H (.int i) (.int i)
 |str (x:Str):RelD ρ H (.str x) (.str x)
 |ty (n:String):RelD ρ H (.ty n) (.ty n)
 |glb {x:Str}{a:Addr} (m:mg x=some (.ref a)):RelD ρ H (.glb x) (.ref a)
 |exc {x:Str}{a C:Addr} (m:mg x=some (.ref C)) (e:H a=some (.ext (B8 a C))):RelD ρ H (.exc x) (.ref a)
 |tup {p:Addr}{vs:List V}{ds:List D} (h:SqT K H p vs) (r:RelDs ρ H ds vs):RelD ρ H (.tup ds) (.ref p)
 |ref {n:Nat}{a:Addr} (e:ρ[n]?=some a):RelD ρ H (.ref n) (.ref a)
 |kl {a:Addr}{vs:List V}{ds:List D} (h:∃(o:Obj) (its:Array Value) (n:Nat),K.lookup a=some o/\o.cls=.type "list" /\ o.dict=none/\o.data=.seq its n/\its.size<=sizeLine/\Vals vs its.toList) (r:RelDs ρ H ds vs):RelD ρ H (.kl ds) (.ref a)
inductive RelDs(ρ:List Addr)(H:Hp):List D->List V->Prop where
 |nil:RelDs ρ H [] []
 |cons {d:D}{v:V}{ds:List D}{vs:List V} (r:RelD ρ H d v) (rr:RelDs ρ H ds vs):RelDs ρ H (d::ds) (v::vs)
end
structure Le(ρ:List Addr)(H:Hp)(ρ':List Addr)(H':Hp):Prop where
 pre:∀(n:Nat) (a:Addr),ρ[n]?=some a->ρ'[n]?=some a
 tup:∀b xs,H b=some (.tup xs)->H' b=some (.tup xs)
 frz:∀b o u,H b=some (.frz o u)->H' b=some (.frz o u)
 ext:∀b φ,H b=some (.ext φ)->H' b=some (.ext φ)
def ObR(ρ:List Addr)(H:Hp)(a:Addr):Ob->Prop
 |.lst ds=>∃vs,H a=some (.lst vs)/\RelDs K mg ρ H ds vs
 |.fz ds=>∃o vs,H a=some (.frz o (.lst vs))/\RelDs K mg ρ H ds vs
 |.set xs=>xs.Nodup/\H a=some (.set (λi=>decide (i∈xs)) xs.length)
 |.dct kvs=>∃ws,H a=some (.dK ws)/\ws.map (·.1)=kvs.map (·.1)/\RelDs K mg ρ H (kvs.map (·.2)) (ws.map (·.2))
 |.any=>∃o,H a=some o
structure Wd(ρ:List Addr)(h:AH)(H:Hp):Prop where
 len:ρ.length=h.length
 nd:ρ.Nodup
 ob:∀(n:Nat) (a:Addr) (o:Ob),ρ[n]?=some a->h[n]?=some o->ObR K mg ρ H a o
structure RelE(ρ:List Addr)(H:Hp)(ae:AE)(σ:St):Prop where
 len:ae.length=σ.length
 at_:∀(i:Nat) (d:D),ae[i]?=some (some d)->∃v,σ[i]?=some (some v)/\RelD K mg ρ H d v
def PostG{α:Type}(ρ:List Addr)(H:Hp)(E:XK)(k:α->AH->List Addr->Hp->Prop):R α->Prop
 |.ok a h=>∀ρ' H',Le ρ H ρ' H'->Wd K mg ρ' h H'->k a h ρ' H'
 |.exc c h=>∀ρ' H' C,Le ρ H ρ' H'->Wd K mg ρ' h H'->mg c=some (.ref C)->E (.ref C) none H'
 |.stuck=>False
abbrev eK(ρ:List Addr)(H:Hp)(Q:VK)(E:XK)(r:R D):Prop:=PostG K mg ρ H E (λd _ ρ' H'=>∀v,RelD K mg ρ' H' d v->Q v H') r
abbrev CF(ρ:List Addr)(H:Hp)(Q:Bool->Hp->Prop)(E:XK)(r:R Bool):Prop:=PostG K mg ρ H E (λb _ ρ' H'=>Q b H') r
abbrev CT(ρ:List Addr)(H:Hp)(Q:List V->Hp->Prop)(E:XK)(r:R (List D)):Prop:=PostG K mg ρ H E (λd _ ρ' H'=>∀vs,RelDs K mg ρ' H' d vs->Q vs H') r
def PostS(ρ:List Addr)(H:Hp)(D:Ends)(ES:St->XK):SR->Prop
 |.nx ae h=>∀ρ' H' σ',Le ρ H ρ' H'->Wd K mg ρ' h H'->RelE K mg ρ' H' ae σ'->D.nx σ' H'
 |.bk ae h=>∀ρ' H' σ',Le ρ H ρ' H'->Wd K mg ρ' h H'->RelE K mg ρ' H' ae σ'->D.bk σ' H'
 |.ct ae h=>∀ρ' H' σ',Le ρ H ρ' H'->Wd K mg ρ' h H'->RelE K mg ρ' H' ae σ'->D.ct σ' H'
 |.rt d h=>∀ρ' H' v,Le ρ H ρ' H'->Wd K mg ρ' h H'->RelD K mg ρ' H' d v->D.rt v H'
 |.exc c ae h=>∀ρ' H' σ' C,Le ρ H ρ' H'->Wd K mg ρ' h H'->RelE K mg ρ' H' ae σ'->mg c=some (.ref C)->ES σ' (.ref C) none H'
 |.stuck=>False
def rdE(ES:St->XK)(F:ME):TE:=λσ H Q=>∃ρ h ae,Wd K mg ρ h H/\RelE K mg ρ H ae σ/\eK K mg ρ H Q (ES σ) (F ae h)
def rdT(ES:St->XK)(F:MT):TT:=λσ H Q=>∃ρ h ae,Wd K mg ρ h H/\RelE K mg ρ H ae σ/\CF K mg ρ H Q (ES σ) (F ae h)
def rdA(ES:St->XK)(F:MA):TA:=λσ H Q=>∃ρ h ae,Wd K mg ρ h H/\RelE K mg ρ H ae σ/\CT K mg ρ H Q (ES σ) (F ae h)
def rdS(ES:St->XK)(F:MS):TS:=λD σ H=>∃ρ h ae,Wd K mg ρ h H/\RelE K mg ρ H ae σ/\PostS K mg ρ H D ES (F ae h)
def spD(n:Nat)(S:Fn):Sp:=λvs H Q E=>∃ρ h ds,Wd K mg ρ h H/\RelDs K mg ρ H ds vs/\ds.length=n/\eK K mg ρ H Q E (S ds h)
end
def rdE.el{K:W.Frag}{mg:Str->Option Value}{ES:St->XK}{F:ME}{σ:St}{H:Hp}{Q:VK}{C:Prop}(q:rdE K mg ES F σ H Q)(k:∀ρ h ae,Wd K mg ρ h H->RelE K mg ρ H ae σ->eK K mg ρ H Q (ES σ) (F ae h)->C):C:=by
 obtain⟨ρ,h,ae,w,re,p⟩:=q
 exact k ρ h ae w re p
def rdT.el{K:W.Frag}{mg:Str->Option Value}{ES:St->XK}{F:MT}{σ:St}{H:Hp}{Q:Bool->Hp->Prop}{C:Prop}(q:rdT K mg ES F σ H Q)(k:∀ρ h ae,Wd K mg ρ h H->RelE K mg ρ H ae σ->CF K mg ρ H Q (ES σ) (F ae h)->C):C:=by
 obtain⟨ρ,h,ae,w,re,p⟩:=q
 exact k ρ h ae w re p
def rdA.el{K:W.Frag}{mg:Str->Option Value}{ES:St->XK}{F:MA}{σ:St}{H:Hp}{Q:List V->Hp->Prop}{C:Prop}(q:rdA K mg ES F σ H Q)(k:∀ρ h ae,Wd K mg ρ h H->RelE K mg ρ H ae σ->CT K mg ρ H Q (ES σ) (F ae h)->C):C:=by
 obtain⟨ρ,h,ae,w,re,p⟩:=q
 exact k ρ h ae w re p
def rdS.el{K:W.Frag}{mg:Str->Option Value}{ES:St->XK}{F:MS}{σ:St}{H:Hp}{De:Ends}{C:Prop}(q:rdS K mg ES F De σ H)(k:∀ρ h ae,Wd K mg ρ h H->RelE K mg ρ H ae σ->PostS K mg ρ H De ES (F ae h)->C):C:=by
 obtain⟨ρ,h,ae,w,re,p⟩:=q
 exact k ρ h ae w re p
section
variable{K:W.Frag}{mg:Str->Option Value}{ρ ρ' ρ1:List Addr}{H H' H1:Hp}{h h':AH}{ae:AE}{σ:St}
def Le.refl:Le ρ H ρ H:=⟨λ_ _ e=>e,λ_ _ e=>e,λ_ _ _ e=>e,λ_ _ e=>e⟩
def Le.trans(a:Le ρ H ρ1 H1)(b:Le ρ1 H1 ρ' H'):Le ρ H ρ' H':=
 ⟨λn x e=>b.pre n x (a.pre n x e),λx y e=>b.tup x y (a.tup x y e),λx y z e=>b.frz x y z (a.frz x y z e),λx y e=>b.ext x y (a.ext x y e)⟩
def Le.sqT{a:Addr}{xs:List V}(l:Le ρ H ρ' H')(q:SqT K H a xs):SqT K H' a xs:=by
 rcases q with (q |⟨o,q⟩) |q
 ·exact .inl (.inl (l.tup _ _ q))
 ·exact .inl (.inr ⟨o,l.frz _ _ _ q⟩)
 ·exact .inr q
def RelD.mono(l:Le ρ H ρ' H'){d:D}{v:V}(r:RelD K mg ρ H d v):RelD K mg ρ' H' d v:=
 RelD.rec (motive_1:=λd v _=>RelD K mg ρ' H' d v) (motive_2:=λds vs _=>RelDs K mg ρ' H' ds vs) .non (λb=>.bl b) (λi=>.int i) (λx=>.str x) (λn=>.ty n) (λm=>.glb m) (λm e=>.exc m (l.ext _ _ e)) (λh _ ih=>.tup (l.sqT h) ih) (λe=>.ref (l.pre _ _ e)) (λh _ ih=>.kl h ih) .nil (λ_ _ a b=>.cons a b) r
def RelDs.ind{M:List D->List V->Prop}(h0:M [] [])(h1:∀{d v ds vs},RelD K mg ρ H d v->RelDs K mg ρ H ds vs->M ds vs->M (d::ds) (v::vs)){ds:List D}{vs:List V}(r:RelDs K mg ρ H ds vs):M ds vs:=by
 induction ds generalizing vs with
 |nil=>cases r;exact h0
 |
  cons d ds ih=>
  cases r with
  |cons r rr=>exact h1 r rr (ih rr)
def RelDs.mono(l:Le ρ H ρ' H'){ds:List D}{vs:List V}(r:RelDs K mg ρ H ds vs):RelDs K mg ρ' H' ds vs:=r.ind .nil λr _ ih=>.cons (r.mono l) ih
def RelDs.len{ds:List D}{vs:List V}(r:RelDs K mg ρ H ds vs):ds.length=vs.length:=r.ind (M:=λds vs=>ds.length=vs.length) rfl λ_ _ ih=>O3 (· + 1) ih
def RelDs.getD{ds:List D}{vs:List V}{i:Nat}{d:D}(r:RelDs K mg ρ H ds vs)(e:ds[i]?=some d):∃v,vs[i]?=some v/\RelD K mg ρ H d v:=
 r.ind (M:=λds vs=>∀i,ds[i]?=some d->∃v,vs[i]?=some v/\RelD K mg ρ H d v) (λ_ e=>by rw[P5] at e;cases e) (λr _ ih i e=>match i,e with
  |0,e=>by cases e;exact⟨_,rfl,r⟩
  |i+1,e=>ih i e) i e
def RelDs.append{ds es:List D}{vs ws:List V}(r:RelDs K mg ρ H ds vs)(q:RelDs K mg ρ H es ws):RelDs K mg ρ H (ds++es) (vs++ws):=r.ind (M:=λds vs=>RelDs K mg ρ H (ds++es) (vs++ws)) q λr _ ih=>.cons r ih
def RelDs.take{ds:List D}{vs:List V}(n:Nat)(r:RelDs K mg ρ H ds vs):RelDs K mg ρ H (ds.take n) (vs.take n):=
 r.ind (M:=λds vs=>∀n:Nat,RelDs K mg ρ H (ds.take n) (vs.take n)) (λn=>by rw[PX,PX];exact .nil) (λr _ ih n=>by cases n with |zero=>exact .nil |succ n=>exact .cons r (ih n)) n
def RelDs.drop{ds:List D}{vs:List V}(n:Nat)(r:RelDs K mg ρ H ds vs):RelDs K mg ρ H (ds.drop n) (vs.drop n):=
 r.ind (M:=λds vs=>∀n:Nat,RelDs K mg ρ H (ds.drop n) (vs.drop n)) (λn=>by rw[Qi,Qi];exact .nil) (λr rr ih n=>by cases n with |zero=>exact .cons r rr |succ n=>exact ih n) n
def RelDs.set{d:D}{v:V}(r:RelD K mg ρ H d v){ds:List D}{vs:List V}(i:Nat)(q:RelDs K mg ρ H ds vs):RelDs K mg ρ H (ds.set i d) (vs.set i v):=
 q.ind (M:=λds vs=>∀i:Nat,RelDs K mg ρ H (ds.set i d) (vs.set i v)) (λ_=>.nil) (λq qq ih i=>by cases i with |zero=>exact .cons r qq |succ i=>exact .cons q (ih i)) i
def RelDs.ints:∀{ns:List Int}{vs:List V},RelDs K mg ρ H (ns.map D.int) vs->vs=ns.map V.int:=by
 intro ns
 induction ns with
 |nil=>intro vs r;cases r;rfl
 |
  cons n ns ih=>
  intro vs r
  cases r with
  |cons r rr=>cases r;rw[ih rr];rfl
def RelDs.bls:∀{ns:List Bool}{vs:List V},RelDs K mg ρ H (ns.map D.bl) vs->vs=ns.map V.bl:=by
 intro ns
 induction ns with
 |nil=>intro vs r;cases r;rfl
 |
  cons n ns ih=>
  intro vs r
  cases r with
  |cons r rr=>cases r;rw[ih rr];rfl
def RelE.mono(l:Le ρ H ρ' H')(r:RelE K mg ρ H ae σ):RelE K mg ρ' H' ae σ:=⟨r.len,λi d e=>by
 obtain⟨v,h1,h2⟩:=r.at_ i d e
 exact⟨v,h1,h2.mono l⟩⟩
def RelE.set{d:D}{v:V}(i:Nat)(r:RelE K mg ρ H ae σ)(q:RelD K mg ρ H d v):RelE K mg ρ H (ae.set i (some d)) (σ.set i (some v)):=⟨by rw[Oq,Oq];exact r.len,λj d' e=>by
 rw[Qt] at e ⊢
 by_cases hij:i=j
 ·rw[if_pos hij] at e ⊢
  by_cases hi:i<ae.length
  ·rw[if_pos hi] at e
   cases e
   rw[if_pos (by rw[<- r.len];exact hi)]
   exact⟨v,rfl,q⟩
  ·rw[if_neg hi] at e;cases e
 ·rw[if_neg hij] at e ⊢
  exact r.at_ j d' e⟩
def ObR.mono{a:Addr}{o:Ob}(l:Le ρ H ρ' H')(e:H' a=H a)(q:ObR K mg ρ H a o):ObR K mg ρ' H' a o:=by
 cases o with
 |lst ds=>obtain⟨vs,h1,h2⟩:=q;exact⟨vs,e.trans h1,h2.mono l⟩
 |fz ds=>obtain⟨o,vs,h1,h2⟩:=q;exact⟨o,vs,e.trans h1,h2.mono l⟩
 |set xs=>exact⟨q.1,e.trans q.2⟩
 |dct kvs=>obtain⟨ws,h1,h2,h3⟩:=q;exact⟨ws,e.trans h1,h2,h3.mono l⟩
 |any=>obtain⟨o,h1⟩:=q;exact⟨o,e.trans h1⟩
def ObR.there{a:Addr}{o:Ob}(q:ObR K mg ρ H a o):∃u,H a=some u:=by
 cases o with
 |lst ds=>obtain⟨vs,h1,_⟩:=q;exact⟨_,h1⟩
 |fz ds=>obtain⟨o,vs,h1,_⟩:=q;exact⟨_,h1⟩
 |set xs=>exact⟨_,q.2⟩
 |dct kvs=>obtain⟨ws,h1,_⟩:=q;exact⟨_,h1⟩
 |any=>exact q
def Wd.fresh(w:Wd K mg ρ h H){p:Addr}(hp:H p=none):p∉ρ:=λhm=>by
 obtain⟨n,hn⟩:=QK hm
 have hl:n<h.length:=by rw[<- w.len];exact (N_.mp hn).1
 obtain⟨u,hu⟩:=(w.ob n p h[n] hn (OG hl)).there
 rw[hp] at hu;cases hu
def eF{p:Addr}{o:HO}(hp:H p=none):Le ρ H ρ (upd H p o):=
 ⟨λ_ _ e=>e,λb xs e=>by rw[aT (cI e hp)];exact e,λb xs u e=>by rw[aT (cI e hp)];exact e,λb xs e=>by rw[aT (cI e hp)];exact e⟩
def mr{m:List Addr}:Le ρ H (ρ++m) H:=
 ⟨λn a e=>by rw[OF (N_.mp e).1];exact e,λ_ _ e=>e,λ_ _ _ e=>e,λ_ _ e=>e⟩
def Wd.alloc{p:Addr}{u:HO}{o:Ob}(w:Wd K mg ρ h H)(hp:H p=none)(hn:ObR K mg (ρ++[p]) (upd H p u) p o):Wd K mg (ρ++[p]) (h++[o]) (upd H p u):=by
 refine⟨by rw[Oa,Oa,w.len];rfl,?_,λn a ob e1 e2=>?_⟩
 ·rw[List.nodup_append]
  exact⟨w.nd,by simp,λa ha b hb=>by rw[Qn] at hb;subst hb;intro z;subst z;exact w.fresh hp ha⟩
 ·by_cases hl:n<ρ.length
  ·rw[OF hl] at e1
   rw[OF (by rw[<- w.len];exact hl)] at e2
   have q:=w.ob n a ob e1 e2
   obtain⟨v,hv⟩:=q.there
   exact q.mono ((eF hp).trans mr) (aT (cI hv hp))
  ·have h1:n=ρ.length:=by
    have:=(N_.mp e1).1
    rw[Oa] at this
    simp at this
    omega
   subst h1
   rw[OB (Oe _),Py] at e1
   rw[w.len,OB (Oe _),Py] at e2
   simp at e1 e2
   subst e1 e2
   exact hn
def Wd.tuple{p:Addr}{u:HO}(w:Wd K mg ρ h H)(hp:H p=none):Wd K mg ρ h (upd H p u):=
 ⟨w.len,w.nd,λn a ob e1 e2=>by
  have q:=w.ob n a ob e1 e2
  obtain⟨v,hv⟩:=q.there
  exact q.mono (eF hp) (aT (cI hv hp))⟩
def o3{a:Addr}{o u:HO}(e:H a=some u)(hu:(∀xs,u ≠ .tup xs)/\(∀x y,u ≠ .frz x y)/\∀φ,u ≠ .ext φ):Le ρ H ρ (upd H a o):=by
 refine⟨λ_ _ e=>e,λb xs q=>?_,λb x y q=>?_,λb φ q=>?_⟩ <;> rw[aT] <;> (try exact q) <;> (intro z;subst z;rw[e] at q;have:=Oz q;first |exact hu.1 _ this |exact hu.2.1 _ _ this |exact hu.2.2 _ this)
def Wd.write{n:Nat}{a:Addr}{o u:HO}{ob:Ob}(w:Wd K mg ρ h H)(ea:ρ[n]?=some a)(e:H a=some u)(hu:(∀xs,u ≠ .tup xs)/\(∀x y,u ≠ .frz x y)/\∀φ,u ≠ .ext φ)
 (hn:ObR K mg ρ (upd H a o) a ob):Wd K mg ρ (h.set n ob) (upd H a o):=by
 refine⟨by rw[Oq];exact w.len,w.nd,λm b ob' e1 e2=>?_⟩
 rw[Qt] at e2
 by_cases hm:n=m
 ·subst hm
  rw[ea] at e1;cases e1
  rw[if_pos rfl] at e2
  split at e2
  ·cases e2;exact hn
  ·cases e2
 ·rw[if_neg hm] at e2
  have q:=w.ob m b ob' e1 e2
  refine q.mono (o3 e hu) (aT λz=>hm ?_)
  subst z
  have h1:=(N_.mp e1)
  have h2:=(N_.mp ea)
  exact (List.getElem_inj (h₀:=h2.1) (h₁:=h1.1) w.nd).mp (h2.2.trans h1.2.symm)
def sd{vs:List V}:(∀xs,HO.lst vs ≠ .tup xs)/\(∀x y,HO.lst vs ≠ .frz x y)/\∀φ,HO.lst vs ≠ .ext φ:=⟨λ_ z=>(nomatch z),λ_ _ z=>(nomatch z),λ_ z=>(nomatch z)⟩
def CY{S:Int->Bool}{n:Nat}:(∀xs,HO.set S n ≠ .tup xs)/\(∀x y,HO.set S n ≠ .frz x y)/\∀φ,HO.set S n ≠ .ext φ:=⟨λ_ z=>(nomatch z),λ_ _ z=>(nomatch z),λ_ z=>(nomatch z)⟩
def dKNo{ws:List (Key×V)}:(∀xs,HO.dK ws ≠ .tup xs)/\(∀x y,HO.dK ws ≠ .frz x y)/\∀φ,HO.dK ws ≠ .ext φ:=⟨λ_ z=>(nomatch z),λ_ _ z=>(nomatch z),λ_ z=>(nomatch z)⟩
def PostG.mono{α:Type}{E:XK}{k:α->AH->List Addr->Hp->Prop}{r:R α}(l:Le ρ H ρ' H')(p:PostG K mg ρ H E k r):PostG K mg ρ' H' E k r:=by
 cases r with
 |ok d h=>exact λρ2 H2 l2=>p ρ2 H2 (l.trans l2)
 |exc c h=>exact λρ2 H2 C l2=>p ρ2 H2 C (l.trans l2)
 |stuck=>exact p
def PostG.imp{α:Type}{E:XK}{k k':α->AH->List Addr->Hp->Prop}{r:R α}(p:PostG K mg ρ H E k r)(i:∀a h1 ρ' H',Le ρ H ρ' H'->Wd K mg ρ' h1 H'->k a h1 ρ' H'->k' a h1 ρ' H'):PostG K mg ρ H E k' r:=by
 cases r with
 |ok d h=>exact λρ2 H2 l2 w2=>i _ _ _ _ l2 w2 (p ρ2 H2 l2 w2)
 |exc c h=>exact p
 |stuck=>exact p
def PostG.bind{α β:Type}{E:XK}{k:β->AH->List Addr->Hp->Prop}{r:R α}{f:α->AH->R β}(p:PostG K mg ρ H E k (r.bind f)):PostG K mg ρ H E (λa h1 ρ' H'=>PostG K mg ρ' H' E k (f a h1)) r:=by
 cases r with
 |ok d h=>exact λρ2 H2 l2 w2=>PostG.mono l2 p
 |exc c h=>exact p
 |stuck=>exact p
def PostS.mono{De:Ends}{ES:St->XK}{r:SR}(l:Le ρ H ρ' H')(p:PostS K mg ρ H De ES r):PostS K mg ρ' H' De ES r:=by
 cases r with
 |nx ae h=>exact λρ2 H2 σ l2=>p ρ2 H2 σ (l.trans l2)
 |bk ae h=>exact λρ2 H2 σ l2=>p ρ2 H2 σ (l.trans l2)
 |ct ae h=>exact λρ2 H2 σ l2=>p ρ2 H2 σ (l.trans l2)
 |rt d h=>exact λρ2 H2 v l2=>p ρ2 H2 v (l.trans l2)
 |exc c ae h=>exact λρ2 H2 σ C l2=>p ρ2 H2 σ C (l.trans l2)
 |stuck=>exact p
end
end L2
namespace L2
open PySem PySem.Spec PyProof.Rows
section
variable{X:Cx}{e:Expr}{es:List Expr}{st:Stmt}{sts:List Stmt}
def PE.imp{t t':TE}(h:PE X e t)(k:∀σ H Q,t' σ H Q->t σ H Q):PE X e t':=λpins s σ H Q I w=>h pins s σ H Q I (k σ H Q w)
def PT.imp{t t':TT}(h:PT X e t)(k:∀σ H Q,t' σ H Q->t σ H Q):PT X e t':=λpins s σ H Q I w=>h pins s σ H Q I (k σ H Q w)
def PW.imp{t t':TT}(h:PW X e t)(k:∀σ H Q,t' σ H Q->t σ H Q):PW X e t':=λwh pins s σ H Q I w=>h wh pins s σ H Q I (k σ H Q w)
def PA.imp{t t':TA}(h:PA X es t)(k:∀σ H Q,t' σ H Q->t σ H Q):PA X es t':=λpos pins s σ H Q I w=>h pos pins s σ H Q I (k σ H Q w)
def PS.imp{t t':TS}(h:PS X st t)(k:∀D σ H,t' D σ H->t D σ H):PS X st t':=λpins s σ H D I w=>h pins s σ H D I (k D σ H w)
def PSs.imp{t t':TS}(h:PSs X sts t)(k:∀D σ H,t' D σ H->t D σ H):PSs X sts t':=λpins s σ H D I w=>h pins s σ H D I (k D σ H w)
def PG.imp{t t':TG}(h:PG X e t)(k:∀v σ H Q,t' v σ H Q->t v σ H Q):PG X e t':=λpins s σ H v u Q I r w=>h pins s σ H v u Q I r (k v σ H Q w)
def PGs.imp{t t':TGs}(h:PGs X es t)(k:∀v σ H Q,t' v σ H Q->t v σ H Q):PGs X es t':=λpins s σ H v u Q I r w=>h pins s σ H v u Q I r (k v σ H Q w)
def PO.imp{o:Option Expr}{t t':TO}(h:PO X o t)(k:∀σ H Q,t' σ H Q->t σ H Q):PO X o t':=λpins s σ H Q I w=>h pins s σ H Q I (k σ H Q w)
end
section
variable(K:W.Frag)(mg:Str->Option Value)(X:Cx)(ES:St->XK)
def DE(e:Expr)(F:ME):Prop:=PE X e (rdE K mg ES F)
def DT(e:Expr)(F:MT):Prop:=PT X e (rdT K mg ES F)
def DW(e:Expr)(F:MT):Prop:=PW X e (rdT K mg ES F)
def DA(es:List Expr)(F:MA):Prop:=PA X es (rdA K mg ES F)
def DS(st:Stmt)(F:MS):Prop:=PS X st (rdS K mg ES F)
def DSs(st:List Stmt)(F:MS):Prop:=PSs X st (rdS K mg ES F)
end
def OpD(K:W.Frag)(mg:Str->Option Value)(r:R2)(g:D->D->AH->R D):Prop:=∀ρ h H dx dy x y Q E,Wd K mg ρ h H->RelD K mg ρ H dx x->RelD K mg ρ H dy y->eK K mg ρ H Q E (g dx dy h)->r x y H Q
def UnD(K:W.Frag)(mg:Str->Option Value)(r:V->Hp->VK->Prop)(g:D->AH->R D):Prop:=∀ρ h H dx x Q E,Wd K mg ρ h H->RelD K mg ρ H dx x->eK K mg ρ H Q E (g dx h)->r x H Q
def bG(K:W.Frag)(mg:Str->Option Value)(r:List V->Hp->VK->Prop)(g:Fn):Prop:=∀ρ h H ds vs Q E,Wd K mg ρ h H->RelDs K mg ρ H ds vs->eK K mg ρ H Q E (g ds h)->r vs H Q
def aU(i:Nat):ME:=λae h=>match ae[i]? with
 |some (some d)=>.ok d h
 |_=>.stuck
def eC(d:D):ME:=λ_ h=>.ok d h
def eOp(g:D->D->AH->R D)(F G:ME):ME:=λae h=>(F ae h).bind λx h1=>(G ae h1).bind λy h2=>g x y h2
def eUn(g:D->AH->R D)(F:ME):ME:=λae h=>(F ae h).bind g
def cK:MA:=λ_ h=>.ok [] h
def bz(F:ME)(G:MA):MA:=λae h=>(F ae h).bind λx h1=>(G ae h1).bind λxs h2=>.ok (x::xs) h2
def eFn(g:Fn)(A:MA):ME:=λae h=>(A ae h).bind g
def oD(ds:List D)(h:AH):R D:=if ds.length<=16777216 then .ok (.tup ds) h else .stuck
def cH(ds:List D)(h:AH):R D:=if ds.length<=16777216 then .ok (.ref h.length) (h++[.lst ds]) else .stuck
def asB(d:D)(h:AH):R Bool:=match d with
 |.bl b=>.ok b h
 |_=>.stuck
def Cp(F G:ME):ME:=λae h=>(F ae h).bind λx h1=>(asB x h1).bind λb h2=>if b=true then G ae h2 else .ok (.bl false) h2
def Ak(F:ME):ME:=λae h=>(F ae h).bind λx h1=>(asB x h1).bind λb h2=>.ok (.bl (!b)) h2
def tOf(F:ME):MT:=λae h=>(F ae h).bind asB
def tAn(c d:MT):MT:=λae h=>(c ae h).bind λb h1=>if b=true then d ae h1 else .ok false h1
def tO(c d:MT):MT:=λae h=>(c ae h).bind λb h1=>if b=true then .ok true h1 else d ae h1
def tNo(c:MT):MT:=λae h=>(c ae h).bind λb h1=>.ok (!b) h1
section
variable{K:W.Frag}{mg:Str->Option Value}{ρ:List Addr}{H:Hp}{h:AH}
def fL{Q:VK}{E:XK}{ds:List D}{vs:List V}{p:Addr}(w:Wd K mg ρ h H)(rs:RelDs K mg ρ H ds vs)(hp:H p=none)(q:eK K mg ρ H Q E (.ok (.ref h.length) (h++[.lst ds]))):Q (.ref p) (upd H p (.lst vs)):=by
 have l:Le ρ H (ρ++[p]) (upd H p (.lst vs)):=(eF hp).trans mr
 refine q (ρ++[p]) _ l (w.alloc hp ⟨vs,cB,rs.mono l⟩) _ (.ref ?_)
 rw[<- w.len,OB (Oe _),Py]
 rfl
def ky{Q:VK}{E:XK}{ds:List D}{vs:List V}{p:Addr}(w:Wd K mg ρ h H)(rs:RelDs K mg ρ H ds vs)(hp:H p=none)(q:eK K mg ρ H Q E (.ok (.tup ds) h)):Q (.ref p) (upd H p (.tup vs)):=
 q ρ _ (eF hp) (w.tuple hp) _ (.tup (SqT.of cB) (rs.mono (eF hp)))
def aP{Q:VK}{E:XK}{d:D}{v:V}(w:Wd K mg ρ h H)(r:RelD K mg ρ H d v)(q:eK K mg ρ H Q E (.ok d h)):Q v H:=q ρ H Le.refl w v r
end
section
variable{K:W.Frag}{mg:Str->Option Value}{X:Cx}{ES:St->XK}{e a b c:Expr}{es:List Expr}{F G:ME}{A:MA}{cf cg:MT}{pos:Pos}
def FC(i:Nat){x:Str}(hN:X.N[i]?=some x:=by rfl)(hv:Vis X.env.scope x:=by first |exact Or.inl rfl |exact Or.inr (Or.inl rfl) |exact Or.inr (Or.inr rfl))(hd:(x==("__debug__" : Str))=false:=by decide)
 (hcd:(x==("__classdict__" : Str))=false:=by decide):DE K mg X ES (.Name x pos) (aU i):=PE.imp (zY hN hv hd hcd) λσ H Q q_=>q_.el λρ h ae w re p=>by
 unfold aU at p
 split at p
 ·rename_i d ed
  obtain⟨v,e1,r⟩:=re.at_ i d ed
  exact⟨v,e1,aP w r p⟩
 ·exact p.elim
def uL{v:V}{d:D}(hp:PE X e (tC v))(r:∀ρ H,RelD K mg ρ H d v):DE K mg X ES e (eC d):=PE.imp hp λσ H Q q_=>q_.el λρ h ae w re p=>aP w (r ρ H) p
def HY{i:Int}{j:Nat}:DE K mg X ES (.Constant (.int i) j pos) (eC (.int i)):=uL Jm λ_ _=>.int i
def Kk{i:Bool}{j:Nat}:DE K mg X ES (.Constant (.bool i) j pos) (eC (.bl i)):=uL KY λ_ _=>.bl i
def Ii{x:Str}{j:Nat}:DE K mg X ES (.Constant (.str x) j pos) (eC (.str x)):=uL F8 λ_ _=>.str x
structure GC(K:W.Frag)(mg:Str->Option Value)(x:Str)(d:D):Prop where
 ex:∃u v,mg x=some u/\RelV v u/\∀ρ H,RelD K mg ρ H d v
def LW{x:Str}{d:D}(hg:Gl X x)(ha:GC K mg x d)(hm:X.mg=mg:=by rfl)(hd:(x==("__debug__" : Str))=false:=by decide):DE K mg X ES (.Name x pos) (eC d):=by
 subst hm
 obtain⟨u,v,h1,h2,h3⟩:=ha.ex
 exact uL (Fh hg h1 h2 hd) h3
def Mc{x:Str}{n:String}(hg:Gl X x)(hm:mg x=none)(hv:bootBuiltins x=some (.type n))(he:X.mg=mg:=by rfl)(hn:x ≠ "__name__":=by decide)(hd:(x==("__debug__" : Str))=false:=by decide):DE K mg X ES (.Name x pos) (eC (.ty n)):=by
 subst he
 exact uL (Es hg hm hv (v:=.ty n) rfl hn hd) λ_ _=>.ty n
def rY{r:R2}{g:D->D->AH->R D}(hd:OpD K mg r g)(σ:St)(H:Hp)(Q:VK)(q:rdE K mg ES (eOp g F G) σ H Q):tOp r (rdE K mg ES F) (rdE K mg ES G) σ H Q:=by
 obtain⟨ρ,h,ae,w,re,p⟩:=q
 exact⟨ρ,h,ae,w,re,p.bind.imp λdx h1 ρ1 H1 l1 w1 p1 x rx=>⟨ρ1,h1,ae,w1,re.mono l1,p1.bind.imp λdy h2 ρ2 H2 l2 w2 p2 y ry=>hd ρ2 h2 H2 dx dy x y Q _ w2 (rx.mono l2) ry p2⟩⟩
def Mm{op:Operator}{r:R2}{g:D->D->AH->R D}(ho:OpR X (binaryOp op) r)(hd:OpD K mg r g)(ha:DE K mg X ES a F)(hb:DE K mg X ES b G):DE K mg X ES (.BinOp a op b pos) (eOp g F G):=PE.imp (JO ho ha hb) (rY hd)
def CD{r:R2}{g:D->D->AH->R D}(hr:IxR X r)(hd:OpD K mg r g)(ha:DE K mg X ES a F)(hb:DE K mg X ES b G)(hs:mI b):DE K mg X ES (.Subscript a b pos) (eOp g F G):=PE.imp (KO hr ha hb hs) (rY hd)
def IX{op:CmpOp}{r:R2}{g:D->D->AH->R D}(ho:OpR X (compareOp op) r)(hd:OpD K mg r g)(ha:DE K mg X ES a F)(hb:DE K mg X ES b G)(hm:behindInMarks op b=false):DE K mg X ES (.Compare a [op] [b] pos) (eOp g F G):=PE.imp (Fx ho ha hb hm) (rY hd)
def wa(σ:St)(H:Hp)(Q:Bool->Hp->Prop)(q:rdT K mg ES (tOf F) σ H Q):rdE K mg ES F σ H λx H'=>∃k,x=.bl k/\Q k H':=by
 obtain⟨ρ,h,ae,w,re,p⟩:=q
 refine⟨ρ,h,ae,w,re,p.bind.imp λd h1 ρ1 H1 l1 w1 p1 x rx=>?_⟩
 unfold asB at p1
 split at p1
 ·cases rx;exact⟨_,rfl,p1 ρ1 H1 Le.refl w1⟩
 ·exact p1.elim
def FF{op:CmpOp}{r:R2}{g:D->D->AH->R D}(ho:OpR X (compareOp op) r)(hd:OpD K mg r g)(ha:DE K mg X ES a F)(hb:DE K mg X ES b G)(hm:behindInMarks op b=false):DT K mg X ES (.Compare a [op] [b] pos) (tOf (eOp g F G)):=
 PT.imp (Fb ho ha hb hm) λσ H Q q=>rY hd σ H _ (wa σ H Q q)
def GS(ha:DE K mg X ES a F)(he:∀ci,isTrue a X.env ci=(do let v <- ci;standAt a.pos;holding [v] (truthy v)):=by intro _;rfl):DT K mg X ES a (tOf F):=
 PT.imp (Jq ha he) λσ H Q q=>wa σ H Q q
def Il(ha:DT K mg X ES a cf):DT K mg X ES (.UnaryOp .Not a pos) (tNo cf):=PT.imp (Gr ha) λσ H Q q_=>q_.el λρ h ae w re p=>
 ⟨ρ,h,ae,w,re,p.bind.imp λb h1 ρ1 H1 l1 w1 p1=>p1 ρ1 H1 Le.refl w1⟩
def Eb(ha:DT K mg X ES a cf):DW K mg X ES (.BoolOp .And [a] pos) cf:=Ez ha
def G9(ha:DT K mg X ES a cf):DW K mg X ES (.BoolOp .Or [a] pos) cf:=FQ ha
def Jj(ha:DT K mg X ES a cf)(hb:DW K mg X ES (.BoolOp .And (b::es) pos) cg):DW K mg X ES (.BoolOp .And (a::b::es) pos) (tAn cf cg):=PW.imp (GD ha hb) λσ H Q q_=>q_.el λρ h ae w re p=>
 ⟨ρ,h,ae,w,re,p.bind.imp λb h1 ρ1 H1 l1 w1 p1=>by
  cases b with
  |true=>exact⟨ρ1,h1,ae,w1,re.mono l1,p1⟩
  |false=>exact p1 ρ1 H1 Le.refl w1⟩
def KJ(ha:DT K mg X ES a cf)(hb:DW K mg X ES (.BoolOp .Or (b::es) pos) cg):DW K mg X ES (.BoolOp .Or (a::b::es) pos) (tO cf cg):=PW.imp (Lx ha hb) λσ H Q q_=>q_.el λρ h ae w re p=>
 ⟨ρ,h,ae,w,re,p.bind.imp λb h1 ρ1 H1 l1 w1 p1=>by
  cases b with
  |true=>exact p1 ρ1 H1 Le.refl w1
  |false=>exact⟨ρ1,h1,ae,w1,re.mono l1,p1⟩⟩
def DW.dt(h:DW K mg X ES a cf):DT K mg X ES a cf:=PW.pt h
def Gf{op}(h:DE K mg X ES a F):DE K mg X ES (.BoolOp op [a] pos) F:=GV h
def HE(ha:DE K mg X ES a F)(hb:DE K mg X ES (.BoolOp .And (b::es) pos) G):DE K mg X ES (.BoolOp .And (a::b::es) pos) (Cp F G):=PE.imp (JC ha hb) λσ H Q q_=>q_.el λρ h ae w re p=>by
 refine⟨ρ,h,ae,w,re,p.bind.imp λd h1 ρ1 H1 l1 w1 p1 x rx=>?_⟩
 unfold asB at p1
 split at p1
 ·rename_i b'
  cases rx
  refine⟨b',rfl,?_⟩
  cases b' with
  |true=>exact⟨ρ1,h1,ae,w1,re.mono l1,p1⟩
  |false=>exact p1 ρ1 H1 Le.refl w1 _ (.bl false)
 ·exact p1.elim
def GF(ha:DE K mg X ES a F):DE K mg X ES (.UnaryOp .Not a pos) (Ak F):=PE.imp (Io ha) λσ H Q q_=>q_.el λρ h ae w re p=>by
 refine⟨ρ,h,ae,w,re,p.bind.imp λd h1 ρ1 H1 l1 w1 p1 x rx=>?_⟩
 unfold asB at p1
 split at p1
 ·cases rx
  exact⟨_,rfl,p1 ρ1 H1 Le.refl w1 _ (.bl _)⟩
 ·exact p1.elim
def L6{op:UnaryOp}{r:V->Hp->VK->Prop}{g:D->AH->R D}(ho:UnR X (unaryOp op) r)(hd:UnD K mg r g)(ha:DE K mg X ES a F):DE K mg X ES (.UnaryOp op a pos) (eUn g F):=PE.imp (Ls ho ha) λσ H Q q_=>q_.el λρ h ae w re p=>
 ⟨ρ,h,ae,w,re,p.bind.imp λd h1 ρ1 H1 l1 w1 p1 x rx=>hd ρ1 h1 H1 d x Q _ w1 rx p1⟩
def zZ:DA K mg X ES [] cK:=PA.imp Jw λσ H Q q_=>q_.el λρ h ae w re p=>p ρ H Le.refl w _ .nil
def vz(ha:DE K mg X ES e F)(hr:DA K mg X ES es A)(hs:starEach (e::es) X.env=(false,eval e X.env)::starEach es X.env:=by rfl):DA K mg X ES (e::es) (bz F A):=PA.imp (DY ha hr hs) λσ H Q q_=>q_.el λρ h ae w re p=>
 ⟨ρ,h,ae,w,re,p.bind.imp λd h1 ρ1 H1 l1 w1 p1 x rx=>⟨ρ1,h1,ae,w1,re.mono l1,p1.bind.imp λds h2 ρ2 H2 l2 w2 p2 vs rs=>p2 ρ2 H2 Le.refl w2 _ (.cons (rx.mono l2) rs)⟩⟩
def JD{x1}(h:DA K mg X ES es A):DE K mg X ES (.Tuple es x1 pos) (eFn oD A):=PE.imp (Hq h) λσ H Q q_=>q_.el λρ h ae w re p=>
 ⟨ρ,
  h,ae,w,re,p.bind.imp λds h1 ρ1 H1 l1 w1 p1 vs rs=>by
  unfold oD at p1
  split at p1
  ·rename_i hl
   exact⟨by rw[<- rs.len];exact hl,λq hq=>ky w1 rs hq p1⟩
  ·exact p1.elim⟩
def G6(h:DA K mg X ES es A):DE K mg X ES (.List es pos) (eFn cH A):=PE.imp (JE h) λσ H Q q_=>q_.el λρ h ae w re p=>
 ⟨ρ,
  h,ae,w,re,p.bind.imp λds h1 ρ1 H1 l1 w1 p1 vs rs=>by
  unfold cH at p1
  split at p1
  ·rename_i hl
   exact⟨by rw[<- rs.len];exact hl,λq hq=>fL w1 rs hq p1⟩
  ·exact p1.elim⟩
def CH{r:List V->Hp->VK->Prop}{g:Fn}(hd:bG K mg r g)(σ:St)(H:Hp)(Q:VK)(q:rdE K mg ES (eFn g A) σ H Q):tCB r (rdA K mg ES A) σ H Q:=by
 obtain⟨ρ,h,ae,w,re,p⟩:=q
 exact⟨ρ,h,ae,w,re,p.bind.imp λds h1 ρ1 H1 l1 w1 p1 vs rs=>hd ρ1 h1 H1 ds vs Q _ w1 rs p1⟩
def CB{id:String}{r:List V->Hp->VK->Prop}{g:Fn}{x:Str}{p:Pos}(hc:CallR X (.builtin id) r)(hd:bG K mg r g)(hg:Gl X x)(hm:mg x=none)(hv:bootBuiltins x=some (.builtin id))(ha:DA K mg X ES (e::es) A)(hk:X.mg=mg:=by rfl)(hn:x ≠ "__name__":=by decide)(hdb:(x==("__debug__" : Str))=false:=by decide)
 (he:starEach (e::es) X.env=(false,eval e X.env)::starEach es X.env:=by rfl) (hpl:(backTo pos (starEach es X.env)).any (·.1)=false:=by rfl):DE K mg X ES (.Call (.Name x p) (e::es) [] pos) (eFn g A):=by
 subst hk
 exact PE.imp (Bf hc hg hm hv ha hn hdb he hpl) (CH hd)
def zF{T:String}{r:List V->Hp->VK->Prop}{g:Fn}{x:Str}{p:Pos}(hc:CallR X (.type T) r)(hd:bG K mg r g)(hg:Gl X x)(hm:mg x=none)(hv:bootBuiltins x=some (.type T))(ha:DA K mg X ES (e::es) A)(hk:X.mg=mg:=by rfl)(hn:x ≠ "__name__":=by decide)(hdb:(x==("__debug__" : Str))=false:=by decide)
 (he:starEach (e::es) X.env=(false,eval e X.env)::starEach es X.env:=by rfl) (hpl:(backTo pos (starEach es X.env)).any (·.1)=false:=by rfl):DE K mg X ES (.Call (.Name x p) (e::es) [] pos) (eFn g A):=by
 subst hk
 exact PE.imp (yP hc hg hm hv ha hn hdb he hpl) (CH hd)
end
end L2
namespace L2
open PySem PySem.Spec PyProof.Rows
def SR.then(r:SR)(f:AE->AH->SR):SR:=match r with
 |.nx ae h=>f ae h
 |.rt d h=>.rt d h
 |.bk ae h=>.bk ae h
 |.ct ae h=>.ct ae h
 |.exc c ae h=>.exc c ae h
 |.stuck=>.stuck
def R.toS{α:Type}(r:R α)(ae:AE)(f:α->AH->SR):SR:=match r with
 |.ok a h=>f a h
 |.exc c h=>.exc c ae h
 |.stuck=>.stuck
def sNx:MS:=λae h=>.nx ae h
def wJ:MS:=λ_ h=>.rt .non h
def ja(F G:MS):MS:=λae h=>(F ae h).then G
def BB(F:ME):MS:=λae h=>(F ae h).toS ae λd h1=>.rt d h1
def iK(F:ME):MS:=λae h=>(F ae h).toS ae λ_ h1=>.nx ae h1
def sIf(c:MT)(F G:MS):MS:=λae h=>(c ae h).toS ae λb h1=>if b=true then F ae h1 else G ae h1
abbrev MG:=D->AE->AH->R AE
abbrev MGs:=List D->AE->AH->R AE
def iH(F:ME)(g:MG):MS:=λae h=>(F ae h).toS ae λd h1=>(g d ae h1).toS ae λbd h2=>.nx bd h2
def gN(i:Nat):MG:=λd ae h=>.ok (ae.set i (some d)) h
def gsN:MGs:=λds ae h=>match ds with
 | []=>.ok ae h
 |_=>.stuck
def gsC(g:MG)(u:MGs):MGs:=λds ae h=>match ds with
 |d::r=>(g d ae h).bind λbd h'=>u r bd h'
 | []=>.stuck
def gT(u:MGs):MG:=λd ae h=>match d with
 |.tup ds=>u ds ae h
 |_=>.stuck
def gS(F G:ME)(w:D->D->D->AH->R Unit):MG:=λv ae h=>(F ae h).bind λo h1=>(G ae h1).bind λi h2=>(w o i v h2).bind λ_ h3=>.ok ae h3
def A5(i j:Nat)(A:MA):MS:=λae h=>(A ae h).toS ae λds h1=>match ds with
 | [d,e]=>.nx ((ae.set i (some d)).set j (some e)) h1
 |_=>.stuck
def uM(i:Nat)(g:D->D->AH->R D)(F:ME):MS:=λae h=>match ae[i]? with
 |some (some x)=>(F ae h).toS ae λy h1=>(g x y h1).toS ae λz h2=>.nx (ae.set i (some z)) h2
 |_=>.stuck
def uf(c:Str)(A:MA):MS:=λae h=>(A ae h).toS ae λds h1=>if ds.length<=16777216 then .exc c ae h1 else .stuck
section
variable(K:W.Frag)(mg:Str->Option Value)
def rdG(ES:St->XK)(g:MG):TG:=λv σ H Q=>∃ρ h ae d,Wd K mg ρ h H/\RelE K mg ρ H ae σ/\RelD K mg ρ H d v/\PostG K mg ρ H (ES σ) (λbd _ ρ' H'=>∀σ',RelE K mg ρ' H' bd σ'->Q σ' H') (g d ae h)
def rdGs(ES:St->XK)(g:MGs):TGs:=λvs σ H Q=>∃ρ h ae ds,Wd K mg ρ h H/\RelE K mg ρ H ae σ/\RelDs K mg ρ H ds vs/\PostG K mg ρ H (ES σ) (λbd _ ρ' H'=>∀σ',RelE K mg ρ' H' bd σ'->Q σ' H') (g ds ae h)
def DG(X:Cx)(ES:St->XK)(e:Expr)(g:MG):Prop:=PG X e (rdG K mg ES g)
def DGs(X:Cx)(ES:St->XK)(es:List Expr)(g:MGs):Prop:=PGs X es (rdGs K mg ES g)
def oW(X:Cx)(ES:St->XK):Prop:=∀(pins:List (Addr×Obj)) (σ:St) (H:Hp) (s:Shared) (e:Value) (s':Shared),Inv X pins σ H s->CX1 X.prog X.w X.stack H s (ES σ) e s'->X.xe e s'
end
def rdG.el{K:W.Frag}{mg:Str->Option Value}{ES:St->XK}{g:MG}{v:V}{σ:St}{H:Hp}{Q:St->Hp->Prop}{C:Prop}(q:rdG K mg ES g v σ H Q)(k:∀ρ h ae d,Wd K mg ρ h H->RelE K mg ρ H ae σ->RelD K mg ρ H d v->PostG K mg ρ H (ES σ) (λbd _ ρ' H'=>∀σ',RelE K mg ρ' H' bd σ'->Q σ' H') (g d ae h)->C):C:=by
 obtain⟨ρ,h,ae,d,w,re,rd,p⟩:=q
 exact k ρ h ae d w re rd p
def rdGs.el{K:W.Frag}{mg:Str->Option Value}{ES:St->XK}{g:MGs}{v:List V}{σ:St}{H:Hp}{Q:St->Hp->Prop}{C:Prop}(q:rdGs K mg ES g v σ H Q)(k:∀ρ h ae d,Wd K mg ρ h H->RelE K mg ρ H ae σ->RelDs K mg ρ H d v->PostG K mg ρ H (ES σ) (λbd _ ρ' H'=>∀σ',RelE K mg ρ' H' bd σ'->Q σ' H') (g d ae h)->C):C:=by
 obtain⟨ρ,h,ae,d,w,re,rd,p⟩:=q
 exact k ρ h ae d w re rd p
section
variable{K:W.Frag}{mg:Str->Option Value}{X:Cx}{ES:St->XK}{ρ:List Addr}{H:Hp}{h:AH}{ae:AE}{σ:St}{De:Ends}
def cN{α:Type}{r:R α}{f:α->AH->SR}{k:α->AH->List Addr->Hp->Prop}(p:PostS K mg ρ H De ES (r.toS ae f))(re:RelE K mg ρ H ae σ)
 (i:∀a h1 ρ1 H1,Le ρ H ρ1 H1->Wd K mg ρ1 h1 H1->RelE K mg ρ1 H1 ae σ->PostS K mg ρ1 H1 De ES (f a h1)->k a h1 ρ1 H1):PostG K mg ρ H (ES σ) k r:=by
 cases r with
 |ok a h1=>exact λρ1 H1 l1 w1=>i a h1 ρ1 H1 l1 w1 (re.mono l1) (PostS.mono l1 p)
 |exc c h1=>exact λρ1 H1 C l1 w1 m=>p ρ1 H1 σ C l1 w1 (re.mono l1) m
 |stuck=>exact p
def iP{bd:AE}(p:PostS K mg ρ H De ES (.nx bd h))(w:Wd K mg ρ h H)(re:RelE K mg ρ H bd σ):De.nx σ H:=p ρ H σ Le.refl w re
def AS{r:SR}{f:AE->AH->SR}{N:St->Hp->Prop}(p:PostS K mg ρ H De ES (r.then f))(i:∀ae1 h1 ρ1 H1 σ1,Le ρ H ρ1 H1->Wd K mg ρ1 h1 H1->RelE K mg ρ1 H1 ae1 σ1->PostS K mg ρ1 H1 De ES (f ae1 h1)->N σ1 H1):PostS K mg ρ H { De with nx:=N } ES r:=by
 cases r with
 |nx ae1 h1=>exact λρ1 H1 σ1 l1 w1 re1=>i ae1 h1 ρ1 H1 σ1 l1 w1 re1 (PostS.mono l1 p)
 |rt d h1=>exact p
 |bk ae1 h1=>exact p
 |ct ae1 h1=>exact p
 |exc c ae1 h1=>exact p
 |stuck=>exact p
end
section
variable{K:W.Frag}{mg:Str->Option Value}{X:Cx}{ES:St->XK}{e a b c o i:Expr}{es:List Expr}{st:Stmt}{sts sts':List Stmt}{F G:ME}{A:MA}{cf:MT}{U V':MS}{g:MG}{gs:MGs}{pos:Pos}
def Fl:DSs K mg X ES [] sNx:=PSs.imp DP λD σ H q_=>q_.el λρ h ae w re p=>iP p w re
def vX(h1:DS K mg X ES st U):DSs K mg X ES [st] U:=Dw h1
def ng(h1:DS K mg X ES st U)(h2:DSs K mg X ES sts V'):DSs K mg X ES (st::sts) (ja U V'):=PSs.imp (Ao h1 h2) λD σ H q_=>q_.el λρ h ae w re p=>
 ⟨ρ,h,ae,w,re,AS p λae1 h1 ρ1 H1 σ1 l1 w1 re1 p1=>⟨ρ1,h1,ae1,w1,re1,p1⟩⟩
def EK:DS K mg X ES (.Return none pos) wJ:=PS.imp Ed λD σ H q_=>q_.el λρ h ae w re p=>p ρ H _ Le.refl w .non
def Gp(he:DE K mg X ES e F):DS K mg X ES (.Return (some e) pos) (BB F):=PS.imp (Hf he) λD σ H q_=>q_.el λρ h ae w re p=>
 ⟨ρ,h,ae,w,re,cN p re λd h1 ρ1 H1 l1 w1 re1 p1 v rv=>p1 ρ1 H1 v Le.refl w1 rv⟩
def vy(he:DE K mg X ES e F)(hs:swapsWith e none pos.line X.env=pure false:=by rfl):DS K mg X ES (.Expr e pos) (iK F):=PS.imp (DF he hs) λD σ H q_=>q_.el λρ h ae w re p=>
 ⟨ρ,h,ae,w,re,cN p re λd h1 ρ1 H1 l1 w1 re1 p1 v rv=>iP p1 w1 re1⟩
def LK(hc:DT K mg X ES c cf)(ha:DSs K mg X ES sts U)(hb:DSs K mg X ES sts' V'):DS K mg X ES (.If c sts sts' pos) (sIf cf U V'):=PS.imp (JQ hc ha hb) λD σ H q_=>q_.el λρ h ae w re p=>
 ⟨ρ,h,ae,w,re,cN p re λb h1 ρ1 H1 l1 w1 re1 p1=>by
  cases b with
  |true=>exact⟨ρ1,h1,ae,w1,re1,p1⟩
  |false=>exact⟨ρ1,h1,ae,w1,re1,p1⟩⟩
def E8{i:Nat}{x:Str}(hN:X.N.Nodup)(hi:X.N[i]?=some x)(hx:Loc X.env.scope x)(hf:X.fn x=true\/X.env.scope.names.lookup x=some .local:=by first |exact .inl rfl |exact .inr rfl |assumption):DG K mg X ES (.Name x pos) (gN i):=
 PG.imp (DH hN hi hx hf) λv σ H Q q_=>q_.el λρ h ae d w re rd p=>p ρ H Le.refl w _ (re.set i rd)
def EI:DGs K mg X ES [] gsN:=PGs.imp DM λvs σ H Q q_=>q_.el λρ h ae ds w re rd p=>by
 cases rd with
 |nil=>exact⟨rfl,p ρ H Le.refl w _ re⟩
 |cons r rr=>exact p.elim
def BD(h1:DG K mg X (λ_=>E0) e g)(h2:DGs K mg X (λ_=>E0) es gs)
 (hs:(assignEach (e::es) X.env).map (·.2)=assign e X.env::(assignEach es X.env).map (·.2):=by rfl):DGs K mg X (λ_=>E0) (e::es) (gsC g gs):=PGs.imp (Aj h1 h2 hs) λvs σ H Q q_=>q_.el λρ h ae ds w re rd p=>by
 cases rd with
 |nil=>exact p.elim
 |cons r rr=>exact⟨_,_,rfl,ρ,h,ae,_,w,re,r,p.bind.imp λae1 h1 ρ1 H1 l1 w1 p1 σ1 re1=>⟨ρ1,h1,ae1,_,w1,re1,rr.mono l1,p1⟩⟩
def Ju{k n:Nat}(hK:X.K=K)(hc:X.calm=true)(h:DGs K mg X (λ_=>E0) es gs)
 (hn:(assignEach es X.env).length=n:=by rfl) (hst:(assignEach es X.env).findIdx? (·.1)=none:=by rfl):DG K mg X (λ_=>E0) (.Tuple es k pos) (gT λds ae h=>if ds.length=n then gs ds ae h else .stuck):=by
 subst hK
 refine PG.imp (IC hc h hn hst) λv σ H Q q_=>q_.el λρ h ae d w re rd p=>?_
 unfold gT at p
 cases rd with
 |
  tup q rs=>
  dsimp only at p
  split at p
  ·rename_i hl
   exact⟨_,_,rfl,q,by rw[<- rs.len];exact hl,ρ,h,ae,_,w,re,rs,p⟩
  ·exact p.elim
 |_=>exact p.elim
def noX{α:Type}(r:R α):R α:=match r with
 |.exc _ _=>.stuck
 |.ok a h=>.ok a h
 |.stuck=>.stuck
def DG.weak(hg:DG K mg X (λ_=>E0) e g):DG K mg X ES e (λd ae h=>noX (g d ae h)):=PG.imp hg λv σ H Q q_=>q_.el λρ h ae d w re rd p=>by
 refine⟨ρ,h,ae,d,w,re,rd,?_⟩
 try dsimp only at p
 cases q:g d ae h with
 |ok a h1=>rw[q] at p;exact p
 |exc c h1=>rw[q] at p;exact p.elim
 |stuck=>rw[q] at p;exact p.elim
def pM(K:W.Frag)(mg:Str->Option Value)(r:m7)(f:D->D->D->AH->R Unit):Prop:=∀ρ h H do_ di dv o i v (Q:Hp->Prop) E,Wd K mg ρ h H->RelD K mg ρ H do_ o->RelD K mg ρ H di i->RelD K mg ρ H dv v->PostG K mg ρ H E (λ_ _ _ H'=>Q H') (f do_ di dv h)->r o i v H Q
def yA(he:DE K mg X ES e F)(hg:DG K mg X ES a g)(hs:swapsWithSole [a] e pos.line X.env=pure false:=by rfl)(hw:swappedStores [a] e X.env=pure none:=by rfl)
 (h1:(assignEach [a] X.env).map (·.2)=[assign a X.env]:=by rfl):DS K mg X ES (.Assign [a] e pos) (iH F g):=PS.imp (GK he hg hs hw h1) λD σ H q_=>q_.el λρ h ae w re p=>
 ⟨ρ,h,ae,w,re,cN p re λd h1 ρ1 H1 l1 w1 re1 p1 v rv=>⟨ρ1,h1,ae,d,w1,re1,rv,cN p1 re1 λae2 h2 ρ2 H2 l2 w2 re2 p2 σ' re'=>iP p2 w2 re'⟩⟩
def IH{i:Nat}{x:Str}{io:Pos}(hN:X.N.Nodup)(hi:X.N[i]?=some x)(hx:Loc X.env.scope x)(he:DE K mg X ES e F)(hs:swapsWith e (some (.Name x io)) pos.line X.env=pure false:=by rfl)(hf:X.fn x=true\/X.env.scope.names.lookup x=some .local:=by first |exact .inl rfl |exact .inr rfl |assumption):
 DS K mg X ES (.Assign [.Name x io] e pos) (iH F (gN i)):=PS.imp (Hu hN hi hx he hs hf) λD σ H q_=>q_.el λρ h ae w re p=>
 ⟨ρ,h,ae,w,re,cN p re λd h1 ρ1 H1 l1 w1 re1 p1 v rv=>iP p1 w1 (re1.set i rv)⟩
def HU{i j:Nat}{x y:Str}{px py pt:Pos}{kt k2 pt2}(hc:X.calm=true)(hN:X.N.Nodup)(hi:X.N[i]?=some x)(hj:X.N[j]?=some y)(hij:i≠j)
 (hx:X.env.scope.names.lookup x=some .local) (hy:X.env.scope.names.lookup y=some .local) (ha:DA K mg X ES [a,b] A)
 (hw:swappedStores [.Tuple [.Name x px,.Name y py] kt pt] (.Tuple [a,b] k2 pt2) X.env=pure (some [x,y]))
 (hs:swapsWithSole [.Tuple [.Name x px,.Name y py] kt pt] (.Tuple [a,b] k2 pt2) pos.line X.env=pure false:=by rfl):
 DS K mg X ES (.Assign [.Tuple [.Name x px,.Name y py] kt pt] (.Tuple [a,b] k2 pt2) pos) (A5 i j A):=PS.imp (IZ hc hN hi hj hij hx hy ha hw hs) λD σ H q_=>q_.el λρ h ae w re p=>
 ⟨ρ,h,ae,w,re,cN p re λds h1 ρ1 H1 l1 w1 re1 p1 vs rs=>by
  split at p1
  ·cases rs with
   |
    cons r1 rs=>
    cases rs with
    |
     cons r2 rs=>
     cases rs
     exact⟨_,_,rfl,iP p1 w1 ((re1.set i r1).set j r2)⟩
  ·exact p1.elim⟩
def IpD(K:W.Frag)(mg:Str->Option Value)(r:TIp)(g:D->D->AH->R D):Prop:=∀ρ h H dx dy x y Q E,Wd K mg ρ h H->RelD K mg ρ H dx x->RelD K mg ρ H dy y->eK K mg ρ H Q E (g dx dy h)->r x y H Q
def HI{i:Nat}{x:Str}{op:Operator}{ti:TIp}{io:Pos}{gg:D->D->AH->R D}(hN:X.N.Nodup)(hi:X.N[i]?=some x)(hx:Loc X.env.scope x)(he:DE K mg X ES e F)(ho:PIp X op ti)(hd:IpD K mg ti gg)(hf:X.fn x=true\/X.env.scope.names.lookup x=some .local:=by first |exact .inl rfl |exact .inr rfl |assumption):
 DS K mg X ES (.AugAssign (.Name x io) op e pos) (uM i gg F):=PS.imp (Jb hN hi hx he ho hf) λD σ H q_=>q_.el λρ h ae w re p=>by
 unfold uM at p
 split at p
 ·rename_i d ed
  obtain⟨v,e1,r⟩:=re.at_ i d ed
  exact⟨v,e1,ρ,h,ae,w,re,cN p re λdy h1 ρ1 H1 l1 w1 re1 p1 y ry=>hd ρ1 h1 H1 d dy v y _ _ w1 (r.mono l1) ry (cN p1 re1 λdz h2 ρ2 H2 l2 w2 re2 p2 z rz=>iP p2 w2 (re2.set i rz))⟩
 ·exact p.elim
def Ay{x:Str}{C:Addr}{E:XK}{np cpos:Pos}(hc:X.calm=true)(hR:Rz X E)(hg:Gl X x)(hm:mg x=some (.ref C))(hq:W.excIn X.K C eY "ValueError.__new__"=true)(ha:DA K mg X (λ_=>E) (e::es) A)(hk:X.mg=mg:=by rfl)
 (he:starEach (e::es) X.env=(false,eval e X.env)::starEach es X.env:=by rfl) (bi:(backTo cpos (starEach es X.env)).any (·.1)=false:=by rfl) (hd:(x==("__debug__" : Str))=false:=by decide):
 DS K mg X (λ_=>E) (.Raise (some (.Call (.Name x np) (e::es) [] cpos)) none pos) (uf x A):=by
 subst hk
 exact
  PS.imp (BA hc hR hg hm hq ha he bi hd) λD σ H q_=>q_.el λρ h ae w re p=>
  ⟨ρ,
   h,ae,w,re,cN p re λds h1 ρ1 H1 l1 w1 re1 p1 vs rs=>by
   split at p1
   ·rename_i hl
    exact⟨by rw[<- rs.len];exact hl,p1 ρ1 H1 σ C Le.refl w1 re1 hm⟩
   ·exact p1.elim⟩
def Dq{x:Str}{p:Pos}{k n:Nat}{ps:List Str}{S:Fn}(C:Callee X.prog X.w X.K X.mg X.base x k ps (spD K mg n S))(hr:Room k X.A)(hg:Gl X x)(hx:oW X ES)(ha:DA K mg X ES (e::es) A)
 (hdb:(x==("__debug__" : Str))=false:=by decide) (he:starEach (e::es) X.env=(false,eval e X.env)::starEach es X.env:=by rfl) (hpl:(backTo pos (starEach es X.env)).any (·.1)=false:=by rfl):
 DE K mg X ES (.Call (.Name x p) (e::es) [] pos) (eFn (λds h=>if ds.length=n then S ds h else .stuck) A):=by
 obtain⟨f,fd,F',m,kp,bb,_⟩:=C.ex
 intro pins s σ H Q I hh
 refine Qq (pQ I hg m ?_ hdb)
 have rd:rdA K mg ES A σ H (λvs H1=>spD K mg n S vs H1 Q (ES σ)):=by
  obtain⟨ρ,h,ae,w,re,p⟩:=hh
  refine⟨ρ,h,ae,w,re,p.bind.imp λds h1 ρ1 H1 l1 w1 p1 vs rs=>?_⟩
  split at p1
  ·rename_i hl
   exact⟨ρ1,h1,ds,w1,rs,hl,p1⟩
  ·exact p1.elim
 refine W.callWith_K (h₀:=X.base) I.ok.mod.kin kp (ON (ha pos pins s σ H _ I rd) (λus s1 ⟨vs,H1,I1,r,q⟩=>⟨I1.kIn,?_⟩) λ_ _ z=>z) he hpl
 have hl:(us++[]).length=ps.length:=by rw[OR,<- r.length];exact F'.len _ _ _ _ q
 refine wpAny_call (codeAny_mono (F'.run X.A X.stack s1 H1 ⟨us,[]⟩ us vs Q (ES σ) hr I1.env0 (by simpa using bb s1 us I1.kIn hl) r q) λr s' hq=>?_)
 cases r with
 |error ex=>exact hx pins σ H1 s1 ex s' I1 hq
 |
  ok fl=>
  cases fl with
  |ret u=>exact I1.after hq
  |next=>exact False.elim hq
  |brk=>exact False.elim hq
  |cont=>exact False.elim hq
def fnD(n:Nat)(F:MS):Fn:=λds h=>match F (ds.map some++List.replicate (n-ds.length) none) h with
 |.nx _ h'=>.ok .non h'
 |.rt d h'=>.ok d h'
 |.exc c _ h'=>.exc c h'
 |_=>.stuck
def aq{E:XK}(hp:uF (CX1 X.prog X.w) X E):oW X (λ_=>E):=λpins σ H s e s' I h=>hp pins σ H s e s' I h
def gL:oW X (λ_=>E0):=λpins σ H s e s' I h=>Lr pins σ H s e s' I h
end
section
variable{P:Program}{w:World}{K:W.Frag}{mg:Str->Option Value}{base:Heap}{x:Str}{st:Stmt}{k:Nat}{ps N:List Str}{F:MS}
def xD{ρ:List Addr}{H:Hp}{ds:List D}{vs:List V}(rs:RelDs K mg ρ H ds vs):RelE K mg ρ H (ds.map some++List.replicate (N.length-ds.length) none) (gp N vs):=by
 unfold gp
 refine⟨by rw[Oa,Oa,N8,N8,Pb,Pb,rs.len],λi d e=>?_⟩
 by_cases hi:i<ds.length
 ·rw[OF (by rw[N8];exact hi),OD] at e
  have e':ds[i]?=some d:=by
   cases q:ds[i]? with
   |none=>rw[q] at e;cases e
   |some z=>rw[q] at e;cases e;rfl
  obtain⟨v,h1,h2⟩:=rs.getD e'
  refine⟨v,?_,h2⟩
  rw[OF (by rw[N8,<- rs.len];exact hi),OD,h1];rfl
 ·rw[OB (by rw[N8];omega),O8] at e
  split at e <;> cases e
def Def.okD(D:Def K mg x st)(S:FnScope N ps (az st))
 (hb:∀(kV doc pm:Value) (an:Option Addr) (cdv ct:Value) (us:List Value),us.length=ps.length->bindArgs (W.fnOf x x (d7 st) (cn st) (az st) .none kV doc pm an cdv ct) ⟨us,[]⟩=pure (ps.zip us))
 (im:∀(f:Addr) (cdv:Value) (A:Around) (outer:List Env) (s:Shared) (H:Hp) (E:XK),Room k (A.deeper (envOfC x (az st) s.heap.objs.size f cdv))->
  DSs K mg (fo (CX1 P w) P w K mg base N x (az st) f cdv A outer s H E) (λ_=>E) (cn st) F):Callee P w K mg base x (k+1) ps (spD K mg ps.length (fnD N.length F)):=by
 refine D.okR S hb (λvs H Q E ⟨ρ,h,ds,w,rs,hl,p⟩=>by rw[<- rs.len];exact hl) λf cdv A outer s H vs Q E hr ⟨ρ,h,ds,w',rs,hl,p⟩=>?_
 refine⟨_,im f cdv A outer s H E hr,ρ,h,_,w',xD rs,?_⟩
 unfold fnD at p
 split at p
 ·rename_i e;rw[e];exact λρ1 H1 σ1 l1 w1 re1=>p ρ1 H1 l1 w1 _ .non
 ·rename_i e;rw[e];exact λρ1 H1 v l1 w1 rv=>p ρ1 H1 l1 w1 v rv
 ·rename_i e;rw[e];exact λρ1 H1 σ1 C l1 w1 re1 m=>p ρ1 H1 C l1 w1 m
 ·exact p.elim
end
end L2
namespace L2
open PySem PySem.Spec PyProof.Rows
def bD(h:AH)(n:Nat):Option (List D):=match h[n]? with
 |some (.lst xs)=>some xs
 |some (.fz xs)=>some xs
 |_=>none
def dG(h:AH):D->Option (List D)
 |.tup xs=>some xs
 |.ref n=>bD h n
 |.kl xs=>some xs
 |_=>none
section
variable{K:W.Frag}{mg:Str->Option Value}{ρ:List Addr}{H:Hp}{h:AH}
def df(w:Wd K mg ρ h H){n:Nat}{a:Addr}{xs:List D}(ea:ρ[n]?=some a)(e:bD h n=some xs):∃vs,SqL K H a vs/\RelDs K mg ρ H xs vs:=by
 unfold bD at e
 split at e
 ·rename_i ys eo
  cases e
  obtain⟨vs,h1,h2⟩:=w.ob n a _ ea eo
  exact⟨vs,SqL.of h1,h2⟩
 ·rename_i ys eo
  cases e
  obtain⟨o,vs,h1,h2⟩:=w.ob n a _ ea eo
  exact⟨vs,.inl (.inr ⟨o,h1⟩),h2⟩
 ·cases e
def eG(w:Wd K mg ρ h H){d:D}{v:V}{xs:List D}(r:RelD K mg ρ H d v)(e:dG h d=some xs):∃p vs,v=.ref p/\(SqL K H p vs\/SqT K H p vs)/\RelDs K mg ρ H xs vs:=by
 cases r with
 |
  tup q rs=>
  have e':some _=some xs:=e
  cases e'
  exact⟨_,_,rfl,.inr q,rs⟩
 |
  ref ea=>
  obtain⟨vs,h1,h2⟩:=df w ea e
  exact⟨_,vs,rfl,.inl h1,h2⟩
 |
  kl q rs=>
  have e':some _=some xs:=e
  cases e'
  exact⟨_,_,rfl,.inl (.inr q),rs⟩
 |_=>cases e
end
def g2(f:Int->Int->R D)(x y:D):R D:=match x,y with
 |.int i,.int j=>f i j
 |_,_=>.stuck
def gI(f:Int->Int->D):D->D->AH->R D:=λx y h=>match x,y with
 |.int i,.int j=>.ok (f i j) h
 |_,_=>.stuck
open Classical in
def gIc(C:Int->Int->Prop)(f:Int->Int->D):D->D->AH->R D:=λx y h=>match x,y with
 |.int i,.int j=>if C i j then .ok (f i j) h else .stuck
 |_,_=>.stuck
section
variable{K:W.Frag}{mg:Str->Option Value}{X:Cx}
def lX{f:Int->Int->V}{g:Int->Int->D}(hr:∀i j ρ H,RelD K mg ρ H (g i j) (f i j)):OpD K mg (rI0 f) (gI g):=λρ h H dx dy x y Q E w rx ry p=>by
 unfold gI at p
 split at p
 ·cases rx;cases ry;exact⟨_,_,rfl,rfl,aP w (hr _ _ ρ H) p⟩
 ·exact p.elim
def oI{C:Int->Int->Prop}{f:Int->Int->V}{g:Int->Int->D}(hr:∀i j ρ H,RelD K mg ρ H (g i j) (f i j)):OpD K mg (rI C f) (gIc C g):=λρ h H dx dy x y Q E w rx ry p=>by
 unfold gIc at p
 split at p
 ·cases rx;cases ry
  split at p
  ·rename_i hc;exact⟨_,_,rfl,rfl,hc,aP w (hr _ _ ρ H) p⟩
  ·exact p.elim
 ·exact p.elim
def gOr(g g':D->D->AH->R D):D->D->AH->R D:=λx y h=>match g x y h with
 |.stuck=>g' x y h
 |r=>r
def OpD.or{r r':R2}{g g':D->D->AH->R D}(a:OpD K mg r g)(b:OpD K mg r' g'):OpD K mg (λx y H Q=>r x y H Q\/r' x y H Q) (gOr g g'):=λρ h H dx dy x y Q E w rx ry p=>by
 unfold gOr at p
 split at p
 ·exact .inr (b ρ h H dx dy x y Q E w rx ry p)
 ·exact .inl (a ρ h H dx dy x y Q E w rx ry p)
end
def mZ:D->D->AH->R D:=λx y h=>match x,y with
 |.ref n,.ref m=>match h[n]?,h[m]? with
  |some (.lst xs),some (.lst ys)=>if xs.length+ys.length<=16777216 then .ok (.ref h.length) (h++[.lst (xs++ys)]) else .stuck
  |_,_=>.stuck
 |.tup xs,.tup ys=>if xs.length+ys.length<=16777216 then .ok (.tup (xs++ys)) h else .stuck
 |_,_=>.stuck
def gIx:D->D->AH->R D:=λx y h=>match dG h x,y with
 |some xs,.int i=>match atI xs i with
  |some d=>.ok d h
  |none=>.stuck
 |_,_=>.stuck
section
variable{K:W.Frag}{mg:Str->Option Value}{X:Cx}
def mM(K:W.Frag):R2:=λx y H Q=>∃a b ys,x=.ref a/\y=.ref b/\SqT K H a []/\SqT K H b ys/\Q (.ref b) H
def D6:OpR X (binaryOp .Add) (mM X.K):=by
 intro pins s σ H x y v u Q I rx ry h
 obtain⟨a,b,ys,rfl,rfl,ha,hb,q⟩:=h
 cases rx
 cases ry
 obtain⟨its,r1,p1,_⟩:=I.tuple ha
 obtain⟨its2,r2,p2,_⟩:=I.tuple hb
 have e:its=[]:=r1.nil_iff.mpr rfl
 subst e
 obtain⟨⟨cls,dd,data,sl⟩,ho,hc,n,hd⟩:=id p1
 obtain⟨⟨cls2,dd2,data2,sl2⟩,ho2,hc2,n2,hd2⟩:=id p2
 simp only at hc hd hc2 hd2
 subst hc hd hc2 hd2
 exact concat_meets ⟨_,ho,rfl⟩ ⟨_,ho2,rfl⟩ noFill_tuple_add seq_tuple_add Qz Qs (Qo _ _)
  (tuple_addW0 _ _ _ _ n n2 dd dd2 sl sl2 rfl) ⟨ho,ho2,⟨.ref b,H,I,rfl,q⟩⟩
def EO:OpD K mg (λx y H Q=>qc x y H Q\/(ma K x y H Q\/mM K x y H Q)) mZ:=λρ h H dx dy x y Q E w rx ry p=>by
 unfold mZ at p
 split at p
 ·cases
   rx with
  |
   ref ea=>
   cases ry with
   |
    ref eb=>
    split at p
    ·rename_i xs ys e1 e2
     split at p
     ·rename_i hl
      obtain⟨vs,q1,r1⟩:=w.ob _ _ _ ea e1
      obtain⟨ws,q2,r2⟩:=w.ob _ _ _ eb e2
      exact .inl ⟨_,_,vs,ws,rfl,rfl,q1,q2,by rw[<- r1.len,<- r2.len];exact hl,λp' hp=>fL w (r1.append r2) hp p⟩
     ·exact p.elim
    ·exact p.elim
 ·cases
   rx with
  |
   tup q1 r1=>
   cases ry with
   |
    tup q2 r2=>
    split at p
    ·rename_i hl
     cases r1 with
     |nil=>exact .inr (.inr ⟨_,_,_,rfl,rfl,q1,q2,aP w (.tup q2 r2) p⟩)
     |
      cons r0 r1=>
      refine .inr (.inl ⟨_,_,_,_,rfl,rfl,q1,q2,(λz=>nomatch z),by rw[<- (RelDs.cons r0 r1).len,<- r2.len];exact hl,λz=>?_,λ_ p' hp=>ky w ((RelDs.cons r0 r1).append r2) hp p⟩)
      subst z
      cases r2
      rw[OR] at p
      exact aP w (.tup q1 (.cons r0 r1)) p
    ·exact p.elim
 ·exact p.elim
def FA{ρ:List Addr}{H:Hp}{xs:List D}{vs:List V}(r:RelDs K mg ρ H xs vs){i:Int}{d:D}(e:atI xs i=some d):∃v,atI vs i=some v/\RelD K mg ρ H d v:=by
 unfold atI at e ⊢
 rw[<- r.len]
 cases q:ixN xs.length i with
 |none=>rw[q] at e;cases e
 |some j=>rw[q] at e;exact r.getD e
def Ja:OpD K mg (λx y H Q=>xt K x y H Q\/xi K x y H Q) gIx:=λρ h H dx dy x y Q E w rx ry p=>by
 unfold gIx at p
 split at p
 ·rename_i xs i e1
  split at p
  ·rename_i d e2
   cases ry
   obtain⟨pa,vs,rfl,hq,rs⟩:=eG w rx e1
   obtain⟨v,e3,rv⟩:=FA rs e2
   rcases hq with hq |hq
   ·exact .inl ⟨_,_,_,_,rfl,rfl,hq,e3,aP w rv p⟩
   ·exact .inr ⟨_,_,_,_,rfl,rfl,hq,e3,aP w rv p⟩
  ·exact p.elim
 ·exact p.elim
def ixK(h:X.K=K):IxR X (λx y H Q=>xt K x y H Q\/xi K x y H Q):=by subst h;exact Ej.or FW
def catK(h:X.K=K):OpR X (binaryOp .Add) (λx y H Q=>qc x y H Q\/(ma K x y H Q\/mM K x y H Q)):=by subst h;exact HK.or (DQ.or D6)
end
def fA:Nat->AH->D->Option PyData
 |0,_,_=>none
 |_+1,_,.non=>some .none
 |_+1,_,.bl b=>some (.bool b)
 |_+1,_,.int i=>some (.int i)
 |_+1,_,.str x=>some (.str x)
 |k+1,h,.tup xs=>(xs.mapM (fA k h)).map .tuple
 |k+1,h,.ref n=>match bD h n with
  |some xs=>(xs.mapM (fA k h)).map .list
  |none=>none
 |_+1,_,_=>none
def qL{K:W.Frag}{mg:Str->Option Value}{ρ:List Addr}{H:Hp}{f:D->Option PyData}(hf:∀d v pd,RelD K mg ρ H d v->f d=some pd->Rep K H v pd):∀{xs:List D}{vs:List V}{ps:List PyData},RelDs K mg ρ H xs vs->xs.mapM f=some ps->Reps K H vs ps:=by
 intro xs
 induction xs with
 |
  nil=>
  intro vs ps r e
  cases r
  have e':some []=some _:=e
  cases e';exact .nil
 |
  cons x xs ih=>
  intro vs ps r e
  cases r with
  |
   cons r rr=>
   rw[P8] at e
   cases q:f x with
   |none=>rw[q] at e;cases e
   |
    some pd=>
    rw[q] at e
    cases q2:xs.mapM f with
    |none=>rw[q2] at e;cases e
    |
     some pds=>
     rw[q2] at e
     have e':some (pd::pds)=some ps:=e
     cases e'
     exact .cons (hf _ _ _ r q) (ih rr q2)
theorem kR{K:W.Frag}{mg:Str->Option Value}{ρ:List Addr}{H:Hp}{h:AH}(w:Wd K mg ρ h H):∀(k:Nat) {d:D}{v:V}{pd:PyData},RelD K mg ρ H d v->fA k h d=some pd->Rep K H v pd
 |0,_,_,_,_,e=>by cases e
 |
  k+1,d,v,pd,r,e=>by
  cases r with
  |non=>have e':some _=some pd:=e;cases e';exact .non
  |bl b=>have e':some _=some pd:=e;cases e';exact .bl b
  |int b=>have e':some _=some pd:=e;cases e';exact .int b
  |str b=>have e':some _=some pd:=e;cases e';exact .str b
  |
   tup q rs=>
   rename_i ds
   have e':(ds.mapM (fA k h)).map PyData.tuple=some pd:=e
   cases q2:ds.mapM (fA k h) with
   |none=>rw[q2] at e';cases e'
   |
    some ps=>
    rw[q2] at e'
    cases e'
    exact .tup q (qL (λd v pd r e=>kR w k r e) rs q2)
  |
   ref ea=>
   rename_i n a
   unfold fA at e
   split at e
   ·rename_i xs e1
    obtain⟨vs,h1,h2⟩:=df w ea e1
    cases q2:xs.mapM (fA k h) with
    |none=>rw[q2] at e;cases e
    |
     some ps=>
     rw[q2] at e
     cases e
     exact .lst h1 (qL (λd v pd r e=>kR w k r e) h2 q2)
   ·cases e
  |_=>cases e
def tf(h:AH)(x y:D):Option Bool:=match fA 64 h x,fA 64 h y with
 |some a,some b=>if SeqAt.shaped a=true/\SeqAt.shaped b=true then some (PyData.eqv a b) else none
 |_,_=>none
def gEq(neg:Bool):D->D->AH->R D:=λx y h=>match tf h x y with
 |some b=>.ok (.bl (if neg then !b else b)) h
 |none=>.stuck
section
variable{K:W.Frag}{mg:Str->Option Value}{X:Cx}
def vR{ρ:List Addr}{H:Hp}{h:AH}{dx dy:D}{x y:V}{b:Bool}(w:Wd K mg ρ h H)(rx:RelD K mg ρ H dx x)(ry:RelD K mg ρ H dy y)(e:tf h dx dy=some b):
 ∃a c,Rep K H x a/\Rep K H y c/\SeqAt.shaped a=true/\SeqAt.shaped c=true/\PyData.eqv a c=b:=by
 unfold tf at e
 split at e
 ·rename_i a c e1 e2
  split at e
  ·rename_i hs
   cases e
   exact⟨a,c,kR w 64 rx e1,kR w 64 ry e2,hs.1,hs.2,rfl⟩
  ·cases e
 ·cases e
def Ik:OpD K mg (xH K) (gEq false):=λρ h H dx dy x y Q E w rx ry p=>by
 unfold gEq at p
 split at p
 ·rename_i b e
  obtain⟨a,c,h1,h2,h3,h4,rfl⟩:=vR w rx ry e
  exact⟨a,c,h1,h2,h3,h4,aP w (.bl _) p⟩
 ·exact p.elim
def GX:OpD K mg (wY K) (gEq true):=λρ h H dx dy x y Q E w rx ry p=>by
 unfold gEq at p
 split at p
 ·rename_i b e
  obtain⟨a,c,h1,h2,h3,h4,rfl⟩:=vR w rx ry e
  exact⟨a,c,h1,h2,h3,h4,aP w (.bl _) p⟩
 ·exact p.elim
end
def mz:D->Bool
 |.non=>true
 |.bl _=>true
 |.int _=>true
 |.str _=>true
 |_=>false
def toV:D->V
 |.bl b=>.bl b
 |.int i=>.int i
 |.str x=>.str x
 |_=>.non
def eqF(x y:D):Bool:=eqV (toV x) (toV y)
def gIn(neg:Bool):D->D->AH->R D:=λx y h=>match dG h y with
 |some xs=>if mz x=true/\xs.all mz=true then .ok (.bl (if neg then !(xs.any λd=>eqF d x) else xs.any λd=>eqF d x)) h else .stuck
 |none=>.stuck
section
variable{K:W.Frag}{mg:Str->Option Value}{X:Cx}{ρ:List Addr}{H:Hp}
def sR{d:D}{v:V}(r:RelD K mg ρ H d v)(f:mz d=true):v=toV d/\flatV v=true:=by
 cases r with
 |non=>exact⟨rfl,rfl⟩
 |bl=>exact⟨rfl,rfl⟩
 |int=>exact⟨rfl,rfl⟩
 |str=>exact⟨rfl,rfl⟩
 |_=>cases f
def zx:∀{ds:List D}{vs:List V},RelDs K mg ρ H ds vs->ds.all mz=true->vs=ds.map toV/\vs.all flatV=true:=by
 intro ds
 induction ds with
 |
  nil=>
  intro vs r f
  cases r
  exact⟨rfl,rfl⟩
 |
  cons d0 ds ih=>
  intro vs r f
  cases r with
  |
   cons r rr=>
   rw[PV,Ol] at f
   obtain⟨rfl,h1⟩:=sR r f.1
   obtain⟨rfl,h2⟩:=ih rr f.2
   exact⟨rfl,by rw[PV,h1,h2];rfl⟩
def Iv(neg:Bool):OpD K mg (rIn K neg) (gIn neg):=λρ h H dx dy x y Q E w rx ry p=>by
 unfold gIn at p
 split at p
 ·rename_i xs e
  split at p
  ·rename_i hf
   obtain⟨pa,vs,rfl,hq,rs⟩:=eG w ry e
   obtain⟨rfl,f1⟩:=sR rx hf.1
   obtain⟨rfl,f2⟩:=zx rs hf.2
   refine⟨pa,_,rfl,hq,f1,f2,?_⟩
   have e2:inV (toV dx) (xs.map toV)=xs.any λd=>eqF d dx:=by
    unfold inV eqF
    rw[List.any_map];rfl
   rw[e2]
   exact aP w (.bl _) p
  ·exact p.elim
 ·exact p.elim
def BO(neg:Bool):D->D->AH->R D:=λx y h=>match x,y with
 |.non,.non=>.ok (.bl (!neg)) h
 |_,.non=>.ok (.bl neg) h
 |_,_=>.stuck
end
end L2
namespace L2
open PySem PySem.Spec PyProof.Rows
inductive AIt where
 |lst (n:Nat) (xs:List D) |tup (xs:List D) |rng (lo:Int) (k:Nat) |enm (s:AIt) |zip (s t:AIt)
def jQ:Nat->List D->List D
 |_,[]=>[]
 |i,d::ds=>.tup [.int (i:Nat),d]::jQ (i+1) ds
def AIt.items:AIt->List D
 |.lst _ xs=>xs
 |.tup xs=>xs
 |.rng lo k=>(List.range k).map λi=>D.int (lo+(i:Nat))
 |.enm s=>jQ 0 s.items
 |.zip s t=>List.zipWith (λx y=>.tup [x,y]) s.items t.items
def AIt.guard:AIt->AH->Prop
 |.lst n xs,h=>bD h n=some xs
 |.enm s,h=>s.guard h
 |.zip s t,h=>s.guard h/\t.guard h
 |_,_=>True
def SrcR(K:W.Frag)(mg:Str->Option Value)(ρ:List Addr)(H:Hp):AIt->Bool->Addr->Prop
 |.lst n _,true,a=>ρ[n]?=some a
 |.tup xs,false,p=>∃vs,SqT K H p vs/\RelDs K mg ρ H xs vs
 |_,_,_=>False
def ItR(K:W.Frag)(mg:Str->Option Value)(ρ:List Addr)(H:Hp):AIt->It->Prop
 |.lst n _,J=>∃a,ρ[n]?=some a/\J=Itl K a
 |.tup xs,J=>∃p vs,SqT K H p vs/\RelDs K mg ρ H xs vs/\J=Itt K p
 |.rng lo k,J=>J=Itr lo k
 |.enm s,J=>∃b a,SrcR K mg ρ H s b a/\J=IteE K b a
 |.zip s t,J=>∃b c a d,SrcR K mg ρ H s b a/\SrcR K mg ρ H t c d/\J=ItZ K b c a d
theorem uH:∀{ds:List D}{k i:Nat}{e:D},(jQ k ds)[i]?=some e->∃d,ds[i]?=some d/\e=.tup [.int ((k+i:Nat):Int),d]
 | [],_,_,_,q=>by simp [jQ] at q
 |d::ds,k,0,e,q=>⟨d,rfl,by simpa [jQ] using q.symm⟩
 |
  d::ds,k,i+1,e,q=>by
  obtain⟨d',q1,q2⟩:=uH (ds:=ds) (k:=k+1) (i:=i) (e:=e) (by simpa [jQ] using q)
  refine⟨d',by simpa using q1,?_⟩
  rw[q2]
  congr 4
  omega
theorem tV:∀(ds:List D) (k:Nat),(jQ k ds).length=ds.length
 | [],_=>rfl
 |_::ds,k=>by show (jQ (k+1) ds).length+1=ds.length+1;rw[tV ds]
section
variable{K:W.Frag}{mg:Str->Option Value}{ρ ρ1:List Addr}{H H1:Hp}{h h1:AH}
def SrcR.at_{s:AIt}{b:Bool}{a:Addr}(r:SrcR K mg ρ H s b a)(l:Le ρ H ρ1 H1)(w:Wd K mg ρ1 h1 H1)(g:s.guard h1):∃vs,SqB K b H1 a vs/\RelDs K mg ρ1 H1 s.items vs:=by
 cases s with
 |
  lst n xs=>
  cases b with
  |true=>exact df w (l.pre _ _ r) g
  |false=>exact r.elim
 |
  tup xs=>
  cases b with
  |true=>exact r.elim
  |false=>obtain⟨vs,q,rs⟩:=r;exact⟨vs,l.sqT q,rs.mono l⟩
 |rng _ _=>cases b <;> exact r.elim
 |enm _=>cases b <;> exact r.elim
 |zip _ _=>cases b <;> exact r.elim
def ItR.step{it:AIt}{J:It}(hJ:ItR K mg ρ H it J)(l:Le ρ H ρ1 H1)(w:Wd K mg ρ1 h1 H1)(g:it.guard h1):
 (∀(i:Nat) (d:D),it.items[i]?=some d->J.go i H1/\∀x H',J.yld i H1 x H'->Le ρ1 H1 ρ1 H'/\Wd K mg ρ1 h1 H'/\RelD K mg ρ1 H' d x)/\J.stop it.items.length H1:=by
 cases it with
 |
  lst n xs=>
  obtain⟨a,ea,rfl⟩:=hJ
  obtain⟨vs,q,rs⟩:=df w (l.pre _ _ ea) g
  refine⟨λi d e=>?_,vs,q,by rw[<- rs.len];exact Oe _⟩
  obtain⟨v,ev,rv⟩:=rs.getD e
  refine⟨⟨vs,v,q,ev⟩,λx H' ⟨e1,y⟩=>?_⟩
  subst e1
  have:=(y vs q).symm.trans ev
  cases this
  exact⟨Le.refl,w,rv⟩
 |
  tup xs=>
  obtain⟨p,vs,q,rs,rfl⟩:=hJ
  have q1:=l.sqT q
  have rs1:=rs.mono l
  refine⟨λi d e=>?_,vs,q1,by rw[<- rs1.len];exact Oe _⟩
  obtain⟨v,ev,rv⟩:=rs1.getD e
  refine⟨⟨vs,v,q1,ev⟩,λx H' ⟨e1,y⟩=>?_⟩
  subst e1
  have:=(y vs q1).symm.trans ev
  cases this
  exact⟨Le.refl,w,rv⟩
 |
  rng lo k=>
  cases hJ
  refine⟨λi d e=>?_,?_⟩
  ·have e':((List.range k).map λi=>D.int (lo+(i:Nat)))[i]?=some d:=e
   rw[OD] at e'
   cases q:(List.range k)[i]? with
   |none=>rw[q] at e';cases e'
   |
    some j=>
    rw[q] at e'
    have hj:=N_.mp q
    have e2:=hj.2
    rw[List.getElem_range] at e2
    subst e2
    cases e'
    refine⟨show i<k by simpa using hj.1,λx H' ⟨e1,e2⟩=>?_⟩
    subst e1 e2
    exact⟨Le.refl,w,.int _⟩
  ·show k<=((List.range k).map λi=>D.int (lo+(i:Nat))).length
   simp
 |
  enm s=>
  obtain⟨b,a,r,rfl⟩:=hJ
  obtain⟨vs,q,rs⟩:=r.at_ l w g
  refine⟨λi d e=>?_,vs,q,by show vs.length=(jQ 0 s.items).length;rw[tV,rs.len]⟩
  obtain⟨d',q1,rfl⟩:=uH (show (jQ 0 s.items)[i]?=some d from e)
  obtain⟨v,ev,rv⟩:=rs.getD q1
  refine⟨⟨vs,v,q,ev⟩,λx H' ⟨p,u,e1,hp,e2,hu⟩=>?_⟩
  subst e1 e2
  have:=(hu vs q).symm.trans ev
  cases this
  rw[Nat.zero_add]
  exact⟨eF hp,w.tuple hp,.tup (SqT.of cB) (.cons (.int _) (.cons (rv.mono (eF hp)) .nil))⟩
 |
  zip s t=>
  obtain⟨b,c,a,d,r1,r2,rfl⟩:=hJ
  obtain⟨vs,q,rs⟩:=r1.at_ l w g.1
  obtain⟨us,q',rs'⟩:=r2.at_ l w g.2
  refine⟨λi e ei=>?_,vs,us,q,q',?_⟩
  ·have ei':(List.zipWith (λx y=>D.tup [x,y]) s.items t.items)[i]?=some e:=ei
   rw[PD] at ei'
   cases k1:s.items[i]? with
   |none=>rw[k1] at ei';cases ei'
   |
    some d1=>
    cases k2:t.items[i]? with
    |none=>rw[k1,k2] at ei';cases ei'
    |
     some d2=>
     rw[k1,k2] at ei'
     cases ei'
     obtain⟨v,ev,rv⟩:=rs.getD k1
     obtain⟨v',ev',rv'⟩:=rs'.getD k2
     refine⟨⟨vs,us,v,v',q,q',ev,ev'⟩,λx H' ⟨p,u,u',e1,hp,e2,hu,hu'⟩=>?_⟩
     subst e1 e2
     have:=(hu vs q).symm.trans ev
     cases this
     have:=(hu' us q').symm.trans ev'
     cases this
     exact⟨eF hp,w.tuple hp,.tup (SqT.of cB) (.cons (rv.mono (eF hp)) (.cons (rv'.mono (eF hp)) .nil))⟩
  ·have hl:(AIt.zip s t).items.length=min s.items.length t.items.length:=PR ..
   rw[hl,rs.len,rs'.len]
   rcases Nat.le_total vs.length us.length with z |z
   ·left;rw[QM z];exact List.getElem?_eq_none (Oe _)
   ·right;rw[Nat.min_eq_right z];exact List.getElem?_eq_none (Oe _)
end
def SR.loop(r:SR)(f:AE->AH->SR):SR:=match r with
 |.nx ae h=>f ae h
 |.ct ae h=>f ae h
 |.bk ae h=>.nx ae h
 |.rt d h=>.rt d h
 |.exc c ae h=>.exc c ae h
 |.stuck=>.stuck
open Classical in
def gQ(G:AH->Prop)(g:MG)(B:MS):List D->MS
 | [],ae,h=>if G h then .nx ae h else .stuck
 |d::ds,ae,h=>if G h then (g d ae h).toS ae λae1 h1=>(B ae1 h1).loop (gQ G g B ds) else .stuck
abbrev MI:=AE->AH->R AIt
def ph(I:MI)(g:MG)(B:MS):MS:=λae h=>(I ae h).toS ae λit h1=>gQ it.guard g B it.items ae h1
open Classical in
def lcL(G:AH->Prop)(g:MG)(c:MT)(F:ME):List D->List D->AE->AH->R (List D)
 | [],acc,_,h=>if G h then .ok acc h else .stuck
 |d::ds,acc,ae,h=>if G h/\acc.length<16777216 then (g d ae h).bind λae1 h1=>(c ae1 h1).bind λb h2=>if b=true then (F ae1 h2).bind λy h3=>lcL G g c F ds (acc++[y]) ae1 h3 else lcL G g c F ds acc ae1 h2 else .stuck
def kP(sub:List (Option Nat))(ae:AE):AE:=sub.map λo=>o.bind λi=>(ae[i]?).bind id
def eLC(I:MI)(sub:List (Option Nat))(g:MG)(c:MT)(F:ME):ME:=λae h=>(I ae h).bind λit h1=>(noX (lcL it.guard g c F it.items [] (kP sub ae) h1)).bind cH
def tY:MT:=λ_ h=>.ok true h
section
variable(K:W.Frag)(mg:Str->Option Value)
def rdI(ES:St->XK)(F:MI):TI:=λσ H R'=>∃ρ h ae,Wd K mg ρ h H/\RelE K mg ρ H ae σ/\PostG K mg ρ H (ES σ) (λit _ ρ' H'=>∀J,ItR K mg ρ' H' it J->R' J H') (F ae h)
def DI(X:Cx)(ES:St->XK)(tg am:Expr)(F:MI):Prop:=PI X tg am (rdI K mg ES F)
end
def BL(F:ME):MI:=λae h=>(F ae h).bind λd h1=>match d with
 |.tup xs=>.ok (.tup xs) h1
 |.ref n=>match bD h1 n with
  |some xs=>.ok (.lst n xs) h1
  |none=>.stuck
 |_=>.stuck
def BN(A:MA):MI:=λae h=>(A ae h).bind λds h1=>match ds with
 | [.int j]=>if -(2^62)<=j/\j<2^62 then .ok (.rng 0 j.toNat) h1 else .stuck
 |_=>.stuck
def iJ(d:D)(h:AH):Option AIt:=match d with
 |.tup xs=>some (.tup xs)
 |.ref n=>(bD h n).map (.lst n)
 |_=>none
def Am(A:MA):MI:=λae h=>(A ae h).bind λds h1=>match ds with
 | [d,e]=>(match iJ d h1,iJ e h1 with
  |some s,some t=>.ok (.zip s t) h1
  |_,_=>.stuck)
 |_=>.stuck
section
variable{K:W.Frag}{mg:Str->Option Value}{X:Cx}{ES:St->XK}{tg am e a b c jp:Expr}{F:ME}{A:MA}{I:MI}{g:MG}{cf:MT}{U:MS}{sts:List Stmt}{pos:Pos}
def PI.imp{t t':TI}(h:PI X tg am t)(k:∀σ H Q,t' σ H Q->t σ H Q):PI X tg am t':=λpins s σ H Q I w=>h pins s σ H Q I (k σ H Q w)
def FV{l:Expr}{tl:TE}(hl:PE X l tl):PI X tg l (λσ H R=>tl σ H λx H1=>(∃a,x=.ref a/\(∃xs,SqL X.K H1 a xs)/\R (Itl X.K a) H1)\/(∃a,x=.ref a/\(∃xs,SqT X.K H1 a xs)/\R (Itt X.K a) H1)):=by
 intro pins s σ H R I h
 refine thn (hl pins s σ H _ I h) λv s1 ⟨x,H1,I1,r1,q1⟩=>?_
 rcases q1 with ⟨a,e,⟨xs,hq⟩,q⟩ |⟨a,e,⟨xs,hq⟩,q⟩
 ·subst e
  cases r1
  obtain⟨its,rv,p,hz⟩:=I1.list hq
  refine Qw p.isList ?_
  refine⟨s1.heap.objs.size,[s1.heap.objs.size],_,_,H1,rfl,I1.kept (t':=s1.toks) λb o e=>Og _ e,yO a _,⟨_,Ou _ rfl,rfl,rfl⟩,λb hb=>?_,q⟩
  have e:b=s1.heap.objs.size:=by simpa using hb
  subst e
  exact I1.fpOk (Oe _) (I1.hok.fresh (Oe _))
 ·subst e
  cases r1
  obtain⟨its,rv,p,hz⟩:=I1.tuple hq
  refine wpAny_pyIter_tuple (show s1.heap.IsTuple a its.toArray from p) ?_
  refine⟨s1.heap.objs.size,[s1.heap.objs.size],_,_,H1,rfl,I1.kept (t':=s1.toks) λb o e=>Og _ e,wQ a _,⟨_,Ou _ rfl,rfl,rfl⟩,λb hb=>?_,q⟩
  have e:b=s1.heap.objs.size:=by simpa using hb
  subst e
  exact I1.fpOk (Oe _) (I1.hok.fresh (Oe _))
def Hs(hK:X.K=K)(he:DE K mg X ES e F):DI K mg X ES tg e (BL F):=by
 subst hK
 refine PI.imp (FV he) λσ H R ⟨ρ,h,ae,w,re,p⟩=>⟨ρ,h,ae,w,re,p.bind.imp λd h1 ρ1 H1 l1 w1 p1 v rv=>?_⟩
 cases rv with
 |tup q rs=>exact .inr ⟨_,rfl,⟨_,q⟩,p1 ρ1 H1 Le.refl w1 _ ⟨_,_,q,rs,rfl⟩⟩
 |
  ref ea=>
  dsimp only at p1
  split at p1
  ·rename_i xs e1
   obtain⟨vs,q,rs⟩:=df w1 ea e1
   exact .inl ⟨_,rfl,⟨_,q⟩,p1 ρ1 H1 Le.refl w1 _ ⟨_,ea,rfl⟩⟩
  ·exact p1.elim
 |_=>exact p1.elim
def yB{p:Pos}(hg:Gl X "range")(hm:mg "range"=none)(ha:DA K mg X ES [a] A)(hk:X.mg=mg:=by rfl)(hs:starEach [a] X.env=[(false,eval a X.env)]:=by rfl):DI K mg X ES tg (.Call (.Name "range" p) [a] [] pos) (BN A):=by
 subst hk
 refine PI.imp (yj hg hm ha hs) λσ H R ⟨ρ,h,ae,w,re,p⟩=>⟨ρ,h,ae,w,re,p.bind.imp λds h1 ρ1 H1 l1 w1 p1 vs rs=>?_⟩
 split at p1
 ·cases rs with
  |
   cons r rs=>
   cases r;cases rs
   split at p1
   ·rename_i hb
    exact⟨_,rfl,hb.1,hb.2,p1 ρ1 H1 Le.refl w1 _ rfl⟩
   ·exact p1.elim
 ·exact p1.elim
def qH{ρ:List Addr}{H:Hp}{h:AH}{d:D}{v:V}{s:AIt}(w:Wd K mg ρ h H)(r:RelD K mg ρ H d v)(q:iJ d h=some s):∃b p,v=.ref p/\SrcR K mg ρ H s b p/\∃vs,SqB K b H p vs:=by
 cases r with
 |tup hq rs=>cases q;exact⟨false,_,rfl,⟨_,hq,rs⟩,_,hq⟩
 |
  ref ea=>
  obtain⟨xs,q1,rfl⟩:=OE.mp q
  obtain⟨vs,h1,h2⟩:=df w ea q1
  exact⟨true,_,rfl,ea,vs,h1⟩
 |_=>cases q
def G8{elts:List Expr}{x1:Nat}{tp p:Pos}(hK:X.K=K)(hg:Gl X "zip")(hm:mg "zip"=none)(ha:DA K mg X ES [a,b] A)(hk:X.mg=mg:=by rfl)(hs:starEach [a,b] X.env=[(false,eval a X.env),(false,eval b X.env)]:=by rfl)(hs2:starEach [b] X.env=[(false,eval b X.env)]:=by rfl):DI K mg X ES (.Tuple elts x1 tp) (.Call (.Name "zip" p) [a,b] [] pos) (Am A):=by
 subst hk hK
 refine PI.imp (Ht hg hm ha hs hs2) λσ H R ⟨ρ,h,ae,w,re,p⟩=>⟨ρ,h,ae,w,re,p.bind.imp λds h1 ρ1 H1 l1 w1 p1 vs rs=>?_⟩
 split at p1
 ·cases
   rs with
  |
   cons r rs=>
   cases rs with
   |
    cons r' rs=>
    cases rs
    split at p1
    ·rename_i s t q q'
     obtain⟨b,pa,rfl,sr,xs,hx⟩:=qH w1 r q
     obtain⟨c,pd,rfl,sr',ys,hy⟩:=qH w1 r' q'
     exact⟨b,c,pa,pd,xs,ys,rfl,hx,hy,p1 ρ1 H1 Le.refl w1 _ ⟨b,c,pa,pd,sr,sr',rfl⟩⟩
    ·exact p1.elim
 ·exact p1.elim
def tX{ρ:List Addr}{H:Hp}{De:Ends}{r:SR}{f:AE->AH->SR}{N:St->Hp->Prop}(p:PostS K mg ρ H De ES (r.loop f))(i:∀ae1 h1 ρ1 H1 σ1,Le ρ H ρ1 H1->Wd K mg ρ1 h1 H1->RelE K mg ρ1 H1 ae1 σ1->PostS K mg ρ1 H1 De ES (f ae1 h1)->N σ1 H1):
 PostS K mg ρ H { De with nx:=N,ct:=N,bk:=De.nx } ES r:=by
 cases r with
 |nx ae1 h1=>exact λρ1 H1 σ1 l1 w1 re1=>i ae1 h1 ρ1 H1 σ1 l1 w1 re1 (PostS.mono l1 p)
 |rt d h1=>exact p
 |bk ae1 h1=>exact p
 |ct ae1 h1=>exact λρ1 H1 σ1 l1 w1 re1=>i ae1 h1 ρ1 H1 σ1 l1 w1 re1 (PostS.mono l1 p)
 |exc c ae1 h1=>exact p
 |stuck=>exact p
def zd(hp:PassesOwn (model X.prog X.w) X.A X.env X.xe)(hc:X.calm=true)(hi:DI K mg X ES tg am I)(hg:DG K mg X ES tg g)(hb:DSs K mg X ES sts U)
 (hs:∀x,foldedSetIterable am X.env x=pure x:=by intro _;rfl):DS K mg X ES (.For tg am sts [] pos) (ph I g U):=by
 refine PS.imp (HH hp hc hi hg hb hs) λDe σ H q_=>q_.el λρ h ae w re p=>⟨ρ,h,ae,w,re,cN p re λit h1 ρ1 H1 l1 w1 re1 p1 J hJ=>?_⟩
 refine⟨λi m σ2 H2=>m=it.items.length-i/\i<=it.items.length/\∃ρ2 h2 ae2,Le ρ1 H1 ρ2 H2/\Wd K mg ρ2 h2 H2/\RelE K mg ρ2 H2 ae2 σ2/\PostS K mg ρ2 H2 De ES (gQ it.guard g U (it.items.drop i) ae2 h2),⟨_,rfl,OK _,ρ1,h1,ae,Le.refl,w1,re1,p1⟩,?_⟩
 rintro i m σ2 H2 ⟨rfl,hi',ρ2,h2,ae2,l2,w2,re2,p2⟩
 by_cases hlt:i<it.items.length
 ·have hd:it.items.drop i=it.items[i]::it.items.drop (i+1):=List.drop_eq_getElem_cons hlt
  rw[hd] at p2
  unfold gQ at p2
  split at p2
  ·rename_i hG
   obtain⟨st,_⟩:=hJ.step l2 w2 hG
   obtain⟨go,yl⟩:=st i it.items[i] (OG hlt)
   refine .inr ⟨go,λσ' H'=>∃ρ3 h3 ae3,Le ρ1 H1 ρ3 H'/\Wd K mg ρ3 h3 H'/\RelE K mg ρ3 H' ae3 σ'/\PostS K mg ρ3 H' De ES (gQ it.guard g U (it.items.drop (i+1)) ae3 h3),
    λσ' H' ⟨ρ3,h3,ae3,q⟩=>⟨_,by omega,rfl,hlt,ρ3,h3,ae3,q⟩,λx H' hy=>?_⟩
   obtain⟨ly,wy,rx⟩:=yl x H' hy
   refine⟨ρ2,h2,ae2,_,wy,re2.mono ly,rx,cN (PostS.mono ly p2) (re2.mono ly) λae3 h3 ρ3 H3 l3 w3 re3 p3 σ' re'=>⟨ρ3,h3,ae3,w3,re',tX p3 λae4 h4 ρ4 H4 σ4 l4 w4 re4 p4=>⟨ρ4,h4,ae4,((l2.trans ly).trans l3).trans l4,w4,re4,p4⟩⟩⟩
  ·exact p2.elim
 ·have hi2:i=it.items.length:=by omega
  subst hi2
  rw[List.drop_length] at p2
  unfold gQ at p2
  split at p2
  ·rename_i hG
   exact .inl ⟨(hJ.step l2 w2 hG).2,iP p2 w2 re2⟩
  ·exact p2.elim
def B2{ρ:List Addr}{H:Hp}{ae:AE}{σ:St}(re:RelE K mg ρ H ae σ)(sub:List (Option Nat)):RelE K mg ρ H (kP sub ae) (dI sub σ):=by
 unfold kP dI
 refine⟨by rw[N8,N8],λj d e=>?_⟩
 rw[OD] at e ⊢
 cases q:sub[j]? with
 |none=>rw[q] at e;cases e
 |
  some o=>
  rw[q] at e
  cases o with
  |none=>cases e
  |
   some i=>
   have e':(ae[i]?).bind id=some d:=Oz e
   cases q2:ae[i]? with
   |none=>rw[q2] at e';cases e'
   |
    some z=>
    rw[q2] at e'
    have e3:z=some d:=e'
    subst e3
    obtain⟨v,h1,h2⟩:=re.at_ i d q2
    refine⟨v,?_,h2⟩
    show some ((σ[i]?).bind id)=some (some v)
    rw[h1];rfl
def mX{α:Type}{ρ:List Addr}{H:Hp}{E:XK}{r:R α}{f:α->AH->R (List D)}{m:List D->AH->R D}{k:D->AH->List Addr->Hp->Prop}(p:PostG K mg ρ H E k ((noX (r.bind f)).bind m)):
 PostG K mg ρ H E0 (λa h1 ρ' H'=>PostG K mg ρ' H' E k ((noX (f a h1)).bind m)) r:=by
 cases r with
 |ok a h1=>exact λρ1 H1 l1 w1=>PostG.mono l1 p
 |exc c h1=>exact p.elim
 |stuck=>exact p.elim
def C2{sub:List (Option Nat)}(σ:St)(H:Hp)(Q:VK)(q:rdE K mg ES (eLC I sub g cf F) σ H Q):mO (rdI K mg ES I) sub (rdG K mg (λ_=>E0) g) (rdT K mg (λ_=>E0) cf) (rdE K mg (λ_=>E0) F) σ H Q:=by
 obtain⟨ρ,h,ae,w,re,p⟩:=q
 refine⟨ρ,h,ae,w,re,p.bind.imp λit h1 ρ1 H1 l1 w1 p1 J hJ=>?_⟩
 have re1:=B2 (re.mono l1) sub
 refine⟨λi m ys σ2 H2=>m=it.items.length-i/\i<=it.items.length/\∃ρ2 h2 ae2 acc,Le ρ1 H1 ρ2 H2/\Wd K mg ρ2 h2 H2/\RelE K mg ρ2 H2 ae2 σ2/\RelDs K mg ρ2 H2 acc ys/\
  PostG K mg ρ2 H2 (ES σ) (λd _ ρ' H'=>∀v,RelD K mg ρ' H' d v->Q v H') ((noX (lcL it.guard g cf F (it.items.drop i) acc ae2 h2)).bind cH),
  ⟨_,rfl,OK _,ρ1,h1,kP sub ae,[],Le.refl,w1,re1,.nil,p1⟩,?_⟩
 rintro i m ys σ2 H2 ⟨rfl,hi',ρ2,h2,ae2,acc,l2,w2,re2,rs,p2⟩
 by_cases hlt:i<it.items.length
 ·have hd:it.items.drop i=it.items[i]::it.items.drop (i+1):=List.drop_eq_getElem_cons hlt
  rw[hd] at p2
  unfold lcL at p2
  split at p2
  ·rename_i hG
   obtain⟨st,_⟩:=hJ.step l2 w2 hG.1
   obtain⟨go,yl⟩:=st i it.items[i] (OG hlt)
   refine .inr ⟨go,by rw[<- rs.len];exact hG.2,λys' σ' H'=>∃ρ3 h3 ae3 acc3,Le ρ1 H1 ρ3 H'/\Wd K mg ρ3 h3 H'/\RelE K mg ρ3 H' ae3 σ'/\RelDs K mg ρ3 H' acc3 ys'/\
    PostG K mg ρ3 H' (ES σ) (λd _ ρ' H'=>∀v,RelD K mg ρ' H' d v->Q v H') ((noX (lcL it.guard g cf F (it.items.drop (i+1)) acc3 ae3 h3)).bind cH),
    λys' σ' H' ⟨ρ3,h3,ae3,acc3,q⟩=>⟨_,by omega,rfl,hlt,ρ3,h3,ae3,acc3,q⟩,λx H' hy=>?_⟩
   obtain⟨ly,wy,rx⟩:=yl x H' hy
   refine⟨ρ2,h2,ae2,_,wy,re2.mono ly,rx,(mX (PostG.mono ly p2)).imp λae3 h3 ρ3 H3 l3 w3 p3 σ3 re3=>⟨ρ3,h3,ae3,w3,re3,(mX p3).imp λb h4 ρ4 H4 l4 w4 p4=>?_⟩⟩
   cases b with
   |true=>exact⟨ρ4,h4,ae3,w4,re3.mono l4,(mX p4).imp λy h5 ρ5 H5 l5 w5 p5 v rv=>⟨ρ5,h5,ae3,acc++[y],(((l2.trans ly).trans l3).trans l4).trans l5,w5,(re3.mono l4).mono l5,((((rs.mono ly).mono l3).mono l4).mono l5).append (.cons rv .nil),p5⟩⟩
   |false=>exact⟨ρ4,h4,ae3,acc,((l2.trans ly).trans l3).trans l4,w4,re3.mono l4,((rs.mono ly).mono l3).mono l4,p4⟩
  ·exact p2.elim
 ·have hi2:i=it.items.length:=by omega
  subst hi2
  rw[List.drop_length] at p2
  unfold lcL at p2
  split at p2
  ·rename_i hG
   refine .inl ⟨(hJ.step l2 w2 hG).2,?_⟩
   have p3:PostG K mg ρ2 H2 (ES σ) (λd _ ρ' H'=>∀v,RelD K mg ρ' H' d v->Q v H') (cH acc h2):=p2
   unfold cH at p3
   split at p3
   ·rename_i hl
    exact⟨by rw[<- rs.len];exact hl,λq hq=>fL w2 rs hq p3⟩
   ·exact p3.elim
  ·exact p2.elim
def Kp{scope:Scope}(M:List Str)(kn:List (Str×NameKind))(N:List Str)(sub:List (Option Nat))
 (hc:X.calm=true) (hi:DI K mg X ES tg am I)
 (hg:∀cl C s₂ H fp,DG K mg (bQ X N scope cl C s₂ H fp) (λ_=>E0) tg g) (he:∀cl C s₂ H fp,DE K mg (bQ X N scope cl C s₂ H fp) (λ_=>E0) jp F)
 (hM:X.N=M:=by rfl) (hkn:X.env.scope.names=kn:=by rfl) (ii:jt M scope.names sub N=true:=by decide)
 (hk:scope.kind=.function:=by rfl) (hnc:∀x∈scope.names,x.2 ≠ .cell:=by decide) (bn:∀x∈scope.names,x.2=.local->scope.names.lookup x.1=some .local:=by decide)
 (hfr:lG kn scope.names=true:=by decide)
 (hsl:sub.length=N.length:=by rfl) (hs:∀x,foldedSetIterable am X.env x=pure x:=by intro _;rfl):
 DE K mg X ES (.ListComp jp [⟨tg,am,[],0⟩] scope pos) (eLC I sub g tY F):=
 PE.imp (Kl M kn N sub hc hi hg he hM hkn ii hk hnc bn hfr hsl hs) λσ H Q q=>by
  have:=C2 (cf:=tY) σ H Q q
  obtain⟨ρ,h,ae,w,re,p⟩:=this
  refine⟨ρ,h,ae,w,re,p.imp λit h1 ρ1 H1 l1 w1 k J hJ=>?_⟩
  obtain⟨W,w0,tn⟩:=k J hJ
  refine⟨W,w0,λi m ys σ2 H2 hW=>?_⟩
  rcases tn i m ys σ2 H2 hW with z |⟨go,hl,Nx,hN,st⟩
  ·exact .inl z
  ·refine .inr ⟨go,hl,Nx,hN,λx H' hy=>?_⟩
   obtain⟨ρ3,h3,ae3,d3,w3,re3,rd3,p3⟩:=st x H' hy
   refine⟨ρ3,h3,ae3,d3,w3,re3,rd3,p3.imp λae4 h4 ρ4 H4 l4 w4 k4 σ4 re4=>?_⟩
   obtain⟨ρ5,h5,ae5,w5,re5,p5⟩:=k4 σ4 re4
   exact p5 ρ5 _ Le.refl w5
def FL{sub:List (Option Nat)}(σ:St)(H:Hp)(Q:VK)(q:rdE K mg ES (eLC I sub g tY F) σ H Q):mO (rdI K mg ES I) sub (rdG K mg (λ_=>E0) g) AY (rdE K mg (λ_=>E0) F) σ H Q:=by
 have:=C2 (cf:=tY) σ H Q q
 obtain⟨ρ,h,ae,w,re,p⟩:=this
 refine⟨ρ,h,ae,w,re,p.imp λit h1 ρ1 H1 l1 w1 k J hJ=>?_⟩
 obtain⟨W,w0,tn⟩:=k J hJ
 refine⟨W,w0,λi m ys σ2 H2 hW=>?_⟩
 rcases tn i m ys σ2 H2 hW with z |⟨go,hl,Nx,hN,st⟩
 ·exact .inl z
 ·refine .inr ⟨go,hl,Nx,hN,λx H' hy=>?_⟩
  obtain⟨ρ3,h3,ae3,d3,w3,re3,rd3,p3⟩:=st x H' hy
  refine⟨ρ3,h3,ae3,d3,w3,re3,rd3,p3.imp λae4 h4 ρ4 H4 l4 w4 k4 σ4 re4=>?_⟩
  obtain⟨ρ5,h5,ae5,w5,re5,p5⟩:=k4 σ4 re4
  exact p5 ρ5 _ Le.refl w5
def Dz{t:TE}{i:Nat}(ht:∀σ H Q,rdE K mg ES F σ H Q->t σ H Q)(De:Ends)(σ:St)(H:Hp)(q:rdS K mg ES (iH F (gN i)) De σ H):uC t (oz i) De σ H:=by
 obtain⟨ρ,h,ae,w,re,p⟩:=q
 exact ht σ H _ ⟨ρ,h,ae,w,re,cN p re λd h1 ρ1 H1 l1 w1 re1 p1 v rv=>iP p1 w1 (re1.set i rv)⟩
def J6{scope:Scope}{px spos:Pos}{iT:Nat}{xT:Str}(M:List Str)(kn:List (Str×NameKind))(N:List Str)(sub:List (Option Nat))
 (hc:X.calm=true) (hN:X.N.Nodup) (hix:X.N[iT]?=some xT) (hxl:Loc X.env.scope xT) (hi:DI K mg X ES tg am I)
 (hg:∀cl C s₂ H fp,DG K mg (bQ X N scope cl C s₂ H fp) (λ_=>E0) tg g) (he:∀cl C s₂ H fp,DE K mg (bQ X N scope cl C s₂ H fp) (λ_=>E0) jp F)
 (hsw:swapsWith (.ListComp jp [⟨tg,am,[],0⟩] scope pos) (some (.Name xT px)) spos.line X.env=pure true:=by rfl)
 (hM:X.N=M:=by rfl) (hkn:X.env.scope.names=kn:=by rfl) (ii:jt M scope.names sub N=true:=by decide)
 (hk:scope.kind=.function:=by rfl) (hnc:∀x∈scope.names,x.2 ≠ .cell:=by decide) (bn:∀x∈scope.names,x.2=.local->scope.names.lookup x.1=some .local:=by decide)
 (hfr:lG kn scope.names=true:=by decide)
 (hsl:sub.length=N.length:=by rfl) (hs:∀x,foldedSetIterable am X.env x=pure x:=by intro _;rfl) (hf:X.fn xT=true\/X.env.scope.names.lookup xT=some .local:=by first |exact .inl rfl |exact .inr rfl |assumption):
 DS K mg X ES (.Assign [.Name xT px] (.ListComp jp [⟨tg,am,[],0⟩] scope pos) spos) (iH (eLC I sub g tY F) (gN iT)):=
 PS.imp (KG M kn N sub hc hN hix hxl hi hg he hsw hM hkn ii hk hnc bn hfr hsl hs hf) (Dz FL)
end
def whN(c:MT)(B:MS):Nat->MS
 |0,_,_=>.stuck
 |k+1,ae,h=>(c ae h).toS ae λb h1=>if b=true then (B ae h1).loop (whN c B k) else .nx ae h1
open Classical in
def sWh(c:MT)(B:MS):MS:=λae h=>if q:∃k,whN c B k ae h ≠ .stuck then whN c B q.choose ae h else .stuck
theorem nL{c:MT}{B:MS}:∀{k:Nat}{ae:AE}{h:AH},whN c B k ae h ≠ .stuck->whN c B (k+1) ae h=whN c B k ae h
 |0,_,_,q=>absurd rfl q
 |
  k+1,ae,h,q=>by
  have e1:whN c B (k+2) ae h=(c ae h).toS ae λb h1=>if b=true then (B ae h1).loop (whN c B (k+1)) else .nx ae h1:=rfl
  have e2:whN c B (k+1) ae h=(c ae h).toS ae λb h1=>if b=true then (B ae h1).loop (whN c B k) else .nx ae h1:=rfl
  rw[e2] at q
  rw[e1,e2]
  cases r:c ae h with
  |exc _ _=>rfl
  |stuck=>rfl
  |
   ok b h1=>
   rw[r] at q
   cases b with
   |false=>rfl
   |
    true=>
    have q':(B ae h1).loop (whN c B k) ≠ .stuck:=q
    show (B ae h1).loop (whN c B (k+1))=(B ae h1).loop (whN c B k)
    cases s:B ae h1 with
    |nx a2 h2=>rw[s] at q';exact nL q'
    |ct a2 h2=>rw[s] at q';exact nL q'
    |_=>rfl
def zP{c:MT}{B:MS}{k j:Nat}{ae:AE}{h:AH}(q:whN c B k ae h ≠ .stuck)(hj:k<=j):whN c B j ae h=whN c B k ae h:=by
 induction hj with
 |refl=>rfl
 |step _ ih=>rw[nL (by rw[ih];exact q),ih]
def yn{c:MT}{B:MS}{k:Nat}{ae:AE}{h:AH}(q:whN c B k ae h ≠ .stuck):sWh c B ae h=whN c B k ae h:=by
 have hq:∃k,whN c B k ae h ≠ .stuck:=⟨k,q⟩
 unfold sWh
 rw[dif_pos hq]
 rcases Nat.le_total hq.choose k with z |z
 ·exact (zP hq.choose_spec z).symm
 ·exact zP q z
section
variable{K:W.Frag}{mg:Str->Option Value}{X:Cx}{ES:St->XK}{c:Expr}{cf:MT}{U:MS}{sts:List Stmt}{pos:Pos}
def Ct(hp:PassesOwn (model X.prog X.w) X.A X.env X.xe)(hc:DT K mg X ES c cf)(hb:DSs K mg X ES sts U):DS K mg X ES (.While c sts [] pos) (sWh cf U):=by
 refine PS.imp (An hp hc hb) λDe σ H q_=>q_.el λρ h ae w re p=>?_
 have hx:∃k,whN cf U k ae h ≠ .stuck:=Qk λz=>by
  unfold sWh at p
  rw[dif_neg z] at p
  exact p.elim
 obtain⟨k,hk⟩:=hx
 rw[yn hk] at p
 refine⟨λm σ2 H2=>∃ρ2 h2 ae2,Wd K mg ρ2 h2 H2/\RelE K mg ρ2 H2 ae2 σ2/\PostS K mg ρ2 H2 De ES (whN cf U m ae2 h2),⟨k,ρ,h,ae,w,re,p⟩,?_⟩
 rintro m σ2 H2 ⟨ρ2,h2,ae2,w2,re2,p2⟩
 cases m with
 |zero=>exact p2.elim
 |
  succ m=>
  refine⟨ρ2,h2,ae2,w2,re2,cN p2 re2 λb h3 ρ3 H3 l3 w3 re3 p3=>?_⟩
  cases b with
  |true=>exact⟨λσ' H'=>∃ρ4 h4 ae4,Wd K mg ρ4 h4 H'/\RelE K mg ρ4 H' ae4 σ'/\PostS K mg ρ4 H' De ES (whN cf U m ae4 h4),λσ' H' q=>⟨m,Nat.lt_succ_self _,q⟩,ρ3,h3,ae2,w3,re3,tX p3 λae4 h4 ρ4 H4 σ4 l4 w4 re4 p4=>⟨ρ4,h4,ae4,w4,re4,p4⟩⟩
  |false=>exact iP p3 w3 re3
end
end L2
namespace L2
open PySem PySem.Spec PyProof.Rows
def uo:Fn:=λds h=>match ds with
 | [d]=>match dG h d with
  |some xs=>.ok (.int xs.length) h
  |none=>match d with
   |.str z=>if z.length<=16777216 then .ok (.int z.length) h else .stuck
   |_=>.stuck
 |_=>.stuck
def x8:Fn:=λds h=>match ds with
 | [.int i]=>.ok (.int (if i<0 then -i else i)) h
 |_=>.stuck
def rV:Fn:=λds h=>match ds with
 | [.int i,.int j]=>.ok (.int (if j>i then j else i)) h
 |_=>.stuck
def rW:Fn:=λds h=>match ds with
 | [.int i,.int j]=>.ok (.int (if j<i then j else i)) h
 |_=>.stuck
def jB:List D->Option (List Bool)
 | []=>some []
 |.bl b::r=>(jB r).map (b :: ·)
 |_=>none
def ir:List D->Option (List Int)
 | []=>some []
 |.int b::r=>(ir r).map (b :: ·)
 |_=>none
theorem sQ:∀{ds:List D}{bs:List Bool},jB ds=some bs->ds=bs.map D.bl
 | [],bs,e=>by cases e;rfl
 |
  .bl b::r,bs,e=>by
  have e':(jB r).map (b :: ·)=some bs:=e
  cases q:jB r with
  |none=>rw[q] at e';cases e'
  |some z=>rw[q] at e';cases e';rw[sQ q];rfl
theorem qX:∀{ds:List D}{bs:List Int},ir ds=some bs->ds=bs.map D.int
 | [],bs,e=>by cases e;rfl
 |
  .int b::r,bs,e=>by
  have e':(ir r).map (b :: ·)=some bs:=e
  cases q:ir r with
  |none=>rw[q] at e';cases e'
  |some z=>rw[q] at e';cases e';rw[qX q];rfl
def uW:Fn:=λds h=>match ds with
 | [.ref n]=>match (bD h n).bind jB with
  |some bs=>.ok (.bl (bs.all id)) h
  |none=>.stuck
 |_=>.stuck
def uP:Fn:=λds h=>match ds with
 | [.ref n]=>match (bD h n).bind ir with
  |some ns=>.ok (.int ns.sum) h
  |none=>.stuck
 |_=>.stuck
def oZ:Fn:=λds h=>match ds with
 | [d]=>match dG h d with
  |some xs=>.ok (.ref h.length) (h++[.lst xs])
  |none=>.stuck
 |_=>.stuck
def lL:Fn:=λds h=>match ds with
 | [d]=>match dG h d with
  |some xs=>.ok (.tup xs) h
  |none=>.stuck
 |_=>.stuck
def wU:Fn:=λds h=>match ds with
 | [.int i]=>.ok (.int i) h
 | [.bl b]=>.ok (.int (if b then 1 else 0)) h
 |_=>.stuck
section
variable{K:W.Frag}{mg:Str->Option Value}{X:Cx}
def Jd:bG K mg (λxs H Q=>(∃p ys,xs=[.ref p]/\(SqL K H p ys\/SqT K H p ys)/\Q (.int ys.length) H)\/(∃z,xs=[.str z]/\z.length<=sizeLine/\Q (.int z.length) H)) uo:=λρ h H ds vs Q E w rs p=>by
 unfold uo at p
 split at p
 ·cases
   rs with
  |
   cons r rs=>
   cases rs
   split at p
   ·rename_i xs e
    obtain⟨pa,vs,rfl,hq,rs⟩:=eG w r e
    exact .inl ⟨_,_,rfl,hq,by rw[<- rs.len];exact aP w (.int _) p⟩
   ·split at p
    ·cases r
     split at p
     ·rename_i hl;exact .inr ⟨_,rfl,hl,aP w (.int _) p⟩
     ·exact p.elim
    ·exact p.elim
 ·exact p.elim
def dR(h:X.K=K):CallR X (.builtin "len") (λxs H Q=>(∃p ys,xs=[.ref p]/\(SqL K H p ys\/SqT K H p ys)/\Q (.int ys.length) H)\/(∃z,xs=[.str z]/\z.length<=sizeLine/\Q (.int z.length) H)):=by subst h;exact ui.or sX
def Hg:bG K mg (λxs H Q=>∃i,xs=[.int i]/\Q (.int (if i<0 then -i else i)) H) x8:=λρ h H ds vs Q E w rs p=>by
 unfold x8 at p
 split at p
 ·cases rs with
  |cons r rs=>cases r;cases rs;exact⟨_,rfl,aP w (.int _) p⟩
 ·exact p.elim
def Ey:bG K mg (λxs H Q=>∃i j,xs=[.int i,.int j]/\Q (.int (if j>i then j else i)) H) rV:=λρ h H ds vs Q E w rs p=>by
 unfold rV at p
 split at p
 ·cases rs with
  |cons r rs=>cases rs with |cons r2 rs=>cases r;cases r2;cases rs;exact⟨_,_,rfl,aP w (.int _) p⟩
 ·exact p.elim
def Fq:bG K mg (λxs H Q=>∃i j,xs=[.int i,.int j]/\Q (.int (if j<i then j else i)) H) rW:=λρ h H ds vs Q E w rs p=>by
 unfold rW at p
 split at p
 ·cases rs with
  |cons r rs=>cases rs with |cons r2 rs=>cases r;cases r2;cases rs;exact⟨_,_,rfl,aP w (.int _) p⟩
 ·exact p.elim
def GL:bG K mg (λxs H Q=>∃(a:Addr) (bs:List Bool),xs=[.ref a]/\SqL K H a (bs.map V.bl)/\Q (.bl (bs.all id)) H) uW:=λρ h H ds vs Q E w rs p=>by
 unfold uW at p
 split at p
 ·cases
   rs with
  |
   cons r rs=>
   cases r with
   |
    ref ea=>
    cases rs
    split at p
    ·rename_i bs e
     obtain⟨xs,q,e2⟩:=OO.mp e
     ·obtain⟨vs,h1,h2⟩:=df w ea q
      rw[sQ e2] at h2
      rw[h2.bls] at h1
      exact⟨_,bs,rfl,h1,aP w (.bl _) p⟩
    ·exact p.elim
 ·exact p.elim
def HL:bG K mg (λxs H Q=>∃(a:Addr) (ns:List Int),xs=[.ref a]/\SqL K H a (ns.map V.int)/\Q (.int ns.sum) H) uP:=λρ h H ds vs Q E w rs p=>by
 unfold uP at p
 split at p
 ·cases
   rs with
  |
   cons r rs=>
   cases r with
   |
    ref ea=>
    cases rs
    split at p
    ·rename_i bs e
     obtain⟨xs,q,e2⟩:=OO.mp e
     ·obtain⟨vs,h1,h2⟩:=df w ea q
      rw[qX e2] at h2
      rw[h2.ints] at h1
      exact⟨_,bs,rfl,h1,aP w (.int _) p⟩
    ·exact p.elim
 ·exact p.elim
def Fp:bG K mg (λxs H Q=>∃p ys,xs=[.ref p]/\(SqL K H p ys\/SqT K H p ys)/\∀l,H l=none->Q (.ref l) (upd H l (.lst ys))) oZ:=λρ h H ds vs Q E w rs p=>by
 unfold oZ at p
 split at p
 ·cases rs with
  |
   cons r rs=>
   cases rs
   split at p
   ·rename_i xs e
    obtain⟨pa,vs,rfl,hq,rs⟩:=eG w r e
    exact⟨_,_,rfl,hq,λl hl=>fL w rs hl p⟩
   ·exact p.elim
 ·exact p.elim
def Bk:bG K mg (λxs H Q=>∃p ys,xs=[.ref p]/\((SqL K H p ys/\∀l,H l=none->Q (.ref l) (upd H l (.tup ys)))\/(SqT K H p ys/\Q (.ref p) H))) lL:=λρ h H ds vs Q E w rs p=>by
 unfold lL at p
 split at p
 ·cases rs with
  |
   cons r rs=>
   cases rs
   split at p
   ·rename_i xs e
    obtain⟨pa,vs,rfl,hq,rs⟩:=eG w r e
    rcases hq with hq |hq
    ·exact⟨_,_,rfl,.inl ⟨hq,λl hl=>ky w rs hl p⟩⟩
    ·exact⟨_,_,rfl,.inr ⟨hq,aP w (.tup hq rs) p⟩⟩
   ·exact p.elim
 ·exact p.elim
def HB:bG K mg (λxs H Q=>(∃i,xs=[.int i]/\Q (.int i) H)\/∃k,xs=[.bl k]/\Q (.int (if k then 1 else 0)) H) wU:=λρ h H ds vs Q E w rs p=>by
 unfold wU at p
 split at p
 ·cases rs with
  |cons r rs=>cases r;cases rs;exact .inl ⟨_,rfl,aP w (.int _) p⟩
 ·cases rs with
  |cons r rs=>cases r;cases rs;exact .inr ⟨_,rfl,aP w (.int _) p⟩
 ·exact p.elim
def JH(h:X.K=K):CallR X (.type "list") (λxs H Q=>∃p ys,xs=[.ref p]/\(SqL K H p ys\/SqT K H p ys)/\∀l,H l=none->Q (.ref l) (upd H l (.lst ys))):=by subst h;exact se
def Fm(h:X.K=K):CallR X (.type "tuple") (λxs H Q=>∃p ys,xs=[.ref p]/\((SqL K H p ys/\∀l,H l=none->Q (.ref l) (upd H l (.tup ys)))\/(SqT K H p ys/\Q (.ref p) H))):=by subst h;exact rK
end
inductive Cl where
 |b (n:String) |o (x:Str)
 deriving DecidableEq
def tyD(h:AH):D->Option Cl
 |.non=>some (.b "NoneType")
 |.bl _=>some (.b "bool")
 |.int _=>some (.b "int")
 |.str _=>some (.b "str")
 |.tup _=>some (.b "tuple")
 |.exc x=>some (.o x)
 |.ref n=>match h[n]? with
  |some (.lst _)=>some (.b "list")
  |some (.fz _)=>some (.b "list")
  |some (.dct _)=>some (.b "dict")
  |_=>none
 |_=>none
def clD:D->Option Cl
 |.ty n=>some (.b n)
 |.glb x=>some (.o x)
 |_=>none
def ClV(mg:Str->Option Value):Cl->Value->Prop
 |.b n,v=>v=.type n
 |.o x,v=>∃a,v=.ref a/\mg x=some (.ref a)
abbrev gk:=List (Cl×Cl×Bool)
structure KitsOk(K:W.Frag)(mg:Str->Option Value)(kt:gk):Prop where
 one:∀p∈kt,∀t v,ClV mg p.1 t->ClV mg p.2.1 v->W.kitOne K t v=some p.2.2
 xc:∀p∈kt,∀x C,p.1=.o x->mg x=some (.ref C)->XCls K C
def kit(kt:gk)(t c:Cl):Option Bool:=(kt.find? λp=>decide (p.1=t)&&decide (p.2.1=c)).map (·.2.2)
def gM(kt:gk)(t:Cl):List Cl->Option Bool
 | []=>some false
 |c::r=>match kit kt t c with
  |some true=>some true
  |some false=>gM kt t r
  |none=>none
def sk(kt:gk):Fn:=λds h=>match ds with
 | [d,c]=>match tyD h d with
  |some t=>match c with
   |.tup cs=>match cs.mapM clD with
    |some (c0::cr)=>match gM kt t (c0::cr),kit kt t c0 with
     |some b,some _=>.ok (.bl b) h
     |_,_=>.stuck
    |_=>.stuck
   |c=>match clD c with
    |some cl=>match kit kt t cl with
     |some b=>.ok (.bl b) h
     |none=>.stuck
    |none=>.stuck
  |none=>.stuck
 |_=>.stuck
def qf{kt:gk}{t c:Cl}{b:Bool}(e:kit kt t c=some b):(t,c,b)∈kt:=by
 unfold kit at e
 cases q:kt.find? (λp=>decide (p.1=t)&&decide (p.2.1=c)) with
 |none=>rw[q] at e;cases e
 |
  some p=>
  rw[q] at e
  have h1:=List.find?_some q
  have h2:=List.mem_of_find?_eq_some q
  simp only[Ol,Qv] at h1
  obtain⟨p1,p2,p3⟩:=p
  have e3:p3=b:=Oz e
  obtain⟨rfl,rfl⟩:=h1
  subst e3
  exact h2
section
variable{K:W.Frag}{mg:Str->Option Value}{X:Cx}{ρ:List Addr}{H:Hp}{h:AH}
def wc{kt:gk}(ok:KitsOk K mg kt)(w:Wd K mg ρ h H){d:D}{v:V}{t c:Cl}{b:Bool}(r:RelD K mg ρ H d v)(e:tyD h d=some t)(k:kit kt t c=some b):∃tv,TyX K H v tv/\ClV mg t tv:=by
 cases r with
 |non=>cases e;exact⟨_,.of .non,rfl⟩
 |bl=>cases e;exact⟨_,.of (.bl _),rfl⟩
 |int=>cases e;exact⟨_,.of (.int _),rfl⟩
 |str=>cases e;exact⟨_,.of (.str _),rfl⟩
 |tup q rs=>cases e;exact⟨_,.sqT q,rfl⟩
 |
  exc m ex=>
  cases e
  exact⟨_,.exc ex (ok.xc _ (qf k) _ _ rfl m),_,rfl,m⟩
 |
  ref ea=>
  unfold tyD at e
  dsimp only at e
  split at e
  ·rename_i e1;cases e;obtain⟨vs,h1,h2⟩:=w.ob _ _ _ ea e1;exact⟨_,.of (.lst h1),rfl⟩
  ·rename_i e1;cases e;obtain⟨o,vs,h1,h2⟩:=w.ob _ _ _ ea e1;exact⟨_,.of (.frz h1),rfl⟩
  ·rename_i e1;cases e;obtain⟨ws,h1,_⟩:=w.ob _ _ _ ea e1;exact⟨_,.of (.dK h1),rfl⟩
  ·cases e
 |_=>cases e
def wd{d:D}{v:V}{c:Cl}(r:RelD K mg ρ H d v)(e:clD d=some c):∃cv,f9 v=some cv/\ClV mg c cv:=by
 cases r with
 |ty n=>cases e;exact⟨_,rfl,rfl⟩
 |glb m=>cases e;exact⟨_,rfl,_,rfl,m⟩
 |_=>cases e
def AR:∀{ds:List D}{vs:List V}{cs:List Cl},RelDs K mg ρ H ds vs->ds.mapM clD=some cs->∃cvs,vs.mapM f9=some cvs/\Paired (ClV mg) cs cvs:=by
 intro ds
 induction ds with
 |
  nil=>
  intro vs cs r e
  cases r
  have e':some ([]:List Cl)=some cs:=e
  cases e';exact⟨[],rfl,.nil⟩
 |
  cons d ds ih=>
  intro vs cs r e
  cases r with
  |
   cons r rr=>
   rw[P8] at e
   cases q:clD d with
   |none=>rw[q] at e;cases e
   |
    some c=>
    rw[q] at e
    cases q2:ds.mapM clD with
    |none=>rw[q2] at e;cases e
    |
     some cs'=>
     rw[q2] at e
     have e':some (c::cs')=some cs:=e
     cases e'
     obtain⟨cv,h1,h2⟩:=wd r q
     obtain⟨cvs,h3,h4⟩:=ih rr q2
     refine⟨cv::cvs,?_,.cons h2 h4⟩
     rw[P8,h1,h3];rfl
def yc{kt:gk}(ok:KitsOk K mg kt){t:Cl}{tv:Value}(ht:ClV mg t tv):∀{cs:List Cl}{cvs:List Value}{b:Bool},Paired (ClV mg) cs cvs->gM kt t cs=some b->W.kitAny K tv cvs=some b:=by
 intro cs
 induction cs with
 |
  nil=>
  intro cvs b r e
  cases r
  cases e;rfl
 |
  cons c cs ih=>
  intro cvs b r e
  cases r with
  |
   cons r rr=>
   unfold gM at e
   unfold W.kitAny
   cases q:kit kt t c with
   |none=>rw[q] at e;cases e
   |
    some z=>
    rw[q] at e
    rw[ok.one _ (qf q) _ _ ht r]
    cases z with
    |true=>exact e
    |false=>exact ih rr e
def yk:CallR X (.builtin "isinstance") (λxs H Q=>∃x tp cs t vs b,xs=[x,.ref tp]/\SqT X.K H tp cs/\TyX X.K H x t/\cs.mapM f9=some vs/\W.kitAny X.K t vs=some b/\Q (.bl b) H):=by
 intro pins s σ H xs us Q I r h
 obtain⟨x,tp,cs,t,vs,b,rfl,ht,ty,hc,hk,q⟩:=h
 obtain⟨u,w',rfl,rx,rc⟩:=ml r
 cases rc
 obtain⟨its,rv,⟨o,e,c,n,d⟩,_⟩:=I.tuple ht
 obtain rfl:=qW hc rv
 obtain⟨Hh,Z,p,hne⟩:=vE I rx ty
 obtain⟨oc,od,odt,osl⟩:=o
 have c':oc=.type "tuple":=c
 have d':odt=.seq its.toArray n:=d
 subst c' d'
 exact W.kia_tup Z I.kIn p e hk hne λtk=>⟨.bl b,H,I.tok _,rfl,q⟩
def fh(hK:X.K=K):CallR X (.builtin "isinstance") (λxs H Q=>(∃x c t v b,xs=[x,c]/\TyX K H x t/\f9 c=some v/\W.kitOne K t v=some b/\Q (.bl b) H)\/
 (∃x tp cs t vs b,xs=[x,.ref tp]/\SqT K H tp cs/\TyX K H x t/\cs.mapM f9=some vs/\W.kitAny K t vs=some b/\Q (.bl b) H)):=by subst hK;exact Bh.or yk
def Hj{kt:gk}(ok:KitsOk K mg kt):bG K mg (λxs H Q=>(∃x c t v b,xs=[x,c]/\TyX K H x t/\f9 c=some v/\W.kitOne K t v=some b/\Q (.bl b) H)\/
 (∃x tp cs t vs b,xs=[x,.ref tp]/\SqT K H tp cs/\TyX K H x t/\cs.mapM f9=some vs/\W.kitAny K t vs=some b/\Q (.bl b) H)) (sk kt):=λρ h H ds vs Q E w rs p=>by
 unfold sk at p
 split at p
 ·cases
   rs with
  |
   cons r rs=>
   cases rs with
   |
    cons r2 rs=>
    cases rs
    split at p
    ·rename_i t e1
     split at p
     ·split
       at p
      ·rename_i cs c0 cr e2
       split at p
       ·rename_i b b' e3 e4
        cases r2 with
        |
         tup q rs2=>
         obtain⟨tv,h1,h2⟩:=wc ok w r e1 e4
         obtain⟨cvs,h3,h4⟩:=AR rs2 e2
         exact .inr ⟨_,_,_,tv,cvs,b,rfl,q,h1,h3,yc ok h2 h4 e3,aP w (.bl _) p⟩
       ·exact p.elim
      ·exact p.elim
     ·split at p
      ·rename_i cl e2
       split at p
       ·rename_i b e3
        obtain⟨tv,h1,h2⟩:=wc ok w r e1 e3
        obtain⟨cv,h3,h4⟩:=wd r2 e2
        exact .inl ⟨_,_,tv,cv,b,rfl,h1,h3,ok.one _ (qf e3) _ _ h2 h4,aP w (.bl _) p⟩
       ·exact p.elim
      ·exact p.elim
    ·exact p.elim
 ·exact p.elim
end
end L2
namespace L2
open PySem PySem.Spec PyProof.Rows
def MtD(K:W.Frag)(mg:Str->Option Value)(r:V->List V->Hp->VK->Prop)(g:D->List D->AH->R D):Prop:=∀ρ h H dx ds x vs Q E,Wd K mg ρ h H->RelD K mg ρ H dx x->RelDs K mg ρ H ds vs->eK K mg ρ H Q E (g dx ds h)->r x vs H Q
def kM(h:AH):D->Bool
 |.ref n=>(bD h n).isSome
 |_=>false
def eM(g:D->List D->AH->R D)(F:ME)(A:MA):ME:=λae h=>(F ae h).bind λx h1=>if kM h1 x=true then (A ae h1).bind λds h2=>g x ds h2 else .stuck
def eM0(g:D->List D->AH->R D)(F:ME):ME:=λae h=>(F ae h).bind λx h1=>if kM h1 x=true then g x [] h1 else .stuck
section
variable{K:W.Frag}{mg:Str->Option Value}{X:Cx}{ES:St->XK}{o e:Expr}{es:List Expr}{F G:ME}{A:MA}{pos:Pos}
def qZ{ρ:List Addr}{H:Hp}{h:AH}{d:D}{v:V}(w:Wd K mg ρ h H)(r:RelD K mg ρ H d v)(q:kM h d=true):tyV K "list" v H:=by
 cases r with
 |
  ref ea=>
  obtain⟨xs,e⟩:=OL.mp q
  obtain⟨vs,h1,_⟩:=df w ea e
  exact .inl ⟨rfl,vs,h1⟩
 |_=>cases q
def de_m{name:Str}{id:String}{apos cpos:Pos}{r:V->List V->Hp->VK->Prop}{g:D->List D->AH->R D}(hK:X.K=K)(slot:Slot "list" name id)(hty:typeOf (.builtin id)=pure (.type "method_descriptor"))(hm:MtM X id r)(hd:MtD K mg r g)(ho:DE K mg X ES o F)(ha:DA K mg X ES (e::es) A)
 (db:attributeBase o name X.env (eval o X.env)=eval o X.env:=by rfl)
 (hfew:((backTo cpos (starEach (e::es) X.env)).all (λx=>!x.1)&&(backToKw cpos (keywordEach [] X.env)).all (λx=>x.1.isSome)
  && decide ((e::es).length+([]:List Keyword).length+(if ([]:List Keyword).isEmpty then 0 else 1)<30))=true:=by rfl)
 (dL:(apos.endLine==cpos.line)=true:=by rfl) (hs:starEach (e::es) X.env=(false,eval e X.env)::starEach es X.env:=by rfl) (bi:(backTo cpos (starEach es X.env)).any (·.1)=false:=by rfl):
 DE K mg X ES (.Call (.Attribute o name apos) (e::es) [] cpos) (eM g F A):=by
 subst hK
 refine PE.imp (CW PySem.F.plainAttrs_list slot hty hm ho ha db hfew dL hs bi) λσ H Q q_=>q_.el λρ h ae w re p=>⟨ρ,h,ae,w,re,p.bind.imp λdx h1 ρ1 H1 l1 w1 p1 x rx=>?_⟩
 split at p1
 ·rename_i hl
  exact⟨qZ w1 rx hl,ρ1,h1,ae,w1,re.mono l1,p1.bind.imp λds h2 ρ2 H2 l2 w2 p2 vs rs=>hd ρ2 h2 H2 dx ds x vs Q _ w2 (rx.mono l2) rs p2⟩
 ·exact p1.elim
def K9{name:Str}{id:String}{apos cpos:Pos}{r:V->List V->Hp->VK->Prop}{g:D->List D->AH->R D}(hK:X.K=K)(slot:Slot "list" name id)(hty:typeOf (.builtin id)=pure (.type "method_descriptor"))(hm:MtM X id r)(hd:MtD K mg r g)(ho:DE K mg X ES o F)
 (db:attributeBase o name X.env (eval o X.env)=eval o X.env:=by rfl) (dL:(apos.endLine==cpos.line)=true:=by rfl):DE K mg X ES (.Call (.Attribute o name apos) [] [] cpos) (eM0 g F):=by
 subst hK
 refine PE.imp (IT PySem.F.plainAttrs_list slot hty hm ho db dL) λσ H Q q_=>q_.el λρ h ae w re p=>⟨ρ,h,ae,w,re,p.bind.imp λdx h1 ρ1 H1 l1 w1 p1 x rx=>?_⟩
 split at p1
 ·rename_i hl
  exact⟨qZ w1 rx hl,hd ρ1 h1 H1 dx [] x [] Q _ w1 rx .nil p1⟩
 ·exact p1.elim
end
def hZ(h:AH)(d:D)(f:Nat->List D->R D):R D:=match d with
 |.ref n=>match h[n]? with
  |some (.lst xs)=>f n xs
  |_=>.stuck
 |_=>.stuck
def dW:D->List D->AH->R D:=λx ds h=>hZ h x λn xs=>match ds with
 | [d]=>if xs.length<16777216 then .ok .non (h.set n (.lst (xs++[d]))) else .stuck
 |_=>.stuck
def wk:D->List D->AH->R D:=λx ds h=>hZ h x λn xs=>match ds with
 | []=>match xs[xs.length-1]? with
  |some d=>.ok d (h.set n (.lst xs.dropLast))
  |none=>.stuck
 |_=>.stuck
def nT:D->List D->AH->R D:=λx ds h=>hZ h x λn xs=>match ds with
 | []=>.ok .non (h.set n (.lst []))
 |_=>.stuck
section
variable{K:W.Frag}{mg:Str->Option Value}{X:Cx}{ρ:List Addr}{H:Hp}{h:AH}
def iu{Q:VK}{E:XK}{d:D}{v:V}{f:Nat->List D->R D}(w:Wd K mg ρ h H)(r:RelD K mg ρ H d v)(p:eK K mg ρ H Q E (hZ h d f)):
 ∃n xs a vs,d=.ref n/\h[n]?=some (.lst xs)/\ρ[n]?=some a/\v=.ref a/\H a=some (.lst vs)/\RelDs K mg ρ H xs vs/\eK K mg ρ H Q E (f n xs):=by
 unfold hZ at p
 split at p
 ·cases r with
  |
   ref ea=>
   split at p
   ·rename_i n xs e
    obtain⟨vs,h1,h2⟩:=w.ob _ _ _ ea e
    exact⟨_,_,_,vs,rfl,e,ea,rfl,h1,h2,p⟩
   ·exact p.elim
 ·exact p.elim
def ji{Q:VK}{E:XK}{n:Nat}{a:Addr}{vs ws:List V}{ys:List D}{d:D}{v:V}(w:Wd K mg ρ h H)(ea:ρ[n]?=some a)(e:H a=some (.lst vs))(rs:RelDs K mg ρ H ys ws)(rd:RelD K mg ρ H d v)(p:eK K mg ρ H Q E (.ok d (h.set n (.lst ys)))):Q v (upd H a (.lst ws)):=by
 have l:Le ρ H ρ (upd H a (.lst ws)):=o3 e sd
 exact p ρ _ l (w.write ea e sd ⟨ws,cB,rs.mono l⟩) v (rd.mono l)
def qI:MtD K mg pw dW:=λρ h H dx ds x vs Q E w rx rs p=>by
 obtain⟨n,xs,a,us,rfl,e,ea,rfl,h1,h2,p⟩:=iu w rx p
 split at p
 ·cases rs with
  |
   cons r rs=>
   cases rs
   split at p
   ·rename_i hl
    exact⟨a,us,_,rfl,rfl,h1,by rw[<- h2.len];exact hl,ji w ea h1 (h2.append (.cons r .nil)) .non p⟩
   ·exact p.elim
 ·exact p.elim
def G1:MtD K mg Ck wk:=λρ h H dx ds x vs Q E w rx rs p=>by
 obtain⟨n,xs,a,us,rfl,e,ea,rfl,h1,h2,p⟩:=iu w rx p
 split at p
 ·cases rs
  split at p
  ·rename_i d ed
   obtain⟨v,ev,rv⟩:=h2.getD ed
   rw[h2.len] at ev
   refine⟨a,us,v,rfl,rfl,h1,ev,ji w ea h1 ?_ rv p⟩
   rw[P7,P7,h2.len]
   exact h2.take _
  ·exact p.elim
 ·exact p.elim
def Aq:MtD K mg sJ nT:=λρ h H dx ds x vs Q E w rx rs p=>by
 obtain⟨n,xs,a,us,rfl,e,ea,rfl,h1,h2,p⟩:=iu w rx p
 split at p
 ·cases rs
  exact⟨a,us,rfl,rfl,h1,ji w ea h1 .nil .non p⟩
 ·exact p.elim
inductive EqsR(K:W.Frag)(H:Hp)(y:V)(pd:PyData):List V->List Bool->Prop where
 |nil:EqsR K H y pd [] []
 |cons {x:V}{px:PyData}{xs:List V}{bs:List Bool} (rx:Rep K H x px) (hx:SeqAt.shaped px=true) (r:EqsR K H y pd xs bs):EqsR K H y pd (x::xs) (PyData.eqv px pd::bs)
end
def wL(o i v:D)(h:AH):R Unit:=match o,i with
 |.ref n,.int k=>match h[n]? with
  |some (.lst xs)=>match ixN xs.length k with
   |some j=>.ok () (h.set n (.lst (xs.set j v)))
   |none=>.stuck
  |_=>.stuck
 |_,_=>.stuck
section
variable{K:W.Frag}{mg:Str->Option Value}{X:Cx}{ES:St->XK}{o i:Expr}{F G:ME}{pos:Pos}
def El:pM K mg xU wL:=λρ h H do_ di dv o i v Q E w ro ri rv p=>by
 unfold wL at p
 split at p
 ·cases
   ro with
  |
   ref ea=>
   cases ri
   split at p
   ·rename_i n k xs e
    split at p
    ·rename_i j ej
     obtain⟨vs,h1,h2⟩:=w.ob _ _ _ ea e
     have l:Le ρ H ρ (upd H _ (.lst (vs.set j v))):=o3 h1 sd
     exact⟨_,vs,_,j,rfl,rfl,h1,by rw[<- h2.len];exact ej,p ρ _ l (w.write ea h1 sd ⟨_,cB,(h2.set rv j).mono l⟩)⟩
    ·exact p.elim
   ·exact p.elim
 ·exact p.elim
def HX{t:m7}{f:D->D->D->AH->R Unit}(ho:DE K mg X ES o F)(hi:DE K mg X ES i G)(hs:su X t)(hd:pM K mg t f)
 (ha:∀v,assign (.Subscript o i pos) X.env v=(do
  let ov <- holding [v] (eval o X.env)
  let iv <- holding [v,ov] (eval i X.env)
  standAt pos
  holding [v,ov,iv] (setItem ov iv v)
  release [v,ov,iv] []):=by intro _;rfl):DG K mg X ES (.Subscript o i pos) (gS F G f):=
 PG.imp (Gh ho hi hs ha) λv σ H Q q_=>q_.el λρ h ae d w re rd p=>
  ⟨ρ,h,ae,w,re,p.bind.imp λdo_ h1 ρ1 H1 l1 w1 p1 o' ro=>⟨ρ1,h1,ae,w1,re.mono l1,p1.bind.imp λdi h2 ρ2 H2 l2 w2 p2 i' ri=>
   hd ρ2 h2 H2 do_ di d o' i' v _ _ w2 (ro.mono l2) ri ((rd.mono l1).mono l2) (p2.bind.imp λ_ h3 ρ3 H3 l3 w3 p3=>p3 ρ3 H3 Le.refl w3 σ (((re.mono l1).mono l2).mono l3))⟩⟩
end
def cutD(xs:List D)(lo hi:Option Int):List D:=(xs.drop (HT.sIx xs.length 0 lo)).take (HT.sIx xs.length xs.length hi-HT.sIx xs.length 0 lo)
abbrev MO:=AE->AH->R (Option Int)
def wD:MO:=λ_ h=>.ok none h
def xR(F:ME):MO:=λae h=>(F ae h).bind λd h1=>match d with
 |.int i=>.ok (some i) h1
 |_=>.stuck
def gSl(x:D)(lo hi:Option Int)(h:AH):R D:=match x with
 |.tup xs=>if HT.sIx xs.length 0 lo=0/\HT.sIx xs.length xs.length hi=xs.length then .stuck else .ok (.tup (cutD xs lo hi)) h
 |.ref n=>match bD h n with
  |some xs=>.ok (.ref h.length) (h++[.lst (cutD xs lo hi)])
  |none=>.stuck
 |.kl xs=>.ok (.ref h.length) (h++[.lst (cutD xs lo hi)])
 |_=>.stuck
def eSl(F:ME)(L U:MO):ME:=λae h=>(F ae h).bind λx h1=>(L ae h1).bind λlo h2=>(U ae h2).bind λhi h3=>gSl x lo hi h3
section
variable{K:W.Frag}{mg:Str->Option Value}{X:Cx}{ES:St->XK}{e:Expr}{F:ME}{L U:MO}{lo hi:Option Expr}{pos p2:Pos}
def rdO(K:W.Frag)(mg:Str->Option Value)(ES:St->XK)(F:MO):TO:=λσ H Q=>∃ρ h ae,Wd K mg ρ h H/\RelE K mg ρ H ae σ/\PostG K mg ρ H (ES σ) (λo _ ρ' H'=>Q o H') (F ae h)
def DO(K:W.Frag)(mg:Str->Option Value)(X:Cx)(ES:St->XK)(e:Option Expr)(F:MO):Prop:=PO X e (rdO K mg ES F)
def EN:DO K mg X ES none wD:=PO.imp Fi λσ H Q ⟨ρ,h,ae,w,re,p⟩=>p ρ H Le.refl w
def Fw(he:DE K mg X ES e F):DO K mg X ES (some e) (xR F):=PO.imp (Ec he) λσ H Q ⟨ρ,h,ae,w,re,p⟩=>⟨ρ,h,ae,w,re,p.bind.imp λd h1 ρ1 H1 l1 w1 p1 v rv=>by
 split at p1
 ·cases rv;exact⟨_,rfl,p1 ρ1 H1 Le.refl w1⟩
 ·exact p1.elim⟩
def pP{ρ:List Addr}{H:Hp}{xs:List D}{vs:List V}(r:RelDs K mg ρ H xs vs)(lo hi:Option Int):RelDs K mg ρ H (cutD xs lo hi) (lO vs lo hi):=by
 unfold cutD lO
 rw[<- r.len]
 exact (r.drop _).take _
def slK(h:X.K=K):SlR X (λx lo hi H Q=>rSlL K x lo hi H Q\/rSlT K x lo hi H Q):=by subst h;exact Dk.or Hi
def AQ(hK:X.K=K)(he:DE K mg X ES e F)(hl:DO K mg X ES lo L)(hu:DO K mg X ES hi U):DE K mg X ES (.Subscript e (.Slice lo hi none p2) pos) (eSl F L U):=
 PE.imp (
  Cu (slK hK) he hl hu) λσ H Q q_=>q_.el λρ h ae w re p=>⟨ρ,h,ae,w,re,p.bind.imp λd h1 ρ1 H1 l1 w1 p1 x rx=>⟨ρ1,h1,ae,w1,re.mono l1,p1.bind.imp λlo h2 ρ2 H2 l2 w2 p2=>⟨ρ2,h2,ae,w2,(re.mono l1).mono l2,p2.bind.imp λhi h3 ρ3 H3 l3 w3 p3=>by
  have rx3:=(rx.mono l2).mono l3
  unfold gSl at p3
  split at p3
  ·split at p3
   ·exact p3.elim
   ·rename_i hn
    cases rx3 with
    |tup q rs=>exact .inr ⟨_,_,rfl,q,by rw[<- rs.len];exact hn,λl hl=>ky w3 (pP rs lo hi) hl p3⟩
  ·split at p3
   ·rename_i xs e1
    cases rx3 with
    |
     ref ea=>
     obtain⟨vs,q,rs⟩:=df w3 ea e1
     exact .inl ⟨_,_,rfl,q,λl hl=>fL w3 (pP rs lo hi) hl p3⟩
   ·exact p3.elim
  ·cases rx3 with
   |kl q rs=>exact .inl ⟨_,_,rfl,.inr q,λl hl=>fL w3 (pP rs lo hi) hl p3⟩
  ·exact p3.elim⟩⟩⟩
end
def ur(d:D)(h:AH):R Bool:=match d with
 |.non=>.ok false h
 |.bl b=>.ok b h
 |.int i=>.ok (i != 0) h
 |d=>match dG h d with
  |some xs=>.ok (!xs.isEmpty) h
  |none=>.stuck
def tTr(F:ME):MT:=λae h=>(F ae h).bind ur
section
variable{K:W.Frag}{mg:Str->Option Value}{X:Cx}{ES:St->XK}{a:Expr}{F:ME}
def AZ(hK:X.K=K)(ha:DE K mg X ES a F)(he:∀ci,isTrue a X.env ci=(do let v <- ci;standAt a.pos;holding [v] (truthy v)):=by intro _;rfl):DT K mg X ES a (tTr F):=by
 subst hK
 refine PT.imp (Cc ha he) λσ H Q q_=>q_.el λρ h ae w re p=>⟨ρ,h,ae,w,re,p.bind.imp λd h1 ρ1 H1 l1 w1 p1 x rx=>?_⟩
 have items:∀{xs:List D},dG h1 d=some xs->Q (!xs.isEmpty) H1->∃k,B1 X.K x H1 k/\Q k H1:=λ{xs} e q=>by
  obtain⟨pa,vs,rfl,hq,rs⟩:=eG w1 rx e
  have ee:xs.isEmpty=vs.isEmpty:=by cases rs <;> rfl
  rw[ee] at q
  rcases hq with hq |hq
  ·exact⟨_,.inl ⟨vs,hq,rfl⟩,q⟩
  ·exact⟨_,.inr (.inl ⟨vs,hq,rfl⟩),q⟩
 unfold ur at p1
 split at p1
 ·cases rx;exact⟨_,rfl,p1 ρ1 H1 Le.refl w1⟩
 ·cases rx;exact⟨_,rfl,p1 ρ1 H1 Le.refl w1⟩
 ·cases rx;exact⟨_,rfl,p1 ρ1 H1 Le.refl w1⟩
 ·split at p1
  ·rename_i xs e1;exact items e1 (p1 ρ1 H1 Le.refl w1)
  ·exact p1.elim
end
end L2
namespace L2
open PySem PySem.Spec PyProof.Rows
section
variable{X:Cx}{pins pins2 pn:List (Addr×Obj)}{σ:St}{H:Hp}{s:Shared}{xe:Value->Shared->Prop}
end
section
variable{K:W.Frag}{mg:Str->Option Value}{X:Cx}{ES:St->XK}{x n:Str}{C:Addr}{i:Nat}{body suite:List Stmt}{b₀:Stmt}{B U:MS}{np hpos pos:Pos}{mro:List Str}
end
structure Script(h:AH)(d:D)(ns:List Int):Prop where
 form:(∃n,d=.ref n/\h[n]?=some (.fz (ns.map D.int)))\/d=.kl (ns.map D.int)
theorem k8{K:W.Frag}{mg:Str->Option Value}{ρ:List Addr}{H:Hp}:∀(ns:List Int),RelDs K mg ρ H (ns.map D.int) (ns.map V.int)
 | []=>.nil
 |_::r=>.cons (.int _) (k8 r)
def Ah{P:Program}{w:World}{K:W.Frag}{mg:Str->Option Value}{base:Heap}{x y:Str}{k:Nat}{S:Fn}(C:Callee P w K mg base x k [y] (spD K mg 1 S))
 (hS:∀(d:D) (h:AH) (ns:List Int),ns.length<=63->Script h d ns->∃h',S [d] h=.ok (.bl true) h'):Callee P w K mg base x k [y] (λvs H Q _=>∃(a:Addr) (ns:List Int),vs=[.ref a]/\pA H/\SqL K H a (ns.map V.int)/\ns.length<=63/\∀H',Q (.bl true) H'):=by
 refine C.imp λvs H Q E ⟨a,ns,e,hO,hq,hl,q⟩=>?_
 subst e
 rcases hq with (hq |⟨o,hq⟩) |hq
 ·rcases hO a with z |⟨o,xs,z⟩ <;> rw[hq] at z <;> cases z
 ·obtain⟨h',e⟩:=hS (.ref 0) [.fz (ns.map D.int)] ns hl ⟨.inl ⟨0,rfl,rfl⟩⟩
  refine⟨[a],[.fz (ns.map D.int)],[.ref 0],⟨rfl,by simp,λn b ob e1 e2=>?_⟩,.cons (.ref rfl) .nil,rfl,?_⟩
  ·cases n with
   |zero=>cases e1;cases e2;exact⟨o,_,hq,k8 ns⟩
   |succ n=>simp at e1
  ·rw[e]
   exact λρ' H' l' w' v rv=>by cases rv;exact q H'
 ·obtain⟨h',e⟩:=hS (.kl (ns.map D.int)) [] ns hl ⟨.inr rfl⟩
  refine⟨[],[],[.kl (ns.map D.int)],⟨rfl,by simp,λn b ob e1 e2=>by simp at e1⟩,.cons (.kl hq (k8 ns)) .nil,rfl,?_⟩
  rw[e]
  exact λρ' H' l' w' v rv=>by cases rv;exact q H'
def walk_lawD{l:W.OpenLaw}{q:Program}{loose:List Str}{XP:(Str->Option Value)->Heap->Prop}{YP:World->Heap->Prop}{d:DefRec}{K:Params->W.Frag}{x:Str}{k:Nat}(hn:l.most=some 63)(hdf:d.params.defaults=[])(hr:Room k callerA)
 (hY:∀(w:World) (h:Heap),YP w h->(K w.params).In h)
 (F:∀(w:World) (mg:Str->Option Value) (h:Heap),(K w.params).In h->h.Ns mainGlobals mg->∀base:Heap,(K w.params).In base->base.Ns mainGlobals mg->Callee l.prog w (K w.params) mg base d.name k [x] (λvs H Q _=>∃(a:Addr) (ns:List Int),vs=[.ref a]/\pA H/\SqL (K w.params) H a (ns.map V.int)/\ns.length<=63/\∀H',Q (.bl true) H'))
 (D:∀(w:World) (mg:Str->Option Value) (h:Heap),(K w.params).In h->h.Ns mainGlobals mg->∃st,Def (K w.params) mg d.name st/\∀(kV doc pm:Value) (an:Option Addr) (cdv ct:Value) (us:List Value),us.length=1->bindArgs (W.fnOf d.name d.name (d7 st) (cn st) (az st) .none kV doc pm an cdv ct) ⟨us,[]⟩=pure ([x].zip us)):
 W.WalkO q loose XP YP l.row.toRowW d [] (λf vs=>PySem.call f vs):=by
 refine L2.walk_of (n:=63) (k:=k) (x:=x) (CX:=λw=>CX1 l.prog w) (sp:=λw=>λvs H Q _=>∃(a:Addr) (ns:List Int),vs=[.ref a]/\pA H/\SqL (K w.params) H a (ns.map V.int)/\ns.length<=63/\∀H',Q (.bl true) H') hn (by decide) hdf hr hY (λw mg fa h KX G hmg=>?_) (λ_ _ a ns hl hO hS=>⟨a,ns,rfl,hO,hS,hl,λ_=>rfl⟩) λ_ _ _ _ _ ⟨_,_,_,_,_,_,_,_,_,z⟩=>z
 obtain⟨st,Dd,hbind⟩:=D w mg h KX G
 obtain⟨f,fd,Ff,m⟩:=Dd.ex
 have e:=hmg.symm.trans m
 cases e
 obtain⟨oc,od,kV,doc,pm,an,cdv,ct,osl,rfl,lk,hcd⟩:=Ff.ex
 refine⟨_,λs u=>.of_eq (hbind kV doc pm an cdv ct [u] rfl),λbase kb nb=>?_⟩
 obtain⟨f',fd',F',m',kp',b',oc',od',osl',lk'⟩:=(F w mg h KX G base kb nb).ex
 rw[m] at m'
 cases m'
 rw[lk] at lk'
 cases lk'
 exact F'
end L2
namespace L2
open PySem PySem.Spec PyProof.Rows
mutual
inductive Bel(N:Nat):D->Prop where
 |non:Bel N .non
 |bl (b:Bool):Bel N (.bl b)
 |int (i:Int):Bel N (.int i)
 |str (x:Str):Bel N (.str x)
 |ty (n:String):Bel N (.ty n)
 |glb (x:Str):Bel N (.glb x)
 |exc (x:Str):Bel N (.exc x)
 |tup {ds:List D} (r:Bels N ds):Bel N (.tup ds)
 |ref {n:Nat} (h:n<N):Bel N (.ref n)
 |kl {ds:List D} (r:Bels N ds):Bel N (.kl ds)
inductive Bels(N:Nat):List D->Prop where
 |nil:Bels N []
 |cons {d:D}{ds:List D} (r:Bel N d) (rr:Bels N ds):Bels N (d::ds)
end
def B7(N:Nat):Ob->Prop
 |.lst xs=>Bels N xs
 |.fz xs=>Bels N xs
 |.dct kvs=>Bels N (kvs.map (·.2))
 |_=>True
section
variable{K:W.Frag}{mg:Str->Option Value}{ρ ρ1 ρ2:List Addr}{H H1:Hp}{h:AH}
end
inductive Rf(h:AH):R D->R D->Prop where
 |stuck (r:R D):Rf h r .stuck
 |eq (r:R D):Rf h r r
 |val {d:D}{h2 g:AH} (hl:h2.length=h.length) (ho:∀(n:Nat) (o:Ob),h2[n]?=some o->h[n]?=some o\/B7 h.length o) (hd:Bel h.length d):Rf h (.ok d (h2++g)) (.ok d h2)
 |exc {c:Str}{h2 g:AH} (hl:h2.length=h.length) (ho:∀(n:Nat) (o:Ob),h2[n]?=some o->h[n]?=some o\/B7 h.length o):Rf h (.exc c (h2++g)) (.exc c h2)
 |lst {m:Nat}{h1 h2:AH}{ys:List D} (hl:h2.length=h.length) (ho:∀(n:Nat) (o:Ob),h2[n]?=some o->h[n]?=some o\/B7 h.length o) (hs:∀(n:Nat) (o:Ob),h2[n]?=some o->h1[n]?=some o) (em:h1[m]?=some (.lst ys)) (hm:h.length<=m) (hy:Bels h.length ys):Rf h (.ok (.ref m) h1) (.ok (.ref h.length) (h2++[.lst ys]))
section
variable{K:W.Frag}{mg:Str->Option Value}{ρ:List Addr}{H:Hp}{h:AH}
end
end L2
namespace L2
open PySem PySem.Spec PyProof.Rows
def xo:D->D->AH->R D:=gOr (gI λi j=>.int (i+j)) mZ
def AM:D->D->AH->R D:=gI λi j=>.int (i-j)
def CMulA(i j:Int):Prop:=Dc i j\/CMul i j
def AF:D->D->AH->R D:=gIc CMulA λi j=>.int (i*j)
def BR:D->D->AH->R D:=gIc CDivB λi j=>.int (i.fdiv j)
def Al:D->D->AH->R D:=gIc (λ_ j=>j≠0) λi j=>.int (i.fmod j)
def Ce:D->D->AH->R D:=gIc iG λi j=>.int (i^j.toNat)
def A8:D->D->AH->R D:=gIc iG λi j=>.int (i*2^j.toNat)
def gLt:D->D->AH->R D:=gI λi j=>.bl (decide (i<j))
def gGt:D->D->AH->R D:=gI λi j=>.bl (decide (j<i))
def gGe:D->D->AH->R D:=gI λi j=>.bl (decide (j<=i))
def xO:D->AH->R D:=λx h=>match x with
 |.int i=>.ok (.int (-i)) h
 |_=>.stuck
def mD(n:Nat)(S:Fn)(A:MA):ME:=eFn (λds h=>if ds.length=n then S ds h else .stuck) A
section
variable{K:W.Frag}{mg:Str->Option Value}{X:Cx}
def aY(h:X.K=K):OpR X (binaryOp .Add) (λx y H Q=>rI0 (λi j=>.int (i+j)) x y H Q\/(qc x y H Q\/(ma K x y H Q\/mM K x y H Q))):=F4.or (catK h)
def Hn:OpD K mg (λx y H Q=>rI0 (λi j=>.int (i+j)) x y H Q\/(qc x y H Q\/(ma K x y H Q\/mM K x y H Q))) xo:=(lX λ_ _ _ _=>.int _).or EO
def JA:OpD K mg (rI0 λi j=>.int (i-j)) AM:=lX λ_ _ _ _=>.int _
def bJ:OpR X (binaryOp .Mult) (rI CMulA λi j=>.int (i*j)):=by
 intro pins s σ H x y v u Q I rx ry h
 obtain⟨i,j,e1,e2,hc,q⟩:=h
 rcases hc with hc |hc
 ·exact Ei pins s σ H x y v u Q I rx ry ⟨i,j,e1,e2,hc,q⟩
 ·exact Jr pins s σ H x y v u Q I rx ry ⟨i,j,e1,e2,hc,q⟩
def HW:OpD K mg (rI CMulA λi j=>.int (i*j)) AF:=oI λ_ _ _ _=>.int _
def F5:OpD K mg (rI CDivB λi j=>.int (i.fdiv j)) BR:=oI λ_ _ _ _=>.int _
def Jn:OpD K mg (rI (λ_ j=>j≠0) λi j=>.int (i.fmod j)) Al:=oI λ_ _ _ _=>.int _
def FT:OpD K mg (rI iG λi j=>.int (i^j.toNat)) Ce:=oI λ_ _ _ _=>.int _
def Iw:OpD K mg (rI iG λi j=>.int (i*2^j.toNat)) A8:=oI λ_ _ _ _=>.int _
def KU:OpD K mg (rI0 λi j=>.bl (decide (i<j))) gLt:=lX λ_ _ _ _=>.bl _
def KC:OpD K mg (rI0 λi j=>.bl (decide (j<i))) gGt:=lX λ_ _ _ _=>.bl _
def Mb:OpD K mg (rI0 λi j=>.bl (decide (j<=i))) gGe:=lX λ_ _ _ _=>.bl _
def Je:UnD K mg (rU λi=>.int (-i)) xO:=λρ h H dx x Q E w rx p=>by
 unfold xO at p
 split at p
 ·cases rx;exact⟨_,rfl,aP w (.int _) p⟩
 ·exact p.elim
def DC:IpD K mg (ipI λi j=>i+j) (gI λi j=>.int (i+j)):=λρ h H dx dy x y Q E w rx ry p=>by
 unfold gI at p
 split at p
 ·cases rx;cases ry;exact⟨_,_,rfl,rfl,aP w (.int _) p⟩
 ·exact p.elim
variable{ES:St->XK}{e:Expr}{es:List Expr}{A:MA}{pos:Pos}
def BQ{x:Str}{p:Pos}{k n:Nat}{ps:List Str}{S:Fn}(C:Callee X.prog X.w X.K X.mg X.base x k ps (spD K mg n S))(hr:Room k X.A)(hg:Gl X x)(hx:oW X ES)(ha:DA K mg X ES (e::es) A)
 (hdb:(x==("__debug__" : Str))=false:=by decide) (he:starEach (e::es) X.env=(false,eval e X.env)::starEach es X.env:=by rfl) (hpl:(backTo pos (starEach es X.env)).any (·.1)=false:=by rfl):
 DE K mg X ES (.Call (.Name x p) (e::es) [] pos) (mD n S A):=Dq C hr hg hx ha hdb he hpl
end
section
variable{ae:AE}{h:AH}
@[simp] theorem gF{α β:Type}(a:α)(h:AH)(f:α->AH->R β):(R.ok a h).bind f=f a h:=rfl
end
end L2
namespace L2
open PySem PySem.Spec PyProof.Rows
def js{pd:PyData}(h1:pd.canLay0=true)(h2:pd.depth<=64):SeqAt.shaped pd=true:=by
 unfold SeqAt.shaped
 rw[h1,OH h2];rfl
def Sm(n:Nat)(x:Int):Prop:=x.natAbs<2^n
def Sm.mono{n m:Nat}{x:Int}(h:Sm n x)(l:n<=m):Sm m x:=Ot h (Qe (by omega) l)
def Sm.mul{n m:Nat}{x y:Int}(h:Sm n x)(k:Sm m y):Sm (n+m) (x*y):=by
 unfold Sm at *
 rw[O9,Qj]
 exact Nat.mul_lt_mul'' h k
def Sm.bits{n:Nat}{x:Int}(h:Sm n x):Builtin.Int.intBits x<=n:=intBits_le_iff.mpr h
def Sm.of_le{n:Nat}{x y:Int}(h:Sm n y)(l:x.natAbs<=y.natAbs):Sm n x:=P0 l h
def CMulA.of{n m:Nat}{x y:Int}(h:Sm n x)(k:Sm m y)(hn:n<=100000)(hm:m<=100000):CMulA x y:=.inl ⟨Oy h.bits hn,Oy k.bits hm⟩
def CMulA.left{x y:Int}(h:-(2^64)<x)(k:x<2^64):CMulA x y:=.inr (.inl ⟨h,k⟩)
def CMulA.right{x y:Int}(h:-(2^64)<y)(k:y<2^64):CMulA x y:=.inr (.inr ⟨h,k⟩)
def CDivB.of{x y:Int}(h0:y≠0)(h:Sm 8000 y):CDivB x y:=⟨h0,h.bits⟩
structure Sz(n:Nat)(q:Rat):Prop where
 top:Sm n q.num
 bot:Sm n (q.den:Int)
def zO{a b:Int}(hb:b≠0):((a:Rat)/(b:Rat)).num*b=a*((a:Rat)/(b:Rat)).den:=by
 have h2:=Rat.num_divInt_den ((a:Rat)/(b:Rat))
 have h3:Rat.divInt ((a:Rat)/(b:Rat)).num (((a:Rat)/(b:Rat)).den:Int)=Rat.divInt a b:=by rw[h2,Rat.divInt_eq_div]
 exact (Rat.divInt_eq_divInt_iff (by have:=((a:Rat)/(b:Rat)).den_nz;omega) hb).mp h3
def v3(q:Rat):Int.gcd q.num q.den=1:=by
 have:=q.reduced
 exact this
def n8{a b:Int}(hb:b≠0):Fr.T a b=((a:Rat)/(b:Rat)).num/\Fr.B a b=(((a:Rat)/(b:Rat)).den:Int):=by
 refine Fr.uniq (Fr.B_pos hb) (by have:=((a:Rat)/(b:Rat)).den_pos;omega) (Fr.low hb) (v3 _) ?_
 have h1:=Fr.cross (a:=a) hb
 have h2:=zO (a:=a) hb
 generalize ((a:Rat)/(b:Rat)).num=n at *
 generalize (((a:Rat)/(b:Rat)).den:Int)=d at *
 generalize Fr.T a b=x at *
 generalize Fr.B a b=y at *
 have h3:(x*d)*b=(n*y)*b:=by
  calc x*d*b=(x*b)*d:=by rw[Qm]
   _=a*y*d:=by rw[h1]
   _=(a*d)*y:=by rw[Qm]
   _=n*b*y:=by rw[h2]
   _=n*y*b:=by rw[Qm]
 exact Qh hb h3
def wo{a b:Int}(hb:b≠0):((a:Rat)/(b:Rat)).num.natAbs<=a.natAbs:=by
 have h:=(n8 (a:=a) hb).1
 rw[<- h]
 have h1:=Fr.T_mul (a:=a) hb
 have h2:=Fr.dv_ne (a:=a) hb
 have h3:(Fr.T a b).natAbs*(Fr.dv a b).natAbs=a.natAbs:=by rw[<- O9,h1]
 have h4:1<=(Fr.dv a b).natAbs:=by omega
 calc (Fr.T a b).natAbs=(Fr.T a b).natAbs*1:=by omega
  _<=(Fr.T a b).natAbs*(Fr.dv a b).natAbs:=PU _ h4
  _=a.natAbs:=h3
def wX{a b:Int}(hb:b≠0):((((a:Rat)/(b:Rat)).den:Int)).natAbs<=b.natAbs:=by
 have h:=(n8 (a:=a) hb).2
 rw[<- h]
 have h1:=Fr.B_mul (a:=a) hb
 have h2:=Fr.dv_ne (a:=a) hb
 have h3:(Fr.B a b).natAbs*(Fr.dv a b).natAbs=b.natAbs:=by rw[<- O9,h1]
 have h4:1<=(Fr.dv a b).natAbs:=by omega
 calc (Fr.B a b).natAbs=(Fr.B a b).natAbs*1:=by omega
  _<=(Fr.B a b).natAbs*(Fr.dv a b).natAbs:=PU _ h4
  _=b.natAbs:=h3
def Sz.div{n m:Nat}{a b:Int}(hb:b≠0)(ha:Sm n a)(hb':Sm m b)(k:Nat)(h1:n<=k)(h2:m<=k):Sz k ((a:Rat)/(b:Rat)):=
 ⟨(ha.of_le (wo hb)).mono h1,(hb'.of_le (wX hb)).mono h2⟩
def fE(q:Rat):(q.den:Int)≠0:=by have:=q.den_nz;omega
def ke(q:Rat):q=(q.num:Rat)/((q.den:Int):Rat):=by
 have:=Rat.num_divInt_den q
 rw[Rat.divInt_eq_div] at this
 exact this.symm
def oB{b:Int}(h:b≠0):(b:Rat)≠0:=by
 intro z
 exact h (by exact_mod_cast z)
def vM(p q:Rat):p+q=((p.num*q.den+q.num*p.den:Int):Rat)/((p.den*q.den:Int):Rat):=by
 have h1:=oB (fE p)
 have h2:=oB (fE q)
 conv=>lhs;rw[ke p,ke q]
 simp only[Rat.intCast_add,O5]
 grind
def v9(p q:Rat):p*q=((p.num*q.num:Int):Rat)/((p.den*q.den:Int):Rat):=by
 have h1:=oB (fE p)
 have h2:=oB (fE q)
 conv=>lhs;rw[ke p,ke q]
 simp only[O5]
 grind
def Sz.mul{n m:Nat}{p q:Rat}(hp:Sz n p)(hq:Sz m q):Sz (n+m) (p*q):=by
 rw[v9]
 exact Sz.div (by have:=fE p;have:=fE q;exact QH ‹_› ‹_›) (hp.top.mul hq.top) (hp.bot.mul hq.bot) _ (by omega) (by omega)
def vA{q:Rat}:0<q.num ↔ 0<q:=by
 have h1:=Rat.num_nonneg (q:=q)
 have h2:=Rat.num_eq_zero (q:=q)
 constructor
 ·intro h
  refine Rat.lt_of_le_of_ne (h1.mp (by omega)) λz=>?_
  have:=h2.mpr z.symm
  omega
 ·intro h
  have h3:=h1.mpr (Rat.le_of_lt h)
  have h4:q.num≠0:=λz=>(Rat.ne_of_lt h) (h2.mp z).symm
  omega
section
variable{α β:Type}(ae:AE)(h:AH)
end
theorem ou:∀{ws:List Int},(∀w∈ws,0<=w)->0<=ws.sum
 | [],_=>Int.le_refl _
 |
  w::ws,h=>by
  have:=h w (Od ..)
  have:=ou (ws:=ws) λv hv=>h v (N9 _ hv)
  rw[OM];omega
def Vl(mg:Str->Option Value)(c:Cl)(u:Value):Prop:=match c with
 |.b n=>u=.type n
 |.o x=>mg x=some u
def Kv{K:W.Frag}{mg:Str->Option Value}{c d:Cl}{tu cu t v:Value}{b:Bool}(e:W.kitOne K tu cu=some b)(hc:Vl mg c tu)(hd:Vl mg d cu)(h1:ClV mg c t)(h2:ClV mg d v):W.kitOne K t v=some b:=by
 have f:∀{c:Cl}{u t:Value},Vl mg c u->ClV mg c t->u=t:=by
  intro c u t h1 h2
  cases c with
  |b n=>exact (show u=_ from h1).trans (show t=_ from h2).symm
  |
   o x=>
   obtain⟨a,rfl,m⟩:=h2
   have h1':mg x=some u:=h1
   rw[m] at h1'
   exact (Oz h1').symm
 rw[<- f hc h1,<- f hd h2]
 exact e
def Bq{K:W.Frag}{mg:Str->Option Value}:KitsOk K mg []:=⟨λp hp=>(nomatch hp),λp hp=>(nomatch hp)⟩
def aG{K:W.Frag}{mg:Str->Option Value}{c d:Cl}{tu cu:Value}{b:Bool}{kt:gk}(e:W.kitOne K tu cu=some b)(hc:Vl mg c tu)(hd:Vl mg d cu)(hx:∀x C,c=.o x->mg x=some (.ref C)->XCls K C)(r:KitsOk K mg kt):KitsOk K mg ((c,d,b)::kt):=
 ⟨λp hp t v h1 h2=>by
  rcases Ow.mp hp with rfl |hp
  ·exact Kv e hc hd h1 h2
  ·exact r.one p hp t v h1 h2,λp hp x C e' m=>by
  rcases Ow.mp hp with rfl |hp
  ·exact hx x C e' m
  ·exact r.xc p hp x C e' m⟩
def bg{K:W.Frag}{mg:Str->Option Value}{n:String}:∀x C,Cl.b n=.o x->mg x=some (.ref C)->XCls K C:=λ_ _ e=>nomatch e
def Hl{K:W.Frag}{h:Heap}{mg:Str->Option Value}{x:Str}{i:Int}{t:Tok}(X:K.In h)(G:h.Ns mainGlobals mg)(e:W.nsIn K mainGlobals x=some (some (.int i t))):GC K mg x (.int i):=
 ⟨_,.int i,QE X G e,⟨t,rfl⟩,λ_ _=>.int i⟩
def Ic{K:W.Frag}{h:Heap}{mg:Str->Option Value}{x:Str}{a:Addr}{dd:Option Addr}{its:Array Value}{n:Nat}{sl:Array (Option Value)}{vs:List V}{ds:List D}(X:K.In h)(G:h.Ns mainGlobals mg)(e:W.nsIn K mainGlobals x=some (some (.ref a)))
 (l:K.lookup a=some ⟨.type "tuple",dd,.seq its n,sl⟩) (hs:its.size<=sizeLine) (hv:Vals vs its.toList) (hr:∀ρ H,RelDs K mg ρ H ds vs):GC K mg x (.tup ds):=
 ⟨_,.ref a,QE X G e,rfl,λρ H=>.tup (.inr ⟨_,its,n,l,rfl,rfl,hs,hv⟩) (hr ρ H)⟩
end L2
namespace L2
open PySem PySem.Spec PyProof.Rows
def AJ{P:Program}{w:World}{H:Hp}(h:Heap)(hb:sysModules<h.objs.size):ObjOk P w H (h.push { cls:=.type "dict",data:=.dict #[] }) h.objs.size (.dK []):=
 ⟨OK _,Ov.mpr (Ne.symm (OI hb)),[],.nil,Heap.DictOf.new h⟩
def Inv.big{X:Cx}{pins:List (Addr×Obj)}{σ:St}{H:Hp}{s:Shared}(I:Inv X pins σ H s):sysModules<s.heap.objs.size:=by
 have h:mainGlobals<s.heap.objs.size:=(I.mod.glob.keeps I.bk).lt
 exact Nat.lt_trans (by decide) h
def Ji:TE:=λ_ H Q=>∀p,H p=none->Q (.ref p) (upd H p (.dK []))
def eD0:ME:=λ_ h=>.ok (.ref h.length) (h++[.dct []])
section
variable{K:W.Frag}{mg:Str->Option Value}{X:Cx}{ES:St->XK}{pos:Pos}
def BW:PE X (.Dict [] [] pos) Ji:=λpins s σ H Q I h=>
 wpAny_Dict_empty ⟨.ref s.heap.objs.size,_,I.laid (a:=s.heap.objs.size) (o:=.dK []) (t':=s.toks) (λ_ _ q=>Og _ q) (Oe _) (AJ s.heap I.big),rfl,h _ (I.hok.fresh (Oe _))⟩
def JT:DE K mg X ES (.Dict [] [] pos) eD0:=PE.imp BW λσ H Q ⟨ρ,h,ae,w,re,q⟩ p hp=>by
 have l:Le ρ H (ρ++[p]) (upd H p (.dK [])):=(eF hp).trans mr
 refine q (ρ++[p]) _ l (w.alloc hp ⟨[],cB,rfl,.nil⟩) _ (.ref ?_)
 rw[<- w.len,OB (Oe _),Py]
 rfl
end
end L2
namespace L2
open PySem PySem.Spec PyProof.Rows
variable{K:W.Frag}{mg:Str->Option Value}
end L2
namespace L2
open PySem PySem.Spec PyProof.Rows
section
variable{K:W.Frag}{mg:Str->Option Value}{X:Cx}{ES:St->XK}{e:Expr}{es:List Expr}{A:MA}{pos:Pos}
end
end L2
namespace L2
open PySem PySem.Spec PyProof.Rows
section
variable{K:W.Frag}{mg:Str->Option Value}{X:Cx}{ES:St->XK}{e a b c o lo hi:Expr}{F G L U:ME}{pos p2:Pos}{ρ:List Addr}{H:Hp}{h:AH}{ae:AE}
end
end L2
namespace L2
open PySem PySem.Spec PyProof.Rows
section
variable{κ:Type}[DecidableEq κ]
def gz(kvs:List (κ×V))(k:κ):Option V:=(kvs.find? λkv=>decide (kv.1=k)).map (·.2)
def fR(kvs:List (κ×V))(k:κ)(v:V):List (κ×V):=
 if (kvs.any λkv=>decide (kv.1=k))=true then kvs.map (λkv=>if kv.1=k then (kv.1,v) else kv) else kvs++[(k,v)]
def nB{p:κ×V}{r:List (κ×V)}{k:κ}(e:p.1=k):gz (p::r) k=some p.2:=by simp [gz,OW,e]
def nC{p:κ×V}{r:List (κ×V)}{k:κ}(e:¬ p.1=k):gz (p::r) k=gz r k:=by simp [gz,OW,e]
theorem sZ(k:κ):∀kvs:List (κ×V),(kvs.any λkv=>decide (kv.1=k))=(gz kvs k).isSome
 | []=>rfl
 |
  p::r=>by
  rw[Pg]
  by_cases e:p.1=k
  ·simp only[nB e,OH e,Bool.true_or,Option.isSome_some]
  ·rw[nC e,OA e,Bool.false_or];exact sZ k r
def mU(kvs:List (κ×V))(k:κ)(v:V):(fR kvs k v).length<=kvs.length+1:=by
 unfold fR
 split
 ·rw[N8];omega
 ·rw[Oa,Oo,OC];omega
def RelO.isSome_eq{o:Option V}{u:Option Value}(r:RelO o u):o.isSome=u.isSome:=by
 cases o with
 |none=>cases u with
  |none=>rfl
  |some _=>exact (show False from r).elim
 |some _=>cases u with
  |none=>exact (show False from r).elim
  |some _=>rfl
def KV.val{kvs:List (κ×V)}{vs:List (κ×Value)}(r:KV kvs vs)(k:κ):RelO (gz kvs k) (valueAt vs k):=by
 unfold KV at r
 induction r with
 |nil=>exact True.intro
 |
  @cons p q ps qs h t ih=>
  obtain⟨h1,h2⟩:=h
  by_cases e:p.1=k
  ·have e':q.1=k:=h1.symm.trans e
   have b:valueAt (q::qs) k=some q.2:=by simp [valueAt,OW,e']
   rw[nB e,b];exact h2
  ·have e':¬ q.1=k:=λz=>e (h1.trans z)
   have b:valueAt (q::qs) k=valueAt qs k:=by simp [valueAt,OW,e']
   rw[nC e,b];exact ih
def KV.any{kvs:List (κ×V)}{vs:List (κ×Value)}(r:KV kvs vs)(k:κ):(kvs.any λkv=>decide (kv.1=k))=vs.any λkv=>decide (kv.1=k):=by
 unfold KV at r
 induction r with
 |nil=>rfl
 |cons h t ih=>rw[Pg,Pg,ih,h.1]
def KV.repl{kvs:List (κ×V)}{vs:List (κ×Value)}(r:KV kvs vs)(k:κ){y:V}{u:Value}(ry:RelV y u):
 KV (kvs.map λkv=>if kv.1=k then (kv.1,y) else kv) (vs.map λkv=>if kv.1=k then (kv.1,u) else kv):=by
 unfold KV at r ⊢
 induction r with
 |nil=>exact .nil
 |
  @cons p q ps qs h t ih=>
  rw[Of,Of]
  refine .cons ?_ ih
  obtain⟨h1,h2⟩:=h
  by_cases e:p.1=k
  ·rw[if_pos e,if_pos (h1.symm.trans e)];exact⟨h1,ry⟩
  ·rw[if_neg e,if_neg (λz=>e (h1.trans z))];exact⟨h1,h2⟩
def KV.put{kvs:List (κ×V)}{vs:List (κ×Value)}(r:KV kvs vs)(k:κ){y:V}{u:Value}(ry:RelV y u):KV (fR kvs k y) (stored vs k u):=by
 unfold fR stored
 rw[r.any k]
 by_cases e:(vs.any λkv=>decide (kv.1=k))=true
 ·rw[if_pos e,if_pos e];exact r.repl k ry
 ·rw[if_neg e,if_neg e];exact Paired.snoc r ⟨rfl,ry⟩
def KV.length{kvs:List (κ×V)}{vs:List (κ×Value)}(r:KV kvs vs):kvs.length=vs.length:=QW r
end
def xn{P:Program}{w:World}{k:Key}{u:Value}(r:RelV (kV k) u):(cM P w).is k u=true:=by
 cases k with
 |inl i=>obtain⟨t,e⟩:=(show ∃t,u=Value.int i t from r);subst e;exact vg P w i t
 |inr x=>obtain⟨t,e⟩:=(show ∃t,u=Value.str x t from r);subst e;exact u7 P w x t
theorem qP{P:Program}{w:World}:∀{ks:List Key}{us:List Value},Vals (ks.map kV) us->ItemsAre (cM P w) ks us
 | [],_,r=>by rw[OJ] at r;cases r;exact .nil
 |
  k::ks,_,r=>by
  rw[Of] at r
  cases r with
  |cons h t=>exact .cons (xn h) (qP t)
abbrev KT(H:Hp):List (List Key×V)->List (List Key×Addr×Value)->Prop:=Paired λp q=>p.1=q.1/\H q.2.1=some (.tup (p.1.map kV))/\RelV p.2 q.2.2
def KT.val{H:Hp}{kvs:List (List Key×V)}{xs:List (List Key×Addr×Value)}(r:KT H kvs xs)(k:List Key):RelO (gz kvs k) ((atKey xs k).map (·.2)):=by
 induction r with
 |nil=>exact True.intro
 |
  @cons p q ps qs h t ih=>
  obtain⟨h1,_,h2⟩:=h
  by_cases e:p.1=k
  ·have e':q.1=k:=h1.symm.trans e
   have b:atKey (q::qs) k=some q.2:=by simp [atKey,OW,e']
   rw[nB e,b];exact h2
  ·have e':¬ q.1=k:=λz=>e (h1.trans z)
   have b:atKey (q::qs) k=atKey qs k:=by simp [atKey,OW,e']
   rw[nC e,b];exact ih
def KT.repl{H:Hp}{kvs:List (List Key×V)}{xs:List (List Key×Addr×Value)}(r:KT H kvs xs)(k:List Key){y:V}{u:Value}(ry:RelV y u):
 KT H (kvs.map λkv=>if kv.1=k then (kv.1,y) else kv) (xs.map (putAt k u)):=by
 induction r with
 |nil=>exact .nil
 |
  @cons p q ps qs h t ih=>
  rw[Of,Of]
  refine .cons ?_ ih
  obtain⟨h1,h2,h3⟩:=h
  unfold putAt
  by_cases e:p.1=k
  ·rw[if_pos e,if_pos (h1.symm.trans e)];exact⟨h1,h2,ry⟩
  ·rw[if_neg e,if_neg (λz=>e (h1.trans z))];exact⟨h1,h2,h3⟩
def KT.put{H:Hp}{kvs:List (List Key×V)}{xs:List (List Key×Addr×Value)}(r:KT H kvs xs)(k:List Key){b:Addr}{y:V}{u:Value}(hb:H b=some (.tup (k.map kV)))(ry:RelV y u):
 KT H (fR kvs k y) (storedH xs k b u):=by
 have e:(kvs.any λkv=>decide (kv.1=k))=(atKey xs k).isSome:=by
  rw[sZ,(r.val k).isSome_eq,Option.isSome_map]
 unfold fR storedH
 rw[e]
 by_cases q:(atKey xs k).isSome=true
 ·rw[if_pos q,if_pos q];exact r.repl k ry
 ·rw[if_neg q,if_neg q];exact Paired.snoc r ⟨rfl,hb,ry⟩
def KT.keeps{H H':Hp}{kvs:List (List Key×V)}{xs:List (List Key×Addr×Value)}(r:KT H kvs xs)(ht:∀b ys,H b=some (.tup ys)->H' b=some (.tup ys)):KT H' kvs xs:=
 Paired.mapP r λ_ _ z=>⟨z.1,ht _ _ z.2.1,z.2.2⟩
section
variable{P:Program}{w:World}{H:Hp}{h:Heap}{a:Addr}
def CC{u:HO}(ok:HOk P w H h)(e:Rd H a u):ObjOk P w H h a u:=e.ok ok
def xV{kvs:List (Key×V)}(ok:HOk P w H h)(e:Rd H a (.dK kvs)):kvs.length<=sizeLine/\(a==sysModules)=false/\∃vs,KV kvs vs/\h.DictOf (cM P w) a vs:=
 show ObjOk P w H h a (.dK kvs) from CC ok e
def Kw{kvs:List (Key×V)}(ok:HOk P w H h)(e:H a=some (.dK kvs)):kvs.length<=sizeLine/\(a==sysModules)=false/\∃vs,KV kvs vs/\h.DictOf (cM P w) a vs:=xV ok (.inl e)
def uT{ks:List Key}(ok:HOk P w H h)(e:H a=some (.tup (ks.map kV))):(tupleKind (cM P w)).is h ks a:=by
 obtain⟨_,its,r,o,h1,h2,n,h3⟩:=(show ObjOk P w H h a (.tup (ks.map kV)) from ok a _ e)
 exact⟨o,its.toArray,n,h1,h2,h3,by simpa using qP r⟩
def xy{kvs:List (List Key×V)}(ok:HOk P w H h)(e:Rd H a (.dT kvs)):kvs.length<=sizeLine/\(a==sysModules)=false/\
 ∃xs,KT H kvs xs/\h.DictOfH (tupleKind (cM P w)) a xs:=by
 obtain⟨z,y,xs,r,o,es,ep,h1,h2,h3,h4,h5⟩:=(show ObjOk P w H h a (.dT kvs) from CC ok e)
 refine⟨z,y,xs,r,o,es,ep,h1,h2,h3,h4,λx hx=>?_,h5⟩
 have all:∀{l:List (List Key×V)}{m:List (List Key×Addr×Value)},KT H l m->∀x∈m,(tupleKind (cM P w)).is h x.1 x.2.1:=by
  intro l m q
  induction q with
  |nil=>intro x hx;exact nomatch hx
  |
   @cons p q ps qs hq t ih=>
   intro x hx
   rcases Ow.mp hx with e |hx
   ·subst e
    exact uT ok (by rw[<- hq.1];exact hq.2.1)
   ·exact ih x hx
 exact all r x hx
def Md{kvs:List (List Key×V)}(ok:HOk P w H h)(e:H a=some (.dT kvs)):kvs.length<=sizeLine/\(a==sysModules)=false/\
 ∃xs,KT H kvs xs/\h.DictOfH (tupleKind (cM P w)) a xs:=xy ok (.inl e)
end
def DGet(H:Hp)(a:Addr)(y:V)(r:Option V):Prop:=
 (∃kvs k,Rd H a (.dK kvs)/\y=kV k/\r=gz kvs k)\/∃kvs k b,Rd H a (.dT kvs)/\y=.ref b/\H b=some (.tup (k.map kV))/\r=gz kvs k
def DPut(H:Hp)(a:Addr)(y v:V)(H':Hp):Prop:=
 (∃kvs k,H a=some (.dK kvs)/\y=kV k/\kvs.length<sizeLine/\H'=upd H a (.dK (fR kvs k v)))\/
 ∃kvs k b,H a=some (.dT kvs)/\y=.ref b/\H b=some (.tup (k.map kV))/\kvs.length<sizeLine/\H'=upd H a (.dT (fR kvs k v))
def DGet.k{H:Hp}{a:Addr}{kvs:List (Key×V)}{k:Key}(e:H a=some (.dK kvs)):DGet H a (kV k) (gz kvs k):=.inl ⟨kvs,k,.inl e,rfl,rfl⟩
def DPut.k{H:Hp}{a:Addr}{kvs:List (Key×V)}{k:Key}{v:V}(e:H a=some (.dK kvs))(hl:kvs.length<sizeLine):DPut H a (kV k) v (upd H a (.dK (fR kvs k v))):=.inl ⟨kvs,k,e,rfl,hl,rfl⟩
section
variable{X:Cx}{pins:List (Addr×Obj)}{σ:St}{H:Hp}{s:Shared}{a:Addr}{y v:V}{u r:Value}{o:Option V}{A:Around}{E:Value->Shared->Prop}
def yR{Q:Value->Shared->Prop}(hu:A.units+1<cLine)(I:Inv X pins σ H s)(g:DGet H a y (some v))(ry:RelV y u)(h:∀w' s',Inv X pins σ H s'->RelV v w'->Q w' s'):
 wpAny (model X.prog X.w) A (getItem (.ref a) u) Q E s:=by
 rcases g with ⟨kvs,k,e,ey,l⟩ |⟨kvs,k,b,e,ey,eb,l⟩
 ·subst ey
  obtain⟨z,hd,vs,rel,dd⟩:=xV I.hok e
  obtain⟨w',hw,rw'⟩:=RelO.some_of (v:=v) (o:=valueAt vs k) (by rw[l];exact rel.val k)
  exact wpAny_getItem_of (xn ry) dd.mapOf hw (h w' _ (I.tok _) rw')
 ·subst ey
  cases (show u=Value.ref b from ry)
  obtain⟨z,hd,xs,rel,dd⟩:=xy I.hok e
  obtain⟨w',hw,rw'⟩:=RelO.some_of (v:=v) (o:=(atKey xs k).map (·.2)) (by rw[l];exact rel.val k)
  obtain⟨p,hp,hp2⟩:=OE.mp hw
  refine wpAny_getItem_heap (tupleKind_room_in1 hu) (uT I.hok eb) dd hp ?_
  rw[hp2]
  exact h w' _ (I.tok _) rw'
def wg{h':Heap}{t':Nat}{ob:HO}(I:Inv X pins σ H s)(mu:Mut (H a))(hs:Heap.SameBut a s.heap h')(he:∃q,h'.get? a=some q)(new:ObjOk X.prog X.w (upd H a ob) h' a ob):
 Inv X pins σ (upd H a ob) { s with heap:=h',toks:=t' }:=
 I.write (x:=a) (e:=a) mu (.inl rfl) (λb q hb z=>(hs.2 b hb).trans z) he new
def F2{P:Program}{w:World}{H':Hp}{h':Heap}{kvs:List (Key×V)}{vs:List (Key×Value)}(z:kvs.length<=sizeLine)(hd:(a==sysModules)=false)(rel:KV kvs vs)(dd:h'.DictOf (cM P w) a vs):
 ObjOk P w H' h' a (.dK kvs):=⟨z,hd,vs,rel,dd⟩
def z9{H':Hp}{Q:Unit->Shared->Prop}(hu:A.units+1<cLine)(I:Inv X pins σ H s)(g:DPut H a y v H')(ry:RelV y u)(rv:RelV v r)(h:∀s',Inv X pins σ H' s'->Q () s'):
 wpAny (model X.prog X.w) A (setItem (.ref a) u r) Q E s:=by
 rcases g with ⟨kvs,k,e,ey,l,eH⟩ |⟨kvs,k,b,e,ey,eb,l,eH⟩
 ·subst ey eH
  obtain⟨z,hd,vs,rel,dd⟩:=Kw I.hok e
  have hz:vs.length<=sizeLine:=by rw[<- rel.length];exact z
  have hl:(fR kvs k v).length<=sizeLine:=by have:=mU kvs k v;omega
  refine wpAny_setItem_pairs (hsz:=hz) (xn ry) dd λh' dd' hs=>h _ ?_
  have he:∃q,h'.get? a=some q:=let ⟨q,_,_,hq,_⟩:=dd';⟨q,hq⟩
  exact wg I (by rw[e];exact True.intro) hs he (F2 hl hd (rel.put k rv) dd')
 ·subst ey eH
  cases (show u=Value.ref b from ry)
  obtain⟨z,hd,xs,rel,dd⟩:=Md I.hok e
  have hz:xs.length<=sizeLine:=by rw[<- QW rel];exact z
  have hl:(fR kvs k v).length<=sizeLine:=by have:=mU kvs k v;omega
  refine wpAny_setItem_heap (hsz:=hz) (tupleKind_room_in1 hu) (uT I.hok eb) dd λh' dd' hs=>h _ ?_
  obtain⟨q,es,ep,hq,h2,h3,h4,_,h5⟩:=dd'
  refine wg I (by rw[e];exact True.intro) hs ⟨q,hq⟩ ⟨hl,hd,_,(rel.put k eb rv).keeps λc ys ec=>?_,q,es,ep,hq,h2,h3,h4,h5⟩
  rw[aT (La ec e (λz=>nomatch z))]
  exact ec
end
section
variable{X:Cx}{pins:List (Addr×Obj)}{σ:St}{H:Hp}{s:Shared}{a:Addr}{kvs:List (Key×V)}{k:Key}{u:Value}{A:Around}{E:Value->Shared->Prop}
end
def xm(i:Expr):Prop:=∀ov iv,subscripted i false ov iv=operate [ov,iv] (getItem ov iv)
def Fs{prog:Program}{w:World}{A:Around}{E:Value->Shared->Prop}{s:Shared}{env:Env}{value gl:Expr}{pos:Pos}{T id:String}{Q:Value->Shared->Prop}
 (hl:typeLookup (.type T) "__getitem__"=pure (some (.builtin id))) (hs:xm gl)
 (h:wpAny (model prog w) A (eval value env) (λo s₁=>wpAny (model prog w) A (eval gl env) (λi s₂=>s₂.TypeIs o T/\wpAny (model prog w) A (getItem o i) Q E s₂) E s₁) E s):
 wpAny (model prog w) A (eval (.Subscript value gl pos) env) Q E s:=by
 refine Subscript_ (ON h (λo s₁ h₁=>ON h₁ (λi s₂ h₂=>?_) λ_ _ x=>x) λ_ _ x=>x)
 obtain⟨hT,h₂⟩:=h₂
 unfold subscriptTail
 refine N7 ?_
 rw[getitemInPython_of_ne hT.not_modules]
 refine N7 (wpAny_specialOf hT hl ?_)
 have fin:wpAny (model prog w) A (subscripted gl false o i) (λr s₃=>wpAny (model prog w) A (letTemporaryGo value o r >>= λ_=>pure r) Q E s₃) E s₂:=by
  rw[hs o i]
  exact wpAny_operating (ON h₂ (λr s₃ h₃=>N7 (wpAny_letTemporaryGo (Om h₃))) λ_ _ x=>x)
 first
  |exact Om (N7 fin)
  |exact N7 (Om (N7 fin))
  |exact N7 fin
def vk{X:Cx}{pins:List (Addr×Obj)}{σ:St}{H:Hp}{s:Shared}{a:Addr}{y:V}{o:Option V}(I:Inv X pins σ H s)(g:DGet H a y o):s.TypeIs (.ref a) "dict":=by
 rcases g with ⟨kvs,k,e,_,_⟩ |⟨kvs,k,b,e,_,_,_⟩
 ·obtain⟨_,_,vs,_,dd⟩:=xV I.hok e
  exact dd.typeIs
 ·obtain⟨_,_,xs,_,dd⟩:=xy I.hok e
  exact dd.typeIs
def Lj(td ty:TE):TE:=λσ H Q=>td σ H λx H1=>ty σ H1 λy H2=>∃a v,x=.ref a/\DGet H2 a y (some v)/\Q v H2
section
variable{X:Cx}{o i e value:Expr}{pos io tpos:Pos}{td ty tv:TE}
def En(hu:X.A.units+1<cLine)(ho:PE X o td)(hi:PE X i ty)(hs:xm i):PE X (.Subscript o i pos) (Lj td ty):=by
 intro pins s σ H Q I h
 refine Fs PySem.F.slot_dict_getitem.lookup hs (thn (ho pins s σ H _ I h) λu s1 ⟨x,H1,I1,rx,q1⟩=>thn (hi pins s1 σ H1 _ I1 q1) λiv s2 ⟨y,H2,I2,ry,a,v,ex,g,q2⟩=>?_)
 subst ex
 obtain rfl:u=Value.ref a:=rx
 exact⟨vk I2 g,yR hu I2 g ry λw' s3 I3 rw'=>⟨v,H2,I3,rw',q2⟩⟩
end
section
variable{X:Cx}{pos:Pos}
end
structure M1(X:Cx)(o:Expr)(m:Str)(apos:Pos)(e:Expr)(cpos:Pos):Prop where
 base:attributeBase o m X.env (eval o X.env)=eval o X.env
 few:((backTo cpos (starEach [e] X.env)).all (λx=>!x.1)&&(backToKw cpos (keywordEach [] X.env)).all (λx=>x.1.isSome)
  && decide (([e]:List Expr).length+([]:List Keyword).length+(if ([]:List Keyword).isEmpty then 0 else 1)<30))=true
 line:(apos.endLine==cpos.line)=true
 trees:backTo cpos (starEach [e] X.env)=[(false,eval e X.env)]
structure M2(X:Cx)(o:Expr)(m:Str)(apos:Pos)(e f:Expr)(cpos:Pos):Prop where
 base:attributeBase o m X.env (eval o X.env)=eval o X.env
 few:((backTo cpos (starEach [e,f] X.env)).all (λx=>!x.1)&&(backToKw cpos (keywordEach [] X.env)).all (λx=>x.1.isSome)
  && decide (([e,f]:List Expr).length+([]:List Keyword).length+(if ([]:List Keyword).isEmpty then 0 else 1)<30))=true
 line:(apos.endLine==cpos.line)=true
 trees:backTo cpos (starEach [e,f] X.env)=[(false,eval e X.env),(false,eval f X.env)]
section
variable{X:Cx}{pins:List (Addr×Obj)}{σ:St}{H:Hp}{s:Shared}{a:Addr}{y d:V}{u r:Value}{o:Option V}{A:Around}{E:Value->Shared->Prop}
end
section
variable{X:Cx}{o e f:Expr}{apos cpos:Pos}{td ty tx:TE}
end
section
variable{X:Cx}{pins:List (Addr×Obj)}{σ:St}{H:Hp}{s:Shared}{a:Addr}{kvs:List (Key×V)}{A:Around}{E:Value->Shared->Prop}
end
section
variable{X:Cx}{pins:List (Addr×Obj)}{σ:St}{H:Hp}{s:Shared}{a:Addr}{y:V}{u:Value}{A:Around}{E:Value->Shared->Prop}
end
end L2
namespace L2
open PySem PySem.Spec PyProof.Rows
section
variable{prog:Program}{w:World}{A:Around}{E:Value->Shared->Prop}{s:Shared}
end
end L2
namespace L2
open PySem PySem.Spec PyProof.Rows
section
variable{κ α:Type}[DecidableEq κ]
def lkD(kvs:List (κ×α))(k:κ):Option α:=(kvs.find? λkv=>decide (kv.1=k)).map (·.2)
def c7(kvs:List (κ×α))(k:κ)(v:α):List (κ×α):=if (kvs.any λkv=>decide (kv.1=k))=true then kvs.map λkv=>if kv.1=k then (kv.1,v) else kv else kvs++[(k,v)]
end
section
variable{K:W.Frag}{mg:Str->Option Value}{ρ:List Addr}{H:Hp}
def DZ{k:Key}{d:D}:∀{kvs:List (Key×D)}{ws:List (Key×V)},ws.map (·.1)=kvs.map (·.1)->RelDs K mg ρ H (kvs.map (·.2)) (ws.map (·.2))->lkD kvs k=some d->∃v,gz ws k=some v/\RelD K mg ρ H d v:=by
 intro kvs
 induction kvs with
 |nil=>intro ws e r q;cases q
 |
  cons p kvs ih=>
  intro ws e r q
  cases ws with
  |nil=>cases e
  |
   cons w ws=>
   obtain⟨k1,d1⟩:=p
   obtain⟨k2,v2⟩:=w
   rw[Of,Of] at e
   injection e with e1 e2
   dsimp only at e1
   subst e1
   cases r with
   |
    cons r rr=>
    unfold lkD at q
    unfold gz
    rw[OW] at q ⊢
    dsimp only at q ⊢
    by_cases hk:k2=k
    ·rw[OH hk] at q ⊢
     cases q
     exact⟨v2,rfl,r⟩
    ·rw[OA hk] at q ⊢
     exact ih e2 rr q
def uX{α β κ:Type}[DecidableEq κ]{k:κ}:∀{kvs:List (κ×α)}{ws:List (κ×β)},ws.map (·.1)=kvs.map (·.1)->(ws.any λkv=>decide (kv.1=k))=kvs.any λkv=>decide (kv.1=k):=by
 intro kvs
 induction kvs with
 |
  nil=>
  intro ws e
  cases ws with
  |nil=>rfl
  |cons _ _=>cases e
 |
  cons p kvs ih=>
  intro ws e
  cases ws with
  |nil=>cases e
  |
   cons w ws=>
   rw[Of,Of] at e
   injection e with e1 e2
   rw[Pg,Pg,ih e2,e1]
def Aw{k:Key}{d:D}{v:V}(rd:RelD K mg ρ H d v){kvs:List (Key×D)}{ws:List (Key×V)}(e:ws.map (·.1)=kvs.map (·.1))(r:RelDs K mg ρ H (kvs.map (·.2)) (ws.map (·.2))):(fR ws k v).map (·.1)=(c7 kvs k d).map (·.1)/\RelDs K mg ρ H ((c7 kvs k d).map (·.2)) ((fR ws k v).map (·.2)):=by
 unfold fR c7
 rw[uX e]
 by_cases hc:(kvs.any λkv=>decide (kv.1=k))=true
 ·rw[if_pos hc,if_pos hc]
  clear hc
  induction kvs generalizing ws with
  |
   nil=>
   cases ws with
   |nil=>exact⟨rfl,.nil⟩
   |cons _ _=>cases e
  |
   cons p kvs ih=>
   cases ws with
   |nil=>cases e
   |
    cons w ws=>
    obtain⟨k1,d1⟩:=p
    obtain⟨k2,v2⟩:=w
    rw[Of,Of] at e
    injection e with e1 e2
    dsimp only at e1
    subst e1
    cases r with
    |
     cons r rr=>
     obtain⟨h1,h2⟩:=ih e2 rr
     simp only[Of]
     by_cases hk:k2=k
     ·rw[if_pos hk,if_pos hk]
      exact⟨by rw[h1],.cons rd h2⟩
     ·rw[if_neg hk,if_neg hk]
      exact⟨by rw[h1],.cons r h2⟩
 ·rw[if_neg hc,if_neg hc,OP,OP,OP,OP,e]
  exact⟨rfl,r.append (.cons rd .nil)⟩
def wm:m7:=λo i v H Q=>∃a H4,o=.ref a/\DPut H a i v H4/\Q H4
variable{X:Cx}{ES:St->XK}{a b:Expr}{F G:ME}{pos:Pos}
def tE(hu:X.A.units+1<cLine):su X wm:=λpins s σ H o i v ov iv u Q I ro ri rv ⟨a,H4,eo,g,q⟩=>by
 subst eo
 obtain rfl:ov=Value.ref a:=ro
 exact z9 hu I g ri rv λs4 I4=>⟨H4,I4,q⟩
end
section
variable{X:Cx}
end
section
variable{K:W.Frag}{mg:Str->Option Value}
end
section
variable{K:W.Frag}{mg:Str->Option Value}{X:Cx}{ES:St->XK}{o:Expr}{F:ME}{pos p2:Pos}
end
end L2
namespace L2
open PySem PySem.Spec PySem.Calls PyProof.Rows
section
variable{X:Cx}{K:W.Frag}{mg:Str->Option Value}{ES:St->XK}{es:List Expr}{gs:MGs}{pos:Pos}
end
end L2
namespace L2
open PySem PySem.Spec PySem.Calls PyProof.Rows
section
variable{X:Cx}{K:W.Frag}{mg:Str->Option Value}{ES:St->XK}{a:Expr}{A:MA}{pos q2 p1 p2:Pos}
end
end L2
namespace L2
open PySem PySem.Spec PySem.Calls PyProof.Rows
inductive EntOk(w:World):List DictEntry->List (Str×Int)->Prop
 |nil:EntOk w [] []
 |cons {e:DictEntry}{es:List DictEntry}{k:Str}{i:Int}{t t':Tok}{kvs:List (Str×Int)} (h:e.hash=hashStr w k) (hk:e.key=.str k t) (hv:e.val=.int i t') (r:EntOk w es kvs):EntOk w (e::es) ((k,i)::kvs)
section
variable{X:Cx}{K:W.Frag}{mg:Str->Option Value}{w:World}{n:Str}{kvs:List (Str×Int)}
end
end L2
namespace L2
open PySem
end L2
namespace L2
open PySem PySem.Spec PySem.Calls PyProof.Rows
section
variable{X:Cx}{K:W.Frag}{mg:Str->Option Value}
end
end L2
namespace L2
open PySem PySem.Spec PySem.Calls PyProof.Rows
structure RoomU(k:Nat)(A:Around):Prop where
 dp:A.depth+3*k+5<recursionLimit
 un:A.units+16*k+200<cLine
structure FnOkU(P:Program)(w:World)(K:W.Frag)(mg:Str->Option Value)(base:Heap)(CX:CXT)(k:Nat)(f:Addr)(fd:FuncData)(ps:List Str)(sp:Sp):Prop where
 len:∀vs H Q E,sp vs H Q E->vs.length=ps.length
 run:∀(A:Around) (outer:List Env) (s:Shared) (H:Hp) (args:Args) (us:List Value) (vs:List V) (Q:VK) (E:XK),RoomU k A->Env0 P w K mg base A outer s H->BindsTo s fd args (ps.zip us)->Vals vs us->sp vs H Q E->
  codeAny (model P w) A (.call (.ref f) args) (CR CX outer P w H s Q E) s
section
variable{P:Program}{w:World}{K:W.Frag}{mg:Str->Option Value}{base:Heap}{x:Str}{st:Stmt}{k:Nat}{ps N:List Str}{sp:Sp}
structure CalleeU(P:Program)(w:World)(K:W.Frag)(mg:Str->Option Value)(base:Heap)(x:Str)(k:Nat)(ps:List Str)(sp:Sp):Prop where
 ex:∃f fd,FnOkU P w K mg base (CX1 P w) k f fd ps sp/\mg x=some (.ref f)/\W.keepIn K (.ref f)=true/\Binds K fd ps []/\∃oc od osl,K.lookup f=some ⟨oc,od,.func fd,osl⟩
variable{F:MS}
end
section
variable{X:Cx}{K:W.Frag}{mg:Str->Option Value}{ES:St->XK}{e:Expr}{es:List Expr}{A:MA}{pos:Pos}
end
end L2
namespace L2
open PySem PySem.Spec PyProof.Rows
section
variable{X:Cx}
def pK:V->List V->Hp->VK->Prop:=λx vs H Q=>∃l xs i y,x=.ref l/\vs=[.int i,y]/\H l=some (.lst xs)/\0<=i/\i<=(xs.length:Nat)/\xs.length<sizeLine/\Q .non (upd H l (.lst (xs.take i.toNat++y::xs.drop i.toNat)))
def yx:MtM X "list.insert" pK:=by
 intro pins s σ H x vs v us Q I rx rv h
 obtain⟨l,xs,i,y,rfl,rfl,hH,h0,h1,hz,q⟩:=h
 cases rx
 obtain⟨u1,u2,rfl,ru1,ru2⟩:=ml rv
 obtain⟨t,rfl⟩:=ru1
 obtain⟨z,its,n,r,hl,e⟩:=I.lstM hH
 have hs:sizeLine=16777216:=rfl
 have hf:Builtin.List.listFitsIndex i=true:=fitsIndex_both (by omega) (by omega)
 refine Qr PySem.F.slot_list_insert ⟨_,e,rfl⟩ PySem.F.entry_list_insert (PySem.F.args_list_insert_3 _ _ _) (AutoSeq1.list_insert_list_int_val_1 l its.toArray n i t u2 (by rw[hf];decide) (by rw[Oj];omega)) ⟨e,?_⟩
 refine⟨.non,_,I.lset (its':=its.take i.toNat++u2::its.drop i.toNat) hH e ?_ ((r.take _).append (.cons ru2 (r.drop _))) ?_,rfl,q⟩
 ·show (have k:=if i<0 then (i+(its.toArray.size:Int)).toNat else min i.toNat its.toArray.size;(its.toArray.extract 0 k).push u2++its.toArray.extract k)=_
  rw[if_neg (by omega),Oj,QM (by omega)]
  apply Array.ext'
  simp [Px]
 ·simp only[Oa,Oo,Pn,Qc]
  omega
def ya{prog:Program}{w:World}{A:Around}{R:Result->Shared->Prop}{I ax S:Addr}{items:Array Value}{lists:List (List Value)}{h0:Heap}(hh:A.in1.handled=none)(hIS:I≠S)(hI:h0.objs.size<=I)(hS0:h0.objs.size<=S)
 (hax:h0.IsList ax items) (hn:items.size=lists.length) (hit:∀(i:Nat) (l:List Value),lists[i]?=some l->∃c m,items[i]?=some (Value.ref c)/\PySem.IsL h0 c l.toArray m):
 ∀(b0:List (List Value)) (i:Nat) (s:Shared) (T:Addr) (acc:List Value) (c m:Nat),lists.drop i=b0->i<=lists.length->s.heap.IsListIter I ax i->PySem.IsL s.heap S #[Value.ref T] c->PySem.IsL s.heap T acc.toArray m->T≠S->T≠I->h0.objs.size<=s.heap.objs.size->
 (∀b o,h0.get? b=some o->s.heap.get? b=some o)->acc.length+b0.flatten.length<=sizeLine->
 (∀h' T' m',(∀b o,h0.get? b=some o->h'.get? b=some o)->PySem.IsL h' T' (acc++b0.flatten).toArray m'->(b0=[]->T'=T)->(b0≠[]->h0.objs.size<=T')->R (.ok (.ret (.ref T'))) { s with heap:=h' })->
 codeAny (model prog w) A (.builtin "sum.loop" ⟨[.ref I,.ref S,rawInt 2,rawInt 0],[]⟩) R s:=by
 intro b0
 induction b0 with
 |
  nil=>
  intro i s T acc c m hd hi st zS hT hTS hTI hsz hk hz hR
  have hi':lists.length<=i:=List.drop_eq_nil_iff.mp hd
  refine codeAny_builtin PySem.F.entry_sum_loop ?_
  rw[Around.under_plainId P2 _]
  show wpAny _ A.in1 (PySem.seqItems? (.ref S) >>= _) _ _ s
  refine N7 (Pj zS rfl ?_)
  show wpAny _ A.in1 (tryCatch (PySem.pyNext (.ref I)) _ >>= _) _ _ s
  refine N7 (wpAny_tryCatch (wpAny_pyNext_list_end hh st (hax.at λo e=>hk _ o e) (by rw[Array.getElem?_eq_none_iff];omega) λh' xb=>?_))
  refine Om (hR h' T m (λb o e=>xb b o (λz=>?_) (hk b o e)) ?_ (λ_=>rfl) λz=>absurd rfl z)
  ·exact absurd (z ▸ Oh e:I<h0.objs.size) (Nat.not_lt.mpr hI)
  ·rw[List.flatten_nil,OR]
   exact xb T _ hTI hT
 |
  cons l b0 ih=>
  intro i s T acc c m hd hi st zS hT hTS hTI hsz hk hz hR
  have hli:lists[i]?=some l:=by
   have:=O3 (λq=>q[0]?) hd
   simpa using this
  obtain⟨cc,mm,hx,hc⟩:=hit i l hli
  have hilt:i<lists.length:=(N_.mp hli).1
  rw[PJ,Oa] at hz
  refine codeAny_builtin PySem.F.entry_sum_loop ?_
  rw[Around.under_plainId P2 _]
  show wpAny _ A.in1 (PySem.seqItems? (.ref S) >>= _) _ _ s
  refine N7 (Pj zS rfl ?_)
  show wpAny _ A.in1 (tryCatch (PySem.pyNext (.ref I)) _ >>= _) _ _ s
  refine N7 (wpAny_tryCatch (wpAny_pyNext_list_item st (hax.at λo e=>hk _ o e) hx λh' st' sb=>?_))
  have hold:∀b o,h0.get? b=some o->h'.get? b=some o:=λb o e=>by
   rw[sb.2 b (λz=>absurd (z ▸ Oh e:I<h0.objs.size) (Nat.not_lt.mpr hI))]
   exact hk b o e
  have hT':PySem.IsL h' T acc.toArray m:=(sb.2 T hTI).trans hT
  have zS':PySem.IsL h' S #[.ref T] c:=(sb.2 S (Ne.symm hIS)).trans zS
  have eS:=Oh zS'
  have eI:I<h'.objs.size:=by obtain⟨o,e,_⟩:=st';exact Oh e
  show wpAny _ A.in1 ((PySem.holding [Value.ref cc] (binaryOp .Add (.ref T) (.ref cc))).attempt >>= _) _ _ _
  refine N7 (QA (PY (PySem.P.add_list hT' (hold _ _ hc) ?_ (by rw[Oj,Oj];omega))))
  have ea:acc.toArray++l.toArray=(acc++l).toArray:=by simp
  rw[ea]
  have hB:h0.objs.size<=h'.objs.size:=Oy hS0 (QL eS)
  generalize hb:h'.objs.size=B at *
  have zB:PySem.IsL (h'.push { cls:=.type "list",data:=.seq (acc++l).toArray }) B (acc++l).toArray 0:=by rw[<- hb];exact Ou _ rfl
  have old2:∀b o,h'.get? b=some o->(h'.push { cls:=.type "list",data:=.seq (acc++l).toArray }).get? b=some o:=λb o e=>Og _ e
  have szp:(h'.push { cls:=.type "list",data:=.seq (acc++l).toArray }).objs.size=B+1:=by rw[<- hb];exact Pp ..
  generalize h'.push { cls:=.type "list",data:=.seq (acc++l).toArray }=h2 at *
  show wpAny _ A.in1 (PySem.updateSeq S (λ_=>#[.ref B]) >>= _) _ _ _
  refine N7 ?_
  have zS2:=old2 _ _ zS'
  refine wpAny_updateSeq zS2 rfl ?_
  have zS3:=P6 (Obj.mapSeq λ_=>#[Value.ref B]) zS2 rfl
  refine N7 (wpAny_letGo ?_)
  refine N7 ?_
  refine wpAny_updateSeq zS3 rfl (Om ⟨plainId_quiet P2 _,ih (i+1) _ B (acc++l) _ 0 ?_ (by omega) ?_ (P6 _ zS3 rfl) ?_ (PN eS) (PN eI) ?_ ?_ (by rw[Oa];omega) ?_⟩)
  ·rw[<- List.tail_drop,hd];rfl
  ·exact st'.at λo e=>(OT _ _ (Ne.symm hIS)).trans ((OT _ _ (Ne.symm hIS)).trans (old2 _ _ e))
  ·exact (OT _ _ (OI eS)).trans ((OT _ _ (OI eS)).trans zB)
  ·show _<=((h2.update _ _).update _ _).objs.size
   rw[Heap.size_update,Heap.size_update,szp]
   exact Nat.le_succ_of_le hB
  ·intro b o e
   have nb:S≠b:=PN (Ot (Oh e) hS0)
   exact (OT _ _ nb).trans ((OT _ _ nb).trans (old2 _ _ (hold b o e)))
  ·intro h3 T' m' k3 e3 e4 e5
   refine hR h3 T' m' k3 (by rw[PJ,<- O1];exact e3) (λz=>nomatch z) λ_=>?_
   by_cases hr:b0=[]
   ·rw[e4 hr];exact hB
   ·exact e5 hr
def zo(a b:Value):argsOk "sum" ⟨[a,b],[]⟩:=by unfold argsOk;kernel_rfl
inductive Lsts(H:Hp):List V->List (List V)->Prop where
 |nil:Lsts H [] []
 |cons {a:Addr}{xs:List V}{vs:List V}{xss:List (List V)} (e:H a=some (.lst xs)) (r:Lsts H vs xss):Lsts H (.ref a::vs) (xs::xss)
def Lsts.out{pins:List (Addr×Obj)}{s:Shared}{σ:St}{H:Hp}{vs:List V}{xss:List (List V)}(I:Inv X pins σ H s)(r:Lsts H vs xss):∀{us:List Value},Vals vs us->∃lists:List (List Value),us.length=lists.length/\Vals xss.flatten lists.flatten/\xss.length=lists.length/\∀(i:Nat) (l:List Value),lists[i]?=some l->∃c m,us[i]?=some (Value.ref c)/\PySem.IsL s.heap c l.toArray m:=by
 induction r with
 |nil=>intro us rv;cases rv;exact⟨[],rfl,.nil,rfl,λi l e=>by rw[P5] at e;cases e⟩
 |
  cons e r ih=>
  intro us rv
  cases rv with
  |
   cons ru rv=>
   cases ru
   obtain⟨lists,h1,h2,h3,h4⟩:=ih rv
   obtain⟨z,its,n,r,hl,e⟩:=I.lstM e
   refine⟨its::lists,O3 (· + 1) h1,r.append h2,O3 (· + 1) h3,λi l q=>?_⟩
   cases i with
   |zero=>cases q;exact⟨_,n,rfl,e⟩
   |succ i=>exact h4 i l q
def wu:List V->Hp->VK->Prop:=λxs H Q=>∃a b vs ys xss,xs=[.ref a,.ref b]/\H a=some (.lst vs)/\H b=some (.lst ys)/\Lsts H vs xss/\xss≠[]/\ys.length+xss.flatten.length<=sizeLine/\∀l,H l=none->Q (.ref l) (upd H l (.lst (ys++xss.flatten)))
def xP(hc:X.calm=true):CallR X (.builtin "sum") wu:=by
 intro pins s σ H xs us Q I r h
 obtain⟨a,b,vs,ys,xss,rfl,hA,hB,hL,hne,hz,q⟩:=h
 obtain⟨u1,u2,rfl,r1,r2⟩:=ml r
 cases r1
 cases r2
 obtain⟨_,its,n,rv,hl,e⟩:=I.lstM hA
 obtain⟨_,its2,n2,rv2,hl2,e2⟩:=I.lstM hB
 obtain⟨lists,g1,g2,g3,g4⟩:=Lsts.out I hL rv
 have la:s.heap.IsList a its.toArray:=⟨_,e,rfl,_,rfl⟩
 have al:=Oh e
 have bl:=Oh e2
 refine call_function_tree PySem.F.kind_sum PySem.F.plain_sum PySem.F.entry_sum (zo _ _) ?_
 unfold PySem.Builtin.«sum»
 simp only[Oo,OC]
 rw[if_neg (by decide)]
 refine N7 (wpAny_of_eq (show Builtin.Builtins.bindParams "sum" ["start"] 0 { pos:=[.ref b] }=pure [some (.ref b)] from rfl) ?_)
 refine N7 (Qw la ?_)
 have q1:∀c o,s.heap.get? c=some o->(s.heap.push { cls:=.type "list_iterator",data:=.fields #[.ref a,.int 0 0] }).get? c=some o:=λc o z=>Og _ z
 have q2:(s.heap.push { cls:=.type "list_iterator",data:=.fields #[.ref a,.int 0 0] }).IsListIter s.heap.objs.size a 0:=⟨_,Ou _ rfl,rfl,rfl⟩
 have q3:(s.heap.push { cls:=.type "list_iterator",data:=.fields #[.ref a,.int 0 0] }).objs.size=s.heap.objs.size+1:=Pp ..
 generalize s.heap.push { cls:=.type "list_iterator",data:=.fields #[.ref a,.int 0 0] }=h1 at *
 refine N7 (Om ?_)
 simp only[QI,QT]
 have ty:({ s with heap:=h1 }:Shared).TypeIs (.ref b) "list":=⟨_,q1 _ _ e2,rfl⟩
 refine N7 (N7 (N7 (QD (b:=false) ty PySem.F.sub_list_str ?_)))
 simp only[O7,PQ]
 refine Om (N7 (N7 (QD (b:=false) ty PySem.F.sub_list_bytes ?_)))
 simp only[O7,PQ]
 refine Om (N7 (N7 (QD (b:=false) ty PySem.F.sub_list_bytearray ?_)))
 simp only[O7,PQ]
 refine Om (Om ?_)
 refine N7 (O2 ?_)
 have p1:∀c o,h1.get? c=some o->(h1.push { cls:=.type "list",data:=.seq #[.ref b] }).get? c=some o:=λc o z=>Og _ z
 have p2:PySem.IsL (h1.push { cls:=.type "list",data:=.seq #[.ref b] }) h1.objs.size #[.ref b] 0:=Ou _ rfl
 have p3:(h1.push { cls:=.type "list",data:=.seq #[.ref b] }).objs.size=h1.objs.size+1:=Pp ..
 refine Om ⟨plainId_quiet P2 _,ya (h0:=s.heap) (items:=its.toArray) (lists:=lists) (I.ok.hd hc) ?_ (Oe _) ?_ la (by rw[Oj];exact g1) (λi l z=>?_) lists 0 _ b its2 0 n2 rfl (OK _) ?_ p2 (p1 _ _ (q1 _ _ e2)) ?_ (OI bl) ?_ (λc o z=>p1 _ _ (q1 _ _ z)) ?_ λh' T' m' k' e' _ f'=>?_⟩
 ·rw[q3];exact OI (Nat.lt_succ_self _)
 ·rw[q3];exact Nat.le_succ _
 ·obtain⟨c,m,y1,y2⟩:=g4 i l z
  exact⟨c,m,by simpa using y1,y2⟩
 ·exact q2.at λo z=>p1 _ _ z
 ·rw[q3];exact OI (Nat.lt_succ_of_lt bl)
 ·show _<=(h1.push _).objs.size
  rw[p3,q3]
  omega
 ·rw[<- hl2,<- g2.length];exact hz
 ·have hne':lists≠[]:=λz=>by rw[z] at g3;exact hne (Pk.mp g3)
  have fr:=f' hne'
  exact⟨.ref T',_,I.laid (t':=s.toks) k' fr (show ObjOk X.prog X.w _ h' _ (.lst (ys++xss.flatten)) from ⟨by rw[Oa];exact hz,_,m',rv2.append g2,e'⟩),rfl,q _ (I.hok.fresh fr)⟩
end
section
variable{K:W.Frag}{mg:Str->Option Value}
def me:D->List D->AH->R D:=λx ds h=>hZ h x λn xs=>match ds with
 | [.int i,d]=>if 0<=i/\i<=(xs.length:Nat)/\xs.length<16777216 then .ok .non (h.set n (.lst (xs.take i.toNat++d::xs.drop i.toNat))) else .stuck
 |_=>.stuck
def yb:MtD K mg pK me:=λρ h H dx ds x vs Q E w rx rs p=>by
 obtain⟨n,xs,a,us,rfl,e,ea,rfl,h1,h2,p⟩:=iu w rx p
 split at p
 ·cases
   rs with
  |
   cons r rs=>
   cases rs with
   |
    cons r2 rs=>
    cases rs
    cases r
    split at p
    ·rename_i hb
     rw[h2.len] at hb
     exact⟨a,us,_,_,rfl,rfl,h1,hb.1,hb.2.1,hb.2.2,ji w ea h1 ((h2.take _).append (.cons r2 (h2.drop _))) .non p⟩
    ·exact p.elim
 ·exact p.elim
def j9(h:AH):List D->Option (List (List D))
 | []=>some []
 |.ref n::ds=>match h[n]?,j9 h ds with
  |some (.lst xs),some xss=>some (xs::xss)
  |_,_=>none
 |_::_=>none
def oa:Fn:=λds h=>match ds with
 | [.ref a,.ref b]=>match h[a]?,h[b]? with
  |some (.lst vs),some (.lst ys)=>match j9 h vs with
   |some xss=>if xss≠[]/\ys.length+xss.flatten.length<=16777216 then .ok (.ref h.length) (h++[.lst (ys++xss.flatten)]) else .stuck
   |none=>.stuck
  |_,_=>.stuck
 |_=>.stuck
def lV{ρ:List Addr}{h:AH}{H:Hp}(w:Wd K mg ρ h H){n:Nat}{a:Addr}{xs:List D}(ea:ρ[n]?=some a)(e:h[n]?=some (.lst xs)):∃vs,H a=some (.lst vs)/\RelDs K mg ρ H xs vs:=by
 obtain⟨vs,h1,h2⟩:=w.ob _ _ _ ea e
 exact⟨vs,h1,h2⟩
def xS{ρ:List Addr}{h:AH}{H:Hp}(w:Wd K mg ρ h H):∀{ds:List D}{vs:List V}{xss:List (List D)},RelDs K mg ρ H ds vs->j9 h ds=some xss->∃yss,Lsts H vs yss/\RelDs K mg ρ H xss.flatten yss.flatten/\xss.length=yss.length:=by
 intro ds
 induction ds with
 |nil=>intro vs xss r e;cases r;cases e;exact⟨[],.nil,.nil,rfl⟩
 |
  cons d ds ih=>
  intro vs xss r e
  cases r with
  |
   cons r rr=>
   cases r with
   |
    ref ea=>
    unfold j9 at e
    split at e
    ·rename_i xs xss' q1 q2
     cases e
     obtain⟨yss,g1,g2,g3⟩:=ih rr q2
     obtain⟨ys,g4,g5⟩:=lV w ea q1
     exact⟨ys::yss,.cons g4 g1,g5.append g2,O3 (· + 1) g3⟩
    ·cases e
   |_=>cases e
def EB:bG K mg wu oa:=λρ h H ds vs Q E w rs p=>by
 unfold oa at p
 split at p
 ·cases
   rs with
  |
   cons r1 rs=>
   cases rs with
   |
    cons r2 rs=>
    cases rs
    cases r1 with
    |
     ref ea=>
     cases r2 with
     |
      ref eb=>
      split at p
      ·rename_i vs ys q1 q2
       split at p
       ·rename_i xss q3
        split at p
        ·rename_i hb
         obtain⟨vs',g1,g2⟩:=lV w ea q1
         obtain⟨ys',g3,g4⟩:=lV w eb q2
         obtain⟨yss,g5,g6,g7⟩:=xS w g2 q3
         refine⟨_,_,_,_,yss,rfl,g1,g3,g5,λz=>hb.1 ?_,by rw[<- g4.len,<- g6.len];exact hb.2,λl hl=>fL w (g4.append g6) hl p⟩
         rw[z] at g7
         exact Pk.mp g7
        ·exact p.elim
       ·exact p.elim
      ·exact p.elim
 ·exact p.elim
end
end L2
namespace L2
open PySem PySem.Spec PyProof.Rows
section
variable{X:Cx}{K:W.Frag}{mg:Str->Option Value}
end
end L2
namespace L2
open PySem PySem.Spec PyProof.Rows
section
variable{X:Cx}
def LD:List V->Hp->VK->Prop:=λxs H Q=>xs=[]/\∀l,H l=none->Q (.ref l) (upd H l (.set (λ_=>false) 0))
def sP:R2:=λx y H Q=>∃i a S n,x=.int i/\y=.ref a/\H a=some (.set S n)/\Q (.bl (S i)) H
def AK:OpR X (compareOp .In) sP:=by
 intro pins s σ H x y v u Q I rx ry h
 obtain⟨i,a,S,n,rfl,rfl,hH,q⟩:=h
 obtain⟨t,rfl⟩:=rx
 cases ry
 have hS:s.heap.SetOf (intKind X.prog X.w) a S n:=I.hok a _ hH
 exact wpAny_inSet_of (intKind_is _ _ i t) rfl hS ⟨.bl (S i),H,I.tok _,rfl,q⟩
def wb:V->List V->Hp->VK->Prop:=λx vs H Q=>∃a i S n,x=.ref a/\vs=[.int i]/\H a=some (.set S n)/\n<4000/\Q .non (upd H a (.set (λk=>S k || decide (k=i)) (if S i then n else n+1)))
def Aa:MtM X "set.add" wb:=by
 intro pins s σ H x vs v us Q I rx rv h
 obtain⟨a,i,S,n,rfl,rfl,hH,hn,q⟩:=h
 cases rx
 obtain⟨u,rfl,ru⟩:=rv.one
 obtain⟨t,rfl⟩:=ru
 have hS:s.heap.SetOf (intKind X.prog X.w) a S n:=I.hok a _ hH
 refine call_set_add (intKind_is _ _ i t) rfl hS (by unfold scanBound;omega) λh' sb hS'=>?_
 refine⟨.non,_,I.write (x:=a) (e:=a) (by rw[hH];exact trivial) (.inl rfl) (λb o hb e=>(sb.2 b hb).trans e) ?_ (show ObjOk X.prog X.w _ h' a (.set (λk=>S k || decide (k=i)) (if S i then n else n+1)) from hS'),rfl,q⟩
 obtain⟨o,_,_,_,e,_⟩:=hS'
 exact⟨o,e⟩
def u6:CallR X (.builtin "len") (λxs H Q=>∃a S n,xs=[.ref a]/\H a=some (.set S n)/\Q (.int (n:Nat)) H):=by
 intro pins s σ H xs us Q I r h
 obtain⟨a,S,n,rfl,hH,q⟩:=h
 obtain⟨u,rfl,ru⟩:=gX r
 cases ru
 have hS:s.heap.SetOf (intKind X.prog X.w) a S n:=I.hok a _ hH
 obtain⟨o,es,ep,t,e,hex,hd,_,_,hb,hf,rfl⟩:=hS
 refine call_len_set e hex hd hf (by unfold scanBound at hb;omega) ⟨.int (es.size:Nat),H,I.tok _,⟨_,rfl⟩,q⟩
def yK:CallR X (.type "set") LD:=by
 intro pins s σ H xs us Q I r h
 obtain⟨rfl,q⟩:=h
 cases r
 refine call_set_0 λled=>?_
 refine⟨.ref s.heap.objs.size,_,I.laid (t':=s.toks) (λb o e=>Og _ e) (Oe _) (show ObjOk X.prog X.w _ _ _ (.set (λ_=>false) 0) from ?_),rfl,q _ (I.hok.fresh (Oe _))⟩
 obtain⟨h1,es,ep,tt,h2,h3,h4,h5,h6⟩:=setObjOf_fresh (knd:=intKind X.prog X.w) led
 exact⟨_,es,ep,tt,Ou _ rfl,h1,h2,h3,h4,by rw[h5];decide,h6,h5⟩
end
section
variable{K:W.Frag}{mg:Str->Option Value}{X:Cx}{ES:St->XK}{o e:Expr}{es:List Expr}{F:ME}{A:MA}{pos:Pos}
def wA:ME:=λ_ h=>.ok (.ref h.length) (h++[.set []])
def tW:D->D->AH->R D:=λx y h=>match x,y with
 |.int i,.ref n=>match h[n]? with
  |some (.set xs)=>.ok (.bl (decide (i∈xs))) h
  |_=>.stuck
 |_,_=>.stuck
def nR:Fn:=λds h=>match ds with
 | [.ref n]=>match h[n]? with
  |some (.set xs)=>.ok (.int (xs.length:Nat)) h
  |_=>.stuck
 |_=>.stuck
def fO(xs:List Int)(i:Int):List Int:=if i∈xs then xs else i::xs
def sg:D->List D->AH->R D:=λx ds h=>match x,ds with
 |.ref n,[.int i]=>match h[n]? with
  |some (.set xs)=>if xs.length<4000 then .ok .non (h.set n (.set (fO xs i))) else .stuck
  |_=>.stuck
 |_,_=>.stuck
def wj(h:AH):D->Bool
 |.ref n=>match h[n]? with
  |some (.set _)=>true
  |_=>false
 |_=>false
def eMS(F:ME)(A:MA):ME:=λae h=>(F ae h).bind λx h1=>if wj h1 x=true then (A ae h1).bind λds h2=>sg x ds h2 else .stuck
def E4:OpD K mg sP tW:=λρ h H dx dy x y Q E w rx ry p=>by
 unfold tW at p
 split at p
 ·cases rx
  cases ry with
  |
   ref ea=>
   split at p
   ·rename_i xs e
    obtain⟨_,h1⟩:=w.ob _ _ _ ea e
    exact⟨_,_,_,_,rfl,rfl,h1,aP w (.bl _) p⟩
   ·exact p.elim
 ·exact p.elim
def Eo:bG K mg (λxs H Q=>∃a S n,xs=[.ref a]/\H a=some (.set S n)/\Q (.int (n:Nat)) H) nR:=λρ h H ds vs Q E w rs p=>by
 unfold nR at p
 split at p
 ·cases
   rs with
  |
   cons r rs=>
   cases rs
   cases r with
   |
    ref ea=>
    split at p
    ·rename_i xs e
     obtain⟨_,h1⟩:=w.ob _ _ _ ea e
     exact⟨_,_,_,rfl,h1,aP w (.int _) p⟩
    ·exact p.elim
 ·exact p.elim
def F9:MtD K mg wb sg:=λρ h H dx ds x vs Q E w rx rs p=>by
 unfold sg at p
 split at p
 ·rename_i n i
  cases rx with
  |
   ref ea=>
   cases rs with
   |
    cons r rs=>
    cases rs
    cases r
    split at p
    ·rename_i xs e
     split at p
     ·rename_i hl
      obtain⟨nd,h1⟩:=w.ob _ _ _ ea e
      refine⟨_,_,_,_,rfl,rfl,h1,hl,?_⟩
      have e2:HO.set (λk=>decide (k∈xs) || decide (k=i)) (if decide (i∈xs)=true then xs.length else xs.length+1)=.set (λk=>decide (k∈fO xs i)) (fO xs i).length:=by
       unfold fO
       by_cases hi:i∈xs
       ·rw[if_pos (OH hi),if_pos hi]
        congr 1
        funext k
        by_cases hk:k∈xs
        ·rw[OH hk];rfl
        ·rw[OA hk,OA (show ¬ k=i from λz=>hk (by rw[z];exact hi))];rfl
       ·rw[if_neg (by rw[OA hi];exact Oi),if_neg hi]
        congr 1
        funext k
        rw[Bool.eq_iff_iff,Bool.or_eq_true,decide_eq_true_iff,decide_eq_true_iff,decide_eq_true_iff,Ow]
        exact Or.comm
      rw[e2]
      have l:Le ρ H ρ (upd H _ (.set (λk=>decide (k∈fO xs i)) (fO xs i).length)):=o3 h1 CY
      refine p ρ _ l (w.write ea h1 CY ⟨?_,cB⟩) .non .non
      unfold fO
      split
      ·exact nd
      ·rename_i hi;exact PZ.mpr ⟨hi,nd⟩
     ·exact p.elim
    ·exact p.elim
 ·exact p.elim
def E9{x:Str}{p0:Pos}(hg:Gl X x)(hm:mg x=none)(hv:bootBuiltins x=some (.type "set"))(hk:X.mg=mg:=by rfl)(hn:x ≠ "__name__":=by decide)(hdb:(x==("__debug__" : Str))=false:=by decide):DE K mg X ES (.Call (.Name x p0) [] [] pos) wA:=by
 subst hk
 refine PE.imp (xh yK hg hm hv hn hdb) λσ H Q q_=>q_.el λρ h ae w re p=>⟨rfl,λl hl=>?_⟩
 have le:Le ρ H (ρ++[l]) (upd H l (.set (λ_=>false) 0)):=(eF hl).trans mr
 refine p (ρ++[l]) _ le (w.alloc hl ⟨List.nodup_nil,?_⟩) _ (.ref ?_)
 ·rw[cB]
  congr 1
 ·rw[<- w.len,OB (Oe _),Py]
  rfl
def Kz{apos cpos:Pos}(hK:X.K=K)(ho:DE K mg X ES o F)(ha:DA K mg X ES (e::es) A)
 (db:attributeBase o "add" X.env (eval o X.env)=eval o X.env:=by rfl)
 (hfew:((backTo cpos (starEach (e::es) X.env)).all (λx=>!x.1)&&(backToKw cpos (keywordEach [] X.env)).all (λx=>x.1.isSome)
  && decide ((e::es).length+([]:List Keyword).length+(if ([]:List Keyword).isEmpty then 0 else 1)<30))=true:=by rfl)
 (dL:(apos.endLine==cpos.line)=true:=by rfl) (hs:starEach (e::es) X.env=(false,eval e X.env)::starEach es X.env:=by rfl) (bi:(backTo cpos (starEach es X.env)).any (·.1)=false:=by rfl):
 DE K mg X ES (.Call (.Attribute o "add" apos) (e::es) [] cpos) (eMS F A):=by
 subst hK
 refine PE.imp (CW PySem.F.plainAttrs_set PySem.F.slot_set_add PySem.F.type_set_add Aa ho ha db hfew dL hs bi) λσ H Q q_=>q_.el λρ h ae w re p=>⟨ρ,h,ae,w,re,p.bind.imp λdx h1 ρ1 H1 l1 w1 p1 x rx=>?_⟩
 split at p1
 ·rename_i hl
  have ty:tyV X.K "set" x H1:=by
   cases rx with
   |
    ref ea=>
    unfold wj at hl
    dsimp only at hl
    split at hl
    ·rename_i xs q
     obtain⟨_,hh⟩:=w1.ob _ _ _ ea q
     exact .inr (.inr (.inr ⟨rfl,_,_,hh⟩))
    ·cases hl
   |_=>cases hl
  exact⟨ty,ρ1,h1,ae,w1,re.mono l1,p1.bind.imp λds h2 ρ2 H2 l2 w2 p2 vs rs=>F9 ρ2 h2 H2 dx ds x vs Q _ w2 (rx.mono l2) rs p2⟩
 ·exact p1.elim
end
end L2
namespace L2
open PySem PySem.Spec PyProof.Rows
section
variable{K:W.Frag}{mg:Str->Option Value}
def uS:D->D->AH->R D:=λx y h=>match x with
 |.ref n=>(match y with
  |.int k=>(match h[n]? with
   |some (.dct kvs)=>(match lkD kvs (.inl k) with
    |some d=>.ok d h
    |none=>.stuck)
   |_=>.stuck)
  |_=>.stuck)
 |_=>.stuck
def wDI(o i v:D)(h:AH):R Unit:=match o with
 |.ref n=>(match i with
  |.int k=>(match h[n]? with
   |some (.dct kvs)=>if kvs.length<16777216 then .ok () (h.set n (.dct (c7 kvs (.inl k) v))) else .stuck
   |_=>.stuck)
  |_=>.stuck)
 |_=>.stuck
variable{X:Cx}{ES:St->XK}{a b:Expr}{F G:ME}{pos:Pos}
def Cq:pM K mg wm wDI:=λρ h H do_ di dv o i v Q E w ro ri rv p=>by
 unfold wDI at p
 split at p
 ·split
   at p
  ·split
    at p
   ·rename_i n k _ kvs e
    split at p
    ·rename_i hl
     cases ro with
     |
      ref ea=>
      cases ri
      obtain⟨ws,h1,h2,h3⟩:=w.ob _ _ _ ea e
      have be:ws.length=kvs.length:=by have:=O3 List.length h2;simpa using this
      have l:Le ρ H ρ (upd H _ (.dK (fR ws (.inl k) v))):=o3 h1 dKNo
      obtain⟨k1,k2⟩:=Aw (k:=.inl k) rv h2 h3
      exact⟨_,_,rfl,DPut.k (k:=.inl k) h1 (by rw[be];exact hl),p ρ _ l (w.write ea h1 dKNo ⟨_,cB,k1,k2.mono l⟩)⟩
    ·exact p.elim
   ·exact p.elim
  ·exact p.elim
 ·exact p.elim
def A6(hu:X.A.units+1<cLine)(ha:DE K mg X ES a F)(hb:DE K mg X ES b G)(hs:xm b):DE K mg X ES (.Subscript a b pos) (eOp uS F G):=PE.imp (En hu ha hb hs) λσ H Q q_=>q_.el λρ h ae w re p=>⟨ρ,h,ae,w,re,p.bind.imp λdx h1 ρ1 H1 l1 w1 p1 x rx=>⟨ρ1,h1,ae,w1,re.mono l1,p1.bind.imp λdy h2 ρ2 H2 l2 w2 p2 y ry=>by
 have rx2:=rx.mono l2
 unfold uS at p2
 split at p2
 ·split
   at p2
  ·split
    at p2
   ·rename_i n k _ kvs e
    split at p2
    ·rename_i d q
     cases rx2 with
     |
      ref ea=>
      cases ry
      obtain⟨ws,k1,k2,k3⟩:=w2.ob _ _ _ ea e
      obtain⟨v,q1,rv⟩:=DZ k2 k3 q
      refine⟨_,v,rfl,?_,aP w2 rv p2⟩
      rw[<- q1]
      exact DGet.k (k:=.inl k) k1
    ·exact p2.elim
   ·exact p2.elim
  ·exact p2.elim
 ·exact p2.elim⟩⟩
end
section
variable{X:Cx}{K:W.Frag}{mg:Str->Option Value}
def nN(K:W.Frag):V->List V->Hp->VK->Prop:=λx vs H Q=>∃l b xs zs,x=.ref l/\vs=[.ref b]/\H l=some (.lst xs)/\SqT K H b zs/\xs.length+zs.length<=sizeLine/\Q .non (upd H l (.lst (xs++zs)))
def DK(l:Addr)(xs:Array Value)(n:Nat)(b:Addr)(ys:Array Value)(n2:Nat)(dd:Option Addr)(ss:Array (Option Value))(z0:¬(!xs.isEmpty&&Builtin.List.listTooLong (xs.size+ys.size))=true)(z1:xs.size<=sizeLine)(z2:xs.size+ys.size<=sizeLine+1):
 Meets (Builtin.«list.extend» ⟨[.ref l,.ref b],[]⟩) (λ_ R s=>s.heap.get? l=some { cls:=.type "list",dict:=none,data:=.seq xs n,slots:=#[] }/\s.heap.get? b=some { cls:=.type "tuple",dict:=dd,data:=.seq ys n2,slots:=ss }/\R (.ok (.ret Value.none)) { s with heap:=s.heap.update l (Obj.mapSeq λx=>x++ys),toks:=s.toks }):=
 .of_wp λprog w A R s h=>by
  obtain⟨hp,g,d,tk,os⟩:=s
  obtain⟨el,eb,h⟩:=h
  have e1:=PySem.AutoSeq1.idx_int
  have e2:=PySem.F.sub_tuple_tuple
  have e3:=PySem.F.sub_list_list
  have e4:=PySem.F.sub_tuple_list
  have e5:=PySem.F.sub_list_tuple
  have zz:(xs++ys).size<=sizeLine+1:=by rw[Array.size_append];exact z2
  wp_walk using (wpAny_updateSeq el rfl (hz:=z1) (_hz':=zz)),wpAny_loadPart' el,wpAny_loadPart' eb
  exact⟨_,rfl,h⟩
def oF(hK:X.K=K):MtM X "list.extend" (nN K):=by
 subst hK
 intro pins s σ H x vs v us Q I rx rv h
 obtain⟨l,b,xs,zs,rfl,rfl,hH,hB,hz,q⟩:=h
 cases rx
 obtain⟨u,rfl,ru⟩:=rv.one
 cases ru
 obtain⟨z,its,n,r,hl,e⟩:=I.lstM hH
 obtain⟨its2,r2,⟨⟨oc,od,oda,os⟩,e2,ec,n2,ed⟩,z2⟩:=I.tuple hB
 dsimp only at ec ed
 subst ec ed
 have hl2:=r2.length
 have hsz:its.toArray.size+its2.toArray.size<=sizeLine:=by rw[Oj,Oj];omega
 have hlong:¬ (!its.toArray.isEmpty&&Builtin.List.listTooLong (its.toArray.size+its2.toArray.size))=true:=by
  rw[Cv hsz,Bool.and_false]
  exact Oi
 refine Qr Qp ⟨_,e,rfl⟩ PySem.F.entry_list_extend (PySem.F.args_list_extend_2 _ _)
  (DK l its.toArray n b its2.toArray n2 od os hlong (by rw[Oj];omega) (by omega)) ⟨e,e2,?_⟩
 refine⟨.non,_,I.lset (its':=its++its2) hH e (by simp) (r.append r2) ?_,rfl,q⟩
 rw[Oa]
 omega
def lb:D->List D->AH->R D:=λx ds h=>hZ h x λn xs=>match ds with
 | [.tup ys]=>if xs.length+ys.length<=16777216 then .ok .non (h.set n (.lst (xs++ys))) else .stuck
 |_=>.stuck
def wG:MtD K mg (nN K) lb:=λρ h H dx ds x vs Q E w rx rs p=>by
 obtain⟨n,xs,a,us,rfl,e,ea,rfl,h1,h2,p⟩:=iu w rx p
 split at p
 ·cases rs with
  |
   cons r rs=>
   cases rs
   split at p
   ·rename_i hb
    cases r with
    |tup hq rr=>exact⟨a,_,us,_,rfl,rfl,h1,hq,by rw[<- h2.len,<- rr.len];exact hb,ji w ea h1 (h2.append rr) .non p⟩
   ·exact p.elim
 ·exact p.elim
end
end L2
namespace L2
open PySem PySem.Spec PyProof.Rows
section
variable{X:Cx}{e st:Expr}{te tst:TE}{pos p2:Pos}
end
section
variable{K:W.Frag}{mg:Str->Option Value}{X:Cx}{ES:St->XK}{e st:Expr}{F G:ME}{pos p2:Pos}
end
end L2
namespace L2
open PySem PySem.Spec PyProof.Rows
section
variable{X:Cx}{K:W.Frag}{mg:Str->Option Value}
end
end L2
namespace L3
open PySem PySem.Spec PyProof.Rows L2
set_option genInjectivity true in
inductive Val where
 |non |bl (b:Bool) |int (i:Int) |str (x:Str) |ty (n:String) |glb (x:Str) |exc (x:Str)
 |tup (xs:List Val) |lst (xs:List Val) |kl (xs:List Val) |dct (kvs:List (Key×Val)) |set (xs:List Int)
 deriving Inhabited
mutual
inductive Rd(P:Nat->Prop)(h:AH):D->Val->Prop where
 |non:Rd P h .non .non
 |bl (b:Bool):Rd P h (.bl b) (.bl b)
 |int (i:Int):Rd P h (.int i) (.int i)
 |str (x:Str):Rd P h (.str x) (.str x)
 |ty (n:String):Rd P h (.ty n) (.ty n)
 |glb (x:Str):Rd P h (.glb x) (.glb x)
 |exc (x:Str):Rd P h (.exc x) (.exc x)
 |tup {ds:List D}{vs:List Val} (r:Rds P h ds vs):Rd P h (.tup ds) (.tup vs)
 |kl {ds:List D}{vs:List Val} (r:Rds P h ds vs):Rd P h (.kl ds) (.kl vs)
 |cell {n:Nat}{o:Ob}{v:Val} (p:P n) (e:h[n]?=some o) (r:Rc P h o v):Rd P h (.ref n) v
inductive Rc(P:Nat->Prop)(h:AH):Ob->Val->Prop where
 |lst {ds:List D}{vs:List Val} (r:Rds P h ds vs):Rc P h (.lst ds) (.lst vs)
 |fz {ds:List D}{vs:List Val} (r:Rds P h ds vs):Rc P h (.fz ds) (.kl vs)
 |dct {ws:List (Key×D)}{us:List (Key×Val)} (r:Rk P h ws us):Rc P h (.dct ws) (.dct us)
 |set (xs:List Int):Rc P h (.set xs) (.set xs)
inductive Rds(P:Nat->Prop)(h:AH):List D->List Val->Prop where
 |nil:Rds P h [] []
 |cons {d:D}{v:Val}{ds:List D}{vs:List Val} (r:Rd P h d v) (rr:Rds P h ds vs):Rds P h (d::ds) (v::vs)
inductive Rk(P:Nat->Prop)(h:AH):List (Key×D)->List (Key×Val)->Prop where
 |nil:Rk P h [] []
 |cons {k:Key}{d:D}{v:Val}{ds:List (Key×D)}{vs:List (Key×Val)} (r:Rd P h d v) (rr:Rk P h ds vs):Rk P h ((k,d)::ds) ((k,v)::vs)
end
section
variable{P P':Nat->Prop}{h h':AH}
abbrev Mov(P P':Nat->Prop)(h h':AH):Prop:=∀n o,P n->h[n]?=some o->P' n/\h'[n]?=some o
def Rd.mono(m:Mov P P' h h'){d:D}{v:Val}(r:Rd P h d v):Rd P' h' d v:=@Rd.rec P h (λd v _=>Rd P' h' d v) (λo v _=>Rc P' h' o v) (λds vs _=>Rds P' h' ds vs) (λws us _=>Rk P' h' ws us) .non (λb=>.bl b) (λi=>.int i) (λx=>.str x) (λn=>.ty n) (λx=>.glb x) (λx=>.exc x) (λ_ ih=>.tup ih) (λ_ ih=>.kl ih) (λp e _ ih=>.cell (m _ _ p e).1 (m _ _ p e).2 ih) (λ_ ih=>.lst ih) (λ_ ih=>.fz ih) (λ_ ih=>.dct ih) (λxs=>.set xs) .nil (λ_ _ a b=>.cons a b) .nil (λ_ _ a b=>.cons a b) d v r
def Rds.ind{M:List D->List Val->Prop}(h0:M [] [])(h1:∀{d v ds vs},Rd P h d v->Rds P h ds vs->M ds vs->M (d::ds) (v::vs)){ds:List D}{vs:List Val}(r:Rds P h ds vs):M ds vs:=by
 induction ds generalizing vs with
 |nil=>cases r;exact h0
 |
  cons d ds ih=>
  cases r with
  |cons r rr=>exact h1 r rr (ih rr)
def Rk.ind{M:List (Key×D)->List (Key×Val)->Prop}(h0:M [] [])(h1:∀{k d v ds vs},Rd P h d v->Rk P h ds vs->M ds vs->M ((k,d)::ds) ((k,v)::vs)){ds:List (Key×D)}{vs:List (Key×Val)}(r:Rk P h ds vs):M ds vs:=by
 induction ds generalizing vs with
 |nil=>cases r;exact h0
 |
  cons d ds ih=>
  cases r with
  |cons r rr=>exact h1 r rr (ih rr)
def Rds.mono(m:Mov P P' h h'){d:List D}{v:List Val}(r:Rds P h d v):Rds P' h' d v:=r.ind .nil λr _ ih=>.cons (r.mono m) ih
def Rk.mono(m:Mov P P' h h'){d:List (Key×D)}{v:List (Key×Val)}(r:Rk P h d v):Rk P' h' d v:=r.ind .nil λr _ ih=>.cons (r.mono m) ih
def Rc.mono(m:Mov P P' h h'){d:Ob}{v:Val}(r:Rc P h d v):Rc P' h' d v:=by
 cases r with
 |lst r=>exact .lst (r.mono m)
 |fz r=>exact .fz (r.mono m)
 |dct r=>exact .dct (r.mono m)
 |set xs=>exact .set xs
def Rds.len{ds:List D}{vs:List Val}(r:Rds P h ds vs):ds.length=vs.length:=r.ind (M:=λds vs=>ds.length=vs.length) rfl λ_ _ ih=>O3 (· + 1) ih
def Rds.get{ds:List D}{vs:List Val}{i:Nat}{v:Val}(r:Rds P h ds vs)(e:vs[i]?=some v):∃d,ds[i]?=some d/\Rd P h d v:=
 r.ind (M:=λds vs=>∀i,vs[i]?=some v->∃d,ds[i]?=some d/\Rd P h d v) (λ_ e=>by rw[P5] at e;cases e) (λr _ ih i e=>match i,e with
  |0,e=>by cases e;exact⟨_,rfl,r⟩
  |i+1,e=>ih i e) i e
def Rds.append{ds es:List D}{vs ws:List Val}(r:Rds P h ds vs)(q:Rds P h es ws):Rds P h (ds++es) (vs++ws):=r.ind (M:=λds vs=>Rds P h (ds++es) (vs++ws)) q λr _ ih=>.cons r ih
def Rds.take{ds:List D}{vs:List Val}(n:Nat)(r:Rds P h ds vs):Rds P h (ds.take n) (vs.take n):=
 r.ind (M:=λds vs=>∀n:Nat,Rds P h (ds.take n) (vs.take n)) (λn=>by rw[PX,PX];exact .nil) (λr _ ih n=>by cases n with |zero=>exact .nil |succ n=>exact .cons r (ih n)) n
def Rds.drop{ds:List D}{vs:List Val}(n:Nat)(r:Rds P h ds vs):Rds P h (ds.drop n) (vs.drop n):=
 r.ind (M:=λds vs=>∀n:Nat,Rds P h (ds.drop n) (vs.drop n)) (λn=>by rw[Qi,Qi];exact .nil) (λr rr ih n=>by cases n with |zero=>exact .cons r rr |succ n=>exact ih n) n
def Rds.set{d:D}{v:Val}(r:Rd P h d v){ds:List D}{vs:List Val}(i:Nat)(q:Rds P h ds vs):Rds P h (ds.set i d) (vs.set i v):=
 q.ind (M:=λds vs=>∀i:Nat,Rds P h (ds.set i d) (vs.set i v)) (λ_=>.nil) (λq qq ih i=>by cases i with |zero=>exact .cons r qq |succ i=>exact .cons q (ih i)) i
def ShR(P:Nat->Prop)(h:AH)(d:D)(v:Val):Prop:=Rd P h d v\/∃n o,d=.ref n/\h[n]?=some o/\Rc P h o v
inductive ShRs(P:Nat->Prop)(h:AH):List D->List Val->Prop where
 |nil:ShRs P h [] []
 |cons {d:D}{v:Val}{ds:List D}{vs:List Val} (r:ShR P h d v) (rr:ShRs P h ds vs):ShRs P h (d::ds) (v::vs)
def Val.items:Val->Option (List Val)
 |.tup xs=>some xs
 |.lst xs=>some xs
 |.kl xs=>some xs
 |_=>none
def ShR.int{d:D}{i:Int}(r:ShR P h d (.int i)):d=.int i:=by
 rcases r with r |⟨n,o,rfl,e,r⟩
 ·cases r with
  |int=>rfl
  |cell p e r=>cases r
 ·cases r
def ShR.str{d:D}{i:Str}(r:ShR P h d (.str i)):d=.str i:=by
 rcases r with r |⟨n,o,rfl,e,r⟩
 ·cases r with
  |str=>rfl
  |cell p e r=>cases r
 ·cases r
def ShR.bl{d:D}{i:Bool}(r:ShR P h d (.bl i)):d=.bl i:=by
 rcases r with r |⟨n,o,rfl,e,r⟩
 ·cases r with
  |bl=>rfl
  |cell p e r=>cases r
 ·cases r
def ShR.non{d:D}(r:ShR P h d .non):d=.non:=by
 rcases r with r |⟨n,o,rfl,e,r⟩
 ·cases r with
  |non=>rfl
  |cell p e r=>cases r
 ·cases r
def ShR.exc{d:D}{x:Str}(r:ShR P h d (.exc x)):d=.exc x:=by
 rcases r with r |⟨n,o,rfl,e,r⟩
 ·cases r with
  |exc=>rfl
  |cell p e r=>cases r
 ·cases r
def ShR.ty{d:D}{x:String}(r:ShR P h d (.ty x)):d=.ty x:=by
 rcases r with r |⟨n,o,rfl,e,r⟩
 ·cases r with
  |ty=>rfl
  |cell p e r=>cases r
 ·cases r
def ShR.glb{d:D}{x:Str}(r:ShR P h d (.glb x)):d=.glb x:=by
 rcases r with r |⟨n,o,rfl,e,r⟩
 ·cases r with
  |glb=>rfl
  |cell p e r=>cases r
 ·cases r
def ShR.tup{d:D}{vs:List Val}(r:ShR P h d (.tup vs)):∃ds,d=.tup ds/\Rds P h ds vs:=by
 rcases r with r |⟨n,o,rfl,e,r⟩
 ·cases r with
  |tup r=>exact⟨_,rfl,r⟩
  |cell p e r=>cases r
 ·cases r
def Rc.seq{n:Nat}{o:Ob}{vs:List Val}(e:h[n]?=some o)(r:Rc P h o (.lst vs)):∃ds,h[n]?=some (.lst ds)/\bD h n=some ds/\Rds P h ds vs:=by
 cases r with
 |lst r=>exact⟨_,e,by unfold bD;rw[e],r⟩
def ShR.lst{d:D}{vs:List Val}(r:ShR P h d (.lst vs)):∃n ds,d=.ref n/\h[n]?=some (.lst ds)/\bD h n=some ds/\Rds P h ds vs:=by
 rcases r with r |⟨n,o,rfl,e,r⟩
 ·cases r with
  |
   cell p e r=>
   obtain⟨ds,q,r⟩:=Rc.seq e r
   exact⟨_,ds,rfl,q,r⟩
 ·obtain⟨ds,q,r⟩:=Rc.seq e r
  exact⟨_,ds,rfl,q,r⟩
def ShR.kl{d:D}{vs:List Val}(r:ShR P h d (.kl vs)):∃ds,Rds P h ds vs/\(d=.kl ds\/∃n,d=.ref n/\bD h n=some ds):=by
 rcases r with r |⟨n,o,rfl,e,r⟩
 ·cases r with
  |kl r=>exact⟨_,r,.inl rfl⟩
  |cell p e r=>cases r with |fz r=>exact⟨_,r,.inr ⟨_,rfl,by unfold bD;rw[e]⟩⟩
 ·cases r with |fz r=>exact⟨_,r,.inr ⟨_,rfl,by unfold bD;rw[e]⟩⟩
def ShR.set{d:D}{xs:List Int}(r:ShR P h d (.set xs)):∃n,d=.ref n/\h[n]?=some (.set xs):=by
 rcases r with r |⟨n,o,rfl,e,r⟩
 ·cases r with
  |cell p e r=>cases r;exact⟨_,rfl,e⟩
 ·cases r;exact⟨_,rfl,e⟩
def ShR.dct{d:D}{us:List (Key×Val)}(r:ShR P h d (.dct us)):∃n ws,d=.ref n/\h[n]?=some (.dct ws)/\Rk P h ws us:=by
 rcases r with r |⟨n,o,rfl,e,r⟩
 ·cases r with
  |cell p e r=>cases r with |dct r=>exact⟨_,_,rfl,e,r⟩
 ·cases r with |dct r=>exact⟨_,_,rfl,e,r⟩
def ShR.items{d:D}{v:Val}{vs:List Val}(r:ShR P h d v)(e:v.items=some vs):∃ds,dG h d=some ds/\Rds P h ds vs:=by
 cases v with
 |tup xs=>cases e;obtain⟨ds,rfl,q⟩:=r.tup;exact⟨ds,rfl,q⟩
 |lst xs=>cases e;obtain⟨n,ds,rfl,_,e,q⟩:=r.lst;exact⟨ds,e,q⟩
 |
  kl xs=>
  cases e
  obtain⟨ds,q,rfl |⟨n,rfl,e⟩⟩:=r.kl
  ·exact⟨ds,rfl,q⟩
  ·exact⟨ds,e,q⟩
 |_=>cases e
end
inductive Sl where
 |no |sh (v:Val) |ow (v:Val) |mu (v:Val) |lo (v:Val) |lm (v:Val)
 deriving Inhabited
abbrev E3:=List Sl
def Sl.val:Sl->Option Val
 |.no=>none
 |.sh v=>some v
 |.ow v=>some v
 |.mu v=>some v
 |.lo v=>some v
 |.lm v=>some v
def Sl.mt:Sl->Bool
 |.ow _=>true
 |.mu _=>true
 |_=>false
def Sl.lk:Sl->Bool
 |.lo _=>true
 |.lm _=>true
 |_=>false
abbrev Ns:=List (Option Nat)
def Oc(X:Nat->Prop)(ns:Ns)(n:Nat):Prop:=¬ X n/\some n∉ns
def cP:Ob->Prop
 |.fz _=>False
 |.any=>False
 |_=>True
def SlR(P:Nat->Prop)(h0:Nat)(n:Option (Option Nat))(d:Option (Option D))(h:AH):Sl->Prop
 |.no=>n=some none
 |.sh v=>n=some none/\∃x,d=some (some x)/\Rd P h x v
 |.ow v=>∃m o,n=some (some m)/\d=some (some (.ref m))/\h0<=m/\h[m]?=some o/\cP o/\Rc P h o v
 |.lo v=>∃m o,n=some (some m)/\d=some (some (.ref m))/\h0<=m/\h[m]?=some o/\cP o/\Rc P h o v
 |.mu v=>∃m o,n=some (some m)/\d=some (some (.ref m))/\h[m]?=some o/\cP o/\Rc P h o v
 |.lm v=>∃m o,n=some (some m)/\d=some (some (.ref m))/\h[m]?=some o/\cP o/\Rc P h o v
structure Sat(X:Nat->Prop)(h0:Nat)(ns:Ns)(e:E3)(ae:AE)(h:AH):Prop where
 l1:ae.length=e.length
 l2:ns.length=e.length
 lh:h0<=h.length
 xl:∀(n:Nat),X n->n<h.length
 inj:∀(i j n:Nat),ns[i]?=some (some n)->ns[j]?=some (some n)->i=j
 nx:∀(i n:Nat),ns[i]?=some (some n)->¬ X n
 sl:∀(i:Nat) (s:Sl),e[i]?=some s->SlR (Oc X ns) h0 (ns[i]?) (ae[i]?) h s
def Mt(ns:Ns)(e:E3)(n:Nat):Prop:=∃(i:Nat) (s:Sl),ns[i]?=some (some n)/\e[i]?=some s/\s.mt=true
structure Stp(ns:Ns)(e:E3)(h:AH)(ns':Ns)(e':E3)(h':AH):Prop where
 len:h.length<=h'.length
 keep:∀(m:Nat) (o:Ob),h[m]?=some o->¬ Mt ns e m->h'[m]?=some o
 nw:∀(i n:Nat),ns'[i]?=some (some n)->ns[i]?=some (some n)\/h.length<=n
 lk:∀(i:Nat) (s:Sl),e[i]?=some s->s.lk=true->e'[i]?=some s/\ns'[i]?=ns[i]?
 lk':∀(i:Nat) (s:Sl),e'[i]?=some s->s.lk=true->e[i]?=some s/\ns'[i]?=ns[i]?
 mu:∀(i:Nat) (v:Val),e'[i]?=some (.mu v)->∃u,e[i]?=some (.mu u)/\ns'[i]?=ns[i]?
 mu':∀(i:Nat) (u:Val),e[i]?=some (.mu u)->∃v,e'[i]?=some (.mu v)/\ns'[i]?=ns[i]?
section
variable{X:Nat->Prop}{h0:Nat}{ns ns' ns1 ge:Ns}{e e' e1 e2:E3}{ae:AE}{h h' h1 h2:AH}
def bB{n:Nat}:some n∈ns ↔ ∃i:Nat,ns[i]?=some (some n):=by
 constructor
 ·intro m;exact QK m
 ·rintro⟨i,e⟩;exact Ph e
def Sat.own(S:Sat X h0 ns e ae h){i n:Nat}(q:ns[i]?=some (some n)):∃s v o,e[i]?=some s/\(s.mt=true\/s.lk=true)/\s.val=some v/\ae[i]?=some (some (.ref n))/\h[n]?=some o/\cP o/\Rc (Oc X ns) h o v:=by
 have hi:i<e.length:=by rw[<- S.l2];exact (N_.mp q).1
 have hs:=S.sl i e[i] (OG hi)
 refine⟨e[i],?_⟩
 have he:=OG hi
 generalize e[i]=s at *
 rw[q] at hs
 cases s with
 |no=>cases hs
 |sh v=>cases hs.1
 |ow v=>obtain⟨m,o,e1,e2,_,e3,e4,e5⟩:=hs;cases e1;exact⟨v,o,he,.inl rfl,rfl,e2,e3,e4,e5⟩
 |lo v=>obtain⟨m,o,e1,e2,_,e3,e4,e5⟩:=hs;cases e1;exact⟨v,o,he,.inr rfl,rfl,e2,e3,e4,e5⟩
 |mu v=>obtain⟨m,o,e1,e2,e3,e4,e5⟩:=hs;cases e1;exact⟨v,o,he,.inl rfl,rfl,e2,e3,e4,e5⟩
 |lm v=>obtain⟨m,o,e1,e2,e3,e4,e5⟩:=hs;cases e1;exact⟨v,o,he,.inr rfl,rfl,e2,e3,e4,e5⟩
def Stp.refl:Stp ns e h ns e h:=⟨Oe _,λ_ _ q _=>q,λ_ _ q=>.inl q,λ_ _ q _=>⟨q,rfl⟩,λ_ _ q _=>⟨q,rfl⟩,λ_ _ q=>⟨_,q,rfl⟩,λ_ _ q=>⟨_,q,rfl⟩⟩
def Stp.trans(S:Sat X h0 ns e ae h)(a:Stp ns e h ns1 e1 h1)(b:Stp ns1 e1 h1 ge e2 h2):Stp ns e h ge e2 h2:=by
 refine⟨Oy a.len b.len,λm o q hm=>?_,λi n q=>?_,λi s q hl=>?_,λi s q hl=>?_,λi v q=>?_,λi v q=>?_⟩
 ·refine b.keep m o (a.keep m o q hm) λ⟨i,s,z1,z2,z3⟩=>hm ?_
  have hlt:=(N_.mp q).1
  rcases a.nw i m z1 with z |z
  ·obtain⟨s0,v,o',q1,q2,_⟩:=S.own z
   rcases q2 with q2 |q2
   ·exact⟨i,s0,z,q1,q2⟩
   ·have:=(a.lk i s0 q1 q2).1
    rw[z2] at this
    cases this
    exfalso
    cases s <;> first |cases z3;done |cases q2;done
  ·omega
 ·rcases b.nw i n q with z |z
  ·exact a.nw i n z
  ·exact .inr (Oy a.len z)
 ·obtain⟨q1,q2⟩:=a.lk i s q hl
  obtain⟨q3,q4⟩:=b.lk i s q1 hl
  exact⟨q3,q4.trans q2⟩
 ·obtain⟨q1,q2⟩:=b.lk' i s q hl
  obtain⟨q3,q4⟩:=a.lk' i s q1 hl
  exact⟨q3,q2.trans q4⟩
 ·obtain⟨u,q1,q2⟩:=b.mu i v q
  obtain⟨u',q3,q4⟩:=a.mu i u q1
  exact⟨u',q3,q2.trans q4⟩
 ·obtain⟨u,q1,q2⟩:=a.mu' i v q
  obtain⟨u',q3,q4⟩:=b.mu' i u q1
  exact⟨u',q3,q4.trans q2⟩
def Stp.mov(S:Sat X h0 ns e ae h)(a:Stp ns e h ns1 e1 h1):Mov (Oc X ns) (Oc X ns1) h h1:=λn o p q=>by
 have hlt:=(N_.mp q).1
 have hm:¬ Mt ns e n:=λ⟨i,s,z,_⟩=>p.2 (bB.mpr ⟨i,z⟩)
 refine⟨⟨p.1,λz=>?_⟩,a.keep n o q hm⟩
 obtain⟨i,z⟩:=bB.mp z
 rcases a.nw i n z with z |z
 ·exact p.2 (bB.mpr ⟨i,z⟩)
 ·omega
def cz{n:Nat}{o:Ob}(q:h[n]?=some o):n<h.length:=(N_.mp q).1
def fU{n:Nat}{o:Ob}{g:AH}(q:h[n]?=some o):(h++g)[n]?=some o:=by rw[OF (cz q)];exact q
def Ef{o:Ob}:(h++[o])[h.length]?=some o:=by rw[OB (Oe _),Py];rfl
def SlR.mono{P P':Nat->Prop}{n:Option (Option Nat)}{d:Option (Option D)}{s:Sl}(m:Mov P P' h h')(k:∀j o,n=some (some j)->h[j]?=some o->h'[j]?=some o)(r:SlR P h0 n d h s):SlR P' h0 n d h' s:=by
 cases s with
 |no=>exact r
 |sh v=>obtain⟨q,x,q1,q2⟩:=r;exact⟨q,x,q1,q2.mono m⟩
 |ow v=>obtain⟨j,o,q1,q2,q3,q4,q5,q6⟩:=r;exact⟨j,o,q1,q2,q3,k j o q1 q4,q5,q6.mono m⟩
 |lo v=>obtain⟨j,o,q1,q2,q3,q4,q5,q6⟩:=r;exact⟨j,o,q1,q2,q3,k j o q1 q4,q5,q6.mono m⟩
 |mu v=>obtain⟨j,o,q1,q2,q4,q5,q6⟩:=r;exact⟨j,o,q1,q2,k j o q1 q4,q5,q6.mono m⟩
 |lm v=>obtain⟨j,o,q1,q2,q4,q5,q6⟩:=r;exact⟨j,o,q1,q2,k j o q1 q4,q5,q6.mono m⟩
def Xn(X:Nat->Prop)(n:Nat):Nat->Prop:=λm=>X m\/m=n
def Sat.grow(S:Sat X h0 ns e ae h)(o:Ob):Sat (Xn X h.length) h0 ns e ae (h++[o]):=by
 have mv:Mov (Oc X ns) (Oc (Xn X h.length) ns) h (h++[o]):=λn o' p q=>⟨⟨λz=>by
  rcases z with z |z
  ·exact p.1 z
  ·have:=cz q;omega,p.2⟩,fU q⟩
 refine⟨S.l1,S.l2,by rw[Oa];have:=S.lh;omega,λn z=>?_,S.inj,λi n q z=>?_,λi s q=>(S.sl i s q).mono mv λj o' _ q'=>fU q'⟩
 ·rw[Oa]
  rcases z with z |z
  ·have:=S.xl n z;omega
  ·subst z;show h.length<h.length+1;omega
 ·rcases z with z |z
  ·exact S.nx i n q z
  ·obtain⟨_,_,_,_,_,_,_,q',_⟩:=S.own q
   have:=cz q';omega
def Sat.weak{Y:Nat->Prop}(S:Sat Y h0 ns e ae h)(hx:∀n,X n->Y n):Sat X h0 ns e ae h:=
 ⟨S.l1,S.l2,S.lh,λn z=>S.xl n (hx n z),S.inj,λi n q z=>S.nx i n q (hx n z),λi s q=>(S.sl i s q).mono (λn o p q=>⟨⟨λz=>p.1 (hx n z),p.2⟩,q⟩) λ_ _ _ q=>q⟩
def Stp.grow(o:Ob):Stp ns e h ns e (h++[o]):=⟨by rw[Oa];omega,λ_ _ q _=>fU q,λ_ _ q=>.inl q,λ_ _ q _=>⟨q,rfl⟩,λ_ _ q _=>⟨q,rfl⟩,λ_ _ q=>⟨_,q,rfl⟩,λ_ _ q=>⟨_,q,rfl⟩⟩
end
end L3
namespace L3
open PySem PySem.Spec PyProof.Rows L2
section
variable{X:Nat->Prop}{h0:Nat}{ns ns':Ns}{e e':E3}{ae:AE}{h h' hs:AH}
def bY{α:Type}{l:List α}{i j:Nat}{a b:α}(hi:i<l.length)(q:(l.set i a)[j]?=some b):(j=i/\b=a)\/(j≠i/\l[j]?=some b):=by
 rw[Qt] at q
 by_cases z:i=j
 ·subst z
  rw[if_pos rfl,if_pos hi] at q
  exact .inl ⟨rfl,(Oz q).symm⟩
 ·rw[if_neg z] at q
  exact .inr ⟨λy=>z y.symm,q⟩
def ck{α:Type}{l:List α}{i:Nat}{a:α}(hi:i<l.length):(l.set i a)[i]?=some a:=by rw[Qt,if_pos rfl,if_pos hi]
def bP{α:Type}{l:List α}{i j:Nat}{a:α}(hi:j≠i):(l.set i a)[j]?=l[j]?:=by rw[PM (λy=>hi y.symm)]
def fi{i n:Nat}(p:Oc X ns n):Oc X (ns.set i none) n:=⟨p.1,λz=>by
 rcases OY z with z |z
 ·exact p.2 z
 ·cases z⟩
def Sat.putN(S:Sat X h0 ns e ae h){i:Nat}(hi:i<e.length){s:Sl}{d:Option D}(q:SlR (Oc X (ns.set i none)) h0 (some none) (some d) h s):Sat X h0 (ns.set i none) (e.set i s) (ae.set i d) h:=by
 have hn:i<ns.length:=by rw[S.l2];exact hi
 have ha:i<ae.length:=by rw[S.l1];exact hi
 refine⟨by rw[Oq,Oq];exact S.l1,by rw[Oq,Oq];exact S.l2,S.lh,S.xl,λj k n q1 q2=>?_,λj n q1=>?_,λj s' q1=>?_⟩
 ·rcases bY hn q1 with ⟨_,z⟩ |⟨_,z⟩
  ·cases z
  rcases bY hn q2 with ⟨_,y⟩ |⟨_,y⟩
  ·cases y
  exact S.inj j k n z y
 ·rcases bY hn q1 with ⟨_,z⟩ |⟨_,z⟩
  ·cases z
  exact S.nx j n z
 ·rcases bY hi q1 with ⟨rfl,rfl⟩ |⟨z,q2⟩
  ·rw[ck hn,ck ha];exact q
  ·rw[bP z,bP z]
   exact (S.sl j s' q2).mono (λn o p q=>⟨fi p,q⟩) λ_ _ _ q=>q
def Sat.putN'(S:Sat X h0 ns e ae h){i:Nat}(hi:i<e.length){s:Sl}(q:SlR (Oc X (ns.set i none)) h0 (some none) (ae[i]?) h s):Sat X h0 (ns.set i none) (e.set i s) ae h:=by
 have ha:i<ae.length:=by rw[S.l1];exact hi
 have:=S.putN hi (s:=s) (d:=ae[i]) (by rw[OG ha] at q;exact q)
 rw[List.set_getElem_self] at this
 exact this
def Sat.putO{n:Nat}{o:Ob}{v:Val}(S:Sat (Xn X n) h0 ns e ae h)(hx:¬ X n){i:Nat}(hi:i<e.length)(hn0:h0<=n)(eo:h[n]?=some o)(hf:cP o)(r:Rc (Oc (Xn X n) ns) h o v):Sat X h0 (ns.set i (some n)) (e.set i (.ow v)) (ae.set i (some (.ref n))) h:=by
 have hn:i<ns.length:=by rw[S.l2];exact hi
 have ha:i<ae.length:=by rw[S.l1];exact hi
 have nn:∀j:Nat,ns[j]?≠some (some n):=λj q=>S.nx j n q (.inr rfl)
 have mv:Mov (Oc (Xn X n) ns) (Oc X (ns.set i (some n))) h h:=λm o' p q=>⟨⟨λz=>p.1 (.inl z),λz=>by
  rcases OY z with z |z
  ·exact p.2 z
  ·cases z;exact p.1 (.inr rfl)⟩,q⟩
 refine⟨by rw[Oq,Oq];exact S.l1,by rw[Oq,Oq];exact S.l2,S.lh,λm z=>S.xl m (.inl z),λj k m q1 q2=>?_,λj m q1 z=>?_,λj s' q1=>?_⟩
 ·rcases bY hn q1 with ⟨z1,z⟩ |⟨z1,z⟩ <;> rcases bY hn q2 with ⟨y1,y⟩ |⟨y1,y⟩
  ·rw[z1,y1]
  ·cases z;exact absurd y (nn k)
  ·cases y;exact absurd z (nn j)
  ·exact S.inj j k m z y
 ·rcases bY hn q1 with ⟨_,y⟩ |⟨_,y⟩
  ·cases y;exact hx z
  ·exact S.nx j m y (.inl z)
 ·rcases bY hi q1 with ⟨rfl,rfl⟩ |⟨z,q2⟩
  ·rw[ck hn,ck ha];exact⟨n,o,rfl,rfl,hn0,eo,hf,r.mono mv⟩
  ·rw[bP z,bP z]
   exact (S.sl j s' q2).mono mv λ_ _ _ q=>q
def Sl.pl:Sl->Bool
 |.no=>true
 |.sh _=>true
 |.ow _=>true
 |_=>false
def Stp.put{ns0:Ns}{e0:E3}(A:Stp ns0 e0 hs ns e h){i:Nat}(hi:i<e.length){x:Option Nat}(hx:∀n,x=some n->hs.length<=n){s s0:Sl}(q0:e[i]?=some s0)(p0:s0.pl=true)(p:s.pl=true)(l2:ns.length=e.length):Stp ns0 e0 hs (ns.set i x) (e.set i s) h:=by
 have hn:i<ns.length:=by rw[l2];exact hi
 refine⟨A.len,A.keep,λj n q=>?_,λj s' q hl=>?_,λj s' q hl=>?_,λj v q=>?_,λj v q=>?_⟩
 ·rcases bY hn q with ⟨_,z⟩ |⟨_,z⟩
  ·exact .inr (hx n z.symm)
  ·exact A.nw j n z
 ·obtain⟨q1,q2⟩:=A.lk j s' q hl
  have z:j≠i:=λz=>by
   subst z
   rw[q0] at q1;cases q1
   cases s0 <;> first |cases p0;done |cases hl;done
  rw[bP z,bP z];exact⟨q1,q2⟩
 ·rcases bY hi q with ⟨_,z⟩ |⟨z,q1⟩
  ·subst z;cases s' <;> first |cases p;done |cases hl;done
  ·rw[bP z];exact A.lk' j s' q1 hl
 ·rcases bY hi q with ⟨_,z⟩ |⟨z,q1⟩
  ·subst z;cases p
  ·rw[bP z];exact A.mu j v q1
 ·obtain⟨u,q1,q2⟩:=A.mu' j v q
  have z:j≠i:=λz=>by
   subst z
   rw[q0] at q1;cases q1;cases p0
  exact⟨u,by rw[bP z];exact q1,by rw[bP z];exact q2⟩
end
inductive Tm where
 |val (v:Val) |new (v:Val) |bor (i:Nat)
inductive R3(α:Type) where
 |ok (a:α) (e:E3) |exc (c:Str) (e:E3) |stuck
def R3.bind{α β:Type}(r:R3 α)(f:α->E3->R3 β):R3 β:=match r with
 |.ok a e=>f a e
 |.exc c e=>.exc c e
 |.stuck=>.stuck
abbrev ME3:=E3->R3 Tm
abbrev MT3:=E3->R3 Bool
abbrev MA3:=E3->R3 (List Tm)
def Po{δ α:Type}(X:Nat->Prop)(h0:Nat)(ns:Ns)(e:E3)(ae:AE)(h:AH)(rel:Ns->E3->AH->δ->α->Prop)(r2:R δ):R3 α->Prop
 |.stuck=>True
 |.ok t e'=>∃d h' ns',r2=.ok d h'/\Stp ns e h ns' e' h'/\Sat X h0 ns' e' ae h'/\rel ns' e' h' d t
 |.exc c e'=>∃h' ns',r2=.exc c h'/\Stp ns e h ns' e' h'/\Sat X h0 ns' e' ae h'
def relE(X:Nat->Prop)(h0 L:Nat)(ae:AE)(ns:Ns)(e:E3)(h:AH)(d:D):Tm->Prop
 |.val v=>Rd (Oc X ns) h d v
 |.new v=>∃n o,d=.ref n/\L<=n/\¬ X n/\h[n]?=some o/\cP o/\Sat (Xn X n) h0 ns e ae h/\Rc (Oc (Xn X n) ns) h o v
 |.bor i=>ae[i]?=some (some d)
def relT(_:Ns)(_:E3)(_:AH)(b c:Bool):Prop:=b=c
inductive TsR(X:Nat->Prop)(ns:Ns)(ae:AE)(h:AH):List D->List Tm->Prop where
 |nil:TsR X ns ae h [] []
 |val {d:D}{v:Val}{ds:List D}{ts:List Tm} (r:Rd (Oc X ns) h d v) (rr:TsR X ns ae h ds ts):TsR X ns ae h (d::ds) (.val v::ts)
 |bor {d:D}{i:Nat}{ds:List D}{ts:List Tm} (q:ae[i]?=some (some d)) (rr:TsR X ns ae h ds ts):TsR X ns ae h (d::ds) (.bor i::ts)
def relA(X:Nat->Prop)(ae:AE)(ns:Ns)(_:E3)(h:AH)(ds:List D)(ts:List Tm):Prop:=TsR X ns ae h ds ts
def RE(F:ME)(G:ME3):Prop:=∀X h0 L ns e ae h,Sat X h0 ns e ae h->L<=h.length->Po X h0 ns e ae h (relE X h0 L ae) (F ae h) (G e)
def RT(F:MT)(G:MT3):Prop:=∀X h0 ns e ae h,Sat X h0 ns e ae h->Po X h0 ns e ae h relT (F ae h) (G e)
def RA(F:MA)(G:MA3):Prop:=∀X h0 ns e ae h,Sat X h0 ns e ae h->Po X h0 ns e ae h (relA X ae) (F ae h) (G e)
section
variable{X:Nat->Prop}{h0 L:Nat}{ns ns':Ns}{e e':E3}{ae:AE}{h h':AH}
def Po.bind{δ δ' α α':Type}{rel:Ns->E3->AH->δ->α->Prop}{rel':Ns->E3->AH->δ'->α'->Prop}{r2:R δ}{r3:R3 α}{f2:δ->AH->R δ'}{f3:α->E3->R3 α'}(S:Sat X h0 ns e ae h)(p:Po X h0 ns e ae h rel r2 r3)
 (k:∀d t h' ns' e',Stp ns e h ns' e' h'->Sat X h0 ns' e' ae h'->rel ns' e' h' d t->Po X h0 ns' e' ae h' rel' (f2 d h') (f3 t e')):Po X h0 ns e ae h rel' (r2.bind f2) (r3.bind f3):=by
 cases r3 with
 |stuck=>trivial
 |exc c e'=>obtain⟨h',ns',q,q1,q2⟩:=p;subst q;exact⟨h',ns',rfl,q1,q2⟩
 |
  ok t e'=>
  obtain⟨d,h',ns',q,q1,q2,q3⟩:=p
  subst q
  have:=k d t h' ns' e' q1 q2 q3
  show Po X h0 ns e ae h rel' (f2 d h') (f3 t e')
  generalize f3 t e'=r at *
  cases r with
  |stuck=>trivial
  |exc c e2=>obtain⟨h2,ge,y,y1,y2⟩:=this;exact⟨h2,ge,y,q1.trans S y1,y2⟩
  |ok t2 e2=>obtain⟨d2,h2,ge,y,y1,y2,y3⟩:=this;exact⟨d2,h2,ge,y,q1.trans S y1,y2,y3⟩
def Po.ret{δ α:Type}{rel:Ns->E3->AH->δ->α->Prop}{d:δ}{t:α}(S:Sat X h0 ns e ae h)(q:rel ns e h d t):Po X h0 ns e ae h rel (.ok d h) (.ok t e):=⟨d,h,ns,rfl,.refl,S,q⟩
def TsR.stp{ds:List D}{ts:List Tm}(S:Sat X h0 ns e ae h)(a:Stp ns e h ns' e' h')(r:TsR X ns ae h ds ts):TsR X ns' ae h' ds ts:=by
 induction r with
 |nil=>exact .nil
 |val r _ ih=>exact .val (r.mono (a.mov S)) ih
 |bor q _ ih=>exact .bor q ih
def rs(e:E3):Tm->Option Val
 |.val v=>some v
 |.new v=>some v
 |.bor i=>(e[i]?).bind Sl.val
def Sat.bor(S:Sat X h0 ns e ae h){i:Nat}{d:D}{v:Val}(q:ae[i]?=some (some d))(r:(e[i]?).bind Sl.val=some v):ShR (Oc X ns) h d v:=by
 cases z:e[i]? with
 |none=>rw[z] at r;cases r
 |
  some s=>
  rw[z] at r
  have y:=S.sl i s z
  rw[q] at y
  have r':s.val=some v:=r
  cases s with
  |no=>cases r'
  |sh u=>cases r';obtain⟨_,x,e1,e2⟩:=y;cases e1;exact .inl e2
  |ow u=>cases r';obtain⟨m,o,_,e2,_,e3,_,e4⟩:=y;cases e2;exact .inr ⟨m,o,rfl,e3,e4⟩
  |lo u=>cases r';obtain⟨m,o,_,e2,_,e3,_,e4⟩:=y;cases e2;exact .inr ⟨m,o,rfl,e3,e4⟩
  |mu u=>cases r';obtain⟨m,o,_,e2,e3,_,e4⟩:=y;cases e2;exact .inr ⟨m,o,rfl,e3,e4⟩
  |lm u=>cases r';obtain⟨m,o,_,e2,e3,_,e4⟩:=y;cases e2;exact .inr ⟨m,o,rfl,e3,e4⟩
def relE.new{d:D}{v:Val}(r:relE X h0 L ae ns e h d (.new v)):Rd (Oc X ns) h d v:=by
 obtain⟨n,o,rfl,_,hx,eo,_,S,rc⟩:=r
 exact .cell ⟨hx,λz=>by obtain⟨i,z⟩:=bB.mp z;exact S.nx i n z (.inr rfl)⟩ eo (rc.mono λm o p q=>⟨⟨λz=>p.1 (.inl z),p.2⟩,q⟩)
def relE.sh{d:D}{t:Tm}{v:Val}(S:Sat X h0 ns e ae h)(r:relE X h0 L ae ns e h d t)(q:rs e t=some v):ShR (Oc X ns) h d v:=by
 cases t with
 |val u=>cases q;exact .inl r
 |new u=>cases q;exact .inl r.new
 |bor i=>exact S.bor r q
def relE.stp{d:D}{t:Tm}(S:Sat X h0 ns e ae h)(a:Stp ns e h ns' e' h')(r:relE X h0 L ae ns e h d t)(hn:∀v,t ≠ .new v):relE X h0 L ae ns' e' h' d t:=by
 cases t with
 |val u=>exact Rd.mono (a.mov S) r
 |new u=>exact absurd rfl (hn u)
 |bor i=>exact r
def Tm.drop:Tm->Tm
 |.new v=>.val v
 |t=>t
def relE.drop{d:D}{t:Tm}(r:relE X h0 L ae ns e h d t):relE X h0 L ae ns e h d t.drop/\∀v,t.drop ≠ .new v:=by
 cases t with
 |val u=>exact⟨r,λ_ z=>nomatch z⟩
 |new u=>exact⟨r.new,λ_ z=>nomatch z⟩
 |bor i=>exact⟨r,λ_ z=>nomatch z⟩
def rss(e:E3):List Tm->Option (List Val)
 | []=>some []
 |t::ts=>match rs e t,rss e ts with
  |some v,some vs=>some (v::vs)
  |_,_=>none
def TsR.sh{ds:List D}{ts:List Tm}{vs:List Val}(S:Sat X h0 ns e ae h)(r:TsR X ns ae h ds ts)(q:rss e ts=some vs):ShRs (Oc X ns) h ds vs:=by
 induction r generalizing vs with
 |nil=>cases q;exact .nil
 |
  val r _ ih=>
  unfold rss at q
  split at q
  ·rename_i e1 e2;cases q;cases e1;exact .cons (.inl r) (ih e2)
  ·cases q
 |
  bor q' _ ih=>
  unfold rss at q
  split at q
  ·rename_i e1 e2;cases q;exact .cons (S.bor q' e1) (ih e2)
  ·cases q
end
inductive Bv where
 |val (v:Val) |new (v:Val) |stuck
def BvR(P:Nat->Prop)(h:AH)(r:R D):Bv->Prop
 |.val v=>∃d,r=.ok d h/\Rd P h d v
 |.new v=>∃o,r=.ok (.ref h.length) (h++[o])/\cP o/\Rc P h o v
 |.stuck=>True
def Bv.at(b:Bv)(e:E3):R3 Tm:=match b with
 |.val v=>.ok (.val v) e
 |.new v=>.ok (.new v) e
 |.stuck=>.stuck
def BvR.po{X:Nat->Prop}{h0 L:Nat}{ns:Ns}{e:E3}{ae:AE}{h:AH}{r:R D}{b:Bv}(S:Sat X h0 ns e ae h)(hl:L<=h.length)(q:BvR (Oc X ns) h r b):Po X h0 ns e ae h (relE X h0 L ae) r (b.at e):=by
 cases b with
 |stuck=>trivial
 |val v=>obtain⟨d,rfl,r⟩:=q;exact Po.ret S r
 |
  new v=>
  obtain⟨o,rfl,hf,r⟩:=q
  have S':=S.grow o
  refine⟨_,_,ns,rfl,.grow o,S'.weak λn z=>.inl z,h.length,o,rfl,hl,λz=>?_,Ef,hf,S',r.mono λn o' p q=>⟨⟨λz=>?_,p.2⟩,fU q⟩⟩
  ·have:=S.xl _ z;omega
  ·rcases z with z |z
   ·exact p.1 z
   ·have:=cz q;omega
def RU(g2:D->AH->R D)(g3:Val->Bv):Prop:=∀P h d v,ShR P h d v->BvR P h (g2 d h) (g3 v)
def RO(g2:D->D->AH->R D)(g3:Val->Val->Bv):Prop:=∀P h d1 d2 v1 v2,ShR P h d1 v1->ShR P h d2 v2->BvR P h (g2 d1 d2 h) (g3 v1 v2)
def RFn(g2:Fn)(g3:List Val->Bv):Prop:=∀P h ds vs,ShRs P h ds vs->BvR P h (g2 ds h) (g3 vs)
def AU(i:Nat):ME3:=λe=>match e[i]? with
 |some (.sh v)=>.ok (.val v) e
 |some .no=>.stuck
 |some _=>.ok (.bor i) e
 |none=>.stuck
def vC(v:Val):ME3:=λe=>.ok (.val v) e
def vUn(g:Val->Bv)(F:ME3):ME3:=λe=>(F e).bind λt e1=>match rs e1 t with
 |some v=>(g v).at e1
 |none=>.stuck
def vOp(g:Val->Val->Bv)(F G:ME3):ME3:=λe=>(F e).bind λt1 e1=>(G e1).bind λt2 e2=>match rs e2 t1.drop,rs e2 t2 with
 |some v1,some v2=>(g v1 v2).at e2
 |_,_=>.stuck
def pV:MA3:=λe=>.ok [] e
def C3(F:ME3)(A:MA3):MA3:=λe=>(F e).bind λt e1=>(A e1).bind λts e2=>.ok (t.drop::ts) e2
def vFn(g:List Val->Bv)(A:MA3):ME3:=λe=>(A e).bind λts e1=>match rss e1 ts with
 |some vs=>(g vs).at e1
 |none=>.stuck
def dE(e:E3):Tm->Option (E3×Val)
 |.val v=>some (e,v)
 |.new v=>some (e,v)
 |.bor i=>match e[i]? with
  |some (.sh v)=>some (e,v)
  |some (.ow v)=>some (e.set i (.sh v),v)
  |_=>none
def dem(e:E3):List Tm->Option (E3×List Val)
 | []=>some (e,[])
 |t::ts=>match dE e t with
  |some (e1,v)=>match dem e1 ts with
   |some (e2,vs)=>some (e2,v::vs)
   |none=>none
  |none=>none
def vTup(A:MA3):ME3:=λe=>(A e).bind λts e1=>match dem e1 ts with
 |some (e2,vs)=>if vs.length<=16777216 then .ok (.val (.tup vs)) e2 else .stuck
 |none=>.stuck
def vLst(A:MA3):ME3:=λe=>(A e).bind λts e1=>match dem e1 ts with
 |some (e2,vs)=>if vs.length<=16777216 then .ok (.new (.lst vs)) e2 else .stuck
 |none=>.stuck
def bOf:Option Val->Option Bool
 |some (.bl b)=>some b
 |_=>none
def vAnd(F G:ME3):ME3:=λe=>(F e).bind λt e1=>match bOf (rs e1 t) with
 |some true=>G e1
 |some false=>.ok (.val (.bl false)) e1
 |none=>.stuck
def vNot(F:ME3):ME3:=λe=>(F e).bind λt e1=>match bOf (rs e1 t) with
 |some b=>.ok (.val (.bl (!b))) e1
 |none=>.stuck
def cOf(F:ME3):MT3:=λe=>(F e).bind λt e1=>match bOf (rs e1 t) with
 |some b=>.ok b e1
 |none=>.stuck
def cAn(c d:MT3):MT3:=λe=>(c e).bind λb e1=>if b=true then d e1 else .ok false e1
def cO(c d:MT3):MT3:=λe=>(c e).bind λb e1=>if b=true then .ok true e1 else d e1
def cNo(c:MT3):MT3:=λe=>(c e).bind λb e1=>.ok (!b) e1
def cY:MT3:=λe=>.ok true e
def nc:Val->Option Bool
 |.non=>some false
 |.bl b=>some b
 |.int i=>some (i != 0)
 |.tup xs=>some (!xs.isEmpty)
 |.lst xs=>some (!xs.isEmpty)
 |.kl xs=>some (!xs.isEmpty)
 |_=>none
def cTr(F:ME3):MT3:=λe=>(F e).bind λt e1=>match (rs e1 t).bind nc with
 |some b=>.ok b e1
 |none=>.stuck
section
variable{F G:ME}{F3 G3:ME3}{A:MA}{A3:MA3}{c d:MT}{c3 d3:MT3}
def Gg(i:Nat):RE (aU i) (AU i):=λX h0 L ns e ae h S hl=>by
 unfold AU
 cases q:e[i]? with
 |none=>trivial
 |
  some s=>
  have y:=S.sl i s q
  cases s with
  |no=>trivial
  |sh v=>obtain⟨_,x,e1,e2⟩:=y;unfold aU;rw[e1];exact Po.ret S e2
  |ow v=>obtain⟨m,o,_,e2,_⟩:=y;unfold aU;rw[e2];exact Po.ret S e2
  |lo v=>obtain⟨m,o,_,e2,_⟩:=y;unfold aU;rw[e2];exact Po.ret S e2
  |mu v=>obtain⟨m,o,_,e2,_⟩:=y;unfold aU;rw[e2];exact Po.ret S e2
  |lm v=>obtain⟨m,o,_,e2,_⟩:=y;unfold aU;rw[e2];exact Po.ret S e2
def sN{d:D}{v:Val}(r:∀P h,Rd P h d v):RE (eC d) (vC v):=λX h0 L ns e ae h S hl=>Po.ret S (r _ _)
def JN{g:D->AH->R D}{g3:Val->Bv}(hg:RU g g3)(hF:RE F F3):RE (eUn g F) (vUn g3 F3):=λX h0 L ns e ae h S hl=>
 Po.bind S (hF X h0 L ns e ae h S hl) λd t h1 ns1 e1 a1 S1 r1=>by
  try dsimp only
  split
  ·rename_i v q
   exact BvR.po S1 (Oy hl a1.len) (hg _ _ _ _ (r1.sh S1 q))
  ·trivial
def KQ{g:D->D->AH->R D}{g3:Val->Val->Bv}(hg:RO g g3)(hF:RE F F3)(hG:RE G G3):RE (eOp g F G) (vOp g3 F3 G3):=λX h0 L ns e ae h S hl=>
 Po.bind S (hF X h0 L ns e ae h S hl) λd1 t1 h1 ns1 e1 a1 S1 r1=>Po.bind S1 (hG X h0 L ns1 e1 ae h1 S1 (Oy hl a1.len)) λd2 t2 h2 ge e2 a2 S2 r2=>by
  try dsimp only
  split
  ·rename_i v1 v2 q1 q2
   obtain⟨r1',hn⟩:=r1.drop
   exact BvR.po S2 (Oy hl (Oy a1.len a2.len)) (hg _ _ _ _ _ _ ((r1'.stp S1 a2 hn).sh S2 q1) (r2.sh S2 q2))
  ·trivial
def yC:RA cK pV:=λX h0 ns e ae h S=>Po.ret S .nil
def DL(hF:RE F F3)(hA:RA A A3):RA (bz F A) (C3 F3 A3):=λX h0 ns e ae h S=>
 Po.bind S (hF X h0 0 ns e ae h S (OK _)) λd1 t1 h1 ns1 e1 a1 S1 r1=>Po.bind S1 (hA X h0 ns1 e1 ae h1 S1) λds ts h2 ge e2 a2 S2 r2=>by
  obtain⟨r1',hn⟩:=r1.drop
  have r3:=r1'.stp S1 a2 hn
  refine Po.ret S2 ?_
  show TsR X ge ae h2 (d1::ds) (t1.drop::ts)
  generalize t1.drop=t at *
  cases t with
  |val v=>exact .val r3 r2
  |new v=>exact absurd rfl (hn v)
  |bor i=>exact .bor r3 r2
def Kt{g:Fn}{g3:List Val->Bv}(hg:RFn g g3)(hA:RA A A3):RE (eFn g A) (vFn g3 A3):=λX h0 L ns e ae h S hl=>
 Po.bind S (hA X h0 ns e ae h S) λds ts h1 ns1 e1 a1 S1 r1=>by
  try dsimp only
  split
  ·rename_i vs q
   exact BvR.po S1 (Oy hl a1.len) (hg _ _ _ _ (TsR.sh S1 r1 q))
  ·trivial
def Hm{X:Nat->Prop}{h0:Nat}{ns:Ns}{e:E3}{ae:AE}{h:AH}{i:Nat}{v:Val}(S:Sat X h0 ns e ae h)(q:e[i]?=some (.ow v)):∃n,ae[i]?=some (some (.ref n))/\Sat X h0 (ns.set i none) (e.set i (.sh v)) ae h/\Stp ns e h (ns.set i none) (e.set i (.sh v)) h/\Rd (Oc X (ns.set i none)) h (.ref n) v:=by
 obtain⟨n,o,q1,q2,_,q3,_,q4⟩:=S.sl i _ q
 have hi:=(N_.mp q).1
 have hn:i<ns.length:=by rw[S.l2];exact hi
 have r:Rd (Oc X (ns.set i none)) h (.ref n) v:=.cell ⟨S.nx i n q1,λz=>by
  obtain⟨j,z⟩:=bB.mp z
  rcases bY hn z with ⟨_,y⟩ |⟨y,z⟩
  ·cases y
  ·exact y (S.inj j i n z q1)⟩ q3 (q4.mono λm o p q=>⟨fi p,q⟩)
 exact⟨n,q2,S.putN' hi ⟨rfl,_,q2,r⟩,Stp.refl.put (x:=none) hi (λ_ z=>by cases z) q rfl rfl S.l2,r⟩
def gJ{X:Nat->Prop}{h0 L:Nat}{ns:Ns}{e e':E3}{ae:AE}{h:AH}{d:D}{t:Tm}{v:Val}(S:Sat X h0 ns e ae h)(r:relE X h0 L ae ns e h d t)(q:dE e t=some (e',v)):∃ns',Sat X h0 ns' e' ae h/\Stp ns e h ns' e' h/\Rd (Oc X ns') h d v:=by
 cases t with
 |val u=>cases q;exact⟨ns,S,.refl,r⟩
 |new u=>cases q;exact⟨ns,S,.refl,r.new⟩
 |
  bor i=>
  unfold dE at q
  dsimp only at q
  have r':ae[i]?=some (some d):=r
  split at q
  ·rename_i u q1;cases q
   obtain⟨_,x,e1,e2⟩:=S.sl i _ q1
   rw[r'] at e1;cases e1
   exact⟨ns,S,.refl,e2⟩
  ·rename_i u q1;cases q
   obtain⟨n,e1,S',a',e2⟩:=Hm S q1
   rw[r'] at e1;cases e1
   exact⟨_,S',a',e2⟩
  ·cases q
def kd{X:Nat->Prop}{h0:Nat}{ae:AE}{h:AH}{ts:List Tm}:∀{ds:List D}{vs:List Val}{ns:Ns}{e e':E3},Sat X h0 ns e ae h->TsR X ns ae h ds ts->dem e ts=some (e',vs)->∃ns',Sat X h0 ns' e' ae h/\Stp ns e h ns' e' h/\Rds (Oc X ns') h ds vs:=by
 induction ts with
 |nil=>intro ds vs ns e e' S r q;cases r;cases q;exact⟨ns,S,.refl,.nil⟩
 |
  cons t ts ih=>
  intro ds vs ns e e' S r q
  unfold dem at q
  split at q
  ·rename_i e1 v q1
   split at q
   ·rename_i e2 vs' q2
    cases q
    have hr:∃d ds',ds=d::ds'/\relE X h0 0 ae ns e h d t/\TsR X ns ae h ds' ts:=by
     cases r with
     |val r rr=>exact⟨_,_,rfl,r,rr⟩
     |bor r rr=>exact⟨_,_,rfl,r,rr⟩
    obtain⟨d,ds',rfl,hr⟩:=hr
    obtain⟨ns1,S1,a1,r1⟩:=gJ S hr.1 q1
    obtain⟨ge,S2,a2,r2⟩:=ih S1 (hr.2.stp S a1) q2
    exact⟨ge,S2,a1.trans S a2,.cons (r1.mono (a2.mov S1)) r2⟩
   ·cases q
  ·cases q
def FZ(hA:RA A A3):RE (eFn oD A) (vTup A3):=λX h0 L ns e ae h S hl=>
 Po.bind S (hA X h0 ns e ae h S) λds ts h1 ns1 e1 a1 S1 r1=>by
  try dsimp only
  split
  ·rename_i e2 vs q
   split
   ·rename_i hv
    obtain⟨ge,S2,a2,r2⟩:=kd S1 r1 q
    exact⟨.tup ds,h1,ge,by unfold oD;rw[if_pos (by rw[r2.len];exact hv)],a2,S2,.tup r2⟩
   ·trivial
  ·trivial
def JF(hA:RA A A3):RE (eFn cH A) (vLst A3):=λX h0 L ns e ae h S hl=>
 Po.bind S (hA X h0 ns e ae h S) λds ts h1 ns1 e1 a1 S1 r1=>by
  try dsimp only
  split
  ·rename_i e2 vs q
   split
   ·rename_i hv
    obtain⟨ge,S2,a2,r2⟩:=kd S1 r1 q
    have p:=BvR.po (r:=cH ds h1) (b:=.new (.lst vs)) S2 (Oy hl a1.len) ⟨.lst ds,by unfold cH;rw[if_pos (by rw[r2.len];exact hv)],trivial,.lst r2⟩
    obtain⟨d,h',ns',y,y1,y2,y3⟩:=p
    exact⟨d,h',ns',y,a2.trans S1 y1,y2,y3⟩
   ·trivial
  ·trivial
def nV{X:Nat->Prop}{h0 L:Nat}{ae:AE}{ns1:Ns}{e1:E3}{h1:AH}{d1:D}{t1:Tm}{b:Bool}(S1:Sat X h0 ns1 e1 ae h1)(r1:relE X h0 L ae ns1 e1 h1 d1 t1)(q:bOf (rs e1 t1)=some b):d1=.bl b:=by
 unfold bOf at q
 split at q
 ·rename_i b' q';cases q;exact (r1.sh S1 q').bl
 ·cases q
def Gx(hF:RE F F3)(hG:RE G G3):RE (Cp F G) (vAnd F3 G3):=λX h0 L ns e ae h S hl=>
 Po.bind S (hF X h0 L ns e ae h S hl) λd1 t1 h1 ns1 e1 a1 S1 r1=>by
  try dsimp only
  split
  ·rename_i q;rw[nV S1 r1 q];exact hG X h0 L ns1 e1 ae h1 S1 (Oy hl a1.len)
  ·rename_i q;rw[nV S1 r1 q];exact Po.ret S1 (.bl false)
  ·trivial
def Jk(hF:RE F F3):RE (Ak F) (vNot F3):=λX h0 L ns e ae h S hl=>
 Po.bind S (hF X h0 L ns e ae h S hl) λd1 t1 h1 ns1 e1 a1 S1 r1=>by
  try dsimp only
  split
  ·rename_i q;rw[nV S1 r1 q];exact Po.ret S1 (.bl _)
  ·trivial
def Ld(hF:RE F F3):RT (tOf F) (cOf F3):=λX h0 ns e ae h S=>
 Po.bind S (hF X h0 0 ns e ae h S (OK _)) λd1 t1 h1 ns1 e1 a1 S1 r1=>by
  try dsimp only
  split
  ·rename_i q;rw[nV S1 r1 q];exact Po.ret S1 rfl
  ·trivial
def Me(hc:RT c c3)(hd:RT d d3):RT (tAn c d) (cAn c3 d3):=λX h0 ns e ae h S=>
 Po.bind S (hc X h0 ns e ae h S) λb b' h1 ns1 e1 a1 S1 r1=>by
  cases r1
  try dsimp only
  split
  ·exact hd X h0 ns1 e1 ae h1 S1
  ·exact Po.ret S1 rfl
def rt_o(hc:RT c c3)(hd:RT d d3):RT (tO c d) (cO c3 d3):=λX h0 ns e ae h S=>
 Po.bind S (hc X h0 ns e ae h S) λb b' h1 ns1 e1 a1 S1 r1=>by
  cases r1
  try dsimp only
  split
  ·exact Po.ret S1 rfl
  ·exact hd X h0 ns1 e1 ae h1 S1
def K3(hc:RT c c3):RT (tNo c) (cNo c3):=λX h0 ns e ae h S=>
 Po.bind S (hc X h0 ns e ae h S) λb b' h1 ns1 e1 a1 S1 r1=>by
  cases r1
  exact Po.ret S1 rfl
def rt_y:RT tY cY:=λX h0 ns e ae h S=>Po.ret S rfl
def DV{P:Nat->Prop}{h:AH}{d:D}{v:Val}{b:Bool}(r:ShR P h d v)(q:nc v=some b):ur d h=.ok b h:=by
 have emp:∀{ds:List D}{vs:List Val},Rds P h ds vs->ds.isEmpty=vs.isEmpty:=λr=>by cases r <;> rfl
 cases v with
 |non=>cases q;rw[r.non];rfl
 |bl b=>cases q;rw[r.bl];rfl
 |int i=>cases q;rw[r.int];rfl
 |tup xs=>cases q;obtain⟨ds,rfl,r2⟩:=r.tup;show R.ok (!ds.isEmpty) h=_;rw[emp r2]
 |
  lst xs=>
  cases q
  obtain⟨n,ds,rfl,_,e1,r1⟩:=r.lst
  rw[<- emp r1]
  unfold ur dG;dsimp only;rw[e1]
 |
  kl xs=>
  cases q
  obtain⟨ds,r2,rfl |⟨n,rfl,e1⟩⟩:=r.kl
  ·show R.ok (!ds.isEmpty) h=_;rw[emp r2]
  ·rw[<- emp r2]
   unfold ur dG;dsimp only;rw[e1]
 |_=>cases q
def Kh(hF:RE F F3):RT (tTr F) (cTr F3):=λX h0 ns e ae h S=>
 Po.bind S (hF X h0 0 ns e ae h S (OK _)) λd1 t1 h1 ns1 e1 a1 S1 r1=>by
  try dsimp only
  split
  ·rename_i b q
   obtain⟨v,q1,q2⟩:=OO.mp q
   rw[DV (r1.sh S1 q1) q2]
   exact Po.ret S1 rfl
  ·trivial
end
end L3
namespace L3
open PySem PySem.Spec PyProof.Rows L2
inductive Rt where
 |val (v:Val) |new (v:Val) |par (i:Nat)
inductive SR3 where
 |nx (e:E3) |rt (r:Rt) (e:E3) |bk (e:E3) |ct (e:E3) |exc (c:Str) (e:E3) |stuck
abbrev MS3:=E3->SR3
def RtR(X:Nat->Prop)(h0:Nat)(ns:Ns)(e:E3)(ae:AE)(h:AH)(d:D):Rt->Prop
 |.val v=>Sat X h0 ns e ae h/\Rd (Oc X ns) h d v
 |.new v=>∃n o,d=.ref n/\h0<=n/\¬ X n/\h[n]?=some o/\cP o/\Sat (Xn X n) h0 ns e ae h/\Rc (Oc (Xn X n) ns) h o v
 |.par i=>Sat X h0 ns e ae h/\ae[i]?=some (some d)/\∃v,e[i]?=some (.mu v)
def PoS(X:Nat->Prop)(h0:Nat)(ns:Ns)(e:E3)(h:AH)(r2:SR):SR3->Prop
 |.stuck=>True
 |.nx e'=>∃bd h' ns',r2=.nx bd h'/\Stp ns e h ns' e' h'/\Sat X h0 ns' e' bd h'
 |.bk e'=>∃bd h' ns',r2=.bk bd h'/\Stp ns e h ns' e' h'/\Sat X h0 ns' e' bd h'
 |.ct e'=>∃bd h' ns',r2=.ct bd h'/\Stp ns e h ns' e' h'/\Sat X h0 ns' e' bd h'
 |.exc c e'=>∃bd h' ns',r2=.exc c bd h'/\Stp ns e h ns' e' h'/\Sat X h0 ns' e' bd h'
 |.rt r e'=>∃d bd h' ns',r2=.rt d h'/\Stp ns e h ns' e' h'/\RtR X h0 ns' e' bd h' d r
def RS(F:MS)(G:MS3):Prop:=∀X h0 ns e ae h,Sat X h0 ns e ae h->PoS X h0 ns e h (F ae h) (G e)
def R3.toS{α:Type}(r:R3 α)(f:α->E3->SR3):SR3:=match r with
 |.ok a e=>f a e
 |.exc c e=>.exc c e
 |.stuck=>.stuck
def SR3.then(r:SR3)(f:E3->SR3):SR3:=match r with
 |.nx e=>f e
 |r=>r
section
variable{X:Nat->Prop}{h0 L:Nat}{ns ns1 ns':Ns}{e e1 e':E3}{ae:AE}{h h1 h':AH}
def PoS.after{r2:SR}{r3:SR3}(S:Sat X h0 ns e ae h)(a:Stp ns e h ns1 e1 h1)(p:PoS X h0 ns1 e1 h1 r2 r3):PoS X h0 ns e h r2 r3:=by
 cases r3 with
 |stuck=>trivial
 |nx e'=>obtain⟨bd,h',ns',q,q1,q2⟩:=p;exact⟨bd,h',ns',q,a.trans S q1,q2⟩
 |bk e'=>obtain⟨bd,h',ns',q,q1,q2⟩:=p;exact⟨bd,h',ns',q,a.trans S q1,q2⟩
 |ct e'=>obtain⟨bd,h',ns',q,q1,q2⟩:=p;exact⟨bd,h',ns',q,a.trans S q1,q2⟩
 |exc c e'=>obtain⟨bd,h',ns',q,q1,q2⟩:=p;exact⟨bd,h',ns',q,a.trans S q1,q2⟩
 |rt r e'=>obtain⟨d,bd,h',ns',q,q1,q2⟩:=p;exact⟨d,bd,h',ns',q,a.trans S q1,q2⟩
def PoS.toS{δ α:Type}{rel:Ns->E3->AH->δ->α->Prop}{r2:R δ}{r3:R3 α}{f2:δ->AH->SR}{f3:α->E3->SR3}(p:Po X h0 ns e ae h rel r2 r3)
 (k:∀d t h' ns' e',Stp ns e h ns' e' h'->Sat X h0 ns' e' ae h'->rel ns' e' h' d t->PoS X h0 ns e h (f2 d h') (f3 t e')):PoS X h0 ns e h (r2.toS ae f2) (r3.toS f3):=by
 cases r3 with
 |stuck=>trivial
 |exc c e'=>obtain⟨h',ns',rfl,q1,q2⟩:=p;exact⟨ae,h',ns',rfl,q1,q2⟩
 |ok t e'=>obtain⟨d,h',ns',rfl,q1,q2,q3⟩:=p;exact k d t h' ns' e' q1 q2 q3
def PoS.nx{bd:AE}(a:Stp ns e h ns' e' h')(S:Sat X h0 ns' e' bd h'):PoS X h0 ns e h (.nx bd h') (.nx e'):=⟨bd,h',ns',rfl,a,S⟩
end
def wNx:MS3:=λe=>.nx e
def C0:MS3:=λe=>.rt (.val .non) e
def wSeq(F G:MS3):MS3:=λe=>(F e).then G
def C1(F:ME3):MS3:=λe=>(F e).toS λ_ e1=>.nx e1
def wIf(c:MT3)(F G:MS3):MS3:=λe=>(c e).toS λb e1=>if b=true then F e1 else G e1
def qC(t:Tm)(e:E3):SR3:=match t with
 |.val v=>.rt (.val v) e
 |.new v=>.rt (.new v) e
 |.bor i=>match e[i]? with
  |some (.sh v)=>.rt (.val v) e
  |some (.ow v)=>.rt (.new v) (e.set i .no)
  |some (.mu _)=>.rt (.par i) e
  |_=>.stuck
def wRet(F:ME3):MS3:=λe=>(F e).toS qC
def jL(o:Bool)(i:Nat)(t:Tm)(e:E3):SR3:=match e[i]? with
 |some s0=>if s0.pl=true then (match t with
  |.val v=>.nx (e.set i (.sh v))
  |.new v=>.nx (e.set i (if o=true then .ow v else .sh v))
  |.bor j=>match dE e (.bor j) with
   |some (e2,v)=>.nx (e2.set i (.sh v))
   |none=>.stuck) else .stuck
 |none=>.stuck
def wAsg(o:Bool)(i:Nat)(F:ME3):MS3:=λe=>(F e).toS (jL o i)
abbrev MG3:=Val->E3->Option E3
abbrev lH:=List Val->E3->Option E3
def pN(i:Nat):MG3:=λv e=>match e[i]? with
 |some s=>if s.pl=true then some (e.set i (.sh v)) else none
 |none=>none
def psN:lH:=λvs e=>match vs with
 | []=>some e
 |_=>none
def psC(g:MG3)(u:lH):lH:=λvs e=>match vs with
 |v::r=>(g v e).bind λe1=>u r e1
 | []=>none
def pT(n:Nat)(u:lH):MG3:=λv e=>match v with
 |.tup vs=>if vs.length=n then u vs e else none
 |_=>none
def CG(F:ME3)(g:MG3):MS3:=λe=>(F e).toS λt e1=>match dE e1 t with
 |some (e2,v)=>match g v e2 with
  |some e3=>.nx e3
  |none=>.stuck
 |none=>.stuck
def wPar(i j:Nat)(A:MA3):MS3:=λe=>(A e).toS λts e1=>match dem e1 ts with
 |some (e2,[v,u])=>match (pN i v e2).bind (pN j u) with
  |some e3=>.nx e3
  |none=>.stuck
 |_=>.stuck
def AO(i:Nat)(g:Val->Val->Bv)(F:ME3):MS3:=λe=>match e[i]? with
 |some (.sh x)=>(F e).toS λt e1=>match rs e1 t with
  |some y=>match g x y with
   |.val z=>match pN i z e1 with
    |some e2=>.nx e2
    |none=>.stuck
   |_=>.stuck
  |none=>.stuck
 |_=>.stuck
def yi(c:Str)(A:MA3):MS3:=λe=>(A e).toS λts e1=>if ts.length<=16777216 then .exc c e1 else .stuck
def RG(g2:MG)(g3:MG3):Prop:=∀X h0 ns e ae h d v e',Sat X h0 ns e ae h->Rd (Oc X ns) h d v->g3 v e=some e'->∃bd ns',g2 d ae h=.ok bd h/\Sat X h0 ns' e' bd h/\Stp ns e h ns' e' h
def RGs(g2:MGs)(g3:lH):Prop:=∀X h0 ns e ae h ds vs e',Sat X h0 ns e ae h->Rds (Oc X ns) h ds vs->g3 vs e=some e'->∃bd ns',g2 ds ae h=.ok bd h/\Sat X h0 ns' e' bd h/\Stp ns e h ns' e' h
section
variable{F G:ME}{F3 G3:ME3}{A:MA}{A3:MA3}{c d:MT}{c3 d3:MT3}{U V:MS}{U3 V3:MS3}{g:MG}{g3:MG3}{gs:MGs}{gs3:lH}
def LC:RS sNx wNx:=λX h0 ns e ae h S=>.nx .refl S
def Fe:RS wJ C0:=λX h0 ns e ae h S=>⟨.non,ae,h,ns,rfl,.refl,S,.non⟩
def Ir(hU:RS U U3)(hV:RS V V3):RS (ja U V) (wSeq U3 V3):=λX h0 ns e ae h S=>by
 have p:=hU X h0 ns e ae h S
 show PoS X h0 ns e h ((U ae h).then V) ((U3 e).then V3)
 generalize U3 e=r at *
 cases r with
 |stuck=>trivial
 |nx e'=>obtain⟨bd,h',ns',q,q1,q2⟩:=p;rw[q];exact PoS.after S q1 (hV X h0 ns' e' bd h' q2)
 |bk e'=>obtain⟨bd,h',ns',q,q1,q2⟩:=p;rw[q];exact⟨bd,h',ns',rfl,q1,q2⟩
 |ct e'=>obtain⟨bd,h',ns',q,q1,q2⟩:=p;rw[q];exact⟨bd,h',ns',rfl,q1,q2⟩
 |exc c e'=>obtain⟨bd,h',ns',q,q1,q2⟩:=p;rw[q];exact⟨bd,h',ns',rfl,q1,q2⟩
 |rt r e'=>obtain⟨d,bd,h',ns',q,q1,q2⟩:=p;rw[q];exact⟨d,bd,h',ns',rfl,q1,q2⟩
def Ft(hF:RE F F3):RS (iK F) (C1 F3):=λX h0 ns e ae h S=>PoS.toS (hF X h0 0 ns e ae h S (OK _)) λd t h1 ns1 e1 a1 S1 r1=>.nx a1 S1
def K8(hc:RT c c3)(hU:RS U U3)(hV:RS V V3):RS (sIf c U V) (wIf c3 U3 V3):=λX h0 ns e ae h S=>PoS.toS (hc X h0 ns e ae h S) λb b' h1 ns1 e1 a1 S1 r1=>by
 cases r1
 try dsimp only
 split
 ·exact PoS.after S a1 (hU X h0 ns1 e1 ae h1 S1)
 ·exact PoS.after S a1 (hV X h0 ns1 e1 ae h1 S1)
def FX(hF:RE F F3):RS (BB F) (wRet F3):=λX h0 ns e ae h S=>PoS.toS (hF X h0 h0 ns e ae h S S.lh) λd t h1 ns1 e1 a1 S1 r1=>by
 cases t with
 |val v=>exact⟨d,ae,h1,ns1,rfl,a1,S1,r1⟩
 |new v=>obtain⟨n,o,q⟩:=r1;exact⟨d,ae,h1,ns1,rfl,a1,n,o,q⟩
 |
  bor i=>
  unfold qC
  dsimp only
  have r':ae[i]?=some (some d):=r1
  split
  ·rename_i v q
   obtain⟨_,x,e1',e2⟩:=S1.sl i _ q
   rw[r'] at e1';cases e1'
   exact⟨d,ae,h1,ns1,rfl,a1,S1,e2⟩
  ·rename_i v q
   obtain⟨n,o,q1,q2,q3,q4,q5,q6⟩:=S1.sl i _ q
   rw[r'] at q2;cases q2
   have hi:=(N_.mp q).1
   have hn:i<ns1.length:=by rw[S1.l2];exact hi
   have mv:Mov (Oc X ns1) (Oc (Xn X n) (ns1.set i none)) h1 h1:=λm o' p q'=>⟨⟨λz=>by
    rcases z with z |rfl
    ·exact p.1 z
    ·exact p.2 (bB.mpr ⟨i,q1⟩),(fi p).2⟩,q'⟩
   have S2:=S1.putN' hi (s:=.no) rfl
   refine⟨.ref n,ae,h1,ns1.set i none,rfl,a1.put (x:=none) hi (λ_ z=>by cases z) q rfl rfl S1.l2,n,o,rfl,q3,S1.nx i n q1,q4,q5,⟨S2.l1,S2.l2,S2.lh,λm z=>?_,S2.inj,λj m qj z=>?_,λj s qj=>?_⟩,q6.mono mv⟩
   ·rcases z with z |rfl
    ·exact S2.xl m z
    ·exact cz q4
   ·rcases z with z |rfl
    ·exact S2.nx j m qj z
    ·rcases bY hn qj with ⟨_,y⟩ |⟨y,z⟩
     ·cases y
     ·exact y (S1.inj j i _ z q1)
   ·rcases bY hi qj with ⟨rfl,rfl⟩ |⟨z,qj'⟩
    ·rw[ck hn];rfl
    ·rw[bP z]
     exact (S1.sl j s qj').mono mv λ_ _ _ q=>q
  ·rename_i v q
   exact⟨d,ae,h1,ns1,rfl,a1,S1,r',v,q⟩
  ·trivial
def GO(o:Bool)(i:Nat)(hF:RE F F3):RS (iH F (gN i)) (wAsg o i F3):=λX h0 ns e ae h S=>PoS.toS (hF X h0 h.length ns e ae h S (Oe _)) λd t h1 ns1 e1 a1 S1 r1=>by
 show PoS X h0 ns e h (.nx (ae.set i (some d)) h1) (jL o i t e1)
 unfold jL
 split
 ·rename_i s0 q0
  split
  ·rename_i p0
   have hi:=(N_.mp q0).1
   cases t with
   |val v=>exact .nx (a1.put (x:=none) (s:=.sh v) hi (λ_ z=>by cases z) q0 p0 rfl S1.l2) (S1.putN hi ⟨rfl,d,rfl,Rd.mono (λm o p q=>⟨fi p,q⟩) r1⟩)
   |
    new v=>
    try dsimp only
    split
    ·obtain⟨n,ob,rfl,q1,q2,q3,q4,q5,q6⟩:=r1
     exact .nx (a1.put (x:=some n) (s:=.ow v) hi (λm z=>by cases z;exact q1) q0 p0 rfl S1.l2) (Sat.putO q5 q2 hi (Oy S.lh q1) q3 q4 q6)
    ·exact .nx (a1.put (x:=none) (s:=.sh v) hi (λ_ z=>by cases z) q0 p0 rfl S1.l2) (S1.putN hi ⟨rfl,d,rfl,Rd.mono (λm o p q=>⟨fi p,q⟩) r1.new⟩)
   |
    bor j=>
    try dsimp only
    split
    ·rename_i e2 v q2
     obtain⟨ge,S2,a2,r2⟩:=gJ S1 r1 q2
     have hq:∃s2,e2[i]?=some s2/\s2.pl=true:=by
      unfold dE at q2
      dsimp only at q2
      split at q2
      ·cases q2;exact⟨s0,q0,p0⟩
      ·rename_i u q3
       cases q2
       by_cases z:i=j
       ·subst z;exact⟨_,ck hi,rfl⟩
       ·exact⟨s0,by rw[bP z];exact q0,p0⟩
      ·cases q2
     obtain⟨s2,hq1,hq2⟩:=hq
     have hi2:=(N_.mp hq1).1
     exact .nx ((a1.trans S a2).put (x:=none) (s:=.sh v) hi2 (λ_ z=>by cases z) hq1 hq2 rfl S2.l2) (S2.putN hi2 ⟨rfl,d,rfl,Rd.mono (λm o p q=>⟨fi p,q⟩) r2⟩)
    ·trivial
  ·trivial
 ·trivial
def uV(i:Nat):RG (gN i) (pN i):=λX h0 ns e ae h d v e' S r q=>by
 unfold pN at q
 split at q
 ·rename_i s q0
  split at q
  ·rename_i p0
   cases q
   have hi:=(N_.mp q0).1
   exact⟨_,ns.set i none,rfl,S.putN hi ⟨rfl,d,rfl,Rd.mono (λm o p q=>⟨fi p,q⟩) r⟩,Stp.refl.put (x:=none) (s:=.sh v) hi (λ_ z=>by cases z) q0 p0 rfl S.l2⟩
  ·cases q
 ·cases q
def Ky:RGs gsN psN:=λX h0 ns e ae h ds vs e' S r q=>by
 cases r with
 |nil=>cases q;exact⟨ae,ns,rfl,S,.refl⟩
 |cons _ _=>cases q
def LB(hg:RG g g3)(hs:RGs gs gs3):RGs (gsC g gs) (psC g3 gs3):=λX h0 ns e ae h ds vs e' S r q=>by
 cases r with
 |nil=>cases q
 |
  cons r rr=>
  obtain⟨e1,q1,q2⟩:=OO.mp q
  obtain⟨ae1,ns1,p1,S1,a1⟩:=hg _ _ _ _ _ _ _ _ _ S r q1
  obtain⟨ae2,ge,p2,S2,a2⟩:=hs _ _ _ _ _ _ _ _ _ S1 (rr.mono (a1.mov S)) q2
  refine⟨ae2,ge,?_,S2,a1.trans S a2⟩
  unfold gsC;dsimp only;rw[p1];exact p2
def rg_t(n:Nat)(hs:RGs gs gs3):RG (gT λds ae h=>if ds.length=n then gs ds ae h else .stuck) (pT n gs3):=λX h0 ns e ae h d v e' S r q=>by
 unfold pT at q
 split at q
 ·split at q
  ·rename_i hn
   obtain⟨ds,rfl,r2⟩:=ShR.tup (.inl r)
   obtain⟨ae1,ns1,p1,S1,a1⟩:=hs _ _ _ _ _ _ _ _ _ S r2 q
   refine⟨ae1,ns1,?_,S1,a1⟩
   unfold gT;dsimp only;rw[if_pos (by rw[r2.len];exact hn)];exact p1
  ·cases q
 ·cases q
def IM(hg:RG g g3):RG (λd ae h=>noX (g d ae h)) g3:=λX h0 ns e ae h d v e' S r q=>by
 obtain⟨ae1,ns1,p1,S1,a1⟩:=hg _ _ _ _ _ _ _ _ _ S r q
 exact⟨ae1,ns1,by dsimp only;rw[p1];rfl,S1,a1⟩
def D8(hF:RE F F3)(hg:RG g g3):RS (iH F g) (CG F3 g3):=λX h0 ns e ae h S=>PoS.toS (hF X h0 0 ns e ae h S (OK _)) λd t h1 ns1 e1 a1 S1 r1=>by
 try dsimp only
 split
 ·rename_i e2 v q
  obtain⟨ge,S2,a2,r2⟩:=gJ S1 r1 q
  split
  ·rename_i e3 q3
   obtain⟨ae3,ns3,p3,S3,a3⟩:=hg _ _ _ _ _ _ _ _ _ S2 r2 q3
   rw[p3]
   exact .nx ((a1.trans S a2).trans S a3) S3
  ·trivial
 ·trivial
def FE(i j:Nat)(hA:RA A A3):RS (A5 i j A) (wPar i j A3):=λX h0 ns e ae h S=>PoS.toS (hA X h0 ns e ae h S) λds ts h1 ns1 e1 a1 S1 r1=>by
 try dsimp only
 cases q:dem e1 ts with
 |none=>trivial
 |
  some w=>
  obtain⟨e2,vs⟩:=w
  obtain⟨ge,S2,a2,r2⟩:=kd S1 r1 q
  match vs,ds,r2 with
  | [],_,_=>trivial
  | [_],_,_=>trivial
  |_::_::_::_,_,_=>trivial
  |
   [v,u],[d,d'],r2=>
   dsimp only
   split
   ·rename_i e3 q3
    obtain⟨e4,q4,q5⟩:=OO.mp q3
    cases r2 with
    |
     cons r rr=>
     cases rr with
     |
      cons r' rr=>
      obtain⟨ae3,ns3,p3,S3,a3⟩:=uV i _ _ _ _ _ _ _ _ _ S2 r q4
      obtain⟨ae4,ns4,p4,S4,a4⟩:=uV j _ _ _ _ _ _ _ _ _ S3 (r'.mono (a3.mov S2)) q5
      have z3:ae3=ae.set i (some d):=by have:=p3;unfold gN at this;cases this;rfl
      have z4:ae4=ae3.set j (some d'):=by have:=p4;unfold gN at this;cases this;rfl
      subst z4 z3
      exact .nx (((a1.trans S a2).trans S a3).trans S a4) S4
   ·trivial
def HZ{gg:D->D->AH->R D}{gg3:Val->Val->Bv}(i:Nat)(hg:RO gg gg3)(hF:RE F F3):RS (uM i gg F) (AO i gg3 F3):=λX h0 ns e ae h S=>by
 unfold AO
 split
 ·rename_i x q0
  obtain⟨_,dx,e1,r0⟩:=S.sl i _ q0
  unfold uM
  rw[e1]
  refine PoS.toS (hF X h0 0 ns e ae h S (OK _)) λd t h1 ns1 e1 a1 S1 r1=>?_
  try dsimp only
  split
  ·rename_i y q1
   have b:=hg _ _ _ _ _ _ (.inl (r0.mono (a1.mov S))) (r1.sh S1 q1)
   split
   ·rename_i z q2
    rw[q2] at b
    obtain⟨dz,p1,r2⟩:=b
    split
    ·rename_i e2 q3
     rw[p1]
     obtain⟨ae3,ns3,p3,S3,a3⟩:=uV i _ _ _ _ _ _ _ _ _ S1 r2 q3
     have z3:ae3=ae.set i (some dz):=by have:=p3;unfold gN at this;cases this;rfl
     subst z3
     exact .nx (a1.trans S a3) S3
    ·trivial
   ·trivial
  ·trivial
 ·trivial
def TsR.len{X:Nat->Prop}{ns:Ns}{ae:AE}{h:AH}{ds:List D}{ts:List Tm}(r:TsR X ns ae h ds ts):ds.length=ts.length:=by
 induction r with
 |nil=>rfl
 |val _ _ ih=>rw[Oo,Oo,ih]
 |bor _ _ ih=>rw[Oo,Oo,ih]
def Bl(x:Str)(hA:RA A A3):RS (uf x A) (yi x A3):=λX h0 ns e ae h S=>PoS.toS (hA X h0 ns e ae h S) λds ts h1 ns1 e1 a1 S1 r1=>by
 try dsimp only
 by_cases hl:ts.length<=16777216
 ·rw[if_pos hl,if_pos (by rw[TsR.len r1];exact hl)]
  exact⟨ae,h1,ns1,rfl,a1,S1⟩
 ·rw[if_neg hl];trivial
end
def Sl.re(s:Sl)(u:Val):Sl:=match s with
 |.ow _=>.ow u
 |.mu _=>.mu u
 |s=>s
def Sl.mv:Sl->Option Val
 |.ow v=>some v
 |.mu v=>some v
 |_=>none
section
variable{X:Nat->Prop}{h0 L:Nat}{ns ns1 ns':Ns}{e e1 e':E3}{ae:AE}{h h1 h':AH}
def Sat.write(S:Sat X h0 ns e ae h){i:Nat}{s:Sl}{u:Val}(q:e[i]?=some s)(hm:s.mv=some u):∃n o,ae[i]?=some (some (.ref n))/\h[n]?=some o/\cP o/\Rc (Oc X ns) h o u/\
 ∀o' u',cP o'->Rc (Oc X ns) h o' u'->Mov (Oc X ns) (Oc X ns) h (h.set n o')/\Sat X h0 ns (e.set i (s.re u')) ae (h.set n o')/\Stp ns e h ns (e.set i (s.re u')) (h.set n o'):=by
 have hi:=(N_.mp q).1
 have key:∃n o,ns[i]?=some (some n)/\ae[i]?=some (some (.ref n))/\h[n]?=some o/\cP o/\Rc (Oc X ns) h o u/\s.mt=true/\(∀o' u',cP o'->Rc (Oc X ns) (h.set n o') o' u'->SlR (Oc X ns) h0 (some (some n)) (some (some (.ref n))) (h.set n o') (s.re u')):=by
  have y:=S.sl i s q
  cases s with
  |ow v=>cases hm;obtain⟨n,o,q1,q2,q3,q4,q5,q6⟩:=y;exact⟨n,o,q1,q2,q4,q5,q6,rfl,λo' u' hf r=>⟨n,o',rfl,rfl,q3,ck (cz q4),hf,r⟩⟩
  |mu v=>cases hm;obtain⟨n,o,q1,q2,q4,q5,q6⟩:=y;exact⟨n,o,q1,q2,q4,q5,q6,rfl,λo' u' hf r=>⟨n,o',rfl,rfl,ck (cz q4),hf,r⟩⟩
  |_=>cases hm
 obtain⟨n,o,k1,k2,k3,k4,k5,k6,k7⟩:=key
 refine⟨n,o,k2,k3,k4,k5,λo' u' hf r=>?_⟩
 have mv:Mov (Oc X ns) (Oc X ns) h (h.set n o'):=λm ob p q'=>⟨p,by
  have:m≠n:=λz=>p.2 (bB.mpr ⟨i,by rw[z];exact k1⟩)
  rw[bP this];exact q'⟩
 refine⟨mv,⟨by rw[Oq];exact S.l1,by rw[Oq];exact S.l2,by rw[Oq];exact S.lh,λm z=>by rw[Oq];exact S.xl m z,S.inj,S.nx,λj s' qj=>?_⟩,?_⟩
 ·rcases bY hi qj with ⟨rfl,rfl⟩ |⟨z,qj'⟩
  ·rw[k1,k2];exact k7 o' u' hf (r.mono mv)
  ·refine (S.sl j s' qj').mono mv λm ob qm qo=>?_
   have:m≠n:=λy=>by subst y;exact z (S.inj j i m qm k1)
   rw[bP this];exact qo
 ·refine⟨by rw[Oq];exact Oe _,λm ob qm hM=>?_,λ_ _ q=>.inl q,λj s' qj hl=>?_,λj s' qj hl=>?_,λj v qj=>?_,λj v qj=>?_⟩
  ·have:m≠n:=λy=>by subst y;exact hM ⟨i,s,k1,q,k6⟩
   rw[bP this];exact qm
  ·have z:j≠i:=λz=>by subst z;rw[q] at qj;cases qj;cases s <;> first |cases hl;done |cases k6;done
   rw[bP z];exact⟨qj,rfl⟩
  ·rcases bY hi qj with ⟨_,y⟩ |⟨z,qj'⟩
   ·subst y;cases s <;> first |cases hl;done |cases k6;done
   ·exact⟨qj',rfl⟩
  ·rcases bY hi qj with ⟨rfl,y⟩ |⟨z,qj'⟩
   ·cases s with
    |mu w=>exact⟨w,q,rfl⟩
    |ow w=>cases y
    |_=>cases k6
   ·exact⟨v,qj',rfl⟩
  ·by_cases z:j=i
   ·subst z;rw[q] at qj;cases qj;exact⟨u',ck hi,rfl⟩
   ·exact⟨v,by rw[bP z];exact qj,rfl⟩
end
def xk(w2:D->D->D->AH->R Unit)(w3:Val->Val->Val->Option Val):Prop:=∀P h n o u di vi d v u',¬ P n->h[n]?=some o->cP o->Rc P h o u->ShR P h di vi->Rd P h d v->w3 u vi v=some u'->∃o',w2 (.ref n) di d h=.ok () (h.set n o')/\cP o'/\Rc P h o' u'
def wSet(i:Nat)(G:ME3)(F:ME3)(w:Val->Val->Val->Option Val):MS3:=λe=>(F e).toS λt e1=>match (e1[i]?).bind Sl.mv with
 |none=>.stuck
 |some _=>(G e1).toS λt2 e2=>match rs e2 t2 with
  |none=>.stuck
  |some vi=>match dE e2 t.drop with
   |none=>.stuck
   |some (e3,v)=>match e3[i]? with
    |none=>.stuck
    |some s=>match s.mv with
     |none=>.stuck
     |some u=>match w u vi v with
      |some u'=>.nx (e3.set i (s.re u'))
      |none=>.stuck
def RM(m2:D->List D->AH->R D)(m3:Val->List Val->Option (Val×Val)):Prop:=∀P h n o u ds vs u' v,h[n]?=some o->cP o->Rc P h o u->Rds P h ds vs->m3 u vs=some (u',v)->kM h (.ref n)=true/\∃o' d,m2 (.ref n) ds h=.ok d (h.set n o')/\cP o'/\Rc P h o' u'/\Rd P h d v
def ku:Val->Bool
 |.lst _=>true
 |_=>false
def nK(i:Nat)(m:Val->List Val->Option (Val×Val))(A:MA3):ME3:=λe=>match e[i]? with
 |some s=>if (s.mv.map ku)=some true then (A e).bind λts e1=>match dem e1 ts with
  |some (e2,vs)=>match e2[i]? with
   |some s2=>match s2.mv with
    |some u=>match m u vs with
     |some (u',v)=>.ok (.val v) (e2.set i (s2.re u'))
     |none=>.stuck
    |none=>.stuck
   |none=>.stuck
  |none=>.stuck else .stuck
 |none=>.stuck
section
variable{F G:ME}{F3 G3:ME3}{A:MA}{A3:MA3}
def Dx{X:Nat->Prop}{h0:Nat}{ns:Ns}{e:E3}{ae:AE}{h:AH}(S:Sat X h0 ns e ae h){i:Nat}{u:Val}(q:(e[i]?).bind Sl.mv=some u):∃n o,ae[i]?=some (some (.ref n))/\h[n]?=some o/\cP o/\Rc (Oc X ns) h o u:=by
 obtain⟨s,q1,q2⟩:=OO.mp q
 obtain⟨n,o,k1,k2,k3,k4,_⟩:=S.write q1 q2
 exact⟨n,o,k1,k2,k3,k4⟩
def Ho{w2:D->D->D->AH->R Unit}{w3:Val->Val->Val->Option Val}(i:Nat)(hw:xk w2 w3)(hG:RE G G3)(hF:RE F F3):RS (iH F (gS (aU i) G w2)) (wSet i G3 F3 w3):=λX h0 ns e ae h S=>PoS.toS (hF X h0 0 ns e ae h S (OK _)) λd t h1 ns1 e1 a1 S1 r1=>by
 try dsimp only
 cases qm:(e1[i]?).bind Sl.mv with
 |none=>trivial
 |
  some u0=>
  obtain⟨n0,o0,b1,b2,b3,b4⟩:=Dx S1 qm
  have L2e:∀h',(gS (aU i) G w2 d ae h').toS ae (λbd h2=>SR.nx bd h2)=(G ae h').toS ae λdi h2=>(w2 (.ref n0) di d h2).toS ae λ_ h3=>.nx ae h3:=λh'=>by
   unfold gS aU
   rw[b1]
   simp only[gF]
   cases G ae h' with
   |
    ok di h2=>
    simp only[gF]
    show _=(w2 (.ref n0) di d h2).toS ae λ_ h3=>.nx ae h3
    cases w2 (.ref n0) di d h2 <;> rfl
   |exc c h2=>rfl
   |stuck=>rfl
  rw[L2e]
  refine PoS.after S a1 (PoS.toS (hG X h0 0 ns1 e1 ae h1 S1 (OK _)) λdi t2 h2 ge e2 a2 S2 r2=>?_)
  try dsimp only
  cases qi:rs e2 t2 with
  |none=>trivial
  |
   some vi=>
   try dsimp only
   cases qd:dE e2 t.drop with
   |none=>trivial
   |
    some w=>
    obtain⟨e3,v⟩:=w
    try dsimp only
    obtain⟨r1',hn⟩:=r1.drop
    have r3:=r1'.stp S1 a2 hn
    have si:=r2.sh S2 qi
    obtain⟨ns3,S3,a3,r4⟩:=gJ S2 r3 qd
    have si3:ShR (Oc X ns3) h2 di vi:=by
     rcases si with z |⟨n,o,z1,z2,z3⟩
     ·exact .inl (z.mono (a3.mov S2))
     ·exact .inr ⟨n,o,z1,z2,z3.mono (a3.mov S2)⟩
    cases q3:e3[i]? with
    |none=>trivial
    |
     some s=>
     try dsimp only
     cases q4:s.mv with
     |none=>trivial
     |
      some u=>
      try dsimp only
      cases q5:w3 u vi v with
      |none=>trivial
      |
       some u'=>
       obtain⟨n,o,k1,k2,k3,k4,k5⟩:=S3.write q3 q4
       rw[b1] at k1;cases k1
       have nP:¬ Oc X ns3 n0:=λp=>by
        have z1:=((k5 (.lst []) (.lst []) trivial (.lst .nil)).1 _ _ p k2).2
        have z2:=((k5 (.lst [.non]) (.lst [.non]) trivial (.lst (.cons .non .nil))).1 _ _ p k2).2
        rw[ck (cz k2)] at z1 z2
        rw[<- z2] at z1
        cases z1
       obtain⟨o',p1,p2,p3⟩:=hw _ _ _ _ _ _ _ _ _ _ nP k2 k3 k4 si3 r4 q5
       obtain⟨mv,S4,a4⟩:=k5 o' u' p2 p3
       rw[p1]
       exact .nx ((a2.trans S1 a3).trans S1 a4) S4
def zH{m2:D->List D->AH->R D}{m3:Val->List Val->Option (Val×Val)}(i:Nat)(hm:RM m2 m3)(hA:RA A A3):RE (eM m2 (aU i) A) (nK i m3 A3):=λX h0 L ns e ae h S hl=>by
 unfold nK
 cases q0:e[i]? with
 |none=>trivial
 |
  some s0=>
  dsimp only
  split
  ·rename_i hz
   obtain⟨u0,z1,z2⟩:=OE.mp hz
   obtain⟨n0,o0,b1,b2,b3,b4,_⟩:=S.write q0 z1
   have hL:kM h (.ref n0)=true:=by
    cases u0 with
    |lst xs=>obtain⟨ds,_,e1,_⟩:=Rc.seq b2 b4;show (bD h n0).isSome=true;rw[e1];rfl
    |_=>cases z2
   have L2e:eM m2 (aU i) A ae h=(A ae h).bind λds h2=>m2 (.ref n0) ds h2:=by
    unfold eM aU
    rw[b1]
    simp only[gF,hL,Pw]
   rw[L2e]
   refine Po.bind S (hA X h0 ns e ae h S) λds ts h1 ns1 e1 a1 S1 r1=>?_
   try dsimp only
   cases q1:dem e1 ts with
   |none=>trivial
   |
    some w=>
    obtain⟨e2,vs⟩:=w
    try dsimp only
    obtain⟨ge,S2,a2,r2⟩:=kd S1 r1 q1
    cases q2:e2[i]? with
    |none=>trivial
    |
     some s2=>
     try dsimp only
     cases q3:s2.mv with
     |none=>trivial
     |
      some u=>
      try dsimp only
      cases q4:m3 u vs with
      |none=>trivial
      |
       some w=>
       obtain⟨u',v⟩:=w
       obtain⟨n,o,k1,k2,k3,k4,k5⟩:=S2.write q2 q3
       rw[b1] at k1;cases k1
       obtain⟨_,o',d,p1,p2,p3,p4⟩:=hm _ _ _ _ _ _ _ _ _ k2 k3 k4 r2 q4
       obtain⟨mv,S4,a4⟩:=k5 o' u' p2 p3
       exact⟨d,_,ge,p1,a2.trans S1 a4,S4,p4.mono mv⟩
  ·trivial
def EZ{m2:D->List D->AH->R D}{m3:Val->List Val->Option (Val×Val)}(i:Nat)(hm:RM m2 m3):RE (eM0 m2 (aU i)) (nK i m3 pV):=by
 have:=zH i hm yC
 intro X h0 L ns e ae h S hl
 have p:=this X h0 L ns e ae h S hl
 have e1:eM m2 (aU i) cK ae h=eM0 m2 (aU i) ae h:=by
  unfold eM eM0 cK
  rfl
 rw[e1] at p
 exact p
end
end L3
namespace L3
open PySem PySem.Spec PyProof.Rows L2
def kD:Sl->Sl
 |.ow v=>.lo v
 |.mu v=>.lm v
 |s=>s
def mj:Sl->Sl
 |.lo v=>.ow v
 |.lm v=>.mu v
 |s=>s
def lock(e:E3)(k:Nat):E3:=match e[k]? with
 |some s=>e.set k (kD s)
 |none=>e
def unlock(e:E3)(k:Nat):E3:=match e[k]? with
 |some s=>e.set k (mj s)
 |none=>e
def lockO(e:E3):Option Nat->E3
 |some k=>lock e k
 |none=>e
def fX(e:E3):Option Nat->E3
 |some k=>unlock e k
 |none=>e
def BF{α:Type}{l:List α}{i:Nat}{a:α}(q:l[i]?=some a):l.set i a=l:=by
 obtain⟨h,q⟩:=N_.mp q
 subst q
 exact List.set_getElem_self h
section
variable{X:Nat->Prop}{h0 L:Nat}{ns ns1 ns':Ns}{e e1 e':E3}{ae bd:AE}{h h1 h':AH}
def SlR.lock{P:Nat->Prop}{n:Option (Option Nat)}{d:Option (Option D)}{s:Sl}(r:SlR P h0 n d h s):SlR P h0 n d h (kD s):=by cases s <;> exact r
def SlR.unlock{P:Nat->Prop}{n:Option (Option Nat)}{d:Option (Option D)}{s:Sl}(r:SlR P h0 n d h s):SlR P h0 n d h (mj s):=by cases s <;> exact r
def Sat.lock(S:Sat X h0 ns e ae h)(k:Nat):Sat X h0 ns (lock e k) ae h:=by
 unfold L3.lock
 split
 ·rename_i s q
  have hi:=(N_.mp q).1
  refine⟨by rw[Oq];exact S.l1,by rw[Oq];exact S.l2,S.lh,S.xl,S.inj,S.nx,λj s' qj=>?_⟩
  rcases bY hi qj with ⟨rfl,rfl⟩ |⟨z,qj'⟩
  ·exact (S.sl j s q).lock
  ·exact S.sl j s' qj'
 ·exact S
def Sat.unlock(S:Sat X h0 ns e ae h)(k:Nat):Sat X h0 ns (unlock e k) ae h:=by
 unfold L3.unlock
 split
 ·rename_i s q
  have hi:=(N_.mp q).1
  refine⟨by rw[Oq];exact S.l1,by rw[Oq];exact S.l2,S.lh,S.xl,S.inj,S.nx,λj s' qj=>?_⟩
  rcases bY hi qj with ⟨rfl,rfl⟩ |⟨z,qj'⟩
  ·exact (S.sl j s q).unlock
  ·exact S.sl j s' qj'
 ·exact S
def kc{k j:Nat}(z:j≠k):(lock e k)[j]?=e[j]?:=by
 unfold lock;split
 ·rw[bP z]
 ·rfl
def ik{k j:Nat}(z:j≠k):(unlock e k)[j]?=e[j]?:=by
 unfold unlock;split
 ·rw[bP z]
 ·rfl
def qw{k:Nat}{s:Sl}(q:e[k]?=some s):(lock e k)[k]?=some (kD s):=by
 unfold lock;rw[q];exact ck (N_.mp q).1
def jz{k:Nat}{s:Sl}(q:e[k]?=some s):(unlock e k)[k]?=some (mj s):=by
 unfold unlock;rw[q];exact ck (N_.mp q).1
def Stp.unlock{k:Nat}{s:Sl}(q:e[k]?=some s)(hs:s.mt=true)(a:Stp ns (L3.lock e k) h ns' e' h'):Stp ns e h ns' (L3.unlock e' k) h':=by
 have hl:(kD s).lk=true:=by cases s <;> first |rfl |cases hs
 have hu:mj (kD s)=s:=by cases s <;> first |rfl |cases hs
 obtain⟨qk,nk⟩:=a.lk k _ (qw q) hl
 refine⟨a.len,λm o qm hM=>a.keep m o qm λ⟨j,s',z1,z2,z3⟩=>hM ?_,a.nw,λj s' qj hj=>?_,λj s' qj hj=>?_,λj v qj=>?_,λj v qj=>?_⟩
 ·by_cases z:j=k
  ·subst z;exact⟨j,s,z1,q,hs⟩
  ·rw[kc z] at z2;exact⟨j,s',z1,z2,z3⟩
 ·have z:j≠k:=λz=>by subst z;rw[q] at qj;cases qj;cases s <;> first |cases hs;done |cases hj;done
  rw[ik z]
  exact a.lk j s' (by rw[kc z];exact qj) hj
 ·have z:j≠k:=λz=>by
   subst z
   rw[jz qk,hu] at qj;cases qj;cases s <;> first |cases hs;done |cases hj;done
  rw[ik z] at qj
  obtain⟨y1,y2⟩:=a.lk' j s' qj hj
  rw[kc z] at y1
  exact⟨y1,y2⟩
 ·by_cases z:j=k
  ·subst z;rw[jz qk,hu] at qj;cases qj;exact⟨v,q,nk⟩
  ·rw[ik z] at qj
   obtain⟨u,y1,y2⟩:=a.mu j v qj
   rw[kc z] at y1
   exact⟨u,y1,y2⟩
 ·by_cases z:j=k
  ·subst z;rw[q] at qj;cases qj;exact⟨v,by rw[jz qk,hu],nk⟩
  ·obtain⟨u,y1,y2⟩:=a.mu' j v (by rw[kc z];exact qj)
   exact⟨u,by rw[ik z];exact y1,y2⟩
end
abbrev MI3:=E3->R3 (List Val×Option Nat)
def Stay(X:Nat->Prop)(ns:Ns)(k:Option Nat)(h h':AH):Prop:=∀(m:Nat) (o:Ob),h[m]?=some o->(Oc X ns m\/∃j:Nat,k=some j/\ns[j]?=some (some m))->h'[m]?=some o
def tG(X:Nat->Prop)(ns:Ns)(e:E3)(h:AH)(it:AIt)(p:List Val×Option Nat):Prop:=
 Rds (Oc X ns) h it.items p.1/\(∀h',Stay X ns p.2 h h'->it.guard h')/\∀k:Nat,p.2=some k->∃s,e[k]?=some s/\s.mt=true
def RI(I:MI)(J:MI3):Prop:=∀X h0 ns e ae h,Sat X h0 ns e ae h->Po X h0 ns e ae h (tG X) (I ae h) (J e)
def jA:Val->Option (List Val)
 |.tup xs=>some xs
 |.lst xs=>some xs
 |_=>none
def gK(t:Tm)(e:E3):Option (List Val×Option Nat):=match t with
 |.val v=>(jA v).map λxs=>(xs,none)
 |.new v=>(jA v).map λxs=>(xs,none)
 |.bor k=>match e[k]? with
  |some (.sh v)=>(jA v).map λxs=>(xs,none)
  |some (.ow (.lst xs))=>some (xs,some k)
  |some (.mu (.lst xs))=>some (xs,some k)
  |_=>none
def CM(F:ME3):MI3:=λe=>(F e).bind λt e1=>match gK t e1 with
 |some p=>.ok p e1
 |none=>.stuck
def CJ(A:MA3):MI3:=λe=>(A e).bind λts e1=>match ts with
 | [t,u]=>(match gK t e1,gK u e1 with
  |some (xs,k),some (ys,none)=>.ok (List.zipWith (λx y=>.tup [x,y]) xs ys,k) e1
  |_,_=>.stuck)
 |_=>.stuck
def xv(lo:Int)(k:Nat):List Val:=(List.range k).map λi=>Val.int (lo+(i:Nat))
structure RgB(j:Int):Prop where
 lo:-(2^62)<=j
 hi:j<2^62
def gD:List Val->Option (List Val)
 | [.int j]=>@ite _ (RgB j) (Classical.propDecidable _) (some (xv 0 j.toNat)) none
 |_=>none
def Ca(f:List Val->Option (List Val))(A:MA3):MI3:=λe=>(A e).bind λts e1=>match (rss e1 ts).bind f with
 |some xs=>.ok (xs,none) e1
 |none=>.stuck
section
variable{F:ME}{F3:ME3}{A:MA}{A3:MA3}
def xE{X:Nat->Prop}{h0:Nat}{ns:Ns}{e:E3}{ae:AE}{h:AH}{d:D}{v:Val}{xs:List Val}(S:Sat X h0 ns e ae h)(r:Rd (Oc X ns) h d v)(q:jA v=some xs):∃it,iJ d h=some it/\tG X ns e h it (xs,none):=by
 cases v with
 |
  tup ys=>
  cases q
  obtain⟨ds,rfl,r2⟩:=ShR.tup (.inl r)
  exact⟨_,rfl,r2,λ_ _=>trivial,λ_ z=>nomatch z⟩
 |
  lst ys=>
  cases q
  cases r with
  |
   cell p eo rc=>
   rename_i n o
   obtain⟨ds,_,e1,r1⟩:=Rc.seq eo rc
   refine⟨.lst n ds,by unfold iJ;dsimp only;rw[e1];rfl,r1,λh' st=>?_,λ_ z=>nomatch z⟩
   show bD h' n=some ds
   have:=st n o eo (.inl p)
   unfold bD at e1 ⊢
   rw[eo] at e1
   rw[this];exact e1
 |_=>cases q
def tH{X:Nat->Prop}{h0 L:Nat}{ns:Ns}{e:E3}{ae:AE}{h:AH}{d:D}{t:Tm}{p:List Val×Option Nat}(S:Sat X h0 ns e ae h)(r:relE X h0 L ae ns e h d t)(q:gK t e=some p):∃it,iJ d h=some it/\tG X ns e h it p:=by
 cases t with
 |val v=>obtain⟨xs,q1,rfl⟩:=OE.mp q;exact xE S r q1
 |new v=>obtain⟨xs,q1,rfl⟩:=OE.mp q;exact xE S r.new q1
 |
  bor k=>
  have r':ae[k]?=some (some d):=r
  have own:∀{s xs},e[k]?=some s->s.mv=some (.lst xs)->∃it,iJ d h=some it/\tG X ns e h it (xs,some k):=λ{s xs} q qm=>by
   have hns:∃n,ns[k]?=some (some n)/\ae[k]?=some (some (.ref n)):=by
    have y:=S.sl k s q
    cases s with
    |ow v=>obtain⟨n,o,y1,y2,_⟩:=y;exact⟨n,y1,y2⟩
    |mu v=>obtain⟨n,o,y1,y2,_⟩:=y;exact⟨n,y1,y2⟩
    |_=>cases qm
   obtain⟨n,y1,y2⟩:=hns
   obtain⟨n',o,k1,k2,k3,k4,_⟩:=S.write q qm
   rw[y2] at k1;cases k1
   rw[r'] at y2;cases y2
   obtain⟨ds,_,e2,r2⟩:=Rc.seq k2 k4
   refine⟨.lst n ds,by unfold iJ;dsimp only;rw[e2];rfl,r2,λh' st=>?_,λj z=>?_⟩
   ·show bD h' n=some ds
    have:=st n o k2 (.inr ⟨k,rfl,y1⟩)
    unfold bD at e2 ⊢
    rw[k2] at e2
    rw[this];exact e2
   ·cases z;exact⟨s,q,by cases s <;> first |rfl |cases qm⟩
  unfold gK at q
  dsimp only at q
  split at q
  ·rename_i v qs
   obtain⟨_,x,e2,r2⟩:=S.sl k _ qs
   rw[r'] at e2;cases e2
   obtain⟨xs,q1,rfl⟩:=OE.mp q
   exact xE S r2 q1
  ·rename_i xs qs;cases q;exact own qs rfl
  ·rename_i xs qs;cases q;exact own qs rfl
  ·cases q
def Bi(d:D)(h:AH):R AIt:=match d with
 |.tup xs=>.ok (.tup xs) h
 |.ref n=>match bD h n with
  |some xs=>.ok (.lst n xs) h
  |none=>.stuck
 |_=>.stuck
def EJ{d:D}{h:AH}{it:AIt}(q:iJ d h=some it):Bi d h=.ok it h:=by
 cases d with
 |tup xs=>cases q;rfl
 |
  ref n=>
  obtain⟨xs,y1,rfl⟩:=OE.mp (show (bD h n).map (AIt.lst n)=some it from q)
  unfold Bi;dsimp only;rw[y1]
 |_=>cases q
def ID(hF:RE F F3):RI (BL F) (CM F3):=λX h0 ns e ae h S=>
 Po.bind S (hF X h0 0 ns e ae h S (OK _)) λd t h1 ns1 e1 a1 S1 r1=>by
  show Po X h0 ns1 e1 ae h1 (tG X) (Bi d h1) _
  cases q:gK t e1 with
  |none=>trivial
  |
   some p=>
   dsimp only
   obtain⟨it,q1,q2⟩:=tH S1 r1 q
   exact⟨it,h1,ns1,EJ q1,.refl,S1,q2⟩
def ER{P:Nat->Prop}{h:AH}{ds es:List D}{vs us:List Val}(r:Rds P h ds vs)(q:Rds P h es us):Rds P h (List.zipWith (λx y=>D.tup [x,y]) ds es) (List.zipWith (λx y=>Val.tup [x,y]) vs us):=
 r.ind (M:=λds vs=>∀{es:List D}{us:List Val},Rds P h es us->Rds P h (List.zipWith (λx y=>D.tup [x,y]) ds es) (List.zipWith (λx y=>Val.tup [x,y]) vs us)) (λ_=>.nil) (λr _ ih _ _ q=>by
  cases q with
  |nil=>exact .nil
  |cons q qq=>exact .cons (.tup (.cons r (.cons q .nil))) (ih qq)) q
def tsr1{X:Nat->Prop}{h0:Nat}{ns:Ns}{e:E3}{ae:AE}{h:AH}{ds:List D}{t:Tm}(r:TsR X ns ae h ds [t]):∃d,ds=[d]/\relE X h0 0 ae ns e h d t:=by
 cases r with
 |val r rr=>cases rr;exact⟨_,rfl,r⟩
 |bor r rr=>cases rr;exact⟨_,rfl,r⟩
def tsr2{X:Nat->Prop}{h0:Nat}{ns:Ns}{e:E3}{ae:AE}{h:AH}{ds:List D}{t u:Tm}(r:TsR X ns ae h ds [t,u]):∃d d',ds=[d,d']/\relE X h0 0 ae ns e h d t/\relE X h0 0 ae ns e h d' u:=by
 cases r with
 |val r rr=>obtain⟨d',rfl,r'⟩:=tsr1 (h0:=h0) (e:=e) rr;exact⟨_,_,rfl,r,r'⟩
 |bor r rr=>obtain⟨d',rfl,r'⟩:=tsr1 (h0:=h0) (e:=e) rr;exact⟨_,_,rfl,r,r'⟩
def FI(hA:RA A A3):RI (Am A) (CJ A3):=λX h0 ns e ae h S=>
 Po.bind
  S (hA X h0 ns e ae h S) λds ts h1 ns1 e1 a1 S1 r1=>by
  match ts,r1 with
  | [],_=>trivial
  | [_],_=>trivial
  |_::_::_::_,_=>trivial
  |
   [t,u],r1=>
   obtain⟨d,d',rfl,r2,r3⟩:=tsr2 (h0:=h0) (e:=e1) r1
   dsimp only
   cases q:gK t e1 with
   |none=>trivial
   |
    some p=>
    obtain⟨xs,k⟩:=p
    cases q':gK u e1 with
    |none=>trivial
    |
     some p'=>
     obtain⟨ys,k'⟩:=p'
     cases k' with
     |some _=>trivial
     |
      none=>
      obtain⟨it,q1,q2,q3,q4⟩:=tH S1 r2 q
      obtain⟨it',q1',q2',q3',q4'⟩:=tH S1 r3 q'
      rw[q1,q1']
      exact⟨.zip it it',h1,ns1,rfl,.refl,S1,ER q2 q2',λh' st=>⟨q3 h' st,q3' h' λm o hm hc=>st m o hm (hc.elim .inl λ⟨_,z,_⟩=>nomatch z)⟩,q4⟩
def EF{P:Nat->Prop}{h:AH}(lo:Int)(k:Nat):Rds P h (AIt.rng lo k).items (xv lo k):=by
 show Rds P h ((List.range k).map λi=>D.int (lo+(i:Nat))) ((List.range k).map λi=>Val.int (lo+(i:Nat)))
 generalize List.range k=l
 induction l with
 |nil=>exact .nil
 |cons i l ih=>exact .cons (.int _) ih
def gv{P:Nat->Prop}{h:AH}{ds:List D}{v:Val}(r:ShRs P h ds [v]):∃d,ds=[d]/\ShR P h d v:=by
 cases r with |cons r rr=>cases rr;exact⟨_,rfl,r⟩
def wN{P:Nat->Prop}{h:AH}{ds:List D}{v u:Val}(r:ShRs P h ds [v,u]):∃d d',ds=[d,d']/\ShR P h d v/\ShR P h d' u:=by
 cases r with |cons r rr=>cases rr with |cons r' rr=>cases rr;exact⟨_,_,rfl,r,r'⟩
def J9{f2:List D->AH->R AIt}{f3:List Val->Option (List Val)}(hf:∀P h ds vs xs,ShRs P h ds vs->f3 vs=some xs->∃lo k,f2 ds h=.ok (.rng lo k) h/\xs=xv lo k)(hA:RA A A3):RI (λae h=>(A ae h).bind f2) (Ca f3 A3):=λX h0 ns e ae h S=>
 Po.bind S (hA X h0 ns e ae h S) λds ts h1 ns1 e1 a1 S1 r1=>by
  try dsimp only
  split
  ·rename_i xs q
   obtain⟨vs,q1,q2⟩:=OO.mp q
   obtain⟨lo,k,p1,rfl⟩:=hf _ _ _ _ _ (TsR.sh S1 r1 q1) q2
   rw[p1]
   exact Po.ret S1 ⟨EF _ _,λ_ _=>trivial,λ_ z=>nomatch z⟩
  ·trivial
def HP(hA:RA A A3):RI (BN A) (Ca gD A3):=J9 (f2:=λds h1=>match ds with
 | [.int j]=>if -(2^62)<=j/\j<2^62 then .ok (.rng 0 j.toNat) h1 else .stuck
 |
  _=>.stuck) (λP h ds vs xs r q=>by
  unfold gD at q
  split at q
  ·split at q
   ·rename_i hb
    cases q
    obtain⟨d,rfl,r2⟩:=gv r
    obtain rfl:=r2.int
    exact⟨_,_,by dsimp only;rw[if_pos ⟨hb.lo,hb.hi⟩],rfl⟩
   ·cases q
  ·cases q) hA
end
def SR3.loop(r:SR3)(f:E3->SR3):SR3:=match r with
 |.nx e=>f e
 |.ct e=>f e
 |.bk e=>.nx e
 |.rt d e=>.rt d e
 |.exc c e=>.exc c e
 |.stuck=>.stuck
def eJ(g:MG3)(B:MS3):List Val->MS3
 | [],e=>.nx e
 |v::vs,e=>match g v e with
  |some e1=>(B e1).loop (eJ g B vs)
  |none=>.stuck
def SR3.unl(k:Option Nat)(r:SR3):SR3:=match r with
 |.nx e=>.nx (fX e k)
 |.ct e=>.ct (fX e k)
 |.bk e=>.bk (fX e k)
 |.rt d e=>.rt d (fX e k)
 |.exc c e=>.exc c (fX e k)
 |.stuck=>.stuck
def wFor(I:MI3)(g:MG3)(B:MS3):MS3:=λe=>(I e).toS λp e1=>(eJ g B p.1 (lockO e1 p.2)).unl p.2
section
variable{I:MI}{I3:MI3}{g:MG}{g3:MG3}{B:MS}{B3:MS3}{c:MT}{c3:MT3}{F:ME}{F3:ME3}
def PoS.loop{X:Nat->Prop}{h0:Nat}{ns:Ns}{e:E3}{ae:AE}{h:AH}{r2:SR}{r3:SR3}{f2:AE->AH->SR}{f3:E3->SR3}(p:PoS X h0 ns e h r2 r3)
 (k:∀bd h' ns' e',Stp ns e h ns' e' h'->Sat X h0 ns' e' bd h'->PoS X h0 ns e h (f2 bd h') (f3 e')):PoS X h0 ns e h (r2.loop f2) (r3.loop f3):=by
 cases r3 with
 |stuck=>trivial
 |nx e'=>obtain⟨bd,h',ns',q,q1,q2⟩:=p;rw[q];exact k bd h' ns' e' q1 q2
 |ct e'=>obtain⟨bd,h',ns',q,q1,q2⟩:=p;rw[q];exact k bd h' ns' e' q1 q2
 |bk e'=>obtain⟨bd,h',ns',q,q1,q2⟩:=p;rw[q];exact⟨bd,h',ns',rfl,q1,q2⟩
 |exc c e'=>obtain⟨bd,h',ns',q,q1,q2⟩:=p;rw[q];exact⟨bd,h',ns',rfl,q1,q2⟩
 |rt r e'=>obtain⟨d,bd,h',ns',q,q1,q2⟩:=p;rw[q];exact⟨d,bd,h',ns',rfl,q1,q2⟩
def E7{X:Nat->Prop}{h0:Nat}{ns ns':Ns}{e e':E3}{ae:AE}{h h':AH}{k:Option Nat}(S:Sat X h0 ns e ae h)(hk:∀j:Nat,k=some j->∃s,e[j]?=some s/\s.mt=true)(a:Stp ns (lockO e k) h ns' e' h'):Stay X ns k h h':=λm o q hm=>by
 refine a.keep m o q λ⟨i,s,z1,z2,z3⟩=>?_
 rcases hm with hm |⟨j,rfl,hj⟩
 ·exact hm.2 (bB.mpr ⟨i,z1⟩)
 ·have:i=j:=S.inj i j m z1 hj
  subst this
  obtain⟨s',y1,y2⟩:=hk i rfl
  have:(lockO e (some i))[i]?=some (kD s'):=qw y1
  rw[this] at z2;cases z2
  cases s' <;> first |cases y2;done |cases z3;done
def PoS.unl{X:Nat->Prop}{h0:Nat}{ns:Ns}{e:E3}{h:AH}{k:Option Nat}{r2:SR}{r3:SR3}(hk:∀j:Nat,k=some j->∃s,e[j]?=some s/\s.mt=true)(p:PoS X h0 ns (lockO e k) h r2 r3):PoS X h0 ns e h r2 (r3.unl k):=by
 cases k with
 |none=>cases r3 <;> exact p
 |
  some j=>
  obtain⟨s,y1,y2⟩:=hk j rfl
  cases r3 with
  |stuck=>trivial
  |nx e'=>obtain⟨bd,h',ns',q,q1,q2⟩:=p;exact⟨bd,h',ns',q,q1.unlock y1 y2,q2.unlock j⟩
  |ct e'=>obtain⟨bd,h',ns',q,q1,q2⟩:=p;exact⟨bd,h',ns',q,q1.unlock y1 y2,q2.unlock j⟩
  |bk e'=>obtain⟨bd,h',ns',q,q1,q2⟩:=p;exact⟨bd,h',ns',q,q1.unlock y1 y2,q2.unlock j⟩
  |exc c e'=>obtain⟨bd,h',ns',q,q1,q2⟩:=p;exact⟨bd,h',ns',q,q1.unlock y1 y2,q2.unlock j⟩
  |
   rt r e'=>
   obtain⟨d,bd,h',ns',q,q1,q2⟩:=p
   refine⟨d,bd,h',ns',q,q1.unlock y1 y2,?_⟩
   cases r with
   |val v=>exact⟨q2.1.unlock j,q2.2⟩
   |new v=>obtain⟨n,o,z1,z2,z3,z4,z5,z6,z7⟩:=q2;exact⟨n,o,z1,z2,z3,z4,z5,z6.unlock j,z7⟩
   |
    par i=>
    obtain⟨z1,z2,v,z3⟩:=q2
    refine⟨z1.unlock j,z2,v,?_⟩
    by_cases z:i=j
    ·subst z;exact jz z3
    ·exact (ik z).trans z3
def Sat.lockO{X:Nat->Prop}{h0:Nat}{ns:Ns}{e:E3}{ae:AE}{h:AH}(S:Sat X h0 ns e ae h)(k:Option Nat):Sat X h0 ns (lockO e k) ae h:=by
 cases k with
 |none=>exact S
 |some k=>exact S.lock k
def Dn{X:Nat->Prop}{h0:Nat}{ns:Ns}{e:E3}{ae:AE}{h:AH}{G:AH->Prop}(S:Sat X h0 ns e ae h)(hg:RG g g3)(hB:RS B B3)(hG:∀ns' e' h',Stp ns e h ns' e' h'->G h'):
 ∀{ds:List D}{vs:List Val},Rds (Oc X ns) h ds vs->∀{ns1:Ns}{e1:E3}{ae1:AE}{h1:AH},Stp ns e h ns1 e1 h1->Sat X h0 ns1 e1 ae1 h1->PoS X h0 ns e h (gQ G g B ds ae1 h1) (eJ g3 B3 vs e1):=by
 intro ds
 induction ds with
 |
  nil=>
  intro vs r ns1 e1 ae1 h1 a1 S1
  cases r
  unfold gQ
  rw[if_pos (hG _ _ _ a1)]
  exact .nx a1 S1
 |
  cons d0 ds ih=>
  intro vs r ns1 e1 ae1 h1 a1 S1
  cases r with
  |
   cons r rr=>
   unfold gQ eJ
   rw[if_pos (hG _ _ _ a1)]
   split
   ·rename_i e2 q
    obtain⟨ae2,ge,p2,S2,a2⟩:=hg _ _ _ _ _ _ _ _ _ S1 (r.mono (a1.mov S)) q
    rw[p2]
    have a12:=a1.trans S a2
    show PoS X h0 ns e h ((B ae2 h1).loop _) _
    refine PoS.loop (ae:=ae) (PoS.after S a12 (hB X h0 ge e2 ae2 h1 S2)) λae3 h3 ns3 e3 a3 S3=>ih rr a3 S3
   ·trivial
def F7(hI:RI I I3)(hg:RG g g3)(hB:RS B B3):RS (ph I g B) (wFor I3 g3 B3):=λX h0 ns e ae h S=>PoS.toS (hI X h0 ns e ae h S) λit p h1 ns1 e1 a1 S1 r1=>by
 obtain⟨r2,gd,hk⟩:=r1
 refine PoS.after S a1 (PoS.unl hk ?_)
 have S2:=S1.lockO p.2
 exact Dn S2 hg hB (λns' e' h' a=>gd h' (E7 S1 hk a)) r2 .refl S2
def whV(c:MT3)(B:MS3):Nat->MS3
 |0,_=>.stuck
 |k+1,e=>(c e).toS λb e1=>if b=true then (B e1).loop (whV c B k) else .nx e1
open Classical in
def wWh(c:MT3)(B:MS3):MS3:=λe=>if q:∃k,whV c B k e ≠ .stuck then whV c B q.choose e else .stuck
theorem ny{c:MT3}{B:MS3}:∀{k:Nat}{e:E3},whV c B k e ≠ .stuck->whV c B (k+1) e=whV c B k e
 |0,_,q=>absurd rfl q
 |
  k+1,e,q=>by
  have e1:whV c B (k+2) e=(c e).toS λb e1=>if b=true then (B e1).loop (whV c B (k+1)) else .nx e1:=rfl
  have e2:whV c B (k+1) e=(c e).toS λb e1=>if b=true then (B e1).loop (whV c B k) else .nx e1:=rfl
  rw[e2] at q
  rw[e1,e2]
  cases r:c e with
  |exc _ _=>rfl
  |stuck=>rfl
  |
   ok b h1=>
   rw[r] at q
   cases b with
   |false=>rfl
   |
    true=>
    have q':(B h1).loop (whV c B k) ≠ .stuck:=q
    show (B h1).loop (whV c B (k+1))=(B h1).loop (whV c B k)
    cases s:B h1 with
    |nx a2=>rw[s] at q';exact ny q'
    |ct a2=>rw[s] at q';exact ny q'
    |_=>rfl
def Ac{c:MT3}{B:MS3}{k j:Nat}{e:E3}(q:whV c B k e ≠ .stuck)(hj:k<=j):whV c B j e=whV c B k e:=by
 induction hj with
 |refl=>rfl
 |step _ ih=>rw[ny (by rw[ih];exact q),ih]
def oi{c:MT3}{B:MS3}{k:Nat}{e:E3}(q:whV c B k e ≠ .stuck):wWh c B e=whV c B k e:=by
 have hq:∃k,whV c B k e ≠ .stuck:=⟨k,q⟩
 unfold wWh
 rw[dif_pos hq]
 rcases Nat.le_total hq.choose k with z |z
 ·exact (Ac hq.choose_spec z).symm
 ·exact Ac q z
def BE(c:MT3)(B:MS3)(e:E3):wWh c B e=(c e).toS λb e1=>if b=true then (B e1).loop (wWh c B) else .nx e1:=by
 by_cases q:∃k,whV c B k e ≠ .stuck
 ·obtain⟨k,q⟩:=q
  rw[oi q]
  cases k with
  |zero=>exact absurd rfl q
  |
   succ k=>
   have e2:whV c B (k+1) e=(c e).toS λb e1=>if b=true then (B e1).loop (whV c B k) else .nx e1:=rfl
   rw[e2] at q ⊢
   cases r:c e with
   |exc _ _=>rfl
   |stuck=>rfl
   |
    ok b h1=>
    rw[r] at q
    cases b with
    |false=>rfl
    |
     true=>
     have q':(B h1).loop (whV c B k) ≠ .stuck:=q
     show (B h1).loop (whV c B k)=(B h1).loop (wWh c B)
     cases s:B h1 with
     |nx a2=>rw[s] at q';exact (oi q').symm
     |ct a2=>rw[s] at q';exact (oi q').symm
     |_=>rfl
 ·have e0:wWh c B e=.stuck:=by unfold wWh;rw[dif_neg q]
  rw[e0]
  have hs:∀k,whV c B (k+1) e=.stuck:=λk=>Qk λz=>q ⟨_,z⟩
  cases r:c e with
  |stuck=>rfl
  |
   exc c' h'=>
   have:=hs 0
   unfold whV at this
   rw[r] at this
   cases this
  |
   ok b h1=>
   cases b with
   |
    false=>
    have:=hs 0
    unfold whV at this
    rw[r] at this
    cases this
   |
    true=>
    have h2:∀k,(B h1).loop (whV c B k)=.stuck:=λk=>by
     have:=hs k
     unfold whV at this
     rw[r] at this
     exact this
    show SR3.stuck=(B h1).loop (wWh c B)
    have lim:∀a2,(∀k,whV c B k a2=.stuck)->wWh c B a2=.stuck:=λa2 z=>by
     unfold wWh
     rw[dif_neg (λ⟨k,y⟩=>y (z k))]
    cases s:B h1 with
    |nx a2=>rw[s] at h2;exact (lim a2 h2).symm
    |ct a2=>rw[s] at h2;exact (lim a2 h2).symm
    |stuck=>rfl
    |_=>have:=h2 0;rw[s] at this;cases this
def GG{X:Nat->Prop}{h0:Nat}{ns:Ns}{e:E3}{h:AH}{r2:SR}{r3:SR3}(p:PoS X h0 ns e h r2 r3)(q:r3 ≠ .stuck):r2 ≠ .stuck:=by
 cases r3 with
 |stuck=>exact absurd rfl q
 |nx e'=>obtain⟨bd,h',ns',z,_⟩:=p;rw[z];intro y;cases y
 |ct e'=>obtain⟨bd,h',ns',z,_⟩:=p;rw[z];intro y;cases y
 |bk e'=>obtain⟨bd,h',ns',z,_⟩:=p;rw[z];intro y;cases y
 |exc c e'=>obtain⟨bd,h',ns',z,_⟩:=p;rw[z];intro y;cases y
 |rt r e'=>obtain⟨d,bd,h',ns',z,_⟩:=p;rw[z];intro y;cases y
theorem zp(hc:RT c c3)(hB:RS B B3):∀(k:Nat) (X:Nat->Prop) (h0:Nat) (ns:Ns) (e:E3) (ae:AE) (h:AH),Sat X h0 ns e ae h->PoS X h0 ns e h (whN c B k ae h) (whV c3 B3 k e)
 |0,_,_,_,_,_,_,_=>trivial
 |
  k+1,X,h0,ns,e,ae,h,S=>by
  refine PoS.toS (hc X h0 ns e ae h S) λb b' h1 ns1 e1 a1 S1 r1=>?_
  cases r1
  try dsimp only
  split
  ·exact PoS.after S a1 (PoS.loop (ae:=ae) (hB X h0 ns1 e1 ae h1 S1) λae2 h2 ge e2 a2 S2=>PoS.after S1 a2 (zp hc hB k X h0 ge e2 ae2 h2 S2))
  ·exact .nx a1 S1
def LP(hc:RT c c3)(hB:RS B B3):RS (sWh c B) (wWh c3 B3):=λX h0 ns e ae h S=>by
 by_cases q:∃k,whV c3 B3 k e ≠ .stuck
 ·obtain⟨k,q⟩:=q
  rw[oi q]
  have p:=zp hc hB k X h0 ns e ae h S
  rw[yn (GG p q)]
  exact p
 ·unfold wWh;rw[dif_neg q];trivial
end
end L3
namespace L3
open PySem PySem.Spec PyProof.Rows L2
def gA(o:Option Nat)(s:Sl)(e:E3):E3:=match o,s with
 |some i,.mu v=>(match e[i]? with
  |some t=>e.set i (t.re v)
  |none=>e)
 |_,_=>e
def bU:List (Option Nat)->E3->E3->E3
 |o::sub,s::inner,e=>bU sub inner (gA o s e)
 |_,_,e=>e
def vJ{o:Option Nat}{s:Sl}{e:E3}{i:Nat}(hn:∀v,o=some i->s=.mu v->False):(gA o s e)[i]?=e[i]?:=by
 unfold gA
 split
 ·rename_i i' v
  split
  ·rename_i t q
   by_cases z:i=i'
   ·subst z;exact (hn v rfl rfl).elim
   ·rw[bP z]
  ·rfl
 ·rfl
theorem pf:∀{sub:List (Option Nat)}{e2 e:E3}{i:Nat},(∀(j:Nat) v,sub[j]?=some (some i)->e2[j]?=some (.mu v)->False)->(bU sub e2 e)[i]?=e[i]?
 | [],_,_,_,_=>rfl
 |_::_,[],_,_,_=>rfl
 |
  o::sub,s::e2,e,i,hn=>by
  show (bU sub e2 (gA o s e))[i]?=_
  rw[pf (λj v q1 q2=>hn (j+1) v (by simpa using q1) (by simpa using q2))]
  exact vJ λv z1 z2=>hn 0 v (by rw[z1];rfl) (by rw[z2];rfl)
theorem vP:∀{sub:List (Option Nat)}{e2 e:E3}{i j:Nat}{v:Val},(∀(j k:Nat) i,sub[j]?=some (some i)->sub[k]?=some (some i)->j=k)->sub[j]?=some (some i)->e2[j]?=some (.mu v)->(bU sub e2 e)[i]?=(e[i]?).map (Sl.re · v)
 | [],_,_,_,j,_,_,q,_=>by simp at q
 |_::_,[],_,_,j,_,_,_,q=>by simp at q
 |
  o::sub,s::e2,e,i,0,v,hj,q1,q2=>by
  have z1:o=some i:=by simpa using q1
  have z2:s=.mu v:=by simpa using q2
  subst z1 z2
  show (bU sub e2 (gA (some i) (.mu v) e))[i]?=_
  rw[pf (λk u y1 _=>by have:=hj 0 (k+1) i rfl (by simpa using y1);omega)]
  unfold gA
  dsimp only
  split
  ·rename_i t q;rw[ck (N_.mp q).1,q];rfl
  ·rename_i q;rw[q];rfl
 |
  o::sub,s::e2,e,i,j+1,v,hj,q1,q2=>by
  show (bU sub e2 (gA o s e))[i]?=_
  have q1':sub[j]?=some (some i):=by simpa using q1
  rw[vP (λa b c y1 y2=>by have:=hj (a+1) (b+1) c (by simpa using y1) (by simpa using y2);omega) q1' (by simpa using q2)]
  rw[vJ λv z1 _=>by have:=hj 0 (j+1) i (by rw[z1];rfl) q1;omega]
def cQ(sub:List (Option Nat))(ns:Ns):Ns:=sub.map λo=>o.bind λi=>(ns[i]?).bind id
def dm{sub:List (Option Nat)}{ns:Ns}{j n:Nat}(q:(cQ sub ns)[j]?=some (some n)):∃i,sub[j]?=some (some i)/\ns[i]?=some (some n):=by
 unfold cQ at q
 rw[OD] at q
 cases z:sub[j]? with
 |none=>rw[z] at q;cases q
 |
  some o=>
  rw[z] at q
  cases o with
  |none=>cases q
  |
   some i=>
   refine⟨i,rfl,?_⟩
   have q':(ns[i]?).bind id=some n:=Oz q
   cases y:ns[i]? with
   |none=>rw[y] at q';cases q'
   |some w=>rw[y] at q';have:w=some n:=q';rw[this]
def DB{sub:List (Option Nat)}{ns:Ns}{j i:Nat}{w:Option Nat}(q:sub[j]?=some (some i))(q2:ns[i]?=some w):(cQ sub ns)[j]?=some w:=by
 unfold cQ
 rw[OD,q]
 show some ((ns[i]?).bind id)=some w
 rw[q2];rfl
structure Lnk(sub:List (Option Nat))(e ei:E3):Prop where
 inj:∀(j k:Nat) (i:Nat),sub[j]?=some (some i)->sub[k]?=some (some i)->j=k
 mu:∀(j:Nat) (v:Val),ei[j]?=some (.mu v)->∃(i:Nat) (s:Sl),sub[j]?=some (some i)/\e[i]?=some s/\s.mt=true
 mt:∀(j:Nat) (s:Sl),ei[j]?=some s->s.mt=true->∃v,s=.mu v
def Sat.back{X Y:Nat->Prop}{h0:Nat}{ns ge:Ns}{e ei e2:E3}{ae:AE}{h h2:AH}{sub:List (Option Nat)}(S:Sat X h0 ns e ae h)(K:Lnk sub e ei)(a:Stp (cQ sub ns) ei h ge e2 h2)
 (hY:∀n,Y n->n<h2.length/\(X n\/h.length<=n)) (hXY:∀n,X n->Y n)
 (hc:∀(j:Nat) v n,e2[j]?=some (.mu v)->ge[j]?=some (some n)->∃o,h2[n]?=some o/\cP o/\Rc (Oc Y ns) h2 o v):Sat Y h0 ns (bU sub e2 e) ae h2/\Stp ns e h ns (bU sub e2 e) h2:=by
 have hM:∀n,Mt (cQ sub ns) ei n->Mt ns e n:=λn ⟨j,s,z1,z2,z3⟩=>by
  obtain⟨v,rfl⟩:=K.mt j s z2 z3
  obtain⟨i,s',y1,y2,y3⟩:=K.mu j v z2
  obtain⟨i',y4,y5⟩:=dm z1
  rw[y1] at y4;cases y4
  exact⟨i,s',y5,y2,y3⟩
 have mv:Mov (Oc X ns) (Oc Y ns) h h2:=λn o p q=>⟨⟨λz=>by
  rcases (hY n z).2 with z |z
  ·exact p.1 z
  ·have:=cz q;omega,p.2⟩,a.keep n o q λz=>by
   obtain⟨j,s,z1,_⟩:=z
   obtain⟨i,_,y⟩:=dm z1
   exact p.2 (bB.mpr ⟨i,y⟩)⟩
 have key:∀i:Nat,(∃(j:Nat) (v:Val) (s:Sl),sub[j]?=some (some i)/\e2[j]?=some (.mu v)/\e[i]?=some s/\s.mt=true/\(bU sub e2 e)[i]?=some (s.re v)/\ge[j]?=ns[i]?)\/((∀n,ns[i]?=some (some n)->¬ Mt (cQ sub ns) ei n)/\(bU sub e2 e)[i]?=e[i]?):=λi=>by
  by_cases hx:∃(j:Nat) (v:Val),sub[j]?=some (some i)/\e2[j]?=some (.mu v)
  ·obtain⟨j,v,q1,q2⟩:=hx
   obtain⟨u,q3,q4⟩:=a.mu j v q2
   obtain⟨i',s,y1,y2,y3⟩:=K.mu j u q3
   rw[q1] at y1;cases y1
   refine .inl ⟨j,v,s,q1,q2,y2,y3,by rw[vP K.inj q1 q2,y2];rfl,?_⟩
   rw[q4]
   have hl:i<ns.length:=by rw[S.l2];exact (N_.mp y2).1
   rw[OG hl]
   exact DB q1 (OG hl)
  ·refine .inr ⟨λn q ⟨j,s,z1,z2,z3⟩=>hx ?_,pf λj v y1 y2=>hx ⟨j,v,y1,y2⟩⟩
   obtain⟨v,rfl⟩:=K.mt j s z2 z3
   obtain⟨i',y4,y5⟩:=dm z1
   have:i'=i:=S.inj i' i n y5 q
   subst this
   obtain⟨v',y6,_⟩:=a.mu' j v z2
   exact⟨j,v',y4,y6⟩
 have lenB:(bU sub e2 e).length=e.length:=by
  clear key hc a K S hY hXY hM mv
  induction sub generalizing e2 e with
  |nil=>rfl
  |
   cons o sub ih=>
   cases e2 with
   |nil=>rfl
   |
    cons s e2=>
    show (bU sub e2 (gA o s e)).length=_
    rw[ih]
    unfold gA
    split
    ·split
     ·rw[Oq]
     ·rfl
    ·rfl
 refine⟨⟨by rw[lenB];exact S.l1,by rw[lenB];exact S.l2,Oy S.lh a.len,λn z=>(hY n z).1,S.inj,λi n q z=>?_,λi s q=>?_⟩,⟨a.len,λm o q hm=>a.keep m o q λz=>hm (hM m z),λ_ _ q=>.inl q,λi s q hl=>?_,λi s q hl=>?_,λi v q=>?_,λi v q=>?_⟩⟩
 ·rcases (hY n z).2 with z |z
  ·exact S.nx i n q z
  ·obtain⟨_,_,_,_,_,_,_,q',_⟩:=S.own q
   have:=cz q';omega
 ·rcases key i with ⟨j,v,s0,k1,k2,k3,k4,k5,k6⟩ |⟨k1,k2⟩
  ·rw[k5] at q;cases q
   have y:=S.sl i s0 k3
   cases s0 with
   |
    ow u=>
    obtain⟨n,o,y1,y2,y3,_⟩:=y
    obtain⟨o',z1,z2,z3⟩:=hc j v n k2 (by rw[k6];exact y1)
    exact⟨n,o',y1,y2,y3,z1,z2,z3⟩
   |
    mu u=>
    obtain⟨n,o,y1,y2,_⟩:=y
    obtain⟨o',z1,z2,z3⟩:=hc j v n k2 (by rw[k6];exact y1)
    exact⟨n,o',y1,y2,z1,z2,z3⟩
   |_=>cases k4
  ·rw[k2] at q
   exact (S.sl i s q).mono mv λn o q1 q2=>a.keep n o q2 (k1 n q1)
 ·rcases key i with ⟨j,v,s0,k1,k2,k3,k4,k5,k6⟩ |⟨k1,k2⟩
  ·rw[k3] at q;cases q;cases s <;> first |cases hl;done |cases k4;done
  ·rw[k2];exact⟨q,rfl⟩
 ·rcases key i with ⟨j,v,s0,k1,k2,k3,k4,k5,k6⟩ |⟨k1,k2⟩
  ·rw[k5] at q;cases q;cases s0 <;> first |cases hl;done |cases k4;done
  ·rw[k2] at q;exact⟨q,rfl⟩
 ·rcases key i with ⟨j,u,s0,k1,k2,k3,k4,k5,k6⟩ |⟨k1,k2⟩
  ·rw[k5] at q
   cases s0 with
   |mu w=>exact⟨w,k3,rfl⟩
   |ow w=>cases q
   |_=>cases k4
  ·rw[k2] at q;exact⟨v,q,rfl⟩
 ·rcases key i with ⟨j,u,s0,k1,k2,k3,k4,k5,k6⟩ |⟨k1,k2⟩
  ·rw[k3] at q;cases q;exact⟨u,k5,rfl⟩
  ·exact⟨v,by rw[k2];exact q,rfl⟩
def inS:Sl->Sl
 |.ow v=>.mu v
 |.lo v=>.lm v
 |s=>s
def cR(sub:List (Option Nat))(e:E3):E3:=sub.map λo=>match o with
 |none=>.no
 |some i=>match e[i]? with
  |some s=>inS s
  |none=>.no
def lcV(g:MG3)(c:MT3)(F:ME3):List Val->List Val->E3->R3 (List Val)
 | [],acc,e=>.ok acc e
 |v::vs,acc,e=>if acc.length<16777216 then (match g v e with
  |none=>.stuck
  |some e1=>(c e1).bind λb e2=>if b=true then (F e2).bind λt e3=>(match dE e3 t with
   |some (e4,y)=>lcV g c F vs (acc++[y]) e4
   |none=>.stuck) else lcV g c F vs acc e2) else .stuck
def vLC(I:MI3)(sub:List (Option Nat))(g:MG3)(c:MT3)(F:ME3):ME3:=λe=>(I e).bind λp e1=>match lcV g c F p.1 [] (cR sub (lockO e1 p.2)) with
 |.ok ys e2=>if ys.length<=16777216 then .ok (.new (.lst ys)) (fX (bU sub e2 (lockO e1 p.2)) p.2) else .stuck
 |_=>.stuck
def nW(sub:List (Option Nat)):Prop:=∀(j k:Nat) (i:Nat),sub[j]?=some (some i)->sub[k]?=some (some i)->j=k
def z8{sub:List (Option Nat)}(h:(sub.filterMap id).Nodup):nW sub:=by
 induction sub with
 |nil=>intro j k i q;simp at q
 |
  cons o sub ih=>
  have ii:(sub.filterMap id).Nodup:=by
   cases o with
   |none=>simpa using h
   |some i=>rw[Pu] at h;simp at h;exact h.2
  have hno:∀(i k:Nat),o=some i->sub[k]?=some (some i)->False:=λi k z q=>by
   subst z
   rw[Pu] at h
   simp at h
   exact h.1 (Ph q)
  intro j k i q1 q2
  cases j with
  |
   zero=>
   cases k with
   |zero=>rfl
   |succ k=>exact (hno i k (by simpa using q1) (by simpa using q2)).elim
  |
   succ j=>
   cases k with
   |zero=>exact (hno i j (by simpa using q2) (by simpa using q1)).elim
   |succ k=>exact O3 (· + 1) (ih ii j k i (by simpa using q1) (by simpa using q2))
def Xin(X:Nat->Prop)(ns:Ns)(sub:List (Option Nat))(n:Nat):Prop:=X n\/(some n∈ns/\some n∉cQ sub ns)
def nh{sub:List (Option Nat)}{ns:Ns}{n:Nat}(q:some n∈cQ sub ns):some n∈ns:=by
 obtain⟨j,q⟩:=bB.mp q
 obtain⟨i,_,q2⟩:=dm q
 exact bB.mpr ⟨i,q2⟩
def kB{sub:List (Option Nat)}{e:E3}{j:Nat}{s:Sl}(q:(cR sub e)[j]?=some s):(sub[j]?=some none/\s=.no)\/(∃i,sub[j]?=some (some i)/\((e[i]?=none/\s=.no)\/∃t,e[i]?=some t/\s=inS t)):=by
 unfold cR at q
 rw[OD] at q
 cases z:sub[j]? with
 |none=>rw[z] at q;cases q
 |
  some o=>
  rw[z] at q
  cases o with
  |none=>cases q;exact .inl ⟨rfl,rfl⟩
  |
   some i=>
   refine .inr ⟨i,rfl,?_⟩
   have q':=Oz q
   dsimp only at q'
   cases y:e[i]? with
   |none=>rw[y] at q';exact .inl ⟨rfl,q'.symm⟩
   |some t=>rw[y] at q';exact .inr ⟨t,rfl,q'.symm⟩
def Sat.inner{X:Nat->Prop}{h0:Nat}{ns:Ns}{e:E3}{ae:AE}{h:AH}{sub:List (Option Nat)}(S:Sat X h0 ns e ae h)(hs:nW sub):Sat (Xin X ns sub) h0 (cQ sub ns) (cR sub e) (kP sub ae) h:=by
 refine⟨by unfold kP cR;rw[N8,N8],by unfold cQ cR;rw[N8,N8],S.lh,λn z=>?_,λj k n q1 q2=>?_,λj n q z=>?_,λj s q=>?_⟩
 ·rcases z with z |⟨z,_⟩
  ·exact S.xl n z
  ·obtain⟨i,z⟩:=bB.mp z
   obtain⟨_,_,_,_,_,_,_,q',_⟩:=S.own z
   exact cz q'
 ·obtain⟨i,y1,y2⟩:=dm q1
  obtain⟨i',y3,y4⟩:=dm q2
  have:=S.inj i i' n y2 y4
  subst this
  exact hs j k i y1 y3
 ·rcases z with z |⟨_,z⟩
  ·obtain⟨i,y1,y2⟩:=dm q
   exact S.nx i n y2 z
  ·exact z (bB.mpr ⟨j,q⟩)
 ·have mv:Mov (Oc X ns) (Oc (Xin X ns sub) (cQ sub ns)) h h:=λn o p q=>⟨⟨λz=>by
   rcases z with z |⟨z,_⟩
   ·exact p.1 z
   ·exact p.2 z,λz=>p.2 (nh z)⟩,q⟩
  have hj:∀{o},sub[j]?=some o->(cQ sub ns)[j]?=some (o.bind λi=>(ns[i]?).bind id)/\(kP sub ae)[j]?=some (o.bind λi=>(ae[i]?).bind id):=λ{o} z=>by
   unfold cQ kP
   rw[OD,OD,z]
   exact⟨rfl,rfl⟩
  rcases kB q with ⟨z,rfl⟩ |⟨i,z,⟨y,rfl⟩ |⟨t,y,rfl⟩⟩
  ·rw[(hj z).1];rfl
  ·rw[(hj z).1]
   show some ((ns[i]?).bind id)=some none
   have:ns[i]?=none:=by
    rw[Pq] at y ⊢
    rw[S.l2];exact y
   rw[this];rfl
  ·have k:=(S.sl i t y).mono mv λ_ _ _ q=>q
   rw[(hj z).1,(hj z).2]
   show SlR _ h0 (some ((ns[i]?).bind id)) (some ((ae[i]?).bind id)) h (inS t)
   have w1:∀x,ns[i]?=some x->some ((ns[i]?).bind id)=some x:=λx q=>by rw[q];rfl
   have w2:∀x,ae[i]?=some x->some ((ae[i]?).bind id)=some x:=λx q=>by rw[q];rfl
   cases t with
   |no=>rw[w1 _ k];rfl
   |sh v=>obtain⟨k1,x,k2,k3⟩:=k;rw[w1 _ k1,w2 _ k2];exact⟨rfl,x,rfl,k3⟩
   |ow v=>obtain⟨m,o,k1,k2,_,k3⟩:=k;rw[w1 _ k1,w2 _ k2];exact⟨m,o,rfl,rfl,k3⟩
   |lo v=>obtain⟨m,o,k1,k2,_,k3⟩:=k;rw[w1 _ k1,w2 _ k2];exact⟨m,o,rfl,rfl,k3⟩
   |mu v=>obtain⟨m,o,k1,k2,k3⟩:=k;rw[w1 _ k1,w2 _ k2];exact⟨m,o,rfl,rfl,k3⟩
   |lm v=>obtain⟨m,o,k1,k2,k3⟩:=k;rw[w1 _ k1,w2 _ k2];exact⟨m,o,rfl,rfl,k3⟩
def vt{sub:List (Option Nat)}{e:E3}(hs:nW sub):Lnk sub e (cR sub e):=by
 refine⟨hs,λj v q=>?_,λj s q hm=>?_⟩
 ·rcases kB q with ⟨_,z⟩ |⟨i,z,⟨_,y⟩ |⟨t,y,y2⟩⟩
  ·cases z
  ·cases y
  ·refine⟨i,t,z,y,?_⟩
   cases t <;> first |rfl |cases y2
 ·rcases kB q with ⟨_,z⟩ |⟨i,z,⟨_,y⟩ |⟨t,y,y2⟩⟩
  ·subst z;cases hm
  ·subst y;cases hm
  ·subst y2
   cases t with
   |ow v=>exact⟨v,rfl⟩
   |mu v=>exact⟨v,rfl⟩
   |_=>cases hm
section
variable{I:MI}{I3:MI3}{g:MG}{g3:MG3}{c:MT}{c3:MT3}{F:ME}{F3:ME3}
def Jt{X:Nat->Prop}{h0:Nat}{ns:Ns}{e:E3}{ae:AE}{h:AH}{G:AH->Prop}(S:Sat X h0 ns e ae h)(hg:RG g g3)(hc:RT c c3)(hF:RE F F3)(hG:∀ns' e' h',Stp ns e h ns' e' h'->G h'){ys:List Val}{e2:E3}:
 ∀
  {ds:List D}{vs:List Val},Rds (Oc X ns) h ds vs->∀{acc:List D}{accv:List Val}{ns1:Ns}{e1:E3}{ae1:AE}{h1:AH},Stp ns e h ns1 e1 h1->Sat X h0 ns1 e1 ae1 h1->Rds (Oc X ns1) h1 acc accv->lcV g3 c3 F3 vs accv e1=.ok ys e2->
  ∃dy h2 ge ae2,lcL G g c F ds acc ae1 h1=.ok dy h2/\Stp ns e h ge e2 h2/\Sat X h0 ge e2 ae2 h2/\Rds (Oc X ge) h2 dy ys:=by
 intro ds
 induction ds with
 |
  nil=>
  intro vs r acc accv ns1 e1 ae1 h1 a1 S1 ra q
  cases r
  unfold lcL
  rw[if_pos (hG _ _ _ a1)]
  cases q
  exact⟨acc,h1,ns1,ae1,rfl,a1,S1,ra⟩
 |
  cons d0 ds ih=>
  intro vs r acc accv ns1 e1 ae1 h1 a1 S1 ra q
  cases r with
  |
   cons r rr=>
   rename_i v vs
   unfold lcV at q
   unfold lcL
   by_cases hl:accv.length<16777216
   ·rw[if_pos hl] at q
    rw[if_pos ⟨hG _ _ _ a1,by rw[ra.len];exact hl⟩]
    cases q1:g3 v e1 with
    |none=>rw[q1] at q;cases q
    |
     some e3=>
     rw[q1] at q
     dsimp only at q
     obtain⟨ae3,ns3,p3,S3,a3⟩:=hg _ _ _ _ _ _ _ _ _ S1 (r.mono (a1.mov S)) q1
     rw[p3,gF]
     have a13:=a1.trans S a3
     have pc:=hc X h0 ns3 e3 ae3 h1 S3
     cases q4:c3 e3 with
     |stuck=>rw[q4] at q;cases q
     |exc _ _=>rw[q4] at q;cases q
     |
      ok b e4=>
      rw[q4] at q pc
      obtain⟨b',h4,ns4,p4,a4,S4,rfl⟩:=pc
      rw[p4,gF]
      have a14:=a13.trans S a4
      have ra4:=(ra.mono (a3.mov S1)).mono (a4.mov S3)
      have q':(if b'=true then (F3 e4).bind λt e3=>(match dE e3 t with
       |some (e4,y)=>lcV g3 c3 F3 _ (accv++[y]) e4
       |none=>.stuck) else lcV g3 c3 F3 _ accv e4)=.ok ys e2:=q
      by_cases hb:b'=true
      ·rw[if_pos hb] at q' ⊢
       have pF:=hF X h0 0 ns4 e4 ae3 h4 S4 (OK _)
       cases q5:F3 e4 with
       |stuck=>rw[q5] at q';cases q'
       |exc _ _=>rw[q5] at q';cases q'
       |
        ok t e5=>
        rw[q5] at q' pF
        obtain⟨d5,h5,ns5,p5,a5,S5,r5⟩:=pF
        rw[p5,gF]
        have q'':(match dE e5 t with
         |some (e4,y)=>lcV g3 c3 F3 _ (accv++[y]) e4
         |none=>.stuck)=.ok ys e2:=q'
        cases q6:dE e5 t with
        |none=>rw[q6] at q'';cases q''
        |
         some w=>
         obtain⟨e6,y⟩:=w
         rw[q6] at q''
         obtain⟨ns6,S6,a6,r6⟩:=gJ S5 r5 q6
         exact ih rr ((a14.trans S a5).trans S a6) S6 (((ra4.mono (a5.mov S4)).mono (a6.mov S5)).append (.cons r6 .nil)) q''
      ·rw[if_neg hb] at q' ⊢
       exact ih rr a14 S4 ra4 q'
   ·rw[if_neg hl] at q;cases q
def JV{sub:List (Option Nat)}(hs:(sub.filterMap id).Nodup)(hI:RI I I3)(hg:RG g g3)(hc:RT c c3)(hF:RE F F3):RE (eLC I sub g c F) (vLC I3 sub g3 c3 F3):=λX h0 L ns e ae h S hl=>
 Po.bind
  S (hI X h0 ns e ae h S) λit p h1 ns1 e1 a1 S1 r1=>by
  try dsimp only
  obtain⟨r2,gd,hk⟩:=r1
  have hs':=z8 hs
  have S2:=S1.lockO p.2
  have S3:=S2.inner hs'
  cases q:lcV g3 c3 F3 p.1 [] (cR sub (lockO e1 p.2)) with
  |stuck=>trivial
  |exc _ _=>trivial
  |
   ok ys e2=>
   dsimp only
   split
   ·rename_i hy
    have gd':∀ns' e' h',Stp (cQ sub ns1) (cR sub (lockO e1 p.2)) h1 ns' e' h'->it.guard h':=λns' e' h' a=>gd h' λm o qm hm=>a.keep m o qm λ⟨j,s,z1,z2,z3⟩=>by
     obtain⟨i,y1,y2⟩:=dm z1
     rcases hm with hm |⟨k,hk1,hk2⟩
     ·exact hm.2 (bB.mpr ⟨i,y2⟩)
     ·have:i=k:=S1.inj i k m y2 hk2
      subst this
      obtain⟨s',w1,w2⟩:=hk i hk1
      rcases kB z2 with ⟨z,_⟩ |⟨i',z,y⟩
      ·rw[y1] at z;cases z
      ·rw[y1] at z;cases z
       have hl:(lockO e1 p.2)[i]?=some (kD s'):=by rw[hk1];exact qw w1
       rcases y with ⟨y,_⟩ |⟨t,y,rfl⟩
       ·rw[hl] at y;cases y
       ·rw[hl] at y;cases y
        cases s' <;> first |cases w2;done |cases z3;done
    have mvi:Mov (Oc X ns1) (Oc (Xin X ns1 sub) (cQ sub ns1)) h1 h1:=λn o p q=>⟨⟨λz=>by
     rcases z with z |⟨z,_⟩
     ·exact p.1 z
     ·exact p.2 z,λz=>p.2 (nh z)⟩,q⟩
    obtain⟨dy,h2,ge,ae2,p2,a2,S4,r4⟩:=Jt (G:=it.guard) S3 hg hc hF gd' (r2.mono mvi) .refl S3 .nil q
    have k3:∀n,Oc (Xin X ns1 sub) ge n->Oc X ns1 n:=λn z=>⟨λy=>z.1 (.inl y),λy=>by
     by_cases w:some n∈cQ sub ns1
     ·obtain⟨j,w⟩:=bB.mp w
      obtain⟨s,v,o,b1,b2,_⟩:=S3.own w
      rcases b2 with b2 |b2
      ·obtain⟨v',rfl⟩:=(vt (e:=lockO e1 p.2) hs').mt j s b1 b2
       obtain⟨u,c1,c2⟩:=a2.mu' j v' b1
       exact z.2 (bB.mpr ⟨j,by rw[c2];exact w⟩)
      ·obtain⟨c1,c2⟩:=a2.lk j s b1 b2
       exact z.2 (bB.mpr ⟨j,by rw[c2];exact w⟩)
     ·exact z.1 (.inr ⟨y,w⟩)⟩
    have bk:=S2.back (Y:=X) (vt hs') a2 (λn z=>⟨Ot (S2.xl n z) a2.len,.inl z⟩) (λ_ z=>z) λj v n q1 q2=>by
     obtain⟨s,u,o,b1,b2,b3,b4,b5,b6,b7⟩:=S4.own q2
     rw[q1] at b1;cases b1
     cases b3
     exact⟨o,b5,b6,b7.mono λm o' z y=>⟨k3 m z,y⟩⟩
    obtain⟨S5,a5⟩:=bk
    have r5:Rds (Oc X ns1) h2 dy ys:=r4.mono λm o' z y=>⟨k3 m z,y⟩
    have fin:∀(e':E3),Sat X h0 ns1 e' ae h2->Stp ns1 e1 h1 ns1 e' h2->Po X h0 ns1 e1 ae h1 (relE X h0 L ae) ((noX (lcL it.guard g c F it.items [] (kP sub ae) h1)).bind cH) (.ok (.new (.lst ys)) e'):=λe' S6 a6=>by
     rw[p2]
     have pp:=BvR.po (L:=L) (r:=cH dy h2) (b:=.new (.lst ys)) S6 (Oy hl (Oy a1.len a6.len)) ⟨.lst dy,by unfold cH;rw[if_pos (by rw[r5.len];exact hy)],trivial,.lst r5⟩
     obtain⟨d,h',ns',y,y1,y2,y3⟩:=pp
     exact⟨d,h',ns',y,a6.trans S1 y1,y2,y3⟩
    cases hp:p.2 with
    |
     none=>
     rw[hp] at S5 a5
     exact fin _ S5 a5
    |
     some k=>
     rw[hp] at S5 a5
     obtain⟨s,w1,w2⟩:=hk k hp
     exact fin _ (S5.unlock k) (a5.unlock w1 w2)
   ·trivial
end
end L3
namespace L3
open PySem PySem.Spec PyProof.Rows L2
inductive R3F where
 |ok (r:Rt) (mv:List Val) |exc (c:Str) (mv:List Val) |stuck
abbrev Fn3:=List Val->R3F
def sl1(b:Bool)(v:Val):Sl:=if b=true then .mu v else .sh v
def sls(ms:List Bool)(vs:List Val):E3:=List.zipWith sl1 ms vs
def bc:List Bool->List Val->E3
 |true::ms,v::vs=>.mu v::bc ms vs
 |true::ms,[]=>.no::bc ms []
 |false::ms,vs=>.no::bc ms vs
 | [],_=>[]
def muV:List Bool->E3->Option (List Val)
 |true::ms,.mu v::e=>(muV ms e).map (v :: ·)
 |true::_,_=>none
 |false::ms,_::e=>muV ms e
 |false::_,[]=>none
 | [],_=>some []
def RFp(X:Nat->Prop)(ps:Ns)(ms:List Bool)(vs:List Val)(ds:List D)(h:AH)(r2:R D):R3F->Prop
 |.stuck=>True
 |.ok r mv=>∃d h',r2=.ok d h'/\Stp ps (sls ms vs) h ps (bc ms mv) h'/\RtR X h.length ps (bc ms mv) (ds.map some) h' d r
 |.exc c mv=>∃h',r2=.exc c h'/\Stp ps (sls ms vs) h ps (bc ms mv) h'/\Sat X h.length ps (bc ms mv) (ds.map some) h'
def RF(ms:List Bool)(G2:Fn)(G3:Fn3):Prop:=∀X ps ds vs h,vs.length=ms.length->Sat X h.length ps (sls ms vs) (ds.map some) h->RFp X ps ms vs ds h (G2 ds h) (G3 vs)
def fnV(ms:List Bool)(N:Nat)(F:MS3):Fn3:=λvs=>if vs.length=ms.length then (match F (sls ms vs++List.replicate (N-vs.length) .no) with
 |.nx e=>(match muV ms e with |some mv=>.ok (.val .non) mv |none=>.stuck)
 |.rt r e=>(match muV ms e with |some mv=>.ok r mv |none=>.stuck)
 |.exc c e=>(match muV ms e with |some mv=>.exc c mv |none=>.stuck)
 |_=>.stuck) else .stuck
def fW{ms:List Bool}{vs:List Val}{i:Nat}{s:Sl}(q:(sls ms vs)[i]?=some s):∃b v,ms[i]?=some b/\vs[i]?=some v/\s=sl1 b v:=by
 unfold sls at q
 rw[PD] at q
 cases h1:ms[i]? with
 |none=>rw[h1] at q;cases q
 |
  some b=>
  cases h2:vs[i]? with
  |none=>rw[h1,h2] at q;cases q
  |some v=>rw[h1,h2] at q;cases q;exact⟨b,v,rfl,rfl,rfl⟩
theorem jh:∀{ms:List Bool}{e:E3}{mv:List Val}{i:Nat}{s:Sl},muV ms e=some mv->(bc ms mv)[i]?=some s->(ms[i]?=some false/\s=.no)\/(ms[i]?=some true/\∃v,e[i]?=some (.mu v)/\s=.mu v)
 | [],_,_,_,_,_,q=>by unfold bc at q;simp at q
 |
  true::ms,.mu v::e,mv,i,s,q,q2=>by
  obtain⟨mv',z1,z2⟩:=OE.mp (show (muV ms e).map (v :: ·)=some mv from q)
  subst z2
  cases i with
  |zero=>
   right;have:Sl.mu v=s:=by simpa [bc] using q2
   subst this;exact⟨rfl,v,rfl,rfl⟩
  |
   succ i=>
   have:=jh (i:=i) (s:=s) z1 (by simpa [bc] using q2)
   simpa using this
 |true::ms,[],mv,i,s,q,q2=>by cases q
 |true::ms,.no::e,mv,i,s,q,q2=>by cases q
 |true::ms,.sh v::e,mv,i,s,q,q2=>by cases q
 |true::ms,.ow v::e,mv,i,s,q,q2=>by cases q
 |true::ms,.lo v::e,mv,i,s,q,q2=>by cases q
 |true::ms,.lm v::e,mv,i,s,q,q2=>by cases q
 |false::ms,[],mv,i,s,q,q2=>by cases q
 |
  false::ms,t::e,mv,i,s,q,q2=>by
  cases i with
  |zero=>
   left;have:Sl.no=s:=by simpa [bc] using q2
   exact⟨rfl,this.symm⟩
  |
   succ i=>
   have:=jh (i:=i) (s:=s) (show muV ms e=some mv from q) (by simpa [bc] using q2)
   simpa using this
theorem pO:∀{ms:List Bool}{e:E3}{mv:List Val}{i:Nat},muV ms e=some mv->ms[i]?=some true->∃v,e[i]?=some (.mu v)/\(bc ms mv)[i]?=some (.mu v)
 | [],_,_,i,_,q=>by simp at q
 |
  true::ms,.mu v::e,mv,i,q,q2=>by
  obtain⟨mv',z1,z2⟩:=OE.mp (show (muV ms e).map (v :: ·)=some mv from q)
  subst z2
  cases i with
  |zero=>exact⟨v,rfl,rfl⟩
  |
   succ i=>
   obtain⟨u,y1,y2⟩:=pO (i:=i) z1 (by simpa using q2)
   exact⟨u,by simpa using y1,by simpa [bc] using y2⟩
 |true::ms,[],mv,i,q,q2=>by cases q
 |true::ms,.no::e,mv,i,q,q2=>by cases q
 |true::ms,.sh v::e,mv,i,q,q2=>by cases q
 |true::ms,.ow v::e,mv,i,q,q2=>by cases q
 |true::ms,.lo v::e,mv,i,q,q2=>by cases q
 |true::ms,.lm v::e,mv,i,q,q2=>by cases q
 |false::ms,[],mv,i,q,q2=>by cases q
 |
  false::ms,t::e,mv,i,q,q2=>by
  cases i with
  |zero=>simp at q2
  |
   succ i=>
   obtain⟨u,y1,y2⟩:=pO (i:=i) (show muV ms e=some mv from q) (by simpa using q2)
   exact⟨u,by simpa using y1,by simpa [bc] using y2⟩
theorem jk:∀{ms:List Bool}{mv:List Val},(bc ms mv).length=ms.length
 | [],_=>rfl
 |true::ms,v::mv=>by show (bc ms mv).length+1=ms.length+1;rw[jk]
 |true::ms,[]=>by show (bc ms []).length+1=ms.length+1;rw[jk]
 |false::ms,mv=>by show (bc ms mv).length+1=ms.length+1;rw[jk]
def CI{ms:List Bool}{N:Nat}{F:MS}{F3:MS3}(hF:RS F F3):RF ms (fnD N F) (fnV ms N F3):=λX ps ds vs h hl S=>by
 unfold fnV
 rw[if_pos hl]
 have lS:(sls ms vs).length=vs.length:=by unfold sls;rw[PR];omega
 have lD:ds.length=vs.length:=by have:=S.l1;rw[N8] at this;omega
 have lP:ps.length=vs.length:=by have:=S.l2;omega
 have S1
  : Sat X h.length (ps++List.replicate (N-vs.length) none) (sls ms vs++List.replicate (N-vs.length) .no) (ds.map some++List.replicate (N-vs.length) none) h:=by
  have mns:∀n,some n∈ps++List.replicate (N-vs.length) (none:Option Nat) ↔ some n∈ps:=λn=>by
   rw[O4]
   constructor
   ·rintro (z |z)
    ·exact z
    ·have:=List.eq_of_mem_replicate z;cases this
   ·exact .inl
  have gns:∀{i n:Nat},(ps++List.replicate (N-vs.length) (none:Option Nat))[i]?=some (some n)->ps[i]?=some (some n):=λ{i n} q=>by
   rw[QJ] at q
   split at q
   ·exact q
   ·rw[O8] at q;split at q <;> cases q
  refine⟨?_,?_,S.lh,S.xl,λi j n q1 q2=>S.inj i j n (gns q1) (gns q2),λi n q=>S.nx i n (gns q),λi s q=>?_⟩
  ·rw[Oa,Oa,Pb,Pb,S.l1]
  ·rw[Oa,Oa,Pb,Pb,S.l2]
  ·rw[QJ] at q
   split at q
   ·rename_i hi
    have k:=S.sl i s q
    rw[OF (by omega),OF (by rw[N8];omega)]
    exact k.mono (λn o p q=>⟨⟨p.1,λz=>p.2 ((mns n).mp z)⟩,q⟩) λ_ _ _ q=>q
   ·rename_i hi
    rw[O8] at q
    split at q
    ·cases q
     rw[OB (by omega),O8,if_pos (by omega)]
     rfl
    ·cases q
 have p:=hF _ _ _ _ _ _ S1
 have e2:fnD N F ds h=match F (ds.map some++List.replicate (N-vs.length) none) h with
  |.nx _ h'=>.ok .non h'
  |.rt d h'=>.ok d h'
  |.exc c _ h'=>.exc c h'
  |_=>.stuck:=by rw[<- lD];rfl
 rw[e2]
 have fin:∀(Y:Nat->Prop) (ns':Ns) (e':E3) (bd:AE) (h':AH) (mv:List Val),(∀n,X n->Y n)->Stp (ps++List.replicate (N-vs.length) none) (sls ms vs++List.replicate (N-vs.length) .no) h ns' e' h'->Sat Y h.length ns' e' bd h'->muV ms e'=some mv->
  Stp ps (sls ms vs) h ps (bc ms mv) h'/\Sat Y h.length ps (bc ms mv) (ds.map some) h'/\∀n,Oc Y ns' n->Oc Y ps n:=by
  intro Y ns' e' bd h' mv hXY a S2 qm
  have kmu:∀{i:Nat},ms[i]?=some true->∃v u n o,e'[i]?=some (.mu v)/\(bc ms mv)[i]?=some (.mu v)/\(sls ms vs)[i]?=some (.mu u)/\ns'[i]?=ps[i]?/\ps[i]?=some (some n)/\(ds.map some)[i]?=some (some (.ref n))/\h'[n]?=some o/\cP o/\Rc (Oc Y ns') h' o v:=by
   intro i hi
   obtain⟨v,y1,y2⟩:=pO qm hi
   have hil:i<ms.length:=(N_.mp hi).1
   obtain⟨u,y3,y4⟩:=a.mu i v y1
   rw[OF (by omega)] at y3 y4
   obtain⟨n,o,z1,z2,_⟩:=S.sl i _ y3
   obtain⟨n',o',w1,w2,w3,w4,w5⟩:=S2.sl i _ y1
   rw[y4,z1] at w1;cases w1
   exact⟨v,u,n,o',y1,y2,y3,y4,z1,z2,w3,w4,w5⟩
  have kown:∀{i n:Nat},ps[i]?=some (some n)->ms[i]?=some true:=λ{i n} q=>by
   obtain⟨s,v,o,z1,z2,_⟩:=S.own q
   obtain⟨b,u,y1,_,y2⟩:=fW z1
   cases b with
   |true=>exact y1
   |false=>subst y2;rcases z2 with z2 |z2 <;> cases z2
  have koc:∀n,Oc Y ns' n->Oc Y ps n:=λn z=>⟨z.1,λy=>by
   obtain⟨i,y⟩:=bB.mp y
   obtain⟨v,u,n',o,_,_,_,k1,k2,_⟩:=kmu (kown y)
   exact z.2 (bB.mpr ⟨i,by rw[k1];exact y⟩)⟩
  refine⟨⟨a.len,λm o q hm=>a.keep m o q λ⟨i,s,z1,z2,z3⟩=>hm ?_,λ_ _ q=>.inl q,λi s q hl'=>?_,λi s q hl'=>?_,λi v q=>?_,λi v q=>?_⟩,⟨?_,?_,Oy (Oe _) a.len,S2.xl,S.inj,λi n q z=>?_,λi s q=>?_⟩,koc⟩
  ·rw[QJ] at z1
   split at z1
   ·rename_i hi
    rw[OF (by omega)] at z2
    exact⟨i,s,z1,z2,z3⟩
   ·rw[O8] at z1;split at z1 <;> cases z1
  ·obtain⟨b,u,_,_,y⟩:=fW q
   subst y
   cases b <;> cases hl'
  ·rcases jh qm q with ⟨_,z⟩ |⟨_,v,_,z⟩ <;> subst z <;> cases hl'
  ·rcases jh qm q with ⟨_,z⟩ |⟨z,_⟩
   ·cases z
   ·obtain⟨v',u,n,o,_,_,k1,_⟩:=kmu z
    exact⟨u,k1,rfl⟩
  ·obtain⟨b,u,y1,_,y2⟩:=fW q
   cases b with
   |false=>cases y2
   |
    true=>
    obtain⟨v',u,n,o,_,k0,k1,_⟩:=kmu y1
    exact⟨v',k0,rfl⟩
  ·rw[N8,jk];omega
  ·rw[jk];omega
  ·obtain⟨v,u,n',o,_,_,_,k1,k2,_⟩:=kmu (kown q)
   exact S2.nx i n (by rw[k1];exact q) z
  ·rcases jh qm q with ⟨z,rfl⟩ |⟨z,v,z2,rfl⟩
   ·have hil:i<ms.length:=(N_.mp z).1
    have hi:i<(sls ms vs).length:=by omega
    obtain⟨b,u,y1,_,y2⟩:=fW (OG hi)
    rw[z] at y1;cases y1
    have k:=S.sl i _ (OG hi)
    rw[y2] at k
    exact k.1
   ·obtain⟨v',u,n,o,k0,_,_,k1,k2,k3,k4,k5,k6⟩:=kmu z
    rw[z2] at k0;cases k0
    exact⟨n,o,k2,k3,k4,k5,k6.mono λm o' y q=>⟨koc m y,q⟩⟩
 generalize F3 (sls ms vs++List.replicate (N-vs.length) .no)=r3 at *
 cases r3 with
 |stuck=>trivial
 |bk _=>trivial
 |ct _=>trivial
 |
  nx e'=>
  obtain⟨bd,h',ns',q,a,S2⟩:=p
  rw[q]
  dsimp only
  cases qm:muV ms e' with
  |none=>trivial
  |
   some mv=>
   obtain⟨a3,S3,koc⟩:=fin X ns' e' bd h' mv (λ_ z=>z) a S2 qm
   exact⟨.non,h',rfl,a3,S3,.non⟩
 |
  exc c e'=>
  obtain⟨bd,h',ns',q,a,S2⟩:=p
  rw[q]
  dsimp only
  cases qm:muV ms e' with
  |none=>trivial
  |
   some mv=>
   obtain⟨a3,S3,koc⟩:=fin X ns' e' bd h' mv (λ_ z=>z) a S2 qm
   exact⟨h',rfl,a3,S3⟩
 |
  rt r e'=>
  obtain⟨d,bd,h',ns',q,a,rr⟩:=p
  rw[q]
  dsimp only
  cases qm:muV ms e' with
  |none=>trivial
  |
   some mv=>
   cases r with
   |
    val v=>
    obtain⟨a3,S3,koc⟩:=fin X ns' e' bd h' mv (λ_ z=>z) a rr.1 qm
    exact⟨d,h',rfl,a3,S3,rr.2.mono λm o y q=>⟨koc m y,q⟩⟩
   |
    new v=>
    obtain⟨n,o,z1,z2,z3,z4,z5,z6,z7⟩:=rr
    obtain⟨a3,S3,koc⟩:=fin (Xn X n) ns' e' bd h' mv (λ_ z=>.inl z) a z6 qm
    exact⟨d,h',rfl,a3,n,o,z1,z2,z3,z4,z5,S3,z7.mono λm o y q=>⟨koc m y,q⟩⟩
   |
    par i=>
    obtain⟨R1,R2,v,R3⟩:=rr
    obtain⟨a3,S3,koc⟩:=fin X ns' e' bd h' mv (λ_ z=>z) a R1 qm
    obtain⟨u,k1,k2⟩:=a.mu i v R3
    have hi:i<(sls ms vs).length:=by
     apply Decidable.byContradiction
     intro hi
     rw[OB (by omega),O8] at k1
     split at k1 <;> cases k1
    rw[OF hi] at k1
    rw[OF (by rw[S.l2];exact hi)] at k2
    obtain⟨m,o,w1,w2,_⟩:=S.sl i _ k1
    obtain⟨m',o',x1,x2,_⟩:=R1.sl i _ R3
    rw[k2,w1] at x1;cases x1
    rw[R2] at x2;cases x2
    obtain⟨v',y,_⟩:=a3.mu' i u k1
    exact⟨_,h',rfl,a3,S3,w2,v',y⟩
def jP(i:Nat):List Tm->Bool
 |.bor j::ts=>(i==j) || jP i ts
 |_::ts=>jP i ts
 | []=>false
def iC(i:Nat):List Bool->List Tm->Bool
 |true::ms,.bor j::ts=>(i==j) || iC i ms ts
 |_::ms,_::ts=>iC i ms ts
 |_,_=>false
def okA(e:E3):List Bool->List Tm->Bool
 |true::ms,.bor i::ts=>((e[i]?).bind Sl.mv).isSome && !(jP i ts)&&okA e ms ts
 |true::_,_::_=>false
 |false::ms,.bor i::ts=>!(iC i ms ts)&&okA e ms ts
 |false::ms,_::ts=>okA e ms ts
 | [],[]=>true
 |_,_=>false
def qb(b:Bool)(t:Tm):Option Nat:=match b,t with
 |true,.bor i=>some i
 |_,_=>none
def cT(ms:List Bool)(ts:List Tm):List (Option Nat):=List.zipWith qb ms ts
def bu(e:E3):List Bool->List Tm->List Nat
 |false::ms,.bor i::ts=>(match e[i]? with
  |some (.sh _)=>bu e ms ts
  |_=>i::bu e ms ts)
 |_::ms,_::ts=>bu e ms ts
 |_,_=>[]
mutual
def flatV:Val->Bool
 |.tup xs=>cW xs
 |.lst _=>false
 |.kl _=>false
 |.dct _=>false
 |.set _=>false
 |_=>true
def cW:List Val->Bool
 | []=>true
 |v::vs=>flatV v&&cW vs
end
def oM:List (Key×Val)->Bool
 | []=>true
 |(_,v)::vs=>flatV v&&oM vs
def flatC:Val->Bool
 |.lst xs=>cW xs
 |.dct xs=>oM xs
 |.set _=>true
 |_=>false
def kx:Rt->Bool
 |.val v=>flatV v
 |.new v=>flatC v
 |.par _=>true
def qF(e:E3):List Nat->Option E3
 | []=>some e
 |i::is=>match dE e (.bor i) with
  |some (e1,_)=>qF e1 is
  |none=>none
def Rt.tm(ts:List Tm):Rt->Tm
 |.val v=>.val v
 |.new v=>.new v
 |.par i=>(ts[i]?).getD (.val .non)
def CV(ms:List Bool)(G:Fn3)(A:MA3):ME3:=λe=>(A e).bind λts e1=>match rss e1 ts with
 |none=>.stuck
 |some vs=>if okA e1 ms ts=true then (match G vs with
  |.stuck=>.stuck
  |.ok r mv=>if (bu e1 ms ts).isEmpty || (kx r&&mv.all flatC) then .ok (r.tm ts) (bU (cT ms ts) (bc ms mv) e1) else (match qF e1 (bu e1 ms ts) with
   |some e2=>.ok (r.tm ts) (bU (cT ms ts) (bc ms mv) e2)
   |none=>.stuck)
  |.exc c mv=>if (bu e1 ms ts).isEmpty || mv.all flatC then .exc c (bU (cT ms ts) (bc ms mv) e1) else .stuck) else .stuck
section
variable{P P':Nat->Prop}{h h':AH}
def Rd.flat{d:D}{v:Val}(f:flatV v=true)(r:Rd P h d v):Rd P' h' d v:=
 @Rd.rec P h (λd v _=>flatV v=true->Rd P' h' d v) (λo v _=>flatV v=true->Rd P' h' .non v) (λds vs _=>cW vs=true->Rds P' h' ds vs) (λws us _=>True) (λ_=>.non) (λb _=>.bl b) (λi _=>.int i) (λx _=>.str x) (λn _=>.ty n) (λx _=>.glb x) (λx _=>.exc x) (λ_ ih f=>.tup (ih f)) (λ_ _ f=>absurd f Oi) (λ_ _ r _ f=>by cases r <;> exact absurd f Oi) (λ_ _ f=>absurd f Oi) (λ_ _ f=>absurd f Oi) (λ_ _ f=>absurd f Oi) (λ_ f=>absurd f Oi) (λ_=>.nil) (λ_ _ a b f=>.cons (a (Ol .. ▸ f).1) (b (Ol .. ▸ f).2)) trivial (λ_ _ _ _=>trivial) d v r f
def Rds.flat{d:List D}{v:List Val}(f:cW v=true)(r:Rds P h d v):Rds P' h' d v:=
 r.ind (M:=λds vs=>cW vs=true->Rds P' h' ds vs) (λ_=>.nil) (λr _ ih f=>by
  rw[cW,Ol] at f
  exact .cons (Rd.flat f.1 r) (ih f.2)) f
def Rk.flat{d:List (Key×D)}{v:List (Key×Val)}(f:oM v=true)(r:Rk P h d v):Rk P' h' d v:=
 r.ind (M:=λds vs=>oM vs=true->Rk P' h' ds vs) (λ_=>.nil) (λr _ ih f=>by
  rw[oM,Ol] at f
  exact .cons (Rd.flat f.1 r) (ih f.2)) f
def Rc.flat{o:Ob}{v:Val}(f:flatC v=true)(r:Rc P h o v):Rc P' h' o v:=by
 cases r with
 |lst r=>exact .lst (Rds.flat (by simpa [flatC] using f) r)
 |fz r=>simp [flatC] at f
 |dct r=>exact .dct (Rk.flat (by simpa [flatC] using f) r)
 |set xs=>exact .set xs
end
theorem pZ{i:Nat}:∀{ts:List Tm}{k:Nat},ts[k]?=some (.bor i)->jP i ts=true
 | [],_,q=>by simp at q
 |
  t::ts,0,q=>by
  have:t=.bor i:=by simpa using q
  subst this;simp [jP]
 |
  t::ts,k+1,q=>by
  have:=pZ (ts:=ts) (k:=k) (by simpa using q)
  cases t <;> simp [jP,this]
theorem vL{i:Nat}:∀{ms:List Bool}{ts:List Tm}{k:Nat},ms[k]?=some true->ts[k]?=some (.bor i)->iC i ms ts=true
 | [],_,_,q,_=>by simp at q
 |_::_,[],_,_,q=>by simp at q
 |
  b::ms,t::ts,0,q1,q=>by
  have:t=.bor i:=by simpa using q
  have:b=true:=by simpa using q1
  subst_vars;simp [iC]
 |
  b::ms,t::ts,k+1,q1,q=>by
  have:=vL (ms:=ms) (ts:=ts) (k:=k) (by simpa using q1) (by simpa using q)
  cases b <;> cases t <;> simp [iC,this]
theorem l9{e:E3}:∀{ms:List Bool}{ts:List Tm}{k:Nat},okA e ms ts=true->ms[k]?=some true->∃i,ts[k]?=some (.bor i)/\∃u,(e[i]?).bind Sl.mv=some u
 | [],_,_,_,q=>by simp at q
 |b::ms,[],_,o,_=>by cases b <;> simp [okA] at o
 |
  b::ms,t::ts,0,o,q=>by
  have:b=true:=by simpa using q
  subst this
  cases t with
  |
   bor i=>
   simp only[okA,Ol] at o
   exact⟨i,rfl,OL.mp o.1.1⟩
  |_=>simp [okA] at o
 |
  b::ms,t::ts,k+1,o,q=>by
  have o':okA e ms ts=true:=by
   cases b <;> cases t <;> simp only[okA,Ol] at o <;> first |exact o.2 |exact o |(simp at o;done)
  obtain⟨i,y⟩:=l9 (k:=k) o' (by simpa using q)
  exact⟨i,by simpa using y⟩
theorem j8{e:E3}:∀{ms:List Bool}{ts:List Tm}{k j i:Nat},okA e ms ts=true->ms[k]?=some true->ts[k]?=some (.bor i)->ts[j]?=some (.bor i)->j=k
 | [],_,_,_,_,_,q,_,_=>by simp at q
 |b::ms,[],_,_,_,o,_,_,_=>by cases b <;> simp [okA] at o
 |b::ms,t::ts,0,0,i,o,q1,q2,q3=>rfl
 |
  b::ms,t::ts,0,j+1,i,o,q1,q2,q3=>by
  have h1:b=true:=by simpa using q1
  have h2:t=.bor i:=by simpa using q2
  subst h1 h2
  simp only[okA,Ol] at o
  have:=pZ (i:=i) (ts:=ts) (k:=j) (by simpa using q3)
  rw[this] at o
  simp at o
 |
  b::ms,t::ts,k+1,0,i,o,q1,q2,q3=>by
  have h2:t=.bor i:=by simpa using q3
  subst h2
  have hm:=vL (i:=i) (ms:=ms) (ts:=ts) (k:=k) (by simpa using q1) (by simpa using q2)
  have hb:=pZ (i:=i) (ts:=ts) (k:=k) (by simpa using q2)
  cases b <;> simp [okA,hm,hb] at o
 |
  b::ms,t::ts,k+1,j+1,i,o,q1,q2,q3=>by
  have o':okA e ms ts=true:=by
   cases b <;> cases t <;> simp only[okA,Ol] at o <;> first |exact o.2 |exact o |(simp at o;done)
  exact O3 (· + 1) (j8 (k:=k) (j:=j) (i:=i) o' (by simpa using q1) (by simpa using q2) (by simpa using q3))
theorem kf{e:E3}:∀{ms:List Bool}{ts:List Tm},okA e ms ts=true->ms.length=ts.length
 | [],[],_=>rfl
 | [],_::_,o=>by simp [okA] at o
 |b::ms,[],o=>by cases b <;> simp [okA] at o
 |
  b::ms,t::ts,o=>by
  have o':okA e ms ts=true:=by
   cases b <;> cases t <;> simp only[okA,Ol] at o <;> first |exact o.2 |exact o |(simp at o;done)
  exact O3 (· + 1) (kf o')
theorem mV{e:E3}:∀{ms:List Bool}{ts:List Tm}{k i:Nat},ms[k]?=some false->ts[k]?=some (.bor i)->(∀v,e[i]?≠some (.sh v))->i∈bu e ms ts
 | [],_,_,_,q,_,_=>by simp at q
 |_::_,[],_,_,_,q,_=>by simp at q
 |
  b::ms,t::ts,0,i,q1,q2,hn=>by
  have h1:b=false:=by simpa using q1
  have h2:t=.bor i:=by simpa using q2
  subst h1 h2
  unfold bu
  split
  ·rename_i v q;exact absurd q (hn v)
  ·exact Od ..
 |
  b::ms,t::ts,k+1,i,q1,q2,hn=>by
  have ih:=mV (ms:=ms) (ts:=ts) (k:=k) (by simpa using q1) (by simpa using q2) hn
  cases b <;> cases t <;> simp only[bu] <;> first |exact ih |(split;exact ih;exact N9 _ ih)
def fP{ms:List Bool}{ts:List Tm}{k i:Nat}(q:(cT ms ts)[k]?=some (some i)):ms[k]?=some true/\ts[k]?=some (.bor i):=by
 unfold cT at q
 rw[PD] at q
 cases h1:ms[k]? with
 |none=>rw[h1] at q;cases q
 |
  some b=>
  cases h2:ts[k]? with
  |none=>rw[h1,h2] at q;cases q
  |
   some t=>
   rw[h1,h2] at q
   have q':qb b t=some i:=Oz q
   cases b <;> cases t <;> first |(cases q';done) |(cases q';exact⟨rfl,rfl⟩)
def DX{ms:List Bool}{ts:List Tm}{k i:Nat}(q1:ms[k]?=some true)(q2:ts[k]?=some (.bor i)):(cT ms ts)[k]?=some (some i):=by
 unfold cT
 rw[PD,q1,q2];rfl
theorem vQ{e:E3}:∀{ts:List Tm}{vs:List Val}{k:Nat}{v:Val},rss e ts=some vs->vs[k]?=some v->∃t,ts[k]?=some t/\rs e t=some v
 | [],_,_,_,q,q2=>by cases q;simp at q2
 |
  t::ts,vs,k,v,q,q2=>by
  unfold rss at q
  split at q
  ·rename_i u us e1 e2
   cases q
   cases k with
   |zero=>
    have:u=v:=by simpa using q2
    subst this;exact⟨t,rfl,e1⟩
   |
    succ k=>
    obtain⟨t',y1,y2⟩:=vQ (k:=k) e2 (by simpa using q2)
    exact⟨t',by simpa using y1,y2⟩
  ·cases q
theorem mJ{e:E3}:∀{ts:List Tm}{vs:List Val},rss e ts=some vs->vs.length=ts.length
 | [],_,q=>by cases q;rfl
 |
  t::ts,vs,q=>by
  unfold rss at q
  split at q
  ·rename_i u us e1 e2;cases q;exact O3 (· + 1) (mJ e2)
  ·cases q
theorem TsR.get{X:Nat->Prop}{ns:Ns}{ae:AE}{h:AH}:∀{ds:List D}{ts:List Tm}{k:Nat}{t:Tm},TsR X ns ae h ds ts->ts[k]?=some t->∃d,ds[k]?=some d/\((∃v,t=.val v/\Rd (Oc X ns) h d v)\/∃i,t=.bor i/\ae[i]?=some (some d))
 |_,_,_,_,.nil,q=>by simp at q
 |_,_,0,_,.val r rr,q=>by have:=(by simpa using q:Tm.val _=_);subst this;exact⟨_,rfl,.inl ⟨_,rfl,r⟩⟩
 |_,_,0,_,.bor r rr,q=>by have:=(by simpa using q:Tm.bor _=_);subst this;exact⟨_,rfl,.inr ⟨_,rfl,r⟩⟩
 |_,_,k+1,t,.val r rr,q=>by obtain⟨d,y⟩:=rr.get (k:=k) (by simpa using q);exact⟨d,by simpa using y⟩
 |_,_,k+1,t,.bor r rr,q=>by obtain⟨d,y⟩:=rr.get (k:=k) (by simpa using q);exact⟨d,by simpa using y⟩
def Xc(X:Nat->Prop)(ns:Ns)(e:E3)(ms:List Bool)(ts:List Tm)(n:Nat):Prop:=(X n\/some n∈ns)/\some n∉cQ (cT ms ts) ns/\∀i∈bu e ms ts,ns[i]?≠some (some n)
def sS{X:Nat->Prop}{h0:Nat}{ns:Ns}{e:E3}{ae:AE}{h:AH}{ms:List Bool}{ts:List Tm}{ds:List D}{vs:List Val}(S:Sat X h0 ns e ae h)(rt:TsR X ns ae h ds ts)(qv:rss e ts=some vs)(ok:okA e ms ts=true):
 Sat (Xc X ns e ms ts) h.length (cQ (cT ms ts) ns) (sls ms vs) (ds.map some) h:=by
 have l1:=kf ok
 have l2:=mJ qv
 have l3:=TsR.len rt
 have hs:nW (cT ms ts):=λj k i q1 q2=>j8 ok (fP q2).1 (fP q2).2 (fP q1).2
 have mv:Mov (Oc X ns) (Oc (Xc X ns e ms ts) (cQ (cT ms ts) ns)) h h:=λn o p q=>⟨⟨λz=>by
  rcases z.1 with z |z
  ·exact p.1 z
  ·exact p.2 z,λz=>p.2 (nh z)⟩,q⟩
 refine⟨?_,?_,Oe _,λn z=>?_,λj k n q1 q2=>?_,λj n q z=>z.2.1 (bB.mpr ⟨j,q⟩),λk s q=>?_⟩
 ·unfold sls;rw[N8,PR];omega
 ·unfold cQ cT sls;rw[N8,PR,PR];omega
 ·rcases z.1 with z |z
  ·exact S.xl n z
  ·obtain⟨i,z⟩:=bB.mp z
   obtain⟨_,_,_,_,_,_,_,q',_⟩:=S.own z
   exact cz q'
 ·obtain⟨i,y1,y2⟩:=dm q1
  obtain⟨i',y3,y4⟩:=dm q2
  have:=S.inj i i' n y2 y4
  subst this
  exact hs j k i y1 y3
 ·obtain⟨b,v,
   q1,q2,rfl⟩:=fW q
  obtain⟨t,q3,q4⟩:=vQ qv q2
  obtain⟨d,q5,q6⟩:=rt.get q3
  have qd:(ds.map some)[k]?=some (some d):=by rw[OD,q5];rfl
  rw[qd]
  have qn:(cQ (cT ms ts) ns)[k]?=some ((qb b t).bind λi=>(ns[i]?).bind id):=by
   unfold cQ cT
   rw[OD,PD,q1,q3];rfl
  rw[qn]
  cases b with
  |
   true=>
   obtain⟨i,y1,u,y2⟩:=l9 ok q1
   rw[q3] at y1;cases y1
   have q4':(e[i]?).bind Sl.val=some v:=q4
   obtain⟨s,z1,z2⟩:=OO.mp y2
   rw[z1] at q4'
   have hv:s.val=some v:=q4'
   have huv:u=v:=by cases s <;> first |cases z2;done |(cases z2;cases hv;rfl)
   subst huv
   have hns:∃n,ns[i]?=some (some n):=by
    have y:=S.sl i s z1
    cases s with
    |ow v=>obtain⟨n,o,y1,_⟩:=y;exact⟨n,y1⟩
    |mu v=>obtain⟨n,o,y1,_⟩:=y;exact⟨n,y1⟩
    |_=>cases z2
   obtain⟨n,hn⟩:=hns
   obtain⟨n',o,k1,k2,k3,k4,_⟩:=S.write z1 z2
   rcases q6 with ⟨_,z,_⟩ |⟨i',z,q6⟩
   ·cases z
   ·cases z
    rw[q6] at k1;cases k1
    obtain⟨_,_,_,_,_,_,w,_⟩:=S.own hn
    rw[q6] at w;cases w
    exact⟨n,o,by show some ((ns[i]?).bind id)=_;rw[hn];rfl,rfl,k2,k3,k4.mono mv⟩
  |
   false=>
   refine⟨by cases t <;> rfl,d,rfl,?_⟩
   rcases q6 with ⟨u,rfl,q6⟩ |⟨i,rfl,q6⟩
   ·cases q4;exact q6.mono mv
   ·have q4':(
     e[i]?).bind Sl.val=some v:=q4
    rcases S.bor q6 q4' with z |⟨n,o,rfl,z1,z2⟩
    ·exact z.mono mv
    ·refine .cell ⟨λy=>?_,λy=>?_⟩ z1 (z2.mono mv)
     ·
      by_cases hsh:∃w,e[i]?=some (.sh w)
      ·obtain⟨w,hsh⟩:=hsh
       obtain⟨_,x,w1,w2⟩:=S.sl i _ hsh
       rw[q6] at w1;cases w1
       cases w2 with
       |cell p _ _=>rcases y.1 with y |y;exact p.1 y;exact p.2 y
      ·have hl:=mV q1 q3 λw z=>hsh ⟨w,z⟩
       cases w:ns[i]? with
       |
        none=>
        have hi:i<e.length:=by
         cases z:e[i]? with
         |none=>rw[z] at q4';cases q4'
         |some _=>exact (N_.mp z).1
        rw[Pq,S.l2] at w
        omega
       |
        some w'=>
        cases w' with
        |
         none=>
         cases z:e[i]? with
         |none=>rw[z] at q4';cases q4'
         |
          some s=>
          have k:=S.sl i s z
          rw[w] at k
          cases s with
          |no=>rw[z] at q4';cases q4'
          |sh w=>exact hsh ⟨w,z⟩
          |ow w=>obtain⟨_,_,k,_⟩:=k;cases k
          |lo w=>obtain⟨_,_,k,_⟩:=k;cases k
          |mu w=>obtain⟨_,_,k,_⟩:=k;cases k
          |lm w=>obtain⟨_,_,k,_⟩:=k;cases k
        |
         some n'=>
         obtain⟨_,_,_,_,_,_,w2,_⟩:=S.own w
         rw[q6] at w2;cases w2
         exact y.2.2 i hl w
     ·obtain⟨j,y⟩:=bB.mp y
      obtain⟨i',y1,y2⟩:=dm y
      obtain⟨y3,y4⟩:=fP y1
      obtain⟨_,_,_,_,_,_,w2,_⟩:=S.own y2
      have:i'
       = i:=by
       cases w:ns[i]? with
       |
        none=>
        have hi:i<e.length:=by
         cases z:e[i]? with
         |none=>rw[z] at q4';cases q4'
         |some _=>exact (N_.mp z).1
        rw[Pq,S.l2] at w
        omega
       |
        some w'=>
        cases w' with
        |
         some n'=>
         obtain⟨_,_,_,_,_,_,w3,_⟩:=S.own w
         rw[q6] at w3;cases w3
         exact S.inj i' i n y2 w
        |
         none=>
         cases z:e[i]? with
         |none=>rw[z] at q4';cases q4'
         |
          some s=>
          have k:=S.sl i s z
          rw[w,q6] at k
          cases s with
          |no=>rw[z] at q4';cases q4'
          |
           sh w=>
           obtain⟨_,x,k1,k2⟩:=k
           cases k1
           cases k2 with
           |cell p _ _=>exact (p.2 (bB.mpr ⟨i',y2⟩)).elim
          |ow w=>obtain⟨_,_,k,_⟩:=k;cases k
          |lo w=>obtain⟨_,_,k,_⟩:=k;cases k
          |mu w=>obtain⟨_,_,k,_⟩:=k;cases k
          |lm w=>obtain⟨_,_,k,_⟩:=k;cases k
      subst this
      have:=j8 ok y3 y4 q3
      subst this
      rw[q1] at y3;cases y3
end L3
namespace L3
open PySem PySem.Spec PyProof.Rows L2
theorem fM:∀{ms:List Bool}{mv:List Val}{j:Nat}{v:Val},(bc ms mv)[j]?=some (.mu v)->v∈mv
 | [],_,_,_,q=>by simp [bc] at q
 |true::ms,u::mv,0,v,q=>by
  have:Sl.mu u=.mu v:=by simpa [bc] using q
  cases this;exact Od ..
 |true::ms,u::mv,j+1,v,q=>N9 _ (fM (ms:=ms) (mv:=mv) (j:=j) (by simpa [bc] using q))
 |true::ms,[],0,v,q=>by simp [bc] at q
 |true::ms,[],j+1,v,q=>fM (ms:=ms) (mv:=[]) (j:=j) (by simpa [bc] using q)
 |false::ms,mv,0,v,q=>by simp [bc] at q
 |false::ms,mv,j+1,v,q=>fM (ms:=ms) (mv:=mv) (j:=j) (by simpa [bc] using q)
theorem nu{e:E3}:∀{ms:List Bool}{ts:List Tm}{i:Nat},i∈bu e ms ts->∃k:Nat,ms[k]?=some false/\ts[k]?=some (.bor i)
 | [],_,_,q=>by simp [bu] at q
 |_::_,[],_,q=>by simp [bu] at q
 |
  b::ms,t::ts,i,q=>by
  have up:i∈bu e ms ts->∃k:Nat,(b::ms)[k]?=some false/\(t::ts)[k]?=some (.bor i):=λz=>by
   obtain⟨k,y1,y2⟩:=nu z
   exact⟨k+1,by simpa using y1,by simpa using y2⟩
  cases b <;> cases t <;> simp only[bu] at q <;> first |exact up q |skip
  split at q
  ·exact up q
  ·rcases Ow.mp q with rfl |q
   ·exact⟨0,rfl,rfl⟩
   ·exact up q
def EC{e e1:E3}{i:Nat}{v:Val}(q:dE e (.bor i)=some (e1,v)):(∀j,j≠i->e1[j]?=e[j]?)/\e1[i]?=some (.sh v)/\(e[i]?).bind Sl.val=some v:=by
 unfold dE at q
 dsimp only at q
 split at q
 ·rename_i u q1;cases q;exact⟨λ_ _=>rfl,q1,by rw[q1];rfl⟩
 ·rename_i u q1;cases q;exact⟨λj z=>bP z,ck (N_.mp q1).1,by rw[q1];rfl⟩
 ·cases q
theorem tN{X:Nat->Prop}{h0:Nat}{ae:AE}{h:AH}:∀{is:List Nat}{ns:Ns}{e e2:E3},Sat X h0 ns e ae h->(∀i∈is,∃d,ae[i]?=some (some d))->qF e is=some e2->∃ge,Sat X h0 ge e2 ae h/\Stp ns e h ge e2 h/\(∀i,i∉is->e2[i]?=e[i]?)/\(∀i∈is,∃v,e2[i]?=some (.sh v))/\∀i:Nat,(e2[i]?).bind Sl.val=(e[i]?).bind Sl.val
 | [],ns,e,e2,S,_,q=>by cases q;exact⟨ns,S,.refl,λ_ _=>rfl,(λ_ z=>by cases z),λ_=>rfl⟩
 |
  i::is,ns,e,e2,S,hd,q=>by
  unfold qF at q
  split at q
  ·rename_i e1 v q1
   obtain⟨d,hd0⟩:=hd i (Od ..)
   obtain⟨ns1,S1,a1,r1⟩:=gJ (L:=0) (t:=.bor i) S hd0 q1
   obtain⟨ge,S2,a2,k1,k2,k3⟩:=tN S1 (λj z=>hd j (N9 _ z)) q
   obtain⟨y1,y2,y3⟩:=EC q1
   refine⟨ge,S2,a1.trans S a2,λj hj=>?_,λj hj=>?_,λj=>?_⟩
   ·rw[Ow,not_or] at hj
    rw[k1 j hj.2,y1 j hj.1]
   ·by_cases z:j∈is
    ·exact k2 j z
    ·rcases Ow.mp hj with rfl |hj
     ·exact⟨v,by rw[k1 j z];exact y2⟩
     ·exact absurd hj z
   ·rw[k3 j]
    by_cases z:j=i
    ·subst z;rw[y2,y3];rfl
    ·rw[y1 j z]
  ·cases q
theorem rj{e e2:E3}:∀{ms:List Bool}{ts:List Tm},(∀(k i:Nat),ms[k]?=some true->ts[k]?=some (.bor i)->e2[i]?=e[i]?)->okA e ms ts=true->okA e2 ms ts=true
 | [],[],_,o=>rfl
 | [],_::_,_,o=>by simp [okA] at o
 |b::ms,[],_,o=>by cases b <;> simp [okA] at o
 |
  b::ms,t::ts,hk,o=>by
  have o':okA e ms ts=true:=by
   cases b <;> cases t <;> simp only[okA,Ol] at o <;> first |exact o.2 |exact o |(simp at o;done)
  have ih:=rj (λk i q1 q2=>hk (k+1) i (by simpa using q1) (by simpa using q2)) o'
  cases b with
  |false=>cases t <;> simp only[okA,Ol] at o ⊢ <;> first |exact⟨o.1,ih⟩ |exact ih
  |
   true=>
   cases t with
   |
    bor i=>
    simp only[okA,Ol] at o ⊢
    rw[hk 0 i rfl rfl]
    exact⟨o.1,ih⟩
   |_=>simp [okA] at o
theorem sE{e:E3}:∀{ms:List Bool}{ts:List Tm},(∀(k i:Nat),ms[k]?=some false->ts[k]?=some (.bor i)->∃v,e[i]?=some (.sh v))->bu e ms ts=[]
 | [],_,_=>by simp [bu]
 |_::_,[],_=>by simp [bu]
 |
  b::ms,t::ts,hk=>by
  have ih:=sE (λk i q1 q2=>hk (k+1) i (by simpa using q1) (by simpa using q2))
  cases b <;> cases t <;> simp only[bu] <;> first |exact ih |skip
  rename_i i
  obtain⟨v,q⟩:=hk 0 i rfl rfl
  rw[q];exact ih
theorem rl{e e2:E3}(hv:∀i:Nat,(e2[i]?).bind Sl.val=(e[i]?).bind Sl.val):∀(ts:List Tm),rss e2 ts=rss e ts
 | []=>rfl
 |
  t::ts=>by
  unfold rss
  rw[rl hv ts]
  have:rs e2 t=rs e t:=by
   cases t with
   |bor i=>exact hv i
   |_=>rfl
  rw[this]
def tw{e:E3}{ms:List Bool}{ts:List Tm}{vs:List Val}(ok:okA e ms ts=true):Lnk (cT ms ts) e (sls ms vs):=by
 refine⟨λj k i q1 q2=>j8 ok (fP q2).1 (fP q2).2 (fP q1).2,λj v q=>?_,λj s q hm=>?_⟩
 ·obtain⟨b,u,q1,_,q2⟩:=fW q
  cases b with
  |false=>cases q2
  |
   true=>
   obtain⟨i,y1,w,y2⟩:=l9 ok q1
   obtain⟨s,z1,z2⟩:=OO.mp y2
   exact⟨i,s,DX q1 y1,z1,by cases s <;> first |rfl |cases z2⟩
 ·obtain⟨b,u,q1,_,q2⟩:=fW q
  cases b with
  |false=>subst q2;cases hm
  |true=>exact⟨u,q2⟩
section
variable{X:Nat->Prop}{h0 L:Nat}{ns:Ns}{e:E3}{ae:AE}{h:AH}{ms:List Bool}{ts:List Tm}{ds:List D}{vs:List Val}{S2:Fn}{G3:Fn3}
def j6(Y:Nat->Prop)(hY:∀n,Y n->X n\/Y n){n:Nat}(hl:bu e ms ts=[])(z:¬ Xc X ns e ms ts n)(z2:some n∉cQ (cT ms ts) ns):Oc X ns n:=by
 refine⟨λy=>z ⟨.inl y,z2,λi hi=>by rw[hl] at hi;cases hi⟩,λy=>z ⟨.inr y,z2,λi hi=>by rw[hl] at hi;cases hi⟩⟩
def v8{r:Rt}{mv:List Val}(S:Sat X h0 ns e ae h)(hL:L<=h.length)(rt:TsR X ns ae h ds ts)(qv:rss e ts=some vs)(ok:okA e ms ts=true)(hG:RF ms S2 G3)(q:G3 vs=.ok r mv)(hf:bu e ms ts=[]\/(kx r=true/\mv.all flatC=true)):
 Po X h0 ns e ae h (relE X h0 L ae) (S2 ds h) (.ok (r.tm ts) (bU (cT ms ts) (bc ms mv) e)):=by
 have p:=hG _ _ ds vs h (by rw[mJ qv,kf ok]) (sS S rt qv ok)
 rw[q] at p
 obtain⟨d,h',p1,a,rr⟩:=p
 have K:=tw (vs:=vs) ok
 have xcl:∀n,X n->n<h.length:=S.xl
 cases r with
 |
  val v=>
  obtain⟨S3,rv⟩:=rr
  obtain⟨S4,a4⟩:=S.back (Y:=X) K a (λn z=>⟨Ot (xcl n z) a.len,.inl z⟩) (λ_ z=>z) λj w n q1 q2=>by
   obtain⟨s,u,o,b1,b2,b3,b4,b5,b6,b7⟩:=S3.own q2
   rw[q1] at b1;cases b1;cases b3
   rcases hf with hf |hf
   ·exact⟨o,b5,b6,b7.mono λm o' z y=>⟨j6 X (λ_ z=>.inl z) hf z.1 z.2,y⟩⟩
   ·exact⟨o,b5,b6,b7.flat (OV.mp hf.2 w (fM q1))⟩
  refine⟨d,h',ns,p1,a4,S4,?_⟩
  rcases hf with hf |hf
  ·exact rv.mono λm o' z y=>⟨j6 X (λ_ z=>.inl z) hf z.1 z.2,y⟩
  ·exact rv.flat hf.1
 |
  new v=>
  obtain⟨n,o,z1,z2,z3,z4,z5,S3,z7⟩:=rr
  have hnx:¬ X n:=λy=>by have:=xcl n y;omega
  have kk:∀m,Oc (Xn (Xc X ns e ms ts) n) (cQ (cT ms ts) ns) m->bu e ms ts=[]->Oc (Xn X n) ns m:=λm z hf=>by
   have:=j6 X (λ_ z=>.inl z) hf (λy=>z.1 (.inl y)) z.2
   exact⟨λy=>by
    rcases y with y |y
    ·exact this.1 y
    ·exact z.1 (.inr y),this.2⟩
  obtain⟨S4,a4⟩:=S.back (Y:=Xn X n) K a (λm z=>by
   rcases z with z |rfl
   ·exact⟨Ot (xcl m z) a.len,.inl z⟩
   ·exact⟨cz z4,.inr z2⟩) (λ_ z=>.inl z) λj w n' q1 q2=>by
   obtain⟨s,u,o,b1,b2,b3,b4,b5,b6,b7⟩:=S3.own q2
   rw[q1] at b1;cases b1;cases b3
   rcases hf with hf |hf
   ·exact⟨o,b5,b6,b7.mono λm o' z y=>⟨kk m z hf,y⟩⟩
   ·exact⟨o,b5,b6,b7.flat (OV.mp hf.2 w (fM q1))⟩
  refine⟨d,h',ns,p1,a4,S4.weak λ_ z=>.inl z,n,o,z1,Oy hL z2,hnx,z4,z5,S4,?_⟩
  rcases hf with hf |hf
  ·exact z7.mono λm o' z y=>⟨kk m z hf,y⟩
  ·exact z7.flat hf.1
 |
  par i=>
  obtain⟨S3,w1,w,w2⟩:=rr
  obtain⟨S4,a4⟩:=S.back (Y:=X) K a (λn z=>⟨Ot (xcl n z) a.len,.inl z⟩) (λ_ z=>z) λj w n q1 q2=>by
   obtain⟨s,u,o,b1,b2,b3,b4,b5,b6,b7⟩:=S3.own q2
   rw[q1] at b1;cases b1;cases b3
   rcases hf with hf |hf
   ·exact⟨o,b5,b6,b7.mono λm o' z y=>⟨j6 X (λ_ z=>.inl z) hf z.1 z.2,y⟩⟩
   ·exact⟨o,b5,b6,b7.flat (OV.mp hf.2 w (fM q1))⟩
  refine⟨d,h',ns,p1,a4,S4,?_⟩
  obtain⟨u,x1,_⟩:=a.mu i w w2
  obtain⟨b,u',x2,_,x3⟩:=fW x1
  cases b with
  |false=>cases x3
  |
   true=>
   obtain⟨k,y1,_⟩:=l9 ok x2
   obtain⟨d',y2,z⟩:=rt.get y1
   have e1:(Rt.par i).tm ts=.bor k:=by show (ts[i]?).getD _=_;rw[y1];rfl
   rw[e1]
   rcases z with ⟨_,z,_⟩ |⟨j,z,z2⟩
   ·cases z
   ·cases z
    rw[OD,y2] at w1
    cases w1
    exact z2
def A7{c:Str}{mv:List Val}(S:Sat X h0 ns e ae h)(rt:TsR X ns ae h ds ts)(qv:rss e ts=some vs)(ok:okA e ms ts=true)(hG:RF ms S2 G3)(q:G3 vs=.exc c mv)(hf:bu e ms ts=[]\/mv.all flatC=true):
 Po X h0 ns e ae h (relE X h0 L ae) (S2 ds h) (.exc c (bU (cT ms ts) (bc ms mv) e)):=by
 have p:=hG _ _ ds vs h (by rw[mJ qv,kf ok]) (sS S rt qv ok)
 rw[q] at p
 obtain⟨h',p1,a,S3⟩:=p
 have K:=tw (vs:=vs) ok
 obtain⟨S4,a4⟩:=S.back (Y:=X) K a (λn z=>⟨Ot (S.xl n z) a.len,.inl z⟩) (λ_ z=>z) λj w n q1 q2=>by
  obtain⟨s,u,o,b1,b2,b3,b4,b5,b6,b7⟩:=S3.own q2
  rw[q1] at b1;cases b1;cases b3
  rcases hf with hf |hf
  ·exact⟨o,b5,b6,b7.mono λm o' z y=>⟨j6 X (λ_ z=>.inl z) hf z.1 z.2,y⟩⟩
  ·exact⟨o,b5,b6,b7.flat (OV.mp hf w (fM q1))⟩
 exact⟨h',ns,p1,a4,S4⟩
def D7{A:MA}{A3:MA3}{n:Nat}(hn:n=ms.length)(hG:RF ms S2 G3)(hA:RA A A3):RE (mD n S2 A) (CV ms G3 A3):=λX h0 L ns e ae h S hl=>
 Po.bind
  S (hA X h0 ns e ae h S) λds ts h1 ns1 e1 a1 S1 r1=>by
  try dsimp only
  cases qv:rss e1 ts with
  |none=>trivial
  |
   some vs=>
   dsimp only
   by_cases ok:okA e1 ms ts=true
   ·rw[if_pos ok]
    have be:ds.length=n:=by rw[hn,kf ok];exact TsR.len r1
    rw[if_pos be]
    have hL:L<=h1.length:=Oy hl a1.len
    cases q:G3 vs with
    |stuck=>trivial
    |
     exc c mv=>
     dsimp only
     by_cases hf:((bu e1 ms ts).isEmpty || mv.all flatC)=true
     ·rw[if_pos hf]
      refine A7 S1 r1 qv ok hG q ?_
      rw[Bool.or_eq_true] at hf
      rcases hf with hf |hf
      ·exact .inl (List.isEmpty_iff.mp hf)
      ·exact .inr hf
     ·rw[if_neg hf];trivial
    |
     ok r mv=>
     dsimp only
     by_cases hf:((bu e1 ms ts).isEmpty || (kx r&&mv.all flatC))=true
     ·rw[if_pos hf]
      refine v8 S1 hL r1 qv ok hG q ?_
      rw[Bool.or_eq_true,Ol] at hf
      rcases hf with hf |hf
      ·exact .inl (List.isEmpty_iff.mp hf)
      ·exact .inr hf
     ·rw[if_neg hf]
      cases qd:qF e1 (bu e1 ms ts) with
      |none=>trivial
      |
       some e2=>
       dsimp only
       obtain⟨ge,S2',a2,k1,k2,k3⟩:=tN S1 (λi hi=>by
        obtain⟨k,_,y⟩:=nu hi
        obtain⟨d,_,z⟩:=r1.get y
        rcases z with ⟨_,z,_⟩ |⟨j,z,z2⟩
        ·cases z
        ·cases z;exact⟨d,z2⟩) qd
       have ok2:okA e2 ms ts=true:=rj (λk i q1 q2=>k1 i λz=>by
        obtain⟨k',y1,y2⟩:=nu z
        have:=j8 ok q1 q2 y2
        subst this
        rw[q1] at y1;cases y1) ok
       have ln:bu e2 ms ts=[]:=sE λk i q1 q2=>by
        by_cases z:i∈bu e1 ms ts
        ·exact k2 i z
        ·rw[k1 i z]
         exact Qk λw=>z (mV q1 q2 λv y=>w ⟨v,y⟩)
       have pp:=v8 (L:=L) S2' hL (r1.stp S1 a2) (by rw[rl k3];exact qv) ok2 hG q (.inl ln)
       obtain⟨d,h',ns',y,y1,y2,y3⟩:=pp
       exact⟨d,h',ns',y,a2.trans S1 y1,y2,y3⟩
   ·rw[if_neg ok];trivial
end
def RMv(m2:D->List D->AH->R D)(m3:Val->List Val->Bv):Prop:=∀P h d v ds vs,ShR P h d v->ku v=true->ShRs P h ds vs->BvR P h (m2 d ds h) (m3 v vs)
end L3
namespace L3
open PySem PySem.Spec PyProof.Rows L2
def aI(f:Int->Int->Val):Val->Val->Bv:=λx y=>match x,y with
 |.int i,.int j=>.val (f i j)
 |_,_=>.stuck
open Classical in
def aIc(C:Int->Int->Prop)(f:Int->Int->Val):Val->Val->Bv:=λx y=>match x,y with
 |.int i,.int j=>if C i j then .val (f i j) else .stuck
 |_,_=>.stuck
def wW:Val->Val->Bv:=λx y=>match x,y with
 |.lst xs,.lst ys=>if xs.length+ys.length<=16777216 then .new (.lst (xs++ys)) else .stuck
 |.tup xs,.tup ys=>if xs.length+ys.length<=16777216 then .val (.tup (xs++ys)) else .stuck
 |_,_=>.stuck
def Cz:Val->Val->Bv:=λx y=>match x,y with
 |.int i,.int j=>.val (.int (i+j))
 |x,y=>wW x y
def aMin:=aI λi j=>.int (i-j)
def wM:=aIc CMulA λi j=>.int (i*j)
def wB:=aIc CDivB λi j=>.int (i.fdiv j)
def wI:=aIc (λ_ j=>j≠0) λi j=>.int (i.fmod j)
def xJ:=aIc iG λi j=>.int (i^j.toNat)
def xF:=aIc iG λi j=>.int (i*2^j.toNat)
def aLt:=aI λi j=>.bl (decide (i<j))
def aGt:=aI λi j=>.bl (decide (j<i))
def aGe:=aI λi j=>.bl (decide (j<=i))
def Cb:Val->Bv:=λx=>match x with
 |.int i=>.val (.int (-i))
 |_=>.stuck
def aIx:Val->Val->Bv:=λx y=>match x.items,y with
 |some xs,.int i=>(match atI xs i with
  |some v=>.val v
  |none=>.stuck)
 |_,_=>.stuck
section
def sy{f2:Int->Int->D}{f3:Int->Int->Val}(hr:∀i j P h,Rd P h (f2 i j) (f3 i j)):RO (gI f2) (aI f3):=λP h d1 d2 v1 v2 r1 r2=>by
 unfold aI
 split
 ·obtain rfl:=r1.int;obtain rfl:=r2.int;exact⟨_,rfl,hr _ _ P h⟩
 ·trivial
def n6{C:Int->Int->Prop}{f2:Int->Int->D}{f3:Int->Int->Val}(hr:∀i j P h,Rd P h (f2 i j) (f3 i j)):RO (gIc C f2) (aIc C f3):=λP h d1 d2 v1 v2 r1 r2=>by
 unfold aIc
 split
 ·obtain rfl:=r1.int;obtain rfl:=r2.int
  split
  ·rename_i hc;exact⟨_,by unfold gIc;dsimp only;rw[if_pos hc],hr _ _ P h⟩
  ·trivial
 ·trivial
def GP:RO mZ wW:=λP h d1 d2 v1 v2 r1 r2=>by
 unfold wW
 split
 ·obtain⟨n,ds,rfl,e1,_,q1⟩:=r1.lst
  obtain⟨m,es,rfl,e2,_,q2⟩:=r2.lst
  split
  ·rename_i hl
   exact⟨.lst (ds++es),by unfold mZ;dsimp only;rw[e1,e2];dsimp only;rw[if_pos (by rw[q1.len,q2.len];exact hl)],trivial,.lst (q1.append q2)⟩
  ·trivial
 ·obtain⟨ds,rfl,q1⟩:=r1.tup
  obtain⟨es,rfl,q2⟩:=r2.tup
  split
  ·rename_i hl
   exact⟨_,by unfold mZ;dsimp only;rw[if_pos (by rw[q1.len,q2.len];exact hl)],.tup (q1.append q2)⟩
  ·trivial
 ·trivial
def FJ:RO xo Cz:=λP h d1 d2 v1 v2 r1 r2=>by
 unfold Cz
 split
 ·obtain rfl:=r1.int;obtain rfl:=r2.int;exact⟨_,rfl,.int _⟩
 ·rename_i hn
  have k:=GP P h d1 d2 v1 v2 r1 r2
  have e:xo d1 d2 h=mZ d1 d2 h\/wW v1 v2=.stuck:=by
   cases v1 <;> first |(right;rfl) |(left;skip)
   ·obtain⟨ds,rfl,_⟩:=r1.tup;rfl
   ·obtain⟨n,ds,rfl,_⟩:=r1.lst;rfl
  rcases e with e |e
  ·rw[e];exact k
  ·rw[e];trivial
def GH:RO AM aMin:=sy λ_ _ _ _=>.int _
def FN:RO AF wM:=n6 λ_ _ _ _=>.int _
def FD:RO BR wB:=n6 λ_ _ _ _=>.int _
def HM:RO Al wI:=n6 λ_ _ _ _=>.int _
def Jf:RO Ce xJ:=n6 λ_ _ _ _=>.int _
def HC:RO A8 xF:=n6 λ_ _ _ _=>.int _
def K5:RO gLt aLt:=sy λ_ _ _ _=>.bl _
def Ln:RO gGt aGt:=sy λ_ _ _ _=>.bl _
def LS:RO gGe aGe:=sy λ_ _ _ _=>.bl _
def JB:RU xO Cb:=λP h d v r=>by
 unfold Cb
 split
 ·obtain rfl:=r.int;exact⟨_,rfl,.int _⟩
 ·trivial
def Mj{P:Nat->Prop}{h:AH}{ds:List D}{vs:List Val}(r:Rds P h ds vs){i:Int}{v:Val}(e:atI vs i=some v):∃d,atI ds i=some d/\Rd P h d v:=by
 unfold atI at e ⊢
 rw[r.len]
 cases q:ixN vs.length i with
 |none=>rw[q] at e;cases e
 |some j=>rw[q] at e;exact r.get e
def KN:RO gIx aIx:=λP h d1 d2 v1 v2 r1 r2=>by
 unfold aIx
 split
 ·rename_i xs i e1
  obtain⟨ds,e2,q⟩:=r1.items e1
  obtain rfl:=r2.int
  split
  ·rename_i v e3
   obtain⟨d,e4,q2⟩:=Mj q e3
   exact⟨d,by unfold gIx;rw[e2];dsimp only;rw[e4],q2⟩
  ·trivial
 ·trivial
end
mutual
def dU:Nat->Val->Option PyData
 |0,_=>none
 |_+1,.non=>some .none
 |_+1,.bl b=>some (.bool b)
 |_+1,.int i=>some (.int i)
 |_+1,.str x=>some (.str x)
 |k+1,.tup xs=>(fD k xs).map .tuple
 |k+1,.lst xs=>(fD k xs).map .list
 |_+1,_=>none
def fD:Nat->List Val->Option (List PyData)
 |_,[]=>some []
 |k,x::xs=>match dU k x,fD k xs with
  |some a,some b=>some (a::b)
  |_,_=>none
end
def Bu{P:Nat->Prop}{h:AH}{k:Nat}(hk:∀d v pd,Rd P h d v->dU k v=some pd->fA k h d=some pd):∀{ds:List D}{vs:List Val}{ps:List PyData},Rds P h ds vs->fD k vs=some ps->ds.mapM (fA k h)=some ps:=by
 intro ds
 induction ds with
 |
  nil=>
  intro vs ps r q
  cases r
  unfold fD at q
  cases q
  rfl
 |
  cons d0 ds ih=>
  intro vs ps r q
  cases r with
  |
   cons r rr=>
   unfold fD at q
   split at q
   ·rename_i a b e1 e2
    cases q
    rw[P8,hk _ _ _ r e1,ih rr e2];rfl
   ·cases q
theorem pJ{P:Nat->Prop}{h:AH}:∀(k:Nat) (d:D) (v:Val) (pd:PyData),ShR P h d v->dU k v=some pd->fA k h d=some pd
 |0,_,_,_,_,q=>by unfold dU at q;cases q
 |
  k+1,d,v,pd,r,q=>by
  have ih:∀{ds:List D}{vs:List Val}{ps:List PyData},Rds P h ds vs->fD k vs=some ps->ds.mapM (fA k h)=some ps:=Bu λd v pd r q=>pJ k d v pd (.inl r) q
  cases v with
  |non=>obtain rfl:=r.non;simp only[dU] at q;cases q;rfl
  |bl b=>obtain rfl:=r.bl;simp only[dU] at q;cases q;rfl
  |int b=>obtain rfl:=r.int;simp only[dU] at q;cases q;rfl
  |str b=>obtain rfl:=r.str;simp only[dU] at q;cases q;rfl
  |
   tup xs=>
   obtain⟨ds,rfl,r2⟩:=r.tup
   simp only[dU] at q
   obtain⟨ps,q1,rfl⟩:=OE.mp q
   show (ds.mapM (fA k h)).map PyData.tuple=_
   rw[ih r2 q1];rfl
  |
   lst xs=>
   obtain⟨n,ds,rfl,_,e1,r2⟩:=r.lst
   simp only[dU] at q
   obtain⟨ps,q1,rfl⟩:=OE.mp q
   unfold fA
   rw[e1]
   show (ds.mapM (fA k h)).map PyData.list=_
   rw[ih r2 q1];rfl
  |_=>simp only[dU] at q;cases q
def eT(x y:Val):Option Bool:=match dU 64 x,dU 64 y with
 |some a,some b=>if SeqAt.shaped a=true/\SeqAt.shaped b=true then some (PyData.eqv a b) else none
 |_,_=>none
def aEq(neg:Bool):Val->Val->Bv:=λx y=>match eT x y with
 |some b=>.val (.bl (if neg then !b else b))
 |none=>.stuck
def HV{P:Nat->Prop}{h:AH}{d1 d2:D}{v1 v2:Val}{b:Bool}(r1:ShR P h d1 v1)(r2:ShR P h d2 v2)(q:eT v1 v2=some b):tf h d1 d2=some b:=by
 unfold eT at q
 split at q
 ·rename_i a c e1 e2
  unfold tf
  rw[pJ 64 _ _ _ r1 e1,pJ 64 _ _ _ r2 e2]
  exact q
 ·cases q
def CN(neg:Bool):RO (gEq neg) (aEq neg):=λP h d1 d2 v1 v2 r1 r2=>by
 unfold aEq
 split
 ·rename_i b q
  exact⟨_,by unfold gEq;rw[HV r1 r2 q],.bl _⟩
 ·trivial
def rO:Val->Bool
 |.non=>true
 |.bl _=>true
 |.int _=>true
 |.str _=>true
 |_=>false
def x5:Val->V
 |.bl b=>.bl b
 |.int i=>.int i
 |.str x=>.str x
 |_=>.non
def eq1(x y:Val):Bool:=eqV (x5 x) (x5 y)
def aIn(neg:Bool):Val->Val->Bv:=λx y=>match y.items with
 |some xs=>if rO x=true/\xs.all rO=true then .val (.bl (if neg then !(xs.any λd=>eq1 d x) else xs.any λd=>eq1 d x)) else .stuck
 |none=>.stuck
def vF{P:Nat->Prop}{h:AH}{d:D}{v:Val}(r:ShR P h d v)(f:rO v=true):mz d=true/\toV d=x5 v:=by
 cases v with
 |non=>obtain rfl:=r.non;exact⟨rfl,rfl⟩
 |bl b=>obtain rfl:=r.bl;exact⟨rfl,rfl⟩
 |int b=>obtain rfl:=r.int;exact⟨rfl,rfl⟩
 |str b=>obtain rfl:=r.str;exact⟨rfl,rfl⟩
 |_=>cases f
def AL{P:Nat->Prop}{h:AH}(x:D)(y:Val)(hx:toV x=x5 y):∀{ds:List D}{vs:List Val},Rds P h ds vs->vs.all rO=true->ds.all mz=true/\(ds.any λd=>eqF d x)=vs.any λd=>eq1 d y:=by
 intro ds
 induction ds with
 |
  nil=>
  intro vs r f
  cases r
  exact⟨rfl,rfl⟩
 |
  cons d0 ds ih=>
  intro vs r f
  cases r with
  |
   cons r rr=>
   rw[PV,Ol] at f
   obtain⟨h1,h2⟩:=vF (.inl r) f.1
   obtain⟨h3,h4⟩:=ih rr f.2
   refine⟨by rw[PV,h1,h3];rfl,?_⟩
   rw[Pg,Pg,h4]
   unfold eqF eq1
   rw[h2,hx]
def LO(neg:Bool):RO (gIn neg) (aIn neg):=λP h d1 d2 v1 v2 r1 r2=>by
 unfold aIn
 split
 ·rename_i xs e
  obtain⟨ds,e2,q⟩:=r2.items e
  split
  ·rename_i hf
   obtain⟨f1,f2⟩:=vF r1 hf.1
   obtain⟨f3,f4⟩:=AL d1 v1 f2 q hf.2
   exact⟨_,by unfold gIn;rw[e2];dsimp only;rw[if_pos ⟨f1,f3⟩,f4],.bl _⟩
  ·trivial
 ·trivial
def BU(neg:Bool):Val->Val->Bv:=λx y=>match x,y with
 |.non,.non=>.val (.bl (!neg))
 |_,.non=>.val (.bl neg)
 |_,_=>.stuck
def G7(neg:Bool):RO (BO neg) (BU neg):=λP h d1 d2 v1 v2 r1 r2=>by
 unfold BU
 split
 ·obtain rfl:=r1.non;obtain rfl:=r2.non;exact⟨_,rfl,.bl _⟩
 ·rename_i hn
  obtain rfl:=r2.non
  have:d1 ≠ .non:=by
   rintro rfl
   rcases r1 with r |⟨n,o,z,_⟩
   ·cases r;exact hn rfl
   ·cases z
  refine⟨_,?_,.bl neg⟩
  unfold BO
  split
  ·exact absurd rfl this
  ·rfl
  ·rename_i h1 h2;exact (h1 rfl).elim
 ·trivial
def Ba:List Val->Bv:=λvs=>match vs with
 | [v]=>(match v.items with
  |some xs=>.val (.int xs.length)
  |none=>(match v with
   |.str z=>if z.length<=16777216 then .val (.int z.length) else .stuck
   |_=>.stuck))
 |_=>.stuck
def Bb:List Val->Bv:=λvs=>match vs with
 | [.int i]=>.val (.int (if i<0 then -i else i))
 |_=>.stuck
def xC:List Val->Bv:=λvs=>match vs with
 | [.int i,.int j]=>.val (.int (if j>i then j else i))
 |_=>.stuck
def xZ:List Val->Bv:=λvs=>match vs with
 | [.int i,.int j]=>.val (.int (if j<i then j else i))
 |_=>.stuck
def lK:List Val->Option (List Bool)
 | []=>some []
 |.bl b::r=>(lK r).map (b :: ·)
 |_=>none
def kG:List Val->Option (List Int)
 | []=>some []
 |.int b::r=>(kG r).map (b :: ·)
 |_=>none
def Ap:List Val->Bv:=λvs=>match vs with
 | [.lst xs]=>(match lK xs with
  |some bs=>.val (.bl (bs.all id))
  |none=>.stuck)
 |_=>.stuck
def B9:List Val->Bv:=λvs=>match vs with
 | [.lst xs]=>(match kG xs with
  |some bs=>.val (.int bs.sum)
  |none=>.stuck)
 |_=>.stuck
def w9:List Val->Bv:=λvs=>match vs with
 | [v]=>(match v.items with
  |some xs=>.new (.lst xs)
  |none=>.stuck)
 |_=>.stuck
def uO:List Val->Bv:=λvs=>match vs with
 | [v]=>(match v.items with
  |some xs=>.val (.tup xs)
  |none=>.stuck)
 |_=>.stuck
def Bn:List Val->Bv:=λvs=>match vs with
 | [.int i]=>.val (.int i)
 | [.bl b]=>.val (.int (if b then 1 else 0))
 |_=>.stuck
def HG:RFn uo Ba:=λP h ds vs r=>by
 unfold Ba
 split
 ·obtain⟨d,hd,rr1⟩:=gv r;subst hd;clear r;have r:=rr1
  split
  ·rename_i xs e
   obtain⟨es,e2,q⟩:=r.items e
   exact⟨_,by unfold uo;dsimp only;rw[e2],by rw[<- q.len];exact .int _⟩
  ·split
   ·rename_i z _
    obtain rfl:=r.str
    split
    ·rename_i hl;exact⟨_,by show (if z.length<=16777216 then _ else _)=_;rw[if_pos hl],.int _⟩
    ·trivial
   ·trivial
 ·trivial
def HR:RFn x8 Bb:=λP h ds vs r=>by
 unfold Bb
 split
 ·obtain⟨d,hd,rr1⟩:=gv r;subst hd;clear r;have r:=rr1;obtain rfl:=r.int;exact⟨_,rfl,.int _⟩
 ·trivial
def EX:RFn rV xC:=λP h ds vs r=>by
 unfold xC
 split
 ·obtain⟨d,d',hd,rr1,r'⟩:=wN r;subst hd;clear r;have r:=rr1;obtain rfl:=r.int;obtain rfl:=r'.int;exact⟨_,rfl,.int _⟩
 ·trivial
def Fc:RFn rW xZ:=λP h ds vs r=>by
 unfold xZ
 split
 ·obtain⟨d,d',hd,rr1,r'⟩:=wN r;subst hd;clear r;have r:=rr1;obtain rfl:=r.int;obtain rfl:=r'.int;exact⟨_,rfl,.int _⟩
 ·trivial
def Lm{P:Nat->Prop}{h:AH}:∀{ds:List D}{vs:List Val}{bs:List Bool},Rds P h ds vs->lK vs=some bs->jB ds=some bs:=by
 intro ds
 induction ds with
 |
  nil=>
  intro vs bs r q
  cases r
  cases q
  rfl
 |
  cons d0 ds ih=>
  intro vs bs r q
  cases r with
  |
   cons r rr=>
   rename_i v vs
   cases v with
   |
    bl b=>
    obtain rfl:=ShR.bl (.inl r)
    obtain⟨b',q1,rfl⟩:=OE.mp (show (lK vs).map (b :: ·)=some bs from q)
    show (jB _).map (b :: ·)=_
    rw[ih rr q1];rfl
   |_=>cases q
def G4{P:Nat->Prop}{h:AH}:∀{ds:List D}{vs:List Val}{bs:List Int},Rds P h ds vs->kG vs=some bs->ir ds=some bs:=by
 intro ds
 induction ds with
 |
  nil=>
  intro vs bs r q
  cases r
  cases q
  rfl
 |
  cons d0 ds ih=>
  intro vs bs r q
  cases r with
  |
   cons r rr=>
   rename_i v vs
   cases v with
   |
    int b=>
    obtain rfl:=ShR.int (.inl r)
    obtain⟨b',q1,rfl⟩:=OE.mp (show (kG vs).map (b :: ·)=some bs from q)
    show (ir _).map (b :: ·)=_
    rw[ih rr q1];rfl
   |_=>cases q
def HS:RFn uW Ap:=λP h ds vs r=>by
 unfold Ap
 split
 ·obtain⟨d,hd,rr1⟩:=gv r;subst hd;clear r;have r:=rr1
  obtain⟨n,es,rfl,_,e1,q⟩:=r.lst
  split
  ·rename_i bs e2
   exact⟨_,by unfold uW;dsimp only;rw[e1];show (match jB es with |some bs=>_ |none=>_)=_;rw[Lm q e2],.bl _⟩
  ·trivial
 ·trivial
def Gz:RFn uP B9:=λP h ds vs r=>by
 unfold B9
 split
 ·obtain⟨d,hd,rr1⟩:=gv r;subst hd;clear r;have r:=rr1
  obtain⟨n,es,rfl,_,e1,q⟩:=r.lst
  split
  ·rename_i bs e2
   exact⟨_,by unfold uP;dsimp only;rw[e1];show (match ir es with |some bs=>_ |none=>_)=_;rw[G4 q e2],.int _⟩
  ·trivial
 ·trivial
def EM:RFn oZ w9:=λP h ds vs r=>by
 unfold w9
 split
 ·obtain⟨d,hd,rr1⟩:=gv r;subst hd;clear r;have r:=rr1
  split
  ·rename_i xs e
   obtain⟨es,e2,q⟩:=r.items e
   exact⟨.lst es,by unfold oZ;dsimp only;rw[e2],trivial,.lst q⟩
  ·trivial
 ·trivial
def BK:RFn lL uO:=λP h ds vs r=>by
 unfold uO
 split
 ·obtain⟨d,hd,rr1⟩:=gv r;subst hd;clear r;have r:=rr1
  split
  ·rename_i xs e
   obtain⟨es,e2,q⟩:=r.items e
   exact⟨_,by unfold lL;dsimp only;rw[e2],.tup q⟩
  ·trivial
 ·trivial
def Jo:RFn wU Bn:=λP h ds vs r=>by
 unfold Bn
 split
 ·obtain⟨d,hd,rr1⟩:=gv r;subst hd;clear r;have r:=rr1;obtain rfl:=r.int;exact⟨_,rfl,.int _⟩
 ·obtain⟨d,hd,rr1⟩:=gv r;subst hd;clear r;have r:=rr1;obtain rfl:=r.bl;exact⟨_,rfl,.int _⟩
 ·trivial
def tyC:Val->Option Cl
 |.non=>some (.b "NoneType")
 |.bl _=>some (.b "bool")
 |.int _=>some (.b "int")
 |.str _=>some (.b "str")
 |.tup _=>some (.b "tuple")
 |.exc x=>some (.o x)
 |.lst _=>some (.b "list")
 |.dct _=>some (.b "dict")
 |_=>none
def clV:Val->Option Cl
 |.ty n=>some (.b n)
 |.glb x=>some (.o x)
 |_=>none
def xG:List Val->Option (List Cl)
 | []=>some []
 |v::vs=>match clV v,xG vs with
  |some c,some cs=>some (c::cs)
  |_,_=>none
def J3:Val->Option (List Cl)
 |.tup cs=>xG cs
 |v=>(clV v).map ([·])
def Br(kt:gk):List Val->Bv:=λvs=>match vs with
 | [v,c]=>(match tyC v,J3 c with
  |some t,some (c0::cr)=>(match gM kt t (c0::cr),kit kt t c0 with
   |some b,some _=>.val (.bl b)
   |_,_=>.stuck)
  |_,_=>.stuck)
 |_=>.stuck
def KH{P:Nat->Prop}{h:AH}{d:D}{v:Val}{t:Cl}(r:ShR P h d v)(q:tyC v=some t):tyD h d=some t:=by
 cases v with
 |non=>obtain rfl:=r.non;exact q
 |bl b=>obtain rfl:=r.bl;exact q
 |int b=>obtain rfl:=r.int;exact q
 |str b=>obtain rfl:=r.str;exact q
 |exc b=>obtain rfl:=r.exc;exact q
 |tup b=>obtain⟨ds,rfl,_⟩:=r.tup;exact q
 |lst b=>obtain⟨n,ds,rfl,e,_⟩:=r.lst;unfold tyD;dsimp only;rw[e];exact q
 |dct b=>obtain⟨n,ds,rfl,e,_⟩:=r.dct;unfold tyD;dsimp only;rw[e];exact q
 |_=>cases q
def C7{P:Nat->Prop}{h:AH}{d:D}{v:Val}{c:Cl}(r:ShR P h d v)(q:clV v=some c):clD d=some c:=by
 cases v with
 |ty b=>obtain rfl:=r.ty;exact q
 |glb b=>obtain rfl:=r.glb;exact q
 |_=>cases q
def IE{P:Nat->Prop}{h:AH}:∀{ds:List D}{vs:List Val}{cs:List Cl},Rds P h ds vs->xG vs=some cs->ds.mapM clD=some cs:=by
 intro ds
 induction ds with
 |
  nil=>
  intro vs cs r q
  cases r
  cases q
  rfl
 |
  cons d0 ds ih=>
  intro vs cs r q
  cases r with
  |
   cons r rr=>
   unfold xG at q
   split at q
   ·rename_i c cs' e1 e2
    cases q
    rw[P8,C7 (.inl r) e1,ih rr e2];rfl
   ·cases q
def FO(kt:gk):RFn (sk kt) (Br kt):=λP h ds vs r=>by
 unfold Br
 split
 ·rename_i v c
  obtain⟨d,d',rfl,r1,r2⟩:=wN r
  split
  ·rename_i t c0 cr e1 e2
   have e3:=KH r1 e1
   split
   ·rename_i b b' e4 e5
    refine⟨.bl b,?_,.bl b⟩
    unfold sk
    dsimp only
    rw[e3]
    dsimp only
    by_cases ht:∃cs,c=.tup cs
    ·obtain⟨cs,rfl⟩:=ht
     obtain⟨es,rfl,q⟩:=r2.tup
     dsimp only
     rw[IE q e2]
     dsimp only
     rw[e4,e5]
    ·have e2':(clV c).map ([·])=some (c0::cr):=by
      cases c with
      |tup cs=>exact absurd ⟨cs,rfl⟩ ht
      |_=>exact e2
     obtain⟨cl,y1,y2⟩:=OE.mp e2'
     cases y2
     have y3:=C7 r2 y1
     have hd:∀cs,d' ≠ .tup cs:=λcs z=>by subst z;cases y3
     split
     ·rename_i cs;exact absurd rfl (hd cs)
     ·rw[y3]
      dsimp only
      have:kit kt t c0=some b:=by
       unfold gM at e4
       rw[e5] at e4 ⊢
       cases b' with
       |true=>exact e4
       |false=>unfold gM at e4;exact e4
      rw[this]
   ·trivial
  ·trivial
 ·trivial
def iB(xs:List Val)(lo hi:Option Int):List Val:=(xs.drop (HT.sIx xs.length 0 lo)).take (HT.sIx xs.length xs.length hi-HT.sIx xs.length 0 lo)
abbrev MO3:=E3->R3 (Option Int)
def Cj(_:Ns)(_:E3)(_:AH)(b c:Option Int):Prop:=b=c
def ROp(F:MO)(G:MO3):Prop:=∀X h0 ns e ae h,Sat X h0 ns e ae h->Po X h0 ns e ae h Cj (F ae h) (G e)
def zq:MO3:=λe=>.ok none e
def yZ(F:ME3):MO3:=λe=>(F e).bind λt e1=>match rs e1 t with
 |some (.int i)=>.ok (some i) e1
 |_=>.stuck
def aSl(x:Val)(lo hi:Option Int):Bv:=match x with
 |.tup xs=>if HT.sIx xs.length 0 lo=0/\HT.sIx xs.length xs.length hi=xs.length then .stuck else .val (.tup (iB xs lo hi))
 |.lst xs=>.new (.lst (iB xs lo hi))
 |.kl xs=>.new (.lst (iB xs lo hi))
 |_=>.stuck
def vSl(F:ME3)(L U:MO3):ME3:=λe=>(F e).bind λt e1=>(L e1).bind λlo e2=>(U e2).bind λhi e3=>match rs e3 t.drop with
 |some v=>(aSl v lo hi).at e3
 |none=>.stuck
def EY:ROp wD zq:=λX h0 ns e ae h S=>Po.ret S rfl
def E1{F:ME}{F3:ME3}(hF:RE F F3):ROp (xR F) (yZ F3):=λX h0 ns e ae h S=>
 Po.bind S (hF X h0 0 ns e ae h S (OK _)) λd t h1 ns1 e1 a1 S1 r1=>by
  by_cases hq:∃i,rs e1 t=some (.int i)
  ·obtain⟨i,hq⟩:=hq
   have hd:=(r1.sh S1 hq).int
   subst hd
   show Po X h0 ns1 e1 ae h1 Cj (R.ok (some i) h1) (match rs e1 t with |some (.int i)=>R3.ok (some i) e1 |_=>.stuck)
   rw[hq]
   exact Po.ret S1 rfl
  ·have:(match rs e1 t with |some (.int i)=>R3.ok (some i) e1 |_=>.stuck)=(.stuck:R3 (Option Int)):=by
    split
    ·rename_i i q;exact absurd ⟨i,q⟩ hq
    ·rfl
   show Po X h0 ns1 e1 ae h1 Cj _ (match rs e1 t with |some (.int i)=>R3.ok (some i) e1 |_=>.stuck)
   rw[this];trivial
def Km{F:ME}{F3:ME3}{L U:MO}{L3' U3:MO3}(hF:RE F F3)(hL:ROp L L3')(hU:ROp U U3):RE (eSl F L U) (vSl F3 L3' U3):=λX h0 LL ns e ae h S hl=>
 Po.bind
  S (hF X h0 LL ns e ae h S hl) λd t h1 ns1 e1 a1 S1 r1=>Po.bind S1 (hL X h0 ns1 e1 ae h1 S1) λlo lo' h2 ge e2 a2 S2 r2=>Po.bind S2 (hU X h0 ge e2 ae h2 S2) λhi hi' h3 ns3 e3 a3 S3 r3=>by
  cases r2;cases r3
  obtain⟨r1',hn⟩:=r1.drop
  have r4:=(r1'.stp S1 a2 hn).stp S2 a3 hn
  try dsimp only
  split
  ·rename_i v q
   have rr:=r4.sh S3 q
   refine BvR.po S3 (Oy hl (Oy a1.len (Oy a2.len a3.len))) ?_
   unfold aSl
   split
   ·rename_i xs
    obtain⟨ds,rfl,q1⟩:=rr.tup
    split
    ·trivial
    ·rename_i hne
     refine⟨_,by unfold gSl;dsimp only;rw[if_neg (by rw[q1.len];exact hne)],.tup ?_⟩
     unfold L2.cutD iB
     rw[q1.len]
     exact (q1.drop _).take _
   ·rename_i xs
    obtain⟨n,ds,rfl,_,e1,q1⟩:=rr.lst
    refine⟨.lst (L2.cutD ds lo hi),by unfold gSl;dsimp only;rw[e1],trivial,.lst ?_⟩
    unfold L2.cutD iB
    rw[q1.len]
    exact (q1.drop _).take _
   ·rename_i xs
    have key:∃ds,gSl d lo hi h3=.ok (.ref h3.length) (h3++[.lst (L2.cutD ds lo hi)])/\Rds (Oc X ns3) h3 ds xs:=by
     rcases rr with rr |⟨n,o,rfl,e,rr⟩
     ·cases rr with
      |kl q1=>exact⟨_,rfl,q1⟩
      |cell p e rc=>cases rc with |fz q1=>exact⟨_,by unfold gSl bD;dsimp only;rw[e],q1⟩
     ·cases rr with |fz q1=>exact⟨_,by unfold gSl bD;dsimp only;rw[e],q1⟩
    obtain⟨ds,e1,q1⟩:=key
    refine⟨.lst (L2.cutD ds lo hi),e1,trivial,.lst ?_⟩
    unfold L2.cutD iB
    rw[q1.len]
    exact (q1.drop _).take _
   ·trivial
  ·trivial
def qz:Val->List Val->Option (Val×Val):=λu vs=>match u,vs with
 |.lst xs,[v]=>if xs.length<16777216 then some (.lst (xs++[v]),.non) else none
 |_,_=>none
def so:Val->List Val->Option (Val×Val):=λu vs=>match u,vs with
 |.lst xs,[]=>(match xs[xs.length-1]? with
  |some v=>some (.lst xs.dropLast,v)
  |none=>none)
 |_,_=>none
def tU:Val->List Val->Option (Val×Val):=λu vs=>match u,vs with
 |.lst _,[]=>some (.lst [],.non)
 |_,_=>none
section
variable{P:Nat->Prop}{h:AH}
def mL{n:Nat}{o:Ob}{xs:List Val}(e:h[n]?=some o)(r:Rc P h o (.lst xs)):kM h (.ref n)=true/\∃ds,h[n]?=some (.lst ds)/\Rds P h ds xs/\∀f,hZ h (.ref n) f=f n ds:=by
 obtain⟨ds,e1,e2,q⟩:=Rc.seq e r
 refine⟨by show (bD h n).isSome=true;rw[e2];rfl,ds,e1,q,λf=>?_⟩
 unfold hZ;dsimp only;rw[e1]
def xr{ds:List D}{v:Val}(r:Rds P h ds [v]):∃d,ds=[d]/\Rd P h d v:=by
 cases r with |cons r rr=>cases rr;exact⟨_,rfl,r⟩
end
def zX:RM dW qz:=λP h n o u ds vs u' v e hf r rs q=>by
 unfold qz at q
 split at q
 ·split at q
  ·rename_i hl
   cases q
   obtain⟨q1,es,q2,q3,q4⟩:=mL e r
   obtain⟨d,rfl,rd⟩:=xr rs
   refine⟨q1,.lst (es++[d]),.non,?_,trivial,.lst (q3.append (.cons rd .nil)),.non⟩
   unfold dW;rw[q4];dsimp only;rw[if_pos (by rw[q3.len];exact hl)]
  ·cases q
 ·cases q
def FU:RM wk so:=λP h n o u ds vs u' v e hf r rs q=>by
 unfold so at q
 split at q
 ·split at q
  ·rename_i w hw
   cases q
   obtain⟨q1,es,q2,q3,q4⟩:=mL e r
   cases rs
   obtain⟨d,e2,rd⟩:=q3.get hw
   refine⟨q1,.lst es.dropLast,d,?_,trivial,.lst ?_,rd⟩
   ·unfold wk;rw[q4];dsimp only;rw[q3.len,e2]
   ·rw[P7,P7,q3.len];exact q3.take _
  ·cases q
 ·cases q
def AD:RM nT tU:=λP h n o u ds vs u' v e hf r rs q=>by
 unfold tU at q
 split at q
 ·cases q
  obtain⟨q1,es,q2,q3,q4⟩:=mL e r
  cases rs
  exact⟨q1,.lst [],.non,by unfold nT;rw[q4],trivial,.lst .nil,.non⟩
 ·cases q
def sL:Val->Val->Val->Option Val:=λu i v=>match u,i with
 |.lst xs,.int k=>(match ixN xs.length k with
  |some j=>some (.lst (xs.set j v))
  |none=>none)
 |_,_=>none
def F6:xk wL sL:=λP h n o u di vi d v u' _ e hf r ri rd q=>by
 unfold sL at q
 split at q
 ·split at q
  ·rename_i j hj
   cases q
   obtain⟨q1,es,q2,q3,q4⟩:=mL e r
   obtain rfl:=ri.int
   refine⟨.lst (es.set j d),?_,trivial,.lst (q3.set rd j)⟩
   unfold wL;dsimp only;rw[q2];dsimp only;rw[q3.len,hj]
  ·cases q
 ·cases q
def vD0:ME3:=λe=>.ok (.new (.dct [])) e
def Ka:RE eD0 vD0:=λX h0 L ns e ae h S hl=>BvR.po (r:=eD0 ae h) (b:=.new (.dct [])) S hl ⟨.dct [],rfl,trivial,.dct .nil⟩
end L3
namespace L3
open PySem PySem.Spec PyProof.Rows L2
structure PEx where
 F:ME
 G:ME3
 ok:RE F G
structure PTs where
 F:MT
 G:MT3
 ok:RT F G
structure PAs where
 F:MA
 G:MA3
 ok:RA F G
structure PSt where
 F:MS
 G:MS3
 ok:RS F G
structure PGt where
 F:MG
 G:MG3
 ok:RG F G
structure PGs where
 F:MGs
 G:lH
 ok:RGs F G
structure PIt where
 F:MI
 G:MI3
 ok:RI F G
structure POp where
 F:MO
 G:MO3
 ok:ROp F G
structure PO2 where
 F:D->D->AH->R D
 G:Val->Val->Bv
 ok:RO F G
structure PU1 where
 F:D->AH->R D
 G:Val->Bv
 ok:RU F G
structure PBf where
 F:Fn
 G:List Val->Bv
 ok:RFn F G
structure PMm where
 F:D->List D->AH->R D
 G:Val->List Val->Option (Val×Val)
 ok:RM F G
structure PMv where
 F:D->List D->AH->R D
 G:Val->List Val->Bv
 ok:RMv F G
structure PSe where
 F:D->D->D->AH->R Unit
 G:Val->Val->Val->Option Val
 ok:xk F G
structure PFn where
 ms:List Bool
 F:Fn
 G:Fn3
 ok:RF ms F G
structure PFx(ms:List Bool) where
 F:Fn
 G:Fn3
 ok:RF ms F G
noncomputable section
def PFx.fn{ms:List Bool}(p:PFx ms):PFn:=⟨ms,p.F,p.G,p.ok⟩
def ah(i:Nat):PEx:=⟨aU i,AU i,Gg i⟩
def au(i:Int):PEx:=⟨eC (.int i),vC (.int i),sN λ_ _=>.int i⟩
def pBl(i:Bool):PEx:=⟨eC (.bl i),vC (.bl i),sN λ_ _=>.bl i⟩
def fN(i:Str):PEx:=⟨eC (.str i),vC (.str i),sN λ_ _=>.str i⟩
def pTy(i:String):PEx:=⟨eC (.ty i),vC (.ty i),sN λ_ _=>.ty i⟩
def sA(d:D)(v:Val)(r:∀P h,Rd P h d v):PEx:=⟨eC d,vC v,sN r⟩
def pUn(o:PU1)(a:PEx):PEx:=⟨eUn o.F a.F,vUn o.G a.G,JN o.ok a.ok⟩
def pOp(o:PO2)(a b:PEx):PEx:=⟨eOp o.F a.F b.F,vOp o.G a.G b.G,KQ o.ok a.ok b.ok⟩
def ao:PAs:=⟨cK,pV,yC⟩
def ag(a:PEx)(r:PAs):PAs:=⟨bz a.F r.F,C3 a.G r.G,DL a.ok r.ok⟩
def pFn(o:PBf)(a:PAs):PEx:=⟨eFn o.F a.F,vFn o.G a.G,Kt o.ok a.ok⟩
def c8(a:PAs):PEx:=⟨eFn oD a.F,vTup a.G,FZ a.ok⟩
def dF(a:PAs):PEx:=⟨eFn cH a.F,vLst a.G,JF a.ok⟩
def kL(a b:PEx):PEx:=⟨Cp a.F b.F,vAnd a.G b.G,Gx a.ok b.ok⟩
def Cd(a:PEx):PEx:=⟨Ak a.F,vNot a.G,Jk a.ok⟩
def qOf(a:PEx):PTs:=⟨tOf a.F,cOf a.G,Ld a.ok⟩
def qTr(a:PEx):PTs:=⟨tTr a.F,cTr a.G,Kh a.ok⟩
def qAn(a b:PTs):PTs:=⟨tAn a.F b.F,cAn a.G b.G,Me a.ok b.ok⟩
def qO(a b:PTs):PTs:=⟨tO a.F b.F,cO a.G b.G,rt_o a.ok b.ok⟩
def qNo(a:PTs):PTs:=⟨tNo a.F,cNo a.G,K3 a.ok⟩
def qY:PTs:=⟨tY,cY,rt_y⟩
def xNx:PSt:=⟨sNx,wNx,LC⟩
def wC:PSt:=⟨wJ,C0,Fe⟩
def a8(a:PEx):PSt:=⟨BB a.F,wRet a.G,FX a.ok⟩
def cF(a:PEx):PSt:=⟨iK a.F,C1 a.G,Ft a.ok⟩
def aE(a b:PSt):PSt:=⟨ja a.F b.F,wSeq a.G b.G,Ir a.ok b.ok⟩
def xIf(c:PTs)(a b:PSt):PSt:=⟨sIf c.F a.F b.F,wIf c.G a.G b.G,K8 c.ok a.ok b.ok⟩
def aN(o:Bool)(i:Nat)(a:PEx):PSt:=⟨iH a.F (gN i),wAsg o i a.G,GO o i a.ok⟩
def gtN(i:Nat):PGt:=⟨gN i,pN i,uV i⟩
def fu:PGs:=⟨gsN,psN,Ky⟩
def bO(a:PGt)(b:PGs):PGs:=⟨gsC a.F b.F,psC a.G b.G,LB a.ok b.ok⟩
def gtT(n:Nat)(a:PGs):PGt:=⟨gT λds ae h=>if ds.length=n then a.F ds ae h else .stuck,pT n a.G,rg_t n a.ok⟩
def gtX(a:PGt):PGt:=⟨λd ae h=>noX (a.F d ae h),a.G,IM a.ok⟩
def mH(a:PEx)(g:PGt):PSt:=⟨iH a.F g.F,CG a.G g.G,D8 a.ok g.ok⟩
def iF(i j:Nat)(a:PAs):PSt:=⟨A5 i j a.F,wPar i j a.G,FE i j a.ok⟩
def Bo(i:Nat)(o:PO2)(a:PEx):PSt:=⟨uM i o.F a.F,AO i o.G a.G,HZ i o.ok a.ok⟩
def gh(c:Str)(a:PAs):PSt:=⟨uf c a.F,yi c a.G,Bl c a.ok⟩
def ni(i:Nat)(w:PSe)(k a:PEx):PSt:=⟨iH a.F (gS (aU i) k.F w.F),wSet i k.G a.G w.G,Ho i w.ok k.ok a.ok⟩
def jM(i:Nat)(m:PMm)(a:PAs):PEx:=⟨eM m.F (aU i) a.F,nK i m.G a.G,zH i m.ok a.ok⟩
def oU(i:Nat)(m:PMm):PEx:=⟨eM0 m.F (aU i),nK i m.G pV,EZ i m.ok⟩
def bZ(a:PEx):PIt:=⟨BL a.F,CM a.G,ID a.ok⟩
def iW(a:PAs):PIt:=⟨BN a.F,Ca gD a.G,HP a.ok⟩
def r9(a:PAs):PIt:=⟨Am a.F,CJ a.G,FI a.ok⟩
def gB(i:PIt)(g:PGt)(b:PSt):PSt:=⟨ph i.F g.F b.F,wFor i.G g.G b.G,F7 i.ok g.ok b.ok⟩
def xWh(c:PTs)(b:PSt):PSt:=⟨sWh c.F b.F,wWh c.G b.G,LP c.ok b.ok⟩
def pLC(i:PIt)(sub:List (Option Nat))(hs:(sub.filterMap id).Nodup)(g:PGt)(c:PTs)(a:PEx):PEx:=⟨eLC i.F sub g.F c.F a.F,vLC i.G sub g.G c.G a.G,JV hs i.ok g.ok c.ok a.ok⟩
def aA(f:PFn)(a:PAs):PEx:=⟨mD f.ms.length f.F a.F,CV f.ms f.G a.G,D7 rfl f.ok a.ok⟩
def oN:POp:=⟨wD,zq,EY⟩
def oS(a:PEx):POp:=⟨xR a.F,yZ a.G,E1 a.ok⟩
def pSl(a:PEx)(l u:POp):PEx:=⟨eSl a.F l.F u.F,vSl a.G l.G u.G,Km a.ok l.ok u.ok⟩
def pD0:PEx:=⟨eD0,vD0,Ka⟩
def PFx.none(ms:List Bool)(N:Nat:=0):PFx ms:=⟨λ_ _=>.stuck,λ_=>.stuck,λ_ _ _ _ _ _ _=>trivial⟩
def PFx.of(ms:List Bool)(N:Nat)(c:PSt):PFx ms:=⟨fnD N c.F,fnV ms N c.G,CI c.ok⟩
def fnP(ms:List Bool)(N:Nat)(c:PSt):PFn:=⟨ms,fnD N c.F,fnV ms N c.G,CI c.ok⟩
def bH:PO2:=⟨xo,Cz,FJ⟩
def fZ:PO2:=⟨AM,aMin,GH⟩
def b9:PO2:=⟨AF,wM,FN⟩
def kY:PO2:=⟨BR,wB,FD⟩
def c9:PO2:=⟨Al,wI,HM⟩
def gG:PO2:=⟨Ce,xJ,Jf⟩
def tj:PO2:=⟨A8,xF,HC⟩
def bLt:PO2:=⟨gLt,aLt,K5⟩
def bGt:PO2:=⟨gGt,aGt,Ln⟩
def bGe:PO2:=⟨gGe,aGe,LS⟩
def bIx:PO2:=⟨gIx,aIx,KN⟩
def bEq:PO2:=⟨gEq false,aEq false,CN false⟩
def bNe:PO2:=⟨gEq true,aEq true,CN true⟩
def bIn:PO2:=⟨gIn false,aIn false,LO false⟩
def bIs:PO2:=⟨BO false,BU false,G7 false⟩
def Bw:PO2:=⟨gI λi j=>.int (i+j),aI λi j=>.int (i+j),sy λ_ _ _ _=>.int _⟩
def Ci:PU1:=⟨xO,Cb,JB⟩
def dD:PBf:=⟨uo,Ba,HG⟩
def g9:PBf:=⟨x8,Bb,HR⟩
def uc:PBf:=⟨rV,xC,EX⟩
def oC:PBf:=⟨rW,xZ,Fc⟩
def rZ:PBf:=⟨uW,Ap,HS⟩
def iU:PBf:=⟨uP,B9,Gz⟩
def ue:PBf:=⟨oZ,w9,EM⟩
def pC:PBf:=⟨lL,uO,BK⟩
def xq:PBf:=⟨wU,Bn,Jo⟩
def bA(kt:gk):PBf:=⟨sk kt,Br kt,FO kt⟩
def fK:PMm:=⟨dW,qz,zX⟩
def rX:PMm:=⟨wk,so,FU⟩
def we:PMm:=⟨nT,tU,AD⟩
def seL:PSe:=⟨wL,sL,F6⟩
end
theorem pb{P:Nat->Prop}{h:AH}:∀(ns:List Int),Rds P h (ns.map D.int) (ns.map Val.int)
 | []=>.nil
 |_::r=>.cons (.int _) (pb r)
def law3(p:PFn)(hm:p.ms=[false])(hG:∀ns:List Int,ns.length<=63->p.G [.kl (ns.map .int)]=.ok (.val (.bl true)) [])(d:D)(h:AH)(ns:List Int)(hl:ns.length<=63)(sc:Script h d ns):∃h',p.F [d] h=.ok (.bl true) h':=by
 have hp:=p.ok
 rw[hm] at hp
 have rd:Rd (Oc (λ_=>False) [none]) h d (.kl (ns.map .int)):=by
  rcases sc.form with ⟨n,rfl,e⟩ |rfl
  ·exact .cell ⟨λz=>z,by simp⟩ e (.fz (pb ns))
  ·exact .kl (pb ns)
 have S:Sat (λ_=>False) h.length [none] (sls [false] [.kl (ns.map .int)]) ([d].map some) h:=by
  refine⟨rfl,rfl,Oe _,λ_ z=>z.elim,λi j n q=>?_,λi n q z=>z,λi s q=>?_⟩
  ·cases i with
   |zero=>simp at q
   |succ i=>simp at q
  ·cases i with
   |
    zero=>
    have:sl1 false (.kl (ns.map .int))=s:=by simpa [sls] using q
    subst this
    exact⟨rfl,d,rfl,rd⟩
   |succ i=>simp [sls] at q
 have:=hp _ _ [d] [.kl (ns.map .int)] h rfl S
 rw[hG ns hl] at this
 obtain⟨d',h',e,_,_,r⟩:=this
 cases r with
 |bl=>exact⟨h',e⟩
 |cell p e r=>cases r
section
variable(e:E3)
@[simp] theorem kH{α β:Type}(a:α)(f:α->E3->R3 β):(R3.ok a e).bind f=f a e:=rfl
@[simp] theorem JY{α:Type}(a:α)(f:α->E3->SR3):(R3.ok a e).toS f=f a e:=rfl
@[simp] theorem Mf(f:E3->SR3):(SR3.nx e).then f=f e:=rfl
@[simp] theorem K7(r:Rt)(f:E3->SR3):(SR3.rt r e).then f=.rt r e:=rfl
@[simp] theorem G0(c:Str)(f:E3->SR3):(SR3.exc c e).then f=.exc c e:=rfl
@[simp] theorem l7(f:E3->SR3):(SR3.nx e).loop f=f e:=rfl
@[simp] theorem CK(f:E3->SR3):(SR3.ct e).loop f=f e:=rfl
@[simp] theorem KZ(r:SR3):r.unl none=r:=by cases r <;> rfl
@[simp] theorem B5:lockO e none=e:=rfl
@[simp] theorem xX:fX e none=e:=rfl
@[simp] theorem GA(v:Val):(Bv.val v).at e=.ok (.val v) e:=rfl
@[simp] theorem GR(v:Val):(Bv.new v).at e=.ok (.new v) e:=rfl
@[simp] theorem Iy(v:Val):rs e (.val v)=some v:=rfl
@[simp] theorem Jp(i:Nat):rs e (.bor i)=(e[i]?).bind Sl.val:=rfl
@[simp] theorem IQ(v:Val):(Tm.val v).drop=.val v:=rfl
@[simp] theorem Gk(v:Val):(Tm.new v).drop=.val v:=rfl
@[simp] theorem IK(i:Nat):(Tm.bor i).drop=.bor i:=rfl
@[simp] theorem DN:rss e []=some []:=rfl
@[simp] theorem BG(t:Tm)(ts:List Tm):rss e (t::ts)=match rs e t,rss e ts with
 |some v,some vs=>some (v::vs)
 |_,_=>none:=rfl
@[simp] theorem FH(v:Val):dE e (.val v)=some (e,v):=rfl
@[simp] theorem yN:dem e []=some (e,[]):=rfl
@[simp] theorem EH(t:Tm)(ts:List Tm):dem e (t::ts)=match dE e t with
 |some (e1,v)=>match dem e1 ts with
  |some (e2,vs)=>some (e2,v::vs)
  |none=>none
 |none=>none:=rfl
@[simp] theorem Gv(b:Bool):bOf (some (.bl b))=some b:=rfl
@[simp] theorem J2(i:Nat):(ah i).G e=match e[i]? with
 |some (.sh v)=>.ok (.val v) e
 |some .no=>.stuck
 |some _=>.ok (.bor i) e
 |none=>.stuck:=rfl
@[simp] theorem LA(i:Int):(au i).G e=.ok (.val (.int i)) e:=rfl
@[simp] theorem v_bl(i:Bool):(pBl i).G e=.ok (.val (.bl i)) e:=rfl
@[simp] theorem Lp(i:Str):(fN i).G e=.ok (.val (.str i)) e:=rfl
@[simp] theorem v_ty(i:String):(pTy i).G e=.ok (.val (.ty i)) e:=rfl
@[simp] theorem v_un(o:PU1)(a:PEx):(pUn o a).G e=(a.G e).bind λt e1=>match rs e1 t with
 |some v=>(o.G v).at e1
 |none=>.stuck:=rfl
@[simp] theorem v_op(o:PO2)(a b:PEx):(pOp o a b).G e=(a.G e).bind λt1 e1=>(b.G e1).bind λt2 e2=>match rs e2 t1.drop,rs e2 t2 with
 |some v1,some v2=>(o.G v1 v2).at e2
 |_,_=>.stuck:=rfl
@[simp] theorem L5:ao.G e=.ok [] e:=rfl
@[simp] theorem GI(a:PEx)(r:PAs):(ag a r).G e=(a.G e).bind λt e1=>(r.G e1).bind λts e2=>.ok (t.drop::ts) e2:=rfl
@[simp] theorem v_fn(o:PBf)(a:PAs):(pFn o a).G e=(a.G e).bind λts e1=>match rss e1 ts with
 |some vs=>(o.G vs).at e1
 |none=>.stuck:=rfl
@[simp] theorem LZ(a:PAs):(c8 a).G e=(a.G e).bind λts e1=>match dem e1 ts with
 |some (e2,vs)=>if vs.length<=16777216 then .ok (.val (.tup vs)) e2 else .stuck
 |none=>.stuck:=rfl
@[simp] theorem Kb(a:PAs):(dF a).G e=(a.G e).bind λts e1=>match dem e1 ts with
 |some (e2,vs)=>if vs.length<=16777216 then .ok (.new (.lst vs)) e2 else .stuck
 |none=>.stuck:=rfl
@[simp] theorem L7(a b:PEx):(kL a b).G e=(a.G e).bind λt e1=>match bOf (rs e1 t) with
 |some true=>b.G e1
 |some false=>.ok (.val (.bl false)) e1
 |none=>.stuck:=rfl
@[simp] theorem J5(a:PEx):(Cd a).G e=(a.G e).bind λt e1=>match bOf (rs e1 t) with
 |some b=>.ok (.val (.bl (!b))) e1
 |none=>.stuck:=rfl
@[simp] theorem c_of(a:PEx):(qOf a).G e=(a.G e).bind λt e1=>match bOf (rs e1 t) with
 |some b=>.ok b e1
 |none=>.stuck:=rfl
@[simp] theorem c_tr(a:PEx):(qTr a).G e=(a.G e).bind λt e1=>match (rs e1 t).bind nc with
 |some b=>.ok b e1
 |none=>.stuck:=rfl
@[simp] theorem c_an(a b:PTs):(qAn a b).G e=(a.G e).bind λk e1=>if k=true then b.G e1 else .ok false e1:=rfl
@[simp] theorem c_o(a b:PTs):(qO a b).G e=(a.G e).bind λk e1=>if k=true then .ok true e1 else b.G e1:=rfl
@[simp] theorem c_no(a:PTs):(qNo a).G e=(a.G e).bind λk e1=>.ok (!k) e1:=rfl
@[simp] theorem x_nx:xNx.G e=.nx e:=rfl
@[simp] theorem FY:wC.G e=.rt (.val .non) e:=rfl
@[simp] theorem Lq(a:PEx):(a8 a).G e=(a.G e).toS qC:=rfl
@[simp] theorem EA(v:Val):qC (.val v) e=.rt (.val v) e:=rfl
@[simp] theorem Fj(v:Val):qC (.new v) e=.rt (.new v) e:=rfl
@[simp] theorem Dy(i:Nat):qC (.bor i) e=match e[i]? with
 |some (.sh v)=>.rt (.val v) e
 |some (.ow v)=>.rt (.new v) (e.set i .no)
 |some (.mu _)=>.rt (.par i) e
 |_=>.stuck:=rfl
@[simp] theorem HQ(a:PEx):(cF a).G e=(a.G e).toS λ_ e1=>.nx e1:=rfl
@[simp] theorem C8(a b:PSt):(aE a b).G e=(a.G e).then b.G:=rfl
@[simp] theorem x_if(c:PTs)(a b:PSt):(xIf c a b).G e=(c.G e).toS λk e1=>if k=true then a.G e1 else b.G e1:=rfl
@[simp] theorem Ke(o:Bool)(i:Nat)(a:PEx):(aN o i a).G e=(a.G e).toS (jL o i):=rfl
@[simp] theorem Ma:Sl.no.pl=true:=rfl
@[simp] theorem LG(v:Val):(Sl.sh v).pl=true:=rfl
@[simp] theorem Du(o:Bool)(i:Nat)(v:Val):jL o i (.val v) e=match e[i]? with
 |some s0=>if s0.pl=true then .nx (e.set i (.sh v)) else .stuck
 |none=>.stuck:=by unfold jL;rfl
@[simp] theorem A0(i:Nat)(v:Val):jL true i (.new v) e=match e[i]? with
 |some s0=>if s0.pl=true then .nx (e.set i (.ow v)) else .stuck
 |none=>.stuck:=by unfold jL;rfl
@[simp] theorem Bs(i:Nat)(v:Val):jL false i (.new v) e=match e[i]? with
 |some s0=>if s0.pl=true then .nx (e.set i (.sh v)) else .stuck
 |none=>.stuck:=by unfold jL;rfl
@[simp] theorem g_n(i:Nat)(v:Val):(gtN i).G v e=match e[i]? with
 |some s=>if s.pl=true then some (e.set i (.sh v)) else none
 |none=>none:=rfl
@[simp] theorem g_sn:fu.G [] e=some e:=rfl
@[simp] theorem g_sc(a:PGt)(b:PGs)(v:Val)(vs:List Val):(bO a b).G (v::vs) e=(a.G v e).bind λe1=>b.G vs e1:=rfl
@[simp] theorem g_t(n:Nat)(a:PGs)(vs:List Val):(gtT n a).G (.tup vs) e=if vs.length=n then a.G vs e else none:=rfl
@[simp] theorem g_x(a:PGt)(v:Val):(gtX a).G v e=a.G v e:=rfl
@[simp] theorem JI(a:PEx)(g:PGt):(mH a g).G e=(a.G e).toS λt e1=>match dE e1 t with
 |some (e2,v)=>match g.G v e2 with
  |some e3=>.nx e3
  |none=>.stuck
 |none=>.stuck:=rfl
@[simp] theorem K6(i j:Nat)(a:PAs):(iF i j a).G e=(a.G e).toS λts e1=>match dem e1 ts with
 |some (e2,[v,u])=>match (pN i v e2).bind (pN j u) with
  |some e3=>.nx e3
  |none=>.stuck
 |_=>.stuck:=rfl
@[simp] theorem KD(i:Nat)(v:Val):pN i v e=match e[i]? with
 |some s=>if s.pl=true then some (e.set i (.sh v)) else none
 |none=>none:=rfl
@[simp] theorem LU(i:Nat)(o:PO2)(a:PEx):(Bo i o a).G e=match e[i]? with
 |some (.sh x)=>(a.G e).toS λt e1=>match rs e1 t with
  |some y=>match o.G x y with
   |.val z=>match pN i z e1 with
    |some e2=>.nx e2
    |none=>.stuck
   |_=>.stuck
  |none=>.stuck
 |_=>.stuck:=rfl
@[simp] theorem EW(c:Str)(a:PAs):(gh c a).G e=(a.G e).toS λts e1=>if ts.length<=16777216 then .exc c e1 else .stuck:=rfl
@[simp] theorem Lc(i:Nat)(w:PSe)(k a:PEx):(ni i w k a).G e=(a.G e).toS λt e1=>match (e1[i]?).bind Sl.mv with
 |none=>.stuck
 |some _=>(k.G e1).toS λt2 e2=>match rs e2 t2 with
  |none=>.stuck
  |some vi=>match dE e2 t.drop with
   |none=>.stuck
   |some (e3,v)=>match e3[i]? with
    |none=>.stuck
    |some s=>match s.mv with
     |none=>.stuck
     |some u=>match w.G u vi v with
      |some u'=>.nx (e3.set i (s.re u'))
      |none=>.stuck:=rfl
@[simp] theorem LQ(v:Val):(Sl.ow v).mv=some v:=rfl
@[simp] theorem JP(v:Val):(Sl.mu v).mv=some v:=rfl
@[simp] theorem Kn(v u:Val):(Sl.ow v).re u=.ow u:=rfl
@[simp] theorem J4(v u:Val):(Sl.mu v).re u=.mu u:=rfl
@[simp] theorem H9(v:Val):(Sl.ow v).val=some v:=rfl
@[simp] theorem IU(v:Val):(Sl.mu v).val=some v:=rfl
@[simp] theorem J8(i:Nat)(m:PMm)(a:PAs):(jM i m a).G e=match e[i]? with
 |some s=>if (s.mv.map ku)=some true then (a.G e).bind λts e1=>match dem e1 ts with
  |some (e2,vs)=>match e2[i]? with
   |some s2=>match s2.mv with
    |some u=>match m.G u vs with
     |some (u',v)=>.ok (.val v) (e2.set i (s2.re u'))
     |none=>.stuck
    |none=>.stuck
   |none=>.stuck
  |none=>.stuck else .stuck
 |none=>.stuck:=rfl
@[simp] theorem Hk(i:Nat)(m:PMm):(oU i m).G e=match e[i]? with
 |some s=>if (s.mv.map ku)=some true then (match s.mv with
  |some u=>match m.G u [] with
   |some (u',v)=>.ok (.val v) (e.set i (s.re u'))
   |none=>.stuck
  |none=>.stuck) else .stuck
 |none=>.stuck:=by
 show nK i m.G pV e=_
 unfold nK
 cases q:e[i]? with
 |none=>rfl
 |
  some s=>
  dsimp only
  split
  ·simp only[pV,kH,yN,q];try rfl
  ·rfl
@[simp] theorem BH(xs:List Val):ku (.lst xs)=true:=rfl
@[simp] theorem Kd(a:PEx):(bZ a).G e=(a.G e).bind λt e1=>match gK t e1 with
 |some p=>.ok p e1
 |none=>.stuck:=rfl
@[simp] theorem L8(a:PAs):(r9 a).G e=(a.G e).bind λts e1=>match ts with
 | [t,u]=>(match gK t e1,gK u e1 with
  |some (xs,k),some (ys,none)=>.ok (List.zipWith (λx y=>.tup [x,y]) xs ys,k) e1
  |_,_=>.stuck)
 |_=>.stuck:=rfl
@[simp] theorem Gw(v:Val):gK (.val v) e=(jA v).map λxs=>(xs,none):=rfl
@[simp] theorem FK(v:Val):gK (.new v) e=(jA v).map λxs=>(xs,none):=rfl
@[simp] theorem IV(xs:List Val):jA (.tup xs)=some xs:=rfl
@[simp] theorem HD(xs:List Val):jA (.lst xs)=some xs:=rfl
@[simp] theorem Lg(a:PAs):(iW a).G e=(a.G e).bind λts e1=>match (rss e1 ts).bind gD with
 |some xs=>.ok (xs,none) e1
 |none=>.stuck:=rfl
@[simp] theorem KL(i:PIt)(g:PGt)(b:PSt):(gB i g b).G e=(i.G e).toS λp e1=>(eJ g.G b.G p.1 (lockO e1 p.2)).unl p.2:=rfl
@[simp] theorem mB(g:MG3)(B:MS3):eJ g B [] e=.nx e:=rfl
theorem dO(g:MG3)(B:MS3)(v:Val)(vs:List Val):eJ g B (v::vs) e=match g v e with
 |some e1=>(B e1).loop (eJ g B vs)
 |none=>.stuck:=rfl
def lF(c:PTs)(b:PSt):(xWh c b).G e=(c.G e).toS λk e1=>if k=true then (b.G e1).loop (xWh c b).G else .nx e1:=BE c.G b.G e
@[simp] theorem v_lc(i:PIt)(sub:List (Option Nat))(hs:(sub.filterMap id).Nodup)(g:PGt)(c:PTs)(a:PEx):(pLC i sub hs g c a).G e=(i.G e).bind λp e1=>match lcV g.G c.G a.G p.1 [] (cR sub (lockO e1 p.2)) with
 |.ok ys e2=>if ys.length<=16777216 then .ok (.new (.lst ys)) (fX (bU sub e2 (lockO e1 p.2)) p.2) else .stuck
 |_=>.stuck:=rfl
@[simp] theorem Gd(f:PFn)(a:PAs):(aA f a).G e=(a.G e).bind λts e1=>match rss e1 ts with
 |none=>.stuck
 |some vs=>if okA e1 f.ms ts=true then (match f.G vs with
  |.stuck=>.stuck
  |.ok r mv=>if (bu e1 f.ms ts).isEmpty || (kx r&&mv.all flatC) then .ok (r.tm ts) (bU (cT f.ms ts) (bc f.ms mv) e1) else (match qF e1 (bu e1 f.ms ts) with
   |some e2=>.ok (r.tm ts) (bU (cT f.ms ts) (bc f.ms mv) e2)
   |none=>.stuck)
  |.exc c mv=>if (bu e1 f.ms ts).isEmpty || mv.all flatC then .exc c (bU (cT f.ms ts) (bc f.ms mv) e1) else .stuck) else .stuck:=rfl
@[simp] theorem Hw(ts:List Tm)(v:Val):(Rt.val v).tm ts=.val v:=rfl
@[simp] theorem Ia(ts:List Tm)(v:Val):(Rt.new v).tm ts=.new v:=rfl
@[simp] theorem Jv(ts:List Tm)(i:Nat):(Rt.par i).tm ts=(ts[i]?).getD (.val .non):=rfl
@[simp] theorem o_n:oN.G e=.ok none e:=rfl
@[simp] theorem o_s(a:PEx):(oS a).G e=(a.G e).bind λt e1=>match rs e1 t with
 |some (.int i)=>.ok (some i) e1
 |_=>.stuck:=rfl
@[simp] theorem v_sl(a:PEx)(l u:POp):(pSl a l u).G e=(a.G e).bind λt e1=>(l.G e1).bind λlo e2=>(u.G e2).bind λhi e3=>match rs e3 t.drop with
 |some v=>(aSl v lo hi).at e3
 |none=>.stuck:=rfl
@[simp] theorem v_d0:pD0.G e=.ok (.new (.dct [])) e:=rfl
theorem bS(ms:List Bool)(N:Nat)(c:PSt)(vs:List Val):(fnP ms N c).G vs=if vs.length=ms.length then (match c.G (sls ms vs++List.replicate (N-vs.length) .no) with
 |.nx e=>(match muV ms e with |some mv=>.ok (.val .non) mv |none=>.stuck)
 |.rt r e=>(match muV ms e with |some mv=>.ok r mv |none=>.stuck)
 |.exc c e=>(match muV ms e with |some mv=>.exc c mv |none=>.stuck)
 |_=>.stuck) else .stuck:=rfl
theorem jx(ms:List Bool)(N:Nat)(c:PSt)(vs:List Val):(PFx.of ms N c).G vs=if vs.length=ms.length then (match c.G (sls ms vs++List.replicate (N-vs.length) .no) with
 |.nx e=>(match muV ms e with |some mv=>.ok (.val .non) mv |none=>.stuck)
 |.rt r e=>(match muV ms e with |some mv=>.ok r mv |none=>.stuck)
 |.exc c e=>(match muV ms e with |some mv=>.exc c mv |none=>.stuck)
 |_=>.stuck) else .stuck:=rfl
@[simp] theorem LH{ms:List Bool}(p:PFx ms):p.fn.ms=ms:=rfl
@[simp] theorem fx_G{ms:List Bool}(p:PFx ms)(vs:List Val):p.fn.G vs=p.G vs:=rfl
end
@[simp] theorem Kj(i j:Int):bH.G (.int i) (.int j)=.val (.int (i+j)):=rfl
@[simp] theorem Mi(i j:Int):fZ.G (.int i) (.int j)=.val (.int (i-j)):=rfl
@[simp] theorem k_lt(i j:Int):bLt.G (.int i) (.int j)=.val (.bl (decide (i<j))):=rfl
@[simp] theorem k_gt(i j:Int):bGt.G (.int i) (.int j)=.val (.bl (decide (j<i))):=rfl
@[simp] theorem k_ge(i j:Int):bGe.G (.int i) (.int j)=.val (.bl (decide (j<=i))):=rfl
@[simp] theorem Ll(i j:Int):Bw.G (.int i) (.int j)=.val (.int (i+j)):=rfl
@[simp] theorem JU(i:Int):Ci.G (.int i)=.val (.int (-i)):=rfl
def cE{i j:Int}(c:CMulA i j):b9.G (.int i) (.int j)=.val (.int (i*j)):=by show wM (.int i) (.int j)=_;unfold wM aIc;dsimp only;rw[if_pos c]
def mK{i j:Int}(c:CDivB i j):kY.G (.int i) (.int j)=.val (.int (i.fdiv j)):=by show wB (.int i) (.int j)=_;unfold wB aIc;dsimp only;rw[if_pos c]
def fG{i j:Int}(c:j≠0):c9.G (.int i) (.int j)=.val (.int (i.fmod j)):=by show wI (.int i) (.int j)=_;unfold wI aIc;dsimp only;rw[if_pos c]
def rR{i j:Int}(c:iG i j):gG.G (.int i) (.int j)=.val (.int (i^j.toNat)):=by show xJ (.int i) (.int j)=_;unfold xJ aIc;dsimp only;rw[if_pos c]
def JZ{i j:Int}(c:iG i j):tj.G (.int i) (.int j)=.val (.int (i*2^j.toNat)):=by show xF (.int i) (.int j)=_;unfold xF aIc;dsimp only;rw[if_pos c]
@[simp] theorem k_ix(x:Val)(i:Int):bIx.G x (.int i)=match x.items with
 |some xs=>(match atI xs i with
  |some v=>.val v
  |none=>.stuck)
 |none=>.stuck:=by show aIx x (.int i)=_;unfold aIx;cases x.items <;> rfl
@[simp] theorem GW(xs:List Val):(Val.tup xs).items=some xs:=rfl
@[simp] theorem Iq(xs:List Val):(Val.lst xs).items=some xs:=rfl
@[simp] theorem Lk(xs:List Val):(Val.kl xs).items=some xs:=rfl
@[simp] theorem k_eq(x y:Val):bEq.G x y=match eT x y with
 |some b=>.val (.bl b)
 |none=>.stuck:=by show aEq false x y=_;unfold aEq;cases eT x y <;> rfl
@[simp] theorem k_ne(x y:Val):bNe.G x y=match eT x y with
 |some b=>.val (.bl (!b))
 |none=>.stuck:=by show aEq true x y=_;unfold aEq;cases eT x y <;> rfl
@[simp] theorem Ml(x y:Int):eT (.int x) (.int y)=some (x==y):=rfl
def eq_str{x y:Str}(hx:PyData.strOk x=true)(hy:PyData.strOk y=true):eT (.str x) (.str y)=some (x==y):=by
 unfold eT
 show (if SeqAt.shaped (.str x)=true/\SeqAt.shaped (.str y)=true then _ else _)=_
 rw[if_pos ⟨js hx (OK _),js hy (OK _)⟩]
 rfl
@[simp] theorem k_is(x:Val):bIs.G x .non=match x with
 |.non=>.val (.bl true)
 |_=>.val (.bl false):=by cases x <;> rfl
@[simp] theorem Lo(v:Val):dD.G [v]=match v.items with
 |some xs=>.val (.int xs.length)
 |none=>(match v with
  |.str z=>if z.length<=16777216 then .val (.int z.length) else .stuck
  |_=>.stuck):=rfl
@[simp] theorem Lf(i:Int):g9.G [.int i]=.val (.int (if i<0 then -i else i)):=rfl
@[simp] theorem JM(i j:Int):uc.G [.int i,.int j]=.val (.int (if j>i then j else i)):=rfl
@[simp] theorem Lb(i j:Int):oC.G [.int i,.int j]=.val (.int (if j<i then j else i)):=rfl
@[simp] theorem Li(xs:List Val):rZ.G [.lst xs]=match lK xs with
 |some bs=>.val (.bl (bs.all id))
 |none=>.stuck:=rfl
@[simp] theorem Lz(xs:List Val):iU.G [.lst xs]=match kG xs with
 |some bs=>.val (.int bs.sum)
 |none=>.stuck:=rfl
@[simp] theorem IS(v:Val):ue.G [v]=match v.items with
 |some xs=>.new (.lst xs)
 |none=>.stuck:=rfl
@[simp] theorem E6(v:Val):pC.G [v]=match v.items with
 |some xs=>.val (.tup xs)
 |none=>.stuck:=rfl
@[simp] theorem Jh(b:Bool):xq.G [.bl b]=.val (.int (if b then 1 else 0)):=rfl
@[simp] theorem AG(xs:List Val)(v:Val):fK.G (.lst xs) [v]=if xs.length<16777216 then some (.lst (xs++[v]),.non) else none:=rfl
@[simp] theorem rh:∀(bs:List Int),kG (bs.map Val.int)=some bs
 | []=>rfl
 |b::r=>by show (kG (r.map Val.int)).map (b :: ·)=_;rw[rh r];rfl
def zV{K:W.Frag}{mg:Str->Option Value}{X:Cx}{ES:L2.St->XK}{sts:List Stmt}:DSs K mg X ES sts (λ_ _=>.stuck):=λpins s σ H D I ⟨_,_,_,_,_,p⟩=>p.elim
end L3
namespace L3
open PySem PySem.Spec PyProof.Rows L2
section
variable(K:W.Frag)(mg:Str->Option Value)(X:Cx)(ES:L2.St->XK)
@[irreducible] def DE(e:Expr)(F:ME):Prop:=L2.DE K mg X ES e F
@[irreducible] def DT(e:Expr)(F:MT):Prop:=L2.DT K mg X ES e F
@[irreducible] def DA(es:List Expr)(F:MA):Prop:=L2.DA K mg X ES es F
@[irreducible] def DS(st:Stmt)(F:MS):Prop:=L2.DS K mg X ES st F
@[irreducible] def DSs(st:List Stmt)(F:MS):Prop:=L2.DSs K mg X ES st F
@[irreducible] def DI(tg am:Expr)(F:MI):Prop:=L2.DI K mg X ES tg am F
end
section
variable{K:W.Frag}{mg:Str->Option Value}{X:Cx}{ES:L2.St->XK}{e a b c o i tg am jp:Expr}{es:List Expr}{st:Stmt}{sts sts':List Stmt}{p q r:PEx}{A:PAs}{t u:PTs}{x y:PSt}{g:PGt}{gs:PGs}{I:PIt}{pos:Pos}
def af(i:Nat){x:Str}(hN:X.N[i]?=some x:=by rfl)(hv:Vis X.env.scope x:=by first |exact Or.inl rfl |exact Or.inr (Or.inl rfl) |exact Or.inr (Or.inr rfl))(hd:(x==("__debug__" : Str))=false:=by decide)(hcd:(x==("__classdict__" : Str))=false:=by decide):DE K mg X ES (.Name x pos) (ah i).F:=by with_unfolding_all exact FC i hN hv hd hcd
def ak{i:Int}{j:Nat}:DE K mg X ES (.Constant (.int i) j pos) (au i).F:=by with_unfolding_all exact HY
def jw{i:Bool}{j:Nat}:DE K mg X ES (.Constant (.bool i) j pos) (pBl i).F:=by with_unfolding_all exact Kk
def d4{i:Str}{j:Nat}:DE K mg X ES (.Constant (.str i) j pos) (fN i).F:=by with_unfolding_all exact Ii
def Df{x:Str}{d:D}{v:Val}{r:∀P h,Rd P h d v}(hg:Gl X x)(ha:GC K mg x d)(hm:X.mg=mg:=by rfl)(hd:(x==("__debug__" : Str))=false:=by decide):DE K mg X ES (.Name x pos) (sA d v r).F:=by with_unfolding_all exact LW hg ha hm hd
def fg{x:Str}{n:String}(hg:Gl X x)(hm:mg x=none)(hv:bootBuiltins x=some (.type n))(he:X.mg=mg:=by rfl)(hn:x ≠ "__name__":=by decide)(hd:(x==("__debug__" : Str))=false:=by decide):DE K mg X ES (.Name x pos) (pTy n).F:=by with_unfolding_all exact Mc hg hm hv he hn hd
def aC{op:Operator}{r':R2}{k:PO2}(ho:OpR X (binaryOp op) r')(hd:OpD K mg r' k.F)(ha:DE K mg X ES a p.F)(hb:DE K mg X ES b q.F):DE K mg X ES (.BinOp a op b pos) (pOp k p q).F:=by with_unfolding_all exact Mm ho hd ha hb
def aK{r':R2}{k:PO2}(hr:IxR X r')(hd:OpD K mg r' k.F)(ha:DE K mg X ES a p.F)(hb:DE K mg X ES b q.F)(hs:mI b):DE K mg X ES (.Subscript a b pos) (pOp k p q).F:=by with_unfolding_all exact CD hr hd ha hb hs
def gr{op:CmpOp}{r':R2}{k:PO2}(ho:OpR X (compareOp op) r')(hd:OpD K mg r' k.F)(ha:DE K mg X ES a p.F)(hb:DE K mg X ES b q.F)(hm:behindInMarks op b=false):DE K mg X ES (.Compare a [op] [b] pos) (pOp k p q).F:=by with_unfolding_all exact IX ho hd ha hb hm
def a0{op:CmpOp}{r':R2}{k:PO2}(ho:OpR X (compareOp op) r')(hd:OpD K mg r' k.F)(ha:DE K mg X ES a p.F)(hb:DE K mg X ES b q.F)(hm:behindInMarks op b=false):DT K mg X ES (.Compare a [op] [b] pos) (qOf (pOp k p q)).F:=by with_unfolding_all exact FF ho hd ha hb hm
def cx(ha:DE K mg X ES a p.F)(he:∀ci,isTrue a X.env ci=(do let v <- ci;standAt a.pos;holding [v] (truthy v)):=by intro _;rfl):DT K mg X ES a (qOf p).F:=by with_unfolding_all exact GS ha he
def tI(hK:X.K=K)(ha:DE K mg X ES a p.F)(he:∀ci,isTrue a X.env ci=(do let v <- ci;standAt a.pos;holding [v] (truthy v)):=by intro _;rfl):DT K mg X ES a (qTr p).F:=by with_unfolding_all exact AZ hK ha he
def cV(ha:DT K mg X ES a t.F):DT K mg X ES (.UnaryOp .Not a pos) (qNo t).F:=by with_unfolding_all exact Il ha
def Dj(ha:DT K mg X ES a t.F):DW K mg X ES (.BoolOp .And [a] pos) t.F:=by with_unfolding_all exact Eb ha
def iZ(ha:DT K mg X ES a t.F):DW K mg X ES (.BoolOp .Or [a] pos) t.F:=by with_unfolding_all exact G9 ha
def Gy(ha:DT K mg X ES a t.F)(hb:DW K mg X ES (.BoolOp .And (b::es) pos) u.F):DW K mg X ES (.BoolOp .And (a::b::es) pos) (qAn t u).F:=by with_unfolding_all exact Jj ha hb
def hE(ha:DT K mg X ES a t.F)(hb:DW K mg X ES (.BoolOp .Or (b::es) pos) u.F):DW K mg X ES (.BoolOp .Or (a::b::es) pos) (qO t u).F:=by with_unfolding_all exact KJ ha hb
def ZW.dt(h:DW K mg X ES a t.F):DT K mg X ES a t.F:=by with_unfolding_all exact DW.dt h
def kh{op}(h:DE K mg X ES a p.F):DE K mg X ES (.BoolOp op [a] pos) p.F:=by with_unfolding_all exact Gf h
def jb(ha:DE K mg X ES a p.F)(hb:DE K mg X ES (.BoolOp .And (b::es) pos) q.F):DE K mg X ES (.BoolOp .And (a::b::es) pos) (kL p q).F:=by with_unfolding_all exact HE ha hb
def Ih(ha:DE K mg X ES a p.F):DE K mg X ES (.UnaryOp .Not a pos) (Cd p).F:=by with_unfolding_all exact GF ha
def Mh{op:UnaryOp}{r':V->Hp->VK->Prop}{k:PU1}(ho:UnR X (unaryOp op) r')(hd:UnD K mg r' k.F)(ha:DE K mg X ES a p.F):DE K mg X ES (.UnaryOp op a pos) (pUn k p).F:=by with_unfolding_all exact L6 ho hd ha
def ai:DA K mg X ES [] ao.F:=by with_unfolding_all exact zZ
def aa(ha:DE K mg X ES e p.F)(hr:DA K mg X ES es A.F)(hs:starEach (e::es) X.env=(false,eval e X.env)::starEach es X.env:=by rfl):DA K mg X ES (e::es) (ag p A).F:=by with_unfolding_all exact vz ha hr hs
def bW{x1}(h:DA K mg X ES es A.F):DE K mg X ES (.Tuple es x1 pos) (c8 A).F:=by with_unfolding_all exact JD h
def b8(h:DA K mg X ES es A.F):DE K mg X ES (.List es pos) (dF A).F:=by with_unfolding_all exact G6 h
def aF{id:String}{r':List V->Hp->VK->Prop}{k:PBf}{x:Str}{p0:Pos}(hc:CallR X (.builtin id) r')(hd:bG K mg r' k.F)(hg:Gl X x)(hm:mg x=none)(hv:bootBuiltins x=some (.builtin id))(ha:DA K mg X ES (e::es) A.F)(hk:X.mg=mg:=by rfl)(hn:x ≠ "__name__":=by decide)(hdb:(x==("__debug__" : Str))=false:=by decide)(he:starEach (e::es) X.env=(false,eval e X.env)::starEach es X.env:=by rfl)(hpl:(backTo pos (starEach es X.env)).any (·.1)=false:=by rfl):DE K mg X ES (.Call (.Name x p0) (e::es) [] pos) (pFn k A).F:=by with_unfolding_all exact CB hc hd hg hm hv ha hk hn hdb he hpl
def l6{id:String}{r':List V->Hp->VK->Prop}{k:PBf}{x:Str}{p0:Pos}(hc:CallR X (.type id) r')(hd:bG K mg r' k.F)(hg:Gl X x)(hm:mg x=none)(hv:bootBuiltins x=some (.type id))(ha:DA K mg X ES (e::es) A.F)(hk:X.mg=mg:=by rfl)(hn:x ≠ "__name__":=by decide)(hdb:(x==("__debug__" : Str))=false:=by decide)(he:starEach (e::es) X.env=(false,eval e X.env)::starEach es X.env:=by rfl)(hpl:(backTo pos (starEach es X.env)).any (·.1)=false:=by rfl):DE K mg X ES (.Call (.Name x p0) (e::es) [] pos) (pFn k A).F:=by with_unfolding_all exact zF hc hd hg hm hv ha hk hn hdb he hpl
def aw{f:PFn}{x:Str}{p0:Pos}{k n:Nat}{ps:List Str}(C:Callee X.prog X.w X.K X.mg X.base x k ps (spD K mg n f.F))(hr:Room k X.A)(hg:Gl X x)(hx:oW X ES)(ha:DA K mg X ES (e::es) A.F)(hn:f.ms.length=n:=by rfl)(hdb:(x==("__debug__" : Str))=false:=by decide)(he:starEach (e::es) X.env=(false,eval e X.env)::starEach es X.env:=by rfl)(hpl:(backTo pos (starEach es X.env)).any (·.1)=false:=by rfl):DE K mg X ES (.Call (.Name x p0) (e::es) [] pos) (aA f A).F:=by
 subst hn
 with_unfolding_all exact BQ C hr hg hx ha hdb he hpl
def aR:DSs K mg X ES [] xNx.F:=by with_unfolding_all exact Fl
def ay(h1:DS K mg X ES st x.F):DSs K mg X ES [st] x.F:=by with_unfolding_all exact vX h1
def ar(h1:DS K mg X ES st x.F)(h2:DSs K mg X ES sts y.F):DSs K mg X ES (st::sts) (aE x y).F:=by with_unfolding_all exact ng h1 h2
def Ee:DS K mg X ES (.Return none pos) wC.F:=by with_unfolding_all exact EK
def aM(he:DE K mg X ES e p.F):DS K mg X ES (.Return (some e) pos) (a8 p).F:=by with_unfolding_all exact Gp he
def bN(he:DE K mg X ES e p.F)(hs:swapsWith e none pos.line X.env=pure false:=by rfl):DS K mg X ES (.Expr e pos) (cF p).F:=by with_unfolding_all exact vy he hs
def bf(hc:DT K mg X ES c t.F)(ha:DSs K mg X ES sts x.F)(hb:DSs K mg X ES sts' y.F):DS K mg X ES (.If c sts sts' pos) (xIf t x y).F:=by with_unfolding_all exact LK hc ha hb
def aL{i:Nat}{x:Str}(hN:X.N.Nodup)(hi:X.N[i]?=some x)(hx:Loc X.env.scope x)(hf:X.fn x=true\/X.env.scope.names.lookup x=some .local:=by first |exact .inl rfl |exact .inr rfl |assumption):DG K mg X ES (.Name x pos) (gtN i).F:=E8 hN hi hx hf
def fY:DGs K mg X ES [] fu.F:=EI
def bj(h1:DG K mg X (λ_=>E0) e g.F)(h2:DGs K mg X (λ_=>E0) es gs.F)(hs:(assignEach (e::es) X.env).map (·.2)=assign e X.env::(assignEach es X.env).map (·.2):=by rfl):DGs K mg X (λ_=>E0) (e::es) (bO g gs).F:=BD h1 h2 hs
def iw{k n:Nat}(hK:X.K=K)(hc:X.calm=true)(h:DGs K mg X (λ_=>E0) es gs.F)(hn:(assignEach es X.env).length=n:=by rfl)(hst:(assignEach es X.env).findIdx? (·.1)=none:=by rfl):DG K mg X (λ_=>E0) (.Tuple es k pos) (gtT n gs).F:=Ju hK hc h hn hst
def ZG.weak(hg:DG K mg X (λ_=>E0) e g.F):DG K mg X ES e (gtX g).F:=DG.weak hg
def mi(he:DE K mg X ES e p.F)(hg:DG K mg X ES a g.F)(hs:swapsWithSole [a] e pos.line X.env=pure false:=by rfl)(hw:swappedStores [a] e X.env=pure none:=by rfl)(h1:(assignEach [a] X.env).map (·.2)=[assign a X.env]:=by rfl):DS K mg X ES (.Assign [a] e pos) (mH p g).F:=by with_unfolding_all exact yA he hg hs hw h1
def j4{j:Nat}{w:PSe}{r':m7}{p1:Pos}(he:DE K mg X ES e p.F)(ho:DE K mg X ES o (ah j).F)(hi:DE K mg X ES i q.F)(hs':su X r')(hd:pM K mg r' w.F)(hs:swapsWithSole [.Subscript o i p1] e pos.line X.env=pure false:=by rfl)(hw:swappedStores [.Subscript o i p1] e X.env=pure none:=by rfl)(h1:(assignEach [.Subscript o i p1] X.env).map (·.2)=[assign (.Subscript o i p1) X.env]:=by rfl)
 (ha:∀v,assign (.Subscript o i p1) X.env v=(do
  let ov <- holding [v] (eval o X.env)
  let iv <- holding [v,ov] (eval i X.env)
  standAt p1
  holding [v,ov,iv] (setItem ov iv v)
  release [v,ov,iv] []):=by intro _;rfl):DS K mg X ES (.Assign [.Subscript o i p1] e pos) (ni j w q p).F:=by with_unfolding_all exact yA he (HX ho hi hs' hd ha) hs hw h1
def aH{ow:Bool}{i:Nat}{x:Str}{io:Pos}(hN:X.N.Nodup)(hi:X.N[i]?=some x)(hx:Loc X.env.scope x)(he:DE K mg X ES e p.F)(hs:swapsWith e (some (.Name x io)) pos.line X.env=pure false:=by rfl)(hf:X.fn x=true\/X.env.scope.names.lookup x=some .local:=by first |exact .inl rfl |exact .inr rfl |assumption):DS K mg X ES (.Assign [.Name x io] e pos) (aN ow i p).F:=by with_unfolding_all exact IH hN hi hx he hs hf
def fC{i j:Nat}{x y:Str}{px py pt:Pos}{kt k2 pt2}(hc:X.calm=true)(hN:X.N.Nodup)(hi:X.N[i]?=some x)(hj:X.N[j]?=some y)(hij:i≠j)(hx:X.env.scope.names.lookup x=some .local)(hy:X.env.scope.names.lookup y=some .local)(ha:DA K mg X ES [a,b] A.F)(hw:swappedStores [.Tuple [.Name x px,.Name y py] kt pt] (.Tuple [a,b] k2 pt2) X.env=pure (some [x,y]))(hs:swapsWithSole [.Tuple [.Name x px,.Name y py] kt pt] (.Tuple [a,b] k2 pt2) pos.line X.env=pure false:=by rfl):DS K mg X ES (.Assign [.Tuple [.Name x px,.Name y py] kt pt] (.Tuple [a,b] k2 pt2) pos) (iF i j A).F:=by with_unfolding_all exact HU hc hN hi hj hij hx hy ha hw hs
def Gi{i:Nat}{x:Str}{op:Operator}{ti:TIp}{io:Pos}{k:PO2}(hN:X.N.Nodup)(hi:X.N[i]?=some x)(hx:Loc X.env.scope x)(he:DE K mg X ES e p.F)(ho:PIp X op ti)(hd:IpD K mg ti k.F)(hf:X.fn x=true\/X.env.scope.names.lookup x=some .local:=by first |exact .inl rfl |exact .inr rfl |assumption):DS K mg X ES (.AugAssign (.Name x io) op e pos) (Bo i k p).F:=by with_unfolding_all exact HI hN hi hx he ho hd hf
def fI{x:Str}{C:Addr}{E:XK}{np cpos:Pos}(hc:X.calm=true)(hR:Rz X E)(hg:Gl X x)(hm:mg x=some (.ref C))(hq:W.excIn X.K C eY "ValueError.__new__"=true)(ha:DA K mg X (λ_=>E) (e::es) A.F)(hk:X.mg=mg:=by rfl)(he:starEach (e::es) X.env=(false,eval e X.env)::starEach es X.env:=by rfl)(bi:(backTo cpos (starEach es X.env)).any (·.1)=false:=by rfl)(hd:(x==("__debug__" : Str))=false:=by decide):DS K mg X (λ_=>E) (.Raise (some (.Call (.Name x np) (e::es) [] cpos)) none pos) (gh x A).F:=by with_unfolding_all exact Ay hc hR hg hm hq ha hk he bi hd
def cU(hK:X.K=K)(he:DE K mg X ES e p.F):DI K mg X ES tg e (bZ p).F:=by with_unfolding_all exact Hs hK he
def eV{p0:Pos}(hg:Gl X "range")(hm:mg "range"=none)(ha:DA K mg X ES [a] A.F)(hk:X.mg=mg:=by rfl)(hs:starEach [a] X.env=[(false,eval a X.env)]:=by rfl):DI K mg X ES tg (.Call (.Name "range" p0) [a] [] pos) (iW A).F:=by with_unfolding_all exact yB hg hm ha hk hs
def zR{elts:List Expr}{x1:Nat}{tp p0:Pos}(hK:X.K=K)(hg:Gl X "zip")(hm:mg "zip"=none)(ha:DA K mg X ES [a,b] A.F)(hk:X.mg=mg:=by rfl)(hs:starEach [a,b] X.env=[(false,eval a X.env),(false,eval b X.env)]:=by rfl)(hs2:starEach [b] X.env=[(false,eval b X.env)]:=by rfl):DI K mg X ES (.Tuple elts x1 tp) (.Call (.Name "zip" p0) [a,b] [] pos) (r9 A).F:=by with_unfolding_all exact G8 hK hg hm ha hk hs hs2
def eZ(hp:PassesOwn (model X.prog X.w) X.A X.env X.xe)(hc:X.calm=true)(hi:DI K mg X ES tg am I.F)(hg:DG K mg X ES tg g.F)(hb:DSs K mg X ES sts x.F)(hs:∀x,foldedSetIterable am X.env x=pure x:=by intro _;rfl):DS K mg X ES (.For tg am sts [] pos) (gB I g x).F:=by with_unfolding_all exact zd hp hc hi hg hb hs
def kX(hp:PassesOwn (model X.prog X.w) X.A X.env X.xe)(hc:DT K mg X ES c t.F)(hb:DSs K mg X ES sts x.F):DS K mg X ES (.While c sts [] pos) (xWh t x).F:=by with_unfolding_all exact Ct hp hc hb
def gU{scope:Scope}(M:List Str)(kn:List (Str×NameKind))(N:List Str)(sub:List (Option Nat)){hsb:(sub.filterMap id).Nodup}(hc:X.calm=true)(hi:DI K mg X ES tg am I.F)(hg:∀cl C s₂ H fp,DG K mg (bQ X N scope cl C s₂ H fp) (λ_=>E0) tg g.F)(he:∀cl C s₂ H fp,DE K mg (bQ X N scope cl C s₂ H fp) (λ_=>E0) jp p.F)(hM:X.N=M:=by rfl)(hkn:X.env.scope.names=kn:=by rfl)(ii:jt M scope.names sub N=true:=by decide)(hk:scope.kind=.function:=by rfl)(hnc:∀x∈scope.names,x.2 ≠ .cell:=by decide)(bn:∀x∈scope.names,x.2=.local->scope.names.lookup x.1=some .local:=by decide)(hfr:lG kn scope.names=true:=by decide)(hsl:sub.length=N.length:=by rfl)(hs:∀x,foldedSetIterable am X.env x=pure x:=by intro _;rfl):DE K mg X ES (.ListComp jp [⟨tg,am,[],0⟩] scope pos) (pLC I sub hsb g qY p).F:=by with_unfolding_all exact Kp M kn N sub hc hi hg he hM hkn ii hk hnc bn hfr hsl hs
def xA{ow:Bool}{px spos:Pos}{iT:Nat}{xT:Str}{scope:Scope}(M:List Str)(kn:List (Str×NameKind))(N:List Str)(sub:List (Option Nat)){hsb:(sub.filterMap id).Nodup}(hc:X.calm=true)(hN:X.N.Nodup)(hix:X.N[iT]?=some xT)(hxl:Loc X.env.scope xT)(hi:DI K mg X ES tg am I.F)(hg:∀cl C s₂ H fp,DG K mg (bQ X N scope cl C s₂ H fp) (λ_=>E0) tg g.F)(he:∀cl C s₂ H fp,DE K mg (bQ X N scope cl C s₂ H fp) (λ_=>E0) jp p.F)(hsw:swapsWith (.ListComp jp [⟨tg,am,[],0⟩] scope pos) (some (.Name xT px)) spos.line X.env=pure true:=by rfl)(hM:X.N=M:=by rfl)(hkn:X.env.scope.names=kn:=by rfl)(ii:jt M scope.names sub N=true:=by decide)(hk:scope.kind=.function:=by rfl)(hnc:∀x∈scope.names,x.2 ≠ .cell:=by decide)(bn:∀x∈scope.names,x.2=.local->scope.names.lookup x.1=some .local:=by decide)(hfr:lG kn scope.names=true:=by decide)(hsl:sub.length=N.length:=by rfl)(hs:∀x,foldedSetIterable am X.env x=pure x:=by intro _;rfl)(hf:X.fn xT=true\/X.env.scope.names.lookup xT=some .local:=by first |exact .inl rfl |exact .inr rfl |assumption):DS K mg X ES (.Assign [.Name xT px] (.ListComp jp [⟨tg,am,[],0⟩] scope pos) spos) (aN ow iT (pLC I sub hsb g qY p)).F:=by with_unfolding_all exact J6 M kn N sub hc hN hix hxl hi hg he hsw hM hkn ii hk hnc bn hfr hsl hs hf
def ic{j:Nat}{name:Str}{id:String}{apos cpos:Pos}{r':V->List V->Hp->VK->Prop}{k:PMm}(hK:X.K=K)(slot:Slot "list" name id)(hty:typeOf (.builtin id)=pure (.type "method_descriptor"))(hm:MtM X id r')(hd:MtD K mg r' k.F)(ho:DE K mg X ES o (ah j).F)(ha:DA K mg X ES (e::es) A.F)(db:attributeBase o name X.env (eval o X.env)=eval o X.env:=by rfl)(hfew:((backTo cpos (starEach (e::es) X.env)).all (λx=>!x.1)&&(backToKw cpos (keywordEach [] X.env)).all (λx=>x.1.isSome)&&decide ((e::es).length+([]:List Keyword).length+(if ([]:List Keyword).isEmpty then 0 else 1)<30))=true:=by rfl)(dL:(apos.endLine==cpos.line)=true:=by rfl)(hs:starEach (e::es) X.env=(false,eval e X.env)::starEach es X.env:=by rfl)(bi:(backTo cpos (starEach es X.env)).any (·.1)=false:=by rfl):DE K mg X ES (.Call (.Attribute o name apos) (e::es) [] cpos) (jM j k A).F:=by with_unfolding_all exact de_m hK slot hty hm hd ho ha db hfew dL hs bi
def qh{j:Nat}{name:Str}{id:String}{apos cpos:Pos}{r':V->List V->Hp->VK->Prop}{k:PMm}(hK:X.K=K)(slot:Slot "list" name id)(hty:typeOf (.builtin id)=pure (.type "method_descriptor"))(hm:MtM X id r')(hd:MtD K mg r' k.F)(ho:DE K mg X ES o (ah j).F)(db:attributeBase o name X.env (eval o X.env)=eval o X.env:=by rfl)(dL:(apos.endLine==cpos.line)=true:=by rfl):DE K mg X ES (.Call (.Attribute o name apos) [] [] cpos) (oU j k).F:=by with_unfolding_all exact K9 hK slot hty hm hd ho db dL
def pW:DO K mg X ES none oN.F:=EN
def o9(he:DE K mg X ES e p.F):DO K mg X ES (some e) (oS p).F:=by with_unfolding_all exact Fw he
def nJ{l u:POp}{lo hi:Option Expr}{p2:Pos}(hK:X.K=K)(he:DE K mg X ES e p.F)(hl:DO K mg X ES lo l.F)(hu:DO K mg X ES hi u.F):DE K mg X ES (.Subscript e (.Slice lo hi none p2) pos) (pSl p l u).F:=by with_unfolding_all exact AQ hK he hl hu
def CS:DE K mg X ES (.Dict [] [] pos) pD0.F:=by with_unfolding_all exact JT
def aX:OpD K mg (λx y H Q=>rI0 (λi j=>.int (i+j)) x y H Q\/(qc x y H Q\/(ma K x y H Q\/mM K x y H Q))) bH.F:=Hn
def eB:OpD K mg (rI0 λi j=>.int (i-j)) fZ.F:=JA
def bK:OpD K mg (rI CMulA λi j=>.int (i*j)) b9.F:=HW
def kg:OpD K mg (rI CDivB λi j=>.int (i.fdiv j)) kY.F:=F5
def d6:OpD K mg (rI (λ_ j=>j≠0) λi j=>.int (i.fmod j)) c9.F:=Jn
def jq:OpD K mg (rI iG λi j=>.int (i^j.toNat)) gG.F:=FT
def FP:OpD K mg (rI iG λi j=>.int (i*2^j.toNat)) tj.F:=Iw
def rT:OpD K mg (rI0 λi j=>.bl (decide (i<j))) bLt.F:=KU
def oQ:OpD K mg (rI0 λi j=>.bl (decide (j<i))) bGt.F:=KC
def oX:OpD K mg (rI0 λi j=>.bl (decide (j<=i))) bGe.F:=Mb
def aJ:OpD K mg (λx y H Q=>xt K x y H Q\/xi K x y H Q) bIx.F:=Ja
def dH:OpD K mg (xH K) bEq.F:=Ik
def l8:OpD K mg (wY K) bNe.F:=GX
def Lh:OpD K mg (rIn K false) bIn.F:=(Iv false)
def cZ:bG K mg (λxs H Q=>(∃p ys,xs=[.ref p]/\(SqL K H p ys\/SqT K H p ys)/\Q (.int ys.length) H)\/(∃z,xs=[.str z]/\z.length<=sizeLine/\Q (.int z.length) H)) dD.F:=Jd
def ie:bG K mg (λxs H Q=>∃i,xs=[.int i]/\Q (.int (if i<0 then -i else i)) H) g9.F:=Hg
def Di:bG K mg (λxs H Q=>∃i j,xs=[.int i,.int j]/\Q (.int (if j>i then j else i)) H) uc.F:=Ey
def vV:bG K mg (λxs H Q=>∃i j,xs=[.int i,.int j]/\Q (.int (if j<i then j else i)) H) oC.F:=Fq
def zc:bG K mg (λxs H Q=>∃(a:Addr) (bs:List Bool),xs=[.ref a]/\SqL K H a (bs.map V.bl)/\Q (.bl (bs.all id)) H) rZ.F:=GL
def oo:bG K mg (λxs H Q=>∃(a:Addr) (ns:List Int),xs=[.ref a]/\SqL K H a (ns.map V.int)/\Q (.int ns.sum) H) iU.F:=HL
def D5:bG K mg (λxs H Q=>∃p ys,xs=[.ref p]/\(SqL K H p ys\/SqT K H p ys)/\∀l,H l=none->Q (.ref l) (upd H l (.lst ys))) ue.F:=Fp
def AA:bG K mg (λxs H Q=>∃p ys,xs=[.ref p]/\((SqL K H p ys/\∀l,H l=none->Q (.ref l) (upd H l (.tup ys)))\/(SqT K H p ys/\Q (.ref p) H))) pC.F:=Bk
def IJ:bG K mg (λxs H Q=>(∃i,xs=[.int i]/\Q (.int i) H)\/∃k,xs=[.bl k]/\Q (.int (if k then 1 else 0)) H) xq.F:=HB
def dX{kt:gk}(ok:KitsOk K mg kt):bG K mg (λxs H Q=>(∃x c t v b,xs=[x,c]/\TyX K H x t/\f9 c=some v/\W.kitOne K t v=some b/\Q (.bl b) H)\/
 (∃x tp cs t vs b,xs=[x,.ref tp]/\SqT K H tp cs/\TyX K H x t/\cs.mapM f9=some vs/\W.kitAny K t vs=some b/\Q (.bl b) H)) (bA kt).F:=Hj ok
def ip:MtD K mg pw fK.F:=qI
def zT:MtD K mg Ck rX.F:=G1
def BJ:MtD K mg sJ we.F:=Aq
def pI:pM K mg xU seL.F:=El
def FR:IpD K mg (ipI λi j=>i+j) Bw.F:=DC
def JL:UnD K mg (rU λi=>.int (-i)) Ci.F:=Je
variable{P:Program}{w:World}{base:Heap}{fx:Str}{fst:Stmt}{k n m:Nat}{ps N:List Str}{ms:List Bool}
def okP(D:Def K mg fx fst)(S:FnScope N ps (az fst))
 (hb:∀(kV doc pm:Value) (an:Option Addr) (cdv ct:Value) (us:List Value),us.length=ps.length->bindArgs (W.fnOf fx fx (d7 fst) (cn fst) (az fst) .none kV doc pm an cdv ct) ⟨us,[]⟩=pure (ps.zip us))
 (im:∀(f:Addr) (cdv:Value) (A:Around) (outer:List Env) (s:Shared) (H:Hp) (E:XK),Room k (A.deeper (envOfC fx (az fst) s.heap.objs.size f cdv))->
  DSs K mg (fo (CX1 P w) P w K mg base N fx (az fst) f cdv A outer s H E) (λ_=>E) (cn fst) x.F) (hn:ps.length=n:=by rfl) (hm:N.length=m:=by rfl):Callee P w K mg base fx (k+1) ps (spD K mg n (fnP ms m x).F):=by
 subst hn hm
 with_unfolding_all exact D.okD S hb im
def okX(D:Def K mg fx fst)(S:FnScope N ps (az fst))
 (hb:∀(kV doc pm:Value) (an:Option Addr) (cdv ct:Value) (us:List Value),us.length=ps.length->bindArgs (W.fnOf fx fx (d7 fst) (cn fst) (az fst) .none kV doc pm an cdv ct) ⟨us,[]⟩=pure (ps.zip us))
 (im:∀(f:Addr) (cdv:Value) (A:Around) (outer:List Env) (s:Shared) (H:Hp) (E:XK),Room k (A.deeper (envOfC fx (az fst) s.heap.objs.size f cdv))->
  DSs K mg (fo (CX1 P w) P w K mg base N fx (az fst) f cdv A outer s H E) (λ_=>E) (cn fst) x.F) (hn:ps.length=n:=by rfl) (hm:N.length=m:=by rfl):Callee P w K mg base fx (k+1) ps (spD K mg n (PFx.of ms m x).F):=by
 subst hn hm
 with_unfolding_all exact D.okD S hb im
def ok0(D:Def K mg fx fst)(S:FnScope N ps (az fst))
 (hb:∀(kV doc pm:Value) (an:Option Addr) (cdv ct:Value) (us:List Value),us.length=ps.length->bindArgs (W.fnOf fx fx (d7 fst) (cn fst) (az fst) .none kV doc pm an cdv ct) ⟨us,[]⟩=pure (ps.zip us)) (hn:ps.length=n:=by rfl):Callee P w K mg base fx (k+1) ps (spD K mg n (PFx.none ms).F):=by
 subst hn
 exact D.okD (F:=λ_ _=>.stuck) S hb λ_ _ _ _ _ _ _ _=>zV
end
end L3
namespace L3
open PySem PySem.Spec PyProof.Rows L2
def Ha(b:Bool)(ms:List Bool)(v:Val)(vs:List Val):sls (b::ms) (v::vs)=sl1 b v::sls ms vs:=rfl
def Et:sls [] []=[]:=rfl
def Lu(v:Val):sl1 true v=.mu v:=rfl
def Lw(v:Val):sl1 false v=.sh v:=rfl
section
variable(e:E3)
def DR:okA e [] []=true:=rfl
def IL(i:Nat)(ms:List Bool)(ts:List Tm):okA e (true::ms) (.bor i::ts)=(((e[i]?).bind Sl.mv).isSome && !(jP i ts)&&okA e ms ts):=rfl
def GQ(i:Nat)(ms:List Bool)(ts:List Tm):okA e (false::ms) (.bor i::ts)=(!(iC i ms ts)&&okA e ms ts):=rfl
def Iu(v:Val)(ms:List Bool)(ts:List Tm):okA e (false::ms) (.val v::ts)=okA e ms ts:=rfl
def Cs(i:Nat):jP i []=false:=rfl
def JJ(i:Nat)(v:Val)(ts:List Tm):jP i (.val v::ts)=jP i ts:=rfl
def BI(i:Nat):iC i [] []=false:=rfl
def Ep(i j:Nat)(ms:List Bool)(ts:List Tm):iC i (true::ms) (.bor j::ts)=((i==j) || iC i ms ts):=rfl
def Hc(i:Nat)(t:Tm)(ms:List Bool)(ts:List Tm):iC i (false::ms) (t::ts)=iC i ms ts:=by cases t <;> rfl
def yY:bu e [] []=[]:=rfl
theorem Fu(i:Nat)(ms:List Bool)(ts:List Tm):bu e (false::ms) (.bor i::ts)=match e[i]? with
 |some (.sh _)=>bu e ms ts
 |_=>i::bu e ms ts:=rfl
def Ex(v:Val)(ms:List Bool)(ts:List Tm):bu e (false::ms) (.val v::ts)=bu e ms ts:=rfl
def GJ(t:Tm)(ms:List Bool)(ts:List Tm):bu e (true::ms) (t::ts)=bu e ms ts:=by cases t <;> rfl
end
def yU:cT [] []=[]:=rfl
def DD(b:Bool)(t:Tm)(ms:List Bool)(ts:List Tm):cT (b::ms) (t::ts)=qb b t::cT ms ts:=rfl
def Fz(i:Nat):qb true (.bor i)=some i:=rfl
def JK(t:Tm):qb false t=none:=by cases t <;> rfl
def Bc(e:E3):bU [] [] e=e:=rfl
def Hy(o:Option Nat)(sub:List (Option Nat))(s:Sl)(i e:E3):bU (o::sub) (s::i) e=bU sub i (gA o s e):=rfl
theorem DU(i:Nat)(v:Val)(e:E3):gA (some i) (.mu v) e=match e[i]? with
 |some t=>e.set i (t.re v)
 |none=>e:=rfl
def G5(s:Sl)(e:E3):gA none s e=e:=rfl
def BP(vs:List Val):bc [] vs=[]:=rfl
def HF(ms:List Bool)(v:Val)(vs:List Val):bc (true::ms) (v::vs)=.mu v::bc ms vs:=rfl
def IW(ms:List Bool)(vs:List Val):bc (false::ms) vs=.no::bc ms vs:=by cases vs <;> rfl
def Fo(e:E3):muV [] e=some []:=by cases e <;> rfl
def Kr(ms:List Bool)(v:Val)(e:E3):muV (true::ms) (.mu v::e)=(muV ms e).map (v :: ·):=rfl
def KP(ms:List Bool)(s:Sl)(e:E3):muV (false::ms) (s::e)=muV ms e:=by cases s <;> rfl
def yy(v:Val):kx (.val v)=flatV v:=rfl
def yV(v:Val):kx (.new v)=flatC v:=rfl
def yq(i:Nat):kx (.par i)=true:=rfl
def zC(xs:List Val):flatC (.lst xs)=cW xs:=rfl
def nX:cW []=true:=by simp [cW]
def mR(v:Val)(vs:List Val):cW (v::vs)=(flatV v&&cW vs):=by simp [cW]
def yL(i:Int):flatV (.int i)=true:=by simp [flatV]
def Cm(i:Bool):flatV (.bl i)=true:=by simp [flatV]
def zG:flatV .non=true:=by simp [flatV]
theorem o6{α:Type}(f:α->Val)(hf:∀a,flatV (f a)=true):∀l:List α,cW (l.map f)=true
 | []=>nX
 |a::l=>by rw[Of,mR,hf a,o6 f hf l];rfl
def iM{α:Type}{l:List α}{i:Int}{x:α}(h0:0<=i)(h:l[i.toNat]?=some x):atI l i=some x:=by
 have hl:=(N_.mp h).1
 unfold atI ixN
 rw[if_pos h0,if_pos (by omega)]
 exact h
def oq{n:Nat}{i:Int}(h0:0<=i)(h:i.toNat<n):ixN n i=some i.toNat:=by
 unfold ixN
 rw[if_pos h0,if_pos (by omega)]
section
variable{α:Type}(a b c d e f g h:α)(l:List α)
def ati0:atI (a::l) 0=some a:=iM (by decide) rfl
def ati1:atI (a::b::l) 1=some b:=iM (by decide) rfl
def ati2:atI (a::b::c::l) 2=some c:=iM (by decide) rfl
def ati3:atI (a::b::c::d::l) 3=some d:=iM (by decide) rfl
end
def ixn0(n:Nat):ixN (n+1) 0=some 0:=oq (i:=0) (by decide) (by show 0<n+_;omega)
def ixn1(n:Nat):ixN (n+2) 1=some 1:=oq (i:=1) (by decide) (by show 1<n+_;omega)
theorem Ko(xs:List Val)(k:Int)(v:Val):seL.G (.lst xs) (.int k) v=match ixN xs.length k with
 |some j=>some (.lst (xs.set j v))
 |none=>none:=rfl
end L3
namespace L3
open PySem PySem.Spec PyProof.Rows L2
mutual
def vq:Val->Val->Bool
 |.non,.non=>true
 |.bl a,.bl b=>a==b
 |.bl a,.int j=>(if a then 1 else 0)==j
 |.int i,.bl b=>i==(if b then 1 else 0)
 |.int i,.int j=>i==j
 |.str x,.str y=>x==y
 |.tup xs,.tup ys=>vqs xs ys
 |.lst xs,.lst ys=>vqs xs ys
 |_,_=>false
def vqs:List Val->List Val->Bool
 | [],[]=>true
 |x::xs,y::ys=>vq x y&&vqs xs ys
 |_,_=>false
end
mutual
def wfV:Nat->Val->Bool
 |_,.non=>true
 |_,.bl _=>true
 |_,.int _=>true
 |_,.str x=>PyData.strOk x
 |k+1,.tup xs=>eO k xs
 |k+1,.lst xs=>eO k xs
 |_,_=>false
def eO:Nat->List Val->Bool
 |_,[]=>true
 |k,x::xs=>wfV k x&&eO k xs
end
mutual
def iE:Val->PyData
 |.bl b=>.bool b
 |.int i=>.int i
 |.str x=>.str x
 |.tup xs=>.tuple (ff xs)
 |.lst xs=>.list (ff xs)
 |_=>.none
def ff:List Val->List PyData
 | []=>[]
 |x::xs=>iE x::ff xs
end
mutual
theorem qr:∀(k:Nat) (v:Val),wfV k v=true->(∀j,k<j->dU j v=some (iE v))/\(iE v).canLay0=true/\(iE v).depth<=k
 |k,.non,_=>⟨λj hj=>by cases j with |zero=>exact absurd hj (P1 _) |succ j=>rfl,rfl,OK _⟩
 |k,.bl b,_=>⟨λj hj=>by cases j with |zero=>exact absurd hj (P1 _) |succ j=>rfl,rfl,OK _⟩
 |k,.int b,_=>⟨λj hj=>by cases j with |zero=>exact absurd hj (P1 _) |succ j=>rfl,rfl,OK _⟩
 |k,.str b,w=>⟨λj hj=>by cases j with |zero=>exact absurd hj (P1 _) |succ j=>rfl,by cases k <;> exact w,OK _⟩
 |0,.tup xs,w=>absurd w Oi
 |0,.lst xs,w=>absurd w Oi
 |
  k+1,.tup xs,w=>by
  obtain⟨h1,h2,h3⟩:=m6 k xs w
  exact⟨λj hj=>by cases j with |zero=>exact absurd hj (P1 _) |succ j=>simp only[dU,iE,h1 j (Nat.lt_of_succ_lt_succ hj),Option.map_some],h2,by simpa [iE,PyData.depth] using h3⟩
 |
  k+1,.lst xs,w=>by
  obtain⟨h1,h2,h3⟩:=m6 k xs w
  exact⟨λj hj=>by cases j with |zero=>exact absurd hj (P1 _) |succ j=>simp only[dU,iE,h1 j (Nat.lt_of_succ_lt_succ hj),Option.map_some],h2,by simpa [iE,PyData.depth] using h3⟩
 |k,.ty _,w=>by cases k <;> exact absurd w Oi
 |k,.glb _,w=>by cases k <;> exact absurd w Oi
 |k,.exc _,w=>by cases k <;> exact absurd w Oi
 |k,.kl _,w=>by cases k <;> exact absurd w Oi
 |k,.dct _,w=>by cases k <;> exact absurd w Oi
 |k,.set _,w=>by cases k <;> exact absurd w Oi
theorem m6:∀(k:Nat) (vs:List Val),eO k vs=true->(∀j,k<j->fD j vs=some (ff vs))/\PyData.canLayAll0 (ff vs)=true/\PyData.depthAll (ff vs)<=k
 |k,[],_=>⟨λj hj=>by simp [fD,ff],rfl,OK _⟩
 |
  k,v::vs,w=>by
  have w':(wfV k v&&eO k vs)=true:=w
  rw[Ol] at w'
  obtain⟨h1,h2,h3⟩:=qr k v w'.1
  obtain⟨i1,i2,i3⟩:=m6 k vs w'.2
  exact⟨λj hj=>by simp [fD,ff,h1 j hj,i1 j hj],by simp [ff,PyData.canLayAll0,h2,i2],Nat.max_le.mpr ⟨h3,i3⟩⟩
end
mutual
theorem zu:∀(k:Nat) (v u:Val),wfV k v=true->wfV k u=true->PyData.eqv (iE v) (iE u)=vq v u
 |
  k,v,u,hv,hu=>by
  cases v <;> first |(cases k <;> exact absurd hv Oi) |skip
  all_goals (cases u <;> first |(cases k <;> exact absurd hu Oi) |rfl |(cases k with |zero=>exact absurd hv Oi |succ k=>exact vp k _ _ hv hu))
theorem vp:∀(k:Nat) (v u:List Val),eO k v=true->eO k u=true->PyData.eqvAll (ff v) (ff u)=vqs v u
 |_,[],[],_,_=>rfl
 |_,[],_::_,_,_=>rfl
 |_,_::_,[],_,_=>rfl
 |
  k,x::xs,y::ys,hv,hu=>by
  have h1:(wfV k x&&eO k xs)=true:=hv
  have h2:(wfV k y&&eO k ys)=true:=hu
  rw[Ol] at h1 h2
  show (PyData.eqv (iE x) (iE y)&&PyData.eqvAll (ff xs) (ff ys))=(vq x y&&vqs xs ys)
  rw[zu k x y h1.1 h2.1,vp k xs ys h1.2 h2.2]
end
def CU{x y:Val}(hx:wfV 60 x=true)(hy:wfV 60 y=true):eT x y=some (vq x y):=by
 obtain⟨h1,h2,h3⟩:=qr 60 x hx
 obtain⟨i1,i2,i3⟩:=qr 60 y hy
 unfold eT
 rw[h1 64 (by omega),i1 64 (by omega)]
 dsimp only
 rw[if_pos ⟨js h2 (by omega),js i2 (by omega)⟩,zu 60 x y hx hy]
mutual
theorem pY:∀(k:Nat) (v:Val),wfV k v=true->vq v v=true
 |
  k,v,hv=>by
  cases v <;> first |(cases k <;> exact absurd hv Oi) |rfl |exact beq_self_eq_true _ |(cases k with |zero=>exact absurd hv Oi |succ k=>exact sI k _ hv)
theorem sI:∀(k:Nat) (v:List Val),eO k v=true->vqs v v=true
 |_,[],_=>rfl
 |
  k,x::xs,hv=>by
  have h1:(wfV k x&&eO k xs)=true:=hv
  rw[Ol] at h1
  show (vq x x&&vqs xs xs)=true
  rw[pY k x h1.1,sI k xs h1.2]
  rfl
end
def fV(q:Rat):Val:=.tup [.int q.num,.int q.den]
structure Bx where
 l:Rat
 t:Rat
 w:Rat
 h:Rat
structure Bx.Ok(b:Bx):Prop where
 w:0<b.w
 h:0<b.h
structure Bx.Sz(n:Nat)(b:Bx):Prop where
 l:L2.Sz n b.l
 t:L2.Sz n b.t
 w:L2.Sz n b.w
 h:L2.Sz n b.h
def bV(b:Bx):Val:=.tup [fV b.l,fV b.t,fV b.w,fV b.h]
def Ku(q:Rat)(k:Nat):wfV (k+1) (fV q)=true:=by simp [fV,wfV,eO]
def LR(b:Bx)(k:Nat):wfV (k+2) (bV b)=true:=by simp [bV,wfV,eO,Ku]
def L9(q:Rat):flatV (fV q)=true:=by simp [fV,flatV,cW]
def xM(b:Bx):flatV (bV b)=true:=by simp [bV,flatV,cW,L9]
def knV:Val->Bool
 |.exc _=>false
 |v=>(tyC v).isSome
def jF:Nat->Val->Bool
 |k+1,.tup xs=>xs.all (jF k)
 |_,v=>knV v
def kW:Val->Bool
 |.int _=>true
 |_=>false
def bp:Val->Bool
 |.tup [.int a,.int b]=>decide (1<=b)&&decide (Int.gcd a b=1)
 |_=>false
def kO:Val->Bool
 |.tup (.int a::_)=>decide (0<a)
 |_=>false
def gY:Val->Bool
 |.tup [a,b,c,d]=>bp a&&(bp b&&(bp c&&(bp d&&(kO c&&kO d))))
 |_=>false
def jv:Val->Bool
 |.int i=>decide (1<=i)
 |_=>false
def gm:Val->Bool
 |.tup _=>true
 |_=>false
def Kx{a b:Int}(h1:1<=b)(h2:Int.gcd a b=1):Val.tup [.int a,.int b]=fV ((a:Rat)/(b:Rat)):=by
 have hb:b≠0:=by omega
 have h:=n8 (a:=a) hb
 have s:=Fr.self (by omega) h2
 unfold fV
 rw[<- h.1,<- h.2,s.1,s.2]
def kQ(q:Rat):bp (fV q)=true:=by
 show (decide (1<=(q.den:Int))&&decide (Int.gcd q.num q.den=1))=true
 have:=q.den_pos
 rw[OH (by omega),OH (v3 q)];rfl
def yS{d:Val}(h:bp d=true):∃q,d=fV q:=by
 unfold bp at h
 split at h
 ·simp only[Ol,Qv] at h
  exact⟨_,Kx h.1 h.2⟩
 ·cases h
def vK(q:Rat):kO (fV q)=decide (0<q):=by
 show decide (0<q.num)=decide (0<q)
 rw[decide_eq_decide]
 exact vA
def CA{b:Bx}(h:b.Ok):gY (bV b)=true:=by
 show (bp (fV b.l)&&(bp (fV b.t)&&(bp (fV b.w)&&(bp (fV b.h)&&(kO (fV b.w)&&kO (fV b.h))))))=true
 rw[kQ,kQ,kQ,kQ,vK,vK,OH h.w,OH h.h];rfl
def Jy(b:Bx):jF 2 (bV b)=true:=by simp [bV,fV,jF,knV,tyC]
theorem pU{g:MG3}{F:ME3}{f:Val->Val}(P:E3->Prop):∀(vs acc:List Val) (e:E3),P e->(∀v∈vs,∀e,P e->∃e1 t e2,g v e=some e1/\F e1=.ok t e2/\dE e2 t=some (e2,f v)/\P e2)->acc.length+vs.length<=16777216->∃e',P e'/\lcV g cY F vs acc e=.ok (acc++vs.map f) e'
 | [],acc,e,hp,_,_=>⟨e,hp,by simp [lcV]⟩
 |
  v::vs,acc,e,hp,hf,hl=>by
  obtain⟨e1,t,e2,q1,q2,q3,q4⟩:=hf v (Od ..) e hp
  obtain⟨e',p',q5⟩:=pU P vs (acc++[f v]) e2 q4 (λu hu=>hf u (N9 _ hu)) (by simp at hl ⊢;omega)
  refine⟨e',p',?_⟩
  unfold lcV
  rw[if_pos (by simp at hl;omega),q1]
  simp only[cY,kH,Pw,q2,q3,q5]
  simp
theorem lj{g:MG3}{B:MS3}(P:E3->Prop):∀(vs:List Val) (e:E3),P e->(∀v∈vs,∀e,P e->∃e1 e2,g v e=some e1/\(B e1=.nx e2\/B e1=.ct e2)/\P e2)->∃e',P e'/\eJ g B vs e=.nx e'
 | [],e,hp,_=>⟨e,hp,rfl⟩
 |
  v::vs,e,hp,hf=>by
  obtain⟨e1,e2,q1,q2,q3⟩:=hf v (Od ..) e hp
  obtain⟨e',p',q4⟩:=lj P vs e2 q3 λu hu=>hf u (N9 _ hu)
  refine⟨e',p',?_⟩
  rw[dO,q1]
  rcases q2 with q2 |q2 <;> simp only[q2,l7,CK,q4]
end L3
namespace L3
open PySem PySem.Spec PyProof.Rows L2
def rgV(k:Nat):List Val:=(List.range k).map λj=>Val.int (j:Nat)
def j7{k:Nat}(h:k<1000000):gD [.int (k:Nat)]=some (rgV k):=by
 simp only[gD]
 rw[if_pos (⟨by omega,by omega⟩:RgB _),O0]
 unfold xv rgV
 simp only[Int.zero_add]
def pz{i:Int}(h0:0<=i)(h:i<1000000):gD [.int i]=some (rgV i.toNat):=by
 have:=j7 (k:=i.toNat) (by omega)
 rwa [show ((i.toNat:Nat):Int)=i from by omega] at this
theorem eA{g:MG3}{F:ME3}{α:Type}(fv fw:α->Val)(P:E3->Prop):∀(l:List α) (acc:List Val) (e:E3),P e->(∀a∈l,∀e,P e->∃e1 t e2,g (fv a) e=some e1/\F e1=.ok t e2/\dE e2 t=some (e2,fw a)/\P e2)->acc.length+l.length<=16777216->∃e',P e'/\lcV g qY.G F (l.map fv) acc e=.ok (acc++l.map fw) e'
 | [],acc,e,hp,_,_=>⟨e,hp,by simp [lcV]⟩
 |
  v::vs,acc,e,hp,hf,hl=>by
  obtain⟨e1,t,e2,q1,q2,q3,q4⟩:=hf v (Od ..) e hp
  obtain⟨e',p',q5⟩:=eA fv fw P vs (acc++[fw v]) e2 q4 (λu hu=>hf u (N9 _ hu)) (by simp at hl ⊢;omega)
  refine⟨e',p',?_⟩
  rw[Of]
  unfold lcV
  have cy:qY.G=cY:=rfl
  rw[cy] at q5 ⊢
  rw[if_pos (by simp at hl;omega),q1]
  simp only[cY,kH,Pw,q2,q3,q5]
  simp
def Js(v:Val):inS (.sh v)=.sh v:=rfl
def Fg(i:Nat)(v:Val)(e:E3):gA (some i) (.sh v) e=e:=rfl
def mY(ms:List Bool)(r:SR3):R3F:=match r with
 |.nx e=>(match muV ms e with |some mv=>.ok (.val .non) mv |none=>.stuck)
 |.rt r e=>(match muV ms e with |some mv=>.ok r mv |none=>.stuck)
 |.exc c e=>(match muV ms e with |some mv=>.exc c mv |none=>.stuck)
 |_=>.stuck
def xK{ms:List Bool}{N:Nat}{c:PSt}{vs:List Val}(h:vs.length=ms.length):(fnP ms N c).G vs=mY ms (c.G (sls ms vs++List.replicate (N-vs.length) .no)):=by
 rw[bS,if_pos h];rfl
def Jz{ms:List Bool}{N:Nat}{c:PSt}{vs:List Val}(h:vs.length=ms.length):(PFx.of ms N c).G vs=mY ms (c.G (sls ms vs++List.replicate (N-vs.length) .no)):=by
 rw[jx,if_pos h];rfl
def xW(ms:List Bool)(r:Rt)(e:E3):mY ms (.rt r e)=match muV ms e with |some mv=>.ok r mv |none=>.stuck:=rfl
def aW{Q:SR3->Prop}(I:E3->Prop){a b:PSt}{e:E3}(h1:∃e1,a.G e=.nx e1/\I e1)(h2:∀e1,I e1->Q (b.G e1)):Q ((aE a b).G e):=by
 obtain⟨e1,q,i⟩:=h1
 rw[C8,q]
 exact h2 e1 i
def iV(i:Int):Val.tup [.int i,.int 1]=fV (i:Rat):=rfl
def sm8{m:Int}(h:m.natAbs<1099511627776):Sm 8000 m:=Ot (show m.natAbs<2^40 from h) (Qe (by decide) (by decide))
def oG{m:Int}(h:m.natAbs<=2000000000000000000000000000000):Sm 101 m:=by unfold Sm;exact P0 h (by decide)
def ij{m:Int}(h:m.natAbs<=2000000000000000000000000000000):Sz 101 (m:Rat):=⟨oG h,oG (by show (1:Int).natAbs<=_;decide)⟩
def iX{a b:Int}(hb:b≠0)(h1:a.natAbs<=2000000000000000000000000000000)(h2:b.natAbs<=2000000000000000000000000000000):Sz 101 ((a:Rat)/(b:Rat)):=Sz.div hb (oG h1) (oG h2) 101 (Oe _) (Oe _)
def gH{m:Int}(h:0<m):(0:Rat)<(m:Rat):=Rat.intCast_pos.mpr h
def jd{a b:Int}(h1:0<a)(h2:0<b):(0:Rat)<(a:Rat)/(b:Rat):=by
 rw[Rat.div_def]
 exact Rat.mul_pos (gH h1) (Rat.inv_pos.mpr (gH h2))
structure Good(b:Bx):Prop where
 ok:b.Ok
 sz:b.Sz 101
def mF{m:Int}(h:m.natAbs<=2000000000000000000000000000000):Sm 8000 m:=(oG h).mono (by decide)
end L3
namespace L3
open PySem PySem.Spec PyProof.Rows L2
section
variable{K:W.Frag}{mg:Str->Option Value}{X:Cx}{ES:L2.St->XK}{e:Expr}{es:List Expr}{A:PAs}{pos:Pos}
end
end L3
namespace L3
open PySem PySem.Spec PyProof.Rows L2
section
variable{K:W.Frag}{mg:Str->Option Value}{X:Cx}{ES:L2.St->XK}{e a b c o lo hi:Expr}{p q r:PEx}{pos p1 p2:Pos}
end
theorem ar1{α:Type}{P:List α->Prop}(h:∀a,P [a]):∀us:List α,us.length=1->P us
 | [a],_=>h a
theorem ar2{α:Type}{P:List α->Prop}(h:∀a b,P [a,b]):∀us:List α,us.length=2->P us
 | [a,b],_=>h a b
theorem ar3{α:Type}{P:List α->Prop}(h:∀a b c,P [a,b,c]):∀us:List α,us.length=3->P us
 | [a,b,c],_=>h a b c
theorem ar4{α:Type}{P:List α->Prop}(h:∀a b c d,P [a,b,c,d]):∀us:List α,us.length=4->P us
 | [a,b,c,d],_=>h a b c d
end L3
namespace L3
open PySem PySem.Spec PyProof.Rows L2
section
variable{P:Nat->Prop}{h:AH}
def Kc{k:Key}{v:Val}{ws:List (Key×D)}{us:List (Key×Val)}(r:Rk P h ws us):lkD us k=some v->∃d,lkD ws k=some d/\Rd P h d v:=
 r.ind (M:=λws us=>lkD us k=some v->∃d,lkD ws k=some d/\Rd P h d v) (λq=>by cases q) (λ{k2 d v2 ds vs} r _ ih q=>by
  unfold lkD at q ih ⊢
  rw[OW] at q ⊢
  dsimp only at q ⊢
  by_cases hk:k2=k
  ·rw[OH hk] at q ⊢
   cases q
   exact⟨d,rfl,r⟩
  ·rw[OA hk] at q ⊢
   exact ih q)
def Fv{ws:List (Key×D)}{us:List (Key×Val)}(r:Rk P h ws us):us.map (·.1)=ws.map (·.1):=
 r.ind (M:=λws us=>us.map (·.1)=ws.map (·.1)) rfl λ_ _ ih=>by rw[Of,Of,ih]
def II{ws:List (Key×D)}{us:List (Key×Val)}(r:Rk P h ws us):ws.length=us.length:=
 r.ind (M:=λws us=>ws.length=us.length) rfl λ_ _ ih=>O3 (· + 1) ih
def He{ws ws':List (Key×D)}{us us':List (Key×Val)}(r:Rk P h ws us)(q:Rk P h ws' us'):Rk P h (ws++ws') (us++us'):=
 r.ind (M:=λws us=>Rk P h (ws++ws') (us++us')) q λr _ ih=>.cons r ih
def IG{k:Key}{d:D}{v:Val}(rd:Rd P h d v){ws:List (Key×D)}{us:List (Key×Val)}(r:Rk P h ws us):Rk P h (c7 ws k d) (c7 us k v):=by
 unfold c7
 rw[uX (Fv r)]
 by_cases hc:(ws.any λkv=>decide (kv.1=k))=true
 ·rw[if_pos hc,if_pos hc]
  exact r.ind (M:=λws us=>Rk P h (ws.map λkv=>if kv.1=k then (kv.1,d) else kv) (us.map λkv=>if kv.1=k then (kv.1,v) else kv)) .nil (λ{k2 d2 v2 ds vs} r _ ih=>by
   rw[Of,Of]
   dsimp only
   by_cases hk:k2=k
   ·rw[if_pos hk,if_pos hk];exact .cons rd ih
   ·rw[if_neg hk,if_neg hk];exact .cons r ih)
 ·rw[if_neg hc,if_neg hc]
  exact He r (.cons rd .nil)
end
def sD:Val->Val->Val->Option Val:=λo i v=>match o with
 |.dct kvs=>(match i with
  |.str k=>if kvs.length<16777216 then some (.dct (c7 kvs (.inr k) v)) else none
  |_=>none)
 |_=>none
section
variable{K:W.Frag}{mg:Str->Option Value}{X:Cx}{ES:L2.St->XK}{a b:Expr}{p q:PEx}{pos:Pos}
end
end L3
namespace L3
open PySem L2
theorem qG{g:MG3}{B:MS3}(P:Nat->E3->Prop)(m:Nat)(hs:∀i,i<m->∀e,P i e->∃e1 e2,g (.int (i:Nat)) e=some e1/\(B e1=.nx e2\/B e1=.ct e2)/\P (i+1) e2):∀(k i:Nat) (e:E3),i+k=m->P i e->∃e',P m e'/\eJ g B ((List.range' i k).map λj=>Val.int (j:Nat)) e=.nx e'
 |
  0,i,e,h,p=>by
  obtain rfl:i=m:=by omega
  exact⟨e,p,rfl⟩
 |
  k+1,i,e,h,p=>by
  obtain⟨e1,e2,q1,q2,q3⟩:=hs i (by omega) e p
  obtain⟨e',p',q4⟩:=qG P m hs k (i+1) e2 (by omega) q3
  refine⟨e',p',?_⟩
  rw[List.range'_succ,Of,dO,q1]
  rcases q2 with q2 |q2
  ·simp only[q2,l7];exact q4
  ·simp only[q2,CK];exact q4
def AN{g:MG3}{B:MS3}(P:Nat->E3->Prop)(m:Nat){e:E3}(h0:P 0 e)(hs:∀i,i<m->∀e,P i e->∃e1 e2,g (.int (i:Nat)) e=some e1/\(B e1=.nx e2\/B e1=.ct e2)/\P (i+1) e2):∃e',P m e'/\eJ g B (rgV m) e=.nx e':=by
 have:=qG P m hs m 0 e (by omega) h0
 rw[<- List.range_eq_range'] at this
 exact this
def FG(xs:List Val)(n:Nat):iB xs none (some (n:Int))=xs.take n:=by
 unfold iB
 rw[HT.sIx_none,HT.sIx_nat,List.drop_zero,Nat.sub_zero]
 by_cases h:n<=xs.length
 ·rw[QM h]
 ·rw[Nat.min_eq_right (by omega),Px (Oe _),Px (by omega)]
def uQ(xs:List Val)(n:Nat):iB xs (some (n:Int)) none=xs.drop n:=by
 unfold iB
 rw[HT.sIx_none,HT.sIx_nat]
 by_cases h:n<=xs.length
 ·rw[QM h,Px (by rw[Qc];exact Oe _)]
 ·rw[Nat.min_eq_right (by omega),List.drop_of_length_le (Oe _),List.drop_of_length_le (by omega),PX]
def ua(xs:List Val)(lo hi:Option Int):aSl (.lst xs) lo hi=.new (.lst (iB xs lo hi)):=rfl
end L3
namespace L3
open PySem PySem.Spec PyProof.Rows L2
section
variable{gs:MGs}{gs3:lH}
end
section
variable{e:E3}
end
section
variable{K:W.Frag}{mg:Str->Option Value}{X:Cx}{es:List Expr}{gs:PGs}{pos:Pos}
end
end L3
namespace L3
open PySem PySem.Spec PyProof.Rows L2
section
variable{K:W.Frag}{mg:Str->Option Value}{X:Cx}{ES:L2.St->XK}{a:Expr}{A:PAs}{pos q2 p1 p2:Pos}
end
end L3
namespace L3
open PySem PySem.Spec PyProof.Rows L2
section
variable{K:W.Frag}{mg:Str->Option Value}{n:Str}{kvs:List (Str×Int)}
end
end L3
namespace L3
open PySem L2
end L3
namespace L3
open PySem PySem.Spec PyProof.Rows L2
section
variable{K:W.Frag}{mg:Str->Option Value}
end
end L3
namespace L3
open PySem PySem.Spec PyProof.Rows L2
section
variable{X:Cx}{K:W.Frag}{mg:Str->Option Value}{ES:L2.St->XK}{e:Expr}{es:List Expr}{A:PAs}{pos:Pos}{x:PSt}
variable{P:Program}{w:World}{base:Heap}{fx:Str}{fst:Stmt}{k n m:Nat}{ps N:List Str}{ms:List Bool}
end
end L3
namespace L3
open PySem L2
end L3
namespace L3
open PySem PySem.Spec PyProof.Rows L2
def o8:Val->List Val->Option (Val×Val):=λu vs=>match u,vs with
 |.lst xs,[.int i,v]=>if 0<=i/\i<=(xs.length:Nat)/\xs.length<16777216 then some (.lst (xs.take i.toNat++v::xs.drop i.toNat),.non) else none
 |_,_=>none
def Ae:RM me o8:=λP h n o u ds vs u' v e hf r rs q=>by
 unfold o8 at q
 split at q
 ·split at q
  ·rename_i hb
   cases q
   obtain⟨q1,es,q2,q3,q4⟩:=mL e r
   cases rs with
   |
    cons r1 rs=>
    obtain⟨d,rfl,rd⟩:=xr rs
    obtain rfl:=ShR.int (.inl r1)
    refine⟨q1,.lst (es.take _++d::es.drop _),.non,?_,trivial,.lst ((q3.take _).append (.cons rd (q3.drop _))),.non⟩
    unfold me;rw[q4];dsimp only;rw[if_pos (by rw[q3.len];exact hb)]
  ·cases q
 ·cases q
def nr:PMm:=⟨me,o8,Ae⟩
def B4(xs:List Val)(i:Int)(v:Val):nr.G (.lst xs) [.int i,v]=if 0<=i/\i<=(xs.length:Nat)/\xs.length<16777216 then some (.lst (xs.take i.toNat++v::xs.drop i.toNat),.non) else none:=rfl
def y0{K:W.Frag}{mg:Str->Option Value}:MtD K mg pK nr.F:=yb
def oJ:List Val->Option (List (List Val))
 | []=>some []
 |.lst xs::vs=>(oJ vs).map (xs :: ·)
 |_::_=>none
theorem qM:∀(xss:List (List Val)),oJ (xss.map .lst)=some xss
 | []=>rfl
 |xs::xss=>by show (oJ (xss.map .lst)).map _=_;rw[qM xss];rfl
def AX{P:Nat->Prop}{h:AH}:∀{ds:List D}{vs:List Val}{xss:List (List Val)},Rds P h ds vs->oJ vs=some xss->∃yss,j9 h ds=some yss/\Rds P h yss.flatten xss.flatten/\yss.length=xss.length:=by
 intro ds
 induction ds with
 |nil=>intro vs xss r e;cases r;cases e;exact⟨[],rfl,.nil,rfl⟩
 |
  cons d ds ih=>
  intro vs xss r e
  cases r with
  |
   cons r rr=>
   rename_i v vs
   cases v with
   |
    lst xs=>
    obtain⟨yss,e1,e2⟩:=OE.mp e
    cases e2
    obtain⟨zss,g1,g2,g3⟩:=ih rr e1
    obtain⟨n,es,rfl,g4,_,g5⟩:=ShR.lst (.inl r)
    refine⟨es::zss,?_,g5.append g2,O3 (· + 1) g3⟩
    unfold j9
    rw[g4,g1]
   |_=>cases e
def oh:List Val->Bv:=λvs=>match vs with
 | [.lst us,.lst ys]=>match oJ us with
  |some xss=>if xss≠[]/\ys.length+xss.flatten.length<=16777216 then .new (.lst (ys++xss.flatten)) else .stuck
  |none=>.stuck
 |_=>.stuck
def E5:RFn oa oh:=λP h ds vs r=>by
 unfold oh
 split
 ·cases
   r with
  |
   cons r1 r=>
   obtain⟨d,hd,r2⟩:=gv r
   subst hd
   split
   ·rename_i xss q
    split
    ·rename_i hb
     obtain⟨n,es,rfl,g1,_,g2⟩:=ShR.lst r1
     obtain⟨m,fs,rfl,g3,_,g4⟩:=ShR.lst r2
     obtain⟨yss,g5,g6,g7⟩:=AX g2 q
     refine⟨.lst (fs++yss.flatten),?_,trivial,.lst (g4.append g6)⟩
     unfold oa
     dsimp only
     rw[g1,g3]
     dsimp only
     rw[g5]
     dsimp only
     rw[if_pos ⟨λz=>hb.1 (by rw[z] at g7;exact Pk.mp g7.symm),by rw[g4.len,g6.len];exact hb.2⟩]
    ·trivial
   ·trivial
 ·trivial
def uD:PBf:=⟨oa,oh,E5⟩
def Gj(xss:List (List Val))(ys:List Val):uD.G [.lst (xss.map .lst),.lst ys]=if xss≠[]/\ys.length+xss.flatten.length<=16777216 then .new (.lst (ys++xss.flatten)) else .stuck:=by
 show oh [.lst (xss.map .lst),.lst ys]=_
 unfold oh
 dsimp only
 rw[qM]
def Dr{K:W.Frag}{mg:Str->Option Value}:bG K mg wu uD.F:=EB
end L3
namespace L3
open PySem PySem.Spec PyProof.Rows L2
def Xd(X:Nat->Prop)(b k:Nat):Nat->Prop:=λn=>X n\/(b<=n/\n<b+k)
section
variable{X:Nat->Prop}{h0:Nat}{ns ns1:Ns}{e e1:E3}{ae:AE}{h h1:AH}
def Sat.growL(S:Sat X h0 ns e ae h)(os:List Ob):Sat (Xd X h.length os.length) h0 ns e ae (h++os):=by
 have mv:Mov (Oc X ns) (Oc (Xd X h.length os.length) ns) h (h++os):=λn o' p q=>⟨⟨λz=>by
  rcases z with z |z
  ·exact p.1 z
  ·have:=cz q;omega,p.2⟩,fU q⟩
 refine⟨S.l1,S.l2,by rw[Oa];have:=S.lh;omega,λn z=>?_,S.inj,λi n q z=>?_,λi s q=>(S.sl i s q).mono mv λj o' _ q'=>fU q'⟩
 ·rw[Oa]
  rcases z with z |z
  ·have:=S.xl n z;omega
  ·exact z.2
 ·rcases z with z |z
  ·exact S.nx i n q z
  ·obtain⟨_,_,_,_,_,_,_,q',_⟩:=S.own q
   have:=cz q';omega
def Stp.growL(os:List Ob):Stp ns e h ns e (h++os):=⟨by rw[Oa];omega,λ_ _ q _=>fU q,λ_ _ q=>.inl q,λ_ _ q _=>⟨q,rfl⟩,λ_ _ q _=>⟨q,rfl⟩,λ_ _ q=>⟨_,q,rfl⟩,λ_ _ q=>⟨_,q,rfl⟩⟩
def Stp.wr{c:Nat}{o:Ob}(a:Stp ns e h ns1 e1 h1)(hc:h.length<=c):Stp ns e h ns1 e1 (h1.set c o):=
 ⟨by rw[Oq];exact a.len,λm o' q z=>by rw[bP (by have:=cz q;omega)];exact a.keep m o' q z,a.nw,a.lk,a.lk',a.mu,a.mu'⟩
def yE{c:Nat}{o:Ob}(hc:X c):Mov (Oc X ns) (Oc X ns) h (h.set c o):=λn o' p q=>⟨p,by rw[bP (show n≠c from λz=>p.1 (by rw[z];exact hc))];exact q⟩
def Sat.wr{c:Nat}{o:Ob}(S:Sat X h0 ns e ae h)(hc:X c):Sat X h0 ns e ae (h.set c o):=by
 refine⟨S.l1,S.l2,by rw[Oq];exact S.lh,λn z=>by rw[Oq];exact S.xl n z,S.inj,S.nx,λi s q=>?_⟩
 exact (S.sl i s q).mono (yE hc) λj o' z q'=>by rw[bP (λy=>S.nx i c (by rw[<- y];exact z) hc)];exact q'
end
def gn(j t:Nat)(q:ME3):List Val->List (List Val)->MS3
 | [],xss,e=>match e[j]? with
  |some .no=>.nx (e.set j (.sh (.lst (xss.map .lst))))
  |_=>.stuck
 |v::vs,xss,e=>match pN t v e with
  |none=>.stuck
  |some e1=>match q e1 with
   |.ok tm e2=>match rs e2 tm,e2[j]?,e2[t]? with
    |some (.int i),some .no,some (.sh u)=>match xss[i.toNat]? with
     |some xs=>if 0<=i/\xs.length<16777216 then gn j t q vs (xss.set i.toNat (xs++[u])) e2 else .stuck
     |none=>.stuck
    |_,_,_=>.stuck
   |_=>.stuck
def rfs(b k:Nat):List D:=(List.range' b k).map D.ref
def GY{b k i:Nat}(hi:i<k):(rfs b k)[i]?=some (.ref (b+i)):=by
 unfold rfs
 rw[OD,List.getElem?_range' hi]
 simp
structure Dl(X:Nat->Prop)(b k j:Nat)(ns:Ns)(ae:AE)(h:AH)(xss:List (List Val)):Prop where
 aj:ae[j]?=some (some (.ref (b+k)))
 hm:h[b+k]?=some (.lst (rfs b k))
 len:xss.length=k
 cs:∀(i:Nat) (xs:List Val),xss[i]?=some xs->∃ds,h[b+i]?=some (.lst ds)/\Rds (Oc (Xd X b (k+1)) ns) h ds xs
def Dl.step{X:Nat->Prop}{b k j h0:Nat}{ns ns1:Ns}{e e1:E3}{ae ae1:AE}{h h1:AH}{xss:List (List Val)}(d:Dl X b k j ns ae h xss)(S:Sat (Xd X b (k+1)) h0 ns e ae h)(a:Stp ns e h ns1 e1 h1)(ha:ae1[j]?=ae[j]?):Dl X b k j ns1 ae1 h1 xss:=by
 have kp:∀(m:Nat) (o:Ob),b<=m->m<b+(k+1)->h[m]?=some o->h1[m]?=some o:=λm o z1 z2 q=>a.keep m o q λ⟨i,s,y,_⟩=>S.nx i m y (.inr ⟨z1,z2⟩)
 refine⟨ha.trans d.aj,kp _ _ (by omega) (by omega) d.hm,d.len,λi xs q=>?_⟩
 obtain⟨ds,q1,q2⟩:=d.cs i xs q
 have hi:=(N_.mp q).1
 rw[d.len] at hi
 exact⟨ds,kp _ _ (by omega) (by omega) q1,q2.mono (a.mov S)⟩
open Classical in
def Bt{X:Nat->Prop}{h0:Nat}{ns0:Ns}{e0:E3}{ae0:AE}{hh:AH}(S0:Sat X h0 ns0 e0 ae0 hh){b k j t:Nat}(hb:hh.length<=b)(hX:∀n,X n->n<b)(hjt:j≠t){q:PEx}{ns:Ns}{h:AH}{G:AH->Prop}(hG:∀h',(∀m o,Oc (Xd X b (k+1)) ns m->h[m]?=some o->h'[m]?=some o)->G h'):
 ∀{ds:List D}{vs:List Val},Rds (Oc (Xd X b (k+1)) ns) h ds vs->∀{ns1:Ns}{e1:E3}{ae1:AE}{h1:AH}{xss:List (List Val)},Mov (Oc (Xd X b (k+1)) ns) (Oc (Xd X b (k+1)) ns1) h h1->Stp ns0 e0 hh ns1 e1 h1->Sat (Xd X b (k+1)) h0 ns1 e1 ae1 h1->Dl X b k j ns1 ae1 h1 xss->e1[j]?=some .no->
 PoS X h0 ns0 e0 hh (gQ G (gN t) (iK (eM dW (eOp gIx (aU j) q.F) (bz (aU t) cK))) ds ae1 h1) (gn j t q.G vs xss e1):=by
 intro ds
 induction ds with
 |
  nil=>
  intro vs r ns1 e1 ae1 h1 xss M A S1 D hj
  cases r
  unfold gQ gn
  rw[if_pos (hG _ λm o p q=>(M m o p q).2),hj]
  dsimp only
  have hi:=(N_.mp hj).1
  have oc:∀n,b<=n->n<b+(k+1)->Oc X (ns1.set j none) n:=λn z1 z2=>⟨λz=>by have:=hX n z;omega,λz=>by
   rcases OY z with z |z
   ·obtain⟨i,z⟩:=bB.mp z
    exact S1.nx i n z (.inr ⟨z1,z2⟩)
   ·cases z⟩
  have mv:Mov (Oc (Xd X b (k+1)) ns1) (Oc X (ns1.set j none)) h1 h1:=λn o p q=>⟨fi ⟨λz=>p.1 (.inl z),p.2⟩,q⟩
  have rows:Rds (Oc X (ns1.set j none)) h1 (rfs b k) (xss.map .lst):=by
   have aux:∀(l:List (List Val)) (i:Nat),xss.drop i=l->Rds (Oc X (ns1.set j none)) h1 (rfs (b+i) l.length) (l.map .lst):=by
    intro l
    induction l with
    |nil=>intro i _;exact .nil
    |
     cons x l ih=>
     intro i hd
     have hx:xss[i]?=some x:=by
      have:=O3 (λq=>q[0]?) hd
      simpa using this
     have hil:=(N_.mp hx).1
     rw[D.len] at hil
     obtain⟨ds,q1,q2⟩:=D.cs i x hx
     have:=ih (i+1) (by rw[<- List.tail_drop,hd];rfl)
     exact .cons (.cell (oc _ (by omega) (by omega)) q1 (.lst (q2.mono mv))) this
   have:=aux xss 0 rfl
   rw[D.len] at this
   exact this
  have Sw:=S1.weak (X:=X) λn z=>.inl z
  refine .nx (A.put (x:=none) hi (λ_ z=>by cases z) hj rfl rfl S1.l2) (Sw.putN' hi ⟨rfl,_,D.aj,.cell (oc _ (by omega) (by omega)) D.hm (.lst rows)⟩)
 |
  cons d0 ds ih=>
  intro vs r ns1 e1 ae1 h1 xss M A S1 D hj
  cases r with
  |
   cons r rr=>
   unfold gQ gn
   rw[if_pos (hG _ λm o p q=>(M m o p q).2)]
   split
   ·trivial
   ·rename_i e2
     q2
    obtain⟨ae2,ge,p2,S2,a2⟩:=uV t _ _ _ _ _ _ _ _ _ S1 (r.mono M) q2
    have hae:ae2=ae1.set t (some d0):=by cases p2;rfl
    have D2:=D.step S1 a2 (ae1:=ae2) (by rw[hae,bP hjt])
    have A2:=A.trans S0 a2
    have M2:Mov (Oc (Xd X b (k+1)) ns) (Oc (Xd X b (k+1)) ge) h h1:=λn o p q=>by
     have:=M n o p q
     exact a2.mov S1 n o this.1 this.2
    rw[p2]
    have pq:=q.ok (Xd X b (k+1)) h0 0 ge e2 ae2 h1 S2 (OK _)
    show PoS X h0 ns0 e0 hh ((iK (eM dW (eOp gIx (aU j) q.F) (bz (aU t) cK)) ae2 h1).loop _) _
    split
    ·rename_i tm e3 q3
     rw[q3] at pq
     obtain⟨dq,h3,ns3,y1,a3,S3,y4⟩:=pq
     split
     ·rename_i i u z1 z2 z3
      split
      ·rename_i xs z4
       split
       ·rename_i hb'
        have D3:=D2.step S2 a3 (ae1:=ae2) rfl
        have A3:=A2.trans S0 a3
        obtain rfl:=(y4.sh S3 z1).int
        have hil:=(N_.mp z4).1
        rw[D.len] at hil
        obtain⟨dsi,w1,w2⟩:=D3.cs _ xs z4
        obtain⟨_,du,w3,w4⟩:=S3.sl t _ z3
        have ix:atI (rfs b k) i=some (.ref (b+i.toNat)):=by
         unfold atI
         rw[show (rfs b k).length=k from by unfold rfs;rw[N8,List.length_range'],oq hb'.1 (by omega)]
         exact GY hil
        have f1:eOp gIx (aU j) q.F ae2 h1=.ok (.ref (b+i.toNat)) h3:=by
         unfold eOp aU
         rw[D2.aj]
         show (q.F ae2 h1).bind _=_
         rw[y1]
         show gIx (.ref (b+k)) (.int i) h3=_
         unfold gIx dG bD
         dsimp only
         rw[D3.hm]
         dsimp only
         rw[ix]
        have f2:iK (eM dW (eOp gIx (aU j) q.F) (bz (aU t) cK)) ae2 h1=.nx ae2 (h3.set (b+i.toNat) (.lst (dsi++[du]))):=by
         unfold iK eM
         rw[f1]
         show R.toS (if kM h3 (.ref (b+i.toNat))=true then _ else _) _ _=_
         rw[if_pos (by show (bD h3 (b+i.toNat)).isSome=true;unfold bD;rw[w1];rfl)]
         unfold bz aU cK
         rw[w3]
         show R.toS (dW (.ref (b+i.toNat)) [du] h3) _ _=_
         unfold dW hZ
         dsimp only
         rw[w1]
         dsimp only
         rw[if_pos (by rw[w2.len];exact hb'.2)]
         rfl
        rw[f2]
        have xc:Xd X b (k+1) (b+i.toNat):=.inr ⟨by omega,by omega⟩
        have mw:=yE (ns:=ns3) (h:=h3) (o:=.lst (dsi++[du])) xc
        have bnd:b+i.toNat<h3.length:=cz w1
        refine ih rr (λn o p q=>?_) (A3.wr (by omega)) (S3.wr xc) ⟨D3.aj,?_,by rw[Oq];exact D3.len,λi' xs' qx=>?_⟩ z2
        ·have m2:=M2 n o p q
         have m3:=a3.mov S2 n o m2.1 m2.2
         exact mw n o m3.1 m3.2
        ·rw[bP (by omega)]
         exact D3.hm
        ·rcases bY (by rw[D3.len];exact hil) qx with ⟨rfl,rfl⟩ |⟨z,qx⟩
         ·exact⟨_,ck bnd,((w2.append (.cons w4 .nil)).mono mw)⟩
         ·obtain⟨dsj,v1,v2⟩:=D3.cs i' xs' qx
          exact⟨dsj,by rw[bP (by omega)];exact v1,v2.mono mw⟩
       ·trivial
      ·trivial
     ·trivial
    ·trivial
theorem sH{G:AH->Prop}:∀(ds acc:List D) (x:Option D) (h:AH),acc.length+ds.length<=16777216->(∀g,G (h++g))->lcL G (gN 0) tY (eFn cH (bz (aU 0) cK)) ds acc [x] h=.ok (acc++rfs h.length ds.length) (h++ds.map λd=>Ob.lst [d])
 |
  [],acc,x,h,_,hG=>by
  unfold lcL
  rw[if_pos (by have:=hG [];rwa [OR] at this)]
  simp [rfs]
 |
  d::ds,acc,x,h,hl,hG=>by
  rw[Oo] at hl
  have ih:=sH ds (acc++[.ref h.length]) (some d) (h++[.lst [d]]) (by rw[Oa];show acc.length+1+_<=_;omega) (λg=>by rw[O1];exact hG _)
  unfold lcL
  rw[if_pos ⟨by have:=hG [];rwa [OR] at this,by omega⟩]
  show lcL G (gN 0) tY (eFn cH (bz (aU 0) cK)) ds (acc++[.ref h.length]) [some d] (h++[.lst [d]])=_
  rw[ih]
  congr 1
  ·rw[O1,Oa]
   simp [rfs,List.range'_succ]
  ·simp
def mf(I1 I2:MI)(j t:Nat)(q:ME):MS:=ja (iH (eLC I1 [none] (gN 0) tY (eFn cH (bz (aU 0) cK))) (gN j)) (ph I2 (gN t) (iK (eM dW (eOp gIx (aU j) q) (bz (aU t) cK))))
def C5(I1 I2:MI3)(j t:Nat)(q:ME3):MS3:=λe=>(I1 e).toS λp e1=>match p.2,e1[j]? with
 |
  none,some s=>if s.pl=true/\p.1.length<16777216 then (I2 (e1.set j .no)).toS λp2 e2=>match p2.2,e2[j]? with
   |none,some .no=>gn j t q p2.1 (p.1.map λv=>[v]) e2
   |_,_=>.stuck
  else .stuck
 |_,_=>.stuck
def Eh{I1 I2:PIt}{j t:Nat}{q:PEx}(hjt:j≠t):RS (mf I1.F I2.F j t q.F) (C5 I1.G I2.G j t q.G):=λX h0 ns e ae h S=>by
 have hs:mf I1.F I2.F j t q.F ae h=(I1.F ae h).toS ae λit h1=>(((noX (lcL it.guard (gN 0) tY (eFn cH (bz (aU 0) cK)) it.items [] [none] h1)).bind cH).toS ae λd h2=>.nx (ae.set j (some d)) h2).then (ph I2.F (gN t) (iK (eM dW (eOp gIx (aU j) q.F) (bz (aU t) cK)))):=by
  unfold mf ja iH eLC
  cases I1.F ae h <;> rfl
 rw[hs]
 refine PoS.toS (I1.ok X h0 ns e ae h S) λit p h1 ns1 e1 a1 S1 r1=>?_
 obtain⟨vs,lk⟩:=p
 obtain⟨r2,gd,hk⟩:=r1
 cases lk with
 |some _=>trivial
 |none=>
 cases z2:e1[j]? with
 |none=>trivial
 |
  some s=>
  dsimp only
  split
  ·rename_i hp
   dsimp only at r2 gd hp
   have ln:=r2.len
   have g1:∀g,it.guard (h1++g):=λg=>gd _ λm o q _=>fU q
   rw[sH it.items [] none h1 (by rw[OC];omega) g1,OQ]
   have hk1:(rfs h1.length it.items.length).length<=16777216:=by unfold rfs;rw[N8,List.length_range'];omega
   show PoS X h0 ns e h (SR.then (R.toS (cH (rfs h1.length it.items.length) _) ae _) _) _
   unfold cH
   rw[if_pos hk1]
   show PoS X h0 ns e h (ph I2.F (gN t) _ (ae.set j (some (.ref (h1++it.items.map λd=>Ob.lst [d]).length))) (h1++(it.items.map λd=>Ob.lst [d])++[Ob.lst (rfs h1.length it.items.length)])) _
   have be:(h1++it.items.map λd=>Ob.lst [d]).length=h1.length+it.items.length:=by rw[Oa,N8]
   rw[be,O1]
   have hol:((it.items.map λd=>Ob.lst [d])++[Ob.lst (rfs h1.length it.items.length)]).length=it.items.length+1:=by rw[Oa,N8];rfl
   have S2:=S1.growL ((it.items.map λd=>Ob.lst [d])++[Ob.lst (rfs h1.length it.items.length)])
   rw[hol] at S2
   have A2:Stp ns1 e1 h1 ns1 e1 (h1++((it.items.map λd=>Ob.lst [d])++[Ob.lst (rfs h1.length it.items.length)])):=.growL _
   have hj:=(N_.mp z2).1
   have S3:=S2.putN hj (s:=.no) (d:=some (.ref (h1.length+it.items.length))) rfl
   have A3:=A2.put (x:=none) (s:=.no) hj (λ_ z=>by cases z) z2 hp.1 rfl S1.l2
   have A3':Stp ns e h _ _ _:=a1.trans S A3
   have cellAt:∀(i:Nat) (d:D),it.items[i]?=some d->(h1++((it.items.map λd=>Ob.lst [d])++[Ob.lst (rfs h1.length it.items.length)]))[h1.length+i]?=some (.lst [d]):=λi d qd=>by
    have:=(N_.mp qd).1
    rw[OB (by omega),OF (by rw[N8];omega),Nat.add_sub_cancel_left,OD,qd]
    rfl
   have hmAt:(h1++((it.items.map λd=>Ob.lst [d])++[Ob.lst (rfs h1.length it.items.length)]))[h1.length+it.items.length]?=some (.lst (rfs h1.length it.items.length)):=by
    rw[OB (by omega),OB (by rw[N8];omega),N8,Nat.add_sub_cancel_left,Py]
    rfl
   generalize h1++((it.items.map λd=>Ob.lst [d])++[Ob.lst (rfs h1.length it.items.length)])=h2 at *
   have mv:Mov (Oc X ns1) (Oc (Xd X h1.length (it.items.length+1)) (ns1.set j none)) h1 h2:=λn o p qn=>by
    have:=cz qn
    exact⟨fi ⟨λz=>by rcases z with z |z;exact p.1 z;omega,p.2⟩,A2.keep n o qn λ⟨i,s,y,_⟩=>p.2 (bB.mpr ⟨i,y⟩)⟩
   have D3:Dl X h1.length it.items.length j (ns1.set j none) (ae.set j (some (.ref (h1.length+it.items.length)))) h2 (vs.map λv=>[v]):=by
    refine⟨ck (by rw[S1.l1];exact hj),hmAt,by rw[N8,ln],λi xs qx=>?_⟩
    rw[OD] at qx
    obtain⟨v,qv,rfl⟩:=OE.mp qx
    obtain⟨d,qd,rd⟩:=r2.get qv
    exact⟨[d],cellAt i d qd,.cons (rd.mono mv) .nil⟩
   show PoS X h0 ns e h ((I2.F _ h2).toS _ _) _
   have p2:=I2.ok _ h0 _ _ _ h2 S3
   cases q2:I2.G (e1.set j .no) with
   |stuck=>trivial
   |
    exc c e2=>
    rw[q2] at p2
    obtain⟨h3,ns3,y1,a3,S4⟩:=p2
    rw[y1]
    exact⟨_,h3,ns3,rfl,A3'.trans S a3,S4.weak λn z=>.inl z⟩
   |
    ok p2' e2=>
    rw[q2] at p2
    obtain⟨it2,h3,ns3,y1,a3,S4,r3,gd3,hk3⟩:=p2
    obtain⟨vs2,lk2⟩:=p2'
    rw[y1]
    cases lk2 with
    |some _=>trivial
    |none=>
    cases y3:e2[j]? with
    |none=>simp only[R3.toS,y3];trivial
    |
     some s3=>
     by_cases hs3:s3=.no
     case neg=>(simp only[R3.toS,y3];cases s3 <;> first |exact absurd rfl hs3 |trivial)
     subst hs3
     simp only[R3.toS,y3]
     show PoS X h0 ns e h (gQ it2.guard (gN t) _ it2.items _ h3) _
     have D4:=D3.step S3 a3 (ae1:=ae.set j (some (.ref (h1.length+it.items.length)))) rfl
     exact Bt S (Oy a1.len (Oe _)) (λn z=>S1.xl n z) hjt (λh' hh'=>gd3 h' λm o qm z=>by
      rcases z with z |⟨_,z,_⟩
      ·exact hh' m o z qm
      ·cases z) r3 (λn o p q=>⟨p,q⟩) (A3'.trans S a3) S4 D4 y3
  ·trivial
def x6(I1 I2:PIt)(j t:Nat)(q:PEx)(hjt:j≠t):PSt:=⟨mf I1.F I2.F j t q.F,C5 I1.G I2.G j t q.G,Eh hjt⟩
def yt(a b c:MS):ja (ja a b) c=ja a (ja b c):=by
 funext ae h
 unfold ja
 cases a ae h <;> rfl
section
variable{K:W.Frag}{mg:Str->Option Value}{X:Cx}{ES:L2.St->XK}{re qe am:Expr}{st1:Stmt}{sts:List Stmt}{q:PEx}{y:PSt}{g:PGt}{I1 I2:PIt}{pos p2 p3 p4 p5:Pos}{x:Str}{j t:Nat}{hjt:j≠t}{ow:Bool}{tg oe:Expr}{hsb:(([none]:List (Option Nat)).filterMap id).Nodup}
def Bz(h1:DS K mg X ES st1 (aN ow j (pLC I1 [none] hsb (gtN 0) qY (dF (ag (ah 0) ao)))).F)(hp:PassesOwn (model X.prog X.w) X.A X.env X.xe)(hc:X.calm=true)(hK:X.K=K)(hi:DI K mg X ES tg am I2.F)(hg:DG K mg X ES tg (gtN t).F)(hx:DE K mg X ES oe (ah j).F)(hq:DE K mg X ES qe q.F)(hr:DE K mg X ES re (ah t).F)(hy:DSs K mg X ES sts y.F)
 (hpx:mI qe:=by exact λ_ _=>rfl) (hs:∀x,foldedSetIterable am X.env x=pure x:=by intro _;rfl)
 (hsw:swapsWith (.Call (.Attribute (.Subscript oe qe p2) "append" p3) [re] [] p4) none p5.line X.env=pure false:=by rfl)
 (db:attributeBase (.Subscript oe qe p2) "append" X.env (eval (.Subscript oe qe p2) X.env)=eval (.Subscript oe qe p2) X.env:=by rfl)
 (hfew:((backTo p4 (starEach [re] X.env)).all (λx=>!x.1)&&(backToKw p4 (keywordEach [] X.env)).all (λx=>x.1.isSome)
  && decide ([re].length+([]:List Keyword).length+(if ([]:List Keyword).isEmpty then 0 else 1)<30))=true:=by rfl)
 (dL:(p3.endLine==p4.line)=true:=by rfl) (hs1:starEach [re] X.env=[(false,eval re X.env)]:=by rfl) (bi:(backTo p4 (starEach ([]:List Expr) X.env)).any (·.1)=false:=by rfl) (hs0:starEach ([]:List Expr) X.env=[]:=by rfl):
 DSs K mg X ES (st1 :: .For tg am [.Expr (.Call (.Attribute (.Subscript oe qe p2) "append" p3) [re] [] p4) p5] [] pos::sts) (aE (x6 I1 I2 j t q hjt) y).F:=by
 have sh:starEach (re::[]) X.env=(false,eval re X.env)::starEach [] X.env:=by rw[hs0];exact hs1
 show DSs K mg X ES _ (ja (mf I1.F I2.F j t q.F) y.F)
 unfold mf
 rw[yt]
 with_unfolding_all exact ng h1 (ng (zd hp hc hi hg (vX (vy (de_m hK PySem.F.slot_list_append PySem.F.type_list_append fS qI (CD (ixK (K:=K) hK) aJ hx hq hpx) (vz hr zZ sh) db hfew dL sh bi) hsw)) hs) hy)
end
end L3
namespace L3
open PySem PySem.Spec PyProof.Rows L2
section
variable{K:W.Frag}{mg:Str->Option Value}
end
end L3
namespace L3
open PySem PySem.Spec PyProof.Rows L2
def C9:ME3:=λe=>.ok (.new (.set [])) e
def EL:RE wA C9:=λX h0 L ns e ae h S hl=>BvR.po (r:=.ok (.ref h.length) (h++[Ob.set []])) (b:=.new (.set [])) S hl ⟨.set [],rfl,trivial,.set []⟩
def x4:PEx:=⟨wA,C9,EL⟩
def IF(e:E3):x4.G e=.ok (.new (.set [])) e:=rfl
def BC:Val->Val->Bv:=λx y=>match x,y with
 |.int i,.set xs=>.val (.bl (decide (i∈xs)))
 |_,_=>.stuck
def Jl:RO tW BC:=λP h d1 d2 v1 v2 r1 r2=>by
 unfold BC
 split
 ·rename_i i xs
  rw[r1.int]
  obtain⟨n,rfl,e⟩:=r2.set
  exact⟨_,by unfold tW;dsimp only;rw[e],.bl _⟩
 ·trivial
def Cy:PO2:=⟨tW,BC,Jl⟩
def Ki(i:Int)(xs:List Int):Cy.G (.int i) (.set xs)=.val (.bl (decide (i∈xs))):=rfl
def xj:List Val->Bv:=λvs=>match vs with
 | [.set xs]=>.val (.int (xs.length:Nat))
 |_=>.stuck
def Dh:RFn nR xj:=λP h ds vs r=>by
 unfold xj
 split
 ·obtain⟨d,hd,r1⟩:=gv r
  subst hd
  obtain⟨n,rfl,e⟩:=r1.set
  exact⟨_,by unfold nR;dsimp only;rw[e],.int _⟩
 ·trivial
def uU:PBf:=⟨nR,xj,Dh⟩
def Gq(xs:List Int):uU.G [.set xs]=.val (.int (xs.length:Nat)):=rfl
def Cg:Val->Option (List Int)
 |.set xs=>some xs
 |_=>none
def tT(i:Nat)(A:MA3):ME3:=λe=>match e[i]? with
 |some s=>match s.mv.bind Cg with
  |some _=>(A e).bind λts e1=>match dem e1 ts with
   |some (e2,[.int k])=>match e2[i]? with
    |some s2=>match s2.mv.bind Cg with
     |some xs=>if xs.length<4000 then .ok (.val .non) (e2.set i (s2.re (.set (fO xs k)))) else .stuck
     |none=>.stuck
    |none=>.stuck
   |_=>.stuck
  |none=>.stuck
 |none=>.stuck
def Hb{A:MA}{A3:MA3}(i:Nat)(hA:RA A A3):RE (eMS (aU i) A) (tT i A3):=λX h0 L ns e ae h S hl=>by
 unfold tT
 cases q0:e[i]? with
 |none=>trivial
 |
  some s0=>
  dsimp only
  split
  ·rename_i xs0 hz
   obtain⟨u0,z1,z2⟩:=OO.mp hz
   obtain⟨n0,o0,b1,b2,b3,b4,_⟩:=S.write q0 z1
   have hL:wj h (.ref n0)=true:=by
    cases u0 with
    |set ys=>cases b4;show (match h[n0]? with |some (.set _)=>true |_=>false)=true;rw[b2]
    |_=>cases z2
   have L2e:eMS (aU i) A ae h=(A ae h).bind λds h2=>sg (.ref n0) ds h2:=by
    unfold eMS aU
    rw[b1]
    simp only[gF,hL,Pw]
   rw[L2e]
   refine Po.bind S (hA X h0 ns e ae h S) λds ts h1 ns1 e1 a1 S1 r1=>?_
   split
   ·rename_i e2 k q1
    obtain⟨ge,S2,a2,r2⟩:=kd S1 r1 q1
    cases q2:e2[i]? with
    |none=>trivial
    |
     some s2=>
     dsimp only
     split
     ·rename_i xs q3
      split
      ·rename_i be
       obtain⟨u,y1,y2⟩:=OO.mp q3
       obtain⟨n,o,k1,k2,k3,k4,k5⟩:=S2.write q2 y1
       rw[b1] at k1;cases k1
       cases u with
       |
        set ys=>
        cases y2
        cases k4
        obtain⟨d,rfl,rd⟩:=xr r2
        obtain rfl:=ShR.int (.inl rd)
        obtain⟨mv,S4,a4⟩:=k5 (.set (fO xs k)) (.set (fO xs k)) trivial (.set _)
        refine⟨.non,_,ge,?_,a2.trans S1 a4,S4,.non⟩
        unfold sg
        dsimp only
        rw[k2]
        dsimp only
        rw[if_pos be]
       |_=>cases y2
      ·trivial
     ·trivial
   ·trivial
  ·trivial
def By(i:Nat)(a:PAs):PEx:=⟨eMS (aU i) a.F,tT i a.G,Hb i a.ok⟩
def Hv(e:E3)(i:Nat)(a:PAs):(By i a).G e=tT i a.G e:=rfl
def uA:Val->Val->Bv:=λx y=>match x with
 |.dct kvs=>(match y with
  |.int k=>(match lkD kvs (.inl k) with
   |some v=>.val v
   |none=>.stuck)
  |_=>.stuck)
 |_=>.stuck
def Ig:RO uS uA:=λP h d1 d2 v1 v2 r1 r2=>by
 unfold uA
 split
 ·split
  ·split
   ·rename_i kvs k _ v q
    obtain⟨n,ws,rfl,e,rk⟩:=r1.dct
    obtain rfl:=r2.int
    obtain⟨d,q1,rd⟩:=Kc rk q
    refine⟨d,?_,rd⟩
    unfold uS
    dsimp only
    rw[e]
    dsimp only
    rw[q1]
   ·trivial
  ·trivial
 ·trivial
def qa:PO2:=⟨uS,uA,Ig⟩
def C4{kvs:List (Key×Val)}{k:Int}{v:Val}(h:lkD kvs (.inl k)=some v):qa.G (.dct kvs) (.int k)=.val v:=by
 show uA (.dct kvs) (.int k)=_
 unfold uA
 dsimp only
 rw[h]
def sDI:Val->Val->Val->Option Val:=λo i v=>match o with
 |.dct kvs=>(match i with
  |.int k=>if kvs.length<16777216 then some (.dct (c7 kvs (.inl k) v)) else none
  |_=>none)
 |_=>none
def ET:xk wDI sDI:=λP h n o u di vi d v u' np e hf r ri rd q=>by
 unfold sDI at q
 split at q
 ·rename_i kvs
  split at q
  ·rename_i k
   split at q
   ·rename_i hl
    cases q
    obtain rfl:=ri.int
    cases r with
    |
     dct rk=>
     rename_i ws
     refine⟨.dct (c7 ws (.inl k) d),?_,trivial,.dct (IG rd rk)⟩
     unfold wDI
     dsimp only
     rw[e]
     dsimp only
     rw[if_pos (by rw[II rk];exact hl)]
   ·cases q
  ·cases q
 ·cases q
def seI:PSe:=⟨wDI,sDI,ET⟩
def Ad(kvs:List (Key×Val))(k:Int)(v:Val):seI.G (.dct kvs) (.int k) v=if kvs.length<16777216 then some (.dct (c7 kvs (.inl k) v)) else none:=rfl
def nF:Val->List Val->Option (Val×Val):=λu vs=>match u,vs with
 |.lst xs,[.tup ys]=>if xs.length+ys.length<=16777216 then some (.lst (xs++ys),.non) else none
 |_,_=>none
def wK:RM lb nF:=λP h n o u ds vs u' v e hf r rs q=>by
 unfold nF at q
 split at q
 ·split at q
  ·rename_i hl
   cases q
   obtain⟨q1,es,q2,q3,q4⟩:=mL e r
   obtain⟨d,rfl,rd⟩:=xr rs
   obtain⟨ys',rfl,rr⟩:=ShR.tup (.inl rd)
   refine⟨q1,.lst (es++ys'),.non,?_,trivial,.lst (q3.append rr),.non⟩
   unfold lb;rw[q4];dsimp only;rw[if_pos (by rw[q3.len,rr.len];exact hl)]
  ·cases q
 ·cases q
def jy:PMm:=⟨lb,nF,wK⟩
def qQ(xs ys:List Val):jy.G (.lst xs) [.tup ys]=if xs.length+ys.length<=16777216 then some (.lst (xs++ys),.non) else none:=rfl
section
variable{K:W.Frag}{mg:Str->Option Value}{X:Cx}{ES:L2.St->XK}{e o a b:Expr}{es:List Expr}{p q:PEx}{A:PAs}{pos:Pos}
def oV:MtD K mg (nN K) jy.F:=wG
def GU:OpD K mg sP Cy.F:=E4
def Eu:bG K mg (λxs H Q=>∃a S n,xs=[.ref a]/\H a=some (.set S n)/\Q (.int (n:Nat)) H) uU.F:=Eo
def sY:pM K mg wm seI.F:=Cq
def DJ{x:Str}{p0:Pos}(hg:Gl X x)(hm:mg x=none)(hv:bootBuiltins x=some (.type "set"))(hk:X.mg=mg:=by rfl)(hn:x ≠ "__name__":=by decide)(hdb:(x==("__debug__" : Str))=false:=by decide):DE K mg X ES (.Call (.Name x p0) [] [] pos) x4.F:=by with_unfolding_all exact E9 hg hm hv hk hn hdb
def Hx{j:Nat}{apos cpos:Pos}(hK:X.K=K)(ho:DE K mg X ES o (ah j).F)(ha:DA K mg X ES (e::es) A.F)
 (db:attributeBase o "add" X.env (eval o X.env)=eval o X.env:=by rfl)
 (hfew:((backTo cpos (starEach (e::es) X.env)).all (λx=>!x.1)&&(backToKw cpos (keywordEach [] X.env)).all (λx=>x.1.isSome)
  && decide ((e::es).length+([]:List Keyword).length+(if ([]:List Keyword).isEmpty then 0 else 1)<30))=true:=by rfl)
 (dL:(apos.endLine==cpos.line)=true:=by rfl) (hs:starEach (e::es) X.env=(false,eval e X.env)::starEach es X.env:=by rfl) (bi:(backTo cpos (starEach es X.env)).any (·.1)=false:=by rfl):
 DE K mg X ES (.Call (.Attribute o "add" apos) (e::es) [] cpos) (By j A).F:=by with_unfolding_all exact Kz hK ho ha db hfew dL hs bi
def uw(hu:X.A.units+1<cLine)(ha:DE K mg X ES a p.F)(hb:DE K mg X ES b q.F)(hs:xm b):DE K mg X ES (.Subscript a b pos) (pOp qa p q).F:=by with_unfolding_all exact A6 hu ha hb hs
end
end L3
namespace L3
open PySem PySem.Spec PyProof.Rows L2
end L3
namespace L3
open PySem PySem.Spec PyProof.Rows L2
section
variable{K:W.Frag}{mg:Str->Option Value}
end
end L3
namespace L3
open PySem L2
def aVs(A:MA):List Nat->MA
 | []=>A
 |i::is=>bz (aU i) (aVs A is)
theorem yr{x:Nat}{ae:AE}{h:AH}(hx:x<ae.length):∀{is:List Nat},x∉is->aVs (bz eD0 cK) is ae h=aVs (bz (aU x) cK) is (ae.set x (some (.ref h.length))) (h++[.dct []])
 |
  [],_=>by
  show bz eD0 cK ae h=bz (aU x) cK _ _
  unfold bz aU
  rw[Qy hx]
  rfl
 |
  i::is,hn=>by
  have ih:=yr (h:=h) hx (λz=>hn (N9 _ z):x∉is)
  have ne:x≠i:=λz=>hn (z ▸ Od ..)
  show bz (aU i) (aVs (bz eD0 cK) is) ae h=bz (aU i) (aVs (bz (aU x) cK) is) _ _
  generalize aVs (bz eD0 cK) is=A at *
  generalize aVs (bz (aU x) cK) is=B at *
  unfold bz aU
  rw[PM ne]
  cases ae[i]? with
  |none=>rfl
  |
   some d=>
   cases d with
   |none=>rfl
   |
    some d=>
    show (A ae h).bind _=(B _ _).bind _
    rw[ih]
def pVs(A:PAs):List Nat->PAs
 | []=>A
 |i::is=>ag (ah i) (pVs A is)
theorem xw(A:PAs):∀is,(pVs A is).F=aVs A.F is
 | []=>rfl
 |i::is=>by show bz _ (pVs A is).F=bz _ _;rw[xw A is];rfl
def w6(x:Nat)(f:PFn)(is:List Nat):MS3:=λe=>if x∈is then .stuck else ((aN true x pD0).G e).then λe1=>match (aA f (pVs (ag (ah x) ao) is)).G e1 with
 |.ok (.bor j) e2=>if j=x then .nx e2 else .stuck
 |_=>.stuck
def Dt(x:Nat)(f:PFn)(is:List Nat):RS (aN true x (aA f (pVs (ag pD0 ao) is))).F (w6 x f is):=λX h0 ns e ae h S=>by
 unfold w6
 split
 ·trivial
 ·rename_i hn
  have p:=(aN true x pD0).ok X h0 ns e ae h S
  generalize (aN true x pD0).G e=r at *
  cases r with
  |
   nx e1=>
   obtain⟨ae1,h1,ns1,q,a1,S1⟩:=p
   have q':SR.nx (ae.set x (some (.ref h.length))) (h++[.dct []])=SR.nx ae1 h1:=q
   cases q'
   show PoS X h0 ns e h _ (match (aA f (pVs (ag (ah x) ao) is)).G e1 with
    |.ok (.bor j) e2=>if j=x then .nx e2 else .stuck
    |_=>.stuck)
   have c:=(aA f (pVs (ag (ah x) ao) is)).ok X h0 h0 ns1 e1 _ _ S1 S1.lh
   generalize (aA f (pVs (ag (ah x) ao) is)).G e1=r at *
   cases r with
   |stuck=>trivial
   |exc _ _=>trivial
   |
    ok t e2=>
    cases t with
    |val _=>trivial
    |new _=>trivial
    |
     bor j=>
     dsimp only
     split
     ·rename_i hj
      subst hj
      obtain⟨d,h',ns',c1,c2,c3,c4⟩:=c
      have c4':(ae.set j (some (.ref h.length)))[j]?=some (some d):=c4
      have hx:j<ae.length:=by
       have:=(N_.mp c4').1
       rwa [Oq] at this
      have e1:mD f.ms.length f.F (aVs (bz eD0 cK) is) ae h=.ok d h':=by
       rw[<- c1]
       show (aVs (bz eD0 cK) is ae h).bind _=((pVs (ag (ah j) ao) is).F _ _).bind _
       rw[yr hx hn,xw]
       rfl
      have e2:ae.set j (some d)=ae.set j (some (.ref h.length)):=by
       have:=BF c4'
       rwa [List.set_set] at this
      refine⟨ae.set j (some (.ref h.length)),h',ns',?_,a1.trans S c2,c3⟩
      show (mD f.ms.length f.F (pVs (ag pD0 ao) is).F ae h).toS ae _=_
      rw[xw]
      show (mD f.ms.length f.F (aVs (bz eD0 cK) is) ae h).toS ae _=_
      rw[e1,<- e2]
      rfl
     ·trivial
  |stuck=>trivial
  |bk _=>obtain⟨_,_,_,q,_⟩:=p;cases (show SR.nx (ae.set x (some (.ref h.length))) (h++[.dct []])=_ from q)
  |ct _=>obtain⟨_,_,_,q,_⟩:=p;cases (show SR.nx (ae.set x (some (.ref h.length))) (h++[.dct []])=_ from q)
  |exc _ _=>obtain⟨_,_,_,q,_⟩:=p;cases (show SR.nx (ae.set x (some (.ref h.length))) (h++[.dct []])=_ from q)
  |rt _ _=>obtain⟨_,_,_,_,q,_⟩:=p;cases (show SR.nx (ae.set x (some (.ref h.length))) (h++[.dct []])=_ from q)
def CL(x:Nat)(f:PFn)(is:List Nat):PSt:=⟨(aN true x (aA f (pVs (ag pD0 ao) is))).F,w6 x f is,Dt x f is⟩
theorem Ib(x:Nat)(f:PFn)(is:List Nat)(e:E3):(CL x f is).G e=if x∈is then .stuck else ((aN true x pD0).G e).then λe1=>match (aA f (pVs (ag (ah x) ao) is)).G e1 with
 |.ok (.bor j) e2=>if j=x then .nx e2 else .stuck
 |_=>.stuck:=rfl
def EV(A:PAs):pVs A []=A:=rfl
def A9(A:PAs)(i:Nat)(is:List Nat):pVs A (i::is)=ag (ah i) (pVs A is):=rfl
end L3
namespace L3
open PySem L2
def shpB(b:Bx):Rat:=if b.w<b.h then b.h/b.w else b.w/b.h
def shL(s l:Rat)(W:Int):Int->List Int->List (Rat×Rat)
 |_,[]=>[]
 |a,w::ws=>(s+l*((a:Rat)/(W:Rat)),l*((w:Rat)/(W:Rat)))::shL s l W (a+w) ws
theorem kj(s l:Rat)(W:Int):∀(ws:List Int) (a:Int),(shL s l W a ws).length=ws.length
 | [],_=>rfl
 |w::ws,a=>by unfold shL;rw[Oo,Oo,kj s l W ws (a+w)]
def bo(b:Bx)(way:Str)(ws:List Int):List Bx:=if way="across" then (shL b.l b.w ws.sum 0 ws).map λp=>⟨p.1,b.t,p.2,b.h⟩ else (shL b.t b.h ws.sum 0 ws).map λp=>⟨b.l,p.1,b.w,p.2⟩
theorem ou:∀{l:List Int},(∀w∈l,1<=w)->(l.length:Int)<=l.sum
 | [],_=>by simp
 |
  x::l,h=>by
  rw[OM,Oo]
  have:=h x (Od ..)
  have:=ou (l:=l) λw hw=>h w (N9 _ hw)
  omega
theorem vD{s l:Rat}{W:Int}{p:Rat×Rat}:∀(ws:List Int) (a:Int),0<=a->(∀w∈ws,1<=w)->a+ws.sum<=W->p∈shL s l W a ws->∃a' w:Int,0<=a'/\a'<=W/\1<=w/\w<=W/\p=(s+l*((a':Rat)/(W:Rat)),l*((w:Rat)/(W:Rat)))
 | [],_,_,_,_,h=>nomatch h
 |
  w::ws,a,ha,hw,hs,h=>by
  have h1:=hw w (Od ..)
  have h2:=ou (l:=ws) λx hx=>hw x (N9 _ hx)
  rw[OM] at hs
  unfold shL at h
  rcases Ow.mp h with rfl |h
  ·exact⟨a,w,ha,by omega,h1,by omega,rfl⟩
  ·exact vD ws (a+w) (by omega) (λx hx=>hw x (N9 _ hx)) (by omega) h
def cut1(b:Bx)(way:Str)(u v:Int):Bx:=(bo b way [u,v]).headD b
def cut2(b:Bx)(way:Str)(u v:Int):Bx:=((bo b way [u,v]).drop 1).headD b
def liV(l:List Int):Val:=.lst (l.map .int)
def wsAt(ws:List Int)(i:Int):Int:=ws.getD i.toNat 0
def wt(ws l:List Int):Int:=(l.map (wsAt ws)).sum
def rst(nums l:List Int):List Int:=nums.filter λx=>!l.contains x
structure Lot(nums l:List Int):Prop where
 sub:l.Sublist nums
 ne:l≠[]
 lt:l.length<nums.length
def mx(x y:Rat):Rat:=if x<y then y else x
structure CutOk(nums:List Int)(c:Str×List Int×List Int):Prop where
 way:c.1="across" \/ c.1="down"
 one:Lot nums c.2.1
 two:Lot nums c.2.2
 b0:c.2.2=rst nums c.2.1
inductive Tr(ws:List Int):Bx->List Int->Val->Rat->Prop
 |leaf (b:Bx) (i:Int):Tr ws b [i] (.int i) (shpB b)
 |node {b:Bx}{way:Str}{l r:List Int}{t1 t2:Val}{q1 q2:Rat} (hw:way="across" \/ way="down") (h1:Tr ws (cut1 b way (wt ws l) (wt ws r)) l t1 q1) (h2:Tr ws (cut2 b way (wt ws l) (wt ws r)) r t2 q2):Tr ws b (l++r) (.tup [.str way,.tup [t1,t2]]) (mx q1 q2)
end L3
namespace L3
open PySem PySem.Spec PyProof.Rows L2
inductive AT where
 |lf (k:Nat)
 |nd (w:Bool) (ts:List AT)
def wy(w:Bool):Str:=if w=true then "across" else "down"
def AT.ind{P:AT->Prop}(h1:∀k,P (.lf k))(h2:∀w ts,(∀t∈ts,P t)->P (.nd w ts))(t:AT):P t:=
 @AT.rec P (λts=>∀t∈ts,P t) h1 (λw ts ih=>h2 w ts ih) (λt h=>nomatch h) (λt ts i1 i2 u hu=>by
  rcases Ow.mp hu with rfl |hu
  ·exact i1
  ·exact i2 u hu) t
mutual
def AT.val(f:Nat->Val):AT->Val
 |.lf k=>f k
 |.nd w ts=>.tup [.str (wy w),.tup (AT.vals f ts)]
def AT.vals(f:Nat->Val):List AT->List Val
 | []=>[]
 |t::ts=>AT.val f t::AT.vals f ts
end
mutual
def AT.lvs:AT->List Nat
 |.lf k=>[k]
 |.nd _ ts=>AT.lvsL ts
def AT.lvsL:List AT->List Nat
 | []=>[]
 |t::ts=>AT.lvs t++AT.lvsL ts
end
mutual
def AT.dep:AT->Nat
 |.lf _=>1
 |.nd _ ts=>AT.depL ts+1
def AT.depL:List AT->Nat
 | []=>0
 |t::ts=>max (AT.dep t) (AT.depL ts)
end
mutual
def AT.ok:AT->Bool
 |.lf _=>true
 |.nd _ ts=>decide (2<=ts.length)&&AT.okL ts
def AT.okL:List AT->Bool
 | []=>true
 |t::ts=>AT.ok t&&AT.okL ts
end
theorem AT.vals_map(f:Nat->Val):∀ts,AT.vals f ts=ts.map (AT.val f)
 | []=>rfl
 |t::ts=>by rw[AT.vals,AT.vals_map f ts];rfl
theorem AT.lvsL_mem{x:Nat}:∀{ts:List AT},x∈AT.lvsL ts ↔ ∃t∈ts,x∈t.lvs
 | []=>by simp [AT.lvsL]
 |t::ts=>by rw[AT.lvsL,O4,AT.lvsL_mem (ts:=ts)];simp
theorem AT.lvsL_flat:∀ts:List AT,AT.lvsL ts=(ts.map AT.lvs).flatten
 | []=>rfl
 |t::ts=>by rw[AT.lvsL,AT.lvsL_flat ts];rfl
theorem AT.depL_le{m:Nat}:∀{ts:List AT},AT.depL ts<=m ↔ ∀t∈ts,t.dep<=m
 | []=>by simp [AT.depL]
 |t::ts=>by rw[AT.depL,Nat.max_le,AT.depL_le (ts:=ts)];simp
theorem AT.okL_mem:∀{ts:List AT},AT.okL ts=true ↔ ∀t∈ts,t.ok=true
 | []=>by simp [AT.okL]
 |t::ts=>by rw[AT.okL,Ol,AT.okL_mem (ts:=ts)];simp
def AT.dep_pos(t:AT):1<=t.dep:=by cases t <;> simp [AT.dep]
def my{t:AT}(h:t.ok=true):1<=t.lvs.length:=by
 induction t using AT.ind with
 |h1 k=>simp [AT.lvs]
 |
  h2 w ts ih=>
  rw[AT.ok,Ol] at h
  cases ts with
  |nil=>exact absurd h.1 (by decide)
  |
   cons t ts=>
   have:=ih t (Od ..) (AT.okL_mem.mp h.2 t (Od ..))
   rw[AT.lvs,AT.lvsL,Oa]
   omega
theorem jn{α β:Type}{f:α->List β}:∀{l:List α},(∀a∈l,1<=(f a).length)->l.length<=((l.map f).flatten).length
 | [],_=>Oe _
 |
  a::l,h=>by
  have h1:=h a (Od ..)
  have h2:=jn (l:=l) λb hb=>h b (N9 _ hb)
  rw[Of,PJ,Oa,Oo]
  omega
def lfV:Val->Bool
 |.int _=>true
 |.str _=>true
 |_=>false
theorem pS{k:Nat}:∀{vs:List Val},(∀v∈vs,wfV k v=true)->eO k vs=true
 | [],_=>rfl
 |
  v::vs,h=>by
  show (wfV k v&&eO k vs)=true
  rw[h v (Od ..),pS λu hu=>h u (N9 _ hu)]
  rfl
def kr(v:Val)(l:List Val):atI (v::l) 0=some v:=iM (by decide) rfl
def KI(v:Val)(l:List Val):iB (v::l) (some 1) none=l:=uQ _ 1
def inB(x:Nat)(t:AT):Bool:=decide (x∈t.lvs)
def itV(l:List Nat):Val:=.lst (l.map λk:Nat=>.int k)
structure TOk(t:AT)(l:List Nat):Prop where
 ok:t.ok=true
 mem:∀k,k∈t.lvs ↔ k∈l
 dep:t.dep<=l.length
 len:t.lvs.length=l.length
def BZ(xss:List (List Nat)):List Val:=xss.map itV
theorem B6(I1 I2:PIt)(j t:Nat)(q:PEx)(hjt:j≠t)(e:E3):(x6 I1 I2 j t q hjt).G e=(I1.G e).toS λp e1=>match p.2,e1[j]? with
 |
  none,some s=>if s.pl=true/\p.1.length<16777216 then (I2.G (e1.set j .no)).toS λp2 e2=>match p2.2,e2[j]? with
   |none,some .no=>gn j t q.G p2.1 (p.1.map λv=>[v]) e2
   |_,_=>.stuck
  else .stuck
 |_,_=>.stuck:=rfl
structure Lots(yss xss:List (List Nat))(vs:List Nat):Prop where
 len:yss.length=xss.length
 ne:∀l∈yss,l≠[]
 mem:∀k,(∃l∈yss,k∈l) ↔ (∃l∈xss,k∈l)\/k∈vs
 tot:yss.flatten.length=xss.flatten.length+vs.length
def Au{xss:List (List Nat)}{i:Nat}{xs:List Nat}{u:Nat}(h:xss[i]?=some xs)(ne:∀l∈xss,l≠[]):Lots (xss.set i (xs++[u])) xss [u]:=by
 have hi:=(N_.mp h).1
 refine⟨Oq ..,λl hl=>?_,λk=>?_,?_⟩
 ·rcases OY hl with hl |rfl
  ·exact ne l hl
  ·simp
 ·constructor
  ·rintro⟨l,hl,hk⟩
   rcases OY hl with hl |rfl
   ·exact .inl ⟨l,hl,hk⟩
   ·rcases O4.mp hk with hk |hk
    ·exact .inl ⟨xs,Ph h,hk⟩
    ·exact .inr hk
  ·rintro (⟨l,hl,hk⟩ |hk)
   ·obtain⟨j,hj⟩:=QK hl
    by_cases hij:i=j
    ·subst hij
     rw[h] at hj
     cases hj
     exact⟨_,List.mem_set (by omega) _,Qd _ hk⟩
    ·exact⟨l,Ph (i:=j) (by rw[PM hij];exact hj),hk⟩
   ·exact⟨_,List.mem_set (by omega) _,Ox _ hk⟩
 ·have aux:∀(xss:List (List Nat)) (i:Nat),xss[i]?=some xs->(xss.set i (xs++[u])).flatten.length=xss.flatten.length+1:=by
   intro xss
   induction xss with
   |nil=>intro i h;rw[P5] at h;cases h
   |
    cons y ys ih=>
    intro i h
    cases i with
    |zero=>cases h;simp [List.set];omega
    |succ i=>simp only[List.set,PJ,Oa];rw[ih i h];omega
  exact aux xss i h
def pG{xss:List (List Nat)}(ne:∀l∈xss,l≠[]):xss.length<=xss.flatten.length:=by
 have:=jn (f:=id) (l:=xss) λl hl=>QS.mpr (ne l hl)
 rw[List.map_id] at this
 exact this
theorem uI:∀{yss:List (List Nat)},(∀l∈yss,l≠[])->∀l∈yss,l.length+yss.length<=yss.flatten.length+1
 | [],_,l,hl=>nomatch hl
 |
  y::ys,ne,l,hl=>by
  have h0:=pG (xss:=ys) λl hl=>ne l (N9 _ hl)
  have h1:=QS.mpr (ne y (Od ..))
  rw[PJ,Oa,Oo]
  rcases Ow.mp hl with rfl |hl
  ·omega
  ·have:=uI (yss:=ys) (λl hl=>ne l (N9 _ hl)) l hl
   omega
def atV(t:AT):Val:=t.val λk=>.int (k:Nat)
def Dm{w:Bool}{ps:List (AT×List Nat)}(h:∀p∈ps,TOk p.1 p.2)(hne:ps≠[])(hne2:∀p∈ps,p.2≠[])(h2:2<=ps.length):TOk (.nd w (ps.map (·.1))) (ps.map (·.2)).flatten:=by
 have hlot:=uI (yss:=ps.map (·.2)) (λl hl=>by obtain⟨p,hp,rfl⟩:=OU.mp hl;exact hne2 p hp)
 refine⟨?_,λk=>?_,?_,?_⟩
 ·rw[AT.ok,Ol]
  refine⟨OH (by rw[N8];exact h2),AT.okL_mem.mpr λt ht=>?_⟩
  obtain⟨p,hp,rfl⟩:=OU.mp ht
  exact (h p hp).ok
 ·rw[AT.lvs,AT.lvsL_mem,List.mem_flatten]
  constructor
  ·rintro⟨t,ht,hk⟩
   obtain⟨p,hp,rfl⟩:=OU.mp ht
   exact⟨p.2,Pa hp,((h p hp).mem k).mp hk⟩
  ·rintro⟨l,hl,hk⟩
   obtain⟨p,hp,rfl⟩:=OU.mp hl
   exact⟨p.1,Pa hp,((h p hp).mem k).mpr hk⟩
 ·rw[AT.dep]
  have:AT.depL (ps.map (·.1))<=(ps.map (·.2)).flatten.length-1:=AT.depL_le.mpr λt ht=>by
   obtain⟨p,hp,rfl⟩:=OU.mp ht
   have:=(h p hp).dep
   have:=hlot p.2 (Pa hp)
   rw[N8] at this
   omega
  obtain⟨p,hp⟩:=List.exists_mem_of_ne_nil ps hne
  have:=hlot p.2 (Pa hp)
  rw[N8] at this
  omega
 ·rw[AT.lvs]
  clear hlot h2 hne hne2
  induction ps with
  |nil=>rfl
  |
   cons p ps ih=>
   rw[Of,Of,AT.lvsL,Oa,PJ,Oa,ih λp hp=>h p (N9 _ hp),(h p (Od ..)).len]
def trQ(v f:Val)(r:SR3):Prop:=mY [true,false] r=.ok (.val v) [f]
structure Nms(m:Nat)(ns:List Val)(f:Nat->Val):Prop where
 at_:∀i,i<m->ns[i]?=some (f i)
 lf:∀i,i<m->lfV (f i)=true
 eq:∀i j,i<m->j<m->eT (f i) (f j)=some (decide (i=j))
mutual
def AT.cnt:AT->Nat
 |.lf _=>1
 |.nd _ ts=>AT.cntL ts+1
def AT.cntL:List AT->Nat
 | []=>0
 |t::ts=>AT.cnt t+AT.cntL ts
end
theorem AT.cntL_app:∀(a b:List AT),AT.cntL (a++b)=AT.cntL a+AT.cntL b
 | [],b=>by simp [AT.cntL]
 |t::a,b=>by rw[QB,AT.cntL,AT.cntL,AT.cntL_app a b];omega
theorem AT.lvsL_app:∀(a b:List AT),AT.lvsL (a++b)=AT.lvsL a++AT.lvsL b
 | [],b=>by simp [AT.lvsL]
 |t::a,b=>by rw[QB,AT.lvsL,AT.lvsL,AT.lvsL_app a b,O1]
def oy(xs:List Val)(x:Val):rX.G (.lst (xs++[x])) []=some (.lst xs,x):=by
 show so (.lst (xs++[x])) []=_
 unfold so
 dsimp only
 rw[Oa,List.length_singleton,Nat.add_sub_cancel,OB (Oe _),Py,List.dropLast_concat]
 rfl
theorem AT.cnt_le:∀{ts:List AT}{t:AT},t∈ts->t.cnt<=AT.cntL ts
 | [],t,h=>nomatch h
 |
  u::ts,t,h=>by
  rw[AT.cntL]
  rcases Ow.mp h with rfl |h
  ·omega
  ·have:=AT.cnt_le h;omega
def AT.lvs_le{ts:List AT}{t:AT}(h:t∈ts):t.lvs.length<=(AT.lvsL ts).length:=by
 rw[AT.lvsL_flat]
 exact Qx (Qa (Pa (f:=AT.lvs) h))
end L3
namespace L3
open PySem PySem.Spec PyProof.Rows L2
def wtA(ws:List Int)(l:List Nat):Int:=(l.map λk=>ws.getD k 0).sum
def wtT(ws:List Int)(t:AT):Int:=wtA ws t.lvs
mutual
def AT.bx(ws:List Int):AT->Bx->List (Nat×Bx)
 |.lf k,b=>[(k,b)]
 |.nd w ts,b=>AT.bxL ws ts (bo b (wy w) (ts.map (wtT ws)))
def AT.bxL(ws:List Int):List AT->List Bx->List (Nat×Bx)
 |t::ts,b::bs=>AT.bx ws t b++AT.bxL ws ts bs
 |_,_=>[]
end
mutual
def AT.lay(ws:List Int)(n m:Nat):AT->Bx->Prop
 |.lf _,_=>True
 |.nd w ts,b=>b.Ok/\b.Sz n/\ts≠[]/\ts.length<=40/\(∀t∈ts,1<=wtT ws t)/\Sm m (ts.map (wtT ws)).sum/\AT.layL ws n m ts (bo b (wy w) (ts.map (wtT ws)))
def AT.layL(ws:List Int)(n m:Nat):List AT->List Bx->Prop
 |t::ts,b::bs=>AT.lay ws n m t b/\AT.layL ws n m ts bs
 |_,_=>True
end
def bI(kvs:List (Key×Val))(l:List (Nat×Bx)):List (Key×Val):=l.foldl (λkvs p=>c7 kvs (.inl (p.1:Nat)) (bV p.2)) kvs
def sO(kvs:List (Key×Val))(a b:List (Nat×Bx)):bI kvs (a++b)=bI (bI kvs a) b:=by unfold bI;rw[List.foldl_append]
def uh{ws:List Int}{a b:List Nat}(h:a.Perm b):wtA ws a=wtA ws b:=by
 unfold wtA
 induction h with
 |nil=>rfl
 |cons x _ ih=>rw[Of,Of,OM,OM,ih]
 |swap x y l=>simp only[Of,OM];omega
 |trans _ _ h1 h2=>rw[h1,h2]
theorem sj(ws:List Int):∀ts:List AT,wtA ws (AT.lvsL ts)=(ts.map (wtT ws)).sum
 | []=>rfl
 |
  t::ts=>by
  rw[AT.lvsL,Of,OM,<- sj ws ts]
  unfold wtT wtA
  rw[OP,List.sum_append]
def A1(kvs:List (Key×Val))(k:Key)(v:Val):(c7 kvs k v).length<=kvs.length+1:=by
 unfold c7
 split
 ·rw[N8];omega
 ·rw[Oa];exact Oe _
theorem nE:∀(l:List (Nat×Bx)) (kvs:List (Key×Val)),(bI kvs l).length<=kvs.length+l.length
 | [],kvs=>Oe _
 |
  p::l,kvs=>by
  have h1:=A1 kvs (.inl (p.1:Nat)) (bV p.2)
  have h2:=nE l (c7 kvs (.inl (p.1:Nat)) (bV p.2))
  unfold bI at h2 ⊢
  rw[List.foldl_cons,Oo]
  omega
def AT.bx_fst(ws:List Int)(t:AT):∀b,(AT.bx ws t b).length<=t.lvs.length/\∀p∈AT.bx ws t b,p.1∈t.lvs:=by
 induction t using AT.ind with
 |h1 k=>intro b;simp [AT.bx,AT.lvs]
 |
  h2 w ts ih=>
  intro b
  rw[AT.bx,AT.lvs]
  generalize bo b (wy w) (ts.map (wtT ws))=bs
  induction ts generalizing bs with
  |nil=>simp [AT.bxL]
  |
   cons t ts ih2=>
   cases bs with
   |nil=>simp [AT.bxL]
   |
    cons b bs=>
    obtain⟨h1,h2⟩:=ih t (Od ..) b
    obtain⟨h3,h4⟩:=ih2 (λu hu=>ih u (N9 _ hu)) bs
    rw[AT.bxL,AT.lvsL,Oa,Oa]
    refine⟨by omega,λp hp=>?_⟩
    rcases O4.mp hp with hp |hp
    ·exact Qd _ (h2 p hp)
    ·exact Ox _ (h4 p hp)
def za(kvs:List (Key×Val))(k k':Key)(v:Val):lkD (c7 kvs k v) k'=if k=k' then some v else lkD kvs k':=by
 unfold c7
 induction kvs with
 |
  nil=>
  rw[if_neg (by simp)]
  unfold lkD
  by_cases h:k=k'
  ·simp [h]
  ·simp [h]
 |
  cons p kvs ih=>
  obtain⟨pk,pv⟩:=p
  by_cases hp:pk=k
  ·subst
    hp
   rw[if_pos (by simp)]
   by_cases h:pk=k'
   ·subst h
    simp [lkD]
   ·rw[if_neg h]
    rw[if_neg h] at ih
    simp only[Of,Pw]
    unfold lkD
    simp only[OW,OA h]
    by_cases ha:(kvs.any λkv=>decide (kv.1=pk))=true
    ·rw[if_pos ha] at ih
     unfold lkD at ih
     exact ih
    ·have:(kvs.map λkv=>if kv.1=pk then (kv.1,v) else kv)=kvs:=by
      conv=>rhs;rw[<- List.map_id kvs]
      refine List.map_congr_left λq hq=>?_
      rw[if_neg]
      ·rfl
      ·intro z
       exact ha (List.any_eq_true.mpr ⟨q,hq,OH z⟩)
     rw[this]
  ·by_cases ha:(kvs.any λkv=>decide (kv.1=k))=true
   ·rw[if_pos ha] at ih
    rw[if_pos (by rw[Pg,ha,Bool.or_true])]
    simp only[Of,if_neg hp]
    by_cases h:pk=k'
    ·subst h
     rw[if_neg (λz=>hp z.symm)]
     simp [lkD]
    ·unfold lkD at ih ⊢
     simp only[OW,OA h]
     exact ih
   ·rw[if_neg ha] at ih
    rw[if_neg (by rw[Pg,OA hp,Bool.false_or];exact ha)]
    rw[QB]
    by_cases h:pk=k'
    ·subst h
     rw[if_neg (λz=>hp z.symm)]
     simp [lkD]
    ·unfold lkD at ih ⊢
     simp only[OW,OA h]
     exact ih
def bxO(l:List (Nat×Bx))(k:Nat):Bx:=((l.find? λp=>p.1==k).map (·.2)).getD ⟨0,0,0,0⟩
theorem pB{k:Nat}:∀(l:List (Nat×Bx)) (kvs:List (Key×Val)),(l.map (·.1)).Nodup->(k∈l.map (·.1)->lkD (bI kvs l) (.inl (k:Nat))=some (bV (bxO l k)))/\(k∉l.map (·.1)->lkD (bI kvs l) (.inl (k:Nat))=lkD kvs (.inl (k:Nat)))
 | [],kvs,_=>⟨(λh=>nomatch h),λ_=>rfl⟩
 |
  p::l,kvs,nd=>by
  rw[Of,PZ] at nd
  obtain⟨h1,h2⟩:=pB (k:=k) l (c7 kvs (.inl (p.1:Nat)) (bV p.2)) nd.2
  have e:bI kvs (p::l)=bI (c7 kvs (.inl (p.1:Nat)) (bV p.2)) l:=rfl
  rw[e]
  by_cases hp:p.1=k
  ·have hk:k∉l.map (·.1):=hp ▸ nd.1
   rw[h2 hk,za,if_pos (by rw[hp])]
   refine⟨λ_=>?_,λz=>absurd (by rw[Of,hp];exact Od ..) z⟩
   unfold bxO
   rw[OW]
   simp [hp]
  ·have hk:k∈(p::l).map (·.1) ↔ k∈l.map (·.1):=by rw[Of,Ow];exact⟨λz=>z.resolve_left (λy=>hp y.symm),.inr⟩
   have hb:bxO (p::l) k=bxO l k:=by
    unfold bxO
    rw[List.find?_cons_of_neg (by simpa using hp)]
   rw[hk,hb]
   refine⟨h1,λz=>?_⟩
   rw[h2 z,za,if_neg]
   intro y
   injection y with y
   exact hp (Int.ofNat.inj y)
def zf(b:Bx)(way:Str)(ws:List Int):(bo b way ws).length=ws.length:=by
 unfold bo
 split <;> rw[N8,kj]
def AT.bx_keys(ws:List Int)(t:AT):∀b,(AT.bx ws t b).map (·.1)=t.lvs:=by
 induction t using AT.ind with
 |h1 k=>intro b;rw[AT.bx,AT.lvs];rfl
 |
  h2 w ts ih=>
  intro b
  rw[AT.bx,AT.lvs]
  have hl:(bo b (wy w) (ts.map (wtT ws))).length=ts.length:=by rw[zf,N8]
  generalize bo b (wy w) (ts.map (wtT ws))=bs at *
  induction ts generalizing bs with
  |nil=>cases bs <;> rfl
  |
   cons t ts ih2=>
   cases bs with
   |nil=>exact nomatch hl
   |
    cons b bs=>
    rw[AT.bxL,AT.lvsL,OP,ih t (Od ..) b,ih2 (λu hu=>ih u (N9 _ hu)) bs (by simpa using hl)]
def AT.cnt_lvs(t:AT)(h:t.ok=true):t.cnt+1<=2*t.lvs.length:=by
 induction t using AT.ind with
 |h1 k=>simp [AT.cnt,AT.lvs]
 |
  h2 w ts ih=>
  rw[AT.ok,Ol] at h
  have hk:=AT.okL_mem.mp h.2
  have h2:2<=ts.length:=of_decide_eq_true h.1
  rw[AT.cnt,AT.lvs]
  have:∀ts:List AT,(∀t∈ts,t.cnt+1<=2*t.lvs.length)->AT.cntL ts+ts.length<=2*(AT.lvsL ts).length:=by
   intro ts
   induction ts with
   |nil=>intro _;simp [AT.cntL,AT.lvsL]
   |
    cons t ts ih=>
    intro h
    have h1:=h t (Od ..)
    have h2:=ih λu hu=>h u (N9 _ hu)
    rw[AT.cntL,AT.lvsL,Oa,Oo]
    omega
  have:=this ts λt ht=>ih t ht (hk t ht)
  omega
end L3
namespace L3
open PySem PySem.Spec PyProof.Rows L2
structure Rp(D A B:Nat)(b:Bx):Prop where
 pos:0<D
 l:∃z:Int,b.l=(z:Rat)/((D:Int):Rat)/\z.natAbs<=A*D
 t:∃z:Int,b.t=(z:Rat)/((D:Int):Rat)/\z.natAbs<=A*D
 w:∃z:Int,b.w=(z:Rat)/((D:Int):Rat)/\0<z/\z<=B*D
 h:∃z:Int,b.h=(z:Rat)/((D:Int):Rat)/\0<z/\z<=B*D
def K1(x y a D W:Rat)(h1:D≠0)(h2:W≠0):x/D+(y/D)*(a/W)=(x*W+y*a)/(D*W):=by grind
def JX(y a D W:Rat)(h1:D≠0)(h2:W≠0):(y/D)*(a/W)=(y*a)/(D*W):=by grind
def JR(y D W:Rat)(h1:D≠0)(h2:W≠0):y/D=(y*W)/(D*W):=by grind
def mE{z:Int}(h:z≠0):(z:Rat)≠0:=λe=>h (Rat.intCast_inj.mp e)
def CQ{x y a W:Int}{D A B:Nat}(hD:0<D)(hx:x.natAbs<=A*D)(hy:0<y/\y<=B*D)(ha:0<=a/\a<=W)(hW:0<W):∃z:Int,(x:Rat)/((D:Int):Rat)+((y:Rat)/((D:Int):Rat))*((a:Rat)/(W:Rat))=(z:Rat)/(((D*W.toNat:Nat):Int):Rat)/\z.natAbs<=(A+B)*(D*W.toNat):=by
 obtain⟨V,rfl⟩:∃V:Nat,W=V:=⟨W.toNat,by omega⟩
 refine⟨x*V+y*a,?_,?_⟩
 ·rw[K1 _ _ _ _ _ (mE (by omega)) (mE (by omega))]
  congr 1
  ·rw[Rat.intCast_add,O5,O5]
  ·rw[O0,PC,O5]
 ·rw[O0]
  have h1:(x*(V:Int)).natAbs<=A*D*V:=by rw[O9];exact O_ hx (Oe _)
  have h2:(y*a).natAbs<=B*D*V:=by
   rw[O9]
   refine O_ ?_ (by omega)
   have:=hy.2
   omega
  have h3:=Int.natAbs_add_le (x*V) (y*a)
  rw[Nat.add_mul,<- QV,<- QV]
  omega
def CP{y a W:Int}{D B:Nat}(hD:0<D)(hy:0<y/\y<=B*D)(ha:1<=a/\a<=W):∃z:Int,((y:Rat)/((D:Int):Rat))*((a:Rat)/(W:Rat))=(z:Rat)/(((D*W.toNat:Nat):Int):Rat)/\0<z/\z<=((B:Nat):Int)*((D*W.toNat:Nat):Int):=by
 obtain⟨V,rfl⟩:∃V:Nat,W=V:=⟨W.toNat,by omega⟩
 refine⟨y*a,?_,QU hy.1 (by omega),?_⟩
 ·rw[JX _ _ _ _ (mE (by omega)) (mE (by omega))]
  congr 1
  ·rw[O5]
  ·rw[O0,PC,O5]
 ·rw[O0,PC,<- Pf]
  exact Int.mul_le_mul hy.2 ha.2 (by omega) (Int.le_trans (Int.le_of_lt hy.1) hy.2)
def o1{y W:Int}{D:Nat}(hD:0<D)(hW:0<W):(y:Rat)/((D:Int):Rat)=((y*W:Int):Rat)/(((D*W.toNat:Nat):Int):Rat):=by
 obtain⟨V,rfl⟩:∃V:Nat,W=V:=⟨W.toNat,by omega⟩
 rw[JR _ _ _ (mE (show ((D:Nat):Int)≠0 by omega)) (mE (show ((V:Nat):Int)≠0 by omega)),O5,O0,PC,O5]
def zK{z W:Int}{D A B:Nat}(hz:z.natAbs<=A*D)(hW:0<W):(z*W).natAbs<=(A+B)*(D*W.toNat):=by
 rw[O9,<- QV]
 refine O_ ?_ (by omega)
 rw[Nat.add_mul]
 omega
def yg{z W:Int}{D B:Nat}(hz:0<z/\z<=B*D)(hW:0<W):0<z*W/\z*W<=((B:Nat):Int)*((D*W.toNat:Nat):Int):=by
 refine⟨QU hz.1 hW,?_⟩
 rw[PC,<- Pf,Int.toNat_of_nonneg (by omega)]
 exact Int.mul_le_mul_of_nonneg_right hz.2 (by omega)
def Rp.parts{D A B:Nat}{b b':Bx}{way:Str}{ws:List Int}(r:Rp D A B b)(hw:∀w∈ws,1<=w)(h:b'∈bo b way ws):Rp (D*ws.sum.toNat) (A+B) B b':=by
 obtain⟨pos,⟨zl,el,bl⟩,⟨zt,et,bt⟩,⟨zw,ew,bw⟩,⟨zh,eh,bh⟩⟩:=r
 have key:∀p:Rat×Rat,∀s l:Rat,p∈shL s l ws.sum 0 ws->0<ws.sum/\∃a' w:Int,0<=a'/\a'<=ws.sum/\1<=w/\w<=ws.sum/\p=(s+l*((a':Rat)/(ws.sum:Rat)),l*((w:Rat)/(ws.sum:Rat))):=λp s l hp=>by
  obtain⟨a',w,h1,h2,h3,h4,h5⟩:=vD ws 0 (by omega) hw (by omega) hp
  exact⟨by omega,a',w,h1,h2,h3,h4,h5⟩
 unfold bo at h
 split at h
 ·obtain⟨p,hp,rfl⟩:=OU.mp h
  obtain⟨hS,a',w,h1,h2,h3,h4,rfl⟩:=key p _ _ hp
  have hV:0<D*ws.sum.toNat:=Pr pos (by omega)
  refine⟨hV,?_,⟨zt*ws.sum,by show b.t=_;rw[et];exact o1 pos hS,zK bt hS⟩,?_,⟨zh*ws.sum,by show b.h=_;rw[eh];exact o1 pos hS,yg bh hS⟩⟩
  ·show ∃z:Int,b.l+b.w*_=_/\_
   rw[el,ew]
   exact CQ pos bl bw ⟨h1,h2⟩ hS
  ·show ∃z:Int,b.w*_=_/\_
   rw[ew]
   exact CP pos bw ⟨h3,h4⟩
 ·obtain⟨p,hp,rfl⟩:=OU.mp h
  obtain⟨hS,a',w,h1,h2,h3,h4,rfl⟩:=key p _ _ hp
  have hV:0<D*ws.sum.toNat:=Pr pos (by omega)
  refine⟨hV,⟨zl*ws.sum,by show b.l=_;rw[el];exact o1 pos hS,zK bl hS⟩,?_,⟨zw*ws.sum,by show b.w=_;rw[ew];exact o1 pos hS,yg bw hS⟩,?_⟩
  ·show ∃z:Int,b.t+b.h*_=_/\_
   rw[et,eh]
   exact CQ pos bt bh ⟨h1,h2⟩ hS
  ·show ∃z:Int,b.h*_=_/\_
   rw[eh]
   exact CP pos bh ⟨h3,h4⟩
def Rp.ok{D A B:Nat}{b:Bx}(r:Rp D A B b):b.Ok:=by
 obtain⟨pos,_,_,⟨zw,ew,bw⟩,⟨zh,eh,bh⟩⟩:=r
 exact⟨by rw[ew];exact jd bw.1 (by omega),by rw[eh];exact jd bh.1 (by omega)⟩
def Rp.sz{D A B n:Nat}{b:Bx}(r:Rp D A B b)(hA:A*D<2^n)(hB:B*D<2^n)(hD:D<2^n):b.Sz n:=by
 obtain⟨pos,⟨zl,el,bl⟩,⟨zt,et,bt⟩,⟨zw,ew,bw⟩,⟨zh,eh,bh⟩⟩:=r
 have sD:Sm n ((D:Nat):Int):=by show ((D:Nat):Int).natAbs<2^n;omega
 have k:∀z:Int,z.natAbs<2^n->Sz n ((z:Rat)/((D:Int):Rat)):=λz hz=>Sz.div (by omega) hz sD n (Oe _) (Oe _)
 have hb:∀z:Int,0<z/\z<=B*D->z.natAbs<2^n:=λz hz=>by
  have h1:z<=((B*D:Nat):Int):=by rw[PC];exact hz.2
  omega
 exact⟨by rw[el];exact k zl (by omega),by rw[et];exact k zt (by omega),by rw[ew];exact k zw (hb zw bw),by rw[eh];exact k zh (hb zh bh)⟩
theorem pD{ws:List Int}:∀{l:List Nat},(∀k∈l,1<=ws.getD k 0)->(l.length:Int)<=wtA ws l
 | [],_=>by simp [wtA]
 |
  k::l,h=>by
  have h1:=h k (Od ..)
  have h2:=pD (l:=l) λj hj=>h j (N9 _ hj)
  unfold wtA at h2 ⊢
  rw[Of,OM,Oo]
  omega
theorem vI{ws:List Int}{n m:Nat}:∀{ts:List AT}{bs:List Bx},(∀t∈ts,∀b∈bs,AT.lay ws n m t b)->AT.layL ws n m ts bs
 | [],_,_=>by rw[AT.layL];trivial;intro t ts b bs z;cases z
 |t::ts,[],_=>by rw[AT.layL];trivial;intro t ts b bs _ z;cases z
 |
  t::ts,b::bs,h=>by
  rw[AT.layL]
  exact⟨h t (Od ..) b (Od ..),vI λu hu c hc=>h u (N9 _ hu) c (N9 _ hc)⟩
def GZ{ws:List Int}{n m B:Nat}(t:AT):∀(b:Bx) (D A:Nat),Rp D A B b->B<=A->1<=A->(A+t.dep*B)*(D*2^(m*t.dep))<2^n->t.ok=true->(∀k∈t.lvs,1<=ws.getD k 0)->wtT ws t<2^m->t.lvs.length<=40->AT.lay ws n m t b:=by
 induction t using AT.ind with
 |h1 k=>intros;rw[AT.lay];trivial
 |
  h2 w ts ih=>
  intro b D A r hBA hA hn ho hw hm hl
  have ho':=ho
  rw[AT.ok,Ol] at ho'
  have h2:2<=ts.length:=of_decide_eq_true ho'.1
  have hk:=AT.okL_mem.mp ho'.2
  rw[AT.lvs] at hw hl
  have hws:∀t∈ts,∀k∈t.lvs,1<=ws.getD k 0:=λt ht k hk'=>hw k (AT.lvsL_mem.mpr ⟨t,ht,hk'⟩)
  have hone:∀t∈ts,1<=wtT ws t:=λt ht=>by
   have h1:=my (hk t ht)
   have h2:=pD (hws t ht)
   unfold wtT
   omega
  have hsum:wtT ws (.nd w ts)=(ts.map (wtT ws)).sum:=by
   unfold wtT
   rw[AT.lvs]
   exact sj ws ts
  rw[hsum] at hm
  have hpos:0<=(ts.map (wtT ws)).sum:=by
   rw[<- sj]
   have:=pD hw
   omega
  rw[AT.dep] at hn
  generalize hq:AT.depL ts=q at *
  have hD1:1<=2^(m*(q+1)):=Nat.one_le_two_pow
  have hAle:A*D<=(A+(q+1)*B)*(D*2^(m*(q+1))):=O_ (by omega) (Nat.le_mul_of_pos_right _ hD1)
  have hDle:D<=A*D:=Nat.le_mul_of_pos_left _ hA
  have hBle:B*D<=A*D:=QN _ hBA
  have tl:ts.length<=40:=by
   rw[AT.lvsL_flat] at hl
   have:ts.length<=((ts.map AT.lvs).flatten).length:=jn λt ht=>my (hk t ht)
   omega
  rw[AT.lay]
  refine⟨r.ok,r.sz (by omega) (by omega) (by omega),λz=>by rw[z] at h2;simp at h2,tl,hone,by
   show (ts.map (wtT ws)).sum.natAbs<2^m
   have:(((ts.map (wtT ws)).sum.natAbs:Nat):Int)<((2^m:Nat):Int):=by
    rw[Int.natAbs_of_nonneg hpos]
    push_cast
    exact hm
   omega,vI λt ht c hc=>?_⟩
  have rp:=r.parts (λx hx=>by obtain⟨u,hu,rfl⟩:=OU.mp hx;exact hone u hu) hc
  have hdt:t.dep<=q:=by rw[<- hq];exact AT.depL_le.mp (Oe _) t ht
  have hS:(ts.map (wtT ws)).sum.toNat<=2^m:=by
   have:(((ts.map (wtT ws)).sum.toNat:Nat):Int)<((2^m:Nat):Int):=by
    rw[Int.toNat_of_nonneg hpos]
    push_cast
    exact hm
   omega
  refine ih t ht c _ (A+B) rp (by omega) (by omega) ?_ (hk t ht) (hws t ht) ?_ (by have:=AT.lvs_le ht;omega)
  ·refine P0 (O_ ?_ ?_) hn
   ·have:t.dep*B<=q*B:=QN _ hdt
    rw[Nat.add_mul,Nat.one_mul]
    omega
   ·rw[QV]
    refine PU _ ?_
    have e:2^(m*(q+1))=2^m*2^(m*q):=by rw[<- Qj];congr 1;rw[Nat.mul_add,Nat.mul_one,Nat.add_comm]
    rw[e]
    exact O_ hS (Qe (by decide) (PU _ hdt))
  ·refine Int.lt_of_le_of_lt ?_ hm
   have aux:∀us:List AT,(∀u∈us,0<=wtT ws u)->t∈us->wtT ws t<=(us.map (wtT ws)).sum:=by
    intro us
    induction us with
    |nil=>intro _ h;exact nomatch h
    |
     cons u us ih=>
     intro h0 hm
     have nn:∀us:List AT,(∀u∈us,0<=wtT ws u)->0<=(us.map (wtT ws)).sum:=by
      intro us
      induction us with
      |nil=>intro _;simp
      |cons v us ih=>intro h;rw[Of,OM];have:=h v (Od ..);have:=ih λu hu=>h u (N9 _ hu);omega
     rw[Of,OM]
     rcases Ow.mp hm with rfl |hm
     ·have:=nn us λu hu=>h0 u (N9 _ hu)
      omega
     ·have h1:=ih (λu hu=>h0 u (N9 _ hu)) hm
      have h2:=h0 u (Od ..)
      omega
   exact aux ts (λu hu=>by have:=hone u hu;omega) ht
end L3
set_option maxHeartbeats 4000000
namespace KK
open PySem PySem.Spec PyProof.Rows L2 L3
def ig:bootBuiltins "abs"=some (.builtin "abs"):=by decide
def zD:bootBuiltins "all"=some (.builtin "all"):=by decide
def EE:bootBuiltins "bool"=some (.type "bool"):=by decide
def zN:bootBuiltins "int"=some (.type "int"):=by decide
def a9:bootBuiltins "isinstance"=some (.builtin "isinstance"):=by decide
def cJ:bootBuiltins "len"=some (.builtin "len"):=by decide
def p6:bootBuiltins "list"=some (.type "list"):=by decide
def Ie:bootBuiltins "max"=some (.builtin "max"):=by decide
def yQ:bootBuiltins "min"=some (.builtin "min"):=by decide
def Jx:bootBuiltins "set"=some (.type "set"):=by decide
def Gb:bootBuiltins "str"=some (.type "str"):=by decide
def lM:bootBuiltins "sum"=some (.builtin "sum"):=by decide
def eg:bootBuiltins "tuple"=some (.type "tuple"):=by decide
def top(i:Nat):Stmt:=PySem.Challenge.pw_weightrooms_k12_boxes_by_trees.main.body.getD i (.Pass ⟨0,0,0,0⟩)
abbrev kq:Stmt:=top 35
def u9:FnScope ["_law_script", "_law_k"] ["_law_script", "_law_k"] (az kq):=⟨rfl,rfl,rfl,by decide,rfl,by decide,by decide⟩
abbrev kC:Stmt:=top 36
def gW:FnScope ["_law_feed_here", "_law_many", "_law_digit", "_law_mixed"] ["_law_feed_here", "_law_many"] (az kC):=⟨rfl,rfl,rfl,by decide,rfl,by decide,by decide⟩
abbrev lZ:Stmt:=top 38
def iS:FnScope ["_law_top", "_law_bottom", "_law_one", "_law_two"] ["_law_top", "_law_bottom"] (az lZ):=⟨rfl,rfl,rfl,by decide,rfl,by decide,by decide⟩
abbrev jG:Stmt:=top 37
def gc:FnScope ["_law_feed_here", "_law_far", "_law_number", "_law_k"] ["_law_feed_here", "_law_far"] (az jG):=⟨rfl,rfl,rfl,by decide,rfl,by decide,by decide⟩
abbrev lg:Stmt:=top 39
def bL:FnScope ["_law_feed_here", "_law_way", "_law_left", "_law_top", "_law_wide", "_law_high", "_law_far"] ["_law_feed_here"] (az lg):=⟨rfl,rfl,rfl,by decide,rfl,by decide,by decide⟩
abbrev iD:Stmt:=top 40
def aV:FnScope ["_law_script", "_law_at", "_law_most", "_law_feed_here", "_law_many", "_law_more", "_law_style", "_law_some", "_law_k", "_law_weight"] ["_law_script", "_law_at", "_law_most"] (az iD):=⟨rfl,rfl,rfl,by decide,rfl,by decide,by decide⟩
abbrev j3:Stmt:=top 43
def jo:FnScope ["_law_feed_here", "_law_many", "_law_order_here", "_law_k"] ["_law_feed_here", "_law_many"] (az j3):=⟨rfl,rfl,rfl,by decide,rfl,by decide,by decide⟩
abbrev fj:Stmt:=top 44
def fB:FnScope ["_law_feed_here", "_law_numbers", "_law_many", "_law_some", "_law_number"] ["_law_feed_here", "_law_numbers"] (az fj):=⟨rfl,rfl,rfl,by decide,rfl,by decide,by decide⟩
abbrev j0:Stmt:=top 45
def gw:FnScope ["_law_feed_here", "_law_numbers", "_law_found", "_law_number"] ["_law_feed_here", "_law_numbers"] (az j0):=⟨rfl,rfl,rfl,by decide,rfl,by decide,by decide⟩
abbrev eQ:Stmt:=top 46
def lB:FnScope ["_law_tree_here"] ["_law_tree_here"] (az eQ):=⟨rfl,rfl,rfl,by decide,rfl,by decide,by decide⟩
abbrev lT:Stmt:=top 41
def wO:FnScope ["_law_one", "_law_two"] ["_law_one", "_law_two"] (az lT):=⟨rfl,rfl,rfl,by decide,rfl,by decide,by decide⟩
abbrev jR:Stmt:=top 42
def bC:FnScope ["_law_box", "_law_way", "_law_weights_here", "_law_left", "_law_top", "_law_wide", "_law_high", "_law_whole", "_law_parts_here", "_law_ahead", "_law_weight", "_law_at"] ["_law_box", "_law_way", "_law_weights_here"] (az jR):=⟨rfl,rfl,rfl,by decide,rfl,by decide,by decide⟩
abbrev ia:Stmt:=top 47
def gf:FnScope ["_law_room_here", "_law_weights_here", "_law_tree_here", "_law_boxes", "_law_sums", "_law_one", "_law_part"] ["_law_room_here", "_law_weights_here", "_law_tree_here", "_law_boxes"] (az ia):=⟨rfl,rfl,rfl,by decide,rfl,by decide,by decide⟩
abbrev kF:Stmt:=top 9
def ve:FnScope ["thing"] ["thing"] (az kF):=⟨rfl,rfl,rfl,by decide,rfl,by decide,by decide⟩
abbrev fQ:Stmt:=top 10
def fq:FnScope ["one", "other"] ["one", "other"] (az fQ):=⟨rfl,rfl,rfl,by decide,rfl,by decide,by decide⟩
abbrev iA:Stmt:=top 11
def gO:FnScope ["thing", "top", "bottom"] ["thing"] (az iA):=⟨rfl,rfl,rfl,by decide,rfl,by decide,by decide⟩
abbrev kz:Stmt:=top 18
def zg:FnScope ["thing"] ["thing"] (az kz):=⟨rfl,rfl,rfl,by decide,rfl,by decide,by decide⟩
abbrev jE:Stmt:=top 19
def tF:FnScope ["thing"] ["thing"] (az jE):=⟨rfl,rfl,rfl,by decide,rfl,by decide,by decide⟩
abbrev jW:Stmt:=top 22
def uu:FnScope ["thing"] ["thing"] (az jW):=⟨rfl,rfl,rfl,by decide,rfl,by decide,by decide⟩
abbrev eL:Stmt:=top 23
def m9:FnScope ["thing"] ["thing"] (az eL):=⟨rfl,rfl,rfl,by decide,rfl,by decide,by decide⟩
abbrev nM:Stmt:=top 20
def yh:FnScope ["thing"] ["thing"] (az nM):=⟨rfl,rfl,rfl,by decide,rfl,by decide,by decide⟩
abbrev jO:Stmt:=top 27
def uJ:FnScope ["thing"] ["thing"] (az jO):=⟨rfl,rfl,rfl,by decide,rfl,by decide,by decide⟩
abbrev lW:Stmt:=top 28
def iQ:FnScope ["thing", "many", "seen", "waiting", "part"] ["thing", "many"] (az lW):=⟨rfl,rfl,rfl,by decide,rfl,by decide,by decide⟩
abbrev jj:Stmt:=top 29
def rF:FnScope ["thing", "many"] ["thing", "many"] (az jj):=⟨rfl,rfl,rfl,by decide,rfl,by decide,by decide⟩
abbrev jK:Stmt:=top 21
def ub:FnScope ["way"] ["way"] (az jK):=⟨rfl,rfl,rfl,by decide,rfl,by decide,by decide⟩
abbrev lq:Stmt:=top 12
def jI:FnScope ["top", "bottom", "divisor"] ["top", "bottom"] (az lq):=⟨rfl,rfl,rfl,by decide,rfl,by decide,by decide⟩
abbrev qp:Stmt:=top 13
def Cr:FnScope ["one", "other"] ["one", "other"] (az qp):=⟨rfl,rfl,rfl,by decide,rfl,by decide,by decide⟩
abbrev pL:Stmt:=top 14
def AV:FnScope ["one", "other"] ["one", "other"] (az pL):=⟨rfl,rfl,rfl,by decide,rfl,by decide,by decide⟩
abbrev nA:Stmt:=top 24
def eN:FnScope ["start", "length", "weights", "whole", "ahead", "found", "weight", "begin"] ["start", "length", "weights"] (az nA):=⟨rfl,rfl,rfl,by decide,rfl,by decide,by decide⟩
abbrev jf:Stmt:=top 25
def ib:FnScope ["box", "way", "weights", "left", "top", "wide", "high"] ["box", "way", "weights"] (az jf):=⟨rfl,rfl,rfl,by decide,rfl,by decide,by decide⟩
abbrev jV:Stmt:=top 30
def gx:FnScope ["tree", "found", "waiting", "part"] ["tree"] (az jV):=⟨rfl,rfl,rfl,by decide,rfl,by decide,by decide⟩
abbrev iL:Stmt:=top 33
def jS:FnScope ["room", "weights", "tree", "way", "trees"] ["room", "weights", "tree"] (az iL):=⟨rfl,rfl,rfl,by decide,rfl,by decide,by decide⟩
abbrev mq:Stmt:=top 32
def kA:FnScope ["room", "weights", "tree", "placed", "part", "box"] ["room", "weights", "tree", "placed"] (az mq):=⟨rfl,rfl,rfl,by decide,rfl,by decide,by decide⟩
abbrev iO:Stmt:=top 31
def mS:FnScope ["room", "weights", "tree", "placed"] ["room", "weights", "tree"] (az iO):=⟨rfl,rfl,rfl,by decide,rfl,by decide,by decide⟩
abbrev ox:Stmt:=top 48
def eE:FnScope ["_law_script", "_law_feed_here", "_law_room_here", "_law_weights_here", "_law_order_here", "_law_tree_here", "_law_turn", "_law_kept", "_law_boxes", "_law_due", "_law_again", "_law_found"] ["_law_script"] (az ox):=⟨rfl,rfl,rfl,by decide,rfl,by decide,by decide⟩
def kits:gk:=[((.b "NoneType"),(.b "bool"),false),((.b "bool"),(.b "bool"),true),((.b "int"),(.b "bool"),false),((.b "str"),(.b "bool"),false),((.b "tuple"),(.b "bool"),false),((.b "list"),(.b "bool"),false),((.b "dict"),(.b "bool"),false),((.b "NoneType"),(.b "int"),false),((.b "bool"),(.b "int"),true),((.b "int"),(.b "int"),true),((.b "str"),(.b "int"),false),((.b "tuple"),(.b "int"),false),((.b "list"),(.b "int"),false),((.b "dict"),(.b "int"),false),((.b "NoneType"),(.b "list"),false),((.b "bool"),(.b "list"),false),((.b "int"),(.b "list"),false),((.b "str"),(.b "list"),false),((.b "tuple"),(.b "list"),false),((.b "list"),(.b "list"),true),((.b "dict"),(.b "list"),false),((.b "NoneType"),(.b "str"),false),((.b "bool"),(.b "str"),false),((.b "int"),(.b "str"),false),((.b "str"),(.b "str"),true),((.b "tuple"),(.b "str"),false),((.b "list"),(.b "str"),false),((.b "dict"),(.b "str"),false),((.b "NoneType"),(.b "tuple"),false),((.b "bool"),(.b "tuple"),false),((.b "int"),(.b "tuple"),false),((.b "str"),(.b "tuple"),false),((.b "tuple"),(.b "tuple"),true),((.b "list"),(.b "tuple"),false),((.b "dict"),(.b "tuple"),false)]
def gP:D:=(.int 40)
def uj:D:=(.tup [(.str "across"),(.str "down")])
structure Txt(K:W.Frag)(mg:Str->Option Value)(a_:Addr)(f_:Addr)(g_:Addr)(b_:Addr)(c_:Addr)(e_:Addr):Prop where
 s_:GC K mg "MOST_WEIGHTS" gP
 Mo:mg "NoBox"=some (.ref f_)
 w_:mg "NoFraction"=some (.ref a_)
 G_:mg "NoTree"=some (.ref e_)
 Mp:mg "NoWay"=some (.ref g_)
 u_:mg "NoWeights"=some (.ref b_)
 D_:mg "TooMany"=some (.ref c_)
 MN:GC K mg "WAYS" uj
 C_:mg "abs"=none
 M0:mg "all"=none
 MW:mg "bool"=none
 M3:mg "int"=none
 h_:mg "isinstance"=none
 k_:mg "len"=none
 K_:mg "list"=none
 Nf:mg "max"=none
 M4:mg "min"=none
 t_:mg "range"=none
 Ng:mg "set"=none
 Nh:mg "str"=none
 I_:mg "sum"=none
 r_:mg "tuple"=none
 M5:mg "zip"=none
 x_:W.excIn K a_ eY "ValueError.__new__"=true
 Mq:W.excIn K f_ eY "ValueError.__new__"=true
 Mr:W.excIn K g_ eY "ValueError.__new__"=true
 v_:W.excIn K b_ eY "ValueError.__new__"=true
 Em:W.excIn K c_ eY "ValueError.__new__"=true
 H_:W.excIn K e_ eY "ValueError.__new__"=true
 kits:KitsOk K mg kits
section
variable{P:Program}{w:World}{K:W.Frag}{mg:Str->Option Value}{base:Heap}{a_ f_ g_ b_ c_ e_:Addr}
def gj:PEx:=sA gP (.int 40) (λ_ _=>.int _)
def n9(e:E3):gj.G e=.ok (.val (.int 40)) e:=rfl
def qt:PEx:=sA uj (.tup [(.str "across"),(.str "down")]) (λ_ _=>.tup (.cons (.str _) (.cons (.str _) .nil)))
def Ek(e:E3):qt.G e=.ok (.val (.tup [(.str "across"),(.str "down")])) e:=rfl
def kI:PSt:=
 (aE (xIf (qOf (pOp bEq (pFn dD (ag (ah 0) ao)) (au 0))) (a8 (dF (ag (au 0) (ag (au 0) (ag (ah 1) ao))))) xNx)
  (a8 (dF (ag (pOp bIx (ah 0) (pOp c9 (ah 1) (pFn dD (ag (ah 0) ao)))) (ag (au 0) (ag (ah 1) ao))))))
def cD:PFn:=fnP [false,false] 2 kI
def u5:cD.ms=[false,false]:=rfl
def uq(T:Txt K mg a_ f_ g_ b_ c_ e_)(D:Def K mg "_law_feed" kq)  : Callee P w K mg base "_law_feed" (0+1) ["_law_script", "_law_k"] (spD K mg 2 cD.F):=by
 unfold cD kI
 exact okP D u9 (λ_ _ _ _ _ _=>ar2 λ_ _=>rfl) λf cdv A outer s H E hr=>
  (ar (bf (a0 (eW (K:=K) rfl hr.units) dH (aF (dR (K:=K) rfl) cZ rfl T.k_ cJ (aa (af 0) ai)) ak (aQ _)) (ay (aM (b8 (by refine aa ak ?_;refine aa ak ?_;refine aa (af 1) ?_;exact ai)))) aR)
   (ay (aM (b8 (by refine aa (aK (ixK (K:=K) rfl) aJ (af 0) (aC dg d6 (af 1) (aF (dR (K:=K) rfl) cZ rfl T.k_ cJ (aa (af 0) ai))) (λ_ _=>rfl)) ?_;refine aa ak ?_;refine aa (af 1) ?_;exact ai)))))
def lr:PSt:=
 (aE (ni 0 seL (au 1) (pOp bH (pOp bIx (ah 0) (au 1)) (au 1)))
  (aE (xIf (qOf (pOp bGe (pOp bIx (ah 0) (au 0)) (pOp gG (au 10) (au 18)))) (aE (aN false 2 (pOp c9 (pOp bIx (ah 0) (au 0)) (ah 1)))
  (aE (ni 0 seL (au 0) (pOp kY (pOp bIx (ah 0) (au 0)) (ah 1)))
  (a8 (ah 2)))) xNx)
  (aE (aN false 3 (pOp bH (pOp bH (pOp c9 (pOp bIx (ah 0) (au 0)) (au 1000003)) (pOp b9 (au 7919) (pOp bIx (ah 0) (au 2)))) (pOp b9 (au 104729) (pOp bIx (ah 0) (au 1)))))
  (aE (aN false 3 (pOp c9 (pOp b9 (ah 3) (au 48271)) (au 2147483647)))
  (a8 (pOp c9 (pOp c9 (pOp b9 (ah 3) (pOp bH (pOp c9 (ah 3) (au 65521)) (pOp bIx (ah 0) (au 1)))) (au 2147483629)) (ah 1)))))))
def aB:PFn:=fnP [true,false] 4 lr
def u4:aB.ms=[true,false]:=rfl
def uR(T:Txt K mg a_ f_ g_ b_ c_ e_)(D:Def K mg "_law_next" kC)  : Callee P w K mg base "_law_next" (0+1) ["_law_feed_here", "_law_many"] (spD K mg 2 aB.F):=by
 unfold aB lr
 exact okP D gW (λ_ _ _ _ _ _=>ar2 λ_ _=>rfl) λf cdv A outer s H E hr=>
  (ar (j4 (aC (aY (K:=K) rfl) aX (aK (ixK (K:=K) rfl) aJ (af 0) ak (λ_ _=>rfl)) ak) (af 0) ak m8 pI)
   (ar (bf (a0 nO oX (aK (ixK (K:=K) rfl) aJ (af 0) ak (λ_ _=>rfl)) (aC jm jq ak ak) (aQ _)) (ar (aH (i:=2) gW.nd rfl (by trivial) (aC dg d6 (aK (ixK (K:=K) rfl) aJ (af 0) ak (λ_ _=>rfl)) (af 1)))
   (ar (j4 (aC gC kg (aK (ixK (K:=K) rfl) aJ (af 0) ak (λ_ _=>rfl)) (af 1)) (af 0) ak m8 pI)
   (ay (aM (af 2))))) aR)
   (ar (aH (i:=3) gW.nd rfl (by trivial) (aC (aY (K:=K) rfl) aX (aC (aY (K:=K) rfl) aX (aC dg d6 (aK (ixK (K:=K) rfl) aJ (af 0) ak (λ_ _=>rfl)) ak) (aC bJ bK ak (aK (ixK (K:=K) rfl) aJ (af 0) ak (λ_ _=>rfl)))) (aC bJ bK ak (aK (ixK (K:=K) rfl) aJ (af 0) ak (λ_ _=>rfl)))))
   (ar (aH (i:=3) gW.nd rfl (by trivial) (aC dg d6 (aC bJ bK (af 3) ak) ak))
   (ay (aM (aC dg d6 (aC dg d6 (aC bJ bK (af 3) (aC (aY (K:=K) rfl) aX (aC dg d6 (af 3) ak) (aK (ixK (K:=K) rfl) aJ (af 0) ak (λ_ _=>rfl)))) ak) (af 1))))))))
def f6:PSt:=
 (iF 2 3 (ag (ah 3) (ag (pOp c9 (ah 2) (ah 3)) ao)))
def lC:PSt:=
 (aE (iF 2 3 (ag (pFn g9 (ag (ah 0) ao)) (ag (pFn g9 (ag (ah 1) ao)) ao)))
  (aE (xWh (qOf (pOp bGt (ah 3) (au 0))) (f6))
  (aE (xIf (qOf (pOp bLt (ah 1) (au 0))) (aN false 2 (pOp fZ (au 0) (ah 2))) xNx)
  (a8 (c8 (ag (pOp kY (ah 0) (ah 2)) (ag (pOp kY (ah 1) (ah 2)) ao)))))))
def aZ:PFn:=fnP [false,false] 4 lC
def xf:aZ.ms=[false,false]:=rfl
def vf(T:Txt K mg a_ f_ g_ b_ c_ e_)(D:Def K mg "_law_low" lZ)  : Callee P w K mg base "_law_low" (0+1) ["_law_top", "_law_bottom"] (spD K mg 2 aZ.F):=by
 unfold aZ lC f6
 exact okP D iS (λ_ _ _ _ _ _=>ar2 λ_ _=>rfl) λf cdv A outer s H E hr=>
  (ar (fC (i:=2) (j:=3) rfl iS.nd rfl rfl (by decide) rfl rfl (aa (aF eP ie rfl T.C_ ig (aa (af 0) ai)) (aa (aF eP ie rfl T.C_ ig (aa (af 1) ai)) ai)) rfl)
   (ar (kX ft (a0 og oQ (af 3) ak (aQ _)) (ay (fC (i:=2) (j:=3) rfl iS.nd rfl rfl (by decide) rfl rfl (aa (af 3) (aa (aC dg d6 (af 2) (af 3)) ai)) rfl)))
   (ar (bf (a0 rP rT (af 1) ak (aQ _)) (ay (aH (i:=2) iS.nd rfl (by trivial) (aC eD eB ak (af 2)))) aR)
   (ay (aM (bW (aa (aC gC kg (af 0) (af 2)) (aa (aC gC kg (af 1) (af 2)) ai))))))))
def jc:PSt:=
 (aN false 2 (pOp bH (pOp b9 (ah 2) (pOp gG (au 10) (au 6))) (aA aB (ag (ah 0) (ag (pOp gG (au 10) (au 6)) ao)))))
def jU:PSt:=
 (aE (aN false 2 (au 0))
  (aE (gB (iW (ag (au 6) ao)) (gtN 3) (jc))
  (a8 (pOp fZ (pOp c9 (ah 2) (pOp bH (pOp b9 (au 2) (ah 1)) (au 1))) (ah 1)))))
def bE:PFn:=fnP [true,false] 4 jU
def sC:bE.ms=[true,false]:=rfl
def rJ(T:Txt K mg a_ f_ g_ b_ c_ e_)(D:Def K mg "_law_great" jG)(d_:Callee P w K mg base "_law_next" 1 ["_law_feed_here", "_law_many"] (spD K mg 2 aB.F)):Callee P w K mg base "_law_great" (1+1) ["_law_feed_here", "_law_far"] (spD K mg 2 bE.F):=by
 unfold bE jU jc
 exact okP D gc (λ_ _ _ _ _ _=>ar2 λ_ _=>rfl) λf cdv A outer s H E hr=>
  (ar (aH (i:=2) gc.nd rfl (by trivial) ak)
   (ar (eZ ft rfl (eV rfl T.t_ (aa ak ai)) (aL (i:=3) gc.nd rfl (by trivial)) (ay (aH (i:=2) gc.nd rfl (by trivial) (aC (aY (K:=K) rfl) aX (aC bJ bK (af 2) (aC jm jq ak ak)) (aw d_ (hr.mono (by omega)) rfl (aq aD) (aa (af 0) (aa (aC jm jq ak ak) ai)))))))
   (ay (aM (aC eD eB (aC dg d6 (af 2) (aC (aY (K:=K) rfl) aX (aC bJ bK ak (af 1)) ak)) (af 1))))))
def iN:PSt:=
 (aE (aN false 1 (aA aB (ag (ah 0) (ag (au 6) ao))))
  (aE (iF 2 3 (ag (c8 (ag (pOp fZ (aA aB (ag (ah 0) (ag (au 19) ao))) (au 9)) (ag (au 1) ao))) (ag (c8 (ag (pOp fZ (aA aB (ag (ah 0) (ag (au 19) ao))) (au 9)) (ag (au 1) ao))) ao)))
  (aE (iF 4 5 (ag (c8 (ag (pOp bH (au 1) (aA aB (ag (ah 0) (ag (au 12) ao)))) (ag (au 1) ao))) (ag (c8 (ag (pOp bH (au 1) (aA aB (ag (ah 0) (ag (au 12) ao)))) (ag (au 1) ao))) ao)))
  (aE (xIf (qOf (pOp bEq (ah 1) (au 1))) (aN false 5 (ah 4)) xNx)
  (aE (xIf (qOf (pOp bEq (ah 1) (au 2))) (aN false 4 (c8 (ag (pOp bH (au 1) (aA aB (ag (ah 0) (ag (au 99) ao)))) (ag (au 1) ao)))) xNx)
  (aE (xIf (qOf (pOp bEq (ah 1) (au 3))) (aN false 5 (c8 (ag (pOp bH (au 1) (aA aB (ag (ah 0) (ag (au 99) ao)))) (ag (au 1) ao)))) xNx)
  (aE (xIf (qOf (pOp bEq (ah 1) (au 4))) (aE (iF 2 3 (ag (aA aZ (ag (pOp fZ (aA aB (ag (ah 0) (ag (au 199) ao))) (au 99)) (ag (pOp bH (au 1) (aA aB (ag (ah 0) (ag (au 30) ao)))) ao))) (ag (aA aZ (ag (aA aB (ag (ah 0) (ag (au 9) ao))) (ag (au 7) ao))) ao)))
  (iF 4 5 (ag (aA aZ (ag (pOp bH (au 1) (aA aB (ag (ah 0) (ag (au 99) ao)))) (ag (pOp bH (au 1) (aA aB (ag (ah 0) (ag (au 30) ao)))) ao))) (ag (aA aZ (ag (pOp bH (au 1) (aA aB (ag (ah 0) (ag (au 99) ao)))) (ag (au 11) ao))) ao)))) xNx)
  (aE (xIf (qOf (pOp bEq (ah 1) (au 5))) (aE (aN false 6 (pOp fZ (pOp gG (au 10) (au 30)) (au 1)))
  (aE (iF 2 3 (ag (aA aZ (ag (aA bE (ag (ah 0) (ag (ah 6) ao))) (ag (pOp bH (au 1) (pFn g9 (ag (aA bE (ag (ah 0) (ag (pOp fZ (ah 6) (au 1)) ao))) ao))) ao))) (ag (c8 (ag (aA bE (ag (ah 0) (ag (ah 6) ao))) (ag (au 1) ao))) ao)))
  (iF 4 5 (ag (c8 (ag (pOp bH (au 1) (pFn g9 (ag (aA bE (ag (ah 0) (ag (pOp fZ (ah 6) (au 1)) ao))) ao))) (ag (au 1) ao))) (ag (aA aZ (ag (pOp bH (au 1) (pFn g9 (ag (aA bE (ag (ah 0) (ag (pOp fZ (ah 6) (au 1)) ao))) ao))) (ag (ah 6) ao))) ao))))) xNx)
  (a8 (c8 (ag (ah 2) (ag (ah 3) (ag (ah 4) (ag (ah 5) ao))))))))))))))
def d9:PFn:=fnP [true] 7 iN
def vd:d9.ms=[true]:=rfl
def ud(T:Txt K mg a_ f_ g_ b_ c_ e_)(D:Def K mg "_law_room" lg)(d_:Callee P w K mg base "_law_next" 1 ["_law_feed_here", "_law_many"] (spD K mg 2 aB.F))(i_:Callee P w K mg base "_law_low" 1 ["_law_top", "_law_bottom"] (spD K mg 2 aZ.F))(j_:Callee P w K mg base "_law_great" 2 ["_law_feed_here", "_law_far"] (spD K mg 2 bE.F)):Callee P w K mg base "_law_room" (2+1) ["_law_feed_here"] (spD K mg 1 d9.F):=by
 unfold d9 iN
 exact okP D bL (λ_ _ _ _ _ _=>ar1 λ_=>rfl) λf cdv A outer s H E hr=>
  (ar (aH (i:=1) bL.nd rfl (by trivial) (aw d_ (hr.mono (by omega)) rfl (aq aD) (aa (af 0) (aa ak ai))))
   (ar (fC (i:=2) (j:=3) rfl bL.nd rfl rfl (by decide) rfl rfl (aa (bW (aa (aC eD eB (aw d_ (hr.mono (by omega)) rfl (aq aD) (aa (af 0) (aa ak ai))) ak) (aa ak ai))) (aa (bW (aa (aC eD eB (aw d_ (hr.mono (by omega)) rfl (aq aD) (aa (af 0) (aa ak ai))) ak) (aa ak ai))) ai)) rfl)
   (ar (fC (i:=4) (j:=5) rfl bL.nd rfl rfl (by decide) rfl rfl (aa (bW (aa (aC (aY (K:=K) rfl) aX ak (aw d_ (hr.mono (by omega)) rfl (aq aD) (aa (af 0) (aa ak ai)))) (aa ak ai))) (aa (bW (aa (aC (aY (K:=K) rfl) aX ak (aw d_ (hr.mono (by omega)) rfl (aq aD) (aa (af 0) (aa ak ai)))) (aa ak ai))) ai)) rfl)
   (ar (bf (a0 (eW (K:=K) rfl hr.units) dH (af 1) ak (aQ _)) (ay (aH (i:=5) bL.nd rfl (by trivial) (af 4))) aR)
   (ar (bf (a0 (eW (K:=K) rfl hr.units) dH (af 1) ak (aQ _)) (ay (aH (i:=4) bL.nd rfl (by trivial) (bW (aa (aC (aY (K:=K) rfl) aX ak (aw d_ (hr.mono (by omega)) rfl (aq aD) (aa (af 0) (aa ak ai)))) (aa ak ai))))) aR)
   (ar (bf (a0 (eW (K:=K) rfl hr.units) dH (af 1) ak (aQ _)) (ay (aH (i:=5) bL.nd rfl (by trivial) (bW (aa (aC (aY (K:=K) rfl) aX ak (aw d_ (hr.mono (by omega)) rfl (aq aD) (aa (af 0) (aa ak ai)))) (aa ak ai))))) aR)
   (ar (bf (a0 (eW (K:=K) rfl hr.units) dH (af 1) ak (aQ _)) (ar (fC (i:=2) (j:=3) rfl bL.nd rfl rfl (by decide) rfl rfl (aa (aw i_ (hr.mono (by omega)) rfl (aq aD) (aa (aC eD eB (aw d_ (hr.mono (by omega)) rfl (aq aD) (aa (af 0) (aa ak ai))) ak) (aa (aC (aY (K:=K) rfl) aX ak (aw d_ (hr.mono (by omega)) rfl (aq aD) (aa (af 0) (aa ak ai)))) ai))) (aa (aw i_ (hr.mono (by omega)) rfl (aq aD) (aa (aw d_ (hr.mono (by omega)) rfl (aq aD) (aa (af 0) (aa ak ai))) (aa ak ai))) ai)) rfl)
   (ay (fC (i:=4) (j:=5) rfl bL.nd rfl rfl (by decide) rfl rfl (aa (aw i_ (hr.mono (by omega)) rfl (aq aD) (aa (aC (aY (K:=K) rfl) aX ak (aw d_ (hr.mono (by omega)) rfl (aq aD) (aa (af 0) (aa ak ai)))) (aa (aC (aY (K:=K) rfl) aX ak (aw d_ (hr.mono (by omega)) rfl (aq aD) (aa (af 0) (aa ak ai)))) ai))) (aa (aw i_ (hr.mono (by omega)) rfl (aq aD) (aa (aC (aY (K:=K) rfl) aX ak (aw d_ (hr.mono (by omega)) rfl (aq aD) (aa (af 0) (aa ak ai)))) (aa ak ai))) ai)) rfl))) aR)
   (ar (bf (a0 (eW (K:=K) rfl hr.units) dH (af 1) ak (aQ _)) (ar (aH (i:=6) bL.nd rfl (by trivial) (aC eD eB (aC jm jq ak ak) ak))
   (ar (fC (i:=2) (j:=3) rfl bL.nd rfl rfl (by decide) rfl rfl (aa (aw i_ (hr.mono (by omega)) rfl (aq aD) (aa (aw j_ (hr.mono (by omega)) rfl (aq aD) (aa (af 0) (aa (af 6) ai))) (aa (aC (aY (K:=K) rfl) aX ak (aF eP ie rfl T.C_ ig (aa (aw j_ (hr.mono (by omega)) rfl (aq aD) (aa (af 0) (aa (aC eD eB (af 6) ak) ai))) ai))) ai))) (aa (bW (aa (aw j_ (hr.mono (by omega)) rfl (aq aD) (aa (af 0) (aa (af 6) ai))) (aa ak ai))) ai)) rfl)
   (ay (fC (i:=4) (j:=5) rfl bL.nd rfl rfl (by decide) rfl rfl (aa (bW (aa (aC (aY (K:=K) rfl) aX ak (aF eP ie rfl T.C_ ig (aa (aw j_ (hr.mono (by omega)) rfl (aq aD) (aa (af 0) (aa (aC eD eB (af 6) ak) ai))) ai))) (aa ak ai))) (aa (aw i_ (hr.mono (by omega)) rfl (aq aD) (aa (aC (aY (K:=K) rfl) aX ak (aF eP ie rfl T.C_ ig (aa (aw j_ (hr.mono (by omega)) rfl (aq aD) (aa (af 0) (aa (aC eD eB (af 6) ak) ai))) ai))) (aa (af 6) ai))) ai)) rfl)))) aR)
   (ay (aM (bW (by refine aa (af 2) ?_;refine aa (af 3) ?_;refine aa (af 4) ?_;refine aa (af 5) ?_;exact ai))))))))))))
def dY:PSt:=
 (aE (aN true 3 (aA cD (ag (ah 0) (ag (pOp bH (pOp bH (ah 1) (au 1)) (ah 8)) ao))))
  (aE (aN false 9 (pOp bIx (dF (ag (au 1) (ag (pOp bH (au 1) (aA aB (ag (ah 3) (ag (au 9) ao)))) (ag (pOp tj (au 1) (pOp c9 (ah 8) (au 24))) (ag (pOp bH (au 1) (aA aB (ag (ah 3) (ag (au 9) ao)))) (ag (au 1) (ag (pOp bH (au 1) (aA aB (ag (ah 3) (ag (au 3) ao)))) ao))))))) (ah 6)))
  (aE (xIf (qAn (qOf (pOp bEq (ah 6) (au 3))) (qOf (pOp bEq (aA aB (ag (ah 3) (ag (au 4) ao))) (au 0)))) (aN false 9 (pOp bH (pOp gG (au 10) (au 29)) (aA aB (ag (ah 3) (ag (au 100) ao))))) xNx)
  (aE (xIf (qOf (pOp bEq (ah 6) (au 4))) (aN false 9 (pOp bH (au 1) (pFn g9 (ag (aA bE (ag (ah 3) (ag (pOp fZ (pOp gG (au 10) (au 30)) (au 2)) ao))) ao)))) xNx)
  (cF (jM 7 fK (ag (ah 9) ao)))))))
def fF:PSt:=
 (aE (aN true 3 (aA cD (ag (ah 0) (ag (ah 1) ao))))
  (aE (aN false 4 (pOp bH (au 1) (aA aB (ag (ah 3) (ag (pFn oC (ag (ah 2) (ag (au 7) ao))) ao)))))
  (aE (aN false 5 (aA aB (ag (ah 3) (ag (au 6) ao))))
  (aE (xIf (qOf (pOp bLt (ah 5) (au 2))) (aN false 4 (pOp bIx (dF (ag (ah 2) (ag (pFn uc (ag (au 1) (ag (pOp kY (pOp b9 (ah 4) (ah 2)) (au 8)) ao))) ao))) (ah 5))) xNx)
  (aE (aN false 6 (aA aB (ag (ah 3) (ag (au 6) ao))))
  (aE (xIf (qOf (pOp bGt (ah 4) (au 9))) (aN false 6 (pOp c9 (ah 6) (au 3))) xNx)
  (aE (aN true 7 (dF ao))
  (aE (gB (iW (ag (ah 4) ao)) (gtN 8) (dY))
  (a8 (ah 7))))))))))
def cS:PFn:=fnP [false,false,false] 10 fF
def pX:cS.ms=[false,false,false]:=rfl
def oH(T:Txt K mg a_ f_ g_ b_ c_ e_)(D:Def K mg "_law_weights" iD)(y_:Callee P w K mg base "_law_feed" 1 ["_law_script", "_law_k"] (spD K mg 2 cD.F))(d_:Callee P w K mg base "_law_next" 1 ["_law_feed_here", "_law_many"] (spD K mg 2 aB.F))(j_:Callee P w K mg base "_law_great" 2 ["_law_feed_here", "_law_far"] (spD K mg 2 bE.F)):Callee P w K mg base "_law_weights" (2+1) ["_law_script", "_law_at", "_law_most"] (spD K mg 3 cS.F):=by
 unfold cS fF dY
 exact okP D aV (λ_ _ _ _ _ _=>ar3 λ_ _ _=>rfl) λf cdv A outer s H E hr=>
  (ar (aH (i:=3) aV.nd rfl (by trivial) (aw y_ (hr.mono (by omega)) rfl (aq aD) (aa (af 0) (aa (af 1) ai))))
   (ar (aH (i:=4) aV.nd rfl (by trivial) (aC (aY (K:=K) rfl) aX ak (aw d_ (hr.mono (by omega)) rfl (aq aD) (aa (af 3) (aa (aF (qJ rfl) vV rfl T.M4 yQ (aa (af 2) (aa ak ai))) ai)))))
   (ar (aH (i:=5) aV.nd rfl (by trivial) (aw d_ (hr.mono (by omega)) rfl (aq aD) (aa (af 3) (aa ak ai))))
   (ar (bf (a0 rP rT (af 5) ak (aQ _)) (ay (aH (i:=4) aV.nd rfl (by trivial) (aK (ixK (K:=K) rfl) aJ (b8 (aa (af 2) (aa (aF (yJ rfl) Di rfl T.Nf Ie (aa ak (aa (aC gC kg (aC bJ bK (af 4) (af 2)) ak) ai))) ai))) (af 5) (λ_ _=>rfl)))) aR)
   (ar (aH (i:=6) aV.nd rfl (by trivial) (aw d_ (hr.mono (by omega)) rfl (aq aD) (aa (af 3) (aa ak ai))))
   (ar (bf (a0 og oQ (af 4) ak (aQ _)) (ay (aH (i:=6) aV.nd rfl (by trivial) (aC dg d6 (af 6) ak))) aR)
   (ar (aH (i:=7) aV.nd rfl (by trivial) (b8 ai))
   (ar (eZ ft rfl (eV rfl T.t_ (aa (af 4) ai)) (aL (i:=8) aV.nd rfl (by trivial)) (ar (aH (i:=3) aV.nd rfl (by trivial) (aw y_ (hr.mono (by omega)) rfl (aq aD) (aa (af 0) (aa (aC (aY (K:=K) rfl) aX (aC (aY (K:=K) rfl) aX (af 1) ak) (af 8)) ai))))
   (ar (aH (i:=9) aV.nd rfl (by trivial) (aK (ixK (K:=K) rfl) aJ (b8 (by refine aa ak ?_;refine aa (aC (aY (K:=K) rfl) aX ak (aw d_ (hr.mono (by omega)) rfl (aq aD) (aa (af 3) (aa ak ai)))) ?_;refine aa (aC Ij FP ak (aC dg d6 (af 8) ak)) ?_;refine aa (aC (aY (K:=K) rfl) aX ak (aw d_ (hr.mono (by omega)) rfl (aq aD) (aa (af 3) (aa ak ai)))) ?_;refine aa ak ?_;refine aa (aC (aY (K:=K) rfl) aX ak (aw d_ (hr.mono (by omega)) rfl (aq aD) (aa (af 3) (aa ak ai)))) ?_;exact ai)) (af 6) (λ_ _=>rfl)))
   (ar (bf (ZW.dt (Gy (a0 (eW (K:=K) rfl hr.units) dH (af 6) ak (aQ _)) (Dj (a0 (eW (K:=K) rfl hr.units) dH (aw d_ (hr.mono (by omega)) rfl (aq aD) (aa (af 3) (aa ak ai))) ak (aQ _))))) (ay (aH (i:=9) aV.nd rfl (by trivial) (aC (aY (K:=K) rfl) aX (aC jm jq ak ak) (aw d_ (hr.mono (by omega)) rfl (aq aD) (aa (af 3) (aa ak ai)))))) aR)
   (ar (bf (a0 (eW (K:=K) rfl hr.units) dH (af 6) ak (aQ _)) (ay (aH (i:=9) aV.nd rfl (by trivial) (aC (aY (K:=K) rfl) aX ak (aF eP ie rfl T.C_ ig (aa (aw j_ (hr.mono (by omega)) rfl (aq aD) (aa (af 3) (aa (aC eD eB (aC jm jq ak ak) ak) ai))) ai))))) aR)
   (ay (bN (ic rfl Pd Pe fS ip (af 7) (aa (af 9) ai)))))))))
   (ay (aM (af 7)))))))))))
def gq:PSt:=
 (cF (jM 2 nr (ag (aA aB (ag (ah 0) (ag (pOp bH (pFn dD (ag (ah 2) ao)) (au 1)) ao))) (ag (ah 3) ao))))
def jX:PSt:=
 (aE (aN true 2 (dF ao))
  (aE (gB (iW (ag (ah 1) ao)) (gtN 3) (gq))
  (a8 (ah 2))))
def dP:PFn:=fnP [true,false] 4 jX
def sf:dP.ms=[true,false]:=rfl
def rG(T:Txt K mg a_ f_ g_ b_ c_ e_)(D:Def K mg "_law_order" j3)(d_:Callee P w K mg base "_law_next" 1 ["_law_feed_here", "_law_many"] (spD K mg 2 aB.F)):Callee P w K mg base "_law_order" (1+1) ["_law_feed_here", "_law_many"] (spD K mg 2 dP.F):=by
 unfold dP jX gq
 exact okP D jo (λ_ _ _ _ _ _=>ar2 λ_ _=>rfl) λf cdv A outer s H E hr=>
  (ar (aH (i:=2) jo.nd rfl (by trivial) (b8 ai))
   (ar (eZ ft rfl (eV rfl T.t_ (aa (af 1) ai)) (aL (i:=3) jo.nd rfl (by trivial)) (ay (bN (ic rfl PySem.F.slot_list_insert PySem.F.type_list_insert yx y0 (af 2) (aa (aw d_ (hr.mono (by omega)) rfl (aq aD) (aa (af 0) (aa (aC (aY (K:=K) rfl) aX (aF (dR (K:=K) rfl) cZ rfl T.k_ cJ (aa (af 2) ai)) ak) ai))) (aa (af 3) ai))))))
   (ay (aM (af 2)))))
def eu(s:PFx [true,false]):PSt:=
 (aE (xIf (qOf (pOp bEq (pFn dD (ag (ah 1) ao)) (au 1))) (a8 (pOp bIx (ah 1) (au 0))) xNx)
  (aE (aN false 2 (pOp bH (au 2) (aA aB (ag (ah 0) (ag (pFn oC (ag (au 3) (ag (pOp fZ (pFn dD (ag (ah 1) ao)) (au 1)) ao))) ao)))))
  (aE (x6 (bZ (pSl (ah 1) oN (oS (ah 2)))) (bZ (pSl (ah 1) (oS (ah 2)) oN)) 3 4 (aA aB (ag (ah 0) (ag (ah 2) ao))) (by decide))
  (a8 (c8 (ag (pOp bIx (dF (ag (fN "across") (ag (fN "down") ao))) (aA aB (ag (ah 0) (ag (au 2) ao)))) (ag (pFn pC (ag (pLC (bZ (ah 3)) [none,some 0] (by decide) (gtN 0) qY (aA s.fn (ag (ah 1) (ag (ah 0) ao)))) ao)) ao)))))))
def bM:Nat->PFx [true,false]
 |0=>PFx.none [true,false]
 |n+1=>PFx.of [true,false] 5 (eu (bM n))
def tL{n:Nat}(T:Txt K mg a_ f_ g_ b_ c_ e_)(D:Def K mg "_law_tree" fj)(d_:Callee P w K mg base "_law_next" 1 ["_law_feed_here", "_law_many"] (spD K mg 2 aB.F))(E_:Callee P w K mg base "_law_tree" (3+n) ["_law_feed_here", "_law_numbers"] (spD K mg 2 (bM n).F)):Callee P w K mg base "_law_tree" (3+n+1) ["_law_feed_here", "_law_numbers"] (spD K mg 2 (bM (n+1)).F):=by
 show Callee P w K mg base _ _ _ (spD K mg _ (PFx.of [true,false] 5 (eu (bM n))).F)
 unfold eu
 exact okX D fB (λ_ _ _ _ _ _=>ar2 λ_ _=>rfl) λf cdv A outer s H E hr=>
  (ar (bf (a0 (eW (K:=K) rfl hr.units) dH (aF (dR (K:=K) rfl) cZ rfl T.k_ cJ (aa (af 1) ai)) ak (aQ _)) (ay (aM (aK (ixK (K:=K) rfl) aJ (af 1) ak (λ_ _=>rfl)))) aR)
   (ar (aH (i:=2) fB.nd rfl (by trivial) (aC (aY (K:=K) rfl) aX ak (aw d_ (hr.mono (by omega)) rfl (aq aD) (aa (af 0) (aa (aF (qJ rfl) vV rfl T.M4 yQ (aa ak (aa (aC eD eB (aF (dR (K:=K) rfl) cZ rfl T.k_ cJ (aa (af 1) ai)) ak) ai))) ai)))))
   (Bz (ow:=false) (hsb:=by decide) (xA (iT:=3) ["_law_feed_here", "_law_numbers", "_law_many", "_law_some", "_law_number"] (az fj).names ["_law_number"] [none] rfl fB.nd rfl (by trivial) (cU rfl (nJ rfl (af 1) pW (o9 (af 2)))) (λ_ _ _ _ _=>(aL (i:=0) (show List.Nodup (["_law_number"]:List Str) from by decide) rfl (by trivial))) (λ_ _ _ _ _=>(b8 (aa (af 0) ai)))) ft rfl rfl (cU rfl (nJ rfl (af 1) (o9 (af 2)) pW)) (aL (i:=4) fB.nd rfl (by trivial)) (af 3) (aw d_ (hr.mono (by omega)) rfl (aq aD) (aa (af 0) (aa (af 2) ai))) (af 4)
   (ay (aM (bW (aa (aK (ixK (K:=K) rfl) aJ (b8 (aa d4 (aa d4 ai))) (aw d_ (hr.mono (by omega)) rfl (aq aD) (aa (af 0) (aa ak ai))) (λ_ _=>rfl)) (aa (l6 (Fm (K:=K) rfl) AA rfl T.r_ eg (aa (gU ["_law_feed_here", "_law_numbers", "_law_many", "_law_some", "_law_number"] (az fj).names ["_law_part", "_law_feed_here"] [none,some 0] rfl (cU rfl (af 3)) (λ_ _ _ _ _=>(aL (i:=0) (show List.Nodup (["_law_part", "_law_feed_here"]:List Str) from by decide) rfl (by trivial))) (λ_ _ _ _ _=>(aw E_ (hr.mono (by omega)) rfl gL (aa (af 1) (aa (af 0) ai))))) ai)) ai))))))))
theorem lA(T:Txt K mg a_ f_ g_ b_ c_ e_)(D:Def K mg "_law_tree" fj)(d_:Callee P w K mg base "_law_next" 1 ["_law_feed_here", "_law_many"] (spD K mg 2 aB.F)):∀n,Callee P w K mg base "_law_tree" (3+n) ["_law_feed_here", "_law_numbers"] (spD K mg 2 (bM n).F)
 |0=>ok0 D fB (λ_ _ _ _ _ _=>ar2 λ_ _=>rfl)
 |n+1=>tL T D d_ (lA T D d_ n)
def dZ:PSt:=
 (aN false 2 (c8 (ag (pOp bIx (dF (ag (fN "across") (ag (fN "down") ao))) (aA aB (ag (ah 0) (ag (au 2) ao)))) (ag (pOp bIx (dF (ag (c8 (ag (ah 3) (ag (ah 2) ao))) (ag (c8 (ag (ah 2) (ag (ah 3) ao))) ao))) (aA aB (ag (ah 0) (ag (au 2) ao)))) ao))))
def jJ:PSt:=
 (aE (aN false 2 (pOp bIx (ah 1) (au 0)))
  (aE (gB (bZ (pSl (ah 1) (oS (au 1)) oN)) (gtN 3) (dZ))
  (a8 (ah 2))))
def dN:PFn:=fnP [true,false] 4 jJ
def tK:dN.ms=[true,false]:=rfl
def rA(T:Txt K mg a_ f_ g_ b_ c_ e_)(D:Def K mg "_law_chain" j0)(d_:Callee P w K mg base "_law_next" 1 ["_law_feed_here", "_law_many"] (spD K mg 2 aB.F)):Callee P w K mg base "_law_chain" (1+1) ["_law_feed_here", "_law_numbers"] (spD K mg 2 dN.F):=by
 unfold dN jJ dZ
 exact okP D gw (λ_ _ _ _ _ _=>ar2 λ_ _=>rfl) λf cdv A outer s H E hr=>
  (ar (aH (i:=2) gw.nd rfl (by trivial) (aK (ixK (K:=K) rfl) aJ (af 1) ak (λ_ _=>rfl)))
   (ar (eZ ft rfl (cU rfl (nJ rfl (af 1) (o9 ak) pW)) (aL (i:=3) gw.nd rfl (by trivial)) (ay (aH (i:=2) gw.nd rfl (by trivial) (bW (aa (aK (ixK (K:=K) rfl) aJ (b8 (aa d4 (aa d4 ai))) (aw d_ (hr.mono (by omega)) rfl (aq aD) (aa (af 0) (aa ak ai))) (λ_ _=>rfl)) (aa (aK (ixK (K:=K) rfl) aJ (b8 (aa (bW (aa (af 3) (aa (af 2) ai))) (aa (bW (aa (af 2) (aa (af 3) ai))) ai))) (aw d_ (hr.mono (by omega)) rfl (aq aD) (aa (af 0) (aa ak ai))) (λ_ _=>rfl)) ai))))))
   (ay (aM (af 2)))))
def dn(s:PFx [false]):PSt:=
 (aE (xIf (qNo (qOf (pFn (bA kits) (ag (ah 0) (ag (pTy "tuple") ao))))) (a8 (dF (ag (ah 0) ao))) xNx)
  (a8 (pFn uD (ag (pLC (bZ (pOp bIx (ah 0) (au 1))) [none] (by decide) (gtN 0) qY (aA s.fn (ag (ah 0) ao))) (ag (dF ao) ao)))))
def ba:Nat->PFx [false]
 |0=>PFx.none [false]
 |n+1=>PFx.of [false] 1 (dn (ba n))
def qu{n:Nat}(T:Txt K mg a_ f_ g_ b_ c_ e_)(D:Def K mg "_law_leaves" eQ)(o_:Callee P w K mg base "_law_leaves" (2+n) ["_law_tree_here"] (spD K mg 1 (ba n).F)):Callee P w K mg base "_law_leaves" (2+n+1) ["_law_tree_here"] (spD K mg 1 (ba (n+1)).F):=by
 show Callee P w K mg base _ _ _ (spD K mg _ (PFx.of [false] 1 (dn (ba n))).F)
 unfold dn
 exact okX D lB (λ_ _ _ _ _ _=>ar1 λ_=>rfl) λf cdv A outer s H E hr=>
  (ar (bf (cV (cx (aF (fh (K:=K) rfl) (dX T.kits) rfl T.h_ a9 (aa (af 0) (aa (fg rfl T.r_ eg) ai))))) (ay (aM (b8 (aa (af 0) ai)))) aR)
   (ay (aM (aF (xP rfl) Dr rfl T.I_ lM (aa (gU ["_law_tree_here"] (az eQ).names ["_law_one"] [none] rfl (cU rfl (aK (ixK (K:=K) rfl) aJ (af 0) ak (λ_ _=>rfl))) (λ_ _ _ _ _=>(aL (i:=0) (show List.Nodup (["_law_one"]:List Str) from by decide) rfl (by trivial))) (λ_ _ _ _ _=>(aw o_ (hr.mono (by omega)) rfl gL (aa (af 0) ai)))) (aa (b8 ai) ai))))))
theorem ju(T:Txt K mg a_ f_ g_ b_ c_ e_)(D:Def K mg "_law_leaves" eQ)  : ∀n,Callee P w K mg base "_law_leaves" (2+n) ["_law_tree_here"] (spD K mg 1 (ba n).F)
 |0=>ok0 D lB (λ_ _ _ _ _ _=>ar1 λ_=>rfl)
 |n+1=>qu T D (ju T D n)
def lU:PSt:=
 (a8 (aA aZ (ag (pOp bH (pOp b9 (pOp bIx (ah 0) (au 0)) (pOp bIx (ah 1) (au 1))) (pOp b9 (pOp bIx (ah 1) (au 0)) (pOp bIx (ah 0) (au 1)))) (ag (pOp b9 (pOp bIx (ah 0) (au 1)) (pOp bIx (ah 1) (au 1))) ao))))
def d8:PFn:=fnP [false,false] 2 lU
def xY:d8.ms=[false,false]:=rfl
def vc(T:Txt K mg a_ f_ g_ b_ c_ e_)(D:Def K mg "_law_add" lT)(i_:Callee P w K mg base "_law_low" 1 ["_law_top", "_law_bottom"] (spD K mg 2 aZ.F)):Callee P w K mg base "_law_add" (1+1) ["_law_one", "_law_two"] (spD K mg 2 d8.F):=by
 unfold d8 lU
 exact okP D wO (λ_ _ _ _ _ _=>ar2 λ_ _=>rfl) λf cdv A outer s H E hr=>
  (ay (aM (aw i_ (hr.mono (by omega)) rfl (aq aD) (aa (aC (aY (K:=K) rfl) aX (aC bJ bK (aK (ixK (K:=K) rfl) aJ (af 0) ak (λ_ _=>rfl)) (aK (ixK (K:=K) rfl) aJ (af 1) ak (λ_ _=>rfl))) (aC bJ bK (aK (ixK (K:=K) rfl) aJ (af 1) ak (λ_ _=>rfl)) (aK (ixK (K:=K) rfl) aJ (af 0) ak (λ_ _=>rfl)))) (aa (aC bJ bK (aK (ixK (K:=K) rfl) aJ (af 0) ak (λ_ _=>rfl)) (aK (ixK (K:=K) rfl) aJ (af 1) ak (λ_ _=>rfl))) ai)))))
def dC:PSt:=
 (aE (xIf (qOf (pOp bEq (ah 1) (fN "across"))) (aE (aN false 11 (aA d8 (ag (ah 3) (ag (aA aZ (ag (pOp b9 (pOp bIx (ah 5) (au 0)) (ah 9)) (ag (pOp b9 (pOp bIx (ah 5) (au 1)) (ah 7)) ao))) ao))))
  (cF (jM 8 fK (ag (c8 (ag (ah 11) (ag (ah 4) (ag (aA aZ (ag (pOp b9 (pOp bIx (ah 5) (au 0)) (ah 10)) (ag (pOp b9 (pOp bIx (ah 5) (au 1)) (ah 7)) ao))) (ag (ah 6) ao))))) ao)))) (aE (aN false 11 (aA d8 (ag (ah 4) (ag (aA aZ (ag (pOp b9 (pOp bIx (ah 6) (au 0)) (ah 9)) (ag (pOp b9 (pOp bIx (ah 6) (au 1)) (ah 7)) ao))) ao))))
  (cF (jM 8 fK (ag (c8 (ag (ah 3) (ag (ah 11) (ag (ah 5) (ag (aA aZ (ag (pOp b9 (pOp bIx (ah 6) (au 0)) (ah 10)) (ag (pOp b9 (pOp bIx (ah 6) (au 1)) (ah 7)) ao))) ao))))) ao)))))
  (aN false 9 (pOp bH (ah 9) (ah 10))))
def jH:PSt:=
 (aE (mH (ah 0) (gtX (gtT 4 (bO (gtN 3) (bO (gtN 4) (bO (gtN 5) (bO (gtN 6) fu)))))))
  (aE (aN false 7 (pFn iU (ag (ah 2) ao)))
  (aE (aN true 8 (dF ao))
  (aE (aN false 9 (au 0))
  (aE (gB (bZ (ah 2)) (gtN 10) (dC))
  (a8 (ah 8)))))))
def da:PFn:=fnP [false,false,false] 12 jH
def tM:da.ms=[false,false,false]:=rfl
def rN(T:Txt K mg a_ f_ g_ b_ c_ e_)(D:Def K mg "_law_parts" jR)(Mv:Callee P w K mg base "_law_add" 2 ["_law_one", "_law_two"] (spD K mg 2 d8.F))(i_:Callee P w K mg base "_law_low" 1 ["_law_top", "_law_bottom"] (spD K mg 2 aZ.F)):Callee P w K mg base "_law_parts" (2+1) ["_law_box", "_law_way", "_law_weights_here"] (spD K mg 3 da.F):=by
 unfold da jH dC
 exact okP D bC (λ_ _ _ _ _ _=>ar3 λ_ _ _=>rfl) λf cdv A outer s H E hr=>
  (ar (mi (af 0) (ZG.weak (iw rfl rfl (bj (aL (i:=3) bC.nd rfl (by trivial)) (bj (aL (i:=4) bC.nd rfl (by trivial)) (bj (aL (i:=5) bC.nd rfl (by trivial)) (bj (aL (i:=6) bC.nd rfl (by trivial)) fY)))))))
   (ar (aH (i:=7) bC.nd rfl (by trivial) (aF (jr (K:=K) rfl rfl) oo rfl T.I_ lM (aa (af 2) ai)))
   (ar (aH (i:=8) bC.nd rfl (by trivial) (b8 ai))
   (ar (aH (i:=9) bC.nd rfl (by trivial) ak)
   (ar (eZ ft rfl (cU rfl (af 2)) (aL (i:=10) bC.nd rfl (by trivial)) (ar (bf (a0 (eW (K:=K) rfl hr.units) dH (af 1) d4 (aQ _)) (ar (aH (i:=11) bC.nd rfl (by trivial) (aw Mv (hr.mono (by omega)) rfl (aq aD) (aa (af 3) (aa (aw i_ (hr.mono (by omega)) rfl (aq aD) (aa (aC bJ bK (aK (ixK (K:=K) rfl) aJ (af 5) ak (λ_ _=>rfl)) (af 9)) (aa (aC bJ bK (aK (ixK (K:=K) rfl) aJ (af 5) ak (λ_ _=>rfl)) (af 7)) ai))) ai))))
   (ay (bN (ic rfl Pd Pe fS ip (af 8) (aa (bW (by refine aa (af 11) ?_;refine aa (af 4) ?_;refine aa (aw i_ (hr.mono (by omega)) rfl (aq aD) (aa (aC bJ bK (aK (ixK (K:=K) rfl) aJ (af 5) ak (λ_ _=>rfl)) (af 10)) (aa (aC bJ bK (aK (ixK (K:=K) rfl) aJ (af 5) ak (λ_ _=>rfl)) (af 7)) ai))) ?_;refine aa (af 6) ?_;exact ai)) ai))))) (ar (aH (i:=11) bC.nd rfl (by trivial) (aw Mv (hr.mono (by omega)) rfl (aq aD) (aa (af 4) (aa (aw i_ (hr.mono (by omega)) rfl (aq aD) (aa (aC bJ bK (aK (ixK (K:=K) rfl) aJ (af 6) ak (λ_ _=>rfl)) (af 9)) (aa (aC bJ bK (aK (ixK (K:=K) rfl) aJ (af 6) ak (λ_ _=>rfl)) (af 7)) ai))) ai))))
   (ay (bN (ic rfl Pd Pe fS ip (af 8) (aa (bW (by refine aa (af 3) ?_;refine aa (af 11) ?_;refine aa (af 5) ?_;refine aa (aw i_ (hr.mono (by omega)) rfl (aq aD) (aa (aC bJ bK (aK (ixK (K:=K) rfl) aJ (af 6) ak (λ_ _=>rfl)) (af 10)) (aa (aC bJ bK (aK (ixK (K:=K) rfl) aJ (af 6) ak (λ_ _=>rfl)) (af 7)) ai))) ?_;exact ai)) ai))))))
   (ay (aH (i:=9) bC.nd rfl (by trivial) (aC (aY (K:=K) rfl) aX (af 9) (af 10))))))
   (ay (aM (af 8))))))))
def gu(s:PFx [false,false,false,true]):PSt:=
 (cF (aA s.fn (ag (ah 6) (ag (ah 1) (ag (ah 5) (ag (ah 3) ao))))))
def eR(s:PFx [false,false,false,true]):PSt:=
 (aE (xIf (qNo (qOf (pFn (bA kits) (ag (ah 2) (ag (pTy "tuple") ao))))) (aE (ni 3 seI (ah 2) (ah 0))
  (a8 (ah 3))) xNx)
  (aE (aN false 4 (pLC (bZ (pOp bIx (ah 2) (au 1))) [none,some 1] (by decide) (gtN 0) qY (pFn iU (ag (pLC (bZ (aA (ba 42).fn (ag (ah 0) ao))) [none,some 1] (by decide) (gtN 0) qY (pOp bIx (ah 1) (ah 0))) ao))))
  (aE (gB (r9 (ag (pOp bIx (ah 2) (au 1)) (ag (aA da (ag (ah 0) (ag (pOp bIx (ah 2) (au 0)) (ag (ah 4) ao)))) ao))) (gtX (gtT 2 (bO (gtN 5) (bO (gtN 6) fu)))) (gu s))
  (a8 (ah 3)))))
def bX:Nat->PFx [false,false,false,true]
 |0=>PFx.none [false,false,false,true]
 |n+1=>PFx.of [false,false,false,true] 7 (eR (bX n))
def vh{n:Nat}(T:Txt K mg a_ f_ g_ b_ c_ e_)(D:Def K mg "_law_lay" ia)(o_:Callee P w K mg base "_law_leaves" 44 ["_law_tree_here"] (spD K mg 1 (ba 42).F))(A_:Callee P w K mg base "_law_parts" 3 ["_law_box", "_law_way", "_law_weights_here"] (spD K mg 3 da.F))(J_:Callee P w K mg base "_law_lay" (46+n) ["_law_room_here", "_law_weights_here", "_law_tree_here", "_law_boxes"] (spD K mg 4 (bX n).F)):Callee P w K mg base "_law_lay" (46+n+1) ["_law_room_here", "_law_weights_here", "_law_tree_here", "_law_boxes"] (spD K mg 4 (bX (n+1)).F):=by
 show Callee P w K mg base _ _ _ (spD K mg _ (PFx.of [false,false,false,true] 7 (eR (bX n))).F)
 unfold eR gu
 exact okX D gf (λ_ _ _ _ _ _=>ar4 λ_ _ _ _=>rfl) λf cdv A outer s H E hr=>
  (ar (bf (cV (cx (aF (fh (K:=K) rfl) (dX T.kits) rfl T.h_ a9 (aa (af 2) (aa (fg rfl T.r_ eg) ai))))) (ar (j4 (af 0) (af 3) (af 2) (tE (rQ hr)) sY)
   (ay (aM (af 3)))) aR)
   (ar (xA (iT:=4) ["_law_room_here", "_law_weights_here", "_law_tree_here", "_law_boxes", "_law_sums", "_law_one", "_law_part"] (az ia).names ["_law_one", "_law_weights_here"] [none,some 1] rfl gf.nd rfl (by trivial) (cU rfl (aK (ixK (K:=K) rfl) aJ (af 2) ak (λ_ _=>rfl))) (λ_ _ _ _ _=>(aL (i:=0) (show List.Nodup (["_law_one", "_law_weights_here"]:List Str) from by decide) rfl (by trivial))) (λ_ _ _ _ _=>(aF (jr (K:=K) rfl rfl) oo rfl T.I_ lM (aa (gU ["_law_one", "_law_weights_here"] [(PySem.Str.ofString ".0",PySem.NameKind.local),(PySem.Str.ofString "_law_one",PySem.NameKind.local),(PySem.Str.ofString "sum",PySem.NameKind.globalImplicit),(PySem.Str.ofString "_law_leaves",PySem.NameKind.globalImplicit),(PySem.Str.ofString "_law_weights_here",PySem.NameKind.cell)] ["_law_k", "_law_weights_here"] [none,some 1] rfl (cU rfl (aw o_ (hr.mono (by omega)) rfl gL (aa (af 0) ai))) (λ_ _ _ _ _=>(aL (i:=0) (show List.Nodup (["_law_k", "_law_weights_here"]:List Str) from by decide) rfl (by trivial))) (λ_ _ _ _ _=>(aK (ixK (K:=K) rfl) aJ (af 1) (af 0) (λ_ _=>rfl)))) ai))))
   (ar (eZ ft rfl (zR rfl rfl T.M5 (aa (aK (ixK (K:=K) rfl) aJ (af 2) ak (λ_ _=>rfl)) (aa (aw A_ (hr.mono (by omega)) rfl (aq aD) (by refine aa (af 0) ?_;refine aa (aK (ixK (K:=K) rfl) aJ (af 2) ak (λ_ _=>rfl)) ?_;refine aa (af 4) ?_;exact ai)) ai))) (ZG.weak (iw rfl rfl (bj (aL (i:=5) gf.nd rfl (by trivial)) (bj (aL (i:=6) gf.nd rfl (by trivial)) fY)))) (ay (bN (aw J_ (hr.mono (by omega)) rfl (aq aD) (by refine aa (af 6) ?_;refine aa (af 1) ?_;refine aa (af 5) ?_;refine aa (af 3) ?_;exact ai)))))
   (ay (aM (af 3))))))
theorem lQ(T:Txt K mg a_ f_ g_ b_ c_ e_)(D:Def K mg "_law_lay" ia)(o_:Callee P w K mg base "_law_leaves" 44 ["_law_tree_here"] (spD K mg 1 (ba 42).F))(A_:Callee P w K mg base "_law_parts" 3 ["_law_box", "_law_way", "_law_weights_here"] (spD K mg 3 da.F)):∀n,Callee P w K mg base "_law_lay" (46+n) ["_law_room_here", "_law_weights_here", "_law_tree_here", "_law_boxes"] (spD K mg 4 (bX n).F)
 |0=>ok0 D gf (λ_ _ _ _ _ _=>ar4 λ_ _ _ _=>rfl)
 |n+1=>vh T D o_ A_ (lQ T D o_ A_ n)
def iR:PSt:=
 (a8 (kL (pFn (bA kits) (ag (ah 0) (ag (pTy "int") ao))) (Cd (pFn (bA kits) (ag (ah 0) (ag (pTy "bool") ao))))))
def bF:PFn:=fnP [false] 1 iR
def vb:bF.ms=[false]:=rfl
def uG(T:Txt K mg a_ f_ g_ b_ c_ e_)(D:Def K mg "is_whole" kF)  : Callee P w K mg base "is_whole" (0+1) ["thing"] (spD K mg 1 bF.F):=by
 unfold bF iR
 exact okP D ve (λ_ _ _ _ _ _=>ar1 λ_=>rfl) λf cdv A outer s H E hr=>
  (ay (aM (jb (aF (fh (K:=K) rfl) (dX T.kits) rfl T.h_ a9 (aa (af 0) (aa (fg rfl T.M3 zN) ai))) (kh (Ih (aF (fh (K:=K) rfl) (dX T.kits) rfl T.h_ a9 (aa (af 0) (aa (fg rfl T.MW EE) ai))))))))
def cX:PSt:=
 (iF 0 1 (ag (ah 1) (ag (pOp c9 (ah 0) (ah 1)) ao)))
def fH:PSt:=
 (aE (iF 0 1 (ag (pFn g9 (ag (ah 0) ao)) (ag (pFn g9 (ag (ah 1) ao)) ao)))
  (aE (xWh (qOf (pOp bNe (ah 1) (au 0))) (cX))
  (a8 (ah 0))))
def br:PFn:=fnP [false,false] 2 fH
def mQ:br.ms=[false,false]:=rfl
def lR(T:Txt K mg a_ f_ g_ b_ c_ e_)(D:Def K mg "common_divisor" fQ)  : Callee P w K mg base "common_divisor" (0+1) ["one", "other"] (spD K mg 2 br.F):=by
 unfold br fH cX
 exact okP D fq (λ_ _ _ _ _ _=>ar2 λ_ _=>rfl) λf cdv A outer s H E hr=>
  (ar (fC (i:=0) (j:=1) rfl fq.nd rfl rfl (by decide) rfl rfl (aa (aF eP ie rfl T.C_ ig (aa (af 0) ai)) (aa (aF eP ie rfl T.C_ ig (aa (af 1) ai)) ai)) rfl)
   (ar (kX ft (a0 (pE (K:=K) rfl hr.units) l8 (af 1) ak (aQ _)) (ay (fC (i:=0) (j:=1) rfl fq.nd rfl rfl (by decide) rfl rfl (aa (af 1) (aa (aC dg d6 (af 0) (af 1)) ai)) rfl)))
   (ay (aM (af 0)))))
def iI:PSt:=
 (aE (xIf (qO (qNo (qOf (pFn (bA kits) (ag (ah 0) (ag (pTy "tuple") ao))))) (qOf (pOp bNe (pFn dD (ag (ah 0) ao)) (au 2)))) (a8 (pBl false)) xNx)
  (aE (mH (ah 0) (gtX (gtT 2 (bO (gtN 1) (bO (gtN 2) fu)))))
  (aE (xIf (qO (qNo (qOf (aA bF (ag (ah 1) ao)))) (qNo (qOf (aA bF (ag (ah 2) ao))))) (a8 (pBl false)) xNx)
  (a8 (kL (pOp bGe (ah 2) (au 1)) (pOp bEq (aA br (ag (ah 1) (ag (ah 2) ao))) (au 1)))))))
def cq:PFn:=fnP [false] 3 iI
def qE:cq.ms=[false]:=rfl
def nY(T:Txt K mg a_ f_ g_ b_ c_ e_)(D:Def K mg "is_fraction" iA)(n_:Callee P w K mg base "is_whole" 1 ["thing"] (spD K mg 1 bF.F))(l_:Callee P w K mg base "common_divisor" 1 ["one", "other"] (spD K mg 2 br.F)):Callee P w K mg base "is_fraction" (1+1) ["thing"] (spD K mg 1 cq.F):=by
 unfold cq iI
 exact okP D gO (λ_ _ _ _ _ _=>ar1 λ_=>rfl) λf cdv A outer s H E hr=>
  (ar (bf (ZW.dt (hE (cV (cx (aF (fh (K:=K) rfl) (dX T.kits) rfl T.h_ a9 (aa (af 0) (aa (fg rfl T.r_ eg) ai))))) (iZ (a0 (pE (K:=K) rfl hr.units) l8 (aF (dR (K:=K) rfl) cZ rfl T.k_ cJ (aa (af 0) ai)) ak (aQ _))))) (ay (aM jw)) aR)
   (ar (mi (af 0) (ZG.weak (iw rfl rfl (bj (aL (i:=1) gO.nd rfl (by trivial)) (bj (aL (i:=2) gO.nd rfl (by trivial)) fY)))))
   (ar (bf (ZW.dt (hE (cV (cx (aw n_ (hr.mono (by omega)) rfl (aq aD) (aa (af 1) ai)))) (iZ (cV (cx (aw n_ (hr.mono (by omega)) rfl (aq aD) (aa (af 2) ai))))))) (ay (aM jw)) aR)
   (ay (aM (jb (gr nO oX (af 2) ak (aQ _)) (kh (gr (eW (K:=K) rfl hr.units) dH (aw l_ (hr.mono (by omega)) rfl (aq aD) (aa (af 1) (aa (af 2) ai))) ak (aQ _)))))))))
def nz:PSt:=
 (aE (xIf (qO (qNo (qOf (pFn (bA kits) (ag (ah 0) (ag (pTy "tuple") ao))))) (qOf (pOp bNe (pFn dD (ag (ah 0) ao)) (au 4)))) (a8 (pBl false)) xNx)
  (aE (xIf (qNo (qOf (pFn rZ (ag (pLC (bZ (ah 0)) [none] (by decide) (gtN 0) qY (aA cq (ag (ah 0) ao))) ao)))) (a8 (pBl false)) xNx)
  (a8 (kL (pOp bGt (pOp bIx (pOp bIx (ah 0) (au 2)) (au 0)) (au 0)) (pOp bGt (pOp bIx (pOp bIx (ah 0) (au 3)) (au 0)) (au 0))))))
def fJ:PFn:=fnP [false] 1 nz
def zb:fJ.ms=[false]:=rfl
def xu(T:Txt K mg a_ f_ g_ b_ c_ e_)(D:Def K mg "is_box" kz)(L_:Callee P w K mg base "is_fraction" 2 ["thing"] (spD K mg 1 cq.F)):Callee P w K mg base "is_box" (2+1) ["thing"] (spD K mg 1 fJ.F):=by
 unfold fJ nz
 exact okP D zg (λ_ _ _ _ _ _=>ar1 λ_=>rfl) λf cdv A outer s H E hr=>
  (ar (bf (ZW.dt (hE (cV (cx (aF (fh (K:=K) rfl) (dX T.kits) rfl T.h_ a9 (aa (af 0) (aa (fg rfl T.r_ eg) ai))))) (iZ (a0 (pE (K:=K) rfl hr.units) l8 (aF (dR (K:=K) rfl) cZ rfl T.k_ cJ (aa (af 0) ai)) ak (aQ _))))) (ay (aM jw)) aR)
   (ar (bf (cV (cx (aF (allK (K:=K) rfl rfl) zc rfl T.M0 zD (aa (gU ["thing"] (az kz).names ["part"] [none] rfl (cU rfl (af 0)) (λ_ _ _ _ _=>(aL (i:=0) (show List.Nodup (["part"]:List Str) from by decide) rfl (by trivial))) (λ_ _ _ _ _=>(aw L_ (hr.mono (by omega)) rfl gL (aa (af 0) ai)))) ai)))) (ay (aM jw)) aR)
   (ay (aM (jb (gr og oQ (aK (ixK (K:=K) rfl) aJ (aK (ixK (K:=K) rfl) aJ (af 0) ak (λ_ _=>rfl)) ak (λ_ _=>rfl)) ak (aQ _)) (kh (gr og oQ (aK (ixK (K:=K) rfl) aJ (aK (ixK (K:=K) rfl) aJ (af 0) ak (λ_ _=>rfl)) ak (λ_ _=>rfl)) ak (aQ _))))))))
def jY:PSt:=
 (xIf (qNo (qOf (aA fJ (ag (ah 0) ao)))) (gh "NoBox" (ag (fN "this is no box") ao)) xNx)
def bR:PFn:=fnP [false] 1 jY
def sV:bR.ms=[false]:=rfl
def rB(T:Txt K mg a_ f_ g_ b_ c_ e_)(D:Def K mg "check_box" jE)(Nq:Callee P w K mg base "is_box" 3 ["thing"] (spD K mg 1 fJ.F)):Callee P w K mg base "check_box" (3+1) ["thing"] (spD K mg 1 bR.F):=by
 unfold bR jY
 exact okP D tF (λ_ _ _ _ _ _=>ar1 λ_=>rfl) λf cdv A outer s H E hr=>
  (ay (bf (cV (cx (aw Nq (hr.mono (by omega)) rfl (aq aD) (aa (af 0) ai)))) (ay (fI rfl rz1 rfl T.Mo T.Mq (aa d4 ai))) aR))
def jN:PSt:=
 (a8 (kL (aA bF (ag (ah 0) ao)) (pOp bGe (ah 0) (au 1))))
def de:PFn:=fnP [false] 1 jN
def sU:de.ms=[false]:=rfl
def rE(T:Txt K mg a_ f_ g_ b_ c_ e_)(D:Def K mg "is_weight" jW)(n_:Callee P w K mg base "is_whole" 1 ["thing"] (spD K mg 1 bF.F)):Callee P w K mg base "is_weight" (1+1) ["thing"] (spD K mg 1 de.F):=by
 unfold de jN
 exact okP D uu (λ_ _ _ _ _ _=>ar1 λ_=>rfl) λf cdv A outer s H E hr=>
  (ay (aM (jb (aw n_ (hr.mono (by omega)) rfl (aq aD) (aa (af 0) ai)) (kh (gr nO oX (af 0) ak (aQ _))))))
def gi:PSt:=
 (aE (xIf (qO (qNo (qOf (pFn (bA kits) (ag (ah 0) (ag (pTy "list") ao))))) (qOf (pOp bEq (pFn dD (ag (ah 0) ao)) (au 0)))) (gh "NoWeights" (ag (fN "this is no list of weights") ao)) xNx)
  (aE (xIf (qNo (qOf (pFn rZ (ag (pLC (bZ (ah 0)) [none] (by decide) (gtN 0) qY (aA de (ag (ah 0) ao))) ao)))) (gh "NoWeights" (ag (fN "a weight is a whole number from 1 on") ao)) xNx)
  (xIf (qOf (pOp bGt (pFn dD (ag (ah 0) ao)) gj)) (gh "TooMany" (ag (fN "these are more weights than forty") ao)) xNx)))
def bq:PFn:=fnP [false] 1 gi
def nt:bq.ms=[false]:=rfl
def mP(T:Txt K mg a_ f_ g_ b_ c_ e_)(D:Def K mg "check_weights" eL)(MH:Callee P w K mg base "is_weight" 2 ["thing"] (spD K mg 1 de.F)):Callee P w K mg base "check_weights" (2+1) ["thing"] (spD K mg 1 bq.F):=by
 unfold bq gi gj
 exact okP D m9 (λ_ _ _ _ _ _=>ar1 λ_=>rfl) λf cdv A outer s H E hr=>
  (ar (bf (ZW.dt (hE (cV (cx (aF (fh (K:=K) rfl) (dX T.kits) rfl T.h_ a9 (aa (af 0) (aa (fg rfl T.K_ p6) ai))))) (iZ (a0 (eW (K:=K) rfl hr.units) dH (aF (dR (K:=K) rfl) cZ rfl T.k_ cJ (aa (af 0) ai)) ak (aQ _))))) (ay (fI rfl rz1 rfl T.u_ T.v_ (aa d4 ai))) aR)
   (ar (bf (cV (cx (aF (allK (K:=K) rfl rfl) zc rfl T.M0 zD (aa (gU ["thing"] (az eL).names ["weight"] [none] rfl (cU rfl (af 0)) (λ_ _ _ _ _=>(aL (i:=0) (show List.Nodup (["weight"]:List Str) from by decide) rfl (by trivial))) (λ_ _ _ _ _=>(aw MH (hr.mono (by omega)) rfl gL (aa (af 0) ai)))) ai)))) (ay (fI rfl rz1 rfl T.u_ T.v_ (aa d4 ai))) aR)
   (ay (bf (a0 og oQ (aF (dR (K:=K) rfl) cZ rfl T.k_ cJ (aa (af 0) ai)) (Df rfl T.s_) (aQ _)) (ay (fI rfl rz1 rfl T.D_ T.Em (aa d4 ai))) aR))))
def kU:PSt:=
 (a8 (kL (pFn (bA kits) (ag (ah 0) (ag (pTy "str") ao))) (pOp bIn (ah 0) qt)))
def dA:PFn:=fnP [false] 1 kU
def zj:dA.ms=[false]:=rfl
def wx(T:Txt K mg a_ f_ g_ b_ c_ e_)(D:Def K mg "is_way" nM)  : Callee P w K mg base "is_way" (0+1) ["thing"] (spD K mg 1 dA.F):=by
 unfold dA kU qt
 exact okP D yh (λ_ _ _ _ _ _=>ar1 λ_=>rfl) λf cdv A outer s H E hr=>
  (ay (aM (jb (aF (fh (K:=K) rfl) (dX T.kits) rfl T.h_ a9 (aa (af 0) (aa (fg rfl T.Nh Gb) ai))) (kh (gr (inK (K:=K) rfl) Lh (af 0) (Df rfl T.MN) (by with_unfolding_all rfl))))))
def gZ:PSt:=
 (aE (xIf (qO (qNo (qOf (pFn (bA kits) (ag (ah 0) (ag (pTy "tuple") ao))))) (qOf (pOp bNe (pFn dD (ag (ah 0) ao)) (au 2)))) (a8 (pBl false)) xNx)
  (a8 (kL (aA dA (ag (pOp bIx (ah 0) (au 0)) ao)) (kL (pFn (bA kits) (ag (pOp bIx (ah 0) (au 1)) (ag (pTy "tuple") ao))) (pOp bGe (pFn dD (ag (pOp bIx (ah 0) (au 1)) ao)) (au 2))))))
def cG:PFn:=fnP [false] 1 gZ
def ug:cG.ms=[false]:=rfl
def rH(T:Txt K mg a_ f_ g_ b_ c_ e_)(D:Def K mg "is_branch" jO)(F_:Callee P w K mg base "is_way" 1 ["thing"] (spD K mg 1 dA.F)):Callee P w K mg base "is_branch" (1+1) ["thing"] (spD K mg 1 cG.F):=by
 unfold cG gZ
 exact okP D uJ (λ_ _ _ _ _ _=>ar1 λ_=>rfl) λf cdv A outer s H E hr=>
  (ar (bf (ZW.dt (hE (cV (cx (aF (fh (K:=K) rfl) (dX T.kits) rfl T.h_ a9 (aa (af 0) (aa (fg rfl T.r_ eg) ai))))) (iZ (a0 (pE (K:=K) rfl hr.units) l8 (aF (dR (K:=K) rfl) cZ rfl T.k_ cJ (aa (af 0) ai)) ak (aQ _))))) (ay (aM jw)) aR)
   (ay (aM (jb (aw F_ (hr.mono (by omega)) rfl (aq aD) (aa (aK (ixK (K:=K) rfl) aJ (af 0) ak (λ_ _=>rfl)) ai)) (jb (aF (fh (K:=K) rfl) (dX T.kits) rfl T.h_ a9 (aa (aK (ixK (K:=K) rfl) aJ (af 0) ak (λ_ _=>rfl)) (aa (fg rfl T.r_ eg) ai))) (kh (gr nO oX (aF (dR (K:=K) rfl) cZ rfl T.k_ cJ (aa (aK (ixK (K:=K) rfl) aJ (af 0) ak (λ_ _=>rfl)) ai)) ak (aQ _))))))))
def dJ:PSt:=
 (aE (aN false 4 (oU 3 rX))
  (xIf (qOf (aA cG (ag (ah 4) ao))) (cF (jM 3 jy (ag (pOp bIx (ah 4) (au 1)) ao))) (xIf (qO (qNo (qOf (aA bF (ag (ah 4) ao)))) (qO (qOf (pOp bLt (ah 4) (au 0))) (qO (qOf (pOp bGe (ah 4) (ah 1))) (qOf (pOp Cy (ah 4) (ah 2)))))) (a8 (pBl false)) (cF (By 2 (ag (ah 4) ao))))))
def lJ:PSt:=
 (aE (aN true 2 x4)
  (aE (aN true 3 (dF (ag (ah 0) ao)))
  (aE (xWh (qTr (ah 3)) (dJ))
  (a8 (pOp bEq (pFn uU (ag (ah 2) ao)) (ah 1))))))
def eU:PFn:=fnP [false,false] 5 lJ
def wH:eU.ms=[false,false]:=rfl
def vo(T:Txt K mg a_ f_ g_ b_ c_ e_)(D:Def K mg "is_tree" lW)(MF:Callee P w K mg base "is_branch" 2 ["thing"] (spD K mg 1 cG.F))(n_:Callee P w K mg base "is_whole" 1 ["thing"] (spD K mg 1 bF.F)):Callee P w K mg base "is_tree" (2+1) ["thing", "many"] (spD K mg 2 eU.F):=by
 unfold eU lJ dJ
 exact okP D iQ (λ_ _ _ _ _ _=>ar2 λ_ _=>rfl) λf cdv A outer s H E hr=>
  (ar (aH (i:=2) iQ.nd rfl (by trivial) (DJ rfl T.Ng Jx))
   (ar (aH (i:=3) iQ.nd rfl (by trivial) (b8 (aa (af 0) ai)))
   (ar (kX ft (tI rfl (af 3)) (ar (aH (i:=4) iQ.nd rfl (by trivial) (qh rfl PySem.F.slot_list_pop PySem.F.type_list_pop zI zT (af 3)))
   (ay (bf (cx (aw MF (hr.mono (by omega)) rfl (aq aD) (aa (af 4) ai))) (ay (bN (ic rfl Qp PySem.F.type_list_extend (oF (K:=K) rfl) oV (af 3) (aa (aK (ixK (K:=K) rfl) aJ (af 4) ak (λ_ _=>rfl)) ai)))) (ay (bf (ZW.dt (hE (cV (cx (aw n_ (hr.mono (by omega)) rfl (aq aD) (aa (af 4) ai)))) (hE (a0 rP rT (af 4) ak (aQ _)) (hE (a0 nO oX (af 4) (af 1) (aQ _)) (iZ (a0 AK GU (af 4) (af 2) (by with_unfolding_all rfl))))))) (ay (aM jw)) (ay (bN (Hx rfl (af 2) (aa (af 4) ai))))))))))
   (ay (aM (gr (eW (K:=K) rfl hr.units) dH (aF u6 Eu rfl T.k_ cJ (aa (af 2) ai)) (af 1) (aQ _)))))))
def je:PSt:=
 (xIf (qNo (qOf (aA eU (ag (ah 0) (ag (ah 1) ao))))) (gh "NoTree" (ag (fN "this is no tree for the things") ao)) xNx)
def dB:PFn:=fnP [false,false] 2 je
def rq:dB.ms=[false,false]:=rfl
def pH(T:Txt K mg a_ f_ g_ b_ c_ e_)(D:Def K mg "check_tree" jj)(M7:Callee P w K mg base "is_tree" 3 ["thing", "many"] (spD K mg 2 eU.F)):Callee P w K mg base "check_tree" (3+1) ["thing", "many"] (spD K mg 2 dB.F):=by
 unfold dB je
 exact okP D rF (λ_ _ _ _ _ _=>ar2 λ_ _=>rfl) λf cdv A outer s H E hr=>
  (ay (bf (cV (cx (aw M7 (hr.mono (by omega)) rfl (aq aD) (aa (af 0) (aa (af 1) ai))))) (ay (fI rfl rz1 rfl T.G_ T.H_ (aa d4 ai))) aR))
def jC:PSt:=
 (xIf (qNo (qOf (aA dA (ag (ah 0) ao)))) (gh "NoWay" (ag (fN "this is no way") ao)) xNx)
def dQ:PFn:=fnP [false] 1 jC
def sM:dQ.ms=[false]:=rfl
def rL(T:Txt K mg a_ f_ g_ b_ c_ e_)(D:Def K mg "check_way" jK)(F_:Callee P w K mg base "is_way" 1 ["thing"] (spD K mg 1 dA.F)):Callee P w K mg base "check_way" (1+1) ["way"] (spD K mg 1 dQ.F):=by
 unfold dQ jC
 exact okP D ub (λ_ _ _ _ _ _=>ar1 λ_=>rfl) λf cdv A outer s H E hr=>
  (ay (bf (cV (cx (aw F_ (hr.mono (by omega)) rfl (aq aD) (aa (af 0) ai)))) (ay (fI rfl rz1 rfl T.Mp T.Mr (aa d4 ai))) aR))
def kS:PSt:=
 (aE (xIf (qOf (pOp bEq (ah 1) (au 0))) (gh "NoFraction" (ag (fN "a fraction has no bottom of 0") ao)) xNx)
  (aE (aN false 2 (aA br (ag (ah 0) (ag (ah 1) ao))))
  (aE (xIf (qOf (pOp bLt (ah 1) (au 0))) (aN false 2 (pUn Ci (ah 2))) xNx)
  (a8 (c8 (ag (pOp kY (ah 0) (ah 2)) (ag (pOp kY (ah 1) (ah 2)) ao)))))))
def bT:PFn:=fnP [false,false] 3 kS
def vm:bT.ms=[false,false]:=rfl
def tq(T:Txt K mg a_ f_ g_ b_ c_ e_)(D:Def K mg "fraction" lq)(l_:Callee P w K mg base "common_divisor" 1 ["one", "other"] (spD K mg 2 br.F)):Callee P w K mg base "fraction" (1+1) ["top", "bottom"] (spD K mg 2 bT.F):=by
 unfold bT kS
 exact okP D jI (λ_ _ _ _ _ _=>ar2 λ_ _=>rfl) λf cdv A outer s H E hr=>
  (ar (bf (a0 (eW (K:=K) rfl hr.units) dH (af 1) ak (aQ _)) (ay (fI rfl rz1 rfl T.w_ T.x_ (aa d4 ai))) aR)
   (ar (aH (i:=2) jI.nd rfl (by trivial) (aw l_ (hr.mono (by omega)) rfl (aq aD) (aa (af 0) (aa (af 1) ai))))
   (ar (bf (a0 rP rT (af 1) ak (aQ _)) (ay (aH (i:=2) jI.nd rfl (by trivial) (Mh Ip JL (af 2)))) aR)
   (ay (aM (bW (aa (aC gC kg (af 0) (af 2)) (aa (aC gC kg (af 1) (af 2)) ai))))))))
def qg:PSt:=
 (a8 (aA bT (ag (pOp bH (pOp b9 (pOp bIx (ah 0) (au 0)) (pOp bIx (ah 1) (au 1))) (pOp b9 (pOp bIx (ah 1) (au 0)) (pOp bIx (ah 0) (au 1)))) (ag (pOp b9 (pOp bIx (ah 0) (au 1)) (pOp bIx (ah 1) (au 1))) ao))))
def gy:PFn:=fnP [false,false] 2 qg
def Cw:gy.ms=[false,false]:=rfl
def yF(T:Txt K mg a_ f_ g_ b_ c_ e_)(D:Def K mg "added" qp)(m_:Callee P w K mg base "fraction" 2 ["top", "bottom"] (spD K mg 2 bT.F)):Callee P w K mg base "added" (2+1) ["one", "other"] (spD K mg 2 gy.F):=by
 unfold gy qg
 exact okP D Cr (λ_ _ _ _ _ _=>ar2 λ_ _=>rfl) λf cdv A outer s H E hr=>
  (ay (aM (aw m_ (hr.mono (by omega)) rfl (aq aD) (aa (aC (aY (K:=K) rfl) aX (aC bJ bK (aK (ixK (K:=K) rfl) aJ (af 0) ak (λ_ _=>rfl)) (aK (ixK (K:=K) rfl) aJ (af 1) ak (λ_ _=>rfl))) (aC bJ bK (aK (ixK (K:=K) rfl) aJ (af 1) ak (λ_ _=>rfl)) (aK (ixK (K:=K) rfl) aJ (af 0) ak (λ_ _=>rfl)))) (aa (aC bJ bK (aK (ixK (K:=K) rfl) aJ (af 0) ak (λ_ _=>rfl)) (aK (ixK (K:=K) rfl) aJ (af 1) ak (λ_ _=>rfl))) ai)))))
def qB:PSt:=
 (a8 (aA bT (ag (pOp b9 (pOp bIx (ah 0) (au 0)) (pOp bIx (ah 1) (au 0))) (ag (pOp b9 (pOp bIx (ah 0) (au 1)) (pOp bIx (ah 1) (au 1))) ao))))
def fT:PFn:=fnP [false,false] 2 qB
def BS:fT.ms=[false,false]:=rfl
def ym(T:Txt K mg a_ f_ g_ b_ c_ e_)(D:Def K mg "times" pL)(m_:Callee P w K mg base "fraction" 2 ["top", "bottom"] (spD K mg 2 bT.F)):Callee P w K mg base "times" (2+1) ["one", "other"] (spD K mg 2 fT.F):=by
 unfold fT qB
 exact okP D AV (λ_ _ _ _ _ _=>ar2 λ_ _=>rfl) λf cdv A outer s H E hr=>
  (ay (aM (aw m_ (hr.mono (by omega)) rfl (aq aD) (aa (aC bJ bK (aK (ixK (K:=K) rfl) aJ (af 0) ak (λ_ _=>rfl)) (aK (ixK (K:=K) rfl) aJ (af 1) ak (λ_ _=>rfl))) (aa (aC bJ bK (aK (ixK (K:=K) rfl) aJ (af 0) ak (λ_ _=>rfl)) (aK (ixK (K:=K) rfl) aJ (af 1) ak (λ_ _=>rfl))) ai)))))
def iq:PSt:=
 (aE (aN false 7 (aA gy (ag (ah 0) (ag (aA fT (ag (ah 1) (ag (aA bT (ag (ah 4) (ag (ah 3) ao))) ao))) ao))))
  (aE (cF (jM 5 fK (ag (c8 (ag (ah 7) (ag (aA fT (ag (ah 1) (ag (aA bT (ag (ah 6) (ag (ah 3) ao))) ao))) ao))) ao)))
  (Bo 4 Bw (ah 6))))
def m5:PSt:=
 (aE (aN false 3 (pFn iU (ag (ah 2) ao)))
  (aE (aN false 4 (au 0))
  (aE (aN true 5 (dF ao))
  (aE (gB (bZ (ah 2)) (gtN 6) (iq))
  (a8 (ah 5))))))
def fc:PFn:=fnP [false,false,false] 8 m5
def yu:fc.ms=[false,false,false]:=rfl
def xQ(T:Txt K mg a_ f_ g_ b_ c_ e_)(D:Def K mg "shares" nA)(NF:Callee P w K mg base "added" 3 ["one", "other"] (spD K mg 2 gy.F))(Nd:Callee P w K mg base "times" 3 ["one", "other"] (spD K mg 2 fT.F))(m_:Callee P w K mg base "fraction" 2 ["top", "bottom"] (spD K mg 2 bT.F)):Callee P w K mg base "shares" (3+1) ["start", "length", "weights"] (spD K mg 3 fc.F):=by
 unfold fc m5 iq
 exact okP D eN (λ_ _ _ _ _ _=>ar3 λ_ _ _=>rfl) λf cdv A outer s H E hr=>
  (ar (aH (i:=3) eN.nd rfl (by trivial) (aF (jr (K:=K) rfl rfl) oo rfl T.I_ lM (aa (af 2) ai)))
   (ar (aH (i:=4) eN.nd rfl (by trivial) ak)
   (ar (aH (i:=5) eN.nd rfl (by trivial) (b8 ai))
   (ar (eZ ft rfl (cU rfl (af 2)) (aL (i:=6) eN.nd rfl (by trivial)) (ar (aH (i:=7) eN.nd rfl (by trivial) (aw NF (hr.mono (by omega)) rfl (aq aD) (aa (af 0) (aa (aw Nd (hr.mono (by omega)) rfl (aq aD) (aa (af 1) (aa (aw m_ (hr.mono (by omega)) rfl (aq aD) (aa (af 4) (aa (af 3) ai))) ai))) ai))))
   (ar (bN (ic rfl Pd Pe fS ip (af 5) (aa (bW (aa (af 7) (aa (aw Nd (hr.mono (by omega)) rfl (aq aD) (aa (af 1) (aa (aw m_ (hr.mono (by omega)) rfl (aq aD) (aa (af 6) (aa (af 3) ai))) ai))) ai))) ai)))
   (ay (Gi (i:=4) eN.nd rfl (by trivial) (af 6) JG FR)))))
   (ay (aM (af 5)))))))
def nD:PSt:=
 (aE (cF (aA bR (ag (ah 0) ao)))
  (aE (cF (aA dQ (ag (ah 1) ao)))
  (aE (cF (aA bq (ag (ah 2) ao)))
  (aE (mH (ah 0) (gtX (gtT 4 (bO (gtN 3) (bO (gtN 4) (bO (gtN 5) (bO (gtN 6) fu)))))))
  (aE (xIf (qOf (pOp bEq (ah 1) (fN "across"))) (a8 (pLC (bZ (aA fc (ag (ah 3) (ag (ah 5) (ag (ah 2) ao))))) [none,none,some 4,some 6] (by decide) (gtT 2 (bO (gtN 0) (bO (gtN 1) fu))) qY (c8 (ag (ah 0) (ag (ah 2) (ag (ah 1) (ag (ah 3) ao))))))) xNx)
  (a8 (pLC (bZ (aA fc (ag (ah 4) (ag (ah 6) (ag (ah 2) ao))))) [none,none,some 3,some 5] (by decide) (gtT 2 (bO (gtN 0) (bO (gtN 1) fu))) qY (c8 (ag (ah 2) (ag (ah 0) (ag (ah 3) (ag (ah 1) ao))))))))))))
def eX:PFn:=fnP [false,false,false] 7 nD
def yp:eX.ms=[false,false,false]:=rfl
def wV(T:Txt K mg a_ f_ g_ b_ c_ e_)(D:Def K mg "parted" jf)(z_:Callee P w K mg base "check_box" 4 ["thing"] (spD K mg 1 bR.F))(MD:Callee P w K mg base "check_way" 2 ["way"] (spD K mg 1 dQ.F))(p_:Callee P w K mg base "check_weights" 3 ["thing"] (spD K mg 1 bq.F))(MZ:Callee P w K mg base "shares" 4 ["start", "length", "weights"] (spD K mg 3 fc.F)):Callee P w K mg base "parted" (4+1) ["box", "way", "weights"] (spD K mg 3 eX.F):=by
 unfold eX nD
 exact okP D ib (λ_ _ _ _ _ _=>ar3 λ_ _ _=>rfl) λf cdv A outer s H E hr=>
  (ar (bN (aw z_ (hr.mono (by omega)) rfl (aq aD) (aa (af 0) ai)))
   (ar (bN (aw MD (hr.mono (by omega)) rfl (aq aD) (aa (af 1) ai)))
   (ar (bN (aw p_ (hr.mono (by omega)) rfl (aq aD) (aa (af 2) ai)))
   (ar (mi (af 0) (ZG.weak (iw rfl rfl (bj (aL (i:=3) ib.nd rfl (by trivial)) (bj (aL (i:=4) ib.nd rfl (by trivial)) (bj (aL (i:=5) ib.nd rfl (by trivial)) (bj (aL (i:=6) ib.nd rfl (by trivial)) fY)))))))
   (ar (bf (a0 (eW (K:=K) rfl hr.units) dH (af 1) d4 (aQ _)) (ay (aM (gU ["box", "way", "weights", "left", "top", "wide", "high"] (az jf).names ["begin", "length", "top", "high"] [none,none,some 4,some 6] rfl (cU rfl (aw MZ (hr.mono (by omega)) rfl (aq aD) (by refine aa (af 3) ?_;refine aa (af 5) ?_;refine aa (af 2) ?_;exact ai))) (λ_ _ _ _ _=>(iw rfl rfl (bj (aL (i:=0) (show List.Nodup (["begin", "length", "top", "high"]:List Str) from by decide) rfl (by trivial)) (bj (aL (i:=1) (show List.Nodup (["begin", "length", "top", "high"]:List Str) from by decide) rfl (by trivial)) fY)))) (λ_ _ _ _ _=>(bW (by refine aa (af 0) ?_;refine aa (af 2) ?_;refine aa (af 1) ?_;refine aa (af 3) ?_;exact ai)))))) aR)
   (ay (aM (gU ["box", "way", "weights", "left", "top", "wide", "high"] (az jf).names ["begin", "length", "left", "wide"] [none,none,some 3,some 5] rfl (cU rfl (aw MZ (hr.mono (by omega)) rfl (aq aD) (by refine aa (af 4) ?_;refine aa (af 6) ?_;refine aa (af 2) ?_;exact ai))) (λ_ _ _ _ _=>(iw rfl rfl (bj (aL (i:=0) (show List.Nodup (["begin", "length", "left", "wide"]:List Str) from by decide) rfl (by trivial)) (bj (aL (i:=1) (show List.Nodup (["begin", "length", "left", "wide"]:List Str) from by decide) rfl (by trivial)) fY)))) (λ_ _ _ _ _=>(bW (by refine aa (af 2) ?_;refine aa (af 0) ?_;refine aa (af 3) ?_;refine aa (af 1) ?_;exact ai)))))))))))
def cL:PSt:=
 (aE (aN false 3 (oU 2 rX))
  (xIf (qOf (pFn (bA kits) (ag (ah 3) (ag (pTy "tuple") ao)))) (cF (jM 2 jy (ag (pOp bIx (ah 3) (au 1)) ao))) (cF (jM 1 fK (ag (ah 3) ao)))))
def jT:PSt:=
 (aE (aN true 1 (dF ao))
  (aE (aN true 2 (dF (ag (ah 0) ao)))
  (aE (xWh (qTr (ah 2)) (cL))
  (a8 (ah 1)))))
def dc:PFn:=fnP [false] 4 jT
def tP:dc.ms=[false]:=rfl
def rM(T:Txt K mg a_ f_ g_ b_ c_ e_)(D:Def K mg "things_in" jV)  : Callee P w K mg base "things_in" (0+1) ["tree"] (spD K mg 1 dc.F):=by
 unfold dc jT cL
 exact okP D gx (λ_ _ _ _ _ _=>ar1 λ_=>rfl) λf cdv A outer s H E hr=>
  (ar (aH (i:=1) gx.nd rfl (by trivial) (b8 ai))
   (ar (aH (i:=2) gx.nd rfl (by trivial) (b8 (aa (af 0) ai)))
   (ar (kX ft (tI rfl (af 2)) (ar (aH (i:=3) gx.nd rfl (by trivial) (qh rfl PySem.F.slot_list_pop PySem.F.type_list_pop zI zT (af 2)))
   (ay (bf (cx (aF (fh (K:=K) rfl) (dX T.kits) rfl T.h_ a9 (aa (af 3) (aa (fg rfl T.r_ eg) ai)))) (ay (bN (ic rfl Qp PySem.F.type_list_extend (oF (K:=K) rfl) oV (af 2) (aa (aK (ixK (K:=K) rfl) aJ (af 3) ak (λ_ _=>rfl)) ai)))) (ay (bN (ic rfl Pd Pe fS ip (af 1) (aa (af 3) ai))))))))
   (ay (aM (af 1))))))
def kN:PSt:=
 (aE (mH (ah 2) (gtX (gtT 2 (bO (gtN 3) (bO (gtN 4) fu)))))
  (a8 (aA eX (ag (ah 0) (ag (ah 3) (ag (pLC (bZ (ah 4)) [none,some 1] (by decide) (gtN 0) qY (pFn iU (ag (pLC (bZ (aA dc (ag (ah 0) ao))) [none,some 1] (by decide) (gtN 0) qY (pOp bIx (ah 1) (ah 0))) ao))) ao))))))
def dM:PFn:=fnP [false,false,false] 5 kN
def va:dM.ms=[false,false,false]:=rfl
def uY(T:Txt K mg a_ f_ g_ b_ c_ e_)(D:Def K mg "parts_of" iL)(Nr:Callee P w K mg base "parted" 5 ["box", "way", "weights"] (spD K mg 3 eX.F))(ML:Callee P w K mg base "things_in" 1 ["tree"] (spD K mg 1 dc.F)):Callee P w K mg base "parts_of" (5+1) ["room", "weights", "tree"] (spD K mg 3 dM.F):=by
 unfold dM kN
 exact okP D jS (λ_ _ _ _ _ _=>ar3 λ_ _ _=>rfl) λf cdv A outer s H E hr=>
  (ar (mi (af 2) (ZG.weak (iw rfl rfl (bj (aL (i:=3) jS.nd rfl (by trivial)) (bj (aL (i:=4) jS.nd rfl (by trivial)) fY)))))
   (ay (aM (aw Nr (hr.mono (by omega)) rfl (aq aD) (by refine aa (af 0) ?_;refine aa (af 3) ?_;refine aa (gU ["room", "weights", "tree", "way", "trees"] (az iL).names ["part", "weights"] [none,some 1] rfl (cU rfl (af 4)) (λ_ _ _ _ _=>(aL (i:=0) (show List.Nodup (["part", "weights"]:List Str) from by decide) rfl (by trivial))) (λ_ _ _ _ _=>(aF (jr (K:=K) rfl rfl) oo rfl T.I_ lM (aa (gU ["part", "weights"] [(PySem.Str.ofString ".0",PySem.NameKind.local),(PySem.Str.ofString "part",PySem.NameKind.local),(PySem.Str.ofString "sum",PySem.NameKind.globalImplicit),(PySem.Str.ofString "things_in",PySem.NameKind.globalImplicit),(PySem.Str.ofString "weights",PySem.NameKind.cell)] ["thing", "weights"] [none,some 1] rfl (cU rfl (aw ML (hr.mono (by omega)) rfl gL (aa (af 0) ai))) (λ_ _ _ _ _=>(aL (i:=0) (show List.Nodup (["thing", "weights"]:List Str) from by decide) rfl (by trivial))) (λ_ _ _ _ _=>(aK (ixK (K:=K) rfl) aJ (af 1) (af 0) (λ_ _=>rfl)))) ai)))) ?_;exact ai)))))
def jg(s:PFx [false,false,false,true]):PSt:=
 (cF (aA s.fn (ag (ah 5) (ag (ah 1) (ag (ah 4) (ag (ah 3) ao))))))
def gE(s:PFx [false,false,false,true]):PSt:=
 (aE (xIf (qNo (qOf (pFn (bA kits) (ag (ah 2) (ag (pTy "tuple") ao))))) (aE (ni 3 seI (ah 2) (ah 0))
  wC) xNx)
  (gB (r9 (ag (pOp bIx (ah 2) (au 1)) (ag (aA dM (ag (ah 0) (ag (ah 1) (ag (ah 2) ao)))) ao))) (gtX (gtT 2 (bO (gtN 4) (bO (gtN 5) fu)))) (jg s)))
def dk:Nat->PFx [false,false,false,true]
 |0=>PFx.none [false,false,false,true]
 |n+1=>PFx.of [false,false,false,true] 6 (gE (dk n))
def zA{n:Nat}(T:Txt K mg a_ f_ g_ b_ c_ e_)(D:Def K mg "place" mq)(B_:Callee P w K mg base "parts_of" 6 ["room", "weights", "tree"] (spD K mg 3 dM.F))(MM:Callee P w K mg base "place" (8+n) ["room", "weights", "tree", "placed"] (spD K mg 4 (dk n).F)):Callee P w K mg base "place" (8+n+1) ["room", "weights", "tree", "placed"] (spD K mg 4 (dk (n+1)).F):=by
 show Callee P w K mg base _ _ _ (spD K mg _ (PFx.of [false,false,false,true] 6 (gE (dk n))).F)
 unfold gE jg
 exact okX D kA (λ_ _ _ _ _ _=>ar4 λ_ _ _ _=>rfl) λf cdv A outer s H E hr=>
  (ar (bf (cV (cx (aF (fh (K:=K) rfl) (dX T.kits) rfl T.h_ a9 (aa (af 2) (aa (fg rfl T.r_ eg) ai))))) (ar (j4 (af 0) (af 3) (af 2) (tE (rQ hr)) sY)
   (ay Ee)) aR)
   (ay (eZ ft rfl (zR rfl rfl T.M5 (aa (aK (ixK (K:=K) rfl) aJ (af 2) ak (λ_ _=>rfl)) (aa (aw B_ (hr.mono (by omega)) rfl (aq aD) (by refine aa (af 0) ?_;refine aa (af 1) ?_;refine aa (af 2) ?_;exact ai)) ai))) (ZG.weak (iw rfl rfl (bj (aL (i:=4) kA.nd rfl (by trivial)) (bj (aL (i:=5) kA.nd rfl (by trivial)) fY)))) (ay (bN (aw MM (hr.mono (by omega)) rfl (aq aD) (by refine aa (af 5) ?_;refine aa (af 1) ?_;refine aa (af 4) ?_;refine aa (af 3) ?_;exact ai)))))))
theorem oP(T:Txt K mg a_ f_ g_ b_ c_ e_)(D:Def K mg "place" mq)(B_:Callee P w K mg base "parts_of" 6 ["room", "weights", "tree"] (spD K mg 3 dM.F)):∀n,Callee P w K mg base "place" (8+n) ["room", "weights", "tree", "placed"] (spD K mg 4 (dk n).F)
 |0=>ok0 D kA (λ_ _ _ _ _ _=>ar4 λ_ _ _ _=>rfl)
 |n+1=>zA T D B_ (oP T D B_ n)
def kE:PSt:=
 (aE (cF (aA bR (ag (ah 0) ao)))
  (aE (cF (aA bq (ag (ah 1) ao)))
  (aE (cF (aA dB (ag (ah 2) (ag (pFn dD (ag (ah 1) ao)) ao))))
  (aE (aN true 3 pD0)
  (aE (cF (aA (dk 42).fn (ag (ah 0) (ag (ah 1) (ag (ah 2) (ag (ah 3) ao))))))
  (a8 (pLC (iW (ag (pFn dD (ag (ah 1) ao)) ao)) [none,some 3] (by decide) (gtN 0) qY (pOp qa (ah 1) (ah 0)))))))))
def ek:PFn:=fnP [false,false,false] 4 kE
def vj:ek.ms=[false,false,false]:=rfl
def tJ(T:Txt K mg a_ f_ g_ b_ c_ e_)(D:Def K mg "boxes_by" iO)(z_:Callee P w K mg base "check_box" 4 ["thing"] (spD K mg 1 bR.F))(p_:Callee P w K mg base "check_weights" 3 ["thing"] (spD K mg 1 bq.F))(Ms:Callee P w K mg base "check_tree" 4 ["thing", "many"] (spD K mg 2 dB.F))(MM:Callee P w K mg base "place" 50 ["room", "weights", "tree", "placed"] (spD K mg 4 (dk 42).F)):Callee P w K mg base "boxes_by" (50+1) ["room", "weights", "tree"] (spD K mg 3 ek.F):=by
 unfold ek kE
 exact okP D mS (λ_ _ _ _ _ _=>ar3 λ_ _ _=>rfl) λf cdv A outer s H E hr=>
  (ar (bN (aw z_ (hr.mono (by omega)) rfl (aq aD) (aa (af 0) ai)))
   (ar (bN (aw p_ (hr.mono (by omega)) rfl (aq aD) (aa (af 1) ai)))
   (ar (bN (aw Ms (hr.mono (by omega)) rfl (aq aD) (aa (af 2) (aa (aF (dR (K:=K) rfl) cZ rfl T.k_ cJ (aa (af 1) ai)) ai))))
   (ar (aH (i:=3) mS.nd rfl (by trivial) CS)
   (ar (bN (aw MM (hr.mono (by omega)) rfl (aq aD) (by refine aa (af 0) ?_;refine aa (af 1) ?_;refine aa (af 2) ?_;refine aa (af 3) ?_;exact ai)))
   (ay (aM (gU ["room", "weights", "tree", "placed"] (az iO).names ["number", "placed"] [none,some 3] rfl (eV rfl T.t_ (aa (aF (dR (K:=K) rfl) cZ rfl T.k_ cJ (aa (af 1) ai)) ai)) (λ_ _ _ _ _=>(aL (i:=0) (show List.Nodup (["number", "placed"]:List Str) from by decide) rfl (by trivial))) (λ_ _ _ _ _=>(uw (rQ hr) (af 1) (af 0) (λ_ _=>rfl)))))))))))
def oO:PSt:=
 (aE (aN true 11 (aA ek (ag (ah 2) (ag (ah 3) (ag (ah 5) ao)))))
  (aE (xIf (qO (qNo (qOf (pFn (bA kits) (ag (ah 11) (ag (pTy "list") ao))))) (qO (qOf (pOp bNe (ah 11) (ah 9))) (qOf (pOp bNe (ah 3) (ah 7))))) (a8 (pBl false)) xNx)
  (cF (oU 11 we))))
def lE:PSt:=
 (aE (aN false 7 (pFn ue (ag (ah 3) ao)))
  (aE (CL 8 (bX 42).fn [2,3,5])
  (aE (aN false 9 (pLC (iW (ag (pFn dD (ag (ah 3) ao)) ao)) [none,some 8] (by decide) (gtN 0) qY (pOp qa (ah 1) (ah 0))))
  (aE (gB (iW (ag (au 2) ao)) (gtN 10) (oO))
  (ni 3 seL (pOp fZ (pFn dD (ag (ah 3) ao)) (au 1)) (pOp bH (au 1) (pOp c9 (pOp bIx (ah 3) (au 0)) (pOp gG (au 10) (au 6)))))))))
def nU:PSt:=
 (gB (iW (ag (au 2) ao)) (gtN 6) (lE))
def rS:PSt:=
 (aE (aN true 1 (aA cD (ag (ah 0) (ag (au 55) ao))))
  (aE (aN false 2 (aA d9 (ag (ah 1) ao)))
  (aE (aN true 3 (aA cS (ag (ah 0) (ag (au 0) (ag (pOp bIx (dF (ag (au 9) (ag (au 40) ao))) (pFn xq (ag (pOp bEq (aA aB (ag (ah 1) (ag (au 6) ao))) (au 0)) ao))) ao)))))
  (aE (aN false 4 (aA dP (ag (ah 1) (ag (pFn dD (ag (ah 3) ao)) ao))))
  (aE (gB (bZ (dF (ag (aA (bM 42).fn (ag (ah 1) (ag (ah 4) ao))) (ag (aA dN (ag (ah 1) (ag (ah 4) ao))) ao)))) (gtN 5) (nU))
  (a8 (pBl true)))))))
def oR:PFn:=fnP [false] 12 rS
def D1(T:Txt K mg a_ f_ g_ b_ c_ e_)(D:Def K mg "law" ox)(y_:Callee P w K mg base "_law_feed" 1 ["_law_script", "_law_k"] (spD K mg 2 cD.F))(MY:Callee P w K mg base "_law_room" 3 ["_law_feed_here"] (spD K mg 1 d9.F))(Mn:Callee P w K mg base "_law_weights" 3 ["_law_script", "_law_at", "_law_most"] (spD K mg 3 cS.F))(d_:Callee P w K mg base "_law_next" 1 ["_law_feed_here", "_law_many"] (spD K mg 2 aB.F))(MK:Callee P w K mg base "_law_order" 2 ["_law_feed_here", "_law_many"] (spD K mg 2 dP.F))(E_:Callee P w K mg base "_law_tree" 45 ["_law_feed_here", "_law_numbers"] (spD K mg 2 (bM 42).F))(MJ:Callee P w K mg base "_law_chain" 2 ["_law_feed_here", "_law_numbers"] (spD K mg 2 dN.F))(J_:Callee P w K mg base "_law_lay" 88 ["_law_room_here", "_law_weights_here", "_law_tree_here", "_law_boxes"] (spD K mg 4 (bX 42).F))(MX:Callee P w K mg base "boxes_by" 51 ["room", "weights", "tree"] (spD K mg 3 ek.F)):Callee P w K mg base "law" (88+1) ["_law_script"] (spD K mg 1 oR.F):=by
 unfold oR rS nU lE oO
 exact okP D eE (λ_ _ _ _ _ _=>ar1 λ_=>rfl) λf cdv A outer s H E hr=>
  (ar (aH (i:=1) eE.nd rfl (by trivial) (aw y_ (hr.mono (by omega)) rfl (aq aD) (aa (af 0) (aa ak ai))))
   (ar (aH (i:=2) eE.nd rfl (by trivial) (aw MY (hr.mono (by omega)) rfl (aq aD) (aa (af 1) ai)))
   (ar (aH (i:=3) eE.nd rfl (by trivial) (aw Mn (hr.mono (by omega)) rfl (aq aD) (by refine aa (af 0) ?_;refine aa ak ?_;refine aa (aK (ixK (K:=K) rfl) aJ (b8 (aa ak (aa ak ai))) (l6 zU IJ rfl T.M3 zN (aa (gr (eW (K:=K) rfl hr.units) dH (aw d_ (hr.mono (by omega)) rfl (aq aD) (aa (af 1) (aa ak ai))) ak (aQ _)) ai)) (λ_ _=>rfl)) ?_;exact ai)))
   (ar (aH (i:=4) eE.nd rfl (by trivial) (aw MK (hr.mono (by omega)) rfl (aq aD) (aa (af 1) (aa (aF (dR (K:=K) rfl) cZ rfl T.k_ cJ (aa (af 3) ai)) ai))))
   (ar (eZ ft rfl (cU rfl (b8 (aa (aw E_ (hr.mono (by omega)) rfl (aq aD) (aa (af 1) (aa (af 4) ai))) (aa (aw MJ (hr.mono (by omega)) rfl (aq aD) (aa (af 1) (aa (af 4) ai))) ai)))) (aL (i:=5) eE.nd rfl (by trivial)) (ay (eZ ft rfl (eV rfl T.t_ (aa ak ai)) (aL (i:=6) eE.nd rfl (by trivial)) (ar (aH (i:=7) eE.nd rfl (by trivial) (l6 (JH (K:=K) rfl) D5 rfl T.K_ p6 (aa (af 3) ai)))
   (ar (aH (ow:=true) (i:=8) eE.nd rfl (by trivial) (aw J_ (hr.mono (by omega)) rfl (aq aD) (by refine aa (af 2) ?_;refine aa (af 3) ?_;refine aa (af 5) ?_;refine aa CS ?_;exact ai)))
   (ar (xA (iT:=9) ["_law_script", "_law_feed_here", "_law_room_here", "_law_weights_here", "_law_order_here", "_law_tree_here", "_law_turn", "_law_kept", "_law_boxes", "_law_due", "_law_again", "_law_found"] (az ox).names ["_law_k", "_law_boxes"] [none,some 8] rfl eE.nd rfl (by trivial) (eV rfl T.t_ (aa (aF (dR (K:=K) rfl) cZ rfl T.k_ cJ (aa (af 3) ai)) ai)) (λ_ _ _ _ _=>(aL (i:=0) (show List.Nodup (["_law_k", "_law_boxes"]:List Str) from by decide) rfl (by trivial))) (λ_ _ _ _ _=>(uw (rQ hr) (af 1) (af 0) (λ_ _=>rfl))))
   (ar (eZ ft rfl (eV rfl T.t_ (aa ak ai)) (aL (i:=10) eE.nd rfl (by trivial)) (ar (aH (i:=11) eE.nd rfl (by trivial) (aw MX (hr.mono (by omega)) rfl (aq aD) (by refine aa (af 2) ?_;refine aa (af 3) ?_;refine aa (af 5) ?_;exact ai)))
   (ar (bf (ZW.dt (hE (cV (cx (aF (fh (K:=K) rfl) (dX T.kits) rfl T.h_ a9 (aa (af 11) (aa (fg rfl T.K_ p6) ai))))) (hE (a0 (pE (K:=K) rfl hr.units) l8 (af 11) (af 9) (aQ _)) (iZ (a0 (pE (K:=K) rfl hr.units) l8 (af 3) (af 7) (aQ _)))))) (ay (aM jw)) aR)
   (ay (bN (qh rfl PySem.F.slot_list_clear PySem.F.type_list_clear AI BJ (af 11)))))))
   (ay (j4 (aC (aY (K:=K) rfl) aX ak (aC dg d6 (aK (ixK (K:=K) rfl) aJ (af 3) ak (λ_ _=>rfl)) (aC jm jq ak ak))) (af 3) (aC eD eB (aF (dR (K:=K) rfl) cZ rfl T.k_ cJ (aa (af 3) ai)) ak) m8 pI)))))))))
   (ay (aM jw)))))))
end
def fdV(a b k:Int):Val:=.lst [.int a,.int b,.int k]
def C6:gG.G (.int 10) (.int 18)=.val (.int (10^18)):=rR ⟨by decide,by decide,by decide⟩
def er{a m:Int}(h:0<m):0<=a.fmod m/\a.fmod m<m:=⟨Int.fmod_nonneg_of_pos a h,Int.fmod_lt_of_pos a h⟩
set_option hygiene false in
local macro_rules | `(tactic|simp![$args,*])=>`(tactic|simp only[kH,JY,Mf,K7,G0,l7,KZ,B5,xX,GA,GR,Iy,Jp,IQ,Gk,IK,DN,BG,FH,yN,EH,Gv,J2,LA,v_bl,Lp,v_ty,v_un,v_op,L5,GI,v_fn,LZ,Kb,L7,J5,c_of,c_tr,c_an,c_o,c_no,x_nx,FY,Lq,EA,Fj,Dy,HQ,C8,x_if,Ke,Ma,LG,Du,A0,Bs,g_n,g_sn,g_sc,g_t,g_x,JI,K6,KD,LU,EW,Lc,LQ,JP,Kn,J4,H9,IU,J8,Hk,BH,Kd,L8,Gw,FK,IV,HD,Lg,KL,mB,v_lc,Gd,Hw,Ia,Jv,Ib,A9,EV,o_n,o_s,v_sl,v_d0,LH,fx_G,Kj,Mi,k_lt,k_gt,k_ge,Ll,JU,k_ix,GW,Iq,Lk,k_eq,k_ne,Ml,Lo,Lf,JM,Lb,Li,Lz,IS,E6,Jh,AG,rh,List.getElem?_cons_zero,List.getElem?_cons_succ,List.set_cons_zero,List.set_cons_succ,List.length_cons,List.length_nil,Option.bind_some,Option.map_some,Option.isSome_some,if_true,if_false,Bool.not_true,Bool.not_false,Bool.and_true,Bool.true_and,Bool.and_false,Bool.false_and,Bool.or_true,Bool.true_or,Bool.or_false,Bool.false_or,Nat.reduceLeDiff,Nat.reduceLT,Nat.reduceAdd,Nat.reduceSub,Nat.reduceEqDiff,Nat.zero_add,Nat.add_zero,Nat.sub_self,List.cons_append,List.nil_append,List.append_nil,List.replicate,reduceCtorEq,decide_true,decide_false,Bool.false_eq_true,List.all_cons,List.all_nil,List.isEmpty_nil,List.isEmpty_cons,List.map_cons,List.map_nil,Int.reduceBEq,Int.reduceLT,Int.reduceAdd,Int.reduceSub,Int.reduceMul,Int.cast_ofNat_Int,Ha,Et,IL,Iu,GQ,DR,Cs,JJ,BI,Ep,Hc,yY,Fu,Ex,GJ,DD,yU,Fz,JK,Bc,Hy,DU,G5,BP,HF,IW,Fo,Kr,KP,Lu,Lw,yy,yq,yV,zC,nX,mR,yL,Cm,zG,ati0,ati1,ati2,ati3,ixn0,ixn1,Ko,cR,Js,Fg,u5,u4,xf,sC,vd,pX,sf,tK,xY,tM,vb,mQ,qE,zb,sV,sU,nt,zj,ug,wH,rq,sM,vm,Cw,BS,yu,yp,tP,va,vj,n9,Ek,$args,*])
def aO{a b k m:Int}(h0:0<m)(hm:Sm 8000 m):∃r a' b',aB.G [fdV a b k,.int m]=.ok (.val (.int r)) [fdV a' b' k]/\0<=r/\r<m:=by
 unfold aB
 rw[bS]
 unfold lr fdV
 have m0:m≠0:=by omega
 have d1:=λi=>fG (i:=i) m0
 have d2:=λi=>mK (i:=i) (CDivB.of m0 hm)
 have ca:∀x:Int,CMulA 7919 x:=λx=>CMulA.left (by decide) (by decide)
 have cb:∀x:Int,CMulA 104729 x:=λx=>CMulA.left (by decide) (by decide)
 have cc:∀x:Int,CMulA x 48271:=λx=>CMulA.right (by decide) (by decide)
 have e1:c9.G (.int a) (.int 1000003)=.val (.int (a.fmod 1000003)):=fG (by decide)
 have e2:b9.G (.int 7919) (.int k)=.val (.int (7919*k)):=cE (ca k)
 have e3:=λx=>cE (cb x)
 have e4:=λx=>cE (cc x)
 have e5:∀x:Int,c9.G (.int x) (.int 2147483647)=.val (.int (x.fmod 2147483647)):=λx=>fG (by decide)
 have e6:∀x:Int,c9.G (.int x) (.int 65521)=.val (.int (x.fmod 65521)):=λx=>fG (by decide)
 have e7:∀x y:Int,b9.G (.int (x.fmod 2147483647)) (.int y)=.val (.int (x.fmod 2147483647*y)):=λx y=>cE (CMulA.left (by have:=(er (a:=x) (m:=2147483647) (by decide)).1;omega) (by have:=(er (a:=x) (m:=2147483647) (by decide)).2;omega))
 have e8:∀x:Int,c9.G (.int x) (.int 2147483629)=.val (.int (x.fmod 2147483629)):=λx=>fG (by decide)
 by_cases hc:(10^18:Int)<=a
 ·have hc':decide ((10^18:Int)<=a)=true:=OH hc
  refine⟨a.fmod m,a.fdiv m,b+1,?_,er h0⟩
  simp![C6,hc',d1,d2]
  done
 ·have hc':decide ((10^18:Int)<=a)=false:=OA hc
  refine⟨Int.fmod (Int.fmod (Int.fmod ((Int.fmod a 1000003+7919*k+104729*(b+1))*48271) 2147483647*(Int.fmod (Int.fmod ((Int.fmod a 1000003+7919*k+104729*(b+1))*48271) 2147483647) 65521+(b+1))) 2147483629) m,a,b+1,?_,er h0⟩
  simp![C6,hc',d1,e1,e2,e3,e4,e5,e6,e7,e8]
def Az{a b k:Int}{m:Nat}(hm:m<=1000):∃(o:List Nat) (a' b':Int),(∀i,i∈o ↔ i<m)/\o.length=m/\dP.G [fdV a b k,.int (m:Nat)]=.ok (.new (itV o)) [fdV a' b' k]:=by
 have rg:gD [.int (m:Nat)]=some (rgV m):=pz (i:=(m:Nat)) (by omega) (by omega)
 obtain⟨e',⟨a',b',o,s3,h1,h2,_,rfl⟩,lo⟩:=AN (g:=(gtN 3).G) (B:=gq.G) (λi e=>∃(a b:Int) (o:List Nat) (s3:Sl),o.length=i/\(∀j,j∈o ↔ j<i)/\s3.pl=true/\e=[.mu (fdV a b k),.sh (.int (m:Nat)),.ow (itV o),s3]) m (e:=[.mu (fdV a b k),.sh (.int (m:Nat)),.ow (itV []),.no]) ⟨a,b,[],.no,rfl,by simp,rfl,rfl⟩ (by
  rintro i hi _ ⟨a,b,o,s3,h1,h2,h3,rfl⟩
  obtain⟨r,a1,b1,e1,r0,r1⟩:=aO (a:=a) (b:=b) (k:=k) (m:=(o.length:Nat)+1) (by omega) (sm8 (by omega))
  refine⟨[.mu (fdV a b k),.sh (.int (m:Nat)),.ow (itV o),.sh (.int (i:Nat))],[.mu (fdV a1 b1 k),.sh (.int (m:Nat)),.ow (itV (o.take r.toNat++i::o.drop r.toNat)),.sh (.int (i:Nat))],?_,.inl ?_,a1,b1,_,_,?_,?_,rfl,rfl⟩
  ·simp![h3]
  ·have ln:(o.map λk:Nat=>Val.int k).length=o.length:=N8 ..
   have ins:(0<=r/\r<=(o.length:Nat)/\o.length<16777216):=⟨r0,by omega,by omega⟩
   unfold gq itV
   generalize hf:fdV a b k=f0 at *
   generalize hf1:fdV a1 b1 k=f1 at *
   simp![ln,e1,B4,ins,true_and,and_true,and_self]
   simp [List.map_take,List.map_drop]
  ·simp only[Oa,Oo,Pn,Qc]
   omega
  ·intro j
   rw[O4,Ow]
   have:j∈o ↔ j∈o.take r.toNat\/j∈o.drop r.toNat:=by rw[<- O4,P_]
   rw[show (j<i+1 ↔ j<i\/j=i) from by omega,<- h2 j,this]
   constructor
   ·rintro (h |h |h)
    ·exact .inl (.inl h)
    ·exact .inr h
    ·exact .inl (.inr h)
   ·rintro ((h |h) |h)
    ·exact .inl h
    ·exact .inr (.inr h)
    ·exact .inr (.inl h))
 refine⟨o,a',b',h2,h1,?_⟩
 unfold dP
 rw[bS]
 unfold jX
 unfold itV at lo ⊢
 generalize fdV a b k=f0 at *
 generalize fdV a' b' k=f1 at *
 rw[OJ] at lo
 simp![rg,lo]
def v5{a b k:Int}:∃(w:Bool) (r a' b':Int),aB.G [fdV a b k,.int 2]=.ok (.val (.int r)) [fdV a' b' k]/\atI [Val.str "across",Val.str "down"] r=some (Val.str (wy w)):=by
 obtain⟨r,a1,b1,e1,r0,r1⟩:=aO (a:=a) (b:=b) (k:=k) (m:=2) (by decide) (sm8 (by decide))
 obtain rfl |rfl:r=0\/r=1:=by omega
 ·exact⟨true,0,a1,b1,e1,iM (by decide) rfl⟩
 ·exact⟨false,1,a1,b1,e1,iM (by decide) rfl⟩
theorem nQ{k:Int}(nv:Val):∀(b0:List Nat) (t:AT) (l:List Nat) (a b:Int) (s3:Sl),s3.pl=true->TOk t l->∃(t':AT) (a' b':Int) (s3':Sl),TOk t' (b0.reverse++l)/\eJ (gtN 3).G dZ.G (b0.map λi:Nat=>.int i) [.mu (fdV a b k),.sh nv,.sh (t.val λk=>.int (k:Nat)),s3]=.nx [.mu (fdV a' b' k),.sh nv,.sh (t'.val λk=>.int (k:Nat)),s3']
 | [],t,l,a,b,s3,_,h=>⟨t,a,b,s3,h,rfl⟩
 |
  x::b0,t,l,a,b,s3,h3,h=>by
  obtain⟨w,r,a1,b1,e1,w1⟩:=v5 (a:=a) (b:=b) (k:=k)
  obtain⟨r2,a2,b2,e2,r0,r1⟩:=aO (a:=a1) (b:=b1) (k:=k) (m:=2) (by decide) (sm8 (by decide))
  have key:∃t1,TOk t1 (x::l)/\dZ.G [.mu (fdV a b k),.sh nv,.sh (t.val λk=>.int (k:Nat)),.sh (.int (x:Nat))]=.nx [.mu (fdV a2 b2 k),.sh nv,.sh (t1.val λk=>.int (k:Nat)),.sh (.int (x:Nat))]:=by
   have hd:=h.dep
   have hp:=AT.dep_pos t
   obtain rfl |rfl:r2=0\/r2=1:=by omega
   ·refine⟨.nd w [.lf x,t],⟨by simp [AT.ok,AT.okL,h.ok],λk=>by simp [AT.lvs,AT.lvsL,h.mem],by simp [AT.dep,AT.depL] <;> omega,by simp [AT.lvs,AT.lvsL,h.len] <;> omega⟩,?_⟩
    unfold dZ
    rw[AT.val,AT.vals,AT.vals,AT.vals,AT.val]
    generalize AT.val (λk=>Val.int (k:Nat)) t=tv at *
    generalize fdV a b k=f0 at *
    generalize fdV a1 b1 k=f1 at *
    generalize fdV a2 b2 k=f2 at *
    simp![e1,w1,e2]
   ·refine⟨.nd w [t,.lf x],⟨by simp [AT.ok,AT.okL,h.ok],λk=>by simp [AT.lvs,AT.lvsL,h.mem,or_comm],by simp [AT.dep,AT.depL] <;> omega,by simp [AT.lvs,AT.lvsL,h.len]⟩,?_⟩
    unfold dZ
    rw[AT.val,AT.vals,AT.vals,AT.vals,AT.val]
    generalize AT.val (λk=>Val.int (k:Nat)) t=tv at *
    generalize fdV a b k=f0 at *
    generalize fdV a1 b1 k=f1 at *
    generalize fdV a2 b2 k=f2 at *
    simp![e1,w1,e2]
  obtain⟨t1,h1,bb⟩:=key
  obtain⟨t',a',b',s3',h',q⟩:=nQ (k:=k) nv b0 t1 (x::l) a2 b2 (.sh (.int (x:Nat))) rfl h1
  refine⟨t',a',b',s3',by rw[List.reverse_cons,O1];exact h',?_⟩
  rw[Of,dO]
  have g1:(gtN 3).G (.int (x:Nat)) [.mu (fdV a b k),.sh nv,.sh (t.val λk=>.int (k:Nat)),s3]=some [.mu (fdV a b k),.sh nv,.sh (t.val λk=>.int (k:Nat)),.sh (.int (x:Nat))]:=by
   generalize AT.val (λk=>Val.int (k:Nat)) t=tv at *
   simp![h3]
  rw[g1]
  dsimp only
  rw[bb]
  exact q
def Bm{a b k:Int}{l:List Nat}(hl:l≠[]):∃(t:AT) (a' b':Int),TOk t l/\dN.G [fdV a b k,itV l]=.ok (.val (t.val λk=>.int (k:Nat))) [fdV a' b' k]:=by
 cases l with
 |nil=>exact absurd rfl hl
 |
  cons x b0=>
  obtain⟨t,a',b',s3,h,q⟩:=nQ (k:=k) (itV (x::b0)) b0 (.lf x) [x] a b .no rfl ⟨rfl,λk=>by simp [AT.lvs],Oe _,rfl⟩
  refine⟨t,a',b',⟨h.ok,λk=>by rw[h.mem];simp [or_comm],by have:=h.dep;simpa using this,by have:=h.len;simpa using this⟩,?_⟩
  unfold dN
  rw[bS]
  unfold jJ
  rw[AT.val] at q
  unfold itV at q ⊢
  generalize AT.val (λk=>Val.int (k:Nat)) t=tv at *
  generalize fdV a b k=f0 at *
  generalize fdV a' b' k=f1 at *
  rw[Of] at q ⊢
  simp![ua,KI,kr,q]
theorem v7{k:Int}(nv:Val)(m:Nat)(hm:1<=m/\m<=1000):∀(vs:List Nat) (xss:List (List Nat)) (a b:Int) (s4:Sl),s4.pl=true->xss.length=m->(∀l∈xss,l≠[])->xss.flatten.length+vs.length<=1000->∃(yss:List (List Nat)) (a' b':Int) (s4':Sl),Lots yss xss vs/\gn 3 4 (aA aB (ag (ah 0) (ag (ah 2) ao))).G (vs.map λi:Nat=>.int i) (xss.map λl=>l.map λi:Nat=>.int i) [.mu (fdV a b k),.sh nv,.sh (.int (m:Nat)),.no,s4]=.nx [.mu (fdV a' b' k),.sh nv,.sh (.int (m:Nat)),.sh (.lst (BZ yss)),s4']
 |
  [],xss,a,b,s4,_,_,ne,_=>⟨xss,a,b,s4,⟨rfl,ne,λk=>by simp,rfl⟩,by
  unfold gn
  show SR3.nx _=_
  rw[Pl]
  rfl⟩
 |
  v::vs,xss,a,b,s4,h4,hl,ne,ht=>by
  rw[Oo] at ht
  obtain⟨r,a1,b1,e1,r0,r1⟩:=aO (a:=a) (b:=b) (k:=k) (m:=(m:Nat)) (by omega) (sm8 (by omega))
  have hi:r.toNat<xss.length:=by omega
  have hx:=OG hi
  generalize xss[r.toNat]=xs at hx
  have L1:=Au (u:=v) hx ne
  have hxl:xs.length<=1000:=by
   have:=Qx (Qa (Ph hx))
   omega
  obtain⟨yss,a',b',s4',L2,q⟩:=v7 (k:=k) nv m hm vs (xss.set r.toNat (xs++[v])) a1 b1 (.sh (.int (v:Nat))) rfl (by rw[Oq];exact hl) L1.ne (by have:=L1.tot;simp only[Oo,OC] at this;omega)
  refine⟨yss,a',b',s4',⟨L2.len.trans L1.len,L2.ne,λk=>by rw[L2.mem,L1.mem];simp [or_assoc],by have t1:=L2.tot;have t2:=L1.tot;simp only[Oo,OC] at t2 ⊢;omega⟩,?_⟩
  have g1:pN 4 (.int (v:Nat)) [.mu (fdV a b k),.sh nv,.sh (.int (m:Nat)),.no,s4]=some [.mu (fdV a b k),.sh nv,.sh (.int (m:Nat)),.no,.sh (.int (v:Nat))]:=by
   unfold pN
   show (if s4.pl=true then _ else _)=_
   rw[if_pos h4]
   rfl
  have q1:(aA aB (ag (ah 0) (ag (ah 2) ao))).G [.mu (fdV a b k),.sh nv,.sh (.int (m:Nat)),.no,.sh (.int (v:Nat))]=.ok (.val (.int r)) [.mu (fdV a1 b1 k),.sh nv,.sh (.int (m:Nat)),.no,.sh (.int (v:Nat))]:=by
   generalize fdV a b k=f0 at *
   generalize fdV a1 b1 k=f1 at *
   simp![e1]
  have hx':(xss.map λl=>l.map λi:Nat=>Val.int i)[r.toNat]?=some (xs.map λi:Nat=>Val.int i):=by rw[OD,hx];rfl
  have sx:(xss.map λl=>l.map λi:Nat=>Val.int i).set r.toNat ((xs.map λi:Nat=>Val.int i)++[.int (v:Nat)])=(xss.set r.toNat (xs++[v])).map λl=>l.map λi:Nat=>Val.int i:=by rw[List.map_set,OP];rfl
  rw[Of]
  unfold gn
  rw[g1]
  dsimp only
  rw[q1]
  dsimp only [rs]
  show (match (xss.map λl=>l.map λi:Nat=>Val.int i)[r.toNat]? with |some xs=>(if 0<=r/\xs.length<16777216 then gn 3 4 _ _ _ _ else .stuck) |none=>.stuck)=_
  rw[hx']
  dsimp only
  rw[if_pos ⟨r0,by rw[N8];omega⟩,sx]
  exact q
theorem qS{k:Int}{m n:Nat}(ih:∀(l:List Nat) (a b:Int),l≠[]->l.length<=n->∃(t:AT) (a' b':Int),TOk t l/\(bM m).G [fdV a b k,itV l]=.ok (.val (atV t)) [fdV a' b' k]):
 ∀(ls:List (List Nat)) (acc:List Val) (a b:Int) (s:Sl),s.pl=true->(∀l∈ls,l≠[]/\l.length<=n)->acc.length+ls.length<=16777216->∃(ps:List (AT×List Nat)) (a' b':Int) (s':Sl),ps.map (·.2)=ls/\(∀p∈ps,TOk p.1 p.2)/\lcV (gtN 0).G qY.G (aA (bM m).fn (ag (ah 1) (ag (ah 0) ao))).G (ls.map itV) acc [s,.mu (fdV a b k)]=.ok (acc++ps.map λp=>atV p.1) [s',.mu (fdV a' b' k)]
 | [],acc,a,b,s,_,_,_=>⟨[],a,b,s,rfl,(λ_ h=>nomatch h),by simp [lcV]⟩
 |
  l::ls,acc,a,b,s,hs,hl,ha=>by
  rw[Oo] at ha
  obtain⟨h1,h2⟩:=hl l (Od ..)
  obtain⟨t,a1,b1,ht,e1⟩:=ih l a b h1 h2
  obtain⟨ps,a',b',s',q1,q2,q3⟩:=qS ih ls (acc++[atV t]) a1 b1 (.sh (itV l)) rfl (λl hl'=>hl l (N9 _ hl')) (by rw[Oa];show acc.length+1+_<=_;omega)
  refine⟨(t,l)::ps,a',b',s',by rw[Of,q1],λp hp=>?_,?_⟩
  ·rcases Ow.mp hp with rfl |hp
   ·exact ht
   ·exact q2 p hp
  ·show lcV _ _ _ (itV l::ls.map itV) acc _=.ok (acc++atV t::ps.map λp=>atV p.1) _
   generalize atV t=tv at *
   generalize itV l=lv at *
   have g1:(gtN 0).G lv [s,.mu (fdV a b k)]=some [.sh lv,.mu (fdV a b k)]:=by
    simp![hs]
   have F1:(aA (bM m).fn (ag (ah 1) (ag (ah 0) ao))).G [.sh lv,.mu (fdV a b k)]=.ok (.val tv) [.sh lv,.mu (fdV a1 b1 k)]:=by
    generalize fdV a b k=f0 at *
    generalize fdV a1 b1 k=f1 at *
    simp![e1]
   have d1:dE [.sh lv,.mu (fdV a1 b1 k)] (.val tv)=some ([.sh lv,.mu (fdV a1 b1 k)],tv):=rfl
   unfold lcV
   have cy:qY.G=cY:=rfl
   rw[cy] at q3 ⊢
   rw[if_pos (by omega),g1]
   simp only[cY,kH,Pw,F1,d1,q3]
   simp
theorem vW{k:Int}:∀(n m:Nat) (l:List Nat) (a b:Int),l≠[]->l.length<=n->n<=m->n<=100->∃(t:AT) (a' b':Int),TOk t l/\(bM m).G [fdV a b k,itV l]=.ok (.val (atV t)) [fdV a' b' k]
 |0,m,l,a,b,hl,hn,_,_=>absurd (Pk.mp (by omega)) hl
 |n+1,0,l,a,b,_,_,hm,_=>absurd hm (by omega)
 |
  n+1,m+1,l,a,b,hl,hn,hm,h100=>by
  have ih:=λ(l:List Nat) (a b:Int) (h1:l≠[]) (h2:l.length<=n)=>vW (k:=k) n m l a b h1 h2 (by omega) (by omega)
  have hpos:=QS.mpr hl
  have ll:(l.map λk:Nat=>Val.int k).length=l.length:=N8 ..
  show ∃t a' b',_/\(PFx.of [true,false] 5 (eu (bM m))).G [fdV a b k,itV l]=_
  by_cases h1:l.length=1
  ·obtain⟨x,rfl⟩:=List.length_eq_one_iff.mp h1
   refine⟨.lf x,a,b,⟨rfl,λk=>by simp [AT.lvs],Oe _,rfl⟩,?_⟩
   rw[jx]
   unfold eu atV itV
   rw[AT.val]
   generalize fdV a b k=f0 at *
   simp![Of,OJ,kr]
  ·obtain⟨r,a1,b1,e1,r0,r1⟩:=aO (a:=a) (b:=b) (k:=k) (m:=if ((l.length:Nat):Int)-1<3 then ((l.length:Nat):Int)-1 else 3) (by split <;> omega) (sm8 (by split <;> omega))
   have hr:r<3/\r<(l.length:Int)-1:=by split at r1 <;> omega
   obtain⟨mn,hmn⟩:∃mn:Nat,(mn:Int)=2+r:=⟨(2+r).toNat,by omega⟩
   have ne1:(((l.length:Nat):Int)==1)=false:=by rw[Ov];omega
   obtain⟨yss,a2,b2,s4,L,dl⟩:=v7 (k:=k) (itV l) mn (by omega) (l.drop mn) ((l.take mn).map λx=>[x]) a1 b1 .no rfl (by rw[N8,Pn];omega) (λx hx=>by obtain⟨y,_,rfl⟩:=OU.mp hx;simp) (by
    have:((l.take mn).map λx=>[x]).flatten=l.take mn:=by rw[<- List.flatMap_def];exact List.flatMap_singleton' _
    rw[this,<- Oa,P_]
    omega)
   have hfl:((l.take mn).map λx=>[x]).flatten=l.take mn:=by rw[<- List.flatMap_def];exact List.flatMap_singleton' _
   have hy2:2<=yss.length:=by rw[L.len,N8,Pn];omega
   have htot:yss.flatten.length=l.length:=by rw[L.tot,hfl,<- Oa,P_]
   obtain⟨w,rw',a3,b3,e3,w3⟩:=v5 (a:=a2) (b:=b2) (k:=k)
   have hlt:=uI L.ne
   obtain⟨ps,a4,b4,s0,q1,q2,q3⟩:=qS (k:=k) (m:=m) (n:=n) ih yss [] a3 b3 .no rfl (λx hx=>⟨L.ne x hx,by have:=hlt x hx;omega⟩) (by have:=pG L.ne;rw[OC];omega)
   have pl:ps.length=yss.length:=by rw[<- q1,N8]
   have T:=Dm (w:=w) q2 (λz=>by rw[z] at pl;simp at pl;omega) (λp hp=>L.ne p.2 (by rw[<- q1];exact Pa hp)) (by omega)
   rw[q1] at T
   refine⟨.nd w (ps.map (·.1)),a4,b4,⟨T.ok,λk=>?_,by have:=T.dep;omega,by rw[T.len,htot]⟩,?_⟩
   ·rw[T.mem,List.mem_flatten,L.mem]
    constructor
    ·rintro (⟨x,hx,hk⟩ |hk)
     ·obtain⟨y,hy,rfl⟩:=OU.mp hx
      rw[Qn] at hk
      subst hk
      exact List.mem_of_mem_take hy
     ·exact List.mem_of_mem_drop hk
    ·intro hk
     rw[<- P_ mn l] at hk
     rcases O4.mp hk with hk |hk
     ·exact .inl ⟨[k],Pa (f:=λx=>[x]) hk,Qn.mpr rfl⟩
     ·exact .inr hk
   ·rw[Jz rfl]
    show trQ (atV (.nd w (ps.map (·.1)))) (fdV a4 b4 k) ((eu (bM m)).G [.mu (fdV a b k),.sh (itV l),.no,.no,.no])
    unfold eu
    refine aW (λe=>e=[.mu (fdV a b k),.sh (itV l),.no,.no,.no]) ⟨_,by unfold itV;simp![ll,ne1],rfl⟩ ?_
    rintro _ rfl
    refine aW (λe=>e=[.mu (fdV a1 b1 k),.sh (itV l),.sh (.int (mn:Nat)),.no,.no]) ⟨_,by
     unfold itV
     generalize fdV a b k=f0 at *
     generalize fdV a1 b1 k=f1 at *
     simp![ll,e1,hmn],rfl⟩ ?_
    rintro _ rfl
    refine aW (λe=>e=[.mu (fdV a2 b2 k),.sh (itV l),.sh (.int (mn:Nat)),.sh (.lst (BZ yss)),s4]) ⟨_,?_,rfl⟩ ?_
    ·rw[B6]
     have i1:(bZ (pSl (ah 1) oN (oS (ah 2)))).G [.mu (fdV a1 b1 k),.sh (itV l),.sh (.int (mn:Nat)),.no,.no]=.ok ((l.take mn).map λi:Nat=>.int i,none) [.mu (fdV a1 b1 k),.sh (itV l),.sh (.int (mn:Nat)),.no,.no]:=by
      unfold itV
      simp![ua,FG,List.map_take]
     have i2:(bZ (pSl (ah 1) (oS (ah 2)) oN)).G [.mu (fdV a1 b1 k),.sh (itV l),.sh (.int (mn:Nat)),.no,.no]=.ok ((l.drop mn).map λi:Nat=>.int i,none) [.mu (fdV a1 b1 k),.sh (itV l),.sh (.int (mn:Nat)),.no,.no]:=by
      unfold itV
      simp![ua,uQ,List.map_drop]
     rw[i1]
     show (if Sl.pl .no=true/\((l.take mn).map λi:Nat=>Val.int i).length<16777216 then _ else _)=_
     rw[if_pos ⟨rfl,by rw[N8,Pn];omega⟩]
     show ((bZ (pSl (ah 1) (oS (ah 2)) oN)).G [.mu (fdV a1 b1 k),.sh (itV l),.sh (.int (mn:Nat)),.no,.no]).toS _=_
     rw[i2]
     show gn 3 4 _ ((l.drop mn).map λi:Nat=>.int i) (((l.take mn).map λi:Nat=>Val.int i).map λv=>[v]) [.mu (fdV a1 b1 k),.sh (itV l),.sh (.int (mn:Nat)),.no,.no]=_
     have sx:(((l.take mn).map λi:Nat=>Val.int i).map λv=>[v])=((l.take mn).map λx=>[x]).map λl=>l.map λi:Nat=>Val.int i:=by rw[Pl,Pl];rfl
     rw[sx]
     exact dl
    ·rintro _ rfl
     have lp:(ps.map λp=>atV p.1).length<=16777216:=by have:=pG L.ne;rw[N8];omega
     rw[OQ] at q3
     unfold trQ
     unfold atV at q3 lp ⊢
     rw[AT.val,AT.vals_map,Pl]
     unfold BZ
     have cm:(List.map (AT.val (λk=>Val.int (k:Nat)) ∘ λx=>x.fst) ps)=ps.map λp=>AT.val (λk=>Val.int (k:Nat)) p.1:=rfl
     rw[cm]
     generalize (ps.map λp=>AT.val (λk=>Val.int (k:Nat)) p.1)=PS at *
     generalize itV l=lv at *
     generalize fdV a2 b2 k=f2 at *
     generalize fdV a3 b3 k=f3 at *
     generalize fdV a4 b4 k=f4 at *
     generalize yss.map itV=YS at *
     simp![e3,w3,cR,inS,q3,lp,xW]
def ED(xs:List Val):(bA kits).G [.tup xs,.ty "tuple"]=.val (.bl true):=rfl
def ye(t:AT):∀m,t.dep<=m->t.ok=true->t.lvs.length<=1000->(ba m).G [t.val λk=>.int (k:Nat)]=.ok (.new (.lst (t.lvs.map λk=>.int (k:Nat)))) []:=by
 induction t using AT.ind with
 |
  h1 k=>
  intro m hm _ _
  cases m with
  |zero=>simp [AT.dep] at hm
  |
   succ m=>
   have i1:(bA kits).G [.int (k:Nat),.ty "tuple"]=.val (.bl false):=rfl
   show (PFx.of [false] 1 (dn (ba m))).G [AT.val _ (.lf k)]=_
   rw[jx]
   unfold dn
   rw[AT.val,AT.lvs]
   simp![i1,Of,OJ]
 |
  h2 w ts ih=>
  intro m hm ho hl
  cases m with
  |zero=>simp [AT.dep] at hm
  |
   succ m=>
   rw[AT.dep] at hm
   have hd:=AT.depL_le.mp (show AT.depL ts<=m by omega)
   rw[AT.ok,Ol] at ho
   have hne:ts≠[]:=λz=>by rw[z] at ho;exact absurd ho.1 (by decide)
   have hk:=AT.okL_mem.mp ho.2
   rw[AT.lvs,AT.lvsL_flat] at hl
   have hll:∀t∈ts,t.lvs.length<=1000:=λt ht=>by
    have:=Qx (Qa (Pa (f:=AT.lvs) ht))
    omega
   show (PFx.of [false] 1 (dn (ba m))).G [AT.val _ (.nd w ts)]=_
   rw[jx]
   unfold dn
   rw[AT.val,AT.lvs,AT.vals_map,AT.lvsL_flat]
   obtain⟨e',⟨s,rfl,_⟩,lc⟩:=eA (g:=(gtN 0).G) (F:=(aA (ba m).fn (ag (ah 0) ao)).G) (AT.val λk=>.int (k:Nat)) (λt=>Val.lst (t.lvs.map λk=>.int (k:Nat))) (λe=>∃s:Sl,e=[s]/\s.pl=true) ts [] [.no] ⟨.no,rfl,rfl⟩ (by
    rintro t ht _ ⟨s,rfl,hs⟩
    have:=ih t ht m (hd t ht) (hk t ht) (hll t ht)
    generalize AT.val (λk=>Val.int (k:Nat)) t=tv at *
    refine⟨[.sh tv],.new (.lst (t.lvs.map λk=>.int (k:Nat))),[.sh tv],?_,?_,rfl,_,rfl,rfl⟩
    ·simp![hs]
    ·simp![this]) (by
    rw[OC,Nat.zero_add]
    have:ts.length<=((ts.map AT.lvs).flatten).length:=jn λt ht=>my (hk t ht)
    omega)
   have e2:ts.map (λt=>Val.lst (t.lvs.map λk=>.int (k:Nat)))=(ts.map λt=>t.lvs.map λk=>Val.int (k:Nat)).map .lst:=by rw[Pl];rfl
   have hfl:(ts.map λt=>t.lvs.map λk=>Val.int (k:Nat)).flatten=(ts.map AT.lvs).flatten.map λk=>Val.int (k:Nat):=by
    rw[List.map_flatten,Pl];rfl
   have sm:=Gj (ts.map λt=>t.lvs.map λk=>Val.int (k:Nat)) []
   rw[<- e2,hfl,if_pos ⟨by simpa using hne,by rw[OC,N8];omega⟩,OQ] at sm
   have ll:(ts.map (λt=>Val.lst (t.lvs.map λk=>.int (k:Nat)))).length<=16777216:=by
    rw[N8]
    have:ts.length<=((ts.map AT.lvs).flatten).length:=jn λt ht=>my (hk t ht)
    omega
   rw[OQ] at lc
   simp![ED,cR,lc,ll,sm]
def y9(w:Bool):dA.G [.str (wy w)]=.ok (.val (.bl true)) []:=by
 have i1:∀x:Str,(bA kits).G [.str x,.ty "str"]=.val (.bl true):=λ_=>rfl
 have i2:bIn.G (.str (wy w)) (.tup [.str "across",.str "down"])=.val (.bl true):=by cases w <;> rfl
 unfold dA
 rw[bS]
 unfold kU
 simp![i1,i2]
def yW{w:Bool}{ts:List Val}(h:2<=ts.length):cG.G [.tup [.str (wy w),.tup ts]]=.ok (.val (.bl true)) []:=by
 have e:=y9 w
 have i1:∀xs:List Val,(bA kits).G [.tup xs,.ty "tuple"]=.val (.bl true):=λ_=>rfl
 have g:decide ((2:Int)<=(ts.length:Nat))=true:=OH (by omega)
 unfold cG
 rw[bS]
 unfold gZ
 simp![i1,e,kr,g]
def x9{a:Val}(h:lfV a=true):cG.G [a]=.ok (.val (.bl false)) []:=by
 have i1:(bA kits).G [a,.ty "tuple"]=.val (.bl false):=by cases a <;> first |rfl |(cases h;done)
 unfold cG
 rw[bS]
 unfold gZ
 simp![i1]
def yw(k:Nat):bF.G [.int (k:Nat)]=.ok (.val (.bl true)) []:=by
 have i1:(bA kits).G [.int (k:Nat),.ty "int"]=.val (.bl true):=rfl
 have i2:(bA kits).G [.int (k:Nat),.ty "bool"]=.val (.bl false):=rfl
 unfold bF
 rw[bS]
 unfold iR
 simp![i1,i2]
theorem lI{n:Nat}(v:Val):∀(N:Nat) (st:List AT) (xs:List Int) (s4:Sl),AT.cntL st<=N->s4.pl=true->(∀t∈st,t.ok=true)->(∀k∈AT.lvsL st,k<n)->(AT.lvsL st).Nodup->(∀k∈AT.lvsL st,((k:Nat):Int)∉xs)->xs.length+(AT.lvsL st).length<=3000->AT.cntL st<=100000->
 ∃(ys:List Int) (s4':Sl),ys.length=xs.length+(AT.lvsL st).length/\(xWh (qTr (ah 3)) dJ).G [.sh v,.sh (.int (n:Nat)),.ow (.set xs),.ow (.lst (st.map atV)),s4]=.nx [.sh v,.sh (.int (n:Nat)),.ow (.set ys),.ow (.lst []),s4']
 |
  N,[],xs,s4,_,_,_,_,_,_,_,_=>⟨xs,s4,by simp [AT.lvsL],by
  rw[lF]
  simp![OJ,nc,List.isEmpty_nil]⟩
 |
  0,t::ts,xs,s4,h,_,_,_,_,_,_,_=>by
  rw[AT.cntL] at h
  cases t <;> (rw[AT.cnt] at h;omega)
 |
  N+1,t0::ts0,xs,s4,hN,h4,ho,hn,nd,hx,hl,hc=>by
  obtain⟨st,t,hst⟩:∃st t,t0::ts0=st++[t]:=⟨(t0::ts0).dropLast,(t0::ts0).getLast (by simp),(List.dropLast_concat_getLast (by simp)).symm⟩
  rw[hst] at hN ho hn nd hx hl hc ⊢
  rw[AT.lvsL_app] at hn nd hx hl
  rw[AT.lvsL_app]
  rw[AT.cntL_app] at hN hc
  have hn0:((st++[t]).map atV).isEmpty=false:=by cases st <;> rfl
  have c1:(qTr (ah 3)).G [.sh v,.sh (.int (n:Nat)),.ow (.set xs),.ow (.lst ((st++[t]).map atV)),s4]=.ok true [.sh v,.sh (.int (n:Nat)),.ow (.set xs),.ow (.lst ((st++[t]).map atV)),s4]:=by
   simp![nc,hn0,Bool.not_false]
  have hto:=ho t (by simp)
  rw[lF,c1]
  show ∃ys s4',_/\((dJ.G _).loop _)=_
  rw[OP,Of,OJ]
  cases t with
  |
   lf k=>
   simp only[AT.lvsL,AT.lvs,OR,Oa,Oo,OC,AT.cntL,AT.cnt] at hn nd hx hl hN hc ⊢
   have hk:=hn k (by simp)
   have hkx:=hx k (by simp)
   have nda:=List.nodup_append.mp nd
   obtain⟨ys,s4',q1,q2⟩:=lI (n:=n) v N st (fO xs (k:Nat)) (.sh (.int (k:Nat))) (by omega) rfl (λt ht=>ho t (by simp [ht])) (λj hj=>hn j (by simp [hj])) nda.1 (λj hj z=>by
    unfold fO at z
    rw[if_neg hkx] at z
    rcases Ow.mp z with z |z
    ·exact nda.2.2 j hj k (by simp) (Int.ofNat.inj z)
    ·exact hx j (by simp [hj]) z) (by unfold fO;rw[if_neg hkx,Oo];omega) (by omega)
   refine⟨ys,s4',by rw[q1];unfold fO;rw[if_neg hkx,Oo];omega,?_⟩
   have b1:=x9 (a:=.int (k:Nat)) rfl
   have w1:=yw k
   have l0:decide (((k:Nat):Int)<0)=false:=OA (by omega)
   have l1:decide (((n:Nat):Int)<=(k:Nat))=false:=OA (by omega)
   have in1:decide (((k:Nat):Int)∈xs)=false:=OA hkx
   have av:atV (.lf k)=.int (k:Nat):=rfl
   have xl:xs.length<4000:=by omega
   have bb:dJ.G [.sh v,.sh (.int (n:Nat)),.ow (.set xs),.ow (.lst (st.map atV++[atV (.lf k)])),s4]=.nx [.sh v,.sh (.int (n:Nat)),.ow (.set (fO xs (k:Nat))),.ow (.lst (st.map atV)),.sh (.int (k:Nat))]:=by
    unfold dJ
    rw[av]
    simp![oy,h4,b1,w1,l0,l1,Ki,in1,Hv,tT,Cg,xl]
   rw[bb]
   exact q2
  |
   nd w ts=>
   have ho':=hto
   rw[AT.ok,Ol] at hto
   have h2:2<=ts.length:=of_decide_eq_true hto.1
   have hk:=AT.okL_mem.mp hto.2
   simp only[AT.lvsL,AT.lvs,OR,AT.cntL,AT.cnt] at hn nd hx hl hN hc ⊢
   obtain⟨ys,s4',q1,q2⟩:=lI (n:=n) v N (st++ts) xs (.sh (atV (.nd w ts))) (by rw[AT.cntL_app];omega) rfl (λt ht=>by
    rcases O4.mp ht with ht |ht
    ·exact ho t (by simp [ht])
    ·exact hk t ht) (by rw[AT.lvsL_app];exact hn) (by rw[AT.lvsL_app];exact nd) (by rw[AT.lvsL_app];exact hx) (by rw[AT.lvsL_app];exact hl) (by rw[AT.cntL_app];omega)
   rw[AT.lvsL_app] at q1
   refine⟨ys,s4',q1,?_⟩
   have av:atV (.nd w ts)=.tup [.str (wy w),.tup (ts.map atV)]:=by
    unfold atV
    rw[AT.val,AT.vals_map]
   have b1:=yW (w:=w) (ts:=ts.map atV) (by rw[N8];exact h2)
   have le:∀l:List AT,l.length<=AT.cntL l:=by
    intro l
    induction l with
    |nil=>exact Oe _
    |cons t l ih=>rw[AT.cntL,Oo];cases t <;> (rw[AT.cnt];omega)
   have ll:(st.map atV).length+(ts.map atV).length<=16777216:=by
    have:=le st
    have:=le ts
    rw[N8,N8]
    omega
   rw[av] at q2 ⊢
   rw[OP] at q2
   have bb:dJ.G [.sh v,.sh (.int (n:Nat)),.ow (.set xs),.ow (.lst (st.map atV++[.tup [.str (wy w),.tup (ts.map atV)]])),s4]=.nx [.sh v,.sh (.int (n:Nat)),.ow (.set xs),.ow (.lst (st.map atV++ts.map atV)),.sh (.tup [.str (wy w),.tup (ts.map atV)])]:=by
    unfold dJ
    simp![oy,h4,b1,qQ,ll]
   rw[bb]
   exact q2
def xg{t:AT}{n:Nat}(ho:t.ok=true)(hn:∀k∈t.lvs,k<n)(nd:t.lvs.Nodup)(hl:t.lvs.length=n)(h3:n<=3000)(hc:t.cnt<=100000):eU.G [atV t,.int (n:Nat)]=.ok (.val (.bl true)) []:=by
 have e1:AT.lvsL [t]=t.lvs:=by simp [AT.lvsL]
 have e2:AT.cntL [t]=t.cnt:=by simp [AT.cntL]
 obtain⟨ys,s4',q1,q2⟩:=lI (n:=n) (atV t) (AT.cntL [t]) [t] [] .no (Oe _) rfl (λu hu=>by rw[Qn] at hu;rw[hu];exact ho) (by rw[e1];exact hn) (by rw[e1];exact nd) (λk hk z=>nomatch z) (by rw[e1,hl];simp;exact h3) (by rw[e2];exact hc)
 rw[e1,hl,OC,Nat.zero_add] at q1
 rw[Of,OJ] at q2
 unfold eU
 rw[bS]
 unfold lJ
 generalize atV t=tv at *
 simp![IF,q2,Gq,q1,beq_self_eq_true]
def rD{t:AT}{n:Nat}(ho:t.ok=true)(hn:∀k∈t.lvs,k<n)(nd:t.lvs.Nodup)(hl:t.lvs.length=n)(h3:n<=3000)(hc:t.cnt<=100000):dB.G [atV t,.int (n:Nat)]=.ok (.val .non) []:=by
 have e:=xg ho hn nd hl h3 hc
 unfold dB
 rw[bS]
 unfold je
 generalize atV t=tv at *
 simp![e]
def iY(a:Int):(if a<0 then -a else a)=((a.natAbs:Nat):Int):=by split <;> omega
theorem sF:∀(n one ap:Nat),ap<=n->(xWh (qOf (pOp bNe (ah 1) (au 0))) cX).G [.sh (.int (one:Nat)),.sh (.int (ap:Nat))]=.nx [.sh (.int (Nat.gcd one ap:Nat)),.sh (.int 0)]
 |
  n,one,0,_=>by
  rw[lF]
  simp![kH]
  rw[Nat.gcd_zero_right]
  try rfl
 |0,one,ap+1,hl=>absurd hl (by omega)
 |
  n+1,one,ap+1,hl=>by
  rw[lF]
  have e:((((ap+1:Nat):Int)==0))=false:=by rw[Ov];omega
  have e1:c9.G (.int (one:Nat)) (.int ((ap+1:Nat):Int))=.val (.int (((one:Nat):Int).fmod ((ap+1:Nat):Int))):=fG (by omega)
  have e2:((one:Nat):Int).fmod ((ap+1:Nat):Int)=((one % (ap+1):Nat):Int):=by
   rw[Int.fmod_eq_emod_of_nonneg _ (by omega)];rfl
  have ih:=sF n (ap+1) (one % (ap+1)) (by have:=Nat.mod_lt one (show ap+1>0 by omega);omega)
  rw[Fr.euc] at ih
  rw[e2] at e1
  have bb:cX.G [.sh (.int (one:Nat)),.sh (.int ((ap+1:Nat):Int))]=.nx [.sh (.int ((ap+1:Nat):Int)),.sh (.int ((one % (ap+1):Nat):Int))]:=by
   unfold cX
   simp![e1]
  simp![e,bb,ih]
def dS(a b:Int):br.G [.int a,.int b]=.ok (.val (.int (Int.gcd a b:Nat))) []:=by
 unfold br
 rw[bS]
 unfold fH
 have:=sF b.natAbs a.natAbs b.natAbs (Oe _)
 simp![iY,this]
 rfl
def g0{a b:Int}(hb:b≠0)(hs:Sm 8000 b):bT.G [.int a,.int b]=.ok (.val (fV ((a:Rat)/(b:Rat)))) []:=by
 unfold bT
 rw[bS]
 unfold kS
 have e:(b==0)=false:=by rw[Ov];exact hb
 have c:∀x,CDivB x (Fr.dv a b):=λx=>CDivB.of (Fr.dv_ne hb) (hs.of_le (by
  rw[Fr.dv_abs]
  exact Nat.le_of_dvd (by omega) (Nat.gcd_dvd_right a.natAbs b.natAbs)))
 have k1:=mK (c a)
 have k2:=mK (c b)
 have hh:=n8 (a:=a) hb
 have fin:Val.tup [.int (a.fdiv (Fr.dv a b)),.int (b.fdiv (Fr.dv a b))]=fV ((a:Rat)/(b:Rat)):=by
  unfold fV
  rw[<- hh.1,<- hh.2]
  rfl
 by_cases hn:b<0
 ·have hd:Fr.dv a b=-((Int.gcd a b:Nat):Int):=by unfold Fr.dv;rw[if_pos hn]
  rw[hd] at k1 k2 fin
  simp![e,dS,OH hn,k1,k2,fin]
 ·have hd:Fr.dv a b=((Int.gcd a b:Nat):Int):=by unfold Fr.dv;rw[if_neg hn]
  rw[hd] at k1 k2 fin
  simp![e,dS,OA hn,k1,k2,fin]
def BV{p q:Rat}{n m:Nat}(hp:Sz n p)(hq:Sz m q)(h:n+m<=8000):gy.G [fV p,fV q]=.ok (.val (fV (p+q))) []:=by
 have c1:=cE (CMulA.of hp.top hq.bot (by omega) (by omega))
 have c2:=cE (CMulA.of hq.top hp.bot (by omega) (by omega))
 have c3:=cE (CMulA.of hp.bot hq.bot (by omega) (by omega))
 have fe:=g0 (a:=p.num*q.den+q.num*p.den) (b:=p.den*q.den) (QH (fE p) (fE q)) ((hp.bot.mul hq.bot).mono h)
 rw[<- vM] at fe
 unfold gy
 rw[bS]
 unfold qg
 rw[show fV p=.tup [.int p.num,.int p.den] from rfl,show fV q=.tup [.int q.num,.int q.den] from rfl]
 simp![c1,c2,c3,fe]
def uN{p q:Rat}{n m:Nat}(hp:Sz n p)(hq:Sz m q)(h:n+m<=8000):fT.G [fV p,fV q]=.ok (.val (fV (p*q))) []:=by
 have c1:=cE (CMulA.of hp.top hq.top (by omega) (by omega))
 have c2:=cE (CMulA.of hp.bot hq.bot (by omega) (by omega))
 have fe:=g0 (a:=p.num*q.num) (b:=p.den*q.den) (QH (fE p) (fE q)) ((hp.bot.mul hq.bot).mono h)
 rw[<- v9] at fe
 unfold fT
 rw[bS]
 unfold qB
 rw[show fV p=.tup [.int p.num,.int p.den] from rfl,show fV q=.tup [.int q.num,.int q.den] from rfl]
 simp![c1,c2,fe]
def mh{v:Val}(hk:knV v=true):(bA kits).G [v,.ty "tuple"]=.val (.bl (gm v)):=by
 cases v <;> first |rfl |cases hk
def jZ{v:Val}(hk:knV v=true):bF.G [v]=.ok (.val (.bl (kW v))) []:=by
 unfold bF
 rw[bS]
 unfold iR
 cases v <;> first |rfl |cases hk
def tQ(v:Val):gm v=false\/∃xs,v=.tup xs:=by
 cases v <;> first |exact .inr ⟨_,rfl⟩ |exact .inl rfl
def nI(v:Val):kW v=false\/∃i,v=.int i:=by
 cases v <;> first |exact .inr ⟨_,rfl⟩ |exact .inl rfl
def L4{v:Val}(h:gm v=false):bp v=false:=by
 cases v <;> first |rfl |cases h
def Mg{v:Val}(h:gm v=false):gY v=false:=by
 cases v <;> first |rfl |cases h
def I0{a b:Val}(h:kW a=false):bp (.tup [a,b])=false:=by
 cases a <;> first |rfl |cases h
def HJ{i:Int}{b:Val}(h:kW b=false):bp (.tup [.int i,b])=false:=by
 cases b <;> first |rfl |cases h
def JS{xs:List Val}(hl:xs.length≠2):bp (.tup xs)=false:=by
 unfold bp
 split
 ·rename_i e;injection e with e;subst e;exact absurd rfl hl
 ·rfl
def Kq{xs:List Val}(hl:xs.length≠4):gY (.tup xs)=false:=by
 unfold gY
 split
 ·rename_i e;injection e with e;subst e;exact absurd rfl hl
 ·rfl
def CO{k:Nat}{v:Val}(ha:jF k v=true)(h:gm v=false):knV v=true:=by
 cases v with
 |tup xs=>cases h
 |_=>cases k <;> exact ha
def qA{v:Val}(ha:jF 1 v=true):cq.G [v]=.ok (.val (.bl (bp v))) []:=by
 unfold cq
 rw[bS]
 unfold iI
 rcases tQ v with ht |⟨xs,rfl⟩
 ·have it:=mh (CO ha ht)
  rw[ht] at it
  simp![it,L4 ht]
 have it:=mh (v:=.tup xs) rfl
 by_cases hl:xs.length=2
 ·match xs,hl,ha with
  |
   [a,b],_,ha=>
   have ha':(knV a&&(knV b&&true))=true:=by simpa [jF] using ha
   simp only[Ol] at ha'
   have w1:=jZ ha'.1
   have w2:=jZ ha'.2.1
   rcases nI a with h1 |⟨i,rfl⟩
   ·rw[h1] at w1
    simp![it,gm,w1,I0 h1]
   rcases nI b with h2 |⟨j,rfl⟩
   ·rw[h2] at w2
    simp![it,gm,w1,kW,w2,HJ h2]
   have f:bp (.tup [.int i,.int j])=(decide (1<=j)&&decide (Int.gcd i j=1)):=rfl
   have g:((((Int.gcd i j:Nat):Int)==1):Bool)=decide (Int.gcd i j=1):=by
    rw[Bool.eq_iff_iff,Qf,Qv];omega
   by_cases hj:1<=j
   ·simp![it,gm,w1,w2,kW,dS,OH hj,f,g]
   ·simp![it,gm,w1,w2,kW,dS,OA hj,f,g]
 ·have e:(((xs.length:Nat):Int)==2)=false:=by rw[Ov];omega
  simp![it,gm,e,JS hl]
def qV{v:Val}(ha:jF 2 v=true):fJ.G [v]=.ok (.val (.bl (gY v))) []:=by
 unfold fJ
 rw[bS]
 unfold nz
 rcases tQ v with ht |⟨xs,rfl⟩
 ·have it:=mh (CO ha ht)
  rw[ht] at it
  simp![it,Mg ht]
 have it:=mh (v:=.tup xs) rfl
 by_cases hl:xs.length=4
 ·match
   xs,hl,ha with
  |
   [a,b,c,d],_,ha=>
   have e1:gY (.tup [a,b,c,d])=(bp a&&(bp b&&(bp c&&(bp d&&(kO c&&kO d))))):=rfl
   have bl4:∀x y z w:Bool,lK [.bl x,.bl y,.bl z,.bl w]=some [x,y,z,w]:=λ_ _ _ _=>rfl
   obtain⟨e',⟨s',rfl,_⟩,lc⟩:=pU (g:=(gtN 0).G) (F:=(aA cq (ag (ah 0) ao)).G) (f:=λv=>.bl (bp v)) (λe=>∃s,e=[s]/\s.pl=true) [a,b,c,d] [] [.no] ⟨.no,rfl,rfl⟩ (by
    rintro v hv e ⟨s,rfl,hs⟩
    have hv':jF 1 v=true:=OV.mp (by simpa [jF] using ha) v hv
    refine⟨[.sh v],.val (.bl (bp v)),[.sh v],?_,?_,rfl,⟨_,rfl,rfl⟩⟩
    ·simp![hs]
    ·simp![qA hv']) (by simp)
   have cy:cY=qY.G:=rfl
   rw[cy,OQ] at lc
   simp only[Of,OJ] at lc
   cases hA:(bp a&&(bp b&&(bp c&&bp d))) with
   |
    true=>
    simp only[Ol] at hA
    obtain⟨p,rfl⟩:=yS hA.2.2.1
    obtain⟨q,rfl⟩:=yS hA.2.2.2
    rw[hA.1,hA.2.1,hA.2.2.1,hA.2.2.2] at e1 lc
    have e2:gY (.tup [a,b,fV p,fV q])=(decide (0<p.num)&&decide (0<q.num)):=by rw[e1];rfl
    rw[e2]
    have i1:(fV p).items=some [.int p.num,.int p.den]:=rfl
    have i2:(fV q).items=some [.int q.num,.int q.den]:=rfl
    by_cases hp:0<p.num
    ·simp![it,gm,lc,cR,bl4,id,i1,i2,OH hp]
    ·simp![it,gm,lc,cR,bl4,id,i1,OA hp]
   |
    false=>
    have e2:gY (.tup [a,b,c,d])=false:=by
     rw[e1]
     revert hA
     generalize bp a=a',bp b=b',bp c=c',bp d=d',(kO c&&kO d)=z
     revert a' b' c' d' z
     decide
    rw[e2]
    simp![it,gm,lc,cR,bl4,id,hA]
 ·have e:(((xs.length:Nat):Int)==4)=false:=by rw[Ov];omega
  simp![it,gm,e,Kq hl]
def uE{v:Val}(ha:jF 2 v=true):bR.G [v]=if gY v=true then .ok (.val .non) [] else .exc "NoBox" []:=by
 unfold bR
 rw[bS]
 unfold jY
 cases h:gY v with
 |true=>simp![qV ha,h]
 |false=>simp![qV ha,h]
def lN{b:Bx}(hb:b.Ok):bR.G [bV b]=.ok (.val .non) []:=by rw[uE (Jy b),CA hb];rfl
def LX{v:Val}(h:kW v=false):jv v=false:=by
 cases v <;> first |rfl |cases h
def Bp(v:Val):ku v=false\/∃xs,v=.lst xs:=by
 cases v <;> first |exact .inr ⟨_,rfl⟩ |exact .inl rfl
def uB{v:Val}(hk:knV v=true):de.G [v]=.ok (.val (.bl (jv v))) []:=by
 have w:=jZ hk
 unfold de
 rw[bS]
 unfold jN
 rcases nI v with h |⟨i,rfl⟩
 ·rw[h] at w
  simp![w,LX h]
 ·simp![w,kW];rfl
def vH{v:Val}(hk:knV v=true):(bA kits).G [v,.ty "list"]=.val (.bl (ku v)):=by
 cases v <;> first |rfl |cases hk
def wF(v:Val):R3F:=match v with
 |.lst xs=>if xs=[] then .exc "NoWeights" [] else if xs.all jv=true then (if xs.length<=40 then .ok (.val .non) [] else .exc "TooMany" []) else .exc "NoWeights" []
 |_=>.exc "NoWeights" []
def Ga{v:Val}(h:ku v=false):wF v=.exc "NoWeights" []:=by
 cases v <;> first |rfl |cases h
def sq:Val->Bool
 |.lst xs=>decide (xs.length<=1000)&&xs.all knV
 |v=>knV v
def Fy{v:Val}(h:sq v=true)(hl:ku v=false):knV v=true:=by cases v <;> first |(cases hl;done) |exact h
theorem kK(f:Val->Bool):∀xs:List Val,lK (xs.map λv=>.bl (f v))=some (xs.map f)
 | []=>rfl
 |x::xs=>by show (lK (xs.map λv=>.bl (f v))).map (f x :: ·)=_;rw[kK f xs];rfl
def kZ(f:Val->Bool)(xs:List Val):(xs.map f).all id=xs.all f:=by rw[List.all_map];rfl
def nq{v:Val}(ha:sq v=true):bq.G [v]=wF v:=by
 unfold bq
 rw[bS]
 unfold gi
 rcases Bp v with hv |⟨xs,rfl⟩
 ·have il:=vH (Fy ha hv)
  rw[hv] at il
  rw[Ga hv]
  simp![il]
 ·have ha':xs.length<=1000/\xs.all knV=true:=by simpa [sq] using ha
  have il:=vH (v:=.lst xs) rfl
  unfold wF
  dsimp only
  by_cases h0:xs=[]
  ·subst h0
   simp![il]
  ·have e0:(((xs.length:Nat):Int)==0)=false:=by
    rw[Ov]
    intro z
    exact h0 (Pk.mp (by omega))
   rw[if_neg h0]
   obtain⟨e',p',lc⟩:=pU (g:=(gtN 0).G) (F:=(aA de (ag (ah 0) ao)).G) (f:=λv=>.bl (jv v)) (λe=>∃s,e=[s]/\s.pl=true) xs [] [.no] ⟨.no,rfl,rfl⟩ (by
    rintro v hv e ⟨s,rfl,hs⟩
    refine⟨[.sh v],.val (.bl (jv v)),[.sh v],?_,?_,rfl,⟨_,rfl,rfl⟩⟩
    ·simp![hs]
    ·simp![uB (OV.mp ha'.2 v hv)]) (by simp;omega)
   obtain⟨s',rfl,_⟩:=p'
   have cy:cY=qY.G:=rfl
   rw[cy,OQ] at lc
   have be:(xs.map λv=>Val.bl (jv v)).length<=16777216:=by rw[N8];omega
   by_cases hw:xs.all jv=true
   ·rw[if_pos hw]
    by_cases h40:xs.length<=40
    ·have hd:decide ((40:Int)<((xs.length:Nat):Int))=false:=OA (by omega)
     rw[if_pos h40]
     simp![il,e0,cR,lc,be,kK,kZ,hw,hd]
    ·have hd:decide ((40:Int)<((xs.length:Nat):Int))=true:=OH (by omega)
     rw[if_neg h40]
     simp![il,e0,cR,lc,be,kK,kZ,hw,hd]
   ·have hw':xs.all jv=false:=Bool.eq_false_iff.mpr hw
    rw[if_neg hw]
    simp![il,e0,cR,lc,be,kK,kZ,hw']
def yo{ws:List Int}(h0:ws≠[])(h1:∀w∈ws,1<=w)(h2:ws.length<=40):bq.G [.lst (ws.map .int)]=.ok (.val .non) []:=by
 have ha:sq (.lst (ws.map .int))=true:=by
  simp only[sq,Ol,Qv,N8]
  exact⟨by omega,by rw[OV];intro v hv;obtain⟨w,_,rfl⟩:=OU.mp hv;rfl⟩
 rw[nq ha]
 unfold wF
 dsimp only
 rw[if_neg (by intro z;exact h0 (List.map_eq_nil_iff.mp z)),if_pos (by
  rw[OV];intro v hv
  obtain⟨w,hw,rfl⟩:=OU.mp hv
  exact OH (h1 w hw)),if_pos (by rw[N8];exact h2)]
def ze:eT (.str "down") (.str "across")=some false:=by rw[L3.eq_str (by decide) (by decide)];exact O3 some (by decide)
def yX:eT (.str "across") (.str "across")=some true:=by rw[L3.eq_str (by decide) (by decide)];exact O3 some (by decide)
def prV(p:Rat×Rat):Val:=.tup [fV p.1,fV p.2]
theorem vT{s l:Rat}{n m:Nat}{W:Int}{wv:Val}(hs:Sz n s)(hl:Sz n l)(hW:0<W)(mW:Sm m W)(h:n+n+m<=8000):∀(ws:List Int) (a:Int) (acc:List (Rat×Rat)) (s6 s7:Sl),s6.pl=true->s7.pl=true->0<=a->(∀w∈ws,0<=w)->a+ws.sum<=W->acc.length+ws.length<=16777216->∃s6' s7',eJ (gtN 6).G iq.G (ws.map .int) [.sh (fV s),.sh (fV l),.sh wv,.sh (.int W),.sh (.int a),.ow (.lst (acc.map prV)),s6,s7]=.nx [.sh (fV s),.sh (fV l),.sh wv,.sh (.int W),.sh (.int (a+ws.sum)),.ow (.lst ((acc++shL s l W a ws).map prV)),s6',s7']
 | [],a,acc,s6,s7,h6,h7,ha,hw,hsum,be=>⟨s6,s7,by rw[OJ,mB,List.sum_nil,Int.add_zero];unfold shL;rw[OR]⟩
 |
  w::ws,a,acc,s6,s7,h6,h7,ha,hw,hsum,be=>by
  have hw0:=hw w (Od ..)
  have hws:0<=ws.sum:=by
   have:∀l:List Int,(∀w∈l,0<=w)->0<=l.sum:=by
    intro l
    induction l with
    |nil=>intro _;simp
    |cons x l ih=>intro hx;rw[OM];have:=hx x (Od ..);have:=ih λw hw=>hx w (N9 _ hw);omega
   exact this ws λx hx=>hw x (N9 _ hx)
  rw[OM] at hsum
  rw[Oo] at be
  have sa:Sm m a:=mW.of_le (by omega)
  have sw:Sm m w:=mW.of_le (by omega)
  have f1:=g0 (a:=a) (b:=W) (by omega) (mW.mono (by omega))
  have f2:=g0 (a:=w) (b:=W) (by omega) (mW.mono (by omega))
  have z1:Sz m ((a:Rat)/(W:Rat)):=Sz.div (by omega) sa mW m (Oe _) (Oe _)
  have z2:Sz m ((w:Rat)/(W:Rat)):=Sz.div (by omega) sw mW m (Oe _) (Oe _)
  have t1:=uN hl z1 (by omega)
  have t2:=uN hl z2 (by omega)
  have ad:=BV hs (hl.mul z1) (by omega)
  have ll:(acc.map prV).length<16777216:=by rw[N8];omega
  obtain⟨t6,t7,ih⟩:=vT (wv:=wv) hs hl hW mW h ws (a+w) (acc++[(s+l*((a:Rat)/(W:Rat)),l*((w:Rat)/(W:Rat)))]) (.sh (.int w)) (.sh (fV (s+l*((a:Rat)/(W:Rat))))) rfl rfl (by omega) (λx hx=>hw x (N9 _ hx)) (by omega) (by simp;omega)
  refine⟨t6,t7,?_⟩
  have g1:(gtN 6).G (.int w) [.sh (fV s),.sh (fV l),.sh wv,.sh (.int W),.sh (.int a),.ow (.lst (acc.map prV)),s6,s7]=some [.sh (fV s),.sh (fV l),.sh wv,.sh (.int W),.sh (.int a),.ow (.lst (acc.map prV)),.sh (.int w),s7]:=by
   simp![h6]
  have b1:iq.G [.sh (fV s),.sh (fV l),.sh wv,.sh (.int W),.sh (.int a),.ow (.lst (acc.map prV)),.sh (.int w),s7]=.nx [.sh (fV s),.sh (fV l),.sh wv,.sh (.int W),.sh (.int (a+w)),.ow (.lst ((acc++[(s+l*((a:Rat)/(W:Rat)),l*((w:Rat)/(W:Rat)))]).map prV)),.sh (.int w),.sh (fV (s+l*((a:Rat)/(W:Rat))))]:=by
   unfold iq
   rw[OP]
   simp![h7,f1,f2,t1,t2,ad,ll,prV]
  rw[Of,dO,g1]
  simp only[b1,l7]
  rw[ih,OM]
  rw[show shL s l W a (w::ws)=(s+l*((a:Rat)/(W:Rat)),l*((w:Rat)/(W:Rat)))::shL s l W (a+w) ws from rfl,O1,show a+w+ws.sum=a+(w+ws.sum) by omega]
  rfl
def qR{s l:Rat}{n m:Nat}{ws:List Int}(hs:Sz n s)(hl:Sz n l)(hw:∀w∈ws,0<=w)(h0:0<ws.sum)(mW:Sm m ws.sum)(h:n+n+m<=8000)(be:ws.length<=1000):fc.G [fV s,fV l,.lst (ws.map .int)]=.ok (.new (.lst ((shL s l ws.sum 0 ws).map prV))) []:=by
 obtain⟨s6,s7,lo⟩:=vT (wv:=.lst (ws.map .int)) hs hl h0 mW h ws 0 [] .no .no rfl rfl (by omega) hw (by omega) (by simp;omega)
 rw[OQ,OJ] at lo
 unfold fc
 rw[bS]
 unfold m5
 simp![lo]
def Hr{way:Str}(hw:way="across" \/ way="down"):dQ.G [.str way]=.ok (.val .non) []:=by
 have i1:∀x:Str,(bA kits).G [.str x,.ty "str"]=.val (.bl true):=λ_=>rfl
 have i2:bIn.G (.str way) (.tup [.str "across",.str "down"])=.val (.bl true):=by
  rcases hw with rfl |rfl <;> rfl
 have e1:dA.G [.str way]=.ok (.val (.bl true)) []:=by
  unfold dA
  rw[bS]
  unfold kU
  simp![i1,i2]
 unfold dQ
 rw[bS]
 unfold jC
 simp![e1]
def zQ{b:Bx}{n m:Nat}{way:Str}{ws:List Int}(hb:b.Ok)(hs:b.Sz n)(hway:way="across" \/ way="down")(h0:ws≠[])(hw:∀w∈ws,1<=w)(mW:Sm m ws.sum)(h:n+n+m<=8000)(be:ws.length<=40):eX.G [bV b,.str way,.lst (ws.map .int)]=.ok (.new (.lst ((bo b way ws).map bV))) []:=by
 have cw:=yo h0 hw be
 have cy:=Hr hway
 have sp:0<ws.sum:=by
  cases ws with
  |nil=>exact absurd rfl h0
  |
   cons x l=>
   rw[OM]
   have:=hw x (Od ..)
   have:∀l:List Int,(∀w∈l,1<=w)->0<=l.sum:=by
    intro l
    induction l with
    |nil=>intro _;simp
    |cons x l ih=>intro hx;rw[OM];have:=hx x (Od ..);have:=ih λw hw=>hx w (N9 _ hw);omega
   have:=this l λx hx=>hw x (N9 _ hx)
   omega
 have cb:bR.G [.tup [fV b.l,fV b.t,fV b.w,fV b.h]]=.ok (.val .non) []:=lN hb
 have sh1:=qR hs.l hs.w (λw z=>by have:=hw w z;omega) sp mW h (by omega)
 have sh2:=qR hs.t hs.h (λw z=>by have:=hw w z;omega) sp mW h (by omega)
 show eX.G [.tup [fV b.l,fV b.t,fV b.w,fV b.h],.str way,.lst (ws.map .int)]=_
 unfold eX bo
 rw[bS]
 unfold nD
 rcases hway with rfl |rfl
 ·rw[if_pos (rfl:("across" : Str)="across")]
  have ln:=kj b.l b.w ws.sum ws 0
  obtain⟨e',⟨s,t,rfl,_,_⟩,lc⟩:=eA (g:=(gtT 2 (bO (gtN 0) (bO (gtN 1) fu))).G) (F:=(c8 (ag (ah 0) (ag (ah 2) (ag (ah 1) (ag (ah 3) ao))))).G) prV (λp=>bV ⟨p.1,b.t,p.2,b.h⟩) (λe=>∃s t,e=[s,t,.sh (fV b.t),.sh (fV b.h)]/\s.pl=true/\t.pl=true) (shL b.l b.w ws.sum 0 ws) [] [.no,.no,.sh (fV b.t),.sh (fV b.h)] ⟨.no,.no,rfl,rfl,rfl⟩ (by
   rintro p hp e ⟨s,t,rfl,hs,ht⟩
   refine⟨[.sh (fV p.1),.sh (fV p.2),.sh (fV b.t),.sh (fV b.h)],.val (bV ⟨p.1,b.t,p.2,b.h⟩),[.sh (fV p.1),.sh (fV p.2),.sh (fV b.t),.sh (fV b.h)],?_,?_,rfl,⟨_,_,rfl,rfl,rfl⟩⟩
   ·simp![prV,hs,ht]
   ·simp![bV]) (by rw[ln,OC];omega)
  rw[OQ] at lc
  have ll:((shL b.l b.w ws.sum 0 ws).map λp=>bV ⟨p.1,b.t,p.2,b.h⟩).length<=16777216:=by rw[N8,ln];omega
  rw[Pl,show (bV ∘ λp:Rat×Rat=>(⟨p.1,b.t,p.2,b.h⟩:Bx))=λp=>bV ⟨p.1,b.t,p.2,b.h⟩ from rfl]
  simp![cb,cy,cw,yX,sh1,lc,ll]
 ·have hne:¬ (("down" : Str)="across"):=by decide
  rw[if_neg hne]
  have ln:=kj b.t b.h ws.sum ws 0
  obtain⟨e',⟨s,t,rfl,_,_⟩,lc⟩:=eA (g:=(gtT 2 (bO (gtN 0) (bO (gtN 1) fu))).G) (F:=(c8 (ag (ah 2) (ag (ah 0) (ag (ah 3) (ag (ah 1) ao))))).G) prV (λp=>bV ⟨b.l,p.1,b.w,p.2⟩) (λe=>∃s t,e=[s,t,.sh (fV b.l),.sh (fV b.w)]/\s.pl=true/\t.pl=true) (shL b.t b.h ws.sum 0 ws) [] [.no,.no,.sh (fV b.l),.sh (fV b.w)] ⟨.no,.no,rfl,rfl,rfl⟩ (by
   rintro p hp e ⟨s,t,rfl,hs,ht⟩
   refine⟨[.sh (fV p.1),.sh (fV p.2),.sh (fV b.l),.sh (fV b.w)],.val (bV ⟨b.l,p.1,b.w,p.2⟩),[.sh (fV p.1),.sh (fV p.2),.sh (fV b.l),.sh (fV b.w)],?_,?_,rfl,⟨_,_,rfl,rfl,rfl⟩⟩
   ·simp![prV,hs,ht]
   ·simp![bV]) (by rw[ln,OC];omega)
  rw[OQ] at lc
  have ll:((shL b.t b.h ws.sum 0 ws).map λp=>bV ⟨b.l,p.1,b.w,p.2⟩).length<=16777216:=by rw[N8,ln];omega
  rw[Pl,show (bV ∘ λp:Rat×Rat=>(⟨b.l,p.1,b.w,p.2⟩:Bx))=λp=>bV ⟨b.l,p.1,b.w,p.2⟩ from rfl]
  simp![cb,cy,cw,ze,sh2,lc,ll]
theorem jD{f:Nat->Val}(v:Val):∀(N:Nat) (st:List AT) (acc:List Nat) (s3:Sl),AT.cntL st<=N->s3.pl=true->(∀k∈AT.lvsL st,lfV (f k)=true)->acc.length+AT.cntL st<=100000->
 ∃(l:List Nat) (s3':Sl),l.Perm (AT.lvsL st)/\(xWh (qTr (ah 2)) cL).G [.sh v,.ow (.lst (acc.map f)),.ow (.lst (st.map (AT.val f))),s3]=.nx [.sh v,.ow (.lst ((acc++l).map f)),.ow (.lst []),s3']
 |
  N,[],acc,s3,_,_,_,_=>⟨[],s3,.nil,by
  rw[lF,OR]
  simp![OJ,nc,List.isEmpty_nil]⟩
 |
  0,t::ts,acc,s3,h,_,_,_=>by
  rw[AT.cntL] at h
  cases t <;> (rw[AT.cnt] at h;omega)
 |
  N+1,t0::ts0,acc,s3,hN,h3,hf,hl=>by
  obtain⟨st,t,hst⟩:∃st t,t0::ts0=st++[t]:=⟨(t0::ts0).dropLast,(t0::ts0).getLast (by simp),(List.dropLast_concat_getLast (by simp)).symm⟩
  rw[hst] at hN hf hl ⊢
  rw[AT.lvsL_app] at hf
  rw[AT.lvsL_app]
  rw[AT.cntL_app] at hN hl
  have hn0:((st++[t]).map (AT.val f)).isEmpty=false:=by cases st <;> rfl
  have c1:(qTr (ah 2)).G [.sh v,.ow (.lst (acc.map f)),.ow (.lst ((st++[t]).map (AT.val f))),s3]=.ok true [.sh v,.ow (.lst (acc.map f)),.ow (.lst ((st++[t]).map (AT.val f))),s3]:=by
   simp![nc,hn0,Bool.not_false]
  rw[lF,c1]
  show ∃l s3',_/\((cL.G _).loop _)=_
  rw[OP,Of,OJ]
  cases t with
  |
   lf k=>
   simp only[AT.lvsL,AT.lvs,OR,AT.cntL,AT.cnt] at hf hN hl ⊢
   obtain⟨l,s3',q1,q2⟩:=jD (f:=f) v N st (acc++[k]) (.sh (f k)) (by omega) rfl (λj hj=>hf j (by simp [hj])) (by rw[Oa];simp only[Oo,OC];omega)
   refine⟨k::l,s3',((q1.cons k).trans (List.perm_append_comm (l₁:=[k]) (l₂:=AT.lvsL st))),?_⟩
   have i1:(bA kits).G [f k,.ty "tuple"]=.val (.bl false):=by
    have:=hf k (by simp)
    generalize f k=a at *
    cases a <;> first |rfl |(cases this;done)
   have al:(acc.map f).length<16777216:=by rw[N8];omega
   have bb:cL.G [.sh v,.ow (.lst (acc.map f)),.ow (.lst (st.map (AT.val f)++[AT.val f (.lf k)])),s3]=.nx [.sh v,.ow (.lst ((acc++[k]).map f)),.ow (.lst (st.map (AT.val f))),.sh (f k)]:=by
    unfold cL
    rw[AT.val,OP,Of,OJ]
    generalize f k=a at *
    simp![oy,h3,i1,al]
   rw[bb,show acc++k::l=acc++[k]++l by simp]
   exact q2
  |
   nd w ts=>
   simp only[AT.lvsL,AT.lvs,OR,AT.cntL,AT.cnt] at hf hN hl ⊢
   obtain⟨l,s3',q1,q2⟩:=jD (f:=f) v N (st++ts) acc (.sh (AT.val f (.nd w ts))) (by rw[AT.cntL_app];omega) rfl (by rw[AT.lvsL_app];exact hf) (by rw[AT.cntL_app];omega)
   rw[AT.lvsL_app] at q1
   refine⟨l,s3',q1,?_⟩
   have i1:∀xs:List Val,(bA kits).G [.tup xs,.ty "tuple"]=.val (.bl true):=λ_=>rfl
   have le:∀l:List AT,l.length<=AT.cntL l:=by
    intro l
    induction l with
    |nil=>exact Oe _
    |cons t l ih=>rw[AT.cntL,Oo];cases t <;> (rw[AT.cnt];omega)
   have ll:(st.map (AT.val f)).length+(ts.map (AT.val f)).length<=16777216:=by
    have:=le st
    have:=le ts
    rw[N8,N8]
    omega
   rw[AT.val,AT.vals_map] at q2 ⊢
   rw[OP] at q2
   have bb:cL.G [.sh v,.ow (.lst (acc.map f)),.ow (.lst (st.map (AT.val f)++[.tup [.str (wy w),.tup (ts.map (AT.val f))]])),s3]=.nx [.sh v,.ow (.lst (acc.map f)),.ow (.lst (st.map (AT.val f)++ts.map (AT.val f))),.sh (.tup [.str (wy w),.tup (ts.map (AT.val f))])]:=by
    unfold cL
    simp![oy,h3,i1,kr,qQ,ll]
   rw[bb]
   exact q2
def Ab{f:Nat->Val}{t:AT}(hf:∀k∈t.lvs,lfV (f k)=true)(hc:t.cnt<=100000):∃l:List Nat,l.Perm t.lvs/\dc.G [t.val f]=.ok (.new (.lst (l.map f))) []:=by
 have e1:AT.lvsL [t]=t.lvs:=by simp [AT.lvsL]
 have e2:AT.cntL [t]=t.cnt:=by simp [AT.cntL]
 obtain⟨l,s3',q1,q2⟩:=jD (f:=f) (t.val f) (AT.cntL [t]) [t] [] .no (Oe _) rfl (by rw[e1];exact hf) (by rw[e2,OC];omega)
 rw[e1] at q1
 refine⟨l,q1,?_⟩
 rw[Of,OJ,OJ,OQ] at q2
 unfold dc
 rw[bS]
 unfold jT
 generalize t.val f=tv at *
 simp![q2]
def Af{ws:List Int}{l:List Nat}(hl:l.length<=1000)(hi:∀k∈l,k<ws.length):∃s,lcV (gtN 0).G qY.G (pOp bIx (ah 1) (ah 0)).G (l.map λk:Nat=>.int k) [] [.no,.sh (liV ws)]=.ok ((l.map λk=>ws.getD k 0).map .int) [s,.sh (liV ws)]:=by
 obtain⟨e',⟨s,rfl,_⟩,lc⟩:=eA (g:=(gtN 0).G) (F:=(pOp bIx (ah 1) (ah 0)).G) (λk:Nat=>Val.int k) (λk:Nat=>Val.int (ws.getD k 0)) (λe=>∃s:Sl,e=[s,.sh (liV ws)]/\s.pl=true) l [] [.no,.sh (liV ws)] ⟨.no,rfl,rfl⟩ (by
  rintro k hk _ ⟨s,rfl,hs⟩
  have h1:=hi k hk
  have a1:atI (ws.map Val.int) (k:Nat)=some (.int (ws.getD k 0)):=iM (by omega) (by
   rw[OD]
   show (ws[k]?).map _=_
   rw[Pm,OG h1]
   rfl)
  refine⟨[.sh (.int (k:Nat)),.sh (liV ws)],.val (.int (ws.getD k 0)),[.sh (.int (k:Nat)),.sh (liV ws)],?_,?_,rfl,_,rfl,rfl⟩
  ·simp![hs]
  ·unfold liV
   simp![a1]) (by rw[OC];omega)
 exact⟨s,by rw[Pl];exact lc⟩
def vn{ws:List Int}{b:Bx}{w:Bool}{ts:List AT}{n m:Nat}(h:AT.lay ws n m (.nd w ts) b)(hnm:n+n+m<=8000)(hi:∀k∈AT.lvsL ts,k<ws.length)(hl:(AT.lvsL ts).length<=1000)(hc:AT.cntL ts<=100000):dM.G [bV b,liV ws,atV (.nd w ts)]=.ok (.new (.lst ((bo b (wy w) (ts.map (wtT ws))).map bV))) []:=by
 rw[AT.lay] at h
 obtain⟨h1,h2,h3,h4,h5,h6,_⟩:=h
 have ew:wy w="across" \/ wy w="down":=by cases w;exact .inr rfl;exact .inl rfl
 have pe:=zQ h1 h2 ew (ws:=ts.map (wtT ws)) (by simpa using h3) (λx hx=>by obtain⟨t,ht,rfl⟩:=OU.mp hx;exact h5 t ht) h6 hnm (by rw[N8];exact h4)
 have cle:∀t∈ts,t.cnt<=AT.cntL ts:=λt ht=>AT.cnt_le ht
 have lle:∀t∈ts,t.lvs.length<=(AT.lvsL ts).length:=λt ht=>AT.lvs_le ht
 obtain⟨e',⟨s,rfl,_⟩,lc⟩:=eA (g:=(gtN 0).G) (F:=(pFn iU (ag (pLC (bZ (aA dc (ag (ah 0) ao))) [none,some 1] (by decide) (gtN 0) qY (pOp bIx (ah 1) (ah 0))) ao)).G) atV (λt=>Val.int (wtT ws t)) (λe=>∃s:Sl,e=[s,.sh (liV ws)]/\s.pl=true) ts [] [.no,.sh (liV ws)] ⟨.no,rfl,rfl⟩ (by
  rintro t ht _ ⟨s,rfl,hs⟩
  obtain⟨l,lp,e1⟩:=Ab (f:=λk=>.int (k:Nat)) (t:=t) (λ_ _=>rfl) (by have:=cle t ht;omega)
  rw[show AT.val (λk=>Val.int (k:Nat)) t=atV t from rfl] at e1
  obtain⟨s',lc⟩:=Af (ws:=ws) (l:=l) (by rw[lp.length_eq];have:=lle t ht;omega) (λk hk=>hi k (AT.lvsL_mem.mpr ⟨t,ht,lp.mem_iff.mp hk⟩))
  have ll:((l.map λk=>ws.getD k 0).map Val.int).length<=16777216:=by rw[N8,N8,lp.length_eq];have:=lle t ht;omega
  have sm:(l.map λk=>ws.getD k 0).sum=wtT ws t:=uh lp
  refine⟨[.sh (atV t),.sh (liV ws)],.val (.int (wtT ws t)),[.sh (atV t),.sh (liV ws)],?_,?_,rfl,_,rfl,rfl⟩
  ·generalize atV t=tv at *
   simp![hs]
  ·rw[<- sm]
   generalize atV t=tv at *
   generalize liV ws=wv at *
   generalize (l.map λk:Nat=>Val.int (k:Nat))=LV at *
   simp![e1,cR,inS,lc,ll]) (by rw[OC];omega)
 have av:atV (.nd w ts)=.tup [.str (wy w),.tup (ts.map atV)]:=by
  unfold atV
  rw[AT.val,AT.vals_map]
 have lm:ts.map (λt=>Val.int (wtT ws t))=(ts.map (wtT ws)).map .int:=by rw[Pl];rfl
 have l2:((ts.map (wtT ws)).map Val.int).length<=16777216:=by rw[N8,N8];omega
 rw[OQ,lm] at lc
 rw[av]
 generalize (bo b (wy w) (ts.map (wtT ws))).map bV=PB at *
 generalize (ts.map (wtT ws)).map Val.int=SV at *
 generalize ts.map atV=TV at *
 generalize liV ws=wv at *
 generalize bV b=bv at *
 unfold dM
 rw[bS]
 unfold kN
 simp![cR,inS,lc,l2,pe]
theorem nS{ws:List Int}{n m k:Nat}(rv tv:Val):∀(ts:List AT) (bs:List Bx) (kvs:List (Key×Val)) (s4 s5:Sl),s4.pl=true->s5.pl=true->ts.length=bs.length->(∀(t:AT) (b:Bx) (kvs:List (Key×Val)),t∈ts->AT.lay ws n m t b->kvs.length+t.lvs.length<=100000->(dk k).G [bV b,liV ws,atV t,.dct kvs]=.ok (.val .non) [.dct (bI kvs (AT.bx ws t b))])->AT.layL ws n m ts bs->kvs.length+(AT.lvsL ts).length<=100000->
 ∃s4' s5',eJ (gtX (gtT 2 (bO (gtN 4) (bO (gtN 5) fu)))).G (jg (dk k)).G (List.zipWith (λx y=>Val.tup [x,y]) (ts.map atV) (bs.map bV)) [.sh rv,.sh (liV ws),.sh tv,.mu (.dct kvs),s4,s5]=.nx [.sh rv,.sh (liV ws),.sh tv,.mu (.dct (bI kvs (AT.bxL ws ts bs))),s4',s5']
 | [],bs,kvs,s4,s5,_,_,_,_,_,_=>⟨s4,s5,by cases bs <;> rfl⟩
 |t::ts,[],kvs,s4,s5,_,_,h,_,_,_=>nomatch h
 |
  t::ts,b::bs,kvs,s4,s5,h4,h5,hl,hp,hy,hk=>by
  rw[AT.layL] at hy
  rw[AT.lvsL,Oa] at hk
  have e1:=hp t b kvs (Od ..) hy.1 (by omega)
  have be:=nE (AT.bx ws t b) kvs
  have hfst:=(AT.bx_fst ws t b).1
  obtain⟨s4',s5',q⟩:=nS rv tv ts bs (bI kvs (AT.bx ws t b)) (.sh (atV t)) (.sh (bV b)) rfl rfl (by simpa using hl) (λu c kv hu=>hp u c kv (N9 _ hu)) hy.2 (by omega)
  refine⟨s4',s5',?_⟩
  rw[AT.bxL,sO,Of,Of,List.zipWith_cons_cons,dO]
  generalize bI kvs (AT.bx ws t b)=kvs1 at *
  generalize atV t=av at *
  generalize bV b=bv at *
  generalize liV ws=wv at *
  have g1:(gtX (gtT 2 (bO (gtN 4) (bO (gtN 5) fu)))).G (.tup [av,bv]) [.sh rv,.sh wv,.sh tv,.mu (.dct kvs),s4,s5]=some [.sh rv,.sh wv,.sh tv,.mu (.dct kvs),.sh av,.sh bv]:=by
   simp![h4,h5]
  have b1:(jg (dk k)).G [.sh rv,.sh wv,.sh tv,.mu (.dct kvs),.sh av,.sh bv]=.nx [.sh rv,.sh wv,.sh tv,.mu (.dct kvs1),.sh av,.sh bv]:=by
   unfold jg
   simp![e1]
  rw[g1]
  dsimp only
  rw[b1]
  exact q
def oK(b:Bx)(way:Str)(ws:List Int):(bo b way ws).length=ws.length:=by
 unfold bo
 split <;> rw[N8,kj]
def Co{ws:List Int}{n m:Nat}(hnm:n+n+m<=8000)(t:AT):∀(k:Nat) (b:Bx) (kvs:List (Key×Val)),t.dep<=k->AT.lay ws n m t b->(∀i∈t.lvs,i<ws.length)->t.lvs.length<=1000->t.cnt<=100000->kvs.length+t.lvs.length<=100000->(dk k).G [bV b,liV ws,atV t,.dct kvs]=.ok (.val .non) [.dct (bI kvs (AT.bx ws t b))]:=by
 induction t using AT.ind with
 |
  h1 x=>
  intro k b kvs hd _ _ _ _ hk
  cases k with
  |zero=>simp [AT.dep] at hd
  |
   succ k=>
   have i1:(bA kits).G [.int (x:Nat),.ty "tuple"]=.val (.bl false):=rfl
   have kl:kvs.length<16777216:=by omega
   have av:atV (.lf x)=.int (x:Nat):=rfl
   have pe:bI kvs (AT.bx ws (.lf x) b)=c7 kvs (.inl (x:Nat)) (bV b):=by rw[AT.bx];rfl
   show (PFx.of [false,false,false,true] 6 (gE (dk k))).G [bV b,liV ws,atV (.lf x),.dct kvs]=_
   rw[jx,av,pe]
   unfold gE
   generalize bV b=bv at *
   generalize liV ws=wv at *
   simp![i1,Ad,kl]
 |
  h2 w ts ih=>
  intro k b kvs hd hy hi hl hc hk
  cases k with
  |zero=>simp [AT.dep] at hd
  |
   succ k=>
   rw[AT.dep] at hd
   rw[AT.lvs] at hi hl hk
   rw[AT.cnt] at hc
   have hd':=AT.depL_le.mp (show AT.depL ts<=k by omega)
   have pe:=vn hy hnm hi hl (by omega)
   have hy':=hy
   rw[AT.lay] at hy'
   obtain⟨s4,s5,lo⟩:=nS (ws:=ws) (n:=n) (m:=m) (k:=k) (bV b) (atV (.nd w ts)) ts (bo b (wy w) (ts.map (wtT ws))) kvs .no .no rfl rfl (by rw[oK,N8]) (λt c kv ht hy2 hk2=>ih t ht k c kv (hd' t ht) hy2 (λi hi2=>hi i (AT.lvsL_mem.mpr ⟨t,ht,hi2⟩)) (by have:=AT.lvs_le ht;omega) (by have:=AT.cnt_le ht;omega) hk2) hy'.2.2.2.2.2.2 hk
   have av:atV (.nd w ts)=.tup [.str (wy w),.tup (ts.map atV)]:=by
    unfold atV
    rw[AT.val,AT.vals_map]
   have bxe:AT.bx ws (.nd w ts) b=AT.bxL ws ts (bo b (wy w) (ts.map (wtT ws))):=by rw[AT.bx]
   show (PFx.of [false,false,false,true] 6 (gE (dk k))).G [bV b,liV ws,atV (.nd w ts),.dct kvs]=_
   rw[jx,bxe]
   unfold gE
   rw[av] at pe lo ⊢
   have i1:∀xs:List Val,(bA kits).G [.tup xs,.ty "tuple"]=.val (.bl true):=λ_=>rfl
   generalize bI kvs (AT.bxL ws ts (bo b (wy w) (ts.map (wtT ws))))=kvs1 at *
   generalize (bo b (wy w) (ts.map (wtT ws))).map bV=PB at *
   generalize ts.map atV=TV at *
   generalize bV b=bv at *
   generalize liV ws=wv at *
   simp![i1,kr,pe,lo]
def A4{ws:List Int}{n m:Nat}{b:Bx}{t:AT}(hnm:n+n+m<=8000)(hb:b.Ok)(h0:ws≠[])(hw:∀w∈ws,1<=w)(h40:ws.length<=40)(ho:t.ok=true)(hi:∀k,k∈t.lvs ↔ k<ws.length)(nd:t.lvs.Nodup)(hl:t.lvs.length=ws.length)(hd:t.dep<=42)(hy:AT.lay ws n m t b):ek.G [bV b,liV ws,atV t]=.ok (.new (.lst ((List.range ws.length).map λk=>bV (bxO (AT.bx ws t b) k)))) []:=by
 have hc:=AT.cnt_lvs t ho
 have cb:=lN hb
 have cw:=yo h0 hw h40
 have ct:=rD (n:=ws.length) ho (λk hk=>(hi k).mp hk) nd hl (by omega) (by omega)
 have pl:=Co (ws:=ws) hnm t 42 b [] hd hy (λk hk=>(hi k).mp hk) (by omega) (by omega) (by rw[OC];omega)
 have ll:((ws.map Val.int).length:Nat)=ws.length:=N8 ..
 have rg:gD [.int (ws.length:Nat)]=some (rgV ws.length):=j7 (by omega)
 have keys:=AT.bx_keys ws t b
 obtain⟨e',⟨s,rfl,_⟩,lc⟩:=eA (g:=(gtN 0).G) (F:=(pOp qa (ah 1) (ah 0)).G) (λk:Nat=>Val.int k) (λk:Nat=>bV (bxO (AT.bx ws t b) k)) (λe=>∃s:Sl,e=[s,.mu (.dct (bI [] (AT.bx ws t b)))]/\s.pl=true) (List.range ws.length) [] [.no,.mu (.dct (bI [] (AT.bx ws t b)))] ⟨.no,rfl,rfl⟩ (by
  rintro k hk _ ⟨s,rfl,hs⟩
  rw[P9] at hk
  have lk:=C4 ((pB (k:=k) (AT.bx ws t b) [] (by rw[keys];exact nd)).1 (by rw[keys];exact (hi k).mpr hk))
  generalize bI [] (AT.bx ws t b)=kv at *
  generalize bV (bxO (AT.bx ws t b) k)=bv at *
  refine⟨[.sh (.int (k:Nat)),.mu (.dct kv)],.val bv,[.sh (.int (k:Nat)),.mu (.dct kv)],?_,?_,rfl,_,rfl,rfl⟩
  ·simp![hs]
  ·simp![lk]) (by rw[OC,Qu];omega)
 have l2:((List.range ws.length).map λk=>bV (bxO (AT.bx ws t b) k)).length<=16777216:=by simp;omega
 rw[OQ] at lc
 rw[show (List.range ws.length).map (λk:Nat=>Val.int k)=rgV ws.length from rfl] at lc
 generalize (List.range ws.length).map (λk=>bV (bxO (AT.bx ws t b) k))=RB at *
 generalize bI [] (AT.bx ws t b)=kv at *
 unfold liV at pl ⊢
 generalize atV t=tv at *
 generalize bV b=bv at *
 unfold ek
 rw[bS]
 unfold kE
 simp![cb,cw,ll,ct,pl,rg,cR,inS,lc,l2]
def pj{ns:List Int}{k:Int}(hk:0<=k):∃a,cD.G [.kl (ns.map .int),.int k]=.ok (.new (fdV a 0 k)) []:=by
 unfold cD
 rw[bS]
 unfold kI fdV
 by_cases h0:ns.length=0
 ·have e:((((ns.map Val.int).length:Nat):Int)==0)=true:=by rw[Qf,N8];omega
  exact⟨0,by simp![e]⟩
 ·have e:((((ns.map Val.int).length:Nat):Int)==0)=false:=by rw[Ov,N8];omega
  have e1:c9.G (.int k) (.int ((ns.map Val.int).length:Nat))=.val (.int (k.fmod ((ns.map Val.int).length:Nat))):=fG (by rw[N8];omega)
  have r:=er (a:=k) (m:=((ns.map Val.int).length:Nat)) (by rw[N8];omega)
  rw[N8] at r e1
  have hi:(k.fmod (ns.length:Nat)).toNat<ns.length:=by omega
  have at1:atI (ns.map Val.int) (k.fmod (ns.length:Nat))=some (.int ns[(k.fmod (ns.length:Nat)).toNat]):=iM r.1 (by rw[OD,OG hi];rfl)
  rw[N8] at e
  exact⟨ns[(k.fmod (ns.length:Nat)).toNat],by simp![N8,e,e1,at1]⟩
def pow6:gG.G (.int 10) (.int 6)=.val (.int 1000000):=rR ⟨by decide,by decide,by decide⟩
def Kf:gD [.int 6]=some [.int 0,.int 1,.int 2,.int 3,.int 4,.int 5]:=pz (i:=6) (by decide) (by decide)
def gR{a b k far:Int}(h0:0<=far)(hf:far.natAbs<=2000000000000000000000000000000):∃r a' b',bE.G [fdV a b k,.int far]=.ok (.val (.int r)) [fdV a' b' k]/\-far<=r/\r<=far:=by
 obtain⟨r1,a1,b1,e1,_,_⟩:=aO (a:=a) (b:=b) (k:=k) (m:=1000000) (by decide) (sm8 (by decide))
 obtain⟨r2,a2,b2,e2,_,_⟩:=aO (a:=a1) (b:=b1) (k:=k) (m:=1000000) (by decide) (sm8 (by decide))
 obtain⟨r3,a3,b3,e3,_,_⟩:=aO (a:=a2) (b:=b2) (k:=k) (m:=1000000) (by decide) (sm8 (by decide))
 obtain⟨r4,a4,b4,e4,_,_⟩:=aO (a:=a3) (b:=b3) (k:=k) (m:=1000000) (by decide) (sm8 (by decide))
 obtain⟨r5,a5,b5,e5,_,_⟩:=aO (a:=a4) (b:=b4) (k:=k) (m:=1000000) (by decide) (sm8 (by decide))
 obtain⟨r6,a6,b6,e6,_,_⟩:=aO (a:=a5) (b:=b5) (k:=k) (m:=1000000) (by decide) (sm8 (by decide))
 have c6:∀x:Int,b9.G (.int x) (.int 1000000)=.val (.int (x*1000000)):=λx=>cE (CMulA.right (by decide) (by decide))
 have c2:b9.G (.int 2) (.int far)=.val (.int (2*far)):=cE (CMulA.left (by decide) (by decide))
 have c3:∀x:Int,c9.G (.int x) (.int (2*far+1))=.val (.int (x.fmod (2*far+1))):=λx=>fG (by omega)
 have fr:=er (a:=(((((0*1000000+r1)*1000000+r2)*1000000+r3)*1000000+r4)*1000000+r5)*1000000+r6) (m:=2*far+1) (by omega)
 refine⟨((((((0*1000000+r1)*1000000+r2)*1000000+r3)*1000000+r4)*1000000+r5)*1000000+r6).fmod (2*far+1)-far,a6,b6,?_,by omega,by omega⟩
 unfold bE
 rw[bS]
 unfold jU jc
 unfold fdV at *
 simp![Kf,dO,pow6,c6,e1,e2,e3,e4,e5,e6,c2,c3,Int.reduceMul]
theorem uZ(x y:Val):∀(n one ap:Nat),ap<=n->(xWh (qOf (pOp bGt (ah 3) (au 0))) f6).G [.sh x,.sh y,.sh (.int (one:Nat)),.sh (.int (ap:Nat))]=.nx [.sh x,.sh y,.sh (.int (Nat.gcd one ap:Nat)),.sh (.int 0)]
 |
  n,one,0,_=>by
  rw[lF]
  simp![Nat.gcd_zero_right,Int.natCast_zero,Int.lt_irrefl]
 |0,one,ap+1,hl=>absurd hl (by omega)
 |
  n+1,one,ap+1,hl=>by
  rw[lF]
  have e:decide ((0:Int)<((ap+1:Nat):Int))=true:=OH (by omega)
  have e1:c9.G (.int (one:Nat)) (.int ((ap+1:Nat):Int))=.val (.int (((one:Nat):Int).fmod ((ap+1:Nat):Int))):=fG (by omega)
  have e2:((one:Nat):Int).fmod ((ap+1:Nat):Int)=((one % (ap+1):Nat):Int):=by
   rw[Int.fmod_eq_emod_of_nonneg _ (by omega)];rfl
  have ih:=uZ x y n (ap+1) (one % (ap+1)) (by have:=Nat.mod_lt one (show ap+1>0 by omega);omega)
  rw[Fr.euc] at ih
  rw[e2] at e1
  have bb:f6.G [.sh x,.sh y,.sh (.int (one:Nat)),.sh (.int ((ap+1:Nat):Int))]=.nx [.sh x,.sh y,.sh (.int ((ap+1:Nat):Int)),.sh (.int ((one % (ap+1):Nat):Int))]:=by
   unfold f6
   simp![e1]
  simp![e,bb,ih]
def iz{a b:Int}(hb:b≠0)(hs:Sm 8000 b):aZ.G [.int a,.int b]=.ok (.val (fV ((a:Rat)/(b:Rat)))) []:=by
 unfold aZ
 rw[bS]
 unfold lC
 have lo:=uZ (.int a) (.int b) b.natAbs a.natAbs b.natAbs (Oe _)
 rw[show Nat.gcd a.natAbs b.natAbs=Int.gcd a b from rfl] at lo
 have c:∀x,CDivB x (Fr.dv a b):=λx=>CDivB.of (Fr.dv_ne hb) (hs.of_le (by
  rw[Fr.dv_abs]
  exact Nat.le_of_dvd (by omega) (Nat.gcd_dvd_right a.natAbs b.natAbs)))
 have k1:=mK (c a)
 have k2:=mK (c b)
 have hh:=n8 (a:=a) hb
 have fin:Val.tup [.int (a.fdiv (Fr.dv a b)),.int (b.fdiv (Fr.dv a b))]=fV ((a:Rat)/(b:Rat)):=by
  unfold fV
  rw[<- hh.1,<- hh.2]
  rfl
 by_cases hn:b<0
 ·have hd:Fr.dv a b=0-((Int.gcd a b:Nat):Int):=by unfold Fr.dv;rw[if_pos hn];omega
  rw[hd] at k1 k2 fin
  simp![iY,lo,OH hn,k1,k2,fin]
 ·have hd:Fr.dv a b=((Int.gcd a b:Nat):Int):=by unfold Fr.dv;rw[if_neg hn]
  rw[hd] at k1 k2 fin
  simp![iY,lo,OA hn,k1,k2,fin]
def p30:gG.G (.int 10) (.int 30)=.val (.int 1000000000000000000000000000000):=rR ⟨by decide,by decide,by decide⟩
def rmQ(k:Int)(r:SR3):Prop:=∃b a c,Good b/\mY [true] r=.ok (.val (bV b)) [fdV a c k]
def rmI(k way:Int)(e:E3):Prop:=∃b x a c,Good b/\x.pl=true/\e=[.mu (fdV a c k),.sh (.int way),.sh (fV b.l),.sh (fV b.t),.sh (fV b.w),.sh (fV b.h),x]
def Ea(a c k:Int):∃b a' c',Good b/\d9.G [fdV a c k]=.ok (.val (bV b)) [fdV a' c' k]:=by
 unfold d9
 rw[xK rfl]
 show rmQ k (iN.G [.mu (fdV a c k),.no,.no,.no,.no,.no,.no])
 unfold iN
 obtain⟨way,a1,c1,e1,hw0,hw1⟩:=aO (a:=a) (b:=c) (k:=k) (m:=6) (by decide) (sm8 (by decide))
 refine aW (λe=>e=[.mu (fdV a1 c1 k),.sh (.int way),.no,.no,.no,.no,.no]) ⟨_,by simp![e1],rfl⟩ ?_
 rintro _ rfl
 obtain⟨l,a2,c2,e2,hl0,hl1⟩:=aO (a:=a1) (b:=c1) (k:=k) (m:=19) (by decide) (sm8 (by decide))
 obtain⟨t,a3,c3,e3,ht0,ht1⟩:=aO (a:=a2) (b:=c2) (k:=k) (m:=19) (by decide) (sm8 (by decide))
 refine aW (λe=>e=[.mu (fdV a3 c3 k),.sh (.int way),.sh (fV ((l-9:Int):Rat)),.sh (fV ((t-9:Int):Rat)),.no,.no,.no]) ⟨_,by simp![e2,e3,iV],rfl⟩ ?_
 rintro _ rfl
 obtain⟨w,a4,c4,e4,hww0,hww1⟩:=aO (a:=a3) (b:=c3) (k:=k) (m:=12) (by decide) (sm8 (by decide))
 obtain⟨hh,a5,c5,e5,hh0,hh1⟩:=aO (a:=a4) (b:=c4) (k:=k) (m:=12) (by decide) (sm8 (by decide))
 refine aW (rmI k way) ⟨[.mu (fdV a5 c5 k),.sh (.int way),.sh (fV ((l-9:Int):Rat)),.sh (fV ((t-9:Int):Rat)),.sh (fV ((1+w:Int):Rat)),.sh (fV ((1+hh:Int):Rat)),.no],by simp![e4,e5,iV],⟨_,_,_,_⟩,.no,a5,c5,⟨⟨gH (by omega),gH (by omega)⟩,⟨ij (by omega),ij (by omega),ij (by omega),ij (by omega)⟩⟩,rfl,rfl⟩ ?_
 rintro _ ⟨b,x,a,c,gb,hx,rfl⟩
 refine aW (rmI k way) ?_ ?_
 ·by_cases hw:way=1
  ·subst hw
   exact⟨[.mu (fdV a c k),.sh (.int 1),.sh (fV b.l),.sh (fV b.t),.sh (fV b.w),.sh (fV b.w),x],by simp![kH],⟨b.l,b.t,b.w,b.w⟩,x,a,c,⟨⟨gb.ok.w,gb.ok.w⟩,⟨gb.sz.l,gb.sz.t,gb.sz.w,gb.sz.w⟩⟩,hx,rfl⟩
  ·exact⟨_,by simp![Ov.mpr hw],b,x,a,c,gb,hx,rfl⟩
 rintro _ ⟨b,x,a,c,gb,hx,rfl⟩
 refine aW (rmI k way) ?_ ?_
 ·by_cases hw:way=2
  ·subst hw
   obtain⟨r,a1,c1,e1,h0,h1⟩:=aO (a:=a) (b:=c) (k:=k) (m:=99) (by decide) (sm8 (by decide))
   exact⟨[.mu (fdV a1 c1 k),.sh (.int 2),.sh (fV b.l),.sh (fV b.t),.sh (fV ((1+r:Int):Rat)),.sh (fV b.h),x],by simp![e1,iV],⟨b.l,b.t,((1+r:Int):Rat),b.h⟩,x,a1,c1,⟨⟨gH (by omega),gb.ok.h⟩,⟨gb.sz.l,gb.sz.t,ij (by omega),gb.sz.h⟩⟩,hx,rfl⟩
  ·exact⟨_,by simp![Ov.mpr hw],b,x,a,c,gb,hx,rfl⟩
 rintro _ ⟨b,x,a,c,gb,hx,rfl⟩
 refine aW (rmI k way) ?_ ?_
 ·by_cases hw:way=3
  ·subst hw
   obtain⟨r,a1,c1,e1,h0,h1⟩:=aO (a:=a) (b:=c) (k:=k) (m:=99) (by decide) (sm8 (by decide))
   exact⟨[.mu (fdV a1 c1 k),.sh (.int 3),.sh (fV b.l),.sh (fV b.t),.sh (fV b.w),.sh (fV ((1+r:Int):Rat)),x],by simp![e1,iV],⟨b.l,b.t,b.w,((1+r:Int):Rat)⟩,x,a1,c1,⟨⟨gb.ok.w,gH (by omega)⟩,⟨gb.sz.l,gb.sz.t,gb.sz.w,ij (by omega)⟩⟩,hx,rfl⟩
  ·exact⟨_,by simp![Ov.mpr hw],b,x,a,c,gb,hx,rfl⟩
 rintro _ ⟨b,x,a,c,gb,hx,rfl⟩
 refine aW (rmI k way) ?_ ?_
 ·by_cases hw:way=4
  ·subst hw
   obtain⟨r1,a1,c1,e1,h10,h11⟩:=aO (a:=a) (b:=c) (k:=k) (m:=199) (by decide) (sm8 (by decide))
   obtain⟨r2,a2,c2,e2,h20,h21⟩:=aO (a:=a1) (b:=c1) (k:=k) (m:=30) (by decide) (sm8 (by decide))
   obtain⟨r3,a3,c3,e3,h30,h31⟩:=aO (a:=a2) (b:=c2) (k:=k) (m:=9) (by decide) (sm8 (by decide))
   obtain⟨r4,a4,c4,e4,h40,h41⟩:=aO (a:=a3) (b:=c3) (k:=k) (m:=99) (by decide) (sm8 (by decide))
   obtain⟨r5,a5,c5,e5,h50,h51⟩:=aO (a:=a4) (b:=c4) (k:=k) (m:=30) (by decide) (sm8 (by decide))
   obtain⟨r6,a6,c6,e6,h60,h61⟩:=aO (a:=a5) (b:=c5) (k:=k) (m:=99) (by decide) (sm8 (by decide))
   have l1:=iz (a:=r1-99) (b:=1+r2) (by omega) (mF (by omega))
   have l2:=iz (a:=r3) (b:=7) (by omega) (mF (by omega))
   have l3:=iz (a:=1+r4) (b:=1+r5) (by omega) (mF (by omega))
   have l4:=iz (a:=1+r6) (b:=11) (by omega) (mF (by omega))
   exact⟨[.mu (fdV a6 c6 k),.sh (.int 4),.sh (fV (((r1-99:Int):Rat)/((1+r2:Int):Rat))),.sh (fV (((r3:Int):Rat)/((7:Int):Rat))),.sh (fV (((1+r4:Int):Rat)/((1+r5:Int):Rat))),.sh (fV (((1+r6:Int):Rat)/((11:Int):Rat))),x],by simp![e1,e2,e3,e4,e5,e6,l1,l2,l3,l4],⟨_,_,_,_⟩,x,a6,c6,⟨⟨jd (by omega) (by omega),jd (by omega) (by omega)⟩,⟨iX (by omega) (by omega) (by omega),iX (by omega) (by omega) (by omega),iX (by omega) (by omega) (by omega),iX (by omega) (by omega) (by omega)⟩⟩,hx,rfl⟩
  ·exact⟨_,by simp![Ov.mpr hw],b,x,a,c,gb,hx,rfl⟩
 rintro _ ⟨b,x,a,c,gb,hx,rfl⟩
 refine aW (rmI k way) ?_ ?_
 ·by_cases hw:way=5
  ·subst hw
   obtain⟨r1,a1,c1,e1,h10,h11⟩:=gR (a:=a) (b:=c) (k:=k) (far:=999999999999999999999999999999) (by decide) (by decide)
   obtain⟨r2,a2,c2,e2,h20,h21⟩:=gR (a:=a1) (b:=c1) (k:=k) (far:=999999999999999999999999999998) (by decide) (by decide)
   obtain⟨r3,a3,c3,e3,h30,h31⟩:=gR (a:=a2) (b:=c2) (k:=k) (far:=999999999999999999999999999999) (by decide) (by decide)
   obtain⟨r4,a4,c4,e4,h40,h41⟩:=gR (a:=a3) (b:=c3) (k:=k) (far:=999999999999999999999999999998) (by decide) (by decide)
   obtain⟨r5,a5,c5,e5,h50,h51⟩:=gR (a:=a4) (b:=c4) (k:=k) (far:=999999999999999999999999999998) (by decide) (by decide)
   have n2:=iY r2
   have n4:=iY r4
   have n5:=iY r5
   have l1:=iz (a:=r1) (b:=1+((r2.natAbs:Nat):Int)) (by omega) (mF (by omega))
   have l4:=iz (a:=1+((r5.natAbs:Nat):Int)) (b:=999999999999999999999999999999) (by omega) (mF (by omega))
   exact⟨[.mu (fdV a5 c5 k),.sh (.int 5),.sh (fV (((r1:Int):Rat)/((1+((r2.natAbs:Nat):Int):Int):Rat))),.sh (fV ((r3:Int):Rat)),.sh (fV ((1+((r4.natAbs:Nat):Int):Int):Rat)),.sh (fV (((1+((r5.natAbs:Nat):Int):Int):Rat)/((999999999999999999999999999999:Int):Rat))),.sh (.int 999999999999999999999999999999)],by simp![hx,p30,e1,e2,e3,e4,e5,n2,n4,n5,l1,l4,iV],⟨_,_,_,_⟩,_,a5,c5,⟨⟨gH (by omega),jd (by omega) (by omega)⟩,⟨iX (by omega) (by omega) (by omega),ij (by omega),ij (by omega),iX (by omega) (by omega) (by omega)⟩⟩,rfl,rfl⟩
  ·exact⟨_,by simp![Ov.mpr hw],b,x,a,c,gb,hx,rfl⟩
 rintro _ ⟨b,x,a,c,gb,hx,rfl⟩
 refine⟨b,a,c,gb,?_⟩
 simp![xW,bV]
def oE{p q:Rat}{n m:Nat}(hp:Sz n p)(hq:Sz m q)(h:n+m<=8000):d8.G [fV p,fV q]=.ok (.val (fV (p+q))) []:=by
 have c1:=cE (CMulA.of hp.top hq.bot (by omega) (by omega))
 have c2:=cE (CMulA.of hq.top hp.bot (by omega) (by omega))
 have c3:=cE (CMulA.of hp.bot hq.bot (by omega) (by omega))
 have dp:=p.den_pos
 have dq:=q.den_pos
 have lo:=iz (a:=p.num*q.den+q.num*p.den) (b:=p.den*q.den) (Int.ne_of_gt (QU (by omega) (by omega))) ((hp.bot.mul hq.bot).mono h)
 rw[<- vM] at lo
 unfold d8
 rw[bS]
 unfold lU
 rw[show fV p=.tup [.int p.num,.int p.den] from rfl,show fV q=.tup [.int q.num,.int q.den] from rfl]
 simp![c1,c2,c3,lo]
def E2(p:Rat)(a W:Int)(hW:0<W):((p.num*a:Int):Rat)/((p.den*W:Int):Rat)=p*((a:Rat)/(W:Rat)):=by
 have h1:p=(p.num:Rat)/(p.den:Rat):=by
  have z:=Rat.num_divInt_den p
  rw[Rat.divInt_eq_div] at z
  exact z.symm
 have h2:(p.den:Rat)≠0:=λz=>p.den_nz (by exact_mod_cast z)
 have h3:(W:Rat)≠0:=λz=>by
  have:W=0:=by exact_mod_cast z
  omega
 rw[O5,O5,Rat.intCast_natCast]
 generalize (p.num:Rat)=x at *
 generalize (p.den:Rat)=y at *
 generalize (W:Rat)=z at *
 generalize (a:Rat)=u at *
 subst h1
 grind
def md{p:Rat}{n m:Nat}{a W:Int}(hp:Sz n p)(hW:0<W)(mW:Sm m W)(h:n+m<=8000):aZ.G [.int (p.num*a),.int (p.den*W)]=.ok (.val (fV (p*((a:Rat)/(W:Rat))))) []:=by
 have dp:=p.den_pos
 rw[iz (Int.ne_of_gt (QU (by omega) hW)) ((hp.bot.mul mW).mono h),E2 p a W hW]
def Dg(p:Rat):(fV p).items=some [.int p.num,.int p.den]:=rfl
def prt(b:Bx)(way:Str)(W a:Int)(ws:List Int):List Bx:=if way="across" then (shL b.l b.w W a ws).map λp=>⟨p.1,b.t,p.2,b.h⟩ else (shL b.t b.h W a ws).map λp=>⟨b.l,p.1,b.w,p.2⟩
def LN(b:Bx)(W a w:Int)(ws:List Int):prt b "across" W a (w::ws)=(⟨b.l+b.w*((a:Rat)/(W:Rat)),b.t,b.w*((w:Rat)/(W:Rat)),b.h⟩:Bx)::prt b "across" W (a+w) ws:=by
 unfold prt
 rw[if_pos rfl,if_pos rfl]
 rfl
def Ks(b:Bx)(W a w:Int)(ws:List Int):prt b "down" W a (w::ws)=(⟨b.l,b.t+b.h*((a:Rat)/(W:Rat)),b.w,b.h*((w:Rat)/(W:Rat))⟩:Bx)::prt b "down" W (a+w) ws:=by
 have hne:¬ (("down" : Str)="across"):=by decide
 unfold prt
 rw[if_neg hne,if_neg hne]
 rfl
def Fd(b:Bx)(way:Str)(W a:Int):prt b way W a []=[]:=by
 unfold prt
 split <;> rfl
theorem nj{b:Bx}{n m:Nat}{W:Int}{wv:Val}(hs:b.Sz n)(hW:0<W)(mW:Sm m W)(h:n+n+m<=8000){way:Str}(hway:way="across" \/ way="down"):∀(ws:List Int) (a:Int) (acc:List Bx) (s10 s11:Sl),s10.pl=true->s11.pl=true->0<=a->(∀w∈ws,1<=w)->a+ws.sum<=W->acc.length+ws.length<=1000->∃s9' s10' s11',eJ (gtN 10).G dC.G (ws.map .int) [.sh (bV b),.sh (.str way),.sh wv,.sh (fV b.l),.sh (fV b.t),.sh (fV b.w),.sh (fV b.h),.sh (.int W),.ow (.lst (acc.map bV)),.sh (.int a),s10,s11]=.nx [.sh (bV b),.sh (.str way),.sh wv,.sh (fV b.l),.sh (fV b.t),.sh (fV b.w),.sh (fV b.h),.sh (.int W),.ow (.lst ((acc++prt b way W a ws).map bV)),s9',s10',s11']
 | [],a,acc,s10,s11,h10,h11,ha,hw,hs',be=>⟨.sh (.int a),s10,s11,by rw[OJ,mB,Fd,OR]⟩
 |
  w::ws,a,acc,s10,s11,h10,h11,ha,hw,hs',be=>by
  have hw0:=hw w (Od ..)
  have hws:0<=ws.sum:=by
   have:∀l:List Int,(∀w∈l,1<=w)->0<=l.sum:=by
    intro l
    induction l with
    |nil=>intro _;simp
    |cons x l ih=>intro hx;rw[OM];have:=hx x (Od ..);have:=ih λw hw=>hx w (N9 _ hw);omega
   exact this ws λx hx=>hw x (N9 _ hx)
  rw[OM] at hs'
  rw[Oo] at be
  have sa:Sm m a:=mW.of_le (by omega)
  have sw:Sm m w:=mW.of_le (by omega)
  have z1:Sz m ((a:Rat)/(W:Rat)):=Sz.div (by omega) sa mW m (Oe _) (Oe _)
  have ll:(acc.map bV).length<16777216:=by rw[N8];omega
  have g1:(gtN 10).G (.int w) [.sh (bV b),.sh (.str way),.sh wv,.sh (fV b.l),.sh (fV b.t),.sh (fV b.w),.sh (fV b.h),.sh (.int W),.ow (.lst (acc.map bV)),.sh (.int a),s10,s11]=some [.sh (bV b),.sh (.str way),.sh wv,.sh (fV b.l),.sh (fV b.t),.sh (fV b.w),.sh (fV b.h),.sh (.int W),.ow (.lst (acc.map bV)),.sh (.int a),.sh (.int w),s11]:=by
   simp![h10]
  rcases hway with rfl |rfl
  ·have t1:=md (a:=a) hs.w hW mW (by omega)
   have t2:=md (a:=w) hs.w hW mW (by omega)
   have c1:=cE (CMulA.of hs.w.top sa (by omega) (by omega))
   have c2:=cE (CMulA.of hs.w.top sw (by omega) (by omega))
   have c3:=cE (CMulA.of hs.w.bot mW (by omega) (by omega))
   have ad:=oE hs.l (hs.w.mul z1) (by omega)
   obtain⟨t9,t10,t11,ih⟩:=nj (wv:=wv) hs hW mW h (.inl rfl) ws (a+w) (acc++[(⟨b.l+b.w*((a:Rat)/(W:Rat)),b.t,b.w*((w:Rat)/(W:Rat)),b.h⟩:Bx)]) (.sh (.int w)) (.sh (fV (b.l+b.w*((a:Rat)/(W:Rat))))) rfl rfl (by omega) (λx hx=>hw x (N9 _ hx)) (by omega) (by rw[Oa];show acc.length+1+_<=_;omega)
   refine⟨t9,t10,t11,?_⟩
   have b1:dC.G [.sh (bV b),.sh (.str "across"),.sh wv,.sh (fV b.l),.sh (fV b.t),.sh (fV b.w),.sh (fV b.h),.sh (.int W),.ow (.lst (acc.map bV)),.sh (.int a),.sh (.int w),s11]=.nx [.sh (bV b),.sh (.str "across"),.sh wv,.sh (fV b.l),.sh (fV b.t),.sh (fV b.w),.sh (fV b.h),.sh (.int W),.ow (.lst ((acc++[(⟨b.l+b.w*((a:Rat)/(W:Rat)),b.t,b.w*((w:Rat)/(W:Rat)),b.h⟩:Bx)]).map bV)),.sh (.int (a+w)),.sh (.int w),.sh (fV (b.l+b.w*((a:Rat)/(W:Rat))))]:=by
    unfold dC
    rw[OP,show [(⟨b.l+b.w*((a:Rat)/(W:Rat)),b.t,b.w*((w:Rat)/(W:Rat)),b.h⟩:Bx)].map bV=[.tup [fV (b.l+b.w*((a:Rat)/(W:Rat))),fV b.t,fV (b.w*((w:Rat)/(W:Rat))),fV b.h]] from rfl]
    simp![h11,Dg,c1,c2,c3,t1,t2,ad,ll,yX]
   rw[Of,dO,g1]
   simp only[b1,l7]
   rw[ih,LN,O1]
   rfl
  ·have t1:=md (a:=a) hs.h hW mW (by omega)
   have t2:=md (a:=w) hs.h hW mW (by omega)
   have c1:=cE (CMulA.of hs.h.top sa (by omega) (by omega))
   have c2:=cE (CMulA.of hs.h.top sw (by omega) (by omega))
   have c3:=cE (CMulA.of hs.h.bot mW (by omega) (by omega))
   have ad:=oE hs.t (hs.h.mul z1) (by omega)
   obtain⟨t9,t10,t11,ih⟩:=nj (wv:=wv) hs hW mW h (.inr rfl) ws (a+w) (acc++[(⟨b.l,b.t+b.h*((a:Rat)/(W:Rat)),b.w,b.h*((w:Rat)/(W:Rat))⟩:Bx)]) (.sh (.int w)) (.sh (fV (b.t+b.h*((a:Rat)/(W:Rat))))) rfl rfl (by omega) (λx hx=>hw x (N9 _ hx)) (by omega) (by rw[Oa];show acc.length+1+_<=_;omega)
   refine⟨t9,t10,t11,?_⟩
   have b1:dC.G [.sh (bV b),.sh (.str "down"),.sh wv,.sh (fV b.l),.sh (fV b.t),.sh (fV b.w),.sh (fV b.h),.sh (.int W),.ow (.lst (acc.map bV)),.sh (.int a),.sh (.int w),s11]=.nx [.sh (bV b),.sh (.str "down"),.sh wv,.sh (fV b.l),.sh (fV b.t),.sh (fV b.w),.sh (fV b.h),.sh (.int W),.ow (.lst ((acc++[(⟨b.l,b.t+b.h*((a:Rat)/(W:Rat)),b.w,b.h*((w:Rat)/(W:Rat))⟩:Bx)]).map bV)),.sh (.int (a+w)),.sh (.int w),.sh (fV (b.t+b.h*((a:Rat)/(W:Rat))))]:=by
    unfold dC
    rw[OP,show [(⟨b.l,b.t+b.h*((a:Rat)/(W:Rat)),b.w,b.h*((w:Rat)/(W:Rat))⟩:Bx)].map bV=[.tup [fV b.l,fV (b.t+b.h*((a:Rat)/(W:Rat))),fV b.w,fV (b.h*((w:Rat)/(W:Rat)))]] from rfl]
    simp![h11,Dg,c1,c2,c3,t1,t2,ad,ll,ze]
   rw[Of,dO,g1]
   simp only[b1,l7]
   rw[ih,Ks,O1]
   rfl
def sG{b:Bx}{n m:Nat}{way:Str}{ws:List Int}(hs:b.Sz n)(hway:way="across" \/ way="down")(hw:∀w∈ws,1<=w)(h0:0<ws.sum)(mW:Sm m ws.sum)(h:n+n+m<=8000)(be:ws.length<=1000):da.G [bV b,.str way,.lst (ws.map .int)]=.ok (.new (.lst ((bo b way ws).map bV))) []:=by
 obtain⟨s9,s10,s11,lo⟩:=nj (wv:=.lst (ws.map .int)) hs h0 mW h hway ws 0 [] .no .no rfl rfl (by omega) hw (by omega) (by simpa using be)
 have pe:prt b way ws.sum 0 ws=bo b way ws:=rfl
 rw[OQ,pe,OJ] at lo
 have e0:bV b=.tup [fV b.l,fV b.t,fV b.w,fV b.h]:=rfl
 rw[e0] at lo ⊢
 unfold da
 rw[bS]
 unfold jH
 simp![lo]
def EU{ws:List Int}{ts:List AT}(hi:∀k∈AT.lvsL ts,k<ws.length)(hl:(AT.lvsL ts).length<=1000)(hn:ts.length<=1000)(hd:∀t∈ts,t.dep<=42/\t.ok=true):
 ∃s,lcV (gtN 0).G qY.G (pFn iU (ag (pLC (bZ (aA (ba 42).fn (ag (ah 0) ao))) [none,some 1] (by decide) (gtN 0) qY (pOp bIx (ah 1) (ah 0))) ao)).G (ts.map atV) [] [.no,.sh (liV ws)]=.ok ((ts.map (wtT ws)).map .int) [s,.sh (liV ws)]:=by
 have lle:∀t∈ts,t.lvs.length<=(AT.lvsL ts).length:=λt ht=>AT.lvs_le ht
 obtain⟨e',⟨s,rfl,_⟩,lc⟩:=eA (g:=(gtN 0).G) (F:=(pFn iU (ag (pLC (bZ (aA (ba 42).fn (ag (ah 0) ao))) [none,some 1] (by decide) (gtN 0) qY (pOp bIx (ah 1) (ah 0))) ao)).G) atV (λt=>Val.int (wtT ws t)) (λe=>∃s:Sl,e=[s,.sh (liV ws)]/\s.pl=true) ts [] [.no,.sh (liV ws)] ⟨.no,rfl,rfl⟩ (by
  rintro t ht _ ⟨s,rfl,hs⟩
  have e1:=ye t 42 (hd t ht).1 (hd t ht).2 (by have:=lle t ht;omega)
  rw[show AT.val (λk=>Val.int (k:Nat)) t=atV t from rfl] at e1
  obtain⟨s',lc⟩:=Af (ws:=ws) (l:=t.lvs) (by have:=lle t ht;omega) (λk hk=>hi k (AT.lvsL_mem.mpr ⟨t,ht,hk⟩))
  have ll:((t.lvs.map λk=>ws.getD k 0).map Val.int).length<=16777216:=by rw[N8,N8];have:=lle t ht;omega
  have sm:(t.lvs.map λk=>ws.getD k 0).sum=wtT ws t:=uh (List.Perm.refl _)
  refine⟨[.sh (atV t),.sh (liV ws)],.val (.int (wtT ws t)),[.sh (atV t),.sh (liV ws)],?_,?_,rfl,_,rfl,rfl⟩
  ·generalize atV t=tv at *
   simp![hs]
  ·rw[<- sm]
   generalize atV t=tv at *
   generalize liV ws=wv at *
   generalize (t.lvs.map λk:Nat=>Val.int (k:Nat))=LV at *
   simp![e1,cR,inS,lc,ll]) (by rw[OC];omega)
 exact⟨s,by rw[Pl];exact lc⟩
theorem sW{ws:List Int}{n m k:Nat}(rv tv sv:Val):∀(ts:List AT) (bs:List Bx) (kvs:List (Key×Val)) (s4 s5:Sl),s4.pl=true->s5.pl=true->ts.length=bs.length->(∀(t:AT) (b:Bx) (kvs:List (Key×Val)),t∈ts->AT.lay ws n m t b->kvs.length+t.lvs.length<=100000->(bX k).G [bV b,liV ws,atV t,.dct kvs]=.ok (.par 3) [.dct (bI kvs (AT.bx ws t b))])->AT.layL ws n m ts bs->kvs.length+(AT.lvsL ts).length<=100000->
 ∃s4' s5',eJ (gtX (gtT 2 (bO (gtN 5) (bO (gtN 6) fu)))).G (gu (bX k)).G (List.zipWith (λx y=>Val.tup [x,y]) (ts.map atV) (bs.map bV)) [.sh rv,.sh (liV ws),.sh tv,.mu (.dct kvs),.sh sv,s4,s5]=.nx [.sh rv,.sh (liV ws),.sh tv,.mu (.dct (bI kvs (AT.bxL ws ts bs))),.sh sv,s4',s5']
 | [],bs,kvs,s4,s5,_,_,_,_,_,_=>⟨s4,s5,by cases bs <;> rfl⟩
 |t::ts,[],kvs,s4,s5,_,_,h,_,_,_=>nomatch h
 |
  t::ts,b::bs,kvs,s4,s5,h4,h5,hl,hp,hy,hk=>by
  rw[AT.layL] at hy
  rw[AT.lvsL,Oa] at hk
  have e1:=hp t b kvs (Od ..) hy.1 (by omega)
  have be:=nE (AT.bx ws t b) kvs
  have hfst:=(AT.bx_fst ws t b).1
  obtain⟨s4',s5',q⟩:=sW rv tv sv ts bs (bI kvs (AT.bx ws t b)) (.sh (atV t)) (.sh (bV b)) rfl rfl (by simpa using hl) (λu c kv hu=>hp u c kv (N9 _ hu)) hy.2 (by omega)
  refine⟨s4',s5',?_⟩
  rw[AT.bxL,sO,Of,Of,List.zipWith_cons_cons,dO]
  generalize bI kvs (AT.bx ws t b)=kvs1 at *
  generalize atV t=av at *
  generalize bV b=bv at *
  generalize liV ws=wv at *
  have g1:(gtX (gtT 2 (bO (gtN 5) (bO (gtN 6) fu)))).G (.tup [av,bv]) [.sh rv,.sh wv,.sh tv,.mu (.dct kvs),.sh sv,s4,s5]=some [.sh rv,.sh wv,.sh tv,.mu (.dct kvs),.sh sv,.sh av,.sh bv]:=by
   simp![h4,h5]
  have b1:(gu (bX k)).G [.sh rv,.sh wv,.sh tv,.mu (.dct kvs),.sh sv,.sh av,.sh bv]=.nx [.sh rv,.sh wv,.sh tv,.mu (.dct kvs1),.sh sv,.sh av,.sh bv]:=by
   unfold gu
   simp![e1]
  rw[g1]
  dsimp only
  rw[b1]
  exact q
def xN{ws:List Int}{n m:Nat}(hnm:n+n+m<=8000)(t:AT):∀(k:Nat) (b:Bx) (kvs:List (Key×Val)),t.dep<=k->k<=42->t.ok=true->AT.lay ws n m t b->(∀i∈t.lvs,i<ws.length)->t.lvs.length<=1000->kvs.length+t.lvs.length<=100000->(bX k).G [bV b,liV ws,atV t,.dct kvs]=.ok (.par 3) [.dct (bI kvs (AT.bx ws t b))]:=by
 induction t using AT.ind with
 |
  h1 x=>
  intro k b kvs hd _ _ _ _ _ hk
  cases k with
  |zero=>simp [AT.dep] at hd
  |
   succ k=>
   have i1:(bA kits).G [.int (x:Nat),.ty "tuple"]=.val (.bl false):=rfl
   have kl:kvs.length<16777216:=by omega
   have av:atV (.lf x)=.int (x:Nat):=rfl
   have pe:bI kvs (AT.bx ws (.lf x) b)=c7 kvs (.inl (x:Nat)) (bV b):=by rw[AT.bx];rfl
   show (PFx.of [false,false,false,true] 7 (eR (bX k))).G [bV b,liV ws,atV (.lf x),.dct kvs]=_
   rw[jx,av,pe]
   unfold eR
   generalize bV b=bv at *
   generalize liV ws=wv at *
   simp![i1,Ad,kl]
 |
  h2 w ts ih=>
  intro k b kvs hd h42 hok hy hi hl hk
  cases k with
  |zero=>simp [AT.dep] at hd
  |
   succ k=>
   rw[AT.dep] at hd
   rw[AT.lvs] at hi hl hk
   rw[AT.ok,Ol] at hok
   have hd':=AT.depL_le.mp (show AT.depL ts<=k by omega)
   have ho':∀(l:List AT),AT.okL l=true->∀t∈l,t.ok=true:=by
    intro l
    induction l with
    |nil=>intro _ t ht;cases ht
    |
     cons u l ih=>
     intro h t ht
     rw[AT.okL,Ol] at h
     rcases Ow.mp ht with rfl |ht
     ·exact h.1
     ·exact ih h.2 t ht
   have ho:=ho' ts hok.2
   have hy':=hy
   rw[AT.lay] at hy'
   obtain⟨y1,y2,y3,y4,y5,y6,y7⟩:=hy'
   have ew:wy w="across" \/ wy w="down":=by cases w;exact .inr rfl;exact .inl rfl
   have hw1:∀x∈ts.map (wtT ws),1<=x:=λx hx=>by obtain⟨t,ht,rfl⟩:=OU.mp hx;exact y5 t ht
   have s0:0<(ts.map (wtT ws)).sum:=by
    cases ts with
    |nil=>exact absurd rfl y3
    |
     cons u us=>
     have:∀l:List Int,(∀w∈l,1<=w)->0<=l.sum:=by
      intro l
      induction l with
      |nil=>intro _;simp
      |cons x l ih=>intro hx;rw[OM];have:=hx x (Od ..);have:=ih λw hw=>hx w (N9 _ hw);omega
     rw[Of,OM]
     have a1:=hw1 (wtT ws u) (Od ..)
     have a2:=this (us.map (wtT ws)) λx hx=>hw1 x (N9 _ hx)
     omega
   have pe:=sG y2 ew hw1 s0 y6 hnm (by rw[N8];omega)
   obtain⟨s,lc⟩:=EU (ws:=ws) (ts:=ts) hi hl (by omega) λt ht=>⟨by have:=hd' t ht;omega,ho t ht⟩
   obtain⟨s4,s5,lo⟩:=sW (ws:=ws) (n:=n) (m:=m) (k:=k) (bV b) (atV (.nd w ts)) (.lst ((ts.map (wtT ws)).map .int)) ts (bo b (wy w) (ts.map (wtT ws))) kvs .no .no rfl rfl (by rw[oK,N8]) (λt c kv ht hy2 hk2=>ih t ht k c kv (hd' t ht) (by omega) (ho t ht) hy2 (λi hi2=>hi i (AT.lvsL_mem.mpr ⟨t,ht,hi2⟩)) (by have:=AT.lvs_le ht;omega) hk2) y7 hk
   have av:atV (.nd w ts)=.tup [.str (wy w),.tup (ts.map atV)]:=by
    unfold atV
    rw[AT.val,AT.vals_map]
   have bxe:AT.bx ws (.nd w ts) b=AT.bxL ws ts (bo b (wy w) (ts.map (wtT ws))):=by rw[AT.bx]
   have l2:((ts.map (wtT ws)).map Val.int).length<=16777216:=by rw[N8,N8];omega
   show (PFx.of [false,false,false,true] 7 (eR (bX k))).G [bV b,liV ws,atV (.nd w ts),.dct kvs]=_
   rw[jx,bxe]
   unfold eR
   rw[av] at lo ⊢
   have i1:∀xs:List Val,(bA kits).G [.tup xs,.ty "tuple"]=.val (.bl true):=λ_=>rfl
   generalize bI kvs (AT.bxL ws ts (bo b (wy w) (ts.map (wtT ws))))=kvs1 at *
   generalize (bo b (wy w) (ts.map (wtT ws))).map bV=PB at *
   generalize (ts.map (wtT ws)).map Val.int=SV at *
   generalize ts.map atV=TV at *
   generalize bV b=bv at *
   generalize liV ws=wv at *
   simp![i1,kr,cR,inS,lc,l2,pe,lo]
def p29:gG.G (.int 10) (.int 29)=.val (.int 100000000000000000000000000000):=rR ⟨by decide,by decide,by decide⟩
def Dv{ns:List Int}{at_ most many more sty k:Int}{acc:List Int}{s9:Sl}(h9:s9.pl=true)(hk:0<=k/\k<=40)(hs:0<=sty/\sty<6)(a c q:Int):
 ∃w a' c',1<=w/\w<=8388608/\(aN false 9 (pOp bIx (dF (ag (au 1) (ag (pOp bH (au 1) (aA aB (ag (ah 3) (ag (au 9) ao)))) (ag (pOp tj (au 1) (pOp c9 (ah 8) (au 24))) (ag (pOp bH (au 1) (aA aB (ag (ah 3) (ag (au 9) ao)))) (ag (au 1) (ag (pOp bH (au 1) (aA aB (ag (ah 3) (ag (au 3) ao)))) ao))))))) (ah 6))).G [.sh (.kl (ns.map .int)),.sh (.int at_),.sh (.int most),.ow (fdV a c q),.sh (.int many),.sh (.int more),.sh (.int sty),.ow (.lst (acc.map .int)),.sh (.int k),s9]=.nx [.sh (.kl (ns.map .int)),.sh (.int at_),.sh (.int most),.ow (fdV a' c' q),.sh (.int many),.sh (.int more),.sh (.int sty),.ow (.lst (acc.map .int)),.sh (.int k),.sh (.int w)]:=by
 obtain⟨r1,a1,c1,e1,l1,u1⟩:=aO (a:=a) (b:=c) (k:=q) (m:=9) (by decide) (sm8 (by decide))
 obtain⟨r2,a2,c2,e2,l2,u2⟩:=aO (a:=a1) (b:=c1) (k:=q) (m:=9) (by decide) (sm8 (by decide))
 obtain⟨r3,a3,c3,e3,l3,u3⟩:=aO (a:=a2) (b:=c2) (k:=q) (m:=3) (by decide) (sm8 (by decide))
 have fm:=er (a:=k) (m:=24) (by decide)
 have km:=fG (i:=k) (j:=24) (by decide)
 have sh:∃z,1<=z/\z<=8388608/\tj.G (.int 1) (.int (k.fmod 24))=.val (.int z):=by
  generalize k.fmod 24=r at *
  have:r=0\/r=1\/r=2\/r=3\/r=4\/r=5\/r=6\/r=7\/r=8\/r=9\/r=10\/r=11\/r=12\/r=13\/r=14\/r=15\/r=16\/r=17\/r=18\/r=19\/r=20\/r=21\/r=22\/r=23:=by omega
  rcases this with rfl |rfl |rfl |rfl |rfl |rfl |rfl |rfl |rfl |rfl |rfl |rfl |rfl |rfl |rfl |rfl |rfl |rfl |rfl |rfl |rfl |rfl |rfl |rfl <;> exact⟨_,by decide,by decide,JZ ⟨by decide,by decide,by decide⟩⟩
 obtain⟨z,z1,z2,z3⟩:=sh
 have hc:sty=0\/sty=1\/sty=2\/sty=3\/sty=4\/sty=5:=by omega
 have at6:∃w,1<=w/\w<=8388608/\atI [Val.int 1,.int (1+r1),.int z,.int (1+r2),.int 1,.int (1+r3)] sty=some (.int w):=by
  rcases hc with rfl |rfl |rfl |rfl |rfl |rfl
  ·exact⟨1,by decide,by decide,rfl⟩
  ·exact⟨1+r1,by omega,by omega,rfl⟩
  ·exact⟨z,z1,z2,rfl⟩
  ·exact⟨1+r2,by omega,by omega,rfl⟩
  ·exact⟨1,by decide,by decide,rfl⟩
  ·exact⟨1+r3,by omega,by omega,rfl⟩
 obtain⟨w,w1,w2,w3⟩:=at6
 refine⟨w,a3,c3,w1,w2,?_⟩
 simp![e1,e2,e3,km,z3,w3,h9]
def wtI(ns:List Int)(at_ most many more sty k:Int)(acc:List Int)(e:E3):Prop:=∃w a c q,1<=w/\w<=1000000000000000000000000000000/\(sty<3->w<=8388608)/\e=[.sh (.kl (ns.map .int)),.sh (.int at_),.sh (.int most),.ow (fdV a c q),.sh (.int many),.sh (.int more),.sh (.int sty),.ow (.lst (acc.map .int)),.sh (.int k),.sh (.int w)]
def wtQ(ns:List Int)(at_ most many more sty k:Int)(acc:List Int)(r:SR3):Prop:=∃w s3,1<=w/\w<=1000000000000000000000000000000/\(sty<3->w<=8388608)/\s3.pl=true/\r=.nx [.sh (.kl (ns.map .int)),.sh (.int at_),.sh (.int most),s3,.sh (.int many),.sh (.int more),.sh (.int sty),.ow (.lst ((acc++[w]).map .int)),.sh (.int k),.sh (.int w)]
def Ew{ns:List Int}{at_ most many more sty k:Int}{acc:List Int}{s3 s9:Sl}(h3:s3.pl=true)(h9:s9.pl=true)(ha:0<=at_)(hk:0<=k/\k<=40)(hs:0<=sty/\sty<6)(hl:acc.length<=1000):
 wtQ ns at_ most many more sty k acc (dY.G [.sh (.kl (ns.map .int)),.sh (.int at_),.sh (.int most),s3,.sh (.int many),.sh (.int more),.sh (.int sty),.ow (.lst (acc.map .int)),.sh (.int k),s9]):=by
 unfold dY
 obtain⟨f,ef⟩:=pj (ns:=ns) (k:=at_+1+k) (by omega)
 refine aW (λe=>e=[.sh (.kl (ns.map .int)),.sh (.int at_),.sh (.int most),.ow (fdV f 0 (at_+1+k)),.sh (.int many),.sh (.int more),.sh (.int sty),.ow (.lst (acc.map .int)),.sh (.int k),s9]) ⟨_,by simp![ef,h3],rfl⟩ ?_
 rintro _ rfl
 refine aW (wtI ns at_ most many more sty k acc) ?_ ?_
 ·obtain⟨w,a,c,w1,w2,e⟩:=Dv (ns:=ns) (at_:=at_) (most:=most) (many:=many) (more:=more) (acc:=acc) h9 hk hs f 0 (at_+1+k)
  exact⟨_,e,w,a,c,_,w1,by omega,λ_=>w2,rfl⟩
 rintro _ ⟨w,a,c,q,w1,w2,w3,rfl⟩
 refine aW (wtI ns at_ most many more sty k acc) ?_ ?_
 ·by_cases h:sty=3
  ·subst h
   obtain⟨r1,a1,c1,e1,l1,u1⟩:=aO (a:=a) (b:=c) (k:=q) (m:=4) (by decide) (sm8 (by decide))
   obtain⟨r2,a2,c2,e2,l2,u2⟩:=aO (a:=a1) (b:=c1) (k:=q) (m:=100) (by decide) (sm8 (by decide))
   by_cases hr:r1=0
   ·subst hr
    exact⟨[.sh (.kl (ns.map .int)),.sh (.int at_),.sh (.int most),.ow (fdV a2 c2 q),.sh (.int many),.sh (.int more),.sh (.int 3),.ow (.lst (acc.map .int)),.sh (.int k),.sh (.int (100000000000000000000000000000+r2))],by simp![e1,e2,p29],_,_,_,_,by omega,by omega,λz=>absurd z (by decide),rfl⟩
   ·exact⟨[.sh (.kl (ns.map .int)),.sh (.int at_),.sh (.int most),.ow (fdV a1 c1 q),.sh (.int many),.sh (.int more),.sh (.int 3),.ow (.lst (acc.map .int)),.sh (.int k),.sh (.int w)],by simp![e1,Ov.mpr hr],_,_,_,_,w1,w2,w3,rfl⟩
  ·exact⟨_,by simp![Ov.mpr h],w,a,c,q,w1,w2,w3,rfl⟩
 rintro _ ⟨w,a,c,q,w1,w2,w3,rfl⟩
 refine aW (wtI ns at_ most many more sty k acc) ?_ ?_
 ·by_cases h:sty=4
  ·subst h
   obtain⟨r1,a1,c1,e1,l1,u1⟩:=gR (a:=a) (b:=c) (k:=q) (far:=999999999999999999999999999998) (by decide) (by decide)
   exact⟨[.sh (.kl (ns.map .int)),.sh (.int at_),.sh (.int most),.ow (fdV a1 c1 q),.sh (.int many),.sh (.int more),.sh (.int 4),.ow (.lst (acc.map .int)),.sh (.int k),.sh (.int (1+if r1<0 then -r1 else r1))],by simp![e1,p30],_,_,_,_,by split <;> omega,by split <;> omega,λz=>absurd z (by decide),rfl⟩
  ·exact⟨_,by simp![Ov.mpr h],w,a,c,q,w1,w2,w3,rfl⟩
 rintro _ ⟨w,a,c,q,w1,w2,w3,rfl⟩
 have ll:(acc.map Val.int).length<16777216:=by rw[N8];omega
 refine⟨w,.ow (fdV a c q),w1,w2,w3,rfl,?_⟩
 rw[OP,Of,OJ]
 simp![ll]
theorem vY{ns:List Int}{at_ most many more sty:Int}(ha:0<=at_)(hs:0<=sty/\sty<6):∀(ks:List Nat) (acc:List Int) (s3 s8 s9:Sl),s3.pl=true->s8.pl=true->s9.pl=true->(∀k∈ks,k<=40)->acc.length+ks.length<=1000->
 ∃(ws:List Int) (s3' s8' s9':Sl),ws.length=ks.length/\(∀w∈ws,1<=w/\w<=1000000000000000000000000000000/\(sty<3->w<=8388608))/\eJ (gtN 8).G dY.G (ks.map λk:Nat=>Val.int (k:Nat)) [.sh (.kl (ns.map .int)),.sh (.int at_),.sh (.int most),s3,.sh (.int many),.sh (.int more),.sh (.int sty),.ow (.lst (acc.map .int)),s8,s9]=.nx [.sh (.kl (ns.map .int)),.sh (.int at_),.sh (.int most),s3',.sh (.int many),.sh (.int more),.sh (.int sty),.ow (.lst ((acc++ws).map .int)),s8',s9']
 | [],acc,s3,s8,s9,_,_,_,_,_=>⟨[],s3,s8,s9,rfl,(λ_ h=>nomatch h),by rw[OJ,mB,OR]⟩
 |
  k::ks,acc,s3,s8,s9,h3,h8,h9,hk,hl=>by
  rw[Oo] at hl
  obtain⟨w,t3,w1,w2,w3,p3,e⟩:=Ew (ns:=ns) (at_:=at_) (most:=most) (many:=many) (more:=more) (sty:=sty) (k:=(k:Nat)) (acc:=acc) h3 h9 ha ⟨by omega,by have:=hk k (Od ..);omega⟩ hs (by omega)
  obtain⟨ws,s3',s8',s9',q1,q2,q3⟩:=vY (ns:=ns) (most:=most) (many:=many) (more:=more) ha hs ks (acc++[w]) t3 (.sh (.int (k:Nat))) (.sh (.int w)) p3 rfl rfl (λj hj=>hk j (N9 _ hj)) (by rw[Oa];show acc.length+1+_<=_;omega)
  refine⟨w::ws,s3',s8',s9',by rw[Oo,Oo,q1],λx hx=>?_,?_⟩
  ·rcases Ow.mp hx with rfl |hx
   ·exact⟨w1,w2,w3⟩
   ·exact q2 x hx
  ·have g1:(gtN 8).G (.int (k:Nat)) [.sh (.kl (ns.map .int)),.sh (.int at_),.sh (.int most),s3,.sh (.int many),.sh (.int more),.sh (.int sty),.ow (.lst (acc.map .int)),s8,s9]=some [.sh (.kl (ns.map .int)),.sh (.int at_),.sh (.int most),s3,.sh (.int many),.sh (.int more),.sh (.int sty),.ow (.lst (acc.map .int)),.sh (.int (k:Nat)),s9]:=by
    simp![h8]
   rw[Of,dO,g1]
   dsimp only
   rw[e]
   show eJ _ _ _ _=_
   rw[q3,O1]
   rfl
def div8{x:Int}:kY.G (.int x) (.int 8)=.val (.int (x.fdiv 8)):=mK (CDivB.of (by decide) (sm8 (by decide)))
def wsQ(most:Int)(r:SR3):Prop:=∃ws:List Int,1<=ws.length/\(ws.length:Int)<=max most 7/\(∀w∈ws,1<=w/\w<=1000000000000000000000000000000)/\(9<ws.length->∀w∈ws,w<=8388608)/\mY [false,false,false] r=.ok (.new (liV ws)) []
def oA{ns:List Int}{at_ most:Int}(ha:0<=at_)(hm:1<=most/\most<=40):∃ws:List Int,1<=ws.length/\(ws.length:Int)<=max most 7/\(∀w∈ws,1<=w/\w<=1000000000000000000000000000000)/\(9<ws.length->∀w∈ws,w<=8388608)/\cS.G [.kl (ns.map .int),.int at_,.int most]=.ok (.new (liV ws)) []:=by
 unfold cS
 rw[xK rfl]
 show wsQ most (fF.G [.sh (.kl (ns.map .int)),.sh (.int at_),.sh (.int most),.no,.no,.no,.no,.no,.no,.no])
 unfold fF
 obtain⟨f,ef⟩:=pj (ns:=ns) (k:=at_) ha
 refine aW (λe=>e=[.sh (.kl (ns.map .int)),.sh (.int at_),.sh (.int most),.ow (fdV f 0 at_),.no,.no,.no,.no,.no,.no]) ⟨_,by simp![ef],rfl⟩ ?_
 rintro _ rfl
 obtain⟨r1,a1,c1,e1,l1,u1⟩:=aO (a:=f) (b:=0) (k:=at_) (m:=if (7:Int)<most then 7 else most) (by split <;> omega) (sm8 (by split <;> omega))
 refine aW (λe=>e=[.sh (.kl (ns.map .int)),.sh (.int at_),.sh (.int most),.ow (fdV a1 c1 at_),.sh (.int (1+r1)),.no,.no,.no,.no,.no]) ⟨_,by simp![e1],rfl⟩ ?_
 rintro _ rfl
 have b1:1+r1<=7:=by split at u1 <;> omega
 obtain⟨r2,a2,c2,e2,l2,u2⟩:=aO (a:=a1) (b:=c1) (k:=at_) (m:=6) (by decide) (sm8 (by decide))
 refine aW (λe=>e=[.sh (.kl (ns.map .int)),.sh (.int at_),.sh (.int most),.ow (fdV a2 c2 at_),.sh (.int (1+r1)),.sh (.int r2),.no,.no,.no,.no]) ⟨_,by simp![e2],rfl⟩ ?_
 rintro _ rfl
 refine aW (λe=>∃many:Int,1<=many/\many<=max most 7/\e=[.sh (.kl (ns.map .int)),.sh (.int at_),.sh (.int most),.ow (fdV a2 c2 at_),.sh (.int many),.sh (.int r2),.no,.no,.no,.no]) ?_ ?_
 ·have mm:=cE (i:=1+r1) (j:=most) (CMulA.of (sm8 (m:=1+r1) (by omega)) (sm8 (m:=most) (by omega)) (by decide) (by decide))
  by_cases h:r2<2
  ·have dl:((1+r1)*most).fdiv 8<=most:=by
    rw[Int.fdiv_eq_ediv_of_nonneg _ (by decide)]
    have:(1+r1)*most<=7*most:=Int.mul_le_mul_of_nonneg_right b1 (by omega)
    omega
   have hc:r2=0\/r2=1:=by omega
   rcases hc with rfl |rfl
   ·exact⟨_,by simp![mm,div8],most,by omega,by omega,rfl⟩
   ·exact⟨_,by simp![mm,div8],(if ((1+r1)*most).fdiv 8>1 then ((1+r1)*most).fdiv 8 else 1),by split <;> omega,by split <;> omega,rfl⟩
  ·exact⟨_,by simp![OA h],1+r1,by omega,by omega,rfl⟩
 rintro _ ⟨many,m1,m2,rfl⟩
 obtain⟨r3,a3,c3,e3,l3,u3⟩:=aO (a:=a2) (b:=c2) (k:=at_) (m:=6) (by decide) (sm8 (by decide))
 refine aW (λe=>e=[.sh (.kl (ns.map .int)),.sh (.int at_),.sh (.int most),.ow (fdV a3 c3 at_),.sh (.int many),.sh (.int r2),.sh (.int r3),.no,.no,.no]) ⟨_,by simp![e3],rfl⟩ ?_
 rintro _ rfl
 refine aW (λe=>∃sty:Int,0<=sty/\sty<6/\(9<many->sty<3)/\e=[.sh (.kl (ns.map .int)),.sh (.int at_),.sh (.int most),.ow (fdV a3 c3 at_),.sh (.int many),.sh (.int r2),.sh (.int sty),.no,.no,.no]) ?_ ?_
 ·have km:=fG (i:=r3) (j:=3) (by decide)
  have fm:=er (a:=r3) (m:=3) (by decide)
  by_cases h:9<many
  ·exact⟨_,by simp![OH h,km],r3.fmod 3,by omega,by omega,λ_=>fm.2,rfl⟩
  ·exact⟨_,by simp![OA h],r3,by omega,by omega,λz=>absurd z h,rfl⟩
 rintro _ ⟨sty,t0,t1,t2,rfl⟩
 refine aW (λe=>e=[.sh (.kl (ns.map .int)),.sh (.int at_),.sh (.int most),.ow (fdV a3 c3 at_),.sh (.int many),.sh (.int r2),.sh (.int sty),.ow (.lst []),.no,.no]) ⟨_,by simp![OC],rfl⟩ ?_
 rintro _ rfl
 have rg:=pz (i:=many) (by omega) (by omega)
 obtain⟨ws,s3,s8,s9,q1,q2,q3⟩:=vY (ns:=ns) (at_:=at_) (most:=most) (many:=many) (more:=r2) (sty:=sty) ha ⟨t0,t1⟩ (List.range many.toNat) [] (.ow (fdV a3 c3 at_)) .no .no rfl rfl rfl (λk hk=>by have:=P9.mp hk;omega) (by rw[OC,Qu];omega)
 rw[Qu] at q1
 rw[OQ,OJ] at q3
 unfold rgV at rg
 refine⟨ws,by omega,by omega,λw hw=>⟨(q2 w hw).1,(q2 w hw).2.1⟩,λh w hw=>(q2 w hw).2.2 (t2 (by omega)),?_⟩
 unfold liV
 simp![rg,q3]
 rfl
theorem uK:∀(n:Nat) (l:List Nat),l.length=n->(∀i,i<n->i∈l)->l.Perm (List.range n)
 |0,l,h,_=>by rw[Pk.mp h];exact List.Perm.refl _
 |
  n+1,l,h,hm=>by
  have h1:=hm n (by omega)
  have p:=List.perm_cons_erase h1
  have q:=uK n (l.erase n) (by rw[List.length_erase_of_mem h1];omega) λi hi=>(List.mem_erase_of_ne (by omega)).mpr (hm i (by omega))
  rw[List.range_succ]
  exact p.trans ((q.cons n).trans (List.perm_append_singleton n _).symm)
def Ge{t:AT}{o:List Nat}{n:Nat}(T:TOk t o)(ho:∀i,i∈o ↔ i<n)(hl:o.length=n):t.lvs.Nodup:=
 (uK n t.lvs (by rw[T.len,hl]) λi hi=>(T.mem i).mpr ((ho i).mpr hi)).nodup_iff.mpr List.nodup_range
def oY{q:Rat}{k D:Nat}(hs:Sz 101 q)(hD:D=q.den*k)(hk:0<k):∃z:Int,q=(z:Rat)/((D:Int):Rat)/\z.natAbs<=2^101*D/\(0<q->0<z/\z<=((2^101:Nat):Int)*(D:Int)):=by
 have dp:=q.den_pos
 have hn:q.num.natAbs<2^101:=hs.1
 have hz:(q.num*(k:Int)).natAbs<=2^101*D:=by
  rw[O9,Int.natAbs_natCast,hD]
  exact O_ (by omega) (Nat.le_mul_of_pos_left _ dp)
 refine⟨q.num*(k:Int),?_,hz,λh=>⟨QU (vA.mpr h) (by omega),?_⟩⟩
 ·have:=o1 (y:=q.num) (W:=(k:Int)) dp (by omega)
  rw[O0,<- hD] at this
  rw[<- this]
  exact ke q
 ·rw[<- PC]
  generalize q.num*(k:Int)=z at *
  generalize 2^101*D=y at *
  omega
def LJ{b:Bx}(g:Good b):∃D,D<2^404/\Rp D (2^101) (2^101) b:=by
 have dl:=b.l.den_pos
 have dt:=b.t.den_pos
 have dw:=b.w.den_pos
 have dh:=b.h.den_pos
 have sz:∀q:Rat,Sz 101 q->q.den<=2^101:=λq h=>by have:(q.den:Int).natAbs<2^101:=h.2;omega
 have k1:=Pr (Pr dt dw) dh
 have k2:=Pr (Pr dl dw) dh
 have k3:=Pr (Pr dl dt) dh
 have k4:=Pr (Pr dl dt) dw
 refine⟨b.l.den*(b.t.den*b.w.den*b.h.den),?_,Pr dl k1,?_,?_,?_,?_⟩
 ·have a1:b.l.den<2^101:=by have:(b.l.den:Int).natAbs<2^101:=g.sz.l.2;omega
  have a2:=O_ (O_ (sz _ g.sz.t) (sz _ g.sz.w)) (sz _ g.sz.h)
  calc b.l.den*(b.t.den*b.w.den*b.h.den)<=b.l.den*(2^101*2^101*2^101):=PU _ a2
   _<2^101*(2^101*2^101*2^101):=Nat.mul_lt_mul_of_pos_right a1 (by decide)
   _=2^404:=by rw[<- Qj,<- Qj,<- Qj]
 ·obtain⟨z,h1,h2,_⟩:=oY (D:=b.l.den*(b.t.den*b.w.den*b.h.den)) g.sz.l rfl k1
  exact⟨z,h1,h2⟩
 ·obtain⟨z,h1,h2,_⟩:=oY (D:=b.l.den*(b.t.den*b.w.den*b.h.den)) (k:=b.l.den*b.w.den*b.h.den) g.sz.t (by ac_rfl) k2
  exact⟨z,h1,h2⟩
 ·obtain⟨z,h1,_,h2⟩:=oY (D:=b.l.den*(b.t.den*b.w.den*b.h.den)) (k:=b.l.den*b.t.den*b.h.den) g.sz.w (by ac_rfl) k3
  exact⟨z,h1,h2 g.ok.w⟩
 ·obtain⟨z,h1,_,h2⟩:=oY (D:=b.l.den*(b.t.den*b.w.den*b.h.den)) (k:=b.l.den*b.t.den*b.w.den) g.sz.h (by ac_rfl) k4
  exact⟨z,h1,h2 g.ok.h⟩
structure WOk(ws:List Int):Prop where
 pos:1<=ws.length
 len:ws.length<=40
 wt:∀w∈ws,1<=w/\w<=1000000000000000000000000000000
 few:9<ws.length->∀w∈ws,w<=8388608
theorem tS{ws:List Int}{M:Int}:∀{l:List Nat},(∀k∈l,ws.getD k 0<=M)->wtA ws l<=(l.length:Int)*M
 | [],_=>by simp [wtA]
 |
  k::l,h=>by
  have h1:=h k (Od ..)
  have h2:=tS (l:=l) λj hj=>h j (N9 _ hj)
  unfold wtA at h2 ⊢
  rw[Of,OM,Oo,Int.natCast_add,Int.add_mul]
  omega
def KS{ws:List Int}{t:AT}{o:List Nat}{b:Bx}(g:Good b)(W:WOk ws)(T:TOk t o)(ho:∀i,i∈o ↔ i<ws.length)(hl:o.length=ws.length):∃m,m<=104/\AT.lay ws 2000 m t b:=by
 obtain⟨D,hD,R⟩:=LJ g
 have hlt:∀k∈t.lvs,k<ws.length:=λk hk=>(ho k).mp ((T.mem k).mp hk)
 have hin:∀k∈t.lvs,ws.getD k 0∈ws:=λk hk=>by
  rw[Pm,OG (hlt k hk)]
  exact List.getElem_mem _
 have hw:∀k∈t.lvs,1<=ws.getD k 0:=λk hk=>(W.wt _ (hin k hk)).1
 have hd:=T.dep
 have len:=T.len
 have wl:=W.len
 have key:∀m,m*t.dep<=1218->m<=104->wtT ws t<2^m->∃m,m<=104/\AT.lay ws 2000 m t b:=λm h1 h2 h3=>by
  refine⟨m,h2,GZ t b D (2^101) R (Oe _) (by decide) ?_ T.ok hw h3 (by omega)⟩
  have a1:2^101+t.dep*2^101<=2^107:=by
   have h1:=QN (2^101) (show t.dep<=40 by omega)
   have h2:2^107=64*2^101:=by decide
   rw[h2]
   generalize 2^101=X at *
   omega
  have a2:2^(m*t.dep)<=2^1218:=Qe (by decide) h1
  have a3:=O_ a1 (O_ (QL hD) a2)
  refine P0 a3 ?_
  rw[<- Qj,<- Qj]
  exact Nat.pow_lt_pow_right (by decide) (by decide)
 by_cases h9:9<ws.length
 ·refine key 29 (by omega) (by decide) ?_
  have:=tS (M:=8388608) λk hk=>W.few h9 _ (hin k hk)
  unfold wtT
  have:(2:Int)^29=536870912:=by decide
  omega
 ·refine key 104 (by omega) (by decide) ?_
  have:=tS (M:=1000000000000000000000000000000) λk hk=>(W.wt _ (hin k hk)).2
  unfold wtT
  have:(2:Int)^104=20282409603651670423947251286016:=by decide
  omega
theorem vZ:∀kvs:List (Key×Val),L3.flatC (.dct kvs)=true ↔ ∀p∈kvs,L3.flatV p.2=true
 | []=>⟨(λ_ _ h=>nomatch h),λ_=>rfl⟩
 |
  p::kvs=>by
  have ih:=vZ kvs
  have e:L3.flatC (.dct (p::kvs))=(L3.flatV p.2&&L3.flatC (.dct kvs)):=rfl
  rw[e,Ol,ih,List.forall_mem_cons]
def EG(kvs:List (Key×Val))(k:Key)(b:Bx)(h:L3.flatC (.dct kvs)=true):L3.flatC (.dct (c7 kvs k (bV b)))=true:=by
 rw[vZ] at h ⊢
 unfold c7
 intro p hp
 split at hp
 ·obtain⟨q,hq,rfl⟩:=OU.mp hp
  split
  ·exact xM b
  ·exact h q hq
 ·rcases O4.mp hp with hp |hp
  ·exact h p hp
  ·rcases Ow.mp hp with rfl |hp
   ·exact xM b
   ·exact nomatch hp
theorem vS:∀(l:List (Nat×Bx)) (kvs:List (Key×Val)),L3.flatC (.dct kvs)=true->L3.flatC (.dct (bI kvs l))=true
 | [],_,h=>h
 |p::l,kvs,h=>vS l (c7 kvs (.inl (p.1:Nat)) (bV p.2)) (EG kvs _ p.2 h)
def AB(xs:List Val):(bA kits).G [.lst xs,.ty "list"]=.val (.bl true):=rfl
def Kg(ws:List Int):eT (liV ws) (liV ws)=some true:=by
 have:wfV 60 (liV ws)=true:=by
  show eO 59 (ws.map .int)=true
  exact pS λv hv=>by obtain⟨w,_,rfl⟩:=OU.mp hv;rfl
 rw[CU this this,pY 60 _ this]
def KA(l:List Nat)(f:Nat->Bx):eT (.lst (l.map λk=>bV (f k))) (.lst (l.map λk=>bV (f k)))=some true:=by
 have:wfV 60 (.lst (l.map λk=>bV (f k)))=true:=by
  show eO 59 (l.map λk=>bV (f k))=true
  exact pS λv hv=>by obtain⟨w,_,rfl⟩:=OU.mp hv;exact LR _ 57
 rw[CU this this,pY 60 _ this]
def bdQ(sc:Val)(s1:Sl)(b:Bx)(n:Nat)(s4 s5:Sl)(s6:Sl)(r:SR3):Prop:=∃(ws:List Int) (s7 s8 s9 s10 s11:Sl),WOk ws/\ws.length=n/\(s7.pl=true/\s8.pl=true/\s9.pl=true/\s10.pl=true/\s11.pl=true)/\r=.nx [.sh sc,s1,.sh (bV b),.ow (liV ws),s4,s5,s6,s7,s8,s9,s10,s11]
def Ds{sc:Val}{s1 s4 s6 s7 s8 s9 s10 s11:Sl}{b:Bx}{ws:List Int}{t:AT}{o:List Nat}(g:Good b)(W:WOk ws)(T:TOk t o)(ho:∀i,i∈o ↔ i<ws.length)(hl:o.length=ws.length)(h7:s7.pl=true)(h8:s8.pl=true)(h9:s9.pl=true)(h10:s10.pl=true)(h11:s11.pl=true):
 bdQ sc s1 b ws.length s4 (.sh (atV t)) s6 (lE.G [.sh sc,s1,.sh (bV b),.ow (liV ws),s4,.sh (atV t),s6,s7,s8,s9,s10,s11]):=by
 obtain⟨m,hm,hy⟩:=KS g W T ho hl
 have nd:=Ge T ho hl
 have hi:∀k,k∈t.lvs ↔ k<ws.length:=λk=>(T.mem k).trans (ho k)
 have len:t.lvs.length=ws.length:=T.len.trans hl
 have hd:=T.dep
 have wl:=W.len
 have wp:=W.pos
 have ll:((ws.map Val.int).length:Nat)=ws.length:=N8 ..
 have e1:=xN (ws:=ws) (n:=2000) (m:=m) (by omega) t 42 b [] (by omega) (by omega) T.ok hy (λi h=>(hi i).mp h) (by omega) (by rw[OC];omega)
 have e2:=A4 (ws:=ws) (n:=2000) (m:=m) (by omega) g.ok (by intro z;rw[z] at wp;exact absurd wp (by decide)) (λw hw=>(W.wt w hw).1) wl T.ok hi nd len (by omega) hy
 unfold lE
 have l1:(ws.map Val.int).length<=16777216:=by rw[ll];omega
 refine aW (λe=>e=[.sh sc,s1,.sh (bV b),.ow (liV ws),s4,.sh (atV t),s6,.sh (liV ws),s8,s9,s10,s11]) ⟨_,by
  unfold liV
  generalize bV b=bv at *
  generalize atV t=tv at *
  simp![l1,h7],rfl⟩ ?_
 rintro _ rfl
 have fl:=vS (AT.bx ws t b) [] rfl
 have nm:(8∈[2,3,5])=False:=by simp
 have n38:(3==8)=false:=rfl
 refine aW (λe=>e=[.sh sc,s1,.sh (bV b),.ow (liV ws),s4,.sh (atV t),s6,.sh (liV ws),.ow (.dct (bI [] (AT.bx ws t b))),s9,s10,s11]) ⟨_,by
  generalize bI [] (AT.bx ws t b)=kv at *
  generalize liV ws=wv at *
  generalize bV b=bv at *
  generalize atV t=tv at *
  simp![e1,h8,fl,nm,n38,Option.getD_some],rfl⟩ ?_
 rintro _ rfl
 have keys:=AT.bx_keys ws t b
 obtain⟨e',⟨s,rfl,_⟩,lc⟩:=eA (g:=(gtN 0).G) (F:=(pOp qa (ah 1) (ah 0)).G) (λk:Nat=>Val.int k) (λk:Nat=>bV (bxO (AT.bx ws t b) k)) (λe=>∃s:Sl,e=[s,.mu (.dct (bI [] (AT.bx ws t b)))]/\s.pl=true) (List.range ws.length) [] [.no,.mu (.dct (bI [] (AT.bx ws t b)))] ⟨.no,rfl,rfl⟩ (by
  rintro k hk _ ⟨s,rfl,hs⟩
  rw[P9] at hk
  have lk:=C4 ((pB (k:=k) (AT.bx ws t b) [] (by rw[keys];exact nd)).1 (by rw[keys];exact (hi k).mpr hk))
  generalize bI [] (AT.bx ws t b)=kv at *
  generalize bV (bxO (AT.bx ws t b) k)=bv at *
  refine⟨[.sh (.int (k:Nat)),.mu (.dct kv)],.val bv,[.sh (.int (k:Nat)),.mu (.dct kv)],?_,?_,rfl,_,rfl,rfl⟩
  ·simp![hs]
  ·simp![lk]) (by rw[OC,Qu];omega)
 have fb:=o6 (λk=>bV (bxO (AT.bx ws t b) k)) (λk=>xM _) (List.range ws.length)
 have l2:((List.range ws.length).map λk=>bV (bxO (AT.bx ws t b) k)).length<=16777216:=by simp;omega
 have ebx:=KA (List.range ws.length) λk=>bxO (AT.bx ws t b) k
 rw[OQ] at lc
 rw[show (List.range ws.length).map (λk:Nat=>Val.int k)=rgV ws.length from rfl] at lc
 generalize (List.range ws.length).map (λk=>bV (bxO (AT.bx ws t b) k))=RB at *
 generalize bI [] (AT.bx ws t b)=kv at *
 have rg:gD [.int (ws.length:Nat)]=some (rgV ws.length):=j7 (by omega)
 refine aW (λe=>e=[.sh sc,s1,.sh (bV b),.ow (liV ws),s4,.sh (atV t),s6,.sh (liV ws),.ow (.dct kv),.sh (.lst RB),s10,s11]) ⟨_,by
  unfold liV
  generalize bV b=bv at *
  generalize atV t=tv at *
  simp![ll,rg,cR,inS,lc,l2,h9],rfl⟩ ?_
 rintro _ rfl
 have ew:=Kg ws
 have rg2:gD [.int 2]=some (rgV 2):=j7 (k:=2) (by omega)
 refine aW (λe=>∃s10 s11:Sl,s10.pl=true/\s11.pl=true/\e=[.sh sc,s1,.sh (bV b),.ow (liV ws),s4,.sh (atV t),s6,.sh (liV ws),.ow (.dct kv),.sh (.lst RB),s10,s11]) ?_ ?_
 ·obtain⟨e',p',lo⟩:=lj (g:=(gtN 10).G) (B:=oO.G) (λe=>∃s10 s11:Sl,s10.pl=true/\s11.pl=true/\e=[.sh sc,s1,.sh (bV b),.ow (liV ws),s4,.sh (atV t),s6,.sh (liV ws),.ow (.dct kv),.sh (.lst RB),s10,s11]) (rgV 2) [.sh sc,s1,.sh (bV b),.ow (liV ws),s4,.sh (atV t),s6,.sh (liV ws),.ow (.dct kv),.sh (.lst RB),s10,s11] ⟨s10,s11,h10,h11,rfl⟩ (by
   rintro v _ _ ⟨s10,s11,h10,h11,rfl⟩
   generalize liV ws=wv at *
   generalize bV b=bv at *
   generalize atV t=tv at *
   refine⟨[.sh sc,s1,.sh bv,.ow wv,s4,.sh tv,s6,.sh wv,.ow (.dct kv),.sh (.lst RB),.sh v,s11],[.sh sc,s1,.sh bv,.ow wv,s4,.sh tv,s6,.sh wv,.ow (.dct kv),.sh (.lst RB),.sh v,.ow (.lst [])],?_,.inl ?_,_,_,rfl,rfl,rfl⟩
   ·simp![h10]
   ·unfold oO
    simp![e2,AB,ebx,ew,h11,fb]
    rfl)
  exact⟨e',by
   generalize liV ws=wv at *
   generalize bV b=bv at *
   generalize atV t=tv at *
   simp![rg2,lo],p'⟩
 rintro _ ⟨s10,s11,h10,h11,rfl⟩
 obtain⟨w0,wt,rfl⟩:∃w0 wt,ws=w0::wt:=by
  cases ws with
  |nil=>exact absurd wp (by decide)
  |cons w0 wt=>exact⟨w0,wt,rfl⟩
 have fm:=er (a:=w0) (m:=1000000) (by decide)
 have km:=fG (i:=w0) (j:=1000000) (by decide)
 have ix:ixN (w0::wt).length (((w0::wt).length:Nat)-1)=some ((w0::wt).length-1):=by
  have:=oq (n:=(w0::wt).length) (i:=(((w0::wt).length:Nat):Int)-1) (by omega) (by omega)
  rw[this]
  congr 1
  omega
 refine⟨(w0::wt).set ((w0::wt).length-1) (1+w0.fmod 1000000),.sh (liV (w0::wt)),.ow (.dct kv),.sh (.lst RB),s10,s11,⟨by rw[Oq];exact wp,by rw[Oq];exact wl,λw hw=>?_,λh w hw=>?_⟩,by rw[Oq],⟨rfl,rfl,rfl,h10,h11⟩,?_⟩
 ·rcases OY hw with hw |rfl
  ·exact W.wt w hw
  ·omega
 ·rw[Oq] at h
  rcases OY hw with hw |rfl
  ·exact W.few h w hw
  ·omega
 ·have em:((w0::wt).map Val.int).set ((w0::wt).length-1) (.int (1+w0.fmod 1000000))=((w0::wt).set ((w0::wt).length-1) (1+w0.fmod 1000000)).map .int:=List.map_set.symm
  have at0:atI ((w0::wt).map Val.int) 0=some (.int w0):=kr _ _
  unfold liV
  rw[<- em]
  generalize (w0::wt).length=L at *
  generalize (w0::wt).map Val.int=WV at *
  simp![ll,pow6,km,at0,ix]
def lawQ(r:SR3):Prop:=mY [false] r=.ok (.val (.bl true)) []
def GN(ns:List Int)(hl:ns.length<=63):oR.G [.kl (ns.map .int)]=.ok (.val (.bl true)) []:=by
 unfold oR
 rw[xK rfl]
 show lawQ (rS.G [.sh (.kl (ns.map .int)),.no,.no,.no,.no,.no,.no,.no,.no,.no,.no,.no])
 unfold rS
 obtain⟨a,e0⟩:=pj (ns:=ns) (k:=55) (by omega)
 refine aW (λe=>e=[.sh (.kl (ns.map .int)),.ow (fdV a 0 55),.no,.no,.no,.no,.no,.no,.no,.no,.no,.no]) ⟨_,by simp![e0],rfl⟩ ?_
 rintro _ rfl
 obtain⟨b,a1,c1,g,e1⟩:=Ea a 0 55
 refine aW (λe=>e=[.sh (.kl (ns.map .int)),.ow (fdV a1 c1 55),.sh (bV b),.no,.no,.no,.no,.no,.no,.no,.no,.no]) ⟨_,by simp![e1],rfl⟩ ?_
 rintro _ rfl
 refine aW (λe=>∃ws a c,WOk ws/\e=[.sh (.kl (ns.map .int)),.ow (fdV a c 55),.sh (bV b),.ow (liV ws),.no,.no,.no,.no,.no,.no,.no,.no]) ?_ ?_
 ·obtain⟨r,a2,c2,e2,r0,r1⟩:=aO (a:=a1) (b:=c1) (k:=55) (m:=6) (by decide) (sm8 (by decide))
  by_cases hr:r=0
  ·subst hr
   obtain⟨ws,p1,p2,p3,p4,p5⟩:=oA (ns:=ns) (at_:=0) (most:=40) (by decide) (by decide)
   exact⟨_,by simp![e2,p5],ws,a2,c2,⟨p1,by omega,p3,p4⟩,rfl⟩
  ·obtain⟨ws,p1,p2,p3,p4,p5⟩:=oA (ns:=ns) (at_:=0) (most:=9) (by decide) (by decide)
   exact⟨_,by simp![e2,Ov.mpr hr,p5],ws,a2,c2,⟨p1,by omega,p3,p4⟩,rfl⟩
 rintro _ ⟨ws,a2,c2,W,rfl⟩
 have wl:=W.len
 have wp:=W.pos
 have ll:((ws.map Val.int).length:Nat)=ws.length:=N8 ..
 obtain⟨o,a3,c3,om,ol,e3⟩:=Az (a:=a2) (b:=c2) (k:=55) (m:=ws.length) (by omega)
 refine aW (λe=>e=[.sh (.kl (ns.map .int)),.ow (fdV a3 c3 55),.sh (bV b),.ow (liV ws),.sh (itV o),.no,.no,.no,.no,.no,.no,.no]) ⟨_,by
  unfold liV
  generalize bV b=bv at *
  generalize itV o=ov at *
  simp![ll,e3],rfl⟩ ?_
 rintro _ rfl
 have one:o≠[]:=λz=>by rw[z] at ol;simp at ol;omega
 obtain⟨t,a4,c4,T,e4⟩:=vW (k:=55) o.length 42 o a3 c3 one (Oe _) (by omega) (by omega)
 obtain⟨u,a5,c5,U,e5⟩:=Bm (a:=a4) (b:=c4) (k:=55) one
 rw[show AT.val (λk=>Val.int (k:Nat)) u=atV u from rfl] at e5
 have rg2:gD [.int 2]=some (rgV 2):=j7 (k:=2) (by omega)
 refine aW (λe=>∃e1,e=.sh (.kl (ns.map .int))::e1) ?_ ?_
 ·obtain⟨e',p',lo⟩:=lj (g:=(gtN 5).G) (B:=nU.G) (λe=>∃(ws':List Int) (s5 s6 s7 s8 s9 s10 s11:Sl),WOk ws'/\ws'.length=ws.length/\(s5.pl=true/\s6.pl=true/\s7.pl=true/\s8.pl=true/\s9.pl=true/\s10.pl=true/\s11.pl=true)/\e=[.sh (.kl (ns.map .int)),.ow (fdV a5 c5 55),.sh (bV b),.ow (liV ws'),.sh (itV o),s5,s6,s7,s8,s9,s10,s11]) [atV t,atV u] [.sh (.kl (ns.map .int)),.ow (fdV a5 c5 55),.sh (bV b),.ow (liV ws),.sh (itV o),.no,.no,.no,.no,.no,.no,.no] ⟨ws,.no,.no,.no,.no,.no,.no,.no,W,rfl,⟨rfl,rfl,rfl,rfl,rfl,rfl,rfl⟩,rfl⟩ (by
   rintro v hv _ ⟨ws',s5,s6,s7,s8,s9,s10,s11,W',hw',⟨h5,h6,h7,h8,h9,h10,h11⟩,rfl⟩
   obtain⟨x,X,rfl⟩:∃x,TOk x o/\v=atV x:=by
    rcases Ow.mp hv with rfl |hv
    ·exact⟨t,T,rfl⟩
    ·rcases Ow.mp hv with rfl |hv
     ·exact⟨u,U,rfl⟩
     ·exact nomatch hv
   obtain⟨e',⟨ws2,t6,t7,t8,t9,t10,t11,W2,hw2,hp,rfl⟩,lo⟩:=lj (g:=(gtN 6).G) (B:=lE.G) (λe=>∃(ws2:List Int) (s6 s7 s8 s9 s10 s11:Sl),WOk ws2/\ws2.length=ws.length/\(s6.pl=true/\s7.pl=true/\s8.pl=true/\s9.pl=true/\s10.pl=true/\s11.pl=true)/\e=[.sh (.kl (ns.map .int)),.ow (fdV a5 c5 55),.sh (bV b),.ow (liV ws2),.sh (itV o),.sh (atV x),s6,s7,s8,s9,s10,s11]) (rgV 2) [.sh (.kl (ns.map .int)),.ow (fdV a5 c5 55),.sh (bV b),.ow (liV ws'),.sh (itV o),.sh (atV x),s6,s7,s8,s9,s10,s11] ⟨ws',s6,s7,s8,s9,s10,s11,W',hw',⟨h6,h7,h8,h9,h10,h11⟩,rfl⟩ (by
    rintro v _ _ ⟨ws2,s6,s7,s8,s9,s10,s11,W2,hw2,⟨h6,h7,h8,h9,h10,h11⟩,rfl⟩
    obtain⟨ws3,t7,t8,t9,t10,t11,W3,hw3,⟨p7,p8,p9,p10,p11⟩,he⟩:=Ds (sc:=.kl (ns.map .int)) (s1:=.ow (fdV a5 c5 55)) (s4:=.sh (itV o)) (s6:=.sh v) g W2 X (by rw[hw2];exact om) (by rw[hw2];exact ol) h7 h8 h9 h10 h11
    refine⟨[.sh (.kl (ns.map .int)),.ow (fdV a5 c5 55),.sh (bV b),.ow (liV ws2),.sh (itV o),.sh (atV x),.sh v,s7,s8,s9,s10,s11],_,?_,.inl he,ws3,.sh v,t7,t8,t9,t10,t11,W3,hw3.trans hw2,⟨rfl,p7,p8,p9,p10,p11⟩,rfl⟩
    generalize liV ws2=wv at *
    generalize bV b=bv at *
    generalize atV x=tv at *
    generalize itV o=ov at *
    simp![h6])
   refine⟨[.sh (.kl (ns.map .int)),.ow (fdV a5 c5 55),.sh (bV b),.ow (liV ws'),.sh (itV o),.sh (atV x),s6,s7,s8,s9,s10,s11],_,?_,.inl ?_,ws2,.sh (atV x),t6,t7,t8,t9,t10,t11,W2,hw2,⟨rfl,hp⟩,rfl⟩
   ·generalize liV ws'=wv at *
    generalize bV b=bv at *
    generalize atV x=tv at *
    generalize itV o=ov at *
    simp![h5]
   ·unfold nU
    generalize liV ws'=wv at *
    generalize liV ws2=wv2 at *
    generalize bV b=bv at *
    generalize atV x=tv at *
    generalize itV o=ov at *
    simp![rg2,lo])
  exact⟨e',by
   clear p'
   generalize fdV a3 c3 55=f3 at *
   generalize fdV a4 c4 55=f4 at *
   generalize fdV a5 c5 55=f5 at *
   generalize liV ws=wv at *
   generalize bV b=bv at *
   generalize atV t=tv at *
   generalize atV u=uv at *
   generalize itV o=ov at *
   simp![e4,e5,lo],by obtain⟨_,_,_,_,_,_,_,_,_,_,_,rfl⟩:=p';exact⟨_,rfl⟩⟩
 rintro _ ⟨e1,rfl⟩
 unfold lawQ
 simp![xW]
def Hz{K:W.Frag}{h:Heap}{mg:Str->Option Value}{a_:Addr}{f_:Addr}{g_:Addr}{b_:Addr}{c_:Addr}{e_:Addr}(X:K.In h)(G:h.Ns mainGlobals mg)
 (Mo:W.nsIn K mainGlobals "NoBox"=some (some (.ref f_)))
 (w_:W.nsIn K mainGlobals "NoFraction"=some (some (.ref a_)))
 (G_:W.nsIn K mainGlobals "NoTree"=some (some (.ref e_)))
 (Mp:W.nsIn K mainGlobals "NoWay"=some (some (.ref g_)))
 (u_:W.nsIn K mainGlobals "NoWeights"=some (some (.ref b_)))
 (D_:W.nsIn K mainGlobals "TooMany"=some (some (.ref c_)))
 (C_:W.nsIn K mainGlobals "abs"=some none)
 (M0:W.nsIn K mainGlobals "all"=some none)
 (MW:W.nsIn K mainGlobals "bool"=some none)
 (M3:W.nsIn K mainGlobals "int"=some none)
 (h_:W.nsIn K mainGlobals "isinstance"=some none)
 (k_:W.nsIn K mainGlobals "len"=some none)
 (K_:W.nsIn K mainGlobals "list"=some none)
 (Nf:W.nsIn K mainGlobals "max"=some none)
 (M4:W.nsIn K mainGlobals "min"=some none)
 (t_:W.nsIn K mainGlobals "range"=some none)
 (Ng:W.nsIn K mainGlobals "set"=some none)
 (Nh:W.nsIn K mainGlobals "str"=some none)
 (I_:W.nsIn K mainGlobals "sum"=some none)
 (r_:W.nsIn K mainGlobals "tuple"=some none)
 (M5:W.nsIn K mainGlobals "zip"=some none)
 (s_:GC K mg "MOST_WEIGHTS" gP)
 (MN:GC K mg "WAYS" uj)
 (N5:W.specialIn K (.builtin "object.__class__") "__get__"=some (some (.builtin "getset_descriptor.__get__")))
 (N6:W.takesIn K (.builtin "object.__class__")=some true)
 (x_:W.excIn K a_ eY "ValueError.__new__"=true)
 (Mu:(W.clsIn K a_).isSome=true)
 (Mx:W.findIn K (.ref a_) "__getattribute__"=some (some (.builtin "BaseException.__getattribute__")))
 (My:W.findIn K (.ref a_) "__getattr__"=some none)
 (Mw:W.findIn K (.ref a_) "__class__"=some (some (.builtin "object.__class__")))
 (MB:W.mroIn K a_ (.type "object")=some true)
 (Mz:W.mroIn K a_ (.type "BaseException")=some true)
 (Mq:W.excIn K f_ eY "ValueError.__new__"=true)
 (Ni:(W.clsIn K f_).isSome=true)
 (Nu:W.findIn K (.ref f_) "__getattribute__"=some (some (.builtin "BaseException.__getattribute__")))
 (Nv:W.findIn K (.ref f_) "__getattr__"=some none)
 (Nt:W.findIn K (.ref f_) "__class__"=some (some (.builtin "object.__class__")))
 (Ny:W.mroIn K f_ (.type "object")=some true)
 (Nw:W.mroIn K f_ (.type "BaseException")=some true)
 (Mr:W.excIn K g_ eY "ValueError.__new__"=true)
 (Np:(W.clsIn K g_).isSome=true)
 (NA:W.findIn K (.ref g_) "__getattribute__"=some (some (.builtin "BaseException.__getattribute__")))
 (NB:W.findIn K (.ref g_) "__getattr__"=some none)
 (Nz:W.findIn K (.ref g_) "__class__"=some (some (.builtin "object.__class__")))
 (ND:W.mroIn K g_ (.type "object")=some true)
 (NC:W.mroIn K g_ (.type "BaseException")=some true)
 (v_:W.excIn K b_ eY "ValueError.__new__"=true)
 (MC:(W.clsIn K b_).isSome=true)
 (MQ:W.findIn K (.ref b_) "__getattribute__"=some (some (.builtin "BaseException.__getattribute__")))
 (MR:W.findIn K (.ref b_) "__getattr__"=some none)
 (MP:W.findIn K (.ref b_) "__class__"=some (some (.builtin "object.__class__")))
 (MV:W.mroIn K b_ (.type "object")=some true)
 (MU:W.mroIn K b_ (.type "BaseException")=some true)
 (Em:W.excIn K c_ eY "ValueError.__new__"=true)
 (M6:(W.clsIn K c_).isSome=true)
 (M_:W.findIn K (.ref c_) "__getattribute__"=some (some (.builtin "BaseException.__getattribute__")))
 (Na:W.findIn K (.ref c_) "__getattr__"=some none)
 (M9:W.findIn K (.ref c_) "__class__"=some (some (.builtin "object.__class__")))
 (Nc:W.mroIn K c_ (.type "object")=some true)
 (Nb:W.mroIn K c_ (.type "BaseException")=some true)
 (H_:W.excIn K e_ eY "ValueError.__new__"=true)
 (M8:(W.clsIn K e_).isSome=true)
 (Nk:W.findIn K (.ref e_) "__getattribute__"=some (some (.builtin "BaseException.__getattribute__")))
 (Nl:W.findIn K (.ref e_) "__getattr__"=some none)
 (Nj:W.findIn K (.ref e_) "__class__"=some (some (.builtin "object.__class__")))
 (Nn:W.mroIn K e_ (.type "object")=some true)
 (Nm:W.mroIn K e_ (.type "BaseException")=some true)
 (i0:W.kitOne K (.type "NoneType") (.type "bool")=some false)
 (i1:W.kitOne K (.type "bool") (.type "bool")=some true)
 (i2:W.kitOne K (.type "int") (.type "bool")=some false)
 (i3:W.kitOne K (.type "str") (.type "bool")=some false)
 (i4:W.kitOne K (.type "tuple") (.type "bool")=some false)
 (i5:W.kitOne K (.type "list") (.type "bool")=some false)
 (i6:W.kitOne K (.type "dict") (.type "bool")=some false)
 (i7:W.kitOne K (.type "NoneType") (.type "int")=some false)
 (i8:W.kitOne K (.type "bool") (.type "int")=some true)
 (i9:W.kitOne K (.type "int") (.type "int")=some true)
 (NG:W.kitOne K (.type "str") (.type "int")=some false)
 (NH:W.kitOne K (.type "tuple") (.type "int")=some false)
 (i12:W.kitOne K (.type "list") (.type "int")=some false)
 (NI:W.kitOne K (.type "dict") (.type "int")=some false)
 (NJ:W.kitOne K (.type "NoneType") (.type "list")=some false)
 (NK:W.kitOne K (.type "bool") (.type "list")=some false)
 (NL:W.kitOne K (.type "int") (.type "list")=some false)
 (NM:W.kitOne K (.type "str") (.type "list")=some false)
 (NN:W.kitOne K (.type "tuple") (.type "list")=some false)
 (NO:W.kitOne K (.type "list") (.type "list")=some true)
 (NP:W.kitOne K (.type "dict") (.type "list")=some false)
 (NQ:W.kitOne K (.type "NoneType") (.type "str")=some false)
 (NR:W.kitOne K (.type "bool") (.type "str")=some false)
 (NS:W.kitOne K (.type "int") (.type "str")=some false)
 (NT:W.kitOne K (.type "str") (.type "str")=some true)
 (NU:W.kitOne K (.type "tuple") (.type "str")=some false)
 (NV:W.kitOne K (.type "list") (.type "str")=some false)
 (NW:W.kitOne K (.type "dict") (.type "str")=some false)
 (NX:W.kitOne K (.type "NoneType") (.type "tuple")=some false)
 (NY:W.kitOne K (.type "bool") (.type "tuple")=some false)
 (NZ:W.kitOne K (.type "int") (.type "tuple")=some false)
 (N0:W.kitOne K (.type "str") (.type "tuple")=some false)
 (N1:W.kitOne K (.type "tuple") (.type "tuple")=some true)
 (N2:W.kitOne K (.type "list") (.type "tuple")=some false)
 (N3:W.kitOne K (.type "dict") (.type "tuple")=some false)
 : Txt K mg a_ f_ g_ b_ c_ e_:=by
 have mNoBox:=QE X G Mo
 have mNoFraction:=QE X G w_
 have mNoTree:=QE X G G_
 have mNoWay:=QE X G Mp
 have mNoWeights:=QE X G u_
 have mTooMany:=QE X G D_
 exact {
 s_:=s_,
 Mo:=mNoBox,
 w_:=mNoFraction,
 G_:=mNoTree,
 Mp:=mNoWay,
 u_:=mNoWeights,
 D_:=mTooMany,
 MN:=MN,
 C_:=OX X G C_,
 M0:=OX X G M0,
 MW:=OX X G MW,
 M3:=OX X G M3,
 h_:=OX X G h_,
 k_:=OX X G k_,
 K_:=OX X G K_,
 Nf:=OX X G Nf,
 M4:=OX X G M4,
 t_:=OX X G t_,
 Ng:=OX X G Ng,
 Nh:=OX X G Nh,
 I_:=OX X G I_,
 r_:=OX X G r_,
 M5:=OX X G M5,
 x_:=x_,
 Mq:=Mq,
 Mr:=Mr,
 v_:=v_,
 Em:=Em,
 H_:=H_,
 kits:=(aG i0 rfl rfl bg
  (aG i1 rfl rfl bg
  (aG i2 rfl rfl bg
  (aG i3 rfl rfl bg
  (aG i4 rfl rfl bg
  (aG i5 rfl rfl bg
  (aG i6 rfl rfl bg
  (aG i7 rfl rfl bg
  (aG i8 rfl rfl bg
  (aG i9 rfl rfl bg
  (aG NG rfl rfl bg
  (aG NH rfl rfl bg
  (aG i12 rfl rfl bg
  (aG NI rfl rfl bg
  (aG NJ rfl rfl bg
  (aG NK rfl rfl bg
  (aG NL rfl rfl bg
  (aG NM rfl rfl bg
  (aG NN rfl rfl bg
  (aG NO rfl rfl bg
  (aG NP rfl rfl bg
  (aG NQ rfl rfl bg
  (aG NR rfl rfl bg
  (aG NS rfl rfl bg
  (aG NT rfl rfl bg
  (aG NU rfl rfl bg
  (aG NV rfl rfl bg
  (aG NW rfl rfl bg
  (aG NX rfl rfl bg
  (aG NY rfl rfl bg
  (aG NZ rfl rfl bg
  (aG N0 rfl rfl bg
  (aG N1 rfl rfl bg
  (aG N2 rfl rfl bg
  (aG N3 rfl rfl bg
  Bq)))))))))))))))))))))))))))))))))))
 }
end KK
namespace PySem.W.Fast
def tw10081461813006995477:=()
def tw10170757720635186743:=()
def tw10178773856279095239:=()
def tw10204173581346659918:=()
def tw10229250510982758322:=()
def tw10284087384654539364:=()
def tw10323533646214484291:=()
def tw1055449225062902608:=()
def tw10591748956540216937:=()
def tw10607852603242670033:=()
def tw10658114328832713665:=()
def tw1068668916720087038:=()
def tw10699238347153444431:=()
def tw10779069188006889493:=()
def tw10798275151126883816:=()
def tw10819314183903375000:=()
def tw10850974696683626786:=()
def tw10868146150000970761:=()
def tw10876482531201329493:=()
def tw11037441314546916742:=()
def tw11107604687005562243:=()
def tw11116077424803995711:=()
def tw11151210890615631631:=()
def tw11216000926871770378:=()
def tw11222594946321079898:=()
def tw11279282394010572105:=()
def tw11344054359975509897:=()
def tw11350929203696183439:=()
def tw1142494296499476922:=()
def tw11445260270518339797:=()
def tw11481756370971259976:=()
def tw11545811379475447858:=()
def tw11562132018218466883:=()
def tw11592252555218578688:=()
def tw11606777027720391008:=()
def tw11610423407749661345:=()
def tw11660876914857205335:=()
def tw11717649331380694752:=()
def tw11738617579043012775:=()
def tw11778063991679217904:=()
def tw11838244714497733694:=()
def tw11881604523856038631:=()
def tw11943216581359278496:=()
def tw11959533091880475615:=()
def tw11991412508767066006:=()
def tw12029296153746993323:=()
def tw1208314725162456436:=()
def tw12086625234368314993:=()
def tw12169013812022491917:=()
def tw12171660623915092607:=()
def tw12212508210959538625:=()
def tw12345314619293197387:=()
def tw12388049140174926169:=()
def tw12487611336099627574:=()
def tw12518889827933413336:=()
def tw12520604437315743113:=()
def tw12592622473468022330:=()
def tw12649244122792635348:=()
def tw12661588806892823530:=()
def tw12758669017960646676:=()
def tw12818514774582581583:=()
def tw12902462865734521384:=()
def tw12928444607422337009:=()
def tw12930217139618291024:=()
def tw13112337131845846239:=()
def tw13120870190874163524:=()
def tw13191910320652832281:=()
def tw13217314122897957305:=()
def tw13219306963215351203:=()
def tw1330521448237985710:=()
def tw13314438727597686862:=()
def tw13321017215636459063:=()
def tw13322298549108696522:=()
def tw13439524756520481733:=()
def tw13447238295106798306:=()
def tw13557589972825636971:=()
def tw13651637764541192979:=()
def tw1368558202864339540:=()
def tw13757985809646042246:=()
def tw13767826539086712034:=()
def tw13793638002360301024:=()
def tw13843276958117575882:=()
def tw14027189769225763920:=()
def tw14037926326438380915:=()
def tw14062851275733044420:=()
def tw14165224445777381709:=()
def tw14230183270121525144:=()
def tw14247322743001200872:=()
def tw14248138658581108320:=()
def tw1430309305670329198:=()
def tw14314274559135125968:=()
def tw14346758412038331447:=()
def tw14403109268552985415:=()
def tw14441427903063116836:=()
def tw14661627836862384208:=()
def tw1472317266653541648:=()
def tw14732030503925661468:=()
def tw14737682883421690190:=()
def tw1486720522281562051:=()
def tw14894963475922427083:=()
def tw14904274178810845074:=()
def tw1492895870854444054:=()
def tw1493262087546775716:=()
def tw14993298827039383324:=()
def tw15150629331935294625:=()
def tw15263445623967033445:=()
def tw15316987577414317283:=()
def tw15340007610764062289:=()
def tw15354627108070540859:=()
def tw15359813824465153909:=()
def tw15453148754785563010:=()
def tw15526318005271837334:=()
def tw15547354210674604217:=()
def tw15555181417422672267:=()
def tw15590428914461901419:=()
def tw15598087173064788574:=()
def tw15621597390274480161:=()
def tw15642404275712821053:=()
def tw15702192100649324976:=()
def tw15709229885518665917:=()
def tw15711538843000895817:=()
def tw15807283028618268556:=()
def tw15873212651320016539:=()
def tw15951166522968465046:=()
def tw16159963489675081873:=()
def tw16176283856134159699:=()
def tw16282372234232804865:=()
def tw1638579935373008049:=()
def tw16389079557860718793:=()
def tw16413711517676581961:=()
def tw16544932197740083864:=()
def tw16557140543406213656:=()
def tw16658114746031615864:=()
def tw16692283497754260510:=()
def tw16844673770670266776:=()
def tw16863986405555876698:=()
def tw16902729184179577973:=()
def tw16919188358559857086:=()
def tw16955137380003938600:=()
def tw17041324319365604856:=()
def tw17311353435560210178:=()
def tw17330946818229466262:=()
def tw17458075998279139081:=()
def tw17518056832552138987:=()
def tw17584678513734014223:=()
def tw17604026530876088918:=()
def tw17605592017283274337:=()
def tw1764206484530125900:=()
def tw17645813832376603988:=()
def tw17780864664908302232:=()
def tw17824287106174074697:=()
def tw17852990205191805583:=()
def tw17913742186239083720:=()
def tw17942908326621195273:=()
def tw17981448382167727924:=()
def tw18029776138092430243:=()
def tw18056454996096699431:=()
def tw18071149379608940706:=()
def tw18214565158304294272:=()
def tw18231900697300781295:=()
def tw18279623653753695247:=()
def tw18342811505193389517:=()
def tw18344909434963624085:=()
def tw18348528128106727154:=()
def tw18365764769439274197:=()
def tw18378364726858226869:=()
def tw1854246364018287589:=()
def tw1880461304467402325:=()
def tw2089772704935735667:=()
def tw2134343155726664874:=()
def tw2162302058475029459:=()
def tw2202753664925145519:=()
def tw22143837510505380:=()
def tw2240411369054877801:=()
def tw2292566395583881128:=()
def tw2298138114420150762:=()
def tw2387987529781950432:=()
def tw2394215004200316351:=()
def tw2403026204776295224:=()
def tw2424759835001300960:=()
def tw2435736565237465148:=()
def tw2507645336300115581:=()
def tw2594859211270924955:=()
def tw2640907212854418308:=()
def tw2654094974928553045:=()
def tw2671576166560791372:=()
def tw2678505075203981592:=()
def tw2681289209612994389:=()
def tw2815592564078658490:=()
def tw2876928146990011215:=()
def tw2934228314483474825:=()
def tw2955514696470063940:=()
def tw2982750707129693736:=()
def tw3006074350989030971:=()
def tw301026939638270704:=()
def tw3019112086718723359:=()
def tw3041554162140350332:=()
def tw3071375416973985611:=()
def tw3120219965836308581:=()
def tw323387903959653766:=()
def tw3258432457160440948:=()
def tw3269758099235835335:=()
def tw3416402453693514459:=()
def tw3453530811506330769:=()
def tw3532066766128955745:=()
def tw3536590065888709047:=()
def tw3650837274792411943:=()
def tw38036727851373422:=()
def tw3872312919763964621:=()
def tw3905353451037261889:=()
def tw3930324770263588542:=()
def tw408979660666113770:=()
def tw4096154211244182020:=()
def tw4156000882064025756:=()
def tw4207594890801091400:=()
def tw4219964723164188767:=()
def tw4268848571707255979:=()
def tw4295038215433578386:=()
def tw4399696433098915823:=()
def tw4425260959854033646:=()
def tw4580830868695497486:=()
def tw4607287743812326808:=()
def tw4641395198413231986:=()
def tw4683741305909781972:=()
def tw4687262940875370427:=()
def tw4753567835824406610:=()
def tw4839994040249962632:=()
def tw4868365808457024006:=()
def tw4878714063379692725:=()
def tw4911300706988703892:=()
def tw4915666138970315505:=()
def tw4940817400910259289:=()
def tw5014618557735801564:=()
def tw5056609453575027919:=()
def tw5083990635690462700:=()
def tw5158916954133904001:=()
def tw5201056041257245884:=()
def tw5335068682075837194:=()
def tw5489942206709600352:=()
def tw5507605289005970101:=()
def tw5508733290496203588:=()
def tw5588344522269230054:=()
def tw5751914511992833851:=()
def tw5910321964471363183:=()
def tw6032424464285228318:=()
def tw6110760829759050628:=()
def tw6289062782568374361:=()
def tw6290997061037863072:=()
def tw6402423652102124938:=()
def tw6431194719618325990:=()
def tw6464726592051428525:=()
def tw6538675135417351737:=()
def tw6614805083182571838:=()
def tw6631093057695936416:=()
def tw6696154905109551991:=()
def tw6710455077722641841:=()
def tw6797518940683814607:=()
def tw6826153443981025127:=()
def tw6837965237302099567:=()
def tw6885102647270462041:=()
def tw6983160487339619239:=()
def tw7099902419522318798:=()
def tw710543258052545743:=()
def tw7182786330438966117:=()
def tw7250085888235970770:=()
def tw7256491296553369975:=()
def tw725833008680438672:=()
def tw727174120814948099:=()
def tw7292508182101593417:=()
def tw7323904745788754024:=()
def tw7367487586398456661:=()
def tw7419207813182410839:=()
def tw7560105757208932353:=()
def tw7574622411127760466:=()
def tw7617253310749505146:=()
def tw7647075062500678506:=()
def tw7884924298214237056:=()
def tw7913247301294309335:=()
def tw8008706393168926801:=()
def tw8013915219127298829:=()
def tw8226105414742174780:=()
def tw829134737151150543:=()
def tw8451028584420516383:=()
def tw8540174849007460014:=()
def tw8585919687492054884:=()
def tw8666276439885245658:=()
def tw8712161434954196650:=()
def tw8730746637558940434:=()
def tw8752207787577972073:=()
def tw8754752802318942576:=()
def tw8754761173276897612:=()
def tw8807409351007681372:=()
def tw8827026601990221003:=()
def tw8844377324128503066:=()
def tw9099032914578937809:=()
def tw9099247708247105483:=()
def tw9120040383612607721:=()
def tw9155371777614307492:=()
def tw9157040156466553942:=()
def tw9231079961442585881:=()
def tw9328499593885226219:=()
def tw9340069603064537645:=()
def tw9391466398977555501:=()
def tw940114174957864475:=()
def tw941348675409676:=()
def tw9425304764443662785:=()
def tw9456946584053160361:=()
def tw9469391599257245015:=()
def tw9511950534466048374:=()
def tw954139968379784984:=()
def tw9551845529128482304:=()
def tw964737371871683946:=()
def tw9701722598017273748:=()
def tw9752623861313257284:=()
def tw9762736049392984425:=()
def tw9874336350445581790:=()
def tw9907029761974378892:=()
def tw9966857946157947624:=()
end PySem.W.Fast
open PySem PySem.W PyProof.Rows L2 L3 KK
set_option maxRecDepth 100000 in
set_option maxHeartbeats 0 in
theorem PySem.Challenge.cw_weightrooms_k12_boxes_by_trees_holds : PySem.Challenge.rw_weightrooms_k12_boxes_by_trees.Holds := by
 w_on;o_law;k_head;(case hw=>w_witness2)
 k_fill
 refine L2.walk_lawD (l:=PySem.Challenge.rw_weightrooms_k12_boxes_by_trees) (x:="_law_script") (k:=89) rfl rfl ⟨rfl,by decide,by decide⟩ (λw h Y=>W.kIn_of Y) ?F ?D
 case F=>
  intro w mg h KX G base kb nb
  have TT:=by
   refine' Hz KX G ?Mo ?w_ ?G_ ?Mp ?u_ ?D_ ?C_ ?M0 ?MW ?M3 ?h_ ?k_ ?K_ ?Nf ?M4 ?t_ ?Ng ?Nh ?I_ ?r_ ?M5 ?s_ ?MN ?N5 ?N6 ?x_ ?Mu ?Mx ?My ?Mw ?MB ?Mz ?Mq ?Ni ?Nu ?Nv ?Nt ?Ny ?Nw ?Mr ?Np ?NA ?NB ?Nz ?ND ?NC ?v_ ?MC ?MQ ?MR ?MP ?MV ?MU ?Em ?M6 ?M_ ?Na ?M9 ?Nc ?Nb ?H_ ?M8 ?Nk ?Nl ?Nj ?Nn ?Nm ?i0 ?i1 ?i2 ?i3 ?i4 ?i5 ?i6 ?i7 ?i8 ?i9 ?NG ?NH ?i12 ?NI ?NJ ?NK ?NL ?NM ?NN ?NO ?NP ?NQ ?NR ?NS ?NT ?NU ?NV ?NW ?NX ?NY ?NZ ?N0 ?N1 ?N2 ?N3
   (case Mo=>k_is)
   (case w_=>k_is)
   (case G_=>k_is)
   (case Mp=>k_is)
   (case u_=>k_is)
   (case D_=>k_is)
   (case C_=>k_is)
   (case M0=>k_is)
   (case MW=>k_is)
   (case M3=>k_is)
   (case h_=>k_is)
   (case k_=>k_is)
   (case K_=>k_is)
   (case Nf=>k_is)
   (case M4=>k_is)
   (case t_=>k_is)
   (case Ng=>k_is)
   (case Nh=>k_is)
   (case I_=>k_is)
   (case r_=>k_is)
   (case M5=>k_is)
   (case s_=>exact (by refine' Hl KX G ?a;(case a=>k_is)))
   (case MN=>exact (by refine' Ic (vs:=[.str "across",.str "down"]) (ds:=[.str "across",.str "down"]) KX G ?a ?l ?s ?v ?r;(case a=>k_is);(case l=>k_is);(case s=>decide);(case v=>exact (.cons ⟨_,rfl⟩ (.cons ⟨_,rfl⟩ .nil)));(case r=>exact λ_ _=>(.cons (.str _) (.cons (.str _) .nil)))))
   (case N5=>k_is)
   (case N6=>k_is)
   (case x_=>k_exc)
   (case Mu=>exact OL.mpr ⟨_,by k_is⟩)
   (case Mx=>k_is)
   (case My=>k_is)
   (case Mw=>k_is)
   (case MB=>k_is)
   (case Mz=>k_is)
   (case Mq=>k_exc)
   (case Ni=>exact OL.mpr ⟨_,by k_is⟩)
   (case Nu=>k_is)
   (case Nv=>k_is)
   (case Nt=>k_is)
   (case Ny=>k_is)
   (case Nw=>k_is)
   (case Mr=>k_exc)
   (case Np=>exact OL.mpr ⟨_,by k_is⟩)
   (case NA=>k_is)
   (case NB=>k_is)
   (case Nz=>k_is)
   (case ND=>k_is)
   (case NC=>k_is)
   (case v_=>k_exc)
   (case MC=>exact OL.mpr ⟨_,by k_is⟩)
   (case MQ=>k_is)
   (case MR=>k_is)
   (case MP=>k_is)
   (case MV=>k_is)
   (case MU=>k_is)
   (case Em=>k_exc)
   (case M6=>exact OL.mpr ⟨_,by k_is⟩)
   (case M_=>k_is)
   (case Na=>k_is)
   (case M9=>k_is)
   (case Nc=>k_is)
   (case Nb=>k_is)
   (case H_=>k_exc)
   (case M8=>exact OL.mpr ⟨_,by k_is⟩)
   (case Nk=>k_is)
   (case Nl=>k_is)
   (case Nj=>k_is)
   (case Nn=>k_is)
   (case Nm=>k_is)
   (case i0=>kit_is)
   (case i1=>kit_is)
   (case i2=>kit_is)
   (case i3=>kit_is)
   (case i4=>kit_is)
   (case i5=>kit_is)
   (case i6=>kit_is)
   (case i7=>kit_is)
   (case i8=>kit_is)
   (case i9=>kit_is)
   (case NG=>kit_is)
   (case NH=>kit_is)
   (case i12=>kit_is)
   (case NI=>kit_is)
   (case NJ=>kit_is)
   (case NK=>kit_is)
   (case NL=>kit_is)
   (case NM=>kit_is)
   (case NN=>kit_is)
   (case NO=>kit_is)
   (case NP=>kit_is)
   (case NQ=>kit_is)
   (case NR=>kit_is)
   (case NS=>kit_is)
   (case NT=>kit_is)
   (case NU=>kit_is)
   (case NV=>kit_is)
   (case NW=>kit_is)
   (case NX=>kit_is)
   (case NY=>kit_is)
   (case NZ=>kit_is)
   (case N0=>kit_is)
   (case N1=>kit_is)
   (case N2=>kit_is)
   (case N3=>kit_is)
  have D_law_feed:=by
   refine' aS (x:="_law_feed") (st:=kq) KX G ?a ?l ?c ?k
   (case a=>k_is);(case l=>k_is);(case c=>k_is);(case k=>k_is)
  have D_law_next:=by
   refine' aS (x:="_law_next") (st:=kC) KX G ?a ?l ?c ?k
   (case a=>k_is);(case l=>k_is);(case c=>k_is);(case k=>k_is)
  have D_law_low:=by
   refine' aS (x:="_law_low") (st:=lZ) KX G ?a ?l ?c ?k
   (case a=>k_is);(case l=>k_is);(case c=>k_is);(case k=>k_is)
  have D_law_great:=by
   refine' aS (x:="_law_great") (st:=jG) KX G ?a ?l ?c ?k
   (case a=>k_is);(case l=>k_is);(case c=>k_is);(case k=>k_is)
  have D_law_room:=by
   refine' aS (x:="_law_room") (st:=lg) KX G ?a ?l ?c ?k
   (case a=>k_is);(case l=>k_is);(case c=>k_is);(case k=>k_is)
  have D_law_weights:=by
   refine' aS (x:="_law_weights") (st:=iD) KX G ?a ?l ?c ?k
   (case a=>k_is);(case l=>k_is);(case c=>k_is);(case k=>k_is)
  have D_law_order:=by
   refine' aS (x:="_law_order") (st:=j3) KX G ?a ?l ?c ?k
   (case a=>k_is);(case l=>k_is);(case c=>k_is);(case k=>k_is)
  have D_law_tree:=by
   refine' aS (x:="_law_tree") (st:=fj) KX G ?a ?l ?c ?k
   (case a=>k_is);(case l=>k_is);(case c=>k_is);(case k=>k_is)
  have D_law_chain:=by
   refine' aS (x:="_law_chain") (st:=j0) KX G ?a ?l ?c ?k
   (case a=>k_is);(case l=>k_is);(case c=>k_is);(case k=>k_is)
  have D_law_leaves:=by
   refine' aS (x:="_law_leaves") (st:=eQ) KX G ?a ?l ?c ?k
   (case a=>k_is);(case l=>k_is);(case c=>k_is);(case k=>k_is)
  have D_law_add:=by
   refine' aS (x:="_law_add") (st:=lT) KX G ?a ?l ?c ?k
   (case a=>k_is);(case l=>k_is);(case c=>k_is);(case k=>k_is)
  have D_law_parts:=by
   refine' aS (x:="_law_parts") (st:=jR) KX G ?a ?l ?c ?k
   (case a=>k_is);(case l=>k_is);(case c=>k_is);(case k=>k_is)
  have D_law_lay:=by
   refine' aS (x:="_law_lay") (st:=ia) KX G ?a ?l ?c ?k
   (case a=>k_is);(case l=>k_is);(case c=>k_is);(case k=>k_is)
  have D_is_whole:=by
   refine' aS (x:="is_whole") (st:=kF) KX G ?a ?l ?c ?k
   (case a=>k_is);(case l=>k_is);(case c=>k_is);(case k=>k_is)
  have D_common_divisor:=by
   refine' aS (x:="common_divisor") (st:=fQ) KX G ?a ?l ?c ?k
   (case a=>k_is);(case l=>k_is);(case c=>k_is);(case k=>k_is)
  have D_is_fraction:=by
   refine' aS (x:="is_fraction") (st:=iA) KX G ?a ?l ?c ?k
   (case a=>k_is);(case l=>k_is);(case c=>k_is);(case k=>k_is)
  have D_is_box:=by
   refine' aS (x:="is_box") (st:=kz) KX G ?a ?l ?c ?k
   (case a=>k_is);(case l=>k_is);(case c=>k_is);(case k=>k_is)
  have D_check_box:=by
   refine' aS (x:="check_box") (st:=jE) KX G ?a ?l ?c ?k
   (case a=>k_is);(case l=>k_is);(case c=>k_is);(case k=>k_is)
  have D_is_weight:=by
   refine' aS (x:="is_weight") (st:=jW) KX G ?a ?l ?c ?k
   (case a=>k_is);(case l=>k_is);(case c=>k_is);(case k=>k_is)
  have D_check_weights:=by
   refine' aS (x:="check_weights") (st:=eL) KX G ?a ?l ?c ?k
   (case a=>k_is);(case l=>k_is);(case c=>k_is);(case k=>k_is)
  have D_is_way:=by
   refine' aS (x:="is_way") (st:=nM) KX G ?a ?l ?c ?k
   (case a=>k_is);(case l=>k_is);(case c=>k_is);(case k=>k_is)
  have D_is_branch:=by
   refine' aS (x:="is_branch") (st:=jO) KX G ?a ?l ?c ?k
   (case a=>k_is);(case l=>k_is);(case c=>k_is);(case k=>k_is)
  have D_is_tree:=by
   refine' aS (x:="is_tree") (st:=lW) KX G ?a ?l ?c ?k
   (case a=>k_is);(case l=>k_is);(case c=>k_is);(case k=>k_is)
  have D_check_tree:=by
   refine' aS (x:="check_tree") (st:=jj) KX G ?a ?l ?c ?k
   (case a=>k_is);(case l=>k_is);(case c=>k_is);(case k=>k_is)
  have D_check_way:=by
   refine' aS (x:="check_way") (st:=jK) KX G ?a ?l ?c ?k
   (case a=>k_is);(case l=>k_is);(case c=>k_is);(case k=>k_is)
  have D_fraction:=by
   refine' aS (x:="fraction") (st:=lq) KX G ?a ?l ?c ?k
   (case a=>k_is);(case l=>k_is);(case c=>k_is);(case k=>k_is)
  have D_added:=by
   refine' aS (x:="added") (st:=qp) KX G ?a ?l ?c ?k
   (case a=>k_is);(case l=>k_is);(case c=>k_is);(case k=>k_is)
  have D_times:=by
   refine' aS (x:="times") (st:=pL) KX G ?a ?l ?c ?k
   (case a=>k_is);(case l=>k_is);(case c=>k_is);(case k=>k_is)
  have D_shares:=by
   refine' aS (x:="shares") (st:=nA) KX G ?a ?l ?c ?k
   (case a=>k_is);(case l=>k_is);(case c=>k_is);(case k=>k_is)
  have D_parted:=by
   refine' aS (x:="parted") (st:=jf) KX G ?a ?l ?c ?k
   (case a=>k_is);(case l=>k_is);(case c=>k_is);(case k=>k_is)
  have D_things_in:=by
   refine' aS (x:="things_in") (st:=jV) KX G ?a ?l ?c ?k
   (case a=>k_is);(case l=>k_is);(case c=>k_is);(case k=>k_is)
  have D_parts_of:=by
   refine' aS (x:="parts_of") (st:=iL) KX G ?a ?l ?c ?k
   (case a=>k_is);(case l=>k_is);(case c=>k_is);(case k=>k_is)
  have D_place:=by
   refine' aS (x:="place") (st:=mq) KX G ?a ?l ?c ?k
   (case a=>k_is);(case l=>k_is);(case c=>k_is);(case k=>k_is)
  have D_boxes_by:=by
   refine' aS (x:="boxes_by") (st:=iO) KX G ?a ?l ?c ?k
   (case a=>k_is);(case l=>k_is);(case c=>k_is);(case k=>k_is)
  have D_law:=by
   refine' aS (x:="law") (st:=ox) KX G ?a ?l ?c ?k
   (case a=>k_is);(case l=>k_is);(case c=>k_is);(case k=>k_is)
  have y_:=uq (P:=PySem.Challenge.rw_weightrooms_k12_boxes_by_trees.prog) (w:=w) (base:=base) TT D_law_feed
  have d_:=uR (P:=PySem.Challenge.rw_weightrooms_k12_boxes_by_trees.prog) (w:=w) (base:=base) TT D_law_next
  have i_:=vf (P:=PySem.Challenge.rw_weightrooms_k12_boxes_by_trees.prog) (w:=w) (base:=base) TT D_law_low
  have j_:=rJ (P:=PySem.Challenge.rw_weightrooms_k12_boxes_by_trees.prog) (w:=w) (base:=base) TT D_law_great d_
  have MY:=ud (P:=PySem.Challenge.rw_weightrooms_k12_boxes_by_trees.prog) (w:=w) (base:=base) TT D_law_room d_ i_ j_
  have Mn:=oH (P:=PySem.Challenge.rw_weightrooms_k12_boxes_by_trees.prog) (w:=w) (base:=base) TT D_law_weights y_ d_ j_
  have MK:=rG (P:=PySem.Challenge.rw_weightrooms_k12_boxes_by_trees.prog) (w:=w) (base:=base) TT D_law_order d_
  have E_:=lA (P:=PySem.Challenge.rw_weightrooms_k12_boxes_by_trees.prog) (w:=w) (base:=base) TT D_law_tree d_ 42
  have MJ:=rA (P:=PySem.Challenge.rw_weightrooms_k12_boxes_by_trees.prog) (w:=w) (base:=base) TT D_law_chain d_
  have o_:=ju (P:=PySem.Challenge.rw_weightrooms_k12_boxes_by_trees.prog) (w:=w) (base:=base) TT D_law_leaves 42
  have Mv:=vc (P:=PySem.Challenge.rw_weightrooms_k12_boxes_by_trees.prog) (w:=w) (base:=base) TT D_law_add i_
  have A_:=rN (P:=PySem.Challenge.rw_weightrooms_k12_boxes_by_trees.prog) (w:=w) (base:=base) TT D_law_parts Mv i_
  have J_:=lQ (P:=PySem.Challenge.rw_weightrooms_k12_boxes_by_trees.prog) (w:=w) (base:=base) TT D_law_lay o_ A_ 42
  have n_:=uG (P:=PySem.Challenge.rw_weightrooms_k12_boxes_by_trees.prog) (w:=w) (base:=base) TT D_is_whole
  have l_:=lR (P:=PySem.Challenge.rw_weightrooms_k12_boxes_by_trees.prog) (w:=w) (base:=base) TT D_common_divisor
  have L_:=nY (P:=PySem.Challenge.rw_weightrooms_k12_boxes_by_trees.prog) (w:=w) (base:=base) TT D_is_fraction n_ l_
  have Nq:=xu (P:=PySem.Challenge.rw_weightrooms_k12_boxes_by_trees.prog) (w:=w) (base:=base) TT D_is_box L_
  have z_:=rB (P:=PySem.Challenge.rw_weightrooms_k12_boxes_by_trees.prog) (w:=w) (base:=base) TT D_check_box Nq
  have MH:=rE (P:=PySem.Challenge.rw_weightrooms_k12_boxes_by_trees.prog) (w:=w) (base:=base) TT D_is_weight n_
  have p_:=mP (P:=PySem.Challenge.rw_weightrooms_k12_boxes_by_trees.prog) (w:=w) (base:=base) TT D_check_weights MH
  have F_:=wx (P:=PySem.Challenge.rw_weightrooms_k12_boxes_by_trees.prog) (w:=w) (base:=base) TT D_is_way
  have MF:=rH (P:=PySem.Challenge.rw_weightrooms_k12_boxes_by_trees.prog) (w:=w) (base:=base) TT D_is_branch F_
  have M7:=vo (P:=PySem.Challenge.rw_weightrooms_k12_boxes_by_trees.prog) (w:=w) (base:=base) TT D_is_tree MF n_
  have Ms:=pH (P:=PySem.Challenge.rw_weightrooms_k12_boxes_by_trees.prog) (w:=w) (base:=base) TT D_check_tree M7
  have MD:=rL (P:=PySem.Challenge.rw_weightrooms_k12_boxes_by_trees.prog) (w:=w) (base:=base) TT D_check_way F_
  have m_:=tq (P:=PySem.Challenge.rw_weightrooms_k12_boxes_by_trees.prog) (w:=w) (base:=base) TT D_fraction l_
  have NF:=yF (P:=PySem.Challenge.rw_weightrooms_k12_boxes_by_trees.prog) (w:=w) (base:=base) TT D_added m_
  have Nd:=ym (P:=PySem.Challenge.rw_weightrooms_k12_boxes_by_trees.prog) (w:=w) (base:=base) TT D_times m_
  have MZ:=xQ (P:=PySem.Challenge.rw_weightrooms_k12_boxes_by_trees.prog) (w:=w) (base:=base) TT D_shares NF Nd m_
  have Nr:=wV (P:=PySem.Challenge.rw_weightrooms_k12_boxes_by_trees.prog) (w:=w) (base:=base) TT D_parted z_ MD p_ MZ
  have ML:=rM (P:=PySem.Challenge.rw_weightrooms_k12_boxes_by_trees.prog) (w:=w) (base:=base) TT D_things_in
  have B_:=uY (P:=PySem.Challenge.rw_weightrooms_k12_boxes_by_trees.prog) (w:=w) (base:=base) TT D_parts_of Nr ML
  have MM:=oP (P:=PySem.Challenge.rw_weightrooms_k12_boxes_by_trees.prog) (w:=w) (base:=base) TT D_place B_ 42
  have MX:=tJ (P:=PySem.Challenge.rw_weightrooms_k12_boxes_by_trees.prog) (w:=w) (base:=base) TT D_boxes_by z_ p_ Ms MM
  have N4:=D1 (P:=PySem.Challenge.rw_weightrooms_k12_boxes_by_trees.prog) (w:=w) (base:=base) TT D_law y_ MY Mn d_ MK E_ MJ J_ MX
  exact Ah N4 (law3 oR rfl GN)
 case D=>
  intro w mg h KX G
  refine⟨ox,?_,(λ_ _ _ _ _ _=>ar1 λ_=>rfl)⟩
  refine' aS KX G ?a ?l ?c ?k
  (case a=>k_is);(case l=>k_is);(case c=>k_is);(case k=>k_is)
