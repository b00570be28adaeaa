import PyProof.Rows.All
import Wide.All
import OpenK.AllK
import Wide.FinOn
import Lean
import PyProof.EqAt
import PyProof.EqKinds
import PyProof.TupleCall
import PyProof.Rows.SumAny
import PyProof.EnumMake
import PyProof.Draws
import PyProof.ZipIter
import KE.KNestM
import KE.KUnpack
import KE.KxIndex
import PyProof.SetRoads
import PyProof.SetNew
import PyProof.AutoSeq1
import KE.KRevSl
import PyProof.SeqI3
import PyProof.Rows.SortWalk
import PyProof.Rows.Range3
import KE.KSortTup
import KE.KLam
import PyProof.Rows.SetFrom
import PySem.Challenge.RW_weightrooms_k19_rows_greatest_first
local macro_rules|`(tactic|trivial)=>`(tactic|first|exact Or.inl rfl|exact Or.inr rfl)
local macro_rules|`(tactic|decide)=>`(tactic|decide +kernel)
set_option genSizeOf false
set_option genInjectivity false
set_option bootstrap.genMatcherCode false
noncomputable section
set_option Elab.async false
set_option linter.all false
def j_:=@PySem.wpAny_bind
def k_:=@List.length_map
def l_:=@PySem.Heap.get?_push_of_some
def m_:=@List.mem_cons_of_mem
def n_:=@List.mem_cons_self
def o_:=@Nat.le_refl
def p_:=@List.getElem?_eq_some_iff
def r_:=@Bool.and_eq_true
def s_:=@List.map_cons
def t_:=@List.size_toArray
def u_:=@PySem.wpAny_pure
def v_:=@PySem.Heap.lt_size
def w_:=@decide_eq_false
def x_:=@Bool.false_ne_true
def y_:=@List.getElem?_eq_getElem
def z_:=@List.length_append
def A_:=@decide_eq_true
def B_:=@List.length_cons
def C_:=@PySem.Heap.get?_push_size
def D_:=@beq_eq_false_iff_ne
def Em:=@List.getD_eq_getElem?_getD
def E_:=@Nat.lt_of_lt_of_le
def F_:=@Nat.le_trans
def G_:=@Option.map_eq_some_iff
def H_:=@List.mem_cons
def I_:=@List.length_set
def J_:=@Nat.ne_of_lt
def K_:=@Option.some.inj
def L_:=@List.getElem?_append_left
def M_:=@Nat.zero_le
def N_:=@List.getElem?_map
def O8:=@List.getElem?_append_right
def O9:=@List.all_eq_true
def O_:=@List.map_nil
def Pa:=@beq_iff_eq
def Pb:=@List.mem_append_right
def Pc:=@List.length_range
def Pd:=@List.length_nil
def Pe:=@List.sum_cons
def Pf:=@List.map_append
def Pg:=@Option.bind_eq_some_iff
def Ph:=@List.nil_append
def Pj:=@PySem.wpAny_mono
def Pk:=@List.mem_range
def Pl:=@List.find?_cons
def Pm:=@Nat.mul_le_mul
def Pn:=@List.append_nil
def Pp:=@Rat.intCast_mul
def Pq:=@List.map_map
def Pt:=@List.contains_iff_mem
def Pu:=@Int.toNat_natCast
def Pw:=@List.mem_singleton
def Px:=@PySem.Heap.SameBut.update
def Py:=@Nat.lt_irrefl
def Pz:=@PySem.wpAny_field
def PC:=@List.getElem?_replicate
def PD:=@List.length_take
def PF:=@congrArg
def PH:=@List.mem_map
def PJ:=@Int.natAbs_mul
def PK:=@List.pairwise_iff_getElem
def PL:=@List.length_replicate
def PM:=@Option.isSome_iff_exists
def PN:=@decide_eq_true_iff
def PQ:=@Int.mul_assoc
def PR:=@List.any_cons
def PU:=@PySem.wpAny_holding
def PV:=@Nat.mul_le_mul_right
def PX:=@Nat.pow_le_pow_right
def PY:=@PySem.wpAny_newObj_type
def PZ:=@Array.length_toList
def P0:=@Nat.mul_le_mul_left
def P1:=@PySem.mem_of_lookup
def P2:=@List.take_of_length_le
def P4:=@List.getElem_mem
def P5:=@Nat.lt_of_le_of_lt
def P6:=@List.getElem?_eq_none_iff
def P7:=@Nat.mul_pos
def P8:=@List.mem_of_getElem?
def P9:=@List.mem_of_mem_take
def P_:=@List.append_assoc
def Qa:=@PySem.wpAny_callSpecial?_slot
def Qb:=@List.filterMap_cons
def Qc:=@List.length_reverse
def Qd:=@List.map_congr_left
def Qe:=@List.lookup_cons
def Qf:=@PySem.wpAny_seqItems
def Qg:=@Nat.pow_add
def Qh:=@Bool.false_eq_true
def Qi:=@Nat.sub_self
def Qj:=@PyProof.Rows.callWith_type1
def Qk:=@PySem.wpAny_Call_Name_kw
def Ql:=@PySem.wpAny_setField_rec
def Qm:=@Int.natCast_mul
def Qn:=@List.getElem?_zipWith
def Qo:=@List.mem_append
def Qp:=@PySem.wpAny_passesOwn
def Qq:=@PySem.F.slot_tuple_iterator_next
def Qr:=@List.reverse_cons
def Qs:=@of_decide_eq_true
def Qt:=@PySem.wpAny_truthy_bool
def Qu:=@if_true
def Qv:=@List.length_drop
def Qw:=@PySem.wpAny_call_entry
def Qx:=@List.length_zipWith
def Qy:=@decide_eq_false_iff_not
def Qz:=@List.take_nil
def QA:=@Bool.or_eq_true
def QB:=@Int.mul_ne_zero
def QC:=@List.nodup_cons
def QD:=@Nat.not_lt_zero
def QE:=@Bool.not_eq_true'
def QF:=@Int.mul_left_comm
def QG:=@decide_eq_true_eq
def QH:=@List.dropLast_eq_take
def QI:=@List.mapM_cons
def QJ:=@Nat.le_of_lt
def QK:=@Nat.ne_of_gt
def QL:=@List.any_eq_true
def QM:=@List.mem_of_mem_drop
def QN:=@List.nodup_range
def QO:=@beq_self_eq_true
def QP:=@decide_eq_decide
def QQ:=@Int.eq_of_mul_eq_mul_right
def QR:=@List.all_cons
def QS:=@List.drop_nil
def QT:=@List.map_drop
def QU:=@List.map_take
def QV:=@PyProof.Rows.listUpdate_at
def QW:=@Array.getElem?_eq_getElem
def QX:=@Classical.byContradiction
def QY:=@PyProof.Rows.get?_update_seq
def QZ:=@PySem.Calls.spliced_cons
def Q0:=@Int.mul_comm
def Q1:=@Int.mul_right_comm
def Q2:=@List.zip_cons_cons
def Q3:=@PySem.F.args_tuple_add_2
def Q4:=@if_false
def Q5:=@PySem.Heap.size_push
def Q6:=@PySem.F.entry_tuple_add
def Q7:=@List.getElem?_set
def Q8:=@List.nodup_append
def Q9:=@List.pairwise_map
def Q_:=@List.zip_nil_left
def Ra:=@PySem.Heap.get?_update_other
def Rb:=@Int.mul_pos
def Rf:=@Nat.le_mul_of_pos_left
def Rg:=@PySem.F.slot_tuple_add
def Rh:=@Rat.div_def
def Ri:=@Nat.mul_assoc
def Rj:=@PySem.wpAny_attempt
def Rl:=@PySem.wpAny_newList
def Rm:=@PySem.wpAny_standAt
def Rn:=@List.cons_append
def Ro:=@Nat.le_add_right
def Rq:=@List.length_singleton
def Rr:=@List.take_append_drop
def Ru:=@Bool.eq_iff_iff
def Rv:=@PySem.F.slot_zip_next
def Rw:=@PySem.Heap.get?_none_of_le
def Rx:=@List.getElem?_append
def Ry:=@List.getElem?_set_ne
def RC:=@List.mem_append_left
def RD:=@Nat.lt_trans
def RH:=@Rat.num_eq_zero
def RJ:=@PySem.wpAny_execs_nil
def RK:=@PySem.wpAny_loadName_local
def RL:=@PySem.wpAny_updateSeq_pair
def RN:=@List.mergeSort_perm
def RP:=@PySem.Paired.length
def RQ:=@PySem.wpAny_onRaise
set_option maxRecDepth 100000
namespace L2
open PySem PySem.Spec PyProof.Rows
abbrev _root_.Sa:=Str->Option Value
abbrev _root_.Sb:=List (Addr×Obj)
abbrev _root_.Sd:=Value->Shared->Prop
abbrev _root_.Se:=List (Option Nat)
abbrev Key:=Sum Int Str
def kG:Key->Value->Bool
 |.inl k,v=>Value.isInt k v
 |.inr x,v=>Value.isStrOf x v
noncomputable def keyH(w:World):Key->Int
 |.inl k=>hashInt k
 |.inr x=>hashStr w x
theorem bI:∀{k:Key}{v:Value},kG k v=true->(∃i t,k=Sum.inl i/\v=Value.int i t)\/(∃x t,k=Sum.inr x/\v=Value.str x t)
 |
  .inl i,v,h=>by
  obtain⟨t,e⟩:=Value.isInt_shape (k:=i) (v:=v) h;exact .inl ⟨i,t,rfl,e⟩
 |
  .inr x,v,h=>by
  obtain⟨t,e⟩:=Value.isStrOf_shape (x:=x) (v:=v) h;exact .inr ⟨x,t,rfl,e⟩
def AD(i:Int)(t:Tok):kG (.inl i) (.int i t)=true:=by simp [kG,Value.isInt]
def zG(x:Str)(t:Tok):kG (.inr x) (.str x t)=true:=by simp [kG,Value.isStrOf]
def LC(a b:Int):decide ((Sum.inl a:Key)=Sum.inl b)=(a==b):=by
 by_cases e:a=b
 .subst e;simp
 .have h:¬ (Sum.inl a:Key)=Sum.inl b:=λq=>e (Sum.inl.inj q);rw[w_ h];exact (D_.mpr e).symm
def IP(a b:Str):decide ((Sum.inr a:Key)=Sum.inr b)=decide (a=b):=by
 by_cases e:a=b
 .subst e;simp
 .have h:¬ (Sum.inr a:Key)=Sum.inr b:=λq=>e (Sum.inr.inj q);rw[w_ h,w_ e]
def HS(a:Int)(b:Str):decide ((Sum.inl a:Key)=Sum.inr b)=false:=w_ (λq=>nomatch q)
def IE(a:Str)(b:Int):decide ((Sum.inr a:Key)=Sum.inl b)=false:=w_ (λq=>nomatch q)
def bD(prog:Program)(w:World):PySem.KeyKind prog w Key where
 is:=kG
 hash:=keyH w
 inj
  := λv a b ha hb=>by
  rcases bI ha with ⟨i,t,rfl,rfl⟩ |⟨x,t,rfl,rfl⟩
  .rcases bI hb with ⟨j,u,rfl,e⟩ |⟨y,u,rfl,e⟩
   .injection e with e1 _;rw[e1]
   .exact nomatch e
  .rcases bI hb with ⟨j,u,rfl,e⟩ |⟨y,u,rfl,e⟩
   .exact nomatch e
   .injection e with e1 _;rw[e1]
 byValue:=λk v h=>by rcases bI h with ⟨i,t,rfl,rfl⟩ |⟨x,t,rfl,rfl⟩ <;> rfl
 pyHash:=λhv h=>by
  rcases bI hv with ⟨i,t,rfl,rfl⟩ |⟨x,t,rfl,rfl⟩
  .exact wpAny_pyHash_int h
  .exact wpAny_pyHash_str h
 eqBool:=λhu hv h=>by
  rcases bI hu with ⟨i,t,rfl,rfl⟩ |⟨x,t,rfl,rfl⟩
  .rcases bI hv with ⟨j,u,rfl,rfl⟩ |⟨y,u,rfl,rfl⟩
   .rw[LC] at h;exact wpAny_eqBool_int h
   .rw[HS] at h;exact SeqAt.EqAt.int_str i t y u _ _ _ _ h
  .rcases bI hv with ⟨j,u,rfl,rfl⟩ |⟨y,u,rfl,rfl⟩
   .rw[IE] at h;exact SeqAt.EqAt.str_int x t j u _ _ _ _ h
   .rw[IP] at h;exact wpAny_eqBool_str h
 «strs»:=λk x t v h=>by
  rcases bI h with ⟨i,u,rfl,e⟩ |⟨y,u,rfl,e⟩
  .exact nomatch e
  .injection e with e1 _;subst e1;cases v <;> rfl
def uP(prog:Program)(w:World)(i:Int)(t:Tok):(bD prog w).is (.inl i) (.int i t)=true:=AD i t
def uT(prog:Program)(w:World)(x:Str)(t:Tok):(bD prog w).is (.inr x) (.str x t)=true:=zG x t
inductive V where
 |non |bl (b:Bool) |int (i:Int) |str (x:Str) |byt (b:Array UInt8) |flt (b:UInt64) |ref (a:Addr) |ty (n:String)
 deriving DecidableEq
def RelV:V->Value->Prop
 |.non,u=>u=Value.none
 |.bl b,u=>u=Value.bool b
 |.int i,u=>∃t,u=Value.int i t
 |.str x,u=>∃t,u=Value.str x t
 |.byt b,u=>∃t,u=Value.bytes b t
 |.flt b,u=>∃t,u=Value.float b t
 |.ref a,u=>u=Value.ref a
 |.ty n,u=>u=Value.type n
abbrev Vals:List V->List Value->Prop:=Paired RelV
def Vals.length(r:Vals xs us):xs.length=us.length:=RP r
def Vals.get{xs:List V}{us:List Value}{i:Nat}{x:V}(r:Vals xs us)(e:xs[i]?=some x):∃u,us[i]?=some u/\RelV x u:=by
 induction r generalizing i with
 |nil=>rw[List.getElem?_nil] at e;cases e
 |
  cons r t ih=>
  cases i with
  |zero=>cases e;exact⟨_,rfl,r⟩
  |succ i=>exact ih (i:=i) e
def Vals.set(r:RelV x u)(i:Nat)(q:Vals xs us):Vals (xs.set i x) (us.set i u):=by
 induction q generalizing i with
 |nil=>exact .nil
 |
  cons q t ih=>
  cases i with
  |zero=>exact .cons r t
  |succ i=>exact .cons q (ih i)
def Vals.append(r:Vals xs us)(s:Vals ys ws):Vals (xs++ys) (us++ws):=by
 induction r with
 |nil=>exact s
 |cons r t ih=>exact .cons r ih
def Vals.take(n:Nat)(r:Vals xs us):Vals (xs.take n) (us.take n):=by
 induction r generalizing n with
 |nil=>rw[Qz,Qz];exact .nil
 |
  cons r t ih=>
  cases n with
  |zero=>exact .nil
  |succ n=>exact .cons r (ih n)
def Vals.drop(n:Nat)(r:Vals xs us):Vals (xs.drop n) (us.drop n):=by
 induction r generalizing n with
 |nil=>rw[QS,QS];exact .nil
 |
  cons r t ih=>
  cases n with
  |zero=>exact .cons r t
  |succ n=>exact ih n
def RelO:Option V->Option Value->Prop
 |some v,some u=>RelV v u
 |none,none=>True
 |_,_=>False
def KV{κ:Type}:List (κ×V)->List (κ×Value)->Prop:=Paired λ(p:κ×V) (q:κ×Value)=>p.1=q.1/\RelV p.2 q.2
noncomputable def kV:Key->V
 |.inl i=>.int i
 |.inr x=>.str x
inductive HO where
 |lst (xs:List V)
 |tup (xs:List V)
 |dK (kvs:List (Key×V)) |dT (kvs:List (List Key×V))
 |set (S:Int->Bool) (n:Nat)
 |ins (C dx:Addr) (fs:List (Str×V))
 |own (x:Addr)
 |xd (fs:List (Str×V))
 |met (f x:Addr)
 |rng (lo hi:Int)
 |frz (o:Obj) (u:HO)
 |tbl (ps:Array Value)
 |ext (φ:Heap->Prop)
abbrev Hp:=Addr->Option HO
def upd(H:Hp)(a:Addr)(o:HO):Hp:=λb=>if b=a then some o else H b
def aM:upd H a o a=some o:=by unfold upd;rw[if_pos rfl]
def ay(h:b≠a):upd H a o b=H b:=by unfold upd;rw[if_neg h]
def Nw{H:Hp}{a b:Addr}{o u:HO}(h:H a=some o)(h':H b=some u)(d:o≠u):a≠b:=by intro e;subst e;rw[h] at h';exact d (K_ h')
def aJ{H:Hp}{a b:Addr}{o:HO}(h:H a=some o)(h':H b=none):a≠b:=by intro e;subst e;rw[h] at h';cases h'
section
variable(P:Program)(w:World)
def ObjOk(H:Hp)(h:Heap)(a:Addr):HO->Prop
 |.lst xs=>xs.length<=sizeLine/\∃(its:List Value) (n:Nat),Vals xs its/\h.get? a=some { cls:=.type "list",data:=.seq its.toArray n }
 |.tup xs=>xs.length<=sizeLine/\∃its:List Value,Vals xs its/\IsTup h a its.toArray
 |.dK kvs=>kvs.length<=sizeLine/\(a==sysModules)=false/\∃vs,KV kvs vs/\h.DictOf (bD P w) a vs
 |.dT kvs=>kvs.length<=sizeLine/\(a==sysModules)=false/\∃xs:List (List Key×Addr×Value),
  Paired (λ(p:List Key×V) (q:List Key×Addr×Value)=>p.1=q.1/\H q.2.1=some (.tup (p.1.map kV))/\RelV p.2 q.2.2) kvs xs/\
  ∃o es ep,h.get? a=some o/\o.ExactDict/\o.data=.dict es ep/\es.toList=xs.map (entryOfKey (tupleKind (bD P w)))/\(xs.map (·.1)).Nodup
 |.set S n=>h.SetOf (intKind P w) a S n
 |.ins C dx fs=>H dx=some (.own a)/\fs.length<=1000/\dx≠a/\h.get? a=some (W.instObj C dx)/\
  ∃mA,h.Ns1 dx mA/\(∀f,RelO (fs.lookup f) (mA f))/\PySem.Within mA (fs.map (·.1))
 |.own _=>∃o,h.get? a=some o
 |.xd fs=>∃mA,h.Ns1 a mA/\∀f,RelO (fs.lookup f) (mA f)
 |.rng lo hi=>∃t u v,h.get? a=some { cls:=.type "range",data:=.fields #[.int lo t,.int hi u,.int 1 v] }
 |.frz o u=>h.get? a=some o/\ObjOk H h a u
 |.tbl ps=>h.get? a=some { cls:=.none,data:=.fields ps }
 |.met f x=>h.get? a=some (W.methodObj (.ref f) (.ref x))
 |.ext φ=>φ h/\(∃o,h.get? a=some o)/\∀h1 h2:Heap,φ h1->(∀o,h1.get? a=some o->h2.get? a=some o)->φ h2
def HOk(H:Hp)(h:Heap):Prop:=∀a o,H a=some o->ObjOk P w H h a o
end
section
variable{P:Program}{w:World}{H H':Hp}{h h':Heap}{a:Addr}{o:HO}
def ObjOk.lt(x:ObjOk P w H h a o):a<h.objs.size:=by
 cases o with
 |lst xs=>obtain⟨_,_,_,_,e⟩:=x;exact v_ e
 |tup xs=>obtain⟨_,_,_,p⟩:=x;exact p.lt
 |dK kvs=>obtain⟨_,_,_,_,o,_,_,e,_⟩:=x;exact v_ e
 |dT kvs=>obtain⟨_,_,_,_,o,_,_,e,_⟩:=x;exact v_ e
 |set S n=>obtain⟨o,_,_,_,e,_⟩:=x;exact v_ e
 |ins C dx fs=>obtain⟨_,_,_,e,_⟩:=x;exact v_ e
 |own y=>obtain⟨_,e⟩:=x;exact v_ e
 |xd fs=>obtain⟨_,⟨_,_,_,e,_⟩,_⟩:=x;exact v_ e
 |rng lo hi=>obtain⟨_,_,_,e⟩:=x;exact v_ e
 |frz ob u=>obtain⟨e,_⟩:=x;exact v_ e
 |tbl ps=>exact v_ (show h.get? a=some _ from x)
 |met f y=>exact v_ (show h.get? a=some _ from x)
 |ext φ=>obtain⟨_,⟨_,e⟩,_⟩:=x;exact v_ e
def Paired.mapP(r:Paired F l₁ l₂)(f:∀a b,F a b->G a b):Paired G l₁ l₂:=by
 induction r with
 |nil=>exact .nil
 |cons r t ih=>exact .cons (f _ _ r) ih
def ObjOk.stay(x:ObjOk P w H h a o)(k:∀b u,(b=a\/H b=some (.own a))->h.get? b=some u->h'.get? b=some u)
 (ho:∀b,H b=some (.own a)->H' b=some (.own a)) (ht:∀b xs,H b=some (.tup xs)->H' b=some (.tup xs)):ObjOk P w H' h' a o:=by
 induction o with
 |lst xs=>obtain⟨z,its,n,r,e⟩:=x;exact⟨z,its,n,r,k _ _ (.inl rfl) e⟩
 |tup xs=>obtain⟨z,its,r,ob,e,c⟩:=x;exact⟨z,its,r,ob,k _ _ (.inl rfl) e,c⟩
 |dK kvs=>obtain⟨z,y,vs,r,ob,es,ep,e,c⟩:=x;exact⟨z,y,vs,r,ob,es,ep,k _ _ (.inl rfl) e,c⟩
 |dT kvs=>obtain⟨z,y,xs,r,ob,es,ep,e,c⟩:=x;exact⟨z,y,xs,Paired.mapP r λp q z=>⟨z.1,ht _ _ z.2.1,z.2.2⟩,ob,es,ep,k _ _ (.inl rfl) e,c⟩
 |set S n=>obtain⟨ob,es,ep,t,e,c⟩:=x;exact⟨ob,es,ep,t,k _ _ (.inl rfl) e,c⟩
 |ins C dx fs=>obtain⟨d,z,ne,e,mA,⟨od,es,ep,e2,c⟩,r⟩:=x;exact⟨ho _ d,z,ne,k _ _ (.inl rfl) e,mA,⟨od,es,ep,k _ _ (.inr d) e2,c⟩,r⟩
 |own y=>obtain⟨ob,e⟩:=x;exact⟨ob,k _ _ (.inl rfl) e⟩
 |xd fs=>obtain⟨mA,⟨od,es,ep,e,c⟩,r⟩:=x;exact⟨mA,⟨od,es,ep,k _ _ (.inl rfl) e,c⟩,r⟩
 |rng lo hi=>obtain⟨t,u,v,e⟩:=x;exact⟨t,u,v,k _ _ (.inl rfl) e⟩
 |frz ob u ih=>obtain⟨e,q⟩:=x;exact⟨k _ _ (.inl rfl) e,ih q⟩
 |tbl ps=>have e:h.get? a=some { cls:=.none,data:=.fields ps }:=x;show h'.get? a=some { cls:=.none,data:=.fields ps };exact k a _ (.inl rfl) e
 |met f y=>have e:h.get? a=some (W.methodObj (.ref f) (.ref y)):=x;show h'.get? a=some (W.methodObj (.ref f) (.ref y));exact k a _ (.inl rfl) e
 |ext φ=>obtain⟨p,⟨o,e⟩,st⟩:=x;exact⟨st _ _ p λo q=>k _ _ (.inl rfl) q,⟨o,k _ _ (.inl rfl) e⟩,st⟩
def HOk.lt(x:HOk P w H h)(e:H a=some o):a<h.objs.size:=(x a o e).lt
def HOk.fresh(x:HOk P w H h)(e:h.objs.size<=a):H a=none:=by
 cases q:H a with
 |none=>rfl
 |some u=>exact absurd (E_ (x.lt q) e) (Py _)
def HOk.kept(x:HOk P w H h)(k:∀b u,h.get? b=some u->h'.get? b=some u):HOk P w H h':=λa o e=>
 (x a o e).stay (λb u _ q=>k b u q) (λ_ q=>q) λ_ _ q=>q
def HOk.laid(x:HOk P w H h)(k:∀b u,h.get? b=some u->h'.get? b=some u)(hp:h.objs.size<=a)(new:ObjOk P w (upd H a o) h' a o):HOk P w (upd H a o) h':=λb u e=>by
 have hn:=x.fresh hp;by_cases hb:b=a
 .subst hb;rw[aM] at e;cases e;exact new
 .rw[ay hb] at e;exact (x b u e).stay (λc v _ q=>k c v q) (λc q=>by rw[ay (aJ q hn)];exact q) λc xs q=>by rw[ay (aJ q hn)];exact q
end
def Rd(H:Hp)(a:Addr)(u:HO):Prop:=H a=some u\/∃o,H a=some (.frz o u)
def Rd.ok(r:Rd H a u)(x:HOk P w H h):ObjOk P w H h a u:=by
 rcases r with r |⟨o,r⟩
 .exact x a u r
 .obtain⟨_,q⟩:=x a _ r;exact q
def Mut:Option HO->Prop
 |some (.lst _)=>True
 |some (.dK _)=>True
 |some (.dT _)=>True
 |some (.set _ _)=>True
 |some (.ins _ _ _)=>True
 |some (.ext _)=>True
 |_=>False
section
variable{P:Program}{w:World}{H:Hp}{h h':Heap}{x e:Addr}{o':HO}
def HOk.write(ok:HOk P w H h)(mu:Mut (H x))(he:e=x\/H e=some (.own x))(k:∀b u,b≠e->h.get? b=some u->h'.get? b=some u)(heo:∃u,h'.get? e=some u)
 (new:ObjOk P w (upd H x o') h' x o'):HOk P w (upd H x o') h':=λb u q=>by
 have nown:∀c y,H c=some (.own y)->c≠x:=λc y r z=>by subst z;rw[r] at mu;exact mu
 have ntup:∀c xs,H c=some (.tup xs)->c≠x:=λc xs r z=>by subst z;rw[r] at mu;exact mu
 by_cases hb:b=x
 .subst hb;rw[aM] at q;cases q;exact new
 .rw[ay hb] at q;by_cases hbe:b=e
  .have q':H b=some (.own x):=by
    rcases he with z |z
    .exact absurd (hbe.trans z) hb
    .rw[hbe];exact z
   rw[q] at q';cases q';obtain⟨v,hv⟩:=heo;exact⟨v,by rw[hbe];exact hv⟩
  .refine (ok b u q).stay (λc v hc r=>k c v ?_ r) (λc r=>by rw[ay (nown c b r)];exact r) λc xs r=>by rw[ay (ntup c xs r)];exact r
   rcases hc with rfl |hc
   .exact hbe
   .rintro rfl;rcases he with z |z
    .exact nown c b hc z
    .rw[hc] at z;cases z;exact hb rfl
end
structure Un(fs ex:List Addr)(H H':Hp)(h h':Heap):Prop where
 keep:∀b o,h.get? b=some o->H b=none->b∉fs->b∉ex->h'.get? b=some o
 slot:∀b o,h.get? b=some o->H b=none->b∈fs->b∉ex->∃sl,h'.get? b=some { o with slots:=sl }
 free:∀b o,h.get? b=some o->H b=none->b∉ex->H' b=none
 there:∀b o,h.get? b=some o->b∉ex->∃o',h'.get? b=some o'
 tups:∀b xs,H b=some (.tup xs)->H' b=some (.tup xs)
 frzs:∀b o u,H b=some (.frz o u)->H' b=some (.frz o u)
 tbls:∀b ps,H b=some (.tbl ps)->∃more,H' b=some (.tbl (ps++more))
section
variable{fs fs' ex ex':List Addr}{H H1 H2:Hp}{h h1 h2 h':Heap}{a x e:Addr}{o:HO}
def Un.any(u:Un fs ex H H1 h h1)(q:h.get? b=some ob)(n:H b=none)(hx:b∉ex):∃sl,h1.get? b=some { ob with slots:=sl }:=by
 by_cases hb:b∈fs
 .exact u.slot b ob q n hb hx
 .exact⟨ob.slots,u.keep b ob q n hb hx⟩
def Un.kept(k:∀b u,h.get? b=some u->h'.get? b=some u):Un fs ex H H h h':=
 ⟨λb ob q _ _ _=>k b ob q,λb ob q _ _ _=>⟨ob.slots,k b ob q⟩,λ_ _ _ n _=>n,λb ob q _=>⟨ob,k b ob q⟩,λ_ _ q=>q,λ_ _ _ q=>q,λ_ ps q=>⟨#[],by rw[q];simp⟩⟩
def Un.refl:Un fs ex H H h h:=Un.kept λ_ _ q=>q
def Un.laid(k:∀b u,h.get? b=some u->h'.get? b=some u)(hp:h.objs.size<=a)(hn:H a=none):Un fs ex H (upd H a o) h h' where
 keep:=λb u q _ _ _=>k b u q
 slot:=λb u q _ _ _=>⟨u.slots,k b u q⟩
 free:=λb u q n _=>by rw[ay (J_ (E_ (v_ q) hp))];exact n
 there:=λb u q _=>⟨u,k b u q⟩
 tups:=λb xs q=>by rw[ay (aJ q hn)];exact q
 frzs:=λb u xs q=>by rw[ay (aJ q hn)];exact q
 tbls:=λb ps q=>⟨#[],by rw[ay (aJ q hn),q];simp⟩
def Un.write(mu:Mut (H x))(he:e=x\/H e=some (.own x))(k:∀b u,b≠e->h.get? b=some u->h'.get? b=some u)(heo:∃u,h'.get? e=some u):Un fs ex H (upd H x o) h h':=by
 have hx:∀b,H b=none->b≠x:=λb n z=>by subst z;rw[n] at mu;exact mu
 have hb:∀b,H b=none->b≠e:=λb n z=>by
  subst z;rcases he with r |r
  .exact hx b n r
  .rw[n] at r;cases r
 have hm:∀b u,H b=some u->¬ Mut (some u)->b≠x:=λb u q nm z=>by subst z;rw[q] at mu;exact nm mu
 refine⟨λb u q n _ _=>k b u (hb b n) q,λb u q n _ _=>⟨u.slots,k b u (hb b n) q⟩,λb u q n _=>by rw[ay (hx b n)];exact n,λb u q _=>?_,
  λb xs q=>by rw[ay (hm b _ q λz=>z)];exact q,λb u xs q=>by rw[ay (hm b _ q λz=>z)];exact q,λb ps q=>⟨#[],by rw[ay (hm b _ q λz=>z),q];simp⟩⟩
 by_cases hbe:b=e
 .subst hbe;exact heo
 .exact⟨u,k b u hbe q⟩
end
noncomputable def trk(h:Heap)(H:Hp):List Addr:=(List.range h.objs.size).filter λa=>(H a).isSome
noncomputable def fu(h:Heap)(H:Hp):Heap:=W.hideAll h (trk h H)
def pj(h:Heap)(H:Hp):(fu h H).objs.size=h.objs.size:=W.hideAll_size _ _
def sQ(e:h.get? b=some o)(n:H b=none):(fu h H).get? b=some o:=
 W.hideAll_get _ e λhm=>by have q:(H b).isSome=true:=(List.mem_filter.mp hm).2;rw[n] at q;simp at q
def vX(e:(fu h H).get? b=some o):h.get? b=some o/\H b=none:=by
 have e':h.get? b=some o:=W.of_hideAll (trk h H) e;refine⟨e',?_⟩;cases q:H b with
 |none=>rfl
 |some x=>have hm:b∈trk h H:=List.mem_filter.mpr ⟨Pk.mpr (v_ e'),by simp [q]⟩;have z:(fu h H).get? b=none:=W.hideAll_none (trk h H) hm;rw[z] at e;cases e
noncomputable def GK(g h:Heap)(L:Addr):List (Addr×Obj):=(List.range h.objs.size).filterMap λa=>if a=L\/(g.get? a).isSome=true then none else (h.get? a).map λo=>(a,o)
noncomputable def gj(g h:Heap)(L d:Addr):List (Addr×Obj):=(GK g h L).filter λp=>decide (p.1≠d)
structure Mod(K:W.Frag)(mg:Sa)(base:Heap):Prop where
 kin:K.In base
 glob:base.Ns mainGlobals mg
 blt:∃mb,base.Ns builtinsNs mb/\∀x:Str,x ≠ "__name__"->mb x=bootBuiltins x
 nolimit:base.NoLimit
structure Cx where
 prog:Program
 w:World
 K:W.Frag
 mg:Str->Option Value
 base:Heap
 A:Around
 N:List Str
 s₀:Shared
 H₀:Hp
 env:Env
 outer:List Env
 stack:List Env
 ex:List Addr
 fn:Str->Bool
 calm:Bool
 pn:List (Addr×Obj)
 xe:Value->Shared->Prop
noncomputable def frs(l:List Env):List Addr:=l.filterMap (·.frame)
abbrev Cx.fs(X:Cx):List Addr:=frs X.outer
def Vis(sc:Scope)(x:Str):Prop:=sc.names.lookup x=some .local\/sc.names.lookup x=some .cell\/sc.names.lookup x=some .free
def Loc(sc:Scope)(x:Str):Prop:=sc.names.lookup x=some .local\/sc.names.lookup x=some .cell
def Look(env:Env)(h:Heap)(m:Sa)(x:Str)(u:Value):Prop:=
 (env.kindOf x=some .local/\m x=some u)\/((env.kindOf x=some .cell\/env.kindOf x=some .free)/\∃c,env.cells.lookup x=some c/\h.IsCell c (some u))
structure Cx.Ok(X:Cx):Prop where
 mod:Mod X.K X.mg X.base
 kind:X.env.scope.kind=.function
 glob:X.env.globals=mainGlobals
 blt:X.env.builtins=builtinsNs
 above:X.s₀.heap.objs.size<=X.env.locals
 inj:∀x y c,X.env.cells.lookup x=some c->X.env.cells.lookup y=some c->x=y
 has:∀x,(X.env.kindOf x=some .cell\/X.env.kindOf x=some .free)->∃c,X.env.cells.lookup x=some c
 cab:∀x c,X.fn x=true->X.env.cells.lookup x=some c->X.s₀.heap.objs.size<=c
 hd:X.calm=true->X.A.handled=none
 frames:X.A.frames=some X.stack
 stk:X.stack=X.outer\/(X.stack=X.env::X.outer/\X.env.frame=some X.env.locals)
 exf:∀b∈X.ex,b≠X.env.locals/\∀x c,X.env.cells.lookup x=some c->c≠b
 bs:∀b o,X.base.get? b=some o->X.s₀.heap.get? b=some o/\X.H₀ b=none
 bsz:X.base.objs.size<=X.s₀.heap.objs.size
 noex:∀b o,X.base.get? b=some o->b∉X.ex
 exfs:∀b∈X.ex,b∉X.fs
 funs:X.s₀.heap.FunFrames X.base X.outer
 frf:∀b∈X.fs,X.H₀ b=none
structure Inv(X:Cx)(pins:Sb)(σ:List (Option V))(H:Hp)(s:Shared):Prop where
 ok:X.Ok
 os:s.os=X.s₀.os
 bare:AllBare s.gens
 base:Un X.fs X.ex X.H₀ H X.s₀.heap s.heap
 loc:∃m,s.heap.Ns X.env.locals m/\∀(i:Nat) (x:Str) (v:V),X.N[i]?=some x->σ[i]?=some (some v)->Vis X.env.scope x->∃u,RelV v u/\Look X.env s.heap m x u
 cell:∀x c,X.env.cells.lookup x=some c->∃v,s.heap.IsCell c v
 free:H X.env.locals=none
 freeC:∀x c,X.env.cells.lookup x=some c->H c=none
 pin:∀p∈X.pn++pins,s.heap.get? p.1=some p.2/\H p.1=none/\p.1≠X.env.locals/\p.1∉X.fs/\∀v,p.2.data ≠ .cell v
 hok:HOk X.prog X.w H s.heap
 len:σ.length=X.N.length
section
variable{X:Cx}{pins:Sb}{σ:List (Option V)}{H H':Hp}{s:Shared}{h':Heap}
def Cx.Ok.nofr(ok:X.Ok)(e:X.base.get? b=some o):b∉X.fs:=λhb=>by
 have:=(ok.funs.mem hb).1
 rw[e] at this;cases this
def Inv.bs(I:Inv X pins σ H s):∀b o,X.base.get? b=some o->s.heap.get? b=some o/\H b=none:=λb o e=>
 ⟨I.base.keep b o (I.ok.bs b o e).1 (I.ok.bs b o e).2 (I.ok.nofr e) (I.ok.noex b o e),I.base.free b o (I.ok.bs b o e).1 (I.ok.bs b o e).2 (I.ok.noex b o e)⟩
def Inv.bk(I:Inv X pins σ H s):∀b o,X.base.get? b=some o->s.heap.get? b=some o:=λb o e=>(I.bs b o e).1
def Inv.mod(I:Inv X pins σ H s):Mod X.K X.mg X.base:=I.ok.mod
def Inv.kIn(I:Inv X pins σ H s):X.K.In s.heap:=I.ok.mod.kin.keeps I.bk
def Inv.nolimit(I:Inv X pins σ H s):s.heap.NoLimit:=I.ok.mod.nolimit.keeps I.bk
def Inv.lt(I:Inv X pins σ H s):X.env.locals<s.heap.objs.size:=let ⟨_,hn,_⟩:=I.loc;hn.lt
def Inv.sz(I:Inv X pins σ H s):X.s₀.heap.objs.size<=s.heap.objs.size:=F_ I.ok.above (QJ I.lt)
def Inv.nofs(I:Inv X pins σ H s)(h:s.heap.objs.size<=a):a∉X.fs:=λhb=>by obtain⟨_,o,ho,_⟩:=I.ok.funs.mem hb;exact absurd (E_ (v_ ho) (F_ I.sz h)) (Py _)
def Inv.cne(I:Inv X pins σ H s):∀x c,X.env.cells.lookup x=some c->c≠X.env.locals:=λx c e z=>by obtain⟨v,o,ho,hd⟩:=I.cell x c e;obtain⟨m,⟨o',es,ep,ho',hd',_⟩,_⟩:=I.loc;rw[z,ho'] at ho;cases ho;rw[hd'] at hd;cases hd
def Inv.funs(I:Inv X pins σ H s):s.heap.FunFrames X.base X.outer:=by
 have all:∀(l:List Env),(∀b∈frs l,b∈X.fs)->X.s₀.heap.FunFrames X.base l->s.heap.FunFrames X.base l:=by
  intro l;induction l with
  |nil=>intro _ _;trivial
  |cons env r ih=>intro hs hl;obtain⟨hk,⟨L,o,hf,hn,ho,hd⟩,hr⟩:=hl;have hL:L∈X.fs:=hs L (by unfold frs;rw[Qb,hf];exact n_);obtain⟨sl,e⟩:=I.base.slot L o ho (I.ok.frf L hL) hL λz=>I.ok.exfs L z hL;exact⟨hk,⟨L,_,hf,hn,e,hd⟩,ih (λb hb=>hs b (by unfold frs;rw[Qb,hf];exact m_ _ hb)) hr⟩
 exact all X.outer (λ_ hb=>hb) I.ok.funs
def Inv.stack(I:Inv X pins σ H s):s.heap.FunFrames X.base X.stack:=by
 rcases I.ok.stk with e |⟨e,hf⟩
 .rw[e];exact I.funs
 .rw[e];obtain⟨m,hn,_⟩:=I.loc;refine .cons (by rw[I.ok.kind];decide) hf hn ?_ I.funs;exact Rw (F_ I.ok.bsz I.ok.above)
def Inv.stkSub(I:Inv X pins σ H s):∀b∈frs X.stack,b∈X.env.locals::X.fs:=λb hb=>by
 rcases I.ok.stk with e |⟨e,hf⟩
 .rw[e] at hb;exact m_ _ hb
 .rw[e] at hb;unfold frs at hb;rw[Qb,hf] at hb;exact hb
def Inv.stkFree(I:Inv X pins σ H s):∀b∈frs X.stack,H b=none:=λb hb=>by
 rcases H_.mp (I.stkSub b hb) with e |hb
 .rw[e];exact I.free
 .obtain⟨_,o,ho,_⟩:=I.ok.funs.mem hb;exact I.base.free b o ho (I.ok.frf b hb) λz=>I.ok.exfs b z hb
def Inv.step{g':Array GenState}{t':Nat}{d':Drawn}{ch:List Addr}(I:Inv X pins σ H s)
 (hch:∀b∈ch,(b∈X.ex\/X.s₀.heap.objs.size<=b)/\b≠X.env.locals/\(∀x c,X.env.cells.lookup x=some c->c≠b)/\∀p∈X.pn++pins,p.1≠b)
 (keep:∀b o,b≠X.env.locals->b∉X.fs->b∉ch->s.heap.get? b=some o->H b=none->h'.get? b=some o)
 (slot:∀b o,b≠X.env.locals->b∈X.fs->b∉ch->s.heap.get? b=some o->H b=none->∃sl,h'.get? b=some { o with slots:=sl }) (free:∀b o,b∉ch->s.heap.get? b=some o->H b=none->H' b=none)
 (there:∀b o,b∉ch->s.heap.get? b=some o->∃o',h'.get? b=some o')
 (tups:∀b xs,H b=some (.tup xs)->H' b=some (.tup xs)) (frzs:∀b o u,H b=some (.frz o u)->H' b=some (.frz o u)) (tbls:∀b ps,H b=some (.tbl ps)->∃more,H' b=some (.tbl (ps++more)))
 (ns:∀m,s.heap.Ns X.env.locals m->h'.Ns X.env.locals m) (hok:HOk X.prog X.w H' h') (hg:AllBare g'):
 Inv X pins σ H' { s with heap:=h',gens:=g',drawn:=d',toks:=t' }:=by
 have neL:∀b o,X.s₀.heap.get? b=some o->b≠X.env.locals:=λb o e=>J_ (E_ (v_ e) I.ok.above);have neC:∀b o,X.s₀.heap.get? b=some o->b∉X.ex->b∉ch:=λb o e hx hb=>by
  rcases (hch b hb).1 with z |z
  .exact hx z
  .exact absurd (E_ (v_ e) z) (Py _)
 have cellK:∀x c,X.env.cells.lookup x=some c->∀v,s.heap.IsCell c v->h'.IsCell c v:=λx c e v ⟨o,ho,hd⟩=>by
  have nch:c∉ch:=λz=>(hch c z).2.2.1 x c e rfl;by_cases hc:c∈X.fs
  .obtain⟨sl,q⟩:=slot c o (I.cne x c e) hc nch ho (I.freeC x c e);exact⟨_,q,hd⟩
  .exact⟨o,keep c o (I.cne x c e) hc nch ho (I.freeC x c e),hd⟩
 refine⟨I.ok,I.os,hg,⟨λb o e n hb hx=>?_,λb o e n hb hx=>?_,λb o e n hx=>?_,λb o e hx=>?_,λb xs e=>tups b xs (I.base.tups b xs e),λb o xs e=>frzs b o xs (I.base.frzs b o xs e),λb ps e=>?_⟩,?_,λx c e=>?_,?_,λx c e=>?_,λp hp=>?_,hok,I.len⟩
 .exact keep b o (neL b o e) hb (neC b o e hx) (I.base.keep b o e n hb hx) (I.base.free b o e n hx)
 .obtain⟨sl,e1⟩:=I.base.slot b o e n hb hx;obtain⟨sl',e2⟩:=slot b _ (neL b o e) hb (neC b o e hx) e1 (I.base.free b o e n hx);exact⟨sl',e2⟩
 .obtain⟨o',e1⟩:=I.base.there b o e hx;exact free b o' (neC b o e hx) e1 (I.base.free b o e n hx)
 .obtain⟨o',e1⟩:=I.base.there b o e hx;exact there b o' (neC b o e hx) e1
 .obtain⟨m1,e1⟩:=I.base.tbls b ps e;obtain⟨m2,e2⟩:=tbls b _ e1;exact⟨m1++m2,by rw[e2,Array.append_assoc]⟩
 .obtain⟨m,hn,hl⟩:=I.loc;refine⟨m,ns m hn,λi x v e1 e2 e3=>?_⟩;obtain⟨u,r,l⟩:=hl i x v e1 e2 e3;refine⟨u,r,?_⟩;rcases l with l |⟨k,c,e,z⟩
  .exact .inl l
  .exact .inr ⟨k,c,e,cellK x c e _ z⟩
 .obtain⟨v,z⟩:=I.cell x c e;exact⟨v,cellK x c e v z⟩
 .obtain⟨m,⟨o,_,_,ho,_⟩,_⟩:=I.loc;exact free _ o (λz=>(hch _ z).2.1 rfl) ho I.free
 .obtain⟨v,o,ho,hd⟩:=I.cell x c e;exact free c o (λz=>(hch c z).2.2.1 x c e rfl) ho (I.freeC x c e)
 .obtain⟨e,n,ne,nf,d⟩:=I.pin p hp;have nch:p.1∉ch:=λz=>(hch p.1 z).2.2.2 p hp rfl;exact⟨keep p.1 p.2 ne nf nch e n,free p.1 p.2 nch e n,ne,nf,d⟩
def Inv.un{t':Nat}(I:Inv X pins σ H s)(u:Un X.fs [] H H' s.heap h')(hok:HOk X.prog X.w H' h'):Inv X pins σ H' { s with heap:=h',toks:=t' }:=by obtain⟨m,⟨o,es,ep,ho,r⟩,_⟩:=id I.loc;obtain⟨sl,hL⟩:=u.any ho I.free (by simp);exact I.step (g':=s.gens) (d':=s.drawn) (ch:=[]) (λ_ z=>nomatch z) (λb o _ hb _ e n=>u.keep b o e n hb (by simp)) (λb o _ hb _ e n=>u.slot b o e n hb (by simp)) (λb o _ e n=>u.free b o e n (by simp)) (λb o _ e=>u.there b o e (by simp)) u.tups u.frzs u.tbls (λm' hm=>by obtain⟨o',es',ep',ho',r'⟩:=hm;rw[ho] at ho';cases ho';exact⟨_,es',ep',hL,r'⟩) hok I.bare
def Inv.call{g':Array GenState}{t':Nat}{d':Drawn}{ch:List Addr}(I:Inv X pins σ H s)(u:Un (frs X.stack) ch H H' s.heap h')(hok:HOk X.prog X.w H' h')(hg:AllBare g')
 (hch:∀b∈ch,(b∈X.ex\/X.s₀.heap.objs.size<=b)/\b≠X.env.locals/\(∀x c,X.env.cells.lookup x=some c->c≠b)/\∀p∈X.pn++pins,p.1≠b):
 Inv X pins σ H' { s with heap:=h',gens:=g',drawn:=d',toks:=t' }:=by
 obtain⟨m,⟨o,es,ep,ho,r⟩,_⟩:=id I.loc;obtain⟨sl,hL⟩:=u.any ho I.free λz=>(hch _ z).2.1 rfl;exact I.step (ch:=ch) hch (λb o hL hb hc e n=>u.keep b o e n (λz=>(H_.mp (I.stkSub b z)).elim hL hb) hc) (λb o _ _ hc e n=>u.any e n hc) (λb o hc e n=>u.free b o e n hc) (λb o hc e=>u.there b o e hc) u.tups u.frzs u.tbls (λm' hm=>by obtain⟨o',es',ep',ho',r'⟩:=hm;rw[ho] at ho';cases ho';exact⟨_,es',ep',hL,r'⟩) hok hg
def Inv.turned{t':Nat}{it:Addr}(I:Inv X pins σ H s)(k:∀b o,b≠it->s.heap.get? b=some o->h'.get? b=some o)(hn:H it=none)(hL:it≠X.env.locals)
 (h1:it∈X.ex\/X.s₀.heap.objs.size<=it) (h2:∀x c,X.env.cells.lookup x=some c->c≠it) (h3:∀p∈X.pn++pins,p.1≠it):Inv X pins σ H { s with heap:=h',toks:=t' }:=by
 have nit:∀b u,H b=some u->b≠it:=λb u e z=>by rw[z,hn] at e;cases e
 refine I.step (g':=s.gens) (d':=s.drawn) (ch:=[it]) (λb hb=>?_) (λb o _ _ hc e _=>k b o (λz=>hc (by simp [z])) e) (λb o _ _ hc e _=>⟨o.slots,k b o (λz=>hc (by simp [z])) e⟩) (λ_ _ _ _ n=>n)
  (λb o hc e=>⟨o,k b o (λz=>hc (by simp [z])) e⟩) (λ_ _ e=>e) (λ_ _ _ e=>e) (λb ps e=>⟨#[],by rw[e];simp⟩) (λm hm=>?_) (λb u e=>?_) I.bare
 .have e:b=it:=by simpa using hb
  subst e;exact⟨h1,hL,h2,h3⟩
 .obtain⟨o,es,ep,ho,r⟩:=hm;exact⟨o,es,ep,k _ o (Ne.symm hL) ho,r⟩
 .refine (I.hok b u e).stay (λc v hc q=>k c v ?_ q) (λ_ q=>q) λ_ _ q=>q;rcases hc with z |z
  .rw[z];exact nit b u e
  .exact nit c _ z
def Inv.tok(I:Inv X pins σ H s)(t:Nat):Inv X pins σ H { s with toks:=t }:=I.un (h':=s.heap) (t':=t) Un.refl I.hok
def Inv.kept(I:Inv X pins σ H s)(k:∀b u,s.heap.get? b=some u->h'.get? b=some u):Inv X pins σ H { s with heap:=h',toks:=t' }:=I.un (Un.kept k) (I.hok.kept k)
def Inv.laid(I:Inv X pins σ H s)(k:∀b u,s.heap.get? b=some u->h'.get? b=some u)(hp:s.heap.objs.size<=a)(new:ObjOk X.prog X.w (upd H a o) h' a o):
 Inv X pins σ (upd H a o) { s with heap:=h',toks:=t' }:=I.un (Un.laid k hp (I.hok.fresh hp)) (I.hok.laid k hp new)
def Inv.write(I:Inv X pins σ H s)(mu:Mut (H x))(he:e=x\/H e=some (.own x))(k:∀b u,b≠e->s.heap.get? b=some u->h'.get? b=some u)(heo:∃u,h'.get? e=some u)
 (new:ObjOk X.prog X.w (upd H x o) h' x o):Inv X pins σ (upd H x o) { s with heap:=h',toks:=t' }:=I.un (Un.write mu he k heo) (I.hok.write mu he k heo new)
def Inv.pins_of(I:Inv X pins σ H s)(h:∀p∈pins',s.heap.get? p.1=some p.2/\H p.1=none/\p.1≠X.env.locals/\p.1∉X.fs/\∀v,p.2.data ≠ .cell v):Inv X pins' σ H s:=
 ⟨I.ok,I.os,I.bare,I.base,I.loc,I.cell,I.free,I.freeC,λp hp=>(Qo.mp hp).elim (λz=>I.pin p (RC _ z)) (h p),I.hok,I.len⟩
def ur{N:List Str}(hN:N.Nodup){i j:Nat}{x:Str}(a:N[i]?=some x)(b:N[j]?=some x):i=j:=by obtain⟨h1,e1⟩:=p_.mp a;obtain⟨h2,e2⟩:=p_.mp b;exact (List.getElem_inj hN).mp (e1.trans e2.symm)
def o8(I:Inv X pins σ H s)(hN:X.N.Nodup)(hi:X.N[i]?=some x)(hx:Loc X.env.scope x)(r:RelV v u)
 (h:∀s',Inv X pins (σ.set i (some v)) H s'->(∃a,Heap.SameBut a s.heap s'.heap/\(a=X.env.locals\/X.env.cells.lookup x=some a))->Q () s') (hf:X.fn x=true\/X.env.scope.names.lookup x=some .local):wpAny M A (storeName X.env x u) Q E s:=by
 obtain⟨m,hn,hl⟩:=id I.loc;have hcls:(X.env.scope.kind == .class || (X.env.scope.kind == .module&&X.env.locals != X.env.globals))=false:=by rw[I.ok.kind];rfl
 have hiσ:i<σ.length:=by rw[I.len];exact (p_.mp hi).1
 have cne:=I.cne;have tracked:∀{a:Addr}{h':Heap},(∃o,s.heap.get? a=some o/\H a=none)->Heap.SameBut a s.heap h'->HOk X.prog X.w H h':=λ{a h'} ha hs b ob e=>by
  obtain⟨_,_,hfree⟩:=ha;refine (I.hok b ob e).stay (λc w' hc q=>(hs.2 c ?_).trans q) (λ_ q=>q) λ_ _ q=>q;rintro rfl;rcases hc with rfl |hc
  .rw[hfree] at e;cases e
  .rw[hfree] at hc;cases hc
 rcases hx with hk |hk
 .refine wpAny_storeName_local hk hn (λh' hn' hs=>?_) hcls;obtain⟨oL,_,_,hoL,_⟩:=id hn;refine h _ ⟨I.ok,I.os,I.bare,⟨λb o e n hb hx=>?_,λb o e n hb hx=>?_,I.base.free,λb o e hx=>?_,I.base.tups,I.base.frzs,I.base.tbls⟩,⟨_,hn',λj y v' e1 e2 e3=>?_⟩,λy c e=>?_,I.free,I.freeC,λp hp=>?_,tracked ⟨oL,hoL,I.free⟩ hs,by simpa using I.len⟩ ⟨_,hs,.inl rfl⟩
  .exact (hs.2 b (J_ (E_ (v_ e) I.ok.above))).trans (I.base.keep b o e n hb hx)
  .obtain⟨sl,e1⟩:=I.base.slot b o e n hb hx;exact⟨sl,(hs.2 b (J_ (E_ (v_ e) I.ok.above))).trans e1⟩
  .obtain⟨o',e1⟩:=I.base.there b o e hx;exact⟨o',(hs.2 b (J_ (E_ (v_ e) I.ok.above))).trans e1⟩
  .by_cases hj:j=i
   .subst hj;rw[hi] at e1;cases e1;rw[List.getElem?_set_self hiσ] at e2;cases e2;exact⟨u,r,.inl ⟨hk,by simp⟩⟩
   .rw[Ry (Ne.symm hj)] at e2;obtain⟨u',r',q⟩:=hl j y v' e1 e2 e3;refine⟨u',r',?_⟩;rcases q with ⟨k,e⟩ |⟨k,c,e,z⟩
    .refine .inl ⟨k,?_⟩;have:y≠x:=λe=>hj (ur hN e1 (e ▸ hi));simp [this,e]
    .exact .inr ⟨k,c,e,z.sameBut hs (cne y c e)⟩
  .obtain⟨w',z⟩:=I.cell y c e;exact⟨w',z.sameBut hs (cne y c e)⟩
  .obtain⟨e,n,ne,nf,d⟩:=I.pin p hp;exact⟨(hs.2 p.1 ne).trans e,n,ne,nf,d⟩
 .have hfn:X.fn x=true:=by
   rcases hf with z |z
   .exact z
   .rw[z] at hk;cases hk
  obtain⟨c,hc⟩:=I.ok.has x (.inl hk);obtain⟨w',z⟩:=I.cell x c hc;refine wpAny_storeName_cell I.ok.kind hk hc z (λh' hc' hs=>?_);obtain⟨oc,hoc,hocd⟩:=id z;refine h { s with heap:=h' } ⟨I.ok,I.os,I.bare,⟨λb o e n hb hx=>?_,λb o e n hb hx=>?_,I.base.free,λb o e hx=>?_,I.base.tups,I.base.frzs,I.base.tbls⟩,⟨m,hn.sameBut hs (Ne.symm (cne x c hc)),λj y v' e1 e2 e3=>?_⟩,λy c' e=>?_,I.free,I.freeC,λp hp=>?_,tracked ⟨oc,hoc,I.freeC x c hc⟩ hs,by simpa using I.len⟩ ⟨c,hs,.inr hc⟩
  .exact (hs.2 b (J_ (E_ (v_ e) (I.ok.cab x c hfn hc)))).trans (I.base.keep b o e n hb hx)
  .obtain⟨sl,e1⟩:=I.base.slot b o e n hb hx;exact⟨sl,(hs.2 b (J_ (E_ (v_ e) (I.ok.cab x c hfn hc)))).trans e1⟩
  .obtain⟨o',e1⟩:=I.base.there b o e hx;exact⟨o',(hs.2 b (J_ (E_ (v_ e) (I.ok.cab x c hfn hc)))).trans e1⟩
  .by_cases hj:j=i
   .subst hj;rw[hi] at e1;cases e1;rw[List.getElem?_set_self hiσ] at e2;cases e2;exact⟨u,r,.inr ⟨.inl hk,c,hc,hc'⟩⟩
   .rw[Ry (Ne.symm hj)] at e2;obtain⟨u',r',q⟩:=hl j y v' e1 e2 e3;refine⟨u',r',?_⟩;rcases q with q |⟨k,c',e,z'⟩
    .exact .inl q
    .refine .inr ⟨k,c',e,z'.sameBut hs ?_⟩;rintro rfl;exact hj (ur hN e1 (I.ok.inj _ _ _ e hc ▸ hi))
  .by_cases hcc:c'=c
   .subst hcc;exact⟨_,hc'⟩
   .obtain⟨w2,z2⟩:=I.cell y c' e;exact⟨w2,z2.sameBut hs hcc⟩
  .obtain⟨e,n,ne,nf,d⟩:=I.pin p hp;refine⟨(hs.2 p.1 ?_).trans e,n,ne,nf,d⟩;intro q;rw[q,hoc] at e;have q':oc=p.2:=K_ e;exact d w' (by rw[<- q'];exact hocd)
def gG(I:Inv X pins σ H s)(hN:X.N.Nodup)(hi:X.N[i]?=some x)(hx:Loc X.env.scope x)(r:RelV v u)
 (h:∀s',Inv X pins (σ.set i (some v)) H s'->Q () s') (hf:X.fn x=true\/X.env.scope.names.lookup x=some .local):wpAny M A (storeName X.env x u) Q E s:=
 o8 I hN hi hx r (λs' I' _=>h s' I') hf
def Inv.call'(I:Inv X pins σ H s)(ho:s'.os=s.os)(u:Un (frs X.stack) ch H H' s.heap s'.heap)(hok:HOk X.prog X.w H' s'.heap)(hg:AllBare s'.gens)
 (hch:∀b∈ch,(b∈X.ex\/X.s₀.heap.objs.size<=b)/\b≠X.env.locals/\(∀x c,X.env.cells.lookup x=some c->c≠b)/\∀p∈X.pn++pins,p.1≠b):Inv X pins σ H' s':=by
 obtain⟨h',g',d',t',o'⟩:=s';have e:o'=s.os:=ho;subst e;exact I.call (g':=g') (t':=t') (d':=d') u hok hg hch
end
abbrev XK:=Value->Option Addr->Hp->Prop
abbrev St:=List (Option V)
abbrev VK:=V->Hp->Prop
abbrev TE:=St->Hp->VK->Prop
abbrev TT:=St->Hp->(Bool->Hp->Prop)->Prop
abbrev TA:=St->Hp->(List V->Hp->Prop)->Prop
structure Ends where
 nx:St->Hp->Prop
 rt:VK
 bk:St->Hp->Prop:=λ_ _=>False
 ct:St->Hp->Prop:=λ_ _=>False
abbrev TS:=Ends->St->Hp->Prop
def EP(X:Cx)(pins:Sb)(σ:St)(Q:VK)(u:Value)(s':Shared):Prop:=∃v H',Inv X pins σ H' s'/\RelV v u/\Q v H'
def TP(X:Cx)(pins:Sb)(σ:St)(Q:Bool->Hp->Prop)(b:Bool)(s':Shared):Prop:=∃H',Inv X pins σ H' s'/\Q b H'
def AP(X:Cx)(pins:Sb)(σ:St)(Q:List V->Hp->Prop)(us:List Value)(s':Shared):Prop:=∃vs H',Inv X pins σ H' s'/\Vals vs us/\Q vs H'
def SP(X:Cx)(pins:Sb)(D:Ends)(f:Flow)(s':Shared):Prop:=
 match f with
 |.next=>∃σ' H',Inv X pins σ' H' s'/\D.nx σ' H'
 |.brk=>∃σ' H',Inv X pins σ' H' s'/\D.bk σ' H'
 |.cont=>∃σ' H',Inv X pins σ' H' s'/\D.ct σ' H'
 |.ret u=>∃v σ' H',Inv X pins σ' H' s'/\RelV v u/\D.rt v H'
def PE(X:Cx)(e:Expr)(t:TE):Prop:=
 ∀(pins:Sb) (s:Shared) (σ:St) (H:Hp) (Q:VK),Inv X pins σ H s->t σ H Q->wpAny (model X.prog X.w) X.A (eval e X.env) (EP X pins σ Q) X.xe s
def PT(X:Cx)(e:Expr)(t:TT):Prop:=
 ∀(pins:Sb) (s:Shared) (σ:St) (H:Hp) (Q:Bool->Hp->Prop),Inv X pins σ H s->t σ H Q->wpAny (model X.prog X.w) X.A (isTrue e X.env (eval e X.env)) (TP X pins σ Q) X.xe s
def PW(X:Cx)(e:Expr)(t:TT):Prop:=
 ∀(c_:Sem Value) (pins:Sb) (s:Shared) (σ:St) (H:Hp) (Q:Bool->Hp->Prop),Inv X pins σ H s->t σ H Q->wpAny (model X.prog X.w) X.A (isTrue e X.env c_) (TP X pins σ Q) X.xe s
def PW.pt(h:PW X e t):PT X e t:=h _
def PA(X:Cx)(es:List Expr)(t:TA):Prop:=
 ∀(pos:Pos) (pins:Sb) (s:Shared) (σ:St) (H:Hp) (Q:List V->Hp->Prop),Inv X pins σ H s->t σ H Q->wpAny (model X.prog X.w) X.A (spliced (backTo pos (starEach es X.env))) (AP X pins σ Q) X.xe s
def PS(X:Cx)(st:Stmt)(t:TS):Prop:=
 ∀(pins:Sb) (s:Shared) (σ:St) (H:Hp) (D:Ends),Inv X pins σ H s->t D σ H->wpAny (model X.prog X.w) X.A (exec st X.env) (SP X pins D) X.xe s
def PSs(X:Cx)(st:List Stmt)(t:TS):Prop:=
 ∀(pins:Sb) (s:Shared) (σ:St) (H:Hp) (D:Ends),Inv X pins σ H s->t D σ H->wpAny (model X.prog X.w) X.A (execs st X.env) (SP X pins D) X.xe s
def thn(h:wpAny M A t Q E s)(hQ:∀a s,Q a s->Q' a s):wpAny M A t Q' E s:=Pj h hQ λ_ _ x=>x
section
variable{X:Cx}
def tVar(i:Nat):TE:=λσ H Q=>∃v,σ[i]?=some (some v)/\Q v H
def tC(v:V):TE:=λ_ H Q=>Q v H
def Hw(hN:X.N[i]?=some x)(hv:Vis X.env.scope x)(hd:(x==("__debug__" : Str))=false)(i_:(x==("__classdict__" : Str))=false):PE X (.Name x pos) (tVar i):=by
 intro pins s σ H Q I h;obtain⟨v,e,h⟩:=h;obtain⟨m,hn,hl⟩:=I.loc;obtain⟨u,r,l⟩:=hl i x v hN e hv;have ii:EP X pins σ Q u s:=⟨v,H,I,r,h⟩;rcases l with ⟨hk,hm⟩ |⟨hk,c,hc,jp⟩
 .exact wpAny_Name (RK I.ok.kind hk hn hm ii) hd
 .rcases hk with hk |hk
  .exact wpAny_Name (wpAny_loadName_cell I.ok.kind hk hc jp ii) hd
  .exact wpAny_Name (wpAny_loadName_free I.ok.kind hk hc jp ii i_) hd
def Lg{i j pos}:PE X (.Constant (.int i) j pos) (tC (.int i)):=λ_ _ _ H _ I h=>wpAny_Constant_int ⟨.int i,H,I.tok _,⟨_,rfl⟩,h⟩
def MJ{b j pos}:PE X (.Constant (.bool b) j pos) (tC (.bl b)):=λ_ _ _ H _ I h=>Constant_bool ⟨.bl b,H,I,rfl,h⟩
def zf{x j pos}:PE X (.Constant (.str x) j pos) (tC (.str x)):=λ_ _ _ H _ I h=>Calls.Constant_str ⟨.str x,H,I.tok _,⟨_,rfl⟩,h⟩
def Gl(X:Cx)(x:Str):Prop:=X.env.kindOf x=some .globalImplicit
def nW(I:Inv X pins σ H s)(hg:Gl X x)(hm:X.mg x=some u)(h:Q u s)
 (hd:(x==("__debug__" : Str))=false):wpAny (model X.prog X.w) X.A (eval (.Name x pos) X.env) Q E s:=
 Calls.Name_function_global I.ok.kind hg (Calls.loadGlobal_global (by rw[I.ok.glob];exact I.mod.glob.keeps I.bk) hm h) hd
def f6(I:Inv X pins σ H s)(hg:Gl X x)(hm:X.mg x=none)(hv:bootBuiltins x=some u)(h:Q u s)
 (hn:x ≠ "__name__":=by decide) (hd:(x==("__debug__" : Str))=false:=by decide):wpAny (model X.prog X.w) X.A (eval (.Name x pos) X.env) Q E s:=by
 obtain⟨mb,h1,h2⟩:=I.mod.blt;exact Calls.Name_function_global I.ok.kind hg (Calls.loadGlobal_builtin (by rw[I.ok.glob];exact I.mod.glob.keeps I.bk) hm (by rw[I.ok.blt];exact h1.keeps I.bk) ((h2 x hn).trans hv) h) hd
def G9(hg:Gl X x)(hm:X.mg x=some u)(r:RelV v u)(hd:(x==("__debug__" : Str))=false):PE X (.Name x pos) (tC v):=
 λ_ _ _ H _ I h=>nW I hg hm ⟨v,H,I,r,h⟩ hd
def Gh(hg:Gl X x)(hm:X.mg x=none)(hv:bootBuiltins x=some u)(r:RelV v u)(hn:x ≠ "__name__")(hd:(x==("__debug__" : Str))=false):PE X (.Name x pos) (tC v):=
 λ_ _ _ H _ I h=>f6 I hg hm hv ⟨v,H,I,r,h⟩ hn hd
variable{a b:Expr}{ta tb:TE}{pos:Pos}
def tB(t:TE):TT:=λσ H Q=>t σ H λx H1=>∃c,x=.bl c/\Q c H1
def Ic(h:PE X e t)(he:∀c_,isTrue e X.env c_=(do let v <- c_;standAt e.pos;holding [v] (truthy v))):PT X e (tB t):=by intro pins s σ H Q I hw;refine isTrue_plain (thn (h pins s σ H _ I hw) λv s1 ⟨x,H1,I1,r1,q1⟩=>?_) (he _);obtain⟨d,rfl,q⟩:=q1;cases r1;exact Qt ⟨H1,I1,q⟩
variable{tA tB':TT}{gj:List Expr}
def tAnd(t u:TT):TT:=λσ H Q=>t σ H λc H1=>if c=true then u σ H1 Q else Q false H1
def tOr(t u:TT):TT:=λσ H Q=>t σ H λc H1=>if c=true then Q true H1 else u σ H1 Q
def tNot(t:TT):TT:=λσ H Q=>t σ H λc H1=>Q (!c) H1
def GR(ha:PT X a tA):PW X (.BoolOp .And [a] pos) tA:=by
 intro wh pins s σ H Q I h;refine isTrue_and (thn (ha pins s σ H Q I h) λc s1 e=>?_);cases c with
 |true=>exact isTrue_and_nil e
 |false=>exact e
def Kj(ha:PT X a tA):PW X (.BoolOp .Or [a] pos) tA:=by
 intro wh pins s σ H Q I h;refine isTrue_or (thn (ha pins s σ H Q I h) λc s1 e=>?_);cases c with
 |false=>exact isTrue_or_nil e
 |true=>exact e
def KA(ha:PT X a tA)(hb:PW X (.BoolOp .And (b::gj) pos) tB'):PW X (.BoolOp .And (a::b::gj) pos) (tAnd tA tB'):=by
 intro wh pins s σ H Q I h;refine isTrue_and (thn (ha pins s σ H _ I h) λc s1 ⟨H1,I1,q1⟩=>?_);cases c with
 |true=>exact hb wh pins s1 σ H1 Q I1 q1
 |false=>exact⟨H1,I1,q1⟩
def O2(ha:PT X a tA)(hb:PW X (.BoolOp .Or (b::gj) pos) tB'):PW X (.BoolOp .Or (a::b::gj) pos) (tOr tA tB'):=by
 intro wh pins s σ H Q I h;refine isTrue_or (thn (ha pins s σ H _ I h) λc s1 ⟨H1,I1,q1⟩=>?_);cases c with
 |true=>exact⟨H1,I1,q1⟩
 |false=>exact hb wh pins s1 σ H1 Q I1 q1
def IV(ha:PT X a tA):PT X (.UnaryOp .Not a pos) (tNot tA):=by intro pins s σ H Q I h;exact isTrue_not (ha pins s σ H (λc H1=>Q (!c) H1) I h)
def Nq(ta tb:TE):TE:=λσ H Q=>ta σ H λx H1=>∃c,x=.bl c/\if c=true then tb σ H1 Q else Q (.bl false) H1
def Mm(ta:TE):TE:=λσ H Q=>ta σ H λx H1=>∃c,x=.bl c/\Q (.bl (!c)) H1
def J8{op}(h:PE X a t):PE X (.BoolOp op [a] pos) t:=λpins s σ H Q I hw=>BoolOp_one (h pins s σ H Q I hw)
def JP(ha:PE X a ta)(hb:PE X (.BoolOp .And (b::gj) pos) tb):PE X (.BoolOp .And (a::b::gj) pos) (Nq ta tb):=by
 intro pins s σ H Q I h;refine BoolOp_and (thn (ha pins s σ H _ I h) λv s1 ⟨x,H1,I1,r1,q1⟩=>?_);obtain⟨c,rfl,q1⟩:=q1;cases r1;refine Qt ?_;cases c with
 |true=>exact hb pins s1 σ H1 Q I1 q1
 |false=>exact⟨.bl false,H1,I1,rfl,q1⟩
def K4(ha:PE X a ta):PE X (.UnaryOp .Not a pos) (Mm ta):=by intro pins s σ H Q I h;refine UnaryOp_ (thn (ha pins s σ H _ I h) λv s1 ⟨x,H1,I1,r1,q1⟩=>?_);obtain⟨c,rfl,q1⟩:=q1;cases r1;exact not_of (Qt ⟨.bl (!c),H1,I1,rfl,q1⟩)
end
def SqL(K:W.Frag)(H:Hp)(a:Addr)(xs:List V):Prop:=
 Rd H a (.lst xs)\/
  ∃(o:Obj) (its:Array Value) (n:Nat),K.lookup a=some o/\o.cls=.type "list" /\ o.dict=none/\o.data=.seq its n/\its.size<=sizeLine/\Vals xs its.toList
def SqT(K:W.Frag)(H:Hp)(a:Addr)(xs:List V):Prop:=
 Rd H a (.tup xs)\/
  ∃(o:Obj) (its:Array Value) (n:Nat),K.lookup a=some o/\o.cls=.type "tuple" /\ o.data=.seq its n/\its.size<=sizeLine/\Vals xs its.toList
noncomputable def absV:Value->Option V
 |.none=>some .non
 |.bool b=>some (.bl b)
 |.int i _=>some (.int i)
 |.str x _=>some (.str x)
 |.bytes b _=>some (.byt b)
 |.float b _=>some (.flt b)
 |.ref a=>some (.ref a)
 |.type n=>some (.ty n)
 |_=>none
def RelV.abs(r:RelV x u):absV u=some x:=by
 cases x with
 |non=>cases r;rfl
 |bl _=>cases r;rfl
 |int _=>obtain⟨t,rfl⟩:=r;rfl
 |str _=>obtain⟨t,rfl⟩:=r;rfl
 |byt _=>obtain⟨t,rfl⟩:=r;rfl
 |flt _=>obtain⟨t,rfl⟩:=r;rfl
 |ref _=>cases r;rfl
 |ty _=>cases r;rfl
def RelV.inj(r:RelV x u)(q:RelV y u):x=y:=K_ (r.abs.symm.trans q.abs)
def Vals.inj(r:Vals xs us)(q:Vals ys us):xs=ys:=by
 induction r generalizing ys with
 |nil=>cases q;rfl
 |
  cons r t ih=>
  cases q with
  |cons q t'=>rw[r.inj q,ih t']
section
variable{X:Cx}{pins:Sb}{σ:St}{H:Hp}{s:Shared}{a:Addr}{xs ys:List V}
def SqL.of{K:W.Frag}(h:H a=some (.lst xs)):SqL K H a xs:=.inl (.inl h)
def SqT.of{K:W.Frag}(h:H a=some (.tup xs)):SqT K H a xs:=.inl (.inl h)
def Inv.list(I:Inv X pins σ H s)(h:SqL X.K H a xs):∃its:List Value,Vals xs its/\PlainL s.heap a its.toArray/\xs.length<=sizeLine:=by
 rcases h with h |⟨o,its,n,hk,hc,hd,hs,hz,r⟩
 .obtain⟨z,its,n,r,e⟩:=h.ok I.hok;exact⟨its,r,⟨_,n,e,rfl,rfl,rfl⟩,z⟩
 .refine⟨its.toList,r,⟨o,n,I.kIn a o hk,hc,hd,by simpa using hs⟩,?_⟩;have e:=r.length;simp only[PZ] at e;omega
def Inv.tuple(I:Inv X pins σ H s)(h:SqT X.K H a xs):∃its:List Value,Vals xs its/\IsTup s.heap a its.toArray/\xs.length<=sizeLine:=by
 rcases h with h |⟨o,its,n,hk,hc,hs,hz,r⟩
 .obtain⟨z,its,r,p⟩:=h.ok I.hok;exact⟨its,r,p,z⟩
 .refine⟨its.toList,r,⟨o,I.kIn a o hk,hc,n,by simpa using hs⟩,?_⟩;have e:=r.length;simp only[PZ] at e;omega
def Inv.list_inj(I:Inv X pins σ H s)(h:SqL X.K H a xs)(h':SqL X.K H a ys):xs=ys:=by
 obtain⟨its,r,⟨o,n,e,_,_,d⟩,_⟩:=I.list h;obtain⟨its',r',⟨o',n',e',_,_,d'⟩,_⟩:=I.list h';rw[e] at e';cases e';rw[d] at d';injection d' with d1 _;have:its=its':=by simpa using PF Array.toList d1
 subst this;exact r.inj r'
def Inv.tuple_inj(I:Inv X pins σ H s)(h:SqT X.K H a xs)(h':SqT X.K H a ys):xs=ys:=by
 obtain⟨its,r,⟨o,e,_,n,d⟩,_⟩:=I.tuple h;obtain⟨its',r',⟨o',e',_,n',d'⟩,_⟩:=I.tuple h';rw[e] at e';cases e';rw[d] at d';injection d' with d1 _;have:its=its':=by simpa using PF Array.toList d1
 subst this;exact r.inj r'
end
section
variable{X:Cx}{pins:Sb}{σ:St}{H:Hp}{s:Shared}{E:Sd}
end
section
variable{X:Cx}{st:Stmt}{gj:List Stmt}{t u:TS}{e:Expr}{te:TE}{pos:Pos}
def N9:TS:=λD σ H=>D.nx σ H
def tSeq(t u:TS):TS:=λD σ H=>t { D with nx:=u D } σ H
def F2:PSs X [] N9:=λ_ _ σ H _ I h=>RJ ⟨σ,H,I,h⟩
def Cv(h1:PS X st t)(h2:PSs X gj u):PSs X (st::gj) (tSeq t u):=by
 intro pins s σ H D I h;refine wpAny_execs_cons (thn (h1 pins s σ H { D with nx:=u D } I h) λf s1 q=>?_);cases f with
 |next=>obtain⟨σ',H',I',q⟩:=q;exact h2 pins s1 σ' H' D I' q
 |ret v=>exact q
 |brk=>exact q
 |cont=>exact q
def G0(h1:PS X st t):PSs X [st] t:=by
 intro pins s σ H D I h;refine wpAny_execs_cons (thn (h1 pins s σ H D I h) λf s1 q=>?_);cases f with
 |next=>exact RJ q
 |ret v=>exact q
 |brk=>exact q
 |cont=>exact q
def IU:TS:=λD σ H=>D.bk σ H
def Bw:PS X (.Break pos) IU:=λ_ _ σ H _ I h=>wpAny_Break ⟨σ,H,I,h⟩
def Inv.quiet(I:Inv X pins σ H s):interactive X.env=false:=by simp [interactive,I.ok.kind]
def OC(te:TE):TS:=λD σ H=>te σ H λ_ H1=>D.nx σ H1
def FO(he:PE X e te)(hs:swapsWith e none pos.line X.env=pure false):PS X (.Expr e pos) (OC te):=by intro pins s σ H D I h;exact wpAny_Expr_any (thn (he pins s σ H _ I h) λv s1 ⟨x,H1,I1,r1,q1⟩=>⟨σ,H1,I1,q1⟩) I.quiet hs
def tRet(te:TE):TS:=λD σ H=>te σ H D.rt
def Ko(he:PE X e te):PS X (.Return (some e) pos) (tRet te):=by intro pins s σ H D I h;exact wpAny_Return_some (thn (he pins s σ H _ I h) λv s1 ⟨x,H1,I1,r1,q1⟩=>⟨x,σ,H1,I1,r1,q1⟩)
def Ox:TS:=λD _ H=>D.rt .non H
def GP:PS X (.Return none pos) Ox:=λ_ _ σ H _ I h=>wpAny_Return_none ⟨.non,σ,H,I,rfl,h⟩
def tIfS(c:TT)(t u:TS):TS:=λD σ H=>c σ H λb H1=>if b=true then t D σ H1 else u D σ H1
def O6(hc:PT X c tc)(ha:PSs X a t)(hb:PSs X b u):PS X (.If c a b pos) (tIfS tc t u):=by
 intro pins s σ H D I h;refine wpAny_If (thn (hc pins s σ H _ I h) λd s1 ⟨H1,I1,q1⟩=>?_);cases d with
 |true=>exact ha pins s1 σ H1 D I1 q1
 |false=>exact hb pins s1 σ H1 D I1 q1
end
abbrev TG:=V->St->Hp->(St->Hp->Prop)->Prop
abbrev TGs:=List V->St->Hp->(St->Hp->Prop)->Prop
def PG(X:Cx)(target:Expr)(t:TG):Prop:=
 ∀
  (pins:Sb) (s:Shared) (σ:St) (H:Hp) (v:V) (u:Value) (Q:St->Hp->Prop),Inv X pins σ H s->RelV v u->t v σ H Q->
  wpAny (model X.prog X.w) X.A (assign target X.env u) (λ_ s'=>∃σ' H',Inv X pins σ' H' s'/\Q σ' H') X.xe s
def PGs(X:Cx)(ts:List Expr)(t:TGs):Prop:=
 ∀
  (pins:Sb) (s:Shared) (σ:St) (H:Hp) (vs:List V) (us:List Value) (Q:St->Hp->Prop),Inv X pins σ H s->Vals vs us->t vs σ H Q->
  wpAny (model X.prog X.w) X.A (assignInOrder ((assignEach ts X.env).map (·.2)) us) (λ_ s'=>∃σ' H',Inv X pins σ' H' s'/\Q σ' H') X.xe s
abbrev ya:=V->V->V->Hp->(Hp->Prop)->Prop
def so(X:Cx)(t:ya):Prop:=
 ∀
  (pins:Sb) (s:Shared) (σ:St) (H:Hp) (o i v:V) (ov iv u:Value) (Q:Hp->Prop),Inv X pins σ H s->RelV o ov->RelV i iv->RelV v u->t o i v H Q->
  wpAny (model X.prog X.w) X.A (setItem ov iv u) (λ_ s'=>∃H',Inv X pins σ H' s'/\Q H') X.xe s
abbrev TIp:=V->V->Hp->VK->Prop
def PIp(X:Cx)(op:Operator)(t:TIp):Prop:=
 ∀
  (pins:Sb) (s:Shared) (σ:St) (H:Hp) (x y:V) (v u:Value) (Q:VK),Inv X pins σ H s->RelV x v->RelV y u->t x y H Q->
  wpAny (model X.prog X.w) X.A (inplaceOp op v u) (EP X pins σ Q) X.xe s
section
variable{X:Cx}{pos:Pos}
def m5(i:Nat):TG:=λv σ H Q=>Q (σ.set i (some v)) H
def Fv(hN:X.N.Nodup)(hi:X.N[i]?=some x)(hx:Loc X.env.scope x)(hf:X.fn x=true\/X.env.scope.names.lookup x=some .local):PG X (.Name x pos) (m5 i):=by intro pins s σ H v u Q I r h;exact wpAny_assign_Name (gG I hN hi hx r (λs' I'=>⟨_,H,I',h⟩) hf)
def gNil:TGs:=λvs σ H Q=>vs=[]/\Q σ H
def NI(t:TG)(u:TGs):TGs:=λvs σ H Q=>∃v r,vs=v::r/\t v σ H λσ' H'=>u r σ' H' Q
def GJ:PGs X [] gNil:=by intro pins s σ H vs us Q I r h;obtain⟨e,h⟩:=h;subst e;cases r;exact assignInOrder_nil ⟨σ,H,I,h⟩
def Bj(h1:PG X e t)(h2:PGs X es u)
 (hs:(assignEach (e::es) X.env).map (·.2)=assign e X.env::(assignEach es X.env).map (·.2)):PGs X (e::es) (NI t u):=by
 intro pins s σ H vs us Q I r h;obtain⟨v,vr,e1,h⟩:=h;subst e1;cases r with
 |cons r rr=>rw[hs];refine assignInOrder_cons (thn (h1 pins s σ H _ _ _ I r h) λ_ s1 ⟨σ1,H1,I1,q1⟩=>?_);exact h2 pins s1 σ1 H1 _ _ Q I1 rr q1
def gTup(K:W.Frag)(n:Nat)(t:TGs):TG:=λv σ H Q=>∃a xs,v=.ref a/\SqT K H a xs/\xs.length=n/\t xs σ H Q
def IC(hc:X.calm=true)(h:PGs X es t)
 (hn:(assignEach es X.env).length=n) (hst:(assignEach es X.env).findIdx? (·.1)=none):PG X (.Tuple es k pos) (gTup X.K n t):=by
 intro pins s σ H v u Q I r hw;obtain⟨a,xs,e1,hq,hl,hw⟩:=hw;subst e1;cases r;obtain⟨its,rv,ht,hz⟩:=I.tuple hq;refine assign_Tuple_tuple (I.ok.hd hc) ht (by simp [hn,<- hl,rv.length]) hst λh' hx=>?_;have I1:Inv X pins σ H { s with heap:=h' }:=I.kept (t':=s.toks) λb o e=>hx b o (J_ (v_ e)) e;exact h pins _ σ H xs _ Q I1 (by simpa using rv) hw
def gSub(to ti:TE)(t:ya):TG:=λv σ H Q=>to σ H λo H1=>ti σ H1 λi H2=>t o i v H2 λH3=>Q σ H3
def Kx(ho:PE X o to)(hi:PE X i ti)(hs:so X t)
 (ha:∀v,assign (.Subscript o i pos) X.env v=(do
  let ov <- holding [v] (eval o X.env)
  let iv <- holding [v,ov] (eval i X.env)
  standAt pos
  holding [v,ov,iv] (setItem ov iv v)
  release [v,ov,iv] [])):PG X (.Subscript o i pos) (gSub to ti t):=by
 intro pins s σ H v u Q I r h;rw[ha];refine j_ (PU (thn (ho pins s σ H _ I h) λov s1 ⟨x,H1,I1,r1,q1⟩=>?_));refine j_ (PU (thn (hi pins s1 σ H1 _ I1 q1) λiv s2 ⟨y,H2,I2,r2,q2⟩=>?_));refine j_ (Rm (j_ (PU (thn (hs pins s2 σ H2 x y v ov iv u _ I2 r1 r2 r q2) λ_ s3 ⟨H3,I3,q3⟩=>?_))));exact wpAny_release ⟨σ,H3,I3,q3⟩
def sN(te:TE)(g:TG):TS:=λD σ H=>te σ H λx H1=>g x σ H1 D.nx
def Lf(he:PE X e te)(hg:PG X tg g)(hs:swapsWithSole [tg] e pos.line X.env=pure false)(hw:swappedStores [tg] e X.env=pure none)
 (h1:(assignEach [tg] X.env).map (·.2)=[assign tg X.env]):PS X (.Assign [tg] e pos) (sN te g):=by
 intro pins s σ H D I h;refine wpAny_Assign_stores (thn (he pins s σ H _ I h) λv s1 ⟨x,H1,I1,r1,q1⟩=>?_) hs hw;rw[h1];exact thn (hg pins s1 σ H1 x v _ I1 r1 q1) λ_ s2 q=>q
def Hm(hN:X.N.Nodup)(hi:X.N[i]?=some x)(hx:Loc X.env.scope x)(he:PE X e te)(hs:swapsWith e (some (.Name x h_)) pos.line X.env=pure false)(hf:X.fn x=true\/X.env.scope.names.lookup x=some .local):
 PS X (.Assign [.Name x h_] e pos) (sN te (m5 i)):=by
 intro pins s σ H D I h;refine wpAny_Assign_Name (thn (he pins s σ H _ I h) λv s1 ⟨y,H1,I1,r1,q1⟩=>?_) hs;exact gG I1 hN hi hx r1 (λs2 I2=>⟨_,H1,I2,q1⟩) hf
def tPar(i j:Nat)(ta:TA):TS:=λD σ H=>ta σ H λvs H1=>∃v w,vs=[v,w]/\D.nx ((σ.set i (some v)).set j (some w)) H1
def Ld{kt k2 pt2}(hc:X.calm=true)(hN:X.N.Nodup)(hi:X.N[i]?=some x)(hj:X.N[j]?=some y)(hij:i≠j)
 (hx:X.env.scope.names.lookup x=some .local) (hy:X.env.scope.names.lookup y=some .local) (ha:PA X [a,b] ta)
 (hw:swappedStores [.Tuple [.Name x px,.Name y py] kt pt] (.Tuple [a,b] k2 pt2) X.env=pure (some [x,y]))
 (hs:swapsWithSole [.Tuple [.Name x px,.Name y py] kt pt] (.Tuple [a,b] k2 pt2) pos.line X.env=pure false):
 PS X (.Assign [.Tuple [.Name x px,.Name y py] kt pt] (.Tuple [a,b] k2 pt2) pos) (tPar i j ta):=by
 intro pins s σ H D I h;rw[exec_Assign_arm];refine j_ (Rm ?_);rw[hs];refine j_ (u_ ?_);rw[if_neg (by decide)];refine j_ (Tuple_ (thn (ha _ pins s σ H _ I h) λus s1 ⟨vs,H1,I1,r1,q1⟩=>?_));obtain⟨v,w,e1,q1⟩:=q1;subst e1;obtain⟨u1,u2,rfl,rv,rw'⟩:∃u1 u2,us=[u1,u2]/\RelV v u1/\RelV w u2:=by
  cases r1 with
  |
   cons p q=>
   cases q with
   |cons p' q'=>cases q';exact⟨_,_,rfl,p,p'⟩
 refine PY ?_ (by show 2<=sizeLine;decide);have I2:Inv X pins σ H1 { s1 with heap:=s1.heap.push { cls:=.type "tuple",data:=.seq [u1,u2].toArray } }:=I1.kept (t':=s1.toks) λb o e=>l_ _ e;rw[hw];refine j_ (u_ ?_);show wpAny (model X.prog X.w) X.A (do rule "assign.swapped-stores";let items <- unpackItems (.ref s1.heap.objs.size) 2 none;assignInOrder [λv=>bindName X.env y v,λv=>bindName X.env x v] items.reverse;pure Flow.next) _ _ _;refine j_ (wpAny_rule (j_ (unpackItems_tuple (items:=#[u1,u2]) (I.ok.hd hc) (IsTup.new s1.heap _) λh' hx'=>?_)));have I3:=I2.kept (h':=h') (t':=s1.toks) λb o e=>hx' b o (J_ (v_ e)) e;show wpAny _ _ (assignInOrder [λv=>bindName X.env y v,λv=>bindName X.env x v] [u2,u1] >>= λ_=>pure Flow.next) _ _ _;refine j_ (assignInOrder_cons (wpAny_bindName (gG I3 hN hj (.inl hy) rw' (λs2 I4=>?_) (.inr hy))));refine assignInOrder_cons (wpAny_bindName (gG I4 hN hi (.inl hx) rv (λs3 I5=>assignInOrder_nil (u_ ?_)) (.inr hx)));rw[List.set_comm _ _ (Ne.symm hij)] at I5;exact⟨_,H1,I5,q1⟩
def tAug(i:Nat)(te:TE)(ti:TIp):TS:=λD σ H=>∃x,σ[i]?=some (some x)/\te σ H λy H1=>ti x y H1 λz H2=>D.nx (σ.set i (some z)) H2
def HU(hN:X.N.Nodup)(hi:X.N[i]?=some x)(hx:Loc X.env.scope x)(he:PE X e te)(ho:PIp X op ti)(hf:X.fn x=true\/X.env.scope.names.lookup x=some .local):
 PS X (.AugAssign (.Name x h_) op e pos) (tAug i te ti):=by
 intro pins s σ H D I h;obtain⟨v,e1,h⟩:=h;obtain⟨m,hn,hl⟩:=I.loc;have vis:Vis X.env.scope x:=by rcases hx with k |k;exact .inl k;exact .inr (.inl k)
 obtain⟨u,r,l⟩:=hl i x v hi e1 vis;refine wpAny_AugAssign_Name ?_;have go:wpAny (model X.prog X.w) X.A (eval e X.env) (λw s₂=>wpAny (model X.prog X.w) X.A (inplaceOp op u w) (λr s₃=>wpAny (model X.prog X.w) X.A (storeName X.env x r) (λ_=>SP X pins D .next) X.xe s₃) X.xe s₂) X.xe s:=by refine thn (he pins s σ H _ I h) λw s1 ⟨y,H1,I1,r1,q1⟩=>?_;refine thn (ho pins s1 σ H1 v y u w _ I1 r r1 q1) λz s2 ⟨zv,H2,I2,r2,q2⟩=>?_;exact gG I2 hN hi hx r2 (λs3 I3=>⟨_,H2,I3,q2⟩) hf
 rcases l with ⟨hk,hm⟩ |⟨hk,c,hc,jp⟩
 .exact RK I.ok.kind hk hn hm go
 .rcases hk with hk |hk
  .exact wpAny_loadName_cell I.ok.kind hk hc jp go
  .rcases hx with k |k
   .have:X.env.scope.names.lookup x=some .free:=hk;rw[k] at this;cases this
   .have:X.env.scope.names.lookup x=some .free:=hk;rw[k] at this;cases this
def ipI(f:Int->Int->Int):TIp:=λx y H Q=>∃i j,x=.int i/\y=.int j/\Q (.int (f i j)) H
def K2:PIp X .Add (ipI λi j=>i+j):=by intro pins s σ H x y v u Q I r1 r2 h;obtain⟨i,j,e1,e2,q⟩:=h;subst e1;subst e2;obtain⟨t,rfl⟩:=r1;obtain⟨t',rfl⟩:=r2;exact iadd_int ⟨.int _,H,I.tok _,⟨_,rfl⟩,q⟩
end
section
variable{X:Cx}{pos:Pos}
def JR(c:TT)(tb:TS):TS:=λD σ H=>∃W:Nat->St->Hp->Prop,(∃m,W m σ H)/\∀m σ H,W m σ H->
 c σ H λb H1=>if b=true then ∃N:St->Hp->Prop,(∀σ' H',N σ' H'->∃m',m'<m/\W m' σ' H')/\tb { D with nx:=N,ct:=N,bk:=D.nx } σ H1 else D.nx σ H1
def AV(hp:PassesOwn (model X.prog X.w) X.A X.env X.xe)(hc:PT X c tc)(hb:PSs X body tb):PS X (.While c body [] pos) (JR tc tb):=by
 intro pins s σ H D I h;obtain⟨W,⟨m0,w0⟩,turn⟩:=h;refine wpAny_While (codeAny_whileLoop (λn s'=>∃σ' H',Inv X pins σ' H' s'/\W n σ' H') ?_ m0 ⟨σ,H,I,w0⟩);rintro n s1 ⟨σ1,H1,I1,w1⟩;refine Qp hp (thn (hc pins s1 σ1 H1 _ I1 (turn n σ1 H1 w1)) λb s2 ⟨H2,I2,q2⟩=>?_);cases b with
 |
  true=>
  obtain⟨N,hN,q2⟩:=q2;rw[if_pos rfl];refine Qp hp (thn (hb pins s2 σ1 H2 _ I2 q2) λf s3 q3=>?_);cases f with
  |next=>obtain⟨σ3,H3,I3,n3⟩:=q3;obtain⟨m',hm,w3⟩:=hN σ3 H3 n3;exact⟨m',hm,σ3,H3,I3,w3⟩
  |cont=>obtain⟨σ3,H3,I3,n3⟩:=q3;obtain⟨m',hm,w3⟩:=hN σ3 H3 n3;exact⟨m',hm,σ3,H3,I3,w3⟩
  |brk=>exact q3
  |ret v=>exact q3
 |false=>rw[if_neg x_];exact RJ ⟨σ1,H2,I2,q2⟩
end
structure It where
 go:Nat->Hp->Prop
 yld:Nat->Hp->V->Hp->Prop
 stop:Nat->Hp->Prop
def FpOk(X:Cx)(pins:Sb)(H:Hp)(b:Addr):Prop:=
 H b=none/\b≠X.env.locals/\b∉X.fs/\(b∈X.ex\/X.s₀.heap.objs.size<=b)/\(∀x c,X.env.cells.lookup x=some c->c≠b)/\∀p∈X.pn++pins,p.1≠b
def Inv.fpOk(I:Inv X pins σ H s)(hb:s.heap.objs.size<=b)(hn:H' b=none):FpOk X pins H' b:=by
 refine⟨hn,QK (E_ I.lt hb),I.nofs hb,.inr (F_ I.sz hb),λx c e z=>?_,λp hp z=>?_⟩
 .obtain⟨v,q⟩:=I.cell x c e;exact absurd (E_ q.lt (by rw[z];exact hb)) (Py _)
 .exact absurd (E_ (v_ (I.pin p hp).1) (by rw[z];exact hb)) (Py _)
structure Turn(P:Program)(w:World)(K:W.Frag)(tg:Expr)(J:It)(fp:List Addr)(it:Addr)(tn:Nat->Heap->Prop):Prop where
 mem:it∈fp
 obj:∀i h,tn i h->∀b∈fp,∃o,h.get? b=some o/\∀v,o.data ≠ .cell v
 keep:∀i h h',tn i h->(∀b∈fp,∀o,h.get? b=some o->h'.get? b=some o)->tn i h'
 item:∀(X:Cx),X.prog=P->X.w=w->X.K=K->X.calm=true->∀(i:Nat) (pins:Sb) (s:Shared) (σ:St) (H:Hp) (E:Sd),Inv X pins σ H s->(∀b∈fp,FpOk X pins H b)->tn i s.heap->J.go i H->
  wpAny (model P w) X.A (pyNext (.ref it)) (λr s1=>∃u,r=some u/\
   wpAny (model P w) X.A (letOwnedTupleGo tg (.ref it) u) (λ_ s2=>∃x H',Inv X pins σ H' s2/\RelV x u/\J.yld i H x H'/\tn (i+1) s2.heap/\∀b∈fp,H' b=none) E s1) E s
 done:∀(X:Cx),X.prog=P->X.w=w->X.K=K->X.calm=true->∀(i:Nat) (pins:Sb) (s:Shared) (σ:St) (H:Hp) (E:Sd),Inv X pins σ H s->(∀b∈fp,FpOk X pins H b)->tn i s.heap->J.stop i H->
  wpAny (model P w) X.A (pyNext (.ref it)) (λr s1=>r=none/\Inv X pins σ H s1) E s
 self:∀(A:Around) (i:Nat) (s:Shared) (Q:Sd) (E:Sd),tn i s.heap->Q (.ref it) s->wpAny (model P w) A (pyIter (.ref it)) Q E s
abbrev TI:=St->Hp->(It->Hp->Prop)->Prop
def PIE(X:Cx)(pins:Sb)(σ:St)(tg:Expr)(R:It->Hp->Prop)(itv:Value)(s2:Shared):Prop:=
 ∃(it:Addr) (fp:List Addr) (tn:Nat->Heap->Prop) (J:It) (H':Hp),itv=.ref it/\Inv X pins σ H' s2/\Turn X.prog X.w X.K tg J fp it tn/\tn 0 s2.heap/\(∀b∈fp,FpOk X pins H' b)/\R J H'
def PI(X:Cx)(tg a_:Expr)(wi:TI):Prop:=
 ∀
  (pins:Sb) (s:Shared) (σ:St) (H:Hp) (R:It->Hp->Prop),Inv X pins σ H s->wi σ H R->
  wpAny (model X.prog X.w) X.A (eval a_ X.env) (λv s1=>wpAny (model X.prog X.w) X.A (pyIter v) (PIE X pins σ tg R) X.xe s1) X.xe s
def xP(ho:s.heap.get? it=some o)(hc:o.cls=.type n)(hd:o.data=.fields vs)
 (hn:["enumerate", "zip", "dict_itemiterator", "dict_reverseitemiterator", "odict_iterator", "itertools.zip_longest", "itertools.pairwise"].contains n=false) (hQ:Q () s):wpAny M A (letOwnedTupleGo tg (.ref it) u) Q E s:=by
 unfold letOwnedTupleGo;cases tg
  <;> first
  |exact u_ hQ
  |(cases u <;> first
   |exact u_ hQ
   |(
    refine j_ (wpAny_load ho ?_);rw[hc,hd];show wpAny M A (if (["enumerate", "zip", "dict_itemiterator", "dict_reverseitemiterator", "odict_iterator", "itertools.zip_longest", "itertools.pairwise"].contains n&&vs[0]?==some (rawInt _))=true then _ else _) Q E s;rw[if_neg (by intro h;rw[hn,Bool.false_and] at h;cases h)];exact u_ hQ))
noncomputable def Itl(K:W.Frag)(a:Addr):It:=
 ⟨λi H=>∃xs x,SqL K H a xs/\xs[i]?=some x,λi H x H'=>H'=H/\∀xs,SqL K H a xs->xs[i]?=some x,λi H=>∃xs,SqL K H a xs/\xs.length<=i⟩
noncomputable def Itt(K:W.Frag)(a:Addr):It:=
 ⟨λi H=>∃xs x,SqT K H a xs/\xs[i]?=some x,λi H x H'=>H'=H/\∀xs,SqT K H a xs->xs[i]?=some x,λi H=>∃xs,SqT K H a xs/\xs.length<=i⟩
noncomputable def Itr(lo:Int)(n:Nat):It:=⟨λi _=>i<n,λi H x H'=>H'=H/\x=.int (lo+i),λi _=>n<=i⟩
def yE{P:Program}{w:World}{K:W.Frag}{tg:Expr}(a it:Addr):Turn P w K tg (Itl K a) [it] it (λi h=>h.IsListIter it a i) where
 mem:=by simp
 obj:=λi h st b hb=>by
  have e:b=it:=by simpa using hb
  subst e;obtain⟨o,e,c,d⟩:=st;exact⟨o,e,λv z=>by rw[d] at z;cases z⟩
 keep:=λi h h' st k=>st.at λo e=>k it (by simp) o e
 item:=by intro X hP hw hK hc i pins s σ H E I hf st hg;subst hP hw hK;obtain⟨xs,x,hq,hx⟩:=hg;obtain⟨its,rv,p,hz⟩:=I.list hq;obtain⟨u,hu,ru⟩:=rv.get hx;obtain⟨f0,f1,f2,f3,f4,f5⟩:=hf it (by simp);refine wpAny_pyNext_list_item st p.isList (x:=u) (by simpa using hu) λh' st' sb=>?_;have I1:Inv X pins σ H { s with heap:=h' }:=I.turned (t':=s.toks) (λb o hb e=>(sb.2 b hb).trans e) f0 f1 f3 f4 f5;obtain⟨o,e,c,d⟩:=id st';exact⟨u,rfl,xP (s:={ s with heap:=h' }) e c d (by decide) ⟨x,H,I1,ru,⟨rfl,λys hy=>by rw[I.list_inj hy hq];exact hx⟩,st',λb hb=>(hf b hb).1⟩⟩
 done:=by intro X hP hw hK hc i pins s σ H E I hf st hg;subst hP hw hK;obtain⟨xs,hq,hx⟩:=hg;obtain⟨its,rv,p,hz⟩:=I.list hq;obtain⟨f0,f1,f2,f3,f4,f5⟩:=hf it (by simp);have hl:=rv.length;exact wpAny_pyNext_list_end (I.ok.hd hc) st p.isList (by simp;omega) λh' eb=>⟨rfl,I.turned (t':=s.toks) (λb o hb e=>eb b o hb e) f0 f1 f3 f4 f5⟩
 self:=λ_ _ _ _ _ st h=>wpAny_pyIter_listiter st h
def xt{P:Program}{w:World}{K:W.Frag}{tg:Expr}(a it:Addr):Turn P w K tg (Itt K a) [it] it (λi h=>h.IsTupleIter it a i) where
 mem:=by simp
 obj:=λi h st b hb=>by
  have e:b=it:=by simpa using hb
  subst e;obtain⟨o,e,c,d⟩:=st;exact⟨o,e,λv z=>by rw[d] at z;cases z⟩
 keep:=λi h h' st k=>st.at λo e=>k it (by simp) o e
 item:=by intro X hP hw hK hc i pins s σ H E I hf st hg;subst hP hw hK;obtain⟨xs,x,hq,hx⟩:=hg;obtain⟨its,rv,p,hz⟩:=I.tuple hq;obtain⟨u,hu,ru⟩:=rv.get hx;obtain⟨f0,f1,f2,f3,f4,f5⟩:=hf it (by simp);refine wpAny_pyNext_tuple_item st (show s.heap.IsTuple a its.toArray from p) (x:=u) (by simpa using hu) λh' st' sb=>?_;have I1:Inv X pins σ H { s with heap:=h' }:=I.turned (t':=s.toks) (λb o hb e=>(sb.2 b hb).trans e) f0 f1 f3 f4 f5;obtain⟨o,e,c,d⟩:=id st';exact⟨u,rfl,xP (s:={ s with heap:=h' }) e c d (by decide) ⟨x,H,I1,ru,⟨rfl,λys hy=>by rw[I.tuple_inj hy hq];exact hx⟩,st',λb hb=>(hf b hb).1⟩⟩
 done:=by intro X hP hw hK hc i pins s σ H E I hf st hg;subst hP hw hK;obtain⟨xs,hq,hx⟩:=hg;obtain⟨its,rv,p,hz⟩:=I.tuple hq;obtain⟨f0,f1,f2,f3,f4,f5⟩:=hf it (by simp);have hl:=rv.length;exact wpAny_pyNext_tuple_end (I.ok.hd hc) st (show s.heap.IsTuple a its.toArray from p) (by simp;omega) λh' eb=>⟨rfl,I.turned (t':=s.toks) (λb o hb e=>eb b o hb e) f0 f1 f3 f4 f5⟩
 self:=λ_ _ _ _ _ st h=>wpAny_pyIter_tupleiter st h
def xA{P:Program}{w:World}{K:W.Frag}{tg:Expr}(it:Addr)(lo:Int)(n:Nat):Turn P w K tg (Itr lo n) [it] it (λi h=>IsRangeIter h it (lo+(i:Nat)*1) ((n:Int)-(i:Nat)) 1) where
 mem:=by simp
 obj
  := λi h st b hb=>by
  have e:b=it:=by simpa using hb
  subst e;exact⟨_,st,λv z=>by have z':Data.fields _=Data.cell v:=z;cases z'⟩
 keep:=λi h h' st k=>k it (by simp) _ st
 item:=by intro X hP hw hK hc i pins s σ H E I hf st hg;subst hP hw hK;obtain⟨f0,f1,f2,f3,f4,f5⟩:=hf it (by simp);have W:=Walks.range (prog:=X.prog) (w:=X.w) (I.ok.hd hc) it lo 1 n;refine W.item i s _ _ hg st λv h' tk hv st' kk=>?_;obtain⟨t,rfl⟩:=hv;have I1:Inv X pins σ H { s with heap:=h',toks:=tk }:=I.turned (λb o hb e=>kk b o (by simpa using hb) e) f0 f1 f3 f4 f5;refine⟨_,rfl,xP (s:={ s with heap:=h',toks:=tk }) (n:="range_iterator") st' rfl rfl (by decide) ⟨.int (lo+i),H,I1,⟨t,?_⟩,⟨rfl,rfl⟩,st',λb hb=>(hf b hb).1⟩⟩;rw[Int.mul_one]
 done:=by intro X hP hw hK hc i pins s σ H E I hf st hg;subst hP hw hK;obtain⟨f0,f1,f2,f3,f4,f5⟩:=hf it (by simp);exact wpAny_pyNext_range_end (I.ok.hd hc) st (by have:n<=i:=hg;omega) λh' eb=>⟨rfl,I.turned (t':=s.toks) (λb o hb e=>eb b o hb e) f0 f1 f3 f4 f5⟩
 self:=λ_ _ _ _ _ st h=>wpAny_pyIter_rangeiter st h
section
variable{X:Cx}{tg:Expr}
def C1{pins:Sb}{σ:St}{H:Hp}{s:Shared}{R:It->Hp->Prop}{E:Sd}{lo hi:Int}{t u v:Tok}{tk:Nat}(I:Inv X pins σ H s)(h1:-(2^62)<=lo)(h2:lo<2^62)(h3:-(2^62)<=hi)(h4:hi<2^62)
 (q:R (Itr lo (hi-lo).toNat) H):wpAny (model X.prog X.w) X.A (pyIter (.ref s.heap.objs.size)) (PIE X pins σ tg R) E { s with heap:=s.heap.push { cls:=.type "range",data:=.fields #[.int lo t,.int hi u,.int 1 v] },toks:=tk }:=by
 refine wpAny_pyIter_range (IsRange.new ..) (small_one h1 h2 h3 h4) ?_;have I1:Inv X pins σ H { s with heap:=s.heap.push { cls:=.type "range",data:=.fields #[.int lo t,.int hi u,.int 1 v] },toks:=tk }:=I.kept λb o e=>l_ _ e;refine⟨(s.heap.push { cls:=.type "range",data:=.fields #[.int lo t,.int hi u,.int 1 v] }).objs.size,[(s.heap.push { cls:=.type "range",data:=.fields #[.int lo t,.int hi u,.int 1 v] }).objs.size],_,_,H,rfl,
  I1.kept (t':=tk) λb o e=>l_ _ e,xA _ lo (hi-lo).toNat,?_,λb hb=>?_,q⟩
 .have e1:lo+((0:Nat):Int)*1=lo:=by simp
  have e2:(((hi-lo).toNat:Nat):Int)-((0:Nat):Int)=Builtin.Range.rangeSize lo hi 1:=by rw[rangeSize_one];split <;> omega
  show IsRangeIter _ _ (lo+((0:Nat):Int)*1) ((((hi-lo).toNat:Nat):Int)-((0:Nat):Int)) 1;rw[e1,e2];exact C_ _ rfl
 .have e:b=(s.heap.push { cls:=.type "range",data:=.fields #[.int lo t,.int hi u,.int 1 v] }).objs.size:=by simpa using hb
  subst e;exact I1.fpOk (o_ _) (I1.hok.fresh (o_ _))
def OS(ta:TA):TI:=λσ H R=>ta σ H λvs H1=>∃j:Int,vs=[.int j]/\-(2^62)<=j/\j<2^62/\R (Itr 0 j.toNat) H1
def AL(hg:Gl X "range")(hm:X.mg "range"=none)(ha:PA X [a] ta)(hs:starEach [a] X.env=[(false,eval a X.env)]):PI X tg (.Call (.Name "range" p) [a] [] pos) (OS ta):=by
 intro pins s σ H R I h;refine Call_ (f6 I hg hm boot_range (Qj (thn (ha pos pins s σ H _ I h) λus s1 ⟨vs,H1,I1,r1,q1⟩=>?_) hs rfl));obtain⟨j,e,q1,q2,q⟩:=q1;subst e;cases r1 with
 |cons r rr=>cases rr;obtain⟨t,rfl⟩:=r;exact call_range_1 (C1 I1 (by omega) (by omega) q1 q2 (by simpa using q))
def tFor(wi:TI)(g:TG)(tb:TS):TS:=λD σ H=>wi σ H λJ H1=>∃W:Nat->Nat->St->Hp->Prop,(∃m,W 0 m σ H1)/\∀i m σ H,W i m σ H->
 (J.stop i H/\D.nx σ H)\/(J.go i H/\∃N:St->Hp->Prop,(∀σ' H',N σ' H'->∃m',m'<m/\W (i+1) m' σ' H')/\∀x H',J.yld i H x H'->g x σ H' λσ2 H2=>tb { D with nx:=N,ct:=N,bk:=D.nx } σ2 H2)
noncomputable def ka(fp:List Addr)(h:Heap):List (Addr×Obj):=fp.filterMap λb=>(h.get? b).map λo=>(b,o)
def gm(hb:b∈fp)(e:h.get? b=some o):(b,o)∈ka fp h:=List.mem_filterMap.mpr ⟨b,hb,by rw[e];rfl⟩
def Ao(hp:p∈ka fp h):p.1∈fp/\h.get? p.1=some p.2:=by
 obtain⟨b,hb,e⟩:=List.mem_filterMap.mp hp;cases q:h.get? b with
 |none=>rw[q] at e;cases e
 |some o=>rw[q] at e;have e':(b,o)=p:=K_ e;subst e';exact⟨hb,q⟩
def Inv.pinned(I:Inv X pins σ H s)(hf:∀b∈fp,FpOk X pins H b)(ho:∀b∈fp,∃o,s.heap.get? b=some o/\∀v,o.data ≠ .cell v):Inv X (pins++ka fp s.heap) σ H s:=
 I.pins_of λp hp=>(Qo.mp hp).elim (λz=>I.pin p (Pb _ z)) λz=>by obtain⟨hb,e⟩:=Ao z;obtain⟨f0,f1,f2,_⟩:=hf p.1 hb;obtain⟨o,e',d⟩:=ho p.1 hb;rw[e] at e';cases e';exact⟨e,f0,f1,f2,d⟩
def Inv.unpinned(I:Inv X (pins++pl) σ H s):Inv X pins σ H s:=I.pins_of λp hp=>I.pin p (Pb _ (RC _ hp))
def K3(hp:PassesOwn (model X.prog X.w) X.A X.env X.xe)(hc:X.calm=true)(hi:PI X tg a_ wi)(hg:PG X tg g)(hb:PSs X body tb)
 (hs:∀x,foldedSetIterable a_ X.env x=pure x):PS X (.For tg a_ body [] pos) (tFor wi g tb):=by
 intro pins s σ H D I h;refine wpAny_For (thn (hi pins s σ H _ I h) λv s1 h1=>thn h1 λitv s2 h2=>?_) hs;obtain⟨it,fp,tn,J,H2,e,I2,T,st2,f2,W,⟨m0,w0⟩,turn⟩:=h2;subst e;have stat:∀{H':Hp},(∀b∈fp,H' b=none)->∀b∈fp,FpOk X pins H' b:=λhn b hb=>⟨hn b hb,(f2 b hb).2⟩;refine codeAny_forLoop_any (λn s'=>∃i σ' H',Inv X pins σ' H' s'/\tn i s'.heap/\(∀b∈fp,H' b=none)/\W i n σ' H') ?_ m0 ⟨0,σ,H2,I2,st2,λb hb=>(f2 b hb).1,w0⟩;rintro n s3 ⟨i,σ3,H3,I3,st3,fr3,w3⟩;rcases turn i n σ3 H3 w3 with ⟨stop,qn⟩ |⟨go,N,hN,step⟩
 .refine Qp hp (thn (T.done X rfl rfl rfl hc i pins s3 σ3 H3 X.xe I3 (stat fr3) st3 stop) λr s4 ⟨hr,I4⟩=>?_);subst hr;exact RJ ⟨σ3,H3,I4,qn⟩
 .refine Qp hp (thn (T.item X rfl rfl rfl hc i pins s3 σ3 H3 X.xe I3 (stat fr3) st3 go) λr s4 ⟨u,hr,h4⟩=>?_);subst hr;refine Qp hp (thn h4 λ_ s5 ⟨x,H5,I5,r5,y5,st5,fr5⟩=>?_);have I5':=I5.pinned (stat fr5) (T.obj _ _ st5);refine Qp hp (thn (hg _ s5 σ3 H5 x u _ I5' r5 (step x H5 y5)) λ_ s6 ⟨σ6,H6,I6,q6⟩=>?_);refine Qp hp (thn (hb _ s6 σ6 H6 _ I6 q6) λf s7 q7=>?_);have again:∀{σ7:St}{H7:Hp},Inv X (pins++ka fp s5.heap) σ7 H7 s7->N σ7 H7->∃m,m<n/\∃i σ' H',Inv X pins σ' H' s7/\tn i s7.heap/\(∀b∈fp,H' b=none)/\W i m σ' H':=λ{σ7 H7} I7 n7=>by obtain⟨m',hm,w7⟩:=hN σ7 H7 n7;refine⟨m',hm,i+1,σ7,H7,I7.unpinned,T.keep _ _ _ st5 λb hb o e=>(I7.pin (b,o) (Pb _ (Pb _ (gm hb e)))).1,λb hb=>?_,w7⟩;obtain⟨o,e,d⟩:=T.obj _ _ st5 b hb;exact (I7.pin (b,o) (Pb _ (Pb _ (gm hb e)))).2.1
  cases f with
  |next=>obtain⟨σ7,H7,I7,n7⟩:=q7;exact again I7 n7
  |cont=>obtain⟨σ7,H7,I7,n7⟩:=q7;exact again I7 n7
  |brk=>obtain⟨σ7,H7,I7,q7⟩:=q7;exact⟨σ7,H7,I7.unpinned,q7⟩
  |ret v=>obtain⟨x7,σ7,H7,I7,r7,q7⟩:=q7;exact⟨x7,σ7,H7,I7.unpinned,r7,q7⟩
end
abbrev R2:=V->V->Hp->VK->Prop
def OpR(X:Cx)(f:Value->Value->Sem Value)(r:R2):Prop:=
 ∀
  (pins:Sb) (s:Shared) (σ:St) (H:Hp) (x y:V) (v u:Value) (Q:VK),Inv X pins σ H s->RelV x v->RelV y u->r x y H Q->
  wpAny (model X.prog X.w) X.A (f v u) (EP X pins σ Q) X.xe s
def UnR(X:Cx)(f:Value->Sem Value)(r:V->Hp->VK->Prop):Prop:=
 ∀
  (pins:Sb) (s:Shared) (σ:St) (H:Hp) (x:V) (v:Value) (Q:VK),Inv X pins σ H s->RelV x v->r x H Q->
  wpAny (model X.prog X.w) X.A (f v) (EP X pins σ Q) X.xe s
def CallR(X:Cx)(f:Value)(r:List V->Hp->VK->Prop):Prop:=
 ∀
  (pins:Sb) (s:Shared) (σ:St) (H:Hp) (xs:List V) (us:List Value) (Q:VK),Inv X pins σ H s->Vals xs us->r xs H Q->
  wpAny (model X.prog X.w) X.A (call f us) (EP X pins σ Q) X.xe s
def TruR(X:Cx)(r:V->Hp->(Bool->Hp->Prop)->Prop):Prop:=
 ∀
  (pins:Sb) (s:Shared) (σ:St) (H:Hp) (x:V) (v:Value) (Q:Bool->Hp->Prop),Inv X pins σ H s->RelV x v->r x H Q->
  wpAny (model X.prog X.w) X.A (truthy v) (TP X pins σ Q) X.xe s
def tOp(r:R2)(ta tb:TE):TE:=λσ H Q=>ta σ H λx H1=>tb σ H1 λy H2=>r x y H2 Q
def tUn(r:V->Hp->VK->Prop)(ta:TE):TE:=λσ H Q=>ta σ H λx H1=>r x H1 Q
def rI(C:Int->Int->Prop)(g:Int->Int->V):R2:=λx y H Q=>∃i j,x=.int i/\y=.int j/\C i j/\Q (g i j) H
def rI0(g:Int->Int->V):R2:=λx y H Q=>∃i j,x=.int i/\y=.int j/\Q (g i j) H
def rU(g:Int->V):V->Hp->VK->Prop:=λx H Q=>∃i,x=.int i/\Q (g i) H
section
variable{X:Cx}{a b c:Expr}{ta tb tc:TE}{pos:Pos}
def BN(ha:PE X a ta)(hb:PE X b tb){pins:Sb}{s:Shared}{σ:St}{H:Hp}{R:V->V->Hp->Prop}(I:Inv X pins σ H s)
 (h:ta σ H λx H1=>tb σ H1 λy H2=>R x y H2) {Q:Sd}{f:Value->Value->Sem Value}
 (hf:∀v u s2 x y H2,Inv X pins σ H2 s2->RelV x v->RelV y u->R x y H2->wpAny (model X.prog X.w) X.A (f v u) Q X.xe s2):
 wpAny (model X.prog X.w) X.A (eval a X.env) (λv s₁=>wpAny (model X.prog X.w) X.A (eval b X.env) (λu s₂=>wpAny (model X.prog X.w) X.A (f v u) Q X.xe s₂) X.xe s₁) X.xe s:=by
 refine thn (ha pins s σ H _ I h) λv s1 ⟨x,H1,I1,r1,q1⟩=>?_;refine thn (hb pins s1 σ H1 _ I1 q1) λu s2 ⟨y,H2,I2,r2,q2⟩=>?_;exact hf v u s2 x y H2 I2 r1 r2 q2
def Ow(ho:OpR X (binaryOp op) r)(ha:PE X a ta)(hb:PE X b tb):PE X (.BinOp a op b pos) (tOp r ta tb):=by intro pins s σ H Q I h;exact wpAny_BinOp (BN ha hb I h λv u s2 x y H2 I2 rx ry q=>ho pins s2 σ H2 x y v u Q I2 rx ry q)
def ON(ho:UnR X (unaryOp op) r)(ha:PE X a ta):PE X (.UnaryOp op a pos) (tUn r ta):=by intro pins s σ H Q I h;exact UnaryOp_ (thn (ha pins s σ H _ I h) λv s1 ⟨x,H1,I1,r1,q1⟩=>ho pins s1 σ H1 x v Q I1 r1 q1)
def opI{f:Value->Value->Sem Value}{C:Int->Int->Prop}{g:Int->Int->Int}
 (rule:∀(i j:Int) (t u:Tok) (s:Shared) (Q:Sd) (E:Sd),C i j->Q (.int (g i j) s.toks) { s with toks:=s.toks+1 }->wpAny (model X.prog X.w) X.A (f (.int i t) (.int j u)) Q E s):
 OpR X f (rI C λi j=>.int (g i j)):=by
 intro pins s σ H x y v u Q I rx ry h;obtain⟨i,j,rfl,rfl,hc,q⟩:=h;obtain⟨t,rfl⟩:=rx;obtain⟨t',rfl⟩:=ry;exact rule i j t t' s _ _ hc ⟨.int (g i j),H,I.tok _,⟨_,rfl⟩,q⟩
def opI0{f:Value->Value->Sem Value}{g:Int->Int->Int}
 (rule:∀(i j:Int) (t u:Tok) (s:Shared) (Q:Sd) (E:Sd),Q (.int (g i j) s.toks) { s with toks:=s.toks+1 }->wpAny (model X.prog X.w) X.A (f (.int i t) (.int j u)) Q E s):
 OpR X f (rI0 λi j=>.int (g i j)):=by
 intro pins s σ H x y v u Q I rx ry h;obtain⟨i,j,rfl,rfl,q⟩:=h;obtain⟨t,rfl⟩:=rx;obtain⟨t',rfl⟩:=ry;exact rule i j t t' s _ _ ⟨.int (g i j),H,I.tok _,⟨_,rfl⟩,q⟩
def BI{f:Value->Value->Sem Value}{g:Int->Int->Bool}
 (rule:∀(i j:Int) (t u:Tok) (s:Shared) (Q:Sd) (E:Sd),Q (.bool (g i j)) s->wpAny (model X.prog X.w) X.A (f (.int i t) (.int j u)) Q E s):
 OpR X f (rI0 λi j=>.bl (g i j)):=by
 intro pins s σ H x y v u Q I rx ry h;obtain⟨i,j,rfl,rfl,q⟩:=h;obtain⟨t,rfl⟩:=rx;obtain⟨t',rfl⟩:=ry;exact rule i j t t' s _ _ ⟨.bl (g i j),H,I,rfl,q⟩
def gi(i j:Int):Prop:=0<=j/\j<=1000000/\i.natAbs<2^64
def CMul(i j:Int):Prop:=(-(2^64)<i/\i<2^64)\/(-(2^64)<j/\j<2^64)
def CMul.ok(h:CMul i j):IntMulOk i j:=by
 rcases h with ⟨h1,h2⟩ |⟨h1,h2⟩
 .exact .of_left (intBits_le_64 h1 h2)
 .exact .of_right (intBits_le_64 h1 h2)
def J1:OpR X (binaryOp .Add) (rI0 λi j=>.int (i+j)):=opI0 λ_ _ _ _ _ _ _ q=>add_int q
def Ln:OpR X (binaryOp .Sub) (rI0 λi j=>.int (i-j)):=opI0 λ_ _ _ _ _ _ _ q=>sub_int q
def LG:OpR X (binaryOp .Mult) (rI CMul λi j=>.int (i*j)):=opI λ_ _ _ _ _ _ _ hc q=>mul_int q hc.ok
def Gu:OpR X (binaryOp .Mod) (rI (λ_ j=>j≠0) λi j=>.int (i.fmod j)):=opI λ_ _ _ _ _ _ _ hc q=>mod_int' hc q
def IA:OpR X (binaryOp .Pow) (rI gi λi j=>.int (i^j.toNat)):=opI λ_ _ _ _ _ _ _ hc q=>pow_int_small hc.1 hc.2.1 hc.2.2 q
def Jw:OpR X (binaryOp .LShift) (rI gi λi j=>.int (i*2^j.toNat)):=opI λ_ _ _ _ _ _ _ hc q=>lshift_int_small hc.1 hc.2.1 hc.2.2 q
def unI{f:Value->Sem Value}{g:Int->Int}
 (rule:∀(i:Int) (t:Tok) (s:Shared) (Q:Sd) (E:Sd),Q (.int (g i) s.toks) { s with toks:=s.toks+1 }->wpAny (model X.prog X.w) X.A (f (.int i t)) Q E s):
 UnR X f (rU λi=>.int (g i)):=by
 intro pins s σ H x v Q I rx h;obtain⟨i,rfl,q⟩:=h;obtain⟨t,rfl⟩:=rx;exact rule i t s _ _ ⟨.int (g i),H,I.tok _,⟨_,rfl⟩,q⟩
def Jo:UnR X (unaryOp .USub) (rU λi=>.int (-i)):=unI λ_ _ _ _ _ q=>neg_int q
end
section
variable{X:Cx}{a b c:Expr}{ta tb tc:TE}{pos:Pos}
def Ai(I:Inv X pins σ H s)(q:Q (.bl k) H)(e:k=k'):EP X pins σ Q (.bool k') s:=by subst e;exact⟨.bl k,H,I,rfl,q⟩
def DN:OpR X (compareOp .Lt) (rI0 λi j=>.bl (decide (i<j))):=BI λ_ _ _ _ _ _ _ q=>lt_int q
def DP:OpR X (compareOp .Gt) (rI0 λi j=>.bl (decide (j<i))):=BI λ_ _ _ _ _ _ _ q=>gt_int q
def DV:OpR X (compareOp .GtE) (rI0 λi j=>.bl (decide (j<=i))):=BI λ_ _ _ _ _ _ _ q=>ge_int q
def OpR.or(h:OpR X f r)(h':OpR X f r'):OpR X f (λx y H Q=>r x y H Q\/r' x y H Q):=by
 intro pins s σ H x y v u Q I rx ry q;rcases q with q |q
 .exact h pins s σ H x y v u Q I rx ry q
 .exact h' pins s σ H x y v u Q I rx ry q
def Ab(b:Expr)(h:op ≠ .In:=by decide)(h2:op ≠ .NotIn:=by decide):behindInMarks op b=false:=by
 have e1:(op==CmpOp.In)=false:=by cases op <;> first |rfl |exact absurd rfl h
 have e2:(op==CmpOp.NotIn)=false:=by cases op <;> first |rfl |exact absurd rfl h2
 cases b <;> simp [behindInMarks,e1,e2]
def EF(ho:OpR X (compareOp op) r)(ha:PE X a ta)(hb:PE X b tb)(hm:behindInMarks op b=false):PE X (.Compare a [op] [b] pos) (tOp r ta tb):=by intro pins s σ H Q I h;exact wpAny_Compare1 (BN ha hb I h λv u s2 x y H2 I2 rx ry q=>ho pins s2 σ H2 x y v u Q I2 rx ry q) hm
def N2(t:TE):TT:=λσ H Q=>t σ H λx H'=>∃k,x=.bl k/\Q k H'
def Fg(ho:OpR X (compareOp op) r)(ha:PE X a ta)(hb:PE X b tb)(hm:behindInMarks op b=false):PT X (.Compare a [op] [b] pos) (N2 (tOp r ta tb)):=by
 intro pins s σ H Q I h;refine wpAny_isTrue_Compare1 (thn (ha pins s σ H _ I h) λv s1 ⟨x,H1,I1,r1,q1⟩=>thn (hb pins s1 σ H1 _ I1 q1) λu s2 ⟨y,H2,I2,r2,q2⟩=>
  thn (ho pins s2 σ H2 x y v u _ I2 r1 r2 q2) λc s3 ⟨z,H3,I3,r3,k,e,q3⟩=>?_) hm
 subst e;cases r3;exact Qt ⟨H3,I3,q3⟩
def Ds(K:W.Frag)(x:V)(H:Hp)(k:Bool):Prop:=
 match x with
 |.non=>k=false
 |.bl b=>k=b
 |.int i=>k=(i != 0)
 |.str y=>y.length<=sizeLine/\k=((y.length:Int) != 0)
 |.byt y=>y.size<=sizeLine/\k=((y.size:Int) != 0)
 |.ref p=>(∃xs,SqL K H p xs/\k=!xs.isEmpty)\/(∃xs,SqT K H p xs/\k=!xs.isEmpty)\/∃kvs,H p=some (.dK kvs)/\k=!kvs.isEmpty
 |_=>False
def yn(r:KV kvs vs):(!vs.isEmpty)=!kvs.isEmpty:=by cases r <;> rfl
def mO(r:Vals xs its):(!its.toArray.isEmpty)=!xs.isEmpty:=by cases r <;> simp
def iY:(sizeLine:Nat)<2^63:=by rw[sizeLine_eq];decide
def Lq:TruR X (λx H Q=>∃k,Ds X.K x H k/\Q k H):=by
 intro pins s σ H x v Q I rx h;obtain⟨k,e,q⟩:=h;have hl:=iY;have hs:sizeLine=16777216:=sizeLine_eq;cases x with
 |non=>cases rx;have e':k=false:=e;subst e';exact truthy_none ⟨H,I,q⟩
 |bl b=>cases rx;have e':k=b:=e;subst e';exact Qt ⟨H,I,q⟩
 |int i=>obtain⟨t,rfl⟩:=rx;have e':k=(i != 0):=e;subst e';exact PySem.P.truthy_int ⟨H,I,q⟩
 |str y=>obtain⟨t,rfl⟩:=rx;obtain⟨hy,e'⟩:y.length<=sizeLine/\k=((y.length:Int) != 0):=e;subst e';exact PySem.P.truthy_str (by omega) ⟨H,I.tok _,q⟩
 |byt y=>obtain⟨t,rfl⟩:=rx;obtain⟨hy,e'⟩:y.size<=sizeLine/\k=((y.size:Int) != 0):=e;subst e';exact W.truthy_bytes (by omega) ⟨H,I.tok _,q⟩
 |
  ref p=>
  cases rx;have e':(∃xs,SqL X.K H p xs/\k=!xs.isEmpty)\/(∃xs,SqT X.K H p xs/\k=!xs.isEmpty)\/∃kvs,H p=some (.dK kvs)/\k=!kvs.isEmpty:=e;rcases e' with ⟨xs,hx,e'⟩ |⟨xs,hx,e'⟩ |⟨kvs,hx,e'⟩
  .subst e';obtain⟨its,r,pl,hz⟩:=I.list hx;have be:=r.length;exact wpAny_truthy_list pl.isList (by simp only[t_];omega) ⟨H,I.tok _,by rw[mO r];exact q⟩
  .subst e';obtain⟨its,r,pl,hz⟩:=I.tuple hx;have be:=r.length;exact truthy_tuple pl (by simp only[t_];omega) ⟨H,I.tok _,by rw[mO r];exact q⟩
  .subst e';obtain⟨hz,hS,vs,r,m⟩:kvs.length<=sizeLine/\(p==sysModules)=false/\∃vs,KV kvs vs/\s.heap.DictOf (bD X.prog X.w) p vs:=I.hok p _ hx;have be:kvs.length=vs.length:=RP r;exact wpAny_truthy_dict hS m (by omega) ⟨H,I.tok _,by rw[yn r];exact q⟩
 |_=>exact (show False from e).elim
def Cw(ha:PE X a ta)(he:∀c_,isTrue a X.env c_=(do let v <- c_;standAt a.pos;holding [v] (truthy v))):
 PT X a (λσ H Q=>ta σ H λx H'=>∃k,Ds X.K x H' k/\Q k H'):=by
 intro pins s σ H Q I h;exact isTrue_plain (thn (ha pins s σ H _ I h) λv s1 ⟨x,H1,I1,r1,q1⟩=>Lq pins s1 σ H1 x v Q I1 r1 q1) (he _)
def fb(r:Vals [x] us):∃u,us=[u]/\RelV x u:=by
 cases r with
 |cons r1 r2=>cases r2;exact⟨_,rfl,r1⟩
def qN(r:Vals [x,y] us):∃u w',us=[u,w']/\RelV x u/\RelV y w':=by
 cases r with
 |
  cons r1 r2=>
  cases r2 with
  |cons r3 r4=>cases r4;exact⟨_,_,rfl,r1,r3⟩
def CO:CallR X (.builtin "abs") (λxs H Q=>∃i,xs=[.int i]/\Q (.int (if i<0 then -i else i)) H):=by intro pins s σ H xs us Q I r h;obtain⟨i,rfl,q⟩:=h;obtain⟨u,rfl,t,rfl⟩:=fb r;exact call_abs_int λu tk=>⟨.int (if i<0 then -i else i),H,I.tok _,⟨_,rfl⟩,q⟩
def As(hc:X.calm=true):CallR X (.builtin "max") (λxs H Q=>∃i j,xs=[.int i,.int j]/\Q (.int (if j>i then j else i)) H):=by
 intro pins s σ H xs us Q I r h;obtain⟨i,j,rfl,q⟩:=h;obtain⟨u,w',rfl,⟨t,rfl⟩,⟨t',rfl⟩⟩:=qN r;refine max_two_ints (I.ok.hd hc) λh' tk k=>⟨_,H,I.kept k,?_,q⟩;by_cases hj:j>i
 .rw[if_pos hj,if_pos hj];exact⟨_,rfl⟩
 .rw[if_neg hj,if_neg hj];exact⟨_,rfl⟩
def Ar(hc:X.calm=true):CallR X (.builtin "min") (λxs H Q=>∃i j,xs=[.int i,.int j]/\Q (.int (if j<i then j else i)) H):=by
 intro pins s σ H xs us Q I r h;obtain⟨i,j,rfl,q⟩:=h;obtain⟨u,w',rfl,⟨t,rfl⟩,⟨t',rfl⟩⟩:=qN r;refine min_two_ints (I.ok.hd hc) λh' tk k=>⟨_,H,I.kept k,?_,q⟩;by_cases hj:j<i
 .rw[if_pos hj,if_pos hj];exact⟨_,rfl⟩
 .rw[if_neg hj,if_neg hj];exact⟨_,rfl⟩
def Aq:CallR X (.type "int") (λxs H Q=>(∃i,xs=[.int i]/\Q (.int i) H)\/∃k,xs=[.bl k]/\Q (.int (if k then 1 else 0)) H):=by
 intro pins s σ H xs us Q I r h;rcases h with ⟨i,rfl,q⟩ |⟨k,rfl,q⟩
 .obtain⟨u,rfl,t,rfl⟩:=fb r;exact call_int_int ⟨.int i,H,I,⟨_,rfl⟩,q⟩
 .obtain⟨u,rfl,r1⟩:=fb r;cases r1;exact call_int_bool ⟨.int (if k then 1 else 0),H,I.tok _,⟨_,rfl⟩,q⟩
end
structure ObjM(h:Heap)(x dx C:Addr)(mA:Sa):Prop where
 obj:h.get? x=some (W.instObj C dx)
 ns:h.Ns1 dx mA
 ne:dx≠x
def yL{h:Heap}{dx:Addr}{mA:Sa}(n:h.Ns1 dx mA):∃od,h.get? dx=some od/\∀name,W.lookIn name od=some (mA name):=by
 obtain⟨o,es,ep,ho,hd,hk,_,hm⟩:=n;refine⟨o,ho,λname=>?_⟩;have e:=hm name;unfold nsFind findBy at e;rw[<- Array.find?_toList] at e;unfold W.lookIn;rw[hd];dsimp only;split
 .rename_i y q;rw[q] at e;exact PF some e
 .rename_i q;rw[q] at e;have a:es.toList.any (·.refKey)=false:=by rw[List.any_eq_false];intro y hy;obtain⟨z,t,hkey⟩:=hk y (Array.mem_toList_iff.mp hy);simp [DictEntry.refKey,hkey]
  have a':¬ es.toList.any (·.refKey)=true:=by rw[a];exact x_
  rw[if_neg a'];exact PF some e
def ObjM.look(I:ObjM h x dx C mA):∃od,W.InstAt h x (W.instObj C dx) C (some od)/\∀name,W.lookIn name od=some (mA name):=
 let ⟨od,ho,hl⟩:=yL I.ns
 ⟨od,⟨I.obj,rfl,rfl,ho⟩,hl⟩
section
variable{prog:Program}{w:World}{A:Around}{E:Sd}{s:Shared}{K:W.Frag}{x dx C f:Addr}{mA:Sa}{name:Str}{v:Value}
end
def RelO.some_of(r:RelO (some v) o):∃u,o=some u/\RelV v u:=by
 cases o with
 |none=>exact (show False from r).elim
 |some u=>exact⟨u,rfl,r⟩
section
variable{P:Program}{w:World}{H H':Hp}{h h':Heap}{a C dx:Addr}{fs fs':List (Str×V)}
def FQ(hok:HOk P w H h)(e:H a=some (.ins C dx fs)):∃mA,ObjM h a dx C mA/\(∀f,RelO (fs.lookup f) (mA f))/\PySem.Within mA (fs.map (·.1))/\fs.length<=1000/\H dx=some (.own a):=by obtain⟨d,z,ne,ob,mA,n,r,q⟩:=(show ObjOk P w H h a (.ins C dx fs) from hok a _ e);exact⟨mA,⟨ob,n,ne⟩,r,q,z,d⟩
end
structure Cls(K:W.Frag)(C:Addr):Prop where
 pg:W.plainGet K C Str.empty=true
 hd:W.hasDictIn K C=true
 po:W.plainOver K C=true
 sa:W.findIn K (.ref C) "__setattr__"=some (some (.builtin "object.__setattr__"))
def Cls.get{K:W.Frag}{C:Addr}(c:Cls K C)(f:Str):W.plainGet K C f=true:=c.pg
section
variable{X:Cx}{pins:Sb}{σ:St}{H:Hp}{s:Shared}{a C dx:Addr}{fs:List (Str×V)}{f:Str}{v:V}{A:Around}{E:Sd}
end
section
variable{X:Cx}{o e value:Expr}{f:Str}{pos h_ tpos:Pos}{ta tv:TE}
end
section
variable{X:Cx}{pins:Sb}{σ:St}{H:Hp}{s:Shared}{A:Around}{E:Sd}{Q:Sd}{c:Value}{b:Bool}
inductive TyOf(K:W.Frag)(H:Hp):V->Value->Prop where
 |non:TyOf K H .non (.type "NoneType")
 |bl (x:Bool):TyOf K H (.bl x) (.type "bool")
 |int (i:Int):TyOf K H (.int i) (.type "int")
 |str (x:Str):TyOf K H (.str x) (.type "str")
 |flt (x:UInt64):TyOf K H (.flt x) (.type "float")
 |lst {a:Addr}{xs:List V} (e:H a=some (.lst xs)):TyOf K H (.ref a) (.type "list")
 |frz {a:Addr}{o:Obj}{xs:List V} (e:H a=some (.frz o (.lst xs))):TyOf K H (.ref a) (.type "list")
 |tup {a:Addr}{xs:List V} (e:H a=some (.tup xs)):TyOf K H (.ref a) (.type "tuple")
 |dK {a:Addr}{kvs:List (Key×V)} (e:H a=some (.dK kvs)):TyOf K H (.ref a) (.type "dict")
 |dT {a:Addr}{kvs:List (List Key×V)} (e:H a=some (.dT kvs)):TyOf K H (.ref a) (.type "dict")
 |ins {a C dx:Addr}{fs:List (Str×V)} (e:H a=some (.ins C dx fs)) (cl:Cls K C) (ha:W.findIn K (.ref C) "__class__"=some (some (.builtin "object.__class__")))
  (hn:W.specialIn K (.builtin "object.__class__") "__get__"=some (some (.builtin "getset_descriptor.__get__"))) (htk:W.takesIn K (.builtin "object.__class__")=some true)
  (hm:W.mroIn K C (.type "object")=some true):TyOf K H (.ref a) (.ref C)
end
structure Room(k:Nat)(A:Around):Prop where
 hd:A.handled=none
 dp:A.depth+3*k+5<recursionLimit
 un:A.units+16*k+200<cLine
def Room.mono(r:Room k A)(h:j<=k):Room j A:=⟨r.hd,by have:=r.dp;omega,by have:=r.un;omega⟩
def Room.deeper(r:Room (k+1) A)(env:Env):Room k (A.deeper env):=
 ⟨r.hd,by have:=r.dp;show A.depth+1+3*k+5<_;omega,by have:=r.un;show A.units+3+16*k+200<_;omega⟩
def Room.depth(r:Room k A):A.depth<recursionLimit:=by have:=r.dp;omega
def Room.units(r:Room k A):A.units+64<cLine:=by have:=r.un;omega
def tNil:TA:=λ_ H Q=>Q [] H
def Mr(ta:TE)(tr:TA):TA:=λσ H Q=>ta σ H λx H1=>tr σ H1 λxs H2=>Q (x::xs) H2
section
variable{X:Cx}{e:Expr}{es:List Expr}{te:TE}{t:TA}{pos:Pos}
def KZ:PA X [] tNil:=λ_ _ _ _ H Q I h=>Calls.spliced_nil ⟨[],H,I,.nil,h⟩
def Fx(ha:PE X e te)(hr:PA X es t)(hs:starEach (e::es) X.env=(false,eval e X.env)::starEach es X.env):PA X (e::es) (Mr te t):=by intro pos pins s σ H Q I h;rw[hs];show wpAny _ _ (spliced ((false,eval e X.env)::backTo pos (starEach es X.env))) _ _ s;refine QZ (thn (ha pins s σ H _ I h) λu s1 ⟨x,H1,I1,r1,q1⟩=>?_);exact thn (hr pos pins s1 σ H1 _ I1 q1) λus s2 ⟨xs,H2,I2,r2,q2⟩=>⟨x::xs,H2,I2,.cons r1 r2,q2⟩
def tTup(t:TA):TE:=λσ H Q=>t σ H λxs H1=>xs.length<=sizeLine/\∀p,H1 p=none->Q (.ref p) (upd H1 p (.tup xs))
def tLst(t:TA):TE:=λσ H Q=>t σ H λxs H1=>xs.length<=sizeLine/\∀p,H1 p=none->Q (.ref p) (upd H1 p (.lst xs))
def LR{x1}(h:PA X es t):PE X (.Tuple es x1 pos) (tTup t):=by intro pins s σ H Q I hq;refine wpAny_Tuple_spliced (thn (h pos pins s σ H _ I hq) λus s1 ⟨xs,H1,I1,r,z,q⟩=>⟨by rw[<- r.length];exact z,?_⟩);have hf:H1 s1.heap.objs.size=none:=I1.hok.fresh (o_ _);refine⟨.ref s1.heap.objs.size,upd H1 s1.heap.objs.size (.tup xs),I1.laid (t':=s1.toks) (λb u e=>l_ _ e) (o_ _) ?_,rfl,q _ hf⟩;exact⟨z,us,r,⟨_,C_ _ rfl,rfl,_,rfl⟩⟩
def Kp(h:PA X es t):PE X (.List es pos) (tLst t):=by intro pins s σ H Q I hq;refine wpAny_List_spliced (thn (h pos pins s σ H _ I hq) λus s1 ⟨xs,H1,I1,r,z,q⟩=>⟨by rw[<- r.length];exact z,?_⟩);have hf:H1 s1.heap.objs.size=none:=I1.hok.fresh (o_ _);refine⟨.ref s1.heap.objs.size,upd H1 s1.heap.objs.size (.lst xs),I1.laid (t':=s1.toks) (λb u e=>l_ _ e) (o_ _) ?_,rfl,q _ hf⟩;exact⟨z,us,0,r,C_ _ rfl⟩
end
abbrev Sp:=List V->Hp->VK->XK->Prop
abbrev CXT:=List Env->Hp->Shared->XK->Value->Shared->Prop
structure Env0(P:Program)(w:World)(K:W.Frag)(mg:Sa)(base:Heap)(A:Around)(outer:List Env)(s:Shared)(H:Hp):Prop where
 frames:A.frames=some outer
 mod:Mod K mg base
 bs:∀b o,base.get? b=some o->s.heap.get? b=some o/\H b=none
 bsz:base.objs.size<=s.heap.objs.size
 funs:s.heap.FunFrames base outer
 frf:∀b∈frs outer,H b=none
 hok:HOk P w H s.heap
 bare:AllBare s.gens
def CE(outer:List Env)(P:Program)(w:World)(H:Hp)(s:Shared)(Q:VK)(u:Value)(s':Shared):Prop:=
 ∃v H',s'.os=s.os/\AllBare s'.gens/\Un (frs outer) [] H H' s.heap s'.heap/\HOk P w H' s'.heap/\RelV v u/\Q v H'
def CR(CX:CXT)(outer:List Env)(P:Program)(w:World)(H:Hp)(s:Shared)(Q:VK)(E:XK)(r:Result)(s':Shared):Prop:=
 match r with
 |.ok (.ret u)=>CE outer P w H s Q u s'
 |.ok _=>False
 |.error e=>CX outer H s E e s'
structure FnOk(P:Program)(w:World)(K:W.Frag)(mg:Sa)(base:Heap)(CX:CXT)(k:Nat)(f:Addr)(fd:FuncData)(ps:List Str)(sp:Sp):Prop where
 len:∀vs H Q E,sp vs H Q E->vs.length=ps.length
 run:∀(A:Around) (outer:List Env) (s:Shared) (H:Hp) (args:Args) (us:List Value) (vs:List V) (Q:VK) (E:XK),Room k A->Env0 P w K mg base A outer s H->BindsTo s fd args (ps.zip us)->Vals vs us->sp vs H Q E->
  codeAny (model P w) A (.call (.ref f) args) (CR CX outer P w H s Q E) s
def FnOk.imp{P:Program}{w:World}{K:W.Frag}{mg:Sa}{base:Heap}{CX:CXT}{k:Nat}{f:Addr}{fd:FuncData}{ps:List Str}{sp sp':Sp}(F:FnOk P w K mg base CX k f fd ps sp)
 (h:∀vs H Q E,sp' vs H Q E->sp vs H Q E):FnOk P w K mg base CX k f fd ps sp':=
 ⟨λvs H Q E q=>F.len vs H Q E (h _ _ _ _ q),λA outer s H args us vs Q E hr he hb hv hs=>F.run A outer s H args us vs Q E hr he hb hv (h _ _ _ _ hs)⟩
section
variable{X:Cx}{pins:Sb}{σ:St}{H:Hp}{s s':Shared}
def Inv.env0(I:Inv X pins σ H s):Env0 X.prog X.w X.K X.mg X.base X.A X.stack s H:=
 ⟨I.ok.frames,I.ok.mod,I.bs,F_ I.ok.bsz I.sz,I.stack,I.stkFree,I.hok,I.bare⟩
def Inv.after(I:Inv X pins σ H s)(h:CE X.stack X.prog X.w H s Q u s'):EP X pins σ Q u s':=by obtain⟨v,H',os,bare,un,hok,r,q⟩:=h;obtain⟨hh,g,d,t,os'⟩:=s';obtain rfl:os'=s.os:=os;exact⟨v,H',I.call (h':=hh) (g':=g) (d':=d) (t':=t) (ch:=[]) un hok bare (λb z=>absurd z (by simp)),r,q⟩
end
def Binds(K:W.Frag)(fd:FuncData)(ps:List Str)(ds:List Value):Prop:=
 ∀(s:Shared) (us:List Value),K.In s.heap->(us++ds).length=ps.length->BindsTo s fd ⟨us,[]⟩ (ps.zip (us++ds))
def Binds.all{K:W.Frag}{fd:FuncData}{ps:List Str}(h:∀us:List Value,us.length=ps.length->bindArgs fd ⟨us,[]⟩=pure (ps.zip us)):Binds K fd ps []:=λs us _ hl=>by rw[Pn] at hl ⊢;exact .of_eq (h us hl)
def rE(CX:CXT)(X:Cx)(E:XK):Prop:=∀(pins:Sb) (σ:St) (H:Hp) (s:Shared) (e:Value) (s':Shared),Inv X pins σ H s->CX X.stack H s E e s'->X.xe e s'
section
variable{X:Cx}{CX:CXT}{k:Nat}{f C:Addr}{fd:FuncData}{ps:List Str}{sp:Sp}{dvs:List V}{ds:List Value}{E:XK}{x m:Str}{p pos apos:Pos}{e o:Expr}{es:List Expr}{ta:TE}{t:TA}
end
section
variable{X:Cx}{CX:CXT}{k:Nat}{f C:Addr}{fd:FuncData}{ps ks:List Str}{sp:Sp}{E:XK}{x m:Str}{p pos apos kpos:Pos}{e o:Expr}{es:List Expr}{kws:List Keyword}{te ta:TE}{t tk:TA}{nm:Option Str}
variable{g:List Value->List Value->List Value}{gV:List V->List V->List V}
end
structure FnScope(N P:List Str)(sc:Scope):Prop where
 kind:sc.kind=.function
 co:sc.isCoroutine=false
 gen:sc.isGenerator=false
 nd:N.Nodup
 pre:N.take P.length=P
 par:∀x∈P,sc.names.lookup x=some .local\/sc.names.lookup x=some .cell
 nofree:∀y∈sc.names,y.2 ≠ .free
theorem pf{kindOf:Str->Option NameKind}{x:Str}:∀{binds:List (Str×Value)}{m:Sa},(∀v,(x,v)∉binds)->bindL kindOf binds m x=m x
 | [],_,_=>rfl
 |
  (n,v)::r,m,h=>by
  unfold bindL;rw[pf λw hw=>h w (m_ _ hw)];split
  .have:x≠n:=by rintro rfl;exact h v n_
   simp [this]
  .rfl
theorem pP{kindOf:Str->Option NameKind}{x:Str}:∀{binds:List (Str×Value)}{m:Sa},(∀v,(x,v)∉binds)->bindC kindOf binds m x=m x
 | [],_,_=>rfl
 |
  (n,v)::r,m,h=>by
  unfold bindC;rw[pP λw hw=>h w (m_ _ hw)];split
  .rfl
  .have:x≠n:=by rintro rfl;exact h v n_
   simp [this]
theorem pB{kindOf:Str->Option NameKind}{x:Str}{v:Value}:∀{P:List Str}{vs:List Value}{i:Nat}{m:Sa},P.Nodup->P[i]?=some x->vs[i]?=some v->kindOf x=some .local->
 bindL kindOf (P.zip vs) m x=some v
 | [],_,_,_,_,h,_,_=>by simp at h
 |_::_,[],_,_,_,_,h,_=>by simp at h
 |
  p::P,w::vs,0,m,nd,h1,h2,hk=>by
  simp at h1 h2;subst h1;subst h2;show bindL kindOf ((p,w)::P.zip vs) m p=_;unfold bindL;rw[pf λv hv=>(QC.mp nd).1 (List.of_mem_zip hv).1,if_pos hk];simp
 |
  p::P,w::vs,i+1,m,nd,h1,h2,hk=>by
  show bindL kindOf ((p,w)::P.zip vs) m x=_;unfold bindL;exact pB (i:=i) (QC.mp nd).2 (by simpa using h1) (by simpa using h2) hk
theorem pC{kindOf:Str->Option NameKind}{x:Str}{v:Value}:∀{P:List Str}{vs:List Value}{i:Nat}{m:Sa},P.Nodup->P[i]?=some x->vs[i]?=some v->kindOf x≠some .local->
 bindC kindOf (P.zip vs) m x=some v
 | [],_,_,_,_,h,_,_=>by simp at h
 |_::_,[],_,_,_,_,h,_=>by simp at h
 |
  p::P,w::vs,0,m,nd,h1,h2,hk=>by
  simp at h1 h2;subst h1;subst h2;show bindC kindOf ((p,w)::P.zip vs) m p=_;unfold bindC;rw[pP λv hv=>(QC.mp nd).1 (List.of_mem_zip hv).1,if_neg hk];simp
 |
  p::P,w::vs,i+1,m,nd,h1,h2,hk=>by
  show bindC kindOf ((p,w)::P.zip vs) m x=_;unfold bindC;exact pC (i:=i) (QC.mp nd).2 (by simpa using h1) (by simpa using h2) hk
noncomputable def fh(N:List Str)(vs:List V):St:=vs.map some++List.replicate (N.length-vs.length) none
noncomputable def c7(CX:CXT)(P:Program)(w:World)(K:W.Frag)(mg:Sa)(base:Heap)(N:List Str)(qual:Str)(scope:Scope)(f:Addr)(cd:Value)(A:Around)(outer:List Env)(s:Shared)(H:Hp)(E:XK):Cx where
 prog:=P
 w:=w
 K:=K
 mg:=mg
 base:=base
 A:=A.deeper (envOfC qual scope s.heap.objs.size f cd)
 N:=N
 s₀:=s
 H₀:=H
 env:=envOfC qual scope s.heap.objs.size f cd
 outer:=outer
 stack:=envOfC qual scope s.heap.objs.size f cd::outer
 ex:=[]
 calm:=true
 fn:=λ_=>true
 pn:=[]
 xe:=λe s'=>wpAny (model P w) (A.deeper (envOfC qual scope s.heap.objs.size f cd)) (leaving (envOfC qual scope s.heap.objs.size f cd) e) (λ_ s''=>CX outer H s E e s'') (λe' s''=>CX outer H s E e' s'') s'
def ud{sc:Scope}{n:Nat}{x:Str}(h:sc.names.lookup x=some .cell):∃c,(cellsFrom n sc.names []).lookup x=some c:=by have q:=W.cellsFrom_some sc.names n [] (.inl h);exact PM.mp q
def yJ{CX:CXT}{P:Program}{w:World}{K:W.Frag}{mg:Sa}{base:Heap}{N ps:List Str}{qual:Str}{scope:Scope}{f:Addr}{cd:Value}{A:Around}{outer:List Env}{s s1:Shared}{H:Hp}{E:XK}{us:List Value}{vs:List V}
 (S:FnScope N ps scope) (hd:A.handled=none) (e0:Env0 P w K mg base A outer s H) (hl:vs.length=ps.length) (r:Vals vs us)
 (x:InCallC s s.heap.objs.size (bindL (envOfC qual scope s.heap.objs.size f cd).kindOf (ps.zip us) λ_=>none) (cellsFrom (s.heap.objs.size+1) scope.names []) (bindC (envOfC qual scope s.heap.objs.size f cd).kindOf (ps.zip us) λ_=>none) s1):
 Inv (c7 CX P w K mg base N qual scope f cd A outer s H E) [] (fh N vs) H s1:=by
 have hpl:ps.length<=N.length:=by have:=PF List.length S.pre;rw[PD] at this;omega
 obtain⟨h1,tk,rfl,hk⟩:=x.done;have noA:∀b:Addr,b∉(c7 CX P w K mg base N qual scope f cd A outer s H E).ex:=λb z=>absurd (show b∈([]:List Addr) from z) (by simp);refine⟨⟨e0.mod,S.kind,rfl,rfl,o_ _,λy z c h1 h2=>?_,λy hy=>?_,λy c _ h=>?_,λ_=>hd,Around.frames_deeper e0.frames,.inr ⟨rfl,rfl⟩,λb z=>absurd z (noA b),e0.bs,e0.bsz,λb _ _=>noA b,λb z=>absurd z (noA b),e0.funs,e0.frf⟩,
  rfl,e0.bare,Un.kept hk,⟨_,x.toInCall.ns,λi y v h1 h2 h3=>?_⟩,λy c h=>⟨_,x.cell y c h⟩,e0.hok.fresh (o_ _),λy c h=>?_,λp hp=>absurd (show p∈([]:Sb) from hp) (by simp),e0.hok.kept hk,?_⟩
 .exact name_of_addr x.apart (P1 h1) (P1 h2)
 .have hy:scope.names.lookup y=some .cell\/scope.names.lookup y=some .free:=hy;rcases hy with hy |hy
  .exact ud hy
  .exact absurd rfl (S.nofree _ (P1 hy))
 .exact QJ (x.above y c (P1 h))
 .have hi:i<vs.length:=by
   unfold fh at h2;by_cases hi:i<vs.length
   .exact hi
   .rw[O8 (by simpa using hi)] at h2;rw[PC] at h2;split at h2 <;> cases h2
  have ha:vs[i]?=some v:=by
   unfold fh at h2;rw[L_ (by simpa using hi),N_] at h2;cases e:vs[i]? with
   |none=>rw[e] at h2;cases h2
   |some a=>rw[e] at h2;cases h2;rfl
  obtain⟨u,hu,rv⟩:=r.get ha;have hp:ps[i]?=some y:=by rw[<- S.pre,List.getElem?_take_of_lt (by omega)];exact h1
  have ndP:ps.Nodup:=by rw[<- S.pre];exact S.nd.sublist (List.take_sublist _ _)
  refine⟨u,rv,?_⟩;rcases S.par y (P8 hp) with k |k
  .exact .inl ⟨k,pB ndP hp hu k⟩
  .obtain⟨c,e⟩:=ud (n:=s.heap.objs.size+1) k;refine .inr ⟨.inl k,c,e,?_⟩;have q:=x.cell y c e;rw[pC ndP hp hu (by show scope.names.lookup y≠_;rw[k];decide)] at q;exact q
 .exact e0.hok.fresh (QJ (x.above y c (P1 h)))
 .unfold fh;show _=N.length;rw[z_,k_,PL];omega
def DX{CX:CXT}{P:Program}{w:World}{K:W.Frag}{mg:Sa}{base:Heap}{k:Nat}{f:Addr}{name qual:Str}{params:Arguments}{body:List Stmt}{scope:Scope}{dV kV doc pm cdv ct oc:Value}{an od:Option Addr}
 {osl:Array (Option Value)}{N ps:List Str}{sp:Sp} (lk:K.lookup f=some ⟨oc,od,.func (W.fnOf name qual params body scope dV kV doc pm an cdv ct),osl⟩) (i_:W.codeIn K cdv qual=true) (S:FnScope N ps scope)
 (len:∀vs H Q E,sp vs H Q E->vs.length=ps.length)
 (db:∀(A:Around) (outer:List Env) (s:Shared) (H:Hp) (vs:List V) (Q:VK) (E:XK),Room k (A.deeper (envOfC qual scope s.heap.objs.size f cdv))->sp vs H Q E->
  ∃t,PSs (c7 CX P w K mg base N qual scope f cdv A outer s H E) body t/\t { nx:=λ_ H'=>Q .non H',rt:=Q } (fh N vs) H):
 FnOk P w K mg base CX (k+1) f (W.fnOf name qual params body scope dV kV doc pm an cdv ct) ps sp:=by
 refine⟨len,λA outer s H args us vs Q E hr e0 hb r hsp=>?_⟩;have hl:=len _ _ _ _ hsp;have KX:K.In s.heap:=e0.mod.kin.keeps λb o e=>(e0.bs b o e).1;have lim:s.heap.NoLimit:=e0.mod.nolimit.keeps λb o e=>(e0.bs b o e).1;have hkind:∀y∈ps.zip us,scope.names.lookup y.1=some .local\/(scope.names.lookup y.1=some .cell/\((cellsFrom (s.heap.objs.size+1) scope.names []).lookup y.1).isSome=true):=λ⟨n,v⟩ hy=>by
  rcases S.par n (List.of_mem_zip hy).1 with q |q
  .exact .inl q
  .exact .inr ⟨q,W.cellsFrom_some _ _ _ (.inl q)⟩
 refine codeAny_call_function hr.depth (KX _ _ lk) rfl S.co S.gen rfl (W.codeRec_of KX i_) (hb _ _ _ _ ?_);refine wpAny_newFunctionEnv_cells S.kind hkind λenv he s1 x=>?_;subst he;refine⟨lim.keeps x.toInCall.keep,codeAny_func ?_⟩;obtain⟨t,ht,hq⟩:=db A outer s H vs Q E (hr.deeper _) hsp;have I:Inv (c7 CX P w K mg base N qual scope f cdv A outer s H E) [] (fh N vs) H s1:=yJ S hr.hd e0 hl r x;refine Pj (ht [] s1 (fh N vs) H _ I hq) (λfl s' hs=>?_) λe s' hs=>hs;have ii:∀{σ':St}{H':Hp}{v:V}{u:Value},Inv (c7 CX P w K mg base N qual scope f cdv A outer s H E) [] σ' H' s'->RelV v u->Q v H'->CE outer P w H s Q u s':=
  λ{σ' H' v u} J rv q=>⟨v,H',J.os,J.bare,J.base,J.hok,rv,q⟩
 cases fl with
 |ret u=>obtain⟨v,σ',H',J,rv,q⟩:=hs;exact ii J rv q
 |next=>obtain⟨σ',H',J,q⟩:=hs;exact ii (v:=V.non) (u:=Value.none) J rfl q
 |brk=>obtain⟨_,_,_,q⟩:=hs;exact False.elim q
 |cont=>obtain⟨_,_,_,q⟩:=hs;exact False.elim q
section
variable{X:Cx}{x:Str}{p pos:Pos}{e:Expr}{es:List Expr}{t:TA}{id T:String}{r:List V->Hp->VK->Prop}
def tCB(r:List V->Hp->VK->Prop)(t:TA):TE:=λσ H Q=>t σ H λvs H1=>r vs H1 Q
def DC(hc:CallR X (.builtin id) r)(hg:Gl X x)(hm:X.mg x=none)(hv:bootBuiltins x=some (.builtin id))(ha:PA X (e::es) t)(hn:x ≠ "__name__")(hdb:(x==("__debug__" : Str))=false)
 (he:starEach (e::es) X.env=(false,eval e X.env)::starEach es X.env) (hpl:(backTo pos (starEach es X.env)).any (·.1)=false):PE X (.Call (.Name x p) (e::es) [] pos) (tCB r t):=by
 intro pins s σ H Q I h;refine Qk (f6 I hg hm hv ?_ hn hdb);exact PyProof.Rows.callWith_builtin1 (thn (ha pos pins s σ H _ I h) λus s1 ⟨vs,H1,I1,r1,q1⟩=>hc pins s1 σ H1 vs us Q I1 r1 q1) he hpl
def zK(hc:CallR X (.type T) r)(hg:Gl X x)(hm:X.mg x=none)(hv:bootBuiltins x=some (.type T))(ha:PA X (e::es) t)(hn:x ≠ "__name__")(hdb:(x==("__debug__" : Str))=false)
 (he:starEach (e::es) X.env=(false,eval e X.env)::starEach es X.env) (hpl:(backTo pos (starEach es X.env)).any (·.1)=false):PE X (.Call (.Name x p) (e::es) [] pos) (tCB r t):=by
 intro pins s σ H Q I h;refine Qk (f6 I hg hm hv ?_ hn hdb);exact Qj (thn (ha pos pins s σ H _ I h) λus s1 ⟨vs,H1,I1,r1,q1⟩=>hc pins s1 σ H1 vs us Q I1 r1 q1) he hpl
def yx(hc:CallR X (.type T) r)(hg:Gl X x)(hm:X.mg x=none)(hv:bootBuiltins x=some (.type T))(hn:x ≠ "__name__")(hdb:(x==("__debug__" : Str))=false):
 PE X (.Call (.Name x p) [] [] pos) (tCB r tNil):=by
 intro pins s σ H Q I h;refine Qk (f6 I hg hm hv ?_ hn hdb);exact PyProof.Rows.callWith_type0 (hc pins s σ H [] [] Q I .nil h)
end
end L2
namespace HT
open PySem PyProof.Rows
section
open PySem.SeqAt
open PySem.AutoSeq1 (wpAny_loadPart')
open PySem.MeetsSeq PySem.MeetsSeq2 PySem.MeetsSeq3
end
section
variable{prog:Program}{w:World}{A:Around}{E:Sd}{s:Shared}
def cat_tup(ht:IsTup s.heap t vs.toArray)(hb:IsTup s.heap b ws.toArray)(hv:vs≠[])
 (h1:ws=[]->Q (.ref t) s) (h2:ws≠[]->Q (.ref s.heap.objs.size) { s with heap:=s.heap.push { cls:=.type "tuple",data:=.seq (vs++ws).toArray } })
 (hsz:vs.length+ws.length<=sizeLine):wpAny (model prog w) A (binaryOp .Add (.ref t) (.ref b)) Q E s:=by
 obtain⟨⟨cls,dd,data,sl⟩,ho,hc,n,hd⟩:=id ht;obtain⟨⟨cls2,dd2,data2,sl2⟩,ho2,hc2,n2,hd2⟩:=id hb;simp only at hc hd hc2 hd2;subst hc hd hc2 hd2;have e:vs.toArray++ws.toArray=(vs++ws).toArray:=by simp
 by_cases hw:ws=[]
 .exact concat_meets ⟨_,ho,rfl⟩ ⟨_,ho2,rfl⟩ noFill_tuple_add seq_tuple_add Rg Q6 (Q3 _ _)
   (tuple_addW1 t b vs.toArray ws.toArray n n2 dd dd2 sl sl2 (by simpa using hv) (by simp [hw])) ⟨ho,ho2,h1 hw⟩
 .refine concat_meets ⟨_,ho,rfl⟩ ⟨_,ho2,rfl⟩ noFill_tuple_add seq_tuple_add Rg Q6 (Q3 _ _)
   (tuple_addW2 t b vs.toArray ws.toArray n n2 dd dd2 sl sl2 (by simpa using hv) (by simpa using hw) (by rw[t_,t_];exact hsz)) ⟨ho,ho2,?_⟩
  rw[e];exact h2 hw
noncomputable def sIx(n d:Nat):Option Int->Nat
 |none=>d
 |some v=>if v<0 then (v+(n:Int)).toNat else min v.toNat n
def sIx_none(n d:Nat):sIx n d none=d:=rfl
def sIx_nat(n d k:Nat):sIx n d (some (k:Int))=min k n:=by show (if (k:Int)<0 then ((k:Int)+(n:Int)).toNat else min (k:Int).toNat n)=min k n;rw[if_neg (by omega),Pu]
def Ib(n d:Nat)(hd:d<=n)(o:Option Int):sIx n d o<=n:=by
 cases o with
 |none=>exact hd
 |
  some v=>
  show (if v<0 then (v+(n:Int)).toNat else min v.toNat n)<=n;by_cases hv:v<0
  .rw[if_pos hv];omega
  .rw[if_neg hv];exact Nat.min_le_right _ _
def vb(v:Int)(n d:Nat):(if v<0 then max (v+(n:Int)) 0 else min v (n:Int))=((sIx n d (some v):Nat):Int):=by
 show (if v<0 then max (v+(n:Int)) 0 else min v (n:Int))=(((if v<0 then (v+(n:Int)).toNat else min v.toNat n):Nat):Int);by_cases hv:v<0
 .simp only[if_pos hv];omega
 .simp only[if_neg hv];omega
def xm(lo hi:Option Int)(n:Nat):Builtin.Slice.sliceAdjust lo hi 1 (n:Int)=(((sIx n 0 lo:Nat):Int),((sIx n n hi:Nat):Int)):=by
 have h1:¬ ((1:Int)<0):=by omega
 unfold Builtin.Slice.sliceAdjust;simp only[h1,Q4];refine Prod.ext ?_ ?_
 .cases lo with
  |none=>rfl
  |some v=>exact vb v n 0
 .cases hi with
  |none=>rfl
  |some v=>exact vb v n n
def w6(i j:Nat):Builtin.Slice.slicePlaces (i:Int) (j:Int) 1=j-i:=by
 unfold Builtin.Slice.slicePlaces;have h1:(1:Int)>0:=by omega
 simp only[h1,Qu,Int.ediv_one];split <;> omega
def nH(p:IsPart v o)(h:Q o s):wpAny (model prog w) A (Builtin.Slice.slicePartIndex v) Q E s:=by
 cases p with
 |none=>exact slicePart_none h
 |int i t=>exact slicePart_int h
def lO{sl:Addr}{vl vu:Value}{lo hi:Option Int}{n:Nat}{Q:Int×Int×Nat->Shared->Prop}(hs:s.heap.IsSliceOf sl vl vu .none)(pl:IsPart vl lo)(pu:IsPart vu hi)
 (h:Q (((sIx n 0 lo:Nat):Int),1,sIx n n hi-sIx n 0 lo) s):wpAny (model prog w) A (Builtin.Slice.sliceApplied (.ref sl) (pure (n:Int))) Q E s:=by
 obtain⟨os,hos,hcs,hds⟩:=id hs;unfold Builtin.Slice.sliceApplied Builtin.Slice.sliceFields;refine j_ (j_ (Pz hos hds (x:=vl) rfl (j_ (Pz hos hds (x:=vu) rfl (j_ (Pz hos hds (x:=.none) rfl (u_ ?_)))))));refine j_ (slicePart_none ?_);show wpAny _ _ (if ((1:Int)==0)=true then _ else _) _ _ s;rw[if_neg (by decide)];refine j_ (nH pl (j_ (nH pu (j_ (u_ ?_)))));show wpAny _ _ (match Builtin.Slice.sliceAdjust lo hi 1 (n:Int) with |(lo,hi)=>pure (lo,(1:Int),Builtin.Slice.slicePlaces lo hi 1)) _ _ s;rw[xm lo hi n];show wpAny _ _ (pure (((sIx n 0 lo:Nat):Int),(1:Int),Builtin.Slice.slicePlaces ((sIx n 0 lo:Nat):Int) ((sIx n n hi:Nat):Int) 1)) _ _ s;rw[w6];exact u_ h
def BC(xs:Array Value)(i k:Nat):((List.range k).filterMap λ(m:Nat)=>xs[((i:Int)+(m:Int)*1).toNat]?).toArray=((xs.toList.drop i).take k).toArray:=by
 have e:(λ(m:Nat)=>xs[((i:Int)+(m:Int)*1).toNat]?)=λm=>xs[i+m]?:=by
  funext m;have:((i:Int)+(m:Int)*1).toNat=i+m:=by omega
  rw[this]
 rw[e]
 have:=pick_run xs i k
 rw[List.filterMap_map] at this;have e2:((λx=>xs[x]?) ∘ λx=>i+x)=λm=>xs[i+m]?:=rfl;rw[e2] at this;rw[this]
def getItem_tuple_cut{t sl:Addr}{items:Array Value}{vl vu:Value}{lo hi:Option Int}{Q:Sd}(ht:IsTup s.heap t items)(hs:s.heap.IsSliceOf sl vl vu .none)(pl:IsPart vl lo)(pu:IsPart vu hi)
 (hw:¬ (sIx items.size 0 lo=0/\sIx items.size items.size hi=items.size))
 (h:Q (.ref s.heap.objs.size) { s with heap:=s.heap.push { cls:=.type "tuple",data:=.seq ((items.toList.drop (sIx items.size 0 lo)).take (sIx items.size items.size hi-sIx items.size 0 lo)).toArray } })
 (hsz:items.size<=sizeLine):wpAny (model prog w) A (getItem (.ref t) (.ref sl)) Q E s:=by
 have htake:sizeOk (.seq ((items.toList.drop (sIx items.size 0 lo)).take (sIx items.size items.size hi-sIx items.size 0 lo)).toArray):=by show ((items.toList.drop (sIx items.size 0 lo)).take (sIx items.size items.size hi-sIx items.size 0 lo)).toArray.size<=sizeLine;rw[t_,PD,Qv,PZ];omega
 have hj:sIx items.size items.size hi<=items.size:=Ib _ _ (o_ _) hi;obtain⟨os,hos,hcs,hds⟩:=id hs;have hTs:s.TypeIs (.ref sl) "slice":=⟨os,hos,hcs⟩;unfold getItem;try with_reducible refine PU ?_
 first |refine j_ (u_ ?_) |skip
 refine j_ (wpAny_sequenceKey ht.typeIs (by decide) ?_);refine j_ (Qa (name:=Str.ofString "__getitem__") ht.typeIs PyProof.Rows.slot_tuple_getitem
  (Qw PyProof.Rows.slot_tuple_getitem ht.typeIs entry_tuple_getitem ?_ (args_tuple_getitem _ _)))
 show wpAny _ _ (Builtin.Tuple.tupleItemsOf (.ref t) >>= _) _ _ s;refine j_ (tupleItemsOf_ ht ?_);refine j_ (wpAny_typeOf hTs ?_);rw[if_pos (by decide)];refine j_ (lO hs pl pu ?_);have hno:¬ ((((sIx items.size 0 lo:Nat):Int)==0&&(1:Int)==1&&(sIx items.size items.size hi-sIx items.size 0 lo)==items.size)=true):=by intro q;rw[r_,r_] at q;have q1:((sIx items.size 0 lo:Nat):Int)=0:=eq_of_beq q.1.1;have q2:sIx items.size items.size hi-sIx items.size 0 lo=items.size:=eq_of_beq q.2;exact hw ⟨by omega,by omega⟩
 show wpAny _ _ (if (((sIx items.size 0 lo:Nat):Int)==0&&(1:Int)==1&&(sIx items.size items.size hi-sIx items.size 0 lo)==items.size)=true then _ else _) _ _ s;rw[if_neg hno,BC];first
  |exact j_ (m:=Builtin.Tuple.tupleExact _) (PY (u_ ⟨_,rfl,u_ h⟩) htake)
  |exact j_ (m:=Builtin.Tuple.tupleExact _) (PY (j_ (u_ (u_ ⟨_,rfl,u_ h⟩))) htake)
  |exact j_ (j_ (m:=Builtin.Tuple.tupleExact _) (PY (u_ (u_ ⟨_,rfl,u_ h⟩)) htake))
  |exact j_ (j_ (m:=Builtin.Tuple.tupleExact _) (PY (u_ ⟨_,rfl,u_ h⟩) htake))
end
end HT
namespace L2
open PySem PySem.Spec PyProof.Rows
abbrev TO:=St->Hp->(Option Int->Hp->Prop)->Prop
def PO(X:Cx)(e:Option Expr)(t:TO):Prop:=
 ∀
  (pins:Sb) (s:Shared) (σ:St) (H:Hp) (Q:Option Int->Hp->Prop),Inv X pins σ H s->t σ H Q->
  wpAny (model X.prog X.w) X.A (evalPart e X.env) (λu s'=>∃o H',Inv X pins σ H' s'/\IsPart u o/\Q o H') X.xe s
def FK:TO:=λ_ H Q=>Q none H
def M6(t:TE):TO:=λσ H Q=>t σ H λx H1=>∃i,x=.int i/\Q (some i) H1
section
variable{X:Cx}{e:Expr}{te:TE}{lo hi:Option Expr}{tl th:TO}{pos p2:Pos}
def FI:PO X none FK:=by intro pins s σ H Q I h;rw[evalPart_none];exact u_ ⟨none,H,I,.none,h⟩
def EG(h:PE X e te):PO X (some e) (M6 te):=by intro pins s σ H Q I hw;rw[evalPart_some];refine thn (h pins s σ H _ I hw) λu s1 ⟨x,H1,I1,r1,q1⟩=>?_;obtain⟨i,rfl,q⟩:=q1;obtain⟨t,rfl⟩:=r1;exact⟨some i,H1,I1,.int i t,q⟩
def SlR(X:Cx)(r:V->Option Int->Option Int->Hp->VK->Prop):Prop:=
 ∀
  (pins:Sb) (s:Shared) (σ:St) (H:Hp) (x:V) (v vl vu:Value) (lo hi:Option Int) (sl:Addr) (Q:VK),Inv X pins σ H s->RelV x v->s.heap.IsSliceOf sl vl vu .none->IsPart vl lo->IsPart vu hi->r x lo hi H Q->
  ∃T id,typeLookup (.type T) "__getitem__"=pure (some (.builtin id))/\s.TypeIs v T/\wpAny (model X.prog X.w) X.A (getItem v (.ref sl)) (EP X pins σ Q) X.xe s
def SlR.or(h:SlR X r)(h':SlR X r'):SlR X (λx lo hi H Q=>r x lo hi H Q\/r' x lo hi H Q):=by
 intro pins s σ H x v vl vu lo hi sl Q I rx hs pl pu q;rcases q with q |q
 .exact h pins s σ H x v vl vu lo hi sl Q I rx hs pl pu q
 .exact h' pins s σ H x v vl vu lo hi sl Q I rx hs pl pu q
def tSl(r:V->Option Int->Option Int->Hp->VK->Prop)(te:TE)(tl th:TO):TE:=λσ H Q=>te σ H λx H1=>tl σ H1 λl H2=>th σ H2 λu H3=>r x l u H3 Q
def BS(hr:SlR X r)(he:PE X e te)(hl:PO X lo tl)(hu:PO X hi th):PE X (.Subscript e (.Slice lo hi none p2) pos) (tSl r te tl th):=by intro pins s σ H Q I h;refine Subscript_ (thn (he pins s σ H _ I h) λv s1 ⟨x,H1,I1,r1,q1⟩=>?_);refine wpAny_Slice (thn (hl pins s1 σ H1 _ I1 q1) λvl s2 ⟨l,H2,I2,pl,q2⟩=>thn (hu pins s2 σ H2 _ I2 q2) λvu s3 ⟨u,H3,I3,pu,q3⟩=>?_);rw[evalPart_none];refine u_ ?_;have I4:Inv X pins σ H3 { s3 with heap:=s3.heap.push { cls:=.type "slice",data:=.fields #[vl,vu,.none] } }:=I3.kept (t':=s3.toks) λb ob q=>l_ _ q;obtain⟨T,id,hT,ht,hg⟩:=hr pins { s3 with heap:=s3.heap.push { cls:=.type "slice",data:=.fields #[vl,vu,.none] } } σ H3 x v vl vu l u s3.heap.objs.size Q I4 r1 (Heap.IsSliceOf.new ..) pl pu q3;show wpAny (model X.prog X.w) X.A (subscriptTail e (.Slice lo hi none p2) v (.ref s3.heap.objs.size)) (EP X pins σ Q) X.xe { s3 with heap:=s3.heap.push { cls:=.type "slice",data:=.fields #[vl,vu,.none] } };exact tail_any (ops:=[.ref s3.heap.objs.size,v]) ht hT hg (by with_unfolding_all rfl)
noncomputable def kg(xs:List V)(lo hi:Option Int):List V:=(xs.drop (HT.sIx xs.length 0 lo)).take (HT.sIx xs.length xs.length hi-HT.sIx xs.length 0 lo)
def lq(xs:List V)(lo hi:Option Int):(kg xs lo hi).length<=xs.length:=by unfold kg;rw[PD,Qv];omega
def rSlT(K:W.Frag):V->Option Int->Option Int->Hp->VK->Prop:=λx lo hi H Q=>∃a xs,x=.ref a/\SqT K H a xs/\
 ¬ (HT.sIx xs.length 0 lo=0/\HT.sIx xs.length xs.length hi=xs.length)/\∀p,H p=none->Q (.ref p) (upd H p (.tup (kg xs lo hi)))
def JW:SlR X (rSlT X.K):=by
 intro pins s σ H x v vl vu lo hi sl Q I rx hs pl pu h;obtain⟨a,xs,rfl,hx,hw,q⟩:=h;cases rx;obtain⟨its,r,ht,hz⟩:=I.tuple hx;have be:its.toArray.size=xs.length:=by rw[t_];exact r.length.symm
 refine⟨"tuple",_,PyProof.Rows.slot_tuple_getitem.lookup,ht.typeIs,?_⟩;refine HT.getItem_tuple_cut ht hs pl pu (by rw[be];exact hw) ?_ (by rw[be];exact hz);rw[be];refine⟨.ref s.heap.objs.size,_,I.laid (t':=s.toks) (o:=.tup (kg xs lo hi)) (λb ob q=>l_ _ q) (o_ _) ?_,rfl,q _ (I.hok.fresh (o_ _))⟩;exact⟨F_ (lq xs lo hi) hz,_,(r.drop (HT.sIx xs.length 0 lo)).take (HT.sIx xs.length xs.length hi-HT.sIx xs.length 0 lo),IsTup.new _ _⟩
def kU(K:W.Frag):R2:=λx y H Q=>∃a b xs ys,x=.ref a/\y=.ref b/\SqT K H a xs/\SqT K H b ys/\xs≠[]/\xs.length+ys.length<=sizeLine/\
 (ys=[]->Q (.ref a) H)/\(ys≠[]->∀p,H p=none->Q (.ref p) (upd H p (.tup (xs++ys))))
def Vals.nil_iff(r:Vals xs us):us=[] ↔ xs=[]:=by
 cases r with
 |nil=>simp
 |cons _ _=>simp
def FP:OpR X (binaryOp .Add) (kU X.K):=by intro pins s σ H x y v u Q I rx ry h;obtain⟨a,b,xs,ys,rfl,rfl,ha,hb,hx,hz,q1,q2⟩:=h;cases rx;cases ry;obtain⟨its,r1,p1,_⟩:=I.tuple ha;obtain⟨its2,r2,p2,_⟩:=I.tuple hb;refine HT.cat_tup p1 p2 (λz=>hx (r1.nil_iff.mp z)) (λz=>⟨.ref a,H,I,rfl,q1 (r2.nil_iff.mp z)⟩) (λz=>?_) (by rw[<- r1.length,<- r2.length];exact hz);refine⟨.ref s.heap.objs.size,_,I.laid (t':=s.toks) (o:=.tup (xs++ys)) (λb ob q=>l_ _ q) (o_ _) ?_,rfl,q2 (λw=>z (r2.nil_iff.mpr w)) _ (I.hok.fresh (o_ _))⟩;exact⟨by rw[z_];exact hz,_,r1.append r2,IsTup.new _ _⟩
end
noncomputable def ixN(n:Nat)(i:Int):Option Nat:=if 0<=i then (if i<n then some i.toNat else none) else if -(n:Int)<=i then some (i+n).toNat else none
noncomputable def atI{α:Type}(xs:List α)(i:Int):Option α:=(ixN xs.length i).bind λj=>xs[j]?
def vf(h:ixN n i=some j):seqIndex? i n=some j/\j<n/\-(n:Int)<=i/\i<n:=by
 unfold ixN at h;by_cases h0:0<=i
 .rw[if_pos h0] at h;by_cases h1:i<n
  .rw[if_pos h1] at h;have e:i.toNat=j:=K_ h;exact⟨by rw[seqIndex_of h0 h1,e],by omega,by omega,h1⟩
  .rw[if_neg h1] at h;cases h
 .rw[if_neg h0] at h;by_cases h1:-(n:Int)<=i
  .rw[if_pos h1] at h;have e:(i+n).toNat=j:=K_ h;exact⟨by rw[seqIndex_neg (by omega) h1,e],by omega,h1,by omega⟩
  .rw[if_neg h1] at h;cases h
def vR(h:atI xs i=some v):∃j,seqIndex? i xs.length=some j/\xs[j]?=some v/\j<xs.length/\-(xs.length:Int)<=i/\i<xs.length:=by
 unfold atI at h;cases e:ixN xs.length i with
 |none=>rw[e] at h;cases h
 |some j=>rw[e] at h;obtain⟨h1,h2,h3,h4⟩:=vf e;exact⟨j,h1,h,h2,h3,h4⟩
def oH(b:Expr):Prop:=∀o i,subscripted b false o i=operate [o,i] (getItem o i)
def IxR(X:Cx)(r:R2):Prop:=
 ∀
  (value io:Expr) (pins:Sb) (s:Shared) (σ:St) (H:Hp) (x y:V) (v u:Value) (Q:VK),Inv X pins σ H s->RelV x v->RelV y u->r x y H Q->
  subscripted io false v u=operate [v,u] (getItem v u)->wpAny (model X.prog X.w) X.A (subscriptTail value io v u) (EP X pins σ Q) X.xe s
def MtR(X:Cx)(id:String)(r:V->List V->Hp->VK->Prop):Prop:=
 ∀
  (pins:Sb) (s:Shared) (σ:St) (H:Hp) (x:V) (xs:List V) (v:Value) (us:List Value) (Q:VK),Inv X pins σ H s->RelV x v->Vals xs us->r x xs H Q->
  wpAny (model X.prog X.w) X.A (call (.builtin id) (v::us)) (EP X pins σ Q) X.xe s
section
variable{X:Cx}{a b:Expr}{ta tb:TE}{pos:Pos}
def IxR.or(h:IxR X r)(h':IxR X r'):IxR X (λx y H Q=>r x y H Q\/r' x y H Q):=by
 intro value io pins s σ H x y v u Q I rx ry q hs;rcases q with q |q
 .exact h value io pins s σ H x y v u Q I rx ry q hs
 .exact h' value io pins s σ H x y v u Q I rx ry q hs
def NL(hr:IxR X r)(ha:PE X a ta)(hb:PE X b tb)(hs:oH b):PE X (.Subscript a b pos) (tOp r ta tb):=by intro pins s σ H Q I h;exact Subscript_ (BN ha hb I h λv u s2 x y H2 I2 rx ry q=>hr a b pins s2 σ H2 x y v u Q I2 rx ry q (hs _ _))
def xY(K:W.Frag):R2:=λx y H Q=>∃p xs i v,x=.ref p/\y=.int i/\SqL K H p xs/\atI xs i=some v/\Q v H
def yB(K:W.Frag):R2:=λx y H Q=>∃p xs i v,x=.ref p/\y=.int i/\SqT K H p xs/\atI xs i=some v/\Q v H
def F5:IxR X (xY X.K):=by
 intro value io pins s σ H x y v u Q I rx ry h hs;obtain⟨p,xs,i,z,rfl,rfl,hq,he,q⟩:=h;cases rx;obtain⟨t,rfl⟩:=ry;obtain⟨its,r,pl,hz⟩:=I.list hq;obtain⟨j,h1,h2,h3,h4,h5⟩:=vR he;obtain⟨w,ew,rw'⟩:=r.get h2;have hl:=r.length;have hn:=iY;have ii:EP X pins σ Q w s:=⟨z,H,I,rw',q⟩;by_cases h0:0<=i
 .have hj:i.toNat=j:=by rw[seqIndex_of h0 h5] at h1;exact K_ h1
  exact item_listR pl.isList h0 (by omega) (by rw[hj];simpa using ew) ii hs
 .have hj:(i+(its.toArray.size:Int)).toNat=j:=by rw[seqIndex_neg (by omega) h4] at h1;rw[t_,<- hl];exact K_ h1
  exact subscriptTail_builtinR (x:=w) pl.isList.typeIs slot_list_getitem.lookup
   (wpAny_getItem_list_neg (Q:=λr s'=>r=w/\EP X pins σ Q r s') pl.isList (by omega) (by rw[t_] <;> omega) (by omega) (by rw[hj];simpa using ew) ⟨rfl,ii⟩) hs
def Lm:IxR X (yB X.K):=by
 intro value io pins s σ H x y v u Q I rx ry h hs;obtain⟨p,xs,i,z,rfl,rfl,hq,he,q⟩:=h;cases rx;obtain⟨t,rfl⟩:=ry;obtain⟨its,r,pl,hz⟩:=I.tuple hq;obtain⟨j,h1,h2,h3,h4,h5⟩:=vR he;obtain⟨w,ew,rw'⟩:=r.get h2;have hl:=r.length;have hn:=iY;have ii:EP X pins σ Q w s:=⟨z,H,I,rw',q⟩;exact subscriptTail_builtinR (x:=w) pl.typeIs slot_tuple_getitem.lookup
  (getItem_tuple (j:=j) (Q:=λr s'=>r=w/\EP X pins σ Q r s') pl (by omega) (by omega) (by rw[t_,<- hl];exact h1) (by simpa using ew) ⟨rfl,ii⟩) hs
def wV(its:List Value)(n j:Nat)(u:Value):Obj.mapSeq (·.setIfInBounds j u) { cls:=.type "list",data:=.seq its.toArray n }={ cls:=.type "list",data:=.seq (its.set j u).toArray n }:=by simp [Obj.mapSeq]
def Inv.lst(I:Inv X pins σ H s)(h:H p=some (.lst xs)):
 ∃(its:List Value) (n:Nat),Vals xs its/\s.heap.get? p=some { cls:=.type "list",data:=.seq its.toArray n }/\xs.length<=sizeLine:=by
 obtain⟨z,its,n,r,e⟩:=I.hok p _ h;exact⟨its,n,r,e,z⟩
def Inv.lstUpd{pins:Sb}{σ:St}{H:Hp}{s:Shared}{p:Addr}{xs ys:List V}{its its':List Value}{n n':Nat}{f:Obj->Obj}(I:Inv X pins σ H s)(h:H p=some (.lst xs))
 (ho:s.heap.get? p=some { cls:=.type "list",data:=.seq its.toArray n }) (hf:f { cls:=.type "list",data:=.seq its.toArray n }={ cls:=.type "list",data:=.seq its'.toArray n' }) (r:Vals ys its') (hz:ys.length<=sizeLine) (t:Nat):
 Inv X pins σ (upd H p (.lst ys)) { s with heap:=s.heap.update p f,toks:=t }:=by
 have e:(s.heap.update p f).get? p=some { cls:=.type "list",data:=.seq its'.toArray n' }:=by rw[Heap.get?_update_self f ho (by rw[hf] <;> rfl),hf]
 refine I.write (x:=p) (e:=p) (by rw[h];trivial) (.inl rfl) (λb u hb q=>(Ra _ _ (Ne.symm hb)).trans q) ⟨_,e⟩ ?_;exact⟨hz,its',n',r,e⟩
def yo:V->V->V->Hp->(Hp->Prop)->Prop:=λo i v H Q=>∃p xs k j,o=.ref p/\i=.int k/\H p=some (.lst xs)/\ixN xs.length k=some j/\Q (upd H p (.lst (xs.set j v)))
def Ci:so X yo:=by
 intro pins s σ H o i v ov iv u Q I ro ri rv h;obtain⟨p,xs,k,j,rfl,rfl,hp,hj,q⟩:=h;cases ro;obtain⟨t,rfl⟩:=ri;obtain⟨its,n,r,ho,hz⟩:=I.lst hp;obtain⟨h1,h2,h3,h4⟩:=vf hj;have hl:=r.length;have hn:=iY;have I':Inv X pins σ (upd H p (.lst (xs.set j v))) { s with heap:=s.heap.update p (Obj.mapSeq (·.setIfInBounds j u)) }:=
  I.lstUpd hp ho (wV its n j u) (r.set rv j) (by rw[I_];exact hz) s.toks
 by_cases h0:0<=k
 .have hk:k.toNat=j:=by rw[seqIndex_of h0 h4] at h1;exact K_ h1
  exact W.ki_setAt ho h0 (by omega) (by rw[t_,<- hl];exact h4) (by rw[hk];exact⟨_,I',q⟩)
 .have hk:(k+(its.toArray.size:Int)).toNat=j:=by rw[seqIndex_neg (by omega) h3] at h1;rw[t_,<- hl];exact K_ h1
  exact W.ki_setBack ho (by omega) (by rw[t_,<- hl];exact h3) (by omega) (by rw[hk];exact⟨_,I',q⟩)
def sR(lo hi:Option Int)(n:Nat):(sliceBounds lo hi none n).1=((HT.sIx n 0 lo:Nat):Int)/\(sliceBounds lo hi none n).2.1=((HT.sIx n n hi:Nat):Int)/\(sliceBounds lo hi none n).2.2=1:=by
 refine⟨?_,?_,rfl⟩
 .cases lo with
  |none=>simp [sliceBounds,HT.sIx]
  |
   some i=>
   simp only[sliceBounds,HT.sIx,Option.getD_none,show (1:Int)>0 by decide,Qu];by_cases h:i<0
   .simp only[h,Qu] <;> omega
   .simp only[h,Q4] <;> omega
 .cases hi with
  |none=>simp [sliceBounds,HT.sIx]
  |
   some i=>
   simp only[sliceBounds,HT.sIx,Option.getD_none,show (1:Int)>0 by decide,Qu];by_cases h:i<0
   .simp only[h,Qu] <;> omega
   .simp only[h,Q4] <;> omega
def p7(its:List Value)(lo hi:Option Int):slicePick its.toArray lo hi none=((its.drop (HT.sIx its.length 0 lo)).take (HT.sIx its.length its.length hi-HT.sIx its.length 0 lo)).toArray:=by obtain⟨h1,h2,h3⟩:=sR lo hi its.toArray.size;unfold slicePick;rw[h1,h2,h3];simp only[sliceRange_one,pick_run,t_] <;> rfl
def rSlL(K:W.Frag):V->Option Int->Option Int->Hp->VK->Prop:=λx lo hi H Q=>∃a xs,x=.ref a/\SqL K H a xs/\∀p,H p=none->Q (.ref p) (upd H p (.lst (kg xs lo hi)))
def Ft:SlR X (rSlL X.K):=by intro pins s σ H x v vl vu lo hi sl Q I rx hs pl pu h;obtain⟨a,xs,rfl,hx,q⟩:=h;cases rx;obtain⟨its,r,ht,hz⟩:=I.list hx;have be:=r.length;refine⟨"list",_,slot_list_getitem.lookup,ht.isList.typeIs,?_⟩;refine wpAny_getItem_list_slice ht.isList hs pl pu .none (by simp) ?_ (by rw[t_] <;> omega);rw[p7,<- be];refine⟨.ref s.heap.objs.size,_,I.laid (t':=s.toks) (o:=.lst (kg xs lo hi)) (λb ob q=>l_ _ q) (o_ _) ?_,rfl,q _ (I.hok.fresh (o_ _))⟩;exact⟨F_ (lq xs lo hi) hz,_,0,(r.drop (HT.sIx xs.length 0 lo)).take (HT.sIx xs.length xs.length hi-HT.sIx xs.length 0 lo),C_ _ rfl⟩
noncomputable def aY:V->Bool
 |.non=>true
 |.bl _=>true
 |.int _=>true
 |.str _=>true
 |_=>false
noncomputable def eqV:V->V->Bool
 |.non,.non=>true
 |.bl a,.bl b=>a==b
 |.bl a,.int b=>(if a then 1 else 0)==b
 |.int a,.bl b=>a==(if b then 1 else 0)
 |.int a,.int b=>a==b
 |.str a,.str b=>a==b
 |_,_=>false
def Ho(ry:RelV y u)(rx:RelV x v)(fy:aY y=true)(fx:aY x=true):SeqAt.EqAt A s u v (eqV y x):=by
 cases y with
 |
  non=>
  cases ry;cases x with
  |non=>cases rx;exact SeqAt.EqAt.same _
  |bl b=>cases rx;exact SeqAt.EqAt.none_bool b
  |int b=>obtain⟨t,rfl⟩:=rx;exact SeqAt.EqAt.none_int b t
  |str b=>obtain⟨t,rfl⟩:=rx;exact SeqAt.EqAt.none_str b t
  |_=>exact absurd (show false=true from fx) x_
 |
  bl a=>
  cases ry;cases x with
  |non=>cases rx;exact SeqAt.EqAt.bool_none a
  |bl b=>cases rx;exact SeqAt.EqAt.bool_bool a b
  |int b=>obtain⟨t,rfl⟩:=rx;exact SeqAt.EqAt.bool_int a b t
  |str b=>obtain⟨t,rfl⟩:=rx;exact SeqAt.EqAt.bool_str a b t
  |_=>exact absurd (show false=true from fx) x_
 |
  int a=>
  obtain⟨t',rfl⟩:=ry;cases x with
  |non=>cases rx;exact SeqAt.EqAt.int_none a t'
  |bl b=>cases rx;exact SeqAt.EqAt.int_bool a t' b
  |int b=>obtain⟨t,rfl⟩:=rx;exact SeqAt.EqAt.int_int a t' b t
  |str b=>obtain⟨t,rfl⟩:=rx;exact SeqAt.EqAt.int_str a t' b t
  |_=>exact absurd (show false=true from fx) x_
 |
  str a=>
  obtain⟨t',rfl⟩:=ry;cases x with
  |non=>cases rx;exact SeqAt.EqAt.str_none a t'
  |bl b=>cases rx;exact SeqAt.EqAt.str_bool a t' b
  |int b=>obtain⟨t,rfl⟩:=rx;exact SeqAt.EqAt.str_int a t' b t
  |str b=>obtain⟨t,rfl⟩:=rx;exact SeqAt.EqAt.str_str a t' b t
  |_=>exact absurd (show false=true from fx) x_
 |_=>exact absurd (show false=true from fy) x_
noncomputable def eqU(x:V)(u:Value):Bool:=match u with
 |.none=>eqV .non x
 |.bool b=>eqV (.bl b) x
 |.int i _=>eqV (.int i) x
 |.str z _=>eqV (.str z) x
 |_=>false
def za(r:RelV y u)(f:aY y=true):eqU x u=eqV y x:=by
 cases y with
 |non=>cases r;rfl
 |bl b=>cases r;rfl
 |int i=>obtain⟨t,rfl⟩:=r;rfl
 |str z=>obtain⟨t,rfl⟩:=r;rfl
 |_=>exact absurd (show false=true from f) x_
theorem iG:∀{xs:List V}{us:List Value},Vals xs us->xs.all aY=true->us.any (eqU x)=xs.any λy=>eqV y x
 |_,_,.nil,_=>rfl
 |
  y::xs,u::us,.cons r t,f=>by
  rw[QR,r_] at f;rw[PR,PR,za r f.1,iG t f.2]
theorem gD(rx:RelV x v)(fx:aY x=true):∀{xs:List V}{us:List Value},Vals xs us->xs.all aY=true->∀u∈us,SeqAt.EqAt A s u v (eqU x u)
 |_,_,.nil,_=>λu hu=>by cases hu
 |
  y::xs,u::us,.cons r t,f=>λu' hu=>by
  rw[QR,r_] at f;rcases H_.mp hu with rfl |hu
  .rw[za r f.1];exact Ho r rx f.1 fx
  .exact gD rx fx t f.2 u' hu
noncomputable def inV(x:V)(xs:List V):Bool:=xs.any λy=>eqV y x
def rIn(K:W.Frag)(neg:Bool):R2:=λx y H Q=>∃p xs,y=.ref p/\(SqL K H p xs\/SqT K H p xs)/\aY x=true/\xs.all aY=true/\Q (.bl (if neg then !inV x xs else inV x xs)) H
def zS:OpR X (compareOp .In) (rIn X.K false):=by
 intro pins s σ H x y v u Q I rx ry h;obtain⟨p,xs,rfl,hq,fx,fs,q⟩:=h;cases ry;rcases hq with hq |hq
 .obtain⟨its,r,pl,hz⟩:=I.list hq;refine SeqAt.in_listAt (eqU x) pl.isList (λw hw=>gD rx fx r fs w (by simpa using hw)) ⟨.bl _,H,I,rfl,?_⟩;rw[show its.toArray.any (eqU x)=its.any (eqU x) by simp,iG r fs];exact q
 .obtain⟨its,r,pl,hz⟩:=I.tuple hq;refine SeqAt.in_tupleAt (eqU x) pl (λw hw=>gD rx fx r fs w (by simpa using hw)) ⟨.bl _,H,I,rfl,?_⟩;rw[show its.toArray.any (eqU x)=its.any (eqU x) by simp,iG r fs];exact q
def tU:OpR X (compareOp .NotIn) (rIn X.K true):=by
 intro pins s σ H x y v u Q I rx ry h;obtain⟨p,xs,rfl,hq,fx,fs,q⟩:=h;cases ry;rcases hq with hq |hq
 .obtain⟨its,r,pl,hz⟩:=I.list hq;refine SeqAt.notIn_listAt (eqU x) pl.isList (λw hw=>gD rx fx r fs w (by simpa using hw)) ⟨.bl _,H,I,rfl,?_⟩;rw[show its.toArray.any (eqU x)=its.any (eqU x) by simp,iG r fs];exact q
 .obtain⟨its,r,pl,hz⟩:=I.tuple hq;refine SeqAt.notIn_tupleAt (eqU x) pl (λw hw=>gD rx fx r fs w (by simpa using hw)) ⟨.bl _,H,I,rfl,?_⟩;rw[show its.toArray.any (eqU x)=its.any (eqU x) by simp,iG r fs];exact q
def uF:CallR X (.builtin "len") (λxs H Q=>∃p ys,xs=[.ref p]/\(SqL X.K H p ys\/SqT X.K H p ys)/\Q (.int ys.length) H):=by
 intro pins s σ H xs us Q I r h;obtain⟨p,ys,rfl,hq,q⟩:=h;obtain⟨u,rfl,rx⟩:=fb r;cases rx;have hn:=iY;rcases hq with hq |hq
 .obtain⟨its,r',pl,hz⟩:=I.list hq;have be:=r'.length;exact Calls.call_len_list pl.isList (by simp only[t_] <;> omega) ⟨.int ys.length,H,I.tok _,⟨s.toks+1,by rw[t_,be]⟩,q⟩
 .obtain⟨its,r',pl,hz⟩:=I.tuple hq;have be:=r'.length;exact len_tuple pl (by simp only[t_] <;> omega) ⟨.int ys.length,H,I.tok _,⟨s.toks+1,by rw[t_,be]⟩,q⟩
def tw:CallR X (.builtin "len") (λxs H Q=>∃z,xs=[.str z]/\z.length<=sizeLine/\Q (.int z.length) H):=by intro pins s σ H xs us Q I r h;obtain⟨z,rfl,hz,q⟩:=h;obtain⟨u,rfl,t,rfl⟩:=fb r;have hn:=iY;exact len_str (by omega) ⟨.int z.length,H,I.tok _,⟨_,rfl⟩,q⟩
def CallR.or(h:CallR X f r)(h':CallR X f r'):CallR X f (λxs H Q=>r xs H Q\/r' xs H Q):=by
 intro pins s σ H xs us Q I rs q;rcases q with q |q
 .exact h pins s σ H xs us Q I rs q
 .exact h' pins s σ H xs us Q I rs q
def p9:CallR X (.type "tuple") (λxs H Q=>∃p ys,xs=[.ref p]/\((SqL X.K H p ys/\∀l,H l=none->Q (.ref l) (upd H l (.tup ys)))\/(SqT X.K H p ys/\Q (.ref p) H))):=by
 intro pins s σ H xs us Q I r h;obtain⟨p,ys,rfl,h⟩:=h;obtain⟨u,rfl,rx⟩:=fb r;cases rx;rcases h with ⟨hq,q⟩ |⟨hq,q⟩
 .obtain⟨its,r',pl,hz⟩:=I.list hq;have be:=r'.length;refine call_tuple_list pl.isList (λh' kp=>?_) (by simp only[t_] <;> omega);have I1:Inv X pins σ H { s with heap:=h' }:=I.kept (t':=s.toks) kp;have I2:Inv X pins σ (upd H h'.objs.size (.tup ys)) { s with heap:=h'.push { cls:=.type "tuple",data:=.seq its.toArray } }:=
   I1.laid (t':=s.toks) (λb o e=>l_ _ e) (o_ _) (show ObjOk X.prog X.w _ _ _ (.tup ys) from ⟨hz,its,r',IsTup.new _ _⟩)
  exact⟨.ref h'.objs.size,_,I2,rfl,q _ (I1.hok.fresh (o_ _))⟩
 .obtain⟨its,r',pl,hz⟩:=I.tuple hq;exact call_tuple_same pl ⟨.ref p,H,I,rfl,q⟩
def tyV(K:W.Frag)(T:String)(x:V)(H:Hp):Prop:=match x with
 |.str _=>T="str"
 |.int _=>T="int"
 |.ref p=>(T="list" /\ ∃xs,SqL K H p xs)\/(T="tuple" /\ ∃o,K.lookup p=some o/\o.cls=.type "tuple" /\ o.dict=none)\/
  (T="dict" /\ ((∃kvs,H p=some (.dK kvs))\/∃kvs,H p=some (.dT kvs)))\/(T="set" /\ ∃S n,H p=some (.set S n))
 |_=>False
def AJ(I:Inv X pins σ H s)(r:RelV x v)(ty:tyV X.K T x H):
 s.TypeIs v T/\∀a,v=.ref a->∃ob,s.heap.get? a=some ob/\ob.dict=none:=by
 cases x with
 |str z=>obtain⟨t,rfl⟩:=r;cases (show T="str" from ty);exact⟨typeIs_str s z t,λ_ e=>nomatch e⟩
 |int i=>obtain⟨t,rfl⟩:=r;cases (show T="int" from ty);exact⟨typeIs_int s i t,λ_ e=>nomatch e⟩
 |
  ref p=>
  cases r;rcases ty with ⟨rfl,xs,hq⟩ |⟨rfl,o,hk,hc,hd⟩ |⟨rfl,hk⟩ |⟨rfl,S,n,hk⟩
  .obtain⟨its,_,pl,_⟩:=I.list hq;refine⟨pl.isList.typeIs,λa e=>?_⟩;cases e;obtain⟨o,n,e,c,hd,_⟩:=pl;exact⟨o,e,hd⟩
  .refine⟨⟨o,I.kIn p o hk,hc⟩,λa e=>?_⟩;cases e;exact⟨o,I.kIn _ o hk,hd⟩
  .have z:∃o,s.heap.get? p=some o/\o.ExactDict:=by
    rcases hk with ⟨kvs,hk⟩ |⟨kvs,hk⟩
    .obtain⟨_,_,_,_,o,_,_,e,ex,_⟩:=I.hok p _ hk;exact⟨o,e,ex⟩
    .obtain⟨_,_,_,_,o,_,_,e,ex,_⟩:=I.hok p _ hk;exact⟨o,e,ex⟩
   obtain⟨o,e,ex⟩:=z;refine⟨⟨o,e,ex.1⟩,λa e2=>?_⟩;cases e2;exact⟨o,e,ex.2.1⟩
  .obtain⟨o,_,_,_,e,ex,_⟩:=I.hok p _ hk;refine⟨⟨o,e,ex.1⟩,λa e2=>?_⟩;cases e2;exact⟨o,e,ex.2.1⟩
 |_=>exact False.elim ty
def tBM0(K:W.Frag)(T:String)(r:V->List V->Hp->VK->Prop)(to:TE):TE:=λσ H Q=>to σ H λx H1=>tyV K T x H1/\r x [] H1 Q
def tBM(K:W.Frag)(T:String)(r:V->List V->Hp->VK->Prop)(to:TE)(t:TA):TE:=λσ H Q=>to σ H λx H1=>tyV K T x H1/\t σ H1 λxs H2=>r x xs H2 Q
variable{o e:Expr}{es:List Expr}{to:TE}{t:TA}{name:Str}{apos cpos:Pos}{T id:String}{r:V->List V->Hp->VK->Prop}
def Iq(pa:PlainAttrs T)(slot:Slot T name id)(hty:typeOf (.builtin id)=pure (.type "method_descriptor"))(hm:MtR X id r)(ho:PE X o to)
 (f_:attributeBase o name X.env (eval o X.env)=eval o X.env) (gl:(apos.endLine==cpos.line)=true):PE X (.Call (.Attribute o name apos) [] [] cpos) (tBM0 X.K T r to):=by
 intro pins s σ H Q I h;refine wpAny_Call_method0_late f_ gl (thn (ho pins s σ H _ I h) λv s1 ⟨x,H1,I1,r1,ty,q1⟩=>?_);obtain⟨h1,h2⟩:=AJ I1 r1 ty;exact⟨T,id,pa,slot,hty,h1,h2,Calls.callWith_builtin rfl (PySem.evalArgs_none (hm pins s1 σ H1 x [] v [] Q I1 r1 .nil q1))⟩
def Ep(pa:PlainAttrs T)(slot:Slot T name id)(hty:typeOf (.builtin id)=pure (.type "method_descriptor"))(hm:MtR X id r)(ho:PE X o to)(ha:PA X (e::es) t)
 (f_:attributeBase o name X.env (eval o X.env)=eval o X.env)
 (hfew:((backTo cpos (starEach (e::es) X.env)).all (λx=>!x.1)&&(backToKw cpos (keywordEach [] X.env)).all (λx=>x.1.isSome)
  && decide ((e::es).length+([]:List Keyword).length+(if ([]:List Keyword).isEmpty then 0 else 1)<30))=true)
 (gl:(apos.endLine==cpos.line)=true) (hs:starEach (e::es) X.env=(false,eval e X.env)::starEach es X.env) (ci:(backTo cpos (starEach es X.env)).any (·.1)=false):
 PE X (.Call (.Attribute o name apos) (e::es) [] cpos) (tBM X.K T r to t):=by
 intro pins s σ H Q I h;refine wpAny_Call_method_late f_ hfew gl rfl (thn (ho pins s σ H _ I h) λv s1 ⟨x,H1,I1,r1,ty,q1⟩=>?_);obtain⟨h1,h2⟩:=AJ I1 r1 ty;refine⟨T,id,pa,slot,hty,h1,h2,?_⟩;have hA:=ha cpos pins s1 σ H1 _ I1 q1;rw[hs] at hA ⊢;refine Calls.callWith_builtin (by show (false || (backTo cpos (starEach es X.env)).any (·.1))=false;rw[ci] <;> rfl) (Calls.evalArgs_plain ?_);exact thn hA λus s2 ⟨vs,H2,I2,r2,q2⟩=>hm pins s2 σ H2 x vs v us Q I2 r1 r2 q2
end
def MtM(X:Cx)(id:String)(r:V->List V->Hp->VK->Prop):Prop:=
 ∀
  (pins:Sb) (s:Shared) (σ:St) (H:Hp) (x:V) (xs:List V) (v:Value) (us:List Value) (Q:VK),Inv X pins σ H s->RelV x v->Vals xs us->r x xs H Q->
  wpAny (model X.prog X.w) X.A (call (.builtin id) (v::us)) (EP X pins σ Q) X.xe s
def Vals.one(r:Vals [x] us):∃u,us=[u]/\RelV x u:=by
 cases r with
 |cons r t=>cases t;exact⟨_,rfl,r⟩
theorem Vals.zero:∀{us:List Value},Vals [] us->us=[]
 |_,.nil=>rfl
def Vals.dropLast(h:Vals xs us):Vals xs.dropLast us.dropLast:=by
 induction h with
 |nil=>exact .nil
 |
  cons r t ih=>
  cases t with
  |nil=>exact .nil
  |cons q t'=>exact .cons r ih
def Vals.reverse(h:Vals xs us):Vals xs.reverse us.reverse:=by
 induction h with
 |nil=>exact .nil
 |cons r t ih=>rw[Qr,Qr];exact Vals.append ih (.cons r .nil)
def xy{α:Type}(l:List α):l.eraseIdx (l.length-1)=l.dropLast:=by
 induction l with
 |nil=>rfl
 |
  cons a r ih=>
  cases r with
  |nil=>rfl
  |
   cons b r=>
   have e:(a::b::r).length-1=((b::r).length-1)+1:=by have h1:(a::b::r).length=r.length+2:=rfl;have h2:(b::r).length=r.length+1:=rfl;omega
   rw[e,List.eraseIdx_cons_succ,ih];all_goals rfl
section
variable{X:Cx}{pins:Sb}{σ:St}{H:Hp}{s:Shared}{l b:Addr}{xs ys zs:List V}
def Inv.lset{its its':List Value}{n:Nat}{f:Array Value->Array Value}{t':Nat}(I:Inv X pins σ H s)(hH:H l=some (.lst xs))
 (e:s.heap.get? l=some { cls:=.type "list",data:=.seq its.toArray n }) (hf:f its.toArray=its'.toArray) (hv:Vals ys its') (hz:ys.length<=sizeLine):
 Inv X pins σ (upd H l (.lst ys)) { s with heap:=s.heap.update l (Obj.mapSeq f),toks:=t' }:=by
 have q:=PySem.IsL.update e f;rw[hf] at q;refine I.write (x:=l) (e:=l) (by rw[hH];exact trivial) (.inl rfl) (λb' u hb hu=>(Ra s.heap (Obj.mapSeq f) (Ne.symm hb)).trans hu) ⟨_,q⟩ ?_;exact⟨hz,its',_,hv,q⟩
def Inv.lnew(I:Inv X pins σ H s)(hv:Vals ys its)(hz:ys.length<=sizeLine):
 Inv X pins σ (upd H s.heap.objs.size (.lst ys)) { s with heap:=s.heap.push { cls:=.type "list",data:=.seq its.toArray },toks:=t' }:=
 I.laid (λ_ _ q=>l_ _ q) (o_ _) ⟨hz,its,0,hv,C_ _ rfl⟩
def Inv.fresh(I:Inv X pins σ H s):H s.heap.objs.size=none:=I.hok.fresh (o_ _)
def Inv.lstM(I:Inv X pins σ H s)(hH:H l=some (.lst xs)):xs.length<=sizeLine/\∃(its:List Value) (n:Nat),Vals xs its/\xs.length=its.length/\s.heap.get? l=some { cls:=.type "list",data:=.seq its.toArray n }:=by obtain⟨z,its,n,r,e⟩:=I.hok l _ hH;exact⟨z,its,n,r,r.length,e⟩
def CI{n:Nat}(h:n<=sizeLine):Builtin.List.listTooLong n=false:=by unfold Builtin.List.listTooLong;exact w_ (by omega)
end
section
variable{X:Cx}
def oM:V->List V->Hp->VK->Prop:=λx vs H Q=>∃l xs y,x=.ref l/\vs=[y]/\H l=some (.lst xs)/\xs.length<sizeLine/\Q .non (upd H l (.lst (xs++[y])))
def zC:MtM X "list.append" oM:=by intro pins s σ H x vs v us Q I rx rv h;obtain⟨l,xs,y,rfl,rfl,hH,hz,q⟩:=h;cases rx;obtain⟨u,rfl,ru⟩:=rv.one;obtain⟨z,its,n,r,hl,e⟩:=I.lstM hH;refine call_meets F.slot_list_append ⟨_,e,rfl⟩ F.entry_list_append (F.args_list_append_2 _ _) (PySem.list_append l its.toArray n u (by rw[t_];omega)) ⟨e,?_⟩;refine⟨.non,_,I.lset (its':=its++[u]) hH e (by simp) (r.append (.cons ru .nil)) ?_,rfl,q⟩;rw[z_,Rq];omega
def CF:V->List V->Hp->VK->Prop:=λx vs H Q=>∃l xs y,x=.ref l/\vs=[]/\H l=some (.lst xs)/\xs[xs.length-1]?=some y/\Q y (upd H l (.lst xs.dropLast))
def Hv:MtM X "list.pop" CF:=by
 intro pins s σ H x vs v us Q I rx rv h;obtain⟨l,xs,y,rfl,rfl,hH,hy,q⟩:=h;cases rx;have hus:=rv.zero;subst hus;obtain⟨z,its,n,r,hl,e⟩:=I.lstM hH;obtain⟨u,hu,ru⟩:=r.get hy;have hy':its.toArray[its.toArray.size-1]?=some u:=by show its.toArray[its.length-1]?=some u;rw[<- Array.getElem?_toList,<- hl];exact hu
 refine call_meets F.slot_list_pop ⟨_,e,rfl⟩ F.entry_list_pop (F.args_list_pop_1 _) (MeetsSeq.list_pop_last l its.toArray n u hy' (by rw[t_];omega)) ⟨e,?_⟩;refine⟨y,_,I.lset (its':=its.dropLast) hH e ?_ r.dropLast ?_,ru,q⟩
 .show its.toArray.eraseIdxIfInBounds (its.toArray.size-1)=its.dropLast.toArray;rw[t_,List.eraseIdxIfInBounds_toArray,xy]
 .rw[List.length_dropLast];omega
def oy:R2:=λx y H Q=>∃l b xs zs,x=.ref l/\y=.ref b/\H l=some (.lst xs)/\H b=some (.lst zs)/\xs.length+zs.length<=sizeLine/\∀p,H p=none->Q (.ref p) (upd H p (.lst (xs++zs)))
def KH:OpR X (binaryOp .Add) oy:=by
 intro pins s σ H x y v u Q I rx ry h;obtain⟨l,b,xs,zs,rfl,rfl,hH,hB,hz,q⟩:=h;cases rx;cases ry;obtain⟨z,its,n,r,hl,e⟩:=I.lstM hH;obtain⟨z2,its2,n2,r2,hl2,e2⟩:=I.lstM hB;refine PySem.P.add_list e e2 ?_ (by rw[t_,t_];omega);have ea:its.toArray++its2.toArray=(its++its2).toArray:=by simp
 rw[ea];exact⟨.ref _,_,I.lnew (t':=s.toks) (r.append r2) (by rw[z_];omega),rfl,q _ I.fresh⟩
end
section
variable{prog:Program}{w:World}{A:Around}{E:Sd}{s:Shared}
set_option maxRecDepth 100000 in
end
section
variable{X:Cx}
end
end L2
namespace Att
open PySem PySem.W PySem.Calls PyProof.Rows
def mU:∀(ns:List Int) (vs:List Value),WellAll P h vs (ns.map WData.int)->IntsAre vs ns:=by
 intro ns;induction ns with
 |nil=>intro vs w;rw[O_] at w;cases w;exact .nil
 |
  cons n ns ih=>
  intro vs w;rw[s_] at w;cases w with
  |cons a b=>cases a;exact .cons _ _ (ih _ b)
def zX{l:OpenLaw}{n:Nat}(hn:l.most=some n){P:Params}{h:Heap}{args:List WData}{vals:List Value}
 (hpre:l.row.toRowW.claim.pre args=true) (hwl:WellAll P h vals args):
 ∃a vs ns,vals=[Value.ref a]/\args=[WData.list (ns.map WData.int)]/\h.get? a=some { cls:=.type "list",data:=.seq vs.toArray }/\IntsAre vs ns/\ns.length<=n:=by
 have hsh:WShape.hasAll [] args [.list .int]=true:=(pre_splitW hpre).1;have hc:l.pre.holds [] { args:=args }=true:=(pre_splitW hpre).2;obtain⟨d,r,rfl,h1,h2⟩:=hasAllW_cons hsh;obtain rfl:=hasAllW_nil h2;obtain⟨xs,rfl,h3⟩:=hasW_list h1;obtain⟨ns,rfl⟩:=items_int h3;have be:ns.length<=n:=by
  unfold OpenLaw.pre at hc;have h4:(WTm.not (.lt (.lit (.int (n:Int))) (.len (.arg 0)))).holds [] { args:=[.list (ns.map .int)] }=true:=by have h4:=(holds_andW hc).1;rw[hn] at h4;exact h4
  have h5:=condW_of h4 (w_not (w_lt w_lit (w_len_list (w_arg rfl))));rw[k_] at h5;refine Nat.le_of_not_lt λq=>?_;have q':(n:Int)<((ns.length:Nat):Int):=by omega
  first
   |(rw[A_ q'] at h5;exact absurd h5 (by decide))
   |(simp at h5;omega)
 cases hwl with
 |
  cons w1 w2=>
  cases w2;cases w1 with
  |list ho hall=>exact⟨_,_,ns,rfl,rfl,ho,mU ns _ hall,be⟩
def AQ(l:OpenLaw)(args:List WData):l.row.toRowW.claim.post args (.bool true) args=true:=
 postW_of (r:=l.row.toRowW) (X:=(true==true))
  (show WShape.has [] (.bool true) .bool=true by first |rfl |decide |simp [WShape.has,WShape.arms,WShape.armsAll])
  (show (WTm.eq .res (.lit (.bool true))).value [] { args:=args,res:=some (.bool true),after:=args }=some (.bool (true==true)) from w_eq_bool (w_res rfl) w_lit) rfl
def attach_call{l:OpenLaw}{n:Nat}{q:Program}{loose:List Str}{XP:(Str->Option Value)->Heap->Prop}{YP:World->Heap->Prop}{d:DefRec}
 (hn:l.most=some n) (hdf:d.params.defaults=[])
 (call:∀(w:World) (s₀ s₁:Shared) (mg mb:Sa) (fa:Addr) (o:Obj) (pm cd doc:Value) (a:Addr) (vs:List Value) (ns:List Int),
  Ground q loose [] XP w s₀ mg mb s₁.heap->YP w s₁.heap->
  s₁.heap.get? fa=some o->o.data=.func (docDef d.name d.params d.body d.scope pm cd doc)->s₁.heap.CodeRec cd d.name->mg d.name=some (.ref fa)->
  s₁.heap.get? a=some { cls:=.type "list",data:=.seq vs.toArray }->IntsAre vs ns->ns.length<=n->s₁.gens=#[]->
  codeAny (model l.prog w) callerA (.call (.ref fa) ⟨[.ref a],[]⟩) (λr s'=>r=.ok (.ret (.bool true))/\OldK s₁.heap s'.heap/\s'.os=s₁.os/\AllBare s'.gens) s₁):
 WalkO q loose XP YP l.row.toRowW d [] (λf vs=>PySem.call f vs):=by
 intro w s₀ s₁ mg mb G Y fa o pm cd doc dV kV ho hd i_ hD hmg hg args vals as hpre hlay hrd hwl hlo;obtain rfl:dV=.none:=Dflts.none hD hdf;obtain rfl:kV=.none:=Dflts.noKw hD;obtain⟨a,vs,ns,rfl,rfl,hobj,hints,be⟩:=zX hn hpre hwl;refine enter_call (codeAny_mono (call w s₀ s₁ mg mb fa o pm cd doc a vs ns G Y ho (fd_plain hd) i_ hmg hobj hints be hg) λr s' hq=>?_);obtain⟨rfl,h2,h3,h4⟩:=hq;exact⟨.inl ⟨.bool true,.bool true,[],rfl,λ_=>rfl,.bool true,AQ l _,λ_=>⟨List.Pairwise.nil,λ_ hm=>(nomatch hm)⟩⟩,h2,h3,h4⟩
section
variable{prog:Program}{w:World}{A:Around}{E:Sd}{s:Shared}{K:Frag}
def ledger(h:Heap)(L d:Addr):List (Addr×Obj):=(List.range h.objs.size).filterMap λa=>if a=L\/a=d then none else (h.get? a).map λo=>(a,o)
end
end Att
namespace L2
open PySem PySem.Spec PyProof.Rows
theorem jT:∀{vs:List Value}{ns:List Int},IntsAre vs ns->Vals (ns.map V.int) vs
 |_,_,.nil=>.nil
 |_,_,.cons n t h=>.cons ⟨t,rfl⟩ (jT h)
def Dw(H:Hp):Prop:=∀b,H b=none\/∃o xs,H b=some (.frz o (.lst xs))
def AY{P:Program}{w:World}{K:W.Frag}{mg mb:Sa}{CX:CXT}{k:Nat}{fa a:Addr}{fd:FuncData}{x:Str}{sp:Sp}{s₁:Shared}{vs:List Value}{ns:List Int}
 (KX:K.In s₁.heap) (hns:s₁.heap.Ns mainGlobals mg) (hb:s₁.heap.Ns builtinsNs mb) (hbb:∀x:Str,x ≠ "__name__"->mb x=bootBuiltins x) (hlim:s₁.heap.NoLimit) (hg:s₁.gens=#[])
 (ha:s₁.heap.get? a=some { cls:=.type "list",data:=.seq vs.toArray }) (hi:IntsAre vs ns) (hl:ns.length<=sizeLine) (hr:Room k callerA)
 (F:∀base:Heap,K.In base->base.Ns mainGlobals mg->FnOk P w K mg base CX k fa fd [x] sp) (hbind:∀(s:Shared) (u:Value),BindsTo s fd ⟨[u],[]⟩ [(x,u)])
 (hsp:∀H:Hp,Dw H->SqL K H a (ns.map V.int)->sp [.ref a] H (λv _=>v=.bl true) λ_ _ _=>False)
 (hCX:∀H e s',CX [] H s₁ (λ_ _ _=>False) e s'->False):
 codeAny (model P w) callerA (.call (.ref fa) ⟨[.ref a],[]⟩) (λr s'=>r=.ok (.ret (.bool true))/\OldK s₁.heap s'.heap/\s'.os=s₁.os/\AllBare s'.gens) s₁:=by
 have rv:=jT hi;have lenV:=hi.length;have core
  : ∀H:Hp,Dw H->SqL K H a (ns.map V.int)->HOk P w H s₁.heap->(∀b,H b≠none->b=a)->(H a≠none->K.lookup a=none)->
  codeAny (model P w) callerA (.call (.ref fa) ⟨[.ref a],[]⟩) (λr s'=>r=.ok (.ret (.bool true))/\OldK s₁.heap s'.heap/\s'.os=s₁.os/\AllBare s'.gens) s₁:=by
  intro H hO hS hok hA hK;have base_of:∀{b:Addr}{o:Obj},s₁.heap.get? b=some o->H b=none->(fu s₁.heap H).get? b=some o:=λe n=>sQ e n;have noA:∀{b:Addr}{o:Obj}{es:Array DictEntry}{ep:Nat},s₁.heap.get? b=some o->o.data=.dict es ep->H b=none:=λ{b o es ep} e d=>by
   cases q:H b with
   |none=>rfl
   |some u=>have e':b=a:=hA b (by rw[q];simp);subst e';rw[ha] at e;cases e;have d':Data.seq vs.toArray _=Data.dict es ep:=d;cases d'
  have nsK:∀{b:Addr}{m:Sa},s₁.heap.Ns b m->(fu s₁.heap H).Ns b m:=λ{b m} ⟨o,es,ep,e,d,r⟩=>⟨o,es,ep,base_of e (noA e d),d,r⟩;have hKb:K.In (fu s₁.heap H):=λb o e=>base_of (KX b o e) (by
   cases q:H b with
   |none=>rfl
   |some u=>have e':b=a:=hA b (by rw[q];simp);subst e';rw[hK (by rw[q];simp)] at e;cases e)
  have hM:Mod K mg (fu s₁.heap H):=⟨hKb,nsK hns,⟨mb,nsK hb,hbb⟩,let ⟨mc,h1,h2⟩:=hlim;⟨mc,nsK h1,h2⟩⟩;have e0:Env0 P w K mg (fu s₁.heap H) callerA [] s₁ H:=⟨rfl,hM,λb o e=>vX e,Nat.le_of_eq (pj _ _),trivial,λb hb=>absurd (show b∈([]:List Addr) from hb) (by simp),hok,.of_eq hg⟩;refine codeAny_mono ((F _ hKb (nsK hns)).run callerA [] s₁ H ⟨[.ref a],[]⟩ [.ref a] [.ref a] _ _ hr e0 (hbind s₁ (.ref a)) (.cons rfl .nil) (hsp H hO hS)) λr s' h=>?_;cases r with
  |error e=>exact (hCX H e s' h).elim
  |
   ok fl=>
   cases fl with
   |next=>exact False.elim h
   |brk=>exact False.elim h
   |cont=>exact False.elim h
   |
    ret u=>
    obtain⟨v,H',os,bare,un,hok',r',q⟩:=h;have q':v=.bl true:=q;subst q';obtain rfl:u=Value.bool true:=r';refine⟨rfl,OldK.of_keep λb o e=>?_,os,bare⟩;cases q:H b with
    |none=>exact un.keep b o e q (by intro z;exact absurd (show b∈([]:List Addr) from z) (by simp)) (by simp)
    |
     some u=>
     rcases hO b with z |⟨ob,xs,z⟩
     .rw[q] at z;cases z
     .have z2:=un.frzs b ob _ z;obtain⟨e1,_⟩:=hok b _ z;obtain⟨e2,_⟩:=hok' b _ z2;rw[e] at e1;cases e1;exact e2
 cases hk:K.lookup a with
 |some o=>have e:=KX a o hk;rw[ha] at e;cases e;refine core (λ_=>none) (λ_=>.inl rfl) (.inr ⟨_,vs.toArray,_,hk,rfl,rfl,rfl,by rw[t_,lenV];exact hl,by simpa using rv⟩) (λb u z=>by have z':(none:Option HO)=some u:=z;cases z') (λb z=>absurd rfl z) λz=>absurd rfl z
 |
  none=>
  refine core (λb=>if b=a then some (.frz { cls:=.type "list",data:=.seq vs.toArray } (.lst (ns.map V.int))) else none) (λb=>?_) (.inl (.inr ⟨{ cls:=.type "list",data:=.seq vs.toArray },if_pos rfl⟩)) (λb u z=>?_) (λb z=>?_) λ_=>hk
  .by_cases hb:b=a
   .exact .inr ⟨_,_,if_pos hb⟩
   .exact .inl (if_neg hb)
  .by_cases hb:b=a
   .have z':=(if_pos hb).symm.trans z;cases z';subst hb;exact⟨ha,by rw[k_];exact hl,vs,_,rv,ha⟩
   .have z':=(if_neg hb).symm.trans z;cases z'
  .by_cases hb:b=a
   .exact hb
   .exact absurd (if_neg hb) z
abbrev KOf{K:W.Frag}{h:Heap}(_:K.In h):W.Frag:=K
def O7{l:W.OpenLaw}{n k:Nat}{q:Program}{loose:List Str}{XP:(Str->Option Value)->Heap->Prop}{YP:World->Heap->Prop}{d:DefRec}{K:Params->W.Frag}{CX:World->CXT}{sp:World->Sp}{x:Str}
 (hn:l.most=some n) (hn2:n<=sizeLine) (hdf:d.params.defaults=[]) (hr:Room k callerA)
 (hY:∀(w:World) (h:Heap),YP w h->(K w.params).In h)
 (F:∀(w:World) (mg:Sa) (fa:Addr) (h:Heap),(K w.params).In h->h.Ns mainGlobals mg->mg d.name=some (.ref fa)->
  ∃
   fd:FuncData,(∀(s:Shared) (u:Value),BindsTo s fd ⟨[u],[]⟩ [(x,u)])/\
   ∀base:Heap,(K w.params).In base->base.Ns mainGlobals mg->FnOk l.prog w (K w.params) mg base (CX w) k fa fd [x] (sp w))
 (hsp:∀(w:World) (H:Hp) (a:Addr) (ns:List Int),ns.length<=n->Dw H->SqL (K w.params) H a (ns.map V.int)->sp w [.ref a] H (λv _=>v=.bl true) λ_ _ _=>False)
 (hCX:∀(w:World) (H:Hp) (s:Shared) (e:Value) (s':Shared),CX w [] H s (λ_ _ _=>False) e s'->False):
 W.WalkO q loose XP YP l.row.toRowW d [] (λf vs=>PySem.call f vs):=by
 refine Att.attach_call hn hdf λw s₀ s₁ mg mb fa o pm cd doc a vs ns G Y ho hd i_ hmg hobj hints be hg=>?_;have KX:=hY w _ Y;obtain⟨fd,hb,hF⟩:=F w mg fa _ KX G.T.g hmg;exact AY KX G.T.g G.T.b G.T.builtins G.T.nolimit hg hobj hints (F_ be hn2) hr hF hb (λH hO hS=>hsp w H a ns be hO hS) λH e s'=>hCX w H s₁ e s'
noncomputable def bO(s:Stmt):Arguments:=match s with
 |.FunctionDef _ a _ _ _ _ _ _ _ _=>a
 |_=>{ posonlyargs:=[],args:=[],vararg:=none,kwonlyargs:=[],kw_defaults:=[],kwarg:=none,defaults:=[] }
noncomputable def aQ(s:Stmt):List Stmt:=match s with
 |.FunctionDef _ _ b _ _ _ _ _ _ _=>b
 |_=>[]
noncomputable def ak(s:Stmt):Scope:=match s with
 |.FunctionDef _ _ _ _ _ _ sc _ _ _=>sc
 |_=>{ kind:=.function,names:=[],isGenerator:=false,isCoroutine:=false }
abbrev E0:XK:=λ_ _ _=>False
structure Fun(K:W.Frag)(x qual:Str)(st:Stmt)(f:Addr)(fd:FuncData):Prop where
 ex:∃(oc:Value) (od:Option Addr) (kV doc pm:Value) (an:Option Addr) (cdv ct:Value) (osl:Array (Option Value)),
  fd=W.fnOf x qual (bO st) (aQ st) (ak st) .none kV doc pm an cdv ct/\K.lookup f=some ⟨oc,od,.func fd,osl⟩/\W.codeIn K cdv qual=true
 kp:W.keepIn K (.ref f)=true
section
variable{P:Program}{w:World}{K:W.Frag}{mg:Sa}{base:Heap}
def Fun.binds{x qual:Str}{st:Stmt}{f:Addr}{fd:FuncData}{ps:List Str}(F:Fun K x qual st f fd)
 (h:∀(kV doc pm:Value) (an:Option Addr) (cdv ct:Value) (us:List Value),us.length=ps.length->bindArgs (W.fnOf x qual (bO st) (aQ st) (ak st) .none kV doc pm an cdv ct) ⟨us,[]⟩=pure (ps.zip us)):Binds K fd ps []:=by
 obtain⟨oc,od,kV,doc,pm,an,cdv,ct,osl,rfl,lk,i_⟩:=F.ex;exact .all (h kV doc pm an cdv ct)
def LN{x qual:Str}{st:Stmt}{f:Addr}{oc:Value}{od an:Option Addr}{osl:Array (Option Value)}{kV doc pm cdv ct:Value}(l:K.lookup f=some ⟨oc,od,.func (W.fnOf x qual (bO st) (aQ st) (ak st) .none kV doc pm an cdv ct),osl⟩)
 (c:W.codeIn K cdv qual=true) (k:W.keepIn K (.ref f)=true):Fun K x qual st f (W.fnOf x qual (bO st) (aQ st) (ak st) .none kV doc pm an cdv ct):=⟨⟨oc,od,kV,doc,pm,an,cdv,ct,osl,rfl,l,c⟩,k⟩
end
def Ek(hr:Room k A):A.units+1<cLine:=P5 (Nat.add_le_add_left (by decide:1<=64) _) hr.units
section
variable{X:Cx}
end
section
variable{X:Cx}{pins:Sb}{σ:St}{H:Hp}{s:Shared}
def Inv.track{a:Addr}{o:HO}(I:Inv X pins σ H s)(hn:H a=none)(h0:X.s₀.heap.get? a=none)(hL:a≠X.env.locals)(hc:∀x c,X.env.cells.lookup x=some c->c≠a)
 (hp:∀p∈X.pn++pins,p.1≠a) (new:ObjOk X.prog X.w (upd H a o) s.heap a o):Inv X pins σ (upd H a o) s:=by
 have ne:∀b u,H b=some u->b≠a:=λb u e z=>by rw[z,hn] at e;cases e
 have ne0:∀b u,X.s₀.heap.get? b=some u->b≠a:=λb u e z=>by rw[z,h0] at e;cases e
 refine⟨I.ok,I.os,I.bare,⟨I.base.keep,I.base.slot,λb u e n hx=>?_,I.base.there,λb xs e=>?_,λb u xs e=>?_,λb ps e=>?_⟩,I.loc,I.cell,?_,λx c e=>?_,λp hp'=>?_,λb u e=>?_,I.len⟩
 .rw[ay (ne0 b u e)];exact I.base.free b u e n hx
 .have q:=I.base.tups b xs e;rw[ay (ne _ _ q)];exact q
 .have q:=I.base.frzs b u xs e;rw[ay (ne _ _ q)];exact q
 .obtain⟨m,q⟩:=I.base.tbls b ps e;exact⟨m,by rw[ay (ne _ _ q)];exact q⟩
 .rw[ay (Ne.symm hL)];exact I.free
 .rw[ay (hc x c e)];exact I.freeC x c e
 .obtain⟨e,n,r⟩:=I.pin p hp';exact⟨e,by rw[ay (hp p hp')];exact n,r⟩
 .by_cases hb:b=a
  .subst hb;rw[aM] at e;cases e;exact new
  .rw[ay hb] at e;exact (I.hok b u e).stay (λc v _ q=>q) (λc q=>by rw[ay (ne _ _ q)];exact q) λc xs q=>by rw[ay (ne _ _ q)];exact q
end
theorem i6{env:Env}:∀{names:List (Str×NameKind)} (cs:List (Str×Addr)),(∀x∈names,x.2=.free->∃c,env.cells.lookup x.1=some c)->(∀x c,cs.lookup x=some c->env.cells.lookup x=some c)->
 ∃
  cl,(forIn names cs λ(x:Str×NameKind) (r:List (Str×Addr))=>if (x.2==NameKind.free)=true then do let a <- cellOf env x.1;pure (ForInStep.yield ((x.1,a)::r)) else pure (ForInStep.yield r):Sem (List (Str×Addr)))=pure cl/\
  (∀x c,cl.lookup x=some c->env.cells.lookup x=some c)/\(∀x c,cs.lookup x=some c->∃c',cl.lookup x=some c')/\∀x∈names,x.2=.free->∃c,cl.lookup x.1=some c
 | [],cs,_,h=>⟨cs,by simp,h,λx c e=>⟨c,e⟩,λ_ hx=>nomatch hx⟩
 |
  (n,k)::r,cs,hf,h=>by
  rw[List.forIn_cons];by_cases hk:k=.free
  .subst hk;obtain⟨c,hc⟩:=hf (n,.free) n_ rfl;have jp:cellOf env n=pure c:=by unfold cellOf;rw[hc]
   have h':∀x d,((n,c)::cs).lookup x=some d->env.cells.lookup x=some d:=λx d e=>by
    rw[Qe] at e;cases q:x==n with
    |true=>rw[q] at e;cases e;rw[Pa.mp q];exact hc
    |false=>rw[q] at e;exact h x d e
   obtain⟨cl,e1,e2,e3,e4⟩:=i6 (env:=env) (names:=r) ((n,c)::cs) (λx hx=>hf x (m_ _ hx)) h';have top:∃c',cl.lookup n=some c':=e3 n c (by rw[Qe];simp);refine⟨cl,?_,e2,λx d e=>?_,λx hx hfr=>?_⟩
   .simp only[QO,Qu,jp];exact e1
   .by_cases q:x=n
    .rw[q];exact top
    .exact e3 x d (by rw[Qe,(D_.mpr q:(x==n)=false)];exact e)
   .rcases H_.mp hx with rfl |hx
    .exact top
    .exact e4 x hx hfr
  .have hb:(k==NameKind.free)=false:=by simpa using hk
   obtain⟨cl,e1,e2,e3,e4⟩:=i6 (env:=env) (names:=r) cs (λx hx=>hf x (m_ _ hx)) h;refine⟨cl,?_,e2,e3,λx hx hfr=>?_⟩
   .simp only[hb,Qh,Q4];exact e1
   .rcases H_.mp hx with rfl |hx
    .exact absurd hfr hk
    .exact e4 x hx hfr
def pX{env:Env}{scope:Scope}(hf:∀x∈scope.names,x.2=.free->∃c,env.cells.lookup x.1=some c):
 ∃cl,closureFor scope env=pure cl/\(∀x c,cl.lookup x=some c->env.cells.lookup x=some c)/\∀x∈scope.names,x.2=.free->∃c,cl.lookup x.1=some c:=by
 obtain⟨cl,e1,e2,_,e4⟩:=i6 (env:=env) (names:=scope.names) [] hf (λx c e=>by simp at e);refine⟨cl,?_,e2,e4⟩;unfold closureFor;simp only[e1];rfl
noncomputable def aK(X:Cx)(N:List Str)(scope:Scope)(cl:List (Str×Addr))(C:Addr)(s₂:Shared)(H:Hp)(fp:List Addr):Cx:=
 { X with N:=N,s₀:=s₂,H₀:=H,env:=compEnvC scope cl C X.env,outer:=X.stack,stack:=X.stack,ex:=fp,fn:=λ_=>false,pn:=[],xe:=λ_ _=>False }
noncomputable def fR(sub:Se)(σ:St):St:=sub.map λo=>o.bind λi=>(σ[i]?).bind id
def LcW(J:It)(sub:Se)(g:TG)(tc:TT)(te:TE)(σ:St)(H1:Hp)(Q:VK):Prop:=∃W:Nat->Nat->List V->St->Hp->Prop,(∃m,W 0 m [] (fR sub σ) H1)/\∀i m ys σ H,W i m ys σ H->
 (J.stop i H/\ys.length<=sizeLine/\∀D,H D=none->Q (.ref D) (upd H D (.lst ys)))\/
 (J.go i H/\ys.length<sizeLine/\∃Nx:List V->St->Hp->Prop,(∀ys' σ' H',Nx ys' σ' H'->∃m',m'<m/\W (i+1) m' ys' σ' H')/\
  ∀x H',J.yld i H x H'->g x σ H' λσ2 H2=>tc σ2 H2 λb H3=>if b=true then te σ2 H3 λy H4=>Nx (ys++[y]) σ2 H4 else Nx ys σ2 H3)
def jf(wi:TI)(sub:Se)(g:TG)(tc:TT)(te:TE):TE:=λσ H Q=>wi σ H λJ H1=>LcW J sub g tc te σ H1 Q
abbrev A4:TT:=λ_ H Q=>Q true H
section
variable{prog:Program}{w:World}{A:Around}{R:Result->Shared->Prop}{s:Shared}
def rL{im target a_:Expr}{ifs:List Expr}{scope:Scope}{pos:Pos}{it acc:Value}{env:Env}(I:Nat->Shared->Prop)
 (turn
  : ∀n s,I n s->wpAny (model prog w) A (pyNext it) (λr s₁=>match r with
  |none=>R (.ok .next) s₁
  |some v=>wpAny (model prog w) A (letOwnedTupleGo target it v) (λ_ s₁'=>wpAny (model prog w) A (assign target env v) (λ_ s₂=>
   wpAny (model prog w) A (forIn ifs true λc r=>if r=true then do let ok <- isTrue c env (eval c env);pure (ForInStep.yield ok) else pure (ForInStep.yield r))
    (λok s₃=>if ok=true then wpAny (model prog w) A (eval im env) (λx s₄=>wpAny (model prog w) A (call (.builtin "list.append") [acc,x]) (λ_ s₅=>∃m,m<n/\I m s₅) (λ_ _=>False) s₄) (λ_ _=>False) s₃
     else ∃m,m<n/\I m s₃) (λ_ _=>False) s₂) (λ_ _=>False) s₁') (λ_ _=>False) s₁) (λ_ _=>False) s)
 (n:Nat) (h:I n s):
 codeAny (model prog w) A (.compLoop (.ListComp im [⟨target,a_,ifs,0⟩] scope pos) 0 it acc env) R s:=by
 refine codeAny_loop rfl I (λn s hI=>?_) n h;show wpAny _ _ ((compTurn (.ListComp im [⟨target,a_,ifs,0⟩] scope pos) 0 it acc env).onRaise (λx=>do noteFrame x env;theTreesLotGoes x)) _ _ s;refine wpAny_noted ?_;rw[compTurn_list];refine Pj (E:=λ_ _=>False) ?_ (λ_ _ q=>q) λ_ _ q=>q.elim;refine j_ (Rm (j_ (Pj (turn n s hI) (λr s₁ h₁=>?_) λ_ _ h'=>h')));cases r with
 |none=>exact u_ h₁
 |
  some v=>
  refine j_ (Pj h₁ (λ_ s₁' h₁'=>?_) λ_ _ h'=>h');refine j_ (Pj h₁' (λ_ s₂ h₂=>?_) λ_ _ h'=>h');refine j_ (Pj h₂ (λok s₃ h₃=>?_) λ_ _ h'=>h');cases ok with
  |true=>simp only[Qu] at h₃ ⊢;refine j_ (j_ (Pj h₃ (λx s₄ h₄=>?_) λ_ _ h'=>h'));refine j_ (Pj h₄ (λ_ s₅ h₅=>?_) λ_ _ h'=>h');exact u_ (u_ ⟨rfl,h₅⟩)
  |
   false=>
   simp only[Qh,Q4] at h₃ ⊢;first
    |exact j_ (u_ (u_ ⟨rfl,h₃⟩))
    |exact u_ ⟨rfl,h₃⟩
end
section
variable{X:Cx}
def PTs(X:Cx)(ifs:List Expr)(t:TT):Prop:=
 ∀
  (pins:Sb) (s:Shared) (σ:St) (H:Hp) (Q:Bool->Hp->Prop),Inv X pins σ H s->t σ H Q->
  wpAny (model X.prog X.w) X.A (forIn ifs true λc r=>if r=true then do let ok <- isTrue c X.env (eval c X.env);pure (ForInStep.yield ok) else pure (ForInStep.yield r)) (TP X pins σ Q) X.xe s
def v3:PTs X [] (λ_ H Q=>Q true H):=λpins s σ H Q I h=>by rw[List.forIn_nil];exact u_ ⟨H,I,h⟩
structure LcEnd(X:Cx)(pins:Sb)(σ:St)(Q:VK)(D C:Addr)(s4:Shared):Prop where
 ns:∃m,s4.heap.Ns C m
 dc:D<C
 fr:X.env.locals<D
 cell:∀x c,X.env.cells.lookup x=some c->c<D
 pin:∀p∈X.pn++pins,p.1<D
 sz:X.s₀.heap.objs.size<=D
 inv:∃H',H' C=none/\Q (.ref D) H'/\∀h',Heap.SameBut C s4.heap h'->Inv X pins σ H' { s4 with heap:=h' }
def vh{im a_ tg:Expr}{ifs:List Expr}{scope:Scope}{pos:Pos}{wi:TI}{g:TG}{tc:TT}{te:TE}{N:List Str}{sub:Se}{use:Option (Value->Sem Unit)}{R:Sd}{pins:Sb}{s:Shared}{σ:St}{H:Hp}{Q:VK}{fpos:Pos}
 (hc:X.calm=true) (hi:PI X tg a_ wi)
 (hk:scope.kind=.function) (hnc:∀x∈scope.names,x.2 ≠ .cell) (b_:∀x∈scope.names,x.2=.local->scope.names.lookup x.1=some .local)
 (hfr:∀x∈scope.names,x.2=.free->X.env.kindOf x.1=some .cell\/X.env.kindOf x.1=some .free)
 (hsl:sub.length=N.length) (em:∀(j i:Nat) (x:Str),sub[j]?=some (some i)->N[j]?=some x->X.N[i]?=some x/\scope.names.lookup x=some .free)
 (hg:∀cl C s₂ H fp,PG (aK X N scope cl C s₂ H fp) tg g) (ht:∀cl C s₂ H fp,PTs (aK X N scope cl C s₂ H fp) ifs tc) (he:∀cl C s₂ H fp,PE (aK X N scope cl C s₂ H fp) im te)
 (hs:∀x,foldedSetIterable a_ X.env x=pure x) (I:Inv X pins σ H s) (h:jf wi sub g tc te σ H Q)
 (ii:∀D C s4,LcEnd X pins σ Q D C s4->compPost (model X.prog X.w) X.A X.xe use R (.ref D) C (.ok .next) s4):
 wpAny (model X.prog X.w) X.A (comprehension (.ListComp im [⟨tg,a_,ifs,0⟩] scope pos) scope X.env fpos (newList []) false (eval a_ X.env) use) R X.xe s:=by
 obtain⟨cl,hclos,hcl,hclf⟩:=pX (env:=X.env) (scope:=scope) λx hx hf=>I.ok.has x.1 (hfr x hx hf);refine wpAny_comprehension_free rfl hs hclos hk b_ ?_;show wpAny _ _ (eval a_ X.env) _ _ _;refine thn (hi pins s σ H _ I h) λv s1 h1=>thn h1 λitv s2 h2=>?_;obtain⟨it,fp,tn,J,H2,e,I2,T,st2,f2,W,⟨m0,w0⟩,turn⟩:=h2;subst e;refine PY (wpAny_newFunctionEnv hnc (by intro y hy;simp at hy) (λh₁ hns₁ hsb₁=>?_) hk);dsimp only at hns₁ hsb₁ ⊢;generalize hH2:s2.heap.push { cls:=.type "list",dict:=none,data:=.seq ([]:List Value).toArray }=G2 at hns₁ hsb₁ ⊢;have hC:G2.objs.size=s2.heap.objs.size+1:=by rw[<- hH2,Q5]
 have hDC:s2.heap.objs.size≠G2.objs.size:=by omega
 have below:∀b,b<s2.heap.objs.size->b≠G2.objs.size/\b≠s2.heap.objs.size:=λb hb=>⟨by omega,by omega⟩;have old:∀b o,s2.heap.get? b=some o->h₁.get? b=some o:=λb o e=>hsb₁.extBut b o (below b (v_ e)).1 (l_ _ (hH2 ▸ l_ _ e));have hD₁:h₁.get? s2.heap.objs.size=some { cls:=.type "list",dict:=none,data:=.seq ([]:List Value).toArray }:=hsb₁.extBut _ _ hDC (l_ _ (hH2 ▸ C_ _ rfl));have fresh:∀a,s2.heap.objs.size<=a->s2.heap.get? a=none:=λa ha=>Rw ha;have cellOld:∀x c,cl.lookup x=some c->c<s2.heap.objs.size:=λx c e=>by obtain⟨v,z⟩:=I2.cell x c (hcl x c e);exact z.lt
 have fpOld:∀b∈fp,b<s2.heap.objs.size:=λb hb=>by obtain⟨o,e,_⟩:=T.obj _ _ st2 b hb;exact v_ e
 let Y:Cx:=aK X N scope cl G2.objs.size s2 H2 fp
 have okY:Y.Ok
  := by
  refine⟨I2.ok.mod,?_,I2.ok.glob,I2.ok.blt,?_,λx y c e1 e2=>I2.ok.inj x y c (hcl x c e1) (hcl y c e2),λx hx=>?_,λx c hfn _=>absurd hfn x_,I2.ok.hd,I2.ok.frames,.inl rfl,
   λb hb=>⟨?_,λx c e z=>?_⟩,I2.bs,F_ I2.ok.bsz I2.sz,λb o e hb=>?_,λb hb hf=>?_,I2.stack,I2.stkFree⟩
  .show (relabel scope X.env).kind=.function;exact hk
  .show s2.heap.objs.size<=G2.objs.size;omega
  .have hx':(
    relabel scope X.env).names.lookup x=some .cell\/(relabel scope X.env).names.lookup x=some .free:=hx
   have:∃k,
    (x,k)∈scope.names/\k=.free:=by
    have gen:∀(names:List (Str×NameKind)),(∀y∈names,y.2 ≠ .cell)->∀kk,(kk=NameKind.cell\/kk=NameKind.free)->(names.map λ(n,k)=>if (k==NameKind.free&&X.env.scope.kind == .function&&X.env.kindOf n==some .cell) then (n,NameKind.cell) else (n,k)).lookup x=some kk->∃k,(x,k)∈names/\k=.free:=by
     intro names;induction names with
     |nil=>intro _ kk _ e;simp at e
     |
      cons y r ih=>
      intro hn kk hkk e;obtain⟨n,k⟩:=y;rw[s_,Qe] at e;by_cases hkf:k=.free
      .subst hkf;by_cases hxn:x=n
       .exact⟨.free,by rw[hxn];exact n_,rfl⟩
       .have hb:(x==(if (NameKind.free==NameKind.free&&X.env.scope.kind == .function&&X.env.kindOf n==some .cell)=true then (n,NameKind.cell) else (n,NameKind.free)).1)=false:=by split <;> exact D_.mpr hxn
        rw[hb] at e;obtain⟨k',m,q⟩:=ih (λz hz=>hn z (m_ _ hz)) kk hkk e;exact⟨k',m_ _ m,q⟩
      .have hb0:(k==NameKind.free&&X.env.scope.kind == .function&&X.env.kindOf n==some .cell)=false:=by
        have:(k==NameKind.free)=false:=by simpa using hkf
        rw[this];rfl
       rw[hb0] at e;simp only[Qh,Q4] at e;cases q:x==n with
       |
        true=>
        rw[q] at e;have e':k=kk:=K_ e;subst e';rcases hkk with z |z
        .exact absurd z (hn (n,k) n_)
        .exact absurd z hkf
       |false=>rw[q] at e;obtain⟨k',m,q⟩:=ih (λz hz=>hn z (m_ _ hz)) kk hkk e;exact⟨k',m_ _ m,q⟩
    rcases hx' with z |z
    .exact gen scope.names hnc _ (.inl rfl) z
    .exact gen scope.names hnc _ (.inr rfl) z
   obtain⟨k,m,q⟩:=this;exact hclf (x,k) m q
  .show b≠G2.objs.size;exact (below b (fpOld b hb)).1
  .exact (f2 b hb).2.2.2.2.1 x c (hcl x c e) z
  .rcases (f2 b hb).2.2.2.1 with z |z
   .exact I2.ok.noex b o e z
   .exact absurd (E_ (v_ e) (F_ I2.ok.bsz z)) (Py _)
  .have hf':b∈frs X.stack:=hf;rcases H_.mp (I2.stkSub b hf') with z |z
   .exact (f2 b hb).2.1 z
   .exact (f2 b hb).2.2.1 z
 have startLoc
  : ∃m,h₁.Ns G2.objs.size m/\∀(i:Nat) (x:Str) (v:V),N[i]?=some x->(fR sub σ)[i]?=some (some v)->Vis (relabel scope X.env) x->∃u,RelV v u/\Look Y.env h₁ m x u:=by
  refine⟨_,hns₁,λj x v e1 e2 e3=>?_⟩;unfold fR at e2;rw[N_] at e2;cases q:sub[j]? with
  |none=>rw[q] at e2;cases e2
  |
   some o=>
   rw[q] at e2;cases o with
   |none=>cases e2
   |
    some i=>
    obtain⟨hNi,hfree⟩:=em j i x q e1;have e2':(σ[i]?).bind id=some v:=K_ e2;have e2'':σ[i]?=some (some v):=by
     cases z:σ[i]? with
     |none=>rw[z] at e2';cases e2'
     |some y=>rw[z] at e2';rw[show y=some v from e2']
    obtain⟨m2,hn2,hl2⟩:=I2.loc;have hkx:=hfr (x,.free) (P1 hfree) rfl;obtain⟨u,r,l⟩:=hl2 i x v hNi e2'' (by rcases hkx with z |z;exact .inr (.inl z);exact .inr (.inr z));refine⟨u,r,.inr ⟨?_,?_⟩⟩
    .rcases e3
      with z |z |z
     .exfalso;have gen:∀(names:List (Str×NameKind)),names.lookup x=some .free->(names.map λ(n,k)=>if (k==NameKind.free&&X.env.scope.kind == .function&&X.env.kindOf n==some .cell) then (n,NameKind.cell) else (n,k)).lookup x=some .local->False:=by
       intro names;induction names with
       |nil=>intro e _;simp at e
       |
        cons y r ih=>
        intro e1 e2;obtain⟨n,k⟩:=y;rw[Qe] at e1;rw[s_,Qe] at e2;by_cases hxn:x=n
        .have hb1:(x==n)=true:=Pa.mpr hxn;rw[hb1] at e1;have:k=.free:=K_ e1;subst this;split at e2
         .rename_i hq;split at e2 <;> cases e2
         .rename_i hq;split at hq <;> (rw[hb1] at hq;cases hq)
        .have hb1:(x==n)=false:=D_.mpr hxn;rw[hb1] at e1;refine ih e1 ?_;split at e2
         .rename_i hq;split at hq <;> (rw[hb1] at hq;cases hq)
         .exact e2
      exact gen scope.names hfree z
     .exact .inl z
     .exact .inr z
    .obtain⟨c,hc'⟩:=hclf (x,.free) (P1 hfree) rfl;refine⟨c,hc',?_⟩;rcases l with ⟨k,_⟩ |⟨_,c2,ec2,z⟩
     .rcases hkx with z |z <;> (rw[k] at z;cases z)
     .have:=hcl x c hc'
      rw[ec2] at this;cases this;obtain⟨oc,hoc,hd⟩:=z;exact⟨oc,old _ _ hoc,hd⟩
 have pinD:∀{σ':St}{H':Hp}{s':Shared}{pl:Sb}{o:Obj},Inv Y pl σ' H' s'->s'.heap.get? s2.heap.objs.size=some o->(∀v,o.data ≠ .cell v)->H' s2.heap.objs.size=none->Inv Y [(s2.heap.objs.size,o)] σ' H' s':=λ{σ' H' s' pl o} IY e d n=>
  IY.pins_of λp hp=>by
   have e':p=(s2.heap.objs.size,o):=by simpa using hp
   subst e';refine⟨e,n,?_,?_,d⟩
   .show s2.heap.objs.size≠G2.objs.size;omega
   .intro hf;have hf':s2.heap.objs.size∈frs X.stack:=hf;obtain⟨_,o',ho',_⟩:=I2.stack.mem hf';exact absurd (v_ ho') (Py _)
 have fpY:∀{H':Hp}{pl:Sb},(∀b∈fp,H' b=none)->(∀p∈pl,p.1∉fp)->∀b∈fp,FpOk Y pl H' b:=λ{H' pl} hn hp b hb=>by
  refine⟨hn b hb,?_,?_,.inl hb,λx c e=>?_,λp hp'=>?_⟩
  .exact (okY.exf b hb).1
  .exact okY.exfs b hb
  .exact (okY.exf b hb).2 x c e
  .intro z;have hp'':p∈pl:=by simpa [Y,aK] using hp'
   exact hp p hp'' (by rw[z];exact hb)
 have hDfp:s2.heap.objs.size∉fp:=λz=>Py _ (fpOld _ z);have loop
  : ∀s₃:Shared,s₃={ s2 with heap:=h₁,toks:=s2.toks+([]:List (Str×Value)).length }->
  codeAny (model X.prog X.w) X.A (.compLoop (.ListComp im [⟨tg,a_,ifs,0⟩] scope pos) 0 (.ref it) (.ref s2.heap.objs.size) (compEnvC scope cl G2.objs.size X.env))
   (compPost (model X.prog X.w) X.A X.xe use R (.ref s2.heap.objs.size) G2.objs.size) s₃:=by
  rintro s₃ rfl;have IY0:Inv Y [(s2.heap.objs.size,{ cls:=.type "list",dict:=none,data:=.seq ([]:List Value).toArray })] (fR sub σ) H2 { s2 with heap:=h₁,toks:=s2.toks+([]:List (Str×Value)).length }:=by
   have J0:Inv Y [] (fR sub σ) H2 { s2 with heap:=h₁,toks:=s2.toks+([]:List (Str×Value)).length }:=by
    refine⟨okY,rfl,I2.bare,Un.kept old,startLoc,λx c e=>?_,I2.hok.fresh (by show s2.heap.objs.size<=G2.objs.size;omega),λx c e=>I2.freeC x c (hcl x c e),λp hp=>absurd (show p∈([]:Sb) from hp) (by simp),I2.hok.kept old,?_⟩
    .obtain⟨v,oc,hoc,hd⟩:=I2.cell x c (hcl x c e);exact⟨v,oc,old _ _ hoc,hd⟩
    .show (fR sub σ).length=N.length;unfold fR;rw[k_];exact hsl
   exact pinD J0 hD₁ (λv z=>by cases z) I2.fresh
  refine rL (λn s'=>∃(i:Nat) (ys:List V) (its:List Value) (k:Nat) (σ':St) (H':Hp),Inv Y [(s2.heap.objs.size,{ cls:=.type "list",dict:=none,data:=.seq its.toArray k })] σ' H' s'/\Vals ys its/\tn i s'.heap/\(∀b∈fp,H' b=none)/\W i n ys σ' H') ?_ m0
   ⟨0,[],[],0,fR sub σ,H2,IY0,.nil,T.keep _ _ _ st2 (λb hb o e=>old b o e),λb hb=>(f2 b hb).1,w0⟩
  rintro n s3 ⟨i,ys,its,k,σ3,H3,I3,rv,st3,fr3,w3⟩;have npl:∀(o:Obj),∀p∈[(s2.heap.objs.size,o)],p.1∉fp:=λo p hp=>by
   have e':p=(s2.heap.objs.size,o):=by simpa using hp
   subst e';exact hDfp
  rcases turn i n ys σ3 H3 w3 with ⟨stop,hz,qn⟩ |⟨go,hz,Nx,hNx,step⟩
  .refine Pj (T.done Y rfl rfl rfl hc i _ s3 σ3 H3 (λ_ _=>False) I3 (fpY fr3 (npl _)) st3 stop) (λr s4 ⟨hr,I4⟩=>?_) λ_ _ z=>z;subst hr;obtain⟨m4,hn4,_⟩:=I4.loc;have hCfree:H3 G2.objs.size=none:=I4.free;have hD4:=I4.pin (s2.heap.objs.size,{ cls:=.type "list",dict:=none,data:=.seq its.toArray k }) (Pb _ n_);have un4:Un (frs X.stack) fp H2 H3 s2.heap s4.heap:=I4.base;have ne2:∀b o,s2.heap.get? b=some o->b≠G2.objs.size:=λb o e=>(below b (v_ e)).1;have hDfree:H3 s2.heap.objs.size=none:=hD4.2.1;have sz0:X.s₀.heap.objs.size<=s2.heap.objs.size:=I2.sz;refine ii s2.heap.objs.size G2.objs.size s4 ⟨⟨m4,hn4⟩,by rw[hC];exact Nat.lt_succ_self _,I2.lt,λx c e=>?_,λp hp=>v_ (I2.pin p hp).1,sz0,upd H3 s2.heap.objs.size (.lst ys),by rw[ay (Ne.symm hDC)];exact hCfree,qn _ hDfree,λh' hs'=>?_⟩
   .obtain⟨v,q⟩:=I2.cell x c e;exact q.lt
   have up:∀b o,b≠G2.objs.size->s4.heap.get? b=some o->h'.get? b=some o:=λb o hb e=>hs'.extBut b o hb e;have un5:Un (frs X.stack) fp H2 H3 s2.heap h':=by
    refine⟨λb o e n hb hx=>up b o (ne2 b o e) (un4.keep b o e n hb hx),λb o e n hb hx=>?_,un4.free,λb o e hx=>?_,un4.tups,un4.frzs,un4.tbls⟩
    .obtain⟨sl,q⟩:=un4.slot b o e n hb hx;exact⟨sl,up b _ (ne2 b o e) q⟩
    .obtain⟨o',q⟩:=un4.there b o e hx;exact⟨o',up b _ (ne2 b o e) q⟩
   have hok5:HOk X.prog X.w H3 h':=λb u e=>(I4.hok b u e).stay (λc v hcc q=>up c v (λz=>by
    rcases hcc with zz |zz
    .rw[zz] at z;rw[z,hCfree] at e;cases e
    .rw[z,hCfree] at zz;cases zz) q) (λ_ q=>q) λ_ _ q=>q
   have I5:Inv X pins σ H3 { s4 with heap:=h' }:=I2.call' (s':={ s4 with heap:=h' }) (ch:=fp) I4.os un5 hok5 I4.bare λb hb=>by obtain⟨_,g1,_,g3,g4,g5⟩:=f2 b hb;exact⟨g3,g1,g4,g5⟩
   refine I5.track (o:=.lst ys) hDfree (Rw sz0) (QK I2.lt) (λx c e z=>?_) (λp hp z=>?_) ?_
   .obtain⟨v,q⟩:=I2.cell x c e;exact absurd q.lt (by rw[z];exact Py _)
   .exact absurd (v_ (I2.pin p hp).1) (by rw[z];exact Py _)
   .exact⟨hz,its,k,rv,up _ _ hDC hD4.1⟩
  .refine Pj (T.item Y rfl rfl rfl hc i _ s3 σ3 H3 (λ_ _=>False) I3 (fpY fr3 (npl _)) st3 go) (λr s4 ⟨u,hr,h4⟩=>?_) λ_ _ z=>z;subst hr;refine Pj h4 (λ_ s5 ⟨x,H5,I5,r5,y5,st5,fr5⟩=>?_) λ_ _ z=>z;have I5':=I5.pinned (fpY fr5 (npl _)) (T.obj _ _ st5);refine Pj (hg cl G2.objs.size s2 H2 fp _ s5 σ3 H5 x u _ I5' r5 (step x H5 y5)) (λ_ s6 ⟨σ6,H6,I6,q6⟩=>?_) λ_ _ z=>z;refine Pj (ht cl G2.objs.size s2 H2 fp _ s6 σ6 H6 _ I6 q6) (λok s7 ⟨H7,I7,q7⟩=>?_) λ_ _ z=>z;have back:∀{σ':St}{H':Hp}{s':Shared},Inv Y ([(s2.heap.objs.size,{ cls:=.type "list",dict:=none,data:=.seq its.toArray k })]++ka fp s5.heap) σ' H' s'->tn (i+1) s'.heap/\∀b∈fp,H' b=none:=λ{σ' H' s'} IB=>by refine⟨T.keep _ _ _ st5 λb hb o e=>(IB.pin (b,o) (Pb _ (Pb _ (gm hb e)))).1,λb hb=>?_⟩;obtain⟨o,e,d⟩:=T.obj _ _ st5 b hb;exact (IB.pin (b,o) (Pb _ (Pb _ (gm hb e)))).2.1
   cases ok with
   |false=>rw[if_neg x_] at q7;obtain⟨m',hm,w7⟩:=hNx _ _ _ q7;rw[if_neg x_];obtain⟨t7,f7⟩:=back I7;exact⟨m',hm,i+1,ys,its,k,σ6,H7,I7.unpinned,rv,t7,f7,w7⟩
   |
    true=>
    rw[if_pos rfl] at q7;rw[if_pos rfl];refine Pj (he cl G2.objs.size s2 H2 fp _ s7 σ6 H7 _ I7 q7) (λy s8 ⟨yv,H8,I8,r8,q8⟩=>?_) λ_ _ z=>z;obtain⟨m',hm,w8⟩:=hNx _ _ _ q8;obtain⟨t8,f8⟩:=back I8;have I9:=I8.unpinned;have hD9:=I9.pin (s2.heap.objs.size,{ cls:=.type "list",dict:=none,data:=.seq its.toArray k }) (Pb _ n_);have e9:s8.heap.get? s2.heap.objs.size=some { cls:=.type "list",dict:=none,data:=.seq its.toArray k }:=hD9.1;have be:=rv.length;refine call_meets F.slot_list_append ⟨_,e9,rfl⟩ F.entry_list_append (F.args_list_append_2 _ _) (PySem.list_append _ its.toArray k y (by rw[t_];omega)) ⟨e9,?_⟩;have q9:=PySem.IsL.update e9 (λxs=>xs.push y);have ea:its.toArray.push y=(its++[y]).toArray:=by simp
    rw[ea] at q9;have k9:∀b o,b≠s2.heap.objs.size->s8.heap.get? b=some o->(s8.heap.update s2.heap.objs.size (Obj.mapSeq λxs=>xs.push y)).get? b=some o:=λb o hb e=>(Ra _ _ (Ne.symm hb)).trans e;have I10:Inv Y [] σ6 H8 { s8 with heap:=s8.heap.update s2.heap.objs.size (Obj.mapSeq λxs=>xs.push y) }:=
     (I9.pins_of (pins':=[]) (λp hp=>nomatch hp)).turned (t':=s8.toks) k9 hD9.2.1 hD9.2.2.1 (.inr (o_ _)) (λx c e z=>absurd (cellOld x c e) (by rw[z];exact Py _))
      (λp hp=>absurd (show p∈([]:Sb) from hp) (by simp))
    refine⟨m',hm,i+1,ys++[yv],its++[y],_,σ6,H8,pinD I10 q9 (λv z=>by cases z) hD9.2.1,rv.append (.cons r8 .nil),?_,f8,w8⟩;exact T.keep _ _ _ t8 λb hb o e=>k9 b o (λz=>hDfp (by rw[<- z];exact hb)) e
 exact codeAny_compStart_list (loop _ rfl) (T.self _ 0 _ _ _ (T.keep _ _ _ st2 λb hb o e=>old b o e) (loop _ rfl))
def Jt{im a_ tg:Expr}{ifs:List Expr}{scope:Scope}{pos:Pos}{wi:TI}{g:TG}{tc:TT}{te:TE}{N:List Str}{sub:Se}
 (hc:X.calm=true) (hi:PI X tg a_ wi)
 (hk:scope.kind=.function) (hnc:∀x∈scope.names,x.2 ≠ .cell) (b_:∀x∈scope.names,x.2=.local->scope.names.lookup x.1=some .local)
 (hfr:∀x∈scope.names,x.2=.free->X.env.kindOf x.1=some .cell\/X.env.kindOf x.1=some .free)
 (hsl:sub.length=N.length) (em:∀(j i:Nat) (x:Str),sub[j]?=some (some i)->N[j]?=some x->X.N[i]?=some x/\scope.names.lookup x=some .free)
 (hg:∀cl C s₂ H fp,PG (aK X N scope cl C s₂ H fp) tg g) (ht:∀cl C s₂ H fp,PTs (aK X N scope cl C s₂ H fp) ifs tc) (he:∀cl C s₂ H fp,PE (aK X N scope cl C s₂ H fp) im te)
 (hs:∀x,foldedSetIterable a_ X.env x=pure x):
 PE X (.ListComp im [⟨tg,a_,ifs,0⟩] scope pos) (jf wi sub g tc te):=by
 intro pins s σ H Q I h;rw[eval_ListComp];refine vh hc hi hk hnc b_ hfr hsl em hg ht he hs I h λD C s4 e=>?_;obtain⟨m,hm⟩:=e.ns;obtain⟨H',_,q,i⟩:=e.inv;exact⟨m,hm,λh' hs'=>⟨.ref D,H',i h' hs',rfl,q⟩⟩
noncomputable def fP(M:List Str)(names:List (Str×NameKind))(sub:Se)(N:List Str):Bool:=(sub.zip N).all λp=>match p.1 with
 |none=>true
 |some i=>M[i]?==some p.2&&names.lookup p.2==some .free
def rP{M:List Str}{names:List (Str×NameKind)}{sub:Se}{N:List Str}(h:fP M names sub N=true)(j i:Nat)(x:Str)(h1:sub[j]?=some (some i))(h2:N[j]?=some x):
 M[i]?=some x/\names.lookup x=some .free:=by
 unfold fP at h;rw[O9] at h;have hm:(some i,x)∈sub.zip N:=by refine P8 (i:=j) ?_;rw[List.getElem?_zip_eq_some];exact⟨h1,h2⟩
 have q:=h _ hm;simp only[r_,Pa] at q;exact q
noncomputable def iB(kn names:List (Str×NameKind)):Bool:=names.all λx=>x.2 != .free || kn.lookup x.1==some .cell || kn.lookup x.1==some .free
def wj{kn names:List (Str×NameKind)}(h:iB kn names=true):∀x∈names,x.2=.free->kn.lookup x.1=some .cell\/kn.lookup x.1=some .free:=λx hx hf=>by unfold iB at h;rw[O9] at h;have q:=h x hx;rw[hf] at q;simpa using q
def OD{im a_ tg:Expr}{scope:Scope}{pos:Pos}{wi:TI}{g:TG}{te:TE}(M:List Str)(kn:List (Str×NameKind))(N:List Str)(sub:Se)
 (hc:X.calm=true) (hi:PI X tg a_ wi)
 (hg:∀cl C s₂ H fp,PG (aK X N scope cl C s₂ H fp) tg g) (he:∀cl C s₂ H fp,PE (aK X N scope cl C s₂ H fp) im te)
 (hM:X.N=M) (hkn:X.env.scope.names=kn) (em:fP M scope.names sub N=true)
 (hk:scope.kind=.function) (hnc:∀x∈scope.names,x.2 ≠ .cell) (b_:∀x∈scope.names,x.2=.local->scope.names.lookup x.1=some .local)
 (hfr:iB kn scope.names=true)
 (hsl:sub.length=N.length) (hs:∀x,foldedSetIterable a_ X.env x=pure x):
 PE X (.ListComp im [⟨tg,a_,[],0⟩] scope pos) (jf wi sub g A4 te):=
 Jt hc hi hk hnc b_ (by subst hkn;exact wj hfr) hsl (by subst hM;exact rP em) hg (λcl C s₂ H fp=>v3) he hs
end
end L2
namespace L2
open PySem PySem.Spec PyProof.Rows PySem.W PySem.Builtin PySem.Builtin.ObjectAttr PySem.Builtin.Getset_descriptor
structure XCls(K:W.Frag)(C:Addr):Prop where
 cls:(clsIn K C).isSome=true
 ga:findIn K (.ref C) "__getattribute__"=some (some (.builtin "BaseException.__getattribute__"))
 gt:findIn K (.ref C) "__getattr__"=some none
 at_:findIn K (.ref C) "__class__"=some (some (.builtin "object.__class__"))
 gs:specialIn K (.builtin "object.__class__") "__get__"=some (some (.builtin "getset_descriptor.__get__"))
 tk:takesIn K (.builtin "object.__class__")=some true
 mo:mroIn K C (.type "object")=some true
 mb:mroIn K C (.type "BaseException")=some true
section
variable{prog:Program}{w:World}{A:Around}{E:Sd}{K:W.Frag}{x C:Addr}{o:Obj}
def js(hx:h.get? x=some o)(hc:o.cls=.ref C):Looks M h (typeOf (.ref x)) (.ref C):=hc ▸ (Looks.ld hx).andThen .now
def BO(X:K.In h)(T:XCls K C):Looks M h (find (.ref x) (.ref C) "__class__") (.bind (.builtin "getset_descriptor.__get__") (.builtin "object.__class__")):=by have L1:=looks_findIn (M:=M) X T.at_;have L2:Looks M h (getOf (some (.builtin "object.__class__"))) (some (.builtin "getset_descriptor.__get__")):=looks_specialIn X T.gs;have L3:=looks_takesIn (M:=M) X T.tk;refine L1.andThen (L2.andThen ?_);exact (show Looks M h (dataDescriptor? (some (.builtin "object.__class__")) (some (.builtin "getset_descriptor.__get__"))) (some (.builtin "getset_descriptor.__get__",.builtin "object.__class__")) from L3.andThen .now).andThen (Looks.tag .now)
def pV(X:K.In s.heap)(hx:s.heap.get? x=some o)(hc:o.cls=.ref C)(T:XCls K C)
 (h:R (.ok (.ret (.ref C))) s):codeAny (model prog w) A (.call (.builtin "getset_descriptor.__get__") ⟨[.builtin "object.__class__",.ref x,tp],[]⟩) R s:=by
 obtain⟨hh,g,dr,t,os⟩:=s;have L0:=js (M:=model prog w) hx hc;have L1:=looks_mroIn (M:=model prog w) X T.mo;refine codeAny_call_builtin KF.slot_gs.plain KF.entry_gs (KF.slot_gs.check _ _ _ _ _ _ _ _ KF.type_class (KF.args_gs _ _ _) ?_);unfold Builtin.«getset_descriptor.__get__» descrGet;rw[dga_obj];refine j_ (u_ ?_);unfold descrGetter descrCheckInstance descrNameAndClass isInstance;simp only[KF.owner_class];repeat lk
 refine⟨Code.quiet_builtin _ (by decide),codeAny_builtin KF.entry_class ?_⟩;unfold Builtin.«object.__class__» shownTypeOf;repeat lk
 exact h
def zB(X:K.In s.heap)(hx:s.heap.get? x=some o)(hc:o.cls=.ref C)(T:XCls K C)(hq:Q () s):
 wpAny M A (checkBuiltinCall "BaseException.__getattribute__" ⟨[.ref x,nameV],[]⟩) Q E s:=by
 obtain⟨h,g,dr,t,os⟩:=s;have hk:builtinKind "BaseException.__getattribute__"=some .slot:=by decide
 have hsplit:splitId "BaseException.__getattribute__"=some ("BaseException", "__getattribute__"):=by decide
 have ha:=PySem.F.args_bexc_ga (.ref x) nameV;have L0:=js (M:=M) hx hc;have LM:=looks_mroIn (M:=M) X T.mb;have LI:Looks M h (isInstance (.ref x) (.type "BaseException")) true:=L0.andThen LM;simp only[checkBuiltinCall,hk,hsplit];refine j_ ?_;refine LI.at ?_;repeat (first |wp_step)
 all_goals exact hq
def JT(X:K.In s.heap)(hx:s.heap.get? x=some o)(hc:o.cls=.ref C)(T:XCls K C)(h:Q (some (.ref C)) { s with toks:=s.toks+1 }):
 wpAny (model prog w) A (getAttr? (.ref x) "__class__") Q E s:=by
 obtain⟨hh,g,d,t,os⟩:=s;have L0:=js (M:=model prog w) hx hc;have L1:=looks_findIn (M:=model prog w) X T.ga;have L2:=looks_findIn (M:=model prog w) X T.gt;have LF:=BO (M:=model prog w) (x:=x) X T;have f3:=PySem.F.excAttr_ValueError.ga.bind (.ref x);have hx2:(Value.builtin "BaseException.__getattribute__" == Value.builtin "object.__getattribute__")=false:=by decide
 unfold getAttr? getAttrBy? getAttrBy;refine j_ (wpAny_mkText (j_ (Rj (PU (j_ (L0.at (j_ (L1.at ?_))))))));dsimp only;rw[if_neg (by rw[hx2];simp)];unfold getAttrByItsOwn hookBefore;rw[if_pos (show onTheHeap (Value.ref C)=true from rfl)];refine j_ (L2.at ?_);unfold callGetattribute;refine j_ (Rj (PU ?_));rw[if_neg (by simp)];unfold boundAndCalled;refine j_ (wpAny_of_eq f3 ?_);refine wpAny_call (codeAny_call_builtin PySem.F.excAttr_ValueError.ga.plain PySem.F.entry_bexc_ga (zB X hx hc T ?_));unfold Builtin.«object.__getattribute__»;repeat (first |(refine j_ (L0.at ?_)) |(refine j_ (LF.at ?_)) |wp_step)
 refine pV (s:=⟨hh,g,d,t+1,os⟩) X hx hc T ?_;repeat (first |exact h |wp_step)
def DF(x:Addr)(C:Addr)(h:Heap):Prop:=∃o vs,h.get? x=some o/\o.cls=.ref C/\o.data=.fields vs
def Ck(T:XCls K C):KitX K (.ref x) (.ref C) (DF x C) where
 ty:=λM h _ ⟨o,_,hx,hc,_⟩=>js hx hc
 it:=λM h X _=>by
  obtain⟨cd,i_⟩:=PM.mp T.cls;unfold clsIn at i_;split at i_
  .rename_i c' d' cd' sl' ho;intro A' Q' E' s' k q;unfold isType loadHead;exact j_ (wpAny_loadPart (k _ _ (X _ _ ho)) (u_ q))
  .cases i_
 ne:=λh tp dd its n sl X htp=>by
  obtain⟨cd,i_⟩:=PM.mp T.cls;refine Bool.eq_false_iff.mpr λq=>?_;have e:C=tp:=Value.ref.inj (Pa.mp q);subst e;unfold clsIn at i_;split at i_
  .rename_i c' d' cd' sl' ho;have z:=(X _ _ ho).symm.trans htp;cases z
  .cases i_
 ca:=λX ⟨o,_,hx,hc,_⟩ k=>JT X hx hc T k
end
inductive TyX(K:W.Frag)(H:Hp):V->Value->Prop where
 |of {x:V}{t:Value} (h:TyOf K H x t):TyX K H x t
 |exc {a C:Addr} (e:H a=some (.ext (DF a C))) (T:XCls K C):TyX K H (.ref a) (.ref C)
 |sqT {a:Addr}{xs:List V} (h:SqT K H a xs):TyX K H (.ref a) (.type "tuple")
 |sqL {a:Addr}{xs:List V} (h:SqL K H a xs):TyX K H (.ref a) (.type "list")
section
variable{X:Cx}{pins:Sb}{σ:St}{H:Hp}{s:Shared}{A:Around}{E:Sd}{Q:Sd}{c:Value}{b:Bool}
def wa(I:Inv X pins σ H s)(rx:RelV x u)(ty:TyX X.K H x t):∃Hh:Heap->Prop,KitX X.K u t Hh/\Hh s.heap/\u ≠ .builtin "__main__.__loader__#opaque":=by
 cases ty with
 |exc ea T=>cases (show u=Value.ref _ from rx);exact⟨_,Ck T,(I.hok _ _ ea).1,λz=>nomatch z⟩
 |sqT h=>cases (show u=Value.ref _ from rx);obtain⟨its,rv,⟨o,e,c,_⟩,_⟩:=I.tuple h;exact⟨_,kitx_tuple,⟨o,e,c⟩,λz=>nomatch z⟩
 |sqL h=>cases (show u=Value.ref _ from rx);obtain⟨its,rv,⟨o,n,e,c,_⟩,_⟩:=I.list h;exact⟨_,kitx_list,⟨o,e,c⟩,λz=>nomatch z⟩
 |
  of ty=>
  cases ty with
  |non=>cases (show u=Value.none from rx);exact⟨_,kitx_none,True.intro,λz=>nomatch z⟩
  |bl y=>cases (show u=Value.bool y from rx);exact⟨_,kitx_bool,True.intro,λz=>nomatch z⟩
  |int i=>obtain⟨t,q⟩:=(show ∃t,u=Value.int i t from rx);cases q;exact⟨_,kitx_int,True.intro,λz=>nomatch z⟩
  |str y=>obtain⟨t,q⟩:=(show ∃t,u=Value.str y t from rx);cases q;exact⟨_,kitx_str,True.intro,λz=>nomatch z⟩
  |flt y=>obtain⟨t,q⟩:=(show ∃t,u=Value.float y t from rx);cases q;exact⟨_,kitx_float,True.intro,λz=>nomatch z⟩
  |@lst a xs ea=>cases (show u=Value.ref a from rx);obtain⟨_,_,n,_,h1⟩:=(show ObjOk X.prog X.w H s.heap a (.lst xs) from I.hok a _ ea);exact⟨_,kitx_list,⟨_,h1,rfl⟩,λz=>nomatch z⟩
  |@frz a ob xs ea=>cases (show u=Value.ref a from rx);obtain⟨_,_,_,n,_,h1⟩:=(show ObjOk X.prog X.w H s.heap a (.frz ob (.lst xs)) from I.hok a _ ea);exact⟨_,kitx_list,⟨_,h1,rfl⟩,λz=>nomatch z⟩
  |@tup a xs ea=>cases (show u=Value.ref a from rx);obtain⟨_,_,_,p⟩:=(show ObjOk X.prog X.w H s.heap a (.tup xs) from I.hok a _ ea);obtain⟨o,h1,h2,_⟩:=p;exact⟨_,kitx_tuple,⟨o,h1,h2⟩,λz=>nomatch z⟩
  |@dK a kvs ea=>cases (show u=Value.ref a from rx);obtain⟨_,_,vs,_,p⟩:=(show ObjOk X.prog X.w H s.heap a (.dK kvs) from I.hok a _ ea);obtain⟨o,es,ep,h1,h2,_⟩:=p;exact⟨_,kitx_dict,⟨o,h1,h2.1⟩,λz=>nomatch z⟩
  |@dT a kvs ea=>cases (show u=Value.ref a from rx);obtain⟨_,_,xs,_,o,es,ep,h1,h2,_⟩:=(show ObjOk X.prog X.w H s.heap a (.dT kvs) from I.hok a _ ea);exact⟨_,kitx_dict,⟨o,h1,h2.1⟩,λz=>nomatch z⟩
  |@ins a C dx fs ea cl ha hn htk hm=>cases (show u=Value.ref a from rx);obtain⟨mA,O,_⟩:=FQ I.hok ea;obtain⟨od,J,_⟩:=O.look;exact⟨_,kitx_own (cl.get _) cl.hd ha hn htk hm,J,λz=>nomatch z⟩
end
section
variable{X:Cx}
noncomputable def fA:V->Option Value
 |.ref C=>some (.ref C)
 |.ty T=>some (.type T)
 |_=>none
def rG(h:fA c=some v)(r:RelV c u):u=v:=by
 cases c with
 |ref C=>cases r;exact K_ h
 |ty T=>cases r;exact K_ h
 |_=>cases h
theorem pM:∀{cs:List V}{us vs:List Value},cs.mapM fA=some vs->Vals cs us->us=vs
 |
  [],_,vs,h,.nil=>by
  have h':some ([]:List Value)=some vs:=h;exact K_ h'
 |
  c::cs,_,vs,h,.cons r rr=>by
  rw[QI] at h;cases q:fA c with
  |none=>rw[q] at h;cases h
  |
   some v=>
   rw[q] at h;cases q2:cs.mapM fA with
   |none=>rw[q2] at h;cases h
   |some vs'=>rw[q2] at h;have h':some (v::vs')=some vs:=h;cases h';rw[rG q r,pM q2 rr]
def BL:CallR X (.builtin "isinstance") (λxs H Q=>∃x c t v b,xs=[x,c]/\TyX X.K H x t/\fA c=some v/\kitOne X.K t v=some b/\Q (.bl b) H):=by intro pins s σ H xs us Q I r h;obtain⟨x,c,t,v,b,rfl,ty,hc,hk,q⟩:=h;obtain⟨u,w',rfl,rx,rc⟩:=qN r;obtain rfl:=rG hc rc;obtain⟨Hh,Z,p,hne⟩:=wa I rx ty;exact kia_one Z I.kIn p hk hne λtk=>⟨.bl b,H,I.tok _,rfl,q⟩
end
end L2
namespace L2
open PySem PySem.Spec PyProof.Rows
def ObjOk.there(x:ObjOk P w H h a o):∃u,h.get? a=some u:=by
 cases o with
 |lst xs=>obtain⟨_,_,_,_,e⟩:=x;exact⟨_,e⟩
 |tup xs=>obtain⟨_,_,_,ob,e,_⟩:=x;exact⟨_,e⟩
 |dK kvs=>obtain⟨_,_,_,_,o,_,_,e,_⟩:=x;exact⟨_,e⟩
 |dT kvs=>obtain⟨_,_,_,_,o,_,_,e,_⟩:=x;exact⟨_,e⟩
 |set S n=>obtain⟨o,_,_,_,e,_⟩:=x;exact⟨_,e⟩
 |ins C dx fs=>obtain⟨_,_,_,e,_⟩:=x;exact⟨_,e⟩
 |own y=>exact x
 |xd fs=>obtain⟨_,⟨_,_,_,e,_⟩,_⟩:=x;exact⟨_,e⟩
 |rng lo hi=>obtain⟨_,_,_,e⟩:=x;exact⟨_,e⟩
 |frz ob u=>obtain⟨e,_⟩:=x;exact⟨_,e⟩
 |tbl ps=>exact⟨_,show h.get? a=some _ from x⟩
 |met f y=>exact⟨_,show h.get? a=some _ from x⟩
 |ext φ=>obtain⟨_,e,_⟩:=x;exact e
structure Fly(P:Program)(w:World)(outer:List Env)(H:Hp)(h₀:Heap)(H':Hp)(ea:Addr)(cls:Value)(h:Heap)(B:Heap)(t:Addr):Prop where
 un:Un (frs outer) [] H H' h₀ h
 hok:HOk P w H' h
 fl:Heap.FlyingW B outer ea cls (.ref t) h
 old:∀b o,h₀.get? b=some o->b∉frs outer->∃o',B.get? b=some o'
 trk:∀b o,H' b=some o->∃o',B.get? b=some o'
def CX1(P:Program)(w:World):CXT:=λouter H s E e s'=>∃(ea t:Addr) (cls:Value) (H':Hp) (B:Heap),e=.ref ea/\s'.os=s.os/\AllBare s'.gens/\Fly P w outer H s.heap H' ea cls s'.heap B t/\E cls none H'
def rB(h:env.frame=some L):frs (env::outer)=L::frs outer:=by unfold frs;rw[Qb,h]
section
variable{P:Program}{w:World}{outer:List Env}{H H':Hp}{h₀ h h' B:Heap}{ea t L:Addr}{cls:Value}
def Fly.step(F:Fly P w outer H h₀ H' ea cls h B t)(fl':Heap.FlyingW B outer' ea cls (.ref t) h')(up:h.UpToSlots h'):
 Un (frs outer) [] H H' h₀ h'/\HOk P w H' h':=by
 have st:=F.fl.1;have same:∀b o,(∃o',B.get? b=some o')->h.get? b=some o->h'.get? b=some o:=λb o ⟨o',e⟩ q=>by have z:=st b o' e;rw[q] at z;cases z;exact fl'.1 b _ e
 have frame:∀b o,b∈frs outer->h.get? b=some o->∃sl,h'.get? b=some { o with slots:=sl }:=λb o hb q=>by obtain⟨_,o',ho',hd⟩:=F.fl.2.2.1.mem hb;rw[q] at ho';cases ho';exact up b o q hd
 refine⟨⟨λb o e n hb hx=>same b o (F.old b o e hb) (F.un.keep b o e n hb hx),λb o e n hb hx=>?_,F.un.free,λb o e hx=>?_,F.un.tups,F.un.frzs,F.un.tbls⟩,λa o e=>?_⟩
 .obtain⟨sl,q⟩:=F.un.slot b o e n hb hx;obtain⟨sl',q'⟩:=frame b _ hb q;exact⟨sl',q'⟩
 .obtain⟨o',q⟩:=F.un.there b o e hx;by_cases hb:b∈frs outer
  .obtain⟨sl,q'⟩:=frame b _ hb q;exact⟨_,q'⟩
  .exact⟨o',same b o' (F.old b o e hb) q⟩
 .refine (F.hok a o e).stay (λb u hb q=>same b u ?_ q) (λ_ q=>q) λ_ _ q=>q;rcases hb with z |z
  .rw[z];exact F.trk a o e
  .exact F.trk b _ z
end
structure Cx.Top(X:Cx):Prop where
 ex:X.ex=[]
 stk:X.stack=X.env::X.outer
 fr:X.env.frame=some X.env.locals
section
variable{X:Cx}{pins:Sb}{σ:St}{H:Hp}{s s':Shared}{E:XK}{e:Value}
def Aa(T:X.Top)(hA:A.frames=some X.stack)(I:Inv X pins σ H s)(h:CX1 X.prog X.w X.stack H s E e s'):
 wpAny (model X.prog X.w) A (leaving X.env e) (λ_ s''=>CX1 X.prog X.w X.outer X.H₀ X.s₀ E e s'') E' s':=by
 obtain⟨ea,t,cls,H',B,rfl,os,bare,F,q⟩:=h;have F0:=F;rw[T.stk] at F;have hf:=rB (outer:=X.outer) T.fr;refine wpAny_leaves_onW (by rw[hA,T.stk]) T.fr F.fl λh'' fl'' up=>?_;obtain⟨un2,hok2⟩:=F.step fl'' up;have exn:∀b,b∉X.ex:=λb z=>by rw[T.ex] at z;cases z
 have neL:∀b o,X.s₀.heap.get? b=some o->b≠X.env.locals:=λb o e=>J_ (E_ (v_ e) I.ok.above);have notin:∀b o,X.s₀.heap.get? b=some o->b∉frs X.outer->b∉frs (X.env::X.outer):=λb o e hb z=>by
  rw[hf] at z;rcases H_.mp z with z |z
  .exact neL b o e z
  .exact hb z
 refine⟨ea,t,cls,H',B,rfl,os.trans I.os,bare,⟨⟨λb o e n hb hx=>?_,λb o e n hb hx=>?_,λb o e n hx=>?_,λb o e hx=>?_,λb xs e=>un2.tups b xs (I.base.tups b xs e),λb o xs e=>un2.frzs b o xs (I.base.frzs b o xs e),λb ps e=>?_⟩,hok2,fl'',λb o e hb=>?_,F.trk⟩,q⟩
 .exact un2.keep b o (I.base.keep b o e n hb (exn b)) (I.base.free b o e n (exn b)) (notin b o e hb) (by simp)
 .obtain⟨sl,e1⟩:=I.base.slot b o e n hb (exn b);obtain⟨sl',e2⟩:=un2.slot b _ e1 (I.base.free b o e n (exn b)) (by rw[hf];exact m_ _ hb) (by simp);exact⟨sl',e2⟩
 .obtain⟨o',e1⟩:=I.base.there b o e (exn b);exact un2.free b o' e1 (I.base.free b o e n (exn b)) (by simp)
 .obtain⟨o',e1⟩:=I.base.there b o e (exn b);exact un2.there b o' e1 (by simp)
 .obtain⟨m1,e1⟩:=I.base.tbls b ps e;obtain⟨m2,e2⟩:=un2.tbls b _ e1;exact⟨m1++m2,by rw[e2,Array.append_assoc]⟩
 .obtain⟨o',e1⟩:=I.base.there b o e (exn b);exact F.old b o' e1 (notin b o e hb)
def Dt(T:X.Top)(hA:A.frames=some X.stack)(I:Inv X pins σ H s)(hx:Heap.MadeExcOf s.heap h' ea cls args)(q:E cls none H):
 wpAny (model X.prog X.w) A (leaving X.env (.ref ea)) (λ_ s''=>CX1 X.prog X.w X.outer X.H₀ X.s₀ E (.ref ea) s'') E' { s with heap:=h' }:=by
 have hf:=rB (outer:=X.outer) T.fr;have stk:=I.stack;rw[T.stk] at stk;have hin:∀env∈(X.env::X.outer),∀b,env.frame=some b->b∈frs (X.env::X.outer):=λenv he b hb=>List.mem_filterMap.mpr ⟨env,he,hb⟩;refine wpAny_leaves_madeW (base:=W.hideAll s.heap (frs (X.env::X.outer))) (h:=s.heap) (by rw[hA,T.stk]) T.fr (λb o q=>W.of_hideAll _ q) (W.funFrames_hide stk hin) hx λh'' t fl tup tn up=>?_;have inB:∀b o,s.heap.get? b=some o->b∉frs (X.env::X.outer)->(W.hideAll s.heap (frs (X.env::X.outer))).get? b=some o:=λb o e hb=>W.hideAll_get _ e hb;have free:∀b∈frs (X.env::X.outer),H b=none:=λb hb=>I.stkFree b (by rw[T.stk];exact hb);have up2:s.heap.UpToSlots h'':=(Heap.UpToSlots.of_keeps hx.keeps).trans up;have exn:∀b,b∉X.ex:=λb z=>by rw[T.ex] at z;cases z
 have neL:∀b o,X.s₀.heap.get? b=some o->b≠X.env.locals:=λb o e=>J_ (E_ (v_ e) I.ok.above);have notin:∀b o,X.s₀.heap.get? b=some o->b∉frs X.outer->b∉frs (X.env::X.outer):=λb o e hb z=>by
  rw[hf] at z;rcases H_.mp z with z |z
  .exact neL b o e z
  .exact hb z
 have trk:∀b o,H b=some o->∃o',(W.hideAll s.heap (frs (X.env::X.outer))).get? b=some o':=λb o e=>by obtain⟨u,hu⟩:=(I.hok b o e).there;exact⟨u,inB b u hu λz=>by rw[free b z] at e;cases e⟩
 refine⟨ea,t,cls,H,_,rfl,I.os,I.bare,⟨⟨λb o e n hb hx=>?_,λb o e n hb hx=>?_,λb o e n hx=>?_,λb o e hx=>?_,I.base.tups,I.base.frzs,I.base.tbls⟩,λa o e=>?_,fl,λb o e hb=>?_,trk⟩,q⟩
 .exact fl.1 b o (inB b o (I.base.keep b o e n hb (exn b)) (notin b o e hb))
 .obtain⟨sl,e1⟩:=I.base.slot b o e n hb (exn b);obtain⟨_,o',ho',hd⟩:=I.ok.funs.mem hb;rw[e] at ho';cases ho';obtain⟨sl',e2⟩:=up2 b _ e1 hd;exact⟨sl',e2⟩
 .exact I.base.free b o e n (exn b)
 .obtain⟨o',e1⟩:=I.base.there b o e (exn b);by_cases hb:b∈frs X.outer
  .obtain⟨_,o2,ho2,hd⟩:=I.funs.mem hb;rw[e1] at ho2;cases ho2;obtain⟨sl',e2⟩:=up2 b _ e1 hd;exact⟨_,e2⟩
  .exact⟨o',fl.1 b o' (inB b o' e1 (notin b o e hb))⟩
 .refine (I.hok a o e).stay (λb u hb q=>?_) (λ_ q=>q) λ_ _ q=>q;refine fl.1 b u (inB b u q λz=>?_);rcases hb with y |y
  .rw[y] at z;rw[free a z] at e;cases e
  .rw[free b z] at y;cases y
 .obtain⟨o',e1⟩:=I.base.there b o e (exn b);exact⟨o',inB b o' e1 (notin b o e hb)⟩
end
section
variable{P:Program}{w:World}{K:W.Frag}{mg:Sa}{base:Heap}{N:List Str}{qual:Str}{scope:Scope}{f:Addr}{cd:Value}{A:Around}{outer:List Env}{s:Shared}{H:Hp}{E:XK}
def D2:(c7 (CX1 P w) P w K mg base N qual scope f cd A outer s H E).Top:=⟨rfl,rfl,rfl⟩
def O5:rE (CX1 P w) (c7 (CX1 P w) P w K mg base N qual scope f cd A outer s H E) E:=λpins σ H s e s' I h=>Aa D2 I.ok.frames I h
def Od:rE (CX1 P w) X E0:=λpins σ H s e s' I ⟨_,_,_,_,_,_,_,_,_,q⟩=>q.elim
def own1:PassesOwn (model P w) (c7 (CX1 P w) P w K mg base N qual scope f cd A outer s H E).A (c7 (CX1 P w) P w K mg base N qual scope f cd A outer s H E).env (c7 (CX1 P w) P w K mg base N qual scope f cd A outer s H E).xe:=PassesOwn.leaving
def Rz(X:Cx)(E:XK):Prop:=∀(pins:Sb) (σ:St) (H:Hp) (s:Shared) (h':Heap) (ea:Addr) (cls:Value) (args:List Value),Inv X pins σ H s->Heap.MadeExcOf s.heap h' ea cls args->E cls none H->X.xe (.ref ea) { s with heap:=h' }
def rz1:Rz (c7 (CX1 P w) P w K mg base N qual scope f cd A outer s H E) E:=λpins σ H s h' ea cls args I hx q=>Dt D2 I.ok.frames I hx q
def Fun.okR{x qual:Str}{st:Stmt}{f:Addr}{fd:FuncData}{N ps:List Str}{k:Nat}{sp:Sp}(F:Fun K x qual st f fd)(S:FnScope N ps (ak st))(len:∀vs H Q E,sp vs H Q E->vs.length=ps.length)
 (db:∀(cdv:Value) (A:Around) (outer:List Env) (s:Shared) (H:Hp) (vs:List V) (Q:VK) (E:XK),Room k (A.deeper (envOfC qual (ak st) s.heap.objs.size f cdv))->sp vs H Q E->
  ∃t,PSs (c7 (CX1 P w) P w K mg base N qual (ak st) f cdv A outer s H E) (aQ st) t/\t { nx:=λ_ H'=>Q .non H',rt:=Q } (fh N vs) H):FnOk P w K mg base (CX1 P w) (k+1) f fd ps sp:=by
 obtain⟨oc,od,kV,doc,pm,an,cdv,ct,osl,rfl,lk,i_⟩:=F.ex;exact DX lk i_ S len λA outer s H vs Q E hr hsp=>db cdv A outer s H vs Q E hr hsp
end
abbrev lT:List Value:=[.type "ValueError",.type "Exception",.type "BaseException",.type "object"]
def z8{K:W.Frag}{h:Heap}{C:Addr}(X:K.In h)(q:W.excIn K C lT "ValueError.__new__"=true):
 ∃bm N nm q' bs hdct sn sub ab col dd k0 k1 k2 k3 k5 mN,h.get? C=some (excClassObj nm q' C N bs bm hdct sn sub ab col dd k0 k1 k2 k3 k5 "ValueError.__new__")/\h.Ns N mN/\mN "__init__"=none/\OwnTail h lT bm:=by
 unfold W.excIn at q;split at q
 .rename_i dd cd sl ho;split at q
  .rename_i C' bm k0 k1 k2 k3 n k5 hm hs;simp only[r_,Pa,QE] at q;obtain⟨⟨⟨⟨⟨rfl,rfl⟩,hdel⟩,ht⟩,hok⟩,hni⟩:=q;obtain⟨nm,bs,mro,ns,qn,hd,sn,sub,ab,col,del⟩:=cd;dsimp only at hm hdel hok hni;subst hm hdel;have hsl:sl=#[k0,k1,k2,k3,some (.builtin "ValueError.__new__"),k5]:=by obtain⟨l⟩:=sl;simp only at hs;rw[hs]
   subst hsl;exact⟨bm,ns,nm,qn,bs,hd,sn,sub,ab,col,dd,k0,k1,k2,k3,k5,_,X _ _ ho,.of_isNs (W.isNs_of_in X hok),W.nsMap_none_of_in X hok hni,W.tail_of_in X ht⟩
  .cases q
 .cases q
section
variable{X:Cx}{x:Str}{C:Addr}{E:XK}{np cpos pos:Pos}{e₀:Expr}{es:List Expr}{ta:TA}
def HW(C:Addr)(E:XK)(ta:TA):TS:=λ_ σ H=>ta σ H λvs H1=>vs.length<=sizeLine/\E (.ref C) none H1
def A5(hc:X.calm=true)(hR:Rz X E)(hg:Gl X x)(hm:X.mg x=some (.ref C))(hq:W.excIn X.K C lT "ValueError.__new__"=true)(ha:PA X (e₀::es) ta)
 (he:starEach (e₀::es) X.env=(false,eval e₀ X.env)::starEach es X.env) (ci:(backTo cpos (starEach es X.env)).any (·.1)=false) (hd:(x==("__debug__" : Str))=false):
 PS X (.Raise (some (.Call (.Name x np) (e₀::es) [] cpos)) none pos) (HW C E ta):=by
 intro pins s σ H D I h;obtain⟨bm,N,nm,q',bs,hdct,sn,sub,ab,col,dd,k0,k1,k2,k3,k5,mN,hC,hN,hni,T⟩:=z8 I.ok.mod.kin hq;refine wpAny_Raise_call_subT (C:=C) (nm:=nm) (q:=q') (N:=N) (bs:=bs) (bm:=bm) (hdct:=hdct) (sn:=sn) (sub:=sub) (ab:=ab) (col:=col) (dd:=dd) (k0:=k0) (k1:=k1) (k2:=k2) (k3:=k3) (k5:=k5)
  PySem.F.excBase_ValueError (mN:=mN) (T.hasType PySem.F.excBase_ValueError.hasBase) (I.ok.hd hc) (by rw[he];show (false || (backTo cpos (starEach es X.env)).any (·.1))=false;rw[ci];rfl) hni (nW I hg hm ⟨rfl,?_⟩ hd)
 have hA:=ha cpos pins s σ H _ I h;rw[he] at hA ⊢;refine Calls.evalArgs_plain (thn hA λus s2 ⟨vs,H2,I2,r2,hz,q2⟩=>⟨rfl,by rw[<- r2.length];exact hz,I2.bk _ _ hC,hN.keeps I2.bk,T.keeps I2.bk,λh' e hm'=>?_⟩);exact hR pins σ H2 s2 h' e _ _ I2 hm' q2
end
abbrev XS:=St->XK
abbrev TEx:=St->Hp->VK->XK->Prop
abbrev TSx:=Ends->XS->St->Hp->Prop
def XP(X:Cx)(pins:Sb)(E:XS)(e:Value)(s':Shared):Prop:=∃σ1 H1 s1,Inv X pins σ1 H1 s1/\CX1 X.prog X.w X.stack H1 s1 (E σ1) e s'
def PEx(X:Cx)(e:Expr)(t:TEx):Prop:=
 ∀(pins:Sb) (s:Shared) (σ:St) (H:Hp) (Q:VK) (E:XS),Inv X pins σ H s->t σ H Q (E σ)->wpAny (model X.prog X.w) X.A (eval e X.env) (EP X pins σ Q) (XP X pins E) s
section
variable{X:Cx}{st:Stmt}{gj:List Stmt}{t u:TSx}{e:Expr}{es:List Expr}{te:TEx}{pos p:Pos}{x:Str}{f:Addr}{fd:FuncData}{ps:List Str}{sp:Sp}{k:Nat}{ta:TA}{dvs:List V}{ds:List Value}
end
section
variable{X:Cx}{pins:Sb}{σ:St}{H:Hp}{s:Shared}{ea:Addr}
end
structure XHand(K:W.Frag)(C:Addr):Prop where
 ty:W.typeIn K (.ref C)=some (.type "type")
 cls:(W.clsIn K C).isSome=true
 mb:W.mroIn K C (.type "BaseException")=some true
section
variable{X:Cx}{x n:Str}{C:Addr}{i:Nat}{body suite:List Stmt}{b₀:Stmt}{tb:TSx}{ts:TS}{np hpos pos:Pos}
end
mutual
inductive Rep(K:W.Frag)(H:Hp):V->PyData->Prop where
 |non:Rep K H .non .none
 |bl (b:Bool):Rep K H (.bl b) (.bool b)
 |int (i:Int):Rep K H (.int i) (.int i)
 |str (x:Str):Rep K H (.str x) (.str x)
 |tup {a:Addr}{xs:List V}{ds:List PyData} (h:SqT K H a xs) (r:Reps K H xs ds):Rep K H (.ref a) (.tuple ds)
 |lst {a:Addr}{xs:List V}{ds:List PyData} (h:SqL K H a xs) (r:Reps K H xs ds):Rep K H (.ref a) (.list ds)
inductive Reps(K:W.Frag)(H:Hp):List V->List PyData->Prop where
 |nil:Reps K H [] []
 |cons {x:V}{d:PyData}{xs:List V}{ds:List PyData} (r:Rep K H x d) (rr:Reps K H xs ds):Reps K H (x::xs) (d::ds)
end
section
variable{X:Cx}{pins:Sb}{σ:St}{H H':Hp}{s:Shared}{K:W.Frag}
def Rep.reads(I:Inv X pins σ H s)(r:Rep X.K H v d)(q:RelV v u):∃as,Reads s.heap u d as:=
 Rep.rec (motive_1:=λv d _=>∀u,RelV v u->∃as,Reads s.heap u d as) (motive_2:=λvs ds _=>∀us,Vals vs us->∃as,ReadsAll s.heap us ds as)
  (λu r=>by cases r;exact⟨_,.none⟩) (λb u r=>by cases r;exact⟨_,.bool b⟩) (λi u r=>by obtain⟨t,rfl⟩:=r;exact⟨_,.int i t⟩) (λx u r=>by obtain⟨t,rfl⟩:=r;exact⟨_,.str x t⟩)
  (λh _ ih u r=>by cases r;obtain⟨its,rv,⟨o,e,c,n,d⟩,_⟩:=I.tuple h;obtain⟨as,q⟩:=ih _ rv;exact⟨as,.tuple e c d (by simpa using q)⟩)
  (λh _ ih u r=>by cases r;obtain⟨its,rv,⟨o,n,e,c,_,d⟩,_⟩:=I.list h;obtain⟨as,q⟩:=ih _ rv;exact⟨_,.list e c d (by simpa using q)⟩)
  (λus r=>by cases r;exact⟨_,.nil⟩)
  (λ_ _ a b us q=>by
   cases q with
   |cons q1 q2=>obtain⟨as,h1⟩:=a _ q1;obtain⟨bs,h2⟩:=b _ q2;exact⟨_,.cons h1 h2⟩) r u q
end
section
variable{X:Cx}
def shp(d:PyData):Bool:=d.canLay0&&decide (d.depth<=160)
def kz(h:shp d=true):d.canLay0=true:=(Bool.and_eq_true_iff.mp h).1
def sP{A:Around}{d e:PyData}(h:shp d=true)(hu:A.units+180<cLine):A.units+min d.depth e.depth<cLine:=by have h1:d.depth<=160:=Qs (Bool.and_eq_true_iff.mp h).2;have h2:min d.depth e.depth<=d.depth:=Nat.min_le_left _ _;omega
def xg(K:W.Frag):R2:=λx y H Q=>∃dx dy,Rep K H x dx/\Rep K H y dy/\shp dx=true/\shp dy=true/\Q (.bl (PyData.eqv dx dy)) H
def wH(K:W.Frag):R2:=λx y H Q=>∃dx dy,Rep K H x dx/\Rep K H y dy/\shp dx=true/\shp dy=true/\Q (.bl (!PyData.eqv dx dy)) H
def Iw(hu:X.A.units+180<cLine):OpR X (compareOp .Eq) (xg X.K):=by intro pins s σ H x y v u Q I rx ry h;obtain⟨dx,dy,r1,r2,h1,h2,q⟩:=h;obtain⟨as,q1⟩:=r1.reads I rx;obtain⟨bs,q2⟩:=r2.reads I ry;exact SeqAt.compareEq_reads q1 q2 (kz h1) (kz h2) (sP h1 hu) (Ai I q rfl)
def LU(hu:X.A.units+180<cLine):OpR X (compareOp .NotEq) (wH X.K):=by intro pins s σ H x y v u Q I rx ry h;obtain⟨dx,dy,r1,r2,h1,h2,q⟩:=h;obtain⟨as,q1⟩:=r1.reads I rx;obtain⟨bs,q2⟩:=r2.reads I ry;exact SeqAt.compareNe_reads q1 q2 (kz h1) (kz h2) (sP h1 hu) (Ai I q rfl)
open PySem.Builtin.Int (intBits)
def CDivB(i j:Int):Prop:=j≠0/\intBits j<=8000
def Ed(i j:Int):Prop:=intBits i<=100000/\intBits j<=100000
def CK:OpR X (binaryOp .FloorDiv) (rI CDivB λi j=>.int (i.fdiv j)):=opI λi j _ _ _ _ _ hc q=>floordiv_int hc.1 q (.inl (PyProof.noPylong_of_log2 (by
 have h:=hc.2;have h0:=hc.1;unfold intBits at h;have hb:(j==0)=false:=by simpa using h0
 rw[hb] at h;simp only[Qh,Q4] at h;omega)))
def G6:OpR X (binaryOp .Mult) (rI Ed λi j=>.int (i*j)):=opI λi j _ _ _ _ _ hc q=>mul_int q (PySem.IntMulOk.of_le hc.1 hc.2 (by decide))
def Ay(bs:List Bool):((List.range bs.length).all λi=>bs.getD i false)=bs.all id:=by
 rw[Ru,O9,O9];constructor
 .intro h x hx;obtain⟨i,hi,rfl⟩:=List.mem_iff_getElem.mp hx
  have:=h i (Pk.mpr hi)
  simpa [Em,hi] using this
 .intro h i hi;have hi':=Pk.mp hi
  have:=h bs[i] (P4 hi')
  simpa [Em,hi'] using this
def C4(hc:X.calm=true):CallR X (.builtin "all") (λxs H Q=>∃(a:Addr) (bs:List Bool),xs=[.ref a]/\SqL X.K H a (bs.map V.bl)/\Q (.bl (bs.all id)) H):=by
 intro pins s σ H xs us Q I r h;obtain⟨a,bs,rfl,hq,q⟩:=h;obtain⟨u,rfl,ru⟩:=fb r;cases ru;obtain⟨its,rv,p,hz⟩:=I.list hq;have hl:=rv.length;rw[k_] at hl;have hlt:a<s.heap.objs.size:=by obtain⟨o,n,e,_⟩:=p;exact v_ e
 refine call_all_walk (wpAny_pyIter_list p.isList ?_);refine⟨s.heap.objs.size,_,_,_,_,_,λi=>bs.getD i false,rfl,Walks.list (A:=X.A.in1) (I.ok.hd hc) s.heap.objs.size a (J_ hlt) its.toArray,⟨⟨_,C_ _ rfl,rfl,rfl⟩,(p.keeps λb o e=>l_ _ e).isList⟩,λi v s' Q' E' hP hQ=>?_,λh' tk hk=>?_⟩
 .have hP':its[i]?=some v:=by simpa using hP
  have hi:i<bs.length:=by rw[hl];exact (p_.mp hP').1
  have hb:(bs.map V.bl)[i]?=some (V.bl bs[i]):=by simp [hi]
  obtain⟨u,hu,ru⟩:=rv.get hb;rw[hP'] at hu;cases hu;cases ru;refine Qt ?_;have e:bs.getD i false=bs[i]:=by simp [Em,hi]
  show Q' bs[i] s';rw[<- e];exact hQ
 .have e1:its.toArray.size=bs.length:=by rw[t_,hl]
  rw[e1,Ay];have hn:H s.heap.objs.size=none:=I.fresh;have I1:Inv X pins σ H { s with heap:=s.heap.push { cls:=.type "list_iterator",dict:=none,data:=.fields #[.ref a,rawInt 0] } }:=I.kept (t':=s.toks) λb o e=>l_ _ e;refine⟨.bl _,H,?_,rfl,q⟩;refine I.kept (t':=tk) λb o e=>?_;have hne:b≠s.heap.objs.size:=J_ (v_ e);exact hk b o (by simpa using hne) (l_ _ e)
end
structure Def(K:W.Frag)(mg:Sa)(x:Str)(st:Stmt):Prop where
 ex:∃f fd,Fun K x x st f fd/\mg x=some (.ref f)
def Aj{K:W.Frag}{h:Heap}{mg:Sa}{x:Str}{st:Stmt}{f:Addr}{oc:Value}{od an:Option Addr}{osl:Array (Option Value)}{kV doc pm cdv ct:Value}(X:K.In h)(G:h.Ns mainGlobals mg)
 (a:W.nsIn K mainGlobals x=some (some (.ref f))) (l:K.lookup f=some ⟨oc,od,.func (W.fnOf x x (bO st) (aQ st) (ak st) .none kV doc pm an cdv ct),osl⟩)
 (c:W.codeIn K cdv x=true) (k:W.keepIn K (.ref f)=true):Def K mg x st:=⟨f,_,LN l c k,W.mg_of X G a⟩
def Fun.look{K:W.Frag}{x qual:Str}{st:Stmt}{f:Addr}{fd:FuncData}(F:Fun K x qual st f fd):∃oc od osl,K.lookup f=some ⟨oc,od,.func fd,osl⟩:=by obtain⟨oc,od,kV,doc,pm,an,cdv,ct,osl,rfl,lk,i_⟩:=F.ex;exact⟨oc,od,osl,lk⟩
structure Callee(P:Program)(w:World)(K:W.Frag)(mg:Sa)(base:Heap)(x:Str)(k:Nat)(ps:List Str)(sp:Sp):Prop where
 ex:∃f fd,FnOk P w K mg base (CX1 P w) k f fd ps sp/\mg x=some (.ref f)/\W.keepIn K (.ref f)=true/\Binds K fd ps []/\∃oc od osl,K.lookup f=some ⟨oc,od,.func fd,osl⟩
section
variable{P:Program}{w:World}{K:W.Frag}{mg:Sa}{base:Heap}{x:Str}{st:Stmt}{k:Nat}{ps N:List Str}{sp:Sp}
def Callee.imp(C:Callee P w K mg base x k ps sp)(h:∀vs H Q E,sp' vs H Q E->sp vs H Q E):Callee P w K mg base x k ps sp':=by obtain⟨f,fd,F,r⟩:=C.ex;exact⟨f,fd,F.imp h,r⟩
def Def.okR(D:Def K mg x st)(S:FnScope N ps (ak st))
 (hb:∀(kV doc pm:Value) (an:Option Addr) (cdv ct:Value) (us:List Value),us.length=ps.length->bindArgs (W.fnOf x x (bO st) (aQ st) (ak st) .none kV doc pm an cdv ct) ⟨us,[]⟩=pure (ps.zip us))
 (len:∀vs H Q E,sp vs H Q E->vs.length=ps.length)
 (db:∀(f:Addr) (cdv:Value) (A:Around) (outer:List Env) (s:Shared) (H:Hp) (vs:List V) (Q:VK) (E:XK),Room k (A.deeper (envOfC x (ak st) s.heap.objs.size f cdv))->sp vs H Q E->
  ∃t,PSs (c7 (CX1 P w) P w K mg base N x (ak st) f cdv A outer s H E) (aQ st) t/\t { nx:=λ_ H'=>Q .non H',rt:=Q } (fh N vs) H):Callee P w K mg base x (k+1) ps sp:=by
 obtain⟨f,fd,F,m⟩:=D.ex;exact⟨f,fd,F.okR S len (db f),m,F.kp,F.binds hb,F.look⟩
end
section
variable{X:Cx}{x:Str}{p pos:Pos}{e:Expr}{es:List Expr}{ta:TA}{k:Nat}{ps:List Str}{sp:Sp}{E:XK}
end
section
variable{X:Cx}{K:W.Frag}{tg l:Expr}{tl:TE}
def allK(h:X.K=K)(hc:X.calm=true):CallR X (.builtin "all") (λxs H Q=>∃(a:Addr) (bs:List Bool),xs=[.ref a]/\SqL K H a (bs.map V.bl)/\Q (.bl (bs.all id)) H):=by subst h;exact C4 hc
def Room.u180(r:Room k A):A.units+180<cLine:=by have:=r.un;omega
def eqDK(h:X.K=K)(hu:X.A.units+180<cLine):OpR X (compareOp .Eq) (xg K):=by subst h;exact Iw hu
def neDK(h:X.K=K)(hu:X.A.units+180<cLine):OpR X (compareOp .NotEq) (wH K):=by subst h;exact LU hu
def inK(h:X.K=K):OpR X (compareOp .In) (rIn K false):=by subst h;exact zS
def Jv(h:X.K=K):OpR X (compareOp .NotIn) (rIn K true):=by subst h;exact tU
end
section
variable{X:Cx}
def KQ{im a_ tg:Expr}{ifs:List Expr}{scope:Scope}{pos:Pos}{wi:TI}{g:TG}{tc:TT}{te:TE}{N:List Str}{sub:Se}{iT:Nat}{xT:Str}{px spos:Pos}
 (hc:X.calm=true) (hN:X.N.Nodup) (hix:X.N[iT]?=some xT) (hxl:Loc X.env.scope xT) (hi:PI X tg a_ wi)
 (hk:scope.kind=.function) (hnc:∀x∈scope.names,x.2 ≠ .cell) (b_:∀x∈scope.names,x.2=.local->scope.names.lookup x.1=some .local)
 (hfr:∀x∈scope.names,x.2=.free->X.env.kindOf x.1=some .cell\/X.env.kindOf x.1=some .free)
 (hsl:sub.length=N.length) (em:∀(j i:Nat) (x:Str),sub[j]?=some (some i)->N[j]?=some x->X.N[i]?=some x/\scope.names.lookup x=some .free)
 (hg:∀cl C s₂ H fp,PG (aK X N scope cl C s₂ H fp) tg g) (ht:∀cl C s₂ H fp,PTs (aK X N scope cl C s₂ H fp) ifs tc) (he:∀cl C s₂ H fp,PE (aK X N scope cl C s₂ H fp) im te)
 (hsw:swapsWith (.ListComp im [⟨tg,a_,ifs,0⟩] scope pos) (some (.Name xT px)) spos.line X.env=pure true)
 (hs:∀x,foldedSetIterable a_ X.env x=pure x) (hf:X.fn xT=true\/X.env.scope.names.lookup xT=some .local):
 PS X (.Assign [.Name xT px] (.ListComp im [⟨tg,a_,ifs,0⟩] scope pos) spos) (sN (jf wi sub g tc te) (m5 iT)):=by
 intro pins s σ H D0 I h;rw[exec_Assign_Name_used _ _ _ _ hsw];refine j_ (Rm (j_ ?_));show wpAny _ X.A (do let _ <- comprehension (.ListComp im [⟨tg,a_,ifs,0⟩] scope pos) scope X.env _ (newList []) false (eval a_ X.env) (some (assign (.Name xT px) X.env))) _ _ s;refine j_ (Pj (vh (use:=some (assign (.Name xT px) X.env)) (R:=λ_ s'=>SP X pins D0 .next s') hc hi hk hnc b_ hfr hsl em hg ht he hs I h λD C s4 e=>?_) (λ_ s' hq=>u_ (u_ hq)) λ_ _ e=>e);obtain⟨m,hm⟩:=e.ns;obtain⟨H',hC,q,i⟩:=e.inv;have dc:=e.dc;have fr:=e.fr;refine wpAny_assign_Name (o8 (v:=.ref D) (i s4.heap ⟨rfl,λ_ _=>rfl⟩) hN hix hxl rfl (λs7 I7 ⟨a7,sb7,ha7⟩=>?_) hf);have ha:a7<D:=by
  rcases ha7 with z |z
  .rw[z];exact fr
  .exact e.cell xT a7 z
 refine⟨m,hm.sameBut sb7 (QK (RD ha dc)),λh8 hs8=>⟨_,_,I7.turned (it:=C) (t':=s7.toks) (λb o hb e=>hs8.extBut b o hb e) hC (QK (RD fr dc)) (.inr (F_ e.sz (QJ dc))) (λx c q=>J_ (RD (e.cell x c q) dc)) (λp hp=>J_ (RD (e.pin p hp) dc)),q⟩⟩
def My{im a_ tg:Expr}{scope:Scope}{pos px spos:Pos}{wi:TI}{g:TG}{te:TE}{iT:Nat}{xT:Str}(M:List Str)(kn:List (Str×NameKind))(N:List Str)(sub:Se)
 (hc:X.calm=true) (hN:X.N.Nodup) (hix:X.N[iT]?=some xT) (hxl:Loc X.env.scope xT) (hi:PI X tg a_ wi)
 (hg:∀cl C s₂ H fp,PG (aK X N scope cl C s₂ H fp) tg g) (he:∀cl C s₂ H fp,PE (aK X N scope cl C s₂ H fp) im te)
 (hsw:swapsWith (.ListComp im [⟨tg,a_,[],0⟩] scope pos) (some (.Name xT px)) spos.line X.env=pure true)
 (hM:X.N=M) (hkn:X.env.scope.names=kn) (em:fP M scope.names sub N=true)
 (hk:scope.kind=.function) (hnc:∀x∈scope.names,x.2 ≠ .cell) (b_:∀x∈scope.names,x.2=.local->scope.names.lookup x.1=some .local)
 (hfr:iB kn scope.names=true)
 (hsl:sub.length=N.length) (hs:∀x,foldedSetIterable a_ X.env x=pure x) (hf:X.fn xT=true\/X.env.scope.names.lookup xT=some .local):
 PS X (.Assign [.Name xT px] (.ListComp im [⟨tg,a_,[],0⟩] scope pos) spos) (sN (jf wi sub g A4 te) (m5 iT)):=
 KQ hc hN hix hxl hi hk hnc b_ (by subst hkn;exact wj hfr) hsl (by subst hM;exact rP em) hg (λcl C s₂ H fp=>v3) he hsw hs hf
end
theorem nR:∀{ns:List Int}{its:List Value},Vals (ns.map V.int) its->IntsAre its ns
 | [],_,h=>by cases h;exact .nil
 |
  i::r,_,h=>by
  cases h with
  |cons h1 h2=>obtain⟨t,rfl⟩:=h1;exact .cons i t (nR h2)
def oY{X:Cx}{K:W.Frag}(hK:X.K=K)(hc:X.calm=true):CallR X (.builtin "sum") (λxs H Q=>∃(a:Addr) (ns:List Int),xs=[.ref a]/\SqL K H a (ns.map V.int)/\Q (.int ns.sum) H):=by
 subst hK;intro pins s σ H xs us Q I r h;obtain⟨a,ns,rfl,hq,q⟩:=h;obtain⟨u,rfl,ru⟩:=fb r;cases ru;obtain⟨its,rv,p,hz⟩:=I.list hq;have hi:=nR rv;obtain⟨ys,hy⟩:=hi.allInts.items;have hn:numsOf its.toArray.toList=ns:=by rw[show its.toArray.toList=its from rfl,hi.numsOf]
 have pl:=p.isList;rw[hy] at pl hn;rw[nums_intItems] at hn;refine sum_intListG (I.ok.hd hc) pl λh' tk t' hk=>?_;rw[preSum_eq,P2 (by simp),hn];exact⟨.int ns.sum,H,I.kept (t':=tk) hk,⟨_,rfl⟩,q⟩
end L2
namespace Fr
noncomputable def dv(a b:Int):Int:=if b<0 then -((Int.gcd a b:Nat):Int) else ((Int.gcd a b:Nat):Int)
def T(a b:Int):Int:=a.fdiv (dv a b)
def B(a b:Int):Int:=b.fdiv (dv a b)
def ui(hb:b≠0):0<Int.gcd a b:=Int.gcd_pos_of_ne_zero_right a hb
def dv_ne(hb:b≠0):dv a b≠0:=by
 have:=ui (a:=a) hb
 unfold dv;split <;> omega
def C8(a b:Int):dv a b ∣ a:=by
 have h:((Int.gcd a b:Nat):Int) ∣ a:=Int.gcd_dvd_left a b;unfold dv;split
 .exact Int.neg_dvd.mpr h
 .exact h
def Dn(a b:Int):dv a b ∣ b:=by
 have h:((Int.gcd a b:Nat):Int) ∣ b:=Int.gcd_dvd_right a b;unfold dv;split
 .exact Int.neg_dvd.mpr h
 .exact h
def vp{a d q:Int}(hd:d≠0)(h:a=d*q):a.fdiv d=q:=by rw[h,Q0];exact Int.mul_fdiv_cancel q hd
def T_mul(hb:b≠0):T a b*dv a b=a:=by obtain⟨q,h⟩:=C8 a b;have:T a b=q:=vp (dv_ne hb) h;rw[this,Q0];exact h.symm
def B_mul(hb:b≠0):B a b*dv a b=b:=by obtain⟨q,h⟩:=Dn a b;have:B a b=q:=vp (dv_ne hb) h;rw[this,Q0];exact h.symm
def B_pos(hb:b≠0):0<B a b:=by
 have h:=B_mul (a:=a) hb;have hg:=ui (a:=a) hb;generalize hx:B a b=x at h ⊢;unfold dv at h;split at h
 .rename_i hneg;have h2:x*((Int.gcd a b:Nat):Int)=-b:=by rw[Int.mul_neg] at h;omega
  rcases Int.lt_or_le 0 x with z |z
  .exact z
  .have:x*((Int.gcd a b:Nat):Int)<=0:=Int.mul_nonpos_of_nonpos_of_nonneg z (by omega);omega
 .rename_i hpos;rcases Int.lt_or_le 0 x with z |z
  .exact z
  .have:x*((Int.gcd a b:Nat):Int)<=0:=Int.mul_nonpos_of_nonpos_of_nonneg z (by omega);omega
def cross(hb:b≠0):T a b*b=a*B a b:=by have h1:=T_mul (a:=a) hb;have h2:=B_mul (a:=a) hb;generalize T a b=x at *;generalize B a b=y at *;generalize dv a b=d at *;rw[<- h2,<- h1];rw[<- PQ,Q1]
def dv_abs(a b:Int):(dv a b).natAbs=Int.gcd a b:=by unfold dv;split <;> simp
def low(hb:b≠0):Int.gcd (T a b) (B a b)=1:=by
 have h1:=T_mul (a:=a) hb;have h2:=B_mul (a:=a) hb;have hg:=ui (a:=a) hb;have e1:a.natAbs=(T a b).natAbs*Int.gcd a b:=by rw[<- dv_abs a b,<- PJ,h1]
 have e2:b.natAbs=(B a b).natAbs*Int.gcd a b:=by rw[<- dv_abs a b,<- PJ,h2]
 have e3:Int.gcd a b=Nat.gcd ((T a b).natAbs*Int.gcd a b) ((B a b).natAbs*Int.gcd a b):=by rw[<- e1,<- e2];rfl
 rw[Nat.gcd_mul_right] at e3;show Nat.gcd (T a b).natAbs (B a b).natAbs=1;generalize Nat.gcd (T a b).natAbs (B a b).natAbs=k at *;generalize Int.gcd a b=g at *;have:(1:Nat)*g=k*g:=by omega
 exact (Nat.eq_of_mul_eq_mul_right hg this).symm
def uniq(hy:0<y)(hy':0<y')(h:Int.gcd x y=1)(h':Int.gcd x' y'=1)(e:x*y'=x'*y):x=x'/\y=y':=by
 have c1:Nat.Coprime y.natAbs x.natAbs:=by rw[Nat.coprime_comm];exact h
 have c2:Nat.Coprime y'.natAbs x'.natAbs:=by rw[Nat.coprime_comm];exact h'
 have e1:x.natAbs*y'.natAbs=x'.natAbs*y.natAbs:=by rw[<- PJ,<- PJ,e]
 have d1:y.natAbs ∣ y'.natAbs:=c1.dvd_of_dvd_mul_left (by rw[e1];exact Nat.dvd_mul_left _ _);have d2:y'.natAbs ∣ y.natAbs:=c2.dvd_of_dvd_mul_left (by rw[<- e1];exact Nat.dvd_mul_left _ _);have ey:y.natAbs=y'.natAbs:=Nat.dvd_antisymm d1 d2;have ey':y=y':=by omega
 subst ey';exact⟨QQ (by omega) e,rfl⟩
def same(hb:b≠0)(hd:d≠0)(e:a*d=c*b):T a b=T c d/\B a b=B c d:=by
 refine uniq (B_pos hb) (B_pos hd) (low hb) (low hd) ?_;have h1:=cross (a:=a) hb;have h2:=cross (a:=c) hd;have hbd:b*d≠0:=QB hb hd;refine QQ hbd ?_
 calc T a b*B c d*(b*d)=(T a b*b)*(B c d*d):=by rw[PQ,QF (B c d) b d,<- PQ]
  _=(a*B a b)*(B c d*d):=by rw[h1]
  _=(a*d)*(B c d*B a b):=by rw[PQ a,PQ a,QF (B a b),QF d,Q0 (B a b) d]
  _=(c*b)*(B c d*B a b):=by rw[e]
  _=(c*B c d)*(B a b*b):=by rw[PQ c,PQ c,QF b,Q0 b (B a b)]
  _=(T c d*d)*(B a b*b):=by rw[<- h2]
  _=T c d*B a b*(b*d):=by rw[PQ,PQ,QF d,Q0 d b]
def self(hb:0<b)(h:Int.gcd a b=1):T a b=a/\B a b=b:=
 uniq (B_pos (by omega)) hb (low (by omega)) h (cross (by omega))
def euc(m n:Nat):Nat.gcd n (m % n)=Nat.gcd m n:=by rw[Nat.gcd_comm,<- Nat.gcd_rec,Nat.gcd_comm]
end Fr
set_option maxHeartbeats 1000000
namespace L2
open PySem PySem.Spec PyProof.Rows
def Inv.turnedL{X:Cx}{pins:Sb}{σ:St}{H:Hp}{s:Shared}{h':Heap}{t':Nat}{ch:List Addr}(I:Inv X pins σ H s)(k:∀b o,b∉ch->s.heap.get? b=some o->h'.get? b=some o)(hf:∀b∈ch,FpOk X pins H b):Inv X pins σ H { s with heap:=h',toks:=t' }:=by
 have away:∀b u,H b=some u->b∉ch:=λb u e z=>by have:=(hf b z).1;rw[e] at this;cases this
 refine I.step (g':=s.gens) (d':=s.drawn) (ch:=ch) (λb hb=>⟨(hf b hb).2.2.2.1,(hf b hb).2.1,(hf b hb).2.2.2.2.1,(hf b hb).2.2.2.2.2⟩) (λb o _ _ hc e _=>k b o hc e) (λb o _ _ hc e _=>⟨o.slots,k b o hc e⟩) (λ_ _ _ _ n=>n)
  (λb o hc e=>⟨o,k b o hc e⟩) (λ_ _ e=>e) (λ_ _ _ e=>e) (λb ps e=>⟨#[],by rw[e];simp⟩) (λm hm=>?_) (λb u e=>?_) I.bare
 .obtain⟨o,es,ep,ho,r⟩:=hm;exact⟨o,es,ep,k _ o (λz=>(hf _ z).2.1 rfl) ho,r⟩
 .refine (I.hok b u e).stay (λc v hc q=>k c v ?_ q) (λ_ q=>q) λ_ _ q=>q;rcases hc with z |z
  .rw[z];exact away b u e
  .exact away c _ z
def FpOk.up(f:FpOk X pins H b)(hn:b≠p):FpOk X pins (upd H p o) b:=⟨by rw[ay hn];exact f.1,f.2⟩
def xj(hj:s.heap.IsTupleIter j t n)(ht:s.heap.IsTuple t its)(hv:its[n]?=some v)
 (k:∀h',h'.IsTupleIter j t (n+1)->Heap.SameBut j s.heap h'->Q v { s with heap:=h' }):wpAny (model prog w) A (Builtin.SmallTypes.nextOf (.ref j)) Q E s:=by
 obtain⟨oj,ej,cj,dj⟩:=id hj;obtain⟨ot,et,_,m,dt⟩:=ht;unfold Builtin.SmallTypes.nextOf;refine j_ (Qa (name:=Str.ofString "__next__") hj.typeIs Qq (Qw Qq hj.typeIs F.entry_tuple_iterator_next ?_ (F.args_tuple_iterator_next_1 _)));show wpAny _ _ (field (.ref j) 0 >>= _) _ _ s;refine j_ (Pz ej dj (x:=.ref t) rfl ?_);show wpAny _ _ (if (Value.ref t==Value.none)=true then _ else _) _ _ s;rw[if_neg (show ¬ ((Value.ref t==Value.none)=true) from x_)];show wpAny _ _ (field (.ref j) 1 >>= _) _ _ s;refine j_ (Pz ej dj (x:=.int n 0) rfl ?_);show wpAny _ _ (seqItems? (.ref t) >>= _) _ _ s;refine j_ (Qf et dt ?_);simp only[Pu,hv];refine j_ (wpAny_setField ej dj (by simp) (u_ ⟨v,rfl,u_ (k _ ?_ (Px ..))⟩));exact⟨_,Heap.get?_update_self _ ej (Obj.isFreed_of_fields (Obj.data_mapFields dj _)),(Obj.cls_mapFields ..).trans cj,by rw[Obj.data_mapFields dj];simp [rawInt]⟩
def oT(hh:A.handled=none)(hj:s.heap.IsTupleIter j t n)(ht:s.heap.IsTuple t its)(hv:its[n]?=none)
 (k:∀h' e,Heap.ExtBut j s.heap h'->(∃o,h'.get? e=some o/\o.cls=.type "StopIteration")->E (.ref e) { s with heap:=h' }):wpAny (model prog w) A (Builtin.SmallTypes.nextOf (.ref j)) Q E s:=by
 obtain⟨oj,ej,cj,dj⟩:=id hj;obtain⟨ot,et,_,m,dt⟩:=ht;unfold Builtin.SmallTypes.nextOf;refine j_ (Qa (name:=Str.ofString "__next__") hj.typeIs Qq (Qw Qq hj.typeIs F.entry_tuple_iterator_next ?_ (F.args_tuple_iterator_next_1 _)));show wpAny _ _ (field (.ref j) 0 >>= _) _ _ s;refine j_ (Pz ej dj (x:=.ref t) rfl ?_);show wpAny _ _ (if (Value.ref t==Value.none)=true then _ else _) _ _ s;rw[if_neg (show ¬ ((Value.ref t==Value.none)=true) from x_)];show wpAny _ _ (field (.ref j) 1 >>= _) _ _ s;refine j_ (Pz ej dj (x:=.int n 0) rfl ?_);show wpAny _ _ (seqItems? (.ref t) >>= _) _ _ s;refine j_ (Qf et dt ?_);simp only[Pu,hv];refine j_ (wpAny_rule (j_ (wpAny_setField ej dj (by simp) ?_)));show wpAny _ _ (newExc (.type "StopIteration") [] >>= _) _ _ _;refine j_ ?_;simp only[newExc,newTuple];refine j_ (PY ?_ (by size_fits));refine j_ (m:=firstArgMember _ _) (wpAny_of_eq (a:=Value.none) (by first |rfl |(simp only[firstArgMember];rfl)) ?_);refine PY ?_ (by size_fits);simp only[raiseNew];refine j_ (wpAny_handled ?_);first |rw[show A.in1.handled=none from hh] |rw[hh]
 refine j_ (u_ (wpAny_throw ?_));exact k _ _ (((Px ..).extBut.push _).push _) ⟨_,C_ _ rfl,rfl⟩
def SqB(K:W.Frag)(b:Bool)(H:Hp)(a:Addr)(xs:List V):Prop:=match b with
 |true=>SqL K H a xs
 |false=>SqT K H a xs
def ItB(b:Bool)(h:Heap)(j a:Addr)(i:Nat):Prop:=match b with
 |true=>h.IsListIter j a i
 |false=>h.IsTupleIter j a i
def SqB.inj(I:Inv X pins σ H s)(x:SqB X.K b H a xs)(y:SqB X.K b H a ys):xs=ys:=by
 cases b with
 |true=>exact I.list_inj x y
 |false=>exact I.tuple_inj x y
noncomputable def IteE(K:W.Frag)(b:Bool)(a:Addr):It:=
 ⟨λi H=>∃xs x,SqB K b H a xs/\xs[i]?=some x,λi H x H'=>∃p u,x=.ref p/\H p=none/\H'=upd H p (.tup [.int (i:Nat),u])/\∀xs,SqB K b H a xs->xs[i]?=some u,λi H=>∃xs,SqB K b H a xs/\xs.length=i⟩
def kC(z:ItB b h j a i):∃o,h.get? j=some o/\(∀v,o.data ≠ .cell v)/\o.cls=.type (if b then "list_iterator" else "tuple_iterator"):=by
 cases b with
 |true=>obtain⟨o,e,c,d⟩:=z;exact⟨o,e,(λv y=>by rw[d] at y;cases y),c⟩
 |false=>obtain⟨o,e,c,d⟩:=z;exact⟨o,e,(λv y=>by rw[d] at y;cases y),c⟩
def bH(z:ItB b h j a i)(k:∀o,h.get? j=some o->h'.get? j=some o):ItB b h' j a i:=by
 cases b with
 |true=>obtain⟨o,e,r⟩:=z;exact⟨o,k o e,r⟩
 |false=>obtain⟨o,e,r⟩:=z;exact⟨o,k o e,r⟩
def LsB(b:Bool)(h:Heap)(a:Addr)(its:Array Value):Prop:=match b with
 |true=>h.IsList a its
 |false=>h.IsTuple a its
def LsB.keep(z:LsB b h a its)(k:∀o,h.get? a=some o->h'.get? a=some o):LsB b h' a its:=by cases b <;> (obtain⟨o,e,r⟩:=z;exact⟨o,k o e,r⟩)
def xB(hj:ItB b s.heap j a n)(ht:LsB b s.heap a its)(hv:its[n]?=some v)
 (k:∀h',ItB b h' j a (n+1)->Heap.SameBut j s.heap h'->Q v { s with heap:=h' }):wpAny (model prog w) A (Builtin.SmallTypes.nextOf (.ref j)) Q E s:=by
 cases b with
 |true=>exact wpAny_nextOf_list_item hj ht hv k
 |false=>exact xj hj ht hv k
def pK(hh:A.handled=none)(hj:ItB b s.heap j a n)(ht:LsB b s.heap a its)(hv:its[n]?=none)
 (k:∀h' e,Heap.ExtBut j s.heap h'->(∃o,h'.get? e=some o/\o.cls=.type "StopIteration")->E (.ref e) { s with heap:=h' }):wpAny (model prog w) A (Builtin.SmallTypes.nextOf (.ref j)) Q E s:=by
 cases b with
 |true=>exact wpAny_nextOf_list_end hh hj ht hv k
 |false=>exact oT hh hj ht hv k
section
variable{prog:Program}{w:World}{A:Around}{E:Sd}{s:Shared}{b1 b2:Bool}{z p q j1 j2 a1 a2:Addr}{n:Nat}{xs ys:Array Value}{x y u v:Value}
def zipN{Q:Sd}(D:ZipApart z p q j1 j2 a1 a2)(hz:IsZip s.heap z p q .none)(hp:IsPair s.heap p (.ref j1) (.ref j2))(hq:IsPair s.heap q u v)
 (i1:ItB b1 s.heap j1 a1 n) (i2:ItB b2 s.heap j2 a2 n) (l1:LsB b1 s.heap a1 xs) (l2:LsB b2 s.heap a2 ys) (ex:xs[n]?=some x) (ey:ys[n]?=some y)
 (k:∀h',IsZip h' z p q (rawInt s.heap.objs.size)->IsPair h' q x y->ItB b1 h' j1 a1 (n+1)->ItB b2 h' j2 a2 (n+1)->IsPair h' s.heap.objs.size x y->(∀c o,c≠z->c≠q->c≠j1->c≠j2->s.heap.get? c=some o->h'.get? c=some o)->Q (.ref s.heap.objs.size) { s with heap:=h' }):
 wpAny (model prog w) A (Builtin.«zip.__next__» ⟨[.ref z],[]⟩) (λii s'=>∃v,ii=.done (.ret v)/\Q v s') E s:=by
 show wpAny _ _ (field (.ref z) 2 >>= _) _ _ _;refine j_ (Pz hz rfl (x:=.bool false) rfl ?_);show wpAny _ _ (field (.ref z) 3 >>= _) _ _ _;refine j_ (Pz hz rfl (x:=.ref p) rfl ?_);refine j_ (Qf hp rfl ?_);show wpAny _ _ (Builtin.SmallTypes.ownedTupleIsFree (.ref z) >>= _) _ _ _;refine j_ ?_;unfold Builtin.SmallTypes.ownedTupleIsFree;refine j_ (Pz hz rfl (x:=.none) rfl (u_ ?_));simp only[Qu];refine j_ (wpAny_rule ?_);refine j_ (Pz hz rfl (x:=.ref q) rfl ?_);refine j_ (Ql hz (by simp) λg1 (y1:IsZip g1 z p q .ellipsis) t1=>?_);refine j_ ?_;simp only[List.zipIdx_cons,List.zipIdx_nil,List.forIn_cons,List.forIn_nil];refine j_ (j_ (RQ ?_));show wpAny _ _ (Builtin.SmallTypes.nextOf (.ref j1) >>= _) _ _ _;refine j_ (xB (bH i1 λo e=>t1.extBut _ _ D.i1z e) (l1.keep λo e=>t1.extBut _ _ D.l1z e) ex λg2 m1 t2=>u_ ?_);have q2:IsPair g2 q u v:=t2.extBut _ _ D.TOi1 (t1.extBut _ _ D.TOz hq);refine j_ (Qf q2 rfl ?_);refine j_ (RL q2 λg3 (q3:IsPair g3 q x v) t3=>?_);refine j_ (wpAny_letGo (u_ ?_));refine j_ (j_ (RQ ?_));show wpAny _ _ (Builtin.SmallTypes.nextOf (.ref j2) >>= _) _ _ _;refine j_ (xB (bH i2 λo e=>t3.extBut _ _ D.TOi2.symm (t2.extBut _ _ D.i12.symm (t1.extBut _ _ D.i2z e))) (l2.keep λo e=>t3.extBut _ _ D.l2TO (t2.extBut _ _ D.l2i1 (t1.extBut _ _ D.l2z e))) ey λg4 m2 t4=>u_ ?_);have q4:IsPair g4 q x v:=t4.extBut _ _ D.TOi2 q3;refine j_ (Qf q4 rfl ?_);refine j_ (RL q4 λg5 (q5:IsPair g5 q x y) t5=>?_);refine j_ (wpAny_letGo (u_ (u_ ?_)));refine j_ (Qf q5 rfl ?_);refine j_ (wpAny_newTuple ?_);have sz:g5.objs.size=s.heap.objs.size:=by rw[t5.1,t4.1,t3.1,t2.1,t1.1]
 have y5:IsZip g5 z p q .ellipsis:=t5.extBut _ _ D.TOz.symm (t4.extBut _ _ D.i2z.symm (t3.extBut _ _ D.TOz.symm (t2.extBut _ _ D.i1z.symm y1)));have all5:∀c o,c≠z->c≠q->c≠j1->c≠j2->s.heap.get? c=some o->g5.get? c=some o:=λc o c1 c2 c3 c4 e=>t5.extBut _ _ c2 (t4.extBut _ _ c4 (t3.extBut _ _ c2 (t2.extBut _ _ c3 (t1.extBut _ _ c1 e))));have n1:ItB b1 g5 j1 a1 (n+1):=bH m1 λo e=>t5.extBut _ _ D.TOi1.symm (t4.extBut _ _ D.i12 (t3.extBut _ _ D.TOi1.symm e));have n2:ItB b2 g5 j2 a2 (n+1):=bH m2 λo e=>t5.extBut _ _ D.TOi2.symm e;have zl:z<g5.objs.size:=v_ y5;show wpAny _ _ (Builtin.SmallTypes.ownedTupleHandOut (.ref z) (.ref g5.objs.size) >>= _) _ _ _;refine j_ ?_;unfold Builtin.SmallTypes.ownedTupleHandOut;have y6:IsZip (g5.push { cls:=.type "tuple",data:=.seq #[x,y] }) z p q .ellipsis:=l_ _ y5;refine j_ (Ql y6 (by simp) λg7 (y7:IsZip g7 z p q (rawInt g5.objs.size)) t7=>?_);refine Ql y7 (by simp) λg8 (y8:IsZip g8 z p q (rawInt g5.objs.size)) t8=>?_;have up:∀c o,c≠z->g5.get? c=some o->g8.get? c=some o:=λc o c1 e=>t8.extBut _ _ c1 (t7.extBut _ _ c1 (l_ _ e));have w8:IsPair g8 g5.objs.size x y:=t8.extBut _ _ (QK zl) (t7.extBut _ _ (QK zl) (C_ _ rfl));rw[sz] at y8 w8;refine u_ ⟨_,rfl,?_⟩;show Q (.ref g5.objs.size) _;rw[sz];exact k g8 y8 (up _ _ D.TOz q5) (bH n1 λo e=>up _ o D.i1z e) (bH n2 λo e=>up _ o D.i2z e) w8 λc o c1 c2 c3 c4 e=>up c o c1 (all5 c o c1 c2 c3 c4 e)
def Cs(hh:A.handled=none)(D:ZipApart z p q j1 j2 a1 a2)(hz:IsZip s.heap z p q .none)(hp:IsPair s.heap p (.ref j1) (.ref j2))(hq:IsPair s.heap q u v)
 (i1:ItB b1 s.heap j1 a1 n) (i2:ItB b2 s.heap j2 a2 n) (l1:LsB b1 s.heap a1 xs) (l2:LsB b2 s.heap a2 ys) (en:xs[n]?=none\/ys[n]?=none)
 (k:∀h' e,(∀c o,c≠z->c≠q->c≠j1->c≠j2->s.heap.get? c=some o->h'.get? c=some o)->(∃o,h'.get? e=some o/\o.cls=.type "StopIteration")->E (.ref e) { s with heap:=h' }):wpAny (model prog w) A (Builtin.«zip.__next__» ⟨[.ref z],[]⟩) Q E s:=by
 show wpAny _ _ (field (.ref z) 2 >>= _) _ _ _;refine j_ (Pz hz rfl (x:=.bool false) rfl ?_);show wpAny _ _ (field (.ref z) 3 >>= _) _ _ _;refine j_ (Pz hz rfl (x:=.ref p) rfl ?_);refine j_ (Qf hp rfl ?_);show wpAny _ _ (Builtin.SmallTypes.ownedTupleIsFree (.ref z) >>= _) _ _ _;refine j_ ?_;unfold Builtin.SmallTypes.ownedTupleIsFree;refine j_ (Pz hz rfl (x:=.none) rfl (u_ ?_));simp only[Qu];refine j_ (wpAny_rule ?_);refine j_ (Pz hz rfl (x:=.ref q) rfl ?_);refine j_ (Ql hz (by simp) λg1 (y1:IsZip g1 z p q .ellipsis) t1=>?_);refine j_ ?_;simp only[List.zipIdx_cons,List.zipIdx_nil,List.forIn_cons,List.forIn_nil];refine j_ (j_ (RQ ?_));show wpAny _ _ (Builtin.SmallTypes.nextOf (.ref j1) >>= _) _ _ _;cases ex:xs[n]? with
 |
  none=>
  refine j_ (pK hh (bH i1 λo e=>t1.extBut _ _ D.i1z e) (l1.keep λo e=>t1.extBut _ _ D.l1z e) ex λg2 e t2 ⟨oe,he,ce⟩=>?_);have y2:IsZip g2 z p q .ellipsis:=t2 _ _ D.i1z.symm y1;have ez:e≠z:=λw=>by subst w;rw[y2] at he;cases he;simp at ce
  exact Ql y2 (by simp) λg3 _ t3=>k g3 e (λc o c1 _ c3 _ w=>t3.extBut _ _ c1 (t2 _ _ c3 (t1.extBut _ _ c1 w))) ⟨oe,t3.extBut _ _ ez he,ce⟩
 |
  some x=>
  have ey:ys[n]?=none:=en.resolve_left λw=>by rw[ex] at w;cases w
  refine j_ (xB (bH i1 λo e=>t1.extBut _ _ D.i1z e) (l1.keep λo e=>t1.extBut _ _ D.l1z e) ex λg2 m1 t2=>u_ ?_);have q2:IsPair g2 q u v:=t2.extBut _ _ D.TOi1 (t1.extBut _ _ D.TOz hq);refine j_ (Qf q2 rfl ?_);refine j_ (RL q2 λg3 q3 t3=>?_);refine j_ (wpAny_letGo (u_ ?_));refine j_ (j_ (RQ ?_));show wpAny _ _ (Builtin.SmallTypes.nextOf (.ref j2) >>= _) _ _ _;refine j_ (pK hh (bH i2 λo e=>t3.extBut _ _ D.TOi2.symm (t2.extBut _ _ D.i12.symm (t1.extBut _ _ D.i2z e))) (l2.keep λo e=>t3.extBut _ _ D.l2TO (t2.extBut _ _ D.l2i1 (t1.extBut _ _ D.l2z e))) ey λg4 e t4 ⟨oe,he,ce⟩=>?_);have y4:IsZip g4 z p q .ellipsis:=t4 _ _ D.i2z.symm (t3.extBut _ _ D.TOz.symm (t2.extBut _ _ D.i1z.symm y1));have ez:e≠z:=λw=>by subst w;rw[y4] at he;cases he;simp at ce
  exact Ql y4 (by simp) λg5 _ t5=>k g5 e (λc o c1 c2 c3 c4 w=>t5.extBut _ _ c1 (t4 _ _ c4 (t3.extBut _ _ c2 (t2.extBut _ _ c3 (t1.extBut _ _ c1 w))))) ⟨oe,t5.extBut _ _ ez he,ce⟩
end
def Cj(b:Bool):String:=if b then "list_iterator" else "tuple_iterator"
def wc(h:LsB b s.heap a its)(k:Q (.ref s.heap.objs.size) { s with heap:=s.heap.push { cls:=.type (Cj b),data:=.fields #[.ref a,.int 0 0] } }):wpAny (model prog w) A (pyIter (.ref a)) Q E s:=by
 cases b with
 |true=>exact wpAny_pyIter_list h k
 |false=>exact wpAny_pyIter_tuple h k
abbrev zp1(h:Heap)(b:Bool)(a:Addr):Heap:=h.push { cls:=.type (Cj b),data:=.fields #[.ref a,.int 0 0] }
abbrev zp2(h:Heap)(b c:Bool)(a d:Addr):Heap:=zp1 (zp1 h b a) c d
abbrev zp3(h:Heap)(b c:Bool)(a d:Addr):Heap:=(zp2 h b c a d).push { cls:=.type "tuple",data:=.seq #[.ref h.objs.size,.ref (zp1 h b a).objs.size] }
abbrev zp4(h:Heap)(b c:Bool)(a d:Addr):Heap:=(zp3 h b c a d).push { cls:=.type "tuple",data:=.seq #[.none,.none] }
abbrev zp5(h:Heap)(b c:Bool)(a d:Addr):Heap:=(zp4 h b c a d).push { cls:=.type "zip",data:=.fields #[.none,.bool false,.bool false,.ref (zp2 h b c a d).objs.size,.ref (zp3 h b c a d).objs.size] }
def Cn(b c:Bool)(a d:Addr)(xs ys:Array Value):Meets (Builtin.«zip.__new__» ⟨[.type "zip",.ref a,.ref d],[]⟩) (λ_ R s=>LsB b s.heap a xs/\LsB c s.heap d ys/\R (.ok (.ret (.ref (zp4 s.heap b c a d).objs.size))) { s with heap:=zp5 s.heap b c a d }):=
 .of_wp λprog w A R s h=>by
  obtain⟨hp,g,dr,tk,os⟩:=s;obtain⟨la,ld,h⟩:=h;have em:=sub_zip;have L1:LsB b (Shared.heap ⟨hp,g,dr,tk,os⟩) a xs:=la;have L2':LsB c (Shared.heap ⟨hp.push { cls:=.type (Cj b),data:=.fields #[.ref a,.int 0 0] },g,dr,tk,os⟩) d ys:=ld.keep λo e=>l_ _ e
  wp_walk using wc L1,wc L2'
  exact⟨_,rfl,h⟩
def zm(la:LsB b s.heap a xs)(ld:LsB c s.heap d ys)
 (k:∀h',IsZip h' (s.heap.objs.size+4) (s.heap.objs.size+2) (s.heap.objs.size+3) .none->IsPair h' (s.heap.objs.size+2) (.ref s.heap.objs.size) (.ref (s.heap.objs.size+1))->IsPair h' (s.heap.objs.size+3) .none .none->
  ItB b h' s.heap.objs.size a 0->ItB c h' (s.heap.objs.size+1) d 0->(∀c o,s.heap.get? c=some o->h'.get? c=some o)->Q (.ref (s.heap.objs.size+4)) { s with heap:=h' }):wpAny (model prog w) A (call (.type "zip") [.ref a,.ref d]) Q E s:=by
 refine callType_new F.called_zip (by decide) (F.typeCall_zip_2 _ _) (F.newCall_zip_2 _ _) (λobj=>F.args_object_init_3 obj _ _) F.entry_zip_new (Cn b c a d xs ys) ⟨la,ld,?_⟩;have n1:(zp1 s.heap b a).objs.size=s.heap.objs.size+1:=Q5 ..;have n2:(zp2 s.heap b c a d).objs.size=s.heap.objs.size+2:=by rw[Q5,n1]
 have n3:(zp3 s.heap b c a d).objs.size=s.heap.objs.size+3:=by rw[Q5,n2]
 have n4:(zp4 s.heap b c a d).objs.size=s.heap.objs.size+4:=by rw[Q5,n3]
 have up:=λ{h:Heap}{x:Addr}{o:Obj} (o':Obj) (e:h.get? x=some o)=>l_ o' e;have e5:(zp5 s.heap b c a d).get? (zp4 s.heap b c a d).objs.size=some _:=C_ _ rfl;have e4:(zp5 s.heap b c a d).get? (zp3 s.heap b c a d).objs.size=some _:=up _ (C_ _ rfl);have e3:(zp5 s.heap b c a d).get? (zp2 s.heap b c a d).objs.size=some _:=up _ (up _ (C_ _ rfl));have e2:(zp5 s.heap b c a d).get? (zp1 s.heap b a).objs.size=some _:=up _ (up _ (up _ (C_ _ rfl)));have e1:(zp5 s.heap b c a d).get? s.heap.objs.size=some _:=up _ (up _ (up _ (up _ (C_ _ rfl))));show _/\_;rw[n2,n3,n4] at e5;rw[n1,n2] at e3;rw[n3] at e4;rw[n1] at e2;rw[n4];have i1:ItB b (zp5 s.heap b c a d) s.heap.objs.size a 0:=by cases b <;> exact⟨_,e1,rfl,rfl⟩
 have i2:ItB c (zp5 s.heap b c a d) (s.heap.objs.size+1) d 0:=by cases c <;> exact⟨_,e2,rfl,rfl⟩
 exact⟨⟨_,e5,rfl⟩,k _ e5 e3 e4 i1 i2 λx o e=>up _ (up _ (up _ (up _ (up _ e))))⟩
def ItZ(K:W.Frag)(b c:Bool)(a d:Addr):It:=
 ⟨λi H=>∃xs ys x y,SqB K b H a xs/\SqB K c H d ys/\xs[i]?=some x/\ys[i]?=some y,
  λi H x H'=>∃p u v,x=.ref p/\H p=none/\H'=upd H p (.tup [u,v])/\(∀xs,SqB K b H a xs->xs[i]?=some u)/\∀ys,SqB K c H d ys->ys[i]?=some v,
  λi H=>∃xs ys,SqB K b H a xs/\SqB K c H d ys/\(xs[i]?=none\/ys[i]?=none)⟩
def iQ(I:Inv X pins σ H s)(hq:SqB X.K b H a xs):∃its:List Value,Vals xs its/\LsB b s.heap a its.toArray:=by
 cases b with
 |true=>obtain⟨its,rv,p,_⟩:=I.list hq;exact⟨its,rv,p.isList⟩
 |false=>obtain⟨its,rv,p,_⟩:=I.tuple hq;exact⟨its,rv,p⟩
def Dx{P:Program}{w:World}{K:W.Frag}{elts:List Expr}{x1:Nat}{tp:Pos}(b c:Bool)(a d z p q j1 j2:Addr)(D:ZipApart z p q j1 j2 a d):
 Turn P w K (.Tuple elts x1 tp) (ItZ K b c a d) [z,p,q,j1,j2] z (λi h=>IsZip h z p q .none/\IsPair h p (.ref j1) (.ref j2)/\(∃u v,IsPair h q u v)/\ItB b h j1 a i/\ItB c h j2 d i) where
 mem:=by simp
 obj:=λi h st e he=>by
  obtain⟨s1,s2,⟨u,v,s3⟩,s4,s5⟩:=st;obtain⟨o4,k4,l4,_⟩:=kC s4;obtain⟨o5,k5,l5,_⟩:=kC s5;simp only[H_,List.not_mem_nil,or_false] at he;rcases he with rfl |rfl |rfl |rfl |rfl
  .exact⟨_,s1,λv y=>by cases y⟩
  .exact⟨_,s2,λv y=>by cases y⟩
  .exact⟨_,s3,λv y=>by cases y⟩
  .exact⟨o4,k4,l4⟩
  .exact⟨o5,k5,l5⟩
 keep:=λi h h' st k=>by obtain⟨s1,s2,⟨u,v,s3⟩,s4,s5⟩:=st;exact⟨k z (by simp) _ s1,k p (by simp) _ s2,⟨u,v,k q (by simp) _ s3⟩,bH s4 λo e=>k j1 (by simp) o e,bH s5 λo e=>k j2 (by simp) o e⟩
 item:=
  by
  intro X hP hw hK hc i pins s σ H E I hf st hg;subst hP hw hK;obtain⟨xs,ys,x,y,qx,qy,ex,ey⟩:=hg;obtain⟨s1,s2,⟨u,v,s3⟩,s4,s5⟩:=st;obtain⟨ix,rx,lx⟩:=iQ I qx;obtain⟨iy,ry,ly⟩:=iQ I qy;obtain⟨ux,hux,rux⟩:=rx.get ex;obtain⟨uy,huy,ruy⟩:=ry.get ey;have hTy:s.TypeIs (.ref z) "zip":=⟨_,s1,rfl⟩;have zl:=v_ s1;have pl:=v_ s2;have ql:=v_ s3;obtain⟨o4,k4,_,_⟩:=kC s4;obtain⟨o5,k5,_,_⟩:=kC s5;have j1l:=v_ k4;have j2l:=v_ k5;unfold pyNext;refine j_ (Rj (Qa (name:=Str.ofString "__next__") hTy Rv (Qw Rv hTy F.entry_zip_next (zipN D s1 s2 s3 s4 s5 lx ly (by simpa using hux) (by simpa using huy) λh' y1 y3 y4 y5 yT hk=>u_ ?_) (F.args_zip_next_1 _))));refine⟨_,rfl,wpAny_letOwnedTupleGo_zip (s:={ s with heap:=h' }) y1 λh2 z2 sb=>?_⟩;have sb':Heap.SameBut z h' h2:=sb;have hT:H s.heap.objs.size=none:=I.hok.fresh (o_ _);have I1:Inv X pins σ (upd H s.heap.objs.size (.tup [x,y])) { s with heap:=s.heap.push { cls:=.type "tuple",data:=.seq #[ux,uy] },toks:=s.toks }:=
   I.laid (t':=s.toks) (λc o q=>l_ _ q) (o_ _) ⟨by show 2<=sizeLine;decide,[ux,uy],.cons rux (.cons ruy .nil),⟨_,C_ _ rfl,rfl,_,rfl⟩⟩
  have fp':∀e∈[z,p,q,j1,j2],FpOk X pins (upd H s.heap.objs.size (.tup [x,y])) e:=λe he=>by
   have:=hf e he
   simp only[H_,List.not_mem_nil,or_false] at he;rcases he with rfl |rfl |rfl |rfl |rfl
   .exact this.up (J_ zl)
   .exact this.up (J_ pl)
   .exact this.up (J_ ql)
   .exact this.up (J_ j1l)
   .exact this.up (J_ j2l)
  have I2:Inv X pins σ (upd H s.heap.objs.size (.tup [x,y])) { s with heap:=h2,toks:=s.toks }:=
   Inv.turnedL (s:={ s with heap:=s.heap.push { cls:=.type "tuple",data:=.seq #[ux,uy] },toks:=s.toks }) (ch:=[z,p,q,j1,j2]) (t':=s.toks) I1 (λe o he qe=>by
    have c1:e≠z:=λw=>he (by simp [w]);have c2:e≠q:=λw=>he (by simp [w]);have c3:e≠j1:=λw=>he (by simp [w]);have c4:e≠j2:=λw=>he (by simp [w]);rw[sb'.2 e c1];have q':(s.heap.push { cls:=.type "tuple",data:=.seq #[ux,uy] }).get? e=some o:=qe;by_cases w:e=s.heap.objs.size
    .subst w;rw[C_ _ rfl] at q';cases q';exact yT
    .rw[Heap.get?_push_ne _ _ _ w] at q';exact hk e o c1 c2 c3 c4 q') fp'
  refine⟨.ref s.heap.objs.size,_,I2,rfl,⟨_,x,y,rfl,hT,rfl,λzs hz=>by rw[SqB.inj I hz qx];exact ex,λzs hz=>by rw[SqB.inj I hz qy];exact ey⟩,⟨z2,?_,⟨ux,uy,?_⟩,bH y4 λo e=>(sb'.2 j1 D.i1z).trans e,bH y5 λo e=>(sb'.2 j2 D.i2z).trans e⟩,λe he=>(fp' e he).1⟩
  .exact (sb'.2 p D.TIz).trans (hk p _ D.TIz D.TITO D.TIi1 D.TIi2 s2)
  .exact (sb'.2 q D.TOz).trans y3
 done:=by
  intro X hP hw hK hc i pins s σ H E I hf st hg;subst hP hw hK;obtain⟨xs,ys,qx,qy,en⟩:=hg;obtain⟨s1,s2,⟨u,v,s3⟩,s4,s5⟩:=st;obtain⟨ix,rx,lx⟩:=iQ I qx;obtain⟨iy,ry,ly⟩:=iQ I qy;have hTy:s.TypeIs (.ref z) "zip":=⟨_,s1,rfl⟩;have en':ix.toArray[i]?=none\/iy.toArray[i]?=none:=by
   rcases en with e |e
   .left;rw[P6] at e;simp;rw[<- rx.length];exact e
   .right;rw[P6] at e;simp;rw[<- ry.length];exact e
  unfold pyNext;refine j_ (Rj (Qa (name:=Str.ofString "__next__") hTy Rv (Qw Rv hTy F.entry_zip_next (Cs (I.ok.hd hc) D s1 s2 s3 s4 s5 lx ly en' λh' e hk ⟨o,ho,co⟩=>?_) (F.args_zip_next_1 _))));refine j_ (wpAny_isInstance (T:="StopIteration") (b:=true) ⟨o,ho,co⟩ isSubtype_stop (u_ ⟨rfl,?_⟩));exact Inv.turnedL (ch:=[z,p,q,j1,j2]) (t':=s.toks) I (λe o he qe=>hk e o (λw=>he (by simp [w])) (λw=>he (by simp [w])) (λw=>he (by simp [w])) (λw=>he (by simp [w])) qe) hf
 self:=λ_ _ _ _ _ st h=>wpAny_pyIter_zip st.1 h
def zA:bootBuiltins "zip"=some (.type "zip"):=by decide
def JZ(hg:Gl X "zip")(hm:X.mg "zip"=none)(ha:PA X [l,m] tl)(hs:starEach [l,m] X.env=[(false,eval l X.env),(false,eval m X.env)])(hs2:starEach [m] X.env=[(false,eval m X.env)]):
 PI X (.Tuple elts x1 tp) (.Call (.Name "zip" p) [l,m] [] pos) (λσ H R=>tl σ H λvs H1=>∃(b c:Bool) (a d:Addr) (xs ys:List V),vs=[.ref a,.ref d]/\SqB X.K b H1 a xs/\SqB X.K c H1 d ys/\R (ItZ X.K b c a d) H1):=by
 intro pins s σ H R I h;refine Call_ (f6 I hg hm zA (Qj (thn (ha pos pins s σ H _ I h) λus s1 ⟨vs,H1,I1,r1,q1⟩=>?_) (by rw[hs,hs2]) (by rw[hs2];rfl)));obtain⟨b,c,a,d,xs,ys,e,qx,qy,q⟩:=q1;subst e;cases r1 with
 |
  cons r rr=>
  cases rr with
  |
   cons r' rr=>
   cases rr;cases r;cases r';obtain⟨ix,rx,lx⟩:=iQ I1 qx;obtain⟨iy,ry,ly⟩:=iQ I1 qy;have la:a<s1.heap.objs.size:=by cases b <;> (obtain⟨o,e,_⟩:=lx;exact v_ e)
   have ld:d<s1.heap.objs.size:=by cases c <;> (obtain⟨o,e,_⟩:=ly;exact v_ e)
   refine zm lx ly λh' y1 y2 y3 y4 y5 hk=>wpAny_pyIter_zip y1 ⟨s1.heap.objs.size+4,[s1.heap.objs.size+4,s1.heap.objs.size+2,s1.heap.objs.size+3,s1.heap.objs.size,s1.heap.objs.size+1],_,_,H1,rfl,I1.kept (t':=s1.toks) λc o z=>hk c o z,Dx b c a d _ _ _ _ _ (W.ktu_apart _ _ _ la ld),⟨y1,y2,⟨_,_,y3⟩,y4,y5⟩,λe he=>?_,q⟩;have hge:s1.heap.objs.size<=e:=by
    simp only[H_,List.not_mem_nil,or_false] at he;rcases he with rfl |rfl |rfl |rfl |rfl
    .exact Ro _ _
    .exact Ro _ _
    .exact Ro _ _
    .exact o_ _
    .exact Ro _ _
   exact I1.fpOk hge (I1.hok.fresh hge)
inductive D where
 |non |bl (b:Bool) |int (i:Int) |str (x:Str) |ty (n:String) |glb (x:Str) |exc (x:Str) |tup (xs:List D) |ref (n:Nat) |kl (xs:List D)
 deriving Inhabited
inductive Ob where
 |lst (xs:List D) |fz (xs:List D) |set (xs:List Int) |dct (kvs:List (Key×D)) |any
 deriving Inhabited
abbrev AH:=List Ob
abbrev AE:=List (Option D)
inductive R(α:Type) where
 |ok (a:α) (h:AH) |exc (c:Str) (h:AH) |stuck
inductive SR where
 |nx (ae:AE) (h:AH) |rt (d:D) (h:AH) |bk (ae:AE) (h:AH) |ct (ae:AE) (h:AH) |exc (c:Str) (ae:AE) (h:AH) |stuck
abbrev ME:=AE->AH->R D
abbrev MT:=AE->AH->R Bool
abbrev MA:=AE->AH->R (List D)
abbrev MS:=AE->AH->SR
abbrev Fn:=List D->AH->R D
noncomputable def R.bind{α β:Type}(r:R α)(f:α->AH->R β):R β:=match r with
 |.ok a h=>f a h
 |.exc c h=>.exc c h
 |.stuck=>.stuck
section
variable(K:W.Frag)(mg:Sa)
mutual
inductive RelD(ρ:List Addr)(H:Hp):D->V->Prop where
 |non:RelD ρ H .non .non
 |bl (b:Bool):RelD ρ H (.bl b) (.bl b)
 |int (i:Int):RelD ρ H (.int i) (.int i)
 |str (x:Str):RelD ρ H (.str x) (.str x)
 |ty (n:String):RelD ρ H (.ty n) (.ty n)
 |glb {x:Str}{a:Addr} (m:mg x=some (.ref a)):RelD ρ H (.glb x) (.ref a)
 |exc {x:Str}{a C:Addr} (m:mg x=some (.ref C)) (e:H a=some (.ext (DF a C))):RelD ρ H (.exc x) (.ref a)
 |tup {p:Addr}{vs:List V}{ds:List D} (h:SqT K H p vs) (r:RelDs ρ H ds vs):RelD ρ H (.tup ds) (.ref p)
 |ref {n:Nat}{a:Addr} (e:ρ[n]?=some a):RelD ρ H (.ref n) (.ref a)
 |kl {a:Addr}{vs:List V}{ds:List D} (h:∃(o:Obj) (its:Array Value) (n:Nat),K.lookup a=some o/\o.cls=.type "list" /\ o.dict=none/\o.data=.seq its n/\its.size<=sizeLine/\Vals vs its.toList) (r:RelDs ρ H ds vs):RelD ρ H (.kl ds) (.ref a)
inductive RelDs(ρ:List Addr)(H:Hp):List D->List V->Prop where
 |nil:RelDs ρ H [] []
 |cons {d:D}{v:V}{ds:List D}{vs:List V} (r:RelD ρ H d v) (rr:RelDs ρ H ds vs):RelDs ρ H (d::ds) (v::vs)
end
structure Le(ρ:List Addr)(H:Hp)(ρ':List Addr)(H':Hp):Prop where
 pre:∀(n:Nat) (a:Addr),ρ[n]?=some a->ρ'[n]?=some a
 tup:∀b xs,H b=some (.tup xs)->H' b=some (.tup xs)
 frz:∀b o u,H b=some (.frz o u)->H' b=some (.frz o u)
 ext:∀b φ,H b=some (.ext φ)->H' b=some (.ext φ)
def ObR(ρ:List Addr)(H:Hp)(a:Addr):Ob->Prop
 |.lst ds=>∃vs,H a=some (.lst vs)/\RelDs K mg ρ H ds vs
 |.fz ds=>∃o vs,H a=some (.frz o (.lst vs))/\RelDs K mg ρ H ds vs
 |.set xs=>xs.Nodup/\H a=some (.set (λi=>decide (i∈xs)) xs.length)
 |.dct kvs=>∃ws,H a=some (.dK ws)/\ws.map (·.1)=kvs.map (·.1)/\RelDs K mg ρ H (kvs.map (·.2)) (ws.map (·.2))
 |.any=>∃o,H a=some o
def jo(c:Addr)(q:Str):Heap->Prop:=λh=>h.CodeRec (.ref c) q
noncomputable def lV:List Str:=["by_falling_weights", "least_around"]
def LamT(P:Addr)(q:Str):Prop:=∃(x:Str) (f:Addr) (oc:Value) (od:Option Addr) (fd:FuncData) (sl:Array (Option Value)) (c:Addr),x∈lV/\(∀y∈lV,y≠x->mg y=none)/\mg x=some (.ref f)/\K.lookup f=some ⟨oc,od,.func fd,sl⟩/\fd.code=.ref c/\W.codeHdIn K c P=true/\q=fd.qualname ++ ".<locals>." ++ "<lambda>"
def TbP(ρ:List Addr)(H:Hp)(P:Addr)(q:Str):Prop:=P∉ρ/\∃ps:Array Value,H P=some (.tbl ps)/\TriplesOk ps.toList/\∀pos cv,codeAmong pos ps.toList=some cv->∃c,cv=.ref c/\H c=some (.ext (jo c q))
def bmP(o:Obj):Prop:=o.cls=.type "module" /\ o.dict=some builtinsNs/\o.data=.plain
def BMok(H:Hp):Prop:=∃b o,mg "__builtins__"=some (.ref b)/\b≠builtinsNs/\b≠mainGlobals/\bmP o/\(K.lookup b=some o\/∃u,H b=some (.frz o u))
structure Wd(ρ:List Addr)(h:AH)(H:Hp):Prop where
 len:ρ.length=h.length
 nd:ρ.Nodup
 tb:∀P q,LamT K mg P q->TbP ρ H P q/\BMok K mg H
 ob:∀(n:Nat) (a:Addr) (o:Ob),ρ[n]?=some a->h[n]?=some o->ObR K mg ρ H a o
structure RelE(ρ:List Addr)(H:Hp)(ae:AE)(σ:St):Prop where
 len:ae.length=σ.length
 at_:∀(i:Nat) (d:D),ae[i]?=some (some d)->∃v,σ[i]?=some (some v)/\RelD K mg ρ H d v
def PostG{α:Type}(ρ:List Addr)(H:Hp)(E:XK)(k:α->AH->List Addr->Hp->Prop):R α->Prop
 |.ok a h=>∀ρ' H',Le ρ H ρ' H'->Wd K mg ρ' h H'->k a h ρ' H'
 |.exc c h=>∀ρ' H' C,Le ρ H ρ' H'->Wd K mg ρ' h H'->mg c=some (.ref C)->E (.ref C) none H'
 |.stuck=>False
abbrev cQ(ρ:List Addr)(H:Hp)(Q:VK)(E:XK)(r:R D):Prop:=PostG K mg ρ H E (λd _ ρ' H'=>∀v,RelD K mg ρ' H' d v->Q v H') r
abbrev Ee(ρ:List Addr)(H:Hp)(Q:Bool->Hp->Prop)(E:XK)(r:R Bool):Prop:=PostG K mg ρ H E (λb _ ρ' H'=>Q b H') r
abbrev Ei(ρ:List Addr)(H:Hp)(Q:List V->Hp->Prop)(E:XK)(r:R (List D)):Prop:=PostG K mg ρ H E (λd _ ρ' H'=>∀vs,RelDs K mg ρ' H' d vs->Q vs H') r
def PostS(ρ:List Addr)(H:Hp)(D:Ends)(ES:St->XK):SR->Prop
 |.nx ae h=>∀ρ' H' σ',Le ρ H ρ' H'->Wd K mg ρ' h H'->RelE K mg ρ' H' ae σ'->D.nx σ' H'
 |.bk ae h=>∀ρ' H' σ',Le ρ H ρ' H'->Wd K mg ρ' h H'->RelE K mg ρ' H' ae σ'->D.bk σ' H'
 |.ct ae h=>∀ρ' H' σ',Le ρ H ρ' H'->Wd K mg ρ' h H'->RelE K mg ρ' H' ae σ'->D.ct σ' H'
 |.rt d h=>∀ρ' H' v,Le ρ H ρ' H'->Wd K mg ρ' h H'->RelD K mg ρ' H' d v->D.rt v H'
 |.exc c ae h=>∀ρ' H' σ' C,Le ρ H ρ' H'->Wd K mg ρ' h H'->RelE K mg ρ' H' ae σ'->mg c=some (.ref C)->ES σ' (.ref C) none H'
 |.stuck=>False
def rdE(ES:St->XK)(F:ME):TE:=λσ H Q=>∃ρ h ae,Wd K mg ρ h H/\RelE K mg ρ H ae σ/\cQ K mg ρ H Q (ES σ) (F ae h)
def rdT(ES:St->XK)(F:MT):TT:=λσ H Q=>∃ρ h ae,Wd K mg ρ h H/\RelE K mg ρ H ae σ/\Ee K mg ρ H Q (ES σ) (F ae h)
def rdA(ES:St->XK)(F:MA):TA:=λσ H Q=>∃ρ h ae,Wd K mg ρ h H/\RelE K mg ρ H ae σ/\Ei K mg ρ H Q (ES σ) (F ae h)
def rdS(ES:St->XK)(F:MS):TS:=λD σ H=>∃ρ h ae,Wd K mg ρ h H/\RelE K mg ρ H ae σ/\PostS K mg ρ H D ES (F ae h)
def spD(n:Nat)(S:Fn):Sp:=λvs H Q E=>∃ρ h ds,Wd K mg ρ h H/\RelDs K mg ρ H ds vs/\ds.length=n/\cQ K mg ρ H Q E (S ds h)
end
def rdE.el{K:W.Frag}{mg:Sa}{ES:St->XK}{F:ME}{σ:St}{H:Hp}{Q:VK}{C:Prop}(q:rdE K mg ES F σ H Q)(k:∀ρ h ae,Wd K mg ρ h H->RelE K mg ρ H ae σ->cQ K mg ρ H Q (ES σ) (F ae h)->C):C:=by obtain⟨ρ,h,ae,w,re,p⟩:=q;exact k ρ h ae w re p
def rdT.el{K:W.Frag}{mg:Sa}{ES:St->XK}{F:MT}{σ:St}{H:Hp}{Q:Bool->Hp->Prop}{C:Prop}(q:rdT K mg ES F σ H Q)(k:∀ρ h ae,Wd K mg ρ h H->RelE K mg ρ H ae σ->Ee K mg ρ H Q (ES σ) (F ae h)->C):C:=by obtain⟨ρ,h,ae,w,re,p⟩:=q;exact k ρ h ae w re p
def rdA.el{K:W.Frag}{mg:Sa}{ES:St->XK}{F:MA}{σ:St}{H:Hp}{Q:List V->Hp->Prop}{C:Prop}(q:rdA K mg ES F σ H Q)(k:∀ρ h ae,Wd K mg ρ h H->RelE K mg ρ H ae σ->Ei K mg ρ H Q (ES σ) (F ae h)->C):C:=by obtain⟨ρ,h,ae,w,re,p⟩:=q;exact k ρ h ae w re p
def rdS.el{K:W.Frag}{mg:Sa}{ES:St->XK}{F:MS}{σ:St}{H:Hp}{De:Ends}{C:Prop}(q:rdS K mg ES F De σ H)(k:∀ρ h ae,Wd K mg ρ h H->RelE K mg ρ H ae σ->PostS K mg ρ H De ES (F ae h)->C):C:=by obtain⟨ρ,h,ae,w,re,p⟩:=q;exact k ρ h ae w re p
section
variable{K:W.Frag}{mg:Sa}{ρ ρ' ρ1:List Addr}{H H' H1:Hp}{h h':AH}{ae:AE}{σ:St}
def Le.refl:Le ρ H ρ H:=⟨λ_ _ e=>e,λ_ _ e=>e,λ_ _ _ e=>e,λ_ _ e=>e⟩
def Le.trans(a:Le ρ H ρ1 H1)(b:Le ρ1 H1 ρ' H'):Le ρ H ρ' H':=
 ⟨λn x e=>b.pre n x (a.pre n x e),λx y e=>b.tup x y (a.tup x y e),λx y z e=>b.frz x y z (a.frz x y z e),λx y e=>b.ext x y (a.ext x y e)⟩
def Le.sqT(l:Le ρ H ρ' H')(q:SqT K H a xs):SqT K H' a xs:=by
 rcases q with (q |⟨o,q⟩) |q
 .exact .inl (.inl (l.tup _ _ q))
 .exact .inl (.inr ⟨o,l.frz _ _ _ q⟩)
 .exact .inr q
def RelD.mono(l:Le ρ H ρ' H')(r:RelD K mg ρ H d v):RelD K mg ρ' H' d v:=
 RelD.rec (motive_1:=λd v _=>RelD K mg ρ' H' d v) (motive_2:=λds vs _=>RelDs K mg ρ' H' ds vs) .non (λb=>.bl b) (λi=>.int i) (λx=>.str x) (λn=>.ty n) (λm=>.glb m) (λm e=>.exc m (l.ext _ _ e)) (λh _ ih=>.tup (l.sqT h) ih) (λe=>.ref (l.pre _ _ e)) (λh _ ih=>.kl h ih) .nil (λ_ _ a b=>.cons a b) r
def RelDs.ind{M:List D->List V->Prop}(h0:M [] [])(h1:∀{d v ds vs},RelD K mg ρ H d v->RelDs K mg ρ H ds vs->M ds vs->M (d::ds) (v::vs)){ds:List D}{vs:List V}(r:RelDs K mg ρ H ds vs):M ds vs:=by
 induction ds generalizing vs with
 |nil=>cases r;exact h0
 |
  cons d ds ih=>
  cases r with
  |cons r rr=>exact h1 r rr (ih rr)
def RelDs.mono(l:Le ρ H ρ' H'){ds:List D}{vs:List V}(r:RelDs K mg ρ H ds vs):RelDs K mg ρ' H' ds vs:=r.ind .nil λr _ ih=>.cons (r.mono l) ih
def RelDs.len{ds:List D}{vs:List V}(r:RelDs K mg ρ H ds vs):ds.length=vs.length:=r.ind (M:=λds vs=>ds.length=vs.length) rfl λ_ _ ih=>PF (· + 1) ih
def RelDs.getD{ds:List D}{vs:List V}{i:Nat}{d:D}(r:RelDs K mg ρ H ds vs)(e:ds[i]?=some d):∃v,vs[i]?=some v/\RelD K mg ρ H d v:=
 r.ind (M:=λds vs=>∀i,ds[i]?=some d->∃v,vs[i]?=some v/\RelD K mg ρ H d v) (λ_ e=>by rw[List.getElem?_nil] at e;cases e) (λr _ ih i e=>match i,e with
  |0,e=>by cases e;exact⟨_,rfl,r⟩
  |i+1,e=>ih i e) i e
def RelDs.append{ds es:List D}{vs ws:List V}(r:RelDs K mg ρ H ds vs)(q:RelDs K mg ρ H es ws):RelDs K mg ρ H (ds++es) (vs++ws):=r.ind (M:=λds vs=>RelDs K mg ρ H (ds++es) (vs++ws)) q λr _ ih=>.cons r ih
def RelDs.take{ds:List D}{vs:List V}(n:Nat)(r:RelDs K mg ρ H ds vs):RelDs K mg ρ H (ds.take n) (vs.take n):=
 r.ind (M:=λds vs=>∀n:Nat,RelDs K mg ρ H (ds.take n) (vs.take n)) (λn=>by rw[Qz,Qz];exact .nil) (λr _ ih n=>by cases n with |zero=>exact .nil |succ n=>exact .cons r (ih n)) n
def RelDs.drop{ds:List D}{vs:List V}(n:Nat)(r:RelDs K mg ρ H ds vs):RelDs K mg ρ H (ds.drop n) (vs.drop n):=
 r.ind (M:=λds vs=>∀n:Nat,RelDs K mg ρ H (ds.drop n) (vs.drop n)) (λn=>by rw[QS,QS];exact .nil) (λr rr ih n=>by cases n with |zero=>exact .cons r rr |succ n=>exact ih n) n
def RelDs.set{d:D}{v:V}(r:RelD K mg ρ H d v){ds:List D}{vs:List V}(i:Nat)(q:RelDs K mg ρ H ds vs):RelDs K mg ρ H (ds.set i d) (vs.set i v):=
 q.ind (M:=λds vs=>∀i:Nat,RelDs K mg ρ H (ds.set i d) (vs.set i v)) (λ_=>.nil) (λq qq ih i=>by cases i with |zero=>exact .cons r qq |succ i=>exact .cons q (ih i)) i
def RelDs.reverse(r:RelDs K mg ρ H ds vs):RelDs K mg ρ H ds.reverse vs.reverse:=by
 induction ds generalizing vs with
 |nil=>cases r;exact .nil
 |
  cons d ds ih=>
  cases r with
  |cons q rr=>rw[Qr,Qr];exact (ih rr).append (.cons q .nil)
def RelDs.ints:∀{ns:List Int}{vs:List V},RelDs K mg ρ H (ns.map D.int) vs->vs=ns.map V.int:=by
 intro ns;induction ns with
 |nil=>intro vs r;cases r;rfl
 |
  cons n ns ih=>
  intro vs r;cases r with
  |cons r rr=>cases r;rw[ih rr];rfl
def RelDs.bls:∀{ns:List Bool}{vs:List V},RelDs K mg ρ H (ns.map D.bl) vs->vs=ns.map V.bl:=by
 intro ns;induction ns with
 |nil=>intro vs r;cases r;rfl
 |
  cons n ns ih=>
  intro vs r;cases r with
  |cons r rr=>cases r;rw[ih rr];rfl
def RelE.mono(l:Le ρ H ρ' H')(r:RelE K mg ρ H ae σ):RelE K mg ρ' H' ae σ:=⟨r.len,λi d e=>by obtain⟨v,h1,h2⟩:=r.at_ i d e;exact⟨v,h1,h2.mono l⟩⟩
def RelE.set(i:Nat)(r:RelE K mg ρ H ae σ)(q:RelD K mg ρ H d v):RelE K mg ρ H (ae.set i (some d)) (σ.set i (some v)):=⟨by rw[I_,I_];exact r.len,λj d' e=>by
 rw[Q7] at e ⊢;by_cases hij:i=j
 .rw[if_pos hij] at e ⊢;by_cases hi:i<ae.length
  .rw[if_pos hi] at e;cases e;rw[if_pos (by rw[<- r.len];exact hi)];exact⟨v,rfl,q⟩
  .rw[if_neg hi] at e;cases e
 .rw[if_neg hij] at e ⊢;exact r.at_ j d' e⟩
def ObR.mono(l:Le ρ H ρ' H')(e:H' a=H a)(q:ObR K mg ρ H a o):ObR K mg ρ' H' a o:=by
 cases o with
 |lst ds=>obtain⟨vs,h1,h2⟩:=q;exact⟨vs,e.trans h1,h2.mono l⟩
 |fz ds=>obtain⟨o,vs,h1,h2⟩:=q;exact⟨o,vs,e.trans h1,h2.mono l⟩
 |set xs=>exact⟨q.1,e.trans q.2⟩
 |dct kvs=>obtain⟨ws,h1,h2,h3⟩:=q;exact⟨ws,e.trans h1,h2,h3.mono l⟩
 |any=>obtain⟨o,h1⟩:=q;exact⟨o,e.trans h1⟩
def ObR.there(q:ObR K mg ρ H a o):∃u,H a=some u:=by
 cases o with
 |lst ds=>obtain⟨vs,h1,_⟩:=q;exact⟨_,h1⟩
 |fz ds=>obtain⟨o,vs,h1,_⟩:=q;exact⟨_,h1⟩
 |set xs=>exact⟨_,q.2⟩
 |dct kvs=>obtain⟨ws,h1,_⟩:=q;exact⟨_,h1⟩
 |any=>exact q
def Wd.fresh(w:Wd K mg ρ h H)(hp:H p=none):p∉ρ:=λhm=>by
 obtain⟨n,hn⟩:=List.getElem?_of_mem hm;have hl:n<h.length:=by rw[<- w.len];exact (p_.mp hn).1
 obtain⟨u,hu⟩:=(w.ob n p h[n] hn (y_ hl)).there;rw[hp] at hu;cases hu
def TbP.up{P:Addr}{q:Str}(t:TbP ρ H P q)(hp:H p=none):TbP ρ (upd H p u) P q:=by obtain⟨a,ps,b,c,d⟩:=t;refine⟨a,ps,by rw[ay (aJ b hp)];exact b,c,λpos cv e=>?_⟩;obtain⟨x,e1,e2⟩:=d pos cv e;exact⟨x,e1,by rw[ay (aJ e2 hp)];exact e2⟩
def TbP.rho{P:Addr}{q:Str}(t:TbP ρ H P q)(h:P∉ρ'):TbP ρ' H P q:=⟨h,t.2⟩
def TbP.more{P:Addr}{q:Str}(t:TbP ρ H P q)(hp:H p=none):TbP (ρ++[p]) (upd H p u) P q:=by
 obtain⟨ps,b,_⟩:=t.2;refine (t.up hp).rho λz=>?_;rcases Qo.mp z with z |z
 .exact t.1 z
 .rw[Pw] at z;subst z;rw[hp] at b;cases b
def TbP.wr{P:Addr}{q:Str}{a:Addr}{o u:HO}(t:TbP ρ H P q)(ha:a∈ρ)(e:H a=some u)(hu:∀φ,u ≠ .ext φ):TbP ρ (upd H a o) P q:=by
 obtain⟨z,ps,b,c,d⟩:=t;refine⟨z,ps,by rw[ay (λw=>z (by rw[w];exact ha))];exact b,c,λpos cv y=>?_⟩;obtain⟨x,e1,e2⟩:=d pos cv y;refine⟨x,e1,?_⟩;rw[ay]
 .exact e2
 .intro w;subst w;rw[e] at e2;exact hu _ (K_ e2)
def bW(hp:H p=none):Le ρ H ρ (upd H p o):=
 ⟨λ_ _ e=>e,λb xs e=>by rw[ay (aJ e hp)];exact e,λb xs u e=>by rw[ay (aJ e hp)];exact e,λb xs e=>by rw[ay (aJ e hp)];exact e⟩
def BMok.le(b:BMok K mg H)(l:Le ρ H ρ' H'):BMok K mg H':=by
 obtain⟨x,o,h1,h2,h3,h4,h5⟩:=b;refine⟨x,o,h1,h2,h3,h4,?_⟩;rcases h5 with z |⟨u,z⟩
 .exact .inl z
 .exact .inr ⟨u,l.frz _ _ _ z⟩
def gu:Le ρ H (ρ++m) H:=
 ⟨λn a e=>by rw[L_ (p_.mp e).1];exact e,λ_ _ e=>e,λ_ _ _ e=>e,λ_ _ e=>e⟩
def Wd.alloc(w:Wd K mg ρ h H)(hp:H p=none)(hn:ObR K mg (ρ++[p]) (upd H p u) p o):Wd K mg (ρ++[p]) (h++[o]) (upd H p u):=by
 refine⟨by rw[z_,z_,w.len];rfl,?_,λP q l=>⟨(w.tb P q l).1.more hp,(w.tb P q l).2.le (ρ:=ρ) (bW hp)⟩,λn a ob e1 e2=>?_⟩
 .rw[Q8];exact⟨w.nd,by simp,λa ha b hb=>by rw[Pw] at hb;subst hb;intro z;subst z;exact w.fresh hp ha⟩
 .by_cases hl:n<ρ.length
  .rw[L_ hl] at e1;rw[L_ (by rw[<- w.len];exact hl)] at e2;have q:=w.ob n a ob e1 e2;obtain⟨v,hv⟩:=q.there;exact q.mono ((bW hp).trans gu) (ay (aJ hv hp))
  .have h1:n=ρ.length:=by
    have:=(p_.mp e1).1
    rw[z_] at this;simp at this;omega
   subst h1;rw[O8 (o_ _),Qi] at e1;rw[w.len,O8 (o_ _),Qi] at e2;simp at e1 e2;subst e1 e2;exact hn
def Wd.tuple(w:Wd K mg ρ h H)(hp:H p=none):Wd K mg ρ h (upd H p u):=
 ⟨w.len,w.nd,λP q l=>⟨(w.tb P q l).1.up hp,(w.tb P q l).2.le (ρ:=ρ) (bW hp)⟩,λn a ob e1 e2=>by have q:=w.ob n a ob e1 e2;obtain⟨v,hv⟩:=q.there;exact q.mono (bW hp) (ay (aJ hv hp))⟩
def ja(e:H a=some u)(hu:(∀xs,u ≠ .tup xs)/\(∀x y,u ≠ .frz x y)/\∀φ,u ≠ .ext φ):Le ρ H ρ (upd H a o):=by refine⟨λ_ _ e=>e,λb xs q=>?_,λb x y q=>?_,λb φ q=>?_⟩ <;> rw[ay] <;> (try exact q) <;> (intro z;subst z;rw[e] at q;have:=K_ q;first |exact hu.1 _ this |exact hu.2.1 _ _ this |exact hu.2.2 _ this)
def Wd.write{n:Nat}{a:Addr}{o u:HO}{ob:Ob}(w:Wd K mg ρ h H)(ea:ρ[n]?=some a)(e:H a=some u)(hu:(∀xs,u ≠ .tup xs)/\(∀x y,u ≠ .frz x y)/\∀φ,u ≠ .ext φ)
 (hn:ObR K mg ρ (upd H a o) a ob):Wd K mg ρ (h.set n ob) (upd H a o):=by
 refine⟨by rw[I_];exact w.len,w.nd,λP q l=>⟨(w.tb P q l).1.wr (P8 ea) e hu.2.2,(w.tb P q l).2.le (ρ:=ρ) (ja e hu)⟩,λm b ob' e1 e2=>?_⟩;rw[Q7] at e2;by_cases hm:n=m
 .subst hm;rw[ea] at e1;cases e1;rw[if_pos rfl] at e2;split at e2
  .cases e2;exact hn
  .cases e2
 .rw[if_neg hm] at e2;have q:=w.ob m b ob' e1 e2;refine q.mono (ja e hu) (ay λz=>hm ?_);subst z;have h1:=(p_.mp e1);have h2:=(p_.mp ea);exact (List.getElem_inj (h₀:=h2.1) (h₁:=h1.1) w.nd).mp (h2.2.trans h1.2.symm)
def qz:(∀xs,HO.lst vs ≠ .tup xs)/\(∀x y,HO.lst vs ≠ .frz x y)/\∀φ,HO.lst vs ≠ .ext φ:=⟨λ_ z=>(nomatch z),λ_ _ z=>(nomatch z),λ_ z=>(nomatch z)⟩
def Es:(∀xs,HO.set S n ≠ .tup xs)/\(∀x y,HO.set S n ≠ .frz x y)/\∀φ,HO.set S n ≠ .ext φ:=⟨λ_ z=>(nomatch z),λ_ _ z=>(nomatch z),λ_ z=>(nomatch z)⟩
def xH:(∀xs,HO.dK ws ≠ .tup xs)/\(∀x y,HO.dK ws ≠ .frz x y)/\∀φ,HO.dK ws ≠ .ext φ:=⟨λ_ z=>(nomatch z),λ_ _ z=>(nomatch z),λ_ z=>(nomatch z)⟩
def PostG.mono(l:Le ρ H ρ' H')(p:PostG K mg ρ H E k r):PostG K mg ρ' H' E k r:=by
 cases r with
 |ok d h=>exact λρ2 H2 l2=>p ρ2 H2 (l.trans l2)
 |exc c h=>exact λρ2 H2 C l2=>p ρ2 H2 C (l.trans l2)
 |stuck=>exact p
def PostG.imp(p:PostG K mg ρ H E k r)(i:∀a h1 ρ' H',Le ρ H ρ' H'->Wd K mg ρ' h1 H'->k a h1 ρ' H'->k' a h1 ρ' H'):PostG K mg ρ H E k' r:=by
 cases r with
 |ok d h=>exact λρ2 H2 l2 w2=>i _ _ _ _ l2 w2 (p ρ2 H2 l2 w2)
 |exc c h=>exact p
 |stuck=>exact p
def PostG.bind(p:PostG K mg ρ H E k (r.bind f)):PostG K mg ρ H E (λa h1 ρ' H'=>PostG K mg ρ' H' E k (f a h1)) r:=by
 cases r with
 |ok d h=>exact λρ2 H2 l2 w2=>PostG.mono l2 p
 |exc c h=>exact p
 |stuck=>exact p
def PostS.mono(l:Le ρ H ρ' H')(p:PostS K mg ρ H De ES r):PostS K mg ρ' H' De ES r:=by
 cases r with
 |nx ae h=>exact λρ2 H2 σ l2=>p ρ2 H2 σ (l.trans l2)
 |bk ae h=>exact λρ2 H2 σ l2=>p ρ2 H2 σ (l.trans l2)
 |ct ae h=>exact λρ2 H2 σ l2=>p ρ2 H2 σ (l.trans l2)
 |rt d h=>exact λρ2 H2 v l2=>p ρ2 H2 v (l.trans l2)
 |exc c ae h=>exact λρ2 H2 σ C l2=>p ρ2 H2 σ C (l.trans l2)
 |stuck=>exact p
end
section
variable{X:Cx}{e:Expr}{es:List Expr}{st:Stmt}{sts:List Stmt}
def PE.imp(h:PE X e t)(k:∀σ H Q,t' σ H Q->t σ H Q):PE X e t':=λpins s σ H Q I w=>h pins s σ H Q I (k σ H Q w)
def PT.imp(h:PT X e t)(k:∀σ H Q,t' σ H Q->t σ H Q):PT X e t':=λpins s σ H Q I w=>h pins s σ H Q I (k σ H Q w)
def PW.imp(h:PW X e t)(k:∀σ H Q,t' σ H Q->t σ H Q):PW X e t':=λwh pins s σ H Q I w=>h wh pins s σ H Q I (k σ H Q w)
def PA.imp(h:PA X es t)(k:∀σ H Q,t' σ H Q->t σ H Q):PA X es t':=λpos pins s σ H Q I w=>h pos pins s σ H Q I (k σ H Q w)
def PS.imp(h:PS X st t)(k:∀D σ H,t' D σ H->t D σ H):PS X st t':=λpins s σ H D I w=>h pins s σ H D I (k D σ H w)
def PSs.imp(h:PSs X sts t)(k:∀D σ H,t' D σ H->t D σ H):PSs X sts t':=λpins s σ H D I w=>h pins s σ H D I (k D σ H w)
def PG.imp(h:PG X e t)(k:∀v σ H Q,t' v σ H Q->t v σ H Q):PG X e t':=λpins s σ H v u Q I r w=>h pins s σ H v u Q I r (k v σ H Q w)
def PGs.imp(h:PGs X es t)(k:∀v σ H Q,t' v σ H Q->t v σ H Q):PGs X es t':=λpins s σ H v u Q I r w=>h pins s σ H v u Q I r (k v σ H Q w)
def PO.imp(h:PO X o t)(k:∀σ H Q,t' σ H Q->t σ H Q):PO X o t':=λpins s σ H Q I w=>h pins s σ H Q I (k σ H Q w)
end
section
variable(K:W.Frag)(mg:Sa)(X:Cx)(ES:St->XK)
def DE(e:Expr)(F:ME):Prop:=PE X e (rdE K mg ES F)
def DT(e:Expr)(F:MT):Prop:=PT X e (rdT K mg ES F)
def DW(e:Expr)(F:MT):Prop:=PW X e (rdT K mg ES F)
def DA(es:List Expr)(F:MA):Prop:=PA X es (rdA K mg ES F)
def DS(st:Stmt)(F:MS):Prop:=PS X st (rdS K mg ES F)
def DSs(st:List Stmt)(F:MS):Prop:=PSs X st (rdS K mg ES F)
end
def OpD(K:W.Frag)(mg:Sa)(r:R2)(g:D->D->AH->R D):Prop:=∀ρ h H dx dy x y Q E,Wd K mg ρ h H->RelD K mg ρ H dx x->RelD K mg ρ H dy y->cQ K mg ρ H Q E (g dx dy h)->r x y H Q
def UnD(K:W.Frag)(mg:Sa)(r:V->Hp->VK->Prop)(g:D->AH->R D):Prop:=∀ρ h H dx x Q E,Wd K mg ρ h H->RelD K mg ρ H dx x->cQ K mg ρ H Q E (g dx h)->r x H Q
def aS(K:W.Frag)(mg:Sa)(r:List V->Hp->VK->Prop)(g:Fn):Prop:=∀ρ h H ds vs Q E,Wd K mg ρ h H->RelDs K mg ρ H ds vs->cQ K mg ρ H Q E (g ds h)->r vs H Q
noncomputable def bq(i:Nat):ME:=λae h=>match ae[i]? with
 |some (some d)=>.ok d h
 |_=>.stuck
noncomputable def eC(d:D):ME:=λ_ h=>.ok d h
noncomputable def eOp(g:D->D->AH->R D)(F G:ME):ME:=λae h=>(F ae h).bind λx h1=>(G ae h1).bind λy h2=>g x y h2
noncomputable def eUn(g:D->AH->R D)(F:ME):ME:=λae h=>(F ae h).bind g
noncomputable def jd:MA:=λ_ h=>.ok [] h
noncomputable def gX(F:ME)(G:MA):MA:=λae h=>(F ae h).bind λx h1=>(G ae h1).bind λxs h2=>.ok (x::xs) h2
noncomputable def eFn(g:Fn)(A:MA):ME:=λae h=>(A ae h).bind g
def mT(ds:List D)(h:AH):R D:=if ds.length<=16777216 then .ok (.tup ds) h else .stuck
noncomputable def dH(ds:List D)(h:AH):R D:=if ds.length<=16777216 then .ok (.ref h.length) (h++[.lst ds]) else .stuck
def asB(d:D)(h:AH):R Bool:=match d with
 |.bl b=>.ok b h
 |_=>.stuck
noncomputable def B7(F G:ME):ME:=λae h=>(F ae h).bind λx h1=>(asB x h1).bind λb h2=>if b=true then G ae h2 else .ok (.bl false) h2
noncomputable def AZ(F:ME):ME:=λae h=>(F ae h).bind λx h1=>(asB x h1).bind λb h2=>.ok (.bl (!b)) h2
def tOf(F:ME):MT:=λae h=>(F ae h).bind asB
noncomputable def tAn(c d:MT):MT:=λae h=>(c ae h).bind λb h1=>if b=true then d ae h1 else .ok false h1
noncomputable def tO(c d:MT):MT:=λae h=>(c ae h).bind λb h1=>if b=true then .ok true h1 else d ae h1
noncomputable def tNo(c:MT):MT:=λae h=>(c ae h).bind λb h1=>.ok (!b) h1
section
variable{K:W.Frag}{mg:Sa}{ρ:List Addr}{H:Hp}{h:AH}
def dM(w:Wd K mg ρ h H)(rs:RelDs K mg ρ H ds vs)(hp:H p=none)(q:cQ K mg ρ H Q E (.ok (.ref h.length) (h++[.lst ds]))):Q (.ref p) (upd H p (.lst vs)):=by have l:Le ρ H (ρ++[p]) (upd H p (.lst vs)):=(bW hp).trans gu;refine q (ρ++[p]) _ l (w.alloc hp ⟨vs,aM,rs.mono l⟩) _ (.ref ?_);rw[<- w.len,O8 (o_ _),Qi];rfl
def i4(w:Wd K mg ρ h H)(rs:RelDs K mg ρ H ds vs)(hp:H p=none)(q:cQ K mg ρ H Q E (.ok (.tup ds) h)):Q (.ref p) (upd H p (.tup vs)):=
 q ρ _ (bW hp) (w.tuple hp) _ (.tup (SqT.of aM) (rs.mono (bW hp)))
def az(w:Wd K mg ρ h H)(r:RelD K mg ρ H d v)(q:cQ K mg ρ H Q E (.ok d h)):Q v H:=q ρ H Le.refl w v r
end
section
variable{K:W.Frag}{mg:Sa}{X:Cx}{ES:St->XK}{e a b c:Expr}{es:List Expr}{F G:ME}{A:MA}{cf cg:MT}{pos:Pos}
def Jk(i:Nat)(hN:X.N[i]?=some x)(hv:Vis X.env.scope x)(hd:(x==("__debug__" : Str))=false)
 (i_:(x==("__classdict__" : Str))=false):DE K mg X ES (.Name x pos) (bq i):=PE.imp (Hw hN hv hd i_) λσ H Q q_=>q_.el λρ h ae w re p=>by
 unfold bq at p;split at p
 .rename_i d ed;obtain⟨v,e1,r⟩:=re.at_ i d ed;exact⟨v,e1,az w r p⟩
 .exact p.elim
def sH(hp:PE X e (tC v))(r:∀ρ H,RelD K mg ρ H d v):DE K mg X ES e (eC d):=PE.imp hp λσ H Q q_=>q_.el λρ h ae w re p=>az w (r ρ H) p
def L6:DE K mg X ES (.Constant (.int i) j pos) (eC (.int i)):=sH Lg λ_ _=>.int i
def Of:DE K mg X ES (.Constant (.bool i) j pos) (eC (.bl i)):=sH MJ λ_ _=>.bl i
def LD:DE K mg X ES (.Constant (.str x) j pos) (eC (.str x)):=sH zf λ_ _=>.str x
structure GC(K:W.Frag)(mg:Sa)(x:Str)(d:D):Prop where
 ex:∃u v,mg x=some u/\RelV v u/\∀ρ H,RelD K mg ρ H d v
def OR(hg:Gl X x)(ha:GC K mg x d)(hm:X.mg=mg)(hd:(x==("__debug__" : Str))=false):DE K mg X ES (.Name x pos) (eC d):=by subst hm;obtain⟨u,v,h1,h2,h3⟩:=ha.ex;exact sH (G9 hg h1 h2 hd) h3
def Oi(hg:Gl X x)(hm:mg x=none)(hv:bootBuiltins x=some (.type n))(he:X.mg=mg)(hn:x ≠ "__name__")(hd:(x==("__debug__" : Str))=false):DE K mg X ES (.Name x pos) (eC (.ty n)):=by subst he;exact sH (Gh hg hm hv (v:=.ty n) rfl hn hd) λ_ _=>.ty n
def qM(hd:OpD K mg r g)(σ:St)(H:Hp)(Q:VK)(q:rdE K mg ES (eOp g F G) σ H Q):tOp r (rdE K mg ES F) (rdE K mg ES G) σ H Q:=by obtain⟨ρ,h,ae,w,re,p⟩:=q;exact⟨ρ,h,ae,w,re,p.bind.imp λdx h1 ρ1 H1 l1 w1 p1 x rx=>⟨ρ1,h1,ae,w1,re.mono l1,p1.bind.imp λdy h2 ρ2 H2 l2 w2 p2 y ry=>hd ρ2 h2 H2 dx dy x y Q _ w2 (rx.mono l2) ry p2⟩⟩
def Mg(ho:OpR X (binaryOp op) r)(hd:OpD K mg r g)(ha:DE K mg X ES a F)(hb:DE K mg X ES b G):DE K mg X ES (.BinOp a op b pos) (eOp g F G):=PE.imp (Ow ho ha hb) (qM hd)
def Nl(hr:IxR X r)(hd:OpD K mg r g)(ha:DE K mg X ES a F)(hb:DE K mg X ES b G)(hs:oH b):DE K mg X ES (.Subscript a b pos) (eOp g F G):=PE.imp (NL hr ha hb hs) (qM hd)
def Jg(ho:OpR X (compareOp op) r)(hd:OpD K mg r g)(ha:DE K mg X ES a F)(hb:DE K mg X ES b G)(hm:behindInMarks op b=false):DE K mg X ES (.Compare a [op] [b] pos) (eOp g F G):=PE.imp (EF ho ha hb hm) (qM hd)
def wq(σ:St)(H:Hp)(Q:Bool->Hp->Prop)(q:rdT K mg ES (tOf F) σ H Q):rdE K mg ES F σ H λx H'=>∃k,x=.bl k/\Q k H':=by
 obtain⟨ρ,h,ae,w,re,p⟩:=q;refine⟨ρ,h,ae,w,re,p.bind.imp λd h1 ρ1 H1 l1 w1 p1 x rx=>?_⟩;unfold asB at p1;split at p1
 .cases rx;exact⟨_,rfl,p1 ρ1 H1 Le.refl w1⟩
 .exact p1.elim
def Ju(ho:OpR X (compareOp op) r)(hd:OpD K mg r g)(ha:DE K mg X ES a F)(hb:DE K mg X ES b G)(hm:behindInMarks op b=false):DT K mg X ES (.Compare a [op] [b] pos) (tOf (eOp g F G)):=
 PT.imp (Fg ho ha hb hm) λσ H Q q=>qM hd σ H _ (wq σ H Q q)
def Ih(ha:DE K mg X ES a F)(he:∀c_,isTrue a X.env c_=(do let v <- c_;standAt a.pos;holding [v] (truthy v))):DT K mg X ES a (tOf F):=
 PT.imp (Ic ha he) λσ H Q q=>wq σ H Q q
def Lk(ha:DT K mg X ES a cf):DT K mg X ES (.UnaryOp .Not a pos) (tNo cf):=PT.imp (IV ha) λσ H Q q_=>q_.el λρ h ae w re p=>
 ⟨ρ,h,ae,w,re,p.bind.imp λb h1 ρ1 H1 l1 w1 p1=>p1 ρ1 H1 Le.refl w1⟩
def FN(ha:DT K mg X ES a cf):DW K mg X ES (.BoolOp .And [a] pos) cf:=GR ha
def J9(ha:DT K mg X ES a cf):DW K mg X ES (.BoolOp .Or [a] pos) cf:=Kj ha
def JG(ha:DT K mg X ES a cf)(hb:DW K mg X ES (.BoolOp .And (b::es) pos) cg):DW K mg X ES (.BoolOp .And (a::b::es) pos) (tAn cf cg):=PW.imp (KA ha hb) λσ H Q q_=>q_.el λρ h ae w re p=>
 ⟨ρ,h,ae,w,re,p.bind.imp λb h1 ρ1 H1 l1 w1 p1=>by
  cases b with
  |true=>exact⟨ρ1,h1,ae,w1,re.mono l1,p1⟩
  |false=>exact p1 ρ1 H1 Le.refl w1⟩
def Nr(ha:DT K mg X ES a cf)(hb:DW K mg X ES (.BoolOp .Or (b::es) pos) cg):DW K mg X ES (.BoolOp .Or (a::b::es) pos) (tO cf cg):=PW.imp (O2 ha hb) λσ H Q q_=>q_.el λρ h ae w re p=>
 ⟨ρ,h,ae,w,re,p.bind.imp λb h1 ρ1 H1 l1 w1 p1=>by
  cases b with
  |true=>exact p1 ρ1 H1 Le.refl w1
  |false=>exact⟨ρ1,h1,ae,w1,re.mono l1,p1⟩⟩
def DW.dt(h:DW K mg X ES a cf):DT K mg X ES a cf:=PW.pt h
def H9{op}(h:DE K mg X ES a F):DE K mg X ES (.BoolOp op [a] pos) F:=J8 h
def HA(ha:DE K mg X ES a F)(hb:DE K mg X ES (.BoolOp .And (b::es) pos) G):DE K mg X ES (.BoolOp .And (a::b::es) pos) (B7 F G):=PE.imp (JP ha hb) λσ H Q q_=>q_.el λρ h ae w re p=>by
 refine⟨ρ,h,ae,w,re,p.bind.imp λd h1 ρ1 H1 l1 w1 p1 x rx=>?_⟩;unfold asB at p1;split at p1
 .rename_i b';cases rx;refine⟨b',rfl,?_⟩;cases b' with
  |true=>exact⟨ρ1,h1,ae,w1,re.mono l1,p1⟩
  |false=>exact p1 ρ1 H1 Le.refl w1 _ (.bl false)
 .exact p1.elim
def Lb(ha:DE K mg X ES a F):DE K mg X ES (.UnaryOp .Not a pos) (AZ F):=PE.imp (K4 ha) λσ H Q q_=>q_.el λρ h ae w re p=>by
 refine⟨ρ,h,ae,w,re,p.bind.imp λd h1 ρ1 H1 l1 w1 p1 x rx=>?_⟩;unfold asB at p1;split at p1
 .cases rx;exact⟨_,rfl,p1 ρ1 H1 Le.refl w1 _ (.bl _)⟩
 .exact p1.elim
def MC(ho:UnR X (unaryOp op) r)(hd:UnD K mg r g)(ha:DE K mg X ES a F):DE K mg X ES (.UnaryOp op a pos) (eUn g F):=PE.imp (ON ho ha) λσ H Q q_=>q_.el λρ h ae w re p=>
 ⟨ρ,h,ae,w,re,p.bind.imp λd h1 ρ1 H1 l1 w1 p1 x rx=>hd ρ1 h1 H1 d x Q _ w1 rx p1⟩
def yU:DA K mg X ES [] jd:=PA.imp KZ λσ H Q q_=>q_.el λρ h ae w re p=>p ρ H Le.refl w _ .nil
def vE(ha:DE K mg X ES e F)(hr:DA K mg X ES es A)(hs:starEach (e::es) X.env=(false,eval e X.env)::starEach es X.env):DA K mg X ES (e::es) (gX F A):=PA.imp (Fx ha hr hs) λσ H Q q_=>q_.el λρ h ae w re p=>
 ⟨ρ,h,ae,w,re,p.bind.imp λd h1 ρ1 H1 l1 w1 p1 x rx=>⟨ρ1,h1,ae,w1,re.mono l1,p1.bind.imp λds h2 ρ2 H2 l2 w2 p2 vs rs=>p2 ρ2 H2 Le.refl w2 _ (.cons (rx.mono l2) rs)⟩⟩
def JB{x1}(h:DA K mg X ES es A):DE K mg X ES (.Tuple es x1 pos) (eFn mT A):=PE.imp (LR h) λσ H Q q_=>q_.el λρ h ae w re p=>
 ⟨ρ,
  h,ae,w,re,p.bind.imp λds h1 ρ1 H1 l1 w1 p1 vs rs=>by
  unfold mT at p1;split at p1
  .rename_i hl;exact⟨by rw[<- rs.len];exact hl,λq hq=>i4 w1 rs hq p1⟩
  .exact p1.elim⟩
def KY(h:DA K mg X ES es A):DE K mg X ES (.List es pos) (eFn dH A):=PE.imp (Kp h) λσ H Q q_=>q_.el λρ h ae w re p=>
 ⟨ρ,
  h,ae,w,re,p.bind.imp λds h1 ρ1 H1 l1 w1 p1 vs rs=>by
  unfold dH at p1;split at p1
  .rename_i hl;exact⟨by rw[<- rs.len];exact hl,λq hq=>dM w1 rs hq p1⟩
  .exact p1.elim⟩
def Eb(hd:aS K mg r g)(σ:St)(H:Hp)(Q:VK)(q:rdE K mg ES (eFn g A) σ H Q):tCB r (rdA K mg ES A) σ H Q:=by obtain⟨ρ,h,ae,w,re,p⟩:=q;exact⟨ρ,h,ae,w,re,p.bind.imp λds h1 ρ1 H1 l1 w1 p1 vs rs=>hd ρ1 h1 H1 ds vs Q _ w1 rs p1⟩
def CY{id:String}{r:List V->Hp->VK->Prop}{g:Fn}{x:Str}{p:Pos}(hc:CallR X (.builtin id) r)(hd:aS K mg r g)(hg:Gl X x)(hm:mg x=none)(hv:bootBuiltins x=some (.builtin id))(ha:DA K mg X ES (e::es) A)(hk:X.mg=mg)(hn:x ≠ "__name__")(hdb:(x==("__debug__" : Str))=false)
 (he:starEach (e::es) X.env=(false,eval e X.env)::starEach es X.env) (hpl:(backTo pos (starEach es X.env)).any (·.1)=false):DE K mg X ES (.Call (.Name x p) (e::es) [] pos) (eFn g A):=by
 subst hk;exact PE.imp (DC hc hg hm hv ha hn hdb he hpl) (Eb hd)
def Ad(hc:CallR X (.type T) r)(hd:aS K mg r g)(hg:Gl X x)(hm:mg x=none)(hv:bootBuiltins x=some (.type T))(ha:DA K mg X ES (e::es) A)(hk:X.mg=mg)(hn:x ≠ "__name__")(hdb:(x==("__debug__" : Str))=false)
 (he:starEach (e::es) X.env=(false,eval e X.env)::starEach es X.env) (hpl:(backTo pos (starEach es X.env)).any (·.1)=false):DE K mg X ES (.Call (.Name x p) (e::es) [] pos) (eFn g A):=by
 subst hk;exact PE.imp (zK hc hg hm hv ha hn hdb he hpl) (Eb hd)
end
noncomputable def SR.then(r:SR)(f:AE->AH->SR):SR:=match r with
 |.nx ae h=>f ae h
 |.rt d h=>.rt d h
 |.bk ae h=>.bk ae h
 |.ct ae h=>.ct ae h
 |.exc c ae h=>.exc c ae h
 |.stuck=>.stuck
noncomputable def R.toS{α:Type}(r:R α)(ae:AE)(f:α->AH->SR):SR:=match r with
 |.ok a h=>f a h
 |.exc c h=>.exc c ae h
 |.stuck=>.stuck
noncomputable def sNx:MS:=λae h=>.nx ae h
noncomputable def sBk:MS:=λae h=>.bk ae h
noncomputable def xp:MS:=λ_ h=>.rt .non h
noncomputable def Dh(F G:MS):MS:=λae h=>(F ae h).then G
def Co(F:ME):MS:=λae h=>(F ae h).toS ae λd h1=>.rt d h1
def yf(F:ME):MS:=λae h=>(F ae h).toS ae λ_ h1=>.nx ae h1
noncomputable def sIf(c:MT)(F G:MS):MS:=λae h=>(c ae h).toS ae λb h1=>if b=true then F ae h1 else G ae h1
abbrev MG:=D->AE->AH->R AE
abbrev MGs:=List D->AE->AH->R AE
noncomputable def ir(F:ME)(g:MG):MS:=λae h=>(F ae h).toS ae λd h1=>(g d ae h1).toS ae λbn h2=>.nx bn h2
def gN(i:Nat):MG:=λd ae h=>.ok (ae.set i (some d)) h
noncomputable def gsN:MGs:=λds ae h=>match ds with
 | []=>.ok ae h
 |_=>.stuck
noncomputable def gsC(g:MG)(u:MGs):MGs:=λds ae h=>match ds with
 |d::r=>(g d ae h).bind λbn h'=>u r bn h'
 | []=>.stuck
noncomputable def gT(u:MGs):MG:=λd ae h=>match d with
 |.tup ds=>u ds ae h
 |_=>.stuck
noncomputable def gS(F G:ME)(w:D->D->D->AH->R Unit):MG:=λv ae h=>(F ae h).bind λo h1=>(G ae h1).bind λi h2=>(w o i v h2).bind λ_ h3=>.ok ae h3
noncomputable def BF(i j:Nat)(A:MA):MS:=λae h=>(A ae h).toS ae λds h1=>match ds with
 | [d,e]=>.nx ((ae.set i (some d)).set j (some e)) h1
 |_=>.stuck
noncomputable def tj(i:Nat)(g:D->D->AH->R D)(F:ME):MS:=λae h=>match ae[i]? with
 |some (some x)=>(F ae h).toS ae λy h1=>(g x y h1).toS ae λz h2=>.nx (ae.set i (some z)) h2
 |_=>.stuck
noncomputable def uj(c:Str)(A:MA):MS:=λae h=>(A ae h).toS ae λds h1=>if ds.length<=16777216 then .exc c ae h1 else .stuck
section
variable(K:W.Frag)(mg:Sa)
def rdG(ES:St->XK)(g:MG):TG:=λv σ H Q=>∃ρ h ae d,Wd K mg ρ h H/\RelE K mg ρ H ae σ/\RelD K mg ρ H d v/\PostG K mg ρ H (ES σ) (λbn _ ρ' H'=>∀σ',RelE K mg ρ' H' bn σ'->Q σ' H') (g d ae h)
def rdGs(ES:St->XK)(g:MGs):TGs:=λvs σ H Q=>∃ρ h ae ds,Wd K mg ρ h H/\RelE K mg ρ H ae σ/\RelDs K mg ρ H ds vs/\PostG K mg ρ H (ES σ) (λbn _ ρ' H'=>∀σ',RelE K mg ρ' H' bn σ'->Q σ' H') (g ds ae h)
def DG(X:Cx)(ES:St->XK)(e:Expr)(g:MG):Prop:=PG X e (rdG K mg ES g)
def DGs(X:Cx)(ES:St->XK)(es:List Expr)(g:MGs):Prop:=PGs X es (rdGs K mg ES g)
def kA(X:Cx)(ES:St->XK):Prop:=∀(pins:Sb) (σ:St) (H:Hp) (s:Shared) (e:Value) (s':Shared),Inv X pins σ H s->CX1 X.prog X.w X.stack H s (ES σ) e s'->X.xe e s'
end
def rdG.el{K:W.Frag}{mg:Sa}{ES:St->XK}{g:MG}{v:V}{σ:St}{H:Hp}{Q:St->Hp->Prop}{C:Prop}(q:rdG K mg ES g v σ H Q)(k:∀ρ h ae d,Wd K mg ρ h H->RelE K mg ρ H ae σ->RelD K mg ρ H d v->PostG K mg ρ H (ES σ) (λbn _ ρ' H'=>∀σ',RelE K mg ρ' H' bn σ'->Q σ' H') (g d ae h)->C):C:=by obtain⟨ρ,h,ae,d,w,re,rd,p⟩:=q;exact k ρ h ae d w re rd p
def rdGs.el{K:W.Frag}{mg:Sa}{ES:St->XK}{g:MGs}{v:List V}{σ:St}{H:Hp}{Q:St->Hp->Prop}{C:Prop}(q:rdGs K mg ES g v σ H Q)(k:∀ρ h ae d,Wd K mg ρ h H->RelE K mg ρ H ae σ->RelDs K mg ρ H d v->PostG K mg ρ H (ES σ) (λbn _ ρ' H'=>∀σ',RelE K mg ρ' H' bn σ'->Q σ' H') (g d ae h)->C):C:=by obtain⟨ρ,h,ae,d,w,re,rd,p⟩:=q;exact k ρ h ae d w re rd p
section
variable{K:W.Frag}{mg:Sa}{X:Cx}{ES:St->XK}{ρ:List Addr}{H:Hp}{h:AH}{ae:AE}{σ:St}{De:Ends}
def bN(p:PostS K mg ρ H De ES (r.toS ae f))(re:RelE K mg ρ H ae σ)
 (i:∀a h1 ρ1 H1,Le ρ H ρ1 H1->Wd K mg ρ1 h1 H1->RelE K mg ρ1 H1 ae σ->PostS K mg ρ1 H1 De ES (f a h1)->k a h1 ρ1 H1):PostG K mg ρ H (ES σ) k r:=by
 cases r with
 |ok a h1=>exact λρ1 H1 l1 w1=>i a h1 ρ1 H1 l1 w1 (re.mono l1) (PostS.mono l1 p)
 |exc c h1=>exact λρ1 H1 C l1 w1 m=>p ρ1 H1 σ C l1 w1 (re.mono l1) m
 |stuck=>exact p
def gq(p:PostS K mg ρ H De ES (.nx bn h))(w:Wd K mg ρ h H)(re:RelE K mg ρ H bn σ):De.nx σ H:=p ρ H σ Le.refl w re
def AW(p:PostS K mg ρ H De ES (r.then f))(i:∀g_ h1 ρ1 H1 σ1,Le ρ H ρ1 H1->Wd K mg ρ1 h1 H1->RelE K mg ρ1 H1 g_ σ1->PostS K mg ρ1 H1 De ES (f g_ h1)->N σ1 H1):PostS K mg ρ H { De with nx:=N } ES r:=by
 cases r with
 |nx g_ h1=>exact λρ1 H1 σ1 l1 w1 re1=>i g_ h1 ρ1 H1 σ1 l1 w1 re1 (PostS.mono l1 p)
 |rt d h1=>exact p
 |bk g_ h1=>exact p
 |ct g_ h1=>exact p
 |exc c g_ h1=>exact p
 |stuck=>exact p
end
section
variable{K:W.Frag}{mg:Sa}{X:Cx}{ES:St->XK}{e a b c o i:Expr}{es:List Expr}{st:Stmt}{sts sts':List Stmt}{F G:ME}{A:MA}{cf:MT}{U V':MS}{g:MG}{gs:MGs}{pos:Pos}
def Gq:DSs K mg X ES [] sNx:=PSs.imp F2 λD σ H q_=>q_.el λρ h ae w re p=>gq p w re
def Fo(h1:DS K mg X ES st U):DSs K mg X ES [st] U:=G0 h1
def CN(h1:DS K mg X ES st U)(h2:DSs K mg X ES sts V'):DSs K mg X ES (st::sts) (Dh U V'):=PSs.imp (Cv h1 h2) λD σ H q_=>q_.el λρ h ae w re p=>
 ⟨ρ,h,ae,w,re,AW p λg_ h1 ρ1 H1 σ1 l1 w1 re1 p1=>⟨ρ1,h1,g_,w1,re1,p1⟩⟩
def Di:DS K mg X ES (.Break pos) sBk:=PS.imp Bw λD σ H q_=>q_.el λρ h ae w re p=>p ρ H σ Le.refl w re
def Gp:DS K mg X ES (.Return none pos) xp:=PS.imp GP λD σ H q_=>q_.el λρ h ae w re p=>p ρ H _ Le.refl w .non
def Kn(he:DE K mg X ES e F):DS K mg X ES (.Return (some e) pos) (Co F):=PS.imp (Ko he) λD σ H q_=>q_.el λρ h ae w re p=>
 ⟨ρ,h,ae,w,re,bN p re λd h1 ρ1 H1 l1 w1 re1 p1 v rv=>p1 ρ1 H1 v Le.refl w1 rv⟩
def Fw(he:DE K mg X ES e F)(hs:swapsWith e none pos.line X.env=pure false):DS K mg X ES (.Expr e pos) (yf F):=PS.imp (FO he hs) λD σ H q_=>q_.el λρ h ae w re p=>
 ⟨ρ,h,ae,w,re,bN p re λd h1 ρ1 H1 l1 w1 re1 p1 v rv=>gq p1 w1 re1⟩
def Mx(hc:DT K mg X ES c cf)(ha:DSs K mg X ES sts U)(hb:DSs K mg X ES sts' V'):DS K mg X ES (.If c sts sts' pos) (sIf cf U V'):=PS.imp (O6 hc ha hb) λD σ H q_=>q_.el λρ h ae w re p=>
 ⟨ρ,h,ae,w,re,bN p re λb h1 ρ1 H1 l1 w1 re1 p1=>by
  cases b with
  |true=>exact⟨ρ1,h1,ae,w1,re1,p1⟩
  |false=>exact⟨ρ1,h1,ae,w1,re1,p1⟩⟩
def GW{i:Nat}{x:Str}(hN:X.N.Nodup)(hi:X.N[i]?=some x)(hx:Loc X.env.scope x)(hf:X.fn x=true\/X.env.scope.names.lookup x=some .local):DG K mg X ES (.Name x pos) (gN i):=
 PG.imp (Fv hN hi hx hf) λv σ H Q q_=>q_.el λρ h ae d w re rd p=>p ρ H Le.refl w _ (re.set i rd)
def GL:DGs K mg X ES [] gsN:=PGs.imp GJ λvs σ H Q q_=>q_.el λρ h ae ds w re rd p=>by
 cases rd with
 |nil=>exact⟨rfl,p ρ H Le.refl w _ re⟩
 |cons r rr=>exact p.elim
def Dc(h1:DG K mg X (λ_=>E0) e g)(h2:DGs K mg X (λ_=>E0) es gs)
 (hs:(assignEach (e::es) X.env).map (·.2)=assign e X.env::(assignEach es X.env).map (·.2)):DGs K mg X (λ_=>E0) (e::es) (gsC g gs):=PGs.imp (Bj h1 h2 hs) λvs σ H Q q_=>q_.el λρ h ae ds w re rd p=>by
 cases rd with
 |nil=>exact p.elim
 |cons r rr=>exact⟨_,_,rfl,ρ,h,ae,_,w,re,r,p.bind.imp λg_ h1 ρ1 H1 l1 w1 p1 σ1 re1=>⟨ρ1,h1,g_,_,w1,re1,rr.mono l1,p1⟩⟩
def Im{k n:Nat}(hK:X.K=K)(hc:X.calm=true)(h:DGs K mg X (λ_=>E0) es gs)
 (hn:(assignEach es X.env).length=n) (hst:(assignEach es X.env).findIdx? (·.1)=none):DG K mg X (λ_=>E0) (.Tuple es k pos) (gT λds ae h=>if ds.length=n then gs ds ae h else .stuck):=by
 subst hK;refine PG.imp (IC hc h hn hst) λv σ H Q q_=>q_.el λρ h ae d w re rd p=>?_;unfold gT at p;cases rd with
 |
  tup q rs=>
  dsimp only at p;split at p
  .rename_i hl;exact⟨_,_,rfl,q,by rw[<- rs.len];exact hl,ρ,h,ae,_,w,re,rs,p⟩
  .exact p.elim
 |_=>exact p.elim
def noX{α:Type}(r:R α):R α:=match r with
 |.exc _ _=>.stuck
 |.ok a h=>.ok a h
 |.stuck=>.stuck
def DG.weak(hg:DG K mg X (λ_=>E0) e g):DG K mg X ES e (λd ae h=>noX (g d ae h)):=PG.imp hg λv σ H Q q_=>q_.el λρ h ae d w re rd p=>by
 refine⟨ρ,h,ae,d,w,re,rd,?_⟩;try dsimp only at p
 cases q:g d ae h with
 |ok a h1=>rw[q] at p;exact p
 |exc c h1=>rw[q] at p;exact p.elim
 |stuck=>rw[q] at p;exact p.elim
def oi(K:W.Frag)(mg:Sa)(r:ya)(f:D->D->D->AH->R Unit):Prop:=∀ρ h H do_ di dv o i v (Q:Hp->Prop) E,Wd K mg ρ h H->RelD K mg ρ H do_ o->RelD K mg ρ H di i->RelD K mg ρ H dv v->PostG K mg ρ H E (λ_ _ _ H'=>Q H') (f do_ di dv h)->r o i v H Q
def zd(he:DE K mg X ES e F)(hg:DG K mg X ES a g)(hs:swapsWithSole [a] e pos.line X.env=pure false)(hw:swappedStores [a] e X.env=pure none)
 (h1:(assignEach [a] X.env).map (·.2)=[assign a X.env]):DS K mg X ES (.Assign [a] e pos) (ir F g):=PS.imp (Lf he hg hs hw h1) λD σ H q_=>q_.el λρ h ae w re p=>
 ⟨ρ,h,ae,w,re,bN p re λd h1 ρ1 H1 l1 w1 re1 p1 v rv=>⟨ρ1,h1,ae,d,w1,re1,rv,bN p1 re1 λae2 h2 ρ2 H2 l2 w2 re2 p2 σ' re'=>gq p2 w2 re'⟩⟩
def Ji{i:Nat}{x:Str}{h_:Pos}(hN:X.N.Nodup)(hi:X.N[i]?=some x)(hx:Loc X.env.scope x)(he:DE K mg X ES e F)(hs:swapsWith e (some (.Name x h_)) pos.line X.env=pure false)(hf:X.fn x=true\/X.env.scope.names.lookup x=some .local):
 DS K mg X ES (.Assign [.Name x h_] e pos) (ir F (gN i)):=PS.imp (Hm hN hi hx he hs hf) λD σ H q_=>q_.el λρ h ae w re p=>
 ⟨ρ,h,ae,w,re,bN p re λd h1 ρ1 H1 l1 w1 re1 p1 v rv=>gq p1 w1 (re1.set i rv)⟩
def Ky{i j:Nat}{x y:Str}{px py pt:Pos}{kt k2 pt2}(hc:X.calm=true)(hN:X.N.Nodup)(hi:X.N[i]?=some x)(hj:X.N[j]?=some y)(hij:i≠j)
 (hx:X.env.scope.names.lookup x=some .local) (hy:X.env.scope.names.lookup y=some .local) (ha:DA K mg X ES [a,b] A)
 (hw:swappedStores [.Tuple [.Name x px,.Name y py] kt pt] (.Tuple [a,b] k2 pt2) X.env=pure (some [x,y]))
 (hs:swapsWithSole [.Tuple [.Name x px,.Name y py] kt pt] (.Tuple [a,b] k2 pt2) pos.line X.env=pure false):
 DS K mg X ES (.Assign [.Tuple [.Name x px,.Name y py] kt pt] (.Tuple [a,b] k2 pt2) pos) (BF i j A):=PS.imp (Ld hc hN hi hj hij hx hy ha hw hs) λD σ H q_=>q_.el λρ h ae w re p=>
 ⟨ρ,h,ae,w,re,bN p re λds h1 ρ1 H1 l1 w1 re1 p1 vs rs=>by
  split at p1
  .cases rs with
   |
    cons r1 rs=>
    cases rs with
    |cons r2 rs=>cases rs;exact⟨_,_,rfl,gq p1 w1 ((re1.set i r1).set j r2)⟩
  .exact p1.elim⟩
def IpD(K:W.Frag)(mg:Sa)(r:TIp)(g:D->D->AH->R D):Prop:=∀ρ h H dx dy x y Q E,Wd K mg ρ h H->RelD K mg ρ H dx x->RelD K mg ρ H dy y->cQ K mg ρ H Q E (g dx dy h)->r x y H Q
def HI{i:Nat}{x:Str}{op:Operator}{ti:TIp}{h_:Pos}{gg:D->D->AH->R D}(hN:X.N.Nodup)(hi:X.N[i]?=some x)(hx:Loc X.env.scope x)(he:DE K mg X ES e F)(ho:PIp X op ti)(hd:IpD K mg ti gg)(hf:X.fn x=true\/X.env.scope.names.lookup x=some .local):
 DS K mg X ES (.AugAssign (.Name x h_) op e pos) (tj i gg F):=PS.imp (HU hN hi hx he ho hf) λD σ H q_=>q_.el λρ h ae w re p=>by
 unfold tj at p;split at p
 .rename_i d ed;obtain⟨v,e1,r⟩:=re.at_ i d ed;exact⟨v,e1,ρ,h,ae,w,re,bN p re λdy h1 ρ1 H1 l1 w1 re1 p1 y ry=>hd ρ1 h1 H1 d dy v y _ _ w1 (r.mono l1) ry (bN p1 re1 λdz h2 ρ2 H2 l2 w2 re2 p2 z rz=>gq p2 w2 (re2.set i rz))⟩
 .exact p.elim
def Bp(hc:X.calm=true)(hR:Rz X E)(hg:Gl X x)(hm:mg x=some (.ref C))(hq:W.excIn X.K C lT "ValueError.__new__"=true)(ha:DA K mg X (λ_=>E) (e::es) A)(hk:X.mg=mg)
 (he:starEach (e::es) X.env=(false,eval e X.env)::starEach es X.env) (ci:(backTo cpos (starEach es X.env)).any (·.1)=false) (hd:(x==("__debug__" : Str))=false):
 DS K mg X (λ_=>E) (.Raise (some (.Call (.Name x np) (e::es) [] cpos)) none pos) (uj x A):=by
 subst hk;exact
  PS.imp (A5 hc hR hg hm hq ha he ci hd) λD σ H q_=>q_.el λρ h ae w re p=>
  ⟨ρ,
   h,ae,w,re,bN p re λds h1 ρ1 H1 l1 w1 re1 p1 vs rs=>by
   split at p1
   .rename_i hl;exact⟨by rw[<- rs.len];exact hl,p1 ρ1 H1 σ C Le.refl w1 re1 hm⟩
   .exact p1.elim⟩
def GZ(C:Callee X.prog X.w X.K X.mg X.base x k ps (spD K mg n S))(hr:Room k X.A)(hg:Gl X x)(hx:kA X ES)(ha:DA K mg X ES (e::es) A)
 (hdb:(x==("__debug__" : Str))=false) (he:starEach (e::es) X.env=(false,eval e X.env)::starEach es X.env) (hpl:(backTo pos (starEach es X.env)).any (·.1)=false):
 DE K mg X ES (.Call (.Name x p) (e::es) [] pos) (eFn (λds h=>if ds.length=n then S ds h else .stuck) A):=by
 obtain⟨f,fd,F',m,kp,bb,_⟩:=C.ex;intro pins s σ H Q I hh;refine Qk (nW I hg m ?_ hdb);have rd:rdA K mg ES A σ H (λvs H1=>spD K mg n S vs H1 Q (ES σ)):=by
  obtain⟨ρ,h,ae,w,re,p⟩:=hh;refine⟨ρ,h,ae,w,re,p.bind.imp λds h1 ρ1 H1 l1 w1 p1 vs rs=>?_⟩;split at p1
  .rename_i hl;exact⟨ρ1,h1,ds,w1,rs,hl,p1⟩
  .exact p1.elim
 refine W.callWith_K (h₀:=X.base) I.ok.mod.kin kp (Pj (ha pos pins s σ H _ I rd) (λus s1 ⟨vs,H1,I1,r,q⟩=>⟨I1.kIn,?_⟩) λ_ _ z=>z) he hpl;have hl:(us++[]).length=ps.length:=by rw[Pn,<- r.length];exact F'.len _ _ _ _ q
 refine wpAny_call (codeAny_mono (F'.run X.A X.stack s1 H1 ⟨us,[]⟩ us vs Q (ES σ) hr I1.env0 (by simpa using bb s1 us I1.kIn hl) r q) λr s' hq=>?_);cases r with
 |error ex=>exact hx pins σ H1 s1 ex s' I1 hq
 |
  ok fl=>
  cases fl with
  |ret u=>exact I1.after hq
  |next=>exact False.elim hq
  |brk=>exact False.elim hq
  |cont=>exact False.elim hq
noncomputable def fnD(n:Nat)(F:MS):Fn:=λds h=>match F (ds.map some++List.replicate (n-ds.length) none) h with
 |.nx _ h'=>.ok .non h'
 |.rt d h'=>.ok d h'
 |.exc c _ h'=>.exc c h'
 |_=>.stuck
def uS(hp:rE (CX1 X.prog X.w) X E):kA X (λ_=>E):=λpins σ H s e s' I h=>hp pins σ H s e s' I h
def CW:kA X (λ_=>E0):=λpins σ H s e s' I h=>Od pins σ H s e s' I h
end
section
variable{P:Program}{w:World}{K:W.Frag}{mg:Sa}{base:Heap}{x:Str}{st:Stmt}{k:Nat}{ps N:List Str}{F:MS}
def mM(rs:RelDs K mg ρ H ds vs):RelE K mg ρ H (ds.map some++List.replicate (N.length-ds.length) none) (fh N vs):=by
 unfold fh;refine⟨by rw[z_,z_,k_,k_,PL,PL,rs.len],λi d e=>?_⟩;by_cases hi:i<ds.length
 .rw[L_ (by rw[k_];exact hi),N_] at e;have e':ds[i]?=some d:=by
   cases q:ds[i]? with
   |none=>rw[q] at e;cases e
   |some z=>rw[q] at e;cases e;rfl
  obtain⟨v,h1,h2⟩:=rs.getD e';refine⟨v,?_,h2⟩;rw[L_ (by rw[k_,<- rs.len];exact hi),N_,h1];rfl
 .rw[O8 (by rw[k_];omega),PC] at e;split at e <;> cases e
def Def.okD(D:Def K mg x st)(S:FnScope N ps (ak st))
 (hb:∀(kV doc pm:Value) (an:Option Addr) (cdv ct:Value) (us:List Value),us.length=ps.length->bindArgs (W.fnOf x x (bO st) (aQ st) (ak st) .none kV doc pm an cdv ct) ⟨us,[]⟩=pure (ps.zip us))
 (db:∀(f:Addr) (cdv:Value) (A:Around) (outer:List Env) (s:Shared) (H:Hp) (E:XK),Room k (A.deeper (envOfC x (ak st) s.heap.objs.size f cdv))->
  DSs K mg (c7 (CX1 P w) P w K mg base N x (ak st) f cdv A outer s H E) (λ_=>E) (aQ st) F):Callee P w K mg base x (k+1) ps (spD K mg ps.length (fnD N.length F)):=by
 refine D.okR S hb (λvs H Q E ⟨ρ,h,ds,w,rs,hl,p⟩=>by rw[<- rs.len];exact hl) λf cdv A outer s H vs Q E hr ⟨ρ,h,ds,w',rs,hl,p⟩=>?_;refine⟨_,db f cdv A outer s H E hr,ρ,h,_,w',mM rs,?_⟩;unfold fnD at p;split at p
 .rename_i e;rw[e];exact λρ1 H1 σ1 l1 w1 re1=>p ρ1 H1 l1 w1 _ .non
 .rename_i e;rw[e];exact λρ1 H1 v l1 w1 rv=>p ρ1 H1 l1 w1 v rv
 .rename_i e;rw[e];exact λρ1 H1 σ1 C l1 w1 re1 m=>p ρ1 H1 C l1 w1 m
 .exact p.elim
end
noncomputable def aG(h:AH)(n:Nat):Option (List D):=match h[n]? with
 |some (.lst xs)=>some xs
 |some (.fz xs)=>some xs
 |_=>none
noncomputable def dn(h:AH):D->Option (List D)
 |.tup xs=>some xs
 |.ref n=>aG h n
 |.kl xs=>some xs
 |_=>none
section
variable{K:W.Frag}{mg:Sa}{ρ:List Addr}{H:Hp}{h:AH}
def bg(w:Wd K mg ρ h H)(ea:ρ[n]?=some a)(e:aG h n=some xs):∃vs,SqL K H a vs/\RelDs K mg ρ H xs vs:=by
 unfold aG at e;split at e
 .rename_i ys eo;cases e;obtain⟨vs,h1,h2⟩:=w.ob n a _ ea eo;exact⟨vs,SqL.of h1,h2⟩
 .rename_i ys eo;cases e;obtain⟨o,vs,h1,h2⟩:=w.ob n a _ ea eo;exact⟨vs,.inl (.inr ⟨o,h1⟩),h2⟩
 .cases e
def eJ(w:Wd K mg ρ h H)(r:RelD K mg ρ H d v)(e:dn h d=some xs):∃p vs,v=.ref p/\(SqL K H p vs\/SqT K H p vs)/\RelDs K mg ρ H xs vs:=by
 cases r with
 |tup q rs=>have e':some _=some xs:=e;cases e';exact⟨_,_,rfl,.inr q,rs⟩
 |ref ea=>obtain⟨vs,h1,h2⟩:=bg w ea e;exact⟨_,vs,rfl,.inl h1,h2⟩
 |kl q rs=>have e':some _=some xs:=e;cases e';exact⟨_,_,rfl,.inl (.inr q),rs⟩
 |_=>cases e
end
noncomputable def g2(f:Int->Int->R D)(x y:D):R D:=match x,y with
 |.int i,.int j=>f i j
 |_,_=>.stuck
noncomputable def gI(f:Int->Int->D):D->D->AH->R D:=λx y h=>match x,y with
 |.int i,.int j=>.ok (f i j) h
 |_,_=>.stuck
open Classical in
def gIc(C:Int->Int->Prop)(f:Int->Int->D):D->D->AH->R D:=λx y h=>match x,y with
 |.int i,.int j=>if C i j then .ok (f i j) h else .stuck
 |_,_=>.stuck
section
variable{K:W.Frag}{mg:Sa}{X:Cx}
def jV(hr:∀i j ρ H,RelD K mg ρ H (g i j) (f i j)):OpD K mg (rI0 f) (gI g):=λρ h H dx dy x y Q E w rx ry p=>by
 unfold gI at p;split at p
 .cases rx;cases ry;exact⟨_,_,rfl,rfl,az w (hr _ _ ρ H) p⟩
 .exact p.elim
def nC(hr:∀i j ρ H,RelD K mg ρ H (g i j) (f i j)):OpD K mg (rI C f) (gIc C g):=λρ h H dx dy x y Q E w rx ry p=>by
 unfold gIc at p;split at p
 .cases rx;cases ry;split at p
  .rename_i hc;exact⟨_,_,rfl,rfl,hc,az w (hr _ _ ρ H) p⟩
  .exact p.elim
 .exact p.elim
noncomputable def gOr(g g':D->D->AH->R D):D->D->AH->R D:=λx y h=>match g x y h with
 |.stuck=>g' x y h
 |r=>r
def OpD.or(a:OpD K mg r g)(b:OpD K mg r' g'):OpD K mg (λx y H Q=>r x y H Q\/r' x y H Q) (gOr g g'):=λρ h H dx dy x y Q E w rx ry p=>by
 unfold gOr at p;split at p
 .exact .inr (b ρ h H dx dy x y Q E w rx ry p)
 .exact .inl (a ρ h H dx dy x y Q E w rx ry p)
end
noncomputable def lU:D->D->AH->R D:=λx y h=>match x,y with
 |.ref n,.ref m=>match h[n]?,h[m]? with
  |some (.lst xs),some (.lst ys)=>if xs.length+ys.length<=16777216 then .ok (.ref h.length) (h++[.lst (xs++ys)]) else .stuck
  |_,_=>.stuck
 |.tup xs,.tup ys=>if xs.length+ys.length<=16777216 then .ok (.tup (xs++ys)) h else .stuck
 |_,_=>.stuck
noncomputable def gIx:D->D->AH->R D:=λx y h=>match dn h x,y with
 |some xs,.int i=>match atI xs i with
  |some d=>.ok d h
  |none=>.stuck
 |_,_=>.stuck
section
variable{K:W.Frag}{mg:Sa}{X:Cx}
def ku(K:W.Frag):R2:=λx y H Q=>∃a b ys,x=.ref a/\y=.ref b/\SqT K H a []/\SqT K H b ys/\Q (.ref b) H
def Gr:OpR X (binaryOp .Add) (ku X.K):=by
 intro pins s σ H x y v u Q I rx ry h;obtain⟨a,b,ys,rfl,rfl,ha,hb,q⟩:=h;cases rx;cases ry;obtain⟨its,r1,p1,_⟩:=I.tuple ha;obtain⟨its2,r2,p2,_⟩:=I.tuple hb;have e:its=[]:=r1.nil_iff.mpr rfl;subst e;obtain⟨⟨cls,dd,data,sl⟩,ho,hc,n,hd⟩:=id p1;obtain⟨⟨cls2,dd2,data2,sl2⟩,ho2,hc2,n2,hd2⟩:=id p2;simp only at hc hd hc2 hd2;subst hc hd hc2 hd2;exact concat_meets ⟨_,ho,rfl⟩ ⟨_,ho2,rfl⟩ noFill_tuple_add seq_tuple_add Rg Q6 (Q3 _ _)
  (tuple_addW0 _ _ _ _ n n2 dd dd2 sl sl2 rfl) ⟨ho,ho2,⟨.ref b,H,I,rfl,q⟩⟩
def E6:OpD K mg (λx y H Q=>oy x y H Q\/(kU K x y H Q\/ku K x y H Q)) lU:=λρ h H dx dy x y Q E w rx ry p=>by
 unfold lU at p;split at p
 .cases
   rx with
  |
   ref ea=>
   cases ry with
   |
    ref eb=>
    split at p
    .rename_i xs ys e1 e2;split at p
     .rename_i hl;obtain⟨vs,q1,r1⟩:=w.ob _ _ _ ea e1;obtain⟨ws,q2,r2⟩:=w.ob _ _ _ eb e2;exact .inl ⟨_,_,vs,ws,rfl,rfl,q1,q2,by rw[<- r1.len,<- r2.len];exact hl,λp' hp=>dM w (r1.append r2) hp p⟩
     .exact p.elim
    .exact p.elim
 .cases
   rx with
  |
   tup q1 r1=>
   cases ry with
   |
    tup q2 r2=>
    split at p
    .rename_i hl;cases r1 with
     |nil=>exact .inr (.inr ⟨_,_,_,rfl,rfl,q1,q2,az w (.tup q2 r2) p⟩)
     |cons r0 r1=>refine .inr (.inl ⟨_,_,_,_,rfl,rfl,q1,q2,(λz=>nomatch z),by rw[<- (RelDs.cons r0 r1).len,<- r2.len];exact hl,λz=>?_,λ_ p' hp=>i4 w ((RelDs.cons r0 r1).append r2) hp p⟩);subst z;cases r2;rw[Pn] at p;exact az w (.tup q1 (.cons r0 r1)) p
    .exact p.elim
 .exact p.elim
def FG(r:RelDs K mg ρ H xs vs)(e:atI xs i=some d):∃v,atI vs i=some v/\RelD K mg ρ H d v:=by
 unfold atI at e ⊢;rw[<- r.len];cases q:ixN xs.length i with
 |none=>rw[q] at e;cases e
 |some j=>rw[q] at e;exact r.getD e
def Ia:OpD K mg (λx y H Q=>xY K x y H Q\/yB K x y H Q) gIx:=λρ h H dx dy x y Q E w rx ry p=>by
 unfold gIx at p;split at p
 .rename_i xs i e1;split at p
  .rename_i d e2;cases ry;obtain⟨pa,vs,rfl,hq,rs⟩:=eJ w rx e1;obtain⟨v,e3,rv⟩:=FG rs e2;rcases hq with hq |hq
   .exact .inl ⟨_,_,_,_,rfl,rfl,hq,e3,az w rv p⟩
   .exact .inr ⟨_,_,_,_,rfl,rfl,hq,e3,az w rv p⟩
  .exact p.elim
 .exact p.elim
def ixK(h:X.K=K):IxR X (λx y H Q=>xY K x y H Q\/yB K x y H Q):=by subst h;exact F5.or Lm
def catK(h:X.K=K):OpR X (binaryOp .Add) (λx y H Q=>oy x y H Q\/(kU K x y H Q\/ku K x y H Q)):=by subst h;exact KH.or (FP.or Gr)
end
noncomputable def er:Nat->AH->D->Option PyData
 |0,_,_=>none
 |_+1,_,.non=>some .none
 |_+1,_,.bl b=>some (.bool b)
 |_+1,_,.int i=>some (.int i)
 |_+1,_,.str x=>some (.str x)
 |k+1,h,.tup xs=>(xs.mapM (er k h)).map .tuple
 |k+1,h,.ref n=>match aG h n with
  |some xs=>(xs.mapM (er k h)).map .list
  |none=>none
 |_+1,_,_=>none
def oU{K:W.Frag}{mg:Sa}{ρ:List Addr}{H:Hp}{f:D->Option PyData}(hf:∀d v pd,RelD K mg ρ H d v->f d=some pd->Rep K H v pd):∀{xs:List D}{vs:List V}{ps:List PyData},RelDs K mg ρ H xs vs->xs.mapM f=some ps->Reps K H vs ps:=by
 intro xs;induction xs with
 |nil=>intro vs ps r e;cases r;have e':some []=some _:=e;cases e';exact .nil
 |
  cons x xs ih=>
  intro vs ps r e;cases r with
  |
   cons r rr=>
   rw[QI] at e;cases q:f x with
   |none=>rw[q] at e;cases e
   |
    some pd=>
    rw[q] at e;cases q2:xs.mapM f with
    |none=>rw[q2] at e;cases e
    |some pds=>rw[q2] at e;have e':some (pd::pds)=some ps:=e;cases e';exact .cons (hf _ _ _ r q) (ih rr q2)
theorem i8{K:W.Frag}{mg:Sa}{ρ:List Addr}{H:Hp}{h:AH}(w:Wd K mg ρ h H):∀(k:Nat) {d:D}{v:V}{pd:PyData},RelD K mg ρ H d v->er k h d=some pd->Rep K H v pd
 |0,_,_,_,_,e=>by cases e
 |
  k+1,d,v,pd,r,e=>by
  cases r with
  |non=>have e':some _=some pd:=e;cases e';exact .non
  |bl b=>have e':some _=some pd:=e;cases e';exact .bl b
  |int b=>have e':some _=some pd:=e;cases e';exact .int b
  |str b=>have e':some _=some pd:=e;cases e';exact .str b
  |
   tup q rs=>
   rename_i ds;have e':(ds.mapM (er k h)).map PyData.tuple=some pd:=e;cases q2:ds.mapM (er k h) with
   |none=>rw[q2] at e';cases e'
   |some ps=>rw[q2] at e';cases e';exact .tup q (oU (λd v pd r e=>i8 w k r e) rs q2)
  |
   ref ea=>
   rename_i n a;unfold er at e;split at e
   .rename_i xs e1;obtain⟨vs,h1,h2⟩:=bg w ea e1;cases q2:xs.mapM (er k h) with
    |none=>rw[q2] at e;cases e
    |some ps=>rw[q2] at e;cases e;exact .lst h1 (oU (λd v pd r e=>i8 w k r e) h2 q2)
   .cases e
  |_=>cases e
noncomputable def sY(h:AH)(x y:D):Option Bool:=match er 164 h x,er 164 h y with
 |some a,some b=>if shp a=true/\shp b=true then some (PyData.eqv a b) else none
 |_,_=>none
noncomputable def gEq(neg:Bool):D->D->AH->R D:=λx y h=>match sY h x y with
 |some b=>.ok (.bl (if neg then !b else b)) h
 |none=>.stuck
section
variable{K:W.Frag}{mg:Sa}{X:Cx}
def vg(w:Wd K mg ρ h H)(rx:RelD K mg ρ H dx x)(ry:RelD K mg ρ H dy y)(e:sY h dx dy=some b):
 ∃a c,Rep K H x a/\Rep K H y c/\shp a=true/\shp c=true/\PyData.eqv a c=b:=by
 unfold sY at e;split at e
 .rename_i a c e1 e2;split at e
  .rename_i hs;cases e;exact⟨a,c,i8 w 164 rx e1,i8 w 164 ry e2,hs.1,hs.2,rfl⟩
  .cases e
 .cases e
def Ip:OpD K mg (xg K) (gEq false):=λρ h H dx dy x y Q E w rx ry p=>by
 unfold gEq at p;split at p
 .rename_i b e;obtain⟨a,c,h1,h2,h3,h4,rfl⟩:=vg w rx ry e;exact⟨a,c,h1,h2,h3,h4,az w (.bl _) p⟩
 .exact p.elim
def Jx:OpD K mg (wH K) (gEq true):=λρ h H dx dy x y Q E w rx ry p=>by
 unfold gEq at p;split at p
 .rename_i b e;obtain⟨a,c,h1,h2,h3,h4,rfl⟩:=vg w rx ry e;exact⟨a,c,h1,h2,h3,h4,az w (.bl _) p⟩
 .exact p.elim
end
def kP:D->Bool
 |.non=>true
 |.bl _=>true
 |.int _=>true
 |.str _=>true
 |_=>false
noncomputable def toV:D->V
 |.bl b=>.bl b
 |.int i=>.int i
 |.str x=>.str x
 |_=>.non
def eqF(x y:D):Bool:=eqV (toV x) (toV y)
noncomputable def gIn(neg:Bool):D->D->AH->R D:=λx y h=>match dn h y with
 |some xs=>if kP x=true/\xs.all kP=true then .ok (.bl (if neg then !(xs.any λd=>eqF d x) else xs.any λd=>eqF d x)) h else .stuck
 |none=>.stuck
section
variable{K:W.Frag}{mg:Sa}{X:Cx}{ρ:List Addr}{H:Hp}
def uw(r:RelD K mg ρ H d v)(f:kP d=true):v=toV d/\aY v=true:=by
 cases r with
 |non=>exact⟨rfl,rfl⟩
 |bl=>exact⟨rfl,rfl⟩
 |int=>exact⟨rfl,rfl⟩
 |str=>exact⟨rfl,rfl⟩
 |_=>cases f
def zD:∀{ds:List D}{vs:List V},RelDs K mg ρ H ds vs->ds.all kP=true->vs=ds.map toV/\vs.all aY=true:=by
 intro ds;induction ds with
 |nil=>intro vs r f;cases r;exact⟨rfl,rfl⟩
 |
  cons d0 ds ih=>
  intro vs r f;cases r with
  |cons r rr=>rw[QR,r_] at f;obtain⟨rfl,h1⟩:=uw r f.1;obtain⟨rfl,h2⟩:=ih rr f.2;exact⟨rfl,by rw[QR,h1,h2];rfl⟩
def zR(neg:Bool):OpD K mg (rIn K neg) (gIn neg):=λρ h H dx dy x y Q E w rx ry p=>by
 unfold gIn at p;split at p
 .rename_i xs e;split at p
  .rename_i hf;obtain⟨pa,vs,rfl,hq,rs⟩:=eJ w ry e;obtain⟨rfl,f1⟩:=uw rx hf.1;obtain⟨rfl,f2⟩:=zD rs hf.2;refine⟨pa,_,rfl,hq,f1,f2,?_⟩;have e2:inV (toV dx) (xs.map toV)=xs.any λd=>eqF d dx:=by unfold inV eqF;rw[List.any_map];rfl
   rw[e2];exact az w (.bl _) p
  .exact p.elim
 .exact p.elim
noncomputable def AX(neg:Bool):D->D->AH->R D:=λx y h=>match x,y with
 |.non,.non=>.ok (.bl (!neg)) h
 |_,.non=>.ok (.bl neg) h
 |_,_=>.stuck
end
noncomputable def Itd(lo:Int)(n:Nat):It:=⟨λj _=>j<n,λj G v G'=>G'=G/\v=.int (lo-j),λj _=>n<=j⟩
inductive AIt where
 |lst (n:Nat) (xs:List D) |tup (xs:List D) |rng (lo:Int) (k:Nat) |rgd (lo:Int) (k:Nat) |enm (s:AIt) |zip (s t:AIt)
noncomputable def iD:Nat->List D->List D
 |_,[]=>[]
 |i,d::ds=>.tup [.int (i:Nat),d]::iD (i+1) ds
noncomputable def AIt.items:AIt->List D
 |.lst _ xs=>xs
 |.tup xs=>xs
 |.rng lo k=>(List.range k).map λi=>D.int (lo+(i:Nat))
 |.rgd lo k=>(List.range k).map λi=>D.int (lo-(i:Nat))
 |.enm s=>iD 0 s.items
 |.zip s t=>List.zipWith (λx y=>.tup [x,y]) s.items t.items
def AIt.guard:AIt->AH->Prop
 |.lst n xs,h=>aG h n=some xs
 |.enm s,h=>s.guard h
 |.zip s t,h=>s.guard h/\t.guard h
 |_,_=>True
def SrcR(K:W.Frag)(mg:Sa)(ρ:List Addr)(H:Hp):AIt->Bool->Addr->Prop
 |.lst n _,true,a=>ρ[n]?=some a
 |.tup xs,false,p=>∃vs,SqT K H p vs/\RelDs K mg ρ H xs vs
 |_,_,_=>False
def ItR(K:W.Frag)(mg:Sa)(ρ:List Addr)(H:Hp):AIt->It->Prop
 |.lst n _,J=>∃a,ρ[n]?=some a/\J=Itl K a
 |.tup xs,J=>∃p vs,SqT K H p vs/\RelDs K mg ρ H xs vs/\J=Itt K p
 |.rng lo k,J=>J=Itr lo k
 |.rgd lo k,J=>J=Itd lo k
 |.enm s,J=>∃b a,SrcR K mg ρ H s b a/\J=IteE K b a
 |.zip s t,J=>∃b c a d,SrcR K mg ρ H s b a/\SrcR K mg ρ H t c d/\J=ItZ K b c a d
theorem sd:∀{ds:List D}{k i:Nat}{e:D},(iD k ds)[i]?=some e->∃d,ds[i]?=some d/\e=.tup [.int ((k+i:Nat):Int),d]
 | [],_,_,_,q=>by simp [iD] at q
 |d::ds,k,0,e,q=>⟨d,rfl,by simpa [iD] using q.symm⟩
 |
  d::ds,k,i+1,e,q=>by
  obtain⟨d',q1,q2⟩:=sd (ds:=ds) (k:=k+1) (i:=i) (e:=e) (by simpa [iD] using q);refine⟨d',by simpa using q1,?_⟩;rw[q2];congr 4;omega
theorem tW:∀(ds:List D) (k:Nat),(iD k ds).length=ds.length
 | [],_=>rfl
 |_::ds,k=>by show (iD (k+1) ds).length+1=ds.length+1;rw[tW ds]
section
variable{K:W.Frag}{mg:Sa}{ρ ρ1:List Addr}{H H1:Hp}{h h1:AH}
def SrcR.at_(r:SrcR K mg ρ H s b a)(l:Le ρ H ρ1 H1)(w:Wd K mg ρ1 h1 H1)(g:s.guard h1):∃vs,SqB K b H1 a vs/\RelDs K mg ρ1 H1 s.items vs:=by
 cases s with
 |
  lst n xs=>
  cases b with
  |true=>exact bg w (l.pre _ _ r) g
  |false=>exact r.elim
 |
  tup xs=>
  cases b with
  |true=>exact r.elim
  |false=>obtain⟨vs,q,rs⟩:=r;exact⟨vs,l.sqT q,rs.mono l⟩
 |rng _ _=>cases b <;> exact r.elim
 |rgd _ _=>cases b <;> exact r.elim
 |enm _=>cases b <;> exact r.elim
 |zip _ _=>cases b <;> exact r.elim
def ItR.nums{f:Nat->Int}{k:Nat}(w:Wd K mg ρ1 h1 H1):(∀(i:Nat) (d:D),((List.range k).map λi=>D.int (f i))[i]?=some d->i<k/\∀x H',(H'=H1/\x=V.int (f i))->Le ρ1 H1 ρ1 H'/\Wd K mg ρ1 h1 H'/\RelD K mg ρ1 H' d x)/\k<=((List.range k).map λi=>D.int (f i)).length:=by
 refine⟨λi d e=>?_,by simp⟩;rw[N_] at e;cases q:(List.range k)[i]? with
 |none=>rw[q] at e;cases e
 |some j=>rw[q] at e;have hj:=p_.mp q;have e2:=hj.2;rw[List.getElem_range] at e2;subst e2;cases e;refine⟨by simpa using hj.1,λx H' ⟨e1,e2⟩=>?_⟩;subst e1 e2;exact⟨Le.refl,w,.int _⟩
def ItR.step(hJ:ItR K mg ρ H it J)(l:Le ρ H ρ1 H1)(w:Wd K mg ρ1 h1 H1)(g:it.guard h1):
 (∀(i:Nat) (d:D),it.items[i]?=some d->J.go i H1/\∀x H',J.yld i H1 x H'->Le ρ1 H1 ρ1 H'/\Wd K mg ρ1 h1 H'/\RelD K mg ρ1 H' d x)/\J.stop it.items.length H1:=by
 cases it with
 |
  lst n xs=>
  obtain⟨a,ea,rfl⟩:=hJ;obtain⟨vs,q,rs⟩:=bg w (l.pre _ _ ea) g;refine⟨λi d e=>?_,vs,q,by rw[<- rs.len];exact o_ _⟩;obtain⟨v,ev,rv⟩:=rs.getD e;refine⟨⟨vs,v,q,ev⟩,λx H' ⟨e1,y⟩=>?_⟩;subst e1
  have:=(y vs q).symm.trans ev
  cases this;exact⟨Le.refl,w,rv⟩
 |
  tup xs=>
  obtain⟨p,vs,q,rs,rfl⟩:=hJ;have q1:=l.sqT q;have rs1:=rs.mono l;refine⟨λi d e=>?_,vs,q1,by rw[<- rs1.len];exact o_ _⟩;obtain⟨v,ev,rv⟩:=rs1.getD e;refine⟨⟨vs,v,q1,ev⟩,λx H' ⟨e1,y⟩=>?_⟩;subst e1
  have:=(y vs q1).symm.trans ev
  cases this;exact⟨Le.refl,w,rv⟩
 |rng lo k=>cases hJ;exact ItR.nums w
 |rgd lo k=>cases hJ;exact ItR.nums w
 |
  enm s=>
  obtain⟨b,a,r,rfl⟩:=hJ;obtain⟨vs,q,rs⟩:=r.at_ l w g;refine⟨λi d e=>?_,vs,q,by show vs.length=(iD 0 s.items).length;rw[tW,rs.len]⟩;obtain⟨d',q1,rfl⟩:=sd (show (iD 0 s.items)[i]?=some d from e);obtain⟨v,ev,rv⟩:=rs.getD q1;refine⟨⟨vs,v,q,ev⟩,λx H' ⟨p,u,e1,hp,e2,hu⟩=>?_⟩;subst e1 e2
  have:=(hu vs q).symm.trans ev
  cases this;rw[Nat.zero_add];exact⟨bW hp,w.tuple hp,.tup (SqT.of aM) (.cons (.int _) (.cons (rv.mono (bW hp)) .nil))⟩
 |
  zip s t=>
  obtain⟨b,c,a,d,r1,r2,rfl⟩:=hJ;obtain⟨vs,q,rs⟩:=r1.at_ l w g.1;obtain⟨us,q',rs'⟩:=r2.at_ l w g.2;refine⟨λi e ei=>?_,vs,us,q,q',?_⟩
  .have ei':(List.zipWith (λx y=>D.tup [x,y]) s.items t.items)[i]?=some e:=ei;rw[Qn] at ei';cases k1:s.items[i]? with
   |none=>rw[k1] at ei';cases ei'
   |
    some d1=>
    cases k2:t.items[i]? with
    |none=>rw[k1,k2] at ei';cases ei'
    |
     some d2=>
     rw[k1,k2] at ei';cases ei';obtain⟨v,ev,rv⟩:=rs.getD k1;obtain⟨v',ev',rv'⟩:=rs'.getD k2;refine⟨⟨vs,us,v,v',q,q',ev,ev'⟩,λx H' ⟨p,u,u',e1,hp,e2,hu,hu'⟩=>?_⟩;subst e1 e2
     have:=(hu vs q).symm.trans ev
     cases this
     have:=(hu' us q').symm.trans ev'
     cases this;exact⟨bW hp,w.tuple hp,.tup (SqT.of aM) (.cons (rv.mono (bW hp)) (.cons (rv'.mono (bW hp)) .nil))⟩
  .have hl:(AIt.zip s t).items.length=min s.items.length t.items.length:=Qx ..;rw[hl,rs.len,rs'.len];rcases Nat.le_total vs.length us.length with z |z
   .left;rw[Nat.min_eq_left z];exact List.getElem?_eq_none (o_ _)
   .right;rw[Nat.min_eq_right z];exact List.getElem?_eq_none (o_ _)
end
noncomputable def SR.loop(r:SR)(f:AE->AH->SR):SR:=match r with
 |.nx ae h=>f ae h
 |.ct ae h=>f ae h
 |.bk ae h=>.nx ae h
 |.rt d h=>.rt d h
 |.exc c ae h=>.exc c ae h
 |.stuck=>.stuck
open Classical in
def jm(G:AH->Prop)(g:MG)(B:MS):List D->MS
 | [],ae,h=>if G h then .nx ae h else .stuck
 |d::ds,ae,h=>if G h then (g d ae h).toS ae λg_ h1=>(B g_ h1).loop (jm G g B ds) else .stuck
abbrev MI:=AE->AH->R AIt
def Bi(I:MI)(g:MG)(B:MS):MS:=λae h=>(I ae h).toS ae λit h1=>jm it.guard g B it.items ae h1
open Classical in
def lcL(G:AH->Prop)(g:MG)(c:MT)(F:ME):List D->List D->AE->AH->R (List D)
 | [],acc,_,h=>if G h then .ok acc h else .stuck
 |d::ds,acc,ae,h=>if G h/\acc.length<16777216 then (g d ae h).bind λg_ h1=>(c g_ h1).bind λb h2=>if b=true then (F g_ h2).bind λy h3=>lcL G g c F ds (acc++[y]) g_ h3 else lcL G g c F ds acc g_ h2 else .stuck
noncomputable def ji(sub:Se)(ae:AE):AE:=sub.map λo=>o.bind λi=>(ae[i]?).bind id
def eLC(I:MI)(sub:Se)(g:MG)(c:MT)(F:ME):ME:=λae h=>(I ae h).bind λit h1=>(noX (lcL it.guard g c F it.items [] (ji sub ae) h1)).bind dH
noncomputable def tY:MT:=λ_ h=>.ok true h
section
variable(K:W.Frag)(mg:Sa)
def rdI(ES:St->XK)(F:MI):TI:=λσ H R'=>∃ρ h ae,Wd K mg ρ h H/\RelE K mg ρ H ae σ/\PostG K mg ρ H (ES σ) (λit _ ρ' H'=>∀J,ItR K mg ρ' H' it J->R' J H') (F ae h)
def DI(X:Cx)(ES:St->XK)(tg a_:Expr)(F:MI):Prop:=PI X tg a_ (rdI K mg ES F)
end
noncomputable def Cg(F:ME):MI:=λae h=>(F ae h).bind λd h1=>match d with
 |.tup xs=>.ok (.tup xs) h1
 |.ref n=>match aG h1 n with
  |some xs=>.ok (.lst n xs) h1
  |none=>.stuck
 |_=>.stuck
noncomputable def BA(A:MA):MI:=λae h=>(A ae h).bind λds h1=>match ds with
 | [.int j]=>if -(2^62)<=j/\j<2^62 then .ok (.rng 0 j.toNat) h1 else .stuck
 |_=>.stuck
noncomputable def gn(d:D)(h:AH):Option AIt:=match d with
 |.tup xs=>some (.tup xs)
 |.ref n=>(aG h n).map (.lst n)
 |_=>none
noncomputable def Cz(A:MA):MI:=λae h=>(A ae h).bind λds h1=>match ds with
 | [d,e]=>(match gn d h1,gn e h1 with
  |some s,some t=>.ok (.zip s t) h1
  |_,_=>.stuck)
 |_=>.stuck
section
variable{K:W.Frag}{mg:Sa}{X:Cx}{ES:St->XK}{tg a_ e a b c im:Expr}{F:ME}{A:MA}{I:MI}{g:MG}{cf:MT}{U:MS}{sts:List Stmt}{pos:Pos}
def PI.imp(h:PI X tg a_ t)(k:∀σ H Q,t' σ H Q->t σ H Q):PI X tg a_ t':=λpins s σ H Q I w=>h pins s σ H Q I (k σ H Q w)
def Hk(hl:PE X l tl):PI X tg l (λσ H R=>tl σ H λx H1=>(∃a,x=.ref a/\(∃xs,SqL X.K H1 a xs)/\R (Itl X.K a) H1)\/(∃a,x=.ref a/\(∃xs,SqT X.K H1 a xs)/\R (Itt X.K a) H1)):=by
 intro pins s σ H R I h;refine thn (hl pins s σ H _ I h) λv s1 ⟨x,H1,I1,r1,q1⟩=>?_;rcases q1 with ⟨a,e,⟨xs,hq⟩,q⟩ |⟨a,e,⟨xs,hq⟩,q⟩
 .subst e;cases r1;obtain⟨its,rv,p,hz⟩:=I1.list hq;refine wpAny_pyIter_list p.isList ?_;refine⟨s1.heap.objs.size,[s1.heap.objs.size],_,_,H1,rfl,I1.kept (t':=s1.toks) λb o e=>l_ _ e,yE a _,⟨_,C_ _ rfl,rfl,rfl⟩,λb hb=>?_,q⟩;have e:b=s1.heap.objs.size:=by simpa using hb
  subst e;exact I1.fpOk (o_ _) (I1.hok.fresh (o_ _))
 .subst e;cases r1;obtain⟨its,rv,p,hz⟩:=I1.tuple hq;refine wpAny_pyIter_tuple (show s1.heap.IsTuple a its.toArray from p) ?_;refine⟨s1.heap.objs.size,[s1.heap.objs.size],_,_,H1,rfl,I1.kept (t':=s1.toks) λb o e=>l_ _ e,xt a _,⟨_,C_ _ rfl,rfl,rfl⟩,λb hb=>?_,q⟩;have e:b=s1.heap.objs.size:=by simpa using hb
  subst e;exact I1.fpOk (o_ _) (I1.hok.fresh (o_ _))
def HF(hK:X.K=K)(he:DE K mg X ES e F):DI K mg X ES tg e (Cg F):=by
 subst hK;refine PI.imp (Hk he) λσ H R ⟨ρ,h,ae,w,re,p⟩=>⟨ρ,h,ae,w,re,p.bind.imp λd h1 ρ1 H1 l1 w1 p1 v rv=>?_⟩;cases rv with
 |tup q rs=>exact .inr ⟨_,rfl,⟨_,q⟩,p1 ρ1 H1 Le.refl w1 _ ⟨_,_,q,rs,rfl⟩⟩
 |
  ref ea=>
  dsimp only at p1;split at p1
  .rename_i xs e1;obtain⟨vs,q,rs⟩:=bg w1 ea e1;exact .inl ⟨_,rfl,⟨_,q⟩,p1 ρ1 H1 Le.refl w1 _ ⟨_,ea,rfl⟩⟩
  .exact p1.elim
 |_=>exact p1.elim
def yS(hg:Gl X "range")(hm:mg "range"=none)(ha:DA K mg X ES [a] A)(hk:X.mg=mg)(hs:starEach [a] X.env=[(false,eval a X.env)]):DI K mg X ES tg (.Call (.Name "range" p) [a] [] pos) (BA A):=by
 subst hk;refine PI.imp (AL hg hm ha hs) λσ H R ⟨ρ,h,ae,w,re,p⟩=>⟨ρ,h,ae,w,re,p.bind.imp λds h1 ρ1 H1 l1 w1 p1 vs rs=>?_⟩;split at p1
 .cases rs with
  |
   cons r rs=>
   cases r;cases rs;split at p1
   .rename_i hb;exact⟨_,rfl,hb.1,hb.2,p1 ρ1 H1 Le.refl w1 _ rfl⟩
   .exact p1.elim
 .exact p1.elim
def o7(w:Wd K mg ρ h H)(r:RelD K mg ρ H d v)(q:gn d h=some s):∃b p,v=.ref p/\SrcR K mg ρ H s b p/\∃vs,SqB K b H p vs:=by
 cases r with
 |tup hq rs=>cases q;exact⟨false,_,rfl,⟨_,hq,rs⟩,_,hq⟩
 |ref ea=>obtain⟨xs,q1,rfl⟩:=G_.mp q;obtain⟨vs,h1,h2⟩:=bg w ea q1;exact⟨true,_,rfl,ea,vs,h1⟩
 |_=>cases q
def L9(hK:X.K=K)(hg:Gl X "zip")(hm:mg "zip"=none)(ha:DA K mg X ES [a,b] A)(hk:X.mg=mg)(hs:starEach [a,b] X.env=[(false,eval a X.env),(false,eval b X.env)])(hs2:starEach [b] X.env=[(false,eval b X.env)]):DI K mg X ES (.Tuple elts x1 tp) (.Call (.Name "zip" p) [a,b] [] pos) (Cz A):=by
 subst hk hK;refine PI.imp (JZ hg hm ha hs hs2) λσ H R ⟨ρ,h,ae,w,re,p⟩=>⟨ρ,h,ae,w,re,p.bind.imp λds h1 ρ1 H1 l1 w1 p1 vs rs=>?_⟩;split at p1
 .cases
   rs with
  |
   cons r rs=>
   cases rs with
   |
    cons r' rs=>
    cases rs;split at p1
    .rename_i s t q q';obtain⟨b,pa,rfl,sr,xs,hx⟩:=o7 w1 r q;obtain⟨c,pd,rfl,sr',ys,hy⟩:=o7 w1 r' q';exact⟨b,c,pa,pd,xs,ys,rfl,hx,hy,p1 ρ1 H1 Le.refl w1 _ ⟨b,c,pa,pd,sr,sr',rfl⟩⟩
    .exact p1.elim
 .exact p1.elim
def rj(p:PostS K mg ρ H De ES (r.loop f))(i:∀g_ h1 ρ1 H1 σ1,Le ρ H ρ1 H1->Wd K mg ρ1 h1 H1->RelE K mg ρ1 H1 g_ σ1->PostS K mg ρ1 H1 De ES (f g_ h1)->N σ1 H1):
 PostS K mg ρ H { De with nx:=N,ct:=N,bk:=De.nx } ES r:=by
 cases r with
 |nx g_ h1=>exact λρ1 H1 σ1 l1 w1 re1=>i g_ h1 ρ1 H1 σ1 l1 w1 re1 (PostS.mono l1 p)
 |rt d h1=>exact p
 |bk g_ h1=>exact p
 |ct g_ h1=>exact λρ1 H1 σ1 l1 w1 re1=>i g_ h1 ρ1 H1 σ1 l1 w1 re1 (PostS.mono l1 p)
 |exc c g_ h1=>exact p
 |stuck=>exact p
def KO(hp:PassesOwn (model X.prog X.w) X.A X.env X.xe)(hc:X.calm=true)(hi:DI K mg X ES tg a_ I)(hg:DG K mg X ES tg g)(hb:DSs K mg X ES sts U)
 (hs:∀x,foldedSetIterable a_ X.env x=pure x):DS K mg X ES (.For tg a_ sts [] pos) (Bi I g U):=by
 refine PS.imp (K3 hp hc hi hg hb hs) λDe σ H q_=>q_.el λρ h ae w re p=>⟨ρ,h,ae,w,re,bN p re λit h1 ρ1 H1 l1 w1 re1 p1 J hJ=>?_⟩;refine⟨λi m σ2 H2=>m=it.items.length-i/\i<=it.items.length/\∃ρ2 h2 ae2,Le ρ1 H1 ρ2 H2/\Wd K mg ρ2 h2 H2/\RelE K mg ρ2 H2 ae2 σ2/\PostS K mg ρ2 H2 De ES (jm it.guard g U (it.items.drop i) ae2 h2),⟨_,rfl,M_ _,ρ1,h1,ae,Le.refl,w1,re1,p1⟩,?_⟩;rintro i m σ2 H2 ⟨rfl,hi',ρ2,h2,ae2,l2,w2,re2,p2⟩;by_cases hlt:i<it.items.length
 .have hd:it.items.drop i=it.items[i]::it.items.drop (i+1):=List.drop_eq_getElem_cons hlt;rw[hd] at p2;unfold jm at p2;split at p2
  .rename_i hG;obtain⟨st,_⟩:=hJ.step l2 w2 hG;obtain⟨go,yl⟩:=st i it.items[i] (y_ hlt);refine .inr ⟨go,λσ' H'=>∃ρ3 h3 ae3,Le ρ1 H1 ρ3 H'/\Wd K mg ρ3 h3 H'/\RelE K mg ρ3 H' ae3 σ'/\PostS K mg ρ3 H' De ES (jm it.guard g U (it.items.drop (i+1)) ae3 h3),
    λσ' H' ⟨ρ3,h3,ae3,q⟩=>⟨_,by omega,rfl,hlt,ρ3,h3,ae3,q⟩,λx H' hy=>?_⟩
   obtain⟨ly,wy,rx⟩:=yl x H' hy;refine⟨ρ2,h2,ae2,_,wy,re2.mono ly,rx,bN (PostS.mono ly p2) (re2.mono ly) λae3 h3 ρ3 H3 l3 w3 re3 p3 σ' re'=>⟨ρ3,h3,ae3,w3,re',rj p3 λae4 h4 ρ4 H4 σ4 l4 w4 re4 p4=>⟨ρ4,h4,ae4,((l2.trans ly).trans l3).trans l4,w4,re4,p4⟩⟩⟩
  .exact p2.elim
 .have hi2:i=it.items.length:=by omega
  subst hi2;rw[List.drop_length] at p2;unfold jm at p2;split at p2
  .rename_i hG;exact .inl ⟨(hJ.step l2 w2 hG).2,gq p2 w2 re2⟩
  .exact p2.elim
def BQ(re:RelE K mg ρ H ae σ)(sub:Se):RelE K mg ρ H (ji sub ae) (fR sub σ):=by
 unfold ji fR;refine⟨by rw[k_,k_],λj d e=>?_⟩;rw[N_] at e ⊢;cases q:sub[j]? with
 |none=>rw[q] at e;cases e
 |
  some o=>
  rw[q] at e;cases o with
  |none=>cases e
  |
   some i=>
   have e':(ae[i]?).bind id=some d:=K_ e;cases q2:ae[i]? with
   |none=>rw[q2] at e';cases e'
   |some z=>rw[q2] at e';have e3:z=some d:=e';subst e3;obtain⟨v,h1,h2⟩:=re.at_ i d q2;refine⟨v,?_,h2⟩;show some ((σ[i]?).bind id)=some (some v);rw[h1];rfl
def lX(p:PostG K mg ρ H E k ((noX (r.bind f)).bind m)):
 PostG K mg ρ H E0 (λa h1 ρ' H'=>PostG K mg ρ' H' E k ((noX (f a h1)).bind m)) r:=by
 cases r with
 |ok a h1=>exact λρ1 H1 l1 w1=>PostG.mono l1 p
 |exc c h1=>exact p.elim
 |stuck=>exact p.elim
def Ez(σ:St)(H:Hp)(Q:VK)(q:rdE K mg ES (eLC I sub g cf F) σ H Q):jf (rdI K mg ES I) sub (rdG K mg (λ_=>E0) g) (rdT K mg (λ_=>E0) cf) (rdE K mg (λ_=>E0) F) σ H Q:=by
 obtain⟨ρ,h,ae,w,re,p⟩:=q;refine⟨ρ,h,ae,w,re,p.bind.imp λit h1 ρ1 H1 l1 w1 p1 J hJ=>?_⟩;have re1:=BQ (re.mono l1) sub;refine⟨λi m ys σ2 H2=>m=it.items.length-i/\i<=it.items.length/\∃ρ2 h2 ae2 acc,Le ρ1 H1 ρ2 H2/\Wd K mg ρ2 h2 H2/\RelE K mg ρ2 H2 ae2 σ2/\RelDs K mg ρ2 H2 acc ys/\
  PostG K mg ρ2 H2 (ES σ) (λd _ ρ' H'=>∀v,RelD K mg ρ' H' d v->Q v H') ((noX (lcL it.guard g cf F (it.items.drop i) acc ae2 h2)).bind dH),
  ⟨_,rfl,M_ _,ρ1,h1,ji sub ae,[],Le.refl,w1,re1,.nil,p1⟩,?_⟩
 rintro i m ys σ2 H2 ⟨rfl,hi',ρ2,h2,ae2,acc,l2,w2,re2,rs,p2⟩;by_cases hlt:i<it.items.length
 .have hd:it.items.drop i=it.items[i]::it.items.drop (i+1):=List.drop_eq_getElem_cons hlt;rw[hd] at p2;unfold lcL at p2;split at p2
  .rename_i hG;obtain⟨st,_⟩:=hJ.step l2 w2 hG.1;obtain⟨go,yl⟩:=st i it.items[i] (y_ hlt);refine .inr ⟨go,by rw[<- rs.len];exact hG.2,λys' σ' H'=>∃ρ3 h3 ae3 acc3,Le ρ1 H1 ρ3 H'/\Wd K mg ρ3 h3 H'/\RelE K mg ρ3 H' ae3 σ'/\RelDs K mg ρ3 H' acc3 ys'/\
    PostG K mg ρ3 H' (ES σ) (λd _ ρ' H'=>∀v,RelD K mg ρ' H' d v->Q v H') ((noX (lcL it.guard g cf F (it.items.drop (i+1)) acc3 ae3 h3)).bind dH),
    λys' σ' H' ⟨ρ3,h3,ae3,acc3,q⟩=>⟨_,by omega,rfl,hlt,ρ3,h3,ae3,acc3,q⟩,λx H' hy=>?_⟩
   obtain⟨ly,wy,rx⟩:=yl x H' hy;refine⟨ρ2,h2,ae2,_,wy,re2.mono ly,rx,(lX (PostG.mono ly p2)).imp λae3 h3 ρ3 H3 l3 w3 p3 σ3 re3=>⟨ρ3,h3,ae3,w3,re3,(lX p3).imp λb h4 ρ4 H4 l4 w4 p4=>?_⟩⟩;cases b with
   |true=>exact⟨ρ4,h4,ae3,w4,re3.mono l4,(lX p4).imp λy h5 ρ5 H5 l5 w5 p5 v rv=>⟨ρ5,h5,ae3,acc++[y],(((l2.trans ly).trans l3).trans l4).trans l5,w5,(re3.mono l4).mono l5,((((rs.mono ly).mono l3).mono l4).mono l5).append (.cons rv .nil),p5⟩⟩
   |false=>exact⟨ρ4,h4,ae3,acc,((l2.trans ly).trans l3).trans l4,w4,re3.mono l4,((rs.mono ly).mono l3).mono l4,p4⟩
  .exact p2.elim
 .have hi2:i=it.items.length:=by omega
  subst hi2;rw[List.drop_length] at p2;unfold lcL at p2;split at p2
  .rename_i hG;refine .inl ⟨(hJ.step l2 w2 hG).2,?_⟩;have p3:PostG K mg ρ2 H2 (ES σ) (λd _ ρ' H'=>∀v,RelD K mg ρ' H' d v->Q v H') (dH acc h2):=p2;unfold dH at p3;split at p3
   .rename_i hl;exact⟨by rw[<- rs.len];exact hl,λq hq=>dM w2 rs hq p3⟩
   .exact p3.elim
  .exact p2.elim
def MN(M:List Str)(kn:List (Str×NameKind))(N:List Str)(sub:Se)
 (hc:X.calm=true) (hi:DI K mg X ES tg a_ I)
 (hg:∀cl C s₂ H fp,DG K mg (aK X N scope cl C s₂ H fp) (λ_=>E0) tg g) (he:∀cl C s₂ H fp,DE K mg (aK X N scope cl C s₂ H fp) (λ_=>E0) im F)
 (hM:X.N=M) (hkn:X.env.scope.names=kn) (em:fP M scope.names sub N=true)
 (hk:scope.kind=.function) (hnc:∀x∈scope.names,x.2 ≠ .cell) (b_:∀x∈scope.names,x.2=.local->scope.names.lookup x.1=some .local)
 (hfr:iB kn scope.names=true)
 (hsl:sub.length=N.length) (hs:∀x,foldedSetIterable a_ X.env x=pure x):
 DE K mg X ES (.ListComp im [⟨tg,a_,[],0⟩] scope pos) (eLC I sub g tY F):=
 PE.imp (OD M kn N sub hc hi hg he hM hkn em hk hnc b_ hfr hsl hs) λσ H Q q=>by
  have:=Ez (cf:=tY) σ H Q q
  obtain⟨ρ,h,ae,w,re,p⟩:=this;refine⟨ρ,h,ae,w,re,p.imp λit h1 ρ1 H1 l1 w1 k J hJ=>?_⟩;obtain⟨W,w0,tn⟩:=k J hJ;refine⟨W,w0,λi m ys σ2 H2 hW=>?_⟩;rcases tn i m ys σ2 H2 hW with z |⟨go,hl,Nx,hN,st⟩
  .exact .inl z
  .refine .inr ⟨go,hl,Nx,hN,λx H' hy=>?_⟩;obtain⟨ρ3,h3,ae3,d3,w3,re3,rd3,p3⟩:=st x H' hy;refine⟨ρ3,h3,ae3,d3,w3,re3,rd3,p3.imp λae4 h4 ρ4 H4 l4 w4 k4 σ4 re4=>?_⟩;obtain⟨ρ5,h5,ae5,w5,re5,p5⟩:=k4 σ4 re4;exact p5 ρ5 _ Le.refl w5
def Jh(σ:St)(H:Hp)(Q:VK)(q:rdE K mg ES (eLC I sub g tY F) σ H Q):jf (rdI K mg ES I) sub (rdG K mg (λ_=>E0) g) A4 (rdE K mg (λ_=>E0) F) σ H Q:=by
 have:=Ez (cf:=tY) σ H Q q
 obtain⟨ρ,h,ae,w,re,p⟩:=this;refine⟨ρ,h,ae,w,re,p.imp λit h1 ρ1 H1 l1 w1 k J hJ=>?_⟩;obtain⟨W,w0,tn⟩:=k J hJ;refine⟨W,w0,λi m ys σ2 H2 hW=>?_⟩;rcases tn i m ys σ2 H2 hW with z |⟨go,hl,Nx,hN,st⟩
 .exact .inl z
 .refine .inr ⟨go,hl,Nx,hN,λx H' hy=>?_⟩;obtain⟨ρ3,h3,ae3,d3,w3,re3,rd3,p3⟩:=st x H' hy;refine⟨ρ3,h3,ae3,d3,w3,re3,rd3,p3.imp λae4 h4 ρ4 H4 l4 w4 k4 σ4 re4=>?_⟩;obtain⟨ρ5,h5,ae5,w5,re5,p5⟩:=k4 σ4 re4;exact p5 ρ5 _ Le.refl w5
def Fe(ht:∀σ H Q,rdE K mg ES F σ H Q->t σ H Q)(De:Ends)(σ:St)(H:Hp)(q:rdS K mg ES (ir F (gN i)) De σ H):sN t (m5 i) De σ H:=by obtain⟨ρ,h,ae,w,re,p⟩:=q;exact ht σ H _ ⟨ρ,h,ae,w,re,bN p re λd h1 ρ1 H1 l1 w1 re1 p1 v rv=>gq p1 w1 (re1.set i rv)⟩
def N0(M:List Str)(kn:List (Str×NameKind))(N:List Str)(sub:Se)
 (hc:X.calm=true) (hN:X.N.Nodup) (hix:X.N[iT]?=some xT) (hxl:Loc X.env.scope xT) (hi:DI K mg X ES tg a_ I)
 (hg:∀cl C s₂ H fp,DG K mg (aK X N scope cl C s₂ H fp) (λ_=>E0) tg g) (he:∀cl C s₂ H fp,DE K mg (aK X N scope cl C s₂ H fp) (λ_=>E0) im F)
 (hsw:swapsWith (.ListComp im [⟨tg,a_,[],0⟩] scope pos) (some (.Name xT px)) spos.line X.env=pure true)
 (hM:X.N=M) (hkn:X.env.scope.names=kn) (em:fP M scope.names sub N=true)
 (hk:scope.kind=.function) (hnc:∀x∈scope.names,x.2 ≠ .cell) (b_:∀x∈scope.names,x.2=.local->scope.names.lookup x.1=some .local)
 (hfr:iB kn scope.names=true)
 (hsl:sub.length=N.length) (hs:∀x,foldedSetIterable a_ X.env x=pure x) (hf:X.fn xT=true\/X.env.scope.names.lookup xT=some .local):
 DS K mg X ES (.Assign [.Name xT px] (.ListComp im [⟨tg,a_,[],0⟩] scope pos) spos) (ir (eLC I sub g tY F) (gN iT)):=
 PS.imp (My M kn N sub hc hN hix hxl hi hg he hsw hM hkn em hk hnc b_ hfr hsl hs hf) (Fe Jh)
end
noncomputable def whN(c:MT)(B:MS):Nat->MS
 |0,_,_=>.stuck
 |k+1,ae,h=>(c ae h).toS ae λb h1=>if b=true then (B ae h1).loop (whN c B k) else .nx ae h1
open Classical in
def sWh(c:MT)(B:MS):MS:=λae h=>if q:∃k,whN c B k ae h ≠ .stuck then whN c B q.choose ae h else .stuck
theorem mw:∀{k:Nat}{ae:AE}{h:AH},whN c B k ae h ≠ .stuck->whN c B (k+1) ae h=whN c B k ae h
 |0,_,_,q=>absurd rfl q
 |
  k+1,ae,h,q=>by
  have e1:whN c B (k+2) ae h=(c ae h).toS ae λb h1=>if b=true then (B ae h1).loop (whN c B (k+1)) else .nx ae h1:=rfl
  have e2:whN c B (k+1) ae h=(c ae h).toS ae λb h1=>if b=true then (B ae h1).loop (whN c B k) else .nx ae h1:=rfl
  rw[e2] at q;rw[e1,e2];cases r:c ae h with
  |exc _ _=>rfl
  |stuck=>rfl
  |
   ok b h1=>
   rw[r] at q;cases b with
   |false=>rfl
   |
    true=>
    have q':(B ae h1).loop (whN c B k) ≠ .stuck:=q;show (B ae h1).loop (whN c B (k+1))=(B ae h1).loop (whN c B k);cases s:B ae h1 with
    |nx a2 h2=>rw[s] at q';exact mw q'
    |ct a2 h2=>rw[s] at q';exact mw q'
    |_=>rfl
def AS(q:whN c B k ae h ≠ .stuck)(hj:k<=j):whN c B j ae h=whN c B k ae h:=by
 induction hj with
 |refl=>rfl
 |step _ ih=>rw[mw (by rw[ih];exact q),ih]
def Aw(q:whN c B k ae h ≠ .stuck):sWh c B ae h=whN c B k ae h:=by
 have hq:∃k,whN c B k ae h ≠ .stuck:=⟨k,q⟩;unfold sWh;rw[dif_pos hq];rcases Nat.le_total hq.choose k with z |z
 .exact (AS hq.choose_spec z).symm
 .exact AS q z
section
variable{K:W.Frag}{mg:Sa}{X:Cx}{ES:St->XK}{c:Expr}{cf:MT}{U:MS}{sts:List Stmt}{pos:Pos}
def CC(hp:PassesOwn (model X.prog X.w) X.A X.env X.xe)(hc:DT K mg X ES c cf)(hb:DSs K mg X ES sts U):DS K mg X ES (.While c sts [] pos) (sWh cf U):=by
 refine PS.imp (AV hp hc hb) λDe σ H q_=>q_.el λρ h ae w re p=>?_;have hx:∃k,whN cf U k ae h ≠ .stuck:=QX λz=>by unfold sWh at p;rw[dif_neg z] at p;exact p.elim
 obtain⟨k,hk⟩:=hx;rw[Aw hk] at p;refine⟨λm σ2 H2=>∃ρ2 h2 ae2,Wd K mg ρ2 h2 H2/\RelE K mg ρ2 H2 ae2 σ2/\PostS K mg ρ2 H2 De ES (whN cf U m ae2 h2),⟨k,ρ,h,ae,w,re,p⟩,?_⟩;rintro m σ2 H2 ⟨ρ2,h2,ae2,w2,re2,p2⟩;cases m with
 |zero=>exact p2.elim
 |
  succ m=>
  refine⟨ρ2,h2,ae2,w2,re2,bN p2 re2 λb h3 ρ3 H3 l3 w3 re3 p3=>?_⟩;cases b with
  |true=>exact⟨λσ' H'=>∃ρ4 h4 ae4,Wd K mg ρ4 h4 H'/\RelE K mg ρ4 H' ae4 σ'/\PostS K mg ρ4 H' De ES (whN cf U m ae4 h4),λσ' H' q=>⟨m,Nat.lt_succ_self _,q⟩,ρ3,h3,ae2,w3,re3,rj p3 λae4 h4 ρ4 H4 σ4 l4 w4 re4 p4=>⟨ρ4,h4,ae4,w4,re4,p4⟩⟩
  |false=>exact gq p3 w3 re3
end
noncomputable def rm:Fn:=λds h=>match ds with
 | [d]=>match dn h d with
  |some xs=>.ok (.int xs.length) h
  |none=>match d with
   |.str z=>if z.length<=16777216 then .ok (.int z.length) h else .stuck
   |_=>.stuck
 |_=>.stuck
noncomputable def xi:Fn:=λds h=>match ds with
 | [.int i]=>.ok (.int (if i<0 then -i else i)) h
 |_=>.stuck
noncomputable def qK:Fn:=λds h=>match ds with
 | [.int i,.int j]=>.ok (.int (if j>i then j else i)) h
 |_=>.stuck
noncomputable def qW:Fn:=λds h=>match ds with
 | [.int i,.int j]=>.ok (.int (if j<i then j else i)) h
 |_=>.stuck
noncomputable def hZ:List D->Option (List Bool)
 | []=>some []
 |.bl b::r=>(hZ r).map (b :: ·)
 |_=>none
noncomputable def fZ:List D->Option (List Int)
 | []=>some []
 |.int b::r=>(fZ r).map (b :: ·)
 |_=>none
theorem uD:∀{ds:List D}{bs:List Bool},hZ ds=some bs->ds=bs.map D.bl
 | [],bs,e=>by cases e;rfl
 |
  .bl b::r,bs,e=>by
  have e':(hZ r).map (b :: ·)=some bs:=e;cases q:hZ r with
  |none=>rw[q] at e';cases e'
  |some z=>rw[q] at e';cases e';rw[uD q];rfl
theorem oZ:∀{ds:List D}{bs:List Int},fZ ds=some bs->ds=bs.map D.int
 | [],bs,e=>by cases e;rfl
 |
  .int b::r,bs,e=>by
  have e':(fZ r).map (b :: ·)=some bs:=e;cases q:fZ r with
  |none=>rw[q] at e';cases e'
  |some z=>rw[q] at e';cases e';rw[oZ q];rfl
noncomputable def sy:Fn:=λds h=>match ds with
 | [.ref n]=>match (aG h n).bind hZ with
  |some bs=>.ok (.bl (bs.all id)) h
  |none=>.stuck
 |_=>.stuck
noncomputable def tR:Fn:=λds h=>match ds with
 | [.ref n]=>match (aG h n).bind fZ with
  |some ns=>.ok (.int ns.sum) h
  |none=>.stuck
 |_=>.stuck
def j8:Fn:=λds h=>match ds with
 | [d]=>match dn h d with
  |some xs=>.ok (.tup xs) h
  |none=>.stuck
 |_=>.stuck
noncomputable def xr:Fn:=λds h=>match ds with
 | [.int i]=>.ok (.int i) h
 | [.bl b]=>.ok (.int (if b then 1 else 0)) h
 |_=>.stuck
section
variable{K:W.Frag}{mg:Sa}{X:Cx}
def Jn:aS K mg (λxs H Q=>(∃p ys,xs=[.ref p]/\(SqL K H p ys\/SqT K H p ys)/\Q (.int ys.length) H)\/(∃z,xs=[.str z]/\z.length<=sizeLine/\Q (.int z.length) H)) rm:=λρ h H ds vs Q E w rs p=>by
 unfold rm at p;split at p
 .cases
   rs with
  |
   cons r rs=>
   cases rs;split at p
   .rename_i xs e;obtain⟨pa,vs,rfl,hq,rs⟩:=eJ w r e;exact .inl ⟨_,_,rfl,hq,by rw[<- rs.len];exact az w (.int _) p⟩
   .split at p
    .cases r;split at p
     .rename_i hl;exact .inr ⟨_,rfl,hl,az w (.int _) p⟩
     .exact p.elim
    .exact p.elim
 .exact p.elim
def NM(h:X.K=K):CallR X (.builtin "len") (λxs H Q=>(∃p ys,xs=[.ref p]/\(SqL K H p ys\/SqT K H p ys)/\Q (.int ys.length) H)\/(∃z,xs=[.str z]/\z.length<=sizeLine/\Q (.int z.length) H)):=by subst h;exact uF.or tw
def Jm:aS K mg (λxs H Q=>∃i,xs=[.int i]/\Q (.int (if i<0 then -i else i)) H) xi:=λρ h H ds vs Q E w rs p=>by
 unfold xi at p;split at p
 .cases rs with
  |cons r rs=>cases r;cases rs;exact⟨_,rfl,az w (.int _) p⟩
 .exact p.elim
def Fh:aS K mg (λxs H Q=>∃i j,xs=[.int i,.int j]/\Q (.int (if j>i then j else i)) H) qK:=λρ h H ds vs Q E w rs p=>by
 unfold qK at p;split at p
 .cases rs with
  |cons r rs=>cases rs with |cons r2 rs=>cases r;cases r2;cases rs;exact⟨_,_,rfl,az w (.int _) p⟩
 .exact p.elim
def Fs:aS K mg (λxs H Q=>∃i j,xs=[.int i,.int j]/\Q (.int (if j<i then j else i)) H) qW:=λρ h H ds vs Q E w rs p=>by
 unfold qW at p;split at p
 .cases rs with
  |cons r rs=>cases rs with |cons r2 rs=>cases r;cases r2;cases rs;exact⟨_,_,rfl,az w (.int _) p⟩
 .exact p.elim
def JM:aS K mg (λxs H Q=>∃(a:Addr) (bs:List Bool),xs=[.ref a]/\SqL K H a (bs.map V.bl)/\Q (.bl (bs.all id)) H) sy:=λρ h H ds vs Q E w rs p=>by
 unfold sy at p;split at p
 .cases
   rs with
  |
   cons r rs=>
   cases r with
   |
    ref ea=>
    cases rs;split at p
    .rename_i bs e;obtain⟨xs,q,e2⟩:=Pg.mp e
     .obtain⟨vs,h1,h2⟩:=bg w ea q;rw[uD e2] at h2;rw[h2.bls] at h1;exact⟨_,bs,rfl,h1,az w (.bl _) p⟩
    .exact p.elim
 .exact p.elim
def IW:aS K mg (λxs H Q=>∃(a:Addr) (ns:List Int),xs=[.ref a]/\SqL K H a (ns.map V.int)/\Q (.int ns.sum) H) tR:=λρ h H ds vs Q E w rs p=>by
 unfold tR at p;split at p
 .cases
   rs with
  |
   cons r rs=>
   cases r with
   |
    ref ea=>
    cases rs;split at p
    .rename_i bs e;obtain⟨xs,q,e2⟩:=Pg.mp e
     .obtain⟨vs,h1,h2⟩:=bg w ea q;rw[oZ e2] at h2;rw[h2.ints] at h1;exact⟨_,bs,rfl,h1,az w (.int _) p⟩
    .exact p.elim
 .exact p.elim
def CD:aS K mg (λxs H Q=>∃p ys,xs=[.ref p]/\((SqL K H p ys/\∀l,H l=none->Q (.ref l) (upd H l (.tup ys)))\/(SqT K H p ys/\Q (.ref p) H))) j8:=λρ h H ds vs Q E w rs p=>by
 unfold j8 at p;split at p
 .cases rs with
  |
   cons r rs=>
   cases rs;split at p
   .rename_i xs e;obtain⟨pa,vs,rfl,hq,rs⟩:=eJ w r e;rcases hq with hq |hq
    .exact⟨_,_,rfl,.inl ⟨hq,λl hl=>i4 w rs hl p⟩⟩
    .exact⟨_,_,rfl,.inr ⟨hq,az w (.tup hq rs) p⟩⟩
   .exact p.elim
 .exact p.elim
def Iz:aS K mg (λxs H Q=>(∃i,xs=[.int i]/\Q (.int i) H)\/∃k,xs=[.bl k]/\Q (.int (if k then 1 else 0)) H) xr:=λρ h H ds vs Q E w rs p=>by
 unfold xr at p;split at p
 .cases rs with
  |cons r rs=>cases r;cases rs;exact .inl ⟨_,rfl,az w (.int _) p⟩
 .cases rs with
  |cons r rs=>cases r;cases rs;exact .inr ⟨_,rfl,az w (.int _) p⟩
 .exact p.elim
def F4(h:X.K=K):CallR X (.type "tuple") (λxs H Q=>∃p ys,xs=[.ref p]/\((SqL K H p ys/\∀l,H l=none->Q (.ref l) (upd H l (.tup ys)))\/(SqT K H p ys/\Q (.ref p) H))):=by subst h;exact p9
end
inductive Cl where
 |b (n:String) |o (x:Str)
 deriving DecidableEq
noncomputable def tyD(h:AH):D->Option Cl
 |.non=>some (.b "NoneType")
 |.bl _=>some (.b "bool")
 |.int _=>some (.b "int")
 |.str _=>some (.b "str")
 |.tup _=>some (.b "tuple")
 |.exc x=>some (.o x)
 |.ref n=>match h[n]? with
  |some (.lst _)=>some (.b "list")
  |some (.fz _)=>some (.b "list")
  |some (.dct _)=>some (.b "dict")
  |_=>none
 |_=>none
noncomputable def clD:D->Option Cl
 |.ty n=>some (.b n)
 |.glb x=>some (.o x)
 |_=>none
def ClV(mg:Sa):Cl->Value->Prop
 |.b n,v=>v=.type n
 |.o x,v=>∃a,v=.ref a/\mg x=some (.ref a)
abbrev jA:=List (Cl×Cl×Bool)
structure KitsOk(K:W.Frag)(mg:Sa)(kt:jA):Prop where
 one:∀p∈kt,∀t v,ClV mg p.1 t->ClV mg p.2.1 v->W.kitOne K t v=some p.2.2
 xc:∀p∈kt,∀x C,p.1=.o x->mg x=some (.ref C)->XCls K C
noncomputable def kit(kt:jA)(t c:Cl):Option Bool:=(kt.find? λp=>decide (p.1=t)&&decide (p.2.1=c)).map (·.2.2)
noncomputable def fG(kt:jA)(t:Cl):List Cl->Option Bool
 | []=>some false
 |c::r=>match kit kt t c with
  |some true=>some true
  |some false=>fG kt t r
  |none=>none
noncomputable def tV(kt:jA):Fn:=λds h=>match ds with
 | [d,c]=>match tyD h d with
  |some t=>match c with
   |.tup cs=>match cs.mapM clD with
    |some (c0::cr)=>match fG kt t (c0::cr),kit kt t c0 with
     |some b,some _=>.ok (.bl b) h
     |_,_=>.stuck
    |_=>.stuck
   |c=>match clD c with
    |some cl=>match kit kt t cl with
     |some b=>.ok (.bl b) h
     |none=>.stuck
    |none=>.stuck
  |none=>.stuck
 |_=>.stuck
def oO(e:kit kt t c=some b):(t,c,b)∈kt:=by
 unfold kit at e;cases q:kt.find? (λp=>decide (p.1=t)&&decide (p.2.1=c)) with
 |none=>rw[q] at e;cases e
 |some p=>rw[q] at e;have h1:=List.find?_some q;have h2:=List.mem_of_find?_eq_some q;simp only[r_,QG] at h1;obtain⟨p1,p2,p3⟩:=p;have e3:p3=b:=K_ e;obtain⟨rfl,rfl⟩:=h1;subst e3;exact h2
section
variable{K:W.Frag}{mg:Sa}{X:Cx}{ρ:List Addr}{H:Hp}{h:AH}
def wA(ok:KitsOk K mg kt)(w:Wd K mg ρ h H)(r:RelD K mg ρ H d v)(e:tyD h d=some t)(k:kit kt t c=some b):∃tv,TyX K H v tv/\ClV mg t tv:=by
 cases r with
 |non=>cases e;exact⟨_,.of .non,rfl⟩
 |bl=>cases e;exact⟨_,.of (.bl _),rfl⟩
 |int=>cases e;exact⟨_,.of (.int _),rfl⟩
 |str=>cases e;exact⟨_,.of (.str _),rfl⟩
 |tup q rs=>cases e;exact⟨_,.sqT q,rfl⟩
 |exc m ex=>cases e;exact⟨_,.exc ex (ok.xc _ (oO k) _ _ rfl m),_,rfl,m⟩
 |
  ref ea=>
  unfold tyD at e;dsimp only at e;split at e
  .rename_i e1;cases e;obtain⟨vs,h1,h2⟩:=w.ob _ _ _ ea e1;exact⟨_,.of (.lst h1),rfl⟩
  .rename_i e1;cases e;obtain⟨o,vs,h1,h2⟩:=w.ob _ _ _ ea e1;exact⟨_,.of (.frz h1),rfl⟩
  .rename_i e1;cases e;obtain⟨ws,h1,_⟩:=w.ob _ _ _ ea e1;exact⟨_,.of (.dK h1),rfl⟩
  .cases e
 |_=>cases e
def vV(r:RelD K mg ρ H d v)(e:clD d=some c):∃cv,fA v=some cv/\ClV mg c cv:=by
 cases r with
 |ty n=>cases e;exact⟨_,rfl,rfl⟩
 |glb m=>cases e;exact⟨_,rfl,_,rfl,m⟩
 |_=>cases e
def Cm:∀{ds:List D}{vs:List V}{cs:List Cl},RelDs K mg ρ H ds vs->ds.mapM clD=some cs->∃cvs,vs.mapM fA=some cvs/\Paired (ClV mg) cs cvs:=by
 intro ds;induction ds with
 |nil=>intro vs cs r e;cases r;have e':some ([]:List Cl)=some cs:=e;cases e';exact⟨[],rfl,.nil⟩
 |
  cons d ds ih=>
  intro vs cs r e;cases r with
  |
   cons r rr=>
   rw[QI] at e;cases q:clD d with
   |none=>rw[q] at e;cases e
   |
    some c=>
    rw[q] at e;cases q2:ds.mapM clD with
    |none=>rw[q2] at e;cases e
    |some cs'=>rw[q2] at e;have e':some (c::cs')=some cs:=e;cases e';obtain⟨cv,h1,h2⟩:=vV r q;obtain⟨cvs,h3,h4⟩:=ih rr q2;refine⟨cv::cvs,?_,.cons h2 h4⟩;rw[QI,h1,h3];rfl
def AU(ok:KitsOk K mg kt)(ht:ClV mg t tv):∀{cs:List Cl}{cvs:List Value}{b:Bool},Paired (ClV mg) cs cvs->fG kt t cs=some b->W.kitAny K tv cvs=some b:=by
 intro cs;induction cs with
 |nil=>intro cvs b r e;cases r;cases e;rfl
 |
  cons c cs ih=>
  intro cvs b r e;cases r with
  |
   cons r rr=>
   unfold fG at e;unfold W.kitAny;cases q:kit kt t c with
   |none=>rw[q] at e;cases e
   |
    some z=>
    rw[q] at e;rw[ok.one _ (oO q) _ _ ht r];cases z with
    |true=>exact e
    |false=>exact ih rr e
def zJ:CallR X (.builtin "isinstance") (λxs H Q=>∃x tp cs t vs b,xs=[x,.ref tp]/\SqT X.K H tp cs/\TyX X.K H x t/\cs.mapM fA=some vs/\W.kitAny X.K t vs=some b/\Q (.bl b) H):=by intro pins s σ H xs us Q I r h;obtain⟨x,tp,cs,t,vs,b,rfl,ht,ty,hc,hk,q⟩:=h;obtain⟨u,w',rfl,rx,rc⟩:=qN r;cases rc;obtain⟨its,rv,⟨o,e,c,n,d⟩,_⟩:=I.tuple ht;obtain rfl:=pM hc rv;obtain⟨Hh,Z,p,hne⟩:=wa I rx ty;obtain⟨oc,od,odt,osl⟩:=o;have c':oc=.type "tuple":=c;have d':odt=.seq its.toArray n:=d;subst c' d';exact W.kia_tup Z I.kIn p e hk hne λtk=>⟨.bl b,H,I.tok _,rfl,q⟩
def Mp(hK:X.K=K):CallR X (.builtin "isinstance") (λxs H Q=>(∃x c t v b,xs=[x,c]/\TyX K H x t/\fA c=some v/\W.kitOne K t v=some b/\Q (.bl b) H)\/
 (∃x tp cs t vs b,xs=[x,.ref tp]/\SqT K H tp cs/\TyX K H x t/\cs.mapM fA=some vs/\W.kitAny K t vs=some b/\Q (.bl b) H)):=by subst hK;exact BL.or zJ
def JQ(ok:KitsOk K mg kt):aS K mg (λxs H Q=>(∃x c t v b,xs=[x,c]/\TyX K H x t/\fA c=some v/\W.kitOne K t v=some b/\Q (.bl b) H)\/
 (∃x tp cs t vs b,xs=[x,.ref tp]/\SqT K H tp cs/\TyX K H x t/\cs.mapM fA=some vs/\W.kitAny K t vs=some b/\Q (.bl b) H)) (tV kt):=λρ h H ds vs Q E w rs p=>by
 unfold tV at p;split at p
 .cases
   rs with
  |
   cons r rs=>
   cases rs with
   |
    cons r2 rs=>
    cases rs;split at p
    .rename_i t e1;split at p
     .split
       at p
      .rename_i cs c0 cr e2;split at p
       .rename_i b b' e3 e4;cases r2 with
        |tup q rs2=>obtain⟨tv,h1,h2⟩:=wA ok w r e1 e4;obtain⟨cvs,h3,h4⟩:=Cm rs2 e2;exact .inr ⟨_,_,_,tv,cvs,b,rfl,q,h1,h3,AU ok h2 h4 e3,az w (.bl _) p⟩
       .exact p.elim
      .exact p.elim
     .split at p
      .rename_i cl e2;split at p
       .rename_i b e3;obtain⟨tv,h1,h2⟩:=wA ok w r e1 e3;obtain⟨cv,h3,h4⟩:=vV r2 e2;exact .inl ⟨_,_,tv,cv,b,rfl,h1,h3,ok.one _ (oO e3) _ _ h2 h4,az w (.bl _) p⟩
       .exact p.elim
      .exact p.elim
    .exact p.elim
 .exact p.elim
end
def MtD(K:W.Frag)(mg:Sa)(r:V->List V->Hp->VK->Prop)(g:D->List D->AH->R D):Prop:=∀ρ h H dx ds x vs Q E,Wd K mg ρ h H->RelD K mg ρ H dx x->RelDs K mg ρ H ds vs->cQ K mg ρ H Q E (g dx ds h)->r x vs H Q
noncomputable def ko(h:AH):D->Bool
 |.ref n=>(aG h n).isSome
 |_=>false
noncomputable def eM(g:D->List D->AH->R D)(F:ME)(A:MA):ME:=λae h=>(F ae h).bind λx h1=>if ko h1 x=true then (A ae h1).bind λds h2=>g x ds h2 else .stuck
noncomputable def eM0(g:D->List D->AH->R D)(F:ME):ME:=λae h=>(F ae h).bind λx h1=>if ko h1 x=true then g x [] h1 else .stuck
section
variable{K:W.Frag}{mg:Sa}{X:Cx}{ES:St->XK}{o e:Expr}{es:List Expr}{F G:ME}{A:MA}{pos:Pos}
def o6(w:Wd K mg ρ h H)(r:RelD K mg ρ H d v)(q:ko h d=true):tyV K "list" v H:=by
 cases r with
 |ref ea=>obtain⟨xs,e⟩:=PM.mp q;obtain⟨vs,h1,_⟩:=bg w ea e;exact .inl ⟨rfl,vs,h1⟩
 |_=>cases q
def de_m{name:Str}{id:String}{apos cpos:Pos}{r:V->List V->Hp->VK->Prop}{g:D->List D->AH->R D}(hK:X.K=K)(slot:Slot "list" name id)(hty:typeOf (.builtin id)=pure (.type "method_descriptor"))(hm:MtM X id r)(hd:MtD K mg r g)(ho:DE K mg X ES o F)(ha:DA K mg X ES (e::es) A)
 (f_:attributeBase o name X.env (eval o X.env)=eval o X.env)
 (hfew:((backTo cpos (starEach (e::es) X.env)).all (λx=>!x.1)&&(backToKw cpos (keywordEach [] X.env)).all (λx=>x.1.isSome)
  && decide ((e::es).length+([]:List Keyword).length+(if ([]:List Keyword).isEmpty then 0 else 1)<30))=true)
 (gl:(apos.endLine==cpos.line)=true) (hs:starEach (e::es) X.env=(false,eval e X.env)::starEach es X.env) (ci:(backTo cpos (starEach es X.env)).any (·.1)=false):
 DE K mg X ES (.Call (.Attribute o name apos) (e::es) [] cpos) (eM g F A):=by
 subst hK;refine PE.imp (Ep PySem.F.plainAttrs_list slot hty hm ho ha f_ hfew gl hs ci) λσ H Q q_=>q_.el λρ h ae w re p=>⟨ρ,h,ae,w,re,p.bind.imp λdx h1 ρ1 H1 l1 w1 p1 x rx=>?_⟩;split at p1
 .rename_i hl;exact⟨o6 w1 rx hl,ρ1,h1,ae,w1,re.mono l1,p1.bind.imp λds h2 ρ2 H2 l2 w2 p2 vs rs=>hd ρ2 h2 H2 dx ds x vs Q _ w2 (rx.mono l2) rs p2⟩
 .exact p1.elim
def O0{name:Str}{id:String}{apos cpos:Pos}{r:V->List V->Hp->VK->Prop}{g:D->List D->AH->R D}(hK:X.K=K)(slot:Slot "list" name id)(hty:typeOf (.builtin id)=pure (.type "method_descriptor"))(hm:MtM X id r)(hd:MtD K mg r g)(ho:DE K mg X ES o F)
 (f_:attributeBase o name X.env (eval o X.env)=eval o X.env) (gl:(apos.endLine==cpos.line)=true):DE K mg X ES (.Call (.Attribute o name apos) [] [] cpos) (eM0 g F):=by
 subst hK;refine PE.imp (Iq PySem.F.plainAttrs_list slot hty hm ho f_ gl) λσ H Q q_=>q_.el λρ h ae w re p=>⟨ρ,h,ae,w,re,p.bind.imp λdx h1 ρ1 H1 l1 w1 p1 x rx=>?_⟩;split at p1
 .rename_i hl;exact⟨o6 w1 rx hl,hd ρ1 h1 H1 dx [] x [] Q _ w1 rx .nil p1⟩
 .exact p1.elim
end
noncomputable def i7(h:AH)(d:D)(f:Nat->List D->R D):R D:=match d with
 |.ref n=>match h[n]? with
  |some (.lst xs)=>f n xs
  |_=>.stuck
 |_=>.stuck
noncomputable def kM:D->List D->AH->R D:=λx ds h=>i7 h x λn xs=>match ds with
 | [d]=>if xs.length<16777216 then .ok .non (h.set n (.lst (xs++[d]))) else .stuck
 |_=>.stuck
def wN:D->List D->AH->R D:=λx ds h=>i7 h x λn xs=>match ds with
 | []=>match xs[xs.length-1]? with
  |some d=>.ok d (h.set n (.lst xs.dropLast))
  |none=>.stuck
 |_=>.stuck
section
variable{K:W.Frag}{mg:Sa}{X:Cx}{ρ:List Addr}{H:Hp}{h:AH}
def jQ(w:Wd K mg ρ h H)(r:RelD K mg ρ H d v)(p:cQ K mg ρ H Q E (i7 h d f)):
 ∃n xs a vs,d=.ref n/\h[n]?=some (.lst xs)/\ρ[n]?=some a/\v=.ref a/\H a=some (.lst vs)/\RelDs K mg ρ H xs vs/\cQ K mg ρ H Q E (f n xs):=by
 unfold i7 at p;split at p
 .cases r with
  |
   ref ea=>
   split at p
   .rename_i n xs e;obtain⟨vs,h1,h2⟩:=w.ob _ _ _ ea e;exact⟨_,_,_,vs,rfl,e,ea,rfl,h1,h2,p⟩
   .exact p.elim
 .exact p.elim
def my(w:Wd K mg ρ h H)(ea:ρ[n]?=some a)(e:H a=some (.lst vs))(rs:RelDs K mg ρ H ys ws)(rd:RelD K mg ρ H d v)(p:cQ K mg ρ H Q E (.ok d (h.set n (.lst ys)))):Q v (upd H a (.lst ws)):=by have l:Le ρ H ρ (upd H a (.lst ws)):=ja e qz;exact p ρ _ l (w.write ea e qz ⟨ws,aM,rs.mono l⟩) v (rd.mono l)
def zq:MtD K mg oM kM:=λρ h H dx ds x vs Q E w rx rs p=>by
 obtain⟨n,xs,a,us,rfl,e,ea,rfl,h1,h2,p⟩:=jQ w rx p;split at p
 .cases rs with
  |
   cons r rs=>
   cases rs;split at p
   .rename_i hl;exact⟨a,us,_,rfl,rfl,h1,by rw[<- h2.len];exact hl,my w ea h1 (h2.append (.cons r .nil)) .non p⟩
   .exact p.elim
 .exact p.elim
def Jc:MtD K mg CF wN:=λρ h H dx ds x vs Q E w rx rs p=>by
 obtain⟨n,xs,a,us,rfl,e,ea,rfl,h1,h2,p⟩:=jQ w rx p;split at p
 .cases rs;split at p
  .rename_i d ed;obtain⟨v,ev,rv⟩:=h2.getD ed;rw[h2.len] at ev;refine⟨a,us,v,rfl,rfl,h1,ev,my w ea h1 ?_ rv p⟩;rw[QH,QH,h2.len];exact h2.take _
  .exact p.elim
 .exact p.elim
end
noncomputable def wL(o i v:D)(h:AH):R Unit:=match o,i with
 |.ref n,.int k=>match h[n]? with
  |some (.lst xs)=>match ixN xs.length k with
   |some j=>.ok () (h.set n (.lst (xs.set j v)))
   |none=>.stuck
  |_=>.stuck
 |_,_=>.stuck
section
variable{K:W.Frag}{mg:Sa}{X:Cx}{ES:St->XK}{o i:Expr}{F G:ME}{pos:Pos}
def FY:oi K mg yo wL:=λρ h H do_ di dv o i v Q E w ro ri rv p=>by
 unfold wL at p;split at p
 .cases
   ro with
  |
   ref ea=>
   cases ri;split at p
   .rename_i n k xs e;split at p
    .rename_i j ej;obtain⟨vs,h1,h2⟩:=w.ob _ _ _ ea e;have l:Le ρ H ρ (upd H _ (.lst (vs.set j v))):=ja h1 qz;exact⟨_,vs,_,j,rfl,rfl,h1,by rw[<- h2.len];exact ej,p ρ _ l (w.write ea h1 qz ⟨_,aM,(h2.set rv j).mono l⟩)⟩
    .exact p.elim
   .exact p.elim
 .exact p.elim
def Kz(ho:DE K mg X ES o F)(hi:DE K mg X ES i G)(hs:so X t)(hd:oi K mg t f)
 (ha:∀v,assign (.Subscript o i pos) X.env v=(do
  let ov <- holding [v] (eval o X.env)
  let iv <- holding [v,ov] (eval i X.env)
  standAt pos
  holding [v,ov,iv] (setItem ov iv v)
  release [v,ov,iv] [])):DG K mg X ES (.Subscript o i pos) (gS F G f):=
 PG.imp (Kx ho hi hs ha) λv σ H Q q_=>q_.el λρ h ae d w re rd p=>
  ⟨ρ,h,ae,w,re,p.bind.imp λdo_ h1 ρ1 H1 l1 w1 p1 o' ro=>⟨ρ1,h1,ae,w1,re.mono l1,p1.bind.imp λdi h2 ρ2 H2 l2 w2 p2 i' ri=>
   hd ρ2 h2 H2 do_ di d o' i' v _ _ w2 (ro.mono l2) ri ((rd.mono l1).mono l2) (p2.bind.imp λ_ h3 ρ3 H3 l3 w3 p3=>p3 ρ3 H3 Le.refl w3 σ (((re.mono l1).mono l2).mono l3))⟩⟩
end
noncomputable def cutD(xs:List D)(lo hi:Option Int):List D:=(xs.drop (HT.sIx xs.length 0 lo)).take (HT.sIx xs.length xs.length hi-HT.sIx xs.length 0 lo)
abbrev MO:=AE->AH->R (Option Int)
noncomputable def wR:MO:=λ_ h=>.ok none h
noncomputable def xF(F:ME):MO:=λae h=>(F ae h).bind λd h1=>match d with
 |.int i=>.ok (some i) h1
 |_=>.stuck
noncomputable def gSl(x:D)(lo hi:Option Int)(h:AH):R D:=match x with
 |.tup xs=>if HT.sIx xs.length 0 lo=0/\HT.sIx xs.length xs.length hi=xs.length then .stuck else .ok (.tup (cutD xs lo hi)) h
 |.ref n=>match aG h n with
  |some xs=>.ok (.ref h.length) (h++[.lst (cutD xs lo hi)])
  |none=>.stuck
 |.kl xs=>.ok (.ref h.length) (h++[.lst (cutD xs lo hi)])
 |_=>.stuck
noncomputable def eSl(F:ME)(L U:MO):ME:=λae h=>(F ae h).bind λx h1=>(L ae h1).bind λlo h2=>(U ae h2).bind λhi h3=>gSl x lo hi h3
section
variable{K:W.Frag}{mg:Sa}{X:Cx}{ES:St->XK}{e:Expr}{F:ME}{L U:MO}{lo hi:Option Expr}{pos p2:Pos}
def rdO(K:W.Frag)(mg:Sa)(ES:St->XK)(F:MO):TO:=λσ H Q=>∃ρ h ae,Wd K mg ρ h H/\RelE K mg ρ H ae σ/\PostG K mg ρ H (ES σ) (λo _ ρ' H'=>Q o H') (F ae h)
def DO(K:W.Frag)(mg:Sa)(X:Cx)(ES:St->XK)(e:Option Expr)(F:MO):Prop:=PO X e (rdO K mg ES F)
def FA:DO K mg X ES none wR:=PO.imp FI λσ H Q ⟨ρ,h,ae,w,re,p⟩=>p ρ H Le.refl w
def Gm(he:DE K mg X ES e F):DO K mg X ES (some e) (xF F):=PO.imp (EG he) λσ H Q ⟨ρ,h,ae,w,re,p⟩=>⟨ρ,h,ae,w,re,p.bind.imp λd h1 ρ1 H1 l1 w1 p1 v rv=>by
 split at p1
 .cases rv;exact⟨_,rfl,p1 ρ1 H1 Le.refl w1⟩
 .exact p1.elim⟩
def ox(r:RelDs K mg ρ H xs vs)(lo hi:Option Int):RelDs K mg ρ H (cutD xs lo hi) (kg vs lo hi):=by unfold cutD kg;rw[<- r.len];exact (r.drop _).take _
def slK(h:X.K=K):SlR X (λx lo hi H Q=>rSlL K x lo hi H Q\/rSlT K x lo hi H Q):=by subst h;exact Ft.or JW
def B5(hK:X.K=K)(he:DE K mg X ES e F)(hl:DO K mg X ES lo L)(hu:DO K mg X ES hi U):DE K mg X ES (.Subscript e (.Slice lo hi none p2) pos) (eSl F L U):=
 PE.imp (
  BS (slK hK) he hl hu) λσ H Q q_=>q_.el λρ h ae w re p=>⟨ρ,h,ae,w,re,p.bind.imp λd h1 ρ1 H1 l1 w1 p1 x rx=>⟨ρ1,h1,ae,w1,re.mono l1,p1.bind.imp λlo h2 ρ2 H2 l2 w2 p2=>⟨ρ2,h2,ae,w2,(re.mono l1).mono l2,p2.bind.imp λhi h3 ρ3 H3 l3 w3 p3=>by
  have rx3:=(rx.mono l2).mono l3;unfold gSl at p3;split at p3
  .split at p3
   .exact p3.elim
   .rename_i hn;cases rx3 with
    |tup q rs=>exact .inr ⟨_,_,rfl,q,by rw[<- rs.len];exact hn,λl hl=>i4 w3 (ox rs lo hi) hl p3⟩
  .split at p3
   .rename_i xs e1;cases rx3 with
    |ref ea=>obtain⟨vs,q,rs⟩:=bg w3 ea e1;exact .inl ⟨_,_,rfl,q,λl hl=>dM w3 (ox rs lo hi) hl p3⟩
   .exact p3.elim
  .cases rx3 with
   |kl q rs=>exact .inl ⟨_,_,rfl,.inr q,λl hl=>dM w3 (ox rs lo hi) hl p3⟩
  .exact p3.elim⟩⟩⟩
end
noncomputable def uo(d:D)(h:AH):R Bool:=match d with
 |.non=>.ok false h
 |.bl b=>.ok b h
 |.int i=>.ok (i != 0) h
 |d=>match dn h d with
  |some xs=>.ok (!xs.isEmpty) h
  |none=>.stuck
def tTr(F:ME):MT:=λae h=>(F ae h).bind uo
section
variable{K:W.Frag}{mg:Sa}{X:Cx}{ES:St->XK}{a:Expr}{F:ME}
def BZ(hK:X.K=K)(ha:DE K mg X ES a F)(he:∀c_,isTrue a X.env c_=(do let v <- c_;standAt a.pos;holding [v] (truthy v))):DT K mg X ES a (tTr F):=by
 subst hK;refine PT.imp (Cw ha he) λσ H Q q_=>q_.el λρ h ae w re p=>⟨ρ,h,ae,w,re,p.bind.imp λd h1 ρ1 H1 l1 w1 p1 x rx=>?_⟩;have items:∀{xs:List D},dn h1 d=some xs->Q (!xs.isEmpty) H1->∃k,Ds X.K x H1 k/\Q k H1:=λ{xs} e q=>by
  obtain⟨pa,vs,rfl,hq,rs⟩:=eJ w1 rx e;have ee:xs.isEmpty=vs.isEmpty:=by cases rs <;> rfl
  rw[ee] at q;rcases hq with hq |hq
  .exact⟨_,.inl ⟨vs,hq,rfl⟩,q⟩
  .exact⟨_,.inr (.inl ⟨vs,hq,rfl⟩),q⟩
 unfold uo at p1;split at p1
 .cases rx;exact⟨_,rfl,p1 ρ1 H1 Le.refl w1⟩
 .cases rx;exact⟨_,rfl,p1 ρ1 H1 Le.refl w1⟩
 .cases rx;exact⟨_,rfl,p1 ρ1 H1 Le.refl w1⟩
 .split at p1
  .rename_i xs e1;exact items e1 (p1 ρ1 H1 Le.refl w1)
  .exact p1.elim
end
section
variable{X:Cx}{pins pins2 pn:Sb}{σ:St}{H:Hp}{s:Shared}{xe:Sd}
end
section
variable{K:W.Frag}{mg:Sa}{X:Cx}{ES:St->XK}{x n:Str}{C:Addr}{i:Nat}{body suite:List Stmt}{b₀:Stmt}{B U:MS}{np hpos pos:Pos}{mro:List Str}
end
structure Script(h:AH)(d:D)(ns:List Int):Prop where
 form:(∃n,d=.ref n/\h[n]?=some (.fz (ns.map D.int)))\/d=.kl (ns.map D.int)
theorem jz{K:W.Frag}{mg:Sa}{ρ:List Addr}{H:Hp}:∀(ns:List Int),RelDs K mg ρ H (ns.map D.int) (ns.map V.int)
 | []=>.nil
 |_::r=>.cons (.int _) (jz r)
section
variable{K:W.Frag}{mg:Sa}{ρ ρ1 ρ2:List Addr}{H H1:Hp}{h:AH}
end
section
variable{K:W.Frag}{mg:Sa}{ρ:List Addr}{H:Hp}{h:AH}
end
noncomputable def x8:D->D->AH->R D:=gOr (gI λi j=>.int (i+j)) lU
noncomputable def A0:D->D->AH->R D:=gI λi j=>.int (i-j)
def CMulA(i j:Int):Prop:=Ed i j\/CMul i j
def BG:D->D->AH->R D:=gIc CMulA λi j=>.int (i*j)
def Bq:D->D->AH->R D:=gIc CDivB λi j=>.int (i.fdiv j)
def Du:D->D->AH->R D:=gIc (λ_ j=>j≠0) λi j=>.int (i.fmod j)
def A6:D->D->AH->R D:=gIc gi λi j=>.int (i^j.toNat)
def Br:D->D->AH->R D:=gIc gi λi j=>.int (i*2^j.toNat)
noncomputable def gLt:D->D->AH->R D:=gI λi j=>.bl (decide (i<j))
noncomputable def gGt:D->D->AH->R D:=gI λi j=>.bl (decide (j<i))
noncomputable def gGe:D->D->AH->R D:=gI λi j=>.bl (decide (j<=i))
noncomputable def yk:D->AH->R D:=λx h=>match x with
 |.int i=>.ok (.int (-i)) h
 |_=>.stuck
noncomputable def xX(n:Nat)(S:Fn)(A:MA):ME:=eFn (λds h=>if ds.length=n then S ds h else .stuck) A
section
variable{K:W.Frag}{mg:Sa}{X:Cx}
def J5(h:X.K=K):OpR X (binaryOp .Add) (λx y H Q=>rI0 (λi j=>.int (i+j)) x y H Q\/(oy x y H Q\/(kU K x y H Q\/ku K x y H Q))):=J1.or (catK h)
def Ii:OpD K mg (λx y H Q=>rI0 (λi j=>.int (i+j)) x y H Q\/(oy x y H Q\/(kU K x y H Q\/ku K x y H Q))) x8:=(jV λ_ _ _ _=>.int _).or E6
def Jr:OpD K mg (rI0 λi j=>.int (i-j)) A0:=jV λ_ _ _ _=>.int _
def IZ:OpR X (binaryOp .Mult) (rI CMulA λi j=>.int (i*j)):=by
 intro pins s σ H x y v u Q I rx ry h;obtain⟨i,j,e1,e2,hc,q⟩:=h;rcases hc with hc |hc
 .exact G6 pins s σ H x y v u Q I rx ry ⟨i,j,e1,e2,hc,q⟩
 .exact LG pins s σ H x y v u Q I rx ry ⟨i,j,e1,e2,hc,q⟩
def LA:OpD K mg (rI CMulA λi j=>.int (i*j)) BG:=nC λ_ _ _ _=>.int _
def Hg:OpD K mg (rI CDivB λi j=>.int (i.fdiv j)) Bq:=nC λ_ _ _ _=>.int _
def JD:OpD K mg (rI (λ_ j=>j≠0) λi j=>.int (i.fmod j)) Du:=nC λ_ _ _ _=>.int _
def KR:OpD K mg (rI gi λi j=>.int (i^j.toNat)) A6:=nC λ_ _ _ _=>.int _
def Lz:OpD K mg (rI gi λi j=>.int (i*2^j.toNat)) Br:=nC λ_ _ _ _=>.int _
def OG:OpD K mg (rI0 λi j=>.bl (decide (i<j))) gLt:=jV λ_ _ _ _=>.bl _
def Me:OpD K mg (rI0 λi j=>.bl (decide (j<i))) gGt:=jV λ_ _ _ _=>.bl _
def MH:OpD K mg (rI0 λi j=>.bl (decide (j<=i))) gGe:=jV λ_ _ _ _=>.bl _
def J3:UnD K mg (rU λi=>.int (-i)) yk:=λρ h H dx x Q E w rx p=>by
 unfold yk at p;split at p
 .cases rx;exact⟨_,rfl,az w (.int _) p⟩
 .exact p.elim
def FT:IpD K mg (ipI λi j=>i+j) (gI λi j=>.int (i+j)):=λρ h H dx dy x y Q E w rx ry p=>by
 unfold gI at p;split at p
 .cases rx;cases ry;exact⟨_,_,rfl,rfl,az w (.int _) p⟩
 .exact p.elim
variable{ES:St->XK}{e:Expr}{es:List Expr}{A:MA}{pos:Pos}
def Bu(C:Callee X.prog X.w X.K X.mg X.base x k ps (spD K mg n S))(hr:Room k X.A)(hg:Gl X x)(hx:kA X ES)(ha:DA K mg X ES (e::es) A)
 (hdb:(x==("__debug__" : Str))=false) (he:starEach (e::es) X.env=(false,eval e X.env)::starEach es X.env) (hpl:(backTo pos (starEach es X.env)).any (·.1)=false):
 DE K mg X ES (.Call (.Name x p) (e::es) [] pos) (xX n S A):=GZ C hr hg hx ha hdb he hpl
end
section
variable{ae:AE}{h:AH}
@[simp] theorem fL(a:α)(h:AH)(f:α->AH->R β):(R.ok a h).bind f=f a h:=rfl
end
def g9(h1:pd.canLay0=true)(h2:pd.depth<=160):shp pd=true:=by unfold shp;rw[h1,A_ h2];rfl
def Sm(n:Nat)(x:Int):Prop:=x.natAbs<2^n
def Sm.mono(h:Sm n x)(l:n<=m):Sm m x:=E_ h (PX (by omega) l)
def Sm.mul(h:Sm n x)(k:Sm m y):Sm (n+m) (x*y):=by unfold Sm at *;rw[PJ,Qg];exact Nat.mul_lt_mul'' h k
def Sm.bits(h:Sm n x):Builtin.Int.intBits x<=n:=intBits_le_iff.mpr h
def Sm.of_le(h:Sm n y)(l:x.natAbs<=y.natAbs):Sm n x:=P5 l h
def CMulA.of(h:Sm n x)(k:Sm m y)(hn:n<=100000)(hm:m<=100000):CMulA x y:=.inl ⟨F_ h.bits hn,F_ k.bits hm⟩
def CMulA.left(h:-(2^64)<x)(k:x<2^64):CMulA x y:=.inr (.inl ⟨h,k⟩)
def CMulA.right(h:-(2^64)<y)(k:y<2^64):CMulA x y:=.inr (.inr ⟨h,k⟩)
def CDivB.of(h0:y≠0)(h:Sm 8000 y):CDivB x y:=⟨h0,h.bits⟩
structure Sz(n:Nat)(q:Rat):Prop where
 top:Sm n q.num
 bot:Sm n (q.den:Int)
def Ap{a b:Int}(hb:b≠0):((a:Rat)/(b:Rat)).num*b=a*((a:Rat)/(b:Rat)).den:=by
 have h2:=Rat.num_divInt_den ((a:Rat)/(b:Rat));have h3:Rat.divInt ((a:Rat)/(b:Rat)).num (((a:Rat)/(b:Rat)).den:Int)=Rat.divInt a b:=by rw[h2,Rat.divInt_eq_div]
 exact (Rat.divInt_eq_divInt_iff (by have:=((a:Rat)/(b:Rat)).den_nz;omega) hb).mp h3
def wk(q:Rat):Int.gcd q.num q.den=1:=by
 have:=q.reduced
 exact this
def mR(hb:b≠0):Fr.T a b=((a:Rat)/(b:Rat)).num/\Fr.B a b=(((a:Rat)/(b:Rat)).den:Int):=by
 refine Fr.uniq (Fr.B_pos hb) (by have:=((a:Rat)/(b:Rat)).den_pos;omega) (Fr.low hb) (wk _) ?_;have h1:=Fr.cross (a:=a) hb;have h2:=Ap (a:=a) hb;generalize ((a:Rat)/(b:Rat)).num=n at *;generalize (((a:Rat)/(b:Rat)).den:Int)=d at *;generalize Fr.T a b=x at *;generalize Fr.B a b=y at *;have h3:(x*d)*b=(n*y)*b:=by
  calc x*d*b=(x*b)*d:=by rw[Q1]
   _=a*y*d:=by rw[h1]
   _=(a*d)*y:=by rw[Q1]
   _=n*b*y:=by rw[h2]
   _=n*y*b:=by rw[Q1]
 exact QQ hb h3
def yw{a b:Int}(hb:b≠0):((a:Rat)/(b:Rat)).num.natAbs<=a.natAbs:=by
 have h:=(mR (a:=a) hb).1;rw[<- h];have h1:=Fr.T_mul (a:=a) hb;have h2:=Fr.dv_ne (a:=a) hb;have h3:(Fr.T a b).natAbs*(Fr.dv a b).natAbs=a.natAbs:=by rw[<- PJ,h1]
 have h4:1<=(Fr.dv a b).natAbs:=by omega
 calc (Fr.T a b).natAbs=(Fr.T a b).natAbs*1:=by omega
  _<=(Fr.T a b).natAbs*(Fr.dv a b).natAbs:=P0 _ h4
  _=a.natAbs:=h3
def xw{a b:Int}(hb:b≠0):((((a:Rat)/(b:Rat)).den:Int)).natAbs<=b.natAbs:=by
 have h:=(mR (a:=a) hb).2;rw[<- h];have h1:=Fr.B_mul (a:=a) hb;have h2:=Fr.dv_ne (a:=a) hb;have h3:(Fr.B a b).natAbs*(Fr.dv a b).natAbs=b.natAbs:=by rw[<- PJ,h1]
 have h4:1<=(Fr.dv a b).natAbs:=by omega
 calc (Fr.B a b).natAbs=(Fr.B a b).natAbs*1:=by omega
  _<=(Fr.B a b).natAbs*(Fr.dv a b).natAbs:=P0 _ h4
  _=b.natAbs:=h3
def Sz.div(hb:b≠0)(ha:Sm n a)(hb':Sm m b)(k:Nat)(h1:n<=k)(h2:m<=k):Sz k ((a:Rat)/(b:Rat)):=
 ⟨(ha.of_le (yw hb)).mono h1,(hb'.of_le (xw hb)).mono h2⟩
def cD(q:Rat):(q.den:Int)≠0:=by have:=q.den_nz;omega
def fM(q:Rat):q=(q.num:Rat)/((q.den:Int):Rat):=by
 have:=Rat.num_divInt_den q
 rw[Rat.divInt_eq_div] at this;exact this.symm
def gB{b:Int}(h:b≠0):(b:Rat)≠0:=by intro z;exact h (by exact_mod_cast z)
def vv(p q:Rat):p+q=((p.num*q.den+q.num*p.den:Int):Rat)/((p.den*q.den:Int):Rat):=by
 have h1:=gB (cD p);have h2:=gB (cD q)
 conv=>lhs;rw[fM p,fM q]
 simp only[Rat.intCast_add,Pp];grind
def vO(p q:Rat):p*q=((p.num*q.num:Int):Rat)/((p.den*q.den:Int):Rat):=by
 have h1:=gB (cD p);have h2:=gB (cD q)
 conv=>lhs;rw[fM p,fM q]
 simp only[Pp];grind
def Sz.mul(hp:Sz n p)(hq:Sz m q):Sz (n+m) (p*q):=by rw[vO];exact Sz.div (by have:=cD p;have:=cD q;exact QB ‹_› ‹_›) (hp.top.mul hq.top) (hp.bot.mul hq.bot) _ (by omega) (by omega)
def iJ{q:Rat}:0<q.num ↔ 0<q:=by
 have h1:=Rat.num_nonneg (q:=q);have h2:=RH (q:=q);constructor
 .intro h;refine Rat.lt_of_le_of_ne (h1.mp (by omega)) λz=>?_
  have:=h2.mpr z.symm
  omega
 .intro h;have h3:=h1.mpr (Rat.le_of_lt h);have h4:q.num≠0:=λz=>(Rat.ne_of_lt h) (h2.mp z).symm;omega
def iK(p q:Rat):p<q ↔ p.num*q.den<q.num*p.den:=Rat.lt_iff p q
section
variable(ae:AE)(h:AH)
end
theorem fi:∀{ws:List Int},(∀w∈ws,0<=w)->0<=ws.sum
 | [],_=>Int.le_refl _
 |
  w::ws,h=>by
  have:=h w (n_ ..)
  have:=fi (ws:=ws) λv hv=>h v (m_ _ hv)
  rw[Pe];omega
def HB{K:W.Frag}{h:Heap}{mg:Sa}{x:Str}{a:Addr}{dd:Option Addr}{its:Array Value}{n:Nat}{sl:Array (Option Value)}{vs:List V}{ds:List D}(X:K.In h)(G:h.Ns mainGlobals mg)(e:W.nsIn K mainGlobals x=some (some (.ref a)))
 (l:K.lookup a=some ⟨.type "tuple",dd,.seq its n,sl⟩) (hs:its.size<=sizeLine) (hv:Vals vs its.toList) (hr:∀ρ H,RelDs K mg ρ H ds vs):GC K mg x (.tup ds):=
 ⟨_,.ref a,W.mg_of X G e,rfl,λρ H=>.tup (.inr ⟨_,its,n,l,rfl,rfl,hs,hv⟩) (hr ρ H)⟩
def ug{P:Program}{w:World}{H:Hp}(h:Heap)(hb:sysModules<h.objs.size):ObjOk P w H (h.push { cls:=.type "dict",data:=.dict #[] }) h.objs.size (.dK []):=
 ⟨M_ _,D_.mpr (Ne.symm (J_ hb)),[],.nil,Heap.DictOf.new h⟩
def Inv.big{X:Cx}{pins:Sb}{σ:St}{H:Hp}{s:Shared}(I:Inv X pins σ H s):sysModules<s.heap.objs.size:=by have h:mainGlobals<s.heap.objs.size:=(I.mod.glob.keeps I.bk).lt;exact RD (by decide) h
def K8:TE:=λ_ H Q=>∀p,H p=none->Q (.ref p) (upd H p (.dK []))
noncomputable def eD0:ME:=λ_ h=>.ok (.ref h.length) (h++[.dct []])
section
variable{K:W.Frag}{mg:Sa}{X:Cx}{ES:St->XK}{pos:Pos}
def BJ:PE X (.Dict [] [] pos) K8:=λpins s σ H Q I h=>
 wpAny_Dict_empty ⟨.ref s.heap.objs.size,_,I.laid (a:=s.heap.objs.size) (o:=.dK []) (t':=s.toks) (λ_ _ q=>l_ _ q) (o_ _) (ug s.heap I.big),rfl,h _ (I.hok.fresh (o_ _))⟩
def NU:DE K mg X ES (.Dict [] [] pos) eD0:=PE.imp BJ λσ H Q ⟨ρ,h,ae,w,re,q⟩ p hp=>by have l:Le ρ H (ρ++[p]) (upd H p (.dK [])):=(bW hp).trans gu;refine q (ρ++[p]) _ l (w.alloc hp ⟨[],aM,rfl,.nil⟩) _ (.ref ?_);rw[<- w.len,O8 (o_ _),Qi];rfl
end
variable{K:W.Frag}{mg:Sa}
end L2
namespace L2
open PySem PySem.Spec PyProof.Rows
section
variable{K:W.Frag}{mg:Sa}{X:Cx}{ES:St->XK}{e:Expr}{es:List Expr}{A:MA}{pos:Pos}
end
section
variable{K:W.Frag}{mg:Sa}{X:Cx}{ES:St->XK}{e a b c o lo hi:Expr}{F G L U:ME}{pos p2:Pos}{ρ:List Addr}{H:Hp}{h:AH}{ae:AE}
def Cq{β:Type}{i:Nat}{E:XK}{k:β->AH->List Addr->Hp->Prop}{f:D->AH->R β}(p:PostG K mg ρ H E k ((bq i ae h).bind f)):∃d,ae[i]?=some (some d)/\PostG K mg ρ H E k (f d h):=by
 unfold bq at p;split at p
 .exact⟨_,by assumption,p⟩
 .exact p.elim
end
section
variable{κ:Type}[DecidableEq κ]
noncomputable def eg(kvs:List (κ×V))(k:κ):Option V:=(kvs.find? λkv=>decide (kv.1=k)).map (·.2)
noncomputable def cA(kvs:List (κ×V))(k:κ)(v:V):List (κ×V):=
 if (kvs.any λkv=>decide (kv.1=k))=true then kvs.map (λkv=>if kv.1=k then (kv.1,v) else kv) else kvs++[(k,v)]
def mn{p:κ×V}{r:List (κ×V)}{k:κ}(e:p.1=k):eg (p::r) k=some p.2:=by simp [eg,Pl,e]
def ml{p:κ×V}{r:List (κ×V)}{k:κ}(e:¬ p.1=k):eg (p::r) k=eg r k:=by simp [eg,Pl,e]
theorem lK(k:κ):∀kvs:List (κ×V),(kvs.any λkv=>decide (kv.1=k))=(eg kvs k).isSome
 | []=>rfl
 |
  p::r=>by
  rw[PR];by_cases e:p.1=k
  .simp only[mn e,A_ e,Bool.true_or,Option.isSome_some]
  .rw[ml e,w_ e,Bool.false_or];exact lK k r
def iC(kvs:List (κ×V))(k:κ)(v:V):(cA kvs k v).length<=kvs.length+1:=by
 unfold cA;split
 .rw[k_];omega
 .rw[z_,B_,Pd];omega
def Bs{kvs:List (κ×V)}{k:κ}(v:V)(h:eg kvs k=none):cA kvs k v=kvs++[(k,v)]:=by unfold cA;rw[lK,h];exact if_neg (by decide)
def RelO.isSome_eq(r:RelO o u):o.isSome=u.isSome:=by
 cases o with
 |none=>cases u with
  |none=>rfl
  |some _=>exact (show False from r).elim
 |some _=>cases u with
  |none=>exact (show False from r).elim
  |some _=>rfl
def KV.val(r:KV kvs vs)(k:κ):RelO (eg kvs k) (valueAt vs k):=by
 unfold KV at r;induction r with
 |nil=>exact True.intro
 |
  @cons p q ps qs h t ih=>
  obtain⟨h1,h2⟩:=h;by_cases e:p.1=k
  .have e':q.1=k:=h1.symm.trans e;have b:valueAt (q::qs) k=some q.2:=by simp [valueAt,Pl,e']
   rw[mn e,b];exact h2
  .have e':¬ q.1=k:=λz=>e (h1.trans z);have b:valueAt (q::qs) k=valueAt qs k:=by simp [valueAt,Pl,e']
   rw[ml e,b];exact ih
def KV.any(r:KV kvs vs)(k:κ):(kvs.any λkv=>decide (kv.1=k))=vs.any λkv=>decide (kv.1=k):=by
 unfold KV at r;induction r with
 |nil=>rfl
 |cons h t ih=>rw[PR,PR,ih,h.1]
def KV.repl(r:KV kvs vs)(k:κ)(ry:RelV y u):
 KV (kvs.map λkv=>if kv.1=k then (kv.1,y) else kv) (vs.map λkv=>if kv.1=k then (kv.1,u) else kv):=by
 unfold KV at r ⊢;induction r with
 |nil=>exact .nil
 |
  @cons p q ps qs h t ih=>
  rw[s_,s_];refine .cons ?_ ih;obtain⟨h1,h2⟩:=h;by_cases e:p.1=k
  .rw[if_pos e,if_pos (h1.symm.trans e)];exact⟨h1,ry⟩
  .rw[if_neg e,if_neg (λz=>e (h1.trans z))];exact⟨h1,h2⟩
def KV.put(r:KV kvs vs)(k:κ)(ry:RelV y u):KV (cA kvs k y) (stored vs k u):=by
 unfold cA stored;rw[r.any k];by_cases e:(vs.any λkv=>decide (kv.1=k))=true
 .rw[if_pos e,if_pos e];exact r.repl k ry
 .rw[if_neg e,if_neg e];exact Paired.snoc r ⟨rfl,ry⟩
def KV.length(r:KV kvs vs):kvs.length=vs.length:=RP r
end
def qI(r:RelV (kV k) u):(bD P w).is k u=true:=by
 cases k with
 |inl i=>obtain⟨t,e⟩:=(show ∃t,u=Value.int i t from r);subst e;exact uP P w i t
 |inr x=>obtain⟨t,e⟩:=(show ∃t,u=Value.str x t from r);subst e;exact uT P w x t
theorem oW:∀{ks:List Key}{us:List Value},Vals (ks.map kV) us->ItemsAre (bD P w) ks us
 | [],_,r=>by rw[O_] at r;cases r;exact .nil
 |
  k::ks,_,r=>by
  rw[s_] at r;cases r with
  |cons h t=>exact .cons (qI h) (oW t)
abbrev KT(H:Hp):List (List Key×V)->List (List Key×Addr×Value)->Prop:=Paired λp q=>p.1=q.1/\H q.2.1=some (.tup (p.1.map kV))/\RelV p.2 q.2.2
def KT.val(r:KT H kvs xs)(k:List Key):RelO (eg kvs k) ((atKey xs k).map (·.2)):=by
 induction r with
 |nil=>exact True.intro
 |
  @cons p q ps qs h t ih=>
  obtain⟨h1,_,h2⟩:=h;by_cases e:p.1=k
  .have e':q.1=k:=h1.symm.trans e;have b:atKey (q::qs) k=some q.2:=by simp [atKey,Pl,e']
   rw[mn e,b];exact h2
  .have e':¬ q.1=k:=λz=>e (h1.trans z);have b:atKey (q::qs) k=atKey qs k:=by simp [atKey,Pl,e']
   rw[ml e,b];exact ih
def KT.repl(r:KT H kvs xs)(k:List Key)(ry:RelV y u):
 KT H (kvs.map λkv=>if kv.1=k then (kv.1,y) else kv) (xs.map (putAt k u)):=by
 induction r with
 |nil=>exact .nil
 |
  @cons p q ps qs h t ih=>
  rw[s_,s_];refine .cons ?_ ih;obtain⟨h1,h2,h3⟩:=h;unfold putAt;by_cases e:p.1=k
  .rw[if_pos e,if_pos (h1.symm.trans e)];exact⟨h1,h2,ry⟩
  .rw[if_neg e,if_neg (λz=>e (h1.trans z))];exact⟨h1,h2,h3⟩
def KT.put(r:KT H kvs xs)(k:List Key)(hb:H b=some (.tup (k.map kV)))(ry:RelV y u):
 KT H (cA kvs k y) (storedH xs k b u):=by
 have e:(kvs.any λkv=>decide (kv.1=k))=(atKey xs k).isSome:=by rw[lK,(r.val k).isSome_eq,Option.isSome_map]
 unfold cA storedH;rw[e];by_cases q:(atKey xs k).isSome=true
 .rw[if_pos q,if_pos q];exact r.repl k ry
 .rw[if_neg q,if_neg q];exact Paired.snoc r ⟨rfl,hb,ry⟩
def KT.keeps(r:KT H kvs xs)(ht:∀b ys,H b=some (.tup ys)->H' b=some (.tup ys)):KT H' kvs xs:=
 Paired.mapP r λ_ _ z=>⟨z.1,ht _ _ z.2.1,z.2.2⟩
section
variable{P:Program}{w:World}{H:Hp}{h:Heap}{a:Addr}
def Ey(ok:HOk P w H h)(e:Rd H a u):ObjOk P w H h a u:=e.ok ok
def xS(ok:HOk P w H h)(e:Rd H a (.dK kvs)):kvs.length<=sizeLine/\(a==sysModules)=false/\∃vs,KV kvs vs/\h.DictOf (bD P w) a vs:=
 show ObjOk P w H h a (.dK kvs) from Ey ok e
def D4(ok:HOk P w H h)(e:H a=some (.dK kvs)):kvs.length<=sizeLine/\(a==sysModules)=false/\∃vs,KV kvs vs/\h.DictOf (bD P w) a vs:=xS ok (.inl e)
def sx(ok:HOk P w H h)(e:H a=some (.tup (ks.map kV))):(tupleKind (bD P w)).is h ks a:=by obtain⟨_,its,r,o,h1,h2,n,h3⟩:=(show ObjOk P w H h a (.tup (ks.map kV)) from ok a _ e);exact⟨o,its.toArray,n,h1,h2,h3,by simpa using oW r⟩
def wJ(ok:HOk P w H h)(e:Rd H a (.dT kvs)):kvs.length<=sizeLine/\(a==sysModules)=false/\
 ∃xs,KT H kvs xs/\h.DictOfH (tupleKind (bD P w)) a xs:=by
 obtain⟨z,y,xs,r,o,es,ep,h1,h2,h3,h4,h5⟩:=(show ObjOk P w H h a (.dT kvs) from Ey ok e);refine⟨z,y,xs,r,o,es,ep,h1,h2,h3,h4,λx hx=>?_,h5⟩;have all:∀{l:List (List Key×V)}{m:List (List Key×Addr×Value)},KT H l m->∀x∈m,(tupleKind (bD P w)).is h x.1 x.2.1:=by
  intro l m q;induction q with
  |nil=>intro x hx;exact nomatch hx
  |
   @cons p q ps qs hq t ih=>
   intro x hx;rcases H_.mp hx with e |hx
   .subst e;exact sx ok (by rw[<- hq.1];exact hq.2.1)
   .exact ih x hx
 exact all r x hx
def OA(ok:HOk P w H h)(e:H a=some (.dT kvs)):kvs.length<=sizeLine/\(a==sysModules)=false/\
 ∃xs,KT H kvs xs/\h.DictOfH (tupleKind (bD P w)) a xs:=wJ ok (.inl e)
end
def DGet(H:Hp)(a:Addr)(y:V)(r:Option V):Prop:=
 (∃kvs k,Rd H a (.dK kvs)/\y=kV k/\r=eg kvs k)\/∃kvs k b,Rd H a (.dT kvs)/\y=.ref b/\H b=some (.tup (k.map kV))/\r=eg kvs k
def DPut(H:Hp)(a:Addr)(y v:V)(H':Hp):Prop:=
 (∃kvs k,H a=some (.dK kvs)/\y=kV k/\kvs.length<sizeLine/\H'=upd H a (.dK (cA kvs k v)))\/
 ∃kvs k b,H a=some (.dT kvs)/\y=.ref b/\H b=some (.tup (k.map kV))/\kvs.length<sizeLine/\H'=upd H a (.dT (cA kvs k v))
def DGet.k{H:Hp}{a:Addr}{kvs:List (Key×V)}{k:Key}(e:H a=some (.dK kvs)):DGet H a (kV k) (eg kvs k):=.inl ⟨kvs,k,.inl e,rfl,rfl⟩
def DPut.k{H:Hp}{a:Addr}{kvs:List (Key×V)}{k:Key}{v:V}(e:H a=some (.dK kvs))(hl:kvs.length<sizeLine):DPut H a (kV k) v (upd H a (.dK (cA kvs k v))):=.inl ⟨kvs,k,e,rfl,hl,rfl⟩
section
variable{X:Cx}{pins:Sb}{σ:St}{H:Hp}{s:Shared}{a:Addr}{y v:V}{u r:Value}{o:Option V}{A:Around}{E:Sd}
def AM(hu:A.units+1<cLine)(I:Inv X pins σ H s)(g:DGet H a y (some v))(ry:RelV y u)(h:∀w' s',Inv X pins σ H s'->RelV v w'->Q w' s'):
 wpAny (model X.prog X.w) A (getItem (.ref a) u) Q E s:=by
 rcases g with ⟨kvs,k,e,ey,l⟩ |⟨kvs,k,b,e,ey,eb,l⟩
 .subst ey;obtain⟨z,hd,vs,rel,dd⟩:=xS I.hok e;obtain⟨w',hw,rw'⟩:=RelO.some_of (v:=v) (o:=valueAt vs k) (by rw[l];exact rel.val k);exact wpAny_getItem_of (qI ry) dd.mapOf hw (h w' _ (I.tok _) rw')
 .subst ey;cases (show u=Value.ref b from ry);obtain⟨z,hd,xs,rel,dd⟩:=wJ I.hok e;obtain⟨w',hw,rw'⟩:=RelO.some_of (v:=v) (o:=(atKey xs k).map (·.2)) (by rw[l];exact rel.val k);obtain⟨p,hp,hp2⟩:=G_.mp hw;refine wpAny_getItem_heap (tupleKind_room_in1 hu) (sx I.hok eb) dd hp ?_;rw[hp2];exact h w' _ (I.tok _) rw'
def oD(I:Inv X pins σ H s)(mu:Mut (H a))(hs:Heap.SameBut a s.heap h')(he:∃q,h'.get? a=some q)(new:ObjOk X.prog X.w (upd H a ob) h' a ob):
 Inv X pins σ (upd H a ob) { s with heap:=h',toks:=t' }:=
 I.write (x:=a) (e:=a) mu (.inl rfl) (λb q hb z=>(hs.2 b hb).trans z) he new
def yG(z:kvs.length<=sizeLine)(hd:(a==sysModules)=false)(rel:KV kvs vs)(dd:h'.DictOf (bD P w) a vs):
 ObjOk P w H' h' a (.dK kvs):=⟨z,hd,vs,rel,dd⟩
def yK(hu:A.units+1<cLine)(I:Inv X pins σ H s)(g:DPut H a y v H')(ry:RelV y u)(rv:RelV v r)(h:∀s',Inv X pins σ H' s'->Q () s'):
 wpAny (model X.prog X.w) A (setItem (.ref a) u r) Q E s:=by
 rcases g with ⟨kvs,k,e,ey,l,eH⟩ |⟨kvs,k,b,e,ey,eb,l,eH⟩
 .subst ey eH;obtain⟨z,hd,vs,rel,dd⟩:=D4 I.hok e;have hz:vs.length<=sizeLine:=by rw[<- rel.length];exact z
  have hl:(cA kvs k v).length<=sizeLine:=by have:=iC kvs k v;omega
  refine wpAny_setItem_pairs (hsz:=hz) (qI ry) dd λh' dd' hs=>h _ ?_;have he:∃q,h'.get? a=some q:=let ⟨q,_,_,hq,_⟩:=dd';⟨q,hq⟩;exact oD I (by rw[e];exact True.intro) hs he (yG hl hd (rel.put k rv) dd')
 .subst ey eH;cases (show u=Value.ref b from ry);obtain⟨z,hd,xs,rel,dd⟩:=OA I.hok e;have hz:xs.length<=sizeLine:=by rw[<- RP rel];exact z
  have hl:(cA kvs k v).length<=sizeLine:=by have:=iC kvs k v;omega
  refine wpAny_setItem_heap (hsz:=hz) (tupleKind_room_in1 hu) (sx I.hok eb) dd λh' dd' hs=>h _ ?_;obtain⟨q,es,ep,hq,h2,h3,h4,_,h5⟩:=dd';refine oD I (by rw[e];exact True.intro) hs ⟨q,hq⟩ ⟨hl,hd,_,(rel.put k eb rv).keeps λc ys ec=>?_,q,es,ep,hq,h2,h3,h4,h5⟩;rw[ay (Nw ec e (λz=>nomatch z))];exact ec
end
section
variable{X:Cx}{pins:Sb}{σ:St}{H:Hp}{s:Shared}{a:Addr}{kvs:List (Key×V)}{k:Key}{u:Value}{A:Around}{E:Sd}
end
def nZ(i:Expr):Prop:=∀ov iv,subscripted i false ov iv=operate [ov,iv] (getItem ov iv)
def GS{prog:Program}{w:World}{A:Around}{E:Sd}{s:Shared}{env:Env}{value io:Expr}{pos:Pos}{T id:String}{Q:Sd}
 (hl:typeLookup (.type T) "__getitem__"=pure (some (.builtin id))) (hs:nZ io)
 (h:wpAny (model prog w) A (eval value env) (λo s₁=>wpAny (model prog w) A (eval io env) (λi s₂=>s₂.TypeIs o T/\wpAny (model prog w) A (getItem o i) Q E s₂) E s₁) E s):
 wpAny (model prog w) A (eval (.Subscript value io pos) env) Q E s:=by
 refine Subscript_ (Pj h (λo s₁ h₁=>Pj h₁ (λi s₂ h₂=>?_) λ_ _ x=>x) λ_ _ x=>x);obtain⟨hT,h₂⟩:=h₂;unfold subscriptTail;refine j_ ?_;rw[getitemInPython_of_ne hT.not_modules];refine j_ (wpAny_specialOf hT hl ?_);have ii:wpAny (model prog w) A (subscripted io false o i) (λr s₃=>wpAny (model prog w) A (letTemporaryGo value o r >>= λ_=>pure r) Q E s₃) E s₂:=by rw[hs o i];exact wpAny_operating (Pj h₂ (λr s₃ h₃=>j_ (wpAny_letTemporaryGo (u_ h₃))) λ_ _ x=>x)
 first
  |exact u_ (j_ ii)
  |exact j_ (u_ (j_ ii))
  |exact j_ ii
def uI(I:Inv X pins σ H s)(g:DGet H a y o):s.TypeIs (.ref a) "dict":=by
 rcases g with ⟨kvs,k,e,_,_⟩ |⟨kvs,k,b,e,_,_,_⟩
 .obtain⟨_,_,vs,_,dd⟩:=xS I.hok e;exact dd.typeIs
 .obtain⟨_,_,xs,_,dd⟩:=wJ I.hok e;exact dd.typeIs
def OJ(td ty:TE):TE:=λσ H Q=>td σ H λx H1=>ty σ H1 λy H2=>∃a v,x=.ref a/\DGet H2 a y (some v)/\Q v H2
section
variable{X:Cx}{o i e value:Expr}{pos h_ tpos:Pos}{td ty tv:TE}
def vP(hu:X.A.units+1<cLine)(ho:PE X o td)(hi:PE X i ty)(hs:nZ i):PE X (.Subscript o i pos) (OJ td ty):=by intro pins s σ H Q I h;refine GS PySem.F.slot_dict_getitem.lookup hs (thn (ho pins s σ H _ I h) λu s1 ⟨x,H1,I1,rx,q1⟩=>thn (hi pins s1 σ H1 _ I1 q1) λiv s2 ⟨y,H2,I2,ry,a,v,ex,g,q2⟩=>?_);subst ex;obtain rfl:u=Value.ref a:=rx;exact⟨uI I2 g,AM hu I2 g ry λw' s3 I3 rw'=>⟨v,H2,I3,rw',q2⟩⟩
end
section
variable{X:Cx}{pos:Pos}
end
def nE:List (TE×TE)->St->Hp->(List (V×V)->Hp->Prop)->Prop
 | [],_,H,Q=>Q [] H
 |(tk,tv)::r,σ,H,Q=>tk σ H λx H1=>tv σ H1 λy H2=>nE r σ H2 λps H3=>Q ((x,y)::ps) H3
abbrev VV:List (V×V)->List (Value×Value)->Prop:=Paired λp q=>RelV p.1 q.1/\RelV p.2 q.2
def PPs(X:Cx)(pos:Pos)(keys:List (Option Expr))(values:List Expr)(trs:List (TE×TE)):Prop:=
 ∀
  (pins:Sb) (s:Shared) (σ:St) (H:Hp) (Q:List (V×V)->Hp->Prop),Inv X pins σ H s->nE trs σ H Q->
  wpAny (model X.prog X.w) X.A (evalPairs (pairTrees keys values X.env pos)) (λvs s'=>∃ps H',Inv X pins σ H' s'/\VV ps vs/\Q ps H') X.xe s
def FE:PPs X pos [] [] []:=λpins s σ H Q I h=>pairTrees_nil_walk ⟨[],H,I,.nil,h⟩
def BW(hk:PE X k tk)(hv:PE X v tv)(hr:PPs X pos ks vs trs):
 PPs X pos (some k::ks) (v::vs) ((tk,tv)::trs):=λpins s σ H Q I h=>
 pairTrees_cons_walk (thn (hk pins s σ H _ I h) λu s1 ⟨x,H1,I1,rx,q1⟩=>thn (hv pins s1 σ H1 _ I1 q1) λw2 s2 ⟨y,H2,I2,ry,q2⟩=>
  thn (hr pins s2 σ H2 _ I2 q2) λws s3 ⟨ps,H3,I3,rel,q3⟩=>⟨(x,y)::ps,H3,I3,.cons ⟨rx,ry⟩ rel,q3⟩)
def gR(kvs more:List (Key×V)):List (Key×V):=more.foldl (λacc kv=>cA acc kv.1 kv.2) kvs
def KV.merge:∀{more:List (Key×V)}{rs:List (Key×Value)}{kvs:List (Key×V)}{vs:List (Key×Value)},KV more rs->KV kvs vs->KV (gR kvs more) (merged vs rs):=by
 intro more rs kvs vs r;unfold KV at r;induction r generalizing kvs vs with
 |nil=>intro q;exact q
 |
  @cons p q ps qs h t ih=>
  intro r0;have e:KV (cA kvs p.1 p.2) (stored vs q.1 q.2):=by
   have:=r0.put p.1 h.2
   rw[<- h.1];exact this
  exact ih e
theorem jH:∀(more kvs:List (Key×V)),(gR kvs more).length<=kvs.length+more.length
 | [],kvs=>by show kvs.length<=kvs.length+0;omega
 |
  p::r,kvs=>by
  have h1:=jH r (cA kvs p.1 p.2);have h2:=iC kvs p.1 p.2;show (gR (cA kvs p.1 p.2) r).length<=_;rw[B_];omega
theorem mK:∀{kvs:List (Key×V)}{ws:List (Value×Value)},VV (kvs.map λkv=>(kV kv.1,kv.2)) ws->∃rs,Carries (bD P w) ws rs/\KV kvs rs
 | [],_,r=>by rw[O_] at r;cases r;exact⟨[],True.intro,.nil⟩
 |
  p::kvs,_,r=>by
  rw[s_] at r;cases r with
  |@cons a b as bs h t=>obtain⟨rs,c,q⟩:=mK (P:=P) (w:=w) t;obtain⟨b1,b2⟩:=b;exact⟨(p.1,b2)::rs,⟨qI h.1,rfl,c⟩,.cons ⟨rfl,h.2⟩ q⟩
def Nm(trs:List (TE×TE)):TE:=λσ H Q=>∀p,H p=none->nE trs σ (upd H p (.dK [])) λps H2=>H2 p=some (.dK [])/\∃kvs:List (Key×V),ps=kvs.map (λkv=>(kV kv.1,kv.2))/\kvs.length<=15/\Q (.ref p) (upd H2 p (.dK (gR [] kvs)))
def Gv(h:PPs X pos keys values trs)(hall:keys.all (·.isSome)=true)(hl:keys.length=values.length)(h0:keys≠[])
 (h15:keys.length<=15):PE X (.Dict keys values pos) (Nm trs):=by
 intro pins s σ H Q I q;have hn:=I.hok.fresh (o_ s.heap.objs.size);have I1:=I.laid (a:=s.heap.objs.size) (o:=.dK []) (h':=s.heap.push { cls:=.type "dict",data:=.dict #[] }) (t':=s.toks) (λ_ _ q=>l_ _ q) (o_ _) (ug s.heap I.big);refine wpAny_Dict_walk (knd:=bD X.prog X.w) hall hl h0 h15 (thn (h pins _ σ _ _ I1 (q _ hn)) λws s2 ⟨ps,H2,I2,rel,e,kvs,ep,lk,q2⟩=>?_);subst ep;obtain⟨rs,c,rk⟩:=mK (P:=X.prog) (w:=X.w) rel;obtain⟨z,hd,vs0,r0,dd⟩:=D4 I2.hok e;cases r0;refine⟨rs,c,dd,λh' dd' hs=>⟨.ref s.heap.objs.size,_,?_,rfl,q2⟩⟩;have hz:(gR [] kvs).length<=sizeLine:=by have h1:=jH kvs [];rw[Pd] at h1;rw[sizeLine_eq];omega
 have he:∃q,h'.get? s.heap.objs.size=some q:=let ⟨q,_,_,hq,_⟩:=dd';⟨q,hq⟩;exact oD I2 (by rw[e];exact True.intro) hs he (yG hz hd (rk.merge .nil) dd')
section
variable{X:Cx}{pins:Sb}{σ:St}{H:Hp}{s:Shared}{a:Addr}{y d:V}{u r:Value}{o:Option V}{A:Around}{E:Sd}
end
section
variable{X:Cx}{o e f:Expr}{apos cpos:Pos}{td ty tx:TE}
end
section
variable{X:Cx}{pins:Sb}{σ:St}{H:Hp}{s:Shared}{a:Addr}{kvs:List (Key×V)}{A:Around}{E:Sd}
end
section
variable{X:Cx}{pins:Sb}{σ:St}{H:Hp}{s:Shared}{a:Addr}{y:V}{u:Value}{A:Around}{E:Sd}
end
section
variable{prog:Program}{w:World}{A:Around}{E:Sd}{s:Shared}
end
section
variable[DecidableEq κ]
noncomputable def lkD(kvs:List (κ×α))(k:κ):Option α:=(kvs.find? λkv=>decide (kv.1=k)).map (·.2)
noncomputable def cS(kvs:List (κ×α))(k:κ)(v:α):List (κ×α):=if (kvs.any λkv=>decide (kv.1=k))=true then kvs.map λkv=>if kv.1=k then (kv.1,v) else kv else kvs++[(k,v)]
end
section
variable{K:W.Frag}{mg:Sa}{ρ:List Addr}{H:Hp}
def vZ:∀{kvs:List (Key×D)}{ws:List (Key×V)},ws.map (·.1)=kvs.map (·.1)->RelDs K mg ρ H (kvs.map (·.2)) (ws.map (·.2))->lkD kvs k=some d->∃v,eg ws k=some v/\RelD K mg ρ H d v:=by
 intro kvs;induction kvs with
 |nil=>intro ws e r q;cases q
 |
  cons p kvs ih=>
  intro ws e r q;cases ws with
  |nil=>cases e
  |
   cons w ws=>
   obtain⟨k1,d1⟩:=p;obtain⟨k2,v2⟩:=w;rw[s_,s_] at e;injection e with e1 e2;dsimp only at e1;subst e1;cases r with
   |
    cons r rr=>
    unfold lkD at q;unfold eg;rw[Pl] at q ⊢;dsimp only at q ⊢;by_cases hk:k2=k
    .rw[A_ hk] at q ⊢;cases q;exact⟨v2,rfl,r⟩
    .rw[w_ hk] at q ⊢;exact ih e2 rr q
def ua[DecidableEq κ]:∀{kvs:List (κ×α)}{ws:List (κ×β)},ws.map (·.1)=kvs.map (·.1)->(ws.any λkv=>decide (kv.1=k))=kvs.any λkv=>decide (kv.1=k):=by
 intro kvs;induction kvs with
 |
  nil=>
  intro ws e;cases ws with
  |nil=>rfl
  |cons _ _=>cases e
 |
  cons p kvs ih=>
  intro ws e;cases ws with
  |nil=>cases e
  |cons w ws=>rw[s_,s_] at e;injection e with e1 e2;rw[PR,PR,ih e2,e1]
def CT{k:Key}{d:D}{v:V}(rd:RelD K mg ρ H d v){kvs:List (Key×D)}{ws:List (Key×V)}(e:ws.map (·.1)=kvs.map (·.1))(r:RelDs K mg ρ H (kvs.map (·.2)) (ws.map (·.2))):(cA ws k v).map (·.1)=(cS kvs k d).map (·.1)/\RelDs K mg ρ H ((cS kvs k d).map (·.2)) ((cA ws k v).map (·.2)):=by
 unfold cA cS;rw[ua e];by_cases hc:(kvs.any λkv=>decide (kv.1=k))=true
 .rw[if_pos hc,if_pos hc];clear hc;induction kvs generalizing ws with
  |
   nil=>
   cases ws with
   |nil=>exact⟨rfl,.nil⟩
   |cons _ _=>cases e
  |
   cons p kvs ih=>
   cases ws with
   |nil=>cases e
   |
    cons w ws=>
    obtain⟨k1,d1⟩:=p;obtain⟨k2,v2⟩:=w;rw[s_,s_] at e;injection e with e1 e2;dsimp only at e1;subst e1;cases r with
    |
     cons r rr=>
     obtain⟨h1,h2⟩:=ih e2 rr;simp only[s_];by_cases hk:k2=k
     .rw[if_pos hk,if_pos hk];exact⟨by rw[h1],.cons rd h2⟩
     .rw[if_neg hk,if_neg hk];exact⟨by rw[h1],.cons r h2⟩
 .rw[if_neg hc,if_neg hc,Pf,Pf,Pf,Pf,e];exact⟨rfl,r.append (.cons rd .nil)⟩
def rW:D->D->AH->R D:=λx y h=>match x with
 |.ref n=>(match y with
  |.str k=>(match h[n]? with
   |some (.dct kvs)=>(match lkD kvs (.inr k) with
    |some d=>.ok d h
    |none=>.stuck)
   |_=>.stuck)
  |_=>.stuck)
 |_=>.stuck
def xE:ya:=λo i v H Q=>∃a H4,o=.ref a/\DPut H a i v H4/\Q H4
variable{X:Cx}{ES:St->XK}{a b:Expr}{F G:ME}{pos:Pos}
def BP(hu:X.A.units+1<cLine):so X xE:=λpins s σ H o i v ov iv u Q I ro ri rv ⟨a,H4,eo,g,q⟩=>by subst eo;obtain rfl:ov=Value.ref a:=ro;exact yK hu I g ri rv λs4 I4=>⟨H4,I4,q⟩
def Gk(hu:X.A.units+1<cLine)(ha:DE K mg X ES a F)(hb:DE K mg X ES b G)(hs:nZ b):DE K mg X ES (.Subscript a b pos) (eOp rW F G):=PE.imp (vP hu ha hb hs) λσ H Q q_=>q_.el λρ h ae w re p=>⟨ρ,h,ae,w,re,p.bind.imp λdx h1 ρ1 H1 l1 w1 p1 x rx=>⟨ρ1,h1,ae,w1,re.mono l1,p1.bind.imp λdy h2 ρ2 H2 l2 w2 p2 y ry=>by
 have rx2:=rx.mono l2;unfold rW at p2;split at p2
 .split
   at p2
  .split
    at p2
   .rename_i n k _ kvs e;split at p2
    .rename_i d q;cases rx2 with
     |ref ea=>cases ry;obtain⟨ws,k1,k2,k3⟩:=w2.ob _ _ _ ea e;obtain⟨v,q1,rv⟩:=vZ k2 k3 q;refine⟨_,v,rfl,?_,az w2 rv p2⟩;rw[<- q1];exact DGet.k (k:=.inr k) k1
    .exact p2.elim
   .exact p2.elim
  .exact p2.elim
 .exact p2.elim⟩⟩
noncomputable def mz(ks:List Str)(A:MA):ME:=λae h=>(A ae (h++[.dct []])).bind λds h2=>match h2[h.length]? with
 |some (.dct [])=>if ks.length=ds.length then .ok (.ref h.length) (h2.set h.length (.dct ((ks.map Sum.inr).zip ds))) else .stuck
 |_=>.stuck
def aL:List (Str×ME)->MA
 | []=>jd
 |p::r=>gX p.2 (aL r)
noncomputable def tps(K:W.Frag)(mg:Sa)(ES:St->XK)(prs:List (Str×ME)):List (TE×TE):=prs.map λp=>(tC (.str p.1),rdE K mg ES p.2)
theorem sq:∀(prs:List (Str×ME)) {ρ:List Addr}{h:AH}{ae:AE}{H:Hp}{Q:List (V×V)->Hp->Prop},Wd K mg ρ h H->RelE K mg ρ H ae σ->PostG K mg ρ H (ES σ) (λds _ ρ' H'=>∀vs,RelDs K mg ρ' H' ds vs->Q ((prs.map λp=>V.str p.1).zip vs) H') (aL prs ae h)->nE (tps K mg ES prs) σ H Q
 | [],ρ,h,ae,H,Q,w,re,p=>p ρ H Le.refl w [] .nil
 |pr::r,ρ,h,ae,H,Q,w,re,p=>⟨ρ,h,ae,w,re,(PostG.bind p).imp λd h1 ρ1 H1 l1 w1 p1 y ry=>sq r w1 (re.mono l1) ((PostG.bind p1).imp λds h2 ρ2 H2 l2 w2 p2 vs rs=>p2 ρ2 H2 Le.refl w2 (y::vs) (.cons (ry.mono l2) rs))⟩
theorem su:∀(more acc:List (Key×V)),((acc++more).map (·.1)).Nodup->gR acc more=acc++more
 | [],acc,_=>(Pn _).symm
 |
  (k,v)::more,acc,h=>by
  show gR (cA acc k v) more=_;have hk:eg acc k=none:=by unfold eg;rw[Option.map_eq_none_iff,List.find?_eq_none];intro p hp z;have z:=Qs z;rw[Pf,Q8] at h;exact h.2.2 p.1 (List.mem_map_of_mem hp) k (n_ ..) z
  rw[Bs v hk,su more (acc++[(k,v)]) (by rw[P_];exact h),P_];rfl
def vM:PPs X pos [] [] (tps K mg ES []):=FE
def Cp(hv:DE K mg X ES v F)(hr:PPs X pos ks vs (tps K mg ES prs)):PPs X pos (some (.Constant (.str k) j kp)::ks) (v::vs) (tps K mg ES ((k,F)::prs)):=BW zf hv hr
theorem ue:∀(ks:List Str) (vs:List V),(ks.map V.str).zip vs=((ks.map Sum.inr).zip vs).map λkv:Key×V=>(kV kv.1,kv.2)
 | [],_=>rfl
 |_::_,[]=>rfl
 |
  k::ks,v::vs=>by
  show (V.str k,v)::(ks.map V.str).zip vs=_;rw[ue ks vs];rfl
def E9(hp:PPs X pos keys values (tps K mg ES prs))(hall:keys.all (·.isSome)=true)(hl:keys.length=values.length)(h0:keys≠[])(h15:keys.length<=15)(hn:(prs.map (·.1)).Nodup)(hp15:prs.length<=15):DE K mg X ES (.Dict keys values pos) (mz (prs.map (·.1)) (aL prs)):=PE.imp (Gv hp hall hl h0 h15) λσ H Q q_=>q_.el λρ h ae w re p=>λpp hpp=>by
 have l:Le ρ H (ρ++[pp]) (upd H pp (.dK [])):=(bW hpp).trans gu;have w1:=w.alloc hpp (o:=.dct []) (u:=.dK []) ⟨[],aM,rfl,.nil⟩;refine sq prs w1 (re.mono l) ((PostG.mono l (PostG.bind p)).imp λds h2 ρ2 H2 l2 w2 p2 vs rs=>?_);split at p2
 .rename_i e;split at p2
  .rename_i be;have ea:ρ2[h.length]?=some pp:=l2.pre _ _ (by rw[<- w.len,O8 (o_ _),Qi];rfl);obtain⟨ws,k1,k2,_⟩:=w2.ob _ _ _ ea e;have:ws=[]:=by cases ws with |nil=>rfl |cons _ _=>cases k2
   subst this;have hlv:vs.length=prs.length:=by rw[<- rs.len,<- be,k_]
   refine⟨k1,((prs.map (·.1)).map Sum.inr).zip vs,?_,?_,?_⟩
   .rw[<- ue,Pq];rfl
   .rw[List.length_zip,k_,k_];omega
   .have hz:(((prs.map (·.1)).map Sum.inr).zip vs:List (Key×V)).map (·.1)=(prs.map (·.1)).map Sum.inr:=List.map_fst_zip (by rw[k_,k_];omega);rw[su _ [] (by rw[Ph,hz];exact List.Pairwise.map _ (λa b hab z=>hab (Sum.inr.inj z)) hn),Ph];have l3:Le ρ2 H2 ρ2 (upd H2 pp (.dK (((prs.map (·.1)).map Sum.inr).zip vs))):=ja k1 xH;refine p2 ρ2 _ l3 (w2.write ea k1 xH ⟨_,aM,?_,?_⟩) _ (.ref ea)
    .rw[hz,List.map_fst_zip (by rw[k_];omega)]
    .rw[List.map_snd_zip (by rw[k_];omega),List.map_snd_zip (by rw[k_,k_];omega)];exact rs.mono l3
  .exact p2.elim
 .exact p2.elim
end
section
variable{X:Cx}
end
section
variable{K:W.Frag}{mg:Sa}
end
section
variable{K:W.Frag}{mg:Sa}{X:Cx}{ES:St->XK}{o:Expr}{F:ME}{pos p2:Pos}
end
end L2
namespace L2
open PySem PySem.Spec PySem.Calls PyProof.Rows
section
variable{X:Cx}{K:W.Frag}{mg:Sa}{ES:St->XK}{es:List Expr}{gs:MGs}{pos:Pos}
end
section
variable{X:Cx}{K:W.Frag}{mg:Sa}{ES:St->XK}{a:Expr}{A:MA}{pos q2 p1 p2:Pos}
end
section
variable{X:Cx}{K:W.Frag}{mg:Sa}{w:World}{n:Str}{kvs:List (Str×Int)}
end
end L2
namespace L2
open PySem
end L2
namespace L2
open PySem PySem.Spec PySem.Calls PyProof.Rows
section
variable{X:Cx}{K:W.Frag}{mg:Sa}
end
section
variable{P:Program}{w:World}{K:W.Frag}{mg:Sa}{base:Heap}{x:Str}{st:Stmt}{k:Nat}{ps N:List Str}{sp:Sp}
variable{F:MS}
end
section
variable{X:Cx}{K:W.Frag}{mg:Sa}{ES:St->XK}{e:Expr}{es:List Expr}{A:MA}{pos:Pos}
end
end L2
namespace L2
open PySem PySem.Spec PyProof.Rows
section
variable{X:Cx}
end
section
variable{K:W.Frag}{mg:Sa}
end
section
variable{X:Cx}{K:W.Frag}{mg:Sa}
end
section
variable{X:Cx}
def Ny:List V->Hp->VK->Prop:=λxs H Q=>xs=[]/\∀l,H l=none->Q (.ref l) (upd H l (.set (λ_=>false) 0))
def uC:R2:=λx y H Q=>∃i a S n,x=.int i/\y=.ref a/\H a=some (.set S n)/\Q (.bl (S i)) H
def CB:OpR X (compareOp .In) uC:=by intro pins s σ H x y v u Q I rx ry h;obtain⟨i,a,S,n,rfl,rfl,hH,q⟩:=h;obtain⟨t,rfl⟩:=rx;cases ry;have hS:s.heap.SetOf (intKind X.prog X.w) a S n:=I.hok a _ hH;exact wpAny_inSet_of (intKind_is _ _ i t) rfl hS ⟨.bl (S i),H,I.tok _,rfl,q⟩
def vB:V->List V->Hp->VK->Prop:=λx vs H Q=>∃a i S n,x=.ref a/\vs=[.int i]/\H a=some (.set S n)/\n<4000/\Q .non (upd H a (.set (λk=>S k || decide (k=i)) (if S i then n else n+1)))
def AR:MtM X "set.add" vB:=by intro pins s σ H x vs v us Q I rx rv h;obtain⟨a,i,S,n,rfl,rfl,hH,hn,q⟩:=h;cases rx;obtain⟨u,rfl,ru⟩:=rv.one;obtain⟨t,rfl⟩:=ru;have hS:s.heap.SetOf (intKind X.prog X.w) a S n:=I.hok a _ hH;refine call_set_add (intKind_is _ _ i t) rfl hS (by unfold scanBound;omega) λh' sb hS'=>?_;refine⟨.non,_,I.write (x:=a) (e:=a) (by rw[hH];exact trivial) (.inl rfl) (λb o hb e=>(sb.2 b hb).trans e) ?_ (show ObjOk X.prog X.w _ h' a (.set (λk=>S k || decide (k=i)) (if S i then n else n+1)) from hS'),rfl,q⟩;obtain⟨o,_,_,_,e,_⟩:=hS';exact⟨o,e⟩
def uK:CallR X (.builtin "len") (λxs H Q=>∃a S n,xs=[.ref a]/\H a=some (.set S n)/\Q (.int (n:Nat)) H):=by intro pins s σ H xs us Q I r h;obtain⟨a,S,n,rfl,hH,q⟩:=h;obtain⟨u,rfl,ru⟩:=fb r;cases ru;have hS:s.heap.SetOf (intKind X.prog X.w) a S n:=I.hok a _ hH;obtain⟨o,es,ep,t,e,hex,hd,_,_,hb,hf,rfl⟩:=hS;refine call_len_set e hex hd hf (by unfold scanBound at hb;omega) ⟨.int (es.size:Nat),H,I.tok _,⟨_,rfl⟩,q⟩
def zZ:CallR X (.type "set") Ny:=by intro pins s σ H xs us Q I r h;obtain⟨rfl,q⟩:=h;cases r;refine call_set_0 λled=>?_;refine⟨.ref s.heap.objs.size,_,I.laid (t':=s.toks) (λb o e=>l_ _ e) (o_ _) (show ObjOk X.prog X.w _ _ _ (.set (λ_=>false) 0) from ?_),rfl,q _ (I.hok.fresh (o_ _))⟩;obtain⟨h1,es,ep,tt,h2,h3,h4,h5,h6⟩:=setObjOf_fresh (knd:=intKind X.prog X.w) led;exact⟨_,es,ep,tt,C_ _ rfl,h1,h2,h3,h4,by rw[h5];decide,h6,h5⟩
end
section
variable{K:W.Frag}{mg:Sa}{X:Cx}{ES:St->XK}{o e:Expr}{es:List Expr}{F:ME}{A:MA}{pos:Pos}
noncomputable def xG:ME:=λ_ h=>.ok (.ref h.length) (h++[.set []])
noncomputable def uc:D->D->AH->R D:=λx y h=>match x,y with
 |.int i,.ref n=>match h[n]? with
  |some (.set xs)=>.ok (.bl (decide (i∈xs))) h
  |_=>.stuck
 |_,_=>.stuck
noncomputable def m7:Fn:=λds h=>match ds with
 | [.ref n]=>match h[n]? with
  |some (.set xs)=>.ok (.int (xs.length:Nat)) h
  |_=>.stuck
 |_=>.stuck
noncomputable def eO(xs:List Int)(i:Int):List Int:=if i∈xs then xs else i::xs
noncomputable def tI:D->List D->AH->R D:=λx ds h=>match x,ds with
 |.ref n,[.int i]=>match h[n]? with
  |some (.set xs)=>if xs.length<4000 then .ok .non (h.set n (.set (eO xs i))) else .stuck
  |_=>.stuck
 |_,_=>.stuck
noncomputable def xI(h:AH):D->Bool
 |.ref n=>match h[n]? with
  |some (.set _)=>true
  |_=>false
 |_=>false
noncomputable def eMS(F:ME)(A:MA):ME:=λae h=>(F ae h).bind λx h1=>if xI h1 x=true then (A ae h1).bind λds h2=>tI x ds h2 else .stuck
def E7:OpD K mg uC uc:=λρ h H dx dy x y Q E w rx ry p=>by
 unfold uc at p;split at p
 .cases rx;cases ry with
  |
   ref ea=>
   split at p
   .rename_i xs e;obtain⟨_,h1⟩:=w.ob _ _ _ ea e;exact⟨_,_,_,_,rfl,rfl,h1,az w (.bl _) p⟩
   .exact p.elim
 .exact p.elim
def FD:aS K mg (λxs H Q=>∃a S n,xs=[.ref a]/\H a=some (.set S n)/\Q (.int (n:Nat)) H) m7:=λρ h H ds vs Q E w rs p=>by
 unfold m7 at p;split at p
 .cases
   rs with
  |
   cons r rs=>
   cases rs;cases r with
   |
    ref ea=>
    split at p
    .rename_i xs e;obtain⟨_,h1⟩:=w.ob _ _ _ ea e;exact⟨_,_,_,rfl,h1,az w (.int _) p⟩
    .exact p.elim
 .exact p.elim
def LW:MtD K mg vB tI:=λρ h H dx ds x vs Q E w rx rs p=>by
 unfold tI at p;split at p
 .rename_i n i;cases rx with
  |
   ref ea=>
   cases rs with
   |
    cons r rs=>
    cases rs;cases r;split at p
    .rename_i xs e;split at p
     .rename_i hl;obtain⟨nd,h1⟩:=w.ob _ _ _ ea e;refine⟨_,_,_,_,rfl,rfl,h1,hl,?_⟩;have e2:HO.set (λk=>decide (k∈xs) || decide (k=i)) (if decide (i∈xs)=true then xs.length else xs.length+1)=.set (λk=>decide (k∈eO xs i)) (eO xs i).length:=by
       unfold eO;by_cases hi:i∈xs
       .rw[if_pos (A_ hi),if_pos hi];congr 1;funext k;by_cases hk:k∈xs
        .rw[A_ hk];rfl
        .rw[w_ hk,w_ (show ¬ k=i from λz=>hk (by rw[z];exact hi))];rfl
       .rw[if_neg (by rw[w_ hi];exact x_),if_neg hi];congr 1;funext k;rw[Ru,QA,PN,PN,PN,H_];exact Or.comm
      rw[e2];have l:Le ρ H ρ (upd H _ (.set (λk=>decide (k∈eO xs i)) (eO xs i).length)):=ja h1 Es;refine p ρ _ l (w.write ea h1 Es ⟨?_,aM⟩) .non .non;unfold eO;split
      .exact nd
      .rename_i hi;exact QC.mpr ⟨hi,nd⟩
     .exact p.elim
    .exact p.elim
 .exact p.elim
def F1(hg:Gl X x)(hm:mg x=none)(hv:bootBuiltins x=some (.type "set"))(hk:X.mg=mg)(hn:x ≠ "__name__")(hdb:(x==("__debug__" : Str))=false):DE K mg X ES (.Call (.Name x p0) [] [] pos) xG:=by
 subst hk;refine PE.imp (yx zZ hg hm hv hn hdb) λσ H Q q_=>q_.el λρ h ae w re p=>⟨rfl,λl hl=>?_⟩;have le:Le ρ H (ρ++[l]) (upd H l (.set (λ_=>false) 0)):=(bW hl).trans gu;refine p (ρ++[l]) _ le (w.alloc hl ⟨List.nodup_nil,?_⟩) _ (.ref ?_)
 .rw[aM];congr 1
 .rw[<- w.len,O8 (o_ _),Qi];rfl
def Mi(hK:X.K=K)(ho:DE K mg X ES o F)(ha:DA K mg X ES (e::es) A)
 (f_:attributeBase o "add" X.env (eval o X.env)=eval o X.env)
 (hfew:((backTo cpos (starEach (e::es) X.env)).all (λx=>!x.1)&&(backToKw cpos (keywordEach [] X.env)).all (λx=>x.1.isSome)
  && decide ((e::es).length+([]:List Keyword).length+(if ([]:List Keyword).isEmpty then 0 else 1)<30))=true)
 (gl:(apos.endLine==cpos.line)=true) (hs:starEach (e::es) X.env=(false,eval e X.env)::starEach es X.env) (ci:(backTo cpos (starEach es X.env)).any (·.1)=false):
 DE K mg X ES (.Call (.Attribute o "add" apos) (e::es) [] cpos) (eMS F A):=by
 subst hK;refine PE.imp (Ep PySem.F.plainAttrs_set PySem.F.slot_set_add PySem.F.type_set_add AR ho ha f_ hfew gl hs ci) λσ H Q q_=>q_.el λρ h ae w re p=>⟨ρ,h,ae,w,re,p.bind.imp λdx h1 ρ1 H1 l1 w1 p1 x rx=>?_⟩;split at p1
 .rename_i hl;have ty:tyV X.K "set" x H1:=by
   cases rx with
   |
    ref ea=>
    unfold xI at hl;dsimp only at hl;split at hl
    .rename_i xs q;obtain⟨_,hh⟩:=w1.ob _ _ _ ea q;exact .inr (.inr (.inr ⟨rfl,_,_,hh⟩))
    .cases hl
   |_=>cases hl
  exact⟨ty,ρ1,h1,ae,w1,re.mono l1,p1.bind.imp λds h2 ρ2 H2 l2 w2 p2 vs rs=>LW ρ2 h2 H2 dx ds x vs Q _ w2 (rx.mono l2) rs p2⟩
 .exact p1.elim
end
section
variable{K:W.Frag}{mg:Sa}
noncomputable def tG:D->D->AH->R D:=λx y h=>match x with
 |.ref n=>(match y with
  |.int k=>(match h[n]? with
   |some (.dct kvs)=>(match lkD kvs (.inl k) with
    |some d=>.ok d h
    |none=>.stuck)
   |_=>.stuck)
  |_=>.stuck)
 |_=>.stuck
noncomputable def wDI(o i v:D)(h:AH):R Unit:=match o with
 |.ref n=>(match i with
  |.int k=>(match h[n]? with
   |some (.dct kvs)=>if kvs.length<16777216 then .ok () (h.set n (.dct (cS kvs (.inl k) v))) else .stuck
   |_=>.stuck)
  |_=>.stuck)
 |_=>.stuck
variable{X:Cx}{ES:St->XK}{a b:Expr}{F G:ME}{pos:Pos}
def Cu:oi K mg xE wDI:=λρ h H do_ di dv o i v Q E w ro ri rv p=>by
 unfold wDI at p;split at p
 .split
   at p
  .split
    at p
   .rename_i n k _ kvs e;split at p
    .rename_i hl;cases ro with
     |
      ref ea=>
      cases ri;obtain⟨ws,h1,h2,h3⟩:=w.ob _ _ _ ea e;have be:ws.length=kvs.length:=by have:=PF List.length h2;simpa using this
      have l:Le ρ H ρ (upd H _ (.dK (cA ws (.inl k) v))):=ja h1 xH;obtain⟨k1,k2⟩:=CT (k:=.inl k) rv h2 h3;exact⟨_,_,rfl,DPut.k (k:=.inl k) h1 (by rw[be];exact hl),p ρ _ l (w.write ea h1 xH ⟨_,aM,k1,k2.mono l⟩)⟩
    .exact p.elim
   .exact p.elim
  .exact p.elim
 .exact p.elim
def Bg(hu:X.A.units+1<cLine)(ha:DE K mg X ES a F)(hb:DE K mg X ES b G)(hs:nZ b):DE K mg X ES (.Subscript a b pos) (eOp tG F G):=PE.imp (vP hu ha hb hs) λσ H Q q_=>q_.el λρ h ae w re p=>⟨ρ,h,ae,w,re,p.bind.imp λdx h1 ρ1 H1 l1 w1 p1 x rx=>⟨ρ1,h1,ae,w1,re.mono l1,p1.bind.imp λdy h2 ρ2 H2 l2 w2 p2 y ry=>by
 have rx2:=rx.mono l2;unfold tG at p2;split at p2
 .split
   at p2
  .split
    at p2
   .rename_i n k _ kvs e;split at p2
    .rename_i d q;cases rx2 with
     |ref ea=>cases ry;obtain⟨ws,k1,k2,k3⟩:=w2.ob _ _ _ ea e;obtain⟨v,q1,rv⟩:=vZ k2 k3 q;refine⟨_,v,rfl,?_,az w2 rv p2⟩;rw[<- q1];exact DGet.k (k:=.inl k) k1
    .exact p2.elim
   .exact p2.elim
  .exact p2.elim
 .exact p2.elim⟩⟩
end
section
variable{X:Cx}{K:W.Frag}{mg:Sa}
def l8(K:W.Frag):V->List V->Hp->VK->Prop:=λx vs H Q=>∃l b xs zs,x=.ref l/\vs=[.ref b]/\H l=some (.lst xs)/\SqT K H b zs/\xs.length+zs.length<=sizeLine/\Q .non (upd H l (.lst (xs++zs)))
def Fu(l:Addr)(xs:Array Value)(n:Nat)(b:Addr)(ys:Array Value)(n2:Nat)(dd:Option Addr)(ss:Array (Option Value))(z0:¬(!xs.isEmpty&&Builtin.List.listTooLong (xs.size+ys.size))=true)(z1:xs.size<=sizeLine)(z2:xs.size+ys.size<=sizeLine+1):
 Meets (Builtin.«list.extend» ⟨[.ref l,.ref b],[]⟩) (λ_ R s=>s.heap.get? l=some { cls:=.type "list",dict:=none,data:=.seq xs n,slots:=#[] }/\s.heap.get? b=some { cls:=.type "tuple",dict:=dd,data:=.seq ys n2,slots:=ss }/\R (.ok (.ret Value.none)) { s with heap:=s.heap.update l (Obj.mapSeq λx=>x++ys),toks:=s.toks }):=
 .of_wp λprog w A R s h=>by
  obtain⟨hp,g,d,tk,os⟩:=s;obtain⟨el,eb,h⟩:=h;have e1:=PySem.AutoSeq1.idx_int;have e2:=PySem.F.sub_tuple_tuple;have e3:=PySem.F.sub_list_list;have e4:=PySem.F.sub_tuple_list;have e5:=PySem.F.sub_list_tuple;have zz:(xs++ys).size<=sizeLine+1:=by rw[Array.size_append];exact z2
  wp_walk using (wpAny_updateSeq el rfl (hz:=z1) (_hz':=zz)),wpAny_loadPart' el,wpAny_loadPart' eb
  exact⟨_,rfl,h⟩
def wO(hK:X.K=K):MtM X "list.extend" (l8 K):=by
 subst hK;intro pins s σ H x vs v us Q I rx rv h;obtain⟨l,b,xs,zs,rfl,rfl,hH,hB,hz,q⟩:=h;cases rx;obtain⟨u,rfl,ru⟩:=rv.one;cases ru;obtain⟨z,its,n,r,hl,e⟩:=I.lstM hH;obtain⟨its2,r2,⟨⟨oc,od,oda,os⟩,e2,ec,n2,ed⟩,z2⟩:=I.tuple hB;dsimp only at ec ed;subst ec ed;have hl2:=r2.length;have hsz:its.toArray.size+its2.toArray.size<=sizeLine:=by rw[t_,t_];omega
 have hlong:¬ (!its.toArray.isEmpty&&Builtin.List.listTooLong (its.toArray.size+its2.toArray.size))=true:=by rw[CI hsz,Bool.and_false];exact x_
 refine call_meets PySem.F.slot_list_extend ⟨_,e,rfl⟩ PySem.F.entry_list_extend (PySem.F.args_list_extend_2 _ _)
  (Fu l its.toArray n b its2.toArray n2 od os hlong (by rw[t_];omega) (by omega)) ⟨e,e2,?_⟩
 refine⟨.non,_,I.lset (its':=its++its2) hH e (by simp) (r.append r2) ?_,rfl,q⟩;rw[z_];omega
noncomputable def jx:D->List D->AH->R D:=λx ds h=>i7 h x λn xs=>match ds with
 | [.tup ys]=>if xs.length+ys.length<=16777216 then .ok .non (h.set n (.lst (xs++ys))) else .stuck
 |_=>.stuck
def x9:MtD K mg (l8 K) jx:=λρ h H dx ds x vs Q E w rx rs p=>by
 obtain⟨n,xs,a,us,rfl,e,ea,rfl,h1,h2,p⟩:=jQ w rx p;split at p
 .cases rs with
  |
   cons r rs=>
   cases rs;split at p
   .rename_i hb;cases r with
    |tup hq rr=>exact⟨a,_,us,_,rfl,rfl,h1,hq,by rw[<- h2.len,<- rr.len];exact hb,my w ea h1 (h2.append rr) .non p⟩
   .exact p.elim
 .exact p.elim
end
section
variable{X:Cx}{e st:Expr}{te tst:TE}{pos p2:Pos}
def tRev(K:W.Frag)(te tst:TE):TE:=λσ H Q=>te σ H λx H1=>tst σ H1 λy H2=>y=.int (-1)/\∃a xs,x=.ref a/\SqL K H2 a xs/\∀p,H2 p=none->Q (.ref p) (upd H2 p (.lst xs.reverse))
def HC(he:PE X e te)(hst:PE X st tst):PE X (.Subscript e (.Slice none none (some st) p2) pos) (tRev X.K te tst):=by intro pins s σ H Q I h;refine Subscript_ (thn (he pins s σ H _ I h) λv s1 ⟨x,H1,I1,r1,q1⟩=>?_);refine wpAny_Slice ?_;rw[evalPart_none];refine u_ ?_;refine u_ ?_;rw[evalPart_some];refine thn (hst pins s1 σ H1 _ I1 q1) λu s2 ⟨y,H2,I2,r2,q2⟩=>?_;obtain⟨rfl,a,xs,rfl,hq,q⟩:=q2;obtain⟨t,rfl⟩:=r2;cases r1;have I3:Inv X pins σ H2 { s2 with heap:=s2.heap.push { cls:=.type "slice",data:=.fields #[.none,.none,.int (-1) t] } }:=I2.kept (t':=s2.toks) λb ob q=>l_ _ q;obtain⟨its,rv,pl,hz⟩:=I3.list hq;have hl:=rv.length;have hs:(s2.heap.push { cls:=.type "slice",data:=.fields #[.none,.none,.int (-1) t] }).IsSliceOf s2.heap.objs.size .none .none (.int (-1) t):=Heap.IsSliceOf.new ..;show wpAny (model X.prog X.w) X.A (subscriptTail e (.Slice none none (some st) p2) (.ref a) (.ref s2.heap.objs.size)) (EP X pins σ Q) X.xe { s2 with heap:=s2.heap.push { cls:=.type "slice",data:=.fields #[.none,.none,.int (-1) t] } };refine tail_any (ops:=[.ref a,.ref s2.heap.objs.size]) pl.isList.typeIs slot_list_getitem.lookup ?_ (by with_unfolding_all rfl);refine wpAny_getItem_list_slice pl.isList hs .none .none (.int (-1) t) (by decide) ?_ (by rw[t_];omega);rw[W.krv_pick];refine⟨.ref _,_,I3.lnew (t':=s2.toks) (ys:=xs.reverse) rv.reverse (by rw[Qc];exact hz),rfl,q _ I3.fresh⟩
end
section
variable{K:W.Frag}{mg:Sa}{X:Cx}{ES:St->XK}{e st:Expr}{F G:ME}{pos p2:Pos}
noncomputable def sf:D->D->AH->R D:=λx y h=>match x,y with
 |
  .ref n,.int i=>if i=-1 then match aG h n with
   |some xs=>.ok (.ref h.length) (h++[.lst xs.reverse])
   |none=>.stuck
  else .stuck
 |_,_=>.stuck
def JV(hK:X.K=K)(he:DE K mg X ES e F)(hs:DE K mg X ES st G):DE K mg X ES (.Subscript e (.Slice none none (some st) p2) pos) (eOp sf F G):=by
 subst hK;refine PE.imp (HC he hs) λσ H Q q_=>q_.el λρ h ae w re p=>⟨ρ,h,ae,w,re,p.bind.imp λdx h1 ρ1 H1 l1 w1 p1 x rx=>⟨ρ1,h1,ae,w1,re.mono l1,p1.bind.imp λdy h2 ρ2 H2 l2 w2 p2 y ry=>?_⟩⟩;have rx2:=rx.mono l2;unfold sf at p2;split at p2
 .rename_i n i;split at p2
  .rename_i hi;split at p2
   .rename_i xs q;cases ry;cases rx2 with
    |ref ea=>obtain⟨vs,q1,q2⟩:=bg w2 ea q;exact⟨by rw[hi],_,vs,rfl,q1,λl hl=>dM w2 q2.reverse hl p2⟩
   .exact p2.elim
  .exact p2.elim
 .exact p2.elim
end
section
variable{X:Cx}{K:W.Frag}{mg:Sa}
end
section
variable{K:W.Frag}{mg:Sa}{X:Cx}
end
section
variable{X:Cx}
end
section
variable{K:W.Frag}{mg:Sa}
noncomputable def kT:List D->Option (List Int)
 | []=>some []
 |.int i::ds=>(kT ds).map (i :: ·)
 |_::_=>none
theorem jP{ρ:List Addr}{H:Hp}:∀{ds:List D}{vs:List V}{ns:List Int},RelDs K mg ρ H ds vs->kT ds=some ns->vs=ns.map V.int
 | [],_,_,r,e=>by cases r;cases e;rfl
 |
  d::ds,_,ns,r,e=>by
  cases r with
  |
   cons r rr=>
   cases d with
   |int i=>obtain⟨ms,e1,rfl⟩:=G_.mp e;cases r;rw[jP rr e1];rfl
   |_=>cases e
end
section
variable{K:W.Frag}{mg:Sa}{X:Cx}
end
section
variable{K:W.Frag}{mg:Sa}{X:Cx}
end
section
variable{X:Cx}{tg:Expr}{p pos:Pos}{a b c:Expr}
end
end L2
namespace L2
open PySem PySem.W PyProof.Rows
structure LtO(lt:Nat->Nat->Bool)(N:Nat):Prop where
 irr:∀i,lt i i=false
 tr:∀i j k,lt i j=true->lt j k=true->lt i k=true
 tot:∀i j,i<N->j<N->i≠j->lt i j=true\/lt j i=true
abbrev Ask:=Nat->Nat->(Bool->Shared->Prop)->Shared->Prop
def Ans(cmp:Ask)(lt:Nat->Nat->Bool)(N:Nat)(s:Shared):Prop:=∀i j C,i<N->j<N->C (lt i j) s->cmp i j C s
structure PmO(N:Nat)(p:Array Nat):Prop where
 sz:p.size=N
 lt:∀i,i<N->p.getD i 0<N
 ne:∀i j,i<j->j<N->p.getD i 0≠p.getD j 0
def UpTo(lt:Nat->Nat->Bool)(p:Array Nat)(k:Nat):Prop:=∀i j,i<j->j<k->lt (p.getD i 0) (p.getD j 0)=true
def DnTo(lt:Nat->Nat->Bool)(p:Array Nat)(k:Nat):Prop:=∀i j,i<j->j<k->lt (p.getD j 0) (p.getD i 0)=true
def eK(p:Array Nat)(i:Nat):p.getD i 0=(p[i]?).getD 0:=by rw[Array.getD_eq_getD_getElem?]
def PmO.of{N:Nat}{p:Array Nat}(h:p.toList.Perm (List.range N)):PmO N p:=by
 have hl:p.size=N:=by rw[<- PZ,h.length_eq,Pc]
 have nd:p.toList.Nodup:=h.nodup_iff.mpr QN;have e:∀i (hi:i<N),p.getD i 0=p.toList[i]'(by rw[PZ,hl];exact hi):=λi hi=>by rw[eK,QW (by rw[hl];exact hi)];simp
 refine⟨hl,λi hi=>?_,λi j hij hj=>?_⟩
 .rw[e i hi];exact Pk.mp (h.mem_iff.mp (P4 _))
 .rw[e i (by omega),e j hj];exact PK.mp nd i j _ _ hij
variable{lt:Nat->Nat->Bool}{N:Nat}{cmp:Ask}{s:Shared}
def LtO.flip(O:LtO lt N){p:Array Nat}(P:PmO N p){i j:Nat}(hij:i<j)(hj:j<N)(h:lt (p.getD j 0) (p.getD i 0)=false):lt (p.getD i 0) (p.getD j 0)=true:=by
 rcases O.tot _ _ (P.lt i (by omega)) (P.lt j hj) (P.ne i j hij hj) with z |z
 .exact z
 .rw[h] at z;cases z
def UpTo.more(O:LtO lt N){p:Array Nat}{n:Nat}(h:UpTo lt p n)(hn:1<=n)(e:lt (p.getD (n-1) 0) (p.getD n 0)=true):UpTo lt p (n+1):=λi j hij hj=>by
 by_cases hj':j<n
 .exact h i j hij hj'
 .obtain rfl:j=n:=by omega
  by_cases hi:i=j-1
  .rw[hi];exact e
  .exact O.tr _ _ _ (h i (j-1) (by omega) (by omega)) e
def DnTo.more(O:LtO lt N){p:Array Nat}{n:Nat}(h:DnTo lt p n)(hn:1<=n)(e:lt (p.getD n 0) (p.getD (n-1) 0)=true):DnTo lt p (n+1):=λi j hij hj=>by
 by_cases hj':j<n
 .exact h i j hij hj'
 .obtain rfl:j=n:=by omega
  by_cases hi:i=j-1
  .rw[hi];exact e
  .exact O.tr _ _ _ e (h i (j-1) (by omega) (by omega))
theorem uu(O:LtO lt N)(C:Ans cmp lt N s){p:Array Nat}(P:PmO N p){Q:Nat->Shared->Prop}:∀(f n:Nat),n+f=N->1<=n->UpTo lt p n->(∀m,n<=m->m<=N->UpTo lt p m->(m=N\/lt (p.getD m 0) (p.getD (m-1) 0)=true)->Q m s)->(kas_asc p f n).kasWp cmp Q s
 |0,n,hf,h1,hu,hq=>hq n (o_ _) (by omega) hu (.inl (by omega))
 |
  f+1,n,hf,h1,hu,hq=>by
  refine C _ _ _ (P.lt n (by omega)) (P.lt (n-1) (by omega)) ?_;cases z:lt (p.getD n 0) (p.getD (n-1) 0) with
  |true=>exact hq n (o_ _) (by omega) hu (.inr z)
  |false=>exact uu O C P f (n+1) (by omega) (by omega) (hu.more O h1 (O.flip P (by omega) (by omega) z)) λm a b=>hq m (by omega) b
theorem vA(O:LtO lt N)(C:Ans cmp lt N s){p:Array Nat}(P:PmO N p){Q:Array Nat×Nat×Nat->Shared->Prop}:∀(f n:Nat),n+f=N->1<=n->DnTo lt p n->(∀m,n<=m->m<=N->DnTo lt p m->Q (p,m,0) s)->(kas_desc f p n 0).kasWp cmp Q s
 |0,n,hf,h1,hu,hq=>hq n (o_ _) (by omega) hu
 |
  f+1,n,hf,h1,hu,hq=>by
  refine C _ _ _ (P.lt n (by omega)) (P.lt (n-1) (by omega)) ?_;cases z:lt (p.getD n 0) (p.getD (n-1) 0) with
  |true=>exact vA O C P f (n+1) (by omega) (by omega) (hu.more O h1 z) λm a b=>hq m (by omega) b
  |false=>refine C _ _ _ (P.lt (n-1) (by omega)) (P.lt n (by omega)) ?_;rw[O.flip P (by omega) (by omega) z];exact hq n (o_ _) (by omega) hu
def yM{p:Array Nat}{n k:Nat}(hn:n<=p.size):(kas_rev p 0 n).getD k 0=if k<n then p.getD (n-1-k) 0 else p.getD k 0:=by
 have e:=getElem?_mirror_all (xs:=p) (i:=0) hn k;unfold kas_rev;rw[eK,e];by_cases h:k<n
 .rw[if_pos ⟨M_ _,h⟩,if_pos h,eK];congr 2;omega
 .rw[if_neg (λz=>h z.2),if_neg h,eK]
def DD(O:LtO lt N)(C:Ans cmp lt N s){p:Array Nat}(P:p.toList.Perm (List.range N)){Q:Nat×Array Nat->Shared->Prop}{n:Nat}(h1:1<=n)(hn:n<=N)(hd:DnTo lt p n)(hq:∀m p',p'.toList.Perm (List.range N)->1<=m->m<=N->UpTo lt p' m->Q (m,p') s):(kas_tail3 n N p).kasWp cmp Q s:=by have P':(kas_rev p 0 n).toList.Perm (List.range N):=(Array.perm_iff_toList_perm.mp (mirror_perm _ _ _ _)).trans P;have sz:=(PmO.of P).sz;unfold kas_tail3;rw[KasT.kasWp_bind];refine uu O C (PmO.of P') (N-n) n (by omega) h1 (λi j hij hj=>?_) λm a b c _=>hq m _ P' (by omega) b c;rw[yM (by omega),yM (by omega),if_pos (by omega),if_pos (by omega)];exact hd _ _ (by omega) (by omega)
def Be(O:LtO lt N)(C:Ans cmp lt N s){p:Array Nat}(P:p.toList.Perm (List.range N))(hN:1<=N){Q:Nat×Array Nat->Shared->Prop}(hq:∀m p',p'.toList.Perm (List.range N)->1<=m->m<=N->UpTo lt p' m->Q (m,p') s):(kas_count N p).kasWp cmp Q s:=by
 unfold kas_count;rw[KasT.kasWp_bind];refine uu O C (PmO.of P) (N-1) 1 (by omega) (o_ _) (λi j hij hj=>by omega) λm a b c d=>?_;by_cases hm:m=N
 .rw[if_pos (by rw[Pa];exact hm)];exact hq m p P a b c
 .rw[if_neg (by rw[Pa];exact hm)];by_cases h1:m>1
  .rw[if_pos h1];refine C _ _ _ ((PmO.of P).lt 0 (by omega)) ((PmO.of P).lt (m-1) (by omega)) ?_;rw[c 0 (m-1) (by omega) (by omega)];exact hq m p P a b c
  .rw[if_neg h1];obtain rfl:m=1:=by omega
   have z:=d.resolve_left hm;unfold kas_descPart;rw[KasT.kasWp_bind];refine vA O C (PmO.of P) (N-2) 2 (by omega) (by omega) (λi j hij hj=>?_) λm' a' b' c'=>?_
   .obtain rfl:i=0:=by omega
    obtain rfl:j=1:=by omega
    exact z
   .dsimp only;rw[if_neg (by omega)];exact DD O C P (by omega) b' c' hq
theorem gA(O:LtO lt N)(C:Ans cmp lt N s){p:Array Nat}(P:PmO N p){k:Nat}(hk:k<N){Q:Nat->Shared->Prop}(hu:UpTo lt p k):∀(f l r:Nat),l<=r->r<=k->r-l<=f->(∀i,i<l->lt (p.getD i 0) (p.getD k 0)=true)->(∀i,r<=i->i<k->lt (p.getD k 0) (p.getD i 0)=true)->(∀m,m<=k->(∀i,i<m->lt (p.getD i 0) (p.getD k 0)=true)->(∀i,m<=i->i<k->lt (p.getD k 0) (p.getD i 0)=true)->Q m s)->(kas_place p k f l r).kasWp cmp Q s
 |0,l,r,h1,h2,h3,h4,h5,hq=>hq l (by omega) h4 λi hi=>h5 i (by omega)
 |
  f+1,l,r,h1,h2,h3,h4,h5,hq=>by
  unfold kas_place;by_cases h:l >= r
  .rw[if_pos h];exact hq l (by omega) h4 λi hi=>h5 i (by omega)
  .rw[if_neg h];refine C _ _ _ (P.lt k hk) (P.lt _ (by omega)) ?_;cases z:lt (p.getD k 0) (p.getD ((l+r)/2) 0) with
   |
    true=>
    refine gA O C P hk hu f l ((l+r)/2) (by omega) (by omega) (by omega) h4 (λi hi hik=>?_) hq;by_cases hr:i=(l+r)/2
    .rw[hr];exact z
    .exact O.tr _ _ _ z (hu _ _ (by omega) hik)
   |
    false=>
    refine gA O C P hk hu f ((l+r)/2+1) r (by omega) h2 (by omega) (λi hi=>?_) h5 hq;have y:=O.flip P (show (l+r)/2<k by omega) hk z;by_cases hr:i=(l+r)/2
    .rw[hr];exact y
    .exact O.tr _ _ _ (hu _ _ (by omega) (by omega)) y
def z9{p:Array Nat}{k l t:Nat}(hk:k<p.size)(hl:l<=k):(bubble p k (k-l)).getD t 0=if t=l then p.getD k 0 else if l<t/\t<=k then p.getD (t-1) 0 else p.getD t 0:=by
 have e:=getElem?_bubble hk (k-l) (by omega) t;rw[show k-(k-l)=l by omega] at e;rw[eK,e];by_cases h:t=l
 .rw[if_pos h,if_pos h,eK]
 .rw[if_neg h,if_neg h];by_cases h':l<t/\t<=k
  .rw[if_pos h',if_pos h',eK]
  .rw[if_neg h',if_neg h',eK]
theorem zP(O:LtO lt N)(C:Ans cmp lt N s){Q:Array Nat->Shared->Prop}(hq:∀p,p.toList.Perm (List.range N)->UpTo lt p N->Q p s):∀(f:Nat) (p:Array Nat) (k:Nat),p.toList.Perm (List.range N)->k+f=N->1<=k->UpTo lt p k->(kas_bin f p k).kasWp cmp Q s
 |
  0,p,k,P,hf,h1,hu=>by
  obtain rfl:k=N:=by omega
  exact hq p P hu
 |
  f+1,p,k,P,hf,h1,hu=>by
  have sz:=(PmO.of P).sz;unfold kas_bin;rw[KasT.kasWp_bind];refine gA O C (PmO.of P) (by omega) hu k 0 k (by omega) (o_ _) (by omega) (λi hi=>by omega) (λi h1 h2=>by omega) λm hm ha hb=>?_;refine zP O C hq f _ (k+1) ((Array.perm_iff_toList_perm.mp (bubble_perm _ _ _)).trans P) (by omega) (by omega) λi j hij hj=>?_;rw[z9 (by omega) hm,z9 (by omega) hm];by_cases i1:i=m
  .rw[if_pos i1];rw[if_neg (by omega),if_pos (by omega)];exact hb _ (by omega) (by omega)
  .rw[if_neg i1];by_cases j1:j=m
   .rw[if_pos j1,if_neg (by omega)];exact ha i (by omega)
   .rw[if_neg j1];by_cases i2:m<i
    .rw[if_pos (by omega),if_pos (by omega)];exact hu _ _ (by omega) (by omega)
    .rw[if_neg (by omega)];by_cases j2:m<j
     .rw[if_pos (by omega)];exact hu _ _ (by omega) (by omega)
     .rw[if_neg (by omega)];exact hu _ _ (by omega) (by omega)
def Gf(O:LtO lt N)(C:Ans cmp lt N s)(hN:1<=N){Q:Array Nat->Shared->Prop}(hq:∀p,p.toList.Perm (List.range N)->UpTo lt p N->Q p s):(kas_sort N).kasWp cmp Q s:=by
 unfold kas_sort;rw[KasT.kasWp_bind];refine Be O C (by simp) hN λm p P h1 h2 hu=>?_;dsimp only;by_cases h:m<N
 .rw[if_pos h,show max m 1=m by omega];exact zP O C hq _ _ _ P (by omega) h1 hu
 .rw[if_neg h];obtain rfl:m=N:=by omega
  exact hq p P hu
end L2
namespace L2
open PySem PySem.Spec PyProof.Rows
def D5(H:Hp):Prop:=∀b,H b=none\/(∃o xs,H b=some (.frz o xs))\/H b=some (.tbl #[])
structure TabsOk(K:W.Frag)(ts:List Addr)(h:Heap):Prop where
 at_:∀P∈ts,h.get? P=some (W.tabObj #[])
 no:∀P∈ts,K.lookup P=none
 cd:∀P∈ts,∃c,W.codeHdIn K c P=true
def spT(K:W.Frag)(mg:Sa)(ts:List Addr):Sp:=λvs H Q _=>∃(a:Addr) (ns:List Int),vs=[.ref a]/\D5 H/\SqL K H a (ns.map V.int)/\ns.length<=63/\(∀P∈ts,H P=some (.tbl #[]))/\BMok K mg H/\∀H',Q (.bl true) H'
def Mv{Pr:Program}{w:World}{K:W.Frag}{mg mb:Sa}{k:Nat}{fa a:Addr}{fd:FuncData}{x:Str}{s1:Shared}{vs:List Value}{ns:List Int}{ts:List Addr}
 (KX:K.In s1.heap) (hns:s1.heap.Ns mainGlobals mg) (hb:s1.heap.Ns builtinsNs mb) (hbb:∀y:Str,y ≠ "__name__"->mb y=bootBuiltins y) (hlim:s1.heap.NoLimit) (hg:s1.gens=#[]) (TO:TabsOk K ts s1.heap) (hbm:∃bm ob,mg "__builtins__"=some (.ref bm)/\bm≠builtinsNs/\s1.heap.get? bm=some ob/\ob.cls=.type "module" /\ ob.dict=some builtinsNs/\ob.data=.plain)
 (ha:s1.heap.get? a=some { cls:=.type "list",data:=.seq vs.toArray }) (hi:IntsAre vs ns) (hl:ns.length<=63) (hr:Room k callerA)
 (F:∀base:Heap,K.In base->base.Ns mainGlobals mg->FnOk Pr w K mg base (CX1 Pr w) k fa fd [x] (spT K mg ts)) (hbind:∀(s:Shared) (u:Value),BindsTo s fd ⟨[u],[]⟩ [(x,u)]):
 codeAny (model Pr w) callerA (.call (.ref fa) ⟨[.ref a],[]⟩) (λr s'=>r=.ok (.ret (.bool true))/\OldK s1.heap s'.heap/\s'.os=s1.os/\AllBare s'.gens) s1:=by
 have rv:=jT hi;have hz:ns.length<=sizeLine:=F_ hl (by decide);have ant:a∉ts:=λz=>by
  have:=TO.at_ a z
  rw[ha] at this;cases this
 obtain⟨bm,ob,b1,b2,b3,b4,b5,b6⟩:=hbm;have bmG:bm≠mainGlobals:=λz=>by obtain⟨o,es,ep,e,dd,_⟩:=hns;rw[z,e] at b3;cases b3;rw[dd] at b6;cases b6
 have bmt:bm∉ts:=λz=>by
  have:=TO.at_ bm z
  rw[b3] at this;cases this;cases b6
 have bma:bm≠a:=λz=>by rw[z,ha] at b3;cases b3;cases b6
 have go
  : ∀Hs:Option HO,(Hs=none\/∃o xs,Hs=some (.frz o (.lst xs)))->(∀u,Hs=some u->ObjOk Pr w (λ_=>none) s1.heap a u)->(Hs≠none->K.lookup a=none)->(∀H:Hp,H a=Hs->SqL K H a (ns.map V.int))->
  codeAny (model Pr w) callerA (.call (.ref fa) ⟨[.ref a],[]⟩) (λr s'=>r=.ok (.ret (.bool true))/\OldK s1.heap s'.heap/\s'.os=s1.os/\AllBare s'.gens) s1:=by
  intro Hs h1 h2 h3 h4;obtain⟨H,eH⟩:∃H:Hp,H=λb=>if b=a then Hs else if b∈ts then some (.tbl #[]) else if b=bm/\K.lookup bm=none then some (.frz ob (.ext λ_=>True)) else none:=⟨_,rfl⟩
  have Ha:H a=Hs:=by rw[eH];exact if_pos rfl
  have Ht:∀P∈ts,H P=some (.tbl #[]):=λP hP=>by rw[eH];show (if P=a then _ else _)=_;rw[if_neg (λz=>ant (by rw[<- z];exact hP)),if_pos hP]
  have Hb:K.lookup bm=none->H bm=some (.frz ob (.ext λ_=>True)):=λq=>by rw[eH];show (if bm=a then _ else _)=_;rw[if_neg bma,if_neg bmt,if_pos ⟨rfl,q⟩]
  have Hn
   : ∀b,H b≠none->(b=a/\Hs≠none)\/b∈ts\/(b=bm/\K.lookup bm=none):=λb n=>by
   by_cases q:b=a
   .exact .inl ⟨q,by rw[<- Ha,<- q];exact n⟩
   .by_cases q2:b∈ts
    .exact .inr (.inl q2)
    .by_cases q3:b=bm/\K.lookup bm=none
     .exact .inr (.inr q3)
     .refine absurd ?_ n;rw[eH];show (if b=a then _ else _)=_;rw[if_neg q,if_neg q2,if_neg q3]
  have hO:D5 H:=λb=>by
   by_cases n:H b=none
   .exact .inl n
   .rcases Hn b n with ⟨e,n2⟩ |e |⟨e,y⟩
    .rw[e,Ha];rcases h1 with z |⟨o,xs,z⟩
     .exact absurd z n2
     .exact .inr (.inl ⟨_,_,z⟩)
    .exact .inr (.inr (Ht b e))
    .rw[e];exact .inr (.inl ⟨_,_,Hb y⟩)
  have hok:HOk Pr w H s1.heap:=λb u e=>by
   rcases Hn b (by rw[e];simp) with ⟨z,n2⟩ |z |⟨z,y⟩
   .subst z;rw[Ha] at e;have q:=h2 u e;rcases h1 with y |⟨o,xs,y⟩
    .exact absurd y n2
    .rw[e] at y;cases y;exact q
   .have y:=Ht b z;rw[e] at y;cases y;exact TO.at_ b z
   .subst z;rw[Hb y] at e;cases e;exact⟨b3,trivial,⟨ob,b3⟩,λ_ _ _ _=>trivial⟩
  have keep:∀{b:Addr}{o:Obj},s1.heap.get? b=some o->H b=none->(fu s1.heap H).get? b=some o:=λe n=>sQ e n;have noD:∀{b:Addr}{o:Obj}{es:Array DictEntry}{ep:Nat},s1.heap.get? b=some o->o.data=.dict es ep->H b=none:=λ{b o es ep} e dd=>by
   by_cases n:H b=none
   .exact n
   .rcases Hn b n with ⟨z,_⟩ |z |⟨z,_⟩
    .subst z;rw[ha] at e;cases e;cases dd
    .rw[TO.at_ b z] at e;cases e;cases dd
    .subst z;rw[b3] at e;cases e;rw[b6] at dd;cases dd
  have nsK:∀{b:Addr}{m:Sa},s1.heap.Ns b m->(fu s1.heap H).Ns b m:=λ{b m} ⟨o,es,ep,e,dd,r⟩=>⟨o,es,ep,keep e (noD e dd),dd,r⟩;have kb:K.In (fu s1.heap H):=λb o e=>keep (KX b o e) (by
   by_cases n:H b=none
   .exact n
   .rcases Hn b n with ⟨z,y⟩ |z |⟨z,y⟩
    .subst z
     have:=h3 y
     rw[e] at this;cases this
    .have:=TO.no b z
     rw[e] at this;cases this
    .subst z;rw[e] at y;cases y)
  have hM:Mod K mg (fu s1.heap H):=⟨kb,nsK hns,⟨mb,nsK hb,hbb⟩,let ⟨mc,q1,q2⟩:=hlim;⟨mc,nsK q1,q2⟩⟩;have e0:Env0 Pr w K mg (fu s1.heap H) callerA [] s1 H:=⟨rfl,hM,λb o e=>vX e,Nat.le_of_eq (pj _ _),trivial,λb z=>absurd (show b∈([]:List Addr) from z) (by simp),hok,.of_eq hg⟩;refine codeAny_mono ((F _ kb (nsK hns)).run callerA [] s1 H ⟨[.ref a],[]⟩ [.ref a] [.ref a] (λv _=>v=.bl true) (λ_ _ _=>False) hr e0 (hbind s1 (.ref a)) (.cons rfl .nil) ⟨a,ns,rfl,hO,h4 H Ha,hl,Ht,?bm,λ_=>rfl⟩) λr s' h=>?_
  case bm=>
   refine⟨bm,ob,b1,b2,bmG,⟨b4,b5,b6⟩,?_⟩;cases q:K.lookup bm with
   |none=>exact .inr ⟨_,Hb q⟩
   |
    some o=>
    have:=KX bm o q
    rw[b3] at this;cases this;exact .inl rfl
  cases r with
  |error e=>obtain⟨_,_,_,_,_,_,_,z⟩:=h;exact z.2.2.elim
  |
   ok fl=>
   cases fl with
   |next=>exact False.elim h
   |brk=>exact False.elim h
   |cont=>exact False.elim h
   |
    ret u=>
    obtain⟨v,H',os,bare,un,hok',r',q⟩:=h;have q':v=.bl true:=q;subst q';obtain rfl:u=Value.bool true:=r';refine⟨rfl,⟨λb o e=>?_,λb o e=>?_⟩,os,bare⟩
    .by_cases n:H b=none
     .exact .inl (un.keep b o e n (λz=>absurd (show b∈([]:List Addr) from z) (by simp)) (by simp))
     .have fz:∀ob xs,H b=some (.frz ob xs)->asItWas s1.heap s'.heap b o:=λob xs y=>by have y2:=un.frzs b ob _ y;obtain⟨e1,_⟩:=hok b _ y;obtain⟨e2,_⟩:=hok' b _ y2;rw[e] at e1;cases e1;exact .inl e2
      rcases Hn b n with ⟨z,n2⟩ |z |⟨z,y⟩
      .rcases h1 with y |⟨ob,xs,y⟩
       .exact absurd y n2
       .exact fz _ _ (by rw[z,Ha];exact y)
      .obtain⟨more,y⟩:=un.tbls b #[] (Ht b z);obtain⟨c,hc⟩:=TO.cd b z;have tab:=(W.codeHd_of_K KX hc).tab (TO.at_ b z);have e2:=TO.at_ b z;rw[e] at e2;cases e2;exact .inr (.inl ⟨tab.isCodeTable,rfl,#[],more,rfl,hok' b _ y⟩)
      .exact fz _ _ (by rw[z];exact Hb y)
    .exact un.there b o e (by simp)
 cases hk:K.lookup a with
 |some o=>have e:=KX a o hk;rw[ha] at e;cases e;exact go none (.inl rfl) (λu z=>nomatch z) (λz=>absurd rfl z) λH _=>.inr ⟨_,vs.toArray,_,hk,rfl,rfl,rfl,by rw[t_,hi.length];exact hz,by simpa using rv⟩
 |none=>exact go (some (.frz { cls:=.type "list",data:=.seq vs.toArray } (.lst (ns.map V.int)))) (.inr ⟨_,_,rfl⟩) (λu z=>by cases z;exact⟨ha,by rw[k_];exact hz,vs,_,rv,ha⟩) (λ_=>hk) λH e=>.inl (.inr ⟨_,e⟩)
def zb{Pr:Program}{w:World}{K:W.Frag}{mg:Sa}{base:Heap}{x y:Str}{k:Nat}{S:Fn}{ts:List Addr}(C:Callee Pr w K mg base x k [y] (spD K mg 1 S))(hT:∀P q,LamT K mg P q->P∈ts)
 (hS:∀(d:D) (h:AH) (ns:List Int),ns.length<=63->Script h d ns->∃h',S [d] h=.ok (.bl true) h'):Callee Pr w K mg base x k [y] (spT K mg ts):=by
 refine C.imp λvs H Q E ⟨a,ns,e,hO,hq,hl,ht,hB,q⟩=>?_;subst e;have tb:∀ρ:List Addr,(∀P∈ts,P∉ρ)->∀P q,LamT K mg P q->TbP ρ H P q/\BMok K mg H:=λρ n P q l=>⟨⟨n P (hT P q l),#[],ht P (hT P q l),trivial,λpos cv z=>by cases z⟩,hB⟩;rcases hq with (hq |⟨o,hq⟩) |hq
 .rcases hO a with z |⟨o,xs,z⟩ |z <;> rw[hq] at z <;> cases z
 .obtain⟨h',e⟩:=hS (.ref 0) [.fz (ns.map D.int)] ns hl ⟨.inl ⟨0,rfl,rfl⟩⟩;refine⟨[a],[.fz (ns.map D.int)],[.ref 0],⟨rfl,by simp,tb _ λP hP z=>?_,λn b ob e1 e2=>?_⟩,.cons (.ref rfl) .nil,rfl,?_⟩
  .rw[Pw] at z;subst z
   have:=ht P hP
   rw[hq] at this;cases this
  .cases n with
   |zero=>cases e1;cases e2;exact⟨o,_,hq,jz ns⟩
   |succ n=>simp at e1
  .rw[e];exact λρ' H' l' w' v rv=>by cases rv;exact q H'
 .obtain⟨h',e⟩:=hS (.kl (ns.map D.int)) [] ns hl ⟨.inr rfl⟩;refine⟨[],[],[.kl (ns.map D.int)],⟨rfl,by simp,tb _ λP hP z=>absurd z (by simp),λn b ob e1 e2=>by simp at e1⟩,.cons (.kl hq (jz ns)) .nil,rfl,?_⟩;rw[e];exact λρ' H' l' w' v rv=>by cases rv;exact q H'
def walk_lawT{l:W.OpenLaw}{q:Program}{loose:List Str}{XP:(Str->Option Value)->Heap->Prop}{YP:World->Heap->Prop}{d:DefRec}{K:Params->W.Frag}{x:Str}{k:Nat}{ts:List Addr}(hn:l.most=some 63)(hdf:d.params.defaults=[])(hr:Room k callerA)
 (hY:∀(w:World) (h:Heap),YP w h->(K w.params).In h/\TabsOk (K w.params) ts h)
 (F:∀(w:World) (mg:Sa) (h:Heap),(K w.params).In h->h.Ns mainGlobals mg->∀base:Heap,(K w.params).In base->base.Ns mainGlobals mg->Callee l.prog w (K w.params) mg base d.name k [x] (spT (K w.params) mg ts))
 (Dd:∀(w:World) (mg:Sa) (h:Heap),(K w.params).In h->h.Ns mainGlobals mg->∃st,Def (K w.params) mg d.name st/\∀(kV doc pm:Value) (an:Option Addr) (cdv ct:Value) (us:List Value),us.length=1->bindArgs (W.fnOf d.name d.name (bO st) (aQ st) (ak st) .none kV doc pm an cdv ct) ⟨us,[]⟩=pure ([x].zip us)):
 W.WalkO q loose XP YP l.row.toRowW d [] (λf vs=>PySem.call f vs):=by
 refine Att.attach_call hn hdf λw s0 s1 mg mb fa o pm cd doc a vs ns G Y ho hd i_ hmg hobj hints be hg=>?_;obtain⟨KX,TO⟩:=hY w _ Y;obtain⟨st,De,hbind⟩:=Dd w mg _ KX G.T.g;obtain⟨f,fd,Ff,m⟩:=De.ex;have e:=hmg.symm.trans m;cases e;obtain⟨oc,od,kV,doc',pm',an,cdv,ct,osl,rfl,lk,hcd'⟩:=Ff.ex;refine Mv KX G.T.g G.T.b G.T.builtins G.T.nolimit hg TO G.T.bmain hobj hints be hr (λbase kb nb=>?_) (λs u=>.of_eq (hbind kV doc' pm' an cdv ct [u] rfl));obtain⟨f',fd',F',m',kp',b',oc',od',osl',lk'⟩:=(F w mg _ KX G.T.g base kb nb).ex;rw[m] at m';cases m';rw[lk] at lk';cases lk';exact F'
end L2
namespace L2
open PySem PySem.W PySem.Calls PyProof.Rows
noncomputable def ba(x y:Int×Int):Bool:=decide (x.1<y.1\/(x.1=y.1/\x.2<y.2))
def mh(x:Int×Int):ba x x=false:=by unfold ba;rw[Qy];omega
def v9{x y z:Int×Int}(h1:ba x y=true)(h2:ba y z=true):ba x z=true:=by unfold ba at *;rw[PN] at *;omega
def rb{x y:Int×Int}(h:x≠y):ba x y=true\/ba y x=true:=by unfold ba;rw[PN,PN];have:¬ (x.1=y.1/\x.2=y.2):=λz=>h (Prod.ext z.1 z.2);omega
def wC{α:Type}(d:α)(ks:List α):((List.range ks.length).map λi=>ks.getD i d)=ks:=List.ext_getElem (by simp) λi _ h=>by simp [h]
def yW{x y:Int×Int}(h1:ba x y=true):ba y x=false:=by
 cases z:ba y x with
 |false=>rfl
 |true=>have:=v9 h1 z;rw[mh] at this;cases this
def oB{α:Type}{k:α->Int×Int}{a b:List α}(h:a.Pairwise λx y=>ba (k x) (k y)=true)(h':b.Pairwise λx y=>ba (k x) (k y)=true)(p:a.Perm b):a=b:=p.eq_of_pairwise (λx y _ _ h1 h2=>by rw[yW h1] at h2;cases h2) h h'
def DZ{α:Type}(k:α->Int×Int)(hk:∀{x y},k x=k y->x=y){l:List α}(nd:l.Nodup):(l.mergeSort λx y=>!ba (k y) (k x)).Pairwise λx y=>ba (k x) (k y)=true:=by
 have srt:=List.pairwise_mergeSort (le:=λx y:α=>!ba (k y) (k x)) (λa b c h1 h2=>by
  simp only[ba,QE,Qy] at *;omega) (λa b=>by
  simp only[ba,QA,QE,Qy];omega) l
 refine List.Pairwise.imp (λ{a b} h=>?_) (List.Pairwise.and ((RN ..).nodup_iff.mpr nd) srt)
 have:=h.2
 simp only[QE] at this;exact (rb λy=>h.1 (hk y)).resolve_right (by rw[this];exact Bool.noConfusion)
noncomputable def ltP(ks:List (Int×Int))(i j:Nat):Bool:=ba (ks.getD i (0,0)) (ks.getD j (0,0))
def Ku{ks:List (Int×Int)}(nd:ks.Nodup):LtO (ltP ks) ks.length where
 irr:=λi=>mh _
 tr:=λi j k h1 h2=>v9 h1 h2
 tot:=λi j hi hj hne=>by
  refine rb ?_;rw[Em,Em,y_ hi,y_ hj];show ks[i]≠ks[j];rcases Nat.lt_or_gt_of_ne hne with z |z
  .exact PK.mp nd i j hi hj z
  .exact λy=>PK.mp nd j i hj hi z y.symm
def vY{ks:List (Int×Int)}{n:Nat}{p:Array Nat}(h1:p.toList.Perm (List.range n))(h2:UpTo (ltP ks) p n):p.toList.Pairwise λi j=>ba (ks.getD i (0,0)) (ks.getD j (0,0))=true:=by
 have sz:=(PmO.of h1).sz;rw[PK];intro i j hi hj hij;rw[PZ] at hi hj
 have:=h2 i j hij (by omega)
 rw[eK,eK,QW hi,QW hj] at this;exact this
def TupAt(h:Heap)(v:Value)(x:Int×Int):Prop:=∃(a:Addr) (e:Nat) (dd:Option Addr) (sl:Array (Option Value)) (t1 t2:Tok),v=.ref a/\h.get? a=some { cls:=.type "tuple",dict:=dd,data:=.seq #[.int x.1 t1,.int x.2 t2] e,slots:=sl }
def TupAt.keep{h h':Heap}{v:Value}{x:Int×Int}{b:Addr}(t:TupAt h v x)(hb:∃o,h.get? b=some o/\o.cls=.type "list")(k:∀c o,c≠b->h.get? c=some o->h'.get? c=some o):TupAt h' v x:=by obtain⟨a,e,dd,sl,t1,t2,rfl,ha⟩:=t;obtain⟨o,ho,hc⟩:=hb;exact⟨a,e,dd,sl,t1,t2,rfl,k a _ (λz=>by rw[z,ho] at ha;cases ha;injection hc with hc;exact absurd hc (by decide)) ha⟩
def TupAt.mono{h h':Heap}{v:Value}{x:Int×Int}(t:TupAt h v x)(k:∀c o,h.get? c=some o->h'.get? c=some o):TupAt h' v x:=by obtain⟨a,e,dd,sl,t1,t2,rfl,ha⟩:=t;exact⟨a,e,dd,sl,t1,t2,rfl,k a _ ha⟩
section
variable{prog:Program}{w:World}{A:Around}{E:Sd}{s:Shared}
def FW{v u:Value}{x y:Int×Int}{Q:Bool->Shared->Prop}(hv:TupAt s.heap v x)(hu:TupAt s.heap u y)(h:Q (ba x y) s):wpAny (model prog w) A (keyLt' (tuples' true) v u) Q E s:=by
 obtain⟨a,e,dd,sl,t1,t2,rfl,ha⟩:=hv;obtain⟨b,e',dd',sl',t3,t4,rfl,hb⟩:=hu;refine kat_lt ha rfl hb rfl ?_;show KatLex prog w A true false Q [(.int x.1 t1,.int y.1 t3),(.int x.2 t2,.int y.2 t4)] 0 s;refine kat_cons (wpAny_eqBool_int ?_);by_cases h1:x.1=y.1
 .rw[show (x.1==y.1)=true from Pa.mpr h1];refine kat_yes (kat_cons (wpAny_eqBool_int ?_));by_cases h2:x.2=y.2
  .rw[show (x.2==y.2)=true from Pa.mpr h2];refine kat_yes (kat_nil ?_);rw[show ba x y=false from by unfold ba;rw[Qy];omega] at h;exact h
  .rw[show (x.2==y.2)=false from D_.mpr h2];refine kat_no (kat_one _ _ (lt_int ?_));rw[show ba x y=decide (x.2<y.2) from QP.mpr (by omega)] at h;exact h
 .rw[show (x.1==y.1)=false from D_.mpr h1];refine kat_no (oneLt_int ?_);rw[show ba x y=decide (x.1<y.1) from QP.mpr (by omega)] at h;exact h
def TupsAt(h:Heap):List Value->List (Int×Int)->Prop
 | [],[]=>True
 |v::vs,x::xs=>TupAt h v x/\TupsAt h vs xs
 |_,_=>False
theorem TupsAt.len{h:Heap}:∀{vs:List Value}{xs:List (Int×Int)},TupsAt h vs xs->vs.length=xs.length
 | [],[],_=>rfl
 | [],_::_,t=>t.elim
 |_::_,[],t=>t.elim
 |_::_,_::_,t=>by rw[B_,B_,t.2.len]
theorem TupsAt.get{h:Heap}:∀{vs:List Value}{xs:List (Int×Int)} (i:Nat),TupsAt h vs xs->i<xs.length->TupAt h (vs.getD i Value.none) (xs.getD i (0,0))
 | [],[],i,_,hi=>absurd hi (by simp)
 | [],_::_,i,t,_=>t.elim
 |_::_,[],i,t,_=>t.elim
 |_::_,_::_,0,t,_=>t.1
 |_::vs,_::xs,i+1,t,hi=>TupsAt.get (vs:=vs) (xs:=xs) i t.2 (by simpa using hi)
theorem TupsAt.imp{h h':Heap}(k:∀v x,TupAt h v x->TupAt h' v x):∀{vs:List Value}{xs:List (Int×Int)},TupsAt h vs xs->TupsAt h' vs xs
 | [],[],_=>trivial
 | [],_::_,t=>t.elim
 |_::_,[],t=>t.elim
 |_::_,_::_,t=>⟨k _ _ t.1,t.2.imp k⟩
theorem TupsAt.snoc{h:Heap}{v:Value}{x:Int×Int}(tv:TupAt h v x):∀{vs:List Value}{xs:List (Int×Int)},TupsAt h vs xs->TupsAt h (vs++[v]) (xs++[x])
 | [],[],_=>⟨tv,trivial⟩
 | [],_::_,t=>t.elim
 |_::_,[],t=>t.elim
 |_::_,_::_,t=>⟨t.1,t.2.snoc tv⟩
theorem TupsAt.kat{h:Heap}:∀{vs:List Value}{xs:List (Int×Int)},TupsAt h vs xs->∃fs,KatTups h vs fs/\fs.length=xs.length/\∀f∈fs,∃i t,f=Value.int i t
 | [],[],_=>⟨[],trivial,rfl,λf z=>nomatch z⟩
 | [],_::_,t=>t.elim
 |_::_,[],t=>t.elim
 |
  _::_,x::_,t=>by
  obtain⟨fs,k,l,q⟩:=t.2.kat;obtain⟨a,e,dd,sl,t1,t2,rfl,ha⟩:=t.1;refine⟨.int x.1 t1::fs,⟨⟨a,_,_,_,rfl,ha,rfl,rfl,rfl⟩,k⟩,by rw[B_,B_,l],λf hf=>?_⟩;rcases H_.mp hf with rfl |hf
  .exact⟨_,_,rfl⟩
  .exact q f hf
def xM{vs:List Value}{xs:List (Int×Int)}{Q:SortKind->Shared->Prop}(t:TupsAt s.heap vs xs)(h2:2<=xs.length)(h:Q (tuples' true) s):wpAny (model prog w) A (keyKind' vs.toArray) Q E s:=by obtain⟨fs,k,l,q⟩:=t.kat;refine kat_kind (T:=.type "int") k (by omega) (λf hf=>?_) (by decide) h;obtain⟨i,t,rfl⟩:=q f hf;exact .now
def Az{vs:List Value}{xs:List (Int×Int)}(t:TupsAt s.heap vs xs):Ans (kas_ask prog w A (tuples' true) vs) (ltP xs) xs.length s:=λi j C hi hj c=>FW (t.get i hi) (t.get j hj) c
def uz{β:Type}{vs ks:List Value}{xs:List (Int×Int)}{k:Unit×SortSt->Sem β}{P:β->Shared->Prop}(hkl:ks.length=vs.length)(h64:vs.length<64)(T:TupsAt s.heap ks xs)(nd:xs.Nodup)(h:∀(p:Array Nat) st',p.toList.Perm (List.range vs.length)->UpTo (ltP xs) p vs.length->(arrOf st').map (λp:Keyed=>p.2)=List.toArray (p.toList.map λi=>vs.getD i Value.none)->failedOf st'=none->wpAny (model prog w) A (k ((),st')) P E s):
 wpAny (model prog w) A (let f:=λκ=>(if vs.toArray.size<2 then pure () else sortRuns').run (SortSt.mk' κ (ks.toArray.zip vs.toArray) #[] 7 none) >>= k;if vs.toArray.size<2 then pure general' >>= f else keyKind' ks.toArray >>= f) P E s:=by
 dsimp only;have kl:=T.len;by_cases h2:vs.toArray.size<2
 .rw[if_pos h2,if_pos h2];rw[t_] at h2;refine j_ <| u_ ?_;rw[StateT.run_pure];refine j_ <| u_ (h (List.toArray (List.range vs.length)) _ (.refl _) (λi j hij hj=>by omega) ?_ rfl);show (ks.toArray.zip vs.toArray).map (λp:Keyed=>p.2)=List.toArray ((List.range vs.length).map _);rw[wC];apply Array.toList_inj.mp;rw[Array.toList_map,ksk_zip];exact List.map_snd_zip (by simp [hkl])
 .rw[if_neg h2,if_neg h2];rw[t_] at h2;refine j_ <| xM T (by omega) ?_;have an:=Az (prog:=prog) (w:=w) (A:=A) T;have O:=Ku nd;rw[<- kl,hkl] at an O;have run:=kat_run (prog:=prog) (w:=w) (A:=A) (E:=E) (κ:=tuples' true) (s:=s) (Q:=λst' s'=>s'=s/\wpAny (model prog w) A (k ((),st')) P E s) (G:=λp s'=>s'=s/\p.toList.Perm (List.range vs.length)/\UpTo (ltP xs) p vs.length) hkl (by omega) h64
   (λp st' s' a1 a2 a3 a4=>⟨a4.1,h p st' a4.2.1 a4.2.2 (kat_snds hkl a2) a3⟩) (Gf O an (by omega) λp p1 p2=>⟨rfl,p1,p2⟩)
  refine j_ <| Pj run ?_ λ_ _ z=>z;rintro⟨⟨⟩,st'⟩ _ ⟨rfl,z⟩;exact z
end
set_option maxHeartbeats 4000000
section
variable{prog:Program}{w:World}{A:Around}{E:Sd}{s:Shared}
def B4{a kS:Addr}{st:SortSt}{out ks:List Value}{e e1:Nat}{P:PySem.Fin->Shared->Prop}(hk:s.heap.get? kS=some (seqObj "list" (List.toArray ks) e))(ha:s.heap.get? a=some (seqObj "list" #[] e1))(hne:kS≠a)(hout:(arrOf st).map (λp:Keyed=>p.2)=List.toArray out)(hf:failedOf st=none)(hz:out.length<64)(hkz:ks.length<64)
 (h:∀h' c,(∀b o,b≠kS->b≠a->s.heap.get? b=some o->h'.get? b=some o)->h'.get? a=some (seqObj "list" out.toArray c)->P (.done (.ret .none)) { s with heap:=h' }):wpAny (model prog w) A (ksk_tail a false e1 (.ref kS) st) P E s:=by
 have u1:=Px s.heap kS (Obj.mapSeq λ_=>(#[]:Array Value));have a1:=(u1.2 a hne.symm).trans ha;have u2:=Px (s.heap.update kS (Obj.mapSeq λ_=>(#[]:Array Value))) a (Obj.mapSeq λ_=>(arrOf st).map (·.2));obtain⟨c,hc⟩:∃c,((s.heap.update kS (Obj.mapSeq λ_=>(#[]:Array Value))).update a (Obj.mapSeq λ_=>(arrOf st).map (·.2))).get? a=some (seqObj "list" ((arrOf st).map (·.2)) c):=⟨_,QY a1 λ_=>(arrOf st).map (·.2)⟩;have zs:((arrOf st).map (·.2)).size<64:=by rw[hout];exact hz
 have big:sizeLine=16777216:=rfl;unfold ksk_tail;try dsimp only
 refine j_ <| QV hk rfl ?_ (by rw[t_];omega) (M_ _);refine j_ <| wpAny_letGo ?_;refine j_ <| seqEpoch_at a1 rfl ?_;refine j_ <| QV a1 rfl ?_ (M_ _) (by show ((arrOf st).map (·.2)).size<=_;omega);rw[hf];simp only[bne_self_eq_false,Qh,Q4];exact u_ (h _ c (λb o n1 n2 z=>(u2.2 b n2).trans ((u1.2 b n1).trans z)) (hc.trans (by rw[hout])))
def EH{a kS:Addr}{vs ks:List Value}{xs:List (Int×Int)}{e e1:Nat}{P:PySem.Fin->Shared->Prop}(hl:xs.length=vs.length)(h64:vs.length<64)(T:TupsAt s.heap ks xs)(nd:xs.Nodup)(hk:s.heap.get? kS=some (seqObj "list" (List.toArray ks) e))(ha:s.heap.get? a=some (seqObj "list" #[] e1))(hne:kS≠a)
 (h:∀(p:Array Nat) h' c,p.toList.Perm (List.range vs.length)->UpTo (ltP xs) p vs.length->(∀b o,b≠kS->b≠a->s.heap.get? b=some o->h'.get? b=some o)->h'.get? a=some (seqObj "list" (p.toList.map λi=>vs.getD i Value.none).toArray c)->P (.done (.ret .none)) { s with heap:=h' }):
 wpAny (model prog w) A (ksk_end a false vs.toArray e1 (.ref kS) ks.toArray) P E s:=by
 have hkl:ks.length=vs.length:=by rw[T.len,hl]
 unfold ksk_end;try dsimp only
 refine uz hkl h64 T nd λp st' p1 p2 out hf=>?_;exact B4 hk ha hne out hf (by rw[k_,p1.length_eq,Pc];exact h64) (by omega) λh' c k z=>h p h' c p1 p2 k z
def CG{a:Addr}{f:Value}{vs:List Value}{n:Nat}{xs:List (Int×Int)}{P:PySem.Fin->Shared->Prop}(ho:s.heap.get? a=some (seqObj "list" vs.toArray n))(h64:vs.length<64)(hx:xs.length=vs.length)(nd:xs.Nodup)
 (hc:∀(i:Nat) (v:Value) (x:Int×Int) (h':Heap) (tk:Nat),vs[i]?=some v->xs[i]?=some x->(∀b o,b≠a->s.heap.get? b=some o->h'.get? b=some o)->wpAny (model prog w) A (call f [v]) (λk s2=>∃h2 tk2,s2={ s with heap:=h2,toks:=tk2 }/\(∀b o,h'.get? b=some o->h2.get? b=some o)/\TupAt h2 k x) (λ_ _=>False) { s with heap:=h',toks:=tk })
 (h:∀(p:Array Nat) h' c tk,p.toList.Perm (List.range vs.length)->UpTo (ltP xs) p vs.length->(∀b o,b≠a->s.heap.get? b=some o->h'.get? b=some o)->h'.get? a=some (seqObj "list" (p.toList.map λi=>vs.getD i Value.none).toArray c)->P (.done (.ret .none)) { s with heap:=h',toks:=tk }):
 wpAny (model prog w) A (ksk_tree a f false) P E s:=by
 have lt:=v_ ho;have u1:=Px s.heap a (Obj.mapSeq λ_=>(#[]:Array Value));obtain⟨e1,a1⟩:∃e1,(s.heap.update a (Obj.mapSeq λ_=>(#[]:Array Value))).get? a=some (seqObj "list" #[] e1):=⟨_,QY ho λ_=>#[]⟩;have big:sizeLine=16777216:=rfl;unfold ksk_tree;refine j_ <| listItems_at ho rfl ?_;refine j_ <| QV ho rfl ?_ (by rw[t_];omega) (M_ _);refine j_ <| seqEpoch_at a1 rfl ?_;refine j_ <| wpAny_newTuple ?_ (by show vs.length<=_;omega);refine j_ <| Rl ?_ (M_ _);refine PU ?_;obtain⟨h3,e3⟩:∃h3,h3=((s.heap.update a (Obj.mapSeq λ_=>(#[]:Array Value))).push (seqObj "tuple" vs.toArray 0)).push (seqObj "list" #[] 0):=⟨_,rfl⟩;obtain⟨kS,ek⟩:∃kS,kS=((s.heap.update a (Obj.mapSeq λ_=>(#[]:Array Value))).push (seqObj "tuple" vs.toArray 0)).objs.size:=⟨_,rfl⟩;have hk0:h3.get? kS=some (seqObj "list" #[] 0):=by rw[e3,ek];exact C_ _ rfl
 have ha0:h3.get? a=some (seqObj "list" #[] e1):=by rw[e3];exact l_ _ (l_ _ a1)
 have hlt:a<kS:=by rw[ek,size_push',Heap.size_update];exact Nat.lt_succ_of_lt lt
 have k0:∀b o,b≠a->s.heap.get? b=some o->b≠kS/\h3.get? b=some o:=λb o n z=>⟨λy=>by
  have:=v_ z
  rw[y,ek,size_push',Heap.size_update] at this;exact Py _ (Nat.lt_of_succ_lt this),by rw[e3];exact l_ _ (l_ _ ((u1.2 b n).trans z))⟩
 show wpAny (model prog w) A (ksk_rest a f false vs.toArray e1 (.ref ((s.heap.update a (Obj.mapSeq λ_=>(#[]:Array Value))).push (seqObj "tuple" vs.toArray 0)).objs.size)) P E { s with heap:=((s.heap.update a (Obj.mapSeq λ_=>(#[]:Array Value))).push (seqObj "tuple" vs.toArray 0)).push (seqObj "list" #[] 0) };rw[<- e3,<- ek];clear e3 ek;unfold ksk_rest;refine j_ <| wpAny_rule ?_;rw[List.forIn_toArray];refine j_ <| ksk_fold (λi s'=>∃h' tk ks e,s'={ s with heap:=h',toks:=tk }/\(∀b o,b≠kS->h3.get? b=some o->h'.get? b=some o)/\h'.get? kS=some (seqObj "list" (List.toArray ks) e)/\TupsAt h' ks (xs.take i)/\i<=vs.length) vs 0 _ ⟨h3,s.toks,[],0,rfl,λb o _ z=>z,hk0,by rw[List.take_zero];trivial,M_ _⟩ (λj v s' hv I=>?_) λs' I=>?_
 .rw[Nat.zero_add] at I ⊢;obtain⟨h',tk,ks,e,rfl,k,hk,T,hi⟩:=I;have hj:j<vs.length:=(p_.mp hv).1;have ex:xs[j]?=some (xs[j]'(by omega)):=y_ (by omega);have tl:=T.len;rw[PD] at tl;refine j_ <| Rj <| Pj (hc j v _ h' tk hv ex λb o n z=>k b o (k0 b o n z).1 (k0 b o n z).2) (λkv s2 hq=>?_) λ_ _ z=>z.elim;obtain⟨h2,tk2,rfl,k2,tp⟩:=hq;have hk2:=k2 kS _ hk;have u2:=Px h2 kS (Obj.mapSeq (·.push kv));obtain⟨c2,hc2⟩:∃c2,(h2.update kS (Obj.mapSeq (·.push kv))).get? kS=some (seqObj "list" (List.toArray (ks++[kv])) c2):=⟨_,by rw[<- List.push_toArray];exact QY hk2 (·.push kv)⟩;try dsimp only
  refine j_ <| QV hk2 rfl ?_ (by rw[t_];omega) (by rw[Array.size_push,t_];omega);refine u_ ⟨rfl,_,tk2,ks++[kv],c2,rfl,λb o n z=>(u2.2 b n).trans (k2 b o (k b o n z)),hc2,?_,by omega⟩;have kp:∀v x,TupAt h2 v x->TupAt (h2.update kS (Obj.mapSeq (·.push kv))) v x:=λv x t=>t.keep (b:=kS) ⟨_,hk2,rfl⟩ λc o n z=>(u2.2 c n).trans z;rw[List.take_succ,ex];exact TupsAt.snoc (kp _ _ tp) ((T.imp λv x t=>t.mono k2).imp kp)
 .rw[Nat.zero_add] at I;obtain⟨h',tk,ks,e,rfl,k,hk,T,hi⟩:=I;rw[P2 (by omega)] at T;try dsimp only
  refine j_ <| listItems_at hk rfl ?_;exact EH hx h64 T nd hk (k a _ (J_ hlt) ha0) (QK hlt) λp h2 c p1 p2 k2 z=>h p h2 c tk p1 p2 (λb o n y=>k2 b o (k0 b o n y).1 n (k b o (k0 b o n y).1 (k0 b o n y).2)) z
def EO{S r:Addr}{j:Int}{t u v:Tok}{n:Nat}{R:Result->Shared->Prop}(hh:A.handled=none)(hr:IsRange s.heap r 0 j 1 t u v)(hsmall:Builtin.Range.small 0 j 1=true)(hn:Builtin.Range.rangeSize 0 j 1=n)(be:n<=2^24)(hS:s.heap.get? S=some (seqObj "list" #[] 0))
 (h:∀h' tk acc c,(∀b o,b≠S->s.heap.get? b=some o->h'.get? b=some o)->h'.get? S=some (seqObj "list" acc c)->ItemsOf (λi v=>∃t,v=.int (0+i*1) t) acc n->R (.ok (.ret (.ref S))) { s with heap:=h',toks:=tk }):codeAny (model prog w) A (.builtin "list.__iadd__" ⟨[.ref S,.ref r],[]⟩) R s:=by
 refine codeAny_builtin entry_list_iadd' ?_;show wpAny (model prog w) A.in1 (Builtin.List.listExtendWith (.ref S) (.ref r) (.ref S)) _ _ s;exact wpAny_extend_range hh hr hsmall hn be S _ 0 hS h
def xn{r:Addr}{j:Int}{t u v:Tok}{n:Nat}{Q:List Value->Shared->Prop}(hh:A.handled=none)(hr:IsRange s.heap r 0 j 1 t u v)(hsmall:Builtin.Range.small 0 j 1=true)(hn:Builtin.Range.rangeSize 0 j 1=n)(be:n<=2^24)
 (h:∀h' tk (vs:List Value),s.heap.objs.size<=h'.objs.size->(∀b o,s.heap.get? b=some o->h'.get? b=some o)->vs.length=n->(∀(i:Nat) x,vs[i]?=some x->∃t,x=.int (i:Nat) t)->Q vs { s with heap:=h',toks:=tk }):wpAny (model prog w) A (collect (.ref r)) Q E s:=by
 unfold collect;refine j_ <| wpAny_runValue <| codeAny_builtin entry_proto_collect' ?_;show wpAny _ _ (do again (.builtin "list.__iadd__" ⟨[<- newList [],.ref r],[]⟩)) _ _ s;have hS:(s.heap.push (seqObj "list" #[] 0)).get? s.heap.objs.size=some (seqObj "list" #[] 0):=C_ _ rfl;refine j_ <| Rl <| u_ ⟨Code.quiet_builtin _ (by decide),EO (s:={ s with heap:=s.heap.push (seqObj "list" #[] 0) }) hh (l_ _ hr) hsmall hn be hS λh' tk acc c k z it=>?_⟩;show wpAny (model prog w) A (do
  let o <- load s.heap.objs.size
  match o.data with
  |.seq xs _=>pure xs.toList
  |_=>unsupported "internal:collect") Q E { s with heap:=h',toks:=tk }
 refine j_ <| wpAny_load z ?_;refine u_ (h h' tk acc.toList (QJ (v_ z)) (λb o y=>k b o (J_ (v_ y)) (l_ _ y)) (by rw[PZ];exact it.1) λi x y=>?_);obtain⟨t,e⟩:=it.2 i x (by simpa using y);exact⟨t,by rw[e];congr 1;omega⟩
end
abbrev d4(p:Pos):Arguments:=⟨[],[⟨"number",none,p⟩],none,[],[],none,[]⟩
abbrev aW:Scope:={ kind:=.function,names:=[("number",.local),("weights",.free)],isGenerator:=false,isCoroutine:=false,more:=[] }
abbrev dm(p1 p2 p3 p4 p5 p6:Pos):Expr:=.Tuple [.UnaryOp .USub (.Subscript (.Name "weights" p1) (.Name "number" p2) p3) p4,.Name "number" p5] 0 p6
section
variable{prog:Program}{w:World}{A:Around}{E:Sd}{s:Shared}
def Ge{f c' cell a:Addr}{q:Str}{pm ctv:Value}{its:Array Value}{ws:List Int}{p0 p1 p2 p3 p4 p5 p6:Pos}{i:Nat}{t:Tok}
 (hroom:A.depth<recursionLimit) (ho:s.heap.get? f=some (kla_obj "<lambda>" q (d4 p0) (dm p1 p2 p3 p4 p5 p6) aW [("weights",cell)] pm c' ctv)) (i_:s.heap.CodeRec (.ref c') q) (hlim:s.heap.NoLimit) (jp:s.heap.IsCell cell (some (.ref a))) (hl:s.heap.IsList a its) (hw:Vals (ws.map V.int) its.toList) (hi:i<ws.length) (hz:ws.length<64):
 wpAny (model prog w) A (call (.ref f) [.int (i:Nat) t]) (λk s2=>∃h2 tk2,s2={ s with heap:=h2,toks:=tk2 }/\(∀b o,s.heap.get? b=some o->h2.get? b=some o)/\TupAt h2 k (-(ws.getD i 0),(i:Nat))) (λ_ _=>False) s:=by
 refine wpAny_call ?_;refine kla_callFunE hroom ho rfl rfl rfl rfl i_ ?_;rw[show bindArgs (kla_fn "<lambda>" q (d4 p0) (dm p1 p2 p3 p4 p5 p6) aW [("weights",cell)] pm (.ref c') ctv) ⟨[Value.int (i:Nat) t],[]⟩=(pure [(("number" : Str),Value.int (i:Nat) t)]:Sem (List (Str×Value))) from by with_unfolding_all rfl];refine u_ (wpAny_newFunctionEnv (show ∀x∈aW.names,x.2 ≠ .cell by decide) (by intro y hy;rw[Pw] at hy;subst hy;rfl) (λh1 hns hsb=>⟨hlim.fresh _ hsb,?_⟩) rfl);show codeAny _ _ (.expr (dm p1 p2 p3 p4 p5 p6) (envX q aW s.heap.objs.size f (.ref c') [("weights",cell)])) _ _;have k1:∀b o,s.heap.get? b=some o->h1.get? b=some o:=λb o e=>hsb.extBut b o (J_ (v_ e)) (l_ _ e);have hc1:h1.IsCell cell (some (.ref a)):=by obtain⟨o,e,d⟩:=jp;exact⟨o,k1 _ _ e,d⟩
 have hl1:h1.IsList a its:=by obtain⟨o,e,d⟩:=hl;exact⟨o,k1 _ _ e,d⟩
 refine kla_codeExpr ?_;refine wpAny_Tuple_spliced ?_;obtain⟨u,eu,ru⟩:=hw.get (i:=i) (x:=V.int (ws.getD i 0)) (by rw[N_,y_ hi,Em,y_ hi];rfl);obtain⟨tx,rfl⟩:=ru;have ei:its[((i:Nat):Int).toNat]?=some (.int (ws.getD i 0) tx):=by rw[Pu,<- Array.getElem?_toList];exact eu
 have nm:∀(pp:Pos) (s':Shared) (Q:Sd) (E':Sd),s'.heap=h1->Q (.int (i:Nat) t) s'->wpAny (model prog w) (A.deeper (envX q aW s.heap.objs.size f (.ref c') [("weights",cell)])) (eval (.Name "number" pp) (envX q aW s.heap.objs.size f (.ref c') [("weights",cell)])) Q E' s':=λpp s' Q E' e hq=>
  wpAny_Name (RK rfl rfl (by rw[e];exact hns) rfl hq) (by decide)
 show wpAny _ _ (spliced ((false,eval (.UnaryOp .USub (.Subscript (.Name "weights" p1) (.Name "number" p2) p3) p4) (envX q aW s.heap.objs.size f (.ref c') [("weights",cell)]))::backTo p6 (starEach [.Name "number" p5] (envX q aW s.heap.objs.size f (.ref c') [("weights",cell)])))) _ _ _;refine QZ ?_;refine UnaryOp_ ?_;refine Subscript_ ?_;refine wpAny_Name (wpAny_loadName_free rfl rfl rfl hc1 ?_) (by decide);refine nm p2 _ _ _ rfl ?_;refine item_listR hl1 (by omega) (by omega) ei ?_;refine neg_int ?_;show wpAny _ _ (spliced ((false,eval (.Name "number" p5) (envX q aW s.heap.objs.size f (.ref c') [("weights",cell)]))::[])) _ _ _;refine QZ ?_;refine nm p5 _ _ _ rfl ?_;refine Calls.spliced_nil ?_;refine⟨show 2<=sizeLine by decide,_,_,rfl,λb o e=>l_ _ (k1 b o e),h1.objs.size,0,none,#[],_,t,rfl,C_ _ rfl⟩
end
section
variable{prog:Program}{w:World}{A:Around}{E:Sd}{s:Shared}
def wD{r f:Addr}{j:Int}{t u v:Tok}{n:Nat}{xs:List (Int×Int)}{Q:Sd}(hh:A.handled=none)(hr:IsRange s.heap r 0 j 1 t u v)(hsmall:Builtin.Range.small 0 j 1=true)(hn:Builtin.Range.rangeSize 0 j 1=n)(h64:n<64)(hx:xs.length=n)(nd:xs.Nodup)
 (hc:∀(i:Nat) (x:Int×Int) (tt:Tok) (h':Heap) (tk:Nat),xs[i]?=some x->(∀b o,s.heap.get? b=some o->h'.get? b=some o)->wpAny (model prog w) A.in1.in1 (call (.ref f) [.int (i:Nat) tt]) (λk s2=>∃h2 tk2,s2={ s with heap:=h2,toks:=tk2 }/\(∀b o,h'.get? b=some o->h2.get? b=some o)/\TupAt h2 k x) (λ_ _=>False) { s with heap:=h',toks:=tk })
 (h:∀(p:Array Nat) (h':Heap) (D:Addr) (c tk:Nat) (out:List Value),p.toList.Perm (List.range n)->UpTo (ltP xs) p n->s.heap.objs.size<=D->(∀b o,s.heap.get? b=some o->h'.get? b=some o)->h'.get? D=some (seqObj "list" out.toArray c)->Vals (p.toList.map λi:Nat=>V.int (i:Nat)) out->Q (.ref D) { s with heap:=h',toks:=tk }):
 wpAny (model prog w) A (call (.builtin "sorted") [.ref r] [(Str.ofString "key",.ref f)]) Q E s:=by
 refine call_function_entry_kw kind_sorted plain_sorted entry_sorted (ksk_s1 _ _) ?_;unfold Builtin.«sorted»;refine j_ (m:=checkCount "sorted" 1 1 _) <| u_ ?_;refine j_ <| xn (A:=A.in1) hh hr hsmall hn (by omega) λh1 tk1 vs sz k1 lv iv=>?_;have big:sizeLine=16777216:=rfl;refine j_ <| Rl ?_ (by omega);have hoL:(h1.push (seqObj "list" vs.toArray 0)).get? h1.objs.size=some (seqObj "list" vs.toArray 0):=C_ _ rfl;have kL:∀b o,s.heap.get? b=some o->b≠h1.objs.size/\(h1.push (seqObj "list" vs.toArray 0)).get? b=some o:=λb o e=>⟨J_ (v_ (k1 b o e)),l_ _ (k1 b o e)⟩;refine j_ <| PU <| wpAny_call_entry_kw slot_list_sort ⟨_,hoL,rfl⟩ entry_list_sort ?body (ksk_l1 _ _)
 case body=>
  show wpAny (model prog w) A.in1.in1 (Builtin.«list.sort» ⟨[.ref h1.objs.size],[(Str.ofString "key",.ref f)]⟩) _ _ { s with heap:=h1.push (seqObj "list" vs.toArray 0),toks:=tk1 };rw[ksk_t1];refine CG (s:={ s with heap:=h1.push (seqObj "list" vs.toArray 0),toks:=tk1 }) (xs:=xs) hoL (by omega) (by omega) nd (λi v x h' tk e1 e2 k=>?_) λp h' c tk p1 p2 k z=>?_
  .obtain⟨tt,rfl⟩:=iv i v e1;exact hc i x tt h' tk e2 λb o e=>k b o (kL b o e).1 (kL b o e).2
  .rw[lv] at p1 p2;refine⟨_,rfl,u_ ⟨_,rfl,h p h' h1.objs.size c tk _ p1 p2 sz (λb o e=>k b o (kL b o e).1 (kL b o e).2) z ?_⟩⟩;have all:∀i∈p.toList,i<n:=λi hi=>Pk.mp (p1.mem_iff.mp hi);clear z p1 p2;generalize p.toList=l at all;induction l with
   |nil=>exact .nil
   |cons i l ih=>refine .cons ?_ (ih λk hk=>all k (m_ _ hk));have hi:=all i (n_ ..);obtain⟨tt,e⟩:=iv i (vs.getD i Value.none) (by rw[Em,y_ (by omega)];rfl);exact⟨tt,e⟩
end
section
variable{X:Cx}{pins:Sb}{σ:St}{H:Hp}{s:Shared}{h':Heap}
def Inv.tabled{P c':Addr}{q:Str}{ps more:Array Value}{t':Nat}(I:Inv X pins σ H s)(hP:H P=some (.tbl ps))(hx:Heap.ExtBut P s.heap h')(hc:s.heap.objs.size<=c')(hrec:h'.CodeRec (.ref c') q)(htab:h'.get? P=some (tabObj (ps++more))):
 Inv X pins σ (upd (upd H P (.tbl (ps++more))) c' (.ext (jo c' q))) { s with heap:=h',toks:=t' }:=by
 have hcn:H c'=none:=I.hok.fresh hc;have nPc:P≠c':=aJ hP hcn;have at_:∀b,b≠P->b≠c'->upd (upd H P (.tbl (ps++more))) c' (.ext (jo c' q)) b=H b:=λb n1 n2=>by rw[ay n2,ay n1]
 have atP:upd (upd H P (.tbl (ps++more))) c' (.ext (jo c' q)) P=some (.tbl (ps++more)):=by rw[ay nPc,aM]
 have nP:∀b,H b=none->b≠P:=λb n z=>by rw[z,hP] at n;cases n
 have ol:∀b o,s.heap.get? b=some o->b≠c':=λb o e=>J_ (E_ (v_ e) hc);have tr:∀b u,H b=some u->b≠c':=λb u e=>aJ e hcn;refine I.un ⟨λb o e n _ _=>hx b o (nP b n) e,λb o e n _ _=>⟨o.slots,hx b o (nP b n) e⟩,λb o e n _=>by rw[at_ b (nP b n) (ol b o e)];exact n,λb o e _=>?_,λb ys e=>?_,λb o u e=>?_,λb qs e=>?_⟩ λb u e=>?_
 .by_cases z:b=P
  .exact⟨_,by rw[z];exact htab⟩
  .exact⟨o,hx b o z e⟩
 .rw[at_ b (λz=>by rw[z,hP] at e;cases e) (tr b _ e)];exact e
 .rw[at_ b (λz=>by rw[z,hP] at e;cases e) (tr b _ e)];exact e
 .by_cases z:b=P
  .subst z;rw[hP] at e;cases e;exact⟨more,atP⟩
  .exact⟨#[],by rw[at_ b z (tr b _ e),e];simp⟩
 .by_cases z:b=c'
  .subst z;rw[aM] at e;cases e;obtain⟨c,o,vs,t,e1,e2,e3⟩:=hrec;cases e1;refine⟨⟨_,o,vs,t,rfl,e2,e3⟩,⟨o,e2⟩,λh1 h2 q1 k=>?_⟩;obtain⟨c,o,vs,t,e1,e2,e3⟩:=q1;cases e1;exact⟨_,o,vs,t,rfl,k o e2,e3⟩
  .by_cases y:b=P
   .subst y;rw[atP] at e;cases e;exact htab
   .rw[at_ b y z] at e;refine (I.hok b u e).stay (λc v hc' r=>hx c v ?_ r) (λc r=>?_) λc ys r=>?_
    .rcases hc' with rfl |r
     .exact y
     .intro z';rw[z',hP] at r;cases r
    .rw[at_ c (λz'=>by rw[z',hP] at r;cases r) (tr c _ r)];exact r
    .rw[at_ c (λz'=>by rw[z',hP] at r;cases r) (tr c _ r)];exact r
end
end L2
namespace L2
open PySem PySem.W PySem.Spec PySem.Calls PyProof.Rows
noncomputable def kyF(ws:List Int)(i:Nat):Int×Int:=(-(ws.getD i 0),(i:Int))
noncomputable def cU(ws:List Int):List (Int×Int):=(List.range ws.length).map (kyF ws)
noncomputable def ax(ws:List Int):List Nat:=(List.range ws.length).mergeSort λi j=>!ba (kyF ws j) (kyF ws i)
structure FallO(ws:List Int)(l:List Nat):Prop where
 perm:l.Perm (List.range ws.length)
 up:l.Pairwise λi j=>ba (kyF ws i) (kyF ws j)=true
def wd{ws:List Int}{i j:Nat}(h:kyF ws i=kyF ws j):i=j:=by
 have:=PF Prod.snd h
 have:((i:Nat):Int)=(j:Nat):=this;omega
def nX(ws:List Int):(cU ws).Nodup:=by unfold cU;refine Q9.mpr (List.Pairwise.imp (λ{a b} h z=>h (wd z)) QN)
def bS(ws:List Int):FallO ws (ax ws):=⟨RN ..,DZ (kyF ws) wd QN⟩
def FallO.eq{ws:List Int}{l:List Nat}(h:FallO ws l):l=ax ws:=oB h.up (bS ws).up (h.perm.trans (bS ws).perm.symm)
def EN{ws:List Int}{p:Array Nat}(h1:p.toList.Perm (List.range ws.length))(h2:UpTo (ltP (cU ws)) p ws.length):p.toList=ax ws:=by
 refine FallO.eq ⟨h1,List.Pairwise.imp_of_mem (λ{i j} hi hj h=>?_) (vY h1 h2)⟩;have g:∀k∈p.toList,(cU ws).getD k (0,0)=kyF ws k:=λk hk=>by unfold cU;rw[Em,N_,List.getElem?_range (Pk.mp (h1.mem_iff.mp hk))];rfl
 rw[g i hi,g j hj] at h;exact h
section
variable{X:Cx}{iW:Nat}{ta:TA}{c P:Addr}{a:Expr}{q1 q2 q6 q7 q8 q9 p0 p1 p2 p3 p4 p5 p6:Pos}
def Grown(H H2:Hp)(P:Addr)(q:Str)(ps:Array Value)(pos:Pos):Prop:=H2=H\/∃c',H c'=none/\codeAmong pos ps.toList=none/\H2=upd (upd H P (.tbl (ps++#[rawInt pos.line,rawInt pos.col,.ref c']))) c' (.ext (jo c' q))
def Oq(K:W.Frag)(mg:Sa)(P:Addr)(q:Str)(pos:Pos)(vW:Option (Option V)):List V->Hp->VK->Prop:=λvs H Q=>∃(b:Addr) (ws:List Int) (ps:Array Value),vs=[.int (ws.length:Nat)]/\vW=some (some (.ref b))/\SqL K H b (ws.map V.int)/\ws.length<64/\H P=some (.tbl ps)/\TriplesOk ps.toList/\(∀ps' cv,codeAmong ps' ps.toList=some cv->∃c,cv=.ref c/\H c=some (.ext (jo c q)))/\BMok K mg H/\
 ∀H2 l,Grown H H2 P q ps pos->H2 l=none->Q (.ref l) (upd H2 l (.lst ((ax ws).map λi:Nat=>V.int (i:Nat))))
def OW(K:W.Frag)(mg:Sa)(iW:Nat)(P:Addr)(q:Str)(pos:Pos)(ta:TA):TE:=λσ H Q=>ta σ H λvs H1=>Oq K mg P q pos σ[iW]? vs H1 Q
def Gj(hc:X.calm=true)(hdp:X.A.depth<recursionLimit)(hl:Gl X "sorted")(hml:X.mg "sorted"=none)(hg:Gl X "range")(hm:X.mg "range"=none)(ha:PA X [a] ta)(hN:X.N[iW]?=some "weights")(hv:X.env.scope.names.lookup ("weights" : Str)=some .cell)(i_:X.env.code=.ref c)(hh:codeHdIn X.K c P=true)(hs:starEach [a] X.env=[(false,eval a X.env)]):
 PE X (.Call (.Name "sorted" q1) [.Call (.Name "range" q2) [a] [] q6] [⟨some "key",.Lambda (d4 p0) (dm p1 p2 p3 p4 p5 p6) aW q7,q8⟩] q9) (OW X.K X.mg iW P (X.env.qual ++ "<lambda>") q7 ta):=by
 intro pins s σ H Q I h;refine Qk (f6 I hl hml (show bootBuiltins "sorted"=some (.builtin "sorted") from rfl) ?_ (by decide) (by decide));refine callWith_kw ?_ rfl rfl rfl rfl;show wpAny _ _ (spliced ((false,eval (.Call (.Name "range" q2) [a] [] q6) X.env)::[])) _ _ s;refine QZ ?_;refine Qk (f6 I hg hm (show bootBuiltins "range"=some (.type "range") from rfl) ?_ (by decide) (by decide));refine Qj (thn (ha q6 pins s σ H _ I h) λus s1 ⟨vs,H1,I1,r1,z1⟩=>?_) hs rfl;obtain⟨b,ws,ps,e,ew,hq,hn,hP,htr,hcs,hB,q⟩:=z1;subst e;cases r1 with
 |
  cons r rr=>
  cases rr;obtain⟨t,rfl⟩:=r;refine call_range_1 (Calls.spliced_nil ?_);have I2:Inv X pins σ H1 { s1 with heap:=s1.heap.push { cls:=.type "range",data:=.fields #[.int 0 s1.toks,.int (ws.length:Nat) t,.int 1 (s1.toks+1)] },toks:=s1.toks+1+1 }:=I1.kept λb o e=>l_ _ e;have hr2:IsRange (s1.heap.push { cls:=.type "range",data:=.fields #[.int 0 s1.toks,.int (ws.length:Nat) t,.int 1 (s1.toks+1)] }) s1.heap.objs.size 0 (ws.length:Nat) 1 s1.toks t (s1.toks+1):=IsRange.new ..;generalize s1.heap.push { cls:=.type "range",data:=.fields #[.int 0 s1.toks,.int (ws.length:Nat) t,.int 1 (s1.toks+1)] }=h2 at I2 hr2 ⊢;generalize s1.heap.objs.size=r at hr2 ⊢;have hk:X.env.kindOf "weights"=some .cell:=hv;obtain⟨m,hns,hloc⟩:=I2.loc;obtain⟨u,ru,lk⟩:=hloc iW "weights" (.ref b) hN ew (.inr (.inl hv));obtain rfl:u=.ref b:=ru;obtain⟨cell,ec,jp⟩:∃cell,X.env.cells.lookup ("weights" : Str)=some cell/\h2.IsCell cell (some (.ref b)):=by
   rcases lk with ⟨z,_⟩ |⟨_,cl,z1,z2⟩
   .rw[hk] at z;cases z
   .exact⟨cl,z1,z2⟩
  have clo:closureFor aW X.env=(pure [(("weights" : Str),cell)]:Sem (List (Str×Addr))):=by simp [closureFor,cellOf,ec]
  obtain⟨its,rv,pl,hz⟩:=I2.list hq;have ii:∀(H2:Hp) (s3:Shared) (f c':Addr) (pm ctv:Value),Grown H1 H2 P (X.env.qual ++ "<lambda>") ps q7->Inv X pins σ H2 s3->(∀b o,b≠P->h2.get? b=some o->s3.heap.get? b=some o)->s3.heap.get? f=some (kla_obj "<lambda>" (X.env.qual ++ "<lambda>") (d4 p0) (dm p1 p2 p3 p4 p5 p6) aW [("weights",cell)] pm c' ctv)->s3.heap.CodeRec (.ref c') (X.env.qual ++ "<lambda>")->
   wpAny (model X.prog X.w) X.A (call (.builtin "sorted") [.ref r] [(Str.ofString "key",.ref f)]) (EP X pins σ Q) X.xe s3:=by
   intro H2 s3 f c' pm ctv G3 I3 k3 hf hrec;have nP:∀{b:Addr}{o:Obj},h2.get? b=some o->o.cls ≠ .none->b≠P:=λ{b o} e n z=>by have:h2.get? P=some { cls:=.none,data:=.fields ps }:=I2.hok P _ hP;rw[z,this] at e;cases e;exact n rfl
   have hr3:IsRange s3.heap r 0 (ws.length:Nat) 1 s1.toks t (s1.toks+1):=k3 _ _ (nP hr2 (λz=>nomatch z)) hr2;refine wD (n:=ws.length) (xs:=cU ws) (I.ok.hd hc) hr3 (small_one (by omega) (by omega) (by omega) (by omega)) (by rw[rangeSize_one];split <;> omega) hn (by unfold cU;rw[k_,Pc]) (nX ws) (λi x tt h' tk ex k=>?_) λp h' D c tk out pp up sz k z vz=>?_
   .have hi:i<ws.length:=by
     have:=(p_.mp ex).1
     unfold cU at this;rw[k_,Pc] at this;exact this
    obtain rfl:x=(-(ws.getD i 0),((i:Nat):Int)):=by unfold cU at ex;rw[N_,List.getElem?_range hi] at ex;cases ex;rfl
    have hcell':h'.IsCell cell (some (.ref b)):=by obtain⟨o,e1,e2⟩:=jp;refine⟨o,k _ _ (k3 _ _ (λz=>?_) e1),e2⟩;have:h2.get? P=some { cls:=.none,data:=.fields ps }:=I2.hok P _ hP;rw[z,this] at e1;cases e1;cases e2
    have hl':h'.IsList b its.toArray:=by obtain⟨o,e1,e2⟩:=pl.isList;exact⟨o,k _ _ (k3 _ _ (nP e1 (by rw[e2.1];intro z;cases z)) e1),e2⟩
    exact Ge (s:={ s3 with heap:=h',toks:=tk }) hdp (k _ _ hf) (by obtain⟨c2,o,vs,tq,e1,e2,e3⟩:=hrec;exact⟨c2,o,vs,tq,e1,k _ _ e2,e3⟩) (I3.nolimit.keeps k) hcell' hl' (by simpa using rv) hi hn
   .rw[EN pp up] at vz;have big:sizeLine=16777216:=rfl;have ln:((ax ws).map λi:Nat=>V.int (i:Nat)).length<=sizeLine:=by rw[k_,(bS ws).perm.length_eq,Pc];omega
    exact⟨.ref D,_,I3.laid (t':=tk) k sz (show ObjOk X.prog X.w _ h' _ (.lst _) from ⟨ln,out,c,vz,z⟩),rfl,q H2 D G3 (I3.hok.fresh sz)⟩
  have tabP:h2.get? P=some { cls:=.none,data:=.fields ps }:=I2.hok P _ hP;have glb:h2.Ns mainGlobals X.mg:=I2.mod.glob.keeps I2.bk;have gP:mainGlobals≠P:=λz=>by obtain⟨o,es,ep,e,d,_⟩:=glb;rw[z,tabP] at e;cases e;cases d
  have bAt:h2.BuiltinsAt X.mg P:=by
   obtain⟨bm,o,y1,y2,y3,⟨y4,y5,y6⟩,y7⟩:=hB;have y8:h2.get? bm=some o:=by
    rcases y7 with z |⟨u,z⟩
    .exact I2.kIn bm o z
    .exact (I2.hok bm _ z).1
   exact⟨bm,o,y1,y2,y3,(λz=>by rw[z,tabP] at y8;cases y8;cases y6),y8,y4,y5,y6⟩
  have CH:=codeHd_of_K I2.kIn hh;have lam:wpAny (model X.prog X.w) X.A (eval (.Lambda (d4 p0) (dm p1 p2 p3 p4 p5 p6) aW q7) X.env) (λv s3=>∃f,v=.ref f/\wpAny (model X.prog X.w) X.A (call (.builtin "sorted") [.ref r] [(Str.ofString "key",.ref f)]) (EP X pins σ Q) X.xe s3) X.xe { s1 with heap:=h2,toks:=s1.toks+1+1 }:=by
   refine kla_eval rfl ?_;cases am:codeAmong q7 ps.toList with
   |
    none=>
    refine kla_makeFunction (mg:=X.mg) clo I.ok.glob glb i_ CH tabP htr am gP bAt λc' ctv h' tk hx hge hlt hrec htb=>?_;have hrec':(h'.push (kla_obj "<lambda>" (X.env.qual ++ "<lambda>") (d4 p0) (dm p1 p2 p3 p4 p5 p6) aW [("weights",cell)] ((X.mg "__name__").getD .none) c' ctv)).CodeRec (.ref c') (X.env.qual ++ "<lambda>"):=by obtain⟨c2,o,vs,tq,e1,e2,e3⟩:=hrec;exact⟨c2,o,vs,tq,e1,l_ _ e2,e3⟩
    exact⟨_,rfl,ii _ _ _ c' _ ctv (.inr ⟨c',I2.hok.fresh hge,am,rfl⟩) (I2.tabled (t':=tk) hP (λb o n e=>l_ _ (hx b o n e)) hge hrec' (l_ _ htb)) (λb o n e=>l_ _ (hx b o n e)) (C_ _ rfl) hrec'⟩
   |some cv=>obtain⟨c',rfl,hc'⟩:=hcs q7 cv am;refine kla_makeFunctionHit (mg:=X.mg) clo I.ok.glob glb i_ CH tabP htr am bAt λctv h' tk k hsz=>?_;obtain⟨c2,o,vs,tq,e1,e2,e3⟩:h2.CodeRec (.ref c') (X.env.qual ++ "<lambda>"):=(I2.hok c' _ hc').1;exact⟨_,rfl,ii _ _ _ c' _ ctv (.inl rfl) (I2.kept (t':=tk) λb o e=>l_ _ (k b o e)) (λb o n e=>l_ _ (k b o e)) (C_ _ rfl) ⟨c2,o,vs,tq,e1,l_ _ (k _ _ e2),e3⟩⟩
  show wpAny _ _ (do
   let v <- (do let v <- eval (.Lambda (d4 p0) (dm p1 p2 p3 p4 p5 p6) aW q7) X.env;standAt q9;pure v)
   return v::(<- holding [v] (evalAll []))) _ _ _
  refine j_ <| j_ <| Pj lam (λv s3 hv3=>?_) λ_ _ z=>z;obtain⟨f,rfl,hv3⟩:=hv3;exact j_ (Rm (u_ (j_ (PU (u_ (u_ hv3))))))
end
end L2
namespace L2
open PySem PySem.Spec PyProof.Rows
section
variable{K:W.Frag}{mg:Sa}{ρ:List Addr}{H H2:Hp}{h:AH}
def LamT.one{P P':Addr}{q q':Str}(a:LamT K mg P q)(b:LamT K mg P' q'):q=q':=by
 obtain⟨x,f,oc,od,fd,sl,c,a1,a2,a3,a4,a5,a6,rfl⟩:=a;obtain⟨y,f',oc',od',fd',sl',c',b1,b2,b3,b4,b5,b6,rfl⟩:=b;have e:x=y:=by
  by_cases z:x=y
  .exact z
  .have:=a2 y b1 λw=>z w.symm
   rw[b3] at this;cases this
 subst e;rw[a3] at b3;cases b3;rw[a4] at b4;cases b4;rfl
def wG{pos:Pos}{a b:Int}{c cv:Value}(l:List Value)(h:TriplesOk l)(e:codeAmong pos (l++[rawInt a,rawInt b,c])=some cv):codeAmong pos l=some cv\/cv=c:=by
 fun_induction TriplesOk l with
 |
  case1=>
  simp only[Ph,codeAmong,rawInt] at e;split at e
  .cases e;exact .inr rfl
  .cases e
 |
  case2 a' t b' u x gj ih=>
  simp only[Rn,codeAmong] at e ⊢;split at e
  .rename_i z;rw[if_pos z];exact .inl e
  .rename_i z;rw[if_neg z];exact ih h e
 |case3 l h1 h2=>exact h.elim
def Grown.ok{P:Addr}{q:Str}{ps:Array Value}{pos:Pos}(g:Grown H H2 P q ps pos)(w:Wd K mg ρ h H)(hT:LamT K mg P q)(hP:H P=some (.tbl ps)):Wd K mg ρ h H2/\Le ρ H ρ H2:=by
 rcases g with rfl |⟨c',hc,am,rfl⟩
 .exact⟨w,Le.refl⟩
 .have nPc:P≠c':=aJ hP hc;have at_:∀b,b≠P->b≠c'->upd (upd H P (.tbl (ps++#[rawInt pos.line,rawInt pos.col,.ref c']))) c' (.ext (jo c' q)) b=H b:=λb n1 n2=>by rw[ay n2,ay n1]
  have atP:upd (upd H P (.tbl (ps++#[rawInt pos.line,rawInt pos.col,.ref c']))) c' (.ext (jo c' q)) P=some (.tbl (ps++#[rawInt pos.line,rawInt pos.col,.ref c'])):=by rw[ay nPc,aM]
  have nP:∀b u,H b=some u->(∀qs,u ≠ .tbl qs)->b≠P:=λb u e n z=>by rw[z,hP] at e;cases e;exact n _ rfl
  have nc:∀b u,H b=some u->b≠c':=λb u e=>aJ e hc;have l:Le ρ H ρ (upd (upd H P (.tbl (ps++#[rawInt pos.line,rawInt pos.col,.ref c']))) c' (.ext (jo c' q))):=⟨λ_ _ e=>e,λb xs e=>by rw[at_ b (nP b _ e λ_ z=>nomatch z) (nc b _ e)];exact e,λb o u e=>by rw[at_ b (nP b _ e λ_ z=>nomatch z) (nc b _ e)];exact e,λb φ e=>by rw[at_ b (nP b _ e λ_ z=>nomatch z) (nc b _ e)];exact e⟩;refine⟨⟨w.len,w.nd,λP' q' l'=>?_,λn b ob e1 e2=>?_⟩,l⟩
  .obtain⟨⟨t1,ps',t2,t3,t4⟩,bm⟩:=w.tb P' q' l';refine⟨⟨t1,?_⟩,bm.le l⟩;have eq:=hT.one l';by_cases z:P'=P
   .subst z;rw[hP] at t2;cases t2;refine⟨_,atP,?_,λh_ cv e=>?_⟩
    .rw[Array.toList_append];exact TriplesOk_snoc _ _ _ _ t3
    .rw[Array.toList_append] at e;rcases wG _ t3 e with z |rfl
     .obtain⟨c,e1,e2⟩:=t4 h_ cv z;exact⟨c,e1,l.ext _ _ e2⟩
     .exact⟨c',rfl,by rw[aM,eq]⟩
   .exact⟨ps',by rw[at_ P' z (nc P' _ t2)];exact t2,t3,λh_ cv e=>by obtain⟨c,e1,e2⟩:=t4 h_ cv e;exact⟨c,e1,l.ext _ _ e2⟩⟩
  .have o:=w.ob n b ob e1 e2;have nb:b≠P:=λz=>(w.tb P q hT).1.1 (by rw[<- z];exact P8 e1);obtain⟨u,hu⟩:=o.there;exact o.mono l (at_ b nb (nc b _ hu))
end
section
variable{X:Cx}{K:W.Frag}{mg:Sa}{ES:St->XK}{a:Expr}{F:ME}{iW:Nat}{c P:Addr}{q1 q2 q6 q7 q8 q9 p0 p1 p2 p3 p4 p5 p6:Pos}
noncomputable def lsD(h:AH):D->Option (List D)
 |.ref n=>aG h n
 |.kl xs=>some xs
 |_=>none
def wB{ρ:List Addr}{H:Hp}{h:AH}{d:D}{v:V}{xs:List D}(w:Wd K mg ρ h H)(r:RelD K mg ρ H d v)(e:lsD h d=some xs):∃p vs,v=.ref p/\SqL K H p vs/\RelDs K mg ρ H xs vs:=by
 cases r with
 |ref ea=>obtain⟨vs,h1,h2⟩:=bg w ea e;exact⟨_,vs,rfl,h1,h2⟩
 |kl q rs=>have e':some _=some xs:=e;cases e';exact⟨_,_,rfl,.inr q,rs⟩
 |_=>cases e
noncomputable def jt:Fn:=λds h=>match ds with
 | [.int j,d]=>match lsD h d with
  |some xs=>match kT xs with
   |some ws=>if j=(ws.length:Nat)/\ws.length<64 then .ok (.ref h.length) (h++[.lst ((ax ws).map λi:Nat=>D.int (i:Nat))]) else .stuck
   |none=>.stuck
  |none=>.stuck
 |_=>.stuck
theorem rH{ρ:List Addr}{H:Hp}:∀l:List Nat,RelDs K mg ρ H (l.map λi:Nat=>D.int (i:Nat)) (l.map λi:Nat=>V.int (i:Nat))
 | []=>.nil
 |i::l=>.cons (.int _) (rH l)
def Fb(hc:X.calm=true)(hdp:X.A.depth<recursionLimit)(hl:Gl X "sorted")(hml:X.mg "sorted"=none)(hg:Gl X "range")(hm:X.mg "range"=none)(ha:DE K mg X ES a F)(hN:X.N[iW]?=some "weights")(hv:X.env.scope.names.lookup ("weights" : Str)=some .cell)(i_:X.env.code=.ref c)(hh:W.codeHdIn K c P=true)(hT:LamT K mg P (X.env.qual ++ "<lambda>"))(hs:starEach [a] X.env=[(false,eval a X.env)])(hK:X.K=K)(hk:X.mg=mg):
 DE K mg X ES (.Call (.Name "sorted" q1) [.Call (.Name "range" q2) [a] [] q6] [⟨some "key",.Lambda (d4 p0) (dm p1 p2 p3 p4 p5 p6) aW q7,q8⟩] q9) (eFn jt (gX F (gX (bq iW) jd))):=by
 subst hK hk;refine PE.imp (Gj hc hdp hl hml hg hm (vE ha yU hs) hN hv i_ hh hs) λσ H Q q_=>q_.el λρ h ae w re p=>⟨ρ,h,ae,w,re,?_⟩;unfold eFn gX at p;unfold gX jd;cases hF:F ae h with
 |stuck=>rw[hF] at p;exact p.elim
 |exc c h1=>rw[hF] at p;exact p
 |
  ok x h1=>
  rw[hF] at p;intro ρ1 H1 l1 w1 vs rs;have p1:=PostG.mono l1 p;obtain⟨d,ed,p2⟩:=Cq (f:=λx1 h2=>((jd ae h2).bind λxs h3=>.ok (x1::xs) h3).bind λxs h4=>jt (x::xs) h4) (p:=by refine Eq.mp ?_ p1;congr 1;show (((bq iW ae h1).bind _).bind _).bind _=_;cases bq iW ae h1 <;> rfl);obtain⟨v,ev,rv⟩:=(re.mono l1).at_ iW d ed;have p3:cQ X.K X.mg ρ1 H1 Q (ES σ) (jt [x,d] h1):=p2;unfold jt at p3;cases rs with
  |
   cons rx rr=>
   cases rr;cases x with
   |
    int j=>
    dsimp only at p3;split at p3
    .rename_i xs e1;split at p3
     .rename_i ws e2;split at p3
      .rename_i hj;obtain⟨b,us,rfl,hq,rs'⟩:=wB w1 rv e1;obtain rfl:=jP rs' e2;obtain⟨⟨t1,ps,t2,t3,t4⟩,bm⟩:=w1.tb P _ hT;cases rx;refine⟨b,ws,ps,by rw[hj.1],ev,hq,hj.2,t2,t3,t4,bm,λH2 l g hl2=>?_⟩;obtain⟨w2,l2⟩:=g.ok w1 hT t2;exact dM w2 (rH _) hl2 (PostG.mono l2 p3)
      .exact p3.elim
     .exact p3.elim
    .exact p3.elim
   |_=>exact p3.elim
end
end L2
namespace L2
open PySem PySem.W PySem.Calls PyProof.Rows
section
variable{prog:Program}{w:World}{A:Around}{E:Sd}{s:Shared}
def xJ{a:Addr}{vs:List Value}{n:Nat}{xs:List (Int×Int)}{P:PySem.Fin->Shared->Prop}(ho:s.heap.get? a=some (seqObj "list" vs.toArray n))(h64:vs.length<64)(T:TupsAt s.heap vs xs)(nd:xs.Nodup)
 (h:∀(p:Array Nat) h' c,p.toList.Perm (List.range vs.length)->UpTo (ltP xs) p vs.length->(∀b o,b≠a->s.heap.get? b=some o->h'.get? b=some o)->h'.get? a=some (seqObj "list" (p.toList.map λi=>vs.getD i Value.none).toArray c)->P (.done (.ret .none)) { s with heap:=h' }):
 wpAny (model prog w) A (Builtin.«list.sort» ⟨[.ref a],[]⟩) P E s:=by
 have u1:=Px s.heap a (Obj.mapSeq λ_=>(#[]:Array Value));obtain⟨e1,a1⟩:∃e1,(s.heap.update a (Obj.mapSeq λ_=>(#[]:Array Value))).get? a=some (seqObj "list" #[] e1):=⟨_,QY ho λ_=>#[]⟩;have big:sizeLine=16777216:=rfl;rw[list_sort_plain];refine j_ <| listItems_at ho rfl ?_;refine j_ <| QV ho rfl ?_ (by rw[t_];omega) (M_ _);refine j_ <| seqEpoch_at a1 rfl ?_;refine j_ <| wpAny_newTuple ?_ (by show vs.length<=_;omega);refine j_ <| Rl ?_ (M_ _);refine PU ?_;show wpAny (model prog w) A _ P E { s with heap:=((s.heap.update a (Obj.mapSeq λ_=>(#[]:Array Value))).push (seqObj "tuple" vs.toArray 0)).push (seqObj "list" #[] 0) };have k3:∀b o,b≠a->s.heap.get? b=some o->(((s.heap.update a (Obj.mapSeq λ_=>(#[]:Array Value))).push (seqObj "tuple" vs.toArray 0)).push (seqObj "list" #[] 0)).get? b=some o:=λb o n z=>l_ _ (l_ _ ((u1.2 b n).trans z));have a3:(((s.heap.update a (Obj.mapSeq λ_=>(#[]:Array Value))).push (seqObj "tuple" vs.toArray 0)).push (seqObj "list" #[] 0)).get? a=some (seqObj "list" #[] e1):=l_ _ (l_ _ a1);generalize ((s.heap.update a (Obj.mapSeq λ_=>(#[]:Array Value))).push (seqObj "tuple" vs.toArray 0)).push (seqObj "list" #[] 0)=h3 at k3 a3 ⊢;have T3:TupsAt h3 vs xs:=T.imp λv x t=>t.keep ⟨_,ho,rfl⟩ k3;refine uz (s:={ s with heap:=h3 }) rfl h64 T3 nd λp st' p1 p2 out hf=>?_;dsimp only;have zl:(p.toList.map λi=>vs.getD i Value.none).length<64:=by rw[k_,p1.length_eq,Pc];exact h64
 have u:=Px h3 a (Obj.mapSeq λ_=>(p.toList.map λi=>vs.getD i Value.none).toArray);refine j_ <| seqEpoch_at a3 rfl ?_;rw[show (arrOf st').map (λp:Keyed=>p.2)=_ from out];refine j_ <| QV a3 rfl ?_ (M_ _) (by rw[t_];omega);rw[hf];simp only[bne_self_eq_false,Qh,Q4];exact u_ (h p _ _ p1 p2 (λb o n z=>(u.2 b n).trans (k3 b o n z)) (QY a3 λ_=>_))
def ub{l:Addr}{vs:List Value}{xs:List (Int×Int)}{Q:Sd}(hl:s.heap.IsList l vs.toArray)(h64:vs.length<64)(T:TupsAt s.heap vs xs)(nd:xs.Nodup)
 (h:∀(p:Array Nat) (h':Heap) (D:Addr) (c:Nat),p.toList.Perm (List.range vs.length)->UpTo (ltP xs) p vs.length->s.heap.objs.size<=D->(∀b o,s.heap.get? b=some o->h'.get? b=some o)->h'.get? D=some (seqObj "list" (p.toList.map λi=>vs.getD i Value.none).toArray c)->Q (.ref D) { s with heap:=h' }):
 wpAny (model prog w) A (call (.builtin "sorted") [.ref l]) Q E s:=by
 refine Calls.call_function_entry kind_sorted plain_sorted entry_sorted (args_sorted1 _) ?_;unfold Builtin.«sorted»;refine j_ (m:=checkCount "sorted" 1 1 _) <| u_ ?_;have big:sizeLine=16777216:=rfl;refine j_ <| collect_list hl ?_ (by omega);have k1:∀b o,s.heap.get? b=some o->((s.heap.push (seqObj "list" #[] 0)).update s.heap.objs.size (Obj.mapSeq (·++vs.toArray))).get? b=some o:=λb o e=>((Px (s.heap.push (seqObj "list" #[] 0)) s.heap.objs.size (Obj.mapSeq (·++vs.toArray))).2 b (J_ (v_ e))).trans (l_ _ e);have sz:s.heap.objs.size<=((s.heap.push (seqObj "list" #[] 0)).update s.heap.objs.size (Obj.mapSeq (·++vs.toArray))).objs.size:=by rw[Heap.size_update,size_push'];exact Nat.le_succ _
 generalize (s.heap.push (seqObj "list" #[] 0)).update s.heap.objs.size (Obj.mapSeq (·++vs.toArray))=h1 at k1 sz ⊢;refine j_ <| Rl ?_ (by omega);have hoL:(h1.push (seqObj "list" vs.toArray 0)).get? h1.objs.size=some (seqObj "list" vs.toArray 0):=C_ _ rfl;have kL:∀b o,s.heap.get? b=some o->b≠h1.objs.size/\(h1.push (seqObj "list" vs.toArray 0)).get? b=some o:=λb o e=>⟨J_ (v_ (k1 b o e)),l_ _ (k1 b o e)⟩;refine j_ <| PU <| Qw slot_list_sort ⟨_,hoL,rfl⟩ entry_list_sort ?body (args_list_sort _)
 case body=>
  refine xJ (s:={ s with heap:=h1.push (seqObj "list" vs.toArray 0) }) hoL h64 (T.imp λv x t=>t.mono λc o e=>(kL c o e).2) nd λp h' c p1 p2 k z=>?_;exact⟨_,rfl,u_ ⟨_,rfl,h p h' h1.objs.size c p1 p2 sz (λb o e=>k b o (kL b o e).1 (kL b o e).2) z⟩⟩
end
end L2
namespace L2
open PySem PySem.Spec PyProof.Rows
noncomputable def srP(ks:List (Int×Int)):List (Int×Int):=ks.mergeSort λx y=>!ba y x
def uv(ks:List (Int×Int)):(srP ks).Perm ks:=RN ..
def yR{ks:List (Int×Int)}(nd:ks.Nodup):(srP ks).Pairwise λx y=>ba x y=true:=DZ (λx=>x) (λh=>h) nd
def Js{ks:List (Int×Int)}(nd:ks.Nodup){p:Array Nat}(h1:p.toList.Perm (List.range ks.length))(h2:UpTo (ltP ks) p ks.length):(p.toList.map λi=>ks.getD i (0,0))=srP ks:=by have pm:=h1.map λi=>ks.getD i (0,0);rw[wC] at pm;exact oB (k:=λx=>x) (Q9.mpr (vY h1 h2)) (yR nd) (pm.trans (uv ks).symm)
def TupsV(K:W.Frag)(H:Hp):List V->List (Int×Int)->Prop
 | [],[]=>True
 |v::vs,k::ks=>(∃p,v=.ref p/\SqT K H p [.int k.1,.int k.2])/\TupsV K H vs ks
 |_,_=>False
theorem TupsV.len{K:W.Frag}{H:Hp}:∀{vs:List V}{ks:List (Int×Int)},TupsV K H vs ks->vs.length=ks.length
 | [],[],_=>rfl
 | [],_::_,t=>t.elim
 |_::_,[],t=>t.elim
 |_::_,_::_,t=>by rw[B_,B_,t.2.len]
theorem TupsV.get{K:W.Frag}{H:Hp}:∀{vs:List V}{ks:List (Int×Int)} (i:Nat),TupsV K H vs ks->i<ks.length->∃p,vs.getD i .non=.ref p/\SqT K H p [.int (ks.getD i (0,0)).1,.int (ks.getD i (0,0)).2]
 | [],[],i,_,hi=>absurd hi (by simp)
 | [],_::_,i,t,_=>t.elim
 |_::_,[],i,t,_=>t.elim
 |_::_,_::_,0,t,_=>t.1
 |_::vs,_::ks,i+1,t,hi=>TupsV.get (vs:=vs) (ks:=ks) i t.2 (by simpa using hi)
theorem TupsV.pick{K:W.Frag}{H:Hp}{vs:List V}{ks:List (Int×Int)}(t:TupsV K H vs ks):∀{l:List Nat},(∀i∈l,i<ks.length)->TupsV K H (l.map λi=>vs.getD i .non) (l.map λi=>ks.getD i (0,0))
 | [],_=>trivial
 |i::l,h=>⟨t.get i (h i (n_ ..)),t.pick λj hj=>h j (m_ _ hj)⟩
section
variable{X:Cx}
theorem TupsV.at_{pins:Sb}{σ:St}{H:Hp}{s:Shared}(I:Inv X pins σ H s):∀{vs:List V}{ks:List (Int×Int)}{its:List Value},TupsV X.K H vs ks->Vals vs its->TupsAt s.heap its ks
 | [],[],_,_,r=>by cases r;trivial
 | [],_::_,_,t,_=>t.elim
 |_::_,[],_,t,_=>t.elim
 |
  _::_,k::_,_,t,r=>by
  cases r with
  |
   cons r rr=>
   obtain⟨p,rfl,q⟩:=t.1;cases r;refine⟨?_,TupsV.at_ I t.2 rr⟩;obtain⟨its,rv,pl,_⟩:=I.tuple q;cases rv with
   |
    cons r1 rv=>
    cases rv with
    |cons r2 rv=>cases rv;obtain⟨t1,rfl⟩:=r1;obtain⟨t2,rfl⟩:=r2;obtain⟨⟨cl,dc,dt,sl⟩,e,hc,n,hd⟩:=pl;cases hc;cases hd;exact⟨p,n,dc,sl,t1,t2,rfl,e⟩
def nK(K:W.Frag):List V->Hp->VK->Prop:=λxs H Q=>∃a vs ks,xs=[.ref a]/\SqL K H a vs/\TupsV K H vs ks/\ks.Nodup/\ks.length<64/\∀l us,H l=none->TupsV K H us (srP ks)->Q (.ref l) (upd H l (.lst us))
def tH:CallR X (.builtin "sorted") (nK X.K):=by
 intro pins s σ H xs us Q I r h;obtain⟨a,vs,ks,rfl,hq,tv,nd,hz,q⟩:=h;obtain⟨u,rfl,ru⟩:=fb r;cases ru;obtain⟨its,rv,pl,_⟩:=I.list hq;have l1:=tv.len;have l2:=rv.length;refine ub pl.isList (by omega) (tv.at_ I rv) nd λp h' D c p1 p2 sz k z=>?_;rw[<- l2,l1] at p1 p2;have all:∀i∈p.toList,i<ks.length:=λi hi=>Pk.mp (p1.mem_iff.mp hi);have tp:=tv.pick all;rw[Js nd p1 p2] at tp;have vz:Vals (p.toList.map λi=>vs.getD i .non) (p.toList.map λi=>its.getD i Value.none):=by
  clear tp z p1 p2;generalize p.toList=l at all;induction l with
  |nil=>exact .nil
  |cons i l ih=>refine .cons ?_ (ih λj hj=>all j (m_ _ hj));have hi:=all i (n_ ..);obtain⟨u,e1,e2⟩:=rv.get (i:=i) (x:=vs.getD i .non) (by rw[Em,y_ (by omega)];rfl);show RelV (vs.getD i .non) (its.getD i Value.none);rw[show its.getD i Value.none=u from by rw[Em,e1];rfl];exact e2
 have big:sizeLine=16777216:=rfl;have ln:(p.toList.map λi=>vs.getD i .non).length<=sizeLine:=by rw[k_,p1.length_eq,Pc];omega
 exact⟨.ref D,_,I.laid (t':=s.toks) k sz (show ObjOk X.prog X.w _ h' _ (.lst _) from ⟨ln,_,c,vz,z⟩),rfl,q D _ (I.hok.fresh sz) tp⟩
end
section
variable{K:W.Frag}{mg:Sa}
noncomputable def prD(k:Int×Int):D:=.tup [.int k.1,.int k.2]
noncomputable def iS:List D->Option (List (Int×Int))
 | []=>some []
 |.tup [.int i,.int j]::ds=>(iS ds).map ((i,j) :: ·)
 |_::_=>none
theorem m6{ρ:List Addr}{H:Hp}:∀{ds:List D}{vs:List V}{ks:List (Int×Int)},RelDs K mg ρ H ds vs->iS ds=some ks->TupsV K H vs ks
 | [],_,_,r,e=>by cases r;cases e;trivial
 |
  d::ds,_,ks,r,e=>by
  cases r with
  |
   cons r rr=>
   unfold iS at e;split at e
   .rename_i z;exact (nomatch z)
   .rename_i i j ds' z;cases z;obtain⟨ms,e1,rfl⟩:=G_.mp e;refine⟨?_,m6 rr e1⟩;cases r with
    |
     tup q rs=>
     cases rs with
     |
      cons r1 rs=>
      cases rs with
      |cons r2 rs=>cases rs;cases r1;cases r2;exact⟨_,rfl,q⟩
   .cases e
theorem pH{ρ:List Addr}{H:Hp}:∀{us:List V}{ks:List (Int×Int)},TupsV K H us ks->RelDs K mg ρ H (ks.map prD) us
 | [],[],_=>.nil
 | [],_::_,t=>t.elim
 |_::_,[],t=>t.elim
 |
  _::_,k::_,t=>by
  obtain⟨⟨p,rfl,q⟩,tt⟩:=t;exact .cons (.tup q (.cons (.int _) (.cons (.int _) .nil))) (pH tt)
noncomputable def j6:Fn:=λds h=>match ds with
 | [.ref a]=>match aG h a with
  |some xs=>match iS xs with
   |some ks=>if ks.Nodup/\ks.length<64 then .ok (.ref h.length) (h++[.lst ((srP ks).map prD)]) else .stuck
   |none=>.stuck
  |_=>.stuck
 |_=>.stuck
def Dq:aS K mg (nK K) j6:=λρ h H ds vs Q E w rs p=>by
 unfold j6 at p;split at p
 .cases
   rs with
  |
   cons r1 rs=>
   cases rs;cases r1 with
   |
    ref ea=>
    split at p
    .rename_i xs q1;split at p
     .rename_i ks q2;split at p
      .rename_i hb;obtain⟨us,g1,g2⟩:=bg w ea q1;exact⟨_,us,ks,rfl,g1,m6 g2 q2,hb.1,hb.2,λl us' hl t=>dM w (pH t) hl p⟩
      .exact p.elim
     .exact p.elim
    .exact p.elim
 .exact p.elim
end
noncomputable def ddI(ns:List Int):List Int:=firstMet (λi=>ns.getD i 0) ns.length
theorem wY(val:Nat->Int):∀i,(firstMet val i).Nodup
 |0=>List.nodup_nil
 |
  i+1=>by
  rw[firstMet_succ];unfold step_dedup;split
  .exact wY val i
  .rename_i h;rw[Q8];refine⟨wY val i,by simp,λa ha b hb z=>h ?_⟩;rw[Pw] at hb;exact QL.mpr ⟨a,ha,by rw[z,hb];exact QO _⟩
theorem uh(val:Nat->Int):∀i,i<=(firstMet val i).length->∀j k,j<k->k<i->val j≠val k
 |0,_,j,k,_,h=>absurd h (by omega)
 |
  i+1,hl,j,k,hjk,hk=>by
  rw[firstMet_succ] at hl;unfold step_dedup at hl;have le:=firstMet_length_le val i;split at hl
  .omega
  .rename_i hn;rw[z_,Rq] at hl;by_cases e:k=i
   .subst e;intro z;refine hn ?_;rw[firstMet_any];exact QL.mpr ⟨val j,PH.mpr ⟨j,Pk.mpr hjk,rfl⟩,Pa.mpr z⟩
   .exact uh val i (by omega) j k hjk (by omega)
def ET{ns:List Int}(h:ns.length<=(ddI ns).length){i j:Nat}(hij:i<j)(hj:j<ns.length):ns.getD i 0≠ns.getD j 0:=uh (λi=>ns.getD i 0) ns.length h i j hij hj
section
variable{X:Cx}
def qL(K:W.Frag):List V->Hp->VK->Prop:=λxs H Q=>∃a ns,xs=[.ref a]/\SqL K H a (ns.map V.int)/\ns.length<1000/\∀l,H l=none->Q (.ref l) (upd H l (.set (λi=>decide (i∈ddI ns)) (ddI ns).length))
def zL(hc:X.calm=true):CallR X (.type "set") (qL X.K):=by
 intro pins s σ H xs us Q I r h;obtain⟨a,ns,rfl,hq,hz,q⟩:=h;obtain⟨u,rfl,ru⟩:=fb r;cases ru;obtain⟨its,rv,pl,_⟩:=I.list hq;have ln:=rv.length;rw[k_] at ln;refine call_set_list (I.ok.hd hc) pl.isList (nR rv) (by show its.length+1<_;rw[<- ln];unfold scanBound;omega) λh' tk S k=>?_;have e:firstMet (λi=>ns.getD i 0) its.toArray.size=ddI ns:=by unfold ddI;rw[t_,<- ln]
 rw[e] at S;have S':h'.SetOf (intKind X.prog X.w) s.heap.objs.size (λi=>decide (i∈ddI ns)) (ddI ns).length:=by
  rw[show (λi=>decide (i∈ddI ns))=λk'=>(ddI ns).any (· == k') from funext λk=>by
   rw[Ru,PN,QL];constructor
   .exact λz=>⟨k,z,QO _⟩
   .rintro⟨x,hx,z⟩;rw[<- Pa.mp z];exact hx]
  exact S
 exact⟨.ref s.heap.objs.size,_,I.laid (t':=tk) (λb o e=>k b o (v_ e) e) (o_ _) (show ObjOk X.prog X.w _ h' _ (.set _ _) from S'),rfl,q _ (I.hok.fresh (o_ _))⟩
end
section
variable{K:W.Frag}{mg:Sa}
noncomputable def nv:Fn:=λds h=>match ds with
 | [d]=>match lsD h d with
  |some xs=>match kT xs with
   |some ns=>if ns.length<1000 then .ok (.ref h.length) (h++[.set (ddI ns)]) else .stuck
   |none=>.stuck
  |none=>.stuck
 |_=>.stuck
def EX:aS K mg (qL K) nv:=λρ h H ds vs Q E w rs p=>by
 unfold nv at p;split at p
 .cases
   rs with
  |
   cons r1 rs=>
   cases rs;split at p
   .rename_i xs q1;split at p
    .rename_i ns q2;split at p
     .rename_i hb;obtain⟨b,us,rfl,g1,g2⟩:=wB w r1 q1;obtain rfl:=jP g2 q2;refine⟨b,ns,rfl,g1,hb,λl hl=>?_⟩;have w2:=w.alloc (o:=.set (ddI ns)) (u:=.set (λi=>decide (i∈ddI ns)) (ddI ns).length) hl ⟨wY _ _,aM⟩;refine p _ _ ((bW hl).trans gu) w2 _ (.ref ?_);rw[<- w.len,O8 (o_ _),Qi];rfl
     .exact p.elim
    .exact p.elim
   .exact p.elim
 .exact p.elim
end
end L2
namespace L2
open PySem PySem.Spec PySem.Calls PyProof.Rows
section
variable{X:Cx}{K:W.Frag}{mg:Sa}{ES:St->XK}{a:Expr}{A:MA}{ta:TA}{q1 q2 q6 q8 q9 pc:Pos}{kc:Nat}
end
section
variable{prog:Program}{w:World}{A:Around}{E:Sd}{s:Shared}
end
section
variable{X:Cx}{K:W.Frag}{mg:Sa}{ES:St->XK}{a:Expr}{A:MA}{ta:TA}{pos q2 p1 p2:Pos}
end
end L2
namespace L3
open PySem PySem.Spec PyProof.Rows L2
set_option genInjectivity true in
inductive Val where
 |non |bl (b:Bool) |int (i:Int) |str (x:Str) |ty (n:String) |glb (x:Str) |exc (x:Str)
 |tup (xs:List Val) |lst (xs:List Val) |kl (xs:List Val) |dct (kvs:List (Key×Val)) |set (xs:List Int)
 deriving Inhabited
mutual
inductive Rd(P:Nat->Prop)(h:AH):D->Val->Prop where
 |non:Rd P h .non .non
 |bl (b:Bool):Rd P h (.bl b) (.bl b)
 |int (i:Int):Rd P h (.int i) (.int i)
 |str (x:Str):Rd P h (.str x) (.str x)
 |ty (n:String):Rd P h (.ty n) (.ty n)
 |glb (x:Str):Rd P h (.glb x) (.glb x)
 |exc (x:Str):Rd P h (.exc x) (.exc x)
 |tup {ds:List D}{vs:List Val} (r:Rds P h ds vs):Rd P h (.tup ds) (.tup vs)
 |kl {ds:List D}{vs:List Val} (r:Rds P h ds vs):Rd P h (.kl ds) (.kl vs)
 |cell {n:Nat}{o:Ob}{v:Val} (p:P n) (e:h[n]?=some o) (r:Rc P h o v):Rd P h (.ref n) v
inductive Rc(P:Nat->Prop)(h:AH):Ob->Val->Prop where
 |lst {ds:List D}{vs:List Val} (r:Rds P h ds vs):Rc P h (.lst ds) (.lst vs)
 |fz {ds:List D}{vs:List Val} (r:Rds P h ds vs):Rc P h (.fz ds) (.kl vs)
 |dct {ws:List (Key×D)}{us:List (Key×Val)} (r:Rk P h ws us):Rc P h (.dct ws) (.dct us)
 |set (xs:List Int):Rc P h (.set xs) (.set xs)
inductive Rds(P:Nat->Prop)(h:AH):List D->List Val->Prop where
 |nil:Rds P h [] []
 |cons {d:D}{v:Val}{ds:List D}{vs:List Val} (r:Rd P h d v) (rr:Rds P h ds vs):Rds P h (d::ds) (v::vs)
inductive Rk(P:Nat->Prop)(h:AH):List (Key×D)->List (Key×Val)->Prop where
 |nil:Rk P h [] []
 |cons {k:Key}{d:D}{v:Val}{ds:List (Key×D)}{vs:List (Key×Val)} (r:Rd P h d v) (rr:Rk P h ds vs):Rk P h ((k,d)::ds) ((k,v)::vs)
end
section
variable{P P':Nat->Prop}{h h':AH}
abbrev Mov(P P':Nat->Prop)(h h':AH):Prop:=∀n o,P n->h[n]?=some o->P' n/\h'[n]?=some o
def Rd.mono(m:Mov P P' h h')(r:Rd P h d v):Rd P' h' d v:=@Rd.rec P h (λd v _=>Rd P' h' d v) (λo v _=>Rc P' h' o v) (λds vs _=>Rds P' h' ds vs) (λws us _=>Rk P' h' ws us) .non (λb=>.bl b) (λi=>.int i) (λx=>.str x) (λn=>.ty n) (λx=>.glb x) (λx=>.exc x) (λ_ ih=>.tup ih) (λ_ ih=>.kl ih) (λp e _ ih=>.cell (m _ _ p e).1 (m _ _ p e).2 ih) (λ_ ih=>.lst ih) (λ_ ih=>.fz ih) (λ_ ih=>.dct ih) (λxs=>.set xs) .nil (λ_ _ a b=>.cons a b) .nil (λ_ _ a b=>.cons a b) d v r
def Rds.ind{M:List D->List Val->Prop}(h0:M [] [])(h1:∀{d v ds vs},Rd P h d v->Rds P h ds vs->M ds vs->M (d::ds) (v::vs)){ds:List D}{vs:List Val}(r:Rds P h ds vs):M ds vs:=by
 induction ds generalizing vs with
 |nil=>cases r;exact h0
 |
  cons d ds ih=>
  cases r with
  |cons r rr=>exact h1 r rr (ih rr)
def Rk.ind{M:List (Key×D)->List (Key×Val)->Prop}(h0:M [] [])(h1:∀{k d v ds vs},Rd P h d v->Rk P h ds vs->M ds vs->M ((k,d)::ds) ((k,v)::vs)){ds:List (Key×D)}{vs:List (Key×Val)}(r:Rk P h ds vs):M ds vs:=by
 induction ds generalizing vs with
 |nil=>cases r;exact h0
 |
  cons d ds ih=>
  cases r with
  |cons r rr=>exact h1 r rr (ih rr)
def Rds.mono(m:Mov P P' h h'){d:List D}{v:List Val}(r:Rds P h d v):Rds P' h' d v:=r.ind .nil λr _ ih=>.cons (r.mono m) ih
def Rk.mono(m:Mov P P' h h'){d:List (Key×D)}{v:List (Key×Val)}(r:Rk P h d v):Rk P' h' d v:=r.ind .nil λr _ ih=>.cons (r.mono m) ih
def Rc.mono(m:Mov P P' h h')(r:Rc P h d v):Rc P' h' d v:=by
 cases r with
 |lst r=>exact .lst (r.mono m)
 |fz r=>exact .fz (r.mono m)
 |dct r=>exact .dct (r.mono m)
 |set xs=>exact .set xs
def Rds.len{ds:List D}{vs:List Val}(r:Rds P h ds vs):ds.length=vs.length:=r.ind (M:=λds vs=>ds.length=vs.length) rfl λ_ _ ih=>PF (· + 1) ih
def Rds.get{ds:List D}{vs:List Val}{i:Nat}{v:Val}(r:Rds P h ds vs)(e:vs[i]?=some v):∃d,ds[i]?=some d/\Rd P h d v:=
 r.ind (M:=λds vs=>∀i,vs[i]?=some v->∃d,ds[i]?=some d/\Rd P h d v) (λ_ e=>by rw[List.getElem?_nil] at e;cases e) (λr _ ih i e=>match i,e with
  |0,e=>by cases e;exact⟨_,rfl,r⟩
  |i+1,e=>ih i e) i e
def Rds.append{ds es:List D}{vs ws:List Val}(r:Rds P h ds vs)(q:Rds P h es ws):Rds P h (ds++es) (vs++ws):=r.ind (M:=λds vs=>Rds P h (ds++es) (vs++ws)) q λr _ ih=>.cons r ih
def Rds.take{ds:List D}{vs:List Val}(n:Nat)(r:Rds P h ds vs):Rds P h (ds.take n) (vs.take n):=
 r.ind (M:=λds vs=>∀n:Nat,Rds P h (ds.take n) (vs.take n)) (λn=>by rw[Qz,Qz];exact .nil) (λr _ ih n=>by cases n with |zero=>exact .nil |succ n=>exact .cons r (ih n)) n
def Rds.drop{ds:List D}{vs:List Val}(n:Nat)(r:Rds P h ds vs):Rds P h (ds.drop n) (vs.drop n):=
 r.ind (M:=λds vs=>∀n:Nat,Rds P h (ds.drop n) (vs.drop n)) (λn=>by rw[QS,QS];exact .nil) (λr rr ih n=>by cases n with |zero=>exact .cons r rr |succ n=>exact ih n) n
def Rds.set{d:D}{v:Val}(r:Rd P h d v){ds:List D}{vs:List Val}(i:Nat)(q:Rds P h ds vs):Rds P h (ds.set i d) (vs.set i v):=
 q.ind (M:=λds vs=>∀i:Nat,Rds P h (ds.set i d) (vs.set i v)) (λ_=>.nil) (λq qq ih i=>by cases i with |zero=>exact .cons r qq |succ i=>exact .cons q (ih i)) i
def Rds.reverse(r:Rds P h ds vs):Rds P h ds.reverse vs.reverse:=by
 induction ds generalizing vs with
 |nil=>cases r;exact .nil
 |
  cons d ds ih=>
  cases r with
  |cons q rr=>rw[Qr,Qr];exact (ih rr).append (.cons q .nil)
def ShR(P:Nat->Prop)(h:AH)(d:D)(v:Val):Prop:=Rd P h d v\/∃n o,d=.ref n/\h[n]?=some o/\Rc P h o v
inductive ShRs(P:Nat->Prop)(h:AH):List D->List Val->Prop where
 |nil:ShRs P h [] []
 |cons {d:D}{v:Val}{ds:List D}{vs:List Val} (r:ShR P h d v) (rr:ShRs P h ds vs):ShRs P h (d::ds) (v::vs)
noncomputable def Val.items:Val->Option (List Val)
 |.tup xs=>some xs
 |.lst xs=>some xs
 |.kl xs=>some xs
 |_=>none
def ShR.int(r:ShR P h d (.int i)):d=.int i:=by
 rcases r with r |⟨n,o,rfl,e,r⟩
 .cases r with
  |int=>rfl
  |cell p e r=>cases r
 .cases r
def ShR.str(r:ShR P h d (.str i)):d=.str i:=by
 rcases r with r |⟨n,o,rfl,e,r⟩
 .cases r with
  |str=>rfl
  |cell p e r=>cases r
 .cases r
def ShR.bl(r:ShR P h d (.bl i)):d=.bl i:=by
 rcases r with r |⟨n,o,rfl,e,r⟩
 .cases r with
  |bl=>rfl
  |cell p e r=>cases r
 .cases r
def ShR.non(r:ShR P h d .non):d=.non:=by
 rcases r with r |⟨n,o,rfl,e,r⟩
 .cases r with
  |non=>rfl
  |cell p e r=>cases r
 .cases r
def ShR.exc(r:ShR P h d (.exc x)):d=.exc x:=by
 rcases r with r |⟨n,o,rfl,e,r⟩
 .cases r with
  |exc=>rfl
  |cell p e r=>cases r
 .cases r
def ShR.ty(r:ShR P h d (.ty x)):d=.ty x:=by
 rcases r with r |⟨n,o,rfl,e,r⟩
 .cases r with
  |ty=>rfl
  |cell p e r=>cases r
 .cases r
def ShR.glb(r:ShR P h d (.glb x)):d=.glb x:=by
 rcases r with r |⟨n,o,rfl,e,r⟩
 .cases r with
  |glb=>rfl
  |cell p e r=>cases r
 .cases r
def ShR.tup(r:ShR P h d (.tup vs)):∃ds,d=.tup ds/\Rds P h ds vs:=by
 rcases r with r |⟨n,o,rfl,e,r⟩
 .cases r with
  |tup r=>exact⟨_,rfl,r⟩
  |cell p e r=>cases r
 .cases r
def Rc.seq(e:h[n]?=some o)(r:Rc P h o (.lst vs)):∃ds,h[n]?=some (.lst ds)/\aG h n=some ds/\Rds P h ds vs:=by
 cases r with
 |lst r=>exact⟨_,e,by unfold aG;rw[e],r⟩
def ShR.lst(r:ShR P h d (.lst vs)):∃n ds,d=.ref n/\h[n]?=some (.lst ds)/\aG h n=some ds/\Rds P h ds vs:=by
 rcases r with r |⟨n,o,rfl,e,r⟩
 .cases r with
  |cell p e r=>obtain⟨ds,q,r⟩:=Rc.seq e r;exact⟨_,ds,rfl,q,r⟩
 .obtain⟨ds,q,r⟩:=Rc.seq e r;exact⟨_,ds,rfl,q,r⟩
def ShR.kl(r:ShR P h d (.kl vs)):∃ds,Rds P h ds vs/\(d=.kl ds\/∃n,d=.ref n/\aG h n=some ds):=by
 rcases r with r |⟨n,o,rfl,e,r⟩
 .cases r with
  |kl r=>exact⟨_,r,.inl rfl⟩
  |cell p e r=>cases r with |fz r=>exact⟨_,r,.inr ⟨_,rfl,by unfold aG;rw[e]⟩⟩
 .cases r with |fz r=>exact⟨_,r,.inr ⟨_,rfl,by unfold aG;rw[e]⟩⟩
def ShR.set(r:ShR P h d (.set xs)):∃n,d=.ref n/\h[n]?=some (.set xs):=by
 rcases r with r |⟨n,o,rfl,e,r⟩
 .cases r with
  |cell p e r=>cases r;exact⟨_,rfl,e⟩
 .cases r;exact⟨_,rfl,e⟩
def ShR.dct(r:ShR P h d (.dct us)):∃n ws,d=.ref n/\h[n]?=some (.dct ws)/\Rk P h ws us:=by
 rcases r with r |⟨n,o,rfl,e,r⟩
 .cases r with
  |cell p e r=>cases r with |dct r=>exact⟨_,_,rfl,e,r⟩
 .cases r with |dct r=>exact⟨_,_,rfl,e,r⟩
def ShR.items(r:ShR P h d v)(e:v.items=some vs):∃ds,dn h d=some ds/\Rds P h ds vs:=by
 cases v with
 |tup xs=>cases e;obtain⟨ds,rfl,q⟩:=r.tup;exact⟨ds,rfl,q⟩
 |lst xs=>cases e;obtain⟨n,ds,rfl,_,e,q⟩:=r.lst;exact⟨ds,e,q⟩
 |
  kl xs=>
  cases e;obtain⟨ds,q,rfl |⟨n,rfl,e⟩⟩:=r.kl
  .exact⟨ds,rfl,q⟩
  .exact⟨ds,e,q⟩
 |_=>cases e
end
inductive Sl where
 |no |sh (v:Val) |ow (v:Val) |mu (v:Val) |lo (v:Val) |lm (v:Val)
 deriving Inhabited
abbrev E3:=List Sl
noncomputable def Sl.val:Sl->Option Val
 |.no=>none
 |.sh v=>some v
 |.ow v=>some v
 |.mu v=>some v
 |.lo v=>some v
 |.lm v=>some v
noncomputable def Sl.mt:Sl->Bool
 |.ow _=>true
 |.mu _=>true
 |_=>false
noncomputable def Sl.lk:Sl->Bool
 |.lo _=>true
 |.lm _=>true
 |_=>false
abbrev Ns:=List (Option Nat)
def Oc(X:Nat->Prop)(ns:Ns)(n:Nat):Prop:=¬ X n/\some n∉ns
def bQ:Ob->Prop
 |.fz _=>False
 |.any=>False
 |_=>True
def SlR(P:Nat->Prop)(h0:Nat)(n:Option (Option Nat))(d:Option (Option D))(h:AH):Sl->Prop
 |.no=>n=some none
 |.sh v=>n=some none/\∃x,d=some (some x)/\Rd P h x v
 |.ow v=>∃m o,n=some (some m)/\d=some (some (.ref m))/\h0<=m/\h[m]?=some o/\bQ o/\Rc P h o v
 |.lo v=>∃m o,n=some (some m)/\d=some (some (.ref m))/\h0<=m/\h[m]?=some o/\bQ o/\Rc P h o v
 |.mu v=>∃m o,n=some (some m)/\d=some (some (.ref m))/\h[m]?=some o/\bQ o/\Rc P h o v
 |.lm v=>∃m o,n=some (some m)/\d=some (some (.ref m))/\h[m]?=some o/\bQ o/\Rc P h o v
structure Sat(X:Nat->Prop)(h0:Nat)(ns:Ns)(e:E3)(ae:AE)(h:AH):Prop where
 l1:ae.length=e.length
 l2:ns.length=e.length
 lh:h0<=h.length
 xl:∀(n:Nat),X n->n<h.length
 inj:∀(i j n:Nat),ns[i]?=some (some n)->ns[j]?=some (some n)->i=j
 nx:∀(i n:Nat),ns[i]?=some (some n)->¬ X n
 sl:∀(i:Nat) (s:Sl),e[i]?=some s->SlR (Oc X ns) h0 (ns[i]?) (ae[i]?) h s
def Mt(ns:Ns)(e:E3)(n:Nat):Prop:=∃(i:Nat) (s:Sl),ns[i]?=some (some n)/\e[i]?=some s/\s.mt=true
structure Stp(ns:Ns)(e:E3)(h:AH)(ns':Ns)(e':E3)(h':AH):Prop where
 len:h.length<=h'.length
 keep:∀(m:Nat) (o:Ob),h[m]?=some o->¬ Mt ns e m->h'[m]?=some o
 nw:∀(i n:Nat),ns'[i]?=some (some n)->ns[i]?=some (some n)\/h.length<=n
 lk:∀(i:Nat) (s:Sl),e[i]?=some s->s.lk=true->e'[i]?=some s/\ns'[i]?=ns[i]?
 lk':∀(i:Nat) (s:Sl),e'[i]?=some s->s.lk=true->e[i]?=some s/\ns'[i]?=ns[i]?
 mu:∀(i:Nat) (v:Val),e'[i]?=some (.mu v)->∃u,e[i]?=some (.mu u)/\ns'[i]?=ns[i]?
 mu':∀(i:Nat) (u:Val),e[i]?=some (.mu u)->∃v,e'[i]?=some (.mu v)/\ns'[i]?=ns[i]?
section
variable{X:Nat->Prop}{h0:Nat}{ns ns' ns1 d_:Ns}{e e' e1 e2:E3}{ae:AE}{h h' h1 h2:AH}
def aV:some n∈ns ↔ ∃i:Nat,ns[i]?=some (some n):=by
 constructor
 .intro m;exact List.getElem?_of_mem m
 .rintro⟨i,e⟩;exact P8 e
def Sat.own(S:Sat X h0 ns e ae h){i n:Nat}(q:ns[i]?=some (some n)):∃s v o,e[i]?=some s/\(s.mt=true\/s.lk=true)/\s.val=some v/\ae[i]?=some (some (.ref n))/\h[n]?=some o/\bQ o/\Rc (Oc X ns) h o v:=by
 have hi:i<e.length:=by rw[<- S.l2];exact (p_.mp q).1
 have hs:=S.sl i e[i] (y_ hi);refine⟨e[i],?_⟩;have he:=y_ hi;generalize e[i]=s at *;rw[q] at hs;cases s with
 |no=>cases hs
 |sh v=>cases hs.1
 |ow v=>obtain⟨m,o,e1,e2,_,e3,e4,e5⟩:=hs;cases e1;exact⟨v,o,he,.inl rfl,rfl,e2,e3,e4,e5⟩
 |lo v=>obtain⟨m,o,e1,e2,_,e3,e4,e5⟩:=hs;cases e1;exact⟨v,o,he,.inr rfl,rfl,e2,e3,e4,e5⟩
 |mu v=>obtain⟨m,o,e1,e2,e3,e4,e5⟩:=hs;cases e1;exact⟨v,o,he,.inl rfl,rfl,e2,e3,e4,e5⟩
 |lm v=>obtain⟨m,o,e1,e2,e3,e4,e5⟩:=hs;cases e1;exact⟨v,o,he,.inr rfl,rfl,e2,e3,e4,e5⟩
def Stp.refl:Stp ns e h ns e h:=⟨o_ _,λ_ _ q _=>q,λ_ _ q=>.inl q,λ_ _ q _=>⟨q,rfl⟩,λ_ _ q _=>⟨q,rfl⟩,λ_ _ q=>⟨_,q,rfl⟩,λ_ _ q=>⟨_,q,rfl⟩⟩
def Stp.trans(S:Sat X h0 ns e ae h)(a:Stp ns e h ns1 e1 h1)(b:Stp ns1 e1 h1 d_ e2 h2):Stp ns e h d_ e2 h2:=by
 refine⟨F_ a.len b.len,λm o q hm=>?_,λi n q=>?_,λi s q hl=>?_,λi s q hl=>?_,λi v q=>?_,λi v q=>?_⟩
 .refine b.keep m o (a.keep m o q hm) λ⟨i,s,z1,z2,z3⟩=>hm ?_;have hlt:=(p_.mp q).1;rcases a.nw i m z1 with z |z
  .obtain⟨s0,v,o',q1,q2,_⟩:=S.own z;rcases q2 with q2 |q2
   .exact⟨i,s0,z,q1,q2⟩
   .have:=(a.lk i s0 q1 q2).1
    rw[z2] at this;cases this;exfalso;cases s <;> first |cases z3;done |cases q2;done
  .omega
 .rcases b.nw i n q with z |z
  .exact a.nw i n z
  .exact .inr (F_ a.len z)
 .obtain⟨q1,q2⟩:=a.lk i s q hl;obtain⟨q3,q4⟩:=b.lk i s q1 hl;exact⟨q3,q4.trans q2⟩
 .obtain⟨q1,q2⟩:=b.lk' i s q hl;obtain⟨q3,q4⟩:=a.lk' i s q1 hl;exact⟨q3,q2.trans q4⟩
 .obtain⟨u,q1,q2⟩:=b.mu i v q;obtain⟨u',q3,q4⟩:=a.mu i u q1;exact⟨u',q3,q2.trans q4⟩
 .obtain⟨u,q1,q2⟩:=a.mu' i v q;obtain⟨u',q3,q4⟩:=b.mu' i u q1;exact⟨u',q3,q4.trans q2⟩
def Stp.mov(S:Sat X h0 ns e ae h)(a:Stp ns e h ns1 e1 h1):Mov (Oc X ns) (Oc X ns1) h h1:=λn o p q=>by
 have hlt:=(p_.mp q).1;have hm:¬ Mt ns e n:=λ⟨i,s,z,_⟩=>p.2 (aV.mpr ⟨i,z⟩);refine⟨⟨p.1,λz=>?_⟩,a.keep n o q hm⟩;obtain⟨i,z⟩:=aV.mp z;rcases a.nw i n z with z |z
 .exact p.2 (aV.mpr ⟨i,z⟩)
 .omega
def b9(q:h[n]?=some o):n<h.length:=(p_.mp q).1
def kH{n:Nat}{o:Ob}{g:AH}(q:h[n]?=some o):(h++g)[n]?=some o:=by rw[L_ (b9 q)];exact q
def v8:(h++[o])[h.length]?=some o:=by rw[O8 (o_ _),Qi];rfl
def SlR.mono(m:Mov P P' h h')(k:∀j o,n=some (some j)->h[j]?=some o->h'[j]?=some o)(r:SlR P h0 n d h s):SlR P' h0 n d h' s:=by
 cases s with
 |no=>exact r
 |sh v=>obtain⟨q,x,q1,q2⟩:=r;exact⟨q,x,q1,q2.mono m⟩
 |ow v=>obtain⟨j,o,q1,q2,q3,q4,q5,q6⟩:=r;exact⟨j,o,q1,q2,q3,k j o q1 q4,q5,q6.mono m⟩
 |lo v=>obtain⟨j,o,q1,q2,q3,q4,q5,q6⟩:=r;exact⟨j,o,q1,q2,q3,k j o q1 q4,q5,q6.mono m⟩
 |mu v=>obtain⟨j,o,q1,q2,q4,q5,q6⟩:=r;exact⟨j,o,q1,q2,k j o q1 q4,q5,q6.mono m⟩
 |lm v=>obtain⟨j,o,q1,q2,q4,q5,q6⟩:=r;exact⟨j,o,q1,q2,k j o q1 q4,q5,q6.mono m⟩
def Xn(X:Nat->Prop)(n:Nat):Nat->Prop:=λm=>X m\/m=n
def Sat.grow(S:Sat X h0 ns e ae h)(o:Ob):Sat (Xn X h.length) h0 ns e ae (h++[o]):=by
 have mv:Mov (Oc X ns) (Oc (Xn X h.length) ns) h (h++[o]):=λn o' p q=>⟨⟨λz=>by
  rcases z with z |z
  .exact p.1 z
  .have:=b9 q;omega,p.2⟩,kH q⟩
 refine⟨S.l1,S.l2,by rw[z_];have:=S.lh;omega,λn z=>?_,S.inj,λi n q z=>?_,λi s q=>(S.sl i s q).mono mv λj o' _ q'=>kH q'⟩
 .rw[z_];rcases z with z |z
  .have:=S.xl n z;omega
  .subst z;show h.length<h.length+1;omega
 .rcases z with z |z
  .exact S.nx i n q z
  .obtain⟨_,_,_,_,_,_,_,q',_⟩:=S.own q
   have:=b9 q';omega
def Sat.weak(S:Sat Y h0 ns e ae h)(hx:∀n,X n->Y n):Sat X h0 ns e ae h:=
 ⟨S.l1,S.l2,S.lh,λn z=>S.xl n (hx n z),S.inj,λi n q z=>S.nx i n q (hx n z),λi s q=>(S.sl i s q).mono (λn o p q=>⟨⟨λz=>p.1 (hx n z),p.2⟩,q⟩) λ_ _ _ q=>q⟩
def Stp.grow(o:Ob):Stp ns e h ns e (h++[o]):=⟨by rw[z_];omega,λ_ _ q _=>kH q,λ_ _ q=>.inl q,λ_ _ q _=>⟨q,rfl⟩,λ_ _ q _=>⟨q,rfl⟩,λ_ _ q=>⟨_,q,rfl⟩,λ_ _ q=>⟨_,q,rfl⟩⟩
end
section
variable{X:Nat->Prop}{h0:Nat}{ns ns':Ns}{e e':E3}{ae:AE}{h h' hs:AH}
def bB{α:Type}{l:List α}{i j:Nat}{a b:α}(hi:i<l.length)(q:(l.set i a)[j]?=some b):(j=i/\b=a)\/(j≠i/\l[j]?=some b):=by
 rw[Q7] at q;by_cases z:i=j
 .subst z;rw[if_pos rfl,if_pos hi] at q;exact .inl ⟨rfl,(K_ q).symm⟩
 .rw[if_neg z] at q;exact .inr ⟨λy=>z y.symm,q⟩
def bF{α:Type}{l:List α}{i:Nat}{a:α}(hi:i<l.length):(l.set i a)[i]?=some a:=by rw[Q7,if_pos rfl,if_pos hi]
def bo{α:Type}{l:List α}{i j:Nat}{a:α}(hi:j≠i):(l.set i a)[j]?=l[j]?:=by rw[Ry (λy=>hi y.symm)]
def fJ(p:Oc X ns n):Oc X (ns.set i none) n:=⟨p.1,λz=>by
 rcases List.mem_or_eq_of_mem_set z with z |z
 .exact p.2 z
 .cases z⟩
def Sat.putN(S:Sat X h0 ns e ae h)(hi:i<e.length)(q:SlR (Oc X (ns.set i none)) h0 (some none) (some d) h s):Sat X h0 (ns.set i none) (e.set i s) (ae.set i d) h:=by
 have hn:i<ns.length:=by rw[S.l2];exact hi
 have ha:i<ae.length:=by rw[S.l1];exact hi
 refine⟨by rw[I_,I_];exact S.l1,by rw[I_,I_];exact S.l2,S.lh,S.xl,λj k n q1 q2=>?_,λj n q1=>?_,λj s' q1=>?_⟩
 .rcases bB hn q1 with ⟨_,z⟩ |⟨_,z⟩
  .cases z
  rcases bB hn q2 with ⟨_,y⟩ |⟨_,y⟩
  .cases y
  exact S.inj j k n z y
 .rcases bB hn q1 with ⟨_,z⟩ |⟨_,z⟩
  .cases z
  exact S.nx j n z
 .rcases bB hi q1 with ⟨rfl,rfl⟩ |⟨z,q2⟩
  .rw[bF hn,bF ha];exact q
  .rw[bo z,bo z];exact (S.sl j s' q2).mono (λn o p q=>⟨fJ p,q⟩) λ_ _ _ q=>q
def Sat.putN'(S:Sat X h0 ns e ae h)(hi:i<e.length)(q:SlR (Oc X (ns.set i none)) h0 (some none) (ae[i]?) h s):Sat X h0 (ns.set i none) (e.set i s) ae h:=by
 have ha:i<ae.length:=by rw[S.l1];exact hi
 have:=S.putN hi (s:=s) (d:=ae[i]) (by rw[y_ ha] at q;exact q)
 rw[List.set_getElem_self] at this;exact this
def Sat.putO(S:Sat (Xn X n) h0 ns e ae h)(hx:¬ X n)(hi:i<e.length)(hn0:h0<=n)(eo:h[n]?=some o)(hf:bQ o)(r:Rc (Oc (Xn X n) ns) h o v):Sat X h0 (ns.set i (some n)) (e.set i (.ow v)) (ae.set i (some (.ref n))) h:=by
 have hn:i<ns.length:=by rw[S.l2];exact hi
 have ha:i<ae.length:=by rw[S.l1];exact hi
 have nn:∀j:Nat,ns[j]?≠some (some n):=λj q=>S.nx j n q (.inr rfl);have mv:Mov (Oc (Xn X n) ns) (Oc X (ns.set i (some n))) h h:=λm o' p q=>⟨⟨λz=>p.1 (.inl z),λz=>by
  rcases List.mem_or_eq_of_mem_set z with z |z
  .exact p.2 z
  .cases z;exact p.1 (.inr rfl)⟩,q⟩
 refine⟨by rw[I_,I_];exact S.l1,by rw[I_,I_];exact S.l2,S.lh,λm z=>S.xl m (.inl z),λj k m q1 q2=>?_,λj m q1 z=>?_,λj s' q1=>?_⟩
 .rcases bB hn q1 with ⟨z1,z⟩ |⟨z1,z⟩ <;> rcases bB hn q2 with ⟨y1,y⟩ |⟨y1,y⟩
  .rw[z1,y1]
  .cases z;exact absurd y (nn k)
  .cases y;exact absurd z (nn j)
  .exact S.inj j k m z y
 .rcases bB hn q1 with ⟨_,y⟩ |⟨_,y⟩
  .cases y;exact hx z
  .exact S.nx j m y (.inl z)
 .rcases bB hi q1 with ⟨rfl,rfl⟩ |⟨z,q2⟩
  .rw[bF hn,bF ha];exact⟨n,o,rfl,rfl,hn0,eo,hf,r.mono mv⟩
  .rw[bo z,bo z];exact (S.sl j s' q2).mono mv λ_ _ _ q=>q
noncomputable def Sl.pl:Sl->Bool
 |.no=>true
 |.sh _=>true
 |.ow _=>true
 |_=>false
def Stp.put(A:Stp ns0 e0 hs ns e h)(hi:i<e.length)(hx:∀n,x=some n->hs.length<=n)(q0:e[i]?=some s0)(p0:s0.pl=true)(p:s.pl=true)(l2:ns.length=e.length):Stp ns0 e0 hs (ns.set i x) (e.set i s) h:=by
 have hn:i<ns.length:=by rw[l2];exact hi
 refine⟨A.len,A.keep,λj n q=>?_,λj s' q hl=>?_,λj s' q hl=>?_,λj v q=>?_,λj v q=>?_⟩
 .rcases bB hn q with ⟨_,z⟩ |⟨_,z⟩
  .exact .inr (hx n z.symm)
  .exact A.nw j n z
 .obtain⟨q1,q2⟩:=A.lk j s' q hl;have z:j≠i:=λz=>by subst z;rw[q0] at q1;cases q1;cases s0 <;> first |cases p0;done |cases hl;done
  rw[bo z,bo z];exact⟨q1,q2⟩
 .rcases bB hi q with ⟨_,z⟩ |⟨z,q1⟩
  .subst z;cases s' <;> first |cases p;done |cases hl;done
  .rw[bo z];exact A.lk' j s' q1 hl
 .rcases bB hi q with ⟨_,z⟩ |⟨z,q1⟩
  .subst z;cases p
  .rw[bo z];exact A.mu j v q1
 .obtain⟨u,q1,q2⟩:=A.mu' j v q;have z:j≠i:=λz=>by subst z;rw[q0] at q1;cases q1;cases p0
  exact⟨u,by rw[bo z];exact q1,by rw[bo z];exact q2⟩
end
inductive Tm where
 |val (v:Val) |new (v:Val) |bor (i:Nat)
inductive R3(α:Type) where
 |ok (a:α) (e:E3) |exc (c:Str) (e:E3) |stuck
noncomputable def R3.bind{α β:Type}(r:R3 α)(f:α->E3->R3 β):R3 β:=match r with
 |.ok a e=>f a e
 |.exc c e=>.exc c e
 |.stuck=>.stuck
abbrev ME3:=E3->R3 Tm
abbrev MT3:=E3->R3 Bool
abbrev MA3:=E3->R3 (List Tm)
def Po{δ α:Type}(X:Nat->Prop)(h0:Nat)(ns:Ns)(e:E3)(ae:AE)(h:AH)(rel:Ns->E3->AH->δ->α->Prop)(r2:R δ):R3 α->Prop
 |.stuck=>True
 |.ok t e'=>∃d h' ns',r2=.ok d h'/\Stp ns e h ns' e' h'/\Sat X h0 ns' e' ae h'/\rel ns' e' h' d t
 |.exc c e'=>∃h' ns',r2=.exc c h'/\Stp ns e h ns' e' h'/\Sat X h0 ns' e' ae h'
def relE(X:Nat->Prop)(h0 L:Nat)(ae:AE)(ns:Ns)(e:E3)(h:AH)(d:D):Tm->Prop
 |.val v=>Rd (Oc X ns) h d v
 |.new v=>∃n o,d=.ref n/\L<=n/\¬ X n/\h[n]?=some o/\bQ o/\Sat (Xn X n) h0 ns e ae h/\Rc (Oc (Xn X n) ns) h o v
 |.bor i=>ae[i]?=some (some d)
def relT(_:Ns)(_:E3)(_:AH)(b c:Bool):Prop:=b=c
inductive TsR(X:Nat->Prop)(ns:Ns)(ae:AE)(h:AH):List D->List Tm->Prop where
 |nil:TsR X ns ae h [] []
 |val {d:D}{v:Val}{ds:List D}{ts:List Tm} (r:Rd (Oc X ns) h d v) (rr:TsR X ns ae h ds ts):TsR X ns ae h (d::ds) (.val v::ts)
 |bor {d:D}{i:Nat}{ds:List D}{ts:List Tm} (q:ae[i]?=some (some d)) (rr:TsR X ns ae h ds ts):TsR X ns ae h (d::ds) (.bor i::ts)
def relA(X:Nat->Prop)(ae:AE)(ns:Ns)(_:E3)(h:AH)(ds:List D)(ts:List Tm):Prop:=TsR X ns ae h ds ts
def RE(F:ME)(G:ME3):Prop:=∀X h0 L ns e ae h,Sat X h0 ns e ae h->L<=h.length->Po X h0 ns e ae h (relE X h0 L ae) (F ae h) (G e)
def RT(F:MT)(G:MT3):Prop:=∀X h0 ns e ae h,Sat X h0 ns e ae h->Po X h0 ns e ae h relT (F ae h) (G e)
def RA(F:MA)(G:MA3):Prop:=∀X h0 ns e ae h,Sat X h0 ns e ae h->Po X h0 ns e ae h (relA X ae) (F ae h) (G e)
section
variable{X:Nat->Prop}{h0 L:Nat}{ns ns':Ns}{e e':E3}{ae:AE}{h h':AH}
def Po.bind(S:Sat X h0 ns e ae h)(p:Po X h0 ns e ae h rel r2 r3)
 (k:∀d t h' ns' e',Stp ns e h ns' e' h'->Sat X h0 ns' e' ae h'->rel ns' e' h' d t->Po X h0 ns' e' ae h' rel' (f2 d h') (f3 t e')):Po X h0 ns e ae h rel' (r2.bind f2) (r3.bind f3):=by
 cases r3 with
 |stuck=>trivial
 |exc c e'=>obtain⟨h',ns',q,q1,q2⟩:=p;subst q;exact⟨h',ns',rfl,q1,q2⟩
 |
  ok t e'=>
  obtain⟨d,h',ns',q,q1,q2,q3⟩:=p;subst q
  have:=k d t h' ns' e' q1 q2 q3
  show Po X h0 ns e ae h rel' (f2 d h') (f3 t e');generalize f3 t e'=r at *;cases r with
  |stuck=>trivial
  |exc c e2=>obtain⟨h2,d_,y,y1,y2⟩:=this;exact⟨h2,d_,y,q1.trans S y1,y2⟩
  |ok t2 e2=>obtain⟨d2,h2,d_,y,y1,y2,y3⟩:=this;exact⟨d2,h2,d_,y,q1.trans S y1,y2,y3⟩
def Po.ret(S:Sat X h0 ns e ae h)(q:rel ns e h d t):Po X h0 ns e ae h rel (.ok d h) (.ok t e):=⟨d,h,ns,rfl,.refl,S,q⟩
def TsR.stp(S:Sat X h0 ns e ae h)(a:Stp ns e h ns' e' h')(r:TsR X ns ae h ds ts):TsR X ns' ae h' ds ts:=by
 induction r with
 |nil=>exact .nil
 |val r _ ih=>exact .val (r.mono (a.mov S)) ih
 |bor q _ ih=>exact .bor q ih
noncomputable def rs(e:E3):Tm->Option Val
 |.val v=>some v
 |.new v=>some v
 |.bor i=>(e[i]?).bind Sl.val
def Sat.bor(S:Sat X h0 ns e ae h){i:Nat}{d:D}{v:Val}(q:ae[i]?=some (some d))(r:(e[i]?).bind Sl.val=some v):ShR (Oc X ns) h d v:=by
 cases z:e[i]? with
 |none=>rw[z] at r;cases r
 |
  some s=>
  rw[z] at r;have y:=S.sl i s z;rw[q] at y;have r':s.val=some v:=r;cases s with
  |no=>cases r'
  |sh u=>cases r';obtain⟨_,x,e1,e2⟩:=y;cases e1;exact .inl e2
  |ow u=>cases r';obtain⟨m,o,_,e2,_,e3,_,e4⟩:=y;cases e2;exact .inr ⟨m,o,rfl,e3,e4⟩
  |lo u=>cases r';obtain⟨m,o,_,e2,_,e3,_,e4⟩:=y;cases e2;exact .inr ⟨m,o,rfl,e3,e4⟩
  |mu u=>cases r';obtain⟨m,o,_,e2,e3,_,e4⟩:=y;cases e2;exact .inr ⟨m,o,rfl,e3,e4⟩
  |lm u=>cases r';obtain⟨m,o,_,e2,e3,_,e4⟩:=y;cases e2;exact .inr ⟨m,o,rfl,e3,e4⟩
def relE.new(r:relE X h0 L ae ns e h d (.new v)):Rd (Oc X ns) h d v:=by obtain⟨n,o,rfl,_,hx,eo,_,S,rc⟩:=r;exact .cell ⟨hx,λz=>by obtain⟨i,z⟩:=aV.mp z;exact S.nx i n z (.inr rfl)⟩ eo (rc.mono λm o p q=>⟨⟨λz=>p.1 (.inl z),p.2⟩,q⟩)
def relE.sh{d:D}{t:Tm}{v:Val}(S:Sat X h0 ns e ae h)(r:relE X h0 L ae ns e h d t)(q:rs e t=some v):ShR (Oc X ns) h d v:=by
 cases t with
 |val u=>cases q;exact .inl r
 |new u=>cases q;exact .inl r.new
 |bor i=>exact S.bor r q
def relE.stp(S:Sat X h0 ns e ae h)(a:Stp ns e h ns' e' h')(r:relE X h0 L ae ns e h d t)(hn:∀v,t ≠ .new v):relE X h0 L ae ns' e' h' d t:=by
 cases t with
 |val u=>exact Rd.mono (a.mov S) r
 |new u=>exact absurd rfl (hn u)
 |bor i=>exact r
noncomputable def Tm.drop:Tm->Tm
 |.new v=>.val v
 |t=>t
def relE.drop(r:relE X h0 L ae ns e h d t):relE X h0 L ae ns e h d t.drop/\∀v,t.drop ≠ .new v:=by
 cases t with
 |val u=>exact⟨r,λ_ z=>nomatch z⟩
 |new u=>exact⟨r.new,λ_ z=>nomatch z⟩
 |bor i=>exact⟨r,λ_ z=>nomatch z⟩
noncomputable def rss(e:E3):List Tm->Option (List Val)
 | []=>some []
 |t::ts=>match rs e t,rss e ts with
  |some v,some vs=>some (v::vs)
  |_,_=>none
def TsR.sh{ds:List D}{ts:List Tm}{vs:List Val}(S:Sat X h0 ns e ae h)(r:TsR X ns ae h ds ts)(q:rss e ts=some vs):ShRs (Oc X ns) h ds vs:=by
 induction r generalizing vs with
 |nil=>cases q;exact .nil
 |
  val r _ ih=>
  unfold rss at q;split at q
  .rename_i e1 e2;cases q;cases e1;exact .cons (.inl r) (ih e2)
  .cases q
 |
  bor q' _ ih=>
  unfold rss at q;split at q
  .rename_i e1 e2;cases q;exact .cons (S.bor q' e1) (ih e2)
  .cases q
end
inductive Bv where
 |val (v:Val) |new (v:Val) |stuck
def BvR(P:Nat->Prop)(h:AH)(r:R D):Bv->Prop
 |.val v=>∃d,r=.ok d h/\Rd P h d v
 |.new v=>∃o,r=.ok (.ref h.length) (h++[o])/\bQ o/\Rc P h o v
 |.stuck=>True
noncomputable def Bv.at(b:Bv)(e:E3):R3 Tm:=match b with
 |.val v=>.ok (.val v) e
 |.new v=>.ok (.new v) e
 |.stuck=>.stuck
def BvR.po(S:Sat X h0 ns e ae h)(hl:L<=h.length)(q:BvR (Oc X ns) h r b):Po X h0 ns e ae h (relE X h0 L ae) r (b.at e):=by
 cases b with
 |stuck=>trivial
 |val v=>obtain⟨d,rfl,r⟩:=q;exact Po.ret S r
 |
  new v=>
  obtain⟨o,rfl,hf,r⟩:=q;have S':=S.grow o;refine⟨_,_,ns,rfl,.grow o,S'.weak λn z=>.inl z,h.length,o,rfl,hl,λz=>?_,v8,hf,S',r.mono λn o' p q=>⟨⟨λz=>?_,p.2⟩,kH q⟩⟩
  .have:=S.xl _ z;omega
  .rcases z with z |z
   .exact p.1 z
   .have:=b9 q;omega
def RU(g2:D->AH->R D)(g3:Val->Bv):Prop:=∀P h d v,ShR P h d v->BvR P h (g2 d h) (g3 v)
def RO(g2:D->D->AH->R D)(g3:Val->Val->Bv):Prop:=∀P h d1 d2 v1 v2,ShR P h d1 v1->ShR P h d2 v2->BvR P h (g2 d1 d2 h) (g3 v1 v2)
def RFn(g2:Fn)(g3:List Val->Bv):Prop:=∀P h ds vs,ShRs P h ds vs->BvR P h (g2 ds h) (g3 vs)
noncomputable def C0(i:Nat):ME3:=λe=>match e[i]? with
 |some (.sh v)=>.ok (.val v) e
 |some .no=>.stuck
 |some _=>.ok (.bor i) e
 |none=>.stuck
noncomputable def vC(v:Val):ME3:=λe=>.ok (.val v) e
noncomputable def vUn(g:Val->Bv)(F:ME3):ME3:=λe=>(F e).bind λt e1=>match rs e1 t with
 |some v=>(g v).at e1
 |none=>.stuck
noncomputable def vOp(g:Val->Val->Bv)(F G:ME3):ME3:=λe=>(F e).bind λt1 e1=>(G e1).bind λt2 e2=>match rs e2 t1.drop,rs e2 t2 with
 |some v1,some v2=>(g v1 v2).at e2
 |_,_=>.stuck
noncomputable def oA:MA3:=λe=>.ok [] e
noncomputable def Eg(F:ME3)(A:MA3):MA3:=λe=>(F e).bind λt e1=>(A e1).bind λts e2=>.ok (t.drop::ts) e2
noncomputable def vFn(g:List Val->Bv)(A:MA3):ME3:=λe=>(A e).bind λts e1=>match rss e1 ts with
 |some vs=>(g vs).at e1
 |none=>.stuck
noncomputable def cH(e:E3):Tm->Option (E3×Val)
 |.val v=>some (e,v)
 |.new v=>some (e,v)
 |.bor i=>match e[i]? with
  |some (.sh v)=>some (e,v)
  |some (.ow v)=>some (e.set i (.sh v),v)
  |_=>none
noncomputable def dem(e:E3):List Tm->Option (E3×List Val)
 | []=>some (e,[])
 |t::ts=>match cH e t with
  |some (e1,v)=>match dem e1 ts with
   |some (e2,vs)=>some (e2,v::vs)
   |none=>none
  |none=>none
noncomputable def vTup(A:MA3):ME3:=λe=>(A e).bind λts e1=>match dem e1 ts with
 |some (e2,vs)=>if vs.length<=16777216 then .ok (.val (.tup vs)) e2 else .stuck
 |none=>.stuck
noncomputable def vLst(A:MA3):ME3:=λe=>(A e).bind λts e1=>match dem e1 ts with
 |some (e2,vs)=>if vs.length<=16777216 then .ok (.new (.lst vs)) e2 else .stuck
 |none=>.stuck
noncomputable def bOf:Option Val->Option Bool
 |some (.bl b)=>some b
 |_=>none
noncomputable def vAnd(F G:ME3):ME3:=λe=>(F e).bind λt e1=>match bOf (rs e1 t) with
 |some true=>G e1
 |some false=>.ok (.val (.bl false)) e1
 |none=>.stuck
noncomputable def vNot(F:ME3):ME3:=λe=>(F e).bind λt e1=>match bOf (rs e1 t) with
 |some b=>.ok (.val (.bl (!b))) e1
 |none=>.stuck
noncomputable def cOf(F:ME3):MT3:=λe=>(F e).bind λt e1=>match bOf (rs e1 t) with
 |some b=>.ok b e1
 |none=>.stuck
noncomputable def cAn(c d:MT3):MT3:=λe=>(c e).bind λb e1=>if b=true then d e1 else .ok false e1
noncomputable def cO(c d:MT3):MT3:=λe=>(c e).bind λb e1=>if b=true then .ok true e1 else d e1
noncomputable def cNo(c:MT3):MT3:=λe=>(c e).bind λb e1=>.ok (!b) e1
noncomputable def cY:MT3:=λe=>.ok true e
noncomputable def mj:Val->Option Bool
 |.non=>some false
 |.bl b=>some b
 |.int i=>some (i != 0)
 |.tup xs=>some (!xs.isEmpty)
 |.lst xs=>some (!xs.isEmpty)
 |.kl xs=>some (!xs.isEmpty)
 |_=>none
noncomputable def cTr(F:ME3):MT3:=λe=>(F e).bind λt e1=>match (rs e1 t).bind mj with
 |some b=>.ok b e1
 |none=>.stuck
section
variable{F G:ME}{F3 G3:ME3}{A:MA}{A3:MA3}{c d:MT}{c3 d3:MT3}
def JS(i:Nat):RE (bq i) (C0 i):=λX h0 L ns e ae h S hl=>by
 unfold C0;cases q:e[i]? with
 |none=>trivial
 |
  some s=>
  have y:=S.sl i s q;cases s with
  |no=>trivial
  |sh v=>obtain⟨_,x,e1,e2⟩:=y;unfold bq;rw[e1];exact Po.ret S e2
  |ow v=>obtain⟨m,o,_,e2,_⟩:=y;unfold bq;rw[e2];exact Po.ret S e2
  |lo v=>obtain⟨m,o,_,e2,_⟩:=y;unfold bq;rw[e2];exact Po.ret S e2
  |mu v=>obtain⟨m,o,_,e2,_⟩:=y;unfold bq;rw[e2];exact Po.ret S e2
  |lm v=>obtain⟨m,o,_,e2,_⟩:=y;unfold bq;rw[e2];exact Po.ret S e2
def rl{d:D}{v:Val}(r:∀P h,Rd P h d v):RE (eC d) (vC v):=λX h0 L ns e ae h S hl=>Po.ret S (r _ _)
def Oe(hg:RU g g3)(hF:RE F F3):RE (eUn g F) (vUn g3 F3):=λX h0 L ns e ae h S hl=>
 Po.bind S (hF X h0 L ns e ae h S hl) λd t h1 ns1 e1 a1 S1 r1=>by
  try dsimp only
  split
  .rename_i v q;exact BvR.po S1 (F_ hl a1.len) (hg _ _ _ _ (r1.sh S1 q))
  .trivial
def Nn(hg:RO g g3)(hF:RE F F3)(hG:RE G G3):RE (eOp g F G) (vOp g3 F3 G3):=λX h0 L ns e ae h S hl=>
 Po.bind S (hF X h0 L ns e ae h S hl) λd1 t1 h1 ns1 e1 a1 S1 r1=>Po.bind S1 (hG X h0 L ns1 e1 ae h1 S1 (F_ hl a1.len)) λd2 t2 h2 d_ e2 a2 S2 r2=>by
  try dsimp only
  split
  .rename_i v1 v2 q1 q2;obtain⟨r1',hn⟩:=r1.drop;exact BvR.po S2 (F_ hl (F_ a1.len a2.len)) (hg _ _ _ _ _ _ ((r1'.stp S1 a2 hn).sh S2 q1) (r2.sh S2 q2))
  .trivial
def Au:RA jd oA:=λX h0 ns e ae h S=>Po.ret S .nil
def GD(hF:RE F F3)(hA:RA A A3):RA (gX F A) (Eg F3 A3):=λX h0 ns e ae h S=>
 Po.bind S (hF X h0 0 ns e ae h S (M_ _)) λd1 t1 h1 ns1 e1 a1 S1 r1=>Po.bind S1 (hA X h0 ns1 e1 ae h1 S1) λds ts h2 d_ e2 a2 S2 r2=>by
  obtain⟨r1',hn⟩:=r1.drop;have r3:=r1'.stp S1 a2 hn;refine Po.ret S2 ?_;show TsR X d_ ae h2 (d1::ds) (t1.drop::ts);generalize t1.drop=t at *;cases t with
  |val v=>exact .val r3 r2
  |new v=>exact absurd rfl (hn v)
  |bor i=>exact .bor r3 r2
def OV(hg:RFn g g3)(hA:RA A A3):RE (eFn g A) (vFn g3 A3):=λX h0 L ns e ae h S hl=>
 Po.bind S (hA X h0 ns e ae h S) λds ts h1 ns1 e1 a1 S1 r1=>by
  try dsimp only
  split
  .rename_i vs q;exact BvR.po S1 (F_ hl a1.len) (hg _ _ _ _ (TsR.sh S1 r1 q))
  .trivial
def HJ(S:Sat X h0 ns e ae h)(q:e[i]?=some (.ow v)):∃n,ae[i]?=some (some (.ref n))/\Sat X h0 (ns.set i none) (e.set i (.sh v)) ae h/\Stp ns e h (ns.set i none) (e.set i (.sh v)) h/\Rd (Oc X (ns.set i none)) h (.ref n) v:=by
 obtain⟨n,o,q1,q2,_,q3,_,q4⟩:=S.sl i _ q;have hi:=(p_.mp q).1;have hn:i<ns.length:=by rw[S.l2];exact hi
 have r:Rd (Oc X (ns.set i none)) h (.ref n) v:=.cell ⟨S.nx i n q1,λz=>by
  obtain⟨j,z⟩:=aV.mp z;rcases bB hn z with ⟨_,y⟩ |⟨y,z⟩
  .cases y
  .exact y (S.inj j i n z q1)⟩ q3 (q4.mono λm o p q=>⟨fJ p,q⟩)
 exact⟨n,q2,S.putN' hi ⟨rfl,_,q2,r⟩,Stp.refl.put (x:=none) hi (λ_ z=>by cases z) q rfl rfl S.l2,r⟩
def fI{X:Nat->Prop}{h0 L:Nat}{ns:Ns}{e e':E3}{ae:AE}{h:AH}{d:D}{t:Tm}{v:Val}(S:Sat X h0 ns e ae h)(r:relE X h0 L ae ns e h d t)(q:cH e t=some (e',v)):∃ns',Sat X h0 ns' e' ae h/\Stp ns e h ns' e' h/\Rd (Oc X ns') h d v:=by
 cases t with
 |val u=>cases q;exact⟨ns,S,.refl,r⟩
 |new u=>cases q;exact⟨ns,S,.refl,r.new⟩
 |
  bor i=>
  unfold cH at q;dsimp only at q;have r':ae[i]?=some (some d):=r;split at q
  .rename_i u q1;cases q;obtain⟨_,x,e1,e2⟩:=S.sl i _ q1;rw[r'] at e1;cases e1;exact⟨ns,S,.refl,e2⟩
  .rename_i u q1;cases q;obtain⟨n,e1,S',a',e2⟩:=HJ S q1;rw[r'] at e1;cases e1;exact⟨_,S',a',e2⟩
  .cases q
def gy:∀{ds:List D}{vs:List Val}{ns:Ns}{e e':E3},Sat X h0 ns e ae h->TsR X ns ae h ds ts->dem e ts=some (e',vs)->∃ns',Sat X h0 ns' e' ae h/\Stp ns e h ns' e' h/\Rds (Oc X ns') h ds vs:=by
 induction ts with
 |nil=>intro ds vs ns e e' S r q;cases r;cases q;exact⟨ns,S,.refl,.nil⟩
 |
  cons t ts ih=>
  intro ds vs ns e e' S r q;unfold dem at q;split at q
  .rename_i e1 v q1;split at q
   .rename_i e2 vs' q2;cases q;have hr:∃d ds',ds=d::ds'/\relE X h0 0 ae ns e h d t/\TsR X ns ae h ds' ts:=by
     cases r with
     |val r rr=>exact⟨_,_,rfl,r,rr⟩
     |bor r rr=>exact⟨_,_,rfl,r,rr⟩
    obtain⟨d,ds',rfl,hr⟩:=hr;obtain⟨ns1,S1,a1,r1⟩:=fI S hr.1 q1;obtain⟨d_,S2,a2,r2⟩:=ih S1 (hr.2.stp S a1) q2;exact⟨d_,S2,a1.trans S a2,.cons (r1.mono (a2.mov S1)) r2⟩
   .cases q
  .cases q
def Lj(hA:RA A A3):RE (eFn mT A) (vTup A3):=λX h0 L ns e ae h S hl=>
 Po.bind S (hA X h0 ns e ae h S) λds ts h1 ns1 e1 a1 S1 r1=>by
  try dsimp only
  split
  .rename_i e2 vs q;split
   .rename_i hv;obtain⟨d_,S2,a2,r2⟩:=gy S1 r1 q;exact⟨.tup ds,h1,d_,by unfold mT;rw[if_pos (by rw[r2.len];exact hv)],a2,S2,.tup r2⟩
   .trivial
  .trivial
def Ma(hA:RA A A3):RE (eFn dH A) (vLst A3):=λX h0 L ns e ae h S hl=>
 Po.bind S (hA X h0 ns e ae h S) λds ts h1 ns1 e1 a1 S1 r1=>by
  try dsimp only
  split
  .rename_i e2 vs q;split
   .rename_i hv;obtain⟨d_,S2,a2,r2⟩:=gy S1 r1 q;have p:=BvR.po (r:=dH ds h1) (b:=.new (.lst vs)) S2 (F_ hl a1.len) ⟨.lst ds,by unfold dH;rw[if_pos (by rw[r2.len];exact hv)],trivial,.lst r2⟩;obtain⟨d,h',ns',y,y1,y2,y3⟩:=p;exact⟨d,h',ns',y,a2.trans S1 y1,y2,y3⟩
   .trivial
  .trivial
def mH(S1:Sat X h0 ns1 e1 ae h1)(r1:relE X h0 L ae ns1 e1 h1 d1 t1)(q:bOf (rs e1 t1)=some b):d1=.bl b:=by
 unfold bOf at q;split at q
 .rename_i b' q';cases q;exact (r1.sh S1 q').bl
 .cases q
def Io(hF:RE F F3)(hG:RE G G3):RE (B7 F G) (vAnd F3 G3):=λX h0 L ns e ae h S hl=>
 Po.bind S (hF X h0 L ns e ae h S hl) λd1 t1 h1 ns1 e1 a1 S1 r1=>by
  try dsimp only
  split
  .rename_i q;rw[mH S1 r1 q];exact hG X h0 L ns1 e1 ae h1 S1 (F_ hl a1.len)
  .rename_i q;rw[mH S1 r1 q];exact Po.ret S1 (.bl false)
  .trivial
def JJ(hF:RE F F3):RE (AZ F) (vNot F3):=λX h0 L ns e ae h S hl=>
 Po.bind S (hF X h0 L ns e ae h S hl) λd1 t1 h1 ns1 e1 a1 S1 r1=>by
  try dsimp only
  split
  .rename_i q;rw[mH S1 r1 q];exact Po.ret S1 (.bl _)
  .trivial
def Nz(hF:RE F F3):RT (tOf F) (cOf F3):=λX h0 ns e ae h S=>
 Po.bind S (hF X h0 0 ns e ae h S (M_ _)) λd1 t1 h1 ns1 e1 a1 S1 r1=>by
  try dsimp only
  split
  .rename_i q;rw[mH S1 r1 q];exact Po.ret S1 rfl
  .trivial
def Nk(hc:RT c c3)(hd:RT d d3):RT (tAn c d) (cAn c3 d3):=λX h0 ns e ae h S=>
 Po.bind S (hc X h0 ns e ae h S) λb b' h1 ns1 e1 a1 S1 r1=>by
  cases r1;try dsimp only
  split
  .exact hd X h0 ns1 e1 ae h1 S1
  .exact Po.ret S1 rfl
def rt_o(hc:RT c c3)(hd:RT d d3):RT (tO c d) (cO c3 d3):=λX h0 ns e ae h S=>
 Po.bind S (hc X h0 ns e ae h S) λb b' h1 ns1 e1 a1 S1 r1=>by
  cases r1;try dsimp only
  split
  .exact Po.ret S1 rfl
  .exact hd X h0 ns1 e1 ae h1 S1
def OU(hc:RT c c3):RT (tNo c) (cNo c3):=λX h0 ns e ae h S=>
 Po.bind S (hc X h0 ns e ae h S) λb b' h1 ns1 e1 a1 S1 r1=>by cases r1;exact Po.ret S1 rfl
def rt_y:RT tY cY:=λX h0 ns e ae h S=>Po.ret S rfl
def E8{P:Nat->Prop}{h:AH}{d:D}{v:Val}{b:Bool}(r:ShR P h d v)(q:mj v=some b):uo d h=.ok b h:=by
 have emp:∀{ds:List D}{vs:List Val},Rds P h ds vs->ds.isEmpty=vs.isEmpty:=λr=>by cases r <;> rfl
 cases v with
 |non=>cases q;rw[r.non];rfl
 |bl b=>cases q;rw[r.bl];rfl
 |int i=>cases q;rw[r.int];rfl
 |tup xs=>cases q;obtain⟨ds,rfl,r2⟩:=r.tup;show R.ok (!ds.isEmpty) h=_;rw[emp r2]
 |lst xs=>cases q;obtain⟨n,ds,rfl,_,e1,r1⟩:=r.lst;rw[<- emp r1];unfold uo dn;dsimp only;rw[e1]
 |
  kl xs=>
  cases q;obtain⟨ds,r2,rfl |⟨n,rfl,e1⟩⟩:=r.kl
  .show R.ok (!ds.isEmpty) h=_;rw[emp r2]
  .rw[<- emp r2];unfold uo dn;dsimp only;rw[e1]
 |_=>cases q
def MK(hF:RE F F3):RT (tTr F) (cTr F3):=λX h0 ns e ae h S=>
 Po.bind S (hF X h0 0 ns e ae h S (M_ _)) λd1 t1 h1 ns1 e1 a1 S1 r1=>by
  try dsimp only
  split
  .rename_i b q;obtain⟨v,q1,q2⟩:=Pg.mp q;rw[E8 (r1.sh S1 q1) q2];exact Po.ret S1 rfl
  .trivial
end
inductive Rt where
 |val (v:Val) |new (v:Val) |par (i:Nat)
inductive SR3 where
 |nx (e:E3) |rt (r:Rt) (e:E3) |bk (e:E3) |ct (e:E3) |exc (c:Str) (e:E3) |stuck
abbrev MS3:=E3->SR3
def RtR(X:Nat->Prop)(h0:Nat)(ns:Ns)(e:E3)(ae:AE)(h:AH)(d:D):Rt->Prop
 |.val v=>Sat X h0 ns e ae h/\Rd (Oc X ns) h d v
 |.new v=>∃n o,d=.ref n/\h0<=n/\¬ X n/\h[n]?=some o/\bQ o/\Sat (Xn X n) h0 ns e ae h/\Rc (Oc (Xn X n) ns) h o v
 |.par i=>Sat X h0 ns e ae h/\ae[i]?=some (some d)/\∃v,e[i]?=some (.mu v)
def PoS(X:Nat->Prop)(h0:Nat)(ns:Ns)(e:E3)(h:AH)(r2:SR):SR3->Prop
 |.stuck=>True
 |.nx e'=>∃bn h' ns',r2=.nx bn h'/\Stp ns e h ns' e' h'/\Sat X h0 ns' e' bn h'
 |.bk e'=>∃bn h' ns',r2=.bk bn h'/\Stp ns e h ns' e' h'/\Sat X h0 ns' e' bn h'
 |.ct e'=>∃bn h' ns',r2=.ct bn h'/\Stp ns e h ns' e' h'/\Sat X h0 ns' e' bn h'
 |.exc c e'=>∃bn h' ns',r2=.exc c bn h'/\Stp ns e h ns' e' h'/\Sat X h0 ns' e' bn h'
 |.rt r e'=>∃d bn h' ns',r2=.rt d h'/\Stp ns e h ns' e' h'/\RtR X h0 ns' e' bn h' d r
def RS(F:MS)(G:MS3):Prop:=∀X h0 ns e ae h,Sat X h0 ns e ae h->PoS X h0 ns e h (F ae h) (G e)
noncomputable def R3.toS{α:Type}(r:R3 α)(f:α->E3->SR3):SR3:=match r with
 |.ok a e=>f a e
 |.exc c e=>.exc c e
 |.stuck=>.stuck
noncomputable def SR3.then(r:SR3)(f:E3->SR3):SR3:=match r with
 |.nx e=>f e
 |r=>r
section
variable{X:Nat->Prop}{h0 L:Nat}{ns ns1 ns':Ns}{e e1 e':E3}{ae:AE}{h h1 h':AH}
def PoS.after(S:Sat X h0 ns e ae h)(a:Stp ns e h ns1 e1 h1)(p:PoS X h0 ns1 e1 h1 r2 r3):PoS X h0 ns e h r2 r3:=by
 cases r3 with
 |stuck=>trivial
 |nx e'=>obtain⟨bn,h',ns',q,q1,q2⟩:=p;exact⟨bn,h',ns',q,a.trans S q1,q2⟩
 |bk e'=>obtain⟨bn,h',ns',q,q1,q2⟩:=p;exact⟨bn,h',ns',q,a.trans S q1,q2⟩
 |ct e'=>obtain⟨bn,h',ns',q,q1,q2⟩:=p;exact⟨bn,h',ns',q,a.trans S q1,q2⟩
 |exc c e'=>obtain⟨bn,h',ns',q,q1,q2⟩:=p;exact⟨bn,h',ns',q,a.trans S q1,q2⟩
 |rt r e'=>obtain⟨d,bn,h',ns',q,q1,q2⟩:=p;exact⟨d,bn,h',ns',q,a.trans S q1,q2⟩
def PoS.toS(p:Po X h0 ns e ae h rel r2 r3)
 (k:∀d t h' ns' e',Stp ns e h ns' e' h'->Sat X h0 ns' e' ae h'->rel ns' e' h' d t->PoS X h0 ns e h (f2 d h') (f3 t e')):PoS X h0 ns e h (r2.toS ae f2) (r3.toS f3):=by
 cases r3 with
 |stuck=>trivial
 |exc c e'=>obtain⟨h',ns',rfl,q1,q2⟩:=p;exact⟨ae,h',ns',rfl,q1,q2⟩
 |ok t e'=>obtain⟨d,h',ns',rfl,q1,q2,q3⟩:=p;exact k d t h' ns' e' q1 q2 q3
def PoS.nx(a:Stp ns e h ns' e' h')(S:Sat X h0 ns' e' bn h'):PoS X h0 ns e h (.nx bn h') (.nx e'):=⟨bn,h',ns',rfl,a,S⟩
end
noncomputable def wNx:MS3:=λe=>.nx e
noncomputable def wBk:MS3:=λe=>.bk e
noncomputable def DR:MS3:=λe=>.rt (.val .non) e
noncomputable def wSeq(F G:MS3):MS3:=λe=>(F e).then G
noncomputable def D7(F:ME3):MS3:=λe=>(F e).toS λ_ e1=>.nx e1
noncomputable def wIf(c:MT3)(F G:MS3):MS3:=λe=>(c e).toS λb e1=>if b=true then F e1 else G e1
noncomputable def n9(t:Tm)(e:E3):SR3:=match t with
 |.val v=>.rt (.val v) e
 |.new v=>.rt (.new v) e
 |.bor i=>match e[i]? with
  |some (.sh v)=>.rt (.val v) e
  |some (.ow v)=>.rt (.new v) (e.set i .no)
  |some (.mu _)=>.rt (.par i) e
  |_=>.stuck
def wRet(F:ME3):MS3:=λe=>(F e).toS n9
noncomputable def ik(o:Bool)(i:Nat)(t:Tm)(e:E3):SR3:=match e[i]? with
 |some s0=>if s0.pl=true then (match t with
  |.val v=>.nx (e.set i (.sh v))
  |.new v=>.nx (e.set i (if o=true then .ow v else .sh v))
  |.bor j=>match cH e (.bor j) with
   |some (e2,v)=>.nx (e2.set i (.sh v))
   |none=>.stuck) else .stuck
 |none=>.stuck
def wAsg(o:Bool)(i:Nat)(F:ME3):MS3:=λe=>(F e).toS (ik o i)
abbrev MG3:=Val->E3->Option E3
abbrev jJ:=List Val->E3->Option E3
noncomputable def pN(i:Nat):MG3:=λv e=>match e[i]? with
 |some s=>if s.pl=true then some (e.set i (.sh v)) else none
 |none=>none
noncomputable def psN:jJ:=λvs e=>match vs with
 | []=>some e
 |_=>none
noncomputable def psC(g:MG3)(u:jJ):jJ:=λvs e=>match vs with
 |v::r=>(g v e).bind λe1=>u r e1
 | []=>none
noncomputable def pT(n:Nat)(u:jJ):MG3:=λv e=>match v with
 |.tup vs=>if vs.length=n then u vs e else none
 |_=>none
noncomputable def DY(F:ME3)(g:MG3):MS3:=λe=>(F e).toS λt e1=>match cH e1 t with
 |some (e2,v)=>match g v e2 with
  |some e3=>.nx e3
  |none=>.stuck
 |none=>.stuck
noncomputable def wPar(i j:Nat)(A:MA3):MS3:=λe=>(A e).toS λts e1=>match dem e1 ts with
 |some (e2,[v,u])=>match (pN i v e2).bind (pN j u) with
  |some e3=>.nx e3
  |none=>.stuck
 |_=>.stuck
noncomputable def Dl(i:Nat)(g:Val->Val->Bv)(F:ME3):MS3:=λe=>match e[i]? with
 |some (.sh x)=>(F e).toS λt e1=>match rs e1 t with
  |some y=>match g x y with
   |.val z=>match pN i z e1 with
    |some e2=>.nx e2
    |none=>.stuck
   |_=>.stuck
  |none=>.stuck
 |_=>.stuck
noncomputable def AO(c:Str)(A:MA3):MS3:=λe=>(A e).toS λts e1=>if ts.length<=16777216 then .exc c e1 else .stuck
def RG(g2:MG)(g3:MG3):Prop:=∀X h0 ns e ae h d v e',Sat X h0 ns e ae h->Rd (Oc X ns) h d v->g3 v e=some e'->∃bn ns',g2 d ae h=.ok bn h/\Sat X h0 ns' e' bn h/\Stp ns e h ns' e' h
def RGs(g2:MGs)(g3:jJ):Prop:=∀X h0 ns e ae h ds vs e',Sat X h0 ns e ae h->Rds (Oc X ns) h ds vs->g3 vs e=some e'->∃bn ns',g2 ds ae h=.ok bn h/\Sat X h0 ns' e' bn h/\Stp ns e h ns' e' h
section
variable{F G:ME}{F3 G3:ME3}{A:MA}{A3:MA3}{c d:MT}{c3 d3:MT3}{U V:MS}{U3 V3:MS3}{g:MG}{g3:MG3}{gs:MGs}{gs3:jJ}
def MD:RS sNx wNx:=λX h0 ns e ae h S=>.nx .refl S
def Nt:RS sBk wBk:=λX h0 ns e ae h S=>⟨ae,h,ns,rfl,.refl,S⟩
def F6:RS xp DR:=λX h0 ns e ae h S=>⟨.non,ae,h,ns,rfl,.refl,S,.non⟩
def ID(hU:RS U U3)(hV:RS V V3):RS (Dh U V) (wSeq U3 V3):=λX h0 ns e ae h S=>by
 have p:=hU X h0 ns e ae h S;show PoS X h0 ns e h ((U ae h).then V) ((U3 e).then V3);generalize U3 e=r at *;cases r with
 |stuck=>trivial
 |nx e'=>obtain⟨bn,h',ns',q,q1,q2⟩:=p;rw[q];exact PoS.after S q1 (hV X h0 ns' e' bn h' q2)
 |bk e'=>obtain⟨bn,h',ns',q,q1,q2⟩:=p;rw[q];exact⟨bn,h',ns',rfl,q1,q2⟩
 |ct e'=>obtain⟨bn,h',ns',q,q1,q2⟩:=p;rw[q];exact⟨bn,h',ns',rfl,q1,q2⟩
 |exc c e'=>obtain⟨bn,h',ns',q,q1,q2⟩:=p;rw[q];exact⟨bn,h',ns',rfl,q1,q2⟩
 |rt r e'=>obtain⟨d,bn,h',ns',q,q1,q2⟩:=p;rw[q];exact⟨d,bn,h',ns',rfl,q1,q2⟩
def GN(hF:RE F F3):RS (yf F) (D7 F3):=λX h0 ns e ae h S=>PoS.toS (hF X h0 0 ns e ae h S (M_ _)) λd t h1 ns1 e1 a1 S1 r1=>.nx a1 S1
def OH(hc:RT c c3)(hU:RS U U3)(hV:RS V V3):RS (sIf c U V) (wIf c3 U3 V3):=λX h0 ns e ae h S=>PoS.toS (hc X h0 ns e ae h S) λb b' h1 ns1 e1 a1 S1 r1=>by
 cases r1;try dsimp only
 split
 .exact PoS.after S a1 (hU X h0 ns1 e1 ae h1 S1)
 .exact PoS.after S a1 (hV X h0 ns1 e1 ae h1 S1)
def Kd(hF:RE F F3):RS (Co F) (wRet F3):=λX h0 ns e ae h S=>PoS.toS (hF X h0 h0 ns e ae h S S.lh) λd t h1 ns1 e1 a1 S1 r1=>by
 cases t with
 |val v=>exact⟨d,ae,h1,ns1,rfl,a1,S1,r1⟩
 |new v=>obtain⟨n,o,q⟩:=r1;exact⟨d,ae,h1,ns1,rfl,a1,n,o,q⟩
 |
  bor i=>
  unfold n9;dsimp only;have r':ae[i]?=some (some d):=r1;split
  .rename_i v q;obtain⟨_,x,e1',e2⟩:=S1.sl i _ q;rw[r'] at e1';cases e1';exact⟨d,ae,h1,ns1,rfl,a1,S1,e2⟩
  .rename_i v q;obtain⟨n,o,q1,q2,q3,q4,q5,q6⟩:=S1.sl i _ q;rw[r'] at q2;cases q2;have hi:=(p_.mp q).1;have hn:i<ns1.length:=by rw[S1.l2];exact hi
   have mv:Mov (Oc X ns1) (Oc (Xn X n) (ns1.set i none)) h1 h1:=λm o' p q'=>⟨⟨λz=>by
    rcases z with z |rfl
    .exact p.1 z
    .exact p.2 (aV.mpr ⟨i,q1⟩),(fJ p).2⟩,q'⟩
   have S2:=S1.putN' hi (s:=.no) rfl;refine⟨.ref n,ae,h1,ns1.set i none,rfl,a1.put (x:=none) hi (λ_ z=>by cases z) q rfl rfl S1.l2,n,o,rfl,q3,S1.nx i n q1,q4,q5,⟨S2.l1,S2.l2,S2.lh,λm z=>?_,S2.inj,λj m qj z=>?_,λj s qj=>?_⟩,q6.mono mv⟩
   .rcases z with z |rfl
    .exact S2.xl m z
    .exact b9 q4
   .rcases z with z |rfl
    .exact S2.nx j m qj z
    .rcases bB hn qj with ⟨_,y⟩ |⟨y,z⟩
     .cases y
     .exact y (S1.inj j i _ z q1)
   .rcases bB hi qj with ⟨rfl,rfl⟩ |⟨z,qj'⟩
    .rw[bF hn];rfl
    .rw[bo z];exact (S1.sl j s qj').mono mv λ_ _ _ q=>q
  .rename_i v q;exact⟨d,ae,h1,ns1,rfl,a1,S1,r',v,q⟩
  .trivial
def Kw(o:Bool)(i:Nat)(hF:RE F F3):RS (ir F (gN i)) (wAsg o i F3):=λX h0 ns e ae h S=>PoS.toS (hF X h0 h.length ns e ae h S (o_ _)) λd t h1 ns1 e1 a1 S1 r1=>by
 show PoS X h0 ns e h (.nx (ae.set i (some d)) h1) (ik o i t e1);unfold ik;split
 .rename_i s0 q0;split
  .rename_i p0;have hi:=(p_.mp q0).1;cases t with
   |val v=>exact .nx (a1.put (x:=none) (s:=.sh v) hi (λ_ z=>by cases z) q0 p0 rfl S1.l2) (S1.putN hi ⟨rfl,d,rfl,Rd.mono (λm o p q=>⟨fJ p,q⟩) r1⟩)
   |
    new v=>
    try dsimp only
    split
    .obtain⟨n,ob,rfl,q1,q2,q3,q4,q5,q6⟩:=r1;exact .nx (a1.put (x:=some n) (s:=.ow v) hi (λm z=>by cases z;exact q1) q0 p0 rfl S1.l2) (Sat.putO q5 q2 hi (F_ S.lh q1) q3 q4 q6)
    .exact .nx (a1.put (x:=none) (s:=.sh v) hi (λ_ z=>by cases z) q0 p0 rfl S1.l2) (S1.putN hi ⟨rfl,d,rfl,Rd.mono (λm o p q=>⟨fJ p,q⟩) r1.new⟩)
   |
    bor j=>
    try dsimp only
    split
    .rename_i e2 v q2;obtain⟨d_,S2,a2,r2⟩:=fI S1 r1 q2;have hq:∃s2,e2[i]?=some s2/\s2.pl=true:=by
      unfold cH at q2;dsimp only at q2;split at q2
      .cases q2;exact⟨s0,q0,p0⟩
      .rename_i u q3;cases q2;by_cases z:i=j
       .subst z;exact⟨_,bF hi,rfl⟩
       .exact⟨s0,by rw[bo z];exact q0,p0⟩
      .cases q2
     obtain⟨s2,hq1,hq2⟩:=hq;have hi2:=(p_.mp hq1).1;exact .nx ((a1.trans S a2).put (x:=none) (s:=.sh v) hi2 (λ_ z=>by cases z) hq1 hq2 rfl S2.l2) (S2.putN hi2 ⟨rfl,d,rfl,Rd.mono (λm o p q=>⟨fJ p,q⟩) r2⟩)
    .trivial
  .trivial
 .trivial
def ye(i:Nat):RG (gN i) (pN i):=λX h0 ns e ae h d v e' S r q=>by
 unfold pN at q;split at q
 .rename_i s q0;split at q
  .rename_i p0;cases q;have hi:=(p_.mp q0).1;exact⟨_,ns.set i none,rfl,S.putN hi ⟨rfl,d,rfl,Rd.mono (λm o p q=>⟨fJ p,q⟩) r⟩,Stp.refl.put (x:=none) (s:=.sh v) hi (λ_ z=>by cases z) q0 p0 rfl S.l2⟩
  .cases q
 .cases q
def Mo:RGs gsN psN:=λX h0 ns e ae h ds vs e' S r q=>by
 cases r with
 |nil=>cases q;exact⟨ae,ns,rfl,S,.refl⟩
 |cons _ _=>cases q
def Nj(hg:RG g g3)(hs:RGs gs gs3):RGs (gsC g gs) (psC g3 gs3):=λX h0 ns e ae h ds vs e' S r q=>by
 cases r with
 |nil=>cases q
 |cons r rr=>obtain⟨e1,q1,q2⟩:=Pg.mp q;obtain⟨g_,ns1,p1,S1,a1⟩:=hg _ _ _ _ _ _ _ _ _ S r q1;obtain⟨ae2,d_,p2,S2,a2⟩:=hs _ _ _ _ _ _ _ _ _ S1 (rr.mono (a1.mov S)) q2;refine⟨ae2,d_,?_,S2,a1.trans S a2⟩;unfold gsC;dsimp only;rw[p1];exact p2
def rg_t(n:Nat)(hs:RGs gs gs3):RG (gT λds ae h=>if ds.length=n then gs ds ae h else .stuck) (pT n gs3):=λX h0 ns e ae h d v e' S r q=>by
 unfold pT at q;split at q
 .split at q
  .rename_i hn;obtain⟨ds,rfl,r2⟩:=ShR.tup (.inl r);obtain⟨g_,ns1,p1,S1,a1⟩:=hs _ _ _ _ _ _ _ _ _ S r2 q;refine⟨g_,ns1,?_,S1,a1⟩;unfold gT;dsimp only;rw[if_pos (by rw[r2.len];exact hn)];exact p1
  .cases q
 .cases q
def HY(hg:RG g g3):RG (λd ae h=>noX (g d ae h)) g3:=λX h0 ns e ae h d v e' S r q=>by obtain⟨g_,ns1,p1,S1,a1⟩:=hg _ _ _ _ _ _ _ _ _ S r q;exact⟨g_,ns1,by dsimp only;rw[p1];rfl,S1,a1⟩
def EB(hF:RE F F3)(hg:RG g g3):RS (ir F g) (DY F3 g3):=λX h0 ns e ae h S=>PoS.toS (hF X h0 0 ns e ae h S (M_ _)) λd t h1 ns1 e1 a1 S1 r1=>by
 try dsimp only
 split
 .rename_i e2 v q;obtain⟨d_,S2,a2,r2⟩:=fI S1 r1 q;split
  .rename_i e3 q3;obtain⟨ae3,ns3,p3,S3,a3⟩:=hg _ _ _ _ _ _ _ _ _ S2 r2 q3;rw[p3];exact .nx ((a1.trans S a2).trans S a3) S3
  .trivial
 .trivial
def Hu(i j:Nat)(hA:RA A A3):RS (BF i j A) (wPar i j A3):=λX h0 ns e ae h S=>PoS.toS (hA X h0 ns e ae h S) λds ts h1 ns1 e1 a1 S1 r1=>by
 try dsimp only
 cases q:dem e1 ts with
 |none=>trivial
 |
  some w=>
  obtain⟨e2,vs⟩:=w;obtain⟨d_,S2,a2,r2⟩:=gy S1 r1 q
  match vs,ds,r2 with
  | [],_,_=>trivial
  | [_],_,_=>trivial
  |_::_::_::_,_,_=>trivial
  |
   [v,u],[d,d'],r2=>
   dsimp only;split
   .rename_i e3 q3;obtain⟨e4,q4,q5⟩:=Pg.mp q3;cases r2 with
    |
     cons r rr=>
     cases rr with
     |
      cons r' rr=>
      obtain⟨ae3,ns3,p3,S3,a3⟩:=ye i _ _ _ _ _ _ _ _ _ S2 r q4;obtain⟨ae4,ns4,p4,S4,a4⟩:=ye j _ _ _ _ _ _ _ _ _ S3 (r'.mono (a3.mov S2)) q5;have z3:ae3=ae.set i (some d):=by have:=p3;unfold gN at this;cases this;rfl
      have z4:ae4=ae3.set j (some d'):=by have:=p4;unfold gN at this;cases this;rfl
      subst z4 z3;exact .nx (((a1.trans S a2).trans S a3).trans S a4) S4
   .trivial
def Kq(i:Nat)(hg:RO gg gg3)(hF:RE F F3):RS (tj i gg F) (Dl i gg3 F3):=λX h0 ns e ae h S=>by
 unfold Dl;split
 .rename_i x q0;obtain⟨_,dx,e1,r0⟩:=S.sl i _ q0;unfold tj;rw[e1];refine PoS.toS (hF X h0 0 ns e ae h S (M_ _)) λd t h1 ns1 e1 a1 S1 r1=>?_;try dsimp only
  split
  .rename_i y q1;have b:=hg _ _ _ _ _ _ (.inl (r0.mono (a1.mov S))) (r1.sh S1 q1);split
   .rename_i z q2;rw[q2] at b;obtain⟨dz,p1,r2⟩:=b;split
    .rename_i e2 q3;rw[p1];obtain⟨ae3,ns3,p3,S3,a3⟩:=ye i _ _ _ _ _ _ _ _ _ S1 r2 q3;have z3:ae3=ae.set i (some dz):=by have:=p3;unfold gN at this;cases this;rfl
     subst z3;exact .nx (a1.trans S a3) S3
    .trivial
   .trivial
  .trivial
 .trivial
def TsR.len(r:TsR X ns ae h ds ts):ds.length=ts.length:=by
 induction r with
 |nil=>rfl
 |val _ _ ih=>rw[B_,B_,ih]
 |bor _ _ ih=>rw[B_,B_,ih]
def CZ(x:Str)(hA:RA A A3):RS (uj x A) (AO x A3):=λX h0 ns e ae h S=>PoS.toS (hA X h0 ns e ae h S) λds ts h1 ns1 e1 a1 S1 r1=>by
 try dsimp only
 by_cases hl:ts.length<=16777216
 .rw[if_pos hl,if_pos (by rw[TsR.len r1];exact hl)];exact⟨ae,h1,ns1,rfl,a1,S1⟩
 .rw[if_neg hl];trivial
end
noncomputable def Sl.re(s:Sl)(u:Val):Sl:=match s with
 |.ow _=>.ow u
 |.mu _=>.mu u
 |s=>s
noncomputable def Sl.mv:Sl->Option Val
 |.ow v=>some v
 |.mu v=>some v
 |_=>none
section
variable{X:Nat->Prop}{h0 L:Nat}{ns ns1 ns':Ns}{e e1 e':E3}{ae:AE}{h h1 h':AH}
def Sat.write(S:Sat X h0 ns e ae h)(q:e[i]?=some s)(hm:s.mv=some u):∃n o,ae[i]?=some (some (.ref n))/\h[n]?=some o/\bQ o/\Rc (Oc X ns) h o u/\
 ∀o' u',bQ o'->Rc (Oc X ns) h o' u'->Mov (Oc X ns) (Oc X ns) h (h.set n o')/\Sat X h0 ns (e.set i (s.re u')) ae (h.set n o')/\Stp ns e h ns (e.set i (s.re u')) (h.set n o'):=by
 have hi:=(p_.mp q).1;have key:∃n o,ns[i]?=some (some n)/\ae[i]?=some (some (.ref n))/\h[n]?=some o/\bQ o/\Rc (Oc X ns) h o u/\s.mt=true/\(∀o' u',bQ o'->Rc (Oc X ns) (h.set n o') o' u'->SlR (Oc X ns) h0 (some (some n)) (some (some (.ref n))) (h.set n o') (s.re u')):=by
  have y:=S.sl i s q;cases s with
  |ow v=>cases hm;obtain⟨n,o,q1,q2,q3,q4,q5,q6⟩:=y;exact⟨n,o,q1,q2,q4,q5,q6,rfl,λo' u' hf r=>⟨n,o',rfl,rfl,q3,bF (b9 q4),hf,r⟩⟩
  |mu v=>cases hm;obtain⟨n,o,q1,q2,q4,q5,q6⟩:=y;exact⟨n,o,q1,q2,q4,q5,q6,rfl,λo' u' hf r=>⟨n,o',rfl,rfl,bF (b9 q4),hf,r⟩⟩
  |_=>cases hm
 obtain⟨n,o,k1,k2,k3,k4,k5,k6,k7⟩:=key;refine⟨n,o,k2,k3,k4,k5,λo' u' hf r=>?_⟩;have mv:Mov (Oc X ns) (Oc X ns) h (h.set n o'):=λm ob p q'=>⟨p,by have:m≠n:=λz=>p.2 (aV.mpr ⟨i,by rw[z];exact k1⟩);rw[bo this];exact q'⟩;refine⟨mv,⟨by rw[I_];exact S.l1,by rw[I_];exact S.l2,by rw[I_];exact S.lh,λm z=>by rw[I_];exact S.xl m z,S.inj,S.nx,λj s' qj=>?_⟩,?_⟩
 .rcases bB hi qj with ⟨rfl,rfl⟩ |⟨z,qj'⟩
  .rw[k1,k2];exact k7 o' u' hf (r.mono mv)
  .refine (S.sl j s' qj').mono mv λm ob qm qo=>?_;have:m≠n:=λy=>by subst y;exact z (S.inj j i m qm k1)
   rw[bo this];exact qo
 .refine⟨by rw[I_];exact o_ _,λm ob qm hM=>?_,λ_ _ q=>.inl q,λj s' qj hl=>?_,λj s' qj hl=>?_,λj v qj=>?_,λj v qj=>?_⟩
  .have:m≠n:=λy=>by subst y;exact hM ⟨i,s,k1,q,k6⟩
   rw[bo this];exact qm
  .have z:j≠i:=λz=>by subst z;rw[q] at qj;cases qj;cases s <;> first |cases hl;done |cases k6;done
   rw[bo z];exact⟨qj,rfl⟩
  .rcases bB hi qj with ⟨_,y⟩ |⟨z,qj'⟩
   .subst y;cases s <;> first |cases hl;done |cases k6;done
   .exact⟨qj',rfl⟩
  .rcases bB hi qj with ⟨rfl,y⟩ |⟨z,qj'⟩
   .cases s with
    |mu w=>exact⟨w,q,rfl⟩
    |ow w=>cases y
    |_=>cases k6
   .exact⟨v,qj',rfl⟩
  .by_cases z:j=i
   .subst z;rw[q] at qj;cases qj;exact⟨u',bF hi,rfl⟩
   .exact⟨v,by rw[bo z];exact qj,rfl⟩
end
def yA(w2:D->D->D->AH->R Unit)(w3:Val->Val->Val->Option Val):Prop:=∀P h n o u di vi d v u',¬ P n->h[n]?=some o->bQ o->Rc P h o u->ShR P h di vi->Rd P h d v->w3 u vi v=some u'->∃o',w2 (.ref n) di d h=.ok () (h.set n o')/\bQ o'/\Rc P h o' u'
noncomputable def wSet(i:Nat)(G:ME3)(F:ME3)(w:Val->Val->Val->Option Val):MS3:=λe=>(F e).toS λt e1=>match (e1[i]?).bind Sl.mv with
 |none=>.stuck
 |some _=>(G e1).toS λt2 e2=>match rs e2 t2 with
  |none=>.stuck
  |some vi=>match cH e2 t.drop with
   |none=>.stuck
   |some (e3,v)=>match e3[i]? with
    |none=>.stuck
    |some s=>match s.mv with
     |none=>.stuck
     |some u=>match w u vi v with
      |some u'=>.nx (e3.set i (s.re u'))
      |none=>.stuck
def RM(m2:D->List D->AH->R D)(m3:Val->List Val->Option (Val×Val)):Prop:=∀P h n o u ds vs u' v,h[n]?=some o->bQ o->Rc P h o u->Rds P h ds vs->m3 u vs=some (u',v)->ko h (.ref n)=true/\∃o' d,m2 (.ref n) ds h=.ok d (h.set n o')/\bQ o'/\Rc P h o' u'/\Rd P h d v
noncomputable def jO:Val->Bool
 |.lst _=>true
 |_=>false
noncomputable def mi(i:Nat)(m:Val->List Val->Option (Val×Val))(A:MA3):ME3:=λe=>match e[i]? with
 |some s=>if (s.mv.map jO)=some true then (A e).bind λts e1=>match dem e1 ts with
  |some (e2,vs)=>match e2[i]? with
   |some s2=>match s2.mv with
    |some u=>match m u vs with
     |some (u',v)=>.ok (.val v) (e2.set i (s2.re u'))
     |none=>.stuck
    |none=>.stuck
   |none=>.stuck
  |none=>.stuck else .stuck
 |none=>.stuck
section
variable{F G:ME}{F3 G3:ME3}{A:MA}{A3:MA3}
def Gy{X:Nat->Prop}{h0:Nat}{ns:Ns}{e:E3}{ae:AE}{h:AH}(S:Sat X h0 ns e ae h){i:Nat}{u:Val}(q:(e[i]?).bind Sl.mv=some u):∃n o,ae[i]?=some (some (.ref n))/\h[n]?=some o/\bQ o/\Rc (Oc X ns) h o u:=by obtain⟨s,q1,q2⟩:=Pg.mp q;obtain⟨n,o,k1,k2,k3,k4,_⟩:=S.write q1 q2;exact⟨n,o,k1,k2,k3,k4⟩
def IM(i:Nat)(hw:yA w2 w3)(hG:RE G G3)(hF:RE F F3):RS (ir F (gS (bq i) G w2)) (wSet i G3 F3 w3):=λX h0 ns e ae h S=>PoS.toS (hF X h0 0 ns e ae h S (M_ _)) λd t h1 ns1 e1 a1 S1 r1=>by
 try dsimp only
 cases qm:(e1[i]?).bind Sl.mv with
 |none=>trivial
 |
  some u0=>
  obtain⟨n0,o0,b1,b2,b3,b4⟩:=Gy S1 qm;have L2e:∀h',(gS (bq i) G w2 d ae h').toS ae (λbn h2=>SR.nx bn h2)=(G ae h').toS ae λdi h2=>(w2 (.ref n0) di d h2).toS ae λ_ h3=>.nx ae h3:=λh'=>by
   unfold gS bq;rw[b1];simp only[fL];cases G ae h' with
   |ok di h2=>simp only[fL];show _=(w2 (.ref n0) di d h2).toS ae λ_ h3=>.nx ae h3;cases w2 (.ref n0) di d h2 <;> rfl
   |exc c h2=>rfl
   |stuck=>rfl
  rw[L2e];refine PoS.after S a1 (PoS.toS (hG X h0 0 ns1 e1 ae h1 S1 (M_ _)) λdi t2 h2 d_ e2 a2 S2 r2=>?_);try dsimp only
  cases qi:rs e2 t2 with
  |none=>trivial
  |
   some vi=>
   try dsimp only
   cases qd:cH e2 t.drop with
   |none=>trivial
   |
    some w=>
    obtain⟨e3,v⟩:=w;try dsimp only
    obtain⟨r1',hn⟩:=r1.drop;have r3:=r1'.stp S1 a2 hn;have si:=r2.sh S2 qi;obtain⟨ns3,S3,a3,r4⟩:=fI S2 r3 qd;have si3:ShR (Oc X ns3) h2 di vi:=by
     rcases si with z |⟨n,o,z1,z2,z3⟩
     .exact .inl (z.mono (a3.mov S2))
     .exact .inr ⟨n,o,z1,z2,z3.mono (a3.mov S2)⟩
    cases q3:e3[i]? with
    |none=>trivial
    |
     some s=>
     try dsimp only
     cases q4:s.mv with
     |none=>trivial
     |
      some u=>
      try dsimp only
      cases q5:w3 u vi v with
      |none=>trivial
      |
       some u'=>
       obtain⟨n,o,k1,k2,k3,k4,k5⟩:=S3.write q3 q4;rw[b1] at k1;cases k1;have nP:¬ Oc X ns3 n0:=λp=>by have z1:=((k5 (.lst []) (.lst []) trivial (.lst .nil)).1 _ _ p k2).2;have z2:=((k5 (.lst [.non]) (.lst [.non]) trivial (.lst (.cons .non .nil))).1 _ _ p k2).2;rw[bF (b9 k2)] at z1 z2;rw[<- z2] at z1;cases z1
       obtain⟨o',p1,p2,p3⟩:=hw _ _ _ _ _ _ _ _ _ _ nP k2 k3 k4 si3 r4 q5;obtain⟨mv,S4,a4⟩:=k5 o' u' p2 p3;rw[p1];exact .nx ((a2.trans S1 a3).trans S1 a4) S4
def yF(i:Nat)(hm:RM m2 m3)(hA:RA A A3):RE (eM m2 (bq i) A) (mi i m3 A3):=λX h0 L ns e ae h S hl=>by
 unfold mi;cases q0:e[i]? with
 |none=>trivial
 |
  some s0=>
  dsimp only;split
  .rename_i hz;obtain⟨u0,z1,z2⟩:=G_.mp hz;obtain⟨n0,o0,b1,b2,b3,b4,_⟩:=S.write q0 z1;have hL:ko h (.ref n0)=true:=by
    cases u0 with
    |lst xs=>obtain⟨ds,_,e1,_⟩:=Rc.seq b2 b4;show (aG h n0).isSome=true;rw[e1];rfl
    |_=>cases z2
   have L2e:eM m2 (bq i) A ae h=(A ae h).bind λds h2=>m2 (.ref n0) ds h2:=by unfold eM bq;rw[b1];simp only[fL,hL,Qu]
   rw[L2e];refine Po.bind S (hA X h0 ns e ae h S) λds ts h1 ns1 e1 a1 S1 r1=>?_;try dsimp only
   cases q1:dem e1 ts with
   |none=>trivial
   |
    some w=>
    obtain⟨e2,vs⟩:=w;try dsimp only
    obtain⟨d_,S2,a2,r2⟩:=gy S1 r1 q1;cases q2:e2[i]? with
    |none=>trivial
    |
     some s2=>
     try dsimp only
     cases q3:s2.mv with
     |none=>trivial
     |
      some u=>
      try dsimp only
      cases q4:m3 u vs with
      |none=>trivial
      |some w=>obtain⟨u',v⟩:=w;obtain⟨n,o,k1,k2,k3,k4,k5⟩:=S2.write q2 q3;rw[b1] at k1;cases k1;obtain⟨_,o',d,p1,p2,p3,p4⟩:=hm _ _ _ _ _ _ _ _ _ k2 k3 k4 r2 q4;obtain⟨mv,S4,a4⟩:=k5 o' u' p2 p3;exact⟨d,_,d_,p1,a2.trans S1 a4,S4,p4.mono mv⟩
  .trivial
def He(i:Nat)(hm:RM m2 m3):RE (eM0 m2 (bq i)) (mi i m3 oA):=by
 have:=yF i hm Au
 intro X h0 L ns e ae h S hl;have p:=this X h0 L ns e ae h S hl;have e1:eM m2 (bq i) jd ae h=eM0 m2 (bq i) ae h:=by unfold eM eM0 jd;rfl
 rw[e1] at p;exact p
end
noncomputable def jn:Sl->Sl
 |.ow v=>.lo v
 |.mu v=>.lm v
 |s=>s
noncomputable def kD:Sl->Sl
 |.lo v=>.ow v
 |.lm v=>.mu v
 |s=>s
def lock(e:E3)(k:Nat):E3:=match e[k]? with
 |some s=>e.set k (jn s)
 |none=>e
def unlock(e:E3)(k:Nat):E3:=match e[k]? with
 |some s=>e.set k (kD s)
 |none=>e
def lockO(e:E3):Option Nat->E3
 |some k=>lock e k
 |none=>e
def eV(e:E3):Option Nat->E3
 |some k=>unlock e k
 |none=>e
section
variable{X:Nat->Prop}{h0 L:Nat}{ns ns1 ns':Ns}{e e1 e':E3}{ae bn:AE}{h h1 h':AH}
def SlR.lock(r:SlR P h0 n d h s):SlR P h0 n d h (jn s):=by cases s <;> exact r
def SlR.unlock(r:SlR P h0 n d h s):SlR P h0 n d h (kD s):=by cases s <;> exact r
def Sat.lock(S:Sat X h0 ns e ae h)(k:Nat):Sat X h0 ns (lock e k) ae h:=by
 unfold L3.lock;split
 .rename_i s q;have hi:=(p_.mp q).1;refine⟨by rw[I_];exact S.l1,by rw[I_];exact S.l2,S.lh,S.xl,S.inj,S.nx,λj s' qj=>?_⟩;rcases bB hi qj with ⟨rfl,rfl⟩ |⟨z,qj'⟩
  .exact (S.sl j s q).lock
  .exact S.sl j s' qj'
 .exact S
def Sat.unlock(S:Sat X h0 ns e ae h)(k:Nat):Sat X h0 ns (unlock e k) ae h:=by
 unfold L3.unlock;split
 .rename_i s q;have hi:=(p_.mp q).1;refine⟨by rw[I_];exact S.l1,by rw[I_];exact S.l2,S.lh,S.xl,S.inj,S.nx,λj s' qj=>?_⟩;rcases bB hi qj with ⟨rfl,rfl⟩ |⟨z,qj'⟩
  .exact (S.sl j s q).unlock
  .exact S.sl j s' qj'
 .exact S
def i0(z:j≠k):(lock e k)[j]?=e[j]?:=by
 unfold lock;split
 .rw[bo z]
 .rfl
def fX(z:j≠k):(unlock e k)[j]?=e[j]?:=by
 unfold unlock;split
 .rw[bo z]
 .rfl
def oh(q:e[k]?=some s):(lock e k)[k]?=some (jn s):=by unfold lock;rw[q];exact bF (p_.mp q).1
def hX(q:e[k]?=some s):(unlock e k)[k]?=some (kD s):=by unfold unlock;rw[q];exact bF (p_.mp q).1
def Stp.unlock(q:e[k]?=some s)(hs:s.mt=true)(a:Stp ns (L3.lock e k) h ns' e' h'):Stp ns e h ns' (L3.unlock e' k) h':=by
 have hl:(jn s).lk=true:=by cases s <;> first |rfl |cases hs
 have hu:kD (jn s)=s:=by cases s <;> first |rfl |cases hs
 obtain⟨qk,nk⟩:=a.lk k _ (oh q) hl;refine⟨a.len,λm o qm hM=>a.keep m o qm λ⟨j,s',z1,z2,z3⟩=>hM ?_,a.nw,λj s' qj hj=>?_,λj s' qj hj=>?_,λj v qj=>?_,λj v qj=>?_⟩
 .by_cases z:j=k
  .subst z;exact⟨j,s,z1,q,hs⟩
  .rw[i0 z] at z2;exact⟨j,s',z1,z2,z3⟩
 .have z:j≠k:=λz=>by subst z;rw[q] at qj;cases qj;cases s <;> first |cases hs;done |cases hj;done
  rw[fX z];exact a.lk j s' (by rw[i0 z];exact qj) hj
 .have z:j≠k:=λz=>by subst z;rw[hX qk,hu] at qj;cases qj;cases s <;> first |cases hs;done |cases hj;done
  rw[fX z] at qj;obtain⟨y1,y2⟩:=a.lk' j s' qj hj;rw[i0 z] at y1;exact⟨y1,y2⟩
 .by_cases z:j=k
  .subst z;rw[hX qk,hu] at qj;cases qj;exact⟨v,q,nk⟩
  .rw[fX z] at qj;obtain⟨u,y1,y2⟩:=a.mu j v qj;rw[i0 z] at y1;exact⟨u,y1,y2⟩
 .by_cases z:j=k
  .subst z;rw[q] at qj;cases qj;exact⟨v,by rw[hX qk,hu],nk⟩
  .obtain⟨u,y1,y2⟩:=a.mu' j v (by rw[i0 z];exact qj);exact⟨u,by rw[fX z];exact y1,y2⟩
end
abbrev MI3:=E3->R3 (List Val×Option Nat)
def Stay(X:Nat->Prop)(ns:Ns)(k:Option Nat)(h h':AH):Prop:=∀(m:Nat) (o:Ob),h[m]?=some o->(Oc X ns m\/∃j:Nat,k=some j/\ns[j]?=some (some m))->h'[m]?=some o
def tZ(X:Nat->Prop)(ns:Ns)(e:E3)(h:AH)(it:AIt)(p:List Val×Option Nat):Prop:=
 Rds (Oc X ns) h it.items p.1/\(∀h',Stay X ns p.2 h h'->it.guard h')/\∀k:Nat,p.2=some k->∃s,e[k]?=some s/\s.mt=true
def RI(I:MI)(J:MI3):Prop:=∀X h0 ns e ae h,Sat X h0 ns e ae h->Po X h0 ns e ae h (tZ X) (I ae h) (J e)
noncomputable def gW:Val->Option (List Val)
 |.tup xs=>some xs
 |.lst xs=>some xs
 |_=>none
noncomputable def fN(t:Tm)(e:E3):Option (List Val×Option Nat):=match t with
 |.val v=>(gW v).map λxs=>(xs,none)
 |.new v=>(gW v).map λxs=>(xs,none)
 |.bor k=>match e[k]? with
  |some (.sh v)=>(gW v).map λxs=>(xs,none)
  |some (.ow (.lst xs))=>some (xs,some k)
  |some (.mu (.lst xs))=>some (xs,some k)
  |_=>none
noncomputable def DL(F:ME3):MI3:=λe=>(F e).bind λt e1=>match fN t e1 with
 |some p=>.ok p e1
 |none=>.stuck
noncomputable def Eh(A:MA3):MI3:=λe=>(A e).bind λts e1=>match ts with
 | [t,u]=>(match fN t e1,fN u e1 with
  |some (xs,k),some (ys,none)=>.ok (List.zipWith (λx y=>.tup [x,y]) xs ys,k) e1
  |_,_=>.stuck)
 |_=>.stuck
noncomputable def yz(lo:Int)(k:Nat):List Val:=(List.range k).map λi=>Val.int (lo+(i:Nat))
structure RgB(j:Int):Prop where
 lo:-(2^62)<=j
 hi:j<2^62
def iw:List Val->Option (List Val)
 | [.int j]=>@ite _ (RgB j) (Classical.propDecidable _) (some (yz 0 j.toNat)) none
 |_=>none
noncomputable def Dm(f:List Val->Option (List Val))(A:MA3):MI3:=λe=>(A e).bind λts e1=>match (rss e1 ts).bind f with
 |some xs=>.ok (xs,none) e1
 |none=>.stuck
section
variable{F:ME}{F3:ME3}{A:MA}{A3:MA3}
def yc(S:Sat X h0 ns e ae h)(r:Rd (Oc X ns) h d v)(q:gW v=some xs):∃it,gn d h=some it/\tZ X ns e h it (xs,none):=by
 cases v with
 |tup ys=>cases q;obtain⟨ds,rfl,r2⟩:=ShR.tup (.inl r);exact⟨_,rfl,r2,λ_ _=>trivial,λ_ z=>nomatch z⟩
 |
  lst ys=>
  cases q;cases r with
  |
   cell p eo rc=>
   rename_i n o;obtain⟨ds,_,e1,r1⟩:=Rc.seq eo rc;refine⟨.lst n ds,by unfold gn;dsimp only;rw[e1];rfl,r1,λh' st=>?_,λ_ z=>nomatch z⟩;show aG h' n=some ds
   have:=st n o eo (.inl p)
   unfold aG at e1 ⊢;rw[eo] at e1;rw[this];exact e1
 |_=>cases q
def uE(S:Sat X h0 ns e ae h)(r:relE X h0 L ae ns e h d t)(q:fN t e=some p):∃it,gn d h=some it/\tZ X ns e h it p:=by
 cases t with
 |val v=>obtain⟨xs,q1,rfl⟩:=G_.mp q;exact yc S r q1
 |new v=>obtain⟨xs,q1,rfl⟩:=G_.mp q;exact yc S r.new q1
 |
  bor k=>
  have r':ae[k]?=some (some d):=r;have own:∀{s xs},e[k]?=some s->s.mv=some (.lst xs)->∃it,gn d h=some it/\tZ X ns e h it (xs,some k):=λ{s xs} q qm=>by
   have hns:∃n,ns[k]?=some (some n)/\ae[k]?=some (some (.ref n)):=by
    have y:=S.sl k s q;cases s with
    |ow v=>obtain⟨n,o,y1,y2,_⟩:=y;exact⟨n,y1,y2⟩
    |mu v=>obtain⟨n,o,y1,y2,_⟩:=y;exact⟨n,y1,y2⟩
    |_=>cases qm
   obtain⟨n,y1,y2⟩:=hns;obtain⟨n',o,k1,k2,k3,k4,_⟩:=S.write q qm;rw[y2] at k1;cases k1;rw[r'] at y2;cases y2;obtain⟨ds,_,e2,r2⟩:=Rc.seq k2 k4;refine⟨.lst n ds,by unfold gn;dsimp only;rw[e2];rfl,r2,λh' st=>?_,λj z=>?_⟩
   .show aG h' n=some ds
    have:=st n o k2 (.inr ⟨k,rfl,y1⟩)
    unfold aG at e2 ⊢;rw[k2] at e2;rw[this];exact e2
   .cases z;exact⟨s,q,by cases s <;> first |rfl |cases qm⟩
  unfold fN at q;dsimp only at q;split at q
  .rename_i v qs;obtain⟨_,x,e2,r2⟩:=S.sl k _ qs;rw[r'] at e2;cases e2;obtain⟨xs,q1,rfl⟩:=G_.mp q;exact yc S r2 q1
  .rename_i xs qs;cases q;exact own qs rfl
  .rename_i xs qs;cases q;exact own qs rfl
  .cases q
noncomputable def Dg(d:D)(h:AH):R AIt:=match d with
 |.tup xs=>.ok (.tup xs) h
 |.ref n=>match aG h n with
  |some xs=>.ok (.lst n xs) h
  |none=>.stuck
 |_=>.stuck
def ED(q:gn d h=some it):Dg d h=.ok it h:=by
 cases d with
 |tup xs=>cases q;rfl
 |ref n=>obtain⟨xs,y1,rfl⟩:=G_.mp (show (aG h n).map (AIt.lst n)=some it from q);unfold Dg;dsimp only;rw[y1]
 |_=>cases q
def Hy(hF:RE F F3):RI (Cg F) (DL F3):=λX h0 ns e ae h S=>
 Po.bind S (hF X h0 0 ns e ae h S (M_ _)) λd t h1 ns1 e1 a1 S1 r1=>by
  show Po X h0 ns1 e1 ae h1 (tZ X) (Dg d h1) _;cases q:fN t e1 with
  |none=>trivial
  |some p=>dsimp only;obtain⟨it,q1,q2⟩:=uE S1 r1 q;exact⟨it,h1,ns1,ED q1,.refl,S1,q2⟩
def GI(r:Rds P h ds vs)(q:Rds P h es us):Rds P h (List.zipWith (λx y=>D.tup [x,y]) ds es) (List.zipWith (λx y=>Val.tup [x,y]) vs us):=
 r.ind (M:=λds vs=>∀{es:List D}{us:List Val},Rds P h es us->Rds P h (List.zipWith (λx y=>D.tup [x,y]) ds es) (List.zipWith (λx y=>Val.tup [x,y]) vs us)) (λ_=>.nil) (λr _ ih _ _ q=>by
  cases q with
  |nil=>exact .nil
  |cons q qq=>exact .cons (.tup (.cons r (.cons q .nil))) (ih qq)) q
def tsr1(r:TsR X ns ae h ds [t]):∃d,ds=[d]/\relE X h0 0 ae ns e h d t:=by
 cases r with
 |val r rr=>cases rr;exact⟨_,rfl,r⟩
 |bor r rr=>cases rr;exact⟨_,rfl,r⟩
def tsr2(r:TsR X ns ae h ds [t,u]):∃d d',ds=[d,d']/\relE X h0 0 ae ns e h d t/\relE X h0 0 ae ns e h d' u:=by
 cases r with
 |val r rr=>obtain⟨d',rfl,r'⟩:=tsr1 (h0:=h0) (e:=e) rr;exact⟨_,_,rfl,r,r'⟩
 |bor r rr=>obtain⟨d',rfl,r'⟩:=tsr1 (h0:=h0) (e:=e) rr;exact⟨_,_,rfl,r,r'⟩
def KN(hA:RA A A3):RI (Cz A) (Eh A3):=λX h0 ns e ae h S=>
 Po.bind
  S (hA X h0 ns e ae h S) λds ts h1 ns1 e1 a1 S1 r1=>by
  match ts,r1 with
  | [],_=>trivial
  | [_],_=>trivial
  |_::_::_::_,_=>trivial
  |
   [t,u],r1=>
   obtain⟨d,d',rfl,r2,r3⟩:=tsr2 (h0:=h0) (e:=e1) r1;dsimp only;cases q:fN t e1 with
   |none=>trivial
   |
    some p=>
    obtain⟨xs,k⟩:=p;cases q':fN u e1 with
    |none=>trivial
    |
     some p'=>
     obtain⟨ys,k'⟩:=p';cases k' with
     |some _=>trivial
     |none=>obtain⟨it,q1,q2,q3,q4⟩:=uE S1 r2 q;obtain⟨it',q1',q2',q3',q4'⟩:=uE S1 r3 q';rw[q1,q1'];exact⟨.zip it it',h1,ns1,rfl,.refl,S1,GI q2 q2',λh' st=>⟨q3 h' st,q3' h' λm o hm hc=>st m o hm (hc.elim .inl λ⟨_,z,_⟩=>nomatch z)⟩,q4⟩
def Hd(lo:Int)(k:Nat):Rds P h (AIt.rng lo k).items (yz lo k):=by
 show Rds P h ((List.range k).map λi=>D.int (lo+(i:Nat))) ((List.range k).map λi=>Val.int (lo+(i:Nat)));generalize List.range k=l;induction l with
 |nil=>exact .nil
 |cons i l ih=>exact .cons (.int _) ih
def eZ(r:ShRs P h ds [v]):∃d,ds=[d]/\ShR P h d v:=by cases r with |cons r rr=>cases rr;exact⟨_,rfl,r⟩
def qQ(r:ShRs P h ds [v,u]):∃d d',ds=[d,d']/\ShR P h d v/\ShR P h d' u:=by cases r with |cons r rr=>cases rr with |cons r' rr=>cases rr;exact⟨_,_,rfl,r,r'⟩
def O3(hf:∀P h ds vs xs,ShRs P h ds vs->f3 vs=some xs->∃lo k,f2 ds h=.ok (.rng lo k) h/\xs=yz lo k)(hA:RA A A3):RI (λae h=>(A ae h).bind f2) (Dm f3 A3):=λX h0 ns e ae h S=>
 Po.bind S (hA X h0 ns e ae h S) λds ts h1 ns1 e1 a1 S1 r1=>by
  try dsimp only
  split
  .rename_i xs q;obtain⟨vs,q1,q2⟩:=Pg.mp q;obtain⟨lo,k,p1,rfl⟩:=hf _ _ _ _ _ (TsR.sh S1 r1 q1) q2;rw[p1];exact Po.ret S1 ⟨Hd _ _,λ_ _=>trivial,λ_ z=>nomatch z⟩
  .trivial
def HZ(hA:RA A A3):RI (BA A) (Dm iw A3):=O3 (f2:=λds h1=>match ds with
 | [.int j]=>if -(2^62)<=j/\j<2^62 then .ok (.rng 0 j.toNat) h1 else .stuck
 |
  _=>.stuck) (λP h ds vs xs r q=>by
  unfold iw at q;split at q
  .split at q
   .rename_i hb;cases q;obtain⟨d,rfl,r2⟩:=eZ r;obtain rfl:=r2.int;exact⟨_,_,by dsimp only;rw[if_pos ⟨hb.lo,hb.hi⟩],rfl⟩
   .cases q
  .cases q) hA
end
noncomputable def SR3.loop(r:SR3)(f:E3->SR3):SR3:=match r with
 |.nx e=>f e
 |.ct e=>f e
 |.bk e=>.nx e
 |.rt d e=>.rt d e
 |.exc c e=>.exc c e
 |.stuck=>.stuck
noncomputable def eU(g:MG3)(B:MS3):List Val->MS3
 | [],e=>.nx e
 |v::vs,e=>match g v e with
  |some e1=>(B e1).loop (eU g B vs)
  |none=>.stuck
noncomputable def SR3.unl(k:Option Nat)(r:SR3):SR3:=match r with
 |.nx e=>.nx (eV e k)
 |.ct e=>.ct (eV e k)
 |.bk e=>.bk (eV e k)
 |.rt d e=>.rt d (eV e k)
 |.exc c e=>.exc c (eV e k)
 |.stuck=>.stuck
noncomputable def wFor(I:MI3)(g:MG3)(B:MS3):MS3:=λe=>(I e).toS λp e1=>(eU g B p.1 (lockO e1 p.2)).unl p.2
section
variable{I:MI}{I3:MI3}{g:MG}{g3:MG3}{B:MS}{B3:MS3}{c:MT}{c3:MT3}{F:ME}{F3:ME3}
def PoS.loop{X:Nat->Prop}{h0:Nat}{ns:Ns}{e:E3}{ae:AE}{h:AH}{r2:SR}{r3:SR3}{f2:AE->AH->SR}{f3:E3->SR3}(p:PoS X h0 ns e h r2 r3)
 (k:∀bn h' ns' e',Stp ns e h ns' e' h'->Sat X h0 ns' e' bn h'->PoS X h0 ns e h (f2 bn h') (f3 e')):PoS X h0 ns e h (r2.loop f2) (r3.loop f3):=by
 cases r3 with
 |stuck=>trivial
 |nx e'=>obtain⟨bn,h',ns',q,q1,q2⟩:=p;rw[q];exact k bn h' ns' e' q1 q2
 |ct e'=>obtain⟨bn,h',ns',q,q1,q2⟩:=p;rw[q];exact k bn h' ns' e' q1 q2
 |bk e'=>obtain⟨bn,h',ns',q,q1,q2⟩:=p;rw[q];exact⟨bn,h',ns',rfl,q1,q2⟩
 |exc c e'=>obtain⟨bn,h',ns',q,q1,q2⟩:=p;rw[q];exact⟨bn,h',ns',rfl,q1,q2⟩
 |rt r e'=>obtain⟨d,bn,h',ns',q,q1,q2⟩:=p;rw[q];exact⟨d,bn,h',ns',rfl,q1,q2⟩
def G5(S:Sat X h0 ns e ae h)(hk:∀j:Nat,k=some j->∃s,e[j]?=some s/\s.mt=true)(a:Stp ns (lockO e k) h ns' e' h'):Stay X ns k h h':=λm o q hm=>by
 refine a.keep m o q λ⟨i,s,z1,z2,z3⟩=>?_;rcases hm with hm |⟨j,rfl,hj⟩
 .exact hm.2 (aV.mpr ⟨i,z1⟩)
 .have:i=j:=S.inj i j m z1 hj;subst this;obtain⟨s',y1,y2⟩:=hk i rfl;have:(lockO e (some i))[i]?=some (jn s'):=oh y1;rw[this] at z2;cases z2;cases s' <;> first |cases y2;done |cases z3;done
def PoS.unl(hk:∀j:Nat,k=some j->∃s,e[j]?=some s/\s.mt=true)(p:PoS X h0 ns (lockO e k) h r2 r3):PoS X h0 ns e h r2 (r3.unl k):=by
 cases k with
 |none=>cases r3 <;> exact p
 |
  some j=>
  obtain⟨s,y1,y2⟩:=hk j rfl;cases r3 with
  |stuck=>trivial
  |nx e'=>obtain⟨bn,h',ns',q,q1,q2⟩:=p;exact⟨bn,h',ns',q,q1.unlock y1 y2,q2.unlock j⟩
  |ct e'=>obtain⟨bn,h',ns',q,q1,q2⟩:=p;exact⟨bn,h',ns',q,q1.unlock y1 y2,q2.unlock j⟩
  |bk e'=>obtain⟨bn,h',ns',q,q1,q2⟩:=p;exact⟨bn,h',ns',q,q1.unlock y1 y2,q2.unlock j⟩
  |exc c e'=>obtain⟨bn,h',ns',q,q1,q2⟩:=p;exact⟨bn,h',ns',q,q1.unlock y1 y2,q2.unlock j⟩
  |
   rt r e'=>
   obtain⟨d,bn,h',ns',q,q1,q2⟩:=p;refine⟨d,bn,h',ns',q,q1.unlock y1 y2,?_⟩;cases r with
   |val v=>exact⟨q2.1.unlock j,q2.2⟩
   |new v=>obtain⟨n,o,z1,z2,z3,z4,z5,z6,z7⟩:=q2;exact⟨n,o,z1,z2,z3,z4,z5,z6.unlock j,z7⟩
   |
    par i=>
    obtain⟨z1,z2,v,z3⟩:=q2;refine⟨z1.unlock j,z2,v,?_⟩;by_cases z:i=j
    .subst z;exact hX z3
    .exact (fX z).trans z3
def Sat.lockO(S:Sat X h0 ns e ae h)(k:Option Nat):Sat X h0 ns (lockO e k) ae h:=by
 cases k with
 |none=>exact S
 |some k=>exact S.lock k
def F9{X:Nat->Prop}{h0:Nat}{ns:Ns}{e:E3}{ae:AE}{h:AH}{G:AH->Prop}(S:Sat X h0 ns e ae h)(hg:RG g g3)(hB:RS B B3)(hG:∀ns' e' h',Stp ns e h ns' e' h'->G h'):
 ∀{ds:List D}{vs:List Val},Rds (Oc X ns) h ds vs->∀{ns1:Ns}{e1:E3}{g_:AE}{h1:AH},Stp ns e h ns1 e1 h1->Sat X h0 ns1 e1 g_ h1->PoS X h0 ns e h (jm G g B ds g_ h1) (eU g3 B3 vs e1):=by
 intro ds;induction ds with
 |nil=>intro vs r ns1 e1 g_ h1 a1 S1;cases r;unfold jm;rw[if_pos (hG _ _ _ a1)];exact .nx a1 S1
 |
  cons d0 ds ih=>
  intro vs r ns1 e1 g_ h1 a1 S1;cases r with
  |
   cons r rr=>
   unfold jm eU;rw[if_pos (hG _ _ _ a1)];split
   .rename_i e2 q;obtain⟨ae2,d_,p2,S2,a2⟩:=hg _ _ _ _ _ _ _ _ _ S1 (r.mono (a1.mov S)) q;rw[p2];have a12:=a1.trans S a2;show PoS X h0 ns e h ((B ae2 h1).loop _) _;refine PoS.loop (ae:=ae) (PoS.after S a12 (hB X h0 d_ e2 ae2 h1 S2)) λae3 h3 ns3 e3 a3 S3=>ih rr a3 S3
   .trivial
def Jq(hI:RI I I3)(hg:RG g g3)(hB:RS B B3):RS (Bi I g B) (wFor I3 g3 B3):=λX h0 ns e ae h S=>PoS.toS (hI X h0 ns e ae h S) λit p h1 ns1 e1 a1 S1 r1=>by obtain⟨r2,gd,hk⟩:=r1;refine PoS.after S a1 (PoS.unl hk ?_);have S2:=S1.lockO p.2;exact F9 S2 hg hB (λns' e' h' a=>gd h' (G5 S1 hk a)) r2 .refl S2
noncomputable def whV(c:MT3)(B:MS3):Nat->MS3
 |0,_=>.stuck
 |k+1,e=>(c e).toS λb e1=>if b=true then (B e1).loop (whV c B k) else .nx e1
open Classical in
def wWh(c:MT3)(B:MS3):MS3:=λe=>if q:∃k,whV c B k e ≠ .stuck then whV c B q.choose e else .stuck
theorem lW{c:MT3}{B:MS3}:∀{k:Nat}{e:E3},whV c B k e ≠ .stuck->whV c B (k+1) e=whV c B k e
 |0,_,q=>absurd rfl q
 |
  k+1,e,q=>by
  have e1:whV c B (k+2) e=(c e).toS λb e1=>if b=true then (B e1).loop (whV c B (k+1)) else .nx e1:=rfl
  have e2:whV c B (k+1) e=(c e).toS λb e1=>if b=true then (B e1).loop (whV c B k) else .nx e1:=rfl
  rw[e2] at q;rw[e1,e2];cases r:c e with
  |exc _ _=>rfl
  |stuck=>rfl
  |
   ok b h1=>
   rw[r] at q;cases b with
   |false=>rfl
   |
    true=>
    have q':(B h1).loop (whV c B k) ≠ .stuck:=q;show (B h1).loop (whV c B (k+1))=(B h1).loop (whV c B k);cases s:B h1 with
    |nx a2=>rw[s] at q';exact lW q'
    |ct a2=>rw[s] at q';exact lW q'
    |_=>rfl
def yI{c:MT3}{B:MS3}{k j:Nat}{e:E3}(q:whV c B k e ≠ .stuck)(hj:k<=j):whV c B j e=whV c B k e:=by
 induction hj with
 |refl=>rfl
 |step _ ih=>rw[lW (by rw[ih];exact q),ih]
def mX{c:MT3}{B:MS3}{k:Nat}{e:E3}(q:whV c B k e ≠ .stuck):wWh c B e=whV c B k e:=by
 have hq:∃k,whV c B k e ≠ .stuck:=⟨k,q⟩;unfold wWh;rw[dif_pos hq];rcases Nat.le_total hq.choose k with z |z
 .exact (yI hq.choose_spec z).symm
 .exact yI q z
def BD(c:MT3)(B:MS3)(e:E3):wWh c B e=(c e).toS λb e1=>if b=true then (B e1).loop (wWh c B) else .nx e1:=by
 by_cases q:∃k,whV c B k e ≠ .stuck
 .obtain⟨k,q⟩:=q;rw[mX q];cases k with
  |zero=>exact absurd rfl q
  |
   succ k=>
   have e2:whV c B (k+1) e=(c e).toS λb e1=>if b=true then (B e1).loop (whV c B k) else .nx e1:=rfl
   rw[e2] at q ⊢;cases r:c e with
   |exc _ _=>rfl
   |stuck=>rfl
   |
    ok b h1=>
    rw[r] at q;cases b with
    |false=>rfl
    |
     true=>
     have q':(B h1).loop (whV c B k) ≠ .stuck:=q;show (B h1).loop (whV c B k)=(B h1).loop (wWh c B);cases s:B h1 with
     |nx a2=>rw[s] at q';exact (mX q').symm
     |ct a2=>rw[s] at q';exact (mX q').symm
     |_=>rfl
 .have e0:wWh c B e=.stuck:=by unfold wWh;rw[dif_neg q]
  rw[e0];have hs:∀k,whV c B (k+1) e=.stuck:=λk=>QX λz=>q ⟨_,z⟩;cases r:c e with
  |stuck=>rfl
  |
   exc c' h'=>
   have:=hs 0
   unfold whV at this;rw[r] at this;cases this
  |
   ok b h1=>
   cases b with
   |
    false=>
    have:=hs 0
    unfold whV at this;rw[r] at this;cases this
   |
    true=>
    have h2:∀k,(B h1).loop (whV c B k)=.stuck:=λk=>by
     have:=hs k
     unfold whV at this;rw[r] at this;exact this
    show SR3.stuck=(B h1).loop (wWh c B);have lim:∀a2,(∀k,whV c B k a2=.stuck)->wWh c B a2=.stuck:=λa2 z=>by unfold wWh;rw[dif_neg (λ⟨k,y⟩=>y (z k))]
    cases s:B h1 with
    |nx a2=>rw[s] at h2;exact (lim a2 h2).symm
    |ct a2=>rw[s] at h2;exact (lim a2 h2).symm
    |stuck=>rfl
    |_=>have:=h2 0;rw[s] at this;cases this
def La(p:PoS X h0 ns e h r2 r3)(q:r3 ≠ .stuck):r2 ≠ .stuck:=by
 cases r3 with
 |stuck=>exact absurd rfl q
 |nx e'=>obtain⟨bn,h',ns',z,_⟩:=p;rw[z];intro y;cases y
 |ct e'=>obtain⟨bn,h',ns',z,_⟩:=p;rw[z];intro y;cases y
 |bk e'=>obtain⟨bn,h',ns',z,_⟩:=p;rw[z];intro y;cases y
 |exc c e'=>obtain⟨bn,h',ns',z,_⟩:=p;rw[z];intro y;cases y
 |rt r e'=>obtain⟨d,bn,h',ns',z,_⟩:=p;rw[z];intro y;cases y
theorem zg(hc:RT c c3)(hB:RS B B3):∀(k:Nat) (X:Nat->Prop) (h0:Nat) (ns:Ns) (e:E3) (ae:AE) (h:AH),Sat X h0 ns e ae h->PoS X h0 ns e h (whN c B k ae h) (whV c3 B3 k e)
 |0,_,_,_,_,_,_,_=>trivial
 |
  k+1,X,h0,ns,e,ae,h,S=>by
  refine PoS.toS (hc X h0 ns e ae h S) λb b' h1 ns1 e1 a1 S1 r1=>?_;cases r1;try dsimp only
  split
  .exact PoS.after S a1 (PoS.loop (ae:=ae) (hB X h0 ns1 e1 ae h1 S1) λae2 h2 d_ e2 a2 S2=>PoS.after S1 a2 (zg hc hB k X h0 d_ e2 ae2 h2 S2))
  .exact .nx a1 S1
def Oy(hc:RT c c3)(hB:RS B B3):RS (sWh c B) (wWh c3 B3):=λX h0 ns e ae h S=>by
 by_cases q:∃k,whV c3 B3 k e ≠ .stuck
 .obtain⟨k,q⟩:=q;rw[mX q];have p:=zg hc hB k X h0 ns e ae h S;rw[Aw (La p q)];exact p
 .unfold wWh;rw[dif_neg q];trivial
end
noncomputable def fK(o:Option Nat)(s:Sl)(e:E3):E3:=match o,s with
 |some i,.mu v=>(match e[i]? with
  |some t=>e.set i (t.re v)
  |none=>e)
 |_,_=>e
noncomputable def a9:List (Option Nat)->E3->E3->E3
 |o::sub,s::inner,e=>a9 sub inner (fK o s e)
 |_,_,e=>e
def vj(hn:∀v,o=some i->s=.mu v->False):(fK o s e)[i]?=e[i]?:=by
 unfold fK;split
 .rename_i i' v;split
  .rename_i t q;by_cases z:i=i'
   .subst z;exact (hn v rfl rfl).elim
   .rw[bo z]
  .rfl
 .rfl
theorem om:∀{sub:Se}{e2 e:E3}{i:Nat},(∀(j:Nat) v,sub[j]?=some (some i)->e2[j]?=some (.mu v)->False)->(a9 sub e2 e)[i]?=e[i]?
 | [],_,_,_,_=>rfl
 |_::_,[],_,_,_=>rfl
 |
  o::sub,s::e2,e,i,hn=>by
  show (a9 sub e2 (fK o s e))[i]?=_;rw[om (λj v q1 q2=>hn (j+1) v (by simpa using q1) (by simpa using q2))];exact vj λv z1 z2=>hn 0 v (by rw[z1];rfl) (by rw[z2];rfl)
theorem vN:∀{sub:Se}{e2 e:E3}{i j:Nat}{v:Val},(∀(j k:Nat) i,sub[j]?=some (some i)->sub[k]?=some (some i)->j=k)->sub[j]?=some (some i)->e2[j]?=some (.mu v)->(a9 sub e2 e)[i]?=(e[i]?).map (Sl.re · v)
 | [],_,_,_,j,_,_,q,_=>by simp at q
 |_::_,[],_,_,j,_,_,_,q=>by simp at q
 |
  o::sub,s::e2,e,i,0,v,hj,q1,q2=>by
  have z1:o=some i:=by simpa using q1
  have z2:s=.mu v:=by simpa using q2
  subst z1 z2;show (a9 sub e2 (fK (some i) (.mu v) e))[i]?=_;rw[om (λk u y1 _=>by have:=hj 0 (k+1) i rfl (by simpa using y1);omega)];unfold fK;dsimp only;split
  .rename_i t q;rw[bF (p_.mp q).1,q];rfl
  .rename_i q;rw[q];rfl
 |
  o::sub,s::e2,e,i,j+1,v,hj,q1,q2=>by
  show (a9 sub e2 (fK o s e))[i]?=_;have q1':sub[j]?=some (some i):=by simpa using q1
  rw[vN (λa b c y1 y2=>by have:=hj (a+1) (b+1) c (by simpa using y1) (by simpa using y2);omega) q1' (by simpa using q2)];rw[vj λv z1 _=>by have:=hj 0 (j+1) i (by rw[z1];rfl) q1;omega]
noncomputable def bU(sub:Se)(ns:Ns):Ns:=sub.map λo=>o.bind λi=>(ns[i]?).bind id
def cm{sub:Se}{ns:Ns}{j n:Nat}(q:(bU sub ns)[j]?=some (some n)):∃i,sub[j]?=some (some i)/\ns[i]?=some (some n):=by
 unfold bU at q;rw[N_] at q;cases z:sub[j]? with
 |none=>rw[z] at q;cases q
 |
  some o=>
  rw[z] at q;cases o with
  |none=>cases q
  |
   some i=>
   refine⟨i,rfl,?_⟩;have q':(ns[i]?).bind id=some n:=K_ q;cases y:ns[i]? with
   |none=>rw[y] at q';cases q'
   |some w=>rw[y] at q';have:w=some n:=q';rw[this]
def EW{sub:Se}{ns:Ns}{j i:Nat}{w:Option Nat}(q:sub[j]?=some (some i))(q2:ns[i]?=some w):(bU sub ns)[j]?=some w:=by unfold bU;rw[N_,q];show some ((ns[i]?).bind id)=some w;rw[q2];rfl
structure Lnk(sub:Se)(e ei:E3):Prop where
 inj:∀(j k:Nat) (i:Nat),sub[j]?=some (some i)->sub[k]?=some (some i)->j=k
 mu:∀(j:Nat) (v:Val),ei[j]?=some (.mu v)->∃(i:Nat) (s:Sl),sub[j]?=some (some i)/\e[i]?=some s/\s.mt=true
 mt:∀(j:Nat) (s:Sl),ei[j]?=some s->s.mt=true->∃v,s=.mu v
def Sat.back(S:Sat X h0 ns e ae h)(K:Lnk sub e ei)(a:Stp (bU sub ns) ei h d_ e2 h2)
 (hY:∀n,Y n->n<h2.length/\(X n\/h.length<=n)) (hXY:∀n,X n->Y n)
 (hc:∀(j:Nat) v n,e2[j]?=some (.mu v)->d_[j]?=some (some n)->∃o,h2[n]?=some o/\bQ o/\Rc (Oc Y ns) h2 o v):Sat Y h0 ns (a9 sub e2 e) ae h2/\Stp ns e h ns (a9 sub e2 e) h2:=by
 have hM:∀n,Mt (bU sub ns) ei n->Mt ns e n:=λn ⟨j,s,z1,z2,z3⟩=>by obtain⟨v,rfl⟩:=K.mt j s z2 z3;obtain⟨i,s',y1,y2,y3⟩:=K.mu j v z2;obtain⟨i',y4,y5⟩:=cm z1;rw[y1] at y4;cases y4;exact⟨i,s',y5,y2,y3⟩
 have mv:Mov (Oc X ns) (Oc Y ns) h h2:=λn o p q=>⟨⟨λz=>by
  rcases (hY n z).2 with z |z
  .exact p.1 z
  .have:=b9 q;omega,p.2⟩,a.keep n o q λz=>by obtain⟨j,s,z1,_⟩:=z;obtain⟨i,_,y⟩:=cm z1;exact p.2 (aV.mpr ⟨i,y⟩)⟩
 have key:∀i:Nat,(∃(j:Nat) (v:Val) (s:Sl),sub[j]?=some (some i)/\e2[j]?=some (.mu v)/\e[i]?=some s/\s.mt=true/\(a9 sub e2 e)[i]?=some (s.re v)/\d_[j]?=ns[i]?)\/((∀n,ns[i]?=some (some n)->¬ Mt (bU sub ns) ei n)/\(a9 sub e2 e)[i]?=e[i]?):=λi=>by
  by_cases hx:∃(j:Nat) (v:Val),sub[j]?=some (some i)/\e2[j]?=some (.mu v)
  .obtain⟨j,v,q1,q2⟩:=hx;obtain⟨u,q3,q4⟩:=a.mu j v q2;obtain⟨i',s,y1,y2,y3⟩:=K.mu j u q3;rw[q1] at y1;cases y1;refine .inl ⟨j,v,s,q1,q2,y2,y3,by rw[vN K.inj q1 q2,y2];rfl,?_⟩;rw[q4];have hl:i<ns.length:=by rw[S.l2];exact (p_.mp y2).1
   rw[y_ hl];exact EW q1 (y_ hl)
  .refine .inr ⟨λn q ⟨j,s,z1,z2,z3⟩=>hx ?_,om λj v y1 y2=>hx ⟨j,v,y1,y2⟩⟩;obtain⟨v,rfl⟩:=K.mt j s z2 z3;obtain⟨i',y4,y5⟩:=cm z1;have:i'=i:=S.inj i' i n y5 q;subst this;obtain⟨v',y6,_⟩:=a.mu' j v z2;exact⟨j,v',y4,y6⟩
 have lenB:(a9 sub e2 e).length=e.length:=by
  clear key hc a K S hY hXY hM mv;induction sub generalizing e2 e with
  |nil=>rfl
  |
   cons o sub ih=>
   cases e2 with
   |nil=>rfl
   |
    cons s e2=>
    show (a9 sub e2 (fK o s e)).length=_;rw[ih];unfold fK;split
    .split
     .rw[I_]
     .rfl
    .rfl
 refine⟨⟨by rw[lenB];exact S.l1,by rw[lenB];exact S.l2,F_ S.lh a.len,λn z=>(hY n z).1,S.inj,λi n q z=>?_,λi s q=>?_⟩,⟨a.len,λm o q hm=>a.keep m o q λz=>hm (hM m z),λ_ _ q=>.inl q,λi s q hl=>?_,λi s q hl=>?_,λi v q=>?_,λi v q=>?_⟩⟩
 .rcases (hY n z).2 with z |z
  .exact S.nx i n q z
  .obtain⟨_,_,_,_,_,_,_,q',_⟩:=S.own q
   have:=b9 q';omega
 .rcases key i with ⟨j,v,s0,k1,k2,k3,k4,k5,k6⟩ |⟨k1,k2⟩
  .rw[k5] at q;cases q;have y:=S.sl i s0 k3;cases s0 with
   |ow u=>obtain⟨n,o,y1,y2,y3,_⟩:=y;obtain⟨o',z1,z2,z3⟩:=hc j v n k2 (by rw[k6];exact y1);exact⟨n,o',y1,y2,y3,z1,z2,z3⟩
   |mu u=>obtain⟨n,o,y1,y2,_⟩:=y;obtain⟨o',z1,z2,z3⟩:=hc j v n k2 (by rw[k6];exact y1);exact⟨n,o',y1,y2,z1,z2,z3⟩
   |_=>cases k4
  .rw[k2] at q;exact (S.sl i s q).mono mv λn o q1 q2=>a.keep n o q2 (k1 n q1)
 .rcases key i with ⟨j,v,s0,k1,k2,k3,k4,k5,k6⟩ |⟨k1,k2⟩
  .rw[k3] at q;cases q;cases s <;> first |cases hl;done |cases k4;done
  .rw[k2];exact⟨q,rfl⟩
 .rcases key i with ⟨j,v,s0,k1,k2,k3,k4,k5,k6⟩ |⟨k1,k2⟩
  .rw[k5] at q;cases q;cases s0 <;> first |cases hl;done |cases k4;done
  .rw[k2] at q;exact⟨q,rfl⟩
 .rcases key i with ⟨j,u,s0,k1,k2,k3,k4,k5,k6⟩ |⟨k1,k2⟩
  .rw[k5] at q;cases s0 with
   |mu w=>exact⟨w,k3,rfl⟩
   |ow w=>cases q
   |_=>cases k4
  .rw[k2] at q;exact⟨v,q,rfl⟩
 .rcases key i with ⟨j,u,s0,k1,k2,k3,k4,k5,k6⟩ |⟨k1,k2⟩
  .rw[k3] at q;cases q;exact⟨u,k5,rfl⟩
  .exact⟨v,by rw[k2];exact q,rfl⟩
noncomputable def inS:Sl->Sl
 |.ow v=>.mu v
 |.lo v=>.lm v
 |s=>s
noncomputable def bL(sub:Se)(e:E3):E3:=sub.map λo=>match o with
 |none=>.no
 |some i=>match e[i]? with
  |some s=>inS s
  |none=>.no
noncomputable def lcV(g:MG3)(c:MT3)(F:ME3):List Val->List Val->E3->R3 (List Val)
 | [],acc,e=>.ok acc e
 |v::vs,acc,e=>if acc.length<16777216 then (match g v e with
  |none=>.stuck
  |some e1=>(c e1).bind λb e2=>if b=true then (F e2).bind λt e3=>(match cH e3 t with
   |some (e4,y)=>lcV g c F vs (acc++[y]) e4
   |none=>.stuck) else lcV g c F vs acc e2) else .stuck
noncomputable def vLC(I:MI3)(sub:Se)(g:MG3)(c:MT3)(F:ME3):ME3:=λe=>(I e).bind λp e1=>match lcV g c F p.1 [] (bL sub (lockO e1 p.2)) with
 |.ok ys e2=>if ys.length<=16777216 then .ok (.new (.lst ys)) (eV (a9 sub e2 (lockO e1 p.2)) p.2) else .stuck
 |_=>.stuck
def nB(sub:Se):Prop:=∀(j k:Nat) (i:Nat),sub[j]?=some (some i)->sub[k]?=some (some i)->j=k
def AN(h:(sub.filterMap id).Nodup):nB sub:=by
 induction sub with
 |nil=>intro j k i q;simp at q
 |
  cons o sub ih=>
  have em:(sub.filterMap id).Nodup:=by
   cases o with
   |none=>simpa using h
   |some i=>rw[Qb] at h;simp at h;exact h.2
  have hno:∀(i k:Nat),o=some i->sub[k]?=some (some i)->False:=λi k z q=>by subst z;rw[Qb] at h;simp at h;exact h.1 (P8 q)
  intro j k i q1 q2;cases j with
  |
   zero=>
   cases k with
   |zero=>rfl
   |succ k=>exact (hno i k (by simpa using q1) (by simpa using q2)).elim
  |
   succ j=>
   cases k with
   |zero=>exact (hno i j (by simpa using q2) (by simpa using q1)).elim
   |succ k=>exact PF (· + 1) (ih em j k i (by simpa using q1) (by simpa using q2))
def Xin(X:Nat->Prop)(ns:Ns)(sub:Se)(n:Nat):Prop:=X n\/(some n∈ns/\some n∉bU sub ns)
def ma(q:some n∈bU sub ns):some n∈ns:=by obtain⟨j,q⟩:=aV.mp q;obtain⟨i,_,q2⟩:=cm q;exact aV.mpr ⟨i,q2⟩
def jc{sub:Se}{e:E3}{j:Nat}{s:Sl}(q:(bL sub e)[j]?=some s):(sub[j]?=some none/\s=.no)\/(∃i,sub[j]?=some (some i)/\((e[i]?=none/\s=.no)\/∃t,e[i]?=some t/\s=inS t)):=by
 unfold bL at q;rw[N_] at q;cases z:sub[j]? with
 |none=>rw[z] at q;cases q
 |
  some o=>
  rw[z] at q;cases o with
  |none=>cases q;exact .inl ⟨rfl,rfl⟩
  |
   some i=>
   refine .inr ⟨i,rfl,?_⟩;have q':=K_ q;dsimp only at q';cases y:e[i]? with
   |none=>rw[y] at q';exact .inl ⟨rfl,q'.symm⟩
   |some t=>rw[y] at q';exact .inr ⟨t,rfl,q'.symm⟩
def Sat.inner(S:Sat X h0 ns e ae h)(hs:nB sub):Sat (Xin X ns sub) h0 (bU sub ns) (bL sub e) (ji sub ae) h:=by
 refine⟨by unfold ji bL;rw[k_,k_],by unfold bU bL;rw[k_,k_],S.lh,λn z=>?_,λj k n q1 q2=>?_,λj n q z=>?_,λj s q=>?_⟩
 .rcases z with z |⟨z,_⟩
  .exact S.xl n z
  .obtain⟨i,z⟩:=aV.mp z;obtain⟨_,_,_,_,_,_,_,q',_⟩:=S.own z;exact b9 q'
 .obtain⟨i,y1,y2⟩:=cm q1;obtain⟨i',y3,y4⟩:=cm q2
  have:=S.inj i i' n y2 y4
  subst this;exact hs j k i y1 y3
 .rcases z with z |⟨_,z⟩
  .obtain⟨i,y1,y2⟩:=cm q;exact S.nx i n y2 z
  .exact z (aV.mpr ⟨j,q⟩)
 .have mv:Mov (Oc X ns) (Oc (Xin X ns sub) (bU sub ns)) h h:=λn o p q=>⟨⟨λz=>by
   rcases z with z |⟨z,_⟩
   .exact p.1 z
   .exact p.2 z,λz=>p.2 (ma z)⟩,q⟩
  have hj:∀{o},sub[j]?=some o->(bU sub ns)[j]?=some (o.bind λi=>(ns[i]?).bind id)/\(ji sub ae)[j]?=some (o.bind λi=>(ae[i]?).bind id):=λ{o} z=>by unfold bU ji;rw[N_,N_,z];exact⟨rfl,rfl⟩
  rcases jc q with ⟨z,rfl⟩ |⟨i,z,⟨y,rfl⟩ |⟨t,y,rfl⟩⟩
  .rw[(hj z).1];rfl
  .rw[(hj z).1];show some ((ns[i]?).bind id)=some none;have:ns[i]?=none:=by rw[P6] at y ⊢;rw[S.l2];exact y
   rw[this];rfl
  .have k:=(S.sl i t y).mono mv λ_ _ _ q=>q;rw[(hj z).1,(hj z).2];show SlR _ h0 (some ((ns[i]?).bind id)) (some ((ae[i]?).bind id)) h (inS t);have w1:∀x,ns[i]?=some x->some ((ns[i]?).bind id)=some x:=λx q=>by rw[q];rfl
   have w2:∀x,ae[i]?=some x->some ((ae[i]?).bind id)=some x:=λx q=>by rw[q];rfl
   cases t with
   |no=>rw[w1 _ k];rfl
   |sh v=>obtain⟨k1,x,k2,k3⟩:=k;rw[w1 _ k1,w2 _ k2];exact⟨rfl,x,rfl,k3⟩
   |ow v=>obtain⟨m,o,k1,k2,_,k3⟩:=k;rw[w1 _ k1,w2 _ k2];exact⟨m,o,rfl,rfl,k3⟩
   |lo v=>obtain⟨m,o,k1,k2,_,k3⟩:=k;rw[w1 _ k1,w2 _ k2];exact⟨m,o,rfl,rfl,k3⟩
   |mu v=>obtain⟨m,o,k1,k2,k3⟩:=k;rw[w1 _ k1,w2 _ k2];exact⟨m,o,rfl,rfl,k3⟩
   |lm v=>obtain⟨m,o,k1,k2,k3⟩:=k;rw[w1 _ k1,w2 _ k2];exact⟨m,o,rfl,rfl,k3⟩
def we(hs:nB sub):Lnk sub e (bL sub e):=by
 refine⟨hs,λj v q=>?_,λj s q hm=>?_⟩
 .rcases jc q with ⟨_,z⟩ |⟨i,z,⟨_,y⟩ |⟨t,y,y2⟩⟩
  .cases z
  .cases y
  .refine⟨i,t,z,y,?_⟩;cases t <;> first |rfl |cases y2
 .rcases jc q with ⟨_,z⟩ |⟨i,z,⟨_,y⟩ |⟨t,y,y2⟩⟩
  .subst z;cases hm
  .subst y;cases hm
  .subst y2;cases t with
   |ow v=>exact⟨v,rfl⟩
   |mu v=>exact⟨v,rfl⟩
   |_=>cases hm
section
variable{I:MI}{I3:MI3}{g:MG}{g3:MG3}{c:MT}{c3:MT3}{F:ME}{F3:ME3}
def Hq(S:Sat X h0 ns e ae h)(hg:RG g g3)(hc:RT c c3)(hF:RE F F3)(hG:∀ns' e' h',Stp ns e h ns' e' h'->G h'):
 ∀
  {ds:List D}{vs:List Val},Rds (Oc X ns) h ds vs->∀{acc:List D}{accv:List Val}{ns1:Ns}{e1:E3}{g_:AE}{h1:AH},Stp ns e h ns1 e1 h1->Sat X h0 ns1 e1 g_ h1->Rds (Oc X ns1) h1 acc accv->lcV g3 c3 F3 vs accv e1=.ok ys e2->
  ∃dy h2 d_ ae2,lcL G g c F ds acc g_ h1=.ok dy h2/\Stp ns e h d_ e2 h2/\Sat X h0 d_ e2 ae2 h2/\Rds (Oc X d_) h2 dy ys:=by
 intro ds;induction ds with
 |nil=>intro vs r acc accv ns1 e1 g_ h1 a1 S1 ra q;cases r;unfold lcL;rw[if_pos (hG _ _ _ a1)];cases q;exact⟨acc,h1,ns1,g_,rfl,a1,S1,ra⟩
 |
  cons d0 ds ih=>
  intro vs r acc accv ns1 e1 g_ h1 a1 S1 ra q;cases r with
  |
   cons r rr=>
   rename_i v vs;unfold lcV at q;unfold lcL;by_cases hl:accv.length<16777216
   .rw[if_pos hl] at q;rw[if_pos ⟨hG _ _ _ a1,by rw[ra.len];exact hl⟩];cases q1:g3 v e1 with
    |none=>rw[q1] at q;cases q
    |
     some e3=>
     rw[q1] at q;dsimp only at q;obtain⟨ae3,ns3,p3,S3,a3⟩:=hg _ _ _ _ _ _ _ _ _ S1 (r.mono (a1.mov S)) q1;rw[p3,fL];have a13:=a1.trans S a3;have pc:=hc X h0 ns3 e3 ae3 h1 S3;cases q4:c3 e3 with
     |stuck=>rw[q4] at q;cases q
     |exc _ _=>rw[q4] at q;cases q
     |
      ok b e4=>
      rw[q4] at q pc;obtain⟨b',h4,ns4,p4,a4,S4,rfl⟩:=pc;rw[p4,fL];have a14:=a13.trans S a4;have ra4:=(ra.mono (a3.mov S1)).mono (a4.mov S3);have q':(if b'=true then (F3 e4).bind λt e3=>(match cH e3 t with
       |some (e4,y)=>lcV g3 c3 F3 _ (accv++[y]) e4
       |none=>.stuck) else lcV g3 c3 F3 _ accv e4)=.ok ys e2:=q
      by_cases hb:b'=true
      .rw[if_pos hb] at q' ⊢;have pF:=hF X h0 0 ns4 e4 ae3 h4 S4 (M_ _);cases q5:F3 e4 with
       |stuck=>rw[q5] at q';cases q'
       |exc _ _=>rw[q5] at q';cases q'
       |
        ok t e5=>
        rw[q5] at q' pF;obtain⟨d5,h5,ns5,p5,a5,S5,r5⟩:=pF;rw[p5,fL];have q'':(match cH e5 t with
         |some (e4,y)=>lcV g3 c3 F3 _ (accv++[y]) e4
         |none=>.stuck)=.ok ys e2:=q'
        cases q6:cH e5 t with
        |none=>rw[q6] at q'';cases q''
        |some w=>obtain⟨e6,y⟩:=w;rw[q6] at q'';obtain⟨ns6,S6,a6,r6⟩:=fI S5 r5 q6;exact ih rr ((a14.trans S a5).trans S a6) S6 (((ra4.mono (a5.mov S4)).mono (a6.mov S5)).append (.cons r6 .nil)) q''
      .rw[if_neg hb] at q' ⊢;exact ih rr a14 S4 ra4 q'
   .rw[if_neg hl] at q;cases q
def Nf(hs:(sub.filterMap id).Nodup)(hI:RI I I3)(hg:RG g g3)(hc:RT c c3)(hF:RE F F3):RE (eLC I sub g c F) (vLC I3 sub g3 c3 F3):=λX h0 L ns e ae h S hl=>
 Po.bind
  S (hI X h0 ns e ae h S) λit p h1 ns1 e1 a1 S1 r1=>by
  try dsimp only
  obtain⟨r2,gd,hk⟩:=r1;have hs':=AN hs;have S2:=S1.lockO p.2;have S3:=S2.inner hs';cases q:lcV g3 c3 F3 p.1 [] (bL sub (lockO e1 p.2)) with
  |stuck=>trivial
  |exc _ _=>trivial
  |
   ok ys e2=>
   dsimp only;split
   .rename_i hy;have gd':∀ns' e' h',Stp (bU sub ns1) (bL sub (lockO e1 p.2)) h1 ns' e' h'->it.guard h':=λns' e' h' a=>gd h' λm o qm hm=>a.keep m o qm λ⟨j,s,z1,z2,z3⟩=>by
     obtain⟨i,y1,y2⟩:=cm z1;rcases hm with hm |⟨k,hk1,hk2⟩
     .exact hm.2 (aV.mpr ⟨i,y2⟩)
     .have:i=k:=S1.inj i k m y2 hk2;subst this;obtain⟨s',w1,w2⟩:=hk i hk1;rcases jc z2 with ⟨z,_⟩ |⟨i',z,y⟩
      .rw[y1] at z;cases z
      .rw[y1] at z;cases z;have hl:(lockO e1 p.2)[i]?=some (jn s'):=by rw[hk1];exact oh w1
       rcases y with ⟨y,_⟩ |⟨t,y,rfl⟩
       .rw[hl] at y;cases y
       .rw[hl] at y;cases y;cases s' <;> first |cases w2;done |cases z3;done
    have mvi:Mov (Oc X ns1) (Oc (Xin X ns1 sub) (bU sub ns1)) h1 h1:=λn o p q=>⟨⟨λz=>by
     rcases z with z |⟨z,_⟩
     .exact p.1 z
     .exact p.2 z,λz=>p.2 (ma z)⟩,q⟩
    obtain⟨dy,h2,d_,ae2,p2,a2,S4,r4⟩:=Hq (G:=it.guard) S3 hg hc hF gd' (r2.mono mvi) .refl S3 .nil q;have k3:∀n,Oc (Xin X ns1 sub) d_ n->Oc X ns1 n:=λn z=>⟨λy=>z.1 (.inl y),λy=>by
     by_cases w:some n∈bU sub ns1
     .obtain⟨j,w⟩:=aV.mp w;obtain⟨s,v,o,b1,b2,_⟩:=S3.own w;rcases b2 with b2 |b2
      .obtain⟨v',rfl⟩:=(we (e:=lockO e1 p.2) hs').mt j s b1 b2;obtain⟨u,c1,c2⟩:=a2.mu' j v' b1;exact z.2 (aV.mpr ⟨j,by rw[c2];exact w⟩)
      .obtain⟨c1,c2⟩:=a2.lk j s b1 b2;exact z.2 (aV.mpr ⟨j,by rw[c2];exact w⟩)
     .exact z.1 (.inr ⟨y,w⟩)⟩
    have bk:=S2.back (Y:=X) (we hs') a2 (λn z=>⟨E_ (S2.xl n z) a2.len,.inl z⟩) (λ_ z=>z) λj v n q1 q2=>by obtain⟨s,u,o,b1,b2,b3,b4,b5,b6,b7⟩:=S4.own q2;rw[q1] at b1;cases b1;cases b3;exact⟨o,b5,b6,b7.mono λm o' z y=>⟨k3 m z,y⟩⟩
    obtain⟨S5,a5⟩:=bk;have r5:Rds (Oc X ns1) h2 dy ys:=r4.mono λm o' z y=>⟨k3 m z,y⟩;have ii:∀(e':E3),Sat X h0 ns1 e' ae h2->Stp ns1 e1 h1 ns1 e' h2->Po X h0 ns1 e1 ae h1 (relE X h0 L ae) ((noX (lcL it.guard g c F it.items [] (ji sub ae) h1)).bind dH) (.ok (.new (.lst ys)) e'):=λe' S6 a6=>by rw[p2];have pp:=BvR.po (L:=L) (r:=dH dy h2) (b:=.new (.lst ys)) S6 (F_ hl (F_ a1.len a6.len)) ⟨.lst dy,by unfold dH;rw[if_pos (by rw[r5.len];exact hy)],trivial,.lst r5⟩;obtain⟨d,h',ns',y,y1,y2,y3⟩:=pp;exact⟨d,h',ns',y,a6.trans S1 y1,y2,y3⟩
    cases hp:p.2 with
    |none=>rw[hp] at S5 a5;exact ii _ S5 a5
    |some k=>rw[hp] at S5 a5;obtain⟨s,w1,w2⟩:=hk k hp;exact ii _ (S5.unlock k) (a5.unlock w1 w2)
   .trivial
end
inductive R3F where
 |ok (r:Rt) (mv:List Val) |exc (c:Str) (mv:List Val) |stuck
abbrev Fn3:=List Val->R3F
noncomputable def sl1(b:Bool)(v:Val):Sl:=if b=true then .mu v else .sh v
noncomputable def sls(ms:List Bool)(vs:List Val):E3:=List.zipWith sl1 ms vs
noncomputable def aF:List Bool->List Val->E3
 |true::ms,v::vs=>.mu v::aF ms vs
 |true::ms,[]=>.no::aF ms []
 |false::ms,vs=>.no::aF ms vs
 | [],_=>[]
noncomputable def muV:List Bool->E3->Option (List Val)
 |true::ms,.mu v::e=>(muV ms e).map (v :: ·)
 |true::_,_=>none
 |false::ms,_::e=>muV ms e
 |false::_,[]=>none
 | [],_=>some []
def RFp(X:Nat->Prop)(ps:Ns)(ms:List Bool)(vs:List Val)(ds:List D)(h:AH)(r2:R D):R3F->Prop
 |.stuck=>True
 |.ok r mv=>∃d h',r2=.ok d h'/\Stp ps (sls ms vs) h ps (aF ms mv) h'/\RtR X h.length ps (aF ms mv) (ds.map some) h' d r
 |.exc c mv=>∃h',r2=.exc c h'/\Stp ps (sls ms vs) h ps (aF ms mv) h'/\Sat X h.length ps (aF ms mv) (ds.map some) h'
def RF(ms:List Bool)(G2:Fn)(G3:Fn3):Prop:=∀X ps ds vs h,vs.length=ms.length->Sat X h.length ps (sls ms vs) (ds.map some) h->RFp X ps ms vs ds h (G2 ds h) (G3 vs)
noncomputable def fnV(ms:List Bool)(N:Nat)(F:MS3):Fn3:=λvs=>if vs.length=ms.length then (match F (sls ms vs++List.replicate (N-vs.length) .no) with
 |.nx e=>(match muV ms e with |some mv=>.ok (.val .non) mv |none=>.stuck)
 |.rt r e=>(match muV ms e with |some mv=>.ok r mv |none=>.stuck)
 |.exc c e=>(match muV ms e with |some mv=>.exc c mv |none=>.stuck)
 |_=>.stuck) else .stuck
def eY{ms:List Bool}{vs:List Val}{i:Nat}{s:Sl}(q:(sls ms vs)[i]?=some s):∃b v,ms[i]?=some b/\vs[i]?=some v/\s=sl1 b v:=by
 unfold sls at q;rw[Qn] at q;cases h1:ms[i]? with
 |none=>rw[h1] at q;cases q
 |
  some b=>
  cases h2:vs[i]? with
  |none=>rw[h1,h2] at q;cases q
  |some v=>rw[h1,h2] at q;cases q;exact⟨b,v,rfl,rfl,rfl⟩
theorem gU:∀{ms:List Bool}{e:E3}{mv:List Val}{i:Nat}{s:Sl},muV ms e=some mv->(aF ms mv)[i]?=some s->(ms[i]?=some false/\s=.no)\/(ms[i]?=some true/\∃v,e[i]?=some (.mu v)/\s=.mu v)
 | [],_,_,_,_,_,q=>by unfold aF at q;simp at q
 |
  true::ms,.mu v::e,mv,i,s,q,q2=>by
  obtain⟨mv',z1,z2⟩:=G_.mp (show (muV ms e).map (v :: ·)=some mv from q);subst z2;cases i with
  |zero=>
   right;have:Sl.mu v=s:=by simpa [aF] using q2
   subst this;exact⟨rfl,v,rfl,rfl⟩
  |
   succ i=>
   have:=gU (i:=i) (s:=s) z1 (by simpa [aF] using q2)
   simpa using this
 |true::ms,[],mv,i,s,q,q2=>by cases q
 |true::ms,.no::e,mv,i,s,q,q2=>by cases q
 |true::ms,.sh v::e,mv,i,s,q,q2=>by cases q
 |true::ms,.ow v::e,mv,i,s,q,q2=>by cases q
 |true::ms,.lo v::e,mv,i,s,q,q2=>by cases q
 |true::ms,.lm v::e,mv,i,s,q,q2=>by cases q
 |false::ms,[],mv,i,s,q,q2=>by cases q
 |
  false::ms,t::e,mv,i,s,q,q2=>by
  cases i with
  |zero=>
   left;have:Sl.no=s:=by simpa [aF] using q2
   exact⟨rfl,this.symm⟩
  |
   succ i=>
   have:=gU (i:=i) (s:=s) (show muV ms e=some mv from q) (by simpa [aF] using q2)
   simpa using this
theorem nT:∀{ms:List Bool}{e:E3}{mv:List Val}{i:Nat},muV ms e=some mv->ms[i]?=some true->∃v,e[i]?=some (.mu v)/\(aF ms mv)[i]?=some (.mu v)
 | [],_,_,i,_,q=>by simp at q
 |
  true::ms,.mu v::e,mv,i,q,q2=>by
  obtain⟨mv',z1,z2⟩:=G_.mp (show (muV ms e).map (v :: ·)=some mv from q);subst z2;cases i with
  |zero=>exact⟨v,rfl,rfl⟩
  |succ i=>obtain⟨u,y1,y2⟩:=nT (i:=i) z1 (by simpa using q2);exact⟨u,by simpa using y1,by simpa [aF] using y2⟩
 |true::ms,[],mv,i,q,q2=>by cases q
 |true::ms,.no::e,mv,i,q,q2=>by cases q
 |true::ms,.sh v::e,mv,i,q,q2=>by cases q
 |true::ms,.ow v::e,mv,i,q,q2=>by cases q
 |true::ms,.lo v::e,mv,i,q,q2=>by cases q
 |true::ms,.lm v::e,mv,i,q,q2=>by cases q
 |false::ms,[],mv,i,q,q2=>by cases q
 |
  false::ms,t::e,mv,i,q,q2=>by
  cases i with
  |zero=>simp at q2
  |succ i=>obtain⟨u,y1,y2⟩:=nT (i:=i) (show muV ms e=some mv from q) (by simpa using q2);exact⟨u,by simpa using y1,by simpa [aF] using y2⟩
theorem gO:∀{ms:List Bool}{mv:List Val},(aF ms mv).length=ms.length
 | [],_=>rfl
 |true::ms,v::mv=>by show (aF ms mv).length+1=ms.length+1;rw[gO]
 |true::ms,[]=>by show (aF ms []).length+1=ms.length+1;rw[gO]
 |false::ms,mv=>by show (aF ms mv).length+1=ms.length+1;rw[gO]
def DU(hF:RS F F3):RF ms (fnD N F) (fnV ms N F3):=λX ps ds vs h hl S=>by
 unfold fnV;rw[if_pos hl];have lS:(sls ms vs).length=vs.length:=by unfold sls;rw[Qx];omega
 have lD:ds.length=vs.length:=by have:=S.l1;rw[k_,lS] at this;exact this
 have lP:ps.length=vs.length:=S.l2.trans lS;have ltS:∀{i:Nat},i<ms.length->i<(sls ms vs).length:=λh=>by omega
 have ltP:∀{i:Nat},i<(sls ms vs).length->i<ps.length:=λh=>S.l2.symm ▸ h;have S1
  : Sat X h.length (ps++List.replicate (N-vs.length) none) (sls ms vs++List.replicate (N-vs.length) .no) (ds.map some++List.replicate (N-vs.length) none) h:=by
  have mns:∀n,some n∈ps++List.replicate (N-vs.length) (none:Option Nat) ↔ some n∈ps:=λn=>by
   rw[Qo];constructor
   .rintro (z |z)
    .exact z
    .have:=List.eq_of_mem_replicate z;cases this
   .exact .inl
  have gns:∀{i n:Nat},(ps++List.replicate (N-vs.length) (none:Option Nat))[i]?=some (some n)->ps[i]?=some (some n):=λ{i n} q=>by
   rw[Rx] at q;split at q
   .exact q
   .rw[PC] at q;split at q <;> cases q
  refine⟨?_,?_,S.lh,S.xl,λi j n q1 q2=>S.inj i j n (gns q1) (gns q2),λi n q=>S.nx i n (gns q),λi s q=>?_⟩
  .rw[z_,z_,PL,PL,S.l1]
  .rw[z_,z_,PL,PL,S.l2]
  .rw[Rx] at q;split at q
   .rename_i hi;have k:=S.sl i s q;rw[L_ (ltP hi),L_ (by rw[S.l1];exact hi)];exact k.mono (λn o p q=>⟨⟨p.1,λz=>p.2 ((mns n).mp z)⟩,q⟩) λ_ _ _ q=>q
   .rename_i hi;rw[PC] at q;split at q
    .cases q;rw[O8 (by rw[S.l2];exact Nat.le_of_not_lt hi),PC,if_pos (by rw[S.l2];assumption)];rfl
    .cases q
 have p:=hF _ _ _ _ _ _ S1;have e2:fnD N F ds h=match F (ds.map some++List.replicate (N-vs.length) none) h with
  |.nx _ h'=>.ok .non h'
  |.rt d h'=>.ok d h'
  |.exc c _ h'=>.exc c h'
  |_=>.stuck:=by rw[<- lD];rfl
 rw[e2];have ii:∀(Y:Nat->Prop) (ns':Ns) (e':E3) (bn:AE) (h':AH) (mv:List Val),(∀n,X n->Y n)->Stp (ps++List.replicate (N-vs.length) none) (sls ms vs++List.replicate (N-vs.length) .no) h ns' e' h'->Sat Y h.length ns' e' bn h'->muV ms e'=some mv->
  Stp ps (sls ms vs) h ps (aF ms mv) h'/\Sat Y h.length ps (aF ms mv) (ds.map some) h'/\∀n,Oc Y ns' n->Oc Y ps n:=by
  intro Y ns' e' bn h' mv hXY a S2 qm;have kmu:∀{i:Nat},ms[i]?=some true->∃v u n o,e'[i]?=some (.mu v)/\(aF ms mv)[i]?=some (.mu v)/\(sls ms vs)[i]?=some (.mu u)/\ns'[i]?=ps[i]?/\ps[i]?=some (some n)/\(ds.map some)[i]?=some (some (.ref n))/\h'[n]?=some o/\bQ o/\Rc (Oc Y ns') h' o v:=by intro i hi;obtain⟨v,y1,y2⟩:=nT qm hi;have hil:i<ms.length:=(p_.mp hi).1;obtain⟨u,y3,y4⟩:=a.mu i v y1;rw[L_ (ltS hil)] at y3;rw[L_ (ltP (ltS hil))] at y4;obtain⟨n,o,z1,z2,_⟩:=S.sl i _ y3;obtain⟨n',o',w1,w2,w3,w4,w5⟩:=S2.sl i _ y1;rw[y4,z1] at w1;cases w1;exact⟨v,u,n,o',y1,y2,y3,y4,z1,z2,w3,w4,w5⟩
  have kown:∀{i n:Nat},ps[i]?=some (some n)->ms[i]?=some true:=λ{i n} q=>by
   obtain⟨s,v,o,z1,z2,_⟩:=S.own q;obtain⟨b,u,y1,_,y2⟩:=eY z1;cases b with
   |true=>exact y1
   |false=>subst y2;rcases z2 with z2 |z2 <;> cases z2
  have koc:∀n,Oc Y ns' n->Oc Y ps n:=λn z=>⟨z.1,λy=>by obtain⟨i,y⟩:=aV.mp y;obtain⟨v,u,n',o,_,_,_,k1,k2,_⟩:=kmu (kown y);exact z.2 (aV.mpr ⟨i,by rw[k1];exact y⟩)⟩;refine⟨⟨a.len,λm o q hm=>a.keep m o q λ⟨i,s,z1,z2,z3⟩=>hm ?_,λ_ _ q=>.inl q,λi s q hl'=>?_,λi s q hl'=>?_,λi v q=>?_,λi v q=>?_⟩,⟨?_,?_,F_ (o_ _) a.len,S2.xl,S.inj,λi n q z=>?_,λi s q=>?_⟩,koc⟩
  .rw[Rx] at z1;split at z1
   .rename_i hi;rw[L_ (by rw[<- S.l2];exact hi)] at z2;exact⟨i,s,z1,z2,z3⟩
   .rw[PC] at z1;split at z1 <;> cases z1
  .obtain⟨b,u,_,_,y⟩:=eY q;subst y;cases b <;> cases hl'
  .rcases gU qm q with ⟨_,z⟩ |⟨_,v,_,z⟩ <;> subst z <;> cases hl'
  .rcases gU qm q with ⟨_,z⟩ |⟨z,_⟩
   .cases z
   .obtain⟨v',u,n,o,_,_,k1,_⟩:=kmu z;exact⟨u,k1,rfl⟩
  .obtain⟨b,u,y1,_,y2⟩:=eY q;cases b with
   |false=>cases y2
   |true=>obtain⟨v',u,n,o,_,k0,k1,_⟩:=kmu y1;exact⟨v',k0,rfl⟩
  .rw[k_,gO];omega
  .rw[gO];omega
  .obtain⟨v,u,n',o,_,_,_,k1,k2,_⟩:=kmu (kown q);exact S2.nx i n (by rw[k1];exact q) z
  .rcases gU qm q with ⟨z,rfl⟩ |⟨z,v,z2,rfl⟩
   .have hil:i<ms.length:=(p_.mp z).1;have hi:i<(sls ms vs).length:=ltS hil;obtain⟨b,u,y1,_,y2⟩:=eY (y_ hi);rw[z] at y1;cases y1;have k:=S.sl i _ (y_ hi);rw[y2] at k;exact k.1
   .obtain⟨v',u,n,o,k0,_,_,k1,k2,k3,k4,k5,k6⟩:=kmu z;rw[z2] at k0;cases k0;exact⟨n,o,k2,k3,k4,k5,k6.mono λm o' y q=>⟨koc m y,q⟩⟩
 generalize F3 (sls ms vs++List.replicate (N-vs.length) .no)=r3 at *;cases r3 with
 |stuck=>trivial
 |bk _=>trivial
 |ct _=>trivial
 |
  nx e'=>
  obtain⟨bn,h',ns',q,a,S2⟩:=p;rw[q];dsimp only;cases qm:muV ms e' with
  |none=>trivial
  |some mv=>obtain⟨a3,S3,koc⟩:=ii X ns' e' bn h' mv (λ_ z=>z) a S2 qm;exact⟨.non,h',rfl,a3,S3,.non⟩
 |
  exc c e'=>
  obtain⟨bn,h',ns',q,a,S2⟩:=p;rw[q];dsimp only;cases qm:muV ms e' with
  |none=>trivial
  |some mv=>obtain⟨a3,S3,koc⟩:=ii X ns' e' bn h' mv (λ_ z=>z) a S2 qm;exact⟨h',rfl,a3,S3⟩
 |
  rt r e'=>
  obtain⟨d,bn,h',ns',q,a,rr⟩:=p;rw[q];dsimp only;cases qm:muV ms e' with
  |none=>trivial
  |
   some mv=>
   cases r with
   |val v=>obtain⟨a3,S3,koc⟩:=ii X ns' e' bn h' mv (λ_ z=>z) a rr.1 qm;exact⟨d,h',rfl,a3,S3,rr.2.mono λm o y q=>⟨koc m y,q⟩⟩
   |new v=>obtain⟨n,o,z1,z2,z3,z4,z5,z6,z7⟩:=rr;obtain⟨a3,S3,koc⟩:=ii (Xn X n) ns' e' bn h' mv (λ_ z=>.inl z) a z6 qm;exact⟨d,h',rfl,a3,n,o,z1,z2,z3,z4,z5,S3,z7.mono λm o y q=>⟨koc m y,q⟩⟩
   |
    par i=>
    obtain⟨R1,R2,v,R3⟩:=rr;obtain⟨a3,S3,koc⟩:=ii X ns' e' bn h' mv (λ_ z=>z) a R1 qm;obtain⟨u,k1,k2⟩:=a.mu i v R3;have hi:i<(sls ms vs).length:=by apply Decidable.byContradiction;intro hi;rw[O8 (Nat.le_of_not_lt hi),PC] at k1;split at k1 <;> cases k1
    rw[L_ hi] at k1;rw[L_ (by rw[S.l2];exact hi)] at k2;obtain⟨m,o,w1,w2,_⟩:=S.sl i _ k1;obtain⟨m',o',x1,x2,_⟩:=R1.sl i _ R3;rw[k2,w1] at x1;cases x1;rw[R2] at x2;cases x2;obtain⟨v',y,_⟩:=a3.mu' i u k1;exact⟨_,h',rfl,a3,S3,w2,v',y⟩
noncomputable def iA(i:Nat):List Tm->Bool
 |.bor j::ts=>(i==j) || iA i ts
 |_::ts=>iA i ts
 | []=>false
noncomputable def oG(i:Nat):List Bool->List Tm->Bool
 |true::ms,.bor j::ts=>(i==j) || oG i ms ts
 |_::ms,_::ts=>oG i ms ts
 |_,_=>false
noncomputable def okA(e:E3):List Bool->List Tm->Bool
 |true::ms,.bor i::ts=>((e[i]?).bind Sl.mv).isSome && !(iA i ts)&&okA e ms ts
 |true::_,_::_=>false
 |false::ms,.bor i::ts=>!(oG i ms ts)&&okA e ms ts
 |false::ms,_::ts=>okA e ms ts
 | [],[]=>true
 |_,_=>false
noncomputable def n6(b:Bool)(t:Tm):Option Nat:=match b,t with
 |true,.bor i=>some i
 |_,_=>none
def bR(ms:List Bool)(ts:List Tm):List (Option Nat):=List.zipWith n6 ms ts
noncomputable def aT(e:E3):List Bool->List Tm->List Nat
 |false::ms,.bor i::ts=>(match e[i]? with
  |some (.sh _)=>aT e ms ts
  |_=>i::aT e ms ts)
 |_::ms,_::ts=>aT e ms ts
 |_,_=>[]
mutual
def aY:Val->Bool
 |.tup xs=>cV xs
 |.lst _=>false
 |.kl _=>false
 |.dct _=>false
 |.set _=>false
 |_=>true
def cV:List Val->Bool
 | []=>true
 |v::vs=>aY v&&cV vs
end
noncomputable def ng:List (Key×Val)->Bool
 | []=>true
 |(_,v)::vs=>aY v&&ng vs
def c8:Val->Bool
 |.lst xs=>cV xs
 |.dct xs=>ng xs
 |.set _=>true
 |_=>false
def kJ:Rt->Bool
 |.val v=>aY v
 |.new v=>c8 v
 |.par _=>true
noncomputable def nQ(e:E3):List Nat->Option E3
 | []=>some e
 |i::is=>match cH e (.bor i) with
  |some (e1,_)=>nQ e1 is
  |none=>none
noncomputable def Rt.tm(ts:List Tm):Rt->Tm
 |.val v=>.val v
 |.new v=>.new v
 |.par i=>(ts[i]?).getD (.val .non)
noncomputable def Eu(ms:List Bool)(G:Fn3)(A:MA3):ME3:=λe=>(A e).bind λts e1=>match rss e1 ts with
 |none=>.stuck
 |some vs=>if okA e1 ms ts=true then (match G vs with
  |.stuck=>.stuck
  |.ok r mv=>if (aT e1 ms ts).isEmpty || (kJ r&&mv.all c8) then .ok (r.tm ts) (a9 (bR ms ts) (aF ms mv) e1) else (match nQ e1 (aT e1 ms ts) with
   |some e2=>.ok (r.tm ts) (a9 (bR ms ts) (aF ms mv) e2)
   |none=>.stuck)
  |.exc c mv=>if (aT e1 ms ts).isEmpty || mv.all c8 then .exc c (a9 (bR ms ts) (aF ms mv) e1) else .stuck) else .stuck
section
variable{P P':Nat->Prop}{h h':AH}
def Rd.flat(f:aY v=true)(r:Rd P h d v):Rd P' h' d v:=
 @Rd.rec P h (λd v _=>aY v=true->Rd P' h' d v) (λo v _=>aY v=true->Rd P' h' .non v) (λds vs _=>cV vs=true->Rds P' h' ds vs) (λws us _=>True) (λ_=>.non) (λb _=>.bl b) (λi _=>.int i) (λx _=>.str x) (λn _=>.ty n) (λx _=>.glb x) (λx _=>.exc x) (λ_ ih f=>.tup (ih f)) (λ_ _ f=>absurd f x_) (λ_ _ r _ f=>by cases r <;> exact absurd f x_) (λ_ _ f=>absurd f x_) (λ_ _ f=>absurd f x_) (λ_ _ f=>absurd f x_) (λ_ f=>absurd f x_) (λ_=>.nil) (λ_ _ a b f=>.cons (a (r_ .. ▸ f).1) (b (r_ .. ▸ f).2)) trivial (λ_ _ _ _=>trivial) d v r f
def Rds.flat(f:cV v=true)(r:Rds P h d v):Rds P' h' d v:=
 r.ind (M:=λds vs=>cV vs=true->Rds P' h' ds vs) (λ_=>.nil) (λr _ ih f=>by rw[cV,r_] at f;exact .cons (Rd.flat f.1 r) (ih f.2)) f
def Rk.flat(f:ng v=true)(r:Rk P h d v):Rk P' h' d v:=
 r.ind (M:=λds vs=>ng vs=true->Rk P' h' ds vs) (λ_=>.nil) (λr _ ih f=>by rw[ng,r_] at f;exact .cons (Rd.flat f.1 r) (ih f.2)) f
def Rc.flat(f:c8 v=true)(r:Rc P h o v):Rc P' h' o v:=by
 cases r with
 |lst r=>exact .lst (Rds.flat (by simpa [c8] using f) r)
 |fz r=>simp [c8] at f
 |dct r=>exact .dct (Rk.flat (by simpa [c8] using f) r)
 |set xs=>exact .set xs
end
theorem oR:∀{ts:List Tm}{k:Nat},ts[k]?=some (.bor i)->iA i ts=true
 | [],_,q=>by simp at q
 |
  t::ts,0,q=>by
  have:t=.bor i:=by simpa using q
  subst this;simp [iA]
 |
  t::ts,k+1,q=>by
  have:=oR (ts:=ts) (k:=k) (by simpa using q)
  cases t <;> simp [iA,this]
theorem v7:∀{ms:List Bool}{ts:List Tm}{k:Nat},ms[k]?=some true->ts[k]?=some (.bor i)->oG i ms ts=true
 | [],_,_,q,_=>by simp at q
 |_::_,[],_,_,q=>by simp at q
 |
  b::ms,t::ts,0,q1,q=>by
  have:t=.bor i:=by simpa using q
  have:b=true:=by simpa using q1
  subst_vars;simp [oG]
 |
  b::ms,t::ts,k+1,q1,q=>by
  have:=v7 (ms:=ms) (ts:=ts) (k:=k) (by simpa using q1) (by simpa using q)
  cases b <;> cases t <;> simp [oG,this]
theorem kI:∀{ms:List Bool}{ts:List Tm}{k:Nat},okA e ms ts=true->ms[k]?=some true->∃i,ts[k]?=some (.bor i)/\∃u,(e[i]?).bind Sl.mv=some u
 | [],_,_,_,q=>by simp at q
 |b::ms,[],_,o,_=>by cases b <;> simp [okA] at o
 |
  b::ms,t::ts,0,o,q=>by
  have:b=true:=by simpa using q
  subst this;cases t with
  |bor i=>simp only[okA,r_] at o;exact⟨i,rfl,PM.mp o.1.1⟩
  |_=>simp [okA] at o
 |
  b::ms,t::ts,k+1,o,q=>by
  have o':okA e ms ts=true:=by cases b <;> cases t <;> simp only[okA,r_] at o <;> first |exact o.2 |exact o |(simp at o;done)
  obtain⟨i,y⟩:=kI (k:=k) o' (by simpa using q);exact⟨i,by simpa using y⟩
theorem iN:∀{ms:List Bool}{ts:List Tm}{k j i:Nat},okA e ms ts=true->ms[k]?=some true->ts[k]?=some (.bor i)->ts[j]?=some (.bor i)->j=k
 | [],_,_,_,_,_,q,_,_=>by simp at q
 |b::ms,[],_,_,_,o,_,_,_=>by cases b <;> simp [okA] at o
 |b::ms,t::ts,0,0,i,o,q1,q2,q3=>rfl
 |
  b::ms,t::ts,0,j+1,i,o,q1,q2,q3=>by
  have h1:b=true:=by simpa using q1
  have h2:t=.bor i:=by simpa using q2
  subst h1 h2;simp only[okA,r_] at o
  have:=oR (i:=i) (ts:=ts) (k:=j) (by simpa using q3)
  rw[this] at o;simp at o
 |
  b::ms,t::ts,k+1,0,i,o,q1,q2,q3=>by
  have h2:t=.bor i:=by simpa using q3
  subst h2;have hm:=v7 (i:=i) (ms:=ms) (ts:=ts) (k:=k) (by simpa using q1) (by simpa using q2);have hb:=oR (i:=i) (ts:=ts) (k:=k) (by simpa using q2);cases b <;> simp [okA,hm,hb] at o
 |
  b::ms,t::ts,k+1,j+1,i,o,q1,q2,q3=>by
  have o':okA e ms ts=true:=by cases b <;> cases t <;> simp only[okA,r_] at o <;> first |exact o.2 |exact o |(simp at o;done)
  exact PF (· + 1) (iN (k:=k) (j:=j) (i:=i) o' (by simpa using q1) (by simpa using q2) (by simpa using q3))
theorem iL:∀{ms:List Bool}{ts:List Tm},okA e ms ts=true->ms.length=ts.length
 | [],[],_=>rfl
 | [],_::_,o=>by simp [okA] at o
 |b::ms,[],o=>by cases b <;> simp [okA] at o
 |
  b::ms,t::ts,o=>by
  have o':okA e ms ts=true:=by cases b <;> cases t <;> simp only[okA,r_] at o <;> first |exact o.2 |exact o |(simp at o;done)
  exact PF (· + 1) (iL o')
theorem lQ:∀{ms:List Bool}{ts:List Tm}{k i:Nat},ms[k]?=some false->ts[k]?=some (.bor i)->(∀v,e[i]?≠some (.sh v))->i∈aT e ms ts
 | [],_,_,_,q,_,_=>by simp at q
 |_::_,[],_,_,_,q,_=>by simp at q
 |
  b::ms,t::ts,0,i,q1,q2,hn=>by
  have h1:b=false:=by simpa using q1
  have h2:t=.bor i:=by simpa using q2
  subst h1 h2;unfold aT;split
  .rename_i v q;exact absurd q (hn v)
  .exact n_ ..
 |
  b::ms,t::ts,k+1,i,q1,q2,hn=>by
  have ih:=lQ (ms:=ms) (ts:=ts) (k:=k) (by simpa using q1) (by simpa using q2) hn;cases b <;> cases t <;> simp only[aT] <;> first |exact ih |(split;exact ih;exact m_ _ ih)
def eQ{ms:List Bool}{ts:List Tm}{k i:Nat}(q:(bR ms ts)[k]?=some (some i)):ms[k]?=some true/\ts[k]?=some (.bor i):=by
 unfold bR at q;rw[Qn] at q;cases h1:ms[k]? with
 |none=>rw[h1] at q;cases q
 |
  some b=>
  cases h2:ts[k]? with
  |none=>rw[h1,h2] at q;cases q
  |some t=>rw[h1,h2] at q;have q':n6 b t=some i:=K_ q;cases b <;> cases t <;> first |(cases q';done) |(cases q';exact⟨rfl,rfl⟩)
def Fq{ms:List Bool}{ts:List Tm}{k i:Nat}(q1:ms[k]?=some true)(q2:ts[k]?=some (.bor i)):(bR ms ts)[k]?=some (some i):=by unfold bR;rw[Qn,q1,q2];rfl
theorem vD:∀{ts:List Tm}{vs:List Val}{k:Nat}{v:Val},rss e ts=some vs->vs[k]?=some v->∃t,ts[k]?=some t/\rs e t=some v
 | [],_,_,_,q,q2=>by cases q;simp at q2
 |
  t::ts,vs,k,v,q,q2=>by
  unfold rss at q;split at q
  .rename_i u us e1 e2;cases q;cases k with
   |zero=>
    have:u=v:=by simpa using q2
    subst this;exact⟨t,rfl,e1⟩
   |succ k=>obtain⟨t',y1,y2⟩:=vD (k:=k) e2 (by simpa using q2);exact⟨t',by simpa using y1,y2⟩
  .cases q
theorem kE:∀{ts:List Tm}{vs:List Val},rss e ts=some vs->vs.length=ts.length
 | [],_,q=>by cases q;rfl
 |
  t::ts,vs,q=>by
  unfold rss at q;split at q
  .rename_i u us e1 e2;cases q;exact PF (· + 1) (kE e2)
  .cases q
theorem TsR.get:∀{ds:List D}{ts:List Tm}{k:Nat}{t:Tm},TsR X ns ae h ds ts->ts[k]?=some t->∃d,ds[k]?=some d/\((∃v,t=.val v/\Rd (Oc X ns) h d v)\/∃i,t=.bor i/\ae[i]?=some (some d))
 |_,_,_,_,.nil,q=>by simp at q
 |_,_,0,_,.val r rr,q=>by have:=(by simpa using q:Tm.val _=_);subst this;exact⟨_,rfl,.inl ⟨_,rfl,r⟩⟩
 |_,_,0,_,.bor r rr,q=>by have:=(by simpa using q:Tm.bor _=_);subst this;exact⟨_,rfl,.inr ⟨_,rfl,r⟩⟩
 |_,_,k+1,t,.val r rr,q=>by obtain⟨d,y⟩:=rr.get (k:=k) (by simpa using q);exact⟨d,by simpa using y⟩
 |_,_,k+1,t,.bor r rr,q=>by obtain⟨d,y⟩:=rr.get (k:=k) (by simpa using q);exact⟨d,by simpa using y⟩
def Xc(X:Nat->Prop)(ns:Ns)(e:E3)(ms:List Bool)(ts:List Tm)(n:Nat):Prop:=(X n\/some n∈ns)/\some n∉bU (bR ms ts) ns/\∀i∈aT e ms ts,ns[i]?≠some (some n)
def sj(S:Sat X h0 ns e ae h)(rt:TsR X ns ae h ds ts)(qv:rss e ts=some vs)(ok:okA e ms ts=true):
 Sat (Xc X ns e ms ts) h.length (bU (bR ms ts) ns) (sls ms vs) (ds.map some) h:=by
 have l1:=iL ok;have l2:=kE qv;have l3:=TsR.len rt;have hs:nB (bR ms ts):=λj k i q1 q2=>iN ok (eQ q2).1 (eQ q2).2 (eQ q1).2;have mv:Mov (Oc X ns) (Oc (Xc X ns e ms ts) (bU (bR ms ts) ns)) h h:=λn o p q=>⟨⟨λz=>by
  rcases z.1 with z |z
  .exact p.1 z
  .exact p.2 z,λz=>p.2 (ma z)⟩,q⟩
 refine⟨?_,?_,o_ _,λn z=>?_,λj k n q1 q2=>?_,λj n q z=>z.2.1 (aV.mpr ⟨j,q⟩),λk s q=>?_⟩
 .unfold sls;rw[k_,Qx];omega
 .unfold bU bR sls;rw[k_,Qx,Qx];omega
 .rcases z.1 with z |z
  .exact S.xl n z
  .obtain⟨i,z⟩:=aV.mp z;obtain⟨_,_,_,_,_,_,_,q',_⟩:=S.own z;exact b9 q'
 .obtain⟨i,y1,y2⟩:=cm q1;obtain⟨i',y3,y4⟩:=cm q2
  have:=S.inj i i' n y2 y4
  subst this;exact hs j k i y1 y3
 .obtain⟨b,v,
   q1,q2,rfl⟩:=eY q
  obtain⟨t,q3,q4⟩:=vD qv q2;obtain⟨d,q5,q6⟩:=rt.get q3;have qd:(ds.map some)[k]?=some (some d):=by rw[N_,q5];rfl
  rw[qd];have qn:(bU (bR ms ts) ns)[k]?=some ((n6 b t).bind λi=>(ns[i]?).bind id):=by unfold bU bR;rw[N_,Qn,q1,q3];rfl
  rw[qn];cases b with
  |
   true=>
   obtain⟨i,y1,u,y2⟩:=kI ok q1;rw[q3] at y1;cases y1;have q4':(e[i]?).bind Sl.val=some v:=q4;obtain⟨s,z1,z2⟩:=Pg.mp y2;rw[z1] at q4';have hv:s.val=some v:=q4';have huv:u=v:=by cases s <;> first |cases z2;done |(cases z2;cases hv;rfl)
   subst huv;have hns:∃n,ns[i]?=some (some n):=by
    have y:=S.sl i s z1;cases s with
    |ow v=>obtain⟨n,o,y1,_⟩:=y;exact⟨n,y1⟩
    |mu v=>obtain⟨n,o,y1,_⟩:=y;exact⟨n,y1⟩
    |_=>cases z2
   obtain⟨n,hn⟩:=hns;obtain⟨n',o,k1,k2,k3,k4,_⟩:=S.write z1 z2;rcases q6 with ⟨_,z,_⟩ |⟨i',z,q6⟩
   .cases z
   .cases z;rw[q6] at k1;cases k1;obtain⟨_,_,_,_,_,_,w,_⟩:=S.own hn;rw[q6] at w;cases w;exact⟨n,o,by show some ((ns[i]?).bind id)=_;rw[hn];rfl,rfl,k2,k3,k4.mono mv⟩
  |
   false=>
   refine⟨by cases t <;> rfl,d,rfl,?_⟩;rcases q6 with ⟨u,rfl,q6⟩ |⟨i,rfl,q6⟩
   .cases q4;exact q6.mono mv
   .have q4':(
     e[i]?).bind Sl.val=some v:=q4
    rcases S.bor q6 q4' with z |⟨n,o,rfl,z1,z2⟩
    .exact z.mono mv
    .refine .cell ⟨λy=>?_,λy=>?_⟩ z1 (z2.mono mv)
     .
      by_cases hsh:∃w,e[i]?=some (.sh w)
      .obtain⟨w,hsh⟩:=hsh;obtain⟨_,x,w1,w2⟩:=S.sl i _ hsh;rw[q6] at w1;cases w1;cases w2 with
       |cell p _ _=>rcases y.1 with y |y;exact p.1 y;exact p.2 y
      .have hl:=lQ q1 q3 λw z=>hsh ⟨w,z⟩;cases w:ns[i]? with
       |
        none=>
        have hi:i<e.length:=by
         cases z:e[i]? with
         |none=>rw[z] at q4';cases q4'
         |some _=>exact (p_.mp z).1
        rw[P6,S.l2] at w;omega
       |
        some w'=>
        cases w' with
        |
         none=>
         cases z:e[i]? with
         |none=>rw[z] at q4';cases q4'
         |
          some s=>
          have k:=S.sl i s z;rw[w] at k;cases s with
          |no=>rw[z] at q4';cases q4'
          |sh w=>exact hsh ⟨w,z⟩
          |ow w=>obtain⟨_,_,k,_⟩:=k;cases k
          |lo w=>obtain⟨_,_,k,_⟩:=k;cases k
          |mu w=>obtain⟨_,_,k,_⟩:=k;cases k
          |lm w=>obtain⟨_,_,k,_⟩:=k;cases k
        |some n'=>obtain⟨_,_,_,_,_,_,w2,_⟩:=S.own w;rw[q6] at w2;cases w2;exact y.2.2 i hl w
     .obtain⟨j,y⟩:=aV.mp y;obtain⟨i',y1,y2⟩:=cm y;obtain⟨y3,y4⟩:=eQ y1;obtain⟨_,_,_,_,_,_,w2,_⟩:=S.own y2;have:i'
       = i:=by
       cases w:ns[i]? with
       |
        none=>
        have hi:i<e.length:=by
         cases z:e[i]? with
         |none=>rw[z] at q4';cases q4'
         |some _=>exact (p_.mp z).1
        rw[P6,S.l2] at w;omega
       |
        some w'=>
        cases w' with
        |some n'=>obtain⟨_,_,_,_,_,_,w3,_⟩:=S.own w;rw[q6] at w3;cases w3;exact S.inj i' i n y2 w
        |
         none=>
         cases z:e[i]? with
         |none=>rw[z] at q4';cases q4'
         |
          some s=>
          have k:=S.sl i s z;rw[w,q6] at k;cases s with
          |no=>rw[z] at q4';cases q4'
          |
           sh w=>
           obtain⟨_,x,k1,k2⟩:=k;cases k1;cases k2 with
           |cell p _ _=>exact (p.2 (aV.mpr ⟨i',y2⟩)).elim
          |ow w=>obtain⟨_,_,k,_⟩:=k;cases k
          |lo w=>obtain⟨_,_,k,_⟩:=k;cases k
          |mu w=>obtain⟨_,_,k,_⟩:=k;cases k
          |lm w=>obtain⟨_,_,k,_⟩:=k;cases k
      subst this
      have:=iN ok y3 y4 q3
      subst this;rw[q1] at y3;cases y3
theorem eT:∀{ms:List Bool}{mv:List Val}{j:Nat}{v:Val},(aF ms mv)[j]?=some (.mu v)->v∈mv
 | [],_,_,_,q=>by simp [aF] at q
 |true::ms,u::mv,0,v,q=>by
  have:Sl.mu u=.mu v:=by simpa [aF] using q
  cases this;exact n_ ..
 |true::ms,u::mv,j+1,v,q=>m_ _ (eT (ms:=ms) (mv:=mv) (j:=j) (by simpa [aF] using q))
 |true::ms,[],0,v,q=>by simp [aF] at q
 |true::ms,[],j+1,v,q=>eT (ms:=ms) (mv:=[]) (j:=j) (by simpa [aF] using q)
 |false::ms,mv,0,v,q=>by simp [aF] at q
 |false::ms,mv,j+1,v,q=>eT (ms:=ms) (mv:=mv) (j:=j) (by simpa [aF] using q)
theorem mq:∀{ms:List Bool}{ts:List Tm}{i:Nat},i∈aT e ms ts->∃k:Nat,ms[k]?=some false/\ts[k]?=some (.bor i)
 | [],_,_,q=>by simp [aT] at q
 |_::_,[],_,q=>by simp [aT] at q
 |
  b::ms,t::ts,i,q=>by
  have up:i∈aT e ms ts->∃k:Nat,(b::ms)[k]?=some false/\(t::ts)[k]?=some (.bor i):=λz=>by obtain⟨k,y1,y2⟩:=mq z;exact⟨k+1,by simpa using y1,by simpa using y2⟩
  cases b <;> cases t <;> simp only[aT] at q <;> first |exact up q |skip
  split at q
  .exact up q
  .rcases H_.mp q with rfl |q
   .exact⟨0,rfl,rfl⟩
   .exact up q
def Fd(q:cH e (.bor i)=some (e1,v)):(∀j,j≠i->e1[j]?=e[j]?)/\e1[i]?=some (.sh v)/\(e[i]?).bind Sl.val=some v:=by
 unfold cH at q;dsimp only at q;split at q
 .rename_i u q1;cases q;exact⟨λ_ _=>rfl,q1,by rw[q1];rfl⟩
 .rename_i u q1;cases q;exact⟨λj z=>bo z,bF (p_.mp q1).1,by rw[q1];rfl⟩
 .cases q
theorem sJ:∀{is:List Nat}{ns:Ns}{e e2:E3},Sat X h0 ns e ae h->(∀i∈is,∃d,ae[i]?=some (some d))->nQ e is=some e2->∃d_,Sat X h0 d_ e2 ae h/\Stp ns e h d_ e2 h/\(∀i,i∉is->e2[i]?=e[i]?)/\(∀i∈is,∃v,e2[i]?=some (.sh v))/\∀i:Nat,(e2[i]?).bind Sl.val=(e[i]?).bind Sl.val
 | [],ns,e,e2,S,_,q=>by cases q;exact⟨ns,S,.refl,λ_ _=>rfl,(λ_ z=>by cases z),λ_=>rfl⟩
 |
  i::is,ns,e,e2,S,hd,q=>by
  unfold nQ at q;split at q
  .rename_i e1 v q1;obtain⟨d,hd0⟩:=hd i (n_ ..);obtain⟨ns1,S1,a1,r1⟩:=fI (L:=0) (t:=.bor i) S hd0 q1;obtain⟨d_,S2,a2,k1,k2,k3⟩:=sJ S1 (λj z=>hd j (m_ _ z)) q;obtain⟨y1,y2,y3⟩:=Fd q1;refine⟨d_,S2,a1.trans S a2,λj hj=>?_,λj hj=>?_,λj=>?_⟩
   .rw[H_,not_or] at hj;rw[k1 j hj.2,y1 j hj.1]
   .by_cases z:j∈is
    .exact k2 j z
    .rcases H_.mp hj with rfl |hj
     .exact⟨v,by rw[k1 j z];exact y2⟩
     .exact absurd hj z
   .rw[k3 j];by_cases z:j=i
    .subst z;rw[y2,y3];rfl
    .rw[y1 j z]
  .cases q
theorem oV:∀{ms:List Bool}{ts:List Tm},(∀(k i:Nat),ms[k]?=some true->ts[k]?=some (.bor i)->e2[i]?=e[i]?)->okA e ms ts=true->okA e2 ms ts=true
 | [],[],_,o=>rfl
 | [],_::_,_,o=>by simp [okA] at o
 |b::ms,[],_,o=>by cases b <;> simp [okA] at o
 |
  b::ms,t::ts,hk,o=>by
  have o':okA e ms ts=true:=by cases b <;> cases t <;> simp only[okA,r_] at o <;> first |exact o.2 |exact o |(simp at o;done)
  have ih:=oV (λk i q1 q2=>hk (k+1) i (by simpa using q1) (by simpa using q2)) o';cases b with
  |false=>cases t <;> simp only[okA,r_] at o ⊢ <;> first |exact⟨o.1,ih⟩ |exact ih
  |
   true=>
   cases t with
   |bor i=>simp only[okA,r_] at o ⊢;rw[hk 0 i rfl rfl];exact⟨o.1,ih⟩
   |_=>simp [okA] at o
theorem r9:∀{ms:List Bool}{ts:List Tm},(∀(k i:Nat),ms[k]?=some false->ts[k]?=some (.bor i)->∃v,e[i]?=some (.sh v))->aT e ms ts=[]
 | [],_,_=>by simp [aT]
 |_::_,[],_=>by simp [aT]
 |
  b::ms,t::ts,hk=>by
  have ih:=r9 (λk i q1 q2=>hk (k+1) i (by simpa using q1) (by simpa using q2));cases b <;> cases t <;> simp only[aT] <;> first |exact ih |skip
  rename_i i;obtain⟨v,q⟩:=hk 0 i rfl rfl;rw[q];exact ih
theorem pw(hv:∀i:Nat,(e2[i]?).bind Sl.val=(e[i]?).bind Sl.val):∀(ts:List Tm),rss e2 ts=rss e ts
 | []=>rfl
 |
  t::ts=>by
  unfold rss;rw[pw hv ts];have:rs e2 t=rs e t:=by
   cases t with
   |bor i=>exact hv i
   |_=>rfl
  rw[this]
def rY(ok:okA e ms ts=true):Lnk (bR ms ts) e (sls ms vs):=by
 refine⟨λj k i q1 q2=>iN ok (eQ q2).1 (eQ q2).2 (eQ q1).2,λj v q=>?_,λj s q hm=>?_⟩
 .obtain⟨b,u,q1,_,q2⟩:=eY q;cases b with
  |false=>cases q2
  |true=>obtain⟨i,y1,w,y2⟩:=kI ok q1;obtain⟨s,z1,z2⟩:=Pg.mp y2;exact⟨i,s,Fq q1 y1,z1,by cases s <;> first |rfl |cases z2⟩
 .obtain⟨b,u,q1,_,q2⟩:=eY q;cases b with
  |false=>subst q2;cases hm
  |true=>exact⟨u,q2⟩
section
variable{X:Nat->Prop}{h0 L:Nat}{ns:Ns}{e:E3}{ae:AE}{h:AH}{ms:List Bool}{ts:List Tm}{ds:List D}{vs:List Val}{S2:Fn}{G3:Fn3}
def iP(Y:Nat->Prop)(hY:∀n,Y n->X n\/Y n)(hl:aT e ms ts=[])(z:¬ Xc X ns e ms ts n)(z2:some n∉bU (bR ms ts) ns):Oc X ns n:=by refine⟨λy=>z ⟨.inl y,z2,λi hi=>by rw[hl] at hi;cases hi⟩,λy=>z ⟨.inr y,z2,λi hi=>by rw[hl] at hi;cases hi⟩⟩
def wm(S:Sat X h0 ns e ae h)(hL:L<=h.length)(rt:TsR X ns ae h ds ts)(qv:rss e ts=some vs)(ok:okA e ms ts=true)(hG:RF ms S2 G3)(q:G3 vs=.ok r mv)(hf:aT e ms ts=[]\/(kJ r=true/\mv.all c8=true)):
 Po X h0 ns e ae h (relE X h0 L ae) (S2 ds h) (.ok (r.tm ts) (a9 (bR ms ts) (aF ms mv) e)):=by
 have p:=hG _ _ ds vs h (by rw[kE qv,iL ok]) (sj S rt qv ok);rw[q] at p;obtain⟨d,h',p1,a,rr⟩:=p;have K:=rY (vs:=vs) ok;have xcl:∀n,X n->n<h.length:=S.xl;cases r with
 |
  val v=>
  obtain⟨S3,rv⟩:=rr;obtain⟨S4,a4⟩:=S.back (Y:=X) K a (λn z=>⟨E_ (xcl n z) a.len,.inl z⟩) (λ_ z=>z) λj w n q1 q2=>by
   obtain⟨s,u,o,b1,b2,b3,b4,b5,b6,b7⟩:=S3.own q2;rw[q1] at b1;cases b1;cases b3;rcases hf with hf |hf
   .exact⟨o,b5,b6,b7.mono λm o' z y=>⟨iP X (λ_ z=>.inl z) hf z.1 z.2,y⟩⟩
   .exact⟨o,b5,b6,b7.flat (O9.mp hf.2 w (eT q1))⟩
  refine⟨d,h',ns,p1,a4,S4,?_⟩;rcases hf with hf |hf
  .exact rv.mono λm o' z y=>⟨iP X (λ_ z=>.inl z) hf z.1 z.2,y⟩
  .exact rv.flat hf.1
 |
  new v=>
  obtain⟨n,o,z1,z2,z3,z4,z5,S3,z7⟩:=rr;have hnx:¬ X n:=λy=>by have:=xcl n y;omega
  have kk:∀m,Oc (Xn (Xc X ns e ms ts) n) (bU (bR ms ts) ns) m->aT e ms ts=[]->Oc (Xn X n) ns m:=λm z hf=>by
   have:=iP X (λ_ z=>.inl z) hf (λy=>z.1 (.inl y)) z.2
   exact⟨λy=>by
    rcases y with y |y
    .exact this.1 y
    .exact z.1 (.inr y),this.2⟩
  obtain⟨S4,a4⟩:=S.back (Y:=Xn X n) K a (λm z=>by
   rcases z with z |rfl
   .exact⟨E_ (xcl m z) a.len,.inl z⟩
   .exact⟨b9 z4,.inr z2⟩) (λ_ z=>.inl z) λj w n' q1 q2=>by
   obtain⟨s,u,o,b1,b2,b3,b4,b5,b6,b7⟩:=S3.own q2;rw[q1] at b1;cases b1;cases b3;rcases hf with hf |hf
   .exact⟨o,b5,b6,b7.mono λm o' z y=>⟨kk m z hf,y⟩⟩
   .exact⟨o,b5,b6,b7.flat (O9.mp hf.2 w (eT q1))⟩
  refine⟨d,h',ns,p1,a4,S4.weak λ_ z=>.inl z,n,o,z1,F_ hL z2,hnx,z4,z5,S4,?_⟩;rcases hf with hf |hf
  .exact z7.mono λm o' z y=>⟨kk m z hf,y⟩
  .exact z7.flat hf.1
 |
  par i=>
  obtain⟨S3,w1,w,w2⟩:=rr;obtain⟨S4,a4⟩:=S.back (Y:=X) K a (λn z=>⟨E_ (xcl n z) a.len,.inl z⟩) (λ_ z=>z) λj w n q1 q2=>by
   obtain⟨s,u,o,b1,b2,b3,b4,b5,b6,b7⟩:=S3.own q2;rw[q1] at b1;cases b1;cases b3;rcases hf with hf |hf
   .exact⟨o,b5,b6,b7.mono λm o' z y=>⟨iP X (λ_ z=>.inl z) hf z.1 z.2,y⟩⟩
   .exact⟨o,b5,b6,b7.flat (O9.mp hf.2 w (eT q1))⟩
  refine⟨d,h',ns,p1,a4,S4,?_⟩;obtain⟨u,x1,_⟩:=a.mu i w w2;obtain⟨b,u',x2,_,x3⟩:=eY x1;cases b with
  |false=>cases x3
  |
   true=>
   obtain⟨k,y1,_⟩:=kI ok x2;obtain⟨d',y2,z⟩:=rt.get y1;have e1:(Rt.par i).tm ts=.bor k:=by show (ts[i]?).getD _=_;rw[y1];rfl
   rw[e1];rcases z with ⟨_,z,_⟩ |⟨j,z,z2⟩
   .cases z
   .cases z;rw[N_,y2] at w1;cases w1;exact z2
def CJ(S:Sat X h0 ns e ae h)(rt:TsR X ns ae h ds ts)(qv:rss e ts=some vs)(ok:okA e ms ts=true)(hG:RF ms S2 G3)(q:G3 vs=.exc c mv)(hf:aT e ms ts=[]\/mv.all c8=true):
 Po X h0 ns e ae h (relE X h0 L ae) (S2 ds h) (.exc c (a9 (bR ms ts) (aF ms mv) e)):=by
 have p:=hG _ _ ds vs h (by rw[kE qv,iL ok]) (sj S rt qv ok);rw[q] at p;obtain⟨h',p1,a,S3⟩:=p;have K:=rY (vs:=vs) ok;obtain⟨S4,a4⟩:=S.back (Y:=X) K a (λn z=>⟨E_ (S.xl n z) a.len,.inl z⟩) (λ_ z=>z) λj w n q1 q2=>by
  obtain⟨s,u,o,b1,b2,b3,b4,b5,b6,b7⟩:=S3.own q2;rw[q1] at b1;cases b1;cases b3;rcases hf with hf |hf
  .exact⟨o,b5,b6,b7.mono λm o' z y=>⟨iP X (λ_ z=>.inl z) hf z.1 z.2,y⟩⟩
  .exact⟨o,b5,b6,b7.flat (O9.mp hf w (eT q1))⟩
 exact⟨h',ns,p1,a4,S4⟩
def Gs(hn:n=ms.length)(hG:RF ms S2 G3)(hA:RA A A3):RE (xX n S2 A) (Eu ms G3 A3):=λX h0 L ns e ae h S hl=>
 Po.bind
  S (hA X h0 ns e ae h S) λds ts h1 ns1 e1 a1 S1 r1=>by
  try dsimp only
  cases qv:rss e1 ts with
  |none=>trivial
  |
   some vs=>
   dsimp only;by_cases ok:okA e1 ms ts=true
   .rw[if_pos ok];have be:ds.length=n:=by rw[hn,iL ok];exact TsR.len r1
    rw[if_pos be];have hL:L<=h1.length:=F_ hl a1.len;cases q:G3 vs with
    |stuck=>trivial
    |
     exc c mv=>
     dsimp only;by_cases hf:((aT e1 ms ts).isEmpty || mv.all c8)=true
     .rw[if_pos hf];refine CJ S1 r1 qv ok hG q ?_;rw[QA] at hf;rcases hf with hf |hf
      .exact .inl (List.isEmpty_iff.mp hf)
      .exact .inr hf
     .rw[if_neg hf];trivial
    |
     ok r mv=>
     dsimp only;by_cases hf:((aT e1 ms ts).isEmpty || (kJ r&&mv.all c8))=true
     .rw[if_pos hf];refine wm S1 hL r1 qv ok hG q ?_;rw[QA,r_] at hf;rcases hf with hf |hf
      .exact .inl (List.isEmpty_iff.mp hf)
      .exact .inr hf
     .rw[if_neg hf];cases qd:nQ e1 (aT e1 ms ts) with
      |none=>trivial
      |
       some e2=>
       dsimp only;obtain⟨d_,S2',a2,k1,k2,k3⟩:=sJ S1 (λi hi=>by
        obtain⟨k,_,y⟩:=mq hi;obtain⟨d,_,z⟩:=r1.get y;rcases z with ⟨_,z,_⟩ |⟨j,z,z2⟩
        .cases z
        .cases z;exact⟨d,z2⟩) qd
       have ok2:okA e2 ms ts=true:=oV (λk i q1 q2=>k1 i λz=>by
        obtain⟨k',y1,y2⟩:=mq z
        have:=iN ok q1 q2 y2
        subst this;rw[q1] at y1;cases y1) ok
       have ln:aT e2 ms ts=[]:=r9 λk i q1 q2=>by
        by_cases z:i∈aT e1 ms ts
        .exact k2 i z
        .rw[k1 i z];exact QX λw=>z (lQ q1 q2 λv y=>w ⟨v,y⟩)
       have pp:=wm (L:=L) S2' hL (r1.stp S1 a2) (by rw[pw k3];exact qv) ok2 hG q (.inl ln);obtain⟨d,h',ns',y,y1,y2,y3⟩:=pp;exact⟨d,h',ns',y,a2.trans S1 y1,y2,y3⟩
   .rw[if_neg ok];trivial
end
noncomputable def aI(f:Int->Int->Val):Val->Val->Bv:=λx y=>match x,y with
 |.int i,.int j=>.val (f i j)
 |_,_=>.stuck
open Classical in
def aIc(C:Int->Int->Prop)(f:Int->Int->Val):Val->Val->Bv:=λx y=>match x,y with
 |.int i,.int j=>if C i j then .val (f i j) else .stuck
 |_,_=>.stuck
noncomputable def xq:Val->Val->Bv:=λx y=>match x,y with
 |.lst xs,.lst ys=>if xs.length+ys.length<=16777216 then .new (.lst (xs++ys)) else .stuck
 |.tup xs,.tup ys=>if xs.length+ys.length<=16777216 then .val (.tup (xs++ys)) else .stuck
 |_,_=>.stuck
noncomputable def B9:Val->Val->Bv:=λx y=>match x,y with
 |.int i,.int j=>.val (.int (i+j))
 |x,y=>xq x y
noncomputable def aMin:=aI λi j=>.int (i-j)
def wF:=aIc CMulA λi j=>.int (i*j)
def yi:=aIc CDivB λi j=>.int (i.fdiv j)
def wI:=aIc (λ_ j=>j≠0) λi j=>.int (i.fmod j)
def wW:=aIc gi λi j=>.int (i^j.toNat)
def xQ:=aIc gi λi j=>.int (i*2^j.toNat)
noncomputable def aLt:=aI λi j=>.bl (decide (i<j))
noncomputable def aGt:=aI λi j=>.bl (decide (j<i))
noncomputable def aGe:=aI λi j=>.bl (decide (j<=i))
noncomputable def Cy:Val->Bv:=λx=>match x with
 |.int i=>.val (.int (-i))
 |_=>.stuck
noncomputable def aIx:Val->Val->Bv:=λx y=>match x.items,y with
 |some xs,.int i=>(match atI xs i with
  |some v=>.val v
  |none=>.stuck)
 |_,_=>.stuck
section
def tX(hr:∀i j P h,Rd P h (f2 i j) (f3 i j)):RO (gI f2) (aI f3):=λP h d1 d2 v1 v2 r1 r2=>by
 unfold aI;split
 .obtain rfl:=r1.int;obtain rfl:=r2.int;exact⟨_,rfl,hr _ _ P h⟩
 .trivial
def mQ(hr:∀i j P h,Rd P h (f2 i j) (f3 i j)):RO (gIc C f2) (aIc C f3):=λP h d1 d2 v1 v2 r1 r2=>by
 unfold aIc;split
 .obtain rfl:=r1.int;obtain rfl:=r2.int;split
  .rename_i hc;exact⟨_,by unfold gIc;dsimp only;rw[if_pos hc],hr _ _ P h⟩
  .trivial
 .trivial
def Hj:RO lU xq:=λP h d1 d2 v1 v2 r1 r2=>by
 unfold xq;split
 .obtain⟨n,ds,rfl,e1,_,q1⟩:=r1.lst;obtain⟨m,es,rfl,e2,_,q2⟩:=r2.lst;split
  .rename_i hl;exact⟨.lst (ds++es),by unfold lU;dsimp only;rw[e1,e2];dsimp only;rw[if_pos (by rw[q1.len,q2.len];exact hl)],trivial,.lst (q1.append q2)⟩
  .trivial
 .obtain⟨ds,rfl,q1⟩:=r1.tup;obtain⟨es,rfl,q2⟩:=r2.tup;split
  .rename_i hl;exact⟨_,by unfold lU;dsimp only;rw[if_pos (by rw[q1.len,q2.len];exact hl)],.tup (q1.append q2)⟩
  .trivial
 .trivial
def Ki:RO x8 B9:=λP h d1 d2 v1 v2 r1 r2=>by
 unfold B9;split
 .obtain rfl:=r1.int;obtain rfl:=r2.int;exact⟨_,rfl,.int _⟩
 .rename_i hn;have k:=Hj P h d1 d2 v1 v2 r1 r2;have e:x8 d1 d2 h=lU d1 d2 h\/xq v1 v2=.stuck:=by
   cases v1 <;> first |(right;rfl) |(left;skip)
   .obtain⟨ds,rfl,_⟩:=r1.tup;rfl
   .obtain⟨n,ds,rfl,_⟩:=r1.lst;rfl
  rcases e with e |e
  .rw[e];exact k
  .rw[e];trivial
def Kh:RO A0 aMin:=tX λ_ _ _ _=>.int _
def IG:RO BG wF:=mQ λ_ _ _ _=>.int _
def Hf:RO Bq yi:=mQ λ_ _ _ _=>.int _
def J6:RO Du wI:=mQ λ_ _ _ _=>.int _
def KI:RO A6 wW:=mQ λ_ _ _ _=>.int _
def IK:RO Br xQ:=mQ λ_ _ _ _=>.int _
def Ni:RO gLt aLt:=tX λ_ _ _ _=>.bl _
def ND:RO gGt aGt:=tX λ_ _ _ _=>.bl _
def OK:RO gGe aGe:=tX λ_ _ _ _=>.bl _
def Kv:RU yk Cy:=λP h d v r=>by
 unfold Cy;split
 .obtain rfl:=r.int;exact⟨_,rfl,.int _⟩
 .trivial
def M3(r:Rds P h ds vs)(e:atI vs i=some v):∃d,atI ds i=some d/\Rd P h d v:=by
 unfold atI at e ⊢;rw[r.len];cases q:ixN vs.length i with
 |none=>rw[q] at e;cases e
 |some j=>rw[q] at e;exact r.get e
def OO:RO gIx aIx:=λP h d1 d2 v1 v2 r1 r2=>by
 unfold aIx;split
 .rename_i xs i e1;obtain⟨ds,e2,q⟩:=r1.items e1;obtain rfl:=r2.int;split
  .rename_i v e3;obtain⟨d,e4,q2⟩:=M3 q e3;exact⟨d,by unfold gIx;rw[e2];dsimp only;rw[e4],q2⟩
  .trivial
 .trivial
end
mutual
def cM:Nat->Val->Option PyData
 |0,_=>none
 |_+1,.non=>some .none
 |_+1,.bl b=>some (.bool b)
 |_+1,.int i=>some (.int i)
 |_+1,.str x=>some (.str x)
 |k+1,.tup xs=>(eI k xs).map .tuple
 |k+1,.lst xs=>(eI k xs).map .list
 |_+1,_=>none
def eI:Nat->List Val->Option (List PyData)
 |_,[]=>some []
 |k,x::xs=>match cM k x,eI k xs with
  |some a,some b=>some (a::b)
  |_,_=>none
end
def BY(hk:∀d v pd,Rd P h d v->cM k v=some pd->er k h d=some pd):∀{ds:List D}{vs:List Val}{ps:List PyData},Rds P h ds vs->eI k vs=some ps->ds.mapM (er k h)=some ps:=by
 intro ds;induction ds with
 |nil=>intro vs ps r q;cases r;unfold eI at q;cases q;rfl
 |
  cons d0 ds ih=>
  intro vs ps r q;cases r with
  |
   cons r rr=>
   unfold eI at q;split at q
   .rename_i a b e1 e2;cases q;rw[QI,hk _ _ _ r e1,ih rr e2];rfl
   .cases q
theorem oC:∀(k:Nat) (d:D) (v:Val) (pd:PyData),ShR P h d v->cM k v=some pd->er k h d=some pd
 |0,_,_,_,_,q=>by unfold cM at q;cases q
 |
  k+1,d,v,pd,r,q=>by
  have ih:∀{ds:List D}{vs:List Val}{ps:List PyData},Rds P h ds vs->eI k vs=some ps->ds.mapM (er k h)=some ps:=BY λd v pd r q=>oC k d v pd (.inl r) q;cases v with
  |non=>obtain rfl:=r.non;simp only[cM] at q;cases q;rfl
  |bl b=>obtain rfl:=r.bl;simp only[cM] at q;cases q;rfl
  |int b=>obtain rfl:=r.int;simp only[cM] at q;cases q;rfl
  |str b=>obtain rfl:=r.str;simp only[cM] at q;cases q;rfl
  |tup xs=>obtain⟨ds,rfl,r2⟩:=r.tup;simp only[cM] at q;obtain⟨ps,q1,rfl⟩:=G_.mp q;show (ds.mapM (er k h)).map PyData.tuple=_;rw[ih r2 q1];rfl
  |lst xs=>obtain⟨n,ds,rfl,_,e1,r2⟩:=r.lst;simp only[cM] at q;obtain⟨ps,q1,rfl⟩:=G_.mp q;unfold er;rw[e1];show (ds.mapM (er k h)).map PyData.list=_;rw[ih r2 q1];rfl
  |_=>simp only[cM] at q;cases q
noncomputable def cB(x y:Val):Option Bool:=match cM 164 x,cM 164 y with
 |some a,some b=>if shp a=true/\shp b=true then some (PyData.eqv a b) else none
 |_,_=>none
noncomputable def aEq(neg:Bool):Val->Val->Bv:=λx y=>match cB x y with
 |some b=>.val (.bl (if neg then !b else b))
 |none=>.stuck
def Ly(r1:ShR P h d1 v1)(r2:ShR P h d2 v2)(q:cB v1 v2=some b):sY h d1 d2=some b:=by
 unfold cB at q;split at q
 .rename_i a c e1 e2;unfold sY;rw[oC 164 _ _ _ r1 e1,oC 164 _ _ _ r2 e2];exact q
 .cases q
def DK(neg:Bool):RO (gEq neg) (aEq neg):=λP h d1 d2 v1 v2 r1 r2=>by
 unfold aEq;split
 .rename_i b q;exact⟨_,by unfold gEq;rw[Ly r1 r2 q],.bl _⟩
 .trivial
def qE:Val->Bool
 |.non=>true
 |.bl _=>true
 |.int _=>true
 |.str _=>true
 |_=>false
noncomputable def xb:Val->V
 |.bl b=>.bl b
 |.int i=>.int i
 |.str x=>.str x
 |_=>.non
def eq1(x y:Val):Bool:=eqV (xb x) (xb y)
noncomputable def aIn(neg:Bool):Val->Val->Bv:=λx y=>match y.items with
 |some xs=>if qE x=true/\xs.all qE=true then .val (.bl (if neg then !(xs.any λd=>eq1 d x) else xs.any λd=>eq1 d x)) else .stuck
 |none=>.stuck
def vU(r:ShR P h d v)(f:qE v=true):kP d=true/\toV d=xb v:=by
 cases v with
 |non=>obtain rfl:=r.non;exact⟨rfl,rfl⟩
 |bl b=>obtain rfl:=r.bl;exact⟨rfl,rfl⟩
 |int b=>obtain rfl:=r.int;exact⟨rfl,rfl⟩
 |str b=>obtain rfl:=r.str;exact⟨rfl,rfl⟩
 |_=>cases f
def CU(x:D)(y:Val)(hx:toV x=xb y):∀{ds:List D}{vs:List Val},Rds P h ds vs->vs.all qE=true->ds.all kP=true/\(ds.any λd=>eqF d x)=vs.any λd=>eq1 d y:=by
 intro ds;induction ds with
 |nil=>intro vs r f;cases r;exact⟨rfl,rfl⟩
 |
  cons d0 ds ih=>
  intro vs r f;cases r with
  |cons r rr=>rw[QR,r_] at f;obtain⟨h1,h2⟩:=vU (.inl r) f.1;obtain⟨h3,h4⟩:=ih rr f.2;refine⟨by rw[QR,h1,h3];rfl,?_⟩;rw[PR,PR,h4];unfold eqF eq1;rw[h2,hx]
def En(neg:Bool):RO (gIn neg) (aIn neg):=λP h d1 d2 v1 v2 r1 r2=>by
 unfold aIn;split
 .rename_i xs e;obtain⟨ds,e2,q⟩:=r2.items e;split
  .rename_i hf;obtain⟨f1,f2⟩:=vU r1 hf.1;obtain⟨f3,f4⟩:=CU d1 v1 f2 q hf.2;exact⟨_,by unfold gIn;rw[e2];dsimp only;rw[if_pos ⟨f1,f3⟩,f4],.bl _⟩
  .trivial
 .trivial
noncomputable def Bk(neg:Bool):Val->Val->Bv:=λx y=>match x,y with
 |.non,.non=>.val (.bl (!neg))
 |_,.non=>.val (.bl neg)
 |_,_=>.stuck
def JL(neg:Bool):RO (AX neg) (Bk neg):=λP h d1 d2 v1 v2 r1 r2=>by
 unfold Bk;split
 .obtain rfl:=r1.non;obtain rfl:=r2.non;exact⟨_,rfl,.bl _⟩
 .rename_i hn;obtain rfl:=r2.non;have:d1 ≠ .non:=by
   rintro rfl;rcases r1 with r |⟨n,o,z,_⟩
   .cases r;exact hn rfl
   .cases z
  refine⟨_,?_,.bl neg⟩;unfold AX;split
  .exact absurd rfl this
  .rfl
  .rename_i h1 h2;exact (h1 rfl).elim
 .trivial
noncomputable def C7:List Val->Bv:=λvs=>match vs with
 | [v]=>(match v.items with
  |some xs=>.val (.int xs.length)
  |none=>(match v with
   |.str z=>if z.length<=16777216 then .val (.int z.length) else .stuck
   |_=>.stuck))
 |_=>.stuck
noncomputable def Bt:List Val->Bv:=λvs=>match vs with
 | [.int i]=>.val (.int (if i<0 then -i else i))
 |_=>.stuck
noncomputable def yj:List Val->Bv:=λvs=>match vs with
 | [.int i,.int j]=>.val (.int (if j>i then j else i))
 |_=>.stuck
noncomputable def xR:List Val->Bv:=λvs=>match vs with
 | [.int i,.int j]=>.val (.int (if j<i then j else i))
 |_=>.stuck
noncomputable def j0:List Val->Option (List Bool)
 | []=>some []
 |.bl b::r=>(j0 r).map (b :: ·)
 |_=>none
noncomputable def fT:List Val->Option (List Int)
 | []=>some []
 |.int b::r=>(fT r).map (b :: ·)
 |_=>none
noncomputable def Df:List Val->Bv:=λvs=>match vs with
 | [.lst xs]=>(match j0 xs with
  |some bs=>.val (.bl (bs.all id))
  |none=>.stuck)
 |_=>.stuck
noncomputable def CM:List Val->Bv:=λvs=>match vs with
 | [.lst xs]=>(match fT xs with
  |some bs=>.val (.int bs.sum)
  |none=>.stuck)
 |_=>.stuck
noncomputable def tu:List Val->Bv:=λvs=>match vs with
 | [v]=>(match v.items with
  |some xs=>.val (.tup xs)
  |none=>.stuck)
 |_=>.stuck
noncomputable def A1:List Val->Bv:=λvs=>match vs with
 | [.int i]=>.val (.int i)
 | [.bl b]=>.val (.int (if b then 1 else 0))
 |_=>.stuck
def KU:RFn rm C7:=λP h ds vs r=>by
 unfold C7;split
 .obtain⟨d,hd,rr1⟩:=eZ r;subst hd;clear r;have r:=rr1;split
  .rename_i xs e;obtain⟨es,e2,q⟩:=r.items e;exact⟨_,by unfold rm;dsimp only;rw[e2],by rw[<- q.len];exact .int _⟩
  .split
   .rename_i z _;obtain rfl:=r.str;split
    .rename_i hl;exact⟨_,by show (if z.length<=16777216 then _ else _)=_;rw[if_pos hl],.int _⟩
    .trivial
   .trivial
 .trivial
def J4:RFn xi Bt:=λP h ds vs r=>by
 unfold Bt;split
 .obtain⟨d,hd,rr1⟩:=eZ r;subst hd;clear r;have r:=rr1;obtain rfl:=r.int;exact⟨_,rfl,.int _⟩
 .trivial
def Gb:RFn qK yj:=λP h ds vs r=>by
 unfold yj;split
 .obtain⟨d,d',hd,rr1,r'⟩:=qQ r;subst hd;clear r;have r:=rr1;obtain rfl:=r.int;obtain rfl:=r'.int;exact⟨_,rfl,.int _⟩
 .trivial
def GA:RFn qW xR:=λP h ds vs r=>by
 unfold xR;split
 .obtain⟨d,d',hd,rr1,r'⟩:=qQ r;subst hd;clear r;have r:=rr1;obtain rfl:=r.int;obtain rfl:=r'.int;exact⟨_,rfl,.int _⟩
 .trivial
def Na:∀{ds:List D}{vs:List Val}{bs:List Bool},Rds P h ds vs->j0 vs=some bs->hZ ds=some bs:=by
 intro ds;induction ds with
 |nil=>intro vs bs r q;cases r;cases q;rfl
 |
  cons d0 ds ih=>
  intro vs bs r q;cases r with
  |
   cons r rr=>
   rename_i v vs;cases v with
   |bl b=>obtain rfl:=ShR.bl (.inl r);obtain⟨b',q1,rfl⟩:=G_.mp (show (j0 vs).map (b :: ·)=some bs from q);show (hZ _).map (b :: ·)=_;rw[ih rr q1];rfl
   |_=>cases q
def JY:∀{ds:List D}{vs:List Val}{bs:List Int},Rds P h ds vs->fT vs=some bs->fZ ds=some bs:=by
 intro ds;induction ds with
 |nil=>intro vs bs r q;cases r;cases q;rfl
 |
  cons d0 ds ih=>
  intro vs bs r q;cases r with
  |
   cons r rr=>
   rename_i v vs;cases v with
   |int b=>obtain rfl:=ShR.int (.inl r);obtain⟨b',q1,rfl⟩:=G_.mp (show (fT vs).map (b :: ·)=some bs from q);show (fZ _).map (b :: ·)=_;rw[ih rr q1];rfl
   |_=>cases q
def Kk:RFn sy Df:=λP h ds vs r=>by
 unfold Df;split
 .obtain⟨d,hd,rr1⟩:=eZ r;subst hd;clear r;have r:=rr1;obtain⟨n,es,rfl,_,e1,q⟩:=r.lst;split
  .rename_i bs e2;exact⟨_,by unfold sy;dsimp only;rw[e1];show (match hZ es with |some bs=>_ |none=>_)=_;rw[Na q e2],.bl _⟩
  .trivial
 .trivial
def Lv:RFn tR CM:=λP h ds vs r=>by
 unfold CM;split
 .obtain⟨d,hd,rr1⟩:=eZ r;subst hd;clear r;have r:=rr1;obtain⟨n,es,rfl,_,e1,q⟩:=r.lst;split
  .rename_i bs e2;exact⟨_,by unfold tR;dsimp only;rw[e1];show (match fZ es with |some bs=>_ |none=>_)=_;rw[JY q e2],.int _⟩
  .trivial
 .trivial
def DB:RFn j8 tu:=λP h ds vs r=>by
 unfold tu;split
 .obtain⟨d,hd,rr1⟩:=eZ r;subst hd;clear r;have r:=rr1;split
  .rename_i xs e;obtain⟨es,e2,q⟩:=r.items e;exact⟨_,by unfold j8;dsimp only;rw[e2],.tup q⟩
  .trivial
 .trivial
def J2:RFn xr A1:=λP h ds vs r=>by
 unfold A1;split
 .obtain⟨d,hd,rr1⟩:=eZ r;subst hd;clear r;have r:=rr1;obtain rfl:=r.int;exact⟨_,rfl,.int _⟩
 .obtain⟨d,hd,rr1⟩:=eZ r;subst hd;clear r;have r:=rr1;obtain rfl:=r.bl;exact⟨_,rfl,.int _⟩
 .trivial
noncomputable def tyC:Val->Option Cl
 |.non=>some (.b "NoneType")
 |.bl _=>some (.b "bool")
 |.int _=>some (.b "int")
 |.str _=>some (.b "str")
 |.tup _=>some (.b "tuple")
 |.exc x=>some (.o x)
 |.lst _=>some (.b "list")
 |.dct _=>some (.b "dict")
 |_=>none
noncomputable def clV:Val->Option Cl
 |.ty n=>some (.b n)
 |.glb x=>some (.o x)
 |_=>none
noncomputable def xu:List Val->Option (List Cl)
 | []=>some []
 |v::vs=>match clV v,xu vs with
  |some c,some cs=>some (c::cs)
  |_,_=>none
noncomputable def Ou:Val->Option (List Cl)
 |.tup cs=>xu cs
 |v=>(clV v).map ([·])
noncomputable def BV(kt:jA):List Val->Bv:=λvs=>match vs with
 | [v,c]=>(match tyC v,Ou c with
  |some t,some (c0::cr)=>(match fG kt t (c0::cr),kit kt t c0 with
   |some b,some _=>.val (.bl b)
   |_,_=>.stuck)
  |_,_=>.stuck)
 |_=>.stuck
def NQ(r:ShR P h d v)(q:tyC v=some t):tyD h d=some t:=by
 cases v with
 |non=>obtain rfl:=r.non;exact q
 |bl b=>obtain rfl:=r.bl;exact q
 |int b=>obtain rfl:=r.int;exact q
 |str b=>obtain rfl:=r.str;exact q
 |exc b=>obtain rfl:=r.exc;exact q
 |tup b=>obtain⟨ds,rfl,_⟩:=r.tup;exact q
 |lst b=>obtain⟨n,ds,rfl,e,_⟩:=r.lst;unfold tyD;dsimp only;rw[e];exact q
 |dct b=>obtain⟨n,ds,rfl,e,_⟩:=r.dct;unfold tyD;dsimp only;rw[e];exact q
 |_=>cases q
def Ec(r:ShR P h d v)(q:clV v=some c):clD d=some c:=by
 cases v with
 |ty b=>obtain rfl:=r.ty;exact q
 |glb b=>obtain rfl:=r.glb;exact q
 |_=>cases q
def HG:∀{ds:List D}{vs:List Val}{cs:List Cl},Rds P h ds vs->xu vs=some cs->ds.mapM clD=some cs:=by
 intro ds;induction ds with
 |nil=>intro vs cs r q;cases r;cases q;rfl
 |
  cons d0 ds ih=>
  intro vs cs r q;cases r with
  |
   cons r rr=>
   unfold xu at q;split at q
   .rename_i c cs' e1 e2;cases q;rw[QI,Ec (.inl r) e1,ih rr e2];rfl
   .cases q
def KD(kt:jA):RFn (tV kt) (BV kt):=λP h ds vs r=>by
 unfold BV;split
 .rename_i v c;obtain⟨d,d',rfl,r1,r2⟩:=qQ r;split
  .rename_i t c0 cr e1 e2;have e3:=NQ r1 e1;split
   .rename_i b b' e4 e5;refine⟨.bl b,?_,.bl b⟩;unfold tV;dsimp only;rw[e3];dsimp only;by_cases ht:∃cs,c=.tup cs
    .obtain⟨cs,rfl⟩:=ht;obtain⟨es,rfl,q⟩:=r2.tup;dsimp only;rw[HG q e2];dsimp only;rw[e4,e5]
    .have e2':(clV c).map ([·])=some (c0::cr):=by
      cases c with
      |tup cs=>exact absurd ⟨cs,rfl⟩ ht
      |_=>exact e2
     obtain⟨cl,y1,y2⟩:=G_.mp e2';cases y2;have y3:=Ec r2 y1;have hd:∀cs,d' ≠ .tup cs:=λcs z=>by subst z;cases y3
     split
     .rename_i cs;exact absurd rfl (hd cs)
     .rw[y3];dsimp only;have:kit kt t c0=some b:=by
       unfold fG at e4;rw[e5] at e4 ⊢;cases b' with
       |true=>exact e4
       |false=>unfold fG at e4;exact e4
      rw[this]
   .trivial
  .trivial
 .trivial
noncomputable def gE(xs:List Val)(lo hi:Option Int):List Val:=(xs.drop (HT.sIx xs.length 0 lo)).take (HT.sIx xs.length xs.length hi-HT.sIx xs.length 0 lo)
abbrev MO3:=E3->R3 (Option Int)
def Cd(_:Ns)(_:E3)(_:AH)(b c:Option Int):Prop:=b=c
def ROp(F:MO)(G:MO3):Prop:=∀X h0 ns e ae h,Sat X h0 ns e ae h->Po X h0 ns e ae h Cd (F ae h) (G e)
noncomputable def zO:MO3:=λe=>.ok none e
noncomputable def zQ(F:ME3):MO3:=λe=>(F e).bind λt e1=>match rs e1 t with
 |some (.int i)=>.ok (some i) e1
 |_=>.stuck
noncomputable def aSl(x:Val)(lo hi:Option Int):Bv:=match x with
 |.tup xs=>if HT.sIx xs.length 0 lo=0/\HT.sIx xs.length xs.length hi=xs.length then .stuck else .val (.tup (gE xs lo hi))
 |.lst xs=>.new (.lst (gE xs lo hi))
 |.kl xs=>.new (.lst (gE xs lo hi))
 |_=>.stuck
noncomputable def vSl(F:ME3)(L U:MO3):ME3:=λe=>(F e).bind λt e1=>(L e1).bind λlo e2=>(U e2).bind λhi e3=>match rs e3 t.drop with
 |some v=>(aSl v lo hi).at e3
 |none=>.stuck
def FZ:ROp wR zO:=λX h0 ns e ae h S=>Po.ret S rfl
def Fl(hF:RE F F3):ROp (xF F) (zQ F3):=λX h0 ns e ae h S=>
 Po.bind S (hF X h0 0 ns e ae h S (M_ _)) λd t h1 ns1 e1 a1 S1 r1=>by
  by_cases hq:∃i,rs e1 t=some (.int i)
  .obtain⟨i,hq⟩:=hq;have hd:=(r1.sh S1 hq).int;subst hd;show Po X h0 ns1 e1 ae h1 Cd (R.ok (some i) h1) (match rs e1 t with |some (.int i)=>R3.ok (some i) e1 |_=>.stuck);rw[hq];exact Po.ret S1 rfl
  .have:(match rs e1 t with |some (.int i)=>R3.ok (some i) e1 |_=>.stuck)=(.stuck:R3 (Option Int)):=by
    split
    .rename_i i q;exact absurd ⟨i,q⟩ hq
    .rfl
   show Po X h0 ns1 e1 ae h1 Cd _ (match rs e1 t with |some (.int i)=>R3.ok (some i) e1 |_=>.stuck);rw[this];trivial
def Oz(hF:RE F F3)(hL:ROp L L3')(hU:ROp U U3):RE (eSl F L U) (vSl F3 L3' U3):=λX h0 LL ns e ae h S hl=>
 Po.bind
  S (hF X h0 LL ns e ae h S hl) λd t h1 ns1 e1 a1 S1 r1=>Po.bind S1 (hL X h0 ns1 e1 ae h1 S1) λlo lo' h2 d_ e2 a2 S2 r2=>Po.bind S2 (hU X h0 d_ e2 ae h2 S2) λhi hi' h3 ns3 e3 a3 S3 r3=>by
  cases r2;cases r3;obtain⟨r1',hn⟩:=r1.drop;have r4:=(r1'.stp S1 a2 hn).stp S2 a3 hn;try dsimp only
  split
  .rename_i v q;have rr:=r4.sh S3 q;refine BvR.po S3 (F_ hl (F_ a1.len (F_ a2.len a3.len))) ?_;unfold aSl;split
   .rename_i xs;obtain⟨ds,rfl,q1⟩:=rr.tup;split
    .trivial
    .rename_i hne;refine⟨_,by unfold gSl;dsimp only;rw[if_neg (by rw[q1.len];exact hne)],.tup ?_⟩;unfold L2.cutD gE;rw[q1.len];exact (q1.drop _).take _
   .rename_i xs;obtain⟨n,ds,rfl,_,e1,q1⟩:=rr.lst;refine⟨.lst (L2.cutD ds lo hi),by unfold gSl;dsimp only;rw[e1],trivial,.lst ?_⟩;unfold L2.cutD gE;rw[q1.len];exact (q1.drop _).take _
   .rename_i xs;have key:∃ds,gSl d lo hi h3=.ok (.ref h3.length) (h3++[.lst (L2.cutD ds lo hi)])/\Rds (Oc X ns3) h3 ds xs:=by
     rcases rr with rr |⟨n,o,rfl,e,rr⟩
     .cases rr with
      |kl q1=>exact⟨_,rfl,q1⟩
      |cell p e rc=>cases rc with |fz q1=>exact⟨_,by unfold gSl aG;dsimp only;rw[e],q1⟩
     .cases rr with |fz q1=>exact⟨_,by unfold gSl aG;dsimp only;rw[e],q1⟩
    obtain⟨ds,e1,q1⟩:=key;refine⟨.lst (L2.cutD ds lo hi),e1,trivial,.lst ?_⟩;unfold L2.cutD gE;rw[q1.len];exact (q1.drop _).take _
   .trivial
  .trivial
noncomputable def oo:Val->List Val->Option (Val×Val):=λu vs=>match u,vs with
 |.lst xs,[v]=>if xs.length<16777216 then some (.lst (xs++[v]),.non) else none
 |_,_=>none
noncomputable def rQ:Val->List Val->Option (Val×Val):=λu vs=>match u,vs with
 |.lst xs,[]=>(match xs[xs.length-1]? with
  |some v=>some (.lst xs.dropLast,v)
  |none=>none)
 |_,_=>none
section
variable{P:Nat->Prop}{h:AH}
def qP(e:h[n]?=some o)(r:Rc P h o (.lst xs)):ko h (.ref n)=true/\∃ds,h[n]?=some (.lst ds)/\Rds P h ds xs/\∀f,i7 h (.ref n) f=f n ds:=by obtain⟨ds,e1,e2,q⟩:=Rc.seq e r;refine⟨by show (aG h n).isSome=true;rw[e2];rfl,ds,e1,q,λf=>?_⟩;unfold i7;dsimp only;rw[e1]
def Dz(r:Rds P h ds [v]):∃d,ds=[d]/\Rd P h d v:=by cases r with |cons r rr=>cases rr;exact⟨_,rfl,r⟩
end
def yZ:RM kM oo:=λP h n o u ds vs u' v e hf r rs q=>by
 unfold oo at q;split at q
 .split at q
  .rename_i hl;cases q;obtain⟨q1,es,q2,q3,q4⟩:=qP e r;obtain⟨d,rfl,rd⟩:=Dz rs;refine⟨q1,.lst (es++[d]),.non,?_,trivial,.lst (q3.append (.cons rd .nil)),.non⟩;unfold kM;rw[q4];dsimp only;rw[if_pos (by rw[q3.len];exact hl)]
  .cases q
 .cases q
def Kc:RM wN rQ:=λP h n o u ds vs u' v e hf r rs q=>by
 unfold rQ at q;split at q
 .split at q
  .rename_i w hw;cases q;obtain⟨q1,es,q2,q3,q4⟩:=qP e r;cases rs;obtain⟨d,e2,rd⟩:=q3.get hw;refine⟨q1,.lst es.dropLast,d,?_,trivial,.lst ?_,rd⟩
   .unfold wN;rw[q4];dsimp only;rw[q3.len,e2]
   .rw[QH,QH,q3.len];exact q3.take _
  .cases q
 .cases q
noncomputable def sL:Val->Val->Val->Option Val:=λu i v=>match u,i with
 |.lst xs,.int k=>(match ixN xs.length k with
  |some j=>some (.lst (xs.set j v))
  |none=>none)
 |_,_=>none
def HP:yA wL sL:=λP h n o u di vi d v u' _ e hf r ri rd q=>by
 unfold sL at q;split at q
 .split at q
  .rename_i j hj;cases q;obtain⟨q1,es,q2,q3,q4⟩:=qP e r;obtain rfl:=ri.int;refine⟨.lst (es.set j d),?_,trivial,.lst (q3.set rd j)⟩;unfold wL;dsimp only;rw[q2];dsimp only;rw[q3.len,hj]
  .cases q
 .cases q
def vD0:ME3:=λe=>.ok (.new (.dct [])) e
def Ot:RE eD0 vD0:=λX h0 L ns e ae h S hl=>BvR.po (r:=eD0 ae h) (b:=.new (.dct [])) S hl ⟨.dct [],rfl,trivial,.dct .nil⟩
structure PEx where
 F:ME
 G:ME3
 ok:RE F G
structure PTs where
 F:MT
 G:MT3
 ok:RT F G
structure PAs where
 F:MA
 G:MA3
 ok:RA F G
structure PSt where
 F:MS
 G:MS3
 ok:RS F G
structure PGt where
 F:MG
 G:MG3
 ok:RG F G
structure PGs where
 F:MGs
 G:jJ
 ok:RGs F G
structure PIt where
 F:MI
 G:MI3
 ok:RI F G
structure POp where
 F:MO
 G:MO3
 ok:ROp F G
structure PO2 where
 F:D->D->AH->R D
 G:Val->Val->Bv
 ok:RO F G
structure PU1 where
 F:D->AH->R D
 G:Val->Bv
 ok:RU F G
structure PBf where
 F:Fn
 G:List Val->Bv
 ok:RFn F G
structure PMm where
 F:D->List D->AH->R D
 G:Val->List Val->Option (Val×Val)
 ok:RM F G
structure PSe where
 F:D->D->D->AH->R Unit
 G:Val->Val->Val->Option Val
 ok:yA F G
structure PFn where
 ms:List Bool
 F:Fn
 G:Fn3
 ok:RF ms F G
structure PFx(ms:List Bool) where
 F:Fn
 G:Fn3
 ok:RF ms F G
noncomputable section
noncomputable def PFx.fn{ms:List Bool}(p:PFx ms):PFn:=⟨ms,p.F,p.G,p.ok⟩
def af(i:Nat):PEx:=⟨bq i,C0 i,JS i⟩
def ah(i:Int):PEx:=⟨eC (.int i),vC (.int i),rl λ_ _=>.int i⟩
noncomputable def pBl(i:Bool):PEx:=⟨eC (.bl i),vC (.bl i),rl λ_ _=>.bl i⟩
noncomputable def bc(i:Str):PEx:=⟨eC (.str i),vC (.str i),rl λ_ _=>.str i⟩
noncomputable def pTy(i:String):PEx:=⟨eC (.ty i),vC (.ty i),rl λ_ _=>.ty i⟩
noncomputable def nq(d:D)(v:Val)(r:∀P h,Rd P h d v):PEx:=⟨eC d,vC v,rl r⟩
noncomputable def pUn(o:PU1)(a:PEx):PEx:=⟨eUn o.F a.F,vUn o.G a.G,Oe o.ok a.ok⟩
noncomputable def pOp(o:PO2)(a b:PEx):PEx:=⟨eOp o.F a.F b.F,vOp o.G a.G b.G,Nn o.ok a.ok b.ok⟩
noncomputable def ag:PAs:=⟨jd,oA,Au⟩
noncomputable def aa(a:PEx)(r:PAs):PAs:=⟨gX a.F r.F,Eg a.G r.G,GD a.ok r.ok⟩
noncomputable def pFn(o:PBf)(a:PAs):PEx:=⟨eFn o.F a.F,vFn o.G a.G,OV o.ok a.ok⟩
noncomputable def br(a:PAs):PEx:=⟨eFn mT a.F,vTup a.G,Lj a.ok⟩
noncomputable def dG(a:PAs):PEx:=⟨eFn dH a.F,vLst a.G,Ma a.ok⟩
noncomputable def jB(a b:PEx):PEx:=⟨B7 a.F b.F,vAnd a.G b.G,Io a.ok b.ok⟩
noncomputable def A9(a:PEx):PEx:=⟨AZ a.F,vNot a.G,JJ a.ok⟩
noncomputable def qOf(a:PEx):PTs:=⟨tOf a.F,cOf a.G,Nz a.ok⟩
noncomputable def qTr(a:PEx):PTs:=⟨tTr a.F,cTr a.G,MK a.ok⟩
noncomputable def qAn(a b:PTs):PTs:=⟨tAn a.F b.F,cAn a.G b.G,Nk a.ok b.ok⟩
noncomputable def qO(a b:PTs):PTs:=⟨tO a.F b.F,cO a.G b.G,rt_o a.ok b.ok⟩
noncomputable def qNo(a:PTs):PTs:=⟨tNo a.F,cNo a.G,OU a.ok⟩
noncomputable def qY:PTs:=⟨tY,cY,rt_y⟩
noncomputable def xNx:PSt:=⟨sNx,wNx,MD⟩
noncomputable def xBk:PSt:=⟨sBk,wBk,Nt⟩
noncomputable def yb:PSt:=⟨xp,DR,F6⟩
noncomputable def aw(a:PEx):PSt:=⟨Co a.F,wRet a.G,Kd a.ok⟩
noncomputable def bE(a:PEx):PSt:=⟨yf a.F,D7 a.G,GN a.ok⟩
noncomputable def aj(a b:PSt):PSt:=⟨Dh a.F b.F,wSeq a.G b.G,ID a.ok b.ok⟩
noncomputable def xIf(c:PTs)(a b:PSt):PSt:=⟨sIf c.F a.F b.F,wIf c.G a.G b.G,OH c.ok a.ok b.ok⟩
noncomputable def ao(o:Bool)(i:Nat)(a:PEx):PSt:=⟨ir a.F (gN i),wAsg o i a.G,Kw o i a.ok⟩
def gtN(i:Nat):PGt:=⟨gN i,pN i,ye i⟩
noncomputable def eA:PGs:=⟨gsN,psN,Mo⟩
noncomputable def aX(a:PGt)(b:PGs):PGs:=⟨gsC a.F b.F,psC a.G b.G,Nj a.ok b.ok⟩
noncomputable def gtT(n:Nat)(a:PGs):PGt:=⟨gT λds ae h=>if ds.length=n then a.F ds ae h else .stuck,pT n a.G,rg_t n a.ok⟩
noncomputable def gtX(a:PGt):PGt:=⟨λd ae h=>noX (a.F d ae h),a.G,HY a.ok⟩
noncomputable def ky(a:PEx)(g:PGt):PSt:=⟨ir a.F g.F,DY a.G g.G,EB a.ok g.ok⟩
noncomputable def fE(i j:Nat)(a:PAs):PSt:=⟨BF i j a.F,wPar i j a.G,Hu i j a.ok⟩
noncomputable def yr(i:Nat)(o:PO2)(a:PEx):PSt:=⟨tj i o.F a.F,Dl i o.G a.G,Kq i o.ok a.ok⟩
noncomputable def eF(c:Str)(a:PAs):PSt:=⟨uj c a.F,AO c a.G,CZ c a.ok⟩
noncomputable def rh(i:Nat)(w:PSe)(k a:PEx):PSt:=⟨ir a.F (gS (bq i) k.F w.F),wSet i k.G a.G w.G,IM i w.ok k.ok a.ok⟩
noncomputable def i9(i:Nat)(m:PMm)(a:PAs):PEx:=⟨eM m.F (bq i) a.F,mi i m.G a.G,yF i m.ok a.ok⟩
noncomputable def qT(i:Nat)(m:PMm):PEx:=⟨eM0 m.F (bq i),mi i m.G oA,He i m.ok⟩
noncomputable def cx(a:PEx):PIt:=⟨Cg a.F,DL a.G,Hy a.ok⟩
def kR(a:PAs):PIt:=⟨BA a.F,Dm iw a.G,HZ a.ok⟩
noncomputable def wQ(a:PAs):PIt:=⟨Cz a.F,Eh a.G,KN a.ok⟩
def je(i:PIt)(g:PGt)(b:PSt):PSt:=⟨Bi i.F g.F b.F,wFor i.G g.G b.G,Jq i.ok g.ok b.ok⟩
def xWh(c:PTs)(b:PSt):PSt:=⟨sWh c.F b.F,wWh c.G b.G,Oy c.ok b.ok⟩
def pLC(i:PIt)(sub:Se)(hs:(sub.filterMap id).Nodup)(g:PGt)(c:PTs)(a:PEx):PEx:=⟨eLC i.F sub g.F c.F a.F,vLC i.G sub g.G c.G a.G,Nf hs i.ok g.ok c.ok a.ok⟩
noncomputable def ai(f:PFn)(a:PAs):PEx:=⟨xX f.ms.length f.F a.F,Eu f.ms f.G a.G,Gs rfl f.ok a.ok⟩
noncomputable def oN:POp:=⟨wR,zO,FZ⟩
noncomputable def oS(a:PEx):POp:=⟨xF a.F,zQ a.G,Fl a.ok⟩
noncomputable def pSl(a:PEx)(l u:POp):PEx:=⟨eSl a.F l.F u.F,vSl a.G l.G u.G,Oz a.ok l.ok u.ok⟩
def pD0:PEx:=⟨eD0,vD0,Ot⟩
noncomputable def PFx.none(ms:List Bool)(N:Nat:=0):PFx ms:=⟨λ_ _=>.stuck,λ_=>.stuck,λ_ _ _ _ _ _ _=>trivial⟩
noncomputable def PFx.of(ms:List Bool)(N:Nat)(c:PSt):PFx ms:=⟨fnD N c.F,fnV ms N c.G,DU c.ok⟩
def fnP(ms:List Bool)(N:Nat)(c:PSt):PFn:=⟨ms,fnD N c.F,fnV ms N c.G,DU c.ok⟩
def aU:PO2:=⟨x8,B9,Ki⟩
def eR:PO2:=⟨A0,aMin,Kh⟩
def aD:PO2:=⟨BG,wF,IG⟩
def jb:PO2:=⟨Bq,yi,Hf⟩
def cp:PO2:=⟨Du,wI,J6⟩
def f9:PO2:=⟨A6,wW,KI⟩
def tE:PO2:=⟨Br,xQ,IK⟩
def bLt:PO2:=⟨gLt,aLt,Ni⟩
def bGt:PO2:=⟨gGt,aGt,ND⟩
def bGe:PO2:=⟨gGe,aGe,OK⟩
def bIx:PO2:=⟨gIx,aIx,OO⟩
noncomputable def bEq:PO2:=⟨gEq false,aEq false,DK false⟩
noncomputable def bNe:PO2:=⟨gEq true,aEq true,DK true⟩
noncomputable def bIn:PO2:=⟨gIn false,aIn false,En false⟩
noncomputable def CL:PO2:=⟨gIn true,aIn true,En true⟩
noncomputable def bIs:PO2:=⟨AX false,Bk false,JL false⟩
noncomputable def yd:PO2:=⟨gI λi j=>.int (i+j),aI λi j=>.int (i+j),tX λ_ _ _ _=>.int _⟩
def tL:PU1:=⟨yk,Cy,Kv⟩
def bp:PBf:=⟨rm,C7,KU⟩
def fQ:PBf:=⟨xi,Bt,J4⟩
def rN:PBf:=⟨qK,yj,Gb⟩
def rS:PBf:=⟨qW,xR,GA⟩
def qX:PBf:=⟨sy,Df,Kk⟩
def eN:PBf:=⟨tR,CM,Lv⟩
def kQ:PBf:=⟨j8,tu,DB⟩
def qR:PBf:=⟨xr,A1,J2⟩
def bC(kt:jA):PBf:=⟨tV kt,BV kt,KD kt⟩
def eP:PMm:=⟨kM,oo,yZ⟩
def qJ:PMm:=⟨wN,rQ,Kc⟩
def seL:PSe:=⟨wL,sL,HP⟩
end
theorem nS:∀(ns:List Int),Rds P h (ns.map D.int) (ns.map Val.int)
 | []=>.nil
 |_::r=>.cons (.int _) (nS r)
def law3(p:PFn)(hm:p.ms=[false])(hG:∀ns:List Int,ns.length<=63->p.G [.kl (ns.map .int)]=.ok (.val (.bl true)) [])(d:D)(h:AH)(ns:List Int)(hl:ns.length<=63)(sc:Script h d ns):∃h',p.F [d] h=.ok (.bl true) h':=by
 have hp:=p.ok;rw[hm] at hp;have rd:Rd (Oc (λ_=>False) [none]) h d (.kl (ns.map .int)):=by
  rcases sc.form with ⟨n,rfl,e⟩ |rfl
  .exact .cell ⟨λz=>z,by simp⟩ e (.fz (nS ns))
  .exact .kl (nS ns)
 have S:Sat (λ_=>False) h.length [none] (sls [false] [.kl (ns.map .int)]) ([d].map some) h:=by
  refine⟨rfl,rfl,o_ _,λ_ z=>z.elim,λi j n q=>?_,λi n q z=>z,λi s q=>?_⟩
  .cases i with
   |zero=>simp at q
   |succ i=>simp at q
  .cases i with
   |
    zero=>
    have:sl1 false (.kl (ns.map .int))=s:=by simpa [sls] using q
    subst this;exact⟨rfl,d,rfl,rd⟩
   |succ i=>simp [sls] at q
 have:=hp _ _ [d] [.kl (ns.map .int)] h rfl S
 rw[hG ns hl] at this;obtain⟨d',h',e,_,_,r⟩:=this;cases r with
 |bl=>exact⟨h',e⟩
 |cell p e r=>cases r
section
variable(e:E3)
@[simp] theorem jv(a:α)(f:α->E3->R3 β):(R3.ok a e).bind f=f a e:=rfl
@[simp] theorem N6(a:α)(f:α->E3->SR3):(R3.ok a e).toS f=f a e:=rfl
@[simp] theorem O4(f:E3->SR3):(SR3.nx e).then f=f e:=rfl
@[simp] theorem NW(r:Rt)(f:E3->SR3):(SR3.rt r e).then f=.rt r e:=rfl
@[simp] theorem Mc(f:E3->SR3):(SR3.bk e).then f=.bk e:=rfl
@[simp] theorem Ik(c:Str)(f:E3->SR3):(SR3.exc c e).then f=.exc c e:=rfl
@[simp] theorem kW(f:E3->SR3):(SR3.nx e).loop f=f e:=rfl
@[simp] theorem MZ(f:E3->SR3):(SR3.bk e).loop f=.nx e:=rfl
@[simp] theorem Mf(r:SR3):r.unl none=r:=by cases r <;> rfl
@[simp] theorem B6:lockO e none=e:=rfl
@[simp] theorem yu:eV e none=e:=rfl
@[simp] theorem Lw(v:Val):(Bv.val v).at e=.ok (.val v) e:=rfl
@[simp] theorem Je(v:Val):(Bv.new v).at e=.ok (.new v) e:=rfl
@[simp] theorem JX(v:Val):rs e (.val v)=some v:=rfl
@[simp] theorem JO(v:Val):rs e (.new v)=some v:=rfl
@[simp] theorem Kt(i:Nat):rs e (.bor i)=(e[i]?).bind Sl.val:=rfl
@[simp] theorem Ij(v:Val):(Tm.val v).drop=.val v:=rfl
@[simp] theorem KG(v:Val):(Tm.new v).drop=.val v:=rfl
@[simp] theorem Jy(i:Nat):(Tm.bor i).drop=.bor i:=rfl
@[simp] theorem FC:rss e []=some []:=rfl
@[simp] theorem DH(t:Tm)(ts:List Tm):rss e (t::ts)=match rs e t,rss e ts with
 |some v,some vs=>some (v::vs)
 |_,_=>none:=rfl
@[simp] theorem Kg(v:Val):cH e (.val v)=some (e,v):=rfl
@[simp] theorem ze:dem e []=some (e,[]):=rfl
@[simp] theorem EE(t:Tm)(ts:List Tm):dem e (t::ts)=match cH e t with
 |some (e1,v)=>match dem e1 ts with
  |some (e2,vs)=>some (e2,v::vs)
  |none=>none
 |none=>none:=rfl
@[simp] theorem KL(b:Bool):bOf (some (.bl b))=some b:=rfl
@[simp] theorem Oj(i:Nat):(af i).G e=match e[i]? with
 |some (.sh v)=>.ok (.val v) e
 |some .no=>.stuck
 |some _=>.ok (.bor i) e
 |none=>.stuck:=rfl
@[simp] theorem NX(i:Int):(ah i).G e=.ok (.val (.int i)) e:=rfl
@[simp] theorem v_bl(i:Bool):(pBl i).G e=.ok (.val (.bl i)) e:=rfl
@[simp] theorem MY(i:Str):(bc i).G e=.ok (.val (.str i)) e:=rfl
@[simp] theorem v_ty(i:String):(pTy i).G e=.ok (.val (.ty i)) e:=rfl
@[simp] theorem v_un(o:PU1)(a:PEx):(pUn o a).G e=(a.G e).bind λt e1=>match rs e1 t with
 |some v=>(o.G v).at e1
 |none=>.stuck:=rfl
@[simp] theorem v_op(o:PO2)(a b:PEx):(pOp o a b).G e=(a.G e).bind λt1 e1=>(b.G e1).bind λt2 e2=>match rs e2 t1.drop,rs e2 t2 with
 |some v1,some v2=>(o.G v1 v2).at e2
 |_,_=>.stuck:=rfl
@[simp] theorem Nc:ag.G e=.ok [] e:=rfl
@[simp] theorem IQ(a:PEx)(r:PAs):(aa a r).G e=(a.G e).bind λt e1=>(r.G e1).bind λts e2=>.ok (t.drop::ts) e2:=rfl
@[simp] theorem v_fn(o:PBf)(a:PAs):(pFn o a).G e=(a.G e).bind λts e1=>match rss e1 ts with
 |some vs=>(o.G vs).at e1
 |none=>.stuck:=rfl
@[simp] theorem Nh(a:PAs):(br a).G e=(a.G e).bind λts e1=>match dem e1 ts with
 |some (e2,vs)=>if vs.length<=16777216 then .ok (.val (.tup vs)) e2 else .stuck
 |none=>.stuck:=rfl
@[simp] theorem NN(a:PAs):(dG a).G e=(a.G e).bind λts e1=>match dem e1 ts with
 |some (e2,vs)=>if vs.length<=16777216 then .ok (.new (.lst vs)) e2 else .stuck
 |none=>.stuck:=rfl
@[simp] theorem NB(a b:PEx):(jB a b).G e=(a.G e).bind λt e1=>match bOf (rs e1 t) with
 |some true=>b.G e1
 |some false=>.ok (.val (.bl false)) e1
 |none=>.stuck:=rfl
@[simp] theorem MF(a:PEx):(A9 a).G e=(a.G e).bind λt e1=>match bOf (rs e1 t) with
 |some b=>.ok (.val (.bl (!b))) e1
 |none=>.stuck:=rfl
@[simp] theorem c_of(a:PEx):(qOf a).G e=(a.G e).bind λt e1=>match bOf (rs e1 t) with
 |some b=>.ok b e1
 |none=>.stuck:=rfl
@[simp] theorem c_tr(a:PEx):(qTr a).G e=(a.G e).bind λt e1=>match (rs e1 t).bind mj with
 |some b=>.ok b e1
 |none=>.stuck:=rfl
@[simp] theorem c_an(a b:PTs):(qAn a b).G e=(a.G e).bind λk e1=>if k=true then b.G e1 else .ok false e1:=rfl
@[simp] theorem c_o(a b:PTs):(qO a b).G e=(a.G e).bind λk e1=>if k=true then .ok true e1 else b.G e1:=rfl
@[simp] theorem c_no(a:PTs):(qNo a).G e=(a.G e).bind λk e1=>.ok (!k) e1:=rfl
@[simp] theorem x_nx:xNx.G e=.nx e:=rfl
@[simp] theorem x_bk:xBk.G e=.bk e:=rfl
@[simp] theorem HD:yb.G e=.rt (.val .non) e:=rfl
@[simp] theorem Mk(a:PEx):(aw a).G e=(a.G e).toS n9:=rfl
@[simp] theorem GG(v:Val):n9 (.val v) e=.rt (.val v) e:=rfl
@[simp] theorem FL(v:Val):n9 (.new v) e=.rt (.new v) e:=rfl
@[simp] theorem FF(i:Nat):n9 (.bor i) e=match e[i]? with
 |some (.sh v)=>.rt (.val v) e
 |some (.ow v)=>.rt (.new v) (e.set i .no)
 |some (.mu _)=>.rt (.par i) e
 |_=>.stuck:=rfl
@[simp] theorem Lo(a:PEx):(bE a).G e=(a.G e).toS λ_ e1=>.nx e1:=rfl
@[simp] theorem El(a b:PSt):(aj a b).G e=(a.G e).then b.G:=rfl
@[simp] theorem x_if(c:PTs)(a b:PSt):(xIf c a b).G e=(c.G e).toS λk e1=>if k=true then a.G e1 else b.G e1:=rfl
@[simp] theorem N8(o:Bool)(i:Nat)(a:PEx):(ao o i a).G e=(a.G e).toS (ik o i):=rfl
@[simp] theorem NY:Sl.no.pl=true:=rfl
@[simp] theorem Mu(v:Val):(Sl.sh v).pl=true:=rfl
@[simp] theorem EZ(o:Bool)(i:Nat)(v:Val):ik o i (.val v) e=match e[i]? with
 |some s0=>if s0.pl=true then .nx (e.set i (.sh v)) else .stuck
 |none=>.stuck:=by unfold ik;rfl
@[simp] theorem By(i:Nat)(v:Val):ik true i (.new v) e=match e[i]? with
 |some s0=>if s0.pl=true then .nx (e.set i (.ow v)) else .stuck
 |none=>.stuck:=by unfold ik;rfl
@[simp] theorem Dk(i:Nat)(v:Val):ik false i (.new v) e=match e[i]? with
 |some s0=>if s0.pl=true then .nx (e.set i (.sh v)) else .stuck
 |none=>.stuck:=by unfold ik;rfl
@[simp] theorem g_n(i:Nat)(v:Val):(gtN i).G v e=match e[i]? with
 |some s=>if s.pl=true then some (e.set i (.sh v)) else none
 |none=>none:=rfl
@[simp] theorem g_sn:eA.G [] e=some e:=rfl
@[simp] theorem g_sc(a:PGt)(b:PGs)(v:Val)(vs:List Val):(aX a b).G (v::vs) e=(a.G v e).bind λe1=>b.G vs e1:=rfl
@[simp] theorem g_t(n:Nat)(a:PGs)(vs:List Val):(gtT n a).G (.tup vs) e=if vs.length=n then a.G vs e else none:=rfl
@[simp] theorem g_x(a:PGt)(v:Val):(gtX a).G v e=a.G v e:=rfl
@[simp] theorem Ig(a:PEx)(g:PGt):(ky a g).G e=(a.G e).toS λt e1=>match cH e1 t with
 |some (e2,v)=>match g.G v e2 with
  |some e3=>.nx e3
  |none=>.stuck
 |none=>.stuck:=rfl
@[simp] theorem Np(i j:Nat)(a:PAs):(fE i j a).G e=(a.G e).toS λts e1=>match dem e1 ts with
 |some (e2,[v,u])=>match (pN i v e2).bind (pN j u) with
  |some e3=>.nx e3
  |none=>.stuck
 |_=>.stuck:=rfl
@[simp] theorem NO(i:Nat)(v:Val):pN i v e=match e[i]? with
 |some s=>if s.pl=true then some (e.set i (.sh v)) else none
 |none=>none:=rfl
@[simp] theorem OZ(i:Nat)(o:PO2)(a:PEx):(yr i o a).G e=match e[i]? with
 |some (.sh x)=>(a.G e).toS λt e1=>match rs e1 t with
  |some y=>match o.G x y with
   |.val z=>match pN i z e1 with
    |some e2=>.nx e2
    |none=>.stuck
   |_=>.stuck
  |none=>.stuck
 |_=>.stuck:=rfl
@[simp] theorem Gd(c:Str)(a:PAs):(eF c a).G e=(a.G e).toS λts e1=>if ts.length<=16777216 then .exc c e1 else .stuck:=rfl
@[simp] theorem Mj(i:Nat)(w:PSe)(k a:PEx):(rh i w k a).G e=(a.G e).toS λt e1=>match (e1[i]?).bind Sl.mv with
 |none=>.stuck
 |some _=>(k.G e1).toS λt2 e2=>match rs e2 t2 with
  |none=>.stuck
  |some vi=>match cH e2 t.drop with
   |none=>.stuck
   |some (e3,v)=>match e3[i]? with
    |none=>.stuck
    |some s=>match s.mv with
     |none=>.stuck
     |some u=>match w.G u vi v with
      |some u'=>.nx (e3.set i (s.re u'))
      |none=>.stuck:=rfl
@[simp] theorem NG(v:Val):(Sl.ow v).mv=some v:=rfl
@[simp] theorem M5(v:Val):(Sl.mu v).mv=some v:=rfl
@[simp] theorem M4(v u:Val):(Sl.ow v).re u=.ow u:=rfl
@[simp] theorem NJ(v u:Val):(Sl.mu v).re u=.mu u:=rfl
@[simp] theorem J7(v:Val):(Sl.ow v).val=some v:=rfl
@[simp] theorem Ll(v:Val):(Sl.mu v).val=some v:=rfl
@[simp] theorem Mz(i:Nat)(m:PMm)(a:PAs):(i9 i m a).G e=match e[i]? with
 |some s=>if (s.mv.map jO)=some true then (a.G e).bind λts e1=>match dem e1 ts with
  |some (e2,vs)=>match e2[i]? with
   |some s2=>match s2.mv with
    |some u=>match m.G u vs with
     |some (u',v)=>.ok (.val v) (e2.set i (s2.re u'))
     |none=>.stuck
    |none=>.stuck
   |none=>.stuck
  |none=>.stuck else .stuck
 |none=>.stuck:=rfl
@[simp] theorem HQ(i:Nat)(m:PMm):(qT i m).G e=match e[i]? with
 |some s=>if (s.mv.map jO)=some true then (match s.mv with
  |some u=>match m.G u [] with
   |some (u',v)=>.ok (.val v) (e.set i (s.re u'))
   |none=>.stuck
  |none=>.stuck) else .stuck
 |none=>.stuck:=by
 show mi i m.G oA e=_;unfold mi;cases q:e[i]? with
 |none=>rfl
 |
  some s=>
  dsimp only;split
  .simp only[oA,jv,ze,q];try rfl
  .rfl
@[simp] theorem Dy(xs:List Val):jO (.lst xs)=true:=rfl
@[simp] theorem Oo(a:PEx):(cx a).G e=(a.G e).bind λt e1=>match fN t e1 with
 |some p=>.ok p e1
 |none=>.stuck:=rfl
@[simp] theorem MP(a:PAs):(wQ a).G e=(a.G e).bind λts e1=>match ts with
 | [t,u]=>(match fN t e1,fN u e1 with
  |some (xs,k),some (ys,none)=>.ok (List.zipWith (λx y=>.tup [x,y]) xs ys,k) e1
  |_,_=>.stuck)
 |_=>.stuck:=rfl
@[simp] theorem JA(v:Val):fN (.val v) e=(gW v).map λxs=>(xs,none):=rfl
@[simp] theorem Ke(v:Val):fN (.new v) e=(gW v).map λxs=>(xs,none):=rfl
@[simp] theorem L8(xs:List Val):gW (.tup xs)=some xs:=rfl
@[simp] theorem JU(xs:List Val):gW (.lst xs)=some xs:=rfl
@[simp] theorem Ms(a:PAs):(kR a).G e=(a.G e).bind λts e1=>match (rss e1 ts).bind iw with
 |some xs=>.ok (xs,none) e1
 |none=>.stuck:=rfl
@[simp] theorem Ov(i:PIt)(g:PGt)(b:PSt):(je i g b).G e=(i.G e).toS λp e1=>(eU g.G b.G p.1 (lockO e1 p.2)).unl p.2:=rfl
@[simp] theorem gr(g:MG3)(B:MS3):eU g B [] e=.nx e:=rfl
theorem dY(g:MG3)(B:MS3)(v:Val)(vs:List Val):eU g B (v::vs) e=match g v e with
 |some e1=>(B e1).loop (eU g B vs)
 |none=>.stuck:=rfl
def fC(c:PTs)(b:PSt):(xWh c b).G e=(c.G e).toS λk e1=>if k=true then (b.G e1).loop (xWh c b).G else .nx e1:=BD c.G b.G e
@[simp] theorem v_lc(i:PIt)(sub:Se)(hs:(sub.filterMap id).Nodup)(g:PGt)(c:PTs)(a:PEx):(pLC i sub hs g c a).G e=(i.G e).bind λp e1=>match lcV g.G c.G a.G p.1 [] (bL sub (lockO e1 p.2)) with
 |.ok ys e2=>if ys.length<=16777216 then .ok (.new (.lst ys)) (eV (a9 sub e2 (lockO e1 p.2)) p.2) else .stuck
 |_=>.stuck:=rfl
@[simp] theorem Hr(f:PFn)(a:PAs):(ai f a).G e=(a.G e).bind λts e1=>match rss e1 ts with
 |none=>.stuck
 |some vs=>if okA e1 f.ms ts=true then (match f.G vs with
  |.stuck=>.stuck
  |.ok r mv=>if (aT e1 f.ms ts).isEmpty || (kJ r&&mv.all c8) then .ok (r.tm ts) (a9 (bR f.ms ts) (aF f.ms mv) e1) else (match nQ e1 (aT e1 f.ms ts) with
   |some e2=>.ok (r.tm ts) (a9 (bR f.ms ts) (aF f.ms mv) e2)
   |none=>.stuck)
  |.exc c mv=>if (aT e1 f.ms ts).isEmpty || mv.all c8 then .exc c (a9 (bR f.ms ts) (aF f.ms mv) e1) else .stuck) else .stuck:=rfl
@[simp] theorem H0(ts:List Tm)(v:Val):(Rt.val v).tm ts=.val v:=rfl
@[simp] theorem KC(ts:List Tm)(v:Val):(Rt.new v).tm ts=.new v:=rfl
@[simp] theorem o_n:oN.G e=.ok none e:=rfl
@[simp] theorem o_s(a:PEx):(oS a).G e=(a.G e).bind λt e1=>match rs e1 t with
 |some (.int i)=>.ok (some i) e1
 |_=>.stuck:=rfl
@[simp] theorem v_sl(a:PEx)(l u:POp):(pSl a l u).G e=(a.G e).bind λt e1=>(l.G e1).bind λlo e2=>(u.G e2).bind λhi e3=>match rs e3 t.drop with
 |some v=>(aSl v lo hi).at e3
 |none=>.stuck:=rfl
@[simp] theorem v_d0:pD0.G e=.ok (.new (.dct [])) e:=rfl
theorem aC(ms:List Bool)(N:Nat)(c:PSt)(vs:List Val):(fnP ms N c).G vs=if vs.length=ms.length then (match c.G (sls ms vs++List.replicate (N-vs.length) .no) with
 |.nx e=>(match muV ms e with |some mv=>.ok (.val .non) mv |none=>.stuck)
 |.rt r e=>(match muV ms e with |some mv=>.ok r mv |none=>.stuck)
 |.exc c e=>(match muV ms e with |some mv=>.exc c mv |none=>.stuck)
 |_=>.stuck) else .stuck:=rfl
theorem ki(ms:List Bool)(N:Nat)(c:PSt)(vs:List Val):(PFx.of ms N c).G vs=if vs.length=ms.length then (match c.G (sls ms vs++List.replicate (N-vs.length) .no) with
 |.nx e=>(match muV ms e with |some mv=>.ok (.val .non) mv |none=>.stuck)
 |.rt r e=>(match muV ms e with |some mv=>.ok r mv |none=>.stuck)
 |.exc c e=>(match muV ms e with |some mv=>.exc c mv |none=>.stuck)
 |_=>.stuck) else .stuck:=rfl
@[simp] theorem NF(p:PFx ms):p.fn.ms=ms:=rfl
@[simp] theorem fx_G(p:PFx ms)(vs:List Val):p.fn.G vs=p.G vs:=rfl
end
@[simp] theorem NP(i j:Int):aU.G (.int i) (.int j)=.val (.int (i+j)):=rfl
@[simp] theorem MV(i j:Int):eR.G (.int i) (.int j)=.val (.int (i-j)):=rfl
@[simp] theorem k_lt(i j:Int):bLt.G (.int i) (.int j)=.val (.bl (decide (i<j))):=rfl
@[simp] theorem k_gt(i j:Int):bGt.G (.int i) (.int j)=.val (.bl (decide (j<i))):=rfl
@[simp] theorem k_ge(i j:Int):bGe.G (.int i) (.int j)=.val (.bl (decide (j<=i))):=rfl
@[simp] theorem Nv(i j:Int):yd.G (.int i) (.int j)=.val (.int (i+j)):=rfl
@[simp] theorem OX(i:Int):tL.G (.int i)=.val (.int (-i)):=rfl
def aH(c:CMulA i j):aD.G (.int i) (.int j)=.val (.int (i*j)):=by show wF (.int i) (.int j)=_;unfold wF aIc;dsimp only;rw[if_pos c]
def kK(c:CDivB i j):jb.G (.int i) (.int j)=.val (.int (i.fdiv j)):=by show yi (.int i) (.int j)=_;unfold yi aIc;dsimp only;rw[if_pos c]
def fj(c:j≠0):cp.G (.int i) (.int j)=.val (.int (i.fmod j)):=by show wI (.int i) (.int j)=_;unfold wI aIc;dsimp only;rw[if_pos c]
def qH(c:gi i j):f9.G (.int i) (.int j)=.val (.int (i^j.toNat)):=by show wW (.int i) (.int j)=_;unfold wW aIc;dsimp only;rw[if_pos c]
def NA(c:gi i j):tE.G (.int i) (.int j)=.val (.int (i*2^j.toNat)):=by show xQ (.int i) (.int j)=_;unfold xQ aIc;dsimp only;rw[if_pos c]
@[simp] theorem k_ix(x:Val)(i:Int):bIx.G x (.int i)=match x.items with
 |some xs=>(match atI xs i with
  |some v=>.val v
  |none=>.stuck)
 |none=>.stuck:=by show aIx x (.int i)=_;unfold aIx;cases x.items <;> rfl
@[simp] theorem LZ(xs:List Val):(Val.tup xs).items=some xs:=rfl
@[simp] theorem K1(xs:List Val):(Val.lst xs).items=some xs:=rfl
@[simp] theorem Mb(xs:List Val):(Val.kl xs).items=some xs:=rfl
@[simp] theorem k_eq(x y:Val):bEq.G x y=match cB x y with
 |some b=>.val (.bl b)
 |none=>.stuck:=by show aEq false x y=_;unfold aEq;cases cB x y <;> rfl
@[simp] theorem k_ne(x y:Val):bNe.G x y=match cB x y with
 |some b=>.val (.bl (!b))
 |none=>.stuck:=by show aEq true x y=_;unfold aEq;cases cB x y <;> rfl
@[simp] theorem NC(x y:Int):cB (.int x) (.int y)=some (x==y):=rfl
def eq_str(hx:PyData.strOk x=true)(hy:PyData.strOk y=true):cB (.str x) (.str y)=some (x==y):=by unfold cB;show (if shp (.str x)=true/\shp (.str y)=true then _ else _)=_;rw[if_pos ⟨g9 hx (M_ _),g9 hy (M_ _)⟩];rfl
@[simp] theorem k_is(x:Val):bIs.G x .non=match x with
 |.non=>.val (.bl true)
 |_=>.val (.bl false):=by cases x <;> rfl
@[simp] theorem OB(v:Val):bp.G [v]=match v.items with
 |some xs=>.val (.int xs.length)
 |none=>(match v with
  |.str z=>if z.length<=16777216 then .val (.int z.length) else .stuck
  |_=>.stuck):=rfl
@[simp] theorem NS(i:Int):fQ.G [.int i]=.val (.int (if i<0 then -i else i)):=rfl
@[simp] theorem Oa(i j:Int):rN.G [.int i,.int j]=.val (.int (if j>i then j else i)):=rfl
@[simp] theorem OM(i j:Int):rS.G [.int i,.int j]=.val (.int (if j<i then j else i)):=rfl
@[simp] theorem N3(xs:List Val):qX.G [.lst xs]=match j0 xs with
 |some bs=>.val (.bl (bs.all id))
 |none=>.stuck:=rfl
@[simp] theorem Ng(xs:List Val):eN.G [.lst xs]=match fT xs with
 |some bs=>.val (.int bs.sum)
 |none=>.stuck:=rfl
@[simp] theorem ER(v:Val):kQ.G [v]=match v.items with
 |some xs=>.val (.tup xs)
 |none=>.stuck:=rfl
@[simp] theorem IL(b:Bool):qR.G [.bl b]=.val (.int (if b then 1 else 0)):=rfl
@[simp] theorem Bz(xs:List Val)(v:Val):eP.G (.lst xs) [v]=if xs.length<16777216 then some (.lst (xs++[v]),.non) else none:=rfl
@[simp] theorem bZ:∀(bs:List Int),fT (bs.map Val.int)=some bs
 | []=>rfl
 |b::r=>by show (fT (r.map Val.int)).map (b :: ·)=_;rw[bZ r];rfl
def zc{K:W.Frag}{mg:Sa}{X:Cx}{ES:L2.St->XK}{sts:List Stmt}:DSs K mg X ES sts (λ_ _=>.stuck):=λpins s σ H D I ⟨_,_,_,_,_,p⟩=>p.elim
section
variable(K:W.Frag)(mg:Sa)(X:Cx)(ES:L2.St->XK)
@[irreducible] def DE(e:Expr)(F:ME):Prop:=L2.DE K mg X ES e F
@[irreducible] def DT(e:Expr)(F:MT):Prop:=L2.DT K mg X ES e F
@[irreducible] def DA(es:List Expr)(F:MA):Prop:=L2.DA K mg X ES es F
@[irreducible] def DS(st:Stmt)(F:MS):Prop:=L2.DS K mg X ES st F
@[irreducible] def DSs(st:List Stmt)(F:MS):Prop:=L2.DSs K mg X ES st F
@[irreducible] def DI(tg a_:Expr)(F:MI):Prop:=L2.DI K mg X ES tg a_ F
end
section
variable{K:W.Frag}{mg:Sa}{X:Cx}{ES:L2.St->XK}{e a b c o i tg a_ im:Expr}{es:List Expr}{st:Stmt}{sts sts':List Stmt}{p q r:PEx}{A:PAs}{t u:PTs}{x y:PSt}{g:PGt}{gs:PGs}{I:PIt}{pos:Pos}
def Av(i:Nat){x:Str}(hN:X.N[i]?=some x:=by rfl)(hv:Vis X.env.scope x:=by first |exact Or.inl rfl |exact Or.inr (Or.inl rfl) |exact Or.inr (Or.inr rfl))(hd:(x==("__debug__" : Str))=false:=by decide)(i_:(x==("__classdict__" : Str))=false:=by decide):DE K mg X ES (.Name x pos) (af i).F:=by with_unfolding_all exact Jk i hN hv hd i_
def L4{i:Int}{j:Nat}:DE K mg X ES (.Constant (.int i) j pos) (ah i).F:=by with_unfolding_all exact L6
def M9{i:Bool}{j:Nat}:DE K mg X ES (.Constant (.bool i) j pos) (pBl i).F:=by with_unfolding_all exact Of
def jZ{i:Str}{j:Nat}:DE K mg X ES (.Constant (.str i) j pos) (bc i).F:=by with_unfolding_all exact LD
def N4{x:Str}{d:D}{v:Val}{r:∀P h,Rd P h d v}(hg:Gl X x)(ha:GC K mg x d)(hm:X.mg=mg:=by rfl)(hd:(x==("__debug__" : Str))=false:=by decide):DE K mg X ES (.Name x pos) (nq d v r).F:=by with_unfolding_all exact OR hg ha hm hd
def Om{x:Str}{n:String}(hg:Gl X x)(hm:mg x=none)(hv:bootBuiltins x=some (.type n))(he:X.mg=mg:=by rfl)(hn:x ≠ "__name__":=by decide)(hd:(x==("__debug__" : Str))=false:=by decide):DE K mg X ES (.Name x pos) (pTy n).F:=by with_unfolding_all exact Oi hg hm hv he hn hd
def ML(ho:OpR X (binaryOp op) r')(hd:OpD K mg r' k.F)(ha:DE K mg X ES a p.F)(hb:DE K mg X ES b q.F):DE K mg X ES (.BinOp a op b pos) (pOp k p q).F:=by with_unfolding_all exact Mg ho hd ha hb
def OI(hr:IxR X r')(hd:OpD K mg r' k.F)(ha:DE K mg X ES a p.F)(hb:DE K mg X ES b q.F)(hs:oH b:=by exact λ_ _=>rfl):DE K mg X ES (.Subscript a b pos) (pOp k p q).F:=by with_unfolding_all exact Nl hr hd ha hb hs
def JF(ho:OpR X (compareOp op) r')(hd:OpD K mg r' k.F)(ha:DE K mg X ES a p.F)(hb:DE K mg X ES b q.F)(hm:behindInMarks op b=false:=by first |exact Ab _ |with_unfolding_all rfl):DE K mg X ES (.Compare a [op] [b] pos) (pOp k p q).F:=by with_unfolding_all exact Jg ho hd ha hb hm
def HM(ho:OpR X (compareOp op) r')(hd:OpD K mg r' k.F)(ha:DE K mg X ES a p.F)(hb:DE K mg X ES b q.F)(hm:behindInMarks op b=false:=by first |exact Ab _ |with_unfolding_all rfl):DT K mg X ES (.Compare a [op] [b] pos) (qOf (pOp k p q)).F:=by with_unfolding_all exact Ju ho hd ha hb hm
def tf(ha:DE K mg X ES a p.F)(he:∀c_,isTrue a X.env c_=(do let v <- c_;standAt a.pos;holding [v] (truthy v)):=by intro _;rfl):DT K mg X ES a (qOf p).F:=by with_unfolding_all exact Ih ha he
def BB(hK:X.K=K)(ha:DE K mg X ES a p.F)(he:∀c_,isTrue a X.env c_=(do let v <- c_;standAt a.pos;holding [v] (truthy v)):=by intro _;rfl):DT K mg X ES a (qTr p).F:=by with_unfolding_all exact BZ hK ha he
def tJ(ha:DT K mg X ES a t.F):DT K mg X ES (.UnaryOp .Not a pos) (qNo t).F:=by with_unfolding_all exact Lk ha
def E5(ha:DT K mg X ES a t.F):DW K mg X ES (.BoolOp .And [a] pos) t.F:=by with_unfolding_all exact FN ha
def LX(ha:DT K mg X ES a t.F):DW K mg X ES (.BoolOp .Or [a] pos) t.F:=by with_unfolding_all exact J9 ha
def JE(ha:DT K mg X ES a t.F)(hb:DW K mg X ES (.BoolOp .And (b::es) pos) u.F):DW K mg X ES (.BoolOp .And (a::b::es) pos) (qAn t u).F:=by with_unfolding_all exact JG ha hb
def Oh(ha:DT K mg X ES a t.F)(hb:DW K mg X ES (.BoolOp .Or (b::es) pos) u.F):DW K mg X ES (.BoolOp .Or (a::b::es) pos) (qO t u).F:=by with_unfolding_all exact Nr ha hb
def ZW.dt(h:DW K mg X ES a t.F):DT K mg X ES a t.F:=by with_unfolding_all exact DW.dt h
def zt_w{op}(h:DW K mg X ES (.BoolOp op es pos) t.F):DT K mg X ES (.BoolOp op es pos) t.F:=ZW.dt h
def Iy{op}(h:DE K mg X ES a p.F):DE K mg X ES (.BoolOp op [a] pos) p.F:=by with_unfolding_all exact H9 h
def LY(ha:DE K mg X ES a p.F)(hb:DE K mg X ES (.BoolOp .And (b::es) pos) q.F):DE K mg X ES (.BoolOp .And (a::b::es) pos) (jB p q).F:=by with_unfolding_all exact HA ha hb
def IH(ha:DE K mg X ES a p.F):DE K mg X ES (.UnaryOp .Not a pos) (A9 p).F:=by with_unfolding_all exact Lb ha
def M0(ho:UnR X (unaryOp op) r')(hd:UnD K mg r' k.F)(ha:DE K mg X ES a p.F):DE K mg X ES (.UnaryOp op a pos) (pUn k p).F:=by with_unfolding_all exact MC ho hd ha
def HX:DA K mg X ES [] ag.F:=by with_unfolding_all exact yU
def bP(ha:DE K mg X ES e p.F)(hr:DA K mg X ES es A.F)(hs:starEach (e::es) X.env=(false,eval e X.env)::starEach es X.env:=by rfl):DA K mg X ES (e::es) (aa p A).F:=by with_unfolding_all exact vE ha hr hs
def zp{x1}(h:DA K mg X ES es A.F):DE K mg X ES (.Tuple es x1 pos) (br A).F:=by with_unfolding_all exact JB h
def HR(h:DA K mg X ES es A.F):DE K mg X ES (.List es pos) (dG A).F:=by with_unfolding_all exact KY h
def gM{id:String}{r':List V->Hp->VK->Prop}{k:PBf}{x:Str}{p0:Pos}(hc:CallR X (.builtin id) r')(hd:aS K mg r' k.F)(hg:Gl X x)(hm:mg x=none)(hv:bootBuiltins x=some (.builtin id))(ha:DA K mg X ES (e::es) A.F)(hk:X.mg=mg:=by rfl)(hn:x ≠ "__name__":=by decide)(hdb:(x==("__debug__" : Str))=false:=by decide)(he:starEach (e::es) X.env=(false,eval e X.env)::starEach es X.env:=by rfl)(hpl:(backTo pos (starEach es X.env)).any (·.1)=false:=by rfl):DE K mg X ES (.Call (.Name x p0) (e::es) [] pos) (pFn k A).F:=by with_unfolding_all exact CY hc hd hg hm hv ha hk hn hdb he hpl
def zU{id:String}{r':List V->Hp->VK->Prop}{k:PBf}{x:Str}{p0:Pos}(hc:CallR X (.type id) r')(hd:aS K mg r' k.F)(hg:Gl X x)(hm:mg x=none)(hv:bootBuiltins x=some (.type id))(ha:DA K mg X ES (e::es) A.F)(hk:X.mg=mg:=by rfl)(hn:x ≠ "__name__":=by decide)(hdb:(x==("__debug__" : Str))=false:=by decide)(he:starEach (e::es) X.env=(false,eval e X.env)::starEach es X.env:=by rfl)(hpl:(backTo pos (starEach es X.env)).any (·.1)=false:=by rfl):DE K mg X ES (.Call (.Name x p0) (e::es) [] pos) (pFn k A).F:=by with_unfolding_all exact Ad hc hd hg hm hv ha hk hn hdb he hpl
def Cb{f:PFn}{x:Str}{p0:Pos}{k n:Nat}{ps:List Str}(C:Callee X.prog X.w X.K X.mg X.base x k ps (spD K mg n f.F))(hr:Room k X.A)(hg:Gl X x)(hx:kA X ES)(ha:DA K mg X ES (e::es) A.F)(hn:f.ms.length=n)(hdb:(x==("__debug__" : Str))=false)(he:starEach (e::es) X.env=(false,eval e X.env)::starEach es X.env)(hpl:(backTo pos (starEach es X.env)).any (·.1)=false):DE K mg X ES (.Call (.Name x p0) (e::es) [] pos) (ai f A).F:=by subst hn;with_unfolding_all exact Bu C hr hg hx ha hdb he hpl
def Gg:DSs K mg X ES [] xNx.F:=by with_unfolding_all exact Gq
def dC(h1:DS K mg X ES st x.F):DSs K mg X ES [st] x.F:=by with_unfolding_all exact Fo h1
def ar(h1:DS K mg X ES st x.F)(h2:DSs K mg X ES sts y.F):DSs K mg X ES (st::sts) (aj x y).F:=by with_unfolding_all exact CN h1 h2
def Cr:DS K mg X ES (.Break pos) xBk.F:=by with_unfolding_all exact Di
def GV:DS K mg X ES (.Return none pos) yb.F:=by with_unfolding_all exact Gp
def fk(he:DE K mg X ES e p.F):DS K mg X ES (.Return (some e) pos) (aw p).F:=by with_unfolding_all exact Kn he
def Fj(he:DE K mg X ES e p.F)(hs:swapsWith e none pos.line X.env=pure false:=by rfl):DS K mg X ES (.Expr e pos) (bE p).F:=by with_unfolding_all exact Fw he hs
def nJ(hc:DT K mg X ES c t.F)(ha:DSs K mg X ES sts x.F)(hb:DSs K mg X ES sts' y.F):DS K mg X ES (.If c sts sts' pos) (xIf t x y).F:=by with_unfolding_all exact Mx hc ha hb
def GH{i:Nat}{x:Str}(hN:X.N.Nodup)(hi:X.N[i]?=some x)(hx:Loc X.env.scope x)(hf:X.fn x=true\/X.env.scope.names.lookup x=some .local):DG K mg X ES (.Name x pos) (gtN i).F:=GW hN hi hx hf
def EK:DGs K mg X ES [] eA.F:=GL
def Bn(h1:DG K mg X (λ_=>E0) e g.F)(h2:DGs K mg X (λ_=>E0) es gs.F)(hs:(assignEach (e::es) X.env).map (·.2)=assign e X.env::(assignEach es X.env).map (·.2):=by rfl):DGs K mg X (λ_=>E0) (e::es) (aX g gs).F:=Dc h1 h2 hs
def Ka(hK:X.K=K)(hc:X.calm=true)(h:DGs K mg X (λ_=>E0) es gs.F)(hn:(assignEach es X.env).length=n:=by rfl)(hst:(assignEach es X.env).findIdx? (·.1)=none:=by rfl):DG K mg X (λ_=>E0) (.Tuple es k pos) (gtT n gs).F:=Im hK hc h hn hst
def ZG.weak(hg:DG K mg X (λ_=>E0) e g.F):DG K mg X ES e (gtX g).F:=DG.weak hg
def EY(he:DE K mg X ES e p.F)(hg:DG K mg X ES a g.F)(hs:swapsWithSole [a] e pos.line X.env=pure false:=by rfl)(hw:swappedStores [a] e X.env=pure none:=by rfl)(h1:(assignEach [a] X.env).map (·.2)=[assign a X.env]:=by rfl):DS K mg X ES (.Assign [a] e pos) (ky p g).F:=by with_unfolding_all exact zd he hg hs hw h1
def Gn(he:DE K mg X ES e p.F)(ho:DE K mg X ES o (af j).F)(hi:DE K mg X ES i q.F)(hs':so X r')(hd:oi K mg r' w.F)(hs:swapsWithSole [.Subscript o i p1] e pos.line X.env=pure false:=by rfl)(hw:swappedStores [.Subscript o i p1] e X.env=pure none:=by rfl)(h1:(assignEach [.Subscript o i p1] X.env).map (·.2)=[assign (.Subscript o i p1) X.env]:=by rfl)
 (ha:∀v,assign (.Subscript o i p1) X.env v=(do
  let ov <- holding [v] (eval o X.env)
  let iv <- holding [v,ov] (eval i X.env)
  standAt p1
  holding [v,ov,iv] (setItem ov iv v)
  release [v,ov,iv] []):=by intro _;rfl):DS K mg X ES (.Assign [.Subscript o i p1] e pos) (rh j w q p).F:=by with_unfolding_all exact zd he (Kz ho hi hs' hd ha) hs hw h1
def KJ{ow:Bool}{i:Nat}{x:Str}{h_:Pos}(hN:X.N.Nodup)(hi:X.N[i]?=some x)(hx:Loc X.env.scope x)(he:DE K mg X ES e p.F)(hs:swapsWith e (some (.Name x h_)) pos.line X.env=pure false)(hf:X.fn x=true\/X.env.scope.names.lookup x=some .local):DS K mg X ES (.Assign [.Name x h_] e pos) (ao ow i p).F:=by with_unfolding_all exact Ji hN hi hx he hs hf
def HH{i j:Nat}{x y:Str}{px py pt:Pos}{kt k2 pt2}(hN:X.N.Nodup)(ha:DA K mg X ES [a,b] A.F)(hc:X.calm=true:=by rfl)(hi:X.N[i]?=some x:=by rfl)(hj:X.N[j]?=some y:=by rfl)(hij:i≠j:=by decide)(hx:X.env.scope.names.lookup x=some .local:=by rfl)(hy:X.env.scope.names.lookup y=some .local:=by rfl)(hw:swappedStores [.Tuple [.Name x px,.Name y py] kt pt] (.Tuple [a,b] k2 pt2) X.env=pure (some [x,y]):=by rfl)(hs:swapsWithSole [.Tuple [.Name x px,.Name y py] kt pt] (.Tuple [a,b] k2 pt2) pos.line X.env=pure false:=by rfl):DS K mg X ES (.Assign [.Tuple [.Name x px,.Name y py] kt pt] (.Tuple [a,b] k2 pt2) pos) (fE i j A).F:=by with_unfolding_all exact Ky hc hN hi hj hij hx hy ha hw hs
def Li{i:Nat}{x:Str}{op:Operator}{ti:TIp}{h_:Pos}{k:PO2}(hN:X.N.Nodup)(he:DE K mg X ES e p.F)(ho:PIp X op ti)(hd:IpD K mg ti k.F)(hi:X.N[i]?=some x:=by rfl)(hx:Loc X.env.scope x:=by first |exact Or.inl rfl |exact Or.inr rfl)(hf:X.fn x=true\/X.env.scope.names.lookup x=some .local:=by first |exact .inl rfl |exact .inr rfl |assumption):DS K mg X ES (.AugAssign (.Name x h_) op e pos) (yr i k p).F:=by with_unfolding_all exact HI hN hi hx he ho hd hf
def B0{x:Str}{C:Addr}{E:XK}{np cpos:Pos}(hc:X.calm=true)(hR:Rz X E)(hg:Gl X x)(hm:mg x=some (.ref C))(hq:W.excIn X.K C lT "ValueError.__new__"=true)(ha:DA K mg X (λ_=>E) (e::es) A.F)(hk:X.mg=mg:=by rfl)(he:starEach (e::es) X.env=(false,eval e X.env)::starEach es X.env:=by rfl)(ci:(backTo cpos (starEach es X.env)).any (·.1)=false:=by rfl)(hd:(x==("__debug__" : Str))=false:=by decide):DS K mg X (λ_=>E) (.Raise (some (.Call (.Name x np) (e::es) [] cpos)) none pos) (eF x A).F:=by with_unfolding_all exact Bp hc hR hg hm hq ha hk he ci hd
def yX(hK:X.K=K)(he:DE K mg X ES e p.F):DI K mg X ES tg e (cx p).F:=by with_unfolding_all exact HF hK he
def zN(hg:Gl X "range")(hm:mg "range"=none)(ha:DA K mg X ES [a] A.F)(hk:X.mg=mg:=by rfl)(hs:starEach [a] X.env=[(false,eval a X.env)]:=by rfl):DI K mg X ES tg (.Call (.Name "range" p0) [a] [] pos) (kR A).F:=by with_unfolding_all exact yS hg hm ha hk hs
def JN(hK:X.K=K)(hg:Gl X "zip")(hm:mg "zip"=none)(ha:DA K mg X ES [a,b] A.F)(hk:X.mg=mg:=by rfl)(hs:starEach [a,b] X.env=[(false,eval a X.env),(false,eval b X.env)]:=by rfl)(hs2:starEach [b] X.env=[(false,eval b X.env)]:=by rfl):DI K mg X ES (.Tuple elts x1 tp) (.Call (.Name "zip" p0) [a,b] [] pos) (wQ A).F:=by with_unfolding_all exact L9 hK hg hm ha hk hs hs2
def LB(hp:PassesOwn (model X.prog X.w) X.A X.env X.xe)(hc:X.calm=true)(hi:DI K mg X ES tg a_ I.F)(hg:DG K mg X ES tg g.F)(hb:DSs K mg X ES sts x.F)(hs:∀x,foldedSetIterable a_ X.env x=pure x:=by intro _;rfl):DS K mg X ES (.For tg a_ sts [] pos) (je I g x).F:=by with_unfolding_all exact KO hp hc hi hg hb hs
def Dr(hp:PassesOwn (model X.prog X.w) X.A X.env X.xe)(hc:DT K mg X ES c t.F)(hb:DSs K mg X ES sts x.F):DS K mg X ES (.While c sts [] pos) (xWh t x).F:=by with_unfolding_all exact CC hp hc hb
def OT{scope:Scope}(M:List Str)(kn:List (Str×NameKind))(N:List Str)(sub:Se){hsb:(sub.filterMap id).Nodup}(hc:X.calm=true)(hi:DI K mg X ES tg a_ I.F)(hg:∀cl C s₂ H fp,DG K mg (aK X N scope cl C s₂ H fp) (λ_=>E0) tg g.F)(he:∀cl C s₂ H fp,DE K mg (aK X N scope cl C s₂ H fp) (λ_=>E0) im p.F)(hM:X.N=M)(hkn:X.env.scope.names=kn)(em:fP M scope.names sub N=true)(hk:scope.kind=.function)(hnc:∀x∈scope.names,x.2 ≠ .cell)(b_:∀x∈scope.names,x.2=.local->scope.names.lookup x.1=some .local)(hfr:iB kn scope.names=true)(hsl:sub.length=N.length)(hs:∀x,foldedSetIterable a_ X.env x=pure x):DE K mg X ES (.ListComp im [⟨tg,a_,[],0⟩] scope pos) (pLC I sub hsb g qY p).F:=by with_unfolding_all exact MN M kn N sub hc hi hg he hM hkn em hk hnc b_ hfr hsl hs
def N5{ow:Bool}{px spos:Pos}{iT:Nat}{xT:Str}{scope:Scope}(M:List Str)(kn:List (Str×NameKind))(N:List Str)(sub:Se){hsb:(sub.filterMap id).Nodup}(hc:X.calm=true)(hN:X.N.Nodup)(hix:X.N[iT]?=some xT)(hxl:Loc X.env.scope xT)(hi:DI K mg X ES tg a_ I.F)(hg:∀cl C s₂ H fp,DG K mg (aK X N scope cl C s₂ H fp) (λ_=>E0) tg g.F)(he:∀cl C s₂ H fp,DE K mg (aK X N scope cl C s₂ H fp) (λ_=>E0) im p.F)(hsw:swapsWith (.ListComp im [⟨tg,a_,[],0⟩] scope pos) (some (.Name xT px)) spos.line X.env=pure true)(hM:X.N=M)(hkn:X.env.scope.names=kn)(em:fP M scope.names sub N=true)(hk:scope.kind=.function)(hnc:∀x∈scope.names,x.2 ≠ .cell)(b_:∀x∈scope.names,x.2=.local->scope.names.lookup x.1=some .local)(hfr:iB kn scope.names=true)(hsl:sub.length=N.length)(hs:∀x,foldedSetIterable a_ X.env x=pure x)(hf:X.fn xT=true\/X.env.scope.names.lookup xT=some .local):DS K mg X ES (.Assign [.Name xT px] (.ListComp im [⟨tg,a_,[],0⟩] scope pos) spos) (ao ow iT (pLC I sub hsb g qY p)).F:=by with_unfolding_all exact N0 M kn N sub hc hN hix hxl hi hg he hsw hM hkn em hk hnc b_ hfr hsl hs hf
def LK{j:Nat}{name:Str}{id:String}{apos cpos:Pos}{r':V->List V->Hp->VK->Prop}{k:PMm}(hK:X.K=K)(slot:Slot "list" name id)(hty:typeOf (.builtin id)=pure (.type "method_descriptor"))(hm:MtM X id r')(hd:MtD K mg r' k.F)(ho:DE K mg X ES o (af j).F)(ha:DA K mg X ES (e::es) A.F)(f_:attributeBase o name X.env (eval o X.env)=eval o X.env:=by rfl)(hfew:((backTo cpos (starEach (e::es) X.env)).all (λx=>!x.1)&&(backToKw cpos (keywordEach [] X.env)).all (λx=>x.1.isSome)&&decide ((e::es).length+([]:List Keyword).length+(if ([]:List Keyword).isEmpty then 0 else 1)<30))=true:=by rfl)(gl:(apos.endLine==cpos.line)=true:=by rfl)(hs:starEach (e::es) X.env=(false,eval e X.env)::starEach es X.env:=by rfl)(ci:(backTo cpos (starEach es X.env)).any (·.1)=false:=by rfl):DE K mg X ES (.Call (.Attribute o name apos) (e::es) [] cpos) (i9 j k A).F:=by with_unfolding_all exact de_m hK slot hty hm hd ho ha f_ hfew gl hs ci
def GO{j:Nat}{name:Str}{id:String}{apos cpos:Pos}{r':V->List V->Hp->VK->Prop}{k:PMm}(hK:X.K=K)(slot:Slot "list" name id)(hty:typeOf (.builtin id)=pure (.type "method_descriptor"))(hm:MtM X id r')(hd:MtD K mg r' k.F)(ho:DE K mg X ES o (af j).F)(f_:attributeBase o name X.env (eval o X.env)=eval o X.env:=by rfl)(gl:(apos.endLine==cpos.line)=true:=by rfl):DE K mg X ES (.Call (.Attribute o name apos) [] [] cpos) (qT j k).F:=by with_unfolding_all exact O0 hK slot hty hm hd ho f_ gl
def Fy:DO K mg X ES none oN.F:=FA
def Gz(he:DE K mg X ES e p.F):DO K mg X ES (some e) (oS p).F:=by with_unfolding_all exact Gm he
def Bf{l u:POp}{lo hi:Option Expr}{p2:Pos}(hK:X.K=K)(he:DE K mg X ES e p.F)(hl:DO K mg X ES lo l.F)(hu:DO K mg X ES hi u.F):DE K mg X ES (.Subscript e (.Slice lo hi none p2) pos) (pSl p l u).F:=by with_unfolding_all exact B5 hK he hl hu
def Ol:DE K mg X ES (.Dict [] [] pos) pD0.F:=by with_unfolding_all exact NU
def Jp:OpD K mg (λx y H Q=>rI0 (λi j=>.int (i+j)) x y H Q\/(oy x y H Q\/(kU K x y H Q\/ku K x y H Q))) aU.F:=Ii
def Km:OpD K mg (rI0 λi j=>.int (i-j)) eR.F:=Jr
def IJ:OpD K mg (rI CMulA λi j=>.int (i*j)) aD.F:=LA
def K9:OpD K mg (rI CDivB λi j=>.int (i.fdiv j)) jb.F:=Hg
def L7:OpD K mg (rI (λ_ j=>j≠0) λi j=>.int (i.fmod j)) cp.F:=JD
def Ls:OpD K mg (rI gi λi j=>.int (i^j.toNat)) f9.F:=KR
def IF:OpD K mg (rI gi λi j=>.int (i*2^j.toNat)) tE.F:=Lz
def EA:OpD K mg (rI0 λi j=>.bl (decide (i<j))) bLt.F:=OG
def DM:OpD K mg (rI0 λi j=>.bl (decide (j<i))) bGt.F:=Me
def Ew:OpD K mg (rI0 λi j=>.bl (decide (j<=i))) bGe.F:=MH
def OP:OpD K mg (λx y H Q=>xY K x y H Q\/yB K x y H Q) bIx.F:=Ia
def DQ:OpD K mg (xg K) bEq.F:=Ip
def Mq:OpD K mg (wH K) bNe.F:=Jx
def Nu:OpD K mg (rIn K false) bIn.F:=(zR false)
def HL:OpD K mg (rIn K true) CL.F:=(zR true)
def IT:aS K mg (λxs H Q=>(∃p ys,xs=[.ref p]/\(SqL K H p ys\/SqT K H p ys)/\Q (.int ys.length) H)\/(∃z,xs=[.str z]/\z.length<=sizeLine/\Q (.int z.length) H)) bp.F:=Jn
def I0:aS K mg (λxs H Q=>∃i,xs=[.int i]/\Q (.int (if i<0 then -i else i)) H) fQ.F:=Jm
def Gx:aS K mg (λxs H Q=>∃i j,xs=[.int i,.int j]/\Q (.int (if j>i then j else i)) H) rN.F:=Fh
def G1:aS K mg (λxs H Q=>∃i j,xs=[.int i,.int j]/\Q (.int (if j<i then j else i)) H) rS.F:=Fs
def An:aS K mg (λxs H Q=>∃(a:Addr) (bs:List Bool),xs=[.ref a]/\SqL K H a (bs.map V.bl)/\Q (.bl (bs.all id)) H) qX.F:=JM
def yV:aS K mg (λxs H Q=>∃(a:Addr) (ns:List Int),xs=[.ref a]/\SqL K H a (ns.map V.int)/\Q (.int ns.sum) H) eN.F:=IW
def C3:aS K mg (λxs H Q=>∃p ys,xs=[.ref p]/\((SqL K H p ys/\∀l,H l=none->Q (.ref l) (upd H l (.tup ys)))\/(SqT K H p ys/\Q (.ref p) H))) kQ.F:=CD
def HN:aS K mg (λxs H Q=>(∃i,xs=[.int i]/\Q (.int i) H)\/∃k,xs=[.bl k]/\Q (.int (if k then 1 else 0)) H) qR.F:=Iz
def LQ(ok:KitsOk K mg kt):aS K mg (λxs H Q=>(∃x c t v b,xs=[x,c]/\TyX K H x t/\fA c=some v/\W.kitOne K t v=some b/\Q (.bl b) H)\/
 (∃x tp cs t vs b,xs=[x,.ref tp]/\SqT K H tp cs/\TyX K H x t/\cs.mapM fA=some vs/\W.kitAny K t vs=some b/\Q (.bl b) H)) (bC kt).F:=JQ ok
def yO:MtD K mg oM eP.F:=zq
def Kr:MtD K mg CF qJ.F:=Jc
def EJ:oi K mg yo seL.F:=FY
def K0:IpD K mg (ipI λi j=>i+j) yd.F:=FT
def Hi:UnD K mg (rU λi=>.int (-i)) tL.F:=J3
variable{P:Program}{w:World}{base:Heap}{fx:Str}{e_:Stmt}{k n m:Nat}{ps N:List Str}{ms:List Bool}
def okP(D:Def K mg fx e_)(S:FnScope N ps (ak e_))
 (hb:∀(kV doc pm:Value) (an:Option Addr) (cdv ct:Value) (us:List Value),us.length=ps.length->bindArgs (W.fnOf fx fx (bO e_) (aQ e_) (ak e_) .none kV doc pm an cdv ct) ⟨us,[]⟩=pure (ps.zip us))
 (db:∀(f:Addr) (cdv:Value) (A:Around) (outer:List Env) (s:Shared) (H:Hp) (E:XK),Room k (A.deeper (envOfC fx (ak e_) s.heap.objs.size f cdv))->
  DSs K mg (c7 (CX1 P w) P w K mg base N fx (ak e_) f cdv A outer s H E) (λ_=>E) (aQ e_) x.F) (hn:ps.length=n) (hm:N.length=m):Callee P w K mg base fx (k+1) ps (spD K mg n (fnP ms m x).F):=by
 subst hn hm;with_unfolding_all exact D.okD S hb db
def okX(D:Def K mg fx e_)(S:FnScope N ps (ak e_))
 (hb:∀(kV doc pm:Value) (an:Option Addr) (cdv ct:Value) (us:List Value),us.length=ps.length->bindArgs (W.fnOf fx fx (bO e_) (aQ e_) (ak e_) .none kV doc pm an cdv ct) ⟨us,[]⟩=pure (ps.zip us))
 (db:∀(f:Addr) (cdv:Value) (A:Around) (outer:List Env) (s:Shared) (H:Hp) (E:XK),Room k (A.deeper (envOfC fx (ak e_) s.heap.objs.size f cdv))->
  DSs K mg (c7 (CX1 P w) P w K mg base N fx (ak e_) f cdv A outer s H E) (λ_=>E) (aQ e_) x.F) (hn:ps.length=n) (hm:N.length=m):Callee P w K mg base fx (k+1) ps (spD K mg n (PFx.of ms m x).F):=by
 subst hn hm;with_unfolding_all exact D.okD S hb db
def ok0(D:Def K mg fx e_)(S:FnScope N ps (ak e_))
 (hb:∀(kV doc pm:Value) (an:Option Addr) (cdv ct:Value) (us:List Value),us.length=ps.length->bindArgs (W.fnOf fx fx (bO e_) (aQ e_) (ak e_) .none kV doc pm an cdv ct) ⟨us,[]⟩=pure (ps.zip us)) (hn:ps.length=n:=by rfl):Callee P w K mg base fx (k+1) ps (spD K mg n (PFx.none ms).F):=by
 subst hn;exact D.okD (F:=λ_ _=>.stuck) S hb λ_ _ _ _ _ _ _ _=>zc
end
def K6(b:Bool)(ms:List Bool)(v:Val)(vs:List Val):sls (b::ms) (v::vs)=sl1 b v::sls ms vs:=rfl
def E2:sls [] []=[]:=rfl
def M1(v:Val):sl1 true v=.mu v:=rfl
def OF(v:Val):sl1 false v=.sh v:=rfl
section
variable(e:E3)
def Fp:okA e [] []=true:=rfl
def KW(i:Nat)(ms:List Bool)(ts:List Tm):okA e (true::ms) (.bor i::ts)=(((e[i]?).bind Sl.mv).isSome && !(iA i ts)&&okA e ms ts):=rfl
def Ks(v:Val)(ms:List Bool)(ts:List Tm):okA e (false::ms) (.val v::ts)=okA e ms ts:=rfl
def BE(i:Nat):iA i []=false:=rfl
def Lh(i:Nat)(v:Val)(ts:List Tm):iA i (.val v::ts)=iA i ts:=rfl
def AG:aT e [] []=[]:=rfl
def Fz(v:Val)(ms:List Bool)(ts:List Tm):aT e (false::ms) (.val v::ts)=aT e ms ts:=rfl
def Lx(t:Tm)(ms:List Bool)(ts:List Tm):aT e (true::ms) (t::ts)=aT e ms ts:=by cases t <;> rfl
end
def zj:bR [] []=[]:=rfl
def FX(b:Bool)(t:Tm)(ms:List Bool)(ts:List Tm):bR (b::ms) (t::ts)=n6 b t::bR ms ts:=rfl
def E1(i:Nat):n6 true (.bor i)=some i:=rfl
def Kl(t:Tm):n6 false t=none:=by cases t <;> rfl
def Bc(e:E3):a9 [] [] e=e:=rfl
def Jb(o:Option Nat)(sub:Se)(s:Sl)(i e:E3):a9 (o::sub) (s::i) e=a9 sub i (fK o s e):=rfl
theorem Fm(i:Nat)(v:Val)(e:E3):fK (some i) (.mu v) e=match e[i]? with
 |some t=>e.set i (t.re v)
 |none=>e:=rfl
def Lc(s:Sl)(e:E3):fK none s e=e:=rfl
def BM(vs:List Val):aF [] vs=[]:=rfl
def HE(ms:List Bool)(v:Val)(vs:List Val):aF (true::ms) (v::vs)=.mu v::aF ms vs:=rfl
def IX(ms:List Bool)(vs:List Val):aF (false::ms) vs=.no::aF ms vs:=by cases vs <;> rfl
def GQ(e:E3):muV [] e=some []:=by cases e <;> rfl
def OL(ms:List Bool)(v:Val)(e:E3):muV (true::ms) (.mu v::e)=(muV ms e).map (v :: ·):=rfl
def OY(ms:List Bool)(s:Sl)(e:E3):muV (false::ms) (s::e)=muV ms e:=by cases s <;> rfl
def zk(v:Val):kJ (.val v)=aY v:=rfl
def zu(v:Val):kJ (.new v)=c8 v:=rfl
def Af(xs:List Val):c8 (.lst xs)=cV xs:=rfl
def xK:cV []=true:=by simp [cV]
def u6(v:Val)(vs:List Val):cV (v::vs)=(aY v&&cV vs):=by simp [cV]
def Al(i:Int):aY (.int i)=true:=by simp [aY]
def Bb(i:Bool):aY (.bl i)=true:=by simp [aY]
def Ah(i:Str):aY (.str i)=true:=by simp [aY]
def zx:aY .non=true:=by simp [aY]
def cL(h0:0<=i)(h:l[i.toNat]?=some x):atI l i=some x:=by have hl:=(p_.mp h).1;unfold atI ixN;rw[if_pos h0,if_pos (by omega)];exact h
def yY(h0:0<=i)(h:i.toNat<n):ixN n i=some i.toNat:=by unfold ixN;rw[if_pos h0,if_pos (by omega)]
section
variable(a b c d e f g h:α)(l:List α)
def ati0:atI (a::l) 0=some a:=cL (by decide) rfl
def ati1:atI (a::b::l) 1=some b:=cL (by decide) rfl
def ati2:atI (a::b::c::l) 2=some c:=cL (by decide) rfl
def ati3:atI (a::b::c::d::l) 3=some d:=cL (by decide) rfl
end
def ixn0(n:Nat):ixN (n+1) 0=some 0:=yY (i:=0) (by decide) (by show 0<n+_;omega)
def ixn1(n:Nat):ixN (n+2) 1=some 1:=yY (i:=1) (by decide) (by show 1<n+_;omega)
theorem MU(xs:List Val)(k:Int)(v:Val):seL.G (.lst xs) (.int k) v=match ixN xs.length k with
 |some j=>some (.lst (xs.set j v))
 |none=>none:=rfl
mutual
def vq:Val->Val->Bool
 |.non,.non=>true
 |.bl a,.bl b=>a==b
 |.bl a,.int j=>(if a then 1 else 0)==j
 |.int i,.bl b=>i==(if b then 1 else 0)
 |.int i,.int j=>i==j
 |.str x,.str y=>x==y
 |.tup xs,.tup ys=>vqs xs ys
 |.lst xs,.lst ys=>vqs xs ys
 |_,_=>false
def vqs:List Val->List Val->Bool
 | [],[]=>true
 |x::xs,y::ys=>vq x y&&vqs xs ys
 |_,_=>false
end
mutual
def wfV:Nat->Val->Bool
 |_,.non=>true
 |_,.bl _=>true
 |_,.int _=>true
 |_,.str x=>PyData.strOk x
 |k+1,.tup xs=>bT k xs
 |k+1,.lst xs=>bT k xs
 |_,_=>false
def bT:Nat->List Val->Bool
 |_,[]=>true
 |k,x::xs=>wfV k x&&bT k xs
end
mutual
def gf:Val->PyData
 |.bl b=>.bool b
 |.int i=>.int i
 |.str x=>.str x
 |.tup xs=>.tuple (d9 xs)
 |.lst xs=>.list (d9 xs)
 |_=>.none
def d9:List Val->List PyData
 | []=>[]
 |x::xs=>gf x::d9 xs
end
mutual
theorem oK:∀(k:Nat) (v:Val),wfV k v=true->(∀j,k<j->cM j v=some (gf v))/\(gf v).canLay0=true/\(gf v).depth<=k
 |k,.non,_=>⟨λj hj=>by cases j with |zero=>exact absurd hj (QD _) |succ j=>rfl,rfl,M_ _⟩
 |k,.bl b,_=>⟨λj hj=>by cases j with |zero=>exact absurd hj (QD _) |succ j=>rfl,rfl,M_ _⟩
 |k,.int b,_=>⟨λj hj=>by cases j with |zero=>exact absurd hj (QD _) |succ j=>rfl,rfl,M_ _⟩
 |k,.str b,w=>⟨λj hj=>by cases j with |zero=>exact absurd hj (QD _) |succ j=>rfl,by cases k <;> exact w,M_ _⟩
 |0,.tup xs,w=>absurd w x_
 |0,.lst xs,w=>absurd w x_
 |
  k+1,.tup xs,w=>by
  obtain⟨h1,h2,h3⟩:=lL k xs w;exact⟨λj hj=>by cases j with |zero=>exact absurd hj (QD _) |succ j=>simp only[cM,gf,h1 j (Nat.lt_of_succ_lt_succ hj),Option.map_some],h2,by simpa [gf,PyData.depth] using h3⟩
 |
  k+1,.lst xs,w=>by
  obtain⟨h1,h2,h3⟩:=lL k xs w;exact⟨λj hj=>by cases j with |zero=>exact absurd hj (QD _) |succ j=>simp only[cM,gf,h1 j (Nat.lt_of_succ_lt_succ hj),Option.map_some],h2,by simpa [gf,PyData.depth] using h3⟩
 |k,.ty _,w=>by cases k <;> exact absurd w x_
 |k,.glb _,w=>by cases k <;> exact absurd w x_
 |k,.exc _,w=>by cases k <;> exact absurd w x_
 |k,.kl _,w=>by cases k <;> exact absurd w x_
 |k,.dct _,w=>by cases k <;> exact absurd w x_
 |k,.set _,w=>by cases k <;> exact absurd w x_
theorem lL:∀(k:Nat) (vs:List Val),bT k vs=true->(∀j,k<j->eI j vs=some (d9 vs))/\PyData.canLayAll0 (d9 vs)=true/\PyData.depthAll (d9 vs)<=k
 |k,[],_=>⟨λj hj=>by simp [eI,d9],rfl,M_ _⟩
 |
  k,v::vs,w=>by
  have w':(wfV k v&&bT k vs)=true:=w;rw[r_] at w';obtain⟨h1,h2,h3⟩:=oK k v w'.1;obtain⟨i1,i2,i3⟩:=lL k vs w'.2;exact⟨λj hj=>by simp [eI,d9,h1 j hj,i1 j hj],by simp [d9,PyData.canLayAll0,h2,i2],Nat.max_le.mpr ⟨h3,i3⟩⟩
end
mutual
theorem Ae:∀(k:Nat) (v u:Val),wfV k v=true->wfV k u=true->PyData.eqv (gf v) (gf u)=vq v u
 |
  k,v,u,hv,hu=>by
  cases v <;> first |(cases k <;> exact absurd hv x_) |skip
  all_goals (cases u <;> first |(cases k <;> exact absurd hu x_) |rfl |(cases k with |zero=>exact absurd hv x_ |succ k=>exact wo k _ _ hv hu))
theorem wo:∀(k:Nat) (v u:List Val),bT k v=true->bT k u=true->PyData.eqvAll (d9 v) (d9 u)=vqs v u
 |_,[],[],_,_=>rfl
 |_,[],_::_,_,_=>rfl
 |_,_::_,[],_,_=>rfl
 |
  k,x::xs,y::ys,hv,hu=>by
  have h1:(wfV k x&&bT k xs)=true:=hv;have h2:(wfV k y&&bT k ys)=true:=hu;rw[r_] at h1 h2;show (PyData.eqv (gf x) (gf y)&&PyData.eqvAll (d9 xs) (d9 ys))=(vq x y&&vqs xs ys);rw[Ae k x y h1.1 h2.1,wo k xs ys h1.2 h2.2]
end
def Ag(hk:k<=160)(hx:wfV k x=true)(hy:wfV k y=true):cB x y=some (vq x y):=by obtain⟨h1,h2,h3⟩:=oK k x hx;obtain⟨i1,i2,i3⟩:=oK k y hy;unfold cB;rw[h1 164 (by omega),i1 164 (by omega)];dsimp only;rw[if_pos ⟨g9 h2 (by omega),g9 i2 (by omega)⟩,Ae k x y hx hy]
def D3(hx:wfV 60 x=true)(hy:wfV 60 y=true):cB x y=some (vq x y):=Ag (by decide) hx hy
mutual
theorem kx:∀(k:Nat) (v:Val),wfV k v=true->vq v v=true
 |
  k,v,hv=>by
  cases v <;> first |(cases k <;> exact absurd hv x_) |rfl |exact QO _ |(cases k with |zero=>exact absurd hv x_ |succ k=>exact sV k _ hv)
theorem sV:∀(k:Nat) (v:List Val),bT k v=true->vqs v v=true
 |_,[],_=>rfl
 |
  k,x::xs,hv=>by
  have h1:(wfV k x&&bT k xs)=true:=hv;rw[r_] at h1;show (vq x x&&vqs xs xs)=true;rw[kx k x h1.1,sV k xs h1.2];rfl
end
noncomputable def fV(q:Rat):Val:=.tup [.int q.num,.int q.den]
structure Bx where
 l:Rat
 t:Rat
 w:Rat
 h:Rat
structure Bx.Ok(b:Bx):Prop where
 w:0<b.w
 h:0<b.h
structure Bx.Sz(n:Nat)(b:Bx):Prop where
 l:L2.Sz n b.l
 t:L2.Sz n b.t
 w:L2.Sz n b.w
 h:L2.Sz n b.h
noncomputable def bV(b:Bx):Val:=.tup [fV b.l,fV b.t,fV b.w,fV b.h]
def MM(q:Rat)(k:Nat):wfV (k+1) (fV q)=true:=by simp [fV,wfV,bT]
def OE(b:Bx)(k:Nat):wfV (k+2) (bV b)=true:=by simp [bV,wfV,bT,MM]
def knV:Val->Bool
 |.exc _=>false
 |v=>(tyC v).isSome
noncomputable def ij:Nat->Val->Bool
 |k+1,.tup xs=>xs.all (ij k)
 |_,v=>knV v
noncomputable def jh:Val->Bool
 |.int _=>true
 |_=>false
noncomputable def aN:Val->Bool
 |.tup [.int a,.int b]=>decide (1<=b)&&decide (Int.gcd a b=1)
 |_=>false
noncomputable def jw:Val->Bool
 |.tup (.int a::_)=>decide (0<a)
 |_=>false
noncomputable def fU:Val->Bool
 |.tup [a,b,c,d]=>aN a&&(aN b&&(aN c&&(aN d&&(jw c&&jw d))))
 |_=>false
noncomputable def gZ:Val->Bool
 |.int i=>decide (1<=i)
 |_=>false
noncomputable def fg:Val->Bool
 |.tup _=>true
 |_=>false
def M7(h1:1<=b)(h2:Int.gcd a b=1):Val.tup [.int a,.int b]=fV ((a:Rat)/(b:Rat)):=by
 have hb:b≠0:=by omega
 have h:=mR (a:=a) hb;have s:=Fr.self (by omega) h2;unfold fV;rw[<- h.1,<- h.2,s.1,s.2]
def jk(q:Rat):aN (fV q)=true:=by
 show (decide (1<=(q.den:Int))&&decide (Int.gcd q.num q.den=1))=true
 have:=q.den_pos
 rw[A_ (by omega),A_ (wk q)];rfl
def AF(h:aN d=true):∃q,d=fV q:=by
 unfold aN at h;split at h
 .simp only[r_,QG] at h;exact⟨_,M7 h.1 h.2⟩
 .cases h
def vF(q:Rat):jw (fV q)=decide (0<q):=by show decide (0<q.num)=decide (0<q);rw[QP];exact iJ
def CQ(h:b.Ok):fU (bV b)=true:=by show (aN (fV b.l)&&(aN (fV b.t)&&(aN (fV b.w)&&(aN (fV b.h)&&(jw (fV b.w)&&jw (fV b.h))))))=true;rw[jk,jk,jk,jk,vF,vF,A_ h.w,A_ h.h];rfl
def LP(b:Bx):ij 2 (bV b)=true:=by simp [bV,fV,ij,knV,tyC]
theorem oF(P:E3->Prop):∀(vs acc:List Val) (e:E3),P e->(∀v∈vs,∀e,P e->∃e1 t e2,g v e=some e1/\F e1=.ok t e2/\cH e2 t=some (e2,f v)/\P e2)->acc.length+vs.length<=16777216->∃e',P e'/\lcV g cY F vs acc e=.ok (acc++vs.map f) e'
 | [],acc,e,hp,_,_=>⟨e,hp,by simp [lcV]⟩
 |
  v::vs,acc,e,hp,hf,hl=>by
  obtain⟨e1,t,e2,q1,q2,q3,q4⟩:=hf v (n_ ..) e hp;obtain⟨e',p',q5⟩:=oF P vs (acc++[f v]) e2 q4 (λu hu=>hf u (m_ _ hu)) (by simp at hl ⊢;omega);refine⟨e',p',?_⟩;unfold lcV;rw[if_pos (by simp at hl;omega),q1];simp only[cY,jv,Qu,q2,q3,q5];simp
noncomputable def rgV(k:Nat):List Val:=(List.range k).map λj=>Val.int (j:Nat)
def nO(h:k<1000000):iw [.int (k:Nat)]=some (rgV k):=by simp only[iw];rw[if_pos (⟨by omega,by omega⟩:RgB _),Pu];unfold yz rgV;simp only[Int.zero_add]
def wb(h0:0<=i)(h:i<1000000):iw [.int i]=some (rgV i.toNat):=by
 have:=nO (k:=i.toNat) (by omega)
 rwa [show ((i.toNat:Nat):Int)=i from by omega] at this
theorem cW(fv fw:α->Val)(P:E3->Prop):∀(l:List α) (acc:List Val) (e:E3),P e->(∀a∈l,∀e,P e->∃e1 t e2,g (fv a) e=some e1/\F e1=.ok t e2/\cH e2 t=some (e2,fw a)/\P e2)->acc.length+l.length<=16777216->∃e',P e'/\lcV g qY.G F (l.map fv) acc e=.ok (acc++l.map fw) e'
 | [],acc,e,hp,_,_=>⟨e,hp,by simp [lcV]⟩
 |
  v::vs,acc,e,hp,hf,hl=>by
  obtain⟨e1,t,e2,q1,q2,q3,q4⟩:=hf v (n_ ..) e hp;obtain⟨e',p',q5⟩:=cW fv fw P vs (acc++[fw v]) e2 q4 (λu hu=>hf u (m_ _ hu)) (by simp at hl ⊢;omega);refine⟨e',p',?_⟩;rw[s_];unfold lcV;have cy:qY.G=cY:=rfl;rw[cy] at q5 ⊢;rw[if_pos (by simp at hl;omega),q1];simp only[cY,jv,Qu,q2,q3,q5];simp
def K7(v:Val):inS (.sh v)=.sh v:=rfl
mutual
theorem rA:∀(k:Nat) (v:Val),wfV k v=true->wfV (k+1) v=true
 |k,.non,_=>by simp [wfV]
 |k,.bl _,_=>by simp [wfV]
 |k,.int _,_=>by simp [wfV]
 |k,.str x,h=>by cases k <;> simpa [wfV] using h
 |0,.tup _,h=>by simp [wfV] at h
 |0,.lst _,h=>by simp [wfV] at h
 |
  k+1,.tup xs,h=>by
  have:=jK k xs (by simpa [wfV] using h)
  simpa [wfV] using this
 |
  k+1,.lst xs,h=>by
  have:=jK k xs (by simpa [wfV] using h)
  simpa [wfV] using this
 |k,.ty _,h=>by cases k <;> simp [wfV] at h
 |k,.glb _,h=>by cases k <;> simp [wfV] at h
 |k,.exc _,h=>by cases k <;> simp [wfV] at h
 |k,.kl _,h=>by cases k <;> simp [wfV] at h
 |k,.dct _,h=>by cases k <;> simp [wfV] at h
 |k,.set _,h=>by cases k <;> simp [wfV] at h
theorem jK:∀(k:Nat) (vs:List Val),bT k vs=true->bT (k+1) vs=true
 |k,[],_=>by simp [bT]
 |
  k,v::vs,h=>by
  have h':wfV k v=true/\bT k vs=true:=by simpa [bT] using h
  simp only[bT,rA k v h'.1,jK k vs h'.2,Bool.and_self]
end
def Hx(h:wfV k v=true)(l:k<=m):wfV m v=true:=by
 induction l with
 |refl=>exact h
 |step _ ih=>exact rA _ _ ih
def GF(i:Nat)(v:Val)(e:E3):fK (some i) (.sh v) e=e:=rfl
noncomputable def sS(ms:List Bool)(r:SR3):R3F:=match r with
 |.nx e=>(match muV ms e with |some mv=>.ok (.val .non) mv |none=>.stuck)
 |.rt r e=>(match muV ms e with |some mv=>.ok r mv |none=>.stuck)
 |.exc c e=>(match muV ms e with |some mv=>.exc c mv |none=>.stuck)
 |_=>.stuck
def yg(h:vs.length=ms.length):(fnP ms N c).G vs=sS ms (c.G (sls ms vs++List.replicate (N-vs.length) .no)):=by rw[aC,if_pos h];rfl
def wU(ms:List Bool)(r:Rt)(e:E3):sS ms (.rt r e)=match muV ms e with |some mv=>.ok r mv |none=>.stuck:=rfl
def aO{Q:SR3->Prop}(I:E3->Prop){a b:PSt}{e:E3}(h1:∃e1,a.G e=.nx e1/\I e1)(h2:∀e1,I e1->Q (b.G e1)):Q ((aj a b).G e):=by obtain⟨e1,q,i⟩:=h1;rw[El,q];exact h2 e1 i
def iV(i:Int):Val.tup [.int i,.int 1]=fV (i:Rat):=rfl
def sm8(h:m.natAbs<1099511627776):Sm 8000 m:=E_ (show m.natAbs<2^40 from h) (PX (by decide) (by decide))
def mD(h:m.natAbs<=2000000000000000000000000000000):Sm 101 m:=by unfold Sm;exact P5 h (by decide)
def fY{m:Int}(h:m.natAbs<=2000000000000000000000000000000):Sz 101 (m:Rat):=⟨mD h,mD (by show (1:Int).natAbs<=_;decide)⟩
def gz{a b:Int}(hb:b≠0)(h1:a.natAbs<=2000000000000000000000000000000)(h2:b.natAbs<=2000000000000000000000000000000):Sz 101 ((a:Rat)/(b:Rat)):=Sz.div hb (mD h1) (mD h2) 101 (o_ _) (o_ _)
def fH{m:Int}(h:0<m):(0:Rat)<(m:Rat):=Rat.intCast_pos.mpr h
def gL{a b:Int}(h1:0<a)(h2:0<b):(0:Rat)<(a:Rat)/(b:Rat):=by rw[Rh];exact Rat.mul_pos (fH h1) (Rat.inv_pos.mpr (fH h2))
structure Good(b:Bx):Prop where
 ok:b.Ok
 sz:b.Sz 101
def kB(h:m.natAbs<=2000000000000000000000000000000):Sm 8000 m:=(mD h).mono (by decide)
section
variable{K:W.Frag}{mg:Sa}{X:Cx}{ES:L2.St->XK}{e:Expr}{es:List Expr}{A:PAs}{pos:Pos}
end
section
variable{K:W.Frag}{mg:Sa}{X:Cx}{ES:L2.St->XK}{e a b c o lo hi:Expr}{p q r:PEx}{pos p1 p2:Pos}
end
theorem ar1{α:Type}{P:List α->Prop}(h:∀a,P [a]):∀us:List α,us.length=1->P us
 | [a],_=>h a
theorem ar2{α:Type}{P:List α->Prop}(h:∀a b,P [a,b]):∀us:List α,us.length=2->P us
 | [a,b],_=>h a b
theorem ar3{α:Type}{P:List α->Prop}(h:∀a b c,P [a,b,c]):∀us:List α,us.length=3->P us
 | [a,b,c],_=>h a b c
theorem ar4{α:Type}{P:List α->Prop}(h:∀a b c d,P [a,b,c,d]):∀us:List α,us.length=4->P us
 | [a,b,c,d],_=>h a b c d
section
variable{P:Nat->Prop}{h:AH}
def Ex(r:Rk P h ws us):lkD us k=some v->∃d,lkD ws k=some d/\Rd P h d v:=
 r.ind (M:=λws us=>lkD us k=some v->∃d,lkD ws k=some d/\Rd P h d v) (λq=>by cases q) (λ{k2 d v2 ds vs} r _ ih q=>by
  unfold lkD at q ih ⊢;rw[Pl] at q ⊢;dsimp only at q ⊢;by_cases hk:k2=k
  .rw[A_ hk] at q ⊢;cases q;exact⟨d,rfl,r⟩
  .rw[w_ hk] at q ⊢;exact ih q)
def F8(r:Rk P h ws us):us.map (·.1)=ws.map (·.1):=
 r.ind (M:=λws us=>us.map (·.1)=ws.map (·.1)) rfl λ_ _ ih=>by rw[s_,s_,ih]
def Hl(r:Rk P h ws us):ws.length=us.length:=
 r.ind (M:=λws us=>ws.length=us.length) rfl λ_ _ ih=>PF (· + 1) ih
def Jf(r:Rk P h ws us)(q:Rk P h ws' us'):Rk P h (ws++ws') (us++us'):=
 r.ind (M:=λws us=>Rk P h (ws++ws') (us++us')) q λr _ ih=>.cons r ih
def Jl(rd:Rd P h d v)(r:Rk P h ws us):Rk P h (cS ws k d) (cS us k v):=by
 unfold cS;rw[ua (F8 r)];by_cases hc:(ws.any λkv=>decide (kv.1=k))=true
 .rw[if_pos hc,if_pos hc];exact r.ind (M:=λws us=>Rk P h (ws.map λkv=>if kv.1=k then (kv.1,d) else kv) (us.map λkv=>if kv.1=k then (kv.1,v) else kv)) .nil (λ{k2 d2 v2 ds vs} r _ ih=>by
   rw[s_,s_];dsimp only;by_cases hk:k2=k
   .rw[if_pos hk,if_pos hk];exact .cons rd ih
   .rw[if_neg hk,if_neg hk];exact .cons r ih)
 .rw[if_neg hc,if_neg hc];exact Jf r (.cons rd .nil)
def JI:∀{ks:List Key}{ds:List D}{vs:List Val},Rds P h ds vs->Rk P h (ks.zip ds) (ks.zip vs):=by
 intro ks;induction ks with
 |nil=>intro ds vs _;exact .nil
 |
  cons k ks ih=>
  intro ds vs r;cases r with
  |nil=>exact .nil
  |cons r rr=>exact .cons r (ih rr)
end
def C6:Val->Val->Bv:=λx y=>match x with
 |.dct kvs=>(match y with
  |.str k=>(match lkD kvs (.inr k) with
   |some v=>.val v
   |none=>.stuck)
  |_=>.stuck)
 |_=>.stuck
def Hz:RO rW C6:=λP h d1 d2 v1 v2 r1 r2=>by
 unfold C6;split
 .rename_i kvs;split
  .rename_i k;split
   .rename_i v q;obtain⟨n,ws,rfl,e,rk⟩:=r1.dct;obtain rfl:=r2.str;obtain⟨d,q1,rd⟩:=Ex rk q;refine⟨d,?_,rd⟩;unfold rW;dsimp only;rw[e];dsimp only;rw[q1]
   .trivial
  .trivial
 .trivial
def wX:PO2:=⟨rW,C6,Hz⟩
theorem N1(kvs:List (Key×Val))(k:Str):wX.G (.dct kvs) (.str k)=match lkD kvs (.inr k) with
 |some v=>.val v
 |none=>.stuck:=rfl
def sD:Val->Val->Val->Option Val:=λo i v=>match o with
 |.dct kvs=>(match i with
  |.str k=>if kvs.length<16777216 then some (.dct (cS kvs (.inr k) v)) else none
  |_=>none)
 |_=>none
def x6(ks:List Str)(A:MA3):ME3:=λe=>(A e).bind λts e1=>match dem e1 ts with
 |some (e2,vs)=>if ks.length=vs.length then .ok (.new (.dct ((ks.map Sum.inr).zip vs))) e2 else .stuck
 |none=>.stuck
def E4(ks:List Str)(hA:RA A A3):RE (mz ks A) (x6 ks A3):=λX h0 L ns e ae h S hl=>by
 have SG:=S.grow (.dct []);have p:=hA (Xn X h.length) h0 ns e ae (h++[.dct []]) SG;unfold x6 mz;cases q:A3 e with
 |stuck=>trivial
 |exc c e'=>rw[q] at p;obtain⟨h',ns',y,a,S'⟩:=p;exact⟨h',ns',by rw[y];rfl,(Stp.grow _).trans S a,S'.weak λn z=>.inl z⟩
 |
  ok ts e1=>
  rw[q] at p;obtain⟨ds,h1,ns1,y,a1,S1,r1⟩:=p;rw[y];show Po X h0 ns e ae h (relE X h0 L ae) _ (match dem e1 ts with
   |some (e2,vs)=>if ks.length=vs.length then .ok (.new (.dct ((ks.map Sum.inr).zip vs))) e2 else .stuck
   |none=>.stuck)
  cases qd:dem e1 ts with
  |none=>trivial
  |
   some w=>
   obtain⟨e2,vs⟩:=w;dsimp only;by_cases be:ks.length=vs.length
   .rw[if_pos be];obtain⟨d_,S2,a2,r2⟩:=gy S1 r1 qd;have hk:h1[h.length]?=some (.dct []):=a1.keep _ _ v8 λ⟨i,s,z,_⟩=>SG.nx i _ z (.inr rfl);have A:=((Stp.grow (.dct [])).trans S a1).trans S a2;have hlt:=b9 hk;have mv:Mov (Oc (Xn X h.length) d_) (Oc (Xn X h.length) d_) h1 (h1.set h.length (.dct ((ks.map Sum.inr).zip ds))):=λm o p q=>⟨p,by have:m≠h.length:=λz=>p.1 (.inr z);rw[bo this];exact q⟩;have S3:Sat (Xn X h.length) h0 d_ e2 ae (h1.set h.length (.dct ((ks.map Sum.inr).zip ds))):=⟨S2.l1,S2.l2,by rw[I_];exact S2.lh,λm z=>by rw[I_];exact S2.xl m z,S2.inj,S2.nx,λj s qj=>(S2.sl j s qj).mono mv λm o qm qo=>by have:m≠h.length:=λz=>S2.nx j m qm (.inr z);rw[bo this];exact qo⟩;have A3':Stp ns e h d_ e2 (h1.set h.length (.dct ((ks.map Sum.inr).zip ds))):=⟨by rw[I_];exact A.len,λm o qm hm=>by have:m≠h.length:=J_ (b9 qm);rw[bo this];exact A.keep m o qm hm,A.nw,A.lk,A.lk',A.mu,A.mu'⟩;refine⟨.ref h.length,_,d_,?_,A3',S3.weak λn z=>.inl z,h.length,_,rfl,hl,λz=>Py _ (S.xl _ z),bF hlt,trivial,S3,.dct ((JI r2).mono mv)⟩;show (match h1[h.length]? with
     |some (.dct [])=>if ks.length=ds.length then R.ok (D.ref h.length) (h1.set h.length (.dct ((ks.map Sum.inr).zip ds))) else .stuck
     |_=>.stuck)=_
    rw[hk];dsimp only;rw[if_pos (by rw[r2.len];exact be)]
   .rw[if_neg be];trivial
def qV(ks:List Str)(a:PAs):PEx:=⟨mz ks a.F,x6 ks a.G,E4 ks a.ok⟩
theorem JC(e:E3)(ks:List Str)(a:PAs):(qV ks a).G e=(a.G e).bind λts e1=>match dem e1 ts with
 |some (e2,vs)=>if ks.length=vs.length then .ok (.new (.dct ((ks.map Sum.inr).zip vs))) e2 else .stuck
 |none=>.stuck:=rfl
section
variable{K:W.Frag}{mg:Sa}{X:Cx}{ES:L2.St->XK}{a b:Expr}{p q:PEx}{pos:Pos}
def vL(hu:X.A.units+1<cLine)(ha:DE K mg X ES a p.F)(hb:DE K mg X ES b q.F)(hs:nZ b):DE K mg X ES (.Subscript a b pos) (pOp wX p q).F:=by with_unfolding_all exact Gk hu ha hb hs
def jC(hv:DE K mg X ES v F)(hr:PPs X pos ks vs (tps K mg ES prs)):PPs X pos (some (.Constant (.str k) j kp)::ks) (v::vs) (tps K mg ES ((k,F)::prs)):=by with_unfolding_all exact Cp hv hr
def ve(hp:PPs X pos keys values (tps K mg ES prs))(h1:ks=prs.map (·.1):=by rfl)(h2:A.F=aL prs:=by rfl)(hn:ks.Nodup:=by decide)(hall:keys.all (·.isSome)=true:=by rfl)(hl:keys.length=values.length:=by rfl)(h0:keys≠[]:=by intro h;cases h)(h15:keys.length<=15:=by decide)(hp15:prs.length<=15:=by decide):DE K mg X ES (.Dict keys values pos) (qV ks A).F:=by subst h1;show DE K mg X ES (.Dict keys values pos) (mz (prs.map (·.1)) A.F);rw[h2];with_unfolding_all exact E9 hp hall hl h0 h15 hn hp15
end
end L3
namespace L3
open PySem L2
def jW(xs:List Val)(n:Nat):gE xs none (some (n:Int))=xs.take n:=by
 unfold gE;rw[HT.sIx_none,HT.sIx_nat,List.drop_zero,Nat.sub_zero];by_cases h:n<=xs.length
 .rw[Nat.min_eq_left h]
 .rw[Nat.min_eq_right (by omega),P2 (o_ _),P2 (by omega)]
def gF(xs:List Val)(n:Nat):gE xs (some (n:Int)) none=xs.drop n:=by
 unfold gE;rw[HT.sIx_none,HT.sIx_nat];by_cases h:n<=xs.length
 .rw[Nat.min_eq_left h,P2 (by rw[Qv];exact o_ _)]
 .rw[Nat.min_eq_right (by omega),List.drop_of_length_le (o_ _),List.drop_of_length_le (by omega),Qz]
def dg(xs:List Val)(lo hi:Option Int):aSl (.lst xs) lo hi=.new (.lst (gE xs lo hi)):=rfl
end L3
namespace L3
open PySem PySem.Spec PyProof.Rows L2
section
variable{gs:MGs}{gs3:jJ}
end
section
variable{e:E3}
end
section
variable{K:W.Frag}{mg:Sa}{X:Cx}{es:List Expr}{gs:PGs}{pos:Pos}
end
section
variable{K:W.Frag}{mg:Sa}{X:Cx}{ES:L2.St->XK}{a:Expr}{A:PAs}{pos q2 p1 p2:Pos}
end
section
variable{K:W.Frag}{mg:Sa}{n:Str}{kvs:List (Str×Int)}
end
end L3
namespace L3
open PySem L2
end L3
namespace L3
open PySem PySem.Spec PyProof.Rows L2
section
variable{K:W.Frag}{mg:Sa}
end
section
variable{X:Cx}{K:W.Frag}{mg:Sa}{ES:L2.St->XK}{e:Expr}{es:List Expr}{A:PAs}{pos:Pos}{x:PSt}
variable{P:Program}{w:World}{base:Heap}{fx:Str}{e_:Stmt}{k n m:Nat}{ps N:List Str}{ms:List Bool}
end
end L3
namespace L3
open PySem L2
end L3
namespace L3
open PySem PySem.Spec PyProof.Rows L2
section
variable{X:Nat->Prop}{h0:Nat}{ns ns1:Ns}{e e1:E3}{ae:AE}{h h1:AH}
end
section
variable{K:W.Frag}{mg:Sa}{X:Cx}{ES:L2.St->XK}{re qe a_:Expr}{st1:Stmt}{sts:List Stmt}{q:PEx}{y:PSt}{g:PGt}{I1 I2:PIt}{pos p2 p3 p4 p5:Pos}{x:Str}{j t:Nat}{hjt:j≠t}{ow:Bool}{tg oe:Expr}{hsb:(([none]:Se).filterMap id).Nodup}
end
section
variable{K:W.Frag}{mg:Sa}
end
noncomputable def Ea:ME3:=λe=>.ok (.new (.set [])) e
def EI:RE xG Ea:=λX h0 L ns e ae h S hl=>BvR.po (r:=.ok (.ref h.length) (h++[Ob.set []])) (b:=.new (.set [])) S hl ⟨.set [],rfl,trivial,.set []⟩
def xW:PEx:=⟨xG,Ea,EI⟩
def LH(e:E3):xW.G e=.ok (.new (.set [])) e:=rfl
noncomputable def BU:Val->Val->Bv:=λx y=>match x,y with
 |.int i,.set xs=>.val (.bl (decide (i∈xs)))
 |_,_=>.stuck
def L5:RO uc BU:=λP h d1 d2 v1 v2 r1 r2=>by
 unfold BU;split
 .rename_i i xs;rw[r1.int];obtain⟨n,rfl,e⟩:=r2.set;exact⟨_,by unfold uc;dsimp only;rw[e],.bl _⟩
 .trivial
def B8:PO2:=⟨uc,BU,L5⟩
def Mh(i:Int)(xs:List Int):B8.G (.int i) (.set xs)=.val (.bl (decide (i∈xs))):=rfl
noncomputable def xN:List Val->Bv:=λvs=>match vs with
 | [.set xs]=>.val (.int (xs.length:Nat))
 |_=>.stuck
def G4:RFn m7 xN:=λP h ds vs r=>by
 unfold xN;split
 .obtain⟨d,hd,r1⟩:=eZ r;subst hd;obtain⟨n,rfl,e⟩:=r1.set;exact⟨_,by unfold m7;dsimp only;rw[e],.int _⟩
 .trivial
def mY:PBf:=⟨m7,xN,G4⟩
def zW(xs:List Int):mY.G [.set xs]=.val (.int (xs.length:Nat)):=rfl
noncomputable def Cf:Val->Option (List Int)
 |.set xs=>some xs
 |_=>none
noncomputable def sF(i:Nat)(A:MA3):ME3:=λe=>match e[i]? with
 |some s=>match s.mv.bind Cf with
  |some _=>(A e).bind λts e1=>match dem e1 ts with
   |some (e2,[.int k])=>match e2[i]? with
    |some s2=>match s2.mv.bind Cf with
     |some xs=>if xs.length<4000 then .ok (.val .non) (e2.set i (s2.re (.set (eO xs k)))) else .stuck
     |none=>.stuck
    |none=>.stuck
   |_=>.stuck
  |none=>.stuck
 |none=>.stuck
def Kb(i:Nat)(hA:RA A A3):RE (eMS (bq i) A) (sF i A3):=λX h0 L ns e ae h S hl=>by
 unfold sF;cases q0:e[i]? with
 |none=>trivial
 |
  some s0=>
  dsimp only;split
  .rename_i xs0 hz;obtain⟨u0,z1,z2⟩:=Pg.mp hz;obtain⟨n0,o0,b1,b2,b3,b4,_⟩:=S.write q0 z1;have hL:xI h (.ref n0)=true:=by
    cases u0 with
    |set ys=>cases b4;show (match h[n0]? with |some (.set _)=>true |_=>false)=true;rw[b2]
    |_=>cases z2
   have L2e:eMS (bq i) A ae h=(A ae h).bind λds h2=>tI (.ref n0) ds h2:=by unfold eMS bq;rw[b1];simp only[fL,hL,Qu]
   rw[L2e];refine Po.bind S (hA X h0 ns e ae h S) λds ts h1 ns1 e1 a1 S1 r1=>?_;split
   .rename_i e2 k q1;obtain⟨d_,S2,a2,r2⟩:=gy S1 r1 q1;cases q2:e2[i]? with
    |none=>trivial
    |
     some s2=>
     dsimp only;split
     .rename_i xs q3;split
      .rename_i be;obtain⟨u,y1,y2⟩:=Pg.mp q3;obtain⟨n,o,k1,k2,k3,k4,k5⟩:=S2.write q2 y1;rw[b1] at k1;cases k1;cases u with
       |set ys=>cases y2;cases k4;obtain⟨d,rfl,rd⟩:=Dz r2;obtain rfl:=ShR.int (.inl rd);obtain⟨mv,S4,a4⟩:=k5 (.set (eO xs k)) (.set (eO xs k)) trivial (.set _);refine⟨.non,_,d_,?_,a2.trans S1 a4,S4,.non⟩;unfold tI;dsimp only;rw[k2];dsimp only;rw[if_pos be]
       |_=>cases y2
      .trivial
     .trivial
   .trivial
  .trivial
noncomputable def A8(i:Nat)(a:PAs):PEx:=⟨eMS (bq i) a.F,sF i a.G,Kb i a.ok⟩
def JH(e:E3)(i:Nat)(a:PAs):(A8 i a).G e=sF i a.G e:=rfl
noncomputable def sU:Val->Val->Bv:=λx y=>match x with
 |.dct kvs=>(match y with
  |.int k=>(match lkD kvs (.inl k) with
   |some v=>.val v
   |none=>.stuck)
  |_=>.stuck)
 |_=>.stuck
def Il:RO tG sU:=λP h d1 d2 v1 v2 r1 r2=>by
 unfold sU;split
 .split
  .split
   .rename_i kvs k _ v q;obtain⟨n,ws,rfl,e,rk⟩:=r1.dct;obtain rfl:=r2.int;obtain⟨d,q1,rd⟩:=Ex rk q;refine⟨d,?_,rd⟩;unfold tG;dsimp only;rw[e];dsimp only;rw[q1]
   .trivial
  .trivial
 .trivial
def xU:PO2:=⟨tG,sU,Il⟩
def Nb(h:lkD kvs (.inl k)=some v):xU.G (.dct kvs) (.int k)=.val v:=by show sU (.dct kvs) (.int k)=_;unfold sU;dsimp only;rw[h]
noncomputable def sDI:Val->Val->Val->Option Val:=λo i v=>match o with
 |.dct kvs=>(match i with
  |.int k=>if kvs.length<16777216 then some (.dct (cS kvs (.inl k) v)) else none
  |_=>none)
 |_=>none
def FJ:yA wDI sDI:=λP h n o u di vi d v u' np e hf r ri rd q=>by
 unfold sDI at q;split at q
 .rename_i kvs;split at q
  .rename_i k;split at q
   .rename_i hl;cases q;obtain rfl:=ri.int;cases r with
    |dct rk=>rename_i ws;refine⟨.dct (cS ws (.inl k) d),?_,trivial,.dct (Jl rd rk)⟩;unfold wDI;dsimp only;rw[e];dsimp only;rw[if_pos (by rw[Hl rk];exact hl)]
   .cases q
  .cases q
 .cases q
def seI:PSe:=⟨wDI,sDI,FJ⟩
def HV(kvs:List (Key×Val))(k:Int)(v:Val):seI.G (.dct kvs) (.int k) v=if kvs.length<16777216 then some (.dct (cS kvs (.inl k) v)) else none:=rfl
noncomputable def l7:Val->List Val->Option (Val×Val):=λu vs=>match u,vs with
 |.lst xs,[.tup ys]=>if xs.length+ys.length<=16777216 then some (.lst (xs++ys),.non) else none
 |_,_=>none
def xZ:RM jx l7:=λP h n o u ds vs u' v e hf r rs q=>by
 unfold l7 at q;split at q
 .split at q
  .rename_i hl;cases q;obtain⟨q1,es,q2,q3,q4⟩:=qP e r;obtain⟨d,rfl,rd⟩:=Dz rs;obtain⟨ys',rfl,rr⟩:=ShR.tup (.inl rd);refine⟨q1,.lst (es++ys'),.non,?_,trivial,.lst (q3.append rr),.non⟩;unfold jx;rw[q4];dsimp only;rw[if_pos (by rw[q3.len,rr.len];exact hl)]
  .cases q
 .cases q
def g0:PMm:=⟨jx,l7,xZ⟩
def pE(xs ys:List Val):g0.G (.lst xs) [.tup ys]=if xs.length+ys.length<=16777216 then some (.lst (xs++ys),.non) else none:=rfl
section
variable{K:W.Frag}{mg:Sa}{X:Cx}{ES:L2.St->XK}{e o a b:Expr}{es:List Expr}{p q:PEx}{A:PAs}{pos:Pos}
def xh:MtD K mg (l8 K) g0.F:=x9
def Lp:OpD K mg uC B8.F:=E7
def EU:aS K mg (λxs H Q=>∃a S n,xs=[.ref a]/\H a=some (.set S n)/\Q (.int (n:Nat)) H) mY.F:=FD
def BH:oi K mg xE seI.F:=Cu
def FR(hg:Gl X x)(hm:mg x=none)(hv:bootBuiltins x=some (.type "set"))(hk:X.mg=mg:=by rfl)(hn:x ≠ "__name__":=by decide)(hdb:(x==("__debug__" : Str))=false:=by decide):DE K mg X ES (.Call (.Name x p0) [] [] pos) xW.F:=by with_unfolding_all exact F1 hg hm hv hk hn hdb
def Jz(hK:X.K=K)(ho:DE K mg X ES o (af j).F)(ha:DA K mg X ES (e::es) A.F)
 (f_:attributeBase o "add" X.env (eval o X.env)=eval o X.env:=by rfl)
 (hfew:((backTo cpos (starEach (e::es) X.env)).all (λx=>!x.1)&&(backToKw cpos (keywordEach [] X.env)).all (λx=>x.1.isSome)
  && decide ((e::es).length+([]:List Keyword).length+(if ([]:List Keyword).isEmpty then 0 else 1)<30))=true:=by rfl)
 (gl:(apos.endLine==cpos.line)=true:=by rfl) (hs:starEach (e::es) X.env=(false,eval e X.env)::starEach es X.env:=by rfl) (ci:(backTo cpos (starEach es X.env)).any (·.1)=false:=by rfl):
 DE K mg X ES (.Call (.Attribute o "add" apos) (e::es) [] cpos) (A8 j A).F:=by with_unfolding_all exact Mi hK ho ha f_ hfew gl hs ci
def Cc(hu:X.A.units+1<cLine)(ha:DE K mg X ES a p.F)(hb:DE K mg X ES b q.F)(hs:nZ b):DE K mg X ES (.Subscript a b pos) (pOp xU p q).F:=by with_unfolding_all exact Bg hu ha hb hs
end
noncomputable def Bl:Val->Val->Bv:=λx y=>match x,y with
 |.lst xs,.int i=>if i=-1 then .new (.lst xs.reverse) else .stuck
 |_,_=>.stuck
def Lr:RO sf Bl:=λP h d1 d2 v1 v2 r1 r2=>by
 unfold Bl;split
 .rw[r2.int];split
  .rename_i hi;obtain⟨n,ds,rfl,_,e,rr⟩:=r1.lst;exact⟨.lst ds.reverse,by unfold sf;dsimp only;rw[if_pos hi,e],trivial,.lst rr.reverse⟩
  .trivial
 .trivial
def wK:PO2:=⟨sf,Bl,Lr⟩
def Er(xs:List Val):wK.G (.lst xs) (.int (-1))=.new (.lst xs.reverse):=rfl
def LO{K:W.Frag}{mg:Sa}{X:Cx}{ES:L2.St->XK}{e st:Expr}{p q:PEx}{pos p2:Pos}(hK:X.K=K)(he:DE K mg X ES e p.F)(hs:DE K mg X ES st q.F):DE K mg X ES (.Subscript e (.Slice none none (some st) p2) pos) (pOp wK p q).F:=by with_unfolding_all exact JV hK he hs
section
variable{K:W.Frag}{mg:Sa}
end
end L3
namespace L3
open PySem L2
end L3
namespace L3
open PySem PySem.Spec PyProof.Rows L2
section
variable{K:W.Frag}{mg:Sa}
end
section
variable{K:W.Frag}{mg:Sa}{X:Cx}{ES:L2.St->XK}{e:Expr}{es:List Expr}{p:PEx}{A:PAs}{pos:Pos}
def zcF{f:PFn}{x:Str}{p0:Pos}{k j n:Nat}{ps:List Str}(C:Callee X.prog X.w X.K X.mg X.base x j ps (spD K mg n f.F))(hr:Room k X.A)(ha:DA K mg X ES (e::es) A.F)(hk:j<=k:=by omega)(hg:Gl X x:=by exact rfl)(hx:kA X ES:=by first |exact uS O5 |exact CW |assumption)(hn:f.ms.length=n:=by rfl)(hdb:(x==("__debug__" : Str))=false:=by decide)(he:starEach (e::es) X.env=(false,eval e X.env)::starEach es X.env:=by rfl)(hpl:(backTo pos (starEach es X.env)).any (·.1)=false:=by rfl):DE K mg X ES (.Call (.Name x p0) (e::es) [] pos) (ai f A).F:=Cb C (hr.mono hk) hg hx ha hn hdb he hpl
def zsS{ow:Bool}(i:Nat){x:Str}{h_:Pos}(hN:X.N.Nodup)(he:DE K mg X ES e p.F)(hi:X.N[i]?=some x:=by exact rfl)(hx:Loc X.env.scope x:=by first |exact Or.inl rfl |exact Or.inr rfl)(hs:swapsWith e (some (.Name x h_)) pos.line X.env=pure false:=by rfl)(hf:X.fn x=true\/X.env.scope.names.lookup x=some .local:=by first |exact .inl rfl |exact .inr rfl |assumption):DS K mg X ES (.Assign [.Name x h_] e pos) (ao ow i p).F:=KJ hN hi hx he hs hf
def zgN(i:Nat){x:Str}(hN:X.N.Nodup)(hi:X.N[i]?=some x:=by exact rfl)(hx:Loc X.env.scope x:=by first |exact Or.inl rfl |exact Or.inr rfl)(hf:X.fn x=true\/X.env.scope.names.lookup x=some .local:=by first |exact .inl rfl |exact .inr rfl |assumption):DG K mg X ES (.Name x pos) (gtN i).F:=GH hN hi hx hf
end
def oX{P:Nat->Prop}{h:AH}:∀{ds:List D}{vs:List Val}{ns:List Int},Rds P h ds vs->fT vs=some ns->kT ds=some ns:=by
 intro ds;induction ds with
 |nil=>intro vs ns r e;cases r;cases e;rfl
 |
  cons d ds ih=>
  intro vs ns r e;cases r with
  |
   cons r rr=>
   rename_i v vs;cases v with
   |int i=>obtain⟨ms,e1,rfl⟩:=G_.mp e;obtain rfl:=ShR.int (.inl r);show (kT ds).map _=_;rw[ih rr e1];rfl
   |_=>cases e
end L3
namespace L3
open PySem PySem.Spec PyProof.Rows L2 PySem.W
noncomputable def adr(K:Frag)(x:Str):Addr:=match nsIn K mainGlobals x with
 |some (some (.ref a))=>a
 |_=>0
noncomputable def iz(K:Frag)(x:Str):Bool:=match nsIn K mainGlobals x with
 |some (some (.ref _))=>true
 |_=>false
noncomputable def rK(K:Frag)(x:Str):Bool:=match nsIn K mainGlobals x with
 |some none=>true
 |_=>false
noncomputable def xcB(K:Frag)(C:Addr):Bool:=(clsIn K C).isSome&&(findIn K (.ref C) "__getattribute__" == some (some (.builtin "BaseException.__getattribute__"))&&(findIn K (.ref C) "__getattr__" == some none&&(findIn K (.ref C) "__class__" == some (some (.builtin "object.__class__"))&&(specialIn K (.builtin "object.__class__") "__get__" == some (some (.builtin "getset_descriptor.__get__"))&&(takesIn K (.builtin "object.__class__")==some true&&(mroIn K C (.type "object")==some true&&mroIn K C (.type "BaseException")==some true))))))
noncomputable def hdB(K:Frag)(C:Addr):Bool:=typeIn K (.ref C)==some (.type "type")&&((clsIn K C).isSome&&mroIn K C (.type "BaseException")==some true)
noncomputable def clA(K:Frag):Cl->Value
 |.b n=>.type n
 |.o x=>.ref (adr K x)
def BX(K:Frag):Cl->Bool
 |.b _=>true
 |.o x=>iz K x
noncomputable def A2(K:Frag)(p:Cl×Cl×Bool):Bool:=kitOne K (clA K p.1) (clA K p.2.1)==some p.2.2&&(BX K p.1&&BX K p.2.1)
def xkB(K:Frag):Cl->Bool
 |.b _=>true
 |.o x=>xcB K (adr K x)
noncomputable def xa:D->Value->Bool
 |.int i,.int j _=>i==j
 |.str x,.str y _=>x==y
 |.non,.none=>true
 |.bl b,.bool c=>b==c
 |_,_=>false
noncomputable def dV:D->V
 |.int i=>.int i
 |.str x=>.str x
 |.bl b=>.bl b
 |_=>.non
noncomputable def qU:List D->List Value->Bool
 | [],[]=>true
 |d::ds,v::vs=>xa d v&&qU ds vs
 |_,_=>false
noncomputable def gcB(K:Frag)(x:Str):D->Bool
 |.tup ds=>(match nsIn K mainGlobals x with
  |some (some (.ref a))=>(match K.lookup a with
   |some ⟨.type "tuple",_,.seq its _,_⟩=>decide (its.size<=1000)&&qU ds its.toList
   |_=>false)
  |_=>false)
 |d=>match nsIn K mainGlobals x with
  |some (some v)=>xa d v
  |_=>false
noncomputable def bFn:List String:=["abs", "all", "any", "isinstance", "len", "max", "min", "sorted", "sum"]
noncomputable def bTy:List String:=["bool", "dict", "int", "list", "set", "str", "tuple"]
noncomputable def bIt:List String:=["range", "zip", "enumerate"]
def Ie:(bFn.all λn=>bootBuiltins (Str.ofString n)==some (.builtin n))=true:=by decide
def LS:(bTy.all λn=>bootBuiltins (Str.ofString n)==some (.type n))=true:=by decide
def boF{n:String}(h:bFn.contains n=true):bootBuiltins (Str.ofString n)=some (.builtin n):=Pa.mp (O9.mp Ie n (Pt.mp h))
def boT{n:String}(h:bTy.contains n=true):bootBuiltins (Str.ofString n)=some (.type n):=Pa.mp (O9.mp LS n (Pt.mp h))
structure Tb where
 us:List Str
 rs:List Str
 hs:List (Str×List Str)
 kt:jA
 gs:List (Str×D)
noncomputable def Tb.ok(b:Tb)(K:Frag):Bool:=(bFn++(bTy++bIt)).all (λn=>rK K (Str.ofString n))&&(b.us.all (iz K)&&(b.rs.all (λx=>excIn K (adr K x) lT "ValueError.__new__" && iz K x)&&(b.hs.all (λp=>hdB K (adr K p.1)&&p.2.all λc=>mroIn K (adr K c) (.ref (adr K p.1))==some true&&iz K c)&&(b.kt.all (λp=>A2 K p&&xkB K p.1)&&b.gs.all λp=>gcB K p.1 p.2))))
structure Tx(b:Tb)(K:Frag)(mg:Sa):Prop where
 n:∀{n:String},(bFn++(bTy++bIt)).contains n=true->mg (Str.ofString n)=none
 m:∀{x:Str},b.us.contains x=true->mg x=some (.ref (adr K x))
 x:∀{x:Str},b.rs.contains x=true->excIn K (adr K x) lT "ValueError.__new__"=true
 h:∀{x:Str}{l:List Str},(x,l)∈b.hs->XHand K (adr K x)/\∀c∈l,∀Ce,mg c=some (.ref Ce)->mroIn K Ce (.ref (adr K x))=some true
 k:KitsOk K mg b.kt
 g:∀{x:Str}{d:D},b.gs.lookup x=some d->GC K mg x d
section
variable{K:Frag}{h:Heap}{mg:Sa}{x:Str}(X:K.In h)(G:h.Ns mainGlobals mg)
include X G
def kO(e:iz K x=true):mg x=some (.ref (adr K x)):=by
 unfold iz at e;split at e
 .rename_i a q;unfold adr;rw[q];exact mg_of X G q
 .cases e
def xV(e:rK K x=true):mg x=none:=by
 unfold rK at e;split at e
 .rename_i q;exact mg_none_of X G q
 .cases e
omit X G in
def MQ{C:Addr}(e:xcB K C=true):XCls K C:=by simp only[xcB,r_,Pa] at e;obtain⟨e1,e2,e3,e4,e5,e6,e7,e8⟩:=e;exact⟨e1,e2,e3,e4,e5,e6,e7,e8⟩
def D1{c:Cl}{v:Value}(e:BX K c=true)(q:ClV mg c v):v=clA K c:=by
 cases c with
 |b n=>exact q
 |o y=>obtain⟨a,rfl,m⟩:=q;rw[kO X G (show iz K y=true from e)] at m;cases m;rfl
omit X G in
def y9{d:D}{v:Value}(e:xa d v=true):RelV (dV d) v/\∀ρ H,RelD K mg ρ H d (dV d):=by
 unfold xa at e;split at e
 .cases Pa.mp e;exact⟨⟨_,rfl⟩,λ_ _=>.int _⟩
 .cases Pa.mp e;exact⟨⟨_,rfl⟩,λ_ _=>.str _⟩
 .exact⟨rfl,λ_ _=>.non⟩
 .cases Pa.mp e;exact⟨rfl,λ_ _=>.bl _⟩
 .cases e
omit X G in
theorem vx:∀{ds:List D}{vs:List Value},qU ds vs=true->Vals (ds.map dV) vs/\∀ρ H,RelDs K mg ρ H ds (ds.map dV)
 | [],[],_=>⟨.nil,λ_ _=>.nil⟩
 |
  d::ds,v::vs,e=>by
  rw[qU,r_] at e;obtain⟨a1,a2⟩:=y9 (K:=K) (mg:=mg) e.1;obtain⟨b1,b2⟩:=vx e.2;exact⟨.cons a1 b1,λρ H=>.cons (a2 ρ H) (b2 ρ H)⟩
 | [],_::_,e=>nomatch e
 |_::_,[],e=>nomatch e
def NZ{d:D}(e:gcB K x d=true):GC K mg x d:=by
 unfold gcB at e;split at e
 .rename_i ds;split at e
  .rename_i a q;split at e
   .rename_i dd its n sl l;rw[r_] at e;obtain⟨v1,v2⟩:=vx (K:=K) (mg:=mg) e.2;exact HB X G q l (F_ (Qs e.1) (by decide)) v1 v2
   .cases e
  .cases e
 .split at e
  .rename_i v q;obtain⟨v1,v2⟩:=y9 (K:=K) (mg:=mg) e;exact⟨_,_,mg_of X G q,v1,v2⟩
  .cases e
omit X G in
theorem zM{d:D}:∀{l:List (Str×D)},l.lookup x=some d->(x,d)∈l
 | [],h=>nomatch h
 |
  (y,e)::l,h=>by
  rw[Qe] at h;split at h
  .rename_i q;cases h;rw[Pa.mp q];exact n_
  .exact m_ _ (zM h)
def OQ{b:Tb}(e:b.ok K=true):Tx b K mg:=by
 unfold Tb.ok at e;simp only[r_] at e;obtain⟨e1,e2,e3,e4,e5,e6⟩:=e;simp only[O9,r_] at e1 e2 e3 e4 e5 e6;refine⟨λh=>xV X G (e1 _ (Pt.mp h)),λh=>kO X G (e2 _ (Pt.mp h)),λh=>(e3 _ (Pt.mp h)).1,λh=>?_,⟨λp hp t v h1 h2=>?_,λp hp x C e' m=>?_⟩,λh=>NZ X G (e6 _ (zM h))⟩
 .obtain⟨a1,a2⟩:=e4 _ h;refine⟨?_,λc hc Ce m=>?_⟩
  .simp only[hdB,r_,Pa] at a1;exact⟨a1.1,a1.2.1,a1.2.2⟩
  .obtain⟨b1,b2⟩:=a2 c hc;rw[kO X G b2] at m;cases m;exact Pa.mp b1
 .obtain⟨a1,_⟩:=e5 p hp;simp only[A2,r_,Pa] at a1;rw[D1 X G a1.2.1 h1,D1 X G a1.2.2 h2];exact a1.1
 .obtain⟨a1,a2⟩:=e5 p hp;simp only[A2,r_,Pa] at a1;have a3:=a1.2.1;rw[e'] at a2 a3;rw[kO X G (show iz K x=true from a3)] at m;cases m;exact MQ a2
end
def dNm(s:Stmt):Str:=match s with
 |.FunctionDef n ..=>n
 |_=>""
def AllD(K:Frag)(mg:Sa)(top:Nat->Stmt):List Nat->Prop
 | []=>True
 |i::l=>Def K mg (dNm (top i)) (top i)/\AllD K mg top l
theorem AllD.get{K:Frag}{mg:Sa}{top:Nat->Stmt}:∀{l:List Nat},AllD K mg top l->∀i,l.contains i=true->Def K mg (dNm (top i)) (top i)
 | [],_,i,h=>nomatch h
 |
  j::l,⟨a,b⟩,i,h=>by
  rcases H_.mp (Pt.mp h) with rfl |h
  .exact a
  .exact b.get i (Pt.mpr h)
structure Ty(b:Tb)(top:Nat->Stmt)(ds:List Nat)(K:Frag)(mg:Sa):Prop extends Tx b K mg where
 d:AllD K mg top ds
noncomputable def scB(N P:List Str)(sc:Scope):Bool:=decide (sc.kind=.function)&&(!sc.isCoroutine&&(!sc.isGenerator&&(decide N.Nodup&&(decide (N.take P.length=P)&&(P.all (λx=>decide (sc.names.lookup x=some .local\/sc.names.lookup x=some .cell))&&sc.names.all λy=>decide (y.2 ≠ .free))))))
def au{N P:List Str}{sc:Scope}(e:scB N P sc=true):FnScope N P sc:=by simp only[scB,r_,QG,O9,QE] at e;obtain⟨e1,e2,e3,e4,e5,e6,e7⟩:=e;exact⟨e1,e2,e3,e4,e5,e6,e7⟩
section
variable{K:W.Frag}{mg:Sa}{X:Cx}{ES:L2.St->XK}{e a b c o i tg a_ im:Expr}{p q r:PEx}{t u:PTs}{x y:PSt}{g:PGt}{I:PIt}{pos:Pos}
def gH{scope:Scope}(M:List Str)(kn:List (Str×NameKind))(N:List Str)(sub:Se){hsb:(sub.filterMap id).Nodup}(hi:DI K mg X ES tg a_ I.F)(hg:N.Nodup->∀cl C s₂ H fp,DG K mg (aK X N scope cl C s₂ H fp) (λ_=>E0) tg g.F)(he:N.Nodup->∀cl C s₂ H fp,DE K mg (aK X N scope cl C s₂ H fp) (λ_=>E0) im p.F)(hnd:N.Nodup:=by decide)(hc:X.calm=true:=by rfl)(hM:X.N=M:=by rfl)(hkn:X.env.scope.names=kn:=by rfl)(em:fP M scope.names sub N=true:=by decide)(hk:scope.kind=.function:=by rfl)(hnc:∀x∈scope.names,x.2 ≠ .cell:=by decide)(b_:∀x∈scope.names,x.2=.local->scope.names.lookup x.1=some .local:=by decide)(hfr:iB kn scope.names=true:=by decide)(hsl:sub.length=N.length:=by rfl)(hs:∀x,foldedSetIterable a_ X.env x=pure x:=by intro _;rfl):DE K mg X ES (.ListComp im [⟨tg,a_,[],0⟩] scope pos) (pLC I sub hsb g qY p).F:=OT M kn N sub hc hi (hg hnd) (he hnd) hM hkn em hk hnc b_ hfr hsl hs
def zSlc{ow:Bool}{px spos:Pos}{iT:Nat}{xT:Str}{scope:Scope}(hN:X.N.Nodup)(M:List Str)(kn:List (Str×NameKind))(N:List Str)(sub:Se){hsb:(sub.filterMap id).Nodup}(hi:DI K mg X ES tg a_ I.F)(hg:N.Nodup->∀cl C s₂ H fp,DG K mg (aK X N scope cl C s₂ H fp) (λ_=>E0) tg g.F)(he:N.Nodup->∀cl C s₂ H fp,DE K mg (aK X N scope cl C s₂ H fp) (λ_=>E0) im p.F)(hsw:swapsWith (.ListComp im [⟨tg,a_,[],0⟩] scope pos) (some (.Name xT px)) spos.line X.env=pure true:=by rfl)(hnd:N.Nodup:=by decide)(hc:X.calm=true:=by rfl)(hix:X.N[iT]?=some xT:=by rfl)(hxl:Loc X.env.scope xT:=by first |exact Or.inl rfl |exact Or.inr rfl)(hM:X.N=M:=by rfl)(hkn:X.env.scope.names=kn:=by rfl)(em:fP M scope.names sub N=true:=by decide)(hk:scope.kind=.function:=by rfl)(hnc:∀x∈scope.names,x.2 ≠ .cell:=by decide)(b_:∀x∈scope.names,x.2=.local->scope.names.lookup x.1=some .local:=by decide)(hfr:iB kn scope.names=true:=by decide)(hsl:sub.length=N.length:=by rfl)(hs:∀x,foldedSetIterable a_ X.env x=pure x:=by intro _;rfl)(hf:X.fn xT=true\/X.env.scope.names.lookup xT=some .local:=by first |exact .inl rfl |exact .inr rfl |assumption):DS K mg X ES (.Assign [.Name xT px] (.ListComp im [⟨tg,a_,[],0⟩] scope pos) spos) (ao ow iT (pLC I sub hsb g qY p)).F:=N5 M kn N sub hc hN hix hxl hi (hg hnd) (he hnd) hsw hM hkn em hk hnc b_ hfr hsl hs hf
end
section
variable{K:W.Frag}{mg:Sa}{P:Program}{w:World}{base:Heap}{fx:Str}{e_:Stmt}{k n m:Nat}{ps N:List Str}{ms:List Bool}{x:PSt}
def aE(D:Def K mg fx e_)(S:FnScope N ps (ak e_))
 (hb:∀(kV doc pm:Value) (an:Option Addr) (cdv ct:Value) (us:List Value),us.length=ps.length->bindArgs (W.fnOf fx fx (bO e_) (aQ e_) (ak e_) .none kV doc pm an cdv ct) ⟨us,[]⟩=pure (ps.zip us))
 (db:N.Nodup->∀(f:Addr) (cdv:Value) (A:Around) (outer:List Env) (s:Shared) (H:Hp) (E:XK),Room k (A.deeper (envOfC fx (ak e_) s.heap.objs.size f cdv))->
  DSs K mg (c7 (CX1 P w) P w K mg base N fx (ak e_) f cdv A outer s H E) (λ_=>E) (aQ e_) x.F) (hn:ps.length=n:=by rfl) (hm:N.length=m:=by rfl):Callee P w K mg base fx (k+1) ps (spD K mg n (fnP ms m x).F):=okP D S hb (db S.nd) hn hm
def Bh(D:Def K mg fx e_)(S:FnScope N ps (ak e_))
 (hb:∀(kV doc pm:Value) (an:Option Addr) (cdv ct:Value) (us:List Value),us.length=ps.length->bindArgs (W.fnOf fx fx (bO e_) (aQ e_) (ak e_) .none kV doc pm an cdv ct) ⟨us,[]⟩=pure (ps.zip us))
 (db:N.Nodup->∀(f:Addr) (cdv:Value) (A:Around) (outer:List Env) (s:Shared) (H:Hp) (E:XK),Room k (A.deeper (envOfC fx (ak e_) s.heap.objs.size f cdv))->
  DSs K mg (c7 (CX1 P w) P w K mg base N fx (ak e_) f cdv A outer s H E) (λ_=>E) (aQ e_) x.F) (hn:ps.length=n:=by rfl) (hm:N.length=m:=by rfl):Callee P w K mg base fx (k+1) ps (spD K mg n (PFx.of ms m x).F):=okX D S hb (db S.nd) hn hm
end
end L3
namespace L3
open PySem PySem.Spec PyProof.Rows L2
section
variable{K:W.Frag}{mg:Sa}{X:Cx}{ES:L2.St->XK}{a b c:Expr}{F G M:ME}{pos p2:Pos}{ρ:List Addr}{H:Hp}{h:AH}{ae:AE}{σ:L2.St}
end
section
variable{K:W.Frag}{mg:Sa}{X:Cx}{ES:L2.St->XK}{e o i t1 t2:Expr}{pos p2:Pos}{j a b:Nat}
end
section
variable{P P':Nat->Prop}{h h':AH}{k:List Val->Bool}
end
section
variable{X:Nat->Prop}{h0 L:Nat}{ns:Ns}{e:E3}{ae:AE}{h:AH}{ms:List Bool}{ts:List Tm}{ds:List D}{vs:List Val}{S2:Fn}{G3:Fn3}{r:Rt}{mv:List Val}
end
section
variable{K:W.Frag}{mg:Sa}{X:Cx}{ES:L2.St->XK}{e:Expr}{es:List Expr}{pos:Pos}{A:PAs}
end
section
variable{K:W.Frag}{mg:Sa}{X:Cx}{ES:L2.St->XK}{tg a b c:Expr}{p pos:Pos}{A:PAs}
end
end L3
namespace L3
open PySem PySem.W PySem.Spec PyProof.Rows L2
noncomputable def ni:List Val->Bv:=λvs=>match vs with
 | [.int j,.lst us]=>match fT us with
  |some ws=>if j=(ws.length:Nat)/\ws.length<64 then .new (.lst ((ax ws).map λi:Nat=>.int (i:Nat))) else .stuck
  |none=>.stuck
 |_=>.stuck
theorem um{P:Nat->Prop}{h:AH}:∀l:List Nat,Rds P h (l.map λi:Nat=>D.int (i:Nat)) (l.map λi:Nat=>Val.int (i:Nat))
 | []=>.nil
 |i::l=>.cons (.int _) (um l)
def EM:RFn jt ni:=λP h ds vs r=>by
 unfold ni;split
 .obtain⟨d,e,hd,r1,r2⟩:=qQ r;subst hd;split
  .rename_i ws q;split
   .rename_i hb;have e1:=r1.int;subst e1;obtain⟨n,es,rfl,g1,_,g2⟩:=ShR.lst r2;refine⟨.lst ((ax ws).map λi:Nat=>D.int (i:Nat)),?_,trivial,.lst (um _)⟩;unfold jt lsD aG;dsimp only;rw[g1];dsimp only;rw[oX g2 q];dsimp only;rw[if_pos hb]
   .trivial
  .trivial
 .trivial
def uq:PBf:=⟨jt,ni,EM⟩
def Ja(ws:List Int)(h:ws.length<64):uq.G [.int (ws.length:Nat),.lst (ws.map .int)]=.new (.lst ((ax ws).map λi:Nat=>.int (i:Nat))):=by show ni [.int (ws.length:Nat),.lst (ws.map .int)]=_;unfold ni;dsimp only;rw[bZ];dsimp only;rw[if_pos ⟨rfl,h⟩]
section
variable{K:W.Frag}{mg:Sa}{X:Cx}{ES:L2.St->XK}{a:Expr}{p:PEx}{iW:Nat}{c P:Addr}{q1 q2 q6 q7 q8 q9 p0 p1 p2 p3 p4 p5 p6:Pos}
def Fi(hc:X.calm=true)(hdp:X.A.depth<recursionLimit)(hl:Gl X "sorted")(hml:mg "sorted"=none)(hg:Gl X "range")(hm:mg "range"=none)(hN:X.N[iW]?=some "weights")(hv:X.env.scope.names.lookup ("weights" : Str)=some .cell)(i_:X.env.code=.ref c)(hh:W.codeHdIn K c P=true)(hT:LamT K mg P (X.env.qual ++ "<lambda>"))(ha:DE K mg X ES a p.F)(hK:X.K=K:=by rfl)(hk:X.mg=mg:=by rfl)(hs:starEach [a] X.env=[(false,eval a X.env)]:=by rfl):
 DE K mg X ES (.Call (.Name "sorted" q1) [.Call (.Name "range" q2) [a] [] q6] [⟨some "key",.Lambda (d4 p0) (dm p1 p2 p3 p4 p5 p6) aW q7,q8⟩] q9) (pFn uq (aa p (aa (af iW) ag))).F:=by
 subst hk;with_unfolding_all exact Fb hc hdp hl hml hg hm ha hN hv i_ hh hT hs hK rfl
end
def Dp(K:Frag)(mg:Sa)(x:Str):Prop:=x∈lV/\(∀y∈lV,y≠x->mg y=none)/\∀f oc od fd sl,mg x=some (.ref f)->K.lookup f=some ⟨oc,od,.func fd,sl⟩->∃c P,fd.code=.ref c/\codeHdIn K c P=true
noncomputable def xf(K:Frag)(a:Addr):Option (Addr×Addr):=match K.lookup a with
 |some ⟨_,_,.func fd,_⟩=>(match fd.code with
  |.ref c=>(match K.lookup c with
   |some ⟨_,_,.fields vs,_⟩=>(match (vs[11]?:Option Value) with
    |some (.ref P)=>if codeHdIn K c P=true then some (c,P) else none
    |_=>none)
   |_=>none)
  |_=>none)
 |_=>none
noncomputable def lamB(K:Frag)(x:Str):Bool:=lV.contains x&&(lV.all (λy=>y==x || rK K y)&&(iz K x&&(xf K (adr K x)).isSome))
noncomputable def NT(K:Frag)(ts:List Addr):Bool:=lV.all λx=>rK K x || (iz K x&&(match xf K (adr K x) with
 |some (_,P)=>ts.contains P
 |none=>false))
noncomputable def Eo(K:Frag)(ts:List Addr):Bool:=ts.all λP=>(K.lookup P).isNone&&K.any λp=>codeHdIn K p.1 P
def vo{K:Frag}{a c P:Addr}(e:xf K a=some (c,P)):∃oc od fd sl,K.lookup a=some ⟨oc,od,.func fd,sl⟩/\fd.code=.ref c/\codeHdIn K c P=true:=by
 unfold xf at e;split at e
 .rename_i oc od fd sl h1;split at e
  .rename_i c' h2;split at e
   .split at e
    .split at e
     .rename_i h3;cases e;exact⟨_,_,fd,_,h1,h2,h3⟩
     .cases e
    .cases e
   .cases e
  .cases e
 .cases e
def K5{K:Frag}{c P P':Addr}(h:codeHdIn K c P=true)(h':codeHdIn K c P'=true):P=P':=by
 unfold codeHdIn at h h';split at h
 .rename_i vs hk;rw[hk] at h';simp only[r_] at h h';have a:=h.1.1.1.1.1;have b:=h'.1.1.1.1.1;split at a
  .rename_i x hx;rw[hx] at b;rw[Pa] at a b;exact a.symm.trans b
  .cases a
 .cases h
section
variable{K:Frag}{h:Heap}{mg:Sa}(X:K.In h)(G:h.Ns mainGlobals mg)
include X G
def Jj{x:Str}(e:lamB K x=true):Dp K mg x:=by
 simp only[lamB,r_,O9,QA] at e;obtain⟨e1,e2,e3,e4⟩:=e;refine⟨Pt.mp e1,λy hy hne=>?_,λf oc od fd sl m lk=>?_⟩
 .rcases e2 y hy with z |z
  .exact absurd (Pa.mp z) hne
  .exact xV X G z
 .obtain⟨⟨c,P⟩,ec⟩:=PM.mp e4;obtain⟨oc',od',fd',sl',l1,l2,l3⟩:=vo ec;have m':=kO X G e3;rw[m] at m';cases m';rw[lk] at l1;cases l1;exact⟨c,P,l2,l3⟩
def Iv{ts:List Addr}(e:NT K ts=true)(P:Addr)(q:Str)(l:LamT K mg P q):P∈ts:=by
 obtain⟨x,f,oc,od,fd,sl,c,a1,a2,a3,a4,a5,a6,_⟩:=l;have z:=O9.mp e x a1;rw[QA] at z;rcases z with z |z
 .have:=xV X G z
  rw[a3] at this;cases this
 .rw[r_] at z;obtain⟨z1,z2⟩:=z;have m':=kO X G z1;rw[a3] at m';cases m';split at z2
  .rename_i c' P' ec;obtain⟨oc',od',fd',sl',l1,l2,l3⟩:=vo ec;rw[a4] at l1;cases l1;rw[a5] at l2;cases l2;rw[K5 a6 l3];exact Pt.mp z2
  .cases z2
end
def Gi{K:Frag}{ts:List Addr}{h:Heap}(e:Eo K ts=true)(a:∀P∈ts,h.get? P=some (tabObj #[])):TabsOk K ts h:=by
 simp only[Eo,O9,r_,QL] at e;refine⟨a,λP hP=>?_,λP hP=>?_⟩
 .have:=(e P hP).1
  rw[Option.isNone_iff_eq_none] at this;exact this
 .obtain⟨p,_,q⟩:=(e P hP).2;exact⟨p.1,q⟩
structure TyL(b:Tb)(top:Nat->Stmt)(ds:List Nat)(K:Frag)(mg:Sa):Prop extends Ty b top ds K mg where
 l:Dp K mg "by_falling_weights"
section
variable{K:W.Frag}{mg:Sa}{P:Program}{w:World}{base:Heap}{fx:Str}{e_:Stmt}{k n m:Nat}{ps N:List Str}{ms:List Bool}{x:PSt}
def okPL(D:Def K mg fx e_)(L:Dp K mg fx)(S:FnScope N ps (ak e_))
 (hb:∀(kV doc pm:Value) (an:Option Addr) (cdv ct:Value) (us:List Value),us.length=ps.length->bindArgs (W.fnOf fx fx (bO e_) (aQ e_) (ak e_) .none kV doc pm an cdv ct) ⟨us,[]⟩=pure (ps.zip us))
 (db:N.Nodup->∀(f:Addr) (A:Around) (outer:List Env) (s:Shared) (H:Hp) (E:XK) (c T:Addr),codeHdIn K c T=true->LamT K mg T (fx ++ ".<locals>." ++ "<lambda>")->Room k (A.deeper (envOfC fx (ak e_) s.heap.objs.size f (.ref c)))->
  DSs K mg (c7 (CX1 P w) P w K mg base N fx (ak e_) f (.ref c) A outer s H E) (λ_=>E) (aQ e_) x.F) (hn:ps.length=n:=by rfl) (hm:N.length=m:=by rfl):Callee P w K mg base fx (k+1) ps (spD K mg n (fnP ms m x).F):=by
 subst hn hm;obtain⟨f,fd,Ff,mm⟩:=D.ex;have bd:=Ff.binds hb;have kp:=Ff.kp;obtain⟨oc,od,kV,doc,pm,an,cdv,ct,osl,rfl,lk,i_⟩:=Ff.ex;obtain⟨c,T,e1,e2⟩:=L.2.2 f _ _ _ _ mm lk;have e1:cdv=.ref c:=e1;subst e1;have LT:LamT K mg T (fx ++ ".<locals>." ++ "<lambda>"):=⟨fx,f,oc,od,_,osl,c,L.1,L.2.1,mm,lk,rfl,e2,rfl⟩;refine⟨f,_,DX lk i_ S (λvs H Q E ⟨ρ,h,ds,w,rs,hl,p⟩=>by rw[<- rs.len];exact hl) λA outer s H vs Q E hr ⟨ρ,h,ds,w',rs,hl,p⟩=>?_,mm,kp,bd,oc,od,osl,lk⟩;have p:cQ K mg ρ H Q E (fnD N.length x.F ds h):=p;have hb2:=db S.nd f A outer s H E c T e2 LT hr;with_unfolding_all refine⟨_,hb2,ρ,h,_,w',mM rs,?_⟩
 unfold fnD at p;split at p
 .rename_i e;rw[e];exact λρ1 H1 σ1 l1 w1 re1=>p ρ1 H1 l1 w1 _ .non
 .rename_i e;rw[e];exact λρ1 H1 v l1 w1 rv=>p ρ1 H1 l1 w1 v rv
 .rename_i e;rw[e];exact λρ1 H1 σ1 C l1 w1 re1 m1=>p ρ1 H1 C l1 w1 m1
 .exact p.elim
end
end L3
namespace L3
open PySem PySem.Spec PyProof.Rows L2
noncomputable def dS(k:Int×Int):Val:=.tup [.int k.1,.int k.2]
noncomputable def iM:List Val->Option (List (Int×Int))
 | []=>some []
 |.tup [.int i,.int j]::vs=>(iM vs).map ((i,j) :: ·)
 |_::_=>none
theorem nF:∀ks:List (Int×Int),iM (ks.map dS)=some ks
 | []=>rfl
 |
  k::ks=>by
  show (iM (ks.map dS)).map _=_;rw[nF ks];rfl
def xC{P:Nat->Prop}{h:AH}:∀{ds:List D}{vs:List Val}{ks:List (Int×Int)},Rds P h ds vs->iM vs=some ks->iS ds=some ks:=by
 intro ds;induction ds with
 |nil=>intro vs ks r e;cases r;cases e;rfl
 |
  cons d ds ih=>
  intro vs ks r e;cases r with
  |
   cons r rr=>
   rename_i v vs;unfold iM at e;split at e
   .rename_i z;exact (nomatch z)
   .rename_i i j vs' z;cases z;obtain⟨ms,e1,rfl⟩:=G_.mp e;obtain⟨d2,rfl,rs⟩:=ShR.tup (.inl r);cases rs with
    |
     cons r1 rs=>
     cases rs with
     |cons r2 rs=>cases rs;obtain rfl:=ShR.int (.inl r1);obtain rfl:=ShR.int (.inl r2);show (iS ds).map _=_;rw[ih rr e1];rfl
   .cases e
theorem pL{P:Nat->Prop}{h:AH}:∀ks:List (Int×Int),Rds P h (ks.map prD) (ks.map dS)
 | []=>.nil
 |k::ks=>.cons (.tup (.cons (.int _) (.cons (.int _) .nil))) (pL ks)
noncomputable def ke:List Val->Bv:=λvs=>match vs with
 | [.lst us]=>match iM us with
  |some ks=>if ks.Nodup/\ks.length<64 then .new (.lst ((srP ks).map dS)) else .stuck
  |none=>.stuck
 |_=>.stuck
def Bo:RFn j6 ke:=λP h ds vs r=>by
 unfold ke;split
 .obtain⟨d,hd,r1⟩:=eZ r;subst hd;split
  .rename_i ks q;split
   .rename_i hb;obtain⟨n,es,rfl,g1,_,g2⟩:=ShR.lst r1;refine⟨.lst ((srP ks).map prD),?_,trivial,.lst (pL _)⟩;unfold j6 aG;dsimp only;rw[g1];dsimp only;rw[xC g2 q];dsimp only;rw[if_pos hb]
   .trivial
  .trivial
 .trivial
def og:PBf:=⟨j6,ke,Bo⟩
def G7(ks:List (Int×Int))(nd:ks.Nodup)(h:ks.length<64):og.G [.lst (ks.map dS)]=.new (.lst ((srP ks).map dS)):=by show ke [.lst (ks.map dS)]=_;unfold ke;dsimp only;rw[nF];dsimp only;rw[if_pos ⟨nd,h⟩]
def u7{X:Cx}{K:W.Frag}(hK:X.K=K):CallR X (.builtin "sorted") (nK K):=by subst hK;exact tH
def Bm{K:W.Frag}{mg:Sa}:aS K mg (nK K) og.F:=Dq
noncomputable def mB:List Val->Bv:=λvs=>match vs with
 | [.lst us]=>match fT us with
  |some ns=>if ns.length<1000 then .new (.set (ddI ns)) else .stuck
  |none=>.stuck
 |_=>.stuck
def G8:RFn nv mB:=λP h ds vs r=>by
 unfold mB;split
 .obtain⟨d,hd,r1⟩:=eZ r;subst hd;split
  .rename_i ns q;split
   .rename_i hb;obtain⟨n,es,rfl,g1,_,g2⟩:=ShR.lst r1;refine⟨.set (ddI ns),?_,trivial,.set _⟩;unfold nv lsD aG;dsimp only;rw[g1];dsimp only;rw[oX g2 q];dsimp only;rw[if_pos hb]
   .trivial
  .trivial
 .trivial
def rq:PBf:=⟨nv,mB,G8⟩
def Iu(ns:List Int)(h:ns.length<1000):rq.G [.lst (ns.map .int)]=.new (.set (ddI ns)):=by show mB [.lst (ns.map .int)]=_;unfold mB;dsimp only;rw[bZ];dsimp only;rw[if_pos h]
def xx{X:Cx}{K:W.Frag}(hK:X.K=K)(hc:X.calm=true):CallR X (.type "set") (qL K):=by subst hK;exact zL hc
def GX{K:W.Frag}{mg:Sa}:aS K mg (qL K) rq.F:=EX
section
variable{K:W.Frag}{mg:Sa}{X:Cx}{ES:L2.St->XK}{a:Expr}{A:PAs}{pos q1 q2 q8 q9 p1 p2 pc:Pos}{kc:Nat}
end
end L3
namespace Wb
open L2
noncomputable def lc(qs:List Rat)(c:Nat):Nat:=qs.foldl (λc q=>Nat.lcm c q.den) c
noncomputable def gc(ws:List Int)(g:Nat):Nat:=ws.foldl (λg w=>Int.gcd (g:Int) w) g
noncomputable def wh(L:Nat)(qs:List Rat):List Int:=qs.map λq=>q.num*((L/q.den:Nat):Int)
noncomputable def ws(qs:List Rat):List Int:=wh (lc qs 1) qs
def dv(qs:List Rat):Nat:=gc (ws qs) 0
end Wb
namespace L3
open PySem L2
noncomputable def cz(b:Bx):Rat:=if b.w<b.h then b.h/b.w else b.w/b.h
noncomputable def shL(s l:Rat)(W:Int):Int->List Int->List (Rat×Rat)
 |_,[]=>[]
 |a,w::ws=>(s+l*((a:Rat)/(W:Rat)),l*((w:Rat)/(W:Rat)))::shL s l W (a+w) ws
theorem iO(s l:Rat)(W:Int):∀(ws:List Int) (a:Int),(shL s l W a ws).length=ws.length
 | [],_=>rfl
 |w::ws,a=>by unfold shL;rw[B_,B_,iO s l W ws (a+w)]
noncomputable def aA(b:Bx)(way:Str)(ws:List Int):List Bx:=if way="across" then (shL b.l b.w ws.sum 0 ws).map λp=>⟨p.1,b.t,p.2,b.h⟩ else (shL b.t b.h ws.sum 0 ws).map λp=>⟨b.l,p.1,b.w,p.2⟩
theorem fi:∀{l:List Int},(∀w∈l,1<=w)->(l.length:Int)<=l.sum
 | [],_=>by simp
 |
  x::l,h=>by
  rw[Pe,B_]
  have:=h x (n_ ..)
  have:=fi (l:=l) λw hw=>h w (m_ _ hw)
  omega
theorem vT:∀(ws:List Int) (a:Int),0<=a->(∀w∈ws,1<=w)->a+ws.sum<=W->p∈shL s l W a ws->∃a' w:Int,0<=a'/\a'<=W/\1<=w/\w<=W/\p=(s+l*((a':Rat)/(W:Rat)),l*((w:Rat)/(W:Rat)))
 | [],_,_,_,_,h=>nomatch h
 |
  w::ws,a,ha,hw,hs,h=>by
  have h1:=hw w (n_ ..);have h2:=fi (l:=ws) λx hx=>hw x (m_ _ hx);rw[Pe] at hs;unfold shL at h;rcases H_.mp h with rfl |h
  .exact⟨a,w,ha,by omega,h1,by omega,rfl⟩
  .exact vT ws (a+w) (by omega) (λx hx=>hw x (m_ _ hx)) (by omega) h
noncomputable def cut1(b:Bx)(way:Str)(u v:Int):Bx:=(aA b way [u,v]).headD b
noncomputable def cut2(b:Bx)(way:Str)(u v:Int):Bx:=((aA b way [u,v]).drop 1).headD b
def jM(b:Bx)(way:Str)(u v:Int):aA b way [u,v]=[cut1 b way u v,cut2 b way u v]:=by unfold cut1 cut2 aA;split <;> rfl
noncomputable def liV(l:List Int):Val:=.lst (l.map .int)
noncomputable def wsAt(ws:List Int)(i:Int):Int:=ws.getD i.toNat 0
noncomputable def wt(ws l:List Int):Int:=(l.map (wsAt ws)).sum
noncomputable def mx(x y:Rat):Rat:=if x<y then y else x
end L3
namespace L3
open PySem PySem.Spec PyProof.Rows L2
inductive AT where
 |lf (k:Nat)
 |nd (w:Bool) (ts:List AT)
noncomputable def wy(w:Bool):Str:=if w=true then "across" else "down"
def AT.ind{P:AT->Prop}(h1:∀k,P (.lf k))(h2:∀w ts,(∀t∈ts,P t)->P (.nd w ts))(t:AT):P t:=
 @AT.rec P (λts=>∀t∈ts,P t) h1 (λw ts ih=>h2 w ts ih) (λt h=>nomatch h) (λt ts i1 i2 u hu=>by
  rcases H_.mp hu with rfl |hu
  .exact i1
  .exact i2 u hu) t
mutual
def AT.val(f:Nat->Val):AT->Val
 |.lf k=>f k
 |.nd w ts=>.tup [.str (wy w),.tup (AT.vals f ts)]
def AT.vals(f:Nat->Val):List AT->List Val
 | []=>[]
 |t::ts=>AT.val f t::AT.vals f ts
end
mutual
def AT.lvs:AT->List Nat
 |.lf k=>[k]
 |.nd _ ts=>AT.lvsL ts
def AT.lvsL:List AT->List Nat
 | []=>[]
 |t::ts=>AT.lvs t++AT.lvsL ts
end
mutual
def AT.dep:AT->Nat
 |.lf _=>1
 |.nd _ ts=>AT.depL ts+1
def AT.depL:List AT->Nat
 | []=>0
 |t::ts=>max (AT.dep t) (AT.depL ts)
end
mutual
def AT.ok:AT->Bool
 |.lf _=>true
 |.nd _ ts=>decide (2<=ts.length)&&AT.okL ts
def AT.okL:List AT->Bool
 | []=>true
 |t::ts=>AT.ok t&&AT.okL ts
end
theorem AT.vals_map(f:Nat->Val):∀ts,AT.vals f ts=ts.map (AT.val f)
 | []=>rfl
 |t::ts=>by rw[AT.vals,AT.vals_map f ts];rfl
theorem AT.lvsL_mem:∀{ts:List AT},x∈AT.lvsL ts ↔ ∃t∈ts,x∈t.lvs
 | []=>by simp [AT.lvsL]
 |t::ts=>by rw[AT.lvsL,Qo,AT.lvsL_mem (ts:=ts)];simp
theorem AT.lvsL_flat:∀ts:List AT,AT.lvsL ts=(ts.map AT.lvs).flatten
 | []=>rfl
 |t::ts=>by rw[AT.lvsL,AT.lvsL_flat ts];rfl
theorem AT.depL_le:∀{ts:List AT},AT.depL ts<=m ↔ ∀t∈ts,t.dep<=m
 | []=>by simp [AT.depL]
 |t::ts=>by rw[AT.depL,Nat.max_le,AT.depL_le (ts:=ts)];simp
theorem AT.okL_mem:∀{ts:List AT},AT.okL ts=true ↔ ∀t∈ts,t.ok=true
 | []=>by simp [AT.okL]
 |t::ts=>by rw[AT.okL,r_,AT.okL_mem (ts:=ts)];simp
def vd{t:AT}(h:t.ok=true):1<=t.lvs.length:=by
 induction t using AT.ind with
 |h1 k=>simp [AT.lvs]
 |
  h2 w ts ih=>
  rw[AT.ok,r_] at h;cases ts with
  |nil=>exact absurd h.1 (by decide)
  |
   cons t ts=>
   have:=ih t (n_ ..) (AT.okL_mem.mp h.2 t (n_ ..))
   rw[AT.lvs,AT.lvsL,z_];omega
theorem sT{α β:Type}{f:α->List β}:∀{l:List α},(∀a∈l,1<=(f a).length)->l.length<=((l.map f).flatten).length
 | [],_=>o_ _
 |
  a::l,h=>by
  have h1:=h a (n_ ..);have h2:=sT (l:=l) λb hb=>h b (m_ _ hb);rw[s_,List.flatten_cons,z_,B_];omega
noncomputable def lfV:Val->Bool
 |.int _=>true
 |.str _=>true
 |_=>false
theorem kq:∀{vs:List Val},(∀v∈vs,wfV k v=true)->bT k vs=true
 | [],_=>rfl
 |
  v::vs,h=>by
  show (wfV k v&&bT k vs)=true;rw[h v (n_ ..),kq λu hu=>h u (m_ _ hu)];rfl
def yp(v:Val)(l:List Val):atI (v::l) 0=some v:=cL (by decide) rfl
def inB(x:Nat)(t:AT):Bool:=decide (x∈t.lvs)
noncomputable def itV(l:List Nat):Val:=.lst (l.map λk:Nat=>.int k)
structure TOk(t:AT)(l:List Nat):Prop where
 ok:t.ok=true
 mem:∀k,k∈t.lvs ↔ k∈l
 dep:t.dep<=l.length
 len:t.lvs.length=l.length
def atV(t:AT):Val:=t.val λk=>.int (k:Nat)
mutual
def AT.cnt:AT->Nat
 |.lf _=>1
 |.nd _ ts=>AT.cntL ts+1
def AT.cntL:List AT->Nat
 | []=>0
 |t::ts=>AT.cnt t+AT.cntL ts
end
theorem AT.cntL_app:∀(a b:List AT),AT.cntL (a++b)=AT.cntL a+AT.cntL b
 | [],b=>by simp [AT.cntL]
 |t::a,b=>by rw[Rn,AT.cntL,AT.cntL,AT.cntL_app a b];omega
theorem AT.lvsL_app:∀(a b:List AT),AT.lvsL (a++b)=AT.lvsL a++AT.lvsL b
 | [],b=>by simp [AT.lvsL]
 |t::a,b=>by rw[Rn,AT.lvsL,AT.lvsL,AT.lvsL_app a b,P_]
def nt(xs:List Val)(x:Val):qJ.G (.lst (xs++[x])) []=some (.lst xs,x):=by show rQ (.lst (xs++[x])) []=_;unfold rQ;dsimp only;rw[z_,Rq,Nat.add_sub_cancel,O8 (o_ _),Qi,List.dropLast_concat];rfl
theorem AT.cnt_le:∀{ts:List AT}{t:AT},t∈ts->t.cnt<=AT.cntL ts
 | [],t,h=>nomatch h
 |
  u::ts,t,h=>by
  rw[AT.cntL];rcases H_.mp h with rfl |h
  .omega
  .have:=AT.cnt_le h;omega
def AT.lvs_le(h:t∈ts):t.lvs.length<=(AT.lvsL ts).length:=by rw[AT.lvsL_flat];exact List.Sublist.length_le (List.sublist_flatten_of_mem (List.mem_map_of_mem (f:=AT.lvs) h))
noncomputable def wtA(ws:List Int)(l:List Nat):Int:=(l.map λk=>ws.getD k 0).sum
noncomputable def wtT(ws:List Int)(t:AT):Int:=wtA ws t.lvs
mutual
def AT.bx(ws:List Int):AT->Bx->List (Nat×Bx)
 |.lf k,b=>[(k,b)]
 |.nd w ts,b=>AT.bxL ws ts (aA b (wy w) (ts.map (wtT ws)))
def AT.bxL(ws:List Int):List AT->List Bx->List (Nat×Bx)
 |t::ts,b::bs=>AT.bx ws t b++AT.bxL ws ts bs
 |_,_=>[]
end
mutual
def AT.lay(ws:List Int)(n m:Nat):AT->Bx->Prop
 |.lf _,_=>True
 |.nd w ts,b=>b.Ok/\b.Sz n/\ts≠[]/\ts.length<=40/\(∀t∈ts,1<=wtT ws t)/\Sm m (ts.map (wtT ws)).sum/\AT.layL ws n m ts (aA b (wy w) (ts.map (wtT ws)))
def AT.layL(ws:List Int)(n m:Nat):List AT->List Bx->Prop
 |t::ts,b::bs=>AT.lay ws n m t b/\AT.layL ws n m ts bs
 |_,_=>True
end
noncomputable def cJ(kvs:List (Key×Val))(l:List (Nat×Bx)):List (Key×Val):=l.foldl (λkvs p=>cS kvs (.inl (p.1:Nat)) (bV p.2)) kvs
def CS(kvs:List (Key×Val))(a b:List (Nat×Bx)):cJ kvs (a++b)=cJ (cJ kvs a) b:=by unfold cJ;rw[List.foldl_append]
def CV(h:a.Perm b):wtA ws a=wtA ws b:=by
 unfold wtA;induction h with
 |nil=>rfl
 |cons x _ ih=>rw[s_,s_,Pe,Pe,ih]
 |swap x y l=>simp only[s_,Pe];omega
 |trans _ _ h1 h2=>rw[h1,h2]
theorem rZ(ws:List Int):∀ts:List AT,wtA ws (AT.lvsL ts)=(ts.map (wtT ws)).sum
 | []=>rfl
 |
  t::ts=>by
  rw[AT.lvsL,s_,Pe,<- rZ ws ts];unfold wtT wtA;rw[Pf,List.sum_append]
def Ca(kvs:List (Key×Val))(k:Key)(v:Val):(cS kvs k v).length<=kvs.length+1:=by
 unfold cS;split
 .rw[k_];omega
 .rw[z_];exact o_ _
theorem tS:∀(l:List (Nat×Bx)) (kvs:List (Key×Val)),(cJ kvs l).length<=kvs.length+l.length
 | [],kvs=>o_ _
 |
  p::l,kvs=>by
  have h1:=Ca kvs (.inl (p.1:Nat)) (bV p.2);have h2:=tS l (cS kvs (.inl (p.1:Nat)) (bV p.2));unfold cJ at h2 ⊢;rw[List.foldl_cons,B_];omega
def AT.bx_fst(ws:List Int)(t:AT):∀b,(AT.bx ws t b).length<=t.lvs.length/\∀p∈AT.bx ws t b,p.1∈t.lvs:=by
 induction t using AT.ind with
 |h1 k=>intro b;simp [AT.bx,AT.lvs]
 |
  h2 w ts ih=>
  intro b;rw[AT.bx,AT.lvs];generalize aA b (wy w) (ts.map (wtT ws))=bs;induction ts generalizing bs with
  |nil=>simp [AT.bxL]
  |
   cons t ts ih2=>
   cases bs with
   |nil=>simp [AT.bxL]
   |
    cons b bs=>
    obtain⟨h1,h2⟩:=ih t (n_ ..) b;obtain⟨h3,h4⟩:=ih2 (λu hu=>ih u (m_ _ hu)) bs;rw[AT.bxL,AT.lvsL,z_,z_];refine⟨by omega,λp hp=>?_⟩;rcases Qo.mp hp with hp |hp
    .exact RC _ (h2 p hp)
    .exact Pb _ (h4 p hp)
def zH(kvs:List (Key×Val))(k k':Key)(v:Val):lkD (cS kvs k v) k'=if k=k' then some v else lkD kvs k':=by
 unfold cS;induction kvs with
 |
  nil=>
  rw[if_neg (by simp)];unfold lkD;by_cases h:k=k'
  .simp [h]
  .simp [h]
 |
  cons p kvs ih=>
  obtain⟨pk,pv⟩:=p;by_cases hp:pk=k
  .subst
    hp
   rw[if_pos (by simp)];by_cases h:pk=k'
   .subst h;simp [lkD]
   .rw[if_neg h];rw[if_neg h] at ih;simp only[s_,Qu];unfold lkD;simp only[Pl,w_ h];by_cases ha:(kvs.any λkv=>decide (kv.1=pk))=true
    .rw[if_pos ha] at ih;unfold lkD at ih;exact ih
    .have:(kvs.map λkv=>if kv.1=pk then (kv.1,v) else kv)=kvs:=by
      conv=>rhs;rw[<- List.map_id kvs]
      refine Qd λq hq=>?_;rw[if_neg]
      .rfl
      .intro z;exact ha (QL.mpr ⟨q,hq,A_ z⟩)
     rw[this]
  .by_cases ha:(kvs.any λkv=>decide (kv.1=k))=true
   .rw[if_pos ha] at ih;rw[if_pos (by rw[PR,ha,Bool.or_true])];simp only[s_,if_neg hp];by_cases h:pk=k'
    .subst h;rw[if_neg (λz=>hp z.symm)];simp [lkD]
    .unfold lkD at ih ⊢;simp only[Pl,w_ h];exact ih
   .rw[if_neg ha] at ih;rw[if_neg (by rw[PR,w_ hp,Bool.false_or];exact ha)];rw[Rn];by_cases h:pk=k'
    .subst h;rw[if_neg (λz=>hp z.symm)];simp [lkD]
    .unfold lkD at ih ⊢;simp only[Pl,w_ h];exact ih
noncomputable def bxO(l:List (Nat×Bx))(k:Nat):Bx:=((l.find? λp=>p.1==k).map (·.2)).getD ⟨0,0,0,0⟩
theorem vH:∀(l:List (Nat×Bx)) (kvs:List (Key×Val)),(l.map (·.1)).Nodup->(k∈l.map (·.1)->lkD (cJ kvs l) (.inl (k:Nat))=some (bV (bxO l k)))/\(k∉l.map (·.1)->lkD (cJ kvs l) (.inl (k:Nat))=lkD kvs (.inl (k:Nat)))
 | [],kvs,_=>⟨(λh=>nomatch h),λ_=>rfl⟩
 |
  p::l,kvs,nd=>by
  rw[s_,QC] at nd;obtain⟨h1,h2⟩:=vH (k:=k) l (cS kvs (.inl (p.1:Nat)) (bV p.2)) nd.2;have e:cJ kvs (p::l)=cJ (cS kvs (.inl (p.1:Nat)) (bV p.2)) l:=rfl;rw[e];by_cases hp:p.1=k
  .have hk:k∉l.map (·.1):=hp ▸ nd.1;rw[h2 hk,zH,if_pos (by rw[hp])];refine⟨λ_=>?_,λz=>absurd (by rw[s_,hp];exact n_ ..) z⟩;unfold bxO;rw[Pl];simp [hp]
  .have hk:k∈(p::l).map (·.1) ↔ k∈l.map (·.1):=by rw[s_,H_];exact⟨λz=>z.resolve_left (λy=>hp y.symm),.inr⟩
   have hb:bxO (p::l) k=bxO l k:=by unfold bxO;rw[List.find?_cons_of_neg (by simpa using hp)]
   rw[hk,hb];refine⟨h1,λz=>?_⟩;rw[h2 z,zH,if_neg];intro y;injection y with y;exact hp (Int.ofNat.inj y)
def zE(b:Bx)(way:Str)(ws:List Int):(aA b way ws).length=ws.length:=by unfold aA;split <;> rw[k_,iO]
def AT.bx_keys(ws:List Int)(t:AT):∀b,(AT.bx ws t b).map (·.1)=t.lvs:=by
 induction t using AT.ind with
 |h1 k=>intro b;rw[AT.bx,AT.lvs];rfl
 |
  h2 w ts ih=>
  intro b;rw[AT.bx,AT.lvs];have hl:(aA b (wy w) (ts.map (wtT ws))).length=ts.length:=by rw[zE,k_]
  generalize aA b (wy w) (ts.map (wtT ws))=bs at *;induction ts generalizing bs with
  |nil=>cases bs <;> rfl
  |
   cons t ts ih2=>
   cases bs with
   |nil=>exact nomatch hl
   |cons b bs=>rw[AT.bxL,AT.lvsL,Pf,ih t (n_ ..) b,ih2 (λu hu=>ih u (m_ _ hu)) bs (by simpa using hl)]
def AT.cnt_lvs(t:AT)(h:t.ok=true):t.cnt+1<=2*t.lvs.length:=by
 induction t using AT.ind with
 |h1 k=>simp [AT.cnt,AT.lvs]
 |
  h2 w ts ih=>
  rw[AT.ok,r_] at h;have hk:=AT.okL_mem.mp h.2;have h2:2<=ts.length:=Qs h.1;rw[AT.cnt,AT.lvs];have:∀ts:List AT,(∀t∈ts,t.cnt+1<=2*t.lvs.length)->AT.cntL ts+ts.length<=2*(AT.lvsL ts).length:=by
   intro ts;induction ts with
   |nil=>intro _;simp [AT.cntL,AT.lvsL]
   |cons t ts ih=>intro h;have h1:=h t (n_ ..);have h2:=ih λu hu=>h u (m_ _ hu);rw[AT.cntL,AT.lvsL,z_,B_];omega
  have:=this ts λt ht=>ih t ht (hk t ht)
  omega
structure Rp(D A B:Nat)(b:Bx):Prop where
 pos:0<D
 l:∃z:Int,b.l=(z:Rat)/((D:Int):Rat)/\z.natAbs<=A*D
 t:∃z:Int,b.t=(z:Rat)/((D:Int):Rat)/\z.natAbs<=A*D
 w:∃z:Int,b.w=(z:Rat)/((D:Int):Rat)/\0<z/\z<=B*D
 h:∃z:Int,b.h=(z:Rat)/((D:Int):Rat)/\0<z/\z<=B*D
def MB(x y a D W:Rat)(h1:D≠0)(h2:W≠0):x/D+(y/D)*(a/W)=(x*W+y*a)/(D*W):=by grind
def N7(y a D W:Rat)(h1:D≠0)(h2:W≠0):(y/D)*(a/W)=(y*a)/(D*W):=by grind
def NR(y D W:Rat)(h1:D≠0)(h2:W≠0):y/D=(y*W)/(D*W):=by grind
def kF{z:Int}(h:z≠0):(z:Rat)≠0:=λe=>h (Rat.intCast_inj.mp e)
def D8{x y a W:Int}{D A B:Nat}(hD:0<D)(hx:x.natAbs<=A*D)(hy:0<y/\y<=B*D)(ha:0<=a/\a<=W)(hW:0<W):∃z:Int,(x:Rat)/((D:Int):Rat)+((y:Rat)/((D:Int):Rat))*((a:Rat)/(W:Rat))=(z:Rat)/(((D*W.toNat:Nat):Int):Rat)/\z.natAbs<=(A+B)*(D*W.toNat):=by
 obtain⟨V,rfl⟩:∃V:Nat,W=V:=⟨W.toNat,by omega⟩;refine⟨x*V+y*a,?_,?_⟩
 .rw[MB _ _ _ _ _ (kF (by omega)) (kF (by omega))];congr 1
  .rw[Rat.intCast_add,Pp,Pp]
  .rw[Pu,Qm,Pp]
 .rw[Pu];have h1:(x*(V:Int)).natAbs<=A*D*V:=by rw[PJ];exact Pm hx (o_ _)
  have h2:(y*a).natAbs<=B*D*V:=by
   rw[PJ];refine Pm ?_ (by omega)
   have:=hy.2
   omega
  have h3:=Int.natAbs_add_le (x*V) (y*a);rw[Nat.add_mul,<- Ri,<- Ri];omega
def D9{y a W:Int}{D B:Nat}(hD:0<D)(hy:0<y/\y<=B*D)(ha:1<=a/\a<=W):∃z:Int,((y:Rat)/((D:Int):Rat))*((a:Rat)/(W:Rat))=(z:Rat)/(((D*W.toNat:Nat):Int):Rat)/\0<z/\z<=((B:Nat):Int)*((D*W.toNat:Nat):Int):=by
 obtain⟨V,rfl⟩:∃V:Nat,W=V:=⟨W.toNat,by omega⟩;refine⟨y*a,?_,Rb hy.1 (by omega),?_⟩
 .rw[N7 _ _ _ _ (kF (by omega)) (kF (by omega))];congr 1
  .rw[Pp]
  .rw[Pu,Qm,Pp]
 .rw[Pu,Qm,<- PQ];exact Int.mul_le_mul hy.2 ha.2 (by omega) (Int.le_trans (Int.le_of_lt hy.1) hy.2)
def mI{y W:Int}{D:Nat}(hD:0<D)(hW:0<W):(y:Rat)/((D:Int):Rat)=((y*W:Int):Rat)/(((D*W.toNat:Nat):Int):Rat):=by obtain⟨V,rfl⟩:∃V:Nat,W=V:=⟨W.toNat,by omega⟩;rw[NR _ _ _ (kF (show ((D:Nat):Int)≠0 by omega)) (kF (show ((V:Nat):Int)≠0 by omega)),Pp,Pu,Qm,Pp]
def zo{z W:Int}{D A B:Nat}(hz:z.natAbs<=A*D)(hW:0<W):(z*W).natAbs<=(A+B)*(D*W.toNat):=by rw[PJ,<- Ri];refine Pm ?_ (by omega);rw[Nat.add_mul];omega
def y0{z W:Int}{D B:Nat}(hz:0<z/\z<=B*D)(hW:0<W):0<z*W/\z*W<=((B:Nat):Int)*((D*W.toNat:Nat):Int):=by refine⟨Rb hz.1 hW,?_⟩;rw[Qm,<- PQ,Int.toNat_of_nonneg (by omega)];exact Int.mul_le_mul_of_nonneg_right hz.2 (by omega)
def Rp.parts{D A B:Nat}{b b':Bx}{way:Str}{ws:List Int}(r:Rp D A B b)(hw:∀w∈ws,1<=w)(h:b'∈aA b way ws):Rp (D*ws.sum.toNat) (A+B) B b':=by
 obtain⟨pos,⟨zl,el,bl⟩,⟨zt,et,bt⟩,⟨zw,ew,bw⟩,⟨zh,eh,bh⟩⟩:=r;have key:∀p:Rat×Rat,∀s l:Rat,p∈shL s l ws.sum 0 ws->0<ws.sum/\∃a' w:Int,0<=a'/\a'<=ws.sum/\1<=w/\w<=ws.sum/\p=(s+l*((a':Rat)/(ws.sum:Rat)),l*((w:Rat)/(ws.sum:Rat))):=λp s l hp=>by obtain⟨a',w,h1,h2,h3,h4,h5⟩:=vT ws 0 (by omega) hw (by omega) hp;exact⟨by omega,a',w,h1,h2,h3,h4,h5⟩
 unfold aA at h;split at h
 .obtain⟨p,hp,rfl⟩:=PH.mp h;obtain⟨hS,a',w,h1,h2,h3,h4,rfl⟩:=key p _ _ hp;have hV:0<D*ws.sum.toNat:=P7 pos (by omega);refine⟨hV,?_,⟨zt*ws.sum,by show b.t=_;rw[et];exact mI pos hS,zo bt hS⟩,?_,⟨zh*ws.sum,by show b.h=_;rw[eh];exact mI pos hS,y0 bh hS⟩⟩
  .show ∃z:Int,b.l+b.w*_=_/\_;rw[el,ew];exact D8 pos bl bw ⟨h1,h2⟩ hS
  .show ∃z:Int,b.w*_=_/\_;rw[ew];exact D9 pos bw ⟨h3,h4⟩
 .obtain⟨p,hp,rfl⟩:=PH.mp h;obtain⟨hS,a',w,h1,h2,h3,h4,rfl⟩:=key p _ _ hp;have hV:0<D*ws.sum.toNat:=P7 pos (by omega);refine⟨hV,⟨zl*ws.sum,by show b.l=_;rw[el];exact mI pos hS,zo bl hS⟩,?_,⟨zw*ws.sum,by show b.w=_;rw[ew];exact mI pos hS,y0 bw hS⟩,?_⟩
  .show ∃z:Int,b.t+b.h*_=_/\_;rw[et,eh];exact D8 pos bt bh ⟨h1,h2⟩ hS
  .show ∃z:Int,b.h*_=_/\_;rw[eh];exact D9 pos bh ⟨h3,h4⟩
def Rp.ok{D A B:Nat}{b:Bx}(r:Rp D A B b):b.Ok:=by obtain⟨pos,_,_,⟨zw,ew,bw⟩,⟨zh,eh,bh⟩⟩:=r;exact⟨by rw[ew];exact gL bw.1 (by omega),by rw[eh];exact gL bh.1 (by omega)⟩
def Rp.sz{D A B n:Nat}{b:Bx}(r:Rp D A B b)(hA:A*D<2^n)(hB:B*D<2^n)(hD:D<2^n):b.Sz n:=by
 obtain⟨pos,⟨zl,el,bl⟩,⟨zt,et,bt⟩,⟨zw,ew,bw⟩,⟨zh,eh,bh⟩⟩:=r;have sD:Sm n ((D:Nat):Int):=by show ((D:Nat):Int).natAbs<2^n;omega
 have k:∀z:Int,z.natAbs<2^n->Sz n ((z:Rat)/((D:Int):Rat)):=λz hz=>Sz.div (by omega) hz sD n (o_ _) (o_ _);have hb:∀z:Int,0<z/\z<=B*D->z.natAbs<2^n:=λz hz=>by
  have h1:z<=((B*D:Nat):Int):=by rw[Qm];exact hz.2
  omega
 exact⟨by rw[el];exact k zl (by omega),by rw[et];exact k zt (by omega),by rw[ew];exact k zw (hb zw bw),by rw[eh];exact k zh (hb zh bh)⟩
theorem nV{ws:List Int}:∀{l:List Nat},(∀k∈l,1<=ws.getD k 0)->(l.length:Int)<=wtA ws l
 | [],_=>by simp [wtA]
 |
  k::l,h=>by
  have h1:=h k (n_ ..);have h2:=nV (l:=l) λj hj=>h j (m_ _ hj);unfold wtA at h2 ⊢;rw[s_,Pe,B_];omega
theorem vG{ws:List Int}{n m:Nat}:∀{ts:List AT}{bs:List Bx},(∀t∈ts,∀b∈bs,AT.lay ws n m t b)->AT.layL ws n m ts bs
 | [],_,_=>by rw[AT.layL];trivial;intro t ts b bs z;cases z
 |t::ts,[],_=>by rw[AT.layL];trivial;intro t ts b bs _ z;cases z
 |
  t::ts,b::bs,h=>by
  rw[AT.layL];exact⟨h t (n_ ..) b (n_ ..),vG λu hu c hc=>h u (m_ _ hu) c (m_ _ hc)⟩
def LJ{ws:List Int}{n m B:Nat}(t:AT):∀(b:Bx) (D A:Nat),Rp D A B b->B<=A->1<=A->(A+t.dep*B)*(D*2^(m*t.dep))<2^n->t.ok=true->(∀k∈t.lvs,1<=ws.getD k 0)->wtT ws t<2^m->t.lvs.length<=40->AT.lay ws n m t b:=by
 induction t using AT.ind with
 |h1 k=>intros;rw[AT.lay];trivial
 |
  h2 w ts ih=>
  intro b D A r hBA hA hn ho hw hm hl;have ho':=ho;rw[AT.ok,r_] at ho';have h2:2<=ts.length:=Qs ho'.1;have hk:=AT.okL_mem.mp ho'.2;rw[AT.lvs] at hw hl;have hws:∀t∈ts,∀k∈t.lvs,1<=ws.getD k 0:=λt ht k hk'=>hw k (AT.lvsL_mem.mpr ⟨t,ht,hk'⟩);have hone:∀t∈ts,1<=wtT ws t:=λt ht=>by have h1:=vd (hk t ht);have h2:=nV (hws t ht);unfold wtT;omega
  have hsum:wtT ws (.nd w ts)=(ts.map (wtT ws)).sum:=by unfold wtT;rw[AT.lvs];exact rZ ws ts
  rw[hsum] at hm;have hpos:0<=(ts.map (wtT ws)).sum:=by
   rw[<- rZ]
   have:=nV hw
   omega
  rw[AT.dep] at hn;generalize hq:AT.depL ts=q at *;have hD1:1<=2^(m*(q+1)):=Nat.one_le_two_pow;have hAle:A*D<=(A+(q+1)*B)*(D*2^(m*(q+1))):=Pm (by omega) (Nat.le_mul_of_pos_right _ hD1);have hDle:D<=A*D:=Rf _ hA;have hBle:B*D<=A*D:=PV _ hBA;have tl:ts.length<=40:=by rw[AT.lvsL_flat] at hl;have:ts.length<=((ts.map AT.lvs).flatten).length:=sT λt ht=>vd (hk t ht);omega
  rw[AT.lay];refine⟨r.ok,r.sz (by omega) (by omega) (by omega),λz=>by rw[z] at h2;simp at h2,tl,hone,by
   show (ts.map (wtT ws)).sum.natAbs<2^m;have:(((ts.map (wtT ws)).sum.natAbs:Nat):Int)<((2^m:Nat):Int):=by
    rw[Int.natAbs_of_nonneg hpos]
    push_cast
    exact hm
   omega,vG λt ht c hc=>?_⟩
  have rp:=r.parts (λx hx=>by obtain⟨u,hu,rfl⟩:=PH.mp hx;exact hone u hu) hc;have hdt:t.dep<=q:=by rw[<- hq];exact AT.depL_le.mp (o_ _) t ht
  have hS:(ts.map (wtT ws)).sum.toNat<=2^m:=by
   have:(((ts.map (wtT ws)).sum.toNat:Nat):Int)<((2^m:Nat):Int):=by
    rw[Int.toNat_of_nonneg hpos]
    push_cast
    exact hm
   omega
  refine ih t ht c _ (A+B) rp (by omega) (by omega) ?_ (hk t ht) (hws t ht) ?_ (by have:=AT.lvs_le ht;omega)
  .refine P5 (Pm ?_ ?_) hn
   .have:t.dep*B<=q*B:=PV _ hdt;rw[Nat.add_mul,Nat.one_mul];omega
   .rw[Ri];refine P0 _ ?_;have e:2^(m*(q+1))=2^m*2^(m*q):=by rw[<- Qg];congr 1;rw[Nat.mul_add,Nat.mul_one,Nat.add_comm]
    rw[e];exact Pm hS (PX (by decide) (P0 _ hdt))
  .refine Int.lt_of_le_of_lt ?_ hm;have aux:∀us:List AT,(∀u∈us,0<=wtT ws u)->t∈us->wtT ws t<=(us.map (wtT ws)).sum:=by
    intro us;induction us with
    |nil=>intro _ h;exact nomatch h
    |
     cons u us ih=>
     intro h0 hm;have nn:∀us:List AT,(∀u∈us,0<=wtT ws u)->0<=(us.map (wtT ws)).sum:=by
      intro us;induction us with
      |nil=>intro _;simp
      |cons v us ih=>intro h;rw[s_,Pe];have:=h v (n_ ..);have:=ih λu hu=>h u (m_ _ hu);omega
     rw[s_,Pe];rcases H_.mp hm with rfl |hm
     .have:=nn us λu hu=>h0 u (m_ _ hu)
      omega
     .have h1:=ih (λu hu=>h0 u (m_ _ hu)) hm;have h2:=h0 u (n_ ..);omega
   exact aux ts (λu hu=>by have:=hone u hu;omega) ht
noncomputable def cI(b:Bx)(w:Bool)(W a x:Int):Bx:=if w=true then ⟨b.l+b.w*((a:Rat)/(W:Rat)),b.t,b.w*((x:Rat)/(W:Rat)),b.h⟩ else ⟨b.l,b.t+b.h*((a:Rat)/(W:Rat)),b.w,b.h*((x:Rat)/(W:Rat))⟩
noncomputable def frm(b:Bx)(w:Bool)(W:Int):Int->List Int->List Bx
 |_,[]=>[]
 |a,x::xs=>cI b w W a x::frm b w W (a+x) xs
theorem vy(b:Bx)(w:Bool)(W:Int):∀(xs:List Int) (a:Int),(frm b w W a xs).length=xs.length
 | [],_=>rfl
 |x::xs,a=>by rw[frm,B_,B_,vy b w W xs]
def pq(b:Bx)(w:Bool)(xs:List Int):aA b (wy w) xs=frm b w xs.sum 0 xs:=by
 have key:∀(W:Int) (xs:List Int) (a:Int),(if wy w="across" then (shL b.l b.w W a xs).map λp=>(⟨p.1,b.t,p.2,b.h⟩:Bx) else (shL b.t b.h W a xs).map λp=>⟨b.l,p.1,b.w,p.2⟩)=frm b w W a xs:=by
  intro W xs;induction xs with
  |nil=>intro a;unfold shL frm;split <;> rfl
  |
   cons x xs ih=>
   intro a;rw[frm,<- ih,shL,shL];unfold cI;cases w with
   |true=>rw[if_pos (show wy true="across" from rfl),if_pos (show wy true="across" from rfl),if_pos rfl];rfl
   |
    false=>
    have hn:¬ (wy false="across"):=by decide
    rw[if_neg hn,if_neg hn,if_neg (by decide)];rfl
 exact key xs.sum xs 0
def vI(ws:List Int)(bs:List Bx):AT.bxL ws [] bs=[]:=by rw[AT.bxL];intro _ _ _ _ h;cases h
def M8(w:Bool):PyData.strOk (wy w)=true:=by cases w <;> decide +kernel
def EC{f:Nat->Val}(t:AT):∀d,t.dep<=d->(∀k∈t.lvs,wfV 0 (f k)=true)->wfV (2*d) (t.val f)=true:=by
 induction t using AT.ind with
 |h1 k=>intro d _ h;rw[AT.val];exact Hx (h k (by rw[AT.lvs];exact n_ ..)) (M_ _)
 |
  h2 w ts ih=>
  intro d hd h;rw[AT.dep] at hd;obtain⟨e,rfl⟩:∃e,d=e+1:=⟨d-1,by omega⟩;have hc:bT (2*e) (AT.vals f ts)=true:=by rw[AT.vals_map];refine kq λv hv=>?_;obtain⟨t,ht,rfl⟩:=PH.mp hv;exact ih t ht e (AT.depL_le.mp (show AT.depL ts<=e by omega) t ht) λk hk=>h k (by rw[AT.lvs];exact AT.lvsL_mem.mpr ⟨t,ht,hk⟩)
  rw[AT.val,show 2*(e+1)=2*e+1+1 from by omega];show (wfV (2*e+1) (.str (wy w))&&(bT (2*e) (AT.vals f ts)&&true))=true;rw[hc,show wfV (2*e+1) (.str (wy w))=true from M8 w];rfl
def F7{f:Nat->Val}(t:AT)(hd:t.dep<=60)(h:∀k∈t.lvs,wfV 0 (f k)=true):cB (t.val f) (t.val f)=some true:=by
 have:=EC (f:=f) t 60 hd h
 rw[Ag (by decide) this this,kx _ _ this]
mutual
def AT.ren(r:Nat->Nat):AT->AT
 |.lf k=>.lf (r k)
 |.nd w ts=>.nd w (AT.renL r ts)
def AT.renL(r:Nat->Nat):List AT->List AT
 | []=>[]
 |t::ts=>AT.ren r t::AT.renL r ts
end
theorem AT.renL_map(r:Nat->Nat):∀ts,AT.renL r ts=ts.map (AT.ren r)
 | []=>rfl
 |t::ts=>by rw[AT.renL,AT.renL_map r ts];rfl
def AT.ren_lvs(r:Nat->Nat)(t:AT):(t.ren r).lvs=t.lvs.map r:=by
 induction t using AT.ind with
 |h1 k=>rfl
 |h2 w ts ih=>rw[AT.ren,AT.lvs,AT.lvs,AT.lvsL_flat,AT.lvsL_flat,AT.renL_map,Pq,List.map_flatten,Pq];congr 1;exact Qd λt ht=>ih t ht
def Gw{r:Nat->Nat}{ws us:List Int}(t:AT)(h:∀k∈t.lvs,us.getD (r k) 0=ws.getD k 0):wtT us (t.ren r)=wtT ws t:=by unfold wtT wtA;rw[AT.ren_lvs,Pq];congr 1;exact Qd λk hk=>h k hk
noncomputable def rO(r:Nat->Nat)(p:Nat×Bx):Nat×Bx:=(r p.1,p.2)
def AT.ren_bx{r:Nat->Nat}{ws us:List Int}(t:AT):(∀k∈t.lvs,us.getD (r k) 0=ws.getD k 0)->∀b,AT.bx us (t.ren r) b=(AT.bx ws t b).map (rO r):=by
 induction t using AT.ind with
 |h1 k=>intro _ b;rfl
 |
  h2 w ts ih=>
  intro h b;rw[AT.ren,AT.bx,AT.bx,AT.renL_map,Pq];have e:ts.map (wtT us ∘ AT.ren r)=ts.map (wtT ws):=Qd λt ht=>Gw t λk hk=>h k (by rw[AT.lvs];exact AT.lvsL_mem.mpr ⟨t,ht,hk⟩);rw[e];have h':∀t∈ts,∀k∈t.lvs,us.getD (r k) 0=ws.getD k 0:=λt ht k hk=>h k (by rw[AT.lvs];exact AT.lvsL_mem.mpr ⟨t,ht,hk⟩);generalize aA b (wy w) (ts.map (wtT ws))=bs;clear e h;induction ts generalizing bs with
  |nil=>rw[O_,vI,vI];rfl
  |
   cons t ts ih2=>
   cases bs with
   |nil=>rfl
   |cons c bs=>rw[s_,AT.bxL,AT.bxL,Pf,ih t (n_ ..) (h' t (n_ ..)) c,ih2 (λu hu=>ih u (m_ _ hu)) (λu hu=>h' u (m_ _ hu)) bs]
theorem vn{r:Nat->Nat}{k:Nat}:∀{l:List (Nat×Bx)},(∀p∈l,r p.1=r k->p.1=k)->bxO (l.map (rO r)) (r k)=bxO l k
 | [],_=>rfl
 |
  p::l,h=>by
  have ih:=vn (k:=k) (l:=l) λq hq=>h q (m_ _ hq);unfold bxO at ih ⊢;rw[s_,Pl,Pl];by_cases e:p.1=k
  .rw[show ((rO r p).1==r k)=true from Pa.mpr (by rw[<- e];rfl),show (p.1==k)=true from Pa.mpr e];rfl
  .rw[show ((rO r p).1==r k)=false from D_.mpr λz=>e (h p (n_ ..) z),show (p.1==k)=false from D_.mpr e];exact ih
def jg{ws:List Int}{k:Nat}(h:k<ws.length):ws.reverse.getD (ws.length-1-k) 0=ws.getD k 0:=by rw[Em,Em,List.getElem?_reverse (by omega)];congr 2;omega
def CP{ws:List Int}(nd:∀i j,i<j->j<ws.length->ws.getD i 0≠ws.getD j 0):ax ws.reverse=(ax ws).map λk=>ws.length-1-k:=by
 have F:=bS ws;have lt:∀i∈ax ws,i<ws.length:=λi hi=>Pk.mp (F.perm.mem_iff.mp hi);refine (FallO.eq ⟨?_,?_⟩).symm
 .rw[Qc];have p1:=F.perm.map λk=>ws.length-1-k;refine p1.trans ?_;rw[show (List.range ws.length).map (λk=>ws.length-1-k)=(List.range ws.length).reverse from ?_]
  .exact List.reverse_perm _
  .refine List.ext_getElem (by simp) λi h1 h2=>?_;simp
 .rw[Q9,PK];intro i j hi hj hij;have h:=PK.mp F.up i j hi hj hij;have li:=lt _ (P4 hi);have lj:=lt _ (P4 hj);have ne:(ax ws)[i]≠(ax ws)[j]:=λz=>by rw[z,mh] at h;cases h
  have nw:ws.getD (ax ws)[i] 0≠ws.getD (ax ws)[j] 0:=by
   rcases Nat.lt_or_gt_of_ne ne with z |z
   .exact nd _ _ z lj
   .exact λy=>nd _ _ z li y.symm
  generalize (ax ws)[i]=x at *;generalize (ax ws)[j]=y at *;unfold ba kyF at h ⊢;rw[jg li,jg lj];rw[PN] at h ⊢;have h:-(ws.getD x 0) < -(ws.getD y 0)\/(-(ws.getD x 0)=-(ws.getD y 0)/\((x:Nat):Int)<(y:Nat)):=h;show -(ws.getD x 0) < -(ws.getD y 0)\/_;omega
noncomputable def thN(xs:List Int):Nat->Nat->Nat
 |0,k=>k
 |f+1,k=>if 3*(xs.take k).sum<xs.sum then thN xs f (k+1) else k
def third(xs:List Int):Nat:=thN xs (xs.length-1) 1
end L3
namespace KK
open PySem PySem.Spec PyProof.Rows L2 L3
def top(i:Nat):Stmt:=PySem.Challenge.pw_weightrooms_k19_rows_greatest_first.main.body.getD i (.Pass ⟨0,0,0,0⟩)
noncomputable def cu:jA:=[((.b "NoneType"),(.b "bool"),false),((.b "bool"),(.b "bool"),true),((.b "int"),(.b "bool"),false),((.b "str"),(.b "bool"),false),((.b "tuple"),(.b "bool"),false),((.b "list"),(.b "bool"),false),((.b "dict"),(.b "bool"),false),((.b "NoneType"),(.b "int"),false),((.b "bool"),(.b "int"),true),((.b "int"),(.b "int"),true),((.b "str"),(.b "int"),false),((.b "tuple"),(.b "int"),false),((.b "list"),(.b "int"),false),((.b "dict"),(.b "int"),false),((.b "NoneType"),(.b "list"),false),((.b "bool"),(.b "list"),false),((.b "int"),(.b "list"),false),((.b "str"),(.b "list"),false),((.b "tuple"),(.b "list"),false),((.b "list"),(.b "list"),true),((.b "dict"),(.b "list"),false),((.b "NoneType"),(.b "str"),false),((.b "bool"),(.b "str"),false),((.b "int"),(.b "str"),false),((.b "str"),(.b "str"),true),((.b "tuple"),(.b "str"),false),((.b "list"),(.b "str"),false),((.b "dict"),(.b "str"),false),((.b "NoneType"),(.b "tuple"),false),((.b "bool"),(.b "tuple"),false),((.b "int"),(.b "tuple"),false),((.b "str"),(.b "tuple"),false),((.b "tuple"),(.b "tuple"),true),((.b "list"),(.b "tuple"),false),((.b "dict"),(.b "tuple"),false)]
noncomputable def iU:D:=(.int 40)
noncomputable def vQ:D:=(.tup [(.str "across"),(.str "down"),(.str "halves"),(.str "rows"),(.str "greatest"),(.str "thirds")])
noncomputable def zT:D:=(.tup [(.str "across"),(.str "down")])
abbrev tb:Tb:=⟨["NoFraction", "NoBox", "NoWay", "NoWeights", "TooMany", "NoTree", "NoRule"],["NoFraction", "NoBox", "NoWay", "NoWeights", "TooMany", "NoTree", "NoRule"],[],cu,[("MOST_WEIGHTS",iU),("RULES",vQ),("WAYS",zT)]⟩
abbrev TT(K:W.Frag)(mg:Sa):Prop:=TyL tb top [10,11,12,13,14,15,16,17,18,22,23,24,25,26,27,28,29,30,31,32,33,35,36,37,38,39,40,41,43,44,45,46,47,48,49,52,53,54,55,56,57,62,63,64,65,66,67,68,69,70,71,72,73,74,75] K mg
section
variable{P:Program}{w:World}{K:W.Frag}{mg:Sa}{base:Heap}
def g6:PEx:=nq iU (.int 40) (λ_ _=>.int _)
def mF(e:E3):g6.G e=.ok (.val (.int 40)) e:=rfl
noncomputable def rF:PEx:=nq vQ (.tup [(.str "across"),(.str "down"),(.str "halves"),(.str "rows"),(.str "greatest"),(.str "thirds")]) (λ_ _=>.tup (.cons (.str _) (.cons (.str _) (.cons (.str _) (.cons (.str _) (.cons (.str _) (.cons (.str _) .nil)))))))
def Ba(e:E3):rF.G e=.ok (.val (.tup [(.str "across"),(.str "down"),(.str "halves"),(.str "rows"),(.str "greatest"),(.str "thirds")])) e:=rfl
noncomputable def wx:PEx:=nq zT (.tup [(.str "across"),(.str "down")]) (λ_ _=>.tup (.cons (.str _) (.cons (.str _) .nil)))
def Ga(e:E3):wx.G e=.ok (.val (.tup [(.str "across"),(.str "down")])) e:=rfl
def dI(s:String):Lean.TSyntax `term:=⟨Lean.mkIdent (s.replace "%" "").toName⟩
def dA(f:String)(a:Lean.TSyntax `term):Lean.TSyntax `term:=Lean.Syntax.mkApp (dI f) #[a]
def dF:List (Lean.TSyntax `tactic)->Lean.MacroM (Lean.TSyntax `tactic)
 | []=>`(tactic|fail)
 |a::l=>do `(tactic|first | $a:tactic | $(<- dF l):tactic)
def dL(f:String->Lean.MacroM (Lean.TSyntax `tactic)):List String->Lean.MacroM (List (Lean.TSyntax `tactic))
 | []=>pure []
 |s::l=>do return (<- f s)::(<- dL f l)
set_option hygiene false in
def dQ(ap:String->Lean.TSyntax `term)(s:String):Lean.MacroM (Lean.TSyntax `tactic):=match (s.splitOn ";").map ap with
 | [d,c,a,b]=>`(tactic|((case d=>with_reducible exact $d);(case c=>exact $c);(case a=>exact $a);(case b=>exact $b)))
 |d::c::_=>`(tactic|((case d=>with_reducible exact $d);(case c=>exact $c)))
 |_=>`(tactic|fail)
set_option hygiene false in
def dR(ap:String->Lean.TSyntax `term)(g:String):Lean.MacroM (Lean.TSyntax `tactic):=match g.splitOn ":" with
 | [r]=>`(tactic|refine $(ap r))
 |r::l=>do `(tactic|(refine' $(ap r);$(<- dF (<- dL (dQ ap) l)):tactic))
 | []=>`(tactic|fail)
set_option hygiene false in
local macro_rules | `('d')=>do
 let h <- `(?_)
 let u <- `(_)
 let R:=dI "rfl"
 let qA <- `(?a)
 let qB <- `(?b)
 let qC <- `(?c)
 let qD <- `(?d)
 let qp <- `((λ_ _=>rfl))
 let ap:=λ(s:String)=>let w:=s.splitOn " ";Lean.Syntax.mkApp (dI (w.getD 0 "")) (((w.getD 1 "").toList.map λc=>([('8',dI "hr.u180"),('A',qA),('B',qB),('C',qC),('D',qD),('K',dI "T.k"),('_',u),('b',dA "%boT" R),('f',dA "%boF" R),('g',dA "T.g" R),('k',dA "T.n" R),('m',dA "T.m" R),('n',dI "nd"),('o',dI "%own1"),('p',qp),('r',R),('t',dI "T"),('u',dA "%Ek" (dI "hr")),('v',dA "%Av" u),('x',dA "T.x" R),('z',dI "%rz1")].lookup c).getD h).toArray)
 let rd:=λ(s:String)=>dL (dR ap) (s.splitOn "|")
 let e0 <- `(tactic|refine zcF (by $(<- dF (<- rd "%ih|qZ t|rT t|uL t|qr t|se t|mC t|uZ t|qc t|sG t|j9 t|qu t|kZ t|j4 t_|sg t|jY t|mG t|yC t|qt t|p8 t|kX t|iq t|wM t|pU t|sZ t|AB t|yN t|ym t|mE t|uR t|rR t|ou t|qh t|ic t|A7 t|Ak t|l6 t|oI t|nj t|eB t_|k8 t|oz t|nu t|qg t|mL t|mr t|qb t|pZ t|uO t|oE t|qf t|sO t|nL t_|tM t|uH t")):tactic) hr ?_)
 `(by repeat' $(<- dF ((<- rd "%Av _|L4|HX|bP ??|ar ??|dC ?|zsS _n?|nJ ???|fk ?|zp ?|tf ?|jZ|M9|Gg|HR ?")++[e0]++(<- rd "%OI CD??:OP;ixK r|HM CD??:DQ;eqDK r8:Ew;DV:DM;DP:EA;DN:Mq;neDK r8:HL;Jv r:Lp;CB|gM CDrkf?:IT;NM r:I0;CO:G1;Ar r:Gx;As r:yV;oY rr:EU;uK:LQ K;Mp r|ML CD??:L7;Gu:Jp;J5 r:Ls;IA:K9;CK:IJ;IZ:Km;Ln:IF;Jw|zU CDrkb?:HN;Aq:C3;F4 r:GX;xx rr|JF CD??:Ew;DV:DQ;eqDK r8:DM;DP:Nu;inK r:EA;DN|LK rABCDv?:yO;zC;PySem.F.slot_list_append;PySem.F.type_list_append:xh;wO r;PySem.F.slot_list_extend;PySem.F.type_list_extend|GO rABCDv:Kr;Hv;PySem.F.slot_list_pop;PySem.F.type_list_pop|M0 CD?:Hi;Jo|Li n?CD:K0;K2|Gn ?v?CD:EJ;Ci:BH;BP u|ZG.weak ?|zt_w ?|Jz rv?|LY ??|Ol|vL u??p|Cc u??p|N4 rg|IH ?|Iy ?|LO r??|FR rkb|Bf r???|Om rkb|zgN _n|Ka rr?|Bn ??|EK|zN rk?|yX r?|JN rrk?|Fy|Gz ?|EY ??|Cr|Fj ?|LB or???|HH n?|B0 rzrmx?|GV|Dr o??|tJ ?|BB r?|JE ??|E5 ?|Oh ??|LX ?"))):tactic)
def m9:PSt:=
 (aj (xIf (qOf (pOp bEq (pFn bp (aa (af 0) ag)) (ah 0))) (aw (dG (aa (ah 0) (aa (ah 0) (aa (af 1) ag))))) xNx)
  (aw (dG (aa (pOp bIx (af 0) (pOp cp (af 1) (pFn bp (aa (af 0) ag)))) (aa (ah 0) (aa (af 1) ag))))))
def cZ:PFn:=fnP [false,false] 2 m9
def uY:cZ.ms=[false,false]:=rfl
def qZ(T:TT K mg):Callee P w K mg base "_law_feed" 1 ["_law_script", "_law_k"] (spD K mg 2 cZ.F):=aE (T.d.get 62 rfl) (au (N:=["_law_script", "_law_k"]) (by decide)) (λ_ _ _ _ _ _=>ar2 λ_ _=>rfl) λnd _ _ _ _ _ _ _ hr=>'d'
def nN:PSt:=
 (aj (rh 0 seL (ah 1) (pOp aU (pOp bIx (af 0) (ah 1)) (ah 1)))
  (aj (xIf (qOf (pOp bGe (pOp bIx (af 0) (ah 0)) (pOp f9 (ah 10) (ah 18)))) (aj (ao false 2 (pOp cp (pOp bIx (af 0) (ah 0)) (af 1)))
  (aj (rh 0 seL (ah 0) (pOp jb (pOp bIx (af 0) (ah 0)) (af 1)))
  (aw (af 2)))) xNx)
  (aj (ao false 3 (pOp aU (pOp aU (pOp cp (pOp bIx (af 0) (ah 0)) (ah 1000003)) (pOp aD (ah 7919) (pOp bIx (af 0) (ah 2)))) (pOp aD (ah 104729) (pOp bIx (af 0) (ah 1)))))
  (aj (ao false 3 (pOp cp (pOp aD (af 3) (ah 48271)) (ah 2147483647)))
  (aw (pOp cp (pOp cp (pOp aD (af 3) (pOp aU (pOp cp (af 3) (ah 65521)) (pOp bIx (af 0) (ah 1)))) (ah 2147483629)) (af 1)))))))
def aq:PFn:=fnP [true,false] 4 nN
def u9:aq.ms=[true,false]:=rfl
def rT(T:TT K mg):Callee P w K mg base "_law_next" 1 ["_law_feed_here", "_law_many"] (spD K mg 2 aq.F):=aE (T.d.get 63 rfl) (au (N:=["_law_feed_here", "_law_many", "_law_digit", "_law_mixed"]) (by decide)) (λ_ _ _ _ _ _=>ar2 λ_ _=>rfl) λnd _ _ _ _ _ _ _ hr=>'d'
def gk:PSt:=
 (fE 2 3 (aa (af 3) (aa (pOp cp (af 2) (af 3)) ag)))
def o9:PSt:=
 (aj (fE 2 3 (aa (pFn fQ (aa (af 0) ag)) (aa (pFn fQ (aa (af 1) ag)) ag)))
  (aj (xWh (qOf (pOp bGt (af 3) (ah 0))) (gk))
  (aj (xIf (qOf (pOp bLt (af 1) (ah 0))) (ao false 2 (pOp eR (ah 0) (af 2))) xNx)
  (aw (br (aa (pOp jb (af 0) (af 2)) (aa (pOp jb (af 1) (af 2)) ag)))))))
def aP:PFn:=fnP [false,false] 4 o9
def w9:aP.ms=[false,false]:=rfl
def uL(T:TT K mg):Callee P w K mg base "_law_low" 1 ["_law_top", "_law_bottom"] (spD K mg 2 aP.F):=aE (T.d.get 65 rfl) (au (N:=["_law_top", "_law_bottom", "_law_one", "_law_two"]) (by decide)) (λ_ _ _ _ _ _=>ar2 λ_ _=>rfl) λnd _ _ _ _ _ _ _ hr=>'d'
def j3:PSt:=
 (ao false 2 (pOp aU (pOp aD (af 2) (pOp f9 (ah 10) (ah 6))) (ai aq (aa (af 0) (aa (pOp f9 (ah 10) (ah 6)) ag)))))
def lJ:PSt:=
 (aj (ao false 2 (ah 0))
  (aj (je (kR (aa (ah 6) ag)) (gtN 3) (j3))
  (aw (pOp eR (pOp cp (af 2) (pOp aU (pOp aD (ah 2) (af 1)) (ah 1))) (af 1)))))
def bz:PFn:=fnP [true,false] 4 lJ
def tQ:bz.ms=[true,false]:=rfl
def qr(T:TT K mg):Callee P w K mg base "_law_great" 2 ["_law_feed_here", "_law_far"] (spD K mg 2 bz.F):=aE (T.d.get 64 rfl) (au (N:=["_law_feed_here", "_law_far", "_law_number", "_law_k"]) (by decide)) (λ_ _ _ _ _ _=>ar2 λ_ _=>rfl) λnd _ _ _ _ _ _ _ hr=>'d'
def jr:PSt:=
 (aj (ao false 1 (ai aq (aa (af 0) (aa (ah 6) ag))))
  (aj (fE 2 3 (aa (br (aa (pOp eR (ai aq (aa (af 0) (aa (ah 19) ag))) (ah 9)) (aa (ah 1) ag))) (aa (br (aa (pOp eR (ai aq (aa (af 0) (aa (ah 19) ag))) (ah 9)) (aa (ah 1) ag))) ag)))
  (aj (fE 4 5 (aa (br (aa (pOp aU (ah 1) (ai aq (aa (af 0) (aa (ah 12) ag)))) (aa (ah 1) ag))) (aa (br (aa (pOp aU (ah 1) (ai aq (aa (af 0) (aa (ah 12) ag)))) (aa (ah 1) ag))) ag)))
  (aj (xIf (qOf (pOp bEq (af 1) (ah 1))) (ao false 5 (af 4)) xNx)
  (aj (xIf (qOf (pOp bEq (af 1) (ah 2))) (ao false 4 (br (aa (pOp aU (ah 1) (ai aq (aa (af 0) (aa (ah 99) ag)))) (aa (ah 1) ag)))) xNx)
  (aj (xIf (qOf (pOp bEq (af 1) (ah 3))) (ao false 5 (br (aa (pOp aU (ah 1) (ai aq (aa (af 0) (aa (ah 99) ag)))) (aa (ah 1) ag)))) xNx)
  (aj (xIf (qOf (pOp bEq (af 1) (ah 4))) (aj (fE 2 3 (aa (ai aP (aa (pOp eR (ai aq (aa (af 0) (aa (ah 199) ag))) (ah 99)) (aa (pOp aU (ah 1) (ai aq (aa (af 0) (aa (ah 30) ag)))) ag))) (aa (ai aP (aa (ai aq (aa (af 0) (aa (ah 9) ag))) (aa (ah 7) ag))) ag)))
  (fE 4 5 (aa (ai aP (aa (pOp aU (ah 1) (ai aq (aa (af 0) (aa (ah 99) ag)))) (aa (pOp aU (ah 1) (ai aq (aa (af 0) (aa (ah 30) ag)))) ag))) (aa (ai aP (aa (pOp aU (ah 1) (ai aq (aa (af 0) (aa (ah 99) ag)))) (aa (ah 11) ag))) ag)))) xNx)
  (aj (xIf (qOf (pOp bEq (af 1) (ah 5))) (aj (ao false 6 (pOp eR (pOp f9 (ah 10) (ah 30)) (ah 1)))
  (aj (fE 2 3 (aa (ai aP (aa (ai bz (aa (af 0) (aa (af 6) ag))) (aa (pOp aU (ah 1) (pFn fQ (aa (ai bz (aa (af 0) (aa (pOp eR (af 6) (ah 1)) ag))) ag))) ag))) (aa (br (aa (ai bz (aa (af 0) (aa (af 6) ag))) (aa (ah 1) ag))) ag)))
  (fE 4 5 (aa (br (aa (pOp aU (ah 1) (pFn fQ (aa (ai bz (aa (af 0) (aa (pOp eR (af 6) (ah 1)) ag))) ag))) (aa (ah 1) ag))) (aa (ai aP (aa (pOp aU (ah 1) (pFn fQ (aa (ai bz (aa (af 0) (aa (pOp eR (af 6) (ah 1)) ag))) ag))) (aa (af 6) ag))) ag))))) xNx)
  (aw (br (aa (af 2) (aa (af 3) (aa (af 4) (aa (af 5) ag))))))))))))))
def ff:PFn:=fnP [true] 7 jr
def uW:ff.ms=[true]:=rfl
def se(T:TT K mg):Callee P w K mg base "_law_room" 3 ["_law_feed_here"] (spD K mg 1 ff.F):=aE (T.d.get 66 rfl) (au (N:=["_law_feed_here", "_law_way", "_law_left", "_law_top", "_law_wide", "_law_high", "_law_far"]) (by decide)) (λ_ _ _ _ _ _=>ar1 λ_=>rfl) λnd _ _ _ _ _ _ _ hr=>'d'
def d7:PSt:=
 (aj (ao true 3 (ai cZ (aa (af 0) (aa (pOp aU (pOp aU (af 1) (ah 1)) (af 8)) ag))))
  (aj (ao false 9 (pOp bIx (dG (aa (ah 1) (aa (pOp aU (ah 1) (ai aq (aa (af 3) (aa (ah 9) ag)))) (aa (pOp tE (ah 1) (pOp cp (af 8) (ah 24))) (aa (pOp aU (ah 1) (ai aq (aa (af 3) (aa (ah 9) ag)))) (aa (ah 1) (aa (pOp aU (ah 1) (ai aq (aa (af 3) (aa (ah 3) ag)))) ag))))))) (af 6)))
  (aj (xIf (qAn (qOf (pOp bEq (af 6) (ah 3))) (qOf (pOp bEq (ai aq (aa (af 3) (aa (ah 4) ag))) (ah 0)))) (ao false 9 (pOp aU (pOp f9 (ah 10) (ah 29)) (ai aq (aa (af 3) (aa (ah 100) ag))))) xNx)
  (aj (xIf (qOf (pOp bEq (af 6) (ah 4))) (ao false 9 (pOp aU (ah 1) (pFn fQ (aa (ai bz (aa (af 3) (aa (pOp eR (pOp f9 (ah 10) (ah 30)) (ah 2)) ag))) ag)))) xNx)
  (bE (i9 7 eP (aa (af 9) ag)))))))
def gh:PSt:=
 (aj (ao true 3 (ai cZ (aa (af 0) (aa (af 1) ag))))
  (aj (ao false 4 (pOp aU (ah 1) (ai aq (aa (af 3) (aa (pFn rS (aa (af 2) (aa (ah 7) ag))) ag)))))
  (aj (ao false 5 (ai aq (aa (af 3) (aa (ah 6) ag))))
  (aj (xIf (qOf (pOp bLt (af 5) (ah 2))) (ao false 4 (pOp bIx (dG (aa (af 2) (aa (pFn rN (aa (ah 1) (aa (pOp jb (pOp aD (af 4) (af 2)) (ah 8)) ag))) ag))) (af 5))) xNx)
  (aj (ao false 6 (ai aq (aa (af 3) (aa (ah 6) ag))))
  (aj (xIf (qOf (pOp bGt (af 4) (ah 9))) (ao false 6 (pOp cp (af 6) (ah 3))) xNx)
  (aj (ao true 7 (dG ag))
  (aj (je (kR (aa (af 4) ag)) (gtN 8) (d7))
  (aw (af 7))))))))))
def de:PFn:=fnP [false,false,false] 10 gh
def oP:de.ms=[false,false,false]:=rfl
def mC(T:TT K mg):Callee P w K mg base "_law_weights" 3 ["_law_script", "_law_at", "_law_most_here"] (spD K mg 3 de.F):=aE (T.d.get 67 rfl) (au (N:=["_law_script", "_law_at", "_law_most_here", "_law_feed_here", "_law_many", "_law_more", "_law_style", "_law_some", "_law_k", "_law_weight"]) (by decide)) (λ_ _ _ _ _ _=>ar3 λ_ _ _=>rfl) λnd _ _ _ _ _ _ _ hr=>'d'
def ph:PSt:=
 (aw (ai aP (aa (pOp aU (pOp aD (pOp bIx (af 0) (ah 0)) (pOp bIx (af 1) (ah 1))) (pOp aD (pOp bIx (af 1) (ah 0)) (pOp bIx (af 0) (ah 1)))) (aa (pOp aD (pOp bIx (af 0) (ah 1)) (pOp bIx (af 1) (ah 1))) ag))))
def eW:PFn:=fnP [false,false] 2 ph
def xO:eW.ms=[false,false]:=rfl
def uZ(T:TT K mg):Callee P w K mg base "_law_add" 2 ["_law_one", "_law_two"] (spD K mg 2 eW.F):=aE (T.d.get 68 rfl) (au (N:=["_law_one", "_law_two"]) (by decide)) (λ_ _ _ _ _ _=>ar2 λ_ _=>rfl) λnd _ _ _ _ _ _ _ hr=>'d'
def cR:PSt:=
 (aj (xIf (qOf (pOp bEq (af 1) (bc "across"))) (aj (ao false 11 (ai eW (aa (af 3) (aa (ai aP (aa (pOp aD (pOp bIx (af 5) (ah 0)) (af 9)) (aa (pOp aD (pOp bIx (af 5) (ah 1)) (af 7)) ag))) ag))))
  (bE (i9 8 eP (aa (br (aa (af 11) (aa (af 4) (aa (ai aP (aa (pOp aD (pOp bIx (af 5) (ah 0)) (af 10)) (aa (pOp aD (pOp bIx (af 5) (ah 1)) (af 7)) ag))) (aa (af 6) ag))))) ag)))) (aj (ao false 11 (ai eW (aa (af 4) (aa (ai aP (aa (pOp aD (pOp bIx (af 6) (ah 0)) (af 9)) (aa (pOp aD (pOp bIx (af 6) (ah 1)) (af 7)) ag))) ag))))
  (bE (i9 8 eP (aa (br (aa (af 3) (aa (af 11) (aa (af 5) (aa (ai aP (aa (pOp aD (pOp bIx (af 6) (ah 0)) (af 10)) (aa (pOp aD (pOp bIx (af 6) (ah 1)) (af 7)) ag))) ag))))) ag)))))
  (ao false 9 (pOp aU (af 9) (af 10))))
def lE:PSt:=
 (aj (ky (af 0) (gtX (gtT 4 (aX (gtN 3) (aX (gtN 4) (aX (gtN 5) (aX (gtN 6) eA)))))))
  (aj (ao false 7 (pFn eN (aa (af 2) ag)))
  (aj (ao true 8 (dG ag))
  (aj (ao false 9 (ah 0))
  (aj (je (cx (af 2)) (gtN 10) (cR))
  (aw (af 8)))))))
def cF:PFn:=fnP [false,false,false] 12 lE
def rn:cF.ms=[false,false,false]:=rfl
def qc(T:TT K mg):Callee P w K mg base "_law_parts" 3 ["_law_box", "_law_way", "_law_weights_here"] (spD K mg 3 cF.F):=aE (T.d.get 69 rfl) (au (N:=["_law_box", "_law_way", "_law_weights_here", "_law_left", "_law_top", "_law_wide", "_law_high", "_law_whole", "_law_parts_here", "_law_ahead", "_law_weight", "_law_at"]) (by decide)) (λ_ _ _ _ _ _=>ar3 λ_ _ _=>rfl) λnd _ _ _ _ _ _ _ hr=>'d'
def nM:PSt:=
 (aw (pOp bIx (dG (aa (bc "down") (aa (bc "across") ag))) (pFn qR (aa (pOp bGe (pOp aD (pOp bIx (pOp bIx (af 0) (ah 2)) (ah 0)) (pOp bIx (pOp bIx (af 0) (ah 3)) (ah 1))) (pOp aD (pOp bIx (pOp bIx (af 0) (ah 3)) (ah 0)) (pOp bIx (pOp bIx (af 0) (ah 2)) (ah 1)))) ag))))
def cX:PFn:=fnP [false] 1 nM
def u4:cX.ms=[false]:=rfl
def sG(T:TT K mg):Callee P w K mg base "_law_long" 1 ["_law_box"] (spD K mg 1 cX.F):=aE (T.d.get 70 rfl) (au (N:=["_law_box"]) (by decide)) (λ_ _ _ _ _ _=>ar1 λ_=>rfl) λnd _ _ _ _ _ _ _ hr=>'d'
def fS:PSt:=
 (xIf (qOf (pOp bGt (pOp aD (pOp bIx (af 2) (ah 0)) (pOp bIx (af 1) (ah 1))) (pOp aD (pOp bIx (af 1) (ah 0)) (pOp bIx (af 2) (ah 1))))) (ao false 1 (af 2)) xNx)
def mV:PSt:=
 (aj (ao false 1 (pOp bIx (af 0) (ah 0)))
  (aj (je (cx (pSl (af 0) (oS (ah 1)) oN)) (gtN 2) (fS))
  (aw (af 1))))
def fq:PFn:=fnP [false] 3 mV
def uX:fq.ms=[false]:=rfl
def j9(T:TT K mg):Callee P w K mg base "_law_most" 1 ["_law_some"] (spD K mg 1 fq.F):=aE (T.d.get 72 rfl) (au (N:=["_law_some", "_law_found", "_law_one"]) (by decide)) (λ_ _ _ _ _ _=>ar1 λ_=>rfl) λnd _ _ _ _ _ _ _ hr=>'d'
def lA:PSt:=
 (aj (ao false 1 (ai aP (aa (pOp aD (pOp bIx (pOp bIx (af 0) (ah 2)) (ah 0)) (pOp bIx (pOp bIx (af 0) (ah 3)) (ah 1))) (aa (pOp aD (pOp bIx (pOp bIx (af 0) (ah 2)) (ah 1)) (pOp bIx (pOp bIx (af 0) (ah 3)) (ah 0))) ag))))
  (aj (xIf (qOf (pOp bLt (pOp bIx (af 1) (ah 0)) (pOp bIx (af 1) (ah 1)))) (ao false 1 (br (aa (pOp bIx (af 1) (ah 1)) (aa (pOp bIx (af 1) (ah 0)) ag)))) xNx)
  (aw (af 1))))
def eL:PFn:=fnP [false] 2 lA
def qu(T:TT K mg):Callee P w K mg base "_law_shape" 2 ["_law_box"] (spD K mg 1 eL.F):=aE (T.d.get 71 rfl) (au (N:=["_law_box", "_law_found"]) (by decide)) (λ_ _ _ _ _ _=>ar1 λ_=>rfl) λnd _ _ _ _ _ _ _ hr=>'d'
def ie:PSt:=
 (aj (ao false 3 (qV ["across", "down"] (aa (bc "down") (aa (bc "across") ag))))
  (aj (ao false 4 (af 0))
  (aj (xIf (qOf (pOp bLt (af 2) (pFn bp (aa (af 1) ag)))) (ao false 4 (pOp bIx (ai cF (aa (af 0) (aa (ai cX (aa (af 0) ag)) (aa (dG (aa (pFn eN (aa (pSl (af 1) oN (oS (af 2))) ag)) (aa (pFn eN (aa (pSl (af 1) (oS (af 2)) oN) ag)) ag))) ag)))) (ah 0))) xNx)
  (aw (ai fq (aa (pLC (cx (ai cF (aa (af 4) (aa (pOp wX (af 3) (ai cX (aa (af 0) ag))) (aa (pSl (af 1) oN (oS (af 2))) ag))))) [none] (by decide) (gtN 0) qY (ai eL (aa (af 0) ag))) ag))))))
def bM:PFn:=fnP [false,false,false] 5 ie
def lM:bM.ms=[false,false,false]:=rfl
def kZ(T:TT K mg):Callee P w K mg base "_law_row_worst" 4 ["_law_room_here", "_law_some", "_law_many"] (spD K mg 3 bM.F):=aE (T.d.get 73 rfl) (au (N:=["_law_room_here", "_law_some", "_law_many", "_law_back", "_law_part"]) (by decide)) (λ_ _ _ _ _ _=>ar3 λ_ _ _=>rfl) λnd _ _ _ _ _ _ _ hr=>(ar (zsS 3 nd (ve (jC jZ (jC jZ vM)))) (ar 'd' (ar 'd' (dC (fk (zcF (j9 T) hr (bP (gH ["_law_room_here", "_law_some", "_law_many", "_law_back", "_law_part"] (ak (top 73)).names ["_law_box"] [none] 'd' (λnd _ _ _ _ _=>'d') (λnd _ _ _ _ _=>'d')) 'd')))))))
def fc(s:PFx [false,false,false]):PSt:=
 (aj (ao false 6 (ai bM (aa (af 0) (aa (af 3) (aa (pOp aU (af 4) (ah 1)) ag)))))
  (aj (xIf (qOf (pOp bGt (pOp aD (pOp bIx (af 6) (ah 0)) (pOp bIx (af 5) (ah 1))) (pOp aD (pOp bIx (af 5) (ah 0)) (pOp bIx (af 6) (ah 1))))) xBk xNx)
  (fE 4 5 (aa (pOp aU (af 4) (ah 1)) (aa (af 6) ag)))))
def eX(s:PFx [false,false,false]):PSt:=
 (aj (ao false 3 (pLC (cx (af 2)) [none,some 1] (by decide) (gtN 0) qY (pOp bIx (af 1) (af 0))))
  (aj (ao false 4 (ah 1))
  (aj (ao false 5 (ai bM (aa (af 0) (aa (af 3) (aa (ah 1) ag)))))
  (aj (xWh (qOf (pOp bLt (af 4) (pFn bp (aa (af 3) ag)))) (fc s))
  (aj (ao false 7 (ai cX (aa (af 0) ag)))
  (aj (ao false 8 (pOp bIx (af 2) (ah 0)))
  (aj (xIf (qOf (pOp bGt (af 4) (ah 1))) (ao false 8 (br (aa (pOp wX (qV ["across", "down"] (aa (bc "down") (aa (bc "across") ag))) (af 7)) (aa (pFn kQ (aa (pSl (af 2) oN (oS (af 4))) ag)) ag)))) xNx)
  (aj (xIf (qOf (pOp bEq (af 4) (pFn bp (aa (af 3) ag)))) (aw (af 8)) xNx)
  (aj (ao false 9 (pOp bIx (ai cF (aa (af 0) (aa (af 7) (aa (dG (aa (pFn eN (aa (pSl (af 3) oN (oS (af 4))) ag)) (aa (pFn eN (aa (pSl (af 3) (oS (af 4)) oN) ag)) ag))) ag)))) (ah 1)))
  (aw (br (aa (af 7) (aa (br (aa (af 8) (aa (ai s.fn (aa (af 9) (aa (af 1) (aa (pSl (af 2) (oS (af 4)) oN) ag)))) ag))) ag)))))))))))))
def cE:Nat->PFx [false,false,false]
 |0=>PFx.none [false,false,false]
 |n+1=>PFx.of [false,false,false] 10 (eX (cE n))
theorem j4(T:TT K mg):∀n,Callee P w K mg base "_law_due" (6+n) ["_law_room_here", "_law_weights_here", "_law_numbers"] (spD K mg 3 (cE n).F)
 |0=>ok0 (T.d.get 74 rfl) (au (N:=["_law_room_here", "_law_weights_here", "_law_numbers", "_law_some", "_law_many", "_law_found", "_law_more", "_law_way", "_law_row", "_law_rest"]) (by decide)) (λ_ _ _ _ _ _=>ar3 λ_ _ _=>rfl)
 |
  n+1=>by
  have ih:=j4 T n;show Callee _ _ _ _ _ _ _ _ (spD _ _ _ (PFx.of [false,false,false] 10 (eX (cE n))).F);exact Bh (k:=6+n) (T.d.get 74 rfl) (au (N:=["_law_room_here", "_law_weights_here", "_law_numbers", "_law_some", "_law_many", "_law_found", "_law_more", "_law_way", "_law_row", "_law_rest"]) (by decide)) (λ_ _ _ _ _ _=>ar3 λ_ _ _=>rfl) λnd _ _ _ _ _ _ _ hr=>(ar (zSlc nd ["_law_room_here", "_law_weights_here", "_law_numbers", "_law_some", "_law_many", "_law_found", "_law_more", "_law_way", "_law_row", "_law_rest"] (ak (top 74)).names ["_law_k", "_law_weights_here"] [none,some 1] 'd' (λnd _ _ _ _ _=>'d') (λnd _ _ _ _ _=>'d')) (ar 'd' (ar 'd' (ar 'd' (ar 'd' (ar 'd' (ar (nJ 'd' (dC (zsS 8 nd (zp (bP (vL (Ek hr) (ve (jC jZ (jC jZ vM))) 'd' (λ_ _=>rfl)) 'd')))) 'd') 'd')))))))
noncomputable def jl:PSt:=
 (aw (jB (pFn (bC cu) (aa (af 0) (aa (pTy "int") ag))) (A9 (pFn (bC cu) (aa (af 0) (aa (pTy "bool") ag))))))
def bJ:PFn:=fnP [false] 1 jl
def uQ:bJ.ms=[false]:=rfl
def sg(T:TT K mg):Callee P w K mg base "is_whole" 1 ["thing"] (spD K mg 1 bJ.F):=aE (T.d.get 10 rfl) (au (N:=["thing"]) (by decide)) (λ_ _ _ _ _ _=>ar1 λ_=>rfl) λnd _ _ _ _ _ _ _ hr=>'d'
def cN:PSt:=
 (fE 0 1 (aa (af 1) (aa (pOp cp (af 0) (af 1)) ag)))
def gJ:PSt:=
 (aj (fE 0 1 (aa (pFn fQ (aa (af 0) ag)) (aa (pFn fQ (aa (af 1) ag)) ag)))
  (aj (xWh (qOf (pOp bNe (af 1) (ah 0))) (cN))
  (aw (af 0))))
def bG:PFn:=fnP [false,false] 2 gJ
def kY:bG.ms=[false,false]:=rfl
def jY(T:TT K mg):Callee P w K mg base "common_divisor" 1 ["one", "other"] (spD K mg 2 bG.F):=aE (T.d.get 11 rfl) (au (N:=["one", "other"]) (by decide)) (λ_ _ _ _ _ _=>ar2 λ_ _=>rfl) λnd _ _ _ _ _ _ _ hr=>'d'
def jE:PSt:=
 (aj (xIf (qO (qNo (qOf (pFn (bC cu) (aa (af 0) (aa (pTy "tuple") ag))))) (qOf (pOp bNe (pFn bp (aa (af 0) ag)) (ah 2)))) (aw (pBl false)) xNx)
  (aj (ky (af 0) (gtX (gtT 2 (aX (gtN 1) (aX (gtN 2) eA)))))
  (aj (xIf (qO (qNo (qOf (ai bJ (aa (af 1) ag)))) (qNo (qOf (ai bJ (aa (af 2) ag))))) (aw (pBl false)) xNx)
  (aw (jB (pOp bGe (af 2) (ah 1)) (pOp bEq (ai bG (aa (af 1) (aa (af 2) ag))) (ah 1)))))))
def cC:PFn:=fnP [false] 3 jE
def oQ:cC.ms=[false]:=rfl
def mG(T:TT K mg):Callee P w K mg base "is_fraction" 2 ["thing"] (spD K mg 1 cC.F):=aE (T.d.get 12 rfl) (au (N:=["thing", "top", "bottom"]) (by decide)) (λ_ _ _ _ _ _=>ar1 λ_=>rfl) λnd _ _ _ _ _ _ _ hr=>'d'
def sC:PSt:=
 (aj (xIf (qO (qNo (qOf (pFn (bC cu) (aa (af 0) (aa (pTy "tuple") ag))))) (qOf (pOp bNe (pFn bp (aa (af 0) ag)) (ah 4)))) (aw (pBl false)) xNx)
  (aj (xIf (qNo (qOf (pFn qX (aa (pLC (cx (af 0)) [none] (by decide) (gtN 0) qY (ai cC (aa (af 0) ag))) ag)))) (aw (pBl false)) xNx)
  (aw (jB (pOp bGt (pOp bIx (pOp bIx (af 0) (ah 2)) (ah 0)) (ah 0)) (pOp bGt (pOp bIx (pOp bIx (af 0) (ah 3)) (ah 0)) (ah 0))))))
def gQ:PFn:=fnP [false] 1 sC
def zF:gQ.ms=[false]:=rfl
def yC(T:TT K mg):Callee P w K mg base "is_box" 3 ["thing"] (spD K mg 1 gQ.F):=aE (T.d.get 22 rfl) (au (N:=["thing"]) (by decide)) (λ_ _ _ _ _ _=>ar1 λ_=>rfl) λnd _ _ _ _ _ _ _ hr=>(ar 'd' (ar (nJ (tJ (tf (gM (allK (K:=K) rfl rfl) An rfl (T.n rfl) (by first |exact boF rfl |exact boT rfl) (bP (gH ["thing"] (ak (top 22)).names ["part"] [none] 'd' (λnd _ _ _ _ _=>'d') (λnd _ _ _ _ _=>'d')) 'd')))) 'd' 'd') 'd'))
def lG:PSt:=
 (xIf (qNo (qOf (ai gQ (aa (af 0) ag)))) (eF "NoBox" (aa (bc "this is no box") ag)) xNx)
def bu:PFn:=fnP [false] 1 lG
def rV:bu.ms=[false]:=rfl
def qt(T:TT K mg):Callee P w K mg base "check_box" 4 ["thing"] (spD K mg 1 bu.F):=aE (T.d.get 23 rfl) (au (N:=["thing"]) (by decide)) (λ_ _ _ _ _ _=>ar1 λ_=>rfl) λnd _ _ _ _ _ _ _ hr=>'d'
noncomputable def lB:PSt:=
 (aw (jB (ai bJ (aa (af 0) ag)) (pOp bGe (af 0) (ah 1))))
def dB:PFn:=fnP [false] 1 lB
def tK:dB.ms=[false]:=rfl
def p8(T:TT K mg):Callee P w K mg base "is_weight" 2 ["thing"] (spD K mg 1 dB.F):=aE (T.d.get 27 rfl) (au (N:=["thing"]) (by decide)) (λ_ _ _ _ _ _=>ar1 λ_=>rfl) λnd _ _ _ _ _ _ _ hr=>'d'
def gY:PSt:=
 (aj (xIf (qO (qNo (qOf (pFn (bC cu) (aa (af 0) (aa (pTy "list") ag))))) (qOf (pOp bEq (pFn bp (aa (af 0) ag)) (ah 0)))) (eF "NoWeights" (aa (bc "this is no list of weights") ag)) xNx)
  (aj (xIf (qNo (qOf (pFn qX (aa (pLC (cx (af 0)) [none] (by decide) (gtN 0) qY (ai dB (aa (af 0) ag))) ag)))) (eF "NoWeights" (aa (bc "a weight is a whole number from 1 on") ag)) xNx)
  (xIf (qOf (pOp bGt (pFn bp (aa (af 0) ag)) g6)) (eF "TooMany" (aa (bc "these are more weights than forty") ag)) xNx)))
def a8:PFn:=fnP [false] 1 gY
def me:a8.ms=[false]:=rfl
def kX(T:TT K mg):Callee P w K mg base "check_weights" 3 ["thing"] (spD K mg 1 a8.F):=aE (T.d.get 28 rfl) (au (N:=["thing"]) (by decide)) (λ_ _ _ _ _ _=>ar1 λ_=>rfl) λnd _ _ _ _ _ _ _ hr=>(ar 'd' (ar (nJ (tJ (tf (gM (allK (K:=K) rfl rfl) An rfl (T.n rfl) (by first |exact boF rfl |exact boT rfl) (bP (gH ["thing"] (ak (top 28)).names ["weight"] [none] 'd' (λnd _ _ _ _ _=>'d') (λnd _ _ _ _ _=>'d')) 'd')))) 'd' 'd') 'd'))
noncomputable def fD:PSt:=
 (aw (pFn uq (aa (pFn bp (aa (af 0) ag)) (aa (af 0) ag))))
def bA:PFn:=fnP [false] 1 fD
def iI:bA.ms=[false]:=rfl
def iq(T:TT K mg):Callee P w K mg base "by_falling_weights" 1 ["weights"] (spD K mg 1 bA.F):=okPL (T.d.get 37 rfl) T.l (au (N:=["weights"]) (by decide)) (λ_ _ _ _ _ _=>ar1 λ_=>rfl) λnd _ _ _ _ _ _ _ _ e2 e3 hr=>(dC (fk (Fi rfl hr.depth rfl (T.n rfl) rfl (T.n rfl) rfl rfl rfl e2 e3 'd')))
noncomputable def md:PSt:=
 (aw (jB (pFn (bC cu) (aa (af 0) (aa (pTy "str") ag))) (pOp bIn (af 0) wx)))
def dZ:PFn:=fnP [false] 1 md
def AI:dZ.ms=[false]:=rfl
def wM(T:TT K mg):Callee P w K mg base "is_way" 1 ["thing"] (spD K mg 1 dZ.F):=aE (T.d.get 24 rfl) (au (N:=["thing"]) (by decide)) (λ_ _ _ _ _ _=>ar1 λ_=>rfl) λnd _ _ _ _ _ _ _ hr=>'d'
noncomputable def lF:PSt:=
 (xIf (qNo (qOf (ai dZ (aa (af 0) ag)))) (eF "NoWay" (aa (bc "this is no way") ag)) xNx)
def eD:PFn:=fnP [false] 1 lF
def sM:eD.ms=[false]:=rfl
def pU(T:TT K mg):Callee P w K mg base "check_way" 2 ["way"] (spD K mg 1 eD.F):=aE (T.d.get 25 rfl) (au (N:=["way"]) (by decide)) (λ_ _ _ _ _ _=>ar1 λ_=>rfl) λnd _ _ _ _ _ _ _ hr=>'d'
def nz:PSt:=
 (aj (xIf (qOf (pOp bEq (af 1) (ah 0))) (eF "NoFraction" (aa (bc "a fraction has no bottom of 0") ag)) xNx)
  (aj (ao false 2 (ai bG (aa (af 0) (aa (af 1) ag))))
  (aj (xIf (qOf (pOp bLt (af 1) (ah 0))) (ao false 2 (pUn tL (af 2))) xNx)
  (aw (br (aa (pOp jb (af 0) (af 2)) (aa (pOp jb (af 1) (af 2)) ag)))))))
def bX:PFn:=fnP [false,false] 3 nz
def u5:bX.ms=[false,false]:=rfl
def sZ(T:TT K mg):Callee P w K mg base "fraction" 2 ["top", "bottom"] (spD K mg 2 bX.F):=aE (T.d.get 13 rfl) (au (N:=["top", "bottom", "divisor"]) (by decide)) (λ_ _ _ _ _ _=>ar2 λ_ _=>rfl) λnd _ _ _ _ _ _ _ hr=>'d'
def vm:PSt:=
 (aw (ai bX (aa (pOp aU (pOp aD (pOp bIx (af 0) (ah 0)) (pOp bIx (af 1) (ah 1))) (pOp aD (pOp bIx (af 1) (ah 0)) (pOp bIx (af 0) (ah 1)))) (aa (pOp aD (pOp bIx (af 0) (ah 1)) (pOp bIx (af 1) (ah 1))) ag))))
def iZ:PFn:=fnP [false,false] 2 vm
def Dv:iZ.ms=[false,false]:=rfl
def AB(T:TT K mg):Callee P w K mg base "added" 3 ["one", "other"] (spD K mg 2 iZ.F):=aE (T.d.get 14 rfl) (au (N:=["one", "other"]) (by decide)) (λ_ _ _ _ _ _=>ar2 λ_ _=>rfl) λnd _ _ _ _ _ _ _ hr=>'d'
def vJ:PSt:=
 (aw (ai bX (aa (pOp aD (pOp bIx (af 0) (ah 0)) (pOp bIx (af 1) (ah 0))) (aa (pOp aD (pOp bIx (af 0) (ah 1)) (pOp bIx (af 1) (ah 1))) ag))))
def gv:PFn:=fnP [false,false] 2 vJ
def C2:gv.ms=[false,false]:=rfl
def yN(T:TT K mg):Callee P w K mg base "times" 3 ["one", "other"] (spD K mg 2 gv.F):=aE (T.d.get 15 rfl) (au (N:=["one", "other"]) (by decide)) (λ_ _ _ _ _ _=>ar2 λ_ _=>rfl) λnd _ _ _ _ _ _ _ hr=>'d'
def ia:PSt:=
 (aj (ao false 7 (ai iZ (aa (af 0) (aa (ai gv (aa (af 1) (aa (ai bX (aa (af 4) (aa (af 3) ag))) ag))) ag))))
  (aj (bE (i9 5 eP (aa (br (aa (af 7) (aa (ai gv (aa (af 1) (aa (ai bX (aa (af 6) (aa (af 3) ag))) ag))) ag))) ag)))
  (yr 4 yd (af 6))))
def rM:PSt:=
 (aj (ao false 3 (pFn eN (aa (af 2) ag)))
  (aj (ao false 4 (ah 0))
  (aj (ao true 5 (dG ag))
  (aj (je (cx (af 2)) (gtN 6) (ia))
  (aw (af 5))))))
def fF:PFn:=fnP [false,false,false] 8 rM
def zY:fF.ms=[false,false,false]:=rfl
def ym(T:TT K mg):Callee P w K mg base "shares" 4 ["start", "length", "weights"] (spD K mg 3 fF.F):=aE (T.d.get 31 rfl) (au (N:=["start", "length", "weights", "whole", "ahead", "found", "weight", "begin"]) (by decide)) (λ_ _ _ _ _ _=>ar3 λ_ _ _=>rfl) λnd _ _ _ _ _ _ _ hr=>'d'
def sX:PSt:=
 (aj (bE (ai bu (aa (af 0) ag)))
  (aj (bE (ai eD (aa (af 1) ag)))
  (aj (bE (ai a8 (aa (af 2) ag)))
  (aj (ky (af 0) (gtX (gtT 4 (aX (gtN 3) (aX (gtN 4) (aX (gtN 5) (aX (gtN 6) eA)))))))
  (aj (xIf (qOf (pOp bEq (af 1) (bc "across"))) (aw (pLC (cx (ai fF (aa (af 3) (aa (af 5) (aa (af 2) ag))))) [none,none,some 4,some 6] (by decide) (gtT 2 (aX (gtN 0) (aX (gtN 1) eA))) qY (br (aa (af 0) (aa (af 2) (aa (af 1) (aa (af 3) ag))))))) xNx)
  (aw (pLC (cx (ai fF (aa (af 4) (aa (af 6) (aa (af 2) ag))))) [none,none,some 3,some 5] (by decide) (gtT 2 (aX (gtN 0) (aX (gtN 1) eA))) qY (br (aa (af 2) (aa (af 0) (aa (af 3) (aa (af 1) ag))))))))))))
def dW:PFn:=fnP [false,false,false] 7 sX
def zr:dW.ms=[false,false,false]:=rfl
def mE(T:TT K mg):Callee P w K mg base "parted" 5 ["box", "way", "weights"] (spD K mg 3 dW.F):=aE (T.d.get 32 rfl) (au (N:=["box", "way", "weights", "left", "top", "wide", "high"]) (by decide)) (λ_ _ _ _ _ _=>ar3 λ_ _ _=>rfl) λnd _ _ _ _ _ _ _ hr=>(ar 'd' (ar 'd' (ar 'd' (ar 'd' (ar (nJ 'd' (dC (fk (gH ["box", "way", "weights", "left", "top", "wide", "high"] (ak (top 32)).names ["begin", "length", "top", "high"] [none,none,some 4,some 6] 'd' (λnd _ _ _ _ _=>'d') (λnd _ _ _ _ _=>'d')))) 'd') (dC (fk (gH ["box", "way", "weights", "left", "top", "wide", "high"] (ak (top 32)).names ["begin", "length", "left", "wide"] [none,none,some 3,some 5] 'd' (λnd _ _ _ _ _=>'d') (λnd _ _ _ _ _=>'d')))))))))
def pb:PSt:=
 (aw (pOp bLt (pOp aD (pOp bIx (af 0) (ah 0)) (pOp bIx (af 1) (ah 1))) (pOp aD (pOp bIx (af 1) (ah 0)) (pOp bIx (af 0) (ah 1)))))
def dN:PFn:=fnP [false,false] 2 pb
def yt:dN.ms=[false,false]:=rfl
def uR(T:TT K mg):Callee P w K mg base "is_less" 1 ["one", "other"] (spD K mg 2 dN.F):=aE (T.d.get 17 rfl) (au (N:=["one", "other"]) (by decide)) (λ_ _ _ _ _ _=>ar2 λ_ _=>rfl) λnd _ _ _ _ _ _ _ hr=>'d'
def m8:PSt:=
 (aj (bE (ai bu (aa (af 0) ag)))
  (aj (xIf (qOf (ai dN (aa (pOp bIx (af 0) (ah 2)) (aa (pOp bIx (af 0) (ah 3)) ag)))) (aw (bc "down")) xNx)
  (aw (bc "across"))))
def bY:PFn:=fnP [false] 1 m8
def uN:bY.ms=[false]:=rfl
def rR(T:TT K mg):Callee P w K mg base "long_way" 5 ["box"] (spD K mg 1 bY.F):=aE (T.d.get 29 rfl) (au (N:=["box"]) (by decide)) (λ_ _ _ _ _ _=>ar1 λ_=>rfl) λnd _ _ _ _ _ _ _ hr=>'d'
def jS:PSt:=
 (aw (ai dW (aa (af 0) (aa (ai bY (aa (af 0) ag)) (aa (dG (aa (pFn eN (aa (pSl (af 1) oN (oS (af 2))) ag)) (aa (pFn eN (aa (pSl (af 1) (oS (af 2)) oN) ag)) ag))) ag)))))
def cT:PFn:=fnP [false,false,false] 3 jS
def pS:cT.ms=[false,false,false]:=rfl
def ou(T:TT K mg):Callee P w K mg base "cut_in_two" 6 ["room", "weights", "many"] (spD K mg 3 cT.F):=aE (T.d.get 33 rfl) (au (N:=["room", "weights", "many"]) (by decide)) (λ_ _ _ _ _ _=>ar3 λ_ _ _=>rfl) λnd _ _ _ _ _ _ _ hr=>'d'
def lH:PSt:=
 (aj (xIf (qOf (pOp bEq (af 0) (bc "across"))) (aw (bc "down")) xNx)
  (aw (bc "across")))
def du:PFn:=fnP [false] 1 lH
def rJ:du.ms=[false]:=rfl
def qh(T:TT K mg):Callee P w K mg base "other_way" 1 ["way"] (spD K mg 1 du.F):=aE (T.d.get 26 rfl) (au (N:=["way"]) (by decide)) (λ_ _ _ _ _ _=>ar1 λ_=>rfl) λnd _ _ _ _ _ _ _ hr=>'d'
def d6:PSt:=
 (xIf (qOf (ai dN (aa (af 1) (aa (af 2) ag)))) (ao false 1 (af 2)) xNx)
def jF:PSt:=
 (aj (ao false 1 (pOp bIx (af 0) (ah 0)))
  (aj (je (cx (af 0)) (gtN 2) (d6))
  (aw (af 1))))
def dk:PFn:=fnP [false] 3 jF
def oq:dk.ms=[false]:=rfl
def ic(T:TT K mg):Callee P w K mg base "greatest_of" 2 ["fractions"] (spD K mg 1 dk.F):=aE (T.d.get 18 rfl) (au (N:=["fractions", "found", "one"]) (by decide)) (λ_ _ _ _ _ _=>ar1 λ_=>rfl) λnd _ _ _ _ _ _ _ hr=>'d'
def yQ:PSt:=
 (aw (ai bX (aa (pOp aD (pOp bIx (af 0) (ah 0)) (pOp bIx (af 1) (ah 1))) (aa (pOp aD (pOp bIx (af 0) (ah 1)) (pOp bIx (af 1) (ah 0))) ag))))
def iF:PFn:=fnP [false,false] 2 yQ
def FH:iF.ms=[false,false]:=rfl
def A7(T:TT K mg):Callee P w K mg base "over" 3 ["one", "other"] (spD K mg 2 iF.F):=aE (T.d.get 16 rfl) (au (N:=["one", "other"]) (by decide)) (λ_ _ _ _ _ _=>ar2 λ_ _=>rfl) λnd _ _ _ _ _ _ _ hr=>'d'
def wu:PSt:=
 (aj (xIf (qOf (pOp bEq (ai bY (aa (af 0) ag)) (bc "across"))) (aw (ai iF (aa (pOp bIx (af 0) (ah 2)) (aa (pOp bIx (af 0) (ah 3)) ag)))) xNx)
  (aw (ai iF (aa (pOp bIx (af 0) (ah 3)) (aa (pOp bIx (af 0) (ah 2)) ag)))))
def iH:PFn:=fnP [false] 1 wu
def Ak(T:TT K mg):Callee P w K mg base "shape" 6 ["box"] (spD K mg 1 iH.F):=aE (T.d.get 30 rfl) (au (N:=["box"]) (by decide)) (λ_ _ _ _ _ _=>ar1 λ_=>rfl) λnd _ _ _ _ _ _ _ hr=>'d'
def iR:PSt:=
 (aj (ao false 3 (af 0))
  (aj (xIf (qOf (pOp bLt (af 2) (pFn bp (aa (af 1) ag)))) (ao false 3 (pOp bIx (ai cT (aa (af 0) (aa (af 1) (aa (af 2) ag)))) (ah 0))) xNx)
  (aj (ao false 4 (ai dW (aa (af 3) (aa (ai du (aa (ai bY (aa (af 0) ag)) ag)) (aa (pSl (af 1) oN (oS (af 2))) ag)))))
  (aw (ai dk (aa (pLC (cx (af 4)) [none] (by decide) (gtN 0) qY (ai iH (aa (af 0) ag))) ag))))))
def b8:PFn:=fnP [false,false,false] 5 iR
def nA:b8.ms=[false,false,false]:=rfl
def l6(T:TT K mg):Callee P w K mg base "worst_of_row" 7 ["room", "weights", "many"] (spD K mg 3 b8.F):=aE (T.d.get 41 rfl) (au (N:=["room", "weights", "many", "part", "boxes"]) (by decide)) (λ_ _ _ _ _ _=>ar3 λ_ _ _=>rfl) λnd _ _ _ _ _ _ _ hr=>(ar 'd' (ar 'd' (ar 'd' (dC (fk (zcF (ic T) hr (bP (gH ["room", "weights", "many", "part", "boxes"] (ak (top 41)).names ["box"] [none] 'd' (λnd _ _ _ _ _=>'d') (λnd _ _ _ _ _=>'d')) 'd')))))))
def df:PSt:=
 (aj (ao false 4 (ai b8 (aa (af 0) (aa (af 1) (aa (pOp aU (af 2) (ah 1)) ag)))))
  (aj (xIf (qOf (ai dN (aa (af 3) (aa (af 4) ag)))) xBk xNx)
  (aj (ao false 3 (af 4))
  (yr 2 yd (ah 1)))))
def kd:PSt:=
 (aj (ao false 2 (ah 1))
  (aj (ao false 3 (ai b8 (aa (af 0) (aa (af 1) (aa (af 2) ag)))))
  (aj (xWh (qOf (pOp bLt (af 2) (pFn bp (aa (af 1) ag)))) (df))
  (aw (af 2)))))
def dP:PFn:=fnP [false,false] 5 kd
def pR:dP.ms=[false,false]:=rfl
def oI(T:TT K mg):Callee P w K mg base "row_length" 8 ["room", "weights"] (spD K mg 2 dP.F):=aE (T.d.get 40 rfl) (au (N:=["room", "weights", "many", "before", "behind"]) (by decide)) (λ_ _ _ _ _ _=>ar2 λ_ _=>rfl) λnd _ _ _ _ _ _ _ hr=>'d'
def jI:PSt:=
 (aj (xIf (qOf (pOp bEq (pFn bp (aa (af 1) ag)) (ah 1))) (aw (pOp bIx (af 1) (ah 0))) xNx)
  (aw (br (aa (ai du (aa (ai bY (aa (af 0) ag)) ag)) (aa (pFn kQ (aa (af 1) ag)) ag)))))
def da:PFn:=fnP [false,false] 2 jI
def oJ:da.ms=[false,false]:=rfl
def nj(T:TT K mg):Callee P w K mg base "tree_of_row" 6 ["room", "numbers"] (spD K mg 2 da.F):=aE (T.d.get 39 rfl) (au (N:=["room", "numbers"]) (by decide)) (λ_ _ _ _ _ _=>ar2 λ_ _=>rfl) λnd _ _ _ _ _ _ _ hr=>'d'
def b0(s:PFx [false,false,false]):PSt:=
 (aj (ao false 3 (ai dP (aa (af 0) (aa (af 2) ag))))
  (aj (ao false 4 (ai da (aa (af 0) (aa (pSl (af 1) oN (oS (af 3))) ag))))
  (aj (xIf (qOf (pOp bEq (af 3) (pFn bp (aa (af 1) ag)))) (aw (af 4)) xNx)
  (aj (ao false 5 (pOp bIx (ai cT (aa (af 0) (aa (af 2) (aa (af 3) ag)))) (ah 1)))
  (aw (br (aa (ai bY (aa (af 0) ag)) (aa (br (aa (af 4) (aa (ai s.fn (aa (af 5) (aa (pSl (af 1) (oS (af 3)) oN) (aa (pSl (af 2) (oS (af 3)) oN) ag)))) ag))) ag))))))))
def bj:Nat->PFx [false,false,false]
 |0=>PFx.none [false,false,false]
 |n+1=>PFx.of [false,false,false] 6 (b0 (bj n))
theorem eB(T:TT K mg):∀n,Callee P w K mg base "tree_of_rows" (10+n) ["room", "numbers", "weights"] (spD K mg 3 (bj n).F)
 |0=>ok0 (T.d.get 38 rfl) (au (N:=["room", "numbers", "weights", "many", "tree", "rest"]) (by decide)) (λ_ _ _ _ _ _=>ar3 λ_ _ _=>rfl)
 |
  n+1=>by
  have ih:=eB T n;show Callee _ _ _ _ _ _ _ _ (spD _ _ _ (PFx.of [false,false,false] 6 (b0 (bj n))).F);exact Bh (k:=10+n) (T.d.get 38 rfl) (au (N:=["room", "numbers", "weights", "many", "tree", "rest"]) (by decide)) (λ_ _ _ _ _ _=>ar3 λ_ _ _=>rfl) λnd _ _ _ _ _ _ _ hr=>'d'
def hE:PSt:=
 (aj (bE (ai bu (aa (af 0) ag)))
  (aj (bE (ai a8 (aa (af 1) ag)))
  (aj (ao false 2 (ai bA (aa (af 1) ag)))
  (aw (ai (bj 42).fn (aa (af 0) (aa (af 2) (aa (pLC (cx (af 2)) [none,some 1] (by decide) (gtN 0) qY (pOp bIx (af 1) (af 0))) ag))))))))
def aZ:PFn:=fnP [false,false] 3 hE
def lZ:aZ.ms=[false,false]:=rfl
def k8(T:TT K mg):Callee P w K mg base "greatest_tree" 53 ["room", "weights"] (spD K mg 2 aZ.F):=aE (T.d.get 36 rfl) (au (N:=["room", "weights", "numbers"]) (by decide)) (λ_ _ _ _ _ _=>ar2 λ_ _=>rfl) λnd _ _ _ _ _ _ _ hr=>(ar 'd' (ar 'd' (ar 'd' (dC (fk (zcF (eB T 42) hr (bP 'd' (bP 'd' (bP (gH ["room", "weights", "numbers"] (ak (top 36)).names ["number", "weights"] [none,some 1] 'd' (λnd _ _ _ _ _=>'d') (λnd _ _ _ _ _=>'d')) 'd')))))))))
noncomputable def jN:PSt:=
 (xIf (qOf (pOp CL (af 0) rF)) (eF "NoRule" (aa (bc "this is no rule") ag)) xNx)
def dO:PFn:=fnP [false] 1 jN
def qa:dO.ms=[false]:=rfl
def oz(T:TT K mg):Callee P w K mg base "check_rule" 1 ["rule"] (spD K mg 1 dO.F):=aE (T.d.get 52 rfl) (au (N:=["rule"]) (by decide)) (λ_ _ _ _ _ _=>ar1 λ_=>rfl) λnd _ _ _ _ _ _ _ hr=>'d'
noncomputable def jD:Nat->PFx [false,false]:=λ_=>PFx.none [false,false]
def nu(T:TT K mg):Callee P w K mg base "halves_tree" 2 ["room", "weights"] (spD K mg 2 (jD 0).F):=by show Callee _ _ _ _ _ _ _ _ (spD _ _ _ (PFx.none [false,false]).F);exact ok0 (T.d.get 56 rfl) (au (N:=["room", "weights"]) (by decide)) (λ_ _ _ _ _ _=>ar2 λ_ _=>rfl)
noncomputable def lg:Nat->PFx [false,false]:=λ_=>PFx.none [false,false]
def qg(T:TT K mg):Callee P w K mg base "rows_tree" 2 ["room", "weights"] (spD K mg 2 (lg 0).F):=by show Callee _ _ _ _ _ _ _ _ (spD _ _ _ (PFx.none [false,false]).F);exact ok0 (T.d.get 35 rfl) (au (N:=["room", "weights"]) (by decide)) (λ_ _ _ _ _ _=>ar2 λ_ _=>rfl)
noncomputable def jG:Nat->PFx [false,false]:=λ_=>PFx.none [false,false]
def mL(T:TT K mg):Callee P w K mg base "thirds_tree" 2 ["room", "weights"] (spD K mg 2 (jG 0).F):=by show Callee _ _ _ _ _ _ _ _ (spD _ _ _ (PFx.none [false,false]).F);exact ok0 (T.d.get 57 rfl) (au (N:=["room", "weights", "numbers"]) (by decide)) (λ_ _ _ _ _ _=>ar2 λ_ _=>rfl)
noncomputable def iX:Nat->PFx [false,false,false]:=λ_=>PFx.none [false,false,false]
def mr(T:TT K mg):Callee P w K mg base "side_by_side" 2 ["way", "room", "weights"] (spD K mg 3 (iX 0).F):=by show Callee _ _ _ _ _ _ _ _ (spD _ _ _ (PFx.none [false,false,false]).F);exact ok0 (T.d.get 55 rfl) (au (N:=["way", "room", "weights"]) (by decide)) (λ_ _ _ _ _ _=>ar3 λ_ _ _=>rfl)
def lu:PSt:=
 (aj (bE (ai dO (aa (af 0) ag)))
  (aj (xIf (qOf (pOp bEq (af 0) (bc "halves"))) (aw (ai (jD 0).fn (aa (af 1) (aa (af 2) ag)))) xNx)
  (aj (xIf (qOf (pOp bEq (af 0) (bc "rows"))) (aw (ai (lg 0).fn (aa (af 1) (aa (af 2) ag)))) xNx)
  (aj (xIf (qOf (pOp bEq (af 0) (bc "greatest"))) (aw (ai aZ (aa (af 1) (aa (af 2) ag)))) xNx)
  (aj (xIf (qOf (pOp bEq (af 0) (bc "thirds"))) (aw (ai (jG 0).fn (aa (af 1) (aa (af 2) ag)))) xNx)
  (aw (ai (iX 0).fn (aa (af 0) (aa (af 1) (aa (af 2) ag))))))))))
def cK:PFn:=fnP [false,false,false] 3 lu
def uf:cK.ms=[false,false,false]:=rfl
def qb(T:TT K mg):Callee P w K mg base "rule_tree" 54 ["rule", "room", "weights"] (spD K mg 3 cK.F):=aE (T.d.get 53 rfl) (au (N:=["rule", "room", "weights"]) (by decide)) (λ_ _ _ _ _ _=>ar3 λ_ _ _=>rfl) λnd _ _ _ _ _ _ _ hr=>'d'
noncomputable def iE:PSt:=
 (aj (xIf (qO (qNo (qOf (pFn (bC cu) (aa (af 0) (aa (pTy "tuple") ag))))) (qOf (pOp bNe (pFn bp (aa (af 0) ag)) (ah 2)))) (aw (pBl false)) xNx)
  (aw (jB (ai dZ (aa (pOp bIx (af 0) (ah 0)) ag)) (jB (pFn (bC cu) (aa (pOp bIx (af 0) (ah 1)) (aa (pTy "tuple") ag))) (pOp bGe (pFn bp (aa (pOp bIx (af 0) (ah 1)) ag)) (ah 2))))))
def cG:PFn:=fnP [false] 1 iE
def uA:cG.ms=[false]:=rfl
def pZ(T:TT K mg):Callee P w K mg base "is_branch" 2 ["thing"] (spD K mg 1 cG.F):=aE (T.d.get 43 rfl) (au (N:=["thing"]) (by decide)) (λ_ _ _ _ _ _=>ar1 λ_=>rfl) λnd _ _ _ _ _ _ _ hr=>'d'
noncomputable def c9:PSt:=
 (aj (ao false 4 (qT 3 qJ))
  (xIf (qOf (ai cG (aa (af 4) ag))) (bE (i9 3 g0 (aa (pOp bIx (af 4) (ah 1)) ag))) (xIf (qO (qNo (qOf (ai bJ (aa (af 4) ag)))) (qO (qOf (pOp bLt (af 4) (ah 0))) (qO (qOf (pOp bGe (af 4) (af 1))) (qOf (pOp B8 (af 4) (af 2)))))) (aw (pBl false)) (bE (A8 2 (aa (af 4) ag))))))
def pz:PSt:=
 (aj (ao true 2 xW)
  (aj (ao true 3 (dG (aa (af 0) ag)))
  (aj (xWh (qTr (af 3)) (c9))
  (aw (pOp bEq (pFn mY (aa (af 2) ag)) (af 1))))))
def fW:PFn:=fnP [false,false] 5 pz
def yq:fW.ms=[false,false]:=rfl
def uO(T:TT K mg):Callee P w K mg base "is_tree" 3 ["thing", "many"] (spD K mg 2 fW.F):=aE (T.d.get 44 rfl) (au (N:=["thing", "many", "seen", "waiting", "part"]) (by decide)) (λ_ _ _ _ _ _=>ar2 λ_ _=>rfl) λnd _ _ _ _ _ _ _ hr=>'d'
def jR:PSt:=
 (xIf (qNo (qOf (ai fW (aa (af 0) (aa (af 1) ag))))) (eF "NoTree" (aa (bc "this is no tree for the things") ag)) xNx)
def dJ:PFn:=fnP [false,false] 2 jR
def pW:dJ.ms=[false,false]:=rfl
def oE(T:TT K mg):Callee P w K mg base "check_tree" 4 ["thing", "many"] (spD K mg 2 dJ.F):=aE (T.d.get 45 rfl) (au (N:=["thing", "many"]) (by decide)) (λ_ _ _ _ _ _=>ar2 λ_ _=>rfl) λnd _ _ _ _ _ _ _ hr=>'d'
noncomputable def cq:PSt:=
 (aj (ao false 3 (qT 2 qJ))
  (xIf (qOf (pFn (bC cu) (aa (af 3) (aa (pTy "tuple") ag)))) (bE (i9 2 g0 (aa (pOp bIx (af 3) (ah 1)) ag))) (bE (i9 1 eP (aa (af 3) ag)))))
def lC:PSt:=
 (aj (ao true 1 (dG ag))
  (aj (ao true 2 (dG (aa (af 0) ag)))
  (aj (xWh (qTr (af 2)) (cq))
  (aw (af 1)))))
def dE:PFn:=fnP [false] 4 lC
def tP:dE.ms=[false]:=rfl
def qf(T:TT K mg):Callee P w K mg base "things_in" 1 ["tree"] (spD K mg 1 dE.F):=aE (T.d.get 46 rfl) (au (N:=["tree", "found", "waiting", "part"]) (by decide)) (λ_ _ _ _ _ _=>ar1 λ_=>rfl) λnd _ _ _ _ _ _ _ hr=>'d'
def nI:PSt:=
 (aj (ky (af 2) (gtX (gtT 2 (aX (gtN 3) (aX (gtN 4) eA)))))
  (aw (ai dW (aa (af 0) (aa (af 3) (aa (pLC (cx (af 4)) [none,some 1] (by decide) (gtN 0) qY (pFn eN (aa (pLC (cx (ai dE (aa (af 0) ag))) [none,some 1] (by decide) (gtN 0) qY (pOp bIx (af 1) (af 0))) ag))) ag))))))
def ft:PFn:=fnP [false,false,false] 5 nI
def uU:ft.ms=[false,false,false]:=rfl
def sO(T:TT K mg):Callee P w K mg base "parts_of" 6 ["room", "weights", "tree"] (spD K mg 3 ft.F):=aE (T.d.get 49 rfl) (au (N:=["room", "weights", "tree", "way", "trees"]) (by decide)) (λ_ _ _ _ _ _=>ar3 λ_ _ _=>rfl) λnd _ _ _ _ _ _ _ hr=>(ar 'd' (dC (fk (zcF (mE T) hr (bP 'd' (bP 'd' (bP (gH ["room", "weights", "tree", "way", "trees"] (ak (top 49)).names ["part", "weights"] [none,some 1] 'd' (λnd _ _ _ _ _=>'d') (λnd _ _ _ _ _=>(gM (oY (K:=K) rfl rfl) yV rfl (T.n rfl) (by first |exact boF rfl |exact boT rfl) (bP (gH ["part", "weights"] [(PySem.Str.ofString ".0",PySem.NameKind.local),(PySem.Str.ofString "part",PySem.NameKind.local),(PySem.Str.ofString "sum",PySem.NameKind.globalImplicit),(PySem.Str.ofString "things_in",PySem.NameKind.globalImplicit),(PySem.Str.ofString "weights",PySem.NameKind.cell)] ["thing", "weights"] [none,some 1] 'd' (λnd _ _ _ _ _=>'d') (λnd _ _ _ _ _=>'d')) 'd')))) 'd')))))))
noncomputable def jy(s:PFx [false,false,false,true]):PSt:=
 (bE (ai s.fn (aa (af 5) (aa (af 1) (aa (af 4) (aa (af 3) ag))))))
def gx(s:PFx [false,false,false,true]):PSt:=
 (aj (xIf (qNo (qOf (pFn (bC cu) (aa (af 2) (aa (pTy "tuple") ag))))) (aj (rh 3 seI (af 2) (af 0))
  yb) xNx)
  (je (wQ (aa (pOp bIx (af 2) (ah 1)) (aa (ai ft (aa (af 0) (aa (af 1) (aa (af 2) ag)))) ag))) (gtX (gtT 2 (aX (gtN 4) (aX (gtN 5) eA)))) (jy s)))
def dD:Nat->PFx [false,false,false,true]
 |0=>PFx.none [false,false,false,true]
 |n+1=>PFx.of [false,false,false,true] 6 (gx (dD n))
theorem nL(T:TT K mg):∀n,Callee P w K mg base "place" (8+n) ["room", "weights", "tree", "placed"] (spD K mg 4 (dD n).F)
 |0=>ok0 (T.d.get 48 rfl) (au (N:=["room", "weights", "tree", "placed", "part", "box"]) (by decide)) (λ_ _ _ _ _ _=>ar4 λ_ _ _ _=>rfl)
 |
  n+1=>by
  have ih:=nL T n;show Callee _ _ _ _ _ _ _ _ (spD _ _ _ (PFx.of [false,false,false,true] 6 (gx (dD n))).F);exact Bh (k:=8+n) (T.d.get 48 rfl) (au (N:=["room", "weights", "tree", "placed", "part", "box"]) (by decide)) (λ_ _ _ _ _ _=>ar4 λ_ _ _ _=>rfl) λnd _ _ _ _ _ _ _ hr=>'d'
def mZ:PSt:=
 (aj (bE (ai bu (aa (af 0) ag)))
  (aj (bE (ai a8 (aa (af 1) ag)))
  (aj (bE (ai dJ (aa (af 2) (aa (pFn bp (aa (af 1) ag)) ag))))
  (aj (ao true 3 pD0)
  (aj (bE (ai (dD 42).fn (aa (af 0) (aa (af 1) (aa (af 2) (aa (af 3) ag))))))
  (aw (pLC (kR (aa (pFn bp (aa (af 1) ag)) ag)) [none,some 3] (by decide) (gtN 0) qY (pOp xU (af 1) (af 0)))))))))
def d8:PFn:=fnP [false,false,false] 4 mZ
def uJ:d8.ms=[false,false,false]:=rfl
def tM(T:TT K mg):Callee P w K mg base "boxes_by" 51 ["room", "weights", "tree"] (spD K mg 3 d8.F):=aE (T.d.get 47 rfl) (au (N:=["room", "weights", "tree", "placed"]) (by decide)) (λ_ _ _ _ _ _=>ar3 λ_ _ _=>rfl) λnd _ _ _ _ _ _ _ hr=>(ar 'd' (ar 'd' (ar 'd' (ar 'd' (ar 'd' (dC (fk (gH ["room", "weights", "tree", "placed"] (ak (top 47)).names ["number", "placed"] [none,some 3] 'd' (λnd _ _ _ _ _=>'d') (λnd _ _ _ _ _=>'d')))))))))
def pA:PSt:=
 (aw (ai d8 (aa (af 1) (aa (af 2) (aa (ai cK (aa (af 0) (aa (af 1) (aa (af 2) ag)))) ag)))))
def dX:PFn:=fnP [false,false,false] 3 pA
def yD:dX.ms=[false,false,false]:=rfl
def uH(T:TT K mg):Callee P w K mg base "by_rule" 55 ["rule", "room", "weights"] (spD K mg 3 dX.F):=aE (T.d.get 54 rfl) (au (N:=["rule", "room", "weights"]) (by decide)) (λ_ _ _ _ _ _=>ar3 λ_ _ _=>rfl) λnd _ _ _ _ _ _ _ hr=>'d'
def x5:PSt:=
 (aj (ao true 1 (ai cZ (aa (af 0) (aa (ah 55) ag))))
  (aj (ao false 2 (ai ff (aa (af 1) ag)))
  (aj (ao false 3 (ai de (aa (af 0) (aa (ah 0) (aa (pOp bIx (dG (aa (ah 9) (aa (ah 40) ag))) (pFn qR (aa (pOp bEq (ai aq (aa (af 1) (aa (ah 6) ag))) (ah 0)) ag))) ag)))))
  (aj (ao false 4 (pLC (cx (pFn og (aa (pLC (kR (aa (pFn bp (aa (af 3) ag)) ag)) [none,some 3] (by decide) (gtN 0) qY (br (aa (pOp eR (ah 0) (pOp bIx (af 1) (af 0))) (aa (af 0) ag)))) ag))) [none,none] (by decide) (gtT 2 (aX (gtN 0) (aX (gtN 1) eA))) qY (af 1)))
  (aj (ao false 5 (ai (cE 42).fn (aa (af 2) (aa (af 3) (aa (af 4) ag)))))
  (aj (xIf (qO (qOf (pOp bNe (ai aZ (aa (af 2) (aa (af 3) ag))) (af 5))) (qOf (pOp bNe (ai cK (aa (bc "greatest") (aa (af 2) (aa (af 3) ag)))) (af 5)))) (aw (pBl false)) xNx)
  (aj (xIf (qOf (pOp bLt (pFn mY (aa (pFn rq (aa (af 3) ag)) ag)) (pFn bp (aa (af 3) ag)))) (aw (pBl true)) xNx)
  (aj (ao false 6 (ai dX (aa (bc "greatest") (aa (af 2) (aa (af 3) ag)))))
  (aw (pOp bEq (ai dX (aa (bc "greatest") (aa (af 2) (aa (pOp wK (af 3) (pUn tL (ah 1))) ag)))) (pOp wK (af 6) (pUn tL (ah 1)))))))))))))
def qS:PFn:=fnP [false] 7 x5
def FU(T:TT K mg):Callee P w K mg base "law" 56 ["_law_script"] (spD K mg 1 qS.F):=aE (T.d.get 75 rfl) (au (N:=["_law_script", "_law_feed_here", "_law_room_here", "_law_weights_here", "_law_order", "_law_due_here", "_law_boxes"]) (by decide)) (λ_ _ _ _ _ _=>ar1 λ_=>rfl) λnd _ _ _ _ _ _ _ hr=>(ar 'd' (ar 'd' (ar 'd' (ar (zSlc nd ["_law_script", "_law_feed_here", "_law_room_here", "_law_weights_here", "_law_order", "_law_due_here", "_law_boxes"] (ak (top 75)).names ["_law_weight", "_law_k"] [none,none] (yX rfl (gM (u7 (K:=K) rfl) Bm rfl (T.n rfl) (by first |exact boF rfl |exact boT rfl) (bP (gH ["_law_script", "_law_feed_here", "_law_room_here", "_law_weights_here", "_law_order", "_law_due_here", "_law_boxes"] (ak (top 75)).names ["_law_k", "_law_weights_here"] [none,some 3] 'd' (λnd _ _ _ _ _=>'d') (λnd _ _ _ _ _=>'d')) 'd'))) (λnd _ _ _ _ _=>'d') (λnd _ _ _ _ _=>'d')) 'd'))))
end
def fdV(a b k:Int):Val:=.lst [.int a,.int b,.int k]
def Ef:f9.G (.int 10) (.int 18)=.val (.int (10^18)):=qH ⟨by decide,by decide,by decide⟩
def dU{a m:Int}(h:0<m):0<=a.fmod m/\a.fmod m<m:=⟨Int.fmod_nonneg_of_pos a h,Int.fmod_lt_of_pos a h⟩
set_option hygiene false in
local macro_rules | `(tactic|simp![$args,*])=>do
 let l <- ("% jv N6 O4 NW Mc Ik kW MZ Mf B6 yu Lw Je JX JO Kt Ij KG Jy FC DH Kg ze EE KL Oj NX v_bl MY v_ty v_un v_op Nc IQ v_fn Nh NN NB MF c_of c_tr c_an c_o c_no x_nx x_bk HD Mk GG FL FF Lo El x_if N8 NY Mu EZ By Dk g_n g_sn g_sc g_t g_x Ig Np NO OZ Gd Mj NG M5 M4 NJ J7 Ll Mz HQ Dy Oo MP JA Ke L8 JU Ms Ov gr v_lc Hr H0 KC o_n o_s v_sl v_d0 NF fx_G NP MV k_lt k_gt k_ge Nv OX k_ix LZ K1 Mb k_eq k_ne NC OB NS Oa OM N3 Ng ER IL Bz bZ List.getElem?_cons_zero List.getElem?_cons_succ List.set_cons_zero List.set_cons_succ List.length_cons List.length_nil Option.bind_some Option.map_some Option.isSome_some if_true if_false Bool.not_true Bool.not_false Bool.and_true Bool.true_and Bool.and_false Bool.false_and Bool.or_true Bool.true_or Bool.or_false Nat.reduceLeDiff Nat.reduceLT Nat.reduceAdd Nat.reduceSub Nat.zero_add Nat.add_zero Nat.sub_self List.cons_append List.nil_append List.append_nil List.replicate reduceCtorEq decide_true decide_false Bool.false_eq_true List.all_cons List.all_nil List.isEmpty_nil List.map_cons List.map_nil Int.reduceBEq Int.reduceLT Int.reduceAdd Int.reduceSub Int.reduceMul Int.cast_ofNat_Int K6 E2 KW Ks Fp BE Lh AG Fz Lx FX zj E1 Kl Bc Jb Fm Lc BM HE IX GQ OL OY M1 OF zk zu Af xK u6 Al Bb Ah zx ati0 ati1 ati2 ati3 ixn0 ixn1 MU bL K7 Int.reduceNeg GF JC N1 uY u9 w9 tQ uW oP xO rn u4 uX lM uQ kY oQ zF rV tK me iI AI sM u5 Dv C2 zY zr yt uN pS rJ oq FH nA pR oJ lZ qa uf uA yq pW tP uU uJ yD mF Ba Ga".splitOn " ").tail.mapM λs=>`(Lean.Parser.Tactic.simpLemma| $(Lean.mkIdent s.toName):term)
 `(tactic|simp only[$(l.toArray),*,$args,*])
def aB{a b k m:Int}(h0:0<m)(hm:Sm 8000 m):∃r a' b',aq.G [fdV a b k,.int m]=.ok (.val (.int r)) [fdV a' b' k]/\0<=r/\r<m:=by
 unfold aq;rw[aC];unfold nN fdV;have m0:m≠0:=by omega
 have d1:=λi=>fj (i:=i) m0;have d2:=λi=>kK (i:=i) (CDivB.of m0 hm);have ca:∀x:Int,CMulA 7919 x:=λx=>CMulA.left (by decide) (by decide);have cb:∀x:Int,CMulA 104729 x:=λx=>CMulA.left (by decide) (by decide);have cc:∀x:Int,CMulA x 48271:=λx=>CMulA.right (by decide) (by decide);have e1:cp.G (.int a) (.int 1000003)=.val (.int (a.fmod 1000003)):=fj (by decide);have e2:aD.G (.int 7919) (.int k)=.val (.int (7919*k)):=aH (ca k);have e3:=λx=>aH (cb x);have e4:=λx=>aH (cc x);have e5:∀x:Int,cp.G (.int x) (.int 2147483647)=.val (.int (x.fmod 2147483647)):=λx=>fj (by decide);have e6:∀x:Int,cp.G (.int x) (.int 65521)=.val (.int (x.fmod 65521)):=λx=>fj (by decide);have e7:∀x y:Int,aD.G (.int (x.fmod 2147483647)) (.int y)=.val (.int (x.fmod 2147483647*y)):=λx y=>aH (CMulA.left (by have:=(dU (a:=x) (m:=2147483647) (by decide)).1;omega) (by have:=(dU (a:=x) (m:=2147483647) (by decide)).2;omega));have e8:∀x:Int,cp.G (.int x) (.int 2147483629)=.val (.int (x.fmod 2147483629)):=λx=>fj (by decide);by_cases hc:(10^18:Int)<=a
 .have hc':decide ((10^18:Int)<=a)=true:=A_ hc;refine⟨a.fmod m,a.fdiv m,b+1,?_,dU h0⟩;simp![Ef,hc',d1,d2]
  done
 .have hc':decide ((10^18:Int)<=a)=false:=w_ hc;refine⟨Int.fmod (Int.fmod (Int.fmod ((Int.fmod a 1000003+7919*k+104729*(b+1))*48271) 2147483647*(Int.fmod (Int.fmod ((Int.fmod a 1000003+7919*k+104729*(b+1))*48271) 2147483647) 65521+(b+1))) 2147483629) m,a,b+1,?_,dU h0⟩;simp![Ef,hc',d1,e1,e2,e3,e4,e5,e6,e7,e8]
def zV(w:Bool):dZ.G [.str (wy w)]=.ok (.val (.bl true)) []:=by
 have i1:∀x:Str,(bC cu).G [.str x,.ty "str"]=.val (.bl true):=λ_=>rfl;have i2:bIn.G (.str (wy w)) (.tup [.str "across",.str "down"])=.val (.bl true):=by cases w <;> rfl
 unfold dZ;rw[aC];unfold md;simp![i1,i2]
def Ac{w:Bool}{ts:List Val}(h:2<=ts.length):cG.G [.tup [.str (wy w),.tup ts]]=.ok (.val (.bl true)) []:=by have e:=zV w;have i1:∀xs:List Val,(bC cu).G [.tup xs,.ty "tuple"]=.val (.bl true):=λ_=>rfl;have g:decide ((2:Int)<=(ts.length:Nat))=true:=A_ (by omega);unfold cG;rw[aC];unfold iE;simp![i1,e,yp,g]
def AA{a:Val}(h:lfV a=true):cG.G [a]=.ok (.val (.bl false)) []:=by
 have i1:(bC cu).G [a,.ty "tuple"]=.val (.bl false):=by cases a <;> first |rfl |(cases h;done)
 unfold cG;rw[aC];unfold iE;simp![i1]
def yH(k:Nat):bJ.G [.int (k:Nat)]=.ok (.val (.bl true)) []:=by have i1:(bC cu).G [.int (k:Nat),.ty "int"]=.val (.bl true):=rfl;have i2:(bC cu).G [.int (k:Nat),.ty "bool"]=.val (.bl false):=rfl;unfold bJ;rw[aC];unfold jl;simp![i1,i2]
theorem j5{n:Nat}(v:Val):∀(N:Nat) (st:List AT) (xs:List Int) (s4:Sl),AT.cntL st<=N->s4.pl=true->(∀t∈st,t.ok=true)->(∀k∈AT.lvsL st,k<n)->(AT.lvsL st).Nodup->(∀k∈AT.lvsL st,((k:Nat):Int)∉xs)->xs.length+(AT.lvsL st).length<=3000->AT.cntL st<=100000->
 ∃(ys:List Int) (s4':Sl),ys.length=xs.length+(AT.lvsL st).length/\(xWh (qTr (af 3)) c9).G [.sh v,.sh (.int (n:Nat)),.ow (.set xs),.ow (.lst (st.map atV)),s4]=.nx [.sh v,.sh (.int (n:Nat)),.ow (.set ys),.ow (.lst []),s4']
 |
  N,[],xs,s4,_,_,_,_,_,_,_,_=>⟨xs,s4,by simp [AT.lvsL],by
  rw[fC];simp![O_,mj,List.isEmpty_nil]⟩
 |
  0,t::ts,xs,s4,h,_,_,_,_,_,_,_=>by
  rw[AT.cntL] at h;cases t <;> (rw[AT.cnt] at h;omega)
 |
  N+1,t0::ts0,xs,s4,hN,h4,ho,hn,nd,hx,hl,hc=>by
  obtain⟨st,t,hst⟩:∃st t,t0::ts0=st++[t]:=⟨(t0::ts0).dropLast,(t0::ts0).getLast (by simp),(List.dropLast_concat_getLast (by simp)).symm⟩;rw[hst] at hN ho hn nd hx hl hc ⊢;rw[AT.lvsL_app] at hn nd hx hl;rw[AT.lvsL_app];rw[AT.cntL_app] at hN hc;have hn0:((st++[t]).map atV).isEmpty=false:=by cases st <;> rfl
  have c1:(qTr (af 3)).G [.sh v,.sh (.int (n:Nat)),.ow (.set xs),.ow (.lst ((st++[t]).map atV)),s4]=.ok true [.sh v,.sh (.int (n:Nat)),.ow (.set xs),.ow (.lst ((st++[t]).map atV)),s4]:=by simp![mj,hn0,Bool.not_false]
  have hto:=ho t (by simp);rw[fC,c1];show ∃ys s4',_/\((c9.G _).loop _)=_;rw[Pf,s_,O_];cases t with
  |
   lf k=>
   simp only[AT.lvsL,AT.lvs,Pn,z_,B_,Pd,AT.cntL,AT.cnt] at hn nd hx hl hN hc ⊢;have hk:=hn k (by simp);have hkx:=hx k (by simp);have nda:=Q8.mp nd;obtain⟨ys,s4',q1,q2⟩:=j5 (n:=n) v N st (eO xs (k:Nat)) (.sh (.int (k:Nat))) (by omega) rfl (λt ht=>ho t (by simp [ht])) (λj hj=>hn j (by simp [hj])) nda.1 (λj hj z=>by
    unfold eO at z;rw[if_neg hkx] at z;rcases H_.mp z with z |z
    .exact nda.2.2 j hj k (by simp) (Int.ofNat.inj z)
    .exact hx j (by simp [hj]) z) (by unfold eO;rw[if_neg hkx,B_];omega) (by omega)
   refine⟨ys,s4',by rw[q1];unfold eO;rw[if_neg hkx,B_];omega,?_⟩;have b1:=AA (a:=.int (k:Nat)) rfl;have w1:=yH k;have l0:decide (((k:Nat):Int)<0)=false:=w_ (by omega);have l1:decide (((n:Nat):Int)<=(k:Nat))=false:=w_ (by omega);have in1:decide (((k:Nat):Int)∈xs)=false:=w_ hkx;have av:atV (.lf k)=.int (k:Nat):=rfl;have xl:xs.length<4000:=by omega
   have bb:c9.G [.sh v,.sh (.int (n:Nat)),.ow (.set xs),.ow (.lst (st.map atV++[atV (.lf k)])),s4]=.nx [.sh v,.sh (.int (n:Nat)),.ow (.set (eO xs (k:Nat))),.ow (.lst (st.map atV)),.sh (.int (k:Nat))]:=by unfold c9;rw[av];simp![nt,h4,b1,w1,l0,l1,Mh,in1,JH,sF,Cf,xl]
   rw[bb];exact q2
  |
   nd w ts=>
   have ho':=hto;rw[AT.ok,r_] at hto;have h2:2<=ts.length:=Qs hto.1;have hk:=AT.okL_mem.mp hto.2;simp only[AT.lvsL,AT.lvs,Pn,AT.cntL,AT.cnt] at hn nd hx hl hN hc ⊢;obtain⟨ys,s4',q1,q2⟩:=j5 (n:=n) v N (st++ts) xs (.sh (atV (.nd w ts))) (by rw[AT.cntL_app];omega) rfl (λt ht=>by
    rcases Qo.mp ht with ht |ht
    .exact ho t (by simp [ht])
    .exact hk t ht) (by rw[AT.lvsL_app];exact hn) (by rw[AT.lvsL_app];exact nd) (by rw[AT.lvsL_app];exact hx) (by rw[AT.lvsL_app];exact hl) (by rw[AT.cntL_app];omega)
   rw[AT.lvsL_app] at q1;refine⟨ys,s4',q1,?_⟩;have av:atV (.nd w ts)=.tup [.str (wy w),.tup (ts.map atV)]:=by unfold atV;rw[AT.val,AT.vals_map]
   have b1:=Ac (w:=w) (ts:=ts.map atV) (by rw[k_];exact h2);have le:∀l:List AT,l.length<=AT.cntL l:=by
    intro l;induction l with
    |nil=>exact o_ _
    |cons t l ih=>rw[AT.cntL,B_];cases t <;> (rw[AT.cnt];omega)
   have ll:(st.map atV).length+(ts.map atV).length<=16777216:=by
    have:=le st
    have:=le ts
    rw[k_,k_];omega
   rw[av] at q2 ⊢;rw[Pf] at q2;have bb:c9.G [.sh v,.sh (.int (n:Nat)),.ow (.set xs),.ow (.lst (st.map atV++[.tup [.str (wy w),.tup (ts.map atV)]])),s4]=.nx [.sh v,.sh (.int (n:Nat)),.ow (.set xs),.ow (.lst (st.map atV++ts.map atV)),.sh (.tup [.str (wy w),.tup (ts.map atV)])]:=by unfold c9;simp![nt,h4,b1,pE,ll]
   rw[bb];exact q2
def wZ{t:AT}{n:Nat}(ho:t.ok=true)(hn:∀k∈t.lvs,k<n)(nd:t.lvs.Nodup)(hl:t.lvs.length=n)(h3:n<=3000)(hc:t.cnt<=100000):fW.G [atV t,.int (n:Nat)]=.ok (.val (.bl true)) []:=by
 have e1:AT.lvsL [t]=t.lvs:=by simp [AT.lvsL]
 have e2:AT.cntL [t]=t.cnt:=by simp [AT.cntL]
 obtain⟨ys,s4',q1,q2⟩:=j5 (n:=n) (atV t) (AT.cntL [t]) [t] [] .no (o_ _) rfl (λu hu=>by rw[Pw] at hu;rw[hu];exact ho) (by rw[e1];exact hn) (by rw[e1];exact nd) (λk hk z=>nomatch z) (by rw[e1,hl];simp;exact h3) (by rw[e2];exact hc);rw[e1,hl,Pd,Nat.zero_add] at q1;rw[s_,O_] at q2;unfold fW;rw[aC];unfold pz;generalize atV t=tv at *;simp![LH,q2,zW,q1,QO]
def pQ{t:AT}{n:Nat}(ho:t.ok=true)(hn:∀k∈t.lvs,k<n)(nd:t.lvs.Nodup)(hl:t.lvs.length=n)(h3:n<=3000)(hc:t.cnt<=100000):dJ.G [atV t,.int (n:Nat)]=.ok (.val .non) []:=by have e:=wZ ho hn nd hl h3 hc;unfold dJ;rw[aC];unfold jR;generalize atV t=tv at *;simp![e]
def gw(a:Int):(if a<0 then -a else a)=((a.natAbs:Nat):Int):=by split <;> omega
theorem uB:∀(n one bi:Nat),bi<=n->(xWh (qOf (pOp bNe (af 1) (ah 0))) cN).G [.sh (.int (one:Nat)),.sh (.int (bi:Nat))]=.nx [.sh (.int (Nat.gcd one bi:Nat)),.sh (.int 0)]
 |
  n,one,0,_=>by
  rw[fC];simp![jv];rw[Nat.gcd_zero_right];try rfl
 |0,one,bi+1,hl=>absurd hl (by omega)
 |
  n+1,one,bi+1,hl=>by
  rw[fC];have e:((((bi+1:Nat):Int)==0))=false:=by rw[D_];omega
  have e1:cp.G (.int (one:Nat)) (.int ((bi+1:Nat):Int))=.val (.int (((one:Nat):Int).fmod ((bi+1:Nat):Int))):=fj (by omega);have e2:((one:Nat):Int).fmod ((bi+1:Nat):Int)=((one % (bi+1):Nat):Int):=by rw[Int.fmod_eq_emod_of_nonneg _ (by omega)];rfl
  have ih:=uB n (bi+1) (one % (bi+1)) (by have:=Nat.mod_lt one (show bi+1>0 by omega);omega);rw[Fr.euc] at ih;rw[e2] at e1;have bb:cN.G [.sh (.int (one:Nat)),.sh (.int ((bi+1:Nat):Int))]=.nx [.sh (.int ((bi+1:Nat):Int)),.sh (.int ((one % (bi+1):Nat):Int))]:=by unfold cN;simp![e1]
  simp![e,bb,ih]
def cP(a b:Int):bG.G [.int a,.int b]=.ok (.val (.int (Int.gcd a b:Nat))) []:=by
 unfold bG;rw[aC];unfold gJ
 have:=uB b.natAbs a.natAbs b.natAbs (o_ _)
 simp![gw,this];rfl
def eG{a b:Int}(hb:b≠0)(hs:Sm 8000 b):bX.G [.int a,.int b]=.ok (.val (fV ((a:Rat)/(b:Rat)))) []:=by
 unfold bX;rw[aC];unfold nz;have e:(b==0)=false:=by rw[D_];exact hb
 have c:∀x,CDivB x (Fr.dv a b):=λx=>CDivB.of (Fr.dv_ne hb) (hs.of_le (by rw[Fr.dv_abs];exact Nat.le_of_dvd (by omega) (Nat.gcd_dvd_right a.natAbs b.natAbs)));have k1:=kK (c a);have k2:=kK (c b);have hh:=mR (a:=a) hb;have ii:Val.tup [.int (a.fdiv (Fr.dv a b)),.int (b.fdiv (Fr.dv a b))]=fV ((a:Rat)/(b:Rat)):=by unfold fV;rw[<- hh.1,<- hh.2];rfl
 by_cases hn:b<0
 .have hd:Fr.dv a b=-((Int.gcd a b:Nat):Int):=by unfold Fr.dv;rw[if_pos hn]
  rw[hd] at k1 k2 ii;simp![e,cP,A_ hn,k1,k2,ii]
 .have hd:Fr.dv a b=((Int.gcd a b:Nat):Int):=by unfold Fr.dv;rw[if_neg hn]
  rw[hd] at k1 k2 ii;simp![e,cP,w_ hn,k1,k2,ii]
def C9{p q:Rat}{n m:Nat}(hp:Sz n p)(hq:Sz m q)(h:n+m<=8000):iZ.G [fV p,fV q]=.ok (.val (fV (p+q))) []:=by have c1:=aH (CMulA.of hp.top hq.bot (by omega) (by omega));have c2:=aH (CMulA.of hq.top hp.bot (by omega) (by omega));have c3:=aH (CMulA.of hp.bot hq.bot (by omega) (by omega));have fe:=eG (a:=p.num*q.den+q.num*p.den) (b:=p.den*q.den) (QB (cD p) (cD q)) ((hp.bot.mul hq.bot).mono h);rw[<- vv] at fe;unfold iZ;rw[aC];unfold vm;rw[show fV p=.tup [.int p.num,.int p.den] from rfl,show fV q=.tup [.int q.num,.int q.den] from rfl];simp![c1,c2,c3,fe]
def tD{p q:Rat}{n m:Nat}(hp:Sz n p)(hq:Sz m q)(h:n+m<=8000):gv.G [fV p,fV q]=.ok (.val (fV (p*q))) []:=by have c1:=aH (CMulA.of hp.top hq.top (by omega) (by omega));have c2:=aH (CMulA.of hp.bot hq.bot (by omega) (by omega));have fe:=eG (a:=p.num*q.num) (b:=p.den*q.den) (QB (cD p) (cD q)) ((hp.bot.mul hq.bot).mono h);rw[<- vO] at fe;unfold gv;rw[aC];unfold vJ;rw[show fV p=.tup [.int p.num,.int p.den] from rfl,show fV q=.tup [.int q.num,.int q.den] from rfl];simp![c1,c2,fe]
def jq{p q:Rat}{n m:Nat}(hp:Sz n p)(hq:Sz m q)(h1:n<=100000)(h2:m<=100000):dN.G [fV p,fV q]=.ok (.val (.bl (decide (p<q)))) []:=by have c1:=aH (CMulA.of hp.top hq.bot h1 h2);have c2:=aH (CMulA.of hq.top hp.bot h2 h1);unfold dN;rw[aC];unfold pb;rw[show fV p=.tup [.int p.num,.int p.den] from rfl,show fV q=.tup [.int q.num,.int q.den] from rfl];simp![c1,c2];rw[show decide (p.num*(q.den:Int)<q.num*(p.den:Int))=decide (p<q) from QP.mpr (iK p q).symm]
def kN{v:Val}(hk:knV v=true):(bC cu).G [v,.ty "tuple"]=.val (.bl (fg v)):=by cases v <;> first |rfl |cases hk
def ig{v:Val}(hk:knV v=true):bJ.G [v]=.ok (.val (.bl (jh v))) []:=by unfold bJ;rw[aC];unfold jl;cases v <;> first |rfl |cases hk
def sk(v:Val):fg v=false\/∃xs,v=.tup xs:=by cases v <;> first |exact .inr ⟨_,rfl⟩ |exact .inl rfl
def lN(v:Val):jh v=false\/∃i,v=.int i:=by cases v <;> first |exact .inr ⟨_,rfl⟩ |exact .inl rfl
def MR{v:Val}(h:fg v=false):aN v=false:=by cases v <;> first |rfl |cases h
def Ml{v:Val}(h:fg v=false):fU v=false:=by cases v <;> first |rfl |cases h
def KS{a b:Val}(h:jh a=false):aN (.tup [a,b])=false:=by cases a <;> first |rfl |cases h
def JK{i:Int}{b:Val}(h:jh b=false):aN (.tup [.int i,b])=false:=by cases b <;> first |rfl |cases h
def MW{xs:List Val}(hl:xs.length≠2):aN (.tup xs)=false:=by
 unfold aN;split
 .rename_i e;injection e with e;subst e;exact absurd rfl hl
 .rfl
def Og{xs:List Val}(hl:xs.length≠4):fU (.tup xs)=false:=by
 unfold fU;split
 .rename_i e;injection e with e;subst e;exact absurd rfl hl
 .rfl
def Ej{k:Nat}{v:Val}(ha:ij k v=true)(h:fg v=false):knV v=true:=by
 cases v with
 |tup xs=>cases h
 |_=>cases k <;> exact ha
def n8{v:Val}(ha:ij 1 v=true):cC.G [v]=.ok (.val (.bl (aN v))) []:=by
 unfold cC;rw[aC];unfold jE;rcases sk v with ht |⟨xs,rfl⟩
 .have it:=kN (Ej ha ht);rw[ht] at it;simp![it,MR ht]
 have it:=kN (v:=.tup xs) rfl;by_cases hl:xs.length=2
 .match xs,hl,ha with
  |
   [a,b],_,ha=>
   have ha':(knV a&&(knV b&&true))=true:=by simpa [ij] using ha
   simp only[r_] at ha';have w1:=ig ha'.1;have w2:=ig ha'.2.1;rcases lN a with h1 |⟨i,rfl⟩
   .rw[h1] at w1;simp![it,fg,w1,KS h1]
   rcases lN b with h2 |⟨j,rfl⟩
   .rw[h2] at w2;simp![it,fg,w1,jh,w2,JK h2]
   have f:aN (.tup [.int i,.int j])=(decide (1<=j)&&decide (Int.gcd i j=1)):=rfl;have g:((((Int.gcd i j:Nat):Int)==1):Bool)=decide (Int.gcd i j=1):=by rw[Ru,Pa,QG];omega
   by_cases hj:1<=j
   .simp![it,fg,w1,w2,jh,cP,A_ hj,f,g]
   .simp![it,fg,w1,w2,jh,cP,w_ hj,f,g]
 .have e:(((xs.length:Nat):Int)==2)=false:=by rw[D_];omega
  simp![it,fg,e,MW hl]
def pJ{v:Val}(ha:ij 2 v=true):gQ.G [v]=.ok (.val (.bl (fU v))) []:=by
 unfold gQ;rw[aC];unfold sC;rcases sk v with ht |⟨xs,rfl⟩
 .have it:=kN (Ej ha ht);rw[ht] at it;simp![it,Ml ht]
 have it:=kN (v:=.tup xs) rfl;by_cases hl:xs.length=4
 .match
   xs,hl,ha with
  |
   [a,b,c,d],_,ha=>
   have e1:fU (.tup [a,b,c,d])=(aN a&&(aN b&&(aN c&&(aN d&&(jw c&&jw d))))):=rfl;have bl4:∀x y z w:Bool,j0 [.bl x,.bl y,.bl z,.bl w]=some [x,y,z,w]:=λ_ _ _ _=>rfl;obtain⟨e',⟨s',rfl,_⟩,lc⟩:=oF (g:=(gtN 0).G) (F:=(ai cC (aa (af 0) ag)).G) (f:=λv=>.bl (aN v)) (λe=>∃s,e=[s]/\s.pl=true) [a,b,c,d] [] [.no] ⟨.no,rfl,rfl⟩ (by
    rintro v hv e ⟨s,rfl,hs⟩;have hv':ij 1 v=true:=O9.mp (by simpa [ij] using ha) v hv;refine⟨[.sh v],.val (.bl (aN v)),[.sh v],?_,?_,rfl,⟨_,rfl,rfl⟩⟩
    .simp![hs]
    .simp![n8 hv']) (by simp)
   have cy:cY=qY.G:=rfl;rw[cy,Ph] at lc;simp only[s_,O_] at lc;cases hA:(aN a&&(aN b&&(aN c&&aN d))) with
   |
    true=>
    simp only[r_] at hA;obtain⟨p,rfl⟩:=AF hA.2.2.1;obtain⟨q,rfl⟩:=AF hA.2.2.2;rw[hA.1,hA.2.1,hA.2.2.1,hA.2.2.2] at e1 lc;have e2:fU (.tup [a,b,fV p,fV q])=(decide (0<p.num)&&decide (0<q.num)):=by rw[e1];rfl
    rw[e2];have i1:(fV p).items=some [.int p.num,.int p.den]:=rfl;have i2:(fV q).items=some [.int q.num,.int q.den]:=rfl;by_cases hp:0<p.num
    .simp![it,fg,lc,bL,bl4,id,i1,i2,A_ hp]
    .simp![it,fg,lc,bL,bl4,id,i1,w_ hp]
   |
    false=>
    have e2:fU (.tup [a,b,c,d])=false:=by rw[e1];revert hA;generalize aN a=a',aN b=b',aN c=c',aN d=d',(jw c&&jw d)=z;revert a' b' c' d' z;decide
    rw[e2];simp![it,fg,lc,bL,bl4,id,hA]
 .have e:(((xs.length:Nat):Int)==4)=false:=by rw[D_];omega
  simp![it,fg,e,Og hl]
def rC{v:Val}(ha:ij 2 v=true):bu.G [v]=if fU v=true then .ok (.val .non) [] else .exc "NoBox" []:=by
 unfold bu;rw[aC];unfold lG;cases h:fU v with
 |true=>simp![pJ ha,h]
 |false=>simp![pJ ha,h]
def fo{b:Bx}(hb:b.Ok):bu.G [bV b]=.ok (.val .non) []:=by rw[rC (LP b),CQ hb];rfl
def Mw{v:Val}(h:jh v=false):gZ v=false:=by cases v <;> first |rfl |cases h
def DJ(v:Val):jO v=false\/∃xs,v=.lst xs:=by cases v <;> first |exact .inr ⟨_,rfl⟩ |exact .inl rfl
def rX{v:Val}(hk:knV v=true):dB.G [v]=.ok (.val (.bl (gZ v))) []:=by
 have w:=ig hk;unfold dB;rw[aC];unfold lB;rcases lN v with h |⟨i,rfl⟩
 .rw[h] at w;simp![w,Mw h]
 .simp![w,jh];rfl
def vc{v:Val}(hk:knV v=true):(bC cu).G [v,.ty "list"]=.val (.bl (jO v)):=by cases v <;> first |rfl |cases hk
noncomputable def xk(v:Val):R3F:=match v with
 |.lst xs=>if xs=[] then .exc "NoWeights" [] else if xs.all gZ=true then (if xs.length<=40 then .ok (.val .non) [] else .exc "TooMany" []) else .exc "NoWeights" []
 |_=>.exc "NoWeights" []
def HK{v:Val}(h:jO v=false):xk v=.exc "NoWeights" []:=by cases v <;> first |rfl |cases h
noncomputable def uk:Val->Bool
 |.lst xs=>decide (xs.length<=1000)&&xs.all knV
 |v=>knV v
def GU{v:Val}(h:uk v=true)(hl:jO v=false):knV v=true:=by cases v <;> first |(cases hl;done) |exact h
theorem jj(f:Val->Bool):∀xs:List Val,j0 (xs.map λv=>.bl (f v))=some (xs.map f)
 | []=>rfl
 |x::xs=>by show (j0 (xs.map λv=>.bl (f v))).map (f x :: ·)=_;rw[jj f xs];rfl
def i5(f:Val->Bool)(xs:List Val):(xs.map f).all id=xs.all f:=by rw[List.all_map];rfl
def lY{v:Val}(ha:uk v=true):a8.G [v]=xk v:=by
 unfold a8;rw[aC];unfold gY;rcases DJ v with hv |⟨xs,rfl⟩
 .have il:=vc (GU ha hv);rw[hv] at il;rw[HK hv];simp![il]
 .have ha':xs.length<=1000/\xs.all knV=true:=by simpa [uk] using ha
  have il:=vc (v:=.lst xs) rfl;unfold xk;dsimp only;by_cases h0:xs=[]
  .subst h0;simp![il]
  .have e0:(((xs.length:Nat):Int)==0)=false:=by rw[D_];intro z;exact h0 (List.length_eq_zero_iff.mp (by omega))
   rw[if_neg h0];obtain⟨e',p',lc⟩:=oF (g:=(gtN 0).G) (F:=(ai dB (aa (af 0) ag)).G) (f:=λv=>.bl (gZ v)) (λe=>∃s,e=[s]/\s.pl=true) xs [] [.no] ⟨.no,rfl,rfl⟩ (by
    rintro v hv e ⟨s,rfl,hs⟩;refine⟨[.sh v],.val (.bl (gZ v)),[.sh v],?_,?_,rfl,⟨_,rfl,rfl⟩⟩
    .simp![hs]
    .simp![rX (O9.mp ha'.2 v hv)]) (by simp;omega)
   obtain⟨s',rfl,_⟩:=p';have cy:cY=qY.G:=rfl;rw[cy,Ph] at lc;have be:(xs.map λv=>Val.bl (gZ v)).length<=16777216:=by rw[k_];omega
   by_cases hw:xs.all gZ=true
   .rw[if_pos hw];by_cases h40:xs.length<=40
    .have hd:decide ((40:Int)<((xs.length:Nat):Int))=false:=w_ (by omega);rw[if_pos h40];simp![il,e0,bL,lc,be,jj,i5,hw,hd]
    .have hd:decide ((40:Int)<((xs.length:Nat):Int))=true:=A_ (by omega);rw[if_neg h40];simp![il,e0,bL,lc,be,jj,i5,hw,hd]
   .have hw':xs.all gZ=false:=Bool.eq_false_iff.mpr hw;rw[if_neg hw];simp![il,e0,bL,lc,be,jj,i5,hw']
def tT{ws:List Int}(h0:ws≠[])(h1:∀w∈ws,1<=w)(h2:ws.length<=40):a8.G [.lst (ws.map .int)]=.ok (.val .non) []:=by
 have ha:uk (.lst (ws.map .int))=true:=by simp only[uk,r_,QG,k_];exact⟨by omega,by rw[O9];intro v hv;obtain⟨w,_,rfl⟩:=PH.mp hv;rfl⟩
 rw[lY ha];unfold xk;dsimp only;rw[if_neg (by intro z;exact h0 (List.map_eq_nil_iff.mp z)),if_pos (by rw[O9];intro v hv;obtain⟨w,hw,rfl⟩:=PH.mp hv;exact A_ (h1 w hw)),if_pos (by rw[k_];exact h2)]
def nD:cB (.str "down") (.str "across")=some false:=by rw[L3.eq_str (by decide) (by decide)];exact PF some (by decide)
def nh:cB (.str "across") (.str "across")=some true:=by rw[L3.eq_str (by decide) (by decide)];exact PF some (by decide)
noncomputable def prV(p:Rat×Rat):Val:=.tup [fV p.1,fV p.2]
theorem vK{s l:Rat}{n m:Nat}{W:Int}{wv:Val}(hs:Sz n s)(hl:Sz n l)(hW:0<W)(mW:Sm m W)(h:n+n+m<=8000):∀(ws:List Int) (a:Int) (acc:List (Rat×Rat)) (s6 s7:Sl),s6.pl=true->s7.pl=true->0<=a->(∀w∈ws,0<=w)->a+ws.sum<=W->acc.length+ws.length<=16777216->∃s6' s7',eU (gtN 6).G ia.G (ws.map .int) [.sh (fV s),.sh (fV l),.sh wv,.sh (.int W),.sh (.int a),.ow (.lst (acc.map prV)),s6,s7]=.nx [.sh (fV s),.sh (fV l),.sh wv,.sh (.int W),.sh (.int (a+ws.sum)),.ow (.lst ((acc++shL s l W a ws).map prV)),s6',s7']
 | [],a,acc,s6,s7,h6,h7,ha,hw,hsum,be=>⟨s6,s7,by rw[O_,gr,List.sum_nil,Int.add_zero];unfold shL;rw[Pn]⟩
 |
  w::ws,a,acc,s6,s7,h6,h7,ha,hw,hsum,be=>by
  have hw0:=hw w (n_ ..);have hws:0<=ws.sum:=by
   have:∀l:List Int,(∀w∈l,0<=w)->0<=l.sum:=by
    intro l;induction l with
    |nil=>intro _;simp
    |cons x l ih=>intro hx;rw[Pe];have:=hx x (n_ ..);have:=ih λw hw=>hx w (m_ _ hw);omega
   exact this ws λx hx=>hw x (m_ _ hx)
  rw[Pe] at hsum;rw[B_] at be;have sa:Sm m a:=mW.of_le (by omega);have sw:Sm m w:=mW.of_le (by omega);have f1:=eG (a:=a) (b:=W) (by omega) (mW.mono (by omega));have f2:=eG (a:=w) (b:=W) (by omega) (mW.mono (by omega));have z1:Sz m ((a:Rat)/(W:Rat)):=Sz.div (by omega) sa mW m (o_ _) (o_ _);have z2:Sz m ((w:Rat)/(W:Rat)):=Sz.div (by omega) sw mW m (o_ _) (o_ _);have t1:=tD hl z1 (by omega);have t2:=tD hl z2 (by omega);have ad:=C9 hs (hl.mul z1) (by omega);have ll:(acc.map prV).length<16777216:=by rw[k_];omega
  obtain⟨t6,t7,ih⟩:=vK (wv:=wv) hs hl hW mW h ws (a+w) (acc++[(s+l*((a:Rat)/(W:Rat)),l*((w:Rat)/(W:Rat)))]) (.sh (.int w)) (.sh (fV (s+l*((a:Rat)/(W:Rat))))) rfl rfl (by omega) (λx hx=>hw x (m_ _ hx)) (by omega) (by simp;omega);refine⟨t6,t7,?_⟩;have g1:(gtN 6).G (.int w) [.sh (fV s),.sh (fV l),.sh wv,.sh (.int W),.sh (.int a),.ow (.lst (acc.map prV)),s6,s7]=some [.sh (fV s),.sh (fV l),.sh wv,.sh (.int W),.sh (.int a),.ow (.lst (acc.map prV)),.sh (.int w),s7]:=by simp![h6]
  have b1:ia.G [.sh (fV s),.sh (fV l),.sh wv,.sh (.int W),.sh (.int a),.ow (.lst (acc.map prV)),.sh (.int w),s7]=.nx [.sh (fV s),.sh (fV l),.sh wv,.sh (.int W),.sh (.int (a+w)),.ow (.lst ((acc++[(s+l*((a:Rat)/(W:Rat)),l*((w:Rat)/(W:Rat)))]).map prV)),.sh (.int w),.sh (fV (s+l*((a:Rat)/(W:Rat))))]:=by unfold ia;rw[Pf];simp![h7,f1,f2,t1,t2,ad,ll,prV]
  rw[s_,dY,g1];simp only[b1,kW];rw[ih,Pe];rw[show shL s l W a (w::ws)=(s+l*((a:Rat)/(W:Rat)),l*((w:Rat)/(W:Rat)))::shL s l W (a+w) ws from rfl,P_,show a+w+ws.sum=a+(w+ws.sum) by omega];rfl
def pG{s l:Rat}{n m:Nat}{ws:List Int}(hs:Sz n s)(hl:Sz n l)(hw:∀w∈ws,0<=w)(h0:0<ws.sum)(mW:Sm m ws.sum)(h:n+n+m<=8000)(be:ws.length<=1000):fF.G [fV s,fV l,.lst (ws.map .int)]=.ok (.new (.lst ((shL s l ws.sum 0 ws).map prV))) []:=by obtain⟨s6,s7,lo⟩:=vK (wv:=.lst (ws.map .int)) hs hl h0 mW h ws 0 [] .no .no rfl rfl (by omega) hw (by omega) (by simp;omega);rw[Ph,O_] at lo;unfold fF;rw[aC];unfold rM;simp![lo]
def KP{way:Str}(hw:way="across" \/ way="down"):eD.G [.str way]=.ok (.val .non) []:=by
 have i1:∀x:Str,(bC cu).G [.str x,.ty "str"]=.val (.bl true):=λ_=>rfl;have i2:bIn.G (.str way) (.tup [.str "across",.str "down"])=.val (.bl true):=by rcases hw with rfl |rfl <;> rfl
 have e1:dZ.G [.str way]=.ok (.val (.bl true)) []:=by unfold dZ;rw[aC];unfold md;simp![i1,i2]
 unfold eD;rw[aC];unfold lF;simp![e1]
def kh{b:Bx}{n m:Nat}{way:Str}{ws:List Int}(hb:b.Ok)(hs:b.Sz n)(hway:way="across" \/ way="down")(h0:ws≠[])(hw:∀w∈ws,1<=w)(mW:Sm m ws.sum)(h:n+n+m<=8000)(be:ws.length<=40):dW.G [bV b,.str way,.lst (ws.map .int)]=.ok (.new (.lst ((aA b way ws).map bV))) []:=by
 have cw:=tT h0 hw be;have cy:=KP hway;have sp:0<ws.sum:=by
  cases ws with
  |nil=>exact absurd rfl h0
  |
   cons x l=>
   rw[Pe]
   have:=hw x (n_ ..)
   have:∀l:List Int,(∀w∈l,1<=w)->0<=l.sum:=by
    intro l;induction l with
    |nil=>intro _;simp
    |cons x l ih=>intro hx;rw[Pe];have:=hx x (n_ ..);have:=ih λw hw=>hx w (m_ _ hw);omega
   have:=this l λx hx=>hw x (m_ _ hx)
   omega
 have cb:bu.G [.tup [fV b.l,fV b.t,fV b.w,fV b.h]]=.ok (.val .non) []:=fo hb;have sh1:=pG hs.l hs.w (λw z=>by have:=hw w z;omega) sp mW h (by omega);have sh2:=pG hs.t hs.h (λw z=>by have:=hw w z;omega) sp mW h (by omega);show dW.G [.tup [fV b.l,fV b.t,fV b.w,fV b.h],.str way,.lst (ws.map .int)]=_;unfold dW aA;rw[aC];unfold sX;rcases hway with rfl |rfl
 .rw[if_pos (rfl:("across" : Str)="across")];have ln:=iO b.l b.w ws.sum ws 0;obtain⟨e',⟨s,t,rfl,_,_⟩,lc⟩:=cW (g:=(gtT 2 (aX (gtN 0) (aX (gtN 1) eA))).G) (F:=(br (aa (af 0) (aa (af 2) (aa (af 1) (aa (af 3) ag))))).G) prV (λp=>bV ⟨p.1,b.t,p.2,b.h⟩) (λe=>∃s t,e=[s,t,.sh (fV b.t),.sh (fV b.h)]/\s.pl=true/\t.pl=true) (shL b.l b.w ws.sum 0 ws) [] [.no,.no,.sh (fV b.t),.sh (fV b.h)] ⟨.no,.no,rfl,rfl,rfl⟩ (by
   rintro p hp e ⟨s,t,rfl,hs,ht⟩;refine⟨[.sh (fV p.1),.sh (fV p.2),.sh (fV b.t),.sh (fV b.h)],.val (bV ⟨p.1,b.t,p.2,b.h⟩),[.sh (fV p.1),.sh (fV p.2),.sh (fV b.t),.sh (fV b.h)],?_,?_,rfl,⟨_,_,rfl,rfl,rfl⟩⟩
   .simp![prV,hs,ht]
   .simp![bV]) (by rw[ln,Pd];omega)
  rw[Ph] at lc;have ll:((shL b.l b.w ws.sum 0 ws).map λp=>bV ⟨p.1,b.t,p.2,b.h⟩).length<=16777216:=by rw[k_,ln];omega
  rw[Pq,show (bV ∘ λp:Rat×Rat=>(⟨p.1,b.t,p.2,b.h⟩:Bx))=λp=>bV ⟨p.1,b.t,p.2,b.h⟩ from rfl];simp![cb,cy,cw,nh,sh1,lc,ll]
 .have hne:¬ (("down" : Str)="across"):=by decide
  rw[if_neg hne];have ln:=iO b.t b.h ws.sum ws 0;obtain⟨e',⟨s,t,rfl,_,_⟩,lc⟩:=cW (g:=(gtT 2 (aX (gtN 0) (aX (gtN 1) eA))).G) (F:=(br (aa (af 2) (aa (af 0) (aa (af 3) (aa (af 1) ag))))).G) prV (λp=>bV ⟨b.l,p.1,b.w,p.2⟩) (λe=>∃s t,e=[s,t,.sh (fV b.l),.sh (fV b.w)]/\s.pl=true/\t.pl=true) (shL b.t b.h ws.sum 0 ws) [] [.no,.no,.sh (fV b.l),.sh (fV b.w)] ⟨.no,.no,rfl,rfl,rfl⟩ (by
   rintro p hp e ⟨s,t,rfl,hs,ht⟩;refine⟨[.sh (fV p.1),.sh (fV p.2),.sh (fV b.l),.sh (fV b.w)],.val (bV ⟨b.l,p.1,b.w,p.2⟩),[.sh (fV p.1),.sh (fV p.2),.sh (fV b.l),.sh (fV b.w)],?_,?_,rfl,⟨_,_,rfl,rfl,rfl⟩⟩
   .simp![prV,hs,ht]
   .simp![bV]) (by rw[ln,Pd];omega)
  rw[Ph] at lc;have ll:((shL b.t b.h ws.sum 0 ws).map λp=>bV ⟨b.l,p.1,b.w,p.2⟩).length<=16777216:=by rw[k_,ln];omega
  rw[Pq,show (bV ∘ λp:Rat×Rat=>(⟨b.l,p.1,b.w,p.2⟩:Bx))=λp=>bV ⟨b.l,p.1,b.w,p.2⟩ from rfl];simp![cb,cy,cw,nD,sh2,lc,ll]
theorem ip{f:Nat->Val}(v:Val):∀(N:Nat) (st:List AT) (acc:List Nat) (s3:Sl),AT.cntL st<=N->s3.pl=true->(∀k∈AT.lvsL st,lfV (f k)=true)->acc.length+AT.cntL st<=100000->
 ∃(l:List Nat) (s3':Sl),l.Perm (AT.lvsL st)/\(xWh (qTr (af 2)) cq).G [.sh v,.ow (.lst (acc.map f)),.ow (.lst (st.map (AT.val f))),s3]=.nx [.sh v,.ow (.lst ((acc++l).map f)),.ow (.lst []),s3']
 |
  N,[],acc,s3,_,_,_,_=>⟨[],s3,.nil,by
  rw[fC,Pn];simp![O_,mj,List.isEmpty_nil]⟩
 |
  0,t::ts,acc,s3,h,_,_,_=>by
  rw[AT.cntL] at h;cases t <;> (rw[AT.cnt] at h;omega)
 |
  N+1,t0::ts0,acc,s3,hN,h3,hf,hl=>by
  obtain⟨st,t,hst⟩:∃st t,t0::ts0=st++[t]:=⟨(t0::ts0).dropLast,(t0::ts0).getLast (by simp),(List.dropLast_concat_getLast (by simp)).symm⟩;rw[hst] at hN hf hl ⊢;rw[AT.lvsL_app] at hf;rw[AT.lvsL_app];rw[AT.cntL_app] at hN hl;have hn0:((st++[t]).map (AT.val f)).isEmpty=false:=by cases st <;> rfl
  have c1:(qTr (af 2)).G [.sh v,.ow (.lst (acc.map f)),.ow (.lst ((st++[t]).map (AT.val f))),s3]=.ok true [.sh v,.ow (.lst (acc.map f)),.ow (.lst ((st++[t]).map (AT.val f))),s3]:=by simp![mj,hn0,Bool.not_false]
  rw[fC,c1];show ∃l s3',_/\((cq.G _).loop _)=_;rw[Pf,s_,O_];cases t with
  |
   lf k=>
   simp only[AT.lvsL,AT.lvs,Pn,AT.cntL,AT.cnt] at hf hN hl ⊢;obtain⟨l,s3',q1,q2⟩:=ip (f:=f) v N st (acc++[k]) (.sh (f k)) (by omega) rfl (λj hj=>hf j (by simp [hj])) (by rw[z_];simp only[B_,Pd];omega);refine⟨k::l,s3',((q1.cons k).trans (List.perm_append_comm (l₁:=[k]) (l₂:=AT.lvsL st))),?_⟩;have i1:(bC cu).G [f k,.ty "tuple"]=.val (.bl false):=by
    have:=hf k (by simp)
    generalize f k=a at *;cases a <;> first |rfl |(cases this;done)
   have al:(acc.map f).length<16777216:=by rw[k_];omega
   have bb:cq.G [.sh v,.ow (.lst (acc.map f)),.ow (.lst (st.map (AT.val f)++[AT.val f (.lf k)])),s3]=.nx [.sh v,.ow (.lst ((acc++[k]).map f)),.ow (.lst (st.map (AT.val f))),.sh (f k)]:=by unfold cq;rw[AT.val,Pf,s_,O_];generalize f k=a at *;simp![nt,h3,i1,al]
   rw[bb,show acc++k::l=acc++[k]++l by simp];exact q2
  |
   nd w ts=>
   simp only[AT.lvsL,AT.lvs,Pn,AT.cntL,AT.cnt] at hf hN hl ⊢;obtain⟨l,s3',q1,q2⟩:=ip (f:=f) v N (st++ts) acc (.sh (AT.val f (.nd w ts))) (by rw[AT.cntL_app];omega) rfl (by rw[AT.lvsL_app];exact hf) (by rw[AT.cntL_app];omega);rw[AT.lvsL_app] at q1;refine⟨l,s3',q1,?_⟩;have i1:∀xs:List Val,(bC cu).G [.tup xs,.ty "tuple"]=.val (.bl true):=λ_=>rfl;have le:∀l:List AT,l.length<=AT.cntL l:=by
    intro l;induction l with
    |nil=>exact o_ _
    |cons t l ih=>rw[AT.cntL,B_];cases t <;> (rw[AT.cnt];omega)
   have ll:(st.map (AT.val f)).length+(ts.map (AT.val f)).length<=16777216:=by
    have:=le st
    have:=le ts
    rw[k_,k_];omega
   rw[AT.val,AT.vals_map] at q2 ⊢;rw[Pf] at q2;have bb:cq.G [.sh v,.ow (.lst (acc.map f)),.ow (.lst (st.map (AT.val f)++[.tup [.str (wy w),.tup (ts.map (AT.val f))]])),s3]=.nx [.sh v,.ow (.lst (acc.map f)),.ow (.lst (st.map (AT.val f)++ts.map (AT.val f))),.sh (.tup [.str (wy w),.tup (ts.map (AT.val f))])]:=by unfold cq;simp![nt,h3,i1,yp,pE,ll]
   rw[bb];exact q2
def Am{f:Nat->Val}{t:AT}(hf:∀k∈t.lvs,lfV (f k)=true)(hc:t.cnt<=100000):∃l:List Nat,l.Perm t.lvs/\dE.G [t.val f]=.ok (.new (.lst (l.map f))) []:=by
 have e1:AT.lvsL [t]=t.lvs:=by simp [AT.lvsL]
 have e2:AT.cntL [t]=t.cnt:=by simp [AT.cntL]
 obtain⟨l,s3',q1,q2⟩:=ip (f:=f) (t.val f) (AT.cntL [t]) [t] [] .no (o_ _) rfl (by rw[e1];exact hf) (by rw[e2,Pd];omega);rw[e1] at q1;refine⟨l,q1,?_⟩;rw[s_,O_,O_,Ph] at q2;unfold dE;rw[aC];unfold lC;generalize t.val f=tv at *;simp![q2]
def rD{ws:List Int}{l:List Nat}(hl:l.length<=1000)(hi:∀k∈l,k<ws.length):∃s,lcV (gtN 0).G qY.G (pOp bIx (af 1) (af 0)).G (l.map λk:Nat=>.int k) [] [.no,.sh (liV ws)]=.ok ((l.map λk=>ws.getD k 0).map .int) [s,.sh (liV ws)]:=by
 obtain⟨e',⟨s,rfl,_⟩,lc⟩:=cW (g:=(gtN 0).G) (F:=(pOp bIx (af 1) (af 0)).G) (λk:Nat=>Val.int k) (λk:Nat=>Val.int (ws.getD k 0)) (λe=>∃s:Sl,e=[s,.sh (liV ws)]/\s.pl=true) l [] [.no,.sh (liV ws)] ⟨.no,rfl,rfl⟩ (by
  rintro k hk _ ⟨s,rfl,hs⟩;have h1:=hi k hk;have a1:atI (ws.map Val.int) (k:Nat)=some (.int (ws.getD k 0)):=cL (by omega) (by rw[N_];show (ws[k]?).map _=_;rw[Em,y_ h1];rfl);refine⟨[.sh (.int (k:Nat)),.sh (liV ws)],.val (.int (ws.getD k 0)),[.sh (.int (k:Nat)),.sh (liV ws)],?_,?_,rfl,_,rfl,rfl⟩
  .simp![hs]
  .unfold liV;simp![a1]) (by rw[Pd];omega)
 exact⟨s,by rw[Pq];exact lc⟩
def uG{ws:List Int}{b:Bx}{w:Bool}{ts:List AT}{n m:Nat}(h:AT.lay ws n m (.nd w ts) b)(hnm:n+n+m<=8000)(hi:∀k∈AT.lvsL ts,k<ws.length)(hl:(AT.lvsL ts).length<=1000)(hc:AT.cntL ts<=100000):ft.G [bV b,liV ws,atV (.nd w ts)]=.ok (.new (.lst ((aA b (wy w) (ts.map (wtT ws))).map bV))) []:=by
 rw[AT.lay] at h;obtain⟨h1,h2,h3,h4,h5,h6,_⟩:=h;have ew:wy w="across" \/ wy w="down":=by cases w;exact .inr rfl;exact .inl rfl
 have pe:=kh h1 h2 ew (ws:=ts.map (wtT ws)) (by simpa using h3) (λx hx=>by obtain⟨t,ht,rfl⟩:=PH.mp hx;exact h5 t ht) h6 hnm (by rw[k_];exact h4);have cle:∀t∈ts,t.cnt<=AT.cntL ts:=λt ht=>AT.cnt_le ht;have lle:∀t∈ts,t.lvs.length<=(AT.lvsL ts).length:=λt ht=>AT.lvs_le ht;obtain⟨e',⟨s,rfl,_⟩,lc⟩:=cW (g:=(gtN 0).G) (F:=(pFn eN (aa (pLC (cx (ai dE (aa (af 0) ag))) [none,some 1] (by decide) (gtN 0) qY (pOp bIx (af 1) (af 0))) ag)).G) atV (λt=>Val.int (wtT ws t)) (λe=>∃s:Sl,e=[s,.sh (liV ws)]/\s.pl=true) ts [] [.no,.sh (liV ws)] ⟨.no,rfl,rfl⟩ (by
  rintro t ht _ ⟨s,rfl,hs⟩;obtain⟨l,lp,e1⟩:=Am (f:=λk=>.int (k:Nat)) (t:=t) (λ_ _=>rfl) (by have:=cle t ht;omega);rw[show AT.val (λk=>Val.int (k:Nat)) t=atV t from rfl] at e1;obtain⟨s',lc⟩:=rD (ws:=ws) (l:=l) (by rw[lp.length_eq];have:=lle t ht;omega) (λk hk=>hi k (AT.lvsL_mem.mpr ⟨t,ht,lp.mem_iff.mp hk⟩));have ll:((l.map λk=>ws.getD k 0).map Val.int).length<=16777216:=by rw[k_,k_,lp.length_eq];have:=lle t ht;omega
  have sm:(l.map λk=>ws.getD k 0).sum=wtT ws t:=CV lp;refine⟨[.sh (atV t),.sh (liV ws)],.val (.int (wtT ws t)),[.sh (atV t),.sh (liV ws)],?_,?_,rfl,_,rfl,rfl⟩
  .generalize atV t=tv at *;simp![hs]
  .rw[<- sm];generalize atV t=tv at *;generalize liV ws=wv at *;generalize (l.map λk:Nat=>Val.int (k:Nat))=LV at *;simp![e1,bL,inS,lc,ll]) (by rw[Pd];omega)
 have av:atV (.nd w ts)=.tup [.str (wy w),.tup (ts.map atV)]:=by unfold atV;rw[AT.val,AT.vals_map]
 have lm:ts.map (λt=>Val.int (wtT ws t))=(ts.map (wtT ws)).map .int:=by rw[Pq];rfl
 have l2:((ts.map (wtT ws)).map Val.int).length<=16777216:=by rw[k_,k_];omega
 rw[Ph,lm] at lc;rw[av];generalize (aA b (wy w) (ts.map (wtT ws))).map bV=PB at *;generalize (ts.map (wtT ws)).map Val.int=SV at *;generalize ts.map atV=TV at *;generalize liV ws=wv at *;generalize bV b=bv at *;unfold ft;rw[aC];unfold nI;simp![bL,inS,lc,l2,pe]
theorem mS{ws:List Int}{n m k:Nat}(rv tv:Val):∀(ts:List AT) (bs:List Bx) (kvs:List (Key×Val)) (s4 s5:Sl),s4.pl=true->s5.pl=true->ts.length=bs.length->(∀(t:AT) (b:Bx) (kvs:List (Key×Val)),t∈ts->AT.lay ws n m t b->kvs.length+t.lvs.length<=100000->(dD k).G [bV b,liV ws,atV t,.dct kvs]=.ok (.val .non) [.dct (cJ kvs (AT.bx ws t b))])->AT.layL ws n m ts bs->kvs.length+(AT.lvsL ts).length<=100000->
 ∃s4' s5',eU (gtX (gtT 2 (aX (gtN 4) (aX (gtN 5) eA)))).G (jy (dD k)).G (List.zipWith (λx y=>Val.tup [x,y]) (ts.map atV) (bs.map bV)) [.sh rv,.sh (liV ws),.sh tv,.mu (.dct kvs),s4,s5]=.nx [.sh rv,.sh (liV ws),.sh tv,.mu (.dct (cJ kvs (AT.bxL ws ts bs))),s4',s5']
 | [],bs,kvs,s4,s5,_,_,_,_,_,_=>⟨s4,s5,by cases bs <;> rfl⟩
 |t::ts,[],kvs,s4,s5,_,_,h,_,_,_=>nomatch h
 |
  t::ts,b::bs,kvs,s4,s5,h4,h5,hl,hp,hy,hk=>by
  rw[AT.layL] at hy;rw[AT.lvsL,z_] at hk;have e1:=hp t b kvs (n_ ..) hy.1 (by omega);have be:=tS (AT.bx ws t b) kvs;have hfst:=(AT.bx_fst ws t b).1;obtain⟨s4',s5',q⟩:=mS rv tv ts bs (cJ kvs (AT.bx ws t b)) (.sh (atV t)) (.sh (bV b)) rfl rfl (by simpa using hl) (λu c kv hu=>hp u c kv (m_ _ hu)) hy.2 (by omega);refine⟨s4',s5',?_⟩;rw[AT.bxL,CS,s_,s_,List.zipWith_cons_cons,dY];generalize cJ kvs (AT.bx ws t b)=kvs1 at *;generalize atV t=av at *;generalize bV b=bv at *;generalize liV ws=wv at *;have g1:(gtX (gtT 2 (aX (gtN 4) (aX (gtN 5) eA)))).G (.tup [av,bv]) [.sh rv,.sh wv,.sh tv,.mu (.dct kvs),s4,s5]=some [.sh rv,.sh wv,.sh tv,.mu (.dct kvs),.sh av,.sh bv]:=by simp![h4,h5]
  have b1:(jy (dD k)).G [.sh rv,.sh wv,.sh tv,.mu (.dct kvs),.sh av,.sh bv]=.nx [.sh rv,.sh wv,.sh tv,.mu (.dct kvs1),.sh av,.sh bv]:=by unfold jy;simp![e1]
  rw[g1];dsimp only;rw[b1];exact q
def yh(b:Bx)(way:Str)(ws:List Int):(aA b way ws).length=ws.length:=by unfold aA;split <;> rw[k_,iO]
def gA{ws:List Int}{n m:Nat}(hnm:n+n+m<=8000)(t:AT):∀(k:Nat) (b:Bx) (kvs:List (Key×Val)),t.dep<=k->AT.lay ws n m t b->(∀i∈t.lvs,i<ws.length)->t.lvs.length<=1000->t.cnt<=100000->kvs.length+t.lvs.length<=100000->(dD k).G [bV b,liV ws,atV t,.dct kvs]=.ok (.val .non) [.dct (cJ kvs (AT.bx ws t b))]:=by
 induction t using AT.ind with
 |
  h1 x=>
  intro k b kvs hd _ _ _ _ hk;cases k with
  |zero=>simp [AT.dep] at hd
  |
   succ k=>
   have i1:(bC cu).G [.int (x:Nat),.ty "tuple"]=.val (.bl false):=rfl;have kl:kvs.length<16777216:=by omega
   have av:atV (.lf x)=.int (x:Nat):=rfl;have pe:cJ kvs (AT.bx ws (.lf x) b)=cS kvs (.inl (x:Nat)) (bV b):=by rw[AT.bx];rfl
   show (PFx.of [false,false,false,true] 6 (gx (dD k))).G [bV b,liV ws,atV (.lf x),.dct kvs]=_;rw[ki,av,pe];unfold gx;generalize bV b=bv at *;generalize liV ws=wv at *;simp![i1,HV,kl]
 |
  h2 w ts ih=>
  intro k b kvs hd hy hi hl hc hk;cases k with
  |zero=>simp [AT.dep] at hd
  |
   succ k=>
   rw[AT.dep] at hd;rw[AT.lvs] at hi hl hk;rw[AT.cnt] at hc;have hd':=AT.depL_le.mp (show AT.depL ts<=k by omega);have pe:=uG hy hnm hi hl (by omega);have hy':=hy;rw[AT.lay] at hy';obtain⟨s4,s5,lo⟩:=mS (ws:=ws) (n:=n) (m:=m) (k:=k) (bV b) (atV (.nd w ts)) ts (aA b (wy w) (ts.map (wtT ws))) kvs .no .no rfl rfl (by rw[yh,k_]) (λt c kv ht hy2 hk2=>ih t ht k c kv (hd' t ht) hy2 (λi hi2=>hi i (AT.lvsL_mem.mpr ⟨t,ht,hi2⟩)) (by have:=AT.lvs_le ht;omega) (by have:=AT.cnt_le ht;omega) hk2) hy'.2.2.2.2.2.2 hk;have av:atV (.nd w ts)=.tup [.str (wy w),.tup (ts.map atV)]:=by unfold atV;rw[AT.val,AT.vals_map]
   have bxe:AT.bx ws (.nd w ts) b=AT.bxL ws ts (aA b (wy w) (ts.map (wtT ws))):=by rw[AT.bx]
   show (PFx.of [false,false,false,true] 6 (gx (dD k))).G [bV b,liV ws,atV (.nd w ts),.dct kvs]=_;rw[ki,bxe];unfold gx;rw[av] at pe lo ⊢;have i1:∀xs:List Val,(bC cu).G [.tup xs,.ty "tuple"]=.val (.bl true):=λ_=>rfl;generalize cJ kvs (AT.bxL ws ts (aA b (wy w) (ts.map (wtT ws))))=kvs1 at *;generalize (aA b (wy w) (ts.map (wtT ws))).map bV=PB at *;generalize ts.map atV=TV at *;generalize bV b=bv at *;generalize liV ws=wv at *;simp![i1,yp,pe,lo]
def C5{ws:List Int}{n m:Nat}{b:Bx}{t:AT}(hnm:n+n+m<=8000)(hb:b.Ok)(h0:ws≠[])(hw:∀w∈ws,1<=w)(h40:ws.length<=40)(ho:t.ok=true)(hi:∀k,k∈t.lvs ↔ k<ws.length)(nd:t.lvs.Nodup)(hl:t.lvs.length=ws.length)(hd:t.dep<=42)(hy:AT.lay ws n m t b):d8.G [bV b,liV ws,atV t]=.ok (.new (.lst ((List.range ws.length).map λk=>bV (bxO (AT.bx ws t b) k)))) []:=by
 have hc:=AT.cnt_lvs t ho;have cb:=fo hb;have cw:=tT h0 hw h40;have ct:=pQ (n:=ws.length) ho (λk hk=>(hi k).mp hk) nd hl (by omega) (by omega);have pl:=gA (ws:=ws) hnm t 42 b [] hd hy (λk hk=>(hi k).mp hk) (by omega) (by omega) (by rw[Pd];omega);have ll:((ws.map Val.int).length:Nat)=ws.length:=k_ ..;have rg:iw [.int (ws.length:Nat)]=some (rgV ws.length):=nO (by omega);have keys:=AT.bx_keys ws t b;obtain⟨e',⟨s,rfl,_⟩,lc⟩:=cW (g:=(gtN 0).G) (F:=(pOp xU (af 1) (af 0)).G) (λk:Nat=>Val.int k) (λk:Nat=>bV (bxO (AT.bx ws t b) k)) (λe=>∃s:Sl,e=[s,.mu (.dct (cJ [] (AT.bx ws t b)))]/\s.pl=true) (List.range ws.length) [] [.no,.mu (.dct (cJ [] (AT.bx ws t b)))] ⟨.no,rfl,rfl⟩ (by
  rintro k hk _ ⟨s,rfl,hs⟩;rw[Pk] at hk;have lk:=Nb ((vH (k:=k) (AT.bx ws t b) [] (by rw[keys];exact nd)).1 (by rw[keys];exact (hi k).mpr hk));generalize cJ [] (AT.bx ws t b)=kv at *;generalize bV (bxO (AT.bx ws t b) k)=bv at *;refine⟨[.sh (.int (k:Nat)),.mu (.dct kv)],.val bv,[.sh (.int (k:Nat)),.mu (.dct kv)],?_,?_,rfl,_,rfl,rfl⟩
  .simp![hs]
  .simp![lk]) (by rw[Pd,Pc];omega)
 have l2:((List.range ws.length).map λk=>bV (bxO (AT.bx ws t b) k)).length<=16777216:=by simp;omega
 rw[Ph] at lc;rw[show (List.range ws.length).map (λk:Nat=>Val.int k)=rgV ws.length from rfl] at lc;generalize (List.range ws.length).map (λk=>bV (bxO (AT.bx ws t b) k))=RB at *;generalize cJ [] (AT.bx ws t b)=kv at *;unfold liV at pl ⊢;generalize atV t=tv at *;generalize bV b=bv at *;unfold d8;rw[aC];unfold mZ;simp![cb,cw,ll,ct,pl,rg,bL,inS,lc,l2]
def nY{ns:List Int}{k:Int}(hk:0<=k):∃a,cZ.G [.kl (ns.map .int),.int k]=.ok (.new (fdV a 0 k)) []:=by
 unfold cZ;rw[aC];unfold m9 fdV;by_cases h0:ns.length=0
 .have e:((((ns.map Val.int).length:Nat):Int)==0)=true:=by rw[Pa,k_];omega
  exact⟨0,by simp![e]⟩
 .have e:((((ns.map Val.int).length:Nat):Int)==0)=false:=by rw[D_,k_];omega
  have e1:cp.G (.int k) (.int ((ns.map Val.int).length:Nat))=.val (.int (k.fmod ((ns.map Val.int).length:Nat))):=fj (by rw[k_];omega);have r:=dU (a:=k) (m:=((ns.map Val.int).length:Nat)) (by rw[k_];omega);rw[k_] at r e1;have hi:(k.fmod (ns.length:Nat)).toNat<ns.length:=by omega
  have at1:atI (ns.map Val.int) (k.fmod (ns.length:Nat))=some (.int ns[(k.fmod (ns.length:Nat)).toNat]):=cL r.1 (by rw[N_,y_ hi];rfl);rw[k_] at e;exact⟨ns[(k.fmod (ns.length:Nat)).toNat],by simp![k_,e,e1,at1]⟩
def pow6:f9.G (.int 10) (.int 6)=.val (.int 1000000):=qH ⟨by decide,by decide,by decide⟩
def MX:iw [.int 6]=some [.int 0,.int 1,.int 2,.int 3,.int 4,.int 5]:=wb (i:=6) (by decide) (by decide)
def fO{a b k far:Int}(h0:0<=far)(hf:far.natAbs<=2000000000000000000000000000000):∃r a' b',bz.G [fdV a b k,.int far]=.ok (.val (.int r)) [fdV a' b' k]/\-far<=r/\r<=far:=by obtain⟨r1,a1,b1,e1,_,_⟩:=aB (a:=a) (b:=b) (k:=k) (m:=1000000) (by decide) (sm8 (by decide));obtain⟨r2,a2,b2,e2,_,_⟩:=aB (a:=a1) (b:=b1) (k:=k) (m:=1000000) (by decide) (sm8 (by decide));obtain⟨r3,a3,b3,e3,_,_⟩:=aB (a:=a2) (b:=b2) (k:=k) (m:=1000000) (by decide) (sm8 (by decide));obtain⟨r4,a4,b4,e4,_,_⟩:=aB (a:=a3) (b:=b3) (k:=k) (m:=1000000) (by decide) (sm8 (by decide));obtain⟨r5,a5,b5,e5,_,_⟩:=aB (a:=a4) (b:=b4) (k:=k) (m:=1000000) (by decide) (sm8 (by decide));obtain⟨r6,a6,b6,e6,_,_⟩:=aB (a:=a5) (b:=b5) (k:=k) (m:=1000000) (by decide) (sm8 (by decide));have c6:∀x:Int,aD.G (.int x) (.int 1000000)=.val (.int (x*1000000)):=λx=>aH (CMulA.right (by decide) (by decide));have c2:aD.G (.int 2) (.int far)=.val (.int (2*far)):=aH (CMulA.left (by decide) (by decide));have c3:∀x:Int,cp.G (.int x) (.int (2*far+1))=.val (.int (x.fmod (2*far+1))):=λx=>fj (by omega);have fr:=dU (a:=(((((0*1000000+r1)*1000000+r2)*1000000+r3)*1000000+r4)*1000000+r5)*1000000+r6) (m:=2*far+1) (by omega);refine⟨((((((0*1000000+r1)*1000000+r2)*1000000+r3)*1000000+r4)*1000000+r5)*1000000+r6).fmod (2*far+1)-far,a6,b6,?_,by omega,by omega⟩;unfold bz;rw[aC];unfold lJ j3;unfold fdV at *;simp![MX,dY,pow6,c6,e1,e2,e3,e4,e5,e6,c2,c3,Int.reduceMul]
theorem tN(x y:Val):∀(n one bi:Nat),bi<=n->(xWh (qOf (pOp bGt (af 3) (ah 0))) gk).G [.sh x,.sh y,.sh (.int (one:Nat)),.sh (.int (bi:Nat))]=.nx [.sh x,.sh y,.sh (.int (Nat.gcd one bi:Nat)),.sh (.int 0)]
 |
  n,one,0,_=>by
  rw[fC];simp![Nat.gcd_zero_right,Int.natCast_zero,Int.lt_irrefl]
 |0,one,bi+1,hl=>absurd hl (by omega)
 |
  n+1,one,bi+1,hl=>by
  rw[fC];have e:decide ((0:Int)<((bi+1:Nat):Int))=true:=A_ (by omega);have e1:cp.G (.int (one:Nat)) (.int ((bi+1:Nat):Int))=.val (.int (((one:Nat):Int).fmod ((bi+1:Nat):Int))):=fj (by omega);have e2:((one:Nat):Int).fmod ((bi+1:Nat):Int)=((one % (bi+1):Nat):Int):=by rw[Int.fmod_eq_emod_of_nonneg _ (by omega)];rfl
  have ih:=tN x y n (bi+1) (one % (bi+1)) (by have:=Nat.mod_lt one (show bi+1>0 by omega);omega);rw[Fr.euc] at ih;rw[e2] at e1;have bb:gk.G [.sh x,.sh y,.sh (.int (one:Nat)),.sh (.int ((bi+1:Nat):Int))]=.nx [.sh x,.sh y,.sh (.int ((bi+1:Nat):Int)),.sh (.int ((one % (bi+1):Nat):Int))]:=by unfold gk;simp![e1]
  simp![e,bb,ih]
def fB{a b:Int}(hb:b≠0)(hs:Sm 8000 b):aP.G [.int a,.int b]=.ok (.val (fV ((a:Rat)/(b:Rat)))) []:=by
 unfold aP;rw[aC];unfold o9;have lo:=tN (.int a) (.int b) b.natAbs a.natAbs b.natAbs (o_ _);rw[show Nat.gcd a.natAbs b.natAbs=Int.gcd a b from rfl] at lo;have c:∀x,CDivB x (Fr.dv a b):=λx=>CDivB.of (Fr.dv_ne hb) (hs.of_le (by rw[Fr.dv_abs];exact Nat.le_of_dvd (by omega) (Nat.gcd_dvd_right a.natAbs b.natAbs)));have k1:=kK (c a);have k2:=kK (c b);have hh:=mR (a:=a) hb;have ii:Val.tup [.int (a.fdiv (Fr.dv a b)),.int (b.fdiv (Fr.dv a b))]=fV ((a:Rat)/(b:Rat)):=by unfold fV;rw[<- hh.1,<- hh.2];rfl
 by_cases hn:b<0
 .have hd:Fr.dv a b=0-((Int.gcd a b:Nat):Int):=by unfold Fr.dv;rw[if_pos hn];omega
  rw[hd] at k1 k2 ii;simp![gw,lo,A_ hn,k1,k2,ii]
 .have hd:Fr.dv a b=((Int.gcd a b:Nat):Int):=by unfold Fr.dv;rw[if_neg hn]
  rw[hd] at k1 k2 ii;simp![gw,lo,w_ hn,k1,k2,ii]
def p30:f9.G (.int 10) (.int 30)=.val (.int 1000000000000000000000000000000):=qH ⟨by decide,by decide,by decide⟩
def rmQ(k:Int)(r:SR3):Prop:=∃b a c,Good b/\sS [true] r=.ok (.val (bV b)) [fdV a c k]
def rmI(k way:Int)(e:E3):Prop:=∃b x a c,Good b/\x.pl=true/\e=[.mu (fdV a c k),.sh (.int way),.sh (fV b.l),.sh (fV b.t),.sh (fV b.w),.sh (fV b.h),x]
def ju{r:Int}(h:0<=r):0<1+r:=by omega
def xo{r:Int}(h:0<=r):1+r≠0:=by omega
def iu{r m:Int}(h0:0<=r)(h1:r<m)(hm:m<=1000):(1+r).natAbs<=2000000000000000000000000000000:=by omega
def qG{r m c:Int}(h0:0<=r)(h1:r<m)(hm:m<=1000)(hc:0<=c/\c<=1000):(r-c).natAbs<=2000000000000000000000000000000:=by omega
def oa{r far:Int}(h0:-far<=r)(h1:r<=far)(hf:far<=1000000000000000000000000000000):r.natAbs<=2000000000000000000000000000000/\(1+((r.natAbs:Nat):Int)).natAbs<=2000000000000000000000000000000:=by omega
def qF{r:Int}:0<1+((r.natAbs:Nat):Int):=by omega
def Ax{r:Int}(h:0<r):r≠0:=by omega
def Fc(a c k:Int):∃b a' c',Good b/\ff.G [fdV a c k]=.ok (.val (bV b)) [fdV a' c' k]:=by
 unfold ff;rw[yg rfl];show rmQ k (jr.G [.mu (fdV a c k),.no,.no,.no,.no,.no,.no]);unfold jr;obtain⟨way,a1,c1,e1,hw0,hw1⟩:=aB (a:=a) (b:=c) (k:=k) (m:=6) (by decide) (sm8 (by decide));refine aO (λe=>e=[.mu (fdV a1 c1 k),.sh (.int way),.no,.no,.no,.no,.no]) ⟨_,by simp![e1],rfl⟩ ?_;rintro _ rfl;obtain⟨l,a2,c2,e2,hl0,hl1⟩:=aB (a:=a1) (b:=c1) (k:=k) (m:=19) (by decide) (sm8 (by decide));obtain⟨t,a3,c3,e3,ht0,ht1⟩:=aB (a:=a2) (b:=c2) (k:=k) (m:=19) (by decide) (sm8 (by decide));refine aO (λe=>e=[.mu (fdV a3 c3 k),.sh (.int way),.sh (fV ((l-9:Int):Rat)),.sh (fV ((t-9:Int):Rat)),.no,.no,.no]) ⟨_,by simp![e2,e3,iV],rfl⟩ ?_;rintro _ rfl;obtain⟨w,a4,c4,e4,hww0,hww1⟩:=aB (a:=a3) (b:=c3) (k:=k) (m:=12) (by decide) (sm8 (by decide));obtain⟨hh,a5,c5,e5,hh0,hh1⟩:=aB (a:=a4) (b:=c4) (k:=k) (m:=12) (by decide) (sm8 (by decide));refine aO (rmI k way) ⟨[.mu (fdV a5 c5 k),.sh (.int way),.sh (fV ((l-9:Int):Rat)),.sh (fV ((t-9:Int):Rat)),.sh (fV ((1+w:Int):Rat)),.sh (fV ((1+hh:Int):Rat)),.no],by simp![e4,e5,iV],⟨_,_,_,_⟩,.no,a5,c5,⟨⟨fH (ju hww0),fH (ju hh0)⟩,⟨fY (qG hl0 hl1 (by decide) (by decide)),fY (qG ht0 ht1 (by decide) (by decide)),fY (iu hww0 hww1 (by decide)),fY (iu hh0 hh1 (by decide))⟩⟩,rfl,rfl⟩ ?_;rintro _ ⟨b,x,a,c,gb,hx,rfl⟩;refine aO (rmI k way) ?_ ?_
 .by_cases hw:way=1
  .subst hw;exact⟨[.mu (fdV a c k),.sh (.int 1),.sh (fV b.l),.sh (fV b.t),.sh (fV b.w),.sh (fV b.w),x],by simp![jv],⟨b.l,b.t,b.w,b.w⟩,x,a,c,⟨⟨gb.ok.w,gb.ok.w⟩,⟨gb.sz.l,gb.sz.t,gb.sz.w,gb.sz.w⟩⟩,hx,rfl⟩
  .exact⟨_,by simp![D_.mpr hw],b,x,a,c,gb,hx,rfl⟩
 rintro _ ⟨b,x,a,c,gb,hx,rfl⟩;refine aO (rmI k way) ?_ ?_
 .by_cases hw:way=2
  .subst hw;obtain⟨r,a1,c1,e1,h0,h1⟩:=aB (a:=a) (b:=c) (k:=k) (m:=99) (by decide) (sm8 (by decide));exact⟨[.mu (fdV a1 c1 k),.sh (.int 2),.sh (fV b.l),.sh (fV b.t),.sh (fV ((1+r:Int):Rat)),.sh (fV b.h),x],by simp![e1,iV],⟨b.l,b.t,((1+r:Int):Rat),b.h⟩,x,a1,c1,⟨⟨fH (ju h0),gb.ok.h⟩,⟨gb.sz.l,gb.sz.t,fY (iu h0 h1 (by decide)),gb.sz.h⟩⟩,hx,rfl⟩
  .exact⟨_,by simp![D_.mpr hw],b,x,a,c,gb,hx,rfl⟩
 rintro _ ⟨b,x,a,c,gb,hx,rfl⟩;refine aO (rmI k way) ?_ ?_
 .by_cases hw:way=3
  .subst hw;obtain⟨r,a1,c1,e1,h0,h1⟩:=aB (a:=a) (b:=c) (k:=k) (m:=99) (by decide) (sm8 (by decide));exact⟨[.mu (fdV a1 c1 k),.sh (.int 3),.sh (fV b.l),.sh (fV b.t),.sh (fV b.w),.sh (fV ((1+r:Int):Rat)),x],by simp![e1,iV],⟨b.l,b.t,b.w,((1+r:Int):Rat)⟩,x,a1,c1,⟨⟨gb.ok.w,fH (ju h0)⟩,⟨gb.sz.l,gb.sz.t,gb.sz.w,fY (iu h0 h1 (by decide))⟩⟩,hx,rfl⟩
  .exact⟨_,by simp![D_.mpr hw],b,x,a,c,gb,hx,rfl⟩
 rintro _ ⟨b,x,a,c,gb,hx,rfl⟩;refine aO (rmI k way) ?_ ?_
 .by_cases hw:way=4
  .subst hw;obtain⟨r1,a1,c1,e1,h10,h11⟩:=aB (a:=a) (b:=c) (k:=k) (m:=199) (by decide) (sm8 (by decide));obtain⟨r2,a2,c2,e2,h20,h21⟩:=aB (a:=a1) (b:=c1) (k:=k) (m:=30) (by decide) (sm8 (by decide));obtain⟨r3,a3,c3,e3,h30,h31⟩:=aB (a:=a2) (b:=c2) (k:=k) (m:=9) (by decide) (sm8 (by decide));obtain⟨r4,a4,c4,e4,h40,h41⟩:=aB (a:=a3) (b:=c3) (k:=k) (m:=99) (by decide) (sm8 (by decide));obtain⟨r5,a5,c5,e5,h50,h51⟩:=aB (a:=a4) (b:=c4) (k:=k) (m:=30) (by decide) (sm8 (by decide));obtain⟨r6,a6,c6,e6,h60,h61⟩:=aB (a:=a5) (b:=c5) (k:=k) (m:=99) (by decide) (sm8 (by decide));have l1:=fB (a:=r1-99) (b:=1+r2) (xo h20) (kB (iu h20 h21 (by decide)));have l2:=fB (a:=r3) (b:=7) (by decide) (kB (by decide));have l3:=fB (a:=1+r4) (b:=1+r5) (xo h50) (kB (iu h50 h51 (by decide)));have l4:=fB (a:=1+r6) (b:=11) (by decide) (kB (by decide));exact⟨[.mu (fdV a6 c6 k),.sh (.int 4),.sh (fV (((r1-99:Int):Rat)/((1+r2:Int):Rat))),.sh (fV (((r3:Int):Rat)/((7:Int):Rat))),.sh (fV (((1+r4:Int):Rat)/((1+r5:Int):Rat))),.sh (fV (((1+r6:Int):Rat)/((11:Int):Rat))),x],by simp![e1,e2,e3,e4,e5,e6,l1,l2,l3,l4],⟨_,_,_,_⟩,x,a6,c6,⟨⟨gL (ju h40) (ju h50),gL (ju h60) (by decide)⟩,⟨gz (xo h20) (qG h10 h11 (by decide) (by decide)) (iu h20 h21 (by decide)),gz (by decide) (by have:=qG (c:=0) h30 h31 (by decide) (by decide);rw[Int.sub_zero] at this;exact this) (by decide),gz (xo h50) (iu h40 h41 (by decide)) (iu h50 h51 (by decide)),gz (by decide) (iu h60 h61 (by decide)) (by decide)⟩⟩,hx,rfl⟩
  .exact⟨_,by simp![D_.mpr hw],b,x,a,c,gb,hx,rfl⟩
 rintro _ ⟨b,x,a,c,gb,hx,rfl⟩;refine aO (rmI k way) ?_ ?_
 .by_cases hw:way=5
  .subst hw;obtain⟨r1,a1,c1,e1,h10,h11⟩:=fO (a:=a) (b:=c) (k:=k) (far:=999999999999999999999999999999) (by decide) (by decide);obtain⟨r2,a2,c2,e2,h20,h21⟩:=fO (a:=a1) (b:=c1) (k:=k) (far:=999999999999999999999999999998) (by decide) (by decide);obtain⟨r3,a3,c3,e3,h30,h31⟩:=fO (a:=a2) (b:=c2) (k:=k) (far:=999999999999999999999999999999) (by decide) (by decide);obtain⟨r4,a4,c4,e4,h40,h41⟩:=fO (a:=a3) (b:=c3) (k:=k) (far:=999999999999999999999999999998) (by decide) (by decide);obtain⟨r5,a5,c5,e5,h50,h51⟩:=fO (a:=a4) (b:=c4) (k:=k) (far:=999999999999999999999999999998) (by decide) (by decide);have n2:=gw r2;have n4:=gw r4;have n5:=gw r5;have l1:=fB (a:=r1) (b:=1+((r2.natAbs:Nat):Int)) (Ax qF) (kB (oa h20 h21 (by decide)).2);have l4:=fB (a:=1+((r5.natAbs:Nat):Int)) (b:=999999999999999999999999999999) (by decide) (kB (by decide));exact⟨[.mu (fdV a5 c5 k),.sh (.int 5),.sh (fV (((r1:Int):Rat)/((1+((r2.natAbs:Nat):Int):Int):Rat))),.sh (fV ((r3:Int):Rat)),.sh (fV ((1+((r4.natAbs:Nat):Int):Int):Rat)),.sh (fV (((1+((r5.natAbs:Nat):Int):Int):Rat)/((999999999999999999999999999999:Int):Rat))),.sh (.int 999999999999999999999999999999)],by simp![hx,p30,e1,e2,e3,e4,e5,n2,n4,n5,l1,l4,iV],⟨_,_,_,_⟩,_,a5,c5,⟨⟨fH qF,gL qF (by decide)⟩,⟨gz (Ax qF) (oa h10 h11 (by decide)).1 (oa h20 h21 (by decide)).2,fY (oa h30 h31 (by decide)).1,fY (oa h40 h41 (by decide)).2,gz (by decide) (oa h50 h51 (by decide)).2 (by decide)⟩⟩,rfl,rfl⟩
  .exact⟨_,by simp![D_.mpr hw],b,x,a,c,gb,hx,rfl⟩
 rintro _ ⟨b,x,a,c,gb,hx,rfl⟩;refine⟨b,a,c,gb,?_⟩;simp![wU,bV]
def ny{p q:Rat}{n m:Nat}(hp:Sz n p)(hq:Sz m q)(h:n+m<=8000):eW.G [fV p,fV q]=.ok (.val (fV (p+q))) []:=by have c1:=aH (CMulA.of hp.top hq.bot (by omega) (by omega));have c2:=aH (CMulA.of hq.top hp.bot (by omega) (by omega));have c3:=aH (CMulA.of hp.bot hq.bot (by omega) (by omega));have dp:=p.den_pos;have dq:=q.den_pos;have lo:=fB (a:=p.num*q.den+q.num*p.den) (b:=p.den*q.den) (Int.ne_of_gt (Rb (by omega) (by omega))) ((hp.bot.mul hq.bot).mono h);rw[<- vv] at lo;unfold eW;rw[aC];unfold ph;rw[show fV p=.tup [.int p.num,.int p.den] from rfl,show fV q=.tup [.int q.num,.int q.den] from rfl];simp![c1,c2,c3,lo]
def EV(p:Rat)(a W:Int)(hW:0<W):((p.num*a:Int):Rat)/((p.den*W:Int):Rat)=p*((a:Rat)/(W:Rat)):=by
 have h1:p=(p.num:Rat)/(p.den:Rat):=by have z:=Rat.num_divInt_den p;rw[Rat.divInt_eq_div] at z;exact z.symm
 have h2:(p.den:Rat)≠0:=λz=>p.den_nz (by exact_mod_cast z);have h3:(W:Rat)≠0:=λz=>by
  have:W=0:=by exact_mod_cast z
  omega
 rw[Pp,Pp,Rat.intCast_natCast];generalize (p.num:Rat)=x at *;generalize (p.den:Rat)=y at *;generalize (W:Rat)=z at *;generalize (a:Rat)=u at *;subst h1;grind
def kj{p:Rat}{n m:Nat}{a W:Int}(hp:Sz n p)(hW:0<W)(mW:Sm m W)(h:n+m<=8000):aP.G [.int (p.num*a),.int (p.den*W)]=.ok (.val (fV (p*((a:Rat)/(W:Rat))))) []:=by have dp:=p.den_pos;rw[fB (Int.ne_of_gt (Rb (by omega) hW)) ((hp.bot.mul mW).mono h),EV p a W hW]
def gp(p:Rat):(fV p).items=some [.int p.num,.int p.den]:=rfl
noncomputable def prt(b:Bx)(way:Str)(W a:Int)(ws:List Int):List Bx:=if way="across" then (shL b.l b.w W a ws).map λp=>⟨p.1,b.t,p.2,b.h⟩ else (shL b.t b.h W a ws).map λp=>⟨b.l,p.1,b.w,p.2⟩
def NH(b:Bx)(W a w:Int)(ws:List Int):prt b "across" W a (w::ws)=(⟨b.l+b.w*((a:Rat)/(W:Rat)),b.t,b.w*((w:Rat)/(W:Rat)),b.h⟩:Bx)::prt b "across" W (a+w) ws:=by unfold prt;rw[if_pos rfl,if_pos rfl];rfl
def NK(b:Bx)(W a w:Int)(ws:List Int):prt b "down" W a (w::ws)=(⟨b.l,b.t+b.h*((a:Rat)/(W:Rat)),b.w,b.h*((w:Rat)/(W:Rat))⟩:Bx)::prt b "down" W (a+w) ws:=by
 have hne:¬ (("down" : Str)="across"):=by decide
 unfold prt;rw[if_neg hne,if_neg hne];rfl
def GY(b:Bx)(way:Str)(W a:Int):prt b way W a []=[]:=by unfold prt;split <;> rfl
theorem l9{b:Bx}{n m:Nat}{W:Int}{wv:Val}(hs:b.Sz n)(hW:0<W)(mW:Sm m W)(h:n+n+m<=8000){way:Str}(hway:way="across" \/ way="down"):∀(ws:List Int) (a:Int) (acc:List Bx) (s10 s11:Sl),s10.pl=true->s11.pl=true->0<=a->(∀w∈ws,1<=w)->a+ws.sum<=W->acc.length+ws.length<=1000->∃s9' s10' s11',eU (gtN 10).G cR.G (ws.map .int) [.sh (bV b),.sh (.str way),.sh wv,.sh (fV b.l),.sh (fV b.t),.sh (fV b.w),.sh (fV b.h),.sh (.int W),.ow (.lst (acc.map bV)),.sh (.int a),s10,s11]=.nx [.sh (bV b),.sh (.str way),.sh wv,.sh (fV b.l),.sh (fV b.t),.sh (fV b.w),.sh (fV b.h),.sh (.int W),.ow (.lst ((acc++prt b way W a ws).map bV)),s9',s10',s11']
 | [],a,acc,s10,s11,h10,h11,ha,hw,hs',be=>⟨.sh (.int a),s10,s11,by rw[O_,gr,GY,Pn]⟩
 |
  w::ws,a,acc,s10,s11,h10,h11,ha,hw,hs',be=>by
  have hw0:=hw w (n_ ..);have hws:0<=ws.sum:=by
   have:∀l:List Int,(∀w∈l,1<=w)->0<=l.sum:=by
    intro l;induction l with
    |nil=>intro _;simp
    |cons x l ih=>intro hx;rw[Pe];have:=hx x (n_ ..);have:=ih λw hw=>hx w (m_ _ hw);omega
   exact this ws λx hx=>hw x (m_ _ hx)
  rw[Pe] at hs';rw[B_] at be;have sa:Sm m a:=mW.of_le (by omega);have sw:Sm m w:=mW.of_le (by omega);have z1:Sz m ((a:Rat)/(W:Rat)):=Sz.div (by omega) sa mW m (o_ _) (o_ _);have ll:(acc.map bV).length<16777216:=by rw[k_];omega
  have g1:(gtN 10).G (.int w) [.sh (bV b),.sh (.str way),.sh wv,.sh (fV b.l),.sh (fV b.t),.sh (fV b.w),.sh (fV b.h),.sh (.int W),.ow (.lst (acc.map bV)),.sh (.int a),s10,s11]=some [.sh (bV b),.sh (.str way),.sh wv,.sh (fV b.l),.sh (fV b.t),.sh (fV b.w),.sh (fV b.h),.sh (.int W),.ow (.lst (acc.map bV)),.sh (.int a),.sh (.int w),s11]:=by simp![h10]
  rcases hway with rfl |rfl
  .have t1:=kj (a:=a) hs.w hW mW (by omega);have t2:=kj (a:=w) hs.w hW mW (by omega);have c1:=aH (CMulA.of hs.w.top sa (by omega) (by omega));have c2:=aH (CMulA.of hs.w.top sw (by omega) (by omega));have c3:=aH (CMulA.of hs.w.bot mW (by omega) (by omega));have ad:=ny hs.l (hs.w.mul z1) (by omega);obtain⟨t9,t10,t11,ih⟩:=l9 (wv:=wv) hs hW mW h (.inl rfl) ws (a+w) (acc++[(⟨b.l+b.w*((a:Rat)/(W:Rat)),b.t,b.w*((w:Rat)/(W:Rat)),b.h⟩:Bx)]) (.sh (.int w)) (.sh (fV (b.l+b.w*((a:Rat)/(W:Rat))))) rfl rfl (by omega) (λx hx=>hw x (m_ _ hx)) (by omega) (by rw[z_];show acc.length+1+_<=_;omega);refine⟨t9,t10,t11,?_⟩;have b1:cR.G [.sh (bV b),.sh (.str "across"),.sh wv,.sh (fV b.l),.sh (fV b.t),.sh (fV b.w),.sh (fV b.h),.sh (.int W),.ow (.lst (acc.map bV)),.sh (.int a),.sh (.int w),s11]=.nx [.sh (bV b),.sh (.str "across"),.sh wv,.sh (fV b.l),.sh (fV b.t),.sh (fV b.w),.sh (fV b.h),.sh (.int W),.ow (.lst ((acc++[(⟨b.l+b.w*((a:Rat)/(W:Rat)),b.t,b.w*((w:Rat)/(W:Rat)),b.h⟩:Bx)]).map bV)),.sh (.int (a+w)),.sh (.int w),.sh (fV (b.l+b.w*((a:Rat)/(W:Rat))))]:=by unfold cR;rw[Pf,show [(⟨b.l+b.w*((a:Rat)/(W:Rat)),b.t,b.w*((w:Rat)/(W:Rat)),b.h⟩:Bx)].map bV=[.tup [fV (b.l+b.w*((a:Rat)/(W:Rat))),fV b.t,fV (b.w*((w:Rat)/(W:Rat))),fV b.h]] from rfl];simp![h11,gp,c1,c2,c3,t1,t2,ad,ll,nh]
   rw[s_,dY,g1];simp only[b1,kW];rw[ih,NH,P_];rfl
  .have t1:=kj (a:=a) hs.h hW mW (by omega);have t2:=kj (a:=w) hs.h hW mW (by omega);have c1:=aH (CMulA.of hs.h.top sa (by omega) (by omega));have c2:=aH (CMulA.of hs.h.top sw (by omega) (by omega));have c3:=aH (CMulA.of hs.h.bot mW (by omega) (by omega));have ad:=ny hs.t (hs.h.mul z1) (by omega);obtain⟨t9,t10,t11,ih⟩:=l9 (wv:=wv) hs hW mW h (.inr rfl) ws (a+w) (acc++[(⟨b.l,b.t+b.h*((a:Rat)/(W:Rat)),b.w,b.h*((w:Rat)/(W:Rat))⟩:Bx)]) (.sh (.int w)) (.sh (fV (b.t+b.h*((a:Rat)/(W:Rat))))) rfl rfl (by omega) (λx hx=>hw x (m_ _ hx)) (by omega) (by rw[z_];show acc.length+1+_<=_;omega);refine⟨t9,t10,t11,?_⟩;have b1:cR.G [.sh (bV b),.sh (.str "down"),.sh wv,.sh (fV b.l),.sh (fV b.t),.sh (fV b.w),.sh (fV b.h),.sh (.int W),.ow (.lst (acc.map bV)),.sh (.int a),.sh (.int w),s11]=.nx [.sh (bV b),.sh (.str "down"),.sh wv,.sh (fV b.l),.sh (fV b.t),.sh (fV b.w),.sh (fV b.h),.sh (.int W),.ow (.lst ((acc++[(⟨b.l,b.t+b.h*((a:Rat)/(W:Rat)),b.w,b.h*((w:Rat)/(W:Rat))⟩:Bx)]).map bV)),.sh (.int (a+w)),.sh (.int w),.sh (fV (b.t+b.h*((a:Rat)/(W:Rat))))]:=by unfold cR;rw[Pf,show [(⟨b.l,b.t+b.h*((a:Rat)/(W:Rat)),b.w,b.h*((w:Rat)/(W:Rat))⟩:Bx)].map bV=[.tup [fV b.l,fV (b.t+b.h*((a:Rat)/(W:Rat))),fV b.w,fV (b.h*((w:Rat)/(W:Rat)))]] from rfl];simp![h11,gp,c1,c2,c3,t1,t2,ad,ll,nD]
   rw[s_,dY,g1];simp only[b1,kW];rw[ih,NK,P_];rfl
def gC{b:Bx}{n m:Nat}{way:Str}{ws:List Int}(hs:b.Sz n)(hway:way="across" \/ way="down")(hw:∀w∈ws,1<=w)(h0:0<ws.sum)(mW:Sm m ws.sum)(h:n+n+m<=8000)(be:ws.length<=1000):cF.G [bV b,.str way,.lst (ws.map .int)]=.ok (.new (.lst ((aA b way ws).map bV))) []:=by obtain⟨s9,s10,s11,lo⟩:=l9 (wv:=.lst (ws.map .int)) hs h0 mW h hway ws 0 [] .no .no rfl rfl (by omega) hw (by omega) (by simpa using be);have pe:prt b way ws.sum 0 ws=aA b way ws:=rfl;rw[Ph,pe,O_] at lo;have e0:bV b=.tup [fV b.l,fV b.t,fV b.w,fV b.h]:=rfl;rw[e0] at lo ⊢;unfold cF;rw[aC];unfold lE;simp![lo]
def p29:f9.G (.int 10) (.int 29)=.val (.int 100000000000000000000000000000):=qH ⟨by decide,by decide,by decide⟩
def Ir{r:Int}(h0:0<=r)(h1:r<24):∃z,1<=z/\z<=8388608/\tE.G (.int 1) (.int r)=.val (.int z):=by
 have c1:(1:Nat)<=2^r.toNat:=Nat.one_le_two_pow;have c2:2^r.toNat<=2^23:=PX (by decide) (by omega);have e:(2:Int)^r.toNat=((2^r.toNat:Nat):Int):=by rw[Int.natCast_pow];rfl
 refine⟨1*2^r.toNat,?_,?_,NA ⟨h0,by omega,by decide⟩⟩
 .rw[Int.one_mul,e];exact Int.ofNat_le.mpr c1
 .rw[Int.one_mul,e];exact Int.ofNat_le.mpr c2
def GB{ns:List Int}{at_ most many more sty k:Int}{acc:List Int}{s9:Sl}(h9:s9.pl=true)(hk:0<=k/\k<=40)(hs:0<=sty/\sty<6)(a c q:Int):
 ∃w a' c',1<=w/\w<=8388608/\(ao false 9 (pOp bIx (dG (aa (ah 1) (aa (pOp aU (ah 1) (ai aq (aa (af 3) (aa (ah 9) ag)))) (aa (pOp tE (ah 1) (pOp cp (af 8) (ah 24))) (aa (pOp aU (ah 1) (ai aq (aa (af 3) (aa (ah 9) ag)))) (aa (ah 1) (aa (pOp aU (ah 1) (ai aq (aa (af 3) (aa (ah 3) ag)))) ag))))))) (af 6))).G [.sh (.kl (ns.map .int)),.sh (.int at_),.sh (.int most),.ow (fdV a c q),.sh (.int many),.sh (.int more),.sh (.int sty),.ow (.lst (acc.map .int)),.sh (.int k),s9]=.nx [.sh (.kl (ns.map .int)),.sh (.int at_),.sh (.int most),.ow (fdV a' c' q),.sh (.int many),.sh (.int more),.sh (.int sty),.ow (.lst (acc.map .int)),.sh (.int k),.sh (.int w)]:=by
 obtain⟨r1,a1,c1,e1,l1,u1⟩:=aB (a:=a) (b:=c) (k:=q) (m:=9) (by decide) (sm8 (by decide));obtain⟨r2,a2,c2,e2,l2,u2⟩:=aB (a:=a1) (b:=c1) (k:=q) (m:=9) (by decide) (sm8 (by decide));obtain⟨r3,a3,c3,e3,l3,u3⟩:=aB (a:=a2) (b:=c2) (k:=q) (m:=3) (by decide) (sm8 (by decide));have fm:=dU (a:=k) (m:=24) (by decide);have km:=fj (i:=k) (j:=24) (by decide);have sh:=Ir fm.1 fm.2;obtain⟨z,z1,z2,z3⟩:=sh;have hc:sty=0\/sty=1\/sty=2\/sty=3\/sty=4\/sty=5:=by omega
 have at6:∃w,1<=w/\w<=8388608/\atI [Val.int 1,.int (1+r1),.int z,.int (1+r2),.int 1,.int (1+r3)] sty=some (.int w):=by
  rcases hc with rfl |rfl |rfl |rfl |rfl |rfl
  .exact⟨1,by decide,by decide,rfl⟩
  .exact⟨1+r1,by omega,by omega,rfl⟩
  .exact⟨z,z1,z2,rfl⟩
  .exact⟨1+r2,by omega,by omega,rfl⟩
  .exact⟨1,by decide,by decide,rfl⟩
  .exact⟨1+r3,by omega,by omega,rfl⟩
 obtain⟨w,w1,w2,w3⟩:=at6;refine⟨w,a3,c3,w1,w2,?_⟩;simp![e1,e2,e3,km,z3,w3,h9]
def wtI(ns:List Int)(at_ most many more sty k:Int)(acc:List Int)(e:E3):Prop:=∃w a c q,1<=w/\w<=1000000000000000000000000000000/\(sty<3->w<=8388608)/\e=[.sh (.kl (ns.map .int)),.sh (.int at_),.sh (.int most),.ow (fdV a c q),.sh (.int many),.sh (.int more),.sh (.int sty),.ow (.lst (acc.map .int)),.sh (.int k),.sh (.int w)]
def wtQ(ns:List Int)(at_ most many more sty k:Int)(acc:List Int)(r:SR3):Prop:=∃w s3,1<=w/\w<=1000000000000000000000000000000/\(sty<3->w<=8388608)/\s3.pl=true/\r=.nx [.sh (.kl (ns.map .int)),.sh (.int at_),.sh (.int most),s3,.sh (.int many),.sh (.int more),.sh (.int sty),.ow (.lst ((acc++[w]).map .int)),.sh (.int k),.sh (.int w)]
def FV{ns:List Int}{at_ most many more sty k:Int}{acc:List Int}{s3 s9:Sl}(h3:s3.pl=true)(h9:s9.pl=true)(ha:0<=at_)(hk:0<=k/\k<=40)(hs:0<=sty/\sty<6)(hl:acc.length<=1000):
 wtQ ns at_ most many more sty k acc (d7.G [.sh (.kl (ns.map .int)),.sh (.int at_),.sh (.int most),s3,.sh (.int many),.sh (.int more),.sh (.int sty),.ow (.lst (acc.map .int)),.sh (.int k),s9]):=by
 unfold d7;obtain⟨f,ef⟩:=nY (ns:=ns) (k:=at_+1+k) (by omega);refine aO (λe=>e=[.sh (.kl (ns.map .int)),.sh (.int at_),.sh (.int most),.ow (fdV f 0 (at_+1+k)),.sh (.int many),.sh (.int more),.sh (.int sty),.ow (.lst (acc.map .int)),.sh (.int k),s9]) ⟨_,by simp![ef,h3],rfl⟩ ?_;rintro _ rfl;refine aO (wtI ns at_ most many more sty k acc) ?_ ?_
 .obtain⟨w,a,c,w1,w2,e⟩:=GB (ns:=ns) (at_:=at_) (most:=most) (many:=many) (more:=more) (acc:=acc) h9 hk hs f 0 (at_+1+k);exact⟨_,e,w,a,c,_,w1,by omega,λ_=>w2,rfl⟩
 rintro _ ⟨w,a,c,q,w1,w2,w3,rfl⟩;refine aO (wtI ns at_ most many more sty k acc) ?_ ?_
 .by_cases h:sty=3
  .subst h;obtain⟨r1,a1,c1,e1,l1,u1⟩:=aB (a:=a) (b:=c) (k:=q) (m:=4) (by decide) (sm8 (by decide));obtain⟨r2,a2,c2,e2,l2,u2⟩:=aB (a:=a1) (b:=c1) (k:=q) (m:=100) (by decide) (sm8 (by decide));by_cases hr:r1=0
   .subst hr;exact⟨[.sh (.kl (ns.map .int)),.sh (.int at_),.sh (.int most),.ow (fdV a2 c2 q),.sh (.int many),.sh (.int more),.sh (.int 3),.ow (.lst (acc.map .int)),.sh (.int k),.sh (.int (100000000000000000000000000000+r2))],by simp![e1,e2,p29],_,_,_,_,by omega,by omega,λz=>absurd z (by decide),rfl⟩
   .exact⟨[.sh (.kl (ns.map .int)),.sh (.int at_),.sh (.int most),.ow (fdV a1 c1 q),.sh (.int many),.sh (.int more),.sh (.int 3),.ow (.lst (acc.map .int)),.sh (.int k),.sh (.int w)],by simp![e1,D_.mpr hr],_,_,_,_,w1,w2,w3,rfl⟩
  .exact⟨_,by simp![D_.mpr h],w,a,c,q,w1,w2,w3,rfl⟩
 rintro _ ⟨w,a,c,q,w1,w2,w3,rfl⟩;refine aO (wtI ns at_ most many more sty k acc) ?_ ?_
 .by_cases h:sty=4
  .subst h;obtain⟨r1,a1,c1,e1,l1,u1⟩:=fO (a:=a) (b:=c) (k:=q) (far:=999999999999999999999999999998) (by decide) (by decide);exact⟨[.sh (.kl (ns.map .int)),.sh (.int at_),.sh (.int most),.ow (fdV a1 c1 q),.sh (.int many),.sh (.int more),.sh (.int 4),.ow (.lst (acc.map .int)),.sh (.int k),.sh (.int (1+if r1<0 then -r1 else r1))],by simp![e1,p30],_,_,_,_,by split <;> omega,by split <;> omega,λz=>absurd z (by decide),rfl⟩
  .exact⟨_,by simp![D_.mpr h],w,a,c,q,w1,w2,w3,rfl⟩
 rintro _ ⟨w,a,c,q,w1,w2,w3,rfl⟩;have ll:(acc.map Val.int).length<16777216:=by rw[k_];omega
 refine⟨w,.ow (fdV a c q),w1,w2,w3,rfl,?_⟩;rw[Pf,s_,O_];simp![ll]
theorem vk{ns:List Int}{at_ most many more sty:Int}(ha:0<=at_)(hs:0<=sty/\sty<6):∀(ks:List Nat) (acc:List Int) (s3 s8 s9:Sl),s3.pl=true->s8.pl=true->s9.pl=true->(∀k∈ks,k<=40)->acc.length+ks.length<=1000->
 ∃(ws:List Int) (s3' s8' s9':Sl),ws.length=ks.length/\(∀w∈ws,1<=w/\w<=1000000000000000000000000000000/\(sty<3->w<=8388608))/\eU (gtN 8).G d7.G (ks.map λk:Nat=>Val.int (k:Nat)) [.sh (.kl (ns.map .int)),.sh (.int at_),.sh (.int most),s3,.sh (.int many),.sh (.int more),.sh (.int sty),.ow (.lst (acc.map .int)),s8,s9]=.nx [.sh (.kl (ns.map .int)),.sh (.int at_),.sh (.int most),s3',.sh (.int many),.sh (.int more),.sh (.int sty),.ow (.lst ((acc++ws).map .int)),s8',s9']
 | [],acc,s3,s8,s9,_,_,_,_,_=>⟨[],s3,s8,s9,rfl,(λ_ h=>nomatch h),by rw[O_,gr,Pn]⟩
 |
  k::ks,acc,s3,s8,s9,h3,h8,h9,hk,hl=>by
  rw[B_] at hl;obtain⟨w,t3,w1,w2,w3,p3,e⟩:=FV (ns:=ns) (at_:=at_) (most:=most) (many:=many) (more:=more) (sty:=sty) (k:=(k:Nat)) (acc:=acc) h3 h9 ha ⟨by omega,by have:=hk k (n_ ..);omega⟩ hs (by omega);obtain⟨ws,s3',s8',s9',q1,q2,q3⟩:=vk (ns:=ns) (most:=most) (many:=many) (more:=more) ha hs ks (acc++[w]) t3 (.sh (.int (k:Nat))) (.sh (.int w)) p3 rfl rfl (λj hj=>hk j (m_ _ hj)) (by rw[z_];show acc.length+1+_<=_;omega);refine⟨w::ws,s3',s8',s9',by rw[B_,B_,q1],λx hx=>?_,?_⟩
  .rcases H_.mp hx with rfl |hx
   .exact⟨w1,w2,w3⟩
   .exact q2 x hx
  .have g1:(gtN 8).G (.int (k:Nat)) [.sh (.kl (ns.map .int)),.sh (.int at_),.sh (.int most),s3,.sh (.int many),.sh (.int more),.sh (.int sty),.ow (.lst (acc.map .int)),s8,s9]=some [.sh (.kl (ns.map .int)),.sh (.int at_),.sh (.int most),s3,.sh (.int many),.sh (.int more),.sh (.int sty),.ow (.lst (acc.map .int)),.sh (.int (k:Nat)),s9]:=by simp![h8]
   rw[s_,dY,g1];dsimp only;rw[e];show eU _ _ _ _=_;rw[q3,P_];rfl
def div8{x:Int}:jb.G (.int x) (.int 8)=.val (.int (x.fdiv 8)):=kK (CDivB.of (by decide) (sm8 (by decide)))
def wsQ(M:Int)(r:SR3):Prop:=∃ws:List Int,1<=ws.length/\(ws.length:Int)<=M/\(∀w∈ws,1<=w/\w<=1000000000000000000000000000000)/\(9<ws.length->∀w∈ws,w<=8388608)/\sS [false,false,false] r=.ok (.new (liV ws)) []
def ws_a{x most M:Int}(h:x<=most)(h1:most<=M)(h7:7<=M):1<=(if x>1 then x else 1)/\(if x>1 then x else 1)<=M:=by split <;> omega
def ws_b{most:Int}(h1:1<=most)(h2:most<=40):0<(if (7:Int)<most then 7 else most)/\Sm 8000 (if (7:Int)<most then 7 else most):=by
 split
 .exact⟨by decide,sm8 (by decide)⟩
 .exact⟨by omega,sm8 (by omega)⟩
def ws_c{r most:Int}(h:r<if (7:Int)<most then 7 else most):1+r<=7:=by split at h <;> omega
def xD{ns:List Int}{at_ most:Int}(ha:0<=at_)(hm:1<=most/\most<=40):∃ws:List Int,1<=ws.length/\(ws.length:Int)<=max most 7/\(∀w∈ws,1<=w/\w<=1000000000000000000000000000000)/\(9<ws.length->∀w∈ws,w<=8388608)/\de.G [.kl (ns.map .int),.int at_,.int most]=.ok (.new (liV ws)) []:=by
 have x1:most<=max most 7:=Int.le_max_left ..;have x7:(7:Int)<=max most 7:=Int.le_max_right ..;have x4:max most 7<=40:=Int.max_le.mpr ⟨hm.2,by decide⟩;generalize max most 7=M at *;unfold de;rw[yg rfl];show wsQ M (gh.G [.sh (.kl (ns.map .int)),.sh (.int at_),.sh (.int most),.no,.no,.no,.no,.no,.no,.no]);unfold gh;obtain⟨f,ef⟩:=nY (ns:=ns) (k:=at_) ha;refine aO (λe=>e=[.sh (.kl (ns.map .int)),.sh (.int at_),.sh (.int most),.ow (fdV f 0 at_),.no,.no,.no,.no,.no,.no]) ⟨_,by simp![ef],rfl⟩ ?_;rintro _ rfl;obtain⟨r1,a1,c1,e1,l1,u1⟩:=aB (a:=f) (b:=0) (k:=at_) (m:=if (7:Int)<most then 7 else most) (ws_b hm.1 hm.2).1 (ws_b hm.1 hm.2).2;refine aO (λe=>e=[.sh (.kl (ns.map .int)),.sh (.int at_),.sh (.int most),.ow (fdV a1 c1 at_),.sh (.int (1+r1)),.no,.no,.no,.no,.no]) ⟨_,by simp![e1],rfl⟩ ?_;rintro _ rfl;have b1:1+r1<=7:=ws_c u1;obtain⟨r2,a2,c2,e2,l2,u2⟩:=aB (a:=a1) (b:=c1) (k:=at_) (m:=6) (by decide) (sm8 (by decide));refine aO (λe=>e=[.sh (.kl (ns.map .int)),.sh (.int at_),.sh (.int most),.ow (fdV a2 c2 at_),.sh (.int (1+r1)),.sh (.int r2),.no,.no,.no,.no]) ⟨_,by simp![e2],rfl⟩ ?_;rintro _ rfl;refine aO (λe=>∃many:Int,1<=many/\many<=M/\e=[.sh (.kl (ns.map .int)),.sh (.int at_),.sh (.int most),.ow (fdV a2 c2 at_),.sh (.int many),.sh (.int r2),.no,.no,.no,.no]) ?_ ?_
 .have mm:=aH (i:=1+r1) (j:=most) (CMulA.of (sm8 (m:=1+r1) (by omega)) (sm8 (m:=most) (by omega)) (by decide) (by decide));by_cases h:r2<2
  .have dl:((1+r1)*most).fdiv 8<=most:=by rw[Int.fdiv_eq_ediv_of_nonneg _ (by decide)];have:(1+r1)*most<=7*most:=Int.mul_le_mul_of_nonneg_right b1 (by omega);omega
   have hc:r2=0\/r2=1:=by omega
   rcases hc with rfl |rfl
   .exact⟨_,by simp![mm,div8],most,hm.1,x1,rfl⟩
   .exact⟨_,by simp![mm,div8],(if ((1+r1)*most).fdiv 8>1 then ((1+r1)*most).fdiv 8 else 1),(ws_a dl x1 x7).1,(ws_a dl x1 x7).2,rfl⟩
  .exact⟨_,by simp![w_ h],1+r1,Int.le_add_of_nonneg_right l1,Int.le_trans b1 x7,rfl⟩
 rintro _ ⟨many,m1,m2,rfl⟩;obtain⟨r3,a3,c3,e3,l3,u3⟩:=aB (a:=a2) (b:=c2) (k:=at_) (m:=6) (by decide) (sm8 (by decide));refine aO (λe=>e=[.sh (.kl (ns.map .int)),.sh (.int at_),.sh (.int most),.ow (fdV a3 c3 at_),.sh (.int many),.sh (.int r2),.sh (.int r3),.no,.no,.no]) ⟨_,by simp![e3],rfl⟩ ?_;rintro _ rfl;refine aO (λe=>∃sty:Int,0<=sty/\sty<6/\(9<many->sty<3)/\e=[.sh (.kl (ns.map .int)),.sh (.int at_),.sh (.int most),.ow (fdV a3 c3 at_),.sh (.int many),.sh (.int r2),.sh (.int sty),.no,.no,.no]) ?_ ?_
 .have km:=fj (i:=r3) (j:=3) (by decide);have fm:=dU (a:=r3) (m:=3) (by decide);by_cases h:9<many
  .exact⟨_,by simp![A_ h,km],r3.fmod 3,fm.1,Int.lt_trans fm.2 (by decide),λ_=>fm.2,rfl⟩
  .exact⟨_,by simp![w_ h],r3,l3,u3,λz=>absurd z h,rfl⟩
 rintro _ ⟨sty,t0,t1,t2,rfl⟩;refine aO (λe=>e=[.sh (.kl (ns.map .int)),.sh (.int at_),.sh (.int most),.ow (fdV a3 c3 at_),.sh (.int many),.sh (.int r2),.sh (.int sty),.ow (.lst []),.no,.no]) ⟨_,by simp![Pd],rfl⟩ ?_;rintro _ rfl;have rg:=wb (i:=many) (by omega) (by omega);obtain⟨ws,s3,s8,s9,q1,q2,q3⟩:=vk (ns:=ns) (at_:=at_) (most:=most) (many:=many) (more:=r2) (sty:=sty) ha ⟨t0,t1⟩ (List.range many.toNat) [] (.ow (fdV a3 c3 at_)) .no .no rfl rfl rfl (λk hk=>by have:=Pk.mp hk;omega) (by rw[Pd,Pc];omega);rw[Pc] at q1;rw[Ph,O_] at q3;unfold rgV at rg;refine⟨ws,by omega,by omega,λw hw=>⟨(q2 w hw).1,(q2 w hw).2.1⟩,λh w hw=>(q2 w hw).2.2 (t2 (by omega)),?_⟩;unfold liV;simp![rg,q3];rfl
def mJ{q:Rat}{k D:Nat}(hs:Sz 101 q)(hD:D=q.den*k)(hk:0<k):∃z:Int,q=(z:Rat)/((D:Int):Rat)/\z.natAbs<=2^101*D/\(0<q->0<z/\z<=((2^101:Nat):Int)*(D:Int)):=by
 have dp:=q.den_pos;have hn:q.num.natAbs<2^101:=hs.1;have hz:(q.num*(k:Int)).natAbs<=2^101*D:=by rw[PJ,Int.natAbs_natCast,hD];exact Pm (by omega) (Rf _ dp)
 refine⟨q.num*(k:Int),?_,hz,λh=>⟨Rb (iJ.mpr h) (by omega),?_⟩⟩
 .have:=mI (y:=q.num) (W:=(k:Int)) dp (by omega)
  rw[Pu,<- hD] at this;rw[<- this];exact fM q
 .rw[<- Qm];generalize q.num*(k:Int)=z at *;generalize 2^101*D=y at *;omega
def Et{b:Bx}(g:Good b):∃D,D<2^404/\Rp D (2^101) (2^101) b:=by
 have dl:=b.l.den_pos;have dt:=b.t.den_pos;have dw:=b.w.den_pos;have dh:=b.h.den_pos;have sz:∀q:Rat,Sz 101 q->q.den<=2^101:=λq h=>by have:(q.den:Int).natAbs<2^101:=h.2;omega
 have k1:=P7 (P7 dt dw) dh;have k2:=P7 (P7 dl dw) dh;have k3:=P7 (P7 dl dt) dh;have k4:=P7 (P7 dl dt) dw;refine⟨b.l.den*(b.t.den*b.w.den*b.h.den),?_,P7 dl k1,?_,?_,?_,?_⟩
 .have a1:b.l.den<2^101:=by have:(b.l.den:Int).natAbs<2^101:=g.sz.l.2;omega
  have a2:=Pm (Pm (sz _ g.sz.t) (sz _ g.sz.w)) (sz _ g.sz.h)
  calc b.l.den*(b.t.den*b.w.den*b.h.den)<=b.l.den*(2^101*2^101*2^101):=P0 _ a2
   _<2^101*(2^101*2^101*2^101):=Nat.mul_lt_mul_of_pos_right a1 (by decide)
   _=2^404:=by rw[<- Qg,<- Qg,<- Qg]
 .obtain⟨z,h1,h2,_⟩:=mJ (D:=b.l.den*(b.t.den*b.w.den*b.h.den)) g.sz.l rfl k1;exact⟨z,h1,h2⟩
 .obtain⟨z,h1,h2,_⟩:=mJ (D:=b.l.den*(b.t.den*b.w.den*b.h.den)) (k:=b.l.den*b.w.den*b.h.den) g.sz.t (by ac_rfl) k2;exact⟨z,h1,h2⟩
 .obtain⟨z,h1,_,h2⟩:=mJ (D:=b.l.den*(b.t.den*b.w.den*b.h.den)) (k:=b.l.den*b.t.den*b.h.den) g.sz.w (by ac_rfl) k3;exact⟨z,h1,h2 g.ok.w⟩
 .obtain⟨z,h1,_,h2⟩:=mJ (D:=b.l.den*(b.t.den*b.w.den*b.h.den)) (k:=b.l.den*b.t.den*b.w.den) g.sz.h (by ac_rfl) k4;exact⟨z,h1,h2 g.ok.h⟩
structure WOk(ws:List Int):Prop where
 pos:1<=ws.length
 len:ws.length<=40
 wt:∀w∈ws,1<=w/\w<=1000000000000000000000000000000
 few:10<ws.length->∀w∈ws,w<=8388608
theorem jX{ws:List Int}{M:Int}:∀{l:List Nat},(∀k∈l,ws.getD k 0<=M)->wtA ws l<=(l.length:Int)*M
 | [],_=>by simp [wtA]
 |
  k::l,h=>by
  have h1:=h k (n_ ..);have h2:=jX (l:=l) λj hj=>h j (m_ _ hj);unfold wtA at h2 ⊢;rw[s_,Pe,B_,Int.natCast_add,Int.add_mul];omega
def O1{ws:List Int}{t:AT}{o:List Nat}{b:Bx}(g:Good b)(W:WOk ws)(T:TOk t o)(ho:∀i,i∈o ↔ i<ws.length)(hl:o.length=ws.length):(∀k∈t.lvs,1<=ws.getD k 0)/\∃D m,m<=104/\Rp D (2^101) (2^101) b/\(2^101+t.dep*2^101)*(D*2^(m*t.dep))<2^2000/\wtT ws t<2^m:=by
 obtain⟨D,hD,R⟩:=Et g;have hlt:∀k∈t.lvs,k<ws.length:=λk hk=>(ho k).mp ((T.mem k).mp hk);have hin:∀k∈t.lvs,ws.getD k 0∈ws:=λk hk=>by rw[Em,y_ (hlt k hk)];exact P4 _
 have hd:=T.dep;have len:=T.len;have wl:=W.len;refine⟨λk hk=>(W.wt _ (hin k hk)).1,D,?_⟩;have key:∀m,m*t.dep<=1218->m<=104->wtT ws t<2^m->∃m,m<=104/\Rp D (2^101) (2^101) b/\(2^101+t.dep*2^101)*(D*2^(m*t.dep))<2^2000/\wtT ws t<2^m:=λm h1 h2 h3=>by
  refine⟨m,h2,R,?_,h3⟩;have a1:2^101+t.dep*2^101<=2^107:=by
   have h1:=PV (2^101) (show t.dep<=40 by omega);have h2:2^107=64*2^101:=by decide
   rw[h2];generalize 2^101=X at *;omega
  have a2:2^(m*t.dep)<=2^1218:=PX (by decide) h1;have a3:=Pm a1 (Pm (QJ hD) a2);refine P5 a3 ?_;rw[<- Qg,<- Qg];exact Nat.pow_lt_pow_right (by decide) (by decide)
 by_cases h9:10<ws.length
 .refine key 29 (by omega) (by decide) ?_
  have:=jX (M:=8388608) λk hk=>W.few h9 _ (hin k hk)
  unfold wtT;have:(2:Int)^29=536870912:=by decide
  omega
 .refine key 104 (by omega) (by decide) ?_
  have:=jX (M:=1000000000000000000000000000000) λk hk=>(W.wt _ (hin k hk)).2
  unfold wtT;have:(2:Int)^104=20282409603651670423947251286016:=by decide
  omega
def Md{ws:List Int}{t:AT}{o:List Nat}{b:Bx}(g:Good b)(W:WOk ws)(T:TOk t o)(ho:∀i,i∈o ↔ i<ws.length)(hl:o.length=ws.length):∃m,m<=104/\AT.lay ws 2000 m t b:=by obtain⟨hw,D,m,h1,R,h2,h3⟩:=O1 g W T ho hl;have len:=T.len;have wl:=W.len;exact⟨m,h1,LJ t b D (2^101) R (o_ _) (by decide) h2 T.ok hw h3 (by omega)⟩
def NV(ws:List Int):cB (liV ws) (liV ws)=some true:=by
 have:wfV 60 (liV ws)=true:=by show bT 59 (ws.map .int)=true;exact kq λv hv=>by obtain⟨w,_,rfl⟩:=PH.mp hv;rfl
 rw[D3 this this,kx 60 _ this]
def Nd(l:List Nat)(f:Nat->Bx):cB (.lst (l.map λk=>bV (f k))) (.lst (l.map λk=>bV (f k)))=some true:=by
 have:wfV 60 (.lst (l.map λk=>bV (f k)))=true:=by show bT 59 (l.map λk=>bV (f k))=true;exact kq λv hv=>by obtain⟨w,_,rfl⟩:=PH.mp hv;exact OE _ 57
 rw[D3 this this,kx 60 _ this]
def lwB(b:Bx):Bool:=!decide (b.w<b.h)
def eE{b:Bx}{n:Nat}(hb:b.Ok)(hs:b.Sz n)(h:n<=8000):bY.G [bV b]=.ok (.val (.str (wy (lwB b)))) []:=by
 have cb:=fo hb;have il:=jq hs.w hs.h (by omega) (by omega);have ib:(bV b).items=some [fV b.l,fV b.t,fV b.w,fV b.h]:=rfl;unfold bY lwB;rw[aC];unfold m8;by_cases hl:b.w<b.h
 .rw[A_ hl] at il ⊢;simp![cb,ib,il];rfl
 .rw[w_ hl] at il ⊢;simp![cb,ib,il];rfl
def Bd(m B:Nat)(b:Bx)(n:Nat):Prop:=∃D A,Rp D A B b/\B<=A/\1<=A/\(A+n*B)*(D*2^(m*n))<2^2000
def Bd.ok{m B n:Nat}{b:Bx}(h:Bd m B b n):b.Ok:=by obtain⟨D,A,r,_⟩:=h;exact r.ok
def Bd.sz{m B n:Nat}{b:Bx}(h:Bd m B b n):b.Sz 2000:=by obtain⟨D,A,r,hBA,hA,hq⟩:=h;have hD1:1<=2^(m*n):=Nat.one_le_two_pow;have z1:A*D<=(A+n*B)*(D*2^(m*n)):=Pm (by omega) (Nat.le_mul_of_pos_right _ hD1);have z2:D<=A*D:=Rf _ hA;have z3:B*D<=A*D:=PV _ hBA;exact r.sz (by omega) (by omega) (by omega)
def Bd.part{m B n k:Nat}{b c:Bx}{way:Str}{ws:List Int}(h:Bd m B b n)(hw:∀w∈ws,1<=w)(hS:ws.sum<2^m)(hc:c∈aA b way ws)(hk:k<n):Bd m B c k:=by
 obtain⟨D,A,r,hBA,hA,hq⟩:=h;have hT:ws.sum.toNat<=2^m:=by
  have h4:((2^m:Nat):Int)=(2:Int)^m:=by push_cast;rfl
  rw[<- h4] at hS;generalize 2^m=X at hS ⊢;clear hq;omega
 refine⟨D*ws.sum.toNat,A+B,r.parts hw hc,by omega,by omega,P5 (Pm ?_ ?_) hq⟩
 .have:(k+1)*B<=n*B:=PV _ hk;rw[Nat.add_mul,Nat.one_mul] at this;omega
 .rw[Ri];refine P0 _ ?_;have e:2^m*2^(m*k)=2^(m*(k+1)):=by rw[<- Qg];congr 1;rw[Nat.mul_add,Nat.mul_one,Nat.add_comm]
  exact F_ (PV _ hT) (by rw[e];exact PX (by decide) (P0 _ hk))
def jM(b:Bx)(w:Bool)(x y:Int):aA b (wy w) [x,y]=[cI b w (x+y) 0 x,cI b w (x+y) x y]:=by rw[pq];simp [frm]
def j7(w:Bool):wy w="across" \/ wy w="down":=by cases w;exact .inr rfl;exact .inl rfl
def jL{m:Nat}{S:Int}(h0:0<=S)(h:S<2^m):Sm m S:=by
 show S.natAbs<2^m;have h4:((2^m:Nat):Int)=(2:Int)^m:=by push_cast;rfl
 rw[<- h4] at h;omega
def nG{b:Bx}{xs:List Int}{m B n i:Nat}(hb:Bd m B b n)(hm:m<=104)(h1:1<=(xs.take i).sum)(h2:1<=(xs.drop i).sum)(hS:(xs.take i).sum+(xs.drop i).sum<2^m):cT.G [bV b,liV xs,.int (i:Nat)]=.ok (.new (.lst [bV (cI b (lwB b) ((xs.take i).sum+(xs.drop i).sum) 0 (xs.take i).sum),bV (cI b (lwB b) ((xs.take i).sum+(xs.drop i).sum) (xs.take i).sum (xs.drop i).sum)])) []:=by
 have lw:=eE hb.ok hb.sz (by decide);have pe:=kh (way:=wy (lwB b)) (ws:=[(xs.take i).sum,(xs.drop i).sum]) (m:=m) hb.ok hb.sz (j7 _) (by simp) (λw hw=>by
  rcases H_.mp hw with rfl |hw
  .exact h1
  .rw[Pw.mp hw];exact h2) (by
  rw[show [(xs.take i).sum,(xs.drop i).sum].sum=(xs.take i).sum+(xs.drop i).sum from by simp];exact jL (by omega) hS) (by omega) (by show 2<=40;decide)
 rw[jM] at pe;simp only[s_,O_] at pe;have ct:=jW (xs.map Val.int) i;have cd:=gF (xs.map Val.int) i;rw[<- QU] at ct;rw[<- QT] at cd;have m1:=bZ (xs.take i);have m2:=bZ (xs.drop i);unfold cT;rw[aC];unfold jS;unfold liV;generalize (xs.take i).map Val.int=w1 at *;generalize (xs.drop i).map Val.int=w2 at *;generalize xs.map Val.int=w3 at *;generalize bV (cI b (lwB b) ((xs.take i).sum+(xs.drop i).sum) 0 (xs.take i).sum)=b1 at *;generalize bV (cI b (lwB b) ((xs.take i).sum+(xs.drop i).sum) (xs.take i).sum (xs.drop i).sum)=b2 at *;generalize bV b=bv at *;generalize wy (lwB b)=yy at *;simp![lw,dg,ct,cd,m1,m2,pe]
def BK{b:Bx}:atI [Val.str "down",.str "across"] (if decide (b.h.num*(b.w.den:Int)<=b.w.num*(b.h.den:Int))=true then 1 else 0)=some (.str (wy (lwB b))):=by
 have e:decide (b.h.num*(b.w.den:Int)<=b.w.num*(b.h.den:Int))=lwB b:=by
  unfold lwB;rw[show decide (b.h.num*(b.w.den:Int)<=b.w.num*(b.h.den:Int))=decide (b.h<=b.w) from QP.mpr (Rat.le_iff b.h b.w).symm];by_cases h:b.w<b.h
  .rw[A_ h,w_ (Rat.not_le.mpr h)];rfl
  .rw[w_ h,A_ (Rat.not_lt.mp h)];rfl
 rw[e];cases lwB b
 .exact cL (by decide) rfl
 .exact cL (by decide) rfl
def lR{p q:Rat}(hq:q≠0):p/q=((p.num*q.den:Int):Rat)/((p.den*q.num:Int):Rat):=by
 have h1:=gB (cD p);have h2:=gB (cD q);have h3:q.num≠0:=λz=>hq (RH.mp z);have h4:=gB h3
 conv=>lhs;rw[fM p,fM q]
 rw[Pp,Pp];simp only[Rh,Rat.inv_mul_rev,Rat.inv_inv];rw[Rat.mul_assoc,Rat.mul_assoc,Rat.mul_comm (((p.den:Int):Rat))⁻¹,Rat.mul_assoc]
def v5{p q:Rat}{n m:Nat}(hp:Sz n p)(hq:Sz m q)(h0:0<q)(h:n+m<=8000):iF.G [fV p,fV q]=.ok (.val (fV (p/q))) []:=by
 have c1:=aH (CMulA.of hp.top hq.bot (by omega) (by omega));have c2:=aH (CMulA.of hp.bot hq.top (by omega) (by omega));have hq0:q≠0:=λz=>by rw[z] at h0;exact absurd h0 (by decide)
 have hn:q.num≠0:=λz=>hq0 (RH.mp z);have fe:=eG (a:=p.num*q.den) (b:=p.den*q.num) (QB (cD p) hn) ((hp.bot.mul hq.top).mono h);rw[<- lR hq0] at fe;unfold iF;rw[aC];unfold yQ;rw[show fV p=.tup [.int p.num,.int p.den] from rfl,show fV q=.tup [.int q.num,.int q.den] from rfl];simp![c1,c2,fe]
def CA{b:Bx}{n:Nat}(hb:b.Ok)(hs:b.Sz n)(h:n+n<=8000):iH.G [bV b]=.ok (.val (fV (cz b))) []:=by
 have lw:=eE hb hs (by omega);have ib:(bV b).items=some [fV b.l,fV b.t,fV b.w,fV b.h]:=rfl;have o1:=v5 hs.w hs.h hb.2 h;have o2:=v5 hs.h hs.w hb.1 h;unfold iH cz;rw[aC];unfold wu;by_cases hl:b.w<b.h
 .rw[show wy (lwB b)="down" from by unfold lwB;rw[A_ hl];rfl] at lw;rw[if_pos hl];simp![lw,ib,o1,o2,nD]
 .rw[show wy (lwB b)="across" from by unfold lwB;rw[w_ hl];rfl] at lw;rw[if_neg hl];simp![lw,ib,o1,o2,nh]
def Sz.over{p q:Rat}{n m:Nat}(hp:Sz n p)(hq:Sz m q)(h0:0<q):Sz (n+m) (p/q):=by
 have hq0:q≠0:=λz=>by rw[z] at h0;exact absurd h0 (by decide)
 have hn:q.num≠0:=λz=>hq0 (RH.mp z);rw[lR hq0];exact Sz.div (QB (cD p) hn) (hp.top.mul hq.bot) (hp.bot.mul hq.top) (n+m) (o_ _) (o_ _)
def Kf{b:Bx}{n:Nat}(hb:b.Ok)(hs:b.Sz n):Sz (n+n) (cz b):=by
 unfold cz;split
 .exact Sz.over hs.h hs.w hb.1
 .exact Sz.over hs.w hs.h hb.2
noncomputable def mxL:List Rat->Rat
 | []=>0
 |x::xs=>xs.foldl mx x
theorem zI{n:Nat}:∀(xs:List Rat) (a:Rat),Sz n a->(∀x∈xs,Sz n x)->Sz n (xs.foldl mx a)
 | [],a,h,_=>h
 |
  x::xs,a,h,hx=>by
  rw[List.foldl_cons];refine zI xs _ ?_ λy hy=>hx y (m_ _ hy);unfold mx;split
  .exact hx x (n_ ..)
  .exact h
theorem mP{n:Nat}(hn:n<=100000){v:Val}:∀(xs:List Rat) (a:Rat) (s:Sl),s.pl=true->Sz n a->(∀x∈xs,Sz n x)->∃s',eU (gtN 2).G d6.G (xs.map fV) [.sh v,.sh (fV a),s]=.nx [.sh v,.sh (fV (xs.foldl mx a)),s']
 | [],a,s,_,_,_=>⟨s,by rw[O_,gr];rfl⟩
 |
  x::xs,a,s,hs,ha,hx=>by
  have hx0:=hx x (n_ ..);have il:=jq ha hx0 hn hn;have hm:Sz n (mx a x):=by
   unfold mx;split
   .exact hx0
   .exact ha
  obtain⟨s',ih⟩:=mP hn (v:=v) xs (mx a x) (.sh (fV x)) rfl hm λy hy=>hx y (m_ _ hy);refine⟨s',?_⟩;have bb:d6.G [.sh v,.sh (fV a),.sh (fV x)]=.nx [.sh v,.sh (fV (mx a x)),.sh (fV x)]:=by
   unfold d6 mx;by_cases hl:a<x
   .rw[A_ hl] at il;rw[if_pos hl];simp![il]
   .rw[w_ hl] at il;rw[if_neg hl];simp![il]
  have g1:(gtN 2).G (fV x) [.sh v,.sh (fV a),s]=some [.sh v,.sh (fV a),.sh (fV x)]:=by simp![hs]
  rw[s_,dY,g1];simp only[bb,kW];rw[ih];rfl
def uV{n:Nat}(hn:n<=100000){qs:List Rat}(h0:qs≠[])(hq:∀q∈qs,Sz n q):dk.G [.lst (qs.map fV)]=.ok (.val (fV (mxL qs))) []:=by
 cases qs with
 |nil=>exact absurd rfl h0
 |
  cons q qs=>
  have hq0:=hq q (n_ ..);obtain⟨s',lo⟩:=mP hn (v:=.lst ((q::qs).map fV)) (q::qs) q .no rfl hq0 hq;have e:(q::qs).foldl mx q=mxL (q::qs):=by rw[List.foldl_cons,show mx q q=q from if_neg Rat.lt_irrefl];rfl
  rw[e] at lo;have a0:atI ((q::qs).map fV) 0=some (fV q):=cL (by decide) rfl;generalize mxL (q::qs)=r at *;generalize (q::qs).map fV=qv at *;unfold dk;rw[aC];unfold jF;simp![a0,lo]
def sA(w:Bool):du.G [.str (wy w)]=.ok (.val (.str (wy !w))) []:=by
 unfold du;rw[aC];unfold lH;cases w
 .rw[show wy (!false)="across" from rfl,show wy false="down" from rfl];simp![nD]
 .rw[show wy (!true)="down" from rfl,show wy true="across" from rfl];simp![nh]
def gK(b:Bx)(xs:List Int)(k:Nat):Bx:=if k<xs.length then cI b (lwB b) ((xs.take k).sum+(xs.drop k).sum) 0 (xs.take k).sum else b
def cn(b:Bx)(xs:List Int)(k:Nat):List Bx:=aA (gK b xs k) (wy !lwB b) (xs.take k)
def aR(b:Bx)(xs:List Int)(k:Nat):Rat:=mxL ((cn b xs k).map cz)
structure RwIn(m B:Nat)(b:Bx)(xs:List Int):Prop where
 hm:m<=104
 bd:Bd m B b xs.length
 pos:∀w∈xs,1<=w
 sum:xs.sum<2^m
 len:xs.length<=40
def RwIn.two{m B:Nat}{b:Bx}{xs:List Int}(h:RwIn m B b xs){k:Nat}(h1:1<=k)(h2:k<xs.length):1<=(xs.take k).sum/\1<=(xs.drop k).sum/\(xs.take k).sum+(xs.drop k).sum<2^m:=by
 have a1:=fi (l:=xs.take k) λw hw=>h.pos w (P9 hw);have a2:=fi (l:=xs.drop k) λw hw=>h.pos w (QM hw);have a3:(xs.take k).sum+(xs.drop k).sum=xs.sum:=by rw[<- List.sum_append,Rr]
 rw[PD] at a1;rw[Qv] at a2
 have:=h.sum
 refine⟨by omega,by omega,by rw[a3];exact this⟩
def RwIn.cut{m B:Nat}{b:Bx}{xs:List Int}(h:RwIn m B b xs){k:Nat}(h1:1<=k)(h2:k<xs.length){c:Bx}(hc:c∈[cI b (lwB b) ((xs.take k).sum+(xs.drop k).sum) 0 (xs.take k).sum,cI b (lwB b) ((xs.take k).sum+(xs.drop k).sum) (xs.take k).sum (xs.drop k).sum]){j:Nat}(hj:j<xs.length):Bd m B c j:=by
 obtain⟨a1,a2,a3⟩:=h.two h1 h2;exact
  h.bd.part (way:=wy (lwB b)) (ws:=[(xs.take k).sum,(xs.drop k).sum]) (λw hw=>by
  rcases H_.mp hw with rfl |hw
  .exact a1
  .rw[Pw.mp hw];exact a2) (by rw[show [(xs.take k).sum,(xs.drop k).sum].sum=(xs.take k).sum+(xs.drop k).sum from by simp];exact a3) (by rw[jM];exact hc) hj
def RwIn.row{m B:Nat}{b:Bx}{xs:List Int}(h:RwIn m B b xs){k:Nat}(h1:1<=k)(h2:k<=xs.length):∃j,1<=j/\Bd m B (gK b xs k) j:=by
 unfold gK;by_cases hk:k<xs.length
 .rw[if_pos hk];exact⟨k,h1,h.cut h1 hk (n_ ..) hk⟩
 .rw[if_neg hk];exact⟨xs.length,by omega,h.bd⟩
def RwIn.take{m B:Nat}{b:Bx}{xs:List Int}(h:RwIn m B b xs){k:Nat}:(xs.take k).sum<2^m:=by
 have a2:=fi (l:=xs.drop k) λw hw=>h.pos w (QM hw);have a3:(xs.take k).sum+(xs.drop k).sum=xs.sum:=by rw[<- List.sum_append,Rr]
 have:=h.sum
 omega
def zi(b:Bx)(w:Bool)(xs:List Int):(aA b (wy w) xs).length=xs.length:=by rw[pq,vy]
def RwIn.boxes{m B:Nat}{b:Bx}{xs:List Int}(h:RwIn m B b xs){k:Nat}(h1:1<=k)(h2:k<=xs.length):∀c∈cn b xs k,c.Ok/\c.Sz 2000:=λc hc=>by
 obtain⟨j,hj,hB⟩:=h.row h1 h2
 have:=hB.part (λw hw=>h.pos w (P9 hw)) h.take hc (show 0<j by omega)
 exact⟨this.ok,this.sz⟩
def RwIn.len'{m B:Nat}{b:Bx}{xs:List Int}(h:RwIn m B b xs){k:Nat}(h2:k<=xs.length):(cn b xs k).length=k:=by unfold cn;rw[zi,PD];omega
def RwIn.shp{m B:Nat}{b:Bx}{xs:List Int}(h:RwIn m B b xs){k:Nat}(h1:1<=k)(h2:k<=xs.length):(cn b xs k).map cz≠[]/\∀q∈(cn b xs k).map cz,Sz 4000 q:=by
 have:=h.len' h2
 refine⟨λz=>?_,λq hq=>?_⟩
 .have:=PF List.length z
  rw[k_,Pd] at this;omega
 .obtain⟨c,hc,rfl⟩:=PH.mp hq;obtain⟨c1,c2⟩:=h.boxes h1 h2 c hc;exact Kf c1 c2
def RwIn.wsz{m B:Nat}{b:Bx}{xs:List Int}(h:RwIn m B b xs){k:Nat}(h1:1<=k)(h2:k<=xs.length):Sz 4000 (aR b xs k):=by
 obtain⟨q1,q2⟩:=h.shp h1 h2;unfold aR;cases hq:(cn b xs k).map cz with
 |nil=>exact absurd hq q1
 |cons q qs=>rw[hq] at q2;exact zI qs q (q2 q (n_ ..)) λx hx=>q2 x (m_ _ hx)
def zy{P:PFn}{bs:List Bx}(h:∀c∈bs,P.G [bV c]=.ok (.val (fV (cz c))) [])(hm:P.ms=[false])(hl:bs.length<=1000):∃s,lcV (gtN 0).G qY.G (ai P (aa (af 0) ag)).G (bs.map bV) [] [.no]=.ok ((bs.map cz).map fV) [s]:=by
 obtain⟨e',⟨s,rfl,_⟩,lc⟩:=cW (g:=(gtN 0).G) (F:=(ai P (aa (af 0) ag)).G) bV (λc=>fV (cz c)) (λe=>∃s:Sl,e=[s]/\s.pl=true) bs [] [.no] ⟨.no,rfl,rfl⟩ (by
  rintro c hc _ ⟨s,rfl,hs⟩;have hp:=h c hc;refine⟨[.sh (bV c)],.val (fV (cz c)),[.sh (bV c)],?_,?_,rfl,_,rfl,rfl⟩
  .simp![hs]
  .simp![hm,hp]) (by rw[Pd];omega)
 rw[Ph] at lc;refine⟨s,?_⟩;rw[Pq];exact lc
def jU{m B:Nat}{b:Bx}{xs:List Int}(h:RwIn m B b xs){k:Nat}(h1:1<=k)(h2:k<=xs.length):b8.G [bV b,liV xs,.int (k:Nat)]=.ok (.val (fV (aR b xs k))) []:=by
 obtain⟨j,hj,hB⟩:=h.row h1 h2;have hm:=h.hm;have be:=h.len;have lw:=eE h.bd.ok h.bd.sz (by decide);have ow:=sA (lwB b);have tl:(xs.take k).length=k:=by rw[PD];omega
 have tp:=fi (l:=xs.take k) λw hw=>h.pos w (P9 hw);have pe:=kh (way:=wy !lwB b) (ws:=xs.take k) (m:=m) hB.ok hB.sz (j7 _) (λz=>by rw[z] at tl;simp at tl;omega) (λw hw=>h.pos w (P9 hw)) (jL (by omega) h.take) (by omega) (by omega);rw[show aA (gK b xs k) (wy !lwB b) (xs.take k)=cn b xs k from rfl] at pe;have bl:=h.len' h2;obtain⟨s,lc⟩:=zy (P:=iH) (bs:=cn b xs k) (λc hc=>CA (h.boxes h1 h2 c hc).1 (h.boxes h1 h2 c hc).2 (by decide)) rfl (by omega);obtain⟨q1,q2⟩:=h.shp h1 h2;have ge:=uV (by decide) q1 q2;rw[show mxL ((cn b xs k).map cz)=aR b xs k from rfl] at ge;have sl:(((cn b xs k).map cz).map fV).length<=16777216:=by rw[k_,k_];omega
 have ct:=jW (xs.map Val.int) k;rw[<- QU] at ct;have lx:((xs.map Val.int).length:Nat)=xs.length:=k_ ..;unfold b8;rw[aC];unfold iR;by_cases hk:k<xs.length
 .obtain⟨a1,a2,a3⟩:=h.two h1 hk;have ct2:=nG h.bd hm a1 a2 a3;rw[show cI b (lwB b) ((xs.take k).sum+(xs.drop k).sum) 0 (xs.take k).sum=gK b xs k from (if_pos hk).symm] at ct2;have c1:decide (((k:Nat):Int)<((xs.length:Nat):Int))=true:=A_ (by omega);unfold liV at ct2 ⊢;generalize bV (cI b (lwB b) ((xs.take k).sum+(xs.drop k).sum) (xs.take k).sum (xs.drop k).sum)=b2 at *;generalize bV (gK b xs k)=b1 at *;generalize ((cn b xs k).map cz).map fV=sv at *;generalize (cn b xs k).map bV=bs at *;generalize (xs.take k).map Val.int=w1 at *;generalize xs.map Val.int=w3 at *;generalize bV b=bv at *;generalize wy (!lwB b)=y1 at *;generalize wy (lwB b)=yy at *;generalize aR b xs k=rr at *;simp![lx,c1,ct2,lw,ow,dg,ct,pe,lc,sl,ge]
 .have c1:decide (((k:Nat):Int)<((xs.length:Nat):Int))=false:=w_ (by omega);rw[show gK b xs k=b from if_neg hk] at pe;unfold liV;generalize ((cn b xs k).map cz).map fV=sv at *;generalize (cn b xs k).map bV=bs at *;generalize (xs.take k).map Val.int=w1 at *;generalize xs.map Val.int=w3 at *;generalize bV b=bv at *;generalize wy (!lwB b)=y1 at *;generalize wy (lwB b)=yy at *;generalize aR b xs k=rr at *;simp![lx,c1,lw,ow,dg,ct,pe,lc,sl,ge]
def eS(b:Bx)(xs:List Int):Nat->Nat->Nat
 |0,k=>k
 |f+1,k=>if k<xs.length then (if aR b xs k<aR b xs (k+1) then k else eS b xs f (k+1)) else k
theorem vw(b:Bx)(xs:List Int):∀f k,k<=xs.length->k<=eS b xs f k/\eS b xs f k<=xs.length
 |0,k,h=>⟨o_ _,h⟩
 |
  f+1,k,h=>by
  rw[eS];split
  .split
   .omega
   .have:=vw b xs f (k+1) (by omega)
    omega
  .omega
theorem rf{m B:Nat}{b:Bx}{xs:List Int}(h:RwIn m B b xs):∀(f k:Nat) (s:Sl),s.pl=true->xs.length<=k+f->1<=k->k<=xs.length->∃s3 s4,(xWh (qOf (pOp bLt (af 2) (pFn bp (aa (af 1) ag)))) df).G [.sh (bV b),.sh (liV xs),.sh (.int (k:Nat)),.sh (fV (aR b xs k)),s]=.nx [.sh (bV b),.sh (liV xs),.sh (.int (eS b xs f k:Nat)),s3,s4]
 |
  f,k,s,hs,hf,h1,h2=>by
  have lx:((xs.map Val.int).length:Nat)=xs.length:=k_ ..;by_cases hk:k<xs.length
  .cases
    f with
   |zero=>omega
   |
    succ f=>
    have c1:decide (((k:Nat):Int)<((xs.length:Nat):Int))=true:=A_ (by omega);have k1:((k:Nat):Int)+1=((k+1:Nat):Int):=by omega
    have wr:=jU h (k:=k+1) (by omega) (by omega);have il:=jq (h.wsz h1 h2) (h.wsz (k:=k+1) (by omega) (by omega)) (by decide) (by decide);obtain⟨s3,s4,ih⟩:=rf h f (k+1) (.sh (fV (aR b xs (k+1)))) rfl (by omega) (by omega) (by omega);rw[eS,if_pos hk];by_cases hl:aR b xs k<aR b xs (k+1)
    .rw[if_pos hl];rw[A_ hl] at il;refine⟨.sh (fV (aR b xs k)),.sh (fV (aR b xs (k+1))),?_⟩;rw[fC];unfold df;unfold liV at wr ⊢;generalize xs.map Val.int=w3 at *;generalize bV b=bv at *;generalize fV (aR b xs (k+1))=r1 at *;generalize fV (aR b xs k)=r0 at *;simp![hs,lx,c1,k1,wr,il]
    .rw[if_neg hl];rw[w_ hl] at il;refine⟨s3,s4,?_⟩;have bb:df.G [.sh (bV b),.sh (liV xs),.sh (.int (k:Nat)),.sh (fV (aR b xs k)),s]=.nx [.sh (bV b),.sh (liV xs),.sh (.int ((k+1:Nat):Int)),.sh (fV (aR b xs (k+1))),.sh (fV (aR b xs (k+1)))]:=by unfold df;generalize liV xs=w3 at *;generalize bV b=bv at *;generalize fV (aR b xs (k+1))=r1 at *;generalize fV (aR b xs k)=r0 at *;simp![hs,k1,wr,il]
     rw[fC];unfold liV at bb ih ⊢;generalize xs.map Val.int=w3 at *;generalize bV b=bv at *;generalize fV (aR b xs (k+1))=r1 at *;generalize fV (aR b xs k)=r0 at *;simp![lx,c1,bb,ih]
  .have c1:decide (((k:Nat):Int)<((xs.length:Nat):Int))=false:=w_ (by omega);refine⟨.sh (fV (aR b xs k)),s,?_⟩;have e:eS b xs f k=k:=by
    cases f with
    |zero=>rfl
    |succ f=>rw[eS,if_neg hk]
   rw[e,fC];unfold liV;generalize xs.map Val.int=w3 at *;simp![lx,c1]
def row(b:Bx)(xs:List Int):Nat:=eS b xs xs.length 1
def yP{b:Bx}{xs:List Int}(h:1<=xs.length):1<=row b xs/\row b xs<=xs.length:=vw b xs _ 1 h
def pY{m B:Nat}{b:Bx}{xs:List Int}(h:RwIn m B b xs)(h1:1<=xs.length):dP.G [bV b,liV xs]=.ok (.val (.int (row b xs:Nat))) []:=by have wr:=jU h (k:=1) (by omega) (by omega);obtain⟨s3,s4,lo⟩:=rf h xs.length 1 .no rfl (by omega) (by omega) (by omega);rw[show eS b xs xs.length 1=row b xs from rfl] at lo;unfold dP;rw[aC];unfold kd;rw[show ((1:Nat):Int)=1 from rfl] at wr lo;generalize liV xs=w3 at *;generalize bV b=bv at *;generalize fV (aR b xs 1)=r0 at *;simp![wr,lo]
def lI{b:Bx}{n:Nat}(hs:b.Sz n)(h:n<=100000):cX.G [bV b]=.ok (.val (.str (wy (lwB b)))) []:=by have wp:=BK (b:=b);have ib:(bV b).items=some [fV b.l,fV b.t,fV b.w,fV b.h]:=rfl;have c1:aD.G (.int b.w.num) (.int (b.h.den:Nat))=.val (.int (b.w.num*(b.h.den:Nat))):=aH (CMulA.of hs.w.top hs.h.bot h h);have c2:aD.G (.int b.h.num) (.int (b.w.den:Nat))=.val (.int (b.h.num*(b.w.den:Nat))):=aH (CMulA.of hs.h.top hs.w.bot h h);unfold cX;rw[aC];unfold nM;generalize wy (lwB b)=yy at *;simp![ib,gp,c1,c2,wp]
def AK{q:Rat}(h:0<q.num):(q⁻¹).num=q.den/\((q⁻¹).den:Int)=q.num:=by rw[Rat.num_inv,Rat.den_inv,Int.sign_eq_one_of_pos h,if_neg (by omega)];omega
def sI{b:Bx}{n:Nat}(hb:b.Ok)(hs:b.Sz n)(h:n+n<=8000):eL.G [bV b]=.ok (.val (fV (cz b))) []:=by
 have ib:(bV b).items=some [fV b.l,fV b.t,fV b.w,fV b.h]:=rfl;have c1:aD.G (.int b.w.num) (.int (b.h.den:Nat))=.val (.int (b.w.num*(b.h.den:Nat))):=aH (CMulA.of hs.w.top hs.h.bot (by omega) (by omega));have c2:aD.G (.int (b.w.den:Nat)) (.int b.h.num)=.val (.int ((b.w.den:Nat)*b.h.num)):=aH (CMulA.of hs.w.bot hs.h.top (by omega) (by omega));have h0:=hb.1;have h1:=hb.2;have hw0:0<b.w.num:=iJ.mpr h0;have hh0:0<b.h.num:=iJ.mpr h1;have dw:=b.w.den_pos;have lo:=fB (a:=b.w.num*b.h.den) (b:=b.w.den*b.h.num) (Int.ne_of_gt (Rb (by omega) hh0)) ((hs.w.bot.mul hs.h.top).mono h);have hne:b.h≠0:=λz=>by rw[z] at h1;exact absurd h1 (by decide)
 have hnw:b.w≠0:=λz=>by rw[z] at h0;exact absurd h0 (by decide)
 rw[<- lR hne] at lo;have q0:0<b.w/b.h:=by rw[Rh];exact Rat.mul_pos h0 (Rat.inv_pos.mpr h1)
 have qn:0<(b.w/b.h).num:=iJ.mpr q0;have iv:(b.w/b.h)⁻¹=b.h/b.w:=by rw[Rh,Rh,Rat.inv_mul_rev,Rat.inv_inv]
 obtain⟨i1,i2⟩:=AK qn;rw[iv] at i1 i2;have lt:(b.w/b.h).num<((b.w/b.h).den:Int) ↔ b.w<b.h:=by
  have e:=iK (b.w/b.h) 1;rw[show (1:Rat).den=1 from rfl,show (1:Rat).num=1 from rfl] at e;rw[show ((b.w/b.h).num<((b.w/b.h).den:Int)) ↔ (b.w/b.h).num*((1:Nat):Int)<1*((b.w/b.h).den:Int) from by omega,<- e];constructor
  .intro z
   have:=Rat.mul_lt_mul_of_pos_right z h1
   rw[Rat.div_mul_cancel hne,Rat.one_mul] at this;exact this
  .intro z
   have:=Rat.mul_lt_mul_of_pos_right z (Rat.inv_pos.mpr h1)
   rw[<- Rh,Rat.mul_inv_cancel _ hne] at this;exact this
 unfold eL cz;rw[aC];unfold lA;by_cases hl:b.w<b.h
 .rw[if_pos hl,show fV (b.h/b.w)=.tup [.int (b.h/b.w).num,.int (b.h/b.w).den] from rfl,i1,i2];have d1:=A_ (lt.mpr hl);simp![ib,gp,c1,c2,lo,d1]
 .rw[if_neg hl];have d1:=w_ (λz=>hl (lt.mp z));simp![ib,gp,c1,c2,lo,d1]
theorem pO{n:Nat}(hn:n<=100000){v:Val}:∀(xs:List Rat) (a:Rat) (s:Sl),s.pl=true->Sz n a->(∀x∈xs,Sz n x)->∃s',eU (gtN 2).G fS.G (xs.map fV) [.sh v,.sh (fV a),s]=.nx [.sh v,.sh (fV (xs.foldl mx a)),s']
 | [],a,s,_,_,_=>⟨s,by rw[O_,gr];rfl⟩
 |
  x::xs,a,s,hs,ha,hx=>by
  have hx0:=hx x (n_ ..);have c1:aD.G (.int x.num) (.int (a.den:Nat))=.val (.int (x.num*(a.den:Nat))):=aH (CMulA.of hx0.top ha.bot hn hn);have c2:aD.G (.int a.num) (.int (x.den:Nat))=.val (.int (a.num*(x.den:Nat))):=aH (CMulA.of ha.top hx0.bot hn hn);have hm:Sz n (mx a x):=by
   unfold mx;split
   .exact hx0
   .exact ha
  obtain⟨s',ih⟩:=pO hn (v:=v) xs (mx a x) (.sh (fV x)) rfl hm λy hy=>hx y (m_ _ hy);refine⟨s',?_⟩;have bb:fS.G [.sh v,.sh (fV a),.sh (fV x)]=.nx [.sh v,.sh (fV (mx a x)),.sh (fV x)]:=by
   unfold fS mx;by_cases hl:a<x
   .have d1:=A_ ((iK a x).mp hl);rw[if_pos hl];simp![gp,c1,c2,d1]
   .have d1:=w_ (λz=>hl ((iK a x).mpr z));rw[if_neg hl];simp![gp,c1,c2,d1]
  have g1:(gtN 2).G (fV x) [.sh v,.sh (fV a),s]=some [.sh v,.sh (fV a),.sh (fV x)]:=by simp![hs]
  rw[s_,dY,g1];simp only[bb,kW];rw[ih];rfl
def va{n:Nat}(hn:n<=100000){qs:List Rat}(h0:qs≠[])(hq:∀q∈qs,Sz n q):fq.G [.lst (qs.map fV)]=.ok (.val (fV (mxL qs))) []:=by
 cases qs with
 |nil=>exact absurd rfl h0
 |
  cons q qs=>
  have hq0:=hq q (n_ ..);obtain⟨s',lo⟩:=pO hn (v:=.lst ((q::qs).map fV)) qs q .no rfl hq0 λx hx=>hq x (m_ _ hx);rw[show qs.foldl mx q=mxL (q::qs) from rfl] at lo;have a0:atI ((q::qs).map fV) 0=some (fV q):=cL (by decide) rfl;have cf:aSl (.lst ((q::qs).map fV)) (some 1) none=.new (.lst (qs.map fV)):=by rw[dg,show (some 1:Option Int)=some ((1:Nat):Int) from rfl,gF];rfl
  generalize mxL (q::qs)=r at *;generalize (q::qs).map fV=qv at *;generalize qs.map fV=qw at *;unfold fq;rw[aC];unfold mV;simp![a0,cf,lo]
def vS(w:Bool):lkD [((.inr "across" : Key),(.str "down" : Val)),(.inr "down",.str "across")] (.inr (wy w))=some (.str (wy !w)):=by cases w <;> rfl
def nr{m B:Nat}{b:Bx}{xs:List Int}(h:RwIn m B b xs){k:Nat}(h1:1<=k)(h2:k<=xs.length):bM.G [bV b,liV xs,.int (k:Nat)]=.ok (.val (fV (aR b xs k))) []:=by
 obtain⟨j,hj,hB⟩:=h.row h1 h2;have hm:=h.hm;have be:=h.len;have lw:=lI h.bd.sz (by decide);have lb:=vS (lwB b);have tl:(xs.take k).length=k:=by rw[PD];omega
 have tp:=fi (l:=xs.take k) λw hw=>h.pos w (P9 hw);have pe:=gC (way:=wy !lwB b) (ws:=xs.take k) (m:=m) hB.sz (j7 _) (λw hw=>h.pos w (P9 hw)) (by omega) (jL (by omega) h.take) (by omega) (by omega);rw[show aA (gK b xs k) (wy !lwB b) (xs.take k)=cn b xs k from rfl] at pe;have bl:=h.len' h2;obtain⟨s,lc⟩:=zy (P:=eL) (bs:=cn b xs k) (λc hc=>sI (h.boxes h1 h2 c hc).1 (h.boxes h1 h2 c hc).2 (by decide)) rfl (by omega);obtain⟨q1,q2⟩:=h.shp h1 h2;have ge:=va (by decide) q1 q2;rw[show mxL ((cn b xs k).map cz)=aR b xs k from rfl] at ge;have sl:(((cn b xs k).map cz).map fV).length<=16777216:=by rw[k_,k_];omega
 have ct:=jW (xs.map Val.int) k;rw[<- QU] at ct;have cd:=gF (xs.map Val.int) k;rw[<- QT] at cd;have m1:=bZ (xs.take k);have m2:=bZ (xs.drop k);have lx:((xs.map Val.int).length:Nat)=xs.length:=k_ ..;unfold bM;rw[aC];unfold ie;by_cases hk:k<xs.length
 .obtain⟨a1,a2,a3⟩:=h.two h1 hk;have ct2:=gC (way:=wy (lwB b)) (ws:=[(xs.take k).sum,(xs.drop k).sum]) (m:=m) h.bd.sz (j7 _) (λw hw=>by
   rcases H_.mp hw with rfl |hw
   .exact a1
   .rw[Pw.mp hw];exact a2) (by simp;omega) (by rw[show [(xs.take k).sum,(xs.drop k).sum].sum=(xs.take k).sum+(xs.drop k).sum from by simp];exact jL (by omega) a3) (by omega) (by show 2<=1000;decide)
  rw[jM] at ct2;simp only[s_,O_] at ct2;rw[show cI b (lwB b) ((xs.take k).sum+(xs.drop k).sum) 0 (xs.take k).sum=gK b xs k from (if_pos hk).symm] at ct2;have c1:decide (((k:Nat):Int)<((xs.length:Nat):Int))=true:=A_ (by omega);unfold liV;generalize bV (cI b (lwB b) ((xs.take k).sum+(xs.drop k).sum) (xs.take k).sum (xs.drop k).sum)=b2 at *;generalize bV (gK b xs k)=b1 at *;generalize ((cn b xs k).map cz).map fV=sv at *;generalize (cn b xs k).map bV=bs at *;generalize (xs.take k).map Val.int=w1 at *;generalize (xs.drop k).map Val.int=w2 at *;generalize xs.map Val.int=w3 at *;generalize bV b=bv at *;generalize wy (!lwB b)=y1 at *;generalize wy (lwB b)=yy at *;generalize aR b xs k=rr at *;simp![Q2,Q_,lx,c1,ct2,lw,lb,dg,ct,cd,m1,m2,pe,lc,sl,ge]
 .have c1:decide (((k:Nat):Int)<((xs.length:Nat):Int))=false:=w_ (by omega);rw[show gK b xs k=b from if_neg hk] at pe;unfold liV;generalize ((cn b xs k).map cz).map fV=sv at *;generalize (cn b xs k).map bV=bs at *;generalize (xs.take k).map Val.int=w1 at *;generalize xs.map Val.int=w3 at *;generalize bV b=bv at *;generalize wy (!lwB b)=y1 at *;generalize wy (lwB b)=yy at *;generalize aR b xs k=rr at *;simp![Q2,Q_,lx,c1,lw,lb,dg,ct,pe,lc,sl,ge]
def bK(b:Bx)(l:List Nat):AT:=if l.length=1 then .lf (l.headD 0) else .nd (!lwB b) (l.map .lf)
def nU(b:Bx)(l:List Nat):atV (.nd (!lwB b) (l.map .lf))=.tup [.str (wy !lwB b),.tup (l.map λk:Nat=>Val.int k)]:=by unfold atV;rw[AT.val,AT.vals_map,Pq];rfl
def uM{b:Bx}{l:List Nat}{n:Nat}(hb:b.Ok)(hs:b.Sz n)(h:n<=8000)(hl:1<=l.length)(hl2:l.length<=1000):da.G [bV b,itV l]=.ok (.val (atV (bK b l))) []:=by
 have lw:=eE hb hs h;have ow:=sA (lwB b);have ll:((l.map λk:Nat=>Val.int k).length:Nat)=l.length:=k_ ..;unfold da bK;rw[aC];unfold jI;by_cases h1:l.length=1
 .obtain⟨k,rfl⟩:=List.length_eq_one_iff.mp h1;have a0:atI [Val.int (k:Nat)] 0=some (.int (k:Nat)):=cL (by decide) rfl;rw[if_pos h1,show atV (.lf ([k].headD 0))=.int (k:Nat) from rfl,show itV [k]=.lst [.int (k:Nat)] from rfl];simp![a0]
 .have n1:(((l.length:Nat):Int)==1)=false:=by rw[D_];omega
  rw[if_neg h1,nU];unfold itV;generalize wy (!lwB b)=y1 at *;generalize wy (lwB b)=yy at *;generalize (l.map λk:Nat=>Val.int k)=l0 at *;generalize bV b=bv at *;simp![ll,n1,lw,ow]
theorem sE{m B:Nat}{b:Bx}{xs:List Int}{wv lv:Val}{p:PFx [false,false,false]}(h:RwIn m B b xs):∀(f k:Nat) (s:Sl),s.pl=true->xs.length<=k+f->1<=k->k<=xs.length->∃s5 s6,(xWh (qOf (pOp bLt (af 4) (pFn bp (aa (af 3) ag)))) (fc p)).G [.sh (bV b),.sh wv,.sh lv,.sh (liV xs),.sh (.int (k:Nat)),.sh (fV (aR b xs k)),s,.no,.no,.no]=.nx [.sh (bV b),.sh wv,.sh lv,.sh (liV xs),.sh (.int (eS b xs f k:Nat)),s5,s6,.no,.no,.no]
 |
  f,k,s,hs,hf,h1,h2=>by
  have lx:((xs.map Val.int).length:Nat)=xs.length:=k_ ..;by_cases hk:k<xs.length
  .cases
    f with
   |zero=>omega
   |
    succ f=>
    have c1:decide (((k:Nat):Int)<((xs.length:Nat):Int))=true:=A_ (by omega);have k1:((k:Nat):Int)+1=((k+1:Nat):Int):=by omega
    have wr:=nr h (k:=k+1) (by omega) (by omega);have z0:=h.wsz h1 h2;have z1:=h.wsz (k:=k+1) (by omega) (by omega);obtain⟨s3,s4,ih⟩:=sE (wv:=wv) (lv:=lv) (p:=p) h f (k+1) (.sh (fV (aR b xs (k+1)))) rfl (by omega) (by omega) (by omega);rw[eS,if_pos hk];generalize aR b xs (k+1)=r1 at *;generalize aR b xs k=r0 at *;have e1:aD.G (.int r1.num) (.int (r0.den:Nat))=.val (.int (r1.num*(r0.den:Nat))):=aH (CMulA.of z1.top z0.bot (by decide) (by decide));have e2:aD.G (.int r0.num) (.int (r1.den:Nat))=.val (.int (r0.num*(r1.den:Nat))):=aH (CMulA.of z0.top z1.bot (by decide) (by decide));by_cases hl:r0<r1
    .rw[if_pos hl];have d1:=A_ ((iK r0 r1).mp hl);refine⟨.sh (fV r0),.sh (fV r1),?_⟩;rw[fC];unfold fc;unfold liV at wr ⊢;generalize xs.map Val.int=w3 at *;generalize bV b=bv at *;simp![hs,lx,c1,k1,wr,gp,e1,e2,d1]
    .rw[if_neg hl];have d1:=w_ (λz=>hl ((iK r0 r1).mpr z));refine⟨s3,s4,?_⟩;have bb:(fc p).G [.sh (bV b),.sh wv,.sh lv,.sh (liV xs),.sh (.int (k:Nat)),.sh (fV r0),s,.no,.no,.no]=.nx [.sh (bV b),.sh wv,.sh lv,.sh (liV xs),.sh (.int ((k+1:Nat):Int)),.sh (fV r1),.sh (fV r1),.no,.no,.no]:=by unfold fc;generalize liV xs=w3 at *;generalize bV b=bv at *;simp![hs,k1,wr,gp,e1,e2,d1]
     rw[fC];unfold liV at bb ih ⊢;generalize xs.map Val.int=w3 at *;generalize bV b=bv at *;simp![lx,c1,bb,ih]
  .have c1:decide (((k:Nat):Int)<((xs.length:Nat):Int))=false:=w_ (by omega);refine⟨.sh (fV (aR b xs k)),s,?_⟩;have e:eS b xs f k=k:=by
    cases f with
    |zero=>rfl
    |succ f=>rw[eS,if_neg hk]
   rw[e,fC];unfold liV;generalize xs.map Val.int=w3 at *;simp![lx,c1]
def rwT(ws:List Int):Nat->Bx->List Nat->AT
 |0,_,l=>.lf (l.headD 0)
 |N+1,b,l=>if row b (l.map λk=>ws.getD k 0)=l.length then bK b l else .nd (lwB b) [bK b (l.take (row b (l.map λk=>ws.getD k 0))),rwT ws N (cI b (lwB b) (((l.map λk=>ws.getD k 0).take (row b (l.map λk=>ws.getD k 0))).sum+((l.map λk=>ws.getD k 0).drop (row b (l.map λk=>ws.getD k 0))).sum) ((l.map λk=>ws.getD k 0).take (row b (l.map λk=>ws.getD k 0))).sum ((l.map λk=>ws.getD k 0).drop (row b (l.map λk=>ws.getD k 0))).sum) (l.drop (row b (l.map λk=>ws.getD k 0)))]
theorem D6:∀l:List Nat,AT.okL (l.map .lf)=true/\AT.lvsL (l.map .lf)=l/\AT.depL (l.map .lf)<=1
 | []=>⟨rfl,rfl,by decide⟩
 |
  k::l=>by
  obtain⟨a,b,c⟩:=D6 l;rw[s_];refine⟨?_,?_,?_⟩
  .rw[AT.okL,a];rfl
  .rw[AT.lvsL,b];rfl
  .rw[AT.depL,AT.dep];omega
def EL(b:Bx){l:List Nat}(hl:1<=l.length):(bK b l).ok=true/\(bK b l).lvs=l/\(bK b l).dep<=l.length/\(bK b l).dep<=2:=by
 unfold bK;by_cases h1:l.length=1
 .obtain⟨k,rfl⟩:=List.length_eq_one_iff.mp h1;rw[if_pos h1];exact⟨rfl,rfl,by simp [AT.dep],by simp [AT.dep]⟩
 .rw[if_neg h1];obtain⟨a1,a2,a3⟩:=D6 l;refine⟨?_,?_,?_,?_⟩
  .simp [AT.ok,a1];omega
  .rw[AT.lvs,a2]
  .rw[AT.dep];omega
  .rw[AT.dep];omega
theorem vt{ws:List Int}{m B:Nat}(hm:m<=104)(hS:∀l:List Nat,(∀k∈l,k<ws.length)->l.length<=ws.length->wtA ws l<2^m)(hw:∀w∈ws,1<=w)(hn:ws.length<=40):∀(N:Nat) (l:List Nat) (b:Bx),l.length<=N->1<=l.length->l.length<=ws.length->(∀k∈l,k<ws.length)->Bd m B b l.length->
 (bj N).G [bV b,itV l,liV (l.map λk=>ws.getD k 0)]=.ok (.val (atV (rwT ws N b l))) []/\(cE N).G [bV b,liV ws,itV l]=.ok (.val (atV (rwT ws N b l))) []/\(rwT ws N b l).ok=true/\(rwT ws N b l).lvs=l/\(rwT ws N b l).dep<=l.length
 |0,l,b,h0,h1,_,_,_=>by omega
 |
  N+1,l,b,h0,h1,hl,hi,hB=>by
  have hp:∀k∈l,1<=ws.getD k 0:=λj hj=>by rw[Em,y_ (hi j hj)];exact hw _ (P4 _)
  have xl:(l.map λk=>ws.getD k 0).length=l.length:=k_ ..;have hR:RwIn m B b (l.map λk=>ws.getD k 0):=⟨hm,by rw[xl];exact hB,λw hw=>by obtain⟨k,hk,rfl⟩:=PH.mp hw;exact hp k hk,hS l hi hl,by omega⟩;obtain⟨r1,r2⟩:=yP (b:=b) (xs:=l.map λk=>ws.getD k 0) (by omega);have re:=pY hR (by omega);obtain⟨s0,lc0⟩:=rD (ws:=ws) (l:=l) (by omega) hi;have lr:=nr hR (k:=1) (by omega) (by omega);obtain⟨s5,s6,lo⟩:=sE (wv:=liV ws) (lv:=itV l) (p:=cE N) hR (l.map λk=>ws.getD k 0).length 1 .no rfl (by omega) (by omega) (by omega);rw[show eS b (l.map λk=>ws.getD k 0) (l.map λk=>ws.getD k 0).length 1=row b (l.map λk=>ws.getD k 0) from rfl] at lo;have te:rwT ws (N+1) b l=_:=rwT.eq_2 ws b l N;rw[xl] at r2;have lz:l.length<=16777216:=by omega
  have lx:(((l.map λk=>ws.getD k 0).map Val.int).length:Nat)=l.length:=by rw[k_,xl]
  have ll:((l.map λk:Nat=>Val.int k).length:Nat)=l.length:=k_ ..;have lw:=eE hB.ok hB.sz (by decide);have lw2:=lI hB.sz (by decide);have lb:=vS (lwB b);have ctl:=jW (l.map λk:Nat=>Val.int k) (row b (l.map λk=>ws.getD k 0));have cdl:=gF (l.map λk:Nat=>Val.int k) (row b (l.map λk=>ws.getD k 0));rw[<- QU] at ctl;rw[<- QT] at cdl;have a0:atI (l.map λk:Nat=>Val.int k) 0=some (.int ((l.headD 0:Nat):Int)):=by
   cases l with
   |nil=>simp at h1
   |cons x l=>exact cL (by decide) rfl
  have two:∀k,k<l.length->1<=k->_:=λk h1 h2=>hR.two (k:=k) h2 (by omega);have cut:∀k,k<l.length->1<=k->∀c,c∈_->∀j,j<l.length->Bd m B c j:=λk h1 h2 c hc j hj=>hR.cut (k:=k) h2 (by omega) hc (by omega);have hd0:∀i,1<=i->(l.take i).headD 0=l.headD 0:=λi hi=>by
   cases l with
   |nil=>simp
   |cons x l=>cases i with
    |zero=>omega
    |succ i=>rfl
  rw[te];generalize hi0:row b (l.map λk=>ws.getD k 0)=i at *;have lt:(l.take i).length=i:=by rw[PD];omega
  have ld:(l.drop i).length=l.length-i:=Qv ..;have tr:=uM (l:=l.take i) hB.ok hB.sz (by decide) (by omega) (by omega);obtain⟨o1,o2,o3,o4⟩:=EL b (l:=l.take i) (by omega);by_cases hk:i=l.length
  .rw[if_pos hk];have et:l.take i=l:=P2 (by omega);rw[et] at o1 o2 o3 o4 tr lt ctl;have q1:(((i:Nat):Int)==((l.length:Nat):Int))=true:=by rw[Pa];omega
   refine⟨?_,?_,o1,o2,o3⟩
   .show (PFx.of [false,false,false] 6 (b0 (bj N))).G _=_;rw[ki];unfold b0;unfold itV at tr ⊢;generalize atV (bK b l)=tv at *;generalize liV (l.map λk=>ws.getD k 0)=x0 at *;generalize (l.map λk:Nat=>Val.int k)=l0 at *;generalize bV b=bv at *;simp![re,dg,ctl,tr,ll,q1]
   .show (PFx.of [false,false,false] 10 (eX (cE N))).G _=_;rw[ki];unfold eX;unfold itV at lo ⊢;unfold liV at lr lc0 lo ⊢;by_cases h2:1<i
    .have g1:decide ((1:Int)<(i:Nat))=true:=A_ (by omega);have e8:atV (bK b l)=.tup [.str (wy !lwB b),.tup (l.map λk:Nat=>Val.int k)]:=by unfold bK;rw[if_neg (by omega),nU]
     rw[e8];generalize fV (aR b _ _)=r0 at *;generalize wy (!lwB b)=y1 at *;generalize wy (lwB b)=yy at *;generalize (l.map λk=>ws.getD k 0).map Val.int=x0 at *;generalize (l.map λk:Nat=>Val.int k)=l0 at *;generalize ws.map Val.int=wv at *;generalize bV b=bv at *;rw[show ((1:Nat):Int)=1 from rfl] at lr lo;simp![lz,bL,inS,lc0,lr,lo,lw2,a0,g1,Q2,Q_,lb,dg,ctl,ll,lx,q1]
    .have g1:decide ((1:Int)<(i:Nat))=false:=w_ (by omega);have e8:atV (bK b l)=.int ((l.headD 0:Nat):Int):=by unfold bK;rw[if_pos (by omega)];rfl
     rw[e8];generalize fV (aR b _ _)=r0 at *;generalize wy (lwB b)=yy at *;generalize (l.map λk=>ws.getD k 0).map Val.int=x0 at *;generalize (l.map λk:Nat=>Val.int k)=l0 at *;generalize ws.map Val.int=wv at *;generalize bV b=bv at *;rw[show ((1:Nat):Int)=1 from rfl] at lr lo;simp![lz,bL,inS,lc0,lr,lo,lw2,a0,g1,dg,ctl,ll,lx,q1]
  .rw[if_neg hk];have q1:(((i:Nat):Int)==((l.length:Nat):Int))=false:=by rw[D_];omega
   have hi2:i<l.length:=by omega
   obtain⟨p1,p2,p3⟩:=two i hi2 r1;have pm:=cut i hi2 r1;have ct2:=nG hR.bd hm p1 p2 p3;have lpe:=gC (way:=wy (lwB b)) (ws:=[((l.map λk=>ws.getD k 0).take i).sum,((l.map λk=>ws.getD k 0).drop i).sum]) (m:=m) hB.sz (j7 _) (λw hw=>by
    rcases H_.mp hw with rfl |hw
    .exact p1
    .rw[Pw.mp hw];exact p2) (by rw[Pe,Pe,List.sum_nil];omega) (by rw[show [((l.map λk=>ws.getD k 0).take i).sum,((l.map λk=>ws.getD k 0).drop i).sum].sum=((l.map λk=>ws.getD k 0).take i).sum+((l.map λk=>ws.getD k 0).drop i).sum from by simp];exact jL (by omega) p3) (by omega) (by show 2<=1000;decide)
   rw[jM] at lpe;simp only[s_,O_] at lpe;have m1:=bZ ((l.map λk=>ws.getD k 0).take i);have m2:=bZ ((l.map λk=>ws.getD k 0).drop i);have ctx:=jW ((l.map λk=>ws.getD k 0).map Val.int) i;have cdx:=gF ((l.map λk=>ws.getD k 0).map Val.int) i;rw[<- QU] at ctx;rw[<- QT] at cdx;obtain⟨b1,b2,b3,b4,b5⟩:=vt hm hS hw hn N (l.drop i) _ (by omega) (by omega) (by omega) (λj hj=>hi j (QM hj)) (pm _ (m_ _ (n_ ..)) _ (by omega));rw[QT] at b1;generalize rwT ws N (cI b (lwB b) (((l.map λk=>ws.getD k 0).take i).sum+((l.map λk=>ws.getD k 0).drop i).sum) ((l.map λk=>ws.getD k 0).take i).sum ((l.map λk=>ws.getD k 0).drop i).sum) (l.drop i)=T2 at *;refine⟨?_,?_,?_,?_,?_⟩
   .show (PFx.of [false,false,false] 6 (b0 (bj N))).G _=_;rw[ki];unfold b0;rw[show atV (.nd (lwB b) [bK b (l.take i),T2])=.tup [.str (wy (lwB b)),.tup [atV (bK b (l.take i)),atV T2]] from rfl];generalize atV (bK b (l.take i))=tv at *;generalize atV T2=tv2 at *;generalize wy (lwB b)=yy at *;generalize bV (cI b (lwB b) _ 0 _)=B1 at *;generalize bV (cI b (lwB b) _ _ _)=B2 at *;unfold itV at tr b1 ⊢;unfold liV at re ct2 b1 ⊢;generalize ((l.map λk=>ws.getD k 0).take i).map Val.int=x1 at *;generalize ((l.map λk=>ws.getD k 0).drop i).map Val.int=x2 at *;generalize (l.map λk=>ws.getD k 0).map Val.int=x0 at *;generalize ((l.take i).map λk:Nat=>Val.int k)=l1 at *;generalize ((l.drop i).map λk:Nat=>Val.int k)=l2 at *;generalize (l.map λk:Nat=>Val.int k)=l0 at *;generalize bV b=bv at *;simp![re,dg,ctl,tr,ll,q1,ct2,lw,cdl,cdx,b1]
   .show (PFx.of [false,false,false] 10 (eX (cE N))).G _=_;rw[ki];unfold eX;rw[show atV (.nd (lwB b) [bK b (l.take i),T2])=.tup [.str (wy (lwB b)),.tup [atV (bK b (l.take i)),atV T2]] from rfl];generalize atV T2=tv2 at *;generalize bV (cI b (lwB b) _ 0 _)=B1 at *;generalize bV (cI b (lwB b) _ _ _)=B2 at *;unfold itV at lo b2 ⊢;unfold liV at lr lc0 lo b2 ⊢;by_cases h2:1<i
    .have g1:decide ((1:Int)<(i:Nat))=true:=A_ (by omega);have e8:atV (bK b (l.take i))=.tup [.str (wy !lwB b),.tup ((l.take i).map λk:Nat=>Val.int k)]:=by unfold bK;rw[if_neg (by omega),nU]
     rw[e8];generalize fV (aR b _ _)=r0 at *;generalize wy (!lwB b)=y1 at *;generalize wy (lwB b)=yy at *;generalize ((l.map λk=>ws.getD k 0).take i).map Val.int=x1 at *;generalize ((l.map λk=>ws.getD k 0).drop i).map Val.int=x2 at *;generalize (l.map λk=>ws.getD k 0).map Val.int=x0 at *;generalize ((l.take i).map λk:Nat=>Val.int k)=l1 at *;generalize ((l.drop i).map λk:Nat=>Val.int k)=l2 at *;generalize (l.map λk:Nat=>Val.int k)=l0 at *;generalize ws.map Val.int=wv at *;generalize bV b=bv at *;rw[show ((1:Nat):Int)=1 from rfl] at lr lo;simp![lz,bL,inS,lc0,lr,lo,lw2,a0,g1,Q2,Q_,lb,dg,ctl,cdl,ctx,cdx,m1,m2,lpe,ll,lx,q1,b2]
    .have g1:decide ((1:Int)<(i:Nat))=false:=w_ (by omega);have e8:atV (bK b (l.take i))=.int ((l.headD 0:Nat):Int):=by unfold bK;rw[if_pos (by omega),hd0 i r1];rfl
     rw[e8];generalize fV (aR b _ _)=r0 at *;generalize wy (lwB b)=yy at *;generalize ((l.map λk=>ws.getD k 0).take i).map Val.int=x1 at *;generalize ((l.map λk=>ws.getD k 0).drop i).map Val.int=x2 at *;generalize (l.map λk=>ws.getD k 0).map Val.int=x0 at *;generalize ((l.take i).map λk:Nat=>Val.int k)=l1 at *;generalize ((l.drop i).map λk:Nat=>Val.int k)=l2 at *;generalize (l.map λk:Nat=>Val.int k)=l0 at *;generalize ws.map Val.int=wv at *;generalize bV b=bv at *;rw[show ((1:Nat):Int)=1 from rfl] at lr lo;simp![lz,bL,inS,lc0,lr,lo,lw2,a0,g1,dg,ctl,cdl,ctx,cdx,m1,m2,lpe,ll,lx,q1,b2]
   .simp [AT.ok,AT.okL,o1,b3]
   .rw[AT.lvs,AT.lvsL,AT.lvsL,AT.lvsL,o2,b4,Pn,Rr]
   .simp only[AT.dep,AT.depL];omega
def bndN{ws:List Int}{b:Bx}(g:Good b)(W:WOk ws):∃m,m<=104/\Bd m (2^101) b ws.length/\∀l:List Nat,(∀k∈l,k<ws.length)->l.length<=ws.length->wtA ws l<2^m:=by
 obtain⟨D,hD,R⟩:=Et g;have hin:∀k,k<ws.length->ws.getD k 0∈ws:=λk hk=>by rw[Em,y_ hk];exact P4 _
 have wl:=W.len;have key:∀m,m*ws.length<=1218->Bd m (2^101) b ws.length:=λm h1=>by
  refine⟨D,2^101,R,o_ _,by decide,?_⟩;have a1:2^101+ws.length*2^101<=2^107:=by
   have h1:=PV (2^101) (show ws.length<=40 by omega);have h2:2^107=64*2^101:=by decide
   rw[h2];generalize 2^101=X at *;omega
  have a2:2^(m*ws.length)<=2^1218:=PX (by decide) h1;refine P5 (Pm a1 (Pm (QJ hD) a2)) ?_;rw[<- Qg,<- Qg];exact Nat.pow_lt_pow_right (by decide) (by decide)
 by_cases h9:10<ws.length
 .refine⟨29,by decide,key 29 (by omega),λl hl hn=>?_⟩
  have:=jX (M:=8388608) λk hk=>W.few h9 _ (hin k (hl k hk))
  have:(2:Int)^29=536870912:=by decide
  omega
 .refine⟨104,by decide,key 104 (by omega),λl hl hn=>?_⟩
  have:=jX (M:=1000000000000000000000000000000) λk hk=>(W.wt _ (hin k (hl k hk))).2
  have:(2:Int)^104=20282409603651670423947251286016:=by decide
  omega
def Hc{ws:List Int}(hl:ws.length<64):bA.G [liV ws]=.ok (.new (itV (ax ws))) []:=by have kf:=Ja ws hl;have ll:((ws.map Val.int).length:Nat)=ws.length:=k_ ..;unfold bA;rw[aC];unfold fD;unfold liV itV;generalize (ax ws).map (λi:Nat=>Val.int (i:Nat))=fv at *;generalize ws.map Val.int=wv at *;simp![ll,kf]
def WOk.rev{ws:List Int}(W:WOk ws):WOk ws.reverse:=⟨by rw[Qc];exact W.pos,by rw[Qc];exact W.len,λw hw=>W.wt w (List.mem_reverse.mp hw),λh w hw=>W.few (by rw[Qc] at h;exact h) w (List.mem_reverse.mp hw)⟩
def pD{α:Type}(n:Nat)(f:Nat->α):((List.range n).map f).reverse=(List.range n).map λk=>f (n-1-k):=by refine List.ext_getElem (by simp) λi h1 h2=>?_;simp
def Ct(ws:List Int):srP (cU ws)=(ax ws).map (kyF ws):=by refine oB (k:=λx=>x) (yR (nX ws)) (Q9.mpr (bS ws).up) ((uv _).trans ?_);unfold cU;exact ((bS ws).perm.map _).symm
def IS{ws:List Int}(hl:ws.length<=1000):∃s,lcV (gtN 0).G qY.G (br (aa (pOp eR (ah 0) (pOp bIx (af 1) (af 0))) (aa (af 0) ag))).G (rgV ws.length) [] [.no,.sh (liV ws)]=.ok ((cU ws).map dS) [s,.sh (liV ws)]:=by
 obtain⟨e',⟨s,rfl,_⟩,lc⟩:=cW (g:=(gtN 0).G) (F:=(br (aa (pOp eR (ah 0) (pOp bIx (af 1) (af 0))) (aa (af 0) ag))).G) (λk:Nat=>Val.int k) (λk:Nat=>dS (kyF ws k)) (λe=>∃s:Sl,e=[s,.sh (liV ws)]/\s.pl=true) (List.range ws.length) [] [.no,.sh (liV ws)] ⟨.no,rfl,rfl⟩ (by
  rintro k hk _ ⟨s,rfl,hs⟩;have h1:=Pk.mp hk;have a1:atI (ws.map Val.int) (k:Nat)=some (.int (ws.getD k 0)):=cL (by omega) (by rw[N_];show (ws[k]?).map _=_;rw[Em,y_ h1];rfl);have z0:∀x:Int,0-x=-x:=λx=>by omega
  refine⟨[.sh (.int (k:Nat)),.sh (liV ws)],.val (dS (kyF ws k)),[.sh (.int (k:Nat)),.sh (liV ws)],?_,?_,rfl,_,rfl,rfl⟩
  .generalize liV ws=wv;simp![hs]
  .unfold liV dS kyF;simp![a1,z0]) (by rw[Pd,Pc];omega)
 rw[Ph] at lc;refine⟨s,lc.trans ?_⟩;unfold cU;rw[Pq];rfl
def Lu{ws:List Int}(hl:ws.length<=1000):∃s1 s2,lcV (gtT 2 (aX (gtN 0) (aX (gtN 1) eA))).G qY.G (af 1).G ((srP (cU ws)).map dS) [] [.no,.no]=.ok ((ax ws).map λi:Nat=>Val.int (i:Nat)) [s1,s2]:=by
 rw[Ct];have lf:(ax ws).length=ws.length:=by rw[(bS ws).perm.length_eq,Pc]
 obtain⟨e',⟨s1,s2,rfl,_,_⟩,lc⟩:=cW (g:=(gtT 2 (aX (gtN 0) (aX (gtN 1) eA))).G) (F:=(af 1).G) (λk:Nat=>dS (kyF ws k)) (λk:Nat=>Val.int (k:Nat)) (λe=>∃s1 s2:Sl,e=[s1,s2]/\s1.pl=true/\s2.pl=true) (ax ws) [] [.no,.no] ⟨.no,.no,rfl,rfl,rfl⟩ (by
  rintro k hk _ ⟨s1,s2,rfl,h1,h2⟩;refine⟨[.sh (.int (kyF ws k).1),.sh (.int (k:Nat))],.val (.int (k:Nat)),[.sh (.int (kyF ws k).1),.sh (.int (k:Nat))],?_,?_,rfl,_,_,rfl,rfl,rfl⟩
  .have e:dS (kyF ws k)=.tup [.int (kyF ws k).1,.int (k:Nat)]:=rfl;rw[e];simp![h1,h2]
  .simp![jv]) (by rw[Pd];omega)
 rw[Ph] at lc;refine⟨s1,s2,?_⟩;rw[Pq];exact lc
def sW{r:Nat->Nat}{b:Bx}{l:List Nat}(h:1<=l.length):bK b (l.map r)=(bK b l).ren r:=by
 unfold bK;rw[k_];by_cases h1:l.length=1
 .rw[if_pos h1,if_pos h1];cases l with
  |nil=>simp at h
  |cons k l=>rfl
 .rw[if_neg h1,if_neg h1,AT.ren,AT.renL_map,Pq,Pq];congr 1
theorem wg{ws us:List Int}{r:Nat->Nat}:∀(N:Nat) (l:List Nat) (b:Bx),(∀k∈l,us.getD (r k) 0=ws.getD k 0)->1<=l.length->rwT us N b (l.map r)=(rwT ws N b l).ren r
 |
  0,l,b,_,h1=>by
  cases l with
  |nil=>simp at h1
  |cons k l=>rfl
 |
  N+1,l,b,h,h1=>by
  have e:((l.map r).map λk=>us.getD k 0)=l.map λk=>ws.getD k 0:=by rw[Pq];exact Qd λk hk=>h k hk
  have xl:(l.map λk=>ws.getD k 0).length=l.length:=k_ ..;obtain⟨r1,r2⟩:=yP (b:=b) (xs:=l.map λk=>ws.getD k 0) (by omega);rw[rwT,rwT,e,k_];generalize row b (l.map λk=>ws.getD k 0)=i at *;by_cases hk:i=l.length
  .rw[if_pos hk,if_pos hk];exact sW h1
  .rw[if_neg hk,if_neg hk];rw[show (l.map r).take i=(l.take i).map r from by rw[QU],show (l.map r).drop i=(l.drop i).map r from by rw[QT],AT.ren,AT.renL,AT.renL,AT.renL];rw[sW (by rw[PD];omega),wg N (l.drop i) _ (λk hk=>h k (QM hk)) (by rw[Qv];omega)]
def tF{ws:List Int}{b:Bx}{t:Val}(hb:b.Ok)(W:WOk ws)(h:(bj 42).G [bV b,itV (ax ws),liV ((ax ws).map λk=>ws.getD k 0)]=.ok (.val t) []):aZ.G [bV b,liV ws]=.ok (.val t) []:=by
 have wl:=W.len;have wp:=W.pos;have cb:=fo hb;have cw:=tT (ws:=ws) (by intro z;rw[z] at wp;exact absurd wp (by decide)) (λw hw=>(W.wt w hw).1) wl;have bf:=Hc (ws:=ws) (by omega);have lf:(ax ws).length=ws.length:=by rw[(bS ws).perm.length_eq,Pc]
 obtain⟨s,lc⟩:=rD (ws:=ws) (l:=ax ws) (by omega) (λk hk=>Pk.mp ((bS ws).perm.mem_iff.mp hk));have lz:(((ax ws).map λk=>ws.getD k 0).map Val.int).length<=16777216:=by rw[k_,k_];omega
 unfold aZ;rw[aC];unfold hE;unfold itV at h bf;unfold liV at h lc bf ⊢;generalize ((ax ws).map λk=>ws.getD k 0).map Val.int=xv at *;generalize (ax ws).map (λi:Nat=>Val.int (i:Nat))=fv at *;generalize ws.map Val.int=wv at *;generalize bV b=bv at *;simp![cb,cw,bf,bL,inS,lc,lz,h]
def wz{ws:List Int}{b:Bx}{t:Val}(h:aZ.G [bV b,liV ws]=.ok (.val t) []):cK.G [.str "greatest",bV b,liV ws]=.ok (.val t) []:=by
 have n1:CL.G (.str "greatest") (.tup [.str "across",.str "down",.str "halves",.str "rows",.str "greatest",.str "thirds"])=.val (.bl false):=rfl;have ck:dO.G [.str "greatest"]=.ok (.val .non) []:=by unfold dO;rw[aC];unfold jN;simp![n1]
 have e0:cB (.str "greatest") (.str "halves")=some false:=by rw[L3.eq_str (by decide) (by decide)];exact PF some (by decide)
 have e1:cB (.str "greatest") (.str "rows")=some false:=by rw[L3.eq_str (by decide) (by decide)];exact PF some (by decide)
 have e2:cB (.str "greatest") (.str "greatest")=some true:=by rw[L3.eq_str (by decide) (by decide)];exact PF some (by decide)
 unfold cK;rw[aC];unfold lu;generalize liV ws=wv at *;generalize bV b=bv at *;simp![ck,e0,e1,e2,h]
def Mn{ws:List Int}{b:Bx}{t:Val}{r:Val}(h:cK.G [.str "greatest",bV b,liV ws]=.ok (.val t) [])(k:d8.G [bV b,liV ws,t]=.ok (.new r) []):dX.G [.str "greatest",bV b,liV ws]=.ok (.new r) []:=by unfold dX;rw[aC];unfold pA;generalize liV ws=wv at *;generalize bV b=bv at *;simp![h,k]
def pI{ws:List Int}{b:Bx}(g:Good b)(W:WOk ws):∃t:AT,t=rwT ws 42 b (ax ws)/\aZ.G [bV b,liV ws]=.ok (.val (atV t)) []/\(cE 42).G [bV b,liV ws,itV (ax ws)]=.ok (.val (atV t)) []/\t.dep<=40/\(∀k,k∈t.lvs ↔ k<ws.length)/\t.lvs.Nodup/\dX.G [.str "greatest",bV b,liV ws]=.ok (.new (.lst ((List.range ws.length).map λk=>bV (bxO (AT.bx ws t b) k)))) []:=by
 obtain⟨mm,hm,B,hS⟩:=bndN g W;have wl:=W.len;have wp:=W.pos;have F:=bS ws;have lf:(ax ws).length=ws.length:=by rw[F.perm.length_eq,Pc]
 have mf:∀k,k∈ax ws ↔ k<ws.length:=λk=>by rw[F.perm.mem_iff];exact Pk
 obtain⟨t1,t2,t3,t4,t5⟩:=vt (B:=2^101) hm hS (λw hw=>(W.wt w hw).1) wl 42 (ax ws) b (by omega) (by omega) (by omega) (λk hk=>(mf k).mp hk) (by rw[lf];exact B);refine⟨_,rfl,tF g.ok W t1,t2,by omega,λk=>by rw[t4];exact mf k,by rw[t4];exact F.perm.nodup_iff.mpr QN,?_⟩;have h2:=wz (tF g.ok W t1);generalize rwT ws 42 b (ax ws)=t at *;have T:TOk t (ax ws):=⟨t3,λk=>by rw[t4],t5,by rw[t4]⟩;obtain⟨m',hm',hy⟩:=Md g W T mf lf;have l2:=C5 (ws:=ws) (n:=2000) (m:=m') (by omega) g.ok (by intro z;rw[z] at wp;exact absurd wp (by decide)) (λw hw=>(W.wt w hw).1) wl t3 (λk=>by rw[t4];exact mf k) (by rw[t4];exact F.perm.nodup_iff.mpr QN) (by rw[t4];exact lf) (by omega) hy;exact Mn h2 l2
def Dj(r:SR3):Prop:=sS [false] r=.ok (.val (.bl true)) []
def Jd{r:Int}:∃m:Int,1<=m/\m<=40/\atI [Val.int 9,.int 40] (if (r==0)=true then 1 else 0)=some (.int m):=by
 by_cases h:r=0
 .exact⟨40,by decide,by decide,by rw[h];exact cL (by decide) rfl⟩
 .have e:(r==0)=false:=by rw[D_];exact h
  exact⟨9,by decide,by decide,by rw[e];exact cL (by decide) rfl⟩
def II(ns:List Int)(hl:ns.length<=63):qS.G [.kl (ns.map .int)]=.ok (.val (.bl true)) []:=by
 unfold qS;rw[yg rfl];show Dj (x5.G [.sh (.kl (ns.map .int)),.no,.no,.no,.no,.no,.no]);unfold x5;obtain⟨a,e0⟩:=nY (ns:=ns) (k:=55) (by omega);refine aO (λe=>e=[.sh (.kl (ns.map .int)),.ow (fdV a 0 55),.no,.no,.no,.no,.no]) ⟨_,by simp![e0],rfl⟩ ?_;rintro _ rfl;obtain⟨b,a1,c1,g,e1⟩:=Fc a 0 55;refine aO (λe=>e=[.sh (.kl (ns.map .int)),.ow (fdV a1 c1 55),.sh (bV b),.no,.no,.no,.no]) ⟨_,by simp![e1],rfl⟩ ?_;rintro _ rfl;obtain⟨r,a2,c2,e2,_,_⟩:=aB (a:=a1) (b:=c1) (k:=55) (m:=6) (by decide) (sm8 (by decide));obtain⟨m,m1,m2,pm⟩:=Jd (r:=r);obtain⟨ws,p1,p2,p3,p4,p5⟩:=xD (ns:=ns) (at_:=0) (most:=m) (by decide) ⟨m1,m2⟩;have W:WOk ws:=⟨p1,by omega,p3,λh=>p4 (by omega)⟩;refine aO (λe=>e=[.sh (.kl (ns.map .int)),.ow (fdV a2 c2 55),.sh (bV b),.sh (liV ws),.no,.no,.no]) ⟨_,by generalize liV ws=wv at *;generalize bV b=bv at *;generalize fdV a1 c1 55=f1 at *;generalize fdV a2 c2 55=f2 at *;simp![e2,pm,p5],rfl⟩ ?_;rintro _ rfl;have wl:=W.len;have wp:=W.pos;have ll:((ws.map Val.int).length:Nat)=ws.length:=k_ ..;obtain⟨s0,lc1⟩:=IS (ws:=ws) (by omega);obtain⟨s1,s2,lc2⟩:=Lu (ws:=ws) (by omega);have kl:(cU ws).length=ws.length:=by unfold cU;rw[k_,Pc]
 have ks:=G7 (cU ws) (nX ws) (by omega);have lk:((cU ws).map dS).length<=16777216:=by rw[k_];omega
 have lf:(ax ws).length=ws.length:=by rw[(bS ws).perm.length_eq,Pc]
 have lo:((ax ws).map λi:Nat=>Val.int (i:Nat)).length<=16777216:=by rw[k_];omega
 have rg:iw [.int (ws.length:Nat)]=some (rgV ws.length):=nO (by omega);refine aO (λe=>e=[.sh (.kl (ns.map .int)),.ow (fdV a2 c2 55),.sh (bV b),.sh (liV ws),.sh (itV (ax ws)),.no,.no]) ⟨_,by unfold liV at lc1 ⊢;unfold itV;generalize (cU ws).map dS=kv at *;generalize (srP (cU ws)).map dS=sv at *;generalize (ax ws).map (λi:Nat=>Val.int (i:Nat))=fv at *;generalize ws.map Val.int=wv at *;generalize bV b=bv at *;generalize fdV a2 c2 55=f2 at *;simp![ll,rg,bL,inS,lc1,lk,ks,lc2,lo],rfl⟩ ?_;rintro _ rfl;obtain⟨t,et,h1,h2,td,tm,tn,h3⟩:=pI g W;refine aO (λe=>e=[.sh (.kl (ns.map .int)),.ow (fdV a2 c2 55),.sh (bV b),.sh (liV ws),.sh (itV (ax ws)),.sh (atV t),.no]) ⟨_,by generalize liV ws=wv at *;generalize itV (ax ws)=fv at *;generalize bV b=bv at *;generalize atV t=tv at *;generalize fdV a2 c2 55=f2 at *;simp![h2],rfl⟩ ?_;rintro _ rfl;have h4:=wz h1;have eqt:cB (atV t) (atV t)=some true:=F7 t (by omega) λ_ _=>rfl;have ew:=NV ws;refine aO (λe=>e=[.sh (.kl (ns.map .int)),.ow (fdV a2 c2 55),.sh (bV b),.sh (liV ws),.sh (itV (ax ws)),.sh (atV t),.no]) ⟨_,by generalize liV ws=wv at *;generalize itV (ax ws)=fv at *;generalize bV b=bv at *;generalize atV t=tv at *;generalize fdV a2 c2 55=f2 at *;simp![h1,h4,eqt],rfl⟩ ?_;rintro _ rfl;have sl:=Iu ws (by omega);have ls:=zW (ddI ws);by_cases hd:(ddI ws).length<ws.length
 .have d1:decide (((ddI ws).length:Int)<((ws.length:Nat):Int))=true:=A_ (by omega);unfold Dj;unfold liV;generalize itV (ax ws)=fv at *;generalize ddI ws=dw at *;generalize ws.map Val.int=wv at *;generalize bV b=bv at *;generalize atV t=tv at *;generalize fdV a2 c2 55=f2 at *;simp![sl,ls,ll,d1,wU]
 .have d1:decide (((ddI ws).length:Int)<((ws.length:Nat):Int))=false:=w_ (by omega);have nd:∀i j,i<j->j<ws.length->ws.getD i 0≠ws.getD j 0:=λi j hij hj=>ET (by omega) hij hj;obtain⟨t',et',_,_,_,_,_,h5⟩:=pI g W.rev;have F:=bS ws;have lt:∀i∈ax ws,i<ws.length:=λi hi=>Pk.mp (F.perm.mem_iff.mp hi);have hp:∀k∈ax ws,1<=ws.getD k 0:=λk hk=>by rw[Em,y_ (lt k hk)];exact (W.wt _ (P4 _)).1
  have hr:∀k∈ax ws,ws.reverse.getD (ws.length-1-k) 0=ws.getD k 0:=λk hk=>jg (lt k hk);rw[CP nd,wg 42 (ax ws) b hr (by omega),<- et] at et';have bx:AT.bx ws.reverse t' b=(AT.bx ws t b).map (rO λk=>ws.length-1-k):=by rw[et'];exact AT.ren_bx t (λk hk=>jg ((tm k).mp hk)) b
  have keys:=AT.bx_keys ws t b;have eb:(List.range ws.length).map (λk=>bV (bxO (AT.bx ws.reverse t' b) k))=((List.range ws.length).map λk=>bV (bxO (AT.bx ws t b) k)).reverse:=by
   rw[pD];refine Qd λk hk=>?_;have hk:=Pk.mp hk;rw[bx];congr 1
   have:=vn (r:=λk=>ws.length-1-k) (k:=ws.length-1-k) (l:=AT.bx ws t b) λp hp' e=>by
    have:p.1∈t.lvs:=by rw[<- keys];exact PH.mpr ⟨p,hp',rfl⟩
    have:=(tm _).mp this
    have e:ws.length-1-p.1=ws.length-1-(ws.length-1-k):=e;omega
   rw[<- this];congr 1;show k=ws.length-1-(ws.length-1-k);omega
  rw[Qc,eb] at h5;have rv:(ws.map Val.int).reverse=ws.reverse.map Val.int:=(List.map_reverse).symm;have ebx:=Nd (List.range ws.length) λk=>bxO (AT.bx ws t b) (ws.length-1-k);rw[<- pD ws.length λk=>bV (bxO (AT.bx ws t b) k)] at ebx;refine aO (λe=>e=[.sh (.kl (ns.map .int)),.ow (fdV a2 c2 55),.sh (bV b),.sh (liV ws),.sh (itV (ax ws)),.sh (atV t),.no]) ⟨_,by unfold liV;generalize itV (ax ws)=fv at *;generalize ddI ws=dw at *;generalize ws.map Val.int=wv at *;generalize bV b=bv at *;generalize atV t=tv at *;generalize fdV a2 c2 55=f2 at *;simp![sl,ls,ll,d1],rfl⟩ ?_;rintro _ rfl;unfold Dj;unfold liV at h3 h5 ⊢;rw[<- rv] at h5;generalize (List.range ws.length).map (λk=>bV (bxO (AT.bx ws t b) k))=RB at *;generalize itV (ax ws)=fv at *;generalize ddI ws=dw at *;have kr:=Er (ws.map Val.int);have kr2:=Er RB;generalize (ws.map Val.int).reverse=wr at *;generalize RB.reverse=BR at *;generalize ws.map Val.int=wv at *;generalize bV b=bv at *;generalize atV t=tv at *;generalize fdV a2 c2 55=f2 at *;simp![kr,kr2,h3,h5,ebx,wU]
end KK
namespace PySem.W.Fast
def tw10000130314682446353:=trivial
def tw100081345469408858:=trivial
def tw10017656404532643611:=trivial
def tw10028338393225589128:=trivial
def tw10101571156949608388:=trivial
def tw10136098866023680162:=trivial
def tw10152463897679850184:=trivial
def tw10188175404260565226:=trivial
def tw10201265571123204313:=trivial
def tw10265378823530579570:=trivial
def tw10292506508636061206:=trivial
def tw10298650904207448094:=trivial
def tw10325455246720241953:=trivial
def tw10340698353377954139:=trivial
def tw10387889489522031804:=trivial
def tw10401740921562714109:=trivial
def tw10444941543257750427:=trivial
def tw10449850742417154459:=trivial
def tw10505676139175505183:=trivial
def tw10561768480282707979:=trivial
def tw10584262643703253921:=trivial
def tw10593788761314434327:=trivial
def tw10618037593856152856:=trivial
def tw10632804258685429074:=trivial
def tw10648142427847256661:=trivial
def tw10653744648035303809:=trivial
def tw10658062201133477716:=trivial
def tw10677232422289680024:=trivial
def tw1070415382554710680:=trivial
def tw10761157720187266382:=trivial
def tw1077864718065629298:=trivial
def tw1087475353143401281:=trivial
def tw10916706655371510549:=trivial
def tw1092831103826003058:=trivial
def tw10931568997775340904:=trivial
def tw10934244869797876798:=trivial
def tw11093835277179897906:=trivial
def tw11285328293891243850:=trivial
def tw11314624515896023622:=trivial
def tw11348012731360778751:=trivial
def tw11371293421834037048:=trivial
def tw11453559717572079655:=trivial
def tw1149957419089557121:=trivial
def tw11512471836003259404:=trivial
def tw1155994759929272097:=trivial
def tw11582955934971926325:=trivial
def tw11583229537770634169:=trivial
def tw11601673925427990202:=trivial
def tw11615500151314062464:=trivial
def tw11645139498615007674:=trivial
def tw11649737761741280599:=trivial
def tw11664700786153807177:=trivial
def tw11708712476444912390:=trivial
def tw11715832290365661357:=trivial
def tw1178033246890940292:=trivial
def tw11790539232102434512:=trivial
def tw11793517715613633676:=trivial
def tw1180098890270573141:=trivial
def tw11889386268900115247:=trivial
def tw1189280925877494451:=trivial
def tw11920387685929001291:=trivial
def tw11939037245259227910:=trivial
def tw11964281479353829403:=trivial
def tw12001476364486973065:=trivial
def tw120086448419407346:=trivial
def tw12023215142806298238:=trivial
def tw12023950865683532355:=trivial
def tw12027857021632222983:=trivial
def tw12044948736459992053:=trivial
def tw12051643862774230467:=trivial
def tw1209203159215034680:=trivial
def tw12096882741665572052:=trivial
def tw12148017392005791553:=trivial
def tw12186197601382786764:=trivial
def tw1219696648770100126:=trivial
def tw12283624509981820103:=trivial
def tw1230037538817841413:=trivial
def tw12411386811086663851:=trivial
def tw12440405022238321297:=trivial
def tw12447425895823831261:=trivial
def tw12489386006984694586:=trivial
def tw12510074537225968340:=trivial
def tw12531593693407267087:=trivial
def tw12566711678364035436:=trivial
def tw12567249933845701068:=trivial
def tw1257602450410146347:=trivial
def tw12615400153383550048:=trivial
def tw1267690924787621846:=trivial
def tw12680120527173557356:=trivial
def tw1268145728094879790:=trivial
def tw1270427226866456166:=trivial
def tw1271141254859768814:=trivial
def tw12787094677205330188:=trivial
def tw12879667527091585341:=trivial
def tw12923508870913054438:=trivial
def tw13004578742113182372:=trivial
def tw1305766872621213531:=trivial
def tw13061257317869094252:=trivial
def tw13087968888550550962:=trivial
def tw1313763450127984614:=trivial
def tw13215961977797815812:=trivial
def tw13235659264260375331:=trivial
def tw13254592040522585052:=trivial
def tw13277818913628422044:=trivial
def tw13334914349420999985:=trivial
def tw13366801047779526198:=trivial
def tw13385475968775698587:=trivial
def tw13465274647917401832:=trivial
def tw13500785032903857142:=trivial
def tw13526807812188882830:=trivial
def tw13554117988503765108:=trivial
def tw13647092167120259633:=trivial
def tw13699344658846765396:=trivial
def tw13740069870248018750:=trivial
def tw13816673401964085398:=trivial
def tw138559872723533664:=trivial
def tw13861553998480887477:=trivial
def tw13951663411863174441:=trivial
def tw13954074954672334978:=trivial
def tw13957946115920583385:=trivial
def tw13959875369758237051:=trivial
def tw13979266724210794672:=trivial
def tw14050173852760718802:=trivial
def tw14104891220073638692:=trivial
def tw14110396702764821315:=trivial
def tw14177994401156021510:=trivial
def tw14196345409885616533:=trivial
def tw14228119879827472156:=trivial
def tw14259300774133386971:=trivial
def tw14259441004871746040:=trivial
def tw14277815824157842477:=trivial
def tw14280626914240848672:=trivial
def tw14378534550249124251:=trivial
def tw14404434671894036169:=trivial
def tw14406204333310483706:=trivial
def tw1447730262356451041:=trivial
def tw14480083108025940068:=trivial
def tw14494890971282935215:=trivial
def tw14495992269203719947:=trivial
def tw14523412779525943063:=trivial
def tw14767226494961750942:=trivial
def tw14823236474873477944:=trivial
def tw14839020257429355252:=trivial
def tw1492703765487250916:=trivial
def tw14932566712693827069:=trivial
def tw15002209963221350330:=trivial
def tw15139763830292163024:=trivial
def tw15149559500203768011:=trivial
def tw1519674015953831929:=trivial
def tw15214571552026836008:=trivial
def tw15275467399792853285:=trivial
def tw1527609832973068894:=trivial
def tw15301235132027707940:=trivial
def tw15309128204178974603:=trivial
def tw15350833416828260604:=trivial
def tw15380689092631111411:=trivial
def tw15398535058596683444:=trivial
def tw1548004139790243900:=trivial
def tw15491588653956517675:=trivial
def tw15504582020338742182:=trivial
def tw1556187973930035183:=trivial
def tw15635081413223533145:=trivial
def tw15675485690926575240:=trivial
def tw15780283472730586018:=trivial
def tw15839771621670512474:=trivial
def tw15848699017705233633:=trivial
def tw15856769950643931627:=trivial
def tw15868024480262293427:=trivial
def tw15901270556647121888:=trivial
def tw15967595602473113256:=trivial
def tw16080112234854205482:=trivial
def tw16149032379539431231:=trivial
def tw16162523975333324371:=trivial
def tw16187464941211380058:=trivial
def tw1626428791034592269:=trivial
def tw16270961224454986928:=trivial
def tw16296867576330643300:=trivial
def tw16309557767676982296:=trivial
def tw16315814363569357681:=trivial
def tw16317278496019656695:=trivial
def tw16353334745125870634:=trivial
def tw16362052191097223278:=trivial
def tw16373160492662835869:=trivial
def tw16396177152889856312:=trivial
def tw16452055077402933261:=trivial
def tw16519500571120242381:=trivial
def tw16581559513092198141:=trivial
def tw16586939925162443534:=trivial
def tw16587047458301671968:=trivial
def tw16587342671967082396:=trivial
def tw16601616478916842902:=trivial
def tw16619758481315482886:=trivial
def tw16692991532424003084:=trivial
def tw16748597192856874200:=trivial
def tw16763379243385364568:=trivial
def tw16772732597138719932:=trivial
def tw16775036448915979941:=trivial
def tw16783180978563645801:=trivial
def tw16830164716152131141:=trivial
def tw16887954720185604144:=trivial
def tw1692113732105954953:=trivial
def tw17129456588983602261:=trivial
def tw17144302358935783848:=trivial
def tw17149253180721638337:=trivial
def tw17151044996491535082:=trivial
def tw17154584429784202903:=trivial
def tw17184012096775323178:=trivial
def tw1718600636139472802:=trivial
def tw17204818042423480825:=trivial
def tw17250409167027138712:=trivial
def tw17254611896412354189:=trivial
def tw17263525871730439858:=trivial
def tw1727029534619532571:=trivial
def tw17272375871101422030:=trivial
def tw17287297563765713220:=trivial
def tw17324386519575661579:=trivial
def tw17345273622362734803:=trivial
def tw17369364717537456079:=trivial
def tw17380936768219475886:=trivial
def tw17388252507868826428:=trivial
def tw17400161012381531441:=trivial
def tw17400188737583460319:=trivial
def tw17418353888198978590:=trivial
def tw17527354911583518947:=trivial
def tw17543440746040144065:=trivial
def tw175579476198301614:=trivial
def tw1757259326461261328:=trivial
def tw17594053528935605204:=trivial
def tw17645609082974647511:=trivial
def tw17667764286355721986:=trivial
def tw17668224518988473165:=trivial
def tw17703764250441736662:=trivial
def tw17742459222120507585:=trivial
def tw17750526868263133052:=trivial
def tw17765165253959111350:=trivial
def tw17872207093748926841:=trivial
def tw17990206408215306232:=trivial
def tw18057958944893079071:=trivial
def tw18082305927323516816:=trivial
def tw18106449965347179940:=trivial
def tw18119970152225887093:=trivial
def tw18300653916719389388:=trivial
def tw18305369954886389088:=trivial
def tw18343130717705639720:=trivial
def tw18383893077880691141:=trivial
def tw18408195843917261092:=trivial
def tw18432190634883096998:=trivial
def tw1855429668453859448:=trivial
def tw1872423403584131117:=trivial
def tw1958120812228490445:=trivial
def tw2053231938820757803:=trivial
def tw210235220708668762:=trivial
def tw2104907701392374433:=trivial
def tw2200186467852218144:=trivial
def tw2232770612296234178:=trivial
def tw2240835129038132523:=trivial
def tw2246993718971626180:=trivial
def tw2260758764261520008:=trivial
def tw2263535462057134420:=trivial
def tw2311428469359927259:=trivial
def tw2360986736904343698:=trivial
def tw2361485898321394661:=trivial
def tw2381409111860867962:=trivial
def tw2391905908990269435:=trivial
def tw2426253416145773244:=trivial
def tw2436018154743467387:=trivial
def tw2655096245309359045:=trivial
def tw2711981225448315289:=trivial
def tw2727946808991138584:=trivial
def tw273955625461255989:=trivial
def tw2743168690440574367:=trivial
def tw2758309662971967043:=trivial
def tw278163221030397154:=trivial
def tw2793456735049032679:=trivial
def tw2812807845182673143:=trivial
def tw2851082196292896987:=trivial
def tw2861997287255675277:=trivial
def tw2863957201153514331:=trivial
def tw288766348987480693:=trivial
def tw2914972310640354773:=trivial
def tw2937228221147706495:=trivial
def tw2953103917699568433:=trivial
def tw2972543871710599262:=trivial
def tw3008317224886608156:=trivial
def tw3111200621053007096:=trivial
def tw3128060747755397304:=trivial
def tw3145161255507733864:=trivial
def tw3249497595933022771:=trivial
def tw3271540010725736889:=trivial
def tw3298777541596628927:=trivial
def tw3382692205098626284:=trivial
def tw3387629929956475041:=trivial
def tw3457423516999658886:=trivial
def tw3458881242309536186:=trivial
def tw3507094216528722742:=trivial
def tw3529377064988388927:=trivial
def tw3532595974568191264:=trivial
def tw3591869178442989999:=trivial
def tw3645276184570835491:=trivial
def tw3716851733725636833:=trivial
def tw3754872264959078360:=trivial
def tw3841991379166562479:=trivial
def tw387953055200524518:=trivial
def tw3884683632620031504:=trivial
def tw3913468862043632170:=trivial
def tw3992505498016119052:=trivial
def tw4035968058821135533:=trivial
def tw4057215039575492478:=trivial
def tw4059663836101347883:=trivial
def tw4063565520082572564:=trivial
def tw408779501328255271:=trivial
def tw4106285721259392193:=trivial
def tw4176734913943832961:=trivial
def tw4179245400527854909:=trivial
def tw4250690551542924706:=trivial
def tw4268106468498170664:=trivial
def tw4303109672843223124:=trivial
def tw4309396557308677728:=trivial
def tw4350622748242733581:=trivial
def tw4360569012102571788:=trivial
def tw436638807666175956:=trivial
def tw4370603953995124405:=trivial
def tw438475837684740918:=trivial
def tw4420570348001837653:=trivial
def tw4425693066168931893:=trivial
def tw4426358381724734119:=trivial
def tw4502111958667855321:=trivial
def tw4530509297323328477:=trivial
def tw4652643670576195840:=trivial
def tw4745983728599702149:=trivial
def tw4748753323474464884:=trivial
def tw4809560394725639643:=trivial
def tw4815398563612281452:=trivial
def tw4854097147235092920:=trivial
def tw5015893425804954021:=trivial
def tw5114835622014885172:=trivial
def tw5161685216053430614:=trivial
def tw5176197868318188126:=trivial
def tw5179757820459485253:=trivial
def tw5222030477959631653:=trivial
def tw5230819374852416205:=trivial
def tw5236298674346721667:=trivial
def tw5249431505696037299:=trivial
def tw5298726859349432210:=trivial
def tw5318173351822115811:=trivial
def tw5328660614834952261:=trivial
def tw5362706287724840699:=trivial
def tw5394575492427350172:=trivial
def tw5556130803026425514:=trivial
def tw5626998267683859407:=trivial
def tw5639727859912910929:=trivial
def tw5667002861077830826:=trivial
def tw5726705693597054954:=trivial
def tw5743456069278138634:=trivial
def tw5814046954163035707:=trivial
def tw5851581236008466804:=trivial
def tw5865122128902725192:=trivial
def tw5870068027450765855:=trivial
def tw5912798246839567809:=trivial
def tw5968738884803061718:=trivial
def tw5998992779831000717:=trivial
def tw6028386066177525609:=trivial
def tw6093460001191128667:=trivial
def tw6171446576425631812:=trivial
def tw6185241881784573467:=trivial
def tw6189952484496395849:=trivial
def tw6205607076424489219:=trivial
def tw6211498774862235148:=trivial
def tw6294275949686688130:=trivial
def tw6325940794372638771:=trivial
def tw6421944505419288344:=trivial
def tw6431774569378357633:=trivial
def tw647296465299996270:=trivial
def tw6484871324755898363:=trivial
def tw6496889481590082597:=trivial
def tw6520906471029927533:=trivial
def tw6565378964448874551:=trivial
def tw6605754114239100103:=trivial
def tw6634438143781990290:=trivial
def tw6681074845695504990:=trivial
def tw6686090290631437947:=trivial
def tw6719787620663044807:=trivial
def tw6807153756809899251:=trivial
def tw6878367164458711755:=trivial
def tw6912523147064893854:=trivial
def tw7005225501469960897:=trivial
def tw7020399945574143661:=trivial
def tw7030831304786044616:=trivial
def tw7087344398188405821:=trivial
def tw7160356994048368370:=trivial
def tw7173211425984314099:=trivial
def tw7211694441048832498:=trivial
def tw7394964357320561613:=trivial
def tw7402231924059371864:=trivial
def tw7413685421541033397:=trivial
def tw7414404171976369859:=trivial
def tw7453074679925510952:=trivial
def tw7482029476516488307:=trivial
def tw7562953055692631772:=trivial
def tw7580492396708868794:=trivial
def tw7581117988299397035:=trivial
def tw7581668277907677936:=trivial
def tw7605360520528527492:=trivial
def tw7609140917372435326:=trivial
def tw7682332082955423645:=trivial
def tw7749229196050875018:=trivial
def tw7757768082994157084:=trivial
def tw7776888516293908505:=trivial
def tw7783508821412604752:=trivial
def tw780196014590005513:=trivial
def tw7806688240586675447:=trivial
def tw7845216045725208223:=trivial
def tw785455815376033893:=trivial
def tw788378300923457909:=trivial
def tw7911995056703220756:=trivial
def tw7922269789099161610:=trivial
def tw7924058129393481202:=trivial
def tw794127571912621286:=trivial
def tw7941362184285965485:=trivial
def tw7945009498618067972:=trivial
def tw7945201228374584553:=trivial
def tw7978322335219864733:=trivial
def tw7988380175472955596:=trivial
def tw8009766443212319605:=trivial
def tw8175457071903355311:=trivial
def tw8214142060062249398:=trivial
def tw8226311401054981099:=trivial
def tw8229842452598861633:=trivial
def tw824666219736667207:=trivial
def tw8363553034809654135:=trivial
def tw840031142580983686:=trivial
def tw8458823773676284927:=trivial
def tw8463928754262843623:=trivial
def tw8494520428009816069:=trivial
def tw8508561286120513583:=trivial
def tw8533300061181652717:=trivial
def tw8578193828595037245:=trivial
def tw8601680561375454722:=trivial
def tw8618664764246942096:=trivial
def tw8625036326422834490:=trivial
def tw8628176592696204549:=trivial
def tw8650596971658005328:=trivial
def tw8671508848123437780:=trivial
def tw8798297694412122973:=trivial
def tw8847260715322051468:=trivial
def tw8896351212732108819:=trivial
def tw8906051483289144150:=trivial
def tw8925769068141333311:=trivial
def tw8983713531771878175:=trivial
def tw9022098064207771962:=trivial
def tw904843503911959443:=trivial
def tw9069256390557987797:=trivial
def tw9114164584090933960:=trivial
def tw9115039055488142912:=trivial
def tw9133852285685813:=trivial
def tw9156592574183372202:=trivial
def tw925068257878804086:=trivial
def tw9408782817544443949:=trivial
def tw9450805037770470247:=trivial
def tw9562377821293394950:=trivial
def tw9614428154349964636:=trivial
def tw9651806183934927388:=trivial
def tw9705721549366150606:=trivial
def tw9715712936593062495:=trivial
def tw9821540446480464531:=trivial
def tw9915879811011654738:=trivial
def tw9923141225884687053:=trivial
def tw9929878876733736416:=trivial
def tw9949628025387466586:=trivial
def tw9950100538328804951:=trivial
def tw9971990037857738160:=trivial
def tw9972624801001305100:=trivial
end PySem.W.Fast
open PySem PySem.W PyProof.Rows L2 L3 KK
set_option maxRecDepth 100000 in
set_option maxHeartbeats 0 in
theorem PySem.Challenge.cw_weightrooms_k19_rows_greatest_first_holds : PySem.Challenge.rw_weightrooms_k19_rows_greatest_first.Holds := by
 w_on;o_law;k_head;(case hw=>w_witness2)
 k_fill
 refine L2.walk_lawT (l:=PySem.Challenge.rw_weightrooms_k19_rows_greatest_first) (x:="_law_script") (k:=56) rfl rfl ⟨rfl,by decide,by decide⟩ (λw h Y=>⟨W.km_in_of Y,Gi (by kernel_rfl) (W.km_tabs_of Y)⟩) ?F ?D
 case F=>
  intro w mg h KX G base kb nb;refine zb (FU ⟨⟨OQ KX G (by kernel_rfl),?_⟩,Jj KX G (by kernel_rfl)⟩) (Iv KX G (by kernel_rfl)) (law3 qS rfl II);repeat first
   |exact trivial
   |refine⟨by refine' Aj KX G ?a ?l ?c ?k;(case a=>k_is);(case l=>k_is);(case c=>k_is);(case k=>k_is),?_⟩
 case D=>
  intro w mg h KX G;refine⟨top 75,?_,(λ_ _ _ _ _ _=>ar1 λ_=>rfl)⟩;refine' Aj KX G ?a ?l ?c ?k;case a|l|c|k=>k_is
