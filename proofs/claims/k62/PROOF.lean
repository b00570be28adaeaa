import PyProof.Rows.All
import Wide.All
import OpenK.AllK
import Wide.FinOn
import Lean
import PyProof.EqAt
import PyProof.EqKinds
import PyProof.TupleCall
import PyProof.Rows.SumAny
import PyProof.EnumMake
import PyProof.Draws
import PyProof.ZipIter
import KE.KNestM
import PyProof.StrBlockH
import KE.KUnpack
import KE.KxIndex
import PyProof.SetRoads
import PyProof.SetNew
import PyProof.AutoSeq1
import KE.KRevSl
import PyProof.SeqI3
import PyProof.Rows.SortWalk
import PyProof.Rows.Range3
import KE.KSortTup
import KE.KLam
import PyProof.Rows.SetFrom
import PyProof.FactsAll.list_2
import PyProof.Rows.SortStr
import PyProof.Rows.StrRules
import PyProof.StrOps
import KE.KIntText
import PyProof.CallStr
import PyProof.StrWalks
import PyProof.Rows.StrNews2
import PySem.Challenge.RW_weightrooms_k62_lists_refused
local macro_rules|`(tactic|trivial)=>`(tactic|first|exact Or.inl rfl|exact Or.inr rfl)
local macro_rules|`(tactic|decide)=>`(tactic|decide +kernel)
set_option genSizeOf false
set_option genInjectivity false
set_option bootstrap.genMatcherCode false
noncomputable section
set_option Elab.async false
set_option linter.all false
def n_:=@PySem.wpAny_bind
def o_:=@List.length_map
def p_:=@PySem.Heap.get?_push_of_some
def q_:=@List.mem_cons_of_mem
def r_:=@Nat.le_refl
def s_:=@List.mem_cons_self
def t_:=@Bool.and_eq_true
def u_:=@Bool.false_ne_true
def v_:=@PySem.wpAny_pure
def w_:=@List.getElem?_eq_some_iff
def x_:=@List.size_toArray
def y_:=@List.map_cons
def z_:=@PySem.Heap.lt_size
def A_:=@List.length_range
def B_:=@List.getElem?_eq_getElem
def C_:=@decide_eq_false
def D_:=@List.length_cons
def Em:=@PySem.Heap.get?_push_size
def E_:=@decide_eq_true
def F_:=@List.mem_cons
def G_:=@List.length_append
def H_:=@Option.some.inj
def I_:=@Nat.lt_of_lt_of_le
def J_:=@beq_eq_false_iff_ne
def K_:=@Nat.ne_of_lt
def L_:=@List.getD_eq_getElem?_getD
def M_:=@Option.map_eq_some_iff
def NA:=@List.all_eq_true
def NB:=@List.getElem?_map
def NC:=@List.length_nil
def ND:=@PySem.wpAny_mono
def NF:=@List.length_set
def NG:=@Nat.le_trans
def NH:=@Option.bind_eq_some_iff
def NI:=@List.mem_append_right
def NJ:=@List.mem_singleton
def NK:=@List.nil_append
def NL:=@PyProof.Rows.callWith_type1
def NM:=@List.mem_range
def NN:=@List.sum_cons
def NO:=@beq_iff_eq
def NP:=@List.append_nil
def NQ:=@List.mem_map
def NR:=@congrArg
def NS:=@Int.toNat_natCast
def NT:=@List.map_append
def NU:=@List.replicate_succ
def NV:=@List.map_nil
def NW:=@List.getElem?_append_left
def NX:=@PySem.wpAny_Call_Name_kw
def NY:=@Nat.mul_le_mul
def NZ:=@Array.length_toList
def N2:=@List.contains_iff_mem
def N3:=@Nat.zero_le
def N4:=@List.length_take
def N5:=@List.take_of_length_le
def N6:=@PySem.wpAny_newObj_type
def N7:=@List.length_replicate
def N8:=@List.find?_cons
def N9:=@Rat.intCast_mul
def N_:=@PySem.wpAny_field
def Oa:=@Nat.pow_le_pow_right
def Od:=@Nat.lt_irrefl
def Oe:=@Int.natAbs_mul
def Of:=@List.map_map
def Og:=@Option.isSome_iff_exists
def Oh:=@Int.mul_assoc
def Oi:=@List.any_cons
def Oj:=@List.map_take
def Ol:=@List.getElem?_replicate
def Om:=@List.flatten_cons
def Oo:=@Nat.mul_le_mul_left
def Oq:=@PySem.mem_of_lookup
def Ot:=@PySem.wpAny_holding
def Ou:=@List.lookup_cons
def Ov:=@List.take_append_drop
def Ow:=@decide_eq_true_iff
def Ox:=@List.pairwise_iff_getElem
def Oy:=@Nat.mul_pos
def Oz:=@List.mem_append
def OA:=@List.mem_of_mem_take
def OB:=@Nat.mul_le_mul_right
def OC:=@decide_eq_true_eq
def OD:=@PySem.wpAny_truthy_bool
def OE:=@List.map_drop
def OF:=@decide_eq_false_iff_not
def OG:=@PySem.wpAny_callSpecial?_slot
def OH:=@PySem.Heap.SameBut.update
def OI:=@List.filterMap_cons
def OJ:=@List.length_zipWith
def OK:=@List.getElem_mem
def OL:=@PySem.wpAny_seqItems
def OM:=@Nat.pow_add
def ON:=@Bool.false_eq_true
def OO:=@PySem.Calls.spliced_cons
def OP:=@Nat.lt_of_le_of_lt
def OQ:=@PyProof.Rows.assignInOrder_cons
def OR:=@PySem.wpAny_setField_rec
def OS:=@Bool.or_eq_true
def OT:=@Int.natCast_mul
def OU:=@List.getElem?_zipWith
def OV:=@Nat.not_lt_zero
def OW:=@if_true
def OX:=@PySem.wpAny_passesOwn
def OY:=@PySem.F.slot_tuple_iterator_next
def OZ:=@List.getElem?_append_right
def O0:=@of_decide_eq_true
def O1:=@List.mem_of_getElem?
def O2:=@List.mem_or_eq_of_mem_set
def O3:=@List.length_drop
def O4:=@PySem.wpAny_getItem_str_slice
def O5:=@PySem.wpAny_standAt
def O6:=@Int.mul_ne_zero
def O7:=@List.nodup_cons
def O8:=@List.drop_of_length_le
def O9:=@List.getElem?_set_self
def O_:=@Bool.not_eq_true'
def Pa:=@PySem.Calls.spliced_nil
def Pb:=@Int.mul_left_comm
def Pc:=@List.append_assoc
def Pd:=@Nat.le_of_lt
def Pe:=@Nat.ne_of_gt
def Pf:=@List.getElem?_set_ne
def Pg:=@List.mem_append_left
def Ph:=@List.mem_of_mem_drop
def Pj:=@List.not_mem_nil
def Pk:=@PySem.call_meets
def Pl:=@if_false
def Pm:=@PySem.wpAny_call_entry
def Pn:=@PySem.Calls.Name_function_global
def Po:=@Int.eq_of_mul_eq_mul_right
def Pp:=@List.set_comm
def Pq:=@Array.getElem?_eq_getElem
def Pt:=@List.drop_eq_getElem_cons
def Pu:=@List.foldl_cons
def Pw:=@List.forIn_cons
def Px:=@List.getElem?_eq_none_iff
def Py:=@List.sum_append
def Pz:=@PySem.wpAny_execs_nil
def PC:=@Int.mul_comm
def PD:=@Int.mul_right_comm
def PF:=@List.idxOf_lt_length_iff
def PH:=@PySem.F.args_tuple_add_2
def PJ:=@PySem.codeAny_mono
def PK:=@PySem.Heap.size_push
def PL:=@PySem.wpAny_bindName
def PM:=@PySem.F.entry_tuple_add
def PN:=@PySem.F.plainAttrs_list
def PQ:=@PySem.Heap.get?_update_other
def PR:=@List.find?_cons_of_neg
def PU:=@List.length_eq_one_iff
def PV:=@PySem.F.slot_tuple_add
def PX:=@List.take_nil
def PY:=@Nat.mul_assoc
def PZ:=@PySem.wpAny_attempt
def P0:=@List.cons_append
def P4:=@List.nodup_range
def P5:=@Nat.le_add_right
def P6:=@decide_eq_decide
def P7:=@List.length_singleton
def P8:=@Bool.eq_iff_iff
def P9:=@PySem.F.slot_zip_next
def P_:=@PySem.Heap.get?_none_of_le
def Qa:=@List.getElem?_append
def Qb:=@List.of_mem_zip
def Qc:=@Nat.lt_trans
def Qd:=@Rat.num_eq_zero
def Qe:=@PySem.codeAny_builtin
def Qf:=@PySem.post_val_or_str
def Qg:=@PySem.wpAny_loadName_local
def Qh:=@PySem.wpAny_rule
def Qi:=@PySem.wpAny_updateSeq_pair
def Qj:=@List.map_eq_nil_iff
def Qk:=@List.drop_zero
def Ql:=@List.forIn_nil
def Qm:=@PySem.IsRange.new
def Qn:=@List.all_cons
def Qo:=@List.drop_nil
def Qp:=@PySem.Paired.length
def Qq:=@PyProof.Rows.listUpdate_at
def Qr:=@PySem.rangeSize_one
def Qs:=@PySem.wpAny_onRaise
set_option maxRecDepth 100000
namespace L2
open PySem PySem.Spec PyProof.Rows
abbrev _root_.Qt:=Str->Option Value
abbrev _root_.Qu:=List (Addr×Obj)
abbrev _root_.Qv:=Value->Shared->Prop
abbrev _root_.Qw:=List (Option Nat)
abbrev Key:=Sum Int Str
noncomputable def kP:Key->Value->Bool
 |.inl k,v=>Value.isInt k v
 |.inr x,v=>Value.isStrOf x v
noncomputable def keyH (w:World):Key->Int
 |.inl k=>hashInt k
 |.inr x=>hashStr w x
theorem bZ:∀{k:Key}{v:Value},kP k v=true->(∃i t,k=Sum.inl i/\v=Value.int i t)\/(∃x t,k=Sum.inr x/\v=Value.str x t)
 |
  .inl i,v,h=>by
  obtain⟨t,e⟩:=Value.isInt_shape (k:=i) (v:=v) h;exact .inl ⟨i,t,rfl,e⟩
 |
  .inr x,v,h=>by
  obtain⟨t,e⟩:=Value.isStrOf_shape (x:=x) (v:=v) h;exact .inr ⟨x,t,rfl,e⟩
def yS(i:Int)(t:Tok):kP (.inl i) (.int i t)=true:=by simp [kP,Value.isInt]
def yF(x:Str)(t:Tok):kP (.inr x) (.str x t)=true:=by simp [kP,Value.isStrOf]
def Hi(a b:Int):decide ((Sum.inl a:Key)=Sum.inl b)=(a==b):=by
 by_cases e:a=b
 .subst e;simp
 .have h:¬ (Sum.inl a:Key)=Sum.inl b:=λq=>e (Sum.inl.inj q);rw[C_ h];exact (J_.mpr e).symm
def G4(a b:Str):decide ((Sum.inr a:Key)=Sum.inr b)=decide (a=b):=by
 by_cases e:a=b
 .subst e;simp
 .have h:¬ (Sum.inr a:Key)=Sum.inr b:=λq=>e (Sum.inr.inj q);rw[C_ h,C_ e]
def HE(a:Int)(b:Str):decide ((Sum.inl a:Key)=Sum.inr b)=false:=C_ (λq=>nomatch q)
def Hw(a:Str)(b:Int):decide ((Sum.inr a:Key)=Sum.inl b)=false:=C_ (λq=>nomatch q)
noncomputable def bL (prog:Program) (w:World):PySem.KeyKind prog w Key where
 is:=kP
 hash:=keyH w
 inj
  := λv a b ha hb=>by
  rcases bZ ha with ⟨i,t,rfl,rfl⟩ |⟨x,t,rfl,rfl⟩
  .rcases bZ hb with ⟨j,u,rfl,e⟩ |⟨y,u,rfl,e⟩
   .injection e with e1 _;rw[e1]
   .exact nomatch e
  .rcases bZ hb with ⟨j,u,rfl,e⟩ |⟨y,u,rfl,e⟩
   .exact nomatch e
   .injection e with e1 _;rw[e1]
 byValue:=λk v h=>by rcases bZ h with ⟨i,t,rfl,rfl⟩ |⟨x,t,rfl,rfl⟩ <;> rfl
 pyHash:=λhv h=>by
  rcases bZ hv with ⟨i,t,rfl,rfl⟩ |⟨x,t,rfl,rfl⟩
  .exact wpAny_pyHash_int h
  .exact wpAny_pyHash_str h
 eqBool:=λhu hv h=>by
  rcases bZ hu with ⟨i,t,rfl,rfl⟩ |⟨x,t,rfl,rfl⟩
  .rcases bZ hv with ⟨j,u,rfl,rfl⟩ |⟨y,u,rfl,rfl⟩
   .rw[Hi] at h;exact wpAny_eqBool_int h
   .rw[HE] at h;exact SeqAt.EqAt.int_str i t y u _ _ _ _ h
  .rcases bZ hv with ⟨j,u,rfl,rfl⟩ |⟨y,u,rfl,rfl⟩
   .rw[Hw] at h;exact SeqAt.EqAt.str_int x t j u _ _ _ _ h
   .rw[G4] at h;exact wpAny_eqBool_str h
 «strs»:=λk x t v h=>by
  rcases bZ h with ⟨i,u,rfl,e⟩ |⟨y,u,rfl,e⟩
  .exact nomatch e
  .injection e with e1 _;subst e1;cases v <;> rfl
def uN(prog:Program)(w:World)(i:Int)(t:Tok):(bL prog w).is (.inl i) (.int i t)=true:=yS i t
def va(prog:Program)(w:World)(x:Str)(t:Tok):(bL prog w).is (.inr x) (.str x t)=true:=yF x t
inductive V where
 |non |bl (b:Bool) |int (i:Int) |str (x:Str) |byt (b:Array UInt8) |flt (b:UInt64) |ref (a:Addr) |ty (n:String)
 deriving DecidableEq
def RelV:V->Value->Prop
 |.non,u=>u=Value.none
 |.bl b,u=>u=Value.bool b
 |.int i,u=>∃t,u=Value.int i t
 |.str x,u=>∃t,u=Value.str x t
 |.byt b,u=>∃t,u=Value.bytes b t
 |.flt b,u=>∃t,u=Value.float b t
 |.ref a,u=>u=Value.ref a
 |.ty n,u=>u=Value.type n
abbrev Vals:List V->List Value->Prop:=Paired RelV
def Vals.length(r:Vals xs us):xs.length=us.length:=Qp r
def Vals.get{xs:List V}{us:List Value}{i:Nat}{x:V}(r:Vals xs us)(e:xs[i]?=some x):∃u,us[i]?=some u/\RelV x u:=by
 induction r generalizing i with
 |nil=>rw[List.getElem?_nil] at e;cases e
 |
  cons r t ih=>
  cases i with
  |zero=>cases e;exact⟨_,rfl,r⟩
  |succ i=>exact ih (i:=i) e
def Vals.set(r:RelV x u)(i:Nat)(q:Vals xs us):Vals (xs.set i x) (us.set i u):=by
 induction q generalizing i with
 |nil=>exact .nil
 |
  cons q t ih=>
  cases i with
  |zero=>exact .cons r t
  |succ i=>exact .cons q (ih i)
def Vals.append(r:Vals xs us)(s:Vals ys ws):Vals (xs++ys) (us++ws):=by
 induction r with
 |nil=>exact s
 |cons r t ih=>exact .cons r ih
def Vals.take(n:Nat)(r:Vals xs us):Vals (xs.take n) (us.take n):=by
 induction r generalizing n with
 |nil=>rw[PX,PX];exact .nil
 |
  cons r t ih=>
  cases n with
  |zero=>exact .nil
  |succ n=>exact .cons r (ih n)
def Vals.drop(n:Nat)(r:Vals xs us):Vals (xs.drop n) (us.drop n):=by
 induction r generalizing n with
 |nil=>rw[Qo,Qo];exact .nil
 |
  cons r t ih=>
  cases n with
  |zero=>exact .cons r t
  |succ n=>exact ih n
def RelO:Option V->Option Value->Prop
 |some v,some u=>RelV v u
 |none,none=>True
 |_,_=>False
def KV{κ:Type}:List (κ×V)->List (κ×Value)->Prop:=Paired λ(p:κ×V) (q:κ×Value)=>p.1=q.1/\RelV p.2 q.2
noncomputable def kV:Key->V
 |.inl i=>.int i
 |.inr x=>.str x
inductive HO where
 |lst (xs:List V)
 |tup (xs:List V)
 |dK (kvs:List (Key×V)) |dT (kvs:List (List Key×V))
 |set (S:Int->Bool) (n:Nat)
 |ins (C dx:Addr) (fs:List (Str×V))
 |own (x:Addr)
 |xd (fs:List (Str×V))
 |met (f x:Addr)
 |rng (lo hi:Int)
 |frz (o:Obj) (u:HO)
 |tbl (ps:Array Value)
 |ext (φ:Heap->Prop)
abbrev Hp:=Addr->Option HO
noncomputable def upd (H:Hp) (a:Addr) (o:HO):Hp:=λb=>if b=a then some o else H b
def aO:upd H a o a=some o:=by unfold upd;rw[if_pos rfl]
def aK(h:b≠a):upd H a o b=H b:=by unfold upd;rw[if_neg h]
def KU{H:Hp}{a b:Addr}{o u:HO}(h:H a=some o)(h':H b=some u)(d:o≠u):a≠b:=by intro e;subst e;rw[h] at h';exact d (H_ h')
def b8{H:Hp}{a b:Addr}{o:HO}(h:H a=some o)(h':H b=none):a≠b:=by intro e;subst e;rw[h] at h';cases h'
section
variable(P:Program)(w:World)
def ObjOk(H:Hp)(h:Heap)(a:Addr):HO->Prop
 |.lst xs=>xs.length<=sizeLine/\∃(its:List Value) (n:Nat),Vals xs its/\h.get? a=some { cls:=.type "list",data:=.seq its.toArray n }
 |.tup xs=>xs.length<=sizeLine/\∃its:List Value,Vals xs its/\IsTup h a its.toArray
 |.dK kvs=>kvs.length<=sizeLine/\(a==sysModules)=false/\∃vs,KV kvs vs/\h.DictOf (bL P w) a vs
 |.dT kvs=>kvs.length<=sizeLine/\(a==sysModules)=false/\∃xs:List (List Key×Addr×Value),
  Paired (λ(p:List Key×V) (q:List Key×Addr×Value)=>p.1=q.1/\H q.2.1=some (.tup (p.1.map kV))/\RelV p.2 q.2.2) kvs xs/\
  ∃o es ep,h.get? a=some o/\o.ExactDict/\o.data=.dict es ep/\es.toList=xs.map (entryOfKey (tupleKind (bL P w)))/\(xs.map (·.1)).Nodup
 |.set S n=>h.SetOf (intKind P w) a S n
 |.ins C dx fs=>H dx=some (.own a)/\fs.length<=1000/\dx≠a/\h.get? a=some (W.instObj C dx)/\
  ∃mA,h.Ns1 dx mA/\(∀f,RelO (fs.lookup f) (mA f))/\PySem.Within mA (fs.map (·.1))
 |.own _=>∃o,h.get? a=some o
 |.xd fs=>∃mA,h.Ns1 a mA/\∀f,RelO (fs.lookup f) (mA f)
 |.rng lo hi=>∃t u v,h.get? a=some { cls:=.type "range",data:=.fields #[.int lo t,.int hi u,.int 1 v] }
 |.frz o u=>h.get? a=some o/\ObjOk H h a u
 |.tbl ps=>h.get? a=some { cls:=.none,data:=.fields ps }
 |.met f x=>h.get? a=some (W.methodObj (.ref f) (.ref x))
 |.ext φ=>φ h/\(∃o,h.get? a=some o)/\∀h1 h2:Heap,φ h1->(∀o,h1.get? a=some o->h2.get? a=some o)->φ h2
def HOk(H:Hp)(h:Heap):Prop:=∀a o,H a=some o->ObjOk P w H h a o
end
section
variable{P:Program}{w:World}{H H':Hp}{h h':Heap}{a:Addr}{o:HO}
def ObjOk.lt(x:ObjOk P w H h a o):a<h.objs.size:=by
 cases o with
 |lst xs=>obtain⟨_,_,_,_,e⟩:=x;exact z_ e
 |tup xs=>obtain⟨_,_,_,p⟩:=x;exact p.lt
 |dK kvs=>obtain⟨_,_,_,_,o,_,_,e,_⟩:=x;exact z_ e
 |dT kvs=>obtain⟨_,_,_,_,o,_,_,e,_⟩:=x;exact z_ e
 |set S n=>obtain⟨o,_,_,_,e,_⟩:=x;exact z_ e
 |ins C dx fs=>obtain⟨_,_,_,e,_⟩:=x;exact z_ e
 |own y=>obtain⟨_,e⟩:=x;exact z_ e
 |xd fs=>obtain⟨_,⟨_,_,_,e,_⟩,_⟩:=x;exact z_ e
 |rng lo hi=>obtain⟨_,_,_,e⟩:=x;exact z_ e
 |frz ob u=>obtain⟨e,_⟩:=x;exact z_ e
 |tbl ps=>exact z_ (show h.get? a=some _ from x)
 |met f y=>exact z_ (show h.get? a=some _ from x)
 |ext φ=>obtain⟨_,⟨_,e⟩,_⟩:=x;exact z_ e
def Paired.mapP(r:Paired F l₁ l₂)(f:∀a b,F a b->G a b):Paired G l₁ l₂:=by
 induction r with
 |nil=>exact .nil
 |cons r t ih=>exact .cons (f _ _ r) ih
def ObjOk.stay(x:ObjOk P w H h a o)(k:∀b u,(b=a\/H b=some (.own a))->h.get? b=some u->h'.get? b=some u)
 (ho:∀b,H b=some (.own a)->H' b=some (.own a)) (ht:∀b xs,H b=some (.tup xs)->H' b=some (.tup xs)):ObjOk P w H' h' a o:=by
 induction o with
 |lst xs=>obtain⟨z,its,n,r,e⟩:=x;exact⟨z,its,n,r,k _ _ (.inl rfl) e⟩
 |tup xs=>obtain⟨z,its,r,ob,e,c⟩:=x;exact⟨z,its,r,ob,k _ _ (.inl rfl) e,c⟩
 |dK kvs=>obtain⟨z,y,vs,r,ob,es,ep,e,c⟩:=x;exact⟨z,y,vs,r,ob,es,ep,k _ _ (.inl rfl) e,c⟩
 |dT kvs=>obtain⟨z,y,xs,r,ob,es,ep,e,c⟩:=x;exact⟨z,y,xs,Paired.mapP r λp q z=>⟨z.1,ht _ _ z.2.1,z.2.2⟩,ob,es,ep,k _ _ (.inl rfl) e,c⟩
 |set S n=>obtain⟨ob,es,ep,t,e,c⟩:=x;exact⟨ob,es,ep,t,k _ _ (.inl rfl) e,c⟩
 |ins C dx fs=>obtain⟨d,z,ne,e,mA,⟨od,es,ep,e2,c⟩,r⟩:=x;exact⟨ho _ d,z,ne,k _ _ (.inl rfl) e,mA,⟨od,es,ep,k _ _ (.inr d) e2,c⟩,r⟩
 |own y=>obtain⟨ob,e⟩:=x;exact⟨ob,k _ _ (.inl rfl) e⟩
 |xd fs=>obtain⟨mA,⟨od,es,ep,e,c⟩,r⟩:=x;exact⟨mA,⟨od,es,ep,k _ _ (.inl rfl) e,c⟩,r⟩
 |rng lo hi=>obtain⟨t,u,v,e⟩:=x;exact⟨t,u,v,k _ _ (.inl rfl) e⟩
 |frz ob u ih=>obtain⟨e,q⟩:=x;exact⟨k _ _ (.inl rfl) e,ih q⟩
 |tbl ps=>have e:h.get? a=some { cls:=.none,data:=.fields ps }:=x;show h'.get? a=some { cls:=.none,data:=.fields ps };exact k a _ (.inl rfl) e
 |met f y=>have e:h.get? a=some (W.methodObj (.ref f) (.ref y)):=x;show h'.get? a=some (W.methodObj (.ref f) (.ref y));exact k a _ (.inl rfl) e
 |ext φ=>obtain⟨p,⟨o,e⟩,st⟩:=x;exact⟨st _ _ p λo q=>k _ _ (.inl rfl) q,⟨o,k _ _ (.inl rfl) e⟩,st⟩
def HOk.lt(x:HOk P w H h)(e:H a=some o):a<h.objs.size:=(x a o e).lt
def HOk.fresh(x:HOk P w H h)(e:h.objs.size<=a):H a=none:=by
 cases q:H a with
 |none=>rfl
 |some u=>exact absurd (I_ (x.lt q) e) (Od _)
def HOk.kept(x:HOk P w H h)(k:∀b u,h.get? b=some u->h'.get? b=some u):HOk P w H h':=λa o e=>
 (x a o e).stay (λb u _ q=>k b u q) (λ_ q=>q) λ_ _ q=>q
def HOk.laid(x:HOk P w H h)(k:∀b u,h.get? b=some u->h'.get? b=some u)(hp:h.objs.size<=a)(new:ObjOk P w (upd H a o) h' a o):HOk P w (upd H a o) h':=λb u e=>by
 have hn:=x.fresh hp;by_cases hb:b=a
 .subst hb;rw[aO] at e;cases e;exact new
 .rw[aK hb] at e;exact (x b u e).stay (λc v _ q=>k c v q) (λc q=>by rw[aK (b8 q hn)];exact q) λc xs q=>by rw[aK (b8 q hn)];exact q
end
def Rd(H:Hp)(a:Addr)(u:HO):Prop:=H a=some u\/∃o,H a=some (.frz o u)
def Rd.ok(r:Rd H a u)(x:HOk P w H h):ObjOk P w H h a u:=by
 rcases r with r |⟨o,r⟩
 .exact x a u r
 .obtain⟨_,q⟩:=x a _ r;exact q
def Mut:Option HO->Prop
 |some (.lst _)=>True
 |some (.dK _)=>True
 |some (.dT _)=>True
 |some (.set _ _)=>True
 |some (.ins _ _ _)=>True
 |some (.ext _)=>True
 |_=>False
section
variable{P:Program}{w:World}{H:Hp}{h h':Heap}{x e:Addr}{o':HO}
def HOk.write(ok:HOk P w H h)(mu:Mut (H x))(he:e=x\/H e=some (.own x))(k:∀b u,b≠e->h.get? b=some u->h'.get? b=some u)(heo:∃u,h'.get? e=some u)
 (new:ObjOk P w (upd H x o') h' x o'):HOk P w (upd H x o') h':=λb u q=>by
 have nown:∀c y,H c=some (.own y)->c≠x:=λc y r z=>by subst z;rw[r] at mu;exact mu
 have ntup:∀c xs,H c=some (.tup xs)->c≠x:=λc xs r z=>by subst z;rw[r] at mu;exact mu
 by_cases hb:b=x
 .subst hb;rw[aO] at q;cases q;exact new
 .rw[aK hb] at q;by_cases hbe:b=e
  .have q':H b=some (.own x):=by
    rcases he with z |z
    .exact absurd (hbe.trans z) hb
    .rw[hbe];exact z
   rw[q] at q';cases q';obtain⟨v,hv⟩:=heo;exact⟨v,by rw[hbe];exact hv⟩
  .refine (ok b u q).stay (λc v hc r=>k c v ?_ r) (λc r=>by rw[aK (nown c b r)];exact r) λc xs r=>by rw[aK (ntup c xs r)];exact r
   rcases hc with rfl |hc
   .exact hbe
   .rintro rfl;rcases he with z |z
    .exact nown c b hc z
    .rw[hc] at z;cases z;exact hb rfl
end
structure Un(fs ex:List Addr)(H H':Hp)(h h':Heap):Prop where
 keep:∀b o,h.get? b=some o->H b=none->b∉fs->b∉ex->h'.get? b=some o
 slot:∀b o,h.get? b=some o->H b=none->b∈fs->b∉ex->∃sl,h'.get? b=some { o with slots:=sl }
 free:∀b o,h.get? b=some o->H b=none->b∉ex->H' b=none
 there:∀b o,h.get? b=some o->b∉ex->∃o',h'.get? b=some o'
 tups:∀b xs,H b=some (.tup xs)->H' b=some (.tup xs)
 frzs:∀b o u,H b=some (.frz o u)->H' b=some (.frz o u)
 tbls:∀b ps,H b=some (.tbl ps)->∃more,H' b=some (.tbl (ps++more))
section
variable{fs ex:List Addr}{H H1:Hp}{h h1 h':Heap}{a x e:Addr}{o:HO}
def Un.any(u:Un fs ex H H1 h h1)(q:h.get? b=some ob)(n:H b=none)(hx:b∉ex):∃sl,h1.get? b=some { ob with slots:=sl }:=by
 by_cases hb:b∈fs
 .exact u.slot b ob q n hb hx
 .exact⟨ob.slots,u.keep b ob q n hb hx⟩
def Un.kept(k:∀b u,h.get? b=some u->h'.get? b=some u):Un fs ex H H h h':=
 ⟨λb ob q _ _ _=>k b ob q,λb ob q _ _ _=>⟨ob.slots,k b ob q⟩,λ_ _ _ n _=>n,λb ob q _=>⟨ob,k b ob q⟩,λ_ _ q=>q,λ_ _ _ q=>q,λ_ ps q=>⟨#[],by rw[q];simp⟩⟩
def Un.refl:Un fs ex H H h h:=Un.kept λ_ _ q=>q
def Un.laid(k:∀b u,h.get? b=some u->h'.get? b=some u)(hp:h.objs.size<=a)(hn:H a=none):Un fs ex H (upd H a o) h h' where
 keep:=λb u q _ _ _=>k b u q
 slot:=λb u q _ _ _=>⟨u.slots,k b u q⟩
 free:=λb u q n _=>by rw[aK (K_ (I_ (z_ q) hp))];exact n
 there:=λb u q _=>⟨u,k b u q⟩
 tups:=λb xs q=>by rw[aK (b8 q hn)];exact q
 frzs:=λb u xs q=>by rw[aK (b8 q hn)];exact q
 tbls:=λb ps q=>⟨#[],by rw[aK (b8 q hn),q];simp⟩
def Un.write(mu:Mut (H x))(he:e=x\/H e=some (.own x))(k:∀b u,b≠e->h.get? b=some u->h'.get? b=some u)(heo:∃u,h'.get? e=some u):Un fs ex H (upd H x o) h h':=by
 have hx:∀b,H b=none->b≠x:=λb n z=>by subst z;rw[n] at mu;exact mu
 have hb:∀b,H b=none->b≠e:=λb n z=>by
  subst z;rcases he with r |r
  .exact hx b n r
  .rw[n] at r;cases r
 have hm:∀b u,H b=some u->¬ Mut (some u)->b≠x:=λb u q nm z=>by subst z;rw[q] at mu;exact nm mu
 refine⟨λb u q n _ _=>k b u (hb b n) q,λb u q n _ _=>⟨u.slots,k b u (hb b n) q⟩,λb u q n _=>by rw[aK (hx b n)];exact n,λb u q _=>?_,
  λb xs q=>by rw[aK (hm b _ q λz=>z)];exact q,λb u xs q=>by rw[aK (hm b _ q λz=>z)];exact q,λb ps q=>⟨#[],by rw[aK (hm b _ q λz=>z),q];simp⟩⟩
 by_cases hbe:b=e
 .subst hbe;exact heo
 .exact⟨u,k b u hbe q⟩
end
noncomputable def trk (h:Heap) (H:Hp):List Addr:=(List.range h.objs.size).filter λa=>(H a).isSome
noncomputable def fL (h:Heap) (H:Hp):Heap:=W.hideAll h (trk h H)
def pA(h:Heap)(H:Hp):(fL h H).objs.size=h.objs.size:=W.hideAll_size _ _
def uz(e:h.get? b=some o)(n:H b=none):(fL h H).get? b=some o:=
 W.hideAll_get _ e λhm=>by have q:(H b).isSome=true:=(List.mem_filter.mp hm).2;rw[n] at q;simp at q
def vx(e:(fL h H).get? b=some o):h.get? b=some o/\H b=none:=by
 have e':h.get? b=some o:=W.of_hideAll (trk h H) e;refine⟨e',?_⟩;cases q:H b with
 |none=>rfl
 |some x=>have hm:b∈trk h H:=List.mem_filter.mpr ⟨NM.mpr (z_ e'),by simp [q]⟩;have z:(fL h H).get? b=none:=W.hideAll_none (trk h H) hm;rw[z] at e;cases e
noncomputable def FP (g h:Heap) (L:Addr):List (Addr×Obj):=(List.range h.objs.size).filterMap λa=>if a=L\/(g.get? a).isSome=true then none else (h.get? a).map λo=>(a,o)
noncomputable def dC (g h:Heap) (L d:Addr):List (Addr×Obj):=(FP g h L).filter λp=>decide (p.1≠d)
structure Mod(K:W.Frag)(mg:Qt)(base:Heap):Prop where
 kin:K.In base
 glob:base.Ns mainGlobals mg
 blt:∃mb,base.Ns builtinsNs mb/\∀x:Str,x ≠ "__name__"->mb x=bootBuiltins x
 nolimit:base.NoLimit
structure Cx where
 prog:Program
 w:World
 K:W.Frag
 mg:Str->Option Value
 base:Heap
 A:Around
 N:List Str
 s₀:Shared
 H₀:Hp
 env:Env
 outer:List Env
 stack:List Env
 ex:List Addr
 fn:Str->Bool
 calm:Bool
 pn:List (Addr×Obj)
 xe:Value->Shared->Prop
noncomputable def frs (l:List Env):List Addr:=l.filterMap (·.frame)
abbrev Cx.fs(X:Cx):List Addr:=frs X.outer
def Vis(sc:Scope)(x:Str):Prop:=sc.names.lookup x=some .local\/sc.names.lookup x=some .cell\/sc.names.lookup x=some .free
def Loc(sc:Scope)(x:Str):Prop:=sc.names.lookup x=some .local\/sc.names.lookup x=some .cell
def Cj(env:Env)(h:Heap)(m:Qt)(x:Str)(u:Value):Prop:=
 (env.kindOf x=some .local/\m x=some u)\/((env.kindOf x=some .cell\/env.kindOf x=some .free)/\∃c,env.cells.lookup x=some c/\h.IsCell c (some u))
structure Cx.Ok(X:Cx):Prop where
 mod:Mod X.K X.mg X.base
 kind:X.env.scope.kind=.function
 glob:X.env.globals=mainGlobals
 blt:X.env.builtins=builtinsNs
 above:X.s₀.heap.objs.size<=X.env.locals
 inj:∀x y c,X.env.cells.lookup x=some c->X.env.cells.lookup y=some c->x=y
 has:∀x,(X.env.kindOf x=some .cell\/X.env.kindOf x=some .free)->∃c,X.env.cells.lookup x=some c
 cab:∀x c,X.fn x=true->X.env.cells.lookup x=some c->X.s₀.heap.objs.size<=c
 hd:X.calm=true->X.A.handled=none
 frames:X.A.frames=some X.stack
 stk:X.stack=X.outer\/(X.stack=X.env::X.outer/\X.env.frame=some X.env.locals)
 exf:∀b∈X.ex,b≠X.env.locals/\∀x c,X.env.cells.lookup x=some c->c≠b
 bs:∀b o,X.base.get? b=some o->X.s₀.heap.get? b=some o/\X.H₀ b=none
 bsz:X.base.objs.size<=X.s₀.heap.objs.size
 noex:∀b o,X.base.get? b=some o->b∉X.ex
 exfs:∀b∈X.ex,b∉X.fs
 funs:X.s₀.heap.FunFrames X.base X.outer
 frf:∀b∈X.fs,X.H₀ b=none
structure Inv(X:Cx)(pins:Qu)(σ:List (Option V))(H:Hp)(s:Shared):Prop where
 ok:X.Ok
 os:s.os=X.s₀.os
 bare:AllBare s.gens
 base:Un X.fs X.ex X.H₀ H X.s₀.heap s.heap
 loc:∃m,s.heap.Ns X.env.locals m/\∀(i:Nat) (x:Str) (v:V),X.N[i]?=some x->σ[i]?=some (some v)->Vis X.env.scope x->∃u,RelV v u/\Cj X.env s.heap m x u
 cell:∀x c,X.env.cells.lookup x=some c->∃v,s.heap.IsCell c v
 free:H X.env.locals=none
 freeC:∀x c,X.env.cells.lookup x=some c->H c=none
 pin:∀p∈X.pn++pins,s.heap.get? p.1=some p.2/\H p.1=none/\p.1≠X.env.locals/\p.1∉X.fs/\∀v,p.2.data ≠ .cell v
 hok:HOk X.prog X.w H s.heap
 len:σ.length=X.N.length
section
variable{X:Cx}{pins:Qu}{σ:List (Option V)}{H H':Hp}{s:Shared}{h':Heap}
def Cx.Ok.nofr(ok:X.Ok)(e:X.base.get? b=some o):b∉X.fs:=λhb=>by
 have:=(ok.funs.mem hb).1
 rw[e] at this;cases this
def Inv.bs(I:Inv X pins σ H s):∀b o,X.base.get? b=some o->s.heap.get? b=some o/\H b=none:=λb o e=>
 ⟨I.base.keep b o (I.ok.bs b o e).1 (I.ok.bs b o e).2 (I.ok.nofr e) (I.ok.noex b o e),I.base.free b o (I.ok.bs b o e).1 (I.ok.bs b o e).2 (I.ok.noex b o e)⟩
def Inv.bk(I:Inv X pins σ H s):∀b o,X.base.get? b=some o->s.heap.get? b=some o:=λb o e=>(I.bs b o e).1
def Inv.mod(I:Inv X pins σ H s):Mod X.K X.mg X.base:=I.ok.mod
def Inv.kIn(I:Inv X pins σ H s):X.K.In s.heap:=I.ok.mod.kin.keeps I.bk
def Inv.nolimit(I:Inv X pins σ H s):s.heap.NoLimit:=I.ok.mod.nolimit.keeps I.bk
def Inv.lt(I:Inv X pins σ H s):X.env.locals<s.heap.objs.size:=let ⟨_,hn,_⟩:=I.loc;hn.lt
def Inv.sz(I:Inv X pins σ H s):X.s₀.heap.objs.size<=s.heap.objs.size:=NG I.ok.above (Pd I.lt)
def Inv.nofs(I:Inv X pins σ H s)(h:s.heap.objs.size<=a):a∉X.fs:=λhb=>by obtain⟨_,o,ho,_⟩:=I.ok.funs.mem hb;exact absurd (I_ (z_ ho) (NG I.sz h)) (Od _)
def Inv.cne(I:Inv X pins σ H s):∀x c,X.env.cells.lookup x=some c->c≠X.env.locals:=λx c e z=>by obtain⟨v,o,ho,hd⟩:=I.cell x c e;obtain⟨m,⟨o',es,ep,ho',hd',_⟩,_⟩:=I.loc;rw[z,ho'] at ho;cases ho;rw[hd'] at hd;cases hd
def Inv.funs(I:Inv X pins σ H s):s.heap.FunFrames X.base X.outer:=by
 have all:∀(l:List Env),(∀b∈frs l,b∈X.fs)->X.s₀.heap.FunFrames X.base l->s.heap.FunFrames X.base l:=by
  intro l;induction l with
  |nil=>intro _ _;trivial
  |cons env r ih=>intro hs hl;obtain⟨hk,⟨L,o,hf,hn,ho,hd⟩,hr⟩:=hl;have hL:L∈X.fs:=hs L (by unfold frs;rw[OI,hf];exact s_);obtain⟨sl,e⟩:=I.base.slot L o ho (I.ok.frf L hL) hL λz=>I.ok.exfs L z hL;exact⟨hk,⟨L,_,hf,hn,e,hd⟩,ih (λb hb=>hs b (by unfold frs;rw[OI,hf];exact q_ _ hb)) hr⟩
 exact all X.outer (λ_ hb=>hb) I.ok.funs
def Inv.stack(I:Inv X pins σ H s):s.heap.FunFrames X.base X.stack:=by
 rcases I.ok.stk with e |⟨e,hf⟩
 .rw[e];exact I.funs
 .rw[e];obtain⟨m,hn,_⟩:=I.loc;refine .cons (by rw[I.ok.kind];decide) hf hn ?_ I.funs;exact P_ (NG I.ok.bsz I.ok.above)
def Inv.stkSub(I:Inv X pins σ H s):∀b∈frs X.stack,b∈X.env.locals::X.fs:=λb hb=>by
 rcases I.ok.stk with e |⟨e,hf⟩
 .rw[e] at hb;exact q_ _ hb
 .rw[e] at hb;unfold frs at hb;rw[OI,hf] at hb;exact hb
def Inv.stkFree(I:Inv X pins σ H s):∀b∈frs X.stack,H b=none:=λb hb=>by
 rcases F_.mp (I.stkSub b hb) with e |hb
 .rw[e];exact I.free
 .obtain⟨_,o,ho,_⟩:=I.ok.funs.mem hb;exact I.base.free b o ho (I.ok.frf b hb) λz=>I.ok.exfs b z hb
def Inv.step{g':Array GenState}{t':Nat}{d':Drawn}{ch:List Addr}(I:Inv X pins σ H s)
 (hch:∀b∈ch,(b∈X.ex\/X.s₀.heap.objs.size<=b)/\b≠X.env.locals/\(∀x c,X.env.cells.lookup x=some c->c≠b)/\∀p∈X.pn++pins,p.1≠b)
 (keep:∀b o,b≠X.env.locals->b∉X.fs->b∉ch->s.heap.get? b=some o->H b=none->h'.get? b=some o)
 (slot:∀b o,b≠X.env.locals->b∈X.fs->b∉ch->s.heap.get? b=some o->H b=none->∃sl,h'.get? b=some { o with slots:=sl }) (free:∀b o,b∉ch->s.heap.get? b=some o->H b=none->H' b=none)
 (there:∀b o,b∉ch->s.heap.get? b=some o->∃o',h'.get? b=some o')
 (tups:∀b xs,H b=some (.tup xs)->H' b=some (.tup xs)) (frzs:∀b o u,H b=some (.frz o u)->H' b=some (.frz o u)) (tbls:∀b ps,H b=some (.tbl ps)->∃more,H' b=some (.tbl (ps++more)))
 (ns:∀m,s.heap.Ns X.env.locals m->h'.Ns X.env.locals m) (hok:HOk X.prog X.w H' h') (hg:AllBare g'):
 Inv X pins σ H' { s with heap:=h',gens:=g',drawn:=d',toks:=t' }:=by
 have neL:∀b o,X.s₀.heap.get? b=some o->b≠X.env.locals:=λb o e=>K_ (I_ (z_ e) I.ok.above);have neC:∀b o,X.s₀.heap.get? b=some o->b∉X.ex->b∉ch:=λb o e hx hb=>by
  rcases (hch b hb).1 with z |z
  .exact hx z
  .exact absurd (I_ (z_ e) z) (Od _)
 have cellK:∀x c,X.env.cells.lookup x=some c->∀v,s.heap.IsCell c v->h'.IsCell c v:=λx c e v ⟨o,ho,hd⟩=>by
  have nch:c∉ch:=λz=>(hch c z).2.2.1 x c e rfl;by_cases hc:c∈X.fs
  .obtain⟨sl,q⟩:=slot c o (I.cne x c e) hc nch ho (I.freeC x c e);exact⟨_,q,hd⟩
  .exact⟨o,keep c o (I.cne x c e) hc nch ho (I.freeC x c e),hd⟩
 refine⟨I.ok,I.os,hg,⟨λb o e n hb hx=>?_,λb o e n hb hx=>?_,λb o e n hx=>?_,λb o e hx=>?_,λb xs e=>tups b xs (I.base.tups b xs e),λb o xs e=>frzs b o xs (I.base.frzs b o xs e),λb ps e=>?_⟩,?_,λx c e=>?_,?_,λx c e=>?_,λp hp=>?_,hok,I.len⟩
 .exact keep b o (neL b o e) hb (neC b o e hx) (I.base.keep b o e n hb hx) (I.base.free b o e n hx)
 .obtain⟨sl,e1⟩:=I.base.slot b o e n hb hx;obtain⟨sl',e2⟩:=slot b _ (neL b o e) hb (neC b o e hx) e1 (I.base.free b o e n hx);exact⟨sl',e2⟩
 .obtain⟨o',e1⟩:=I.base.there b o e hx;exact free b o' (neC b o e hx) e1 (I.base.free b o e n hx)
 .obtain⟨o',e1⟩:=I.base.there b o e hx;exact there b o' (neC b o e hx) e1
 .obtain⟨m1,e1⟩:=I.base.tbls b ps e;obtain⟨m2,e2⟩:=tbls b _ e1;exact⟨m1++m2,by rw[e2,Array.append_assoc]⟩
 .obtain⟨m,hn,hl⟩:=I.loc;refine⟨m,ns m hn,λi x v e1 e2 e3=>?_⟩;obtain⟨u,r,l⟩:=hl i x v e1 e2 e3;refine⟨u,r,?_⟩;rcases l with l |⟨k,c,e,z⟩
  .exact .inl l
  .exact .inr ⟨k,c,e,cellK x c e _ z⟩
 .obtain⟨v,z⟩:=I.cell x c e;exact⟨v,cellK x c e v z⟩
 .obtain⟨m,⟨o,_,_,ho,_⟩,_⟩:=I.loc;exact free _ o (λz=>(hch _ z).2.1 rfl) ho I.free
 .obtain⟨v,o,ho,hd⟩:=I.cell x c e;exact free c o (λz=>(hch c z).2.2.1 x c e rfl) ho (I.freeC x c e)
 .obtain⟨e,n,ne,nf,d⟩:=I.pin p hp;have nch:p.1∉ch:=λz=>(hch p.1 z).2.2.2 p hp rfl;exact⟨keep p.1 p.2 ne nf nch e n,free p.1 p.2 nch e n,ne,nf,d⟩
def Inv.un{t':Nat}(I:Inv X pins σ H s)(u:Un X.fs [] H H' s.heap h')(hok:HOk X.prog X.w H' h'):Inv X pins σ H' { s with heap:=h',toks:=t' }:=by obtain⟨m,⟨o,es,ep,ho,r⟩,_⟩:=id I.loc;obtain⟨sl,hL⟩:=u.any ho I.free (by simp);exact I.step (g':=s.gens) (d':=s.drawn) (ch:=[]) (λ_ z=>nomatch z) (λb o _ hb _ e n=>u.keep b o e n hb (by simp)) (λb o _ hb _ e n=>u.slot b o e n hb (by simp)) (λb o _ e n=>u.free b o e n (by simp)) (λb o _ e=>u.there b o e (by simp)) u.tups u.frzs u.tbls (λm' hm=>by obtain⟨o',es',ep',ho',r'⟩:=hm;rw[ho] at ho';cases ho';exact⟨_,es',ep',hL,r'⟩) hok I.bare
def Inv.call{g':Array GenState}{t':Nat}{d':Drawn}{ch:List Addr}(I:Inv X pins σ H s)(u:Un (frs X.stack) ch H H' s.heap h')(hok:HOk X.prog X.w H' h')(hg:AllBare g')
 (hch:∀b∈ch,(b∈X.ex\/X.s₀.heap.objs.size<=b)/\b≠X.env.locals/\(∀x c,X.env.cells.lookup x=some c->c≠b)/\∀p∈X.pn++pins,p.1≠b):
 Inv X pins σ H' { s with heap:=h',gens:=g',drawn:=d',toks:=t' }:=by
 obtain⟨m,⟨o,es,ep,ho,r⟩,_⟩:=id I.loc;obtain⟨sl,hL⟩:=u.any ho I.free λz=>(hch _ z).2.1 rfl;exact I.step (ch:=ch) hch (λb o hL hb hc e n=>u.keep b o e n (λz=>(F_.mp (I.stkSub b z)).elim hL hb) hc) (λb o _ _ hc e n=>u.any e n hc) (λb o hc e n=>u.free b o e n hc) (λb o hc e=>u.there b o e hc) u.tups u.frzs u.tbls (λm' hm=>by obtain⟨o',es',ep',ho',r'⟩:=hm;rw[ho] at ho';cases ho';exact⟨_,es',ep',hL,r'⟩) hok hg
def Inv.turned{t':Nat}{it:Addr}(I:Inv X pins σ H s)(k:∀b o,b≠it->s.heap.get? b=some o->h'.get? b=some o)(hn:H it=none)(hL:it≠X.env.locals)
 (h1:it∈X.ex\/X.s₀.heap.objs.size<=it) (h2:∀x c,X.env.cells.lookup x=some c->c≠it) (h3:∀p∈X.pn++pins,p.1≠it):Inv X pins σ H { s with heap:=h',toks:=t' }:=by
 have nit:∀b u,H b=some u->b≠it:=λb u e z=>by rw[z,hn] at e;cases e
 refine I.step (g':=s.gens) (d':=s.drawn) (ch:=[it]) (λb hb=>?_) (λb o _ _ hc e _=>k b o (λz=>hc (by simp [z])) e) (λb o _ _ hc e _=>⟨o.slots,k b o (λz=>hc (by simp [z])) e⟩) (λ_ _ _ _ n=>n)
  (λb o hc e=>⟨o,k b o (λz=>hc (by simp [z])) e⟩) (λ_ _ e=>e) (λ_ _ _ e=>e) (λb ps e=>⟨#[],by rw[e];simp⟩) (λm hm=>?_) (λb u e=>?_) I.bare
 .have e:b=it:=by simpa using hb
  subst e;exact⟨h1,hL,h2,h3⟩
 .obtain⟨o,es,ep,ho,r⟩:=hm;exact⟨o,es,ep,k _ o (Ne.symm hL) ho,r⟩
 .refine (I.hok b u e).stay (λc v hc q=>k c v ?_ q) (λ_ q=>q) λ_ _ q=>q;rcases hc with z |z
  .rw[z];exact nit b u e
  .exact nit c _ z
def Inv.tok(I:Inv X pins σ H s)(t:Nat):Inv X pins σ H { s with toks:=t }:=I.un (h':=s.heap) (t':=t) Un.refl I.hok
def Inv.kept(I:Inv X pins σ H s)(k:∀b u,s.heap.get? b=some u->h'.get? b=some u):Inv X pins σ H { s with heap:=h',toks:=t' }:=I.un (Un.kept k) (I.hok.kept k)
def Inv.laid(I:Inv X pins σ H s)(k:∀b u,s.heap.get? b=some u->h'.get? b=some u)(hp:s.heap.objs.size<=a)(new:ObjOk X.prog X.w (upd H a o) h' a o):
 Inv X pins σ (upd H a o) { s with heap:=h',toks:=t' }:=I.un (Un.laid k hp (I.hok.fresh hp)) (I.hok.laid k hp new)
def Inv.write(I:Inv X pins σ H s)(mu:Mut (H x))(he:e=x\/H e=some (.own x))(k:∀b u,b≠e->s.heap.get? b=some u->h'.get? b=some u)(heo:∃u,h'.get? e=some u)
 (new:ObjOk X.prog X.w (upd H x o) h' x o):Inv X pins σ (upd H x o) { s with heap:=h',toks:=t' }:=I.un (Un.write mu he k heo) (I.hok.write mu he k heo new)
def Inv.pins_of(I:Inv X pins σ H s)(h:∀p∈pins',s.heap.get? p.1=some p.2/\H p.1=none/\p.1≠X.env.locals/\p.1∉X.fs/\∀v,p.2.data ≠ .cell v):Inv X pins' σ H s:=
 ⟨I.ok,I.os,I.bare,I.base,I.loc,I.cell,I.free,I.freeC,λp hp=>(Oz.mp hp).elim (λz=>I.pin p (Pg _ z)) (h p),I.hok,I.len⟩
def lT{N:List Str}(hN:N.Nodup){i j:Nat}{x:Str}(a:N[i]?=some x)(b:N[j]?=some x):i=j:=by obtain⟨h1,e1⟩:=w_.mp a;obtain⟨h2,e2⟩:=w_.mp b;exact (List.getElem_inj hN).mp (e1.trans e2.symm)
def pb(I:Inv X pins σ H s)(hN:X.N.Nodup)(hi:X.N[i]?=some x)(hx:Loc X.env.scope x)(r:RelV v u)
 (h:∀s',Inv X pins (σ.set i (some v)) H s'->(∃a,Heap.SameBut a s.heap s'.heap/\(a=X.env.locals\/X.env.cells.lookup x=some a))->Q () s') (hf:X.fn x=true\/X.env.scope.names.lookup x=some .local):wpAny M A (storeName X.env x u) Q E s:=by
 obtain⟨m,hn,hl⟩:=id I.loc;have hcls:(X.env.scope.kind == .class || (X.env.scope.kind == .module&&X.env.locals != X.env.globals))=false:=by rw[I.ok.kind];rfl
 have hiσ:i<σ.length:=by rw[I.len];exact (w_.mp hi).1
 have cne:=I.cne;have tracked:∀{a:Addr}{h':Heap},(∃o,s.heap.get? a=some o/\H a=none)->Heap.SameBut a s.heap h'->HOk X.prog X.w H h':=λ{a h'} ha hs b ob e=>by
  obtain⟨_,_,hfree⟩:=ha;refine (I.hok b ob e).stay (λc w' hc q=>(hs.2 c ?_).trans q) (λ_ q=>q) λ_ _ q=>q;rintro rfl;rcases hc with rfl |hc
  .rw[hfree] at e;cases e
  .rw[hfree] at hc;cases hc
 rcases hx with hk |hk
 .refine wpAny_storeName_local hk hn (λh' hn' hs=>?_) hcls;obtain⟨oL,_,_,hoL,_⟩:=id hn;refine h _ ⟨I.ok,I.os,I.bare,⟨λb o e n hb hx=>?_,λb o e n hb hx=>?_,I.base.free,λb o e hx=>?_,I.base.tups,I.base.frzs,I.base.tbls⟩,⟨_,hn',λj y v' e1 e2 e3=>?_⟩,λy c e=>?_,I.free,I.freeC,λp hp=>?_,tracked ⟨oL,hoL,I.free⟩ hs,by simpa using I.len⟩ ⟨_,hs,.inl rfl⟩
  .exact (hs.2 b (K_ (I_ (z_ e) I.ok.above))).trans (I.base.keep b o e n hb hx)
  .obtain⟨sl,e1⟩:=I.base.slot b o e n hb hx;exact⟨sl,(hs.2 b (K_ (I_ (z_ e) I.ok.above))).trans e1⟩
  .obtain⟨o',e1⟩:=I.base.there b o e hx;exact⟨o',(hs.2 b (K_ (I_ (z_ e) I.ok.above))).trans e1⟩
  .by_cases hj:j=i
   .subst hj;rw[hi] at e1;cases e1;rw[O9 hiσ] at e2;cases e2;exact⟨u,r,.inl ⟨hk,by simp⟩⟩
   .rw[Pf (Ne.symm hj)] at e2;obtain⟨u',r',q⟩:=hl j y v' e1 e2 e3;refine⟨u',r',?_⟩;rcases q with ⟨k,e⟩ |⟨k,c,e,z⟩
    .refine .inl ⟨k,?_⟩;have:y≠x:=λe=>hj (lT hN e1 (e ▸ hi));simp [this,e]
    .exact .inr ⟨k,c,e,z.sameBut hs (cne y c e)⟩
  .obtain⟨w',z⟩:=I.cell y c e;exact⟨w',z.sameBut hs (cne y c e)⟩
  .obtain⟨e,n,ne,nf,d⟩:=I.pin p hp;exact⟨(hs.2 p.1 ne).trans e,n,ne,nf,d⟩
 .have hfn:X.fn x=true:=by
   rcases hf with z |z
   .exact z
   .rw[z] at hk;cases hk
  obtain⟨c,hc⟩:=I.ok.has x (.inl hk);obtain⟨w',z⟩:=I.cell x c hc;refine wpAny_storeName_cell I.ok.kind hk hc z (λh' hc' hs=>?_);obtain⟨oc,hoc,hocd⟩:=id z;refine h { s with heap:=h' } ⟨I.ok,I.os,I.bare,⟨λb o e n hb hx=>?_,λb o e n hb hx=>?_,I.base.free,λb o e hx=>?_,I.base.tups,I.base.frzs,I.base.tbls⟩,⟨m,hn.sameBut hs (Ne.symm (cne x c hc)),λj y v' e1 e2 e3=>?_⟩,λy c' e=>?_,I.free,I.freeC,λp hp=>?_,tracked ⟨oc,hoc,I.freeC x c hc⟩ hs,by simpa using I.len⟩ ⟨c,hs,.inr hc⟩
  .exact (hs.2 b (K_ (I_ (z_ e) (I.ok.cab x c hfn hc)))).trans (I.base.keep b o e n hb hx)
  .obtain⟨sl,e1⟩:=I.base.slot b o e n hb hx;exact⟨sl,(hs.2 b (K_ (I_ (z_ e) (I.ok.cab x c hfn hc)))).trans e1⟩
  .obtain⟨o',e1⟩:=I.base.there b o e hx;exact⟨o',(hs.2 b (K_ (I_ (z_ e) (I.ok.cab x c hfn hc)))).trans e1⟩
  .by_cases hj:j=i
   .subst hj;rw[hi] at e1;cases e1;rw[O9 hiσ] at e2;cases e2;exact⟨u,r,.inr ⟨.inl hk,c,hc,hc'⟩⟩
   .rw[Pf (Ne.symm hj)] at e2;obtain⟨u',r',q⟩:=hl j y v' e1 e2 e3;refine⟨u',r',?_⟩;rcases q with q |⟨k,c',e,z'⟩
    .exact .inl q
    .refine .inr ⟨k,c',e,z'.sameBut hs ?_⟩;rintro rfl;exact hj (lT hN e1 (I.ok.inj _ _ _ e hc ▸ hi))
  .by_cases hcc:c'=c
   .subst hcc;exact⟨_,hc'⟩
   .obtain⟨w2,z2⟩:=I.cell y c' e;exact⟨w2,z2.sameBut hs hcc⟩
  .obtain⟨e,n,ne,nf,d⟩:=I.pin p hp;refine⟨(hs.2 p.1 ?_).trans e,n,ne,nf,d⟩;intro q;rw[q,hoc] at e;have q':oc=p.2:=H_ e;exact d w' (by rw[<- q'];exact hocd)
def dG(I:Inv X pins σ H s)(hN:X.N.Nodup)(hi:X.N[i]?=some x)(hx:Loc X.env.scope x)(r:RelV v u)
 (h:∀s',Inv X pins (σ.set i (some v)) H s'->Q () s') (hf:X.fn x=true\/X.env.scope.names.lookup x=some .local):wpAny M A (storeName X.env x u) Q E s:=
 pb I hN hi hx r (λs' I' _=>h s' I') hf
def Inv.call'(I:Inv X pins σ H s)(ho:s'.os=s.os)(u:Un (frs X.stack) ch H H' s.heap s'.heap)(hok:HOk X.prog X.w H' s'.heap)(hg:AllBare s'.gens)
 (hch:∀b∈ch,(b∈X.ex\/X.s₀.heap.objs.size<=b)/\b≠X.env.locals/\(∀x c,X.env.cells.lookup x=some c->c≠b)/\∀p∈X.pn++pins,p.1≠b):Inv X pins σ H' s':=by
 obtain⟨h',g',d',t',o'⟩:=s';have e:o'=s.os:=ho;subst e;exact I.call (g':=g') (t':=t') (d':=d') u hok hg hch
end
abbrev XK:=Value->Option Addr->Hp->Prop
abbrev St:=List (Option V)
abbrev VK:=V->Hp->Prop
abbrev TE:=St->Hp->VK->Prop
abbrev TT:=St->Hp->(Bool->Hp->Prop)->Prop
abbrev TA:=St->Hp->(List V->Hp->Prop)->Prop
structure Ends where
 nx:St->Hp->Prop
 rt:VK
 bk:St->Hp->Prop:=λ_ _=>False
 ct:St->Hp->Prop:=λ_ _=>False
abbrev TS:=Ends->St->Hp->Prop
def EP(X:Cx)(pins:Qu)(σ:St)(Q:VK)(u:Value)(s':Shared):Prop:=∃v H',Inv X pins σ H' s'/\RelV v u/\Q v H'
def TP(X:Cx)(pins:Qu)(σ:St)(Q:Bool->Hp->Prop)(b:Bool)(s':Shared):Prop:=∃H',Inv X pins σ H' s'/\Q b H'
def AP(X:Cx)(pins:Qu)(σ:St)(Q:List V->Hp->Prop)(us:List Value)(s':Shared):Prop:=∃vs H',Inv X pins σ H' s'/\Vals vs us/\Q vs H'
def SP(X:Cx)(pins:Qu)(D:Ends)(f:Flow)(s':Shared):Prop:=
 match f with
 |.next=>∃σ' H',Inv X pins σ' H' s'/\D.nx σ' H'
 |.brk=>∃σ' H',Inv X pins σ' H' s'/\D.bk σ' H'
 |.cont=>∃σ' H',Inv X pins σ' H' s'/\D.ct σ' H'
 |.ret u=>∃v σ' H',Inv X pins σ' H' s'/\RelV v u/\D.rt v H'
def exA{α:Type}{A B C:α->Hp->Prop}{Z:Prop}(h:∃v H',A v H'/\B v H'/\C v H')(k:∀v H',A v H'->B v H'->C v H'->Z):Z:=by obtain⟨v,H',a,b,c⟩:=h;exact k v H' a b c
def PE(X:Cx)(e:Expr)(t:TE):Prop:=
 ∀(pins:Qu) (s:Shared) (σ:St) (H:Hp) (Q:VK),Inv X pins σ H s->t σ H Q->wpAny (model X.prog X.w) X.A (eval e X.env) (EP X pins σ Q) X.xe s
def PT(X:Cx)(e:Expr)(t:TT):Prop:=
 ∀(pins:Qu) (s:Shared) (σ:St) (H:Hp) (Q:Bool->Hp->Prop),Inv X pins σ H s->t σ H Q->wpAny (model X.prog X.w) X.A (isTrue e X.env (eval e X.env)) (TP X pins σ Q) X.xe s
def PW(X:Cx)(e:Expr)(t:TT):Prop:=
 ∀(g_:Sem Value) (pins:Qu) (s:Shared) (σ:St) (H:Hp) (Q:Bool->Hp->Prop),Inv X pins σ H s->t σ H Q->wpAny (model X.prog X.w) X.A (isTrue e X.env g_) (TP X pins σ Q) X.xe s
def PW.pt(h:PW X e t):PT X e t:=h _
def PA(X:Cx)(es:List Expr)(t:TA):Prop:=
 ∀(pos:Pos) (pins:Qu) (s:Shared) (σ:St) (H:Hp) (Q:List V->Hp->Prop),Inv X pins σ H s->t σ H Q->wpAny (model X.prog X.w) X.A (spliced (backTo pos (starEach es X.env))) (AP X pins σ Q) X.xe s
def PS(X:Cx)(st:Stmt)(t:TS):Prop:=
 ∀(pins:Qu) (s:Shared) (σ:St) (H:Hp) (D:Ends),Inv X pins σ H s->t D σ H->wpAny (model X.prog X.w) X.A (exec st X.env) (SP X pins D) X.xe s
def PSs(X:Cx)(st:List Stmt)(t:TS):Prop:=
 ∀(pins:Qu) (s:Shared) (σ:St) (H:Hp) (D:Ends),Inv X pins σ H s->t D σ H->wpAny (model X.prog X.w) X.A (execs st X.env) (SP X pins D) X.xe s
def thn(h:wpAny M A t Q E s)(hQ:∀a s,Q a s->Q' a s):wpAny M A t Q' E s:=ND h hQ λ_ _ x=>x
section
variable{X:Cx}
def tVar(i:Nat):TE:=λσ H Q=>∃v,σ[i]?=some (some v)/\Q v H
def tC(v:V):TE:=λ_ H Q=>Q v H
def Hk(hN:X.N[i]?=some x)(hv:Vis X.env.scope x)(hd:(x==("__debug__" : Str))=false)(j_:(x==("__classdict__" : Str))=false):PE X (.Name x pos) (tVar i):=by
 intro pins s σ H Q I h;obtain⟨v,e,h⟩:=h;obtain⟨m,hn,hl⟩:=I.loc;obtain⟨u,r,l⟩:=hl i x v hN e hv;have f_:EP X pins σ Q u s:=⟨v,H,I,r,h⟩;rcases l with ⟨hk,hm⟩ |⟨hk,c,hc,m_⟩
 .exact wpAny_Name (Qg I.ok.kind hk hn hm f_) hd
 .rcases hk with hk |hk
  .exact wpAny_Name (wpAny_loadName_cell I.ok.kind hk hc m_ f_) hd
  .exact wpAny_Name (wpAny_loadName_free I.ok.kind hk hc m_ f_ j_) hd
def GR{i j pos}:PE X (.Constant (.int i) j pos) (tC (.int i)):=λ_ _ _ H _ I h=>wpAny_Constant_int ⟨.int i,H,I.tok _,⟨_,rfl⟩,h⟩
def Lv{b j pos}:PE X (.Constant (.bool b) j pos) (tC (.bl b)):=λ_ _ _ H _ I h=>Constant_bool ⟨.bl b,H,I,rfl,h⟩
def IV{j pos}:PE X (.Constant .none j pos) (tC .non):=λ_ _ _ H _ I h=>Constant_none ⟨.non,H,I,rfl,h⟩
def zm{x j pos}:PE X (.Constant (.str x) j pos) (tC (.str x)):=λ_ _ _ H _ I h=>Calls.Constant_str ⟨.str x,H,I.tok _,⟨_,rfl⟩,h⟩
def Gl(X:Cx)(x:Str):Prop:=X.env.kindOf x=some .globalImplicit
def kG(I:Inv X pins σ H s)(hg:Gl X x)(hm:X.mg x=some u)(h:Q u s)
 (hd:(x==("__debug__" : Str))=false):wpAny (model X.prog X.w) X.A (eval (.Name x pos) X.env) Q E s:=
 Pn I.ok.kind hg (Calls.loadGlobal_global (by rw[I.ok.glob];exact I.mod.glob.keeps I.bk) hm h) hd
def cX(I:Inv X pins σ H s)(hg:Gl X x)(hm:X.mg x=none)(hv:bootBuiltins x=some u)(h:Q u s)
 (hn:x ≠ "__name__":=by decide) (hd:(x==("__debug__" : Str))=false:=by decide):wpAny (model X.prog X.w) X.A (eval (.Name x pos) X.env) Q E s:=by
 obtain⟨mb,h1,h2⟩:=I.mod.blt;exact Pn I.ok.kind hg (Calls.loadGlobal_builtin (by rw[I.ok.glob];exact I.mod.glob.keeps I.bk) hm (by rw[I.ok.blt];exact h1.keeps I.bk) ((h2 x hn).trans hv) h) hd
def wb(hg:Gl X x)(hm:X.mg x=some u)(r:RelV v u)(hd:(x==("__debug__" : Str))=false):PE X (.Name x pos) (tC v):=
 λ_ _ _ H _ I h=>kG I hg hm ⟨v,H,I,r,h⟩ hd
def F9(hg:Gl X x)(hm:X.mg x=none)(hv:bootBuiltins x=some u)(r:RelV v u)(hn:x ≠ "__name__")(hd:(x==("__debug__" : Str))=false):PE X (.Name x pos) (tC v):=
 λ_ _ _ H _ I h=>cX I hg hm hv ⟨v,H,I,r,h⟩ hn hd
variable{a b:Expr}{ta tb:TE}{pos:Pos}
def tB(t:TE):TT:=λσ H Q=>t σ H λx H1=>∃c,x=.bl c/\Q c H1
def GX(h:PE X e t)(he:∀g_,isTrue e X.env g_=(do let v <- g_;standAt e.pos;holding [v] (truthy v))):PT X e (tB t):=by intro pins s σ H Q I hw;refine isTrue_plain (thn (h pins s σ H _ I hw) λv s1 zz=>exA zz λx H1 I1 r1 q1=>?_) (he _);obtain⟨d,rfl,q⟩:=q1;cases r1;exact OD ⟨H1,I1,q⟩
variable{tA tB':TT}{dC:List Expr}
def tAnd(t u:TT):TT:=λσ H Q=>t σ H λc H1=>if c=true then u σ H1 Q else Q false H1
def tOr(t u:TT):TT:=λσ H Q=>t σ H λc H1=>if c=true then Q true H1 else u σ H1 Q
def tNot(t:TT):TT:=λσ H Q=>t σ H λc H1=>Q (!c) H1
def EM(ha:PT X a tA):PW X (.BoolOp .And [a] pos) tA:=by
 intro wh pins s σ H Q I h;refine isTrue_and (thn (ha pins s σ H Q I h) λc s1 e=>?_);cases c with
 |true=>exact isTrue_and_nil e
 |false=>exact e
def HA(ha:PT X a tA):PW X (.BoolOp .Or [a] pos) tA:=by
 intro wh pins s σ H Q I h;refine isTrue_or (thn (ha pins s σ H Q I h) λc s1 e=>?_);cases c with
 |false=>exact isTrue_or_nil e
 |true=>exact e
def KI(ha:PT X a tA)(hb:PW X (.BoolOp .And (b::dC) pos) tB'):PW X (.BoolOp .And (a::b::dC) pos) (tAnd tA tB'):=by
 intro wh pins s σ H Q I h;refine isTrue_and (thn (ha pins s σ H _ I h) λc s1 ⟨H1,I1,q1⟩=>?_);cases c with
 |true=>exact hb wh pins s1 σ H1 Q I1 q1
 |false=>exact⟨H1,I1,q1⟩
def KR(ha:PT X a tA)(hb:PW X (.BoolOp .Or (b::dC) pos) tB'):PW X (.BoolOp .Or (a::b::dC) pos) (tOr tA tB'):=by
 intro wh pins s σ H Q I h;refine isTrue_or (thn (ha pins s σ H _ I h) λc s1 ⟨H1,I1,q1⟩=>?_);cases c with
 |true=>exact⟨H1,I1,q1⟩
 |false=>exact hb wh pins s1 σ H1 Q I1 q1
def G7(ha:PT X a tA):PT X (.UnaryOp .Not a pos) (tNot tA):=by intro pins s σ H Q I h;exact isTrue_not (ha pins s σ H (λc H1=>Q (!c) H1) I h)
def K0(ta tb:TE):TE:=λσ H Q=>ta σ H λx H1=>∃c,x=.bl c/\if c=true then tb σ H1 Q else Q (.bl false) H1
def tOrV(ta tb:TE):TE:=λσ H Q=>ta σ H λx H1=>∃c,x=.bl c/\if c=true then Q (.bl true) H1 else tb σ H1 Q
def MD(ta:TE):TE:=λσ H Q=>ta σ H λx H1=>∃c,x=.bl c/\Q (.bl (!c)) H1
def Ho{op}(h:PE X a t):PE X (.BoolOp op [a] pos) t:=λpins s σ H Q I hw=>BoolOp_one (h pins s σ H Q I hw)
def KL(ha:PE X a ta)(hb:PE X (.BoolOp .And (b::dC) pos) tb):PE X (.BoolOp .And (a::b::dC) pos) (K0 ta tb):=by
 intro pins s σ H Q I h;refine BoolOp_and (thn (ha pins s σ H _ I h) λv s1 zz=>exA zz λx H1 I1 r1 q1=>?_);obtain⟨c,rfl,q1⟩:=q1;cases r1;refine OD ?_;cases c with
 |true=>exact hb pins s1 σ H1 Q I1 q1
 |false=>exact⟨.bl false,H1,I1,rfl,q1⟩
def Lq(ha:PE X a ta)(hb:PE X (.BoolOp .Or (b::dC) pos) tb):PE X (.BoolOp .Or (a::b::dC) pos) (tOrV ta tb):=by
 intro pins s σ H Q I h;refine BoolOp_or (thn (ha pins s σ H _ I h) λv s1 zz=>exA zz λx H1 I1 r1 q1=>?_);obtain⟨c,rfl,q1⟩:=q1;cases r1;refine OD ?_;cases c with
 |false=>exact hb pins s1 σ H1 Q I1 q1
 |true=>exact⟨.bl true,H1,I1,rfl,q1⟩
def KJ(ha:PE X a ta):PE X (.UnaryOp .Not a pos) (MD ta):=by intro pins s σ H Q I h;refine UnaryOp_ (thn (ha pins s σ H _ I h) λv s1 zz=>exA zz λx H1 I1 r1 q1=>?_);obtain⟨c,rfl,q1⟩:=q1;cases r1;exact not_of (OD ⟨.bl (!c),H1,I1,rfl,q1⟩)
end
def SqL(K:W.Frag)(H:Hp)(a:Addr)(xs:List V):Prop:=
 Rd H a (.lst xs)\/
  ∃(o:Obj) (its:Array Value) (n:Nat),K.lookup a=some o/\o.cls=.type "list" /\ o.dict=none/\o.data=.seq its n/\its.size<=sizeLine/\Vals xs its.toList
def SqT(K:W.Frag)(H:Hp)(a:Addr)(xs:List V):Prop:=
 Rd H a (.tup xs)\/
  ∃(o:Obj) (its:Array Value) (n:Nat),K.lookup a=some o/\o.cls=.type "tuple" /\ o.data=.seq its n/\its.size<=sizeLine/\Vals xs its.toList
noncomputable def absV:Value->Option V
 |.none=>some .non
 |.bool b=>some (.bl b)
 |.int i _=>some (.int i)
 |.str x _=>some (.str x)
 |.bytes b _=>some (.byt b)
 |.float b _=>some (.flt b)
 |.ref a=>some (.ref a)
 |.type n=>some (.ty n)
 |_=>none
def RelV.abs(r:RelV x u):absV u=some x:=by
 cases x with
 |non=>cases r;rfl
 |bl _=>cases r;rfl
 |int _=>obtain⟨t,rfl⟩:=r;rfl
 |str _=>obtain⟨t,rfl⟩:=r;rfl
 |byt _=>obtain⟨t,rfl⟩:=r;rfl
 |flt _=>obtain⟨t,rfl⟩:=r;rfl
 |ref _=>cases r;rfl
 |ty _=>cases r;rfl
def RelV.inj(r:RelV x u)(q:RelV y u):x=y:=H_ (r.abs.symm.trans q.abs)
def Vals.inj(r:Vals xs us)(q:Vals ys us):xs=ys:=by
 induction r generalizing ys with
 |nil=>cases q;rfl
 |
  cons r t ih=>
  cases q with
  |cons q t'=>rw[r.inj q,ih t']
section
variable{X:Cx}{pins:Qu}{σ:St}{H:Hp}{s:Shared}{a:Addr}{xs ys:List V}
def SqL.of{K:W.Frag}(h:H a=some (.lst xs)):SqL K H a xs:=.inl (.inl h)
def SqT.of{K:W.Frag}(h:H a=some (.tup xs)):SqT K H a xs:=.inl (.inl h)
def Inv.list(I:Inv X pins σ H s)(h:SqL X.K H a xs):∃its:List Value,Vals xs its/\PlainL s.heap a its.toArray/\xs.length<=sizeLine:=by
 rcases h with h |⟨o,its,n,hk,hc,hd,hs,hz,r⟩
 .obtain⟨z,its,n,r,e⟩:=h.ok I.hok;exact⟨its,r,⟨_,n,e,rfl,rfl,rfl⟩,z⟩
 .refine⟨its.toList,r,⟨o,n,I.kIn a o hk,hc,hd,by simpa using hs⟩,?_⟩;have e:=r.length;simp only[NZ] at e;omega
def Inv.tuple(I:Inv X pins σ H s)(h:SqT X.K H a xs):∃its:List Value,Vals xs its/\IsTup s.heap a its.toArray/\xs.length<=sizeLine:=by
 rcases h with h |⟨o,its,n,hk,hc,hs,hz,r⟩
 .obtain⟨z,its,r,p⟩:=h.ok I.hok;exact⟨its,r,p,z⟩
 .refine⟨its.toList,r,⟨o,I.kIn a o hk,hc,n,by simpa using hs⟩,?_⟩;have e:=r.length;simp only[NZ] at e;omega
def Inv.list_inj(I:Inv X pins σ H s)(h:SqL X.K H a xs)(h':SqL X.K H a ys):xs=ys:=by
 obtain⟨its,r,⟨o,n,e,_,_,d⟩,_⟩:=I.list h;obtain⟨its',r',⟨o',n',e',_,_,d'⟩,_⟩:=I.list h';rw[e] at e';cases e';rw[d] at d';injection d' with d1 _;have:its=its':=by simpa using NR Array.toList d1
 subst this;exact r.inj r'
def Inv.tuple_inj(I:Inv X pins σ H s)(h:SqT X.K H a xs)(h':SqT X.K H a ys):xs=ys:=by
 obtain⟨its,r,⟨o,e,_,n,d⟩,_⟩:=I.tuple h;obtain⟨its',r',⟨o',e',_,n',d'⟩,_⟩:=I.tuple h';rw[e] at e';cases e';rw[d] at d';injection d' with d1 _;have:its=its':=by simpa using NR Array.toList d1
 subst this;exact r.inj r'
end
section
variable{X:Cx}{st:Stmt}{dC:List Stmt}{t u:TS}{e:Expr}{te:TE}{pos:Pos}
def Ms:TS:=λD σ H=>D.nx σ H
def tSeq(t u:TS):TS:=λD σ H=>t { D with nx:=u D } σ H
def Gw:PSs X [] Ms:=λ_ _ σ H _ I h=>Pz ⟨σ,H,I,h⟩
def Bu(h1:PS X st t)(h2:PSs X dC u):PSs X (st::dC) (tSeq t u):=by
 intro pins s σ H D I h;refine wpAny_execs_cons (thn (h1 pins s σ H { D with nx:=u D } I h) λf s1 q=>?_);cases f with
 |next=>obtain⟨σ',H',I',q⟩:=q;exact h2 pins s1 σ' H' D I' q
 |ret v=>exact q
 |brk=>exact q
 |cont=>exact q
def F2(h1:PS X st t):PSs X [st] t:=by
 intro pins s σ H D I h;refine wpAny_execs_cons (thn (h1 pins s σ H D I h) λf s1 q=>?_);cases f with
 |next=>exact Pz q
 |ret v=>exact q
 |brk=>exact q
 |cont=>exact q
def HF:TS:=λD σ H=>D.bk σ H
def C6:PS X (.Break pos) HF:=λ_ _ σ H _ I h=>wpAny_Break ⟨σ,H,I,h⟩
def Inv.quiet(I:Inv X pins σ H s):interactive X.env=false:=by simp [interactive,I.ok.kind]
def K4(te:TE):TS:=λD σ H=>te σ H λ_ H1=>D.nx σ H1
def FL(he:PE X e te)(hs:swapsWith e none pos.line X.env=pure false):PS X (.Expr e pos) (K4 te):=by intro pins s σ H D I h;exact wpAny_Expr_any (thn (he pins s σ H _ I h) λv s1 zz=>exA zz λx H1 I1 r1 q1=>⟨σ,H1,I1,q1⟩) I.quiet hs
def tRet(te:TE):TS:=λD σ H=>te σ H D.rt
def Kz(he:PE X e te):PS X (.Return (some e) pos) (tRet te):=by intro pins s σ H D I h;exact wpAny_Return_some (thn (he pins s σ H _ I h) λv s1 zz=>exA zz λx H1 I1 r1 q1=>⟨x,σ,H1,I1,r1,q1⟩)
def Lf:TS:=λD _ H=>D.rt .non H
def FZ:PS X (.Return none pos) Lf:=λ_ _ σ H _ I h=>wpAny_Return_none ⟨.non,σ,H,I,rfl,h⟩
def tIfS(c:TT)(t u:TS):TS:=λD σ H=>c σ H λb H1=>if b=true then t D σ H1 else u D σ H1
def MR(hc:PT X c tc)(ha:PSs X a t)(hb:PSs X b u):PS X (.If c a b pos) (tIfS tc t u):=by
 intro pins s σ H D I h;refine wpAny_If (thn (hc pins s σ H _ I h) λd s1 ⟨H1,I1,q1⟩=>?_);cases d with
 |true=>exact ha pins s1 σ H1 D I1 q1
 |false=>exact hb pins s1 σ H1 D I1 q1
end
abbrev TG:=V->St->Hp->(St->Hp->Prop)->Prop
abbrev TGs:=List V->St->Hp->(St->Hp->Prop)->Prop
def PG(X:Cx)(target:Expr)(t:TG):Prop:=
 ∀
  (pins:Qu) (s:Shared) (σ:St) (H:Hp) (v:V) (u:Value) (Q:St->Hp->Prop),Inv X pins σ H s->RelV v u->t v σ H Q->
  wpAny (model X.prog X.w) X.A (assign target X.env u) (λ_ s'=>∃σ' H',Inv X pins σ' H' s'/\Q σ' H') X.xe s
def PGs(X:Cx)(ts:List Expr)(t:TGs):Prop:=
 ∀
  (pins:Qu) (s:Shared) (σ:St) (H:Hp) (vs:List V) (us:List Value) (Q:St->Hp->Prop),Inv X pins σ H s->Vals vs us->t vs σ H Q->
  wpAny (model X.prog X.w) X.A (assignInOrder ((assignEach ts X.env).map (·.2)) us) (λ_ s'=>∃σ' H',Inv X pins σ' H' s'/\Q σ' H') X.xe s
abbrev sH:=V->V->V->Hp->(Hp->Prop)->Prop
def xJ(X:Cx)(t:sH):Prop:=
 ∀
  (pins:Qu) (s:Shared) (σ:St) (H:Hp) (o i v:V) (ov iv u:Value) (Q:Hp->Prop),Inv X pins σ H s->RelV o ov->RelV i iv->RelV v u->t o i v H Q->
  wpAny (model X.prog X.w) X.A (setItem ov iv u) (λ_ s'=>∃H',Inv X pins σ H' s'/\Q H') X.xe s
abbrev TIp:=V->V->Hp->VK->Prop
def PIp(X:Cx)(op:Operator)(t:TIp):Prop:=
 ∀
  (pins:Qu) (s:Shared) (σ:St) (H:Hp) (x y:V) (v u:Value) (Q:VK),Inv X pins σ H s->RelV x v->RelV y u->t x y H Q->
  wpAny (model X.prog X.w) X.A (inplaceOp op v u) (EP X pins σ Q) X.xe s
section
variable{X:Cx}{pos:Pos}
def qQ(i:Nat):TG:=λv σ H Q=>Q (σ.set i (some v)) H
def Fu(hN:X.N.Nodup)(hi:X.N[i]?=some x)(hx:Loc X.env.scope x)(hf:X.fn x=true\/X.env.scope.names.lookup x=some .local):PG X (.Name x pos) (qQ i):=by intro pins s σ H v u Q I r h;exact wpAny_assign_Name (dG I hN hi hx r (λs' I'=>⟨_,H,I',h⟩) hf)
def gNil:TGs:=λvs σ H Q=>vs=[]/\Q σ H
def Nr(t:TG)(u:TGs):TGs:=λvs σ H Q=>∃v r,vs=v::r/\t v σ H λσ' H'=>u r σ' H' Q
def FQ:PGs X [] gNil:=by intro pins s σ H vs us Q I r h;obtain⟨e,h⟩:=h;subst e;cases r;exact assignInOrder_nil ⟨σ,H,I,h⟩
def Dv(h1:PG X e t)(h2:PGs X es u)
 (hs:(assignEach (e::es) X.env).map (·.2)=assign e X.env::(assignEach es X.env).map (·.2)):PGs X (e::es) (Nr t u):=by
 intro pins s σ H vs us Q I r h;obtain⟨v,vr,e1,h⟩:=h;subst e1;cases r with
 |cons r rr=>rw[hs];refine OQ (thn (h1 pins s σ H _ _ _ I r h) λ_ s1 ⟨σ1,H1,I1,q1⟩=>?_);exact h2 pins s1 σ1 H1 _ _ Q I1 rr q1
def gTup(K:W.Frag)(n:Nat)(t:TGs):TG:=λv σ H Q=>∃a xs,v=.ref a/\SqT K H a xs/\xs.length=n/\t xs σ H Q
def Al(hc:X.calm=true)(h:PGs X es t)
 (hn:(assignEach es X.env).length=n) (hst:(assignEach es X.env).findIdx? (·.1)=none):PG X (.Tuple es k pos) (gTup X.K n t):=by
 intro pins s σ H v u Q I r hw;obtain⟨a,xs,e1,hq,hl,hw⟩:=hw;subst e1;cases r;obtain⟨its,rv,ht,hz⟩:=I.tuple hq;refine assign_Tuple_tuple (I.ok.hd hc) ht (by simp [hn,<- hl,rv.length]) hst λh' hx=>?_;have I1:Inv X pins σ H { s with heap:=h' }:=I.kept (t':=s.toks) λb o e=>hx b o (K_ (z_ e)) e;exact h pins _ σ H xs _ Q I1 (by simpa using rv) hw
def gSub(to ti:TE)(t:sH):TG:=λv σ H Q=>to σ H λo H1=>ti σ H1 λi H2=>t o i v H2 λH3=>Q σ H3
def IH(ho:PE X o to)(hi:PE X i ti)(hs:xJ X t)
 (ha:∀v,assign (.Subscript o i pos) X.env v=(do
  let ov <- holding [v] (eval o X.env)
  let iv <- holding [v,ov] (eval i X.env)
  standAt pos
  holding [v,ov,iv] (setItem ov iv v)
  release [v,ov,iv] [])):PG X (.Subscript o i pos) (gSub to ti t):=by
 intro pins s σ H v u Q I r h;rw[ha];refine n_ (Ot (thn (ho pins s σ H _ I h) λov s1 zz=>exA zz λx H1 I1 r1 q1=>?_));refine n_ (Ot (thn (hi pins s1 σ H1 _ I1 q1) λiv s2 zz=>exA zz λy H2 I2 r2 q2=>?_));refine n_ (O5 (n_ (Ot (thn (hs pins s2 σ H2 x y v ov iv u _ I2 r1 r2 r q2) λ_ s3 ⟨H3,I3,q3⟩=>?_))));exact wpAny_release ⟨σ,H3,I3,q3⟩
def xP(te:TE)(g:TG):TS:=λD σ H=>te σ H λx H1=>g x σ H1 D.nx
def zH(he:PE X e te)(hg:PG X tg g)(hs:swapsWithSole [tg] e pos.line X.env=pure false)(hw:swappedStores [tg] e X.env=pure none)
 (h1:(assignEach [tg] X.env).map (·.2)=[assign tg X.env]):PS X (.Assign [tg] e pos) (xP te g):=by
 intro pins s σ H D I h;refine wpAny_Assign_stores (thn (he pins s σ H _ I h) λv s1 zz=>exA zz λx H1 I1 r1 q1=>?_) hs hw;rw[h1];exact thn (hg pins s1 σ H1 x v _ I1 r1 q1) λ_ s2 q=>q
def Im(hN:X.N.Nodup)(hi:X.N[i]?=some x)(hx:Loc X.env.scope x)(he:PE X e te)(hs:swapsWith e (some (.Name x l_)) pos.line X.env=pure false)(hf:X.fn x=true\/X.env.scope.names.lookup x=some .local):
 PS X (.Assign [.Name x l_] e pos) (xP te (qQ i)):=by
 intro pins s σ H D I h;refine wpAny_Assign_Name (thn (he pins s σ H _ I h) λv s1 zz=>exA zz λy H1 I1 r1 q1=>?_) hs;exact dG I1 hN hi hx r1 (λs2 I2=>⟨_,H1,I2,q1⟩) hf
def tPar(i j:Nat)(ta:TA):TS:=λD σ H=>ta σ H λvs H1=>∃v w,vs=[v,w]/\D.nx ((σ.set i (some v)).set j (some w)) H1
def Kh{kt k2 pt2}(hc:X.calm=true)(hN:X.N.Nodup)(hi:X.N[i]?=some x)(hj:X.N[j]?=some y)(hij:i≠j)
 (hx:X.env.scope.names.lookup x=some .local) (hy:X.env.scope.names.lookup y=some .local) (ha:PA X [a,b] ta)
 (hw:swappedStores [.Tuple [.Name x px,.Name y py] kt pt] (.Tuple [a,b] k2 pt2) X.env=pure (some [x,y]))
 (hs:swapsWithSole [.Tuple [.Name x px,.Name y py] kt pt] (.Tuple [a,b] k2 pt2) pos.line X.env=pure false):
 PS X (.Assign [.Tuple [.Name x px,.Name y py] kt pt] (.Tuple [a,b] k2 pt2) pos) (tPar i j ta):=by
 intro pins s σ H D I h;rw[exec_Assign_arm];refine n_ (O5 ?_);rw[hs];refine n_ (v_ ?_);rw[if_neg (by decide)];refine n_ (Tuple_ (thn (ha _ pins s σ H _ I h) λus s1 zz=>exA zz λvs H1 I1 r1 q1=>?_));obtain⟨v,w,e1,q1⟩:=q1;subst e1;obtain⟨u1,u2,rfl,rv,rw'⟩:∃u1 u2,us=[u1,u2]/\RelV v u1/\RelV w u2:=by
  cases r1 with
  |
   cons p q=>
   cases q with
   |cons p' q'=>cases q';exact⟨_,_,rfl,p,p'⟩
 refine N6 ?_ (by show 2<=sizeLine;decide);have I2:Inv X pins σ H1 { s1 with heap:=s1.heap.push { cls:=.type "tuple",data:=.seq [u1,u2].toArray } }:=I1.kept (t':=s1.toks) λb o e=>p_ _ e;rw[hw];refine n_ (v_ ?_);show wpAny (model X.prog X.w) X.A (do rule "assign.swapped-stores";let items <- unpackItems (.ref s1.heap.objs.size) 2 none;assignInOrder [λv=>bindName X.env y v,λv=>bindName X.env x v] items.reverse;pure Flow.next) _ _ _;refine n_ (Qh (n_ (unpackItems_tuple (items:=#[u1,u2]) (I.ok.hd hc) (IsTup.new s1.heap _) λh' hx'=>?_)));have I3:=I2.kept (h':=h') (t':=s1.toks) λb o e=>hx' b o (K_ (z_ e)) e;show wpAny _ _ (assignInOrder [λv=>bindName X.env y v,λv=>bindName X.env x v] [u2,u1] >>= λ_=>pure Flow.next) _ _ _;refine n_ (OQ (PL (dG I3 hN hj (.inl hy) rw' (λs2 I4=>?_) (.inr hy))));refine OQ (PL (dG I4 hN hi (.inl hx) rv (λs3 I5=>assignInOrder_nil (v_ ?_)) (.inr hx)));rw[Pp _ _ (Ne.symm hij)] at I5;exact⟨_,H1,I5,q1⟩
def tAug(i:Nat)(te:TE)(ti:TIp):TS:=λD σ H=>∃x,σ[i]?=some (some x)/\te σ H λy H1=>ti x y H1 λz H2=>D.nx (σ.set i (some z)) H2
def I0(hN:X.N.Nodup)(hi:X.N[i]?=some x)(hx:Loc X.env.scope x)(he:PE X e te)(ho:PIp X op ti)(hf:X.fn x=true\/X.env.scope.names.lookup x=some .local):
 PS X (.AugAssign (.Name x l_) op e pos) (tAug i te ti):=by
 intro pins s σ H D I h;obtain⟨v,e1,h⟩:=h;obtain⟨m,hn,hl⟩:=I.loc;have vis:Vis X.env.scope x:=by rcases hx with k |k;exact .inl k;exact .inr (.inl k)
 obtain⟨u,r,l⟩:=hl i x v hi e1 vis;refine wpAny_AugAssign_Name ?_;have go:wpAny (model X.prog X.w) X.A (eval e X.env) (λw s₂=>wpAny (model X.prog X.w) X.A (inplaceOp op u w) (λr s₃=>wpAny (model X.prog X.w) X.A (storeName X.env x r) (λ_=>SP X pins D .next) X.xe s₃) X.xe s₂) X.xe s:=by refine thn (he pins s σ H _ I h) λw s1 zz=>exA zz λy H1 I1 r1 q1=>?_;refine thn (ho pins s1 σ H1 v y u w _ I1 r r1 q1) λz s2 zz=>exA zz λzv H2 I2 r2 q2=>?_;exact dG I2 hN hi hx r2 (λs3 I3=>⟨_,H2,I3,q2⟩) hf
 rcases l with ⟨hk,hm⟩ |⟨hk,c,hc,m_⟩
 .exact Qg I.ok.kind hk hn hm go
 .rcases hk with hk |hk
  .exact wpAny_loadName_cell I.ok.kind hk hc m_ go
  .rcases hx with k |k
   .have:X.env.scope.names.lookup x=some .free:=hk;rw[k] at this;cases this
   .have:X.env.scope.names.lookup x=some .free:=hk;rw[k] at this;cases this
def ipI(f:Int->Int->Int):TIp:=λx y H Q=>∃i j,x=.int i/\y=.int j/\Q (.int (f i j)) H
def JP:PIp X .Add (ipI λi j=>i+j):=by intro pins s σ H x y v u Q I r1 r2 h;obtain⟨i,j,e1,e2,q⟩:=h;subst e1;subst e2;obtain⟨t,rfl⟩:=r1;obtain⟨t',rfl⟩:=r2;exact iadd_int ⟨.int _,H,I.tok _,⟨_,rfl⟩,q⟩
def J4(c:TT)(tb:TS):TS:=λD σ H=>∃W:Nat->St->Hp->Prop,(∃m,W m σ H)/\∀m σ H,W m σ H->
 c σ H λb H1=>if b=true then ∃N:St->Hp->Prop,(∀σ' H',N σ' H'->∃m',m'<m/\W m' σ' H')/\tb { D with nx:=N,ct:=N,bk:=D.nx } σ H1 else D.nx σ H1
def Ci(hp:PassesOwn (model X.prog X.w) X.A X.env X.xe)(hc:PT X c tc)(hb:PSs X body tb):PS X (.While c body [] pos) (J4 tc tb):=by
 intro pins s σ H D I h;obtain⟨W,⟨m0,w0⟩,turn⟩:=h;refine wpAny_While (codeAny_whileLoop (λn s'=>∃σ' H',Inv X pins σ' H' s'/\W n σ' H') ?_ m0 ⟨σ,H,I,w0⟩);rintro n s1 ⟨σ1,H1,I1,w1⟩;refine OX hp (thn (hc pins s1 σ1 H1 _ I1 (turn n σ1 H1 w1)) λb s2 ⟨H2,I2,q2⟩=>?_);cases b with
 |
  true=>
  obtain⟨N,hN,q2⟩:=q2;rw[if_pos rfl];refine OX hp (thn (hb pins s2 σ1 H2 _ I2 q2) λf s3 q3=>?_);cases f with
  |next=>obtain⟨σ3,H3,I3,n3⟩:=q3;obtain⟨m',hm,w3⟩:=hN σ3 H3 n3;exact⟨m',hm,σ3,H3,I3,w3⟩
  |cont=>obtain⟨σ3,H3,I3,n3⟩:=q3;obtain⟨m',hm,w3⟩:=hN σ3 H3 n3;exact⟨m',hm,σ3,H3,I3,w3⟩
  |brk=>exact q3
  |ret v=>exact q3
 |false=>rw[if_neg u_];exact Pz ⟨σ1,H2,I2,q2⟩
end
structure It where
 go:Nat->Hp->Prop
 yld:Nat->Hp->V->Hp->Prop
 stop:Nat->Hp->Prop
def FpOk(X:Cx)(pins:Qu)(H:Hp)(b:Addr):Prop:=
 H b=none/\b≠X.env.locals/\b∉X.fs/\(b∈X.ex\/X.s₀.heap.objs.size<=b)/\(∀x c,X.env.cells.lookup x=some c->c≠b)/\∀p∈X.pn++pins,p.1≠b
def Inv.fpOk(I:Inv X pins σ H s)(hb:s.heap.objs.size<=b)(hn:H' b=none):FpOk X pins H' b:=by
 refine⟨hn,Pe (I_ I.lt hb),I.nofs hb,.inr (NG I.sz hb),λx c e z=>?_,λp hp z=>?_⟩
 .obtain⟨v,q⟩:=I.cell x c e;exact absurd (I_ q.lt (by rw[z];exact hb)) (Od _)
 .exact absurd (I_ (z_ (I.pin p hp).1) (by rw[z];exact hb)) (Od _)
structure Turn(P:Program)(w:World)(K:W.Frag)(tg:Expr)(J:It)(fp:List Addr)(it:Addr)(tn:Nat->Heap->Prop):Prop where
 mem:it∈fp
 obj:∀i h,tn i h->∀b∈fp,∃o,h.get? b=some o/\∀v,o.data ≠ .cell v
 keep:∀i h h',tn i h->(∀b∈fp,∀o,h.get? b=some o->h'.get? b=some o)->tn i h'
 item:∀(X:Cx),X.prog=P->X.w=w->X.K=K->X.calm=true->∀(i:Nat) (pins:Qu) (s:Shared) (σ:St) (H:Hp) (E:Qv),Inv X pins σ H s->(∀b∈fp,FpOk X pins H b)->tn i s.heap->J.go i H->
  wpAny (model P w) X.A (pyNext (.ref it)) (λr s1=>∃u,r=some u/\
   wpAny (model P w) X.A (letOwnedTupleGo tg (.ref it) u) (λ_ s2=>∃x H',Inv X pins σ H' s2/\RelV x u/\J.yld i H x H'/\tn (i+1) s2.heap/\∀b∈fp,H' b=none) E s1) E s
 done:∀(X:Cx),X.prog=P->X.w=w->X.K=K->X.calm=true->∀(i:Nat) (pins:Qu) (s:Shared) (σ:St) (H:Hp) (E:Qv),Inv X pins σ H s->(∀b∈fp,FpOk X pins H b)->tn i s.heap->J.stop i H->
  wpAny (model P w) X.A (pyNext (.ref it)) (λr s1=>r=none/\Inv X pins σ H s1) E s
 self:∀(A:Around) (i:Nat) (s:Shared) (Q:Qv) (E:Qv),tn i s.heap->Q (.ref it) s->wpAny (model P w) A (pyIter (.ref it)) Q E s
abbrev TI:=St->Hp->(It->Hp->Prop)->Prop
def PIE(X:Cx)(pins:Qu)(σ:St)(tg:Expr)(R:It->Hp->Prop)(itv:Value)(s2:Shared):Prop:=
 ∃(it:Addr) (fp:List Addr) (tn:Nat->Heap->Prop) (J:It) (H':Hp),itv=.ref it/\Inv X pins σ H' s2/\Turn X.prog X.w X.K tg J fp it tn/\tn 0 s2.heap/\(∀b∈fp,FpOk X pins H' b)/\R J H'
def PI(X:Cx)(tg iter:Expr)(wi:TI):Prop:=
 ∀
  (pins:Qu) (s:Shared) (σ:St) (H:Hp) (R:It->Hp->Prop),Inv X pins σ H s->wi σ H R->
  wpAny (model X.prog X.w) X.A (eval iter X.env) (λv s1=>wpAny (model X.prog X.w) X.A (pyIter v) (PIE X pins σ tg R) X.xe s1) X.xe s
def qI(ho:s.heap.get? it=some o)(hc:o.cls=.type n)(hd:o.data=.fields vs)
 (hn:["enumerate", "zip", "dict_itemiterator", "dict_reverseitemiterator", "odict_iterator", "itertools.zip_longest", "itertools.pairwise"].contains n=false) (hQ:Q () s):wpAny M A (letOwnedTupleGo tg (.ref it) u) Q E s:=by
 unfold letOwnedTupleGo;cases tg
  <;> first
  |exact v_ hQ
  |(cases u <;> first
   |exact v_ hQ
   |(
    refine n_ (wpAny_load ho ?_);rw[hc,hd];show wpAny M A (if (["enumerate", "zip", "dict_itemiterator", "dict_reverseitemiterator", "odict_iterator", "itertools.zip_longest", "itertools.pairwise"].contains n&&vs[0]?==some (rawInt _))=true then _ else _) Q E s;rw[if_neg (by intro h;rw[hn,Bool.false_and] at h;cases h)];exact v_ hQ))
noncomputable def Itl (K:W.Frag) (a:Addr):It:=
 ⟨λi H=>∃xs x,SqL K H a xs/\xs[i]?=some x,λi H x H'=>H'=H/\∀xs,SqL K H a xs->xs[i]?=some x,λi H=>∃xs,SqL K H a xs/\xs.length<=i⟩
noncomputable def Itt (K:W.Frag) (a:Addr):It:=
 ⟨λi H=>∃xs x,SqT K H a xs/\xs[i]?=some x,λi H x H'=>H'=H/\∀xs,SqT K H a xs->xs[i]?=some x,λi H=>∃xs,SqT K H a xs/\xs.length<=i⟩
noncomputable def Itr (lo:Int) (n:Nat):It:=⟨λi _=>i<n,λi H x H'=>H'=H/\x=.int (lo+i),λi _=>n<=i⟩
def AF{P:Program}{w:World}{K:W.Frag}{tg:Expr}(a it:Addr):Turn P w K tg (Itl K a) [it] it (λi h=>h.IsListIter it a i) where
 mem:=by simp
 obj:=λi h st b hb=>by
  have e:b=it:=by simpa using hb
  subst e;obtain⟨o,e,c,d⟩:=st;exact⟨o,e,λv z=>by rw[d] at z;cases z⟩
 keep:=λi h h' st k=>st.at λo e=>k it (by simp) o e
 item:=by intro X hP hw hK hc i pins s σ H E I hf st hg;subst hP hw hK;obtain⟨xs,x,hq,hx⟩:=hg;obtain⟨its,rv,p,hz⟩:=I.list hq;obtain⟨u,hu,ru⟩:=rv.get hx;obtain⟨f0,f1,f2,f3,f4,f5⟩:=hf it (by simp);refine wpAny_pyNext_list_item st p.isList (x:=u) (by simpa using hu) λh' st' sb=>?_;have I1:Inv X pins σ H { s with heap:=h' }:=I.turned (t':=s.toks) (λb o hb e=>(sb.2 b hb).trans e) f0 f1 f3 f4 f5;obtain⟨o,e,c,d⟩:=id st';exact⟨u,rfl,qI (s:={ s with heap:=h' }) e c d (by decide) ⟨x,H,I1,ru,⟨rfl,λys hy=>by rw[I.list_inj hy hq];exact hx⟩,st',λb hb=>(hf b hb).1⟩⟩
 done:=by intro X hP hw hK hc i pins s σ H E I hf st hg;subst hP hw hK;obtain⟨xs,hq,hx⟩:=hg;obtain⟨its,rv,p,hz⟩:=I.list hq;obtain⟨f0,f1,f2,f3,f4,f5⟩:=hf it (by simp);have hl:=rv.length;exact wpAny_pyNext_list_end (I.ok.hd hc) st p.isList (by simp;omega) λh' eb=>⟨rfl,I.turned (t':=s.toks) (λb o hb e=>eb b o hb e) f0 f1 f3 f4 f5⟩
 self:=λ_ _ _ _ _ st h=>wpAny_pyIter_listiter st h
def xu{P:Program}{w:World}{K:W.Frag}{tg:Expr}(a it:Addr):Turn P w K tg (Itt K a) [it] it (λi h=>h.IsTupleIter it a i) where
 mem:=by simp
 obj:=λi h st b hb=>by
  have e:b=it:=by simpa using hb
  subst e;obtain⟨o,e,c,d⟩:=st;exact⟨o,e,λv z=>by rw[d] at z;cases z⟩
 keep:=λi h h' st k=>st.at λo e=>k it (by simp) o e
 item:=by intro X hP hw hK hc i pins s σ H E I hf st hg;subst hP hw hK;obtain⟨xs,x,hq,hx⟩:=hg;obtain⟨its,rv,p,hz⟩:=I.tuple hq;obtain⟨u,hu,ru⟩:=rv.get hx;obtain⟨f0,f1,f2,f3,f4,f5⟩:=hf it (by simp);refine wpAny_pyNext_tuple_item st (show s.heap.IsTuple a its.toArray from p) (x:=u) (by simpa using hu) λh' st' sb=>?_;have I1:Inv X pins σ H { s with heap:=h' }:=I.turned (t':=s.toks) (λb o hb e=>(sb.2 b hb).trans e) f0 f1 f3 f4 f5;obtain⟨o,e,c,d⟩:=id st';exact⟨u,rfl,qI (s:={ s with heap:=h' }) e c d (by decide) ⟨x,H,I1,ru,⟨rfl,λys hy=>by rw[I.tuple_inj hy hq];exact hx⟩,st',λb hb=>(hf b hb).1⟩⟩
 done:=by intro X hP hw hK hc i pins s σ H E I hf st hg;subst hP hw hK;obtain⟨xs,hq,hx⟩:=hg;obtain⟨its,rv,p,hz⟩:=I.tuple hq;obtain⟨f0,f1,f2,f3,f4,f5⟩:=hf it (by simp);have hl:=rv.length;exact wpAny_pyNext_tuple_end (I.ok.hd hc) st (show s.heap.IsTuple a its.toArray from p) (by simp;omega) λh' eb=>⟨rfl,I.turned (t':=s.toks) (λb o hb e=>eb b o hb e) f0 f1 f3 f4 f5⟩
 self:=λ_ _ _ _ _ st h=>wpAny_pyIter_tupleiter st h
def wY{P:Program}{w:World}{K:W.Frag}{tg:Expr}(it:Addr)(lo:Int)(n:Nat):Turn P w K tg (Itr lo n) [it] it (λi h=>IsRangeIter h it (lo+(i:Nat)*1) ((n:Int)-(i:Nat)) 1) where
 mem:=by simp
 obj
  := λi h st b hb=>by
  have e:b=it:=by simpa using hb
  subst e;exact⟨_,st,λv z=>by have z':Data.fields _=Data.cell v:=z;cases z'⟩
 keep:=λi h h' st k=>k it (by simp) _ st
 item:=by intro X hP hw hK hc i pins s σ H E I hf st hg;subst hP hw hK;obtain⟨f0,f1,f2,f3,f4,f5⟩:=hf it (by simp);have W:=Walks.range (prog:=X.prog) (w:=X.w) (I.ok.hd hc) it lo 1 n;refine W.item i s _ _ hg st λv h' tk hv st' kk=>?_;obtain⟨t,rfl⟩:=hv;have I1:Inv X pins σ H { s with heap:=h',toks:=tk }:=I.turned (λb o hb e=>kk b o (by simpa using hb) e) f0 f1 f3 f4 f5;refine⟨_,rfl,qI (s:={ s with heap:=h',toks:=tk }) (n:="range_iterator") st' rfl rfl (by decide) ⟨.int (lo+i),H,I1,⟨t,?_⟩,⟨rfl,rfl⟩,st',λb hb=>(hf b hb).1⟩⟩;rw[Int.mul_one]
 done:=by intro X hP hw hK hc i pins s σ H E I hf st hg;subst hP hw hK;obtain⟨f0,f1,f2,f3,f4,f5⟩:=hf it (by simp);exact wpAny_pyNext_range_end (I.ok.hd hc) st (by have:n<=i:=hg;omega) λh' eb=>⟨rfl,I.turned (t':=s.toks) (λb o hb e=>eb b o hb e) f0 f1 f3 f4 f5⟩
 self:=λ_ _ _ _ _ st h=>wpAny_pyIter_rangeiter st h
section
variable{X:Cx}{tg:Expr}
def rN{pins:Qu}{σ:St}{H:Hp}{s:Shared}{R:It->Hp->Prop}{E:Qv}{lo hi:Int}{t u v:Tok}{tk:Nat}(I:Inv X pins σ H s)(h1:-(2^62)<=lo)(h2:lo<2^62)(h3:-(2^62)<=hi)(h4:hi<2^62)
 (q:R (Itr lo (hi-lo).toNat) H):wpAny (model X.prog X.w) X.A (pyIter (.ref s.heap.objs.size)) (PIE X pins σ tg R) E { s with heap:=s.heap.push { cls:=.type "range",data:=.fields #[.int lo t,.int hi u,.int 1 v] },toks:=tk }:=by
 refine wpAny_pyIter_range (Qm ..) (small_one h1 h2 h3 h4) ?_;have I1:Inv X pins σ H { s with heap:=s.heap.push { cls:=.type "range",data:=.fields #[.int lo t,.int hi u,.int 1 v] },toks:=tk }:=I.kept λb o e=>p_ _ e;refine⟨(s.heap.push { cls:=.type "range",data:=.fields #[.int lo t,.int hi u,.int 1 v] }).objs.size,[(s.heap.push { cls:=.type "range",data:=.fields #[.int lo t,.int hi u,.int 1 v] }).objs.size],_,_,H,rfl,
  I1.kept (t':=tk) λb o e=>p_ _ e,wY _ lo (hi-lo).toNat,?_,λb hb=>?_,q⟩
 .have e1:lo+((0:Nat):Int)*1=lo:=by simp
  have e2:(((hi-lo).toNat:Nat):Int)-((0:Nat):Int)=Builtin.Range.rangeSize lo hi 1:=by rw[Qr];split <;> omega
  show IsRangeIter _ _ (lo+((0:Nat):Int)*1) ((((hi-lo).toNat:Nat):Int)-((0:Nat):Int)) 1;rw[e1,e2];exact Em _ rfl
 .have e:b=(s.heap.push { cls:=.type "range",data:=.fields #[.int lo t,.int hi u,.int 1 v] }).objs.size:=by simpa using hb
  subst e;exact I1.fpOk (r_ _) (I1.hok.fresh (r_ _))
def Lm(ta:TA):TI:=λσ H R=>ta σ H λvs H1=>∃j:Int,vs=[.int j]/\-(2^62)<=j/\j<2^62/\R (Itr 0 j.toNat) H1
def Np(ta:TA):TI:=λσ H R=>ta σ H λvs H1=>∃i j:Int,vs=[.int i,.int j]/\(-(2^62)<=i/\i<2^62/\-(2^62)<=j/\j<2^62)/\R (Itr i (j-i).toNat) H1
def Ad(hg:Gl X "range")(hm:X.mg "range"=none)(ha:PA X [a] ta)(hs:starEach [a] X.env=[(false,eval a X.env)]):PI X tg (.Call (.Name "range" p) [a] [] pos) (Lm ta):=by
 intro pins s σ H R I h;refine Call_ (cX I hg hm boot_range (NL (thn (ha pos pins s σ H _ I h) λus s1 zz=>exA zz λvs H1 I1 r1 q1=>?_) hs rfl));obtain⟨j,e,q1,q2,q⟩:=q1;subst e;cases r1 with
 |cons r rr=>cases rr;obtain⟨t,rfl⟩:=r;exact call_range_1 (rN I1 (by omega) (by omega) q1 q2 (by simpa using q))
def AO(hg:Gl X "range")(hm:X.mg "range"=none)(ha:PA X [a,b] ta)(hs:starEach [a,b] X.env=[(false,eval a X.env),(false,eval b X.env)])(hs2:starEach [b] X.env=[(false,eval b X.env)]):
 PI X tg (.Call (.Name "range" p) [a,b] [] pos) (Np ta):=by
 intro pins s σ H R I h;refine Call_ (cX I hg hm boot_range (NL (thn (ha pos pins s σ H _ I h) λus s1 zz=>exA zz λvs H1 I1 r1 q1=>?_) (by rw[hs,hs2]) (by rw[hs2];rfl)));obtain⟨i,j,e,⟨q1,q2,q3,q4⟩,q⟩:=q1;subst e;cases r1 with
 |
  cons r rr=>
  cases rr with
  |cons r' rr=>cases rr;obtain⟨t,rfl⟩:=r;obtain⟨t',rfl⟩:=r';exact call_range_2 (rN I1 q1 q2 q3 q4 q)
def tFor(wi:TI)(g:TG)(tb:TS):TS:=λD σ H=>wi σ H λJ H1=>∃W:Nat->Nat->St->Hp->Prop,(∃m,W 0 m σ H1)/\∀i m σ H,W i m σ H->
 (J.stop i H/\D.nx σ H)\/(J.go i H/\∃N:St->Hp->Prop,(∀σ' H',N σ' H'->∃m',m'<m/\W (i+1) m' σ' H')/\∀x H',J.yld i H x H'->g x σ H' λσ2 H2=>tb { D with nx:=N,ct:=N,bk:=D.nx } σ2 H2)
noncomputable def ky (fp:List Addr) (h:Heap):List (Addr×Obj):=fp.filterMap λb=>(h.get? b).map λo=>(b,o)
def gI(hb:b∈fp)(e:h.get? b=some o):(b,o)∈ky fp h:=List.mem_filterMap.mpr ⟨b,hb,by rw[e];rfl⟩
def zA(hp:p∈ky fp h):p.1∈fp/\h.get? p.1=some p.2:=by
 obtain⟨b,hb,e⟩:=List.mem_filterMap.mp hp;cases q:h.get? b with
 |none=>rw[q] at e;cases e
 |some o=>rw[q] at e;have e':(b,o)=p:=H_ e;subst e';exact⟨hb,q⟩
def Inv.pinned(I:Inv X pins σ H s)(hf:∀b∈fp,FpOk X pins H b)(ho:∀b∈fp,∃o,s.heap.get? b=some o/\∀v,o.data ≠ .cell v):Inv X (pins++ky fp s.heap) σ H s:=
 I.pins_of λp hp=>(Oz.mp hp).elim (λz=>I.pin p (NI _ z)) λz=>by obtain⟨hb,e⟩:=zA z;obtain⟨f0,f1,f2,_⟩:=hf p.1 hb;obtain⟨o,e',d⟩:=ho p.1 hb;rw[e] at e';cases e';exact⟨e,f0,f1,f2,d⟩
def Inv.unpinned(I:Inv X (pins++pl) σ H s):Inv X pins σ H s:=I.pins_of λp hp=>I.pin p (NI _ (Pg _ hp))
def GO(hp:PassesOwn (model X.prog X.w) X.A X.env X.xe)(hc:X.calm=true)(hi:PI X tg iter wi)(hg:PG X tg g)(hb:PSs X body tb)
 (hs:∀x,foldedSetIterable iter X.env x=pure x):PS X (.For tg iter body [] pos) (tFor wi g tb):=by
 intro pins s σ H D I h;refine wpAny_For (thn (hi pins s σ H _ I h) λv s1 h1=>thn h1 λitv s2 h2=>?_) hs;obtain⟨it,fp,tn,J,H2,e,I2,T,st2,f2,W,⟨m0,w0⟩,turn⟩:=h2;subst e;have stat:∀{H':Hp},(∀b∈fp,H' b=none)->∀b∈fp,FpOk X pins H' b:=λhn b hb=>⟨hn b hb,(f2 b hb).2⟩;refine codeAny_forLoop_any (λn s'=>∃i σ' H',Inv X pins σ' H' s'/\tn i s'.heap/\(∀b∈fp,H' b=none)/\W i n σ' H') ?_ m0 ⟨0,σ,H2,I2,st2,λb hb=>(f2 b hb).1,w0⟩;rintro n s3 ⟨i,σ3,H3,I3,st3,fr3,w3⟩;rcases turn i n σ3 H3 w3 with ⟨stop,qn⟩ |⟨go,N,hN,step⟩
 .refine OX hp (thn (T.done X rfl rfl rfl hc i pins s3 σ3 H3 X.xe I3 (stat fr3) st3 stop) λr s4 ⟨hr,I4⟩=>?_);subst hr;exact Pz ⟨σ3,H3,I4,qn⟩
 .refine OX hp (thn (T.item X rfl rfl rfl hc i pins s3 σ3 H3 X.xe I3 (stat fr3) st3 go) λr s4 ⟨u,hr,h4⟩=>?_);subst hr;refine OX hp (thn h4 λ_ s5 ⟨x,H5,I5,r5,y5,st5,fr5⟩=>?_);have I5':=I5.pinned (stat fr5) (T.obj _ _ st5);refine OX hp (thn (hg _ s5 σ3 H5 x u _ I5' r5 (step x H5 y5)) λ_ s6 ⟨σ6,H6,I6,q6⟩=>?_);refine OX hp (thn (hb _ s6 σ6 H6 _ I6 q6) λf s7 q7=>?_);have again:∀{σ7:St}{H7:Hp},Inv X (pins++ky fp s5.heap) σ7 H7 s7->N σ7 H7->∃m,m<n/\∃i σ' H',Inv X pins σ' H' s7/\tn i s7.heap/\(∀b∈fp,H' b=none)/\W i m σ' H':=λ{σ7 H7} I7 n7=>by obtain⟨m',hm,w7⟩:=hN σ7 H7 n7;refine⟨m',hm,i+1,σ7,H7,I7.unpinned,T.keep _ _ _ st5 λb hb o e=>(I7.pin (b,o) (NI _ (NI _ (gI hb e)))).1,λb hb=>?_,w7⟩;obtain⟨o,e,d⟩:=T.obj _ _ st5 b hb;exact (I7.pin (b,o) (NI _ (NI _ (gI hb e)))).2.1
  cases f with
  |next=>obtain⟨σ7,H7,I7,n7⟩:=q7;exact again I7 n7
  |cont=>obtain⟨σ7,H7,I7,n7⟩:=q7;exact again I7 n7
  |brk=>obtain⟨σ7,H7,I7,q7⟩:=q7;exact⟨σ7,H7,I7.unpinned,q7⟩
  |ret v=>obtain⟨x7,σ7,H7,I7,r7,q7⟩:=q7;exact⟨x7,σ7,H7,I7.unpinned,r7,q7⟩
end
abbrev R2:=V->V->Hp->VK->Prop
def OpR(X:Cx)(f:Value->Value->Sem Value)(r:R2):Prop:=
 ∀
  (pins:Qu) (s:Shared) (σ:St) (H:Hp) (x y:V) (v u:Value) (Q:VK),Inv X pins σ H s->RelV x v->RelV y u->r x y H Q->
  wpAny (model X.prog X.w) X.A (f v u) (EP X pins σ Q) X.xe s
def UnR(X:Cx)(f:Value->Sem Value)(r:V->Hp->VK->Prop):Prop:=
 ∀
  (pins:Qu) (s:Shared) (σ:St) (H:Hp) (x:V) (v:Value) (Q:VK),Inv X pins σ H s->RelV x v->r x H Q->
  wpAny (model X.prog X.w) X.A (f v) (EP X pins σ Q) X.xe s
def CallR(X:Cx)(f:Value)(r:List V->Hp->VK->Prop):Prop:=
 ∀
  (pins:Qu) (s:Shared) (σ:St) (H:Hp) (xs:List V) (us:List Value) (Q:VK),Inv X pins σ H s->Vals xs us->r xs H Q->
  wpAny (model X.prog X.w) X.A (call f us) (EP X pins σ Q) X.xe s
def TruR(X:Cx)(r:V->Hp->(Bool->Hp->Prop)->Prop):Prop:=
 ∀
  (pins:Qu) (s:Shared) (σ:St) (H:Hp) (x:V) (v:Value) (Q:Bool->Hp->Prop),Inv X pins σ H s->RelV x v->r x H Q->
  wpAny (model X.prog X.w) X.A (truthy v) (TP X pins σ Q) X.xe s
def tOp(r:R2)(ta tb:TE):TE:=λσ H Q=>ta σ H λx H1=>tb σ H1 λy H2=>r x y H2 Q
def tUn(r:V->Hp->VK->Prop)(ta:TE):TE:=λσ H Q=>ta σ H λx H1=>r x H1 Q
def rI(C:Int->Int->Prop)(g:Int->Int->V):R2:=λx y H Q=>∃i j,x=.int i/\y=.int j/\C i j/\Q (g i j) H
def rI0(g:Int->Int->V):R2:=λx y H Q=>∃i j,x=.int i/\y=.int j/\Q (g i j) H
def rU(g:Int->V):V->Hp->VK->Prop:=λx H Q=>∃i,x=.int i/\Q (g i) H
section
variable{X:Cx}{a b:Expr}{ta tb:TE}{pos:Pos}
def BG(ha:PE X a ta)(hb:PE X b tb){pins:Qu}{s:Shared}{σ:St}{H:Hp}{R:V->V->Hp->Prop}(I:Inv X pins σ H s)
 (h:ta σ H λx H1=>tb σ H1 λy H2=>R x y H2) {Q:Qv}{f:Value->Value->Sem Value}
 (hf:∀v u s2 x y H2,Inv X pins σ H2 s2->RelV x v->RelV y u->R x y H2->wpAny (model X.prog X.w) X.A (f v u) Q X.xe s2):
 wpAny (model X.prog X.w) X.A (eval a X.env) (λv s₁=>wpAny (model X.prog X.w) X.A (eval b X.env) (λu s₂=>wpAny (model X.prog X.w) X.A (f v u) Q X.xe s₂) X.xe s₁) X.xe s:=by
 refine thn (ha pins s σ H _ I h) λv s1 zz=>exA zz λx H1 I1 r1 q1=>?_;refine thn (hb pins s1 σ H1 _ I1 q1) λu s2 zz=>exA zz λy H2 I2 r2 q2=>?_;exact hf v u s2 x y H2 I2 r1 r2 q2
def K1(ho:OpR X (binaryOp op) r)(ha:PE X a ta)(hb:PE X b tb):PE X (.BinOp a op b pos) (tOp r ta tb):=by intro pins s σ H Q I h;exact wpAny_BinOp (BG ha hb I h λv u s2 x y H2 I2 rx ry q=>ho pins s2 σ H2 x y v u Q I2 rx ry q)
def MJ(ho:UnR X (unaryOp op) r)(ha:PE X a ta):PE X (.UnaryOp op a pos) (tUn r ta):=by intro pins s σ H Q I h;exact UnaryOp_ (thn (ha pins s σ H _ I h) λv s1 zz=>exA zz λx H1 I1 r1 q1=>ho pins s1 σ H1 x v Q I1 r1 q1)
def opI{f:Value->Value->Sem Value}{C:Int->Int->Prop}{g:Int->Int->Int}
 (rule:∀(i j:Int) (t u:Tok) (s:Shared) (Q:Qv) (E:Qv),C i j->Q (.int (g i j) s.toks) { s with toks:=s.toks+1 }->wpAny (model X.prog X.w) X.A (f (.int i t) (.int j u)) Q E s):
 OpR X f (rI C λi j=>.int (g i j)):=by
 intro pins s σ H x y v u Q I rx ry h;obtain⟨i,j,rfl,rfl,hc,q⟩:=h;obtain⟨t,rfl⟩:=rx;obtain⟨t',rfl⟩:=ry;exact rule i j t t' s _ _ hc ⟨.int (g i j),H,I.tok _,⟨_,rfl⟩,q⟩
def opI0{f:Value->Value->Sem Value}{g:Int->Int->Int}
 (rule:∀(i j:Int) (t u:Tok) (s:Shared) (Q:Qv) (E:Qv),Q (.int (g i j) s.toks) { s with toks:=s.toks+1 }->wpAny (model X.prog X.w) X.A (f (.int i t) (.int j u)) Q E s):
 OpR X f (rI0 λi j=>.int (g i j)):=by
 intro pins s σ H x y v u Q I rx ry h;obtain⟨i,j,rfl,rfl,q⟩:=h;obtain⟨t,rfl⟩:=rx;obtain⟨t',rfl⟩:=ry;exact rule i j t t' s _ _ ⟨.int (g i j),H,I.tok _,⟨_,rfl⟩,q⟩
def yn{f:Value->Value->Sem Value}{g:Int->Int->Bool}
 (rule:∀(i j:Int) (t u:Tok) (s:Shared) (Q:Qv) (E:Qv),Q (.bool (g i j)) s->wpAny (model X.prog X.w) X.A (f (.int i t) (.int j u)) Q E s):
 OpR X f (rI0 λi j=>.bl (g i j)):=by
 intro pins s σ H x y v u Q I rx ry h;obtain⟨i,j,rfl,rfl,q⟩:=h;obtain⟨t,rfl⟩:=rx;obtain⟨t',rfl⟩:=ry;exact rule i j t t' s _ _ ⟨.bl (g i j),H,I,rfl,q⟩
def yp(i j:Int):Prop:=0<=j/\j<=1000000/\i.natAbs<2^64
def CMul(i j:Int):Prop:=(-(2^64)<i/\i<2^64)\/(-(2^64)<j/\j<2^64)
def CMul.ok(h:CMul i j):IntMulOk i j:=by
 rcases h with ⟨h1,h2⟩ |⟨h1,h2⟩
 .exact .of_left (intBits_le_64 h1 h2)
 .exact .of_right (intBits_le_64 h1 h2)
def Kw:OpR X (binaryOp .Add) (rI0 λi j=>.int (i+j)):=opI0 λ_ _ _ _ _ _ _ q=>add_int q
def HU:OpR X (binaryOp .Sub) (rI0 λi j=>.int (i-j)):=opI0 λ_ _ _ _ _ _ _ q=>sub_int q
def Ku:OpR X (binaryOp .Mult) (rI CMul λi j=>.int (i*j)):=opI λ_ _ _ _ _ _ _ hc q=>mul_int q hc.ok
def Fb:OpR X (binaryOp .Mod) (rI (λ_ j=>j≠0) λi j=>.int (i.fmod j)):=opI λ_ _ _ _ _ _ _ hc q=>mod_int' hc q
def Kf:OpR X (binaryOp .Pow) (rI yp λi j=>.int (i^j.toNat)):=opI λ_ _ _ _ _ _ _ hc q=>pow_int_small hc.1 hc.2.1 hc.2.2 q
def unI{f:Value->Sem Value}{g:Int->Int}
 (rule:∀(i:Int) (t:Tok) (s:Shared) (Q:Qv) (E:Qv),Q (.int (g i) s.toks) { s with toks:=s.toks+1 }->wpAny (model X.prog X.w) X.A (f (.int i t)) Q E s):
 UnR X f (rU λi=>.int (g i)):=by
 intro pins s σ H x v Q I rx h;obtain⟨i,rfl,q⟩:=h;obtain⟨t,rfl⟩:=rx;exact rule i t s _ _ ⟨.int (g i),H,I.tok _,⟨_,rfl⟩,q⟩
def IG:UnR X (unaryOp .USub) (rU λi=>.int (-i)):=unI λ_ _ _ _ _ q=>neg_int q
end
section
variable{X:Cx}{a b c:Expr}{ta tb:TE}{pos:Pos}
def tP(I:Inv X pins σ H s)(q:Q (.bl k) H)(e:k=k'):EP X pins σ Q (.bool k') s:=by subst e;exact⟨.bl k,H,I,rfl,q⟩
def Ef:OpR X (compareOp .Lt) (rI0 λi j=>.bl (decide (i<j))):=yn λ_ _ _ _ _ _ _ q=>lt_int q
def MX:OpR X (compareOp .LtE) (rI0 λi j=>.bl (decide (i<=j))):=yn λ_ _ _ _ _ _ _ q=>le_int q
def DU:OpR X (compareOp .Gt) (rI0 λi j=>.bl (decide (j<i))):=yn λ_ _ _ _ _ _ _ q=>gt_int q
def Ew:OpR X (compareOp .GtE) (rI0 λi j=>.bl (decide (j<=i))):=yn λ_ _ _ _ _ _ _ q=>ge_int q
def HJ:OpR X (compareOp .Is) (λx y H Q=>y=.non/\Q (.bl (decide (x=.non))) H):=by
 intro pins s σ H x y v u Q I rx ry h;obtain⟨rfl,q⟩:=h;cases ry;refine is_none_gen (tP I q ?_);cases x <;> first
  |(cases rx;rfl)
  |(obtain⟨t,rfl⟩:=rx;rfl)
def OpR.or(h:OpR X f r)(h':OpR X f r'):OpR X f (λx y H Q=>r x y H Q\/r' x y H Q):=by
 intro pins s σ H x y v u Q I rx ry q;rcases q with q |q
 .exact h pins s σ H x y v u Q I rx ry q
 .exact h' pins s σ H x y v u Q I rx ry q
def AZ(b:Expr)(h:op ≠ .In:=by decide)(h2:op ≠ .NotIn:=by decide):behindInMarks op b=false:=by
 have e1:(op==CmpOp.In)=false:=by cases op <;> first |rfl |exact absurd rfl h
 have e2:(op==CmpOp.NotIn)=false:=by cases op <;> first |rfl |exact absurd rfl h2
 cases b <;> simp [behindInMarks,e1,e2]
def Fp(ho:OpR X (compareOp op) r)(ha:PE X a ta)(hb:PE X b tb)(hm:behindInMarks op b=false):PE X (.Compare a [op] [b] pos) (tOp r ta tb):=by intro pins s σ H Q I h;exact wpAny_Compare1 (BG ha hb I h λv u s2 x y H2 I2 rx ry q=>ho pins s2 σ H2 x y v u Q I2 rx ry q) hm
def Lj(t:TE):TT:=λσ H Q=>t σ H λx H'=>∃k,x=.bl k/\Q k H'
def Fm(ho:OpR X (compareOp op) r)(ha:PE X a ta)(hb:PE X b tb)(hm:behindInMarks op b=false):PT X (.Compare a [op] [b] pos) (Lj (tOp r ta tb)):=by
 intro pins s σ H Q I h;refine wpAny_isTrue_Compare1 (thn (ha pins s σ H _ I h) λv s1 zz=>exA zz λx H1 I1 r1 q1=>thn (hb pins s1 σ H1 _ I1 q1) λu s2 zz=>exA zz λy H2 I2 r2 q2=>
  thn (ho pins s2 σ H2 x y v u _ I2 r1 r2 q2) λc s3 ⟨z,H3,I3,r3,k,e,q3⟩=>?_) hm
 subst e;cases r3;exact OD ⟨H3,I3,q3⟩
def Ck(K:W.Frag)(x:V)(H:Hp)(k:Bool):Prop:=
 match x with
 |.non=>k=false
 |.bl b=>k=b
 |.int i=>k=(i != 0)
 |.str y=>y.length<=sizeLine/\k=((y.length:Int) != 0)
 |.byt y=>y.size<=sizeLine/\k=((y.size:Int) != 0)
 |.ref p=>(∃xs,SqL K H p xs/\k=!xs.isEmpty)\/(∃xs,SqT K H p xs/\k=!xs.isEmpty)\/∃kvs,H p=some (.dK kvs)/\k=!kvs.isEmpty
 |_=>False
def xg(r:KV kvs vs):(!vs.isEmpty)=!kvs.isEmpty:=by cases r <;> rfl
def m9(r:Vals xs its):(!its.toArray.isEmpty)=!xs.isEmpty:=by cases r <;> simp
def g6:(sizeLine:Nat)<2^63:=by rw[sizeLine_eq];decide
def J8:TruR X (λx H Q=>∃k,Ck X.K x H k/\Q k H):=by
 intro pins s σ H x v Q I rx h;obtain⟨k,e,q⟩:=h;have hl:=g6;have hs:sizeLine=16777216:=sizeLine_eq;cases x with
 |non=>cases rx;have e':k=false:=e;subst e';exact truthy_none ⟨H,I,q⟩
 |bl b=>cases rx;have e':k=b:=e;subst e';exact OD ⟨H,I,q⟩
 |int i=>obtain⟨t,rfl⟩:=rx;have e':k=(i != 0):=e;subst e';exact PySem.P.truthy_int ⟨H,I,q⟩
 |str y=>obtain⟨t,rfl⟩:=rx;obtain⟨hy,e'⟩:y.length<=sizeLine/\k=((y.length:Int) != 0):=e;subst e';exact PySem.P.truthy_str (by omega) ⟨H,I.tok _,q⟩
 |byt y=>obtain⟨t,rfl⟩:=rx;obtain⟨hy,e'⟩:y.size<=sizeLine/\k=((y.size:Int) != 0):=e;subst e';exact W.truthy_bytes (by omega) ⟨H,I.tok _,q⟩
 |
  ref p=>
  cases rx;have e':(∃xs,SqL X.K H p xs/\k=!xs.isEmpty)\/(∃xs,SqT X.K H p xs/\k=!xs.isEmpty)\/∃kvs,H p=some (.dK kvs)/\k=!kvs.isEmpty:=e;rcases e' with ⟨xs,hx,e'⟩ |⟨xs,hx,e'⟩ |⟨kvs,hx,e'⟩
  .subst e';obtain⟨its,r,pl,hz⟩:=I.list hx;have a_:=r.length;exact wpAny_truthy_list pl.isList (by simp only[x_];omega) ⟨H,I.tok _,by rw[m9 r];exact q⟩
  .subst e';obtain⟨its,r,pl,hz⟩:=I.tuple hx;have a_:=r.length;exact truthy_tuple pl (by simp only[x_];omega) ⟨H,I.tok _,by rw[m9 r];exact q⟩
  .subst e';obtain⟨hz,hS,vs,r,m⟩:kvs.length<=sizeLine/\(p==sysModules)=false/\∃vs,KV kvs vs/\s.heap.DictOf (bL X.prog X.w) p vs:=I.hok p _ hx;have a_:kvs.length=vs.length:=Qp r;exact wpAny_truthy_dict hS m (by omega) ⟨H,I.tok _,by rw[xg r];exact q⟩
 |_=>exact (show False from e).elim
def Dh(ha:PE X a ta)(he:∀g_,isTrue a X.env g_=(do let v <- g_;standAt a.pos;holding [v] (truthy v))):
 PT X a (λσ H Q=>ta σ H λx H'=>∃k,Ck X.K x H' k/\Q k H'):=by
 intro pins s σ H Q I h;exact isTrue_plain (thn (ha pins s σ H _ I h) λv s1 zz=>exA zz λx H1 I1 r1 q1=>J8 pins s1 σ H1 x v Q I1 r1 q1) (he _)
def fS(r:Vals [x] us):∃u,us=[u]/\RelV x u:=by
 cases r with
 |cons r1 r2=>cases r2;exact⟨_,rfl,r1⟩
def yD(r:Vals [x,y] us):∃u w',us=[u,w']/\RelV x u/\RelV y w':=by
 cases r with
 |
  cons r1 r2=>
  cases r2 with
  |cons r3 r4=>cases r4;exact⟨_,_,rfl,r1,r3⟩
def Bj:CallR X (.builtin "abs") (λxs H Q=>∃i,xs=[.int i]/\Q (.int (if i<0 then -i else i)) H):=by intro pins s σ H xs us Q I r h;obtain⟨i,rfl,q⟩:=h;obtain⟨u,rfl,t,rfl⟩:=fS r;exact call_abs_int λu tk=>⟨.int (if i<0 then -i else i),H,I.tok _,⟨_,rfl⟩,q⟩
def zW(hc:X.calm=true):CallR X (.builtin "min") (λxs H Q=>∃i j,xs=[.int i,.int j]/\Q (.int (if j<i then j else i)) H):=by
 intro pins s σ H xs us Q I r h;obtain⟨i,j,rfl,q⟩:=h;obtain⟨u,w',rfl,⟨t,rfl⟩,⟨t',rfl⟩⟩:=yD r;refine min_two_ints (I.ok.hd hc) λh' tk k=>⟨_,H,I.kept k,?_,q⟩;by_cases hj:j<i
 .rw[if_pos hj,if_pos hj];exact⟨_,rfl⟩
 .rw[if_neg hj,if_neg hj];exact⟨_,rfl⟩
def zi:CallR X (.type "int") (λxs H Q=>(∃i,xs=[.int i]/\Q (.int i) H)\/∃k,xs=[.bl k]/\Q (.int (if k then 1 else 0)) H):=by
 intro pins s σ H xs us Q I r h;rcases h with ⟨i,rfl,q⟩ |⟨k,rfl,q⟩
 .obtain⟨u,rfl,t,rfl⟩:=fS r;exact call_int_int ⟨.int i,H,I,⟨_,rfl⟩,q⟩
 .obtain⟨u,rfl,r1⟩:=fS r;cases r1;exact call_int_bool ⟨.int (if k then 1 else 0),H,I.tok _,⟨_,rfl⟩,q⟩
end
structure ObjM(h:Heap)(x dx C:Addr)(mA:Qt):Prop where
 obj:h.get? x=some (W.instObj C dx)
 ns:h.Ns1 dx mA
 ne:dx≠x
def zK{h:Heap}{dx:Addr}{mA:Qt}(n:h.Ns1 dx mA):∃od,h.get? dx=some od/\∀name,W.lookIn name od=some (mA name):=by
 obtain⟨o,es,ep,ho,hd,hk,_,hm⟩:=n;refine⟨o,ho,λname=>?_⟩;have e:=hm name;unfold nsFind findBy at e;rw[<- Array.find?_toList] at e;unfold W.lookIn;rw[hd];dsimp only;split
 .rename_i y q;rw[q] at e;exact NR some e
 .rename_i q;rw[q] at e;have a:es.toList.any (·.refKey)=false:=by rw[List.any_eq_false];intro y hy;obtain⟨z,t,hkey⟩:=hk y (Array.mem_toList_iff.mp hy);simp [DictEntry.refKey,hkey]
  have a':¬ es.toList.any (·.refKey)=true:=by rw[a];exact u_
  rw[if_neg a'];exact NR some e
def ObjM.look(I:ObjM h x dx C mA):∃od,W.InstAt h x (W.instObj C dx) C (some od)/\∀name,W.lookIn name od=some (mA name):=
 let ⟨od,ho,hl⟩:=zK I.ns
 ⟨od,⟨I.obj,rfl,rfl,ho⟩,hl⟩
def RelO.some_of(r:RelO (some v) o):∃u,o=some u/\RelV v u:=by
 cases o with
 |none=>exact (show False from r).elim
 |some u=>exact⟨u,rfl,r⟩
section
variable{P:Program}{w:World}{H:Hp}{h:Heap}{a C dx:Addr}{fs:List (Str×V)}
def Gh(hok:HOk P w H h)(e:H a=some (.ins C dx fs)):∃mA,ObjM h a dx C mA/\(∀f,RelO (fs.lookup f) (mA f))/\PySem.Within mA (fs.map (·.1))/\fs.length<=1000/\H dx=some (.own a):=by obtain⟨d,z,ne,ob,mA,n,r,q⟩:=(show ObjOk P w H h a (.ins C dx fs) from hok a _ e);exact⟨mA,⟨ob,n,ne⟩,r,q,z,d⟩
end
structure Cls(K:W.Frag)(C:Addr):Prop where
 pg:W.plainGet K C Str.empty=true
 hd:W.hasDictIn K C=true
 po:W.plainOver K C=true
 sa:W.findIn K (.ref C) "__setattr__"=some (some (.builtin "object.__setattr__"))
def Cls.get{K:W.Frag}{C:Addr}(c:Cls K C)(f:Str):W.plainGet K C f=true:=c.pg
section
variable{H:Hp}
inductive TyOf(K:W.Frag)(H:Hp):V->Value->Prop where
 |non:TyOf K H .non (.type "NoneType")
 |bl (x:Bool):TyOf K H (.bl x) (.type "bool")
 |int (i:Int):TyOf K H (.int i) (.type "int")
 |str (x:Str):TyOf K H (.str x) (.type "str")
 |flt (x:UInt64):TyOf K H (.flt x) (.type "float")
 |lst {a:Addr}{xs:List V} (e:H a=some (.lst xs)):TyOf K H (.ref a) (.type "list")
 |frz {a:Addr}{o:Obj}{xs:List V} (e:H a=some (.frz o (.lst xs))):TyOf K H (.ref a) (.type "list")
 |tup {a:Addr}{xs:List V} (e:H a=some (.tup xs)):TyOf K H (.ref a) (.type "tuple")
 |dK {a:Addr}{kvs:List (Key×V)} (e:H a=some (.dK kvs)):TyOf K H (.ref a) (.type "dict")
 |dT {a:Addr}{kvs:List (List Key×V)} (e:H a=some (.dT kvs)):TyOf K H (.ref a) (.type "dict")
 |ins {a C dx:Addr}{fs:List (Str×V)} (e:H a=some (.ins C dx fs)) (cl:Cls K C) (ha:W.findIn K (.ref C) "__class__"=some (some (.builtin "object.__class__")))
  (hn:W.specialIn K (.builtin "object.__class__") "__get__"=some (some (.builtin "getset_descriptor.__get__"))) (htk:W.takesIn K (.builtin "object.__class__")=some true)
  (hm:W.mroIn K C (.type "object")=some true):TyOf K H (.ref a) (.ref C)
end
structure Room(k:Nat)(A:Around):Prop where
 hd:A.handled=none
 dp:A.depth+3*k+5<recursionLimit
 un:A.units+16*k+200<cLine
def Room.mono(r:Room k A)(h:j<=k):Room j A:=⟨r.hd,by have:=r.dp;omega,by have:=r.un;omega⟩
def Room.deeper(r:Room (k+1) A)(env:Env):Room k (A.deeper env):=
 ⟨r.hd,by have:=r.dp;show A.depth+1+3*k+5<_;omega,by have:=r.un;show A.units+3+16*k+200<_;omega⟩
def Room.depth(r:Room k A):A.depth<recursionLimit:=by have:=r.dp;omega
def Room.units(r:Room k A):A.units+64<cLine:=by have:=r.un;omega
def xq:TA:=λ_ H Q=>Q [] H
def qJ(ta:TE)(tr:TA):TA:=λσ H Q=>ta σ H λx H1=>tr σ H1 λxs H2=>Q (x::xs) H2
section
variable{X:Cx}{e:Expr}{es:List Expr}{te:TE}{t:TA}{pos:Pos}
def tf:PA X [] xq:=λ_ _ _ _ H Q I h=>Pa ⟨[],H,I,.nil,h⟩
def kU(ha:PE X e te)(hr:PA X es t)(hs:starEach (e::es) X.env=(false,eval e X.env)::starEach es X.env):PA X (e::es) (qJ te t):=by intro pos pins s σ H Q I h;rw[hs];show wpAny _ _ (spliced ((false,eval e X.env)::backTo pos (starEach es X.env))) _ _ s;refine OO (thn (ha pins s σ H _ I h) λu s1 zz=>exA zz λx H1 I1 r1 q1=>?_);exact thn (hr pos pins s1 σ H1 _ I1 q1) λus s2 zz=>exA zz λxs H2 I2 r2 q2=>⟨x::xs,H2,I2,.cons r1 r2,q2⟩
def tTup(t:TA):TE:=λσ H Q=>t σ H λxs H1=>xs.length<=sizeLine/\∀p,H1 p=none->Q (.ref p) (upd H1 p (.tup xs))
def tLst(t:TA):TE:=λσ H Q=>t σ H λxs H1=>xs.length<=sizeLine/\∀p,H1 p=none->Q (.ref p) (upd H1 p (.lst xs))
def G1{x1}(h:PA X es t):PE X (.Tuple es x1 pos) (tTup t):=by intro pins s σ H Q I hq;refine wpAny_Tuple_spliced (thn (h pos pins s σ H _ I hq) λus s1 ⟨xs,H1,I1,r,z,q⟩=>⟨by rw[<- r.length];exact z,?_⟩);have hf:H1 s1.heap.objs.size=none:=I1.hok.fresh (r_ _);refine⟨.ref s1.heap.objs.size,upd H1 s1.heap.objs.size (.tup xs),I1.laid (t':=s1.toks) (λb u e=>p_ _ e) (r_ _) ?_,rfl,q _ hf⟩;exact⟨z,us,r,⟨_,Em _ rfl,rfl,_,rfl⟩⟩
def yN(h:PA X es t):PE X (.List es pos) (tLst t):=by intro pins s σ H Q I hq;refine wpAny_List_spliced (thn (h pos pins s σ H _ I hq) λus s1 ⟨xs,H1,I1,r,z,q⟩=>⟨by rw[<- r.length];exact z,?_⟩);have hf:H1 s1.heap.objs.size=none:=I1.hok.fresh (r_ _);refine⟨.ref s1.heap.objs.size,upd H1 s1.heap.objs.size (.lst xs),I1.laid (t':=s1.toks) (λb u e=>p_ _ e) (r_ _) ?_,rfl,q _ hf⟩;exact⟨z,us,0,r,Em _ rfl⟩
end
abbrev Sp:=List V->Hp->VK->XK->Prop
abbrev CXT:=List Env->Hp->Shared->XK->Value->Shared->Prop
structure Env0(P:Program)(w:World)(K:W.Frag)(mg:Qt)(base:Heap)(A:Around)(outer:List Env)(s:Shared)(H:Hp):Prop where
 frames:A.frames=some outer
 mod:Mod K mg base
 bs:∀b o,base.get? b=some o->s.heap.get? b=some o/\H b=none
 bsz:base.objs.size<=s.heap.objs.size
 funs:s.heap.FunFrames base outer
 frf:∀b∈frs outer,H b=none
 hok:HOk P w H s.heap
 bare:AllBare s.gens
def CE(outer:List Env)(P:Program)(w:World)(H:Hp)(s:Shared)(Q:VK)(u:Value)(s':Shared):Prop:=
 ∃v H',s'.os=s.os/\AllBare s'.gens/\Un (frs outer) [] H H' s.heap s'.heap/\HOk P w H' s'.heap/\RelV v u/\Q v H'
def CR(CX:CXT)(outer:List Env)(P:Program)(w:World)(H:Hp)(s:Shared)(Q:VK)(E:XK)(r:Result)(s':Shared):Prop:=
 match r with
 |.ok (.ret u)=>CE outer P w H s Q u s'
 |.ok _=>False
 |.error e=>CX outer H s E e s'
structure FnOk(P:Program)(w:World)(K:W.Frag)(mg:Qt)(base:Heap)(CX:CXT)(k:Nat)(f:Addr)(fd:FuncData)(ps:List Str)(sp:Sp):Prop where
 len:∀vs H Q E,sp vs H Q E->vs.length=ps.length
 run:∀(A:Around) (outer:List Env) (s:Shared) (H:Hp) (args:Args) (us:List Value) (vs:List V) (Q:VK) (E:XK),Room k A->Env0 P w K mg base A outer s H->BindsTo s fd args (ps.zip us)->Vals vs us->sp vs H Q E->
  codeAny (model P w) A (.call (.ref f) args) (CR CX outer P w H s Q E) s
def FnOk.imp{P:Program}{w:World}{K:W.Frag}{mg:Qt}{base:Heap}{CX:CXT}{k:Nat}{f:Addr}{fd:FuncData}{ps:List Str}{sp sp':Sp}(F:FnOk P w K mg base CX k f fd ps sp)
 (h:∀vs H Q E,sp' vs H Q E->sp vs H Q E):FnOk P w K mg base CX k f fd ps sp':=
 ⟨λvs H Q E q=>F.len vs H Q E (h _ _ _ _ q),λA outer s H args us vs Q E hr he hb hv hs=>F.run A outer s H args us vs Q E hr he hb hv (h _ _ _ _ hs)⟩
section
variable{X:Cx}{pins:Qu}{σ:St}{H:Hp}{s s':Shared}
def Inv.env0(I:Inv X pins σ H s):Env0 X.prog X.w X.K X.mg X.base X.A X.stack s H:=
 ⟨I.ok.frames,I.ok.mod,I.bs,NG I.ok.bsz I.sz,I.stack,I.stkFree,I.hok,I.bare⟩
def Inv.after(I:Inv X pins σ H s)(h:CE X.stack X.prog X.w H s Q u s'):EP X pins σ Q u s':=by obtain⟨v,H',os,bare,un,hok,r,q⟩:=h;obtain⟨hh,g,d,t,os'⟩:=s';obtain rfl:os'=s.os:=os;exact⟨v,H',I.call (h':=hh) (g':=g) (d':=d) (t':=t) (ch:=[]) un hok bare (λb z=>absurd z (by simp)),r,q⟩
end
def Binds(K:W.Frag)(fd:FuncData)(ps:List Str)(ds:List Value):Prop:=
 ∀(s:Shared) (us:List Value),K.In s.heap->(us++ds).length=ps.length->BindsTo s fd ⟨us,[]⟩ (ps.zip (us++ds))
def Binds.all{K:W.Frag}{fd:FuncData}{ps:List Str}(h:∀us:List Value,us.length=ps.length->bindArgs fd ⟨us,[]⟩=pure (ps.zip us)):Binds K fd ps []:=λs us _ hl=>by rw[NP] at hl ⊢;exact .of_eq (h us hl)
def sx(CX:CXT)(X:Cx)(E:XK):Prop:=∀(pins:Qu) (σ:St) (H:Hp) (s:Shared) (e:Value) (s':Shared),Inv X pins σ H s->CX X.stack H s E e s'->X.xe e s'
structure FnScope(N P:List Str)(sc:Scope):Prop where
 kind:sc.kind=.function
 co:sc.isCoroutine=false
 gen:sc.isGenerator=false
 nd:N.Nodup
 pre:N.take P.length=P
 par:∀x∈P,sc.names.lookup x=some .local\/sc.names.lookup x=some .cell
 nofree:∀y∈sc.names,y.2 ≠ .free
theorem pK{kindOf:Str->Option NameKind}{x:Str}:∀{binds:List (Str×Value)}{m:Qt},(∀v,(x,v)∉binds)->bindL kindOf binds m x=m x
 | [],_,_=>rfl
 |
  (n,v)::r,m,h=>by
  unfold bindL;rw[pK λw hw=>h w (q_ _ hw)];split
  .have:x≠n:=by rintro rfl;exact h v s_
   simp [this]
  .rfl
theorem pL{kindOf:Str->Option NameKind}{x:Str}:∀{binds:List (Str×Value)}{m:Qt},(∀v,(x,v)∉binds)->bindC kindOf binds m x=m x
 | [],_,_=>rfl
 |
  (n,v)::r,m,h=>by
  unfold bindC;rw[pL λw hw=>h w (q_ _ hw)];split
  .rfl
  .have:x≠n:=by rintro rfl;exact h v s_
   simp [this]
theorem pF{kindOf:Str->Option NameKind}{x:Str}{v:Value}:∀{P:List Str}{vs:List Value}{i:Nat}{m:Qt},P.Nodup->P[i]?=some x->vs[i]?=some v->kindOf x=some .local->
 bindL kindOf (P.zip vs) m x=some v
 | [],_,_,_,_,h,_,_=>by simp at h
 |_::_,[],_,_,_,_,h,_=>by simp at h
 |
  p::P,w::vs,0,m,nd,h1,h2,hk=>by
  simp at h1 h2;subst h1;subst h2;show bindL kindOf ((p,w)::P.zip vs) m p=_;unfold bindL;rw[pK λv hv=>(O7.mp nd).1 (Qb hv).1,if_pos hk];simp
 |
  p::P,w::vs,i+1,m,nd,h1,h2,hk=>by
  show bindL kindOf ((p,w)::P.zip vs) m x=_;unfold bindL;exact pF (i:=i) (O7.mp nd).2 (by simpa using h1) (by simpa using h2) hk
theorem pj{kindOf:Str->Option NameKind}{x:Str}{v:Value}:∀{P:List Str}{vs:List Value}{i:Nat}{m:Qt},P.Nodup->P[i]?=some x->vs[i]?=some v->kindOf x≠some .local->
 bindC kindOf (P.zip vs) m x=some v
 | [],_,_,_,_,h,_,_=>by simp at h
 |_::_,[],_,_,_,_,h,_=>by simp at h
 |
  p::P,w::vs,0,m,nd,h1,h2,hk=>by
  simp at h1 h2;subst h1;subst h2;show bindC kindOf ((p,w)::P.zip vs) m p=_;unfold bindC;rw[pL λv hv=>(O7.mp nd).1 (Qb hv).1,if_neg hk];simp
 |
  p::P,w::vs,i+1,m,nd,h1,h2,hk=>by
  show bindC kindOf ((p,w)::P.zip vs) m x=_;unfold bindC;exact pj (i:=i) (O7.mp nd).2 (by simpa using h1) (by simpa using h2) hk
noncomputable def df (N:List Str) (vs:List V):St:=vs.map some++List.replicate (N.length-vs.length) none
noncomputable def eE (CX:CXT) (P:Program) (w:World) (K:W.Frag) (mg:Qt) (base:Heap) (N:List Str) (qual:Str) (scope:Scope) (f:Addr) (cd:Value) (A:Around) (outer:List Env) (s:Shared) (H:Hp) (E:XK):Cx where
 prog:=P
 w:=w
 K:=K
 mg:=mg
 base:=base
 A:=A.deeper (envOfC qual scope s.heap.objs.size f cd)
 N:=N
 s₀:=s
 H₀:=H
 env:=envOfC qual scope s.heap.objs.size f cd
 outer:=outer
 stack:=envOfC qual scope s.heap.objs.size f cd::outer
 ex:=[]
 calm:=true
 fn:=λ_=>true
 pn:=[]
 xe:=λe s'=>wpAny (model P w) (A.deeper (envOfC qual scope s.heap.objs.size f cd)) (leaving (envOfC qual scope s.heap.objs.size f cd) e) (λ_ s''=>CX outer H s E e s'') (λe' s''=>CX outer H s E e' s'') s'
def si{sc:Scope}{n:Nat}{x:Str}(h:sc.names.lookup x=some .cell):∃c,(cellsFrom n sc.names []).lookup x=some c:=by have q:=W.cellsFrom_some sc.names n [] (.inl h);exact Og.mp q
def pw{CX:CXT}{P:Program}{w:World}{K:W.Frag}{mg:Qt}{base:Heap}{N ps:List Str}{qual:Str}{scope:Scope}{f:Addr}{cd:Value}{A:Around}{outer:List Env}{s s1:Shared}{H:Hp}{E:XK}{us:List Value}{vs:List V}
 (S:FnScope N ps scope) (hd:A.handled=none) (e0:Env0 P w K mg base A outer s H) (hl:vs.length=ps.length) (r:Vals vs us)
 (x:InCallC s s.heap.objs.size (bindL (envOfC qual scope s.heap.objs.size f cd).kindOf (ps.zip us) λ_=>none) (cellsFrom (s.heap.objs.size+1) scope.names []) (bindC (envOfC qual scope s.heap.objs.size f cd).kindOf (ps.zip us) λ_=>none) s1):
 Inv (eE CX P w K mg base N qual scope f cd A outer s H E) [] (df N vs) H s1:=by
 have hpl:ps.length<=N.length:=by have:=NR List.length S.pre;rw[N4] at this;omega
 obtain⟨h1,tk,rfl,hk⟩:=x.done;have noA:∀b:Addr,b∉(eE CX P w K mg base N qual scope f cd A outer s H E).ex:=λb z=>absurd (show b∈([]:List Addr) from z) (by simp);refine⟨⟨e0.mod,S.kind,rfl,rfl,r_ _,λy z c h1 h2=>?_,λy hy=>?_,λy c _ h=>?_,λ_=>hd,Around.frames_deeper e0.frames,.inr ⟨rfl,rfl⟩,λb z=>absurd z (noA b),e0.bs,e0.bsz,λb _ _=>noA b,λb z=>absurd z (noA b),e0.funs,e0.frf⟩,
  rfl,e0.bare,Un.kept hk,⟨_,x.toInCall.ns,λi y v h1 h2 h3=>?_⟩,λy c h=>⟨_,x.cell y c h⟩,e0.hok.fresh (r_ _),λy c h=>?_,λp hp=>absurd (show p∈([]:Qu) from hp) (by simp),e0.hok.kept hk,?_⟩
 .exact name_of_addr x.apart (Oq h1) (Oq h2)
 .have hy:scope.names.lookup y=some .cell\/scope.names.lookup y=some .free:=hy;rcases hy with hy |hy
  .exact si hy
  .exact absurd rfl (S.nofree _ (Oq hy))
 .exact Pd (x.above y c (Oq h))
 .have hi:i<vs.length:=by
   unfold df at h2;by_cases hi:i<vs.length
   .exact hi
   .rw[OZ (by simpa using hi)] at h2;rw[Ol] at h2;split at h2 <;> cases h2
  have ha:vs[i]?=some v:=by
   unfold df at h2;rw[NW (by simpa using hi),NB] at h2;cases e:vs[i]? with
   |none=>rw[e] at h2;cases h2
   |some a=>rw[e] at h2;cases h2;rfl
  obtain⟨u,hu,rv⟩:=r.get ha;have hp:ps[i]?=some y:=by rw[<- S.pre,List.getElem?_take_of_lt (by omega)];exact h1
  have ndP:ps.Nodup:=by rw[<- S.pre];exact S.nd.sublist (List.take_sublist _ _)
  refine⟨u,rv,?_⟩;rcases S.par y (O1 hp) with k |k
  .exact .inl ⟨k,pF ndP hp hu k⟩
  .obtain⟨c,e⟩:=si (n:=s.heap.objs.size+1) k;refine .inr ⟨.inl k,c,e,?_⟩;have q:=x.cell y c e;rw[pj ndP hp hu (by show scope.names.lookup y≠_;rw[k];decide)] at q;exact q
 .exact e0.hok.fresh (Pd (x.above y c (Oq h)))
 .unfold df;show _=N.length;rw[G_,o_,N7];omega
def Et{CX:CXT}{P:Program}{w:World}{K:W.Frag}{mg:Qt}{base:Heap}{k:Nat}{f:Addr}{name qual:Str}{params:Arguments}{body:List Stmt}{scope:Scope}{dV kV doc pm cdv ct oc:Value}{an od:Option Addr}
 {osl:Array (Option Value)}{N ps:List Str}{sp:Sp} (lk:K.lookup f=some ⟨oc,od,.func (W.fnOf name qual params body scope dV kV doc pm an cdv ct),osl⟩) (j_:W.codeIn K cdv qual=true) (S:FnScope N ps scope)
 (len:∀vs H Q E,sp vs H Q E->vs.length=ps.length)
 (b_:∀(A:Around) (outer:List Env) (s:Shared) (H:Hp) (vs:List V) (Q:VK) (E:XK),Room k (A.deeper (envOfC qual scope s.heap.objs.size f cdv))->sp vs H Q E->
  ∃t,PSs (eE CX P w K mg base N qual scope f cdv A outer s H E) body t/\t { nx:=λ_ H'=>Q .non H',rt:=Q } (df N vs) H):
 FnOk P w K mg base CX (k+1) f (W.fnOf name qual params body scope dV kV doc pm an cdv ct) ps sp:=by
 refine⟨len,λA outer s H args us vs Q E hr e0 hb r hsp=>?_⟩;have hl:=len _ _ _ _ hsp;have KX:K.In s.heap:=e0.mod.kin.keeps λb o e=>(e0.bs b o e).1;have lim:s.heap.NoLimit:=e0.mod.nolimit.keeps λb o e=>(e0.bs b o e).1;have hkind:∀y∈ps.zip us,scope.names.lookup y.1=some .local\/(scope.names.lookup y.1=some .cell/\((cellsFrom (s.heap.objs.size+1) scope.names []).lookup y.1).isSome=true):=λ⟨n,v⟩ hy=>by
  rcases S.par n (Qb hy).1 with q |q
  .exact .inl q
  .exact .inr ⟨q,W.cellsFrom_some _ _ _ (.inl q)⟩
 refine codeAny_call_function hr.depth (KX _ _ lk) rfl S.co S.gen rfl (W.codeRec_of KX j_) (hb _ _ _ _ ?_);refine wpAny_newFunctionEnv_cells S.kind hkind λenv he s1 x=>?_;subst he;refine⟨lim.keeps x.toInCall.keep,codeAny_func ?_⟩;obtain⟨t,ht,hq⟩:=b_ A outer s H vs Q E (hr.deeper _) hsp;have I:Inv (eE CX P w K mg base N qual scope f cdv A outer s H E) [] (df N vs) H s1:=pw S hr.hd e0 hl r x;refine ND (ht [] s1 (df N vs) H _ I hq) (λfl s' hs=>?_) λe s' hs=>hs;have f_:∀{σ':St}{H':Hp}{v:V}{u:Value},Inv (eE CX P w K mg base N qual scope f cdv A outer s H E) [] σ' H' s'->RelV v u->Q v H'->CE outer P w H s Q u s':=
  λ{σ' H' v u} J rv q=>⟨v,H',J.os,J.bare,J.base,J.hok,rv,q⟩
 cases fl with
 |ret u=>obtain⟨v,σ',H',J,rv,q⟩:=hs;exact f_ J rv q
 |next=>obtain⟨σ',H',J,q⟩:=hs;exact f_ (v:=V.non) (u:=Value.none) J rfl q
 |brk=>obtain⟨_,_,_,q⟩:=hs;exact False.elim q
 |cont=>obtain⟨_,_,_,q⟩:=hs;exact False.elim q
section
variable{X:Cx}{x:Str}{p pos:Pos}{e:Expr}{es:List Expr}{t:TA}{id T:String}{r:List V->Hp->VK->Prop}
def tCB(r:List V->Hp->VK->Prop)(t:TA):TE:=λσ H Q=>t σ H λvs H1=>r vs H1 Q
def DH(hc:CallR X (.builtin id) r)(hg:Gl X x)(hm:X.mg x=none)(hv:bootBuiltins x=some (.builtin id))(ha:PA X (e::es) t)(hn:x ≠ "__name__")(hdb:(x==("__debug__" : Str))=false)
 (he:starEach (e::es) X.env=(false,eval e X.env)::starEach es X.env) (hpl:(backTo pos (starEach es X.env)).any (·.1)=false):PE X (.Call (.Name x p) (e::es) [] pos) (tCB r t):=by
 intro pins s σ H Q I h;refine NX (cX I hg hm hv ?_ hn hdb);exact PyProof.Rows.callWith_builtin1 (thn (ha pos pins s σ H _ I h) λus s1 zz=>exA zz λvs H1 I1 r1 q1=>hc pins s1 σ H1 vs us Q I1 r1 q1) he hpl
def As(hc:CallR X (.type T) r)(hg:Gl X x)(hm:X.mg x=none)(hv:bootBuiltins x=some (.type T))(ha:PA X (e::es) t)(hn:x ≠ "__name__")(hdb:(x==("__debug__" : Str))=false)
 (he:starEach (e::es) X.env=(false,eval e X.env)::starEach es X.env) (hpl:(backTo pos (starEach es X.env)).any (·.1)=false):PE X (.Call (.Name x p) (e::es) [] pos) (tCB r t):=by
 intro pins s σ H Q I h;refine NX (cX I hg hm hv ?_ hn hdb);exact NL (thn (ha pos pins s σ H _ I h) λus s1 zz=>exA zz λvs H1 I1 r1 q1=>hc pins s1 σ H1 vs us Q I1 r1 q1) he hpl
def yb(hc:CallR X (.type T) r)(hg:Gl X x)(hm:X.mg x=none)(hv:bootBuiltins x=some (.type T))(hn:x ≠ "__name__")(hdb:(x==("__debug__" : Str))=false):
 PE X (.Call (.Name x p) [] [] pos) (tCB r xq):=by
 intro pins s σ H Q I h;refine NX (cX I hg hm hv ?_ hn hdb);exact PyProof.Rows.callWith_type0 (hc pins s σ H [] [] Q I .nil h)
end
end L2
namespace HT
open PySem PyProof.Rows
section
variable{prog:Program}{w:World}{A:Around}{E:Qv}{s:Shared}
def cat_tup(ht:IsTup s.heap t vs.toArray)(hb:IsTup s.heap b ws.toArray)(hv:vs≠[])
 (h1:ws=[]->Q (.ref t) s) (h2:ws≠[]->Q (.ref s.heap.objs.size) { s with heap:=s.heap.push { cls:=.type "tuple",data:=.seq (vs++ws).toArray } })
 (hsz:vs.length+ws.length<=sizeLine):wpAny (model prog w) A (binaryOp .Add (.ref t) (.ref b)) Q E s:=by
 obtain⟨⟨cls,dd,data,sl⟩,ho,hc,n,hd⟩:=id ht;obtain⟨⟨cls2,dd2,data2,sl2⟩,ho2,hc2,n2,hd2⟩:=id hb;simp only at hc hd hc2 hd2;subst hc hd hc2 hd2;have e:vs.toArray++ws.toArray=(vs++ws).toArray:=by simp
 by_cases hw:ws=[]
 .exact concat_meets ⟨_,ho,rfl⟩ ⟨_,ho2,rfl⟩ noFill_tuple_add seq_tuple_add PV PM (PH _ _)
   (tuple_addW1 t b vs.toArray ws.toArray n n2 dd dd2 sl sl2 (by simpa using hv) (by simp [hw])) ⟨ho,ho2,h1 hw⟩
 .refine concat_meets ⟨_,ho,rfl⟩ ⟨_,ho2,rfl⟩ noFill_tuple_add seq_tuple_add PV PM (PH _ _)
   (tuple_addW2 t b vs.toArray ws.toArray n n2 dd dd2 sl sl2 (by simpa using hv) (by simpa using hw) (by rw[x_,x_];exact hsz)) ⟨ho,ho2,?_⟩
  rw[e];exact h2 hw
noncomputable def sIx (n d:Nat):Option Int->Nat
 |none=>d
 |some v=>if v<0 then (v+(n:Int)).toNat else min v.toNat n
def sIx_none(n d:Nat):sIx n d none=d:=rfl
def sIx_nat(n d k:Nat):sIx n d (some (k:Int))=min k n:=by show (if (k:Int)<0 then ((k:Int)+(n:Int)).toNat else min (k:Int).toNat n)=min k n;rw[if_neg (by omega),NS]
def Km(n d:Nat)(hd:d<=n)(o:Option Int):sIx n d o<=n:=by
 cases o with
 |none=>exact hd
 |
  some v=>
  show (if v<0 then (v+(n:Int)).toNat else min v.toNat n)<=n;by_cases hv:v<0
  .rw[if_pos hv];omega
  .rw[if_neg hv];exact Nat.min_le_right _ _
def vc(v:Int)(n d:Nat):(if v<0 then max (v+(n:Int)) 0 else min v (n:Int))=((sIx n d (some v):Nat):Int):=by
 show (if v<0 then max (v+(n:Int)) 0 else min v (n:Int))=(((if v<0 then (v+(n:Int)).toNat else min v.toNat n):Nat):Int);by_cases hv:v<0
 .simp only[if_pos hv];omega
 .simp only[if_neg hv];omega
def xb(lo hi:Option Int)(n:Nat):Builtin.Slice.sliceAdjust lo hi 1 (n:Int)=(((sIx n 0 lo:Nat):Int),((sIx n n hi:Nat):Int)):=by
 have h1:¬ ((1:Int)<0):=by omega
 unfold Builtin.Slice.sliceAdjust;simp only[h1,Pl];refine Prod.ext ?_ ?_
 .cases lo with
  |none=>rfl
  |some v=>exact vc v n 0
 .cases hi with
  |none=>rfl
  |some v=>exact vc v n n
def wR(i j:Nat):Builtin.Slice.slicePlaces (i:Int) (j:Int) 1=j-i:=by
 unfold Builtin.Slice.slicePlaces;have h1:(1:Int)>0:=by omega
 simp only[h1,OW,Int.ediv_one];split <;> omega
def mJ(p:IsPart v o)(h:Q o s):wpAny (model prog w) A (Builtin.Slice.slicePartIndex v) Q E s:=by
 cases p with
 |none=>exact slicePart_none h
 |int i t=>exact slicePart_int h
def my{sl:Addr}{vl vu:Value}{lo hi:Option Int}{n:Nat}{Q:Int×Int×Nat->Shared->Prop}(hs:s.heap.IsSliceOf sl vl vu .none)(pl:IsPart vl lo)(pu:IsPart vu hi)
 (h:Q (((sIx n 0 lo:Nat):Int),1,sIx n n hi-sIx n 0 lo) s):wpAny (model prog w) A (Builtin.Slice.sliceApplied (.ref sl) (pure (n:Int))) Q E s:=by
 obtain⟨os,hos,hcs,hds⟩:=id hs;unfold Builtin.Slice.sliceApplied Builtin.Slice.sliceFields;refine n_ (n_ (N_ hos hds (x:=vl) rfl (n_ (N_ hos hds (x:=vu) rfl (n_ (N_ hos hds (x:=.none) rfl (v_ ?_)))))));refine n_ (slicePart_none ?_);show wpAny _ _ (if ((1:Int)==0)=true then _ else _) _ _ s;rw[if_neg (by decide)];refine n_ (mJ pl (n_ (mJ pu (n_ (v_ ?_)))));show wpAny _ _ (match Builtin.Slice.sliceAdjust lo hi 1 (n:Int) with |(lo,hi)=>pure (lo,(1:Int),Builtin.Slice.slicePlaces lo hi 1)) _ _ s;rw[xb lo hi n];show wpAny _ _ (pure (((sIx n 0 lo:Nat):Int),(1:Int),Builtin.Slice.slicePlaces ((sIx n 0 lo:Nat):Int) ((sIx n n hi:Nat):Int) 1)) _ _ s;rw[wR];exact v_ h
def CC(xs:Array Value)(i k:Nat):((List.range k).filterMap λ(m:Nat)=>xs[((i:Int)+(m:Int)*1).toNat]?).toArray=((xs.toList.drop i).take k).toArray:=by
 have e:(λ(m:Nat)=>xs[((i:Int)+(m:Int)*1).toNat]?)=λm=>xs[i+m]?:=by
  funext m;have:((i:Int)+(m:Int)*1).toNat=i+m:=by omega
  rw[this]
 rw[e]
 have:=pick_run xs i k
 rw[List.filterMap_map] at this;have e2:((λx=>xs[x]?) ∘ λx=>i+x)=λm=>xs[i+m]?:=rfl;rw[e2] at this;rw[this]
def getItem_tuple_cut{t sl:Addr}{items:Array Value}{vl vu:Value}{lo hi:Option Int}{Q:Qv}(ht:IsTup s.heap t items)(hs:s.heap.IsSliceOf sl vl vu .none)(pl:IsPart vl lo)(pu:IsPart vu hi)
 (hw:¬ (sIx items.size 0 lo=0/\sIx items.size items.size hi=items.size))
 (h:Q (.ref s.heap.objs.size) { s with heap:=s.heap.push { cls:=.type "tuple",data:=.seq ((items.toList.drop (sIx items.size 0 lo)).take (sIx items.size items.size hi-sIx items.size 0 lo)).toArray } })
 (hsz:items.size<=sizeLine):wpAny (model prog w) A (getItem (.ref t) (.ref sl)) Q E s:=by
 have htake:sizeOk (.seq ((items.toList.drop (sIx items.size 0 lo)).take (sIx items.size items.size hi-sIx items.size 0 lo)).toArray):=by show ((items.toList.drop (sIx items.size 0 lo)).take (sIx items.size items.size hi-sIx items.size 0 lo)).toArray.size<=sizeLine;rw[x_,N4,O3,NZ];omega
 have hj:sIx items.size items.size hi<=items.size:=Km _ _ (r_ _) hi;obtain⟨os,hos,hcs,hds⟩:=id hs;have hTs:s.TypeIs (.ref sl) "slice":=⟨os,hos,hcs⟩;unfold getItem;try with_reducible refine Ot ?_
 first |refine n_ (v_ ?_) |skip
 refine n_ (wpAny_sequenceKey ht.typeIs (by decide) ?_);refine n_ (OG (name:=Str.ofString "__getitem__") ht.typeIs PyProof.Rows.slot_tuple_getitem
  (Pm PyProof.Rows.slot_tuple_getitem ht.typeIs entry_tuple_getitem ?_ (args_tuple_getitem _ _)))
 show wpAny _ _ (Builtin.Tuple.tupleItemsOf (.ref t) >>= _) _ _ s;refine n_ (tupleItemsOf_ ht ?_);refine n_ (wpAny_typeOf hTs ?_);rw[if_pos (by decide)];refine n_ (my hs pl pu ?_);have hno:¬ ((((sIx items.size 0 lo:Nat):Int)==0&&(1:Int)==1&&(sIx items.size items.size hi-sIx items.size 0 lo)==items.size)=true):=by intro q;rw[t_,t_] at q;have q1:((sIx items.size 0 lo:Nat):Int)=0:=eq_of_beq q.1.1;have q2:sIx items.size items.size hi-sIx items.size 0 lo=items.size:=eq_of_beq q.2;exact hw ⟨by omega,by omega⟩
 show wpAny _ _ (if (((sIx items.size 0 lo:Nat):Int)==0&&(1:Int)==1&&(sIx items.size items.size hi-sIx items.size 0 lo)==items.size)=true then _ else _) _ _ s;rw[if_neg hno,CC];first
  |exact n_ (m:=Builtin.Tuple.tupleExact _) (N6 (v_ ⟨_,rfl,v_ h⟩) htake)
  |exact n_ (m:=Builtin.Tuple.tupleExact _) (N6 (n_ (v_ (v_ ⟨_,rfl,v_ h⟩))) htake)
  |exact n_ (n_ (m:=Builtin.Tuple.tupleExact _) (N6 (v_ (v_ ⟨_,rfl,v_ h⟩)) htake))
  |exact n_ (n_ (m:=Builtin.Tuple.tupleExact _) (N6 (v_ ⟨_,rfl,v_ h⟩) htake))
end
end HT
namespace L2
open PySem PySem.Spec PyProof.Rows
abbrev TO:=St->Hp->(Option Int->Hp->Prop)->Prop
def PO(X:Cx)(e:Option Expr)(t:TO):Prop:=
 ∀
  (pins:Qu) (s:Shared) (σ:St) (H:Hp) (Q:Option Int->Hp->Prop),Inv X pins σ H s->t σ H Q->
  wpAny (model X.prog X.w) X.A (evalPart e X.env) (λu s'=>∃o H',Inv X pins σ H' s'/\IsPart u o/\Q o H') X.xe s
def Gv:TO:=λ_ H Q=>Q none H
def LD(t:TE):TO:=λσ H Q=>t σ H λx H1=>∃i,x=.int i/\Q (some i) H1
section
variable{X:Cx}{e:Expr}{te:TE}{lo hi:Option Expr}{tl th:TO}{pos p2:Pos}
def EU:PO X none Gv:=by intro pins s σ H Q I h;rw[evalPart_none];exact v_ ⟨none,H,I,.none,h⟩
def GI(h:PE X e te):PO X (some e) (LD te):=by intro pins s σ H Q I hw;rw[evalPart_some];refine thn (h pins s σ H _ I hw) λu s1 zz=>exA zz λx H1 I1 r1 q1=>?_;obtain⟨i,rfl,q⟩:=q1;obtain⟨t,rfl⟩:=r1;exact⟨some i,H1,I1,.int i t,q⟩
def SlR(X:Cx)(r:V->Option Int->Option Int->Hp->VK->Prop):Prop:=
 ∀
  (pins:Qu) (s:Shared) (σ:St) (H:Hp) (x:V) (v vl vu:Value) (lo hi:Option Int) (sl:Addr) (Q:VK),Inv X pins σ H s->RelV x v->s.heap.IsSliceOf sl vl vu .none->IsPart vl lo->IsPart vu hi->r x lo hi H Q->
  ∃T id,typeLookup (.type T) "__getitem__"=pure (some (.builtin id))/\s.TypeIs v T/\wpAny (model X.prog X.w) X.A (getItem v (.ref sl)) (EP X pins σ Q) X.xe s
def SlR.or(h:SlR X r)(h':SlR X r'):SlR X (λx lo hi H Q=>r x lo hi H Q\/r' x lo hi H Q):=by
 intro pins s σ H x v vl vu lo hi sl Q I rx hs pl pu q;rcases q with q |q
 .exact h pins s σ H x v vl vu lo hi sl Q I rx hs pl pu q
 .exact h' pins s σ H x v vl vu lo hi sl Q I rx hs pl pu q
def tSl(r:V->Option Int->Option Int->Hp->VK->Prop)(te:TE)(tl th:TO):TE:=λσ H Q=>te σ H λx H1=>tl σ H1 λl H2=>th σ H2 λu H3=>r x l u H3 Q
def Cu(hr:SlR X r)(he:PE X e te)(hl:PO X lo tl)(hu:PO X hi th):PE X (.Subscript e (.Slice lo hi none p2) pos) (tSl r te tl th):=by intro pins s σ H Q I h;refine Subscript_ (thn (he pins s σ H _ I h) λv s1 zz=>exA zz λx H1 I1 r1 q1=>?_);refine wpAny_Slice (thn (hl pins s1 σ H1 _ I1 q1) λvl s2 ⟨l,H2,I2,pl,q2⟩=>thn (hu pins s2 σ H2 _ I2 q2) λvu s3 ⟨u,H3,I3,pu,q3⟩=>?_);rw[evalPart_none];refine v_ ?_;have I4:Inv X pins σ H3 { s3 with heap:=s3.heap.push { cls:=.type "slice",data:=.fields #[vl,vu,.none] } }:=I3.kept (t':=s3.toks) λb ob q=>p_ _ q;obtain⟨T,id,hT,ht,hg⟩:=hr pins { s3 with heap:=s3.heap.push { cls:=.type "slice",data:=.fields #[vl,vu,.none] } } σ H3 x v vl vu l u s3.heap.objs.size Q I4 r1 (Heap.IsSliceOf.new ..) pl pu q3;show wpAny (model X.prog X.w) X.A (subscriptTail e (.Slice lo hi none p2) v (.ref s3.heap.objs.size)) (EP X pins σ Q) X.xe { s3 with heap:=s3.heap.push { cls:=.type "slice",data:=.fields #[vl,vu,.none] } };exact tail_any (ops:=[.ref s3.heap.objs.size,v]) ht hT hg (by with_unfolding_all rfl)
noncomputable def kr (xs:List V) (lo hi:Option Int):List V:=(xs.drop (HT.sIx xs.length 0 lo)).take (HT.sIx xs.length xs.length hi-HT.sIx xs.length 0 lo)
def lC(xs:List V)(lo hi:Option Int):(kr xs lo hi).length<=xs.length:=by unfold kr;rw[N4,O3];omega
def Dz(K:W.Frag):V->Option Int->Option Int->Hp->VK->Prop:=λx lo hi H Q=>∃a xs,x=.ref a/\SqT K H a xs/\
 ¬ (HT.sIx xs.length 0 lo=0/\HT.sIx xs.length xs.length hi=xs.length)/\∀p,H p=none->Q (.ref p) (upd H p (.tup (kr xs lo hi)))
def JO:SlR X (Dz X.K):=by
 intro pins s σ H x v vl vu lo hi sl Q I rx hs pl pu h;obtain⟨a,xs,rfl,hx,hw,q⟩:=h;cases rx;obtain⟨its,r,ht,hz⟩:=I.tuple hx;have a_:its.toArray.size=xs.length:=by rw[x_];exact r.length.symm
 refine⟨"tuple",_,PyProof.Rows.slot_tuple_getitem.lookup,ht.typeIs,?_⟩;refine HT.getItem_tuple_cut ht hs pl pu (by rw[a_];exact hw) ?_ (by rw[a_];exact hz);rw[a_];refine⟨.ref s.heap.objs.size,_,I.laid (t':=s.toks) (o:=.tup (kr xs lo hi)) (λb ob q=>p_ _ q) (r_ _) ?_,rfl,q _ (I.hok.fresh (r_ _))⟩;exact⟨NG (lC xs lo hi) hz,_,(r.drop (HT.sIx xs.length 0 lo)).take (HT.sIx xs.length xs.length hi-HT.sIx xs.length 0 lo),IsTup.new _ _⟩
def qL(K:W.Frag):R2:=λx y H Q=>∃a b xs ys,x=.ref a/\y=.ref b/\SqT K H a xs/\SqT K H b ys/\xs≠[]/\xs.length+ys.length<=sizeLine/\
 (ys=[]->Q (.ref a) H)/\(ys≠[]->∀p,H p=none->Q (.ref p) (upd H p (.tup (xs++ys))))
def Vals.nil_iff(r:Vals xs us):us=[] ↔ xs=[]:=by
 cases r with
 |nil=>simp
 |cons _ _=>simp
def FI:OpR X (binaryOp .Add) (qL X.K):=by intro pins s σ H x y v u Q I rx ry h;obtain⟨a,b,xs,ys,rfl,rfl,ha,hb,hx,hz,q1,q2⟩:=h;cases rx;cases ry;obtain⟨its,r1,p1,_⟩:=I.tuple ha;obtain⟨its2,r2,p2,_⟩:=I.tuple hb;refine HT.cat_tup p1 p2 (λz=>hx (r1.nil_iff.mp z)) (λz=>⟨.ref a,H,I,rfl,q1 (r2.nil_iff.mp z)⟩) (λz=>?_) (by rw[<- r1.length,<- r2.length];exact hz);refine⟨.ref s.heap.objs.size,_,I.laid (t':=s.toks) (o:=.tup (xs++ys)) (λb ob q=>p_ _ q) (r_ _) ?_,rfl,q2 (λw=>z (r2.nil_iff.mpr w)) _ (I.hok.fresh (r_ _))⟩;exact⟨by rw[G_];exact hz,_,r1.append r2,IsTup.new _ _⟩
end
noncomputable def ixN (n:Nat) (i:Int):Option Nat:=if 0<=i then (if i<n then some i.toNat else none) else if -(n:Int)<=i then some (i+n).toNat else none
noncomputable def atI {α:Type} (xs:List α) (i:Int):Option α:=(ixN xs.length i).bind λj=>xs[j]?
def vM(h:ixN n i=some j):seqIndex? i n=some j/\j<n/\-(n:Int)<=i/\i<n:=by
 unfold ixN at h;by_cases h0:0<=i
 .rw[if_pos h0] at h;by_cases h1:i<n
  .rw[if_pos h1] at h;have e:i.toNat=j:=H_ h;exact⟨by rw[seqIndex_of h0 h1,e],by omega,by omega,h1⟩
  .rw[if_neg h1] at h;cases h
 .rw[if_neg h0] at h;by_cases h1:-(n:Int)<=i
  .rw[if_pos h1] at h;have e:(i+n).toNat=j:=H_ h;exact⟨by rw[seqIndex_neg (by omega) h1,e],by omega,h1,by omega⟩
  .rw[if_neg h1] at h;cases h
def vt(h:atI xs i=some v):∃j,seqIndex? i xs.length=some j/\xs[j]?=some v/\j<xs.length/\-(xs.length:Int)<=i/\i<xs.length:=by
 unfold atI at h;cases e:ixN xs.length i with
 |none=>rw[e] at h;cases h
 |some j=>rw[e] at h;obtain⟨h1,h2,h3,h4⟩:=vM e;exact⟨j,h1,h,h2,h3,h4⟩
def vo(b:Expr):Prop:=∀o i,subscripted b false o i=operate [o,i] (getItem o i)
def IxR(X:Cx)(r:R2):Prop:=
 ∀
  (value slice:Expr) (pins:Qu) (s:Shared) (σ:St) (H:Hp) (x y:V) (v u:Value) (Q:VK),Inv X pins σ H s->RelV x v->RelV y u->r x y H Q->
  subscripted slice false v u=operate [v,u] (getItem v u)->wpAny (model X.prog X.w) X.A (subscriptTail value slice v u) (EP X pins σ Q) X.xe s
def MtR(X:Cx)(id:String)(r:V->List V->Hp->VK->Prop):Prop:=
 ∀
  (pins:Qu) (s:Shared) (σ:St) (H:Hp) (x:V) (xs:List V) (v:Value) (us:List Value) (Q:VK),Inv X pins σ H s->RelV x v->Vals xs us->r x xs H Q->
  wpAny (model X.prog X.w) X.A (call (.builtin id) (v::us)) (EP X pins σ Q) X.xe s
section
variable{X:Cx}{a b:Expr}{ta tb:TE}{pos:Pos}
def IxR.or(h:IxR X r)(h':IxR X r'):IxR X (λx y H Q=>r x y H Q\/r' x y H Q):=by
 intro value slice pins s σ H x y v u Q I rx ry q hs;rcases q with q |q
 .exact h value slice pins s σ H x y v u Q I rx ry q hs
 .exact h' value slice pins s σ H x y v u Q I rx ry q hs
def Nt(hr:IxR X r)(ha:PE X a ta)(hb:PE X b tb)(hs:vo b):PE X (.Subscript a b pos) (tOp r ta tb):=by intro pins s σ H Q I h;exact Subscript_ (BG ha hb I h λv u s2 x y H2 I2 rx ry q=>hr a b pins s2 σ H2 x y v u Q I2 rx ry q (hs _ _))
def Ct(K:W.Frag):R2:=λx y H Q=>∃p xs i v,x=.ref p/\y=.int i/\SqL K H p xs/\atI xs i=some v/\Q v H
def CN(K:W.Frag):R2:=λx y H Q=>∃p xs i v,x=.ref p/\y=.int i/\SqT K H p xs/\atI xs i=some v/\Q v H
def F5:IxR X (Ct X.K):=by
 intro value slice pins s σ H x y v u Q I rx ry h hs;obtain⟨p,xs,i,z,rfl,rfl,hq,he,q⟩:=h;cases rx;obtain⟨t,rfl⟩:=ry;obtain⟨its,r,pl,hz⟩:=I.list hq;obtain⟨j,h1,h2,h3,h4,h5⟩:=vt he;obtain⟨w,ew,rw'⟩:=r.get h2;have hl:=r.length;have hn:=g6;have f_:EP X pins σ Q w s:=⟨z,H,I,rw',q⟩;by_cases h0:0<=i
 .have hj:i.toNat=j:=by rw[seqIndex_of h0 h5] at h1;exact H_ h1
  exact item_listR pl.isList h0 (by omega) (by rw[hj];simpa using ew) f_ hs
 .have hj:(i+(its.toArray.size:Int)).toNat=j:=by rw[seqIndex_neg (by omega) h4] at h1;rw[x_,<- hl];exact H_ h1
  exact subscriptTail_builtinR (x:=w) pl.isList.typeIs slot_list_getitem.lookup
   (wpAny_getItem_list_neg (Q:=λr s'=>r=w/\EP X pins σ Q r s') pl.isList (by omega) (by rw[x_] <;> omega) (by omega) (by rw[hj];simpa using ew) ⟨rfl,f_⟩) hs
def II:IxR X (CN X.K):=by
 intro value slice pins s σ H x y v u Q I rx ry h hs;obtain⟨p,xs,i,z,rfl,rfl,hq,he,q⟩:=h;cases rx;obtain⟨t,rfl⟩:=ry;obtain⟨its,r,pl,hz⟩:=I.tuple hq;obtain⟨j,h1,h2,h3,h4,h5⟩:=vt he;obtain⟨w,ew,rw'⟩:=r.get h2;have hl:=r.length;have hn:=g6;have f_:EP X pins σ Q w s:=⟨z,H,I,rw',q⟩;exact subscriptTail_builtinR (x:=w) pl.typeIs slot_tuple_getitem.lookup
  (getItem_tuple (j:=j) (Q:=λr s'=>r=w/\EP X pins σ Q r s') pl (by omega) (by omega) (by rw[x_,<- hl];exact h1) (by simpa using ew) ⟨rfl,f_⟩) hs
def xB(its:List Value)(n j:Nat)(u:Value):Obj.mapSeq (·.setIfInBounds j u) { cls:=.type "list",data:=.seq its.toArray n }={ cls:=.type "list",data:=.seq (its.set j u).toArray n }:=by simp [Obj.mapSeq]
def Inv.lst(I:Inv X pins σ H s)(h:H p=some (.lst xs)):
 ∃(its:List Value) (n:Nat),Vals xs its/\s.heap.get? p=some { cls:=.type "list",data:=.seq its.toArray n }/\xs.length<=sizeLine:=by
 obtain⟨z,its,n,r,e⟩:=I.hok p _ h;exact⟨its,n,r,e,z⟩
def Inv.lstUpd{pins:Qu}{σ:St}{H:Hp}{s:Shared}{p:Addr}{xs ys:List V}{its its':List Value}{n n':Nat}{f:Obj->Obj}(I:Inv X pins σ H s)(h:H p=some (.lst xs))
 (ho:s.heap.get? p=some { cls:=.type "list",data:=.seq its.toArray n }) (hf:f { cls:=.type "list",data:=.seq its.toArray n }={ cls:=.type "list",data:=.seq its'.toArray n' }) (r:Vals ys its') (hz:ys.length<=sizeLine) (t:Nat):
 Inv X pins σ (upd H p (.lst ys)) { s with heap:=s.heap.update p f,toks:=t }:=by
 have e:(s.heap.update p f).get? p=some { cls:=.type "list",data:=.seq its'.toArray n' }:=by rw[Heap.get?_update_self f ho (by rw[hf] <;> rfl),hf]
 refine I.write (x:=p) (e:=p) (by rw[h];trivial) (.inl rfl) (λb u hb q=>(PQ _ _ (Ne.symm hb)).trans q) ⟨_,e⟩ ?_;exact⟨hz,its',n',r,e⟩
def DZ:V->V->V->Hp->(Hp->Prop)->Prop:=λo i v H Q=>∃p xs k j,o=.ref p/\i=.int k/\H p=some (.lst xs)/\ixN xs.length k=some j/\Q (upd H p (.lst (xs.set j v)))
def Bl:xJ X DZ:=by
 intro pins s σ H o i v ov iv u Q I ro ri rv h;obtain⟨p,xs,k,j,rfl,rfl,hp,hj,q⟩:=h;cases ro;obtain⟨t,rfl⟩:=ri;obtain⟨its,n,r,ho,hz⟩:=I.lst hp;obtain⟨h1,h2,h3,h4⟩:=vM hj;have hl:=r.length;have hn:=g6;have I':Inv X pins σ (upd H p (.lst (xs.set j v))) { s with heap:=s.heap.update p (Obj.mapSeq (·.setIfInBounds j u)) }:=
  I.lstUpd hp ho (xB its n j u) (r.set rv j) (by rw[NF];exact hz) s.toks
 by_cases h0:0<=k
 .have hk:k.toNat=j:=by rw[seqIndex_of h0 h4] at h1;exact H_ h1
  exact W.ki_setAt ho h0 (by omega) (by rw[x_,<- hl];exact h4) (by rw[hk];exact⟨_,I',q⟩)
 .have hk:(k+(its.toArray.size:Int)).toNat=j:=by rw[seqIndex_neg (by omega) h3] at h1;rw[x_,<- hl];exact H_ h1
  exact W.ki_setBack ho (by omega) (by rw[x_,<- hl];exact h3) (by omega) (by rw[hk];exact⟨_,I',q⟩)
def sR(lo hi:Option Int)(n:Nat):(sliceBounds lo hi none n).1=((HT.sIx n 0 lo:Nat):Int)/\(sliceBounds lo hi none n).2.1=((HT.sIx n n hi:Nat):Int)/\(sliceBounds lo hi none n).2.2=1:=by
 refine⟨?_,?_,rfl⟩
 .cases lo with
  |none=>simp [sliceBounds,HT.sIx]
  |
   some i=>
   simp only[sliceBounds,HT.sIx,Option.getD_none,show (1:Int)>0 by decide,OW];by_cases h:i<0
   .simp only[h,OW] <;> omega
   .simp only[h,Pl] <;> omega
 .cases hi with
  |none=>simp [sliceBounds,HT.sIx]
  |
   some i=>
   simp only[sliceBounds,HT.sIx,Option.getD_none,show (1:Int)>0 by decide,OW];by_cases h:i<0
   .simp only[h,OW] <;> omega
   .simp only[h,Pl] <;> omega
def qf(its:List Value)(lo hi:Option Int):slicePick its.toArray lo hi none=((its.drop (HT.sIx its.length 0 lo)).take (HT.sIx its.length its.length hi-HT.sIx its.length 0 lo)).toArray:=by obtain⟨h1,h2,h3⟩:=sR lo hi its.toArray.size;unfold slicePick;rw[h1,h2,h3];simp only[sliceRange_one,pick_run,x_] <;> rfl
def DC(K:W.Frag):V->Option Int->Option Int->Hp->VK->Prop:=λx lo hi H Q=>∃a xs,x=.ref a/\SqL K H a xs/\∀p,H p=none->Q (.ref p) (upd H p (.lst (kr xs lo hi)))
def ET:SlR X (DC X.K):=by intro pins s σ H x v vl vu lo hi sl Q I rx hs pl pu h;obtain⟨a,xs,rfl,hx,q⟩:=h;cases rx;obtain⟨its,r,ht,hz⟩:=I.list hx;have a_:=r.length;refine⟨"list",_,slot_list_getitem.lookup,ht.isList.typeIs,?_⟩;refine wpAny_getItem_list_slice ht.isList hs pl pu .none (by simp) ?_ (by rw[x_] <;> omega);rw[qf,<- a_];refine⟨.ref s.heap.objs.size,_,I.laid (t':=s.toks) (o:=.lst (kr xs lo hi)) (λb ob q=>p_ _ q) (r_ _) ?_,rfl,q _ (I.hok.fresh (r_ _))⟩;exact⟨NG (lC xs lo hi) hz,_,0,(r.drop (HT.sIx xs.length 0 lo)).take (HT.sIx xs.length xs.length hi-HT.sIx xs.length 0 lo),Em _ rfl⟩
noncomputable def flatV:V->Bool
 |.non=>true
 |.bl _=>true
 |.int _=>true
 |.str _=>true
 |_=>false
noncomputable def eqV:V->V->Bool
 |.non,.non=>true
 |.bl a,.bl b=>a==b
 |.bl a,.int b=>(if a then 1 else 0)==b
 |.int a,.bl b=>a==(if b then 1 else 0)
 |.int a,.int b=>a==b
 |.str a,.str b=>a==b
 |_,_=>false
def JA(ry:RelV y u)(rx:RelV x v)(fy:flatV y=true)(fx:flatV x=true):SeqAt.EqAt A s u v (eqV y x):=by
 cases y with
 |
  non=>
  cases ry;cases x with
  |non=>cases rx;exact SeqAt.EqAt.same _
  |bl b=>cases rx;exact SeqAt.EqAt.none_bool b
  |int b=>obtain⟨t,rfl⟩:=rx;exact SeqAt.EqAt.none_int b t
  |str b=>obtain⟨t,rfl⟩:=rx;exact SeqAt.EqAt.none_str b t
  |_=>exact absurd (show false=true from fx) u_
 |
  bl a=>
  cases ry;cases x with
  |non=>cases rx;exact SeqAt.EqAt.bool_none a
  |bl b=>cases rx;exact SeqAt.EqAt.bool_bool a b
  |int b=>obtain⟨t,rfl⟩:=rx;exact SeqAt.EqAt.bool_int a b t
  |str b=>obtain⟨t,rfl⟩:=rx;exact SeqAt.EqAt.bool_str a b t
  |_=>exact absurd (show false=true from fx) u_
 |
  int a=>
  obtain⟨t',rfl⟩:=ry;cases x with
  |non=>cases rx;exact SeqAt.EqAt.int_none a t'
  |bl b=>cases rx;exact SeqAt.EqAt.int_bool a t' b
  |int b=>obtain⟨t,rfl⟩:=rx;exact SeqAt.EqAt.int_int a t' b t
  |str b=>obtain⟨t,rfl⟩:=rx;exact SeqAt.EqAt.int_str a t' b t
  |_=>exact absurd (show false=true from fx) u_
 |
  str a=>
  obtain⟨t',rfl⟩:=ry;cases x with
  |non=>cases rx;exact SeqAt.EqAt.str_none a t'
  |bl b=>cases rx;exact SeqAt.EqAt.str_bool a t' b
  |int b=>obtain⟨t,rfl⟩:=rx;exact SeqAt.EqAt.str_int a t' b t
  |str b=>obtain⟨t,rfl⟩:=rx;exact SeqAt.EqAt.str_str a t' b t
  |_=>exact absurd (show false=true from fx) u_
 |_=>exact absurd (show false=true from fy) u_
noncomputable def eqU (x:V) (u:Value):Bool:=match u with
 |.none=>eqV .non x
 |.bool b=>eqV (.bl b) x
 |.int i _=>eqV (.int i) x
 |.str z _=>eqV (.str z) x
 |_=>false
def zP(r:RelV y u)(f:flatV y=true):eqU x u=eqV y x:=by
 cases y with
 |non=>cases r;rfl
 |bl b=>cases r;rfl
 |int i=>obtain⟨t,rfl⟩:=r;rfl
 |str z=>obtain⟨t,rfl⟩:=r;rfl
 |_=>exact absurd (show false=true from f) u_
theorem jb:∀{xs:List V}{us:List Value},Vals xs us->xs.all flatV=true->us.any (eqU x)=xs.any λy=>eqV y x
 |_,_,.nil,_=>rfl
 |
  y::xs,u::us,.cons r t,f=>by
  rw[Qn,t_] at f;rw[Oi,Oi,zP r f.1,jb t f.2]
theorem ie(rx:RelV x v)(fx:flatV x=true):∀{xs:List V}{us:List Value},Vals xs us->xs.all flatV=true->∀u∈us,SeqAt.EqAt A s u v (eqU x u)
 |_,_,.nil,_=>λu hu=>by cases hu
 |
  y::xs,u::us,.cons r t,f=>λu' hu=>by
  rw[Qn,t_] at f;rcases F_.mp hu with rfl |hu
  .rw[zP r f.1];exact JA r rx f.1 fx
  .exact ie rx fx t f.2 u' hu
noncomputable def inV (x:V) (xs:List V):Bool:=xs.any λy=>eqV y x
def rIn(K:W.Frag)(neg:Bool):R2:=λx y H Q=>∃p xs,y=.ref p/\(SqL K H p xs\/SqT K H p xs)/\flatV x=true/\xs.all flatV=true/\Q (.bl (if neg then !inV x xs else inV x xs)) H
def yZ:OpR X (compareOp .In) (rIn X.K false):=by
 intro pins s σ H x y v u Q I rx ry h;obtain⟨p,xs,rfl,hq,fx,fs,q⟩:=h;cases ry;rcases hq with hq |hq
 .obtain⟨its,r,pl,hz⟩:=I.list hq;refine SeqAt.in_listAt (eqU x) pl.isList (λw hw=>ie rx fx r fs w (by simpa using hw)) ⟨.bl _,H,I,rfl,?_⟩;rw[show its.toArray.any (eqU x)=its.any (eqU x) by simp,jb r fs];exact q
 .obtain⟨its,r,pl,hz⟩:=I.tuple hq;refine SeqAt.in_tupleAt (eqU x) pl (λw hw=>ie rx fx r fs w (by simpa using hw)) ⟨.bl _,H,I,rfl,?_⟩;rw[show its.toArray.any (eqU x)=its.any (eqU x) by simp,jb r fs];exact q
def uh:OpR X (compareOp .NotIn) (rIn X.K true):=by
 intro pins s σ H x y v u Q I rx ry h;obtain⟨p,xs,rfl,hq,fx,fs,q⟩:=h;cases ry;rcases hq with hq |hq
 .obtain⟨its,r,pl,hz⟩:=I.list hq;refine SeqAt.notIn_listAt (eqU x) pl.isList (λw hw=>ie rx fx r fs w (by simpa using hw)) ⟨.bl _,H,I,rfl,?_⟩;rw[show its.toArray.any (eqU x)=its.any (eqU x) by simp,jb r fs];exact q
 .obtain⟨its,r,pl,hz⟩:=I.tuple hq;refine SeqAt.notIn_tupleAt (eqU x) pl (λw hw=>ie rx fx r fs w (by simpa using hw)) ⟨.bl _,H,I,rfl,?_⟩;rw[show its.toArray.any (eqU x)=its.any (eqU x) by simp,jb r fs];exact q
def rQ:CallR X (.builtin "len") (λxs H Q=>∃p ys,xs=[.ref p]/\(SqL X.K H p ys\/SqT X.K H p ys)/\Q (.int ys.length) H):=by
 intro pins s σ H xs us Q I r h;obtain⟨p,ys,rfl,hq,q⟩:=h;obtain⟨u,rfl,rx⟩:=fS r;cases rx;have hn:=g6;rcases hq with hq |hq
 .obtain⟨its,r',pl,hz⟩:=I.list hq;have a_:=r'.length;exact Calls.call_len_list pl.isList (by simp only[x_] <;> omega) ⟨.int ys.length,H,I.tok _,⟨s.toks+1,by rw[x_,a_]⟩,q⟩
 .obtain⟨its,r',pl,hz⟩:=I.tuple hq;have a_:=r'.length;exact len_tuple pl (by simp only[x_] <;> omega) ⟨.int ys.length,H,I.tok _,⟨s.toks+1,by rw[x_,a_]⟩,q⟩
def uq:CallR X (.builtin "len") (λxs H Q=>∃z,xs=[.str z]/\z.length<=sizeLine/\Q (.int z.length) H):=by intro pins s σ H xs us Q I r h;obtain⟨z,rfl,hz,q⟩:=h;obtain⟨u,rfl,t,rfl⟩:=fS r;have hn:=g6;exact len_str (by omega) ⟨.int z.length,H,I.tok _,⟨_,rfl⟩,q⟩
def CallR.or(h:CallR X f r)(h':CallR X f r'):CallR X f (λxs H Q=>r xs H Q\/r' xs H Q):=by
 intro pins s σ H xs us Q I rs q;rcases q with q |q
 .exact h pins s σ H xs us Q I rs q
 .exact h' pins s σ H xs us Q I rs q
def uj:CallR X (.type "list") (λxs H Q=>∃p ys,xs=[.ref p]/\(SqL X.K H p ys\/SqT X.K H p ys)/\∀l,H l=none->Q (.ref l) (upd H l (.lst ys))):=by
 intro pins s σ H xs us Q I r h;obtain⟨p,ys,rfl,hq,q⟩:=h;obtain⟨u,rfl,rx⟩:=fS r;cases rx;have f_:∀(its:List Value),Vals ys its->ys.length<=sizeLine->∀(h':Heap) (c':Nat),(∀b o',s.heap.get? b=some o'->h'.get? b=some o')->
  h'.get? s.heap.objs.size=some { cls:=.type "list",dict:=none,data:=.seq its.toArray c',slots:=#[] }->EP X pins σ Q (.ref s.heap.objs.size) { s with heap:=h' }:=λits r' hz h' c' kp e=>
  ⟨.ref s.heap.objs.size,_,I.laid (t':=s.toks) kp (r_ _) (show ObjOk X.prog X.w _ h' _ (.lst ys) from ⟨hz,its,c',r',e⟩),rfl,q _ (I.hok.fresh (r_ _))⟩
 rcases hq with hq |hq
 .obtain⟨its,r',pl,hz⟩:=I.list hq;have a_:=r'.length;obtain⟨o,ho,hc,n,hd⟩:=pl.isList;exact call_list_seq p (.inl rfl) ho hc hd (λh' c' kp e=>f_ its r' hz h' c' kp e) (by simp only[x_] <;> omega)
 .obtain⟨its,r',pl,hz⟩:=I.tuple hq;have a_:=r'.length;obtain⟨o,ho,hc,n,hd⟩:=pl;exact call_list_seq p (.inr rfl) ho hc hd (λh' c' kp e=>f_ its r' hz h' c' kp e) (by simp only[x_] <;> omega)
def pV:CallR X (.type "tuple") (λxs H Q=>∃p ys,xs=[.ref p]/\((SqL X.K H p ys/\∀l,H l=none->Q (.ref l) (upd H l (.tup ys)))\/(SqT X.K H p ys/\Q (.ref p) H))):=by
 intro pins s σ H xs us Q I r h;obtain⟨p,ys,rfl,h⟩:=h;obtain⟨u,rfl,rx⟩:=fS r;cases rx;rcases h with ⟨hq,q⟩ |⟨hq,q⟩
 .obtain⟨its,r',pl,hz⟩:=I.list hq;have a_:=r'.length;refine call_tuple_list pl.isList (λh' kp=>?_) (by simp only[x_] <;> omega);have I1:Inv X pins σ H { s with heap:=h' }:=I.kept (t':=s.toks) kp;have I2:Inv X pins σ (upd H h'.objs.size (.tup ys)) { s with heap:=h'.push { cls:=.type "tuple",data:=.seq its.toArray } }:=
   I1.laid (t':=s.toks) (λb o e=>p_ _ e) (r_ _) (show ObjOk X.prog X.w _ _ _ (.tup ys) from ⟨hz,its,r',IsTup.new _ _⟩)
  exact⟨.ref h'.objs.size,_,I2,rfl,q _ (I1.hok.fresh (r_ _))⟩
 .obtain⟨its,r',pl,hz⟩:=I.tuple hq;exact call_tuple_same pl ⟨.ref p,H,I,rfl,q⟩
def tyV(K:W.Frag)(T:String)(x:V)(H:Hp):Prop:=match x with
 |.str _=>T="str"
 |.int _=>T="int"
 |.ref p=>(T="list" /\ ∃xs,SqL K H p xs)\/(T="tuple" /\ ∃o,K.lookup p=some o/\o.cls=.type "tuple" /\ o.dict=none)\/
  (T="dict" /\ ((∃kvs,H p=some (.dK kvs))\/∃kvs,H p=some (.dT kvs)))\/(T="set" /\ ∃S n,H p=some (.set S n))
 |_=>False
def yG(I:Inv X pins σ H s)(r:RelV x v)(ty:tyV X.K T x H):
 s.TypeIs v T/\∀a,v=.ref a->∃ob,s.heap.get? a=some ob/\ob.dict=none:=by
 cases x with
 |str z=>obtain⟨t,rfl⟩:=r;cases (show T="str" from ty);exact⟨typeIs_str s z t,λ_ e=>nomatch e⟩
 |int i=>obtain⟨t,rfl⟩:=r;cases (show T="int" from ty);exact⟨typeIs_int s i t,λ_ e=>nomatch e⟩
 |
  ref p=>
  cases r;rcases ty with ⟨rfl,xs,hq⟩ |⟨rfl,o,hk,hc,hd⟩ |⟨rfl,hk⟩ |⟨rfl,S,n,hk⟩
  .obtain⟨its,_,pl,_⟩:=I.list hq;refine⟨pl.isList.typeIs,λa e=>?_⟩;cases e;obtain⟨o,n,e,c,hd,_⟩:=pl;exact⟨o,e,hd⟩
  .refine⟨⟨o,I.kIn p o hk,hc⟩,λa e=>?_⟩;cases e;exact⟨o,I.kIn _ o hk,hd⟩
  .have z:∃o,s.heap.get? p=some o/\o.ExactDict:=by
    rcases hk with ⟨kvs,hk⟩ |⟨kvs,hk⟩
    .obtain⟨_,_,_,_,o,_,_,e,ex,_⟩:=I.hok p _ hk;exact⟨o,e,ex⟩
    .obtain⟨_,_,_,_,o,_,_,e,ex,_⟩:=I.hok p _ hk;exact⟨o,e,ex⟩
   obtain⟨o,e,ex⟩:=z;refine⟨⟨o,e,ex.1⟩,λa e2=>?_⟩;cases e2;exact⟨o,e,ex.2.1⟩
  .obtain⟨o,_,_,_,e,ex,_⟩:=I.hok p _ hk;refine⟨⟨o,e,ex.1⟩,λa e2=>?_⟩;cases e2;exact⟨o,e,ex.2.1⟩
 |_=>exact False.elim ty
def tBM0(K:W.Frag)(T:String)(r:V->List V->Hp->VK->Prop)(to:TE):TE:=λσ H Q=>to σ H λx H1=>tyV K T x H1/\r x [] H1 Q
def tBM(K:W.Frag)(T:String)(r:V->List V->Hp->VK->Prop)(to:TE)(t:TA):TE:=λσ H Q=>to σ H λx H1=>tyV K T x H1/\t σ H1 λxs H2=>r x xs H2 Q
variable{o e:Expr}{es:List Expr}{to:TE}{t:TA}{name:Str}{apos cpos:Pos}{T id:String}{r:V->List V->Hp->VK->Prop}
def HM(pa:PlainAttrs T)(slot:Slot T name id)(hty:typeOf (.builtin id)=pure (.type "method_descriptor"))(hm:MtR X id r)(ho:PE X o to)
 (j':attributeBase o name X.env (eval o X.env)=eval o X.env) (k_:(apos.endLine==cpos.line)=true):PE X (.Call (.Attribute o name apos) [] [] cpos) (tBM0 X.K T r to):=by
 intro pins s σ H Q I h;refine wpAny_Call_method0_late j' k_ (thn (ho pins s σ H _ I h) λv s1 ⟨x,H1,I1,r1,ty,q1⟩=>?_);obtain⟨h1,h2⟩:=yG I1 r1 ty;exact⟨T,id,pa,slot,hty,h1,h2,Calls.callWith_builtin rfl (PySem.evalArgs_none (hm pins s1 σ H1 x [] v [] Q I1 r1 .nil q1))⟩
def wZ(pa:PlainAttrs T)(slot:Slot T name id)(hty:typeOf (.builtin id)=pure (.type "method_descriptor"))(hm:MtR X id r)(ho:PE X o to)(ha:PA X (e::es) t)
 (j':attributeBase o name X.env (eval o X.env)=eval o X.env)
 (hfew:((backTo cpos (starEach (e::es) X.env)).all (λx=>!x.1)&&(backToKw cpos (keywordEach [] X.env)).all (λx=>x.1.isSome)
  && decide ((e::es).length+([]:List Keyword).length+(if ([]:List Keyword).isEmpty then 0 else 1)<30))=true)
 (k_:(apos.endLine==cpos.line)=true) (hs:starEach (e::es) X.env=(false,eval e X.env)::starEach es X.env) (d_:(backTo cpos (starEach es X.env)).any (·.1)=false):
 PE X (.Call (.Attribute o name apos) (e::es) [] cpos) (tBM X.K T r to t):=by
 intro pins s σ H Q I h;refine wpAny_Call_method_late j' hfew k_ rfl (thn (ho pins s σ H _ I h) λv s1 ⟨x,H1,I1,r1,ty,q1⟩=>?_);obtain⟨h1,h2⟩:=yG I1 r1 ty;refine⟨T,id,pa,slot,hty,h1,h2,?_⟩;have hA:=ha cpos pins s1 σ H1 _ I1 q1;rw[hs] at hA ⊢;refine Calls.callWith_builtin (by show (false || (backTo cpos (starEach es X.env)).any (·.1))=false;rw[d_] <;> rfl) (Calls.evalArgs_plain ?_);exact thn hA λus s2 zz=>exA zz λvs H2 I2 r2 q2=>hm pins s2 σ H2 x vs v us Q I2 r1 r2 q2
end
def MtM(X:Cx)(id:String)(r:V->List V->Hp->VK->Prop):Prop:=
 ∀
  (pins:Qu) (s:Shared) (σ:St) (H:Hp) (x:V) (xs:List V) (v:Value) (us:List Value) (Q:VK),Inv X pins σ H s->RelV x v->Vals xs us->r x xs H Q->
  wpAny (model X.prog X.w) X.A (call (.builtin id) (v::us)) (EP X pins σ Q) X.xe s
def Vals.one(r:Vals [x] us):∃u,us=[u]/\RelV x u:=by
 cases r with
 |cons r t=>cases t;exact⟨_,rfl,r⟩
theorem Vals.zero:∀{us:List Value},Vals [] us->us=[]
 |_,.nil=>rfl
def Vals.dropLast(h:Vals xs us):Vals xs.dropLast us.dropLast:=by
 induction h with
 |nil=>exact .nil
 |
  cons r t ih=>
  cases t with
  |nil=>exact .nil
  |cons q t'=>exact .cons r ih
theorem Vals.rep(h:Vals xs us):∀k:Nat,Vals (List.replicate k xs).flatten (List.replicate k us).flatten
 |0=>.nil
 |
  k+1=>by
  rw[NU,NU,Om,Om];exact Vals.append h (Vals.rep h k)
def w6{α:Type}(l:List α):l.eraseIdx (l.length-1)=l.dropLast:=by
 induction l with
 |nil=>rfl
 |
  cons a r ih=>
  cases r with
  |nil=>rfl
  |
   cons b r=>
   have e:(a::b::r).length-1=((b::r).length-1)+1:=by have h1:(a::b::r).length=r.length+2:=rfl;have h2:(b::r).length=r.length+1:=rfl;omega
   rw[e,List.eraseIdx_cons_succ,ih];all_goals rfl
theorem pD(its:List Value):∀(k:Nat) (acc:List Value),
 List.foldl (λx1 x2=>x1++x2) acc.toArray (List.replicate k its.toArray)=(acc++(List.replicate k its).flatten).toArray
 |0,acc=>by simp
 |
  k+1,acc=>by
  have e:acc.toArray++its.toArray=(acc++its).toArray:=by simp
  have e2:(acc++its)++(List.replicate k its).flatten=acc++(List.replicate (k+1) its).flatten:=by rw[NU,Om,Pc]
  rw[<- e2,<- pD its k (acc++its),<- e,NU,Pu]
section
variable{X:Cx}{pins:Qu}{σ:St}{H:Hp}{s:Shared}{l:Addr}{xs ys:List V}
def Inv.lset{its its':List Value}{n:Nat}{f:Array Value->Array Value}{t':Nat}(I:Inv X pins σ H s)(hH:H l=some (.lst xs))
 (e:s.heap.get? l=some { cls:=.type "list",data:=.seq its.toArray n }) (hf:f its.toArray=its'.toArray) (hv:Vals ys its') (hz:ys.length<=sizeLine):
 Inv X pins σ (upd H l (.lst ys)) { s with heap:=s.heap.update l (Obj.mapSeq f),toks:=t' }:=by
 have q:=PySem.IsL.update e f;rw[hf] at q;refine I.write (x:=l) (e:=l) (by rw[hH];exact trivial) (.inl rfl) (λb' u hb hu=>(PQ s.heap (Obj.mapSeq f) (Ne.symm hb)).trans hu) ⟨_,q⟩ ?_;exact⟨hz,its',_,hv,q⟩
def Inv.lnew(I:Inv X pins σ H s)(hv:Vals ys its)(hz:ys.length<=sizeLine):
 Inv X pins σ (upd H s.heap.objs.size (.lst ys)) { s with heap:=s.heap.push { cls:=.type "list",data:=.seq its.toArray },toks:=t' }:=
 I.laid (λ_ _ q=>p_ _ q) (r_ _) ⟨hz,its,0,hv,Em _ rfl⟩
def Inv.fresh(I:Inv X pins σ H s):H s.heap.objs.size=none:=I.hok.fresh (r_ _)
def Inv.lstM(I:Inv X pins σ H s)(hH:H l=some (.lst xs)):xs.length<=sizeLine/\∃(its:List Value) (n:Nat),Vals xs its/\xs.length=its.length/\s.heap.get? l=some { cls:=.type "list",data:=.seq its.toArray n }:=by obtain⟨z,its,n,r,e⟩:=I.hok l _ hH;exact⟨z,its,n,r,r.length,e⟩
def uC{n:Nat}(h:n<=sizeLine):Builtin.List.listTooLong n=false:=by unfold Builtin.List.listTooLong;exact C_ (by omega)
end
section
variable{X:Cx}
def vw:V->List V->Hp->VK->Prop:=λx vs H Q=>∃l xs y,x=.ref l/\vs=[y]/\H l=some (.lst xs)/\xs.length<sizeLine/\Q .non (upd H l (.lst (xs++[y])))
def Ah:MtM X "list.append" vw:=by intro pins s σ H x vs v us Q I rx rv h;obtain⟨l,xs,y,rfl,rfl,hH,hz,q⟩:=h;cases rx;obtain⟨u,rfl,ru⟩:=rv.one;obtain⟨z,its,n,r,hl,e⟩:=I.lstM hH;refine Pk F.slot_list_append ⟨_,e,rfl⟩ F.entry_list_append (F.args_list_append_2 _ _) (PySem.list_append l its.toArray n u (by rw[x_];omega)) ⟨e,?_⟩;refine⟨.non,_,I.lset (its':=its++[u]) hH e (by simp) (r.append (.cons ru .nil)) ?_,rfl,q⟩;rw[G_,P7];omega
def rPop:V->List V->Hp->VK->Prop:=λx vs H Q=>∃l xs y,x=.ref l/\vs=[]/\H l=some (.lst xs)/\xs[xs.length-1]?=some y/\Q y (upd H l (.lst xs.dropLast))
def G9:MtM X "list.pop" rPop:=by
 intro pins s σ H x vs v us Q I rx rv h;obtain⟨l,xs,y,rfl,rfl,hH,hy,q⟩:=h;cases rx;have hus:=rv.zero;subst hus;obtain⟨z,its,n,r,hl,e⟩:=I.lstM hH;obtain⟨u,hu,ru⟩:=r.get hy;have hy':its.toArray[its.toArray.size-1]?=some u:=by show its.toArray[its.length-1]?=some u;rw[<- Array.getElem?_toList,<- hl];exact hu
 refine Pk F.slot_list_pop ⟨_,e,rfl⟩ F.entry_list_pop (F.args_list_pop_1 _) (MeetsSeq.list_pop_last l its.toArray n u hy' (by rw[x_];omega)) ⟨e,?_⟩;refine⟨y,_,I.lset (its':=its.dropLast) hH e ?_ r.dropLast ?_,ru,q⟩
 .show its.toArray.eraseIdxIfInBounds (its.toArray.size-1)=its.dropLast.toArray;rw[x_,List.eraseIdxIfInBounds_toArray,w6]
 .rw[List.length_dropLast];omega
def yg:R2:=λx y H Q=>∃l b xs zs,x=.ref l/\y=.ref b/\H l=some (.lst xs)/\H b=some (.lst zs)/\xs.length+zs.length<=sizeLine/\∀p,H p=none->Q (.ref p) (upd H p (.lst (xs++zs)))
def Jh:OpR X (binaryOp .Add) yg:=by
 intro pins s σ H x y v u Q I rx ry h;obtain⟨l,b,xs,zs,rfl,rfl,hH,hB,hz,q⟩:=h;cases rx;cases ry;obtain⟨z,its,n,r,hl,e⟩:=I.lstM hH;obtain⟨z2,its2,n2,r2,hl2,e2⟩:=I.lstM hB;refine PySem.P.add_list e e2 ?_ (by rw[x_,x_];omega);have ea:its.toArray++its2.toArray=(its++its2).toArray:=by simp
 rw[ea];exact⟨.ref _,_,I.lnew (t':=s.toks) (r.append r2) (by rw[G_];omega),rfl,q _ I.fresh⟩
def rRep:R2:=λx y H Q=>∃l k xs,x=.ref l/\y=.int k/\H l=some (.lst xs)/\-(2^63)<=k/\k<2^63/\xs.length*k.toNat<=sizeLine/\
 ∀p,H p=none->Q (.ref p) (upd H p (.lst (List.replicate k.toNat xs).flatten))
def Fi(xs:List α)(k:Nat):(List.replicate k xs).flatten.length=k*xs.length:=by
 induction k with
 |zero=>simp
 |succ k ih=>rw[NU,Om,G_,ih,Nat.succ_mul,Nat.add_comm]
def Kg:OpR X (binaryOp .Mult) rRep:=by
 intro pins s σ H x y v u Q I rx ry h;obtain⟨l,k,xs,rfl,rfl,hH,h1,h2,hz,q⟩:=h;cases rx;obtain⟨t,rfl⟩:=ry;obtain⟨z,its,n,r,hl,e⟩:=I.lstM hH;have a_:its.toArray.size*k.toNat<=sizeLine:=by rw[x_,<- hl];exact hz
 have hcap:¬ its.toArray.size*k.toNat>(2^63-1)/8:=by
  have:(sizeLine:Nat)<=(2^63-1)/8:=by decide
  omega
 have hfit:¬ (!Builtin.List.listFitsIndex k)=true:=by rw[fitsIndex_both h1 h2];exact u_
 have hlong:¬ Builtin.List.listTooLong (its.toArray.size*k.toNat)=true:=by rw[uC a_];exact u_
 have hnew:List.foldl (λx1 x2=>x1++x2) #[] (List.replicate (if its.toArray.isEmpty=true then 0 else k.toNat) its.toArray)=(List.replicate k.toNat its).flatten.toArray:=by
  have f0:∀m:Nat,List.foldl (λx1 x2=>x1++x2) #[] (List.replicate m its.toArray)=(List.replicate m its).flatten.toArray:=λm=>by
   have:=pD its m []
   rw[NK] at this;exact this
  rw[f0];cases its with
  |nil=>simp
  |cons a r'=>rw[if_neg (by simp)]
 refine wpAny_binaryOp_repeat_ref (T:="list") (U:="int") (by decide) ⟨_,e,rfl⟩ (λs'=>typeIs_int s' k t) noFill_list_mul F.fills_int_mul F.slot_int_rmul repeat_list F.slot_int_index.lookup
  (Pk F.slot_int_rmul (typeIs_int s k t) F.entry_int_rmul (F.args_int_rmul_2 _ _) (int___rmul___int_list k t l its.toArray n)
   ⟨e,rfl,⟨_,e,rfl⟩,Pk F.slot_list_mul ⟨_,e,rfl⟩ F.entry_list_mul (F.args_list_mul_2 _ _) (AutoListH.list___mul___list_int_3 l its.toArray n k t hfit hcap hlong) ⟨e,?_⟩⟩)
 rw[hnew];exact⟨.ref _,_,I.lnew (t':=s.toks) (r.rep k.toNat) (by rw[Fi,Nat.mul_comm];exact hz),rfl,q _ I.fresh⟩
end
section
set_option maxRecDepth 100000 in
end
end L2
namespace Att
open PySem PySem.W PySem.Calls PyProof.Rows
def mX:∀(ns:List Int) (vs:List Value),WellAll P h vs (ns.map WData.int)->IntsAre vs ns:=by
 intro ns;induction ns with
 |nil=>intro vs w;rw[NV] at w;cases w;exact .nil
 |
  cons n ns ih=>
  intro vs w;rw[y_] at w;cases w with
  |cons a b=>cases a;exact .cons _ _ (ih _ b)
def yY{l:OpenLaw}{n:Nat}(hn:l.most=some n){P:Params}{h:Heap}{args:List WData}{vals:List Value}
 (hpre:l.row.toRowW.claim.pre args=true) (hwl:WellAll P h vals args):
 ∃a vs ns,vals=[Value.ref a]/\args=[WData.list (ns.map WData.int)]/\h.get? a=some { cls:=.type "list",data:=.seq vs.toArray }/\IntsAre vs ns/\ns.length<=n:=by
 have hsh:WShape.hasAll [] args [.list .int]=true:=(pre_splitW hpre).1;have hc:l.pre.holds [] { args:=args }=true:=(pre_splitW hpre).2;obtain⟨d,r,rfl,h1,h2⟩:=hasAllW_cons hsh;obtain rfl:=hasAllW_nil h2;obtain⟨xs,rfl,h3⟩:=hasW_list h1;obtain⟨ns,rfl⟩:=items_int h3;have a_:ns.length<=n:=by
  unfold OpenLaw.pre at hc;have h4:(WTm.not (.lt (.lit (.int (n:Int))) (.len (.arg 0)))).holds [] { args:=[.list (ns.map .int)] }=true:=by have h4:=(holds_andW hc).1;rw[hn] at h4;exact h4
  have h5:=condW_of h4 (w_not (w_lt w_lit (w_len_list (w_arg rfl))));rw[o_] at h5;refine Nat.le_of_not_lt λq=>?_;have q':(n:Int)<((ns.length:Nat):Int):=by omega
  first
   |(rw[E_ q'] at h5;exact absurd h5 (by decide))
   |(simp at h5;omega)
 cases hwl with
 |
  cons w1 w2=>
  cases w2;cases w1 with
  |list ho hall=>exact⟨_,_,ns,rfl,rfl,ho,mX ns _ hall,a_⟩
def AI(l:OpenLaw)(args:List WData):l.row.toRowW.claim.post args (.bool true) args=true:=
 postW_of (r:=l.row.toRowW) (X:=(true==true))
  (show WShape.has [] (.bool true) .bool=true by first |rfl |decide |simp [WShape.has,WShape.arms,WShape.armsAll])
  (show (WTm.eq .res (.lit (.bool true))).value [] { args:=args,res:=some (.bool true),after:=args }=some (.bool (true==true)) from w_eq_bool (w_res rfl) w_lit) rfl
def attach_call{l:OpenLaw}{n:Nat}{q:Program}{loose:List Str}{XP:(Str->Option Value)->Heap->Prop}{YP:World->Heap->Prop}{d:DefRec}
 (hn:l.most=some n) (hdf:d.params.defaults=[])
 (call:∀(w:World) (s₀ s₁:Shared) (mg mb:Qt) (fa:Addr) (o:Obj) (pm cd doc:Value) (a:Addr) (vs:List Value) (ns:List Int),
  Ground q loose [] XP w s₀ mg mb s₁.heap->YP w s₁.heap->
  s₁.heap.get? fa=some o->o.data=.func (docDef d.name d.params d.body d.scope pm cd doc)->s₁.heap.CodeRec cd d.name->mg d.name=some (.ref fa)->
  s₁.heap.get? a=some { cls:=.type "list",data:=.seq vs.toArray }->IntsAre vs ns->ns.length<=n->s₁.gens=#[]->
  codeAny (model l.prog w) callerA (.call (.ref fa) ⟨[.ref a],[]⟩) (λr s'=>r=.ok (.ret (.bool true))/\OldK s₁.heap s'.heap/\s'.os=s₁.os/\AllBare s'.gens) s₁):
 WalkO q loose XP YP l.row.toRowW d [] (λf vs=>PySem.call f vs):=by
 intro w s₀ s₁ mg mb G Y fa o pm cd doc dV kV ho hd j_ hD hmg hg args vals as hpre hlay hrd hwl hlo;obtain rfl:dV=.none:=Dflts.none hD hdf;obtain rfl:kV=.none:=Dflts.noKw hD;obtain⟨a,vs,ns,rfl,rfl,hobj,hints,a_⟩:=yY hn hpre hwl;refine enter_call (PJ (call w s₀ s₁ mg mb fa o pm cd doc a vs ns G Y ho (fd_plain hd) j_ hmg hobj hints a_ hg) λr s' hq=>?_);obtain⟨rfl,h2,h3,h4⟩:=hq;exact⟨.inl ⟨.bool true,.bool true,[],rfl,λ_=>rfl,.bool true,AI l _,λ_=>⟨List.Pairwise.nil,λ_ hm=>(nomatch hm)⟩⟩,h2,h3,h4⟩
section
def sJ(h:Heap):Heap:={ h with objs:=#[] }
def xS(h:Heap)(b:Addr):(sJ h).get? b=none:=by
 cases e:(sJ h).get? b with
 |none=>rfl
 |some o=>exact absurd (z_ e) (OV _)
def ledger(h:Heap)(L d:Addr):List (Addr×Obj):=(List.range h.objs.size).filterMap λa=>if a=L\/a=d then none else (h.get? a).map λo=>(a,o)
def fr_all(n:h.Ns L m):Fr (sJ h) L h m:=
 ⟨n,λb o e=>(by rw[xS] at e;cases e),N3 _⟩
end
end Att
namespace L2
open PySem PySem.Spec PyProof.Rows
theorem kx:∀{vs:List Value}{ns:List Int},IntsAre vs ns->Vals (ns.map V.int) vs
 |_,_,.nil=>.nil
 |_,_,.cons n t h=>.cons ⟨t,rfl⟩ (kx h)
def Cn(H:Hp):Prop:=∀b,H b=none\/∃o xs,H b=some (.frz o (.lst xs))
def Bq{P:Program}{w:World}{K:W.Frag}{mg mb:Qt}{CX:CXT}{k:Nat}{fa a:Addr}{fd:FuncData}{x:Str}{sp:Sp}{s₁:Shared}{vs:List Value}{ns:List Int}
 (KX:K.In s₁.heap) (hns:s₁.heap.Ns mainGlobals mg) (hb:s₁.heap.Ns builtinsNs mb) (hbb:∀x:Str,x ≠ "__name__"->mb x=bootBuiltins x) (hlim:s₁.heap.NoLimit) (hg:s₁.gens=#[])
 (ha:s₁.heap.get? a=some { cls:=.type "list",data:=.seq vs.toArray }) (hi:IntsAre vs ns) (hl:ns.length<=sizeLine) (hr:Room k callerA)
 (F:∀base:Heap,K.In base->base.Ns mainGlobals mg->FnOk P w K mg base CX k fa fd [x] sp) (hbind:∀(s:Shared) (u:Value),BindsTo s fd ⟨[u],[]⟩ [(x,u)])
 (hsp:∀H:Hp,Cn H->SqL K H a (ns.map V.int)->sp [.ref a] H (λv _=>v=.bl true) λ_ _ _=>False)
 (hCX:∀H e s',CX [] H s₁ (λ_ _ _=>False) e s'->False):
 codeAny (model P w) callerA (.call (.ref fa) ⟨[.ref a],[]⟩) (λr s'=>r=.ok (.ret (.bool true))/\OldK s₁.heap s'.heap/\s'.os=s₁.os/\AllBare s'.gens) s₁:=by
 have rv:=kx hi;have lenV:=hi.length;have core
  : ∀H:Hp,Cn H->SqL K H a (ns.map V.int)->HOk P w H s₁.heap->(∀b,H b≠none->b=a)->(H a≠none->K.lookup a=none)->
  codeAny (model P w) callerA (.call (.ref fa) ⟨[.ref a],[]⟩) (λr s'=>r=.ok (.ret (.bool true))/\OldK s₁.heap s'.heap/\s'.os=s₁.os/\AllBare s'.gens) s₁:=by
  intro H hO hS hok hA hK;have base_of:∀{b:Addr}{o:Obj},s₁.heap.get? b=some o->H b=none->(fL s₁.heap H).get? b=some o:=λe n=>uz e n;have noA:∀{b:Addr}{o:Obj}{es:Array DictEntry}{ep:Nat},s₁.heap.get? b=some o->o.data=.dict es ep->H b=none:=λ{b o es ep} e d=>by
   cases q:H b with
   |none=>rfl
   |some u=>have e':b=a:=hA b (by rw[q];simp);subst e';rw[ha] at e;cases e;have d':Data.seq vs.toArray _=Data.dict es ep:=d;cases d'
  have nsK:∀{b:Addr}{m:Qt},s₁.heap.Ns b m->(fL s₁.heap H).Ns b m:=λ{b m} ⟨o,es,ep,e,d,r⟩=>⟨o,es,ep,base_of e (noA e d),d,r⟩;have hKb:K.In (fL s₁.heap H):=λb o e=>base_of (KX b o e) (by
   cases q:H b with
   |none=>rfl
   |some u=>have e':b=a:=hA b (by rw[q];simp);subst e';rw[hK (by rw[q];simp)] at e;cases e)
  have hM:Mod K mg (fL s₁.heap H):=⟨hKb,nsK hns,⟨mb,nsK hb,hbb⟩,let ⟨mc,h1,h2⟩:=hlim;⟨mc,nsK h1,h2⟩⟩;have e0:Env0 P w K mg (fL s₁.heap H) callerA [] s₁ H:=⟨rfl,hM,λb o e=>vx e,Nat.le_of_eq (pA _ _),trivial,λb hb=>absurd (show b∈([]:List Addr) from hb) (by simp),hok,.of_eq hg⟩;refine PJ ((F _ hKb (nsK hns)).run callerA [] s₁ H ⟨[.ref a],[]⟩ [.ref a] [.ref a] _ _ hr e0 (hbind s₁ (.ref a)) (.cons rfl .nil) (hsp H hO hS)) λr s' h=>?_;cases r with
  |error e=>exact (hCX H e s' h).elim
  |
   ok fl=>
   cases fl with
   |next=>exact False.elim h
   |brk=>exact False.elim h
   |cont=>exact False.elim h
   |
    ret u=>
    obtain⟨v,H',os,bare,un,hok',r',q⟩:=h;have q':v=.bl true:=q;subst q';obtain rfl:u=Value.bool true:=r';refine⟨rfl,OldK.of_keep λb o e=>?_,os,bare⟩;cases q:H b with
    |none=>exact un.keep b o e q (by intro z;exact absurd (show b∈([]:List Addr) from z) (by simp)) (by simp)
    |
     some u=>
     rcases hO b with z |⟨ob,xs,z⟩
     .rw[q] at z;cases z
     .have z2:=un.frzs b ob _ z;obtain⟨e1,_⟩:=hok b _ z;obtain⟨e2,_⟩:=hok' b _ z2;rw[e] at e1;cases e1;exact e2
 cases hk:K.lookup a with
 |some o=>have e:=KX a o hk;rw[ha] at e;cases e;refine core (λ_=>none) (λ_=>.inl rfl) (.inr ⟨_,vs.toArray,_,hk,rfl,rfl,rfl,by rw[x_,lenV];exact hl,by simpa using rv⟩) (λb u z=>by have z':(none:Option HO)=some u:=z;cases z') (λb z=>absurd rfl z) λz=>absurd rfl z
 |
  none=>
  refine core (λb=>if b=a then some (.frz { cls:=.type "list",data:=.seq vs.toArray } (.lst (ns.map V.int))) else none) (λb=>?_) (.inl (.inr ⟨{ cls:=.type "list",data:=.seq vs.toArray },if_pos rfl⟩)) (λb u z=>?_) (λb z=>?_) λ_=>hk
  .by_cases hb:b=a
   .exact .inr ⟨_,_,if_pos hb⟩
   .exact .inl (if_neg hb)
  .by_cases hb:b=a
   .have z':=(if_pos hb).symm.trans z;cases z';subst hb;exact⟨ha,by rw[o_];exact hl,vs,_,rv,ha⟩
   .have z':=(if_neg hb).symm.trans z;cases z'
  .by_cases hb:b=a
   .exact hb
   .exact absurd (if_neg hb) z
abbrev KOf{K:W.Frag}{h:Heap}(_:K.In h):W.Frag:=K
def Nz{l:W.OpenLaw}{n k:Nat}{q:Program}{loose:List Str}{XP:(Str->Option Value)->Heap->Prop}{YP:World->Heap->Prop}{d:DefRec}{K:Params->W.Frag}{CX:World->CXT}{sp:World->Sp}{x:Str}
 (hn:l.most=some n) (hn2:n<=sizeLine) (hdf:d.params.defaults=[]) (hr:Room k callerA)
 (hY:∀(w:World) (h:Heap),YP w h->(K w.params).In h)
 (F:∀(w:World) (mg:Qt) (fa:Addr) (h:Heap),(K w.params).In h->h.Ns mainGlobals mg->mg d.name=some (.ref fa)->
  ∃
   fd:FuncData,(∀(s:Shared) (u:Value),BindsTo s fd ⟨[u],[]⟩ [(x,u)])/\
   ∀base:Heap,(K w.params).In base->base.Ns mainGlobals mg->FnOk l.prog w (K w.params) mg base (CX w) k fa fd [x] (sp w))
 (hsp:∀(w:World) (H:Hp) (a:Addr) (ns:List Int),ns.length<=n->Cn H->SqL (K w.params) H a (ns.map V.int)->sp w [.ref a] H (λv _=>v=.bl true) λ_ _ _=>False)
 (hCX:∀(w:World) (H:Hp) (s:Shared) (e:Value) (s':Shared),CX w [] H s (λ_ _ _=>False) e s'->False):
 W.WalkO q loose XP YP l.row.toRowW d [] (λf vs=>PySem.call f vs):=by
 refine Att.attach_call hn hdf λw s₀ s₁ mg mb fa o pm cd doc a vs ns G Y ho hd j_ hmg hobj hints a_ hg=>?_;have KX:=hY w _ Y;obtain⟨fd,hb,hF⟩:=F w mg fa _ KX G.T.g hmg;exact Bq KX G.T.g G.T.b G.T.builtins G.T.nolimit hg hobj hints (NG a_ hn2) hr hF hb (λH hO hS=>hsp w H a ns a_ hO hS) λH e s'=>hCX w H s₁ e s'
noncomputable def cI (s:Stmt):Arguments:=match s with
 |.FunctionDef _ a _ _ _ _ _ _ _ _=>a
 |_=>{ posonlyargs:=[],args:=[],vararg:=none,kwonlyargs:=[],kw_defaults:=[],kwarg:=none,defaults:=[] }
noncomputable def bq (s:Stmt):List Stmt:=match s with
 |.FunctionDef _ _ b _ _ _ _ _ _ _=>b
 |_=>[]
noncomputable def au (s:Stmt):Scope:=match s with
 |.FunctionDef _ _ _ _ _ _ sc _ _ _=>sc
 |_=>{ kind:=.function,names:=[],isGenerator:=false,isCoroutine:=false }
abbrev E0:XK:=λ_ _ _=>False
structure Fun(K:W.Frag)(x qual:Str)(st:Stmt)(f:Addr)(fd:FuncData):Prop where
 ex:∃(oc:Value) (od:Option Addr) (kV doc pm:Value) (an:Option Addr) (cdv ct:Value) (osl:Array (Option Value)),
  fd=W.fnOf x qual (cI st) (bq st) (au st) .none kV doc pm an cdv ct/\K.lookup f=some ⟨oc,od,.func fd,osl⟩/\W.codeIn K cdv qual=true
 kp:W.keepIn K (.ref f)=true
section
variable{K:W.Frag}
def Fun.binds{x qual:Str}{st:Stmt}{f:Addr}{fd:FuncData}{ps:List Str}(F:Fun K x qual st f fd)
 (h:∀(kV doc pm:Value) (an:Option Addr) (cdv ct:Value) (us:List Value),us.length=ps.length->bindArgs (W.fnOf x qual (cI st) (bq st) (au st) .none kV doc pm an cdv ct) ⟨us,[]⟩=pure (ps.zip us)):Binds K fd ps []:=by
 obtain⟨oc,od,kV,doc,pm,an,cdv,ct,osl,rfl,lk,j_⟩:=F.ex;exact .all (h kV doc pm an cdv ct)
def JV{x qual:Str}{st:Stmt}{f:Addr}{oc:Value}{od an:Option Addr}{osl:Array (Option Value)}{kV doc pm cdv ct:Value}(l:K.lookup f=some ⟨oc,od,.func (W.fnOf x qual (cI st) (bq st) (au st) .none kV doc pm an cdv ct),osl⟩)
 (c:W.codeIn K cdv qual=true) (k:W.keepIn K (.ref f)=true):Fun K x qual st f (W.fnOf x qual (cI st) (bq st) (au st) .none kV doc pm an cdv ct):=⟨⟨oc,od,kV,doc,pm,an,cdv,ct,osl,rfl,l,c⟩,k⟩
end
def Nh(hr:Room k A):A.units+1<cLine:=OP (Nat.add_le_add_left (by decide:1<=64) _) hr.units
section
variable{X:Cx}{pins:Qu}{σ:St}{H:Hp}{s:Shared}
def Inv.track{a:Addr}{o:HO}(I:Inv X pins σ H s)(hn:H a=none)(h0:X.s₀.heap.get? a=none)(hL:a≠X.env.locals)(hc:∀x c,X.env.cells.lookup x=some c->c≠a)
 (hp:∀p∈X.pn++pins,p.1≠a) (new:ObjOk X.prog X.w (upd H a o) s.heap a o):Inv X pins σ (upd H a o) s:=by
 have ne:∀b u,H b=some u->b≠a:=λb u e z=>by rw[z,hn] at e;cases e
 have ne0:∀b u,X.s₀.heap.get? b=some u->b≠a:=λb u e z=>by rw[z,h0] at e;cases e
 refine⟨I.ok,I.os,I.bare,⟨I.base.keep,I.base.slot,λb u e n hx=>?_,I.base.there,λb xs e=>?_,λb u xs e=>?_,λb ps e=>?_⟩,I.loc,I.cell,?_,λx c e=>?_,λp hp'=>?_,λb u e=>?_,I.len⟩
 .rw[aK (ne0 b u e)];exact I.base.free b u e n hx
 .have q:=I.base.tups b xs e;rw[aK (ne _ _ q)];exact q
 .have q:=I.base.frzs b u xs e;rw[aK (ne _ _ q)];exact q
 .obtain⟨m,q⟩:=I.base.tbls b ps e;exact⟨m,by rw[aK (ne _ _ q)];exact q⟩
 .rw[aK (Ne.symm hL)];exact I.free
 .rw[aK (hc x c e)];exact I.freeC x c e
 .obtain⟨e,n,r⟩:=I.pin p hp';exact⟨e,by rw[aK (hp p hp')];exact n,r⟩
 .by_cases hb:b=a
  .subst hb;rw[aO] at e;cases e;exact new
  .rw[aK hb] at e;exact (I.hok b u e).stay (λc v _ q=>q) (λc q=>by rw[aK (ne _ _ q)];exact q) λc xs q=>by rw[aK (ne _ _ q)];exact q
end
theorem jK{env:Env}:∀{names:List (Str×NameKind)} (cs:List (Str×Addr)),(∀x∈names,x.2=.free->∃c,env.cells.lookup x.1=some c)->(∀x c,cs.lookup x=some c->env.cells.lookup x=some c)->
 ∃
  cl,(forIn names cs λ(x:Str×NameKind) (r:List (Str×Addr))=>if (x.2==NameKind.free)=true then do let a <- cellOf env x.1;pure (ForInStep.yield ((x.1,a)::r)) else pure (ForInStep.yield r):Sem (List (Str×Addr)))=pure cl/\
  (∀x c,cl.lookup x=some c->env.cells.lookup x=some c)/\(∀x c,cs.lookup x=some c->∃c',cl.lookup x=some c')/\∀x∈names,x.2=.free->∃c,cl.lookup x.1=some c
 | [],cs,_,h=>⟨cs,by simp,h,λx c e=>⟨c,e⟩,λ_ hx=>nomatch hx⟩
 |
  (n,k)::r,cs,hf,h=>by
  rw[Pw];by_cases hk:k=.free
  .subst hk;obtain⟨c,hc⟩:=hf (n,.free) s_ rfl;have m_:cellOf env n=pure c:=by unfold cellOf;rw[hc]
   have h':∀x d,((n,c)::cs).lookup x=some d->env.cells.lookup x=some d:=λx d e=>by
    rw[Ou] at e;cases q:x==n with
    |true=>rw[q] at e;cases e;rw[NO.mp q];exact hc
    |false=>rw[q] at e;exact h x d e
   obtain⟨cl,e1,e2,e3,e4⟩:=jK (env:=env) (names:=r) ((n,c)::cs) (λx hx=>hf x (q_ _ hx)) h';have top:∃c',cl.lookup n=some c':=e3 n c (by rw[Ou];simp);refine⟨cl,?_,e2,λx d e=>?_,λx hx hfr=>?_⟩
   .simp only[beq_self_eq_true,OW,m_];exact e1
   .by_cases q:x=n
    .rw[q];exact top
    .exact e3 x d (by rw[Ou,(J_.mpr q:(x==n)=false)];exact e)
   .rcases F_.mp hx with rfl |hx
    .exact top
    .exact e4 x hx hfr
  .have hb:(k==NameKind.free)=false:=by simpa using hk
   obtain⟨cl,e1,e2,e3,e4⟩:=jK (env:=env) (names:=r) cs (λx hx=>hf x (q_ _ hx)) h;refine⟨cl,?_,e2,e3,λx hx hfr=>?_⟩
   .simp only[hb,ON,Pl];exact e1
   .rcases F_.mp hx with rfl |hx
    .exact absurd hfr hk
    .exact e4 x hx hfr
def p9{env:Env}{scope:Scope}(hf:∀x∈scope.names,x.2=.free->∃c,env.cells.lookup x.1=some c):
 ∃cl,closureFor scope env=pure cl/\(∀x c,cl.lookup x=some c->env.cells.lookup x=some c)/\∀x∈scope.names,x.2=.free->∃c,cl.lookup x.1=some c:=by
 obtain⟨cl,e1,e2,_,e4⟩:=jK (env:=env) (names:=scope.names) [] hf (λx c e=>by simp at e);refine⟨cl,?_,e2,e4⟩;unfold closureFor;simp only[e1];rfl
noncomputable def cm (X:Cx) (N:List Str) (scope:Scope) (cl:List (Str×Addr)) (C:Addr) (s₂:Shared) (H:Hp) (fp:List Addr):Cx:=
 { X with N:=N,s₀:=s₂,H₀:=H,env:=compEnvC scope cl C X.env,outer:=X.stack,stack:=X.stack,ex:=fp,fn:=λ_=>false,pn:=[],xe:=λ_ _=>False }
noncomputable def fh (sub:Qw) (σ:St):St:=sub.map λo=>o.bind λi=>(σ[i]?).bind id
def LcW(J:It)(sub:Qw)(g:TG)(tc:TT)(te:TE)(σ:St)(H1:Hp)(Q:VK):Prop:=∃W:Nat->Nat->List V->St->Hp->Prop,(∃m,W 0 m [] (fh sub σ) H1)/\∀i m ys σ H,W i m ys σ H->
 (J.stop i H/\ys.length<=sizeLine/\∀D,H D=none->Q (.ref D) (upd H D (.lst ys)))\/
 (J.go i H/\ys.length<sizeLine/\∃Nx:List V->St->Hp->Prop,(∀ys' σ' H',Nx ys' σ' H'->∃m',m'<m/\W (i+1) m' ys' σ' H')/\
  ∀x H',J.yld i H x H'->g x σ H' λσ2 H2=>tc σ2 H2 λb H3=>if b=true then te σ2 H3 λy H4=>Nx (ys++[y]) σ2 H4 else Nx ys σ2 H3)
def qR(wi:TI)(sub:Qw)(g:TG)(tc:TT)(te:TE):TE:=λσ H Q=>wi σ H λJ H1=>LcW J sub g tc te σ H1 Q
section
variable{prog:Program}{w:World}{A:Around}{R:Result->Shared->Prop}{s:Shared}
def ue{elt target iter:Expr}{ifs:List Expr}{scope:Scope}{pos:Pos}{it acc:Value}{env:Env}(I:Nat->Shared->Prop)
 (turn
  : ∀n s,I n s->wpAny (model prog w) A (pyNext it) (λr s₁=>match r with
  |none=>R (.ok .next) s₁
  |some v=>wpAny (model prog w) A (letOwnedTupleGo target it v) (λ_ s₁'=>wpAny (model prog w) A (assign target env v) (λ_ s₂=>
   wpAny (model prog w) A (forIn ifs true λc r=>if r=true then do let ok <- isTrue c env (eval c env);pure (ForInStep.yield ok) else pure (ForInStep.yield r))
    (λok s₃=>if ok=true then wpAny (model prog w) A (eval elt env) (λx s₄=>wpAny (model prog w) A (call (.builtin "list.append") [acc,x]) (λ_ s₅=>∃m,m<n/\I m s₅) (λ_ _=>False) s₄) (λ_ _=>False) s₃
     else ∃m,m<n/\I m s₃) (λ_ _=>False) s₂) (λ_ _=>False) s₁') (λ_ _=>False) s₁) (λ_ _=>False) s)
 (n:Nat) (h:I n s):
 codeAny (model prog w) A (.compLoop (.ListComp elt [⟨target,iter,ifs,0⟩] scope pos) 0 it acc env) R s:=by
 refine codeAny_loop rfl I (λn s hI=>?_) n h;show wpAny _ _ ((compTurn (.ListComp elt [⟨target,iter,ifs,0⟩] scope pos) 0 it acc env).onRaise (λx=>do noteFrame x env;theTreesLotGoes x)) _ _ s;refine wpAny_noted ?_;rw[compTurn_list];refine ND (E:=λ_ _=>False) ?_ (λ_ _ q=>q) λ_ _ q=>q.elim;refine n_ (O5 (n_ (ND (turn n s hI) (λr s₁ h₁=>?_) λ_ _ h'=>h')));cases r with
 |none=>exact v_ h₁
 |
  some v=>
  refine n_ (ND h₁ (λ_ s₁' h₁'=>?_) λ_ _ h'=>h');refine n_ (ND h₁' (λ_ s₂ h₂=>?_) λ_ _ h'=>h');refine n_ (ND h₂ (λok s₃ h₃=>?_) λ_ _ h'=>h');cases ok with
  |true=>simp only[OW] at h₃ ⊢;refine n_ (n_ (ND h₃ (λx s₄ h₄=>?_) λ_ _ h'=>h'));refine n_ (ND h₄ (λ_ s₅ h₅=>?_) λ_ _ h'=>h');exact v_ (v_ ⟨rfl,h₅⟩)
  |
   false=>
   simp only[ON,Pl] at h₃ ⊢;first
    |exact n_ (v_ (v_ ⟨rfl,h₃⟩))
    |exact v_ ⟨rfl,h₃⟩
end
section
variable{X:Cx}
def PTs(X:Cx)(ifs:List Expr)(t:TT):Prop:=
 ∀
  (pins:Qu) (s:Shared) (σ:St) (H:Hp) (Q:Bool->Hp->Prop),Inv X pins σ H s->t σ H Q->
  wpAny (model X.prog X.w) X.A (forIn ifs true λc r=>if r=true then do let ok <- isTrue c X.env (eval c X.env);pure (ForInStep.yield ok) else pure (ForInStep.yield r)) (TP X pins σ Q) X.xe s
def F3:PTs X [] (λ_ H Q=>Q true H):=λpins s σ H Q I h=>by rw[Ql];exact v_ ⟨H,I,h⟩
structure LcEnd(X:Cx)(pins:Qu)(σ:St)(Q:VK)(D C:Addr)(s4:Shared):Prop where
 ns:∃m,s4.heap.Ns C m
 dc:D<C
 fr:X.env.locals<D
 cell:∀x c,X.env.cells.lookup x=some c->c<D
 pin:∀p∈X.pn++pins,p.1<D
 sz:X.s₀.heap.objs.size<=D
 inv:∃H',H' C=none/\Q (.ref D) H'/\∀h',Heap.SameBut C s4.heap h'->Inv X pins σ H' { s4 with heap:=h' }
def wz{elt iter tg:Expr}{ifs:List Expr}{scope:Scope}{pos:Pos}{wi:TI}{g:TG}{tc:TT}{te:TE}{N:List Str}{sub:Qw}{use:Option (Value->Sem Unit)}{R:Qv}{pins:Qu}{s:Shared}{σ:St}{H:Hp}{Q:VK}{fpos:Pos}
 (hc:X.calm=true) (hi:PI X tg iter wi)
 (hk:scope.kind=.function) (hnc:∀x∈scope.names,x.2 ≠ .cell) (h_:∀x∈scope.names,x.2=.local->scope.names.lookup x.1=some .local)
 (hfr:∀x∈scope.names,x.2=.free->X.env.kindOf x.1=some .cell\/X.env.kindOf x.1=some .free)
 (hsl:sub.length=N.length) (hsub:∀(j i:Nat) (x:Str),sub[j]?=some (some i)->N[j]?=some x->X.N[i]?=some x/\scope.names.lookup x=some .free)
 (hg:∀cl C s₂ H fp,PG (cm X N scope cl C s₂ H fp) tg g) (ht:∀cl C s₂ H fp,PTs (cm X N scope cl C s₂ H fp) ifs tc) (he:∀cl C s₂ H fp,PE (cm X N scope cl C s₂ H fp) elt te)
 (hs:∀x,foldedSetIterable iter X.env x=pure x) (I:Inv X pins σ H s) (h:qR wi sub g tc te σ H Q)
 (f_:∀D C s4,LcEnd X pins σ Q D C s4->compPost (model X.prog X.w) X.A X.xe use R (.ref D) C (.ok .next) s4):
 wpAny (model X.prog X.w) X.A (comprehension (.ListComp elt [⟨tg,iter,ifs,0⟩] scope pos) scope X.env fpos (newList []) false (eval iter X.env) use) R X.xe s:=by
 obtain⟨cl,hclos,hcl,hclf⟩:=p9 (env:=X.env) (scope:=scope) λx hx hf=>I.ok.has x.1 (hfr x hx hf);refine wpAny_comprehension_free rfl hs hclos hk h_ ?_;show wpAny _ _ (eval iter X.env) _ _ _;refine thn (hi pins s σ H _ I h) λv s1 h1=>thn h1 λitv s2 h2=>?_;obtain⟨it,fp,tn,J,H2,e,I2,T,st2,f2,W,⟨m0,w0⟩,turn⟩:=h2;subst e;refine N6 (wpAny_newFunctionEnv hnc (by intro y hy;simp at hy) (λh₁ hns₁ hsb₁=>?_) hk);dsimp only at hns₁ hsb₁ ⊢;generalize hH2:s2.heap.push { cls:=.type "list",dict:=none,data:=.seq ([]:List Value).toArray }=G2 at hns₁ hsb₁ ⊢;have hC:G2.objs.size=s2.heap.objs.size+1:=by rw[<- hH2,PK]
 have hDC:s2.heap.objs.size≠G2.objs.size:=by omega
 have below:∀b,b<s2.heap.objs.size->b≠G2.objs.size/\b≠s2.heap.objs.size:=λb hb=>⟨by omega,by omega⟩;have old:∀b o,s2.heap.get? b=some o->h₁.get? b=some o:=λb o e=>hsb₁.extBut b o (below b (z_ e)).1 (p_ _ (hH2 ▸ p_ _ e));have hD₁:h₁.get? s2.heap.objs.size=some { cls:=.type "list",dict:=none,data:=.seq ([]:List Value).toArray }:=hsb₁.extBut _ _ hDC (p_ _ (hH2 ▸ Em _ rfl));have fresh:∀a,s2.heap.objs.size<=a->s2.heap.get? a=none:=λa ha=>P_ ha;have cellOld:∀x c,cl.lookup x=some c->c<s2.heap.objs.size:=λx c e=>by obtain⟨v,z⟩:=I2.cell x c (hcl x c e);exact z.lt
 have fpOld:∀b∈fp,b<s2.heap.objs.size:=λb hb=>by obtain⟨o,e,_⟩:=T.obj _ _ st2 b hb;exact z_ e
 let Y:Cx:=cm X N scope cl G2.objs.size s2 H2 fp
 have okY:Y.Ok
  := by
  refine⟨I2.ok.mod,?_,I2.ok.glob,I2.ok.blt,?_,λx y c e1 e2=>I2.ok.inj x y c (hcl x c e1) (hcl y c e2),λx hx=>?_,λx c hfn _=>absurd hfn u_,I2.ok.hd,I2.ok.frames,.inl rfl,
   λb hb=>⟨?_,λx c e z=>?_⟩,I2.bs,NG I2.ok.bsz I2.sz,λb o e hb=>?_,λb hb hf=>?_,I2.stack,I2.stkFree⟩
  .show (relabel scope X.env).kind=.function;exact hk
  .show s2.heap.objs.size<=G2.objs.size;omega
  .have hx':(
    relabel scope X.env).names.lookup x=some .cell\/(relabel scope X.env).names.lookup x=some .free:=hx
   have:∃k,
    (x,k)∈scope.names/\k=.free:=by
    have gen:∀(names:List (Str×NameKind)),(∀y∈names,y.2 ≠ .cell)->∀kk,(kk=NameKind.cell\/kk=NameKind.free)->(names.map λ(n,k)=>if (k==NameKind.free&&X.env.scope.kind == .function&&X.env.kindOf n==some .cell) then (n,NameKind.cell) else (n,k)).lookup x=some kk->∃k,(x,k)∈names/\k=.free:=by
     intro names;induction names with
     |nil=>intro _ kk _ e;simp at e
     |
      cons y r ih=>
      intro hn kk hkk e;obtain⟨n,k⟩:=y;rw[y_,Ou] at e;by_cases hkf:k=.free
      .subst hkf;by_cases hxn:x=n
       .exact⟨.free,by rw[hxn];exact s_,rfl⟩
       .have hb:(x==(if (NameKind.free==NameKind.free&&X.env.scope.kind == .function&&X.env.kindOf n==some .cell)=true then (n,NameKind.cell) else (n,NameKind.free)).1)=false:=by split <;> exact J_.mpr hxn
        rw[hb] at e;obtain⟨k',m,q⟩:=ih (λz hz=>hn z (q_ _ hz)) kk hkk e;exact⟨k',q_ _ m,q⟩
      .have hb0:(k==NameKind.free&&X.env.scope.kind == .function&&X.env.kindOf n==some .cell)=false:=by
        have:(k==NameKind.free)=false:=by simpa using hkf
        rw[this];rfl
       rw[hb0] at e;simp only[ON,Pl] at e;cases q:x==n with
       |
        true=>
        rw[q] at e;have e':k=kk:=H_ e;subst e';rcases hkk with z |z
        .exact absurd z (hn (n,k) s_)
        .exact absurd z hkf
       |false=>rw[q] at e;obtain⟨k',m,q⟩:=ih (λz hz=>hn z (q_ _ hz)) kk hkk e;exact⟨k',q_ _ m,q⟩
    rcases hx' with z |z
    .exact gen scope.names hnc _ (.inl rfl) z
    .exact gen scope.names hnc _ (.inr rfl) z
   obtain⟨k,m,q⟩:=this;exact hclf (x,k) m q
  .show b≠G2.objs.size;exact (below b (fpOld b hb)).1
  .exact (f2 b hb).2.2.2.2.1 x c (hcl x c e) z
  .rcases (f2 b hb).2.2.2.1 with z |z
   .exact I2.ok.noex b o e z
   .exact absurd (I_ (z_ e) (NG I2.ok.bsz z)) (Od _)
  .have hf':b∈frs X.stack:=hf;rcases F_.mp (I2.stkSub b hf') with z |z
   .exact (f2 b hb).2.1 z
   .exact (f2 b hb).2.2.1 z
 have startLoc
  : ∃m,h₁.Ns G2.objs.size m/\∀(i:Nat) (x:Str) (v:V),N[i]?=some x->(fh sub σ)[i]?=some (some v)->Vis (relabel scope X.env) x->∃u,RelV v u/\Cj Y.env h₁ m x u:=by
  refine⟨_,hns₁,λj x v e1 e2 e3=>?_⟩;unfold fh at e2;rw[NB] at e2;cases q:sub[j]? with
  |none=>rw[q] at e2;cases e2
  |
   some o=>
   rw[q] at e2;cases o with
   |none=>cases e2
   |
    some i=>
    obtain⟨hNi,hfree⟩:=hsub j i x q e1;have e2':(σ[i]?).bind id=some v:=H_ e2;have e2'':σ[i]?=some (some v):=by
     cases z:σ[i]? with
     |none=>rw[z] at e2';cases e2'
     |some y=>rw[z] at e2';rw[show y=some v from e2']
    obtain⟨m2,hn2,hl2⟩:=I2.loc;have hkx:=hfr (x,.free) (Oq hfree) rfl;obtain⟨u,r,l⟩:=hl2 i x v hNi e2'' (by rcases hkx with z |z;exact .inr (.inl z);exact .inr (.inr z));refine⟨u,r,.inr ⟨?_,?_⟩⟩
    .rcases e3
      with z |z |z
     .exfalso;have gen:∀(names:List (Str×NameKind)),names.lookup x=some .free->(names.map λ(n,k)=>if (k==NameKind.free&&X.env.scope.kind == .function&&X.env.kindOf n==some .cell) then (n,NameKind.cell) else (n,k)).lookup x=some .local->False:=by
       intro names;induction names with
       |nil=>intro e _;simp at e
       |
        cons y r ih=>
        intro e1 e2;obtain⟨n,k⟩:=y;rw[Ou] at e1;rw[y_,Ou] at e2;by_cases hxn:x=n
        .have hb1:(x==n)=true:=NO.mpr hxn;rw[hb1] at e1;have:k=.free:=H_ e1;subst this;split at e2
         .rename_i hq;split at e2 <;> cases e2
         .rename_i hq;split at hq <;> (rw[hb1] at hq;cases hq)
        .have hb1:(x==n)=false:=J_.mpr hxn;rw[hb1] at e1;refine ih e1 ?_;split at e2
         .rename_i hq;split at hq <;> (rw[hb1] at hq;cases hq)
         .exact e2
      exact gen scope.names hfree z
     .exact .inl z
     .exact .inr z
    .obtain⟨c,hc'⟩:=hclf (x,.free) (Oq hfree) rfl;refine⟨c,hc',?_⟩;rcases l with ⟨k,_⟩ |⟨_,c2,ec2,z⟩
     .rcases hkx with z |z <;> (rw[k] at z;cases z)
     .have:=hcl x c hc'
      rw[ec2] at this;cases this;obtain⟨oc,hoc,hd⟩:=z;exact⟨oc,old _ _ hoc,hd⟩
 have pinD:∀{σ':St}{H':Hp}{s':Shared}{pl:Qu}{o:Obj},Inv Y pl σ' H' s'->s'.heap.get? s2.heap.objs.size=some o->(∀v,o.data ≠ .cell v)->H' s2.heap.objs.size=none->Inv Y [(s2.heap.objs.size,o)] σ' H' s':=λ{σ' H' s' pl o} IY e d n=>
  IY.pins_of λp hp=>by
   have e':p=(s2.heap.objs.size,o):=by simpa using hp
   subst e';refine⟨e,n,?_,?_,d⟩
   .show s2.heap.objs.size≠G2.objs.size;omega
   .intro hf;have hf':s2.heap.objs.size∈frs X.stack:=hf;obtain⟨_,o',ho',_⟩:=I2.stack.mem hf';exact absurd (z_ ho') (Od _)
 have fpY:∀{H':Hp}{pl:Qu},(∀b∈fp,H' b=none)->(∀p∈pl,p.1∉fp)->∀b∈fp,FpOk Y pl H' b:=λ{H' pl} hn hp b hb=>by
  refine⟨hn b hb,?_,?_,.inl hb,λx c e=>?_,λp hp'=>?_⟩
  .exact (okY.exf b hb).1
  .exact okY.exfs b hb
  .exact (okY.exf b hb).2 x c e
  .intro z;have hp'':p∈pl:=by simpa [Y,cm] using hp'
   exact hp p hp'' (by rw[z];exact hb)
 have hDfp:s2.heap.objs.size∉fp:=λz=>Od _ (fpOld _ z);have loop
  : ∀s₃:Shared,s₃={ s2 with heap:=h₁,toks:=s2.toks+([]:List (Str×Value)).length }->
  codeAny (model X.prog X.w) X.A (.compLoop (.ListComp elt [⟨tg,iter,ifs,0⟩] scope pos) 0 (.ref it) (.ref s2.heap.objs.size) (compEnvC scope cl G2.objs.size X.env))
   (compPost (model X.prog X.w) X.A X.xe use R (.ref s2.heap.objs.size) G2.objs.size) s₃:=by
  rintro s₃ rfl;have IY0:Inv Y [(s2.heap.objs.size,{ cls:=.type "list",dict:=none,data:=.seq ([]:List Value).toArray })] (fh sub σ) H2 { s2 with heap:=h₁,toks:=s2.toks+([]:List (Str×Value)).length }:=by
   have J0:Inv Y [] (fh sub σ) H2 { s2 with heap:=h₁,toks:=s2.toks+([]:List (Str×Value)).length }:=by
    refine⟨okY,rfl,I2.bare,Un.kept old,startLoc,λx c e=>?_,I2.hok.fresh (by show s2.heap.objs.size<=G2.objs.size;omega),λx c e=>I2.freeC x c (hcl x c e),λp hp=>absurd (show p∈([]:Qu) from hp) (by simp),I2.hok.kept old,?_⟩
    .obtain⟨v,oc,hoc,hd⟩:=I2.cell x c (hcl x c e);exact⟨v,oc,old _ _ hoc,hd⟩
    .show (fh sub σ).length=N.length;unfold fh;rw[o_];exact hsl
   exact pinD J0 hD₁ (λv z=>by cases z) I2.fresh
  refine ue (λn s'=>∃(i:Nat) (ys:List V) (its:List Value) (k:Nat) (σ':St) (H':Hp),Inv Y [(s2.heap.objs.size,{ cls:=.type "list",dict:=none,data:=.seq its.toArray k })] σ' H' s'/\Vals ys its/\tn i s'.heap/\(∀b∈fp,H' b=none)/\W i n ys σ' H') ?_ m0
   ⟨0,[],[],0,fh sub σ,H2,IY0,.nil,T.keep _ _ _ st2 (λb hb o e=>old b o e),λb hb=>(f2 b hb).1,w0⟩
  rintro n s3 ⟨i,ys,its,k,σ3,H3,I3,rv,st3,fr3,w3⟩;have npl:∀(o:Obj),∀p∈[(s2.heap.objs.size,o)],p.1∉fp:=λo p hp=>by
   have e':p=(s2.heap.objs.size,o):=by simpa using hp
   subst e';exact hDfp
  rcases turn i n ys σ3 H3 w3 with ⟨stop,hz,qn⟩ |⟨go,hz,Nx,hNx,step⟩
  .refine ND (T.done Y rfl rfl rfl hc i _ s3 σ3 H3 (λ_ _=>False) I3 (fpY fr3 (npl _)) st3 stop) (λr s4 ⟨hr,I4⟩=>?_) λ_ _ z=>z;subst hr;obtain⟨m4,hn4,_⟩:=I4.loc;have hCfree:H3 G2.objs.size=none:=I4.free;have hD4:=I4.pin (s2.heap.objs.size,{ cls:=.type "list",dict:=none,data:=.seq its.toArray k }) (NI _ s_);have un4:Un (frs X.stack) fp H2 H3 s2.heap s4.heap:=I4.base;have ne2:∀b o,s2.heap.get? b=some o->b≠G2.objs.size:=λb o e=>(below b (z_ e)).1;have hDfree:H3 s2.heap.objs.size=none:=hD4.2.1;have sz0:X.s₀.heap.objs.size<=s2.heap.objs.size:=I2.sz;refine f_ s2.heap.objs.size G2.objs.size s4 ⟨⟨m4,hn4⟩,by rw[hC];exact Nat.lt_succ_self _,I2.lt,λx c e=>?_,λp hp=>z_ (I2.pin p hp).1,sz0,upd H3 s2.heap.objs.size (.lst ys),by rw[aK (Ne.symm hDC)];exact hCfree,qn _ hDfree,λh' hs'=>?_⟩
   .obtain⟨v,q⟩:=I2.cell x c e;exact q.lt
   have up:∀b o,b≠G2.objs.size->s4.heap.get? b=some o->h'.get? b=some o:=λb o hb e=>hs'.extBut b o hb e;have un5:Un (frs X.stack) fp H2 H3 s2.heap h':=by
    refine⟨λb o e n hb hx=>up b o (ne2 b o e) (un4.keep b o e n hb hx),λb o e n hb hx=>?_,un4.free,λb o e hx=>?_,un4.tups,un4.frzs,un4.tbls⟩
    .obtain⟨sl,q⟩:=un4.slot b o e n hb hx;exact⟨sl,up b _ (ne2 b o e) q⟩
    .obtain⟨o',q⟩:=un4.there b o e hx;exact⟨o',up b _ (ne2 b o e) q⟩
   have hok5:HOk X.prog X.w H3 h':=λb u e=>(I4.hok b u e).stay (λc v hcc q=>up c v (λz=>by
    rcases hcc with zz |zz
    .rw[zz] at z;rw[z,hCfree] at e;cases e
    .rw[z,hCfree] at zz;cases zz) q) (λ_ q=>q) λ_ _ q=>q
   have I5:Inv X pins σ H3 { s4 with heap:=h' }:=I2.call' (s':={ s4 with heap:=h' }) (ch:=fp) I4.os un5 hok5 I4.bare λb hb=>by obtain⟨_,g1,_,g3,g4,g5⟩:=f2 b hb;exact⟨g3,g1,g4,g5⟩
   refine I5.track (o:=.lst ys) hDfree (P_ sz0) (Pe I2.lt) (λx c e z=>?_) (λp hp z=>?_) ?_
   .obtain⟨v,q⟩:=I2.cell x c e;exact absurd q.lt (by rw[z];exact Od _)
   .exact absurd (z_ (I2.pin p hp).1) (by rw[z];exact Od _)
   .exact⟨hz,its,k,rv,up _ _ hDC hD4.1⟩
  .refine ND (T.item Y rfl rfl rfl hc i _ s3 σ3 H3 (λ_ _=>False) I3 (fpY fr3 (npl _)) st3 go) (λr s4 ⟨u,hr,h4⟩=>?_) λ_ _ z=>z;subst hr;refine ND h4 (λ_ s5 ⟨x,H5,I5,r5,y5,st5,fr5⟩=>?_) λ_ _ z=>z;have I5':=I5.pinned (fpY fr5 (npl _)) (T.obj _ _ st5);refine ND (hg cl G2.objs.size s2 H2 fp _ s5 σ3 H5 x u _ I5' r5 (step x H5 y5)) (λ_ s6 ⟨σ6,H6,I6,q6⟩=>?_) λ_ _ z=>z;refine ND (ht cl G2.objs.size s2 H2 fp _ s6 σ6 H6 _ I6 q6) (λok s7 ⟨H7,I7,q7⟩=>?_) λ_ _ z=>z;have back:∀{σ':St}{H':Hp}{s':Shared},Inv Y ([(s2.heap.objs.size,{ cls:=.type "list",dict:=none,data:=.seq its.toArray k })]++ky fp s5.heap) σ' H' s'->tn (i+1) s'.heap/\∀b∈fp,H' b=none:=λ{σ' H' s'} IB=>by refine⟨T.keep _ _ _ st5 λb hb o e=>(IB.pin (b,o) (NI _ (NI _ (gI hb e)))).1,λb hb=>?_⟩;obtain⟨o,e,d⟩:=T.obj _ _ st5 b hb;exact (IB.pin (b,o) (NI _ (NI _ (gI hb e)))).2.1
   cases ok with
   |false=>rw[if_neg u_] at q7;obtain⟨m',hm,w7⟩:=hNx _ _ _ q7;rw[if_neg u_];obtain⟨t7,f7⟩:=back I7;exact⟨m',hm,i+1,ys,its,k,σ6,H7,I7.unpinned,rv,t7,f7,w7⟩
   |
    true=>
    rw[if_pos rfl] at q7;rw[if_pos rfl];refine ND (he cl G2.objs.size s2 H2 fp _ s7 σ6 H7 _ I7 q7) (λy s8 zz=>exA zz λyv H8 I8 r8 q8=>?_) λ_ _ z=>z;obtain⟨m',hm,w8⟩:=hNx _ _ _ q8;obtain⟨t8,f8⟩:=back I8;have I9:=I8.unpinned;have hD9:=I9.pin (s2.heap.objs.size,{ cls:=.type "list",dict:=none,data:=.seq its.toArray k }) (NI _ s_);have e9:s8.heap.get? s2.heap.objs.size=some { cls:=.type "list",dict:=none,data:=.seq its.toArray k }:=hD9.1;have a_:=rv.length;refine Pk F.slot_list_append ⟨_,e9,rfl⟩ F.entry_list_append (F.args_list_append_2 _ _) (PySem.list_append _ its.toArray k y (by rw[x_];omega)) ⟨e9,?_⟩;have q9:=PySem.IsL.update e9 (λxs=>xs.push y);have ea:its.toArray.push y=(its++[y]).toArray:=by simp
    rw[ea] at q9;have k9:∀b o,b≠s2.heap.objs.size->s8.heap.get? b=some o->(s8.heap.update s2.heap.objs.size (Obj.mapSeq λxs=>xs.push y)).get? b=some o:=λb o hb e=>(PQ _ _ (Ne.symm hb)).trans e;have I10:Inv Y [] σ6 H8 { s8 with heap:=s8.heap.update s2.heap.objs.size (Obj.mapSeq λxs=>xs.push y) }:=
     (I9.pins_of (pins':=[]) (λp hp=>nomatch hp)).turned (t':=s8.toks) k9 hD9.2.1 hD9.2.2.1 (.inr (r_ _)) (λx c e z=>absurd (cellOld x c e) (by rw[z];exact Od _))
      (λp hp=>absurd (show p∈([]:Qu) from hp) (by simp))
    refine⟨m',hm,i+1,ys++[yv],its++[y],_,σ6,H8,pinD I10 q9 (λv z=>by cases z) hD9.2.1,rv.append (.cons r8 .nil),?_,f8,w8⟩;exact T.keep _ _ _ t8 λb hb o e=>k9 b o (λz=>hDfp (by rw[<- z];exact hb)) e
 exact codeAny_compStart_list (loop _ rfl) (T.self _ 0 _ _ _ (T.keep _ _ _ st2 λb hb o e=>old b o e) (loop _ rfl))
def GS{elt iter tg:Expr}{ifs:List Expr}{scope:Scope}{pos:Pos}{wi:TI}{g:TG}{tc:TT}{te:TE}{N:List Str}{sub:Qw}
 (hc:X.calm=true) (hi:PI X tg iter wi)
 (hk:scope.kind=.function) (hnc:∀x∈scope.names,x.2 ≠ .cell) (h_:∀x∈scope.names,x.2=.local->scope.names.lookup x.1=some .local)
 (hfr:∀x∈scope.names,x.2=.free->X.env.kindOf x.1=some .cell\/X.env.kindOf x.1=some .free)
 (hsl:sub.length=N.length) (hsub:∀(j i:Nat) (x:Str),sub[j]?=some (some i)->N[j]?=some x->X.N[i]?=some x/\scope.names.lookup x=some .free)
 (hg:∀cl C s₂ H fp,PG (cm X N scope cl C s₂ H fp) tg g) (ht:∀cl C s₂ H fp,PTs (cm X N scope cl C s₂ H fp) ifs tc) (he:∀cl C s₂ H fp,PE (cm X N scope cl C s₂ H fp) elt te)
 (hs:∀x,foldedSetIterable iter X.env x=pure x):
 PE X (.ListComp elt [⟨tg,iter,ifs,0⟩] scope pos) (qR wi sub g tc te):=by
 intro pins s σ H Q I h;rw[eval_ListComp];refine wz hc hi hk hnc h_ hfr hsl hsub hg ht he hs I h λD C s4 e=>?_;obtain⟨m,hm⟩:=e.ns;obtain⟨H',_,q,i⟩:=e.inv;exact⟨m,hm,λh' hs'=>⟨.ref D,H',i h' hs',rfl,q⟩⟩
noncomputable def qS (M:List Str) (names:List (Str×NameKind)) (sub:Qw) (N:List Str):Bool:=(sub.zip N).all λp=>match p.1 with
 |none=>true
 |some i=>M[i]?==some p.2&&names.lookup p.2==some .free
def ui{M:List Str}{names:List (Str×NameKind)}{sub:Qw}{N:List Str}(h:qS M names sub N=true)(j i:Nat)(x:Str)(h1:sub[j]?=some (some i))(h2:N[j]?=some x):
 M[i]?=some x/\names.lookup x=some .free:=by
 unfold qS at h;rw[NA] at h;have hm:(some i,x)∈sub.zip N:=by refine O1 (i:=j) ?_;rw[List.getElem?_zip_eq_some];exact⟨h1,h2⟩
 have q:=h _ hm;simp only[t_,NO] at q;exact q
noncomputable def xH (kn names:List (Str×NameKind)):Bool:=names.all λx=>x.2 != .free || kn.lookup x.1==some .cell || kn.lookup x.1==some .free
def wA{kn names:List (Str×NameKind)}(h:xH kn names=true):∀x∈names,x.2=.free->kn.lookup x.1=some .cell\/kn.lookup x.1=some .free:=λx hx hf=>by unfold xH at h;rw[NA] at h;have q:=h x hx;rw[hf] at q;simpa using q
end
open PySem PySem.Spec PyProof.Rows PySem.W PySem.Builtin PySem.Builtin.ObjectAttr PySem.Builtin.Getset_descriptor
structure XCls(K:W.Frag)(C:Addr):Prop where
 cls:(clsIn K C).isSome=true
 ga:findIn K (.ref C) "__getattribute__"=some (some (.builtin "BaseException.__getattribute__"))
 gt:findIn K (.ref C) "__getattr__"=some none
 at_:findIn K (.ref C) "__class__"=some (some (.builtin "object.__class__"))
 gs:specialIn K (.builtin "object.__class__") "__get__"=some (some (.builtin "getset_descriptor.__get__"))
 tk:takesIn K (.builtin "object.__class__")=some true
 mo:mroIn K C (.type "object")=some true
 mb:mroIn K C (.type "BaseException")=some true
section
variable{prog:Program}{w:World}{A:Around}{E:Qv}{K:W.Frag}{x C:Addr}{o:Obj}
def hX(hx:h.get? x=some o)(hc:o.cls=.ref C):Looks M h (typeOf (.ref x)) (.ref C):=hc ▸ (Looks.ld hx).andThen .now
def BY(X:K.In h)(T:XCls K C):Looks M h (find (.ref x) (.ref C) "__class__") (.bind (.builtin "getset_descriptor.__get__") (.builtin "object.__class__")):=by have L1:=looks_findIn (M:=M) X T.at_;have L2:Looks M h (getOf (some (.builtin "object.__class__"))) (some (.builtin "getset_descriptor.__get__")):=looks_specialIn X T.gs;have L3:=looks_takesIn (M:=M) X T.tk;refine L1.andThen (L2.andThen ?_);exact (show Looks M h (dataDescriptor? (some (.builtin "object.__class__")) (some (.builtin "getset_descriptor.__get__"))) (some (.builtin "getset_descriptor.__get__",.builtin "object.__class__")) from L3.andThen .now).andThen (Looks.tag .now)
def pQ(X:K.In s.heap)(hx:s.heap.get? x=some o)(hc:o.cls=.ref C)(T:XCls K C)
 (h:R (.ok (.ret (.ref C))) s):codeAny (model prog w) A (.call (.builtin "getset_descriptor.__get__") ⟨[.builtin "object.__class__",.ref x,tp],[]⟩) R s:=by
 obtain⟨hh,g,dr,t,os⟩:=s;have L0:=hX (M:=model prog w) hx hc;have L1:=looks_mroIn (M:=model prog w) X T.mo;refine codeAny_call_builtin KF.slot_gs.plain KF.entry_gs (KF.slot_gs.check _ _ _ _ _ _ _ _ KF.type_class (KF.args_gs _ _ _) ?_);unfold Builtin.«getset_descriptor.__get__» descrGet;rw[dga_obj];refine n_ (v_ ?_);unfold descrGetter descrCheckInstance descrNameAndClass isInstance;simp only[KF.owner_class];repeat lk
 refine⟨Code.quiet_builtin _ (by decide),Qe KF.entry_class ?_⟩;unfold Builtin.«object.__class__» shownTypeOf;repeat lk
 exact h
def AJ(X:K.In s.heap)(hx:s.heap.get? x=some o)(hc:o.cls=.ref C)(T:XCls K C)(hq:Q () s):
 wpAny M A (checkBuiltinCall "BaseException.__getattribute__" ⟨[.ref x,nameV],[]⟩) Q E s:=by
 obtain⟨h,g,dr,t,os⟩:=s;have hk:builtinKind "BaseException.__getattribute__"=some .slot:=by decide
 have hsplit:splitId "BaseException.__getattribute__"=some ("BaseException", "__getattribute__"):=by decide
 have ha:=PySem.F.args_bexc_ga (.ref x) nameV;have L0:=hX (M:=M) hx hc;have LM:=looks_mroIn (M:=M) X T.mb;have LI:Looks M h (isInstance (.ref x) (.type "BaseException")) true:=L0.andThen LM;simp only[checkBuiltinCall,hk,hsplit];refine n_ ?_;refine LI.at ?_;repeat (first |wp_step)
 all_goals exact hq
def GY(X:K.In s.heap)(hx:s.heap.get? x=some o)(hc:o.cls=.ref C)(T:XCls K C)(h:Q (some (.ref C)) { s with toks:=s.toks+1 }):
 wpAny (model prog w) A (getAttr? (.ref x) "__class__") Q E s:=by
 obtain⟨hh,g,d,t,os⟩:=s;have L0:=hX (M:=model prog w) hx hc;have L1:=looks_findIn (M:=model prog w) X T.ga;have L2:=looks_findIn (M:=model prog w) X T.gt;have LF:=BY (M:=model prog w) (x:=x) X T;have f3:=PySem.F.excAttr_ValueError.ga.bind (.ref x);have hx2:(Value.builtin "BaseException.__getattribute__" == Value.builtin "object.__getattribute__")=false:=by decide
 unfold getAttr? getAttrBy? getAttrBy;refine n_ (wpAny_mkText (n_ (PZ (Ot (n_ (L0.at (n_ (L1.at ?_))))))));dsimp only;rw[if_neg (by rw[hx2];simp)];unfold getAttrByItsOwn hookBefore;rw[if_pos (show onTheHeap (Value.ref C)=true from rfl)];refine n_ (L2.at ?_);unfold callGetattribute;refine n_ (PZ (Ot ?_));rw[if_neg (by simp)];unfold boundAndCalled;refine n_ (wpAny_of_eq f3 ?_);refine wpAny_call (codeAny_call_builtin PySem.F.excAttr_ValueError.ga.plain PySem.F.entry_bexc_ga (AJ X hx hc T ?_));unfold Builtin.«object.__getattribute__»;repeat (first |(refine n_ (L0.at ?_)) |(refine n_ (LF.at ?_)) |wp_step)
 refine pQ (s:=⟨hh,g,d,t+1,os⟩) X hx hc T ?_;repeat (first |exact h |wp_step)
def lN(x:Addr)(C:Addr)(h:Heap):Prop:=∃o vs,h.get? x=some o/\o.cls=.ref C/\o.data=.fields vs
def Bk(T:XCls K C):KitX K (.ref x) (.ref C) (lN x C) where
 ty:=λM h _ ⟨o,_,hx,hc,_⟩=>hX hx hc
 it:=λM h X _=>by
  obtain⟨cd,j_⟩:=Og.mp T.cls;unfold clsIn at j_;split at j_
  .rename_i c' d' cd' sl' ho;intro A' Q' E' s' k q;unfold isType loadHead;exact n_ (wpAny_loadPart (k _ _ (X _ _ ho)) (v_ q))
  .cases j_
 ne:=λh tp dd its n sl X htp=>by
  obtain⟨cd,j_⟩:=Og.mp T.cls;refine Bool.eq_false_iff.mpr λq=>?_;have e:C=tp:=Value.ref.inj (NO.mp q);subst e;unfold clsIn at j_;split at j_
  .rename_i c' d' cd' sl' ho;have z:=(X _ _ ho).symm.trans htp;cases z
  .cases j_
 ca:=λX ⟨o,_,hx,hc,_⟩ k=>GY X hx hc T k
end
inductive TyX(K:W.Frag)(H:Hp):V->Value->Prop where
 |of {x:V}{t:Value} (h:TyOf K H x t):TyX K H x t
 |exc {a C:Addr} (e:H a=some (.ext (lN a C))) (T:XCls K C):TyX K H (.ref a) (.ref C)
 |sqT {a:Addr}{xs:List V} (h:SqT K H a xs):TyX K H (.ref a) (.type "tuple")
 |sqL {a:Addr}{xs:List V} (h:SqL K H a xs):TyX K H (.ref a) (.type "list")
section
variable{X:Cx}{pins:Qu}{σ:St}{H:Hp}{s:Shared}{c:Value}
def vf(I:Inv X pins σ H s)(rx:RelV x u)(ty:TyX X.K H x t):∃Hh:Heap->Prop,KitX X.K u t Hh/\Hh s.heap/\u ≠ .builtin "__main__.__loader__#opaque":=by
 cases ty with
 |exc ea T=>cases (show u=Value.ref _ from rx);exact⟨_,Bk T,(I.hok _ _ ea).1,λz=>nomatch z⟩
 |sqT h=>cases (show u=Value.ref _ from rx);obtain⟨its,rv,⟨o,e,c,_⟩,_⟩:=I.tuple h;exact⟨_,kitx_tuple,⟨o,e,c⟩,λz=>nomatch z⟩
 |sqL h=>cases (show u=Value.ref _ from rx);obtain⟨its,rv,⟨o,n,e,c,_⟩,_⟩:=I.list h;exact⟨_,kitx_list,⟨o,e,c⟩,λz=>nomatch z⟩
 |
  of ty=>
  cases ty with
  |non=>cases (show u=Value.none from rx);exact⟨_,kitx_none,True.intro,λz=>nomatch z⟩
  |bl y=>cases (show u=Value.bool y from rx);exact⟨_,kitx_bool,True.intro,λz=>nomatch z⟩
  |int i=>obtain⟨t,q⟩:=(show ∃t,u=Value.int i t from rx);cases q;exact⟨_,kitx_int,True.intro,λz=>nomatch z⟩
  |str y=>obtain⟨t,q⟩:=(show ∃t,u=Value.str y t from rx);cases q;exact⟨_,kitx_str,True.intro,λz=>nomatch z⟩
  |flt y=>obtain⟨t,q⟩:=(show ∃t,u=Value.float y t from rx);cases q;exact⟨_,kitx_float,True.intro,λz=>nomatch z⟩
  |@lst a xs ea=>cases (show u=Value.ref a from rx);obtain⟨_,_,n,_,h1⟩:=(show ObjOk X.prog X.w H s.heap a (.lst xs) from I.hok a _ ea);exact⟨_,kitx_list,⟨_,h1,rfl⟩,λz=>nomatch z⟩
  |@frz a ob xs ea=>cases (show u=Value.ref a from rx);obtain⟨_,_,_,n,_,h1⟩:=(show ObjOk X.prog X.w H s.heap a (.frz ob (.lst xs)) from I.hok a _ ea);exact⟨_,kitx_list,⟨_,h1,rfl⟩,λz=>nomatch z⟩
  |@tup a xs ea=>cases (show u=Value.ref a from rx);obtain⟨_,_,_,p⟩:=(show ObjOk X.prog X.w H s.heap a (.tup xs) from I.hok a _ ea);obtain⟨o,h1,h2,_⟩:=p;exact⟨_,kitx_tuple,⟨o,h1,h2⟩,λz=>nomatch z⟩
  |@dK a kvs ea=>cases (show u=Value.ref a from rx);obtain⟨_,_,vs,_,p⟩:=(show ObjOk X.prog X.w H s.heap a (.dK kvs) from I.hok a _ ea);obtain⟨o,es,ep,h1,h2,_⟩:=p;exact⟨_,kitx_dict,⟨o,h1,h2.1⟩,λz=>nomatch z⟩
  |@dT a kvs ea=>cases (show u=Value.ref a from rx);obtain⟨_,_,xs,_,o,es,ep,h1,h2,_⟩:=(show ObjOk X.prog X.w H s.heap a (.dT kvs) from I.hok a _ ea);exact⟨_,kitx_dict,⟨o,h1,h2.1⟩,λz=>nomatch z⟩
  |@ins a C dx fs ea cl ha hn htk hm=>cases (show u=Value.ref a from rx);obtain⟨mA,O,_⟩:=Gh I.hok ea;obtain⟨od,J,_⟩:=O.look;exact⟨_,kitx_own (cl.get _) cl.hd ha hn htk hm,J,λz=>nomatch z⟩
end
section
variable{X:Cx}
noncomputable def gg:V->Option Value
 |.ref C=>some (.ref C)
 |.ty T=>some (.type T)
 |_=>none
def tO(h:gg c=some v)(r:RelV c u):u=v:=by
 cases c with
 |ref C=>cases r;exact H_ h
 |ty T=>cases r;exact H_ h
 |_=>cases h
theorem pq:∀{cs:List V}{us vs:List Value},cs.mapM gg=some vs->Vals cs us->us=vs
 |
  [],_,vs,h,.nil=>by
  have h':some ([]:List Value)=some vs:=h;exact H_ h'
 |
  c::cs,_,vs,h,.cons r rr=>by
  rw[List.mapM_cons] at h;cases q:gg c with
  |none=>rw[q] at h;cases h
  |
   some v=>
   rw[q] at h;cases q2:cs.mapM gg with
   |none=>rw[q2] at h;cases h
   |some vs'=>rw[q2] at h;have h':some (v::vs')=some vs:=h;cases h';rw[tO q r,pq q2 rr]
def BB:CallR X (.builtin "isinstance") (λxs H Q=>∃x c t v b,xs=[x,c]/\TyX X.K H x t/\gg c=some v/\kitOne X.K t v=some b/\Q (.bl b) H):=by intro pins s σ H xs us Q I r h;obtain⟨x,c,t,v,b,rfl,ty,hc,hk,q⟩:=h;obtain⟨u,w',rfl,rx,rc⟩:=yD r;obtain rfl:=tO hc rc;obtain⟨Hh,Z,p,hne⟩:=vf I rx ty;exact kia_one Z I.kIn p hk hne λtk=>⟨.bl b,H,I.tok _,rfl,q⟩
end
def ObjOk.there(x:ObjOk P w H h a o):∃u,h.get? a=some u:=by
 cases o with
 |lst xs=>obtain⟨_,_,_,_,e⟩:=x;exact⟨_,e⟩
 |tup xs=>obtain⟨_,_,_,ob,e,_⟩:=x;exact⟨_,e⟩
 |dK kvs=>obtain⟨_,_,_,_,o,_,_,e,_⟩:=x;exact⟨_,e⟩
 |dT kvs=>obtain⟨_,_,_,_,o,_,_,e,_⟩:=x;exact⟨_,e⟩
 |set S n=>obtain⟨o,_,_,_,e,_⟩:=x;exact⟨_,e⟩
 |ins C dx fs=>obtain⟨_,_,_,e,_⟩:=x;exact⟨_,e⟩
 |own y=>exact x
 |xd fs=>obtain⟨_,⟨_,_,_,e,_⟩,_⟩:=x;exact⟨_,e⟩
 |rng lo hi=>obtain⟨_,_,_,e⟩:=x;exact⟨_,e⟩
 |frz ob u=>obtain⟨e,_⟩:=x;exact⟨_,e⟩
 |tbl ps=>exact⟨_,show h.get? a=some _ from x⟩
 |met f y=>exact⟨_,show h.get? a=some _ from x⟩
 |ext φ=>obtain⟨_,e,_⟩:=x;exact e
structure Fly(P:Program)(w:World)(outer:List Env)(H:Hp)(h₀:Heap)(H':Hp)(ea:Addr)(cls:Value)(h:Heap)(B:Heap)(t:Addr):Prop where
 un:Un (frs outer) [] H H' h₀ h
 hok:HOk P w H' h
 fl:Heap.FlyingW B outer ea cls (.ref t) h
 old:∀b o,h₀.get? b=some o->b∉frs outer->∃o',B.get? b=some o'
 trk:∀b o,H' b=some o->∃o',B.get? b=some o'
def CX1(P:Program)(w:World):CXT:=λouter H s E e s'=>∃(ea t:Addr) (cls:Value) (H':Hp) (B:Heap),e=.ref ea/\s'.os=s.os/\AllBare s'.gens/\Fly P w outer H s.heap H' ea cls s'.heap B t/\E cls none H'
def rM(h:env.frame=some L):frs (env::outer)=L::frs outer:=by unfold frs;rw[OI,h]
section
variable{P:Program}{w:World}{outer:List Env}{H H':Hp}{h₀ h h' B:Heap}{ea t:Addr}{cls:Value}
def Fly.step(F:Fly P w outer H h₀ H' ea cls h B t)(fl':Heap.FlyingW B outer' ea cls (.ref t) h')(up:h.UpToSlots h'):
 Un (frs outer) [] H H' h₀ h'/\HOk P w H' h':=by
 have st:=F.fl.1;have same:∀b o,(∃o',B.get? b=some o')->h.get? b=some o->h'.get? b=some o:=λb o ⟨o',e⟩ q=>by have z:=st b o' e;rw[q] at z;cases z;exact fl'.1 b _ e
 have frame:∀b o,b∈frs outer->h.get? b=some o->∃sl,h'.get? b=some { o with slots:=sl }:=λb o hb q=>by obtain⟨_,o',ho',hd⟩:=F.fl.2.2.1.mem hb;rw[q] at ho';cases ho';exact up b o q hd
 refine⟨⟨λb o e n hb hx=>same b o (F.old b o e hb) (F.un.keep b o e n hb hx),λb o e n hb hx=>?_,F.un.free,λb o e hx=>?_,F.un.tups,F.un.frzs,F.un.tbls⟩,λa o e=>?_⟩
 .obtain⟨sl,q⟩:=F.un.slot b o e n hb hx;obtain⟨sl',q'⟩:=frame b _ hb q;exact⟨sl',q'⟩
 .obtain⟨o',q⟩:=F.un.there b o e hx;by_cases hb:b∈frs outer
  .obtain⟨sl,q'⟩:=frame b _ hb q;exact⟨_,q'⟩
  .exact⟨o',same b o' (F.old b o e hb) q⟩
 .refine (F.hok a o e).stay (λb u hb q=>same b u ?_ q) (λ_ q=>q) λ_ _ q=>q;rcases hb with z |z
  .rw[z];exact F.trk a o e
  .exact F.trk b _ z
end
structure Cx.Top(X:Cx):Prop where
 ex:X.ex=[]
 stk:X.stack=X.env::X.outer
 fr:X.env.frame=some X.env.locals
section
variable{X:Cx}{pins:Qu}{σ:St}{H:Hp}{s s':Shared}{E:XK}{e:Value}
def Bb(T:X.Top)(hA:A.frames=some X.stack)(I:Inv X pins σ H s)(h:CX1 X.prog X.w X.stack H s E e s'):
 wpAny (model X.prog X.w) A (leaving X.env e) (λ_ s''=>CX1 X.prog X.w X.outer X.H₀ X.s₀ E e s'') E' s':=by
 obtain⟨ea,t,cls,H',B,rfl,os,bare,F,q⟩:=h;have F0:=F;rw[T.stk] at F;have hf:=rM (outer:=X.outer) T.fr;refine wpAny_leaves_onW (by rw[hA,T.stk]) T.fr F.fl λh'' fl'' up=>?_;obtain⟨un2,hok2⟩:=F.step fl'' up;have exn:∀b,b∉X.ex:=λb z=>by rw[T.ex] at z;cases z
 have neL:∀b o,X.s₀.heap.get? b=some o->b≠X.env.locals:=λb o e=>K_ (I_ (z_ e) I.ok.above);have notin:∀b o,X.s₀.heap.get? b=some o->b∉frs X.outer->b∉frs (X.env::X.outer):=λb o e hb z=>by
  rw[hf] at z;rcases F_.mp z with z |z
  .exact neL b o e z
  .exact hb z
 refine⟨ea,t,cls,H',B,rfl,os.trans I.os,bare,⟨⟨λb o e n hb hx=>?_,λb o e n hb hx=>?_,λb o e n hx=>?_,λb o e hx=>?_,λb xs e=>un2.tups b xs (I.base.tups b xs e),λb o xs e=>un2.frzs b o xs (I.base.frzs b o xs e),λb ps e=>?_⟩,hok2,fl'',λb o e hb=>?_,F.trk⟩,q⟩
 .exact un2.keep b o (I.base.keep b o e n hb (exn b)) (I.base.free b o e n (exn b)) (notin b o e hb) (by simp)
 .obtain⟨sl,e1⟩:=I.base.slot b o e n hb (exn b);obtain⟨sl',e2⟩:=un2.slot b _ e1 (I.base.free b o e n (exn b)) (by rw[hf];exact q_ _ hb) (by simp);exact⟨sl',e2⟩
 .obtain⟨o',e1⟩:=I.base.there b o e (exn b);exact un2.free b o' e1 (I.base.free b o e n (exn b)) (by simp)
 .obtain⟨o',e1⟩:=I.base.there b o e (exn b);exact un2.there b o' e1 (by simp)
 .obtain⟨m1,e1⟩:=I.base.tbls b ps e;obtain⟨m2,e2⟩:=un2.tbls b _ e1;exact⟨m1++m2,by rw[e2,Array.append_assoc]⟩
 .obtain⟨o',e1⟩:=I.base.there b o e (exn b);exact F.old b o' e1 (notin b o e hb)
def BK(T:X.Top)(hA:A.frames=some X.stack)(I:Inv X pins σ H s)(hx:Heap.MadeExcOf s.heap h' ea cls args)(q:E cls none H):
 wpAny (model X.prog X.w) A (leaving X.env (.ref ea)) (λ_ s''=>CX1 X.prog X.w X.outer X.H₀ X.s₀ E (.ref ea) s'') E' { s with heap:=h' }:=by
 have hf:=rM (outer:=X.outer) T.fr;have stk:=I.stack;rw[T.stk] at stk;have hin:∀env∈(X.env::X.outer),∀b,env.frame=some b->b∈frs (X.env::X.outer):=λenv he b hb=>List.mem_filterMap.mpr ⟨env,he,hb⟩;refine wpAny_leaves_madeW (base:=W.hideAll s.heap (frs (X.env::X.outer))) (h:=s.heap) (by rw[hA,T.stk]) T.fr (λb o q=>W.of_hideAll _ q) (W.funFrames_hide stk hin) hx λh'' t fl tup tn up=>?_;have inB:∀b o,s.heap.get? b=some o->b∉frs (X.env::X.outer)->(W.hideAll s.heap (frs (X.env::X.outer))).get? b=some o:=λb o e hb=>W.hideAll_get _ e hb;have free:∀b∈frs (X.env::X.outer),H b=none:=λb hb=>I.stkFree b (by rw[T.stk];exact hb);have up2:s.heap.UpToSlots h'':=(Heap.UpToSlots.of_keeps hx.keeps).trans up;have exn:∀b,b∉X.ex:=λb z=>by rw[T.ex] at z;cases z
 have neL:∀b o,X.s₀.heap.get? b=some o->b≠X.env.locals:=λb o e=>K_ (I_ (z_ e) I.ok.above);have notin:∀b o,X.s₀.heap.get? b=some o->b∉frs X.outer->b∉frs (X.env::X.outer):=λb o e hb z=>by
  rw[hf] at z;rcases F_.mp z with z |z
  .exact neL b o e z
  .exact hb z
 have trk:∀b o,H b=some o->∃o',(W.hideAll s.heap (frs (X.env::X.outer))).get? b=some o':=λb o e=>by obtain⟨u,hu⟩:=(I.hok b o e).there;exact⟨u,inB b u hu λz=>by rw[free b z] at e;cases e⟩
 refine⟨ea,t,cls,H,_,rfl,I.os,I.bare,⟨⟨λb o e n hb hx=>?_,λb o e n hb hx=>?_,λb o e n hx=>?_,λb o e hx=>?_,I.base.tups,I.base.frzs,I.base.tbls⟩,λa o e=>?_,fl,λb o e hb=>?_,trk⟩,q⟩
 .exact fl.1 b o (inB b o (I.base.keep b o e n hb (exn b)) (notin b o e hb))
 .obtain⟨sl,e1⟩:=I.base.slot b o e n hb (exn b);obtain⟨_,o',ho',hd⟩:=I.ok.funs.mem hb;rw[e] at ho';cases ho';obtain⟨sl',e2⟩:=up2 b _ e1 hd;exact⟨sl',e2⟩
 .exact I.base.free b o e n (exn b)
 .obtain⟨o',e1⟩:=I.base.there b o e (exn b);by_cases hb:b∈frs X.outer
  .obtain⟨_,o2,ho2,hd⟩:=I.funs.mem hb;rw[e1] at ho2;cases ho2;obtain⟨sl',e2⟩:=up2 b _ e1 hd;exact⟨_,e2⟩
  .exact⟨o',fl.1 b o' (inB b o' e1 (notin b o e hb))⟩
 .refine (I.hok a o e).stay (λb u hb q=>?_) (λ_ q=>q) λ_ _ q=>q;refine fl.1 b u (inB b u q λz=>?_);rcases hb with y |y
  .rw[y] at z;rw[free a z] at e;cases e
  .rw[free b z] at y;cases y
 .obtain⟨o',e1⟩:=I.base.there b o e (exn b);exact⟨o',inB b o' e1 (notin b o e hb)⟩
def tW{h6:Heap}{ea t:Addr}{C:Addr}{H':Hp}{B:Heap}{g':Shared}(T:X.Top)(I:Inv X pins σ H s)(F:Fly X.prog X.w X.stack H s.heap H' ea (.ref C) s'.heap B t)(os:s'.os=s.os)(bare:AllBare s'.gens)
 (fl6:Heap.FlyingW B X.stack ea (.ref C) (.ref t) h6) (up:s'.heap.UpToSlots h6):
 H' ea=none/\Inv X pins σ (upd H' ea (.ext (lN ea C))) { s' with heap:=h6 }:=by
 obtain⟨un2,hok2⟩:=F.step fl6 up;obtain⟨oe,vs,he,hc,hd,_⟩:=fl6.first;have hB:B.get? ea=none:=fl6.2.1;have hn:H' ea=none:=by
  cases q:H' ea with
  |none=>rfl
  |some o=>obtain⟨o',z⟩:=F.trk ea o q;rw[hB] at z;cases z
 have hnf:ea∉frs X.stack:=λz=>by obtain⟨_,o,ho,hdd⟩:=fl6.2.2.1.mem z;rw[he] at ho;cases ho;exact hdd vs hd
 have hs:s.heap.get? ea=none:=by
  cases q:s.heap.get? ea with
  |none=>rfl
  |some o=>obtain⟨o',z⟩:=F.old ea o q hnf;rw[hB] at z;cases z
 have I5:Inv X pins σ H' { s' with heap:=h6 }:=I.call' (s':={ s' with heap:=h6 }) (ch:=[]) os un2 hok2 bare λb hb=>nomatch hb;refine⟨hn,I5.track hn ?_ ?_ (λx c e z=>?_) (λp hp z=>?_) ⟨⟨oe,vs,he,hc,hd⟩,⟨oe,he⟩,λh1 h2 ⟨o1,v1,e1,r⟩ k=>⟨o1,v1,k o1 e1,r⟩⟩⟩
 .cases q:X.s₀.heap.get? ea with
  |none=>rfl
  |some o=>obtain⟨o',z⟩:=I.base.there ea o q (by rw[T.ex];simp);rw[hs] at z;cases z
 .intro z;obtain⟨m,⟨o,es,ep,ho,hdd,_⟩,_⟩:=I.loc;rw[<- z,hs] at ho;cases ho
 .obtain⟨v,o,ho,_⟩:=I.cell x c e;rw[z,hs] at ho;cases ho
 .have:=(I.pin p hp).1
  rw[z,hs] at this;cases this
end
section
variable{P:Program}{w:World}{K:W.Frag}{mg:Qt}{base:Heap}{N:List Str}{qual:Str}{scope:Scope}{f:Addr}{cd:Value}{A:Around}{outer:List Env}{s:Shared}{H:Hp}{E:XK}
def qT:(eE (CX1 P w) P w K mg base N qual scope f cd A outer s H E).Top:=⟨rfl,rfl,rfl⟩
def DK:sx (CX1 P w) (eE (CX1 P w) P w K mg base N qual scope f cd A outer s H E) E:=λpins σ H s e s' I h=>Bb qT I.ok.frames I h
def LO:sx (CX1 P w) X E0:=λpins σ H s e s' I ⟨_,_,_,_,_,_,_,_,_,q⟩=>q.elim
def own1:PassesOwn (model P w) (eE (CX1 P w) P w K mg base N qual scope f cd A outer s H E).A (eE (CX1 P w) P w K mg base N qual scope f cd A outer s H E).env (eE (CX1 P w) P w K mg base N qual scope f cd A outer s H E).xe:=PassesOwn.leaving
def Rz(X:Cx)(E:XK):Prop:=∀(pins:Qu) (σ:St) (H:Hp) (s:Shared) (h':Heap) (ea:Addr) (cls:Value) (args:List Value),Inv X pins σ H s->Heap.MadeExcOf s.heap h' ea cls args->E cls none H->X.xe (.ref ea) { s with heap:=h' }
def rz1:Rz (eE (CX1 P w) P w K mg base N qual scope f cd A outer s H E) E:=λpins σ H s h' ea cls args I hx q=>BK qT I.ok.frames I hx q
def Fun.okR{x qual:Str}{st:Stmt}{f:Addr}{fd:FuncData}{N ps:List Str}{k:Nat}{sp:Sp}(F:Fun K x qual st f fd)(S:FnScope N ps (au st))(len:∀vs H Q E,sp vs H Q E->vs.length=ps.length)
 (b_:∀(cdv:Value) (A:Around) (outer:List Env) (s:Shared) (H:Hp) (vs:List V) (Q:VK) (E:XK),Room k (A.deeper (envOfC qual (au st) s.heap.objs.size f cdv))->sp vs H Q E->
  ∃t,PSs (eE (CX1 P w) P w K mg base N qual (au st) f cdv A outer s H E) (bq st) t/\t { nx:=λ_ H'=>Q .non H',rt:=Q } (df N vs) H):FnOk P w K mg base (CX1 P w) (k+1) f fd ps sp:=by
 obtain⟨oc,od,kV,doc,pm,an,cdv,ct,osl,rfl,lk,j_⟩:=F.ex;exact Et lk j_ S len λA outer s H vs Q E hr hsp=>b_ cdv A outer s H vs Q E hr hsp
end
abbrev og:List Value:=[.type "ValueError",.type "Exception",.type "BaseException",.type "object"]
def Ap{K:W.Frag}{h:Heap}{C:Addr}(X:K.In h)(q:W.excIn K C og "ValueError.__new__"=true):
 ∃bm N nm q' bs hdct sn sub ab col dd k0 k1 k2 k3 k5 mN,h.get? C=some (excClassObj nm q' C N bs bm hdct sn sub ab col dd k0 k1 k2 k3 k5 "ValueError.__new__")/\h.Ns N mN/\mN "__init__"=none/\OwnTail h og bm:=by
 unfold W.excIn at q;split at q
 .rename_i dd cd sl ho;split at q
  .rename_i C' bm k0 k1 k2 k3 n k5 hm hs;simp only[t_,NO,O_] at q;obtain⟨⟨⟨⟨⟨rfl,rfl⟩,hdel⟩,ht⟩,hok⟩,hni⟩:=q;obtain⟨nm,bs,mro,ns,qn,hd,sn,sub,ab,col,del⟩:=cd;dsimp only at hm hdel hok hni;subst hm hdel;have hsl:sl=#[k0,k1,k2,k3,some (.builtin "ValueError.__new__"),k5]:=by obtain⟨l⟩:=sl;simp only at hs;rw[hs]
   subst hsl;exact⟨bm,ns,nm,qn,bs,hd,sn,sub,ab,col,dd,k0,k1,k2,k3,k5,_,X _ _ ho,.of_isNs (W.isNs_of_in X hok),W.nsMap_none_of_in X hok hni,W.tail_of_in X ht⟩
  .cases q
 .cases q
section
variable{X:Cx}{x:Str}{C:Addr}{E:XK}{np cpos pos:Pos}{e₀:Expr}{es:List Expr}{ta:TA}
def JZ(C:Addr)(E:XK)(ta:TA):TS:=λ_ σ H=>ta σ H λvs H1=>vs.length<=sizeLine/\E (.ref C) none H1
def Dk(hc:X.calm=true)(hR:Rz X E)(hg:Gl X x)(hm:X.mg x=some (.ref C))(hq:W.excIn X.K C og "ValueError.__new__"=true)(ha:PA X (e₀::es) ta)
 (he:starEach (e₀::es) X.env=(false,eval e₀ X.env)::starEach es X.env) (d_:(backTo cpos (starEach es X.env)).any (·.1)=false) (hd:(x==("__debug__" : Str))=false):
 PS X (.Raise (some (.Call (.Name x np) (e₀::es) [] cpos)) none pos) (JZ C E ta):=by
 intro pins s σ H D I h;obtain⟨bm,N,nm,q',bs,hdct,sn,sub,ab,col,dd,k0,k1,k2,k3,k5,mN,hC,hN,hni,T⟩:=Ap I.ok.mod.kin hq;refine wpAny_Raise_call_subT (C:=C) (nm:=nm) (q:=q') (N:=N) (bs:=bs) (bm:=bm) (hdct:=hdct) (sn:=sn) (sub:=sub) (ab:=ab) (col:=col) (dd:=dd) (k0:=k0) (k1:=k1) (k2:=k2) (k3:=k3) (k5:=k5)
  PySem.F.excBase_ValueError (mN:=mN) (T.hasType PySem.F.excBase_ValueError.hasBase) (I.ok.hd hc) (by rw[he];show (false || (backTo cpos (starEach es X.env)).any (·.1))=false;rw[d_];rfl) hni (kG I hg hm ⟨rfl,?_⟩ hd)
 have hA:=ha cpos pins s σ H _ I h;rw[he] at hA ⊢;refine Calls.evalArgs_plain (thn hA λus s2 ⟨vs,H2,I2,r2,hz,q2⟩=>⟨rfl,by rw[<- r2.length];exact hz,I2.bk _ _ hC,hN.keeps I2.bk,T.keeps I2.bk,λh' e hm'=>?_⟩);exact hR pins σ H2 s2 h' e _ _ I2 hm' q2
end
abbrev XS:=St->XK
abbrev TEx:=St->Hp->VK->XK->Prop
abbrev TSx:=Ends->XS->St->Hp->Prop
def XP(X:Cx)(pins:Qu)(E:XS)(e:Value)(s':Shared):Prop:=∃σ1 H1 s1,Inv X pins σ1 H1 s1/\CX1 X.prog X.w X.stack H1 s1 (E σ1) e s'
def PSsx(X:Cx)(st:List Stmt)(t:TSx):Prop:=
 ∀(pins:Qu) (s:Shared) (σ:St) (H:Hp) (D:Ends) (E:XS),Inv X pins σ H s->t D E σ H->wpAny (model X.prog X.w) X.A (execs st X.env) (SP X pins D) (XP X pins E) s
noncomputable def jd (X:Cx) (ea:Addr):Cx:={ X with A:=X.A.mark (some (.ref ea)),calm:=false,xe:=λ_ _=>False }
section
variable{X:Cx}{pins:Qu}{σ:St}{H:Hp}{s:Shared}{ea:Addr}
def Inv.suite(I:Inv X pins σ H s):Inv (jd X ea) pins σ H s:=
 ⟨⟨I.ok.mod,I.ok.kind,I.ok.glob,I.ok.blt,I.ok.above,I.ok.inj,I.ok.has,I.ok.cab,λz=>absurd z u_,I.ok.frames,I.ok.stk,I.ok.exf,I.ok.bs,I.ok.bsz,I.ok.noex,I.ok.exfs,I.ok.funs,I.ok.frf⟩,I.os,I.bare,I.base,I.loc,I.cell,I.free,I.freeC,I.pin,I.hok,I.len⟩
def Inv.unsuite(ok:X.Ok)(I:Inv (jd X ea) pins σ H s):Inv X pins σ H s:=
 ⟨ok,I.os,I.bare,I.base,I.loc,I.cell,I.free,I.freeC,I.pin,I.hok,I.len⟩
def yW{M:Model}{A:Around}{E:Qv}{K:W.Frag}{C Ce:Addr}{o:Obj}{Q:Bool->Shared->Prop}(KX:K.In s.heap)(he:s.heap.get? ea=some o)(hc:o.cls=.ref Ce)
 (hty:W.typeIn K (.ref C)=some (.type "type")) (hcl:(W.clsIn K C).isSome=true) (hb:W.mroIn K C (.type "BaseException")=some true) (hm:W.mroIn K Ce (.ref C)=some true) (q:Q true s):
 wpAny M A (excMatches (.ref ea) (.ref C)) Q E s:=by
 obtain⟨h,g,d,tk,os⟩:=s;have L0:=hX (M:=M) he hc;have L1:=W.looks_typeIn (M:=M) KX hty;have L2:=W.looks_mroIn (M:=M) KX hb;have L3:=W.looks_mroIn (M:=M) KX hm;have L4:W.Looks M h (isType (.ref C)) true:=by
  obtain⟨cd,j_⟩:=Og.mp hcl;unfold W.clsIn at j_;split at j_
  .rename_i c' d' cd' sl' ho;intro A' Q' E' s' k q;unfold isType loadHead;exact n_ (wpAny_loadPart (k _ _ (KX _ _ ho)) (v_ q))
  .cases j_
 have LT:W.Looks M h (isInstance (.ref C) (.type "tuple")) false:=L1.andThen (W.Looks.of_pure tc_notTuple);have LE:W.Looks M h (isExcClass (.ref C)) true:=by unfold isExcClass;exact L4.andThen L2
 unfold excMatches;refine n_ (LT.at ?_);rw[if_neg u_];refine n_ (v_ ?_);dsimp only;refine n_ ?_;rw[Pw];refine n_ (n_ (LE.at ?_));simp only[Bool.not_true,ON,Pl];refine v_ ?_;dsimp only;rw[Ql];refine v_ ?_;refine n_ (L0.at (n_ ?_));rw[Pw];refine n_ (n_ (L3.at ?_));simp only[OW];exact v_ (v_ (v_ q))
def Inv.unbind(I:Inv X pins σ H s)(hN:X.N.Nodup)(hi:X.N[i]?=some n)(hl:X.env.kindOf n=some .local)
 (hm:∀(i:Nat) (x:Str) (v:V),X.N[i]?=some x->σ[i]?=some (some v)->Vis X.env.scope x->∃u,RelV v u/\Cj X.env s.heap m x u) (hn:s.heap.Ns X.env.locals m)
 (hn':h'.Ns X.env.locals (λx=>if x=n then v else m x)) (hs:Heap.SameBut X.env.locals s.heap h'):Inv X pins (σ.set i none) H { s with heap:=h',toks:=tk }:=by
 have cne:=I.cne;have neL:∀b o,X.s₀.heap.get? b=some o->b≠X.env.locals:=λb o e=>K_ (I_ (z_ e) I.ok.above);refine⟨I.ok,I.os,I.bare,⟨λb o e n hb hx=>?_,λb o e n hb hx=>?_,I.base.free,λb o e hx=>?_,I.base.tups,I.base.frzs,I.base.tbls⟩,⟨_,hn',λj y v' e1 e2 e3=>?_⟩,λy c e=>?_,I.free,I.freeC,λp hp=>?_,λb ob e=>?_,by simpa using I.len⟩
 .exact (hs.2 b (neL b o e)).trans (I.base.keep b o e n hb hx)
 .obtain⟨sl,e1⟩:=I.base.slot b o e n hb hx;exact⟨sl,(hs.2 b (neL b o e)).trans e1⟩
 .obtain⟨o',e1⟩:=I.base.there b o e hx;exact⟨o',(hs.2 b (neL b o e)).trans e1⟩
 .by_cases hj:j=i
  .subst hj;have hiσ:j<σ.length:=by rw[I.len];exact (w_.mp hi).1
   rw[O9 hiσ] at e2;cases e2
  .rw[Pf (Ne.symm hj)] at e2;obtain⟨u',r',q⟩:=hm j y v' e1 e2 e3;refine⟨u',r',?_⟩;rcases q with ⟨k,e⟩ |⟨k,c,e,z⟩
   .refine .inl ⟨k,?_⟩;have:y≠n:=λe=>hj (lT hN e1 (e ▸ hi));simp [this,e]
   .exact .inr ⟨k,c,e,z.sameBut hs (cne y c e)⟩
 .obtain⟨w',z⟩:=I.cell y c e;exact⟨w',z.sameBut hs (cne y c e)⟩
 .obtain⟨e,n,ne,nf,d⟩:=I.pin p hp;exact⟨(hs.2 p.1 ne).trans e,n,ne,nf,d⟩
 .refine (I.hok b ob e).stay (λc w' hc q=>(hs.2 c ?_).trans q) (λ_ q=>q) λ_ _ q=>q;rintro rfl;rcases hc with z |hc
  .rw[<- z,I.free] at e;cases e
  .rw[I.free] at hc;cases hc
def BU(I:Inv X pins σ H s)(hg:Gl X x)(hm:X.mg x=some u)(h:Q u s)
 (hd:(x==("__debug__" : Str))=false):wpAny (model X.prog X.w) A (eval (.Name x pos) X.env) Q E s:=
 Pn I.ok.kind hg (Calls.loadGlobal_global (by rw[I.ok.glob];exact I.mod.glob.keeps I.bk) hm h) hd
end
structure XHand(K:W.Frag)(C:Addr):Prop where
 ty:W.typeIn K (.ref C)=some (.type "type")
 cls:(W.clsIn K C).isSome=true
 mb:W.mroIn K C (.type "BaseException")=some true
noncomputable def EE (i:Nat) (D:Ends):Ends:={ nx:=λσ H=>D.nx (σ.set i none) H,rt:=D.rt,bk:=λσ H=>D.bk (σ.set i none) H,ct:=λσ H=>D.ct (σ.set i none) H }
def tTry(K:W.Frag)(C:Addr)(i:Nat)(tb:TSx)(ts:TS):TS:=λD σ H=>
 tb D (λσ1 cls _ H1=>∃Ce,cls=.ref Ce/\W.mroIn K Ce (.ref C)=some true/\∀ea,H1 ea=none->ts (EE i D) (σ1.set i (some (.ref ea))) (upd H1 ea (.ext (lN ea Ce)))) σ H
section
variable{X:Cx}{x n:Str}{C:Addr}{i:Nat}{body suite:List Stmt}{b₀:Stmt}{tb:TSx}{ts:TS}{np hpos pos:Pos}
def Hj(T:X.Top)(hN:X.N.Nodup)(hi:X.N[i]?=some n)(hl:X.env.kindOf n=some .local)(hg:Gl X x)(hm:X.mg x=some (.ref C))(hh:XHand X.K C)(hb:PSsx X body tb)(hs:∀ea,PSs (jd X ea) (b₀::suite) ts)
 (hd:(x==("__debug__" : Str))=false):PS X (.Try body [.ExceptHandler (some (.Name x np)) (some n) (b₀::suite) hpos] [] [] pos) (tTry X.K C i tb ts):=by
 intro pins s σ H D I h;refine wpAny_Try_except (ND (hb pins s σ H D _ I h) (λf s1 q=>?_) λe s1 hx=>?_)
 .cases f with
  |next=>exact Pz q
  |ret v=>exact q
  |brk=>exact q
  |cont=>exact q
 .obtain⟨σ1,H1,s0,I1,ea,t,cls,H',B,rfl,os,bare,F,Ce,rfl,hme,q⟩:=hx;have F1:=F.fl;rw[T.stk] at F1;have hfr:X.A.frames=some (X.env::X.outer):=by rw[I1.ok.frames,T.stk]
  refine wpAny_looks_onW hfr T.fr F1 λh4 held4 up4=>?_;refine wpAny_landsW held4 λh5 fl5 up5=>?_;have fl5':=fl5;rw[<- T.stk] at fl5';obtain⟨hn5,I5⟩:=tW (g':=s1) T I1 F os bare fl5' (up4.trans up5);obtain⟨o5,he5,hc5⟩:=fl5.there;refine wpAny_handleBy_cons (codeAny_handlers_test (BU I5 hg hm ?_ hd)) (by intro q;cases q);refine yW I5.kIn he5 hc5 hh.ty hh.cls hh.mb hme ?_;refine codeAny_handlers_suite_as ?_;refine lands_againW fl5 λh6 fl6 up6=>?_;have fl6':=fl6;rw[<- T.stk] at fl6';obtain⟨hn6,I6⟩:=tW (g':=s1) T I1 F os bare fl6' ((up4.trans up5).trans up6);refine dG (v:=.ref ea) I6 hN hi (.inl hl) rfl (λs7 I7=>?_) (.inr hl);refine ND (hs ea pins s7 _ _ (EE i D) I7.suite (q ea hn6)) (λf s8 h8=>?_) λ_ _ z=>False.elim z;have go:∀{σ8:St}{H8:Hp},Inv (jd X ea) pins σ8 H8 s8->(∀s9,Inv X pins (σ8.set i none) H8 s9->SP X pins D f s9)->
   wpAny (model X.prog X.w) X.A (do bindName X.env n .none;unbindBehindTheSuite X.env n hpos) (λ_ s9=>SP X pins D f s9) X.xe s8:=λ{σ8 H8} I8' k=>by
   have I8:=I8'.unsuite I.ok;obtain⟨m,hn,hm⟩:=I8.loc;exact wpAny_nameGoes_keeps hl hn (by rw[I8.ok.kind];rfl) λh' v hn' hs'=>k _ (I8.unbind hN hi hl hm hn hn' hs')
  cases f with
  |next=>obtain⟨σ8,H8,I8,q8⟩:=h8;exact go I8 λs9 I9=>⟨_,_,I9,q8⟩
  |brk=>obtain⟨σ8,H8,I8,q8⟩:=h8;exact go I8 λs9 I9=>⟨_,_,I9,q8⟩
  |cont=>obtain⟨σ8,H8,I8,q8⟩:=h8;exact go I8 λs9 I9=>⟨_,_,I9,q8⟩
  |ret u=>obtain⟨v,σ8,H8,I8,r8,q8⟩:=h8;exact go I8 λs9 I9=>⟨v,_,_,I9,r8,q8⟩
end
mutual
inductive Rep(K:W.Frag)(H:Hp):V->PyData->Prop where
 |non:Rep K H .non .none
 |bl (b:Bool):Rep K H (.bl b) (.bool b)
 |int (i:Int):Rep K H (.int i) (.int i)
 |str (x:Str):Rep K H (.str x) (.str x)
 |tup {a:Addr}{xs:List V}{ds:List PyData} (h:SqT K H a xs) (r:Reps K H xs ds):Rep K H (.ref a) (.tuple ds)
 |lst {a:Addr}{xs:List V}{ds:List PyData} (h:SqL K H a xs) (r:Reps K H xs ds):Rep K H (.ref a) (.list ds)
inductive Reps(K:W.Frag)(H:Hp):List V->List PyData->Prop where
 |nil:Reps K H [] []
 |cons {x:V}{d:PyData}{xs:List V}{ds:List PyData} (r:Rep K H x d) (rr:Reps K H xs ds):Reps K H (x::xs) (d::ds)
end
section
variable{X:Cx}{pins:Qu}{σ:St}{H:Hp}{s:Shared}{K:W.Frag}
def Rep.reads(I:Inv X pins σ H s)(r:Rep X.K H v d)(q:RelV v u):∃as,Reads s.heap u d as:=
 Rep.rec (motive_1:=λv d _=>∀u,RelV v u->∃as,Reads s.heap u d as) (motive_2:=λvs ds _=>∀us,Vals vs us->∃as,ReadsAll s.heap us ds as)
  (λu r=>by cases r;exact⟨_,.none⟩) (λb u r=>by cases r;exact⟨_,.bool b⟩) (λi u r=>by obtain⟨t,rfl⟩:=r;exact⟨_,.int i t⟩) (λx u r=>by obtain⟨t,rfl⟩:=r;exact⟨_,.str x t⟩)
  (λh _ ih u r=>by cases r;obtain⟨its,rv,⟨o,e,c,n,d⟩,_⟩:=I.tuple h;obtain⟨as,q⟩:=ih _ rv;exact⟨as,.tuple e c d (by simpa using q)⟩)
  (λh _ ih u r=>by cases r;obtain⟨its,rv,⟨o,n,e,c,_,d⟩,_⟩:=I.list h;obtain⟨as,q⟩:=ih _ rv;exact⟨_,.list e c d (by simpa using q)⟩)
  (λus r=>by cases r;exact⟨_,.nil⟩)
  (λ_ _ a b us q=>by
   cases q with
   |cons q1 q2=>obtain⟨as,h1⟩:=a _ q1;obtain⟨bs,h2⟩:=b _ q2;exact⟨_,.cons h1 h2⟩) r u q
end
section
variable{X:Cx}
noncomputable def shp (d:PyData):Bool:=d.canLay0&&decide (d.depth<=160)
def fY(h:shp d=true):d.canLay0=true:=(Bool.and_eq_true_iff.mp h).1
def lZ{A:Around}{d e:PyData}(h:shp d=true)(hu:A.units+180<cLine):A.units+min d.depth e.depth<cLine:=by have h1:d.depth<=160:=O0 (Bool.and_eq_true_iff.mp h).2;have h2:min d.depth e.depth<=d.depth:=Nat.min_le_left _ _;omega
def Cq(K:W.Frag):R2:=λx y H Q=>∃dx dy,Rep K H x dx/\Rep K H y dy/\shp dx=true/\shp dy=true/\Q (.bl (PyData.eqv dx dy)) H
def BH(K:W.Frag):R2:=λx y H Q=>∃dx dy,Rep K H x dx/\Rep K H y dy/\shp dx=true/\shp dy=true/\Q (.bl (!PyData.eqv dx dy)) H
def Ky(hu:X.A.units+180<cLine):OpR X (compareOp .Eq) (Cq X.K):=by intro pins s σ H x y v u Q I rx ry h;obtain⟨dx,dy,r1,r2,h1,h2,q⟩:=h;obtain⟨as,q1⟩:=r1.reads I rx;obtain⟨bs,q2⟩:=r2.reads I ry;exact SeqAt.compareEq_reads q1 q2 (fY h1) (fY h2) (lZ h1 hu) (tP I q rfl)
def Js(hu:X.A.units+180<cLine):OpR X (compareOp .NotEq) (BH X.K):=by intro pins s σ H x y v u Q I rx ry h;obtain⟨dx,dy,r1,r2,h1,h2,q⟩:=h;obtain⟨as,q1⟩:=r1.reads I rx;obtain⟨bs,q2⟩:=r2.reads I ry;exact SeqAt.compareNe_reads q1 q2 (fY h1) (fY h2) (lZ h1 hu) (tP I q rfl)
open PySem.Builtin.Int (intBits)
def CDivB(i j:Int):Prop:=j≠0/\intBits j<=8000
def Ek(i j:Int):Prop:=intBits i<=100000/\intBits j<=100000
def BF:OpR X (binaryOp .FloorDiv) (rI CDivB λi j=>.int (i.fdiv j)):=opI λi j _ _ _ _ _ hc q=>floordiv_int hc.1 q (.inl (PyProof.noPylong_of_log2 (by
 have h:=hc.2;have h0:=hc.1;unfold intBits at h;have hb:(j==0)=false:=by simpa using h0
 rw[hb] at h;simp only[ON,Pl] at h;omega)))
def EZ:OpR X (binaryOp .Mult) (rI Ek λi j=>.int (i*j)):=opI λi j _ _ _ _ _ hc q=>mul_int q (PySem.IntMulOk.of_le hc.1 hc.2 (by decide))
def AL(bs:List Bool):((List.range bs.length).all λi=>bs.getD i false)=bs.all id:=by
 rw[P8,NA,NA];constructor
 .intro h x hx;obtain⟨i,hi,rfl⟩:=List.mem_iff_getElem.mp hx
  have:=h i (NM.mpr hi)
  simpa [L_,hi] using this
 .intro h i hi;have hi':=NM.mp hi
  have:=h bs[i] (OK hi')
  simpa [L_,hi'] using this
def BN(hc:X.calm=true):CallR X (.builtin "all") (λxs H Q=>∃(a:Addr) (bs:List Bool),xs=[.ref a]/\SqL X.K H a (bs.map V.bl)/\Q (.bl (bs.all id)) H):=by
 intro pins s σ H xs us Q I r h;obtain⟨a,bs,rfl,hq,q⟩:=h;obtain⟨u,rfl,ru⟩:=fS r;cases ru;obtain⟨its,rv,p,hz⟩:=I.list hq;have hl:=rv.length;rw[o_] at hl;have hlt:a<s.heap.objs.size:=by obtain⟨o,n,e,_⟩:=p;exact z_ e
 refine call_all_walk (wpAny_pyIter_list p.isList ?_);refine⟨s.heap.objs.size,_,_,_,_,_,λi=>bs.getD i false,rfl,Walks.list (A:=X.A.in1) (I.ok.hd hc) s.heap.objs.size a (K_ hlt) its.toArray,⟨⟨_,Em _ rfl,rfl,rfl⟩,(p.keeps λb o e=>p_ _ e).isList⟩,λi v s' Q' E' hP hQ=>?_,λh' tk hk=>?_⟩
 .have hP':its[i]?=some v:=by simpa using hP
  have hi:i<bs.length:=by rw[hl];exact (w_.mp hP').1
  have hb:(bs.map V.bl)[i]?=some (V.bl bs[i]):=by simp [hi]
  obtain⟨u,hu,ru⟩:=rv.get hb;rw[hP'] at hu;cases hu;cases ru;refine OD ?_;have e:bs.getD i false=bs[i]:=by simp [L_,hi]
  show Q' bs[i] s';rw[<- e];exact hQ
 .have e1:its.toArray.size=bs.length:=by rw[x_,hl]
  rw[e1,AL];have hn:H s.heap.objs.size=none:=I.fresh;have I1:Inv X pins σ H { s with heap:=s.heap.push { cls:=.type "list_iterator",dict:=none,data:=.fields #[.ref a,rawInt 0] } }:=I.kept (t':=s.toks) λb o e=>p_ _ e;refine⟨.bl _,H,?_,rfl,q⟩;refine I.kept (t':=tk) λb o e=>?_;have hne:b≠s.heap.objs.size:=K_ (z_ e);exact hk b o (by simpa using hne) (p_ _ e)
end
structure Def(K:W.Frag)(mg:Qt)(x:Str)(st:Stmt):Prop where
 ex:∃f fd,Fun K x x st f fd/\mg x=some (.ref f)
def AA{K:W.Frag}{h:Heap}{mg:Qt}{x:Str}{st:Stmt}{f:Addr}{oc:Value}{od an:Option Addr}{osl:Array (Option Value)}{kV doc pm cdv ct:Value}(X:K.In h)(G:h.Ns mainGlobals mg)
 (a:W.nsIn K mainGlobals x=some (some (.ref f))) (l:K.lookup f=some ⟨oc,od,.func (W.fnOf x x (cI st) (bq st) (au st) .none kV doc pm an cdv ct),osl⟩)
 (c:W.codeIn K cdv x=true) (k:W.keepIn K (.ref f)=true):Def K mg x st:=⟨f,_,JV l c k,W.mg_of X G a⟩
def Fun.look{K:W.Frag}{x qual:Str}{st:Stmt}{f:Addr}{fd:FuncData}(F:Fun K x qual st f fd):∃oc od osl,K.lookup f=some ⟨oc,od,.func fd,osl⟩:=by obtain⟨oc,od,kV,doc,pm,an,cdv,ct,osl,rfl,lk,j_⟩:=F.ex;exact⟨oc,od,osl,lk⟩
structure Callee(P:Program)(w:World)(K:W.Frag)(mg:Qt)(base:Heap)(x:Str)(k:Nat)(ps:List Str)(sp:Sp):Prop where
 ex:∃f fd,FnOk P w K mg base (CX1 P w) k f fd ps sp/\mg x=some (.ref f)/\W.keepIn K (.ref f)=true/\Binds K fd ps []/\∃oc od osl,K.lookup f=some ⟨oc,od,.func fd,osl⟩
section
variable{P:Program}{w:World}{K:W.Frag}{mg:Qt}{base:Heap}{x:Str}{st:Stmt}{k:Nat}{ps N:List Str}{sp:Sp}
def Callee.imp(C:Callee P w K mg base x k ps sp)(h:∀vs H Q E,sp' vs H Q E->sp vs H Q E):Callee P w K mg base x k ps sp':=by obtain⟨f,fd,F,r⟩:=C.ex;exact⟨f,fd,F.imp h,r⟩
def Def.okR(D:Def K mg x st)(S:FnScope N ps (au st))
 (hb:∀(kV doc pm:Value) (an:Option Addr) (cdv ct:Value) (us:List Value),us.length=ps.length->bindArgs (W.fnOf x x (cI st) (bq st) (au st) .none kV doc pm an cdv ct) ⟨us,[]⟩=pure (ps.zip us))
 (len:∀vs H Q E,sp vs H Q E->vs.length=ps.length)
 (b_:∀(f:Addr) (cdv:Value) (A:Around) (outer:List Env) (s:Shared) (H:Hp) (vs:List V) (Q:VK) (E:XK),Room k (A.deeper (envOfC x (au st) s.heap.objs.size f cdv))->sp vs H Q E->
  ∃t,PSs (eE (CX1 P w) P w K mg base N x (au st) f cdv A outer s H E) (bq st) t/\t { nx:=λ_ H'=>Q .non H',rt:=Q } (df N vs) H):Callee P w K mg base x (k+1) ps sp:=by
 obtain⟨f,fd,F,m⟩:=D.ex;exact⟨f,fd,F.okR S len (b_ f),m,F.kp,F.binds hb,F.look⟩
end
section
variable{X:Cx}{K:W.Frag}
def allK(h:X.K=K)(hc:X.calm=true):CallR X (.builtin "all") (λxs H Q=>∃(a:Addr) (bs:List Bool),xs=[.ref a]/\SqL K H a (bs.map V.bl)/\Q (.bl (bs.all id)) H):=by subst h;exact BN hc
def Room.u180(r:Room k A):A.units+180<cLine:=by have:=r.un;omega
def eqDK(h:X.K=K)(hu:X.A.units+180<cLine):OpR X (compareOp .Eq) (Cq K):=by subst h;exact Ky hu
def neDK(h:X.K=K)(hu:X.A.units+180<cLine):OpR X (compareOp .NotEq) (BH K):=by subst h;exact Js hu
def inK(h:X.K=K):OpR X (compareOp .In) (rIn K false):=by subst h;exact yZ
def HG(h:X.K=K):OpR X (compareOp .NotIn) (rIn K true):=by subst h;exact uh
end
section
variable{X:Cx}
def JU{elt iter tg:Expr}{ifs:List Expr}{scope:Scope}{pos:Pos}{wi:TI}{g:TG}{tc:TT}{te:TE}{N:List Str}{sub:Qw}{iT:Nat}{xT:Str}{px spos:Pos}
 (hc:X.calm=true) (hN:X.N.Nodup) (hix:X.N[iT]?=some xT) (hxl:Loc X.env.scope xT) (hi:PI X tg iter wi)
 (hk:scope.kind=.function) (hnc:∀x∈scope.names,x.2 ≠ .cell) (h_:∀x∈scope.names,x.2=.local->scope.names.lookup x.1=some .local)
 (hfr:∀x∈scope.names,x.2=.free->X.env.kindOf x.1=some .cell\/X.env.kindOf x.1=some .free)
 (hsl:sub.length=N.length) (hsub:∀(j i:Nat) (x:Str),sub[j]?=some (some i)->N[j]?=some x->X.N[i]?=some x/\scope.names.lookup x=some .free)
 (hg:∀cl C s₂ H fp,PG (cm X N scope cl C s₂ H fp) tg g) (ht:∀cl C s₂ H fp,PTs (cm X N scope cl C s₂ H fp) ifs tc) (he:∀cl C s₂ H fp,PE (cm X N scope cl C s₂ H fp) elt te)
 (hsw:swapsWith (.ListComp elt [⟨tg,iter,ifs,0⟩] scope pos) (some (.Name xT px)) spos.line X.env=pure true)
 (hs:∀x,foldedSetIterable iter X.env x=pure x) (hf:X.fn xT=true\/X.env.scope.names.lookup xT=some .local):
 PS X (.Assign [.Name xT px] (.ListComp elt [⟨tg,iter,ifs,0⟩] scope pos) spos) (xP (qR wi sub g tc te) (qQ iT)):=by
 intro pins s σ H D0 I h;rw[exec_Assign_Name_used _ _ _ _ hsw];refine n_ (O5 (n_ ?_));show wpAny _ X.A (do let _ <- comprehension (.ListComp elt [⟨tg,iter,ifs,0⟩] scope pos) scope X.env _ (newList []) false (eval iter X.env) (some (assign (.Name xT px) X.env))) _ _ s;refine n_ (ND (wz (use:=some (assign (.Name xT px) X.env)) (R:=λ_ s'=>SP X pins D0 .next s') hc hi hk hnc h_ hfr hsl hsub hg ht he hs I h λD C s4 e=>?_) (λ_ s' hq=>v_ (v_ hq)) λ_ _ e=>e);obtain⟨m,hm⟩:=e.ns;obtain⟨H',hC,q,i⟩:=e.inv;have dc:=e.dc;have fr:=e.fr;refine wpAny_assign_Name (pb (v:=.ref D) (i s4.heap ⟨rfl,λ_ _=>rfl⟩) hN hix hxl rfl (λs7 I7 ⟨a7,sb7,ha7⟩=>?_) hf);have ha:a7<D:=by
  rcases ha7 with z |z
  .rw[z];exact fr
  .exact e.cell xT a7 z
 refine⟨m,hm.sameBut sb7 (Pe (Qc ha dc)),λh8 hs8=>⟨_,_,I7.turned (it:=C) (t':=s7.toks) (λb o hb e=>hs8.extBut b o hb e) hC (Pe (Qc fr dc)) (.inr (NG e.sz (Pd dc))) (λx c q=>K_ (Qc (e.cell x c q) dc)) (λp hp=>K_ (Qc (e.pin p hp) dc)),q⟩⟩
end
theorem om:∀{ns:List Int}{its:List Value},Vals (ns.map V.int) its->IntsAre its ns
 | [],_,h=>by cases h;exact .nil
 |
  i::r,_,h=>by
  cases h with
  |cons h1 h2=>obtain⟨t,rfl⟩:=h1;exact .cons i t (om h2)
def pM{X:Cx}{K:W.Frag}(hK:X.K=K)(hc:X.calm=true):CallR X (.builtin "sum") (λxs H Q=>∃(a:Addr) (ns:List Int),xs=[.ref a]/\SqL K H a (ns.map V.int)/\Q (.int ns.sum) H):=by
 subst hK;intro pins s σ H xs us Q I r h;obtain⟨a,ns,rfl,hq,q⟩:=h;obtain⟨u,rfl,ru⟩:=fS r;cases ru;obtain⟨its,rv,p,hz⟩:=I.list hq;have hi:=om rv;obtain⟨ys,hy⟩:=hi.allInts.items;have hn:numsOf its.toArray.toList=ns:=by rw[show its.toArray.toList=its from rfl,hi.numsOf]
 have pl:=p.isList;rw[hy] at pl hn;rw[nums_intItems] at hn;refine sum_intListG (I.ok.hd hc) pl λh' tk t' hk=>?_;rw[preSum_eq,N5 (by simp),hn];exact⟨.int ns.sum,H,I.kept (t':=tk) hk,⟨_,rfl⟩,q⟩
end L2
namespace Fr
noncomputable def dv (a b:Int):Int:=if b<0 then -((Int.gcd a b:Nat):Int) else ((Int.gcd a b:Nat):Int)
def T(a b:Int):Int:=a.fdiv (dv a b)
def B(a b:Int):Int:=b.fdiv (dv a b)
def sj(hb:b≠0):0<Int.gcd a b:=Int.gcd_pos_of_ne_zero_right a hb
def dv_ne(hb:b≠0):dv a b≠0:=by
 have:=sj (a:=a) hb
 unfold dv;split <;> omega
def Bp(a b:Int):dv a b ∣ a:=by
 have h:((Int.gcd a b:Nat):Int) ∣ a:=Int.gcd_dvd_left a b;unfold dv;split
 .exact Int.neg_dvd.mpr h
 .exact h
def BX(a b:Int):dv a b ∣ b:=by
 have h:((Int.gcd a b:Nat):Int) ∣ b:=Int.gcd_dvd_right a b;unfold dv;split
 .exact Int.neg_dvd.mpr h
 .exact h
def vk{a d q:Int}(hd:d≠0)(h:a=d*q):a.fdiv d=q:=by rw[h,PC];exact Int.mul_fdiv_cancel q hd
def T_mul(hb:b≠0):T a b*dv a b=a:=by obtain⟨q,h⟩:=Bp a b;have:T a b=q:=vk (dv_ne hb) h;rw[this,PC];exact h.symm
def B_mul(hb:b≠0):B a b*dv a b=b:=by obtain⟨q,h⟩:=BX a b;have:B a b=q:=vk (dv_ne hb) h;rw[this,PC];exact h.symm
def B_pos(hb:b≠0):0<B a b:=by
 have h:=B_mul (a:=a) hb;have hg:=sj (a:=a) hb;generalize hx:B a b=x at h ⊢;unfold dv at h;split at h
 .rename_i hneg;have h2:x*((Int.gcd a b:Nat):Int)=-b:=by rw[Int.mul_neg] at h;omega
  rcases Int.lt_or_le 0 x with z |z
  .exact z
  .have:x*((Int.gcd a b:Nat):Int)<=0:=Int.mul_nonpos_of_nonpos_of_nonneg z (by omega);omega
 .rename_i hpos;rcases Int.lt_or_le 0 x with z |z
  .exact z
  .have:x*((Int.gcd a b:Nat):Int)<=0:=Int.mul_nonpos_of_nonpos_of_nonneg z (by omega);omega
def cross(hb:b≠0):T a b*b=a*B a b:=by have h1:=T_mul (a:=a) hb;have h2:=B_mul (a:=a) hb;generalize T a b=x at *;generalize B a b=y at *;generalize dv a b=d at *;rw[<- h2,<- h1];rw[<- Oh,PD]
def dv_abs(a b:Int):(dv a b).natAbs=Int.gcd a b:=by unfold dv;split <;> simp
def low(hb:b≠0):Int.gcd (T a b) (B a b)=1:=by
 have h1:=T_mul (a:=a) hb;have h2:=B_mul (a:=a) hb;have hg:=sj (a:=a) hb;have e1:a.natAbs=(T a b).natAbs*Int.gcd a b:=by rw[<- dv_abs a b,<- Oe,h1]
 have e2:b.natAbs=(B a b).natAbs*Int.gcd a b:=by rw[<- dv_abs a b,<- Oe,h2]
 have e3:Int.gcd a b=Nat.gcd ((T a b).natAbs*Int.gcd a b) ((B a b).natAbs*Int.gcd a b):=by rw[<- e1,<- e2];rfl
 rw[Nat.gcd_mul_right] at e3;show Nat.gcd (T a b).natAbs (B a b).natAbs=1;generalize Nat.gcd (T a b).natAbs (B a b).natAbs=k at *;generalize Int.gcd a b=g at *;have:(1:Nat)*g=k*g:=by omega
 exact (Nat.eq_of_mul_eq_mul_right hg this).symm
def uniq(hy:0<y)(hy':0<y')(h:Int.gcd x y=1)(h':Int.gcd x' y'=1)(e:x*y'=x'*y):x=x'/\y=y':=by
 have c1:Nat.Coprime y.natAbs x.natAbs:=by rw[Nat.coprime_comm];exact h
 have c2:Nat.Coprime y'.natAbs x'.natAbs:=by rw[Nat.coprime_comm];exact h'
 have e1:x.natAbs*y'.natAbs=x'.natAbs*y.natAbs:=by rw[<- Oe,<- Oe,e]
 have d1:y.natAbs ∣ y'.natAbs:=c1.dvd_of_dvd_mul_left (by rw[e1];exact Nat.dvd_mul_left _ _);have d2:y'.natAbs ∣ y.natAbs:=c2.dvd_of_dvd_mul_left (by rw[<- e1];exact Nat.dvd_mul_left _ _);have ey:y.natAbs=y'.natAbs:=Nat.dvd_antisymm d1 d2;have ey':y=y':=by omega
 subst ey';exact⟨Po (by omega) e,rfl⟩
def same(hb:b≠0)(hd:d≠0)(e:a*d=c*b):T a b=T c d/\B a b=B c d:=by
 refine uniq (B_pos hb) (B_pos hd) (low hb) (low hd) ?_;have h1:=cross (a:=a) hb;have h2:=cross (a:=c) hd;have hbd:b*d≠0:=O6 hb hd;refine Po hbd ?_
 calc T a b*B c d*(b*d)=(T a b*b)*(B c d*d):=by rw[Oh,Pb (B c d) b d,<- Oh]
  _=(a*B a b)*(B c d*d):=by rw[h1]
  _=(a*d)*(B c d*B a b):=by rw[Oh a,Oh a,Pb (B a b),Pb d,PC (B a b) d]
  _=(c*b)*(B c d*B a b):=by rw[e]
  _=(c*B c d)*(B a b*b):=by rw[Oh c,Oh c,Pb b,PC b (B a b)]
  _=(T c d*d)*(B a b*b):=by rw[<- h2]
  _=T c d*B a b*(b*d):=by rw[Oh,Oh,Pb d,PC d b]
def self(hb:0<b)(h:Int.gcd a b=1):T a b=a/\B a b=b:=
 uniq (B_pos (by omega)) hb (low (by omega)) h (cross (by omega))
def euc(m n:Nat):Nat.gcd n (m % n)=Nat.gcd m n:=by rw[Nat.gcd_comm,<- Nat.gcd_rec,Nat.gcd_comm]
end Fr
set_option maxHeartbeats 1000000
namespace L2
open PySem PySem.Spec PyProof.Rows
def Inv.turnedL{X:Cx}{pins:Qu}{σ:St}{H:Hp}{s:Shared}{h':Heap}{t':Nat}{ch:List Addr}(I:Inv X pins σ H s)(k:∀b o,b∉ch->s.heap.get? b=some o->h'.get? b=some o)(hf:∀b∈ch,FpOk X pins H b):Inv X pins σ H { s with heap:=h',toks:=t' }:=by
 have away:∀b u,H b=some u->b∉ch:=λb u e z=>by have:=(hf b z).1;rw[e] at this;cases this
 refine I.step (g':=s.gens) (d':=s.drawn) (ch:=ch) (λb hb=>⟨(hf b hb).2.2.2.1,(hf b hb).2.1,(hf b hb).2.2.2.2.1,(hf b hb).2.2.2.2.2⟩) (λb o _ _ hc e _=>k b o hc e) (λb o _ _ hc e _=>⟨o.slots,k b o hc e⟩) (λ_ _ _ _ n=>n)
  (λb o hc e=>⟨o,k b o hc e⟩) (λ_ _ e=>e) (λ_ _ _ e=>e) (λb ps e=>⟨#[],by rw[e];simp⟩) (λm hm=>?_) (λb u e=>?_) I.bare
 .obtain⟨o,es,ep,ho,r⟩:=hm;exact⟨o,es,ep,k _ o (λz=>(hf _ z).2.1 rfl) ho,r⟩
 .refine (I.hok b u e).stay (λc v hc q=>k c v ?_ q) (λ_ q=>q) λ_ _ q=>q;rcases hc with z |z
  .rw[z];exact away b u e
  .exact away c _ z
def FpOk.up(f:FpOk X pins H b)(hn:b≠p):FpOk X pins (upd H p o) b:=⟨by rw[aK hn];exact f.1,f.2⟩
def wX(hj:s.heap.IsTupleIter j t n)(ht:s.heap.IsTuple t its)(hv:its[n]?=some v)
 (k:∀h',h'.IsTupleIter j t (n+1)->Heap.SameBut j s.heap h'->Q v { s with heap:=h' }):wpAny (model prog w) A (Builtin.SmallTypes.nextOf (.ref j)) Q E s:=by
 obtain⟨oj,ej,cj,dj⟩:=id hj;obtain⟨ot,et,_,m,dt⟩:=ht;unfold Builtin.SmallTypes.nextOf;refine n_ (OG (name:=Str.ofString "__next__") hj.typeIs OY (Pm OY hj.typeIs F.entry_tuple_iterator_next ?_ (F.args_tuple_iterator_next_1 _)));show wpAny _ _ (field (.ref j) 0 >>= _) _ _ s;refine n_ (N_ ej dj (x:=.ref t) rfl ?_);show wpAny _ _ (if (Value.ref t==Value.none)=true then _ else _) _ _ s;rw[if_neg (show ¬ ((Value.ref t==Value.none)=true) from u_)];show wpAny _ _ (field (.ref j) 1 >>= _) _ _ s;refine n_ (N_ ej dj (x:=.int n 0) rfl ?_);show wpAny _ _ (seqItems? (.ref t) >>= _) _ _ s;refine n_ (OL et dt ?_);simp only[NS,hv];refine n_ (wpAny_setField ej dj (by simp) (v_ ⟨v,rfl,v_ (k _ ?_ (OH ..))⟩));exact⟨_,Heap.get?_update_self _ ej (Obj.isFreed_of_fields (Obj.data_mapFields dj _)),(Obj.cls_mapFields ..).trans cj,by rw[Obj.data_mapFields dj];simp [rawInt]⟩
def oa(hh:A.handled=none)(hj:s.heap.IsTupleIter j t n)(ht:s.heap.IsTuple t its)(hv:its[n]?=none)
 (k:∀h' e,Heap.ExtBut j s.heap h'->(∃o,h'.get? e=some o/\o.cls=.type "StopIteration")->E (.ref e) { s with heap:=h' }):wpAny (model prog w) A (Builtin.SmallTypes.nextOf (.ref j)) Q E s:=by
 obtain⟨oj,ej,cj,dj⟩:=id hj;obtain⟨ot,et,_,m,dt⟩:=ht;unfold Builtin.SmallTypes.nextOf;refine n_ (OG (name:=Str.ofString "__next__") hj.typeIs OY (Pm OY hj.typeIs F.entry_tuple_iterator_next ?_ (F.args_tuple_iterator_next_1 _)));show wpAny _ _ (field (.ref j) 0 >>= _) _ _ s;refine n_ (N_ ej dj (x:=.ref t) rfl ?_);show wpAny _ _ (if (Value.ref t==Value.none)=true then _ else _) _ _ s;rw[if_neg (show ¬ ((Value.ref t==Value.none)=true) from u_)];show wpAny _ _ (field (.ref j) 1 >>= _) _ _ s;refine n_ (N_ ej dj (x:=.int n 0) rfl ?_);show wpAny _ _ (seqItems? (.ref t) >>= _) _ _ s;refine n_ (OL et dt ?_);simp only[NS,hv];refine n_ (Qh (n_ (wpAny_setField ej dj (by simp) ?_)));show wpAny _ _ (newExc (.type "StopIteration") [] >>= _) _ _ _;refine n_ ?_;simp only[newExc,newTuple];refine n_ (N6 ?_ (by size_fits));refine n_ (m:=firstArgMember _ _) (wpAny_of_eq (a:=Value.none) (by first |rfl |(simp only[firstArgMember];rfl)) ?_);refine N6 ?_ (by size_fits);simp only[raiseNew];refine n_ (wpAny_handled ?_);first |rw[show A.in1.handled=none from hh] |rw[hh]
 refine n_ (v_ (wpAny_throw ?_));exact k _ _ (((OH ..).extBut.push _).push _) ⟨_,Em _ rfl,rfl⟩
def SqB(K:W.Frag)(b:Bool)(H:Hp)(a:Addr)(xs:List V):Prop:=match b with
 |true=>SqL K H a xs
 |false=>SqT K H a xs
def ItB(b:Bool)(h:Heap)(j a:Addr)(i:Nat):Prop:=match b with
 |true=>h.IsListIter j a i
 |false=>h.IsTupleIter j a i
def SqB.inj(I:Inv X pins σ H s)(x:SqB X.K b H a xs)(y:SqB X.K b H a ys):xs=ys:=by
 cases b with
 |true=>exact I.list_inj x y
 |false=>exact I.tuple_inj x y
def kR(z:ItB b h j a i):∃o,h.get? j=some o/\(∀v,o.data ≠ .cell v)/\o.cls=.type (if b then "list_iterator" else "tuple_iterator"):=by
 cases b with
 |true=>obtain⟨o,e,c,d⟩:=z;exact⟨o,e,(λv y=>by rw[d] at y;cases y),c⟩
 |false=>obtain⟨o,e,c,d⟩:=z;exact⟨o,e,(λv y=>by rw[d] at y;cases y),c⟩
def bW(z:ItB b h j a i)(k:∀o,h.get? j=some o->h'.get? j=some o):ItB b h' j a i:=by
 cases b with
 |true=>obtain⟨o,e,r⟩:=z;exact⟨o,k o e,r⟩
 |false=>obtain⟨o,e,r⟩:=z;exact⟨o,k o e,r⟩
def LsB(b:Bool)(h:Heap)(a:Addr)(its:Array Value):Prop:=match b with
 |true=>h.IsList a its
 |false=>h.IsTuple a its
def LsB.keep(z:LsB b h a its)(k:∀o,h.get? a=some o->h'.get? a=some o):LsB b h' a its:=by cases b <;> (obtain⟨o,e,r⟩:=z;exact⟨o,k o e,r⟩)
def xA(hj:ItB b s.heap j a n)(ht:LsB b s.heap a its)(hv:its[n]?=some v)
 (k:∀h',ItB b h' j a (n+1)->Heap.SameBut j s.heap h'->Q v { s with heap:=h' }):wpAny (model prog w) A (Builtin.SmallTypes.nextOf (.ref j)) Q E s:=by
 cases b with
 |true=>exact wpAny_nextOf_list_item hj ht hv k
 |false=>exact wX hj ht hv k
def pf(hh:A.handled=none)(hj:ItB b s.heap j a n)(ht:LsB b s.heap a its)(hv:its[n]?=none)
 (k:∀h' e,Heap.ExtBut j s.heap h'->(∃o,h'.get? e=some o/\o.cls=.type "StopIteration")->E (.ref e) { s with heap:=h' }):wpAny (model prog w) A (Builtin.SmallTypes.nextOf (.ref j)) Q E s:=by
 cases b with
 |true=>exact wpAny_nextOf_list_end hh hj ht hv k
 |false=>exact oa hh hj ht hv k
section
variable{prog:Program}{w:World}{A:Around}{E:Qv}{s:Shared}{b1 b2:Bool}{z p q j1 j2 a1 a2:Addr}{n:Nat}{xs ys:Array Value}{x y u v:Value}
def zipN{Q:Qv}(D:ZipApart z p q j1 j2 a1 a2)(hz:IsZip s.heap z p q .none)(hp:IsPair s.heap p (.ref j1) (.ref j2))(hq:IsPair s.heap q u v)
 (i1:ItB b1 s.heap j1 a1 n) (i2:ItB b2 s.heap j2 a2 n) (l1:LsB b1 s.heap a1 xs) (l2:LsB b2 s.heap a2 ys) (ex:xs[n]?=some x) (ey:ys[n]?=some y)
 (k:∀h',IsZip h' z p q (rawInt s.heap.objs.size)->IsPair h' q x y->ItB b1 h' j1 a1 (n+1)->ItB b2 h' j2 a2 (n+1)->IsPair h' s.heap.objs.size x y->(∀c o,c≠z->c≠q->c≠j1->c≠j2->s.heap.get? c=some o->h'.get? c=some o)->Q (.ref s.heap.objs.size) { s with heap:=h' }):
 wpAny (model prog w) A (Builtin.«zip.__next__» ⟨[.ref z],[]⟩) (λf_ s'=>∃v,f_=.done (.ret v)/\Q v s') E s:=by
 show wpAny _ _ (field (.ref z) 2 >>= _) _ _ _;refine n_ (N_ hz rfl (x:=.bool false) rfl ?_);show wpAny _ _ (field (.ref z) 3 >>= _) _ _ _;refine n_ (N_ hz rfl (x:=.ref p) rfl ?_);refine n_ (OL hp rfl ?_);show wpAny _ _ (Builtin.SmallTypes.ownedTupleIsFree (.ref z) >>= _) _ _ _;refine n_ ?_;unfold Builtin.SmallTypes.ownedTupleIsFree;refine n_ (N_ hz rfl (x:=.none) rfl (v_ ?_));simp only[OW];refine n_ (Qh ?_);refine n_ (N_ hz rfl (x:=.ref q) rfl ?_);refine n_ (OR hz (by simp) λg1 (y1:IsZip g1 z p q .ellipsis) t1=>?_);refine n_ ?_;simp only[List.zipIdx_cons,List.zipIdx_nil,Pw,Ql];refine n_ (n_ (Qs ?_));show wpAny _ _ (Builtin.SmallTypes.nextOf (.ref j1) >>= _) _ _ _;refine n_ (xA (bW i1 λo e=>t1.extBut _ _ D.i1z e) (l1.keep λo e=>t1.extBut _ _ D.l1z e) ex λg2 m1 t2=>v_ ?_);have q2:IsPair g2 q u v:=t2.extBut _ _ D.TOi1 (t1.extBut _ _ D.TOz hq);refine n_ (OL q2 rfl ?_);refine n_ (Qi q2 λg3 (q3:IsPair g3 q x v) t3=>?_);refine n_ (wpAny_letGo (v_ ?_));refine n_ (n_ (Qs ?_));show wpAny _ _ (Builtin.SmallTypes.nextOf (.ref j2) >>= _) _ _ _;refine n_ (xA (bW i2 λo e=>t3.extBut _ _ D.TOi2.symm (t2.extBut _ _ D.i12.symm (t1.extBut _ _ D.i2z e))) (l2.keep λo e=>t3.extBut _ _ D.l2TO (t2.extBut _ _ D.l2i1 (t1.extBut _ _ D.l2z e))) ey λg4 m2 t4=>v_ ?_);have q4:IsPair g4 q x v:=t4.extBut _ _ D.TOi2 q3;refine n_ (OL q4 rfl ?_);refine n_ (Qi q4 λg5 (q5:IsPair g5 q x y) t5=>?_);refine n_ (wpAny_letGo (v_ (v_ ?_)));refine n_ (OL q5 rfl ?_);refine n_ (wpAny_newTuple ?_);have sz:g5.objs.size=s.heap.objs.size:=by rw[t5.1,t4.1,t3.1,t2.1,t1.1]
 have y5:IsZip g5 z p q .ellipsis:=t5.extBut _ _ D.TOz.symm (t4.extBut _ _ D.i2z.symm (t3.extBut _ _ D.TOz.symm (t2.extBut _ _ D.i1z.symm y1)));have all5:∀c o,c≠z->c≠q->c≠j1->c≠j2->s.heap.get? c=some o->g5.get? c=some o:=λc o c1 c2 c3 c4 e=>t5.extBut _ _ c2 (t4.extBut _ _ c4 (t3.extBut _ _ c2 (t2.extBut _ _ c3 (t1.extBut _ _ c1 e))));have n1:ItB b1 g5 j1 a1 (n+1):=bW m1 λo e=>t5.extBut _ _ D.TOi1.symm (t4.extBut _ _ D.i12 (t3.extBut _ _ D.TOi1.symm e));have n2:ItB b2 g5 j2 a2 (n+1):=bW m2 λo e=>t5.extBut _ _ D.TOi2.symm e;have zl:z<g5.objs.size:=z_ y5;show wpAny _ _ (Builtin.SmallTypes.ownedTupleHandOut (.ref z) (.ref g5.objs.size) >>= _) _ _ _;refine n_ ?_;unfold Builtin.SmallTypes.ownedTupleHandOut;have y6:IsZip (g5.push { cls:=.type "tuple",data:=.seq #[x,y] }) z p q .ellipsis:=p_ _ y5;refine n_ (OR y6 (by simp) λg7 (y7:IsZip g7 z p q (rawInt g5.objs.size)) t7=>?_);refine OR y7 (by simp) λg8 (y8:IsZip g8 z p q (rawInt g5.objs.size)) t8=>?_;have up:∀c o,c≠z->g5.get? c=some o->g8.get? c=some o:=λc o c1 e=>t8.extBut _ _ c1 (t7.extBut _ _ c1 (p_ _ e));have w8:IsPair g8 g5.objs.size x y:=t8.extBut _ _ (Pe zl) (t7.extBut _ _ (Pe zl) (Em _ rfl));rw[sz] at y8 w8;refine v_ ⟨_,rfl,?_⟩;show Q (.ref g5.objs.size) _;rw[sz];exact k g8 y8 (up _ _ D.TOz q5) (bW n1 λo e=>up _ o D.i1z e) (bW n2 λo e=>up _ o D.i2z e) w8 λc o c1 c2 c3 c4 e=>up c o c1 (all5 c o c1 c2 c3 c4 e)
def BP(hh:A.handled=none)(D:ZipApart z p q j1 j2 a1 a2)(hz:IsZip s.heap z p q .none)(hp:IsPair s.heap p (.ref j1) (.ref j2))(hq:IsPair s.heap q u v)
 (i1:ItB b1 s.heap j1 a1 n) (i2:ItB b2 s.heap j2 a2 n) (l1:LsB b1 s.heap a1 xs) (l2:LsB b2 s.heap a2 ys) (en:xs[n]?=none\/ys[n]?=none)
 (k:∀h' e,(∀c o,c≠z->c≠q->c≠j1->c≠j2->s.heap.get? c=some o->h'.get? c=some o)->(∃o,h'.get? e=some o/\o.cls=.type "StopIteration")->E (.ref e) { s with heap:=h' }):wpAny (model prog w) A (Builtin.«zip.__next__» ⟨[.ref z],[]⟩) Q E s:=by
 show wpAny _ _ (field (.ref z) 2 >>= _) _ _ _;refine n_ (N_ hz rfl (x:=.bool false) rfl ?_);show wpAny _ _ (field (.ref z) 3 >>= _) _ _ _;refine n_ (N_ hz rfl (x:=.ref p) rfl ?_);refine n_ (OL hp rfl ?_);show wpAny _ _ (Builtin.SmallTypes.ownedTupleIsFree (.ref z) >>= _) _ _ _;refine n_ ?_;unfold Builtin.SmallTypes.ownedTupleIsFree;refine n_ (N_ hz rfl (x:=.none) rfl (v_ ?_));simp only[OW];refine n_ (Qh ?_);refine n_ (N_ hz rfl (x:=.ref q) rfl ?_);refine n_ (OR hz (by simp) λg1 (y1:IsZip g1 z p q .ellipsis) t1=>?_);refine n_ ?_;simp only[List.zipIdx_cons,List.zipIdx_nil,Pw,Ql];refine n_ (n_ (Qs ?_));show wpAny _ _ (Builtin.SmallTypes.nextOf (.ref j1) >>= _) _ _ _;cases ex:xs[n]? with
 |
  none=>
  refine n_ (pf hh (bW i1 λo e=>t1.extBut _ _ D.i1z e) (l1.keep λo e=>t1.extBut _ _ D.l1z e) ex λg2 e t2 ⟨oe,he,ce⟩=>?_);have y2:IsZip g2 z p q .ellipsis:=t2 _ _ D.i1z.symm y1;have ez:e≠z:=λw=>by subst w;rw[y2] at he;cases he;simp at ce
  exact OR y2 (by simp) λg3 _ t3=>k g3 e (λc o c1 _ c3 _ w=>t3.extBut _ _ c1 (t2 _ _ c3 (t1.extBut _ _ c1 w))) ⟨oe,t3.extBut _ _ ez he,ce⟩
 |
  some x=>
  have ey:ys[n]?=none:=en.resolve_left λw=>by rw[ex] at w;cases w
  refine n_ (xA (bW i1 λo e=>t1.extBut _ _ D.i1z e) (l1.keep λo e=>t1.extBut _ _ D.l1z e) ex λg2 m1 t2=>v_ ?_);have q2:IsPair g2 q u v:=t2.extBut _ _ D.TOi1 (t1.extBut _ _ D.TOz hq);refine n_ (OL q2 rfl ?_);refine n_ (Qi q2 λg3 q3 t3=>?_);refine n_ (wpAny_letGo (v_ ?_));refine n_ (n_ (Qs ?_));show wpAny _ _ (Builtin.SmallTypes.nextOf (.ref j2) >>= _) _ _ _;refine n_ (pf hh (bW i2 λo e=>t3.extBut _ _ D.TOi2.symm (t2.extBut _ _ D.i12.symm (t1.extBut _ _ D.i2z e))) (l2.keep λo e=>t3.extBut _ _ D.l2TO (t2.extBut _ _ D.l2i1 (t1.extBut _ _ D.l2z e))) ey λg4 e t4 ⟨oe,he,ce⟩=>?_);have y4:IsZip g4 z p q .ellipsis:=t4 _ _ D.i2z.symm (t3.extBut _ _ D.TOz.symm (t2.extBut _ _ D.i1z.symm y1));have ez:e≠z:=λw=>by subst w;rw[y4] at he;cases he;simp at ce
  exact OR y4 (by simp) λg5 _ t5=>k g5 e (λc o c1 c2 c3 c4 w=>t5.extBut _ _ c1 (t4 _ _ c4 (t3.extBut _ _ c2 (t2.extBut _ _ c3 (t1.extBut _ _ c1 w))))) ⟨oe,t5.extBut _ _ ez he,ce⟩
end
noncomputable def CO (b:Bool):String:=if b then "list_iterator" else "tuple_iterator"
def vP(h:LsB b s.heap a its)(k:Q (.ref s.heap.objs.size) { s with heap:=s.heap.push { cls:=.type (CO b),data:=.fields #[.ref a,.int 0 0] } }):wpAny (model prog w) A (pyIter (.ref a)) Q E s:=by
 cases b with
 |true=>exact wpAny_pyIter_list h k
 |false=>exact wpAny_pyIter_tuple h k
abbrev zp1(h:Heap)(b:Bool)(a:Addr):Heap:=h.push { cls:=.type (CO b),data:=.fields #[.ref a,.int 0 0] }
abbrev zp2(h:Heap)(b c:Bool)(a d:Addr):Heap:=zp1 (zp1 h b a) c d
abbrev zp3(h:Heap)(b c:Bool)(a d:Addr):Heap:=(zp2 h b c a d).push { cls:=.type "tuple",data:=.seq #[.ref h.objs.size,.ref (zp1 h b a).objs.size] }
abbrev zp4(h:Heap)(b c:Bool)(a d:Addr):Heap:=(zp3 h b c a d).push { cls:=.type "tuple",data:=.seq #[.none,.none] }
abbrev zp5(h:Heap)(b c:Bool)(a d:Addr):Heap:=(zp4 h b c a d).push { cls:=.type "zip",data:=.fields #[.none,.bool false,.bool false,.ref (zp2 h b c a d).objs.size,.ref (zp3 h b c a d).objs.size] }
def Cs(b c:Bool)(a d:Addr)(xs ys:Array Value):Meets (Builtin.«zip.__new__» ⟨[.type "zip",.ref a,.ref d],[]⟩) (λ_ R s=>LsB b s.heap a xs/\LsB c s.heap d ys/\R (.ok (.ret (.ref (zp4 s.heap b c a d).objs.size))) { s with heap:=zp5 s.heap b c a d }):=
 .of_wp λprog w A R s h=>by
  obtain⟨hp,g,dr,tk,os⟩:=s;obtain⟨la,ld,h⟩:=h;have hsub:=sub_zip;have L1:LsB b (Shared.heap ⟨hp,g,dr,tk,os⟩) a xs:=la;have L2':LsB c (Shared.heap ⟨hp.push { cls:=.type (CO b),data:=.fields #[.ref a,.int 0 0] },g,dr,tk,os⟩) d ys:=ld.keep λo e=>p_ _ e
  wp_walk using vP L1,vP L2'
  exact⟨_,rfl,h⟩
def ze(la:LsB b s.heap a xs)(ld:LsB c s.heap d ys)
 (k:∀h',IsZip h' (s.heap.objs.size+4) (s.heap.objs.size+2) (s.heap.objs.size+3) .none->IsPair h' (s.heap.objs.size+2) (.ref s.heap.objs.size) (.ref (s.heap.objs.size+1))->IsPair h' (s.heap.objs.size+3) .none .none->
  ItB b h' s.heap.objs.size a 0->ItB c h' (s.heap.objs.size+1) d 0->(∀c o,s.heap.get? c=some o->h'.get? c=some o)->Q (.ref (s.heap.objs.size+4)) { s with heap:=h' }):wpAny (model prog w) A (call (.type "zip") [.ref a,.ref d]) Q E s:=by
 refine callType_new F.called_zip (by decide) (F.typeCall_zip_2 _ _) (F.newCall_zip_2 _ _) (λobj=>F.args_object_init_3 obj _ _) F.entry_zip_new (Cs b c a d xs ys) ⟨la,ld,?_⟩;have n1:(zp1 s.heap b a).objs.size=s.heap.objs.size+1:=PK ..;have n2:(zp2 s.heap b c a d).objs.size=s.heap.objs.size+2:=by rw[PK,n1]
 have n3:(zp3 s.heap b c a d).objs.size=s.heap.objs.size+3:=by rw[PK,n2]
 have n4:(zp4 s.heap b c a d).objs.size=s.heap.objs.size+4:=by rw[PK,n3]
 have up:=λ{h:Heap}{x:Addr}{o:Obj} (o':Obj) (e:h.get? x=some o)=>p_ o' e;have e5:(zp5 s.heap b c a d).get? (zp4 s.heap b c a d).objs.size=some _:=Em _ rfl;have e4:(zp5 s.heap b c a d).get? (zp3 s.heap b c a d).objs.size=some _:=up _ (Em _ rfl);have e3:(zp5 s.heap b c a d).get? (zp2 s.heap b c a d).objs.size=some _:=up _ (up _ (Em _ rfl));have e2:(zp5 s.heap b c a d).get? (zp1 s.heap b a).objs.size=some _:=up _ (up _ (up _ (Em _ rfl)));have e1:(zp5 s.heap b c a d).get? s.heap.objs.size=some _:=up _ (up _ (up _ (up _ (Em _ rfl))));show _/\_;rw[n2,n3,n4] at e5;rw[n1,n2] at e3;rw[n3] at e4;rw[n1] at e2;rw[n4];have i1:ItB b (zp5 s.heap b c a d) s.heap.objs.size a 0:=by cases b <;> exact⟨_,e1,rfl,rfl⟩
 have i2:ItB c (zp5 s.heap b c a d) (s.heap.objs.size+1) d 0:=by cases c <;> exact⟨_,e2,rfl,rfl⟩
 exact⟨⟨_,e5,rfl⟩,k _ e5 e3 e4 i1 i2 λx o e=>up _ (up _ (up _ (up _ (up _ e))))⟩
noncomputable def ItZ (K:W.Frag) (b c:Bool) (a d:Addr):It:=
 ⟨λi H=>∃xs ys x y,SqB K b H a xs/\SqB K c H d ys/\xs[i]?=some x/\ys[i]?=some y,
  λi H x H'=>∃p u v,x=.ref p/\H p=none/\H'=upd H p (.tup [u,v])/\(∀xs,SqB K b H a xs->xs[i]?=some u)/\∀ys,SqB K c H d ys->ys[i]?=some v,
  λi H=>∃xs ys,SqB K b H a xs/\SqB K c H d ys/\(xs[i]?=none\/ys[i]?=none)⟩
def iY(I:Inv X pins σ H s)(hq:SqB X.K b H a xs):∃its:List Value,Vals xs its/\LsB b s.heap a its.toArray:=by
 cases b with
 |true=>obtain⟨its,rv,p,_⟩:=I.list hq;exact⟨its,rv,p.isList⟩
 |false=>obtain⟨its,rv,p,_⟩:=I.tuple hq;exact⟨its,rv,p⟩
def Cc{P:Program}{w:World}{K:W.Frag}{elts:List Expr}{x1:Nat}{tp:Pos}(b c:Bool)(a d z p q j1 j2:Addr)(D:ZipApart z p q j1 j2 a d):
 Turn P w K (.Tuple elts x1 tp) (ItZ K b c a d) [z,p,q,j1,j2] z (λi h=>IsZip h z p q .none/\IsPair h p (.ref j1) (.ref j2)/\(∃u v,IsPair h q u v)/\ItB b h j1 a i/\ItB c h j2 d i) where
 mem:=by simp
 obj:=λi h st e he=>by
  obtain⟨s1,s2,⟨u,v,s3⟩,s4,s5⟩:=st;obtain⟨o4,k4,l4,_⟩:=kR s4;obtain⟨o5,k5,l5,_⟩:=kR s5;simp only[F_,Pj,or_false] at he;rcases he with rfl |rfl |rfl |rfl |rfl
  .exact⟨_,s1,λv y=>by cases y⟩
  .exact⟨_,s2,λv y=>by cases y⟩
  .exact⟨_,s3,λv y=>by cases y⟩
  .exact⟨o4,k4,l4⟩
  .exact⟨o5,k5,l5⟩
 keep:=λi h h' st k=>by obtain⟨s1,s2,⟨u,v,s3⟩,s4,s5⟩:=st;exact⟨k z (by simp) _ s1,k p (by simp) _ s2,⟨u,v,k q (by simp) _ s3⟩,bW s4 λo e=>k j1 (by simp) o e,bW s5 λo e=>k j2 (by simp) o e⟩
 item:=
  by
  intro X hP hw hK hc i pins s σ H E I hf st hg;subst hP hw hK;obtain⟨xs,ys,x,y,qx,qy,ex,ey⟩:=hg;obtain⟨s1,s2,⟨u,v,s3⟩,s4,s5⟩:=st;obtain⟨ix,rx,lx⟩:=iY I qx;obtain⟨iy,ry,ly⟩:=iY I qy;obtain⟨ux,hux,rux⟩:=rx.get ex;obtain⟨uy,huy,ruy⟩:=ry.get ey;have hTy:s.TypeIs (.ref z) "zip":=⟨_,s1,rfl⟩;have zl:=z_ s1;have pl:=z_ s2;have ql:=z_ s3;obtain⟨o4,k4,_,_⟩:=kR s4;obtain⟨o5,k5,_,_⟩:=kR s5;have j1l:=z_ k4;have j2l:=z_ k5;unfold pyNext;refine n_ (PZ (OG (name:=Str.ofString "__next__") hTy P9 (Pm P9 hTy F.entry_zip_next (zipN D s1 s2 s3 s4 s5 lx ly (by simpa using hux) (by simpa using huy) λh' y1 y3 y4 y5 yT hk=>v_ ?_) (F.args_zip_next_1 _))));refine⟨_,rfl,wpAny_letOwnedTupleGo_zip (s:={ s with heap:=h' }) y1 λh2 z2 sb=>?_⟩;have sb':Heap.SameBut z h' h2:=sb;have hT:H s.heap.objs.size=none:=I.hok.fresh (r_ _);have I1:Inv X pins σ (upd H s.heap.objs.size (.tup [x,y])) { s with heap:=s.heap.push { cls:=.type "tuple",data:=.seq #[ux,uy] },toks:=s.toks }:=
   I.laid (t':=s.toks) (λc o q=>p_ _ q) (r_ _) ⟨by show 2<=sizeLine;decide,[ux,uy],.cons rux (.cons ruy .nil),⟨_,Em _ rfl,rfl,_,rfl⟩⟩
  have fp':∀e∈[z,p,q,j1,j2],FpOk X pins (upd H s.heap.objs.size (.tup [x,y])) e:=λe he=>by
   have:=hf e he
   simp only[F_,Pj,or_false] at he;rcases he with rfl |rfl |rfl |rfl |rfl
   .exact this.up (K_ zl)
   .exact this.up (K_ pl)
   .exact this.up (K_ ql)
   .exact this.up (K_ j1l)
   .exact this.up (K_ j2l)
  have I2:Inv X pins σ (upd H s.heap.objs.size (.tup [x,y])) { s with heap:=h2,toks:=s.toks }:=
   Inv.turnedL (s:={ s with heap:=s.heap.push { cls:=.type "tuple",data:=.seq #[ux,uy] },toks:=s.toks }) (ch:=[z,p,q,j1,j2]) (t':=s.toks) I1 (λe o he qe=>by
    have c1:e≠z:=λw=>he (by simp [w]);have c2:e≠q:=λw=>he (by simp [w]);have c3:e≠j1:=λw=>he (by simp [w]);have c4:e≠j2:=λw=>he (by simp [w]);rw[sb'.2 e c1];have q':(s.heap.push { cls:=.type "tuple",data:=.seq #[ux,uy] }).get? e=some o:=qe;by_cases w:e=s.heap.objs.size
    .subst w;rw[Em _ rfl] at q';cases q';exact yT
    .rw[Heap.get?_push_ne _ _ _ w] at q';exact hk e o c1 c2 c3 c4 q') fp'
  refine⟨.ref s.heap.objs.size,_,I2,rfl,⟨_,x,y,rfl,hT,rfl,λzs hz=>by rw[SqB.inj I hz qx];exact ex,λzs hz=>by rw[SqB.inj I hz qy];exact ey⟩,⟨z2,?_,⟨ux,uy,?_⟩,bW y4 λo e=>(sb'.2 j1 D.i1z).trans e,bW y5 λo e=>(sb'.2 j2 D.i2z).trans e⟩,λe he=>(fp' e he).1⟩
  .exact (sb'.2 p D.TIz).trans (hk p _ D.TIz D.TITO D.TIi1 D.TIi2 s2)
  .exact (sb'.2 q D.TOz).trans y3
 done:=by
  intro X hP hw hK hc i pins s σ H E I hf st hg;subst hP hw hK;obtain⟨xs,ys,qx,qy,en⟩:=hg;obtain⟨s1,s2,⟨u,v,s3⟩,s4,s5⟩:=st;obtain⟨ix,rx,lx⟩:=iY I qx;obtain⟨iy,ry,ly⟩:=iY I qy;have hTy:s.TypeIs (.ref z) "zip":=⟨_,s1,rfl⟩;have en':ix.toArray[i]?=none\/iy.toArray[i]?=none:=by
   rcases en with e |e
   .left;rw[Px] at e;simp;rw[<- rx.length];exact e
   .right;rw[Px] at e;simp;rw[<- ry.length];exact e
  unfold pyNext;refine n_ (PZ (OG (name:=Str.ofString "__next__") hTy P9 (Pm P9 hTy F.entry_zip_next (BP (I.ok.hd hc) D s1 s2 s3 s4 s5 lx ly en' λh' e hk ⟨o,ho,co⟩=>?_) (F.args_zip_next_1 _))));refine n_ (wpAny_isInstance (T:="StopIteration") (b:=true) ⟨o,ho,co⟩ isSubtype_stop (v_ ⟨rfl,?_⟩));exact Inv.turnedL (ch:=[z,p,q,j1,j2]) (t':=s.toks) I (λe o he qe=>hk e o (λw=>he (by simp [w])) (λw=>he (by simp [w])) (λw=>he (by simp [w])) (λw=>he (by simp [w])) qe) hf
 self:=λ_ _ _ _ _ st h=>wpAny_pyIter_zip st.1 h
def zX:bootBuiltins "zip"=some (.type "zip"):=by decide
def KO(hg:Gl X "zip")(hm:X.mg "zip"=none)(ha:PA X [l,m] tl)(hs:starEach [l,m] X.env=[(false,eval l X.env),(false,eval m X.env)])(hs2:starEach [m] X.env=[(false,eval m X.env)]):
 PI X (.Tuple elts x1 tp) (.Call (.Name "zip" p) [l,m] [] pos) (λσ H R=>tl σ H λvs H1=>∃(b c:Bool) (a d:Addr) (xs ys:List V),vs=[.ref a,.ref d]/\SqB X.K b H1 a xs/\SqB X.K c H1 d ys/\R (ItZ X.K b c a d) H1):=by
 intro pins s σ H R I h;refine Call_ (cX I hg hm zX (NL (thn (ha pos pins s σ H _ I h) λus s1 zz=>exA zz λvs H1 I1 r1 q1=>?_) (by rw[hs,hs2]) (by rw[hs2];rfl)));obtain⟨b,c,a,d,xs,ys,e,qx,qy,q⟩:=q1;subst e;cases r1 with
 |
  cons r rr=>
  cases rr with
  |
   cons r' rr=>
   cases rr;cases r;cases r';obtain⟨ix,rx,lx⟩:=iY I1 qx;obtain⟨iy,ry,ly⟩:=iY I1 qy;have la:a<s1.heap.objs.size:=by cases b <;> (obtain⟨o,e,_⟩:=lx;exact z_ e)
   have ld:d<s1.heap.objs.size:=by cases c <;> (obtain⟨o,e,_⟩:=ly;exact z_ e)
   refine ze lx ly λh' y1 y2 y3 y4 y5 hk=>wpAny_pyIter_zip y1 ⟨s1.heap.objs.size+4,[s1.heap.objs.size+4,s1.heap.objs.size+2,s1.heap.objs.size+3,s1.heap.objs.size,s1.heap.objs.size+1],_,_,H1,rfl,I1.kept (t':=s1.toks) λc o z=>hk c o z,Cc b c a d _ _ _ _ _ (W.ktu_apart _ _ _ la ld),⟨y1,y2,⟨_,_,y3⟩,y4,y5⟩,λe he=>?_,q⟩;have hge:s1.heap.objs.size<=e:=by
    simp only[F_,Pj,or_false] at he;rcases he with rfl |rfl |rfl |rfl |rfl
    .exact P5 _ _
    .exact P5 _ _
    .exact P5 _ _
    .exact r_ _
    .exact P5 _ _
   exact I1.fpOk hge (I1.hok.fresh hge)
inductive D where
 |non |bl (b:Bool) |int (i:Int) |str (x:Str) |ty (n:String) |glb (x:Str) |exc (x:Str) |tup (xs:List D) |ref (n:Nat) |kl (xs:List D)
 deriving Inhabited
inductive Ob where
 |lst (xs:List D) |fz (xs:List D) |set (xs:List Int) |dct (kvs:List (Key×D)) |any
 deriving Inhabited
abbrev AH:=List Ob
abbrev AE:=List (Option D)
inductive R(α:Type) where
 |ok (a:α) (h:AH) |exc (c:Str) (h:AH) |stuck
inductive SR where
 |nx (ae:AE) (h:AH) |rt (d:D) (h:AH) |bk (ae:AE) (h:AH) |ct (ae:AE) (h:AH) |exc (c:Str) (ae:AE) (h:AH) |stuck
abbrev ME:=AE->AH->R D
abbrev MT:=AE->AH->R Bool
abbrev MA:=AE->AH->R (List D)
abbrev MS:=AE->AH->SR
section
variable(K:W.Frag)(mg:Qt)
def gd(c:Addr)(q:Str):Heap->Prop:=λh=>h.CodeRec (.ref c) q
noncomputable def mf:List Str:=["by_falling_weights", "least_around"]
def LamT(P:Addr)(q:Str):Prop:=∃(x:Str) (f:Addr) (oc:Value) (od:Option Addr) (fd:FuncData) (sl:Array (Option Value)) (c:Addr),x∈mf/\(∀y∈mf,y≠x->mg y=none)/\mg x=some (.ref f)/\K.lookup f=some ⟨oc,od,.func fd,sl⟩/\fd.code=.ref c/\W.codeHdIn K c P=true/\q=fd.qualname ++ ".<locals>." ++ "<lambda>"
def bmP(o:Obj):Prop:=o.cls=.type "module" /\ o.dict=some builtinsNs/\o.data=.plain
def sG(H:Hp):Prop:=∃b o,mg "__builtins__"=some (.ref b)/\b≠builtinsNs/\b≠mainGlobals/\bmP o/\(K.lookup b=some o\/∃u,H b=some (.frz o u))
end
section
variable{X:Cx}{e:Expr}{es:List Expr}{st:Stmt}{sts:List Stmt}
def PE.imp(h:PE X e t)(k:∀σ H Q,t' σ H Q->t σ H Q):PE X e t':=λpins s σ H Q I w=>h pins s σ H Q I (k σ H Q w)
def PT.imp(h:PT X e t)(k:∀σ H Q,t' σ H Q->t σ H Q):PT X e t':=λpins s σ H Q I w=>h pins s σ H Q I (k σ H Q w)
def PW.imp(h:PW X e t)(k:∀σ H Q,t' σ H Q->t σ H Q):PW X e t':=λwh pins s σ H Q I w=>h wh pins s σ H Q I (k σ H Q w)
def PA.imp(h:PA X es t)(k:∀σ H Q,t' σ H Q->t σ H Q):PA X es t':=λpos pins s σ H Q I w=>h pos pins s σ H Q I (k σ H Q w)
def PS.imp(h:PS X st t)(k:∀D σ H,t' D σ H->t D σ H):PS X st t':=λpins s σ H D I w=>h pins s σ H D I (k D σ H w)
def PSs.imp(h:PSs X sts t)(k:∀D σ H,t' D σ H->t D σ H):PSs X sts t':=λpins s σ H D I w=>h pins s σ H D I (k D σ H w)
def PG.imp(h:PG X e t)(k:∀v σ H Q,t' v σ H Q->t v σ H Q):PG X e t':=λpins s σ H v u Q I r w=>h pins s σ H v u Q I r (k v σ H Q w)
def PGs.imp(h:PGs X es t)(k:∀v σ H Q,t' v σ H Q->t v σ H Q):PGs X es t':=λpins s σ H v u Q I r w=>h pins s σ H v u Q I r (k v σ H Q w)
def PO.imp(h:PO X o t)(k:∀σ H Q,t' σ H Q->t σ H Q):PO X o t':=λpins s σ H Q I w=>h pins s σ H Q I (k σ H Q w)
end
abbrev MG:=D->AE->AH->R AE
abbrev MGs:=List D->AE->AH->R AE
noncomputable def g2 (f:Int->Int->R D) (x y:D):R D:=match x,y with
 |.int i,.int j=>f i j
 |_,_=>.stuck
section
variable{K:W.Frag}{X:Cx}
def rb(K:W.Frag):R2:=λx y H Q=>∃a b ys,x=.ref a/\y=.ref b/\SqT K H a []/\SqT K H b ys/\Q (.ref b) H
def F7:OpR X (binaryOp .Add) (rb X.K):=by
 intro pins s σ H x y v u Q I rx ry h;obtain⟨a,b,ys,rfl,rfl,ha,hb,q⟩:=h;cases rx;cases ry;obtain⟨its,r1,p1,_⟩:=I.tuple ha;obtain⟨its2,r2,p2,_⟩:=I.tuple hb;have e:its=[]:=r1.nil_iff.mpr rfl;subst e;obtain⟨⟨cls,dd,data,sl⟩,ho,hc,n,hd⟩:=id p1;obtain⟨⟨cls2,dd2,data2,sl2⟩,ho2,hc2,n2,hd2⟩:=id p2;simp only at hc hd hc2 hd2;subst hc hd hc2 hd2;exact concat_meets ⟨_,ho,rfl⟩ ⟨_,ho2,rfl⟩ noFill_tuple_add seq_tuple_add PV PM (PH _ _)
  (tuple_addW0 _ _ _ _ n n2 dd dd2 sl sl2 rfl) ⟨ho,ho2,⟨.ref b,H,I,rfl,q⟩⟩
def ixK(h:X.K=K):IxR X (λx y H Q=>Ct K x y H Q\/CN K x y H Q):=by subst h;exact F5.or II
def catK(h:X.K=K):OpR X (binaryOp .Add) (λx y H Q=>yg x y H Q\/(qL K x y H Q\/rb K x y H Q)):=by subst h;exact Jh.or (FI.or F7)
end
noncomputable def Itd (lo:Int) (n:Nat):It:=⟨λj _=>j<n,λj G v G'=>G'=G/\v=.int (lo-j),λj _=>n<=j⟩
inductive AIt where
 |lst (n:Nat) (xs:List D) |tup (xs:List D) |rng (lo:Int) (k:Nat) |rgd (lo:Int) (k:Nat) |txt (x:Str) |enm (s:AIt) |zip (s t:AIt)
abbrev MI:=AE->AH->R AIt
section
variable{K:W.Frag}{X:Cx}{tg iter e a b:Expr}{I:MI}
def PI.imp(h:PI X tg iter t)(k:∀σ H Q,t' σ H Q->t σ H Q):PI X tg iter t':=λpins s σ H Q I w=>h pins s σ H Q I (k σ H Q w)
def GQ(hl:PE X l tl):PI X tg l (λσ H R=>tl σ H λx H1=>(∃a,x=.ref a/\(∃xs,SqL X.K H1 a xs)/\R (Itl X.K a) H1)\/(∃a,x=.ref a/\(∃xs,SqT X.K H1 a xs)/\R (Itt X.K a) H1)):=by
 intro pins s σ H R I h;refine thn (hl pins s σ H _ I h) λv s1 zz=>exA zz λx H1 I1 r1 q1=>?_;rcases q1 with ⟨a,e,⟨xs,hq⟩,q⟩ |⟨a,e,⟨xs,hq⟩,q⟩
 .subst e;cases r1;obtain⟨its,rv,p,hz⟩:=I1.list hq;refine wpAny_pyIter_list p.isList ?_;refine⟨s1.heap.objs.size,[s1.heap.objs.size],_,_,H1,rfl,I1.kept (t':=s1.toks) λb o e=>p_ _ e,AF a _,⟨_,Em _ rfl,rfl,rfl⟩,λb hb=>?_,q⟩;have e:b=s1.heap.objs.size:=by simpa using hb
  subst e;exact I1.fpOk (r_ _) (I1.hok.fresh (r_ _))
 .subst e;cases r1;obtain⟨its,rv,p,hz⟩:=I1.tuple hq;refine wpAny_pyIter_tuple (show s1.heap.IsTuple a its.toArray from p) ?_;refine⟨s1.heap.objs.size,[s1.heap.objs.size],_,_,H1,rfl,I1.kept (t':=s1.toks) λb o e=>p_ _ e,xu a _,⟨_,Em _ rfl,rfl,rfl⟩,λb hb=>?_,q⟩;have e:b=s1.heap.objs.size:=by simpa using hb
  subst e;exact I1.fpOk (r_ _) (I1.hok.fresh (r_ _))
end
section
variable{K:W.Frag}{X:Cx}
def M3(h:X.K=K):CallR X (.builtin "len") (λxs H Q=>(∃p ys,xs=[.ref p]/\(SqL K H p ys\/SqT K H p ys)/\Q (.int ys.length) H)\/(∃z,xs=[.str z]/\z.length<=sizeLine/\Q (.int z.length) H)):=by subst h;exact rQ.or uq
def Ba(h:X.K=K):CallR X (.type "list") (λxs H Q=>∃p ys,xs=[.ref p]/\(SqL K H p ys\/SqT K H p ys)/\∀l,H l=none->Q (.ref l) (upd H l (.lst ys))):=by subst h;exact uj
def EW(h:X.K=K):CallR X (.type "tuple") (λxs H Q=>∃p ys,xs=[.ref p]/\((SqL K H p ys/\∀l,H l=none->Q (.ref l) (upd H l (.tup ys)))\/(SqT K H p ys/\Q (.ref p) H))):=by subst h;exact pV
end
inductive Cl where
 |b (n:String) |o (x:Str)
 deriving DecidableEq
def ClV(mg:Qt):Cl->Value->Prop
 |.b n,v=>v=.type n
 |.o x,v=>∃a,v=.ref a/\mg x=some (.ref a)
abbrev jF:=List (Cl×Cl×Bool)
structure KitsOk(K:W.Frag)(mg:Qt)(kt:jF):Prop where
 one:∀p∈kt,∀t v,ClV mg p.1 t->ClV mg p.2.1 v->W.kitOne K t v=some p.2.2
 xc:∀p∈kt,∀x C,p.1=.o x->mg x=some (.ref C)->XCls K C
noncomputable def kit (kt:jF) (t c:Cl):Option Bool:=(kt.find? λp=>decide (p.1=t)&&decide (p.2.1=c)).map (·.2.2)
noncomputable def gL (kt:jF) (t:Cl):List Cl->Option Bool
 | []=>some false
 |c::r=>match kit kt t c with
  |some true=>some true
  |some false=>gL kt t r
  |none=>none
def ox(e:kit kt t c=some b):(t,c,b)∈kt:=by
 unfold kit at e;cases q:kt.find? (λp=>decide (p.1=t)&&decide (p.2.1=c)) with
 |none=>rw[q] at e;cases e
 |some p=>rw[q] at e;have h1:=List.find?_some q;have h2:=List.mem_of_find?_eq_some q;simp only[t_,OC] at h1;obtain⟨p1,p2,p3⟩:=p;have e3:p3=b:=H_ e;obtain⟨rfl,rfl⟩:=h1;subst e3;exact h2
section
variable{K:W.Frag}{mg:Qt}{X:Cx}{H:Hp}{h:AH}
def zR(ok:KitsOk K mg kt)(ht:ClV mg t tv):∀{cs:List Cl}{cvs:List Value}{b:Bool},Paired (ClV mg) cs cvs->gL kt t cs=some b->W.kitAny K tv cvs=some b:=by
 intro cs;induction cs with
 |nil=>intro cvs b r e;cases r;cases e;rfl
 |
  cons c cs ih=>
  intro cvs b r e;cases r with
  |
   cons r rr=>
   unfold gL at e;unfold W.kitAny;cases q:kit kt t c with
   |none=>rw[q] at e;cases e
   |
    some z=>
    rw[q] at e;rw[ok.one _ (ox q) _ _ ht r];cases z with
    |true=>exact e
    |false=>exact ih rr e
def A0:CallR X (.builtin "isinstance") (λxs H Q=>∃x tp cs t vs b,xs=[x,.ref tp]/\SqT X.K H tp cs/\TyX X.K H x t/\cs.mapM gg=some vs/\W.kitAny X.K t vs=some b/\Q (.bl b) H):=by intro pins s σ H xs us Q I r h;obtain⟨x,tp,cs,t,vs,b,rfl,ht,ty,hc,hk,q⟩:=h;obtain⟨u,w',rfl,rx,rc⟩:=yD r;cases rc;obtain⟨its,rv,⟨o,e,c,n,d⟩,_⟩:=I.tuple ht;obtain rfl:=pq hc rv;obtain⟨Hh,Z,p,hne⟩:=vf I rx ty;obtain⟨oc,od,odt,osl⟩:=o;have c':oc=.type "tuple":=c;have d':odt=.seq its.toArray n:=d;subst c' d';exact W.kia_tup Z I.kIn p e hk hne λtk=>⟨.bl b,H,I.tok _,rfl,q⟩
def Mf(hK:X.K=K):CallR X (.builtin "isinstance") (λxs H Q=>(∃x c t v b,xs=[x,c]/\TyX K H x t/\gg c=some v/\W.kitOne K t v=some b/\Q (.bl b) H)\/
 (∃x tp cs t vs b,xs=[x,.ref tp]/\SqT K H tp cs/\TyX K H x t/\cs.mapM gg=some vs/\W.kitAny K t vs=some b/\Q (.bl b) H)):=by subst hK;exact BB.or A0
end
section
variable{K:W.Frag}{X:Cx}{H:Hp}{h:AH}
inductive EqsR(K:W.Frag)(H:Hp)(y:V)(pd:PyData):List V->List Bool->Prop where
 |nil:EqsR K H y pd [] []
 |cons {x:V}{px:PyData}{xs:List V}{bs:List Bool} (rx:Rep K H x px) (hx:shp px=true) (r:EqsR K H y pd xs bs):EqsR K H y pd (x::xs) (PyData.eqv px pd::bs)
def rEqs(K:W.Frag)(H:Hp)(l:Addr)(y:V)(bs:List Bool):Prop:=∃xs pd,SqL K H l xs/\Rep K H y pd/\shp pd=true/\EqsR K H y pd xs bs
def sP(I:Inv X pins σ H s)(hu:X.A.units+190<cLine)(ry:Rep X.K H y pd)(rv:RelV y v)(hy:shp pd=true):∃e:Value->Bool,∀{xs:List V}{bs:List Bool}{its:List Value},EqsR X.K H y pd xs bs->Vals xs its->its.map e=bs/\∀u∈its,SeqAt.EqAt X.A.in1 s u v (e u):=by
 classical
 obtain⟨as,q1⟩:=ry.reads I rv;refine⟨λu=>if q:∃d as,Reads s.heap u d as/\shp d=true then PyData.eqv q.choose pd else false,λ{xs bs its} r rr=>?_⟩;induction r generalizing its with
 |nil=>cases rr;exact⟨rfl,λu hu=>nomatch hu⟩
 |
  cons rx hx r ih=>
  rename_i x px xs bs;cases rr with
  |
   cons r1 rr=>
   rename_i u us;obtain⟨ih1,ih2⟩:=ih rr;obtain⟨as1,q2⟩:=rx.reads I r1;have hq:∃d as,Reads s.heap u d as/\shp d=true:=⟨px,as1,q2,hx⟩;have e1:(if q:∃d as,Reads s.heap u d as/\shp d=true then PyData.eqv q.choose pd else false)=PyData.eqv px pd:=by
    rw[dif_pos hq];obtain⟨as2,q3,hs3⟩:=hq.choose_spec
    have:=SeqAt.Reads.unique px hq.choose u _ _ (fY hx) q2 q3
    rw[<- this]
   refine⟨by rw[y_,ih1,e1],λw hw=>?_⟩;rcases F_.mp hw with rfl |hw
   .dsimp only;rw[e1];exact SeqAt.eqAt_reads px pd X.A.in1 s _ _ _ _ q2 q1 (fY hx) (fY hy) (lZ hx (by have:X.A.in1.units=X.A.units+1:=rfl;rw[this];omega))
   .exact ih2 w hw
def oK(K:W.Frag):V->List V->Hp->VK->Prop:=λx vs H Q=>∃l y bs,x=.ref l/\vs=[y]/\rEqs K H l y bs/\bs.idxOf true<bs.length/\Q (.int (bs.idxOf true:Nat)) H
def oi(K:W.Frag):V->List V->Hp->VK->Prop:=λx vs H Q=>∃l y bs,x=.ref l/\vs=[y]/\rEqs K H l y bs/\Q (.int (bs.count true:Nat)) H
def EqsR.len(r:EqsR K H y pd xs bs):xs.length=bs.length:=by
 induction r with
 |nil=>rfl
 |cons _ _ _ ih=>rw[D_,D_,ih]
def CU(hu:X.A.units+190<cLine):MtM X "list.index" (oK X.K):=by
 intro pins s σ H x vs v us Q I rx rv h;obtain⟨l,y,bs,rfl,rfl,⟨xs,pd,hq,ry,hy,re⟩,hi,q⟩:=h;cases rx;obtain⟨u,rfl,ru⟩:=rv.one;obtain⟨e,he⟩:=sP I hu ry ru hy;obtain⟨its,r,⟨o,n,eo,hc,hd,hs⟩,hz⟩:=I.list hq;obtain⟨m1,m2⟩:=he re r;have a_:=r.length;have hbl:=re.len;have hn:=g6;have hj:bs.idxOf true<its.toArray.size:=by rw[x_];omega
 have eo':s.heap.get? l=some { cls:=.type "list",dict:=o.dict,data:=.seq its.toArray n,slots:=o.slots }:=by rw[eo];obtain⟨oc,od,odt,osl⟩:=o;have h1:oc=.type "list":=hc;have h2:odt=.seq its.toArray n:=hs;subst h1 h2;rfl
 have em:∀(m:Nat) (hm:m<its.toArray.size),bs[m]?=some (e its.toArray[m]):=λm hm=>by
  rw[<- m1,NB];have:its[m]?=some its.toArray[m]:=by rw[B_ (by simpa using hm)];rfl
  rw[this];rfl
 refine Pk PySem.F.slot_list_index ⟨_,eo',rfl⟩ PySem.F.entry_list_index (PySem.F.args_list_index_2 _ _)
  (SeqAt.list_indexAt l its.toArray n o.dict o.slots u e (bs.idxOf true) hj (by omega) ?_ ?_) ⟨eo',λw hw=>m2 w (by simpa using hw),?_⟩
 .have:=em _ hj
  rw[B_ hi,List.getElem_idxOf] at this;exact (H_ this).symm
 .intro m
   hm hlt
  have:=em m hm
  have hb:m<bs.length:=by omega
  rw[B_ hb] at this;have h3
   : bs[m]≠true:=λz=>by
   have h4:bs.idxOf true<=m:=by
    have:=PF (l:=bs) (a:=true)
    rcases Nat.lt_or_ge m (bs.idxOf true) with z' |z'
    .exact absurd z (by have h5:=List.not_of_lt_findIdx (xs:=bs) (p:=(· == true)) (i:=m) z';simpa using h5)
    .exact z'
   omega
  have h4:e its.toArray[m]=bs[m]:=(H_ this).symm;rw[h4];exact Bool.eq_false_iff.mpr h3
 .exact⟨.int _,H,I.tok _,⟨_,rfl⟩,q⟩
def BO(hu:X.A.units+190<cLine):MtM X "list.count" (oi X.K):=by
 intro pins s σ H x vs v us Q I rx rv h;obtain⟨l,y,bs,rfl,rfl,⟨xs,pd,hq,ry,hy,re⟩,q⟩:=h;cases rx;obtain⟨u,rfl,ru⟩:=rv.one;obtain⟨e,he⟩:=sP I hu ry ru hy;obtain⟨its,r,⟨o,n,eo,hc,hd,hs⟩,hz⟩:=I.list hq;obtain⟨m1,m2⟩:=he re r;have eo':s.heap.get? l=some { cls:=.type "list",dict:=o.dict,data:=.seq its.toArray n,slots:=o.slots }:=by rw[eo];obtain⟨oc,od,odt,osl⟩:=o;have h1:oc=.type "list":=hc;have h2:odt=.seq its.toArray n:=hs;subst h1 h2;rfl
 refine Pk PySem.F.slot_list_count ⟨_,eo',rfl⟩ PySem.F.entry_list_count (PySem.F.args_list_count_2 _ _)
  (SeqAt.list_countAt l its.toArray n o.dict o.slots u e) ⟨eo',λw hw=>m2 w (by simpa using hw),?_⟩
 have ec:its.countP e=bs.count true:=by rw[<- m1,List.count,List.countP_map];congr 1;funext w;simp
 have ec':its.toArray.toList.countP e=bs.count true:=ec;rw[ec'];exact⟨.int _,H,I.tok _,⟨_,rfl⟩,q⟩
def HQ(h:X.K=K)(hu:X.A.units+190<cLine):MtM X "list.index" (oK K):=by subst h;exact CU hu
def J5(h:X.K=K)(hu:X.A.units+190<cLine):MtM X "list.count" (oi K):=by subst h;exact BO hu
def Room.u100(r:Room k A):A.units+190<cLine:=by have:=r.un;omega
end
abbrev MO:=AE->AH->R (Option Int)
section
variable{K:W.Frag}{X:Cx}{F:ME}{lo hi:Option Expr}
def CJ:V->Option Int->Option Int->Hp->VK->Prop:=λx lo hi H Q=>∃z,x=.str z/\z.length<=16777216/\Q (.str (Txt.slice z lo hi)) H
def Iq:SlR X CJ:=by
 intro pins s σ H x v vl vu lo hi sl Q I rx hs pl pu h;obtain⟨z,rfl,hz,q⟩:=h;obtain⟨t,rfl⟩:=rx;refine⟨"str",_,PySem.F.slot_str_getitem.lookup,typeIs_str _ _ _,?_⟩;have key:∀t' k,EP X pins σ Q (.str (Txt.slice z lo hi) t') { s with toks:=k }:=λt' k=>⟨.str (Txt.slice z lo hi),H,I.tok _,⟨_,rfl⟩,q⟩;cases pl <;> cases pu
 .exact O4 (l:=none) (u:=none) (st:=none) hs rfl (Qf ⟨NG (Txt.slice_le z _ _) hz,λt' k=>key t' k⟩)
 .exact O4 (l:=none) (u:=some (_,_)) (st:=none) hs rfl (Qf ⟨NG (Txt.slice_le z _ _) hz,λt' k=>key t' k⟩)
 .exact O4 (l:=some (_,_)) (u:=none) (st:=none) hs rfl (Qf ⟨NG (Txt.slice_le z _ _) hz,λt' k=>key t' k⟩)
 .exact O4 (l:=some (_,_)) (u:=some (_,_)) (st:=none) hs rfl (Qf ⟨NG (Txt.slice_le z _ _) hz,λt' k=>key t' k⟩)
def slK(h:X.K=K):SlR X (λx lo hi H Q=>(DC K x lo hi H Q\/Dz K x lo hi H Q)\/CJ x lo hi H Q):=by subst h;exact (ET.or JO).or Iq
end
abbrev cxT(X:Cx)(pn:Qu)(xe:Qv):Cx:={ X with pn:=pn,xe:=xe }
section
variable{X:Cx}{pins pins2 pn:Qu}{σ:St}{H:Hp}{s:Shared}{xe:Qv}
def Inv.toT(I:Inv X pins σ H s):Inv (cxT X (X.pn++pins) xe) [] σ H s:=
 ⟨⟨I.ok.mod,I.ok.kind,I.ok.glob,I.ok.blt,I.ok.above,I.ok.inj,I.ok.has,I.ok.cab,I.ok.hd,I.ok.frames,I.ok.stk,I.ok.exf,I.ok.bs,I.ok.bsz,I.ok.noex,I.ok.exfs,I.ok.funs,I.ok.frf⟩,I.os,I.bare,I.base,I.loc,I.cell,I.free,I.freeC,λp hp=>I.pin p (by simpa using hp),I.hok,I.len⟩
def Inv.ofT(I:Inv (cxT X (X.pn++pins) xe) pins2 σ H s):Inv X pins σ H s:=
 ⟨⟨I.ok.mod,I.ok.kind,I.ok.glob,I.ok.blt,I.ok.above,I.ok.inj,I.ok.has,I.ok.cab,I.ok.hd,I.ok.frames,I.ok.stk,I.ok.exf,I.ok.bs,I.ok.bsz,I.ok.noex,I.ok.exfs,I.ok.funs,I.ok.frf⟩,I.os,I.bare,I.base,I.loc,I.cell,I.free,I.freeC,λp hp=>I.pin p (Pg _ hp),I.hok,I.len⟩
end
def CMulA(i j:Int):Prop:=Ek i j\/CMul i j
section
variable{K:W.Frag}{X:Cx}
def G8(h:X.K=K):OpR X (binaryOp .Add) (λx y H Q=>rI0 (λi j=>.int (i+j)) x y H Q\/(yg x y H Q\/(qL K x y H Q\/rb K x y H Q))):=Kw.or (catK h)
def GV:OpR X (binaryOp .Mult) (rI CMulA λi j=>.int (i*j)):=by
 intro pins s σ H x y v u Q I rx ry h;obtain⟨i,j,e1,e2,hc,q⟩:=h;rcases hc with hc |hc
 .exact EZ pins s σ H x y v u Q I rx ry ⟨i,j,e1,e2,hc,q⟩
 .exact Ku pins s σ H x y v u Q I rx ry ⟨i,j,e1,e2,hc,q⟩
end
def iA(h1:pd.canLay0=true)(h2:pd.depth<=160):shp pd=true:=by unfold shp;rw[h1,E_ h2];rfl
def Sm(n:Nat)(x:Int):Prop:=x.natAbs<2^n
def Sm.mono(h:Sm n x)(l:n<=m):Sm m x:=I_ h (Oa (by omega) l)
def Sm.mul(h:Sm n x)(k:Sm m y):Sm (n+m) (x*y):=by unfold Sm at *;rw[Oe,OM];exact Nat.mul_lt_mul'' h k
def Sm.bits(h:Sm n x):Builtin.Int.intBits x<=n:=intBits_le_iff.mpr h
def Sm.of_le(h:Sm n y)(l:x.natAbs<=y.natAbs):Sm n x:=OP l h
def CMulA.of(h:Sm n x)(k:Sm m y)(hn:n<=100000)(hm:m<=100000):CMulA x y:=.inl ⟨NG h.bits hn,NG k.bits hm⟩
def CMulA.left(h:-(2^64)<x)(k:x<2^64):CMulA x y:=.inr (.inl ⟨h,k⟩)
def CMulA.right(h:-(2^64)<y)(k:y<2^64):CMulA x y:=.inr (.inr ⟨h,k⟩)
def CDivB.of(h0:y≠0)(h:Sm 8000 y):CDivB x y:=⟨h0,h.bits⟩
structure Sz(n:Nat)(q:Rat):Prop where
 top:Sm n q.num
 bot:Sm n (q.den:Int)
def yH{a b:Int}(hb:b≠0):((a:Rat)/(b:Rat)).num*b=a*((a:Rat)/(b:Rat)).den:=by
 have h2:=Rat.num_divInt_den ((a:Rat)/(b:Rat));have h3:Rat.divInt ((a:Rat)/(b:Rat)).num (((a:Rat)/(b:Rat)).den:Int)=Rat.divInt a b:=by rw[h2,Rat.divInt_eq_div]
 exact (Rat.divInt_eq_divInt_iff (by have:=((a:Rat)/(b:Rat)).den_nz;omega) hb).mp h3
def vD(q:Rat):Int.gcd q.num q.den=1:=by
 have:=q.reduced
 exact this
def qM(hb:b≠0):Fr.T a b=((a:Rat)/(b:Rat)).num/\Fr.B a b=(((a:Rat)/(b:Rat)).den:Int):=by
 refine Fr.uniq (Fr.B_pos hb) (by have:=((a:Rat)/(b:Rat)).den_pos;omega) (Fr.low hb) (vD _) ?_;have h1:=Fr.cross (a:=a) hb;have h2:=yH (a:=a) hb;generalize ((a:Rat)/(b:Rat)).num=n at *;generalize (((a:Rat)/(b:Rat)).den:Int)=d at *;generalize Fr.T a b=x at *;generalize Fr.B a b=y at *;have h3:(x*d)*b=(n*y)*b:=by
  calc x*d*b=(x*b)*d:=by rw[PD]
   _=a*y*d:=by rw[h1]
   _=(a*d)*y:=by rw[PD]
   _=n*b*y:=by rw[h2]
   _=n*y*b:=by rw[PD]
 exact Po hb h3
def xY{a b:Int}(hb:b≠0):((a:Rat)/(b:Rat)).num.natAbs<=a.natAbs:=by
 have h:=(qM (a:=a) hb).1;rw[<- h];have h1:=Fr.T_mul (a:=a) hb;have h2:=Fr.dv_ne (a:=a) hb;have h3:(Fr.T a b).natAbs*(Fr.dv a b).natAbs=a.natAbs:=by rw[<- Oe,h1]
 have h4:1<=(Fr.dv a b).natAbs:=by omega
 calc (Fr.T a b).natAbs=(Fr.T a b).natAbs*1:=by omega
  _<=(Fr.T a b).natAbs*(Fr.dv a b).natAbs:=Oo _ h4
  _=a.natAbs:=h3
def xw{a b:Int}(hb:b≠0):((((a:Rat)/(b:Rat)).den:Int)).natAbs<=b.natAbs:=by
 have h:=(qM (a:=a) hb).2;rw[<- h];have h1:=Fr.B_mul (a:=a) hb;have h2:=Fr.dv_ne (a:=a) hb;have h3:(Fr.B a b).natAbs*(Fr.dv a b).natAbs=b.natAbs:=by rw[<- Oe,h1]
 have h4:1<=(Fr.dv a b).natAbs:=by omega
 calc (Fr.B a b).natAbs=(Fr.B a b).natAbs*1:=by omega
  _<=(Fr.B a b).natAbs*(Fr.dv a b).natAbs:=Oo _ h4
  _=b.natAbs:=h3
def Sz.div(hb:b≠0)(ha:Sm n a)(hb':Sm m b)(k:Nat)(h1:n<=k)(h2:m<=k):Sz k ((a:Rat)/(b:Rat)):=
 ⟨(ha.of_le (xY hb)).mono h1,(hb'.of_le (xw hb)).mono h2⟩
def cZ(q:Rat):(q.den:Int)≠0:=by have:=q.den_nz;omega
def eU(q:Rat):q=(q.num:Rat)/((q.den:Int):Rat):=by
 have:=Rat.num_divInt_den q
 rw[Rat.divInt_eq_div] at this;exact this.symm
def hU{b:Int}(h:b≠0):(b:Rat)≠0:=by intro z;exact h (by exact_mod_cast z)
def Gs(p q:Rat):p+q=((p.num*q.den+q.num*p.den:Int):Rat)/((p.den*q.den:Int):Rat):=by
 have h1:=hU (cZ p);have h2:=hU (cZ q)
 conv=>lhs;rw[eU p,eU q]
 simp only[Rat.intCast_add,N9];grind
def vA(p q:Rat):p*q=((p.num*q.num:Int):Rat)/((p.den*q.den:Int):Rat):=by
 have h1:=hU (cZ p);have h2:=hU (cZ q)
 conv=>lhs;rw[eU p,eU q]
 simp only[N9];grind
def Sz.mul(hp:Sz n p)(hq:Sz m q):Sz (n+m) (p*q):=by rw[vA];exact Sz.div (by have:=cZ p;have:=cZ q;exact O6 ‹_› ‹_›) (hp.top.mul hq.top) (hp.bot.mul hq.bot) _ (by omega) (by omega)
def wJ{q:Rat}:0<q.num ↔ 0<q:=by
 have h1:=Rat.num_nonneg (q:=q);have h2:=Qd (q:=q);constructor
 .intro h;refine Rat.lt_of_le_of_ne (h1.mp (by omega)) λz=>?_
  have:=h2.mpr z.symm
  omega
 .intro h;have h3:=h1.mpr (Rat.le_of_lt h);have h4:q.num≠0:=λz=>(Rat.ne_of_lt h) (h2.mp z).symm;omega
def Ja(p q:Rat):p<q ↔ p.num*q.den<q.num*p.den:=Rat.lt_iff p q
def tL{P:Program}{w:World}{H:Hp}(h:Heap)(hb:sysModules<h.objs.size):ObjOk P w H (h.push { cls:=.type "dict",data:=.dict #[] }) h.objs.size (.dK []):=
 ⟨N3 _,J_.mpr (Ne.symm (K_ hb)),[],.nil,Heap.DictOf.new h⟩
def Inv.big{X:Cx}{pins:Qu}{σ:St}{H:Hp}{s:Shared}(I:Inv X pins σ H s):sysModules<s.heap.objs.size:=by have h:mainGlobals<s.heap.objs.size:=(I.mod.glob.keeps I.bk).lt;exact Qc (by decide) h
def JJ:TE:=λ_ H Q=>∀p,H p=none->Q (.ref p) (upd H p (.dK []))
section
variable{X:Cx}{pos:Pos}
def Cm:PE X (.Dict [] [] pos) JJ:=λpins s σ H Q I h=>
 wpAny_Dict_empty ⟨.ref s.heap.objs.size,_,I.laid (a:=s.heap.objs.size) (o:=.dK []) (t':=s.toks) (λ_ _ q=>p_ _ q) (r_ _) (tL s.heap I.big),rfl,h _ (I.hok.fresh (r_ _))⟩
end
variable{K:W.Frag}{mg:Qt}
section
variable{κ:Type}[DecidableEq κ]
noncomputable def fN (kvs:List (κ×V)) (k:κ):Option V:=(kvs.find? λkv=>decide (kv.1=k)).map (·.2)
noncomputable def eA (kvs:List (κ×V)) (k:κ) (v:V):List (κ×V):=
 if (kvs.any λkv=>decide (kv.1=k))=true then kvs.map (λkv=>if kv.1=k then (kv.1,v) else kv) else kvs++[(k,v)]
def ml{p:κ×V}{r:List (κ×V)}{k:κ}(e:p.1=k):fN (p::r) k=some p.2:=by simp [fN,N8,e]
def l6{p:κ×V}{r:List (κ×V)}{k:κ}(e:¬ p.1=k):fN (p::r) k=fN r k:=by simp [fN,N8,e]
theorem lV(k:κ):∀kvs:List (κ×V),(kvs.any λkv=>decide (kv.1=k))=(fN kvs k).isSome
 | []=>rfl
 |
  p::r=>by
  rw[Oi];by_cases e:p.1=k
  .simp only[ml e,E_ e,Bool.true_or,Option.isSome_some]
  .rw[l6 e,C_ e,Bool.false_or];exact lV k r
def iQ(kvs:List (κ×V))(k:κ)(v:V):(eA kvs k v).length<=kvs.length+1:=by
 unfold eA;split
 .rw[o_];omega
 .rw[G_,D_,NC];omega
def BI{kvs:List (κ×V)}{k:κ}(v:V)(h:fN kvs k=none):eA kvs k v=kvs++[(k,v)]:=by unfold eA;rw[lV,h];exact if_neg (by decide)
def RelO.isSome_eq(r:RelO o u):o.isSome=u.isSome:=by
 cases o with
 |none=>cases u with
  |none=>rfl
  |some _=>exact (show False from r).elim
 |some _=>cases u with
  |none=>exact (show False from r).elim
  |some _=>rfl
def KV.val(r:KV kvs vs)(k:κ):RelO (fN kvs k) (valueAt vs k):=by
 unfold KV at r;induction r with
 |nil=>exact True.intro
 |
  @cons p q ps qs h t ih=>
  obtain⟨h1,h2⟩:=h;by_cases e:p.1=k
  .have e':q.1=k:=h1.symm.trans e;have b:valueAt (q::qs) k=some q.2:=by simp [valueAt,N8,e']
   rw[ml e,b];exact h2
  .have e':¬ q.1=k:=λz=>e (h1.trans z);have b:valueAt (q::qs) k=valueAt qs k:=by simp [valueAt,N8,e']
   rw[l6 e,b];exact ih
def KV.any(r:KV kvs vs)(k:κ):(kvs.any λkv=>decide (kv.1=k))=vs.any λkv=>decide (kv.1=k):=by
 unfold KV at r;induction r with
 |nil=>rfl
 |cons h t ih=>rw[Oi,Oi,ih,h.1]
def KV.repl(r:KV kvs vs)(k:κ)(ry:RelV y u):
 KV (kvs.map λkv=>if kv.1=k then (kv.1,y) else kv) (vs.map λkv=>if kv.1=k then (kv.1,u) else kv):=by
 unfold KV at r ⊢;induction r with
 |nil=>exact .nil
 |
  @cons p q ps qs h t ih=>
  rw[y_,y_];refine .cons ?_ ih;obtain⟨h1,h2⟩:=h;by_cases e:p.1=k
  .rw[if_pos e,if_pos (h1.symm.trans e)];exact⟨h1,ry⟩
  .rw[if_neg e,if_neg (λz=>e (h1.trans z))];exact⟨h1,h2⟩
def KV.put(r:KV kvs vs)(k:κ)(ry:RelV y u):KV (eA kvs k y) (stored vs k u):=by
 unfold eA stored;rw[r.any k];by_cases e:(vs.any λkv=>decide (kv.1=k))=true
 .rw[if_pos e,if_pos e];exact r.repl k ry
 .rw[if_neg e,if_neg e];exact Paired.snoc r ⟨rfl,ry⟩
def KV.length(r:KV kvs vs):kvs.length=vs.length:=Qp r
end
def qW(r:RelV (kV k) u):(bL P w).is k u=true:=by
 cases k with
 |inl i=>obtain⟨t,e⟩:=(show ∃t,u=Value.int i t from r);subst e;exact uN P w i t
 |inr x=>obtain⟨t,e⟩:=(show ∃t,u=Value.str x t from r);subst e;exact va P w x t
theorem pI:∀{ks:List Key}{us:List Value},Vals (ks.map kV) us->ItemsAre (bL P w) ks us
 | [],_,r=>by rw[NV] at r;cases r;exact .nil
 |
  k::ks,_,r=>by
  rw[y_] at r;cases r with
  |cons h t=>exact .cons (qW h) (pI t)
abbrev KT(H:Hp):List (List Key×V)->List (List Key×Addr×Value)->Prop:=Paired λp q=>p.1=q.1/\H q.2.1=some (.tup (p.1.map kV))/\RelV p.2 q.2.2
def KT.val(r:KT H kvs xs)(k:List Key):RelO (fN kvs k) ((atKey xs k).map (·.2)):=by
 induction r with
 |nil=>exact True.intro
 |
  @cons p q ps qs h t ih=>
  obtain⟨h1,_,h2⟩:=h;by_cases e:p.1=k
  .have e':q.1=k:=h1.symm.trans e;have b:atKey (q::qs) k=some q.2:=by simp [atKey,N8,e']
   rw[ml e,b];exact h2
  .have e':¬ q.1=k:=λz=>e (h1.trans z);have b:atKey (q::qs) k=atKey qs k:=by simp [atKey,N8,e']
   rw[l6 e,b];exact ih
def KT.repl(r:KT H kvs xs)(k:List Key)(ry:RelV y u):
 KT H (kvs.map λkv=>if kv.1=k then (kv.1,y) else kv) (xs.map (putAt k u)):=by
 induction r with
 |nil=>exact .nil
 |
  @cons p q ps qs h t ih=>
  rw[y_,y_];refine .cons ?_ ih;obtain⟨h1,h2,h3⟩:=h;unfold putAt;by_cases e:p.1=k
  .rw[if_pos e,if_pos (h1.symm.trans e)];exact⟨h1,h2,ry⟩
  .rw[if_neg e,if_neg (λz=>e (h1.trans z))];exact⟨h1,h2,h3⟩
def KT.put(r:KT H kvs xs)(k:List Key)(hb:H b=some (.tup (k.map kV)))(ry:RelV y u):
 KT H (eA kvs k y) (storedH xs k b u):=by
 have e:(kvs.any λkv=>decide (kv.1=k))=(atKey xs k).isSome:=by rw[lV,(r.val k).isSome_eq,Option.isSome_map]
 unfold eA storedH;rw[e];by_cases q:(atKey xs k).isSome=true
 .rw[if_pos q,if_pos q];exact r.repl k ry
 .rw[if_neg q,if_neg q];exact Paired.snoc r ⟨rfl,hb,ry⟩
def KT.keeps(r:KT H kvs xs)(ht:∀b ys,H b=some (.tup ys)->H' b=some (.tup ys)):KT H' kvs xs:=
 Paired.mapP r λ_ _ z=>⟨z.1,ht _ _ z.2.1,z.2.2⟩
section
variable{P:Program}{w:World}{H:Hp}{h:Heap}{a:Addr}
def Eh(ok:HOk P w H h)(e:Rd H a u):ObjOk P w H h a u:=e.ok ok
def yh(ok:HOk P w H h)(e:Rd H a (.dK kvs)):kvs.length<=sizeLine/\(a==sysModules)=false/\∃vs,KV kvs vs/\h.DictOf (bL P w) a vs:=
 show ObjOk P w H h a (.dK kvs) from Eh ok e
def Ex(ok:HOk P w H h)(e:H a=some (.dK kvs)):kvs.length<=sizeLine/\(a==sysModules)=false/\∃vs,KV kvs vs/\h.DictOf (bL P w) a vs:=yh ok (.inl e)
def t9(ok:HOk P w H h)(e:H a=some (.tup (ks.map kV))):(tupleKind (bL P w)).is h ks a:=by obtain⟨_,its,r,o,h1,h2,n,h3⟩:=(show ObjOk P w H h a (.tup (ks.map kV)) from ok a _ e);exact⟨o,its.toArray,n,h1,h2,h3,by simpa using pI r⟩
def xt(ok:HOk P w H h)(e:Rd H a (.dT kvs)):kvs.length<=sizeLine/\(a==sysModules)=false/\
 ∃xs,KT H kvs xs/\h.DictOfH (tupleKind (bL P w)) a xs:=by
 obtain⟨z,y,xs,r,o,es,ep,h1,h2,h3,h4,h5⟩:=(show ObjOk P w H h a (.dT kvs) from Eh ok e);refine⟨z,y,xs,r,o,es,ep,h1,h2,h3,h4,λx hx=>?_,h5⟩;have all:∀{l:List (List Key×V)}{m:List (List Key×Addr×Value)},KT H l m->∀x∈m,(tupleKind (bL P w)).is h x.1 x.2.1:=by
  intro l m q;induction q with
  |nil=>intro x hx;exact nomatch hx
  |
   @cons p q ps qs hq t ih=>
   intro x hx;rcases F_.mp hx with e |hx
   .subst e;exact t9 ok (by rw[<- hq.1];exact hq.2.1)
   .exact ih x hx
 exact all r x hx
def Me(ok:HOk P w H h)(e:H a=some (.dT kvs)):kvs.length<=sizeLine/\(a==sysModules)=false/\
 ∃xs,KT H kvs xs/\h.DictOfH (tupleKind (bL P w)) a xs:=xt ok (.inl e)
end
def DGet(H:Hp)(a:Addr)(y:V)(r:Option V):Prop:=
 (∃kvs k,Rd H a (.dK kvs)/\y=kV k/\r=fN kvs k)\/∃kvs k b,Rd H a (.dT kvs)/\y=.ref b/\H b=some (.tup (k.map kV))/\r=fN kvs k
def DPut(H:Hp)(a:Addr)(y v:V)(H':Hp):Prop:=
 (∃kvs k,H a=some (.dK kvs)/\y=kV k/\kvs.length<sizeLine/\H'=upd H a (.dK (eA kvs k v)))\/
 ∃kvs k b,H a=some (.dT kvs)/\y=.ref b/\H b=some (.tup (k.map kV))/\kvs.length<sizeLine/\H'=upd H a (.dT (eA kvs k v))
def DGet.k{H:Hp}{a:Addr}{kvs:List (Key×V)}{k:Key}(e:H a=some (.dK kvs)):DGet H a (kV k) (fN kvs k):=.inl ⟨kvs,k,.inl e,rfl,rfl⟩
def DPut.k{H:Hp}{a:Addr}{kvs:List (Key×V)}{k:Key}{v:V}(e:H a=some (.dK kvs))(hl:kvs.length<sizeLine):DPut H a (kV k) v (upd H a (.dK (eA kvs k v))):=.inl ⟨kvs,k,e,rfl,hl,rfl⟩
section
variable{X:Cx}{pins:Qu}{σ:St}{H:Hp}{s:Shared}{a:Addr}{y v:V}{u r:Value}{o:Option V}{A:Around}{E:Qv}
def AW(hu:A.units+1<cLine)(I:Inv X pins σ H s)(g:DGet H a y (some v))(ry:RelV y u)(h:∀w' s',Inv X pins σ H s'->RelV v w'->Q w' s'):
 wpAny (model X.prog X.w) A (getItem (.ref a) u) Q E s:=by
 rcases g with ⟨kvs,k,e,ey,l⟩ |⟨kvs,k,b,e,ey,eb,l⟩
 .subst ey;obtain⟨z,hd,vs,rel,dd⟩:=yh I.hok e;obtain⟨w',hw,rw'⟩:=RelO.some_of (v:=v) (o:=valueAt vs k) (by rw[l];exact rel.val k);exact wpAny_getItem_of (qW ry) dd.mapOf hw (h w' _ (I.tok _) rw')
 .subst ey;cases (show u=Value.ref b from ry);obtain⟨z,hd,xs,rel,dd⟩:=xt I.hok e;obtain⟨w',hw,rw'⟩:=RelO.some_of (v:=v) (o:=(atKey xs k).map (·.2)) (by rw[l];exact rel.val k);obtain⟨p,hp,hp2⟩:=M_.mp hw;refine wpAny_getItem_heap (tupleKind_room_in1 hu) (t9 I.hok eb) dd hp ?_;rw[hp2];exact h w' _ (I.tok _) rw'
def nS(I:Inv X pins σ H s)(mu:Mut (H a))(hs:Heap.SameBut a s.heap h')(he:∃q,h'.get? a=some q)(new:ObjOk X.prog X.w (upd H a ob) h' a ob):
 Inv X pins σ (upd H a ob) { s with heap:=h',toks:=t' }:=
 I.write (x:=a) (e:=a) mu (.inl rfl) (λb q hb z=>(hs.2 b hb).trans z) he new
def yQ(z:kvs.length<=sizeLine)(hd:(a==sysModules)=false)(rel:KV kvs vs)(dd:h'.DictOf (bL P w) a vs):
 ObjOk P w H' h' a (.dK kvs):=⟨z,hd,vs,rel,dd⟩
def Az(hu:A.units+1<cLine)(I:Inv X pins σ H s)(g:DPut H a y v H')(ry:RelV y u)(rv:RelV v r)(h:∀s',Inv X pins σ H' s'->Q () s'):
 wpAny (model X.prog X.w) A (setItem (.ref a) u r) Q E s:=by
 rcases g with ⟨kvs,k,e,ey,l,eH⟩ |⟨kvs,k,b,e,ey,eb,l,eH⟩
 .subst ey eH;obtain⟨z,hd,vs,rel,dd⟩:=Ex I.hok e;have hz:vs.length<=sizeLine:=by rw[<- rel.length];exact z
  have hl:(eA kvs k v).length<=sizeLine:=by have:=iQ kvs k v;omega
  refine wpAny_setItem_pairs (hsz:=hz) (qW ry) dd λh' dd' hs=>h _ ?_;have he:∃q,h'.get? a=some q:=let ⟨q,_,_,hq,_⟩:=dd';⟨q,hq⟩;exact nS I (by rw[e];exact True.intro) hs he (yQ hl hd (rel.put k rv) dd')
 .subst ey eH;cases (show u=Value.ref b from ry);obtain⟨z,hd,xs,rel,dd⟩:=Me I.hok e;have hz:xs.length<=sizeLine:=by rw[<- Qp rel];exact z
  have hl:(eA kvs k v).length<=sizeLine:=by have:=iQ kvs k v;omega
  refine wpAny_setItem_heap (hsz:=hz) (tupleKind_room_in1 hu) (t9 I.hok eb) dd λh' dd' hs=>h _ ?_;obtain⟨q,es,ep,hq,h2,h3,h4,_,h5⟩:=dd';refine nS I (by rw[e];exact True.intro) hs ⟨q,hq⟩ ⟨hl,hd,_,(rel.put k eb rv).keeps λc ys ec=>?_,q,es,ep,hq,h2,h3,h4,h5⟩;rw[aK (KU ec e (λz=>nomatch z))];exact ec
end
def yk(i:Expr):Prop:=∀ov iv,subscripted i false ov iv=operate [ov,iv] (getItem ov iv)
def GJ{prog:Program}{w:World}{A:Around}{E:Qv}{s:Shared}{env:Env}{value slice:Expr}{pos:Pos}{T id:String}{Q:Qv}
 (hl:typeLookup (.type T) "__getitem__"=pure (some (.builtin id))) (hs:yk slice)
 (h:wpAny (model prog w) A (eval value env) (λo s₁=>wpAny (model prog w) A (eval slice env) (λi s₂=>s₂.TypeIs o T/\wpAny (model prog w) A (getItem o i) Q E s₂) E s₁) E s):
 wpAny (model prog w) A (eval (.Subscript value slice pos) env) Q E s:=by
 refine Subscript_ (ND h (λo s₁ h₁=>ND h₁ (λi s₂ h₂=>?_) λ_ _ x=>x) λ_ _ x=>x);obtain⟨hT,h₂⟩:=h₂;unfold subscriptTail;refine n_ ?_;rw[getitemInPython_of_ne hT.not_modules];refine n_ (wpAny_specialOf hT hl ?_);have f_:wpAny (model prog w) A (subscripted slice false o i) (λr s₃=>wpAny (model prog w) A (letTemporaryGo value o r >>= λ_=>pure r) Q E s₃) E s₂:=by rw[hs o i];exact wpAny_operating (ND h₂ (λr s₃ h₃=>n_ (wpAny_letTemporaryGo (v_ h₃))) λ_ _ x=>x)
 first
  |exact v_ (n_ f_)
  |exact n_ (v_ (n_ f_))
  |exact n_ f_
def u9(I:Inv X pins σ H s)(g:DGet H a y o):s.TypeIs (.ref a) "dict":=by
 rcases g with ⟨kvs,k,e,_,_⟩ |⟨kvs,k,b,e,_,_,_⟩
 .obtain⟨_,_,vs,_,dd⟩:=yh I.hok e;exact dd.typeIs
 .obtain⟨_,_,xs,_,dd⟩:=xt I.hok e;exact dd.typeIs
def LJ(td ty:TE):TE:=λσ H Q=>td σ H λx H1=>ty σ H1 λy H2=>∃a v,x=.ref a/\DGet H2 a y (some v)/\Q v H2
section
variable{X:Cx}{o i:Expr}{pos:Pos}{td ty:TE}
def wa(hu:X.A.units+1<cLine)(ho:PE X o td)(hi:PE X i ty)(hs:yk i):PE X (.Subscript o i pos) (LJ td ty):=by intro pins s σ H Q I h;refine GJ PySem.F.slot_dict_getitem.lookup hs (thn (ho pins s σ H _ I h) λu s1 zz=>exA zz λx H1 I1 rx q1=>thn (hi pins s1 σ H1 _ I1 q1) λiv s2 ⟨y,H2,I2,ry,a,v,ex,g,q2⟩=>?_);subst ex;obtain rfl:u=Value.ref a:=rx;exact⟨u9 I2 g,AW hu I2 g ry λw' s3 I3 rw'=>⟨v,H2,I3,rw',q2⟩⟩
end
def nE:List (TE×TE)->St->Hp->(List (V×V)->Hp->Prop)->Prop
 | [],_,H,Q=>Q [] H
 |(tk,tv)::r,σ,H,Q=>tk σ H λx H1=>tv σ H1 λy H2=>nE r σ H2 λps H3=>Q ((x,y)::ps) H3
abbrev VV:List (V×V)->List (Value×Value)->Prop:=Paired λp q=>RelV p.1 q.1/\RelV p.2 q.2
def PPs(X:Cx)(pos:Pos)(keys:List (Option Expr))(values:List Expr)(trs:List (TE×TE)):Prop:=
 ∀
  (pins:Qu) (s:Shared) (σ:St) (H:Hp) (Q:List (V×V)->Hp->Prop),Inv X pins σ H s->nE trs σ H Q->
  wpAny (model X.prog X.w) X.A (evalPairs (pairTrees keys values X.env pos)) (λvs s'=>∃ps H',Inv X pins σ H' s'/\VV ps vs/\Q ps H') X.xe s
def Gi:PPs X pos [] [] []:=λpins s σ H Q I h=>pairTrees_nil_walk ⟨[],H,I,.nil,h⟩
def Df(hk:PE X k tk)(hv:PE X v tv)(hr:PPs X pos ks vs trs):
 PPs X pos (some k::ks) (v::vs) ((tk,tv)::trs):=λpins s σ H Q I h=>
 pairTrees_cons_walk (thn (hk pins s σ H _ I h) λu s1 zz=>exA zz λx H1 I1 rx q1=>thn (hv pins s1 σ H1 _ I1 q1) λw2 s2 zz=>exA zz λy H2 I2 ry q2=>
  thn (hr pins s2 σ H2 _ I2 q2) λws s3 zz=>exA zz λps H3 I3 rel q3=>⟨(x,y)::ps,H3,I3,.cons ⟨rx,ry⟩ rel,q3⟩)
noncomputable def ig (kvs more:List (Key×V)):List (Key×V):=more.foldl (λacc kv=>eA acc kv.1 kv.2) kvs
def KV.merge:∀{more:List (Key×V)}{rs:List (Key×Value)}{kvs:List (Key×V)}{vs:List (Key×Value)},KV more rs->KV kvs vs->KV (ig kvs more) (merged vs rs):=by
 intro more rs kvs vs r;unfold KV at r;induction r generalizing kvs vs with
 |nil=>intro q;exact q
 |
  @cons p q ps qs h t ih=>
  intro r0;have e:KV (eA kvs p.1 p.2) (stored vs q.1 q.2):=by
   have:=r0.put p.1 h.2
   rw[<- h.1];exact this
  exact ih e
theorem jW:∀(more kvs:List (Key×V)),(ig kvs more).length<=kvs.length+more.length
 | [],kvs=>by show kvs.length<=kvs.length+0;omega
 |
  p::r,kvs=>by
  have h1:=jW r (eA kvs p.1 p.2);have h2:=iQ kvs p.1 p.2;show (ig (eA kvs p.1 p.2) r).length<=_;rw[D_];omega
theorem nG:∀{kvs:List (Key×V)}{ws:List (Value×Value)},VV (kvs.map λkv=>(kV kv.1,kv.2)) ws->∃rs,Carries (bL P w) ws rs/\KV kvs rs
 | [],_,r=>by rw[NV] at r;cases r;exact⟨[],True.intro,.nil⟩
 |
  p::kvs,_,r=>by
  rw[y_] at r;cases r with
  |@cons a b as bs h t=>obtain⟨rs,c,q⟩:=nG (P:=P) (w:=w) t;obtain⟨b1,b2⟩:=b;exact⟨(p.1,b2)::rs,⟨qW h.1,rfl,c⟩,.cons ⟨rfl,h.2⟩ q⟩
def MM(trs:List (TE×TE)):TE:=λσ H Q=>∀p,H p=none->nE trs σ (upd H p (.dK [])) λps H2=>H2 p=some (.dK [])/\∃kvs:List (Key×V),ps=kvs.map (λkv=>(kV kv.1,kv.2))/\kvs.length<=15/\Q (.ref p) (upd H2 p (.dK (ig [] kvs)))
def FC(h:PPs X pos keys values trs)(hall:keys.all (·.isSome)=true)(hl:keys.length=values.length)(h0:keys≠[])
 (h15:keys.length<=15):PE X (.Dict keys values pos) (MM trs):=by
 intro pins s σ H Q I q;have hn:=I.hok.fresh (r_ s.heap.objs.size);have I1:=I.laid (a:=s.heap.objs.size) (o:=.dK []) (h':=s.heap.push { cls:=.type "dict",data:=.dict #[] }) (t':=s.toks) (λ_ _ q=>p_ _ q) (r_ _) (tL s.heap I.big);refine wpAny_Dict_walk (knd:=bL X.prog X.w) hall hl h0 h15 (thn (h pins _ σ _ _ I1 (q _ hn)) λws s2 ⟨ps,H2,I2,rel,e,kvs,ep,lk,q2⟩=>?_);subst ep;obtain⟨rs,c,rk⟩:=nG (P:=X.prog) (w:=X.w) rel;obtain⟨z,hd,vs0,r0,dd⟩:=Ex I2.hok e;cases r0;refine⟨rs,c,dd,λh' dd' hs=>⟨.ref s.heap.objs.size,_,?_,rfl,q2⟩⟩;have hz:(ig [] kvs).length<=sizeLine:=by have h1:=jW kvs [];rw[NC] at h1;rw[sizeLine_eq];omega
 have he:∃q,h'.get? s.heap.objs.size=some q:=let ⟨q,_,_,hq,_⟩:=dd';⟨q,hq⟩;exact nS I2 (by rw[e];exact True.intro) hs he (yQ hz hd (rk.merge .nil) dd')
section
variable[DecidableEq κ]
noncomputable def lkD (kvs:List (κ×α)) (k:κ):Option α:=(kvs.find? λkv=>decide (kv.1=k)).map (·.2)
noncomputable def fu (kvs:List (κ×α)) (k:κ) (v:α):List (κ×α):=if (kvs.any λkv=>decide (kv.1=k))=true then kvs.map λkv=>if kv.1=k then (kv.1,v) else kv else kvs++[(k,v)]
end
section
variable{H:Hp}
def Dq[DecidableEq κ]:∀{kvs:List (κ×α)}{ws:List (κ×β)},ws.map (·.1)=kvs.map (·.1)->(ws.any λkv=>decide (kv.1=k))=kvs.any λkv=>decide (kv.1=k):=by
 intro kvs;induction kvs with
 |
  nil=>
  intro ws e;cases ws with
  |nil=>rfl
  |cons _ _=>cases e
 |
  cons p kvs ih=>
  intro ws e;cases ws with
  |nil=>cases e
  |cons w ws=>rw[y_,y_] at e;injection e with e1 e2;rw[Oi,Oi,ih e2,e1]
def xM:sH:=λo i v H Q=>∃a H4,o=.ref a/\DPut H a i v H4/\Q H4
variable{X:Cx}{a:Expr}
def um(hu:X.A.units+1<cLine):xJ X xM:=λpins s σ H o i v ov iv u Q I ro ri rv ⟨a,H4,eo,g,q⟩=>by subst eo;obtain rfl:ov=Value.ref a:=ro;exact Az hu I g ri rv λs4 I4=>⟨H4,I4,q⟩
theorem rq:∀(more acc:List (Key×V)),((acc++more).map (·.1)).Nodup->ig acc more=acc++more
 | [],acc,_=>(NP _).symm
 |
  (k,v)::more,acc,h=>by
  show ig (eA acc k v) more=_;have hk:fN acc k=none:=by unfold fN;rw[Option.map_eq_none_iff,List.find?_eq_none];intro p hp z;have z:=O0 z;rw[NT,List.nodup_append] at h;exact h.2.2 p.1 (List.mem_map_of_mem hp) k (s_ ..) z
  rw[BI v hk,rq more (acc++[(k,v)]) (by rw[Pc];exact h),Pc];rfl
theorem sY:∀(ks:List Str) (vs:List V),(ks.map V.str).zip vs=((ks.map Sum.inr).zip vs).map λkv:Key×V=>(kV kv.1,kv.2)
 | [],_=>rfl
 |_::_,[]=>rfl
 |
  k::ks,v::vs=>by
  show (V.str k,v)::(ks.map V.str).zip vs=_;rw[sY ks vs];rfl
end
open PySem PySem.Spec PySem.Calls PyProof.Rows
section
variable{X:Cx}{K:W.Frag}{es:List Expr}{pos:Pos}
def gUnp(K:W.Frag)(n:Nat)(t:TGs):TG:=λv σ H Q=>∃a xs,v=.ref a/\(SqT K H a xs\/SqL K H a xs)/\xs.length=n/\t xs σ H Q
def Ik{k:Nat}{t:TGs}{n:Nat}(hc:X.calm=true)(h:PGs X es t)
 (hn:(assignEach es X.env).length=n) (hst:(assignEach es X.env).findIdx? (·.1)=none):PG X (.Tuple es k pos) (gUnp X.K n t):=by
 intro pins s σ H v u Q I r hw;obtain⟨a,xs,e1,hq,hl,hw⟩:=hw;rcases hq with hq |hq
 .exact Al hc h hn hst pins s σ H v u Q I r ⟨a,xs,e1,hq,hl,hw⟩
 .subst e1;cases r;obtain⟨its,rv,⟨o,m,ho,oc,od,os⟩,hz⟩:=I.list hq;have ht:s.heap.IsList a its.toArray:=⟨o,ho,oc,m,os⟩;rw[assign_Tuple];refine n_ (O5 ?_);unfold unpack;rw[hst,hn,show n=its.toArray.size by simp [<- hl,rv.length]];refine n_ (Ot (W.kun_itemsOf (I.ok.hd hc) ht λh' hx=>?_));have I1:Inv X pins σ H { s with heap:=h' }:=I.kept (t':=s.toks) λb o e=>hx b o (K_ (z_ e)) e;exact h pins _ σ H xs _ Q I1 (by simpa using rv) hw
end
section
variable{X:Cx}{mg:Qt}{a:Expr}{pos q2 p1 p2:Pos}
noncomputable def iI (j:Int):List V:=(List.range j.toNat).map λi=>V.int ((i:Nat):Int)
def rLrg:List V->Hp->VK->Prop:=λxs H Q=>∃j:Int,xs=[.int j]/\-(2^62)<=j/\j<=16777216/\∀l,H l=none->Q (.ref l) (upd H l (.lst (iI j)))
theorem vY:∀(n:Nat) (f:Nat->Int) (is:List Nat) (ys:List Value),CarriedAll ys (is.map λi=>PyData.int (f i))->Vals (is.map λi=>V.int (f i)) ys
 |n,f,[],ys,h=>by cases h;exact .nil
 |
  n,f,i::is,ys,h=>by
  cases h with
  |cons c r=>cases c;exact .cons ⟨_,rfl⟩ (vY n f is _ r)
def JS(hc:X.calm=true)(hl:Gl X "list")(hml:X.mg "list"=none)(hg:Gl X "range")(hm:X.mg "range"=none)(ha:PA X [a] ta)(hs:starEach [a] X.env=[(false,eval a X.env)])
 (hs1:starEach [.Call (.Name "range" p2) [a] [] q2] X.env=[(false,eval (.Call (.Name "range" p2) [a] [] q2) X.env)]):
 PE X (.Call (.Name "list" p1) [.Call (.Name "range" p2) [a] [] q2] [] pos) (tCB rLrg ta):=by
 intro pins s σ H Q I h;refine NX (cX I hl hml (show bootBuiltins "list"=some (.type "list") from rfl) ?_ (by decide) (by decide));refine NL ?_ hs1 rfl;rw[hs1];show wpAny _ _ (spliced ((false,eval (.Call (.Name "range" p2) [a] [] q2) X.env)::[])) _ _ s;refine OO ?_;refine NX (cX I hg hm (show bootBuiltins "range"=some (.type "range") from rfl) ?_ (by decide) (by decide));refine NL (thn (ha q2 pins s σ H _ I h) λus s1 zz=>exA zz λvs H1 I1 r1 q1=>?_) hs rfl;obtain⟨j,e,h1,h2,q⟩:=q1;subst e;cases r1 with
 |
  cons r rr=>
  cases rr;obtain⟨t,rfl⟩:=r;refine call_range_1 (Pa ?_);have I2:Inv X pins σ H1 { s1 with heap:=s1.heap.push { cls:=.type "range",data:=.fields #[.int 0 s1.toks,.int j t,.int 1 (s1.toks+1)] },toks:=s1.toks+1+1 }:=I1.kept λb o e=>p_ _ e;obtain⟨m,hns,_⟩:=I2.loc;refine list_rangeD (I.ok.hd hc) (Att.fr_all hns) (news:=[]) (λp hp=>nomatch hp) (Qm ..) (small_one (by omega) (by omega) (by omega) (by omega)) (n:=j.toNat) (by rw[Qr];split <;> omega) (by omega) ?_;intro h' tk ys hf hn hk _ _ ⟨⟨c,hpl⟩,_⟩ hcar;have rv:Vals (iI j) ys:=vY 0 (λi=>((i:Nat):Int)) (List.range j.toNat) ys (by
   unfold rangeInts at hcar;rw[Of] at hcar;have e:((λi=>PyData.int i) ∘ λ(i:Nat)=>(0:Int)+(i:Int)*1)=λi:Nat=>PyData.int (i:Int):=by funext i;simp
   rw[show (PyData.int ∘ λ(i:Nat)=>(0:Int)+(i:Int)*1)=λi:Nat=>PyData.int (i:Int) from e] at hcar;exact hcar)
  have hz:(iI j).length<=sizeLine:=by unfold iI;rw[o_,A_];have:sizeLine=16777216:=rfl;omega
  exact⟨.ref _,_,I2.laid (t':=tk) hk (r_ _) (show ObjOk X.prog X.w _ h' _ (.lst (iI j)) from ⟨hz,ys,c,rv,hpl⟩),rfl,q _ (I2.hok.fresh (r_ _))⟩
end
structure RoomU(k:Nat)(A:Around):Prop where
 dp:A.depth+3*k+5<recursionLimit
 un:A.units+16*k+200<cLine
def RoomU.deeper(r:RoomU (k+1) A)(env:Env):RoomU k (A.deeper env):=
 ⟨by have:=r.dp;show A.depth+1+3*k+5<_;omega,by have:=r.un;show A.units+3+16*k+200<_;omega⟩
def RoomU.depth(r:RoomU k A):A.depth<recursionLimit:=by have:=r.dp;omega
def RoomU.u180(r:RoomU k A):A.units+180<cLine:=by have:=r.un;omega
def RoomU.u100(r:RoomU k A):A.units+190<cLine:=by have:=r.un;omega
def Room.toU(r:Room k A)(e:Option Value)(h:j<=k):RoomU j (A.mark e):=⟨by have:=r.dp;show A.depth+3*j+5<_;omega,by have:=r.un;show A.units+16*j+200<_;omega⟩
noncomputable def jO (CX:CXT) (P:Program) (w:World) (K:W.Frag) (mg:Qt) (base:Heap) (N:List Str) (qual:Str) (scope:Scope) (f:Addr) (cd:Value) (A:Around) (outer:List Env) (s:Shared) (H:Hp) (E:XK):Cx:={ eE CX P w K mg base N qual scope f cd A outer s H E with calm:=false }
structure FnOkU(P:Program)(w:World)(K:W.Frag)(mg:Qt)(base:Heap)(CX:CXT)(k:Nat)(f:Addr)(fd:FuncData)(ps:List Str)(sp:Sp):Prop where
 len:∀vs H Q E,sp vs H Q E->vs.length=ps.length
 run:∀(A:Around) (outer:List Env) (s:Shared) (H:Hp) (args:Args) (us:List Value) (vs:List V) (Q:VK) (E:XK),RoomU k A->Env0 P w K mg base A outer s H->BindsTo s fd args (ps.zip us)->Vals vs us->sp vs H Q E->
  codeAny (model P w) A (.call (.ref f) args) (CR CX outer P w H s Q E) s
def wW{CX:CXT}{P:Program}{w:World}{K:W.Frag}{mg:Qt}{base:Heap}{N ps:List Str}{qual:Str}{scope:Scope}{f:Addr}{cd:Value}{A:Around}{outer:List Env}{s s1:Shared}{H:Hp}{E:XK}{us:List Value}{vs:List V}
 (S:FnScope N ps scope) (e0:Env0 P w K mg base A outer s H) (hl:vs.length=ps.length) (r:Vals vs us)
 (x:InCallC s s.heap.objs.size (bindL (envOfC qual scope s.heap.objs.size f cd).kindOf (ps.zip us) λ_=>none) (cellsFrom (s.heap.objs.size+1) scope.names []) (bindC (envOfC qual scope s.heap.objs.size f cd).kindOf (ps.zip us) λ_=>none) s1):
 Inv (jO CX P w K mg base N qual scope f cd A outer s H E) [] (df N vs) H s1:=by
 have I:=pw (CX:=CX) (E:=E) (A:={ A with handled:=none }) S rfl ⟨e0.frames,e0.mod,e0.bs,e0.bsz,e0.funs,e0.frf,e0.hok,e0.bare⟩ hl r x;exact⟨⟨I.ok.mod,I.ok.kind,I.ok.glob,I.ok.blt,I.ok.above,I.ok.inj,I.ok.has,I.ok.cab,λz=>absurd z u_,Around.frames_deeper e0.frames,I.ok.stk,I.ok.exf,I.ok.bs,I.ok.bsz,I.ok.noex,I.ok.exfs,I.ok.funs,I.ok.frf⟩,I.os,I.bare,I.base,I.loc,I.cell,I.free,I.freeC,I.pin,I.hok,I.len⟩
def HY{CX:CXT}{P:Program}{w:World}{K:W.Frag}{mg:Qt}{base:Heap}{k:Nat}{f:Addr}{name qual:Str}{params:Arguments}{body:List Stmt}{scope:Scope}{dV kV doc pm cdv ct oc:Value}{an od:Option Addr}
 {osl:Array (Option Value)}{N ps:List Str}{sp:Sp} (lk:K.lookup f=some ⟨oc,od,.func (W.fnOf name qual params body scope dV kV doc pm an cdv ct),osl⟩) (j_:W.codeIn K cdv qual=true) (S:FnScope N ps scope)
 (len:∀vs H Q E,sp vs H Q E->vs.length=ps.length)
 (b_:∀(A:Around) (outer:List Env) (s:Shared) (H:Hp) (vs:List V) (Q:VK) (E:XK),RoomU k (A.deeper (envOfC qual scope s.heap.objs.size f cdv))->sp vs H Q E->
  ∃t,PSs (jO CX P w K mg base N qual scope f cdv A outer s H E) body t/\t { nx:=λ_ H'=>Q .non H',rt:=Q } (df N vs) H):
 FnOkU P w K mg base CX (k+1) f (W.fnOf name qual params body scope dV kV doc pm an cdv ct) ps sp:=by
 refine⟨len,λA outer s H args us vs Q E hr e0 hb r hsp=>?_⟩;have hl:=len _ _ _ _ hsp;have KX:K.In s.heap:=e0.mod.kin.keeps λb o e=>(e0.bs b o e).1;have lim:s.heap.NoLimit:=e0.mod.nolimit.keeps λb o e=>(e0.bs b o e).1;have hkind:∀y∈ps.zip us,scope.names.lookup y.1=some .local\/(scope.names.lookup y.1=some .cell/\((cellsFrom (s.heap.objs.size+1) scope.names []).lookup y.1).isSome=true):=λ⟨n,v⟩ hy=>by
  rcases S.par n (Qb hy).1 with q |q
  .exact .inl q
  .exact .inr ⟨q,W.cellsFrom_some _ _ _ (.inl q)⟩
 refine codeAny_call_function hr.depth (KX _ _ lk) rfl S.co S.gen rfl (W.codeRec_of KX j_) (hb _ _ _ _ ?_);refine wpAny_newFunctionEnv_cells S.kind hkind λenv he s1 x=>?_;subst he;refine⟨lim.keeps x.toInCall.keep,codeAny_func ?_⟩;obtain⟨t,ht,hq⟩:=b_ A outer s H vs Q E (hr.deeper _) hsp;have I:Inv (jO CX P w K mg base N qual scope f cdv A outer s H E) [] (df N vs) H s1:=wW S e0 hl r x;refine ND (ht [] s1 (df N vs) H _ I hq) (λfl s' hs=>?_) λe s' hs=>hs;have f_:∀{σ':St}{H':Hp}{v:V}{u:Value},Inv (jO CX P w K mg base N qual scope f cdv A outer s H E) [] σ' H' s'->RelV v u->Q v H'->CE outer P w H s Q u s':=
  λ{σ' H' v u} J rv q=>⟨v,H',J.os,J.bare,J.base,J.hok,rv,q⟩
 cases fl with
 |ret u=>obtain⟨v,σ',H',J,rv,q⟩:=hs;exact f_ J rv q
 |next=>obtain⟨σ',H',J,q⟩:=hs;exact f_ (v:=V.non) (u:=Value.none) J rfl q
 |brk=>obtain⟨_,_,_,q⟩:=hs;exact False.elim q
 |cont=>obtain⟨_,_,_,q⟩:=hs;exact False.elim q
section
variable{P:Program}{w:World}{K:W.Frag}{mg:Qt}{base:Heap}{x:Str}{st:Stmt}{k:Nat}{ps N:List Str}{sp:Sp}
def Fun.okRU(F:Fun K x qual st f fd)(S:FnScope N ps (au st))(len:∀vs H Q E,sp vs H Q E->vs.length=ps.length)
 (b_:∀(cdv:Value) (A:Around) (outer:List Env) (s:Shared) (H:Hp) (vs:List V) (Q:VK) (E:XK),RoomU k (A.deeper (envOfC qual (au st) s.heap.objs.size f cdv))->sp vs H Q E->
  ∃t,PSs (jO (CX1 P w) P w K mg base N qual (au st) f cdv A outer s H E) (bq st) t/\t { nx:=λ_ H'=>Q .non H',rt:=Q } (df N vs) H):FnOkU P w K mg base (CX1 P w) (k+1) f fd ps sp:=by
 obtain⟨oc,od,kV,doc,pm,an,cdv,ct,osl,rfl,lk,j_⟩:=F.ex;exact HY lk j_ S len λA outer s H vs Q E hr hsp=>b_ cdv A outer s H vs Q E hr hsp
structure CalleeU(P:Program)(w:World)(K:W.Frag)(mg:Qt)(base:Heap)(x:Str)(k:Nat)(ps:List Str)(sp:Sp):Prop where
 ex:∃f fd,FnOkU P w K mg base (CX1 P w) k f fd ps sp/\mg x=some (.ref f)/\W.keepIn K (.ref f)=true/\Binds K fd ps []/\∃oc od osl,K.lookup f=some ⟨oc,od,.func fd,osl⟩
def Def.okRU(D:Def K mg x st)(S:FnScope N ps (au st))
 (hb:∀(kV doc pm:Value) (an:Option Addr) (cdv ct:Value) (us:List Value),us.length=ps.length->bindArgs (W.fnOf x x (cI st) (bq st) (au st) .none kV doc pm an cdv ct) ⟨us,[]⟩=pure (ps.zip us))
 (len:∀vs H Q E,sp vs H Q E->vs.length=ps.length)
 (b_:∀(f:Addr) (cdv:Value) (A:Around) (outer:List Env) (s:Shared) (H:Hp) (vs:List V) (Q:VK) (E:XK),RoomU k (A.deeper (envOfC x (au st) s.heap.objs.size f cdv))->sp vs H Q E->
  ∃t,PSs (jO (CX1 P w) P w K mg base N x (au st) f cdv A outer s H E) (bq st) t/\t { nx:=λ_ H'=>Q .non H',rt:=Q } (df N vs) H):CalleeU P w K mg base x (k+1) ps sp:=by
 obtain⟨f,fd,F,m⟩:=D.ex;exact⟨f,fd,F.okRU S len (b_ f),m,F.kp,F.binds hb,F.look⟩
variable{F:MS}
end
section
variable{X:Cx}
def Ly:List V->Hp->VK->Prop:=λxs H Q=>xs=[]/\∀l,H l=none->Q (.ref l) (upd H l (.set (λ_=>false) 0))
def Ag:R2:=λx y H Q=>∃i a S n,x=.int i/\y=.ref a/\H a=some (.set S n)/\Q (.bl (S i)) H
def CQ:OpR X (compareOp .In) Ag:=by intro pins s σ H x y v u Q I rx ry h;obtain⟨i,a,S,n,rfl,rfl,hH,q⟩:=h;obtain⟨t,rfl⟩:=rx;cases ry;have hS:s.heap.SetOf (intKind X.prog X.w) a S n:=I.hok a _ hH;exact wpAny_inSet_of (intKind_is _ _ i t) rfl hS ⟨.bl (S i),H,I.tok _,rfl,q⟩
def Fg:V->List V->Hp->VK->Prop:=λx vs H Q=>∃a i S n,x=.ref a/\vs=[.int i]/\H a=some (.set S n)/\n<4000/\Q .non (upd H a (.set (λk=>S k || decide (k=i)) (if S i then n else n+1)))
def zo:MtM X "set.add" Fg:=by intro pins s σ H x vs v us Q I rx rv h;obtain⟨a,i,S,n,rfl,rfl,hH,hn,q⟩:=h;cases rx;obtain⟨u,rfl,ru⟩:=rv.one;obtain⟨t,rfl⟩:=ru;have hS:s.heap.SetOf (intKind X.prog X.w) a S n:=I.hok a _ hH;refine call_set_add (intKind_is _ _ i t) rfl hS (by unfold scanBound;omega) λh' sb hS'=>?_;refine⟨.non,_,I.write (x:=a) (e:=a) (by rw[hH];exact trivial) (.inl rfl) (λb o hb e=>(sb.2 b hb).trans e) ?_ (show ObjOk X.prog X.w _ h' a (.set (λk=>S k || decide (k=i)) (if S i then n else n+1)) from hS'),rfl,q⟩;obtain⟨o,_,_,_,e,_⟩:=hS';exact⟨o,e⟩
def uX:CallR X (.builtin "len") (λxs H Q=>∃a S n,xs=[.ref a]/\H a=some (.set S n)/\Q (.int (n:Nat)) H):=by intro pins s σ H xs us Q I r h;obtain⟨a,S,n,rfl,hH,q⟩:=h;obtain⟨u,rfl,ru⟩:=fS r;cases ru;have hS:s.heap.SetOf (intKind X.prog X.w) a S n:=I.hok a _ hH;obtain⟨o,es,ep,t,e,hex,hd,_,_,hb,hf,rfl⟩:=hS;refine call_len_set e hex hd hf (by unfold scanBound at hb;omega) ⟨.int (es.size:Nat),H,I.tok _,⟨_,rfl⟩,q⟩
def Ar:CallR X (.type "set") Ly:=by intro pins s σ H xs us Q I r h;obtain⟨rfl,q⟩:=h;cases r;refine call_set_0 λled=>?_;refine⟨.ref s.heap.objs.size,_,I.laid (t':=s.toks) (λb o e=>p_ _ e) (r_ _) (show ObjOk X.prog X.w _ _ _ (.set (λ_=>false) 0) from ?_),rfl,q _ (I.hok.fresh (r_ _))⟩;obtain⟨h1,es,ep,tt,h2,h3,h4,h5,h6⟩:=setObjOf_fresh (knd:=intKind X.prog X.w) led;exact⟨_,es,ep,tt,Em _ rfl,h1,h2,h3,h4,by rw[h5];decide,h6,h5⟩
end
section
noncomputable def gc (xs:List Int) (i:Int):List Int:=if i∈xs then xs else i::xs
end
section
variable{X:Cx}{K:W.Frag}
def rP(K:W.Frag):V->List V->Hp->VK->Prop:=λx vs H Q=>∃l b xs zs,x=.ref l/\vs=[.ref b]/\H l=some (.lst xs)/\SqT K H b zs/\xs.length+zs.length<=sizeLine/\Q .non (upd H l (.lst (xs++zs)))
def Gq(l:Addr)(xs:Array Value)(n:Nat)(b:Addr)(ys:Array Value)(n2:Nat)(dd:Option Addr)(ss:Array (Option Value))(z0:¬(!xs.isEmpty&&Builtin.List.listTooLong (xs.size+ys.size))=true)(z1:xs.size<=sizeLine)(z2:xs.size+ys.size<=sizeLine+1):
 Meets (Builtin.«list.extend» ⟨[.ref l,.ref b],[]⟩) (λ_ R s=>s.heap.get? l=some { cls:=.type "list",dict:=none,data:=.seq xs n,slots:=#[] }/\s.heap.get? b=some { cls:=.type "tuple",dict:=dd,data:=.seq ys n2,slots:=ss }/\R (.ok (.ret Value.none)) { s with heap:=s.heap.update l (Obj.mapSeq λx=>x++ys),toks:=s.toks }):=
 .of_wp λprog w A R s h=>by
  obtain⟨hp,g,d,tk,os⟩:=s;obtain⟨el,eb,h⟩:=h;have e1:=PySem.AutoSeq1.idx_int;have e2:=PySem.F.sub_tuple_tuple;have e3:=PySem.F.sub_list_list;have e4:=PySem.F.sub_tuple_list;have e5:=PySem.F.sub_list_tuple;have zz:(xs++ys).size<=sizeLine+1:=by rw[Array.size_append];exact z2
  wp_walk using (wpAny_updateSeq el rfl (hz:=z1) (_hz':=zz)),wpAny_loadPart' el,wpAny_loadPart' eb
  exact⟨_,rfl,h⟩
def yE(hK:X.K=K):MtM X "list.extend" (rP K):=by
 subst hK;intro pins s σ H x vs v us Q I rx rv h;obtain⟨l,b,xs,zs,rfl,rfl,hH,hB,hz,q⟩:=h;cases rx;obtain⟨u,rfl,ru⟩:=rv.one;cases ru;obtain⟨z,its,n,r,hl,e⟩:=I.lstM hH;obtain⟨its2,r2,⟨⟨oc,od,oda,os⟩,e2,ec,n2,ed⟩,z2⟩:=I.tuple hB;dsimp only at ec ed;subst ec ed;have hl2:=r2.length;have hsz:its.toArray.size+its2.toArray.size<=sizeLine:=by rw[x_,x_];omega
 have hlong:¬ (!its.toArray.isEmpty&&Builtin.List.listTooLong (its.toArray.size+its2.toArray.size))=true:=by rw[uC hsz,Bool.and_false];exact u_
 refine Pk PySem.F.slot_list_extend ⟨_,e,rfl⟩ PySem.F.entry_list_extend (PySem.F.args_list_extend_2 _ _)
  (Gq l its.toArray n b its2.toArray n2 od os hlong (by rw[x_];omega) (by omega)) ⟨e,e2,?_⟩
 refine⟨.non,_,I.lset (its':=its++its2) hH e (by simp) (r.append r2) ?_,rfl,q⟩;rw[G_];omega
end
noncomputable def mnI:List Int->Int
 | []=>0
 | [x]=>x
 |x::y::r=>if mnI (y::r)<x then mnI (y::r) else x
theorem oA:∀{l:List Int},l≠[]->mnI l∈l
 | [x],_=>by simp [mnI]
 |
  x::y::r,_=>by
  have:=oA (l:=y::r) (by simp)
  rw[mnI];split
  .exact q_ _ this
  .exact s_ ..
theorem Aj:∀{l:List Int}{a:Int},a∈l->mnI l<=a
 | [x],a,h=>by rw[NJ] at h;rw[h];exact Int.le_refl _
 |
  x::y::r,a,h=>by
  rw[mnI];rcases F_.mp h with rfl |h
  .split <;> omega
  .have:=Aj (l:=y::r) h
   split <;> omega
section
variable{X:Cx}{K:W.Frag}
def Dw(f:List Int->Int)(K:W.Frag):List V->Hp->VK->Prop:=λxs H Q=>∃(a:Addr) (ns:List Int),xs=[.ref a]/\SqL K H a (ns.map V.int)/\ns≠[]/\Q (.int (f ns)) H
def Ai(hK:X.K=K)(hc:X.calm=true):CallR X (.builtin "min") (Dw mnI K):=by
 subst hK;intro pins s σ H xs us Q I r h;obtain⟨a,ns,rfl,hq,hne,q⟩:=h;obtain⟨u,rfl,ru⟩:=fS r;cases ru;obtain⟨its,rv,p,hz⟩:=I.list hq;have hi:=om rv;obtain⟨ys,hy⟩:=hi.allInts.items;have hn:numsOf its.toArray.toList=ns:=by rw[show its.toArray.toList=its from rfl,hi.numsOf]
 have pl:=p.isList;rw[hy] at pl hn;rw[nums_intItems] at hn;have hsz:0<ys.size:=by
  have:ns.length=ys.size:=by rw[<- hn,o_,NZ]
  have:=List.length_pos_iff.mpr hne
  omega
 refine min_intList (I.ok.hd hc) pl hsz λv h' tk hv hk=>?_;obtain⟨t,rfl⟩:=intItems_at hv;obtain⟨h1,h2⟩:=argBest_lt (numAt ys) (ys.size-1);have m1:numAt ys (argBest (λi j=>decide (numAt ys i<numAt ys j)) (ys.size-1))∈ns:=by rw[<- hn,numAt_eq];exact getD_mem (by rw[o_,NZ];omega)
 have m2:∀b∈ns,numAt ys (argBest (λi j=>decide (numAt ys i<numAt ys j)) (ys.size-1))<=b:=λb hb=>by rw[<- hn] at hb;obtain⟨j,hj,rfl⟩:=mem_getD hb;rw[o_,NZ] at hj;rw[<- numAt_eq];exact h2 j (by omega)
 have e:numAt ys (argBest (λi j=>decide (numAt ys i<numAt ys j)) (ys.size-1))=mnI ns:=Int.le_antisymm (m2 _ (oA hne)) (Aj m1);rw[e];exact⟨.int (mnI ns),H,I.kept (t':=tk) hk,⟨_,rfl⟩,q⟩
end
def vG(a b:Int):Builtin.Range.rangeSize a b (-1)=if b<a then a-b else 0:=by unfold Builtin.Range.rangeSize;rw[if_neg (by decide)];simp only[Int.neg_neg,Int.ediv_one];split <;> omega
def BQ{a b:Int}(h1:-(2^62)<=a)(h2:a<2^62)(h3:-(2^62)<=b)(h4:b<2^62):Builtin.Range.small a b (-1)=true:=by unfold Builtin.Range.small;rw[vG];simp only[Builtin.Range.rangeFitsLong,t_,OS,OC,NO,show ¬ (-1:Int)>0 by decide,Pl];split <;> omega
def F4{P:Program}{w:World}{K:W.Frag}{tg:Expr}(r:Addr)(lo:Int)(n:Nat):Turn P w K tg (Itd lo n) [r] r (λj g=>IsRangeIter g r (lo+(j:Nat)*(-1)) ((n:Int)-(j:Nat)) (-1)) where
 mem:=NJ.mpr rfl
 obj:=λj g q c hc=>by obtain rfl:c=r:=NJ.mp hc;exact⟨_,q,λv z=>by have z':Data.fields _=.cell v:=z;cases z'⟩
 keep:=λj g g' q k=>k r (NJ.mpr rfl) _ q
 item:=by
  rintro X rfl rfl rfl hc j pins s σ H E I hf q hj;obtain⟨y0,y1,y2,y3,y4,y5⟩:=hf r (NJ.mpr rfl);refine (Walks.range (prog:=X.prog) (w:=X.w) (I.ok.hd hc) r lo (-1) n).item j s _ _ hj q λv g tk hv q' kk=>?_;obtain⟨t,rfl⟩:=hv;have e:lo+((j:Nat):Int)*(-1)=lo-j:=by omega
  exact⟨_,rfl,qI (s:={ s with heap:=g,toks:=tk }) (n:="range_iterator") q' rfl rfl (by decide) ⟨.int (lo-j),H,I.turned (λb o hb e=>kk b o (by simpa using hb) e) y0 y1 y3 y4 y5,⟨t,by rw[e]⟩,⟨rfl,rfl⟩,q',λb hb=>(hf b hb).1⟩⟩
 done:=by rintro X rfl rfl rfl hc j pins s σ H E I hf q hj;obtain⟨y0,y1,y2,y3,y4,y5⟩:=hf r (NJ.mpr rfl);exact wpAny_pyNext_range_end (I.ok.hd hc) q (by have:n<=j:=hj;omega) λg eb=>⟨rfl,I.turned (t':=s.toks) (λb o hb e=>eb b o hb e) y0 y1 y3 y4 y5⟩
 self:=λ_ _ _ _ _ q h=>wpAny_pyIter_rangeiter q h
section
variable{X:Cx}{tg:Expr}{p pos:Pos}{a b c:Expr}
def Mk(ta:TA):TI:=λσ H R=>ta σ H λvs H1=>∃i j:Int,vs=[.int i,.int j,.int (-1)]/\(-(2^62)<=i/\i<2^62/\-(2^62)<=j/\j<2^62)/\R (Itd i (i-j).toNat) H1
def zV(hg:Gl X "range")(hm:X.mg "range"=none)(ha:PA X [a,b,c] ta)(hs:starEach [a,b,c] X.env=[(false,eval a X.env),(false,eval b X.env),(false,eval c X.env)])(hs2:starEach [b,c] X.env=[(false,eval b X.env),(false,eval c X.env)]):
 PI X tg (.Call (.Name "range" p) [a,b,c] [] pos) (Mk ta):=by
 intro pins s σ H R I h;refine Call_ (cX I hg hm boot_range (NL (thn (ha pos pins s σ H _ I h) λus s1 zz=>exA zz λvs H1 I1 r1 q1=>?_) (by rw[hs,hs2]) (by rw[hs2];rfl)));obtain⟨i,j,rfl,⟨q1,q2,q3,q4⟩,q⟩:=q1;cases r1 with
 |
  cons r rr=>
  cases rr with
  |
   cons r' rr=>
   cases rr with
   |
    cons r'' rr=>
    cases rr;obtain⟨t,rfl⟩:=r;obtain⟨t',rfl⟩:=r';obtain⟨t'',rfl⟩:=r'';refine call_range_3 (by decide) ?_ (.inl (PyProof.noPylong_small (by decide)));refine wpAny_pyIter_range (Qm ..) (BQ q1 q2 q3 q4) ?_;have I2:Inv X pins σ H1 { s1 with heap:=s1.heap.push { cls:=.type "range",data:=.fields #[.int i t,.int j t',.int (-1) t''] },toks:=s1.toks }:=I1.kept λb o e=>p_ _ e;generalize s1.heap.push { cls:=.type "range",data:=.fields #[.int i t,.int j t',.int (-1) t''] }=g at *;refine⟨g.objs.size,[g.objs.size],_,_,H1,rfl,I2.kept (t':=s1.toks) λb o e=>p_ _ e,F4 _ i (i-j).toNat,?_,λb hb=>?_,q⟩
    .have e2:(((i-j).toNat:Nat):Int)-((0:Nat):Int)=Builtin.Range.rangeSize i j (-1):=by rw[vG];split <;> omega
     show IsRangeIter _ _ (i+((0:Nat):Int)*(-1)) ((((i-j).toNat:Nat):Int)-((0:Nat):Int)) (-1);rw[show i+((0:Nat):Int)*(-1)=i from by omega,e2];exact Em _ rfl
    .obtain rfl:b=g.objs.size:=NJ.mp hb;exact I2.fpOk (r_ _) (I2.hok.fresh (r_ _))
end
open PySem PySem.W PyProof.Rows
structure LtO(lt:Nat->Nat->Bool)(N:Nat):Prop where
 irr:∀i,lt i i=false
 tr:∀i j k,lt i j=true->lt j k=true->lt i k=true
 tot:∀i j,i<N->j<N->i≠j->lt i j=true\/lt j i=true
abbrev Ask:=Nat->Nat->(Bool->Shared->Prop)->Shared->Prop
def Ans(cmp:Ask)(lt:Nat->Nat->Bool)(N:Nat)(s:Shared):Prop:=∀i j C,i<N->j<N->C (lt i j) s->cmp i j C s
structure PmO(N:Nat)(p:Array Nat):Prop where
 sz:p.size=N
 lt:∀i,i<N->p.getD i 0<N
 ne:∀i j,i<j->j<N->p.getD i 0≠p.getD j 0
def UpTo(lt:Nat->Nat->Bool)(p:Array Nat)(k:Nat):Prop:=∀i j,i<j->j<k->lt (p.getD i 0) (p.getD j 0)=true
def DnTo(lt:Nat->Nat->Bool)(p:Array Nat)(k:Nat):Prop:=∀i j,i<j->j<k->lt (p.getD j 0) (p.getD i 0)=true
def eX(p:Array Nat)(i:Nat):p.getD i 0=(p[i]?).getD 0:=by rw[Array.getD_eq_getD_getElem?]
def PmO.of{N:Nat}{p:Array Nat}(h:p.toList.Perm (List.range N)):PmO N p:=by
 have hl:p.size=N:=by rw[<- NZ,h.length_eq,A_]
 have nd:p.toList.Nodup:=h.nodup_iff.mpr P4;have e:∀i (hi:i<N),p.getD i 0=p.toList[i]'(by rw[NZ,hl];exact hi):=λi hi=>by rw[eX,Pq (by rw[hl];exact hi)];simp
 refine⟨hl,λi hi=>?_,λi j hij hj=>?_⟩
 .rw[e i hi];exact NM.mp (h.mem_iff.mp (OK _))
 .rw[e i (by omega),e j hj];exact Ox.mp nd i j _ _ hij
variable{lt:Nat->Nat->Bool}{N:Nat}{cmp:Ask}{s:Shared}
def LtO.flip(O:LtO lt N){p:Array Nat}(P:PmO N p){i j:Nat}(hij:i<j)(hj:j<N)(h:lt (p.getD j 0) (p.getD i 0)=false):lt (p.getD i 0) (p.getD j 0)=true:=by
 rcases O.tot _ _ (P.lt i (by omega)) (P.lt j hj) (P.ne i j hij hj) with z |z
 .exact z
 .rw[h] at z;cases z
def UpTo.more(O:LtO lt N){p:Array Nat}{n:Nat}(h:UpTo lt p n)(hn:1<=n)(e:lt (p.getD (n-1) 0) (p.getD n 0)=true):UpTo lt p (n+1):=λi j hij hj=>by
 by_cases hj':j<n
 .exact h i j hij hj'
 .obtain rfl:j=n:=by omega
  by_cases hi:i=j-1
  .rw[hi];exact e
  .exact O.tr _ _ _ (h i (j-1) (by omega) (by omega)) e
def DnTo.more(O:LtO lt N){p:Array Nat}{n:Nat}(h:DnTo lt p n)(hn:1<=n)(e:lt (p.getD n 0) (p.getD (n-1) 0)=true):DnTo lt p (n+1):=λi j hij hj=>by
 by_cases hj':j<n
 .exact h i j hij hj'
 .obtain rfl:j=n:=by omega
  by_cases hi:i=j-1
  .rw[hi];exact e
  .exact O.tr _ _ _ e (h i (j-1) (by omega) (by omega))
theorem sq(O:LtO lt N)(C:Ans cmp lt N s){p:Array Nat}(P:PmO N p){Q:Nat->Shared->Prop}:∀(f n:Nat),n+f=N->1<=n->UpTo lt p n->(∀m,n<=m->m<=N->UpTo lt p m->(m=N\/lt (p.getD m 0) (p.getD (m-1) 0)=true)->Q m s)->(kas_asc p f n).kasWp cmp Q s
 |0,n,hf,h1,hu,hq=>hq n (r_ _) (by omega) hu (.inl (by omega))
 |
  f+1,n,hf,h1,hu,hq=>by
  refine C _ _ _ (P.lt n (by omega)) (P.lt (n-1) (by omega)) ?_;cases z:lt (p.getD n 0) (p.getD (n-1) 0) with
  |true=>exact hq n (r_ _) (by omega) hu (.inr z)
  |false=>exact sq O C P f (n+1) (by omega) (by omega) (hu.more O h1 (O.flip P (by omega) (by omega) z)) λm a b=>hq m (by omega) b
theorem wK(O:LtO lt N)(C:Ans cmp lt N s){p:Array Nat}(P:PmO N p){Q:Array Nat×Nat×Nat->Shared->Prop}:∀(f n:Nat),n+f=N->1<=n->DnTo lt p n->(∀m,n<=m->m<=N->DnTo lt p m->Q (p,m,0) s)->(kas_desc f p n 0).kasWp cmp Q s
 |0,n,hf,h1,hu,hq=>hq n (r_ _) (by omega) hu
 |
  f+1,n,hf,h1,hu,hq=>by
  refine C _ _ _ (P.lt n (by omega)) (P.lt (n-1) (by omega)) ?_;cases z:lt (p.getD n 0) (p.getD (n-1) 0) with
  |true=>exact wK O C P f (n+1) (by omega) (by omega) (hu.more O h1 z) λm a b=>hq m (by omega) b
  |false=>refine C _ _ _ (P.lt (n-1) (by omega)) (P.lt n (by omega)) ?_;rw[O.flip P (by omega) (by omega) z];exact hq n (r_ _) (by omega) hu
def zD{p:Array Nat}{n k:Nat}(hn:n<=p.size):(kas_rev p 0 n).getD k 0=if k<n then p.getD (n-1-k) 0 else p.getD k 0:=by
 have e:=getElem?_mirror_all (xs:=p) (i:=0) hn k;unfold kas_rev;rw[eX,e];by_cases h:k<n
 .rw[if_pos ⟨N3 _,h⟩,if_pos h,eX];congr 2;omega
 .rw[if_neg (λz=>h z.2),if_neg h,eX]
def Cy(O:LtO lt N)(C:Ans cmp lt N s){p:Array Nat}(P:p.toList.Perm (List.range N)){Q:Nat×Array Nat->Shared->Prop}{n:Nat}(h1:1<=n)(hn:n<=N)(hd:DnTo lt p n)(hq:∀m p',p'.toList.Perm (List.range N)->1<=m->m<=N->UpTo lt p' m->Q (m,p') s):(kas_tail3 n N p).kasWp cmp Q s:=by have P':(kas_rev p 0 n).toList.Perm (List.range N):=(Array.perm_iff_toList_perm.mp (mirror_perm _ _ _ _)).trans P;have sz:=(PmO.of P).sz;unfold kas_tail3;rw[KasT.kasWp_bind];refine sq O C (PmO.of P') (N-n) n (by omega) h1 (λi j hij hj=>?_) λm a b c _=>hq m _ P' (by omega) b c;rw[zD (by omega),zD (by omega),if_pos (by omega),if_pos (by omega)];exact hd _ _ (by omega) (by omega)
def C7(O:LtO lt N)(C:Ans cmp lt N s){p:Array Nat}(P:p.toList.Perm (List.range N))(hN:1<=N){Q:Nat×Array Nat->Shared->Prop}(hq:∀m p',p'.toList.Perm (List.range N)->1<=m->m<=N->UpTo lt p' m->Q (m,p') s):(kas_count N p).kasWp cmp Q s:=by
 unfold kas_count;rw[KasT.kasWp_bind];refine sq O C (PmO.of P) (N-1) 1 (by omega) (r_ _) (λi j hij hj=>by omega) λm a b c d=>?_;by_cases hm:m=N
 .rw[if_pos (by rw[NO];exact hm)];exact hq m p P a b c
 .rw[if_neg (by rw[NO];exact hm)];by_cases h1:m>1
  .rw[if_pos h1];refine C _ _ _ ((PmO.of P).lt 0 (by omega)) ((PmO.of P).lt (m-1) (by omega)) ?_;rw[c 0 (m-1) (by omega) (by omega)];exact hq m p P a b c
  .rw[if_neg h1];obtain rfl:m=1:=by omega
   have z:=d.resolve_left hm;unfold kas_descPart;rw[KasT.kasWp_bind];refine wK O C (PmO.of P) (N-2) 2 (by omega) (by omega) (λi j hij hj=>?_) λm' a' b' c'=>?_
   .obtain rfl:i=0:=by omega
    obtain rfl:j=1:=by omega
    exact z
   .dsimp only;rw[if_neg (by omega)];exact Cy O C P (by omega) b' c' hq
theorem rm(O:LtO lt N)(C:Ans cmp lt N s){p:Array Nat}(P:PmO N p){k:Nat}(hk:k<N){Q:Nat->Shared->Prop}(hu:UpTo lt p k):∀(f l r:Nat),l<=r->r<=k->r-l<=f->(∀i,i<l->lt (p.getD i 0) (p.getD k 0)=true)->(∀i,r<=i->i<k->lt (p.getD k 0) (p.getD i 0)=true)->(∀m,m<=k->(∀i,i<m->lt (p.getD i 0) (p.getD k 0)=true)->(∀i,m<=i->i<k->lt (p.getD k 0) (p.getD i 0)=true)->Q m s)->(kas_place p k f l r).kasWp cmp Q s
 |0,l,r,h1,h2,h3,h4,h5,hq=>hq l (by omega) h4 λi hi=>h5 i (by omega)
 |
  f+1,l,r,h1,h2,h3,h4,h5,hq=>by
  unfold kas_place;by_cases h:l >= r
  .rw[if_pos h];exact hq l (by omega) h4 λi hi=>h5 i (by omega)
  .rw[if_neg h];refine C _ _ _ (P.lt k hk) (P.lt _ (by omega)) ?_;cases z:lt (p.getD k 0) (p.getD ((l+r)/2) 0) with
   |
    true=>
    refine rm O C P hk hu f l ((l+r)/2) (by omega) (by omega) (by omega) h4 (λi hi hik=>?_) hq;by_cases hr:i=(l+r)/2
    .rw[hr];exact z
    .exact O.tr _ _ _ z (hu _ _ (by omega) hik)
   |
    false=>
    refine rm O C P hk hu f ((l+r)/2+1) r (by omega) h2 (by omega) (λi hi=>?_) h5 hq;have y:=O.flip P (show (l+r)/2<k by omega) hk z;by_cases hr:i=(l+r)/2
    .rw[hr];exact y
    .exact O.tr _ _ _ (hu _ _ (by omega) (by omega)) y
def Ab{p:Array Nat}{k l t:Nat}(hk:k<p.size)(hl:l<=k):(bubble p k (k-l)).getD t 0=if t=l then p.getD k 0 else if l<t/\t<=k then p.getD (t-1) 0 else p.getD t 0:=by
 have e:=getElem?_bubble hk (k-l) (by omega) t;rw[show k-(k-l)=l by omega] at e;rw[eX,e];by_cases h:t=l
 .rw[if_pos h,if_pos h,eX]
 .rw[if_neg h,if_neg h];by_cases h':l<t/\t<=k
  .rw[if_pos h',if_pos h',eX]
  .rw[if_neg h',if_neg h',eX]
theorem AB(O:LtO lt N)(C:Ans cmp lt N s){Q:Array Nat->Shared->Prop}(hq:∀p,p.toList.Perm (List.range N)->UpTo lt p N->Q p s):∀(f:Nat) (p:Array Nat) (k:Nat),p.toList.Perm (List.range N)->k+f=N->1<=k->UpTo lt p k->(kas_bin f p k).kasWp cmp Q s
 |
  0,p,k,P,hf,h1,hu=>by
  obtain rfl:k=N:=by omega
  exact hq p P hu
 |
  f+1,p,k,P,hf,h1,hu=>by
  have sz:=(PmO.of P).sz;unfold kas_bin;rw[KasT.kasWp_bind];refine rm O C (PmO.of P) (by omega) hu k 0 k (by omega) (r_ _) (by omega) (λi hi=>by omega) (λi h1 h2=>by omega) λm hm ha hb=>?_;refine AB O C hq f _ (k+1) ((Array.perm_iff_toList_perm.mp (bubble_perm _ _ _)).trans P) (by omega) (by omega) λi j hij hj=>?_;rw[Ab (by omega) hm,Ab (by omega) hm];by_cases i1:i=m
  .rw[if_pos i1];rw[if_neg (by omega),if_pos (by omega)];exact hb _ (by omega) (by omega)
  .rw[if_neg i1];by_cases j1:j=m
   .rw[if_pos j1,if_neg (by omega)];exact ha i (by omega)
   .rw[if_neg j1];by_cases i2:m<i
    .rw[if_pos (by omega),if_pos (by omega)];exact hu _ _ (by omega) (by omega)
    .rw[if_neg (by omega)];by_cases j2:m<j
     .rw[if_pos (by omega)];exact hu _ _ (by omega) (by omega)
     .rw[if_neg (by omega)];exact hu _ _ (by omega) (by omega)
def GG(O:LtO lt N)(C:Ans cmp lt N s)(hN:1<=N){Q:Array Nat->Shared->Prop}(hq:∀p,p.toList.Perm (List.range N)->UpTo lt p N->Q p s):(kas_sort N).kasWp cmp Q s:=by
 unfold kas_sort;rw[KasT.kasWp_bind];refine C7 O C (by simp) hN λm p P h1 h2 hu=>?_;dsimp only;by_cases h:m<N
 .rw[if_pos h,show max m 1=m by omega];exact AB O C hq _ _ _ P (by omega) h1 hu
 .rw[if_neg h];obtain rfl:m=N:=by omega
  exact hq p P hu
def Ez(H:Hp):Prop:=∀b,H b=none\/(∃o xs,H b=some (.frz o xs))\/H b=some (.tbl #[])
structure TabsOk(K:W.Frag)(ts:List Addr)(h:Heap):Prop where
 at_:∀P∈ts,h.get? P=some (W.tabObj #[])
 no:∀P∈ts,K.lookup P=none
 cd:∀P∈ts,∃c,W.codeHdIn K c P=true
def spT(K:W.Frag)(mg:Qt)(ts:List Addr):Sp:=λvs H Q _=>∃(a:Addr) (ns:List Int),vs=[.ref a]/\Ez H/\SqL K H a (ns.map V.int)/\ns.length<=63/\(∀P∈ts,H P=some (.tbl #[]))/\sG K mg H/\∀H',Q (.bl true) H'
def Nw{Pr:Program}{w:World}{K:W.Frag}{mg mb:Qt}{k:Nat}{fa a:Addr}{fd:FuncData}{x:Str}{s1:Shared}{vs:List Value}{ns:List Int}{ts:List Addr}
 (KX:K.In s1.heap) (hns:s1.heap.Ns mainGlobals mg) (hb:s1.heap.Ns builtinsNs mb) (hbb:∀y:Str,y ≠ "__name__"->mb y=bootBuiltins y) (hlim:s1.heap.NoLimit) (hg:s1.gens=#[]) (TO:TabsOk K ts s1.heap) (hbm:∃bm ob,mg "__builtins__"=some (.ref bm)/\bm≠builtinsNs/\s1.heap.get? bm=some ob/\ob.cls=.type "module" /\ ob.dict=some builtinsNs/\ob.data=.plain)
 (ha:s1.heap.get? a=some { cls:=.type "list",data:=.seq vs.toArray }) (hi:IntsAre vs ns) (hl:ns.length<=63) (hr:Room k callerA)
 (F:∀base:Heap,K.In base->base.Ns mainGlobals mg->FnOk Pr w K mg base (CX1 Pr w) k fa fd [x] (spT K mg ts)) (hbind:∀(s:Shared) (u:Value),BindsTo s fd ⟨[u],[]⟩ [(x,u)]):
 codeAny (model Pr w) callerA (.call (.ref fa) ⟨[.ref a],[]⟩) (λr s'=>r=.ok (.ret (.bool true))/\OldK s1.heap s'.heap/\s'.os=s1.os/\AllBare s'.gens) s1:=by
 have rv:=kx hi;have hz:ns.length<=sizeLine:=NG hl (by decide);have ant:a∉ts:=λz=>by
  have:=TO.at_ a z
  rw[ha] at this;cases this
 obtain⟨bm,ob,b1,b2,b3,b4,b5,b6⟩:=hbm;have bmG:bm≠mainGlobals:=λz=>by obtain⟨o,es,ep,e,dd,_⟩:=hns;rw[z,e] at b3;cases b3;rw[dd] at b6;cases b6
 have bmt:bm∉ts:=λz=>by
  have:=TO.at_ bm z
  rw[b3] at this;cases this;cases b6
 have bma:bm≠a:=λz=>by rw[z,ha] at b3;cases b3;cases b6
 have go
  : ∀Hs:Option HO,(Hs=none\/∃o xs,Hs=some (.frz o (.lst xs)))->(∀u,Hs=some u->ObjOk Pr w (λ_=>none) s1.heap a u)->(Hs≠none->K.lookup a=none)->(∀H:Hp,H a=Hs->SqL K H a (ns.map V.int))->
  codeAny (model Pr w) callerA (.call (.ref fa) ⟨[.ref a],[]⟩) (λr s'=>r=.ok (.ret (.bool true))/\OldK s1.heap s'.heap/\s'.os=s1.os/\AllBare s'.gens) s1:=by
  intro Hs h1 h2 h3 h4;obtain⟨H,eH⟩:∃H:Hp,H=λb=>if b=a then Hs else if b∈ts then some (.tbl #[]) else if b=bm/\K.lookup bm=none then some (.frz ob (.ext λ_=>True)) else none:=⟨_,rfl⟩
  have Ha:H a=Hs:=by rw[eH];exact if_pos rfl
  have Ht:∀P∈ts,H P=some (.tbl #[]):=λP hP=>by rw[eH];show (if P=a then _ else _)=_;rw[if_neg (λz=>ant (by rw[<- z];exact hP)),if_pos hP]
  have Hb:K.lookup bm=none->H bm=some (.frz ob (.ext λ_=>True)):=λq=>by rw[eH];show (if bm=a then _ else _)=_;rw[if_neg bma,if_neg bmt,if_pos ⟨rfl,q⟩]
  have Hn
   : ∀b,H b≠none->(b=a/\Hs≠none)\/b∈ts\/(b=bm/\K.lookup bm=none):=λb n=>by
   by_cases q:b=a
   .exact .inl ⟨q,by rw[<- Ha,<- q];exact n⟩
   .by_cases q2:b∈ts
    .exact .inr (.inl q2)
    .by_cases q3:b=bm/\K.lookup bm=none
     .exact .inr (.inr q3)
     .refine absurd ?_ n;rw[eH];show (if b=a then _ else _)=_;rw[if_neg q,if_neg q2,if_neg q3]
  have hO:Ez H:=λb=>by
   by_cases n:H b=none
   .exact .inl n
   .rcases Hn b n with ⟨e,n2⟩ |e |⟨e,y⟩
    .rw[e,Ha];rcases h1 with z |⟨o,xs,z⟩
     .exact absurd z n2
     .exact .inr (.inl ⟨_,_,z⟩)
    .exact .inr (.inr (Ht b e))
    .rw[e];exact .inr (.inl ⟨_,_,Hb y⟩)
  have hok:HOk Pr w H s1.heap:=λb u e=>by
   rcases Hn b (by rw[e];simp) with ⟨z,n2⟩ |z |⟨z,y⟩
   .subst z;rw[Ha] at e;have q:=h2 u e;rcases h1 with y |⟨o,xs,y⟩
    .exact absurd y n2
    .rw[e] at y;cases y;exact q
   .have y:=Ht b z;rw[e] at y;cases y;exact TO.at_ b z
   .subst z;rw[Hb y] at e;cases e;exact⟨b3,trivial,⟨ob,b3⟩,λ_ _ _ _=>trivial⟩
  have keep:∀{b:Addr}{o:Obj},s1.heap.get? b=some o->H b=none->(fL s1.heap H).get? b=some o:=λe n=>uz e n;have noD:∀{b:Addr}{o:Obj}{es:Array DictEntry}{ep:Nat},s1.heap.get? b=some o->o.data=.dict es ep->H b=none:=λ{b o es ep} e dd=>by
   by_cases n:H b=none
   .exact n
   .rcases Hn b n with ⟨z,_⟩ |z |⟨z,_⟩
    .subst z;rw[ha] at e;cases e;cases dd
    .rw[TO.at_ b z] at e;cases e;cases dd
    .subst z;rw[b3] at e;cases e;rw[b6] at dd;cases dd
  have nsK:∀{b:Addr}{m:Qt},s1.heap.Ns b m->(fL s1.heap H).Ns b m:=λ{b m} ⟨o,es,ep,e,dd,r⟩=>⟨o,es,ep,keep e (noD e dd),dd,r⟩;have kb:K.In (fL s1.heap H):=λb o e=>keep (KX b o e) (by
   by_cases n:H b=none
   .exact n
   .rcases Hn b n with ⟨z,y⟩ |z |⟨z,y⟩
    .subst z
     have:=h3 y
     rw[e] at this;cases this
    .have:=TO.no b z
     rw[e] at this;cases this
    .subst z;rw[e] at y;cases y)
  have hM:Mod K mg (fL s1.heap H):=⟨kb,nsK hns,⟨mb,nsK hb,hbb⟩,let ⟨mc,q1,q2⟩:=hlim;⟨mc,nsK q1,q2⟩⟩;have e0:Env0 Pr w K mg (fL s1.heap H) callerA [] s1 H:=⟨rfl,hM,λb o e=>vx e,Nat.le_of_eq (pA _ _),trivial,λb z=>absurd (show b∈([]:List Addr) from z) (by simp),hok,.of_eq hg⟩;refine PJ ((F _ kb (nsK hns)).run callerA [] s1 H ⟨[.ref a],[]⟩ [.ref a] [.ref a] (λv _=>v=.bl true) (λ_ _ _=>False) hr e0 (hbind s1 (.ref a)) (.cons rfl .nil) ⟨a,ns,rfl,hO,h4 H Ha,hl,Ht,?bm,λ_=>rfl⟩) λr s' h=>?_
  case bm=>
   refine⟨bm,ob,b1,b2,bmG,⟨b4,b5,b6⟩,?_⟩;cases q:K.lookup bm with
   |none=>exact .inr ⟨_,Hb q⟩
   |
    some o=>
    have:=KX bm o q
    rw[b3] at this;cases this;exact .inl rfl
  cases r with
  |error e=>obtain⟨_,_,_,_,_,_,_,z⟩:=h;exact z.2.2.elim
  |
   ok fl=>
   cases fl with
   |next=>exact False.elim h
   |brk=>exact False.elim h
   |cont=>exact False.elim h
   |
    ret u=>
    obtain⟨v,H',os,bare,un,hok',r',q⟩:=h;have q':v=.bl true:=q;subst q';obtain rfl:u=Value.bool true:=r';refine⟨rfl,⟨λb o e=>?_,λb o e=>?_⟩,os,bare⟩
    .by_cases n:H b=none
     .exact .inl (un.keep b o e n (λz=>absurd (show b∈([]:List Addr) from z) (by simp)) (by simp))
     .have fz:∀ob xs,H b=some (.frz ob xs)->asItWas s1.heap s'.heap b o:=λob xs y=>by have y2:=un.frzs b ob _ y;obtain⟨e1,_⟩:=hok b _ y;obtain⟨e2,_⟩:=hok' b _ y2;rw[e] at e1;cases e1;exact .inl e2
      rcases Hn b n with ⟨z,n2⟩ |z |⟨z,y⟩
      .rcases h1 with y |⟨ob,xs,y⟩
       .exact absurd y n2
       .exact fz _ _ (by rw[z,Ha];exact y)
      .obtain⟨more,y⟩:=un.tbls b #[] (Ht b z);obtain⟨c,hc⟩:=TO.cd b z;have tab:=(W.codeHd_of_K KX hc).tab (TO.at_ b z);have e2:=TO.at_ b z;rw[e] at e2;cases e2;exact .inr (.inl ⟨tab.isCodeTable,rfl,#[],more,rfl,hok' b _ y⟩)
      .exact fz _ _ (by rw[z];exact Hb y)
    .exact un.there b o e (by simp)
 cases hk:K.lookup a with
 |some o=>have e:=KX a o hk;rw[ha] at e;cases e;exact go none (.inl rfl) (λu z=>nomatch z) (λz=>absurd rfl z) λH _=>.inr ⟨_,vs.toArray,_,hk,rfl,rfl,rfl,by rw[x_,hi.length];exact hz,by simpa using rv⟩
 |none=>exact go (some (.frz { cls:=.type "list",data:=.seq vs.toArray } (.lst (ns.map V.int)))) (.inr ⟨_,_,rfl⟩) (λu z=>by cases z;exact⟨ha,by rw[o_];exact hz,vs,_,rv,ha⟩) (λ_=>hk) λH e=>.inl (.inr ⟨_,e⟩)
def walk_lawT{l:W.OpenLaw}{q:Program}{loose:List Str}{XP:(Str->Option Value)->Heap->Prop}{YP:World->Heap->Prop}{d:DefRec}{K:Params->W.Frag}{x:Str}{k:Nat}{ts:List Addr}(hn:l.most=some 63)(hdf:d.params.defaults=[])(hr:Room k callerA)
 (hY:∀(w:World) (h:Heap),YP w h->(K w.params).In h/\TabsOk (K w.params) ts h)
 (F:∀(w:World) (mg:Qt) (h:Heap),(K w.params).In h->h.Ns mainGlobals mg->∀base:Heap,(K w.params).In base->base.Ns mainGlobals mg->Callee l.prog w (K w.params) mg base d.name k [x] (spT (K w.params) mg ts))
 (Dd:∀(w:World) (mg:Qt) (h:Heap),(K w.params).In h->h.Ns mainGlobals mg->∃st,Def (K w.params) mg d.name st/\∀(kV doc pm:Value) (an:Option Addr) (cdv ct:Value) (us:List Value),us.length=1->bindArgs (W.fnOf d.name d.name (cI st) (bq st) (au st) .none kV doc pm an cdv ct) ⟨us,[]⟩=pure ([x].zip us)):
 W.WalkO q loose XP YP l.row.toRowW d [] (λf vs=>PySem.call f vs):=by
 refine Att.attach_call hn hdf λw s0 s1 mg mb fa o pm cd doc a vs ns G Y ho hd j_ hmg hobj hints a_ hg=>?_;obtain⟨KX,TO⟩:=hY w _ Y;obtain⟨st,De,hbind⟩:=Dd w mg _ KX G.T.g;obtain⟨f,fd,Ff,m⟩:=De.ex;have e:=hmg.symm.trans m;cases e;obtain⟨oc,od,kV,doc',pm',an,cdv,ct,osl,rfl,lk,hcd'⟩:=Ff.ex;refine Nw KX G.T.g G.T.b G.T.builtins G.T.nolimit hg TO G.T.bmain hobj hints a_ hr (λbase kb nb=>?_) (λs u=>.of_eq (hbind kV doc' pm' an cdv ct [u] rfl));obtain⟨f',fd',F',m',kp',b',oc',od',osl',lk'⟩:=(F w mg _ KX G.T.g base kb nb).ex;rw[m] at m';cases m';rw[lk] at lk';cases lk';exact F'
noncomputable def bJ (x y:Int×Int):Bool:=decide (x.1<y.1\/(x.1=y.1/\x.2<y.2))
def sr(x:Int×Int):bJ x x=false:=by unfold bJ;rw[OF];omega
def vb{x y z:Int×Int}(h1:bJ x y=true)(h2:bJ y z=true):bJ x z=true:=by unfold bJ at *;rw[Ow] at *;omega
def rX{x y:Int×Int}(h:x≠y):bJ x y=true\/bJ y x=true:=by unfold bJ;rw[Ow,Ow];have:¬ (x.1=y.1/\x.2=y.2):=λz=>h (Prod.ext z.1 z.2);omega
def vN{α:Type}(d:α)(ks:List α):((List.range ks.length).map λi=>ks.getD i d)=ks:=List.ext_getElem (by simp) λi _ h=>by simp [h]
def zZ{x y:Int×Int}(h1:bJ x y=true):bJ y x=false:=by
 cases z:bJ y x with
 |false=>rfl
 |true=>have:=vb h1 z;rw[sr] at this;cases this
def FH{α:Type}{k:α->Int×Int}{a b:List α}(h:a.Pairwise λx y=>bJ (k x) (k y)=true)(h':b.Pairwise λx y=>bJ (k x) (k y)=true)(p:a.Perm b):a=b:=p.eq_of_pairwise (λx y _ _ h1 h2=>by rw[zZ h1] at h2;cases h2) h h'
def MC{α:Type}(k:α->Int×Int)(hk:∀{x y},k x=k y->x=y){l:List α}(nd:l.Nodup):(l.mergeSort λx y=>!bJ (k y) (k x)).Pairwise λx y=>bJ (k x) (k y)=true:=by
 have srt:=List.pairwise_mergeSort (le:=λx y:α=>!bJ (k y) (k x)) (λa b c h1 h2=>by
  simp only[bJ,O_,OF] at *;omega) (λa b=>by
  simp only[bJ,OS,O_,OF];omega) l
 refine List.Pairwise.imp (λ{a b} h=>?_) (List.Pairwise.and ((List.mergeSort_perm ..).nodup_iff.mpr nd) srt)
 have:=h.2
 simp only[O_] at this;exact (rX λy=>h.1 (hk y)).resolve_right (by rw[this];exact Bool.noConfusion)
noncomputable def ltP (ks:List (Int×Int)) (i j:Nat):Bool:=bJ (ks.getD i (0,0)) (ks.getD j (0,0))
def JD{ks:List (Int×Int)}(nd:ks.Nodup):LtO (ltP ks) ks.length where
 irr:=λi=>sr _
 tr:=λi j k h1 h2=>vb h1 h2
 tot:=λi j hi hj hne=>by
  refine rX ?_;rw[L_,L_,B_ hi,B_ hj];show ks[i]≠ks[j];rcases Nat.lt_or_gt_of_ne hne with z |z
  .exact Ox.mp nd i j hi hj z
  .exact λy=>Ox.mp nd j i hj hi z y.symm
def Fj{ks:List (Int×Int)}{n:Nat}{p:Array Nat}(h1:p.toList.Perm (List.range n))(h2:UpTo (ltP ks) p n):p.toList.Pairwise λi j=>bJ (ks.getD i (0,0)) (ks.getD j (0,0))=true:=by
 have sz:=(PmO.of h1).sz;rw[Ox];intro i j hi hj hij;rw[NZ] at hi hj
 have:=h2 i j hij (by omega)
 rw[eX,eX,Pq hi,Pq hj] at this;exact this
def TupAt(h:Heap)(v:Value)(x:Int×Int):Prop:=∃(a:Addr) (e:Nat) (dd:Option Addr) (sl:Array (Option Value)) (t1 t2:Tok),v=.ref a/\h.get? a=some { cls:=.type "tuple",dict:=dd,data:=.seq #[.int x.1 t1,.int x.2 t2] e,slots:=sl }
def TupAt.keep{h h':Heap}{v:Value}{x:Int×Int}{b:Addr}(t:TupAt h v x)(hb:∃o,h.get? b=some o/\o.cls=.type "list")(k:∀c o,c≠b->h.get? c=some o->h'.get? c=some o):TupAt h' v x:=by obtain⟨a,e,dd,sl,t1,t2,rfl,ha⟩:=t;obtain⟨o,ho,hc⟩:=hb;exact⟨a,e,dd,sl,t1,t2,rfl,k a _ (λz=>by rw[z,ho] at ha;cases ha;injection hc with hc;exact absurd hc (by decide)) ha⟩
def TupAt.mono{h h':Heap}{v:Value}{x:Int×Int}(t:TupAt h v x)(k:∀c o,h.get? c=some o->h'.get? c=some o):TupAt h' v x:=by obtain⟨a,e,dd,sl,t1,t2,rfl,ha⟩:=t;exact⟨a,e,dd,sl,t1,t2,rfl,k a _ ha⟩
section
variable{prog:Program}{w:World}{A:Around}{E:Qv}{s:Shared}
def Gk{v u:Value}{x y:Int×Int}{Q:Bool->Shared->Prop}(hv:TupAt s.heap v x)(hu:TupAt s.heap u y)(h:Q (bJ x y) s):wpAny (model prog w) A (keyLt' (tuples' true) v u) Q E s:=by
 obtain⟨a,e,dd,sl,t1,t2,rfl,ha⟩:=hv;obtain⟨b,e',dd',sl',t3,t4,rfl,hb⟩:=hu;refine kat_lt ha rfl hb rfl ?_;show KatLex prog w A true false Q [(.int x.1 t1,.int y.1 t3),(.int x.2 t2,.int y.2 t4)] 0 s;refine kat_cons (wpAny_eqBool_int ?_);by_cases h1:x.1=y.1
 .rw[show (x.1==y.1)=true from NO.mpr h1];refine kat_yes (kat_cons (wpAny_eqBool_int ?_));by_cases h2:x.2=y.2
  .rw[show (x.2==y.2)=true from NO.mpr h2];refine kat_yes (kat_nil ?_);rw[show bJ x y=false from by unfold bJ;rw[OF];omega] at h;exact h
  .rw[show (x.2==y.2)=false from J_.mpr h2];refine kat_no (kat_one _ _ (lt_int ?_));rw[show bJ x y=decide (x.2<y.2) from P6.mpr (by omega)] at h;exact h
 .rw[show (x.1==y.1)=false from J_.mpr h1];refine kat_no (oneLt_int ?_);rw[show bJ x y=decide (x.1<y.1) from P6.mpr (by omega)] at h;exact h
def TupsAt(h:Heap):List Value->List (Int×Int)->Prop
 | [],[]=>True
 |v::vs,x::xs=>TupAt h v x/\TupsAt h vs xs
 |_,_=>False
theorem TupsAt.len{h:Heap}:∀{vs:List Value}{xs:List (Int×Int)},TupsAt h vs xs->vs.length=xs.length
 | [],[],_=>rfl
 | [],_::_,t=>t.elim
 |_::_,[],t=>t.elim
 |_::_,_::_,t=>by rw[D_,D_,t.2.len]
theorem TupsAt.get{h:Heap}:∀{vs:List Value}{xs:List (Int×Int)} (i:Nat),TupsAt h vs xs->i<xs.length->TupAt h (vs.getD i Value.none) (xs.getD i (0,0))
 | [],[],i,_,hi=>absurd hi (by simp)
 | [],_::_,i,t,_=>t.elim
 |_::_,[],i,t,_=>t.elim
 |_::_,_::_,0,t,_=>t.1
 |_::vs,_::xs,i+1,t,hi=>TupsAt.get (vs:=vs) (xs:=xs) i t.2 (by simpa using hi)
theorem TupsAt.imp{h h':Heap}(k:∀v x,TupAt h v x->TupAt h' v x):∀{vs:List Value}{xs:List (Int×Int)},TupsAt h vs xs->TupsAt h' vs xs
 | [],[],_=>trivial
 | [],_::_,t=>t.elim
 |_::_,[],t=>t.elim
 |_::_,_::_,t=>⟨k _ _ t.1,t.2.imp k⟩
theorem TupsAt.snoc{h:Heap}{v:Value}{x:Int×Int}(tv:TupAt h v x):∀{vs:List Value}{xs:List (Int×Int)},TupsAt h vs xs->TupsAt h (vs++[v]) (xs++[x])
 | [],[],_=>⟨tv,trivial⟩
 | [],_::_,t=>t.elim
 |_::_,[],t=>t.elim
 |_::_,_::_,t=>⟨t.1,t.2.snoc tv⟩
theorem TupsAt.kat{h:Heap}:∀{vs:List Value}{xs:List (Int×Int)},TupsAt h vs xs->∃fs,KatTups h vs fs/\fs.length=xs.length/\∀f∈fs,∃i t,f=Value.int i t
 | [],[],_=>⟨[],trivial,rfl,λf z=>nomatch z⟩
 | [],_::_,t=>t.elim
 |_::_,[],t=>t.elim
 |
  _::_,x::_,t=>by
  obtain⟨fs,k,l,q⟩:=t.2.kat;obtain⟨a,e,dd,sl,t1,t2,rfl,ha⟩:=t.1;refine⟨.int x.1 t1::fs,⟨⟨a,_,_,_,rfl,ha,rfl,rfl,rfl⟩,k⟩,by rw[D_,D_,l],λf hf=>?_⟩;rcases F_.mp hf with rfl |hf
  .exact⟨_,_,rfl⟩
  .exact q f hf
def ym{vs:List Value}{xs:List (Int×Int)}{Q:SortKind->Shared->Prop}(t:TupsAt s.heap vs xs)(h2:2<=xs.length)(h:Q (tuples' true) s):wpAny (model prog w) A (keyKind' vs.toArray) Q E s:=by obtain⟨fs,k,l,q⟩:=t.kat;refine kat_kind (T:=.type "int") k (by omega) (λf hf=>?_) (by decide) h;obtain⟨i,t,rfl⟩:=q f hf;exact .now
def z9{vs:List Value}{xs:List (Int×Int)}(t:TupsAt s.heap vs xs):Ans (kas_ask prog w A (tuples' true) vs) (ltP xs) xs.length s:=λi j C hi hj c=>Gk (t.get i hi) (t.get j hj) c
def CM{β:Type}{vs ks:List Value}{xs:List (Int×Int)}{k:Unit×SortSt->Sem β}{P:β->Shared->Prop}(hkl:ks.length=vs.length)(h64:vs.length<64)(T:TupsAt s.heap ks xs)(nd:xs.Nodup)(h:∀(p:Array Nat) st',p.toList.Perm (List.range vs.length)->UpTo (ltP xs) p vs.length->(arrOf st').map (λp:Keyed=>p.2)=List.toArray (p.toList.map λi=>vs.getD i Value.none)->failedOf st'=none->wpAny (model prog w) A (k ((),st')) P E s):
 wpAny (model prog w) A (let f:=λκ=>(if vs.toArray.size<2 then pure () else sortRuns').run (SortSt.mk' κ (ks.toArray.zip vs.toArray) #[] 7 none) >>= k;if vs.toArray.size<2 then pure general' >>= f else keyKind' ks.toArray >>= f) P E s:=by
 dsimp only;have kl:=T.len;by_cases h2:vs.toArray.size<2
 .rw[if_pos h2,if_pos h2];rw[x_] at h2;refine n_ <| v_ ?_;rw[StateT.run_pure];refine n_ <| v_ (h (List.toArray (List.range vs.length)) _ (.refl _) (λi j hij hj=>by omega) ?_ rfl);show (ks.toArray.zip vs.toArray).map (λp:Keyed=>p.2)=List.toArray ((List.range vs.length).map _);rw[vN];apply Array.toList_inj.mp;rw[Array.toList_map,ksk_zip];exact List.map_snd_zip (by simp [hkl])
 .rw[if_neg h2,if_neg h2];rw[x_] at h2;refine n_ <| ym T (by omega) ?_;have an:=z9 (prog:=prog) (w:=w) (A:=A) T;have O:=JD nd;rw[<- kl,hkl] at an O;have run:=kat_run (prog:=prog) (w:=w) (A:=A) (E:=E) (κ:=tuples' true) (s:=s) (Q:=λst' s'=>s'=s/\wpAny (model prog w) A (k ((),st')) P E s) (G:=λp s'=>s'=s/\p.toList.Perm (List.range vs.length)/\UpTo (ltP xs) p vs.length) hkl (by omega) h64
   (λp st' s' a1 a2 a3 a4=>⟨a4.1,h p st' a4.2.1 a4.2.2 (kat_snds hkl a2) a3⟩) (GG O an (by omega) λp p1 p2=>⟨rfl,p1,p2⟩)
  refine n_ <| ND run ?_ λ_ _ z=>z;rintro⟨⟨⟩,st'⟩ _ ⟨rfl,z⟩;exact z
end
set_option maxHeartbeats 4000000
section
variable{prog:Program}{w:World}{A:Around}{E:Qv}{s:Shared}
def CZ{a kS:Addr}{st:SortSt}{out ks:List Value}{e e1:Nat}{P:PySem.Fin->Shared->Prop}(hk:s.heap.get? kS=some (seqObj "list" (List.toArray ks) e))(ha:s.heap.get? a=some (seqObj "list" #[] e1))(hne:kS≠a)(hout:(arrOf st).map (λp:Keyed=>p.2)=List.toArray out)(hf:failedOf st=none)(hz:out.length<64)(hkz:ks.length<64)
 (h:∀h' c,(∀b o,b≠kS->b≠a->s.heap.get? b=some o->h'.get? b=some o)->h'.get? a=some (seqObj "list" out.toArray c)->P (.done (.ret .none)) { s with heap:=h' }):wpAny (model prog w) A (ksk_tail a false e1 (.ref kS) st) P E s:=by
 have u1:=OH s.heap kS (Obj.mapSeq λ_=>(#[]:Array Value));have a1:=(u1.2 a hne.symm).trans ha;have u2:=OH (s.heap.update kS (Obj.mapSeq λ_=>(#[]:Array Value))) a (Obj.mapSeq λ_=>(arrOf st).map (·.2));obtain⟨c,hc⟩:∃c,((s.heap.update kS (Obj.mapSeq λ_=>(#[]:Array Value))).update a (Obj.mapSeq λ_=>(arrOf st).map (·.2))).get? a=some (seqObj "list" ((arrOf st).map (·.2)) c):=⟨_,get?_update_seq a1 λ_=>(arrOf st).map (·.2)⟩;have zs:((arrOf st).map (·.2)).size<64:=by rw[hout];exact hz
 have big:sizeLine=16777216:=rfl;unfold ksk_tail;try dsimp only
 refine n_ <| Qq hk rfl ?_ (by rw[x_];omega) (N3 _);refine n_ <| wpAny_letGo ?_;refine n_ <| seqEpoch_at a1 rfl ?_;refine n_ <| Qq a1 rfl ?_ (N3 _) (by show ((arrOf st).map (·.2)).size<=_;omega);rw[hf];simp only[bne_self_eq_false,ON,Pl];exact v_ (h _ c (λb o n1 n2 z=>(u2.2 b n2).trans ((u1.2 b n1).trans z)) (hc.trans (by rw[hout])))
def ER{a kS:Addr}{vs ks:List Value}{xs:List (Int×Int)}{e e1:Nat}{P:PySem.Fin->Shared->Prop}(hl:xs.length=vs.length)(h64:vs.length<64)(T:TupsAt s.heap ks xs)(nd:xs.Nodup)(hk:s.heap.get? kS=some (seqObj "list" (List.toArray ks) e))(ha:s.heap.get? a=some (seqObj "list" #[] e1))(hne:kS≠a)
 (h:∀(p:Array Nat) h' c,p.toList.Perm (List.range vs.length)->UpTo (ltP xs) p vs.length->(∀b o,b≠kS->b≠a->s.heap.get? b=some o->h'.get? b=some o)->h'.get? a=some (seqObj "list" (p.toList.map λi=>vs.getD i Value.none).toArray c)->P (.done (.ret .none)) { s with heap:=h' }):
 wpAny (model prog w) A (ksk_end a false vs.toArray e1 (.ref kS) ks.toArray) P E s:=by
 have hkl:ks.length=vs.length:=by rw[T.len,hl]
 unfold ksk_end;try dsimp only
 refine CM hkl h64 T nd λp st' p1 p2 out hf=>?_;exact CZ hk ha hne out hf (by rw[o_,p1.length_eq,A_];exact h64) (by omega) λh' c k z=>h p h' c p1 p2 k z
def B8{a:Addr}{f:Value}{vs:List Value}{n:Nat}{xs:List (Int×Int)}{P:PySem.Fin->Shared->Prop}(ho:s.heap.get? a=some (seqObj "list" vs.toArray n))(h64:vs.length<64)(hx:xs.length=vs.length)(nd:xs.Nodup)
 (hc:∀(i:Nat) (v:Value) (x:Int×Int) (h':Heap) (tk:Nat),vs[i]?=some v->xs[i]?=some x->(∀b o,b≠a->s.heap.get? b=some o->h'.get? b=some o)->wpAny (model prog w) A (call f [v]) (λk s2=>∃h2 tk2,s2={ s with heap:=h2,toks:=tk2 }/\(∀b o,h'.get? b=some o->h2.get? b=some o)/\TupAt h2 k x) (λ_ _=>False) { s with heap:=h',toks:=tk })
 (h:∀(p:Array Nat) h' c tk,p.toList.Perm (List.range vs.length)->UpTo (ltP xs) p vs.length->(∀b o,b≠a->s.heap.get? b=some o->h'.get? b=some o)->h'.get? a=some (seqObj "list" (p.toList.map λi=>vs.getD i Value.none).toArray c)->P (.done (.ret .none)) { s with heap:=h',toks:=tk }):
 wpAny (model prog w) A (ksk_tree a f false) P E s:=by
 have lt:=z_ ho;have u1:=OH s.heap a (Obj.mapSeq λ_=>(#[]:Array Value));obtain⟨e1,a1⟩:∃e1,(s.heap.update a (Obj.mapSeq λ_=>(#[]:Array Value))).get? a=some (seqObj "list" #[] e1):=⟨_,get?_update_seq ho λ_=>#[]⟩;have big:sizeLine=16777216:=rfl;unfold ksk_tree;refine n_ <| listItems_at ho rfl ?_;refine n_ <| Qq ho rfl ?_ (by rw[x_];omega) (N3 _);refine n_ <| seqEpoch_at a1 rfl ?_;refine n_ <| wpAny_newTuple ?_ (by show vs.length<=_;omega);refine n_ <| wpAny_newList ?_ (N3 _);refine Ot ?_;obtain⟨h3,e3⟩:∃h3,h3=((s.heap.update a (Obj.mapSeq λ_=>(#[]:Array Value))).push (seqObj "tuple" vs.toArray 0)).push (seqObj "list" #[] 0):=⟨_,rfl⟩;obtain⟨kS,ek⟩:∃kS,kS=((s.heap.update a (Obj.mapSeq λ_=>(#[]:Array Value))).push (seqObj "tuple" vs.toArray 0)).objs.size:=⟨_,rfl⟩;have hk0:h3.get? kS=some (seqObj "list" #[] 0):=by rw[e3,ek];exact Em _ rfl
 have ha0:h3.get? a=some (seqObj "list" #[] e1):=by rw[e3];exact p_ _ (p_ _ a1)
 have hlt:a<kS:=by rw[ek,size_push',Heap.size_update];exact Nat.lt_succ_of_lt lt
 have k0:∀b o,b≠a->s.heap.get? b=some o->b≠kS/\h3.get? b=some o:=λb o n z=>⟨λy=>by
  have:=z_ z
  rw[y,ek,size_push',Heap.size_update] at this;exact Od _ (Nat.lt_of_succ_lt this),by rw[e3];exact p_ _ (p_ _ ((u1.2 b n).trans z))⟩
 show wpAny (model prog w) A (ksk_rest a f false vs.toArray e1 (.ref ((s.heap.update a (Obj.mapSeq λ_=>(#[]:Array Value))).push (seqObj "tuple" vs.toArray 0)).objs.size)) P E { s with heap:=((s.heap.update a (Obj.mapSeq λ_=>(#[]:Array Value))).push (seqObj "tuple" vs.toArray 0)).push (seqObj "list" #[] 0) };rw[<- e3,<- ek];clear e3 ek;unfold ksk_rest;refine n_ <| Qh ?_;rw[List.forIn_toArray];refine n_ <| ksk_fold (λi s'=>∃h' tk ks e,s'={ s with heap:=h',toks:=tk }/\(∀b o,b≠kS->h3.get? b=some o->h'.get? b=some o)/\h'.get? kS=some (seqObj "list" (List.toArray ks) e)/\TupsAt h' ks (xs.take i)/\i<=vs.length) vs 0 _ ⟨h3,s.toks,[],0,rfl,λb o _ z=>z,hk0,by rw[List.take_zero];trivial,N3 _⟩ (λj v s' hv I=>?_) λs' I=>?_
 .rw[Nat.zero_add] at I ⊢;obtain⟨h',tk,ks,e,rfl,k,hk,T,hi⟩:=I;have hj:j<vs.length:=(w_.mp hv).1;have ex:xs[j]?=some (xs[j]'(by omega)):=B_ (by omega);have tl:=T.len;rw[N4] at tl;refine n_ <| PZ <| ND (hc j v _ h' tk hv ex λb o n z=>k b o (k0 b o n z).1 (k0 b o n z).2) (λkv s2 hq=>?_) λ_ _ z=>z.elim;obtain⟨h2,tk2,rfl,k2,tp⟩:=hq;have hk2:=k2 kS _ hk;have u2:=OH h2 kS (Obj.mapSeq (·.push kv));obtain⟨c2,hc2⟩:∃c2,(h2.update kS (Obj.mapSeq (·.push kv))).get? kS=some (seqObj "list" (List.toArray (ks++[kv])) c2):=⟨_,by rw[<- List.push_toArray];exact get?_update_seq hk2 (·.push kv)⟩;try dsimp only
  refine n_ <| Qq hk2 rfl ?_ (by rw[x_];omega) (by rw[Array.size_push,x_];omega);refine v_ ⟨rfl,_,tk2,ks++[kv],c2,rfl,λb o n z=>(u2.2 b n).trans (k2 b o (k b o n z)),hc2,?_,by omega⟩;have kp:∀v x,TupAt h2 v x->TupAt (h2.update kS (Obj.mapSeq (·.push kv))) v x:=λv x t=>t.keep (b:=kS) ⟨_,hk2,rfl⟩ λc o n z=>(u2.2 c n).trans z;rw[List.take_succ,ex];exact TupsAt.snoc (kp _ _ tp) ((T.imp λv x t=>t.mono k2).imp kp)
 .rw[Nat.zero_add] at I;obtain⟨h',tk,ks,e,rfl,k,hk,T,hi⟩:=I;rw[N5 (by omega)] at T;try dsimp only
  refine n_ <| listItems_at hk rfl ?_;exact ER hx h64 T nd hk (k a _ (K_ hlt) ha0) (Pe hlt) λp h2 c p1 p2 k2 z=>h p h2 c tk p1 p2 (λb o n y=>k2 b o (k0 b o n y).1 n (k b o (k0 b o n y).1 (k0 b o n y).2)) z
def EV{S r:Addr}{j:Int}{t u v:Tok}{n:Nat}{R:Result->Shared->Prop}(hh:A.handled=none)(hr:IsRange s.heap r 0 j 1 t u v)(i_:Builtin.Range.small 0 j 1=true)(hn:Builtin.Range.rangeSize 0 j 1=n)(a_:n<=2^24)(hS:s.heap.get? S=some (seqObj "list" #[] 0))
 (h:∀h' tk acc c,(∀b o,b≠S->s.heap.get? b=some o->h'.get? b=some o)->h'.get? S=some (seqObj "list" acc c)->ItemsOf (λi v=>∃t,v=.int (0+i*1) t) acc n->R (.ok (.ret (.ref S))) { s with heap:=h',toks:=tk }):codeAny (model prog w) A (.builtin "list.__iadd__" ⟨[.ref S,.ref r],[]⟩) R s:=by
 refine Qe entry_list_iadd' ?_;show wpAny (model prog w) A.in1 (Builtin.List.listExtendWith (.ref S) (.ref r) (.ref S)) _ _ s;exact wpAny_extend_range hh hr i_ hn a_ S _ 0 hS h
def mM{r:Addr}{j:Int}{t u v:Tok}{n:Nat}{Q:List Value->Shared->Prop}(hh:A.handled=none)(hr:IsRange s.heap r 0 j 1 t u v)(i_:Builtin.Range.small 0 j 1=true)(hn:Builtin.Range.rangeSize 0 j 1=n)(a_:n<=2^24)
 (h:∀h' tk (vs:List Value),s.heap.objs.size<=h'.objs.size->(∀b o,s.heap.get? b=some o->h'.get? b=some o)->vs.length=n->(∀(i:Nat) x,vs[i]?=some x->∃t,x=.int (i:Nat) t)->Q vs { s with heap:=h',toks:=tk }):wpAny (model prog w) A (collect (.ref r)) Q E s:=by
 unfold collect;refine n_ <| wpAny_runValue <| Qe entry_proto_collect' ?_;show wpAny _ _ (do again (.builtin "list.__iadd__" ⟨[<- newList [],.ref r],[]⟩)) _ _ s;have hS:(s.heap.push (seqObj "list" #[] 0)).get? s.heap.objs.size=some (seqObj "list" #[] 0):=Em _ rfl;refine n_ <| wpAny_newList <| v_ ⟨Code.quiet_builtin _ (by decide),EV (s:={ s with heap:=s.heap.push (seqObj "list" #[] 0) }) hh (p_ _ hr) i_ hn a_ hS λh' tk acc c k z it=>?_⟩;show wpAny (model prog w) A (do
  let o <- load s.heap.objs.size
  match o.data with
  |.seq xs _=>pure xs.toList
  |_=>unsupported "internal:collect") Q E { s with heap:=h',toks:=tk }
 refine n_ <| wpAny_load z ?_;refine v_ (h h' tk acc.toList (Pd (z_ z)) (λb o y=>k b o (K_ (z_ y)) (p_ _ y)) (by rw[NZ];exact it.1) λi x y=>?_);obtain⟨t,e⟩:=it.2 i x (by simpa using y);exact⟨t,by rw[e];congr 1;omega⟩
end
abbrev fC(p:Pos):Arguments:=⟨[],[⟨"number",none,p⟩],none,[],[],none,[]⟩
abbrev bD:Scope:={ kind:=.function,names:=[("number",.local),("weights",.free)],isGenerator:=false,isCoroutine:=false,more:=[] }
abbrev eQ(p1 p2 p3 p4 p5 p6:Pos):Expr:=.Tuple [.UnaryOp .USub (.Subscript (.Name "weights" p1) (.Name "number" p2) p3) p4,.Name "number" p5] 0 p6
section
variable{prog:Program}{w:World}{A:Around}{s:Shared}
def E1{f c' cell a:Addr}{q:Str}{pm ctv:Value}{its:Array Value}{ws:List Int}{p0 p1 p2 p3 p4 p5 p6:Pos}{i:Nat}{t:Tok}
 (hroom:A.depth<recursionLimit) (ho:s.heap.get? f=some (kla_obj "<lambda>" q (fC p0) (eQ p1 p2 p3 p4 p5 p6) bD [("weights",cell)] pm c' ctv)) (j_:s.heap.CodeRec (.ref c') q) (hlim:s.heap.NoLimit) (m_:s.heap.IsCell cell (some (.ref a))) (hl:s.heap.IsList a its) (hw:Vals (ws.map V.int) its.toList) (hi:i<ws.length) (hz:ws.length<64):
 wpAny (model prog w) A (call (.ref f) [.int (i:Nat) t]) (λk s2=>∃h2 tk2,s2={ s with heap:=h2,toks:=tk2 }/\(∀b o,s.heap.get? b=some o->h2.get? b=some o)/\TupAt h2 k (-(ws.getD i 0),(i:Nat))) (λ_ _=>False) s:=by
 refine wpAny_call ?_;refine kla_callFunE hroom ho rfl rfl rfl rfl j_ ?_;rw[show bindArgs (kla_fn "<lambda>" q (fC p0) (eQ p1 p2 p3 p4 p5 p6) bD [("weights",cell)] pm (.ref c') ctv) ⟨[Value.int (i:Nat) t],[]⟩=(pure [(("number" : Str),Value.int (i:Nat) t)]:Sem (List (Str×Value))) from by with_unfolding_all rfl];refine v_ (wpAny_newFunctionEnv (show ∀x∈bD.names,x.2 ≠ .cell by decide) (by intro y hy;rw[NJ] at hy;subst hy;rfl) (λh1 hns hsb=>⟨hlim.fresh _ hsb,?_⟩) rfl);show codeAny _ _ (.expr (eQ p1 p2 p3 p4 p5 p6) (envX q bD s.heap.objs.size f (.ref c') [("weights",cell)])) _ _;have k1:∀b o,s.heap.get? b=some o->h1.get? b=some o:=λb o e=>hsb.extBut b o (K_ (z_ e)) (p_ _ e);have hc1:h1.IsCell cell (some (.ref a)):=by obtain⟨o,e,d⟩:=m_;exact⟨o,k1 _ _ e,d⟩
 have hl1:h1.IsList a its:=by obtain⟨o,e,d⟩:=hl;exact⟨o,k1 _ _ e,d⟩
 refine kla_codeExpr ?_;refine wpAny_Tuple_spliced ?_;obtain⟨u,eu,ru⟩:=hw.get (i:=i) (x:=V.int (ws.getD i 0)) (by rw[NB,B_ hi,L_,B_ hi];rfl);obtain⟨tx,rfl⟩:=ru;have ei:its[((i:Nat):Int).toNat]?=some (.int (ws.getD i 0) tx):=by rw[NS,<- Array.getElem?_toList];exact eu
 have nm:∀(pp:Pos) (s':Shared) (Q:Qv) (E':Qv),s'.heap=h1->Q (.int (i:Nat) t) s'->wpAny (model prog w) (A.deeper (envX q bD s.heap.objs.size f (.ref c') [("weights",cell)])) (eval (.Name "number" pp) (envX q bD s.heap.objs.size f (.ref c') [("weights",cell)])) Q E' s':=λpp s' Q E' e hq=>
  wpAny_Name (Qg rfl rfl (by rw[e];exact hns) rfl hq) (by decide)
 show wpAny _ _ (spliced ((false,eval (.UnaryOp .USub (.Subscript (.Name "weights" p1) (.Name "number" p2) p3) p4) (envX q bD s.heap.objs.size f (.ref c') [("weights",cell)]))::backTo p6 (starEach [.Name "number" p5] (envX q bD s.heap.objs.size f (.ref c') [("weights",cell)])))) _ _ _;refine OO ?_;refine UnaryOp_ ?_;refine Subscript_ ?_;refine wpAny_Name (wpAny_loadName_free rfl rfl rfl hc1 ?_) (by decide);refine nm p2 _ _ _ rfl ?_;refine item_listR hl1 (by omega) (by omega) ei ?_;refine neg_int ?_;show wpAny _ _ (spliced ((false,eval (.Name "number" p5) (envX q bD s.heap.objs.size f (.ref c') [("weights",cell)]))::[])) _ _ _;refine OO ?_;refine nm p5 _ _ _ rfl ?_;refine Pa ?_;refine⟨show 2<=sizeLine by decide,_,_,rfl,λb o e=>p_ _ (k1 b o e),h1.objs.size,0,none,#[],_,t,rfl,Em _ rfl⟩
end
section
variable{prog:Program}{w:World}{A:Around}{E:Qv}{s:Shared}
def xK{r f:Addr}{j:Int}{t u v:Tok}{n:Nat}{xs:List (Int×Int)}{Q:Qv}(hh:A.handled=none)(hr:IsRange s.heap r 0 j 1 t u v)(i_:Builtin.Range.small 0 j 1=true)(hn:Builtin.Range.rangeSize 0 j 1=n)(h64:n<64)(hx:xs.length=n)(nd:xs.Nodup)
 (hc:∀(i:Nat) (x:Int×Int) (tt:Tok) (h':Heap) (tk:Nat),xs[i]?=some x->(∀b o,s.heap.get? b=some o->h'.get? b=some o)->wpAny (model prog w) A.in1.in1 (call (.ref f) [.int (i:Nat) tt]) (λk s2=>∃h2 tk2,s2={ s with heap:=h2,toks:=tk2 }/\(∀b o,h'.get? b=some o->h2.get? b=some o)/\TupAt h2 k x) (λ_ _=>False) { s with heap:=h',toks:=tk })
 (h:∀(p:Array Nat) (h':Heap) (D:Addr) (c tk:Nat) (out:List Value),p.toList.Perm (List.range n)->UpTo (ltP xs) p n->s.heap.objs.size<=D->(∀b o,s.heap.get? b=some o->h'.get? b=some o)->h'.get? D=some (seqObj "list" out.toArray c)->Vals (p.toList.map λi:Nat=>V.int (i:Nat)) out->Q (.ref D) { s with heap:=h',toks:=tk }):
 wpAny (model prog w) A (call (.builtin "sorted") [.ref r] [(Str.ofString "key",.ref f)]) Q E s:=by
 refine call_function_entry_kw kind_sorted plain_sorted entry_sorted (ksk_s1 _ _) ?_;unfold Builtin.«sorted»;refine n_ (m:=checkCount "sorted" 1 1 _) <| v_ ?_;refine n_ <| mM (A:=A.in1) hh hr i_ hn (by omega) λh1 tk1 vs sz k1 lv iv=>?_;have big:sizeLine=16777216:=rfl;refine n_ <| wpAny_newList ?_ (by omega);have hoL:(h1.push (seqObj "list" vs.toArray 0)).get? h1.objs.size=some (seqObj "list" vs.toArray 0):=Em _ rfl;have kL:∀b o,s.heap.get? b=some o->b≠h1.objs.size/\(h1.push (seqObj "list" vs.toArray 0)).get? b=some o:=λb o e=>⟨K_ (z_ (k1 b o e)),p_ _ (k1 b o e)⟩;refine n_ <| Ot <| wpAny_call_entry_kw slot_list_sort ⟨_,hoL,rfl⟩ entry_list_sort ?body (ksk_l1 _ _)
 case body=>
  show wpAny (model prog w) A.in1.in1 (Builtin.«list.sort» ⟨[.ref h1.objs.size],[(Str.ofString "key",.ref f)]⟩) _ _ { s with heap:=h1.push (seqObj "list" vs.toArray 0),toks:=tk1 };rw[ksk_t1];refine B8 (s:={ s with heap:=h1.push (seqObj "list" vs.toArray 0),toks:=tk1 }) (xs:=xs) hoL (by omega) (by omega) nd (λi v x h' tk e1 e2 k=>?_) λp h' c tk p1 p2 k z=>?_
  .obtain⟨tt,rfl⟩:=iv i v e1;exact hc i x tt h' tk e2 λb o e=>k b o (kL b o e).1 (kL b o e).2
  .rw[lv] at p1 p2;refine⟨_,rfl,v_ ⟨_,rfl,h p h' h1.objs.size c tk _ p1 p2 sz (λb o e=>k b o (kL b o e).1 (kL b o e).2) z ?_⟩⟩;have all:∀i∈p.toList,i<n:=λi hi=>NM.mp (p1.mem_iff.mp hi);clear z p1 p2;generalize p.toList=l at all;induction l with
   |nil=>exact .nil
   |cons i l ih=>refine .cons ?_ (ih λk hk=>all k (q_ _ hk));have hi:=all i (s_ ..);obtain⟨tt,e⟩:=iv i (vs.getD i Value.none) (by rw[L_,B_ (by omega)];rfl);exact⟨tt,e⟩
end
section
variable{X:Cx}{pins:Qu}{σ:St}{H:Hp}{s:Shared}{h':Heap}
def Inv.tabled{P c':Addr}{q:Str}{ps more:Array Value}{t':Nat}(I:Inv X pins σ H s)(hP:H P=some (.tbl ps))(hx:Heap.ExtBut P s.heap h')(hc:s.heap.objs.size<=c')(hrec:h'.CodeRec (.ref c') q)(htab:h'.get? P=some (tabObj (ps++more))):
 Inv X pins σ (upd (upd H P (.tbl (ps++more))) c' (.ext (gd c' q))) { s with heap:=h',toks:=t' }:=by
 have hcn:H c'=none:=I.hok.fresh hc;have nPc:P≠c':=b8 hP hcn;have at_:∀b,b≠P->b≠c'->upd (upd H P (.tbl (ps++more))) c' (.ext (gd c' q)) b=H b:=λb n1 n2=>by rw[aK n2,aK n1]
 have atP:upd (upd H P (.tbl (ps++more))) c' (.ext (gd c' q)) P=some (.tbl (ps++more)):=by rw[aK nPc,aO]
 have nP:∀b,H b=none->b≠P:=λb n z=>by rw[z,hP] at n;cases n
 have ol:∀b o,s.heap.get? b=some o->b≠c':=λb o e=>K_ (I_ (z_ e) hc);have tr:∀b u,H b=some u->b≠c':=λb u e=>b8 e hcn;refine I.un ⟨λb o e n _ _=>hx b o (nP b n) e,λb o e n _ _=>⟨o.slots,hx b o (nP b n) e⟩,λb o e n _=>by rw[at_ b (nP b n) (ol b o e)];exact n,λb o e _=>?_,λb ys e=>?_,λb o u e=>?_,λb qs e=>?_⟩ λb u e=>?_
 .by_cases z:b=P
  .exact⟨_,by rw[z];exact htab⟩
  .exact⟨o,hx b o z e⟩
 .rw[at_ b (λz=>by rw[z,hP] at e;cases e) (tr b _ e)];exact e
 .rw[at_ b (λz=>by rw[z,hP] at e;cases e) (tr b _ e)];exact e
 .by_cases z:b=P
  .subst z;rw[hP] at e;cases e;exact⟨more,atP⟩
  .exact⟨#[],by rw[at_ b z (tr b _ e),e];simp⟩
 .by_cases z:b=c'
  .subst z;rw[aO] at e;cases e;obtain⟨c,o,vs,t,e1,e2,e3⟩:=hrec;cases e1;refine⟨⟨_,o,vs,t,rfl,e2,e3⟩,⟨o,e2⟩,λh1 h2 q1 k=>?_⟩;obtain⟨c,o,vs,t,e1,e2,e3⟩:=q1;cases e1;exact⟨_,o,vs,t,rfl,k o e2,e3⟩
  .by_cases y:b=P
   .subst y;rw[atP] at e;cases e;exact htab
   .rw[at_ b y z] at e;refine (I.hok b u e).stay (λc v hc' r=>hx c v ?_ r) (λc r=>?_) λc ys r=>?_
    .rcases hc' with rfl |r
     .exact y
     .intro z';rw[z',hP] at r;cases r
    .rw[at_ c (λz'=>by rw[z',hP] at r;cases r) (tr c _ r)];exact r
    .rw[at_ c (λz'=>by rw[z',hP] at r;cases r) (tr c _ r)];exact r
end
noncomputable def kyF (ws:List Int) (i:Nat):Int×Int:=(-(ws.getD i 0),(i:Int))
noncomputable def ju (ws:List Int):List (Int×Int):=(List.range ws.length).map (kyF ws)
noncomputable def aZ (ws:List Int):List Nat:=(List.range ws.length).mergeSort λi j=>!bJ (kyF ws j) (kyF ws i)
structure FallO(ws:List Int)(l:List Nat):Prop where
 perm:l.Perm (List.range ws.length)
 up:l.Pairwise λi j=>bJ (kyF ws i) (kyF ws j)=true
def vQ{ws:List Int}{i j:Nat}(h:kyF ws i=kyF ws j):i=j:=by
 have:=NR Prod.snd h
 have:((i:Nat):Int)=(j:Nat):=this;omega
def Gd(ws:List Int):(ju ws).Nodup:=by unfold ju;refine List.pairwise_map.mpr (List.Pairwise.imp (λ{a b} h z=>h (vQ z)) P4)
def c9(ws:List Int):FallO ws (aZ ws):=⟨List.mergeSort_perm ..,MC (kyF ws) vQ P4⟩
def FallO.eq{ws:List Int}{l:List Nat}(h:FallO ws l):l=aZ ws:=FH h.up (c9 ws).up (h.perm.trans (c9 ws).perm.symm)
def Fw{ws:List Int}{p:Array Nat}(h1:p.toList.Perm (List.range ws.length))(h2:UpTo (ltP (ju ws)) p ws.length):p.toList=aZ ws:=by
 refine FallO.eq ⟨h1,List.Pairwise.imp_of_mem (λ{i j} hi hj h=>?_) (Fj h1 h2)⟩;have g:∀k∈p.toList,(ju ws).getD k (0,0)=kyF ws k:=λk hk=>by unfold ju;rw[L_,NB,List.getElem?_range (NM.mp (h1.mem_iff.mp hk))];rfl
 rw[g i hi,g j hj] at h;exact h
section
variable{X:Cx}{iW:Nat}{ta:TA}{c P:Addr}{a:Expr}{q1 q2 q6 q7 q8 q9 p0 p1 p2 p3 p4 p5 p6:Pos}
def xI(H H2:Hp)(P:Addr)(q:Str)(ps:Array Value)(pos:Pos):Prop:=H2=H\/∃c',H c'=none/\codeAmong pos ps.toList=none/\H2=upd (upd H P (.tbl (ps++#[rawInt pos.line,rawInt pos.col,.ref c']))) c' (.ext (gd c' q))
def yd(K:W.Frag)(mg:Qt)(P:Addr)(q:Str)(pos:Pos)(vW:Option (Option V)):List V->Hp->VK->Prop:=λvs H Q=>∃(b:Addr) (ws:List Int) (ps:Array Value),vs=[.int (ws.length:Nat)]/\vW=some (some (.ref b))/\SqL K H b (ws.map V.int)/\ws.length<64/\H P=some (.tbl ps)/\TriplesOk ps.toList/\(∀ps' cv,codeAmong ps' ps.toList=some cv->∃c,cv=.ref c/\H c=some (.ext (gd c q)))/\sG K mg H/\
 ∀H2 l,xI H H2 P q ps pos->H2 l=none->Q (.ref l) (upd H2 l (.lst ((aZ ws).map λi:Nat=>V.int (i:Nat))))
def MK(K:W.Frag)(mg:Qt)(iW:Nat)(P:Addr)(q:Str)(pos:Pos)(ta:TA):TE:=λσ H Q=>ta σ H λvs H1=>yd K mg P q pos σ[iW]? vs H1 Q
def EI(hc:X.calm=true)(hdp:X.A.depth<recursionLimit)(hl:Gl X "sorted")(hml:X.mg "sorted"=none)(hg:Gl X "range")(hm:X.mg "range"=none)(ha:PA X [a] ta)(hN:X.N[iW]?=some "weights")(hv:X.env.scope.names.lookup ("weights" : Str)=some .cell)(j_:X.env.code=.ref c)(hh:codeHdIn X.K c P=true)(hs:starEach [a] X.env=[(false,eval a X.env)]:=by rfl):
 PE X (.Call (.Name "sorted" q1) [.Call (.Name "range" q2) [a] [] q6] [⟨some "key",.Lambda (fC p0) (eQ p1 p2 p3 p4 p5 p6) bD q7,q8⟩] q9) (MK X.K X.mg iW P (X.env.qual ++ "<lambda>") q7 ta):=by
 intro pins s σ H Q I h;refine NX (cX I hl hml (show bootBuiltins "sorted"=some (.builtin "sorted") from rfl) ?_ (by decide) (by decide));refine callWith_kw ?_ rfl rfl rfl rfl;show wpAny _ _ (spliced ((false,eval (.Call (.Name "range" q2) [a] [] q6) X.env)::[])) _ _ s;refine OO ?_;refine NX (cX I hg hm (show bootBuiltins "range"=some (.type "range") from rfl) ?_ (by decide) (by decide));refine NL (thn (ha q6 pins s σ H _ I h) λus s1 zz=>exA zz λvs H1 I1 r1 z1=>?_) hs rfl;obtain⟨b,ws,ps,e,ew,hq,hn,hP,htr,hcs,hB,q⟩:=z1;subst e;cases r1 with
 |
  cons r rr=>
  cases rr;obtain⟨t,rfl⟩:=r;refine call_range_1 (Pa ?_);have I2:Inv X pins σ H1 { s1 with heap:=s1.heap.push { cls:=.type "range",data:=.fields #[.int 0 s1.toks,.int (ws.length:Nat) t,.int 1 (s1.toks+1)] },toks:=s1.toks+1+1 }:=I1.kept λb o e=>p_ _ e;have hr2:IsRange (s1.heap.push { cls:=.type "range",data:=.fields #[.int 0 s1.toks,.int (ws.length:Nat) t,.int 1 (s1.toks+1)] }) s1.heap.objs.size 0 (ws.length:Nat) 1 s1.toks t (s1.toks+1):=Qm ..;generalize s1.heap.push { cls:=.type "range",data:=.fields #[.int 0 s1.toks,.int (ws.length:Nat) t,.int 1 (s1.toks+1)] }=h2 at I2 hr2 ⊢;generalize s1.heap.objs.size=r at hr2 ⊢;have hk:X.env.kindOf "weights"=some .cell:=hv;obtain⟨m,hns,hloc⟩:=I2.loc;obtain⟨u,ru,lk⟩:=hloc iW "weights" (.ref b) hN ew (.inr (.inl hv));obtain rfl:u=.ref b:=ru;obtain⟨cell,ec,m_⟩:∃cell,X.env.cells.lookup ("weights" : Str)=some cell/\h2.IsCell cell (some (.ref b)):=by
   rcases lk with ⟨z,_⟩ |⟨_,cl,z1,z2⟩
   .rw[hk] at z;cases z
   .exact⟨cl,z1,z2⟩
  have clo:closureFor bD X.env=(pure [(("weights" : Str),cell)]:Sem (List (Str×Addr))):=by simp [closureFor,cellOf,ec]
  obtain⟨its,rv,pl,hz⟩:=I2.list hq;have f_:∀(H2:Hp) (s3:Shared) (f c':Addr) (pm ctv:Value),xI H1 H2 P (X.env.qual ++ "<lambda>") ps q7->Inv X pins σ H2 s3->(∀b o,b≠P->h2.get? b=some o->s3.heap.get? b=some o)->s3.heap.get? f=some (kla_obj "<lambda>" (X.env.qual ++ "<lambda>") (fC p0) (eQ p1 p2 p3 p4 p5 p6) bD [("weights",cell)] pm c' ctv)->s3.heap.CodeRec (.ref c') (X.env.qual ++ "<lambda>")->
   wpAny (model X.prog X.w) X.A (call (.builtin "sorted") [.ref r] [(Str.ofString "key",.ref f)]) (EP X pins σ Q) X.xe s3:=by
   intro H2 s3 f c' pm ctv G3 I3 k3 hf hrec;have nP:∀{b:Addr}{o:Obj},h2.get? b=some o->o.cls ≠ .none->b≠P:=λ{b o} e n z=>by have:h2.get? P=some { cls:=.none,data:=.fields ps }:=I2.hok P _ hP;rw[z,this] at e;cases e;exact n rfl
   have hr3:IsRange s3.heap r 0 (ws.length:Nat) 1 s1.toks t (s1.toks+1):=k3 _ _ (nP hr2 (λz=>nomatch z)) hr2;refine xK (n:=ws.length) (xs:=ju ws) (I.ok.hd hc) hr3 (small_one (by omega) (by omega) (by omega) (by omega)) (by rw[Qr];split <;> omega) hn (by unfold ju;rw[o_,A_]) (Gd ws) (λi x tt h' tk ex k=>?_) λp h' D c tk out pp up sz k z vz=>?_
   .have hi:i<ws.length:=by
     have:=(w_.mp ex).1
     unfold ju at this;rw[o_,A_] at this;exact this
    obtain rfl:x=(-(ws.getD i 0),((i:Nat):Int)):=by unfold ju at ex;rw[NB,List.getElem?_range hi] at ex;cases ex;rfl
    have hcell':h'.IsCell cell (some (.ref b)):=by obtain⟨o,e1,e2⟩:=m_;refine⟨o,k _ _ (k3 _ _ (λz=>?_) e1),e2⟩;have:h2.get? P=some { cls:=.none,data:=.fields ps }:=I2.hok P _ hP;rw[z,this] at e1;cases e1;cases e2
    have hl':h'.IsList b its.toArray:=by obtain⟨o,e1,e2⟩:=pl.isList;exact⟨o,k _ _ (k3 _ _ (nP e1 (by rw[e2.1];intro z;cases z)) e1),e2⟩
    exact E1 (s:={ s3 with heap:=h',toks:=tk }) hdp (k _ _ hf) (by obtain⟨c2,o,vs,tq,e1,e2,e3⟩:=hrec;exact⟨c2,o,vs,tq,e1,k _ _ e2,e3⟩) (I3.nolimit.keeps k) hcell' hl' (by simpa using rv) hi hn
   .rw[Fw pp up] at vz;have big:sizeLine=16777216:=rfl;have ln:((aZ ws).map λi:Nat=>V.int (i:Nat)).length<=sizeLine:=by rw[o_,(c9 ws).perm.length_eq,A_];omega
    exact⟨.ref D,_,I3.laid (t':=tk) k sz (show ObjOk X.prog X.w _ h' _ (.lst _) from ⟨ln,out,c,vz,z⟩),rfl,q H2 D G3 (I3.hok.fresh sz)⟩
  have tabP:h2.get? P=some { cls:=.none,data:=.fields ps }:=I2.hok P _ hP;have glb:h2.Ns mainGlobals X.mg:=I2.mod.glob.keeps I2.bk;have gP:mainGlobals≠P:=λz=>by obtain⟨o,es,ep,e,d,_⟩:=glb;rw[z,tabP] at e;cases e;cases d
  have bAt:h2.BuiltinsAt X.mg P:=by
   obtain⟨bm,o,y1,y2,y3,⟨y4,y5,y6⟩,y7⟩:=hB;have y8:h2.get? bm=some o:=by
    rcases y7 with z |⟨u,z⟩
    .exact I2.kIn bm o z
    .exact (I2.hok bm _ z).1
   exact⟨bm,o,y1,y2,y3,(λz=>by rw[z,tabP] at y8;cases y8;cases y6),y8,y4,y5,y6⟩
  have CH:=codeHd_of_K I2.kIn hh;have lam:wpAny (model X.prog X.w) X.A (eval (.Lambda (fC p0) (eQ p1 p2 p3 p4 p5 p6) bD q7) X.env) (λv s3=>∃f,v=.ref f/\wpAny (model X.prog X.w) X.A (call (.builtin "sorted") [.ref r] [(Str.ofString "key",.ref f)]) (EP X pins σ Q) X.xe s3) X.xe { s1 with heap:=h2,toks:=s1.toks+1+1 }:=by
   refine kla_eval rfl ?_;cases am:codeAmong q7 ps.toList with
   |
    none=>
    refine kla_makeFunction (mg:=X.mg) clo I.ok.glob glb j_ CH tabP htr am gP bAt λc' ctv h' tk hx hge hlt hrec htb=>?_;have hrec':(h'.push (kla_obj "<lambda>" (X.env.qual ++ "<lambda>") (fC p0) (eQ p1 p2 p3 p4 p5 p6) bD [("weights",cell)] ((X.mg "__name__").getD .none) c' ctv)).CodeRec (.ref c') (X.env.qual ++ "<lambda>"):=by obtain⟨c2,o,vs,tq,e1,e2,e3⟩:=hrec;exact⟨c2,o,vs,tq,e1,p_ _ e2,e3⟩
    exact⟨_,rfl,f_ _ _ _ c' _ ctv (.inr ⟨c',I2.hok.fresh hge,am,rfl⟩) (I2.tabled (t':=tk) hP (λb o n e=>p_ _ (hx b o n e)) hge hrec' (p_ _ htb)) (λb o n e=>p_ _ (hx b o n e)) (Em _ rfl) hrec'⟩
   |some cv=>obtain⟨c',rfl,hc'⟩:=hcs q7 cv am;refine kla_makeFunctionHit (mg:=X.mg) clo I.ok.glob glb j_ CH tabP htr am bAt λctv h' tk k hsz=>?_;obtain⟨c2,o,vs,tq,e1,e2,e3⟩:h2.CodeRec (.ref c') (X.env.qual ++ "<lambda>"):=(I2.hok c' _ hc').1;exact⟨_,rfl,f_ _ _ _ c' _ ctv (.inl rfl) (I2.kept (t':=tk) λb o e=>p_ _ (k b o e)) (λb o n e=>p_ _ (k b o e)) (Em _ rfl) ⟨c2,o,vs,tq,e1,p_ _ (k _ _ e2),e3⟩⟩
  show wpAny _ _ (do
   let v <- (do let v <- eval (.Lambda (fC p0) (eQ p1 p2 p3 p4 p5 p6) bD q7) X.env;standAt q9;pure v)
   return v::(<- holding [v] (evalAll []))) _ _ _
  refine n_ <| n_ <| ND lam (λv s3 hv3=>?_) λ_ _ z=>z;obtain⟨f,rfl,hv3⟩:=hv3;exact n_ (O5 (v_ (n_ (Ot (v_ (v_ hv3))))))
end
section
variable{K:W.Frag}{mg:Qt}{h:AH}
def LamT.one{P P':Addr}{q q':Str}(a:LamT K mg P q)(b:LamT K mg P' q'):q=q':=by
 obtain⟨x,f,oc,od,fd,sl,c,a1,a2,a3,a4,a5,a6,rfl⟩:=a;obtain⟨y,f',oc',od',fd',sl',c',b1,b2,b3,b4,b5,b6,rfl⟩:=b;have e:x=y:=by
  by_cases z:x=y
  .exact z
  .have:=a2 y b1 λw=>z w.symm
   rw[b3] at this;cases this
 subst e;rw[a3] at b3;cases b3;rw[a4] at b4;cases b4;rfl
def yc{pos:Pos}{a b:Int}{c cv:Value}(l:List Value)(h:TriplesOk l)(e:codeAmong pos (l++[rawInt a,rawInt b,c])=some cv):codeAmong pos l=some cv\/cv=c:=by
 fun_induction TriplesOk l with
 |
  case1=>
  simp only[NK,codeAmong,rawInt] at e;split at e
  .cases e;exact .inr rfl
  .cases e
 |
  case2 a' t b' u x dC ih=>
  simp only[P0,codeAmong] at e ⊢;split at e
  .rename_i z;rw[if_pos z];exact .inl e
  .rename_i z;rw[if_neg z];exact ih h e
 |case3 l h1 h2=>exact h.elim
end
section
variable{prog:Program}{w:World}{A:Around}{E:Qv}{s:Shared}
def Cr{r:Addr}{j:Int}{t u v:Tok}{n:Nat}{Q:Qv}(hh:A.handled=none)(hr:IsRange s.heap r 0 j 1 t u v)(i_:Builtin.Range.small 0 j 1=true)(hn:Builtin.Range.rangeSize 0 j 1=n)(a_:n<=2^24)
 (h:∀(h':Heap) (tk:Nat) (vs:List Value),s.heap.objs.size<=h'.objs.size->(∀b o,s.heap.get? b=some o->h'.get? b=some o)->vs.length=n->(∀(i:Nat) x,vs[i]?=some x->∃t,x=.int (i:Nat) t)->Q (.ref h'.objs.size) { s with heap:=h'.push { cls:=.type "tuple",data:=.seq vs.toArray },toks:=tk }):
 codeAny (model prog w) A (.call (.builtin "tuple.__new__") ⟨[.type "tuple",.ref r],[]⟩) (wants Q E) s:=by
 refine codeAny_of_tree ?_;show wpAny _ A.in1 (do checkBuiltinCall "tuple.__new__" ⟨[.type "tuple",.ref r],[]⟩;again (.builtin "tuple.__new__" ⟨[.type "tuple",.ref r],[]⟩)) _ _ s;refine n_ <| wpAny_of_eq (F.newCall_tuple_1 _) <| v_ ⟨plainId_quiet F.plain_tuple_new _,Qe F.entry_tuple_new ?_⟩;rw[Around.under_plainId F.plain_tuple_new _];have hsub:=sub_tuple_self;have hinit:=init_tuple_lookup;have hmh:=madeHere_tuple;have hTI:s.TypeIs (.ref r) "range":=⟨_,hr,rfl⟩
 wp_walk using wpAny_typeOf hTI,mM (A:=A.in1) hh hr i_ hn a_
 intro h' tk vs sz k lv iv;show wpAny _ _ (Builtin.Tuple.tupleExact vs.toArray >>= λv=>ret v) _ _ _;unfold Builtin.Tuple.tupleExact;have big:sizeLine=16777216:=rfl;refine n_ <| N6 ?_ (by show vs.length<=_;omega);exact v_ (h h' tk vs sz k lv iv)
def Du{r:Addr}{j:Int}{t u v:Tok}{n:Nat}{Q:Qv}(hh:A.handled=none)(hr:IsRange s.heap r 0 j 1 t u v)(i_:Builtin.Range.small 0 j 1=true)(hn:Builtin.Range.rangeSize 0 j 1=n)(a_:n<=2^24)
 (h:∀(h':Heap) (tk:Nat) (vs:List Value),s.heap.objs.size<=h'.objs.size->(∀b o,s.heap.get? b=some o->h'.get? b=some o)->vs.length=n->(∀(i:Nat) x,vs[i]?=some x->∃t,x=.int (i:Nat) t)->Q (.ref h'.objs.size) { s with heap:=h'.push { cls:=.type "tuple",data:=.seq vs.toArray },toks:=tk }):
 wpAny (model prog w) A (call (.type "tuple") [.ref r]) Q E s:=by
 refine callType_codes (Q₁:=λobj s₁=>s₁.TypeIs obj "tuple" /\ Q obj s₁) F.called_tuple (F.typeCall_tuple_1 _) F.entry_object_init (Cr hh hr i_ hn a_ λh' tk vs sz k lv iv=>⟨⟨_,Em _ rfl,rfl⟩,h h' tk vs sz k lv iv⟩) λobj s₁ h₁=>?_;exact⟨h₁.1,F.args_object_init_2 obj _,object_init_meets F.called_tuple.init.lookup F.called_tuple.made (by decide) prog w A.in1 _ s₁ ⟨h₁.1,rfl,h₁.2⟩⟩
end
section
variable{X:Cx}{mg:Qt}{a:Expr}{ta:TA}{pos q2 p1 p2:Pos}
def rTrg:List V->Hp->VK->Prop:=λxs H Q=>∃j:Int,xs=[.int j]/\0<=j/\j<=1000000/\∀l,H l=none->Q (.ref l) (upd H l (.tup (iI j)))
theorem sf:∀{vs:List Value} (i0:Nat),(∀(i:Nat) x,vs[i]?=some x->∃t,x=.int ((i0+i:Nat):Int) t)->Vals ((List.range' i0 vs.length).map λi:Nat=>V.int (i:Nat)) vs
 | [],_,_=>.nil
 |
  v::vs,i0,h=>by
  rw[D_,List.range'_succ,y_];refine .cons ?_ (sf (i0+1) λi x e=>?_)
  .obtain⟨t,e⟩:=h 0 v rfl;exact⟨t,by rw[e];rfl⟩
  .obtain⟨t,e'⟩:=h (i+1) x (by simpa using e);exact⟨t,by rw[e'];congr 1;omega⟩
def JB(hc:X.calm=true)(hl:Gl X "tuple")(hml:X.mg "tuple"=none)(hg:Gl X "range")(hm:X.mg "range"=none)(ha:PA X [a] ta)(hs:starEach [a] X.env=[(false,eval a X.env)])
 (hs1:starEach [.Call (.Name "range" p2) [a] [] q2] X.env=[(false,eval (.Call (.Name "range" p2) [a] [] q2) X.env)]):
 PE X (.Call (.Name "tuple" p1) [.Call (.Name "range" p2) [a] [] q2] [] pos) (tCB rTrg ta):=by
 intro pins s σ H Q I h;refine NX (cX I hl hml (show bootBuiltins "tuple"=some (.type "tuple") from rfl) ?_ (by decide) (by decide));refine NL ?_ hs1 rfl;rw[hs1];show wpAny _ _ (spliced ((false,eval (.Call (.Name "range" p2) [a] [] q2) X.env)::[])) _ _ s;refine OO ?_;refine NX (cX I hg hm (show bootBuiltins "range"=some (.type "range") from rfl) ?_ (by decide) (by decide));refine NL (thn (ha q2 pins s σ H _ I h) λus s1 zz=>exA zz λvs H1 I1 r1 z1=>?_) hs rfl;obtain⟨j,e,h1,h2,q⟩:=z1;subst e;cases r1 with
 |
  cons r rr=>
  cases rr;obtain⟨t,rfl⟩:=r;refine call_range_1 (Pa ?_);have I2:Inv X pins σ H1 { s1 with heap:=s1.heap.push { cls:=.type "range",data:=.fields #[.int 0 s1.toks,.int j t,.int 1 (s1.toks+1)] },toks:=s1.toks+1+1 }:=I1.kept λb o e=>p_ _ e;refine Du (I.ok.hd hc) (Qm ..) (small_one (by omega) (by omega) (by omega) (by omega)) (n:=j.toNat) (by rw[Qr];split <;> omega) (by omega) λh' tk vs sz k lv iv=>?_;have rv:Vals (iI j) vs:=by
   have:=sf (vs:=vs) 0 λi x e=>by obtain⟨t,e'⟩:=iv i x e;exact⟨t,by rw[e'];congr 1;omega⟩
   rw[lv,<- List.range_eq_range'] at this;exact this
  have hz:(iI j).length<=sizeLine:=by unfold iI;rw[o_,A_];have:sizeLine=16777216:=rfl;omega
  exact⟨.ref _,_,I2.laid (t':=tk) (a:=h'.objs.size) (λb o e=>p_ _ (k b o e)) sz (show ObjOk X.prog X.w _ _ _ (.tup (iI j)) from ⟨hz,vs,rv,⟨_,Em _ rfl,rfl,_,rfl⟩⟩),rfl,q _ (I2.hok.fresh sz)⟩
end
noncomputable def ltS (x y:Str):Bool:=decide (x.cps.toList<y.cps.toList)
end L2
namespace L3
open PySem PySem.Spec PyProof.Rows L2
set_option genInjectivity true in
inductive Val where
 |non |bl (b:Bool) |int (i:Int) |str (x:Str) |ty (n:String) |glb (x:Str) |exc (x:Str)
 |tup (xs:List Val) |lst (xs:List Val) |kl (xs:List Val) |dct (kvs:List (Key×Val)) |set (xs:List Int)
 deriving Inhabited
abbrev St:=L2.St
structure LeH(H H':Hp):Prop where
 tup:∀b xs,H b=some (.tup xs)->H' b=some (.tup xs)
 frz:∀b o u,H b=some (.frz o u)->H' b=some (.frz o u)
 ext:∀b φ,H b=some (.ext φ)->H' b=some (.ext φ)
def LeH.refl:LeH H H:=⟨λ_ _ e=>e,λ_ _ _ e=>e,λ_ _ e=>e⟩
def LeH.trans(a:LeH H H1)(b:LeH H1 H2):LeH H H2:=⟨λx y e=>b.tup x y (a.tup x y e),λx y z e=>b.frz x y z (a.frz x y z e),λx y e=>b.ext x y (a.ext x y e)⟩
def Gr(H H':Hp):Prop:=∀a o,H a=some o->H' a=some o
def Gr.le(g:Gr H H'):LeH H H':=⟨λ_ _=>g _ _,λ_ _ _=>g _ _,λ_ _=>g _ _⟩
def Gr.refl:Gr H H:=λ_ _ e=>e
def Gr.upd(h:H p=none):Gr H (upd H p u):=λa o e=>by rw[aK (b8 e h)];exact e
def Gr.none(g:Gr H H')(h:H' a=none):H a=none:=by
 cases q:H a with
 |none=>rfl
 |some o=>rw[g a o q] at h;cases h
def LeH.sqT{K:W.Frag}(l:LeH H H')(q:SqT K H a xs):SqT K H' a xs:=by
 rcases q with (q |⟨o,q⟩) |q
 .exact .inl (.inl (l.tup _ _ q))
 .exact .inl (.inr ⟨o,l.frz _ _ _ q⟩)
 .exact .inr q
section
variable(K:W.Frag)(mg:Qt)
def KlR(a:Addr)(vs:List V):Prop:=∃(o:Obj) (its:Array Value) (n:Nat),K.lookup a=some o/\o.cls=.type "list" /\ o.dict=none/\o.data=.seq its n/\its.size<=sizeLine/\Vals vs its.toList
mutual
inductive Rd(P:Addr->Prop)(H:Hp):V->Val->Prop where
 |non:Rd P H .non .non
 |bl (b:Bool):Rd P H (.bl b) (.bl b)
 |int (i:Int):Rd P H (.int i) (.int i)
 |str (x:Str):Rd P H (.str x) (.str x)
 |ty (n:String):Rd P H (.ty n) (.ty n)
 |glb {x:Str}{a:Addr} (m:mg x=some (.ref a)):Rd P H (.ref a) (.glb x)
 |exc {x:Str}{a C:Addr} (m:mg x=some (.ref C)) (e:H a=some (.ext (lN a C))):Rd P H (.ref a) (.exc x)
 |tup {p:Addr}{vs:List V}{us:List Val} (h:SqT K H p vs) (r:Rds P H vs us):Rd P H (.ref p) (.tup us)
 |kl {a:Addr}{vs:List V}{us:List Val} (h:KlR K a vs) (r:Rds P H vs us):Rd P H (.ref a) (.kl us)
 |cell {a:Addr}{o:HO}{v:Val} (p:P a) (e:H a=some o) (r:Rc P H o v):Rd P H (.ref a) v
inductive Rc(P:Addr->Prop)(H:Hp):HO->Val->Prop where
 |lst {vs:List V}{us:List Val} (r:Rds P H vs us):Rc P H (.lst vs) (.lst us)
 |fz {o:Obj}{vs:List V}{us:List Val} (r:Rds P H vs us):Rc P H (.frz o (.lst vs)) (.kl us)
 |dct {ws:List (Key×V)}{us:List (Key×Val)} (r:Rk P H ws us):Rc P H (.dK ws) (.dct us)
 |set (xs:List Int) (nd:xs.Nodup):Rc P H (.set (λi=>decide (i∈xs)) xs.length) (.set xs)
inductive Rds(P:Addr->Prop)(H:Hp):List V->List Val->Prop where
 |nil:Rds P H [] []
 |cons {d:V}{v:Val}{ds:List V}{vs:List Val} (r:Rd P H d v) (rr:Rds P H ds vs):Rds P H (d::ds) (v::vs)
inductive Rk(P:Addr->Prop)(H:Hp):List (Key×V)->List (Key×Val)->Prop where
 |nil:Rk P H [] []
 |cons {k:Key}{d:V}{v:Val}{ds:List (Key×V)}{vs:List (Key×Val)} (r:Rd P H d v) (rr:Rk P H ds vs):Rk P H ((k,d)::ds) ((k,v)::vs)
end
end
def nO(o:HO):Prop:=∀ps,o ≠ .tbl ps
structure Mov(P P':Addr->Prop)(H H':Hp):Prop where
 le:LeH H H'
 cl:∀a o,P a->H a=some o->nO o->P' a/\H' a=some o
def Gr.mov(g:Gr H H'):Mov P P H H':=⟨g.le,λa o p e _=>⟨p,g a o e⟩⟩
def Mov.of(h:∀a,P a->P' a):Mov P P' H H:=⟨.refl,λa o p e _=>⟨h a p,e⟩⟩
section
variable{K:W.Frag}{mg:Qt}{P P':Addr->Prop}{H H':Hp}
def Rc.nt(r:Rc K mg P H o v):nO o:=by cases r <;> exact λ_ z=>nomatch z
def Rd.mono(m:Mov P P' H H')(r:Rd K mg P H d v):Rd K mg P' H' d v:=@Rd.rec K mg P H (λd v _=>Rd K mg P' H' d v) (λo v _=>Rc K mg P' H' o v) (λds vs _=>Rds K mg P' H' ds vs) (λws us _=>Rk K mg P' H' ws us) .non (λb=>.bl b) (λi=>.int i) (λx=>.str x) (λn=>.ty n) (λe=>.glb e) (λq e=>.exc q (m.le.ext _ _ e)) (λh _ ih=>.tup (m.le.sqT h) ih) (λh _ ih=>.kl h ih) (λp e r ih=>.cell (m.cl _ _ p e r.nt).1 (m.cl _ _ p e r.nt).2 ih) (λ_ ih=>.lst ih) (λ_ ih=>.fz ih) (λ_ ih=>.dct ih) (λxs nd=>.set xs nd) .nil (λ_ _ a b=>.cons a b) .nil (λ_ _ a b=>.cons a b) d v r
def Rds.ind{M:List V->List Val->Prop}(h0:M [] [])(h1:∀{d v ds vs},Rd K mg P H d v->Rds K mg P H ds vs->M ds vs->M (d::ds) (v::vs)){ds:List V}{vs:List Val}(r:Rds K mg P H ds vs):M ds vs:=by
 induction ds generalizing vs with
 |nil=>cases r;exact h0
 |
  cons d ds ih=>
  cases r with
  |cons r rr=>exact h1 r rr (ih rr)
def Rk.ind{M:List (Key×V)->List (Key×Val)->Prop}(h0:M [] [])(h1:∀{k d v ds vs},Rd K mg P H d v->Rk K mg P H ds vs->M ds vs->M ((k,d)::ds) ((k,v)::vs)){ds:List (Key×V)}{vs:List (Key×Val)}(r:Rk K mg P H ds vs):M ds vs:=by
 induction ds generalizing vs with
 |nil=>cases r;exact h0
 |
  cons d ds ih=>
  cases r with
  |cons r rr=>exact h1 r rr (ih rr)
def Rds.mono(m:Mov P P' H H'){d:List V}{v:List Val}(r:Rds K mg P H d v):Rds K mg P' H' d v:=r.ind .nil λr _ ih=>.cons (r.mono m) ih
def Rk.mono(m:Mov P P' H H'){d:List (Key×V)}{v:List (Key×Val)}(r:Rk K mg P H d v):Rk K mg P' H' d v:=r.ind .nil λr _ ih=>.cons (r.mono m) ih
def Rc.mono(m:Mov P P' H H')(r:Rc K mg P H d v):Rc K mg P' H' d v:=by
 cases r with
 |lst r=>exact .lst (r.mono m)
 |fz r=>exact .fz (r.mono m)
 |dct r=>exact .dct (r.mono m)
 |set xs nd=>exact .set xs nd
def Rds.len{ds:List V}{vs:List Val}(r:Rds K mg P H ds vs):ds.length=vs.length:=r.ind (M:=λds vs=>ds.length=vs.length) rfl λ_ _ ih=>NR (· + 1) ih
def Rds.get{ds:List V}{vs:List Val}{i:Nat}{v:Val}(r:Rds K mg P H ds vs)(e:vs[i]?=some v):∃d,ds[i]?=some d/\Rd K mg P H d v:=
 r.ind (M:=λds vs=>∀i,vs[i]?=some v->∃d,ds[i]?=some d/\Rd K mg P H d v) (λ_ e=>by rw[List.getElem?_nil] at e;cases e) (λr _ ih i e=>match i,e with
  |0,e=>by cases e;exact⟨_,rfl,r⟩
  |i+1,e=>ih i e) i e
def Rds.append{ds es:List V}{vs ws:List Val}(r:Rds K mg P H ds vs)(q:Rds K mg P H es ws):Rds K mg P H (ds++es) (vs++ws):=r.ind (M:=λds vs=>Rds K mg P H (ds++es) (vs++ws)) q λr _ ih=>.cons r ih
def Rds.take{ds:List V}{vs:List Val}(n:Nat)(r:Rds K mg P H ds vs):Rds K mg P H (ds.take n) (vs.take n):=
 r.ind (M:=λds vs=>∀n:Nat,Rds K mg P H (ds.take n) (vs.take n)) (λn=>by rw[PX,PX];exact .nil) (λr _ ih n=>by cases n with |zero=>exact .nil |succ n=>exact .cons r (ih n)) n
def Rds.drop{ds:List V}{vs:List Val}(n:Nat)(r:Rds K mg P H ds vs):Rds K mg P H (ds.drop n) (vs.drop n):=
 r.ind (M:=λds vs=>∀n:Nat,Rds K mg P H (ds.drop n) (vs.drop n)) (λn=>by rw[Qo,Qo];exact .nil) (λr rr ih n=>by cases n with |zero=>exact .cons r rr |succ n=>exact ih n) n
def Rds.set{d:V}{v:Val}(r:Rd K mg P H d v){ds:List V}{vs:List Val}(i:Nat)(q:Rds K mg P H ds vs):Rds K mg P H (ds.set i d) (vs.set i v):=
 q.ind (M:=λds vs=>∀i:Nat,Rds K mg P H (ds.set i d) (vs.set i v)) (λ_=>.nil) (λq qq ih i=>by cases i with |zero=>exact .cons r qq |succ i=>exact .cons q (ih i)) i
theorem Rds.rep(r:Rds K mg P H xs vs):∀n:Nat,Rds K mg P H (List.replicate n xs).flatten (List.replicate n vs).flatten
 |0=>.nil
 |
  n+1=>by
  rw[NU,NU,Om,Om];exact r.append (Rds.rep r n)
def ShR(K:W.Frag)(mg:Qt)(P:Addr->Prop)(H:Hp)(d:V)(v:Val):Prop:=Rd K mg P H d v\/∃a o,d=.ref a/\H a=some o/\Rc K mg P H o v
inductive ShRs(K:W.Frag)(mg:Qt)(P:Addr->Prop)(H:Hp):List V->List Val->Prop where
 |nil:ShRs K mg P H [] []
 |cons {d:V}{v:Val}{ds:List V}{vs:List Val} (r:ShR K mg P H d v) (rr:ShRs K mg P H ds vs):ShRs K mg P H (d::ds) (v::vs)
def ShR.mono(m:Mov P P' H H')(g:Gr H H')(r:ShR K mg P H d v):ShR K mg P' H' d v:=by
 rcases r with r |⟨a,o,rfl,e,r⟩
 .exact .inl (r.mono m)
 .exact .inr ⟨a,o,rfl,g a o e,r.mono m⟩
def ShR.int(r:ShR K mg P H d (.int i)):d=.int i:=by
 rcases r with r |⟨n,o,rfl,e,r⟩
 .cases r with
  |int=>rfl
  |cell p e r=>cases r
 .cases r
def ShR.str(r:ShR K mg P H d (.str i)):d=.str i:=by
 rcases r with r |⟨n,o,rfl,e,r⟩
 .cases r with
  |str=>rfl
  |cell p e r=>cases r
 .cases r
def ShR.bl(r:ShR K mg P H d (.bl i)):d=.bl i:=by
 rcases r with r |⟨n,o,rfl,e,r⟩
 .cases r with
  |bl=>rfl
  |cell p e r=>cases r
 .cases r
def ShR.non(r:ShR K mg P H d .non):d=.non:=by
 rcases r with r |⟨n,o,rfl,e,r⟩
 .cases r with
  |non=>rfl
  |cell p e r=>cases r
 .cases r
def ShR.exc(r:ShR K mg P H d (.exc x)):∃a C,d=.ref a/\mg x=some (.ref C)/\H a=some (.ext (lN a C)):=by
 rcases r with r |⟨n,o,rfl,e,r⟩
 .cases r with
  |exc m e=>exact⟨_,_,rfl,m,e⟩
  |cell p e r=>cases r
 .cases r
def ShR.ty(r:ShR K mg P H d (.ty x)):d=.ty x:=by
 rcases r with r |⟨n,o,rfl,e,r⟩
 .cases r with
  |ty=>rfl
  |cell p e r=>cases r
 .cases r
def ShR.glb(r:ShR K mg P H d (.glb x)):∃a,d=.ref a/\mg x=some (.ref a):=by
 rcases r with r |⟨n,o,rfl,e,r⟩
 .cases r with
  |glb m=>exact⟨_,rfl,m⟩
  |cell p e r=>cases r
 .cases r
def ShR.tup(r:ShR K mg P H d (.tup us)):∃p vs,d=.ref p/\SqT K H p vs/\Rds K mg P H vs us:=by
 rcases r with r |⟨n,o,rfl,e,r⟩
 .cases r with
  |tup h r=>exact⟨_,_,rfl,h,r⟩
  |cell p e r=>cases r
 .cases r
def ShR.lst(r:ShR K mg P H d (.lst us)):∃a vs,d=.ref a/\H a=some (.lst vs)/\Rds K mg P H vs us:=by
 rcases r with r |⟨n,o,rfl,e,r⟩
 .cases r with
  |cell p e r=>cases r with |lst r=>exact⟨_,_,rfl,e,r⟩
 .cases r with |lst r=>exact⟨_,_,rfl,e,r⟩
def ShR.set(r:ShR K mg P H d (.set xs)):∃a,d=.ref a/\xs.Nodup/\H a=some (.set (λi=>decide (i∈xs)) xs.length):=by
 rcases r with r |⟨n,o,rfl,e,r⟩
 .cases r with
  |cell p e r=>cases r with |set _ nd=>exact⟨_,rfl,nd,e⟩
 .cases r with |set _ nd=>exact⟨_,rfl,nd,e⟩
def ShR.dct(r:ShR K mg P H d (.dct us)):∃a ws,d=.ref a/\H a=some (.dK ws)/\Rk K mg P H ws us:=by
 rcases r with r |⟨n,o,rfl,e,r⟩
 .cases r with
  |cell p e r=>cases r with |dct r=>exact⟨_,_,rfl,e,r⟩
 .cases r with |dct r=>exact⟨_,_,rfl,e,r⟩
def ShR.kl(r:ShR K mg P H d (.kl us)):∃a vs,d=.ref a/\SqL K H a vs/\Rds K mg P H vs us:=by
 rcases r with r |⟨n,o,rfl,e,r⟩
 .cases r with
  |kl h r=>exact⟨_,_,rfl,.inr h,r⟩
  |cell p e r=>cases r with |fz r=>exact⟨_,_,rfl,.inl (.inr ⟨_,e⟩),r⟩
 .cases r with |fz r=>exact⟨_,_,rfl,.inl (.inr ⟨_,e⟩),r⟩
def ShR.lstL(r:ShR K mg P H d (.lst us)):∃a vs,d=.ref a/\SqL K H a vs/\Rds K mg P H vs us:=by obtain⟨a,vs,e,h,q⟩:=r.lst;exact⟨a,vs,e,SqL.of h,q⟩
end
noncomputable def Val.items:Val->Option (List Val)
 |.tup xs=>some xs
 |.lst xs=>some xs
 |.kl xs=>some xs
 |_=>none
def ShR.items{K:W.Frag}{mg:Qt}{P:Addr->Prop}{H:Hp}{d:V}{v:Val}{us:List Val}(r:ShR K mg P H d v)(e:v.items=some us):∃a vs,d=.ref a/\(SqL K H a vs\/SqT K H a vs)/\Rds K mg P H vs us:=by
 cases v with
 |tup xs=>cases e;obtain⟨a,vs,h1,h2,h3⟩:=r.tup;exact⟨a,vs,h1,.inr h2,h3⟩
 |lst xs=>cases e;obtain⟨a,vs,h1,h2,h3⟩:=r.lstL;exact⟨a,vs,h1,.inl h2,h3⟩
 |kl xs=>cases e;obtain⟨a,vs,h1,h2,h3⟩:=r.kl;exact⟨a,vs,h1,.inl h2,h3⟩
 |_=>cases e
inductive Sl where
 |no |sh (v:Val) |ow (v:Val) |mu (v:Val) |lo (v:Val) |lm (v:Val)
 deriving Inhabited
abbrev E3:=List Sl
noncomputable def Sl.val:Sl->Option Val
 |.no=>none
 |.sh v=>some v
 |.ow v=>some v
 |.mu v=>some v
 |.lo v=>some v
 |.lm v=>some v
noncomputable def Sl.mt:Sl->Bool
 |.ow _=>true
 |.mu _=>true
 |_=>false
noncomputable def Sl.lk:Sl->Bool
 |.lo _=>true
 |.lm _=>true
 |_=>false
abbrev Ns:=List (Option Addr)
def Oc(X:Addr->Prop)(ns:Ns)(n:Addr):Prop:=¬ X n/\some n∉ns
def NotFz:HO->Prop
 |.lst _=>True
 |.dK _=>True
 |.set _ _=>True
 |_=>False
def TbQ(H:Hp)(P:Addr)(q:Str):Prop:=∃ps:Array Value,H P=some (.tbl ps)/\TriplesOk ps.toList/\∀pos cv,codeAmong pos ps.toList=some cv->∃c,cv=.ref c/\H c=some (.ext (gd c q))
section
variable(K:W.Frag)(mg:Qt)
def Bs(H:Hp):Prop:=∀P q,LamT K mg P q->TbQ H P q/\sG K mg H
def SlR(P:Addr->Prop)(N0:Addr->Prop)(n:Option (Option Addr))(d:Option (Option V))(H:Hp):Sl->Prop
 |.no=>n=some none
 |.sh v=>n=some none/\∃x,d=some (some x)/\Rd K mg P H x v
 |.ow v=>∃m o,n=some (some m)/\d=some (some (.ref m))/\N0 m/\H m=some o/\NotFz o/\Rc K mg P H o v
 |.lo v=>∃m o,n=some (some m)/\d=some (some (.ref m))/\N0 m/\H m=some o/\NotFz o/\Rc K mg P H o v
 |.mu v=>∃m o,n=some (some m)/\d=some (some (.ref m))/\H m=some o/\NotFz o/\Rc K mg P H o v
 |.lm v=>∃m o,n=some (some m)/\d=some (some (.ref m))/\H m=some o/\NotFz o/\Rc K mg P H o v
structure Sat(X:Addr->Prop)(N0:Addr->Prop)(ns:Ns)(e:E3)(σ:St)(H:Hp):Prop where
 l1:σ.length=e.length
 l2:ns.length=e.length
 lh:∀a,H a=none->N0 a
 xl:∀a,X a->∃o,H a=some o
 inj:∀(i j:Nat) (n:Addr),ns[i]?=some (some n)->ns[j]?=some (some n)->i=j
 nx:∀(i:Nat) (n:Addr),ns[i]?=some (some n)->¬ X n
 sl:∀(i:Nat) (s:Sl),e[i]?=some s->SlR K mg (Oc X ns) N0 (ns[i]?) (σ[i]?) H s
 bs:Bs K mg H
end
def Mt(ns:Ns)(e:E3)(n:Addr):Prop:=∃(i:Nat) (s:Sl),ns[i]?=some (some n)/\e[i]?=some s/\s.mt=true
structure Stp(ns:Ns)(e:E3)(H:Hp)(ns':Ns)(e':E3)(H':Hp):Prop where
 le:LeH H H'
 dom:∀a,H' a=none->H a=none
 keep:∀(m:Addr) (o:HO),H m=some o->nO o->¬ Mt ns e m->H' m=some o
 nw:∀(i:Nat) (n:Addr),ns'[i]?=some (some n)->ns[i]?=some (some n)\/H n=none
 lk:∀(i:Nat) (s:Sl),e[i]?=some s->s.lk=true->e'[i]?=some s/\ns'[i]?=ns[i]?
 lk':∀(i:Nat) (s:Sl),e'[i]?=some s->s.lk=true->e[i]?=some s/\ns'[i]?=ns[i]?
 mu:∀(i:Nat) (v:Val),e'[i]?=some (.mu v)->∃u,e[i]?=some (.mu u)/\ns'[i]?=ns[i]?
 mu':∀(i:Nat) (u:Val),e[i]?=some (.mu u)->∃v,e'[i]?=some (.mu v)/\ns'[i]?=ns[i]?
section
variable{K:W.Frag}{mg:Qt}{X Y N0 P P':Addr->Prop}{ns ns1 ns2:Ns}{e e1 e2:E3}{σ:St}{H H' H1 H2:Hp}
def NotFz.nt(h:NotFz o):nO o:=λps z=>by subst z;exact h
def NotFz.no(h:NotFz o):(∀xs,o ≠ .tup xs)/\(∀x y,o ≠ .frz x y)/\(∀φ,o ≠ .ext φ)/\∀ps,o ≠ .tbl ps:=
 ⟨λ_ z=>by subst z;exact h,λ_ _ z=>by subst z;exact h,λ_ z=>by subst z;exact h,λ_ z=>by subst z;exact h⟩
def LeH.wr(q:H a=some u)(hf:NotFz u):LeH H (upd H a o):=by
 have n:∀b w,H b=some w->w≠u->upd H a o b=some w:=λb w e z=>by rw[aK λy=>?_];exact e;subst y;rw[q] at e;exact z (H_ e).symm
 exact⟨λb xs e=>n b _ e λz=>hf.no.1 _ z.symm,λb x y e=>n b _ e λz=>hf.no.2.1 _ _ z.symm,λb φ e=>n b _ e λz=>hf.no.2.2.1 _ z.symm⟩
def D7(b:sG K mg H)(l:LeH H H'):sG K mg H':=by
 obtain⟨x,o,h1,h2,h3,h4,h5⟩:=b;refine⟨x,o,h1,h2,h3,h4,?_⟩;rcases h5 with z |⟨u,z⟩
 .exact .inl z
 .exact .inr ⟨u,l.frz _ _ _ z⟩
def Bs.of(b:Bs K mg H)(l:LeH H H')(t:∀a ps,H a=some (.tbl ps)->H' a=some (.tbl ps)):Bs K mg H':=λP q h=>by obtain⟨⟨ps,h1,h2,h3⟩,m⟩:=b P q h;exact⟨⟨ps,t _ _ h1,h2,λpos cv z=>by obtain⟨c,y1,y2⟩:=h3 pos cv z;exact⟨c,y1,l.ext _ _ y2⟩⟩,D7 m l⟩
def Bs.gr(b:Bs K mg H)(g:Gr H H'):Bs K mg H':=b.of g.le λa _=>g a _
def Bs.wr(b:Bs K mg H)(q:H a=some u)(hf:NotFz u):Bs K mg (upd H a o):=b.of (LeH.wr q hf) λc ps e=>by rw[aK λy=>?_];exact e;subst y;rw[q] at e;exact hf.no.2.2.2 _ (H_ e)
def bj{n:Addr}:some n∈ns ↔ ∃i:Nat,ns[i]?=some (some n):=by
 constructor
 .intro m;exact List.getElem?_of_mem m
 .rintro⟨i,e⟩;exact O1 e
def Sat.own(S:Sat K mg X N0 ns e σ H){i:Nat}{n:Addr}(q:ns[i]?=some (some n)):∃s v o,e[i]?=some s/\(s.mt=true\/s.lk=true)/\s.val=some v/\σ[i]?=some (some (.ref n))/\H n=some o/\NotFz o/\Rc K mg (Oc X ns) H o v:=by
 have hi:i<e.length:=by rw[<- S.l2];exact (w_.mp q).1
 have hs:=S.sl i e[i] (B_ hi);refine⟨e[i],?_⟩;have he:=B_ hi;generalize e[i]=s at *;rw[q] at hs;cases s with
 |no=>cases hs
 |sh v=>cases hs.1
 |ow v=>obtain⟨m,o,e1,e2,_,e3,e4,e5⟩:=hs;cases e1;exact⟨v,o,he,.inl rfl,rfl,e2,e3,e4,e5⟩
 |lo v=>obtain⟨m,o,e1,e2,_,e3,e4,e5⟩:=hs;cases e1;exact⟨v,o,he,.inr rfl,rfl,e2,e3,e4,e5⟩
 |mu v=>obtain⟨m,o,e1,e2,e3,e4,e5⟩:=hs;cases e1;exact⟨v,o,he,.inl rfl,rfl,e2,e3,e4,e5⟩
 |lm v=>obtain⟨m,o,e1,e2,e3,e4,e5⟩:=hs;cases e1;exact⟨v,o,he,.inr rfl,rfl,e2,e3,e4,e5⟩
def Stp.gr(g:Gr H H'):Stp ns e H ns e H':=⟨g.le,λ_=>g.none,λ_ _ q _ _=>g _ _ q,λ_ _ q=>.inl q,λ_ _ q _=>⟨q,rfl⟩,λ_ _ q _=>⟨q,rfl⟩,λ_ _ q=>⟨_,q,rfl⟩,λ_ _ q=>⟨_,q,rfl⟩⟩
def Stp.refl:Stp ns e H ns e H:=.gr .refl
def Stp.trans(S:Sat K mg X N0 ns e σ H)(a:Stp ns e H ns1 e1 H1)(b:Stp ns1 e1 H1 ns2 e2 H2):Stp ns e H ns2 e2 H2:=by
 refine⟨a.le.trans b.le,λx z=>a.dom x (b.dom x z),λm o q ht hm=>?_,λi n q=>?_,λi s q hl=>?_,λi s q hl=>?_,λi v q=>?_,λi v q=>?_⟩
 .refine b.keep m o (a.keep m o q ht hm) ht λ⟨i,s,z1,z2,z3⟩=>hm ?_;rcases a.nw i m z1 with z |z
  .obtain⟨s0,v,o',q1,q2,_⟩:=S.own z;rcases q2 with q2 |q2
   .exact⟨i,s0,z,q1,q2⟩
   .have:=(a.lk i s0 q1 q2).1
    rw[z2] at this;cases this;exfalso;cases s <;> first |cases z3;done |cases q2;done
  .rw[q] at z;cases z
 .rcases b.nw i n q with z |z
  .exact a.nw i n z
  .exact .inr (a.dom n z)
 .obtain⟨q1,q2⟩:=a.lk i s q hl;obtain⟨q3,q4⟩:=b.lk i s q1 hl;exact⟨q3,q4.trans q2⟩
 .obtain⟨q1,q2⟩:=b.lk' i s q hl;obtain⟨q3,q4⟩:=a.lk' i s q1 hl;exact⟨q3,q2.trans q4⟩
 .obtain⟨u,q1,q2⟩:=b.mu i v q;obtain⟨u',q3,q4⟩:=a.mu i u q1;exact⟨u',q3,q2.trans q4⟩
 .obtain⟨u,q1,q2⟩:=a.mu' i v q;obtain⟨u',q3,q4⟩:=b.mu' i u q1;exact⟨u',q3,q4.trans q2⟩
def Stp.mov(a:Stp ns e H ns1 e1 H1):Mov (Oc X ns) (Oc X ns1) H H1:=⟨a.le,λn o p q ht=>by
 have hm:¬ Mt ns e n:=λ⟨i,s,z,_⟩=>p.2 (bj.mpr ⟨i,z⟩);refine⟨⟨p.1,λz=>?_⟩,a.keep n o q ht hm⟩;obtain⟨i,z⟩:=bj.mp z;rcases a.nw i n z with z |z
 .exact p.2 (bj.mpr ⟨i,z⟩)
 .rw[q] at z;cases z⟩
def SlR.mono(m:Mov P P' H H')(k:∀j o,n=some (some j)->H j=some o->NotFz o->H' j=some o)(r:SlR K mg P N0 n d H s):SlR K mg P' N0 n d H' s:=by
 cases s with
 |no=>exact r
 |sh v=>obtain⟨q,x,q1,q2⟩:=r;exact⟨q,x,q1,q2.mono m⟩
 |ow v=>obtain⟨j,o,q1,q2,q3,q4,q5,q6⟩:=r;exact⟨j,o,q1,q2,q3,k j o q1 q4 q5,q5,q6.mono m⟩
 |lo v=>obtain⟨j,o,q1,q2,q3,q4,q5,q6⟩:=r;exact⟨j,o,q1,q2,q3,k j o q1 q4 q5,q5,q6.mono m⟩
 |mu v=>obtain⟨j,o,q1,q2,q4,q5,q6⟩:=r;exact⟨j,o,q1,q2,k j o q1 q4 q5,q5,q6.mono m⟩
 |lm v=>obtain⟨j,o,q1,q2,q4,q5,q6⟩:=r;exact⟨j,o,q1,q2,k j o q1 q4 q5,q5,q6.mono m⟩
def Xn(X:Addr->Prop)(n:Addr):Addr->Prop:=λm=>X m\/m=n
def Sat.gr(S:Sat K mg X N0 ns e σ H)(g:Gr H H'):Sat K mg X N0 ns e σ H':=
 ⟨S.l1,S.l2,λa z=>S.lh a (g.none z),λa z=>by obtain⟨o,q⟩:=S.xl a z;exact⟨o,g a o q⟩,S.inj,S.nx,λi s q=>(S.sl i s q).mono g.mov λj o _ q _=>g j o q,S.bs.gr g⟩
def Sat.grow(S:Sat K mg X N0 ns e σ H)(g:Gr H H')(hp:H p=none)(q:H' p=some o):Sat K mg (Xn X p) N0 ns e σ H':=by
 have S':=S.gr g;have np:∀b u,H b=some u->b≠p:=λb u y z=>by subst z;rw[hp] at y;cases y
 refine⟨S.l1,S.l2,S'.lh,λa z=>?_,S.inj,λi n q' z=>?_,λi s q=>(S.sl i s q).mono ⟨g.le,λa o p q _=>⟨⟨λz=>?_,p.2⟩,g a o q⟩⟩ λj o _ q _=>g j o q,S'.bs⟩
 .rcases z with z |rfl
  .exact S'.xl a z
  .exact⟨o,q⟩
 .rcases z with z |rfl
  .exact S.nx i n q' z
  .obtain⟨_,_,_,_,_,_,_,y,_⟩:=S.own q';exact np _ _ y rfl
 .rcases z with z |z
  .exact p.1 z
  .exact np _ _ q z
def Sat.weak(S:Sat K mg Y N0 ns e σ H)(hx:∀n,X n->Y n):Sat K mg X N0 ns e σ H:=
 ⟨S.l1,S.l2,S.lh,λn z=>S.xl n (hx n z),S.inj,λi n q z=>S.nx i n q (hx n z),λi s q=>(S.sl i s q).mono (.of λn p=>⟨λz=>p.1 (hx n z),p.2⟩) λ_ _ _ q _=>q,S.bs⟩
end
section
variable{K:W.Frag}{mg:Qt}{X N0:Addr->Prop}{ns ns0:Ns}{e e0:E3}{σ:St}{H Hs:Hp}
def bS{α:Type}{l:List α}{i j:Nat}{a b:α}(hi:i<l.length)(q:(l.set i a)[j]?=some b):(j=i/\b=a)\/(j≠i/\l[j]?=some b):=by
 rw[List.getElem?_set] at q;by_cases z:i=j
 .subst z;rw[if_pos rfl,if_pos hi] at q;exact .inl ⟨rfl,(H_ q).symm⟩
 .rw[if_neg z] at q;exact .inr ⟨λy=>z y.symm,q⟩
def du{α:Type}{l:List α}{i:Nat}{a:α}(hi:i<l.length):(l.set i a)[i]?=some a:=by rw[List.getElem?_set,if_pos rfl,if_pos hi]
def b9{α:Type}{l:List α}{i j:Nat}{a:α}(hi:j≠i):(l.set i a)[j]?=l[j]?:=by rw[Pf (λy=>hi y.symm)]
def dW{n:Addr}(p:Oc X ns n):Oc X (ns.set i none) n:=⟨p.1,λz=>by
 rcases O2 z with z |z
 .exact p.2 z
 .cases z⟩
def Sat.putN(S:Sat K mg X N0 ns e σ H)(hi:i<e.length)(q:SlR K mg (Oc X (ns.set i none)) N0 (some none) (some d) H s):Sat K mg X N0 (ns.set i none) (e.set i s) (σ.set i d) H:=by
 have hn:i<ns.length:=by rw[S.l2];exact hi
 have ha:i<σ.length:=by rw[S.l1];exact hi
 refine⟨by rw[NF,NF];exact S.l1,by rw[NF,NF];exact S.l2,S.lh,S.xl,λj k n q1 q2=>?_,λj n q1=>?_,λj s' q1=>?_,S.bs⟩
 .rcases bS hn q1 with ⟨_,z⟩ |⟨_,z⟩
  .cases z
  rcases bS hn q2 with ⟨_,y⟩ |⟨_,y⟩
  .cases y
  exact S.inj j k n z y
 .rcases bS hn q1 with ⟨_,z⟩ |⟨_,z⟩
  .cases z
  exact S.nx j n z
 .rcases bS hi q1 with ⟨rfl,rfl⟩ |⟨z,q2⟩
  .rw[du hn,du ha];exact q
  .rw[b9 z,b9 z];exact (S.sl j s' q2).mono (.of λn p=>dW p) λ_ _ _ q _=>q
def Sat.putN'(S:Sat K mg X N0 ns e σ H)(hi:i<e.length)(q:SlR K mg (Oc X (ns.set i none)) N0 (some none) (σ[i]?) H s):Sat K mg X N0 (ns.set i none) (e.set i s) σ H:=by
 have ha:i<σ.length:=by rw[S.l1];exact hi
 have:=S.putN hi (s:=s) (d:=σ[i]) (by rw[B_ ha] at q;exact q)
 rw[List.set_getElem_self] at this;exact this
def Sat.putO(S:Sat K mg (Xn X n) N0 ns e σ H)(hx:¬ X n)(hi:i<e.length)(hn0:N0 n)(eo:H n=some o)(hf:NotFz o)(r:Rc K mg (Oc (Xn X n) ns) H o v):Sat K mg X N0 (ns.set i (some n)) (e.set i (.ow v)) (σ.set i (some (.ref n))) H:=by
 have hn:i<ns.length:=by rw[S.l2];exact hi
 have ha:i<σ.length:=by rw[S.l1];exact hi
 have nn:∀j:Nat,ns[j]?≠some (some n):=λj q=>S.nx j n q (.inr rfl);have mv:Mov (Oc (Xn X n) ns) (Oc X (ns.set i (some n))) H H:=.of λm p=>⟨λz=>p.1 (.inl z),λz=>by
  rcases O2 z with z |z
  .exact p.2 z
  .cases z;exact p.1 (.inr rfl)⟩
 refine⟨by rw[NF,NF];exact S.l1,by rw[NF,NF];exact S.l2,S.lh,λm z=>S.xl m (.inl z),λj k m q1 q2=>?_,λj m q1 z=>?_,λj s' q1=>?_,S.bs⟩
 .rcases bS hn q1 with ⟨z1,z⟩ |⟨z1,z⟩ <;> rcases bS hn q2 with ⟨y1,y⟩ |⟨y1,y⟩
  .rw[z1,y1]
  .cases z;exact absurd y (nn k)
  .cases y;exact absurd z (nn j)
  .exact S.inj j k m z y
 .rcases bS hn q1 with ⟨_,y⟩ |⟨_,y⟩
  .cases y;exact hx z
  .exact S.nx j m y (.inl z)
 .rcases bS hi q1 with ⟨rfl,rfl⟩ |⟨z,q2⟩
  .rw[du hn,du ha];exact⟨n,o,rfl,rfl,hn0,eo,hf,r.mono mv⟩
  .rw[b9 z,b9 z];exact (S.sl j s' q2).mono mv λ_ _ _ q _=>q
noncomputable def Sl.pl:Sl->Bool
 |.no=>true
 |.sh _=>true
 |.ow _=>true
 |_=>false
def Stp.put(A:Stp ns0 e0 Hs ns e H)(hi:i<e.length)(hx:∀n,x=some n->Hs n=none)(q0:e[i]?=some s0)(p0:s0.pl=true)(p:s.pl=true)(l2:ns.length=e.length):Stp ns0 e0 Hs (ns.set i x) (e.set i s) H:=by
 have hn:i<ns.length:=by rw[l2];exact hi
 refine⟨A.le,A.dom,A.keep,λj n q=>?_,λj s' q hl=>?_,λj s' q hl=>?_,λj v q=>?_,λj v q=>?_⟩
 .rcases bS hn q with ⟨_,z⟩ |⟨_,z⟩
  .exact .inr (hx n z.symm)
  .exact A.nw j n z
 .obtain⟨q1,q2⟩:=A.lk j s' q hl;have z:j≠i:=λz=>by subst z;rw[q0] at q1;cases q1;cases s0 <;> first |cases p0;done |cases hl;done
  rw[b9 z,b9 z];exact⟨q1,q2⟩
 .rcases bS hi q with ⟨_,z⟩ |⟨z,q1⟩
  .subst z;cases s' <;> first |cases p;done |cases hl;done
  .rw[b9 z];exact A.lk' j s' q1 hl
 .rcases bS hi q with ⟨_,z⟩ |⟨z,q1⟩
  .subst z;cases p
  .rw[b9 z];exact A.mu j v q1
 .obtain⟨u,q1,q2⟩:=A.mu' j v q;have z:j≠i:=λz=>by subst z;rw[q0] at q1;cases q1;cases p0
  exact⟨u,by rw[b9 z];exact q1,by rw[b9 z];exact q2⟩
end
inductive Tm where
 |val (v:Val) |new (v:Val) |bor (i:Nat)
inductive R3(α:Type) where
 |ok (a:α) (e:E3) |exc (c:Str) (e:E3) |stuck
noncomputable def R3.bind {α β:Type} (r:R3 α) (f:α->E3->R3 β):R3 β:=match r with
 |.ok a e=>f a e
 |.exc c e=>.exc c e
 |.stuck=>.stuck
abbrev ME3:=E3->R3 Tm
abbrev MT3:=E3->R3 Bool
abbrev MA3:=E3->R3 (List Tm)
section
variable(K:W.Frag)(mg:Qt)
def PG3{α:Type}(X N0:Addr->Prop)(ns:Ns)(e:E3)(σ:St)(H:Hp)(E:XK)(k:α->E3->Ns->Hp->Prop):R3 α->Prop
 |.ok t e'=>∀H' ns',Stp ns e H ns' e' H'->Sat K mg X N0 ns' e' σ H'->k t e' ns' H'
 |.exc c e'=>∀H' ns' C,Stp ns e H ns' e' H'->Sat K mg X N0 ns' e' σ H'->mg c=some (.ref C)->E (.ref C) none H'
 |.stuck=>False
def relE(X N0 L:Addr->Prop)(σ:St)(ns:Ns)(e:E3)(H:Hp)(d:V):Tm->Prop
 |.val v=>Rd K mg (Oc X ns) H d v
 |.new v=>∃n o,d=.ref n/\L n/\¬ X n/\H n=some o/\NotFz o/\Sat K mg (Xn X n) N0 ns e σ H/\Rc K mg (Oc (Xn X n) ns) H o v
 |.bor i=>σ[i]?=some (some d)
inductive TsR(X:Addr->Prop)(ns:Ns)(σ:St)(H:Hp):List V->List Tm->Prop where
 |nil:TsR X ns σ H [] []
 |val {d:V}{v:Val}{ds:List V}{ts:List Tm} (r:Rd K mg (Oc X ns) H d v) (rr:TsR X ns σ H ds ts):TsR X ns σ H (d::ds) (.val v::ts)
 |bor {d:V}{i:Nat}{ds:List V}{ts:List Tm} (q:σ[i]?=some (some d)) (rr:TsR X ns σ H ds ts):TsR X ns σ H (d::ds) (.bor i::ts)
abbrev KE(X N0 L:Addr->Prop)(σ:St)(Q:VK):Tm->E3->Ns->Hp->Prop:=λt e' ns' H'=>∀v,relE K mg X N0 L σ ns' e' H' v t->Q v H'
abbrev KA(X:Addr->Prop)(σ:St)(Q:List V->Hp->Prop):List Tm->E3->Ns->Hp->Prop:=λts _ ns' H'=>∀vs,TsR K mg X ns' σ H' vs ts->Q vs H'
abbrev KT(Q:Bool->Hp->Prop):Bool->E3->Ns->Hp->Prop:=λb _ _ H'=>Q b H'
def rdE(ES:St->XK)(G:ME3):TE:=λσ H Q=>∃X N0 L ns e,Sat K mg X N0 ns e σ H/\(∀a,H a=none->L a)/\PG3 K mg X N0 ns e σ H (ES σ) (KE K mg X N0 L σ Q) (G e)
def rdT(ES:St->XK)(G:MT3):TT:=λσ H Q=>∃X N0 ns e,Sat K mg X N0 ns e σ H/\PG3 K mg X N0 ns e σ H (ES σ) (KT Q) (G e)
def rdA(ES:St->XK)(G:MA3):TA:=λσ H Q=>∃X N0 ns e,Sat K mg X N0 ns e σ H/\PG3 K mg X N0 ns e σ H (ES σ) (KA K mg X σ Q) (G e)
end
section
variable{K:W.Frag}{mg:Qt}{ES:St->XK}{σ:St}{H:Hp}{Z:Prop}
def rdE.el{G:ME3}(h:rdE K mg ES G σ H Q)(k:∀X N0 L ns e,Sat K mg X N0 ns e σ H->(∀a,H a=none->L a)->PG3 K mg X N0 ns e σ H (ES σ) (KE K mg X N0 L σ Q) (G e)->Z):Z:=by obtain⟨X,N0,L,ns,e,S,hl,p⟩:=h;exact k X N0 L ns e S hl p
def rdT.el{G:MT3}(h:rdT K mg ES G σ H Q)(k:∀X N0 ns e,Sat K mg X N0 ns e σ H->PG3 K mg X N0 ns e σ H (ES σ) (KT Q) (G e)->Z):Z:=by obtain⟨X,N0,ns,e,S,p⟩:=h;exact k X N0 ns e S p
def rdA.el{G:MA3}(h:rdA K mg ES G σ H Q)(k:∀X N0 ns e,Sat K mg X N0 ns e σ H->PG3 K mg X N0 ns e σ H (ES σ) (KA K mg X σ Q) (G e)->Z):Z:=by obtain⟨X,N0,ns,e,S,p⟩:=h;exact k X N0 ns e S p
end
noncomputable def rs (e:E3):Tm->Option Val
 |.val v=>some v
 |.new v=>some v
 |.bor i=>(e[i]?).bind Sl.val
noncomputable def Tm.drop:Tm->Tm
 |.new v=>.val v
 |t=>t
noncomputable def rss (e:E3):List Tm->Option (List Val)
 | []=>some []
 |t::ts=>match rs e t,rss e ts with
  |some v,some vs=>some (v::vs)
  |_,_=>none
section
variable{K:W.Frag}{mg:Qt}{X N0 L:Addr->Prop}{ns ns':Ns}{e e':E3}{σ:St}{H H':Hp}{E:XK}
def PG3.ret{α:Type}{k:α->E3->Ns->Hp->Prop}{t:α}(p:PG3 K mg X N0 ns e σ H E k (.ok t e))(S:Sat K mg X N0 ns e σ H):k t e ns H:=p H ns .refl S
def PG3.after{α:Type}{r:R3 α}{k:α->E3->Ns->Hp->Prop}(p:PG3 K mg X N0 ns e σ H E k r)(S:Sat K mg X N0 ns e σ H)(a:Stp ns e H ns' e' H'):PG3 K mg X N0 ns' e' σ H' E k r:=by
 cases r with
 |stuck=>exact p
 |exc c e2=>exact λH2 ns2 C b S2 m=>p H2 ns2 C (a.trans S b) S2 m
 |ok t2 e2=>exact λH2 ns2 b S2=>p H2 ns2 (a.trans S b) S2
def PG3.imp{α β:Type}{r:R3 α}{f:α->E3->R3 β}{k:β->E3->Ns->Hp->Prop}{k':α->E3->Ns->Hp->Prop}(p:PG3 K mg X N0 ns e σ H E k (r.bind f))(S:Sat K mg X N0 ns e σ H)
 (i:∀t e1 ns1 H1,Stp ns e H ns1 e1 H1->Sat K mg X N0 ns1 e1 σ H1->PG3 K mg X N0 ns1 e1 σ H1 E k (f t e1)->k' t e1 ns1 H1):PG3 K mg X N0 ns e σ H E k' r:=by
 cases r with
 |stuck=>exact p
 |exc c e'=>exact p
 |ok t e1=>intro H1 ns1 a S1;exact i t e1 ns1 H1 a S1 (PG3.after (show PG3 K mg X N0 ns e σ H E k (f t e1) from p) S a)
def TsR.stp(a:Stp ns e H ns' e' H')(r:TsR K mg X ns σ H ds ts):TsR K mg X ns' σ H' ds ts:=by
 induction r with
 |nil=>exact .nil
 |val r _ ih=>exact .val (r.mono a.mov) ih
 |bor q _ ih=>exact .bor q ih
def Sat.bor(S:Sat K mg X N0 ns e σ H){i:Nat}{d:V}{v:Val}(q:σ[i]?=some (some d))(r:(e[i]?).bind Sl.val=some v):ShR K mg (Oc X ns) H d v:=by
 cases z:e[i]? with
 |none=>rw[z] at r;cases r
 |
  some s=>
  rw[z] at r;have y:=S.sl i s z;rw[q] at y;have r':s.val=some v:=r;cases s with
  |no=>cases r'
  |sh u=>cases r';obtain⟨_,x,e1,e2⟩:=y;cases e1;exact .inl e2
  |ow u=>cases r';obtain⟨m,o,_,e2,_,e3,_,e4⟩:=y;cases e2;exact .inr ⟨m,o,rfl,e3,e4⟩
  |lo u=>cases r';obtain⟨m,o,_,e2,_,e3,_,e4⟩:=y;cases e2;exact .inr ⟨m,o,rfl,e3,e4⟩
  |mu u=>cases r';obtain⟨m,o,_,e2,e3,_,e4⟩:=y;cases e2;exact .inr ⟨m,o,rfl,e3,e4⟩
  |lm u=>cases r';obtain⟨m,o,_,e2,e3,_,e4⟩:=y;cases e2;exact .inr ⟨m,o,rfl,e3,e4⟩
def relE.new(r:relE K mg X N0 L σ ns e H d (.new v)):Rd K mg (Oc X ns) H d v:=by obtain⟨n,o,rfl,_,hx,eo,_,S,rc⟩:=r;exact .cell ⟨hx,λz=>by obtain⟨i,z⟩:=bj.mp z;exact S.nx i n z (.inr rfl)⟩ eo (rc.mono (.of λm p=>⟨λz=>p.1 (.inl z),p.2⟩))
def relE.sh{d:V}{t:Tm}{v:Val}(S:Sat K mg X N0 ns e σ H)(r:relE K mg X N0 L σ ns e H d t)(q:rs e t=some v):ShR K mg (Oc X ns) H d v:=by
 cases t with
 |val u=>cases q;exact .inl r
 |new u=>cases q;exact .inl r.new
 |bor i=>exact S.bor r q
def relE.drop(r:relE K mg X N0 L σ ns e H d t)(a:Stp ns e H ns' e' H'):relE K mg X N0 L σ ns' e' H' d t.drop:=by
 cases t with
 |val u=>exact Rd.mono a.mov r
 |new u=>exact Rd.mono a.mov r.new
 |bor i=>exact r
def TsR.sh{ds:List V}{ts:List Tm}{vs:List Val}(S:Sat K mg X N0 ns e σ H)(r:TsR K mg X ns σ H ds ts)(q:rss e ts=some vs):ShRs K mg (Oc X ns) H ds vs:=by
 induction r generalizing vs with
 |nil=>cases q;exact .nil
 |
  val r _ ih=>
  unfold rss at q;split at q
  .rename_i e1 e2;cases q;cases e1;exact .cons (.inl r) (ih e2)
  .cases q
 |
  bor q' _ ih=>
  unfold rss at q;split at q
  .rename_i e1 e2;cases q;exact .cons (S.bor q' e1) (ih e2)
  .cases q
end
inductive Bv where
 |val (v:Val) |new (v:Val) |stuck
noncomputable def Bv.at (b:Bv) (e:E3):R3 Tm:=match b with
 |.val v=>.ok (.val v) e
 |.new v=>.ok (.new v) e
 |.stuck=>.stuck
def BvP(K:W.Frag)(mg:Qt)(P:Addr->Prop)(H:Hp)(Q:VK):Bv->Prop
 |.val v=>∀H1 x,Gr H H1->Rd K mg P H1 x v->Q x H1
 |.new v=>∀H1 a o,Gr H H1->H1 a=none->NotFz o->Rc K mg P H1 o v->Q (.ref a) (upd H1 a o)
 |.stuck=>False
section
variable{K:W.Frag}{mg:Qt}{X N0 L:Addr->Prop}{ns:Ns}{e:E3}{σ:St}{H:Hp}{E:XK}{Q:VK}
def PG3.bv(p:PG3 K mg X N0 ns e σ H E (KE K mg X N0 L σ Q) (b.at e))(S:Sat K mg X N0 ns e σ H)(hl:∀a,H a=none->L a):BvP K mg (Oc X ns) H Q b:=by
 cases b with
 |stuck=>exact p
 |val v=>exact λH1 x g r=>p H1 ns (.gr g) (S.gr g) x r
 |
  new v=>
  intro H1 a o g ha hf r;have g2:Gr H (upd H1 a o):=λc u q=>Gr.upd ha c u (g c u q);have S':=S.grow g2 (g.none ha) aO;refine p _ ns (.gr g2) (S.gr g2) _ ⟨a,o,rfl,hl a (g.none ha),λz=>?_,aO,hf,S',r.mono ⟨(Gr.upd ha).le,λc u q z _=>⟨⟨λy=>?_,q.2⟩,Gr.upd ha c u z⟩⟩⟩
  .obtain⟨u,q⟩:=S.xl a z;rw[g.none ha] at q;cases q
  .rcases y with y |rfl
   .exact q.1 y
   .rw[ha] at z;cases z
end
section
variable(K:W.Frag)(mg:Qt)
def UnD(r:V->Hp->VK->Prop)(g:Val->Bv):Prop:=∀P H x v Q,ShR K mg P H x v->BvP K mg P H Q (g v)->r x H Q
def OpD(r:R2)(g:Val->Val->Bv):Prop:=∀P H x y v u Q,ShR K mg P H x v->ShR K mg P H y u->BvP K mg P H Q (g v u)->r x y H Q
def c6(r:List V->Hp->VK->Prop)(g:List Val->Bv):Prop:=∀P H xs vs Q,ShRs K mg P H xs vs->BvP K mg P H Q (g vs)->r xs H Q
end
noncomputable def eW (i:Nat) (e:E3):R3 Tm:=match e[i]? with
 |some (.sh v)=>.ok (.val v) e
 |some .no=>.stuck
 |some _=>.ok (.bor i) e
 |none=>.stuck
noncomputable def vC (v:Val) (e:E3):R3 Tm:=.ok (.val v) e
noncomputable def vUn (g:Val->Bv) (F:ME3) (e:E3):R3 Tm:=(F e).bind λt e1=>match rs e1 t with
 |some v=>(g v).at e1
 |none=>.stuck
noncomputable def vOp (g:Val->Val->Bv) (F G:ME3) (e:E3):R3 Tm:=(F e).bind λt1 e1=>(G e1).bind λt2 e2=>match rs e2 t1.drop,rs e2 t2 with
 |some v1,some v2=>(g v1 v2).at e2
 |_,_=>.stuck
noncomputable def oH (e:E3):R3 (List Tm):=.ok [] e
noncomputable def mG (F:ME3) (A:MA3) (e:E3):R3 (List Tm):=(F e).bind λt e1=>(A e1).bind λts e2=>.ok (t.drop::ts) e2
noncomputable def vFn (g:List Val->Bv) (A:MA3) (e:E3):R3 Tm:=(A e).bind λts e1=>match rss e1 ts with
 |some vs=>(g vs).at e1
 |none=>.stuck
noncomputable def cR (e:E3):Tm->Option (E3×Val)
 |.val v=>some (e,v)
 |.new v=>some (e,v)
 |.bor i=>match e[i]? with
  |some (.sh v)=>some (e,v)
  |some (.ow v)=>some (e.set i (.sh v),v)
  |_=>none
noncomputable def dem (e:E3):List Tm->Option (E3×List Val)
 | []=>some (e,[])
 |t::ts=>match cR e t with
  |some (e1,v)=>match dem e1 ts with
   |some (e2,vs)=>some (e2,v::vs)
   |none=>none
  |none=>none
noncomputable def vTup (A:MA3) (e:E3):R3 Tm:=(A e).bind λts e1=>match dem e1 ts with
 |some (e2,vs)=>if vs.length<=16777216 then .ok (.val (.tup vs)) e2 else .stuck
 |none=>.stuck
noncomputable def vLst (A:MA3) (e:E3):R3 Tm:=(A e).bind λts e1=>match dem e1 ts with
 |some (e2,vs)=>if vs.length<=16777216 then .ok (.new (.lst vs)) e2 else .stuck
 |none=>.stuck
noncomputable def bOf:Option Val->Option Bool
 |some (.bl b)=>some b
 |_=>none
noncomputable def vAnd (F G:ME3) (e:E3):R3 Tm:=(F e).bind λt e1=>match bOf (rs e1 t) with
 |some true=>G e1
 |some false=>.ok (.val (.bl false)) e1
 |none=>.stuck
noncomputable def vOr (F G:ME3) (e:E3):R3 Tm:=(F e).bind λt e1=>match bOf (rs e1 t) with
 |some true=>.ok (.val (.bl true)) e1
 |some false=>G e1
 |none=>.stuck
noncomputable def vNot (F:ME3) (e:E3):R3 Tm:=(F e).bind λt e1=>match bOf (rs e1 t) with
 |some b=>.ok (.val (.bl (!b))) e1
 |none=>.stuck
noncomputable def cOf (F:ME3) (e:E3):R3 Bool:=(F e).bind λt e1=>match bOf (rs e1 t) with
 |some b=>.ok b e1
 |none=>.stuck
noncomputable def cAn (c d:MT3) (e:E3):R3 Bool:=(c e).bind λb e1=>if b=true then d e1 else .ok false e1
noncomputable def cO (c d:MT3) (e:E3):R3 Bool:=(c e).bind λb e1=>if b=true then .ok true e1 else d e1
noncomputable def cNo (c:MT3) (e:E3):R3 Bool:=(c e).bind λb e1=>.ok (!b) e1
noncomputable def cY (e:E3):R3 Bool:=.ok true e
noncomputable def oO:Val->Option Bool
 |.non=>some false
 |.bl b=>some b
 |.int i=>some (i != 0)
 |.tup xs=>some (!xs.isEmpty)
 |.lst xs=>some (!xs.isEmpty)
 |.kl xs=>some (!xs.isEmpty)
 |_=>none
noncomputable def cTr (F:ME3) (e:E3):R3 Bool:=(F e).bind λt e1=>match (rs e1 t).bind oO with
 |some b=>.ok b e1
 |none=>.stuck
section
variable{K:W.Frag}{mg:Qt}{X N0 L:Addr->Prop}{ns:Ns}{e:E3}{σ:St}{H:Hp}
def Jn(S:Sat K mg X N0 ns e σ H)(q:e[i]?=some (.ow v)):∃n,σ[i]?=some (some (.ref n))/\Sat K mg X N0 (ns.set i none) (e.set i (.sh v)) σ H/\Stp ns e H (ns.set i none) (e.set i (.sh v)) H/\Rd K mg (Oc X (ns.set i none)) H (.ref n) v:=by
 obtain⟨n,o,q1,q2,_,q3,_,q4⟩:=S.sl i _ q;have hi:=(w_.mp q).1;have hn:i<ns.length:=by rw[S.l2];exact hi
 have r:Rd K mg (Oc X (ns.set i none)) H (.ref n) v:=.cell ⟨S.nx i n q1,λz=>by
  obtain⟨j,z⟩:=bj.mp z;rcases bS hn z with ⟨_,y⟩ |⟨y,z⟩
  .cases y
  .exact y (S.inj j i n z q1)⟩ q3 (q4.mono (.of λm p=>dW p))
 exact⟨n,q2,S.putN' hi ⟨rfl,_,q2,r⟩,Stp.refl.put (x:=none) hi (λ_ z=>by cases z) q rfl rfl S.l2,r⟩
def gp{d:V}{t:Tm}{v:Val}{e':E3}(S:Sat K mg X N0 ns e σ H)(r:relE K mg X N0 L σ ns e H d t)(q:cR e t=some (e',v)):∃ns',Sat K mg X N0 ns' e' σ H/\Stp ns e H ns' e' H/\Rd K mg (Oc X ns') H d v:=by
 cases t with
 |val u=>cases q;exact⟨ns,S,.refl,r⟩
 |new u=>cases q;exact⟨ns,S,.refl,r.new⟩
 |
  bor i=>
  unfold cR at q;dsimp only at q;have r':σ[i]?=some (some d):=r;split at q
  .rename_i u q1;cases q;obtain⟨_,x,e1,e2⟩:=S.sl i _ q1;rw[r'] at e1;cases e1;exact⟨ns,S,.refl,e2⟩
  .rename_i u q1;cases q;obtain⟨n,e1,S',a',e2⟩:=Jn S q1;rw[r'] at e1;cases e1;exact⟨_,S',a',e2⟩
  .cases q
def gJ:∀{ds:List V}{vs:List Val}{ns:Ns}{e e':E3},Sat K mg X N0 ns e σ H->TsR K mg X ns σ H ds ts->dem e ts=some (e',vs)->∃ns',Sat K mg X N0 ns' e' σ H/\Stp ns e H ns' e' H/\Rds K mg (Oc X ns') H ds vs:=by
 induction ts with
 |nil=>intro ds vs ns e e' S r q;cases r;cases q;exact⟨ns,S,.refl,.nil⟩
 |
  cons t ts ih=>
  intro ds vs ns e e' S r q;unfold dem at q;split at q
  .rename_i e1 v q1;split at q
   .rename_i e2 vs' q2;cases q;have hr:∃d ds',ds=d::ds'/\relE K mg X N0 X σ ns e H d t/\TsR K mg X ns σ H ds' ts:=by
     cases r with
     |val r rr=>exact⟨_,_,rfl,r,rr⟩
     |bor r rr=>exact⟨_,_,rfl,r,rr⟩
    obtain⟨d,ds',rfl,hr⟩:=hr;obtain⟨ns1,S1,a1,r1⟩:=gp S hr.1 q1;obtain⟨ns2,S2,a2,r2⟩:=ih S1 (hr.2.stp a1) q2;exact⟨ns2,S2,a1.trans S a2,.cons (r1.mono a2.mov) r2⟩
   .cases q
  .cases q
end
structure PEx where
 t:Nat
 G:ME3
structure PTs where
 t:Nat
 G:MT3
structure PAs where
 t:Nat
 G:MA3
structure PO2 where
 G:Val->Val->Bv
structure PU1 where
 G:Val->Bv
structure PBf where
 G:List Val->Bv
noncomputable def af (i:Nat):PEx:=⟨1,eW i⟩
noncomputable def ah (i:Int):PEx:=⟨2,vC (.int i)⟩
noncomputable def pBl (i:Bool):PEx:=⟨3,vC (.bl i)⟩
noncomputable def aB (i:Str):PEx:=⟨4,vC (.str i)⟩
noncomputable def iS:PEx:=⟨5,vC .non⟩
noncomputable def pTy (i:String):PEx:=⟨6,vC (.ty i)⟩
noncomputable def dE (i:Str):PEx:=⟨7,vC (.glb i)⟩
noncomputable def ki (v:Val):PEx:=⟨8,vC v⟩
noncomputable def pUn (o:PU1) (a:PEx):PEx:=⟨9,vUn o.G a.G⟩
noncomputable def pOp (o:PO2) (a b:PEx):PEx:=⟨10,vOp o.G a.G b.G⟩
noncomputable def ag:PAs:=⟨1,oH⟩
noncomputable def aa (a:PEx) (r:PAs):PAs:=⟨2,mG a.G r.G⟩
noncomputable def pFn (o:PBf) (a:PAs):PEx:=⟨11,vFn o.G a.G⟩
noncomputable def aH (a:PAs):PEx:=⟨12,vTup a.G⟩
noncomputable def aY (a:PAs):PEx:=⟨13,vLst a.G⟩
noncomputable def jx (a b:PEx):PEx:=⟨14,vAnd a.G b.G⟩
noncomputable def pOr (a b:PEx):PEx:=⟨15,vOr a.G b.G⟩
noncomputable def BW (a:PEx):PEx:=⟨16,vNot a.G⟩
noncomputable def qOf (a:PEx):PTs:=⟨1,cOf a.G⟩
noncomputable def qTr (a:PEx):PTs:=⟨2,cTr a.G⟩
noncomputable def qAn (a b:PTs):PTs:=⟨3,cAn a.G b.G⟩
noncomputable def qO (a b:PTs):PTs:=⟨4,cO a.G b.G⟩
noncomputable def qNo (a:PTs):PTs:=⟨5,cNo a.G⟩
noncomputable def qY:PTs:=⟨6,cY⟩
section
variable(K:W.Frag)(mg:Qt)(X:Cx)(ES:St->XK)
structure DE(e:Expr)(F:PEx):Prop where
 ok:PE X e (rdE K mg ES F.G)
structure DT(e:Expr)(F:PTs):Prop where
 ok:PT X e (rdT K mg ES F.G)
structure DW(e:Expr)(F:PTs):Prop where
 ok:PW X e (rdT K mg ES F.G)
structure DA(es:List Expr)(F:PAs):Prop where
 ok:PA X es (rdA K mg ES F.G)
end
structure GC(K:W.Frag)(mg:Qt)(x:Str)(d:Val):Prop where
 ex:∃u v,mg x=some u/\RelV v u/\∀P H,Rd K mg P H v d
section
variable{K:W.Frag}{mg:Qt}{X:Cx}{ES:St->XK}{e a b:Expr}{es:List Expr}{F G p q:PEx}{A:PAs}{t u:PTs}{pos:Pos}{k:PO2}
def so(i:Nat){x:Str}(hN:X.N[i]?=some x:=by rfl)(hv:Vis X.env.scope x:=by first |exact Or.inl rfl |exact Or.inr (Or.inl rfl) |exact Or.inr (Or.inr rfl))(hd:(x==("__debug__" : Str))=false:=by decide)(j_:(x==("__classdict__" : Str))=false:=by decide):DE K mg X ES (.Name x pos) (af i):=
 ⟨PE.imp (Hk hN hv hd j_) λσ H Q zz=>zz.el λY N0 L ns e S hl p=>by
  have p:PG3 K mg Y N0 ns e σ H (ES σ) (KE K mg Y N0 L σ Q) (eW i e):=p;unfold eW at p;split at p
  .rename_i v q;obtain⟨_,x,e1,r⟩:=S.sl i _ q;exact⟨x,e1,p.ret S x r⟩
  .exact p.elim
  .rename_i s h1 h2 q;have y:=S.sl i s q;have:∃x,σ[i]?=some (some x):=by
    cases s with
    |no=>exact absurd rfl h2
    |sh v=>exact absurd rfl (h1 v)
    |ow v=>obtain⟨m,_,_,y,_⟩:=y;exact⟨_,y⟩
    |lo v=>obtain⟨m,_,_,y,_⟩:=y;exact⟨_,y⟩
    |mu v=>obtain⟨m,_,_,y,_⟩:=y;exact⟨_,y⟩
    |lm v=>obtain⟨m,_,_,y,_⟩:=y;exact⟨_,y⟩
   obtain⟨x,e1⟩:=this;exact⟨x,e1,p.ret S x e1⟩
  .exact p.elim⟩
def lQ{v:V}{d:Val}{tg:Nat}(hp:PE X e (tC v))(r:∀P H,Rd K mg P H v d):DE K mg X ES e ⟨tg,vC d⟩:=⟨PE.imp hp λσ H Q zz=>zz.el λY N0 L ns e S hl p=>PG3.ret p S v (r _ _)⟩
def nv:DE K mg X ES (.Constant (.int i) j pos) (ah i):=lQ GR λ_ _=>.int i
def MP:DE K mg X ES (.Constant (.bool i) j pos) (pBl i):=lQ Lv λ_ _=>.bl i
def Jw:DE K mg X ES (.Constant .none j pos) iS:=lQ IV λ_ _=>.non
def Ia:DE K mg X ES (.Constant (.str x) j pos) (aB x):=lQ zm λ_ _=>.str x
def Ki{x:Str}(hg:Gl X x)(ha:∃a,mg x=some (.ref a))(hm:X.mg=mg:=by rfl)(hd:(x==("__debug__" : Str))=false:=by decide):DE K mg X ES (.Name x pos) (dE x):=by subst hm;obtain⟨a,ha⟩:=ha;exact lQ (wb hg ha (v:=.ref a) rfl hd) λ_ _=>.glb ha
def K2{x:Str}{d:Val}(hg:Gl X x)(ha:GC K mg x d)(hm:X.mg=mg:=by rfl)(hd:(x==("__debug__" : Str))=false:=by decide):DE K mg X ES (.Name x pos) (ki d):=by subst hm;obtain⟨u,v,h1,h2,h3⟩:=ha.ex;exact lQ (wb hg h1 h2 hd) h3
def Nf{x:Str}{n:String}(hg:Gl X x)(hm:mg x=none)(hv:bootBuiltins x=some (.type n))(he:X.mg=mg:=by rfl)(hn:x ≠ "__name__":=by decide)(hd:(x==("__debug__" : Str))=false:=by decide):DE K mg X ES (.Name x pos) (pTy n):=by subst he;exact lQ (F9 hg hm hv (v:=.ty n) rfl hn hd) λ_ _=>.ty n
def qU(hd:OpD K mg r k.G)(σ:St)(H:Hp)(Q:VK):rdE K mg ES (pOp k F G).G σ H Q->tOp r (rdE K mg ES F.G) (rdE K mg ES G.G) σ H Q:=λzz=>zz.el λY N0 L ns e S hl p=>
 ⟨Y,
  N0,L,ns,e,S,hl,PG3.imp p S λt1 e1 ns1 H1 a1 S1 p1 x r1=>⟨Y,N0,L,ns1,e1,S1,λa z=>hl a (a1.dom a z),PG3.imp p1 S1 λt2 e2 ns2 H2 a2 S2 p2 y r2=>by
  try dsimp only at p2
  split at p2
  .rename_i v u q1 q2;exact hd _ _ _ _ _ _ _ ((r1.drop a2).sh S2 q1) (r2.sh S2 q2) (p2.bv S2 λa z=>hl a (a1.dom a (a2.dom a z)))
  .exact p2.elim⟩⟩
def LK(ho:OpR X (binaryOp op) r)(hd:OpD K mg r k.G)(ha:DE K mg X ES a p)(hb:DE K mg X ES b q):DE K mg X ES (.BinOp a op b pos) (pOp k p q):=⟨PE.imp (K1 ho ha.ok hb.ok) (qU hd)⟩
def Na(hr:IxR X r)(hd:OpD K mg r k.G)(ha:DE K mg X ES a p)(hb:DE K mg X ES b q)(hs:vo b:=by exact λ_ _=>rfl):DE K mg X ES (.Subscript a b pos) (pOp k p q):=⟨PE.imp (Nt hr ha.ok hb.ok hs) (qU hd)⟩
def Ji(ho:OpR X (compareOp op) r)(hd:OpD K mg r k.G)(ha:DE K mg X ES a p)(hb:DE K mg X ES b q)(hm:behindInMarks op b=false:=by first |exact AZ _ |with_unfolding_all rfl):DE K mg X ES (.Compare a [op] [b] pos) (pOp k p q):=⟨PE.imp (Fp ho ha.ok hb.ok hm) (qU hd)⟩
def jl{Y N0 L:Addr->Prop}{b:Bool}(S1:Sat K mg Y N0 ns1 e1 σ H1)(r1:relE K mg Y N0 L σ ns1 e1 H1 d1 t1)(q:bOf (rs e1 t1)=some b):d1=.bl b:=by
 unfold bOf at q;split at q
 .rename_i b' q';cases q;exact (r1.sh S1 q').bl
 .cases q
def vU(σ:St)(H:Hp)(Q:Bool->Hp->Prop):rdT K mg ES (qOf F).G σ H Q->rdE K mg ES F.G σ H λx H'=>∃k,x=.bl k/\Q k H':=λzz=>zz.el λY N0 ns e S p=>
 ⟨Y,
  N0,λ_=>True,ns,e,S,λ_ _=>trivial,PG3.imp p S λt1 e1 ns1 H1 a1 S1 p1 x r1=>by
  try dsimp only at p1
  split at p1
  .rename_i b q;exact⟨b,jl S1 r1 q,p1.ret S1⟩
  .exact p1.elim⟩
def Ie(ho:OpR X (compareOp op) r)(hd:OpD K mg r k.G)(ha:DE K mg X ES a p)(hb:DE K mg X ES b q)(hm:behindInMarks op b=false:=by first |exact AZ _ |with_unfolding_all rfl):DT K mg X ES (.Compare a [op] [b] pos) (qOf (pOp k p q)):=
 ⟨PT.imp (Fm ho ha.ok hb.ok hm) λσ H Q z=>qU hd σ H _ (vU σ H Q z)⟩
def rV(ha:DE K mg X ES a p)(he:∀g_,isTrue a X.env g_=(do let v <- g_;standAt a.pos;holding [v] (truthy v)):=by intro _;rfl):DT K mg X ES a (qOf p):=⟨PT.imp (GX ha.ok he) λσ H Q z=>vU σ H Q z⟩
def sM(ha:DT K mg X ES a t):DT K mg X ES (.UnaryOp .Not a pos) (qNo t):=⟨PT.imp (G7 ha.ok) λσ H Q zz=>zz.el λY N0 ns e S p=>⟨Y,N0,ns,e,S,PG3.imp p S λb e1 ns1 H1 a1 S1 p1=>p1.ret S1⟩⟩
def Fq(ha:DT K mg X ES a t):DW K mg X ES (.BoolOp .And [a] pos) t:=⟨EM ha.ok⟩
def Jt(ha:DT K mg X ES a t):DW K mg X ES (.BoolOp .Or [a] pos) t:=⟨HA ha.ok⟩
def He(ha:DT K mg X ES a t)(hb:DW K mg X ES (.BoolOp .And (b::es) pos) u):DW K mg X ES (.BoolOp .And (a::b::es) pos) (qAn t u):=⟨PW.imp (KI ha.ok hb.ok) λσ H Q zz=>zz.el λY N0 ns e S p=>
 ⟨Y,N0,ns,e,S,PG3.imp p S λb e1 ns1 H1 a1 S1 p1=>by
  cases b with
  |true=>exact⟨Y,N0,ns1,e1,S1,p1⟩
  |false=>exact p1.ret S1⟩⟩
def Md(ha:DT K mg X ES a t)(hb:DW K mg X ES (.BoolOp .Or (b::es) pos) u):DW K mg X ES (.BoolOp .Or (a::b::es) pos) (qO t u):=⟨PW.imp (KR ha.ok hb.ok) λσ H Q zz=>zz.el λY N0 ns e S p=>
 ⟨Y,N0,ns,e,S,PG3.imp p S λb e1 ns1 H1 a1 S1 p1=>by
  cases b with
  |true=>exact p1.ret S1
  |false=>exact⟨Y,N0,ns1,e1,S1,p1⟩⟩⟩
def ZW.dt(h:DW K mg X ES a t):DT K mg X ES a t:=⟨h.ok.pt⟩
def zt_w{op}(h:DW K mg X ES (.BoolOp op es pos) t):DT K mg X ES (.BoolOp op es pos) t:=ZW.dt h
def Hr{op}(h:DE K mg X ES a p):DE K mg X ES (.BoolOp op [a] pos) p:=⟨Ho h.ok⟩
def Jc(ha:DE K mg X ES a p)(hb:DE K mg X ES (.BoolOp .And (b::es) pos) q):DE K mg X ES (.BoolOp .And (a::b::es) pos) (jx p q):=⟨PE.imp (KL ha.ok hb.ok) λσ H Q zz=>zz.el λY N0 L ns e S hl p=>
 ⟨Y,N0,L,ns,e,S,hl,PG3.imp p S λt e1 ns1 H1 a1 S1 p1 x r1=>by
  try dsimp only at p1
  split at p1
  .rename_i z;exact⟨true,jl S1 r1 z,Y,N0,L,ns1,e1,S1,λa z=>hl a (a1.dom a z),p1⟩
  .rename_i z;exact⟨false,jl S1 r1 z,p1.ret S1 _ (.bl false)⟩
  .exact p1.elim⟩⟩
def K8(ha:DE K mg X ES a p)(hb:DE K mg X ES (.BoolOp .Or (b::es) pos) q):DE K mg X ES (.BoolOp .Or (a::b::es) pos) (pOr p q):=⟨PE.imp (Lq ha.ok hb.ok) λσ H Q zz=>zz.el λY N0 L ns e S hl p=>
 ⟨Y,N0,L,ns,e,S,hl,PG3.imp p S λt e1 ns1 H1 a1 S1 p1 x r1=>by
  try dsimp only at p1
  split at p1
  .rename_i z;exact⟨true,jl S1 r1 z,p1.ret S1 _ (.bl true)⟩
  .rename_i z;exact⟨false,jl S1 r1 z,Y,N0,L,ns1,e1,S1,λa z=>hl a (a1.dom a z),p1⟩
  .exact p1.elim⟩⟩
def Jy(ha:DE K mg X ES a p):DE K mg X ES (.UnaryOp .Not a pos) (BW p):=⟨PE.imp (KJ ha.ok) λσ H Q zz=>zz.el λY N0 L ns e S hl p=>
 ⟨Y,N0,L,ns,e,S,hl,PG3.imp p S λt e1 ns1 H1 a1 S1 p1 x r1=>by
  try dsimp only at p1
  split at p1
  .rename_i z;exact⟨_,jl S1 r1 z,p1.ret S1 _ (.bl _)⟩
  .exact p1.elim⟩⟩
def Li{k:PU1}(ho:UnR X (unaryOp op) r)(hd:UnD K mg r k.G)(ha:DE K mg X ES a p):DE K mg X ES (.UnaryOp op a pos) (pUn k p):=⟨PE.imp (MJ ho ha.ok) λσ H Q zz=>zz.el λY N0 L ns e S hl p=>
 ⟨Y,N0,L,ns,e,S,hl,PG3.imp p S λt e1 ns1 H1 a1 S1 p1 x r1=>by
  try dsimp only at p1
  split at p1
  .rename_i v z;exact hd _ _ _ _ _ (r1.sh S1 z) (p1.bv S1 λa z=>hl a (a1.dom a z))
  .exact p1.elim⟩⟩
def sN:DA K mg X ES [] ag:=⟨PA.imp tf λσ H Q zz=>zz.el λY N0 ns e S p=>PG3.ret p S _ .nil⟩
def bO(ha:DE K mg X ES e p)(hr:DA K mg X ES es A)(hs:starEach (e::es) X.env=(false,eval e X.env)::starEach es X.env:=by rfl):DA K mg X ES (e::es) (aa p A):=⟨PA.imp (kU ha.ok hr.ok hs) λσ H Q zz=>zz.el λY N0 ns e S p=>
 ⟨Y,N0,λ_=>True,ns,e,S,λ_ _=>trivial,PG3.imp p S λt e1 ns1 H1 a1 S1 p1 x r1=>⟨Y,N0,ns1,e1,S1,PG3.imp p1 S1 λts e2 ns2 H2 a2 S2 p2 xs r2=>p2.ret S2 _ (by
  have r3:=r1.drop a2;generalize hg:t.drop=t' at *;cases t' with
  |val v=>exact .val r3 r2
  |new v=>cases t <;> cases hg
  |bor i=>exact .bor r3 r2)⟩⟩⟩
def Hv{x1}(h:DA K mg X ES es A):DE K mg X ES (.Tuple es x1 pos) (aH A):=⟨PE.imp (G1 h.ok) λσ H Q zz=>zz.el λY N0 L ns e S hl p=>
 ⟨Y,
  N0,ns,e,S,PG3.imp p S λts e1 ns1 H1 a1 S1 p1 xs r1=>by
  try dsimp only at p1
  split at p1
  .rename_i e2 vs q;split at p1
   .rename_i hv;obtain⟨ns2,S2,a2,r2⟩:=gJ S1 r1 q;exact⟨by rw[r2.len];exact hv,λp hp=>p1 _ ns2 (a2.trans S1 (.gr (Gr.upd hp))) (S2.gr (Gr.upd hp)) _ (.tup (SqT.of aO) (r2.mono (Gr.upd hp).mov))⟩
   .exact p1.elim
  .exact p1.elim⟩⟩
def Kj(h:DA K mg X ES es A):DE K mg X ES (.List es pos) (aY A):=⟨PE.imp (yN h.ok) λσ H Q zz=>zz.el λY N0 L ns e S hl p=>
 ⟨Y,
  N0,ns,e,S,PG3.imp p S λts e1 ns1 H1 a1 S1 p1 xs r1=>by
  try dsimp only at p1
  split at p1
  .rename_i e2 vs q;split at p1
   .rename_i hv;obtain⟨ns2,S2,a2,r2⟩:=gJ S1 r1 q;refine⟨by rw[r2.len];exact hv,λp hp=>PG3.bv (b:=.new (.lst vs)) (e:=e2) (X:=Y) (N0:=N0) (L:=L) (E:=ES σ) (λH' ns' a' S'=>p1 H' ns' (a2.trans S1 a') S') S2 (λa z=>hl a (a1.dom a z)) H1 p _ .refl hp trivial (.lst r2)⟩
   .exact p1.elim
  .exact p1.elim⟩⟩
def qZ{g:PBf}(hd:c6 K mg r g.G)(σ:St)(H:Hp)(Q:VK):rdE K mg ES (pFn g A).G σ H Q->tCB r (rdA K mg ES A.G) σ H Q:=λzz=>zz.el λY N0 L ns e S hl p=>
 ⟨Y,
  N0,ns,e,S,PG3.imp p S λts e1 ns1 H1 a1 S1 p1 xs r1=>by
  try dsimp only at p1
  split at p1
  .rename_i vs q;exact hd _ _ _ _ _ (r1.sh S1 q) (p1.bv S1 λa z=>hl a (a1.dom a z))
  .exact p1.elim⟩
def jw{id:String}{r:List V->Hp->VK->Prop}{k:PBf}{x:Str}{p0:Pos}(hc:CallR X (.builtin id) r)(hd:c6 K mg r k.G)(hg:Gl X x)(hm:mg x=none)(hv:bootBuiltins x=some (.builtin id))(ha:DA K mg X ES (e::es) A)(hk:X.mg=mg:=by rfl)(hn:x ≠ "__name__":=by decide)(hdb:(x==("__debug__" : Str))=false:=by decide)
 (he:starEach (e::es) X.env=(false,eval e X.env)::starEach es X.env:=by rfl) (hpl:(backTo pos (starEach es X.env)).any (·.1)=false:=by rfl):DE K mg X ES (.Call (.Name x p0) (e::es) [] pos) (pFn k A):=by
 subst hk;exact⟨PE.imp (DH hc hg hm hv ha.ok hn hdb he hpl) (qZ hd)⟩
def pE{id:String}{r:List V->Hp->VK->Prop}{k:PBf}{x:Str}{p0:Pos}(hc:CallR X (.type id) r)(hd:c6 K mg r k.G)(hg:Gl X x)(hm:mg x=none)(hv:bootBuiltins x=some (.type id))(ha:DA K mg X ES (e::es) A)(hk:X.mg=mg:=by rfl)(hn:x ≠ "__name__":=by decide)(hdb:(x==("__debug__" : Str))=false:=by decide)
 (he:starEach (e::es) X.env=(false,eval e X.env)::starEach es X.env:=by rfl) (hpl:(backTo pos (starEach es X.env)).any (·.1)=false:=by rfl):DE K mg X ES (.Call (.Name x p0) (e::es) [] pos) (pFn k A):=by
 subst hk;exact⟨PE.imp (As hc hg hm hv ha.ok hn hdb he hpl) (qZ hd)⟩
end
inductive Rt where
 |val (v:Val) |new (v:Val) |par (i:Nat) |pr (v u:Val)
inductive SR3 where
 |nx (e:E3) |rt (r:Rt) (e:E3) |bk (e:E3) |ct (e:E3) |exc (c:Str) (e:E3) |stuck
abbrev MS3:=E3->SR3
section
variable(K:W.Frag)(mg:Qt)
def RtR(X N0:Addr->Prop)(ns:Ns)(e:E3)(σ:St)(H:Hp)(d:V):Rt->Prop
 |.val v=>Sat K mg X N0 ns e σ H/\Rd K mg (Oc X ns) H d v
 |.new v=>∃n o,d=.ref n/\N0 n/\¬ X n/\H n=some o/\NotFz o/\Sat K mg (Xn X n) N0 ns e σ H/\Rc K mg (Oc (Xn X n) ns) H o v
 |.par i=>Sat K mg X N0 ns e σ H/\σ[i]?=some (some d)/\∃v,e[i]?=some (.mu v)
 |.pr v u=>∃p d1 n o,d=.ref p/\SqT K H p [d1,.ref n]/\N0 n/\¬ X n/\H n=some o/\NotFz o/\Sat K mg (Xn X n) N0 ns e σ H/\Rd K mg (Oc (Xn X n) ns) H d1 v/\Rc K mg (Oc (Xn X n) ns) H o u
def PS3(X N0:Addr->Prop)(ns:Ns)(e:E3)(H:Hp)(D:Ends)(ES:St->XK):SR3->Prop
 |.nx e'=>∀H' σ' ns',Stp ns e H ns' e' H'->Sat K mg X N0 ns' e' σ' H'->D.nx σ' H'
 |.bk e'=>∀H' σ' ns',Stp ns e H ns' e' H'->Sat K mg X N0 ns' e' σ' H'->D.bk σ' H'
 |.ct e'=>∀H' σ' ns',Stp ns e H ns' e' H'->Sat K mg X N0 ns' e' σ' H'->D.ct σ' H'
 |.rt r e'=>∀H' σ' ns' x,Stp ns e H ns' e' H'->RtR K mg X N0 ns' e' σ' H' x r->D.rt x H'
 |.exc c e'=>∀H' σ' ns' C,Stp ns e H ns' e' H'->Sat K mg X N0 ns' e' σ' H'->mg c=some (.ref C)->ES σ' (.ref C) none H'
 |.stuck=>False
def rdS(ES:St->XK)(G:MS3):TS:=λD σ H=>∃X N0 ns e,Sat K mg X N0 ns e σ H/\PS3 K mg X N0 ns e H D ES (G e)
end
def rdS.el{K:W.Frag}{mg:Qt}{ES:St->XK}{σ:St}{H:Hp}{Z:Prop}{G:MS3}{D:Ends}(h:rdS K mg ES G D σ H)(k:∀X N0 ns e,Sat K mg X N0 ns e σ H->PS3 K mg X N0 ns e H D ES (G e)->Z):Z:=by obtain⟨X,N0,ns,e,S,p⟩:=h;exact k X N0 ns e S p
noncomputable def R3.toS {α:Type} (r:R3 α) (f:α->E3->SR3):SR3:=match r with
 |.ok a e=>f a e
 |.exc c e=>.exc c e
 |.stuck=>.stuck
noncomputable def SR3.then (r:SR3) (f:E3->SR3):SR3:=match r with
 |.nx e=>f e
 |r=>r
noncomputable def wSeq (F G:MS3) (e:E3):SR3:=(F e).then G
noncomputable def wIf (c:MT3) (F G:MS3) (e:E3):SR3:=(c e).toS λb e1=>if b=true then F e1 else G e1
noncomputable def oG (t:Tm) (e:E3):SR3:=match t with
 |.val v=>.rt (.val v) e
 |.new v=>.rt (.new v) e
 |.bor i=>match e[i]? with
  |some (.sh v)=>.rt (.val v) e
  |some (.ow v)=>.rt (.new v) (e.set i .no)
  |some (.mu _)=>.rt (.par i) e
  |_=>.stuck
noncomputable def jD (o:Bool) (i:Nat) (t:Tm) (e:E3):SR3:=match e[i]? with
 |some s0=>if s0.pl=true then (match t with
  |.val v=>.nx (e.set i (.sh v))
  |.new v=>.nx (e.set i (if o=true then .ow v else .sh v))
  |.bor j=>match cR e (.bor j) with
   |some (e2,v)=>.nx (e2.set i (.sh v))
   |none=>.stuck) else .stuck
 |none=>.stuck
abbrev MG3:=Val->E3->Option E3
abbrev j4:=List Val->E3->Option E3
noncomputable def pN (i:Nat):MG3:=λv e=>match e[i]? with
 |some s=>if s.pl=true then some (e.set i (.sh v)) else none
 |none=>none
noncomputable def psN:j4:=λvs e=>match vs with
 | []=>some e
 |_=>none
noncomputable def psC (g:MG3) (u:j4):j4:=λvs e=>match vs with
 |v::r=>(g v e).bind λe1=>u r e1
 | []=>none
noncomputable def pT (n:Nat) (u:j4):MG3:=λv e=>match v with
 |.tup vs=>if vs.length=n then u vs e else none
 |_=>none
noncomputable def MZ (F:ME3) (g:MG3) (e:E3):SR3:=(F e).toS λt e1=>match cR e1 t with
 |some (e2,v)=>match g v e2 with
  |some e3=>.nx e3
  |none=>.stuck
 |none=>.stuck
noncomputable def wPar (i j:Nat) (A:MA3) (e:E3):SR3:=(A e).toS λts e1=>match dem e1 ts with
 |some (e2,[v,u])=>match (pN i v e2).bind (pN j u) with
  |some e3=>.nx e3
  |none=>.stuck
 |_=>.stuck
noncomputable def Di (i:Nat) (g:Val->Val->Bv) (F:ME3) (e:E3):SR3:=match e[i]? with
 |some (.sh x)=>(F e).toS λt e1=>match rs e1 t with
  |some y=>match g x y with
   |.val z=>match pN i z e1 with
    |some e2=>.nx e2
    |none=>.stuck
   |_=>.stuck
  |none=>.stuck
 |_=>.stuck
noncomputable def IP (c:Str) (A:MA3) (e:E3):SR3:=(A e).toS λts e1=>if ts.length<=16777216 then .exc c e1 else .stuck
structure PSt where
 t:Nat
 G:MS3
structure PGt where
 t:Nat
 G:MG3
structure PGs where
 t:Nat
 G:j4
noncomputable def xNx:PSt:=⟨1,.nx⟩
noncomputable def xBk:PSt:=⟨2,.bk⟩
noncomputable def xj:PSt:=⟨4,.rt (.val .non)⟩
noncomputable def aw (a:PEx):PSt:=⟨5,λe=>(a.G e).toS oG⟩
noncomputable def aW (a:PEx):PSt:=⟨6,λe=>(a.G e).toS λ_ e1=>.nx e1⟩
noncomputable def ao (a b:PSt):PSt:=⟨7,wSeq a.G b.G⟩
noncomputable def xIf (c:PTs) (a b:PSt):PSt:=⟨8,wIf c.G a.G b.G⟩
noncomputable def aE (o:Bool) (i:Nat) (a:PEx):PSt:=⟨9,λe=>(a.G e).toS (jD o i)⟩
noncomputable def gtN (i:Nat):PGt:=⟨1,pN i⟩
noncomputable def fJ:PGs:=⟨1,psN⟩
noncomputable def bR (a:PGt) (b:PGs):PGs:=⟨2,psC a.G b.G⟩
noncomputable def gtT (n:Nat) (a:PGs):PGt:=⟨2,pT n a.G⟩
noncomputable def jN (a:PEx) (g:PGt):PSt:=⟨10,MZ a.G g.G⟩
noncomputable def lH (i j:Nat) (a:PAs):PSt:=⟨11,wPar i j a.G⟩
noncomputable def su (i:Nat) (o:PO2) (a:PEx):PSt:=⟨12,Di i o.G a.G⟩
noncomputable def eC (c:Str) (a:PAs):PSt:=⟨13,IP c a.G⟩
noncomputable def xNo:PSt:=⟨14,λ_=>.stuck⟩
section
variable{K:W.Frag}{mg:Qt}{X N0:Addr->Prop}{ns ns1:Ns}{e e1:E3}{σ:St}{H H1:Hp}{De:Ends}{ES:St->XK}
def PS3.after(p:PS3 K mg X N0 ns e H De ES r)(S:Sat K mg X N0 ns e σ H)(a:Stp ns e H ns1 e1 H1):PS3 K mg X N0 ns1 e1 H1 De ES r:=by
 cases r with
 |stuck=>exact p
 |nx e'=>exact λH' σ' ns' b S'=>p H' σ' ns' (a.trans S b) S'
 |bk e'=>exact λH' σ' ns' b S'=>p H' σ' ns' (a.trans S b) S'
 |ct e'=>exact λH' σ' ns' b S'=>p H' σ' ns' (a.trans S b) S'
 |exc c e'=>exact λH' σ' ns' C b S'=>p H' σ' ns' C (a.trans S b) S'
 |rt r e'=>exact λH' σ' ns' x b S'=>p H' σ' ns' x (a.trans S b) S'
def PS3.toS{α:Type}{r:R3 α}{f:α->E3->SR3}{k:α->E3->Ns->Hp->Prop}(p:PS3 K mg X N0 ns e H De ES (r.toS f))(S:Sat K mg X N0 ns e σ H)
 (i:∀t e1 ns1 H1,Stp ns e H ns1 e1 H1->Sat K mg X N0 ns1 e1 σ H1->PS3 K mg X N0 ns e H De ES (f t e1)->k t e1 ns1 H1):PG3 K mg X N0 ns e σ H (ES σ) k r:=by
 cases r with
 |stuck=>exact p
 |exc c e'=>exact λH' ns' C a S' m=>p H' σ ns' C a S' m
 |ok t e'=>exact λH' ns' a S'=>i t e' ns' H' a S' p
def PS3.then{r:SR3}{f:E3->SR3}{N:St->Hp->Prop}(p:PS3 K mg X N0 ns e H De ES (r.then f))(S:Sat K mg X N0 ns e σ H)
 (i:∀e1 ns1 σ1 H1,Stp ns e H ns1 e1 H1->Sat K mg X N0 ns1 e1 σ1 H1->PS3 K mg X N0 ns1 e1 H1 De ES (f e1)->N σ1 H1):PS3 K mg X N0 ns e H { De with nx:=N } ES r:=by
 cases r with
 |nx e'=>exact λH' σ' ns' a S'=>i e' ns' σ' H' a S' (PS3.after p S a)
 |stuck=>exact p
 |bk e'=>exact p
 |ct e'=>exact p
 |exc c e'=>exact p
 |rt r e'=>exact p
def PS3.nx(p:PS3 K mg X N0 ns e H De ES (.nx e))(S:Sat K mg X N0 ns e σ H):De.nx σ H:=p H σ ns .refl S
def mI{d:V}{v:Val}{e':E3}(S:Sat K mg X N0 ns e σ H)(r:Rd K mg (Oc X ns) H d v)(q:pN i v e=some e'):Sat K mg X N0 (ns.set i none) e' (σ.set i (some d)) H/\Stp ns e H (ns.set i none) e' H:=by
 unfold pN at q;split at q
 .rename_i s q0;split at q
  .rename_i p0;cases q;have hi:=(w_.mp q0).1;exact⟨S.putN hi ⟨rfl,d,rfl,Rd.mono (.of λm p=>dW p) r⟩,Stp.refl.put (x:=none) (s:=.sh v) hi (λ_ z=>by cases z) q0 p0 rfl S.l2⟩
  .cases q
 .cases q
end
section
variable(K:W.Frag)(mg:Qt)(X:Cx)(ES:St->XK)
structure DS(st:Stmt)(F:PSt):Prop where
 ok:PS X st (rdS K mg ES F.G)
structure DSs(st:List Stmt)(F:PSt):Prop where
 ok:PSs X st (rdS K mg ES F.G)
def rdG(g:MG3):TG:=λv σ H Q=>∃Y N0 ns e u e',Sat K mg Y N0 ns e σ H/\Rd K mg (Oc Y ns) H v u/\g u e=some e'/\∀σ' ns',Stp ns e H ns' e' H->Sat K mg Y N0 ns' e' σ' H->Q σ' H
def rdGs(g:j4):TGs:=λvs σ H Q=>∃Y N0 ns e us e',Sat K mg Y N0 ns e σ H/\Rds K mg (Oc Y ns) H vs us/\g us e=some e'/\∀σ' ns',Stp ns e H ns' e' H->Sat K mg Y N0 ns' e' σ' H->Q σ' H
def rdG.el{K:W.Frag}{mg:Qt}{g:MG3}(h:rdG K mg g v σ H Q){Z:Prop}(k:∀Y N0 ns e u e',Sat K mg Y N0 ns e σ H->Rd K mg (Oc Y ns) H v u->g u e=some e'->(∀σ' ns',Stp ns e H ns' e' H->Sat K mg Y N0 ns' e' σ' H->Q σ' H)->Z):Z:=by obtain⟨Y,N0,ns,e,u,e',S,r,q,p⟩:=h;exact k Y N0 ns e u e' S r q p
def rdGs.el{K:W.Frag}{mg:Qt}{g:j4}(h:rdGs K mg g v σ H Q){Z:Prop}(k:∀Y N0 ns e us e',Sat K mg Y N0 ns e σ H->Rds K mg (Oc Y ns) H v us->g us e=some e'->(∀σ' ns',Stp ns e H ns' e' H->Sat K mg Y N0 ns' e' σ' H->Q σ' H)->Z):Z:=by obtain⟨Y,N0,ns,e,u,e',S,r,q,p⟩:=h;exact k Y N0 ns e u e' S r q p
structure DG(e:Expr)(g:PGt):Prop where
 ok:PG X e (rdG K mg g.G)
structure DGs(es:List Expr)(g:PGs):Prop where
 ok:L2.PGs X es (rdGs K mg g.G)
def gH:Prop:=∀(pins:Qu) (σ:St) (H:Hp) (s:Shared) (e:Value) (s':Shared),Inv X pins σ H s->CX1 X.prog X.w X.stack H s (ES σ) e s'->X.xe e s'
end
section
variable{K:W.Frag}{mg:Qt}{X:Cx}{ES:St->XK}{e a b c o i:Expr}{es:List Expr}{st:Stmt}{sts sts':List Stmt}{p q:PEx}{A:PAs}{t:PTs}{x y:PSt}{g:PGt}{gs:PGs}{pos:Pos}
def Gb:DSs K mg X ES [] xNx:=⟨PSs.imp Gw λD σ H zz=>zz.el λY N0 ns e S p=>PS3.nx p S⟩
def cV(h1:DS K mg X ES st x):DSs K mg X ES [st] x:=⟨F2 h1.ok⟩
def aA(h1:DS K mg X ES st x)(h2:DSs K mg X ES sts y):DSs K mg X ES (st::sts) (ao x y):=⟨PSs.imp (Bu h1.ok h2.ok) λD σ H zz=>zz.el λY N0 ns e S p=>
 ⟨Y,N0,ns,e,S,PS3.then p S λe1 ns1 σ1 H1 a1 S1 p1=>⟨Y,N0,ns1,e1,S1,p1⟩⟩⟩
def C3:DS K mg X ES (.Break pos) xBk:=⟨PS.imp C6 λD σ H zz=>zz.el λY N0 ns e S p=>p H σ ns .refl S⟩
def GL:DS K mg X ES (.Return none pos) xj:=⟨PS.imp FZ λD σ H zz=>zz.el λY N0 ns e S p=>p H σ ns _ .refl ⟨S,.non⟩⟩
def E6(he:DE K mg X ES e p)(hs:swapsWith e none pos.line X.env=pure false:=by rfl):DS K mg X ES (.Expr e pos) (aW p):=⟨PS.imp (FL he.ok hs) λD σ H zz=>zz.el λY N0 ns e S p=>
 ⟨Y,N0,λ_=>True,ns,e,S,λ_ _=>trivial,PS3.toS p S λt e1 ns1 H1 a1 S1 p1 x r1=>p1 H1 σ ns1 a1 S1⟩⟩
def rf(hc:DT K mg X ES c t)(ha:DSs K mg X ES sts x)(hb:DSs K mg X ES sts' y):DS K mg X ES (.If c sts sts' pos) (xIf t x y):=⟨PS.imp (MR hc.ok ha.ok hb.ok) λD σ H zz=>zz.el λY N0 ns e S p=>
 ⟨Y,N0,ns,e,S,PS3.toS p S λb e1 ns1 H1 a1 S1 p1=>by
  cases b with
  |true=>exact⟨Y,N0,ns1,e1,S1,PS3.after p1 S a1⟩
  |false=>exact⟨Y,N0,ns1,e1,S1,PS3.after p1 S a1⟩⟩⟩
def dS(he:DE K mg X ES e p):DS K mg X ES (.Return (some e) pos) (aw p):=⟨PS.imp (Kz he.ok) λD σ H zz=>zz.el λY N0 ns e S p=>
 ⟨Y,
  N0,N0,ns,e,S,S.lh,PS3.toS p S λt e1 ns1 H1 a1 S1 p1 x r1=>by
  cases t with
  |val v=>exact p1 H1 σ ns1 x a1 ⟨S1,r1⟩
  |new v=>exact p1 H1 σ ns1 x a1 r1
  |
   bor i=>
   have r':σ[i]?=some (some x):=r1;unfold oG at p1;try dsimp only at p1
   split at p1
   .rename_i v q;obtain⟨_,x',e1',e2⟩:=S1.sl i _ q;rw[r'] at e1';cases e1';exact p1 H1 σ ns1 x a1 ⟨S1,e2⟩
   .rename_i v q;obtain⟨n,o,q1,q2,q3,q4,q5,q6⟩:=S1.sl i _ q;rw[r'] at q2;cases q2;have hi:=(w_.mp q).1;have hn:i<ns1.length:=by rw[S1.l2];exact hi
    have mv:Mov (Oc Y ns1) (Oc (Xn Y n) (ns1.set i none)) H1 H1:=.of λm p=>⟨λz=>by
     rcases z with z |rfl
     .exact p.1 z
     .exact p.2 (bj.mpr ⟨i,q1⟩),(dW p).2⟩
    have S2:=S1.putN' hi (s:=.no) rfl;refine p1 H1 σ (ns1.set i none) _ (a1.put (x:=none) hi (λ_ z=>by cases z) q rfl rfl S1.l2) ⟨n,o,rfl,q3,S1.nx i n q1,q4,q5,⟨S2.l1,S2.l2,S2.lh,λm z=>?_,S2.inj,λj m qj z=>?_,λj s qj=>?_,S2.bs⟩,q6.mono mv⟩
    .rcases z with z |rfl
     .exact S2.xl m z
     .exact⟨_,q4⟩
    .rcases z with z |rfl
     .exact S2.nx j m qj z
     .rcases bS hn qj with ⟨_,y⟩ |⟨y,z⟩
      .cases y
      .exact y (S1.inj j i _ z q1)
    .rcases bS hi qj with ⟨rfl,rfl⟩ |⟨z,qj'⟩
     .rw[du hn];rfl
     .rw[b9 z];exact (S1.sl j s qj').mono mv λ_ _ _ q _=>q
   .rename_i v q;exact p1 H1 σ ns1 x a1 ⟨S1,r',v,q⟩
   .exact p1.elim⟩⟩
def zx{ow:Bool}{i:Nat}(D:Ends)(σ:St)(H:Hp):rdS K mg ES (aE ow i p).G D σ H->xP (rdE K mg ES p.G) (qQ i) D σ H:=λzz=>zz.el λY N0 ns e S p=>
 ⟨Y,
  N0,λa=>H a=none,ns,e,S,λ_ z=>z,PS3.toS p S λt e1 ns1 H1 a1 S1 p1 d r1=>by
  unfold jD at p1;split at p1
  .rename_i s0 q0;split at p1
   .rename_i p0;have hi:=(w_.mp q0).1;cases t with
    |val v=>exact p1 H1 _ _ (a1.put (x:=none) (s:=.sh v) hi (λ_ z=>by cases z) q0 p0 rfl S1.l2) (S1.putN hi ⟨rfl,d,rfl,Rd.mono (.of λm p=>dW p) r1⟩)
    |
     new v=>
     cases ow with
     |true=>obtain⟨n,ob,rfl,q1,q2,q3,q4,q5,q6⟩:=r1;exact p1 H1 _ _ (a1.put (x:=some n) (s:=.ow v) hi (λm z=>by cases z;exact q1) q0 p0 rfl S1.l2) (Sat.putO q5 q2 hi (S.lh n q1) q3 q4 q6)
     |false=>exact p1 H1 _ _ (a1.put (x:=none) (s:=.sh v) hi (λ_ z=>by cases z) q0 p0 rfl S1.l2) (S1.putN hi ⟨rfl,d,rfl,Rd.mono (.of λm p=>dW p) r1.new⟩)
    |
     bor j=>
     try dsimp only at p1
     split at p1
     .rename_i e2 v q2;obtain⟨ns2,S2,a2,r2⟩:=gp S1 r1 q2;have hq:∃s2,e2[i]?=some s2/\s2.pl=true:=by
       unfold cR at q2;dsimp only at q2;split at q2
       .cases q2;exact⟨s0,q0,p0⟩
       .rename_i u q3;cases q2;by_cases z:i=j
        .subst z;exact⟨_,du hi,rfl⟩
        .exact⟨s0,by rw[b9 z];exact q0,p0⟩
       .cases q2
      obtain⟨s2,hq1,hq2⟩:=hq;have hi2:=(w_.mp hq1).1;exact p1 H1 _ _ ((a1.trans S a2).put (x:=none) (s:=.sh v) hi2 (λ_ z=>by cases z) hq1 hq2 rfl S2.l2) (S2.putN hi2 ⟨rfl,d,rfl,Rd.mono (.of λm p=>dW p) r2⟩)
     .exact p1.elim
   .exact p1.elim
  .exact p1.elim⟩
def Jk{ow:Bool}{i:Nat}{x:Str}{l_:Pos}(hN:X.N.Nodup)(hi:X.N[i]?=some x)(hx:Loc X.env.scope x)(he:DE K mg X ES e p)(hs:swapsWith e (some (.Name x l_)) pos.line X.env=pure false)(hf:X.fn x=true\/X.env.scope.names.lookup x=some .local):
 DS K mg X ES (.Assign [.Name x l_] e pos) (aE ow i p):=⟨PS.imp (Im hN hi hx he.ok hs hf) zx⟩
def F6{i:Nat}{x:Str}(hN:X.N.Nodup)(hi:X.N[i]?=some x)(hx:Loc X.env.scope x)(hf:X.fn x=true\/X.env.scope.names.lookup x=some .local):DG K mg X (.Name x pos) (gtN i):=
 ⟨PG.imp (Fu hN hi hx hf) λv σ H Q zz=>zz.el λY N0 ns e u e' S r q k=>by obtain⟨S',a⟩:=mI S r q;exact k _ _ a S'⟩
def FF:DGs K mg X [] fJ:=⟨PGs.imp FQ λvs σ H Q zz=>zz.el λY N0 ns e us e' S r q k=>by
 cases r with
 |nil=>cases q;exact⟨rfl,k _ _ .refl S⟩
 |cons _ _=>cases q⟩
def Dn(h1:DG K mg X e g)(h2:DGs K mg X es gs)(hs:(assignEach (e::es) X.env).map (·.2)=assign e X.env::(assignEach es X.env).map (·.2):=by rfl):DGs K mg X (e::es) (bR g gs):=
 ⟨PGs.imp (Dv h1.ok h2.ok hs) λvs σ H Q zz=>zz.el λY N0 ns e us e' S r q k=>by
  cases r with
  |nil=>cases q
  |cons r rr=>obtain⟨e1,q1,q2⟩:=NH.mp q;exact⟨_,_,rfl,Y,N0,ns,e,_,e1,S,r,q1,λσ1 ns1 a1 S1=>⟨Y,N0,ns1,e1,_,e',S1,rr.mono a1.mov,q2,λσ2 ns2 a2 S2=>k σ2 ns2 (a1.trans S a2) S2⟩⟩⟩
def Kr(hK:X.K=K)(hc:X.calm=true)(h:DGs K mg X es gs)(hn:(assignEach es X.env).length=n:=by rfl)(hst:(assignEach es X.env).findIdx? (·.1)=none:=by rfl):DG K mg X (.Tuple es k pos) (gtT n gs):=by
 subst hK;exact
  ⟨PG.imp (Al hc h.ok hn hst) λv σ H Q zz=>zz.el λY N0 ns e u e' S r q k=>by
  have q:pT n gs.G u e=some e':=q;unfold pT at q;split at q
  .split at q
   .rename_i hl;obtain⟨a,vs,rfl,z,rr⟩:=ShR.tup (.inl r);exact⟨a,vs,rfl,z,by rw[rr.len];exact hl,Y,N0,ns,e,_,e',S,rr,q,k⟩
   .cases q
  .cases q⟩
def Fv(he:DE K mg X ES e p)(hg:DG K mg X a g)(hs:swapsWithSole [a] e pos.line X.env=pure false:=by rfl)(hw:swappedStores [a] e X.env=pure none:=by rfl)(h1:(assignEach [a] X.env).map (·.2)=[assign a X.env]:=by rfl):DS K mg X ES (.Assign [a] e pos) (jN p g):=
 ⟨PS.imp (zH he.ok hg.ok hs hw h1) λD σ H zz=>zz.el λY N0 ns e S p=>⟨Y,N0,λ_=>True,ns,e,S,λ_ _=>trivial,PS3.toS p S λt e1 ns1 H1 a1 S1 p1 x r1=>by
  try dsimp only at p1
  split at p1
  .rename_i e2 v q;obtain⟨ns2,S2,a2,r2⟩:=gp S1 r1 q;split at p1
   .rename_i e3 q3;exact⟨Y,N0,ns2,e2,v,e3,S2,r2,q3,λσ' ns' a3 S3=>p1 H1 σ' ns' ((a1.trans S a2).trans S a3) S3⟩
   .exact p1.elim
  .exact p1.elim⟩⟩
def Jo{i j:Nat}{x y:Str}{px py pt:Pos}{kt k2 pt2}(hN:X.N.Nodup)(ha:DA K mg X ES [a,b] A)(hc:X.calm=true:=by rfl)(hi:X.N[i]?=some x:=by rfl)(hj:X.N[j]?=some y:=by rfl)(hij:i≠j:=by decide)(hx:X.env.scope.names.lookup x=some .local:=by rfl)(hy:X.env.scope.names.lookup y=some .local:=by rfl)(hw:swappedStores [.Tuple [.Name x px,.Name y py] kt pt] (.Tuple [a,b] k2 pt2) X.env=pure (some [x,y]):=by rfl)(hs:swapsWithSole [.Tuple [.Name x px,.Name y py] kt pt] (.Tuple [a,b] k2 pt2) pos.line X.env=pure false:=by rfl):DS K mg X ES (.Assign [.Tuple [.Name x px,.Name y py] kt pt] (.Tuple [a,b] k2 pt2) pos) (lH i j A):=
 ⟨PS.imp
  (Kh hc hN hi hj hij hx hy ha.ok hw hs) λD σ H zz=>zz.el λY N0 ns e S p=>⟨Y,N0,ns,e,S,PS3.toS p S λts e1 ns1 H1 a1 S1 p1 xs r1=>by
  try dsimp only at p1
  split at p1
  .rename_i e2 v u q;obtain⟨ns2,S2,a2,r2⟩:=gJ S1 r1 q;split at p1
   .rename_i e3 q3;obtain⟨e4,q4,q5⟩:=NH.mp q3;cases r2 with
    |
     cons r rr=>
     cases rr with
     |cons r' rr=>cases rr;obtain⟨S3,a3⟩:=mI S2 r q4;obtain⟨S4,a4⟩:=mI S3 (r'.mono a3.mov) q5;exact⟨_,_,rfl,p1 H1 _ _ (((a1.trans S a2).trans S a3).trans S a4) S4⟩
   .exact p1.elim
  .exact p1.elim⟩⟩
def IpD(K:W.Frag)(mg:Qt)(r:TIp)(g:Val->Val->Bv):Prop:=∀P H x y v u Q,ShR K mg P H x v->ShR K mg P H y u->BvP K mg P H Q (g v u)->r x y H Q
def IC{i:Nat}{x:Str}{op:Operator}{ti:TIp}{l_:Pos}{k:PO2}(hN:X.N.Nodup)(he:DE K mg X ES e p)(ho:PIp X op ti)(hd:IpD K mg ti k.G)(hi:X.N[i]?=some x:=by rfl)(hx:Loc X.env.scope x:=by first |exact Or.inl rfl |exact Or.inr rfl)(hf:X.fn x=true\/X.env.scope.names.lookup x=some .local:=by first |exact .inl rfl |exact .inr rfl |assumption):DS K mg X ES (.AugAssign (.Name x l_) op e pos) (su i k p):=
 ⟨PS.imp
  (I0 hN hi hx he.ok ho hf) λD σ H zz=>zz.el λY N0 ns e S p=>by
  have p:PS3 K mg Y N0 ns e H D ES (Di i k.G _ e):=p;unfold Di at p;split at p
  .rename_i v q0;obtain⟨_,dx,e1,r0⟩:=S.sl i _ q0;refine⟨dx,e1,Y,N0,λ_=>True,ns,e,S,λ_ _=>trivial,PS3.toS p S λt e1 ns1 H1 a1 S1 p1 y r1=>?_⟩;try dsimp only at p1
   split at p1
   .rename_i u q1;refine hd _ _ _ _ _ _ _ (.inl (r0.mono a1.mov)) (r1.sh S1 q1) ?_;split at p1
    .rename_i z q2;rw[q2];split at p1
     .rename_i e2 q3;intro H2 dz g2 r2;obtain⟨S3,a3⟩:=mI (S1.gr g2) r2 q3;exact p1 H2 _ _ ((a1.trans S (.gr g2)).trans S a3) S3
     .exact p1.elim
    .exact p1.elim
   .exact p1.elim
  .exact p.elim⟩
def TsR.len{Y:Addr->Prop}(r:TsR K mg Y ns σ H ds ts):ds.length=ts.length:=by
 induction r with
 |nil=>rfl
 |val _ _ ih=>rw[D_,D_,ih]
 |bor _ _ ih=>rw[D_,D_,ih]
def C1{x:Str}{C:Addr}{E:XK}{np cpos:Pos}(hc:X.calm=true)(hR:Rz X E)(hg:Gl X x)(hm:mg x=some (.ref C))(hq:W.excIn X.K C og "ValueError.__new__"=true)(ha:DA K mg X (λ_=>E) (e::es) A)(hk:X.mg=mg:=by rfl)(he:starEach (e::es) X.env=(false,eval e X.env)::starEach es X.env:=by rfl)(d_:(backTo cpos (starEach es X.env)).any (·.1)=false:=by rfl)(hd:(x==("__debug__" : Str))=false:=by decide):DS K mg X (λ_=>E) (.Raise (some (.Call (.Name x np) (e::es) [] cpos)) none pos) (eC x A):=by
 subst hk;exact⟨PS.imp (Dk hc hR hg hm hq ha.ok he d_ hd) λD σ H zz=>zz.el λY N0 ns e S p=>⟨Y,N0,ns,e,S,PS3.toS p S λts e1 ns1 H1 a1 S1 p1 xs r1=>by
  try dsimp only at p1
  split at p1
  .rename_i hl;exact⟨by rw[r1.len];exact hl,p1 H1 σ ns1 C a1 S1 hm⟩
  .exact p1.elim⟩⟩
end
noncomputable def Sl.re (s:Sl) (u:Val):Sl:=match s with
 |.ow _=>.ow u
 |.mu _=>.mu u
 |s=>s
noncomputable def Sl.mv:Sl->Option Val
 |.ow v=>some v
 |.mu v=>some v
 |_=>none
section
variable{K:W.Frag}{mg:Qt}{X N0:Addr->Prop}{ns:Ns}{e:E3}{σ:St}{H:Hp}
def Sat.write(S:Sat K mg X N0 ns e σ H)(q:e[i]?=some s)(hm:s.mv=some u):∃n o,σ[i]?=some (some (.ref n))/\ns[i]?=some (some n)/\H n=some o/\NotFz o/\Rc K mg (Oc X ns) H o u/\
 ∀o' u',NotFz o'->Rc K mg (Oc X ns) H o' u'->Mov (Oc X ns) (Oc X ns) H (upd H n o')/\Sat K mg X N0 ns (e.set i (s.re u')) σ (upd H n o')/\Stp ns e H ns (e.set i (s.re u')) (upd H n o'):=by
 have hi:=(w_.mp q).1;have key:∃n o,ns[i]?=some (some n)/\σ[i]?=some (some (.ref n))/\H n=some o/\NotFz o/\Rc K mg (Oc X ns) H o u/\s.mt=true/\(∀o' u',NotFz o'->Rc K mg (Oc X ns) (upd H n o') o' u'->SlR K mg (Oc X ns) N0 (some (some n)) (some (some (.ref n))) (upd H n o') (s.re u')):=by
  have y:=S.sl i s q;cases s with
  |ow v=>cases hm;obtain⟨n,o,q1,q2,q3,q4,q5,q6⟩:=y;exact⟨n,o,q1,q2,q4,q5,q6,rfl,λo' u' hf r=>⟨n,o',rfl,rfl,q3,aO,hf,r⟩⟩
  |mu v=>cases hm;obtain⟨n,o,q1,q2,q4,q5,q6⟩:=y;exact⟨n,o,q1,q2,q4,q5,q6,rfl,λo' u' hf r=>⟨n,o',rfl,rfl,aO,hf,r⟩⟩
  |_=>cases hm
 obtain⟨n,o,k1,k2,k3,k4,k5,k6,k7⟩:=key;refine⟨n,o,k2,k1,k3,k4,k5,λo' u' hf r=>?_⟩;have up:∀m,m≠n->upd H n o' m=H m:=λm z=>aK z;have mv:Mov (Oc X ns) (Oc X ns) H (upd H n o'):=⟨LeH.wr k3 k4,λm ob p q' _=>⟨p,by rw[up m λz=>p.2 (bj.mpr ⟨i,by rw[z];exact k1⟩)];exact q'⟩⟩;have dom:∀a,upd H n o' a=none->H a=none:=λa z=>by rw[up a λy=>by subst y;rw[aO] at z;cases z] at z;exact z
 refine⟨mv,⟨by rw[NF];exact S.l1,by rw[NF];exact S.l2,λa z=>S.lh a (dom a z),λm z=>?_,S.inj,S.nx,λj s' qj=>?_,S.bs.wr k3 k4⟩,?_⟩
 .by_cases y:m=n
  .subst y;exact⟨o',aO⟩
  .rw[up m y];exact S.xl m z
 .rcases bS hi qj with ⟨rfl,rfl⟩ |⟨z,qj'⟩
  .rw[k1,k2];exact k7 o' u' hf (r.mono mv)
  .refine (S.sl j s' qj').mono mv λm ob qm qo _=>?_;rw[up m λy=>by subst y;exact z (S.inj j i m qm k1)];exact qo
 .refine⟨mv.le,dom,λm ob qm _ hM=>?_,λ_ _ q=>.inl q,λj s' qj hl=>?_,λj s' qj hl=>?_,λj v qj=>?_,λj v qj=>?_⟩
  .rw[up m λy=>by subst y;exact hM ⟨i,s,k1,q,k6⟩];exact qm
  .have z:j≠i:=λz=>by subst z;rw[q] at qj;cases qj;cases s <;> first |cases hl;done |cases k6;done
   rw[b9 z];exact⟨qj,rfl⟩
  .rcases bS hi qj with ⟨_,y⟩ |⟨z,qj'⟩
   .subst y;cases s <;> first |cases hl;done |cases k6;done
   .exact⟨qj',rfl⟩
  .rcases bS hi qj with ⟨rfl,y⟩ |⟨z,qj'⟩
   .cases s with
    |mu w=>exact⟨w,q,rfl⟩
    |ow w=>cases y
    |_=>cases k6
   .exact⟨v,qj',rfl⟩
  .by_cases z:j=i
   .subst z;rw[q] at qj;cases qj;exact⟨u',du hi,rfl⟩
   .exact⟨v,by rw[b9 z];exact qj,rfl⟩
end
noncomputable def wSet (i:Nat) (G:ME3) (F:ME3) (w:Val->Val->Val->Option Val) (e:E3):SR3:=(F e).toS λt e1=>match (e1[i]?).bind Sl.mv with
 |none=>.stuck
 |some _=>(G e1).toS λt2 e2=>match rs e2 t2 with
  |none=>.stuck
  |some vi=>match cR e2 t.drop with
   |none=>.stuck
   |some (e3,v)=>match e3[i]? with
    |none=>.stuck
    |some s=>match s.mv with
     |none=>.stuck
     |some u=>match w u vi v with
      |some u'=>.nx (e3.set i (s.re u'))
      |none=>.stuck
noncomputable def fO:Val->Bool
 |.lst _=>true
 |_=>false
noncomputable def tM (i:Nat) (m:Val->List Val->Option (Val×Val)) (vs:List Val) (e2:E3):R3 Tm:=match e2[i]? with
 |some s2=>match s2.mv with
  |some u=>match m u vs with
   |some (u',v)=>.ok (.val v) (e2.set i (s2.re u'))
   |none=>.stuck
  |none=>.stuck
 |none=>.stuck
noncomputable def oT (i:Nat) (m:Val->List Val->Option (Val×Val)) (A:MA3) (e:E3):R3 Tm:=match e[i]? with
 |some s=>if (s.mv.map fO)=some true then (A e).bind λts e1=>match dem e1 ts with
  |some (e2,vs)=>tM i m vs e2
  |none=>.stuck else .stuck
 |none=>.stuck
noncomputable def Mw (m:Val->List Val->Bv) (F:ME3) (A:MA3) (e:E3):R3 Tm:=(F e).bind λt e1=>if (rs e1 t).map fO=some true then (A e1).bind λts e2=>(match rs e2 t.drop,rss e2 ts with
 |some v,some vs=>if fO v=true then (m v vs).at e2 else .stuck
 |_,_=>.stuck) else .stuck
structure PSe where
 G:Val->Val->Val->Option Val
structure PMm where
 G:Val->List Val->Option (Val×Val)
structure PMv where
 G:Val->List Val->Bv
noncomputable def fP (i:Nat) (w:PSe) (k a:PEx):PSt:=⟨15,wSet i k.G a.G w.G⟩
noncomputable def jP (i:Nat) (m:PMm) (a:PAs):PEx:=⟨18,oT i m.G a.G⟩
noncomputable def qH (i:Nat) (m:PMm):PEx:=⟨19,oT i m.G oH⟩
noncomputable def kJ (m:PMv) (a:PEx) (b:PAs):PEx:=⟨20,Mw m.G a.G b.G⟩
section
variable(K:W.Frag)(mg:Qt)
def xG(r:sH)(w:Val->Val->Val->Option Val):Prop:=∀P H n o u di vi d v u' Q,¬ P n->H n=some o->NotFz o->Rc K mg P H o u->ShR K mg P H di vi->Rd K mg P H d v->w u vi v=some u'->(∀o',NotFz o'->Rc K mg P H o' u'->Q (upd H n o'))->r (.ref n) di d H Q
def MmD(r:V->List V->Hp->VK->Prop)(m:Val->List Val->Option (Val×Val)):Prop:=∀P H n o u ds vs u' v Q,¬ P n->H n=some o->NotFz o->Rc K mg P H o u->Rds K mg P H ds vs->m u vs=some (u',v)->(∀o' y,NotFz o'->Rc K mg P H o' u'->Rd K mg P H y v->Q y (upd H n o'))->r (.ref n) ds H Q
def MtD(r:V->List V->Hp->VK->Prop)(m:Val->List Val->Bv):Prop:=∀P H d v ds vs Q,ShR K mg P H d v->fO v=true->ShRs K mg P H ds vs->BvP K mg P H Q (m v vs)->r d ds H Q
end
section
variable{K:W.Frag}{mg:Qt}{X:Cx}{ES:St->XK}{e o i:Expr}{es:List Expr}{p q:PEx}{A:PAs}{pos p1:Pos}
def sE{j:Nat}{e:E3}{s:Sl}{u:Val}(q:e[j]?=some s)(h:s.mv=some u):eW j e=.ok (.bor j) e:=by unfold eW;rw[q];cases s <;> first |rfl |cases h
def FV{w:PSe}{r:sH}(he:DE K mg X ES e p)(ho:DE K mg X ES o (af j))(hi:DE K mg X ES i q)(hs':xJ X r)(hd:xG K mg r w.G)(hs:swapsWithSole [.Subscript o i p1] e pos.line X.env=pure false:=by rfl)(hw:swappedStores [.Subscript o i p1] e X.env=pure none:=by rfl)(h1:(assignEach [.Subscript o i p1] X.env).map (·.2)=[assign (.Subscript o i p1) X.env]:=by rfl)
 (ha:∀v,assign (.Subscript o i p1) X.env v=(do
  let ov <- holding [v] (eval o X.env)
  let iv <- holding [v,ov] (eval i X.env)
  standAt p1
  holding [v,ov,iv] (setItem ov iv v)
  release [v,ov,iv] []):=by intro _;rfl):DS K mg X ES (.Assign [.Subscript o i p1] e pos) (fP j w q p):=
 ⟨PS.imp
  (zH he.ok (IH ho.ok hi.ok hs' ha) hs hw h1) λD σ H zz=>zz.el λY N0 ns e S p=>⟨Y,N0,λ_=>True,ns,e,S,λ_ _=>trivial,PS3.toS p S λt e1 ns1 H1 a1 S1 p1 x r1=>by
  try dsimp only at p1
  split at p1
  .exact p1.elim
  .rename_i u0 qm;obtain⟨s0,y1,y2⟩:=NH.mp qm;refine⟨Y,N0,λ_=>True,ns1,e1,S1,λ_ _=>trivial,?_⟩;show PG3 K mg Y N0 ns1 e1 σ H1 (ES σ) _ (eW j e1);rw[sE y1 y2];intro H2 ns2 a2 S2 ov ro;refine⟨Y,N0,λ_=>True,ns2,e1,S2,λ_ _=>trivial,PS3.toS (PS3.after p1 S (a1.trans S a2)) S2 λt2 e2 ns3 H3 a3 S3 p3 iv r3=>?_⟩;try dsimp only at p3
   split at p3
   .exact p3.elim
   .rename_i vi qi;split at p3
    .exact p3.elim
    .rename_i e3 v qd;obtain⟨ns4,S4,a4,r4⟩:=gp S3 (r1.drop (a2.trans S1 a3)) qd;split at p3
     .exact p3.elim
     .rename_i s q3;split at p3
      .exact p3.elim
      .rename_i u q4;split at p3
       .rename_i u' q5;obtain⟨n,ob,k1,k0,k2,k3,k4,k5⟩:=S4.write q3 q4;have ro':σ[j]?=some (some ov):=ro;rw[k1] at ro';cases ro';refine hd (Oc Y ns4) _ _ _ _ _ _ _ _ _ _ (λz=>z.2 (bj.mpr ⟨j,k0⟩)) k2 k3 k4 ((r3.sh S3 qi).mono a4.mov .refl) r4 q5 λo' f' rc'=>?_;obtain⟨_,S5,a5⟩:=k5 o' u' f' rc';exact p3 _ _ _ ((a3.trans S2 a4).trans S2 a5) S5
       .exact p3.elim⟩⟩
def Ea{P:Addr->Prop}(r:ShR K mg P H d v)(q:fO v=true):tyV K "list" d H:=by
 cases v with
 |lst xs=>obtain⟨a,vs,rfl,h,_⟩:=r.lstL;exact .inl ⟨rfl,vs,h⟩
 |_=>cases q
def wu{Y N0 L:Addr->Prop}{ns:Ns}{e2:E3}{σ:St}{H:Hp}{k:PMm}{r:V->List V->Hp->VK->Prop}{vs:List Val}{E:XK}{Q:VK}(hd:MmD K mg r k.G)(S:Sat K mg Y N0 ns e2 σ H)(ro:σ[j]?=some (some ov))(rx:Rds K mg (Oc Y ns) H xs vs)(p:PG3 K mg Y N0 ns e2 σ H E (KE K mg Y N0 L σ Q) (tM j k.G vs e2)):r ov xs H Q:=by
 unfold tM at p;split at p
 .rename_i s2 q2;split at p
  .rename_i u q3;split at p
   .rename_i u' v q4;obtain⟨n,ob,k1,k0,k2,k3,k4,k5⟩:=S.write q2 q3;rw[k1] at ro;cases ro;refine hd (Oc Y ns) _ _ _ _ _ _ _ _ _ (λz=>z.2 (bj.mpr ⟨j,k0⟩)) k2 k3 k4 rx q4 λo' y f' rc' ry=>?_;obtain⟨mv,S4,a4⟩:=k5 o' u' f' rc';exact p _ _ a4 S4 _ (ry.mono mv)
   .exact p.elim
  .exact p.elim
 .exact p.elim
theorem vn{Y N0 L:Addr->Prop}{ns:Ns}{e:E3}{σ:St}{H:Hp}{m:Val->List Val->Option (Val×Val)}{A:MA3}{E:XK}{Q:VK}{R:V->Hp->Prop}(S:Sat K mg Y N0 ns e σ H)(p:PG3 K mg Y N0 ns e σ H E (KE K mg Y N0 L σ Q) (oT j m A e))
 (i:∀ov ns1 H1,Stp ns e H ns1 e H1->Sat K mg Y N0 ns1 e σ H1->σ[j]?=some (some ov)->tyV K "list" ov H1->PG3 K mg Y N0 ns1 e σ H1 E (KE K mg Y N0 L σ Q) ((A e).bind λts e1=>match dem e1 ts with
 |some (e2,vs)=>tM j m vs e2
 |none=>.stuck)->R ov H1):PG3 K mg Y N0 ns e σ H E (KE K mg Y N0 L σ R) (eW j e):=by
 unfold oT at p;split at p
 .rename_i s0 q0;split at p
  .rename_i hz;obtain⟨u0,z1,z2⟩:=M_.mp hz;rw[sE q0 z1];exact λH1 ns1 a1 S1 ov ro=>i ov ns1 H1 a1 S1 ro (Ea (v:=u0) (S1.bor ro (by rw[q0];cases s0 <;> first |exact z1 |cases z1)) z2) (p.after S a1)
  .exact p.elim
 .exact p.elim
def HH{j:Nat}{name:Str}{id:String}{apos cpos:Pos}{r:V->List V->Hp->VK->Prop}{k:PMm}(hK:X.K=K)(slot:Slot "list" name id)(hty:typeOf (.builtin id)=pure (.type "method_descriptor"))(hm:MtM X id r)(hd:MmD K mg r k.G)(ho:DE K mg X ES o (af j))(ha:DA K mg X ES (e::es) A)(j':attributeBase o name X.env (eval o X.env)=eval o X.env:=by rfl)(hfew:((backTo cpos (starEach (e::es) X.env)).all (λx=>!x.1)&&(backToKw cpos (keywordEach [] X.env)).all (λx=>x.1.isSome)&&decide ((e::es).length+([]:List Keyword).length+(if ([]:List Keyword).isEmpty then 0 else 1)<30))=true:=by rfl)(k_:(apos.endLine==cpos.line)=true:=by rfl)(hs:starEach (e::es) X.env=(false,eval e X.env)::starEach es X.env:=by rfl)(d_:(backTo cpos (starEach es X.env)).any (·.1)=false:=by rfl):DE K mg X ES (.Call (.Attribute o name apos) (e::es) [] cpos) (jP j k A):=by
 subst hK;exact
  ⟨PE.imp (wZ PN slot hty hm ho.ok ha.ok j' hfew k_ hs d_) λσ H Q zz=>zz.el λY N0 L ns e S hl p=>
  ⟨Y,
   N0,L,ns,e,S,hl,vn S p λov ns1 H1 a1 S1 ro ty p1=>⟨ty,Y,N0,ns1,e,S1,PG3.imp p1 S1 λts e1 ns2 H2 a2 S2 p2 xs r2=>by
   try dsimp only at p2
   split at p2
   .rename_i e2 vs q1;obtain⟨ns3,S3,a3,r3⟩:=gJ S2 r2 q1;exact wu hd S3 ro r3 (p2.after S2 a3)
   .exact p2.elim⟩⟩⟩
def FE{j:Nat}{name:Str}{id:String}{apos cpos:Pos}{r:V->List V->Hp->VK->Prop}{k:PMm}(hK:X.K=K)(slot:Slot "list" name id)(hty:typeOf (.builtin id)=pure (.type "method_descriptor"))(hm:MtM X id r)(hd:MmD K mg r k.G)(ho:DE K mg X ES o (af j))(j':attributeBase o name X.env (eval o X.env)=eval o X.env:=by rfl)(k_:(apos.endLine==cpos.line)=true:=by rfl):DE K mg X ES (.Call (.Attribute o name apos) [] [] cpos) (qH j k):=by
 subst hK;exact⟨PE.imp (HM PN slot hty hm ho.ok j' k_) λσ H Q zz=>zz.el λY N0 L ns e S hl p=>
  ⟨Y,N0,L,ns,e,S,hl,vn S p λov ns1 H1 a1 S1 ro ty p1=>⟨ty,wu hd S1 ro .nil p1⟩⟩⟩
def Fo{name:Str}{id:String}{apos cpos:Pos}{r:V->List V->Hp->VK->Prop}{k:PMv}(hK:X.K=K)(slot:Slot "list" name id)(hty:typeOf (.builtin id)=pure (.type "method_descriptor"))(hm:MtM X id r)(hd:MtD K mg r k.G)(ho:DE K mg X ES o p)(ha:DA K mg X ES (e::es) A)(j':attributeBase o name X.env (eval o X.env)=eval o X.env:=by rfl)(hfew:((backTo cpos (starEach (e::es) X.env)).all (λx=>!x.1)&&(backToKw cpos (keywordEach [] X.env)).all (λx=>x.1.isSome)&&decide ((e::es).length+([]:List Keyword).length+(if ([]:List Keyword).isEmpty then 0 else 1)<30))=true:=by rfl)(k_:(apos.endLine==cpos.line)=true:=by rfl)(hs:starEach (e::es) X.env=(false,eval e X.env)::starEach es X.env:=by rfl)(d_:(backTo cpos (starEach es X.env)).any (·.1)=false:=by rfl):DE K mg X ES (.Call (.Attribute o name apos) (e::es) [] cpos) (kJ k p A):=by
 subst hK;exact
  ⟨PE.imp (wZ PN slot hty hm ho.ok ha.ok j' hfew k_ hs d_) λσ H Q zz=>zz.el λY N0 L ns e S hl p=>
  ⟨Y,
   N0,L,ns,e,S,hl,PG3.imp p S λt e1 ns1 H1 a1 S1 p1 x r1=>by
   try dsimp only at p1
   split at p1
   .rename_i hq;obtain⟨v0,z1,z2⟩:=M_.mp hq;refine⟨Ea (r1.sh S1 z1) z2,Y,N0,ns1,e1,S1,PG3.imp p1 S1 λts e2 ns2 H2 a2 S2 p2 xs r2=>?_⟩;try dsimp only at p2
    split at p2
    .rename_i v vs q1 q2;split at p2
     .rename_i hv;exact hd _ _ _ _ _ _ _ ((r1.drop a2).sh S2 q1) hv (r2.sh S2 q2) (p2.bv S2 λa z=>hl a (a1.dom a (a2.dom a z)))
     .exact p2.elim
    .exact p2.elim
   .exact p1.elim⟩⟩
end
noncomputable def ik:Sl->Sl
 |.ow v=>.lo v
 |.mu v=>.lm v
 |s=>s
noncomputable def jc:Sl->Sl
 |.lo v=>.ow v
 |.lm v=>.mu v
 |s=>s
noncomputable def lock (e:E3) (k:Nat):E3:=match e[k]? with
 |some s=>e.set k (ik s)
 |none=>e
noncomputable def unlock (e:E3) (k:Nat):E3:=match e[k]? with
 |some s=>e.set k (jc s)
 |none=>e
noncomputable def lockO (e:E3):Option Nat->E3
 |some k=>lock e k
 |none=>e
noncomputable def fE (e:E3):Option Nat->E3
 |some k=>unlock e k
 |none=>e
section
variable{K:W.Frag}{mg:Qt}{X N0:Addr->Prop}{ns ns':Ns}{e e':E3}{σ:St}{H H':Hp}
def SlR.lock(r:SlR K mg P N0 n d H s):SlR K mg P N0 n d H (ik s):=by cases s <;> exact r
def SlR.unlock(r:SlR K mg P N0 n d H s):SlR K mg P N0 n d H (jc s):=by cases s <;> exact r
def Sat.setS(S:Sat K mg X N0 ns e σ H)(q:e[k]?=some s)(f:Sl->Sl)(hf:SlR K mg (Oc X ns) N0 (ns[k]?) (σ[k]?) H s->SlR K mg (Oc X ns) N0 (ns[k]?) (σ[k]?) H (f s)):Sat K mg X N0 ns (e.set k (f s)) σ H:=by
 have hi:=(w_.mp q).1;refine⟨by rw[NF];exact S.l1,by rw[NF];exact S.l2,S.lh,S.xl,S.inj,S.nx,λj s' qj=>?_,S.bs⟩;rcases bS hi qj with ⟨rfl,rfl⟩ |⟨z,qj'⟩
 .exact hf (S.sl j s q)
 .exact S.sl j s' qj'
def Sat.lock(S:Sat K mg X N0 ns e σ H)(k:Nat):Sat K mg X N0 ns (lock e k) σ H:=by
 unfold L3.lock;split
 .rename_i s q;exact S.setS q ik SlR.lock
 .exact S
def Sat.unlock(S:Sat K mg X N0 ns e σ H)(k:Nat):Sat K mg X N0 ns (unlock e k) σ H:=by
 unfold L3.unlock;split
 .rename_i s q;exact S.setS q jc SlR.unlock
 .exact S
def Sat.lockO(S:Sat K mg X N0 ns e σ H)(k:Option Nat):Sat K mg X N0 ns (lockO e k) σ H:=by
 cases k with
 |none=>exact S
 |some k=>exact S.lock k
def jh(z:j≠k):(lock e k)[j]?=e[j]?:=by
 unfold lock;split
 .rw[b9 z]
 .rfl
def gw(z:j≠k):(unlock e k)[j]?=e[j]?:=by
 unfold unlock;split
 .rw[b9 z]
 .rfl
def nT(q:e[k]?=some s):(lock e k)[k]?=some (ik s):=by unfold lock;rw[q];exact du (w_.mp q).1
def iu(q:e[k]?=some s):(unlock e k)[k]?=some (jc s):=by unfold unlock;rw[q];exact du (w_.mp q).1
def Stp.unlock(q:e[k]?=some s)(hs:s.mt=true)(a:Stp ns (L3.lock e k) H ns' e' H'):Stp ns e H ns' (L3.unlock e' k) H':=by
 have hl:(ik s).lk=true:=by cases s <;> first |rfl |cases hs
 have hu:jc (ik s)=s:=by cases s <;> first |rfl |cases hs
 obtain⟨qk,nk⟩:=a.lk k _ (nT q) hl;refine⟨a.le,a.dom,λm o qm ht hM=>a.keep m o qm ht λ⟨j,s',z1,z2,z3⟩=>hM ?_,a.nw,λj s' qj hj=>?_,λj s' qj hj=>?_,λj v qj=>?_,λj v qj=>?_⟩
 .by_cases z:j=k
  .subst z;exact⟨j,s,z1,q,hs⟩
  .rw[jh z] at z2;exact⟨j,s',z1,z2,z3⟩
 .have z:j≠k:=λz=>by subst z;rw[q] at qj;cases qj;cases s <;> first |cases hs;done |cases hj;done
  rw[gw z];exact a.lk j s' (by rw[jh z];exact qj) hj
 .have z:j≠k:=λz=>by subst z;rw[iu qk,hu] at qj;cases qj;cases s <;> first |cases hs;done |cases hj;done
  rw[gw z] at qj;obtain⟨y1,y2⟩:=a.lk' j s' qj hj;rw[jh z] at y1;exact⟨y1,y2⟩
 .by_cases z:j=k
  .subst z;rw[iu qk,hu] at qj;cases qj;exact⟨v,q,nk⟩
  .rw[gw z] at qj;obtain⟨u,y1,y2⟩:=a.mu j v qj;rw[jh z] at y1;exact⟨u,y1,y2⟩
 .by_cases z:j=k
  .subst z;rw[q] at qj;cases qj;exact⟨v,by rw[iu qk,hu],nk⟩
  .obtain⟨u,y1,y2⟩:=a.mu' j v (by rw[jh z];exact qj);exact⟨u,by rw[gw z];exact y1,y2⟩
end
abbrev MI3:=E3->R3 (List Val×Option Nat)
noncomputable def gG:Val->Option (List Val)
 |.tup xs=>some xs
 |.lst xs=>some xs
 |_=>none
noncomputable def iO (t:Tm) (e:E3):Option (List Val×Option Nat):=match t with
 |.val v=>(gG v).map λxs=>(xs,none)
 |.new v=>(gG v).map λxs=>(xs,none)
 |.bor k=>match e[k]? with
  |some (.sh v)=>(gG v).map λxs=>(xs,none)
  |some (.ow (.lst xs))=>some (xs,some k)
  |some (.mu (.lst xs))=>some (xs,some k)
  |_=>none
noncomputable def M6 (F:ME3) (e:E3):R3 (List Val×Option Nat):=(F e).bind λt e1=>match iO t e1 with
 |some p=>.ok p e1
 |none=>.stuck
noncomputable def Ln (A:MA3) (e:E3):R3 (List Val×Option Nat):=(A e).bind λts e1=>match ts with
 | [t,u]=>(match iO t e1,iO u e1 with
  |some (xs,k),some (ys,none)=>.ok (List.zipWith (λx y=>.tup [x,y]) xs ys,k) e1
  |_,_=>.stuck)
 |_=>.stuck
noncomputable def mr (lo:Int) (k:Nat):List Val:=(List.range k).map λi=>Val.int (lo+(i:Nat))
structure RgB(j:Int):Prop where
 lo:-(2^62)<=j
 hi:j<2^62
def jI:List Val->Option (List Val)
 | [.int j]=>@ite _ (RgB j) (Classical.propDecidable _) (some (mr 0 j.toNat)) none
 |_=>none
def rD:List Val->Option (List Val)
 | [.int i,.int j]=>@ite _ (RgB i/\RgB j) (Classical.propDecidable _) (some (mr i (j-i).toNat)) none
 |_=>none
noncomputable def Cf (f:List Val->Option (List Val)) (A:MA3) (e:E3):R3 (List Val×Option Nat):=(A e).bind λts e1=>match (rss e1 ts).bind f with
 |some xs=>.ok (xs,none) e1
 |none=>.stuck
noncomputable def SR3.loop (r:SR3) (f:E3->SR3):SR3:=match r with
 |.nx e=>f e
 |.ct e=>f e
 |.bk e=>.nx e
 |.rt d e=>.rt d e
 |.exc c e=>.exc c e
 |.stuck=>.stuck
noncomputable def fB (g:MG3) (B:MS3):List Val->MS3
 | [],e=>.nx e
 |v::vs,e=>match g v e with
  |some e1=>(B e1).loop (fB g B vs)
  |none=>.stuck
noncomputable def SR3.unl (k:Option Nat) (r:SR3):SR3:=match r with
 |.nx e=>.nx (fE e k)
 |.ct e=>.ct (fE e k)
 |.bk e=>.bk (fE e k)
 |.rt d e=>.rt d (fE e k)
 |.exc c e=>.exc c (fE e k)
 |.stuck=>.stuck
noncomputable def wFor (I:MI3) (g:MG3) (B:MS3) (e:E3):SR3:=(I e).toS λp e1=>(fB g B p.1 (lockO e1 p.2)).unl p.2
noncomputable def whV (c:MT3) (B:MS3):Nat->MS3
 |0,_=>.stuck
 |k+1,e=>(c e).toS λb e1=>if b=true then (B e1).loop (whV c B k) else .nx e1
open Classical in
def wWh(c:MT3)(B:MS3):MS3:=λe=>if q:∃k,whV c B k e ≠ .stuck then whV c B q.choose e else .stuck
theorem lX{c:MT3}{B:MS3}:∀{k:Nat}{e:E3},whV c B k e ≠ .stuck->whV c B (k+1) e=whV c B k e
 |0,_,q=>absurd rfl q
 |
  k+1,e,q=>by
  have e1:whV c B (k+2) e=(c e).toS λb e1=>if b=true then (B e1).loop (whV c B (k+1)) else .nx e1:=rfl
  have e2:whV c B (k+1) e=(c e).toS λb e1=>if b=true then (B e1).loop (whV c B k) else .nx e1:=rfl
  rw[e2] at q;rw[e1,e2];cases r:c e with
  |exc _ _=>rfl
  |stuck=>rfl
  |
   ok b h1=>
   rw[r] at q;cases b with
   |false=>rfl
   |
    true=>
    have q':(B h1).loop (whV c B k) ≠ .stuck:=q;show (B h1).loop (whV c B (k+1))=(B h1).loop (whV c B k);cases s:B h1 with
    |nx a2=>rw[s] at q';exact lX q'
    |ct a2=>rw[s] at q';exact lX q'
    |_=>rfl
def yL{c:MT3}{B:MS3}{k j:Nat}{e:E3}(q:whV c B k e ≠ .stuck)(hj:k<=j):whV c B j e=whV c B k e:=by
 induction hj with
 |refl=>rfl
 |step _ ih=>rw[lX (by rw[ih];exact q),ih]
def mK{c:MT3}{B:MS3}{k:Nat}{e:E3}(q:whV c B k e ≠ .stuck):wWh c B e=whV c B k e:=by
 have hq:∃k,whV c B k e ≠ .stuck:=⟨k,q⟩;unfold wWh;rw[dif_pos hq];rcases Nat.le_total hq.choose k with z |z
 .exact (yL hq.choose_spec z).symm
 .exact yL q z
def Br(c:MT3)(B:MS3)(e:E3):wWh c B e=(c e).toS λb e1=>if b=true then (B e1).loop (wWh c B) else .nx e1:=by
 by_cases q:∃k,whV c B k e ≠ .stuck
 .obtain⟨k,q⟩:=q;rw[mK q];cases k with
  |zero=>exact absurd rfl q
  |
   succ k=>
   have e2:whV c B (k+1) e=(c e).toS λb e1=>if b=true then (B e1).loop (whV c B k) else .nx e1:=rfl
   rw[e2] at q ⊢;cases r:c e with
   |exc _ _=>rfl
   |stuck=>rfl
   |
    ok b h1=>
    rw[r] at q;cases b with
    |false=>rfl
    |
     true=>
     have q':(B h1).loop (whV c B k) ≠ .stuck:=q;show (B h1).loop (whV c B k)=(B h1).loop (wWh c B);cases s:B h1 with
     |nx a2=>rw[s] at q';exact (mK q').symm
     |ct a2=>rw[s] at q';exact (mK q').symm
     |_=>rfl
 .have e0:wWh c B e=.stuck:=by unfold wWh;rw[dif_neg q]
  rw[e0];have hs:∀k,whV c B (k+1) e=.stuck:=λk=>Classical.byContradiction λz=>q ⟨_,z⟩;cases r:c e with
  |stuck=>rfl
  |
   exc c' h'=>
   have:=hs 0
   unfold whV at this;rw[r] at this;cases this
  |
   ok b h1=>
   cases b with
   |
    false=>
    have:=hs 0
    unfold whV at this;rw[r] at this;cases this
   |
    true=>
    have h2:∀k,(B h1).loop (whV c B k)=.stuck:=λk=>by
     have:=hs k
     unfold whV at this;rw[r] at this;exact this
    show SR3.stuck=(B h1).loop (wWh c B);have lim:∀a2,(∀k,whV c B k a2=.stuck)->wWh c B a2=.stuck:=λa2 z=>by unfold wWh;rw[dif_neg (λ⟨k,y⟩=>y (z k))]
    cases s:B h1 with
    |nx a2=>rw[s] at h2;exact (lim a2 h2).symm
    |ct a2=>rw[s] at h2;exact (lim a2 h2).symm
    |stuck=>rfl
    |_=>have:=h2 0;rw[s] at this;cases this
structure PIt where
 t:Nat
 G:MI3
noncomputable def dJ (a:PEx):PIt:=⟨1,M6 a.G⟩
def kW(a:PAs):PIt:=⟨2,Cf jI a.G⟩
def x9(a:PAs):PIt:=⟨3,Cf rD a.G⟩
noncomputable def yt (a:PAs):PIt:=⟨5,Ln a.G⟩
noncomputable def lO (i:PIt) (g:PGt) (b:PSt):PSt:=⟨16,wFor i.G g.G b.G⟩
def xWh(c:PTs)(b:PSt):PSt:=⟨17,wWh c.G b.G⟩
section
variable(K:W.Frag)(mg:Qt)
structure Kp(X:Addr->Prop)(ns:Ns)(k:Option Nat)(H0:Hp)(P:Addr->Prop)(H:Hp):Prop where
 mov:Mov (Oc X ns) P H0 H
 lk:∀(j:Nat) (a:Addr) (o:HO),k=some j->ns[j]?=some (some a)->H0 a=some o->nO o->H a=some o
def Kp.refl:Kp X ns k H (Oc X ns) H:=⟨.of λ_ z=>z,λ_ _ _ _ _ q _=>q⟩
def ItS(X:Addr->Prop)(ns:Ns)(k:Option Nat)(H0:Hp)(J:It)(us:List Val):Prop:=∀P H,Kp X ns k H0 P H->(∀(i:Nat) v,us[i]?=some v->J.go i H/\∀x H',J.yld i H x H'->Gr H H'/\Rd K mg P H' x v)/\J.stop us.length H
def iJ(X:Addr->Prop)(ns:Ns)(k:Option Nat)(H0:Hp)(b:Bool)(a:Addr)(us:List Val):Prop:=∀P H,Kp X ns k H0 P H->∃vs,SqB K b H a vs/\Rds K mg P H vs us
def rdI(ES:St->XK)(I:MI3):TI:=λσ H R=>∃X N0 ns e,Sat K mg X N0 ns e σ H/\PG3 K mg X N0 ns e σ H (ES σ) (λp e' ns' H'=>∀J,ItS K mg X ns' p.2 H' J p.1->(∀k,p.2=some k->∃s,e'[k]?=some s/\s.mt=true)->R J H') (I e)
def rdI.el{K:W.Frag}{mg:Qt}{I:MI3}{R:It->Hp->Prop}(h:rdI K mg ES I σ H R){Z:Prop}(k:∀X N0 ns e,Sat K mg X N0 ns e σ H->PG3 K mg X N0 ns e σ H (ES σ) (λp e' ns' H'=>∀J,ItS K mg X ns' p.2 H' J p.1->(∀k,p.2=some k->∃s,e'[k]?=some s/\s.mt=true)->R J H') (I e)->Z):Z:=by obtain⟨X,N0,ns,e,S,p⟩:=h;exact k X N0 ns e S p
structure DI(X:Cx)(ES:St->XK)(tg iter:Expr)(F:PIt):Prop where
 ok:PI X tg iter (rdI K mg ES F.G)
end
noncomputable def ItA (K:W.Frag) (b:Bool) (a:Addr):It:=match b with
 |true=>Itl K a
 |false=>Itt K a
section
variable{K:W.Frag}{mg:Qt}{X N0 L:Addr->Prop}{ns ns1 ns':Ns}{e e1 e':E3}{σ:St}{H H1 H':Hp}{De:Ends}{ES:St->XK}
def Fe{x:V}{v:Val}(r:Rd K mg (Oc X ns) H x v)(q:gG v=some us):∃b a,x=.ref a/\∀k,iJ K mg X ns k H b a us:=by
 cases v with
 |tup ys=>cases q;obtain⟨a,vs,rfl,h,rr⟩:=ShR.tup (.inl r);exact⟨false,a,rfl,λ_ P H' st=>⟨vs,st.mov.le.sqT h,rr.mono st.mov⟩⟩
 |
  lst ys=>
  cases q;cases r with
  |cell p eo rc=>cases rc with |lst rr=>exact⟨true,_,rfl,λ_ P H' st=>⟨_,SqL.of (st.mov.cl _ _ p eo (λ_ z=>nomatch z)).2,rr.mono st.mov⟩⟩
 |_=>cases q
def tE{x:V}{t:Tm}{p:List Val×Option Nat}(S:Sat K mg X N0 ns e σ H)(r:relE K mg X N0 L σ ns e H x t)(q:iO t e=some p):∃b a,x=.ref a/\iJ K mg X ns p.2 H b a p.1/\(p.2=none->∀k,iJ K mg X ns k H b a p.1)/\∀k:Nat,p.2=some k->∃s,e[k]?=some s/\s.mt=true:=by
 have fv:∀{v us},Rd K mg (Oc X ns) H x v->gG v=some us->∃b a,x=.ref a/\iJ K mg X ns none H b a us/\((none:Option Nat)=none->∀k,iJ K mg X ns k H b a us)/\∀k:Nat,none=some k->∃s,e[k]?=some s/\s.mt=true:=λr q=>by obtain⟨b,a,h1,h2⟩:=Fe r q;exact⟨b,a,h1,h2 _,λ_=>h2,λ_ z=>nomatch z⟩
 cases t with
 |val v=>obtain⟨xs,q1,rfl⟩:=M_.mp q;exact fv r q1
 |new v=>obtain⟨xs,q1,rfl⟩:=M_.mp q;exact fv r.new q1
 |
  bor k=>
  have r':σ[k]?=some (some x):=r;have own:∀{s xs},e[k]?=some s->s.mv=some (.lst xs)->∃b a,x=.ref a/\iJ K mg X ns (some k) H b a xs/\(some k=none->∀k,iJ K mg X ns k H b a xs)/\∀j:Nat,some k=some j->∃s,e[j]?=some s/\s.mt=true:=λ{s xs} q qm=>by
   obtain⟨n,o,k1,k0,k2,k3,k4,_⟩:=S.write q qm;rw[r'] at k1;cases k1;have hm:s.mt=true:=by cases s <;> first |rfl |cases qm
   refine⟨true,n,rfl,λP H' st=>?_,λz=>(nomatch z),λj z=>by cases z;exact⟨s,q,hm⟩⟩;cases k4 with
   |lst rr=>exact⟨_,SqL.of (st.lk k n _ rfl k0 k2 λ_ z=>nomatch z),rr.mono st.mov⟩
  unfold iO at q;dsimp only at q;split at q
  .rename_i v qs;obtain⟨_,x',e2,r2⟩:=S.sl k _ qs;rw[r'] at e2;cases e2;obtain⟨xs,q1,rfl⟩:=M_.mp q;exact fv r2 q1
  .rename_i xs qs;cases q;exact own qs rfl
  .rename_i xs qs;cases q;exact own qs rfl
  .cases q
def ItS.seq(s:iJ K mg X ns k H b a us):ItS K mg X ns k H (ItA K b a) us:=λP H' st=>by
 obtain⟨vs,h,r⟩:=s P H' st;cases b with
 |true=>refine⟨λi v q=>?_,vs,h,by rw[r.len];exact r_ _⟩;obtain⟨x,ex,rx⟩:=r.get q;exact⟨⟨vs,x,h,ex⟩,λy H2 ⟨e1,z⟩=>by subst e1;have:=(z vs h).symm.trans ex;cases this;exact⟨.refl,rx⟩⟩
 |false=>refine⟨λi v q=>?_,vs,h,by rw[r.len];exact r_ _⟩;obtain⟨x,ex,rx⟩:=r.get q;exact⟨⟨vs,x,h,ex⟩,λy H2 ⟨e1,z⟩=>by subst e1;have:=(z vs h).symm.trans ex;cases this;exact⟨.refl,rx⟩⟩
def ItS.zip(s:iJ K mg X ns k H b a us)(t:iJ K mg X ns k H c d ws):ItS K mg X ns k H (ItZ K b c a d) (List.zipWith (λx y=>.tup [x,y]) us ws):=λP H' st=>by
 obtain⟨vs,h,r⟩:=s P H' st;obtain⟨xs,h',r'⟩:=t P H' st;refine⟨λi v q=>?_,vs,xs,h,h',?_⟩
 .rw[OU] at q;cases k1:us[i]? with
  |none=>rw[k1] at q;cases q
  |
   some u=>
   cases k2:ws[i]? with
   |none=>rw[k1,k2] at q;cases q
   |
    some w=>
    rw[k1,k2] at q;cases q;obtain⟨x,ex,rx⟩:=r.get k1;obtain⟨x',ex',rx'⟩:=r'.get k2;refine⟨⟨vs,xs,x,x',h,h',ex,ex'⟩,λy H2 ⟨p,f,f',e1,hp,e2,hf,hf'⟩=>?_⟩;subst e1 e2
    have:=(hf vs h).symm.trans ex
    cases this
    have:=(hf' xs h').symm.trans ex'
    cases this;exact⟨.upd hp,.tup (SqT.of aO) (.cons (rx.mono (Gr.upd hp).mov) (.cons (rx'.mono (Gr.upd hp).mov) .nil))⟩
 .rw[OJ,<- r.len,<- r'.len];rcases Nat.le_total vs.length xs.length with z |z
  .left;rw[Nat.min_eq_left z];exact List.getElem?_eq_none (r_ _)
  .right;rw[Nat.min_eq_right z];exact List.getElem?_eq_none (r_ _)
def ItS.nums{f:Nat->Int}{k:Nat}{J:It}(h1:∀i H,i<k->J.go i H/\∀x H',J.yld i H x H'->H'=H/\x=V.int (f i))(h2:∀H,J.stop k H):ItS K mg X ns kk H J ((List.range k).map λi=>Val.int (f i)):=λP H' st=>by refine⟨λi v q=>?_,by rw[o_,A_];exact h2 _⟩;rw[NB] at q;obtain⟨j,hj,rfl⟩:=M_.mp q;obtain⟨hj1,hj2⟩:=w_.mp hj;rw[List.getElem_range] at hj2;subst hj2;rw[A_] at hj1;obtain⟨g,y⟩:=h1 i H' hj1;exact⟨g,λx H2 z=>by obtain⟨rfl,rfl⟩:=y x H2 z;exact⟨.refl,.int _⟩⟩
def ItS.rng(lo:Int)(k:Nat):ItS K mg X ns kk H (Itr lo k) (mr lo k):=ItS.nums (λi H hi=>⟨hi,λx H' z=>z⟩) λH=>r_ _
def DP{k:Option Nat}(S:Sat K mg X N0 ns e σ H)(hk:∀j:Nat,k=some j->∃s,e[j]?=some s/\s.mt=true)(a:Stp ns (lockO e k) H ns' e' H'):Kp X ns k H (Oc X ns') H':=⟨a.mov,λj n o hj hn q ht=>by
 subst hj;refine a.keep n o q ht λ⟨i,s,z1,z2,z3⟩=>?_
 have:=S.inj i j n z1 hn
 subst this;obtain⟨s',y1,y2⟩:=hk i rfl;have:(lockO e (some i))[i]?=some (ik s'):=nT y1;rw[this] at z2;cases z2;cases s' <;> first |cases y2;done |cases z3;done⟩
def PS3.unl{k:Option Nat}{r:SR3}(hk:∀j:Nat,k=some j->∃s,e[j]?=some s/\s.mt=true)(p:PS3 K mg X N0 ns e H De ES (r.unl k)):PS3 K mg X N0 ns (lockO e k) H De ES r:=by
 cases k with
 |none=>cases r <;> exact p
 |
  some j=>
  obtain⟨s,y1,y2⟩:=hk j rfl;cases r with
  |stuck=>exact p
  |nx e'=>exact λH' σ' ns' a S=>p H' σ' ns' (a.unlock y1 y2) (S.unlock j)
  |bk e'=>exact λH' σ' ns' a S=>p H' σ' ns' (a.unlock y1 y2) (S.unlock j)
  |ct e'=>exact λH' σ' ns' a S=>p H' σ' ns' (a.unlock y1 y2) (S.unlock j)
  |exc c e'=>exact λH' σ' ns' C a S=>p H' σ' ns' C (a.unlock y1 y2) (S.unlock j)
  |
   rt r e'=>
   refine λH' σ' ns' x a q2=>p H' σ' ns' x (a.unlock y1 y2) ?_;cases r with
   |val v=>exact⟨q2.1.unlock j,q2.2⟩
   |new v=>obtain⟨n,o,z1,z2,z3,z4,z5,z6,z7⟩:=q2;exact⟨n,o,z1,z2,z3,z4,z5,z6.unlock j,z7⟩
   |
    par i=>
    obtain⟨z1,z2,v,z3⟩:=q2;refine⟨z1.unlock j,z2,v,?_⟩;by_cases z:i=j
    .subst z;exact iu z3
    .exact (gw z).trans z3
   |pr v u=>obtain⟨p,d1,n,o,z1,z2,z3,z4,z5,z6,z7,z8⟩:=q2;exact⟨p,d1,n,o,z1,z2,z3,z4,z5,z6,z7.unlock j,z8⟩
def PS3.toB{α:Type}{r:R3 α}{f:α->E3->SR3}{k:α->E3->Ns->Hp->Prop}{ns0:Ns}{e0:E3}{σ0:St}{H0:Hp}(p:PS3 K mg X N0 ns0 e0 H0 De ES (r.toS f))(S0:Sat K mg X N0 ns0 e0 σ0 H0)(a0:Stp ns0 e0 H0 ns e H)
 (i:∀t e1 ns1 H1,Stp ns0 e0 H0 ns1 e1 H1->Sat K mg X N0 ns1 e1 σ H1->PS3 K mg X N0 ns0 e0 H0 De ES (f t e1)->k t e1 ns1 H1):PG3 K mg X N0 ns e σ H (ES σ) k r:=by
 cases r with
 |stuck=>exact p
 |exc c e'=>exact λH' ns' C a S' m=>p H' σ ns' C (a0.trans S0 a) S' m
 |ok t e'=>exact λH' ns' a S'=>i t e' ns' H' (a0.trans S0 a) S' p
def PS3.loop{ns0:Ns}{e0:E3}{σ0:St}{H0:Hp}{r:SR3}{f:E3->SR3}{N:St->Hp->Prop}(p:PS3 K mg X N0 ns0 e0 H0 De ES (r.loop f))(S0:Sat K mg X N0 ns0 e0 σ0 H0)(a0:Stp ns0 e0 H0 ns e H)
 (i:∀e1 ns1 σ1 H1,Stp ns0 e0 H0 ns1 e1 H1->Sat K mg X N0 ns1 e1 σ1 H1->PS3 K mg X N0 ns0 e0 H0 De ES (f e1)->N σ1 H1):PS3 K mg X N0 ns e H { De with nx:=N,ct:=N,bk:=De.nx } ES r:=by
 cases r with
 |nx e'=>exact λH' σ' ns' b S'=>i e' ns' σ' H' (a0.trans S0 b) S' p
 |ct e'=>exact λH' σ' ns' b S'=>i e' ns' σ' H' (a0.trans S0 b) S' p
 |bk e'=>exact λH' σ' ns' b S'=>p H' σ' ns' (a0.trans S0 b) S'
 |exc c e'=>exact λH' σ' ns' C b S'=>p H' σ' ns' C (a0.trans S0 b) S'
 |rt r e'=>exact λH' σ' ns' x b S'=>p H' σ' ns' x (a0.trans S0 b) S'
 |stuck=>exact p
end
section
variable{K:W.Frag}{mg:Qt}{X:Cx}{ES:St->XK}{e a b c tg iter:Expr}{elts:List Expr}{sts:List Stmt}{p:PEx}{A:PAs}{t:PTs}{x:PSt}{g:PGt}{I:PIt}{pos p0 tp:Pos}
def Iz(hK:X.K=K)(he:DE K mg X ES e p):DI K mg X ES tg e (dJ p):=by
 subst hK;exact⟨PI.imp (GQ he.ok) λσ H R zz=>rdI.el zz λY N0 ns e S q=>⟨Y,N0,λ_=>True,ns,e,S,λ_ _=>trivial,PG3.imp q S λt e1 ns1 H1 a1 S1 p1 x r1=>by
  try dsimp only at p1
  split at p1
  .rename_i w z;obtain⟨b,a,rfl,s,_,hk⟩:=tE S1 r1 z;have k:=p1.ret S1 _ (ItS.seq s) hk;obtain⟨vs,hv,_⟩:=s _ _ .refl;cases b with
   |true=>exact .inl ⟨a,rfl,⟨vs,hv⟩,k⟩
   |false=>exact .inr ⟨a,rfl,⟨vs,hv⟩,k⟩
  .exact p1.elim⟩⟩
def tsr1{Y:Addr->Prop}{ns:Ns}{σ:St}{H:Hp}{xs:List V}{t:Tm}(N0 L:Addr->Prop)(e:E3)(r:TsR K mg Y ns σ H xs [t]):∃x,xs=[x]/\relE K mg Y N0 L σ ns e H x t:=by
 cases r with
 |val r rr=>cases rr;exact⟨_,rfl,r⟩
 |bor r rr=>cases rr;exact⟨_,rfl,r⟩
def tsr2{Y:Addr->Prop}{ns:Ns}{σ:St}{H:Hp}{xs:List V}{t u:Tm}(N0 L:Addr->Prop)(e:E3)(r:TsR K mg Y ns σ H xs [t,u]):∃x y,xs=[x,y]/\relE K mg Y N0 L σ ns e H x t/\relE K mg Y N0 L σ ns e H y u:=by
 cases r with
 |val r rr=>obtain⟨y,rfl,r'⟩:=tsr1 N0 L e rr;exact⟨_,_,rfl,r,r'⟩
 |bor r rr=>obtain⟨y,rfl,r'⟩:=tsr1 N0 L e rr;exact⟨_,_,rfl,r,r'⟩
def IW(hK:X.K=K)(hg:Gl X "zip")(hm:mg "zip"=none)(ha:DA K mg X ES [a,b] A)(hk:X.mg=mg:=by rfl)(hs:starEach [a,b] X.env=[(false,eval a X.env),(false,eval b X.env)]:=by rfl)(hs2:starEach [b] X.env=[(false,eval b X.env)]:=by rfl):DI K mg X ES (.Tuple elts x1 tp) (.Call (.Name "zip" p0) [a,b] [] pos) (yt A):=by
 subst hk hK;exact
  ⟨PI.imp (KO hg hm ha.ok hs hs2) λσ H R zz=>rdI.el zz λY N0 ns e S q=>⟨Y,N0,ns,e,S,PG3.imp q S λts e1 ns1 H1 a1 S1 p1 xs r1=>by
  try dsimp only at p1
  split at p1
  .rename_i t u;obtain⟨x,y,rfl,r,r'⟩:=tsr2 N0 N0 e1 r1;split at p1
   .rename_i us k ws z z';obtain⟨b,a,rfl,s,_,hk⟩:=tE S1 r z;obtain⟨c,d,rfl,_,s',_⟩:=tE S1 r' z';have s2:=s' rfl k;obtain⟨vs,hv,_⟩:=s _ _ .refl;obtain⟨vs',hv',_⟩:=s2 _ _ .refl;exact⟨b,c,a,d,vs,vs',rfl,hv,hv',p1.ret S1 _ (ItS.zip s s2) hk⟩
   .exact p1.elim
  .exact p1.elim⟩⟩
def dq{P:Addr->Prop}(r:ShRs K mg P H xs [v]):∃x,xs=[x]/\ShR K mg P H x v:=by cases r with |cons r rr=>cases rr;exact⟨_,rfl,r⟩
def xk{P:Addr->Prop}(r:ShRs K mg P H xs [v,u]):∃x y,xs=[x,y]/\ShR K mg P H x v/\ShR K mg P H y u:=by cases r with |cons r rr=>cases rr with |cons r' rr=>cases rr;exact⟨_,_,rfl,r,r'⟩
def AG(hg:Gl X "range")(hm:mg "range"=none)(ha:DA K mg X ES [a] A)(hk:X.mg=mg:=by rfl)(hs:starEach [a] X.env=[(false,eval a X.env)]:=by rfl):DI K mg X ES tg (.Call (.Name "range" p0) [a] [] pos) (kW A):=by
 subst hk;exact
  ⟨PI.imp (Ad hg hm ha.ok hs) λσ H R zz=>rdI.el zz λY N0 ns e S q=>⟨Y,N0,ns,e,S,PG3.imp q S λts e1 ns1 H1 a1 S1 p1 xs r1=>by
  try dsimp only at p1
  split at p1
  .rename_i us z;obtain⟨vs,z1,z2⟩:=NH.mp z;have rr:=r1.sh S1 z1;unfold jI at z2;split at z2
   .split at z2
    .rename_i hb;cases z2;obtain⟨x,rfl,r⟩:=dq rr;obtain rfl:=r.int;exact⟨_,rfl,hb.lo,hb.hi,p1.ret S1 _ (ItS.rng _ _) λ_ z=>nomatch z⟩
    .cases z2
   .cases z2
  .exact p1.elim⟩⟩
def zQ(hg:Gl X "range")(hm:mg "range"=none)(ha:DA K mg X ES [a,b] A)(hk:X.mg=mg:=by rfl)(hs:starEach [a,b] X.env=[(false,eval a X.env),(false,eval b X.env)]:=by rfl)(hs2:starEach [b] X.env=[(false,eval b X.env)]:=by rfl):DI K mg X ES tg (.Call (.Name "range" p0) [a,b] [] pos) (x9 A):=by
 subst hk;exact
  ⟨PI.imp (AO hg hm ha.ok hs hs2) λσ H R zz=>rdI.el zz λY N0 ns e S q=>⟨Y,N0,ns,e,S,PG3.imp q S λts e1 ns1 H1 a1 S1 p1 xs r1=>by
  try dsimp only at p1
  split at p1
  .rename_i us z;obtain⟨vs,z1,z2⟩:=NH.mp z;have rr:=r1.sh S1 z1;unfold rD at z2;split at z2
   .split at z2
    .rename_i hb;cases z2;obtain⟨x,y,rfl,r,r'⟩:=xk rr;obtain rfl:=r.int;obtain rfl:=r'.int;exact⟨_,_,rfl,⟨hb.1.lo,hb.1.hi,hb.2.lo,hb.2.hi⟩,p1.ret S1 _ (ItS.rng _ _) λ_ z=>nomatch z⟩
    .cases z2
   .cases z2
  .exact p1.elim⟩⟩
def yU(hp:PassesOwn (model X.prog X.w) X.A X.env X.xe)(hc:X.calm=true)(hi:DI K mg X ES tg iter I)(hg:DG K mg X tg g)(hb:DSs K mg X ES sts x)(hs:∀x,foldedSetIterable iter X.env x=pure x:=by intro _;rfl):DS K mg X ES (.For tg iter sts [] pos) (lO I g x):=
 ⟨PS.imp (GO hp hc hi.ok hg.ok hb.ok hs) λD σ H zz=>zz.el λY N0 ns e S p=>⟨Y,N0,ns,e,S,PS3.toS p S λw e1 ns1 H1 a1 S1 p1 J it hk=>by
  have p2:=PS3.unl hk (PS3.after p1 S a1);have S2:=S1.lockO w.2;refine⟨λi m σ' H'=>m=w.1.length-i/\i<=w.1.length/\∃ns' e',Stp ns1 (lockO e1 w.2) H1 ns' e' H'/\Sat K mg Y N0 ns' e' σ' H'/\PS3 K mg Y N0 ns1 (lockO e1 w.2) H1 D ES (fB g.G x.G (w.1.drop i) e'),⟨_,rfl,N3 _,ns1,_,.refl,S2,p2⟩,?_⟩;rintro i m σ' H' ⟨rfl,hi,ns',e',a',S',p'⟩;by_cases hl:i=w.1.length
  .subst hl;rw[List.drop_length] at p';exact .inl ⟨(it _ _ (DP S1 hk a')).2,p' H' σ' ns' a' S'⟩
  .have hl':i<w.1.length:=by omega
   rw[Pt hl'] at p';unfold fB at p';obtain⟨go,yl⟩:=(it _ _ (DP S1 hk a')).1 i _ (B_ hl');split at p'
   .rename_i e2 q;refine .inr ⟨go,λσ2 H2=>i+1<=w.1.length/\∃ns' e',Stp ns1 (lockO e1 w.2) H1 ns' e' H2/\Sat K mg Y N0 ns' e' σ2 H2/\PS3 K mg Y N0 ns1 (lockO e1 w.2) H1 D ES (fB g.G x.G (w.1.drop (i+1)) e'),λσ2 H2 n=>⟨_,by omega,rfl,n⟩,λv H2 y=>?_⟩;obtain⟨gr,r⟩:=yl v H2 y;have a2:=a'.trans S2 (.gr gr);exact⟨Y,N0,ns',e',_,e2,S'.gr gr,r,q,λσ3 ns3 a3 S3=>⟨Y,N0,ns3,e2,S3,PS3.loop p' S2 (a2.trans S2 a3) λe4 ns4 σ4 H4 a4 S4 p4=>⟨hl',ns4,e4,a4,S4,p4⟩⟩⟩
   .exact p'.elim⟩⟩
def CA(hp:PassesOwn (model X.prog X.w) X.A X.env X.xe)(hc:DT K mg X ES c t)(hb:DSs K mg X ES sts x):DS K mg X ES (.While c sts [] pos) (xWh t x):=
 ⟨PS.imp (Ci hp hc.ok hb.ok) λD σ H zz=>zz.el λY N0 ns e S p=>by
  have p:PS3 K mg Y N0 ns e H D ES (wWh t.G x.G e):=p;by_cases q:∃k,whV t.G x.G k e ≠ .stuck
  .obtain⟨k,q⟩:=q;rw[mK q] at p;refine⟨λm σ' H'=>∃ns' e',Stp ns e H ns' e' H'/\Sat K mg Y N0 ns' e' σ' H'/\PS3 K mg Y N0 ns e H D ES (whV t.G x.G m e'),⟨k,ns,e,.refl,S,p⟩,?_⟩;rintro m σ' H' ⟨ns',e',a',S',p'⟩;cases m with
   |zero=>exact p'.elim
   |
    succ m=>
    have p2:PS3 K mg Y N0 ns e H D ES ((t.G e').toS λb e1=>if b=true then (x.G e1).loop (whV t.G x.G m) else .nx e1):=p';refine⟨Y,N0,ns',e',S',PS3.toB p2 S a' λb e1 ns1 H1 a2 S1 p1=>?_⟩;cases b with
    |true=>exact⟨λσ2 H2=>∃ns' e',Stp ns e H ns' e' H2/\Sat K mg Y N0 ns' e' σ2 H2/\PS3 K mg Y N0 ns e H D ES (whV t.G x.G m e'),λσ2 H2 n=>⟨m,Nat.lt_succ_self _,n⟩,Y,N0,ns1,e1,S1,PS3.loop p1 S a2 λe4 ns4 σ4 H4 a4 S4 p4=>⟨ns4,e4,a4,S4,p4⟩⟩
    |false=>exact p1 _ _ _ a2 S1
  .unfold wWh at p;rw[dif_neg q] at p;exact p.elim⟩
end
noncomputable def fW (o:Option Nat) (s:Sl) (e:E3):E3:=match o,s with
 |some i,.mu v=>(match e[i]? with
  |some t=>e.set i (t.re v)
  |none=>e)
 |_,_=>e
noncomputable def bc:List (Option Nat)->E3->E3->E3
 |o::sub,s::inner,e=>bc sub inner (fW o s e)
 |_,_,e=>e
def wG(hn:∀v,o=some i->s=.mu v->False):(fW o s e)[i]?=e[i]?:=by
 unfold fW;split
 .rename_i i' v;split
  .rename_i t q;by_cases z:i=i'
   .subst z;exact (hn v rfl rfl).elim
   .rw[b9 z]
  .rfl
 .rfl
theorem oq:∀{sub:Qw}{e2 e:E3}{i:Nat},(∀(j:Nat) v,sub[j]?=some (some i)->e2[j]?=some (.mu v)->False)->(bc sub e2 e)[i]?=e[i]?
 | [],_,_,_,_=>rfl
 |_::_,[],_,_,_=>rfl
 |
  o::sub,s::e2,e,i,hn=>by
  show (bc sub e2 (fW o s e))[i]?=_;rw[oq (λj v q1 q2=>hn (j+1) v (by simpa using q1) (by simpa using q2))];exact wG λv z1 z2=>hn 0 v (by rw[z1];rfl) (by rw[z2];rfl)
theorem vR:∀{sub:Qw}{e2 e:E3}{i j:Nat}{v:Val},(∀(j k:Nat) i,sub[j]?=some (some i)->sub[k]?=some (some i)->j=k)->sub[j]?=some (some i)->e2[j]?=some (.mu v)->(bc sub e2 e)[i]?=(e[i]?).map (Sl.re · v)
 | [],_,_,_,j,_,_,q,_=>by simp at q
 |_::_,[],_,_,j,_,_,_,q=>by simp at q
 |
  o::sub,s::e2,e,i,0,v,hj,q1,q2=>by
  have z1:o=some i:=by simpa using q1
  have z2:s=.mu v:=by simpa using q2
  subst z1 z2;show (bc sub e2 (fW (some i) (.mu v) e))[i]?=_;rw[oq (λk u y1 _=>by have:=hj 0 (k+1) i rfl (by simpa using y1);omega)];unfold fW;dsimp only;split
  .rename_i t q;rw[du (w_.mp q).1,q];rfl
  .rename_i q;rw[q];rfl
 |
  o::sub,s::e2,e,i,j+1,v,hj,q1,q2=>by
  show (bc sub e2 (fW o s e))[i]?=_;have q1':sub[j]?=some (some i):=by simpa using q1
  rw[vR (λa b c y1 y2=>by have:=hj (a+1) (b+1) c (by simpa using y1) (by simpa using y2);omega) q1' (by simpa using q2)];rw[wG λv z1 _=>by have:=hj 0 (j+1) i (by rw[z1];rfl) q1;omega]
noncomputable def br (sub:Qw) (ns:Ns):Ns:=sub.map λo=>o.bind λi=>(ns[i]?).bind id
def cN{sub:Qw}{ns:Ns}{j:Nat}{n:Addr}(q:(br sub ns)[j]?=some (some n)):∃i,sub[j]?=some (some i)/\ns[i]?=some (some n):=by
 unfold br at q;rw[NB] at q;cases z:sub[j]? with
 |none=>rw[z] at q;cases q
 |
  some o=>
  rw[z] at q;cases o with
  |none=>cases q
  |
   some i=>
   refine⟨i,rfl,?_⟩;have q':(ns[i]?).bind id=some n:=H_ q;cases y:ns[i]? with
   |none=>rw[y] at q';cases q'
   |some w=>rw[y] at q';have:w=some n:=q';rw[this]
def EO{sub:Qw}{ns:Ns}{j i:Nat}{w:Option Addr}(q:sub[j]?=some (some i))(q2:ns[i]?=some w):(br sub ns)[j]?=some w:=by unfold br;rw[NB,q];show some ((ns[i]?).bind id)=some w;rw[q2];rfl
structure Lnk(sub:Qw)(e ei:E3):Prop where
 inj:∀(j k:Nat) (i:Nat),sub[j]?=some (some i)->sub[k]?=some (some i)->j=k
 mu:∀(j:Nat) (v:Val),ei[j]?=some (.mu v)->∃(i:Nat) (s:Sl),sub[j]?=some (some i)/\e[i]?=some s/\s.mt=true
 mt:∀(j:Nat) (s:Sl),ei[j]?=some s->s.mt=true->∃v,s=.mu v
section
variable{K:W.Frag}{mg:Qt}{X Y N0:Addr->Prop}{ns ns2:Ns}{e e2 ei:E3}{σ:St}{H H2:Hp}{sub:Qw}
theorem lY:∀(sub:Qw) (e2 e:E3),(bc sub e2 e).length=e.length
 | [],_,_=>rfl
 |_::_,[],_=>rfl
 |
  o::sub,s::e2,e=>by
  show (bc sub e2 (fW o s e)).length=_;rw[lY];unfold fW;split
  .split
   .rw[NF]
   .rfl
  .rfl
def Sat.back(S:Sat K mg X N0 ns e σ H)(lk:Lnk sub e ei)(a:Stp (br sub ns) ei H ns2 e2 H2)(hb:Bs K mg H2)
 (hY:∀n,Y n->(∃o,H2 n=some o)/\(X n\/H n=none)) (hXY:∀n,X n->Y n)
 (hc:∀(j:Nat) v n,e2[j]?=some (.mu v)->ns2[j]?=some (some n)->∃o,H2 n=some o/\NotFz o/\Rc K mg (Oc Y ns) H2 o v):Sat K mg Y N0 ns (bc sub e2 e) σ H2/\Stp ns e H ns (bc sub e2 e) H2:=by
 have hM:∀n,Mt (br sub ns) ei n->Mt ns e n:=λn ⟨j,s,z1,z2,z3⟩=>by obtain⟨v,rfl⟩:=lk.mt j s z2 z3;obtain⟨i,s',y1,y2,y3⟩:=lk.mu j v z2;obtain⟨i',y4,y5⟩:=cN z1;rw[y1] at y4;cases y4;exact⟨i,s',y5,y2,y3⟩
 have mv:Mov (Oc X ns) (Oc Y ns) H H2:=⟨a.le,λn o p q ht=>⟨⟨λz=>(by
  rcases (hY n z).2 with z |z
  .exact p.1 z
  .rw[q] at z;cases z),p.2⟩,a.keep n o q ht λz=>by obtain⟨j,s,z1,_⟩:=z;obtain⟨i,_,y⟩:=cN z1;exact p.2 (bj.mpr ⟨i,y⟩)⟩⟩
 have key:∀i:Nat,(∃(j:Nat) (v:Val) (s:Sl),sub[j]?=some (some i)/\e2[j]?=some (.mu v)/\e[i]?=some s/\s.mt=true/\(bc sub e2 e)[i]?=some (s.re v)/\ns2[j]?=ns[i]?)\/((∀n,ns[i]?=some (some n)->¬ Mt (br sub ns) ei n)/\(bc sub e2 e)[i]?=e[i]?):=λi=>by
  by_cases hx:∃(j:Nat) (v:Val),sub[j]?=some (some i)/\e2[j]?=some (.mu v)
  .obtain⟨j,v,q1,q2⟩:=hx;obtain⟨u,q3,q4⟩:=a.mu j v q2;obtain⟨i',s,y1,y2,y3⟩:=lk.mu j u q3;rw[q1] at y1;cases y1;refine .inl ⟨j,v,s,q1,q2,y2,y3,by rw[vR lk.inj q1 q2,y2];rfl,?_⟩;rw[q4];have hl:i<ns.length:=by rw[S.l2];exact (w_.mp y2).1
   rw[B_ hl];exact EO q1 (B_ hl)
  .refine .inr ⟨λn q ⟨j,s,z1,z2,z3⟩=>hx ?_,oq λj v y1 y2=>hx ⟨j,v,y1,y2⟩⟩;obtain⟨v,rfl⟩:=lk.mt j s z2 z3;obtain⟨i',y4,y5⟩:=cN z1;have:i'=i:=S.inj i' i n y5 q;subst this;obtain⟨v',y6,_⟩:=a.mu' j v z2;exact⟨j,v',y4,y6⟩
 refine⟨⟨by rw[lY];exact S.l1,by rw[lY];exact S.l2,λx z=>S.lh x (a.dom x z),λn z=>(hY n z).1,S.inj,λi n q z=>?_,λi s q=>?_,hb⟩,⟨a.le,a.dom,λm o q ht hm=>a.keep m o q ht λz=>hm (hM m z),λ_ _ q=>.inl q,λi s q hl=>?_,λi s q hl=>?_,λi v q=>?_,λi v q=>?_⟩⟩
 .rcases (hY n z).2 with z |z
  .exact S.nx i n q z
  .obtain⟨_,_,_,_,_,_,_,q',_⟩:=S.own q;rw[q'] at z;cases z
 .rcases key i with ⟨j,v,s0,k1,k2,k3,k4,k5,k6⟩ |⟨k1,k2⟩
  .rw[k5] at q;cases q;have y:=S.sl i s0 k3;cases s0 with
   |ow u=>obtain⟨n,o,y1,y2,y3,_⟩:=y;obtain⟨o',z1,z2,z3⟩:=hc j v n k2 (by rw[k6];exact y1);exact⟨n,o',y1,y2,y3,z1,z2,z3⟩
   |mu u=>obtain⟨n,o,y1,y2,_⟩:=y;obtain⟨o',z1,z2,z3⟩:=hc j v n k2 (by rw[k6];exact y1);exact⟨n,o',y1,y2,z1,z2,z3⟩
   |_=>cases k4
  .rw[k2] at q;exact (S.sl i s q).mono mv λn o q1 q2 hf=>a.keep n o q2 hf.nt (k1 n q1)
 .rcases key i with ⟨j,v,s0,k1,k2,k3,k4,k5,k6⟩ |⟨k1,k2⟩
  .rw[k3] at q;cases q;cases s <;> first |cases hl;done |cases k4;done
  .rw[k2];exact⟨q,rfl⟩
 .rcases key i with ⟨j,v,s0,k1,k2,k3,k4,k5,k6⟩ |⟨k1,k2⟩
  .rw[k5] at q;cases q;cases s0 <;> first |cases hl;done |cases k4;done
  .rw[k2] at q;exact⟨q,rfl⟩
 .rcases key i with ⟨j,u,s0,k1,k2,k3,k4,k5,k6⟩ |⟨k1,k2⟩
  .rw[k5] at q;cases s0 with
   |mu w=>exact⟨w,k3,rfl⟩
   |ow w=>cases q
   |_=>cases k4
  .rw[k2] at q;exact⟨v,q,rfl⟩
 .rcases key i with ⟨j,u,s0,k1,k2,k3,k4,k5,k6⟩ |⟨k1,k2⟩
  .rw[k3] at q;cases q;exact⟨u,k5,rfl⟩
  .exact⟨v,by rw[k2];exact q,rfl⟩
end
noncomputable def inS:Sl->Sl
 |.ow v=>.mu v
 |.lo v=>.lm v
 |s=>s
noncomputable def bU (sub:Qw) (e:E3):E3:=sub.map λo=>match o with
 |none=>.no
 |some i=>match e[i]? with
  |some s=>inS s
  |none=>.no
noncomputable def lcV (g:MG3) (c:MT3) (F:ME3):List Val->List Val->E3->R3 (List Val)
 | [],acc,e=>.ok acc e
 |v::vs,acc,e=>if acc.length<16777216 then (match g v e with
  |none=>.stuck
  |some e1=>(c e1).bind λb e2=>if b=true then (F e2).bind λt e3=>(match cR e3 t with
   |some (e4,y)=>lcV g c F vs (acc++[y]) e4
   |none=>.stuck) else lcV g c F vs acc e2) else .stuck
noncomputable def vLC (I:MI3) (sub:Qw) (g:MG3) (c:MT3) (F:ME3) (e:E3):R3 Tm:=(I e).bind λp e1=>match lcV g c F p.1 [] (bU sub (lockO e1 p.2)) with
 |.ok ys e2=>if ys.length<=16777216 then .ok (.new (.lst ys)) (fE (bc sub e2 (lockO e1 p.2)) p.2) else .stuck
 |_=>.stuck
noncomputable def pLC (i:PIt) (sub:Qw) (hs:(sub.filterMap id).Nodup) (g:PGt) (c:PTs) (a:PEx):PEx:=⟨21,vLC i.G sub g.G c.G a.G⟩
def nh(sub:Qw):Prop:=∀(j k:Nat) (i:Nat),sub[j]?=some (some i)->sub[k]?=some (some i)->j=k
def yR(h:(sub.filterMap id).Nodup):nh sub:=by
 induction sub with
 |nil=>intro j k i q;simp at q
 |
  cons o sub ih=>
  have hsub:(sub.filterMap id).Nodup:=by
   cases o with
   |none=>simpa using h
   |some i=>rw[OI] at h;simp at h;exact h.2
  have hno:∀(i k:Nat),o=some i->sub[k]?=some (some i)->False:=λi k z q=>by subst z;rw[OI] at h;simp at h;exact h.1 (O1 q)
  intro j k i q1 q2;cases j with
  |
   zero=>
   cases k with
   |zero=>rfl
   |succ k=>exact (hno i k (by simpa using q1) (by simpa using q2)).elim
  |
   succ j=>
   cases k with
   |zero=>exact (hno i j (by simpa using q2) (by simpa using q1)).elim
   |succ k=>exact NR (· + 1) (ih hsub j k i (by simpa using q1) (by simpa using q2))
def Xin(X:Addr->Prop)(ns:Ns)(sub:Qw)(n:Addr):Prop:=X n\/(some n∈ns/\some n∉br sub ns)
def tI{n:Addr}(q:some n∈br sub ns):some n∈ns:=by obtain⟨j,q⟩:=bj.mp q;obtain⟨i,_,q2⟩:=cN q;exact bj.mpr ⟨i,q2⟩
def D4{X:Addr->Prop}{H:Hp}:Mov (Oc X ns) (Oc (Xin X ns sub) (br sub ns)) H H:=.of λn p=>⟨λz=>by
 rcases z with z |⟨z,_⟩
 .exact p.1 z
 .exact p.2 z,λz=>p.2 (tI z)⟩
def jH{sub:Qw}{e:E3}{j:Nat}{s:Sl}(q:(bU sub e)[j]?=some s):(sub[j]?=some none/\s=.no)\/(∃i,sub[j]?=some (some i)/\((e[i]?=none/\s=.no)\/∃t,e[i]?=some t/\s=inS t)):=by
 unfold bU at q;rw[NB] at q;cases z:sub[j]? with
 |none=>rw[z] at q;cases q
 |
  some o=>
  rw[z] at q;cases o with
  |none=>cases q;exact .inl ⟨rfl,rfl⟩
  |
   some i=>
   refine .inr ⟨i,rfl,?_⟩;have q':=H_ q;dsimp only at q';cases y:e[i]? with
   |none=>rw[y] at q';exact .inl ⟨rfl,q'.symm⟩
   |some t=>rw[y] at q';exact .inr ⟨t,rfl,q'.symm⟩
section
variable{K:W.Frag}{mg:Qt}{X N0:Addr->Prop}{ns:Ns}{e:E3}{σ:St}{H:Hp}{sub:Qw}
def Sat.inner(S:Sat K mg X N0 ns e σ H)(hs:nh sub):Sat K mg (Xin X ns sub) N0 (br sub ns) (bU sub e) (fh sub σ) H:=by
 refine⟨by unfold fh bU;rw[o_,o_],by unfold br bU;rw[o_,o_],S.lh,λn z=>?_,λj k n q1 q2=>?_,λj n q z=>?_,λj s q=>?_,S.bs⟩
 .rcases z with z |⟨z,_⟩
  .exact S.xl n z
  .obtain⟨i,z⟩:=bj.mp z;obtain⟨_,_,o,_,_,_,_,q',_⟩:=S.own z;exact⟨o,q'⟩
 .obtain⟨i,y1,y2⟩:=cN q1;obtain⟨i',y3,y4⟩:=cN q2
  have:=S.inj i i' n y2 y4
  subst this;exact hs j k i y1 y3
 .rcases z with z |⟨_,z⟩
  .obtain⟨i,y1,y2⟩:=cN q;exact S.nx i n y2 z
  .exact z (bj.mpr ⟨j,q⟩)
 .have hj:∀{o},sub[j]?=some o->(br sub ns)[j]?=some (o.bind λi=>(ns[i]?).bind id)/\(fh sub σ)[j]?=some (o.bind λi=>(σ[i]?).bind id):=λ{o} z=>by unfold br fh;rw[NB,NB,z];exact⟨rfl,rfl⟩
  rcases jH q with ⟨z,rfl⟩ |⟨i,z,⟨y,rfl⟩ |⟨t,y,rfl⟩⟩
  .rw[(hj z).1];rfl
  .rw[(hj z).1];show some ((ns[i]?).bind id)=some none;have:ns[i]?=none:=by rw[Px] at y ⊢;rw[S.l2];exact y
   rw[this];rfl
  .have k:=(S.sl i t y).mono (D4 (sub:=sub) (H:=H)) λ_ _ _ q _=>q;rw[(hj z).1,(hj z).2];show SlR K mg _ N0 (some ((ns[i]?).bind id)) (some ((σ[i]?).bind id)) H (inS t);have w1:∀x,ns[i]?=some x->some ((ns[i]?).bind id)=some x:=λx q=>by rw[q];rfl
   have w2:∀x,σ[i]?=some x->some ((σ[i]?).bind id)=some x:=λx q=>by rw[q];rfl
   cases t with
   |no=>rw[w1 _ k];rfl
   |sh v=>obtain⟨k1,x,k2,k3⟩:=k;rw[w1 _ k1,w2 _ k2];exact⟨rfl,x,rfl,k3⟩
   |ow v=>obtain⟨m,o,k1,k2,_,k3⟩:=k;rw[w1 _ k1,w2 _ k2];exact⟨m,o,rfl,rfl,k3⟩
   |lo v=>obtain⟨m,o,k1,k2,_,k3⟩:=k;rw[w1 _ k1,w2 _ k2];exact⟨m,o,rfl,rfl,k3⟩
   |mu v=>obtain⟨m,o,k1,k2,k3⟩:=k;rw[w1 _ k1,w2 _ k2];exact⟨m,o,rfl,rfl,k3⟩
   |lm v=>obtain⟨m,o,k1,k2,k3⟩:=k;rw[w1 _ k1,w2 _ k2];exact⟨m,o,rfl,rfl,k3⟩
end
def wN(hs:nh sub):Lnk sub e (bU sub e):=by
 refine⟨hs,λj v q=>?_,λj s q hm=>?_⟩
 .rcases jH q with ⟨_,z⟩ |⟨i,z,⟨_,y⟩ |⟨t,y,y2⟩⟩
  .cases z
  .cases y
  .refine⟨i,t,z,y,?_⟩;cases t <;> first |rfl |cases y2
 .rcases jH q with ⟨_,z⟩ |⟨i,z,⟨_,y⟩ |⟨t,y,y2⟩⟩
  .subst z;cases hm
  .subst y;cases hm
  .subst y2;cases t with
   |ow v=>exact⟨v,rfl⟩
   |mu v=>exact⟨v,rfl⟩
   |_=>cases hm
structure DTs(K:W.Frag)(mg:Qt)(X:Cx)(ES:St->XK)(es:List Expr)(F:PTs):Prop where
 ok:L2.PTs X es (rdT K mg ES F.G)
def Mov.trans{P P1 P2:Addr->Prop}{H H1 H2:Hp}(a:Mov P P1 H H1)(b:Mov P1 P2 H1 H2):Mov P P2 H H2:=⟨a.le.trans b.le,λn o p q ht=>by obtain⟨p1,q1⟩:=a.cl n o p q ht;exact b.cl n o p1 q1 ht⟩
section
variable{K:W.Frag}{mg:Qt}{X:Cx}{ES:St->XK}{a b o iter tg elt:Expr}{ifs:List Expr}{I:PIt}{g:PGt}{p:PEx}{t:PTs}{pos:Pos}{sub:Qw}
def cq:DTs K mg X ES [] qY:=⟨λpins s σ H Q i ⟨Y,N0,ns,e,S,p⟩=>F3 pins s σ H Q i (PG3.ret p S)⟩
def D5{hsb:(sub.filterMap id).Nodup}(σ:St)(H:Hp)(Q:VK):rdE K mg ES (pLC I sub hsb g t p).G σ H Q->qR (rdI K mg ES I.G) sub (rdG K mg g.G) (rdT K mg (λ_=>E0) t.G) (rdE K mg (λ_=>E0) p.G) σ H Q:=λzz=>zz.el λY N0 L ns e S hl pp=>
 ⟨Y,
  N0,ns,e,S,PG3.imp pp S λw e1 ns1 H1 a1 S1 p1 J it hk=>by
  have hs':=yR hsb;have S2:=S1.lockO w.2;have S3:=S2.inner hs';try dsimp only at p1
  split at p1
  .rename_i ys
    e2 q
   split at p1
   .rename_i hy;have kp:∀{ns' e' H'},Stp (br sub ns1) (bU sub (lockO e1 w.2)) H1 ns' e' H'->Kp Y ns1 w.2 H1 (Oc (Xin Y ns1 sub) ns') H':=λ{ns' e' H'} a=>⟨D4.trans a.mov,λk n ob hk1 hk2 qm ht=>a.keep n ob qm ht λ⟨j,s,z1,z2,z3⟩=>by
     obtain⟨i,y1,y2⟩:=cN z1
     have:=S1.inj i k n y2 hk2
     subst this;obtain⟨s',w1,w2⟩:=hk i hk1;have hl:(lockO e1 w.2)[i]?=some (ik s'):=by rw[hk1];exact nT w1
     rcases jH z2 with ⟨z,_⟩ |⟨i',z,y⟩
     .rw[y1] at z;cases z
     .rw[y1] at z;cases z;rcases y with ⟨y,_⟩ |⟨t,y,rfl⟩
      .rw[hl] at y;cases y
      .rw[hl] at y;cases y;cases s' <;> first |cases w2;done |cases z3;done⟩
    refine⟨λi m acc σ' H'=>m=w.1.length-i/\i<=w.1.length/\∃ns' e' av,Stp (br sub ns1) (bU sub (lockO e1 w.2)) H1 ns' e' H'/\Sat K mg (Xin Y ns1 sub) N0 ns' e' σ' H'/\Rds K mg (Oc (Xin Y ns1 sub) ns') H' acc av/\lcV g.G t.G p.G (w.1.drop i) av e'=.ok ys e2,⟨_,rfl,N3 _,_,_,[],.refl,S3,.nil,q⟩,?_⟩;rintro i m acc σ' H' ⟨rfl,hi,ns',e',av,a',S',ra,q'⟩;by_cases hlt:i<w.1.length
    .rw[Pt hlt] at q';unfold lcV at q';split at q'
     .rename_i hla;obtain⟨go,yl⟩:=(it _ _ (kp a')).1 i _ (B_ hlt);refine .inr ⟨go,by rw[ra.len];exact hla,λacc' σ2 H2=>i+1<=w.1.length/\∃ns' e' av,Stp (br sub ns1) (bU sub (lockO e1 w.2)) H1 ns' e' H2/\Sat K mg (Xin Y ns1 sub) N0 ns' e' σ2 H2/\Rds K mg (Oc (Xin Y ns1 sub) ns') H2 acc' av/\lcV g.G t.G p.G (w.1.drop (i+1)) av e'=.ok ys e2,λacc' σ2 H2 n=>⟨_,by omega,rfl,n⟩,λx H2 y=>?_⟩;obtain⟨gr,rx⟩:=yl x H2 y;have a2:=a'.trans S3 (.gr gr);have S4:=S'.gr gr;have ra2:=ra.mono gr.mov;split at q'
      .cases q'
      .rename_i e3 qg;refine⟨_,N0,ns',e',_,e3,S4,rx,qg,λσ3 ns3 a3 S5=>⟨_,N0,ns3,e3,S5,?_⟩⟩;have a4:=a2.trans S3 a3;have ra3:=ra2.mono a3.mov;cases qc:t.G e3 with
       |stuck=>rw[qc] at q';cases q'
       |exc _ _=>rw[qc] at q';cases q'
       |
        ok b e4=>
        rw[qc] at q';intro H4 ns4 a5 S6;have a6:=a4.trans S3 a5;have ra4:=ra3.mono a5.mov;show if b=true then _ else _
        have q':(if b=true then (p.G e4).bind λtt e3=>(match cR e3 tt with
         |some (e4,y)=>lcV g.G t.G p.G (w.1.drop (i+1)) (av++[y]) e4
         |none=>.stuck) else lcV g.G t.G p.G (w.1.drop (i+1)) av e4)=.ok ys e2:=q'
        by_cases hb:b=true
        .rw[if_pos hb] at q' ⊢;refine⟨_,N0,λ_=>True,ns4,e4,S6,λ_ _=>trivial,?_⟩;cases qp:p.G e4 with
         |stuck=>rw[qp] at q';cases q'
         |exc _ _=>rw[qp] at q';cases q'
         |
          ok tt e5=>
          rw[qp] at q';intro H5 ns5 a7 S7 v rv;have q':(match cR e5 tt with
           |some (e4,y)=>lcV g.G t.G p.G (w.1.drop (i+1)) (av++[y]) e4
           |none=>.stuck)=.ok ys e2:=q'
          split at q'
          .rename_i e6 u qd;obtain⟨ns6,S8,a8,r8⟩:=gp S7 rv qd;exact⟨hlt,ns6,e6,_,(a6.trans S3 a7).trans S3 a8,S8,((ra4.mono a7.mov).mono a8.mov).append (.cons r8 .nil),q'⟩
          .cases q'
        .rw[if_neg hb] at q' ⊢;exact⟨hlt,ns4,e4,av,a6,S6,ra4,q'⟩
     .cases q'
    .have hi2:i=w.1.length:=by omega
     subst hi2;rw[List.drop_length] at q';cases q';have k3:∀n,Oc (Xin Y ns1 sub) ns' n->Oc Y ns1 n:=λn z=>⟨λy=>z.1 (.inl y),λy=>by
      by_cases w:some n∈br sub ns1
      .obtain⟨j,w⟩:=bj.mp w;obtain⟨s,v,o,b1,b2,_⟩:=S3.own w;rcases b2 with b2 |b2
       .obtain⟨v',rfl⟩:=(wN (e:=lockO e1 _) hs').mt j s b1 b2;obtain⟨u,c1,c2⟩:=a'.mu' j v' b1;exact z.2 (bj.mpr ⟨j,by rw[c2];exact w⟩)
       .obtain⟨c1,c2⟩:=a'.lk j s b1 b2;exact z.2 (bj.mpr ⟨j,by rw[c2];exact w⟩)
      .exact z.1 (.inr ⟨y,w⟩)⟩
     obtain⟨S5,a5⟩:=S2.back (Y:=Y) (wN hs') a' S'.bs (λn z=>by
      obtain⟨ob,z'⟩:=S2.xl n z;exact⟨by
       cases qh:H' n with
       |none=>rw[a'.dom n qh] at z';cases z'
       |some o'=>exact⟨o',rfl⟩,.inl z⟩) (λ_ z=>z) λj v n q1 q2=>by
      obtain⟨s,u,o,b1,b2,b3,b4,b5,b6,b7⟩:=S'.own q2;rw[q1] at b1;cases b1;cases b3;exact⟨o,b5,b6,b7.mono (.of k3)⟩
     have f_:∀e'',Sat K mg Y N0 ns1 e'' σ H'->Stp ns1 e1 H1 ns1 e'' H'->PG3 K mg Y N0 ns1 e1 σ H1 (ES σ) (KE K mg Y N0 L σ Q) (.ok (.new (.lst ys)) e'')->∀D,H' D=none->Q (.ref D) (upd H' D (.lst acc)):=λe'' S6 a6 p6 D hD=>
      PG3.bv (b:=.new (.lst ys)) (p6.after S1 a6) S6 (λa z=>hl a (a1.dom a (a6.dom a z))) H' D _ .refl hD trivial (.lst (ra.mono (.of k3)))
     refine .inl ⟨(it _ _ (kp a')).2,by rw[ra.len];exact hy,?_⟩;cases hp:w.2 with
     |none=>rw[hp] at S5 a5 p1;exact f_ _ S5 a5 p1
     |some k=>rw[hp] at S5 a5 p1;obtain⟨s,w1,w2⟩:=hk k hp;exact f_ _ (S5.unlock k) (a5.unlock w1 w2) p1
   .exact p1.elim
  .exact p1.elim⟩
def iU{scope:Scope}(M:List Str)(kn:List (Str×NameKind))(N:List Str)(sub:Qw){hsb:(sub.filterMap id).Nodup}(hi:DI K mg X ES tg iter I)(hg:N.Nodup->∀cl C s₂ H fp,DG K mg (cm X N scope cl C s₂ H fp) tg g)(ht:N.Nodup->∀cl C s₂ H fp,DTs K mg (cm X N scope cl C s₂ H fp) (λ_=>E0) ifs t)(he:N.Nodup->∀cl C s₂ H fp,DE K mg (cm X N scope cl C s₂ H fp) (λ_=>E0) elt p)(hnd:N.Nodup:=by decide)(hc:X.calm=true:=by rfl)(hM:X.N=M:=by rfl)(hkn:X.env.scope.names=kn:=by rfl)(hsub:qS M scope.names sub N=true:=by decide)(hk:scope.kind=.function:=by rfl)(hnc:∀x∈scope.names,x.2 ≠ .cell:=by decide)(h_:∀x∈scope.names,x.2=.local->scope.names.lookup x.1=some .local:=by decide)(hfr:xH kn scope.names=true:=by decide)(hsl:sub.length=N.length:=by rfl)(hs:∀x,foldedSetIterable iter X.env x=pure x:=by intro _;rfl):DE K mg X ES (.ListComp elt [⟨tg,iter,ifs,0⟩] scope pos) (pLC I sub hsb g t p):=
 ⟨PE.imp (GS hc hi.ok hk hnc h_ (by subst hkn;exact wA hfr) hsl (by subst hM;exact ui hsub) (λcl C s H f=>(hg hnd cl C s H f).ok) (λcl C s H f=>(ht hnd cl C s H f).ok) (λcl C s H f=>(he hnd cl C s H f).ok) hs) D5⟩
def yC{ow:Bool}{px spos:Pos}{iT:Nat}{xT:Str}{scope:Scope}(hN:X.N.Nodup)(M:List Str)(kn:List (Str×NameKind))(N:List Str)(sub:Qw){hsb:(sub.filterMap id).Nodup}(hi:DI K mg X ES tg iter I)(hg:N.Nodup->∀cl C s₂ H fp,DG K mg (cm X N scope cl C s₂ H fp) tg g)(ht:N.Nodup->∀cl C s₂ H fp,DTs K mg (cm X N scope cl C s₂ H fp) (λ_=>E0) ifs t)(he:N.Nodup->∀cl C s₂ H fp,DE K mg (cm X N scope cl C s₂ H fp) (λ_=>E0) elt p)(hsw:swapsWith (.ListComp elt [⟨tg,iter,ifs,0⟩] scope pos) (some (.Name xT px)) spos.line X.env=pure true:=by rfl)(hnd:N.Nodup:=by decide)(hc:X.calm=true:=by rfl)(hix:X.N[iT]?=some xT:=by rfl)(hxl:Loc X.env.scope xT:=by first |exact Or.inl rfl |exact Or.inr rfl)(hM:X.N=M:=by rfl)(hkn:X.env.scope.names=kn:=by rfl)(hsub:qS M scope.names sub N=true:=by decide)(hk:scope.kind=.function:=by rfl)(hnc:∀x∈scope.names,x.2 ≠ .cell:=by decide)(h_:∀x∈scope.names,x.2=.local->scope.names.lookup x.1=some .local:=by decide)(hfr:xH kn scope.names=true:=by decide)(hsl:sub.length=N.length:=by rfl)(hs:∀x,foldedSetIterable iter X.env x=pure x:=by intro _;rfl)(hf:X.fn xT=true\/X.env.scope.names.lookup xT=some .local:=by first |exact .inl rfl |exact .inr rfl |assumption):DS K mg X ES (.Assign [.Name xT px] (.ListComp elt [⟨tg,iter,ifs,0⟩] scope pos) spos) (aE ow iT (pLC I sub hsb g t p)):=
 ⟨PS.imp (JU hc hN hix hxl hi.ok hk hnc h_ (by subst hkn;exact wA hfr) hsl (by subst hM;exact ui hsub) (λcl C s H f=>(hg hnd cl C s H f).ok) (λcl C s H f=>(ht hnd cl C s H f).ok) (λcl C s H f=>(he hnd cl C s H f).ok) hsw hs hf) λD σ H q=>D5 σ H _ (zx D σ H q)⟩
end
inductive R3F where
 |ok (r:Rt) (mv:List Val) |exc (c:Str) (mv:List Val) |stuck
abbrev Fn3:=List Val->R3F
noncomputable def sl1 (b:Bool) (v:Val):Sl:=if b=true then .mu v else .sh v
noncomputable def sls (ms:List Bool) (vs:List Val):E3:=List.zipWith sl1 ms vs
noncomputable def aJ:List Bool->List Val->E3
 |true::ms,v::vs=>.mu v::aJ ms vs
 |true::ms,[]=>.no::aJ ms []
 |false::ms,vs=>.no::aJ ms vs
 | [],_=>[]
noncomputable def muV:List Bool->E3->Option (List Val)
 |true::ms,.mu v::e=>(muV ms e).map (v :: ·)
 |true::_,_=>none
 |false::ms,_::e=>muV ms e
 |false::_,[]=>none
 | [],_=>some []
noncomputable def fnV (ms:List Bool) (N:Nat) (F:MS3):Fn3:=λvs=>if vs.length=ms.length then (match F (sls ms vs++List.replicate (N-vs.length) .no) with
 |.nx e=>(match muV ms e with |some mv=>.ok (.val .non) mv |none=>.stuck)
 |.rt r e=>(match muV ms e with |some mv=>.ok r mv |none=>.stuck)
 |.exc c e=>(match muV ms e with |some mv=>.exc c mv |none=>.stuck)
 |_=>.stuck) else .stuck
def fF{ms:List Bool}{vs:List Val}{i:Nat}{s:Sl}(q:(sls ms vs)[i]?=some s):∃b v,ms[i]?=some b/\vs[i]?=some v/\s=sl1 b v:=by
 unfold sls at q;rw[OU] at q;cases h1:ms[i]? with
 |none=>rw[h1] at q;cases q
 |
  some b=>
  cases h2:vs[i]? with
  |none=>rw[h1,h2] at q;cases q
  |some v=>rw[h1,h2] at q;cases q;exact⟨b,v,rfl,rfl,rfl⟩
theorem gY:∀{ms:List Bool}{e:E3}{mv:List Val}{i:Nat}{s:Sl},muV ms e=some mv->(aJ ms mv)[i]?=some s->(ms[i]?=some false/\s=.no)\/(ms[i]?=some true/\∃v,e[i]?=some (.mu v)/\s=.mu v)
 | [],_,_,_,_,_,q=>by unfold aJ at q;simp at q
 |
  true::ms,.mu v::e,mv,i,s,q,q2=>by
  obtain⟨mv',z1,z2⟩:=M_.mp (show (muV ms e).map (v :: ·)=some mv from q);subst z2;cases i with
  |zero=>
   right;have:Sl.mu v=s:=by simpa [aJ] using q2
   subst this;exact⟨rfl,v,rfl,rfl⟩
  |
   succ i=>
   have:=gY (i:=i) (s:=s) z1 (by simpa [aJ] using q2)
   simpa using this
 |true::ms,[],mv,i,s,q,q2=>by cases q
 |true::ms,.no::e,mv,i,s,q,q2=>by cases q
 |true::ms,.sh v::e,mv,i,s,q,q2=>by cases q
 |true::ms,.ow v::e,mv,i,s,q,q2=>by cases q
 |true::ms,.lo v::e,mv,i,s,q,q2=>by cases q
 |true::ms,.lm v::e,mv,i,s,q,q2=>by cases q
 |false::ms,[],mv,i,s,q,q2=>by cases q
 |
  false::ms,t::e,mv,i,s,q,q2=>by
  cases i with
  |zero=>
   left;have:Sl.no=s:=by simpa [aJ] using q2
   exact⟨rfl,this.symm⟩
  |
   succ i=>
   have:=gY (i:=i) (s:=s) (show muV ms e=some mv from q) (by simpa [aJ] using q2)
   simpa using this
theorem nU:∀{ms:List Bool}{e:E3}{mv:List Val}{i:Nat},muV ms e=some mv->ms[i]?=some true->∃v,e[i]?=some (.mu v)/\(aJ ms mv)[i]?=some (.mu v)
 | [],_,_,i,_,q=>by simp at q
 |
  true::ms,.mu v::e,mv,i,q,q2=>by
  obtain⟨mv',z1,z2⟩:=M_.mp (show (muV ms e).map (v :: ·)=some mv from q);subst z2;cases i with
  |zero=>exact⟨v,rfl,rfl⟩
  |succ i=>obtain⟨u,y1,y2⟩:=nU (i:=i) z1 (by simpa using q2);exact⟨u,by simpa using y1,by simpa [aJ] using y2⟩
 |true::ms,[],mv,i,q,q2=>by cases q
 |true::ms,.no::e,mv,i,q,q2=>by cases q
 |true::ms,.sh v::e,mv,i,q,q2=>by cases q
 |true::ms,.ow v::e,mv,i,q,q2=>by cases q
 |true::ms,.lo v::e,mv,i,q,q2=>by cases q
 |true::ms,.lm v::e,mv,i,q,q2=>by cases q
 |false::ms,[],mv,i,q,q2=>by cases q
 |
  false::ms,t::e,mv,i,q,q2=>by
  cases i with
  |zero=>simp at q2
  |succ i=>obtain⟨u,y1,y2⟩:=nU (i:=i) (show muV ms e=some mv from q) (by simpa using q2);exact⟨u,by simpa using y1,by simpa [aJ] using y2⟩
theorem gS:∀{ms:List Bool}{mv:List Val},(aJ ms mv).length=ms.length
 | [],_=>rfl
 |true::ms,v::mv=>by show (aJ ms mv).length+1=ms.length+1;rw[gS]
 |true::ms,[]=>by show (aJ ms []).length+1=ms.length+1;rw[gS]
 |false::ms,mv=>by show (aJ ms mv).length+1=ms.length+1;rw[gS]
noncomputable def iM (i:Nat):List Tm->Bool
 |.bor j::ts=>(i==j) || iM i ts
 |_::ts=>iM i ts
 | []=>false
noncomputable def j7 (i:Nat):List Bool->List Tm->Bool
 |true::ms,.bor j::ts=>(i==j) || j7 i ms ts
 |_::ms,_::ts=>j7 i ms ts
 |_,_=>false
noncomputable def okA (e:E3):List Bool->List Tm->Bool
 |true::ms,.bor i::ts=>((e[i]?).bind Sl.mv).isSome && !(iM i ts)&&okA e ms ts
 |true::_,_::_=>false
 |false::ms,.bor i::ts=>!(j7 i ms ts)&&okA e ms ts
 |false::ms,_::ts=>okA e ms ts
 | [],[]=>true
 |_,_=>false
noncomputable def nX (b:Bool) (t:Tm):Option Nat:=match b,t with
 |true,.bor i=>some i
 |_,_=>none
noncomputable def aX (ms:List Bool) (ts:List Tm):List (Option Nat):=List.zipWith nX ms ts
noncomputable def aV (e:E3):List Bool->List Tm->List Nat
 |false::ms,.bor i::ts=>(match e[i]? with
  |some (.sh _)=>aV e ms ts
  |_=>i::aV e ms ts)
 |_::ms,_::ts=>aV e ms ts
 |_,_=>[]
mutual
def flatV:Val->Bool
 |.tup xs=>c5 xs
 |.lst _=>false
 |.kl _=>false
 |.dct _=>false
 |.set _=>false
 |_=>true
def c5:List Val->Bool
 | []=>true
 |v::vs=>flatV v&&c5 vs
end
noncomputable def mQ:List (Key×Val)->Bool
 | []=>true
 |(_,v)::vs=>flatV v&&mQ vs
noncomputable def cQ:Val->Bool
 |.lst xs=>c5 xs
 |.dct xs=>mQ xs
 |.set _=>true
 |_=>false
noncomputable def kN:Rt->Bool
 |.val v=>flatV v
 |.new v=>cQ v
 |.par _=>true
 |.pr v u=>flatV v&&cQ u
noncomputable def oh (e:E3):List Nat->Option E3
 | []=>some e
 |i::is=>match cR e (.bor i) with
  |some (e1,_)=>oh e1 is
  |none=>none
noncomputable def Rt.tm (ts:List Tm):Rt->Tm
 |.val v=>.val v
 |.new v=>.new v
 |.par i=>(ts[i]?).getD (.val .non)
 |.pr v u=>.val (.tup [v,u])
noncomputable def EB (ms:List Bool) (G:Fn3) (A:MA3) (e:E3):R3 Tm:=(A e).bind λts e1=>match rss e1 ts with
 |none=>.stuck
 |some vs=>if okA e1 ms ts=true then (match G vs with
  |.stuck=>.stuck
  |.ok r mv=>if (aV e1 ms ts).isEmpty || (kN r&&mv.all cQ) then .ok (r.tm ts) (bc (aX ms ts) (aJ ms mv) e1) else (match oh e1 (aV e1 ms ts) with
   |some e2=>.ok (r.tm ts) (bc (aX ms ts) (aJ ms mv) e2)
   |none=>.stuck)
  |.exc c mv=>if (aV e1 ms ts).isEmpty || mv.all cQ then .exc c (bc (aX ms ts) (aJ ms mv) e1) else .stuck) else .stuck
section
variable{K:W.Frag}{mg:Qt}{P P':Addr->Prop}{H H':Hp}
def Rd.flat(l:LeH H H')(f:flatV v=true)(r:Rd K mg P H d v):Rd K mg P' H' d v:=
 @Rd.rec K mg P H (λd v _=>flatV v=true->Rd K mg P' H' d v) (λo v _=>flatV v=true->Rd K mg P' H' .non v) (λds vs _=>c5 vs=true->Rds K mg P' H' ds vs) (λws us _=>True) (λ_=>.non) (λb _=>.bl b) (λi _=>.int i) (λx _=>.str x) (λn _=>.ty n) (λm _=>.glb m) (λm e _=>.exc m (l.ext _ _ e)) (λh _ ih f=>.tup (l.sqT h) (ih f)) (λ_ _ _ f=>absurd f u_) (λ_ _ r _ f=>by cases r <;> exact absurd f u_) (λ_ _ f=>absurd f u_) (λ_ _ f=>absurd f u_) (λ_ _ f=>absurd f u_) (λ_ _ f=>absurd f u_) (λ_=>.nil) (λ_ _ a b f=>.cons (a (t_ .. ▸ f).1) (b (t_ .. ▸ f).2)) trivial (λ_ _ _ _=>trivial) d v r f
def Rds.flat(l:LeH H H')(f:c5 v=true)(r:Rds K mg P H ds v):Rds K mg P' H' ds v:=
 r.ind (M:=λds vs=>c5 vs=true->Rds K mg P' H' ds vs) (λ_=>.nil) (λr _ ih f=>by rw[c5,t_] at f;exact .cons (Rd.flat l f.1 r) (ih f.2)) f
def Rk.flat(l:LeH H H')(f:mQ v=true)(r:Rk K mg P H ds v):Rk K mg P' H' ds v:=
 r.ind (M:=λds vs=>mQ vs=true->Rk K mg P' H' ds vs) (λ_=>.nil) (λr _ ih f=>by rw[mQ,t_] at f;exact .cons (Rd.flat l f.1 r) (ih f.2)) f
def Rc.flat(l:LeH H H')(f:cQ v=true)(r:Rc K mg P H o v):Rc K mg P' H' o v:=by
 cases r with
 |lst r=>exact .lst (Rds.flat l (by simpa [cQ] using f) r)
 |fz r=>simp [cQ] at f
 |dct r=>exact .dct (Rk.flat l (by simpa [cQ] using f) r)
 |set xs nd=>exact .set xs nd
end
structure PFn where
 ms:List Bool
 G:Fn3
def nn(H:Hp)(a:Addr):Prop:=H a=none
def sp3(K:W.Frag)(mg:Qt)(f:PFn):Sp:=λvs H Q E=>∃Y ps us,us.length=f.ms.length/\Sat K mg Y (nn H) ps (sls f.ms us) (vs.map some) H/\match f.G us with
 |.ok r mv=>∀x H',Stp ps (sls f.ms us) H ps (aJ f.ms mv) H'->RtR K mg Y (nn H) ps (aJ f.ms mv) (vs.map some) H' x r->Q x H'
 |.exc c mv=>∀C H',Stp ps (sls f.ms us) H ps (aJ f.ms mv) H'->Sat K mg Y (nn H) ps (aJ f.ms mv) (vs.map some) H'->mg c=some (.ref C)->E (.ref C) none H'
 |.stuck=>False
noncomputable def fnP (ms:List Bool) (N:Nat) (c:PSt):PFn:=⟨ms,fnV ms N c.G⟩
section
variable{K:W.Frag}{mg:Qt}{X N0:Addr->Prop}{ps:Ns}{e:E3}{H H':Hp}{ms:List Bool}{us:List Val}{vs:List V}{k:Nat}
def FW(S:Sat K mg X N0 ps e σ H):Sat K mg X N0 (ps++List.replicate k none) (e++List.replicate k .no) (σ++List.replicate k none) H:=by
 have gns:∀{i n:Nat},(ps++List.replicate k (none:Option Addr))[i]?=some (some n)->ps[i]?=some (some n):=λ{i n} q=>by
  rw[Qa] at q;split at q
  .exact q
  .rw[Ol] at q;split at q <;> cases q
 refine⟨?_,?_,S.lh,S.xl,λi j n q1 q2=>S.inj i j n (gns q1) (gns q2),λi n q=>S.nx i n (gns q),λi s q=>?_,S.bs⟩
 .rw[G_,G_,N7,N7,S.l1]
 .rw[G_,G_,N7,N7,S.l2]
 .rw[Qa] at q;split at q
  .rename_i hi;rw[NW (by rw[S.l2];exact hi),NW (by rw[S.l1];exact hi)];exact (S.sl i s q).mono (.of λn p=>⟨p.1,λz=>p.2 (by obtain⟨j,z⟩:=bj.mp z;exact bj.mpr ⟨j,gns z⟩)⟩) λ_ _ _ q _=>q
  .rename_i hi;rw[Ol] at q;split at q
   .cases q;rw[OZ (by rw[S.l2];exact Nat.le_of_not_lt hi),Ol,if_pos (by rw[S.l2];assumption)];rfl
   .cases q
def ja{Y:Addr->Prop}(hl:us.length=ms.length)(S:Sat K mg X N0 ps (sls ms us) σ H)(hXY:∀n,X n->Y n)(a:Stp (ps++List.replicate k none) (sls ms us++List.replicate k .no) H ns' e' H')(S2:Sat K mg Y N0 ns' e' σ' H')(qm:muV ms e'=some mv):
 Stp ps (sls ms us) H ps (aJ ms mv) H'/\Sat K mg Y N0 ps (aJ ms mv) σ H'/\∀n,Oc Y ns' n->Oc Y ps n:=by
 have lS:(sls ms us).length=ms.length:=by unfold sls;rw[OJ];omega
 have ltS:∀{i:Nat},i<ms.length->i<(sls ms us).length:=λh=>by omega
 have ltP:∀{i:Nat},i<(sls ms us).length->i<ps.length:=λh=>S.l2.symm ▸ h;have kmu:∀{i:Nat},ms[i]?=some true->∃v u n o,e'[i]?=some (.mu v)/\(aJ ms mv)[i]?=some (.mu v)/\(sls ms us)[i]?=some (.mu u)/\ns'[i]?=ps[i]?/\ps[i]?=some (some n)/\σ[i]?=some (some (.ref n))/\H' n=some o/\NotFz o/\Rc K mg (Oc Y ns') H' o v:=by intro i hi;obtain⟨v,y1,y2⟩:=nU qm hi;have hil:i<ms.length:=(w_.mp hi).1;obtain⟨u,y3,y4⟩:=a.mu i v y1;rw[NW (ltS hil)] at y3;rw[NW (ltP (ltS hil))] at y4;obtain⟨n,o,z1,z2,_⟩:=S.sl i _ y3;obtain⟨n',o',w1,w2,w3,w4,w5⟩:=S2.sl i _ y1;rw[y4,z1] at w1;cases w1;exact⟨v,u,n,o',y1,y2,y3,y4,z1,z2,w3,w4,w5⟩
 have kown:∀{i n:Nat},ps[i]?=some (some n)->ms[i]?=some true:=λ{i n} q=>by
  obtain⟨s,v,o,z1,z2,_⟩:=S.own q;obtain⟨b,u,y1,_,y2⟩:=fF z1;cases b with
  |true=>exact y1
  |false=>subst y2;rcases z2 with z2 |z2 <;> cases z2
 have koc:∀n,Oc Y ns' n->Oc Y ps n:=λn z=>⟨z.1,λy=>by obtain⟨i,y⟩:=bj.mp y;obtain⟨v,u,n',o,_,_,_,k1,k2,_⟩:=kmu (kown y);exact z.2 (bj.mpr ⟨i,by rw[k1];exact y⟩)⟩;refine⟨⟨a.le,a.dom,λm o q ht hm=>a.keep m o q ht λ⟨i,s,z1,z2,z3⟩=>hm ?_,λ_ _ q=>.inl q,λi s q hl'=>?_,λi s q hl'=>?_,λi v q=>?_,λi v q=>?_⟩,⟨?_,?_,λn z=>S.lh n (a.dom n z),S2.xl,S.inj,λi n q z=>?_,λi s q=>?_,S2.bs⟩,koc⟩
 .rw[Qa] at z1;split at z1
  .rename_i hi;rw[NW (by rw[<- S.l2];exact hi)] at z2;exact⟨i,s,z1,z2,z3⟩
  .rw[Ol] at z1;split at z1 <;> cases z1
 .obtain⟨b,u,_,_,y⟩:=fF q;subst y;cases b <;> cases hl'
 .rcases gY qm q with ⟨_,z⟩ |⟨_,v,_,z⟩ <;> subst z <;> cases hl'
 .rcases gY qm q with ⟨_,z⟩ |⟨z,_⟩
  .cases z
  .obtain⟨v',u,n,o,_,_,k1,_⟩:=kmu z;exact⟨u,k1,rfl⟩
 .obtain⟨b,u,y1,_,y2⟩:=fF q;cases b with
  |false=>cases y2
  |true=>obtain⟨v',u,n,o,_,k0,k1,_⟩:=kmu y1;exact⟨v',k0,rfl⟩
 .rw[S.l1,gS];exact lS
 .rw[S.l2,gS];exact lS
 .obtain⟨v,u,n',o,_,_,_,k1,k2,_⟩:=kmu (kown q);exact S2.nx i n (by rw[k1];exact q) z
 .rcases gY qm q with ⟨z,rfl⟩ |⟨z,v,z2,rfl⟩
  .have hil:i<ms.length:=(w_.mp z).1;have hi:i<(sls ms us).length:=ltS hil;obtain⟨b,u,y1,_,y2⟩:=fF (B_ hi);rw[z] at y1;cases y1;have k:=S.sl i _ (B_ hi);rw[y2] at k;exact k.1
  .obtain⟨v',u,n,o,k0,_,_,k1,k2,k3,k4,k5,k6⟩:=kmu z;rw[z2] at k0;cases k0;exact⟨n,o,k2,k3,k4,k5,k6.mono (.of koc)⟩
variable{P:Program}{w:World}{base:Heap}{fx:Str}{e_:Stmt}{n m:Nat}{pn N:List Str}{x:PSt}
def nF(sp:sp3 K mg (fnP ms m x) vs H Q E):vs.length=ms.length:=by obtain⟨Y,ps,us,hl,S,_⟩:=sp;have q:=S.l1;unfold sls at q;rw[o_,OJ] at q;have hl':us.length=ms.length:=hl;have:(fnP ms m x).ms=ms:=rfl;rw[this] at q;omega
def lL{Q:VK}{E:XK}(sp:sp3 K mg (fnP ms N.length x) vs H Q E):rdS K mg (λ_=>E) x.G { nx:=λ_ H'=>Q .non H',rt:=Q } (df N vs) H:=by
 have hv:=nF sp;obtain⟨Y,ps,us,hl,S0,p⟩:=sp;have hl:us.length=ms.length:=hl;have S0:Sat K mg Y (nn H) ps (sls ms us) (vs.map some) H:=S0;have S1:=FW (k:=N.length-vs.length) S0;refine⟨Y,nn H,_,_,S1,?_⟩;have p:match fnV ms N.length x.G us with
  |.ok r mv=>∀y H',Stp ps (sls ms us) H ps (aJ ms mv) H'->RtR K mg Y (nn H) ps (aJ ms mv) (vs.map some) H' y r->Q y H'
  |.exc c mv=>∀C H',Stp ps (sls ms us) H ps (aJ ms mv) H'->Sat K mg Y (nn H) ps (aJ ms mv) (vs.map some) H'->mg c=some (.ref C)->E (.ref C) none H'
  |.stuck=>False:=p
 unfold fnV at p;rw[if_pos hl] at p;have hvu:us.length=vs.length:=by omega
 rw[hvu] at p;cases q:x.G (sls ms us++List.replicate (N.length-vs.length) .no) with
 |stuck=>rw[q] at p;exact p.elim
 |bk _=>rw[q] at p;exact p.elim
 |ct _=>rw[q] at p;exact p.elim
 |
  nx e'=>
  rw[q] at p;intro H' σ' ns' a S2;try dsimp only at p
  cases qm:muV ms e' with
  |none=>rw[qm] at p;exact p.elim
  |some mv=>rw[qm] at p;obtain⟨a3,S3,koc⟩:=ja hl S0 (λ_ z=>z) a S2 qm;exact p _ _ a3 ⟨S3,.non⟩
 |
  exc c e'=>
  rw[q] at p;intro H' σ' ns' C a S2 hC;try dsimp only at p
  cases qm:muV ms e' with
  |none=>rw[qm] at p;exact p.elim
  |some mv=>rw[qm] at p;obtain⟨a3,S3,koc⟩:=ja hl S0 (λ_ z=>z) a S2 qm;exact p _ _ a3 S3 hC
 |
  rt r e'=>
  rw[q] at p;intro H' σ' ns' y a rr;try dsimp only at p
  cases qm:muV ms e' with
  |none=>rw[qm] at p;exact p.elim
  |
   some mv=>
   rw[qm] at p;cases r with
   |val v=>obtain⟨a3,S3,koc⟩:=ja hl S0 (λ_ z=>z) a rr.1 qm;exact p _ _ a3 ⟨S3,rr.2.mono (.of koc)⟩
   |new v=>obtain⟨n,o,z1,z2,z3,z4,z5,z6,z7⟩:=rr;obtain⟨a3,S3,koc⟩:=ja (Y:=Xn Y n) hl S0 (λ_ z=>.inl z) a z6 qm;exact p _ _ a3 ⟨n,o,z1,z2,z3,z4,z5,S3,z7.mono (.of koc)⟩
   |pr v u=>obtain⟨pp,d1,n,o,z0,z1,z2,z3,z4,z5,z6,z7,z8⟩:=rr;obtain⟨a3,S3,koc⟩:=ja (Y:=Xn Y n) hl S0 (λ_ z=>.inl z) a z6 qm;exact p _ _ a3 ⟨pp,d1,n,o,z0,z1,z2,z3,z4,z5,S3,z7.mono (.of koc),z8.mono (.of koc)⟩
   |
    par i=>
    obtain⟨R1,R2,v,R3⟩:=rr;obtain⟨a3,S3,koc⟩:=ja hl S0 (λ_ z=>z) a R1 qm;refine p _ _ a3 ⟨S3,?_,?_⟩;all_goals
     obtain⟨u,k1,k2⟩:=a.mu i v R3;have hi:i<(sls ms us).length:=by apply Decidable.byContradiction;intro hi;rw[OZ (Nat.le_of_not_lt hi),Ol] at k1;split at k1 <;> cases k1
     rw[NW hi] at k1;rw[NW (by rw[S0.l2];exact hi)] at k2;obtain⟨m,o,w1,w2,_⟩:=S0.sl i _ k1
    .obtain⟨m',o',x1,x2,_⟩:=R1.sl i _ R3;rw[k2,w1] at x1;cases x1;rw[R2] at x2;cases x2;exact w2
    .obtain⟨v',y,_⟩:=a3.mu' i u k1;exact⟨v',y⟩
def okP(D:Def K mg fx e_)(S:FnScope N pn (au e_))
 (hb:∀(kV doc pm:Value) (an:Option Addr) (cdv ct:Value) (us:List Value),us.length=pn.length->bindArgs (W.fnOf fx fx (cI e_) (bq e_) (au e_) .none kV doc pm an cdv ct) ⟨us,[]⟩=pure (pn.zip us))
 (b_:N.Nodup->∀(f:Addr) (cdv:Value) (A:Around) (outer:List Env) (s:Shared) (H:Hp) (E:XK),Room k (A.deeper (envOfC fx (au e_) s.heap.objs.size f cdv))->
  DSs K mg (eE (CX1 P w) P w K mg base N fx (au e_) f cdv A outer s H E) (λ_=>E) (bq e_) x) (hn:ms.length=pn.length:=by rfl) (hm:N.length=m:=by rfl):Callee P w K mg base fx (k+1) pn (sp3 K mg (fnP ms m x)):=by
 subst hm;exact D.okR S hb (λvs H Q E sp=>by rw[<- hn];exact nF sp) λf cdv A outer s H vs Q E hr sp=>⟨_,(b_ S.nd f cdv A outer s H E hr).ok,lL sp⟩
end
theorem oD:∀{ts:List Tm}{k:Nat},ts[k]?=some (.bor i)->iM i ts=true
 | [],_,q=>by simp at q
 |
  t::ts,0,q=>by
  have:t=.bor i:=by simpa using q
  subst this;simp [iM]
 |
  t::ts,k+1,q=>by
  have:=oD (ts:=ts) (k:=k) (by simpa using q)
  cases t <;> simp [iM,this]
theorem wc:∀{ms:List Bool}{ts:List Tm}{k:Nat},ms[k]?=some true->ts[k]?=some (.bor i)->j7 i ms ts=true
 | [],_,_,q,_=>by simp at q
 |_::_,[],_,_,q=>by simp at q
 |
  b::ms,t::ts,0,q1,q=>by
  have:t=.bor i:=by simpa using q
  have:b=true:=by simpa using q1
  subst_vars;simp [j7]
 |
  b::ms,t::ts,k+1,q1,q=>by
  have:=wc (ms:=ms) (ts:=ts) (k:=k) (by simpa using q1) (by simpa using q)
  cases b <;> cases t <;> simp [j7,this]
theorem kI:∀{ms:List Bool}{ts:List Tm}{k:Nat},okA e ms ts=true->ms[k]?=some true->∃i,ts[k]?=some (.bor i)/\∃u,(e[i]?).bind Sl.mv=some u
 | [],_,_,_,q=>by simp at q
 |b::ms,[],_,o,_=>by cases b <;> simp [okA] at o
 |
  b::ms,t::ts,0,o,q=>by
  have:b=true:=by simpa using q
  subst this;cases t with
  |bor i=>simp only[okA,t_] at o;exact⟨i,rfl,Og.mp o.1.1⟩
  |_=>simp [okA] at o
 |
  b::ms,t::ts,k+1,o,q=>by
  have o':okA e ms ts=true:=by cases b <;> cases t <;> simp only[okA,t_] at o <;> first |exact o.2 |exact o |(simp at o;done)
  obtain⟨i,y⟩:=kI (k:=k) o' (by simpa using q);exact⟨i,by simpa using y⟩
theorem jk:∀{ms:List Bool}{ts:List Tm}{k j i:Nat},okA e ms ts=true->ms[k]?=some true->ts[k]?=some (.bor i)->ts[j]?=some (.bor i)->j=k
 | [],_,_,_,_,_,q,_,_=>by simp at q
 |b::ms,[],_,_,_,o,_,_,_=>by cases b <;> simp [okA] at o
 |b::ms,t::ts,0,0,i,o,q1,q2,q3=>rfl
 |
  b::ms,t::ts,0,j+1,i,o,q1,q2,q3=>by
  have h1:b=true:=by simpa using q1
  have h2:t=.bor i:=by simpa using q2
  subst h1 h2;simp only[okA,t_] at o
  have:=oD (i:=i) (ts:=ts) (k:=j) (by simpa using q3)
  rw[this] at o;simp at o
 |
  b::ms,t::ts,k+1,0,i,o,q1,q2,q3=>by
  have h2:t=.bor i:=by simpa using q3
  subst h2;have hm:=wc (i:=i) (ms:=ms) (ts:=ts) (k:=k) (by simpa using q1) (by simpa using q2);have hb:=oD (i:=i) (ts:=ts) (k:=k) (by simpa using q2);cases b <;> simp [okA,hm,hb] at o
 |
  b::ms,t::ts,k+1,j+1,i,o,q1,q2,q3=>by
  have o':okA e ms ts=true:=by cases b <;> cases t <;> simp only[okA,t_] at o <;> first |exact o.2 |exact o |(simp at o;done)
  exact NR (· + 1) (jk (k:=k) (j:=j) (i:=i) o' (by simpa using q1) (by simpa using q2) (by simpa using q3))
theorem n5:∀{ms:List Bool}{ts:List Tm},okA e ms ts=true->ms.length=ts.length
 | [],[],_=>rfl
 | [],_::_,o=>by simp [okA] at o
 |b::ms,[],o=>by cases b <;> simp [okA] at o
 |
  b::ms,t::ts,o=>by
  have o':okA e ms ts=true:=by cases b <;> cases t <;> simp only[okA,t_] at o <;> first |exact o.2 |exact o |(simp at o;done)
  exact NR (· + 1) (n5 o')
theorem mh:∀{ms:List Bool}{ts:List Tm}{k i:Nat},ms[k]?=some false->ts[k]?=some (.bor i)->(∀v,e[i]?≠some (.sh v))->i∈aV e ms ts
 | [],_,_,_,q,_,_=>by simp at q
 |_::_,[],_,_,_,q,_=>by simp at q
 |
  b::ms,t::ts,0,i,q1,q2,hn=>by
  have h1:b=false:=by simpa using q1
  have h2:t=.bor i:=by simpa using q2
  subst h1 h2;unfold aV;split
  .rename_i v q;exact absurd q (hn v)
  .exact s_ ..
 |
  b::ms,t::ts,k+1,i,q1,q2,hn=>by
  have ih:=mh (ms:=ms) (ts:=ts) (k:=k) (by simpa using q1) (by simpa using q2) hn;cases b <;> cases t <;> simp only[aV] <;> first |exact ih |(split;exact ih;exact q_ _ ih)
def ft{ms:List Bool}{ts:List Tm}{k i:Nat}(q:(aX ms ts)[k]?=some (some i)):ms[k]?=some true/\ts[k]?=some (.bor i):=by
 unfold aX at q;rw[OU] at q;cases h1:ms[k]? with
 |none=>rw[h1] at q;cases q
 |
  some b=>
  cases h2:ts[k]? with
  |none=>rw[h1,h2] at q;cases q
  |some t=>rw[h1,h2] at q;have q':nX b t=some i:=H_ q;cases b <;> cases t <;> first |(cases q';done) |(cases q';exact⟨rfl,rfl⟩)
def FN{ms:List Bool}{ts:List Tm}{k i:Nat}(q1:ms[k]?=some true)(q2:ts[k]?=some (.bor i)):(aX ms ts)[k]?=some (some i):=by unfold aX;rw[OU,q1,q2];rfl
theorem we:∀{ts:List Tm}{vs:List Val}{k:Nat}{v:Val},rss e ts=some vs->vs[k]?=some v->∃t,ts[k]?=some t/\rs e t=some v
 | [],_,_,_,q,q2=>by cases q;simp at q2
 |
  t::ts,vs,k,v,q,q2=>by
  unfold rss at q;split at q
  .rename_i u us e1 e2;cases q;cases k with
   |zero=>
    have:u=v:=by simpa using q2
    subst this;exact⟨t,rfl,e1⟩
   |succ k=>obtain⟨t',y1,y2⟩:=we (k:=k) e2 (by simpa using q2);exact⟨t',by simpa using y1,y2⟩
  .cases q
theorem nM:∀{ts:List Tm}{vs:List Val},rss e ts=some vs->vs.length=ts.length
 | [],_,q=>by cases q;rfl
 |
  t::ts,vs,q=>by
  unfold rss at q;split at q
  .rename_i u us e1 e2;cases q;exact NR (· + 1) (nM e2)
  .cases q
theorem jz:∀{ms:List Bool}{mv:List Val}{j:Nat}{v:Val},(aJ ms mv)[j]?=some (.mu v)->v∈mv
 | [],_,_,_,q=>by simp [aJ] at q
 |true::ms,u::mv,0,v,q=>by
  have:Sl.mu u=.mu v:=by simpa [aJ] using q
  cases this;exact s_ ..
 |true::ms,u::mv,j+1,v,q=>q_ _ (jz (ms:=ms) (mv:=mv) (j:=j) (by simpa [aJ] using q))
 |true::ms,[],0,v,q=>by simp [aJ] at q
 |true::ms,[],j+1,v,q=>jz (ms:=ms) (mv:=[]) (j:=j) (by simpa [aJ] using q)
 |false::ms,mv,0,v,q=>by simp [aJ] at q
 |false::ms,mv,j+1,v,q=>jz (ms:=ms) (mv:=mv) (j:=j) (by simpa [aJ] using q)
theorem l9:∀{ms:List Bool}{ts:List Tm}{i:Nat},i∈aV e ms ts->∃k:Nat,ms[k]?=some false/\ts[k]?=some (.bor i)
 | [],_,_,q=>by simp [aV] at q
 |_::_,[],_,q=>by simp [aV] at q
 |
  b::ms,t::ts,i,q=>by
  have up:i∈aV e ms ts->∃k:Nat,(b::ms)[k]?=some false/\(t::ts)[k]?=some (.bor i):=λz=>by obtain⟨k,y1,y2⟩:=l9 z;exact⟨k+1,by simpa using y1,by simpa using y2⟩
  cases b <;> cases t <;> simp only[aV] at q <;> first |exact up q |skip
  split at q
  .exact up q
  .rcases F_.mp q with rfl |q
   .exact⟨0,rfl,rfl⟩
   .exact up q
def FA(q:cR e (.bor i)=some (e1,v)):(∀j,j≠i->e1[j]?=e[j]?)/\e1[i]?=some (.sh v)/\(e[i]?).bind Sl.val=some v:=by
 unfold cR at q;dsimp only at q;split at q
 .rename_i u q1;cases q;exact⟨λ_ _=>rfl,q1,by rw[q1];rfl⟩
 .rename_i u q1;cases q;exact⟨λj z=>b9 z,du (w_.mp q1).1,by rw[q1];rfl⟩
 .cases q
theorem o8:∀{ms:List Bool}{ts:List Tm},(∀(k i:Nat),ms[k]?=some true->ts[k]?=some (.bor i)->e2[i]?=e[i]?)->okA e ms ts=true->okA e2 ms ts=true
 | [],[],_,o=>rfl
 | [],_::_,_,o=>by simp [okA] at o
 |b::ms,[],_,o=>by cases b <;> simp [okA] at o
 |
  b::ms,t::ts,hk,o=>by
  have o':okA e ms ts=true:=by cases b <;> cases t <;> simp only[okA,t_] at o <;> first |exact o.2 |exact o |(simp at o;done)
  have ih:=o8 (λk i q1 q2=>hk (k+1) i (by simpa using q1) (by simpa using q2)) o';cases b with
  |false=>cases t <;> simp only[okA,t_] at o ⊢ <;> first |exact⟨o.1,ih⟩ |exact ih
  |
   true=>
   cases t with
   |bor i=>simp only[okA,t_] at o ⊢;rw[hk 0 i rfl rfl];exact⟨o.1,ih⟩
   |_=>simp [okA] at o
theorem uo:∀{ms:List Bool}{ts:List Tm},(∀(k i:Nat),ms[k]?=some false->ts[k]?=some (.bor i)->∃v,e[i]?=some (.sh v))->aV e ms ts=[]
 | [],_,_=>by simp [aV]
 |_::_,[],_=>by simp [aV]
 |
  b::ms,t::ts,hk=>by
  have ih:=uo (λk i q1 q2=>hk (k+1) i (by simpa using q1) (by simpa using q2));cases b <;> cases t <;> simp only[aV] <;> first |exact ih |skip
  rename_i i;obtain⟨v,q⟩:=hk 0 i rfl rfl;rw[q];exact ih
theorem pB(hv:∀i:Nat,(e2[i]?).bind Sl.val=(e[i]?).bind Sl.val):∀(ts:List Tm),rss e2 ts=rss e ts
 | []=>rfl
 |
  t::ts=>by
  unfold rss;rw[pB hv ts];have:rs e2 t=rs e t:=by
   cases t with
   |bor i=>exact hv i
   |_=>rfl
  rw[this]
def Ds(ok:okA e ms ts=true):Lnk (aX ms ts) e (sls ms vs):=by
 refine⟨λj k i q1 q2=>jk ok (ft q2).1 (ft q2).2 (ft q1).2,λj v q=>?_,λj s q hm=>?_⟩
 .obtain⟨b,u,q1,_,q2⟩:=fF q;cases b with
  |false=>cases q2
  |true=>obtain⟨i,y1,w,y2⟩:=kI ok q1;obtain⟨s,z1,z2⟩:=NH.mp y2;exact⟨i,s,FN q1 y1,z1,by cases s <;> first |rfl |cases z2⟩
 .obtain⟨b,u,q1,_,q2⟩:=fF q;cases b with
  |false=>subst q2;cases hm
  |true=>exact⟨u,q2⟩
section
variable{K:W.Frag}{mg:Qt}{X N0 L:Addr->Prop}{ns:Ns}{e e2:E3}{σ:St}{H H':Hp}{ms:List Bool}{ts:List Tm}{ds:List V}{vs:List Val}{E:XK}{Q:VK}
theorem TsR.get:∀{ds:List V}{ts:List Tm}{k:Nat}{t:Tm},TsR K mg X ns σ H ds ts->ts[k]?=some t->∃d,ds[k]?=some d/\((∃v,t=.val v/\Rd K mg (Oc X ns) H d v)\/∃i,t=.bor i/\σ[i]?=some (some d))
 |_,_,_,_,.nil,q=>by simp at q
 |_,_,0,_,.val r rr,q=>by have:=(by simpa using q:Tm.val _=_);subst this;exact⟨_,rfl,.inl ⟨_,rfl,r⟩⟩
 |_,_,0,_,.bor r rr,q=>by have:=(by simpa using q:Tm.bor _=_);subst this;exact⟨_,rfl,.inr ⟨_,rfl,r⟩⟩
 |_,_,k+1,t,.val r rr,q=>by obtain⟨d,y⟩:=rr.get (k:=k) (by simpa using q);exact⟨d,by simpa using y⟩
 |_,_,k+1,t,.bor r rr,q=>by obtain⟨d,y⟩:=rr.get (k:=k) (by simpa using q);exact⟨d,by simpa using y⟩
def Xc(X:Addr->Prop)(ns:Ns)(e:E3)(ms:List Bool)(ts:List Tm)(n:Addr):Prop:=(X n\/some n∈ns)/\some n∉br (aX ms ts) ns/\∀i∈aV e ms ts,ns[i]?≠some (some n)
def lW(S:Sat K mg X N0 ns e σ H)(rt:TsR K mg X ns σ H ds ts)(qv:rss e ts=some vs)(ok:okA e ms ts=true):
 Sat K mg (Xc X ns e ms ts) (nn H) (br (aX ms ts) ns) (sls ms vs) (ds.map some) H:=by
 have l1:=n5 ok;have l2:=nM qv;have l3:=TsR.len rt;have hs:nh (aX ms ts):=λj k i q1 q2=>jk ok (ft q2).1 (ft q2).2 (ft q1).2;have mv:Mov (Oc X ns) (Oc (Xc X ns e ms ts) (br (aX ms ts) ns)) H H:=.of λn p=>⟨λz=>by
  rcases z.1 with z |z
  .exact p.1 z
  .exact p.2 z,λz=>p.2 (tI z)⟩
 refine⟨?_,?_,λ_ z=>z,λn z=>?_,λj k n q1 q2=>?_,λj n q z=>z.2.1 (bj.mpr ⟨j,q⟩),λk s q=>?_,S.bs⟩
 .unfold sls;rw[o_,OJ];omega
 .unfold br aX sls;rw[o_,OJ,OJ];omega
 .rcases z.1 with z |z
  .exact S.xl n z
  .obtain⟨i,z⟩:=bj.mp z;obtain⟨_,_,o,_,_,_,_,q',_⟩:=S.own z;exact⟨o,q'⟩
 .obtain⟨i,y1,y2⟩:=cN q1;obtain⟨i',y3,y4⟩:=cN q2
  have:=S.inj i i' n y2 y4
  subst this;exact hs j k i y1 y3
 .obtain⟨b,v,q1,q2,rfl⟩:=fF q;obtain⟨t,q3,q4⟩:=we qv q2;obtain⟨d,q5,q6⟩:=rt.get q3;have qd:(ds.map some)[k]?=some (some d):=by rw[NB,q5];rfl
  rw[qd];have qn:(br (aX ms ts) ns)[k]?=some ((nX b t).bind λi=>(ns[i]?).bind id):=by unfold br aX;rw[NB,OU,q1,q3];rfl
  rw[qn];cases b with
  |
   true=>
   obtain⟨i,y1,u,y2⟩:=kI ok q1;rw[q3] at y1;cases y1;have q4':(e[i]?).bind Sl.val=some v:=q4;obtain⟨s,z1,z2⟩:=NH.mp y2;rw[z1] at q4';have hv:s.val=some v:=q4';have huv:u=v:=by cases s <;> first |cases z2;done |(cases z2;cases hv;rfl)
   subst huv;have hns:∃n,ns[i]?=some (some n):=by
    have y:=S.sl i s z1;cases s with
    |ow v=>obtain⟨n,o,y1,_⟩:=y;exact⟨n,y1⟩
    |mu v=>obtain⟨n,o,y1,_⟩:=y;exact⟨n,y1⟩
    |_=>cases z2
   obtain⟨n,hn⟩:=hns;obtain⟨n',o,k1,k0,k2,k3,k4,_⟩:=S.write z1 z2;rcases q6 with ⟨_,z,_⟩ |⟨i',z,q6⟩
   .cases z
   .cases z;rw[q6] at k1;cases k1;obtain⟨_,_,_,_,_,_,w,_⟩:=S.own hn;rw[q6] at w;cases w;exact⟨n,o,by show some ((ns[i]?).bind id)=_;rw[hn];rfl,rfl,k2,k3,k4.mono mv⟩
  |
   false=>
   refine⟨by cases t <;> rfl,d,rfl,?_⟩;rcases q6 with ⟨u,rfl,q6⟩ |⟨i,rfl,q6⟩
   .cases q4;exact q6.mono mv
   .obtain⟨s,z1,z2⟩:=NH.mp (show (e[i]?).bind Sl.val=some v from q4);have y:=S.sl i s z1;by_cases hsh:∃w,s=.sh w
    .obtain⟨w,rfl⟩:=hsh;cases z2;obtain⟨_,x,w1,w2⟩:=y;rw[q6] at w1;cases w1;exact w2.mono mv
    .have hl:=mh q1 q3 λw z=>hsh ⟨w,by rw[z1] at z;exact H_ z⟩;have:∃n o,ns[i]?=some (some n)/\σ[i]?=some (some (.ref n))/\H n=some o/\Rc K mg (Oc X ns) H o v:=by
      cases s with
      |no=>cases z2
      |sh w=>exact absurd ⟨w,rfl⟩ hsh
      |ow w=>cases z2;obtain⟨n,o,y1,y2,_,y3,_,y4⟩:=y;exact⟨n,o,y1,y2,y3,y4⟩
      |lo w=>cases z2;obtain⟨n,o,y1,y2,_,y3,_,y4⟩:=y;exact⟨n,o,y1,y2,y3,y4⟩
      |mu w=>cases z2;obtain⟨n,o,y1,y2,y3,_,y4⟩:=y;exact⟨n,o,y1,y2,y3,y4⟩
      |lm w=>cases z2;obtain⟨n,o,y1,y2,y3,_,y4⟩:=y;exact⟨n,o,y1,y2,y3,y4⟩
     obtain⟨n,o,w1,w2,w3,w4⟩:=this;rw[q6] at w2;cases w2;refine .cell ⟨λy=>y.2.2 i hl w1,λy=>?_⟩ w3 (w4.mono mv);obtain⟨j,y⟩:=bj.mp y;obtain⟨i',y1,y2⟩:=cN y;obtain⟨y3,y4⟩:=ft y1
     have:=S.inj i' i n y2 w1
     subst this
     have:=jk ok y3 y4 q3
     subst this;rw[q1] at y3;cases y3
theorem ur:∀{is:List Nat}{ns:Ns}{e e2:E3},Sat K mg X N0 ns e σ H->(∀i∈is,∃d,σ[i]?=some (some d))->oh e is=some e2->∃ns2,Sat K mg X N0 ns2 e2 σ H/\Stp ns e H ns2 e2 H/\(∀i,i∉is->e2[i]?=e[i]?)/\(∀i∈is,∃v,e2[i]?=some (.sh v))/\∀i:Nat,(e2[i]?).bind Sl.val=(e[i]?).bind Sl.val
 | [],ns,e,e2,S,_,q=>by cases q;exact⟨ns,S,.refl,λ_ _=>rfl,(λ_ z=>by cases z),λ_=>rfl⟩
 |
  i::is,ns,e,e2,S,hd,q=>by
  unfold oh at q;split at q
  .rename_i e1 v q1;obtain⟨d,hd0⟩:=hd i (s_ ..);obtain⟨ns1,S1,a1,r1⟩:=gp (L:=X) (t:=.bor i) S hd0 q1;obtain⟨ns2,S2,a2,k1,k2,k3⟩:=ur S1 (λj z=>hd j (q_ _ z)) q;obtain⟨y1,y2,y3⟩:=FA q1;refine⟨ns2,S2,a1.trans S a2,λj hj=>?_,λj hj=>?_,λj=>?_⟩
   .rw[F_,not_or] at hj;rw[k1 j hj.2,y1 j hj.1]
   .by_cases z:j∈is
    .exact k2 j z
    .rcases F_.mp hj with rfl |hj
     .exact⟨v,by rw[k1 j z];exact y2⟩
     .exact absurd hj z
   .rw[k3 j];by_cases z:j=i
    .subst z;rw[y2,y3];rfl
    .rw[y1 j z]
  .cases q
def wg(hl:aV e ms ts=[])(z:¬ Xc X ns e ms ts n)(z2:some n∉br (aX ms ts) ns):Oc X ns n:=
 ⟨λy=>z ⟨.inl y,z2,λi hi=>by rw[hl] at hi;cases hi⟩,λy=>z ⟨.inr y,z2,λi hi=>by rw[hl] at hi;cases hi⟩⟩
def lK{Y:Addr->Prop}(S:Sat K mg X N0 ns e σ H)(ok:okA e ms ts=true)(a:Stp (br (aX ms ts) ns) (sls ms vs) H (br (aX ms ts) ns) (aJ ms mv) H')(hf:aV e ms ts=[]\/mv.all cQ=true)(hY:∀n,Y n->(∃o,H' n=some o)/\H n=none)(S3:Sat K mg (λn=>Xc X ns e ms ts n\/Y n) N1 (br (aX ms ts) ns) (aJ ms mv) (ds.map some) H'):
 Sat K mg (λn=>X n\/Y n) N0 ns (bc (aX ms ts) (aJ ms mv) e) σ H'/\Stp ns e H ns (bc (aX ms ts) (aJ ms mv) e) H'/\(aV e ms ts=[]->∀m,Oc (λn=>Xc X ns e ms ts n\/Y n) (br (aX ms ts) ns) m->Oc (λn=>X n\/Y n) ns m):=by
 have kk:aV e ms ts=[]->∀m,Oc (λn=>Xc X ns e ms ts n\/Y n) (br (aX ms ts) ns) m->Oc (λn=>X n\/Y n) ns m:=λhf m z=>by
  have:=wg hf (λy=>z.1 (.inl y)) z.2
  exact⟨λy=>by
   rcases y with y |y
   .exact this.1 y
   .exact z.1 (.inr y),this.2⟩
 obtain⟨S4,a4⟩:=S.back (Y:=λn=>X n\/Y n) (Ds (vs:=vs) ok) a S3.bs (λm z=>by
  rcases z with z |z
  .obtain⟨o,z'⟩:=S.xl m z;refine⟨?_,.inl z⟩;cases qh:H' m with
   |none=>rw[a.dom m qh] at z';cases z'
   |some o'=>exact⟨o',rfl⟩
  .exact⟨(hY m z).1,.inr (hY m z).2⟩) (λ_ z=>.inl z) λj w n' q1 q2=>by
  obtain⟨s,u,o,b1,b2,b3,b4,b5,b6,b7⟩:=S3.own q2;rw[q1] at b1;cases b1;cases b3;rcases hf with hf |hf
  .exact⟨o,b5,b6,b7.mono (.of (kk hf))⟩
  .exact⟨o,b5,b6,b7.flat .refl (NA.mp hf w (jz q1))⟩
 exact⟨S4,a4,kk⟩
def Sat.eqX{X Y:Addr->Prop}(S:Sat K mg X N0 ns e σ H)(h:∀n,X n ↔ Y n):Sat K mg Y N0 ns e σ H:=by have:X=Y:=funext λn=>propext (h n);exact this ▸ S
def oY(S:Sat K mg X N0 ns e σ H)(ok:okA e ms ts=true)(a:Stp (br (aX ms ts) ns) (sls ms vs) H (br (aX ms ts) ns) (aJ ms mv) H')(hf:aV e ms ts=[]\/mv.all cQ=true)(S3:Sat K mg (Xc X ns e ms ts) N1 (br (aX ms ts) ns) (aJ ms mv) (ds.map some) H'):
 Sat K mg X N0 ns (bc (aX ms ts) (aJ ms mv) e) σ H'/\Stp ns e H ns (bc (aX ms ts) (aJ ms mv) e) H'/\(aV e ms ts=[]->∀m,Oc (Xc X ns e ms ts) (br (aX ms ts) ns) m->Oc X ns m):=by
 obtain⟨S4,a4,_⟩:=lK (Y:=λ_=>False) S ok a hf (λ_ z=>z.elim) (S3.eqX λn=>⟨.inl,λz=>z.elim id (·.elim)⟩);exact⟨S4.eqX λn=>⟨λz=>z.elim id (·.elim),.inl⟩,a4,λhf m z=>wg hf z.1 z.2⟩
def wL(S:Sat K mg X N0 ns e σ H)(hL:∀a,H a=none->L a)(rt:TsR K mg X ns σ H ds ts)(ok:okA e ms ts=true)(hf:aV e ms ts=[]\/(kN r=true/\mv.all cQ=true))(p:PG3 K mg X N0 ns e σ H E (KE K mg X N0 L σ Q) (.ok (r.tm ts) (bc (aX ms ts) (aJ ms mv) e)))
 (a:Stp (br (aX ms ts) ns) (sls ms vs) H (br (aX ms ts) ns) (aJ ms mv) H') (rr:RtR K mg (Xc X ns e ms ts) (nn H) (br (aX ms ts) ns) (aJ ms mv) (ds.map some) H' x r):Q x H':=by
 have hf2:aV e ms ts=[]\/mv.all cQ=true:=hf.imp id (·.2);cases r with
 |
  val v=>
  obtain⟨S3,rv⟩:=rr;obtain⟨S4,a4,kk⟩:=oY S ok a hf2 S3;refine p _ _ a4 S4 x ?_;rcases hf with hf |hf
  .exact rv.mono (.of (kk hf))
  .exact rv.flat .refl hf.1
 |
  new v=>
  obtain⟨n,o,rfl,z2,z3,z4,z5,S3,z7⟩:=rr;obtain⟨S4,a4,kk⟩:=lK (Y:=λm=>m=n) S ok a hf2 (λm z=>by subst z;exact⟨⟨o,z4⟩,z2⟩) S3;refine p _ _ a4 (S4.weak λ_ z=>.inl z) _ ⟨n,o,rfl,hL n z2,λy=>?_,z4,z5,S4,?_⟩
  .obtain⟨u,y⟩:=S.xl n y;rw[show H n=none from z2] at y;cases y
  .rcases hf with hf |hf
   .exact z7.mono (.of (kk hf))
   .exact z7.flat .refl hf.1
 |
  pr v u=>
  obtain⟨pp,d1,n,o,rfl,z1,z2,z3,z4,z5,S3,z6,z7⟩:=rr;obtain⟨S4,a4,kk⟩:=lK (Y:=λm=>m=n) S ok a hf2 (λm z=>by subst z;exact⟨⟨o,z4⟩,z2⟩) S3;have on:Oc X ns n:=⟨λy=>(by
   obtain⟨u,y⟩:=S.xl n y;rw[show H n=none from z2] at y;cases y),λy=>by
   obtain⟨i,y⟩:=bj.mp y;exact S4.nx i n y (.inr rfl)⟩
  have wk:Mov (Oc (λm=>X m\/m=n) ns) (Oc X ns) H' H':=.of λm z=>⟨λc=>z.1 (.inl c),z.2⟩;refine p _ _ a4 (S4.weak λ_ z=>.inl z) _ (.tup z1 (.cons ?_ (.cons (.cell on z4 ?_) .nil)))
  .rcases hf with hf |hf
   .exact (z6.mono (.of (kk hf))).mono wk
   .exact z6.flat .refl (t_ _ _ ▸ hf.1).1
  .rcases hf with hf |hf
   .exact (z7.mono (.of (kk hf))).mono wk
   .exact z7.flat .refl (t_ _ _ ▸ hf.1).2
 |
  par i=>
  obtain⟨S3,w1,w,w2⟩:=rr;obtain⟨S4,a4,_⟩:=oY S ok a hf2 S3;refine p _ _ a4 S4 x ?_;obtain⟨u,x1,_⟩:=a.mu i w w2;obtain⟨b,u',x2,_,x3⟩:=fF x1;cases b with
  |false=>cases x3
  |
   true=>
   obtain⟨k,y1,_⟩:=kI ok x2;obtain⟨d',y2,z⟩:=rt.get y1;have e1:(Rt.par i).tm ts=.bor k:=by show (ts[i]?).getD _=_;rw[y1];rfl
   rw[e1];rcases z with ⟨_,z,_⟩ |⟨j,z,z2⟩
   .cases z
   .cases z;rw[NB,y2] at w1;cases w1;exact z2
theorem CY{f:PFn}(S:Sat K mg X N0 ns e σ H)(hL:∀a,H a=none->L a)(rt:TsR K mg X ns σ H ds ts)(p:PG3 K mg X N0 ns e σ H E (KE K mg X N0 L σ Q) (match rss e ts with
 |none=>.stuck
 |some vs=>if okA e f.ms ts=true then (match f.G vs with
  |.stuck=>.stuck
  |.ok r mv=>if (aV e f.ms ts).isEmpty || (kN r&&mv.all cQ) then .ok (r.tm ts) (bc (aX f.ms ts) (aJ f.ms mv) e) else (match oh e (aV e f.ms ts) with
   |some e2=>.ok (r.tm ts) (bc (aX f.ms ts) (aJ f.ms mv) e2)
   |none=>.stuck)
  |.exc c mv=>if (aV e f.ms ts).isEmpty || mv.all cQ then .exc c (bc (aX f.ms ts) (aJ f.ms mv) e) else .stuck) else .stuck)):sp3 K mg f ds H Q E:=by
 split at p
 .exact p.elim
 .rename_i vs
   qv
  split at p
  .rename_i ok;have a_:vs.length=f.ms.length:=by rw[nM qv,n5 ok]
   split at p
   .exact p.elim
   .rename_i r mv q;split at p
    .rename_i hf;rw[OS,t_] at hf;exact⟨_,_,vs,a_,lW S rt qv ok,by rw[q];exact λx H' a rr=>wL S hL rt ok (hf.imp List.isEmpty_iff.mp id) p a rr⟩
    .split
      at p
     .rename_i e2 qd;obtain⟨ns2,S2,a2,k1,k2,k3⟩:=ur S (λi hi=>by
       obtain⟨k,_,y⟩:=l9 hi;obtain⟨d,_,z⟩:=rt.get y;rcases z with ⟨_,z,_⟩ |⟨j,z,z2⟩
       .cases z
       .cases z;exact⟨d,z2⟩) qd
      have ok2:okA e2 f.ms ts=true:=o8 (λk i q1 q2=>k1 i λz=>by
       obtain⟨k',y1,y2⟩:=l9 z
       have:=jk ok q1 q2 y2
       subst this;rw[q1] at y1;cases y1) ok
      have ln:aV e2 f.ms ts=[]:=uo λk i q1 q2=>by
       by_cases z:i∈aV e f.ms ts
       .exact k2 i z
       .rw[k1 i z];exact Classical.byContradiction λw=>z (mh q1 q2 λv y=>w ⟨v,y⟩)
      exact⟨_,_,vs,a_,lW S2 (rt.stp a2) (by rw[pB k3];exact qv) ok2,by rw[q];exact λx H' a rr=>wL S2 (λb z=>hL b z) (rt.stp a2) ok2 (.inl ln) (p.after S a2) a rr⟩
     .exact p.elim
   .rename_i c mv q;split at p
    .rename_i hf;rw[OS] at hf;refine⟨_,_,vs,a_,lW S rt qv ok,?_⟩;rw[q];intro C H' a S3 hC;obtain⟨S4,a4,_⟩:=oY S ok a (hf.imp List.isEmpty_iff.mp id) S3;exact p _ _ C a4 S4 hC
    .exact p.elim
  .exact p.elim
end
noncomputable def ak (f:PFn) (a:PAs):PEx:=⟨22,EB f.ms f.G a.G⟩
section
variable{K:W.Frag}{mg:Qt}{X:Cx}{ES:St->XK}{e:Expr}{es:List Expr}{A:PAs}{pos:Pos}{k:Nat}{ps:List Str}
def nR{f:PFn}(σ:St)(H:Hp)(Q:VK):rdE K mg ES (ak f A).G σ H Q->rdA K mg ES A.G σ H λvs H1=>sp3 K mg f vs H1 Q (ES σ):=λzz=>zz.el λY N0 L ns e S hl p=>
 ⟨Y,N0,ns,e,S,PG3.imp p S λts e1 ns1 H1 a1 S1 p1 xs r1=>CY S1 (λa z=>hl a (a1.dom a z)) r1 p1⟩
def Cb{f:PFn}{x:Str}{p0:Pos}(C:Callee X.prog X.w X.K X.mg X.base x k ps (sp3 K mg f))(hr:Room k X.A)(hg:Gl X x)(hx:gH X ES)(ha:DA K mg X ES (e::es) A)
 (hdb:(x==("__debug__" : Str))=false) (he:starEach (e::es) X.env=(false,eval e X.env)::starEach es X.env) (hpl:(backTo pos (starEach es X.env)).any (·.1)=false):
 DE K mg X ES (.Call (.Name x p0) (e::es) [] pos) (ak f A):=by
 obtain⟨fa,fd,F',m,kp,bb,_⟩:=C.ex;refine⟨λpins s σ H Q I hh=>NX (kG I hg m ?_ hdb)⟩;refine W.callWith_K (h₀:=X.base) I.ok.mod.kin kp (ND (ha.ok pos pins s σ H _ I (nR σ H Q hh)) (λus s1 ⟨vs,H1,I1,r,q⟩=>⟨I1.kIn,?_⟩) λ_ _ z=>z) he hpl;have hl:(us++[]).length=ps.length:=by rw[NP,<- r.length];exact F'.len _ _ _ _ q
 refine wpAny_call (PJ (F'.run X.A X.stack s1 H1 ⟨us,[]⟩ us vs Q (ES σ) hr I1.env0 (by simpa using bb s1 us I1.kIn hl) r q) λr s' hq=>?_);cases r with
 |error ex=>exact hx pins σ H1 s1 ex s' I1 hq
 |
  ok fl=>
  cases fl with
  |ret u=>exact I1.after hq
  |next=>exact False.elim hq
  |brk=>exact False.elim hq
  |cont=>exact False.elim hq
def Ed(hp:sx (CX1 X.prog X.w) X E):gH X (λ_=>E):=λpins σ H s e s' I h=>hp pins σ H s e s' I h
def xi:gH X (λ_=>E0):=λpins σ H s e s' I h=>LO pins σ H s e s' I h
def zcF{f:PFn}{x:Str}{p0:Pos}{k j:Nat}{ps:List Str}(C:Callee X.prog X.w X.K X.mg X.base x j ps (sp3 K mg f))(hr:Room k X.A)(ha:DA K mg X ES (e::es) A)(hk:j<=k:=by omega)(hg:Gl X x:=by exact rfl)(hx:gH X ES:=by first |exact Ed DK |exact xi |assumption)(hdb:(x==("__debug__" : Str))=false:=by decide)(he:starEach (e::es) X.env=(false,eval e X.env)::starEach es X.env:=by rfl)(hpl:(backTo pos (starEach es X.env)).any (·.1)=false:=by rfl):DE K mg X ES (.Call (.Name x p0) (e::es) [] pos) (ak f A):=Cb C (hr.mono hk) hg hx ha hdb he hpl
end
noncomputable def aI (f:Int->Int->Val):Val->Val->Bv:=λx y=>match x,y with
 |.int i,.int j=>.val (f i j)
 |_,_=>.stuck
open Classical in
def aIc(C:Int->Int->Prop)(f:Int->Int->Val):Val->Val->Bv:=λx y=>match x,y with
 |.int i,.int j=>if C i j then .val (f i j) else .stuck
 |_,_=>.stuck
noncomputable def aCat:Val->Val->Bv:=λx y=>match x,y with
 |.lst xs,.lst ys=>if xs.length+ys.length<=16777216 then .new (.lst (xs++ys)) else .stuck
 |.tup xs,.tup ys=>if xs.length+ys.length<=16777216 then .val (.tup (xs++ys)) else .stuck
 |_,_=>.stuck
noncomputable def B7:Val->Val->Bv:=λx y=>match x,y with
 |.int i,.int j=>.val (.int (i+j))
 |x,y=>aCat x y
noncomputable def aMin:=aI λi j=>.int (i-j)
def Dg:=aIc CMulA λi j=>.int (i*j)
def CT:=aIc CDivB λi j=>.int (i.fdiv j)
def Bh:=aIc (λ_ j=>j≠0) λi j=>.int (i.fmod j)
def B9:=aIc yp λi j=>.int (i^j.toNat)
noncomputable def aLt:=aI λi j=>.bl (decide (i<j))
noncomputable def aLe:=aI λi j=>.bl (decide (i<=j))
noncomputable def aGt:=aI λi j=>.bl (decide (j<i))
noncomputable def aGe:=aI λi j=>.bl (decide (j<=i))
noncomputable def Bi:Val->Bv:=λx=>match x with
 |.int i=>.val (.int (-i))
 |_=>.stuck
noncomputable def uu:Val->Val->Bv:=λx y=>match x,y with
 |.lst xs,.int k=>if -(2^63)<=k/\k<2^63/\xs.length*k.toNat<=16777216 then .new (.lst (List.replicate k.toNat xs).flatten) else .stuck
 |_,_=>.stuck
noncomputable def aIx:Val->Val->Bv:=λx y=>match x.items,y with
 |some xs,.int i=>(match atI xs i with
  |some v=>.val v
  |none=>.stuck)
 |_,_=>.stuck
mutual
def cE:Nat->Val->Option PyData
 |0,_=>none
 |_+1,.non=>some .none
 |_+1,.bl b=>some (.bool b)
 |_+1,.int i=>some (.int i)
 |_+1,.str x=>some (.str x)
 |k+1,.tup xs=>(eN k xs).map .tuple
 |k+1,.lst xs=>(eN k xs).map .list
 |_+1,_=>none
def eN:Nat->List Val->Option (List PyData)
 |_,[]=>some []
 |k,x::xs=>match cE k x,eN k xs with
  |some a,some b=>some (a::b)
  |_,_=>none
end
noncomputable def bG (x y:Val):Option Bool:=match cE 164 x,cE 164 y with
 |some a,some b=>if shp a=true/\shp b=true then some (PyData.eqv a b) else none
 |_,_=>none
noncomputable def aEq (neg:Bool):Val->Val->Bv:=λx y=>match bG x y with
 |some b=>.val (.bl (if neg then !b else b))
 |none=>.stuck
noncomputable def nI:Val->Bool
 |.non=>true
 |.bl _=>true
 |.int _=>true
 |.str _=>true
 |_=>false
noncomputable def rH:Val->V
 |.bl b=>.bl b
 |.int i=>.int i
 |.str x=>.str x
 |_=>.non
noncomputable def eq1 (x y:Val):Bool:=eqV (rH x) (rH y)
noncomputable def aIn (neg:Bool):Val->Val->Bv:=λx y=>match y.items with
 |some xs=>if nI x=true/\xs.all nI=true then .val (.bl (if neg then !(xs.any λd=>eq1 d x) else xs.any λd=>eq1 d x)) else .stuck
 |none=>.stuck
noncomputable def CI (neg:Bool):Val->Val->Bv:=λx y=>match x,y with
 |.non,.non=>.val (.bl (!neg))
 |_,.non=>.val (.bl neg)
 |_,_=>.stuck
noncomputable def BE:List Val->Bv:=λvs=>match vs with
 | [v]=>(match v.items with
  |some xs=>.val (.int xs.length)
  |none=>(match v with
   |.str z=>if z.length<=16777216 then .val (.int z.length) else .stuck
   |_=>.stuck))
 |_=>.stuck
noncomputable def B6:List Val->Bv:=λvs=>match vs with
 | [.int i]=>.val (.int (if i<0 then -i else i))
 |_=>.stuck
noncomputable def xy:List Val->Bv:=λvs=>match vs with
 | [.int i,.int j]=>.val (.int (if j<i then j else i))
 |_=>.stuck
noncomputable def jC:List Val->Option (List Bool)
 | []=>some []
 |.bl b::r=>(jC r).map (b :: ·)
 |_=>none
noncomputable def gq:List Val->Option (List Int)
 | []=>some []
 |.int b::r=>(gq r).map (b :: ·)
 |_=>none
noncomputable def CG:List Val->Bv:=λvs=>match vs with
 | [.lst xs]=>(match jC xs with
  |some bs=>.val (.bl (bs.all id))
  |none=>.stuck)
 |_=>.stuck
noncomputable def Bz:List Val->Bv:=λvs=>match vs with
 | [.lst xs]=>(match gq xs with
  |some bs=>.val (.int bs.sum)
  |none=>.stuck)
 |_=>.stuck
noncomputable def xR:List Val->Bv:=λvs=>match vs with
 | [v]=>(match v.items with
  |some xs=>.new (.lst xs)
  |none=>.stuck)
 |_=>.stuck
noncomputable def rn:List Val->Bv:=λvs=>match vs with
 | [v]=>(match v.items with
  |some xs=>.val (.tup xs)
  |none=>.stuck)
 |_=>.stuck
noncomputable def B3:List Val->Bv:=λvs=>match vs with
 | [.int i]=>.val (.int i)
 | [.bl b]=>.val (.int (if b then 1 else 0))
 |_=>.stuck
noncomputable def tyC:Val->Option Cl
 |.non=>some (.b "NoneType")
 |.bl _=>some (.b "bool")
 |.int _=>some (.b "int")
 |.str _=>some (.b "str")
 |.tup _=>some (.b "tuple")
 |.exc x=>some (.o x)
 |.lst _=>some (.b "list")
 |.dct _=>some (.b "dict")
 |_=>none
noncomputable def clV:Val->Option Cl
 |.ty n=>some (.b n)
 |.glb x=>some (.o x)
 |_=>none
noncomputable def rY:List Val->Option (List Cl)
 | []=>some []
 |v::vs=>match clV v,rY vs with
  |some c,some cs=>some (c::cs)
  |_,_=>none
noncomputable def LR:Val->Option (List Cl)
 |.tup cs=>rY cs
 |v=>(clV v).map ([·])
noncomputable def BD (kt:jF):List Val->Bv:=λvs=>match vs with
 | [v,c]=>(match tyC v,LR c with
  |some t,some (c0::cr)=>(match gL kt t (c0::cr),kit kt t c0 with
   |some b,some _=>.val (.bl b)
   |_,_=>.stuck)
  |_,_=>.stuck)
 |_=>.stuck
noncomputable def hZ (xs:List Val) (lo hi:Option Int):List Val:=(xs.drop (HT.sIx xs.length 0 lo)).take (HT.sIx xs.length xs.length hi-HT.sIx xs.length 0 lo)
noncomputable def aSl (x:Val) (lo hi:Option Int):Bv:=match x with
 |.tup xs=>if HT.sIx xs.length 0 lo=0/\HT.sIx xs.length xs.length hi=xs.length then .stuck else .val (.tup (hZ xs lo hi))
 |.lst xs=>.new (.lst (hZ xs lo hi))
 |.kl xs=>.new (.lst (hZ xs lo hi))
 |.str z=>if z.length<=16777216 then .val (.str (Txt.slice z lo hi)) else .stuck
 |_=>.stuck
noncomputable def n0:Val->List Val->Option (Val×Val):=λu vs=>match u,vs with
 |.lst xs,[v]=>if xs.length<16777216 then some (.lst (xs++[v]),.non) else none
 |_,_=>none
noncomputable def tF:Val->List Val->Option (Val×Val):=λu vs=>match u,vs with
 |.lst xs,[]=>(match xs[xs.length-1]? with
  |some v=>some (.lst xs.dropLast,v)
  |none=>none)
 |_,_=>none
noncomputable def sL:Val->Val->Val->Option Val:=λu i v=>match u,i with
 |.lst xs,.int k=>(match ixN xs.length k with
  |some j=>some (.lst (xs.set j v))
  |none=>none)
 |_,_=>none
noncomputable def gC (d:Val):List Val->Option (List Bool)
 | []=>some []
 |x::r=>match bG x d,gC d r with
  |some b,some bs=>some (b::bs)
  |_,_=>none
noncomputable def gk:Val->List Val->Bv:=λx vs=>match x,vs with
 |.lst xs,[d]=>(match gC d xs with
  |some bs=>if bs.idxOf true<bs.length then .val (.int (bs.idxOf true:Nat)) else .stuck
  |none=>.stuck)
 |_,_=>.stuck
noncomputable def oF:Val->List Val->Bv:=λx vs=>match x,vs with
 |.lst xs,[d]=>if ((cE 164 d).map shp)=some true then (match gC d xs with
  |some bs=>.val (.int (bs.count true:Nat))
  |none=>.stuck) else .stuck
 |_,_=>.stuck
noncomputable def bg:PO2:=⟨B7⟩
noncomputable def fX:PO2:=⟨aMin⟩
def bF:PO2:=⟨Dg⟩
def ke:PO2:=⟨CT⟩
def eF:PO2:=⟨Bh⟩
def ko:PO2:=⟨B9⟩
noncomputable def bLt:PO2:=⟨aLt⟩
noncomputable def bLe:PO2:=⟨aLe⟩
noncomputable def bGt:PO2:=⟨aGt⟩
noncomputable def bGe:PO2:=⟨aGe⟩
noncomputable def oE:PO2:=⟨uu⟩
noncomputable def bIx:PO2:=⟨aIx⟩
noncomputable def bEq:PO2:=⟨aEq false⟩
noncomputable def bNe:PO2:=⟨aEq true⟩
noncomputable def bIn:PO2:=⟨aIn false⟩
noncomputable def xf:PO2:=⟨aIn true⟩
noncomputable def bIs:PO2:=⟨CI false⟩
noncomputable def rZ:PO2:=⟨aI λi j=>.int (i+j)⟩
noncomputable def gb:PU1:=⟨Bi⟩
noncomputable def bA:PBf:=⟨BE⟩
noncomputable def jL:PBf:=⟨B6⟩
noncomputable def uc:PBf:=⟨xy⟩
noncomputable def qN:PBf:=⟨CG⟩
noncomputable def bz:PBf:=⟨Bz⟩
noncomputable def ng:PBf:=⟨xR⟩
noncomputable def fD:PBf:=⟨rn⟩
noncomputable def mH:PBf:=⟨B3⟩
noncomputable def aq (kt:jF):PBf:=⟨BD kt⟩
noncomputable def fm:PMm:=⟨n0⟩
noncomputable def qP:PMm:=⟨tF⟩
noncomputable def cT:PMv:=⟨gk⟩
noncomputable def gM:PMv:=⟨oF⟩
noncomputable def seL:PSe:=⟨sL⟩
section
variable{K:W.Frag}{mg:Qt}{P:Addr->Prop}{H:Hp}{Q:VK}{v:Val}{vs:List Val}{x:V}{ds:List V}{neg:Bool}
def bv(p:∀H1 x,Gr H H1->Rd K mg P H1 x v->Q x H1)(r:Rd K mg P H x v):Q x H:=p H x .refl r
def bvL(p:∀H1 a o,Gr H H1->H1 a=none->NotFz o->Rc K mg P H1 o (.lst vs)->Q (.ref a) (upd H1 a o))(r:Rds K mg P H ds vs):∀l,H l=none->Q (.ref l) (upd H l (.lst ds)):=λl hl=>p H l _ .refl hl trivial (.lst r)
def bvT(p:∀H1 x,Gr H H1->Rd K mg P H1 x (.tup vs)->Q x H1)(r:Rds K mg P H ds vs):∀l,H l=none->Q (.ref l) (upd H l (.tup ds)):=λl hl=>p _ _ (Gr.upd hl) (.tup (SqT.of aO) (r.mono (Gr.upd hl).mov))
def kK{f:Int->Int->V}{g:Int->Int->Val}(hr:∀i j P H,Rd K mg P H (f i j) (g i j)):OpD K mg (rI0 f) (aI g):=λP H x y v u Q rx ry p=>by
 unfold aI at p;split at p
 .obtain rfl:=rx.int;obtain rfl:=ry.int;exact⟨_,_,rfl,rfl,bv p (hr _ _ _ _)⟩
 .exact p.elim
def xm{f:Int->Int->V}{g:Int->Int->Val}{C:Int->Int->Prop}(hr:∀i j P H,Rd K mg P H (f i j) (g i j)):OpD K mg (rI C f) (aIc C g):=λP H x y v u Q rx ry p=>by
 unfold aIc at p;split at p
 .obtain rfl:=rx.int;obtain rfl:=ry.int;split at p
  .rename_i hc;exact⟨_,_,rfl,rfl,hc,bv p (hr _ _ _ _)⟩
  .exact p.elim
 .exact p.elim
def IL:OpD K mg (λx y H Q=>rI0 (λi j=>.int (i+j)) x y H Q\/(yg x y H Q\/(qL K x y H Q\/rb K x y H Q))) bg.G:=λP H x y v u Q rx ry p=>by
 replace p:BvP K mg P H Q (B7 v u):=p;unfold B7 at p;split at p
 .obtain rfl:=rx.int;obtain rfl:=ry.int;exact .inl ⟨_,_,rfl,rfl,bv p (.int _)⟩
 .right;unfold aCat at p;split at p
  .obtain⟨a,xs,rfl,e1,q1⟩:=rx.lst;obtain⟨b,ys,rfl,e2,q2⟩:=ry.lst;split at p
   .rename_i hl;exact .inl ⟨_,_,xs,ys,rfl,rfl,e1,e2,by rw[q1.len,q2.len];exact hl,bvL p (q1.append q2)⟩
   .exact p.elim
  .obtain⟨a,xs,rfl,e1,q1⟩:=rx.tup;obtain⟨b,ys,rfl,e2,q2⟩:=ry.tup;split at p
   .rename_i hl;cases q1 with
    |nil=>exact .inr (.inr ⟨_,_,_,rfl,rfl,e1,e2,bv p (.tup e2 q2)⟩)
    |cons r0 r1=>refine .inr (.inl ⟨_,_,_,_,rfl,rfl,e1,e2,(λz=>nomatch z),by rw[(Rds.cons r0 r1).len,q2.len];exact hl,λz=>?_,λ_=>bvT p ((Rds.cons r0 r1).append q2)⟩);subst z;cases q2;rw[NP] at p;exact bv p (.tup e1 (.cons r0 r1))
   .exact p.elim
  .exact p.elim
def Ib:OpD K mg (rI0 λi j=>.int (i-j)) fX.G:=kK λ_ _ _ _=>.int _
def HN:OpD K mg (rI CMulA λi j=>.int (i*j)) bF.G:=xm λ_ _ _ _=>.int _
def JL:OpD K mg (rI CDivB λi j=>.int (i.fdiv j)) ke.G:=xm λ_ _ _ _=>.int _
def HR:OpD K mg (rI (λ_ j=>j≠0) λi j=>.int (i.fmod j)) eF.G:=xm λ_ _ _ _=>.int _
def IE:OpD K mg (rI yp λi j=>.int (i^j.toNat)) ko.G:=xm λ_ _ _ _=>.int _
def Eu:OpD K mg (rI0 λi j=>.bl (decide (i<j))) bLt.G:=kK λ_ _ _ _=>.bl _
def Lw:OpD K mg (rI0 λi j=>.bl (decide (i<=j))) bLe.G:=kK λ_ _ _ _=>.bl _
def DM:OpD K mg (rI0 λi j=>.bl (decide (j<i))) bGt.G:=kK λ_ _ _ _=>.bl _
def Eo:OpD K mg (rI0 λi j=>.bl (decide (j<=i))) bGe.G:=kK λ_ _ _ _=>.bl _
def Jd:IpD K mg (ipI λi j=>i+j) rZ.G:=kK λ_ _ _ _=>.int _
def IA:UnD K mg (rU λi=>.int (-i)) gb.G:=λP H x v Q r p=>by
 replace p:BvP K mg P H Q (Bi v):=p;unfold Bi at p;split at p
 .obtain rfl:=r.int;exact⟨_,rfl,bv p (.int _)⟩
 .exact p.elim
def Je:OpD K mg rRep oE.G:=λP H x y v u Q rx ry p=>by
 replace p:BvP K mg P H Q (uu v u):=p;unfold uu at p;split at p
 .obtain⟨a,xs,rfl,e1,q1⟩:=rx.lst;obtain rfl:=ry.int;split at p
  .rename_i hl;exact⟨_,_,xs,rfl,rfl,e1,hl.1,hl.2.1,by rw[q1.len];exact hl.2.2,bvL p (q1.rep _)⟩
  .exact p.elim
 .exact p.elim
def Mz(r:Rds K mg P H ds vs)(e:atI vs i=some v):∃d,atI ds i=some d/\Rd K mg P H d v:=by
 unfold atI at e ⊢;rw[r.len];cases q:ixN vs.length i with
 |none=>rw[q] at e;cases e
 |some j=>rw[q] at e;exact r.get e
def M5:OpD K mg (λx y H Q=>Ct K x y H Q\/CN K x y H Q) bIx.G:=λP H x y v u Q rx ry p=>by
 replace p:BvP K mg P H Q (aIx v u):=p;unfold aIx at p;split at p
 .rename_i xs i e1;obtain⟨a,ys,rfl,h,q⟩:=rx.items e1;obtain rfl:=ry.int;split at p
  .rename_i w e3;obtain⟨d,e4,q2⟩:=Mz q e3;rcases h with h |h
   .exact .inl ⟨_,_,_,d,rfl,rfl,h,e4,bv p q2⟩
   .exact .inr ⟨_,_,_,d,rfl,rfl,h,e4,bv p q2⟩
  .exact p.elim
 .exact p.elim
def BC{k:Nat}(hk:∀d v pd,Rd K mg P H d v->cE k v=some pd->Rep K H d pd){ps:List PyData}(r:Rds K mg P H ds vs):eN k vs=some ps->Reps K H ds ps:=
 r.ind (M:=λds vs=>∀ps,eN k vs=some ps->Reps K H ds ps) (λ_ q=>by unfold eN at q;cases q;exact .nil) (λr _ ih ps q=>by
  unfold eN at q;split at q
  .rename_i a b e1 e2;cases q;exact .cons (hk _ _ _ r e1) (ih _ e2)
  .cases q) ps
theorem gN:∀(k:Nat) (d:V) (v:Val) (pd:PyData),ShR K mg P H d v->cE k v=some pd->Rep K H d pd
 |0,_,_,_,_,q=>by unfold cE at q;cases q
 |
  k+1,d,v,pd,r,q=>by
  have ih:∀{ds:List V}{vs:List Val}{ps:List PyData},Rds K mg P H ds vs->eN k vs=some ps->Reps K H ds ps:=λr=>BC (λd v pd r q=>gN k d v pd (.inl r) q) r;cases v with
  |non=>obtain rfl:=r.non;simp only[cE] at q;cases q;exact .non
  |bl b=>obtain rfl:=r.bl;simp only[cE] at q;cases q;exact .bl b
  |int b=>obtain rfl:=r.int;simp only[cE] at q;cases q;exact .int b
  |str b=>obtain rfl:=r.str;simp only[cE] at q;cases q;exact .str b
  |tup xs=>obtain⟨a,ds,rfl,e,r2⟩:=r.tup;simp only[cE] at q;obtain⟨ps,q1,rfl⟩:=M_.mp q;exact .tup e (ih r2 q1)
  |lst xs=>obtain⟨a,ds,rfl,e,r2⟩:=r.lstL;simp only[cE] at q;obtain⟨ps,q1,rfl⟩:=M_.mp q;exact .lst e (ih r2 q1)
  |_=>simp only[cE] at q;cases q
def JI{x y:V}{u:Val}{b:Bool}(r1:ShR K mg P H x v)(r2:ShR K mg P H y u)(q:bG v u=some b):∃a c,Rep K H x a/\Rep K H y c/\shp a=true/\shp c=true/\PyData.eqv a c=b:=by
 unfold bG at q;split at q
 .rename_i a c e1 e2;split at q
  .rename_i hs;cases q;exact⟨a,c,gN 164 _ _ _ r1 e1,gN 164 _ _ _ r2 e2,hs.1,hs.2,rfl⟩
  .cases q
 .cases q
def D6{x y:V}{u:Val}(r1:ShR K mg P H x v)(r2:ShR K mg P H y u)(p:BvP K mg P H Q (aEq neg v u)):∃a c,Rep K H x a/\Rep K H y c/\shp a=true/\shp c=true/\Q (.bl (if neg then !PyData.eqv a c else PyData.eqv a c)) H:=by
 unfold aEq at p;split at p
 .rename_i b q;obtain⟨a,c,h1,h2,h3,h4,rfl⟩:=JI r1 r2 q;exact⟨a,c,h1,h2,h3,h4,bv p (.bl _)⟩
 .exact p.elim
def DQ:OpD K mg (Cq K) bEq.G:=λP H x y v u Q rx ry p=>D6 rx ry p
def Lc:OpD K mg (BH K) bNe.G:=λP H x y v u Q rx ry p=>D6 rx ry p
def vF(r:ShR K mg P H x v)(f:nI v=true):x=rH v/\L2.flatV x=true:=by
 cases v with
 |non=>obtain rfl:=r.non;exact⟨rfl,rfl⟩
 |bl b=>obtain rfl:=r.bl;exact⟨rfl,rfl⟩
 |int b=>obtain rfl:=r.int;exact⟨rfl,rfl⟩
 |str b=>obtain rfl:=r.str;exact⟨rfl,rfl⟩
 |_=>cases f
def Bt(y:Val)(r:Rds K mg P H ds vs):vs.all nI=true->ds.all L2.flatV=true/\inV (rH y) ds=vs.any λd=>eq1 d y:=
 r.ind (M:=λds vs=>vs.all nI=true->ds.all L2.flatV=true/\inV (rH y) ds=vs.any λd=>eq1 d y) (λ_=>⟨rfl,rfl⟩) λr _ ih f=>by rw[Qn,t_] at f;obtain⟨rfl,h2⟩:=vF (.inl r) f.1;obtain⟨h3,h4⟩:=ih f.2;refine⟨by rw[Qn,h2,h3];rfl,?_⟩;unfold inV at h4 ⊢;rw[Oi,Oi,h4];rfl
def D9:OpD K mg (rIn K neg) (aIn neg):=λP H x y v u Q rx ry p=>by
 unfold aIn at p;split at p
 .rename_i xs e;obtain⟨a,ys,rfl,h,q⟩:=ry.items e;split at p
  .rename_i hf;obtain⟨rfl,f2⟩:=vF rx hf.1;obtain⟨f3,f4⟩:=Bt v q hf.2;exact⟨a,ys,rfl,h,f2,f3,by rw[f4];exact bv p (.bl _)⟩
  .exact p.elim
 .exact p.elim
def Nn:OpD K mg (rIn K false) bIn.G:=D9
def IJ:OpD K mg (rIn K true) xf.G:=D9
def M8(rx:ShR K mg P H x v)(ry:ShR K mg P H y u)(p:BvP K mg P H Q (CI neg v u)):y=.non/\Q (.bl (if neg then !decide (x=.non) else decide (x=.non))) H:=by
 unfold CI at p;split at p
 .obtain rfl:=rx.non;obtain rfl:=ry.non;exact⟨rfl,by cases neg <;> exact bv p (.bl _)⟩
 .rename_i hn;obtain rfl:=ry.non;have:decide (x=V.non)=false:=by
   rw[OF];rintro rfl;rcases rx with r |⟨n,o,z,_⟩
   .cases r;exact hn rfl
   .cases z
  rw[this];exact⟨rfl,by cases neg <;> exact bv p (.bl _)⟩
 .exact p.elim
def KZ:OpD K mg (λx y H Q=>y=.non/\Q (.bl (decide (x=.non))) H) bIs.G:=λP H x y v u Q rx ry p=>M8 (neg:=false) rx ry p
def Kk:c6 K mg (λxs H Q=>(∃p ys,xs=[.ref p]/\(SqL K H p ys\/SqT K H p ys)/\Q (.int ys.length) H)\/(∃z,xs=[.str z]/\z.length<=sizeLine/\Q (.int z.length) H)) bA.G:=λP H xs vs Q r0 p=>by
 replace p:BvP K mg P H Q (BE vs):=p;unfold BE at p;split at p
 .obtain⟨d,rfl,r⟩:=dq r0;split at p
  .rename_i xs e;obtain⟨a,ys,rfl,h,q⟩:=r.items e;exact .inl ⟨_,_,rfl,h,by rw[q.len];exact bv p (.int _)⟩
  .split at p
   .obtain rfl:=r.str;split at p
    .rename_i hl;exact .inr ⟨_,rfl,hl,bv p (.int _)⟩
    .exact p.elim
   .exact p.elim
 .exact p.elim
def IF:c6 K mg (λxs H Q=>∃i,xs=[.int i]/\Q (.int (if i<0 then -i else i)) H) jL.G:=λP H xs vs Q r0 p=>by
 replace p:BvP K mg P H Q (B6 vs):=p;unfold B6 at p;split at p
 .obtain⟨d,rfl,r⟩:=dq r0;obtain rfl:=r.int;exact⟨_,rfl,bv p (.int _)⟩
 .exact p.elim
def EY:c6 K mg (λxs H Q=>∃i j,xs=[.int i,.int j]/\Q (.int (if j<i then j else i)) H) uc.G:=λP H xs vs Q r0 p=>by
 replace p:BvP K mg P H Q (xy vs):=p;unfold xy at p;split at p
 .obtain⟨d,d',rfl,r,r'⟩:=xk r0;obtain rfl:=r.int;obtain rfl:=r'.int;exact⟨_,_,rfl,bv p (.int _)⟩
 .exact p.elim
def Ni{bs:List Bool}(r:Rds K mg P H ds vs):jC vs=some bs->ds=bs.map V.bl:=
 r.ind (M:=λds vs=>∀bs,jC vs=some bs->ds=bs.map V.bl) (λbs q=>by cases q;rfl) (λ{d v ds vs} r _ ih bs q=>by
  cases v with
  |bl b=>obtain rfl:=ShR.bl (.inl r);obtain⟨b',q1,rfl⟩:=M_.mp (show (jC vs).map (b :: ·)=some bs from q);rw[ih _ q1];rfl
  |_=>cases q) bs
def rB{bs:List Int}(r:Rds K mg P H ds vs):gq vs=some bs->ds=bs.map V.int:=
 r.ind (M:=λds vs=>∀bs,gq vs=some bs->ds=bs.map V.int) (λbs q=>by cases q;rfl) (λ{d v ds vs} r _ ih bs q=>by
  cases v with
  |int b=>obtain rfl:=ShR.int (.inl r);obtain⟨b',q1,rfl⟩:=M_.mp (show (gq vs).map (b :: ·)=some bs from q);rw[ih _ q1];rfl
  |_=>cases q) bs
def yK:c6 K mg (λxs H Q=>∃(a:Addr) (bs:List Bool),xs=[.ref a]/\SqL K H a (bs.map V.bl)/\Q (.bl (bs.all id)) H) qN.G:=λP H xs vs Q r0 p=>by
 replace p:BvP K mg P H Q (CG vs):=p;unfold CG at p;split at p
 .obtain⟨d,rfl,r⟩:=dq r0;obtain⟨a,ys,rfl,h,q⟩:=r.lstL;split at p
  .rename_i bs e;exact⟨a,bs,rfl,Ni q e ▸ h,bv p (.bl _)⟩
  .exact p.elim
 .exact p.elim
def Ae:c6 K mg (λxs H Q=>∃(a:Addr) (ns:List Int),xs=[.ref a]/\SqL K H a (ns.map V.int)/\Q (.int ns.sum) H) bz.G:=λP H xs vs Q r0 p=>by
 replace p:BvP K mg P H Q (Bz vs):=p;unfold Bz at p;split at p
 .obtain⟨d,rfl,r⟩:=dq r0;obtain⟨a,ys,rfl,h,q⟩:=r.lstL;split at p
  .rename_i bs e;exact⟨a,bs,rfl,rB q e ▸ h,bv p (.int _)⟩
  .exact p.elim
 .exact p.elim
def wx:c6 K mg (λxs H Q=>∃p ys,xs=[.ref p]/\(SqL K H p ys\/SqT K H p ys)/\∀l,H l=none->Q (.ref l) (upd H l (.lst ys))) ng.G:=λP H xs vs Q r0 p=>by
 replace p:BvP K mg P H Q (xR vs):=p;unfold xR at p;split at p
 .obtain⟨d,rfl,r⟩:=dq r0;split at p
  .rename_i xs e;obtain⟨a,ys,rfl,h,q⟩:=r.items e;exact⟨_,_,rfl,h,bvL p q⟩
  .exact p.elim
 .exact p.elim
def Cv:c6 K mg (λxs H Q=>∃p ys,xs=[.ref p]/\((SqL K H p ys/\∀l,H l=none->Q (.ref l) (upd H l (.tup ys)))\/(SqT K H p ys/\Q (.ref p) H))) fD.G:=λP H xs vs Q r0 p=>by
 replace p:BvP K mg P H Q (rn vs):=p;unfold rn at p;split at p
 .obtain⟨d,rfl,r⟩:=dq r0;split at p
  .rename_i xs e;obtain⟨a,ys,rfl,h,q⟩:=r.items e;rcases h with h |h
   .exact⟨_,_,rfl,.inl ⟨h,bvT p q⟩⟩
   .exact⟨_,_,rfl,.inr ⟨h,bv p (.tup h q)⟩⟩
  .exact p.elim
 .exact p.elim
def JM:c6 K mg (λxs H Q=>(∃i,xs=[.int i]/\Q (.int i) H)\/∃k,xs=[.bl k]/\Q (.int (if k then 1 else 0)) H) mH.G:=λP H xs vs Q r0 p=>by
 replace p:BvP K mg P H Q (B3 vs):=p;unfold B3 at p;split at p
 .obtain⟨d,rfl,r⟩:=dq r0;obtain rfl:=r.int;exact .inl ⟨_,rfl,bv p (.int _)⟩
 .obtain⟨d,rfl,r⟩:=dq r0;obtain rfl:=r.bl;exact .inr ⟨_,rfl,bv p (.int _)⟩
 .exact p.elim
def Lr{kt:jF}{t c:Cl}{b:Bool}(ok:KitsOk K mg kt)(r:ShR K mg P H x v)(q:tyC v=some t)(k:kit kt t c=some b):∃tv,TyX K H x tv/\ClV mg t tv:=by
 cases v with
 |non=>obtain rfl:=r.non;cases q;exact⟨_,.of .non,rfl⟩
 |bl b=>obtain rfl:=r.bl;cases q;exact⟨_,.of (.bl _),rfl⟩
 |int b=>obtain rfl:=r.int;cases q;exact⟨_,.of (.int _),rfl⟩
 |str b=>obtain rfl:=r.str;cases q;exact⟨_,.of (.str _),rfl⟩
 |exc b=>obtain⟨a,C,rfl,m,e⟩:=r.exc;cases q;exact⟨_,.exc e (ok.xc _ (ox k) _ _ rfl m),_,rfl,m⟩
 |tup b=>obtain⟨a,ds,rfl,h,_⟩:=r.tup;cases q;exact⟨_,.sqT h,rfl⟩
 |lst b=>obtain⟨a,ds,rfl,e,_⟩:=r.lst;cases q;exact⟨_,.of (.lst e),rfl⟩
 |dct b=>obtain⟨a,ds,rfl,e,_⟩:=r.dct;cases q;exact⟨_,.of (.dK e),rfl⟩
 |_=>cases q
def ED{c:Cl}(r:ShR K mg P H x v)(q:clV v=some c):∃cv,gg x=some cv/\ClV mg c cv:=by
 cases v with
 |ty b=>obtain rfl:=r.ty;cases q;exact⟨_,rfl,rfl⟩
 |glb b=>obtain⟨a,rfl,m⟩:=r.glb;cases q;exact⟨_,rfl,_,rfl,m⟩
 |_=>cases q
def Ju{cs:List Cl}(r:Rds K mg P H ds vs):rY vs=some cs->∃cvs,ds.mapM gg=some cvs/\Paired (ClV mg) cs cvs:=
 r.ind (M:=λds vs=>∀cs,rY vs=some cs->∃cvs,ds.mapM gg=some cvs/\Paired (ClV mg) cs cvs) (λcs q=>by cases q;exact⟨[],rfl,.nil⟩) (λr _ ih cs q=>by
  unfold rY at q;split at q
  .rename_i c cs' e1 e2;cases q;obtain⟨cv,h1,h2⟩:=ED (.inl r) e1;obtain⟨cvs,h3,h4⟩:=ih _ e2;refine⟨cv::cvs,?_,.cons h2 h4⟩;rw[List.mapM_cons,h1,h3];rfl
  .cases q) cs
def HI{kt:jF}(ok:KitsOk K mg kt):c6 K mg (λxs H Q=>(∃x c t v b,xs=[x,c]/\TyX K H x t/\gg c=some v/\W.kitOne K t v=some b/\Q (.bl b) H)\/
 (∃x tp cs t vs b,xs=[x,.ref tp]/\SqT K H tp cs/\TyX K H x t/\cs.mapM gg=some vs/\W.kitAny K t vs=some b/\Q (.bl b) H)) (aq kt).G:=λP H xs vs Q r0 p=>by
 replace p:BvP K mg P H Q (BD kt vs):=p;unfold BD at p;split at p
 .rename_i v c;obtain⟨d,d',rfl,r1,r2⟩:=xk r0;split at p
  .rename_i t c0 cr e1 e2;split at p
   .rename_i b b' e4 e5;obtain⟨tv,h1,h2⟩:=Lr ok r1 e1 e5;by_cases ht:∃cs,c=.tup cs
    .obtain⟨cs,rfl⟩:=ht;obtain⟨a,es,rfl,h,q⟩:=r2.tup;obtain⟨cvs,h3,h4⟩:=Ju q e2;exact .inr ⟨_,_,_,tv,cvs,b,rfl,h,h1,h3,zR ok h2 h4 e4,bv p (.bl _)⟩
    .have e2':(clV c).map ([·])=some (c0::cr):=by
      cases c with
      |tup cs=>exact absurd ⟨cs,rfl⟩ ht
      |_=>exact e2
     obtain⟨cl,y1,y2⟩:=M_.mp e2';cases y2;obtain⟨cv,h3,h4⟩:=ED r2 y1;have:kit kt t c0=some b:=by
      unfold gL at e4;rw[e5] at e4 ⊢;cases b' with
      |true=>exact e4
      |false=>unfold gL at e4;exact e4
     exact .inl ⟨_,_,tv,cv,b,rfl,h1,h3,ok.one _ (ox this) _ _ h2 h4,bv p (.bl _)⟩
   .exact p.elim
  .exact p.elim
 .exact p.elim
def mY(r:Rc K mg P H o (.lst us)):∃vs,o=.lst vs/\Rds K mg P H vs us:=by cases r with |lst r=>exact⟨_,rfl,r⟩
def Cz(r:Rds K mg P H ds [v]):∃d,ds=[d]/\Rd K mg P H d v:=by cases r with |cons r rr=>cases rr;exact⟨_,rfl,r⟩
def zk:MmD K mg vw fm.G:=λP H n o u ds vs u' v Q np e hf r0 rs q k=>by
 replace q:n0 u vs=some (u',v):=q;unfold n0 at q;split at q
 .split at q
  .rename_i hl;cases q;obtain⟨xs,rfl,r⟩:=mY r0;obtain⟨d,rfl,rd⟩:=Cz rs;exact⟨n,xs,d,rfl,rfl,e,by rw[r.len];exact hl,k _ _ trivial (.lst (r.append (.cons rd .nil))) .non⟩
  .cases q
 .cases q
def Iu:MmD K mg rPop qP.G:=λP H n o u ds vs u' v Q np e hf r0 rs q k=>by
 replace q:tF u vs=some (u',v):=q;unfold tF at q;split at q
 .split at q
  .rename_i w hw;cases q;obtain⟨xs,rfl,r⟩:=mY r0;cases rs;obtain⟨d,e2,rd⟩:=r.get hw;refine⟨n,xs,d,rfl,rfl,e,by rw[r.len];exact e2,k _ _ trivial (.lst ?_) rd⟩;rw[List.dropLast_eq_take,List.dropLast_eq_take,r.len];exact r.take _
  .cases q
 .cases q
def E5:xG K mg DZ seL.G:=λP H n o u di vi d v u' Q np e hf r0 ri rd q k=>by
 replace q:sL u vi v=some u':=q;unfold sL at q;split at q
 .split at q
  .rename_i j hj;cases q;obtain⟨xs,rfl,r⟩:=mY r0;obtain rfl:=ri.int;exact⟨n,xs,_,j,rfl,rfl,e,by rw[r.len];exact hj,k _ trivial (.lst (r.set rd j))⟩
  .cases q
 .cases q
def En{y:V}{w:Val}{pd:PyData}(ry:Rep K H y pd)(es:cE 164 w=some pd){bs:List Bool}(r:Rds K mg P H ds vs):gC w vs=some bs->EqsR K H y pd ds bs:=
 r.ind
  (M:=λds vs=>∀bs,gC w vs=some bs->EqsR K H y pd ds bs) (λbs q=>by cases q;exact .nil) (λr _ ih bs q=>by
  unfold gC at q;split at q
  .rename_i b bs' e1 e2;cases q;unfold bG at e1;rw[es] at e1;split at e1
   .rename_i a c e3 e4;cases e4;split at e1
    .rename_i hs;cases e1;exact .cons (gN 164 _ _ _ (.inl r) e3) hs.1 (ih _ e2)
    .cases e1
   .cases e1
  .cases q) bs
theorem Dr{w:Val}:∀{vs:List Val}{bs:List Bool},gC w vs=some bs->vs=[]\/∃pd,cE 164 w=some pd/\shp pd=true
 | [],_,_=>.inl rfl
 |
  x::xs,bs,e=>by
  right;unfold gC at e;split at e
  .rename_i b bs' e1 e2;unfold bG at e1;split at e1
   .rename_i a c e3 e4;split at e1
    .rename_i hs;exact⟨c,e4,hs.2⟩
    .cases e1
   .cases e1
  .cases e
def B4:MtD K mg (oK K) cT.G:=λP H d v ds vs Q r hv rs p=>by
 replace p:BvP K mg P H Q (gk v vs):=p;unfold gk at p;split at p
 .obtain⟨a,xs,rfl,h,q⟩:=r.lstL;obtain⟨y,rfl,ry⟩:=dq rs;split at p
  .rename_i bs eb;split at p
   .rename_i hl;rcases Dr eb with rfl |⟨pd,h3,h4⟩
    .cases eb;exact absurd hl (by simp)
    .have r3:=gN 164 _ _ _ ry h3;exact⟨a,y,bs,rfl,rfl,⟨xs,pd,h,r3,h4,En r3 h3 q eb⟩,hl,bv p (.int _)⟩
   .exact p.elim
  .exact p.elim
 .exact p.elim
def AX:MtD K mg (oi K) gM.G:=λP H d v ds vs Q r hv rs p=>by
 replace p:BvP K mg P H Q (oF v vs):=p;unfold oF at p;split at p
 .obtain⟨a,xs,rfl,h,q⟩:=r.lstL;obtain⟨y,rfl,ry⟩:=dq rs;split at p
  .rename_i hs;obtain⟨pd,s1,s2⟩:=M_.mp hs;have r3:=gN 164 _ _ _ ry s1;split at p
   .rename_i bs eb;exact⟨a,y,bs,rfl,rfl,⟨xs,pd,h,r3,s2,En r3 s1 q eb⟩,bv p (.int _)⟩
   .exact p.elim
  .exact p.elim
 .exact p.elim
end
abbrev MO3:=E3->R3 (Option Int)
noncomputable def Kv (e:E3):R3 (Option Int):=.ok none e
noncomputable def Hx (F:ME3) (e:E3):R3 (Option Int):=(F e).bind λt e1=>match rs e1 t with
 |some (.int i)=>.ok (some i) e1
 |_=>.stuck
noncomputable def vSl (F:ME3) (L U:MO3) (e:E3):R3 Tm:=(F e).bind λt e1=>(L e1).bind λlo e2=>(U e2).bind λhi e3=>match rs e3 t.drop with
 |some v=>(aSl v lo hi).at e3
 |none=>.stuck
structure POp where
 t:Nat
 G:MO3
noncomputable def oN:POp:=⟨1,Kv⟩
noncomputable def oS (a:PEx):POp:=⟨2,Hx a.G⟩
noncomputable def pSl (a:PEx) (l u:POp):PEx:=⟨23,vSl a.G l.G u.G⟩
noncomputable def vD0 (e:E3):R3 Tm:=.ok (.new (.dct [])) e
noncomputable def pD0:PEx:=⟨24,vD0⟩
def rdO(K:W.Frag)(mg:Qt)(ES:St->XK)(G:MO3):TO:=λσ H Q=>∃X N0 ns e,Sat K mg X N0 ns e σ H/\PG3 K mg X N0 ns e σ H (ES σ) (λo _ _ H'=>Q o H') (G e)
def rdO.el{K:W.Frag}{mg:Qt}{G:MO3}(h:rdO K mg ES G σ H Q){Z:Prop}(k:∀X N0 ns e,Sat K mg X N0 ns e σ H->PG3 K mg X N0 ns e σ H (ES σ) (λo _ _ H'=>Q o H') (G e)->Z):Z:=by obtain⟨X,N0,ns,e,S,p⟩:=h;exact k X N0 ns e S p
structure DO(K:W.Frag)(mg:Qt)(X:Cx)(ES:St->XK)(e:Option Expr)(F:POp):Prop where
 ok:PO X e (rdO K mg ES F.G)
section
variable{K:W.Frag}{mg:Qt}{X:Cx}{ES:St->XK}{e a:Expr}{p:PEx}{l u:POp}{lo hi:Option Expr}{pos p2:Pos}
def vK:DO K mg X ES none oN:=⟨PO.imp EU λσ H Q zz=>rdO.el zz λY N0 ns e S p=>PG3.ret p S⟩
def vL(he:DE K mg X ES e p):DO K mg X ES (some e) (oS p):=⟨PO.imp (GI he.ok) λσ H Q zz=>rdO.el zz λY N0 ns e S p=>
 ⟨Y,
  N0,λ_=>True,ns,e,S,λ_ _=>trivial,PG3.imp p S λt e1 ns1 H1 a1 S1 p1 x r1=>by
  try dsimp only at p1
  split at p1
  .rename_i i q;obtain rfl:=(r1.sh S1 q).int;exact⟨_,rfl,p1.ret S1⟩
  .exact p1.elim⟩⟩
def Ls{P:Addr->Prop}{H:Hp}{Q:VK}{x:V}{v:Val}{lo hi:Option Int}(r:ShR K mg P H x v)(p:BvP K mg P H Q (aSl v lo hi)):(DC K x lo hi H Q\/Dz K x lo hi H Q)\/CJ x lo hi H Q:=by
 have cut:∀{vs us},Rds K mg P H vs us->Rds K mg P H (kr vs lo hi) (hZ us lo hi):=λr=>by unfold kr hZ;rw[r.len];exact (r.drop _).take _
 unfold aSl at p;split at p
 .obtain⟨a,ds,rfl,h,q⟩:=r.tup;split at p
  .exact p.elim
  .rename_i hn;exact .inl (.inr ⟨_,_,rfl,h,by rw[q.len];exact hn,bvT p (cut q)⟩)
 .obtain⟨a,ds,rfl,h,q⟩:=r.lstL;exact .inl (.inl ⟨_,_,rfl,h,bvL p (cut q)⟩)
 .obtain⟨a,ds,rfl,h,q⟩:=r.kl;exact .inl (.inl ⟨_,_,rfl,h,bvL p (cut q)⟩)
 .obtain rfl:=r.str;split at p
  .rename_i hz;exact .inr ⟨_,rfl,hz,bv p (.str _)⟩
  .exact p.elim
 .exact p.elim
def uk(hK:X.K=K)(he:DE K mg X ES e p)(hl:DO K mg X ES lo l)(hu:DO K mg X ES hi u):DE K mg X ES (.Subscript e (.Slice lo hi none p2) pos) (pSl p l u):=
 ⟨PE.imp (Cu (slK hK) he.ok hl.ok hu.ok) λσ H Q zz=>zz.el λY N0 L ns e S hL p=>⟨Y,N0,L,ns,e,S,hL,PG3.imp p S λt e1 ns1 H1 a1 S1 p1 x rx=>⟨Y,N0,ns1,e1,S1,PG3.imp p1 S1 λlo e2 ns2 H2 a2 S2 p2=>⟨Y,N0,ns2,e2,S2,PG3.imp p2 S2 λhi e3 ns3 H3 a3 S3 p3=>by
  try dsimp only at p3
  split at p3
  .rename_i v q;exact Ls ((rx.drop (a2.trans S1 a3)).sh S3 q) (p3.bv S3 λa z=>hL a (a1.dom a (a2.dom a (a3.dom a z))))
  .exact p3.elim⟩⟩⟩⟩
def LY:DE K mg X ES (.Dict [] [] pos) pD0:=⟨PE.imp Cm λσ H Q ⟨Y,N0,L,ns,e,S,hl,p⟩ a ha=>PG3.bv (b:=.new (.dct [])) p S hl H a (.dK []) .refl ha trivial (.dct .nil)⟩
def B5(hK:X.K=K)(ha:DE K mg X ES a p)(he:∀g_,isTrue a X.env g_=(do let v <- g_;standAt a.pos;holding [v] (truthy v)):=by intro _;rfl):DT K mg X ES a (qTr p):=by
 subst hK;exact
  ⟨PT.imp (Dh ha.ok he) λσ H Q zz=>zz.el λY N0 ns e S p=>⟨Y,N0,λ_=>True,ns,e,S,λ_ _=>trivial,PG3.imp p S λt e1 ns1 H1 a1 S1 p1 x r1=>by
  try dsimp only at p1
  split at p1
  .rename_i b q;obtain⟨v,q1,q2⟩:=NH.mp q;have r:=r1.sh S1 q1;have k:=p1.ret S1;have items:∀{us:List Val},v.items=some us->some (!us.isEmpty)=some b->∃k,Ck X.K x H1 k/\Q k H1:=λ{us} e e2=>by
    obtain⟨a,vs,rfl,hq,rr⟩:=r.items e;have ee:us.isEmpty=vs.isEmpty:=by cases rr <;> rfl
    cases e2;rw[ee] at k;rcases hq with hq |hq
    .exact⟨_,.inl ⟨vs,hq,rfl⟩,k⟩
    .exact⟨_,.inr (.inl ⟨vs,hq,rfl⟩),k⟩
   cases v with
   |non=>obtain rfl:=r.non;cases q2;exact⟨_,rfl,k⟩
   |bl b=>obtain rfl:=r.bl;cases q2;exact⟨_,rfl,k⟩
   |int b=>obtain rfl:=r.int;cases q2;exact⟨_,rfl,k⟩
   |tup us=>exact items rfl q2
   |lst us=>exact items rfl q2
   |kl us=>exact items rfl q2
   |_=>cases q2
  .exact p1.elim⟩⟩
end
noncomputable def unS (i:Nat) (k:E3->SR3) (e:E3):SR3:=match e[i]? with
 |some s=>if s.pl=true then k (e.set i .no) else .stuck
 |none=>.stuck
noncomputable def jE (mro:List Str) (i:Nat) (B U:MS3) (e:E3):SR3:=match B e with
 |
  .exc c e1=>if c∈mro then match e1[i]? with
   |
    some s0=>if s0.pl=true then match U (e1.set i (.sh (.exc c))) with
     |.nx e2=>unS i .nx e2
     |.bk e2=>unS i .bk e2
     |.ct e2=>unS i .ct e2
     |.rt d e2=>.rt d e2
     |_=>.stuck
    else .stuck
   |none=>.stuck
  else .stuck
 |r=>r
noncomputable def xZ (mro:List Str) (i:Nat) (b u:PSt):PSt:=⟨18,jE mro i b.G u.G⟩
section
variable{K:W.Frag}{mg:Qt}{X:Cx}{ES:St->XK}{cn n:Str}{C:Addr}{i:Nat}{body suite:List Stmt}{b₀:Stmt}{x y:PSt}{np hpos pos:Pos}{mro:List Str}
def E7(hb:∀(pn:Qu) (xe:Qv) (ES':St->XK),gH (cxT X pn xe) ES'->DSs K mg (cxT X pn xe) ES' body x):PSsx X body (λDe E σ H=>rdS K mg E x.G De σ H):=by
 intro pins s σ H De E I hh
 let xe:Value->Shared->Prop:=λe s'=>∃pins2 σ1 H1 s1,Inv (cxT X (X.pn++pins) (λ_ _=>False)) pins2 σ1 H1 s1/\CX1 X.prog X.w X.stack H1 s1 (E σ1) e s'
 have hx:gH (cxT X (X.pn++pins) xe) E:=λpins2 σ1 H1 s1 e s' I1 q=>⟨pins2,σ1,H1,s1,⟨⟨I1.ok.mod,I1.ok.kind,I1.ok.glob,I1.ok.blt,I1.ok.above,I1.ok.inj,I1.ok.has,I1.ok.cab,I1.ok.hd,I1.ok.frames,I1.ok.stk,I1.ok.exf,I1.ok.bs,I1.ok.bsz,I1.ok.noex,I1.ok.exfs,I1.ok.funs,I1.ok.frf⟩,I1.os,I1.bare,I1.base,I1.loc,I1.cell,I1.free,I1.freeC,I1.pin,I1.hok,I1.len⟩,q⟩;refine ND ((hb (X.pn++pins) xe E hx).ok [] s σ H De I.toT hh) (λf s' q=>?_) λe s' q=>?_
 .cases f with
  |next=>obtain⟨σ1,H1,I1,q1⟩:=q;exact⟨σ1,H1,I1.ofT,q1⟩
  |brk=>obtain⟨σ1,H1,I1,q1⟩:=q;exact⟨σ1,H1,I1.ofT,q1⟩
  |cont=>obtain⟨σ1,H1,I1,q1⟩:=q;exact⟨σ1,H1,I1.ofT,q1⟩
  |ret u=>obtain⟨v,σ1,H1,I1,r1,q1⟩:=q;exact⟨v,σ1,H1,I1.ofT,r1,q1⟩
 .obtain⟨pins2,σ1,H1,s1,I1,q1⟩:=q;exact⟨σ1,H1,s1,I1.ofT,q1⟩
def uE{Y N0:Addr->Prop}{ns ns':Ns}{e e2:E3}{σ:St}{H H':Hp}{De:Ends}{k:E3->SR3}{R:St->Hp->Prop}(hk:∀e',PS3 K mg Y N0 ns e H De ES (k e')->∀H' σ' ns',Stp ns e H ns' e' H'->Sat K mg Y N0 ns' e' σ' H'->R σ' H')(p:PS3 K mg Y N0 ns e H De ES (unS i k e2))(a:Stp ns e H ns' e2 H')(S:Sat K mg Y N0 ns' e2 σ H'):R (σ.set i none) H':=by
 unfold unS at p;split at p
 .rename_i s q;split at p
  .rename_i hp;have hi:=(w_.mp q).1;exact hk _ p H' _ _ (a.put (x:=none) (s:=.no) hi (λ_ z=>by cases z) q hp rfl S.l2) (S.putN hi rfl)
  .exact p.elim
 .exact p.elim
def zy(T:X.Top)(hN:X.N.Nodup)(hi:X.N[i]?=some n)(hl:X.env.kindOf n=some .local)(hg:Gl X cn)(hm:mg cn=some (.ref C))(hh:XHand K C)(hmro:∀c∈mro,∀Ce,mg c=some (.ref Ce)->W.mroIn K Ce (.ref C)=some true)
 (hb:∀(pn:Qu) (xe:Qv) (ES':St->XK),gH (cxT X pn xe) ES'->DSs K mg (cxT X pn xe) ES' body x) (hs:∀ea,DSs K mg (jd X ea) (λ_=>E0) (b₀::suite) y)
 (hK:X.K=K:=by rfl) (hk:X.mg=mg:=by rfl) (hd:(cn==("__debug__" : Str))=false:=by decide):DS K mg X ES (.Try body [.ExceptHandler (some (.Name cn np)) (some n) (b₀::suite) hpos] [] [] pos) (xZ mro i x y):=by
 subst hK hk;refine⟨PS.imp (Hj T hN hi hl hg hm hh (E7 hb) (λea=>(hs ea).ok) hd) λDe σ H zz=>zz.el λY N0 ns e S p=>⟨Y,N0,ns,e,S,?_⟩⟩;replace p:PS3 X.K X.mg Y N0 ns e H De ES (jE mro i x.G y.G e):=p;unfold jE at p;cases q:x.G e with
 |nx e1=>rw[q] at p;exact p
 |rt d e1=>rw[q] at p;exact p
 |bk e1=>rw[q] at p;exact p
 |ct e1=>rw[q] at p;exact p
 |stuck=>rw[q] at p;exact p
 |
  exc c e1=>
  rw[q] at p;dsimp only at p;split at p
  .rename_i hc;split at p
   .rename_i s0 q0;split at p
    .rename_i p0;intro H1 σ1 ns1 Ce a1 S1 mc;refine⟨Ce,rfl,hmro c hc Ce mc,λea hn=>?_⟩;have hi':=(w_.mp q0).1;have g:=Gr.upd (u:=.ext (lN ea Ce)) hn;have S2:=(S1.gr g).putN (s:=.sh (.exc c)) (d:=some (.ref ea)) hi' ⟨rfl,_,rfl,.exc mc aO⟩;have a2:=(a1.trans S (.gr g)).put (x:=none) (s:=.sh (.exc c)) hi' (λ_ z=>by cases z) q0 p0 rfl S1.l2;refine⟨Y,N0,_,_,S2,?_⟩;cases q2:y.G (e1.set i (.sh (.exc c))) with
     |nx e2=>rw[q2] at p;exact λH' σ' ns' b S'=>uE (De:=De) (ES:=ES) (e:=e) (k:=.nx) (R:=De.nx) (λe' p=>p) p (a2.trans S b) S'
     |bk e2=>rw[q2] at p;exact λH' σ' ns' b S'=>uE (De:=De) (ES:=ES) (e:=e) (k:=.bk) (R:=De.bk) (λe' p=>p) p (a2.trans S b) S'
     |ct e2=>rw[q2] at p;exact λH' σ' ns' b S'=>uE (De:=De) (ES:=ES) (e:=e) (k:=.ct) (R:=De.ct) (λe' p=>p) p (a2.trans S b) S'
     |rt d e2=>rw[q2] at p;exact λH' σ' ns' x b S'=>p H' σ' ns' x (a2.trans S b) S'
     |exc c2 e2=>rw[q2] at p;exact p.elim
     |stuck=>rw[q2] at p;exact p.elim
    .exact p.elim
   .exact p.elim
  .exact p.elim
end
theorem nV{K:W.Frag}{mg:Qt}{P:Addr->Prop}{H:Hp}:∀(ns:List Int),Rds K mg P H (ns.map V.int) (ns.map Val.int)
 | []=>.nil
 |_::r=>.cons (.int _) (nV r)
structure PFx(ms:List Bool) where
 G:Fn3
noncomputable def PFx.fn {ms:List Bool} (p:PFx ms):PFn:=⟨ms,p.G⟩
noncomputable def PFx.none (ms:List Bool) (N:Nat:=0):PFx ms:=⟨λ_=>.stuck⟩
noncomputable def PFx.of (ms:List Bool) (N:Nat) (c:PSt):PFx ms:=⟨fnV ms N c.G⟩
section
variable{K:W.Frag}{mg:Qt}{P:Program}{w:World}{base:Heap}{fx:Str}{e_:Stmt}{k m:Nat}{ps N:List Str}{ms:List Bool}{x:PSt}
def okX(D:Def K mg fx e_)(S:FnScope N ps (au e_))
 (hb:∀(kV doc pm:Value) (an:Option Addr) (cdv ct:Value) (us:List Value),us.length=ps.length->bindArgs (W.fnOf fx fx (cI e_) (bq e_) (au e_) .none kV doc pm an cdv ct) ⟨us,[]⟩=pure (ps.zip us))
 (b_:N.Nodup->∀(f:Addr) (cdv:Value) (A:Around) (outer:List Env) (s:Shared) (H:Hp) (E:XK),Room k (A.deeper (envOfC fx (au e_) s.heap.objs.size f cdv))->
  DSs K mg (eE (CX1 P w) P w K mg base N fx (au e_) f cdv A outer s H E) (λ_=>E) (bq e_) x) (hn:ms.length=ps.length:=by rfl) (hm:N.length=m:=by rfl):Callee P w K mg base fx (k+1) ps (sp3 K mg (PFx.of ms m x).fn):=okP D S hb b_ hn hm
def ok0(D:Def K mg fx e_)(S:FnScope N ps (au e_))
 (hb:∀(kV doc pm:Value) (an:Option Addr) (cdv ct:Value) (us:List Value),us.length=ps.length->bindArgs (W.fnOf fx fx (cI e_) (bq e_) (au e_) .none kV doc pm an cdv ct) ⟨us,[]⟩=pure (ps.zip us)) (hn:ms.length=ps.length:=by rfl):Callee P w K mg base fx (k+1) ps (sp3 K mg (PFx.none ms).fn):=
 (okP (x:=xNo) (ms:=ms) (m:=N.length) D S hb (λ_ _ _ _ _ _ _ _ _=>⟨λ_ _ _ _ _ _ ⟨_,_,_,_,_,p⟩=>p.elim⟩) hn).imp λ_ _ _ _ ⟨_,_,_,_,_,p⟩=>p.elim
end
section
variable{K:W.Frag}{mg:Qt}{X:Cx}{ES:St->XK}{e:Expr}{p:PEx}{pos:Pos}
def zsS{ow:Bool}(i:Nat){x:Str}{l_:Pos}(hN:X.N.Nodup)(he:DE K mg X ES e p)(hi:X.N[i]?=some x:=by exact rfl)(hx:Loc X.env.scope x:=by first |exact Or.inl rfl |exact Or.inr rfl)(hs:swapsWith e (some (.Name x l_)) pos.line X.env=pure false:=by rfl)(hf:X.fn x=true\/X.env.scope.names.lookup x=some .local:=by first |exact .inl rfl |exact .inr rfl |assumption):DS K mg X ES (.Assign [.Name x l_] e pos) (aE ow i p):=Jk hN hi hx he hs hf
def zgN(i:Nat){x:Str}(hN:X.N.Nodup)(hi:X.N[i]?=some x:=by exact rfl)(hx:Loc X.env.scope x:=by first |exact Or.inl rfl |exact Or.inr rfl)(hf:X.fn x=true\/X.env.scope.names.lookup x=some .local:=by first |exact .inl rfl |exact .inr rfl |assumption):DG K mg X (.Name x pos) (gtN i):=F6 hN hi hx hf
end
section
variable(e:E3)
@[simp] theorem dN(a:α)(f:α->E3->R3 β):(R3.ok a e).bind f=f a e:=rfl
@[simp] theorem Lg(a:α)(f:α->E3->SR3):(R3.ok a e).toS f=f a e:=rfl
@[simp] theorem Ij(c:Str)(f:α->E3->SR3):(R3.exc c e:R3 α).toS f=.exc c e:=rfl
@[simp] theorem MV(f:E3->SR3):(SR3.nx e).then f=f e:=rfl
@[simp] theorem LX(r:Rt)(f:E3->SR3):(SR3.rt r e).then f=.rt r e:=rfl
@[simp] theorem Lp(f:E3->SR3):(SR3.bk e).then f=.bk e:=rfl
@[simp] theorem Iv(c:Str)(f:E3->SR3):(SR3.exc c e).then f=.exc c e:=rfl
@[simp] theorem qX(f:E3->SR3):(SR3.nx e).loop f=f e:=rfl
@[simp] theorem MF(f:E3->SR3):(SR3.bk e).loop f=.nx e:=rfl
@[simp] theorem LS(r:Rt)(f:E3->SR3):(SR3.rt r e).loop f=.rt r e:=rfl
@[simp] theorem KY(r:SR3):r.unl none=r:=by cases r <;> rfl
@[simp] theorem BL:lockO e none=e:=rfl
@[simp] theorem yw:fE e none=e:=rfl
@[simp] theorem Hy(v:Val):(Bv.val v).at e=.ok (.val v) e:=rfl
@[simp] theorem Jz(v:Val):(Bv.new v).at e=.ok (.new v) e:=rfl
@[simp] theorem JK(v:Val):rs e (.val v)=some v:=rfl
@[simp] theorem Hg(v:Val):rs e (.new v)=some v:=rfl
@[simp] theorem Kq(i:Nat):rs e (.bor i)=(e[i]?).bind Sl.val:=rfl
@[simp] theorem JE(v:Val):(Tm.val v).drop=.val v:=rfl
@[simp] theorem Ir(v:Val):(Tm.new v).drop=.val v:=rfl
@[simp] theorem Ii(i:Nat):(Tm.bor i).drop=.bor i:=rfl
@[simp] theorem Gx:rss e []=some []:=rfl
@[simp] theorem BS(t:Tm)(ts:List Tm):rss e (t::ts)=match rs e t,rss e ts with
 |some v,some vs=>some (v::vs)
 |_,_=>none:=rfl
@[simp] theorem Jm(v:Val):cR e (.val v)=some (e,v):=rfl
@[simp] theorem KG(v:Val):cR e (.new v)=some (e,v):=rfl
@[simp] theorem Kl(i:Nat):cR e (.bor i)=match e[i]? with
 |some (.sh v)=>some (e,v)
 |some (.ow v)=>some (e.set i (.sh v),v)
 |_=>none:=rfl
@[simp] theorem Av:dem e []=some (e,[]):=rfl
@[simp] theorem Gp(t:Tm)(ts:List Tm):dem e (t::ts)=match cR e t with
 |some (e1,v)=>match dem e1 ts with
  |some (e2,vs)=>some (e2,v::vs)
  |none=>none
 |none=>none:=rfl
@[simp] theorem Kn(b:Bool):bOf (some (.bl b))=some b:=rfl
@[simp] theorem LG(i:Nat):(af i).G e=match e[i]? with
 |some (.sh v)=>.ok (.val v) e
 |some .no=>.stuck
 |some _=>.ok (.bor i) e
 |none=>.stuck:=rfl
@[simp] theorem LQ(i:Int):(ah i).G e=.ok (.val (.int i)) e:=rfl
@[simp] theorem v_bl(i:Bool):(pBl i).G e=.ok (.val (.bl i)) e:=rfl
@[simp] theorem Mp(i:Str):(aB i).G e=.ok (.val (.str i)) e:=rfl
@[simp] theorem LW:iS.G e=.ok (.val .non) e:=rfl
@[simp] theorem v_ty(i:String):(pTy i).G e=.ok (.val (.ty i)) e:=rfl
@[simp] theorem Ll(i:Str):(dE i).G e=.ok (.val (.glb i)) e:=rfl
@[simp] theorem v_un(o:PU1)(a:PEx):(pUn o a).G e=(a.G e).bind λt e1=>match rs e1 t with
 |some v=>(o.G v).at e1
 |none=>.stuck:=rfl
@[simp] theorem v_op(o:PO2)(a b:PEx):(pOp o a b).G e=(a.G e).bind λt1 e1=>(b.G e1).bind λt2 e2=>match rs e2 t1.drop,rs e2 t2 with
 |some v1,some v2=>(o.G v1 v2).at e2
 |_,_=>.stuck:=rfl
@[simp] theorem L5:ag.G e=.ok [] e:=rfl
@[simp] theorem HV(a:PEx)(r:PAs):(aa a r).G e=(a.G e).bind λt e1=>(r.G e1).bind λts e2=>.ok (t.drop::ts) e2:=rfl
@[simp] theorem v_fn(o:PBf)(a:PAs):(pFn o a).G e=(a.G e).bind λts e1=>match rss e1 ts with
 |some vs=>(o.G vs).at e1
 |none=>.stuck:=rfl
@[simp] theorem LB(a:PAs):(aH a).G e=(a.G e).bind λts e1=>match dem e1 ts with
 |some (e2,vs)=>if vs.length<=16777216 then .ok (.val (.tup vs)) e2 else .stuck
 |none=>.stuck:=rfl
@[simp] theorem Mx(a:PAs):(aY a).G e=(a.G e).bind λts e1=>match dem e1 ts with
 |some (e2,vs)=>if vs.length<=16777216 then .ok (.new (.lst vs)) e2 else .stuck
 |none=>.stuck:=rfl
@[simp] theorem Mh(a b:PEx):(jx a b).G e=(a.G e).bind λt e1=>match bOf (rs e1 t) with
 |some true=>b.G e1
 |some false=>.ok (.val (.bl false)) e1
 |none=>.stuck:=rfl
@[simp] theorem y_or(a b:PEx):(pOr a b).G e=(a.G e).bind λt e1=>match bOf (rs e1 t) with
 |some true=>.ok (.val (.bl true)) e1
 |some false=>b.G e1
 |none=>.stuck:=rfl
@[simp] theorem La(a:PEx):(BW a).G e=(a.G e).bind λt e1=>match bOf (rs e1 t) with
 |some b=>.ok (.val (.bl (!b))) e1
 |none=>.stuck:=rfl
@[simp] theorem c_of(a:PEx):(qOf a).G e=(a.G e).bind λt e1=>match bOf (rs e1 t) with
 |some b=>.ok b e1
 |none=>.stuck:=rfl
@[simp] theorem c_tr(a:PEx):(qTr a).G e=(a.G e).bind λt e1=>match (rs e1 t).bind oO with
 |some b=>.ok b e1
 |none=>.stuck:=rfl
@[simp] theorem c_an(a b:PTs):(qAn a b).G e=(a.G e).bind λk e1=>if k=true then b.G e1 else .ok false e1:=rfl
@[simp] theorem c_o(a b:PTs):(qO a b).G e=(a.G e).bind λk e1=>if k=true then .ok true e1 else b.G e1:=rfl
@[simp] theorem c_no(a:PTs):(qNo a).G e=(a.G e).bind λk e1=>.ok (!k) e1:=rfl
@[simp] theorem x_nx:xNx.G e=.nx e:=rfl
@[simp] theorem x_bk:xBk.G e=.bk e:=rfl
@[simp] theorem IS:xj.G e=.rt (.val .non) e:=rfl
@[simp] theorem Mc(a:PEx):(aw a).G e=(a.G e).toS oG:=rfl
@[simp] theorem Ga(v:Val):oG (.val v) e=.rt (.val v) e:=rfl
@[simp] theorem FU(v:Val):oG (.new v) e=.rt (.new v) e:=rfl
@[simp] theorem FJ(i:Nat):oG (.bor i) e=match e[i]? with
 |some (.sh v)=>.rt (.val v) e
 |some (.ow v)=>.rt (.new v) (e.set i .no)
 |some (.mu _)=>.rt (.par i) e
 |_=>.stuck:=rfl
@[simp] theorem JX(a:PEx):(aW a).G e=(a.G e).toS λ_ e1=>.nx e1:=rfl
@[simp] theorem Es(a b:PSt):(ao a b).G e=(a.G e).then b.G:=rfl
@[simp] theorem x_if(c:PTs)(a b:PSt):(xIf c a b).G e=(c.G e).toS λk e1=>if k=true then a.G e1 else b.G e1:=rfl
@[simp] theorem Mg(o:Bool)(i:Nat)(a:PEx):(aE o i a).G e=(a.G e).toS (jD o i):=rfl
@[simp] theorem Ng:Sl.no.pl=true:=rfl
@[simp] theorem Ml(v:Val):(Sl.sh v).pl=true:=rfl
@[simp] theorem Lu(v:Val):(Sl.ow v).pl=true:=rfl
@[simp] theorem Fx(o:Bool)(i:Nat)(v:Val):jD o i (.val v) e=match e[i]? with
 |some s0=>if s0.pl=true then .nx (e.set i (.sh v)) else .stuck
 |none=>.stuck:=by unfold jD;rfl
@[simp] theorem CB(i:Nat)(v:Val):jD true i (.new v) e=match e[i]? with
 |some s0=>if s0.pl=true then .nx (e.set i (.ow v)) else .stuck
 |none=>.stuck:=by unfold jD;rfl
@[simp] theorem Co(i:Nat)(v:Val):jD false i (.new v) e=match e[i]? with
 |some s0=>if s0.pl=true then .nx (e.set i (.sh v)) else .stuck
 |none=>.stuck:=by unfold jD;rfl
@[simp] theorem g_n(i:Nat)(v:Val):(gtN i).G v e=match e[i]? with
 |some s=>if s.pl=true then some (e.set i (.sh v)) else none
 |none=>none:=rfl
@[simp] theorem g_sn:fJ.G [] e=some e:=rfl
@[simp] theorem g_sc(a:PGt)(b:PGs)(v:Val)(vs:List Val):(bR a b).G (v::vs) e=(a.G v e).bind λe1=>b.G vs e1:=rfl
@[simp] theorem g_t(n:Nat)(a:PGs)(vs:List Val):(gtT n a).G (.tup vs) e=if vs.length=n then a.G vs e else none:=rfl
@[simp] theorem Ke(a:PEx)(g:PGt):(jN a g).G e=(a.G e).toS λt e1=>match cR e1 t with
 |some (e2,v)=>match g.G v e2 with
  |some e3=>.nx e3
  |none=>.stuck
 |none=>.stuck:=rfl
@[simp] theorem Nj(i j:Nat)(a:PAs):(lH i j a).G e=(a.G e).toS λts e1=>match dem e1 ts with
 |some (e2,[v,u])=>match (pN i v e2).bind (pN j u) with
  |some e3=>.nx e3
  |none=>.stuck
 |_=>.stuck:=rfl
@[simp] theorem Lz(i:Nat)(v:Val):pN i v e=match e[i]? with
 |some s=>if s.pl=true then some (e.set i (.sh v)) else none
 |none=>none:=rfl
@[simp] theorem L7(i:Nat)(o:PO2)(a:PEx):(su i o a).G e=match e[i]? with
 |some (.sh x)=>(a.G e).toS λt e1=>match rs e1 t with
  |some y=>match o.G x y with
   |.val z=>match pN i z e1 with
    |some e2=>.nx e2
    |none=>.stuck
   |_=>.stuck
  |none=>.stuck
 |_=>.stuck:=rfl
@[simp] theorem GB(c:Str)(a:PAs):(eC c a).G e=(a.G e).toS λts e1=>if ts.length<=16777216 then .exc c e1 else .stuck:=rfl
@[simp] theorem Nl(i:Nat)(w:PSe)(k a:PEx):(fP i w k a).G e=(a.G e).toS λt e1=>match (e1[i]?).bind Sl.mv with
 |none=>.stuck
 |some _=>(k.G e1).toS λt2 e2=>match rs e2 t2 with
  |none=>.stuck
  |some vi=>match cR e2 t.drop with
   |none=>.stuck
   |some (e3,v)=>match e3[i]? with
    |none=>.stuck
    |some s=>match s.mv with
     |none=>.stuck
     |some u=>match w.G u vi v with
      |some u'=>.nx (e3.set i (s.re u'))
      |none=>.stuck:=rfl
@[simp] theorem Ld(v:Val):(Sl.ow v).mv=some v:=rfl
@[simp] theorem Nm(v:Val):(Sl.mu v).mv=some v:=rfl
@[simp] theorem MW(v u:Val):(Sl.ow v).re u=.ow u:=rfl
@[simp] theorem MY(v u:Val):(Sl.mu v).re u=.mu u:=rfl
@[simp] theorem G0(v:Val):(Sl.ow v).val=some v:=rfl
@[simp] theorem KQ(v:Val):(Sl.mu v).val=some v:=rfl
@[simp] theorem KW(mro:List Str)(i:Nat)(b u:PSt):(xZ mro i b u).G e=jE mro i b.G u.G e:=rfl
@[simp] theorem Nd(i:Nat)(m:PMm)(a:PAs):(jP i m a).G e=match e[i]? with
 |some s=>if (s.mv.map fO)=some true then (a.G e).bind λts e1=>match dem e1 ts with
  |some (e2,vs)=>match e2[i]? with
   |some s2=>match s2.mv with
    |some u=>match m.G u vs with
     |some (u',v)=>.ok (.val v) (e2.set i (s2.re u'))
     |none=>.stuck
    |none=>.stuck
   |none=>.stuck
  |none=>.stuck else .stuck
 |none=>.stuck:=rfl
@[simp] theorem IM(i:Nat)(m:PMm):(qH i m).G e=match e[i]? with
 |some s=>if (s.mv.map fO)=some true then (match s.mv with
  |some u=>match m.G u [] with
   |some (u',v)=>.ok (.val v) (e.set i (s.re u'))
   |none=>.stuck
  |none=>.stuck) else .stuck
 |none=>.stuck:=by
 show oT i m.G oH e=_;unfold oT;cases q:e[i]? with
 |none=>rfl
 |
  some s=>
  dsimp only;split
  .simp only[oH,dN,Av,tM,q];try rfl
  .rfl
@[simp] theorem Be(xs:List Val):fO (.lst xs)=true:=rfl
@[simp] theorem JH(m:PMv)(a:PEx)(b:PAs):(kJ m a b).G e=(a.G e).bind λt e1=>if (rs e1 t).map fO=some true then (b.G e1).bind λts e2=>(match rs e2 t.drop,rss e2 ts with
 |some v,some vs=>if fO v=true then (m.G v vs).at e2 else .stuck
 |_,_=>.stuck) else .stuck:=rfl
@[simp] theorem Mv(a:PEx):(dJ a).G e=(a.G e).bind λt e1=>match iO t e1 with
 |some p=>.ok p e1
 |none=>.stuck:=rfl
@[simp] theorem Nq(a:PAs):(yt a).G e=(a.G e).bind λts e1=>match ts with
 | [t,u]=>(match iO t e1,iO u e1 with
  |some (xs,k),some (ys,none)=>.ok (List.zipWith (λx y=>.tup [x,y]) xs ys,k) e1
  |_,_=>.stuck)
 |_=>.stuck:=rfl
@[simp] theorem J3(v:Val):iO (.val v) e=(gG v).map λxs=>(xs,none):=rfl
@[simp] theorem Kx(v:Val):iO (.new v) e=(gG v).map λxs=>(xs,none):=rfl
@[simp] theorem Hd(xs:List Val):gG (.tup xs)=some xs:=rfl
@[simp] theorem Hm(xs:List Val):gG (.lst xs)=some xs:=rfl
@[simp] theorem Mr(a:PAs):(kW a).G e=(a.G e).bind λts e1=>match (rss e1 ts).bind jI with
 |some xs=>.ok (xs,none) e1
 |none=>.stuck:=rfl
@[simp] theorem K6(a:PAs):(x9 a).G e=(a.G e).bind λts e1=>match (rss e1 ts).bind rD with
 |some xs=>.ok (xs,none) e1
 |none=>.stuck:=rfl
@[simp] theorem M9(i:PIt)(g:PGt)(b:PSt):(lO i g b).G e=(i.G e).toS λp e1=>(fB g.G b.G p.1 (lockO e1 p.2)).unl p.2:=rfl
@[simp] theorem vZ(g:MG3)(B:MS3):fB g B [] e=.nx e:=rfl
theorem gm(g:MG3)(B:MS3)(v:Val)(vs:List Val):fB g B (v::vs) e=match g v e with
 |some e1=>(B e1).loop (fB g B vs)
 |none=>.stuck:=rfl
def gA(c:PTs)(b:PSt):(xWh c b).G e=(c.G e).toS λk e1=>if k=true then (b.G e1).loop (xWh c b).G else .nx e1:=Br c.G b.G e
@[simp] theorem v_lc(i:PIt)(sub:Qw)(hs:(sub.filterMap id).Nodup)(g:PGt)(c:PTs)(a:PEx):(pLC i sub hs g c a).G e=(i.G e).bind λp e1=>match lcV g.G c.G a.G p.1 [] (bU sub (lockO e1 p.2)) with
 |.ok ys e2=>if ys.length<=16777216 then .ok (.new (.lst ys)) (fE (bc sub e2 (lockO e1 p.2)) p.2) else .stuck
 |_=>.stuck:=rfl
@[simp] theorem Iw(f:PFn)(a:PAs):(ak f a).G e=(a.G e).bind λts e1=>match rss e1 ts with
 |none=>.stuck
 |some vs=>if okA e1 f.ms ts=true then (match f.G vs with
  |.stuck=>.stuck
  |.ok r mv=>if (aV e1 f.ms ts).isEmpty || (kN r&&mv.all cQ) then .ok (r.tm ts) (bc (aX f.ms ts) (aJ f.ms mv) e1) else (match oh e1 (aV e1 f.ms ts) with
   |some e2=>.ok (r.tm ts) (bc (aX f.ms ts) (aJ f.ms mv) e2)
   |none=>.stuck)
  |.exc c mv=>if (aV e1 f.ms ts).isEmpty || mv.all cQ then .exc c (bc (aX f.ms ts) (aJ f.ms mv) e1) else .stuck) else .stuck:=rfl
@[simp] theorem Ip(ts:List Tm)(v:Val):(Rt.val v).tm ts=.val v:=rfl
@[simp] theorem IU(ts:List Tm)(v:Val):(Rt.new v).tm ts=.new v:=rfl
@[simp] theorem o_n:oN.G e=.ok none e:=rfl
@[simp] theorem o_s(a:PEx):(oS a).G e=(a.G e).bind λt e1=>match rs e1 t with
 |some (.int i)=>.ok (some i) e1
 |_=>.stuck:=rfl
@[simp] theorem v_sl(a:PEx)(l u:POp):(pSl a l u).G e=(a.G e).bind λt e1=>(l.G e1).bind λlo e2=>(u.G e2).bind λhi e3=>match rs e3 t.drop with
 |some v=>(aSl v lo hi).at e3
 |none=>.stuck:=rfl
@[simp] theorem v_d0:pD0.G e=.ok (.new (.dct [])) e:=rfl
theorem aF(ms:List Bool)(N:Nat)(c:PSt)(vs:List Val):(fnP ms N c).G vs=if vs.length=ms.length then (match c.G (sls ms vs++List.replicate (N-vs.length) .no) with
 |.nx e=>(match muV ms e with |some mv=>.ok (.val .non) mv |none=>.stuck)
 |.rt r e=>(match muV ms e with |some mv=>.ok r mv |none=>.stuck)
 |.exc c e=>(match muV ms e with |some mv=>.exc c mv |none=>.stuck)
 |_=>.stuck) else .stuck:=rfl
theorem kT(ms:List Bool)(N:Nat)(c:PSt)(vs:List Val):(PFx.of ms N c).G vs=if vs.length=ms.length then (match c.G (sls ms vs++List.replicate (N-vs.length) .no) with
 |.nx e=>(match muV ms e with |some mv=>.ok (.val .non) mv |none=>.stuck)
 |.rt r e=>(match muV ms e with |some mv=>.ok r mv |none=>.stuck)
 |.exc c e=>(match muV ms e with |some mv=>.exc c mv |none=>.stuck)
 |_=>.stuck) else .stuck:=rfl
@[simp] theorem Mu(p:PFx ms):p.fn.ms=ms:=rfl
@[simp] theorem fx_G(p:PFx ms)(vs:List Val):p.fn.G vs=p.G vs:=rfl
end
@[simp] theorem MQ(i j:Int):bg.G (.int i) (.int j)=.val (.int (i+j)):=rfl
@[simp] theorem Mi(i j:Int):fX.G (.int i) (.int j)=.val (.int (i-j)):=rfl
@[simp] theorem k_lt(i j:Int):bLt.G (.int i) (.int j)=.val (.bl (decide (i<j))):=rfl
@[simp] theorem k_le(i j:Int):bLe.G (.int i) (.int j)=.val (.bl (decide (i<=j))):=rfl
@[simp] theorem k_gt(i j:Int):bGt.G (.int i) (.int j)=.val (.bl (decide (j<i))):=rfl
@[simp] theorem k_ge(i j:Int):bGe.G (.int i) (.int j)=.val (.bl (decide (j<=i))):=rfl
@[simp] theorem LP(i j:Int):rZ.G (.int i) (.int j)=.val (.int (i+j)):=rfl
@[simp] theorem K3(i:Int):gb.G (.int i)=.val (.int (-i)):=rfl
def cP(c:CMulA i j):bF.G (.int i) (.int j)=.val (.int (i*j)):=by show Dg (.int i) (.int j)=_;unfold Dg aIc;dsimp only;rw[if_pos c]
def rh(c:CDivB i j):ke.G (.int i) (.int j)=.val (.int (i.fdiv j)):=by show CT (.int i) (.int j)=_;unfold CT aIc;dsimp only;rw[if_pos c]
def jr(c:j≠0):eF.G (.int i) (.int j)=.val (.int (i.fmod j)):=by show Bh (.int i) (.int j)=_;unfold Bh aIc;dsimp only;rw[if_pos c]
def xn(c:yp i j):ko.G (.int i) (.int j)=.val (.int (i^j.toNat)):=by show B9 (.int i) (.int j)=_;unfold B9 aIc;dsimp only;rw[if_pos c]
@[simp] theorem k_ix(x:Val)(i:Int):bIx.G x (.int i)=match x.items with
 |some xs=>(match atI xs i with
  |some v=>.val v
  |none=>.stuck)
 |none=>.stuck:=by show aIx x (.int i)=_;unfold aIx;cases x.items <;> rfl
@[simp] theorem Il(xs:List Val):(Val.tup xs).items=some xs:=rfl
@[simp] theorem Jf(xs:List Val):(Val.lst xs).items=some xs:=rfl
@[simp] theorem LC(xs:List Val):(Val.kl xs).items=some xs:=rfl
@[simp] theorem k_eq(x y:Val):bEq.G x y=match bG x y with
 |some b=>.val (.bl b)
 |none=>.stuck:=by show aEq false x y=_;unfold aEq;cases bG x y <;> rfl
@[simp] theorem k_ne(x y:Val):bNe.G x y=match bG x y with
 |some b=>.val (.bl (!b))
 |none=>.stuck:=by show aEq true x y=_;unfold aEq;cases bG x y <;> rfl
@[simp] theorem El(x y:Int):bG (.int x) (.int y)=some (x==y):=rfl
def eq_str(hx:PyData.strOk x=true)(hy:PyData.strOk y=true):bG (.str x) (.str y)=some (x==y):=by unfold bG;show (if shp (.str x)=true/\shp (.str y)=true then _ else _)=_;rw[if_pos ⟨iA hx (N3 _),iA hy (N3 _)⟩];rfl
@[simp] theorem k_is(x:Val):bIs.G x .non=match x with
 |.non=>.val (.bl true)
 |_=>.val (.bl false):=by cases x <;> rfl
@[simp] theorem Lx(v:Val):bA.G [v]=match v.items with
 |some xs=>.val (.int xs.length)
 |none=>(match v with
  |.str z=>if z.length<=16777216 then .val (.int z.length) else .stuck
  |_=>.stuck):=rfl
@[simp] theorem Nv(i:Int):jL.G [.int i]=.val (.int (if i<0 then -i else i)):=rfl
@[simp] theorem MN(i j:Int):uc.G [.int i,.int j]=.val (.int (if j<i then j else i)):=rfl
@[simp] theorem Nb(xs:List Val):qN.G [.lst xs]=match jC xs with
 |some bs=>.val (.bl (bs.all id))
 |none=>.stuck:=rfl
@[simp] theorem LN(xs:List Val):bz.G [.lst xs]=match gq xs with
 |some bs=>.val (.int bs.sum)
 |none=>.stuck:=rfl
@[simp] theorem Hl(v:Val):ng.G [v]=match v.items with
 |some xs=>.new (.lst xs)
 |none=>.stuck:=rfl
@[simp] theorem GA(v:Val):fD.G [v]=match v.items with
 |some xs=>.val (.tup xs)
 |none=>.stuck:=rfl
@[simp] theorem JG(b:Bool):mH.G [.bl b]=.val (.int (if b then 1 else 0)):=rfl
@[simp] theorem Dt(xs:List Val)(v:Val):fm.G (.lst xs) [v]=if xs.length<16777216 then some (.lst (xs++[v]),.non) else none:=rfl
@[simp] theorem bP:∀(bs:List Int),gq (bs.map Val.int)=some bs
 | []=>rfl
 |b::r=>by show (gq (r.map Val.int)).map (b :: ·)=_;rw[bP r];rfl
def Hu(b:Bool)(ms:List Bool)(v:Val)(vs:List Val):sls (b::ms) (v::vs)=sl1 b v::sls ms vs:=rfl
def Gm:sls [] []=[]:=rfl
def Lk(v:Val):sl1 true v=.mu v:=rfl
def LL(v:Val):sl1 false v=.sh v:=rfl
section
variable(e:E3)
def Gy:okA e [] []=true:=rfl
def JY(i:Nat)(ms:List Bool)(ts:List Tm):okA e (true::ms) (.bor i::ts)=(((e[i]?).bind Sl.mv).isSome && !(iM i ts)&&okA e ms ts):=rfl
def Jr(i:Nat)(ms:List Bool)(ts:List Tm):okA e (false::ms) (.bor i::ts)=(!(j7 i ms ts)&&okA e ms ts):=rfl
def H9(v:Val)(ms:List Bool)(ts:List Tm):okA e (false::ms) (.val v::ts)=okA e ms ts:=rfl
def BA(i:Nat):iM i []=false:=rfl
def HX(i:Nat)(v:Val)(ts:List Tm):iM i (.val v::ts)=iM i ts:=rfl
def DD(i:Nat):j7 i [] []=false:=rfl
def Aq:aV e [] []=[]:=rfl
theorem EJ(i:Nat)(ms:List Bool)(ts:List Tm):aV e (false::ms) (.bor i::ts)=match e[i]? with
 |some (.sh _)=>aV e ms ts
 |_=>i::aV e ms ts:=rfl
def Fs(v:Val)(ms:List Bool)(ts:List Tm):aV e (false::ms) (.val v::ts)=aV e ms ts:=rfl
def Jb(t:Tm)(ms:List Bool)(ts:List Tm):aV e (true::ms) (t::ts)=aV e ms ts:=by cases t <;> rfl
end
def A4:aX [] []=[]:=rfl
def GF(b:Bool)(t:Tm)(ms:List Bool)(ts:List Tm):aX (b::ms) (t::ts)=nX b t::aX ms ts:=rfl
def GD(i:Nat):nX true (.bor i)=some i:=rfl
def Jp(t:Tm):nX false t=none:=by cases t <;> rfl
def C4(e:E3):bc [] [] e=e:=rfl
def IQ(o:Option Nat)(sub:Qw)(s:Sl)(i e:E3):bc (o::sub) (s::i) e=bc sub i (fW o s e):=rfl
theorem EH(i:Nat)(v:Val)(e:E3):fW (some i) (.mu v) e=match e[i]? with
 |some t=>e.set i (t.re v)
 |none=>e:=rfl
def J9(s:Sl)(e:E3):fW none s e=e:=rfl
def C8(vs:List Val):aJ [] vs=[]:=rfl
def JT(ms:List Bool)(v:Val)(vs:List Val):aJ (true::ms) (v::vs)=.mu v::aJ ms vs:=rfl
def IX(ms:List Bool)(vs:List Val):aJ (false::ms) vs=.no::aJ ms vs:=by cases vs <;> rfl
def Fn(e:E3):muV [] e=some []:=by cases e <;> rfl
def K7(ms:List Bool)(v:Val)(e:E3):muV (true::ms) (.mu v::e)=(muV ms e).map (v :: ·):=rfl
def Ny(ms:List Bool)(s:Sl)(e:E3):muV (false::ms) (s::e)=muV ms e:=by cases s <;> rfl
def yJ(v:Val):kN (.val v)=flatV v:=rfl
def AV(v:Val):kN (.new v)=cQ v:=rfl
def zT(xs:List Val):cQ (.lst xs)=c5 xs:=rfl
def yu:c5 []=true:=by simp [c5]
def uY(v:Val)(vs:List Val):c5 (v::vs)=(flatV v&&c5 vs):=by simp [c5]
def yV(i:Int):flatV (.int i)=true:=by simp [flatV]
def DB(i:Bool):flatV (.bl i)=true:=by simp [flatV]
def Aw(i:Str):flatV (.str i)=true:=by simp [flatV]
def AR:flatV .non=true:=by simp [flatV]
def AK(xs:List Val):flatV (.tup xs)=c5 xs:=by simp [flatV]
def aM(h0:0<=i)(h:l[i.toNat]?=some x):atI l i=some x:=by have hl:=(w_.mp h).1;unfold atI ixN;rw[if_pos h0,if_pos (by omega)];exact h
def jf(h0:0<=i)(h:i.toNat<n):ixN n i=some i.toNat:=by unfold ixN;rw[if_pos h0,if_pos (by omega)]
section
variable(a b c d e f g h:α)(l:List α)
def ati0:atI (a::l) 0=some a:=aM (by decide) rfl
def ati1:atI (a::b::l) 1=some b:=aM (by decide) rfl
def ati2:atI (a::b::c::l) 2=some c:=aM (by decide) rfl
def ati3:atI (a::b::c::d::l) 3=some d:=aM (by decide) rfl
def ati4:atI (a::b::c::d::e::l) 4=some e:=aM (by decide) rfl
def ati5:atI (a::b::c::d::e::f::l) 5=some f:=aM (by decide) rfl
def ati6:atI (a::b::c::d::e::f::g::l) 6=some g:=aM (by decide) rfl
def ati7:atI (a::b::c::d::e::f::g::h::l) 7=some h:=aM (by decide) rfl
end
def ixn0(n:Nat):ixN (n+1) 0=some 0:=jf (i:=0) (by decide) (by show 0<n+_;omega)
def ixn1(n:Nat):ixN (n+2) 1=some 1:=jf (i:=1) (by decide) (by show 1<n+_;omega)
def ixn2(n:Nat):ixN (n+3) 2=some 2:=jf (i:=2) (by decide) (by show 2<n+_;omega)
def ixn3(n:Nat):ixN (n+4) 3=some 3:=jf (i:=3) (by decide) (by show 3<n+_;omega)
theorem xQ(xs:List Val)(k:Int)(v:Val):seL.G (.lst xs) (.int k) v=match ixN xs.length k with
 |some j=>some (.lst (xs.set j v))
 |none=>none:=rfl
mutual
def vq:Val->Val->Bool
 |.non,.non=>true
 |.bl a,.bl b=>a==b
 |.bl a,.int j=>(if a then 1 else 0)==j
 |.int i,.bl b=>i==(if b then 1 else 0)
 |.int i,.int j=>i==j
 |.str x,.str y=>x==y
 |.tup xs,.tup ys=>vqs xs ys
 |.lst xs,.lst ys=>vqs xs ys
 |_,_=>false
def vqs:List Val->List Val->Bool
 | [],[]=>true
 |x::xs,y::ys=>vq x y&&vqs xs ys
 |_,_=>false
end
mutual
def wfV:Nat->Val->Bool
 |_,.non=>true
 |_,.bl _=>true
 |_,.int _=>true
 |_,.str x=>PyData.strOk x
 |k+1,.tup xs=>iK k xs
 |k+1,.lst xs=>iK k xs
 |_,_=>false
def iK:Nat->List Val->Bool
 |_,[]=>true
 |k,x::xs=>wfV k x&&iK k xs
end
mutual
def gB:Val->PyData
 |.bl b=>.bool b
 |.int i=>.int i
 |.str x=>.str x
 |.tup xs=>.tuple (eR xs)
 |.lst xs=>.list (eR xs)
 |_=>.none
def eR:List Val->List PyData
 | []=>[]
 |x::xs=>gB x::eR xs
end
mutual
theorem oC:∀(k:Nat) (v:Val),wfV k v=true->(∀j,k<j->cE j v=some (gB v))/\(gB v).canLay0=true/\(gB v).depth<=k
 |k,.non,_=>⟨λj hj=>by cases j with |zero=>exact absurd hj (OV _) |succ j=>rfl,rfl,N3 _⟩
 |k,.bl b,_=>⟨λj hj=>by cases j with |zero=>exact absurd hj (OV _) |succ j=>rfl,rfl,N3 _⟩
 |k,.int b,_=>⟨λj hj=>by cases j with |zero=>exact absurd hj (OV _) |succ j=>rfl,rfl,N3 _⟩
 |k,.str b,w=>⟨λj hj=>by cases j with |zero=>exact absurd hj (OV _) |succ j=>rfl,by cases k <;> exact w,N3 _⟩
 |0,.tup xs,w=>absurd w u_
 |0,.lst xs,w=>absurd w u_
 |
  k+1,.tup xs,w=>by
  obtain⟨h1,h2,h3⟩:=mi k xs w;exact⟨λj hj=>by cases j with |zero=>exact absurd hj (OV _) |succ j=>simp only[cE,gB,h1 j (Nat.lt_of_succ_lt_succ hj),Option.map_some],h2,by simpa [gB,PyData.depth] using h3⟩
 |
  k+1,.lst xs,w=>by
  obtain⟨h1,h2,h3⟩:=mi k xs w;exact⟨λj hj=>by cases j with |zero=>exact absurd hj (OV _) |succ j=>simp only[cE,gB,h1 j (Nat.lt_of_succ_lt_succ hj),Option.map_some],h2,by simpa [gB,PyData.depth] using h3⟩
 |k,.ty _,w=>by cases k <;> exact absurd w u_
 |k,.glb _,w=>by cases k <;> exact absurd w u_
 |k,.exc _,w=>by cases k <;> exact absurd w u_
 |k,.kl _,w=>by cases k <;> exact absurd w u_
 |k,.dct _,w=>by cases k <;> exact absurd w u_
 |k,.set _,w=>by cases k <;> exact absurd w u_
theorem mi:∀(k:Nat) (vs:List Val),iK k vs=true->(∀j,k<j->eN j vs=some (eR vs))/\PyData.canLayAll0 (eR vs)=true/\PyData.depthAll (eR vs)<=k
 |k,[],_=>⟨λj hj=>by simp [eN,eR],rfl,N3 _⟩
 |
  k,v::vs,w=>by
  have w':(wfV k v&&iK k vs)=true:=w;rw[t_] at w';obtain⟨h1,h2,h3⟩:=oC k v w'.1;obtain⟨i1,i2,i3⟩:=mi k vs w'.2;exact⟨λj hj=>by simp [eN,eR,h1 j hj,i1 j hj],by simp [eR,PyData.canLayAll0,h2,i2],Nat.max_le.mpr ⟨h3,i3⟩⟩
end
mutual
theorem zB:∀(k:Nat) (v u:Val),wfV k v=true->wfV k u=true->PyData.eqv (gB v) (gB u)=vq v u
 |
  k,v,u,hv,hu=>by
  cases v <;> first |(cases k <;> exact absurd hv u_) |skip
  all_goals (cases u <;> first |(cases k <;> exact absurd hu u_) |rfl |(cases k with |zero=>exact absurd hv u_ |succ k=>exact vI k _ _ hv hu))
theorem vI:∀(k:Nat) (v u:List Val),iK k v=true->iK k u=true->PyData.eqvAll (eR v) (eR u)=vqs v u
 |_,[],[],_,_=>rfl
 |_,[],_::_,_,_=>rfl
 |_,_::_,[],_,_=>rfl
 |
  k,x::xs,y::ys,hv,hu=>by
  have h1:(wfV k x&&iK k xs)=true:=hv;have h2:(wfV k y&&iK k ys)=true:=hu;rw[t_] at h1 h2;show (PyData.eqv (gB x) (gB y)&&PyData.eqvAll (eR xs) (eR ys))=(vq x y&&vqs xs ys);rw[zB k x y h1.1 h2.1,vI k xs ys h1.2 h2.2]
end
def Ih(hk:k<=160)(hx:wfV k x=true)(hy:wfV k y=true):bG x y=some (vq x y):=by obtain⟨h1,h2,h3⟩:=oC k x hx;obtain⟨i1,i2,i3⟩:=oC k y hy;unfold bG;rw[h1 164 (by omega),i1 164 (by omega)];dsimp only;rw[if_pos ⟨iA h2 (by omega),iA i2 (by omega)⟩,zB k x y hx hy]
def M1(hx:wfV 60 x=true)(hy:wfV 60 y=true):bG x y=some (vq x y):=Ih (by decide) hx hy
mutual
def lG:Val->Bool
 |.bl _=>false
 |.tup xs=>ij xs
 |.lst xs=>ij xs
 |.non=>true
 |.int _=>true
 |.str _=>true
 |_=>false
def ij:List Val->Bool
 | []=>true
 |x::xs=>lG x&&ij xs
end
mutual
theorem za:∀(v u:Val),lG v=true->lG u=true->(vq v u=true ↔ v=u)
 |
  v,u,hv,hu=>by
  cases v <;> first |exact absurd hv u_ |skip
  all_goals (cases u <;> first |exact absurd hu u_ |exact⟨λz=>absurd z u_,λz=>nomatch z⟩ |(simp [vq];done) |skip)
  all_goals
   refine Iff.trans (vd _ _ hv hu) ?_;constructor
   .rintro rfl;rfl
   .intro z;cases z;rfl
theorem vd:∀(v u:List Val),ij v=true->ij u=true->(vqs v u=true ↔ v=u)
 | [],[],_,_=>⟨λ_=>rfl,λ_=>rfl⟩
 | [],_::_,_,_=>⟨λz=>absurd z u_,λz=>nomatch z⟩
 |_::_,[],_,_=>⟨λz=>absurd z u_,λz=>nomatch z⟩
 |
  x::xs,y::ys,hv,hu=>by
  have h1:(lG x&&ij xs)=true:=hv;have h2:(lG y&&ij ys)=true:=hu;rw[t_] at h1 h2;show (vq x y&&vqs xs ys)=true ↔ _;rw[t_,za x y h1.1 h2.1,vd xs ys h1.2 h2.2,List.cons.injEq]
end
noncomputable def fV (q:Rat):Val:=.tup [.int q.num,.int q.den]
structure Bx where
 l:Rat
 t:Rat
 w:Rat
 h:Rat
structure Bx.Ok(b:Bx):Prop where
 w:0<b.w
 h:0<b.h
structure Bx.Sz(n:Nat)(b:Bx):Prop where
 l:L2.Sz n b.l
 t:L2.Sz n b.t
 w:L2.Sz n b.w
 h:L2.Sz n b.h
noncomputable def bV (b:Bx):Val:=.tup [fV b.l,fV b.t,fV b.w,fV b.h]
def Kd(e:fV p=fV q):p=q:=by unfold fV at e;simp only[Val.tup.injEq,List.cons.injEq,Val.int.injEq,and_true] at e;rw[eU p,eU q,e.1,e.2]
def Ei(q:Rat)(k:Nat):wfV (k+1) (fV q)=true:=by simp [fV,wfV,iK]
def DY(q:Rat):lG (fV q)=true:=by simp [fV,lG,ij]
def Mo(p q:Rat):bG (fV p) (fV q)=some (decide (p=q)):=by rw[M1 (Ei p 59) (Ei q 59)];congr 1;rw[P8,za _ _ (DY p) (DY q),OC];exact⟨Kd,λz=>by rw[z]⟩
noncomputable def knV:Val->Bool
 |.exc _=>false
 |v=>(tyC v).isSome
noncomputable def cS:Nat->Val->Bool
 |k+1,.tup xs=>xs.all (cS k)
 |_,v=>knV v
noncomputable def iR:Val->Bool
 |.int _=>true
 |_=>false
noncomputable def aR:Val->Bool
 |.tup [.int a,.int b]=>decide (1<=b)&&decide (Int.gcd a b=1)
 |_=>false
noncomputable def jM:Val->Bool
 |.tup (.int a::_)=>decide (0<a)
 |_=>false
noncomputable def bI:Val->Bool
 |.tup [a,b,c,d]=>aR a&&(aR b&&(aR c&&(aR d&&(jM c&&jM d))))
 |_=>false
noncomputable def fk:Val->Bool
 |.int i=>decide (1<=i)
 |_=>false
noncomputable def fG:Val->Bool
 |.tup _=>true
 |_=>false
def Mn(h1:1<=b)(h2:Int.gcd a b=1):Val.tup [.int a,.int b]=fV ((a:Rat)/(b:Rat)):=by
 have hb:b≠0:=by omega
 have h:=qM (a:=a) hb;have s:=Fr.self (by omega) h2;unfold fV;rw[<- h.1,<- h.2,s.1,s.2]
def jv(q:Rat):aR (fV q)=true:=by
 show (decide (1<=(q.den:Int))&&decide (Int.gcd q.num q.den=1))=true
 have:=q.den_pos
 rw[E_ (by omega),E_ (vD q)];rfl
def yP(h:aR d=true):∃q,d=fV q:=by
 unfold aR at h;split at h
 .simp only[t_,OC] at h;exact⟨_,Mn h.1 h.2⟩
 .cases h
def vm(q:Rat):jM (fV q)=decide (0<q):=by show decide (0<q.num)=decide (0<q);rw[P6];exact wJ
def By(h:b.Ok):bI (bV b)=true:=by show (aR (fV b.l)&&(aR (fV b.t)&&(aR (fV b.w)&&(aR (fV b.h)&&(jM (fV b.w)&&jM (fV b.h))))))=true;rw[jv,jv,jv,jv,vm,vm,E_ h.w,E_ h.h];rfl
def Hz(b:Bx):cS 2 (bV b)=true:=by simp [bV,fV,cS,knV,tyC]
theorem oQ(P:E3->Prop):∀(vs acc:List Val) (e:E3),P e->(∀v∈vs,∀e,P e->∃e1 t e2,g v e=some e1/\F e1=.ok t e2/\cR e2 t=some (e2,f v)/\P e2)->acc.length+vs.length<=16777216->∃e',P e'/\lcV g cY F vs acc e=.ok (acc++vs.map f) e'
 | [],acc,e,hp,_,_=>⟨e,hp,by simp [lcV]⟩
 |
  v::vs,acc,e,hp,hf,hl=>by
  obtain⟨e1,t,e2,q1,q2,q3,q4⟩:=hf v (s_ ..) e hp;obtain⟨e',p',q5⟩:=oQ P vs (acc++[f v]) e2 q4 (λu hu=>hf u (q_ _ hu)) (by simp at hl ⊢;omega);refine⟨e',p',?_⟩;unfold lcV;rw[if_pos (by simp at hl;omega),q1];simp only[cY,dN,OW,q2,q3,q5];simp
noncomputable def rgV (k:Nat):List Val:=(List.range k).map λj=>Val.int (j:Nat)
def kE(h:k<1000000):jI [.int (k:Nat)]=some (rgV k):=by simp only[jI];rw[if_pos (⟨by omega,by omega⟩:RgB _),NS];unfold mr rgV;simp only[Int.zero_add]
def Fy(h0:0<=i)(h:i<1000000):jI [.int i]=some (rgV i.toNat):=by
 have:=kE (k:=i.toNat) (by omega)
 rwa [show ((i.toNat:Nat):Int)=i from by omega] at this
theorem eL(fv fw:α->Val)(P:E3->Prop):∀(l:List α) (acc:List Val) (e:E3),P e->(∀a∈l,∀e,P e->∃e1 t e2,g (fv a) e=some e1/\F e1=.ok t e2/\cR e2 t=some (e2,fw a)/\P e2)->acc.length+l.length<=16777216->∃e',P e'/\lcV g qY.G F (l.map fv) acc e=.ok (acc++l.map fw) e'
 | [],acc,e,hp,_,_=>⟨e,hp,by simp [lcV]⟩
 |
  v::vs,acc,e,hp,hf,hl=>by
  obtain⟨e1,t,e2,q1,q2,q3,q4⟩:=hf v (s_ ..) e hp;obtain⟨e',p',q5⟩:=eL fv fw P vs (acc++[fw v]) e2 q4 (λu hu=>hf u (q_ _ hu)) (by simp at hl ⊢;omega);refine⟨e',p',?_⟩;rw[y_];unfold lcV;have cy:qY.G=cY:=rfl;rw[cy] at q5 ⊢;rw[if_pos (by simp at hl;omega),q1];simp only[cY,dN,OW,q2,q3,q5];simp
def JW(v:Val):inS (.mu v)=.mu v:=rfl
def KP(v:Val):inS (.sh v)=.sh v:=rfl
def Gz(i:Nat)(v:Val)(e:E3):fW (some i) (.sh v) e=e:=rfl
noncomputable def gj (ms:List Bool) (r:SR3):R3F:=match r with
 |.nx e=>(match muV ms e with |some mv=>.ok (.val .non) mv |none=>.stuck)
 |.rt r e=>(match muV ms e with |some mv=>.ok r mv |none=>.stuck)
 |.exc c e=>(match muV ms e with |some mv=>.exc c mv |none=>.stuck)
 |_=>.stuck
def jT(h:vs.length=ms.length):(fnP ms N c).G vs=gj ms (c.G (sls ms vs++List.replicate (N-vs.length) .no)):=by rw[aF,if_pos h];rfl
def HK(h:vs.length=ms.length):(PFx.of ms N c).G vs=gj ms (c.G (sls ms vs++List.replicate (N-vs.length) .no)):=by rw[kT,if_pos h];rfl
def bB(ms:List Bool)(r:Rt)(e:E3):gj ms (.rt r e)=match muV ms e with |some mv=>.ok r mv |none=>.stuck:=rfl
def aP{Q:SR3->Prop}(I:E3->Prop){a b:PSt}{e:E3}(h1:∃e1,a.G e=.nx e1/\I e1)(h2:∀e1,I e1->Q (b.G e1)):Q ((ao a b).G e):=by obtain⟨e1,q,i⟩:=h1;rw[Es,q];exact h2 e1 i
def sm8(h:m.natAbs<1099511627776):Sm 8000 m:=I_ (show m.natAbs<2^40 from h) (Oa (by decide) (by decide))
def oU{m:Int}(h:0<m):(0:Rat)<(m:Rat):=Rat.intCast_pos.mpr h
def me{a b:Int}(h1:0<a)(h2:0<b):(0:Rat)<(a:Rat)/(b:Rat):=by rw[Rat.div_def];exact Rat.mul_pos (oU h1) (Rat.inv_pos.mpr (oU h2))
structure Good(b:Bx):Prop where
 ok:b.Ok
 sz:b.Sz 101
noncomputable def HD (cs:List (Str×PFn)) (F:ME3) (A:MA3) (e:E3):R3 Tm:=(F e).bind λt e1=>match rs e1 t with
 |some (.glb x)=>(match cs.lookup x with
  |some p=>EB p.ms p.G A e1
  |none=>.stuck)
 |_=>.stuck
noncomputable def mL (cs:List (Str×PFn)) (f:PEx) (a:PAs):PEx:=⟨25,HD cs f.G a.G⟩
theorem Fc(e:E3)(cs:List (Str×PFn))(f:PEx)(a:PAs):(mL cs f a).G e=(f.G e).bind λt e1=>match rs e1 t with
 |some (.glb x)=>(match cs.lookup x with
  |some p=>(ak p a).G e1
  |none=>.stuck)
 |_=>.stuck:=rfl
theorem mT{β:Type}{x:Str}{b:β}:∀{l:List (Str×β)},l.lookup x=some b->(x,b)∈l
 | [],h=>by simp at h
 |
  (y,c)::l,h=>by
  rw[Ou] at h;split at h
  .rename_i q
   have:=eq_of_beq q
   subst this;cases h;exact s_ ..
  .exact q_ _ (mT h)
section
variable{K:W.Frag}{mg:Qt}{X:Cx}{ES:St->XK}{e:Expr}{es:List Expr}{A:PAs}{pos:Pos}
def yq(K:W.Frag)(mg:Qt)(X:Cx)(cs:List (Str×PFn)):Prop:=∀c∈cs,∃k ps,Callee X.prog X.w X.K X.mg X.base c.1 k ps (sp3 K mg c.2)/\Room k X.A
def IT:yq K mg X []:=λ_ h=>nomatch h
def vJ{f:PFn}{x:Str}{k:Nat}{ps:List Str}{cs:List (Str×PFn)}(C:Callee X.prog X.w X.K X.mg X.base x k ps (sp3 K mg f))(hr:Room k X.A)(h:yq K mg X cs):yq K mg X ((x,f)::cs):=λc hc=>by
 rcases F_.mp hc with rfl |hc
 .exact⟨k,ps,C,hr⟩
 .exact h c hc
def Cg{ef:Expr}{cs:List (Str×PFn)}{p:PEx}(hc:yq K mg X cs)(hf:DE K mg X ES ef p)(hx:gH X ES)(ha:DA K mg X ES (e::es) A)(hm:X.mg=mg:=by rfl)
 (harm:eval (.Call ef (e::es) [] pos) X.env=(do callWith pos (<- eval ef X.env) [] (backTo pos (starEach (e::es) X.env)) (backToKw pos (keywordEach [] X.env))):=by rfl)
 (he:starEach (e::es) X.env=(false,eval e X.env)::starEach es X.env:=by rfl) (hpl:(backTo pos (starEach es X.env)).any (·.1)=false:=by rfl):DE K mg X ES (.Call ef (e::es) [] pos) (mL cs p A):=by
 subst hm;refine⟨λpins s σ H Q I ⟨Y,N0,L,ns,e,S,hl,p⟩=>?_⟩;rw[harm];refine n_ ?_;have rd
  : rdE K X.mg ES _ σ H (λv H1=>∃x c f,(x,c)∈cs/\v=.ref f/\X.mg x=some (.ref f)/\rdA K X.mg ES A.G σ H1 (λvs H2=>sp3 K X.mg c vs H2 Q (ES σ))):=
  ⟨Y,
   N0,L,ns,e,S,hl,PG3.imp p S λt e1 ns1 H1 a1 S1 p1 x r1=>by
   try dsimp only at p1
   split at p1
   .rename_i y q;split at p1
    .rename_i c q2;obtain⟨a,rfl,m⟩:=(r1.sh S1 q).glb;exact⟨y,c,a,mT q2,rfl,m,nR (f:=c) σ H1 Q ⟨Y,N0,L,ns1,e1,S1,λa z=>hl a (a1.dom a z),p1⟩⟩
    .exact p1.elim
   .exact p1.elim⟩
 refine ND (hf.ok pins s σ H _ I rd) (λu s1 ⟨v,H1,I1,rv,x,c,f,hmem,ev,m,ra⟩=>?_) λ_ _ z=>z;subst ev;obtain rfl:u=Value.ref f:=rv;obtain⟨k,ps,C,hr⟩:=hc (x,c) hmem;obtain⟨f',fd,F',m',kp,bb,_⟩:=C.ex;rw[m] at m';cases m';refine W.callWith_K (h₀:=X.base) I.ok.mod.kin kp (ND (ha.ok pos pins s1 σ H1 _ I1 ra) (λus s2 ⟨vs,H2,I2,r,q⟩=>⟨I2.kIn,?_⟩) λ_ _ z=>z) he hpl;have hl:(us++[]).length=ps.length:=by rw[NP,<- r.length];exact F'.len _ _ _ _ q
 refine wpAny_call (PJ (F'.run X.A X.stack s2 H2 ⟨us,[]⟩ us vs Q (ES σ) hr I2.env0 (by simpa using bb s2 us I2.kIn hl) r q) λr s' hq=>?_);cases r with
 |error ex=>exact hx pins σ H2 s2 ex s' I2 hq
 |
  ok fl=>
  cases fl with
  |ret u=>exact I2.after hq
  |next=>exact False.elim hq
  |brk=>exact False.elim hq
  |cont=>exact False.elim hq
end
def uw(xs ys:List Val):bg.G (.lst xs) (.lst ys)=if xs.length+ys.length<=16777216 then .new (.lst (xs++ys)) else .stuck:=rfl
section
variable{K:W.Frag}{mg:Qt}{P:Addr->Prop}{H:Hp}{ws ws':List (Key×V)}{us us':List (Key×Val)}{k:Key}
def DX(r:Rk K mg P H ws us):lkD us k=some v->∃d,lkD ws k=some d/\Rd K mg P H d v:=
 r.ind (M:=λws us=>lkD us k=some v->∃d,lkD ws k=some d/\Rd K mg P H d v) (λq=>by cases q) (λ{k2 d v2 ds vs} r _ ih q=>by
  unfold lkD at q ih ⊢;rw[N8] at q ⊢;dsimp only at q ⊢;by_cases hk:k2=k
  .rw[E_ hk] at q ⊢;cases q;exact⟨d,rfl,r⟩
  .rw[C_ hk] at q ⊢;exact ih q)
def FG(r:Rk K mg P H ws us):us.map (·.1)=ws.map (·.1):=
 r.ind (M:=λws us=>us.map (·.1)=ws.map (·.1)) rfl λ_ _ ih=>by rw[y_,y_,ih]
def zO(r:Rk K mg P H ws us):ws.length=us.length:=
 r.ind (M:=λws us=>ws.length=us.length) rfl λ_ _ ih=>NR (· + 1) ih
def JF(r:Rk K mg P H ws us)(q:Rk K mg P H ws' us'):Rk K mg P H (ws++ws') (us++us'):=
 r.ind (M:=λws us=>Rk K mg P H (ws++ws') (us++us')) q λr _ ih=>.cons r ih
def zu(rd:Rd K mg P H d v)(r:Rk K mg P H ws us):Rk K mg P H (fu ws k d) (fu us k v):=by
 unfold fu;rw[Dq (FG r)];by_cases hc:(ws.any λkv=>decide (kv.1=k))=true
 .rw[if_pos hc,if_pos hc];exact r.ind (M:=λws us=>Rk K mg P H (ws.map λkv=>if kv.1=k then (kv.1,d) else kv) (us.map λkv=>if kv.1=k then (kv.1,v) else kv)) .nil (λ{k2 d2 v2 ds vs} r _ ih=>by
   rw[y_,y_];dsimp only;by_cases hk:k2=k
   .rw[if_pos hk,if_pos hk];exact .cons rd ih
   .rw[if_neg hk,if_neg hk];exact .cons r ih)
 .rw[if_neg hc,if_neg hc];exact JF r (.cons rd .nil)
def Hq:∀{ks:List Key}{ds:List V}{vs:List Val},Rds K mg P H ds vs->Rk K mg P H (ks.zip ds) (ks.zip vs):=by
 intro ks;induction ks with
 |nil=>intro ds vs _;exact .nil
 |
  cons k ks ih=>
  intro ds vs r;cases r with
  |nil=>exact .nil
  |cons r rr=>exact .cons r (ih rr)
end
noncomputable def C9:Val->Val->Bv:=λx y=>match x with
 |.dct kvs=>(match y with
  |.str k=>(match lkD kvs (.inr k) with
   |some v=>.val v
   |none=>.stuck)
  |_=>.stuck)
 |_=>.stuck
noncomputable def gz:PO2:=⟨C9⟩
noncomputable def sD:Val->Val->Val->Option Val:=λo i v=>match o with
 |.dct kvs=>(match i with
  |.str k=>if kvs.length<16777216 then some (.dct (fu kvs (.inr k) v)) else none
  |_=>none)
 |_=>none
noncomputable def seD:PSe:=⟨sD⟩
noncomputable def yf (ks:List Str) (A:MA3) (e:E3):R3 Tm:=(A e).bind λts e1=>match dem e1 ts with
 |some (e2,vs)=>if ks.length=vs.length then .ok (.new (.dct ((ks.map Sum.inr).zip vs))) e2 else .stuck
 |none=>.stuck
noncomputable def w9 (ks:List Str) (a:PAs):PEx:=⟨26,yf ks a.G⟩
theorem Ax(e:E3)(ks:List Str)(a:PAs):(w9 ks a).G e=(a.G e).bind λts e1=>match dem e1 ts with
 |some (e2,vs)=>if ks.length=vs.length then .ok (.new (.dct ((ks.map Sum.inr).zip vs))) e2 else .stuck
 |none=>.stuck:=rfl
noncomputable def aL:List (Str×PEx)->PAs
 | []=>ag
 |p::r=>aa p.2 (aL r)
section
variable{K:W.Frag}{mg:Qt}{X N0:Addr->Prop}{ns ns0:Ns}{e e0:E3}{σ:St}{H H0:Hp}
def Sat.fill(S:Sat K mg (Xn X n) N0 ns e σ H)(q:H n=some o)(hf:NotFz o):Mov (Oc (Xn X n) ns) (Oc (Xn X n) ns) H (upd H n o')/\Sat K mg (Xn X n) N0 ns e σ (upd H n o'):=by
 have up:∀m,m≠n->upd H n o' m=H m:=λm z=>aK z;have mv:Mov (Oc (Xn X n) ns) (Oc (Xn X n) ns) H (upd H n o'):=⟨LeH.wr q hf,λm ob p q' _=>⟨p,by rw[up m λz=>p.1 (.inr z)];exact q'⟩⟩;refine⟨mv,⟨S.l1,S.l2,λa z=>S.lh a ?_,λm z=>?_,S.inj,S.nx,λj s qj=>(S.sl j s qj).mono mv λm ob qm qo _=>?_,S.bs.wr q hf⟩⟩
 .rw[up a λy=>by subst y;rw[aO] at z;cases z] at z;exact z
 .by_cases y:m=n
  .subst y;exact⟨o',aO⟩
  .rw[up m y];exact S.xl m z
 .rw[up m λy=>by subst y;exact S.nx j m qm (.inr rfl)];exact qo
def Stp.fill(a:Stp ns0 e0 H0 ns e H)(hn:H0 n=none)(q:H n=some o)(hf:NotFz o):Stp ns0 e0 H0 ns e (upd H n o'):=by
 have up:∀m,m≠n->upd H n o' m=H m:=λm z=>aK z;refine⟨a.le.trans (LeH.wr q hf),λm z=>a.dom m ?_,λm ob qm ht hM=>?_,a.nw,a.lk,a.lk',a.mu,a.mu'⟩
 .rw[up m λy=>by subst y;rw[aO] at z;cases z] at z;exact z
 .rw[up m λy=>by subst y;rw[hn] at qm;cases qm];exact a.keep m ob qm ht hM
def TsR.cons'{L:Addr->Prop}{t:Tm}(r:relE K mg X N0 L σ ns e H d t.drop)(rs:TsR K mg X ns σ H ds ts):TsR K mg X ns σ H (d::ds) (t.drop::ts):=by
 generalize hg:t.drop=t' at *;cases t' with
 |val v=>exact .val r rs
 |new v=>cases t <;> cases hg
 |bor i=>exact .bor r rs
end
section
variable{K:W.Frag}{mg:Qt}{X:Cx}{ES:St->XK}{a b v:Expr}{keys:List (Option Expr)}{ks:List (Option Expr)}{values vs:List Expr}{p q F:PEx}{A:PAs}{prs:List (Str×PEx)}{pos kp:Pos}
noncomputable def tps (K:W.Frag) (mg:Qt) (ES:St->XK) (prs:List (Str×PEx)):List (TE×TE):=prs.map λp=>(tC (.str p.1),rdE K mg ES p.2.G)
theorem ub:∀(prs:List (Str×PEx)) {Y N0:Addr->Prop}{ns:Ns}{e:E3}{σ:St}{H:Hp}{Q:List (V×V)->Hp->Prop},Sat K mg Y N0 ns e σ H->PG3 K mg Y N0 ns e σ H (ES σ) (λts _ ns' H'=>∀vs,TsR K mg Y ns' σ H' vs ts->Q ((prs.map λp=>V.str p.1).zip vs) H') ((aL prs).G e)->nE (tps K mg ES prs) σ H Q
 | [],Y,N0,ns,e,σ,H,Q,S,p=>PG3.ret p S [] .nil
 |pr::r,Y,N0,ns,e,σ,H,Q,S,p=>⟨Y,N0,λ_=>True,ns,e,S,λ_ _=>trivial,PG3.imp p S λt e1 ns1 H1 a1 S1 p1 y ry=>ub r S1 (PG3.imp p1 S1 λts e2 ns2 H2 a2 S2 p2 vs rs=>p2.ret S2 (y::vs) (TsR.cons' (ry.drop a2) rs))⟩
def Gg(hu:X.A.units+1<cLine)(ha:DE K mg X ES a p)(hb:DE K mg X ES b q)(hs:yk b):DE K mg X ES (.Subscript a b pos) (pOp gz p q):=⟨PE.imp (wa hu ha.ok hb.ok hs) λσ H Q zz=>zz.el λY N0 L ns e S hl p=>
 ⟨Y,
  N0,L,ns,e,S,hl,PG3.imp p S λt1 e1 ns1 H1 a1 S1 p1 x r1=>⟨Y,N0,L,ns1,e1,S1,λa z=>hl a (a1.dom a z),PG3.imp p1 S1 λt2 e2 ns2 H2 a2 S2 p2 y r2=>by
  try dsimp only at p2
  split at p2
  .rename_i v u q1 q2;replace p2:PG3 K mg Y N0 ns2 e2 σ H2 (ES σ) (KE K mg Y N0 L σ Q) ((C9 v u).at e2):=p2;unfold C9 at p2;split at p2
   .split at p2
    .split at p2
     .rename_i q3;obtain⟨a,ws,rfl,h,rk⟩:=((r1.drop a2).sh S2 q1).dct;obtain rfl:=(r2.sh S2 q2).str;obtain⟨d,q4,rd⟩:=DX rk q3;exact⟨a,d,rfl,q4 ▸ DGet.k (k:=.inr _) h,p2.ret S2 _ rd⟩
     .exact p2.elim
    .exact p2.elim
   .exact p2.elim
  .exact p2.elim⟩⟩⟩
def E2:PPs X pos [] [] (tps K mg ES []):=Gi
def lP(hv:DE K mg X ES v F)(hr:PPs X pos ks vs (tps K mg ES prs)):PPs X pos (some (.Constant (.str k) j kp)::ks) (v::vs) (tps K mg ES ((k,F)::prs)):=Df zm hv.ok hr
def Gu{ns:List Str}(hp:PPs X pos keys values (tps K mg ES prs))(h1:ns=prs.map (·.1):=by rfl)(h2:A=aL prs:=by rfl)(hn:ns.Nodup:=by decide)(hall:keys.all (·.isSome)=true:=by rfl)(hl:keys.length=values.length:=by rfl)(h0:keys≠[]:=by intro h;cases h)(h15:keys.length<=15:=by decide)(hp15:prs.length<=15:=by decide):DE K mg X ES (.Dict keys values pos) (w9 ns A):=by
 subst h1 h2;refine⟨PE.imp (FC hp hall hl h0 h15) λσ H Q ⟨Y,N0,L,ns,e,S,hL,p⟩ pp hpp=>?_⟩;have g:=Gr.upd (u:=.dK []) hpp;have SG:=S.grow g hpp aO;refine ub prs SG ?_;replace p:PG3 K mg Y N0 ns e σ H (ES σ) (KE K mg Y N0 L σ Q) (yf (prs.map (·.1)) (aL prs).G e):=p;unfold yf at p;cases q:(aL prs).G e with
 |stuck=>rw[q] at p;exact p
 |exc c e'=>rw[q] at p;exact λH' ns' C a S' m=>p H' ns' C ((Stp.gr g).trans S a) (S'.weak λ_ z=>.inl z) m
 |
  ok ts e1=>
  rw[q] at p;intro H2 ns1 a1 S1 vs rs;replace p:PG3 K mg Y N0 ns e σ H (ES σ) (KE K mg Y N0 L σ Q) (match dem e1 ts with
   |some (e2,vs)=>if (prs.map (·.1)).length=vs.length then .ok (.new (.dct (((prs.map (·.1)).map Sum.inr).zip vs))) e2 else .stuck
   |none=>.stuck):=p
  split at p
  .rename_i e2 us qd;split at p
   .rename_i a_;obtain⟨ns2,S2,a2,r2⟩:=gJ S1 rs qd;have k1:H2 pp=some (.dK []):=a1.keep pp _ aO (λ_ z=>nomatch z) λ⟨i,s,z,_⟩=>SG.nx i _ z (.inr rfl);have hlv:vs.length=prs.length:=by rw[r2.len,<- a_,o_]
    refine⟨k1,((prs.map (·.1)).map Sum.inr).zip vs,?_,?_,?_⟩
    .rw[<- sY,Of];rfl
    .rw[List.length_zip,o_,o_];omega
    .have hz:(((prs.map (·.1)).map Sum.inr).zip vs:List (Key×V)).map (·.1)=(prs.map (·.1)).map Sum.inr:=List.map_fst_zip (by rw[o_,o_];omega);rw[rq _ [] (by rw[NK,hz];exact List.Pairwise.map _ (λa b hab z=>hab (Sum.inr.inj z)) hn),NK];obtain⟨mv,S3⟩:=S2.fill (o':=.dK (((prs.map (·.1)).map Sum.inr).zip vs)) k1 trivial;exact p _ ns2 ((((Stp.gr g).trans S a1).trans S a2).fill hpp k1 trivial) (S3.weak λ_ z=>.inl z) _ ⟨pp,_,rfl,hL pp hpp,λz=>(by obtain⟨o,z⟩:=S.xl _ z;rw[hpp] at z;cases z),aO,trivial,S3,.dct ((Hq r2).mono mv)⟩
   .exact p.elim
  .exact p.elim
def A8:xG K mg xM seD.G:=λP H n o u di vi d v u' Q np e hf r0 ri rd q k=>by
 replace q:sD u vi v=some u':=q;unfold sD at q;split at q
 .split at q
  .split at q
   .rename_i hl;cases q;obtain rfl:=ri.str;cases r0 with
    |dct rk=>exact⟨n,_,rfl,DPut.k (k:=.inr _) e (by rw[zO rk];exact hl),k _ trivial (.dct (zu rd rk))⟩
   .cases q
  .cases q
 .cases q
end
noncomputable def pU (n:Nat) (u:j4):MG3:=λv e=>match v with
 |.tup vs=>if vs.length=n then u vs e else none
 |.lst vs=>if vs.length=n then u vs e else none
 |_=>none
noncomputable def gtU (n:Nat) (a:PGs):PGt:=⟨3,pU n a.G⟩
section
variable{e:E3}
def g_uL(n:Nat)(a:PGs)(vs:List Val):(gtU n a).G (.lst vs) e=if vs.length=n then a.G vs e else none:=rfl
end
section
variable{K:W.Frag}{mg:Qt}{X:Cx}{es:List Expr}{gs:PGs}{pos:Pos}
def KD{k n:Nat}(hK:X.K=K)(hc:X.calm=true)(h:DGs K mg X es gs)(hn:(assignEach es X.env).length=n:=by rfl)(hst:(assignEach es X.env).findIdx? (·.1)=none:=by rfl):DG K mg X (.Tuple es k pos) (gtU n gs):=by
 subst hK;exact
  ⟨PG.imp (Ik hc h.ok hn hst) λv σ H Q zz=>zz.el λY N0 ns e u e' S r q k=>by
  replace q:pU n gs.G u e=some e':=q;unfold pU at q;split at q
  .split at q
   .rename_i hl;obtain⟨a,vs,rfl,z,rr⟩:=ShR.tup (.inl r);exact⟨a,vs,rfl,.inl z,by rw[rr.len];exact hl,Y,N0,ns,e,_,e',S,rr,q,k⟩
   .cases q
  .split at q
   .rename_i hl;obtain⟨a,vs,rfl,z,rr⟩:=ShR.lstL (.inl r);exact⟨a,vs,rfl,.inr z,by rw[rr.len];exact hl,Y,N0,ns,e,_,e',S,rr,q,k⟩
   .cases q
  .cases q⟩
end
theorem ar1{α:Type}{P:List α->Prop}(h:∀a,P [a]):∀us:List α,us.length=1->P us
 | [a],_=>h a
theorem ar2{α:Type}{P:List α->Prop}(h:∀a b,P [a,b]):∀us:List α,us.length=2->P us
 | [a,b],_=>h a b
theorem ar3{α:Type}{P:List α->Prop}(h:∀a b c,P [a,b,c]):∀us:List α,us.length=3->P us
 | [a,b,c],_=>h a b c
theorem ar4{α:Type}{P:List α->Prop}(h:∀a b c d,P [a,b,c,d]):∀us:List α,us.length=4->P us
 | [a,b,c,d],_=>h a b c d
section
variable{K:W.Frag}{mg:Qt}{P:Addr->Prop}{H:Hp}
theorem kO:∀l:List Nat,Rds K mg P H (l.map λi:Nat=>V.int (i:Nat)) (l.map λi:Nat=>Val.int (i:Nat))
 | []=>.nil
 |i::l=>.cons (.int _) (kO l)
end
noncomputable def C0:List Val->Bv:=λvs=>match vs with
 | [.int j]=>if -(2^62)<=j/\j<=16777216 then .new (.lst (rgV j.toNat)) else .stuck
 |_=>.stuck
noncomputable def jB:PBf:=⟨C0⟩
def D8{j:Int}(h:-(2^62)<=j/\j<=16777216):jB.G [.int j]=.new (.lst (rgV j.toNat)):=if_pos h
noncomputable def Dp:List Val->Bv:=λvs=>match vs with
 | [.int j]=>if 0<=j/\j<=1000000 then .val (.tup (rgV j.toNat)) else .stuck
 |_=>.stuck
noncomputable def mZ:PBf:=⟨Dp⟩
def K9{j:Int}(h:0<=j/\j<=1000000):mZ.G [.int j]=.val (.tup (rgV j.toNat)):=if_pos h
noncomputable def tY (f:List Int->Int):List Val->Bv:=λvs=>match vs with
 | [.lst xs]=>(match gq xs with
  |some bs=>if bs≠[] then .val (.int (f bs)) else .stuck
  |none=>.stuck)
 |_=>.stuck
noncomputable def sI:PBf:=⟨tY mnI⟩
def Nk{f:List Int->Int}{ns:List Int}(h:ns≠[]):tY f [.lst (ns.map .int)]=.val (.int (f ns)):=by unfold tY;dsimp only;rw[bP];exact if_pos h
def G5{ns:List Int}(h:ns≠[]):sI.G [.lst (ns.map .int)]=.val (.int (mnI ns)):=Nk h
noncomputable def Nu (e:E3):R3 Tm:=.ok (.new (.set [])) e
noncomputable def yi:PEx:=⟨27,Nu⟩
def Ic(e:E3):yi.G e=.ok (.new (.set [])) e:=rfl
noncomputable def Dm:Val->Val->Bv:=λx y=>match x,y with
 |.int i,.set xs=>.val (.bl (decide (i∈xs)))
 |_,_=>.stuck
noncomputable def CF:PO2:=⟨Dm⟩
def LZ(i:Int)(xs:List Int):CF.G (.int i) (.set xs)=.val (.bl (decide (i∈xs))):=rfl
noncomputable def xa:List Val->Bv:=λvs=>match vs with
 | [.set xs]=>.val (.int (xs.length:Nat))
 |_=>.stuck
noncomputable def tj:PBf:=⟨xa⟩
def Jj(xs:List Int):tj.G [.set xs]=.val (.int (xs.length:Nat)):=rfl
noncomputable def Dc:Val->Option (List Int)
 |.set xs=>some xs
 |_=>none
noncomputable def ud (i:Nat) (A:MA3) (e:E3):R3 Tm:=match e[i]? with
 |some s=>match s.mv.bind Dc with
  |some _=>(A e).bind λts e1=>match dem e1 ts with
   |some (e2,[.int k])=>match e2[i]? with
    |some s2=>match s2.mv.bind Dc with
     |some xs=>if xs.length<4000 then .ok (.val .non) (e2.set i (s2.re (.set (gc xs k)))) else .stuck
     |none=>.stuck
    |none=>.stuck
   |_=>.stuck
  |none=>.stuck
 |none=>.stuck
noncomputable def Bf (i:Nat) (a:PAs):PEx:=⟨28,ud i a.G⟩
def GU(e:E3)(i:Nat)(a:PAs):(Bf i a).G e=ud i a.G e:=rfl
noncomputable def rC:Val->Val->Bv:=λx y=>match x with
 |.dct kvs=>(match y with
  |.int k=>(match lkD kvs (.inl k) with
   |some v=>.val v
   |none=>.stuck)
  |_=>.stuck)
 |_=>.stuck
noncomputable def xr:PO2:=⟨rC⟩
def Mb(h:lkD kvs (.inl k)=some v):xr.G (.dct kvs) (.int k)=.val v:=by show rC (.dct kvs) (.int k)=_;unfold rC;dsimp only;rw[h]
noncomputable def sDI:Val->Val->Val->Option Val:=λo i v=>match o with
 |.dct kvs=>(match i with
  |.int k=>if kvs.length<16777216 then some (.dct (fu kvs (.inl k) v)) else none
  |_=>none)
 |_=>none
noncomputable def seI:PSe:=⟨sDI⟩
def JR(kvs:List (Key×Val))(k:Int)(v:Val):seI.G (.dct kvs) (.int k) v=if kvs.length<16777216 then some (.dct (fu kvs (.inl k) v)) else none:=rfl
noncomputable def lF:Val->List Val->Option (Val×Val):=λu vs=>match u,vs with
 |.lst xs,[.tup ys]=>if xs.length+ys.length<=16777216 then some (.lst (xs++ys),.non) else none
 |_,_=>none
noncomputable def iq:PMm:=⟨lF⟩
def pJ(xs ys:List Val):iq.G (.lst xs) [.tup ys]=if xs.length+ys.length<=16777216 then some (.lst (xs++ys),.non) else none:=rfl
section
variable{K:W.Frag}{mg:Qt}{P:Addr->Prop}{H:Hp}
def IK:c6 K mg rLrg jB.G:=λP H xs vs Q r0 p=>by
 replace p:BvP K mg P H Q (C0 vs):=p;unfold C0 at p;split at p
 .obtain⟨d,rfl,r⟩:=dq r0;obtain rfl:=r.int;split at p
  .rename_i hb;exact⟨_,rfl,hb.1,hb.2,bvL p (kO _)⟩
  .exact p.elim
 .exact p.elim
def J6:c6 K mg rTrg mZ.G:=λP H xs vs Q r0 p=>by
 replace p:BvP K mg P H Q (Dp vs):=p;unfold Dp at p;split at p
 .obtain⟨d,rfl,r⟩:=dq r0;obtain rfl:=r.int;split at p
  .rename_i hb;exact⟨_,rfl,hb.1,hb.2,bvT p (kO _)⟩
  .exact p.elim
 .exact p.elim
def Hf{f:List Int->Int}:c6 K mg (Dw f K) (tY f):=λP H xs vs Q r0 p=>by
 unfold tY at p;split at p
 .obtain⟨d,rfl,r⟩:=dq r0;obtain⟨a,ys,rfl,h,q⟩:=r.lstL;split at p
  .rename_i bs e;split at p
   .rename_i hb;exact⟨a,bs,rfl,rB q e ▸ h,hb,bv p (.int _)⟩
   .exact p.elim
  .exact p.elim
 .exact p.elim
def E8:c6 K mg (Dw mnI K) sI.G:=Hf
def HC:OpD K mg Ag CF.G:=λP H x y v u Q rx ry p=>by
 replace p:BvP K mg P H Q (Dm v u):=p;unfold Dm at p;split at p
 .obtain rfl:=rx.int;obtain⟨a,rfl,_,e⟩:=ry.set;exact⟨_,_,_,_,rfl,rfl,e,bv p (.bl _)⟩
 .exact p.elim
def GK:c6 K mg (λxs H Q=>∃a S n,xs=[.ref a]/\H a=some (.set S n)/\Q (.int (n:Nat)) H) tj.G:=λP H xs vs Q r0 p=>by
 replace p:BvP K mg P H Q (xa vs):=p;unfold xa at p;split at p
 .obtain⟨d,rfl,r⟩:=dq r0;obtain⟨a,rfl,_,e⟩:=r.set;exact⟨_,_,_,rfl,e,bv p (.int _)⟩
 .exact p.elim
def B0:xG K mg xM seI.G:=λP H n o u di vi d v u' Q np e hf r0 ri rd q k=>by
 replace q:sDI u vi v=some u':=q;unfold sDI at q;split at q
 .split at q
  .split at q
   .rename_i hl;cases q;obtain rfl:=ri.int;cases r0 with
    |dct rk=>exact⟨n,_,rfl,DPut.k (k:=.inl _) e (by rw[zO rk];exact hl),k _ trivial (.dct (zu rd rk))⟩
   .cases q
  .cases q
 .cases q
def yj:MmD K mg (rP K) iq.G:=λP H n o u ds vs u' v Q np e hf r0 rs q k=>by
 replace q:lF u vs=some (u',v):=q;unfold lF at q;split at q
 .split at q
  .rename_i hl;cases q;obtain⟨xs,rfl,r⟩:=mY r0;obtain⟨d,rfl,rd⟩:=Cz rs;obtain⟨b,ys,rfl,e2,q5⟩:=ShR.tup (.inl rd);exact⟨n,b,xs,ys,rfl,rfl,e,e2,by rw[r.len,q5.len];exact hl,k _ _ trivial (.lst (r.append q5)) .non⟩
  .cases q
 .cases q
variable{X:Cx}{ES:St->XK}{e o a b:Expr}{es:List Expr}{p q:PEx}{A:PAs}{pos cpos apos q1 q2 p0 p1 p2:Pos}
def Jg(hc:X.calm=true)(hl:Gl X "list")(hml:mg "list"=none)(hg:Gl X "range")(hm:mg "range"=none)(ha:DA K mg X ES [a] A)(hk:X.mg=mg:=by rfl)(hs:starEach [a] X.env=[(false,eval a X.env)]:=by rfl)
 (hs1:starEach [.Call (.Name "range" p2) [a] [] q2] X.env=[(false,eval (.Call (.Name "range" p2) [a] [] q2) X.env)]:=by rfl):
 DE K mg X ES (.Call (.Name "list" p1) [.Call (.Name "range" p2) [a] [] q2] [] pos) (pFn jB A):=by
 subst hk;exact⟨PE.imp (JS hc hl hml hg hm ha.ok hs hs1) (qZ IK)⟩
def Kb(hc:X.calm=true)(hl:Gl X "tuple")(hml:mg "tuple"=none)(hg:Gl X "range")(hm:mg "range"=none)(ha:DA K mg X ES [a] A)(hk:X.mg=mg:=by rfl)(hs:starEach [a] X.env=[(false,eval a X.env)]:=by rfl)
 (hs1:starEach [.Call (.Name "range" p2) [a] [] q2] X.env=[(false,eval (.Call (.Name "range" p2) [a] [] q2) X.env)]:=by rfl):
 DE K mg X ES (.Call (.Name "tuple" p1) [.Call (.Name "range" p2) [a] [] q2] [] pos) (pFn mZ A):=by
 subst hk;exact⟨PE.imp (JB hc hl hml hg hm ha.ok hs hs1) (qZ J6)⟩
def E9(hg:Gl X x)(hm:mg x=none)(hv:bootBuiltins x=some (.type "set"))(hk:X.mg=mg:=by rfl)(hn:x ≠ "__name__":=by decide)(hdb:(x==("__debug__" : Str))=false:=by decide):DE K mg X ES (.Call (.Name x p0) [] [] pos) yi:=by
 subst hk;exact⟨PE.imp (yb Ar hg hm hv hn hdb) λσ H Q zz=>zz.el λY N0 L ns e S hl p=>⟨rfl,λl hl'=>by
  have:=PG3.bv (b:=.new (.set [])) p S hl H l (.set (λi=>decide (i∈([]:List Int))) 0) .refl hl' trivial (.set [] List.nodup_nil)
  have e:(λ_:Int=>false)=λi:Int=>decide (i∈([]:List Int)):=by funext i;simp
  rw[e];exact this⟩⟩
def KC{xs:List Int}{i:Int}(nd:xs.Nodup):(gc xs i).Nodup/\HO.set (λk=>decide (k∈xs) || decide (k=i)) (if decide (i∈xs)=true then xs.length else xs.length+1)=.set (λk=>decide (k∈gc xs i)) (gc xs i).length:=by
 unfold gc;by_cases hi:i∈xs
 .rw[if_pos (E_ hi),if_pos hi];refine⟨nd,?_⟩;congr 1;funext k;by_cases hk:k∈xs
  .rw[E_ hk];rfl
  .rw[C_ hk,C_ (show ¬ k=i from λz=>hk (by rw[z];exact hi))];rfl
 .rw[if_neg (show ¬ decide (i∈xs)=true by rw[C_ hi];exact u_),if_neg hi];refine⟨O7.mpr ⟨hi,nd⟩,?_⟩;congr 1;funext k;rw[P8,OS,Ow,Ow,Ow,F_];exact Or.comm
def JC{j:Nat}(hK:X.K=K)(ho:DE K mg X ES o (af j))(ha:DA K mg X ES (e::es) A)
 (j':attributeBase o "add" X.env (eval o X.env)=eval o X.env:=by rfl)
 (hfew:((backTo cpos (starEach (e::es) X.env)).all (λx=>!x.1)&&(backToKw cpos (keywordEach [] X.env)).all (λx=>x.1.isSome)
  && decide ((e::es).length+([]:List Keyword).length+(if ([]:List Keyword).isEmpty then 0 else 1)<30))=true:=by rfl)
 (k_:(apos.endLine==cpos.line)=true:=by rfl) (hs:starEach (e::es) X.env=(false,eval e X.env)::starEach es X.env:=by rfl) (d_:(backTo cpos (starEach es X.env)).any (·.1)=false:=by rfl):
 DE K mg X ES (.Call (.Attribute o "add" apos) (e::es) [] cpos) (Bf j A):=by
 subst hK;exact
  ⟨PE.imp (wZ PySem.F.plainAttrs_set PySem.F.slot_set_add PySem.F.type_set_add zo ho.ok ha.ok j' hfew k_ hs d_) λσ H Q zz=>zz.el λY N0 L ns e S hl p=>⟨Y,N0,L,ns,e,S,hl,by
  replace p:PG3 X.K mg Y N0 ns e σ H (ES σ) (KE X.K mg Y N0 L σ Q) (ud j A.G e):=p;unfold ud at p;split at p
  .rename_i s0
    q0
   split at p
   .rename_i xs0 hz;obtain⟨u0,z1,z2⟩:=NH.mp hz;show PG3 X.K mg Y N0 ns e σ H (ES σ) _ (eW j e);rw[sE q0 z1];intro H1 ns1 a1 S1 ov ro;have ty:tyV X.K "set" ov H1:=by
     have rs:=S1.bor (i:=j) (v:=u0) ro (by rw[q0];cases s0 <;> first |exact z1 |cases z1);cases u0 with
     |set ys=>obtain⟨a,rfl,_,h⟩:=rs.set;exact .inr (.inr (.inr ⟨rfl,_,_,h⟩))
     |_=>cases z2
    refine⟨ty,Y,N0,ns1,e,S1,PG3.imp (p.after S a1) S1 λts e1 ns2 H2 a2 S2 p2 xs r2=>?_⟩;split at p2
    .rename_i e2 k q1;obtain⟨ns3,S3,a3,r3⟩:=gJ S2 r2 q1;split at p2
     .rename_i s2 q2;split at p2
      .rename_i ys q3;split at p2
       .rename_i a_;obtain⟨u,y1,y2⟩:=NH.mp q3;obtain⟨n,ob,k1,k0,k2,k3,k4,k5⟩:=S3.write q2 y1;have ro':σ[j]?=some (some ov):=ro;rw[k1] at ro';cases ro';obtain⟨d,rfl,rd⟩:=Cz r3;obtain rfl:=ShR.int (.inl rd);cases u with
        |
         set zs=>
         cases y2;cases k4 with
         |set _ nd=>obtain⟨i1,i2⟩:=KC (i:=k) nd;refine⟨n,k,_,_,rfl,rfl,k2,a_,?_⟩;rw[i2];obtain⟨mv,S4,a4⟩:=k5 (.set (λz=>decide (z∈gc ys k)) (gc ys k).length) (.set (gc ys k)) trivial (.set _ i1);exact p2 _ _ (a3.trans S2 a4) S4 _ .non
        |_=>cases y2
       .exact p2.elim
      .exact p2.elim
     .exact p2.elim
    .exact p2.elim
   .exact p.elim
  .exact p.elim⟩⟩
def Dx(hu:X.A.units+1<cLine)(ha:DE K mg X ES a p)(hb:DE K mg X ES b q)(hs:yk b):DE K mg X ES (.Subscript a b pos) (pOp xr p q):=⟨PE.imp (wa hu ha.ok hb.ok hs) λσ H Q zz=>zz.el λY N0 L ns e S hl p=>
 ⟨Y,
  N0,L,ns,e,S,hl,PG3.imp p S λt1 e1 ns1 H1 a1 S1 p1 x r1=>⟨Y,N0,L,ns1,e1,S1,λa z=>hl a (a1.dom a z),PG3.imp p1 S1 λt2 e2 ns2 H2 a2 S2 p2 y r2=>by
  try dsimp only at p2
  split at p2
  .rename_i v u q1 q2;replace p2:PG3 K mg Y N0 ns2 e2 σ H2 (ES σ) (KE K mg Y N0 L σ Q) ((rC v u).at e2):=p2;unfold rC at p2;split at p2
   .split at p2
    .split at p2
     .rename_i q3;obtain⟨a,ws,rfl,h,rk⟩:=((r1.drop a2).sh S2 q1).dct;obtain rfl:=(r2.sh S2 q2).int;obtain⟨d,q4,rd⟩:=DX rk q3;exact⟨a,d,rfl,q4 ▸ DGet.k (k:=.inl _) h,p2.ret S2 _ rd⟩
     .exact p2.elim
    .exact p2.elim
   .exact p2.elim
  .exact p2.elim⟩⟩⟩
end
open PySem PySem.Spec PyProof.Rows L2 PySem.W
noncomputable def adr (K:Frag) (x:Str):Addr:=match nsIn K mainGlobals x with
 |some (some (.ref a))=>a
 |_=>0
noncomputable def iL (K:Frag) (x:Str):Bool:=match nsIn K mainGlobals x with
 |some (some (.ref _))=>true
 |_=>false
noncomputable def sW (K:Frag) (x:Str):Bool:=match nsIn K mainGlobals x with
 |some none=>true
 |_=>false
noncomputable def xcB (K:Frag) (C:Addr):Bool:=(clsIn K C).isSome&&(findIn K (.ref C) "__getattribute__" == some (some (.builtin "BaseException.__getattribute__"))&&(findIn K (.ref C) "__getattr__" == some none&&(findIn K (.ref C) "__class__" == some (some (.builtin "object.__class__"))&&(specialIn K (.builtin "object.__class__") "__get__" == some (some (.builtin "getset_descriptor.__get__"))&&(takesIn K (.builtin "object.__class__")==some true&&(mroIn K C (.type "object")==some true&&mroIn K C (.type "BaseException")==some true))))))
noncomputable def hdB (K:Frag) (C:Addr):Bool:=typeIn K (.ref C)==some (.type "type")&&((clsIn K C).isSome&&mroIn K C (.type "BaseException")==some true)
noncomputable def clA (K:Frag):Cl->Value
 |.b n=>.type n
 |.o x=>.ref (adr K x)
noncomputable def Bo (K:Frag):Cl->Bool
 |.b _=>true
 |.o x=>iL K x
noncomputable def BV (K:Frag) (p:Cl×Cl×Bool):Bool:=kitOne K (clA K p.1) (clA K p.2.1)==some p.2.2&&(Bo K p.1&&Bo K p.2.1)
noncomputable def xkB (K:Frag):Cl->Bool
 |.b _=>true
 |.o x=>xcB K (adr K x)
noncomputable def yx:Val->Value->Bool
 |.int i,.int j _=>i==j
 |.str x,.str y _=>x==y
 |.non,.none=>true
 |.bl b,.bool c=>b==c
 |_,_=>false
noncomputable def dV:Val->V
 |.int i=>.int i
 |.str x=>.str x
 |.bl b=>.bl b
 |_=>.non
noncomputable def rj:List Val->List Value->Bool
 | [],[]=>true
 |d::ds,v::vs=>yx d v&&rj ds vs
 |_,_=>false
noncomputable def gcB (K:Frag) (x:Str):Val->Bool
 |.tup ds=>(match nsIn K mainGlobals x with
  |some (some (.ref a))=>(match K.lookup a with
   |some ⟨.type "tuple",_,.seq its _,_⟩=>decide (its.size<=1000)&&rj ds its.toList
   |_=>false)
  |_=>false)
 |d=>match nsIn K mainGlobals x with
  |some (some v)=>yx d v
  |_=>false
noncomputable def bFn:List String:=["abs", "all", "any", "isinstance", "len", "max", "min", "sorted", "sum"]
noncomputable def bTy:List String:=["bool", "dict", "int", "list", "set", "str", "tuple", "ValueError"]
noncomputable def bIt:List String:=["range", "zip", "enumerate"]
def HP:(bFn.all λn=>bootBuiltins (Str.ofString n)==some (.builtin n))=true:=by decide
def HW:(bTy.all λn=>bootBuiltins (Str.ofString n)==some (.type n))=true:=by decide
def boF{n:String}(h:bFn.contains n=true):bootBuiltins (Str.ofString n)=some (.builtin n):=NO.mp (NA.mp HP n (N2.mp h))
def boT{n:String}(h:bTy.contains n=true):bootBuiltins (Str.ofString n)=some (.type n):=NO.mp (NA.mp HW n (N2.mp h))
structure Tb where
 us:List Str
 rs:List Str
 hs:List (Str×List Str)
 kt:jF
 gs:List (Str×Val)
noncomputable def Tb.ok (b:Tb) (K:Frag):Bool:=(bFn++(bTy++bIt)).all (λn=>sW K (Str.ofString n))&&(b.us.all (iL K)&&(b.rs.all (λx=>excIn K (adr K x) og "ValueError.__new__" && iL K x)&&(b.hs.all (λp=>hdB K (adr K p.1)&&p.2.all λc=>mroIn K (adr K c) (.ref (adr K p.1))==some true&&iL K c)&&(b.kt.all (λp=>BV K p&&xkB K p.1)&&b.gs.all λp=>gcB K p.1 p.2))))
structure Tx(b:Tb)(K:Frag)(mg:Qt):Prop where
 n:∀{n:String},(bFn++(bTy++bIt)).contains n=true->mg (Str.ofString n)=none
 m:∀{x:Str},b.us.contains x=true->mg x=some (.ref (adr K x))
 x:∀{x:Str},b.rs.contains x=true->excIn K (adr K x) og "ValueError.__new__"=true
 h:∀{x:Str}{l:List Str},(x,l)∈b.hs->XHand K (adr K x)/\∀c∈l,∀Ce,mg c=some (.ref Ce)->mroIn K Ce (.ref (adr K x))=some true
 k:KitsOk K mg b.kt
 g:∀{x:Str}{d:Val},b.gs.lookup x=some d->GC K mg x d
section
variable{K:Frag}{h:Heap}{mg:Qt}{x:Str}(X:K.In h)(G:h.Ns mainGlobals mg)
include X G
def kH(e:iL K x=true):mg x=some (.ref (adr K x)):=by
 unfold iL at e;split at e
 .rename_i a q;unfold adr;rw[q];exact mg_of X G q
 .cases e
def xO(e:sW K x=true):mg x=none:=by
 unfold sW at e;split at e
 .rename_i q;exact mg_none_of X G q
 .cases e
omit X G in
def K5{C:Addr}(e:xcB K C=true):XCls K C:=by simp only[xcB,t_,NO] at e;obtain⟨e1,e2,e3,e4,e5,e6,e7,e8⟩:=e;exact⟨e1,e2,e3,e4,e5,e6,e7,e8⟩
def Ee{c:Cl}{v:Value}(e:Bo K c=true)(q:ClV mg c v):v=clA K c:=by
 cases c with
 |b n=>exact q
 |o y=>obtain⟨a,rfl,m⟩:=q;rw[kH X G (show iL K y=true from e)] at m;cases m;rfl
omit X G in
def AQ{d:Val}{v:Value}(e:yx d v=true):RelV (dV d) v/\∀P H,Rd K mg P H (dV d) d:=by
 unfold yx at e;split at e
 .cases NO.mp e;exact⟨⟨_,rfl⟩,λ_ _=>.int _⟩
 .cases NO.mp e;exact⟨⟨_,rfl⟩,λ_ _=>.str _⟩
 .exact⟨rfl,λ_ _=>.non⟩
 .cases NO.mp e;exact⟨rfl,λ_ _=>.bl _⟩
 .cases e
omit X G in
theorem ve:∀{ds:List Val}{vs:List Value},rj ds vs=true->Vals (ds.map dV) vs/\∀P H,Rds K mg P H (ds.map dV) ds
 | [],[],_=>⟨.nil,λ_ _=>.nil⟩
 |
  d::ds,v::vs,e=>by
  rw[rj,t_] at e;obtain⟨a1,a2⟩:=AQ (K:=K) (mg:=mg) e.1;obtain⟨b1,b2⟩:=ve e.2;exact⟨.cons a1 b1,λP H=>.cons (a2 P H) (b2 P H)⟩
 | [],_::_,e=>nomatch e
 |_::_,[],e=>nomatch e
def Lb{d:Val}(e:gcB K x d=true):GC K mg x d:=by
 unfold gcB at e;split at e
 .rename_i ds;split at e
  .rename_i a q;split at e
   .rename_i dd its n sl l;rw[t_] at e;obtain⟨v1,v2⟩:=ve (K:=K) (mg:=mg) e.2;exact⟨_,.ref a,mg_of X G q,rfl,λP H=>.tup (.inr ⟨_,its,n,l,rfl,rfl,NG (O0 e.1) (by decide),v1⟩) (v2 P H)⟩
   .cases e
  .cases e
 .split at e
  .rename_i v q;obtain⟨v1,v2⟩:=AQ (K:=K) (mg:=mg) e;exact⟨_,_,mg_of X G q,v1,v2⟩
  .cases e
omit X G in
theorem Am{d:Val}:∀{l:List (Str×Val)},l.lookup x=some d->(x,d)∈l
 | [],h=>nomatch h
 |
  (y,e)::l,h=>by
  rw[Ou] at h;split at h
  .rename_i q;cases h;rw[NO.mp q];exact s_
  .exact q_ _ (Am h)
def Mm{b:Tb}(e:b.ok K=true):Tx b K mg:=by
 unfold Tb.ok at e;simp only[t_] at e;obtain⟨e1,e2,e3,e4,e5,e6⟩:=e;simp only[NA,t_] at e1 e2 e3 e4 e5 e6;refine⟨λh=>xO X G (e1 _ (N2.mp h)),λh=>kH X G (e2 _ (N2.mp h)),λh=>(e3 _ (N2.mp h)).1,λh=>?_,⟨λp hp t v h1 h2=>?_,λp hp x C e' m=>?_⟩,λh=>Lb X G (e6 _ (Am h))⟩
 .obtain⟨a1,a2⟩:=e4 _ h;refine⟨?_,λc hc Ce m=>?_⟩
  .simp only[hdB,t_,NO] at a1;exact⟨a1.1,a1.2.1,a1.2.2⟩
  .obtain⟨b1,b2⟩:=a2 c hc;rw[kH X G b2] at m;cases m;exact NO.mp b1
 .obtain⟨a1,_⟩:=e5 p hp;simp only[BV,t_,NO] at a1;rw[Ee X G a1.2.1 h1,Ee X G a1.2.2 h2];exact a1.1
 .obtain⟨a1,a2⟩:=e5 p hp;simp only[BV,t_,NO] at a1;have a3:=a1.2.1;rw[e'] at a2 a3;rw[kH X G (show iL K x=true from a3)] at m;cases m;exact K5 a2
end
def dNm(s:Stmt):Str:=match s with
 |.FunctionDef n ..=>n
 |_=>""
def AllD(K:Frag)(mg:Qt)(top:Nat->Stmt):List Nat->Prop
 | []=>True
 |i::l=>Def K mg (dNm (top i)) (top i)/\AllD K mg top l
theorem AllD.get{K:Frag}{mg:Qt}{top:Nat->Stmt}:∀{l:List Nat},AllD K mg top l->∀i,l.contains i=true->Def K mg (dNm (top i)) (top i)
 | [],_,i,h=>nomatch h
 |
  j::l,⟨a,b⟩,i,h=>by
  rcases F_.mp (N2.mp h) with rfl |h
  .exact a
  .exact b.get i (N2.mpr h)
def _root_.L2.Def.gl{K:Frag}{mg:Qt}{x:Str}{st:Stmt}(D:Def K mg x st):∃a,mg x=some (.ref a):=let ⟨f,_,_,m⟩:=D.ex;⟨f,m⟩
def Tx.e{b:Tb}{K:Frag}{mg:Qt}{x:Str}(T:Tx b K mg)(h:b.us.contains x=true):∃a,mg x=some (.ref a):=⟨_,T.m h⟩
structure Ty(b:Tb)(top:Nat->Stmt)(ds:List Nat)(K:Frag)(mg:Qt):Prop extends Tx b K mg where
 d:AllD K mg top ds
noncomputable def scB (N P:List Str) (sc:Scope):Bool:=decide (sc.kind=.function)&&(!sc.isCoroutine&&(!sc.isGenerator&&(decide N.Nodup&&(decide (N.take P.length=P)&&(P.all (λx=>decide (sc.names.lookup x=some .local\/sc.names.lookup x=some .cell))&&sc.names.all λy=>decide (y.2 ≠ .free))))))
def aC{N P:List Str}{sc:Scope}(e:scB N P sc=true):FnScope N P sc:=by simp only[scB,t_,OC,NA,O_] at e;obtain⟨e1,e2,e3,e4,e5,e6,e7⟩:=e;exact⟨e1,e2,e3,e4,e5,e6,e7⟩
def Cd(K:Frag)(mg:Qt)(x:Str):Prop:=x∈mf/\(∀y∈mf,y≠x->mg y=none)/\∀f oc od fd sl,mg x=some (.ref f)->K.lookup f=some ⟨oc,od,.func fd,sl⟩->∃c P,fd.code=.ref c/\codeHdIn K c P=true
noncomputable def yB (K:Frag) (a:Addr):Option (Addr×Addr):=match K.lookup a with
 |some ⟨_,_,.func fd,_⟩=>(match fd.code with
  |.ref c=>(match K.lookup c with
   |some ⟨_,_,.fields vs,_⟩=>(match (vs[11]?:Option Value) with
    |some (.ref P)=>if codeHdIn K c P=true then some (c,P) else none
    |_=>none)
   |_=>none)
  |_=>none)
 |_=>none
noncomputable def lamB (K:Frag) (x:Str):Bool:=mf.contains x&&(mf.all (λy=>y==x || sW K y)&&(iL K x&&(yB K (adr K x)).isSome))
noncomputable def M4 (K:Frag) (ts:List Addr):Bool:=mf.all λx=>sW K x || (iL K x&&(match yB K (adr K x) with
 |some (_,P)=>ts.contains P
 |none=>false))
noncomputable def DN (K:Frag) (ts:List Addr):Bool:=ts.all λP=>(K.lookup P).isNone&&K.any λp=>codeHdIn K p.1 P
def wm{K:Frag}{a c P:Addr}(e:yB K a=some (c,P)):∃oc od fd sl,K.lookup a=some ⟨oc,od,.func fd,sl⟩/\fd.code=.ref c/\codeHdIn K c P=true:=by
 unfold yB at e;split at e
 .rename_i oc od fd sl h1;split at e
  .rename_i c' h2;split at e
   .split at e
    .split at e
     .rename_i h3;cases e;exact⟨_,_,fd,_,h1,h2,h3⟩
     .cases e
    .cases e
   .cases e
  .cases e
 .cases e
def Io{K:Frag}{c P P':Addr}(h:codeHdIn K c P=true)(h':codeHdIn K c P'=true):P=P':=by
 unfold codeHdIn at h h';split at h
 .rename_i vs hk;rw[hk] at h';simp only[t_] at h h';have a:=h.1.1.1.1.1;have b:=h'.1.1.1.1.1;split at a
  .rename_i x hx;rw[hx] at b;rw[NO] at a b;exact a.symm.trans b
  .cases a
 .cases h
section
variable{K:Frag}{h:Heap}{mg:Qt}(X:K.In h)(G:h.Ns mainGlobals mg)
include X G
def Jl{x:Str}(e:lamB K x=true):Cd K mg x:=by
 simp only[lamB,t_,NA,OS] at e;obtain⟨e1,e2,e3,e4⟩:=e;refine⟨N2.mp e1,λy hy hne=>?_,λf oc od fd sl m lk=>?_⟩
 .rcases e2 y hy with z |z
  .exact absurd (NO.mp z) hne
  .exact xO X G z
 .obtain⟨⟨c,P⟩,ec⟩:=Og.mp e4;obtain⟨oc',od',fd',sl',l1,l2,l3⟩:=wm ec;have m':=kH X G e3;rw[m] at m';cases m';rw[lk] at l1;cases l1;exact⟨c,P,l2,l3⟩
def Iy{ts:List Addr}(e:M4 K ts=true)(P:Addr)(q:Str)(l:LamT K mg P q):P∈ts:=by
 obtain⟨x,f,oc,od,fd,sl,c,a1,a2,a3,a4,a5,a6,_⟩:=l;have z:=NA.mp e x a1;rw[OS] at z;rcases z with z |z
 .have:=xO X G z
  rw[a3] at this;cases this
 .rw[t_] at z;obtain⟨z1,z2⟩:=z;have m':=kH X G z1;rw[a3] at m';cases m';split at z2
  .rename_i c' P' ec;obtain⟨oc',od',fd',sl',l1,l2,l3⟩:=wm ec;rw[a4] at l1;cases l1;rw[a5] at l2;cases l2;rw[Io a6 l3];exact N2.mp z2
  .cases z2
end
def FR{K:Frag}{ts:List Addr}{h:Heap}(e:DN K ts=true)(a:∀P∈ts,h.get? P=some (tabObj #[])):TabsOk K ts h:=by
 simp only[DN,NA,t_,List.any_eq_true] at e;refine⟨a,λP hP=>?_,λP hP=>?_⟩
 .have:=(e P hP).1
  rw[Option.isNone_iff_eq_none] at this;exact this
 .obtain⟨p,_,q⟩:=(e P hP).2;exact⟨p.1,q⟩
structure TyL(b:Tb)(top:Nat->Stmt)(ds:List Nat)(K:Frag)(mg:Qt):Prop extends Ty b top ds K mg where
 l:Cd K mg "by_falling_weights"
section
variable{K:W.Frag}{mg:Qt}{P:Program}{w:World}{base:Heap}{fx:Str}{e_:Stmt}{k m:Nat}{ps N:List Str}{ms:List Bool}{x:PSt}
def okPL(D:Def K mg fx e_)(L:Cd K mg fx)(S:FnScope N ps (au e_))
 (hb:∀(kV doc pm:Value) (an:Option Addr) (cdv ct:Value) (us:List Value),us.length=ps.length->bindArgs (W.fnOf fx fx (cI e_) (bq e_) (au e_) .none kV doc pm an cdv ct) ⟨us,[]⟩=pure (ps.zip us))
 (b_:N.Nodup->∀(f:Addr) (A:Around) (outer:List Env) (s:Shared) (H:Hp) (E:XK) (c T:Addr),codeHdIn K c T=true->LamT K mg T (fx ++ ".<locals>." ++ "<lambda>")->Room k (A.deeper (envOfC fx (au e_) s.heap.objs.size f (.ref c)))->
  DSs K mg (eE (CX1 P w) P w K mg base N fx (au e_) f (.ref c) A outer s H E) (λ_=>E) (bq e_) x) (hn:ms.length=ps.length:=by rfl) (hm:N.length=m:=by rfl):Callee P w K mg base fx (k+1) ps (sp3 K mg (fnP ms m x)):=by
 subst hm;obtain⟨f,fd,Ff,mm⟩:=D.ex;have bd:=Ff.binds hb;have kp:=Ff.kp;obtain⟨oc,od,kV,doc,pm,an,cdv,ct,osl,rfl,lk,j_⟩:=Ff.ex;obtain⟨c,T,e1,e2⟩:=L.2.2 f _ _ _ _ mm lk;have e1:cdv=.ref c:=e1;subst e1;have LT:LamT K mg T (fx ++ ".<locals>." ++ "<lambda>"):=⟨fx,f,oc,od,_,osl,c,L.1,L.2.1,mm,lk,rfl,e2,rfl⟩;exact⟨f,_,Et lk j_ S (λvs H Q E sp=>by rw[<- hn];exact nF sp) λA outer s H vs Q E hr sp=>⟨_,(b_ S.nd f A outer s H E c T e2 LT hr).ok,lL sp⟩,mm,kp,bd,oc,od,osl,lk⟩
end
noncomputable def jq:List Val->Bv:=λvs=>match vs with
 | [.int j,.lst us]=>match gq us with
  |some ws=>if j=(ws.length:Nat)/\ws.length<64 then .new (.lst ((aZ ws).map λi:Nat=>.int (i:Nat))) else .stuck
  |none=>.stuck
 |_=>.stuck
noncomputable def rR:PBf:=⟨jq⟩
def AM(ws:List Int)(h:ws.length<64):rR.G [.int (ws.length:Nat),.lst (ws.map .int)]=.new (.lst ((aZ ws).map λi:Nat=>.int (i:Nat))):=by show jq [.int (ws.length:Nat),.lst (ws.map .int)]=_;unfold jq;dsimp only;rw[bP];dsimp only;rw[if_pos ⟨rfl,h⟩]
section
variable{K:W.Frag}{mg:Qt}{Y N0:Addr->Prop}{ns:Ns}{e:E3}{σ:St}{H H2:Hp}{P:Addr}{q:Str}{ps:Array Value}{pos:Pos}
def Le(S:Sat K mg Y N0 ns e σ H)(g:xI H H2 P q ps pos)(hT:LamT K mg P q)(hP:H P=some (.tbl ps)):Sat K mg Y N0 ns e σ H2/\Stp ns e H ns e H2:=by
 rcases g with rfl |⟨c',hc,am,rfl⟩
 .exact⟨S,.refl⟩
 .have nPc:P≠c':=b8 hP hc;have at_:∀b,b≠P->b≠c'->upd (upd H P (.tbl (ps++#[rawInt pos.line,rawInt pos.col,.ref c']))) c' (.ext (gd c' q)) b=H b:=λb n1 n2=>by rw[aK n2,aK n1]
  have atP:upd (upd H P (.tbl (ps++#[rawInt pos.line,rawInt pos.col,.ref c']))) c' (.ext (gd c' q)) P=some (.tbl (ps++#[rawInt pos.line,rawInt pos.col,.ref c'])):=by rw[aK nPc,aO]
  have nc:∀b u,H b=some u->b≠c':=λb u e=>b8 e hc;have kp:∀b u,H b=some u->nO u->upd (upd H P (.tbl (ps++#[rawInt pos.line,rawInt pos.col,.ref c']))) c' (.ext (gd c' q)) b=some u:=λb u e n=>by rw[at_ b (λz=>by rw[z,hP] at e;cases e;exact n _ rfl) (nc b _ e)];exact e
  have l:LeH H (upd (upd H P (.tbl (ps++#[rawInt pos.line,rawInt pos.col,.ref c']))) c' (.ext (gd c' q))):=⟨λb xs e=>kp b _ e λ_ z=>(nomatch z),λb o u e=>kp b _ e λ_ z=>(nomatch z),λb φ e=>kp b _ e λ_ z=>(nomatch z)⟩;have dom:∀a,upd (upd H P (.tbl (ps++#[rawInt pos.line,rawInt pos.col,.ref c']))) c' (.ext (gd c' q)) a=none->H a=none:=λa z=>by
   by_cases z1:a=c'
   .subst z1;exact hc
   .by_cases z2:a=P
    .subst z2;rw[atP] at z;cases z
    .rw[at_ a z2 z1] at z;exact z
  have mv:Mov (Oc Y ns) (Oc Y ns) H (upd (upd H P (.tbl (ps++#[rawInt pos.line,rawInt pos.col,.ref c']))) c' (.ext (gd c' q))):=⟨l,λa o p e n=>⟨p,kp a o e n⟩⟩;refine⟨⟨S.l1,S.l2,λa z=>S.lh a (dom a z),λa z=>?_,S.inj,S.nx,λi s qi=>(S.sl i s qi).mono mv λj o _ e f=>kp j o e f.nt,λP' q' l'=>?_⟩,⟨l,dom,λm o e n _=>kp m o e n,λ_ _ q=>.inl q,λ_ _ q _=>⟨q,rfl⟩,λ_ _ q _=>⟨q,rfl⟩,λ_ _ q=>⟨_,q,rfl⟩,λ_ _ q=>⟨_,q,rfl⟩⟩⟩
  .obtain⟨o,z⟩:=S.xl a z;cases y:upd (upd H P (.tbl (ps++#[rawInt pos.line,rawInt pos.col,.ref c']))) c' (.ext (gd c' q)) a with
   |none=>rw[dom a y] at z;cases z
   |some u=>exact⟨u,rfl⟩
  .obtain⟨⟨ps',t2,t3,t4⟩,bm⟩:=S.bs P' q' l';refine⟨?_,D7 bm l⟩;have eq:=hT.one l';by_cases z:P'=P
   .subst z;rw[hP] at t2;cases t2;refine⟨_,atP,?_,λl_ cv e=>?_⟩
    .rw[Array.toList_append];exact TriplesOk_snoc _ _ _ _ t3
    .rw[Array.toList_append] at e;rcases yc _ t3 e with z |rfl
     .obtain⟨c,e1,e2⟩:=t4 l_ cv z;exact⟨c,e1,l.ext _ _ e2⟩
     .exact⟨c',rfl,by rw[aO,eq]⟩
   .exact⟨ps',by rw[at_ P' z (nc P' _ t2)];exact t2,t3,λl_ cv e=>by obtain⟨c,e1,e2⟩:=t4 l_ cv e;exact⟨c,e1,l.ext _ _ e2⟩⟩
variable{X:Cx}{ES:St->XK}{a:Expr}{p:PEx}{iW:Nat}{c:Addr}{q1 q2 q6 q7 q8 q9 p0 p1 p2 p3 p4 p5 p6:Pos}
def Fl(hc:X.calm=true)(hdp:X.A.depth<recursionLimit)(hl:Gl X "sorted")(hml:mg "sorted"=none)(hg:Gl X "range")(hm:mg "range"=none)(hN:X.N[iW]?=some "weights")(hv:X.env.scope.names.lookup ("weights" : Str)=some .cell)(j_:X.env.code=.ref c)(hh:W.codeHdIn K c P=true)(hT:LamT K mg P (X.env.qual ++ "<lambda>"))(ha:DE K mg X ES a p)(hK:X.K=K:=by rfl)(hk:X.mg=mg:=by rfl)(hs:starEach [a] X.env=[(false,eval a X.env)]:=by rfl):
 DE K mg X ES (.Call (.Name "sorted" q1) [.Call (.Name "range" q2) [a] [] q6] [⟨some "key",.Lambda (fC p0) (eQ p1 p2 p3 p4 p5 p6) bD q7,q8⟩] q9) (pFn rR (aa p (aa (af iW) ag))):=by
 subst hK hk;refine⟨PE.imp (EI hc hdp hl hml hg hm (bO ha sN hs).ok hN hv j_ hh hs) λσ H Q zz=>zz.el λY N0 L ns e S hL p3=>⟨Y,N0,ns,e,S,?_⟩⟩;replace p3:PG3 X.K X.mg Y N0 ns e σ H (ES σ) (KE X.K X.mg Y N0 L σ Q) ((mG p.G (mG (eW iW) oH) e).bind λts e1=>match rss e1 ts with
  |some vs=>(jq vs).at e1
  |none=>.stuck):=p3
 show PG3 X.K X.mg Y N0 ns e σ H (ES σ) _ (mG p.G oH e);unfold mG at p3 ⊢;cases q0:p.G e with
 |stuck=>rw[q0] at p3;exact p3.elim
 |exc c e'=>rw[q0] at p3;exact p3
 |
  ok t e1=>
  rw[q0] at p3;intro H1 ns1 a1 S1 vs rts;replace p3:PG3 X.K X.mg Y N0 ns e σ H (ES σ) (KE X.K X.mg Y N0 L σ Q) (((eW iW e1).bind λt2 e2=>.ok (t.drop::[t2.drop]) e2).bind λts e1=>match rss e1 ts with
   |some vs=>(jq vs).at e1
   |none=>.stuck):=by
   refine Eq.mp ?_ p3;congr 1;show (R3.bind (R3.bind (R3.bind (eW iW e1) _) _) _)=_;cases eW iW e1 <;> rfl
  have f_:∀t2,eW iW e1=.ok t2 e1->(∀v,rs e1 t2.drop=some v->∃d,σ[iW]?=some (some d)/\ShR X.K X.mg (Oc Y ns1) H1 d v)->yd X.K X.mg P (X.env.qual ++ "<lambda>") q7 σ[iW]? vs H1 Q:=λt2 e2 hd=>by
   rw[e2] at p3;replace p3:PG3 X.K X.mg Y N0 ns e σ H (ES σ) (KE X.K X.mg Y N0 L σ Q) (match rss e1 [t.drop,t2.drop] with
    |some vs=>(jq vs).at e1
    |none=>.stuck):=p3
   unfold rss at p3;split at p3
   .rename_i vs' hvs;split at hvs
    .rename_i v1 vr hv1 hvr;cases hvs;unfold rss at hvr;split at hvr
     .rename_i v2 vr2 hv2 hvr2;cases hvr;cases hvr2;obtain⟨d,sd,rd⟩:=hd v2 hv2;have r1:=TsR.sh (ts:=[t.drop]) (vs:=[v1]) S1 rts (by unfold rss;rw[hv1];rfl);obtain⟨x,rfl,rx⟩:=dq r1;unfold jq at p3;split at p3
      .rename_i j us he;cases he;split at p3
       .rename_i ws hws;split at p3
        .rename_i hb;obtain rfl:=rx.int;obtain⟨b,ds,rfl,h,qq⟩:=rd.lst;obtain rfl:=rB qq hws;obtain⟨⟨ps,t2,t3,t4⟩,bm⟩:=S1.bs P _ hT;refine⟨b,ws,ps,by rw[hb.1],sd,SqL.of h,hb.2,t2,t3,t4,bm,λH2 l g hl2=>?_⟩;obtain⟨S2,a2⟩:=Le S1 g hT t2;exact PG3.bv (b:=.new (.lst ((aZ ws).map λi:Nat=>.int (i:Nat)))) (p3.after S (a1.trans S a2)) S2 (λa z=>hL a (a1.dom a (a2.dom a z))) H2 l _ .refl hl2 trivial (.lst (kO _))
        .exact p3.elim
       .exact p3.elim
      .exact p3.elim
     .cases hvr
    .cases hvs
   .exact p3.elim
  unfold eW at p3;cases q1:e1[iW]? with
  |none=>rw[q1] at p3;exact p3.elim
  |
   some s=>
   have fb:∀u,s.val=some u->(∀v,s ≠ .sh v)->yd X.K X.mg P (X.env.qual ++ "<lambda>") q7 σ[iW]? vs H1 Q:=λu hu hn=>f_ (.bor iW) (by
    unfold eW;rw[q1];cases s <;> first |rfl |cases hu;done |exact absurd rfl (hn _)) λv hv=>by
    have y:=S1.sl iW s q1;have:∃x,σ[iW]?=some (some x):=by
     cases s with
     |no=>cases hu
     |sh v=>exact absurd rfl (hn v)
     |ow v=>obtain⟨m,_,_,y,_⟩:=y;exact⟨_,y⟩
     |lo v=>obtain⟨m,_,_,y,_⟩:=y;exact⟨_,y⟩
     |mu v=>obtain⟨m,_,_,y,_⟩:=y;exact⟨_,y⟩
     |lm v=>obtain⟨m,_,_,y,_⟩:=y;exact⟨_,y⟩
    obtain⟨x,hx⟩:=this;exact⟨x,hx,S1.bor hx hv⟩
   cases s with
   |no=>rw[q1] at p3;exact p3.elim
   |sh v=>exact f_ (.val v) (by unfold eW;rw[q1]) λu hu=>by cases hu;obtain⟨_,x,e1,r⟩:=S1.sl iW _ q1;exact⟨x,e1,.inl r⟩
   |ow v=>exact fb v rfl λ_ z=>nomatch z
   |lo v=>exact fb v rfl λ_ z=>nomatch z
   |mu v=>exact fb v rfl λ_ z=>nomatch z
   |lm v=>exact fb v rfl λ_ z=>nomatch z
end
def Ma{P:Program}{w:World}{K:W.Frag}{mg:Qt}{base:Heap}{x y:Str}{k:Nat}{ts:List Addr}(p:PFn)(C:Callee P w K mg base x k [y] (sp3 K mg p))(hT:∀P q,LamT K mg P q->P∈ts)(hm:p.ms=[false])(hG:∀ns:List Int,ns.length<=63->p.G [.kl (ns.map .int)]=.ok (.val (.bl true)) []):
 Callee P w K mg base x k [y] (spT K mg ts):=C.imp λvs H Q E ⟨a,ns,e,hO,hq,hl,ht,hB,q⟩=>by
 subst e;refine⟨λ_=>False,[none],[.kl (ns.map .int)],by rw[hm];rfl,?_,?_⟩
 .rw[hm];have rd:Rd K mg (Oc (λ_=>False) [none]) H (.ref a) (.kl (ns.map .int)):=by
   rcases hq with (hq |⟨o,hq⟩) |hq
   .rcases hO a with z |⟨o,xs,z⟩ |z <;> rw[hq] at z <;> cases z
   .exact .cell ⟨λz=>z,by simp⟩ hq (.fz (nV ns))
   .exact .kl hq (nV ns)
  refine⟨rfl,rfl,λ_ z=>z,λ_ z=>z.elim,λi j n q=>?_,λi n q z=>z,λi s q=>?_,λP q l=>⟨⟨#[],ht P (hT P q l),trivial,λpos cv z=>by cases z⟩,hB⟩⟩
  .cases i with
   |zero=>simp at q
   |succ i=>simp at q
  .cases i with
   |
    zero=>
    have:sl1 false (.kl (ns.map .int))=s:=by simpa [sls] using q
    subst this;exact⟨rfl,_,rfl,rd⟩
   |succ i=>simp [sls] at q
 .rw[hG ns hl];intro x H' _ rr;rw[ShR.bl (.inl rr.2)];exact q H'
def gh(k:Nat):(rgV k).length=k:=by unfold rgV;rw[o_,A_]
def eZ(xs:List Val)(n:Nat):hZ xs none (some (n:Int))=xs.take n:=by
 unfold hZ;rw[HT.sIx_none,HT.sIx_nat,Qk,Nat.sub_zero];by_cases h:n<=xs.length
 .rw[Nat.min_eq_left h]
 .rw[Nat.min_eq_right (by omega),N5 (r_ _),N5 (by omega)]
def fA(xs:List Val)(n:Nat):hZ xs (some (n:Int)) none=xs.drop n:=by
 unfold hZ;rw[HT.sIx_none,HT.sIx_nat];by_cases h:n<=xs.length
 .rw[Nat.min_eq_left h,N5 (by rw[O3];exact r_ _)]
 .rw[Nat.min_eq_right (by omega),O8 (r_ _),O8 (by omega),PX]
def eK(xs:List Val)(lo hi:Option Int):aSl (.lst xs) lo hi=.new (.lst (hZ xs lo hi)):=rfl
def KS(xs:List Val)(lo hi:Option Int):aSl (.kl xs) lo hi=.new (.lst (hZ xs lo hi)):=rfl
@[irreducible] def gtX(a:PGt):PGt:=a
def g_x(a:PGt)(v:Val)(e:E3):(gtX a).G v e=a.G v e:=by unfold gtX;rfl
def ZG.weak{K:W.Frag}{mg:Qt}{X:Cx}{e:PySem.Expr}{g:PGt}(h:DG K mg X e g):DG K mg X e (gtX g):=by unfold gtX;exact h
noncomputable def jR (lo:Int) (k:Nat):List Val:=(List.range k).map λi=>Val.int (lo-(i:Nat))
def yr:List Val->Option (List Val)
 | [.int i,.int j,.int k]=>@ite _ (k=-1/\RgB i/\RgB j) (Classical.propDecidable _) (some (jR i (i-j).toNat)) none
 |_=>none
def xW(a:PAs):PIt:=⟨9,Cf yr a.G⟩
theorem EG(a:PAs)(e:E3):(xW a).G e=(a.G e).bind λts e1=>match (rss e1 ts).bind yr with
 |some xs=>.ok (xs,none) e1
 |none=>.stuck:=rfl
def J2{i j:Int}(hi:RgB i)(hj:RgB j):yr [.int i,.int j,.int (-1)]=some (jR i (i-j).toNat):=if_pos ⟨rfl,hi,hj⟩
section
variable{K:W.Frag}{mg:Qt}{X:Cx}{ES:St->XK}{tg a b c:Expr}{q r:PEx}{p0 pos:Pos}{A:PAs}
def Mq{P:Addr->Prop}{H:Hp}{xs:List V}{u v w:Val}(r:ShRs K mg P H xs [u,v,w]):∃x y z,xs=[x,y,z]/\ShR K mg P H x u/\ShR K mg P H y v/\ShR K mg P H z w:=by cases r with |cons r rr=>cases rr with |cons r' rr=>cases rr with |cons r'' rr=>cases rr;exact⟨_,_,_,rfl,r,r',r''⟩
def zM(hg:Gl X "range")(hm:mg "range"=none)(ha:DA K mg X ES [a,b,c] A)(hk:X.mg=mg:=by rfl)(hs:starEach [a,b,c] X.env=[(false,eval a X.env),(false,eval b X.env),(false,eval c X.env)]:=by rfl)(hs2:starEach [b,c] X.env=[(false,eval b X.env),(false,eval c X.env)]:=by rfl):DI K mg X ES tg (.Call (.Name "range" p0) [a,b,c] [] pos) (xW A):=by
 subst hk;exact
  ⟨PI.imp (zV hg hm ha.ok hs hs2) λσ H R zz=>rdI.el zz λY N0 ns e S q=>⟨Y,N0,ns,e,S,PG3.imp q S λts e1 ns1 H1 a1 S1 p1 xs r1=>by
  try dsimp only at p1
  split at p1
  .rename_i us z;obtain⟨vs,z1,z2⟩:=NH.mp z;have rr:=r1.sh S1 z1;unfold yr at z2;split at z2
   .split at z2
    .rename_i hb;obtain⟨rfl,hb⟩:=hb;cases z2;obtain⟨x,y,z,rfl,r,r',r''⟩:=Mq rr;obtain rfl:=r.int;obtain rfl:=r'.int;obtain rfl:=r''.int;exact⟨_,_,rfl,⟨hb.1.lo,hb.1.hi,hb.2.lo,hb.2.hi⟩,p1.ret S1 _ (ItS.nums (λi H hi=>⟨hi,λx H' z=>z⟩) λH=>r_ _) λ_ z=>nomatch z⟩
    .cases z2
   .cases z2
  .exact p1.elim⟩⟩
end
def tTri(i j k:Nat)(ta:TA):TS:=λD σ H=>ta σ H λvs H1=>∃v w u,vs=[v,w,u]/\D.nx (((σ.set i (some v)).set j (some w)).set k (some u)) H1
def Hc{X:Cx}{a b c:Expr}{ta:TA}{i j k:Nat}{x y z:Str}{pos px py pz pt pt2:Pos}{kt k2}(hc:X.calm=true)(hN:X.N.Nodup)(hi:X.N[i]?=some x)(hj:X.N[j]?=some y)(hk:X.N[k]?=some z)(hij:i≠j)(hik:i≠k)(hjk:j≠k)
 (hx:X.env.scope.names.lookup x=some .local) (hy:X.env.scope.names.lookup y=some .local) (hz:X.env.scope.names.lookup z=some .local) (ha:PA X [a,b,c] ta)
 (hw:swappedStores [.Tuple [.Name x px,.Name y py,.Name z pz] kt pt] (.Tuple [a,b,c] k2 pt2) X.env=pure (some [x,y,z]))
 (hs:swapsWithSole [.Tuple [.Name x px,.Name y py,.Name z pz] kt pt] (.Tuple [a,b,c] k2 pt2) pos.line X.env=pure false):
 PS X (.Assign [.Tuple [.Name x px,.Name y py,.Name z pz] kt pt] (.Tuple [a,b,c] k2 pt2) pos) (tTri i j k ta):=by
 intro pins s σ H D I h;rw[exec_Assign_arm];refine n_ (O5 ?_);rw[hs];refine n_ (v_ ?_);rw[if_neg (by decide)];refine n_ (Tuple_ (thn (ha _ pins s σ H _ I h) λus s1 zz=>exA zz λvs H1 I1 r1 q1=>?_));obtain⟨v,w,u,e1,q1⟩:=q1;subst e1;obtain⟨u1,u2,u3,rfl,rv,rw',ru⟩:∃u1 u2 u3,us=[u1,u2,u3]/\RelV v u1/\RelV w u2/\RelV u u3:=by
  cases r1 with
  |
   cons p q=>
   cases q with
   |
    cons p' q'=>
    cases q' with
    |cons p'' q''=>cases q'';exact⟨_,_,_,rfl,p,p',p''⟩
 refine N6 ?_ (by show 3<=sizeLine;decide);have I2:Inv X pins σ H1 { s1 with heap:=s1.heap.push { cls:=.type "tuple",data:=.seq [u1,u2,u3].toArray } }:=I1.kept (t':=s1.toks) λb o e=>p_ _ e;rw[hw];refine n_ (v_ ?_);show wpAny (model X.prog X.w) X.A (do rule "assign.swapped-stores";let items <- unpackItems (.ref s1.heap.objs.size) 3 none;assignInOrder [λv=>bindName X.env z v,λv=>bindName X.env y v,λv=>bindName X.env x v] items.reverse;pure Flow.next) _ _ _;refine n_ (Qh (n_ (unpackItems_tuple (items:=#[u1,u2,u3]) (I.ok.hd hc) (IsTup.new s1.heap _) λh' hx'=>?_)));have I3:=I2.kept (h':=h') (t':=s1.toks) λb o e=>hx' b o (K_ (z_ e)) e;show wpAny _ _ (assignInOrder [λv=>bindName X.env z v,λv=>bindName X.env y v,λv=>bindName X.env x v] [u3,u2,u1] >>= λ_=>pure Flow.next) _ _ _;refine n_ (OQ (PL (dG I3 hN hk (.inl hz) ru (λs2 I4=>?_) (.inr hz))));refine OQ (PL (dG I4 hN hj (.inl hy) rw' (λs3 I5=>?_) (.inr hy)));refine OQ (PL (dG I5 hN hi (.inl hx) rv (λs4 I6=>assignInOrder_nil (v_ ?_)) (.inr hx)));have e1:((σ.set k (some u)).set j (some w)).set i (some v)=((σ.set i (some v)).set j (some w)).set k (some u):=by have a1:(σ.set k (some u)).set j (some w)=(σ.set j (some w)).set k (some u):=Pp _ _ (Ne.symm hjk);have a2:((σ.set j (some w)).set k (some u)).set i (some v)=((σ.set j (some w)).set i (some v)).set k (some u):=Pp _ _ (Ne.symm hik);have a3:(σ.set j (some w)).set i (some v)=(σ.set i (some v)).set j (some w):=Pp _ _ (Ne.symm hij);rw[a1,a2,a3]
 rw[e1] at I6;exact⟨_,H1,I6,q1⟩
noncomputable def rW (i j k:Nat) (A C:ME3) (e:E3):SR3:=match A e with
 |.ok (.val v1) e1=>match C e1 with
  |.ok (.val v2) e2=>match e2[i]?,e2[j]?,e2[k]? with
   |some s1,some s2,some s3=>if s1.pl=true/\s2.pl=true/\s3.pl=true then .nx (((e2.set i (.sh v1)).set j (.ow (.lst []))).set k (.sh v2)) else .stuck
   |_,_,_=>.stuck
  |.exc c e2=>.exc c e2
  |_=>.stuck
 |.exc c e1=>.exc c e1
 |_=>.stuck
noncomputable def xV (i j k:Nat) (a c:PEx):PSt:=⟨42,rW i j k a.G c.G⟩
def LA(i j k:Nat)(a c:PEx)(e:E3):(xV i j k a c).G e=rW i j k a.G c.G e:=rfl
section
variable{K:W.Frag}{mg:Qt}
def KN{i j k:Nat}{a c:PEx}{ES:St->XK}{De:Ends}{σ:St}{H:Hp}(hij:i≠j)(hik:i≠k)(hjk:j≠k)(zz:rdS K mg ES (xV i j k a c).G De σ H):
 tTri i j k (qJ (rdE K mg ES a.G) (qJ (tLst xq) (qJ (rdE K mg ES c.G) xq))) De σ H:=zz.el λY N0 ns e S p=>by
 have p:PS3 K mg Y N0 ns e H De ES (rW i j k a.G c.G e):=p;unfold rW at p;refine⟨Y,N0,λ_=>True,ns,e,S,λ_ _=>trivial,?_⟩;cases qa:a.G e with
 |stuck=>rw[qa] at p;exact p.elim
 |exc x e'=>rw[qa] at p;exact λH' ns' C a S' m=>p H' _ ns' C a S' m
 |
  ok t1 e1=>
  rw[qa] at p;intro H1 ns1 a1 S1 x rx;cases t1 with
  |new v=>exact p.elim
  |bor i=>exact p.elim
  |val v1=>
  have rx:Rd K mg (Oc Y ns1) H1 x v1:=rx;refine⟨by show 0<=sizeLine;decide,λq hq=>?_⟩;have S2:=S1.grow (Gr.upd (u:=.lst []) hq) hq aO;have a2:Stp ns1 e1 H1 ns1 e1 (upd H1 q (.lst [])):=.gr (Gr.upd hq);have nY:¬ Y q:=λz=>by obtain⟨o,w⟩:=S1.xl q z;rw[hq] at w;cases w
  refine⟨Xn Y q,N0,λ_=>True,ns1,e1,S2,λ_ _=>trivial,?_⟩;dsimp only at p;cases qc:c.G e1 with
  |stuck=>rw[qc] at p;exact p.elim
  |exc x e'=>rw[qc] at p;exact λH' ns' C a S' m=>p H' _ ns' C ((a1.trans S a2).trans S a) (S'.weak λn z=>.inl z) m
  |
   ok t2 e2=>
   rw[qc] at p;intro H2 ns2 a3 S3 z rz;cases t2 with
   |new v=>exact p.elim
   |bor i=>exact p.elim
   |val v2=>
   have rz:Rd K mg (Oc (Xn Y q) ns2) H2 z v2:=rz;dsimp only at p;split at p
   .rename_i s1 s2 s3 z1 z2 z3;split at p
    .rename_i hp;have hH2:H2 q=some (.lst []):=a3.keep q _ aO (λ_ z=>nomatch z) λ⟨i,s,y,_⟩=>S2.nx i q y (.inr rfl);refine⟨x,.ref q,z,rfl,?_⟩;have A3:=(a1.trans S a2).trans S a3;have hi:=(w_.mp z1).1;have hj:=(w_.mp z2).1;have hk:=(w_.mp z3).1;have rx4:Rd K mg (Oc (Xn Y q) (ns2.set i none)) H2 x v1:=by
      have m1:Mov (Oc Y ns1) (Oc (Xn Y q) ns1) H1 (upd H1 q (.lst [])):=⟨(Gr.upd hq).le,λm o pm qm _=>⟨⟨λy=>(by
       rcases y with y |rfl
       .exact pm.1 y
       .rw[hq] at qm;cases qm),pm.2⟩,Gr.upd hq m o qm⟩⟩
      exact ((rx.mono m1).mono a3.mov).mono (.of λn p=>dW p)
     have S5:=S3.putN hi (s:=.sh v1) (d:=some x) ⟨rfl,x,rfl,rx4⟩;have A5:=A3.put (x:=none) (s:=.sh v1) hi (λ_ z=>nomatch z) z1 hp.1 rfl S3.l2;have rz5:Rd K mg (Oc (Xn Y q) ((ns2.set i none).set k none)) H2 z v2:=(rz.mono (.of λn p=>dW p)).mono (.of λn p=>dW p);have hk5:k<(e2.set i (.sh v1)).length:=by rw[NF];exact hk
     have S6:=S5.putN hk5 (s:=.sh v2) (d:=some z) ⟨rfl,z,rfl,rz5⟩;have A6:=A5.put (x:=none) (s:=.sh v2) hk5 (λ_ z=>nomatch z) (by rw[b9 (Ne.symm hik)];exact z3) hp.2.2 rfl S5.l2;have hj6:j<((e2.set i (.sh v1)).set k (.sh v2)).length:=by rw[NF,NF];exact hj
     have S7:=S6.putO (v:=.lst []) nY hj6 (S1.lh q hq) hH2 trivial (.lst .nil);have A7:=A6.put (x:=some q) (s:=.ow (.lst [])) hj6 (λn z=>by cases z;exact a1.dom q hq) (by rw[b9 hjk,b9 (Ne.symm hij)];exact z2) hp.2.1 rfl S6.l2;have e3:(((e2.set i (.sh v1)).set k (.sh v2)).set j (.ow (.lst [])))=(((e2.set i (.sh v1)).set j (.ow (.lst []))).set k (.sh v2)):=Pp _ _ (Ne.symm hjk);have σ3:(((σ.set i (some x)).set k (some z)).set j (some (.ref q)))=(((σ.set i (some x)).set j (some (.ref q))).set k (some z)):=Pp _ _ (Ne.symm hjk);rw[e3,σ3] at S7;rw[e3] at A7;exact p _ _ _ A7 S7
    .exact p.elim
   .exact p.elim
end
section
variable{K:W.Frag}{mg:Qt}{X:Cx}{ES:St->XK}{a c:Expr}{p q:PEx}{i j k:Nat}{x y z:Str}{pos px py pz pt pl pt2:Pos}
def IZ{kt k2}(hN:X.N.Nodup)(ha:DE K mg X ES a p)(hc:DE K mg X ES c q)(hcalm:X.calm=true:=by rfl)(hi:X.N[i]?=some x:=by rfl)(hj:X.N[j]?=some y:=by rfl)(hk:X.N[k]?=some z:=by rfl)(hij:i≠j:=by decide)(hik:i≠k:=by decide)(hjk:j≠k:=by decide)(hx:X.env.scope.names.lookup x=some .local:=by rfl)(hy:X.env.scope.names.lookup y=some .local:=by rfl)(hz:X.env.scope.names.lookup z=some .local:=by rfl)
 (hw:swappedStores [.Tuple [.Name x px,.Name y py,.Name z pz] kt pt] (.Tuple [a,.List [] pl,c] k2 pt2) X.env=pure (some [x,y,z]):=by rfl) (hs:swapsWithSole [.Tuple [.Name x px,.Name y py,.Name z pz] kt pt] (.Tuple [a,.List [] pl,c] k2 pt2) pos.line X.env=pure false:=by rfl)
 (hs1:starEach [a,.List [] pl,c] X.env=(false,eval a X.env)::starEach [.List [] pl,c] X.env:=by rfl) (hs2:starEach [.List [] pl,c] X.env=(false,eval (.List [] pl) X.env)::starEach [c] X.env:=by rfl) (hs3:starEach [c] X.env=(false,eval c X.env)::starEach [] X.env:=by rfl):DS K mg X ES (.Assign [.Tuple [.Name x px,.Name y py,.Name z pz] kt pt] (.Tuple [a,.List [] pl,c] k2 pt2) pos) (xV i j k p q):=
 ⟨PS.imp (Hc hcalm hN hi hj hk hij hik hjk hx hy hz (kU ha.ok (kU (yN tf) (kU hc.ok tf hs3) hs2) hs1) hw hs) λDe σ H zz=>KN hij hik hjk zz⟩
end
section
variable{P:Program}{w:World}{K:W.Frag}{mg:Qt}{base:Heap}{fx:Str}{e_:Stmt}{k m:Nat}{pn N:List Str}{ms:List Bool}{x:PSt}
def okPU(D:Def K mg fx e_)(S:FnScope N pn (au e_))
 (hb:∀(kV doc pm:Value) (an:Option Addr) (cdv ct:Value) (us:List Value),us.length=pn.length->bindArgs (W.fnOf fx fx (cI e_) (bq e_) (au e_) .none kV doc pm an cdv ct) ⟨us,[]⟩=pure (pn.zip us))
 (b_:N.Nodup->∀(f:Addr) (cdv:Value) (A:Around) (outer:List Env) (s:Shared) (H:Hp) (E:XK),RoomU k (A.deeper (envOfC fx (au e_) s.heap.objs.size f cdv))->
  DSs K mg (jO (CX1 P w) P w K mg base N fx (au e_) f cdv A outer s H E) (λ_=>E) (bq e_) x) (hn:ms.length=pn.length:=by rfl) (hm:N.length=m:=by rfl):CalleeU P w K mg base fx (k+1) pn (sp3 K mg (fnP ms m x)):=by
 subst hm;exact D.okRU S hb (λvs H Q E sp=>by rw[<- hn];exact nF sp) λf cdv A outer s H vs Q E hr sp=>⟨_,(b_ S.nd f cdv A outer s H E hr).ok,lL sp⟩
end
section
variable{K:W.Frag}{mg:Qt}{X:Cx}{ES:St->XK}{e:Expr}{es:List Expr}{A:PAs}{pos:Pos}{k:Nat}{ps:List Str}
def o9{f:PFn}{x:Str}{p0:Pos}(C:CalleeU X.prog X.w X.K X.mg X.base x k ps (sp3 K mg f))(hr:RoomU k X.A)(hg:Gl X x)(hx:gH X ES)(ha:DA K mg X ES (e::es) A)
 (hdb:(x==("__debug__" : Str))=false:=by decide) (he:starEach (e::es) X.env=(false,eval e X.env)::starEach es X.env:=by rfl) (hpl:(backTo pos (starEach es X.env)).any (·.1)=false:=by rfl):
 DE K mg X ES (.Call (.Name x p0) (e::es) [] pos) (ak f A):=by
 obtain⟨fa,fd,F',m,kp,bb,_⟩:=C.ex;refine⟨λpins s σ H Q I hh=>NX (kG I hg m ?_ hdb)⟩;refine W.callWith_K (h₀:=X.base) I.ok.mod.kin kp (ND (ha.ok pos pins s σ H _ I (nR σ H Q hh)) (λus s1 zz=>exA zz λvs H1 I1 r q=>⟨I1.kIn,?_⟩) λ_ _ z=>z) he hpl;have hl:(us++[]).length=ps.length:=by rw[NP,<- r.length];exact F'.len _ _ _ _ q
 refine wpAny_call (PJ (F'.run X.A X.stack s1 H1 ⟨us,[]⟩ us vs Q (ES σ) hr I1.env0 (by simpa using bb s1 us I1.kIn hl) r q) λr s' hq=>?_);cases r with
 |error ex=>exact hx pins σ H1 s1 ex s' I1 hq
 |
  ok fl=>
  cases fl with
  |ret u=>exact I1.after hq
  |next=>exact False.elim hq
  |brk=>exact False.elim hq
  |cont=>exact False.elim hq
end
end L3
namespace Wb
open L2
noncomputable def lc (qs:List Rat) (c:Nat):Nat:=qs.foldl (λc q=>Nat.lcm c q.den) c
noncomputable def wh (L:Nat) (qs:List Rat):List Int:=qs.map λq=>q.num*((L/q.den:Nat):Int)
noncomputable def ws (qs:List Rat):List Int:=wh (lc qs 1) qs
end Wb
namespace L3
open PySem L2
noncomputable def cp (b:Bx):Rat:=if b.w<b.h then b.h/b.w else b.w/b.h
noncomputable def shL (s l:Rat) (W:Int):Int->List Int->List (Rat×Rat)
 |_,[]=>[]
 |a,w::ws=>(s+l*((a:Rat)/(W:Rat)),l*((w:Rat)/(W:Rat)))::shL s l W (a+w) ws
theorem jm(s l:Rat)(W:Int):∀(ws:List Int) (a:Int),(shL s l W a ws).length=ws.length
 | [],_=>rfl
 |w::ws,a=>by unfold shL;rw[D_,D_,jm s l W ws (a+w)]
noncomputable def ba (b:Bx) (way:Str) (ws:List Int):List Bx:=if way="across" then (shL b.l b.w ws.sum 0 ws).map λp=>⟨p.1,b.t,p.2,b.h⟩ else (shL b.t b.h ws.sum 0 ws).map λp=>⟨b.l,p.1,b.w,p.2⟩
theorem ff:∀{l:List Int},(∀w∈l,1<=w)->(l.length:Int)<=l.sum
 | [],_=>by simp
 |
  x::l,h=>by
  rw[NN,D_]
  have:=h x (s_ ..)
  have:=ff (l:=l) λw hw=>h w (q_ _ hw)
  omega
theorem vh:∀(ws:List Int) (a:Int),0<=a->(∀w∈ws,1<=w)->a+ws.sum<=W->p∈shL s l W a ws->∃a' w:Int,0<=a'/\a'<=W/\1<=w/\w<=W/\p=(s+l*((a':Rat)/(W:Rat)),l*((w:Rat)/(W:Rat)))
 | [],_,_,_,_,h=>nomatch h
 |
  w::ws,a,ha,hw,hs,h=>by
  have h1:=hw w (s_ ..);have h2:=ff (l:=ws) λx hx=>hw x (q_ _ hx);rw[NN] at hs;unfold shL at h;rcases F_.mp h with rfl |h
  .exact⟨a,w,ha,by omega,h1,by omega,rfl⟩
  .exact vh ws (a+w) (by omega) (λx hx=>hw x (q_ _ hx)) (by omega) h
noncomputable def liV (l:List Int):Val:=.lst (l.map .int)
noncomputable def wsAt (ws:List Int) (i:Int):Int:=ws.getD i.toNat 0
noncomputable def wt (ws l:List Int):Int:=(l.map (wsAt ws)).sum
noncomputable def mx (x y:Rat):Rat:=if x<y then y else x
open PySem PySem.Spec PyProof.Rows L2
inductive AT where
 |lf (k:Nat)
 |nd (w:Bool) (ts:List AT)
noncomputable def wy (w:Bool):Str:=if w=true then "across" else "down"
def AT.ind{P:AT->Prop}(h1:∀k,P (.lf k))(h2:∀w ts,(∀t∈ts,P t)->P (.nd w ts))(t:AT):P t:=
 @AT.rec P (λts=>∀t∈ts,P t) h1 (λw ts ih=>h2 w ts ih) (λt h=>nomatch h) (λt ts i1 i2 u hu=>by
  rcases F_.mp hu with rfl |hu
  .exact i1
  .exact i2 u hu) t
mutual
def AT.val(f:Nat->Val):AT->Val
 |.lf k=>f k
 |.nd w ts=>.tup [.str (wy w),.tup (AT.vals f ts)]
def AT.vals(f:Nat->Val):List AT->List Val
 | []=>[]
 |t::ts=>AT.val f t::AT.vals f ts
end
mutual
def AT.lvs:AT->List Nat
 |.lf k=>[k]
 |.nd _ ts=>AT.lvsL ts
def AT.lvsL:List AT->List Nat
 | []=>[]
 |t::ts=>AT.lvs t++AT.lvsL ts
end
mutual
def AT.dep:AT->Nat
 |.lf _=>1
 |.nd _ ts=>AT.depL ts+1
def AT.depL:List AT->Nat
 | []=>0
 |t::ts=>max (AT.dep t) (AT.depL ts)
end
mutual
def AT.ok:AT->Bool
 |.lf _=>true
 |.nd _ ts=>decide (2<=ts.length)&&AT.okL ts
def AT.okL:List AT->Bool
 | []=>true
 |t::ts=>AT.ok t&&AT.okL ts
end
theorem AT.vals_map(f:Nat->Val):∀ts,AT.vals f ts=ts.map (AT.val f)
 | []=>rfl
 |t::ts=>by rw[AT.vals,AT.vals_map f ts];rfl
theorem AT.lvsL_mem:∀{ts:List AT},x∈AT.lvsL ts ↔ ∃t∈ts,x∈t.lvs
 | []=>by simp [AT.lvsL]
 |t::ts=>by rw[AT.lvsL,Oz,AT.lvsL_mem (ts:=ts)];simp
theorem AT.lvsL_flat:∀ts:List AT,AT.lvsL ts=(ts.map AT.lvs).flatten
 | []=>rfl
 |t::ts=>by rw[AT.lvsL,AT.lvsL_flat ts];rfl
theorem AT.depL_le:∀{ts:List AT},AT.depL ts<=m ↔ ∀t∈ts,t.dep<=m
 | []=>by simp [AT.depL]
 |t::ts=>by rw[AT.depL,Nat.max_le,AT.depL_le (ts:=ts)];simp
theorem AT.okL_mem:∀{ts:List AT},AT.okL ts=true ↔ ∀t∈ts,t.ok=true
 | []=>by simp [AT.okL]
 |t::ts=>by rw[AT.okL,t_,AT.okL_mem (ts:=ts)];simp
noncomputable def wd (w b:Bool):Str:=if w=true then (if b=true then "left" else "right") else (if b=true then "above" else "below")
def wD{t:AT}(h:t.ok=true):1<=t.lvs.length:=by
 induction t using AT.ind with
 |h1 k=>simp [AT.lvs]
 |
  h2 w ts ih=>
  rw[AT.ok,t_] at h;cases ts with
  |nil=>exact absurd h.1 (by decide)
  |
   cons t ts=>
   have:=ih t (s_ ..) (AT.okL_mem.mp h.2 t (s_ ..))
   rw[AT.lvs,AT.lvsL,G_];omega
theorem sT{α β:Type}{f:α->List β}:∀{l:List α},(∀a∈l,1<=(f a).length)->l.length<=((l.map f).flatten).length
 | [],_=>r_ _
 |
  a::l,h=>by
  have h1:=h a (s_ ..);have h2:=sT (l:=l) λb hb=>h b (q_ _ hb);rw[y_,Om,G_,D_];omega
noncomputable def lfV:Val->Bool
 |.int _=>true
 |.str _=>true
 |_=>false
def xx(v:Val)(l:List Val):atI (v::l) 0=some v:=aM (by decide) rfl
noncomputable def inB (x:Nat) (t:AT):Bool:=decide (x∈t.lvs)
noncomputable def itV (l:List Nat):Val:=.lst (l.map λk:Nat=>.int k)
structure TOk(t:AT)(l:List Nat):Prop where
 ok:t.ok=true
 mem:∀k,k∈t.lvs ↔ k∈l
 dep:t.dep<=l.length
 len:t.lvs.length=l.length
noncomputable def atV (t:AT):Val:=t.val λk=>.int (k:Nat)
mutual
def AT.cnt:AT->Nat
 |.lf _=>1
 |.nd _ ts=>AT.cntL ts+1
def AT.cntL:List AT->Nat
 | []=>0
 |t::ts=>AT.cnt t+AT.cntL ts
end
theorem AT.cntL_app:∀(a b:List AT),AT.cntL (a++b)=AT.cntL a+AT.cntL b
 | [],b=>by simp [AT.cntL]
 |t::a,b=>by rw[P0,AT.cntL,AT.cntL,AT.cntL_app a b];omega
theorem AT.lvsL_app:∀(a b:List AT),AT.lvsL (a++b)=AT.lvsL a++AT.lvsL b
 | [],b=>by simp [AT.lvsL]
 |t::a,b=>by rw[P0,AT.lvsL,AT.lvsL,AT.lvsL_app a b,Pc]
def mR(xs:List Val)(x:Val):qP.G (.lst (xs++[x])) []=some (.lst xs,x):=by show tF (.lst (xs++[x])) []=_;unfold tF;dsimp only;rw[G_,P7,Nat.add_sub_cancel,OZ (r_ _),Nat.sub_self,List.dropLast_concat];rfl
theorem AT.cnt_le:∀{ts:List AT}{t:AT},t∈ts->t.cnt<=AT.cntL ts
 | [],t,h=>nomatch h
 |
  u::ts,t,h=>by
  rw[AT.cntL];rcases F_.mp h with rfl |h
  .omega
  .have:=AT.cnt_le h;omega
def AT.lvs_le(h:t∈ts):t.lvs.length<=(AT.lvsL ts).length:=by rw[AT.lvsL_flat];exact List.Sublist.length_le (List.sublist_flatten_of_mem (List.mem_map_of_mem (f:=AT.lvs) h))
noncomputable def wtA (ws:List Int) (l:List Nat):Int:=(l.map λk=>ws.getD k 0).sum
noncomputable def wtT (ws:List Int) (t:AT):Int:=wtA ws t.lvs
mutual
def AT.bx(ws:List Int):AT->Bx->List (Nat×Bx)
 |.lf k,b=>[(k,b)]
 |.nd w ts,b=>AT.bxL ws ts (ba b (wy w) (ts.map (wtT ws)))
def AT.bxL(ws:List Int):List AT->List Bx->List (Nat×Bx)
 |t::ts,b::bs=>AT.bx ws t b++AT.bxL ws ts bs
 |_,_=>[]
end
mutual
def AT.lay(ws:List Int)(n m:Nat):AT->Bx->Prop
 |.lf _,b=>b.Ok/\b.Sz n
 |.nd w ts,b=>b.Ok/\b.Sz n/\ts≠[]/\ts.length<=40/\(∀t∈ts,1<=wtT ws t)/\Sm m (ts.map (wtT ws)).sum/\AT.layL ws n m ts (ba b (wy w) (ts.map (wtT ws)))
def AT.layL(ws:List Int)(n m:Nat):List AT->List Bx->Prop
 |t::ts,b::bs=>AT.lay ws n m t b/\AT.layL ws n m ts bs
 |_,_=>True
end
noncomputable def da (kvs:List (Key×Val)) (l:List (Nat×Bx)):List (Key×Val):=l.foldl (λkvs p=>fu kvs (.inl (p.1:Nat)) (bV p.2)) kvs
def BJ(kvs:List (Key×Val))(a b:List (Nat×Bx)):da kvs (a++b)=da (da kvs a) b:=by unfold da;rw[List.foldl_append]
def Bg(h:a.Perm b):wtA ws a=wtA ws b:=by
 unfold wtA;induction h with
 |nil=>rfl
 |cons x _ ih=>rw[y_,y_,NN,NN,ih]
 |swap x y l=>simp only[y_,NN];omega
 |trans _ _ h1 h2=>rw[h1,h2]
theorem ug(ws:List Int):∀ts:List AT,wtA ws (AT.lvsL ts)=(ts.map (wtT ws)).sum
 | []=>rfl
 |
  t::ts=>by
  rw[AT.lvsL,y_,NN,<- ug ws ts];unfold wtT wtA;rw[NT,Py]
def Cw(kvs:List (Key×Val))(k:Key)(v:Val):(fu kvs k v).length<=kvs.length+1:=by
 unfold fu;split
 .rw[o_];omega
 .rw[G_];exact r_ _
theorem sO:∀(l:List (Nat×Bx)) (kvs:List (Key×Val)),(da kvs l).length<=kvs.length+l.length
 | [],kvs=>r_ _
 |
  p::l,kvs=>by
  have h1:=Cw kvs (.inl (p.1:Nat)) (bV p.2);have h2:=sO l (fu kvs (.inl (p.1:Nat)) (bV p.2));unfold da at h2 ⊢;rw[Pu,D_];omega
def AT.bx_fst(ws:List Int)(t:AT):∀b,(AT.bx ws t b).length<=t.lvs.length/\∀p∈AT.bx ws t b,p.1∈t.lvs:=by
 induction t using AT.ind with
 |h1 k=>intro b;simp [AT.bx,AT.lvs]
 |
  h2 w ts ih=>
  intro b;rw[AT.bx,AT.lvs];generalize ba b (wy w) (ts.map (wtT ws))=bs;induction ts generalizing bs with
  |nil=>simp [AT.bxL]
  |
   cons t ts ih2=>
   cases bs with
   |nil=>simp [AT.bxL]
   |
    cons b bs=>
    obtain⟨h1,h2⟩:=ih t (s_ ..) b;obtain⟨h3,h4⟩:=ih2 (λu hu=>ih u (q_ _ hu)) bs;rw[AT.bxL,AT.lvsL,G_,G_];refine⟨by omega,λp hp=>?_⟩;rcases Oz.mp hp with hp |hp
    .exact Pg _ (h2 p hp)
    .exact NI _ (h4 p hp)
def zI(kvs:List (Key×Val))(k k':Key)(v:Val):lkD (fu kvs k v) k'=if k=k' then some v else lkD kvs k':=by
 unfold fu;induction kvs with
 |
  nil=>
  rw[if_neg (by simp)];unfold lkD;by_cases h:k=k'
  .simp [h]
  .simp [h]
 |
  cons p kvs ih=>
  obtain⟨pk,pv⟩:=p;by_cases hp:pk=k
  .subst
    hp
   rw[if_pos (by simp)];by_cases h:pk=k'
   .subst h;simp [lkD]
   .rw[if_neg h];rw[if_neg h] at ih;simp only[y_,OW];unfold lkD;simp only[N8,C_ h];by_cases ha:(kvs.any λkv=>decide (kv.1=pk))=true
    .rw[if_pos ha] at ih;unfold lkD at ih;exact ih
    .have:(kvs.map λkv=>if kv.1=pk then (kv.1,v) else kv)=kvs:=by
      conv=>rhs;rw[<- List.map_id kvs]
      refine List.map_congr_left λq hq=>?_;rw[if_neg]
      .rfl
      .intro z;exact ha (List.any_eq_true.mpr ⟨q,hq,E_ z⟩)
     rw[this]
  .by_cases ha:(kvs.any λkv=>decide (kv.1=k))=true
   .rw[if_pos ha] at ih;rw[if_pos (by rw[Oi,ha,Bool.or_true])];simp only[y_,if_neg hp];by_cases h:pk=k'
    .subst h;rw[if_neg (λz=>hp z.symm)];simp [lkD]
    .unfold lkD at ih ⊢;simp only[N8,C_ h];exact ih
   .rw[if_neg ha] at ih;rw[if_neg (by rw[Oi,C_ hp,Bool.false_or];exact ha)];rw[P0];by_cases h:pk=k'
    .subst h;rw[if_neg (λz=>hp z.symm)];simp [lkD]
    .unfold lkD at ih ⊢;simp only[N8,C_ h];exact ih
noncomputable def bxO (l:List (Nat×Bx)) (k:Nat):Bx:=((l.find? λp=>p.1==k).map (·.2)).getD ⟨0,0,0,0⟩
theorem vT:∀(l:List (Nat×Bx)) (kvs:List (Key×Val)),(l.map (·.1)).Nodup->(k∈l.map (·.1)->lkD (da kvs l) (.inl (k:Nat))=some (bV (bxO l k)))/\(k∉l.map (·.1)->lkD (da kvs l) (.inl (k:Nat))=lkD kvs (.inl (k:Nat)))
 | [],kvs,_=>⟨(λh=>nomatch h),λ_=>rfl⟩
 |
  p::l,kvs,nd=>by
  rw[y_,O7] at nd;obtain⟨h1,h2⟩:=vT (k:=k) l (fu kvs (.inl (p.1:Nat)) (bV p.2)) nd.2;have e:da kvs (p::l)=da (fu kvs (.inl (p.1:Nat)) (bV p.2)) l:=rfl;rw[e];by_cases hp:p.1=k
  .have hk:k∉l.map (·.1):=hp ▸ nd.1;rw[h2 hk,zI,if_pos (by rw[hp])];refine⟨λ_=>?_,λz=>absurd (by rw[y_,hp];exact s_ ..) z⟩;unfold bxO;rw[N8];simp [hp]
  .have hk:k∈(p::l).map (·.1) ↔ k∈l.map (·.1):=by rw[y_,F_];exact⟨λz=>z.resolve_left (λy=>hp y.symm),.inr⟩
   have hb:bxO (p::l) k=bxO l k:=by unfold bxO;rw[PR (by simpa using hp)]
   rw[hk,hb];refine⟨h1,λz=>?_⟩;rw[h2 z,zI,if_neg];intro y;injection y with y;exact hp (Int.ofNat.inj y)
def yO(b:Bx)(way:Str)(ws:List Int):(ba b way ws).length=ws.length:=by unfold ba;split <;> rw[o_,jm]
def AT.bx_keys(ws:List Int)(t:AT):∀b,(AT.bx ws t b).map (·.1)=t.lvs:=by
 induction t using AT.ind with
 |h1 k=>intro b;rw[AT.bx,AT.lvs];rfl
 |
  h2 w ts ih=>
  intro b;rw[AT.bx,AT.lvs];have hl:(ba b (wy w) (ts.map (wtT ws))).length=ts.length:=by rw[yO,o_]
  generalize ba b (wy w) (ts.map (wtT ws))=bs at *;induction ts generalizing bs with
  |nil=>cases bs <;> rfl
  |
   cons t ts ih2=>
   cases bs with
   |nil=>exact nomatch hl
   |cons b bs=>rw[AT.bxL,AT.lvsL,NT,ih t (s_ ..) b,ih2 (λu hu=>ih u (q_ _ hu)) bs (by simpa using hl)]
def AT.cnt_lvs(t:AT)(h:t.ok=true):t.cnt+1<=2*t.lvs.length:=by
 induction t using AT.ind with
 |h1 k=>simp [AT.cnt,AT.lvs]
 |
  h2 w ts ih=>
  rw[AT.ok,t_] at h;have hk:=AT.okL_mem.mp h.2;have h2:2<=ts.length:=O0 h.1;rw[AT.cnt,AT.lvs];have:∀ts:List AT,(∀t∈ts,t.cnt+1<=2*t.lvs.length)->AT.cntL ts+ts.length<=2*(AT.lvsL ts).length:=by
   intro ts;induction ts with
   |nil=>intro _;simp [AT.cntL,AT.lvsL]
   |cons t ts ih=>intro h;have h1:=h t (s_ ..);have h2:=ih λu hu=>h u (q_ _ hu);rw[AT.cntL,AT.lvsL,G_,D_];omega
  have:=this ts λt ht=>ih t ht (hk t ht)
  omega
structure Rp(D A B:Nat)(b:Bx):Prop where
 pos:0<D
 l:∃z:Int,b.l=(z:Rat)/((D:Int):Rat)/\z.natAbs<=A*D
 t:∃z:Int,b.t=(z:Rat)/((D:Int):Rat)/\z.natAbs<=A*D
 w:∃z:Int,b.w=(z:Rat)/((D:Int):Rat)/\0<z/\z<=B*D
 h:∃z:Int,b.h=(z:Rat)/((D:Int):Rat)/\0<z/\z<=B*D
def L9(x y a D W:Rat)(h1:D≠0)(h2:W≠0):x/D+(y/D)*(a/W)=(x*W+y*a)/(D*W):=by grind
def MH(y a D W:Rat)(h1:D≠0)(h2:W≠0):(y/D)*(a/W)=(y*a)/(D*W):=by grind
def Nc(y D W:Rat)(h1:D≠0)(h2:W≠0):y/D=(y*W)/(D*W):=by grind
def kQ{z:Int}(h:z≠0):(z:Rat)≠0:=λe=>h (Rat.intCast_inj.mp e)
def Eb{x y a W:Int}{D A B:Nat}(hD:0<D)(hx:x.natAbs<=A*D)(hy:0<y/\y<=B*D)(ha:0<=a/\a<=W)(hW:0<W):∃z:Int,(x:Rat)/((D:Int):Rat)+((y:Rat)/((D:Int):Rat))*((a:Rat)/(W:Rat))=(z:Rat)/(((D*W.toNat:Nat):Int):Rat)/\z.natAbs<=(A+B)*(D*W.toNat):=by
 obtain⟨V,rfl⟩:∃V:Nat,W=V:=⟨W.toNat,by omega⟩;refine⟨x*V+y*a,?_,?_⟩
 .rw[L9 _ _ _ _ _ (kQ (by omega)) (kQ (by omega))];congr 1
  .rw[Rat.intCast_add,N9,N9]
  .rw[NS,OT,N9]
 .rw[NS];have h1:(x*(V:Int)).natAbs<=A*D*V:=by rw[Oe];exact NY hx (r_ _)
  have h2:(y*a).natAbs<=B*D*V:=by
   rw[Oe];refine NY ?_ (by omega)
   have:=hy.2
   omega
  have h3:=Int.natAbs_add_le (x*V) (y*a);rw[Nat.add_mul,<- PY,<- PY];omega
def EC{y a W:Int}{D B:Nat}(hD:0<D)(hy:0<y/\y<=B*D)(ha:1<=a/\a<=W):∃z:Int,((y:Rat)/((D:Int):Rat))*((a:Rat)/(W:Rat))=(z:Rat)/(((D*W.toNat:Nat):Int):Rat)/\0<z/\z<=((B:Nat):Int)*((D*W.toNat:Nat):Int):=by
 obtain⟨V,rfl⟩:∃V:Nat,W=V:=⟨W.toNat,by omega⟩;refine⟨y*a,?_,Int.mul_pos hy.1 (by omega),?_⟩
 .rw[MH _ _ _ _ (kQ (by omega)) (kQ (by omega))];congr 1
  .rw[N9]
  .rw[NS,OT,N9]
 .rw[NS,OT,<- Oh];exact Int.mul_le_mul hy.2 ha.2 (by omega) (Int.le_trans (Int.le_of_lt hy.1) hy.2)
def nu{y W:Int}{D:Nat}(hD:0<D)(hW:0<W):(y:Rat)/((D:Int):Rat)=((y*W:Int):Rat)/(((D*W.toNat:Nat):Int):Rat):=by obtain⟨V,rfl⟩:∃V:Nat,W=V:=⟨W.toNat,by omega⟩;rw[Nc _ _ _ (kQ (show ((D:Nat):Int)≠0 by omega)) (kQ (show ((V:Nat):Int)≠0 by omega)),N9,NS,OT,N9]
def zr{z W:Int}{D A B:Nat}(hz:z.natAbs<=A*D)(hW:0<W):(z*W).natAbs<=(A+B)*(D*W.toNat):=by rw[Oe,<- PY];refine NY ?_ (by omega);rw[Nat.add_mul];omega
def zU{z W:Int}{D B:Nat}(hz:0<z/\z<=B*D)(hW:0<W):0<z*W/\z*W<=((B:Nat):Int)*((D*W.toNat:Nat):Int):=by refine⟨Int.mul_pos hz.1 hW,?_⟩;rw[OT,<- Oh,Int.toNat_of_nonneg (by omega)];exact Int.mul_le_mul_of_nonneg_right hz.2 (by omega)
def Rp.parts{D A B:Nat}{b b':Bx}{way:Str}{ws:List Int}(r:Rp D A B b)(hw:∀w∈ws,1<=w)(h:b'∈ba b way ws):Rp (D*ws.sum.toNat) (A+B) B b':=by
 obtain⟨pos,⟨zl,el,bl⟩,⟨zt,et,bt⟩,⟨zw,ew,bw⟩,⟨zh,eh,bh⟩⟩:=r;have key:∀p:Rat×Rat,∀s l:Rat,p∈shL s l ws.sum 0 ws->0<ws.sum/\∃a' w:Int,0<=a'/\a'<=ws.sum/\1<=w/\w<=ws.sum/\p=(s+l*((a':Rat)/(ws.sum:Rat)),l*((w:Rat)/(ws.sum:Rat))):=λp s l hp=>by obtain⟨a',w,h1,h2,h3,h4,h5⟩:=vh ws 0 (by omega) hw (by omega) hp;exact⟨by omega,a',w,h1,h2,h3,h4,h5⟩
 unfold ba at h;split at h
 .obtain⟨p,hp,rfl⟩:=NQ.mp h;obtain⟨hS,a',w,h1,h2,h3,h4,rfl⟩:=key p _ _ hp;have hV:0<D*ws.sum.toNat:=Oy pos (by omega);refine⟨hV,?_,⟨zt*ws.sum,by show b.t=_;rw[et];exact nu pos hS,zr bt hS⟩,?_,⟨zh*ws.sum,by show b.h=_;rw[eh];exact nu pos hS,zU bh hS⟩⟩
  .show ∃z:Int,b.l+b.w*_=_/\_;rw[el,ew];exact Eb pos bl bw ⟨h1,h2⟩ hS
  .show ∃z:Int,b.w*_=_/\_;rw[ew];exact EC pos bw ⟨h3,h4⟩
 .obtain⟨p,hp,rfl⟩:=NQ.mp h;obtain⟨hS,a',w,h1,h2,h3,h4,rfl⟩:=key p _ _ hp;have hV:0<D*ws.sum.toNat:=Oy pos (by omega);refine⟨hV,⟨zl*ws.sum,by show b.l=_;rw[el];exact nu pos hS,zr bl hS⟩,?_,⟨zw*ws.sum,by show b.w=_;rw[ew];exact nu pos hS,zU bw hS⟩,?_⟩
  .show ∃z:Int,b.t+b.h*_=_/\_;rw[et,eh];exact Eb pos bt bh ⟨h1,h2⟩ hS
  .show ∃z:Int,b.h*_=_/\_;rw[eh];exact EC pos bh ⟨h3,h4⟩
def Rp.ok{D A B:Nat}{b:Bx}(r:Rp D A B b):b.Ok:=by obtain⟨pos,_,_,⟨zw,ew,bw⟩,⟨zh,eh,bh⟩⟩:=r;exact⟨by rw[ew];exact me bw.1 (by omega),by rw[eh];exact me bh.1 (by omega)⟩
def Rp.sz{D A B n:Nat}{b:Bx}(r:Rp D A B b)(hA:A*D<2^n)(hB:B*D<2^n)(hD:D<2^n):b.Sz n:=by
 obtain⟨pos,⟨zl,el,bl⟩,⟨zt,et,bt⟩,⟨zw,ew,bw⟩,⟨zh,eh,bh⟩⟩:=r;have sD:Sm n ((D:Nat):Int):=by show ((D:Nat):Int).natAbs<2^n;omega
 have k:∀z:Int,z.natAbs<2^n->Sz n ((z:Rat)/((D:Int):Rat)):=λz hz=>Sz.div (by omega) hz sD n (r_ _) (r_ _);have hb:∀z:Int,0<z/\z<=B*D->z.natAbs<2^n:=λz hz=>by
  have h1:z<=((B*D:Nat):Int):=by rw[OT];exact hz.2
  omega
 exact⟨by rw[el];exact k zl (by omega),by rw[et];exact k zt (by omega),by rw[ew];exact k zw (hb zw bw),by rw[eh];exact k zh (hb zh bh)⟩
theorem oW{ws:List Int}:∀{l:List Nat},(∀k∈l,1<=ws.getD k 0)->(l.length:Int)<=wtA ws l
 | [],_=>by simp [wtA]
 |
  k::l,h=>by
  have h1:=h k (s_ ..);have h2:=oW (l:=l) λj hj=>h j (q_ _ hj);unfold wtA at h2 ⊢;rw[y_,NN,D_];omega
theorem wB{ws:List Int}{n m:Nat}:∀{ts:List AT}{bs:List Bx},(∀t∈ts,∀b∈bs,AT.lay ws n m t b)->AT.layL ws n m ts bs
 | [],_,_=>by rw[AT.layL];trivial;intro t ts b bs z;cases z
 |t::ts,[],_=>by rw[AT.layL];trivial;intro t ts b bs _ z;cases z
 |
  t::ts,b::bs,h=>by
  rw[AT.layL];exact⟨h t (s_ ..) b (s_ ..),wB λu hu c hc=>h u (q_ _ hu) c (q_ _ hc)⟩
def Rp.fine{n m B D A d:Nat}{b:Bx}(r:Rp D A B b)(hBA:B<=A)(hA:1<=A)(hq:(A+d*B)*(D*2^(m*d))<2^n):b.Ok/\b.Sz n:=by have hD1:1<=2^(m*d):=Nat.one_le_two_pow;have z1:A*D<=(A+d*B)*(D*2^(m*d)):=NY (by omega) (Nat.le_mul_of_pos_right _ hD1);have z2:D<=A*D:=Nat.le_mul_of_pos_left _ hA;have z3:B*D<=A*D:=OB _ hBA;exact⟨r.ok,r.sz (by omega) (by omega) (by omega)⟩
def Jx{ws:List Int}{n m B:Nat}(t:AT):∀(b:Bx) (D A:Nat),Rp D A B b->B<=A->1<=A->(A+t.dep*B)*(D*2^(m*t.dep))<2^n->t.ok=true->(∀k∈t.lvs,1<=ws.getD k 0)->wtT ws t<2^m->t.lvs.length<=40->AT.lay ws n m t b:=by
 induction t using AT.ind with
 |h1 k=>intro b D A r hBA hA hn _ _ _ _;rw[AT.lay];exact r.fine hBA hA hn
 |
  h2 w ts ih=>
  intro b D A r hBA hA hn ho hw hm hl;have ho':=ho;rw[AT.ok,t_] at ho';have h2:2<=ts.length:=O0 ho'.1;have hk:=AT.okL_mem.mp ho'.2;rw[AT.lvs] at hw hl;have hws:∀t∈ts,∀k∈t.lvs,1<=ws.getD k 0:=λt ht k hk'=>hw k (AT.lvsL_mem.mpr ⟨t,ht,hk'⟩);have hone:∀t∈ts,1<=wtT ws t:=λt ht=>by have h1:=wD (hk t ht);have h2:=oW (hws t ht);unfold wtT;omega
  have hsum:wtT ws (.nd w ts)=(ts.map (wtT ws)).sum:=by unfold wtT;rw[AT.lvs];exact ug ws ts
  rw[hsum] at hm;have hpos:0<=(ts.map (wtT ws)).sum:=by
   rw[<- ug]
   have:=oW hw
   omega
  rw[AT.dep] at hn;generalize hq:AT.depL ts=q at *;have fn:=r.fine hBA hA hn;have tl:ts.length<=40:=by rw[AT.lvsL_flat] at hl;have:ts.length<=((ts.map AT.lvs).flatten).length:=sT λt ht=>wD (hk t ht);omega
  rw[AT.lay];refine⟨fn.1,fn.2,λz=>by rw[z] at h2;simp at h2,tl,hone,by
   show (ts.map (wtT ws)).sum.natAbs<2^m;have:(((ts.map (wtT ws)).sum.natAbs:Nat):Int)<((2^m:Nat):Int):=by
    rw[Int.natAbs_of_nonneg hpos]
    push_cast
    exact hm
   omega,wB λt ht c hc=>?_⟩
  have rp:=r.parts (λx hx=>by obtain⟨u,hu,rfl⟩:=NQ.mp hx;exact hone u hu) hc;have hdt:t.dep<=q:=by rw[<- hq];exact AT.depL_le.mp (r_ _) t ht
  have hS:(ts.map (wtT ws)).sum.toNat<=2^m:=by
   have:(((ts.map (wtT ws)).sum.toNat:Nat):Int)<((2^m:Nat):Int):=by
    rw[Int.toNat_of_nonneg hpos]
    push_cast
    exact hm
   omega
  refine ih t ht c _ (A+B) rp (by omega) (by omega) ?_ (hk t ht) (hws t ht) ?_ (by have:=AT.lvs_le ht;omega)
  .refine OP (NY ?_ ?_) hn
   .have:t.dep*B<=q*B:=OB _ hdt;rw[Nat.add_mul,Nat.one_mul];omega
   .rw[PY];refine Oo _ ?_;have e:2^(m*(q+1))=2^m*2^(m*q):=by rw[<- OM];congr 1;rw[Nat.mul_add,Nat.mul_one,Nat.add_comm]
    rw[e];exact NY hS (Oa (by decide) (Oo _ hdt))
  .refine Int.lt_of_le_of_lt ?_ hm;have aux:∀us:List AT,(∀u∈us,0<=wtT ws u)->t∈us->wtT ws t<=(us.map (wtT ws)).sum:=by
    intro us;induction us with
    |nil=>intro _ h;exact nomatch h
    |
     cons u us ih=>
     intro h0 hm;have nn:∀us:List AT,(∀u∈us,0<=wtT ws u)->0<=(us.map (wtT ws)).sum:=by
      intro us;induction us with
      |nil=>intro _;simp
      |cons v us ih=>intro h;rw[y_,NN];have:=h v (s_ ..);have:=ih λu hu=>h u (q_ _ hu);omega
     rw[y_,NN];rcases F_.mp hm with rfl |hm
     .have:=nn us λu hu=>h0 u (q_ _ hu)
      omega
     .have h1:=ih (λu hu=>h0 u (q_ _ hu)) hm;have h2:=h0 u (s_ ..);omega
   exact aux ts (λu hu=>by have:=hone u hu;omega) ht
def KH{ws:List Int}{n m:Nat}(t:AT):∀b:Bx,AT.lay ws n m t b->∀p∈AT.bx ws t b,p.2.Ok/\p.2.Sz n:=by
 induction t using AT.ind with
 |h1 k=>intro b h p hp;rw[AT.bx] at hp;rw[NJ.mp hp];rw[AT.lay] at h;exact h
 |
  h2 w ts ih=>
  intro b h p hp;rw[AT.bx] at hp;rw[AT.lay] at h;replace h:=h.2.2.2.2.2.2;generalize ba b (wy w) (ts.map (wtT ws))=bs at *;induction ts generalizing bs with
  |nil=>rw[AT.bxL] at hp;exact nomatch hp;intro _ _ _ _ z;cases z
  |
   cons t ts ih2=>
   cases bs with
   |nil=>rw[AT.bxL] at hp;exact nomatch hp;intro _ _ _ _ _ z;cases z
   |
    cons c cs=>
    rw[AT.bxL] at hp;rw[AT.layL] at h;rcases Oz.mp hp with hp |hp
    .exact ih t (s_ ..) c h.1 p hp
    .exact ih2 (λu hu=>ih u (q_ _ hu)) cs hp h.2
noncomputable def cu (b:Bx) (w:Bool) (W a x:Int):Bx:=if w=true then ⟨b.l+b.w*((a:Rat)/(W:Rat)),b.t,b.w*((x:Rat)/(W:Rat)),b.h⟩ else ⟨b.l,b.t+b.h*((a:Rat)/(W:Rat)),b.w,b.h*((x:Rat)/(W:Rat))⟩
noncomputable def frm (b:Bx) (w:Bool) (W:Int):Int->List Int->List Bx
 |_,[]=>[]
 |a,x::xs=>cu b w W a x::frm b w W (a+x) xs
theorem wO(b:Bx)(w:Bool)(W:Int):∀(xs:List Int) (a:Int),(frm b w W a xs).length=xs.length
 | [],_=>rfl
 |x::xs,a=>by rw[frm,D_,D_,wO b w W xs]
def pO(b:Bx)(w:Bool)(xs:List Int):ba b (wy w) xs=frm b w xs.sum 0 xs:=by
 have key:∀(W:Int) (xs:List Int) (a:Int),(if wy w="across" then (shL b.l b.w W a xs).map λp=>(⟨p.1,b.t,p.2,b.h⟩:Bx) else (shL b.t b.h W a xs).map λp=>⟨b.l,p.1,b.w,p.2⟩)=frm b w W a xs:=by
  intro W xs;induction xs with
  |nil=>intro a;unfold shL frm;split <;> rfl
  |
   cons x xs ih=>
   intro a;rw[frm,<- ih,shL,shL];unfold cu;cases w with
   |true=>rw[if_pos (show wy true="across" from rfl),if_pos (show wy true="across" from rfl),if_pos rfl];rfl
   |
    false=>
    have hn:¬ (wy false="across"):=by decide
    rw[if_neg hn,if_neg hn,if_neg (by decide)];rfl
 exact key xs.sum xs 0
def AS(ws:List Int):((aZ ws).map λk=>ws.getD k 0).Pairwise (· >= ·):=by rw[List.pairwise_map];refine List.Pairwise.imp (λ{i j} h=>?_) (c9 ws).up;unfold bJ kyF at h;rw[Ow] at h;show ws.getD j 0<=ws.getD i 0;have h:-(ws.getD i 0) < -(ws.getD j 0)\/(-(ws.getD i 0)=-(ws.getD j 0)/\((i:Nat):Int)<(j:Nat)):=h;omega
noncomputable def thN (xs:List Int):Nat->Nat->Nat
 |0,k=>k
 |f+1,k=>if 3*(xs.take k).sum<xs.sum then thN xs f (k+1) else k
noncomputable def jt (xs:List Int):Nat:=thN xs (xs.length-1) 1
theorem zJ(xs:List Int):∀f k,k<=thN xs f k
 |0,k=>r_ _
 |
  f+1,k=>by
  rw[thN];split
  .have:=zJ xs f (k+1);omega
  .exact r_ _
theorem yI(xs:List Int){m:Nat}(hm:¬ 3*(xs.take m).sum<xs.sum):∀f k,k<=m->thN xs f k<=m
 |0,k,h=>h
 |
  f+1,k,h=>by
  rw[thN];split
  .rename_i z;refine yI xs hm f (k+1) ?_;by_cases e:k=m
   .rw[e] at z;exact absurd z hm
   .omega
  .exact h
def CS{xs:List Int}(h2:2<=xs.length)(hp:∀x∈xs,1<=x)(hd:xs.Pairwise (· >= ·)):1<=jt xs/\jt xs<xs.length:=by
 have key:¬ 3*(xs.take (xs.length-1)).sum<xs.sum:=by
  have e:xs.sum=(xs.take (xs.length-1)).sum+(xs.drop (xs.length-1)).sum:=by rw[<- Py,Ov]
  have d1:xs.drop (xs.length-1)=[xs[xs.length-1]]:=by rw[Pt (by omega),List.drop_eq_nil_of_le (by omega)]
  obtain⟨y,ys,ey⟩:∃y ys,xs.take (xs.length-1)=y::ys:=by
   cases z:xs.take (xs.length-1) with
   |
    nil=>
    have:=NR List.length z
    rw[N4,NC] at this;omega
   |cons y ys=>exact⟨y,ys,rfl⟩
  have hy:y=xs[0]:=by
   have z:(xs.take (xs.length-1))[0]?=some y:=by rw[ey];rfl
   rw[List.getElem?_take_of_lt (by omega),B_ (by omega)] at z;exact (H_ z).symm
  have hge:xs[0] >= xs[xs.length-1]:=Ox.mp hd 0 (xs.length-1) (by omega) (by omega) (by omega);have hz:=hp xs[xs.length-1] (OK _);have hs:0<=ys.sum:=by
   have:=ff (l:=ys) λx hx=>hp x (OA (i:=xs.length-1) (by rw[ey];exact q_ _ hx))
   omega
  rw[e,d1,ey,NN,NN,List.sum_nil];generalize xs[0]=x0 at *;generalize xs[xs.length-1]=xl at *;omega
 refine⟨zJ xs _ 1,?_⟩
 have:=yI xs key (xs.length-1) 1 (by omega)
 unfold jt;omega
end L3
namespace KK
open PySem PySem.Spec PyProof.Rows L2 L3
def top(i:Nat):Stmt:=PySem.Challenge.pw_weightrooms_k62_lists_refused.main.body.getD i (.Pass ⟨0,0,0,0⟩)
noncomputable def ar:jF:=[((.o "NoFraction"),(.o "NoBox"),false),((.o "NoBox"),(.o "NoBox"),true),((.o "NoWay"),(.o "NoBox"),false),((.o "NoWeights"),(.o "NoBox"),false),((.o "TooMany"),(.o "NoBox"),false),((.o "NoTree"),(.o "NoBox"),false),((.o "NoRule"),(.o "NoBox"),false),((.o "NoFraction"),(.o "NoCut"),false),((.o "NoBox"),(.o "NoCut"),false),((.o "NoWay"),(.o "NoCut"),false),((.o "NoWeights"),(.o "NoCut"),false),((.o "TooMany"),(.o "NoCut"),false),((.o "NoTree"),(.o "NoCut"),false),((.o "NoRule"),(.o "NoCut"),false),((.o "NoFraction"),(.o "NoFraction"),true),((.o "NoBox"),(.o "NoFraction"),false),((.o "NoWay"),(.o "NoFraction"),false),((.o "NoWeights"),(.o "NoFraction"),false),((.o "TooMany"),(.o "NoFraction"),false),((.o "NoTree"),(.o "NoFraction"),false),((.o "NoRule"),(.o "NoFraction"),false),((.o "NoFraction"),(.o "NoKind"),false),((.o "NoBox"),(.o "NoKind"),false),((.o "NoWay"),(.o "NoKind"),false),((.o "NoWeights"),(.o "NoKind"),false),((.o "TooMany"),(.o "NoKind"),false),((.o "NoTree"),(.o "NoKind"),false),((.o "NoRule"),(.o "NoKind"),false),((.o "NoFraction"),(.o "NoName"),false),((.o "NoBox"),(.o "NoName"),false),((.o "NoWay"),(.o "NoName"),false),((.o "NoWeights"),(.o "NoName"),false),((.o "TooMany"),(.o "NoName"),false),((.o "NoTree"),(.o "NoName"),false),((.o "NoRule"),(.o "NoName"),false),((.o "NoFraction"),(.o "NoRow"),false),((.o "NoBox"),(.o "NoRow"),false),((.o "NoWay"),(.o "NoRow"),false),((.o "NoWeights"),(.o "NoRow"),false),((.o "TooMany"),(.o "NoRow"),false),((.o "NoTree"),(.o "NoRow"),false),((.o "NoRule"),(.o "NoRow"),false),((.o "NoFraction"),(.o "NoRule"),false),((.o "NoBox"),(.o "NoRule"),false),((.o "NoWay"),(.o "NoRule"),false),((.o "NoWeights"),(.o "NoRule"),false),((.o "TooMany"),(.o "NoRule"),false),((.o "NoTree"),(.o "NoRule"),false),((.o "NoRule"),(.o "NoRule"),true),((.o "NoFraction"),(.o "NoText"),false),((.o "NoBox"),(.o "NoText"),false),((.o "NoWay"),(.o "NoText"),false),((.o "NoWeights"),(.o "NoText"),false),((.o "TooMany"),(.o "NoText"),false),((.o "NoTree"),(.o "NoText"),false),((.o "NoRule"),(.o "NoText"),false),((.o "NoFraction"),(.o "NoThing"),false),((.o "NoBox"),(.o "NoThing"),false),((.o "NoWay"),(.o "NoThing"),false),((.o "NoWeights"),(.o "NoThing"),false),((.o "TooMany"),(.o "NoThing"),false),((.o "NoTree"),(.o "NoThing"),false),((.o "NoRule"),(.o "NoThing"),false),((.o "NoFraction"),(.o "NoTree"),false),((.o "NoBox"),(.o "NoTree"),false),((.o "NoWay"),(.o "NoTree"),false),((.o "NoWeights"),(.o "NoTree"),false),((.o "TooMany"),(.o "NoTree"),false),((.o "NoTree"),(.o "NoTree"),true),((.o "NoRule"),(.o "NoTree"),false),((.o "NoFraction"),(.o "NoWay"),false),((.o "NoBox"),(.o "NoWay"),false),((.o "NoWay"),(.o "NoWay"),true),((.o "NoWeights"),(.o "NoWay"),false),((.o "TooMany"),(.o "NoWay"),false),((.o "NoTree"),(.o "NoWay"),false),((.o "NoRule"),(.o "NoWay"),false),((.o "NoFraction"),(.o "NoWeights"),false),((.o "NoBox"),(.o "NoWeights"),false),((.o "NoWay"),(.o "NoWeights"),false),((.o "NoWeights"),(.o "NoWeights"),true),((.o "TooMany"),(.o "NoWeights"),false),((.o "NoTree"),(.o "NoWeights"),false),((.o "NoRule"),(.o "NoWeights"),false),((.o "NoFraction"),(.o "Taken"),false),((.o "NoBox"),(.o "Taken"),false),((.o "NoWay"),(.o "Taken"),false),((.o "NoWeights"),(.o "Taken"),false),((.o "TooMany"),(.o "Taken"),false),((.o "NoTree"),(.o "Taken"),false),((.o "NoRule"),(.o "Taken"),false),((.o "NoFraction"),(.o "TooMany"),false),((.o "NoBox"),(.o "TooMany"),false),((.o "NoWay"),(.o "TooMany"),false),((.o "NoWeights"),(.o "TooMany"),false),((.o "TooMany"),(.o "TooMany"),true),((.o "NoTree"),(.o "TooMany"),false),((.o "NoRule"),(.o "TooMany"),false),((.o "NoFraction"),(.o "Unknown"),false),((.o "NoBox"),(.o "Unknown"),false),((.o "NoWay"),(.o "Unknown"),false),((.o "NoWeights"),(.o "Unknown"),false),((.o "TooMany"),(.o "Unknown"),false),((.o "NoTree"),(.o "Unknown"),false),((.o "NoRule"),(.o "Unknown"),false),((.o "NoFraction"),(.b "ValueError"),true),((.o "NoBox"),(.b "ValueError"),true),((.o "NoWay"),(.b "ValueError"),true),((.o "NoWeights"),(.b "ValueError"),true),((.o "TooMany"),(.b "ValueError"),true),((.o "NoTree"),(.b "ValueError"),true),((.o "NoRule"),(.b "ValueError"),true),((.b "NoneType"),(.b "bool"),false),((.b "bool"),(.b "bool"),true),((.b "int"),(.b "bool"),false),((.b "str"),(.b "bool"),false),((.b "tuple"),(.b "bool"),false),((.b "list"),(.b "bool"),false),((.b "dict"),(.b "bool"),false),((.b "NoneType"),(.b "int"),false),((.b "bool"),(.b "int"),true),((.b "int"),(.b "int"),true),((.b "str"),(.b "int"),false),((.b "tuple"),(.b "int"),false),((.b "list"),(.b "int"),false),((.b "dict"),(.b "int"),false),((.b "NoneType"),(.b "list"),false),((.b "bool"),(.b "list"),false),((.b "int"),(.b "list"),false),((.b "str"),(.b "list"),false),((.b "tuple"),(.b "list"),false),((.b "list"),(.b "list"),true),((.b "dict"),(.b "list"),false),((.b "NoneType"),(.b "str"),false),((.b "bool"),(.b "str"),false),((.b "int"),(.b "str"),false),((.b "str"),(.b "str"),true),((.b "tuple"),(.b "str"),false),((.b "list"),(.b "str"),false),((.b "dict"),(.b "str"),false),((.b "NoneType"),(.b "tuple"),false),((.b "bool"),(.b "tuple"),false),((.b "int"),(.b "tuple"),false),((.b "str"),(.b "tuple"),false),((.b "tuple"),(.b "tuple"),true),((.b "list"),(.b "tuple"),false),((.b "dict"),(.b "tuple"),false)]
noncomputable def fi:List Str:=["NoFraction", "NoBox", "NoWay", "NoWeights", "TooMany", "NoTree", "NoRule"]
noncomputable def nL:Val:=(.int 8)
noncomputable def iZ:Val:=(.int 40)
noncomputable def vH:Val:=(.tup [(.str "across"),(.str "down"),(.str "halves"),(.str "rows"),(.str "greatest"),(.str "thirds")])
noncomputable def Ao:Val:=(.tup [(.str "across"),(.str "down")])
abbrev tb:Tb:=⟨["RoomError", "NoFraction", "NoBox", "NoWay", "NoWeights", "TooMany", "NoTree", "NoRule", "NoKind", "NoName", "Taken", "Unknown", "NoThing", "NoCut", "NoText", "NoRow"],["NoFraction", "NoBox", "NoWay", "NoWeights", "TooMany", "NoTree", "NoRule"],[("RoomError",fi)],ar,[("MOST_SUM",nL),("MOST_WEIGHTS",iZ),("RULES",vH),("WAYS",Ao)]⟩
abbrev TT(K:W.Frag)(mg:Qt):Prop:=TyL tb top [18,19,20,21,22,23,24,25,26,30,31,32,33,34,35,36,37,38,39,40,41,43,44,45,46,47,48,49,51,52,53,54,55,56,57,60,61,62,63,64,65,66,67,68,70,73,74,75,76,78,79,80,81,82,83,84,85,86] K mg
section
variable{P:Program}{w:World}{K:W.Frag}{mg:Qt}{base:Heap}
def lb:PEx:=ki nL
def u4(e:E3):lb.G e=.ok (.val (.int 8)) e:=rfl
def fM:PEx:=ki iZ
def nz(e:E3):fM.G e=.ok (.val (.int 40)) e:=rfl
def tN:PEx:=ki vH
def CL(e:E3):tN.G e=.ok (.val (.tup [(.str "across"),(.str "down"),(.str "halves"),(.str "rows"),(.str "greatest"),(.str "thirds")])) e:=rfl
def wq:PEx:=ki Ao
def GH(e:E3):wq.G e=.ok (.val (.tup [(.str "across"),(.str "down")])) e:=rfl
def dI(s:String):Lean.TSyntax `term:=⟨Lean.mkIdent (s.replace "%" "").toName⟩
def dA(f:String)(a:Lean.TSyntax `term):Lean.TSyntax `term:=Lean.Syntax.mkApp (dI f) #[a]
def dF:List (Lean.TSyntax `tactic)->Lean.MacroM (Lean.TSyntax `tactic)
 | []=>`(tactic|fail)
 |a::l=>do `(tactic|first | $a:tactic | $(<- dF l):tactic)
def dL(f:String->Lean.MacroM (Lean.TSyntax `tactic)):List String->Lean.MacroM (List (Lean.TSyntax `tactic))
 | []=>pure []
 |s::l=>do return (<- f s)::(<- dL f l)
set_option hygiene false in
def dQ(ap:String->Lean.TSyntax `term)(s:String):Lean.MacroM (Lean.TSyntax `tactic):=match (s.splitOn ";").map ap with
 | [d,c,a,b]=>`(tactic|((case d=>with_reducible exact $d);(case c=>exact $c);(case a=>exact $a);(case b=>exact $b)))
 |d::c::_=>`(tactic|((case d=>with_reducible exact $d);(case c=>exact $c)))
 |_=>`(tactic|fail)
set_option hygiene false in
def dR(ap:String->Lean.TSyntax `term)(g:String):Lean.MacroM (Lean.TSyntax `tactic):=match g.splitOn ":" with
 | [r]=>`(tactic|refine $(ap r))
 |r::l=>do `(tactic|(refine' $(ap r);$(<- dF (<- dL (dQ ap) l)):tactic))
 | []=>`(tactic|fail)
set_option hygiene false in
local macro_rules | `('d')=>do
 let h <- `(?_)
 let u <- `(_)
 let R:=dI "rfl"
 let qA <- `(?a)
 let qB <- `(?b)
 let qC <- `(?c)
 let qD <- `(?d)
 let qp <- `((λ_ _=>rfl))
 let ap:=λ(s:String)=>let w:=s.splitOn " ";Lean.Syntax.mkApp (dI (w.getD 0 "")) (((w.getD 1 "").toList.map λc=>([('1',dI "hr.u100"),('8',dI "hr.u180"),('A',qA),('B',qB),('C',qC),('D',qD),('K',dI "T.k"),('_',u),('b',dA "%boT" R),('f',dA "%boF" R),('g',dA "T.g" R),('k',dA "T.n" R),('m',dA "T.m" R),('n',dI "nd"),('o',dI "%own1"),('p',qp),('r',R),('t',dI "T"),('u',dA "%Nh" (dI "hr")),('v',dA "%so" u),('x',dA "T.x" R),('z',dI "%rz1")].lookup c).getD h).toArray)
 let rd:=λ(s:String)=>dL (dR ap) (s.splitOn "|")
 let e0 <- `(tactic|refine zcF (by $(<- dF (<- rd "%ih|sZ t|rG t|lM t|oy t|tK t|kj t|mC t|xN t|p8 t|u5 t|uf t|rS t|BZ t|AN t|iB t|Af t|pX t|kZ t|xo t|pS t|uW t|oZ t|pP t|yM t|zN t|yA t|mU t|pW t|tZ t|nC t_|sg t|fU t|fT t|oJ t|fo t_|mB t|qb t|lU t|oX t|mF t|eV t_|pR t|iF t|k8 t|mS t|lJ t|qr t|uS t|sy t|oP t|ni t|ma t|oB t|uM t|n8 t|j3 t")):tactic) hr ?_)
 let e3 <- `(tactic|exact Ki rfl (by first |exact T.e rfl |exact (T.d.get 68 rfl).gl |exact (T.d.get 67 rfl).gl))
 `(by repeat' $(<- dF ((<- rd "%so _|nv|sN|bO ??|aA ??|cV ?|zsS _n?|rf ???|dS ?|Hv ?|rV ?|Ia|MP|Gb|Kj ?")++[e0,e3]++(<- rd "%Na CD??:M5;ixK r|Ie CD??:DM;DU:Eo;Ew:Eu;Ef:DQ;eqDK r8:IJ;HG r:Lc;neDK r8:HC;CQ:Lw;MX|jw CDrkf?:Kk;M3 r:IF;Bj:GK;uX:Ae;pM rr:E8;Ai rr:EY;zW r:HI K;Mf r|LK CD??:HR;Fb:JL;BF:IL;G8 r:IE;Kf:HN;GV:Ib;HU:Je;Kg|pE CDrkb?:Cv;EW r:wx;Ba r:JM;zi|Ji CD??:Eo;Ew:DQ;eqDK r8:DM;DU:Eu;Ef:Nn;inK r:KZ;HJ|Fo rABCD??:B4;HQ r1;PySem.F.slot_list_index;PySem.F.type_list_index:AX;J5 r1;PySem.F.slot_list_count;PySem.F.type_list_count|HH rABCDv?:yj;yE r;PySem.F.slot_list_extend;PySem.F.type_list_extend:zk;Ah;PySem.F.slot_list_append;PySem.F.type_list_append|FE rABCDv:Iu;G9;PySem.F.slot_list_pop;PySem.F.type_list_pop|Li CD?:IA;IG|IC n?CD:Jd;JP|FV ?v?CD:A8;um u:E5;Bl:B0;um u|ZG.weak ?|zt_w ?|JC rv?|Jc ??|LY|Gg u??p|Dx u??p|K2 rg|Jg rrkrk?|Jw|Jy ?|Hr ?|K8 ??|E9 rkb|uk r???|Kb rrkrk?|Nf rkb|zgN _n|Kr rr?|KD rr?|Dn ??|FF|AG rk?|zQ rk?|zM rk?|Iz r?|IW rrk?|vK|vL ?|Fv ??|C3|E6 ?|yU or???|Jo n?|C1 rzrmx?|GL|CA o??|sM ?|B5 r?|He ??|Fq ?|Md ??|Jt ?"))):tactic)
def nK:PSt:=
 (aw (w9 ["cells", "at", "left"] (aa (pFn ng (aa (pSl (af 0) oN (oS (ah 63))) ag)) (aa (ah 0) (aa (ah 0) ag)))))
def fH:PFn:=fnP [false] 1 nK
def uQ:fH.ms=[false]:=rfl
def sZ(T:TT K mg):Callee P w K mg base "_law_feed" 1 ["_law_script"] (sp3 K mg fH):=okP (T.d.get 78 rfl) (aC (N:=["_law_script"]) (by decide)) (λ_ _ _ _ _ _=>ar1 λ_=>rfl) λnd _ _ _ _ _ _ _ hr=>(cV (dS (Gu (lP (pE (Ba (K:=K) rfl) wx rfl (T.n rfl) (by first |exact boF rfl |exact boT rfl) (bO (uk rfl (so 0) vK (vL nv)) sN)) (lP nv (lP nv E2))))))
def nJ:PSt:=
 (ao (xIf (qOf (pOp bGt (pOp gz (af 0) (aB "left")) (ah 0))) (ao (aE false 2 (pOp eF (pOp gz (af 0) (aB "left")) (af 1)))
  (ao (fP 0 seD (aB "left") (pOp ke (pOp gz (af 0) (aB "left")) (af 1)))
  (aw (af 2)))) xNx)
  (ao (aE false 3 (pOp gz (af 0) (aB "at")))
  (ao (fP 0 seD (aB "at") (pOp bg (af 3) (ah 1)))
  (ao (aE false 4 (af 3))
  (ao (xIf (qOf (pOp bGt (pFn bA (aa (pOp gz (af 0) (aB "cells")) ag)) (ah 0))) (aE false 4 (pOp bIx (pOp gz (af 0) (aB "cells")) (pOp eF (af 3) (pFn bA (aa (pOp gz (af 0) (aB "cells")) ag))))) xNx)
  (ao (xIf (qAn (qOf (pOp bGe (af 4) (pOp ko (ah 10) (ah 18)))) (qOf (pOp bLt (af 3) (pFn bA (aa (pOp gz (af 0) (aB "cells")) ag))))) (ao (fP 0 seD (aB "left") (pOp ke (af 4) (af 1)))
  (aw (pOp eF (af 4) (af 1)))) xNx)
  (ao (aE false 5 (pOp eF (pOp bF (pOp bg (pOp bg (pOp bg (pOp eF (af 4) (ah 1000003)) (pOp bF (pOp bF (ah 61) (af 3)) (af 3))) (pOp bF (ah 7) (af 3))) (ah 1)) (ah 48271)) (ah 999983)))
  (aw (pOp eF (pOp ke (pOp eF (pOp bF (pOp eF (pOp bg (pOp bF (af 5) (ah 69623)) (pOp bF (ah 7919) (af 3))) (ah 1999993)) (ah 16811)) (ah 524287)) (ah 5)) (af 1))))))))))
def aD:PFn:=fnP [true,false] 6 nJ
def uJ:aD.ms=[true,false]:=rfl
def rG(T:TT K mg):Callee P w K mg base "_law_draw" 1 ["_law_feed_here", "_law_many"] (sp3 K mg aD):=okP (T.d.get 79 rfl) (aC (N:=["_law_feed_here", "_law_many", "_law_found", "_law_at", "_law_cell", "_law_number"]) (by decide)) (λ_ _ _ _ _ _=>ar2 λ_ _=>rfl) λnd _ _ _ _ _ _ _ hr=>'d'
def eT:PSt:=
 (ao (aE true 1 (aY (aa (aH (aa (ah 0) (aa (ah 1) ag))) (aa (aH (aa (ah 0) (aa (ah 1) ag))) (aa (aH (aa (ah 3) (aa (ah 1) ag))) (aa (aH (aa (ah 2) (aa (ah 1) ag))) ag))))))
  (ao (aE false 2 (ak aD (aa (af 0) (aa (ah 4) ag))))
  (ao (aE false 3 (pOp bIx (aY (aa (aH (aa (ah 2) (aa (ah 4) ag))) (aa (aH (aa (ah 1) (aa (ah 0) ag))) (aa (aH (aa (ah 1) (aa (pUn gb (ah 2)) ag))) (aa (ah 5) (aa iS (aa (aB "1") (aa (aH (aa (pBl true) (aa (ah 1) ag))) (aa (aH (aa (ah 1) (aa (ah 1) (aa (ah 1) ag)))) (aa (aY (aa (ah 1) (aa (ah 1) ag))) (aa (aH (aa (ah 0) (aa (ah 2) ag))) ag))))))))))) (ak aD (aa (af 0) (aa (ah 10) ag)))))
  (ao (fP 1 seL (af 2) (af 3))
  (ao (xIf (qOf (pOp bEq (ak aD (aa (af 0) (aa (ah 3) ag))) (ah 0))) (ao (aE true 1 (aY (aa (aH (aa (ah 0) (aa (ah 1) ag))) (aa (aH (aa (ah 0) (aa (ah 1) ag))) (aa (aH (aa (ah 3) (aa (ah 1) ag))) (aa (aH (aa (ah 2) (aa (ah 1) ag))) ag))))))
  (fP 1 seL (pOp bg (ah 2) (ak aD (aa (af 0) (aa (ah 2) ag)))) (pOp bIx (aY (aa (aH (aa (ah 0) (aa (ah 1) ag))) (aa (aH (aa (pUn gb (ah 1)) (aa (ah 3) ag))) ag))) (ak aD (aa (af 0) (aa (ah 2) ag)))))) xNx)
  (ao (aE true 4 (aY (aa (pFn fD (aa (af 1) ag)) (aa (pFn fD (aa (af 1) ag)) (aa (pFn fD (aa (af 1) ag)) (aa (pFn ng (aa (af 1) ag)) (aa (pFn fD (aa (pSl (af 1) oN (oS (ah 3))) ag)) (aa (pFn fD (aa (pOp bg (af 1) (pSl (af 1) oN (oS (ah 1)))) ag)) (aa iS (aa (aH ag) (aa (ah 7) (aa (aB "room") ag))))))))))))
  (ao (fP 4 seL (ah 8) (aH (aa (aH (aa (ah 0) (aa (ah 1) ag))) (aa (aH (aa (ah 0) (aa (ah 1) ag))) (aa (aH (aa (pUn gb (ah 1)) (aa (ah 3) ag))) (aa (aH (aa (pUn gb (ah 2)) (aa (ah 1) ag))) ag))))))
  (ao (fP 4 seL (ah 3) (aY (aa (aH (aa (ah 0) (aa (ah 1) ag))) (aa (aH (aa (ah 0) (aa (ah 1) ag))) (aa (aH (aa (ah 1) (aa (ah 1) ag))) (aa (aH (aa (ah 1) (aa (ah 1) ag))) ag))))))
  (ao (fP 4 seL (ah 4) (aH (aa (aH (aa (ah 0) (aa (ah 1) ag))) (aa (aH (aa (ah 0) (aa (ah 1) ag))) (aa (aH (aa (ah 1) (aa (ah 1) ag))) ag)))))
  (ao (fP 4 seL (ah 5) (aH (aa (aH (aa (ah 0) (aa (ah 1) ag))) (aa (aH (aa (ah 0) (aa (ah 1) ag))) (aa (aH (aa (ah 1) (aa (ah 1) ag))) (aa (aH (aa (ah 1) (aa (ah 1) ag))) (aa (aH (aa (ah 1) (aa (ah 1) ag))) ag)))))))
  (aw (pOp bIx (af 4) (ak aD (aa (af 0) (aa (ah 10) ag)))))))))))))))
def eO:PFn:=fnP [true] 5 eT
def nA:eO.ms=[true]:=rfl
def lM(T:TT K mg):Callee P w K mg base "_law_odd_room" 2 ["_law_feed_here"] (sp3 K mg eO):=okP (T.d.get 80 rfl) (aC (N:=["_law_feed_here", "_law_box", "_law_at", "_law_bad", "_law_some"]) (by decide)) (λ_ _ _ _ _ _=>ar1 λ_=>rfl) λnd _ _ _ _ _ _ _ hr=>'d'
def hJ:PSt:=
 (xIf (qOf (pOp xf (af 0) tN)) (eC "NoRule" (aa (aB "this is no rule") ag)) xNx)
def aQ:PFn:=fnP [false] 1 hJ
def pZ:aQ.ms=[false]:=rfl
def oy(T:TT K mg):Callee P w K mg base "check_rule" 1 ["rule"] (sp3 K mg aQ):=okP (T.d.get 60 rfl) (aC (N:=["rule"]) (by decide)) (λ_ _ _ _ _ _=>ar1 λ_=>rfl) λnd _ _ _ _ _ _ _ hr=>'d'
def jS:PSt:=
 (aw (jx (pFn (aq ar) (aa (af 0) (aa (pTy "int") ag))) (BW (pFn (aq ar) (aa (af 0) (aa (pTy "bool") ag))))))
def bu:PFn:=fnP [false] 1 jS
def uR:bu.ms=[false]:=rfl
def tK(T:TT K mg):Callee P w K mg base "is_whole" 1 ["thing"] (sp3 K mg bu):=okP (T.d.get 18 rfl) (aC (N:=["thing"]) (by decide)) (λ_ _ _ _ _ _=>ar1 λ_=>rfl) λnd _ _ _ _ _ _ _ hr=>'d'
def dn:PSt:=
 (lH 0 1 (aa (af 1) (aa (pOp eF (af 0) (af 1)) ag)))
def gR:PSt:=
 (ao (lH 0 1 (aa (pFn jL (aa (af 0) ag)) (aa (pFn jL (aa (af 1) ag)) ag)))
  (ao (xWh (qOf (pOp bNe (af 1) (ah 0))) (dn))
  (aw (af 0))))
def bX:PFn:=fnP [false,false] 2 gR
def kY:bX.ms=[false,false]:=rfl
def kj(T:TT K mg):Callee P w K mg base "common_divisor" 1 ["one", "other"] (sp3 K mg bX):=okP (T.d.get 19 rfl) (aC (N:=["one", "other"]) (by decide)) (λ_ _ _ _ _ _=>ar2 λ_ _=>rfl) λnd _ _ _ _ _ _ _ hr=>'d'
def jY:PSt:=
 (ao (xIf (qO (qNo (qOf (pFn (aq ar) (aa (af 0) (aa (pTy "tuple") ag))))) (qOf (pOp bNe (pFn bA (aa (af 0) ag)) (ah 2)))) (aw (pBl false)) xNx)
  (ao (jN (af 0) (gtX (gtT 2 (bR (gtN 1) (bR (gtN 2) fJ)))))
  (ao (xIf (qO (qNo (qOf (ak bu (aa (af 1) ag)))) (qNo (qOf (ak bu (aa (af 2) ag))))) (aw (pBl false)) xNx)
  (aw (jx (pOp bGe (af 2) (ah 1)) (pOp bEq (ak bX (aa (af 1) (aa (af 2) ag))) (ah 1)))))))
def cU:PFn:=fnP [false] 3 jY
def oM:cU.ms=[false]:=rfl
def mC(T:TT K mg):Callee P w K mg base "is_fraction" 2 ["thing"] (sp3 K mg cU):=okP (T.d.get 20 rfl) (aC (N:=["thing", "top", "bottom"]) (by decide)) (λ_ _ _ _ _ _=>ar1 λ_=>rfl) λnd _ _ _ _ _ _ _ hr=>'d'
def tS:PSt:=
 (ao (xIf (qO (qNo (qOf (pFn (aq ar) (aa (af 0) (aa (pTy "tuple") ag))))) (qOf (pOp bNe (pFn bA (aa (af 0) ag)) (ah 4)))) (aw (pBl false)) xNx)
  (ao (xIf (qNo (qOf (pFn qN (aa (pLC (dJ (af 0)) [none] (by decide) (gtN 0) qY (ak cU (aa (af 0) ag))) ag)))) (aw (pBl false)) xNx)
  (aw (jx (pOp bGt (pOp bIx (pOp bIx (af 0) (ah 2)) (ah 0)) (ah 0)) (pOp bGt (pOp bIx (pOp bIx (af 0) (ah 3)) (ah 0)) (ah 0))))))
def gX:PFn:=fnP [false] 1 tS
def A1:gX.ms=[false]:=rfl
def xN(T:TT K mg):Callee P w K mg base "is_box" 3 ["thing"] (sp3 K mg gX):=okP (T.d.get 30 rfl) (aC (N:=["thing"]) (by decide)) (λ_ _ _ _ _ _=>ar1 λ_=>rfl) λnd _ _ _ _ _ _ _ hr=>(aA 'd' (aA (rf (sM (rV (jw (allK (K:=K) rfl rfl) yK rfl (T.n rfl) (by first |exact boF rfl |exact boT rfl) (bO (iU ["thing"] (au (top 30)).names ["part"] [none] 'd' (λnd _ _ _ _ _=>'d') (λ_ _ _ _ _ _=>cq) (λnd _ _ _ _ _=>'d')) 'd')))) 'd' 'd') 'd'))
def lA:PSt:=
 (xIf (qNo (qOf (ak gX (aa (af 0) ag)))) (eC "NoBox" (aa (aB "this is no box") ag)) xNx)
def aU:PFn:=fnP [false] 1 lA
def sQ:aU.ms=[false]:=rfl
def p8(T:TT K mg):Callee P w K mg base "check_box" 4 ["thing"] (sp3 K mg aU):=okP (T.d.get 31 rfl) (aC (N:=["thing"]) (by decide)) (λ_ _ _ _ _ _=>ar1 λ_=>rfl) λnd _ _ _ _ _ _ _ hr=>'d'
def pG:PSt:=
 (aw (pOp bLt (pOp bF (pOp bIx (af 0) (ah 0)) (pOp bIx (af 1) (ah 1))) (pOp bF (pOp bIx (af 1) (ah 0)) (pOp bIx (af 0) (ah 1)))))
def dD:PFn:=fnP [false,false] 2 pG
def xU:dD.ms=[false,false]:=rfl
def u5(T:TT K mg):Callee P w K mg base "is_less" 1 ["one", "other"] (sp3 K mg dD):=okP (T.d.get 25 rfl) (aC (N:=["one", "other"]) (by decide)) (λ_ _ _ _ _ _=>ar2 λ_ _=>rfl) λnd _ _ _ _ _ _ _ hr=>'d'
def nH:PSt:=
 (ao (aW (ak aU (aa (af 0) ag)))
  (ao (xIf (qOf (ak dD (aa (pOp bIx (af 0) (ah 2)) (aa (pOp bIx (af 0) (ah 3)) ag)))) (aw (aB "down")) xNx)
  (aw (aB "across"))))
def bY:PFn:=fnP [false] 1 nH
def uO:bY.ms=[false]:=rfl
def uf(T:TT K mg):Callee P w K mg base "long_way" 5 ["box"] (sp3 K mg bY):=okP (T.d.get 37 rfl) (aC (N:=["box"]) (by decide)) (λ_ _ _ _ _ _=>ar1 λ_=>rfl) λnd _ _ _ _ _ _ _ hr=>'d'
def mE:PSt:=
 (ao (xIf (qOf (pOp bEq (af 1) (ah 0))) (eC "NoFraction" (aa (aB "a fraction has no bottom of 0") ag)) xNx)
  (ao (aE false 2 (ak bX (aa (af 0) (aa (af 1) ag))))
  (ao (xIf (qOf (pOp bLt (af 1) (ah 0))) (aE false 2 (pUn gb (af 2))) xNx)
  (aw (aH (aa (pOp ke (af 0) (af 2)) (aa (pOp ke (af 1) (af 2)) ag)))))))
def cF:PFn:=fnP [false,false] 3 mE
def uK:cF.ms=[false,false]:=rfl
def rS(T:TT K mg):Callee P w K mg base "fraction" 2 ["top", "bottom"] (sp3 K mg cF):=okP (T.d.get 21 rfl) (aC (N:=["top", "bottom", "divisor"]) (by decide)) (λ_ _ _ _ _ _=>ar2 λ_ _=>rfl) λnd _ _ _ _ _ _ _ hr=>'d'
def zY:PSt:=
 (aw (ak cF (aa (pOp bF (pOp bIx (af 0) (ah 0)) (pOp bIx (af 1) (ah 1))) (aa (pOp bF (pOp bIx (af 0) (ah 1)) (pOp bIx (af 1) (ah 0))) ag))))
def iV:PFn:=fnP [false,false] 2 zY
def Gn:iV.ms=[false,false]:=rfl
def BZ(T:TT K mg):Callee P w K mg base "over" 3 ["one", "other"] (sp3 K mg iV):=okP (T.d.get 24 rfl) (aC (N:=["one", "other"]) (by decide)) (λ_ _ _ _ _ _=>ar2 λ_ _=>rfl) λnd _ _ _ _ _ _ _ hr=>'d'
def vB:PSt:=
 (ao (xIf (qOf (pOp bEq (ak bY (aa (af 0) ag)) (aB "across"))) (aw (ak iV (aa (pOp bIx (af 0) (ah 2)) (aa (pOp bIx (af 0) (ah 3)) ag)))) xNx)
  (aw (ak iV (aa (pOp bIx (af 0) (ah 3)) (aa (pOp bIx (af 0) (ah 2)) ag)))))
def fZ:PFn:=fnP [false] 1 vB
def AN(T:TT K mg):Callee P w K mg base "shape" 6 ["box"] (sp3 K mg fZ):=okP (T.d.get 38 rfl) (aC (N:=["box"]) (by decide)) (λ_ _ _ _ _ _=>ar1 λ_=>rfl) λnd _ _ _ _ _ _ _ hr=>'d'
def eS:PSt:=
 (xIf (qOf (ak dD (aa (af 1) (aa (af 2) ag)))) (aE false 1 (af 2)) xNx)
def jV:PSt:=
 (ao (aE false 1 (pOp bIx (af 0) (ah 0)))
  (ao (lO (dJ (af 0)) (gtN 2) (eS))
  (aw (af 1))))
def cW:PFn:=fnP [false] 3 jV
def nZ:cW.ms=[false]:=rfl
def iB(T:TT K mg):Callee P w K mg base "greatest_of" 2 ["fractions"] (sp3 K mg cW):=okP (T.d.get 26 rfl) (aC (N:=["fractions", "found", "one"]) (by decide)) (λ_ _ _ _ _ _=>ar1 λ_=>rfl) λnd _ _ _ _ _ _ _ hr=>'d'
def wj:PSt:=
 (ao (aE false 1 (pLC (dJ (af 0)) [none] (by decide) (gtN 0) qY (ak fZ (aa (af 0) ag))))
  (ao (aE false 2 (ak cW (aa (af 1) ag)))
  (aw (aH (aa (af 2) (aa (kJ cT (af 1) (aa (af 2) ag)) ag))))))
def gQ:PFn:=fnP [false] 3 wj
def Dl:gQ.ms=[false]:=rfl
def Af(T:TT K mg):Callee P w K mg base "worst" 7 ["boxes"] (sp3 K mg gQ):=okP (T.d.get 70 rfl) (aC (N:=["boxes", "shapes", "greatest"]) (by decide)) (λ_ _ _ _ _ _=>ar1 λ_=>rfl) λnd _ _ _ _ _ _ _ hr=>(aA (yC nd ["boxes", "shapes", "greatest"] (au (top 70)).names ["box"] [none] 'd' (λnd _ _ _ _ _=>'d') (λ_ _ _ _ _ _=>cq) (λnd _ _ _ _ _=>'d')) 'd')
def lq:PSt:=
 (aw (jx (ak bu (aa (af 0) ag)) (pOp bGe (af 0) (ah 1))))
def dZ:PFn:=fnP [false] 1 lq
def tu:dZ.ms=[false]:=rfl
def pX(T:TT K mg):Callee P w K mg base "is_weight" 2 ["thing"] (sp3 K mg dZ):=okP (T.d.get 35 rfl) (aC (N:=["thing"]) (by decide)) (λ_ _ _ _ _ _=>ar1 λ_=>rfl) λnd _ _ _ _ _ _ _ hr=>'d'
def iz:PSt:=
 (ao (xIf (qO (qNo (qOf (pFn (aq ar) (aa (af 0) (aa (pTy "list") ag))))) (qOf (pOp bEq (pFn bA (aa (af 0) ag)) (ah 0)))) (eC "NoWeights" (aa (aB "this is no list of weights") ag)) xNx)
  (ao (xIf (qNo (qOf (pFn qN (aa (pLC (dJ (af 0)) [none] (by decide) (gtN 0) qY (ak dZ (aa (af 0) ag))) ag)))) (eC "NoWeights" (aa (aB "a weight is a whole number from 1 on") ag)) xNx)
  (xIf (qOf (pOp bGt (pFn bA (aa (af 0) ag)) fM)) (eC "TooMany" (aa (aB "these are more weights than forty") ag)) xNx)))
def aG:PFn:=fnP [false] 1 iz
def mq:aG.ms=[false]:=rfl
def kZ(T:TT K mg):Callee P w K mg base "check_weights" 3 ["thing"] (sp3 K mg aG):=okP (T.d.get 36 rfl) (aC (N:=["thing"]) (by decide)) (λ_ _ _ _ _ _=>ar1 λ_=>rfl) λnd _ _ _ _ _ _ _ hr=>(aA 'd' (aA (rf (sM (rV (jw (allK (K:=K) rfl rfl) yK rfl (T.n rfl) (by first |exact boF rfl |exact boT rfl) (bO (iU ["thing"] (au (top 36)).names ["weight"] [none] 'd' (λnd _ _ _ _ _=>'d') (λ_ _ _ _ _ _=>cq) (λnd _ _ _ _ _=>'d')) 'd')))) 'd' 'd') 'd'))
def l7:PSt:=
 (aw (jx (pFn (aq ar) (aa (af 0) (aa (pTy "str") ag))) (pOp bIn (af 0) wq)))
def eD:PFn:=fnP [false] 1 l7
def A9:eD.ms=[false]:=rfl
def xo(T:TT K mg):Callee P w K mg base "is_way" 1 ["thing"] (sp3 K mg eD):=okP (T.d.get 32 rfl) (aC (N:=["thing"]) (by decide)) (λ_ _ _ _ _ _=>ar1 λ_=>rfl) λnd _ _ _ _ _ _ _ hr=>'d'
def iP:PSt:=
 (ao (xIf (qO (qNo (qOf (pFn (aq ar) (aa (af 0) (aa (pTy "tuple") ag))))) (qOf (pOp bNe (pFn bA (aa (af 0) ag)) (ah 2)))) (aw (pBl false)) xNx)
  (aw (jx (ak eD (aa (pOp bIx (af 0) (ah 0)) ag)) (jx (pFn (aq ar) (aa (pOp bIx (af 0) (ah 1)) (aa (pTy "tuple") ag))) (pOp bGe (pFn bA (aa (pOp bIx (af 0) (ah 1)) ag)) (ah 2))))))
def c8:PFn:=fnP [false] 1 iP
def rO:c8.ms=[false]:=rfl
def pS(T:TT K mg):Callee P w K mg base "is_branch" 2 ["thing"] (sp3 K mg c8):=okP (T.d.get 51 rfl) (aC (N:=["thing"]) (by decide)) (λ_ _ _ _ _ _=>ar1 λ_=>rfl) λnd _ _ _ _ _ _ _ hr=>'d'
def dM:PSt:=
 (ao (aE false 4 (qH 3 qP))
  (xIf (qOf (ak c8 (aa (af 4) ag))) (aW (jP 3 iq (aa (pOp bIx (af 4) (ah 1)) ag))) (xIf (qO (qNo (qOf (ak bu (aa (af 4) ag)))) (qO (qOf (pOp bLt (af 4) (ah 0))) (qO (qOf (pOp bGe (af 4) (af 1))) (qOf (pOp CF (af 4) (af 2)))))) (aw (pBl false)) (aW (Bf 2 (aa (af 4) ag))))))
def ph:PSt:=
 (ao (aE true 2 yi)
  (ao (aE true 3 (aY (aa (af 0) ag)))
  (ao (xWh (qTr (af 3)) (dM))
  (aw (pOp bEq (pFn tj (aa (af 2) ag)) (af 1))))))
def gy:PFn:=fnP [false,false] 5 ph
def yo:gy.ms=[false,false]:=rfl
def uW(T:TT K mg):Callee P w K mg base "is_tree" 3 ["thing", "many"] (sp3 K mg gy):=okP (T.d.get 52 rfl) (aC (N:=["thing", "many", "seen", "waiting", "part"]) (by decide)) (λ_ _ _ _ _ _=>ar2 λ_ _=>rfl) λnd _ _ _ _ _ _ _ hr=>'d'
def kh:PSt:=
 (xIf (qNo (qOf (ak gy (aa (af 0) (aa (af 1) ag))))) (eC "NoTree" (aa (aB "this is no tree for the things") ag)) xNx)
def eM:PFn:=fnP [false,false] 2 kh
def pY:eM.ms=[false,false]:=rfl
def oZ(T:TT K mg):Callee P w K mg base "check_tree" 4 ["thing", "many"] (sp3 K mg eM):=okP (T.d.get 53 rfl) (aC (N:=["thing", "many"]) (by decide)) (λ_ _ _ _ _ _=>ar2 λ_ _=>rfl) λnd _ _ _ _ _ _ _ hr=>'d'
def lj:PSt:=
 (xIf (qNo (qOf (ak eD (aa (af 0) ag)))) (eC "NoWay" (aa (aB "this is no way") ag)) xNx)
def fg:PFn:=fnP [false] 1 lj
def sS:fg.ms=[false]:=rfl
def pP(T:TT K mg):Callee P w K mg base "check_way" 2 ["way"] (sp3 K mg fg):=okP (T.d.get 33 rfl) (aC (N:=["way"]) (by decide)) (λ_ _ _ _ _ _=>ar1 λ_=>rfl) λnd _ _ _ _ _ _ _ hr=>'d'
def vS:PSt:=
 (aw (ak cF (aa (pOp bg (pOp bF (pOp bIx (af 0) (ah 0)) (pOp bIx (af 1) (ah 1))) (pOp bF (pOp bIx (af 1) (ah 0)) (pOp bIx (af 0) (ah 1)))) (aa (pOp bF (pOp bIx (af 0) (ah 1)) (pOp bIx (af 1) (ah 1))) ag))))
def jn:PFn:=fnP [false,false] 2 vS
def Bw:jn.ms=[false,false]:=rfl
def yM(T:TT K mg):Callee P w K mg base "added" 3 ["one", "other"] (sp3 K mg jn):=okP (T.d.get 22 rfl) (aC (N:=["one", "other"]) (by decide)) (λ_ _ _ _ _ _=>ar2 λ_ _=>rfl) λnd _ _ _ _ _ _ _ hr=>'d'
def vp:PSt:=
 (aw (ak cF (aa (pOp bF (pOp bIx (af 0) (ah 0)) (pOp bIx (af 1) (ah 0))) (aa (pOp bF (pOp bIx (af 0) (ah 1)) (pOp bIx (af 1) (ah 1))) ag))))
def gK:PFn:=fnP [false,false] 2 vp
def BM:gK.ms=[false,false]:=rfl
def zN(T:TT K mg):Callee P w K mg base "times" 3 ["one", "other"] (sp3 K mg gK):=okP (T.d.get 23 rfl) (aC (N:=["one", "other"]) (by decide)) (λ_ _ _ _ _ _=>ar2 λ_ _=>rfl) λnd _ _ _ _ _ _ _ hr=>'d'
def iD:PSt:=
 (ao (aE false 7 (ak jn (aa (af 0) (aa (ak gK (aa (af 1) (aa (ak cF (aa (af 4) (aa (af 3) ag))) ag))) ag))))
  (ao (aW (jP 5 fm (aa (aH (aa (af 7) (aa (ak gK (aa (af 1) (aa (ak cF (aa (af 6) (aa (af 3) ag))) ag))) ag))) ag)))
  (su 4 rZ (af 6))))
def rl:PSt:=
 (ao (aE false 3 (pFn bz (aa (af 2) ag)))
  (ao (aE false 4 (ah 0))
  (ao (aE true 5 (aY ag))
  (ao (lO (dJ (af 2)) (gtN 6) (iD))
  (aw (af 5))))))
def gn:PFn:=fnP [false,false,false] 8 rl
def An:gn.ms=[false,false,false]:=rfl
def yA(T:TT K mg):Callee P w K mg base "shares" 4 ["start", "length", "weights"] (sp3 K mg gn):=okP (T.d.get 39 rfl) (aC (N:=["start", "length", "weights", "whole", "ahead", "found", "weight", "begin"]) (by decide)) (λ_ _ _ _ _ _=>ar3 λ_ _ _=>rfl) λnd _ _ _ _ _ _ _ hr=>'d'
def sC:PSt:=
 (ao (aW (ak aU (aa (af 0) ag)))
  (ao (aW (ak fg (aa (af 1) ag)))
  (ao (aW (ak aG (aa (af 2) ag)))
  (ao (jN (af 0) (gtX (gtT 4 (bR (gtN 3) (bR (gtN 4) (bR (gtN 5) (bR (gtN 6) fJ)))))))
  (ao (xIf (qOf (pOp bEq (af 1) (aB "across"))) (aw (pLC (dJ (ak gn (aa (af 3) (aa (af 5) (aa (af 2) ag))))) [none,none,some 4,some 6] (by decide) (gtT 2 (bR (gtN 0) (bR (gtN 1) fJ))) qY (aH (aa (af 0) (aa (af 2) (aa (af 1) (aa (af 3) ag))))))) xNx)
  (aw (pLC (dJ (ak gn (aa (af 4) (aa (af 6) (aa (af 2) ag))))) [none,none,some 3,some 5] (by decide) (gtT 2 (bR (gtN 0) (bR (gtN 1) fJ))) qY (aH (aa (af 2) (aa (af 0) (aa (af 3) (aa (af 1) ag))))))))))))
def eI:PFn:=fnP [false,false,false] 7 sC
def yX:eI.ms=[false,false,false]:=rfl
def mU(T:TT K mg):Callee P w K mg base "parted" 5 ["box", "way", "weights"] (sp3 K mg eI):=okP (T.d.get 40 rfl) (aC (N:=["box", "way", "weights", "left", "top", "wide", "high"]) (by decide)) (λ_ _ _ _ _ _=>ar3 λ_ _ _=>rfl) λnd _ _ _ _ _ _ _ hr=>(aA 'd' (aA 'd' (aA 'd' (aA 'd' (aA (rf 'd' (cV (dS (iU ["box", "way", "weights", "left", "top", "wide", "high"] (au (top 40)).names ["begin", "length", "top", "high"] [none,none,some 4,some 6] 'd' (λnd _ _ _ _ _=>'d') (λ_ _ _ _ _ _=>cq) (λnd _ _ _ _ _=>'d')))) 'd') (cV (dS (iU ["box", "way", "weights", "left", "top", "wide", "high"] (au (top 40)).names ["begin", "length", "left", "wide"] [none,none,some 3,some 5] 'd' (λnd _ _ _ _ _=>'d') (λ_ _ _ _ _ _=>cq) (λnd _ _ _ _ _=>'d')))))))))
def cK:PSt:=
 (ao (aE false 3 (qH 2 qP))
  (xIf (qOf (pFn (aq ar) (aa (af 3) (aa (pTy "tuple") ag)))) (aW (jP 2 iq (aa (pOp bIx (af 3) (ah 1)) ag))) (aW (jP 1 fm (aa (af 3) ag)))))
def lg:PSt:=
 (ao (aE true 1 (aY ag))
  (ao (aE true 2 (aY (aa (af 0) ag)))
  (ao (xWh (qTr (af 2)) (cK))
  (aw (af 1)))))
def d8:PFn:=fnP [false] 4 lg
def tJ:d8.ms=[false]:=rfl
def pW(T:TT K mg):Callee P w K mg base "things_in" 1 ["tree"] (sp3 K mg d8):=okP (T.d.get 54 rfl) (aC (N:=["tree", "found", "waiting", "part"]) (by decide)) (λ_ _ _ _ _ _=>ar1 λ_=>rfl) λnd _ _ _ _ _ _ _ hr=>'d'
def nj:PSt:=
 (ao (jN (af 2) (gtX (gtT 2 (bR (gtN 3) (bR (gtN 4) fJ)))))
  (aw (ak eI (aa (af 0) (aa (af 3) (aa (pLC (dJ (af 4)) [none,some 1] (by decide) (gtN 0) qY (pFn bz (aa (pLC (dJ (ak d8 (aa (af 0) ag))) [none,some 1] (by decide) (gtN 0) qY (pOp bIx (af 1) (af 0))) ag))) ag))))))
def fK:PFn:=fnP [false,false,false] 5 nj
def uL:fK.ms=[false,false,false]:=rfl
def tZ(T:TT K mg):Callee P w K mg base "parts_of" 6 ["room", "weights", "tree"] (sp3 K mg fK):=okP (T.d.get 57 rfl) (aC (N:=["room", "weights", "tree", "way", "trees"]) (by decide)) (λ_ _ _ _ _ _=>ar3 λ_ _ _=>rfl) λnd _ _ _ _ _ _ _ hr=>(aA 'd' (cV (dS (zcF (mU T) hr (bO 'd' (bO 'd' (bO (iU ["room", "weights", "tree", "way", "trees"] (au (top 57)).names ["part", "weights"] [none,some 1] 'd' (λnd _ _ _ _ _=>'d') (λ_ _ _ _ _ _=>cq) (λnd _ _ _ _ _=>(jw (pM (K:=K) rfl rfl) Ae rfl (T.n rfl) (by first |exact boF rfl |exact boT rfl) (bO (iU ["part", "weights"] [(PySem.Str.ofString ".0",PySem.NameKind.local),(PySem.Str.ofString "part",PySem.NameKind.local),(PySem.Str.ofString "sum",PySem.NameKind.globalImplicit),(PySem.Str.ofString "things_in",PySem.NameKind.globalImplicit),(PySem.Str.ofString "weights",PySem.NameKind.cell)] ["thing", "weights"] [none,some 1] 'd' (λnd _ _ _ _ _=>'d') (λ_ _ _ _ _ _=>cq) (λnd _ _ _ _ _=>'d')) 'd')))) 'd')))))))
def js(s:PFx [false,false,false,true]):PSt:=
 (aW (ak s.fn (aa (af 5) (aa (af 1) (aa (af 4) (aa (af 3) ag))))))
def gO(s:PFx [false,false,false,true]):PSt:=
 (ao (xIf (qNo (qOf (pFn (aq ar) (aa (af 2) (aa (pTy "tuple") ag))))) (ao (fP 3 seI (af 2) (af 0))
  xj) xNx)
  (lO (yt (aa (pOp bIx (af 2) (ah 1)) (aa (ak fK (aa (af 0) (aa (af 1) (aa (af 2) ag)))) ag))) (gtX (gtT 2 (bR (gtN 4) (bR (gtN 5) fJ)))) (js s)))
def er:Nat->PFx [false,false,false,true]
 |0=>PFx.none [false,false,false,true]
 |n+1=>PFx.of [false,false,false,true] 6 (gO (er n))
theorem nC(T:TT K mg):∀n,Callee P w K mg base "place" (8+n) ["room", "weights", "tree", "placed"] (sp3 K mg (er n).fn)
 |0=>ok0 (T.d.get 56 rfl) (aC (N:=["room", "weights", "tree", "placed", "part", "box"]) (by decide)) (λ_ _ _ _ _ _=>ar4 λ_ _ _ _=>rfl)
 |
  n+1=>by
  have ih:=nC T n;show Callee _ _ _ _ _ _ _ _ (sp3 _ _ (PFx.of [false,false,false,true] 6 (gO (er n))).fn);exact okX (k:=8+n) (T.d.get 56 rfl) (aC (N:=["room", "weights", "tree", "placed", "part", "box"]) (by decide)) (λ_ _ _ _ _ _=>ar4 λ_ _ _ _=>rfl) λnd _ _ _ _ _ _ _ hr=>'d'
def mO:PSt:=
 (ao (aW (ak aU (aa (af 0) ag)))
  (ao (aW (ak aG (aa (af 1) ag)))
  (ao (aW (ak eM (aa (af 2) (aa (pFn bA (aa (af 1) ag)) ag))))
  (ao (aE true 3 pD0)
  (ao (aW (ak (er 42).fn (aa (af 0) (aa (af 1) (aa (af 2) (aa (af 3) ag))))))
  (aw (pLC (kW (aa (pFn bA (aa (af 1) ag)) ag)) [none,some 3] (by decide) (gtN 0) qY (pOp xr (af 1) (af 0)))))))))
def fQ:PFn:=fnP [false,false,false] 4 mO
def uI:fQ.ms=[false,false,false]:=rfl
def sg(T:TT K mg):Callee P w K mg base "boxes_by" 51 ["room", "weights", "tree"] (sp3 K mg fQ):=okP (T.d.get 55 rfl) (aC (N:=["room", "weights", "tree", "placed"]) (by decide)) (λ_ _ _ _ _ _=>ar3 λ_ _ _=>rfl) λnd _ _ _ _ _ _ _ hr=>(aA 'd' (aA 'd' (aA 'd' (aA 'd' (aA 'd' (cV (dS (iU ["room", "weights", "tree", "placed"] (au (top 55)).names ["number", "placed"] [none,some 3] 'd' (λnd _ _ _ _ _=>'d') (λ_ _ _ _ _ _=>cq) (λnd _ _ _ _ _=>'d')))))))))
def gE:PSt:=
 (ao (aE false 1 (pLC (x9 (aa (ah 1) (aa (pFn bA (aa (af 0) ag)) ag))) [none,some 0] (by decide) (gtN 0) qY (pFn jL (aa (pOp fX (pOp bF (ah 2) (pFn bz (aa (pSl (af 1) oN (oS (af 0))) ag))) (pFn bz (aa (af 1) ag))) ag))))
  (aw (pOp bg (kJ cT (af 1) (aa (pFn sI (aa (af 1) ag)) ag)) (ah 1))))
def bM:PFn:=fnP [false] 2 gE
def kA:bM.ms=[false]:=rfl
def fU(T:TT K mg):Callee P w K mg base "nearest_to_half" 1 ["weights"] (sp3 K mg bM):=okP (T.d.get 67 rfl) (aC (N:=["weights", "apart"]) (by decide)) (λ_ _ _ _ _ _=>ar1 λ_=>rfl) λnd _ _ _ _ _ _ _ hr=>(aA (yC nd ["weights", "apart"] (au (top 67)).names ["many", "weights"] [none,some 0] 'd' (λnd _ _ _ _ _=>'d') (λ_ _ _ _ _ _=>cq) (λnd _ _ _ _ _=>'d')) 'd')
def c7:PSt:=
 (su 1 rZ (ah 1))
def gD:PSt:=
 (ao (aE false 1 (ah 1))
  (ao (xWh (qOf (pOp bLt (pOp bF (ah 3) (pFn bz (aa (pSl (af 0) oN (oS (af 1))) ag))) (pFn bz (aa (af 0) ag)))) (c7))
  (aw (af 1))))
def bN:PFn:=fnP [false] 2 gD
def j6:bN.ms=[false]:=rfl
def fT(T:TT K mg):Callee P w K mg base "fewest_to_third" 1 ["weights"] (sp3 K mg bN):=okP (T.d.get 68 rfl) (aC (N:=["weights", "many"]) (by decide)) (λ_ _ _ _ _ _=>ar1 λ_=>rfl) λnd _ _ _ _ _ _ _ hr=>'d'
def kz:PSt:=
 (aw (ak eI (aa (af 0) (aa (ak bY (aa (af 0) ag)) (aa (aY (aa (pFn bz (aa (pSl (af 1) oN (oS (af 2))) ag)) (aa (pFn bz (aa (pSl (af 1) (oS (af 2)) oN) ag)) ag))) ag)))))
def cM:PFn:=fnP [false,false,false] 3 kz
def qu:cM.ms=[false,false,false]:=rfl
def oJ(T:TT K mg):Callee P w K mg base "cut_in_two" 6 ["room", "weights", "many"] (sp3 K mg cM):=okP (T.d.get 41 rfl) (aC (N:=["room", "weights", "many"]) (by decide)) (λ_ _ _ _ _ _=>ar3 λ_ _ _=>rfl) λnd _ _ _ _ _ _ _ hr=>'d'
def cC(s:PFx [false,false,false,false]):PSt:=
 (ao (xIf (qOf (pOp bEq (pFn bA (aa (af 1) ag)) (ah 1))) (aw (pOp bIx (af 1) (ah 0))) xNx)
  (ao (aE false 4 (mL [("nearest_to_half",bM),("fewest_to_third",bN)] (af 3) (aa (af 2) ag)))
  (ao (jN (ak cM (aa (af 0) (aa (af 2) (aa (af 4) ag)))) (gtX (gtU 2 (bR (gtN 5) (bR (gtN 6) fJ)))))
  (ao (aE false 7 (ak s.fn (aa (af 5) (aa (pSl (af 1) oN (oS (af 4))) (aa (pSl (af 2) oN (oS (af 4))) (aa (af 3) ag))))))
  (ao (aE false 8 (ak s.fn (aa (af 6) (aa (pSl (af 1) (oS (af 4)) oN) (aa (pSl (af 2) (oS (af 4)) oN) (aa (af 3) ag))))))
  (aw (aH (aa (ak bY (aa (af 0) ag)) (aa (aH (aa (af 7) (aa (af 8) ag))) ag)))))))))
def bo:Nat->PFx [false,false,false,false]
 |0=>PFx.none [false,false,false,false]
 |n+1=>PFx.of [false,false,false,false] 9 (cC (bo n))
theorem fo(T:TT K mg):∀n,Callee P w K mg base "tree_in_two" (8+n) ["room", "numbers", "weights", "how_many"] (sp3 K mg (bo n).fn)
 |0=>ok0 (T.d.get 66 rfl) (aC (N:=["room", "numbers", "weights", "how_many", "many", "first", "second", "ahead", "behind"]) (by decide)) (λ_ _ _ _ _ _=>ar4 λ_ _ _ _=>rfl)
 |
  n+1=>by
  have ih:=fo T n;show Callee _ _ _ _ _ _ _ _ (sp3 _ _ (PFx.of [false,false,false,false] 9 (cC (bo n))).fn);exact okX (k:=8+n) (T.d.get 66 rfl) (aC (N:=["room", "numbers", "weights", "how_many", "many", "first", "second", "ahead", "behind"]) (by decide)) (λ_ _ _ _ _ _=>ar4 λ_ _ _ _=>rfl) λnd _ _ _ _ _ _ _ hr=>(aA 'd' (aA (zsS 4 nd (Cg (vJ (fU T) (hr.mono (by omega)) (vJ (fT T) (hr.mono (by omega)) IT)) 'd' (Ed DK) 'd')) 'd'))
def jU:PSt:=
 (ao (aW (ak aU (aa (af 0) ag)))
  (ao (aW (ak aG (aa (af 1) ag)))
  (aw (ak (bo 42).fn (aa (af 0) (aa (pFn jB (aa (pFn bA (aa (af 1) ag)) ag)) (aa (af 1) (aa (dE "nearest_to_half") ag))))))))
def cD:PFn:=fnP [false,false] 2 jU
def oI:cD.ms=[false,false]:=rfl
def mB(T:TT K mg):Callee P w K mg base "halves_tree" 51 ["room", "weights"] (sp3 K mg cD):=okP (T.d.get 64 rfl) (aC (N:=["room", "weights"]) (by decide)) (λ_ _ _ _ _ _=>ar2 λ_ _=>rfl) λnd _ _ _ _ _ _ _ hr=>'d'
def lD:PSt:=
 (ao (xIf (qOf (pOp bEq (af 0) (aB "across"))) (aw (aB "down")) xNx)
  (aw (aB "across")))
def eg:PFn:=fnP [false] 1 lD
def sX:eg.ms=[false]:=rfl
def qb(T:TT K mg):Callee P w K mg base "other_way" 1 ["way"] (sp3 K mg eg):=okP (T.d.get 34 rfl) (aC (N:=["way"]) (by decide)) (λ_ _ _ _ _ _=>ar1 λ_=>rfl) λnd _ _ _ _ _ _ _ hr=>'d'
def je:PSt:=
 (ao (aE false 3 (af 0))
  (ao (xIf (qOf (pOp bLt (af 2) (pFn bA (aa (af 1) ag)))) (aE false 3 (pOp bIx (ak cM (aa (af 0) (aa (af 1) (aa (af 2) ag)))) (ah 0))) xNx)
  (ao (aE false 4 (ak eI (aa (af 3) (aa (ak eg (aa (ak bY (aa (af 0) ag)) ag)) (aa (pSl (af 1) oN (oS (af 2))) ag)))))
  (aw (ak cW (aa (pLC (dJ (af 4)) [none] (by decide) (gtN 0) qY (ak fZ (aa (af 0) ag))) ag))))))
def cH:PFn:=fnP [false,false,false] 5 je
def m7:cH.ms=[false,false,false]:=rfl
def lU(T:TT K mg):Callee P w K mg base "worst_of_row" 7 ["room", "weights", "many"] (sp3 K mg cH):=okP (T.d.get 49 rfl) (aC (N:=["room", "weights", "many", "part", "boxes"]) (by decide)) (λ_ _ _ _ _ _=>ar3 λ_ _ _=>rfl) λnd _ _ _ _ _ _ _ hr=>(aA 'd' (aA 'd' (aA 'd' (cV (dS (zcF (iB T) hr (bO (iU ["room", "weights", "many", "part", "boxes"] (au (top 49)).names ["box"] [none] 'd' (λnd _ _ _ _ _=>'d') (λ_ _ _ _ _ _=>cq) (λnd _ _ _ _ _=>'d')) 'd')))))))
def dU:PSt:=
 (ao (aE false 4 (ak cH (aa (af 0) (aa (af 1) (aa (pOp bg (af 2) (ah 1)) ag)))))
  (ao (xIf (qOf (ak dD (aa (af 3) (aa (af 4) ag)))) xBk xNx)
  (ao (aE false 3 (af 4))
  (su 2 rZ (ah 1)))))
def j9:PSt:=
 (ao (aE false 2 (ah 1))
  (ao (aE false 3 (ak cH (aa (af 0) (aa (af 1) (aa (af 2) ag)))))
  (ao (xWh (qOf (pOp bLt (af 2) (pFn bA (aa (af 1) ag)))) (dU))
  (aw (af 2)))))
def eG:PFn:=fnP [false,false] 5 j9
def qt:eG.ms=[false,false]:=rfl
def oX(T:TT K mg):Callee P w K mg base "row_length" 8 ["room", "weights"] (sp3 K mg eG):=okP (T.d.get 48 rfl) (aC (N:=["room", "weights", "many", "before", "behind"]) (by decide)) (λ_ _ _ _ _ _=>ar2 λ_ _=>rfl) λnd _ _ _ _ _ _ _ hr=>'d'
def jZ:PSt:=
 (ao (xIf (qOf (pOp bEq (pFn bA (aa (af 1) ag)) (ah 1))) (aw (pOp bIx (af 1) (ah 0))) xNx)
  (aw (aH (aa (ak eg (aa (ak bY (aa (af 0) ag)) ag)) (aa (pFn fD (aa (af 1) ag)) ag)))))
def dP:PFn:=fnP [false,false] 2 jZ
def ou:dP.ms=[false,false]:=rfl
def mF(T:TT K mg):Callee P w K mg base "tree_of_row" 6 ["room", "numbers"] (sp3 K mg dP):=okP (T.d.get 47 rfl) (aC (N:=["room", "numbers"]) (by decide)) (λ_ _ _ _ _ _=>ar2 λ_ _=>rfl) λnd _ _ _ _ _ _ _ hr=>'d'
def cJ(s:PFx [false,false,false]):PSt:=
 (ao (aE false 3 (ak eG (aa (af 0) (aa (af 2) ag))))
  (ao (aE false 4 (ak dP (aa (af 0) (aa (pSl (af 1) oN (oS (af 3))) ag))))
  (ao (xIf (qOf (pOp bEq (af 3) (pFn bA (aa (af 1) ag)))) (aw (af 4)) xNx)
  (ao (aE false 5 (pOp bIx (ak cM (aa (af 0) (aa (af 2) (aa (af 3) ag)))) (ah 1)))
  (aw (aH (aa (ak bY (aa (af 0) ag)) (aa (aH (aa (af 4) (aa (ak s.fn (aa (af 5) (aa (pSl (af 1) (oS (af 3)) oN) (aa (pSl (af 2) (oS (af 3)) oN) ag)))) ag))) ag))))))))
def bp:Nat->PFx [false,false,false]
 |0=>PFx.none [false,false,false]
 |n+1=>PFx.of [false,false,false] 6 (cJ (bp n))
theorem eV(T:TT K mg):∀n,Callee P w K mg base "tree_of_rows" (10+n) ["room", "numbers", "weights"] (sp3 K mg (bp n).fn)
 |0=>ok0 (T.d.get 46 rfl) (aC (N:=["room", "numbers", "weights", "many", "tree", "rest"]) (by decide)) (λ_ _ _ _ _ _=>ar3 λ_ _ _=>rfl)
 |
  n+1=>by
  have ih:=eV T n;show Callee _ _ _ _ _ _ _ _ (sp3 _ _ (PFx.of [false,false,false] 6 (cJ (bp n))).fn);exact okX (k:=10+n) (T.d.get 46 rfl) (aC (N:=["room", "numbers", "weights", "many", "tree", "rest"]) (by decide)) (λ_ _ _ _ _ _=>ar3 λ_ _ _=>rfl) λnd _ _ _ _ _ _ _ hr=>'d'
def lB:PSt:=
 (ao (aW (ak aU (aa (af 0) ag)))
  (ao (aW (ak aG (aa (af 1) ag)))
  (aw (ak (bp 42).fn (aa (af 0) (aa (pFn jB (aa (pFn bA (aa (af 1) ag)) ag)) (aa (af 1) ag)))))))
def de:PFn:=fnP [false,false] 2 lB
def rK:de.ms=[false,false]:=rfl
def pR(T:TT K mg):Callee P w K mg base "rows_tree" 53 ["room", "weights"] (sp3 K mg de):=okP (T.d.get 43 rfl) (aC (N:=["room", "weights"]) (by decide)) (λ_ _ _ _ _ _=>ar2 λ_ _=>rfl) λnd _ _ _ _ _ _ _ hr=>'d'
def dH:PSt:=
 (aw (pFn rR (aa (pFn bA (aa (af 0) ag)) (aa (af 0) ag))))
def aT:PFn:=fnP [false] 1 dH
def iX:aT.ms=[false]:=rfl
def iF(T:TT K mg):Callee P w K mg base "by_falling_weights" 1 ["weights"] (sp3 K mg aT):=okPL (T.d.get 45 rfl) T.l (aC (N:=["weights"]) (by decide)) (λ_ _ _ _ _ _=>ar1 λ_=>rfl) λnd _ _ _ _ _ _ _ _ e2 e3 hr=>(cV (dS (Fl rfl hr.depth rfl (T.n rfl) rfl (T.n rfl) rfl rfl rfl e2 e3 'd')))
def iC:PSt:=
 (ao (aW (ak aU (aa (af 0) ag)))
  (ao (aW (ak aG (aa (af 1) ag)))
  (ao (aE false 2 (ak aT (aa (af 1) ag)))
  (aw (ak (bp 42).fn (aa (af 0) (aa (af 2) (aa (pLC (dJ (af 2)) [none,some 1] (by decide) (gtN 0) qY (pOp bIx (af 1) (af 0))) ag))))))))
def bK:PFn:=fnP [false,false] 3 iC
def mw:bK.ms=[false,false]:=rfl
def k8(T:TT K mg):Callee P w K mg base "greatest_tree" 53 ["room", "weights"] (sp3 K mg bK):=okP (T.d.get 44 rfl) (aC (N:=["room", "weights", "numbers"]) (by decide)) (λ_ _ _ _ _ _=>ar2 λ_ _=>rfl) λnd _ _ _ _ _ _ _ hr=>(aA 'd' (aA 'd' (aA 'd' (cV (dS (zcF (eV T 42) hr (bO 'd' (bO 'd' (bO (iU ["room", "weights", "numbers"] (au (top 44)).names ["number", "weights"] [none,some 1] 'd' (λnd _ _ _ _ _=>'d') (λ_ _ _ _ _ _=>cq) (λnd _ _ _ _ _=>'d')) 'd')))))))))
def jX:PSt:=
 (ao (aW (ak aU (aa (af 0) ag)))
  (ao (aW (ak aG (aa (af 1) ag)))
  (ao (aE false 2 (ak aT (aa (af 1) ag)))
  (aw (ak (bo 42).fn (aa (af 0) (aa (af 2) (aa (pLC (dJ (af 2)) [none,some 1] (by decide) (gtN 0) qY (pOp bIx (af 1) (af 0))) (aa (dE "fewest_to_third") ag)))))))))
def cA:PFn:=fnP [false,false] 3 jX
def n9:cA.ms=[false,false]:=rfl
def mS(T:TT K mg):Callee P w K mg base "thirds_tree" 51 ["room", "weights"] (sp3 K mg cA):=okP (T.d.get 65 rfl) (aC (N:=["room", "weights", "numbers"]) (by decide)) (λ_ _ _ _ _ _=>ar2 λ_ _=>rfl) λnd _ _ _ _ _ _ _ hr=>(aA 'd' (aA 'd' (aA 'd' (cV (dS (zcF (fo T 42) hr (bO 'd' (bO 'd' (bO (iU ["room", "weights", "numbers"] (au (top 65)).names ["number", "weights"] [none,some 1] 'd' (λnd _ _ _ _ _=>'d') (λ_ _ _ _ _ _=>cq) (λnd _ _ _ _ _=>'d')) 'd')))))))))
def jj:PSt:=
 (ao (aW (ak aU (aa (af 1) ag)))
  (ao (aW (ak aG (aa (af 2) ag)))
  (ao (xIf (qOf (pOp bEq (pFn bA (aa (af 2) ag)) (ah 1))) (aw (ah 0)) xNx)
  (aw (aH (aa (af 0) (aa (pFn mZ (aa (pFn bA (aa (af 2) ag)) ag)) ag)))))))
def dB:PFn:=fnP [false,false,false] 3 jj
def mD:dB.ms=[false,false,false]:=rfl
def lJ(T:TT K mg):Callee P w K mg base "side_by_side" 5 ["way", "room", "weights"] (sp3 K mg dB):=okP (T.d.get 63 rfl) (aC (N:=["way", "room", "weights"]) (by decide)) (λ_ _ _ _ _ _=>ar3 λ_ _ _=>rfl) λnd _ _ _ _ _ _ _ hr=>'d'
def dY:PSt:=
 (ao (aW (ak aQ (aa (af 0) ag)))
  (ao (xIf (qOf (pOp bEq (af 0) (aB "halves"))) (aw (ak cD (aa (af 1) (aa (af 2) ag)))) xNx)
  (ao (xIf (qOf (pOp bEq (af 0) (aB "rows"))) (aw (ak de (aa (af 1) (aa (af 2) ag)))) xNx)
  (ao (xIf (qOf (pOp bEq (af 0) (aB "greatest"))) (aw (ak bK (aa (af 1) (aa (af 2) ag)))) xNx)
  (ao (xIf (qOf (pOp bEq (af 0) (aB "thirds"))) (aw (ak cA (aa (af 1) (aa (af 2) ag)))) xNx)
  (aw (ak dB (aa (af 0) (aa (af 1) (aa (af 2) ag))))))))))
def aS:PFn:=fnP [false,false,false] 3 dY
def tU:aS.ms=[false,false,false]:=rfl
def qr(T:TT K mg):Callee P w K mg base "rule_tree" 54 ["rule", "room", "weights"] (sp3 K mg aS):=okP (T.d.get 61 rfl) (aC (N:=["rule", "room", "weights"]) (by decide)) (λ_ _ _ _ _ _=>ar3 λ_ _ _=>rfl) λnd _ _ _ _ _ _ _ hr=>'d'
def pH:PSt:=
 (aw (ak fQ (aa (af 1) (aa (af 2) (aa (ak aS (aa (af 0) (aa (af 1) (aa (af 2) ag)))) ag)))))
def eJ:PFn:=fnP [false,false,false] 3 pH
def xC:eJ.ms=[false,false,false]:=rfl
def uS(T:TT K mg):Callee P w K mg base "by_rule" 55 ["rule", "room", "weights"] (sp3 K mg eJ):=okP (T.d.get 62 rfl) (aC (N:=["rule", "room", "weights"]) (by decide)) (λ_ _ _ _ _ _=>ar3 λ_ _ _=>rfl) λnd _ _ _ _ _ _ _ hr=>'d'
def m8:PSt:=
 (aw (pOp bIx (ak gQ (aa (ak eJ (aa (af 0) (aa (af 1) (aa (af 2) ag)))) ag)) (ah 0)))
def eP:PFn:=fnP [false,false,false] 3 m8
def uT:eP.ms=[false,false,false]:=rfl
def sy(T:TT K mg):Callee P w K mg base "worst_by" 56 ["rule", "room", "weights"] (sp3 K mg eP):=okP (T.d.get 75 rfl) (aC (N:=["rule", "room", "weights"]) (by decide)) (λ_ _ _ _ _ _=>ar3 λ_ _ _=>rfl) λnd _ _ _ _ _ _ _ hr=>'d'
def gU:PSt:=
 (aw (pOp bg (pOp oE (aY (aa (ah 1) ag)) (pOp fX (af 1) (ah 1))) (aY (aa (pOp bg (pOp fX (af 0) (af 1)) (ah 1)) ag))))
def cL:PFn:=fnP [false,false] 2 gU
def qz:cL.ms=[false,false]:=rfl
def oP(T:TT K mg):Callee P w K mg base "first_list" 1 ["whole", "many"] (sp3 K mg cL):=okP (T.d.get 73 rfl) (aC (N:=["whole", "many"]) (by decide)) (λ_ _ _ _ _ _=>ar2 λ_ _=>rfl) λnd _ _ _ _ _ _ _ hr=>'d'
def bT:PSt:=
 (ao (lH 4 5 (aa (pFn bz (aa (pSl (af 0) (oS (pOp bg (af 3) (ah 1))) oN) ag)) (aa (pOp fX (pOp fX (af 2) (af 3)) (ah 1)) ag)))
  (xIf (qOf (pOp bGt (af 4) (af 5))) (aw (pOp bg (pOp bg (pSl (af 0) oN (oS (af 3))) (aY (aa (pOp bg (pOp bIx (af 0) (af 3)) (ah 1)) ag))) (ak cL (aa (pOp fX (af 4) (ah 1)) (aa (af 5) ag))))) xNx))
def fj:PSt:=
 (ao (aW (ak aG (aa (af 0) ag)))
  (ao (lH 1 2 (aa (pFn bz (aa (af 0) ag)) (aa (pFn bA (aa (af 0) ag)) ag)))
  (ao (lO (xW (aa (pOp fX (af 2) (ah 2)) (aa (pUn gb (ah 1)) (aa (pUn gb (ah 1)) ag)))) (gtN 3) (bT))
  (ao (xIf (qAn (qOf (pOp bLt (af 2) fM)) (qOf (pOp bLt (af 2) (af 1)))) (aw (ak cL (aa (af 1) (aa (pOp bg (af 2) (ah 1)) ag)))) xNx)
  (aw (aY (aa (pOp bg (af 1) (ah 1)) ag)))))))
def bQ:PFn:=fnP [false] 6 fj
def nN:bQ.ms=[false]:=rfl
def ni(T:TT K mg):Callee P w K mg base "list_behind" 4 ["weights"] (sp3 K mg bQ):=okP (T.d.get 74 rfl) (aC (N:=["weights", "whole", "many", "at", "rest", "places"]) (by decide)) (λ_ _ _ _ _ _=>ar1 λ_=>rfl) λnd _ _ _ _ _ _ _ hr=>'d'
def eB:PSt:=
 (ao (xIf (qOf (ak dD (aa (ak eP (aa (af 0) (aa (af 2) (aa (af 4) ag)))) (aa (ak eP (aa (af 1) (aa (af 2) (aa (af 4) ag)))) ag)))) (aw (af 4)) xNx)
  (aE false 4 (ak bQ (aa (af 4) ag))))
def cG:PSt:=
 (ao (aW (ak aQ (aa (af 0) ag)))
  (ao (aW (ak aQ (aa (af 1) ag)))
  (ao (aW (ak aU (aa (af 2) ag)))
  (ao (xIf (qO (qNo (qOf (ak bu (aa (af 3) ag)))) (qO (qOf (pOp bLt (af 3) (ah 1))) (qOf (pOp bGt (af 3) lb)))) (eC "NoWeights" (aa (aB "this is no sum that lists are gone through to") ag)) xNx)
  (ao (aE false 4 (aY (aa (ah 1) ag)))
  (ao (xWh (qOf (pOp bLe (pFn bz (aa (af 4) ag)) (af 3))) (eB))
  (aw iS)))))))
def aN:PFn:=fnP [false,false,false,false] 5 cG
def m3:aN.ms=[false,false,false,false]:=rfl
def ma(T:TT K mg):Callee P w K mg base "first_better" 57 ["one", "other", "room", "most"] (sp3 K mg aN):=okP (T.d.get 76 rfl) (aC (N:=["one", "other", "room", "most", "weights"]) (by decide)) (λ_ _ _ _ _ _=>ar4 λ_ _ _ _=>rfl) λnd _ _ _ _ _ _ _ hr=>'d'
def fI:PSt:=
 (ao (aE false 1 (aY (aa (pFn (aq ar) (aa (af 0) (aa (dE "NoBox") ag))) (aa (pFn (aq ar) (aa (af 0) (aa (dE "NoWeights") ag))) (aa (pFn (aq ar) (aa (af 0) (aa (dE "TooMany") ag))) ag)))))
  (ao (aE false 1 (pOp bg (af 1) (aY (aa (pFn (aq ar) (aa (af 0) (aa (dE "NoKind") ag))) (aa (pFn (aq ar) (aa (af 0) (aa (dE "NoRule") ag))) (aa (pFn (aq ar) (aa (af 0) (aa (dE "NoThing") ag))) ag))))))
  (ao (aE false 1 (pOp bg (af 1) (aY (aa (pFn (aq ar) (aa (af 0) (aa (dE "NoCut") ag))) (aa (pFn (aq ar) (aa (af 0) (aa (dE "NoText") ag))) (aa (pFn (aq ar) (aa (af 0) (aa (dE "NoRow") ag))) ag))))))
  (ao (aE false 1 (pOp bg (af 1) (aY (aa (pFn (aq ar) (aa (af 0) (aa (dE "NoName") ag))) (aa (pFn (aq ar) (aa (af 0) (aa (dE "Taken") ag))) (aa (pFn (aq ar) (aa (af 0) (aa (dE "Unknown") ag))) ag))))))
  (ao (aE false 1 (pOp bg (af 1) (aY (aa (pFn (aq ar) (aa (af 0) (aa (dE "NoFraction") ag))) (aa (pFn (aq ar) (aa (af 0) (aa (dE "NoWay") ag))) (aa (pFn (aq ar) (aa (af 0) (aa (dE "NoTree") ag))) ag))))))
  (ao (aE false 2 (aY (aa (aB "box") (aa (aB "weights") (aa (aB "many") (aa (aB "kind") (aa (aB "rule") (aa (aB "thing") (aa (aB "cut") (aa (aB "text") (aa (aB "row") (aa (aB "name") (aa (aB "taken") (aa (aB "unknown") ag))))))))))))))
  (ao (aE false 2 (pOp bg (af 2) (aY (aa (aB "fraction") (aa (aB "way") (aa (aB "tree") ag))))))
  (ao (xIf (qO (qOf (pOp bNe (kJ gM (af 1) (aa (pBl true) ag)) (ah 1))) (qNo (qOf (pFn (aq ar) (aa (af 0) (aa (pTy "ValueError") ag)))))) (aw (aB "odd")) xNx)
  (aw (pOp bIx (af 2) (kJ cT (af 1) (aa (pBl true) ag))))))))))))
def bC:PFn:=fnP [false] 3 fI
def u7:bC.ms=[false]:=rfl
def kB(T:TT K mg):CalleeU P w K mg base "_law_word" 1 ["_law_error"] (sp3 K mg bC):=okPU (T.d.get 82 rfl) (aC (N:=["_law_error", "_law_some", "_law_words"]) (by decide)) (λ_ _ _ _ _ _=>ar1 λ_=>rfl) λnd _ _ _ _ _ _ _ hr=>'d'
def g9:PSt:=
 (ao (xZ fi 5 (aE false 4 (ak aN (aa (af 0) (aa (af 1) (aa (af 2) (aa (af 3) ag)))))) (aw (ak bC (aa (af 5) ag))))
  (aw (pOp bIx (aY (aa (aB "odd") (aa (aB "told") ag))) (pFn mH (aa (pOr (pOp bIs (af 4) iS) (pFn (aq ar) (aa (af 4) (aa (pTy "list") ag)))) ag)))))
def cc:PFn:=fnP [false,false,false,false] 6 g9
def qE:cc.ms=[false,false,false,false]:=rfl
def oB(T:TT K mg):Callee P w K mg base "_law_better" 58 ["_law_one_here", "_law_other", "_law_room", "_law_most"] (sp3 K mg cc):=okP (T.d.get 84 rfl) (aC (N:=["_law_one_here", "_law_other", "_law_room", "_law_most", "_law_found", "e"]) (by decide)) (λ_ _ _ _ _ _=>ar4 λ_ _ _ _=>rfl) λnd _ _ _ _ _ _ _ hr=>(aA (zy (i:=5) qT nd rfl rfl rfl (T.m rfl) (T.h (.head _)).1 (T.h (.head _)).2 (λ_ _ _ hx=>'d') (λ_=>(cV (dS (o9 (kB T) (hr.toU _ (by omega)) rfl xi 'd'))))) 'd')
def ir:PSt:=
 (ao (aE false 1 (aY (aa (aB "across") (aa (aB "down") (aa (aB "halves") (aa (aB "rows") (aa (aB "greatest") (aa (aB "thirds") ag))))))))
  (ao (lH 2 3 (aa (pOp bIx (af 1) (ak aD (aa (af 0) (aa (ah 6) ag)))) (aa (pOp bIx (af 1) (ak aD (aa (af 0) (aa (ah 6) ag)))) ag)))
  (ao (xV 4 5 6 (aH (aa (aH (aa (ah 0) (aa (ah 1) ag))) (aa (aH (aa (pUn gb (ah 1)) (aa (ah 2) ag))) (aa (aH (aa (pOp bg (ah 1) (ak aD (aa (af 0) (aa (ah 9) ag)))) (aa (ah 1) ag))) (aa (aH (aa (ah 1) (aa (ah 3) ag))) ag))))) (pOp bg (ah 1) (ak aD (aa (af 0) (aa (ah 4) ag)))))
  (ao (aE false 7 (ak aD (aa (af 0) (aa (ah 8) ag))))
  (ao (aE false 8 (pOp bIx (aY (aa (aB "") (aa (aB "Across") (aa (aB "down ") (aa (aB "third") (aa (aB "square") (aa (aB "order") (aa (aB "halve") ag)))))))) (ak aD (aa (af 0) (aa (ah 7) ag)))))
  (ao (xIf (qOf (pOp bLt (af 7) (ah 3))) (ao (jN (pOp bIx (aY (aa (aH (aa (af 8) (aa (af 3) ag))) (aa (aH (aa (af 2) (aa (af 8) ag))) (aa (aH (aa (af 8) (aa (af 8) ag))) ag)))) (af 7)) (gtX (gtT 2 (bR (gtN 2) (bR (gtN 3) fJ)))))
  (aW (jP 5 fm (aa (aB "rule") ag)))) xNx)
  (ao (xIf (qOf (pOp bEq (ak aD (aa (af 0) (aa (ah 4) ag))) (ah 0))) (ao (aE false 4 (ak eO (aa (af 0) ag)))
  (aW (jP 5 fm (aa (aB "box") ag)))) xNx)
  (ao (xIf (qOf (pOp bEq (ak aD (aa (af 0) (aa (ah 3) ag))) (ah 0))) (ao (aE false 6 (pOp bIx (aY (aa (ah 0) (aa (ah 9) (aa (pUn gb (ah 1)) (aa (pBl true) (aa iS (aa (aB "3") (aa (pOp ko (ah 10) (ah 29)) (aa (pBl false) (aa (aH (aa (ah 1) ag)) (aa (aY (aa (ah 2) ag)) ag))))))))))) (ak aD (aa (af 0) (aa (ah 10) ag)))))
  (aW (jP 5 fm (aa (aB "weights") ag)))) xNx)
  (aw (pOp bEq (ak cc (aa (af 2) (aa (af 3) (aa (af 4) (aa (af 6) ag))))) (pOp bIx (pOp bg (af 5) (aY (aa (aB "told") ag))) (ah 0))))))))))))
def ip:PFn:=fnP [true] 9 ir
def xD:ip.ms=[true]:=rfl
def uM(T:TT K mg):Callee P w K mg base "_law_one" 59 ["_law_feed_here"] (sp3 K mg ip):=okP (T.d.get 85 rfl) (aC (N:=["_law_feed_here", "_law_rules", "_law_one_here", "_law_other", "_law_room", "_law_due", "_law_most", "_law_way", "_law_odd"]) (by decide)) (λ_ _ _ _ _ _=>ar1 λ_=>rfl) λnd _ _ _ _ _ _ _ hr=>(aA 'd' (aA 'd' (aA (IZ nd 'd' 'd') 'd')))
def gZ:PSt:=
 (ao (xZ fi 2 (aE false 1 (ak bQ (aa (af 0) ag))) (aw (ak bC (aa (af 2) ag))))
  (aw (pOp bIx (aY (aa (aB "odd") (aa (aB "told") ag))) (pFn mH (aa (pFn (aq ar) (aa (af 1) (aa (pTy "list") ag))) ag)))))
def bH:PFn:=fnP [false] 3 gZ
def qF:bH.ms=[false]:=rfl
def n8(T:TT K mg):Callee P w K mg base "_law_behind" 5 ["_law_weights"] (sp3 K mg bH):=okP (T.d.get 83 rfl) (aC (N:=["_law_weights", "_law_found", "e"]) (by decide)) (λ_ _ _ _ _ _=>ar1 λ_=>rfl) λnd _ _ _ _ _ _ _ hr=>(aA (zy (i:=2) qT nd rfl rfl rfl (T.m rfl) (T.h (.head _)).1 (T.h (.head _)).2 (λ_ _ _ hx=>'d') (λ_=>(cV (dS (o9 (kB T) (hr.toU _ (by omega)) rfl xi 'd'))))) 'd')
def dm:PSt:=
 (ao (aE true 1 (pLC (kW (aa (pOp bg (ah 1) (ak aD (aa (af 0) (aa (ah 5) ag)))) ag)) [none,some 0] (by decide) (gtN 0) qY (pOp bg (ah 1) (ak aD (aa (af 1) (aa (ah 9) ag))))))
  (ao (aE false 2 (ak aD (aa (af 0) (aa (pFn bA (aa (af 1) ag)) ag))))
  (ao (fP 1 seL (af 2) (pOp bIx (aY (aa (ah 0) (aa (pUn gb (ah 1)) (aa (pBl true) (aa iS (aa (aB "2") (aa (aH (aa (ah 1) ag)) (aa (aY (aa (ah 1) ag)) (aa (pUn gb (pOp ko (ah 10) (ah 20))) ag))))))))) (ak aD (aa (af 0) (aa (ah 8) ag)))))
  (aw (pOp bIx (aY (aa (af 1) (aa (af 1) (aa (af 1) (aa (aY ag) (aa (aH (aa (ah 1) (aa (ah 2) ag))) (aa iS (aa (ah 3) (aa (aB "12") (aa pD0 ag)))))))))) (ak aD (aa (af 0) (aa (ah 9) ag))))))))
def dk:PFn:=fnP [true] 3 dm
def km:dk.ms=[true]:=rfl
def j3(T:TT K mg):Callee P w K mg base "_law_odd_weights" 2 ["_law_feed_here"] (sp3 K mg dk):=okP (T.d.get 81 rfl) (aC (N:=["_law_feed_here", "_law_weights", "_law_at"]) (by decide)) (λ_ _ _ _ _ _=>ar1 λ_=>rfl) λnd _ _ _ _ _ _ _ hr=>(aA (yC nd ["_law_feed_here", "_law_weights", "_law_at"] (au (top 81)).names ["_law_k", "_law_feed_here"] [none,some 0] 'd' (λnd _ _ _ _ _=>'d') (λ_ _ _ _ _ _=>cq) (λnd _ _ _ _ _=>'d')) 'd')
def m6:PSt:=
 (ao (xIf (qO (qNo (qOf (ak ip (aa (af 1) ag)))) (qOf (pOp bNe (ak bH (aa (ak dk (aa (af 1) ag)) ag)) (aB "weights")))) (aw (pBl false)) xNx)
  (ao (aE false 3 (pOp bg (ah 39) (ak aD (aa (af 1) (aa (ah 4) ag)))))
  (ao (aE true 4 (pLC (kW (aa (af 3) ag)) [none,some 1] (by decide) (gtN 0) qY (pOp bg (ah 1) (ak aD (aa (af 1) (aa (ah 9) ag))))))
  (ao (xIf (qOf (pOp bNe (ak bH (aa (af 4) ag)) (pOp bIx (aY (aa (aB "told") (aa (aB "many") ag))) (pFn mH (aa (pOp bGt (af 3) (ah 40)) ag))))) (aw (pBl false)) xNx)
  (ao (fP 4 seL (ak aD (aa (af 1) (aa (af 3) ag))) (pOp bIx (aY (aa (ah 0) (aa (pBl true) (aa iS (aa (aB "1") ag))))) (ak aD (aa (af 1) (aa (ah 4) ag)))))
  (xIf (qOf (pOp bNe (ak bH (aa (af 4) ag)) (aB "weights"))) (aw (pBl false)) xNx))))))
def yz:PSt:=
 (ao (aE true 1 (ak fH (aa (af 0) ag)))
  (ao (lO (kW (aa (pOp bg (ah 4) (pFn uc (aa (ah 8) (aa (pFn bA (aa (af 0) ag)) ag)))) ag)) (gtN 2) (m6))
  (aw (pBl true))))
def qV:PFn:=fnP [false] 5 yz
def Gj(T:TT K mg):Callee P w K mg base "law" 60 ["_law_script"] (sp3 K mg qV):=okP (T.d.get 86 rfl) (aC (N:=["_law_script", "_law_feed_here", "_law_bout", "_law_many", "_law_weights"]) (by decide)) (λ_ _ _ _ _ _=>ar1 λ_=>rfl) λnd _ _ _ _ _ _ _ hr=>(aA 'd' (aA (yU own1 rfl 'd' 'd' (aA 'd' (aA 'd' (aA (yC nd ["_law_script", "_law_feed_here", "_law_bout", "_law_many", "_law_weights"] (au (top 86)).names ["_law_k", "_law_feed_here"] [none,some 1] 'd' (λnd _ _ _ _ _=>'d') (λ_ _ _ _ _ _=>cq) (λnd _ _ _ _ _=>'d')) 'd')))) 'd'))
end
noncomputable def fdD (cs:List Int) (a l:Int):Val:=.dct [(.inr "cells",.lst (cs.map .int)),(.inr "at",.int a),(.inr "left",.int l)]
def Fd(n:Nat)(v:Val):Prop:=∃cs a l,v=fdD cs a l/\0<=a/\a<=n
def Fd.mono{n m:Nat}{v:Val}(h:Fd n v)(q:n<=m):Fd m v:=by obtain⟨cs,a,l,e,h0,h1⟩:=h;exact⟨cs,a,l,e,h0,by omega⟩
def gT(cs:List Int)(a l:Int):gz.G (fdD cs a l) (.str "cells")=.val (.lst (cs.map .int)):=rfl
def mV(cs:List Int)(a l:Int):gz.G (fdD cs a l) (.str "at")=.val (.int a):=rfl
def jg(cs:List Int)(a l:Int):gz.G (fdD cs a l) (.str "left")=.val (.int l):=rfl
def ji(cs:List Int)(a l x:Int):seD.G (fdD cs a l) (.str "at") (.int x)=some (fdD cs x l):=rfl
def gW(cs:List Int)(a l x:Int):seD.G (fdD cs a l) (.str "left") (.int x)=some (fdD cs a x):=rfl
def qK:ko.G (.int 10) (.int 18)=.val (.int (10^18)):=xn ⟨by decide,by decide,by decide⟩
def jy{a m:Int}(h:0<m):0<=a.fmod m/\a.fmod m<m:=⟨Int.fmod_nonneg_of_pos a h,Int.fmod_lt_of_pos a h⟩
set_option hygiene false in
local macro_rules | `(tactic|simp![$args,*])=>do
 let l <- ("% dN Lg Ij MV LX Lp Iv qX MF LS KY BL yw Hy Jz JK Hg Kq JE Ir Ii Gx BS Jm KG Kl Av Gp Kn LG LQ v_bl Mp LW v_ty Ll v_un v_op L5 HV v_fn LB Mx Mh y_or La c_of c_tr c_an c_o c_no x_nx x_bk IS Mc Ga FU FJ JX Es x_if Mg Ng Ml Lu Fx CB Co g_n g_sn g_sc g_t g_x Ke Nj Lz L7 GB Nl Ld Nm MW MY G0 KQ KW Nd IM Be JH Mv Nq J3 Kx Hd Hm Mr K6 M9 v_lc Iw Ip IU o_n o_s v_sl v_d0 Mu fx_G MQ Mi k_lt k_le k_gt k_ge LP K3 k_ix Il Jf LC k_eq k_ne El k_is Lx Nv MN Nb LN Hl GA JG Dt bP List.getElem?_cons_zero List.getElem?_cons_succ List.set_cons_zero List.set_cons_succ List.length_cons List.length_nil Option.bind_some Option.map_some Option.isSome_some if_true if_false Bool.not_true Bool.not_false Bool.and_true Bool.true_and Bool.and_false Bool.false_and Bool.or_true Bool.true_or Bool.or_false Nat.reduceLeDiff Nat.reduceLT Nat.reduceAdd Nat.reduceSub Nat.zero_add Nat.add_zero Nat.sub_self List.cons_append List.nil_append List.append_nil List.replicate reduceCtorEq decide_true decide_false Bool.false_eq_true List.all_cons List.all_nil List.isEmpty_nil List.isEmpty_cons List.map_cons List.map_nil Int.reduceBEq Int.reduceLT Int.reduceAdd Int.reduceSub Int.cast_ofNat_Int Hu Gm JY H9 Jr Gy BA HX DD Aq EJ Fs Jb GF A4 GD Jp C4 IQ EH J9 C8 JT IX Fn K7 Ny Lk LL yJ AV zT yu uY yV DB Aw AR AK ati0 ati1 ati2 ati3 ati4 ati5 ati6 ati7 ixn0 ixn1 ixn2 ixn3 xQ bU JW KP Int.reduceNeg Gz Fc List.lookup_cons List.lookup_nil uw g_uL Ax uQ uJ nA pZ uR kY oM A1 sQ xU uO uK Gn nZ Dl tu mq A9 rO yo pY sS Bw BM An yX tJ uL uI kA j6 qu oI sX m7 qt ou rK iX mw n9 mD tU xC uT qz nN m3 u7 qE xD qF km u4 nz CL GH".splitOn " ").tail.mapM λs=>`(Lean.Parser.Tactic.simpLemma| $(Lean.mkIdent s.toName):term)
 `(tactic|simp only[$(l.toArray),*,$args,*])
def F8{ns:List Int}(hl:ns.length<=63):∃v,fH.G [.kl (ns.map .int)]=.ok (.new v) []/\Fd 0 v:=by
 refine⟨fdD ns 0 0,?_,ns,0,0,rfl,by omega,by omega⟩;unfold fH;rw[aF];unfold nK;have e:aSl (.kl (ns.map Val.int)) none (some 63)=.new (.lst (ns.map Val.int)):=by
  have:=KS (ns.map Val.int) none (some ((63:Nat):Int))
  rw[eZ,N5 (by rw[o_];exact hl)] at this;exact this
 have c:Val.items (.lst (ns.map Val.int))=some (ns.map Val.int):=rfl;simp![Ax,e,c];rfl
def a9{n:Nat}{v:Val}{m:Int}(f:Fd n v)(hn:n<=1000000000)(h0:0<m)(hm:Sm 8000 m):∃r v',aD.G [v,.int m]=.ok (.val (.int r)) [v']/\Fd (n+1) v'/\0<=r/\r<m:=by
 obtain⟨cs,a,l,rfl,a0,a1⟩:=f;have m0:m≠0:=by omega
 have d1:=λi=>jr (i:=i) m0;have d2:=λi=>rh (i:=i) (CDivB.of m0 hm);unfold aD;rw[aF];unfold nJ;have x1:bF.G (.int 61) (.int a)=.val (.int (61*a)):=cP (CMulA.left (by decide) (by decide));have x2:bF.G (.int (61*a)) (.int a)=.val (.int (61*a*a)):=cP (CMulA.right (by omega) (by omega));have x3:bF.G (.int 7) (.int a)=.val (.int (7*a)):=cP (CMulA.left (by decide) (by decide));have x4:∀x:Int,bF.G (.int x) (.int 48271)=.val (.int (x*48271)):=λx=>cP (CMulA.right (by decide) (by decide));have x5:∀x:Int,bF.G (.int x) (.int 69623)=.val (.int (x*69623)):=λx=>cP (CMulA.right (by decide) (by decide));have x6:bF.G (.int 7919) (.int a)=.val (.int (7919*a)):=cP (CMulA.left (by decide) (by decide));have x7:∀x:Int,bF.G (.int x) (.int 16811)=.val (.int (x*16811)):=λx=>cP (CMulA.right (by decide) (by decide));have y1:∀x:Int,eF.G (.int x) (.int 1000003)=.val (.int (x.fmod 1000003)):=λx=>jr (by decide);have y2:∀x:Int,eF.G (.int x) (.int 999983)=.val (.int (x.fmod 999983)):=λx=>jr (by decide);have y3:∀x:Int,eF.G (.int x) (.int 1999993)=.val (.int (x.fmod 1999993)):=λx=>jr (by decide);have y4:∀x:Int,eF.G (.int x) (.int 524287)=.val (.int (x.fmod 524287)):=λx=>jr (by decide);have y5:∀x:Int,ke.G (.int x) (.int 5)=.val (.int (x.fdiv 5)):=λx=>rh (CDivB.of (by decide) (sm8 (by decide)));by_cases hc:0<l
 .have hc':decide (0<l)=true:=E_ hc;refine⟨l.fmod m,fdD cs a (l.fdiv m),?_,⟨cs,a,_,rfl,a0,by omega⟩,jy h0⟩;simp![hc',d1,d2,gT,mV,jg,ji,gW]
 .have hc':decide (0<l)=false:=C_ hc;have f_:∀x:Int,∃r v',(R3F.ok (Rt.val (.int (x.fmod m))) [fdD cs (a+1) l]:R3F)=.ok (.val (.int r)) [v']/\Fd (n+1) v'/\0<=r/\r<m:=λx=>⟨_,_,rfl,⟨cs,_,_,rfl,by omega,by omega⟩,jy h0⟩;have z18:((10:Int)^18)=1000000000000000000:=by decide
  by_cases hl:0<cs.length
  .have r:=jy (a:=a) (m:=(cs.length:Nat)) (by omega);have hi:(a.fmod (cs.length:Nat)).toNat<cs.length:=by omega
   have at1:atI (cs.map Val.int) (a.fmod (cs.length:Nat))=some (.int cs[(a.fmod (cs.length:Nat)).toNat]):=aM r.1 (by rw[NB,B_ hi];rfl);have l1:decide ((0:Int)<((cs.length:Nat):Int))=true:=E_ (by omega);have e1:eF.G (.int a) (.int (cs.length:Nat))=.val (.int (a.fmod (cs.length:Nat))):=jr (by omega);by_cases hb:(10^18:Int)<=cs[(a.fmod (cs.length:Nat)).toNat]
   .have hb':=E_ hb;by_cases ha:a<(cs.length:Nat)
    .have ha':=E_ ha;refine⟨(cs[(a.fmod (cs.length:Nat)).toNat]).fmod m,fdD cs (a+1) ((cs[(a.fmod (cs.length:Nat)).toNat]).fdiv m),?_,⟨cs,_,_,rfl,by omega,by omega⟩,jy h0⟩;simp![hc',d1,d2,gT,mV,jg,ji,gW,o_,l1,e1,at1,qK,hb',ha']
    .have ha':=C_ ha;simp![hc',d1,d2,gT,mV,jg,ji,gW,o_,l1,e1,at1,qK,hb',ha',x1,x2,x3,x4,x5,x6,x7,y1,y2,y3,y4,y5];exact f_ _
   .have hb':=C_ hb;simp![hc',d1,d2,gT,mV,jg,ji,gW,o_,l1,e1,at1,qK,hb',x1,x2,x3,x4,x5,x6,x7,y1,y2,y3,y4,y5];exact f_ _
  .have l1:decide ((0:Int)<((cs.length:Nat):Int))=false:=C_ (by omega);have hb':decide ((10^18:Int)<=a)=false:=C_ (by rw[z18];omega);simp![hc',d1,d2,gT,mV,jg,ji,gW,o_,l1,qK,hb',x1,x2,x3,x4,x5,x6,x7,y1,y2,y3,y4,y5];exact f_ _
def AU(w:Bool):eD.G [.str (wy w)]=.ok (.val (.bl true)) []:=by
 have i1:∀x:Str,(aq ar).G [.str x,.ty "str"]=.val (.bl true):=λ_=>rfl;have i2:bIn.G (.str (wy w)) (.tup [.str "across",.str "down"])=.val (.bl true):=by cases w <;> rfl
 unfold eD;rw[aF];unfold l7;simp![i1,i2]
def zp{w:Bool}{ts:List Val}(h:2<=ts.length):c8.G [.tup [.str (wy w),.tup ts]]=.ok (.val (.bl true)) []:=by have e:=AU w;have i1:∀xs:List Val,(aq ar).G [.tup xs,.ty "tuple"]=.val (.bl true):=λ_=>rfl;have g:decide ((2:Int)<=(ts.length:Nat))=true:=E_ (by omega);unfold c8;rw[aF];unfold iP;simp![i1,e,xx,g]
def zE{a:Val}(h:lfV a=true):c8.G [a]=.ok (.val (.bl false)) []:=by
 have i1:(aq ar).G [a,.ty "tuple"]=.val (.bl false):=by cases a <;> first |rfl |(cases h;done)
 unfold c8;rw[aF];unfold iP;simp![i1]
def zF(k:Nat):bu.G [.int (k:Nat)]=.ok (.val (.bl true)) []:=by have i1:(aq ar).G [.int (k:Nat),.ty "int"]=.val (.bl true):=rfl;have i2:(aq ar).G [.int (k:Nat),.ty "bool"]=.val (.bl false):=rfl;unfold bu;rw[aF];unfold jS;simp![i1,i2]
theorem kq{n:Nat}(v:Val):∀(N:Nat) (st:List AT) (xs:List Int) (s4:Sl),AT.cntL st<=N->s4.pl=true->(∀t∈st,t.ok=true)->(∀k∈AT.lvsL st,k<n)->(AT.lvsL st).Nodup->(∀k∈AT.lvsL st,((k:Nat):Int)∉xs)->xs.length+(AT.lvsL st).length<=3000->AT.cntL st<=100000->
 ∃(ys:List Int) (s4':Sl),ys.length=xs.length+(AT.lvsL st).length/\(xWh (qTr (af 3)) dM).G [.sh v,.sh (.int (n:Nat)),.ow (.set xs),.ow (.lst (st.map atV)),s4]=.nx [.sh v,.sh (.int (n:Nat)),.ow (.set ys),.ow (.lst []),s4']
 |
  N,[],xs,s4,_,_,_,_,_,_,_,_=>⟨xs,s4,by simp [AT.lvsL],by
  rw[gA];simp![NV,oO,List.isEmpty_nil]⟩
 |
  0,t::ts,xs,s4,h,_,_,_,_,_,_,_=>by
  rw[AT.cntL] at h;cases t <;> (rw[AT.cnt] at h;omega)
 |
  N+1,t0::ts0,xs,s4,hN,h4,ho,hn,nd,hx,hl,hc=>by
  obtain⟨st,t,hst⟩:∃st t,t0::ts0=st++[t]:=⟨(t0::ts0).dropLast,(t0::ts0).getLast (by simp),(List.dropLast_concat_getLast (by simp)).symm⟩;rw[hst] at hN ho hn nd hx hl hc ⊢;rw[AT.lvsL_app] at hn nd hx hl;rw[AT.lvsL_app];rw[AT.cntL_app] at hN hc;have hn0:((st++[t]).map atV).isEmpty=false:=by cases st <;> rfl
  have c1:(qTr (af 3)).G [.sh v,.sh (.int (n:Nat)),.ow (.set xs),.ow (.lst ((st++[t]).map atV)),s4]=.ok true [.sh v,.sh (.int (n:Nat)),.ow (.set xs),.ow (.lst ((st++[t]).map atV)),s4]:=by simp![oO,hn0,Bool.not_false]
  have hto:=ho t (by simp);rw[gA,c1];show ∃ys s4',_/\((dM.G _).loop _)=_;rw[NT,y_,NV];cases t with
  |
   lf k=>
   simp only[AT.lvsL,AT.lvs,NP,G_,D_,NC,AT.cntL,AT.cnt] at hn nd hx hl hN hc ⊢;have hk:=hn k (by simp);have hkx:=hx k (by simp);have nda:=List.nodup_append.mp nd;obtain⟨ys,s4',q1,q2⟩:=kq (n:=n) v N st (gc xs (k:Nat)) (.sh (.int (k:Nat))) (by omega) rfl (λt ht=>ho t (by simp [ht])) (λj hj=>hn j (by simp [hj])) nda.1 (λj hj z=>by
    unfold gc at z;rw[if_neg hkx] at z;rcases F_.mp z with z |z
    .exact nda.2.2 j hj k (by simp) (Int.ofNat.inj z)
    .exact hx j (by simp [hj]) z) (by unfold gc;rw[if_neg hkx,D_];omega) (by omega)
   refine⟨ys,s4',by rw[q1];unfold gc;rw[if_neg hkx,D_];omega,?_⟩;have b1:=zE (a:=.int (k:Nat)) rfl;have w1:=zF k;have l0:decide (((k:Nat):Int)<0)=false:=C_ (by omega);have l1:decide (((n:Nat):Int)<=(k:Nat))=false:=C_ (by omega);have in1:decide (((k:Nat):Int)∈xs)=false:=C_ hkx;have av:atV (.lf k)=.int (k:Nat):=rfl;have xl:xs.length<4000:=by omega
   have bb:dM.G [.sh v,.sh (.int (n:Nat)),.ow (.set xs),.ow (.lst (st.map atV++[atV (.lf k)])),s4]=.nx [.sh v,.sh (.int (n:Nat)),.ow (.set (gc xs (k:Nat))),.ow (.lst (st.map atV)),.sh (.int (k:Nat))]:=by unfold dM;rw[av];simp![mR,h4,b1,w1,l0,l1,LZ,in1,GU,ud,Dc,xl]
   rw[bb];exact q2
  |
   nd w ts=>
   have ho':=hto;rw[AT.ok,t_] at hto;have h2:2<=ts.length:=O0 hto.1;have hk:=AT.okL_mem.mp hto.2;simp only[AT.lvsL,AT.lvs,NP,AT.cntL,AT.cnt] at hn nd hx hl hN hc ⊢;obtain⟨ys,s4',q1,q2⟩:=kq (n:=n) v N (st++ts) xs (.sh (atV (.nd w ts))) (by rw[AT.cntL_app];omega) rfl (λt ht=>by
    rcases Oz.mp ht with ht |ht
    .exact ho t (by simp [ht])
    .exact hk t ht) (by rw[AT.lvsL_app];exact hn) (by rw[AT.lvsL_app];exact nd) (by rw[AT.lvsL_app];exact hx) (by rw[AT.lvsL_app];exact hl) (by rw[AT.cntL_app];omega)
   rw[AT.lvsL_app] at q1;refine⟨ys,s4',q1,?_⟩;have av:atV (.nd w ts)=.tup [.str (wy w),.tup (ts.map atV)]:=by unfold atV;rw[AT.val,AT.vals_map]
   have b1:=zp (w:=w) (ts:=ts.map atV) (by rw[o_];exact h2);have le:∀l:List AT,l.length<=AT.cntL l:=by
    intro l;induction l with
    |nil=>exact r_ _
    |cons t l ih=>rw[AT.cntL,D_];cases t <;> (rw[AT.cnt];omega)
   have ll:(st.map atV).length+(ts.map atV).length<=16777216:=by
    have:=le st
    have:=le ts
    rw[o_,o_];omega
   rw[av] at q2 ⊢;rw[NT] at q2;have bb:dM.G [.sh v,.sh (.int (n:Nat)),.ow (.set xs),.ow (.lst (st.map atV++[.tup [.str (wy w),.tup (ts.map atV)]])),s4]=.nx [.sh v,.sh (.int (n:Nat)),.ow (.set xs),.ow (.lst (st.map atV++ts.map atV)),.sh (.tup [.str (wy w),.tup (ts.map atV)])]:=by unfold dM;simp![mR,h4,b1,pJ,ll]
   rw[bb];exact q2
def wV{t:AT}{n:Nat}(ho:t.ok=true)(hn:∀k∈t.lvs,k<n)(nd:t.lvs.Nodup)(hl:t.lvs.length=n)(h3:n<=3000)(hc:t.cnt<=100000):gy.G [atV t,.int (n:Nat)]=.ok (.val (.bl true)) []:=by
 have e1:AT.lvsL [t]=t.lvs:=by simp [AT.lvsL]
 have e2:AT.cntL [t]=t.cnt:=by simp [AT.cntL]
 obtain⟨ys,s4',q1,q2⟩:=kq (n:=n) (atV t) (AT.cntL [t]) [t] [] .no (r_ _) rfl (λu hu=>by rw[NJ] at hu;rw[hu];exact ho) (by rw[e1];exact hn) (by rw[e1];exact nd) (λk hk z=>nomatch z) (by rw[e1,hl];simp;exact h3) (by rw[e2];exact hc);rw[e1,hl,NC,Nat.zero_add] at q1;rw[y_,NV] at q2;unfold gy;rw[aF];unfold ph;generalize atV t=tv at *;simp![Ic,q2,Jj,q1,beq_self_eq_true]
def qG{t:AT}{n:Nat}(ho:t.ok=true)(hn:∀k∈t.lvs,k<n)(nd:t.lvs.Nodup)(hl:t.lvs.length=n)(h3:n<=3000)(hc:t.cnt<=100000):eM.G [atV t,.int (n:Nat)]=.ok (.val .non) []:=by have e:=wV ho hn nd hl h3 hc;unfold eM;rw[aF];unfold kh;generalize atV t=tv at *;simp![e]
def FD(a:Int):(if a<0 then -a else a)=((a.natAbs:Nat):Int):=by split <;> omega
theorem uv:∀(n one c_:Nat),c_<=n->(xWh (qOf (pOp bNe (af 1) (ah 0))) dn).G [.sh (.int (one:Nat)),.sh (.int (c_:Nat))]=.nx [.sh (.int (Nat.gcd one c_:Nat)),.sh (.int 0)]
 |
  n,one,0,_=>by
  rw[gA];simp![dN];rw[Nat.gcd_zero_right];try rfl
 |0,one,c_+1,hl=>absurd hl (by omega)
 |
  n+1,one,c_+1,hl=>by
  rw[gA];have e:((((c_+1:Nat):Int)==0))=false:=by rw[J_];omega
  have e1:eF.G (.int (one:Nat)) (.int ((c_+1:Nat):Int))=.val (.int (((one:Nat):Int).fmod ((c_+1:Nat):Int))):=jr (by omega);have e2:((one:Nat):Int).fmod ((c_+1:Nat):Int)=((one % (c_+1):Nat):Int):=by rw[Int.fmod_eq_emod_of_nonneg _ (by omega)];rfl
  have ih:=uv n (c_+1) (one % (c_+1)) (by have:=Nat.mod_lt one (show c_+1>0 by omega);omega);rw[Fr.euc] at ih;rw[e2] at e1;have bb:dn.G [.sh (.int (one:Nat)),.sh (.int ((c_+1:Nat):Int))]=.nx [.sh (.int ((c_+1:Nat):Int)),.sh (.int ((one % (c_+1):Nat):Int))]:=by unfold dn;simp![e1]
  simp![e,bb,ih]
def dg(a b:Int):bX.G [.int a,.int b]=.ok (.val (.int (Int.gcd a b:Nat))) []:=by
 unfold bX;rw[aF];unfold gR
 have:=uv b.natAbs a.natAbs b.natAbs (r_ _)
 simp![FD,this];rfl
def eY{a b:Int}(hb:b≠0)(hs:Sm 8000 b):cF.G [.int a,.int b]=.ok (.val (fV ((a:Rat)/(b:Rat)))) []:=by
 unfold cF;rw[aF];unfold mE;have e:(b==0)=false:=by rw[J_];exact hb
 have c:∀x,CDivB x (Fr.dv a b):=λx=>CDivB.of (Fr.dv_ne hb) (hs.of_le (by rw[Fr.dv_abs];exact Nat.le_of_dvd (by omega) (Nat.gcd_dvd_right a.natAbs b.natAbs)));have k1:=rh (c a);have k2:=rh (c b);have hh:=qM (a:=a) hb;have f_:Val.tup [.int (a.fdiv (Fr.dv a b)),.int (b.fdiv (Fr.dv a b))]=fV ((a:Rat)/(b:Rat)):=by unfold fV;rw[<- hh.1,<- hh.2];rfl
 by_cases hn:b<0
 .have hd:Fr.dv a b=-((Int.gcd a b:Nat):Int):=by unfold Fr.dv;rw[if_pos hn]
  rw[hd] at k1 k2 f_;simp![e,dg,E_ hn,k1,k2,f_]
 .have hd:Fr.dv a b=((Int.gcd a b:Nat):Int):=by unfold Fr.dv;rw[if_neg hn]
  rw[hd] at k1 k2 f_;simp![e,dg,C_ hn,k1,k2,f_]
def CK{p q:Rat}{n m:Nat}(hp:Sz n p)(hq:Sz m q)(h:n+m<=8000):jn.G [fV p,fV q]=.ok (.val (fV (p+q))) []:=by have c1:=cP (CMulA.of hp.top hq.bot (by omega) (by omega));have c2:=cP (CMulA.of hq.top hp.bot (by omega) (by omega));have c3:=cP (CMulA.of hp.bot hq.bot (by omega) (by omega));have fe:=eY (a:=p.num*q.den+q.num*p.den) (b:=p.den*q.den) (O6 (cZ p) (cZ q)) ((hp.bot.mul hq.bot).mono h);rw[<- Gs] at fe;unfold jn;rw[aF];unfold vS;rw[show fV p=.tup [.int p.num,.int p.den] from rfl,show fV q=.tup [.int q.num,.int q.den] from rfl];simp![c1,c2,c3,fe]
def rA{p q:Rat}{n m:Nat}(hp:Sz n p)(hq:Sz m q)(h:n+m<=8000):gK.G [fV p,fV q]=.ok (.val (fV (p*q))) []:=by have c1:=cP (CMulA.of hp.top hq.top (by omega) (by omega));have c2:=cP (CMulA.of hp.bot hq.bot (by omega) (by omega));have fe:=eY (a:=p.num*q.num) (b:=p.den*q.den) (O6 (cZ p) (cZ q)) ((hp.bot.mul hq.bot).mono h);rw[<- vA] at fe;unfold gK;rw[aF];unfold vp;rw[show fV p=.tup [.int p.num,.int p.den] from rfl,show fV q=.tup [.int q.num,.int q.den] from rfl];simp![c1,c2,fe]
def gF{p q:Rat}{n m:Nat}(hp:Sz n p)(hq:Sz m q)(h1:n<=100000)(h2:m<=100000):dD.G [fV p,fV q]=.ok (.val (.bl (decide (p<q)))) []:=by have c1:=cP (CMulA.of hp.top hq.bot h1 h2);have c2:=cP (CMulA.of hq.top hp.bot h2 h1);unfold dD;rw[aF];unfold pG;rw[show fV p=.tup [.int p.num,.int p.den] from rfl,show fV q=.tup [.int q.num,.int q.den] from rfl];simp![c1,c2];rw[show decide (p.num*(q.den:Int)<q.num*(p.den:Int))=decide (p<q) from P6.mpr (Ja p q).symm]
def kF{v:Val}(hk:knV v=true):(aq ar).G [v,.ty "tuple"]=.val (.bl (fG v)):=by cases v <;> first |rfl |cases hk
def gu{v:Val}(hk:knV v=true):bu.G [v]=.ok (.val (.bl (iR v))) []:=by unfold bu;rw[aF];unfold jS;cases v <;> first |rfl |cases hk
def uB(v:Val):fG v=false\/∃xs,v=.tup xs:=by cases v <;> first |exact .inr ⟨_,rfl⟩ |exact .inl rfl
def lR(v:Val):iR v=false\/∃i,v=.int i:=by cases v <;> first |exact .inr ⟨_,rfl⟩ |exact .inl rfl
def LU{v:Val}(h:fG v=false):aR v=false:=by cases v <;> first |rfl |cases h
def M7{v:Val}(h:fG v=false):bI v=false:=by cases v <;> first |rfl |cases h
def Kc{a b:Val}(h:iR a=false):aR (.tup [a,b])=false:=by cases a <;> first |rfl |cases h
def JQ{i:Int}{b:Val}(h:iR b=false):aR (.tup [.int i,b])=false:=by cases b <;> first |rfl |cases h
def M0{xs:List Val}(hl:xs.length≠2):aR (.tup xs)=false:=by
 unfold aR;split
 .rename_i e;injection e with e;subst e;exact absurd rfl hl
 .rfl
def L8{xs:List Val}(hl:xs.length≠4):bI (.tup xs)=false:=by
 unfold bI;split
 .rename_i e;injection e with e;subst e;exact absurd rfl hl
 .rfl
def DR{k:Nat}{v:Val}(ha:cS k v=true)(h:fG v=false):knV v=true:=by
 cases v with
 |tup xs=>cases h
 |_=>cases k <;> exact ha
def oR{v:Val}(ha:cS 1 v=true):cU.G [v]=.ok (.val (.bl (aR v))) []:=by
 unfold cU;rw[aF];unfold jY;rcases uB v with ht |⟨xs,rfl⟩
 .have it:=kF (DR ha ht);rw[ht] at it;simp![it,LU ht]
 have it:=kF (v:=.tup xs) rfl;by_cases hl:xs.length=2
 .match xs,hl,ha with
  |
   [a,b],_,ha=>
   have ha':(knV a&&(knV b&&true))=true:=by simpa [cS] using ha
   simp only[t_] at ha';have w1:=gu ha'.1;have w2:=gu ha'.2.1;rcases lR a with h1 |⟨i,rfl⟩
   .rw[h1] at w1;simp![it,fG,w1,Kc h1]
   rcases lR b with h2 |⟨j,rfl⟩
   .rw[h2] at w2;simp![it,fG,w1,iR,w2,JQ h2]
   have f:aR (.tup [.int i,.int j])=(decide (1<=j)&&decide (Int.gcd i j=1)):=rfl;have g:((((Int.gcd i j:Nat):Int)==1):Bool)=decide (Int.gcd i j=1):=by rw[P8,NO,OC];omega
   by_cases hj:1<=j
   .simp![it,fG,w1,w2,iR,dg,E_ hj,f,g]
   .simp![it,fG,w1,w2,iR,dg,C_ hj,f,g]
 .have e:(((xs.length:Nat):Int)==2)=false:=by rw[J_];omega
  simp![it,fG,e,M0 hl]
def o6{v:Val}(ha:cS 2 v=true):gX.G [v]=.ok (.val (.bl (bI v))) []:=by
 unfold gX;rw[aF];unfold tS;rcases uB v with ht |⟨xs,rfl⟩
 .have it:=kF (DR ha ht);rw[ht] at it;simp![it,M7 ht]
 have it:=kF (v:=.tup xs) rfl;by_cases hl:xs.length=4
 .match
   xs,hl,ha with
  |
   [a,b,c,d],_,ha=>
   have e1:bI (.tup [a,b,c,d])=(aR a&&(aR b&&(aR c&&(aR d&&(jM c&&jM d))))):=rfl;have bl4:∀x y z w:Bool,jC [.bl x,.bl y,.bl z,.bl w]=some [x,y,z,w]:=λ_ _ _ _=>rfl;obtain⟨e',⟨s',rfl,_⟩,lc⟩:=oQ (g:=(gtN 0).G) (F:=(ak cU (aa (af 0) ag)).G) (f:=λv=>.bl (aR v)) (λe=>∃s,e=[s]/\s.pl=true) [a,b,c,d] [] [.no] ⟨.no,rfl,rfl⟩ (by
    rintro v hv e ⟨s,rfl,hs⟩;have hv':cS 1 v=true:=NA.mp (by simpa [cS] using ha) v hv;refine⟨[.sh v],.val (.bl (aR v)),[.sh v],?_,?_,rfl,⟨_,rfl,rfl⟩⟩
    .simp![hs]
    .simp![oR hv']) (by simp)
   have cy:cY=qY.G:=rfl;rw[cy,NK] at lc;simp only[y_,NV] at lc;cases hA:(aR a&&(aR b&&(aR c&&aR d))) with
   |
    true=>
    simp only[t_] at hA;obtain⟨p,rfl⟩:=yP hA.2.2.1;obtain⟨q,rfl⟩:=yP hA.2.2.2;rw[hA.1,hA.2.1,hA.2.2.1,hA.2.2.2] at e1 lc;have e2:bI (.tup [a,b,fV p,fV q])=(decide (0<p.num)&&decide (0<q.num)):=by rw[e1];rfl
    rw[e2];have i1:(fV p).items=some [.int p.num,.int p.den]:=rfl;have i2:(fV q).items=some [.int q.num,.int q.den]:=rfl;by_cases hp:0<p.num
    .simp![it,fG,lc,bU,bl4,id,i1,i2,E_ hp]
    .simp![it,fG,lc,bU,bl4,id,i1,C_ hp]
   |
    false=>
    have e2:bI (.tup [a,b,c,d])=false:=by rw[e1];revert hA;generalize aR a=a',aR b=b',aR c=c',aR d=d',(jM c&&jM d)=z;revert a' b' c' d' z;decide
    rw[e2];simp![it,fG,lc,bU,bl4,id,hA]
 .have e:(((xs.length:Nat):Int)==4)=false:=by rw[J_];omega
  simp![it,fG,e,L8 hl]
def j8{v:Val}(ha:cS 2 v=true):aU.G [v]=if bI v=true then .ok (.val .non) [] else .exc "NoBox" []:=by
 unfold aU;rw[aF];unfold lA;cases h:bI v with
 |true=>simp![o6 ha,h]
 |false=>simp![o6 ha,h]
def bE{b:Bx}(hb:b.Ok):aU.G [bV b]=.ok (.val .non) []:=by rw[j8 (Hz b),By hb];rfl
def Lo{v:Val}(h:iR v=false):fk v=false:=by cases v <;> first |rfl |cases h
def CW(v:Val):fO v=false\/∃xs,v=.lst xs:=by cases v <;> first |exact .inr ⟨_,rfl⟩ |exact .inl rfl
def rT{v:Val}(hk:knV v=true):dZ.G [v]=.ok (.val (.bl (fk v))) []:=by
 have w:=gu hk;unfold dZ;rw[aF];unfold lq;rcases lR v with h |⟨i,rfl⟩
 .rw[h] at w;simp![w,Lo h]
 .simp![w,iR];rfl
def vX{v:Val}(hk:knV v=true):(aq ar).G [v,.ty "list"]=.val (.bl (fO v)):=by cases v <;> first |rfl |cases hk
noncomputable def iG (v:Val):R3F:=match v with
 |.lst xs=>if xs=[] then .exc "NoWeights" [] else if xs.all fk=true then (if xs.length<=40 then .ok (.val .non) [] else .exc "TooMany" []) else .exc "NoWeights" []
 |_=>.exc "NoWeights" []
def Jq{v:Val}(h:fO v=false):iG v=.exc "NoWeights" []:=by cases v <;> first |rfl |cases h
noncomputable def iE:Val->Bool
 |.lst xs=>decide (xs.length<=1000)&&xs.all knV
 |v=>knV v
def EK{v:Val}(h:iE v=true)(hl:fO v=false):knV v=true:=by cases v <;> first |(cases hl;done) |exact h
theorem jJ(f:Val->Bool):∀xs:List Val,jC (xs.map λv=>.bl (f v))=some (xs.map f)
 | []=>rfl
 |x::xs=>by show (jC (xs.map λv=>.bl (f v))).map (f x :: ·)=_;rw[jJ f xs];rfl
def jA(f:Val->Bool)(xs:List Val):(xs.map f).all id=xs.all f:=by rw[List.all_map];rfl
def dO{v:Val}(ha:iE v=true):aG.G [v]=iG v:=by
 unfold aG;rw[aF];unfold iz;rcases CW v with hv |⟨xs,rfl⟩
 .have il:=vX (EK ha hv);rw[hv] at il;rw[Jq hv];simp![il]
 .have ha':xs.length<=1000/\xs.all knV=true:=by simpa [iE] using ha
  have il:=vX (v:=.lst xs) rfl;unfold iG;dsimp only;by_cases h0:xs=[]
  .subst h0;simp![il]
  .have e0:(((xs.length:Nat):Int)==0)=false:=by rw[J_];intro z;exact h0 (List.length_eq_zero_iff.mp (by omega))
   rw[if_neg h0];obtain⟨e',p',lc⟩:=oQ (g:=(gtN 0).G) (F:=(ak dZ (aa (af 0) ag)).G) (f:=λv=>.bl (fk v)) (λe=>∃s,e=[s]/\s.pl=true) xs [] [.no] ⟨.no,rfl,rfl⟩ (by
    rintro v hv e ⟨s,rfl,hs⟩;refine⟨[.sh v],.val (.bl (fk v)),[.sh v],?_,?_,rfl,⟨_,rfl,rfl⟩⟩
    .simp![hs]
    .simp![rT (NA.mp ha'.2 v hv)]) (by simp;omega)
   obtain⟨s',rfl,_⟩:=p';have cy:cY=qY.G:=rfl;rw[cy,NK] at lc;have a_:(xs.map λv=>Val.bl (fk v)).length<=16777216:=by rw[o_];omega
   by_cases hw:xs.all fk=true
   .rw[if_pos hw];by_cases h40:xs.length<=40
    .have hd:decide ((40:Int)<((xs.length:Nat):Int))=false:=C_ (by omega);rw[if_pos h40];simp![il,e0,bU,lc,a_,jJ,jA,hw,hd]
    .have hd:decide ((40:Int)<((xs.length:Nat):Int))=true:=E_ (by omega);rw[if_neg h40];simp![il,e0,bU,lc,a_,jJ,jA,hw,hd]
   .have hw':xs.all fk=false:=Bool.eq_false_iff.mpr hw;rw[if_neg hw];simp![il,e0,bU,lc,a_,jJ,jA,hw']
def gx{ws:List Int}(h0:ws≠[])(h1:∀w∈ws,1<=w)(h2:ws.length<=40):aG.G [.lst (ws.map .int)]=.ok (.val .non) []:=by
 have ha:iE (.lst (ws.map .int))=true:=by simp only[iE,t_,OC,o_];exact⟨by omega,by rw[NA];intro v hv;obtain⟨w,_,rfl⟩:=NQ.mp hv;rfl⟩
 rw[dO ha];unfold iG;dsimp only;rw[if_neg (by intro z;exact h0 (Qj.mp z)),if_pos (by rw[NA];intro v hv;obtain⟨w,hw,rfl⟩:=NQ.mp hv;exact E_ (h1 w hw)),if_pos (by rw[o_];exact h2)]
def tw:bG (.str "down") (.str "across")=some false:=by rw[L3.eq_str (by decide) (by decide)];exact NR some (by decide)
def uD:bG (.str "across") (.str "across")=some true:=by rw[L3.eq_str (by decide) (by decide)];exact NR some (by decide)
noncomputable def prV (p:Rat×Rat):Val:=.tup [fV p.1,fV p.2]
theorem wF{s l:Rat}{n m:Nat}{W:Int}{wv:Val}(hs:Sz n s)(hl:Sz n l)(hW:0<W)(mW:Sm m W)(h:n+n+m<=8000):∀(ws:List Int) (a:Int) (acc:List (Rat×Rat)) (s6 s7:Sl),s6.pl=true->s7.pl=true->0<=a->(∀w∈ws,0<=w)->a+ws.sum<=W->acc.length+ws.length<=16777216->∃s6' s7',fB (gtN 6).G iD.G (ws.map .int) [.sh (fV s),.sh (fV l),.sh wv,.sh (.int W),.sh (.int a),.ow (.lst (acc.map prV)),s6,s7]=.nx [.sh (fV s),.sh (fV l),.sh wv,.sh (.int W),.sh (.int (a+ws.sum)),.ow (.lst ((acc++shL s l W a ws).map prV)),s6',s7']
 | [],a,acc,s6,s7,h6,h7,ha,hw,hsum,a_=>⟨s6,s7,by rw[NV,vZ,List.sum_nil,Int.add_zero];unfold shL;rw[NP]⟩
 |
  w::ws,a,acc,s6,s7,h6,h7,ha,hw,hsum,a_=>by
  have hw0:=hw w (s_ ..);have hws:0<=ws.sum:=by
   have:∀l:List Int,(∀w∈l,0<=w)->0<=l.sum:=by
    intro l;induction l with
    |nil=>intro _;simp
    |cons x l ih=>intro hx;rw[NN];have:=hx x (s_ ..);have:=ih λw hw=>hx w (q_ _ hw);omega
   exact this ws λx hx=>hw x (q_ _ hx)
  rw[NN] at hsum;rw[D_] at a_;have sa:Sm m a:=mW.of_le (by omega);have sw:Sm m w:=mW.of_le (by omega);have f1:=eY (a:=a) (b:=W) (by omega) (mW.mono (by omega));have f2:=eY (a:=w) (b:=W) (by omega) (mW.mono (by omega));have z1:Sz m ((a:Rat)/(W:Rat)):=Sz.div (by omega) sa mW m (r_ _) (r_ _);have z2:Sz m ((w:Rat)/(W:Rat)):=Sz.div (by omega) sw mW m (r_ _) (r_ _);have t1:=rA hl z1 (by omega);have t2:=rA hl z2 (by omega);have ad:=CK hs (hl.mul z1) (by omega);have ll:(acc.map prV).length<16777216:=by rw[o_];omega
  obtain⟨t6,t7,ih⟩:=wF (wv:=wv) hs hl hW mW h ws (a+w) (acc++[(s+l*((a:Rat)/(W:Rat)),l*((w:Rat)/(W:Rat)))]) (.sh (.int w)) (.sh (fV (s+l*((a:Rat)/(W:Rat))))) rfl rfl (by omega) (λx hx=>hw x (q_ _ hx)) (by omega) (by simp;omega);refine⟨t6,t7,?_⟩;have g1:(gtN 6).G (.int w) [.sh (fV s),.sh (fV l),.sh wv,.sh (.int W),.sh (.int a),.ow (.lst (acc.map prV)),s6,s7]=some [.sh (fV s),.sh (fV l),.sh wv,.sh (.int W),.sh (.int a),.ow (.lst (acc.map prV)),.sh (.int w),s7]:=by simp![h6]
  have b1:iD.G [.sh (fV s),.sh (fV l),.sh wv,.sh (.int W),.sh (.int a),.ow (.lst (acc.map prV)),.sh (.int w),s7]=.nx [.sh (fV s),.sh (fV l),.sh wv,.sh (.int W),.sh (.int (a+w)),.ow (.lst ((acc++[(s+l*((a:Rat)/(W:Rat)),l*((w:Rat)/(W:Rat)))]).map prV)),.sh (.int w),.sh (fV (s+l*((a:Rat)/(W:Rat))))]:=by unfold iD;rw[NT];simp![h7,f1,f2,t1,t2,ad,ll,prV]
  rw[y_,gm,g1];simp only[b1,qX];rw[ih,NN];rw[show shL s l W a (w::ws)=(s+l*((a:Rat)/(W:Rat)),l*((w:Rat)/(W:Rat)))::shL s l W (a+w) ws from rfl,Pc,show a+w+ws.sum=a+(w+ws.sum) by omega];rfl
def pC{s l:Rat}{n m:Nat}{ws:List Int}(hs:Sz n s)(hl:Sz n l)(hw:∀w∈ws,0<=w)(h0:0<ws.sum)(mW:Sm m ws.sum)(h:n+n+m<=8000)(a_:ws.length<=1000):gn.G [fV s,fV l,.lst (ws.map .int)]=.ok (.new (.lst ((shL s l ws.sum 0 ws).map prV))) []:=by obtain⟨s6,s7,lo⟩:=wF (wv:=.lst (ws.map .int)) hs hl h0 mW h ws 0 [] .no .no rfl rfl (by omega) hw (by omega) (by simp;omega);rw[NK,NV] at lo;unfold gn;rw[aF];unfold rl;simp![lo]
def JN{way:Str}(hw:way="across" \/ way="down"):fg.G [.str way]=.ok (.val .non) []:=by
 have i1:∀x:Str,(aq ar).G [.str x,.ty "str"]=.val (.bl true):=λ_=>rfl;have i2:bIn.G (.str way) (.tup [.str "across",.str "down"])=.val (.bl true):=by rcases hw with rfl |rfl <;> rfl
 have e1:eD.G [.str way]=.ok (.val (.bl true)) []:=by unfold eD;rw[aF];unfold l7;simp![i1,i2]
 unfold fg;rw[aF];unfold lj;simp![e1]
def kg{b:Bx}{n m:Nat}{way:Str}{ws:List Int}(hb:b.Ok)(hs:b.Sz n)(hway:way="across" \/ way="down")(h0:ws≠[])(hw:∀w∈ws,1<=w)(mW:Sm m ws.sum)(h:n+n+m<=8000)(a_:ws.length<=40):eI.G [bV b,.str way,.lst (ws.map .int)]=.ok (.new (.lst ((ba b way ws).map bV))) []:=by
 have cw:=gx h0 hw a_;have cy:=JN hway;have sp:0<ws.sum:=by
  cases ws with
  |nil=>exact absurd rfl h0
  |
   cons x l=>
   rw[NN]
   have:=hw x (s_ ..)
   have:∀l:List Int,(∀w∈l,1<=w)->0<=l.sum:=by
    intro l;induction l with
    |nil=>intro _;simp
    |cons x l ih=>intro hx;rw[NN];have:=hx x (s_ ..);have:=ih λw hw=>hx w (q_ _ hw);omega
   have:=this l λx hx=>hw x (q_ _ hx)
   omega
 have cb:aU.G [.tup [fV b.l,fV b.t,fV b.w,fV b.h]]=.ok (.val .non) []:=bE hb;have sh1:=pC hs.l hs.w (λw z=>by have:=hw w z;omega) sp mW h (by omega);have sh2:=pC hs.t hs.h (λw z=>by have:=hw w z;omega) sp mW h (by omega);show eI.G [.tup [fV b.l,fV b.t,fV b.w,fV b.h],.str way,.lst (ws.map .int)]=_;unfold eI ba;rw[aF];unfold sC;rcases hway with rfl |rfl
 .rw[if_pos (rfl:("across" : Str)="across")];have ln:=jm b.l b.w ws.sum ws 0;obtain⟨e',⟨s,t,rfl,_,_⟩,lc⟩:=eL (g:=(gtT 2 (bR (gtN 0) (bR (gtN 1) fJ))).G) (F:=(aH (aa (af 0) (aa (af 2) (aa (af 1) (aa (af 3) ag))))).G) prV (λp=>bV ⟨p.1,b.t,p.2,b.h⟩) (λe=>∃s t,e=[s,t,.sh (fV b.t),.sh (fV b.h)]/\s.pl=true/\t.pl=true) (shL b.l b.w ws.sum 0 ws) [] [.no,.no,.sh (fV b.t),.sh (fV b.h)] ⟨.no,.no,rfl,rfl,rfl⟩ (by
   rintro p hp e ⟨s,t,rfl,hs,ht⟩;refine⟨[.sh (fV p.1),.sh (fV p.2),.sh (fV b.t),.sh (fV b.h)],.val (bV ⟨p.1,b.t,p.2,b.h⟩),[.sh (fV p.1),.sh (fV p.2),.sh (fV b.t),.sh (fV b.h)],?_,?_,rfl,⟨_,_,rfl,rfl,rfl⟩⟩
   .simp![prV,hs,ht]
   .simp![bV]) (by rw[ln,NC];omega)
  rw[NK] at lc;have ll:((shL b.l b.w ws.sum 0 ws).map λp=>bV ⟨p.1,b.t,p.2,b.h⟩).length<=16777216:=by rw[o_,ln];omega
  rw[Of,show (bV ∘ λp:Rat×Rat=>(⟨p.1,b.t,p.2,b.h⟩:Bx))=λp=>bV ⟨p.1,b.t,p.2,b.h⟩ from rfl];simp![cb,cy,cw,uD,sh1,lc,ll]
 .have hne:¬ (("down" : Str)="across"):=by decide
  rw[if_neg hne];have ln:=jm b.t b.h ws.sum ws 0;obtain⟨e',⟨s,t,rfl,_,_⟩,lc⟩:=eL (g:=(gtT 2 (bR (gtN 0) (bR (gtN 1) fJ))).G) (F:=(aH (aa (af 2) (aa (af 0) (aa (af 3) (aa (af 1) ag))))).G) prV (λp=>bV ⟨b.l,p.1,b.w,p.2⟩) (λe=>∃s t,e=[s,t,.sh (fV b.l),.sh (fV b.w)]/\s.pl=true/\t.pl=true) (shL b.t b.h ws.sum 0 ws) [] [.no,.no,.sh (fV b.l),.sh (fV b.w)] ⟨.no,.no,rfl,rfl,rfl⟩ (by
   rintro p hp e ⟨s,t,rfl,hs,ht⟩;refine⟨[.sh (fV p.1),.sh (fV p.2),.sh (fV b.l),.sh (fV b.w)],.val (bV ⟨b.l,p.1,b.w,p.2⟩),[.sh (fV p.1),.sh (fV p.2),.sh (fV b.l),.sh (fV b.w)],?_,?_,rfl,⟨_,_,rfl,rfl,rfl⟩⟩
   .simp![prV,hs,ht]
   .simp![bV]) (by rw[ln,NC];omega)
  rw[NK] at lc;have ll:((shL b.t b.h ws.sum 0 ws).map λp=>bV ⟨b.l,p.1,b.w,p.2⟩).length<=16777216:=by rw[o_,ln];omega
  rw[Of,show (bV ∘ λp:Rat×Rat=>(⟨b.l,p.1,b.w,p.2⟩:Bx))=λp=>bV ⟨b.l,p.1,b.w,p.2⟩ from rfl];simp![cb,cy,cw,tw,sh2,lc,ll]
theorem iN{f:Nat->Val}(v:Val):∀(N:Nat) (st:List AT) (acc:List Nat) (s3:Sl),AT.cntL st<=N->s3.pl=true->(∀k∈AT.lvsL st,lfV (f k)=true)->acc.length+AT.cntL st<=100000->
 ∃(l:List Nat) (s3':Sl),l.Perm (AT.lvsL st)/\(xWh (qTr (af 2)) cK).G [.sh v,.ow (.lst (acc.map f)),.ow (.lst (st.map (AT.val f))),s3]=.nx [.sh v,.ow (.lst ((acc++l).map f)),.ow (.lst []),s3']
 |
  N,[],acc,s3,_,_,_,_=>⟨[],s3,.nil,by
  rw[gA,NP];simp![NV,oO,List.isEmpty_nil]⟩
 |
  0,t::ts,acc,s3,h,_,_,_=>by
  rw[AT.cntL] at h;cases t <;> (rw[AT.cnt] at h;omega)
 |
  N+1,t0::ts0,acc,s3,hN,h3,hf,hl=>by
  obtain⟨st,t,hst⟩:∃st t,t0::ts0=st++[t]:=⟨(t0::ts0).dropLast,(t0::ts0).getLast (by simp),(List.dropLast_concat_getLast (by simp)).symm⟩;rw[hst] at hN hf hl ⊢;rw[AT.lvsL_app] at hf;rw[AT.lvsL_app];rw[AT.cntL_app] at hN hl;have hn0:((st++[t]).map (AT.val f)).isEmpty=false:=by cases st <;> rfl
  have c1:(qTr (af 2)).G [.sh v,.ow (.lst (acc.map f)),.ow (.lst ((st++[t]).map (AT.val f))),s3]=.ok true [.sh v,.ow (.lst (acc.map f)),.ow (.lst ((st++[t]).map (AT.val f))),s3]:=by simp![oO,hn0,Bool.not_false]
  rw[gA,c1];show ∃l s3',_/\((cK.G _).loop _)=_;rw[NT,y_,NV];cases t with
  |
   lf k=>
   simp only[AT.lvsL,AT.lvs,NP,AT.cntL,AT.cnt] at hf hN hl ⊢;obtain⟨l,s3',q1,q2⟩:=iN (f:=f) v N st (acc++[k]) (.sh (f k)) (by omega) rfl (λj hj=>hf j (by simp [hj])) (by rw[G_];simp only[D_,NC];omega);refine⟨k::l,s3',((q1.cons k).trans (List.perm_append_comm (l₁:=[k]) (l₂:=AT.lvsL st))),?_⟩;have i1:(aq ar).G [f k,.ty "tuple"]=.val (.bl false):=by
    have:=hf k (by simp)
    generalize f k=a at *;cases a <;> first |rfl |(cases this;done)
   have al:(acc.map f).length<16777216:=by rw[o_];omega
   have bb:cK.G [.sh v,.ow (.lst (acc.map f)),.ow (.lst (st.map (AT.val f)++[AT.val f (.lf k)])),s3]=.nx [.sh v,.ow (.lst ((acc++[k]).map f)),.ow (.lst (st.map (AT.val f))),.sh (f k)]:=by unfold cK;rw[AT.val,NT,y_,NV];generalize f k=a at *;simp![mR,h3,i1,al]
   rw[bb,show acc++k::l=acc++[k]++l by simp];exact q2
  |
   nd w ts=>
   simp only[AT.lvsL,AT.lvs,NP,AT.cntL,AT.cnt] at hf hN hl ⊢;obtain⟨l,s3',q1,q2⟩:=iN (f:=f) v N (st++ts) acc (.sh (AT.val f (.nd w ts))) (by rw[AT.cntL_app];omega) rfl (by rw[AT.lvsL_app];exact hf) (by rw[AT.cntL_app];omega);rw[AT.lvsL_app] at q1;refine⟨l,s3',q1,?_⟩;have i1:∀xs:List Val,(aq ar).G [.tup xs,.ty "tuple"]=.val (.bl true):=λ_=>rfl;have le:∀l:List AT,l.length<=AT.cntL l:=by
    intro l;induction l with
    |nil=>exact r_ _
    |cons t l ih=>rw[AT.cntL,D_];cases t <;> (rw[AT.cnt];omega)
   have ll:(st.map (AT.val f)).length+(ts.map (AT.val f)).length<=16777216:=by
    have:=le st
    have:=le ts
    rw[o_,o_];omega
   rw[AT.val,AT.vals_map] at q2 ⊢;rw[NT] at q2;have bb:cK.G [.sh v,.ow (.lst (acc.map f)),.ow (.lst (st.map (AT.val f)++[.tup [.str (wy w),.tup (ts.map (AT.val f))]])),s3]=.nx [.sh v,.ow (.lst (acc.map f)),.ow (.lst (st.map (AT.val f)++ts.map (AT.val f))),.sh (.tup [.str (wy w),.tup (ts.map (AT.val f))])]:=by unfold cK;simp![mR,h3,i1,xx,pJ,ll]
   rw[bb];exact q2
def Aa{f:Nat->Val}{t:AT}(hf:∀k∈t.lvs,lfV (f k)=true)(hc:t.cnt<=100000):∃l:List Nat,l.Perm t.lvs/\d8.G [t.val f]=.ok (.new (.lst (l.map f))) []:=by
 have e1:AT.lvsL [t]=t.lvs:=by simp [AT.lvsL]
 have e2:AT.cntL [t]=t.cnt:=by simp [AT.cntL]
 obtain⟨l,s3',q1,q2⟩:=iN (f:=f) (t.val f) (AT.cntL [t]) [t] [] .no (r_ _) rfl (by rw[e1];exact hf) (by rw[e2,NC];omega);rw[e1] at q1;refine⟨l,q1,?_⟩;rw[y_,NV,NV,NK] at q2;unfold d8;rw[aF];unfold lg;generalize t.val f=tv at *;simp![q2]
def uA{ws:List Int}{l:List Nat}(hl:l.length<=1000)(hi:∀k∈l,k<ws.length):∃s,lcV (gtN 0).G qY.G (pOp bIx (af 1) (af 0)).G (l.map λk:Nat=>.int k) [] [.no,.sh (liV ws)]=.ok ((l.map λk=>ws.getD k 0).map .int) [s,.sh (liV ws)]:=by
 obtain⟨e',⟨s,rfl,_⟩,lc⟩:=eL (g:=(gtN 0).G) (F:=(pOp bIx (af 1) (af 0)).G) (λk:Nat=>Val.int k) (λk:Nat=>Val.int (ws.getD k 0)) (λe=>∃s:Sl,e=[s,.sh (liV ws)]/\s.pl=true) l [] [.no,.sh (liV ws)] ⟨.no,rfl,rfl⟩ (by
  rintro k hk _ ⟨s,rfl,hs⟩;have h1:=hi k hk;have a1:atI (ws.map Val.int) (k:Nat)=some (.int (ws.getD k 0)):=aM (by omega) (by rw[NB];show (ws[k]?).map _=_;rw[L_,B_ h1];rfl);refine⟨[.sh (.int (k:Nat)),.sh (liV ws)],.val (.int (ws.getD k 0)),[.sh (.int (k:Nat)),.sh (liV ws)],?_,?_,rfl,_,rfl,rfl⟩
  .simp![hs]
  .unfold liV;simp![a1]) (by rw[NC];omega)
 exact⟨s,by rw[Of];exact lc⟩
def uV{ws:List Int}{b:Bx}{w:Bool}{ts:List AT}{n m:Nat}(h:AT.lay ws n m (.nd w ts) b)(hnm:n+n+m<=8000)(hi:∀k∈AT.lvsL ts,k<ws.length)(hl:(AT.lvsL ts).length<=1000)(hc:AT.cntL ts<=100000):fK.G [bV b,liV ws,atV (.nd w ts)]=.ok (.new (.lst ((ba b (wy w) (ts.map (wtT ws))).map bV))) []:=by
 rw[AT.lay] at h;obtain⟨h1,h2,h3,h4,h5,h6,_⟩:=h;have ew:wy w="across" \/ wy w="down":=by cases w;exact .inr rfl;exact .inl rfl
 have pe:=kg h1 h2 ew (ws:=ts.map (wtT ws)) (by simpa using h3) (λx hx=>by obtain⟨t,ht,rfl⟩:=NQ.mp hx;exact h5 t ht) h6 hnm (by rw[o_];exact h4);have cle:∀t∈ts,t.cnt<=AT.cntL ts:=λt ht=>AT.cnt_le ht;have lle:∀t∈ts,t.lvs.length<=(AT.lvsL ts).length:=λt ht=>AT.lvs_le ht;obtain⟨e',⟨s,rfl,_⟩,lc⟩:=eL (g:=(gtN 0).G) (F:=(pFn bz (aa (pLC (dJ (ak d8 (aa (af 0) ag))) [none,some 1] (by decide) (gtN 0) qY (pOp bIx (af 1) (af 0))) ag)).G) atV (λt=>Val.int (wtT ws t)) (λe=>∃s:Sl,e=[s,.sh (liV ws)]/\s.pl=true) ts [] [.no,.sh (liV ws)] ⟨.no,rfl,rfl⟩ (by
  rintro t ht _ ⟨s,rfl,hs⟩;obtain⟨l,lp,e1⟩:=Aa (f:=λk=>.int (k:Nat)) (t:=t) (λ_ _=>rfl) (by have:=cle t ht;omega);rw[show AT.val (λk=>Val.int (k:Nat)) t=atV t from rfl] at e1;obtain⟨s',lc⟩:=uA (ws:=ws) (l:=l) (by rw[lp.length_eq];have:=lle t ht;omega) (λk hk=>hi k (AT.lvsL_mem.mpr ⟨t,ht,lp.mem_iff.mp hk⟩));have ll:((l.map λk=>ws.getD k 0).map Val.int).length<=16777216:=by rw[o_,o_,lp.length_eq];have:=lle t ht;omega
  have sm:(l.map λk=>ws.getD k 0).sum=wtT ws t:=Bg lp;refine⟨[.sh (atV t),.sh (liV ws)],.val (.int (wtT ws t)),[.sh (atV t),.sh (liV ws)],?_,?_,rfl,_,rfl,rfl⟩
  .generalize atV t=tv at *;simp![hs]
  .rw[<- sm];generalize atV t=tv at *;generalize liV ws=wv at *;generalize (l.map λk:Nat=>Val.int (k:Nat))=LV at *;simp![e1,bU,inS,lc,ll]) (by rw[NC];omega)
 have av:atV (.nd w ts)=.tup [.str (wy w),.tup (ts.map atV)]:=by unfold atV;rw[AT.val,AT.vals_map]
 have lm:ts.map (λt=>Val.int (wtT ws t))=(ts.map (wtT ws)).map .int:=by rw[Of];rfl
 have l2:((ts.map (wtT ws)).map Val.int).length<=16777216:=by rw[o_,o_];omega
 rw[NK,lm] at lc;rw[av];generalize (ba b (wy w) (ts.map (wtT ws))).map bV=PB at *;generalize (ts.map (wtT ws)).map Val.int=SV at *;generalize ts.map atV=TV at *;generalize liV ws=wv at *;generalize bV b=bv at *;unfold fK;rw[aF];unfold nj;simp![bU,inS,lc,l2,pe]
theorem nB{ws:List Int}{n m k:Nat}(rv tv:Val):∀(ts:List AT) (bs:List Bx) (kvs:List (Key×Val)) (s4 s5:Sl),s4.pl=true->s5.pl=true->ts.length=bs.length->(∀(t:AT) (b:Bx) (kvs:List (Key×Val)),t∈ts->AT.lay ws n m t b->kvs.length+t.lvs.length<=100000->(er k).G [bV b,liV ws,atV t,.dct kvs]=.ok (.val .non) [.dct (da kvs (AT.bx ws t b))])->AT.layL ws n m ts bs->kvs.length+(AT.lvsL ts).length<=100000->
 ∃s4' s5',fB (gtX (gtT 2 (bR (gtN 4) (bR (gtN 5) fJ)))).G (js (er k)).G (List.zipWith (λx y=>Val.tup [x,y]) (ts.map atV) (bs.map bV)) [.sh rv,.sh (liV ws),.sh tv,.mu (.dct kvs),s4,s5]=.nx [.sh rv,.sh (liV ws),.sh tv,.mu (.dct (da kvs (AT.bxL ws ts bs))),s4',s5']
 | [],bs,kvs,s4,s5,_,_,_,_,_,_=>⟨s4,s5,by cases bs <;> rfl⟩
 |t::ts,[],kvs,s4,s5,_,_,h,_,_,_=>nomatch h
 |
  t::ts,b::bs,kvs,s4,s5,h4,h5,hl,hp,hy,hk=>by
  rw[AT.layL] at hy;rw[AT.lvsL,G_] at hk;have e1:=hp t b kvs (s_ ..) hy.1 (by omega);have a_:=sO (AT.bx ws t b) kvs;have hfst:=(AT.bx_fst ws t b).1;obtain⟨s4',s5',q⟩:=nB rv tv ts bs (da kvs (AT.bx ws t b)) (.sh (atV t)) (.sh (bV b)) rfl rfl (by simpa using hl) (λu c kv hu=>hp u c kv (q_ _ hu)) hy.2 (by omega);refine⟨s4',s5',?_⟩;rw[AT.bxL,BJ,y_,y_,List.zipWith_cons_cons,gm];generalize da kvs (AT.bx ws t b)=kvs1 at *;generalize atV t=av at *;generalize bV b=bv at *;generalize liV ws=wv at *;have g1:(gtX (gtT 2 (bR (gtN 4) (bR (gtN 5) fJ)))).G (.tup [av,bv]) [.sh rv,.sh wv,.sh tv,.mu (.dct kvs),s4,s5]=some [.sh rv,.sh wv,.sh tv,.mu (.dct kvs),.sh av,.sh bv]:=by simp![h4,h5]
  have b1:(js (er k)).G [.sh rv,.sh wv,.sh tv,.mu (.dct kvs),.sh av,.sh bv]=.nx [.sh rv,.sh wv,.sh tv,.mu (.dct kvs1),.sh av,.sh bv]:=by unfold js;simp![e1]
  rw[g1];dsimp only;rw[b1];exact q
def xF(b:Bx)(way:Str)(ws:List Int):(ba b way ws).length=ws.length:=by unfold ba;split <;> rw[o_,jm]
def CV{ws:List Int}{n m:Nat}(hnm:n+n+m<=8000)(t:AT):∀(k:Nat) (b:Bx) (kvs:List (Key×Val)),t.dep<=k->AT.lay ws n m t b->(∀i∈t.lvs,i<ws.length)->t.lvs.length<=1000->t.cnt<=100000->kvs.length+t.lvs.length<=100000->(er k).G [bV b,liV ws,atV t,.dct kvs]=.ok (.val .non) [.dct (da kvs (AT.bx ws t b))]:=by
 induction t using AT.ind with
 |
  h1 x=>
  intro k b kvs hd _ _ _ _ hk;cases k with
  |zero=>simp [AT.dep] at hd
  |
   succ k=>
   have i1:(aq ar).G [.int (x:Nat),.ty "tuple"]=.val (.bl false):=rfl;have kl:kvs.length<16777216:=by omega
   have av:atV (.lf x)=.int (x:Nat):=rfl;have pe:da kvs (AT.bx ws (.lf x) b)=fu kvs (.inl (x:Nat)) (bV b):=by rw[AT.bx];rfl
   show (PFx.of [false,false,false,true] 6 (gO (er k))).G [bV b,liV ws,atV (.lf x),.dct kvs]=_;rw[kT,av,pe];unfold gO;generalize bV b=bv at *;generalize liV ws=wv at *;simp![i1,JR,kl]
 |
  h2 w ts ih=>
  intro k b kvs hd hy hi hl hc hk;cases k with
  |zero=>simp [AT.dep] at hd
  |
   succ k=>
   rw[AT.dep] at hd;rw[AT.lvs] at hi hl hk;rw[AT.cnt] at hc;have hd':=AT.depL_le.mp (show AT.depL ts<=k by omega);have pe:=uV hy hnm hi hl (by omega);have hy':=hy;rw[AT.lay] at hy';obtain⟨s4,s5,lo⟩:=nB (ws:=ws) (n:=n) (m:=m) (k:=k) (bV b) (atV (.nd w ts)) ts (ba b (wy w) (ts.map (wtT ws))) kvs .no .no rfl rfl (by rw[xF,o_]) (λt c kv ht hy2 hk2=>ih t ht k c kv (hd' t ht) hy2 (λi hi2=>hi i (AT.lvsL_mem.mpr ⟨t,ht,hi2⟩)) (by have:=AT.lvs_le ht;omega) (by have:=AT.cnt_le ht;omega) hk2) hy'.2.2.2.2.2.2 hk;have av:atV (.nd w ts)=.tup [.str (wy w),.tup (ts.map atV)]:=by unfold atV;rw[AT.val,AT.vals_map]
   have bxe:AT.bx ws (.nd w ts) b=AT.bxL ws ts (ba b (wy w) (ts.map (wtT ws))):=by rw[AT.bx]
   show (PFx.of [false,false,false,true] 6 (gO (er k))).G [bV b,liV ws,atV (.nd w ts),.dct kvs]=_;rw[kT,bxe];unfold gO;rw[av] at pe lo ⊢;have i1:∀xs:List Val,(aq ar).G [.tup xs,.ty "tuple"]=.val (.bl true):=λ_=>rfl;generalize da kvs (AT.bxL ws ts (ba b (wy w) (ts.map (wtT ws))))=kvs1 at *;generalize (ba b (wy w) (ts.map (wtT ws))).map bV=PB at *;generalize ts.map atV=TV at *;generalize bV b=bv at *;generalize liV ws=wv at *;simp![i1,xx,pe,lo]
def Dy{ws:List Int}{n m:Nat}{b:Bx}{t:AT}(hnm:n+n+m<=8000)(hb:b.Ok)(h0:ws≠[])(hw:∀w∈ws,1<=w)(h40:ws.length<=40)(ho:t.ok=true)(hi:∀k,k∈t.lvs ↔ k<ws.length)(nd:t.lvs.Nodup)(hl:t.lvs.length=ws.length)(hd:t.dep<=42)(hy:AT.lay ws n m t b):fQ.G [bV b,liV ws,atV t]=.ok (.new (.lst ((List.range ws.length).map λk=>bV (bxO (AT.bx ws t b) k)))) []:=by
 have hc:=AT.cnt_lvs t ho;have cb:=bE hb;have cw:=gx h0 hw h40;have ct:=qG (n:=ws.length) ho (λk hk=>(hi k).mp hk) nd hl (by omega) (by omega);have pl:=CV (ws:=ws) hnm t 42 b [] hd hy (λk hk=>(hi k).mp hk) (by omega) (by omega) (by rw[NC];omega);have ll:((ws.map Val.int).length:Nat)=ws.length:=o_ ..;have rg:jI [.int (ws.length:Nat)]=some (rgV ws.length):=kE (by omega);have keys:=AT.bx_keys ws t b;obtain⟨e',⟨s,rfl,_⟩,lc⟩:=eL (g:=(gtN 0).G) (F:=(pOp xr (af 1) (af 0)).G) (λk:Nat=>Val.int k) (λk:Nat=>bV (bxO (AT.bx ws t b) k)) (λe=>∃s:Sl,e=[s,.mu (.dct (da [] (AT.bx ws t b)))]/\s.pl=true) (List.range ws.length) [] [.no,.mu (.dct (da [] (AT.bx ws t b)))] ⟨.no,rfl,rfl⟩ (by
  rintro k hk _ ⟨s,rfl,hs⟩;rw[NM] at hk;have lk:=Mb ((vT (k:=k) (AT.bx ws t b) [] (by rw[keys];exact nd)).1 (by rw[keys];exact (hi k).mpr hk));generalize da [] (AT.bx ws t b)=kv at *;generalize bV (bxO (AT.bx ws t b) k)=bv at *;refine⟨[.sh (.int (k:Nat)),.mu (.dct kv)],.val bv,[.sh (.int (k:Nat)),.mu (.dct kv)],?_,?_,rfl,_,rfl,rfl⟩
  .simp![hs]
  .simp![lk]) (by rw[NC,A_];omega)
 have l2:((List.range ws.length).map λk=>bV (bxO (AT.bx ws t b) k)).length<=16777216:=by simp;omega
 rw[NK] at lc;rw[show (List.range ws.length).map (λk:Nat=>Val.int k)=rgV ws.length from rfl] at lc;generalize (List.range ws.length).map (λk=>bV (bxO (AT.bx ws t b) k))=RB at *;generalize da [] (AT.bx ws t b)=kv at *;unfold liV at pl ⊢;generalize atV t=tv at *;generalize bV b=bv at *;unfold fQ;rw[aF];unfold mO;simp![cb,cw,ll,ct,pl,rg,bU,inS,lc,l2]
noncomputable def lwB (b:Bx):Bool:=!decide (b.w<b.h)
def dX{b:Bx}{n:Nat}(hb:b.Ok)(hs:b.Sz n)(h:n<=8000):bY.G [bV b]=.ok (.val (.str (wy (lwB b)))) []:=by
 have cb:=bE hb;have il:=gF hs.w hs.h (by omega) (by omega);have ib:(bV b).items=some [fV b.l,fV b.t,fV b.w,fV b.h]:=rfl;unfold bY lwB;rw[aF];unfold nH;by_cases hl:b.w<b.h
 .rw[E_ hl] at il ⊢;simp![cb,ib,il];rfl
 .rw[C_ hl] at il ⊢;simp![cb,ib,il];rfl
def Bd(m B:Nat)(b:Bx)(n:Nat):Prop:=∃D A,Rp D A B b/\B<=A/\1<=A/\(A+n*B)*(D*2^(m*n))<2^2000
def Bd.fine{m B n:Nat}{b:Bx}(h:Bd m B b n):b.Ok/\b.Sz 2000:=by obtain⟨D,A,r,hBA,hA,hq⟩:=h;exact r.fine hBA hA hq
def Bd.ok{m B n:Nat}{b:Bx}(h:Bd m B b n):b.Ok:=h.fine.1
def Bd.sz{m B n:Nat}{b:Bx}(h:Bd m B b n):b.Sz 2000:=h.fine.2
def Bd.part{m B n k:Nat}{b c:Bx}{way:Str}{ws:List Int}(h:Bd m B b n)(hw:∀w∈ws,1<=w)(hS:ws.sum<2^m)(hc:c∈ba b way ws)(hk:k<n):Bd m B c k:=by
 obtain⟨D,A,r,hBA,hA,hq⟩:=h;have hT:ws.sum.toNat<=2^m:=by
  have h4:((2^m:Nat):Int)=(2:Int)^m:=by push_cast;rfl
  rw[<- h4] at hS;generalize 2^m=X at hS ⊢;clear hq;omega
 refine⟨D*ws.sum.toNat,A+B,r.parts hw hc,by omega,by omega,OP (NY ?_ ?_) hq⟩
 .have:(k+1)*B<=n*B:=OB _ hk;rw[Nat.add_mul,Nat.one_mul] at this;omega
 .rw[PY];refine Oo _ ?_;have e:2^m*2^(m*k)=2^(m*(k+1)):=by rw[<- OM];congr 1;rw[Nat.mul_add,Nat.mul_one,Nat.add_comm]
  exact NG (OB _ hT) (by rw[e];exact Oa (by decide) (Oo _ hk))
def rF(b:Bx)(w:Bool)(x y:Int):ba b (wy w) [x,y]=[cu b w (x+y) 0 x,cu b w (x+y) x y]:=by rw[pO];simp [frm]
def AY(w:Bool):wy w="across" \/ wy w="down":=by cases w;exact .inr rfl;exact .inl rfl
def zC{m:Nat}{S:Int}(h0:0<=S)(h:S<2^m):Sm m S:=by
 show S.natAbs<2^m;have h4:((2^m:Nat):Int)=(2:Int)^m:=by push_cast;rfl
 rw[<- h4] at h;omega
def jG{b:Bx}{xs:List Int}{m B n i:Nat}(hb:Bd m B b n)(hm:m<=104)(h1:1<=(xs.take i).sum)(h2:1<=(xs.drop i).sum)(hS:(xs.take i).sum+(xs.drop i).sum<2^m):cM.G [bV b,liV xs,.int (i:Nat)]=.ok (.new (.lst [bV (cu b (lwB b) ((xs.take i).sum+(xs.drop i).sum) 0 (xs.take i).sum),bV (cu b (lwB b) ((xs.take i).sum+(xs.drop i).sum) (xs.take i).sum (xs.drop i).sum)])) []:=by
 have lw:=dX hb.ok hb.sz (by decide);have pe:=kg (way:=wy (lwB b)) (ws:=[(xs.take i).sum,(xs.drop i).sum]) (m:=m) hb.ok hb.sz (AY _) (by simp) (λw hw=>by
  rcases F_.mp hw with rfl |hw
  .exact h1
  .rw[NJ.mp hw];exact h2) (by
  rw[show [(xs.take i).sum,(xs.drop i).sum].sum=(xs.take i).sum+(xs.drop i).sum from by simp];exact zC (by omega) hS) (by omega) (by show 2<=40;decide)
 rw[rF] at pe;simp only[y_,NV] at pe;have ct:=eZ (xs.map Val.int) i;have cd:=fA (xs.map Val.int) i;rw[<- Oj] at ct;rw[<- OE] at cd;have m1:=bP (xs.take i);have m2:=bP (xs.drop i);unfold cM;rw[aF];unfold kz;unfold liV;generalize (xs.take i).map Val.int=w1 at *;generalize (xs.drop i).map Val.int=w2 at *;generalize xs.map Val.int=w3 at *;generalize bV (cu b (lwB b) ((xs.take i).sum+(xs.drop i).sum) 0 (xs.take i).sum)=b1 at *;generalize bV (cu b (lwB b) ((xs.take i).sum+(xs.drop i).sum) (xs.take i).sum (xs.drop i).sum)=b2 at *;generalize bV b=bv at *;generalize wy (lwB b)=yy at *;simp![lw,eK,ct,cd,m1,m2,pe]
def rL{p q:Rat}(hq:q≠0):p/q=((p.num*q.den:Int):Rat)/((p.den*q.num:Int):Rat):=by
 have h1:=hU (cZ p);have h2:=hU (cZ q);have h3:q.num≠0:=λz=>hq (Qd.mp z);have h4:=hU h3
 conv=>lhs;rw[eU p,eU q]
 rw[N9,N9];simp only[Rat.div_def,Rat.inv_mul_rev,Rat.inv_inv];rw[Rat.mul_assoc,Rat.mul_assoc,Rat.mul_comm (((p.den:Int):Rat))⁻¹,Rat.mul_assoc]
def vv{p q:Rat}{n m:Nat}(hp:Sz n p)(hq:Sz m q)(h0:0<q)(h:n+m<=8000):iV.G [fV p,fV q]=.ok (.val (fV (p/q))) []:=by
 have c1:=cP (CMulA.of hp.top hq.bot (by omega) (by omega));have c2:=cP (CMulA.of hp.bot hq.top (by omega) (by omega));have hq0:q≠0:=λz=>by rw[z] at h0;exact absurd h0 (by decide)
 have hn:q.num≠0:=λz=>hq0 (Qd.mp z);have fe:=eY (a:=p.num*q.den) (b:=p.den*q.num) (O6 (cZ p) hn) ((hp.bot.mul hq.top).mono h);rw[<- rL hq0] at fe;unfold iV;rw[aF];unfold zY;rw[show fV p=.tup [.int p.num,.int p.den] from rfl,show fV q=.tup [.int q.num,.int q.den] from rfl];simp![c1,c2,fe]
def sV{b:Bx}{n:Nat}(hb:b.Ok)(hs:b.Sz n)(h:n+n<=8000):fZ.G [bV b]=.ok (.val (fV (cp b))) []:=by
 have lw:=dX hb hs (by omega);have ib:(bV b).items=some [fV b.l,fV b.t,fV b.w,fV b.h]:=rfl;have o1:=vv hs.w hs.h hb.2 h;have o2:=vv hs.h hs.w hb.1 h;unfold fZ cp;rw[aF];unfold vB;by_cases hl:b.w<b.h
 .rw[show wy (lwB b)="down" from by unfold lwB;rw[E_ hl];rfl] at lw;rw[if_pos hl];simp![lw,ib,o1,o2,tw]
 .rw[show wy (lwB b)="across" from by unfold lwB;rw[C_ hl];rfl] at lw;rw[if_neg hl];simp![lw,ib,o1,o2,uD]
def Sz.over{p q:Rat}{n m:Nat}(hp:Sz n p)(hq:Sz m q)(h0:0<q):Sz (n+m) (p/q):=by
 have hq0:q≠0:=λz=>by rw[z] at h0;exact absurd h0 (by decide)
 have hn:q.num≠0:=λz=>hq0 (Qd.mp z);rw[rL hq0];exact Sz.div (O6 (cZ p) hn) (hp.top.mul hq.bot) (hp.bot.mul hq.top) (n+m) (r_ _) (r_ _)
def rJ{b:Bx}{n:Nat}(hb:b.Ok)(hs:b.Sz n):Sz (n+n) (cp b):=by
 unfold cp;split
 .exact Sz.over hs.h hs.w hb.1
 .exact Sz.over hs.w hs.h hb.2
noncomputable def inT (f:List Int->Nat) (ws:List Int):Nat->Bx->List Nat->AT
 |0,_,l=>.lf (l.headD 0)
 |N
  + 1,b,l=>if l.length=1 then .lf (l.headD 0) else
  .nd (lwB b) [inT f ws N (cu b (lwB b) (wtA ws l) 0 (wtA ws (l.take (f (l.map λk=>ws.getD k 0))))) (l.take (f (l.map λk=>ws.getD k 0))),
   inT f ws N (cu b (lwB b) (wtA ws l) (wtA ws (l.take (f (l.map λk=>ws.getD k 0)))) (wtA ws (l.drop (f (l.map λk=>ws.getD k 0))))) (l.drop (f (l.map λk=>ws.getD k 0)))]
structure HowM(f:List Int->Nat)(nm:Str)(D:List Int->Prop):Prop where
 tk:∀xs i,D xs->D (xs.take i)
 dr:∀xs i,D xs->D (xs.drop i)
 lt:∀xs:List Int,D xs->2<=xs.length->(∀w∈xs,1<=w)->1<=f xs/\f xs<xs.length
 ev:∀(xs:List Int) (bv lv:Val),D xs->2<=xs.length->xs.length<=40->(∀w∈xs,1<=w)->(aE false 4 (mL [("nearest_to_half",bM),("fewest_to_third",bN)] (af 3) (aa (af 2) ag))).G [.sh bv,.sh lv,.sh (liV xs),.sh (.glb nm),.no,.no,.no,.no,.no]=.nx [.sh bv,.sh lv,.sh (liV xs),.sh (.glb nm),.sh (.int (f xs:Nat)),.no,.no,.no,.no]
def Bc{l:List Nat}{i N n:Nat}(h0:l.length<=N+1)(h1:1<=i)(h2:i<l.length)(hl:l.length<=n):((l.take i).length<=N/\1<=(l.take i).length/\(l.take i).length<=n/\(l.take i).length<l.length)/\(l.drop i).length<=N/\1<=(l.drop i).length/\(l.drop i).length<=n/\(l.drop i).length<l.length:=by rw[N4,O3];omega
def vj{l:List Nat}{i:Nat}{w:Bool}{s t:AT}(h1:1<=i)(h2:i<l.length)(a:s.dep<=(l.take i).length)(b:t.dep<=(l.drop i).length):(AT.nd w [s,t]).dep<=l.length:=by rw[N4] at a;rw[O3] at b;rw[AT.dep,AT.depL,AT.depL,AT.depL];omega
def zg{n:Nat}{x:Int}(h:(n:Int)<=x)(h1:1<=n):1<=x:=by omega
def ttQ(v:Val)(r:SR3):Prop:=gj [false,false,false,false] r=.ok (.val v) []
theorem mz{f:List Int->Nat}{nm:Str}{D:List Int->Prop}(H:HowM f nm D){ws:List Int}{m B:Nat}(hm:m<=104)(hS:∀l:List Nat,(∀k∈l,k<ws.length)->l.length<=ws.length->wtA ws l<2^m)(hw:∀w∈ws,1<=w)(hn:ws.length<=40):∀(N:Nat) (l:List Nat) (b:Bx),l.length<=N->1<=l.length->l.length<=ws.length->(∀k∈l,k<ws.length)->Bd m B b l.length->D (l.map λk=>ws.getD k 0)->
 (bo N).G [bV b,itV l,liV (l.map λk=>ws.getD k 0),.glb nm]=.ok (.val (atV (inT f ws N b l))) []/\(inT f ws N b l).ok=true/\(inT f ws N b l).lvs=l/\(inT f ws N b l).dep<=l.length
 |0,l,b,h0,h1,_,_,_,_=>by omega
 |
  N+1,l,b,h0,h1,hl,hi,hB,hD=>by
  by_cases hl1:l.length=1
  .obtain⟨k,rfl⟩:=PU.mp hl1;have a0:atI [Val.int (k:Nat)] 0=some (.int (k:Nat)):=aM (by decide) rfl;have te:inT f ws (N+1) b [k]=.lf k:=by rw[inT];exact if_pos rfl
   rw[te];refine⟨?_,rfl,rfl,by simp [AT.dep]⟩;show (PFx.of [false,false,false,false] 9 (cC (bo N))).G _=_;rw[kT,show atV (.lf k)=.int (k:Nat) from rfl,show itV [k]=.lst [.int (k:Nat)] from rfl];unfold cC;generalize bV b=bv;generalize liV _=wv;simp![a0]
  .have h2:2<=l.length:=by omega
   have hp:∀k∈l,1<=ws.getD k 0:=λj hj=>by rw[L_,B_ (hi j hj)];exact hw _ (OK _)
   have xl:(l.map λk=>ws.getD k 0).length=l.length:=o_ ..;have xp:∀w∈l.map λk=>ws.getD k 0,1<=w:=λw hw=>by obtain⟨j,hj,rfl⟩:=NQ.mp hw;exact hp j hj
   obtain⟨g1,g2⟩:=H.lt _ hD (by rw[xl];exact h2) xp;have ev:=H.ev (l.map λk=>ws.getD k 0) (bV b) (itV l) hD (by rw[xl];exact h2) (by rw[xl];exact NG hl hn) xp;rw[inT,if_neg hl1];have ht:∀i,∀j∈l.take i,j∈l:=λi j hj=>OA hj;have hd:∀i,∀j∈l.drop i,j∈l:=λi j hj=>Ph hj;have wt:∀i,((l.map λk=>ws.getD k 0).take i).sum=wtA ws (l.take i):=λi=>by unfold wtA;rw[Oj]
   have wd:∀i,((l.map λk=>ws.getD k 0).drop i).sum=wtA ws (l.drop i):=λi=>by unfold wtA;rw[OE]
   generalize hh:f (l.map λk=>ws.getD k 0)=i at *;rw[xl] at g2;obtain⟨⟨t1,t2,t3,t4⟩,d1,d2,d3,d4⟩:=Bc h0 g1 g2 hl;have p1:=ff (l:=(l.take i).map λk=>ws.getD k 0) (λw hw=>by obtain⟨j,hj,rfl⟩:=NQ.mp hw;exact hp j (ht i j hj));have p2:=ff (l:=(l.drop i).map λk=>ws.getD k 0) (λw hw=>by obtain⟨j,hj,rfl⟩:=NQ.mp hw;exact hp j (hd i j hj));rw[o_] at p1 p2;replace p1:=zg p1 t2;replace p2:=zg p2 d2;have sp:wtA ws l=wtA ws (l.take i)+wtA ws (l.drop i):=by unfold wtA;rw[<- Py,<- NT,Ov]
   rw[show ((l.take i).map λk=>ws.getD k 0).sum=wtA ws (l.take i) from rfl] at p1;rw[show ((l.drop i).map λk=>ws.getD k 0).sum=wtA ws (l.drop i) from rfl] at p2;have hs:=hS l hi hl;have ct2:=jG (xs:=l.map λk=>ws.getD k 0) (i:=i) hB hm (by rw[wt];exact p1) (by rw[wd];exact p2) (by rw[wt,wd,<- sp];exact hs);have mt:(l.map λk=>ws.getD k 0).take i=(l.take i).map λk=>ws.getD k 0:=by rw[Oj]
   have md:(l.map λk=>ws.getD k 0).drop i=(l.drop i).map λk=>ws.getD k 0:=by rw[OE]
   rw[wt,wd,<- sp] at ct2;have pm:∀c∈[cu b (lwB b) (wtA ws l) 0 (wtA ws (l.take i)),cu b (lwB b) (wtA ws l) (wtA ws (l.take i)) (wtA ws (l.drop i))],∀k,k<l.length->Bd m B c k:=λc hc k hk=>hB.part (way:=wy (lwB b)) (ws:=[wtA ws (l.take i),wtA ws (l.drop i)]) (λw hw=>by
    rcases F_.mp hw with rfl |hw
    .exact p1
    .rw[NJ.mp hw];exact p2) (by rw[show [wtA ws (l.take i),wtA ws (l.drop i)].sum=wtA ws l from by rw[sp];simp];exact hs) (by rw[rF,<- sp];exact hc) hk
   obtain⟨a1,a3,a4,a5⟩:=mz H hm hS hw hn N (l.take i) _ t1 t2 t3 (λj hj=>hi j (ht i j hj)) (pm _ (s_ ..) _ t4) (by rw[<- mt];exact H.tk _ _ hD);obtain⟨b1,b3,b4,b5⟩:=mz H hm hS hw hn N (l.drop i) _ d1 d2 d3 (λj hj=>hi j (hd i j hj)) (pm _ (q_ _ (s_ ..)) _ d4) (by rw[<- md];exact H.dr _ _ hD);have lw:=dX hB.ok hB.sz (by decide);generalize inT f ws N (cu b (lwB b) (wtA ws l) 0 (wtA ws (l.take i))) (l.take i)=T1 at *;generalize inT f ws N (cu b (lwB b) (wtA ws l) (wtA ws (l.take i)) (wtA ws (l.drop i))) (l.drop i)=T2 at *;refine⟨?_,?_,?_,?_⟩
   .rw[show atV (.nd (lwB b) [T1,T2])=.tup [.str (wy (lwB b)),.tup [atV T1,atV T2]] from rfl];generalize cu b (lwB b) (wtA ws l) 0 (wtA ws (l.take i))=B1 at *;generalize cu b (lwB b) (wtA ws l) (wtA ws (l.take i)) (wtA ws (l.drop i))=B2 at *;have ctl:=eZ (l.map λk:Nat=>Val.int k) i;have cdl:=fA (l.map λk:Nat=>Val.int k) i;rw[<- Oj] at ctl;rw[<- OE] at cdl;have ctx:=eZ ((l.map λk=>ws.getD k 0).map Val.int) i;have cdx:=fA ((l.map λk=>ws.getD k 0).map Val.int) i;rw[<- Oj,mt] at ctx;rw[<- OE,md] at cdx;have n1:(((l.length:Nat):Int)==1)=false:=by rw[J_];omega
    have ll:((l.map λk:Nat=>Val.int k).length:Nat)=l.length:=o_ ..;show (PFx.of [false,false,false,false] 9 (cC (bo N))).G _=_;rw[HK rfl];show ttQ _ ((cC (bo N)).G [.sh (bV b),.sh (itV l),.sh (liV (l.map λk=>ws.getD k 0)),.sh (.glb nm),.no,.no,.no,.no,.no]);unfold cC;unfold itV at a1 b1 ev ⊢;unfold liV at a1 b1 ct2 ev ⊢;generalize bV b=bv at *;generalize bV B1=bv1 at *;generalize bV B2=bv2 at *;generalize atV T1=t1 at *;generalize atV T2=t2 at *;generalize wy (lwB b)=yy at *;generalize (l.take i).map (λk:Nat=>Val.int k)=l1 at *;generalize (l.drop i).map (λk:Nat=>Val.int k)=l2 at *;generalize ((l.take i).map λk=>ws.getD k 0).map Val.int=x1 at *;generalize ((l.drop i).map λk=>ws.getD k 0).map Val.int=x2 at *;generalize (l.map λk=>ws.getD k 0).map Val.int=x0 at *;generalize l.map (λk:Nat=>Val.int k)=l0 at *;refine aP (λe=>e=[.sh bv,.sh (.lst l0),.sh (.lst x0),.sh (.glb nm),.no,.no,.no,.no,.no]) ⟨_,by simp![ll,n1],rfl⟩ ?_;rintro _ rfl;refine aP (λe=>e=[.sh bv,.sh (.lst l0),.sh (.lst x0),.sh (.glb nm),.sh (.int (i:Nat)),.no,.no,.no,.no]) ⟨_,ev,rfl⟩ ?_;rintro _ rfl;unfold ttQ;simp![ct2,eK,ctl,cdl,ctx,cdx,a1,b1,lw,bB]
   .rw[AT.ok,AT.okL,AT.okL,AT.okL,a3,b3];rfl
   .rw[AT.lvs,AT.lvsL,AT.lvsL,AT.lvsL,a4,b4,NP,Ov]
   .exact vj g1 g2 a5 b5
theorem uF:∀(n:Nat) (l:List Nat),l.length=n->(∀i,i<n->i∈l)->l.Perm (List.range n)
 |0,l,h,_=>by rw[List.length_eq_zero_iff.mp h];exact List.Perm.refl _
 |
  n+1,l,h,hm=>by
  have h1:=hm n (by omega);have p:=List.perm_cons_erase h1;have q:=uF n (l.erase n) (by rw[List.length_erase_of_mem h1];omega) λi hi=>(List.mem_erase_of_ne (by omega)).mpr (hm i (by omega));rw[List.range_succ];exact p.trans ((q.cons n).trans (List.perm_append_singleton n _).symm)
def J1{t:AT}{o:List Nat}{n:Nat}(T:TOk t o)(ho:∀i,i∈o ↔ i<n)(hl:o.length=n):t.lvs.Nodup:=
 (uF n t.lvs (by rw[T.len,hl]) λi hi=>(T.mem i).mpr ((ho i).mpr hi)).nodup_iff.mpr P4
def mP{q:Rat}{k D:Nat}(hs:Sz 101 q)(hD:D=q.den*k)(hk:0<k):∃z:Int,q=(z:Rat)/((D:Int):Rat)/\z.natAbs<=2^101*D/\(0<q->0<z/\z<=((2^101:Nat):Int)*(D:Int)):=by
 have dp:=q.den_pos;have hn:q.num.natAbs<2^101:=hs.1;have hz:(q.num*(k:Int)).natAbs<=2^101*D:=by rw[Oe,Int.natAbs_natCast,hD];exact NY (by omega) (Nat.le_mul_of_pos_left _ dp)
 refine⟨q.num*(k:Int),?_,hz,λh=>⟨Int.mul_pos (wJ.mpr h) (by omega),?_⟩⟩
 .have:=nu (y:=q.num) (W:=(k:Int)) dp (by omega)
  rw[NS,<- hD] at this;rw[<- this];exact eU q
 .rw[<- OT];generalize q.num*(k:Int)=z at *;generalize 2^101*D=y at *;omega
def Ey{b:Bx}(g:Good b):∃D,D<2^404/\Rp D (2^101) (2^101) b:=by
 have dl:=b.l.den_pos;have dt:=b.t.den_pos;have dw:=b.w.den_pos;have dh:=b.h.den_pos;have sz:∀q:Rat,Sz 101 q->q.den<=2^101:=λq h=>by have:(q.den:Int).natAbs<2^101:=h.2;omega
 have k1:=Oy (Oy dt dw) dh;have k2:=Oy (Oy dl dw) dh;have k3:=Oy (Oy dl dt) dh;have k4:=Oy (Oy dl dt) dw;refine⟨b.l.den*(b.t.den*b.w.den*b.h.den),?_,Oy dl k1,?_,?_,?_,?_⟩
 .have a1:b.l.den<2^101:=by have:(b.l.den:Int).natAbs<2^101:=g.sz.l.2;omega
  have a2:=NY (NY (sz _ g.sz.t) (sz _ g.sz.w)) (sz _ g.sz.h)
  calc b.l.den*(b.t.den*b.w.den*b.h.den)<=b.l.den*(2^101*2^101*2^101):=Oo _ a2
   _<2^101*(2^101*2^101*2^101):=Nat.mul_lt_mul_of_pos_right a1 (by decide)
   _=2^404:=by rw[<- OM,<- OM,<- OM]
 .obtain⟨z,h1,h2,_⟩:=mP (D:=b.l.den*(b.t.den*b.w.den*b.h.den)) g.sz.l rfl k1;exact⟨z,h1,h2⟩
 .obtain⟨z,h1,h2,_⟩:=mP (D:=b.l.den*(b.t.den*b.w.den*b.h.den)) (k:=b.l.den*b.w.den*b.h.den) g.sz.t (by ac_rfl) k2;exact⟨z,h1,h2⟩
 .obtain⟨z,h1,_,h2⟩:=mP (D:=b.l.den*(b.t.den*b.w.den*b.h.den)) (k:=b.l.den*b.t.den*b.h.den) g.sz.w (by ac_rfl) k3;exact⟨z,h1,h2 g.ok.w⟩
 .obtain⟨z,h1,_,h2⟩:=mP (D:=b.l.den*(b.t.den*b.w.den*b.h.den)) (k:=b.l.den*b.t.den*b.w.den) g.sz.h (by ac_rfl) k4;exact⟨z,h1,h2 g.ok.h⟩
structure WOk(ws:List Int):Prop where
 pos:1<=ws.length
 len:ws.length<=40
 wt:∀w∈ws,1<=w/\w<=1000000000000000000000000000000
 few:10<ws.length->∀w∈ws,w<=8388608
theorem j5{ws:List Int}{M:Int}:∀{l:List Nat},(∀k∈l,ws.getD k 0<=M)->wtA ws l<=(l.length:Int)*M
 | [],_=>by simp [wtA]
 |
  k::l,h=>by
  have h1:=h k (s_ ..);have h2:=j5 (l:=l) λj hj=>h j (q_ _ hj);unfold wtA at h2 ⊢;rw[y_,NN,D_,Int.natCast_add,Int.add_mul];omega
def MB{ws:List Int}{t:AT}{o:List Nat}{b:Bx}(g:Good b)(W:WOk ws)(T:TOk t o)(ho:∀i,i∈o ↔ i<ws.length)(hl:o.length=ws.length):(∀k∈t.lvs,1<=ws.getD k 0)/\∃D m,m<=104/\Rp D (2^101) (2^101) b/\(2^101+t.dep*2^101)*(D*2^(m*t.dep))<2^2000/\wtT ws t<2^m:=by
 obtain⟨D,hD,R⟩:=Ey g;have hlt:∀k∈t.lvs,k<ws.length:=λk hk=>(ho k).mp ((T.mem k).mp hk);have hin:∀k∈t.lvs,ws.getD k 0∈ws:=λk hk=>by rw[L_,B_ (hlt k hk)];exact OK _
 have hd:=T.dep;have len:=T.len;have wl:=W.len;refine⟨λk hk=>(W.wt _ (hin k hk)).1,D,?_⟩;have key:∀m,m*t.dep<=1218->m<=104->wtT ws t<2^m->∃m,m<=104/\Rp D (2^101) (2^101) b/\(2^101+t.dep*2^101)*(D*2^(m*t.dep))<2^2000/\wtT ws t<2^m:=λm h1 h2 h3=>by
  refine⟨m,h2,R,?_,h3⟩;have a1:2^101+t.dep*2^101<=2^107:=by
   have h1:=OB (2^101) (show t.dep<=40 by omega);have h2:2^107=64*2^101:=by decide
   rw[h2];generalize 2^101=X at *;omega
  have a2:2^(m*t.dep)<=2^1218:=Oa (by decide) h1;have a3:=NY a1 (NY (Pd hD) a2);refine OP a3 ?_;rw[<- OM,<- OM];exact Nat.pow_lt_pow_right (by decide) (by decide)
 by_cases h9:10<ws.length
 .refine key 29 (by omega) (by decide) ?_
  have:=j5 (M:=8388608) λk hk=>W.few h9 _ (hin k hk)
  unfold wtT;have:(2:Int)^29=536870912:=by decide
  omega
 .refine key 104 (by omega) (by decide) ?_
  have:=j5 (M:=1000000000000000000000000000000) λk hk=>(W.wt _ (hin k hk)).2
  unfold wtT;have:(2:Int)^104=20282409603651670423947251286016:=by decide
  omega
def DJ{ws:List Int}{t:AT}{o:List Nat}{b:Bx}(g:Good b)(W:WOk ws)(T:TOk t o)(ho:∀i,i∈o ↔ i<ws.length)(hl:o.length=ws.length):∃m,m<=104/\AT.lay ws 2000 m t b:=by obtain⟨hw,D,m,h1,R,h2,h3⟩:=MB g W T ho hl;have len:=T.len;have wl:=W.len;exact⟨m,h1,Jx t b D (2^101) R (r_ _) (by decide) h2 T.ok hw h3 (by omega)⟩
theorem wI(m:Int):∀xs:List Int,gC (.int m) (xs.map .int)=some (xs.map (· == m))
 | []=>rfl
 |x::xs=>by rw[y_,gC,wI m xs,El];rfl
def zj{xs:List Int}{m:Int}(h:m∈xs):(xs.map (· == m)).idxOf true<xs.length/\cT.G (.lst (xs.map .int)) [.int m]=.val (.int ((xs.map (· == m)).idxOf true:Nat)):=by have hm:true∈xs.map (· == m):=NQ.mpr ⟨m,h,beq_self_eq_true m⟩;have hl:=PF.mpr hm;refine⟨by rw[o_] at hl;exact hl,?_⟩;show gk (.lst (xs.map .int)) [.int m]=_;unfold gk;dsimp only;rw[wI];dsimp only;rw[if_pos hl]
noncomputable def apt (ws:List Int):List Int:=(List.range (ws.length-1)).map λi=>((2*(ws.take (i+1)).sum-ws.sum).natAbs:Int)
noncomputable def ia (ws:List Int):Nat:=((apt ws).map (· == mnI (apt ws))).idxOf true+1
def vV(ws:List Int):(apt ws).length=ws.length-1:=by unfold apt;rw[o_,A_]
def n6{ws:List Int}(h:2<=ws.length):apt ws≠[]/\1<=ia ws/\ia ws<ws.length/\cT.G (liV (apt ws)) [.int (mnI (apt ws))]=.val (.int ((ia ws-1:Nat):Int)):=by
 have hl:=vV ws;have h0:apt ws≠[]:=λz=>by rw[z] at hl;simp at hl;omega
 obtain⟨h1,h2⟩:=zj (oA h0);refine⟨h0,by unfold ia;omega,by unfold ia;omega,?_⟩;unfold ia liV;rw[Nat.add_sub_cancel];exact h2
def Jv{ws:List Int}(hl:ws.length<=1000):∃s,lcV (gtN 0).G qY.G (pFn jL (aa (pOp fX (pOp bF (ah 2) (pFn bz (aa (pSl (af 1) oN (oS (af 0))) ag))) (pFn bz (aa (af 1) ag))) ag)).G (mr 1 (ws.length-1)) [] [.no,.sh (liV ws)]=.ok ((apt ws).map .int) [s,.sh (liV ws)]:=by
 obtain⟨e',⟨s,rfl,_⟩,lc⟩:=eL (g:=(gtN 0).G) (F:=(pFn jL (aa (pOp fX (pOp bF (ah 2) (pFn bz (aa (pSl (af 1) oN (oS (af 0))) ag))) (pFn bz (aa (af 1) ag))) ag)).G) (λi:Nat=>Val.int (1+(i:Nat))) (λi:Nat=>Val.int ((2*(ws.take (i+1)).sum-ws.sum).natAbs:Int)) (λe=>∃s:Sl,e=[s,.sh (liV ws)]/\s.pl=true) (List.range (ws.length-1)) [] [.no,.sh (liV ws)] ⟨.no,rfl,rfl⟩ (by
  rintro i hi _ ⟨s,rfl,hs⟩;have ic:(1:Int)+(i:Nat)=((i+1:Nat):Int):=by omega
  have ct:=eZ (ws.map Val.int) (i+1);rw[<- Oj] at ct;have c2:bF.G (.int 2) (.int (ws.take (i+1)).sum)=.val (.int (2*(ws.take (i+1)).sum)):=cP (CMulA.left (by decide) (by decide));refine⟨[.sh (.int (1+(i:Nat))),.sh (liV ws)],.val (.int ((2*(ws.take (i+1)).sum-ws.sum).natAbs:Int)),[.sh (.int (1+(i:Nat))),.sh (liV ws)],?_,?_,rfl,_,rfl,rfl⟩
  .generalize liV ws=wv;simp![hs]
  .unfold liV;rw[ic];have m1:=bP ws;have m2:=bP (ws.take (i+1));have ab:∀x:Int,(if x<0 then -x else x)=(x.natAbs:Int):=λx=>by split <;> omega
   generalize ((ws.take (i+1)).map Val.int)=w1 at *;generalize ws.map Val.int=w2 at *;simp![eK,ct,m1,m2,c2,ab]) (by rw[NC,A_];omega)
 rw[NK] at lc;refine⟨s,lc.trans ?_⟩;unfold apt;rw[Of];rfl
def GP{n:Nat}(h:n<=1000):rD [.int 1,.int (n:Nat)]=some (mr 1 (n-1)):=by have e:((n:Nat):Int)-1=((n:Int)-1):=rfl;rw[show rD [.int 1,.int (n:Nat)]=some (mr 1 (((n:Nat):Int)-1).toNat) from if_pos ⟨⟨by decide,by decide⟩,⟨by omega,by omega⟩⟩];congr 2;omega
def wU{ws:List Int}(h2:2<=ws.length)(hl:ws.length<=1000):bM.G [liV ws]=.ok (.val (.int (ia ws:Nat))) []:=by
 obtain⟨h0,h1,h3,ix⟩:=n6 h2;obtain⟨s,lc⟩:=Jv hl;have mn:=G5 h0;have rg:=GP (n:=ws.length) hl;have ll:((ws.map Val.int).length:Nat)=ws.length:=o_ ..;have al:((apt ws).map Val.int).length<=16777216:=by rw[o_,vV];omega
 have e1:((ia ws-1:Nat):Int)+1=(ia ws:Nat):=by omega
 unfold bM;rw[aF];unfold gE;unfold liV at lc ix ⊢;rw[<- e1];generalize (apt ws).map Val.int=av at *;generalize ws.map Val.int=wv at *;simp![ll,rg,bU,inS,lc,al,mn,ix]
def Cp{xs:List Int}{k:Nat}:bF.G (.int 3) (.int (xs.take k).sum)=.val (.int (3*(xs.take k).sum)):=cP (CMulA.left (by decide) (by decide))
theorem rE{xs:List Int}(hs:1<=xs.sum):∀f k,k+f=xs.length->(xWh (qOf (pOp bLt (pOp bF (ah 3) (pFn bz (aa (pSl (af 0) oN (oS (af 1))) ag))) (pFn bz (aa (af 0) ag)))) c7).G [.sh (liV xs),.sh (.int (k:Nat))]=.nx [.sh (liV xs),.sh (.int (thN xs f k:Nat))]
 |
  f,k,hf=>by
  have ct:=eZ (xs.map Val.int) k;rw[<- Oj] at ct;have m1:=bP xs;have m2:=bP (xs.take k);have fc:=Cp (xs:=xs) (k:=k);rw[gA];by_cases hl:3*(xs.take k).sum<xs.sum
  .cases f with
   |zero=>rw[N5 (by omega)] at hl;omega
   |
    succ f=>
    have d1:=E_ hl;have ih:=rE hs f (k+1) (by omega);have k1:((k:Nat):Int)+1=((k+1:Nat):Int):=by omega
    have bb:c7.G [.sh (liV xs),.sh (.int (k:Nat))]=.nx [.sh (liV xs),.sh (.int ((k+1:Nat):Int))]:=by unfold c7;generalize liV xs=xv;simp![k1]
    rw[thN,if_pos hl];unfold liV at ih bb ⊢;generalize (xs.take k).map Val.int=w1 at *;generalize xs.map Val.int=w2 at *;simp![eK,ct,m1,m2,fc,d1,bb,ih]
  .have d1:=C_ hl;have e:thN xs f k=k:=by
    cases f with
    |zero=>rfl
    |succ f=>rw[thN,if_neg hl]
   rw[e];unfold liV;generalize (xs.take k).map Val.int=w1 at *;generalize xs.map Val.int=w2 at *;simp![eK,ct,m1,m2,fc,d1]
def Ac{xs:List Int}(h1:1<=xs.length)(hs:1<=xs.sum):bN.G [liV xs]=.ok (.val (.int (jt xs:Nat))) []:=by have lo:=rE hs (xs.length-1) 1 (by omega);rw[show thN xs (xs.length-1) 1=jt xs from rfl,show ((1:Nat):Int)=1 from rfl] at lo;unfold bN;rw[aF];unfold gD;generalize liV xs=xv at *;simp![lo]
def C2:HowM ia "nearest_to_half" λ_=>True:=⟨λ_ _ _=>trivial,λ_ _ _=>trivial,λxs _ h2 _=>⟨(n6 h2).2.1,(n6 h2).2.2.1⟩,λxs bv lv _ h2 h40 hp=>by
 have ne:=wU h2 (by omega);have nq:(("nearest_to_half" : Str) == "nearest_to_half")=true:=by decide
 generalize liV xs=xv at *;simp![nq,ne]⟩
def AD:HowM jt "fewest_to_third" λxs=>xs.Pairwise λx y=>y<=x:=⟨λ_ _ h=>h.sublist (List.take_sublist ..),λ_ _ h=>h.sublist (List.drop_sublist ..),λxs h h2 hp=>CS h2 hp h,λxs bv lv _ h2 h40 hp=>by
 have sn:=ff hp;have ne:=Ac (xs:=xs) (by omega) (by omega);have nq:(("nearest_to_half" : Str) == "fewest_to_third")=false:=by decide
 have nr:(("fewest_to_third" : Str) == "nearest_to_half")=false:=by decide
 have ns:(("fewest_to_third" : Str) == "fewest_to_third")=true:=by decide
 generalize liV xs=xv at *;simp![nq,nr,ns,ne]⟩
noncomputable def mxL:List Rat->Rat
 | []=>0
 |x::xs=>xs.foldl mx x
theorem zb{n:Nat}:∀(xs:List Rat) (a:Rat),Sz n a->(∀x∈xs,Sz n x)->Sz n (xs.foldl mx a)
 | [],a,h,_=>h
 |
  x::xs,a,h,hx=>by
  rw[Pu];refine zb xs _ ?_ λy hy=>hx y (q_ _ hy);unfold mx;split
  .exact hx x (s_ ..)
  .exact h
theorem nD{n:Nat}(hn:n<=100000){v:Val}:∀(xs:List Rat) (a:Rat) (s:Sl),s.pl=true->Sz n a->(∀x∈xs,Sz n x)->∃s',fB (gtN 2).G eS.G (xs.map fV) [.sh v,.sh (fV a),s]=.nx [.sh v,.sh (fV (xs.foldl mx a)),s']
 | [],a,s,_,_,_=>⟨s,by rw[NV,vZ];rfl⟩
 |
  x::xs,a,s,hs,ha,hx=>by
  have hx0:=hx x (s_ ..);have il:=gF ha hx0 hn hn;have hm:Sz n (mx a x):=by
   unfold mx;split
   .exact hx0
   .exact ha
  obtain⟨s',ih⟩:=nD hn (v:=v) xs (mx a x) (.sh (fV x)) rfl hm λy hy=>hx y (q_ _ hy);refine⟨s',?_⟩;have bb:eS.G [.sh v,.sh (fV a),.sh (fV x)]=.nx [.sh v,.sh (fV (mx a x)),.sh (fV x)]:=by
   unfold eS mx;by_cases hl:a<x
   .rw[E_ hl] at il;rw[if_pos hl];simp![il]
   .rw[C_ hl] at il;rw[if_neg hl];simp![il]
  have g1:(gtN 2).G (fV x) [.sh v,.sh (fV a),s]=some [.sh v,.sh (fV a),.sh (fV x)]:=by simp![hs]
  rw[y_,gm,g1];simp only[bb,qX];rw[ih];rfl
def lu{n:Nat}(hn:n<=100000){qs:List Rat}(h0:qs≠[])(hq:∀q∈qs,Sz n q):cW.G [.lst (qs.map fV)]=.ok (.val (fV (mxL qs))) []:=by
 cases qs with
 |nil=>exact absurd rfl h0
 |
  cons q qs=>
  have hq0:=hq q (s_ ..);obtain⟨s',lo⟩:=nD hn (v:=.lst ((q::qs).map fV)) (q::qs) q .no rfl hq0 hq;have e:(q::qs).foldl mx q=mxL (q::qs):=by rw[Pu,show mx q q=q from if_neg Rat.lt_irrefl];rfl
  rw[e] at lo;have a0:atI ((q::qs).map fV) 0=some (fV q):=aM (by decide) rfl;generalize mxL (q::qs)=r at *;generalize (q::qs).map fV=qv at *;unfold cW;rw[aF];unfold jV;simp![a0,lo]
def zf{P:PFn}{bs:List Bx}(h:∀c∈bs,P.G [bV c]=.ok (.val (fV (cp c))) [])(hm:P.ms=[false])(hl:bs.length<=1000):∃s,lcV (gtN 0).G qY.G (ak P (aa (af 0) ag)).G (bs.map bV) [] [.no]=.ok ((bs.map cp).map fV) [s]:=by
 obtain⟨e',⟨s,rfl,_⟩,lc⟩:=eL (g:=(gtN 0).G) (F:=(ak P (aa (af 0) ag)).G) bV (λc=>fV (cp c)) (λe=>∃s:Sl,e=[s]/\s.pl=true) bs [] [.no] ⟨.no,rfl,rfl⟩ (by
  rintro c hc _ ⟨s,rfl,hs⟩;have hp:=h c hc;refine⟨[.sh (bV c)],.val (fV (cp c)),[.sh (bV c)],?_,?_,rfl,_,rfl,rfl⟩
  .simp![hs]
  .simp![hm,hp]) (by rw[NC];omega)
 rw[NK] at lc;refine⟨s,?_⟩;rw[Of];exact lc
def sU(w:Bool):eg.G [.str (wy w)]=.ok (.val (.str (wy !w))) []:=by
 unfold eg;rw[aF];unfold lD;cases w
 .rw[show wy (!false)="across" from rfl,show wy false="down" from rfl];simp![tw]
 .rw[show wy (!true)="down" from rfl,show wy true="across" from rfl];simp![uD]
noncomputable def l8 (b:Bx) (xs:List Int) (k:Nat):Bx:=if k<xs.length then cu b (lwB b) ((xs.take k).sum+(xs.drop k).sum) 0 (xs.take k).sum else b
noncomputable def fq (b:Bx) (xs:List Int) (k:Nat):List Bx:=ba (l8 b xs k) (wy !lwB b) (xs.take k)
noncomputable def cz (b:Bx) (xs:List Int) (k:Nat):Rat:=mxL ((fq b xs k).map cp)
structure RwIn(m B:Nat)(b:Bx)(xs:List Int):Prop where
 hm:m<=104
 bd:Bd m B b xs.length
 pos:∀w∈xs,1<=w
 sum:xs.sum<2^m
 len:xs.length<=40
def RwIn.two{m B:Nat}{b:Bx}{xs:List Int}(h:RwIn m B b xs){k:Nat}(h1:1<=k)(h2:k<xs.length):1<=(xs.take k).sum/\1<=(xs.drop k).sum/\(xs.take k).sum+(xs.drop k).sum<2^m:=by
 have a1:=ff (l:=xs.take k) λw hw=>h.pos w (OA hw);have a2:=ff (l:=xs.drop k) λw hw=>h.pos w (Ph hw);have a3:(xs.take k).sum+(xs.drop k).sum=xs.sum:=by rw[<- Py,Ov]
 rw[N4] at a1;rw[O3] at a2
 have:=h.sum
 refine⟨by omega,by omega,by rw[a3];exact this⟩
def RwIn.cut{m B:Nat}{b:Bx}{xs:List Int}(h:RwIn m B b xs){k:Nat}(h1:1<=k)(h2:k<xs.length){c:Bx}(hc:c∈[cu b (lwB b) ((xs.take k).sum+(xs.drop k).sum) 0 (xs.take k).sum,cu b (lwB b) ((xs.take k).sum+(xs.drop k).sum) (xs.take k).sum (xs.drop k).sum]){j:Nat}(hj:j<xs.length):Bd m B c j:=by
 obtain⟨a1,a2,a3⟩:=h.two h1 h2;exact
  h.bd.part (way:=wy (lwB b)) (ws:=[(xs.take k).sum,(xs.drop k).sum]) (λw hw=>by
  rcases F_.mp hw with rfl |hw
  .exact a1
  .rw[NJ.mp hw];exact a2) (by rw[show [(xs.take k).sum,(xs.drop k).sum].sum=(xs.take k).sum+(xs.drop k).sum from by simp];exact a3) (by rw[rF];exact hc) hj
def RwIn.row{m B:Nat}{b:Bx}{xs:List Int}(h:RwIn m B b xs){k:Nat}(h1:1<=k)(h2:k<=xs.length):∃j,1<=j/\Bd m B (l8 b xs k) j:=by
 unfold l8;by_cases hk:k<xs.length
 .rw[if_pos hk];exact⟨k,h1,h.cut h1 hk (s_ ..) hk⟩
 .rw[if_neg hk];exact⟨xs.length,by omega,h.bd⟩
def RwIn.take{m B:Nat}{b:Bx}{xs:List Int}(h:RwIn m B b xs){k:Nat}:(xs.take k).sum<2^m:=by
 have a2:=ff (l:=xs.drop k) λw hw=>h.pos w (Ph hw);have a3:(xs.take k).sum+(xs.drop k).sum=xs.sum:=by rw[<- Py,Ov]
 have:=h.sum
 omega
def zd(b:Bx)(w:Bool)(xs:List Int):(ba b (wy w) xs).length=xs.length:=by rw[pO,wO]
def RwIn.boxes{m B:Nat}{b:Bx}{xs:List Int}(h:RwIn m B b xs){k:Nat}(h1:1<=k)(h2:k<=xs.length):∀c∈fq b xs k,c.Ok/\c.Sz 2000:=λc hc=>by
 obtain⟨j,hj,hB⟩:=h.row h1 h2
 have:=hB.part (λw hw=>h.pos w (OA hw)) h.take hc (show 0<j by omega)
 exact⟨this.ok,this.sz⟩
def RwIn.len'{m B:Nat}{b:Bx}{xs:List Int}(h:RwIn m B b xs){k:Nat}(h2:k<=xs.length):(fq b xs k).length=k:=by unfold fq;rw[zd,N4];omega
def RwIn.shp{m B:Nat}{b:Bx}{xs:List Int}(h:RwIn m B b xs){k:Nat}(h1:1<=k)(h2:k<=xs.length):(fq b xs k).map cp≠[]/\∀q∈(fq b xs k).map cp,Sz 4000 q:=by
 have:=h.len' h2
 refine⟨λz=>?_,λq hq=>?_⟩
 .have:=NR List.length z
  rw[o_,NC] at this;omega
 .obtain⟨c,hc,rfl⟩:=NQ.mp hq;obtain⟨c1,c2⟩:=h.boxes h1 h2 c hc;exact rJ c1 c2
def RwIn.wsz{m B:Nat}{b:Bx}{xs:List Int}(h:RwIn m B b xs){k:Nat}(h1:1<=k)(h2:k<=xs.length):Sz 4000 (cz b xs k):=by
 obtain⟨q1,q2⟩:=h.shp h1 h2;unfold cz;cases hq:(fq b xs k).map cp with
 |nil=>exact absurd hq q1
 |cons q qs=>rw[hq] at q2;exact zb qs q (q2 q (s_ ..)) λx hx=>q2 x (q_ _ hx)
def kC{m B:Nat}{b:Bx}{xs:List Int}(h:RwIn m B b xs){k:Nat}(h1:1<=k)(h2:k<=xs.length):cH.G [bV b,liV xs,.int (k:Nat)]=.ok (.val (fV (cz b xs k))) []:=by
 obtain⟨j,hj,hB⟩:=h.row h1 h2;have hm:=h.hm;have a_:=h.len;have lw:=dX h.bd.ok h.bd.sz (by decide);have ow:=sU (lwB b);have tl:(xs.take k).length=k:=by rw[N4];omega
 have tp:=ff (l:=xs.take k) λw hw=>h.pos w (OA hw);have pe:=kg (way:=wy !lwB b) (ws:=xs.take k) (m:=m) hB.ok hB.sz (AY _) (λz=>by rw[z] at tl;simp at tl;omega) (λw hw=>h.pos w (OA hw)) (zC (by omega) h.take) (by omega) (by omega);rw[show ba (l8 b xs k) (wy !lwB b) (xs.take k)=fq b xs k from rfl] at pe;have bl:=h.len' h2;obtain⟨s,lc⟩:=zf (P:=fZ) (bs:=fq b xs k) (λc hc=>sV (h.boxes h1 h2 c hc).1 (h.boxes h1 h2 c hc).2 (by decide)) rfl (by omega);obtain⟨q1,q2⟩:=h.shp h1 h2;have ge:=lu (by decide) q1 q2;rw[show mxL ((fq b xs k).map cp)=cz b xs k from rfl] at ge;have sl:(((fq b xs k).map cp).map fV).length<=16777216:=by rw[o_,o_];omega
 have ct:=eZ (xs.map Val.int) k;rw[<- Oj] at ct;have lx:((xs.map Val.int).length:Nat)=xs.length:=o_ ..;unfold cH;rw[aF];unfold je;by_cases hk:k<xs.length
 .obtain⟨a1,a2,a3⟩:=h.two h1 hk;have ct2:=jG h.bd hm a1 a2 a3;rw[show cu b (lwB b) ((xs.take k).sum+(xs.drop k).sum) 0 (xs.take k).sum=l8 b xs k from (if_pos hk).symm] at ct2;have c1:decide (((k:Nat):Int)<((xs.length:Nat):Int))=true:=E_ (by omega);unfold liV at ct2 ⊢;generalize bV (cu b (lwB b) ((xs.take k).sum+(xs.drop k).sum) (xs.take k).sum (xs.drop k).sum)=b2 at *;generalize bV (l8 b xs k)=b1 at *;generalize ((fq b xs k).map cp).map fV=sv at *;generalize (fq b xs k).map bV=bs at *;generalize (xs.take k).map Val.int=w1 at *;generalize xs.map Val.int=w3 at *;generalize bV b=bv at *;generalize wy (!lwB b)=y1 at *;generalize wy (lwB b)=yy at *;generalize cz b xs k=rr at *;simp![lx,c1,ct2,lw,ow,eK,ct,pe,lc,sl,ge]
 .have c1:decide (((k:Nat):Int)<((xs.length:Nat):Int))=false:=C_ (by omega);rw[show l8 b xs k=b from if_neg hk] at pe;unfold liV;generalize ((fq b xs k).map cp).map fV=sv at *;generalize (fq b xs k).map bV=bs at *;generalize (xs.take k).map Val.int=w1 at *;generalize xs.map Val.int=w3 at *;generalize bV b=bv at *;generalize wy (!lwB b)=y1 at *;generalize wy (lwB b)=yy at *;generalize cz b xs k=rr at *;simp![lx,c1,lw,ow,eK,ct,pe,lc,sl,ge]
noncomputable def iH (b:Bx) (xs:List Int):Nat->Nat->Nat
 |0,k=>k
 |f+1,k=>if k<xs.length then (if cz b xs k<cz b xs (k+1) then k else iH b xs f (k+1)) else k
theorem vg(b:Bx)(xs:List Int):∀f k,k<=xs.length->k<=iH b xs f k/\iH b xs f k<=xs.length
 |0,k,h=>⟨r_ _,h⟩
 |
  f+1,k,h=>by
  rw[iH];split
  .split
   .omega
   .have:=vg b xs f (k+1) (by omega)
    omega
  .omega
theorem ua{m B:Nat}{b:Bx}{xs:List Int}(h:RwIn m B b xs):∀(f k:Nat) (s:Sl),s.pl=true->xs.length<=k+f->1<=k->k<=xs.length->∃s3 s4,(xWh (qOf (pOp bLt (af 2) (pFn bA (aa (af 1) ag)))) dU).G [.sh (bV b),.sh (liV xs),.sh (.int (k:Nat)),.sh (fV (cz b xs k)),s]=.nx [.sh (bV b),.sh (liV xs),.sh (.int (iH b xs f k:Nat)),s3,s4]
 |
  f,k,s,hs,hf,h1,h2=>by
  have lx:((xs.map Val.int).length:Nat)=xs.length:=o_ ..;by_cases hk:k<xs.length
  .cases
    f with
   |zero=>omega
   |
    succ f=>
    have c1:decide (((k:Nat):Int)<((xs.length:Nat):Int))=true:=E_ (by omega);have k1:((k:Nat):Int)+1=((k+1:Nat):Int):=by omega
    have wr:=kC h (k:=k+1) (by omega) (by omega);have il:=gF (h.wsz h1 h2) (h.wsz (k:=k+1) (by omega) (by omega)) (by decide) (by decide);obtain⟨s3,s4,ih⟩:=ua h f (k+1) (.sh (fV (cz b xs (k+1)))) rfl (by omega) (by omega) (by omega);rw[iH,if_pos hk];by_cases hl:cz b xs k<cz b xs (k+1)
    .rw[if_pos hl];rw[E_ hl] at il;refine⟨.sh (fV (cz b xs k)),.sh (fV (cz b xs (k+1))),?_⟩;rw[gA];unfold dU;unfold liV at wr ⊢;generalize xs.map Val.int=w3 at *;generalize bV b=bv at *;generalize fV (cz b xs (k+1))=r1 at *;generalize fV (cz b xs k)=r0 at *;simp![hs,lx,c1,k1,wr,il]
    .rw[if_neg hl];rw[C_ hl] at il;refine⟨s3,s4,?_⟩;have bb:dU.G [.sh (bV b),.sh (liV xs),.sh (.int (k:Nat)),.sh (fV (cz b xs k)),s]=.nx [.sh (bV b),.sh (liV xs),.sh (.int ((k+1:Nat):Int)),.sh (fV (cz b xs (k+1))),.sh (fV (cz b xs (k+1)))]:=by unfold dU;generalize liV xs=w3 at *;generalize bV b=bv at *;generalize fV (cz b xs (k+1))=r1 at *;generalize fV (cz b xs k)=r0 at *;simp![hs,k1,wr,il]
     rw[gA];unfold liV at bb ih ⊢;generalize xs.map Val.int=w3 at *;generalize bV b=bv at *;generalize fV (cz b xs (k+1))=r1 at *;generalize fV (cz b xs k)=r0 at *;simp![lx,c1,bb,ih]
  .have c1:decide (((k:Nat):Int)<((xs.length:Nat):Int))=false:=C_ (by omega);refine⟨.sh (fV (cz b xs k)),s,?_⟩;have e:iH b xs f k=k:=by
    cases f with
    |zero=>rfl
    |succ f=>rw[iH,if_neg hk]
   rw[e,gA];unfold liV;generalize xs.map Val.int=w3 at *;simp![lx,c1]
noncomputable def row (b:Bx) (xs:List Int):Nat:=iH b xs xs.length 1
def HB{b:Bx}{xs:List Int}(h:1<=xs.length):1<=row b xs/\row b xs<=xs.length:=vg b xs _ 1 h
def p7{m B:Nat}{b:Bx}{xs:List Int}(h:RwIn m B b xs)(h1:1<=xs.length):eG.G [bV b,liV xs]=.ok (.val (.int (row b xs:Nat))) []:=by have wr:=kC h (k:=1) (by omega) (by omega);obtain⟨s3,s4,lo⟩:=ua h xs.length 1 .no rfl (by omega) (by omega) (by omega);rw[show iH b xs xs.length 1=row b xs from rfl] at lo;unfold eG;rw[aF];unfold j9;rw[show ((1:Nat):Int)=1 from rfl] at wr lo;generalize liV xs=w3 at *;generalize bV b=bv at *;generalize fV (cz b xs 1)=r0 at *;simp![wr,lo]
noncomputable def gf (b:Bx) (l:List Nat):AT:=if l.length=1 then .lf (l.headD 0) else .nd (!lwB b) (l.map .lf)
def EN(b:Bx)(l:List Nat):atV (.nd (!lwB b) (l.map .lf))=.tup [.str (wy !lwB b),.tup (l.map λk:Nat=>Val.int k)]:=by unfold atV;rw[AT.val,AT.vals_map,Of];rfl
def uU{b:Bx}{l:List Nat}{n:Nat}(hb:b.Ok)(hs:b.Sz n)(h:n<=8000)(hl:1<=l.length)(hl2:l.length<=1000):dP.G [bV b,itV l]=.ok (.val (atV (gf b l))) []:=by
 have lw:=dX hb hs h;have ow:=sU (lwB b);have ll:((l.map λk:Nat=>Val.int k).length:Nat)=l.length:=o_ ..;unfold dP gf;rw[aF];unfold jZ;by_cases h1:l.length=1
 .obtain⟨k,rfl⟩:=PU.mp h1;have a0:atI [Val.int (k:Nat)] 0=some (.int (k:Nat)):=aM (by decide) rfl;rw[if_pos h1,show atV (.lf ([k].headD 0))=.int (k:Nat) from rfl,show itV [k]=.lst [.int (k:Nat)] from rfl];simp![a0]
 .have n1:(((l.length:Nat):Int)==1)=false:=by rw[J_];omega
  rw[if_neg h1,EN];unfold itV;generalize wy (!lwB b)=y1 at *;generalize wy (lwB b)=yy at *;generalize (l.map λk:Nat=>Val.int k)=l0 at *;generalize bV b=bv at *;simp![ll,n1,lw,ow]
noncomputable def rwT (ws:List Int):Nat->Bx->List Nat->AT
 |0,_,l=>.lf (l.headD 0)
 |N+1,b,l=>if row b (l.map λk=>ws.getD k 0)=l.length then gf b l else .nd (lwB b) [gf b (l.take (row b (l.map λk=>ws.getD k 0))),rwT ws N (cu b (lwB b) (((l.map λk=>ws.getD k 0).take (row b (l.map λk=>ws.getD k 0))).sum+((l.map λk=>ws.getD k 0).drop (row b (l.map λk=>ws.getD k 0))).sum) ((l.map λk=>ws.getD k 0).take (row b (l.map λk=>ws.getD k 0))).sum ((l.map λk=>ws.getD k 0).drop (row b (l.map λk=>ws.getD k 0))).sum) (l.drop (row b (l.map λk=>ws.getD k 0)))]
theorem Ep:∀l:List Nat,AT.okL (l.map .lf)=true/\AT.lvsL (l.map .lf)=l/\AT.depL (l.map .lf)<=1
 | []=>⟨rfl,rfl,by decide⟩
 |
  k::l=>by
  obtain⟨a,b,c⟩:=Ep l;rw[y_];refine⟨?_,?_,?_⟩
  .rw[AT.okL,a];rfl
  .rw[AT.lvsL,b];rfl
  .rw[AT.depL,AT.dep];omega
def GN(b:Bx){l:List Nat}(hl:1<=l.length):(gf b l).ok=true/\(gf b l).lvs=l/\(gf b l).dep<=l.length/\(gf b l).dep<=2:=by
 unfold gf;by_cases h1:l.length=1
 .obtain⟨k,rfl⟩:=PU.mp h1;rw[if_pos h1];exact⟨rfl,rfl,by simp [AT.dep],by simp [AT.dep]⟩
 .rw[if_neg h1];obtain⟨a1,a2,a3⟩:=Ep l;refine⟨?_,?_,?_,?_⟩
  .simp [AT.ok,a1];omega
  .rw[AT.lvs,a2]
  .rw[AT.dep];omega
  .rw[AT.dep];omega
def ML{l:List Nat}{i:Nat}(hn:l.length<=40)(h1:1<=l.length)(h2:1<=i):1<=(l.take i).length/\(l.take i).length<=1000:=by rw[N4];omega
theorem nQ{ws:List Int}{m B:Nat}(hm:m<=104)(hS:∀l:List Nat,(∀k∈l,k<ws.length)->l.length<=ws.length->wtA ws l<2^m)(hw:∀w∈ws,1<=w)(hn:ws.length<=40):∀(N:Nat) (l:List Nat) (b:Bx),l.length<=N->1<=l.length->l.length<=ws.length->(∀k∈l,k<ws.length)->Bd m B b l.length->
 (bp N).G [bV b,itV l,liV (l.map λk=>ws.getD k 0)]=.ok (.val (atV (rwT ws N b l))) []/\(rwT ws N b l).ok=true/\(rwT ws N b l).lvs=l/\(rwT ws N b l).dep<=l.length
 |0,l,b,h0,h1,_,_,_=>by omega
 |
  N+1,l,b,h0,h1,hl,hi,hB=>by
  have hp:∀k∈l,1<=ws.getD k 0:=λj hj=>by rw[L_,B_ (hi j hj)];exact hw _ (OK _)
  have xl:(l.map λk=>ws.getD k 0).length=l.length:=o_ ..;have hR:RwIn m B b (l.map λk=>ws.getD k 0):=⟨hm,by rw[xl];exact hB,λw hw=>by obtain⟨k,hk,rfl⟩:=NQ.mp hw;exact hp k hk,hS l hi hl,by rw[xl];exact NG hl hn⟩;obtain⟨r1,r2⟩:=HB (b:=b) (xs:=l.map λk=>ws.getD k 0) (by rw[xl];exact h1);have re:=p7 hR (by rw[xl];exact h1);have te:rwT ws (N+1) b l=_:=rwT.eq_2 ws b l N;rw[xl] at r2;have ll:((l.map λk:Nat=>Val.int k).length:Nat)=l.length:=o_ ..;have lw:=dX hB.ok hB.sz (by decide);have ctl:=eZ (l.map λk:Nat=>Val.int k) (row b (l.map λk=>ws.getD k 0));have cdl:=fA (l.map λk:Nat=>Val.int k) (row b (l.map λk=>ws.getD k 0));rw[<- Oj] at ctl;rw[<- OE] at cdl;have two:∀k,k<l.length->1<=k->_:=λk h1 h2=>hR.two (k:=k) h2 (by rw[xl];exact h1);have cut:∀k,k<l.length->1<=k->∀c,c∈_->∀j,j<l.length->Bd m B c j:=λk h1 h2 c hc j hj=>hR.cut (k:=k) h2 (by rw[xl];exact h1) hc (by rw[xl];exact hj);rw[te];generalize hi0:row b (l.map λk=>ws.getD k 0)=i at *;obtain⟨k1,k2⟩:=ML (NG hl hn) h1 r1;have tr:=uU (l:=l.take i) hB.ok hB.sz (by decide) k1 k2;obtain⟨o1,o2,o3,o4⟩:=GN b (l:=l.take i) k1;by_cases hk:i=l.length
  .rw[if_pos hk];have et:l.take i=l:=N5 (Nat.le_of_eq hk.symm);rw[et] at o1 o2 o3 o4 tr ctl;have q1:(((i:Nat):Int)==((l.length:Nat):Int))=true:=by rw[NO,hk]
   refine⟨?_,o1,o2,o3⟩
   .show (PFx.of [false,false,false] 6 (cJ (bp N))).G _=_;rw[kT];unfold cJ;unfold itV at tr ⊢;generalize atV (gf b l)=tv at *;generalize liV (l.map λk=>ws.getD k 0)=x0 at *;generalize (l.map λk:Nat=>Val.int k)=l0 at *;generalize bV b=bv at *;simp![re,eK,ctl,tr,ll,q1]
  .rw[if_neg hk];have q1:(((i:Nat):Int)==((l.length:Nat):Int))=false:=by rw[J_];exact λz=>hk (Int.ofNat.inj z)
   have hi2:i<l.length:=Nat.lt_of_le_of_ne r2 hk;obtain⟨p1,p2,p3⟩:=two i hi2 r1;have pm:=cut i hi2 r1;have ct2:=jG hR.bd hm p1 p2 p3;have ctx:=eZ ((l.map λk=>ws.getD k 0).map Val.int) i;have cdx:=fA ((l.map λk=>ws.getD k 0).map Val.int) i;rw[<- Oj] at ctx;rw[<- OE] at cdx;obtain⟨_,d1,d2,d3,d4⟩:=Bc h0 r1 hi2 hl;obtain⟨b1,b3,b4,b5⟩:=nQ hm hS hw hn N (l.drop i) _ d1 d2 d3 (λj hj=>hi j (Ph hj)) (pm _ (q_ _ (s_ ..)) _ d4);rw[OE] at b1;generalize rwT ws N (cu b (lwB b) (((l.map λk=>ws.getD k 0).take i).sum+((l.map λk=>ws.getD k 0).drop i).sum) ((l.map λk=>ws.getD k 0).take i).sum ((l.map λk=>ws.getD k 0).drop i).sum) (l.drop i)=T2 at *;refine⟨?_,?_,?_,?_⟩
   .show (PFx.of [false,false,false] 6 (cJ (bp N))).G _=_;rw[kT];unfold cJ;rw[show atV (.nd (lwB b) [gf b (l.take i),T2])=.tup [.str (wy (lwB b)),.tup [atV (gf b (l.take i)),atV T2]] from rfl];generalize atV (gf b (l.take i))=tv at *;generalize atV T2=tv2 at *;generalize wy (lwB b)=yy at *;generalize bV (cu b (lwB b) _ 0 _)=B1 at *;generalize bV (cu b (lwB b) _ _ _)=B2 at *;unfold itV at tr b1 ⊢;unfold liV at re ct2 b1 ⊢;generalize ((l.map λk=>ws.getD k 0).take i).map Val.int=x1 at *;generalize ((l.map λk=>ws.getD k 0).drop i).map Val.int=x2 at *;generalize (l.map λk=>ws.getD k 0).map Val.int=x0 at *;generalize ((l.take i).map λk:Nat=>Val.int k)=l1 at *;generalize ((l.drop i).map λk:Nat=>Val.int k)=l2 at *;generalize (l.map λk:Nat=>Val.int k)=l0 at *;generalize bV b=bv at *;simp![re,eK,ctl,tr,ll,q1,ct2,lw,cdl,cdx,b1]
   .simp [AT.ok,AT.okL,o1,b3]
   .rw[AT.lvs,AT.lvsL,AT.lvsL,AT.lvsL,o2,b4,NP,Ov]
   .exact vj r1 hi2 o3 b5
def Gf{ws:List Int}(hl:ws.length<64):aT.G [liV ws]=.ok (.new (itV (aZ ws))) []:=by have kf:=AM ws hl;have ll:((ws.map Val.int).length:Nat)=ws.length:=o_ ..;unfold aT;rw[aF];unfold dH;unfold liV itV;generalize (aZ ws).map (λi:Nat=>Val.int (i:Nat))=fv at *;generalize ws.map Val.int=wv at *;simp![ll,kf]
def zq{ws:List Int}{b:Bx}{t:Val}(hb:b.Ok)(W:WOk ws)(h:(bo 42).G [bV b,itV (List.range ws.length),liV ws,.glb "nearest_to_half"]=.ok (.val t) []):cD.G [bV b,liV ws]=.ok (.val t) []:=by have wl:=W.len;have wp:=W.pos;have cb:=bE hb;have cw:=gx (ws:=ws) (by intro z;rw[z] at wp;exact absurd wp (by decide)) (λw hw=>(W.wt w hw).1) wl;have ll:((ws.map Val.int).length:Nat)=ws.length:=o_ ..;have lr:jB.G [.int (ws.length:Nat)]=.new (itV (List.range ws.length)):=D8 ⟨by omega,by omega⟩;unfold cD;rw[aF];unfold jU;unfold liV at h ⊢;generalize itV (List.range ws.length)=rv at *;generalize ws.map Val.int=wv at *;generalize bV b=bv at *;simp![cb,cw,ll,lr,h]
def EL{ws:List Int}{b:Bx}{t:Val}(hb:b.Ok)(W:WOk ws)(h:(bp 42).G [bV b,itV (List.range ws.length),liV ws]=.ok (.val t) []):de.G [bV b,liV ws]=.ok (.val t) []:=by have wl:=W.len;have wp:=W.pos;have cb:=bE hb;have cw:=gx (ws:=ws) (by intro z;rw[z] at wp;exact absurd wp (by decide)) (λw hw=>(W.wt w hw).1) wl;have ll:((ws.map Val.int).length:Nat)=ws.length:=o_ ..;have lr:jB.G [.int (ws.length:Nat)]=.new (itV (List.range ws.length)):=D8 ⟨by omega,by omega⟩;unfold de;rw[aF];unfold lB;unfold liV at h ⊢;generalize itV (List.range ws.length)=rv at *;generalize ws.map Val.int=wv at *;generalize bV b=bv at *;simp![cb,cw,ll,lr,h]
def BR{ws:List Int}{b:Bx}{t:Val}(hb:b.Ok)(W:WOk ws)(h:(bp 42).G [bV b,itV (aZ ws),liV ((aZ ws).map λk=>ws.getD k 0)]=.ok (.val t) []):bK.G [bV b,liV ws]=.ok (.val t) []:=by
 have wl:=W.len;have wp:=W.pos;have cb:=bE hb;have cw:=gx (ws:=ws) (by intro z;rw[z] at wp;exact absurd wp (by decide)) (λw hw=>(W.wt w hw).1) wl;have bf:=Gf (ws:=ws) (by omega);have lf:(aZ ws).length=ws.length:=by rw[(c9 ws).perm.length_eq,A_]
 obtain⟨s,lc⟩:=uA (ws:=ws) (l:=aZ ws) (by omega) (λk hk=>NM.mp ((c9 ws).perm.mem_iff.mp hk));have lz:(((aZ ws).map λk=>ws.getD k 0).map Val.int).length<=16777216:=by rw[o_,o_];omega
 unfold bK;rw[aF];unfold iC;unfold itV at h bf;unfold liV at h lc bf ⊢;generalize ((aZ ws).map λk=>ws.getD k 0).map Val.int=xv at *;generalize (aZ ws).map (λi:Nat=>Val.int (i:Nat))=fv at *;generalize ws.map Val.int=wv at *;generalize bV b=bv at *;simp![cb,cw,bf,bU,inS,lc,lz,h]
def A2{ws:List Int}{b:Bx}{t:Val}(hb:b.Ok)(W:WOk ws)(h:(bo 42).G [bV b,itV (aZ ws),liV ((aZ ws).map λk=>ws.getD k 0),.glb "fewest_to_third"]=.ok (.val t) []):cA.G [bV b,liV ws]=.ok (.val t) []:=by
 have wl:=W.len;have wp:=W.pos;have cb:=bE hb;have cw:=gx (ws:=ws) (by intro z;rw[z] at wp;exact absurd wp (by decide)) (λw hw=>(W.wt w hw).1) wl;have kf:=AM ws (by omega);have lf:(aZ ws).length=ws.length:=by rw[(c9 ws).perm.length_eq,A_]
 obtain⟨s,lc⟩:=uA (ws:=ws) (l:=aZ ws) (by omega) (λk hk=>NM.mp ((c9 ws).perm.mem_iff.mp hk));have ll:((ws.map Val.int).length:Nat)=ws.length:=o_ ..;have lz:(((aZ ws).map λk=>ws.getD k 0).map Val.int).length<=16777216:=by rw[o_,o_];omega
 have bf:aT.G [liV ws]=.ok (.new (itV (aZ ws))) []:=by unfold aT;rw[aF];unfold dH;unfold liV itV;generalize (aZ ws).map (λi:Nat=>Val.int (i:Nat))=fv at *;generalize ws.map Val.int=wv at *;simp![ll,kf]
 unfold cA;rw[aF];unfold jX;unfold itV at h bf;unfold liV at h lc bf ⊢;generalize ((aZ ws).map λk=>ws.getD k 0).map Val.int=xv at *;generalize (aZ ws).map (λi:Nat=>Val.int (i:Nat))=fv at *;generalize ws.map Val.int=wv at *;generalize bV b=bv at *;simp![cb,cw,bf,bU,inS,lc,lz,h]
def uH(ws:List Int):((List.range ws.length).map λk=>ws.getD k 0)=ws:=vN 0 ws
def xh{ws:List Int}{b:Bx}(g:Good b)(W:WOk ws):∃m,m<=104/\Bd m (2^101) b ws.length/\∀l:List Nat,(∀k∈l,k<ws.length)->l.length<=ws.length->wtA ws l<2^m:=by
 obtain⟨D,hD,R⟩:=Ey g;have hin:∀k,k<ws.length->ws.getD k 0∈ws:=λk hk=>by rw[L_,B_ hk];exact OK _
 have wl:=W.len;have key:∀m,m*ws.length<=1218->Bd m (2^101) b ws.length:=λm h1=>by
  refine⟨D,2^101,R,r_ _,by decide,?_⟩;have a1:2^101+ws.length*2^101<=2^107:=by
   have h1:=OB (2^101) (show ws.length<=40 by omega);have h2:2^107=64*2^101:=by decide
   rw[h2];generalize 2^101=X at *;omega
  have a2:2^(m*ws.length)<=2^1218:=Oa (by decide) h1;refine OP (NY a1 (NY (Pd hD) a2)) ?_;rw[<- OM,<- OM];exact Nat.pow_lt_pow_right (by decide) (by decide)
 by_cases h9:10<ws.length
 .refine⟨29,by decide,key 29 (by omega),λl hl hn=>?_⟩
  have:=j5 (M:=8388608) λk hk=>W.few h9 _ (hin k (hl k hk))
  have:(2:Int)^29=536870912:=by decide
  omega
 .refine⟨104,by decide,key 104 (by omega),λl hl hn=>?_⟩
  have:=j5 (M:=1000000000000000000000000000000) λk hk=>(W.wt _ (hin k (hl k hk))).2
  have:(2:Int)^104=20282409603651670423947251286016:=by decide
  omega
noncomputable def tH (b:Bx) (ws:List Int):AT:=inT ia ws 42 b (List.range ws.length)
noncomputable def tR (b:Bx) (ws:List Int):AT:=rwT ws 42 b (List.range ws.length)
noncomputable def tG (b:Bx) (ws:List Int):AT:=rwT ws 42 b (aZ ws)
noncomputable def tT (b:Bx) (ws:List Int):AT:=inT jt ws 42 b (aZ ws)
section
variable{ws:List Int}{b:Bx}
def kM{k:Nat}:k∈aZ ws ↔ k<ws.length:=(c9 ws).perm.mem_iff.trans NM
def tD:(aZ ws).length=ws.length:=by rw[(c9 ws).perm.length_eq,A_]
def m5{t:AT}{l:List Nat}(h1:t.ok=true)(h2:t.lvs=l)(h3:t.dep<=l.length)(hl:∀k,k∈l ↔ k<ws.length)(hn:l.length=ws.length):TOk t (List.range ws.length):=⟨h1,λk=>by rw[h2,hl,NM],by rw[A_];omega,by rw[h2,A_];exact hn⟩
def DL(g:Good b)(W:WOk ws):cD.G [bV b,liV ws]=.ok (.val (atV (tH b ws))) []/\TOk (tH b ws) (List.range ws.length):=by have wl:=W.len;have wp:=W.pos;obtain⟨m,hm,B,hS⟩:=xh g W;obtain⟨t1,t2,t3,t4⟩:=mz C2 hm hS (λw hw=>(W.wt w hw).1) wl 42 (List.range ws.length) b (by rw[A_];omega) (by rw[A_];omega) (by rw[A_];omega) (λk hk=>NM.mp hk) (by rw[A_];exact B) trivial;rw[uH] at t1;exact⟨zq g.ok W t1,m5 t2 t3 t4 (λk=>NM) A_⟩
def Ej(g:Good b)(W:WOk ws):de.G [bV b,liV ws]=.ok (.val (atV (tR b ws))) []/\TOk (tR b ws) (List.range ws.length):=by have wl:=W.len;have wp:=W.pos;obtain⟨m,hm,B,hS⟩:=xh g W;obtain⟨t1,t2,t3,t4⟩:=nQ (B:=2^101) hm hS (λw hw=>(W.wt w hw).1) wl 42 (List.range ws.length) b (by rw[A_];omega) (by rw[A_];omega) (by rw[A_];omega) (λk hk=>NM.mp hk) (by rw[A_];exact B);rw[uH] at t1;exact⟨EL g.ok W t1,m5 t2 t3 t4 (λk=>NM) A_⟩
def Ec(g:Good b)(W:WOk ws):bK.G [bV b,liV ws]=.ok (.val (atV (tG b ws))) []/\TOk (tG b ws) (List.range ws.length):=by have wl:=W.len;have wp:=W.pos;have fl:=tD (ws:=ws);obtain⟨m,hm,B,hS⟩:=xh g W;obtain⟨t1,t2,t3,t4⟩:=nQ (B:=2^101) hm hS (λw hw=>(W.wt w hw).1) wl 42 (aZ ws) b (by omega) (by omega) (by omega) (λk hk=>kM.mp hk) (by rw[fl];exact B);exact⟨BR g.ok W t1,m5 t2 t3 t4 (λk=>kM) fl⟩
def DV(g:Good b)(W:WOk ws):cA.G [bV b,liV ws]=.ok (.val (atV (tT b ws))) []/\TOk (tT b ws) (List.range ws.length):=by have wl:=W.len;have wp:=W.pos;have fl:=tD (ws:=ws);obtain⟨m,hm,B,hS⟩:=xh g W;obtain⟨t1,t2,t3,t4⟩:=mz AD hm hS (λw hw=>(W.wt w hw).1) wl 42 (aZ ws) b (by omega) (by omega) (by omega) (λk hk=>kM.mp hk) (by rw[fl];exact B) (AS ws);exact⟨A2 g.ok W t1,m5 t2 t3 t4 (λk=>kM) fl⟩
end
def Mj{ws:List Int}{b:Bx}{r:Str}{t:AT}(g:Good b)(W:WOk ws)(h:aS.G [.str r,bV b,liV ws]=.ok (.val (atV t)) [])(T:TOk t (List.range ws.length)):eJ.G [.str r,bV b,liV ws]=.ok (.new (.lst ((List.range ws.length).map λk=>bV (bxO (AT.bx ws t b) k)))) []:=by have wp:=W.pos;have wl:=W.len;obtain⟨m,hm,hy⟩:=DJ g W T (λi=>NM) A_;have be:=Dy (by omega) g.ok (λz=>by rw[z] at wp;exact absurd wp (by decide)) (λx hx=>(W.wt x hx).1) wl T.ok (λk=>(T.mem k).trans NM) (J1 T (λi=>NM) A_) (by rw[T.len,A_]) (by have:=T.dep;rw[A_] at this;omega) hy;unfold eJ;rw[aF];unfold pH;generalize (List.range ws.length).map (λk=>bV (bxO (AT.bx ws t b) k))=pv at *;generalize atV t=tv at *;generalize liV ws=wv at *;generalize bV b=bv at *;simp![h,be]
def cB{r:Str}(h:xf.G (.str r) (.tup [.str "across",.str "down",.str "halves",.str "rows",.str "greatest",.str "thirds"])=.val (.bl false)):aQ.G [.str r]=.ok (.val .non) []:=by unfold aQ;rw[aF];unfold hJ;simp![h]
def Ka{bv wv t:Val}(h:cD.G [bv,wv]=.ok (.val t) []):aS.G [.str "halves",bv,wv]=.ok (.val t) []:=by
 have ck:=cB (r:="halves") rfl;have e1:bG (.str "halves") (.str "halves")=some true:=by rw[L3.eq_str (by decide) (by decide)];exact NR some (by decide)
 unfold aS;rw[aF];unfold dY;simp![ck,e1,h]
def J7{bv wv t:Val}(h:de.G [bv,wv]=.ok (.val t) []):aS.G [.str "rows",bv,wv]=.ok (.val t) []:=by
 have ck:=cB (r:="rows") rfl;have e0:bG (.str "rows") (.str "halves")=some false:=by rw[L3.eq_str (by decide) (by decide)];exact NR some (by decide)
 have e1:bG (.str "rows") (.str "rows")=some true:=by rw[L3.eq_str (by decide) (by decide)];exact NR some (by decide)
 unfold aS;rw[aF];unfold dY;simp![ck,e0,e1,h]
def Ig{bv wv t:Val}(h:bK.G [bv,wv]=.ok (.val t) []):aS.G [.str "greatest",bv,wv]=.ok (.val t) []:=by
 have ck:=cB (r:="greatest") rfl;have e0:bG (.str "greatest") (.str "halves")=some false:=by rw[L3.eq_str (by decide) (by decide)];exact NR some (by decide)
 have e1:bG (.str "greatest") (.str "rows")=some false:=by rw[L3.eq_str (by decide) (by decide)];exact NR some (by decide)
 have e2:bG (.str "greatest") (.str "greatest")=some true:=by rw[L3.eq_str (by decide) (by decide)];exact NR some (by decide)
 unfold aS;rw[aF];unfold dY;simp![ck,e0,e1,e2,h]
def ID{bv wv t:Val}(h:cA.G [bv,wv]=.ok (.val t) []):aS.G [.str "thirds",bv,wv]=.ok (.val t) []:=by
 have ck:=cB (r:="thirds") rfl;have e0:bG (.str "thirds") (.str "halves")=some false:=by rw[L3.eq_str (by decide) (by decide)];exact NR some (by decide)
 have e1:bG (.str "thirds") (.str "rows")=some false:=by rw[L3.eq_str (by decide) (by decide)];exact NR some (by decide)
 have e2:bG (.str "thirds") (.str "greatest")=some false:=by rw[L3.eq_str (by decide) (by decide)];exact NR some (by decide)
 have e3:bG (.str "thirds") (.str "thirds")=some true:=by rw[L3.eq_str (by decide) (by decide)];exact NR some (by decide)
 unfold aS;rw[aF];unfold dY;simp![ck,e0,e1,e2,e3,h]
theorem lE:∀l:List Nat,AT.lvsL (l.map .lf)=l
 | []=>rfl
 |k::l=>by rw[y_,AT.lvsL,lE l,AT.lvs];rfl
theorem wM:∀l:List Nat,AT.okL (l.map .lf)=true
 | []=>rfl
 |k::l=>by rw[y_,AT.okL,wM l,AT.ok];rfl
theorem uG:∀l:List Nat,AT.depL (l.map .lf)<=1
 | []=>by rw[NV,AT.depL];omega
 |k::l=>by rw[y_,AT.depL,AT.dep];have:=uG l;omega
noncomputable def sbT (w:Bool) (n:Nat):AT:=if n=1 then .lf 0 else .nd w ((List.range n).map .lf)
def EF(w:Bool){n:Nat}(h:1<=n):TOk (sbT w n) (List.range n):=by
 unfold sbT;by_cases h1:n=1
 .rw[if_pos h1,h1];exact⟨rfl,λk=>Iff.rfl,r_ _,rfl⟩
 .rw[if_neg h1];refine⟨?_,λk=>by rw[AT.lvs,lE],?_,by rw[AT.lvs,lE]⟩
  .rw[AT.ok,wM,o_,A_,E_ (by omega)];rfl
  .rw[AT.dep,A_]
   have:=uG (List.range n)
   omega
def Ca(w:Bool)(l:List Nat):atV (.nd w (l.map .lf))=.tup [.str (wy w),.tup (l.map λk:Nat=>Val.int k)]:=by unfold atV;rw[AT.val,AT.vals_map,Of];rfl
def FX{ws:List Int}{b:Bx}(w:Bool)(hb:b.Ok)(W:WOk ws):dB.G [.str (wy w),bV b,liV ws]=.ok (.val (atV (sbT w ws.length))) []:=by
 have wl:=W.len;have wp:=W.pos;have cb:=bE hb;have cw:=gx (ws:=ws) (by intro z;rw[z] at wp;exact absurd wp (by decide)) (λx hx=>(W.wt x hx).1) wl;have ll:((ws.map Val.int).length:Nat)=ws.length:=o_ ..;have kt:mZ.G [.int (ws.length:Nat)]=.val (.tup ((List.range ws.length).map λk:Nat=>Val.int k)):=K9 ⟨by omega,by omega⟩;unfold dB sbT;rw[aF];unfold jj;unfold liV;by_cases h1:ws.length=1
 .have n1:(((ws.length:Nat):Int)==1)=true:=by rw[NO];omega
  rw[if_pos h1,show atV (.lf 0)=.int 0 from rfl];generalize ws.map Val.int=wv at *;generalize bV b=bv at *;generalize wy w=yy at *;simp![cb,cw,ll,n1]
 .have n1:(((ws.length:Nat):Int)==1)=false:=by rw[J_];omega
  rw[if_neg h1,Ca];generalize ((List.range ws.length).map λk:Nat=>Val.int k)=rv at *;generalize ws.map Val.int=wv at *;generalize bV b=bv at *;generalize wy w=yy at *;simp![cb,cw,ll,n1,kt]
def xX(w:Bool){s:Str}(h:s∈(["halves", "rows", "greatest", "thirds"]:List Str)):bG (.str (wy w)) (.str s)=some false:=by simp only[F_,Pj,or_false] at h;rcases h with rfl |rfl |rfl |rfl <;> cases w <;> (rw[L3.eq_str (by decide) (by decide)];exact NR some (by decide))
def HZ(w:Bool):aQ.G [.str (wy w)]=.ok (.val .non) []:=by
 cases w
 .exact cB rfl
 .exact cB rfl
def Ay{ws:List Int}{b:Bx}(w:Bool)(hb:b.Ok)(W:WOk ws):aS.G [.str (wy w),bV b,liV ws]=.ok (.val (atV (sbT w ws.length))) []:=by have se:=FX w hb W;have ck:=HZ w;have n1:=xX w (s:="halves") (by simp);have n2:=xX w (s:="rows") (by simp);have n3:=xX w (s:="greatest") (by simp);have n4:=xX w (s:="thirds") (by simp);unfold aS;rw[aF];unfold dY;generalize atV (sbT w ws.length)=tv at *;generalize liV ws=wv at *;generalize bV b=bv at *;generalize wy w=yy at *;simp![ck,n1,n2,n3,n4,se]
theorem vO{k:Nat}:∀{l:List (Nat×Bx)},k∈l.map (·.1)->∃p∈l,bxO l k=p.2
 | [],h=>nomatch h
 |
  p::l,h=>by
  unfold bxO;by_cases hp:p.1=k
  .exact⟨p,s_ ..,by rw[List.find?_cons_of_pos (by simpa using hp)];rfl⟩
  .rw[y_,F_] at h;obtain⟨q,hq,e⟩:=vO (l:=l) (h.resolve_left λz=>hp z.symm);refine⟨q,q_ _ hq,?_⟩;rw[PR (by simpa using hp)];exact e
noncomputable def bsO (ws:List Int) (t:AT) (b:Bx):List Bx:=(List.range ws.length).map λk=>bxO (AT.bx ws t b) k
def FY(ws:List Int)(t:AT)(b:Bx):((List.range ws.length).map λk=>bV (bxO (AT.bx ws t b) k))=(bsO ws t b).map bV:=by unfold bsO;rw[Of];rfl
def Bm{ws:List Int}{t:AT}{b:Bx}(g:Good b)(W:WOk ws)(T:TOk t (List.range ws.length)):∀c∈bsO ws t b,c.Ok/\c.Sz 2000:=λc hc=>by obtain⟨k,hk,rfl⟩:=NQ.mp hc;obtain⟨m,hm,hy⟩:=DJ g W T (λi=>NM) A_;obtain⟨p,hp,e⟩:=vO (l:=AT.bx ws t b) (k:=k) (by rw[AT.bx_keys];exact (T.mem k).mpr hk);rw[e];exact KH t b hy p hp
def Ft(ws:List Int)(t:AT)(b:Bx):(bsO ws t b).length=ws.length:=by unfold bsO;rw[o_,A_]
def LH{ws:List Int}{b:Bx}{r:Str}{t:AT}(g:Good b)(W:WOk ws)(h:aS.G [.str r,bV b,liV ws]=.ok (.val (atV t)) [])(T:TOk t (List.range ws.length)):eJ.G [.str r,bV b,liV ws]=.ok (.new (.lst ((bsO ws t b).map bV))) []:=by rw[<- FY];exact Mj g W h T
theorem Eg:∀(xs:List Rat) (a:Rat),a<=xs.foldl mx a/\(∀x∈xs,x<=xs.foldl mx a)/\(xs.foldl mx a=a\/xs.foldl mx a∈xs)
 | [],a=>⟨Rat.le_refl,λ_ h=>(nomatch h),.inl rfl⟩
 |
  x::xs,a=>by
  obtain⟨h1,h2,h3⟩:=Eg xs (mx a x);rw[Pu];have ha:a<=mx a x:=by unfold mx;split;grind;exact Rat.le_refl
  have hx:x<=mx a x:=by unfold mx;split;exact Rat.le_refl;grind
  refine⟨Rat.le_trans ha h1,λy hy=>?_,?_⟩
  .rcases F_.mp hy with rfl |hy
   .exact Rat.le_trans hx h1
   .exact h2 y hy
  .rcases h3 with h3 |h3
   .rw[h3];unfold mx;split
    .exact .inr (s_ ..)
    .exact .inl rfl
   .exact .inr (q_ _ h3)
def Au{p:List Rat}(h:p≠[]):mxL p∈p/\∀x∈p,x<=mxL p:=by
 cases p with
 |nil=>exact absurd rfl h
 |
  cons a xs=>
  obtain⟨h1,h2,h3⟩:=Eg xs a;refine⟨?_,λx hx=>?_⟩
  .show xs.foldl mx a∈_;rcases h3 with h3 |h3
   .rw[h3];exact s_ ..
   .exact q_ _ h3
  .rcases F_.mp hx with rfl |hx
   .exact h1
   .exact h2 x hx
theorem zL(q:Rat):∀qs:List Rat,gC (fV q) (qs.map fV)=some (qs.map λp=>decide (p=q))
 | []=>rfl
 |x::xs=>by rw[y_,gC,zL q xs,Mo];rfl
def DF{qs:List Rat}{q:Rat}(h:q∈qs):∃i:Int,cT.G (.lst (qs.map fV)) [fV q]=.val (.int i):=by have hm:true∈qs.map λp=>decide (p=q):=NQ.mpr ⟨q,h,E_ rfl⟩;have hl:=PF.mpr hm;refine⟨((qs.map λp=>decide (p=q)).idxOf true:Nat),?_⟩;show gk (.lst (qs.map fV)) [fV q]=_;unfold gk;dsimp only;rw[zL];dsimp only;rw[if_pos hl]
def CD{bs:List Bx}(h0:bs≠[])(hb:∀c∈bs,c.Ok/\c.Sz 2000)(hl:bs.length<=1000):∃i:Int,cT.G (.lst ((bs.map cp).map fV)) [fV (mxL (bs.map cp))]=.val (.int i)/\gQ.G [.lst (bs.map bV)]=.ok (.val (.tup [fV (mxL (bs.map cp)),.int i])) []:=by
 have q1:bs.map cp≠[]:=λz=>h0 (Qj.mp z);have q2:∀q∈bs.map cp,Sz 4000 q:=λq hq=>by obtain⟨c,hc,rfl⟩:=NQ.mp hq;exact rJ (hb c hc).1 (hb c hc).2
 obtain⟨s,lc⟩:=zf (P:=fZ) (bs:=bs) (λc hc=>sV (hb c hc).1 (hb c hc).2 (by decide)) rfl hl;have ge:=lu (by decide) q1 q2;obtain⟨i,ix⟩:=DF (Au q1).1;refine⟨i,ix,?_⟩;have sl:((bs.map cp).map fV).length<=16777216:=by rw[o_,o_];omega
 unfold gQ;rw[aF];unfold wj;generalize (bs.map cp).map fV=sv at *;generalize mxL (bs.map cp)=r at *;generalize bs.map bV=bv at *;simp![lc,sl,ge,ix]
noncomputable def nmR:Nat->Str
 |0=>"across"
 |1=>"down"
 |2=>"halves"
 |3=>"rows"
 |4=>"greatest"
 |_=>"thirds"
noncomputable def trR (i:Nat) (b:Bx) (ws:List Int):AT:=match i with
 |0=>sbT true ws.length
 |1=>sbT false ws.length
 |2=>tH b ws
 |3=>tR b ws
 |4=>tG b ws
 |_=>tT b ws
def MU(i:Nat){b:Bx}{ws:List Int}(g:Good b)(W:WOk ws):aS.G [.str (nmR i),bV b,liV ws]=.ok (.val (atV (trR i b ws))) []/\TOk (trR i b ws) (List.range ws.length):=by
 have wp:=W.pos
 match i with
 |0=>exact⟨Ay true g.ok W,EF true wp⟩
 |1=>exact⟨Ay false g.ok W,EF false wp⟩
 |2=>exact⟨Ka (DL g W).1,(DL g W).2⟩
 |3=>exact⟨J7 (Ej g W).1,(Ej g W).2⟩
 |4=>exact⟨Ig (Ec g W).1,(Ec g W).2⟩
 |n+5=>exact⟨ID (DV g W).1,(DV g W).2⟩
def hE(i:Nat):aQ.G [.str (nmR i)]=.ok (.val .non) []:=by
 match i with
 |0=>exact cB (r:="across") rfl
 |1=>exact cB (r:="down") rfl
 |2=>exact cB (r:="halves") rfl
 |3=>exact cB (r:="rows") rfl
 |4=>exact cB (r:="greatest") rfl
 |n+5=>exact cB (r:="thirds") rfl
noncomputable def wr (i:Nat) (b:Bx) (ws:List Int):Rat:=mxL ((bsO ws (trR i b ws) b).map cp)
section
variable{b:Bx}{ws:List Int}
def ya(i:Nat)(g:Good b)(W:WOk ws):∃z:Int,eJ.G [.str (nmR i),bV b,liV ws]=.ok (.new (.lst ((bsO ws (trR i b ws) b).map bV))) []/\gQ.G [.lst ((bsO ws (trR i b ws) b).map bV)]=.ok (.val (.tup [fV (wr i b ws),.int z])) []/\Sz 4000 (wr i b ws):=by
 have wp:=W.pos;have wl:=W.len;obtain⟨h,T⟩:=MU i g W;have bl:=Ft ws (trR i b ws) b;have hb:=Bm g W T;have h0:bsO ws (trR i b ws) b≠[]:=λz=>by rw[z,NC] at bl;omega
 obtain⟨z,_,wo⟩:=CD h0 hb (by omega);refine⟨z,LH g W h T,wo,?_⟩;obtain⟨c,hc,e⟩:=NQ.mp (Au (p:=(bsO ws (trR i b ws) b).map cp) (λz=>h0 (Qj.mp z))).1;unfold wr;rw[<- e];exact rJ (hb c hc).1 (hb c hc).2
def Ak(i:Nat)(g:Good b)(W:WOk ws):eP.G [.str (nmR i),bV b,liV ws]=.ok (.val (fV (wr i b ws))) []:=by obtain⟨z,e1,e2,_⟩:=ya i g W;have j0:∀p q:Val,atI [p,q] 0=some p:=λ_ _=>aM (by decide) rfl;unfold eP;rw[aF];unfold m8;generalize (bsO ws (trR i b ws) b).map bV=v1 at *;generalize fV (wr i b ws)=v2 at *;generalize bV b=bv at *;generalize liV ws=wv at *;generalize nmR i=nm at *;simp![e1,e2,j0]
noncomputable def fR (i j:Nat) (b:Bx) (ws:List Int):Bool:=decide (wr i b ws<wr j b ws)
end
def zG(x:Int):bu.G [.int x]=.ok (.val (.bl true)) []:=by unfold bu;rw[aF];rfl
structure W40(ws:List Int):Prop where
 pos:1<=ws.length
 len:ws.length<=40
 one:∀w∈ws,1<=w
def Lh{ws:List Int}(W:W40 ws):aG.G [liV ws]=.ok (.val .non) []:=gx (λz=>by have:=W.pos;rw[z] at this;exact absurd this (by decide)) W.one W.len
def EX(v:Val)(n:Nat)(h:n<=1000):oE.G (.lst [v]) (.int (n:Nat))=.new (.lst (List.replicate n v)):=by
 have e:oE.G=uu:=rfl;rw[e];have fl:(List.replicate n [v]).flatten=List.replicate n v:=by
  induction n with
  |zero=>rfl
  |succ n ih=>rw[NU,Om,ih (by omega),NU];rfl
 unfold uu;dsimp only;rw[NS,fl,if_pos ⟨by omega,by omega,by show 1*n<=_;omega⟩]
noncomputable def mj:List Int->Option (List Int)
 |a::m::r=>match mj (m::r) with
  |some t=>some (a::t)
  |none=>if m=1 then none else some ((a+1)::(List.replicate r.length 1++[m-1]))
 |_=>none
noncomputable def beh (ws:List Int):List Int:=match mj ws with
 |some t=>t
 |none=>if ws.length<40/\(ws.length:Int)<ws.sum then List.replicate ws.length 1++[ws.sum-(ws.length:Nat)] else [ws.sum+1]
theorem ku:∀{ws:List Int},ws≠[]->(∀w∈ws,1<=w)->(∃pre a m k,ws=pre++a::m::List.replicate k 1/\2<=m/\mj ws=some (pre++(a+1)::(List.replicate k 1++[m-1])))\/∃a k,ws=a::List.replicate k 1/\mj ws=none
 | [],h,_=>absurd rfl h
 | [a],_,_=>.inr ⟨a,0,rfl,rfl⟩
 |
  x::y::r,_,hp=>by
  rcases ku (ws:=y::r) (by simp) (λw hw=>hp w (q_ _ hw)) with ⟨pre,a,m,k,e,hm,hb⟩ |⟨a,k,e,hb⟩
  .refine .inl ⟨x::pre,a,m,k,by rw[e];rfl,hm,?_⟩;rw[mj,hb];rfl
  .injection e with e1 e2;subst e1 e2;by_cases h1:y=1
   .subst h1;refine .inr ⟨x,k+1,by rw[NU],?_⟩;rw[mj,hb];exact if_pos rfl
   .have:=hp y (by simp)
    refine .inl ⟨[],x,y,k,rfl,by omega,?_⟩;rw[mj,hb];show (if y=1 then none else _)=_;rw[if_neg h1,N7];rfl
theorem kX:∀k:Nat,(List.replicate k (1:Int)).sum=k
 |0=>rfl
 |k+1=>by rw[NU,NN,kX k];omega
def W40.beh{ws:List Int}(W:W40 ws):W40 (beh ws):=by
 have wp:=W.pos;have wl:=W.len;unfold KK.beh;rcases ku (λz=>by rw[z] at wp;exact absurd wp (by decide)) W.one with ⟨pre,a,m,k,e,hm,hb⟩ |⟨a,k,e,hb⟩
 .rw[hb];have ha:=W.one a (by rw[e];simp);have hl:ws.length=pre.length+(k+2):=by rw[e];simp
  refine⟨by simp;omega,by simp;omega,λw hw=>?_⟩;simp only[Oz,F_,Pj,or_false] at hw;rcases hw with hw |rfl |hw |rfl
  .exact W.one w (by rw[e];simp [hw])
  .omega
  .rw[(List.mem_replicate.mp hw).2];decide
  .omega
 .rw[hb];have hs:(ws.length:Int)<=ws.sum:=by have ha:=W.one a (by rw[e];simp);rw[e,D_,N7,NN,kX];omega
  dsimp only;split
  .rename_i h;refine⟨by simp,by simp;omega,λw hw=>?_⟩;rcases Oz.mp hw with hw |hw
   .rw[(List.mem_replicate.mp hw).2];decide
   .rw[NJ.mp hw];omega
  .refine⟨by simp,by simp,λw hw=>?_⟩;rw[NJ.mp hw];omega
def tQ{xs ys:List Int}(h:xs.length+ys.length<=1000):bg.G (liV xs) (liV ys)=.new (liV (xs++ys)):=by unfold liV;rw[uw,if_pos (by rw[o_,o_];omega),NT]
def Ge(n:Nat)(h:n<=1000):oE.G (.lst [.int 1]) (.int (n:Nat))=.new (liV (List.replicate n 1)):=by rw[EX (.int 1) n h];unfold liV;rw[List.map_replicate]
def C5{op ap:PO2}{w m x y:Int}{u v o:Val}(h1:m-1=x)(h2:w-m+1=y)(h3:op.G (.lst [.int 1]) (.int x)=.new u)(h4:ap.G u (.lst [.int y])=.new o):(aw (pOp ap (pOp op (aY (aa (ah 1) ag)) (pOp fX (af 1) (ah 1))) (aY (aa (pOp bg (pOp fX (af 0) (af 1)) (ah 1)) ag)))).G [.sh (.int w),.sh (.int m)]=.rt (.new o) [.sh (.int w),.sh (.int m)]:=by simp![h1,h2,h3,h4]
def sF{w x:Int}{m:Nat}(hx:x=(m:Nat)+1)(h:m<=900):cL.G [.int w,.int x]=.ok (.new (liV (List.replicate m 1++[w-(m:Nat)]))) []:=by have r:=C5 (op:=oE) (ap:=bg) (w:=w) (m:=x) (v:=.non) (show x-1=(m:Nat) by omega) (show w-x+1=w-(m:Nat) by omega) (Ge m (by omega)) (tQ (ys:=[w-(m:Nat)]) (by rw[N7,P7];omega));unfold cL;rw[jT rfl];show gj [false,false] (gU.G [.sh (.int w),.sh (.int x)])=_;unfold gU;rw[r];rfl
def oo(ws:List Int)(j:Nat):bz.G [.lst ((ws.map Val.int).drop j)]=.val (.int (ws.drop j).sum):=by
 have:=bP (ws.drop j)
 rw[OE] at this;generalize (ws.map Val.int).drop j=dv at *;simp![this]
def Kt{ws:List Int}{S N r:Int}{j:Nat}{s4 s5:Sl}(hr:(ws.drop (j+1)).sum=r)(hle:¬ N-(j:Nat)-1<r)(h4:s4.pl=true)(h5:s5.pl=true):bT.G [.sh (liV ws),.sh (.int S),.sh (.int N),.sh (.int (j:Nat)),s4,s5]=.nx [.sh (liV ws),.sh (.int S),.sh (.int N),.sh (.int (j:Nat)),.sh (.int r),.sh (.int (N-(j:Nat)-1))]:=by have cf:=fA (ws.map Val.int) (j+1);have sc:=oo ws (j+1);rw[hr] at sc;rw[show (((j+1:Nat):Nat):Int)=((j:Nat):Int)+1 from rfl] at cf;unfold bT;unfold liV;generalize (ws.map Val.int).drop (j+1)=dv at *;generalize ws.map Val.int=wv at *;generalize bz=fs at *;simp![eK,cf,sc,h4,h5,hle]
def FT{ws pre out:List Int}{S N r a:Int}{j:Nat}{s4 s5:Sl}(hr:(ws.drop (j+1)).sum=r)(hlt:N-(j:Nat)-1<r)(ht:ws.take j=pre)(ha:ws[j]?=some a)(fe:cL.G [.int (r-1),.int (N-(j:Nat)-1)]=.ok (.new (liV out)) [])(l1:pre.length+1+out.length<=1000)(h4:s4.pl=true)(h5:s5.pl=true):bT.G [.sh (liV ws),.sh (.int S),.sh (.int N),.sh (.int (j:Nat)),s4,s5]=.rt (.new (liV (pre++[a+1]++out))) [.sh (liV ws),.sh (.int S),.sh (.int N),.sh (.int (j:Nat)),.sh (.int r),.sh (.int (N-(j:Nat)-1))]:=by have cf:=fA (ws.map Val.int) (j+1);have sc:=oo ws (j+1);rw[hr] at sc;rw[show (((j+1:Nat):Nat):Int)=((j:Nat):Int)+1 from rfl] at cf;have ct:=eZ (ws.map Val.int) j;rw[<- Oj,ht] at ct;have at_:atI (ws.map Val.int) ((j:Nat):Int)=some (.int a):=aM (by omega) (by rw[NS,NB,ha];rfl);have c1:=tQ (xs:=pre) (ys:=[a+1]) (by simp;omega);have c2:=tQ (xs:=pre++[a+1]) (ys:=out) (by simp;omega);unfold bT;rw[show liV [a+1]=.lst [.int (a+1)] from rfl] at c1;generalize liV (pre++[a+1]++out)=o2 at *;generalize liV (pre++[a+1])=o1 at *;generalize liV out=o0 at *;unfold liV at *;generalize (ws.map Val.int).drop (j+1)=dv at *;generalize pre.map Val.int=pv at *;generalize ws.map Val.int=wv at *;generalize bz=fs at *;simp![eK,cf,sc,h4,h5,hlt,ct,at_,c1,c2,fe]
def sA(i:Int)(k:Nat):jR i (k+1)=.int i::jR (i-1) k:=by
 unfold jR;rw[List.range_succ_eq_map,y_,Of];congr 1
 .congr 1;omega
 .refine List.map_congr_left λt _=>?_;show Val.int (i-((t+1:Nat):Int))=Val.int (i-1-(t:Nat));congr 1;omega
def gt3{v x0 x1 x2:Val}{s3 s4 s5:Sl}(h3:s3.pl=true):(gtN 3).G v [.sh x0,.sh x1,.sh x2,s3,s4,s5]=some [.sh x0,.sh x1,.sh x2,.sh v,s4,s5]:=by simp![h3]
theorem lI{ws:List Int}{S N:Int}{R:SR3->Prop}(p:Nat)(hR:∀s3 s4 s5:Sl,s3.pl=true->s4.pl=true->s5.pl=true->R (fB (gtN 3).G bT.G (jR ((p:Nat)-1) p) [.sh (liV ws),.sh (.int S),.sh (.int N),s3,s4,s5])):∀(t:Nat),(∀j,p<=j->j<p+t->¬ N-(j:Nat)-1<(ws.drop (j+1)).sum)->∀s3 s4 s5:Sl,s3.pl=true->s4.pl=true->s5.pl=true->R (fB (gtN 3).G bT.G (jR (((p+t:Nat):Int)-1) (p+t)) [.sh (liV ws),.sh (.int S),.sh (.int N),s3,s4,s5])
 |0,_,s3,s4,s5,h3,h4,h5=>hR s3 s4 s5 h3 h4 h5
 |
  t+1,h,s3,s4,s5,h3,h4,h5=>by
  have ih:=lI p hR t (λj h1 h2=>h j h1 (by omega)) (.sh (.int ((p+t:Nat):Int))) (.sh (.int (ws.drop (p+t+1)).sum)) (.sh (.int (N-((p+t:Nat):Int)-1))) rfl rfl rfl;have bb:=Kt (S:=S) (s4:=s4) (s5:=s5) (rfl:(ws.drop (p+t+1)).sum=_) (h (p+t) (by omega) (by omega)) h4 h5;rw[show p+(t+1)=p+t+1 by omega,sA,gm,show (((p+t+1:Nat):Int)-1)=((p+t:Nat):Int) by omega];have g:=gt3 (v:=.int ((p+t:Nat):Int)) (x0:=liV ws) (x1:=.int S) (x2:=.int N) (s4:=s4) (s5:=s5) h3;rw[g];simp only[bb,qX];exact ih
def sk{xs:List Int}{k j:Nat}(h:xs.length<=j):((xs++List.replicate k 1).drop j).sum=((k-(j-xs.length):Nat):Int):=by rw[List.drop_append,O8 h,NK,List.drop_replicate,kX]
def bhQ(v:Val)(r:SR3):Prop:=gj [false] r=.ok (.new v) []
def o7{ws:List Int}(W:W40 ws):bQ.G [liV ws]=.ok (.new (liV (beh ws))) []:=by
 have wp:=W.pos;have wl:=W.len;have ck:=Lh W;have sm:=oo ws 0;rw[Qk,Qk] at sm;have ll:((ws.map Val.int).length:Nat)=ws.length:=o_ ..;have rg:=J2 (i:=((ws.length:Nat):Int)-2) (j:=-1) ⟨by omega,by omega⟩ ⟨by decide,by decide⟩;rw[show (((ws.length:Nat):Int)-2 - -1).toNat=ws.length-1 by omega] at rg;have hc:=ku (λz=>by rw[z] at wp;exact absurd wp (by decide)) W.one;unfold bQ;rw[jT rfl];show bhQ (liV (beh ws)) (fj.G [.sh (liV ws),.no,.no,.no,.no,.no]);unfold fj;refine aP (λe=>e=[.sh (liV ws),.no,.no,.no,.no,.no]) ⟨_,by generalize liV ws=wv at *;simp![ck],rfl⟩ ?_;rintro _ rfl;refine aP (λe=>e=[.sh (liV ws),.sh (.int ws.sum),.sh (.int (ws.length:Nat)),.no,.no,.no]) ⟨_,by unfold liV;generalize ws.map Val.int=wv at *;generalize bz=fs at *;simp![sm,ll],rfl⟩ ?_;rintro _ rfl;rcases hc with ⟨pre,a,m,k,e,hm,hb⟩ |⟨a,k,e,hb⟩
 .have hn:ws.length=pre.length+k+2:=by rw[e];simp;omega
  have be:beh ws=pre++[a+1]++(List.replicate k 1++[m-1]):=by unfold beh;rw[hb];simp
  obtain⟨s3,s4,s5,lo⟩:=lI (ws:=ws) (S:=ws.sum) (N:=(ws.length:Nat)) (R:=λr=>∃s3 s4 s5:Sl,r=.rt (.new (liV (beh ws))) [.sh (liV ws),.sh (.int ws.sum),.sh (.int (ws.length:Nat)),s3,s4,s5]) (pre.length+1) (λs3 s4 s5 h3 h4 h5=>by
   have dr:(ws.drop (pre.length+1)).sum=m+(k:Nat):=by rw[e,show pre++a::m::List.replicate k 1=(pre++[a])++m::List.replicate k 1 by simp,List.drop_append,O8 (by simp),NK,show pre.length+1-(pre++[a]).length=0 by simp,Qk,NN,kX]
   have fe:=sF (w:=m+(k:Nat)-1) (x:=((ws.length:Nat):Int)-(pre.length:Nat)-1) (m:=k) (by omega) (by omega);rw[show m+(k:Nat)-1-(k:Nat)=m-1 by omega] at fe;have by_:=FT (S:=ws.sum) (N:=(ws.length:Nat)) (pre:=pre) (a:=a) (s4:=s4) (s5:=s5) dr (by omega) (by rw[e];simp) (by rw[e];simp) fe (by simp;omega) h4 h5;rw[<- be] at by_;refine⟨.sh (.int (pre.length:Nat)),.sh (.int (m+(k:Nat))),.sh (.int (((ws.length:Nat):Int)-(pre.length:Nat)-1)),?_⟩;rw[sA,gm,show (((pre.length+1:Nat):Int)-1)=((pre.length:Nat):Int) by omega,gt3 h3];simp only[by_];rfl) k (λj h1 h2=>by
   rw[e,show pre++a::m::List.replicate k 1=(pre++[a,m])++List.replicate k 1 by simp,sk (by simp;omega)];simp;omega) .no .no .no rfl rfl rfl
  rw[show (((pre.length+1+k:Nat):Int)-1)=((ws.length:Nat):Int)-2 by omega,show pre.length+1+k=ws.length-1 by omega] at lo;unfold bhQ;generalize liV (beh ws)=bv at *;generalize liV ws=wv at *;generalize jR (((ws.length:Nat):Int)-2) (ws.length-1)=rv at *;simp![EG,rg,lo,bB]
 .have hn:ws.length=k+1:=by rw[e];simp
  obtain⟨s3,s4,s5,h3,h4,h5,lo⟩:=lI (ws:=ws) (S:=ws.sum) (N:=(ws.length:Nat)) (R:=λr=>∃s3 s4 s5:Sl,s3.pl=true/\s4.pl=true/\s5.pl=true/\r=.nx [.sh (liV ws),.sh (.int ws.sum),.sh (.int (ws.length:Nat)),s3,s4,s5]) 0 (λs3 s4 s5 h3 h4 h5=>⟨s3,s4,s5,h3,h4,h5,rfl⟩) k (λj h1 h2=>by rw[e,show a::List.replicate k 1=[a]++List.replicate k 1 by rfl,sk (by simp)];simp;omega) .no .no .no rfl rfl rfl;rw[show (((0+k:Nat):Int)-1)=((ws.length:Nat):Int)-2 by omega,show 0+k=ws.length-1 by omega] at lo;refine aP (λe=>e=[.sh (liV ws),.sh (.int ws.sum),.sh (.int (ws.length:Nat)),s3,s4,s5]) ⟨_,by generalize liV ws=wv at *;generalize jR (((ws.length:Nat):Int)-2) (ws.length-1)=rv at *;simp![EG,rg,lo],rfl⟩ ?_;rintro _ rfl;have fe:=sF (w:=ws.sum) (x:=((ws.length:Nat):Int)+1) (m:=ws.length) rfl (by omega);unfold beh bhQ;rw[hb];dsimp only;by_cases h1:ws.length<40
  .have l1:((ws.length:Nat):Int)<40:=by omega
   by_cases h2:(ws.length:Int)<ws.sum
   .rw[if_pos ⟨h1,h2⟩];generalize liV (List.replicate ws.length 1++[ws.sum-(ws.length:Nat)])=ov at *;generalize liV ws=wv at *;simp![l1,h2,fe,bB]
   .rw[if_neg (λz=>h2 z.2),show liV [ws.sum+1]=.lst [.int (ws.sum+1)] from rfl];generalize liV ws=wv at *;simp![l1,h2,bB]
  .have l1:¬ ((ws.length:Nat):Int)<40:=by omega
   rw[if_neg (λz=>h1 z.1),show liV [ws.sum+1]=.lst [.int (ws.sum+1)] from rfl];generalize liV ws=wv at *;simp![l1,bB]
noncomputable def ch:Nat->List Int
 |0=>[1]
 |n+1=>beh (ch n)
theorem xE:∀n,W40 (ch n)
 |0=>⟨by decide,by decide,by decide⟩
 |n+1=>(xE n).beh
def Ks:∀n,n<64->(ch n).length<=9/\∀w∈ch n,w<=9:=by decide
def ch_W{n:Nat}(h:n<64):WOk (ch n):=by have W:=xE n;obtain⟨h1,h2⟩:=Ks n h;exact⟨W.pos,W.len,λw hw=>⟨W.one w hw,by have:=h2 w hw;omega⟩,λz=>by omega⟩
def EA:∀m:Nat,m<7->(∀j:Nat,j<2^m-1->(ch j).sum<=(m:Int))/\(ch (2^m-1)).sum=(m:Int)+1:=by decide
def My{m:Nat}(h:m<=6):2^m-1<64:=by have:2^m<=2^6:=Oa (by decide) h;omega
noncomputable def e_ (f:List Int->Bool) (m:Nat):Option (List Int):=((List.range (2^m-1)).map ch).find? f
def zc(n:Nat):bz.G [liV (ch n)]=.val (.int (ch n).sum):=by have iv:=bP (ch n);unfold liV;generalize (ch n).map Val.int=wv at *;simp![iv]
section
variable{i j m:Nat}{b:Bx}
def FK{n:Nat}{x3:Val}(g:Good b)(h:n<64):eB.G [.sh (.str (nmR i)),.sh (.str (nmR j)),.sh (bV b),.sh x3,.sh (liV (ch n))]=if fR i j b (ch n)=true then .rt (.val (liV (ch n))) [.sh (.str (nmR i)),.sh (.str (nmR j)),.sh (bV b),.sh x3,.sh (liV (ch n))] else .nx [.sh (.str (nmR i)),.sh (.str (nmR j)),.sh (bV b),.sh x3,.sh (liV (ch (n+1)))]:=by
 have W:=ch_W h;have e1:=Ak i g W;have e2:=Ak j g W;obtain⟨_,_,_,s1⟩:=ya i g W;obtain⟨_,_,_,s2⟩:=ya j g W;have il:=gF s1 s2 (by decide) (by decide);have be:=o7 (xE n);rw[show beh (ch n)=ch (n+1) from rfl] at be;unfold eB;rw[show decide (wr i b (ch n)<wr j b (ch n))=fR i j b (ch n) from rfl] at il;generalize fV (wr i b (ch n))=v2 at *;generalize fV (wr j b (ch n))=v4 at *;generalize bV b=bv at *;generalize liV (ch n)=wv at *;generalize liV (ch (n+1))=w1 at *;generalize nmR i=nm at *;generalize nmR j=nn at *;cases hf:fR i j b (ch n) with
 |true=>rw[hf] at il;simp![e1,e2,il]
 |false=>rw[hf] at il;simp![e1,e2,il,be]
noncomputable def fbE (i j:Nat) (b:Bx) (m:Nat) (o:Option (List Int)):SR3:=match o with
 |some w=>.rt (.val (liV w)) [.sh (.str (nmR i)),.sh (.str (nmR j)),.sh (bV b),.sh (.int (m:Nat)),.sh (liV w)]
 |none=>.nx [.sh (.str (nmR i)),.sh (.str (nmR j)),.sh (bV b),.sh (.int (m:Nat)),.sh (liV (ch (2^m-1)))]
theorem wQ(g:Good b)(hm:m<7):∀k n,n+k=2^m-1->(xWh (qOf (pOp bLe (pFn bz (aa (af 4) ag)) (af 3))) eB).G [.sh (.str (nmR i)),.sh (.str (nmR j)),.sh (bV b),.sh (.int (m:Nat)),.sh (liV (ch n))]=fbE i j b m (((List.range' n k).map ch).find? (fR i j b))
 |
  0,n,h=>by
  rw[Nat.add_zero] at h;subst h;have s:=zc (2^m-1);rw[(EA m hm).2] at s;have lt:¬ ((m:Int)+1<=(m:Nat)):=by omega
  rw[gA];show _=SR3.nx _;generalize liV (ch (2^m-1))=wv at *;generalize bV b=bv at *;generalize bz=fs at *;simp![s,C_ lt]
 |
  k+1,n,h=>by
  have ih:=wQ g hm k (n+1) (by omega);have st:=FK (i:=i) (j:=j) (x3:=.int (m:Nat)) g (show n<64 by have:=My (m:=m) (by omega);omega);have s:=zc n;have le:=(EA m hm).1 n (by omega);rw[gA,List.range'_succ,y_];cases hf:fR i j b (ch n) with
  |true=>rw[List.find?_cons_of_pos hf];rw[hf,if_pos rfl] at st;show _=SR3.rt _ _;clear ih;generalize (ch n).sum=sn at *;generalize liV (ch n)=wv at *;generalize bV b=bv at *;generalize bz=fs at *;simp![s,E_ le,st]
  |false=>rw[PR (by rw[hf];decide)];rw[hf,if_neg (by decide)] at st;rw[<- ih];clear ih;generalize (ch n).sum=sn at *;generalize liV (ch n)=wv at *;generalize liV (ch (n+1))=w1 at *;generalize bV b=bv at *;generalize hs:bz=fs at *;subst hs;simp![s,E_ le,st]
noncomputable def oV:Option (List Int)->Val
 |none=>.non
 |some w=>liV w
def fbQ(o:Option (List Int))(r:SR3):Prop:=gj [false,false,false,false] r=.ok (.val (oV o)) []
def L6(i j:Nat)(g:Good b)(h1:1<=m)(hm:m<7):aN.G [.str (nmR i),.str (nmR j),bV b,.int (m:Nat)]=.ok (.val (oV (e_ (fR i j b) m))) []:=by
 have c1:=hE i;have c2:=hE j;have c3:=bE g.ok;have iw:bu.G [.int (m:Nat)]=.ok (.val (.bl true)) []:=zG _;have lo:=wQ (i:=i) (j:=j) g hm (2^m-1) 0 (Nat.zero_add _);rw[<- List.range_eq_range',show ((List.range (2^m-1)).map ch).find? (fR i j b)=e_ (fR i j b) m from rfl] at lo;have a1:¬ ((m:Nat):Int)<1:=by omega
 have a2:¬ ((m:Nat):Int)>8:=by omega
 have l1:liV (ch 0)=.lst [.int 1]:=rfl;unfold aN;rw[jT rfl];show fbQ (e_ (fR i j b) m) (cG.G [.sh (.str (nmR i)),.sh (.str (nmR j)),.sh (bV b),.sh (.int (m:Nat)),.no]);unfold cG;refine aP (λe=>e=[.sh (.str (nmR i)),.sh (.str (nmR j)),.sh (bV b),.sh (.int (m:Nat)),.no]) ⟨_,by generalize bV b=bv at *;generalize nmR i=nm at *;generalize nmR j=nn at *;simp![c1],rfl⟩ ?_;rintro _ rfl;refine aP (λe=>e=[.sh (.str (nmR i)),.sh (.str (nmR j)),.sh (bV b),.sh (.int (m:Nat)),.no]) ⟨_,by generalize bV b=bv at *;generalize nmR i=nm at *;generalize nmR j=nn at *;simp![c2],rfl⟩ ?_;rintro _ rfl;refine aP (λe=>e=[.sh (.str (nmR i)),.sh (.str (nmR j)),.sh (bV b),.sh (.int (m:Nat)),.no]) ⟨_,by generalize bV b=bv at *;generalize nmR i=nm at *;generalize nmR j=nn at *;simp![c3],rfl⟩ ?_;rintro _ rfl;refine aP (λe=>e=[.sh (.str (nmR i)),.sh (.str (nmR j)),.sh (bV b),.sh (.int (m:Nat)),.no]) ⟨_,by generalize bV b=bv at *;generalize nmR i=nm at *;generalize nmR j=nn at *;simp![iw,C_ a1,C_ a2],rfl⟩ ?_;rintro _ rfl;refine aP (λe=>e=[.sh (.str (nmR i)),.sh (.str (nmR j)),.sh (bV b),.sh (.int (m:Nat)),.sh (liV (ch 0))]) ⟨_,by rw[l1];generalize bV b=bv at *;generalize nmR i=nm at *;generalize nmR j=nn at *;simp![dN],rfl⟩ ?_;rintro _ rfl;unfold fbQ;cases hf:e_ (fR i j b) m with
 |none=>rw[hf] at lo;unfold fbE at lo;simp only at lo;show gj _ _=.ok (.val .non) [];generalize liV (ch 0)=w0 at *;generalize liV (ch (2^m-1))=w1 at *;generalize bV b=bv at *;generalize nmR i=nm at *;generalize nmR j=nn at *;simp![lo,bB]
 |some w=>rw[hf] at lo;unfold fbE at lo;simp only at lo;show gj _ _=.ok (.val (liV w)) [];generalize liV (ch 0)=w0 at *;generalize liV w=w1 at *;generalize bV b=bv at *;generalize nmR i=nm at *;generalize nmR j=nn at *;simp![lo,bB]
end
def Bn:bC.G [.exc "NoBox"]=.ok (.val (.str "box")) []:=by have i0:(aq ar).G [.exc "NoBox",.glb "NoBox"]=.val (.bl true):=rfl;have i1:(aq ar).G [.exc "NoBox",.glb "NoWeights"]=.val (.bl false):=rfl;have i2:(aq ar).G [.exc "NoBox",.glb "TooMany"]=.val (.bl false):=rfl;have i3:(aq ar).G [.exc "NoBox",.glb "NoKind"]=.val (.bl false):=rfl;have i4:(aq ar).G [.exc "NoBox",.glb "NoRule"]=.val (.bl false):=rfl;have i5:(aq ar).G [.exc "NoBox",.glb "NoThing"]=.val (.bl false):=rfl;have i6:(aq ar).G [.exc "NoBox",.glb "NoCut"]=.val (.bl false):=rfl;have i7:(aq ar).G [.exc "NoBox",.glb "NoText"]=.val (.bl false):=rfl;have i8:(aq ar).G [.exc "NoBox",.glb "NoRow"]=.val (.bl false):=rfl;have i9:(aq ar).G [.exc "NoBox",.glb "NoName"]=.val (.bl false):=rfl;have i10:(aq ar).G [.exc "NoBox",.glb "Taken"]=.val (.bl false):=rfl;have i11:(aq ar).G [.exc "NoBox",.glb "Unknown"]=.val (.bl false):=rfl;have i12:(aq ar).G [.exc "NoBox",.glb "NoFraction"]=.val (.bl false):=rfl;have i13:(aq ar).G [.exc "NoBox",.glb "NoWay"]=.val (.bl false):=rfl;have i14:(aq ar).G [.exc "NoBox",.glb "NoTree"]=.val (.bl false):=rfl;have iv:(aq ar).G [.exc "NoBox",.ty "ValueError"]=.val (.bl true):=rfl;have ct:gM.G (.lst [.bl true,.bl false,.bl false,.bl false,.bl false,.bl false,.bl false,.bl false,.bl false,.bl false,.bl false,.bl false,.bl false,.bl false,.bl false]) [.bl true]=.val (.int 1):=rfl;have ix:cT.G (.lst [.bl true,.bl false,.bl false,.bl false,.bl false,.bl false,.bl false,.bl false,.bl false,.bl false,.bl false,.bl false,.bl false,.bl false,.bl false]) [.bl true]=.val (.int 0):=rfl;unfold bC;rw[aF];unfold fI;simp![i0,i1,i2,i3,i4,i5,i6,i7,i8,i9,i10,i11,i12,i13,i14,iv,ct,ix]
def tV:bC.G [.exc "NoWeights"]=.ok (.val (.str "weights")) []:=by have i0:(aq ar).G [.exc "NoWeights",.glb "NoBox"]=.val (.bl false):=rfl;have i1:(aq ar).G [.exc "NoWeights",.glb "NoWeights"]=.val (.bl true):=rfl;have i2:(aq ar).G [.exc "NoWeights",.glb "TooMany"]=.val (.bl false):=rfl;have i3:(aq ar).G [.exc "NoWeights",.glb "NoKind"]=.val (.bl false):=rfl;have i4:(aq ar).G [.exc "NoWeights",.glb "NoRule"]=.val (.bl false):=rfl;have i5:(aq ar).G [.exc "NoWeights",.glb "NoThing"]=.val (.bl false):=rfl;have i6:(aq ar).G [.exc "NoWeights",.glb "NoCut"]=.val (.bl false):=rfl;have i7:(aq ar).G [.exc "NoWeights",.glb "NoText"]=.val (.bl false):=rfl;have i8:(aq ar).G [.exc "NoWeights",.glb "NoRow"]=.val (.bl false):=rfl;have i9:(aq ar).G [.exc "NoWeights",.glb "NoName"]=.val (.bl false):=rfl;have i10:(aq ar).G [.exc "NoWeights",.glb "Taken"]=.val (.bl false):=rfl;have i11:(aq ar).G [.exc "NoWeights",.glb "Unknown"]=.val (.bl false):=rfl;have i12:(aq ar).G [.exc "NoWeights",.glb "NoFraction"]=.val (.bl false):=rfl;have i13:(aq ar).G [.exc "NoWeights",.glb "NoWay"]=.val (.bl false):=rfl;have i14:(aq ar).G [.exc "NoWeights",.glb "NoTree"]=.val (.bl false):=rfl;have iv:(aq ar).G [.exc "NoWeights",.ty "ValueError"]=.val (.bl true):=rfl;have ct:gM.G (.lst [.bl false,.bl true,.bl false,.bl false,.bl false,.bl false,.bl false,.bl false,.bl false,.bl false,.bl false,.bl false,.bl false,.bl false,.bl false]) [.bl true]=.val (.int 1):=rfl;have ix:cT.G (.lst [.bl false,.bl true,.bl false,.bl false,.bl false,.bl false,.bl false,.bl false,.bl false,.bl false,.bl false,.bl false,.bl false,.bl false,.bl false]) [.bl true]=.val (.int 1):=rfl;unfold bC;rw[aF];unfold fI;simp![i0,i1,i2,i3,i4,i5,i6,i7,i8,i9,i10,i11,i12,i13,i14,iv,ct,ix]
def y9:bC.G [.exc "TooMany"]=.ok (.val (.str "many")) []:=by have i0:(aq ar).G [.exc "TooMany",.glb "NoBox"]=.val (.bl false):=rfl;have i1:(aq ar).G [.exc "TooMany",.glb "NoWeights"]=.val (.bl false):=rfl;have i2:(aq ar).G [.exc "TooMany",.glb "TooMany"]=.val (.bl true):=rfl;have i3:(aq ar).G [.exc "TooMany",.glb "NoKind"]=.val (.bl false):=rfl;have i4:(aq ar).G [.exc "TooMany",.glb "NoRule"]=.val (.bl false):=rfl;have i5:(aq ar).G [.exc "TooMany",.glb "NoThing"]=.val (.bl false):=rfl;have i6:(aq ar).G [.exc "TooMany",.glb "NoCut"]=.val (.bl false):=rfl;have i7:(aq ar).G [.exc "TooMany",.glb "NoText"]=.val (.bl false):=rfl;have i8:(aq ar).G [.exc "TooMany",.glb "NoRow"]=.val (.bl false):=rfl;have i9:(aq ar).G [.exc "TooMany",.glb "NoName"]=.val (.bl false):=rfl;have i10:(aq ar).G [.exc "TooMany",.glb "Taken"]=.val (.bl false):=rfl;have i11:(aq ar).G [.exc "TooMany",.glb "Unknown"]=.val (.bl false):=rfl;have i12:(aq ar).G [.exc "TooMany",.glb "NoFraction"]=.val (.bl false):=rfl;have i13:(aq ar).G [.exc "TooMany",.glb "NoWay"]=.val (.bl false):=rfl;have i14:(aq ar).G [.exc "TooMany",.glb "NoTree"]=.val (.bl false):=rfl;have iv:(aq ar).G [.exc "TooMany",.ty "ValueError"]=.val (.bl true):=rfl;have ct:gM.G (.lst [.bl false,.bl false,.bl true,.bl false,.bl false,.bl false,.bl false,.bl false,.bl false,.bl false,.bl false,.bl false,.bl false,.bl false,.bl false]) [.bl true]=.val (.int 1):=rfl;have ix:cT.G (.lst [.bl false,.bl false,.bl true,.bl false,.bl false,.bl false,.bl false,.bl false,.bl false,.bl false,.bl false,.bl false,.bl false,.bl false,.bl false]) [.bl true]=.val (.int 2):=rfl;unfold bC;rw[aF];unfold fI;simp![i0,i1,i2,i3,i4,i5,i6,i7,i8,i9,i10,i11,i12,i13,i14,iv,ct,ix]
def zS:bC.G [.exc "NoRule"]=.ok (.val (.str "rule")) []:=by have i0:(aq ar).G [.exc "NoRule",.glb "NoBox"]=.val (.bl false):=rfl;have i1:(aq ar).G [.exc "NoRule",.glb "NoWeights"]=.val (.bl false):=rfl;have i2:(aq ar).G [.exc "NoRule",.glb "TooMany"]=.val (.bl false):=rfl;have i3:(aq ar).G [.exc "NoRule",.glb "NoKind"]=.val (.bl false):=rfl;have i4:(aq ar).G [.exc "NoRule",.glb "NoRule"]=.val (.bl true):=rfl;have i5:(aq ar).G [.exc "NoRule",.glb "NoThing"]=.val (.bl false):=rfl;have i6:(aq ar).G [.exc "NoRule",.glb "NoCut"]=.val (.bl false):=rfl;have i7:(aq ar).G [.exc "NoRule",.glb "NoText"]=.val (.bl false):=rfl;have i8:(aq ar).G [.exc "NoRule",.glb "NoRow"]=.val (.bl false):=rfl;have i9:(aq ar).G [.exc "NoRule",.glb "NoName"]=.val (.bl false):=rfl;have i10:(aq ar).G [.exc "NoRule",.glb "Taken"]=.val (.bl false):=rfl;have i11:(aq ar).G [.exc "NoRule",.glb "Unknown"]=.val (.bl false):=rfl;have i12:(aq ar).G [.exc "NoRule",.glb "NoFraction"]=.val (.bl false):=rfl;have i13:(aq ar).G [.exc "NoRule",.glb "NoWay"]=.val (.bl false):=rfl;have i14:(aq ar).G [.exc "NoRule",.glb "NoTree"]=.val (.bl false):=rfl;have iv:(aq ar).G [.exc "NoRule",.ty "ValueError"]=.val (.bl true):=rfl;have ct:gM.G (.lst [.bl false,.bl false,.bl false,.bl false,.bl true,.bl false,.bl false,.bl false,.bl false,.bl false,.bl false,.bl false,.bl false,.bl false,.bl false]) [.bl true]=.val (.int 1):=rfl;have ix:cT.G (.lst [.bl false,.bl false,.bl false,.bl false,.bl true,.bl false,.bl false,.bl false,.bl false,.bl false,.bl false,.bl false,.bl false,.bl false,.bl false]) [.bl true]=.val (.int 4):=rfl;unfold bC;rw[aF];unfold fI;simp![i0,i1,i2,i3,i4,i5,i6,i7,i8,i9,i10,i11,i12,i13,i14,iv,ct,ix]
def bx_a{a b c d:Val}(h:aR a=false):bI (.tup [a,b,c,d])=false:=by simp [bI,h]
def bx_b{a b c d:Val}(h:aR b=false):bI (.tup [a,b,c,d])=false:=by simp [bI,h]
def bx_c{a b c d:Val}(h:aR c=false):bI (.tup [a,b,c,d])=false:=by simp [bI,h]
def bx_d{a b c d:Val}(h:aR d=false):bI (.tup [a,b,c,d])=false:=by simp [bI,h]
noncomputable def fV0 (i j:Int):Val:=.tup [.int i,.int j]
structure Odd4(a b c d:Val):Prop where
 ka:cS 1 a=true
 kb:cS 1 b=true
 kc:cS 1 c=true
 kd:cS 1 d=true
 no:bI (.tup [a,b,c,d])=false
def orQ(n:Nat)(r:SR3):Prop:=∃x v' rt,(rt=.val x\/rt=.new x)/\Fd (n+6) v'/\cS 2 x=true/\bI x=false/\gj [true] r=.ok rt [v']
def uZ{n:Nat}{v:Val}(f:Fd n v)(hn:n<=1000000):∃x v' rt,(rt=.val x\/rt=.new x)/\Fd (n+6) v'/\cS 2 x=true/\bI x=false/\eO.G [v]=.ok rt [v']:=by
 show ∃x v' rt,(rt=.val x\/rt=.new x)/\Fd (n+6) v'/\cS 2 x=true/\bI x=false/\(fnP [true] 5 eT).G [v]=.ok rt [v'];rw[jT rfl];show orQ n (eT.G _);unfold eT;rw[show sls [true] [v]++List.replicate (5-[v].length) .no=[.mu v,.no,.no,.no,.no] from rfl];have i01:∀i j:Int,fV0 i j=.tup [.int i,.int j]:=λ_ _=>rfl;refine aP (λe=>e=[.mu v,.ow (.lst [fV0 0 1,fV0 0 1,fV0 3 1,fV0 2 1]),.no,.no,.no]) ⟨_,by simp![i01],rfl⟩ ?_;rintro _ rfl;obtain⟨a,v1,e1,f1,a0,a1⟩:=a9 (m:=4) f (by omega) (by decide) (sm8 (by decide));refine aP (λe=>e=[.mu v1,.ow (.lst [fV0 0 1,fV0 0 1,fV0 3 1,fV0 2 1]),.sh (.int a),.no,.no]) ⟨_,by simp![e1],rfl⟩ ?_;rintro _ rfl;obtain⟨b,v2,e2,f2,b0,b1⟩:=a9 (m:=10) f1 (by omega) (by decide) (sm8 (by decide));refine aP (λe=>∃bad,cS 1 bad=true/\aR bad=false/\e=[.mu v2,.ow (.lst [fV0 0 1,fV0 0 1,fV0 3 1,fV0 2 1]),.sh (.int a),.sh bad,.no]) ?_ ?_
 .have at8:∀(q w e r t y u i o p:Val),atI [q,w,e,r,t,y,u,i,o,p] 8=some o:=λ_ _ _ _ _ _ _ _ _ _=>rfl;have at9:∀(q w e r t y u i o p:Val),atI [q,w,e,r,t,y,u,i,o,p] 9=some p:=λ_ _ _ _ _ _ _ _ _ _=>rfl;obtain rfl |rfl |rfl |rfl |rfl |rfl |rfl |rfl |rfl |rfl:b=0\/b=1\/b=2\/b=3\/b=4\/b=5\/b=6\/b=7\/b=8\/b=9:=by omega
  .exact⟨_,by simp![e2],.tup [.int 2,.int 4],rfl,rfl,rfl⟩
  .exact⟨_,by simp![e2],.tup [.int 1,.int 0],rfl,rfl,rfl⟩
  .exact⟨_,by simp![e2],.tup [.int 1,.int (-2)],rfl,rfl,rfl⟩
  .exact⟨_,by simp![e2],.int 5,rfl,rfl,rfl⟩
  .exact⟨_,by simp![e2],.non,rfl,rfl,rfl⟩
  .exact⟨_,by simp![e2],.str "1",rfl,rfl,rfl⟩
  .exact⟨_,by simp![e2],.tup [.bl true,.int 1],rfl,rfl,rfl⟩
  .exact⟨_,by simp![e2],.tup [.int 1,.int 1,.int 1],rfl,rfl,rfl⟩
  .exact⟨_,by simp![e2,at8],.lst [.int 1,.int 1],rfl,rfl,rfl⟩
  .exact⟨_,by simp![e2,at9],.tup [.int 0,.int 2],rfl,rfl,rfl⟩
 rintro _ ⟨bad,kb,nb,rfl⟩;refine aP (λe=>∃p q r s,Odd4 p q r s/\e=[.mu v2,.ow (.lst [p,q,r,s]),.sh (.int a),.sh bad,.no]) ?_ ?_
 .obtain rfl |rfl |rfl |rfl:a=0\/a=1\/a=2\/a=3:=by omega
  .exact⟨_,by simp![dN],bad,(fV0 0 1),(fV0 3 1),(fV0 2 1),⟨kb,rfl,rfl,rfl,bx_a nb⟩,rfl⟩
  .exact⟨_,by simp![dN],(fV0 0 1),bad,(fV0 3 1),(fV0 2 1),⟨rfl,kb,rfl,rfl,bx_b nb⟩,rfl⟩
  .exact⟨_,by simp![dN],(fV0 0 1),(fV0 0 1),bad,(fV0 2 1),⟨rfl,rfl,kb,rfl,bx_c nb⟩,rfl⟩
  .exact⟨_,by simp![dN],(fV0 0 1),(fV0 0 1),(fV0 3 1),bad,⟨rfl,rfl,rfl,kb,bx_d nb⟩,rfl⟩
 rintro _ ⟨p,q,r,s,od,rfl⟩;obtain⟨c,v3,e3,f3,c0,c1⟩:=a9 (m:=3) f2 (by omega) (by decide) (sm8 (by decide));refine aP (λe=>∃v p q r s,Fd (n+5) v/\Odd4 p q r s/\e=[.mu v,.ow (.lst [p,q,r,s]),.sh (.int a),.sh bad,.no]) ?_ ?_
 .by_cases hc:c=0
  .subst hc;obtain⟨g,v4,e4,f4,g0,g1⟩:=a9 (m:=2) f3 (by omega) (by decide) (sm8 (by decide));obtain⟨h,v5,e5,f5,h0,h1⟩:=a9 (m:=2) f4 (by omega) (by decide) (sm8 (by decide));obtain rfl |rfl:g=0\/g=1:=by omega
   .obtain rfl |rfl:h=0\/h=1:=by omega
    .exact⟨_,by simp![e3,e4,e5,i01],v5,fV0 0 1,fV0 0 1,fV0 0 1,fV0 2 1,f5,⟨rfl,rfl,rfl,rfl,rfl⟩,rfl⟩
    .exact⟨_,by simp![e3,e4,e5,i01],v5,fV0 0 1,fV0 0 1,fV0 3 1,fV0 0 1,f5,⟨rfl,rfl,rfl,rfl,rfl⟩,rfl⟩
   .obtain rfl |rfl:h=0\/h=1:=by omega
    .exact⟨_,by simp![e3,e4,e5,i01],v5,fV0 0 1,fV0 0 1,fV0 (-1) 3,fV0 2 1,f5,⟨rfl,rfl,rfl,rfl,rfl⟩,rfl⟩
    .exact⟨_,by simp![e3,e4,e5,i01],v5,fV0 0 1,fV0 0 1,fV0 3 1,fV0 (-1) 3,f5,⟨rfl,rfl,rfl,rfl,rfl⟩,rfl⟩
  .have hc':(c==0)=false:=by rw[J_];exact hc
   exact⟨_,by simp![e3,hc'],v3,p,q,r,s,f3.mono (by omega),od,rfl⟩
 rintro _ ⟨v,p,q,r,s,f,od,rfl⟩;have s3:aSl (.lst [p,q,r,s]) none (some 3)=.new (.lst [p,q,r]):=rfl;have s1:aSl (.lst [p,q,r,s]) none (some 1)=.new (.lst [p]):=rfl;have x8:ixN 10 8=some 8:=rfl;have x3:ixN 10 3=some 3:=rfl;have x4:ixN 10 4=some 4:=rfl;have x5:ixN 10 5=some 5:=rfl;have itl:∀xs:List Val,(Val.lst xs).items=some xs:=λ_=>rfl;refine aP (λe=>e=[.mu v,.ow (.lst [p,q,r,s]),.sh (.int a),.sh bad,.ow (.lst [.tup [p,q,r,s],.tup [p,q,r,s],.tup [p,q,r,s],.lst [p,q,r,s],.tup [p,q,r],.tup [p,q,r,s,p],.non,.tup [],.int 7,.str "room"])]) ⟨_,by simp![s3,s1,itl],rfl⟩ ?_;rintro _ rfl;refine aP (λe=>e=[.mu v,.ow (.lst [p,q,r,s]),.sh (.int a),.sh bad,.ow (.lst [.tup [p,q,r,s],.tup [p,q,r,s],.tup [p,q,r,s],.lst [p,q,r,s],.tup [p,q,r],.tup [p,q,r,s,p],.non,.tup [],.tup [fV0 0 1,fV0 0 1,fV0 (-1) 3,fV0 (-2) 1],.str "room"])]) ⟨_,by simp![x8,i01],rfl⟩ ?_;rintro _ rfl;refine aP (λe=>e=[.mu v,.ow (.lst [p,q,r,s]),.sh (.int a),.sh bad,.ow (.lst [.tup [p,q,r,s],.tup [p,q,r,s],.tup [p,q,r,s],.lst [fV0 0 1,fV0 0 1,fV0 1 1,fV0 1 1],.tup [p,q,r],.tup [p,q,r,s,p],.non,.tup [],.tup [fV0 0 1,fV0 0 1,fV0 (-1) 3,fV0 (-2) 1],.str "room"])]) ⟨_,by simp![x3,i01],rfl⟩ ?_;rintro _ rfl;refine aP (λe=>e=[.mu v,.ow (.lst [p,q,r,s]),.sh (.int a),.sh bad,.ow (.lst [.tup [p,q,r,s],.tup [p,q,r,s],.tup [p,q,r,s],.lst [fV0 0 1,fV0 0 1,fV0 1 1,fV0 1 1],.tup [fV0 0 1,fV0 0 1,fV0 1 1],.tup [p,q,r,s,p],.non,.tup [],.tup [fV0 0 1,fV0 0 1,fV0 (-1) 3,fV0 (-2) 1],.str "room"])]) ⟨_,by simp![x4,i01],rfl⟩ ?_;rintro _ rfl;refine aP (λe=>e=[.mu v,.ow (.lst [p,q,r,s]),.sh (.int a),.sh bad,.ow (.lst [.tup [p,q,r,s],.tup [p,q,r,s],.tup [p,q,r,s],.lst [fV0 0 1,fV0 0 1,fV0 1 1,fV0 1 1],.tup [fV0 0 1,fV0 0 1,fV0 1 1],.tup [fV0 0 1,fV0 0 1,fV0 1 1,fV0 1 1,fV0 1 1],.non,.tup [],.tup [fV0 0 1,fV0 0 1,fV0 (-1) 3,fV0 (-2) 1],.str "room"])]) ⟨_,by simp![x5,i01],rfl⟩ ?_;rintro _ rfl;obtain⟨d,v6,e6,f6,d0,d1⟩:=a9 (m:=10) f (by omega) (by decide) (sm8 (by decide));have at8:∀(q w e r t y u i o p:Val),atI [q,w,e,r,t,y,u,i,o,p] 8=some o:=λ_ _ _ _ _ _ _ _ _ _=>rfl;have at9:∀(q w e r t y u i o p:Val),atI [q,w,e,r,t,y,u,i,o,p] 9=some p:=λ_ _ _ _ _ _ _ _ _ _=>rfl;have kt:cS 2 (.tup [p,q,r,s])=true:=by show [p,q,r,s].all (cS 1)=true;simp [od.ka,od.kb,od.kc,od.kd]
 obtain rfl |rfl |rfl |rfl |rfl |rfl |rfl |rfl |rfl |rfl:d=0\/d=1\/d=2\/d=3\/d=4\/d=5\/d=6\/d=7\/d=8\/d=9:=by omega
 .exact⟨.tup [p,q,r,s],v6,_,.inl rfl,f6,kt,od.no,by simp![e6,bB]⟩
 .exact⟨.tup [p,q,r,s],v6,_,.inl rfl,f6,kt,od.no,by simp![e6,bB]⟩
 .exact⟨.tup [p,q,r,s],v6,_,.inl rfl,f6,kt,od.no,by simp![e6,bB]⟩
 .exact⟨.lst [fV0 0 1,fV0 0 1,fV0 1 1,fV0 1 1],v6,_,.inl rfl,f6,rfl,rfl,by simp![e6,bB]⟩
 .exact⟨.tup [fV0 0 1,fV0 0 1,fV0 1 1],v6,_,.inl rfl,f6,rfl,rfl,by simp![e6,bB]⟩
 .exact⟨.tup [fV0 0 1,fV0 0 1,fV0 1 1,fV0 1 1,fV0 1 1],v6,_,.inl rfl,f6,rfl,rfl,by simp![e6,bB]⟩
 .exact⟨.non,v6,_,.inl rfl,f6,rfl,rfl,by simp![e6,bB]⟩
 .exact⟨.tup [],v6,_,.inl rfl,f6,rfl,rfl,by simp![e6,bB]⟩
 .exact⟨.tup [fV0 0 1,fV0 0 1,fV0 (-1) 3,fV0 (-2) 1],v6,_,.inl rfl,f6,rfl,rfl,by simp![e6,at8,bB]⟩
 .exact⟨.str "room",v6,_,.inl rfl,f6,rfl,rfl,by simp![e6,at9,bB]⟩
def p20:ko.G (.int 10) (.int 20)=.val (.int 100000000000000000000):=xn ⟨by decide,by decide,by decide⟩
def owQ(n:Nat)(r:SR3):Prop:=∃x v' rt,(rt=.val x\/rt=.new x)/\Fd (n+20) v'/\iE x=true/\iG x=.exc "NoWeights" []/\gj [true] r=.ok rt [v']
theorem lc9:∀(vs acc:List Val) (n:Nat) (v:Val) (s:Sl),Fd n v->s.pl=true->n+vs.length<=100000000->acc.length+vs.length<=16777216->∃(ws:List Int) (s':Sl) (v':Val),ws.length=vs.length/\(∀w∈ws,1<=w/\w<=9)/\Fd (n+vs.length) v'/\s'.pl=true/\lcV (gtN 0).G qY.G (pOp bg (ah 1) (ak aD (aa (af 1) (aa (ah 9) ag)))).G vs acc [s,.mu v]=.ok (acc++ws.map .int) [s',.mu v']
 | [],acc,n,v,s,f,hs,_,_=>⟨[],s,v,rfl,(λ_ h=>nomatch h),f,hs,by simp [lcV]⟩
 |
  x::vs,acc,n,v,s,f,hs,hn,hl=>by
  rw[D_] at hn hl;obtain⟨a,v1,e1,f1,a0,a1⟩:=a9 (m:=9) f (by omega) (by decide) (sm8 (by decide));obtain⟨ws,s',v',q1,q2,q3,q4,q5⟩:=lc9 vs (acc++[.int (1+a)]) (n+1) v1 (.sh x) f1 rfl (by omega) (by rw[G_];show acc.length+1+_<=_;omega);refine⟨(1+a)::ws,s',v',by rw[D_,D_,q1],?_,by rw[D_,show n+(vs.length+1)=n+1+vs.length by omega];exact q3,q4,?_⟩
  .intro w hw;rcases F_.mp hw with rfl |hw
   .omega
   .exact q2 w hw
  .have g1:(gtN 0).G x [s,.mu v]=some [.sh x,.mu v]:=by simp![hs]
   have F1:(pOp bg (ah 1) (ak aD (aa (af 1) (aa (ah 9) ag)))).G [.sh x,.mu v]=.ok (.val (.int (1+a))) [.sh x,.mu v1]:=by simp![e1]
   have d1:cR [.sh x,.mu v1] (.val (.int (1+a)))=some ([.sh x,.mu v1],.int (1+a)):=rfl;unfold lcV;have cy:qY.G=cY:=rfl;rw[cy] at q5 ⊢;rw[if_pos (by omega),g1];simp only[cY,dN,OW,F1,d1,q5];simp
def Er{xs:List Val}{x:Val}(h:x∈xs)(hx:fk x=false):iG (.lst xs)=.exc "NoWeights" []:=by
 have h1:xs≠[]:=λz=>by rw[z] at h;exact nomatch h
 have h2:¬ xs.all fk=true:=λz=>by rw[NA] at z;rw[z x h] at hx;cases hx
 unfold iG;dsimp only;rw[if_neg h1,if_neg h2]
def nW{n:Nat}{v:Val}(f:Fd n v)(hn:n<=1000000):∃x v' rt,(rt=.val x\/rt=.new x)/\Fd (n+20) v'/\iE x=true/\iG x=.exc "NoWeights" []/\dk.G [v]=.ok rt [v']:=by
 show ∃x v' rt,(rt=.val x\/rt=.new x)/\Fd (n+20) v'/\iE x=true/\iG x=.exc "NoWeights" []/\(fnP [true] 3 dm).G [v]=.ok rt [v'];rw[jT rfl];show owQ n (dm.G _);unfold dm;rw[show sls [true] [v]++List.replicate (3-[v].length) .no=[.mu v,.no,.no] from rfl];obtain⟨a,v1,e1,f1,a0,a1⟩:=a9 (m:=5) f (by omega) (by decide) (sm8 (by decide));have rg:=Fy (i:=1+a) (by omega) (by omega);obtain⟨ws,s',v2,wl,wr,f2,_,lc⟩:=lc9 (rgV (1+a).toNat) [] (n+1) v1 .no f1 rfl (by rw[gh];omega) (by rw[gh,NC];omega);rw[gh] at wl f2;rw[NK] at lc;have lw:(ws.map Val.int).length<=16777216:=by rw[o_];omega
 refine aP (λe=>e=[.mu v2,.ow (.lst (ws.map .int)),.no]) ⟨_,by simp![e1,rg,bU,lc,lw],rfl⟩ ?_;rintro _ rfl;have lm:((ws.map Val.int).length:Nat)=ws.length:=o_ ..;obtain⟨b,v3,e3,f3,b0,b1⟩:=a9 (m:=(ws.length:Nat)) f2 (by omega) (by omega) (sm8 (by omega));refine aP (λe=>e=[.mu v3,.ow (.lst (ws.map .int)),.sh (.int b)]) ⟨_,by simp![lm,e3],rfl⟩ ?_;rintro _ rfl;obtain⟨c,v4,e4,f4,c0,c1⟩:=a9 (m:=8) f3 (by omega) (by decide) (sm8 (by decide));have ixb:ixN (ws.map Val.int).length b=some b.toNat:=jf b0 (by rw[o_];omega);refine aP (λe=>∃bad,knV bad=true/\fk bad=false/\e=[.mu v4,.ow (.lst ((ws.map .int).set b.toNat bad)),.sh (.int b)]) ?_ ?_
 .obtain rfl |rfl |rfl |rfl |rfl |rfl |rfl |rfl:c=0\/c=1\/c=2\/c=3\/c=4\/c=5\/c=6\/c=7:=by omega
  .exact⟨_,by simp![e4,p20,ixb],.int 0,rfl,rfl,rfl⟩
  .exact⟨_,by simp![e4,p20,ixb],.int (-1),rfl,rfl,rfl⟩
  .exact⟨_,by simp![e4,p20,ixb],.bl true,rfl,rfl,rfl⟩
  .exact⟨_,by simp![e4,p20,ixb],.non,rfl,rfl,rfl⟩
  .exact⟨_,by simp![e4,p20,ixb],.str "2",rfl,rfl,rfl⟩
  .exact⟨_,by simp![e4,p20,ixb],.tup [.int 1],rfl,rfl,rfl⟩
  .exact⟨_,by simp![e4,p20,ixb],.lst [.int 1],rfl,rfl,rfl⟩
  .exact⟨_,by simp![e4,p20,ixb],.int (-100000000000000000000),rfl,rfl,rfl⟩
 rintro _ ⟨bad,kb,nb,rfl⟩;have hb:bad∈(ws.map Val.int).set b.toNat bad:=List.mem_set (by rw[o_];omega) _;have ka:iE (.lst ((ws.map Val.int).set b.toNat bad))=true:=by
  show (decide (((ws.map Val.int).set b.toNat bad).length<=1000)&&((ws.map Val.int).set b.toNat bad).all knV)=true;rw[NF,o_,E_ (by omega),Bool.true_and,NA];intro x hx;rcases O2 hx with hx |rfl
  .obtain⟨w,_,rfl⟩:=NQ.mp hx;rfl
  .exact kb
 have na:=Er hb nb;generalize (ws.map Val.int).set b.toNat bad=L at *;obtain⟨d,v5,e5,f5,d0,d1⟩:=a9 (m:=9) f4 (by omega) (by decide) (sm8 (by decide));have f6:Fd (n+20) v5:=f5.mono (by omega);have at8:∀(q w e r t y u i o:Val),atI [q,w,e,r,t,y,u,i,o] 8=some o:=λ_ _ _ _ _ _ _ _ _=>rfl;obtain rfl |rfl |rfl |rfl |rfl |rfl |rfl |rfl |rfl:d=0\/d=1\/d=2\/d=3\/d=4\/d=5\/d=6\/d=7\/d=8:=by omega
 .exact⟨.lst L,v5,_,.inl rfl,f6,ka,na,by simp![e5,bB]⟩
 .exact⟨.lst L,v5,_,.inl rfl,f6,ka,na,by simp![e5,bB]⟩
 .exact⟨.lst L,v5,_,.inl rfl,f6,ka,na,by simp![e5,bB]⟩
 .exact⟨.lst [],v5,_,.inl rfl,f6,rfl,rfl,by simp![e5,bB]⟩
 .exact⟨.tup [.int 1,.int 2],v5,_,.inl rfl,f6,rfl,rfl,by simp![e5,bB]⟩
 .exact⟨.non,v5,_,.inl rfl,f6,rfl,rfl,by simp![e5,bB]⟩
 .exact⟨.int 3,v5,_,.inl rfl,f6,rfl,rfl,by simp![e5,bB]⟩
 .exact⟨.str "12",v5,_,.inl rfl,f6,rfl,rfl,by simp![e5,bB]⟩
 .exact⟨.dct [],v5,_,.inl rfl,f6,rfl,rfl,by simp![e5,at8,bB]⟩
def gi{r:Str}(h:xf.G (.str r) (.tup [.str "across",.str "down",.str "halves",.str "rows",.str "greatest",.str "thirds"])=.val (.bl true)):aQ.G [.str r]=.exc "NoRule" []:=by unfold aQ;rw[aF];unfold hJ;simp![h]
def oz{a c:Str}{r m:Val}(h:aQ.G [.str a]=.exc "NoRule" []\/(aQ.G [.str a]=.ok (.val .non) []/\aQ.G [.str c]=.exc "NoRule" [])):aN.G [.str a,.str c,r,m]=.exc "NoRule" []:=by
 unfold aN;rw[aF];unfold cG;rcases h with h |⟨h,h'⟩
 .simp![h]
 .simp![h,h']
def Ko{i j:Nat}{r m:Val}(ha:cS 2 r=true)(hb:bI r=false):aN.G [.str (nmR i),.str (nmR j),r,m]=.exc "NoBox" []:=by have c1:=hE i;have c2:=hE j;have cb:=j8 ha;rw[hb,if_neg (by decide)] at cb;unfold aN;rw[aF];unfold cG;generalize nmR i=nm at *;generalize nmR j=nn at *;simp![c1,c2,cb]
def CP(m:Val):Prop:=(knV m=true/\iR m=false)\/∃x:Int,m=.int x/\(x<1\/x>8)
def FO{i j:Nat}{b:Bx}{m:Val}(hb:b.Ok)(h:CP m):aN.G [.str (nmR i),.str (nmR j),bV b,m]=.exc "NoWeights" []:=by
 have c1:=hE i;have c2:=hE j;have cb:=bE hb;unfold aN;rw[aF];unfold cG;generalize nmR i=nm at *;generalize nmR j=nn at *;generalize bV b=bv at *;rcases h with ⟨hk,hi⟩ |⟨x,rfl,hx⟩
 .have iw:=gu hk;rw[hi] at iw;simp![c1,c2,cb,iw]
 .have iw:=zG x;by_cases h1:x<1
  .simp![c1,c2,cb,iw,E_ h1]
  .have h2:x>8:=by omega
   simp![c1,c2,cb,iw,C_ h1,E_ h2]
noncomputable def kD (c:Str):Str:=if c="NoBox" then "box" else if c="NoWeights" then "weights" else if c="TooMany" then "many" else "rule"
def Cls(c:Str):Prop:=c="NoBox" \/ c="NoWeights" \/ c="TooMany" \/ c="NoRule"
def vE{c:Str}(hc:Cls c):bC.G [.exc c]=.ok (.val (.str (kD c))) []/\c∈fi:=by
 rcases hc with rfl |rfl |rfl |rfl
 .exact⟨Bn,by decide⟩
 .exact⟨tV,by decide⟩
 .exact⟨y9,by decide⟩
 .exact⟨zS,by decide⟩
def jQ{p q r m:Val}{c:Str}(h:aN.G [p,q,r,m]=.exc c [])(hc:Cls c):cc.G [p,q,r,m]=.ok (.val (.str (kD c))) []:=by obtain⟨w1,mc⟩:=vE hc;unfold cc;rw[aF];unfold g9;simp![jE,h,mc,w1]
def u6{p q r m:Val}{o:Option (List Int)}(h:aN.G [p,q,r,m]=.ok (.val (oV o)) []):cc.G [p,q,r,m]=.ok (.val (.str "told")) []:=by
 unfold cc;rw[aF];unfold g9;cases o with
 |none=>rw[show oV none=.non from rfl] at h;simp![jE,h]
 |some w=>rw[show oV (some w)=.lst (w.map .int) from rfl] at h;have i1:(aq ar).G [.lst (w.map .int),.ty "list"]=.val (.bl true):=rfl;generalize w.map Val.int=wv at *;simp![jE,h,i1]
def GZ{v:Val}{c:Str}(h:aG.G [v]=.exc c []):bQ.G [v]=.exc c []:=by unfold bQ;rw[aF];unfold fj;simp![h]
def jo{v:Val}{c:Str}(h:aG.G [v]=.exc c [])(hc:Cls c):bH.G [v]=.ok (.val (.str (kD c))) []:=by obtain⟨w1,mc⟩:=vE hc;have h:=GZ h;unfold bH;rw[aF];unfold gZ;simp![jE,h,mc,w1]
def uP{ws:List Int}(W:W40 ws):bH.G [liV ws]=.ok (.val (.str "told")) []:=by have h:=o7 W;unfold liV at h ⊢;have i1:(aq ar).G [.lst ((beh ws).map .int),.ty "list"]=.val (.bl true):=rfl;unfold bH;rw[aF];unfold gZ;generalize (beh ws).map Val.int=wv at *;generalize ws.map Val.int=w0 at *;simp![jE,h,i1]
def RlI(a c:Str)(D:List Str):Prop:=(D=[]/\∃i j,a=nmR i/\c=nmR j)\/(D=[Str.ofString "rule"]/\∀r m,aN.G [.str a,.str c,r,m]=.exc "NoRule" [])
def RmI(r:Val)(D:List Str):Prop:=(D=[]/\∃b,Good b/\r=bV b)\/(D=[Str.ofString "box"]/\cS 2 r=true/\bI r=false)
def MsI(m:Val)(D:List Str):Prop:=(D=[]/\∃n:Nat,1<=n/\n<7/\m=.int (n:Nat))\/(D=[Str.ofString "weights"]/\CP m)
def Fh{a c:Str}{r m:Val}{D1 D2 D3:List Str}(h1:RlI a c D1)(h2:RmI r D2)(h3:MsI m D3):∃x dC,D1++D2++D3++[Str.ofString "told"]=x::dC/\cc.G [.str a,.str c,r,m]=.ok (.val (.str x)) []/\PyData.strOk x=true:=by
 rcases h1 with ⟨rfl,i,j,rfl,rfl⟩ |⟨rfl,h1⟩
 .rcases h2 with ⟨rfl,b,g,rfl⟩ |⟨rfl,ha,hb⟩
  .rcases h3 with ⟨rfl,n,n1,n7,rfl⟩ |⟨rfl,h3⟩
   .exact⟨"told",[],rfl,u6 (L6 i j g n1 n7),by decide⟩
   .exact⟨"weights",_,rfl,jQ (FO g.ok h3) (.inr (.inl rfl)),by decide⟩
  .exact⟨"box",_,rfl,jQ (Ko ha hb) (.inl rfl),by decide⟩
 .exact⟨"rule",_,rfl,jQ (h1 r m) (.inr (.inr (.inr rfl))),by decide⟩
def vy{r:Int}(h0:0<=r)(h1:r<6):∃i,atI [Val.str "across",.str "down",.str "halves",.str "rows",.str "greatest",.str "thirds"] r=some (.str (nmR i)):=by
 obtain rfl |rfl |rfl |rfl |rfl |rfl:r=0\/r=1\/r=2\/r=3\/r=4\/r=5:=by omega
 .exact⟨0,aM (by decide) rfl⟩
 .exact⟨1,aM (by decide) rfl⟩
 .exact⟨2,aM (by decide) rfl⟩
 .exact⟨3,aM (by decide) rfl⟩
 .exact⟨4,aM (by decide) rfl⟩
 .exact⟨5,aM (by decide) rfl⟩
def HL{r:Int}(h0:0<=r)(h1:r<7):∃x:Str,atI [Val.str "",.str "Across",.str "down ",.str "third",.str "square",.str "order",.str "halve"] r=some (.str x)/\aQ.G [.str x]=.exc "NoRule" []:=by
 obtain rfl |rfl |rfl |rfl |rfl |rfl |rfl:r=0\/r=1\/r=2\/r=3\/r=4\/r=5\/r=6:=by omega
 .exact⟨"",aM (by decide) rfl,gi rfl⟩
 .exact⟨"Across",aM (by decide) rfl,gi rfl⟩
 .exact⟨"down ",aM (by decide) rfl,gi rfl⟩
 .exact⟨"third",aM (by decide) rfl,gi rfl⟩
 .exact⟨"square",aM (by decide) rfl,gi rfl⟩
 .exact⟨"order",aM (by decide) rfl,gi rfl⟩
 .exact⟨"halve",aM (by decide) rfl,gi rfl⟩
def p29:ko.G (.int 10) (.int 29)=.val (.int 100000000000000000000000000000):=xn ⟨by decide,by decide,by decide⟩
def gv{a:Int}(h:a.natAbs<16):Sm 101 a:=I_ h (Oa (n:=2) (i:=4) (by decide) (by decide))
def E4{a:Int}(h0:0<=a)(h1:a<9):RmI (.tup [.tup [.int 0,.int 1],.tup [.int (-1),.int 2],.tup [.int (1+a),.int 1],.tup [.int 1,.int 3]]) []:=by
 refine .inl ⟨rfl,⟨0,((-1:Int):Rat)/((2:Int):Rat),((1+a:Int):Rat),((1:Int):Rat)/((3:Int):Rat)⟩,⟨⟨oU (by omega),me (by decide) (by decide)⟩,⟨⟨gv (a:=0) (by decide),gv (a:=1) (by decide)⟩,Sz.div (by decide) (gv (by decide)) (gv (by decide)) 101 (r_ _) (r_ _),⟨gv (a:=1+a) (by omega),gv (a:=1) (by decide)⟩,Sz.div (by decide) (gv (by decide)) (gv (by decide)) 101 (r_ _) (r_ _)⟩⟩,?_⟩;have f1:fV (((-1:Int):Rat)/((2:Int):Rat))=.tup [.int (-1),.int 2]:=by show Val.tup [.int (((-1:Int):Rat)/((2:Int):Rat)).num,.int ((((-1:Int):Rat)/((2:Int):Rat)).den:Nat)]=_;rw[show (((-1:Int):Rat)/((2:Int):Rat)).num=-1 by decide,show (((-1:Int):Rat)/((2:Int):Rat)).den=2 by decide];rfl
 have f2:fV (((1:Int):Rat)/((3:Int):Rat))=.tup [.int 1,.int 3]:=by show Val.tup [.int (((1:Int):Rat)/((3:Int):Rat)).num,.int ((((1:Int):Rat)/((3:Int):Rat)).den:Nat)]=_;rw[show (((1:Int):Rat)/((3:Int):Rat)).num=1 by decide,show (((1:Int):Rat)/((3:Int):Rat)).den=3 by decide];rfl
 show _=Val.tup [fV 0,fV (((-1:Int):Rat)/((2:Int):Rat)),fV ((1+a:Int):Rat),fV (((1:Int):Rat)/((3:Int):Rat))];rw[f1,f2];rfl
def oneQ(n:Nat)(r:SR3):Prop:=∃v',Fd (n+60) v'/\gj [true] r=.ok (.val (.bl true)) [v']
def GW{n:Nat}{v:Val}(f:Fd n v)(hn:n<=500000):∃v',Fd (n+60) v'/\ip.G [v]=.ok (.val (.bl true)) [v']:=by
 show ∃v',Fd (n+60) v'/\(fnP [true] 9 ir).G [v]=.ok (.val (.bl true)) [v'];rw[jT rfl];show oneQ n (ir.G [.mu v,.no,.no,.no,.no,.no,.no,.no,.no]);unfold ir;refine aP (λe=>e=[.mu v,.sh (.lst [.str "across",.str "down",.str "halves",.str "rows",.str "greatest",.str "thirds"]),.no,.no,.no,.no,.no,.no,.no]) ⟨_,by simp![dN],rfl⟩ ?_;rintro _ rfl;obtain⟨r1,v1,d1,f1,r10,r11⟩:=a9 (m:=6) f (by omega) (by decide) (sm8 (by decide));obtain⟨r2,v2,d2,f2,r20,r21⟩:=a9 (m:=6) f1 (by omega) (by decide) (sm8 (by decide));obtain⟨i,ai⟩:=vy r10 r11;obtain⟨j,aj⟩:=vy r20 r21;refine aP (λe=>e=[.mu v2,.sh (.lst [.str "across",.str "down",.str "halves",.str "rows",.str "greatest",.str "thirds"]),.sh (.str (nmR i)),.sh (.str (nmR j)),.no,.no,.no,.no,.no]) ⟨_,by generalize nmR i=nm at *;generalize nmR j=nn at *;simp![d1,d2,ai,aj],rfl⟩ ?_;rintro _ rfl;clear ai aj d1 d2;generalize (Sl.sh (.lst [.str "across",.str "down",.str "halves",.str "rows",.str "greatest",.str "thirds"]))=s1;obtain⟨r3,v3,d3,f3,r30,r31⟩:=a9 (m:=9) f2 (by omega) (by decide) (sm8 (by decide));obtain⟨r4,v4,d4,f4,r40,r41⟩:=a9 (m:=4) f3 (by omega) (by decide) (sm8 (by decide));obtain⟨mm,hmm⟩:∃k:Nat,(k:Int)=1+r4:=⟨(1+r4).toNat,by omega⟩;refine aP (λe=>∃r,RmI r []/\e=[.mu v4,s1,.sh (.str (nmR i)),.sh (.str (nmR j)),.sh r,.ow (.lst []),.sh (.int (mm:Nat)),.no,.no]) ⟨_,by rw[hmm];generalize nmR i=nm at *;generalize nmR j=nn at *;simp![LA,rW,d3,d4,and_self,OW],_,E4 r30 r31,rfl⟩ ?_;rintro _ ⟨r,hr,rfl⟩;obtain⟨w,v5,d5,f5,w0,w1⟩:=a9 (m:=8) f4 (by omega) (by decide) (sm8 (by decide));refine aP (λe=>e=[.mu v5,s1,.sh (.str (nmR i)),.sh (.str (nmR j)),.sh r,.ow (.lst []),.sh (.int (mm:Nat)),.sh (.int w),.no]) ⟨_,by simp![d5],rfl⟩ ?_;rintro _ rfl;obtain⟨r6,v6,d6,f6,r60,r61⟩:=a9 (m:=7) f5 (by omega) (by decide) (sm8 (by decide));obtain⟨x,ax,cx⟩:=HL r60 r61;refine aP (λe=>e=[.mu v6,s1,.sh (.str (nmR i)),.sh (.str (nmR j)),.sh r,.ow (.lst []),.sh (.int (mm:Nat)),.sh (.int w),.sh (.str x)]) ⟨_,by simp![d6,ax],rfl⟩ ?_;rintro _ rfl;refine aP (λe=>∃a c D,RlI a c D/\D.length<=1/\e=[.mu v6,s1,.sh (.str a),.sh (.str c),.sh r,.ow (.lst (D.map .str)),.sh (.int (mm:Nat)),.sh (.int w),.sh (.str x)]) ?_ ?_
 .by_cases hw:w<3
  .obtain rfl |rfl |rfl:w=0\/w=1\/w=2:=by omega
   .exact⟨_,by simp![dN],x,nmR j,["rule"],.inr ⟨rfl,λr m=>oz (.inl cx)⟩,by decide,rfl⟩
   .exact⟨_,by simp![dN],nmR i,x,["rule"],.inr ⟨rfl,λr m=>oz (.inr ⟨hE i,cx⟩)⟩,by decide,rfl⟩
   .exact⟨_,by simp![dN],x,x,["rule"],.inr ⟨rfl,λr m=>oz (.inl cx)⟩,by decide,rfl⟩
  .exact⟨_,by simp![C_ hw],nmR i,nmR j,[],.inl ⟨rfl,i,j,rfl,rfl⟩,by decide,rfl⟩
 rintro _ ⟨a,c,D1,h1,l1,rfl⟩;obtain⟨r7,v7,d7,f7,_,_⟩:=a9 (m:=4) f6 (by omega) (by decide) (sm8 (by decide));have q1:(D1.map Val.str).length<16777216:=by rw[o_];omega
 refine aP (λe=>∃v8 r D2,Fd (n+14) v8/\RmI r D2/\D2.length<=1/\e=[.mu v8,s1,.sh (.str a),.sh (.str c),.sh r,.ow (.lst ((D1++D2).map .str)),.sh (.int (mm:Nat)),.sh (.int w),.sh (.str x)]) ?_ ?_
 .by_cases hz:r7=0
  .subst hz;obtain⟨y,v8,rt,hrt,f8,ay,ny,e8⟩:=uZ f7 (by omega);refine⟨_,?_,v8,y,["box"],f8.mono (by omega),.inr ⟨rfl,ay,ny⟩,by decide,rfl⟩;rw[NT,show ([Str.ofString "box"]:List Str).map Val.str=[.str "box"] from rfl];generalize D1.map Val.str=dv at *;rcases hrt with rfl |rfl
   .simp![d7,e8,q1]
   .simp![d7,e8,q1]
  .have dz:(r7==0)=false:=by rw[J_];exact hz
   refine⟨_,?_,v7,r,[],f7.mono (by omega),hr,by decide,rfl⟩;rw[NP];generalize D1.map Val.str=dv at *;simp![d7,dz]
 rintro _ ⟨v8,r,D2,f8,h2,l2,rfl⟩;clear hr q1 d7;obtain⟨r9,v9,d9,f9,_,_⟩:=a9 (m:=3) f8 (by omega) (by decide) (sm8 (by decide));have q2:((D1++D2).map Val.str).length<16777216:=by rw[o_,G_];omega
 refine aP (λe=>∃v10 m D3,Fd (n+60) v10/\MsI m D3/\D3.length<=1/\e=[.mu v10,s1,.sh (.str a),.sh (.str c),.sh r,.ow (.lst ((D1++D2++D3).map .str)),.sh m,.sh (.int w),.sh (.str x)]) ?_ ?_
 .by_cases hz:r9=0
  .subst hz;obtain⟨k,v10,d10,f10,k0,k1⟩:=a9 (m:=10) f9 (by omega) (by decide) (sm8 (by decide));have key:∃m,CP m/\atI [Val.int 0,.int 9,.int (-1),.bl true,.non,.str "3",.int 100000000000000000000000000000,.bl false,.tup [.int 1],.lst [.int 2]] k=some m:=by
    obtain rfl |rfl |rfl |rfl |rfl |rfl |rfl |rfl |rfl |rfl:k=0\/k=1\/k=2\/k=3\/k=4\/k=5\/k=6\/k=7\/k=8\/k=9:=by omega
    .exact⟨_,.inr ⟨0,rfl,by decide⟩,aM (by decide) rfl⟩
    .exact⟨_,.inr ⟨9,rfl,by decide⟩,aM (by decide) rfl⟩
    .exact⟨_,.inr ⟨-1,rfl,by decide⟩,aM (by decide) rfl⟩
    .exact⟨_,.inl ⟨rfl,rfl⟩,aM (by decide) rfl⟩
    .exact⟨_,.inl ⟨rfl,rfl⟩,aM (by decide) rfl⟩
    .exact⟨_,.inl ⟨rfl,rfl⟩,aM (by decide) rfl⟩
    .exact⟨_,.inr ⟨100000000000000000000000000000,rfl,by decide⟩,aM (by decide) rfl⟩
    .exact⟨_,.inl ⟨rfl,rfl⟩,aM (by decide) rfl⟩
    .exact⟨_,.inl ⟨rfl,rfl⟩,aM (by decide) rfl⟩
    .exact⟨_,.inl ⟨rfl,rfl⟩,aM (by decide) rfl⟩
   obtain⟨m,hm,am⟩:=key;refine⟨_,?_,v10,m,["weights"],f10.mono (by omega),.inr ⟨rfl,hm⟩,by decide,rfl⟩;rw[NT (l₁:=D1++D2),show ([Str.ofString "weights"]:List Str).map Val.str=[.str "weights"] from rfl];generalize (D1++D2).map Val.str=dv at *;simp![d9,p29,d10,am,q2]
  .have dz:(r9==0)=false:=by rw[J_];exact hz
   refine⟨_,?_,v9,.int (mm:Nat),[],f9.mono (by omega),.inl ⟨rfl,mm,by omega,by omega,rfl⟩,by decide,rfl⟩;rw[NP];generalize (D1++D2).map Val.str=dv at *;simp![d9,dz]
 rintro _ ⟨v10,m,D3,f10,h3,l3,rfl⟩;obtain⟨y,dC,ye,be,ok⟩:=Fh h1 h2 h3;have ql:((D1++D2++D3).map Val.str).length+1<=16777216:=by rw[o_,G_,G_];omega
 have yl:(D1++D2++D3).map Val.str++[.str "told"]=.str y::dC.map .str:=by rw[show ([.str "told"]:List Val)=([Str.ofString "told"]:List Str).map .str from rfl,<- NT,ye];rfl
 have qq:bG (.str y) (.str y)=some true:=by rw[L3.eq_str ok ok];simp
 have a0:atI (Val.str y::dC.map Val.str) 0=some (Val.str y):=aM (by decide) rfl;refine⟨v10,f10,?_⟩;generalize (D1++D2++D3).map Val.str=dv at *;generalize dC.map Val.str=rv at *;simp![be,uw,ql,yl,a0,qq,bB]
def wC{x:Str}(h:PyData.strOk x=true):bG (.str x) (.str x)=some true:=by rw[L3.eq_str h h];simp
def HS{ws:List Int}{m:Nat}(hl:ws.length=m)(h1:1<=m)(h2:m<=40)(h:∀w∈ws,1<=w/\w<=9):W40 ws:=⟨by omega,by omega,λw hw=>(h w hw).1⟩
def wH{xs:List Val}(hl:xs.length<=1000)(h:∀x∈xs,knV x=true):iE (.lst xs)=true:=by show (decide (xs.length<=1000)&&xs.all knV)=true;rw[E_ hl,Bool.true_and,NA];exact h
def Dj{ws:List Int}(h0:40<ws.length)(h1:ws.length<=100)(h:∀w∈ws,1<=w/\w<=9):aG.G [liV ws]=.exc "TooMany" []:=by
 have a:=wH (xs:=ws.map .int) (by rw[o_];omega) λx hx=>by obtain⟨w,_,rfl⟩:=NQ.mp hx;rfl
 have e:=dO a;unfold liV;rw[e];unfold iG;dsimp only;rw[if_neg (λz=>by have:=NR List.length z;rw[o_,NC] at this;omega),if_pos (by rw[NA];intro x hx;obtain⟨w,hw,rfl⟩:=NQ.mp hx;show decide (1<=w)=true;exact E_ (h w hw).1),if_neg (by rw[o_];omega)]
def Fz{n:Nat}{v x:Val}{i:Val}{s3 s4:Sl}(f:Fd n v)(hn:n<=400000)(h3:s3.pl=true)(h4:s4.pl=true):∃(v':Val) (t3 t4:Sl),Fd (n+200) v'/\t3.pl=true/\t4.pl=true/\m6.G [.sh x,.ow v,.sh i,s3,s4]=.nx [.sh x,.ow v',.sh i,t3,t4]:=by
 obtain⟨v1,f1,e1⟩:=GW f (by omega);obtain⟨y,v2,rt,hrt,f2,ay,cy,e2⟩:=nW f1 (by omega);have cw:=dO ay;rw[cy] at cw;have b1:=jo cw (.inr (.inl rfl));rw[show kD "NoWeights" = "weights" from by decide] at b1;have qw:=wC (x:="weights") (by decide);obtain⟨r,v3,e3,f3,r0,r1⟩:=a9 (m:=4) f2 (by omega) (by decide) (sm8 (by decide));obtain⟨m,hm⟩:∃m:Nat,(m:Int)=39+r:=⟨(39+r).toNat,by omega⟩;have rg:jI [.int (m:Nat)]=some (rgV m):=kE (by omega);obtain⟨ws,s',v4,wl,wr,f4,_,lc⟩:=lc9 (rgV m) [] (n+60+20+1) v3 .no f3 rfl (by rw[gh];omega) (by rw[gh,NC];omega);rw[gh] at wl f4;rw[NK] at lc;have lw:(ws.map Val.int).length<=16777216:=by rw[o_];omega
 have q2:∃w:Str,bH.G [liV ws]=.ok (.val (.str w)) []/\atI [Val.str "told",.str "many"] (if decide ((m:Int)>40)=true then 1 else 0)=some (.str w)/\PyData.strOk w=true:=by
  by_cases hb:40<m
  .have d:decide ((m:Int)>40)=true:=E_ (by omega);have b:=jo (Dj (by omega) (by omega) wr) (.inr (.inr (.inl rfl)));rw[show kD "TooMany" = "many" from by decide] at b;refine⟨"many",b,?_,by decide⟩;rw[d];exact aM (by decide) rfl
  .have d:decide ((m:Int)>40)=false:=C_ (by omega);refine⟨"told",uP (HS wl (by omega) (by omega) wr),?_,by decide⟩;rw[d];exact aM (by decide) rfl
 obtain⟨wd,b2,a2,ok2⟩:=q2;have qd:=wC ok2;obtain⟨z,v5,e5,f5,z0,z1⟩:=a9 (m:=4) f4 (by omega) (by decide) (sm8 (by decide));obtain⟨k,v6,e6,f6,k0,k1⟩:=a9 (m:=(m:Nat)) f5 (by omega) (by omega) (sm8 (by omega));have key:∃bad,knV bad=true/\fk bad=false/\atI [Val.int 0,.bl true,.non,.str "1"] z=some bad:=by
  obtain rfl |rfl |rfl |rfl:z=0\/z=1\/z=2\/z=3:=by omega
  .exact⟨.int 0,rfl,rfl,aM (by decide) rfl⟩
  .exact⟨.bl true,rfl,rfl,aM (by decide) rfl⟩
  .exact⟨.non,rfl,rfl,aM (by decide) rfl⟩
  .exact⟨.str "1",rfl,rfl,aM (by decide) rfl⟩
 obtain⟨bad,kb,nb,az⟩:=key;have ixk:ixN (ws.map Val.int).length k=some k.toNat:=jf k0 (by rw[o_];omega);have mem:bad∈(ws.map Val.int).set k.toNat bad:=O1 (O9 (by rw[o_];omega));have a3:=wH (xs:=(ws.map .int).set k.toNat bad) (by rw[NF,o_];omega) λx hx=>by
  rcases O2 hx with hx |rfl
  .obtain⟨w,_,rfl⟩:=NQ.mp hx;rfl
  .exact kb
 have c3:=dO a3;rw[Er mem nb] at c3;have b3:=jo c3 (.inr (.inl rfl));rw[show kD "NoWeights" = "weights" from by decide] at b3;refine⟨v6,.sh (.int (m:Nat)),.ow (.lst ((ws.map .int).set k.toNat bad)),f6.mono (by omega),rfl,rfl,?_⟩;unfold m6;have hm':(39:Int)+r=(m:Nat):=hm.symm;unfold liV at b2;generalize hsv:(ws.map Val.int).set k.toNat bad=sv at *;generalize ws.map Val.int=wv at *;rcases hrt with rfl |rfl
 .simp![e1,e2,b1,qw,e3,hm',rg,bU,inS,lc,lw,h3,h4,b2,a2,qd,e5,e6,az,xQ,ixk,hsv,b3]
 .simp![e1,e2,b1,qw,e3,hm',rg,bU,inS,lc,lw,h3,h4,b2,a2,qd,e5,e6,az,xQ,ixk,hsv,b3]
theorem tX{x:Val}:∀(vs:List Val) (v:Val) (s2 s3 s4:Sl) (n:Nat),Fd n v->n+200*vs.length<=300000->s2.pl=true->s3.pl=true->s4.pl=true->∃(v':Val) (t2 t3 t4:Sl),fB (gtN 2).G m6.G vs [.sh x,.ow v,s2,s3,s4]=.nx [.sh x,.ow v',t2,t3,t4]
 | [],v,s2,s3,s4,n,_,_,_,_,_=>⟨v,s2,s3,s4,rfl⟩
 |
  i::vs,v,s2,s3,s4,n,f,hn,h2,h3,h4=>by
  rw[D_] at hn;obtain⟨v1,t3,t4,f1,q3,q4,e1⟩:=Fz (x:=x) (i:=i) f (by omega) h3 h4;obtain⟨v',t2',t3',t4',ih⟩:=tX (x:=x) vs v1 (.sh i) t3 t4 (n+200) f1 (by omega) rfl q3 q4;refine⟨v',t2',t3',t4',?_⟩;have g1:(gtN 2).G i [.sh x,.ow v,s2,s3,s4]=some [.sh x,.ow v,.sh i,s3,s4]:=by simp![h2]
  rw[gm,g1];dsimp only;rw[e1];exact ih
def lawQ(r:SR3):Prop:=gj [false] r=.ok (.val (.bl true)) []
def G6(ns:List Int)(hl:ns.length<=63):qV.G [.kl (ns.map .int)]=.ok (.val (.bl true)) []:=by
 unfold qV;rw[jT rfl];show lawQ (yz.G [.sh (.kl (ns.map .int)),.no,.no,.no,.no]);unfold yz;obtain⟨v0,e0,f0⟩:=F8 (ns:=ns) hl;have ln:((ns.map Val.int).length:Nat)=ns.length:=o_ ..;refine aP (λe=>e=[.sh (.kl (ns.map .int)),.ow v0,.no,.no,.no]) ⟨_,by simp![e0],rfl⟩ ?_;rintro _ rfl;obtain⟨m,hm,m12⟩:∃m:Nat,(4+(if ((ns.length:Nat):Int)<8 then ((ns.length:Nat):Int) else 8):Int)=(m:Nat)/\m<=12:=by
  by_cases h:((ns.length:Nat):Int)<8
  .rw[if_pos h];exact⟨4+ns.length,by omega,by omega⟩
  .rw[if_neg h];exact⟨12,by decide,by decide⟩
 have rg:jI [.int (m:Nat)]=some (rgV m):=kE (by omega);obtain⟨v',t2,t3,t4,lo⟩:=tX (x:=.kl (ns.map .int)) (rgV m) v0 .no .no .no 0 f0 (by rw[gh];omega) rfl rfl rfl;refine aP (λe=>e=[.sh (.kl (ns.map .int)),.ow v',t2,t3,t4]) ⟨_,by simp![ln,hm,rg,lo],rfl⟩ ?_;rintro _ rfl;unfold lawQ;simp![bB]
end KK
namespace PySem.W.Fast
def q__:=trivial
def tw10117000014879156163:=q__
def tw1014186282799528894:=q__
def tw10146045460661975280:=q__
def tw10147618084454453948:=q__
def tw10183322005072893841:=q__
def tw10183397195342472888:=q__
def tw10225130295406159099:=q__
def tw10290481200483860197:=q__
def tw10298856601911165668:=q__
def tw10302591324922264221:=q__
def tw10328616840111591619:=q__
def tw10333300275092149694:=q__
def tw10348521441706062491:=q__
def tw10366895780630988511:=q__
def tw10483772922408897355:=q__
def tw10488046518641663163:=q__
def tw1053324058445531752:=q__
def tw10540864864974540427:=q__
def tw10554219704531548936:=q__
def tw10593243913679015434:=q__
def tw1061886154115235473:=q__
def tw10636136339870898485:=q__
def tw10657090971245742722:=q__
def tw1066397546634757215:=q__
def tw10697339247633685043:=q__
def tw10728381221020746699:=q__
def tw10794503645141093048:=q__
def tw10798193512049817390:=q__
def tw1081595019016290241:=q__
def tw10829128766784154087:=q__
def tw10844772299026291213:=q__
def tw10849275040713890430:=q__
def tw10941770026331206965:=q__
def tw10955435609457753905:=q__
def tw10968345140689390864:=q__
def tw10999500112990279461:=q__
def tw110358235084674530:=q__
def tw11057835297126469526:=q__
def tw11088414627417011731:=q__
def tw1110101957044045288:=q__
def tw11168900688114479979:=q__
def tw11187082852770216778:=q__
def tw11209427387793157916:=q__
def tw11217420835834295585:=q__
def tw11325878191030486066:=q__
def tw11370181170389729533:=q__
def tw11412115145784555599:=q__
def tw11413685069770866695:=q__
def tw11434800005138246389:=q__
def tw11465146499435021038:=q__
def tw11490872149008542317:=q__
def tw1150896529102771785:=q__
def tw11509465762290118332:=q__
def tw11534965005885442142:=q__
def tw11565333514707314017:=q__
def tw1156879609902798604:=q__
def tw11571452897934729782:=q__
def tw11626146828733249019:=q__
def tw11631346304991568400:=q__
def tw11659219765118215880:=q__
def tw11701907552474080388:=q__
def tw11718729331505642808:=q__
def tw11726182048052805025:=q__
def tw11748193330049398342:=q__
def tw11759733131092049382:=q__
def tw11760666923190436317:=q__
def tw11764102478254803158:=q__
def tw11790231683542599593:=q__
def tw11795486992934553681:=q__
def tw11845357361426575589:=q__
def tw11851594056733637397:=q__
def tw11863401518707568547:=q__
def tw11873170690305030695:=q__
def tw11877625488535845401:=q__
def tw11936329779805802239:=q__
def tw11956454432240679012:=q__
def tw11958805289394672434:=q__
def tw11992384118964310362:=q__
def tw12000413230776089420:=q__
def tw12000764459899562416:=q__
def tw12119675728460111492:=q__
def tw12139255390798924969:=q__
def tw12149876479479056792:=q__
def tw1217329869059865640:=q__
def tw1222219478284377442:=q__
def tw12247507598597713252:=q__
def tw12292883532927716227:=q__
def tw12316646805981248046:=q__
def tw12321913835755800592:=q__
def tw12364701935780108918:=q__
def tw12443174442165665570:=q__
def tw12462957018681481853:=q__
def tw12495081842184454542:=q__
def tw12526200365039348426:=q__
def tw12568249594372617102:=q__
def tw12580834561153619141:=q__
def tw12594893655657447243:=q__
def tw12600052167623280924:=q__
def tw12732919718494172869:=q__
def tw1274602320576564335:=q__
def tw12778851503116845789:=q__
def tw12812099356317316232:=q__
def tw12842267014695369600:=q__
def tw12847060053992152160:=q__
def tw12865035249682447704:=q__
def tw12869937182627638129:=q__
def tw12887589838124807275:=q__
def tw12893257077191456018:=q__
def tw12895741323014403228:=q__
def tw12968170410211434978:=q__
def tw13077433415144277035:=q__
def tw13085096410726268705:=q__
def tw13097695223499337582:=q__
def tw13114428903819568156:=q__
def tw13123530907960065920:=q__
def tw13139995705253753163:=q__
def tw13154634444975400569:=q__
def tw13182013887472449285:=q__
def tw13357859904962941780:=q__
def tw13381590977564954350:=q__
def tw13389472338843672894:=q__
def tw13405276088351913998:=q__
def tw13433275288312719922:=q__
def tw13443815177060439755:=q__
def tw1354706838387996761:=q__
def tw13592789142052051602:=q__
def tw13624607030880728945:=q__
def tw13675091130606513752:=q__
def tw13686052890908455271:=q__
def tw13690081770680639311:=q__
def tw13711637713123790682:=q__
def tw13718067972007111228:=q__
def tw13737562308960299185:=q__
def tw13777622805763481283:=q__
def tw13817863437897338237:=q__
def tw13824543756477412413:=q__
def tw1384865798611548525:=q__
def tw13856018364341192608:=q__
def tw1387317284537241111:=q__
def tw13891313661619549746:=q__
def tw13908279507358949581:=q__
def tw13919574099022149674:=q__
def tw13921792085282354333:=q__
def tw13992824340873074312:=q__
def tw13996775356132522698:=q__
def tw14064891434357214450:=q__
def tw14065874480194346763:=q__
def tw14072403055115845992:=q__
def tw1408949187298911137:=q__
def tw14120989088518092216:=q__
def tw14128010587011806034:=q__
def tw14140324974402046237:=q__
def tw14143047277623578836:=q__
def tw14149406920607062474:=q__
def tw14171435525168622920:=q__
def tw14179643129954526192:=q__
def tw14249802132553411771:=q__
def tw14256840181047108584:=q__
def tw14301943905352978073:=q__
def tw14322531530971037188:=q__
def tw14323180867399395375:=q__
def tw14388842569858923630:=q__
def tw1440233733307136328:=q__
def tw14479209432428751624:=q__
def tw14483161241436747387:=q__
def tw14492093817203219453:=q__
def tw14493425343126882313:=q__
def tw14494239746541358319:=q__
def tw14538249354124526301:=q__
def tw14591333515544333715:=q__
def tw14611365325715932188:=q__
def tw14617916853986524618:=q__
def tw146967637435312936:=q__
def tw14742225622921471049:=q__
def tw14758978913922089728:=q__
def tw14822707128661547829:=q__
def tw14844269368014484633:=q__
def tw14855447362753336873:=q__
def tw1494127016211692650:=q__
def tw14962325011172206944:=q__
def tw15100606605743965290:=q__
def tw1515185901248170187:=q__
def tw15154137465115992747:=q__
def tw15168192806619649685:=q__
def tw1517160435326655738:=q__
def tw15183160765598858563:=q__
def tw15219913825675279442:=q__
def tw1522188146705811368:=q__
def tw15235492869962449276:=q__
def tw15256324501067738387:=q__
def tw15295182077351670838:=q__
def tw15304571756033347869:=q__
def tw15357585273566708290:=q__
def tw15363343242495037391:=q__
def tw15367779209130301745:=q__
def tw15368693943947234885:=q__
def tw15376968994873756570:=q__
def tw15426205593024113270:=q__
def tw15431728024788916581:=q__
def tw15452591475576501169:=q__
def tw15455159650312118551:=q__
def tw15459243719397015188:=q__
def tw15478366039280032202:=q__
def tw15504656036015700341:=q__
def tw15583752919706238221:=q__
def tw15607214444272819914:=q__
def tw15615708645200272944:=q__
def tw15626104443389094736:=q__
def tw15631827729237739030:=q__
def tw1569058074085286713:=q__
def tw15717480841691145756:=q__
def tw15731805730188736488:=q__
def tw15775014117122009288:=q__
def tw15779447369660213216:=q__
def tw15814342683226561103:=q__
def tw15835705453904191093:=q__
def tw15838696975696084316:=q__
def tw15843701148465048475:=q__
def tw15866418609670717334:=q__
def tw15879350620440653967:=q__
def tw15891596032533799122:=q__
def tw15943280680091049168:=q__
def tw15956913935918255209:=q__
def tw15995887656337236881:=q__
def tw16018159387811248547:=q__
def tw1602923709817212849:=q__
def tw16044866309395470781:=q__
def tw16071991564838124962:=q__
def tw16087338373158202127:=q__
def tw16093705611721042630:=q__
def tw16098951050077049932:=q__
def tw16134676960599176604:=q__
def tw16134757673854674153:=q__
def tw16137066625858608523:=q__
def tw16150354840571495027:=q__
def tw16158790168361996867:=q__
def tw1616509546264705903:=q__
def tw16185245051415799338:=q__
def tw16204470097802219040:=q__
def tw16274486787851466684:=q__
def tw16277263388999852073:=q__
def tw16281715401570828705:=q__
def tw16290988937950601236:=q__
def tw16323185268484297090:=q__
def tw16327999258196179381:=q__
def tw16373918873970944748:=q__
def tw16433383475196164936:=q__
def tw16448891595540959762:=q__
def tw16467145853608512099:=q__
def tw16474328052575938502:=q__
def tw16483063491060316164:=q__
def tw16494214325532688714:=q__
def tw16513835780645694987:=q__
def tw1660926303039041179:=q__
def tw16618438878296950953:=q__
def tw16690191711858575464:=q__
def tw16710645095548191521:=q__
def tw16711296622239085451:=q__
def tw16743819689621788891:=q__
def tw16749643697860553485:=q__
def tw16780428070242179389:=q__
def tw16785328217127366005:=q__
def tw16820371222595170574:=q__
def tw16823534988127158156:=q__
def tw16825367737629687505:=q__
def tw16832105853084612261:=q__
def tw1683534173202587759:=q__
def tw16843768561409475262:=q__
def tw16853872430293680876:=q__
def tw16944894159025848595:=q__
def tw16965070898074070277:=q__
def tw16995840821845957288:=q__
def tw17025967670313960208:=q__
def tw17028353852344527526:=q__
def tw17029200913095674283:=q__
def tw17038329363789067985:=q__
def tw17043866668460000877:=q__
def tw17160310533032241127:=q__
def tw17164147207461049995:=q__
def tw17295292661901459304:=q__
def tw17298857309703631241:=q__
def tw17299418765394271150:=q__
def tw17361772878156002946:=q__
def tw17428295403002227042:=q__
def tw17441326946089800980:=q__
def tw17450991817815452177:=q__
def tw17459185891906545378:=q__
def tw17483511702774872699:=q__
def tw17507584941784776229:=q__
def tw17524603176680335487:=q__
def tw17579722540967061563:=q__
def tw17593595375674449304:=q__
def tw17639162366184905816:=q__
def tw17659372175335893096:=q__
def tw17680573705696706526:=q__
def tw17698549552109947166:=q__
def tw17716363215884596019:=q__
def tw1773679219589740973:=q__
def tw177544148433141140:=q__
def tw17767741297835636381:=q__
def tw17812310512935901880:=q__
def tw17812888785913346464:=q__
def tw17820246435330369878:=q__
def tw17882957193628260395:=q__
def tw17888656235125481938:=q__
def tw17918492270767080127:=q__
def tw17939795439967754695:=q__
def tw17952081376990316619:=q__
def tw17953957055795032755:=q__
def tw17958433941201084684:=q__
def tw18038044177462911696:=q__
def tw18038109963979797914:=q__
def tw18082539013684736116:=q__
def tw18104365994608993001:=q__
def tw18105807801976141262:=q__
def tw18114017944632053323:=q__
def tw18133833001075447800:=q__
def tw18143751764825170197:=q__
def tw18271992260966585506:=q__
def tw18295145355812967242:=q__
def tw18295958828953590116:=q__
def tw18321990640263788197:=q__
def tw18325458197093957682:=q__
def tw1833222683088259710:=q__
def tw18363570299723230987:=q__
def tw18381441159004909515:=q__
def tw18412427012719399190:=q__
def tw18425940504265372418:=q__
def tw1872704424670940732:=q__
def tw1889158392386556631:=q__
def tw1908705153608868967:=q__
def tw1915283542114579503:=q__
def tw1997354255808382843:=q__
def tw2014936120706904761:=q__
def tw2034213731918284332:=q__
def tw203742587763229738:=q__
def tw2136892848403218842:=q__
def tw2157648298984290854:=q__
def tw2165654746144320103:=q__
def tw2168253979516570524:=q__
def tw2168977011663665681:=q__
def tw2169699849336421459:=q__
def tw2216019964439710314:=q__
def tw225762538197405769:=q__
def tw2290322417680041301:=q__
def tw2348436964359714887:=q__
def tw2402630938493944075:=q__
def tw2458251392743267087:=q__
def tw2522891426555668420:=q__
def tw2595311711075925679:=q__
def tw261788461810234746:=q__
def tw2627249879280806727:=q__
def tw2672949517706854649:=q__
def tw2675353133103779549:=q__
def tw269507154613432355:=q__
def tw2767255168244237792:=q__
def tw2802078886640087092:=q__
def tw282533038903787894:=q__
def tw296486818430744367:=q__
def tw3023552937346956724:=q__
def tw308356142478780955:=q__
def tw309466443086747258:=q__
def tw3125646544606284972:=q__
def tw3149036634102781452:=q__
def tw3160272478738058054:=q__
def tw3284571377349245911:=q__
def tw3304287745914848519:=q__
def tw3407694734976166216:=q__
def tw3413601633914685922:=q__
def tw3422319153866289699:=q__
def tw345341306492454614:=q__
def tw3525207202210229231:=q__
def tw3577803681944924458:=q__
def tw3578287699403766137:=q__
def tw3592927477135691263:=q__
def tw3621415516483154598:=q__
def tw3663368165437542978:=q__
def tw3715069752909506218:=q__
def tw3744721816105865361:=q__
def tw3750126586311913281:=q__
def tw3781453234567673944:=q__
def tw3794662839832595161:=q__
def tw3866994969748033418:=q__
def tw3927745788592739836:=q__
def tw3928844079336655372:=q__
def tw3948572244165637612:=q__
def tw39499728050913661:=q__
def tw3995833321437041237:=q__
def tw3996154711622220883:=q__
def tw3999444517594772589:=q__
def tw406080328876984467:=q__
def tw4063632164444358325:=q__
def tw4064538043297630471:=q__
def tw4075474362214203416:=q__
def tw4085616576576164349:=q__
def tw4091095863557889204:=q__
def tw4129518778982590176:=q__
def tw4213535366062512388:=q__
def tw4284052709918792958:=q__
def tw4287999698152398629:=q__
def tw4318434529967706621:=q__
def tw4451284847833991203:=q__
def tw4502836038654294080:=q__
def tw4533271467466456479:=q__
def tw4557439406096189126:=q__
def tw459308964411956466:=q__
def tw4596111374756231055:=q__
def tw4596373783530199095:=q__
def tw4629856242076632509:=q__
def tw4639314074279007562:=q__
def tw4639821853738180211:=q__
def tw467405569044038585:=q__
def tw4680758072029645345:=q__
def tw4682508328531722234:=q__
def tw4707571251408906368:=q__
def tw4756640607933190534:=q__
def tw4760572902564254099:=q__
def tw476488426894991903:=q__
def tw4869470656897401386:=q__
def tw4898557341766074111:=q__
def tw4944662903710178116:=q__
def tw5086770206527432168:=q__
def tw5137199858665239373:=q__
def tw5153242979595895702:=q__
def tw5213642990506199923:=q__
def tw5254348674351476588:=q__
def tw5255528348610617713:=q__
def tw5258469260796040116:=q__
def tw5279349366610292411:=q__
def tw5280243805202381883:=q__
def tw5299266192130994524:=q__
def tw5320923027849962510:=q__
def tw5331540573185346252:=q__
def tw5344135686120000322:=q__
def tw5346643409711450014:=q__
def tw5358975588984386400:=q__
def tw5375970440838693366:=q__
def tw5420259175627211345:=q__
def tw5448201630118452086:=q__
def tw5449597853715989318:=q__
def tw5476400776952192166:=q__
def tw5487187420048164113:=q__
def tw5504063781787718283:=q__
def tw5573686895339874742:=q__
def tw5637458489753439006:=q__
def tw5641025475953710229:=q__
def tw56725094957749972:=q__
def tw5729824020078950947:=q__
def tw5778919680648538125:=q__
def tw5789365189094962540:=q__
def tw5797792585463631245:=q__
def tw5809300891791572680:=q__
def tw5840637804694000219:=q__
def tw5871382291774704691:=q__
def tw5887104745571484102:=q__
def tw58920991489346218:=q__
def tw5934671127524589708:=q__
def tw5986909483048643503:=q__
def tw5988730332125064290:=q__
def tw5996284717541027077:=q__
def tw6055436803053845213:=q__
def tw6059237261654857612:=q__
def tw6110009340504630874:=q__
def tw6117177115224184441:=q__
def tw6130993811240039563:=q__
def tw6140014496717463589:=q__
def tw6168249804492765847:=q__
def tw6226918885153422440:=q__
def tw6259236989245113386:=q__
def tw6261476633903412683:=q__
def tw6268988296522944479:=q__
def tw6288898433333983477:=q__
def tw633404532527683319:=q__
def tw63561786039007990:=q__
def tw6379077346030936363:=q__
def tw6419279991013936031:=q__
def tw6503000938994376230:=q__
def tw6538334733646405881:=q__
def tw6559226444097573015:=q__
def tw6564310202938434613:=q__
def tw6611642098451039748:=q__
def tw6645436752088177656:=q__
def tw6681975113707709940:=q__
def tw6721113810980257753:=q__
def tw6844606168404803640:=q__
def tw6879870492894867460:=q__
def tw6917390618289865822:=q__
def tw692073480201372417:=q__
def tw6959079090542409105:=q__
def tw7005836806112194076:=q__
def tw7019659557509788637:=q__
def tw702279723844610148:=q__
def tw7032266922396475338:=q__
def tw7054042094757339514:=q__
def tw7079947108932195549:=q__
def tw7223366311097001206:=q__
def tw7298811635037094604:=q__
def tw7361276580058435863:=q__
def tw7392921942162158833:=q__
def tw7397680907391305752:=q__
def tw7405691504215575514:=q__
def tw7441021556072600151:=q__
def tw7525306887907896869:=q__
def tw7561554141793499309:=q__
def tw7569555828091804753:=q__
def tw7576658028766177928:=q__
def tw7596187596752013723:=q__
def tw7618838205416688425:=q__
def tw764618003635116379:=q__
def tw7666264753439202395:=q__
def tw7673297833238686521:=q__
def tw7681444661201214018:=q__
def tw777133114083006224:=q__
def tw7781342930968111725:=q__
def tw7842735108457419640:=q__
def tw7844353600685849437:=q__
def tw7853388002404828468:=q__
def tw7872456756967082448:=q__
def tw7902530941977918973:=q__
def tw790586819043387013:=q__
def tw7915498994401328774:=q__
def tw7917948575006675599:=q__
def tw7934882636381672415:=q__
def tw8019659700854096674:=q__
def tw8023329892857949473:=q__
def tw8038483889350224062:=q__
def tw8077785734438880090:=q__
def tw8115954520551449634:=q__
def tw816460883217602264:=q__
def tw818271886697039822:=q__
def tw8298643473067796654:=q__
def tw8335387274351568218:=q__
def tw8335472803032136024:=q__
def tw8387431299973887068:=q__
def tw8393517025931197537:=q__
def tw839559618591154823:=q__
def tw8503511693046146819:=q__
def tw8535531488322570570:=q__
def tw8571308687930851397:=q__
def tw8598876400094390371:=q__
def tw8649733741809309646:=q__
def tw8684605167250746006:=q__
def tw8721917590102682389:=q__
def tw8736836452070434668:=q__
def tw8772383923300501912:=q__
def tw8774713217309865343:=q__
def tw8863964862370962087:=q__
def tw8873963431169967995:=q__
def tw8877528179354948067:=q__
def tw8915244630380453347:=q__
def tw8932872678655781777:=q__
def tw894561140975828025:=q__
def tw9010439569586440968:=q__
def tw902731133540671368:=q__
def tw912096083566229602:=q__
def tw9134541426736881235:=q__
def tw913987462599865124:=q__
def tw9177782860700650756:=q__
def tw9192364188956856136:=q__
def tw9206372172706160243:=q__
def tw9245180508188584024:=q__
def tw9264557651602932685:=q__
def tw9284156017493095462:=q__
def tw9292061895490144939:=q__
def tw9314225429217618285:=q__
def tw9340615603237566757:=q__
def tw9340888466843322493:=q__
def tw9362668981111503293:=q__
def tw9398845592579143150:=q__
def tw941529864301986248:=q__
def tw9424880453526137399:=q__
def tw9454944258951191388:=q__
def tw9456893507757829394:=q__
def tw9498193892056708261:=q__
def tw9556103920009270869:=q__
def tw9559042149068101176:=q__
def tw9601585297299076802:=q__
def tw9610365958226250537:=q__
def tw961178218322275504:=q__
def tw9615194622913669851:=q__
def tw9616312925254059036:=q__
def tw9617318874540399959:=q__
def tw9635750634571861021:=q__
def tw9650973497819912524:=q__
def tw9663346448758171326:=q__
def tw9667811861828909500:=q__
def tw9681630109993119480:=q__
def tw9737557137607244343:=q__
def tw9740379120620636579:=q__
def tw9866323189188628618:=q__
def tw9877762433341424786:=q__
def tw9896138479729632736:=q__
def tw9921203808848704172:=q__
def tw9925978406877149003:=q__
def tw9934400080103307738:=q__
def tw9941066392180218061:=q__
def tw9945434227641923283:=q__
def tw9984673725194735566:=q__
end PySem.W.Fast
open PySem PySem.W PyProof.Rows L2 L3 KK
set_option maxRecDepth 100000 in
set_option maxHeartbeats 0 in
theorem PySem.Challenge.cw_weightrooms_k62_lists_refused_holds : PySem.Challenge.rw_weightrooms_k62_lists_refused.Holds := by
 w_on;o_law;k_head;(case hw=>w_witness2)
 k_fill
 refine L2.walk_lawT (l:=PySem.Challenge.rw_weightrooms_k62_lists_refused) (x:="_law_script") (k:=60) rfl rfl ⟨rfl,by decide,by decide⟩ (λw h Y=>⟨W.km_in_of Y,FR (by kernel_rfl) (W.km_tabs_of Y)⟩) ?F ?D
 case F=>
  intro w mg h KX G base kb nb;refine Ma qV (Gj ⟨⟨Mm KX G (by kernel_rfl),?_⟩,Jl KX G (by kernel_rfl)⟩) (Iy KX G (by kernel_rfl)) rfl G6;repeat first
   |exact trivial
   |refine⟨by refine' AA KX G ?a ?l ?c ?k;(case a=>k_is);(case l=>k_is);(case c=>k_is);(case k=>k_is),?_⟩
 case D=>
  intro w mg h KX G;refine⟨top 86,?_,(λ_ _ _ _ _ _=>ar1 λ_=>rfl)⟩;refine' AA KX G ?a ?l ?c ?k;case a|l|c|k=>k_is
