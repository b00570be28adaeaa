import PyProof.Rows.All
import Wide.All
import OpenK.AllK
import Wide.FinOn
import Lean
import PyProof.EqAt
import PyProof.EqKinds
import PyProof.TupleCall
import PyProof.Rows.SumAny
import PyProof.EnumMake
import PyProof.Draws
import PyProof.ZipIter
import KE.KNestM
import PyProof.StrBlockH
import KE.KUnpack
import KE.KxIndex
import PyProof.SetRoads
import PyProof.SetNew
import PyProof.AutoSeq1
import KE.KRevSl
import PyProof.SeqI3
import PyProof.Rows.SortWalk
import PyProof.Rows.Range3
import KE.KSortTup
import KE.KLam
import PyProof.Rows.SetFrom
import PyProof.FactsAll.list_2
import PyProof.Rows.SortStr
import PyProof.Rows.StrRules
import PyProof.StrOps
import KE.KIntText
import PyProof.CallStr
import PyProof.StrWalks
import PyProof.Rows.StrNews2
import PySem.Challenge.RW_weightrooms_k29_whole_no_box_beyond_boun
local macro_rules|`(tactic|trivial)=>`(tactic|first|exact Or.inl rfl|exact Or.inr rfl)
local macro_rules|`(tactic|decide)=>`(tactic|decide +kernel)
set_option genSizeOf false
set_option genInjectivity false
set_option bootstrap.genMatcherCode false
noncomputable section
set_option Elab.async false
set_option linter.all false
def p_:=@PySem.wpAny_bind
def q_:=@List.length_map
def r_:=@List.mem_cons_of_mem
def s_:=@List.mem_cons_self
def t_:=@PySem.Heap.get?_push_of_some
def u_:=@List.map_cons
def v_:=@Nat.le_refl
def w_:=@Bool.and_eq_true
def x_:=@List.getElem?_eq_getElem
def y_:=@Bool.false_ne_true
def z_:=@List.length_range
def A_:=@List.size_toArray
def B_:=@PySem.wpAny_pure
def C_:=@PySem.Heap.lt_size
def D_:=@List.getElem?_eq_some_iff
def Em:=@List.length_cons
def E_:=@List.getD_eq_getElem?_getD
def F_:=@PySem.Heap.get?_push_size
def G_:=@List.mem_cons
def H_:=@decide_eq_false
def I_:=@List.length_append
def J_:=@beq_eq_false_iff_ne
def K_:=@decide_eq_true
def LA:=@Nat.lt_of_lt_of_le
def LB:=@Option.some.inj
def LC:=@List.mem_range
def LD:=@List.length_nil
def LG:=@Nat.ne_of_lt
def LH:=@List.map_nil
def LJ:=@List.mem_append_right
def LK:=@Option.map_eq_some_iff
def LL:=@List.getElem?_map
def LN:=@List.mem_map
def LO:=@List.sum_cons
def LP:=@List.length_take
def LQ:=@List.all_eq_true
def LR:=@List.length_drop
def LS:=@Option.bind_eq_some_iff
def LU:=@Nat.le_trans
def LW:=@beq_iff_eq
def LX:=@PySem.wpAny_mono
def LY:=@Array.length_toList
def LZ:=@PyProof.Rows.callWith_type1
def L4:=@List.mem_of_mem_take
def L5:=@List.mem_singleton
def L6:=@List.append_nil
def L7:=@List.mem_of_mem_drop
def L8:=@Nat.pow_le_pow_right
def L9:=@List.length_set
def L_:=@List.map_append
def Ma:=@List.take_append_drop
def Mb:=@congrArg
def Mc:=@List.getElem?_append_left
def Md:=@PySem.wpAny_Call_Name_kw
def Me:=@Nat.mul_le_mul
def Mf:=@Rat.intCast_mul
def Mg:=@List.contains_iff_mem
def Mh:=@Int.toNat_natCast
def Mi:=@Nat.zero_le
def Mj:=@Nat.lt_irrefl
def Mk:=@List.nil_append
def Ml:=@List.find?_cons
def Mm:=@List.mem_append
def Mn:=@PySem.wpAny_field
def Mo:=@List.getElem_mem
def Mp:=@Int.natAbs_mul
def Mq:=@List.take_of_length_le
def Mr:=@PySem.wpAny_newObj_type
def Ms:=@List.pairwise_iff_getElem
def Mu:=@Rat.not_lt
def Mv:=@Int.mul_assoc
def Mw:=@List.any_cons
def Mx:=@PySem.wpAny_holding
def My:=@List.mem_append_left
def Mz:=@List.getElem?_replicate
def MB:=@Rat.mul_lt_mul_of_pos_right
def MC:=@Nat.mul_le_mul_left
def MD:=@PySem.mem_of_lookup
def MF:=@List.map_map
def MH:=@Rat.div_def
def MJ:=@List.map_take
def MK:=@List.lookup_cons
def ML:=@Nat.lt_of_le_of_lt
def MM:=@decide_eq_true_iff
def MN:=@Nat.mul_pos
def MP:=@List.sum_append
def MQ:=@Nat.mul_le_mul_right
def MR:=@Option.isSome_iff_exists
def MU:=@List.append_assoc
def MV:=@PySem.wpAny_truthy_bool
def MW:=@List.map_drop
def MX:=@PySem.wpAny_callSpecial?_slot
def MY:=@PySem.Heap.SameBut.update
def MZ:=@List.filterMap_cons
def M0:=@List.length_zipWith
def M1:=@List.dropLast_concat_getLast
def M3:=@PySem.wpAny_seqItems
def M4:=@Nat.pow_add
def M5:=@PySem.Calls.spliced_cons
def M6:=@PySem.wpAny_setField_rec
def M7:=@Int.natCast_mul
def M8:=@List.getElem?_zipWith
def M9:=@List.length_replicate
def M_:=@List.length_singleton
def Na:=@Nat.not_lt_zero
def Nb:=@PySem.wpAny_passesOwn
def Nc:=@PySem.F.slot_tuple_iterator_next
def Nd:=@List.getElem?_append_right
def Nf:=@decide_eq_true_eq
def Ng:=@List.not_mem_nil
def Nh:=@Rat.le_of_lt
def Ni:=@Rat.le_trans
def Nj:=@List.mem_map_of_mem
def Nk:=@decide_eq_false_iff_not
def Nl:=@PySem.wpAny_getItem_str_slice
def Nm:=@PySem.wpAny_standAt
def Nn:=@Bool.false_eq_true
def Np:=@Bool.or_eq_true
def Nq:=@Int.mul_le_mul_of_nonneg_right
def Nr:=@Int.mul_ne_zero
def Nt:=@List.nodup_cons
def Nu:=@Rat.mul_le_mul_of_nonneg_right
def Nv:=@Rat.mul_le_mul_of_nonneg_left
def Nw:=@Bool.not_eq_true'
def Ny:=@PySem.Calls.spliced_nil
def Nz:=@Int.mul_left_comm
def NA:=@of_decide_eq_true
def NB:=@Int.mul_comm
def NC:=@Nat.le_of_lt
def ND:=@Nat.ne_of_gt
def NF:=@Rat.lt_div_iff
def NG:=@if_true
def NH:=@List.mem_of_getElem?
def NI:=@PySem.wpAny_call_entry
def NJ:=@Int.eq_of_mul_eq_mul_right
def NK:=@List.map_eq_nil_iff
def NL:=@Array.getElem?_eq_getElem
def NM:=@Bool.eq_iff_iff
def NN:=@List.drop_eq_getElem_cons
def NO:=@List.getElem?_eq_none_iff
def NP:=@List.of_mem_zip
def NQ:=@Int.mul_right_comm
def NR:=@List.idxOf_lt_length_iff
def NS:=@Nat.zero_add
def NT:=@PySem.F.args_tuple_add_2
def NU:=@PySem.Heap.size_push
def NV:=@PySem.F.entry_tuple_add
def NW:=@PySem.F.plainAttrs_list
def NX:=@PySem.wpAny_pyIter_list
def NY:=@PySem.Heap.get?_update_other
def NZ:=@List.find?_cons_of_neg
def N2:=@List.length_eq_one_iff
def N3:=@PySem.F.slot_tuple_add
def N4:=@List.take_nil
def N5:=@Nat.mul_assoc
def N6:=@PySem.wpAny_attempt
def N7:=@List.any_eq_true
def N8:=@List.cons_append
def N9:=@List.nodup_range
def N_:=@Nat.le_add_right
def Oa:=@beq_self_eq_true
def Od:=@decide_eq_decide
def Oe:=@if_false
def Of:=@PySem.F.slot_zip_next
def Og:=@PySem.Heap.get?_none_of_le
def Oh:=@List.getElem?_append
def Oi:=@List.getElem?_set_ne
def Oj:=@List.mem_iff_getElem
def Ol:=@Nat.lt_trans
def Om:=@Nat.min_eq_left
def Oo:=@Rat.intCast_add
def Oq:=@Rat.num_eq_zero
def Ot:=@PySem.call_meets
def Ou:=@PySem.codeAny_builtin
def Ov:=@PySem.codeAny_mono
def Ow:=@PySem.post_val_or_str
def Ox:=@PySem.wpAny_execs_nil
def Oy:=@PySem.wpAny_loadName_local
def Oz:=@PySem.wpAny_updateSeq_pair
def OA:=@List.length_reverse
def OB:=@List.mergeSort_perm
def OC:=@Rat.inv_pos
def OD:=@Rat.mul_pos
def OE:=@List.all_cons
def OF:=@List.drop_nil
def OG:=@PySem.Paired.length
def OH:=@Rat.mul_assoc
def OI:=@PyProof.Rows.listUpdate_at
def OJ:=@PySem.rangeSize_one
def OK:=@PySem.wpAny_onRaise
set_option maxRecDepth 100000
namespace L2
open PySem PySem.Spec PyProof.Rows
abbrev _root_.Pa:=Str->Option Value
abbrev _root_.Pb:=List (Addr×Obj)
abbrev _root_.Pc:=Value->Shared->Prop
abbrev _root_.Pd:=List (Option Nat)
abbrev Key:=Sum Int Str
noncomputable def j4:Key->Value->Bool
 |.inl k,v=>Value.isInt k v
 |.inr x,v=>Value.isStrOf x v
noncomputable def keyH (w:World):Key->Int
 |.inl k=>hashInt k
 |.inr x=>hashStr w x
theorem bG:∀{k:Key}{v:Value},j4 k v=true->(∃i t,k=Sum.inl i/\v=Value.int i t)\/(∃x t,k=Sum.inr x/\v=Value.str x t)
 |
  .inl i,v,h=>by
  obtain⟨t,e⟩:=Value.isInt_shape (k:=i) (v:=v) h;exact .inl ⟨i,t,rfl,e⟩
 |
  .inr x,v,h=>by
  obtain⟨t,e⟩:=Value.isStrOf_shape (x:=x) (v:=v) h;exact .inr ⟨x,t,rfl,e⟩
def xA(i:Int)(t:Tok):j4 (.inl i) (.int i t)=true:=by simp [j4,Value.isInt]
def wI(x:Str)(t:Tok):j4 (.inr x) (.str x t)=true:=by simp [j4,Value.isStrOf]
def Ft(a b:Int):decide ((Sum.inl a:Key)=Sum.inl b)=(a==b):=by
 by_cases e:a=b
 .subst e;simp
 .have h:¬ (Sum.inl a:Key)=Sum.inl b:=λq=>e (Sum.inl.inj q);rw[H_ h];exact (J_.mpr e).symm
def Ig(a b:Str):decide ((Sum.inr a:Key)=Sum.inr b)=decide (a=b):=by
 by_cases e:a=b
 .subst e;simp
 .have h:¬ (Sum.inr a:Key)=Sum.inr b:=λq=>e (Sum.inr.inj q);rw[H_ h,H_ e]
def HW(a:Int)(b:Str):decide ((Sum.inl a:Key)=Sum.inr b)=false:=H_ (λq=>nomatch q)
def E5(a:Str)(b:Int):decide ((Sum.inr a:Key)=Sum.inl b)=false:=H_ (λq=>nomatch q)
noncomputable def bQ (prog:Program) (w:World):PySem.KeyKind prog w Key where
 is:=j4
 hash:=keyH w
 inj
  := λv a b ha hb=>by
  rcases bG ha with ⟨i,t,rfl,rfl⟩ |⟨x,t,rfl,rfl⟩
  .rcases bG hb with ⟨j,u,rfl,e⟩ |⟨y,u,rfl,e⟩
   .injection e with e1 _;rw[e1]
   .exact nomatch e
  .rcases bG hb with ⟨j,u,rfl,e⟩ |⟨y,u,rfl,e⟩
   .exact nomatch e
   .injection e with e1 _;rw[e1]
 byValue:=λk v h=>by rcases bG h with ⟨i,t,rfl,rfl⟩ |⟨x,t,rfl,rfl⟩ <;> rfl
 pyHash:=λhv h=>by
  rcases bG hv with ⟨i,t,rfl,rfl⟩ |⟨x,t,rfl,rfl⟩
  .exact wpAny_pyHash_int h
  .exact wpAny_pyHash_str h
 eqBool:=λhu hv h=>by
  rcases bG hu with ⟨i,t,rfl,rfl⟩ |⟨x,t,rfl,rfl⟩
  .rcases bG hv with ⟨j,u,rfl,rfl⟩ |⟨y,u,rfl,rfl⟩
   .rw[Ft] at h;exact wpAny_eqBool_int h
   .rw[HW] at h;exact SeqAt.EqAt.int_str i t y u _ _ _ _ h
  .rcases bG hv with ⟨j,u,rfl,rfl⟩ |⟨y,u,rfl,rfl⟩
   .rw[E5] at h;exact SeqAt.EqAt.str_int x t j u _ _ _ _ h
   .rw[Ig] at h;exact wpAny_eqBool_str h
 «strs»:=λk x t v h=>by
  rcases bG h with ⟨i,u,rfl,e⟩ |⟨y,u,rfl,e⟩
  .exact nomatch e
  .injection e with e1 _;subst e1;cases v <;> rfl
def sM(prog:Program)(w:World)(i:Int)(t:Tok):(bQ prog w).is (.inl i) (.int i t)=true:=xA i t
def sR(prog:Program)(w:World)(x:Str)(t:Tok):(bQ prog w).is (.inr x) (.str x t)=true:=wI x t
inductive V where
 |non |bl (b:Bool) |int (i:Int) |str (x:Str) |byt (b:Array UInt8) |flt (b:UInt64) |ref (a:Addr) |ty (n:String)
 deriving DecidableEq
def RelV:V->Value->Prop
 |.non,u=>u=Value.none
 |.bl b,u=>u=Value.bool b
 |.int i,u=>∃t,u=Value.int i t
 |.str x,u=>∃t,u=Value.str x t
 |.byt b,u=>∃t,u=Value.bytes b t
 |.flt b,u=>∃t,u=Value.float b t
 |.ref a,u=>u=Value.ref a
 |.ty n,u=>u=Value.type n
abbrev Vals:List V->List Value->Prop:=Paired RelV
def Vals.length(r:Vals xs us):xs.length=us.length:=OG r
def Vals.get{xs:List V}{us:List Value}{i:Nat}{x:V}(r:Vals xs us)(e:xs[i]?=some x):∃u,us[i]?=some u/\RelV x u:=by
 induction r generalizing i with
 |nil=>rw[List.getElem?_nil] at e;cases e
 |
  cons r t ih=>
  cases i with
  |zero=>cases e;exact⟨_,rfl,r⟩
  |succ i=>exact ih (i:=i) e
def Vals.set(r:RelV x u)(i:Nat)(q:Vals xs us):Vals (xs.set i x) (us.set i u):=by
 induction q generalizing i with
 |nil=>exact .nil
 |
  cons q t ih=>
  cases i with
  |zero=>exact .cons r t
  |succ i=>exact .cons q (ih i)
def Vals.append(r:Vals xs us)(s:Vals ys ws):Vals (xs++ys) (us++ws):=by
 induction r with
 |nil=>exact s
 |cons r t ih=>exact .cons r ih
def Vals.take(n:Nat)(r:Vals xs us):Vals (xs.take n) (us.take n):=by
 induction r generalizing n with
 |nil=>rw[N4,N4];exact .nil
 |
  cons r t ih=>
  cases n with
  |zero=>exact .nil
  |succ n=>exact .cons r (ih n)
def Vals.drop(n:Nat)(r:Vals xs us):Vals (xs.drop n) (us.drop n):=by
 induction r generalizing n with
 |nil=>rw[OF,OF];exact .nil
 |
  cons r t ih=>
  cases n with
  |zero=>exact .cons r t
  |succ n=>exact ih n
def RelO:Option V->Option Value->Prop
 |some v,some u=>RelV v u
 |none,none=>True
 |_,_=>False
def KV{κ:Type}:List (κ×V)->List (κ×Value)->Prop:=Paired λ(p:κ×V) (q:κ×Value)=>p.1=q.1/\RelV p.2 q.2
noncomputable def kV:Key->V
 |.inl i=>.int i
 |.inr x=>.str x
inductive HO where
 |lst (xs:List V)
 |tup (xs:List V)
 |dK (kvs:List (Key×V)) |dT (kvs:List (List Key×V))
 |set (S:Int->Bool) (n:Nat)
 |ins (C dx:Addr) (fs:List (Str×V))
 |own (x:Addr)
 |xd (fs:List (Str×V))
 |met (f x:Addr)
 |rng (lo hi:Int)
 |frz (o:Obj) (u:HO)
 |tbl (ps:Array Value)
 |ext (φ:Heap->Prop)
abbrev Hp:=Addr->Option HO
noncomputable def upd (H:Hp) (a:Addr) (o:HO):Hp:=λb=>if b=a then some o else H b
def aR:upd H a o a=some o:=by unfold upd;rw[if_pos rfl]
def aB(h:b≠a):upd H a o b=H b:=by unfold upd;rw[if_neg h]
def JZ{H:Hp}{a b:Addr}{o u:HO}(h:H a=some o)(h':H b=some u)(d:o≠u):a≠b:=by intro e;subst e;rw[h] at h';exact d (LB h')
def bJ{H:Hp}{a b:Addr}{o:HO}(h:H a=some o)(h':H b=none):a≠b:=by intro e;subst e;rw[h] at h';cases h'
section
variable(P:Program)(w:World)
def ObjOk(H:Hp)(h:Heap)(a:Addr):HO->Prop
 |.lst xs=>xs.length<=sizeLine/\∃(its:List Value) (n:Nat),Vals xs its/\h.get? a=some { cls:=.type "list",data:=.seq its.toArray n }
 |.tup xs=>xs.length<=sizeLine/\∃its:List Value,Vals xs its/\IsTup h a its.toArray
 |.dK kvs=>kvs.length<=sizeLine/\(a==sysModules)=false/\∃vs,KV kvs vs/\h.DictOf (bQ P w) a vs
 |.dT kvs=>kvs.length<=sizeLine/\(a==sysModules)=false/\∃xs:List (List Key×Addr×Value),
  Paired (λ(p:List Key×V) (q:List Key×Addr×Value)=>p.1=q.1/\H q.2.1=some (.tup (p.1.map kV))/\RelV p.2 q.2.2) kvs xs/\
  ∃o es ep,h.get? a=some o/\o.ExactDict/\o.data=.dict es ep/\es.toList=xs.map (entryOfKey (tupleKind (bQ P w)))/\(xs.map (·.1)).Nodup
 |.set S n=>h.SetOf (intKind P w) a S n
 |.ins C dx fs=>H dx=some (.own a)/\fs.length<=1000/\dx≠a/\h.get? a=some (W.instObj C dx)/\
  ∃mA,h.Ns1 dx mA/\(∀f,RelO (fs.lookup f) (mA f))/\PySem.Within mA (fs.map (·.1))
 |.own _=>∃o,h.get? a=some o
 |.xd fs=>∃mA,h.Ns1 a mA/\∀f,RelO (fs.lookup f) (mA f)
 |.rng lo hi=>∃t u v,h.get? a=some { cls:=.type "range",data:=.fields #[.int lo t,.int hi u,.int 1 v] }
 |.frz o u=>h.get? a=some o/\ObjOk H h a u
 |.tbl ps=>h.get? a=some { cls:=.none,data:=.fields ps }
 |.met f x=>h.get? a=some (W.methodObj (.ref f) (.ref x))
 |.ext φ=>φ h/\(∃o,h.get? a=some o)/\∀h1 h2:Heap,φ h1->(∀o,h1.get? a=some o->h2.get? a=some o)->φ h2
def HOk(H:Hp)(h:Heap):Prop:=∀a o,H a=some o->ObjOk P w H h a o
end
section
variable{P:Program}{w:World}{H H':Hp}{h h':Heap}{a:Addr}{o:HO}
def ObjOk.lt(x:ObjOk P w H h a o):a<h.objs.size:=by
 cases o with
 |lst xs=>obtain⟨_,_,_,_,e⟩:=x;exact C_ e
 |tup xs=>obtain⟨_,_,_,p⟩:=x;exact p.lt
 |dK kvs=>obtain⟨_,_,_,_,o,_,_,e,_⟩:=x;exact C_ e
 |dT kvs=>obtain⟨_,_,_,_,o,_,_,e,_⟩:=x;exact C_ e
 |set S n=>obtain⟨o,_,_,_,e,_⟩:=x;exact C_ e
 |ins C dx fs=>obtain⟨_,_,_,e,_⟩:=x;exact C_ e
 |own y=>obtain⟨_,e⟩:=x;exact C_ e
 |xd fs=>obtain⟨_,⟨_,_,_,e,_⟩,_⟩:=x;exact C_ e
 |rng lo hi=>obtain⟨_,_,_,e⟩:=x;exact C_ e
 |frz ob u=>obtain⟨e,_⟩:=x;exact C_ e
 |tbl ps=>exact C_ (show h.get? a=some _ from x)
 |met f y=>exact C_ (show h.get? a=some _ from x)
 |ext φ=>obtain⟨_,⟨_,e⟩,_⟩:=x;exact C_ e
def Paired.mapP(r:Paired F l₁ l₂)(f:∀a b,F a b->G a b):Paired G l₁ l₂:=by
 induction r with
 |nil=>exact .nil
 |cons r t ih=>exact .cons (f _ _ r) ih
def ObjOk.stay(x:ObjOk P w H h a o)(k:∀b u,(b=a\/H b=some (.own a))->h.get? b=some u->h'.get? b=some u)
 (ho:∀b,H b=some (.own a)->H' b=some (.own a)) (ht:∀b xs,H b=some (.tup xs)->H' b=some (.tup xs)):ObjOk P w H' h' a o:=by
 induction o with
 |lst xs=>obtain⟨z,its,n,r,e⟩:=x;exact⟨z,its,n,r,k _ _ (.inl rfl) e⟩
 |tup xs=>obtain⟨z,its,r,ob,e,c⟩:=x;exact⟨z,its,r,ob,k _ _ (.inl rfl) e,c⟩
 |dK kvs=>obtain⟨z,y,vs,r,ob,es,ep,e,c⟩:=x;exact⟨z,y,vs,r,ob,es,ep,k _ _ (.inl rfl) e,c⟩
 |dT kvs=>obtain⟨z,y,xs,r,ob,es,ep,e,c⟩:=x;exact⟨z,y,xs,Paired.mapP r λp q z=>⟨z.1,ht _ _ z.2.1,z.2.2⟩,ob,es,ep,k _ _ (.inl rfl) e,c⟩
 |set S n=>obtain⟨ob,es,ep,t,e,c⟩:=x;exact⟨ob,es,ep,t,k _ _ (.inl rfl) e,c⟩
 |ins C dx fs=>obtain⟨d,z,ne,e,mA,⟨od,es,ep,e2,c⟩,r⟩:=x;exact⟨ho _ d,z,ne,k _ _ (.inl rfl) e,mA,⟨od,es,ep,k _ _ (.inr d) e2,c⟩,r⟩
 |own y=>obtain⟨ob,e⟩:=x;exact⟨ob,k _ _ (.inl rfl) e⟩
 |xd fs=>obtain⟨mA,⟨od,es,ep,e,c⟩,r⟩:=x;exact⟨mA,⟨od,es,ep,k _ _ (.inl rfl) e,c⟩,r⟩
 |rng lo hi=>obtain⟨t,u,v,e⟩:=x;exact⟨t,u,v,k _ _ (.inl rfl) e⟩
 |frz ob u ih=>obtain⟨e,q⟩:=x;exact⟨k _ _ (.inl rfl) e,ih q⟩
 |tbl ps=>have e:h.get? a=some { cls:=.none,data:=.fields ps }:=x;show h'.get? a=some { cls:=.none,data:=.fields ps };exact k a _ (.inl rfl) e
 |met f y=>have e:h.get? a=some (W.methodObj (.ref f) (.ref y)):=x;show h'.get? a=some (W.methodObj (.ref f) (.ref y));exact k a _ (.inl rfl) e
 |ext φ=>obtain⟨p,⟨o,e⟩,st⟩:=x;exact⟨st _ _ p λo q=>k _ _ (.inl rfl) q,⟨o,k _ _ (.inl rfl) e⟩,st⟩
def HOk.lt(x:HOk P w H h)(e:H a=some o):a<h.objs.size:=(x a o e).lt
def HOk.fresh(x:HOk P w H h)(e:h.objs.size<=a):H a=none:=by
 cases q:H a with
 |none=>rfl
 |some u=>exact absurd (LA (x.lt q) e) (Mj _)
def HOk.kept(x:HOk P w H h)(k:∀b u,h.get? b=some u->h'.get? b=some u):HOk P w H h':=λa o e=>
 (x a o e).stay (λb u _ q=>k b u q) (λ_ q=>q) λ_ _ q=>q
def HOk.laid(x:HOk P w H h)(k:∀b u,h.get? b=some u->h'.get? b=some u)(hp:h.objs.size<=a)(new:ObjOk P w (upd H a o) h' a o):HOk P w (upd H a o) h':=λb u e=>by
 have hn:=x.fresh hp;by_cases hb:b=a
 .subst hb;rw[aR] at e;cases e;exact new
 .rw[aB hb] at e;exact (x b u e).stay (λc v _ q=>k c v q) (λc q=>by rw[aB (bJ q hn)];exact q) λc xs q=>by rw[aB (bJ q hn)];exact q
end
def Rd(H:Hp)(a:Addr)(u:HO):Prop:=H a=some u\/∃o,H a=some (.frz o u)
def Rd.ok(r:Rd H a u)(x:HOk P w H h):ObjOk P w H h a u:=by
 rcases r with r |⟨o,r⟩
 .exact x a u r
 .obtain⟨_,q⟩:=x a _ r;exact q
def Mut:Option HO->Prop
 |some (.lst _)=>True
 |some (.dK _)=>True
 |some (.dT _)=>True
 |some (.set _ _)=>True
 |some (.ins _ _ _)=>True
 |some (.ext _)=>True
 |_=>False
section
variable{P:Program}{w:World}{H:Hp}{h h':Heap}{x e:Addr}{o':HO}
def HOk.write(ok:HOk P w H h)(mu:Mut (H x))(he:e=x\/H e=some (.own x))(k:∀b u,b≠e->h.get? b=some u->h'.get? b=some u)(heo:∃u,h'.get? e=some u)
 (new:ObjOk P w (upd H x o') h' x o'):HOk P w (upd H x o') h':=λb u q=>by
 have nown:∀c y,H c=some (.own y)->c≠x:=λc y r z=>by subst z;rw[r] at mu;exact mu
 have ntup:∀c xs,H c=some (.tup xs)->c≠x:=λc xs r z=>by subst z;rw[r] at mu;exact mu
 by_cases hb:b=x
 .subst hb;rw[aR] at q;cases q;exact new
 .rw[aB hb] at q;by_cases hbe:b=e
  .have q':H b=some (.own x):=by
    rcases he with z |z
    .exact absurd (hbe.trans z) hb
    .rw[hbe];exact z
   rw[q] at q';cases q';obtain⟨v,hv⟩:=heo;exact⟨v,by rw[hbe];exact hv⟩
  .refine (ok b u q).stay (λc v hc r=>k c v ?_ r) (λc r=>by rw[aB (nown c b r)];exact r) λc xs r=>by rw[aB (ntup c xs r)];exact r
   rcases hc with rfl |hc
   .exact hbe
   .rintro rfl;rcases he with z |z
    .exact nown c b hc z
    .rw[hc] at z;cases z;exact hb rfl
end
structure Un(fs ex:List Addr)(H H':Hp)(h h':Heap):Prop where
 keep:∀b o,h.get? b=some o->H b=none->b∉fs->b∉ex->h'.get? b=some o
 slot:∀b o,h.get? b=some o->H b=none->b∈fs->b∉ex->∃sl,h'.get? b=some { o with slots:=sl }
 free:∀b o,h.get? b=some o->H b=none->b∉ex->H' b=none
 there:∀b o,h.get? b=some o->b∉ex->∃o',h'.get? b=some o'
 tups:∀b xs,H b=some (.tup xs)->H' b=some (.tup xs)
 frzs:∀b o u,H b=some (.frz o u)->H' b=some (.frz o u)
 tbls:∀b ps,H b=some (.tbl ps)->∃more,H' b=some (.tbl (ps++more))
section
variable{fs ex:List Addr}{H H1:Hp}{h h1 h':Heap}{a x e:Addr}{o:HO}
def Un.any(u:Un fs ex H H1 h h1)(q:h.get? b=some ob)(n:H b=none)(hx:b∉ex):∃sl,h1.get? b=some { ob with slots:=sl }:=by
 by_cases hb:b∈fs
 .exact u.slot b ob q n hb hx
 .exact⟨ob.slots,u.keep b ob q n hb hx⟩
def Un.kept(k:∀b u,h.get? b=some u->h'.get? b=some u):Un fs ex H H h h':=
 ⟨λb ob q _ _ _=>k b ob q,λb ob q _ _ _=>⟨ob.slots,k b ob q⟩,λ_ _ _ n _=>n,λb ob q _=>⟨ob,k b ob q⟩,λ_ _ q=>q,λ_ _ _ q=>q,λ_ ps q=>⟨#[],by rw[q];simp⟩⟩
def Un.refl:Un fs ex H H h h:=Un.kept λ_ _ q=>q
def Un.laid(k:∀b u,h.get? b=some u->h'.get? b=some u)(hp:h.objs.size<=a)(hn:H a=none):Un fs ex H (upd H a o) h h' where
 keep:=λb u q _ _ _=>k b u q
 slot:=λb u q _ _ _=>⟨u.slots,k b u q⟩
 free:=λb u q n _=>by rw[aB (LG (LA (C_ q) hp))];exact n
 there:=λb u q _=>⟨u,k b u q⟩
 tups:=λb xs q=>by rw[aB (bJ q hn)];exact q
 frzs:=λb u xs q=>by rw[aB (bJ q hn)];exact q
 tbls:=λb ps q=>⟨#[],by rw[aB (bJ q hn),q];simp⟩
def Un.write(mu:Mut (H x))(he:e=x\/H e=some (.own x))(k:∀b u,b≠e->h.get? b=some u->h'.get? b=some u)(heo:∃u,h'.get? e=some u):Un fs ex H (upd H x o) h h':=by
 have hx:∀b,H b=none->b≠x:=λb n z=>by subst z;rw[n] at mu;exact mu
 have hb:∀b,H b=none->b≠e:=λb n z=>by
  subst z;rcases he with r |r
  .exact hx b n r
  .rw[n] at r;cases r
 have hm:∀b u,H b=some u->¬ Mut (some u)->b≠x:=λb u q nm z=>by subst z;rw[q] at mu;exact nm mu
 refine⟨λb u q n _ _=>k b u (hb b n) q,λb u q n _ _=>⟨u.slots,k b u (hb b n) q⟩,λb u q n _=>by rw[aB (hx b n)];exact n,λb u q _=>?_,
  λb xs q=>by rw[aB (hm b _ q λz=>z)];exact q,λb u xs q=>by rw[aB (hm b _ q λz=>z)];exact q,λb ps q=>⟨#[],by rw[aB (hm b _ q λz=>z),q];simp⟩⟩
 by_cases hbe:b=e
 .subst hbe;exact heo
 .exact⟨u,k b u hbe q⟩
end
noncomputable def trk (h:Heap) (H:Hp):List Addr:=(List.range h.objs.size).filter λa=>(H a).isSome
noncomputable def eP (h:Heap) (H:Hp):Heap:=W.hideAll h (trk h H)
def nS(h:Heap)(H:Hp):(eP h H).objs.size=h.objs.size:=W.hideAll_size _ _
def rE(e:h.get? b=some o)(n:H b=none):(eP h H).get? b=some o:=
 W.hideAll_get _ e λhm=>by have q:(H b).isSome=true:=(List.mem_filter.mp hm).2;rw[n] at q;simp at q
def ur(e:(eP h H).get? b=some o):h.get? b=some o/\H b=none:=by
 have e':h.get? b=some o:=W.of_hideAll (trk h H) e;refine⟨e',?_⟩;cases q:H b with
 |none=>rfl
 |some x=>have hm:b∈trk h H:=List.mem_filter.mpr ⟨LC.mpr (C_ e'),by simp [q]⟩;have z:(eP h H).get? b=none:=W.hideAll_none (trk h H) hm;rw[z] at e;cases e
noncomputable def Dr (g h:Heap) (L:Addr):List (Addr×Obj):=(List.range h.objs.size).filterMap λa=>if a=L\/(g.get? a).isSome=true then none else (h.get? a).map λo=>(a,o)
noncomputable def fP (g h:Heap) (L d:Addr):List (Addr×Obj):=(Dr g h L).filter λp=>decide (p.1≠d)
structure Mod(K:W.Frag)(mg:Pa)(base:Heap):Prop where
 kin:K.In base
 glob:base.Ns mainGlobals mg
 blt:∃mb,base.Ns builtinsNs mb/\∀x:Str,x ≠ "__name__"->mb x=bootBuiltins x
 nolimit:base.NoLimit
structure Cx where
 prog:Program
 w:World
 K:W.Frag
 mg:Str->Option Value
 base:Heap
 A:Around
 N:List Str
 s₀:Shared
 H₀:Hp
 env:Env
 outer:List Env
 stack:List Env
 ex:List Addr
 fn:Str->Bool
 calm:Bool
 pn:List (Addr×Obj)
 xe:Value->Shared->Prop
noncomputable def frs (l:List Env):List Addr:=l.filterMap (·.frame)
abbrev Cx.fs(X:Cx):List Addr:=frs X.outer
def Vis(sc:Scope)(x:Str):Prop:=sc.names.lookup x=some .local\/sc.names.lookup x=some .cell\/sc.names.lookup x=some .free
def Loc(sc:Scope)(x:Str):Prop:=sc.names.lookup x=some .local\/sc.names.lookup x=some .cell
def Look(env:Env)(h:Heap)(m:Pa)(x:Str)(u:Value):Prop:=
 (env.kindOf x=some .local/\m x=some u)\/((env.kindOf x=some .cell\/env.kindOf x=some .free)/\∃c,env.cells.lookup x=some c/\h.IsCell c (some u))
structure Cx.Ok(X:Cx):Prop where
 mod:Mod X.K X.mg X.base
 kind:X.env.scope.kind=.function
 glob:X.env.globals=mainGlobals
 blt:X.env.builtins=builtinsNs
 above:X.s₀.heap.objs.size<=X.env.locals
 inj:∀x y c,X.env.cells.lookup x=some c->X.env.cells.lookup y=some c->x=y
 has:∀x,(X.env.kindOf x=some .cell\/X.env.kindOf x=some .free)->∃c,X.env.cells.lookup x=some c
 cab:∀x c,X.fn x=true->X.env.cells.lookup x=some c->X.s₀.heap.objs.size<=c
 hd:X.calm=true->X.A.handled=none
 frames:X.A.frames=some X.stack
 stk:X.stack=X.outer\/(X.stack=X.env::X.outer/\X.env.frame=some X.env.locals)
 exf:∀b∈X.ex,b≠X.env.locals/\∀x c,X.env.cells.lookup x=some c->c≠b
 bs:∀b o,X.base.get? b=some o->X.s₀.heap.get? b=some o/\X.H₀ b=none
 bsz:X.base.objs.size<=X.s₀.heap.objs.size
 noex:∀b o,X.base.get? b=some o->b∉X.ex
 exfs:∀b∈X.ex,b∉X.fs
 funs:X.s₀.heap.FunFrames X.base X.outer
 frf:∀b∈X.fs,X.H₀ b=none
structure Inv(X:Cx)(pins:Pb)(σ:List (Option V))(H:Hp)(s:Shared):Prop where
 ok:X.Ok
 os:s.os=X.s₀.os
 bare:AllBare s.gens
 base:Un X.fs X.ex X.H₀ H X.s₀.heap s.heap
 loc:∃m,s.heap.Ns X.env.locals m/\∀(i:Nat) (x:Str) (v:V),X.N[i]?=some x->σ[i]?=some (some v)->Vis X.env.scope x->∃u,RelV v u/\Look X.env s.heap m x u
 cell:∀x c,X.env.cells.lookup x=some c->∃v,s.heap.IsCell c v
 free:H X.env.locals=none
 freeC:∀x c,X.env.cells.lookup x=some c->H c=none
 pin:∀p∈X.pn++pins,s.heap.get? p.1=some p.2/\H p.1=none/\p.1≠X.env.locals/\p.1∉X.fs/\∀v,p.2.data ≠ .cell v
 hok:HOk X.prog X.w H s.heap
 len:σ.length=X.N.length
section
variable{X:Cx}{pins:Pb}{σ:List (Option V)}{H H':Hp}{s:Shared}{h':Heap}
def Cx.Ok.nofr(ok:X.Ok)(e:X.base.get? b=some o):b∉X.fs:=λhb=>by
 have:=(ok.funs.mem hb).1
 rw[e] at this;cases this
def Inv.bs(I:Inv X pins σ H s):∀b o,X.base.get? b=some o->s.heap.get? b=some o/\H b=none:=λb o e=>
 ⟨I.base.keep b o (I.ok.bs b o e).1 (I.ok.bs b o e).2 (I.ok.nofr e) (I.ok.noex b o e),I.base.free b o (I.ok.bs b o e).1 (I.ok.bs b o e).2 (I.ok.noex b o e)⟩
def Inv.bk(I:Inv X pins σ H s):∀b o,X.base.get? b=some o->s.heap.get? b=some o:=λb o e=>(I.bs b o e).1
def Inv.mod(I:Inv X pins σ H s):Mod X.K X.mg X.base:=I.ok.mod
def Inv.kIn(I:Inv X pins σ H s):X.K.In s.heap:=I.ok.mod.kin.keeps I.bk
def Inv.nolimit(I:Inv X pins σ H s):s.heap.NoLimit:=I.ok.mod.nolimit.keeps I.bk
def Inv.lt(I:Inv X pins σ H s):X.env.locals<s.heap.objs.size:=let ⟨_,hn,_⟩:=I.loc;hn.lt
def Inv.sz(I:Inv X pins σ H s):X.s₀.heap.objs.size<=s.heap.objs.size:=LU I.ok.above (NC I.lt)
def Inv.nofs(I:Inv X pins σ H s)(h:s.heap.objs.size<=a):a∉X.fs:=λhb=>by obtain⟨_,o,ho,_⟩:=I.ok.funs.mem hb;exact absurd (LA (C_ ho) (LU I.sz h)) (Mj _)
def Inv.cne(I:Inv X pins σ H s):∀x c,X.env.cells.lookup x=some c->c≠X.env.locals:=λx c e z=>by obtain⟨v,o,ho,hd⟩:=I.cell x c e;obtain⟨m,⟨o',es,ep,ho',hd',_⟩,_⟩:=I.loc;rw[z,ho'] at ho;cases ho;rw[hd'] at hd;cases hd
def Inv.funs(I:Inv X pins σ H s):s.heap.FunFrames X.base X.outer:=by
 have all:∀(l:List Env),(∀b∈frs l,b∈X.fs)->X.s₀.heap.FunFrames X.base l->s.heap.FunFrames X.base l:=by
  intro l;induction l with
  |nil=>intro _ _;trivial
  |cons env r ih=>intro hs hl;obtain⟨hk,⟨L,o,hf,hn,ho,hd⟩,hr⟩:=hl;have hL:L∈X.fs:=hs L (by unfold frs;rw[MZ,hf];exact s_);obtain⟨sl,e⟩:=I.base.slot L o ho (I.ok.frf L hL) hL λz=>I.ok.exfs L z hL;exact⟨hk,⟨L,_,hf,hn,e,hd⟩,ih (λb hb=>hs b (by unfold frs;rw[MZ,hf];exact r_ _ hb)) hr⟩
 exact all X.outer (λ_ hb=>hb) I.ok.funs
def Inv.stack(I:Inv X pins σ H s):s.heap.FunFrames X.base X.stack:=by
 rcases I.ok.stk with e |⟨e,hf⟩
 .rw[e];exact I.funs
 .rw[e];obtain⟨m,hn,_⟩:=I.loc;refine .cons (by rw[I.ok.kind];decide) hf hn ?_ I.funs;exact Og (LU I.ok.bsz I.ok.above)
def Inv.stkSub(I:Inv X pins σ H s):∀b∈frs X.stack,b∈X.env.locals::X.fs:=λb hb=>by
 rcases I.ok.stk with e |⟨e,hf⟩
 .rw[e] at hb;exact r_ _ hb
 .rw[e] at hb;unfold frs at hb;rw[MZ,hf] at hb;exact hb
def Inv.stkFree(I:Inv X pins σ H s):∀b∈frs X.stack,H b=none:=λb hb=>by
 rcases G_.mp (I.stkSub b hb) with e |hb
 .rw[e];exact I.free
 .obtain⟨_,o,ho,_⟩:=I.ok.funs.mem hb;exact I.base.free b o ho (I.ok.frf b hb) λz=>I.ok.exfs b z hb
def Inv.step{g':Array GenState}{t':Nat}{d':Drawn}{ch:List Addr}(I:Inv X pins σ H s)
 (hch:∀b∈ch,(b∈X.ex\/X.s₀.heap.objs.size<=b)/\b≠X.env.locals/\(∀x c,X.env.cells.lookup x=some c->c≠b)/\∀p∈X.pn++pins,p.1≠b)
 (keep:∀b o,b≠X.env.locals->b∉X.fs->b∉ch->s.heap.get? b=some o->H b=none->h'.get? b=some o)
 (slot:∀b o,b≠X.env.locals->b∈X.fs->b∉ch->s.heap.get? b=some o->H b=none->∃sl,h'.get? b=some { o with slots:=sl }) (free:∀b o,b∉ch->s.heap.get? b=some o->H b=none->H' b=none)
 (there:∀b o,b∉ch->s.heap.get? b=some o->∃o',h'.get? b=some o')
 (tups:∀b xs,H b=some (.tup xs)->H' b=some (.tup xs)) (frzs:∀b o u,H b=some (.frz o u)->H' b=some (.frz o u)) (tbls:∀b ps,H b=some (.tbl ps)->∃more,H' b=some (.tbl (ps++more)))
 (ns:∀m,s.heap.Ns X.env.locals m->h'.Ns X.env.locals m) (hok:HOk X.prog X.w H' h') (hg:AllBare g'):
 Inv X pins σ H' { s with heap:=h',gens:=g',drawn:=d',toks:=t' }:=by
 have neL:∀b o,X.s₀.heap.get? b=some o->b≠X.env.locals:=λb o e=>LG (LA (C_ e) I.ok.above);have neC:∀b o,X.s₀.heap.get? b=some o->b∉X.ex->b∉ch:=λb o e hx hb=>by
  rcases (hch b hb).1 with z |z
  .exact hx z
  .exact absurd (LA (C_ e) z) (Mj _)
 have cellK:∀x c,X.env.cells.lookup x=some c->∀v,s.heap.IsCell c v->h'.IsCell c v:=λx c e v ⟨o,ho,hd⟩=>by
  have nch:c∉ch:=λz=>(hch c z).2.2.1 x c e rfl;by_cases hc:c∈X.fs
  .obtain⟨sl,q⟩:=slot c o (I.cne x c e) hc nch ho (I.freeC x c e);exact⟨_,q,hd⟩
  .exact⟨o,keep c o (I.cne x c e) hc nch ho (I.freeC x c e),hd⟩
 refine⟨I.ok,I.os,hg,⟨λb o e n hb hx=>?_,λb o e n hb hx=>?_,λb o e n hx=>?_,λb o e hx=>?_,λb xs e=>tups b xs (I.base.tups b xs e),λb o xs e=>frzs b o xs (I.base.frzs b o xs e),λb ps e=>?_⟩,?_,λx c e=>?_,?_,λx c e=>?_,λp hp=>?_,hok,I.len⟩
 .exact keep b o (neL b o e) hb (neC b o e hx) (I.base.keep b o e n hb hx) (I.base.free b o e n hx)
 .obtain⟨sl,e1⟩:=I.base.slot b o e n hb hx;obtain⟨sl',e2⟩:=slot b _ (neL b o e) hb (neC b o e hx) e1 (I.base.free b o e n hx);exact⟨sl',e2⟩
 .obtain⟨o',e1⟩:=I.base.there b o e hx;exact free b o' (neC b o e hx) e1 (I.base.free b o e n hx)
 .obtain⟨o',e1⟩:=I.base.there b o e hx;exact there b o' (neC b o e hx) e1
 .obtain⟨m1,e1⟩:=I.base.tbls b ps e;obtain⟨m2,e2⟩:=tbls b _ e1;exact⟨m1++m2,by rw[e2,Array.append_assoc]⟩
 .obtain⟨m,hn,hl⟩:=I.loc;refine⟨m,ns m hn,λi x v e1 e2 e3=>?_⟩;obtain⟨u,r,l⟩:=hl i x v e1 e2 e3;refine⟨u,r,?_⟩;rcases l with l |⟨k,c,e,z⟩
  .exact .inl l
  .exact .inr ⟨k,c,e,cellK x c e _ z⟩
 .obtain⟨v,z⟩:=I.cell x c e;exact⟨v,cellK x c e v z⟩
 .obtain⟨m,⟨o,_,_,ho,_⟩,_⟩:=I.loc;exact free _ o (λz=>(hch _ z).2.1 rfl) ho I.free
 .obtain⟨v,o,ho,hd⟩:=I.cell x c e;exact free c o (λz=>(hch c z).2.2.1 x c e rfl) ho (I.freeC x c e)
 .obtain⟨e,n,ne,nf,d⟩:=I.pin p hp;have nch:p.1∉ch:=λz=>(hch p.1 z).2.2.2 p hp rfl;exact⟨keep p.1 p.2 ne nf nch e n,free p.1 p.2 nch e n,ne,nf,d⟩
def Inv.un{t':Nat}(I:Inv X pins σ H s)(u:Un X.fs [] H H' s.heap h')(hok:HOk X.prog X.w H' h'):Inv X pins σ H' { s with heap:=h',toks:=t' }:=by obtain⟨m,⟨o,es,ep,ho,r⟩,_⟩:=id I.loc;obtain⟨sl,hL⟩:=u.any ho I.free (by simp);exact I.step (g':=s.gens) (d':=s.drawn) (ch:=[]) (λ_ z=>nomatch z) (λb o _ hb _ e n=>u.keep b o e n hb (by simp)) (λb o _ hb _ e n=>u.slot b o e n hb (by simp)) (λb o _ e n=>u.free b o e n (by simp)) (λb o _ e=>u.there b o e (by simp)) u.tups u.frzs u.tbls (λm' hm=>by obtain⟨o',es',ep',ho',r'⟩:=hm;rw[ho] at ho';cases ho';exact⟨_,es',ep',hL,r'⟩) hok I.bare
def Inv.call{g':Array GenState}{t':Nat}{d':Drawn}{ch:List Addr}(I:Inv X pins σ H s)(u:Un (frs X.stack) ch H H' s.heap h')(hok:HOk X.prog X.w H' h')(hg:AllBare g')
 (hch:∀b∈ch,(b∈X.ex\/X.s₀.heap.objs.size<=b)/\b≠X.env.locals/\(∀x c,X.env.cells.lookup x=some c->c≠b)/\∀p∈X.pn++pins,p.1≠b):
 Inv X pins σ H' { s with heap:=h',gens:=g',drawn:=d',toks:=t' }:=by
 obtain⟨m,⟨o,es,ep,ho,r⟩,_⟩:=id I.loc;obtain⟨sl,hL⟩:=u.any ho I.free λz=>(hch _ z).2.1 rfl;exact I.step (ch:=ch) hch (λb o hL hb hc e n=>u.keep b o e n (λz=>(G_.mp (I.stkSub b z)).elim hL hb) hc) (λb o _ _ hc e n=>u.any e n hc) (λb o hc e n=>u.free b o e n hc) (λb o hc e=>u.there b o e hc) u.tups u.frzs u.tbls (λm' hm=>by obtain⟨o',es',ep',ho',r'⟩:=hm;rw[ho] at ho';cases ho';exact⟨_,es',ep',hL,r'⟩) hok hg
def Inv.turned{t':Nat}{it:Addr}(I:Inv X pins σ H s)(k:∀b o,b≠it->s.heap.get? b=some o->h'.get? b=some o)(hn:H it=none)(hL:it≠X.env.locals)
 (h1:it∈X.ex\/X.s₀.heap.objs.size<=it) (h2:∀x c,X.env.cells.lookup x=some c->c≠it) (h3:∀p∈X.pn++pins,p.1≠it):Inv X pins σ H { s with heap:=h',toks:=t' }:=by
 have nit:∀b u,H b=some u->b≠it:=λb u e z=>by rw[z,hn] at e;cases e
 refine I.step (g':=s.gens) (d':=s.drawn) (ch:=[it]) (λb hb=>?_) (λb o _ _ hc e _=>k b o (λz=>hc (by simp [z])) e) (λb o _ _ hc e _=>⟨o.slots,k b o (λz=>hc (by simp [z])) e⟩) (λ_ _ _ _ n=>n)
  (λb o hc e=>⟨o,k b o (λz=>hc (by simp [z])) e⟩) (λ_ _ e=>e) (λ_ _ _ e=>e) (λb ps e=>⟨#[],by rw[e];simp⟩) (λm hm=>?_) (λb u e=>?_) I.bare
 .have e:b=it:=by simpa using hb
  subst e;exact⟨h1,hL,h2,h3⟩
 .obtain⟨o,es,ep,ho,r⟩:=hm;exact⟨o,es,ep,k _ o (Ne.symm hL) ho,r⟩
 .refine (I.hok b u e).stay (λc v hc q=>k c v ?_ q) (λ_ q=>q) λ_ _ q=>q;rcases hc with z |z
  .rw[z];exact nit b u e
  .exact nit c _ z
def Inv.tok(I:Inv X pins σ H s)(t:Nat):Inv X pins σ H { s with toks:=t }:=I.un (h':=s.heap) (t':=t) Un.refl I.hok
def Inv.kept(I:Inv X pins σ H s)(k:∀b u,s.heap.get? b=some u->h'.get? b=some u):Inv X pins σ H { s with heap:=h',toks:=t' }:=I.un (Un.kept k) (I.hok.kept k)
def Inv.laid(I:Inv X pins σ H s)(k:∀b u,s.heap.get? b=some u->h'.get? b=some u)(hp:s.heap.objs.size<=a)(new:ObjOk X.prog X.w (upd H a o) h' a o):
 Inv X pins σ (upd H a o) { s with heap:=h',toks:=t' }:=I.un (Un.laid k hp (I.hok.fresh hp)) (I.hok.laid k hp new)
def Inv.write(I:Inv X pins σ H s)(mu:Mut (H x))(he:e=x\/H e=some (.own x))(k:∀b u,b≠e->s.heap.get? b=some u->h'.get? b=some u)(heo:∃u,h'.get? e=some u)
 (new:ObjOk X.prog X.w (upd H x o) h' x o):Inv X pins σ (upd H x o) { s with heap:=h',toks:=t' }:=I.un (Un.write mu he k heo) (I.hok.write mu he k heo new)
def Inv.pins_of(I:Inv X pins σ H s)(h:∀p∈pins',s.heap.get? p.1=some p.2/\H p.1=none/\p.1≠X.env.locals/\p.1∉X.fs/\∀v,p.2.data ≠ .cell v):Inv X pins' σ H s:=
 ⟨I.ok,I.os,I.bare,I.base,I.loc,I.cell,I.free,I.freeC,λp hp=>(Mm.mp hp).elim (λz=>I.pin p (My _ z)) (h p),I.hok,I.len⟩
def sy{N:List Str}(hN:N.Nodup){i j:Nat}{x:Str}(a:N[i]?=some x)(b:N[j]?=some x):i=j:=by obtain⟨h1,e1⟩:=D_.mp a;obtain⟨h2,e2⟩:=D_.mp b;exact (List.getElem_inj hN).mp (e1.trans e2.symm)
def oa(I:Inv X pins σ H s)(hN:X.N.Nodup)(hi:X.N[i]?=some x)(hx:Loc X.env.scope x)(r:RelV v u)
 (h:∀s',Inv X pins (σ.set i (some v)) H s'->(∃a,Heap.SameBut a s.heap s'.heap/\(a=X.env.locals\/X.env.cells.lookup x=some a))->Q () s') (hf:X.fn x=true\/X.env.scope.names.lookup x=some .local):wpAny M A (storeName X.env x u) Q E s:=by
 obtain⟨m,hn,hl⟩:=id I.loc;have hcls:(X.env.scope.kind == .class || (X.env.scope.kind == .module&&X.env.locals != X.env.globals))=false:=by rw[I.ok.kind];rfl
 have hiσ:i<σ.length:=by rw[I.len];exact (D_.mp hi).1
 have cne:=I.cne;have tracked:∀{a:Addr}{h':Heap},(∃o,s.heap.get? a=some o/\H a=none)->Heap.SameBut a s.heap h'->HOk X.prog X.w H h':=λ{a h'} ha hs b ob e=>by
  obtain⟨_,_,hfree⟩:=ha;refine (I.hok b ob e).stay (λc w' hc q=>(hs.2 c ?_).trans q) (λ_ q=>q) λ_ _ q=>q;rintro rfl;rcases hc with rfl |hc
  .rw[hfree] at e;cases e
  .rw[hfree] at hc;cases hc
 rcases hx with hk |hk
 .refine wpAny_storeName_local hk hn (λh' hn' hs=>?_) hcls;obtain⟨oL,_,_,hoL,_⟩:=id hn;refine h _ ⟨I.ok,I.os,I.bare,⟨λb o e n hb hx=>?_,λb o e n hb hx=>?_,I.base.free,λb o e hx=>?_,I.base.tups,I.base.frzs,I.base.tbls⟩,⟨_,hn',λj y v' e1 e2 e3=>?_⟩,λy c e=>?_,I.free,I.freeC,λp hp=>?_,tracked ⟨oL,hoL,I.free⟩ hs,by simpa using I.len⟩ ⟨_,hs,.inl rfl⟩
  .exact (hs.2 b (LG (LA (C_ e) I.ok.above))).trans (I.base.keep b o e n hb hx)
  .obtain⟨sl,e1⟩:=I.base.slot b o e n hb hx;exact⟨sl,(hs.2 b (LG (LA (C_ e) I.ok.above))).trans e1⟩
  .obtain⟨o',e1⟩:=I.base.there b o e hx;exact⟨o',(hs.2 b (LG (LA (C_ e) I.ok.above))).trans e1⟩
  .by_cases hj:j=i
   .subst hj;rw[hi] at e1;cases e1;rw[List.getElem?_set_self hiσ] at e2;cases e2;exact⟨u,r,.inl ⟨hk,by simp⟩⟩
   .rw[Oi (Ne.symm hj)] at e2;obtain⟨u',r',q⟩:=hl j y v' e1 e2 e3;refine⟨u',r',?_⟩;rcases q with ⟨k,e⟩ |⟨k,c,e,z⟩
    .refine .inl ⟨k,?_⟩;have:y≠x:=λe=>hj (sy hN e1 (e ▸ hi));simp [this,e]
    .exact .inr ⟨k,c,e,z.sameBut hs (cne y c e)⟩
  .obtain⟨w',z⟩:=I.cell y c e;exact⟨w',z.sameBut hs (cne y c e)⟩
  .obtain⟨e,n,ne,nf,d⟩:=I.pin p hp;exact⟨(hs.2 p.1 ne).trans e,n,ne,nf,d⟩
 .have hfn:X.fn x=true:=by
   rcases hf with z |z
   .exact z
   .rw[z] at hk;cases hk
  obtain⟨c,hc⟩:=I.ok.has x (.inl hk);obtain⟨w',z⟩:=I.cell x c hc;refine wpAny_storeName_cell I.ok.kind hk hc z (λh' hc' hs=>?_);obtain⟨oc,hoc,hocd⟩:=id z;refine h { s with heap:=h' } ⟨I.ok,I.os,I.bare,⟨λb o e n hb hx=>?_,λb o e n hb hx=>?_,I.base.free,λb o e hx=>?_,I.base.tups,I.base.frzs,I.base.tbls⟩,⟨m,hn.sameBut hs (Ne.symm (cne x c hc)),λj y v' e1 e2 e3=>?_⟩,λy c' e=>?_,I.free,I.freeC,λp hp=>?_,tracked ⟨oc,hoc,I.freeC x c hc⟩ hs,by simpa using I.len⟩ ⟨c,hs,.inr hc⟩
  .exact (hs.2 b (LG (LA (C_ e) (I.ok.cab x c hfn hc)))).trans (I.base.keep b o e n hb hx)
  .obtain⟨sl,e1⟩:=I.base.slot b o e n hb hx;exact⟨sl,(hs.2 b (LG (LA (C_ e) (I.ok.cab x c hfn hc)))).trans e1⟩
  .obtain⟨o',e1⟩:=I.base.there b o e hx;exact⟨o',(hs.2 b (LG (LA (C_ e) (I.ok.cab x c hfn hc)))).trans e1⟩
  .by_cases hj:j=i
   .subst hj;rw[hi] at e1;cases e1;rw[List.getElem?_set_self hiσ] at e2;cases e2;exact⟨u,r,.inr ⟨.inl hk,c,hc,hc'⟩⟩
   .rw[Oi (Ne.symm hj)] at e2;obtain⟨u',r',q⟩:=hl j y v' e1 e2 e3;refine⟨u',r',?_⟩;rcases q with q |⟨k,c',e,z'⟩
    .exact .inl q
    .refine .inr ⟨k,c',e,z'.sameBut hs ?_⟩;rintro rfl;exact hj (sy hN e1 (I.ok.inj _ _ _ e hc ▸ hi))
  .by_cases hcc:c'=c
   .subst hcc;exact⟨_,hc'⟩
   .obtain⟨w2,z2⟩:=I.cell y c' e;exact⟨w2,z2.sameBut hs hcc⟩
  .obtain⟨e,n,ne,nf,d⟩:=I.pin p hp;refine⟨(hs.2 p.1 ?_).trans e,n,ne,nf,d⟩;intro q;rw[q,hoc] at e;have q':oc=p.2:=LB e;exact d w' (by rw[<- q'];exact hocd)
def gD(I:Inv X pins σ H s)(hN:X.N.Nodup)(hi:X.N[i]?=some x)(hx:Loc X.env.scope x)(r:RelV v u)
 (h:∀s',Inv X pins (σ.set i (some v)) H s'->Q () s') (hf:X.fn x=true\/X.env.scope.names.lookup x=some .local):wpAny M A (storeName X.env x u) Q E s:=
 oa I hN hi hx r (λs' I' _=>h s' I') hf
def Inv.call'(I:Inv X pins σ H s)(ho:s'.os=s.os)(u:Un (frs X.stack) ch H H' s.heap s'.heap)(hok:HOk X.prog X.w H' s'.heap)(hg:AllBare s'.gens)
 (hch:∀b∈ch,(b∈X.ex\/X.s₀.heap.objs.size<=b)/\b≠X.env.locals/\(∀x c,X.env.cells.lookup x=some c->c≠b)/\∀p∈X.pn++pins,p.1≠b):Inv X pins σ H' s':=by
 obtain⟨h',g',d',t',o'⟩:=s';have e:o'=s.os:=ho;subst e;exact I.call (g':=g') (t':=t') (d':=d') u hok hg hch
end
abbrev XK:=Value->Option Addr->Hp->Prop
abbrev St:=List (Option V)
abbrev VK:=V->Hp->Prop
abbrev TE:=St->Hp->VK->Prop
abbrev TT:=St->Hp->(Bool->Hp->Prop)->Prop
abbrev TA:=St->Hp->(List V->Hp->Prop)->Prop
structure Ends where
 nx:St->Hp->Prop
 rt:VK
 bk:St->Hp->Prop:=λ_ _=>False
 ct:St->Hp->Prop:=λ_ _=>False
abbrev TS:=Ends->St->Hp->Prop
def EP(X:Cx)(pins:Pb)(σ:St)(Q:VK)(u:Value)(s':Shared):Prop:=∃v H',Inv X pins σ H' s'/\RelV v u/\Q v H'
def TP(X:Cx)(pins:Pb)(σ:St)(Q:Bool->Hp->Prop)(b:Bool)(s':Shared):Prop:=∃H',Inv X pins σ H' s'/\Q b H'
def AP(X:Cx)(pins:Pb)(σ:St)(Q:List V->Hp->Prop)(us:List Value)(s':Shared):Prop:=∃vs H',Inv X pins σ H' s'/\Vals vs us/\Q vs H'
def SP(X:Cx)(pins:Pb)(D:Ends)(f:Flow)(s':Shared):Prop:=
 match f with
 |.next=>∃σ' H',Inv X pins σ' H' s'/\D.nx σ' H'
 |.brk=>∃σ' H',Inv X pins σ' H' s'/\D.bk σ' H'
 |.cont=>∃σ' H',Inv X pins σ' H' s'/\D.ct σ' H'
 |.ret u=>∃v σ' H',Inv X pins σ' H' s'/\RelV v u/\D.rt v H'
def exA{α:Type}{A B C:α->Hp->Prop}{Z:Prop}(h:∃v H',A v H'/\B v H'/\C v H')(k:∀v H',A v H'->B v H'->C v H'->Z):Z:=by obtain⟨v,H',a,b,c⟩:=h;exact k v H' a b c
def PE(X:Cx)(e:Expr)(t:TE):Prop:=
 ∀(pins:Pb) (s:Shared) (σ:St) (H:Hp) (Q:VK),Inv X pins σ H s->t σ H Q->wpAny (model X.prog X.w) X.A (eval e X.env) (EP X pins σ Q) X.xe s
def PT(X:Cx)(e:Expr)(t:TT):Prop:=
 ∀(pins:Pb) (s:Shared) (σ:St) (H:Hp) (Q:Bool->Hp->Prop),Inv X pins σ H s->t σ H Q->wpAny (model X.prog X.w) X.A (isTrue e X.env (eval e X.env)) (TP X pins σ Q) X.xe s
def PW(X:Cx)(e:Expr)(t:TT):Prop:=
 ∀(e_:Sem Value) (pins:Pb) (s:Shared) (σ:St) (H:Hp) (Q:Bool->Hp->Prop),Inv X pins σ H s->t σ H Q->wpAny (model X.prog X.w) X.A (isTrue e X.env e_) (TP X pins σ Q) X.xe s
def PW.pt(h:PW X e t):PT X e t:=h _
def PA(X:Cx)(es:List Expr)(t:TA):Prop:=
 ∀(pos:Pos) (pins:Pb) (s:Shared) (σ:St) (H:Hp) (Q:List V->Hp->Prop),Inv X pins σ H s->t σ H Q->wpAny (model X.prog X.w) X.A (spliced (backTo pos (starEach es X.env))) (AP X pins σ Q) X.xe s
def PS(X:Cx)(st:Stmt)(t:TS):Prop:=
 ∀(pins:Pb) (s:Shared) (σ:St) (H:Hp) (D:Ends),Inv X pins σ H s->t D σ H->wpAny (model X.prog X.w) X.A (exec st X.env) (SP X pins D) X.xe s
def PSs(X:Cx)(st:List Stmt)(t:TS):Prop:=
 ∀(pins:Pb) (s:Shared) (σ:St) (H:Hp) (D:Ends),Inv X pins σ H s->t D σ H->wpAny (model X.prog X.w) X.A (execs st X.env) (SP X pins D) X.xe s
def thn(h:wpAny M A t Q E s)(hQ:∀a s,Q a s->Q' a s):wpAny M A t Q' E s:=LX h hQ λ_ _ x=>x
section
variable{X:Cx}
def tVar(i:Nat):TE:=λσ H Q=>∃v,σ[i]?=some (some v)/\Q v H
def tC(v:V):TE:=λ_ H Q=>Q v H
def FG(hN:X.N[i]?=some x)(hv:Vis X.env.scope x)(hd:(x==("__debug__" : Str))=false)(o_:(x==("__classdict__" : Str))=false):PE X (.Name x pos) (tVar i):=by
 intro pins s σ H Q I h;obtain⟨v,e,h⟩:=h;obtain⟨m,hn,hl⟩:=I.loc;obtain⟨u,r,l⟩:=hl i x v hN e hv;have d_:EP X pins σ Q u s:=⟨v,H,I,r,h⟩;rcases l with ⟨hk,hm⟩ |⟨hk,c,hc,m_⟩
 .exact wpAny_Name (Oy I.ok.kind hk hn hm d_) hd
 .rcases hk with hk |hk
  .exact wpAny_Name (wpAny_loadName_cell I.ok.kind hk hc m_ d_) hd
  .exact wpAny_Name (wpAny_loadName_free I.ok.kind hk hc m_ d_ o_) hd
def HU{i j pos}:PE X (.Constant (.int i) j pos) (tC (.int i)):=λ_ _ _ H _ I h=>wpAny_Constant_int ⟨.int i,H,I.tok _,⟨_,rfl⟩,h⟩
def Ll{b j pos}:PE X (.Constant (.bool b) j pos) (tC (.bl b)):=λ_ _ _ H _ I h=>Constant_bool ⟨.bl b,H,I,rfl,h⟩
def HH{j pos}:PE X (.Constant .none j pos) (tC .non):=λ_ _ _ H _ I h=>Constant_none ⟨.non,H,I,rfl,h⟩
def Im{x j pos}:PE X (.Constant (.str x) j pos) (tC (.str x)):=λ_ _ _ H _ I h=>Calls.Constant_str ⟨.str x,H,I.tok _,⟨_,rfl⟩,h⟩
def Gl(X:Cx)(x:Str):Prop:=X.env.kindOf x=some .globalImplicit
def nz(I:Inv X pins σ H s)(hg:Gl X x)(hm:X.mg x=some u)(h:Q u s)
 (hd:(x==("__debug__" : Str))=false):wpAny (model X.prog X.w) X.A (eval (.Name x pos) X.env) Q E s:=
 Calls.Name_function_global I.ok.kind hg (Calls.loadGlobal_global (by rw[I.ok.glob];exact I.mod.glob.keeps I.bk) hm h) hd
def cE(I:Inv X pins σ H s)(hg:Gl X x)(hm:X.mg x=none)(hv:bootBuiltins x=some u)(h:Q u s)
 (hn:x ≠ "__name__":=by decide) (hd:(x==("__debug__" : Str))=false:=by decide):wpAny (model X.prog X.w) X.A (eval (.Name x pos) X.env) Q E s:=by
 obtain⟨mb,h1,h2⟩:=I.mod.blt;exact Calls.Name_function_global I.ok.kind hg (Calls.loadGlobal_builtin (by rw[I.ok.glob];exact I.mod.glob.keeps I.bk) hm (by rw[I.ok.blt];exact h1.keeps I.bk) ((h2 x hn).trans hv) h) hd
def tN(hg:Gl X x)(hm:X.mg x=some u)(r:RelV v u)(hd:(x==("__debug__" : Str))=false):PE X (.Name x pos) (tC v):=
 λ_ _ _ H _ I h=>nz I hg hm ⟨v,H,I,r,h⟩ hd
def Er(hg:Gl X x)(hm:X.mg x=none)(hv:bootBuiltins x=some u)(r:RelV v u)(hn:x ≠ "__name__")(hd:(x==("__debug__" : Str))=false):PE X (.Name x pos) (tC v):=
 λ_ _ _ H _ I h=>cE I hg hm hv ⟨v,H,I,r,h⟩ hn hd
variable{a b:Expr}{ta tb:TE}{pos:Pos}
def tB(t:TE):TT:=λσ H Q=>t σ H λx H1=>∃c,x=.bl c/\Q c H1
def Iq(h:PE X e t)(he:∀e_,isTrue e X.env e_=(do let v <- e_;standAt e.pos;holding [v] (truthy v))):PT X e (tB t):=by intro pins s σ H Q I hw;refine isTrue_plain (thn (h pins s σ H _ I hw) λv s1 zz=>exA zz λx H1 I1 r1 q1=>?_) (he _);obtain⟨d,rfl,q⟩:=q1;cases r1;exact MV ⟨H1,I1,q⟩
variable{tA tB':TT}{fP:List Expr}
def tAnd(t u:TT):TT:=λσ H Q=>t σ H λc H1=>if c=true then u σ H1 Q else Q false H1
def tOr(t u:TT):TT:=λσ H Q=>t σ H λc H1=>if c=true then Q true H1 else u σ H1 Q
def tNot(t:TT):TT:=λσ H Q=>t σ H λc H1=>Q (!c) H1
def EY(ha:PT X a tA):PW X (.BoolOp .And [a] pos) tA:=by
 intro wh pins s σ H Q I h;refine isTrue_and (thn (ha pins s σ H Q I h) λc s1 e=>?_);cases c with
 |true=>exact isTrue_and_nil e
 |false=>exact e
def Hu(ha:PT X a tA):PW X (.BoolOp .Or [a] pos) tA:=by
 intro wh pins s σ H Q I h;refine isTrue_or (thn (ha pins s σ H Q I h) λc s1 e=>?_);cases c with
 |false=>exact isTrue_or_nil e
 |true=>exact e
def GI(ha:PT X a tA)(hb:PW X (.BoolOp .And (b::fP) pos) tB'):PW X (.BoolOp .And (a::b::fP) pos) (tAnd tA tB'):=by
 intro wh pins s σ H Q I h;refine isTrue_and (thn (ha pins s σ H _ I h) λc s1 ⟨H1,I1,q1⟩=>?_);cases c with
 |true=>exact hb wh pins s1 σ H1 Q I1 q1
 |false=>exact⟨H1,I1,q1⟩
def J4(ha:PT X a tA)(hb:PW X (.BoolOp .Or (b::fP) pos) tB'):PW X (.BoolOp .Or (a::b::fP) pos) (tOr tA tB'):=by
 intro wh pins s σ H Q I h;refine isTrue_or (thn (ha pins s σ H _ I h) λc s1 ⟨H1,I1,q1⟩=>?_);cases c with
 |true=>exact⟨H1,I1,q1⟩
 |false=>exact hb wh pins s1 σ H1 Q I1 q1
def IS(ha:PT X a tA):PT X (.UnaryOp .Not a pos) (tNot tA):=by intro pins s σ H Q I h;exact isTrue_not (ha pins s σ H (λc H1=>Q (!c) H1) I h)
def Kl(ta tb:TE):TE:=λσ H Q=>ta σ H λx H1=>∃c,x=.bl c/\if c=true then tb σ H1 Q else Q (.bl false) H1
def Lm(ta:TE):TE:=λσ H Q=>ta σ H λx H1=>∃c,x=.bl c/\Q (.bl (!c)) H1
def E9{op}(h:PE X a t):PE X (.BoolOp op [a] pos) t:=λpins s σ H Q I hw=>BoolOp_one (h pins s σ H Q I hw)
def GK(ha:PE X a ta)(hb:PE X (.BoolOp .And (b::fP) pos) tb):PE X (.BoolOp .And (a::b::fP) pos) (Kl ta tb):=by
 intro pins s σ H Q I h;refine BoolOp_and (thn (ha pins s σ H _ I h) λv s1 zz=>exA zz λx H1 I1 r1 q1=>?_);obtain⟨c,rfl,q1⟩:=q1;cases r1;refine MV ?_;cases c with
 |true=>exact hb pins s1 σ H1 Q I1 q1
 |false=>exact⟨.bl false,H1,I1,rfl,q1⟩
def Gd(ha:PE X a ta):PE X (.UnaryOp .Not a pos) (Lm ta):=by intro pins s σ H Q I h;refine UnaryOp_ (thn (ha pins s σ H _ I h) λv s1 zz=>exA zz λx H1 I1 r1 q1=>?_);obtain⟨c,rfl,q1⟩:=q1;cases r1;exact not_of (MV ⟨.bl (!c),H1,I1,rfl,q1⟩)
end
def SqL(K:W.Frag)(H:Hp)(a:Addr)(xs:List V):Prop:=
 Rd H a (.lst xs)\/
  ∃(o:Obj) (its:Array Value) (n:Nat),K.lookup a=some o/\o.cls=.type "list" /\ o.dict=none/\o.data=.seq its n/\its.size<=sizeLine/\Vals xs its.toList
def SqT(K:W.Frag)(H:Hp)(a:Addr)(xs:List V):Prop:=
 Rd H a (.tup xs)\/
  ∃(o:Obj) (its:Array Value) (n:Nat),K.lookup a=some o/\o.cls=.type "tuple" /\ o.data=.seq its n/\its.size<=sizeLine/\Vals xs its.toList
noncomputable def absV:Value->Option V
 |.none=>some .non
 |.bool b=>some (.bl b)
 |.int i _=>some (.int i)
 |.str x _=>some (.str x)
 |.bytes b _=>some (.byt b)
 |.float b _=>some (.flt b)
 |.ref a=>some (.ref a)
 |.type n=>some (.ty n)
 |_=>none
def RelV.abs(r:RelV x u):absV u=some x:=by
 cases x with
 |non=>cases r;rfl
 |bl _=>cases r;rfl
 |int _=>obtain⟨t,rfl⟩:=r;rfl
 |str _=>obtain⟨t,rfl⟩:=r;rfl
 |byt _=>obtain⟨t,rfl⟩:=r;rfl
 |flt _=>obtain⟨t,rfl⟩:=r;rfl
 |ref _=>cases r;rfl
 |ty _=>cases r;rfl
def RelV.inj(r:RelV x u)(q:RelV y u):x=y:=LB (r.abs.symm.trans q.abs)
def Vals.inj(r:Vals xs us)(q:Vals ys us):xs=ys:=by
 induction r generalizing ys with
 |nil=>cases q;rfl
 |
  cons r t ih=>
  cases q with
  |cons q t'=>rw[r.inj q,ih t']
section
variable{X:Cx}{pins:Pb}{σ:St}{H:Hp}{s:Shared}{a:Addr}{xs ys:List V}
def SqL.of{K:W.Frag}(h:H a=some (.lst xs)):SqL K H a xs:=.inl (.inl h)
def SqT.of{K:W.Frag}(h:H a=some (.tup xs)):SqT K H a xs:=.inl (.inl h)
def Inv.list(I:Inv X pins σ H s)(h:SqL X.K H a xs):∃its:List Value,Vals xs its/\PlainL s.heap a its.toArray/\xs.length<=sizeLine:=by
 rcases h with h |⟨o,its,n,hk,hc,hd,hs,hz,r⟩
 .obtain⟨z,its,n,r,e⟩:=h.ok I.hok;exact⟨its,r,⟨_,n,e,rfl,rfl,rfl⟩,z⟩
 .refine⟨its.toList,r,⟨o,n,I.kIn a o hk,hc,hd,by simpa using hs⟩,?_⟩;have e:=r.length;simp only[LY] at e;omega
def Inv.tuple(I:Inv X pins σ H s)(h:SqT X.K H a xs):∃its:List Value,Vals xs its/\IsTup s.heap a its.toArray/\xs.length<=sizeLine:=by
 rcases h with h |⟨o,its,n,hk,hc,hs,hz,r⟩
 .obtain⟨z,its,r,p⟩:=h.ok I.hok;exact⟨its,r,p,z⟩
 .refine⟨its.toList,r,⟨o,I.kIn a o hk,hc,n,by simpa using hs⟩,?_⟩;have e:=r.length;simp only[LY] at e;omega
def Inv.list_inj(I:Inv X pins σ H s)(h:SqL X.K H a xs)(h':SqL X.K H a ys):xs=ys:=by
 obtain⟨its,r,⟨o,n,e,_,_,d⟩,_⟩:=I.list h;obtain⟨its',r',⟨o',n',e',_,_,d'⟩,_⟩:=I.list h';rw[e] at e';cases e';rw[d] at d';injection d' with d1 _;have:its=its':=by simpa using Mb Array.toList d1
 subst this;exact r.inj r'
def Inv.tuple_inj(I:Inv X pins σ H s)(h:SqT X.K H a xs)(h':SqT X.K H a ys):xs=ys:=by
 obtain⟨its,r,⟨o,e,_,n,d⟩,_⟩:=I.tuple h;obtain⟨its',r',⟨o',e',_,n',d'⟩,_⟩:=I.tuple h';rw[e] at e';cases e';rw[d] at d';injection d' with d1 _;have:its=its':=by simpa using Mb Array.toList d1
 subst this;exact r.inj r'
end
section
variable{X:Cx}{st:Stmt}{fP:List Stmt}{t u:TS}{e:Expr}{te:TE}{pos:Pos}
def Js:TS:=λD σ H=>D.nx σ H
def tSeq(t u:TS):TS:=λD σ H=>t { D with nx:=u D } σ H
def EG:PSs X [] Js:=λ_ _ σ H _ I h=>Ox ⟨σ,H,I,h⟩
def Ap(h1:PS X st t)(h2:PSs X fP u):PSs X (st::fP) (tSeq t u):=by
 intro pins s σ H D I h;refine wpAny_execs_cons (thn (h1 pins s σ H { D with nx:=u D } I h) λf s1 q=>?_);cases f with
 |next=>obtain⟨σ',H',I',q⟩:=q;exact h2 pins s1 σ' H' D I' q
 |ret v=>exact q
 |brk=>exact q
 |cont=>exact q
def EB(h1:PS X st t):PSs X [st] t:=by
 intro pins s σ H D I h;refine wpAny_execs_cons (thn (h1 pins s σ H D I h) λf s1 q=>?_);cases f with
 |next=>exact Ox q
 |ret v=>exact q
 |brk=>exact q
 |cont=>exact q
def Inv.quiet(I:Inv X pins σ H s):interactive X.env=false:=by simp [interactive,I.ok.kind]
def Kk(te:TE):TS:=λD σ H=>te σ H λ_ H1=>D.nx σ H1
def Dj(he:PE X e te)(hs:swapsWith e none pos.line X.env=pure false):PS X (.Expr e pos) (Kk te):=by intro pins s σ H D I h;exact wpAny_Expr_any (thn (he pins s σ H _ I h) λv s1 zz=>exA zz λx H1 I1 r1 q1=>⟨σ,H1,I1,q1⟩) I.quiet hs
def tRet(te:TE):TS:=λD σ H=>te σ H D.rt
def Fz(he:PE X e te):PS X (.Return (some e) pos) (tRet te):=by intro pins s σ H D I h;exact wpAny_Return_some (thn (he pins s σ H _ I h) λv s1 zz=>exA zz λx H1 I1 r1 q1=>⟨x,σ,H1,I1,r1,q1⟩)
def JF:TS:=λD _ H=>D.rt .non H
def D4:PS X (.Return none pos) JF:=λ_ _ σ H _ I h=>wpAny_Return_none ⟨.non,σ,H,I,rfl,h⟩
def tIfS(c:TT)(t u:TS):TS:=λD σ H=>c σ H λb H1=>if b=true then t D σ H1 else u D σ H1
def KZ(hc:PT X c tc)(ha:PSs X a t)(hb:PSs X b u):PS X (.If c a b pos) (tIfS tc t u):=by
 intro pins s σ H D I h;refine wpAny_If (thn (hc pins s σ H _ I h) λd s1 ⟨H1,I1,q1⟩=>?_);cases d with
 |true=>exact ha pins s1 σ H1 D I1 q1
 |false=>exact hb pins s1 σ H1 D I1 q1
end
abbrev TG:=V->St->Hp->(St->Hp->Prop)->Prop
abbrev TGs:=List V->St->Hp->(St->Hp->Prop)->Prop
def PG(X:Cx)(target:Expr)(t:TG):Prop:=
 ∀
  (pins:Pb) (s:Shared) (σ:St) (H:Hp) (v:V) (u:Value) (Q:St->Hp->Prop),Inv X pins σ H s->RelV v u->t v σ H Q->
  wpAny (model X.prog X.w) X.A (assign target X.env u) (λ_ s'=>∃σ' H',Inv X pins σ' H' s'/\Q σ' H') X.xe s
def PGs(X:Cx)(ts:List Expr)(t:TGs):Prop:=
 ∀
  (pins:Pb) (s:Shared) (σ:St) (H:Hp) (vs:List V) (us:List Value) (Q:St->Hp->Prop),Inv X pins σ H s->Vals vs us->t vs σ H Q->
  wpAny (model X.prog X.w) X.A (assignInOrder ((assignEach ts X.env).map (·.2)) us) (λ_ s'=>∃σ' H',Inv X pins σ' H' s'/\Q σ' H') X.xe s
abbrev qM:=V->V->V->Hp->(Hp->Prop)->Prop
def wb(X:Cx)(t:qM):Prop:=
 ∀
  (pins:Pb) (s:Shared) (σ:St) (H:Hp) (o i v:V) (ov iv u:Value) (Q:Hp->Prop),Inv X pins σ H s->RelV o ov->RelV i iv->RelV v u->t o i v H Q->
  wpAny (model X.prog X.w) X.A (setItem ov iv u) (λ_ s'=>∃H',Inv X pins σ H' s'/\Q H') X.xe s
abbrev TIp:=V->V->Hp->VK->Prop
def PIp(X:Cx)(op:Operator)(t:TIp):Prop:=
 ∀
  (pins:Pb) (s:Shared) (σ:St) (H:Hp) (x y:V) (v u:Value) (Q:VK),Inv X pins σ H s->RelV x v->RelV y u->t x y H Q->
  wpAny (model X.prog X.w) X.A (inplaceOp op v u) (EP X pins σ Q) X.xe s
section
variable{X:Cx}{pos:Pos}
def o9(i:Nat):TG:=λv σ H Q=>Q (σ.set i (some v)) H
def EH(hN:X.N.Nodup)(hi:X.N[i]?=some x)(hx:Loc X.env.scope x)(hf:X.fn x=true\/X.env.scope.names.lookup x=some .local):PG X (.Name x pos) (o9 i):=by intro pins s σ H v u Q I r h;exact wpAny_assign_Name (gD I hN hi hx r (λs' I'=>⟨_,H,I',h⟩) hf)
def gNil:TGs:=λvs σ H Q=>vs=[]/\Q σ H
def K3(t:TG)(u:TGs):TGs:=λvs σ H Q=>∃v r,vs=v::r/\t v σ H λσ' H'=>u r σ' H' Q
def DL:PGs X [] gNil:=by intro pins s σ H vs us Q I r h;obtain⟨e,h⟩:=h;subst e;cases r;exact assignInOrder_nil ⟨σ,H,I,h⟩
def A6(h1:PG X e t)(h2:PGs X es u)
 (hs:(assignEach (e::es) X.env).map (·.2)=assign e X.env::(assignEach es X.env).map (·.2)):PGs X (e::es) (K3 t u):=by
 intro pins s σ H vs us Q I r h;obtain⟨v,vr,e1,h⟩:=h;subst e1;cases r with
 |cons r rr=>rw[hs];refine assignInOrder_cons (thn (h1 pins s σ H _ _ _ I r h) λ_ s1 ⟨σ1,H1,I1,q1⟩=>?_);exact h2 pins s1 σ1 H1 _ _ Q I1 rr q1
def gTup(K:W.Frag)(n:Nat)(t:TGs):TG:=λv σ H Q=>∃a xs,v=.ref a/\SqT K H a xs/\xs.length=n/\t xs σ H Q
def xu(hc:X.calm=true)(h:PGs X es t)
 (hn:(assignEach es X.env).length=n) (hst:(assignEach es X.env).findIdx? (·.1)=none):PG X (.Tuple es k pos) (gTup X.K n t):=by
 intro pins s σ H v u Q I r hw;obtain⟨a,xs,e1,hq,hl,hw⟩:=hw;subst e1;cases r;obtain⟨its,rv,ht,hz⟩:=I.tuple hq;refine assign_Tuple_tuple (I.ok.hd hc) ht (by simp [hn,<- hl,rv.length]) hst λh' hx=>?_;have I1:Inv X pins σ H { s with heap:=h' }:=I.kept (t':=s.toks) λb o e=>hx b o (LG (C_ e)) e;exact h pins _ σ H xs _ Q I1 (by simpa using rv) hw
def gSub(to ti:TE)(t:qM):TG:=λv σ H Q=>to σ H λo H1=>ti σ H1 λi H2=>t o i v H2 λH3=>Q σ H3
def Gf(ho:PE X o to)(hi:PE X i ti)(hs:wb X t)
 (ha:∀v,assign (.Subscript o i pos) X.env v=(do
  let ov <- holding [v] (eval o X.env)
  let iv <- holding [v,ov] (eval i X.env)
  standAt pos
  holding [v,ov,iv] (setItem ov iv v)
  release [v,ov,iv] [])):PG X (.Subscript o i pos) (gSub to ti t):=by
 intro pins s σ H v u Q I r h;rw[ha];refine p_ (Mx (thn (ho pins s σ H _ I h) λov s1 zz=>exA zz λx H1 I1 r1 q1=>?_));refine p_ (Mx (thn (hi pins s1 σ H1 _ I1 q1) λiv s2 zz=>exA zz λy H2 I2 r2 q2=>?_));refine p_ (Nm (p_ (Mx (thn (hs pins s2 σ H2 x y v ov iv u _ I2 r1 r2 r q2) λ_ s3 ⟨H3,I3,q3⟩=>?_))));exact wpAny_release ⟨σ,H3,I3,q3⟩
def u9(te:TE)(g:TG):TS:=λD σ H=>te σ H λx H1=>g x σ H1 D.nx
def xV(he:PE X e te)(hg:PG X tg g)(hs:swapsWithSole [tg] e pos.line X.env=pure false)(hw:swappedStores [tg] e X.env=pure none)
 (h1:(assignEach [tg] X.env).map (·.2)=[assign tg X.env]):PS X (.Assign [tg] e pos) (u9 te g):=by
 intro pins s σ H D I h;refine wpAny_Assign_stores (thn (he pins s σ H _ I h) λv s1 zz=>exA zz λx H1 I1 r1 q1=>?_) hs hw;rw[h1];exact thn (hg pins s1 σ H1 x v _ I1 r1 q1) λ_ s2 q=>q
def IE(hN:X.N.Nodup)(hi:X.N[i]?=some x)(hx:Loc X.env.scope x)(he:PE X e te)(hs:swapsWith e (some (.Name x l_)) pos.line X.env=pure false)(hf:X.fn x=true\/X.env.scope.names.lookup x=some .local):
 PS X (.Assign [.Name x l_] e pos) (u9 te (o9 i)):=by
 intro pins s σ H D I h;refine wpAny_Assign_Name (thn (he pins s σ H _ I h) λv s1 zz=>exA zz λy H1 I1 r1 q1=>?_) hs;exact gD I1 hN hi hx r1 (λs2 I2=>⟨_,H1,I2,q1⟩) hf
def tPar(i j:Nat)(ta:TA):TS:=λD σ H=>ta σ H λvs H1=>∃v w,vs=[v,w]/\D.nx ((σ.set i (some v)).set j (some w)) H1
def Fm{kt k2 pt2}(hc:X.calm=true)(hN:X.N.Nodup)(hi:X.N[i]?=some x)(hj:X.N[j]?=some y)(hij:i≠j)
 (hx:X.env.scope.names.lookup x=some .local) (hy:X.env.scope.names.lookup y=some .local) (ha:PA X [a,b] ta)
 (hw:swappedStores [.Tuple [.Name x px,.Name y py] kt pt] (.Tuple [a,b] k2 pt2) X.env=pure (some [x,y]))
 (hs:swapsWithSole [.Tuple [.Name x px,.Name y py] kt pt] (.Tuple [a,b] k2 pt2) pos.line X.env=pure false):
 PS X (.Assign [.Tuple [.Name x px,.Name y py] kt pt] (.Tuple [a,b] k2 pt2) pos) (tPar i j ta):=by
 intro pins s σ H D I h;rw[exec_Assign_arm];refine p_ (Nm ?_);rw[hs];refine p_ (B_ ?_);rw[if_neg (by decide)];refine p_ (Tuple_ (thn (ha _ pins s σ H _ I h) λus s1 zz=>exA zz λvs H1 I1 r1 q1=>?_));obtain⟨v,w,e1,q1⟩:=q1;subst e1;obtain⟨u1,u2,rfl,rv,rw'⟩:∃u1 u2,us=[u1,u2]/\RelV v u1/\RelV w u2:=by
  cases r1 with
  |
   cons p q=>
   cases q with
   |cons p' q'=>cases q';exact⟨_,_,rfl,p,p'⟩
 refine Mr ?_ (by show 2<=sizeLine;decide);have I2:Inv X pins σ H1 { s1 with heap:=s1.heap.push { cls:=.type "tuple",data:=.seq [u1,u2].toArray } }:=I1.kept (t':=s1.toks) λb o e=>t_ _ e;rw[hw];refine p_ (B_ ?_);show wpAny (model X.prog X.w) X.A (do rule "assign.swapped-stores";let items <- unpackItems (.ref s1.heap.objs.size) 2 none;assignInOrder [λv=>bindName X.env y v,λv=>bindName X.env x v] items.reverse;pure Flow.next) _ _ _;refine p_ (wpAny_rule (p_ (unpackItems_tuple (items:=#[u1,u2]) (I.ok.hd hc) (IsTup.new s1.heap _) λh' hx'=>?_)));have I3:=I2.kept (h':=h') (t':=s1.toks) λb o e=>hx' b o (LG (C_ e)) e;show wpAny _ _ (assignInOrder [λv=>bindName X.env y v,λv=>bindName X.env x v] [u2,u1] >>= λ_=>pure Flow.next) _ _ _;refine p_ (assignInOrder_cons (wpAny_bindName (gD I3 hN hj (.inl hy) rw' (λs2 I4=>?_) (.inr hy))));refine assignInOrder_cons (wpAny_bindName (gD I4 hN hi (.inl hx) rv (λs3 I5=>assignInOrder_nil (B_ ?_)) (.inr hx)));rw[List.set_comm _ _ (Ne.symm hij)] at I5;exact⟨_,H1,I5,q1⟩
def tAug(i:Nat)(te:TE)(ti:TIp):TS:=λD σ H=>∃x,σ[i]?=some (some x)/\te σ H λy H1=>ti x y H1 λz H2=>D.nx (σ.set i (some z)) H2
def I0(hN:X.N.Nodup)(hi:X.N[i]?=some x)(hx:Loc X.env.scope x)(he:PE X e te)(ho:PIp X op ti)(hf:X.fn x=true\/X.env.scope.names.lookup x=some .local):
 PS X (.AugAssign (.Name x l_) op e pos) (tAug i te ti):=by
 intro pins s σ H D I h;obtain⟨v,e1,h⟩:=h;obtain⟨m,hn,hl⟩:=I.loc;have vis:Vis X.env.scope x:=by rcases hx with k |k;exact .inl k;exact .inr (.inl k)
 obtain⟨u,r,l⟩:=hl i x v hi e1 vis;refine wpAny_AugAssign_Name ?_;have go:wpAny (model X.prog X.w) X.A (eval e X.env) (λw s₂=>wpAny (model X.prog X.w) X.A (inplaceOp op u w) (λr s₃=>wpAny (model X.prog X.w) X.A (storeName X.env x r) (λ_=>SP X pins D .next) X.xe s₃) X.xe s₂) X.xe s:=by refine thn (he pins s σ H _ I h) λw s1 zz=>exA zz λy H1 I1 r1 q1=>?_;refine thn (ho pins s1 σ H1 v y u w _ I1 r r1 q1) λz s2 zz=>exA zz λzv H2 I2 r2 q2=>?_;exact gD I2 hN hi hx r2 (λs3 I3=>⟨_,H2,I3,q2⟩) hf
 rcases l with ⟨hk,hm⟩ |⟨hk,c,hc,m_⟩
 .exact Oy I.ok.kind hk hn hm go
 .rcases hk with hk |hk
  .exact wpAny_loadName_cell I.ok.kind hk hc m_ go
  .rcases hx with k |k
   .have:X.env.scope.names.lookup x=some .free:=hk;rw[k] at this;cases this
   .have:X.env.scope.names.lookup x=some .free:=hk;rw[k] at this;cases this
def ipI(f:Int->Int->Int):TIp:=λx y H Q=>∃i j,x=.int i/\y=.int j/\Q (.int (f i j)) H
def FR:PIp X .Add (ipI λi j=>i+j):=by intro pins s σ H x y v u Q I r1 r2 h;obtain⟨i,j,e1,e2,q⟩:=h;subst e1;subst e2;obtain⟨t,rfl⟩:=r1;obtain⟨t',rfl⟩:=r2;exact iadd_int ⟨.int _,H,I.tok _,⟨_,rfl⟩,q⟩
def GW(c:TT)(tb:TS):TS:=λD σ H=>∃W:Nat->St->Hp->Prop,(∃m,W m σ H)/\∀m σ H,W m σ H->
 c σ H λb H1=>if b=true then ∃N:St->Hp->Prop,(∀σ' H',N σ' H'->∃m',m'<m/\W m' σ' H')/\tb { D with nx:=N,ct:=N,bk:=D.nx } σ H1 else D.nx σ H1
def BQ(hp:PassesOwn (model X.prog X.w) X.A X.env X.xe)(hc:PT X c tc)(hb:PSs X body tb):PS X (.While c body [] pos) (GW tc tb):=by
 intro pins s σ H D I h;obtain⟨W,⟨m0,w0⟩,turn⟩:=h;refine wpAny_While (codeAny_whileLoop (λn s'=>∃σ' H',Inv X pins σ' H' s'/\W n σ' H') ?_ m0 ⟨σ,H,I,w0⟩);rintro n s1 ⟨σ1,H1,I1,w1⟩;refine Nb hp (thn (hc pins s1 σ1 H1 _ I1 (turn n σ1 H1 w1)) λb s2 ⟨H2,I2,q2⟩=>?_);cases b with
 |
  true=>
  obtain⟨N,hN,q2⟩:=q2;rw[if_pos rfl];refine Nb hp (thn (hb pins s2 σ1 H2 _ I2 q2) λf s3 q3=>?_);cases f with
  |next=>obtain⟨σ3,H3,I3,n3⟩:=q3;obtain⟨m',hm,w3⟩:=hN σ3 H3 n3;exact⟨m',hm,σ3,H3,I3,w3⟩
  |cont=>obtain⟨σ3,H3,I3,n3⟩:=q3;obtain⟨m',hm,w3⟩:=hN σ3 H3 n3;exact⟨m',hm,σ3,H3,I3,w3⟩
  |brk=>exact q3
  |ret v=>exact q3
 |false=>rw[if_neg y_];exact Ox ⟨σ1,H2,I2,q2⟩
end
structure It where
 go:Nat->Hp->Prop
 yld:Nat->Hp->V->Hp->Prop
 stop:Nat->Hp->Prop
def FpOk(X:Cx)(pins:Pb)(H:Hp)(b:Addr):Prop:=
 H b=none/\b≠X.env.locals/\b∉X.fs/\(b∈X.ex\/X.s₀.heap.objs.size<=b)/\(∀x c,X.env.cells.lookup x=some c->c≠b)/\∀p∈X.pn++pins,p.1≠b
def Inv.fpOk(I:Inv X pins σ H s)(hb:s.heap.objs.size<=b)(hn:H' b=none):FpOk X pins H' b:=by
 refine⟨hn,ND (LA I.lt hb),I.nofs hb,.inr (LU I.sz hb),λx c e z=>?_,λp hp z=>?_⟩
 .obtain⟨v,q⟩:=I.cell x c e;exact absurd (LA q.lt (by rw[z];exact hb)) (Mj _)
 .exact absurd (LA (C_ (I.pin p hp).1) (by rw[z];exact hb)) (Mj _)
structure Turn(P:Program)(w:World)(K:W.Frag)(tg:Expr)(J:It)(fp:List Addr)(it:Addr)(tn:Nat->Heap->Prop):Prop where
 mem:it∈fp
 obj:∀i h,tn i h->∀b∈fp,∃o,h.get? b=some o/\∀v,o.data ≠ .cell v
 keep:∀i h h',tn i h->(∀b∈fp,∀o,h.get? b=some o->h'.get? b=some o)->tn i h'
 item:∀(X:Cx),X.prog=P->X.w=w->X.K=K->X.calm=true->∀(i:Nat) (pins:Pb) (s:Shared) (σ:St) (H:Hp) (E:Pc),Inv X pins σ H s->(∀b∈fp,FpOk X pins H b)->tn i s.heap->J.go i H->
  wpAny (model P w) X.A (pyNext (.ref it)) (λr s1=>∃u,r=some u/\
   wpAny (model P w) X.A (letOwnedTupleGo tg (.ref it) u) (λ_ s2=>∃x H',Inv X pins σ H' s2/\RelV x u/\J.yld i H x H'/\tn (i+1) s2.heap/\∀b∈fp,H' b=none) E s1) E s
 done:∀(X:Cx),X.prog=P->X.w=w->X.K=K->X.calm=true->∀(i:Nat) (pins:Pb) (s:Shared) (σ:St) (H:Hp) (E:Pc),Inv X pins σ H s->(∀b∈fp,FpOk X pins H b)->tn i s.heap->J.stop i H->
  wpAny (model P w) X.A (pyNext (.ref it)) (λr s1=>r=none/\Inv X pins σ H s1) E s
 self:∀(A:Around) (i:Nat) (s:Shared) (Q:Pc) (E:Pc),tn i s.heap->Q (.ref it) s->wpAny (model P w) A (pyIter (.ref it)) Q E s
abbrev TI:=St->Hp->(It->Hp->Prop)->Prop
def PIE(X:Cx)(pins:Pb)(σ:St)(tg:Expr)(R:It->Hp->Prop)(itv:Value)(s2:Shared):Prop:=
 ∃(it:Addr) (fp:List Addr) (tn:Nat->Heap->Prop) (J:It) (H':Hp),itv=.ref it/\Inv X pins σ H' s2/\Turn X.prog X.w X.K tg J fp it tn/\tn 0 s2.heap/\(∀b∈fp,FpOk X pins H' b)/\R J H'
def PI(X:Cx)(tg iter:Expr)(wi:TI):Prop:=
 ∀
  (pins:Pb) (s:Shared) (σ:St) (H:Hp) (R:It->Hp->Prop),Inv X pins σ H s->wi σ H R->
  wpAny (model X.prog X.w) X.A (eval iter X.env) (λv s1=>wpAny (model X.prog X.w) X.A (pyIter v) (PIE X pins σ tg R) X.xe s1) X.xe s
def vp(ho:s.heap.get? it=some o)(hc:o.cls=.type n)(hd:o.data=.fields vs)
 (hn:["enumerate", "zip", "dict_itemiterator", "dict_reverseitemiterator", "odict_iterator", "itertools.zip_longest", "itertools.pairwise"].contains n=false) (hQ:Q () s):wpAny M A (letOwnedTupleGo tg (.ref it) u) Q E s:=by
 unfold letOwnedTupleGo;cases tg
  <;> first
  |exact B_ hQ
  |(cases u <;> first
   |exact B_ hQ
   |(
    refine p_ (wpAny_load ho ?_);rw[hc,hd];show wpAny M A (if (["enumerate", "zip", "dict_itemiterator", "dict_reverseitemiterator", "odict_iterator", "itertools.zip_longest", "itertools.pairwise"].contains n&&vs[0]?==some (rawInt _))=true then _ else _) Q E s;rw[if_neg (by intro h;rw[hn,Bool.false_and] at h;cases h)];exact B_ hQ))
noncomputable def Itl (K:W.Frag) (a:Addr):It:=
 ⟨λi H=>∃xs x,SqL K H a xs/\xs[i]?=some x,λi H x H'=>H'=H/\∀xs,SqL K H a xs->xs[i]?=some x,λi H=>∃xs,SqL K H a xs/\xs.length<=i⟩
noncomputable def Itt (K:W.Frag) (a:Addr):It:=
 ⟨λi H=>∃xs x,SqT K H a xs/\xs[i]?=some x,λi H x H'=>H'=H/\∀xs,SqT K H a xs->xs[i]?=some x,λi H=>∃xs,SqT K H a xs/\xs.length<=i⟩
noncomputable def Itr (lo:Int) (n:Nat):It:=⟨λi _=>i<n,λi H x H'=>H'=H/\x=.int (lo+i),λi _=>n<=i⟩
def xP{P:Program}{w:World}{K:W.Frag}{tg:Expr}(a it:Addr):Turn P w K tg (Itl K a) [it] it (λi h=>h.IsListIter it a i) where
 mem:=by simp
 obj:=λi h st b hb=>by
  have e:b=it:=by simpa using hb
  subst e;obtain⟨o,e,c,d⟩:=st;exact⟨o,e,λv z=>by rw[d] at z;cases z⟩
 keep:=λi h h' st k=>st.at λo e=>k it (by simp) o e
 item:=by intro X hP hw hK hc i pins s σ H E I hf st hg;subst hP hw hK;obtain⟨xs,x,hq,hx⟩:=hg;obtain⟨its,rv,p,hz⟩:=I.list hq;obtain⟨u,hu,ru⟩:=rv.get hx;obtain⟨f0,f1,f2,f3,f4,f5⟩:=hf it (by simp);refine wpAny_pyNext_list_item st p.isList (x:=u) (by simpa using hu) λh' st' sb=>?_;have I1:Inv X pins σ H { s with heap:=h' }:=I.turned (t':=s.toks) (λb o hb e=>(sb.2 b hb).trans e) f0 f1 f3 f4 f5;obtain⟨o,e,c,d⟩:=id st';exact⟨u,rfl,vp (s:={ s with heap:=h' }) e c d (by decide) ⟨x,H,I1,ru,⟨rfl,λys hy=>by rw[I.list_inj hy hq];exact hx⟩,st',λb hb=>(hf b hb).1⟩⟩
 done:=by intro X hP hw hK hc i pins s σ H E I hf st hg;subst hP hw hK;obtain⟨xs,hq,hx⟩:=hg;obtain⟨its,rv,p,hz⟩:=I.list hq;obtain⟨f0,f1,f2,f3,f4,f5⟩:=hf it (by simp);have hl:=rv.length;exact wpAny_pyNext_list_end (I.ok.hd hc) st p.isList (by simp;omega) λh' eb=>⟨rfl,I.turned (t':=s.toks) (λb o hb e=>eb b o hb e) f0 f1 f3 f4 f5⟩
 self:=λ_ _ _ _ _ st h=>wpAny_pyIter_listiter st h
def wg{P:Program}{w:World}{K:W.Frag}{tg:Expr}(a it:Addr):Turn P w K tg (Itt K a) [it] it (λi h=>h.IsTupleIter it a i) where
 mem:=by simp
 obj:=λi h st b hb=>by
  have e:b=it:=by simpa using hb
  subst e;obtain⟨o,e,c,d⟩:=st;exact⟨o,e,λv z=>by rw[d] at z;cases z⟩
 keep:=λi h h' st k=>st.at λo e=>k it (by simp) o e
 item:=by intro X hP hw hK hc i pins s σ H E I hf st hg;subst hP hw hK;obtain⟨xs,x,hq,hx⟩:=hg;obtain⟨its,rv,p,hz⟩:=I.tuple hq;obtain⟨u,hu,ru⟩:=rv.get hx;obtain⟨f0,f1,f2,f3,f4,f5⟩:=hf it (by simp);refine wpAny_pyNext_tuple_item st (show s.heap.IsTuple a its.toArray from p) (x:=u) (by simpa using hu) λh' st' sb=>?_;have I1:Inv X pins σ H { s with heap:=h' }:=I.turned (t':=s.toks) (λb o hb e=>(sb.2 b hb).trans e) f0 f1 f3 f4 f5;obtain⟨o,e,c,d⟩:=id st';exact⟨u,rfl,vp (s:={ s with heap:=h' }) e c d (by decide) ⟨x,H,I1,ru,⟨rfl,λys hy=>by rw[I.tuple_inj hy hq];exact hx⟩,st',λb hb=>(hf b hb).1⟩⟩
 done:=by intro X hP hw hK hc i pins s σ H E I hf st hg;subst hP hw hK;obtain⟨xs,hq,hx⟩:=hg;obtain⟨its,rv,p,hz⟩:=I.tuple hq;obtain⟨f0,f1,f2,f3,f4,f5⟩:=hf it (by simp);have hl:=rv.length;exact wpAny_pyNext_tuple_end (I.ok.hd hc) st (show s.heap.IsTuple a its.toArray from p) (by simp;omega) λh' eb=>⟨rfl,I.turned (t':=s.toks) (λb o hb e=>eb b o hb e) f0 f1 f3 f4 f5⟩
 self:=λ_ _ _ _ _ st h=>wpAny_pyIter_tupleiter st h
def wA{P:Program}{w:World}{K:W.Frag}{tg:Expr}(it:Addr)(lo:Int)(n:Nat):Turn P w K tg (Itr lo n) [it] it (λi h=>IsRangeIter h it (lo+(i:Nat)*1) ((n:Int)-(i:Nat)) 1) where
 mem:=by simp
 obj
  := λi h st b hb=>by
  have e:b=it:=by simpa using hb
  subst e;exact⟨_,st,λv z=>by have z':Data.fields _=Data.cell v:=z;cases z'⟩
 keep:=λi h h' st k=>k it (by simp) _ st
 item:=by intro X hP hw hK hc i pins s σ H E I hf st hg;subst hP hw hK;obtain⟨f0,f1,f2,f3,f4,f5⟩:=hf it (by simp);have W:=Walks.range (prog:=X.prog) (w:=X.w) (I.ok.hd hc) it lo 1 n;refine W.item i s _ _ hg st λv h' tk hv st' kk=>?_;obtain⟨t,rfl⟩:=hv;have I1:Inv X pins σ H { s with heap:=h',toks:=tk }:=I.turned (λb o hb e=>kk b o (by simpa using hb) e) f0 f1 f3 f4 f5;refine⟨_,rfl,vp (s:={ s with heap:=h',toks:=tk }) (n:="range_iterator") st' rfl rfl (by decide) ⟨.int (lo+i),H,I1,⟨t,?_⟩,⟨rfl,rfl⟩,st',λb hb=>(hf b hb).1⟩⟩;rw[Int.mul_one]
 done:=by intro X hP hw hK hc i pins s σ H E I hf st hg;subst hP hw hK;obtain⟨f0,f1,f2,f3,f4,f5⟩:=hf it (by simp);exact wpAny_pyNext_range_end (I.ok.hd hc) st (by have:n<=i:=hg;omega) λh' eb=>⟨rfl,I.turned (t':=s.toks) (λb o hb e=>eb b o hb e) f0 f1 f3 f4 f5⟩
 self:=λ_ _ _ _ _ st h=>wpAny_pyIter_rangeiter st h
section
variable{X:Cx}{tg:Expr}
def pS{pins:Pb}{σ:St}{H:Hp}{s:Shared}{R:It->Hp->Prop}{E:Pc}{lo hi:Int}{t u v:Tok}{tk:Nat}(I:Inv X pins σ H s)(h1:-(2^62)<=lo)(h2:lo<2^62)(h3:-(2^62)<=hi)(h4:hi<2^62)
 (q:R (Itr lo (hi-lo).toNat) H):wpAny (model X.prog X.w) X.A (pyIter (.ref s.heap.objs.size)) (PIE X pins σ tg R) E { s with heap:=s.heap.push { cls:=.type "range",data:=.fields #[.int lo t,.int hi u,.int 1 v] },toks:=tk }:=by
 refine wpAny_pyIter_range (IsRange.new ..) (small_one h1 h2 h3 h4) ?_;have I1:Inv X pins σ H { s with heap:=s.heap.push { cls:=.type "range",data:=.fields #[.int lo t,.int hi u,.int 1 v] },toks:=tk }:=I.kept λb o e=>t_ _ e;refine⟨(s.heap.push { cls:=.type "range",data:=.fields #[.int lo t,.int hi u,.int 1 v] }).objs.size,[(s.heap.push { cls:=.type "range",data:=.fields #[.int lo t,.int hi u,.int 1 v] }).objs.size],_,_,H,rfl,
  I1.kept (t':=tk) λb o e=>t_ _ e,wA _ lo (hi-lo).toNat,?_,λb hb=>?_,q⟩
 .have e1:lo+((0:Nat):Int)*1=lo:=by simp
  have e2:(((hi-lo).toNat:Nat):Int)-((0:Nat):Int)=Builtin.Range.rangeSize lo hi 1:=by rw[OJ];split <;> omega
  show IsRangeIter _ _ (lo+((0:Nat):Int)*1) ((((hi-lo).toNat:Nat):Int)-((0:Nat):Int)) 1;rw[e1,e2];exact F_ _ rfl
 .have e:b=(s.heap.push { cls:=.type "range",data:=.fields #[.int lo t,.int hi u,.int 1 v] }).objs.size:=by simpa using hb
  subst e;exact I1.fpOk (v_ _) (I1.hok.fresh (v_ _))
def Ku(ta:TA):TI:=λσ H R=>ta σ H λvs H1=>∃j:Int,vs=[.int j]/\-(2^62)<=j/\j<2^62/\R (Itr 0 j.toNat) H1
def JA(ta:TA):TI:=λσ H R=>ta σ H λvs H1=>∃i j:Int,vs=[.int i,.int j]/\(-(2^62)<=i/\i<2^62/\-(2^62)<=j/\j<2^62)/\R (Itr i (j-i).toNat) H1
def yg(hg:Gl X "range")(hm:X.mg "range"=none)(ha:PA X [a] ta)(hs:starEach [a] X.env=[(false,eval a X.env)]):PI X tg (.Call (.Name "range" p) [a] [] pos) (Ku ta):=by
 intro pins s σ H R I h;refine Call_ (cE I hg hm boot_range (LZ (thn (ha pos pins s σ H _ I h) λus s1 zz=>exA zz λvs H1 I1 r1 q1=>?_) hs rfl));obtain⟨j,e,q1,q2,q⟩:=q1;subst e;cases r1 with
 |cons r rr=>cases rr;obtain⟨t,rfl⟩:=r;exact call_range_1 (pS I1 (by omega) (by omega) q1 q2 (by simpa using q))
def yS(hg:Gl X "range")(hm:X.mg "range"=none)(ha:PA X [a,b] ta)(hs:starEach [a,b] X.env=[(false,eval a X.env),(false,eval b X.env)])(hs2:starEach [b] X.env=[(false,eval b X.env)]):
 PI X tg (.Call (.Name "range" p) [a,b] [] pos) (JA ta):=by
 intro pins s σ H R I h;refine Call_ (cE I hg hm boot_range (LZ (thn (ha pos pins s σ H _ I h) λus s1 zz=>exA zz λvs H1 I1 r1 q1=>?_) (by rw[hs,hs2]) (by rw[hs2];rfl)));obtain⟨i,j,e,⟨q1,q2,q3,q4⟩,q⟩:=q1;subst e;cases r1 with
 |
  cons r rr=>
  cases rr with
  |cons r' rr=>cases rr;obtain⟨t,rfl⟩:=r;obtain⟨t',rfl⟩:=r';exact call_range_2 (pS I1 q1 q2 q3 q4 q)
def tFor(wi:TI)(g:TG)(tb:TS):TS:=λD σ H=>wi σ H λJ H1=>∃W:Nat->Nat->St->Hp->Prop,(∃m,W 0 m σ H1)/\∀i m σ H,W i m σ H->
 (J.stop i H/\D.nx σ H)\/(J.go i H/\∃N:St->Hp->Prop,(∀σ' H',N σ' H'->∃m',m'<m/\W (i+1) m' σ' H')/\∀x H',J.yld i H x H'->g x σ H' λσ2 H2=>tb { D with nx:=N,ct:=N,bk:=D.nx } σ2 H2)
noncomputable def jw (fp:List Addr) (h:Heap):List (Addr×Obj):=fp.filterMap λb=>(h.get? b).map λo=>(b,o)
def fZ(hb:b∈fp)(e:h.get? b=some o):(b,o)∈jw fp h:=List.mem_filterMap.mpr ⟨b,hb,by rw[e];rfl⟩
def zp(hp:p∈jw fp h):p.1∈fp/\h.get? p.1=some p.2:=by
 obtain⟨b,hb,e⟩:=List.mem_filterMap.mp hp;cases q:h.get? b with
 |none=>rw[q] at e;cases e
 |some o=>rw[q] at e;have e':(b,o)=p:=LB e;subst e';exact⟨hb,q⟩
def Inv.pinned(I:Inv X pins σ H s)(hf:∀b∈fp,FpOk X pins H b)(ho:∀b∈fp,∃o,s.heap.get? b=some o/\∀v,o.data ≠ .cell v):Inv X (pins++jw fp s.heap) σ H s:=
 I.pins_of λp hp=>(Mm.mp hp).elim (λz=>I.pin p (LJ _ z)) λz=>by obtain⟨hb,e⟩:=zp z;obtain⟨f0,f1,f2,_⟩:=hf p.1 hb;obtain⟨o,e',d⟩:=ho p.1 hb;rw[e] at e';cases e';exact⟨e,f0,f1,f2,d⟩
def Inv.unpinned(I:Inv X (pins++pl) σ H s):Inv X pins σ H s:=I.pins_of λp hp=>I.pin p (LJ _ (My _ hp))
def Hx(hp:PassesOwn (model X.prog X.w) X.A X.env X.xe)(hc:X.calm=true)(hi:PI X tg iter wi)(hg:PG X tg g)(hb:PSs X body tb)
 (hs:∀x,foldedSetIterable iter X.env x=pure x):PS X (.For tg iter body [] pos) (tFor wi g tb):=by
 intro pins s σ H D I h;refine wpAny_For (thn (hi pins s σ H _ I h) λv s1 h1=>thn h1 λitv s2 h2=>?_) hs;obtain⟨it,fp,tn,J,H2,e,I2,T,st2,f2,W,⟨m0,w0⟩,turn⟩:=h2;subst e;have stat:∀{H':Hp},(∀b∈fp,H' b=none)->∀b∈fp,FpOk X pins H' b:=λhn b hb=>⟨hn b hb,(f2 b hb).2⟩;refine codeAny_forLoop_any (λn s'=>∃i σ' H',Inv X pins σ' H' s'/\tn i s'.heap/\(∀b∈fp,H' b=none)/\W i n σ' H') ?_ m0 ⟨0,σ,H2,I2,st2,λb hb=>(f2 b hb).1,w0⟩;rintro n s3 ⟨i,σ3,H3,I3,st3,fr3,w3⟩;rcases turn i n σ3 H3 w3 with ⟨stop,qn⟩ |⟨go,N,hN,step⟩
 .refine Nb hp (thn (T.done X rfl rfl rfl hc i pins s3 σ3 H3 X.xe I3 (stat fr3) st3 stop) λr s4 ⟨hr,I4⟩=>?_);subst hr;exact Ox ⟨σ3,H3,I4,qn⟩
 .refine Nb hp (thn (T.item X rfl rfl rfl hc i pins s3 σ3 H3 X.xe I3 (stat fr3) st3 go) λr s4 ⟨u,hr,h4⟩=>?_);subst hr;refine Nb hp (thn h4 λ_ s5 ⟨x,H5,I5,r5,y5,st5,fr5⟩=>?_);have I5':=I5.pinned (stat fr5) (T.obj _ _ st5);refine Nb hp (thn (hg _ s5 σ3 H5 x u _ I5' r5 (step x H5 y5)) λ_ s6 ⟨σ6,H6,I6,q6⟩=>?_);refine Nb hp (thn (hb _ s6 σ6 H6 _ I6 q6) λf s7 q7=>?_);have again:∀{σ7:St}{H7:Hp},Inv X (pins++jw fp s5.heap) σ7 H7 s7->N σ7 H7->∃m,m<n/\∃i σ' H',Inv X pins σ' H' s7/\tn i s7.heap/\(∀b∈fp,H' b=none)/\W i m σ' H':=λ{σ7 H7} I7 n7=>by obtain⟨m',hm,w7⟩:=hN σ7 H7 n7;refine⟨m',hm,i+1,σ7,H7,I7.unpinned,T.keep _ _ _ st5 λb hb o e=>(I7.pin (b,o) (LJ _ (LJ _ (fZ hb e)))).1,λb hb=>?_,w7⟩;obtain⟨o,e,d⟩:=T.obj _ _ st5 b hb;exact (I7.pin (b,o) (LJ _ (LJ _ (fZ hb e)))).2.1
  cases f with
  |next=>obtain⟨σ7,H7,I7,n7⟩:=q7;exact again I7 n7
  |cont=>obtain⟨σ7,H7,I7,n7⟩:=q7;exact again I7 n7
  |brk=>obtain⟨σ7,H7,I7,q7⟩:=q7;exact⟨σ7,H7,I7.unpinned,q7⟩
  |ret v=>obtain⟨x7,σ7,H7,I7,r7,q7⟩:=q7;exact⟨x7,σ7,H7,I7.unpinned,r7,q7⟩
end
abbrev R2:=V->V->Hp->VK->Prop
def OpR(X:Cx)(f:Value->Value->Sem Value)(r:R2):Prop:=
 ∀
  (pins:Pb) (s:Shared) (σ:St) (H:Hp) (x y:V) (v u:Value) (Q:VK),Inv X pins σ H s->RelV x v->RelV y u->r x y H Q->
  wpAny (model X.prog X.w) X.A (f v u) (EP X pins σ Q) X.xe s
def UnR(X:Cx)(f:Value->Sem Value)(r:V->Hp->VK->Prop):Prop:=
 ∀
  (pins:Pb) (s:Shared) (σ:St) (H:Hp) (x:V) (v:Value) (Q:VK),Inv X pins σ H s->RelV x v->r x H Q->
  wpAny (model X.prog X.w) X.A (f v) (EP X pins σ Q) X.xe s
def CallR(X:Cx)(f:Value)(r:List V->Hp->VK->Prop):Prop:=
 ∀
  (pins:Pb) (s:Shared) (σ:St) (H:Hp) (xs:List V) (us:List Value) (Q:VK),Inv X pins σ H s->Vals xs us->r xs H Q->
  wpAny (model X.prog X.w) X.A (call f us) (EP X pins σ Q) X.xe s
def TruR(X:Cx)(r:V->Hp->(Bool->Hp->Prop)->Prop):Prop:=
 ∀
  (pins:Pb) (s:Shared) (σ:St) (H:Hp) (x:V) (v:Value) (Q:Bool->Hp->Prop),Inv X pins σ H s->RelV x v->r x H Q->
  wpAny (model X.prog X.w) X.A (truthy v) (TP X pins σ Q) X.xe s
def tOp(r:R2)(ta tb:TE):TE:=λσ H Q=>ta σ H λx H1=>tb σ H1 λy H2=>r x y H2 Q
def tUn(r:V->Hp->VK->Prop)(ta:TE):TE:=λσ H Q=>ta σ H λx H1=>r x H1 Q
def rI(C:Int->Int->Prop)(g:Int->Int->V):R2:=λx y H Q=>∃i j,x=.int i/\y=.int j/\C i j/\Q (g i j) H
def rI0(g:Int->Int->V):R2:=λx y H Q=>∃i j,x=.int i/\y=.int j/\Q (g i j) H
def rU(g:Int->V):V->Hp->VK->Prop:=λx H Q=>∃i,x=.int i/\Q (g i) H
section
variable{X:Cx}{a b:Expr}{ta tb:TE}{pos:Pos}
def zS(ha:PE X a ta)(hb:PE X b tb){pins:Pb}{s:Shared}{σ:St}{H:Hp}{R:V->V->Hp->Prop}(I:Inv X pins σ H s)
 (h:ta σ H λx H1=>tb σ H1 λy H2=>R x y H2) {Q:Pc}{f:Value->Value->Sem Value}
 (hf:∀v u s2 x y H2,Inv X pins σ H2 s2->RelV x v->RelV y u->R x y H2->wpAny (model X.prog X.w) X.A (f v u) Q X.xe s2):
 wpAny (model X.prog X.w) X.A (eval a X.env) (λv s₁=>wpAny (model X.prog X.w) X.A (eval b X.env) (λu s₂=>wpAny (model X.prog X.w) X.A (f v u) Q X.xe s₂) X.xe s₁) X.xe s:=by
 refine thn (ha pins s σ H _ I h) λv s1 zz=>exA zz λx H1 I1 r1 q1=>?_;refine thn (hb pins s1 σ H1 _ I1 q1) λu s2 zz=>exA zz λy H2 I2 r2 q2=>?_;exact hf v u s2 x y H2 I2 r1 r2 q2
def JK(ho:OpR X (binaryOp op) r)(ha:PE X a ta)(hb:PE X b tb):PE X (.BinOp a op b pos) (tOp r ta tb):=by intro pins s σ H Q I h;exact wpAny_BinOp (zS ha hb I h λv u s2 x y H2 I2 rx ry q=>ho pins s2 σ H2 x y v u Q I2 rx ry q)
def Kh(ho:UnR X (unaryOp op) r)(ha:PE X a ta):PE X (.UnaryOp op a pos) (tUn r ta):=by intro pins s σ H Q I h;exact UnaryOp_ (thn (ha pins s σ H _ I h) λv s1 zz=>exA zz λx H1 I1 r1 q1=>ho pins s1 σ H1 x v Q I1 r1 q1)
def opI{f:Value->Value->Sem Value}{C:Int->Int->Prop}{g:Int->Int->Int}
 (rule:∀(i j:Int) (t u:Tok) (s:Shared) (Q:Pc) (E:Pc),C i j->Q (.int (g i j) s.toks) { s with toks:=s.toks+1 }->wpAny (model X.prog X.w) X.A (f (.int i t) (.int j u)) Q E s):
 OpR X f (rI C λi j=>.int (g i j)):=by
 intro pins s σ H x y v u Q I rx ry h;obtain⟨i,j,rfl,rfl,hc,q⟩:=h;obtain⟨t,rfl⟩:=rx;obtain⟨t',rfl⟩:=ry;exact rule i j t t' s _ _ hc ⟨.int (g i j),H,I.tok _,⟨_,rfl⟩,q⟩
def opI0{f:Value->Value->Sem Value}{g:Int->Int->Int}
 (rule:∀(i j:Int) (t u:Tok) (s:Shared) (Q:Pc) (E:Pc),Q (.int (g i j) s.toks) { s with toks:=s.toks+1 }->wpAny (model X.prog X.w) X.A (f (.int i t) (.int j u)) Q E s):
 OpR X f (rI0 λi j=>.int (g i j)):=by
 intro pins s σ H x y v u Q I rx ry h;obtain⟨i,j,rfl,rfl,q⟩:=h;obtain⟨t,rfl⟩:=rx;obtain⟨t',rfl⟩:=ry;exact rule i j t t' s _ _ ⟨.int (g i j),H,I.tok _,⟨_,rfl⟩,q⟩
def vV{f:Value->Value->Sem Value}{g:Int->Int->Bool}
 (rule:∀(i j:Int) (t u:Tok) (s:Shared) (Q:Pc) (E:Pc),Q (.bool (g i j)) s->wpAny (model X.prog X.w) X.A (f (.int i t) (.int j u)) Q E s):
 OpR X f (rI0 λi j=>.bl (g i j)):=by
 intro pins s σ H x y v u Q I rx ry h;obtain⟨i,j,rfl,rfl,q⟩:=h;obtain⟨t,rfl⟩:=rx;obtain⟨t',rfl⟩:=ry;exact rule i j t t' s _ _ ⟨.bl (g i j),H,I,rfl,q⟩
def jn(i j:Int):Prop:=0<=j/\j<=1000000/\i.natAbs<2^64
def CMul(i j:Int):Prop:=(-(2^64)<i/\i<2^64)\/(-(2^64)<j/\j<2^64)
def CMul.ok(h:CMul i j):IntMulOk i j:=by
 rcases h with ⟨h1,h2⟩ |⟨h1,h2⟩
 .exact .of_left (intBits_le_64 h1 h2)
 .exact .of_right (intBits_le_64 h1 h2)
def Hv:OpR X (binaryOp .Add) (rI0 λi j=>.int (i+j)):=opI0 λ_ _ _ _ _ _ _ q=>add_int q
def HX:OpR X (binaryOp .Sub) (rI0 λi j=>.int (i-j)):=opI0 λ_ _ _ _ _ _ _ q=>sub_int q
def G1:OpR X (binaryOp .Mult) (rI CMul λi j=>.int (i*j)):=opI λ_ _ _ _ _ _ _ hc q=>mul_int q hc.ok
def DY:OpR X (binaryOp .Mod) (rI (λ_ j=>j≠0) λi j=>.int (i.fmod j)):=opI λ_ _ _ _ _ _ _ hc q=>mod_int' hc q
def Hy:OpR X (binaryOp .Pow) (rI jn λi j=>.int (i^j.toNat)):=opI λ_ _ _ _ _ _ _ hc q=>pow_int_small hc.1 hc.2.1 hc.2.2 q
def F4:OpR X (binaryOp .LShift) (rI jn λi j=>.int (i*2^j.toNat)):=opI λ_ _ _ _ _ _ _ hc q=>lshift_int_small hc.1 hc.2.1 hc.2.2 q
def unI{f:Value->Sem Value}{g:Int->Int}
 (rule:∀(i:Int) (t:Tok) (s:Shared) (Q:Pc) (E:Pc),Q (.int (g i) s.toks) { s with toks:=s.toks+1 }->wpAny (model X.prog X.w) X.A (f (.int i t)) Q E s):
 UnR X f (rU λi=>.int (g i)):=by
 intro pins s σ H x v Q I rx h;obtain⟨i,rfl,q⟩:=h;obtain⟨t,rfl⟩:=rx;exact rule i t s _ _ ⟨.int (g i),H,I.tok _,⟨_,rfl⟩,q⟩
def GZ:UnR X (unaryOp .USub) (rU λi=>.int (-i)):=unI λ_ _ _ _ _ q=>neg_int q
end
section
variable{X:Cx}{a b c:Expr}{ta tb:TE}{pos:Pos}
def yj(I:Inv X pins σ H s)(q:Q (.bl k) H)(e:k=k'):EP X pins σ Q (.bool k') s:=by subst e;exact⟨.bl k,H,I,rfl,q⟩
def Cq:OpR X (compareOp .Lt) (rI0 λi j=>.bl (decide (i<j))):=vV λ_ _ _ _ _ _ _ q=>lt_int q
def Ju:OpR X (compareOp .LtE) (rI0 λi j=>.bl (decide (i<=j))):=vV λ_ _ _ _ _ _ _ q=>le_int q
def Ca:OpR X (compareOp .Gt) (rI0 λi j=>.bl (decide (j<i))):=vV λ_ _ _ _ _ _ _ q=>gt_int q
def Cs:OpR X (compareOp .GtE) (rI0 λi j=>.bl (decide (j<=i))):=vV λ_ _ _ _ _ _ _ q=>ge_int q
def OpR.or(h:OpR X f r)(h':OpR X f r'):OpR X f (λx y H Q=>r x y H Q\/r' x y H Q):=by
 intro pins s σ H x y v u Q I rx ry q;rcases q with q |q
 .exact h pins s σ H x y v u Q I rx ry q
 .exact h' pins s σ H x y v u Q I rx ry q
def yw(b:Expr)(h:op ≠ .In:=by decide)(h2:op ≠ .NotIn:=by decide):behindInMarks op b=false:=by
 have e1:(op==CmpOp.In)=false:=by cases op <;> first |rfl |exact absurd rfl h
 have e2:(op==CmpOp.NotIn)=false:=by cases op <;> first |rfl |exact absurd rfl h2
 cases b <;> simp [behindInMarks,e1,e2]
def ET(ho:OpR X (compareOp op) r)(ha:PE X a ta)(hb:PE X b tb)(hm:behindInMarks op b=false):PE X (.Compare a [op] [b] pos) (tOp r ta tb):=by intro pins s σ H Q I h;exact wpAny_Compare1 (zS ha hb I h λv u s2 x y H2 I2 rx ry q=>ho pins s2 σ H2 x y v u Q I2 rx ry q) hm
def Ly(t:TE):TT:=λσ H Q=>t σ H λx H'=>∃k,x=.bl k/\Q k H'
def Ex(ho:OpR X (compareOp op) r)(ha:PE X a ta)(hb:PE X b tb)(hm:behindInMarks op b=false):PT X (.Compare a [op] [b] pos) (Ly (tOp r ta tb)):=by
 intro pins s σ H Q I h;refine wpAny_isTrue_Compare1 (thn (ha pins s σ H _ I h) λv s1 zz=>exA zz λx H1 I1 r1 q1=>thn (hb pins s1 σ H1 _ I1 q1) λu s2 zz=>exA zz λy H2 I2 r2 q2=>
  thn (ho pins s2 σ H2 x y v u _ I2 r1 r2 q2) λc s3 ⟨z,H3,I3,r3,k,e,q3⟩=>?_) hm
 subst e;cases r3;exact MV ⟨H3,I3,q3⟩
def Az(K:W.Frag)(x:V)(H:Hp)(k:Bool):Prop:=
 match x with
 |.non=>k=false
 |.bl b=>k=b
 |.int i=>k=(i != 0)
 |.str y=>y.length<=sizeLine/\k=((y.length:Int) != 0)
 |.byt y=>y.size<=sizeLine/\k=((y.size:Int) != 0)
 |.ref p=>(∃xs,SqL K H p xs/\k=!xs.isEmpty)\/(∃xs,SqT K H p xs/\k=!xs.isEmpty)\/∃kvs,H p=some (.dK kvs)/\k=!kvs.isEmpty
 |_=>False
def u7(r:KV kvs vs):(!vs.isEmpty)=!kvs.isEmpty:=by cases r <;> rfl
def lY(r:Vals xs its):(!its.toArray.isEmpty)=!xs.isEmpty:=by cases r <;> simp
def gH:(sizeLine:Nat)<2^63:=by rw[sizeLine_eq];decide
def HI:TruR X (λx H Q=>∃k,Az X.K x H k/\Q k H):=by
 intro pins s σ H x v Q I rx h;obtain⟨k,e,q⟩:=h;have hl:=gH;have hs:sizeLine=16777216:=sizeLine_eq;cases x with
 |non=>cases rx;have e':k=false:=e;subst e';exact truthy_none ⟨H,I,q⟩
 |bl b=>cases rx;have e':k=b:=e;subst e';exact MV ⟨H,I,q⟩
 |int i=>obtain⟨t,rfl⟩:=rx;have e':k=(i != 0):=e;subst e';exact PySem.P.truthy_int ⟨H,I,q⟩
 |str y=>obtain⟨t,rfl⟩:=rx;obtain⟨hy,e'⟩:y.length<=sizeLine/\k=((y.length:Int) != 0):=e;subst e';exact PySem.P.truthy_str (by omega) ⟨H,I.tok _,q⟩
 |byt y=>obtain⟨t,rfl⟩:=rx;obtain⟨hy,e'⟩:y.size<=sizeLine/\k=((y.size:Int) != 0):=e;subst e';exact W.truthy_bytes (by omega) ⟨H,I.tok _,q⟩
 |
  ref p=>
  cases rx;have e':(∃xs,SqL X.K H p xs/\k=!xs.isEmpty)\/(∃xs,SqT X.K H p xs/\k=!xs.isEmpty)\/∃kvs,H p=some (.dK kvs)/\k=!kvs.isEmpty:=e;rcases e' with ⟨xs,hx,e'⟩ |⟨xs,hx,e'⟩ |⟨kvs,hx,e'⟩
  .subst e';obtain⟨its,r,pl,hz⟩:=I.list hx;have b_:=r.length;exact wpAny_truthy_list pl.isList (by simp only[A_];omega) ⟨H,I.tok _,by rw[lY r];exact q⟩
  .subst e';obtain⟨its,r,pl,hz⟩:=I.tuple hx;have b_:=r.length;exact truthy_tuple pl (by simp only[A_];omega) ⟨H,I.tok _,by rw[lY r];exact q⟩
  .subst e';obtain⟨hz,hS,vs,r,m⟩:kvs.length<=sizeLine/\(p==sysModules)=false/\∃vs,KV kvs vs/\s.heap.DictOf (bQ X.prog X.w) p vs:=I.hok p _ hx;have b_:kvs.length=vs.length:=OG r;exact wpAny_truthy_dict hS m (by omega) ⟨H,I.tok _,by rw[u7 r];exact q⟩
 |_=>exact (show False from e).elim
def Bl(ha:PE X a ta)(he:∀e_,isTrue a X.env e_=(do let v <- e_;standAt a.pos;holding [v] (truthy v))):
 PT X a (λσ H Q=>ta σ H λx H'=>∃k,Az X.K x H' k/\Q k H'):=by
 intro pins s σ H Q I h;exact isTrue_plain (thn (ha pins s σ H _ I h) λv s1 zz=>exA zz λx H1 I1 r1 q1=>HI pins s1 σ H1 x v Q I1 r1 q1) (he _)
def dO(r:Vals [x] us):∃u,us=[u]/\RelV x u:=by
 cases r with
 |cons r1 r2=>cases r2;exact⟨_,rfl,r1⟩
def lD(r:Vals [x,y] us):∃u w',us=[u,w']/\RelV x u/\RelV y w':=by
 cases r with
 |
  cons r1 r2=>
  cases r2 with
  |cons r3 r4=>cases r4;exact⟨_,_,rfl,r1,r3⟩
def Aa:CallR X (.builtin "abs") (λxs H Q=>∃i,xs=[.int i]/\Q (.int (if i<0 then -i else i)) H):=by intro pins s σ H xs us Q I r h;obtain⟨i,rfl,q⟩:=h;obtain⟨u,rfl,t,rfl⟩:=dO r;exact call_abs_int λu tk=>⟨.int (if i<0 then -i else i),H,I.tok _,⟨_,rfl⟩,q⟩
def yn(hc:X.calm=true):CallR X (.builtin "max") (λxs H Q=>∃i j,xs=[.int i,.int j]/\Q (.int (if j>i then j else i)) H):=by
 intro pins s σ H xs us Q I r h;obtain⟨i,j,rfl,q⟩:=h;obtain⟨u,w',rfl,⟨t,rfl⟩,⟨t',rfl⟩⟩:=lD r;refine max_two_ints (I.ok.hd hc) λh' tk k=>⟨_,H,I.kept k,?_,q⟩;by_cases hj:j>i
 .rw[if_pos hj,if_pos hj];exact⟨_,rfl⟩
 .rw[if_neg hj,if_neg hj];exact⟨_,rfl⟩
def xF(hc:X.calm=true):CallR X (.builtin "min") (λxs H Q=>∃i j,xs=[.int i,.int j]/\Q (.int (if j<i then j else i)) H):=by
 intro pins s σ H xs us Q I r h;obtain⟨i,j,rfl,q⟩:=h;obtain⟨u,w',rfl,⟨t,rfl⟩,⟨t',rfl⟩⟩:=lD r;refine min_two_ints (I.ok.hd hc) λh' tk k=>⟨_,H,I.kept k,?_,q⟩;by_cases hj:j<i
 .rw[if_pos hj,if_pos hj];exact⟨_,rfl⟩
 .rw[if_neg hj,if_neg hj];exact⟨_,rfl⟩
def yR:CallR X (.type "int") (λxs H Q=>(∃i,xs=[.int i]/\Q (.int i) H)\/∃k,xs=[.bl k]/\Q (.int (if k then 1 else 0)) H):=by
 intro pins s σ H xs us Q I r h;rcases h with ⟨i,rfl,q⟩ |⟨k,rfl,q⟩
 .obtain⟨u,rfl,t,rfl⟩:=dO r;exact call_int_int ⟨.int i,H,I,⟨_,rfl⟩,q⟩
 .obtain⟨u,rfl,r1⟩:=dO r;cases r1;exact call_int_bool ⟨.int (if k then 1 else 0),H,I.tok _,⟨_,rfl⟩,q⟩
end
structure ObjM(h:Heap)(x dx C:Addr)(mA:Pa):Prop where
 obj:h.get? x=some (W.instObj C dx)
 ns:h.Ns1 dx mA
 ne:dx≠x
def yD{h:Heap}{dx:Addr}{mA:Pa}(n:h.Ns1 dx mA):∃od,h.get? dx=some od/\∀name,W.lookIn name od=some (mA name):=by
 obtain⟨o,es,ep,ho,hd,hk,_,hm⟩:=n;refine⟨o,ho,λname=>?_⟩;have e:=hm name;unfold nsFind findBy at e;rw[<- Array.find?_toList] at e;unfold W.lookIn;rw[hd];dsimp only;split
 .rename_i y q;rw[q] at e;exact Mb some e
 .rename_i q;rw[q] at e;have a:es.toList.any (·.refKey)=false:=by rw[List.any_eq_false];intro y hy;obtain⟨z,t,hkey⟩:=hk y (Array.mem_toList_iff.mp hy);simp [DictEntry.refKey,hkey]
  have a':¬ es.toList.any (·.refKey)=true:=by rw[a];exact y_
  rw[if_neg a'];exact Mb some e
def ObjM.look(I:ObjM h x dx C mA):∃od,W.InstAt h x (W.instObj C dx) C (some od)/\∀name,W.lookIn name od=some (mA name):=
 let ⟨od,ho,hl⟩:=yD I.ns
 ⟨od,⟨I.obj,rfl,rfl,ho⟩,hl⟩
def RelO.some_of(r:RelO (some v) o):∃u,o=some u/\RelV v u:=by
 cases o with
 |none=>exact (show False from r).elim
 |some u=>exact⟨u,rfl,r⟩
section
variable{P:Program}{w:World}{H:Hp}{h:Heap}{a C dx:Addr}{fs:List (Str×V)}
def DB(hok:HOk P w H h)(e:H a=some (.ins C dx fs)):∃mA,ObjM h a dx C mA/\(∀f,RelO (fs.lookup f) (mA f))/\PySem.Within mA (fs.map (·.1))/\fs.length<=1000/\H dx=some (.own a):=by obtain⟨d,z,ne,ob,mA,n,r,q⟩:=(show ObjOk P w H h a (.ins C dx fs) from hok a _ e);exact⟨mA,⟨ob,n,ne⟩,r,q,z,d⟩
end
structure Cls(K:W.Frag)(C:Addr):Prop where
 pg:W.plainGet K C Str.empty=true
 hd:W.hasDictIn K C=true
 po:W.plainOver K C=true
 sa:W.findIn K (.ref C) "__setattr__"=some (some (.builtin "object.__setattr__"))
def Cls.get{K:W.Frag}{C:Addr}(c:Cls K C)(f:Str):W.plainGet K C f=true:=c.pg
section
variable{H:Hp}
inductive TyOf(K:W.Frag)(H:Hp):V->Value->Prop where
 |non:TyOf K H .non (.type "NoneType")
 |bl (x:Bool):TyOf K H (.bl x) (.type "bool")
 |int (i:Int):TyOf K H (.int i) (.type "int")
 |str (x:Str):TyOf K H (.str x) (.type "str")
 |flt (x:UInt64):TyOf K H (.flt x) (.type "float")
 |lst {a:Addr}{xs:List V} (e:H a=some (.lst xs)):TyOf K H (.ref a) (.type "list")
 |frz {a:Addr}{o:Obj}{xs:List V} (e:H a=some (.frz o (.lst xs))):TyOf K H (.ref a) (.type "list")
 |tup {a:Addr}{xs:List V} (e:H a=some (.tup xs)):TyOf K H (.ref a) (.type "tuple")
 |dK {a:Addr}{kvs:List (Key×V)} (e:H a=some (.dK kvs)):TyOf K H (.ref a) (.type "dict")
 |dT {a:Addr}{kvs:List (List Key×V)} (e:H a=some (.dT kvs)):TyOf K H (.ref a) (.type "dict")
 |ins {a C dx:Addr}{fs:List (Str×V)} (e:H a=some (.ins C dx fs)) (cl:Cls K C) (ha:W.findIn K (.ref C) "__class__"=some (some (.builtin "object.__class__")))
  (hn:W.specialIn K (.builtin "object.__class__") "__get__"=some (some (.builtin "getset_descriptor.__get__"))) (htk:W.takesIn K (.builtin "object.__class__")=some true)
  (hm:W.mroIn K C (.type "object")=some true):TyOf K H (.ref a) (.ref C)
end
structure Room(k:Nat)(A:Around):Prop where
 hd:A.handled=none
 dp:A.depth+3*k+5<recursionLimit
 un:A.units+16*k+200<cLine
def Room.mono(r:Room k A)(h:j<=k):Room j A:=⟨r.hd,by have:=r.dp;omega,by have:=r.un;omega⟩
def Room.deeper(r:Room (k+1) A)(env:Env):Room k (A.deeper env):=
 ⟨r.hd,by have:=r.dp;show A.depth+1+3*k+5<_;omega,by have:=r.un;show A.units+3+16*k+200<_;omega⟩
def Room.depth(r:Room k A):A.depth<recursionLimit:=by have:=r.dp;omega
def Room.units(r:Room k A):A.units+64<cLine:=by have:=r.un;omega
def tNil:TA:=λ_ H Q=>Q [] H
def K5(ta:TE)(tr:TA):TA:=λσ H Q=>ta σ H λx H1=>tr σ H1 λxs H2=>Q (x::xs) H2
section
variable{X:Cx}{e:Expr}{es:List Expr}{te:TE}{t:TA}{pos:Pos}
def Gn:PA X [] tNil:=λ_ _ _ _ H Q I h=>Ny ⟨[],H,I,.nil,h⟩
def Df(ha:PE X e te)(hr:PA X es t)(hs:starEach (e::es) X.env=(false,eval e X.env)::starEach es X.env):PA X (e::es) (K5 te t):=by intro pos pins s σ H Q I h;rw[hs];show wpAny _ _ (spliced ((false,eval e X.env)::backTo pos (starEach es X.env))) _ _ s;refine M5 (thn (ha pins s σ H _ I h) λu s1 zz=>exA zz λx H1 I1 r1 q1=>?_);exact thn (hr pos pins s1 σ H1 _ I1 q1) λus s2 zz=>exA zz λxs H2 I2 r2 q2=>⟨x::xs,H2,I2,.cons r1 r2,q2⟩
def tTup(t:TA):TE:=λσ H Q=>t σ H λxs H1=>xs.length<=sizeLine/\∀p,H1 p=none->Q (.ref p) (upd H1 p (.tup xs))
def tLst(t:TA):TE:=λσ H Q=>t σ H λxs H1=>xs.length<=sizeLine/\∀p,H1 p=none->Q (.ref p) (upd H1 p (.lst xs))
def GX{x1}(h:PA X es t):PE X (.Tuple es x1 pos) (tTup t):=by intro pins s σ H Q I hq;refine wpAny_Tuple_spliced (thn (h pos pins s σ H _ I hq) λus s1 ⟨xs,H1,I1,r,z,q⟩=>⟨by rw[<- r.length];exact z,?_⟩);have hf:H1 s1.heap.objs.size=none:=I1.hok.fresh (v_ _);refine⟨.ref s1.heap.objs.size,upd H1 s1.heap.objs.size (.tup xs),I1.laid (t':=s1.toks) (λb u e=>t_ _ e) (v_ _) ?_,rfl,q _ hf⟩;exact⟨z,us,r,⟨_,F_ _ rfl,rfl,_,rfl⟩⟩
def Iv(h:PA X es t):PE X (.List es pos) (tLst t):=by intro pins s σ H Q I hq;refine wpAny_List_spliced (thn (h pos pins s σ H _ I hq) λus s1 ⟨xs,H1,I1,r,z,q⟩=>⟨by rw[<- r.length];exact z,?_⟩);have hf:H1 s1.heap.objs.size=none:=I1.hok.fresh (v_ _);refine⟨.ref s1.heap.objs.size,upd H1 s1.heap.objs.size (.lst xs),I1.laid (t':=s1.toks) (λb u e=>t_ _ e) (v_ _) ?_,rfl,q _ hf⟩;exact⟨z,us,0,r,F_ _ rfl⟩
end
abbrev Sp:=List V->Hp->VK->XK->Prop
abbrev CXT:=List Env->Hp->Shared->XK->Value->Shared->Prop
structure Env0(P:Program)(w:World)(K:W.Frag)(mg:Pa)(base:Heap)(A:Around)(outer:List Env)(s:Shared)(H:Hp):Prop where
 frames:A.frames=some outer
 mod:Mod K mg base
 bs:∀b o,base.get? b=some o->s.heap.get? b=some o/\H b=none
 bsz:base.objs.size<=s.heap.objs.size
 funs:s.heap.FunFrames base outer
 frf:∀b∈frs outer,H b=none
 hok:HOk P w H s.heap
 bare:AllBare s.gens
def CE(outer:List Env)(P:Program)(w:World)(H:Hp)(s:Shared)(Q:VK)(u:Value)(s':Shared):Prop:=
 ∃v H',s'.os=s.os/\AllBare s'.gens/\Un (frs outer) [] H H' s.heap s'.heap/\HOk P w H' s'.heap/\RelV v u/\Q v H'
def CR(CX:CXT)(outer:List Env)(P:Program)(w:World)(H:Hp)(s:Shared)(Q:VK)(E:XK)(r:Result)(s':Shared):Prop:=
 match r with
 |.ok (.ret u)=>CE outer P w H s Q u s'
 |.ok _=>False
 |.error e=>CX outer H s E e s'
structure FnOk(P:Program)(w:World)(K:W.Frag)(mg:Pa)(base:Heap)(CX:CXT)(k:Nat)(f:Addr)(fd:FuncData)(ps:List Str)(sp:Sp):Prop where
 len:∀vs H Q E,sp vs H Q E->vs.length=ps.length
 run:∀(A:Around) (outer:List Env) (s:Shared) (H:Hp) (args:Args) (us:List Value) (vs:List V) (Q:VK) (E:XK),Room k A->Env0 P w K mg base A outer s H->BindsTo s fd args (ps.zip us)->Vals vs us->sp vs H Q E->
  codeAny (model P w) A (.call (.ref f) args) (CR CX outer P w H s Q E) s
def FnOk.imp{P:Program}{w:World}{K:W.Frag}{mg:Pa}{base:Heap}{CX:CXT}{k:Nat}{f:Addr}{fd:FuncData}{ps:List Str}{sp sp':Sp}(F:FnOk P w K mg base CX k f fd ps sp)
 (h:∀vs H Q E,sp' vs H Q E->sp vs H Q E):FnOk P w K mg base CX k f fd ps sp':=
 ⟨λvs H Q E q=>F.len vs H Q E (h _ _ _ _ q),λA outer s H args us vs Q E hr he hb hv hs=>F.run A outer s H args us vs Q E hr he hb hv (h _ _ _ _ hs)⟩
section
variable{X:Cx}{pins:Pb}{σ:St}{H:Hp}{s s':Shared}
def Inv.env0(I:Inv X pins σ H s):Env0 X.prog X.w X.K X.mg X.base X.A X.stack s H:=
 ⟨I.ok.frames,I.ok.mod,I.bs,LU I.ok.bsz I.sz,I.stack,I.stkFree,I.hok,I.bare⟩
def Inv.after(I:Inv X pins σ H s)(h:CE X.stack X.prog X.w H s Q u s'):EP X pins σ Q u s':=by obtain⟨v,H',os,bare,un,hok,r,q⟩:=h;obtain⟨hh,g,d,t,os'⟩:=s';obtain rfl:os'=s.os:=os;exact⟨v,H',I.call (h':=hh) (g':=g) (d':=d) (t':=t) (ch:=[]) un hok bare (λb z=>absurd z (by simp)),r,q⟩
end
def Binds(K:W.Frag)(fd:FuncData)(ps:List Str)(ds:List Value):Prop:=
 ∀(s:Shared) (us:List Value),K.In s.heap->(us++ds).length=ps.length->BindsTo s fd ⟨us,[]⟩ (ps.zip (us++ds))
def Binds.all{K:W.Frag}{fd:FuncData}{ps:List Str}(h:∀us:List Value,us.length=ps.length->bindArgs fd ⟨us,[]⟩=pure (ps.zip us)):Binds K fd ps []:=λs us _ hl=>by rw[L6] at hl ⊢;exact .of_eq (h us hl)
def pO(CX:CXT)(X:Cx)(E:XK):Prop:=∀(pins:Pb) (σ:St) (H:Hp) (s:Shared) (e:Value) (s':Shared),Inv X pins σ H s->CX X.stack H s E e s'->X.xe e s'
structure FnScope(N P:List Str)(sc:Scope):Prop where
 kind:sc.kind=.function
 co:sc.isCoroutine=false
 gen:sc.isGenerator=false
 nd:N.Nodup
 pre:N.take P.length=P
 par:∀x∈P,sc.names.lookup x=some .local\/sc.names.lookup x=some .cell
 nofree:∀y∈sc.names,y.2 ≠ .free
theorem n8{kindOf:Str->Option NameKind}{x:Str}:∀{binds:List (Str×Value)}{m:Pa},(∀v,(x,v)∉binds)->bindL kindOf binds m x=m x
 | [],_,_=>rfl
 |
  (n,v)::r,m,h=>by
  unfold bindL;rw[n8 λw hw=>h w (r_ _ hw)];split
  .have:x≠n:=by rintro rfl;exact h v s_
   simp [this]
  .rfl
theorem nZ{kindOf:Str->Option NameKind}{x:Str}:∀{binds:List (Str×Value)}{m:Pa},(∀v,(x,v)∉binds)->bindC kindOf binds m x=m x
 | [],_,_=>rfl
 |
  (n,v)::r,m,h=>by
  unfold bindC;rw[nZ λw hw=>h w (r_ _ hw)];split
  .rfl
  .have:x≠n:=by rintro rfl;exact h v s_
   simp [this]
theorem nR{kindOf:Str->Option NameKind}{x:Str}{v:Value}:∀{P:List Str}{vs:List Value}{i:Nat}{m:Pa},P.Nodup->P[i]?=some x->vs[i]?=some v->kindOf x=some .local->
 bindL kindOf (P.zip vs) m x=some v
 | [],_,_,_,_,h,_,_=>by simp at h
 |_::_,[],_,_,_,_,h,_=>by simp at h
 |
  p::P,w::vs,0,m,nd,h1,h2,hk=>by
  simp at h1 h2;subst h1;subst h2;show bindL kindOf ((p,w)::P.zip vs) m p=_;unfold bindL;rw[n8 λv hv=>(Nt.mp nd).1 (NP hv).1,if_pos hk];simp
 |
  p::P,w::vs,i+1,m,nd,h1,h2,hk=>by
  show bindL kindOf ((p,w)::P.zip vs) m x=_;unfold bindL;exact nR (i:=i) (Nt.mp nd).2 (by simpa using h1) (by simpa using h2) hk
theorem nX{kindOf:Str->Option NameKind}{x:Str}{v:Value}:∀{P:List Str}{vs:List Value}{i:Nat}{m:Pa},P.Nodup->P[i]?=some x->vs[i]?=some v->kindOf x≠some .local->
 bindC kindOf (P.zip vs) m x=some v
 | [],_,_,_,_,h,_,_=>by simp at h
 |_::_,[],_,_,_,_,h,_=>by simp at h
 |
  p::P,w::vs,0,m,nd,h1,h2,hk=>by
  simp at h1 h2;subst h1;subst h2;show bindC kindOf ((p,w)::P.zip vs) m p=_;unfold bindC;rw[nZ λv hv=>(Nt.mp nd).1 (NP hv).1,if_neg hk];simp
 |
  p::P,w::vs,i+1,m,nd,h1,h2,hk=>by
  show bindC kindOf ((p,w)::P.zip vs) m x=_;unfold bindC;exact nX (i:=i) (Nt.mp nd).2 (by simpa using h1) (by simpa using h2) hk
noncomputable def fD (N:List Str) (vs:List V):St:=vs.map some++List.replicate (N.length-vs.length) none
noncomputable def dS (CX:CXT) (P:Program) (w:World) (K:W.Frag) (mg:Pa) (base:Heap) (N:List Str) (qual:Str) (scope:Scope) (f:Addr) (cd:Value) (A:Around) (outer:List Env) (s:Shared) (H:Hp) (E:XK):Cx where
 prog:=P
 w:=w
 K:=K
 mg:=mg
 base:=base
 A:=A.deeper (envOfC qual scope s.heap.objs.size f cd)
 N:=N
 s₀:=s
 H₀:=H
 env:=envOfC qual scope s.heap.objs.size f cd
 outer:=outer
 stack:=envOfC qual scope s.heap.objs.size f cd::outer
 ex:=[]
 calm:=true
 fn:=λ_=>true
 pn:=[]
 xe:=λe s'=>wpAny (model P w) (A.deeper (envOfC qual scope s.heap.objs.size f cd)) (leaving (envOfC qual scope s.heap.objs.size f cd) e) (λ_ s''=>CX outer H s E e s'') (λe' s''=>CX outer H s E e' s'') s'
def qt{sc:Scope}{n:Nat}{x:Str}(h:sc.names.lookup x=some .cell):∃c,(cellsFrom n sc.names []).lookup x=some c:=by have q:=W.cellsFrom_some sc.names n [] (.inl h);exact MR.mp q
def y9{CX:CXT}{P:Program}{w:World}{K:W.Frag}{mg:Pa}{base:Heap}{N ps:List Str}{qual:Str}{scope:Scope}{f:Addr}{cd:Value}{A:Around}{outer:List Env}{s s1:Shared}{H:Hp}{E:XK}{us:List Value}{vs:List V}
 (S:FnScope N ps scope) (hd:A.handled=none) (e0:Env0 P w K mg base A outer s H) (hl:vs.length=ps.length) (r:Vals vs us)
 (x:InCallC s s.heap.objs.size (bindL (envOfC qual scope s.heap.objs.size f cd).kindOf (ps.zip us) λ_=>none) (cellsFrom (s.heap.objs.size+1) scope.names []) (bindC (envOfC qual scope s.heap.objs.size f cd).kindOf (ps.zip us) λ_=>none) s1):
 Inv (dS CX P w K mg base N qual scope f cd A outer s H E) [] (fD N vs) H s1:=by
 have hpl:ps.length<=N.length:=by have:=Mb List.length S.pre;rw[LP] at this;omega
 obtain⟨h1,tk,rfl,hk⟩:=x.done;have noA:∀b:Addr,b∉(dS CX P w K mg base N qual scope f cd A outer s H E).ex:=λb z=>absurd (show b∈([]:List Addr) from z) (by simp);refine⟨⟨e0.mod,S.kind,rfl,rfl,v_ _,λy z c h1 h2=>?_,λy hy=>?_,λy c _ h=>?_,λ_=>hd,Around.frames_deeper e0.frames,.inr ⟨rfl,rfl⟩,λb z=>absurd z (noA b),e0.bs,e0.bsz,λb _ _=>noA b,λb z=>absurd z (noA b),e0.funs,e0.frf⟩,
  rfl,e0.bare,Un.kept hk,⟨_,x.toInCall.ns,λi y v h1 h2 h3=>?_⟩,λy c h=>⟨_,x.cell y c h⟩,e0.hok.fresh (v_ _),λy c h=>?_,λp hp=>absurd (show p∈([]:Pb) from hp) (by simp),e0.hok.kept hk,?_⟩
 .exact name_of_addr x.apart (MD h1) (MD h2)
 .have hy:scope.names.lookup y=some .cell\/scope.names.lookup y=some .free:=hy;rcases hy with hy |hy
  .exact qt hy
  .exact absurd rfl (S.nofree _ (MD hy))
 .exact NC (x.above y c (MD h))
 .have hi:i<vs.length:=by
   unfold fD at h2;by_cases hi:i<vs.length
   .exact hi
   .rw[Nd (by simpa using hi)] at h2;rw[Mz] at h2;split at h2 <;> cases h2
  have ha:vs[i]?=some v:=by
   unfold fD at h2;rw[Mc (by simpa using hi),LL] at h2;cases e:vs[i]? with
   |none=>rw[e] at h2;cases h2
   |some a=>rw[e] at h2;cases h2;rfl
  obtain⟨u,hu,rv⟩:=r.get ha;have hp:ps[i]?=some y:=by rw[<- S.pre,List.getElem?_take_of_lt (by omega)];exact h1
  have ndP:ps.Nodup:=by rw[<- S.pre];exact S.nd.sublist (List.take_sublist _ _)
  refine⟨u,rv,?_⟩;rcases S.par y (NH hp) with k |k
  .exact .inl ⟨k,nR ndP hp hu k⟩
  .obtain⟨c,e⟩:=qt (n:=s.heap.objs.size+1) k;refine .inr ⟨.inl k,c,e,?_⟩;have q:=x.cell y c e;rw[nX ndP hp hu (by show scope.names.lookup y≠_;rw[k];decide)] at q;exact q
 .exact e0.hok.fresh (NC (x.above y c (MD h)))
 .unfold fD;show _=N.length;rw[I_,q_,M9];omega
def CK{CX:CXT}{P:Program}{w:World}{K:W.Frag}{mg:Pa}{base:Heap}{k:Nat}{f:Addr}{name qual:Str}{params:Arguments}{body:List Stmt}{scope:Scope}{dV kV doc pm cdv ct oc:Value}{an od:Option Addr}
 {osl:Array (Option Value)}{N ps:List Str}{sp:Sp} (lk:K.lookup f=some ⟨oc,od,.func (W.fnOf name qual params body scope dV kV doc pm an cdv ct),osl⟩) (o_:W.codeIn K cdv qual=true) (S:FnScope N ps scope)
 (len:∀vs H Q E,sp vs H Q E->vs.length=ps.length)
 (j_:∀(A:Around) (outer:List Env) (s:Shared) (H:Hp) (vs:List V) (Q:VK) (E:XK),Room k (A.deeper (envOfC qual scope s.heap.objs.size f cdv))->sp vs H Q E->
  ∃t,PSs (dS CX P w K mg base N qual scope f cdv A outer s H E) body t/\t { nx:=λ_ H'=>Q .non H',rt:=Q } (fD N vs) H):
 FnOk P w K mg base CX (k+1) f (W.fnOf name qual params body scope dV kV doc pm an cdv ct) ps sp:=by
 refine⟨len,λA outer s H args us vs Q E hr e0 hb r hsp=>?_⟩;have hl:=len _ _ _ _ hsp;have KX:K.In s.heap:=e0.mod.kin.keeps λb o e=>(e0.bs b o e).1;have lim:s.heap.NoLimit:=e0.mod.nolimit.keeps λb o e=>(e0.bs b o e).1;have hkind:∀y∈ps.zip us,scope.names.lookup y.1=some .local\/(scope.names.lookup y.1=some .cell/\((cellsFrom (s.heap.objs.size+1) scope.names []).lookup y.1).isSome=true):=λ⟨n,v⟩ hy=>by
  rcases S.par n (NP hy).1 with q |q
  .exact .inl q
  .exact .inr ⟨q,W.cellsFrom_some _ _ _ (.inl q)⟩
 refine codeAny_call_function hr.depth (KX _ _ lk) rfl S.co S.gen rfl (W.codeRec_of KX o_) (hb _ _ _ _ ?_);refine wpAny_newFunctionEnv_cells S.kind hkind λenv he s1 x=>?_;subst he;refine⟨lim.keeps x.toInCall.keep,codeAny_func ?_⟩;obtain⟨t,ht,hq⟩:=j_ A outer s H vs Q E (hr.deeper _) hsp;have I:Inv (dS CX P w K mg base N qual scope f cdv A outer s H E) [] (fD N vs) H s1:=y9 S hr.hd e0 hl r x;refine LX (ht [] s1 (fD N vs) H _ I hq) (λfl s' hs=>?_) λe s' hs=>hs;have d_:∀{σ':St}{H':Hp}{v:V}{u:Value},Inv (dS CX P w K mg base N qual scope f cdv A outer s H E) [] σ' H' s'->RelV v u->Q v H'->CE outer P w H s Q u s':=
  λ{σ' H' v u} J rv q=>⟨v,H',J.os,J.bare,J.base,J.hok,rv,q⟩
 cases fl with
 |ret u=>obtain⟨v,σ',H',J,rv,q⟩:=hs;exact d_ J rv q
 |next=>obtain⟨σ',H',J,q⟩:=hs;exact d_ (v:=V.non) (u:=Value.none) J rfl q
 |brk=>obtain⟨_,_,_,q⟩:=hs;exact False.elim q
 |cont=>obtain⟨_,_,_,q⟩:=hs;exact False.elim q
section
variable{X:Cx}{x:Str}{p pos:Pos}{e:Expr}{es:List Expr}{t:TA}{id T:String}{r:List V->Hp->VK->Prop}
def tCB(r:List V->Hp->VK->Prop)(t:TA):TE:=λσ H Q=>t σ H λvs H1=>r vs H1 Q
def BK(hc:CallR X (.builtin id) r)(hg:Gl X x)(hm:X.mg x=none)(hv:bootBuiltins x=some (.builtin id))(ha:PA X (e::es) t)(hn:x ≠ "__name__")(hdb:(x==("__debug__" : Str))=false)
 (he:starEach (e::es) X.env=(false,eval e X.env)::starEach es X.env) (hpl:(backTo pos (starEach es X.env)).any (·.1)=false):PE X (.Call (.Name x p) (e::es) [] pos) (tCB r t):=by
 intro pins s σ H Q I h;refine Md (cE I hg hm hv ?_ hn hdb);exact PyProof.Rows.callWith_builtin1 (thn (ha pos pins s σ H _ I h) λus s1 zz=>exA zz λvs H1 I1 r1 q1=>hc pins s1 σ H1 vs us Q I1 r1 q1) he hpl
def yL(hc:CallR X (.type T) r)(hg:Gl X x)(hm:X.mg x=none)(hv:bootBuiltins x=some (.type T))(ha:PA X (e::es) t)(hn:x ≠ "__name__")(hdb:(x==("__debug__" : Str))=false)
 (he:starEach (e::es) X.env=(false,eval e X.env)::starEach es X.env) (hpl:(backTo pos (starEach es X.env)).any (·.1)=false):PE X (.Call (.Name x p) (e::es) [] pos) (tCB r t):=by
 intro pins s σ H Q I h;refine Md (cE I hg hm hv ?_ hn hdb);exact LZ (thn (ha pos pins s σ H _ I h) λus s1 zz=>exA zz λvs H1 I1 r1 q1=>hc pins s1 σ H1 vs us Q I1 r1 q1) he hpl
def vc(hc:CallR X (.type T) r)(hg:Gl X x)(hm:X.mg x=none)(hv:bootBuiltins x=some (.type T))(hn:x ≠ "__name__")(hdb:(x==("__debug__" : Str))=false):
 PE X (.Call (.Name x p) [] [] pos) (tCB r tNil):=by
 intro pins s σ H Q I h;refine Md (cE I hg hm hv ?_ hn hdb);exact PyProof.Rows.callWith_type0 (hc pins s σ H [] [] Q I .nil h)
end
end L2
namespace HT
open PySem PyProof.Rows
section
variable{prog:Program}{w:World}{A:Around}{E:Pc}{s:Shared}
def cat_tup(ht:IsTup s.heap t vs.toArray)(hb:IsTup s.heap b ws.toArray)(hv:vs≠[])
 (h1:ws=[]->Q (.ref t) s) (h2:ws≠[]->Q (.ref s.heap.objs.size) { s with heap:=s.heap.push { cls:=.type "tuple",data:=.seq (vs++ws).toArray } })
 (hsz:vs.length+ws.length<=sizeLine):wpAny (model prog w) A (binaryOp .Add (.ref t) (.ref b)) Q E s:=by
 obtain⟨⟨cls,dd,data,sl⟩,ho,hc,n,hd⟩:=id ht;obtain⟨⟨cls2,dd2,data2,sl2⟩,ho2,hc2,n2,hd2⟩:=id hb;simp only at hc hd hc2 hd2;subst hc hd hc2 hd2;have e:vs.toArray++ws.toArray=(vs++ws).toArray:=by simp
 by_cases hw:ws=[]
 .exact concat_meets ⟨_,ho,rfl⟩ ⟨_,ho2,rfl⟩ noFill_tuple_add seq_tuple_add N3 NV (NT _ _)
   (tuple_addW1 t b vs.toArray ws.toArray n n2 dd dd2 sl sl2 (by simpa using hv) (by simp [hw])) ⟨ho,ho2,h1 hw⟩
 .refine concat_meets ⟨_,ho,rfl⟩ ⟨_,ho2,rfl⟩ noFill_tuple_add seq_tuple_add N3 NV (NT _ _)
   (tuple_addW2 t b vs.toArray ws.toArray n n2 dd dd2 sl sl2 (by simpa using hv) (by simpa using hw) (by rw[A_,A_];exact hsz)) ⟨ho,ho2,?_⟩
  rw[e];exact h2 hw
noncomputable def sIx (n d:Nat):Option Int->Nat
 |none=>d
 |some v=>if v<0 then (v+(n:Int)).toNat else min v.toNat n
def sIx_none(n d:Nat):sIx n d none=d:=rfl
def sIx_nat(n d k:Nat):sIx n d (some (k:Int))=min k n:=by show (if (k:Int)<0 then ((k:Int)+(n:Int)).toNat else min (k:Int).toNat n)=min k n;rw[if_neg (by omega),Mh]
def Fp(n d:Nat)(hd:d<=n)(o:Option Int):sIx n d o<=n:=by
 cases o with
 |none=>exact hd
 |
  some v=>
  show (if v<0 then (v+(n:Int)).toNat else min v.toNat n)<=n;by_cases hv:v<0
  .rw[if_pos hv];omega
  .rw[if_neg hv];exact Nat.min_le_right _ _
def tU(v:Int)(n d:Nat):(if v<0 then max (v+(n:Int)) 0 else min v (n:Int))=((sIx n d (some v):Nat):Int):=by
 show (if v<0 then max (v+(n:Int)) 0 else min v (n:Int))=(((if v<0 then (v+(n:Int)).toNat else min v.toNat n):Nat):Int);by_cases hv:v<0
 .simp only[if_pos hv];omega
 .simp only[if_neg hv];omega
def vS(lo hi:Option Int)(n:Nat):Builtin.Slice.sliceAdjust lo hi 1 (n:Int)=(((sIx n 0 lo:Nat):Int),((sIx n n hi:Nat):Int)):=by
 have h1:¬ ((1:Int)<0):=by omega
 unfold Builtin.Slice.sliceAdjust;simp only[h1,Oe];refine Prod.ext ?_ ?_
 .cases lo with
  |none=>rfl
  |some v=>exact tU v n 0
 .cases hi with
  |none=>rfl
  |some v=>exact tU v n n
def vx(i j:Nat):Builtin.Slice.slicePlaces (i:Int) (j:Int) 1=j-i:=by
 unfold Builtin.Slice.slicePlaces;have h1:(1:Int)>0:=by omega
 simp only[h1,NG,Int.ediv_one];split <;> omega
def lP(p:IsPart v o)(h:Q o s):wpAny (model prog w) A (Builtin.Slice.slicePartIndex v) Q E s:=by
 cases p with
 |none=>exact slicePart_none h
 |int i t=>exact slicePart_int h
def kG{sl:Addr}{vl vu:Value}{lo hi:Option Int}{n:Nat}{Q:Int×Int×Nat->Shared->Prop}(hs:s.heap.IsSliceOf sl vl vu .none)(pl:IsPart vl lo)(pu:IsPart vu hi)
 (h:Q (((sIx n 0 lo:Nat):Int),1,sIx n n hi-sIx n 0 lo) s):wpAny (model prog w) A (Builtin.Slice.sliceApplied (.ref sl) (pure (n:Int))) Q E s:=by
 obtain⟨os,hos,hcs,hds⟩:=id hs;unfold Builtin.Slice.sliceApplied Builtin.Slice.sliceFields;refine p_ (p_ (Mn hos hds (x:=vl) rfl (p_ (Mn hos hds (x:=vu) rfl (p_ (Mn hos hds (x:=.none) rfl (B_ ?_)))))));refine p_ (slicePart_none ?_);show wpAny _ _ (if ((1:Int)==0)=true then _ else _) _ _ s;rw[if_neg (by decide)];refine p_ (lP pl (p_ (lP pu (p_ (B_ ?_)))));show wpAny _ _ (match Builtin.Slice.sliceAdjust lo hi 1 (n:Int) with |(lo,hi)=>pure (lo,(1:Int),Builtin.Slice.slicePlaces lo hi 1)) _ _ s;rw[vS lo hi n];show wpAny _ _ (pure (((sIx n 0 lo:Nat):Int),(1:Int),Builtin.Slice.slicePlaces ((sIx n 0 lo:Nat):Int) ((sIx n n hi:Nat):Int) 1)) _ _ s;rw[vx];exact B_ h
def BY(xs:Array Value)(i k:Nat):((List.range k).filterMap λ(m:Nat)=>xs[((i:Int)+(m:Int)*1).toNat]?).toArray=((xs.toList.drop i).take k).toArray:=by
 have e:(λ(m:Nat)=>xs[((i:Int)+(m:Int)*1).toNat]?)=λm=>xs[i+m]?:=by
  funext m;have:((i:Int)+(m:Int)*1).toNat=i+m:=by omega
  rw[this]
 rw[e]
 have:=pick_run xs i k
 rw[List.filterMap_map] at this;have e2:((λx=>xs[x]?) ∘ λx=>i+x)=λm=>xs[i+m]?:=rfl;rw[e2] at this;rw[this]
def getItem_tuple_cut{t sl:Addr}{items:Array Value}{vl vu:Value}{lo hi:Option Int}{Q:Pc}(ht:IsTup s.heap t items)(hs:s.heap.IsSliceOf sl vl vu .none)(pl:IsPart vl lo)(pu:IsPart vu hi)
 (hw:¬ (sIx items.size 0 lo=0/\sIx items.size items.size hi=items.size))
 (h:Q (.ref s.heap.objs.size) { s with heap:=s.heap.push { cls:=.type "tuple",data:=.seq ((items.toList.drop (sIx items.size 0 lo)).take (sIx items.size items.size hi-sIx items.size 0 lo)).toArray } })
 (hsz:items.size<=sizeLine):wpAny (model prog w) A (getItem (.ref t) (.ref sl)) Q E s:=by
 have htake:sizeOk (.seq ((items.toList.drop (sIx items.size 0 lo)).take (sIx items.size items.size hi-sIx items.size 0 lo)).toArray):=by show ((items.toList.drop (sIx items.size 0 lo)).take (sIx items.size items.size hi-sIx items.size 0 lo)).toArray.size<=sizeLine;rw[A_,LP,LR,LY];omega
 have hj:sIx items.size items.size hi<=items.size:=Fp _ _ (v_ _) hi;obtain⟨os,hos,hcs,hds⟩:=id hs;have hTs:s.TypeIs (.ref sl) "slice":=⟨os,hos,hcs⟩;unfold getItem;try with_reducible refine Mx ?_
 first |refine p_ (B_ ?_) |skip
 refine p_ (wpAny_sequenceKey ht.typeIs (by decide) ?_);refine p_ (MX (name:=Str.ofString "__getitem__") ht.typeIs PyProof.Rows.slot_tuple_getitem
  (NI PyProof.Rows.slot_tuple_getitem ht.typeIs entry_tuple_getitem ?_ (args_tuple_getitem _ _)))
 show wpAny _ _ (Builtin.Tuple.tupleItemsOf (.ref t) >>= _) _ _ s;refine p_ (tupleItemsOf_ ht ?_);refine p_ (wpAny_typeOf hTs ?_);rw[if_pos (by decide)];refine p_ (kG hs pl pu ?_);have hno:¬ ((((sIx items.size 0 lo:Nat):Int)==0&&(1:Int)==1&&(sIx items.size items.size hi-sIx items.size 0 lo)==items.size)=true):=by intro q;rw[w_,w_] at q;have q1:((sIx items.size 0 lo:Nat):Int)=0:=eq_of_beq q.1.1;have q2:sIx items.size items.size hi-sIx items.size 0 lo=items.size:=eq_of_beq q.2;exact hw ⟨by omega,by omega⟩
 show wpAny _ _ (if (((sIx items.size 0 lo:Nat):Int)==0&&(1:Int)==1&&(sIx items.size items.size hi-sIx items.size 0 lo)==items.size)=true then _ else _) _ _ s;rw[if_neg hno,BY];first
  |exact p_ (m:=Builtin.Tuple.tupleExact _) (Mr (B_ ⟨_,rfl,B_ h⟩) htake)
  |exact p_ (m:=Builtin.Tuple.tupleExact _) (Mr (p_ (B_ (B_ ⟨_,rfl,B_ h⟩))) htake)
  |exact p_ (p_ (m:=Builtin.Tuple.tupleExact _) (Mr (B_ (B_ ⟨_,rfl,B_ h⟩)) htake))
  |exact p_ (p_ (m:=Builtin.Tuple.tupleExact _) (Mr (B_ ⟨_,rfl,B_ h⟩) htake))
end
end HT
namespace L2
open PySem PySem.Spec PyProof.Rows
abbrev TO:=St->Hp->(Option Int->Hp->Prop)->Prop
def PO(X:Cx)(e:Option Expr)(t:TO):Prop:=
 ∀
  (pins:Pb) (s:Shared) (σ:St) (H:Hp) (Q:Option Int->Hp->Prop),Inv X pins σ H s->t σ H Q->
  wpAny (model X.prog X.w) X.A (evalPart e X.env) (λu s'=>∃o H',Inv X pins σ H' s'/\IsPart u o/\Q o H') X.xe s
def DP:TO:=λ_ H Q=>Q none H
def Le(t:TE):TO:=λσ H Q=>t σ H λx H1=>∃i,x=.int i/\Q (some i) H1
section
variable{X:Cx}{e:Expr}{te:TE}{lo hi:Option Expr}{tl th:TO}{pos p2:Pos}
def ER:PO X none DP:=by intro pins s σ H Q I h;rw[evalPart_none];exact B_ ⟨none,H,I,.none,h⟩
def Ec(h:PE X e te):PO X (some e) (Le te):=by intro pins s σ H Q I hw;rw[evalPart_some];refine thn (h pins s σ H _ I hw) λu s1 zz=>exA zz λx H1 I1 r1 q1=>?_;obtain⟨i,rfl,q⟩:=q1;obtain⟨t,rfl⟩:=r1;exact⟨some i,H1,I1,.int i t,q⟩
def SlR(X:Cx)(r:V->Option Int->Option Int->Hp->VK->Prop):Prop:=
 ∀
  (pins:Pb) (s:Shared) (σ:St) (H:Hp) (x:V) (v vl vu:Value) (lo hi:Option Int) (sl:Addr) (Q:VK),Inv X pins σ H s->RelV x v->s.heap.IsSliceOf sl vl vu .none->IsPart vl lo->IsPart vu hi->r x lo hi H Q->
  ∃T id,typeLookup (.type T) "__getitem__"=pure (some (.builtin id))/\s.TypeIs v T/\wpAny (model X.prog X.w) X.A (getItem v (.ref sl)) (EP X pins σ Q) X.xe s
def SlR.or(h:SlR X r)(h':SlR X r'):SlR X (λx lo hi H Q=>r x lo hi H Q\/r' x lo hi H Q):=by
 intro pins s σ H x v vl vu lo hi sl Q I rx hs pl pu q;rcases q with q |q
 .exact h pins s σ H x v vl vu lo hi sl Q I rx hs pl pu q
 .exact h' pins s σ H x v vl vu lo hi sl Q I rx hs pl pu q
def tSl(r:V->Option Int->Option Int->Hp->VK->Prop)(te:TE)(tl th:TO):TE:=λσ H Q=>te σ H λx H1=>tl σ H1 λl H2=>th σ H2 λu H3=>r x l u H3 Q
def BZ(hr:SlR X r)(he:PE X e te)(hl:PO X lo tl)(hu:PO X hi th):PE X (.Subscript e (.Slice lo hi none p2) pos) (tSl r te tl th):=by intro pins s σ H Q I h;refine Subscript_ (thn (he pins s σ H _ I h) λv s1 zz=>exA zz λx H1 I1 r1 q1=>?_);refine wpAny_Slice (thn (hl pins s1 σ H1 _ I1 q1) λvl s2 ⟨l,H2,I2,pl,q2⟩=>thn (hu pins s2 σ H2 _ I2 q2) λvu s3 ⟨u,H3,I3,pu,q3⟩=>?_);rw[evalPart_none];refine B_ ?_;have I4:Inv X pins σ H3 { s3 with heap:=s3.heap.push { cls:=.type "slice",data:=.fields #[vl,vu,.none] } }:=I3.kept (t':=s3.toks) λb ob q=>t_ _ q;obtain⟨T,id,hT,ht,hg⟩:=hr pins { s3 with heap:=s3.heap.push { cls:=.type "slice",data:=.fields #[vl,vu,.none] } } σ H3 x v vl vu l u s3.heap.objs.size Q I4 r1 (Heap.IsSliceOf.new ..) pl pu q3;show wpAny (model X.prog X.w) X.A (subscriptTail e (.Slice lo hi none p2) v (.ref s3.heap.objs.size)) (EP X pins σ Q) X.xe { s3 with heap:=s3.heap.push { cls:=.type "slice",data:=.fields #[vl,vu,.none] } };exact tail_any (ops:=[.ref s3.heap.objs.size,v]) ht hT hg (by with_unfolding_all rfl)
noncomputable def jE (xs:List V) (lo hi:Option Int):List V:=(xs.drop (HT.sIx xs.length 0 lo)).take (HT.sIx xs.length xs.length hi-HT.sIx xs.length 0 lo)
def kj(xs:List V)(lo hi:Option Int):(jE xs lo hi).length<=xs.length:=by unfold jE;rw[LP,LR];omega
def zD(K:W.Frag):V->Option Int->Option Int->Hp->VK->Prop:=λx lo hi H Q=>∃a xs,x=.ref a/\SqT K H a xs/\
 ¬ (HT.sIx xs.length 0 lo=0/\HT.sIx xs.length xs.length hi=xs.length)/\∀p,H p=none->Q (.ref p) (upd H p (.tup (jE xs lo hi)))
def Hq:SlR X (zD X.K):=by
 intro pins s σ H x v vl vu lo hi sl Q I rx hs pl pu h;obtain⟨a,xs,rfl,hx,hw,q⟩:=h;cases rx;obtain⟨its,r,ht,hz⟩:=I.tuple hx;have b_:its.toArray.size=xs.length:=by rw[A_];exact r.length.symm
 refine⟨"tuple",_,PyProof.Rows.slot_tuple_getitem.lookup,ht.typeIs,?_⟩;refine HT.getItem_tuple_cut ht hs pl pu (by rw[b_];exact hw) ?_ (by rw[b_];exact hz);rw[b_];refine⟨.ref s.heap.objs.size,_,I.laid (t':=s.toks) (o:=.tup (jE xs lo hi)) (λb ob q=>t_ _ q) (v_ _) ?_,rfl,q _ (I.hok.fresh (v_ _))⟩;exact⟨LU (kj xs lo hi) hz,_,(r.drop (HT.sIx xs.length 0 lo)).take (HT.sIx xs.length xs.length hi-HT.sIx xs.length 0 lo),IsTup.new _ _⟩
def pj(K:W.Frag):R2:=λx y H Q=>∃a b xs ys,x=.ref a/\y=.ref b/\SqT K H a xs/\SqT K H b ys/\xs≠[]/\xs.length+ys.length<=sizeLine/\
 (ys=[]->Q (.ref a) H)/\(ys≠[]->∀p,H p=none->Q (.ref p) (upd H p (.tup (xs++ys))))
def Vals.nil_iff(r:Vals xs us):us=[] ↔ xs=[]:=by
 cases r with
 |nil=>simp
 |cons _ _=>simp
def E1:OpR X (binaryOp .Add) (pj X.K):=by intro pins s σ H x y v u Q I rx ry h;obtain⟨a,b,xs,ys,rfl,rfl,ha,hb,hx,hz,q1,q2⟩:=h;cases rx;cases ry;obtain⟨its,r1,p1,_⟩:=I.tuple ha;obtain⟨its2,r2,p2,_⟩:=I.tuple hb;refine HT.cat_tup p1 p2 (λz=>hx (r1.nil_iff.mp z)) (λz=>⟨.ref a,H,I,rfl,q1 (r2.nil_iff.mp z)⟩) (λz=>?_) (by rw[<- r1.length,<- r2.length];exact hz);refine⟨.ref s.heap.objs.size,_,I.laid (t':=s.toks) (o:=.tup (xs++ys)) (λb ob q=>t_ _ q) (v_ _) ?_,rfl,q2 (λw=>z (r2.nil_iff.mpr w)) _ (I.hok.fresh (v_ _))⟩;exact⟨by rw[I_];exact hz,_,r1.append r2,IsTup.new _ _⟩
end
noncomputable def ixN (n:Nat) (i:Int):Option Nat:=if 0<=i then (if i<n then some i.toNat else none) else if -(n:Int)<=i then some (i+n).toNat else none
noncomputable def atI {α:Type} (xs:List α) (i:Int):Option α:=(ixN xs.length i).bind λj=>xs[j]?
def uI(h:ixN n i=some j):seqIndex? i n=some j/\j<n/\-(n:Int)<=i/\i<n:=by
 unfold ixN at h;by_cases h0:0<=i
 .rw[if_pos h0] at h;by_cases h1:i<n
  .rw[if_pos h1] at h;have e:i.toNat=j:=LB h;exact⟨by rw[seqIndex_of h0 h1,e],by omega,by omega,h1⟩
  .rw[if_neg h1] at h;cases h
 .rw[if_neg h0] at h;by_cases h1:-(n:Int)<=i
  .rw[if_pos h1] at h;have e:(i+n).toNat=j:=LB h;exact⟨by rw[seqIndex_neg (by omega) h1,e],by omega,h1,by omega⟩
  .rw[if_neg h1] at h;cases h
def tP(h:atI xs i=some v):∃j,seqIndex? i xs.length=some j/\xs[j]?=some v/\j<xs.length/\-(xs.length:Int)<=i/\i<xs.length:=by
 unfold atI at h;cases e:ixN xs.length i with
 |none=>rw[e] at h;cases h
 |some j=>rw[e] at h;obtain⟨h1,h2,h3,h4⟩:=uI e;exact⟨j,h1,h,h2,h3,h4⟩
def uh(b:Expr):Prop:=∀o i,subscripted b false o i=operate [o,i] (getItem o i)
def IxR(X:Cx)(r:R2):Prop:=
 ∀
  (value slice:Expr) (pins:Pb) (s:Shared) (σ:St) (H:Hp) (x y:V) (v u:Value) (Q:VK),Inv X pins σ H s->RelV x v->RelV y u->r x y H Q->
  subscripted slice false v u=operate [v,u] (getItem v u)->wpAny (model X.prog X.w) X.A (subscriptTail value slice v u) (EP X pins σ Q) X.xe s
def MtR(X:Cx)(id:String)(r:V->List V->Hp->VK->Prop):Prop:=
 ∀
  (pins:Pb) (s:Shared) (σ:St) (H:Hp) (x:V) (xs:List V) (v:Value) (us:List Value) (Q:VK),Inv X pins σ H s->RelV x v->Vals xs us->r x xs H Q->
  wpAny (model X.prog X.w) X.A (call (.builtin id) (v::us)) (EP X pins σ Q) X.xe s
section
variable{X:Cx}{a b:Expr}{ta tb:TE}{pos:Pos}
def IxR.or(h:IxR X r)(h':IxR X r'):IxR X (λx y H Q=>r x y H Q\/r' x y H Q):=by
 intro value slice pins s σ H x y v u Q I rx ry q hs;rcases q with q |q
 .exact h value slice pins s σ H x y v u Q I rx ry q hs
 .exact h' value slice pins s σ H x y v u Q I rx ry q hs
def JW(hr:IxR X r)(ha:PE X a ta)(hb:PE X b tb)(hs:uh b):PE X (.Subscript a b pos) (tOp r ta tb):=by intro pins s σ H Q I h;exact Subscript_ (zS ha hb I h λv u s2 x y H2 I2 rx ry q=>hr a b pins s2 σ H2 x y v u Q I2 rx ry q (hs _ _))
def zG(K:W.Frag):R2:=λx y H Q=>∃p xs i v,x=.ref p/\y=.int i/\SqL K H p xs/\atI xs i=some v/\Q v H
def AY(K:W.Frag):R2:=λx y H Q=>∃p xs i v,x=.ref p/\y=.int i/\SqT K H p xs/\atI xs i=some v/\Q v H
def Dg:IxR X (zG X.K):=by
 intro value slice pins s σ H x y v u Q I rx ry h hs;obtain⟨p,xs,i,z,rfl,rfl,hq,he,q⟩:=h;cases rx;obtain⟨t,rfl⟩:=ry;obtain⟨its,r,pl,hz⟩:=I.list hq;obtain⟨j,h1,h2,h3,h4,h5⟩:=tP he;obtain⟨w,ew,rw'⟩:=r.get h2;have hl:=r.length;have hn:=gH;have d_:EP X pins σ Q w s:=⟨z,H,I,rw',q⟩;by_cases h0:0<=i
 .have hj:i.toNat=j:=by rw[seqIndex_of h0 h5] at h1;exact LB h1
  exact item_listR pl.isList h0 (by omega) (by rw[hj];simpa using ew) d_ hs
 .have hj:(i+(its.toArray.size:Int)).toNat=j:=by rw[seqIndex_neg (by omega) h4] at h1;rw[A_,<- hl];exact LB h1
  exact subscriptTail_builtinR (x:=w) pl.isList.typeIs slot_list_getitem.lookup
   (wpAny_getItem_list_neg (Q:=λr s'=>r=w/\EP X pins σ Q r s') pl.isList (by omega) (by rw[A_] <;> omega) (by omega) (by rw[hj];simpa using ew) ⟨rfl,d_⟩) hs
def IU:IxR X (AY X.K):=by
 intro value slice pins s σ H x y v u Q I rx ry h hs;obtain⟨p,xs,i,z,rfl,rfl,hq,he,q⟩:=h;cases rx;obtain⟨t,rfl⟩:=ry;obtain⟨its,r,pl,hz⟩:=I.tuple hq;obtain⟨j,h1,h2,h3,h4,h5⟩:=tP he;obtain⟨w,ew,rw'⟩:=r.get h2;have hl:=r.length;have hn:=gH;have d_:EP X pins σ Q w s:=⟨z,H,I,rw',q⟩;exact subscriptTail_builtinR (x:=w) pl.typeIs slot_tuple_getitem.lookup
  (getItem_tuple (j:=j) (Q:=λr s'=>r=w/\EP X pins σ Q r s') pl (by omega) (by omega) (by rw[A_,<- hl];exact h1) (by simpa using ew) ⟨rfl,d_⟩) hs
def vM(its:List Value)(n j:Nat)(u:Value):Obj.mapSeq (·.setIfInBounds j u) { cls:=.type "list",data:=.seq its.toArray n }={ cls:=.type "list",data:=.seq (its.set j u).toArray n }:=by simp [Obj.mapSeq]
def Inv.lst(I:Inv X pins σ H s)(h:H p=some (.lst xs)):
 ∃(its:List Value) (n:Nat),Vals xs its/\s.heap.get? p=some { cls:=.type "list",data:=.seq its.toArray n }/\xs.length<=sizeLine:=by
 obtain⟨z,its,n,r,e⟩:=I.hok p _ h;exact⟨its,n,r,e,z⟩
def Inv.lstUpd{pins:Pb}{σ:St}{H:Hp}{s:Shared}{p:Addr}{xs ys:List V}{its its':List Value}{n n':Nat}{f:Obj->Obj}(I:Inv X pins σ H s)(h:H p=some (.lst xs))
 (ho:s.heap.get? p=some { cls:=.type "list",data:=.seq its.toArray n }) (hf:f { cls:=.type "list",data:=.seq its.toArray n }={ cls:=.type "list",data:=.seq its'.toArray n' }) (r:Vals ys its') (hz:ys.length<=sizeLine) (t:Nat):
 Inv X pins σ (upd H p (.lst ys)) { s with heap:=s.heap.update p f,toks:=t }:=by
 have e:(s.heap.update p f).get? p=some { cls:=.type "list",data:=.seq its'.toArray n' }:=by rw[Heap.get?_update_self f ho (by rw[hf] <;> rfl),hf]
 refine I.write (x:=p) (e:=p) (by rw[h];trivial) (.inl rfl) (λb u hb q=>(NY _ _ (Ne.symm hb)).trans q) ⟨_,e⟩ ?_;exact⟨hz,its',n',r,e⟩
def Cu:V->V->V->Hp->(Hp->Prop)->Prop:=λo i v H Q=>∃p xs k j,o=.ref p/\i=.int k/\H p=some (.lst xs)/\ixN xs.length k=some j/\Q (upd H p (.lst (xs.set j v)))
def Bf:wb X Cu:=by
 intro pins s σ H o i v ov iv u Q I ro ri rv h;obtain⟨p,xs,k,j,rfl,rfl,hp,hj,q⟩:=h;cases ro;obtain⟨t,rfl⟩:=ri;obtain⟨its,n,r,ho,hz⟩:=I.lst hp;obtain⟨h1,h2,h3,h4⟩:=uI hj;have hl:=r.length;have hn:=gH;have I':Inv X pins σ (upd H p (.lst (xs.set j v))) { s with heap:=s.heap.update p (Obj.mapSeq (·.setIfInBounds j u)) }:=
  I.lstUpd hp ho (vM its n j u) (r.set rv j) (by rw[L9];exact hz) s.toks
 by_cases h0:0<=k
 .have hk:k.toNat=j:=by rw[seqIndex_of h0 h4] at h1;exact LB h1
  exact W.ki_setAt ho h0 (by omega) (by rw[A_,<- hl];exact h4) (by rw[hk];exact⟨_,I',q⟩)
 .have hk:(k+(its.toArray.size:Int)).toNat=j:=by rw[seqIndex_neg (by omega) h3] at h1;rw[A_,<- hl];exact LB h1
  exact W.ki_setBack ho (by omega) (by rw[A_,<- hl];exact h3) (by omega) (by rw[hk];exact⟨_,I',q⟩)
def rS(lo hi:Option Int)(n:Nat):(sliceBounds lo hi none n).1=((HT.sIx n 0 lo:Nat):Int)/\(sliceBounds lo hi none n).2.1=((HT.sIx n n hi:Nat):Int)/\(sliceBounds lo hi none n).2.2=1:=by
 refine⟨?_,?_,rfl⟩
 .cases lo with
  |none=>simp [sliceBounds,HT.sIx]
  |
   some i=>
   simp only[sliceBounds,HT.sIx,Option.getD_none,show (1:Int)>0 by decide,NG];by_cases h:i<0
   .simp only[h,NG] <;> omega
   .simp only[h,Oe] <;> omega
 .cases hi with
  |none=>simp [sliceBounds,HT.sIx]
  |
   some i=>
   simp only[sliceBounds,HT.sIx,Option.getD_none,show (1:Int)>0 by decide,NG];by_cases h:i<0
   .simp only[h,NG] <;> omega
   .simp only[h,Oe] <;> omega
def oK(its:List Value)(lo hi:Option Int):slicePick its.toArray lo hi none=((its.drop (HT.sIx its.length 0 lo)).take (HT.sIx its.length its.length hi-HT.sIx its.length 0 lo)).toArray:=by obtain⟨h1,h2,h3⟩:=rS lo hi its.toArray.size;unfold slicePick;rw[h1,h2,h3];simp only[sliceRange_one,pick_run,A_] <;> rfl
def A9(K:W.Frag):V->Option Int->Option Int->Hp->VK->Prop:=λx lo hi H Q=>∃a xs,x=.ref a/\SqL K H a xs/\∀p,H p=none->Q (.ref p) (upd H p (.lst (jE xs lo hi)))
def Du:SlR X (A9 X.K):=by intro pins s σ H x v vl vu lo hi sl Q I rx hs pl pu h;obtain⟨a,xs,rfl,hx,q⟩:=h;cases rx;obtain⟨its,r,ht,hz⟩:=I.list hx;have b_:=r.length;refine⟨"list",_,slot_list_getitem.lookup,ht.isList.typeIs,?_⟩;refine wpAny_getItem_list_slice ht.isList hs pl pu .none (by simp) ?_ (by rw[A_] <;> omega);rw[oK,<- b_];refine⟨.ref s.heap.objs.size,_,I.laid (t':=s.toks) (o:=.lst (jE xs lo hi)) (λb ob q=>t_ _ q) (v_ _) ?_,rfl,q _ (I.hok.fresh (v_ _))⟩;exact⟨LU (kj xs lo hi) hz,_,0,(r.drop (HT.sIx xs.length 0 lo)).take (HT.sIx xs.length xs.length hi-HT.sIx xs.length 0 lo),F_ _ rfl⟩
noncomputable def flatV:V->Bool
 |.non=>true
 |.bl _=>true
 |.int _=>true
 |.str _=>true
 |_=>false
noncomputable def eqV:V->V->Bool
 |.non,.non=>true
 |.bl a,.bl b=>a==b
 |.bl a,.int b=>(if a then 1 else 0)==b
 |.int a,.bl b=>a==(if b then 1 else 0)
 |.int a,.int b=>a==b
 |.str a,.str b=>a==b
 |_,_=>false
def Iu(ry:RelV y u)(rx:RelV x v)(fy:flatV y=true)(fx:flatV x=true):SeqAt.EqAt A s u v (eqV y x):=by
 cases y with
 |
  non=>
  cases ry;cases x with
  |non=>cases rx;exact SeqAt.EqAt.same _
  |bl b=>cases rx;exact SeqAt.EqAt.none_bool b
  |int b=>obtain⟨t,rfl⟩:=rx;exact SeqAt.EqAt.none_int b t
  |str b=>obtain⟨t,rfl⟩:=rx;exact SeqAt.EqAt.none_str b t
  |_=>exact absurd (show false=true from fx) y_
 |
  bl a=>
  cases ry;cases x with
  |non=>cases rx;exact SeqAt.EqAt.bool_none a
  |bl b=>cases rx;exact SeqAt.EqAt.bool_bool a b
  |int b=>obtain⟨t,rfl⟩:=rx;exact SeqAt.EqAt.bool_int a b t
  |str b=>obtain⟨t,rfl⟩:=rx;exact SeqAt.EqAt.bool_str a b t
  |_=>exact absurd (show false=true from fx) y_
 |
  int a=>
  obtain⟨t',rfl⟩:=ry;cases x with
  |non=>cases rx;exact SeqAt.EqAt.int_none a t'
  |bl b=>cases rx;exact SeqAt.EqAt.int_bool a t' b
  |int b=>obtain⟨t,rfl⟩:=rx;exact SeqAt.EqAt.int_int a t' b t
  |str b=>obtain⟨t,rfl⟩:=rx;exact SeqAt.EqAt.int_str a t' b t
  |_=>exact absurd (show false=true from fx) y_
 |
  str a=>
  obtain⟨t',rfl⟩:=ry;cases x with
  |non=>cases rx;exact SeqAt.EqAt.str_none a t'
  |bl b=>cases rx;exact SeqAt.EqAt.str_bool a t' b
  |int b=>obtain⟨t,rfl⟩:=rx;exact SeqAt.EqAt.str_int a t' b t
  |str b=>obtain⟨t,rfl⟩:=rx;exact SeqAt.EqAt.str_str a t' b t
  |_=>exact absurd (show false=true from fx) y_
 |_=>exact absurd (show false=true from fy) y_
noncomputable def eqU (x:V) (u:Value):Bool:=match u with
 |.none=>eqV .non x
 |.bool b=>eqV (.bl b) x
 |.int i _=>eqV (.int i) x
 |.str z _=>eqV (.str z) x
 |_=>false
def yY(r:RelV y u)(f:flatV y=true):eqU x u=eqV y x:=by
 cases y with
 |non=>cases r;rfl
 |bl b=>cases r;rfl
 |int i=>obtain⟨t,rfl⟩:=r;rfl
 |str z=>obtain⟨t,rfl⟩:=r;rfl
 |_=>exact absurd (show false=true from f) y_
theorem iM:∀{xs:List V}{us:List Value},Vals xs us->xs.all flatV=true->us.any (eqU x)=xs.any λy=>eqV y x
 |_,_,.nil,_=>rfl
 |
  y::xs,u::us,.cons r t,f=>by
  rw[OE,w_] at f;rw[Mw,Mw,yY r f.1,iM t f.2]
theorem gm(rx:RelV x v)(fx:flatV x=true):∀{xs:List V}{us:List Value},Vals xs us->xs.all flatV=true->∀u∈us,SeqAt.EqAt A s u v (eqU x u)
 |_,_,.nil,_=>λu hu=>by cases hu
 |
  y::xs,u::us,.cons r t,f=>λu' hu=>by
  rw[OE,w_] at f;rcases G_.mp hu with rfl |hu
  .rw[yY r f.1];exact Iu r rx f.1 fx
  .exact gm rx fx t f.2 u' hu
noncomputable def inV (x:V) (xs:List V):Bool:=xs.any λy=>eqV y x
def rIn(K:W.Frag)(neg:Bool):R2:=λx y H Q=>∃p xs,y=.ref p/\(SqL K H p xs\/SqT K H p xs)/\flatV x=true/\xs.all flatV=true/\Q (.bl (if neg then !inV x xs else inV x xs)) H
def yN:OpR X (compareOp .In) (rIn X.K false):=by
 intro pins s σ H x y v u Q I rx ry h;obtain⟨p,xs,rfl,hq,fx,fs,q⟩:=h;cases ry;rcases hq with hq |hq
 .obtain⟨its,r,pl,hz⟩:=I.list hq;refine SeqAt.in_listAt (eqU x) pl.isList (λw hw=>gm rx fx r fs w (by simpa using hw)) ⟨.bl _,H,I,rfl,?_⟩;rw[show its.toArray.any (eqU x)=its.any (eqU x) by simp,iM r fs];exact q
 .obtain⟨its,r,pl,hz⟩:=I.tuple hq;refine SeqAt.in_tupleAt (eqU x) pl (λw hw=>gm rx fx r fs w (by simpa using hw)) ⟨.bl _,H,I,rfl,?_⟩;rw[show its.toArray.any (eqU x)=its.any (eqU x) by simp,iM r fs];exact q
def qK:OpR X (compareOp .NotIn) (rIn X.K true):=by
 intro pins s σ H x y v u Q I rx ry h;obtain⟨p,xs,rfl,hq,fx,fs,q⟩:=h;cases ry;rcases hq with hq |hq
 .obtain⟨its,r,pl,hz⟩:=I.list hq;refine SeqAt.notIn_listAt (eqU x) pl.isList (λw hw=>gm rx fx r fs w (by simpa using hw)) ⟨.bl _,H,I,rfl,?_⟩;rw[show its.toArray.any (eqU x)=its.any (eqU x) by simp,iM r fs];exact q
 .obtain⟨its,r,pl,hz⟩:=I.tuple hq;refine SeqAt.notIn_tupleAt (eqU x) pl (λw hw=>gm rx fx r fs w (by simpa using hw)) ⟨.bl _,H,I,rfl,?_⟩;rw[show its.toArray.any (eqU x)=its.any (eqU x) by simp,iM r fs];exact q
def qr:CallR X (.builtin "len") (λxs H Q=>∃p ys,xs=[.ref p]/\(SqL X.K H p ys\/SqT X.K H p ys)/\Q (.int ys.length) H):=by
 intro pins s σ H xs us Q I r h;obtain⟨p,ys,rfl,hq,q⟩:=h;obtain⟨u,rfl,rx⟩:=dO r;cases rx;have hn:=gH;rcases hq with hq |hq
 .obtain⟨its,r',pl,hz⟩:=I.list hq;have b_:=r'.length;exact Calls.call_len_list pl.isList (by simp only[A_] <;> omega) ⟨.int ys.length,H,I.tok _,⟨s.toks+1,by rw[A_,b_]⟩,q⟩
 .obtain⟨its,r',pl,hz⟩:=I.tuple hq;have b_:=r'.length;exact len_tuple pl (by simp only[A_] <;> omega) ⟨.int ys.length,H,I.tok _,⟨s.toks+1,by rw[A_,b_]⟩,q⟩
def pV:CallR X (.builtin "len") (λxs H Q=>∃z,xs=[.str z]/\z.length<=sizeLine/\Q (.int z.length) H):=by intro pins s σ H xs us Q I r h;obtain⟨z,rfl,hz,q⟩:=h;obtain⟨u,rfl,t,rfl⟩:=dO r;have hn:=gH;exact len_str (by omega) ⟨.int z.length,H,I.tok _,⟨_,rfl⟩,q⟩
def CallR.or(h:CallR X f r)(h':CallR X f r'):CallR X f (λxs H Q=>r xs H Q\/r' xs H Q):=by
 intro pins s σ H xs us Q I rs q;rcases q with q |q
 .exact h pins s σ H xs us Q I rs q
 .exact h' pins s σ H xs us Q I rs q
def tyV(K:W.Frag)(T:String)(x:V)(H:Hp):Prop:=match x with
 |.str _=>T="str"
 |.int _=>T="int"
 |.ref p=>(T="list" /\ ∃xs,SqL K H p xs)\/(T="tuple" /\ ∃o,K.lookup p=some o/\o.cls=.type "tuple" /\ o.dict=none)\/
  (T="dict" /\ ((∃kvs,H p=some (.dK kvs))\/∃kvs,H p=some (.dT kvs)))\/(T="set" /\ ∃S n,H p=some (.set S n))
 |_=>False
def yt(I:Inv X pins σ H s)(r:RelV x v)(ty:tyV X.K T x H):
 s.TypeIs v T/\∀a,v=.ref a->∃ob,s.heap.get? a=some ob/\ob.dict=none:=by
 cases x with
 |str z=>obtain⟨t,rfl⟩:=r;cases (show T="str" from ty);exact⟨typeIs_str s z t,λ_ e=>nomatch e⟩
 |int i=>obtain⟨t,rfl⟩:=r;cases (show T="int" from ty);exact⟨typeIs_int s i t,λ_ e=>nomatch e⟩
 |
  ref p=>
  cases r;rcases ty with ⟨rfl,xs,hq⟩ |⟨rfl,o,hk,hc,hd⟩ |⟨rfl,hk⟩ |⟨rfl,S,n,hk⟩
  .obtain⟨its,_,pl,_⟩:=I.list hq;refine⟨pl.isList.typeIs,λa e=>?_⟩;cases e;obtain⟨o,n,e,c,hd,_⟩:=pl;exact⟨o,e,hd⟩
  .refine⟨⟨o,I.kIn p o hk,hc⟩,λa e=>?_⟩;cases e;exact⟨o,I.kIn _ o hk,hd⟩
  .have z:∃o,s.heap.get? p=some o/\o.ExactDict:=by
    rcases hk with ⟨kvs,hk⟩ |⟨kvs,hk⟩
    .obtain⟨_,_,_,_,o,_,_,e,ex,_⟩:=I.hok p _ hk;exact⟨o,e,ex⟩
    .obtain⟨_,_,_,_,o,_,_,e,ex,_⟩:=I.hok p _ hk;exact⟨o,e,ex⟩
   obtain⟨o,e,ex⟩:=z;refine⟨⟨o,e,ex.1⟩,λa e2=>?_⟩;cases e2;exact⟨o,e,ex.2.1⟩
  .obtain⟨o,_,_,_,e,ex,_⟩:=I.hok p _ hk;refine⟨⟨o,e,ex.1⟩,λa e2=>?_⟩;cases e2;exact⟨o,e,ex.2.1⟩
 |_=>exact False.elim ty
def tBM0(K:W.Frag)(T:String)(r:V->List V->Hp->VK->Prop)(to:TE):TE:=λσ H Q=>to σ H λx H1=>tyV K T x H1/\r x [] H1 Q
def tBM(K:W.Frag)(T:String)(r:V->List V->Hp->VK->Prop)(to:TE)(t:TA):TE:=λσ H Q=>to σ H λx H1=>tyV K T x H1/\t σ H1 λxs H2=>r x xs H2 Q
variable{o e:Expr}{es:List Expr}{to:TE}{t:TA}{name:Str}{apos cpos:Pos}{T id:String}{r:V->List V->Hp->VK->Prop}
def HP(pa:PlainAttrs T)(slot:Slot T name id)(hty:typeOf (.builtin id)=pure (.type "method_descriptor"))(hm:MtR X id r)(ho:PE X o to)
 (i_:attributeBase o name X.env (eval o X.env)=eval o X.env) (j':(apos.endLine==cpos.line)=true):PE X (.Call (.Attribute o name apos) [] [] cpos) (tBM0 X.K T r to):=by
 intro pins s σ H Q I h;refine wpAny_Call_method0_late i_ j' (thn (ho pins s σ H _ I h) λv s1 ⟨x,H1,I1,r1,ty,q1⟩=>?_);obtain⟨h1,h2⟩:=yt I1 r1 ty;exact⟨T,id,pa,slot,hty,h1,h2,Calls.callWith_builtin rfl (PySem.evalArgs_none (hm pins s1 σ H1 x [] v [] Q I1 r1 .nil q1))⟩
def vy(pa:PlainAttrs T)(slot:Slot T name id)(hty:typeOf (.builtin id)=pure (.type "method_descriptor"))(hm:MtR X id r)(ho:PE X o to)(ha:PA X (e::es) t)
 (i_:attributeBase o name X.env (eval o X.env)=eval o X.env)
 (hfew:((backTo cpos (starEach (e::es) X.env)).all (λx=>!x.1)&&(backToKw cpos (keywordEach [] X.env)).all (λx=>x.1.isSome)
  && decide ((e::es).length+([]:List Keyword).length+(if ([]:List Keyword).isEmpty then 0 else 1)<30))=true)
 (j':(apos.endLine==cpos.line)=true) (hs:starEach (e::es) X.env=(false,eval e X.env)::starEach es X.env) (c_:(backTo cpos (starEach es X.env)).any (·.1)=false):
 PE X (.Call (.Attribute o name apos) (e::es) [] cpos) (tBM X.K T r to t):=by
 intro pins s σ H Q I h;refine wpAny_Call_method_late i_ hfew j' rfl (thn (ho pins s σ H _ I h) λv s1 ⟨x,H1,I1,r1,ty,q1⟩=>?_);obtain⟨h1,h2⟩:=yt I1 r1 ty;refine⟨T,id,pa,slot,hty,h1,h2,?_⟩;have hA:=ha cpos pins s1 σ H1 _ I1 q1;rw[hs] at hA ⊢;refine Calls.callWith_builtin (by show (false || (backTo cpos (starEach es X.env)).any (·.1))=false;rw[c_] <;> rfl) (Calls.evalArgs_plain ?_);exact thn hA λus s2 zz=>exA zz λvs H2 I2 r2 q2=>hm pins s2 σ H2 x vs v us Q I2 r1 r2 q2
end
def MtM(X:Cx)(id:String)(r:V->List V->Hp->VK->Prop):Prop:=
 ∀
  (pins:Pb) (s:Shared) (σ:St) (H:Hp) (x:V) (xs:List V) (v:Value) (us:List Value) (Q:VK),Inv X pins σ H s->RelV x v->Vals xs us->r x xs H Q->
  wpAny (model X.prog X.w) X.A (call (.builtin id) (v::us)) (EP X pins σ Q) X.xe s
def Vals.one(r:Vals [x] us):∃u,us=[u]/\RelV x u:=by
 cases r with
 |cons r t=>cases t;exact⟨_,rfl,r⟩
theorem Vals.zero:∀{us:List Value},Vals [] us->us=[]
 |_,.nil=>rfl
def Vals.dropLast(h:Vals xs us):Vals xs.dropLast us.dropLast:=by
 induction h with
 |nil=>exact .nil
 |
  cons r t ih=>
  cases t with
  |nil=>exact .nil
  |cons q t'=>exact .cons r ih
def vB{α:Type}(l:List α):l.eraseIdx (l.length-1)=l.dropLast:=by
 induction l with
 |nil=>rfl
 |
  cons a r ih=>
  cases r with
  |nil=>rfl
  |
   cons b r=>
   have e:(a::b::r).length-1=((b::r).length-1)+1:=by have h1:(a::b::r).length=r.length+2:=rfl;have h2:(b::r).length=r.length+1:=rfl;omega
   rw[e,List.eraseIdx_cons_succ,ih];all_goals rfl
section
variable{X:Cx}{pins:Pb}{σ:St}{H:Hp}{s:Shared}{l:Addr}{xs ys:List V}
def Inv.lset{its its':List Value}{n:Nat}{f:Array Value->Array Value}{t':Nat}(I:Inv X pins σ H s)(hH:H l=some (.lst xs))
 (e:s.heap.get? l=some { cls:=.type "list",data:=.seq its.toArray n }) (hf:f its.toArray=its'.toArray) (hv:Vals ys its') (hz:ys.length<=sizeLine):
 Inv X pins σ (upd H l (.lst ys)) { s with heap:=s.heap.update l (Obj.mapSeq f),toks:=t' }:=by
 have q:=PySem.IsL.update e f;rw[hf] at q;refine I.write (x:=l) (e:=l) (by rw[hH];exact trivial) (.inl rfl) (λb' u hb hu=>(NY s.heap (Obj.mapSeq f) (Ne.symm hb)).trans hu) ⟨_,q⟩ ?_;exact⟨hz,its',_,hv,q⟩
def Inv.lnew(I:Inv X pins σ H s)(hv:Vals ys its)(hz:ys.length<=sizeLine):
 Inv X pins σ (upd H s.heap.objs.size (.lst ys)) { s with heap:=s.heap.push { cls:=.type "list",data:=.seq its.toArray },toks:=t' }:=
 I.laid (λ_ _ q=>t_ _ q) (v_ _) ⟨hz,its,0,hv,F_ _ rfl⟩
def Inv.fresh(I:Inv X pins σ H s):H s.heap.objs.size=none:=I.hok.fresh (v_ _)
def Inv.lstM(I:Inv X pins σ H s)(hH:H l=some (.lst xs)):xs.length<=sizeLine/\∃(its:List Value) (n:Nat),Vals xs its/\xs.length=its.length/\s.heap.get? l=some { cls:=.type "list",data:=.seq its.toArray n }:=by obtain⟨z,its,n,r,e⟩:=I.hok l _ hH;exact⟨z,its,n,r,r.length,e⟩
def Ao{n:Nat}(h:n<=sizeLine):Builtin.List.listTooLong n=false:=by unfold Builtin.List.listTooLong;exact H_ (by omega)
end
section
variable{X:Cx}
def tY:V->List V->Hp->VK->Prop:=λx vs H Q=>∃l xs y,x=.ref l/\vs=[y]/\H l=some (.lst xs)/\xs.length<sizeLine/\Q .non (upd H l (.lst (xs++[y])))
def zo:MtM X "list.append" tY:=by intro pins s σ H x vs v us Q I rx rv h;obtain⟨l,xs,y,rfl,rfl,hH,hz,q⟩:=h;cases rx;obtain⟨u,rfl,ru⟩:=rv.one;obtain⟨z,its,n,r,hl,e⟩:=I.lstM hH;refine Ot F.slot_list_append ⟨_,e,rfl⟩ F.entry_list_append (F.args_list_append_2 _ _) (PySem.list_append l its.toArray n u (by rw[A_];omega)) ⟨e,?_⟩;refine⟨.non,_,I.lset (its':=its++[u]) hH e (by simp) (r.append (.cons ru .nil)) ?_,rfl,q⟩;rw[I_,M_];omega
def rPop:V->List V->Hp->VK->Prop:=λx vs H Q=>∃l xs y,x=.ref l/\vs=[]/\H l=some (.lst xs)/\xs[xs.length-1]?=some y/\Q y (upd H l (.lst xs.dropLast))
def FF:MtM X "list.pop" rPop:=by
 intro pins s σ H x vs v us Q I rx rv h;obtain⟨l,xs,y,rfl,rfl,hH,hy,q⟩:=h;cases rx;have hus:=rv.zero;subst hus;obtain⟨z,its,n,r,hl,e⟩:=I.lstM hH;obtain⟨u,hu,ru⟩:=r.get hy;have hy':its.toArray[its.toArray.size-1]?=some u:=by show its.toArray[its.length-1]?=some u;rw[<- Array.getElem?_toList,<- hl];exact hu
 refine Ot F.slot_list_pop ⟨_,e,rfl⟩ F.entry_list_pop (F.args_list_pop_1 _) (MeetsSeq.list_pop_last l its.toArray n u hy' (by rw[A_];omega)) ⟨e,?_⟩;refine⟨y,_,I.lset (its':=its.dropLast) hH e ?_ r.dropLast ?_,ru,q⟩
 .show its.toArray.eraseIdxIfInBounds (its.toArray.size-1)=its.dropLast.toArray;rw[A_,List.eraseIdxIfInBounds_toArray,vB]
 .rw[List.length_dropLast];omega
def vK:R2:=λx y H Q=>∃l b xs zs,x=.ref l/\y=.ref b/\H l=some (.lst xs)/\H b=some (.lst zs)/\xs.length+zs.length<=sizeLine/\∀p,H p=none->Q (.ref p) (upd H p (.lst (xs++zs)))
def FC:OpR X (binaryOp .Add) vK:=by
 intro pins s σ H x y v u Q I rx ry h;obtain⟨l,b,xs,zs,rfl,rfl,hH,hB,hz,q⟩:=h;cases rx;cases ry;obtain⟨z,its,n,r,hl,e⟩:=I.lstM hH;obtain⟨z2,its2,n2,r2,hl2,e2⟩:=I.lstM hB;refine PySem.P.add_list e e2 ?_ (by rw[A_,A_];omega);have ea:its.toArray++its2.toArray=(its++its2).toArray:=by simp
 rw[ea];exact⟨.ref _,_,I.lnew (t':=s.toks) (r.append r2) (by rw[I_];omega),rfl,q _ I.fresh⟩
end
section
set_option maxRecDepth 100000 in
end
end L2
namespace Att
open PySem PySem.W PySem.Calls PyProof.Rows
def mD:∀(ns:List Int) (vs:List Value),WellAll P h vs (ns.map WData.int)->IntsAre vs ns:=by
 intro ns;induction ns with
 |nil=>intro vs w;rw[LH] at w;cases w;exact .nil
 |
  cons n ns ih=>
  intro vs w;rw[u_] at w;cases w with
  |cons a b=>cases a;exact .cons _ _ (ih _ b)
def xM{l:OpenLaw}{n:Nat}(hn:l.most=some n){P:Params}{h:Heap}{args:List WData}{vals:List Value}
 (hpre:l.row.toRowW.claim.pre args=true) (hwl:WellAll P h vals args):
 ∃a vs ns,vals=[Value.ref a]/\args=[WData.list (ns.map WData.int)]/\h.get? a=some { cls:=.type "list",data:=.seq vs.toArray }/\IntsAre vs ns/\ns.length<=n:=by
 have hsh:WShape.hasAll [] args [.list .int]=true:=(pre_splitW hpre).1;have hc:l.pre.holds [] { args:=args }=true:=(pre_splitW hpre).2;obtain⟨d,r,rfl,h1,h2⟩:=hasAllW_cons hsh;obtain rfl:=hasAllW_nil h2;obtain⟨xs,rfl,h3⟩:=hasW_list h1;obtain⟨ns,rfl⟩:=items_int h3;have b_:ns.length<=n:=by
  unfold OpenLaw.pre at hc;have h4:(WTm.not (.lt (.lit (.int (n:Int))) (.len (.arg 0)))).holds [] { args:=[.list (ns.map .int)] }=true:=by have h4:=(holds_andW hc).1;rw[hn] at h4;exact h4
  have h5:=condW_of h4 (w_not (w_lt w_lit (w_len_list (w_arg rfl))));rw[q_] at h5;refine Nat.le_of_not_lt λq=>?_;have q':(n:Int)<((ns.length:Nat):Int):=by omega
  first
   |(rw[K_ q'] at h5;exact absurd h5 (by decide))
   |(simp at h5;omega)
 cases hwl with
 |
  cons w1 w2=>
  cases w2;cases w1 with
  |list ho hall=>exact⟨_,_,ns,rfl,rfl,ho,mD ns _ hall,b_⟩
def yF(l:OpenLaw)(args:List WData):l.row.toRowW.claim.post args (.bool true) args=true:=
 postW_of (r:=l.row.toRowW) (X:=(true==true))
  (show WShape.has [] (.bool true) .bool=true by first |rfl |decide |simp [WShape.has,WShape.arms,WShape.armsAll])
  (show (WTm.eq .res (.lit (.bool true))).value [] { args:=args,res:=some (.bool true),after:=args }=some (.bool (true==true)) from w_eq_bool (w_res rfl) w_lit) rfl
def attach_call{l:OpenLaw}{n:Nat}{q:Program}{loose:List Str}{XP:(Str->Option Value)->Heap->Prop}{YP:World->Heap->Prop}{d:DefRec}
 (hn:l.most=some n) (hdf:d.params.defaults=[])
 (call:∀(w:World) (s₀ s₁:Shared) (mg mb:Pa) (fa:Addr) (o:Obj) (pm cd doc:Value) (a:Addr) (vs:List Value) (ns:List Int),
  Ground q loose [] XP w s₀ mg mb s₁.heap->YP w s₁.heap->
  s₁.heap.get? fa=some o->o.data=.func (docDef d.name d.params d.body d.scope pm cd doc)->s₁.heap.CodeRec cd d.name->mg d.name=some (.ref fa)->
  s₁.heap.get? a=some { cls:=.type "list",data:=.seq vs.toArray }->IntsAre vs ns->ns.length<=n->s₁.gens=#[]->
  codeAny (model l.prog w) callerA (.call (.ref fa) ⟨[.ref a],[]⟩) (λr s'=>r=.ok (.ret (.bool true))/\OldK s₁.heap s'.heap/\s'.os=s₁.os/\AllBare s'.gens) s₁):
 WalkO q loose XP YP l.row.toRowW d [] (λf vs=>PySem.call f vs):=by
 intro w s₀ s₁ mg mb G Y fa o pm cd doc dV kV ho hd o_ hD hmg hg args vals as hpre hlay hrd hwl hlo;obtain rfl:dV=.none:=Dflts.none hD hdf;obtain rfl:kV=.none:=Dflts.noKw hD;obtain⟨a,vs,ns,rfl,rfl,hobj,hints,b_⟩:=xM hn hpre hwl;refine enter_call (Ov (call w s₀ s₁ mg mb fa o pm cd doc a vs ns G Y ho (fd_plain hd) o_ hmg hobj hints b_ hg) λr s' hq=>?_);obtain⟨rfl,h2,h3,h4⟩:=hq;exact⟨.inl ⟨.bool true,.bool true,[],rfl,λ_=>rfl,.bool true,yF l _,λ_=>⟨List.Pairwise.nil,λ_ hm=>(nomatch hm)⟩⟩,h2,h3,h4⟩
section
def qL(h:Heap):Heap:={ h with objs:=#[] }
def vn(h:Heap)(b:Addr):(qL h).get? b=none:=by
 cases e:(qL h).get? b with
 |none=>rfl
 |some o=>exact absurd (C_ e) (Na _)
def ledger(h:Heap)(L d:Addr):List (Addr×Obj):=(List.range h.objs.size).filterMap λa=>if a=L\/a=d then none else (h.get? a).map λo=>(a,o)
def fr_all(n:h.Ns L m):Fr (qL h) L h m:=
 ⟨n,λb o e=>(by rw[vn] at e;cases e),Mi _⟩
end
end Att
namespace L2
open PySem PySem.Spec PyProof.Rows
theorem fK:∀{vs:List Value}{ns:List Int},IntsAre vs ns->Vals (ns.map V.int) vs
 |_,_,.nil=>.nil
 |_,_,.cons n t h=>.cons ⟨t,rfl⟩ (fK h)
def Bn(H:Hp):Prop:=∀b,H b=none\/∃o xs,H b=some (.frz o (.lst xs))
def Ab{P:Program}{w:World}{K:W.Frag}{mg mb:Pa}{CX:CXT}{k:Nat}{fa a:Addr}{fd:FuncData}{x:Str}{sp:Sp}{s₁:Shared}{vs:List Value}{ns:List Int}
 (KX:K.In s₁.heap) (hns:s₁.heap.Ns mainGlobals mg) (hb:s₁.heap.Ns builtinsNs mb) (hbb:∀x:Str,x ≠ "__name__"->mb x=bootBuiltins x) (hlim:s₁.heap.NoLimit) (hg:s₁.gens=#[])
 (ha:s₁.heap.get? a=some { cls:=.type "list",data:=.seq vs.toArray }) (hi:IntsAre vs ns) (hl:ns.length<=sizeLine) (hr:Room k callerA)
 (F:∀base:Heap,K.In base->base.Ns mainGlobals mg->FnOk P w K mg base CX k fa fd [x] sp) (hbind:∀(s:Shared) (u:Value),BindsTo s fd ⟨[u],[]⟩ [(x,u)])
 (hsp:∀H:Hp,Bn H->SqL K H a (ns.map V.int)->sp [.ref a] H (λv _=>v=.bl true) λ_ _ _=>False)
 (hCX:∀H e s',CX [] H s₁ (λ_ _ _=>False) e s'->False):
 codeAny (model P w) callerA (.call (.ref fa) ⟨[.ref a],[]⟩) (λr s'=>r=.ok (.ret (.bool true))/\OldK s₁.heap s'.heap/\s'.os=s₁.os/\AllBare s'.gens) s₁:=by
 have rv:=fK hi;have lenV:=hi.length;have core
  : ∀H:Hp,Bn H->SqL K H a (ns.map V.int)->HOk P w H s₁.heap->(∀b,H b≠none->b=a)->(H a≠none->K.lookup a=none)->
  codeAny (model P w) callerA (.call (.ref fa) ⟨[.ref a],[]⟩) (λr s'=>r=.ok (.ret (.bool true))/\OldK s₁.heap s'.heap/\s'.os=s₁.os/\AllBare s'.gens) s₁:=by
  intro H hO hS hok hA hK;have base_of:∀{b:Addr}{o:Obj},s₁.heap.get? b=some o->H b=none->(eP s₁.heap H).get? b=some o:=λe n=>rE e n;have noA:∀{b:Addr}{o:Obj}{es:Array DictEntry}{ep:Nat},s₁.heap.get? b=some o->o.data=.dict es ep->H b=none:=λ{b o es ep} e d=>by
   cases q:H b with
   |none=>rfl
   |some u=>have e':b=a:=hA b (by rw[q];simp);subst e';rw[ha] at e;cases e;have d':Data.seq vs.toArray _=Data.dict es ep:=d;cases d'
  have nsK:∀{b:Addr}{m:Pa},s₁.heap.Ns b m->(eP s₁.heap H).Ns b m:=λ{b m} ⟨o,es,ep,e,d,r⟩=>⟨o,es,ep,base_of e (noA e d),d,r⟩;have hKb:K.In (eP s₁.heap H):=λb o e=>base_of (KX b o e) (by
   cases q:H b with
   |none=>rfl
   |some u=>have e':b=a:=hA b (by rw[q];simp);subst e';rw[hK (by rw[q];simp)] at e;cases e)
  have hM:Mod K mg (eP s₁.heap H):=⟨hKb,nsK hns,⟨mb,nsK hb,hbb⟩,let ⟨mc,h1,h2⟩:=hlim;⟨mc,nsK h1,h2⟩⟩;have e0:Env0 P w K mg (eP s₁.heap H) callerA [] s₁ H:=⟨rfl,hM,λb o e=>ur e,Nat.le_of_eq (nS _ _),trivial,λb hb=>absurd (show b∈([]:List Addr) from hb) (by simp),hok,.of_eq hg⟩;refine Ov ((F _ hKb (nsK hns)).run callerA [] s₁ H ⟨[.ref a],[]⟩ [.ref a] [.ref a] _ _ hr e0 (hbind s₁ (.ref a)) (.cons rfl .nil) (hsp H hO hS)) λr s' h=>?_;cases r with
  |error e=>exact (hCX H e s' h).elim
  |
   ok fl=>
   cases fl with
   |next=>exact False.elim h
   |brk=>exact False.elim h
   |cont=>exact False.elim h
   |
    ret u=>
    obtain⟨v,H',os,bare,un,hok',r',q⟩:=h;have q':v=.bl true:=q;subst q';obtain rfl:u=Value.bool true:=r';refine⟨rfl,OldK.of_keep λb o e=>?_,os,bare⟩;cases q:H b with
    |none=>exact un.keep b o e q (by intro z;exact absurd (show b∈([]:List Addr) from z) (by simp)) (by simp)
    |
     some u=>
     rcases hO b with z |⟨ob,xs,z⟩
     .rw[q] at z;cases z
     .have z2:=un.frzs b ob _ z;obtain⟨e1,_⟩:=hok b _ z;obtain⟨e2,_⟩:=hok' b _ z2;rw[e] at e1;cases e1;exact e2
 cases hk:K.lookup a with
 |some o=>have e:=KX a o hk;rw[ha] at e;cases e;refine core (λ_=>none) (λ_=>.inl rfl) (.inr ⟨_,vs.toArray,_,hk,rfl,rfl,rfl,by rw[A_,lenV];exact hl,by simpa using rv⟩) (λb u z=>by have z':(none:Option HO)=some u:=z;cases z') (λb z=>absurd rfl z) λz=>absurd rfl z
 |
  none=>
  refine core (λb=>if b=a then some (.frz { cls:=.type "list",data:=.seq vs.toArray } (.lst (ns.map V.int))) else none) (λb=>?_) (.inl (.inr ⟨{ cls:=.type "list",data:=.seq vs.toArray },if_pos rfl⟩)) (λb u z=>?_) (λb z=>?_) λ_=>hk
  .by_cases hb:b=a
   .exact .inr ⟨_,_,if_pos hb⟩
   .exact .inl (if_neg hb)
  .by_cases hb:b=a
   .have z':=(if_pos hb).symm.trans z;cases z';subst hb;exact⟨ha,by rw[q_];exact hl,vs,_,rv,ha⟩
   .have z':=(if_neg hb).symm.trans z;cases z'
  .by_cases hb:b=a
   .exact hb
   .exact absurd (if_neg hb) z
abbrev KOf{K:W.Frag}{h:Heap}(_:K.In h):W.Frag:=K
def Lz{l:W.OpenLaw}{n k:Nat}{q:Program}{loose:List Str}{XP:(Str->Option Value)->Heap->Prop}{YP:World->Heap->Prop}{d:DefRec}{K:Params->W.Frag}{CX:World->CXT}{sp:World->Sp}{x:Str}
 (hn:l.most=some n) (hn2:n<=sizeLine) (hdf:d.params.defaults=[]) (hr:Room k callerA)
 (hY:∀(w:World) (h:Heap),YP w h->(K w.params).In h)
 (F:∀(w:World) (mg:Pa) (fa:Addr) (h:Heap),(K w.params).In h->h.Ns mainGlobals mg->mg d.name=some (.ref fa)->
  ∃
   fd:FuncData,(∀(s:Shared) (u:Value),BindsTo s fd ⟨[u],[]⟩ [(x,u)])/\
   ∀base:Heap,(K w.params).In base->base.Ns mainGlobals mg->FnOk l.prog w (K w.params) mg base (CX w) k fa fd [x] (sp w))
 (hsp:∀(w:World) (H:Hp) (a:Addr) (ns:List Int),ns.length<=n->Bn H->SqL (K w.params) H a (ns.map V.int)->sp w [.ref a] H (λv _=>v=.bl true) λ_ _ _=>False)
 (hCX:∀(w:World) (H:Hp) (s:Shared) (e:Value) (s':Shared),CX w [] H s (λ_ _ _=>False) e s'->False):
 W.WalkO q loose XP YP l.row.toRowW d [] (λf vs=>PySem.call f vs):=by
 refine Att.attach_call hn hdf λw s₀ s₁ mg mb fa o pm cd doc a vs ns G Y ho hd o_ hmg hobj hints b_ hg=>?_;have KX:=hY w _ Y;obtain⟨fd,hb,hF⟩:=F w mg fa _ KX G.T.g hmg;exact Ab KX G.T.g G.T.b G.T.builtins G.T.nolimit hg hobj hints (LU b_ hn2) hr hF hb (λH hO hS=>hsp w H a ns b_ hO hS) λH e s'=>hCX w H s₁ e s'
noncomputable def cS (s:Stmt):Arguments:=match s with
 |.FunctionDef _ a _ _ _ _ _ _ _ _=>a
 |_=>{ posonlyargs:=[],args:=[],vararg:=none,kwonlyargs:=[],kw_defaults:=[],kwarg:=none,defaults:=[] }
noncomputable def br (s:Stmt):List Stmt:=match s with
 |.FunctionDef _ _ b _ _ _ _ _ _ _=>b
 |_=>[]
noncomputable def ao (s:Stmt):Scope:=match s with
 |.FunctionDef _ _ _ _ _ _ sc _ _ _=>sc
 |_=>{ kind:=.function,names:=[],isGenerator:=false,isCoroutine:=false }
abbrev E0:XK:=λ_ _ _=>False
structure Fun(K:W.Frag)(x qual:Str)(st:Stmt)(f:Addr)(fd:FuncData):Prop where
 ex:∃(oc:Value) (od:Option Addr) (kV doc pm:Value) (an:Option Addr) (cdv ct:Value) (osl:Array (Option Value)),
  fd=W.fnOf x qual (cS st) (br st) (ao st) .none kV doc pm an cdv ct/\K.lookup f=some ⟨oc,od,.func fd,osl⟩/\W.codeIn K cdv qual=true
 kp:W.keepIn K (.ref f)=true
section
variable{K:W.Frag}
def Fun.binds{x qual:Str}{st:Stmt}{f:Addr}{fd:FuncData}{ps:List Str}(F:Fun K x qual st f fd)
 (h:∀(kV doc pm:Value) (an:Option Addr) (cdv ct:Value) (us:List Value),us.length=ps.length->bindArgs (W.fnOf x qual (cS st) (br st) (ao st) .none kV doc pm an cdv ct) ⟨us,[]⟩=pure (ps.zip us)):Binds K fd ps []:=by
 obtain⟨oc,od,kV,doc,pm,an,cdv,ct,osl,rfl,lk,o_⟩:=F.ex;exact .all (h kV doc pm an cdv ct)
def Hi{x qual:Str}{st:Stmt}{f:Addr}{oc:Value}{od an:Option Addr}{osl:Array (Option Value)}{kV doc pm cdv ct:Value}(l:K.lookup f=some ⟨oc,od,.func (W.fnOf x qual (cS st) (br st) (ao st) .none kV doc pm an cdv ct),osl⟩)
 (c:W.codeIn K cdv qual=true) (k:W.keepIn K (.ref f)=true):Fun K x qual st f (W.fnOf x qual (cS st) (br st) (ao st) .none kV doc pm an cdv ct):=⟨⟨oc,od,kV,doc,pm,an,cdv,ct,osl,rfl,l,c⟩,k⟩
end
def JC(hr:Room k A):A.units+1<cLine:=ML (Nat.add_le_add_left (by decide:1<=64) _) hr.units
section
variable{X:Cx}{pins:Pb}{σ:St}{H:Hp}{s:Shared}
def Inv.track{a:Addr}{o:HO}(I:Inv X pins σ H s)(hn:H a=none)(h0:X.s₀.heap.get? a=none)(hL:a≠X.env.locals)(hc:∀x c,X.env.cells.lookup x=some c->c≠a)
 (hp:∀p∈X.pn++pins,p.1≠a) (new:ObjOk X.prog X.w (upd H a o) s.heap a o):Inv X pins σ (upd H a o) s:=by
 have ne:∀b u,H b=some u->b≠a:=λb u e z=>by rw[z,hn] at e;cases e
 have ne0:∀b u,X.s₀.heap.get? b=some u->b≠a:=λb u e z=>by rw[z,h0] at e;cases e
 refine⟨I.ok,I.os,I.bare,⟨I.base.keep,I.base.slot,λb u e n hx=>?_,I.base.there,λb xs e=>?_,λb u xs e=>?_,λb ps e=>?_⟩,I.loc,I.cell,?_,λx c e=>?_,λp hp'=>?_,λb u e=>?_,I.len⟩
 .rw[aB (ne0 b u e)];exact I.base.free b u e n hx
 .have q:=I.base.tups b xs e;rw[aB (ne _ _ q)];exact q
 .have q:=I.base.frzs b u xs e;rw[aB (ne _ _ q)];exact q
 .obtain⟨m,q⟩:=I.base.tbls b ps e;exact⟨m,by rw[aB (ne _ _ q)];exact q⟩
 .rw[aB (Ne.symm hL)];exact I.free
 .rw[aB (hc x c e)];exact I.freeC x c e
 .obtain⟨e,n,r⟩:=I.pin p hp';exact⟨e,by rw[aB (hp p hp')];exact n,r⟩
 .by_cases hb:b=a
  .subst hb;rw[aR] at e;cases e;exact new
  .rw[aB hb] at e;exact (I.hok b u e).stay (λc v _ q=>q) (λc q=>by rw[aB (ne _ _ q)];exact q) λc xs q=>by rw[aB (ne _ _ q)];exact q
end
theorem jg{env:Env}:∀{names:List (Str×NameKind)} (cs:List (Str×Addr)),(∀x∈names,x.2=.free->∃c,env.cells.lookup x.1=some c)->(∀x c,cs.lookup x=some c->env.cells.lookup x=some c)->
 ∃
  cl,(forIn names cs λ(x:Str×NameKind) (r:List (Str×Addr))=>if (x.2==NameKind.free)=true then do let a <- cellOf env x.1;pure (ForInStep.yield ((x.1,a)::r)) else pure (ForInStep.yield r):Sem (List (Str×Addr)))=pure cl/\
  (∀x c,cl.lookup x=some c->env.cells.lookup x=some c)/\(∀x c,cs.lookup x=some c->∃c',cl.lookup x=some c')/\∀x∈names,x.2=.free->∃c,cl.lookup x.1=some c
 | [],cs,_,h=>⟨cs,by simp,h,λx c e=>⟨c,e⟩,λ_ hx=>nomatch hx⟩
 |
  (n,k)::r,cs,hf,h=>by
  rw[List.forIn_cons];by_cases hk:k=.free
  .subst hk;obtain⟨c,hc⟩:=hf (n,.free) s_ rfl;have m_:cellOf env n=pure c:=by unfold cellOf;rw[hc]
   have h':∀x d,((n,c)::cs).lookup x=some d->env.cells.lookup x=some d:=λx d e=>by
    rw[MK] at e;cases q:x==n with
    |true=>rw[q] at e;cases e;rw[LW.mp q];exact hc
    |false=>rw[q] at e;exact h x d e
   obtain⟨cl,e1,e2,e3,e4⟩:=jg (env:=env) (names:=r) ((n,c)::cs) (λx hx=>hf x (r_ _ hx)) h';have top:∃c',cl.lookup n=some c':=e3 n c (by rw[MK];simp);refine⟨cl,?_,e2,λx d e=>?_,λx hx hfr=>?_⟩
   .simp only[Oa,NG,m_];exact e1
   .by_cases q:x=n
    .rw[q];exact top
    .exact e3 x d (by rw[MK,(J_.mpr q:(x==n)=false)];exact e)
   .rcases G_.mp hx with rfl |hx
    .exact top
    .exact e4 x hx hfr
  .have hb:(k==NameKind.free)=false:=by simpa using hk
   obtain⟨cl,e1,e2,e3,e4⟩:=jg (env:=env) (names:=r) cs (λx hx=>hf x (r_ _ hx)) h;refine⟨cl,?_,e2,e3,λx hx hfr=>?_⟩
   .simp only[hb,Nn,Oe];exact e1
   .rcases G_.mp hx with rfl |hx
    .exact absurd hfr hk
    .exact e4 x hx hfr
def oO{env:Env}{scope:Scope}(hf:∀x∈scope.names,x.2=.free->∃c,env.cells.lookup x.1=some c):
 ∃cl,closureFor scope env=pure cl/\(∀x c,cl.lookup x=some c->env.cells.lookup x=some c)/\∀x∈scope.names,x.2=.free->∃c,cl.lookup x.1=some c:=by
 obtain⟨cl,e1,e2,_,e4⟩:=jg (env:=env) (names:=scope.names) [] hf (λx c e=>by simp at e);refine⟨cl,?_,e2,e4⟩;unfold closureFor;simp only[e1];rfl
noncomputable def bL (X:Cx) (N:List Str) (scope:Scope) (cl:List (Str×Addr)) (C:Addr) (s₂:Shared) (H:Hp) (fp:List Addr):Cx:=
 { X with N:=N,s₀:=s₂,H₀:=H,env:=compEnvC scope cl C X.env,outer:=X.stack,stack:=X.stack,ex:=fp,fn:=λ_=>false,pn:=[],xe:=λ_ _=>False }
noncomputable def d0 (sub:Pd) (σ:St):St:=sub.map λo=>o.bind λi=>(σ[i]?).bind id
def LcW(J:It)(sub:Pd)(g:TG)(tc:TT)(te:TE)(σ:St)(H1:Hp)(Q:VK):Prop:=∃W:Nat->Nat->List V->St->Hp->Prop,(∃m,W 0 m [] (d0 sub σ) H1)/\∀i m ys σ H,W i m ys σ H->
 (J.stop i H/\ys.length<=sizeLine/\∀D,H D=none->Q (.ref D) (upd H D (.lst ys)))\/
 (J.go i H/\ys.length<sizeLine/\∃Nx:List V->St->Hp->Prop,(∀ys' σ' H',Nx ys' σ' H'->∃m',m'<m/\W (i+1) m' ys' σ' H')/\
  ∀x H',J.yld i H x H'->g x σ H' λσ2 H2=>tc σ2 H2 λb H3=>if b=true then te σ2 H3 λy H4=>Nx (ys++[y]) σ2 H4 else Nx ys σ2 H3)
def pb(wi:TI)(sub:Pd)(g:TG)(tc:TT)(te:TE):TE:=λσ H Q=>wi σ H λJ H1=>LcW J sub g tc te σ H1 Q
section
variable{prog:Program}{w:World}{A:Around}{R:Result->Shared->Prop}{s:Shared}
def qS{elt target iter:Expr}{ifs:List Expr}{scope:Scope}{pos:Pos}{it acc:Value}{env:Env}(I:Nat->Shared->Prop)
 (turn
  : ∀n s,I n s->wpAny (model prog w) A (pyNext it) (λr s₁=>match r with
  |none=>R (.ok .next) s₁
  |some v=>wpAny (model prog w) A (letOwnedTupleGo target it v) (λ_ s₁'=>wpAny (model prog w) A (assign target env v) (λ_ s₂=>
   wpAny (model prog w) A (forIn ifs true λc r=>if r=true then do let ok <- isTrue c env (eval c env);pure (ForInStep.yield ok) else pure (ForInStep.yield r))
    (λok s₃=>if ok=true then wpAny (model prog w) A (eval elt env) (λx s₄=>wpAny (model prog w) A (call (.builtin "list.append") [acc,x]) (λ_ s₅=>∃m,m<n/\I m s₅) (λ_ _=>False) s₄) (λ_ _=>False) s₃
     else ∃m,m<n/\I m s₃) (λ_ _=>False) s₂) (λ_ _=>False) s₁') (λ_ _=>False) s₁) (λ_ _=>False) s)
 (n:Nat) (h:I n s):
 codeAny (model prog w) A (.compLoop (.ListComp elt [⟨target,iter,ifs,0⟩] scope pos) 0 it acc env) R s:=by
 refine codeAny_loop rfl I (λn s hI=>?_) n h;show wpAny _ _ ((compTurn (.ListComp elt [⟨target,iter,ifs,0⟩] scope pos) 0 it acc env).onRaise (λx=>do noteFrame x env;theTreesLotGoes x)) _ _ s;refine wpAny_noted ?_;rw[compTurn_list];refine LX (E:=λ_ _=>False) ?_ (λ_ _ q=>q) λ_ _ q=>q.elim;refine p_ (Nm (p_ (LX (turn n s hI) (λr s₁ h₁=>?_) λ_ _ h'=>h')));cases r with
 |none=>exact B_ h₁
 |
  some v=>
  refine p_ (LX h₁ (λ_ s₁' h₁'=>?_) λ_ _ h'=>h');refine p_ (LX h₁' (λ_ s₂ h₂=>?_) λ_ _ h'=>h');refine p_ (LX h₂ (λok s₃ h₃=>?_) λ_ _ h'=>h');cases ok with
  |true=>simp only[NG] at h₃ ⊢;refine p_ (p_ (LX h₃ (λx s₄ h₄=>?_) λ_ _ h'=>h'));refine p_ (LX h₄ (λ_ s₅ h₅=>?_) λ_ _ h'=>h');exact B_ (B_ ⟨rfl,h₅⟩)
  |
   false=>
   simp only[Nn,Oe] at h₃ ⊢;first
    |exact p_ (B_ (B_ ⟨rfl,h₃⟩))
    |exact B_ ⟨rfl,h₃⟩
end
section
variable{X:Cx}
def PTs(X:Cx)(ifs:List Expr)(t:TT):Prop:=
 ∀
  (pins:Pb) (s:Shared) (σ:St) (H:Hp) (Q:Bool->Hp->Prop),Inv X pins σ H s->t σ H Q->
  wpAny (model X.prog X.w) X.A (forIn ifs true λc r=>if r=true then do let ok <- isTrue c X.env (eval c X.env);pure (ForInStep.yield ok) else pure (ForInStep.yield r)) (TP X pins σ Q) X.xe s
def EA:PTs X [] (λ_ H Q=>Q true H):=λpins s σ H Q I h=>by rw[List.forIn_nil];exact B_ ⟨H,I,h⟩
structure LcEnd(X:Cx)(pins:Pb)(σ:St)(Q:VK)(D C:Addr)(s4:Shared):Prop where
 ns:∃m,s4.heap.Ns C m
 dc:D<C
 fr:X.env.locals<D
 cell:∀x c,X.env.cells.lookup x=some c->c<D
 pin:∀p∈X.pn++pins,p.1<D
 sz:X.s₀.heap.objs.size<=D
 inv:∃H',H' C=none/\Q (.ref D) H'/\∀h',Heap.SameBut C s4.heap h'->Inv X pins σ H' { s4 with heap:=h' }
def uf{elt iter tg:Expr}{ifs:List Expr}{scope:Scope}{pos:Pos}{wi:TI}{g:TG}{tc:TT}{te:TE}{N:List Str}{sub:Pd}{use:Option (Value->Sem Unit)}{R:Pc}{pins:Pb}{s:Shared}{σ:St}{H:Hp}{Q:VK}{fpos:Pos}
 (hc:X.calm=true) (hi:PI X tg iter wi)
 (hk:scope.kind=.function) (hnc:∀x∈scope.names,x.2 ≠ .cell) (f_:∀x∈scope.names,x.2=.local->scope.names.lookup x.1=some .local)
 (hfr:∀x∈scope.names,x.2=.free->X.env.kindOf x.1=some .cell\/X.env.kindOf x.1=some .free)
 (hsl:sub.length=N.length) (hsub:∀(j i:Nat) (x:Str),sub[j]?=some (some i)->N[j]?=some x->X.N[i]?=some x/\scope.names.lookup x=some .free)
 (hg:∀cl C s₂ H fp,PG (bL X N scope cl C s₂ H fp) tg g) (ht:∀cl C s₂ H fp,PTs (bL X N scope cl C s₂ H fp) ifs tc) (he:∀cl C s₂ H fp,PE (bL X N scope cl C s₂ H fp) elt te)
 (hs:∀x,foldedSetIterable iter X.env x=pure x) (I:Inv X pins σ H s) (h:pb wi sub g tc te σ H Q)
 (d_:∀D C s4,LcEnd X pins σ Q D C s4->compPost (model X.prog X.w) X.A X.xe use R (.ref D) C (.ok .next) s4):
 wpAny (model X.prog X.w) X.A (comprehension (.ListComp elt [⟨tg,iter,ifs,0⟩] scope pos) scope X.env fpos (newList []) false (eval iter X.env) use) R X.xe s:=by
 obtain⟨cl,hclos,hcl,hclf⟩:=oO (env:=X.env) (scope:=scope) λx hx hf=>I.ok.has x.1 (hfr x hx hf);refine wpAny_comprehension_free rfl hs hclos hk f_ ?_;show wpAny _ _ (eval iter X.env) _ _ _;refine thn (hi pins s σ H _ I h) λv s1 h1=>thn h1 λitv s2 h2=>?_;obtain⟨it,fp,tn,J,H2,e,I2,T,st2,f2,W,⟨m0,w0⟩,turn⟩:=h2;subst e;refine Mr (wpAny_newFunctionEnv hnc (by intro y hy;simp at hy) (λh₁ hns₁ hsb₁=>?_) hk);dsimp only at hns₁ hsb₁ ⊢;generalize hH2:s2.heap.push { cls:=.type "list",dict:=none,data:=.seq ([]:List Value).toArray }=G2 at hns₁ hsb₁ ⊢;have hC:G2.objs.size=s2.heap.objs.size+1:=by rw[<- hH2,NU]
 have hDC:s2.heap.objs.size≠G2.objs.size:=by omega
 have below:∀b,b<s2.heap.objs.size->b≠G2.objs.size/\b≠s2.heap.objs.size:=λb hb=>⟨by omega,by omega⟩;have old:∀b o,s2.heap.get? b=some o->h₁.get? b=some o:=λb o e=>hsb₁.extBut b o (below b (C_ e)).1 (t_ _ (hH2 ▸ t_ _ e));have hD₁:h₁.get? s2.heap.objs.size=some { cls:=.type "list",dict:=none,data:=.seq ([]:List Value).toArray }:=hsb₁.extBut _ _ hDC (t_ _ (hH2 ▸ F_ _ rfl));have fresh:∀a,s2.heap.objs.size<=a->s2.heap.get? a=none:=λa ha=>Og ha;have cellOld:∀x c,cl.lookup x=some c->c<s2.heap.objs.size:=λx c e=>by obtain⟨v,z⟩:=I2.cell x c (hcl x c e);exact z.lt
 have fpOld:∀b∈fp,b<s2.heap.objs.size:=λb hb=>by obtain⟨o,e,_⟩:=T.obj _ _ st2 b hb;exact C_ e
 let Y:Cx:=bL X N scope cl G2.objs.size s2 H2 fp
 have okY:Y.Ok
  := by
  refine⟨I2.ok.mod,?_,I2.ok.glob,I2.ok.blt,?_,λx y c e1 e2=>I2.ok.inj x y c (hcl x c e1) (hcl y c e2),λx hx=>?_,λx c hfn _=>absurd hfn y_,I2.ok.hd,I2.ok.frames,.inl rfl,
   λb hb=>⟨?_,λx c e z=>?_⟩,I2.bs,LU I2.ok.bsz I2.sz,λb o e hb=>?_,λb hb hf=>?_,I2.stack,I2.stkFree⟩
  .show (relabel scope X.env).kind=.function;exact hk
  .show s2.heap.objs.size<=G2.objs.size;omega
  .have hx':(
    relabel scope X.env).names.lookup x=some .cell\/(relabel scope X.env).names.lookup x=some .free:=hx
   have:∃k,
    (x,k)∈scope.names/\k=.free:=by
    have gen:∀(names:List (Str×NameKind)),(∀y∈names,y.2 ≠ .cell)->∀kk,(kk=NameKind.cell\/kk=NameKind.free)->(names.map λ(n,k)=>if (k==NameKind.free&&X.env.scope.kind == .function&&X.env.kindOf n==some .cell) then (n,NameKind.cell) else (n,k)).lookup x=some kk->∃k,(x,k)∈names/\k=.free:=by
     intro names;induction names with
     |nil=>intro _ kk _ e;simp at e
     |
      cons y r ih=>
      intro hn kk hkk e;obtain⟨n,k⟩:=y;rw[u_,MK] at e;by_cases hkf:k=.free
      .subst hkf;by_cases hxn:x=n
       .exact⟨.free,by rw[hxn];exact s_,rfl⟩
       .have hb:(x==(if (NameKind.free==NameKind.free&&X.env.scope.kind == .function&&X.env.kindOf n==some .cell)=true then (n,NameKind.cell) else (n,NameKind.free)).1)=false:=by split <;> exact J_.mpr hxn
        rw[hb] at e;obtain⟨k',m,q⟩:=ih (λz hz=>hn z (r_ _ hz)) kk hkk e;exact⟨k',r_ _ m,q⟩
      .have hb0:(k==NameKind.free&&X.env.scope.kind == .function&&X.env.kindOf n==some .cell)=false:=by
        have:(k==NameKind.free)=false:=by simpa using hkf
        rw[this];rfl
       rw[hb0] at e;simp only[Nn,Oe] at e;cases q:x==n with
       |
        true=>
        rw[q] at e;have e':k=kk:=LB e;subst e';rcases hkk with z |z
        .exact absurd z (hn (n,k) s_)
        .exact absurd z hkf
       |false=>rw[q] at e;obtain⟨k',m,q⟩:=ih (λz hz=>hn z (r_ _ hz)) kk hkk e;exact⟨k',r_ _ m,q⟩
    rcases hx' with z |z
    .exact gen scope.names hnc _ (.inl rfl) z
    .exact gen scope.names hnc _ (.inr rfl) z
   obtain⟨k,m,q⟩:=this;exact hclf (x,k) m q
  .show b≠G2.objs.size;exact (below b (fpOld b hb)).1
  .exact (f2 b hb).2.2.2.2.1 x c (hcl x c e) z
  .rcases (f2 b hb).2.2.2.1 with z |z
   .exact I2.ok.noex b o e z
   .exact absurd (LA (C_ e) (LU I2.ok.bsz z)) (Mj _)
  .have hf':b∈frs X.stack:=hf;rcases G_.mp (I2.stkSub b hf') with z |z
   .exact (f2 b hb).2.1 z
   .exact (f2 b hb).2.2.1 z
 have startLoc
  : ∃m,h₁.Ns G2.objs.size m/\∀(i:Nat) (x:Str) (v:V),N[i]?=some x->(d0 sub σ)[i]?=some (some v)->Vis (relabel scope X.env) x->∃u,RelV v u/\Look Y.env h₁ m x u:=by
  refine⟨_,hns₁,λj x v e1 e2 e3=>?_⟩;unfold d0 at e2;rw[LL] at e2;cases q:sub[j]? with
  |none=>rw[q] at e2;cases e2
  |
   some o=>
   rw[q] at e2;cases o with
   |none=>cases e2
   |
    some i=>
    obtain⟨hNi,hfree⟩:=hsub j i x q e1;have e2':(σ[i]?).bind id=some v:=LB e2;have e2'':σ[i]?=some (some v):=by
     cases z:σ[i]? with
     |none=>rw[z] at e2';cases e2'
     |some y=>rw[z] at e2';rw[show y=some v from e2']
    obtain⟨m2,hn2,hl2⟩:=I2.loc;have hkx:=hfr (x,.free) (MD hfree) rfl;obtain⟨u,r,l⟩:=hl2 i x v hNi e2'' (by rcases hkx with z |z;exact .inr (.inl z);exact .inr (.inr z));refine⟨u,r,.inr ⟨?_,?_⟩⟩
    .rcases e3
      with z |z |z
     .exfalso;have gen:∀(names:List (Str×NameKind)),names.lookup x=some .free->(names.map λ(n,k)=>if (k==NameKind.free&&X.env.scope.kind == .function&&X.env.kindOf n==some .cell) then (n,NameKind.cell) else (n,k)).lookup x=some .local->False:=by
       intro names;induction names with
       |nil=>intro e _;simp at e
       |
        cons y r ih=>
        intro e1 e2;obtain⟨n,k⟩:=y;rw[MK] at e1;rw[u_,MK] at e2;by_cases hxn:x=n
        .have hb1:(x==n)=true:=LW.mpr hxn;rw[hb1] at e1;have:k=.free:=LB e1;subst this;split at e2
         .rename_i hq;split at e2 <;> cases e2
         .rename_i hq;split at hq <;> (rw[hb1] at hq;cases hq)
        .have hb1:(x==n)=false:=J_.mpr hxn;rw[hb1] at e1;refine ih e1 ?_;split at e2
         .rename_i hq;split at hq <;> (rw[hb1] at hq;cases hq)
         .exact e2
      exact gen scope.names hfree z
     .exact .inl z
     .exact .inr z
    .obtain⟨c,hc'⟩:=hclf (x,.free) (MD hfree) rfl;refine⟨c,hc',?_⟩;rcases l with ⟨k,_⟩ |⟨_,c2,ec2,z⟩
     .rcases hkx with z |z <;> (rw[k] at z;cases z)
     .have:=hcl x c hc'
      rw[ec2] at this;cases this;obtain⟨oc,hoc,hd⟩:=z;exact⟨oc,old _ _ hoc,hd⟩
 have pinD:∀{σ':St}{H':Hp}{s':Shared}{pl:Pb}{o:Obj},Inv Y pl σ' H' s'->s'.heap.get? s2.heap.objs.size=some o->(∀v,o.data ≠ .cell v)->H' s2.heap.objs.size=none->Inv Y [(s2.heap.objs.size,o)] σ' H' s':=λ{σ' H' s' pl o} IY e d n=>
  IY.pins_of λp hp=>by
   have e':p=(s2.heap.objs.size,o):=by simpa using hp
   subst e';refine⟨e,n,?_,?_,d⟩
   .show s2.heap.objs.size≠G2.objs.size;omega
   .intro hf;have hf':s2.heap.objs.size∈frs X.stack:=hf;obtain⟨_,o',ho',_⟩:=I2.stack.mem hf';exact absurd (C_ ho') (Mj _)
 have fpY:∀{H':Hp}{pl:Pb},(∀b∈fp,H' b=none)->(∀p∈pl,p.1∉fp)->∀b∈fp,FpOk Y pl H' b:=λ{H' pl} hn hp b hb=>by
  refine⟨hn b hb,?_,?_,.inl hb,λx c e=>?_,λp hp'=>?_⟩
  .exact (okY.exf b hb).1
  .exact okY.exfs b hb
  .exact (okY.exf b hb).2 x c e
  .intro z;have hp'':p∈pl:=by simpa [Y,bL] using hp'
   exact hp p hp'' (by rw[z];exact hb)
 have hDfp:s2.heap.objs.size∉fp:=λz=>Mj _ (fpOld _ z);have loop
  : ∀s₃:Shared,s₃={ s2 with heap:=h₁,toks:=s2.toks+([]:List (Str×Value)).length }->
  codeAny (model X.prog X.w) X.A (.compLoop (.ListComp elt [⟨tg,iter,ifs,0⟩] scope pos) 0 (.ref it) (.ref s2.heap.objs.size) (compEnvC scope cl G2.objs.size X.env))
   (compPost (model X.prog X.w) X.A X.xe use R (.ref s2.heap.objs.size) G2.objs.size) s₃:=by
  rintro s₃ rfl;have IY0:Inv Y [(s2.heap.objs.size,{ cls:=.type "list",dict:=none,data:=.seq ([]:List Value).toArray })] (d0 sub σ) H2 { s2 with heap:=h₁,toks:=s2.toks+([]:List (Str×Value)).length }:=by
   have J0:Inv Y [] (d0 sub σ) H2 { s2 with heap:=h₁,toks:=s2.toks+([]:List (Str×Value)).length }:=by
    refine⟨okY,rfl,I2.bare,Un.kept old,startLoc,λx c e=>?_,I2.hok.fresh (by show s2.heap.objs.size<=G2.objs.size;omega),λx c e=>I2.freeC x c (hcl x c e),λp hp=>absurd (show p∈([]:Pb) from hp) (by simp),I2.hok.kept old,?_⟩
    .obtain⟨v,oc,hoc,hd⟩:=I2.cell x c (hcl x c e);exact⟨v,oc,old _ _ hoc,hd⟩
    .show (d0 sub σ).length=N.length;unfold d0;rw[q_];exact hsl
   exact pinD J0 hD₁ (λv z=>by cases z) I2.fresh
  refine qS (λn s'=>∃(i:Nat) (ys:List V) (its:List Value) (k:Nat) (σ':St) (H':Hp),Inv Y [(s2.heap.objs.size,{ cls:=.type "list",dict:=none,data:=.seq its.toArray k })] σ' H' s'/\Vals ys its/\tn i s'.heap/\(∀b∈fp,H' b=none)/\W i n ys σ' H') ?_ m0
   ⟨0,[],[],0,d0 sub σ,H2,IY0,.nil,T.keep _ _ _ st2 (λb hb o e=>old b o e),λb hb=>(f2 b hb).1,w0⟩
  rintro n s3 ⟨i,ys,its,k,σ3,H3,I3,rv,st3,fr3,w3⟩;have npl:∀(o:Obj),∀p∈[(s2.heap.objs.size,o)],p.1∉fp:=λo p hp=>by
   have e':p=(s2.heap.objs.size,o):=by simpa using hp
   subst e';exact hDfp
  rcases turn i n ys σ3 H3 w3 with ⟨stop,hz,qn⟩ |⟨go,hz,Nx,hNx,step⟩
  .refine LX (T.done Y rfl rfl rfl hc i _ s3 σ3 H3 (λ_ _=>False) I3 (fpY fr3 (npl _)) st3 stop) (λr s4 ⟨hr,I4⟩=>?_) λ_ _ z=>z;subst hr;obtain⟨m4,hn4,_⟩:=I4.loc;have hCfree:H3 G2.objs.size=none:=I4.free;have hD4:=I4.pin (s2.heap.objs.size,{ cls:=.type "list",dict:=none,data:=.seq its.toArray k }) (LJ _ s_);have un4:Un (frs X.stack) fp H2 H3 s2.heap s4.heap:=I4.base;have ne2:∀b o,s2.heap.get? b=some o->b≠G2.objs.size:=λb o e=>(below b (C_ e)).1;have hDfree:H3 s2.heap.objs.size=none:=hD4.2.1;have sz0:X.s₀.heap.objs.size<=s2.heap.objs.size:=I2.sz;refine d_ s2.heap.objs.size G2.objs.size s4 ⟨⟨m4,hn4⟩,by rw[hC];exact Nat.lt_succ_self _,I2.lt,λx c e=>?_,λp hp=>C_ (I2.pin p hp).1,sz0,upd H3 s2.heap.objs.size (.lst ys),by rw[aB (Ne.symm hDC)];exact hCfree,qn _ hDfree,λh' hs'=>?_⟩
   .obtain⟨v,q⟩:=I2.cell x c e;exact q.lt
   have up:∀b o,b≠G2.objs.size->s4.heap.get? b=some o->h'.get? b=some o:=λb o hb e=>hs'.extBut b o hb e;have un5:Un (frs X.stack) fp H2 H3 s2.heap h':=by
    refine⟨λb o e n hb hx=>up b o (ne2 b o e) (un4.keep b o e n hb hx),λb o e n hb hx=>?_,un4.free,λb o e hx=>?_,un4.tups,un4.frzs,un4.tbls⟩
    .obtain⟨sl,q⟩:=un4.slot b o e n hb hx;exact⟨sl,up b _ (ne2 b o e) q⟩
    .obtain⟨o',q⟩:=un4.there b o e hx;exact⟨o',up b _ (ne2 b o e) q⟩
   have hok5:HOk X.prog X.w H3 h':=λb u e=>(I4.hok b u e).stay (λc v hcc q=>up c v (λz=>by
    rcases hcc with zz |zz
    .rw[zz] at z;rw[z,hCfree] at e;cases e
    .rw[z,hCfree] at zz;cases zz) q) (λ_ q=>q) λ_ _ q=>q
   have I5:Inv X pins σ H3 { s4 with heap:=h' }:=I2.call' (s':={ s4 with heap:=h' }) (ch:=fp) I4.os un5 hok5 I4.bare λb hb=>by obtain⟨_,g1,_,g3,g4,g5⟩:=f2 b hb;exact⟨g3,g1,g4,g5⟩
   refine I5.track (o:=.lst ys) hDfree (Og sz0) (ND I2.lt) (λx c e z=>?_) (λp hp z=>?_) ?_
   .obtain⟨v,q⟩:=I2.cell x c e;exact absurd q.lt (by rw[z];exact Mj _)
   .exact absurd (C_ (I2.pin p hp).1) (by rw[z];exact Mj _)
   .exact⟨hz,its,k,rv,up _ _ hDC hD4.1⟩
  .refine LX (T.item Y rfl rfl rfl hc i _ s3 σ3 H3 (λ_ _=>False) I3 (fpY fr3 (npl _)) st3 go) (λr s4 ⟨u,hr,h4⟩=>?_) λ_ _ z=>z;subst hr;refine LX h4 (λ_ s5 ⟨x,H5,I5,r5,y5,st5,fr5⟩=>?_) λ_ _ z=>z;have I5':=I5.pinned (fpY fr5 (npl _)) (T.obj _ _ st5);refine LX (hg cl G2.objs.size s2 H2 fp _ s5 σ3 H5 x u _ I5' r5 (step x H5 y5)) (λ_ s6 ⟨σ6,H6,I6,q6⟩=>?_) λ_ _ z=>z;refine LX (ht cl G2.objs.size s2 H2 fp _ s6 σ6 H6 _ I6 q6) (λok s7 ⟨H7,I7,q7⟩=>?_) λ_ _ z=>z;have back:∀{σ':St}{H':Hp}{s':Shared},Inv Y ([(s2.heap.objs.size,{ cls:=.type "list",dict:=none,data:=.seq its.toArray k })]++jw fp s5.heap) σ' H' s'->tn (i+1) s'.heap/\∀b∈fp,H' b=none:=λ{σ' H' s'} IB=>by refine⟨T.keep _ _ _ st5 λb hb o e=>(IB.pin (b,o) (LJ _ (LJ _ (fZ hb e)))).1,λb hb=>?_⟩;obtain⟨o,e,d⟩:=T.obj _ _ st5 b hb;exact (IB.pin (b,o) (LJ _ (LJ _ (fZ hb e)))).2.1
   cases ok with
   |false=>rw[if_neg y_] at q7;obtain⟨m',hm,w7⟩:=hNx _ _ _ q7;rw[if_neg y_];obtain⟨t7,f7⟩:=back I7;exact⟨m',hm,i+1,ys,its,k,σ6,H7,I7.unpinned,rv,t7,f7,w7⟩
   |
    true=>
    rw[if_pos rfl] at q7;rw[if_pos rfl];refine LX (he cl G2.objs.size s2 H2 fp _ s7 σ6 H7 _ I7 q7) (λy s8 zz=>exA zz λyv H8 I8 r8 q8=>?_) λ_ _ z=>z;obtain⟨m',hm,w8⟩:=hNx _ _ _ q8;obtain⟨t8,f8⟩:=back I8;have I9:=I8.unpinned;have hD9:=I9.pin (s2.heap.objs.size,{ cls:=.type "list",dict:=none,data:=.seq its.toArray k }) (LJ _ s_);have e9:s8.heap.get? s2.heap.objs.size=some { cls:=.type "list",dict:=none,data:=.seq its.toArray k }:=hD9.1;have b_:=rv.length;refine Ot F.slot_list_append ⟨_,e9,rfl⟩ F.entry_list_append (F.args_list_append_2 _ _) (PySem.list_append _ its.toArray k y (by rw[A_];omega)) ⟨e9,?_⟩;have q9:=PySem.IsL.update e9 (λxs=>xs.push y);have ea:its.toArray.push y=(its++[y]).toArray:=by simp
    rw[ea] at q9;have k9:∀b o,b≠s2.heap.objs.size->s8.heap.get? b=some o->(s8.heap.update s2.heap.objs.size (Obj.mapSeq λxs=>xs.push y)).get? b=some o:=λb o hb e=>(NY _ _ (Ne.symm hb)).trans e;have I10:Inv Y [] σ6 H8 { s8 with heap:=s8.heap.update s2.heap.objs.size (Obj.mapSeq λxs=>xs.push y) }:=
     (I9.pins_of (pins':=[]) (λp hp=>nomatch hp)).turned (t':=s8.toks) k9 hD9.2.1 hD9.2.2.1 (.inr (v_ _)) (λx c e z=>absurd (cellOld x c e) (by rw[z];exact Mj _))
      (λp hp=>absurd (show p∈([]:Pb) from hp) (by simp))
    refine⟨m',hm,i+1,ys++[yv],its++[y],_,σ6,H8,pinD I10 q9 (λv z=>by cases z) hD9.2.1,rv.append (.cons r8 .nil),?_,f8,w8⟩;exact T.keep _ _ _ t8 λb hb o e=>k9 b o (λz=>hDfp (by rw[<- z];exact hb)) e
 exact codeAny_compStart_list (loop _ rfl) (T.self _ 0 _ _ _ (T.keep _ _ _ st2 λb hb o e=>old b o e) (loop _ rfl))
def Fw{elt iter tg:Expr}{ifs:List Expr}{scope:Scope}{pos:Pos}{wi:TI}{g:TG}{tc:TT}{te:TE}{N:List Str}{sub:Pd}
 (hc:X.calm=true) (hi:PI X tg iter wi)
 (hk:scope.kind=.function) (hnc:∀x∈scope.names,x.2 ≠ .cell) (f_:∀x∈scope.names,x.2=.local->scope.names.lookup x.1=some .local)
 (hfr:∀x∈scope.names,x.2=.free->X.env.kindOf x.1=some .cell\/X.env.kindOf x.1=some .free)
 (hsl:sub.length=N.length) (hsub:∀(j i:Nat) (x:Str),sub[j]?=some (some i)->N[j]?=some x->X.N[i]?=some x/\scope.names.lookup x=some .free)
 (hg:∀cl C s₂ H fp,PG (bL X N scope cl C s₂ H fp) tg g) (ht:∀cl C s₂ H fp,PTs (bL X N scope cl C s₂ H fp) ifs tc) (he:∀cl C s₂ H fp,PE (bL X N scope cl C s₂ H fp) elt te)
 (hs:∀x,foldedSetIterable iter X.env x=pure x):
 PE X (.ListComp elt [⟨tg,iter,ifs,0⟩] scope pos) (pb wi sub g tc te):=by
 intro pins s σ H Q I h;rw[eval_ListComp];refine uf hc hi hk hnc f_ hfr hsl hsub hg ht he hs I h λD C s4 e=>?_;obtain⟨m,hm⟩:=e.ns;obtain⟨H',_,q,i⟩:=e.inv;exact⟨m,hm,λh' hs'=>⟨.ref D,H',i h' hs',rfl,q⟩⟩
noncomputable def oX (M:List Str) (names:List (Str×NameKind)) (sub:Pd) (N:List Str):Bool:=(sub.zip N).all λp=>match p.1 with
 |none=>true
 |some i=>M[i]?==some p.2&&names.lookup p.2==some .free
def pX{M:List Str}{names:List (Str×NameKind)}{sub:Pd}{N:List Str}(h:oX M names sub N=true)(j i:Nat)(x:Str)(h1:sub[j]?=some (some i))(h2:N[j]?=some x):
 M[i]?=some x/\names.lookup x=some .free:=by
 unfold oX at h;rw[LQ] at h;have hm:(some i,x)∈sub.zip N:=by refine NH (i:=j) ?_;rw[List.getElem?_zip_eq_some];exact⟨h1,h2⟩
 have q:=h _ hm;simp only[w_,LW] at q;exact q
noncomputable def vk (kn names:List (Str×NameKind)):Bool:=names.all λx=>x.2 != .free || kn.lookup x.1==some .cell || kn.lookup x.1==some .free
def tf{kn names:List (Str×NameKind)}(h:vk kn names=true):∀x∈names,x.2=.free->kn.lookup x.1=some .cell\/kn.lookup x.1=some .free:=λx hx hf=>by unfold vk at h;rw[LQ] at h;have q:=h x hx;rw[hf] at q;simpa using q
end
open PySem PySem.Spec PyProof.Rows PySem.W PySem.Builtin PySem.Builtin.ObjectAttr PySem.Builtin.Getset_descriptor
structure XCls(K:W.Frag)(C:Addr):Prop where
 cls:(clsIn K C).isSome=true
 ga:findIn K (.ref C) "__getattribute__"=some (some (.builtin "BaseException.__getattribute__"))
 gt:findIn K (.ref C) "__getattr__"=some none
 at_:findIn K (.ref C) "__class__"=some (some (.builtin "object.__class__"))
 gs:specialIn K (.builtin "object.__class__") "__get__"=some (some (.builtin "getset_descriptor.__get__"))
 tk:takesIn K (.builtin "object.__class__")=some true
 mo:mroIn K C (.type "object")=some true
 mb:mroIn K C (.type "BaseException")=some true
section
variable{prog:Program}{w:World}{A:Around}{E:Pc}{K:W.Frag}{x C:Addr}{o:Obj}
def jb(hx:h.get? x=some o)(hc:o.cls=.ref C):Looks M h (typeOf (.ref x)) (.ref C):=hc ▸ (Looks.ld hx).andThen .now
def AX(X:K.In h)(T:XCls K C):Looks M h (find (.ref x) (.ref C) "__class__") (.bind (.builtin "getset_descriptor.__get__") (.builtin "object.__class__")):=by have L1:=looks_findIn (M:=M) X T.at_;have L2:Looks M h (getOf (some (.builtin "object.__class__"))) (some (.builtin "getset_descriptor.__get__")):=looks_specialIn X T.gs;have L3:=looks_takesIn (M:=M) X T.tk;refine L1.andThen (L2.andThen ?_);exact (show Looks M h (dataDescriptor? (some (.builtin "object.__class__")) (some (.builtin "getset_descriptor.__get__"))) (some (.builtin "getset_descriptor.__get__",.builtin "object.__class__")) from L3.andThen .now).andThen (Looks.tag .now)
def oz(X:K.In s.heap)(hx:s.heap.get? x=some o)(hc:o.cls=.ref C)(T:XCls K C)
 (h:R (.ok (.ret (.ref C))) s):codeAny (model prog w) A (.call (.builtin "getset_descriptor.__get__") ⟨[.builtin "object.__class__",.ref x,tp],[]⟩) R s:=by
 obtain⟨hh,g,dr,t,os⟩:=s;have L0:=jb (M:=model prog w) hx hc;have L1:=looks_mroIn (M:=model prog w) X T.mo;refine codeAny_call_builtin KF.slot_gs.plain KF.entry_gs (KF.slot_gs.check _ _ _ _ _ _ _ _ KF.type_class (KF.args_gs _ _ _) ?_);unfold Builtin.«getset_descriptor.__get__» descrGet;rw[dga_obj];refine p_ (B_ ?_);unfold descrGetter descrCheckInstance descrNameAndClass isInstance;simp only[KF.owner_class];repeat lk
 refine⟨Code.quiet_builtin _ (by decide),Ou KF.entry_class ?_⟩;unfold Builtin.«object.__class__» shownTypeOf;repeat lk
 exact h
def xm(X:K.In s.heap)(hx:s.heap.get? x=some o)(hc:o.cls=.ref C)(T:XCls K C)(hq:Q () s):
 wpAny M A (checkBuiltinCall "BaseException.__getattribute__" ⟨[.ref x,nameV],[]⟩) Q E s:=by
 obtain⟨h,g,dr,t,os⟩:=s;have hk:builtinKind "BaseException.__getattribute__"=some .slot:=by decide
 have hsplit:splitId "BaseException.__getattribute__"=some ("BaseException", "__getattribute__"):=by decide
 have ha:=PySem.F.args_bexc_ga (.ref x) nameV;have L0:=jb (M:=M) hx hc;have LM:=looks_mroIn (M:=M) X T.mb;have LI:Looks M h (isInstance (.ref x) (.type "BaseException")) true:=L0.andThen LM;simp only[checkBuiltinCall,hk,hsplit];refine p_ ?_;refine LI.at ?_;repeat (first |wp_step)
 all_goals exact hq
def Gy(X:K.In s.heap)(hx:s.heap.get? x=some o)(hc:o.cls=.ref C)(T:XCls K C)(h:Q (some (.ref C)) { s with toks:=s.toks+1 }):
 wpAny (model prog w) A (getAttr? (.ref x) "__class__") Q E s:=by
 obtain⟨hh,g,d,t,os⟩:=s;have L0:=jb (M:=model prog w) hx hc;have L1:=looks_findIn (M:=model prog w) X T.ga;have L2:=looks_findIn (M:=model prog w) X T.gt;have LF:=AX (M:=model prog w) (x:=x) X T;have f3:=PySem.F.excAttr_ValueError.ga.bind (.ref x);have hx2:(Value.builtin "BaseException.__getattribute__" == Value.builtin "object.__getattribute__")=false:=by decide
 unfold getAttr? getAttrBy? getAttrBy;refine p_ (wpAny_mkText (p_ (N6 (Mx (p_ (L0.at (p_ (L1.at ?_))))))));dsimp only;rw[if_neg (by rw[hx2];simp)];unfold getAttrByItsOwn hookBefore;rw[if_pos (show onTheHeap (Value.ref C)=true from rfl)];refine p_ (L2.at ?_);unfold callGetattribute;refine p_ (N6 (Mx ?_));rw[if_neg (by simp)];unfold boundAndCalled;refine p_ (wpAny_of_eq f3 ?_);refine wpAny_call (codeAny_call_builtin PySem.F.excAttr_ValueError.ga.plain PySem.F.entry_bexc_ga (xm X hx hc T ?_));unfold Builtin.«object.__getattribute__»;repeat (first |(refine p_ (L0.at ?_)) |(refine p_ (LF.at ?_)) |wp_step)
 refine oz (s:=⟨hh,g,d,t+1,os⟩) X hx hc T ?_;repeat (first |exact h |wp_step)
def va(x:Addr)(C:Addr)(h:Heap):Prop:=∃o vs,h.get? x=some o/\o.cls=.ref C/\o.data=.fields vs
def Ax(T:XCls K C):KitX K (.ref x) (.ref C) (va x C) where
 ty:=λM h _ ⟨o,_,hx,hc,_⟩=>jb hx hc
 it:=λM h X _=>by
  obtain⟨cd,o_⟩:=MR.mp T.cls;unfold clsIn at o_;split at o_
  .rename_i c' d' cd' sl' ho;intro A' Q' E' s' k q;unfold isType loadHead;exact p_ (wpAny_loadPart (k _ _ (X _ _ ho)) (B_ q))
  .cases o_
 ne:=λh tp dd its n sl X htp=>by
  obtain⟨cd,o_⟩:=MR.mp T.cls;refine Bool.eq_false_iff.mpr λq=>?_;have e:C=tp:=Value.ref.inj (LW.mp q);subst e;unfold clsIn at o_;split at o_
  .rename_i c' d' cd' sl' ho;have z:=(X _ _ ho).symm.trans htp;cases z
  .cases o_
 ca:=λX ⟨o,_,hx,hc,_⟩ k=>Gy X hx hc T k
end
inductive TyX(K:W.Frag)(H:Hp):V->Value->Prop where
 |of {x:V}{t:Value} (h:TyOf K H x t):TyX K H x t
 |exc {a C:Addr} (e:H a=some (.ext (va a C))) (T:XCls K C):TyX K H (.ref a) (.ref C)
 |sqT {a:Addr}{xs:List V} (h:SqT K H a xs):TyX K H (.ref a) (.type "tuple")
 |sqL {a:Addr}{xs:List V} (h:SqL K H a xs):TyX K H (.ref a) (.type "list")
section
variable{X:Cx}{pins:Pb}{σ:St}{H:Hp}{s:Shared}{c:Value}
def ud(I:Inv X pins σ H s)(rx:RelV x u)(ty:TyX X.K H x t):∃Hh:Heap->Prop,KitX X.K u t Hh/\Hh s.heap/\u ≠ .builtin "__main__.__loader__#opaque":=by
 cases ty with
 |exc ea T=>cases (show u=Value.ref _ from rx);exact⟨_,Ax T,(I.hok _ _ ea).1,λz=>nomatch z⟩
 |sqT h=>cases (show u=Value.ref _ from rx);obtain⟨its,rv,⟨o,e,c,_⟩,_⟩:=I.tuple h;exact⟨_,kitx_tuple,⟨o,e,c⟩,λz=>nomatch z⟩
 |sqL h=>cases (show u=Value.ref _ from rx);obtain⟨its,rv,⟨o,n,e,c,_⟩,_⟩:=I.list h;exact⟨_,kitx_list,⟨o,e,c⟩,λz=>nomatch z⟩
 |
  of ty=>
  cases ty with
  |non=>cases (show u=Value.none from rx);exact⟨_,kitx_none,True.intro,λz=>nomatch z⟩
  |bl y=>cases (show u=Value.bool y from rx);exact⟨_,kitx_bool,True.intro,λz=>nomatch z⟩
  |int i=>obtain⟨t,q⟩:=(show ∃t,u=Value.int i t from rx);cases q;exact⟨_,kitx_int,True.intro,λz=>nomatch z⟩
  |str y=>obtain⟨t,q⟩:=(show ∃t,u=Value.str y t from rx);cases q;exact⟨_,kitx_str,True.intro,λz=>nomatch z⟩
  |flt y=>obtain⟨t,q⟩:=(show ∃t,u=Value.float y t from rx);cases q;exact⟨_,kitx_float,True.intro,λz=>nomatch z⟩
  |@lst a xs ea=>cases (show u=Value.ref a from rx);obtain⟨_,_,n,_,h1⟩:=(show ObjOk X.prog X.w H s.heap a (.lst xs) from I.hok a _ ea);exact⟨_,kitx_list,⟨_,h1,rfl⟩,λz=>nomatch z⟩
  |@frz a ob xs ea=>cases (show u=Value.ref a from rx);obtain⟨_,_,_,n,_,h1⟩:=(show ObjOk X.prog X.w H s.heap a (.frz ob (.lst xs)) from I.hok a _ ea);exact⟨_,kitx_list,⟨_,h1,rfl⟩,λz=>nomatch z⟩
  |@tup a xs ea=>cases (show u=Value.ref a from rx);obtain⟨_,_,_,p⟩:=(show ObjOk X.prog X.w H s.heap a (.tup xs) from I.hok a _ ea);obtain⟨o,h1,h2,_⟩:=p;exact⟨_,kitx_tuple,⟨o,h1,h2⟩,λz=>nomatch z⟩
  |@dK a kvs ea=>cases (show u=Value.ref a from rx);obtain⟨_,_,vs,_,p⟩:=(show ObjOk X.prog X.w H s.heap a (.dK kvs) from I.hok a _ ea);obtain⟨o,es,ep,h1,h2,_⟩:=p;exact⟨_,kitx_dict,⟨o,h1,h2.1⟩,λz=>nomatch z⟩
  |@dT a kvs ea=>cases (show u=Value.ref a from rx);obtain⟨_,_,xs,_,o,es,ep,h1,h2,_⟩:=(show ObjOk X.prog X.w H s.heap a (.dT kvs) from I.hok a _ ea);exact⟨_,kitx_dict,⟨o,h1,h2.1⟩,λz=>nomatch z⟩
  |@ins a C dx fs ea cl ha hn htk hm=>cases (show u=Value.ref a from rx);obtain⟨mA,O,_⟩:=DB I.hok ea;obtain⟨od,J,_⟩:=O.look;exact⟨_,kitx_own (cl.get _) cl.hd ha hn htk hm,J,λz=>nomatch z⟩
end
section
variable{X:Cx}
noncomputable def eZ:V->Option Value
 |.ref C=>some (.ref C)
 |.ty T=>some (.type T)
 |_=>none
def sj(h:eZ c=some v)(r:RelV c u):u=v:=by
 cases c with
 |ref C=>cases r;exact LB h
 |ty T=>cases r;exact LB h
 |_=>cases h
theorem nV:∀{cs:List V}{us vs:List Value},cs.mapM eZ=some vs->Vals cs us->us=vs
 |
  [],_,vs,h,.nil=>by
  have h':some ([]:List Value)=some vs:=h;exact LB h'
 |
  c::cs,_,vs,h,.cons r rr=>by
  rw[List.mapM_cons] at h;cases q:eZ c with
  |none=>rw[q] at h;cases h
  |
   some v=>
   rw[q] at h;cases q2:cs.mapM eZ with
   |none=>rw[q2] at h;cases h
   |some vs'=>rw[q2] at h;have h':some (v::vs')=some vs:=h;cases h';rw[sj q r,nV q2 rr]
def zU:CallR X (.builtin "isinstance") (λxs H Q=>∃x c t v b,xs=[x,c]/\TyX X.K H x t/\eZ c=some v/\kitOne X.K t v=some b/\Q (.bl b) H):=by intro pins s σ H xs us Q I r h;obtain⟨x,c,t,v,b,rfl,ty,hc,hk,q⟩:=h;obtain⟨u,w',rfl,rx,rc⟩:=lD r;obtain rfl:=sj hc rc;obtain⟨Hh,Z,p,hne⟩:=ud I rx ty;exact kia_one Z I.kIn p hk hne λtk=>⟨.bl b,H,I.tok _,rfl,q⟩
end
def ObjOk.there(x:ObjOk P w H h a o):∃u,h.get? a=some u:=by
 cases o with
 |lst xs=>obtain⟨_,_,_,_,e⟩:=x;exact⟨_,e⟩
 |tup xs=>obtain⟨_,_,_,ob,e,_⟩:=x;exact⟨_,e⟩
 |dK kvs=>obtain⟨_,_,_,_,o,_,_,e,_⟩:=x;exact⟨_,e⟩
 |dT kvs=>obtain⟨_,_,_,_,o,_,_,e,_⟩:=x;exact⟨_,e⟩
 |set S n=>obtain⟨o,_,_,_,e,_⟩:=x;exact⟨_,e⟩
 |ins C dx fs=>obtain⟨_,_,_,e,_⟩:=x;exact⟨_,e⟩
 |own y=>exact x
 |xd fs=>obtain⟨_,⟨_,_,_,e,_⟩,_⟩:=x;exact⟨_,e⟩
 |rng lo hi=>obtain⟨_,_,_,e⟩:=x;exact⟨_,e⟩
 |frz ob u=>obtain⟨e,_⟩:=x;exact⟨_,e⟩
 |tbl ps=>exact⟨_,show h.get? a=some _ from x⟩
 |met f y=>exact⟨_,show h.get? a=some _ from x⟩
 |ext φ=>obtain⟨_,e,_⟩:=x;exact e
structure Fly(P:Program)(w:World)(outer:List Env)(H:Hp)(h₀:Heap)(H':Hp)(ea:Addr)(cls:Value)(h:Heap)(B:Heap)(t:Addr):Prop where
 un:Un (frs outer) [] H H' h₀ h
 hok:HOk P w H' h
 fl:Heap.FlyingW B outer ea cls (.ref t) h
 old:∀b o,h₀.get? b=some o->b∉frs outer->∃o',B.get? b=some o'
 trk:∀b o,H' b=some o->∃o',B.get? b=some o'
def CX1(P:Program)(w:World):CXT:=λouter H s E e s'=>∃(ea t:Addr) (cls:Value) (H':Hp) (B:Heap),e=.ref ea/\s'.os=s.os/\AllBare s'.gens/\Fly P w outer H s.heap H' ea cls s'.heap B t/\E cls none H'
def rT(h:env.frame=some L):frs (env::outer)=L::frs outer:=by unfold frs;rw[MZ,h]
section
variable{P:Program}{w:World}{outer:List Env}{H H':Hp}{h₀ h h' B:Heap}{ea t:Addr}{cls:Value}
def Fly.step(F:Fly P w outer H h₀ H' ea cls h B t)(fl':Heap.FlyingW B outer' ea cls (.ref t) h')(up:h.UpToSlots h'):
 Un (frs outer) [] H H' h₀ h'/\HOk P w H' h':=by
 have st:=F.fl.1;have same:∀b o,(∃o',B.get? b=some o')->h.get? b=some o->h'.get? b=some o:=λb o ⟨o',e⟩ q=>by have z:=st b o' e;rw[q] at z;cases z;exact fl'.1 b _ e
 have frame:∀b o,b∈frs outer->h.get? b=some o->∃sl,h'.get? b=some { o with slots:=sl }:=λb o hb q=>by obtain⟨_,o',ho',hd⟩:=F.fl.2.2.1.mem hb;rw[q] at ho';cases ho';exact up b o q hd
 refine⟨⟨λb o e n hb hx=>same b o (F.old b o e hb) (F.un.keep b o e n hb hx),λb o e n hb hx=>?_,F.un.free,λb o e hx=>?_,F.un.tups,F.un.frzs,F.un.tbls⟩,λa o e=>?_⟩
 .obtain⟨sl,q⟩:=F.un.slot b o e n hb hx;obtain⟨sl',q'⟩:=frame b _ hb q;exact⟨sl',q'⟩
 .obtain⟨o',q⟩:=F.un.there b o e hx;by_cases hb:b∈frs outer
  .obtain⟨sl,q'⟩:=frame b _ hb q;exact⟨_,q'⟩
  .exact⟨o',same b o' (F.old b o e hb) q⟩
 .refine (F.hok a o e).stay (λb u hb q=>same b u ?_ q) (λ_ q=>q) λ_ _ q=>q;rcases hb with z |z
  .rw[z];exact F.trk a o e
  .exact F.trk b _ z
end
structure Cx.Top(X:Cx):Prop where
 ex:X.ex=[]
 stk:X.stack=X.env::X.outer
 fr:X.env.frame=some X.env.locals
section
variable{X:Cx}{pins:Pb}{σ:St}{H:Hp}{s s':Shared}{E:XK}{e:Value}
def yx(T:X.Top)(hA:A.frames=some X.stack)(I:Inv X pins σ H s)(h:CX1 X.prog X.w X.stack H s E e s'):
 wpAny (model X.prog X.w) A (leaving X.env e) (λ_ s''=>CX1 X.prog X.w X.outer X.H₀ X.s₀ E e s'') E' s':=by
 obtain⟨ea,t,cls,H',B,rfl,os,bare,F,q⟩:=h;have F0:=F;rw[T.stk] at F;have hf:=rT (outer:=X.outer) T.fr;refine wpAny_leaves_onW (by rw[hA,T.stk]) T.fr F.fl λh'' fl'' up=>?_;obtain⟨un2,hok2⟩:=F.step fl'' up;have exn:∀b,b∉X.ex:=λb z=>by rw[T.ex] at z;cases z
 have neL:∀b o,X.s₀.heap.get? b=some o->b≠X.env.locals:=λb o e=>LG (LA (C_ e) I.ok.above);have notin:∀b o,X.s₀.heap.get? b=some o->b∉frs X.outer->b∉frs (X.env::X.outer):=λb o e hb z=>by
  rw[hf] at z;rcases G_.mp z with z |z
  .exact neL b o e z
  .exact hb z
 refine⟨ea,t,cls,H',B,rfl,os.trans I.os,bare,⟨⟨λb o e n hb hx=>?_,λb o e n hb hx=>?_,λb o e n hx=>?_,λb o e hx=>?_,λb xs e=>un2.tups b xs (I.base.tups b xs e),λb o xs e=>un2.frzs b o xs (I.base.frzs b o xs e),λb ps e=>?_⟩,hok2,fl'',λb o e hb=>?_,F.trk⟩,q⟩
 .exact un2.keep b o (I.base.keep b o e n hb (exn b)) (I.base.free b o e n (exn b)) (notin b o e hb) (by simp)
 .obtain⟨sl,e1⟩:=I.base.slot b o e n hb (exn b);obtain⟨sl',e2⟩:=un2.slot b _ e1 (I.base.free b o e n (exn b)) (by rw[hf];exact r_ _ hb) (by simp);exact⟨sl',e2⟩
 .obtain⟨o',e1⟩:=I.base.there b o e (exn b);exact un2.free b o' e1 (I.base.free b o e n (exn b)) (by simp)
 .obtain⟨o',e1⟩:=I.base.there b o e (exn b);exact un2.there b o' e1 (by simp)
 .obtain⟨m1,e1⟩:=I.base.tbls b ps e;obtain⟨m2,e2⟩:=un2.tbls b _ e1;exact⟨m1++m2,by rw[e2,Array.append_assoc]⟩
 .obtain⟨o',e1⟩:=I.base.there b o e (exn b);exact F.old b o' e1 (notin b o e hb)
def zL(T:X.Top)(hA:A.frames=some X.stack)(I:Inv X pins σ H s)(hx:Heap.MadeExcOf s.heap h' ea cls args)(q:E cls none H):
 wpAny (model X.prog X.w) A (leaving X.env (.ref ea)) (λ_ s''=>CX1 X.prog X.w X.outer X.H₀ X.s₀ E (.ref ea) s'') E' { s with heap:=h' }:=by
 have hf:=rT (outer:=X.outer) T.fr;have stk:=I.stack;rw[T.stk] at stk;have hin:∀env∈(X.env::X.outer),∀b,env.frame=some b->b∈frs (X.env::X.outer):=λenv he b hb=>List.mem_filterMap.mpr ⟨env,he,hb⟩;refine wpAny_leaves_madeW (base:=W.hideAll s.heap (frs (X.env::X.outer))) (h:=s.heap) (by rw[hA,T.stk]) T.fr (λb o q=>W.of_hideAll _ q) (W.funFrames_hide stk hin) hx λh'' t fl tup tn up=>?_;have inB:∀b o,s.heap.get? b=some o->b∉frs (X.env::X.outer)->(W.hideAll s.heap (frs (X.env::X.outer))).get? b=some o:=λb o e hb=>W.hideAll_get _ e hb;have free:∀b∈frs (X.env::X.outer),H b=none:=λb hb=>I.stkFree b (by rw[T.stk];exact hb);have up2:s.heap.UpToSlots h'':=(Heap.UpToSlots.of_keeps hx.keeps).trans up;have exn:∀b,b∉X.ex:=λb z=>by rw[T.ex] at z;cases z
 have neL:∀b o,X.s₀.heap.get? b=some o->b≠X.env.locals:=λb o e=>LG (LA (C_ e) I.ok.above);have notin:∀b o,X.s₀.heap.get? b=some o->b∉frs X.outer->b∉frs (X.env::X.outer):=λb o e hb z=>by
  rw[hf] at z;rcases G_.mp z with z |z
  .exact neL b o e z
  .exact hb z
 have trk:∀b o,H b=some o->∃o',(W.hideAll s.heap (frs (X.env::X.outer))).get? b=some o':=λb o e=>by obtain⟨u,hu⟩:=(I.hok b o e).there;exact⟨u,inB b u hu λz=>by rw[free b z] at e;cases e⟩
 refine⟨ea,t,cls,H,_,rfl,I.os,I.bare,⟨⟨λb o e n hb hx=>?_,λb o e n hb hx=>?_,λb o e n hx=>?_,λb o e hx=>?_,I.base.tups,I.base.frzs,I.base.tbls⟩,λa o e=>?_,fl,λb o e hb=>?_,trk⟩,q⟩
 .exact fl.1 b o (inB b o (I.base.keep b o e n hb (exn b)) (notin b o e hb))
 .obtain⟨sl,e1⟩:=I.base.slot b o e n hb (exn b);obtain⟨_,o',ho',hd⟩:=I.ok.funs.mem hb;rw[e] at ho';cases ho';obtain⟨sl',e2⟩:=up2 b _ e1 hd;exact⟨sl',e2⟩
 .exact I.base.free b o e n (exn b)
 .obtain⟨o',e1⟩:=I.base.there b o e (exn b);by_cases hb:b∈frs X.outer
  .obtain⟨_,o2,ho2,hd⟩:=I.funs.mem hb;rw[e1] at ho2;cases ho2;obtain⟨sl',e2⟩:=up2 b _ e1 hd;exact⟨_,e2⟩
  .exact⟨o',fl.1 b o' (inB b o' e1 (notin b o e hb))⟩
 .refine (I.hok a o e).stay (λb u hb q=>?_) (λ_ q=>q) λ_ _ q=>q;refine fl.1 b u (inB b u q λz=>?_);rcases hb with y |y
  .rw[y] at z;rw[free a z] at e;cases e
  .rw[free b z] at y;cases y
 .obtain⟨o',e1⟩:=I.base.there b o e (exn b);exact⟨o',inB b o' e1 (notin b o e hb)⟩
end
section
variable{P:Program}{w:World}{K:W.Frag}{mg:Pa}{base:Heap}{N:List Str}{qual:Str}{scope:Scope}{f:Addr}{cd:Value}{A:Around}{outer:List Env}{s:Shared}{H:Hp}{E:XK}
def Ci:(dS (CX1 P w) P w K mg base N qual scope f cd A outer s H E).Top:=⟨rfl,rfl,rfl⟩
def B7:pO (CX1 P w) (dS (CX1 P w) P w K mg base N qual scope f cd A outer s H E) E:=λpins σ H s e s' I h=>yx Ci I.ok.frames I h
def Jp:pO (CX1 P w) X E0:=λpins σ H s e s' I ⟨_,_,_,_,_,_,_,_,_,q⟩=>q.elim
def own1:PassesOwn (model P w) (dS (CX1 P w) P w K mg base N qual scope f cd A outer s H E).A (dS (CX1 P w) P w K mg base N qual scope f cd A outer s H E).env (dS (CX1 P w) P w K mg base N qual scope f cd A outer s H E).xe:=PassesOwn.leaving
def Rz(X:Cx)(E:XK):Prop:=∀(pins:Pb) (σ:St) (H:Hp) (s:Shared) (h':Heap) (ea:Addr) (cls:Value) (args:List Value),Inv X pins σ H s->Heap.MadeExcOf s.heap h' ea cls args->E cls none H->X.xe (.ref ea) { s with heap:=h' }
def rz1:Rz (dS (CX1 P w) P w K mg base N qual scope f cd A outer s H E) E:=λpins σ H s h' ea cls args I hx q=>zL Ci I.ok.frames I hx q
def Fun.okR{x qual:Str}{st:Stmt}{f:Addr}{fd:FuncData}{N ps:List Str}{k:Nat}{sp:Sp}(F:Fun K x qual st f fd)(S:FnScope N ps (ao st))(len:∀vs H Q E,sp vs H Q E->vs.length=ps.length)
 (j_:∀(cdv:Value) (A:Around) (outer:List Env) (s:Shared) (H:Hp) (vs:List V) (Q:VK) (E:XK),Room k (A.deeper (envOfC qual (ao st) s.heap.objs.size f cdv))->sp vs H Q E->
  ∃t,PSs (dS (CX1 P w) P w K mg base N qual (ao st) f cdv A outer s H E) (br st) t/\t { nx:=λ_ H'=>Q .non H',rt:=Q } (fD N vs) H):FnOk P w K mg base (CX1 P w) (k+1) f fd ps sp:=by
 obtain⟨oc,od,kV,doc,pm,an,cdv,ct,osl,rfl,lk,o_⟩:=F.ex;exact CK lk o_ S len λA outer s H vs Q E hr hsp=>j_ cdv A outer s H vs Q E hr hsp
end
abbrev mX:List Value:=[.type "ValueError",.type "Exception",.type "BaseException",.type "object"]
def ym{K:W.Frag}{h:Heap}{C:Addr}(X:K.In h)(q:W.excIn K C mX "ValueError.__new__"=true):
 ∃bm N nm q' bs hdct sn sub ab col dd k0 k1 k2 k3 k5 mN,h.get? C=some (excClassObj nm q' C N bs bm hdct sn sub ab col dd k0 k1 k2 k3 k5 "ValueError.__new__")/\h.Ns N mN/\mN "__init__"=none/\OwnTail h mX bm:=by
 unfold W.excIn at q;split at q
 .rename_i dd cd sl ho;split at q
  .rename_i C' bm k0 k1 k2 k3 n k5 hm hs;simp only[w_,LW,Nw] at q;obtain⟨⟨⟨⟨⟨rfl,rfl⟩,hdel⟩,ht⟩,hok⟩,hni⟩:=q;obtain⟨nm,bs,mro,ns,qn,hd,sn,sub,ab,col,del⟩:=cd;dsimp only at hm hdel hok hni;subst hm hdel;have hsl:sl=#[k0,k1,k2,k3,some (.builtin "ValueError.__new__"),k5]:=by obtain⟨l⟩:=sl;simp only at hs;rw[hs]
   subst hsl;exact⟨bm,ns,nm,qn,bs,hd,sn,sub,ab,col,dd,k0,k1,k2,k3,k5,_,X _ _ ho,.of_isNs (W.isNs_of_in X hok),W.nsMap_none_of_in X hok hni,W.tail_of_in X ht⟩
  .cases q
 .cases q
section
variable{X:Cx}{x:Str}{C:Addr}{E:XK}{np cpos pos:Pos}{e₀:Expr}{es:List Expr}{ta:TA}
def FX(C:Addr)(E:XK)(ta:TA):TS:=λ_ σ H=>ta σ H λvs H1=>vs.length<=sizeLine/\E (.ref C) none H1
def Ah(hc:X.calm=true)(hR:Rz X E)(hg:Gl X x)(hm:X.mg x=some (.ref C))(hq:W.excIn X.K C mX "ValueError.__new__"=true)(ha:PA X (e₀::es) ta)
 (he:starEach (e₀::es) X.env=(false,eval e₀ X.env)::starEach es X.env) (c_:(backTo cpos (starEach es X.env)).any (·.1)=false) (hd:(x==("__debug__" : Str))=false):
 PS X (.Raise (some (.Call (.Name x np) (e₀::es) [] cpos)) none pos) (FX C E ta):=by
 intro pins s σ H D I h;obtain⟨bm,N,nm,q',bs,hdct,sn,sub,ab,col,dd,k0,k1,k2,k3,k5,mN,hC,hN,hni,T⟩:=ym I.ok.mod.kin hq;refine wpAny_Raise_call_subT (C:=C) (nm:=nm) (q:=q') (N:=N) (bs:=bs) (bm:=bm) (hdct:=hdct) (sn:=sn) (sub:=sub) (ab:=ab) (col:=col) (dd:=dd) (k0:=k0) (k1:=k1) (k2:=k2) (k3:=k3) (k5:=k5)
  PySem.F.excBase_ValueError (mN:=mN) (T.hasType PySem.F.excBase_ValueError.hasBase) (I.ok.hd hc) (by rw[he];show (false || (backTo cpos (starEach es X.env)).any (·.1))=false;rw[c_];rfl) hni (nz I hg hm ⟨rfl,?_⟩ hd)
 have hA:=ha cpos pins s σ H _ I h;rw[he] at hA ⊢;refine Calls.evalArgs_plain (thn hA λus s2 ⟨vs,H2,I2,r2,hz,q2⟩=>⟨rfl,by rw[<- r2.length];exact hz,I2.bk _ _ hC,hN.keeps I2.bk,T.keeps I2.bk,λh' e hm'=>?_⟩);exact hR pins σ H2 s2 h' e _ _ I2 hm' q2
end
abbrev XS:=St->XK
abbrev TEx:=St->Hp->VK->XK->Prop
abbrev TSx:=Ends->XS->St->Hp->Prop
def XP(X:Cx)(pins:Pb)(E:XS)(e:Value)(s':Shared):Prop:=∃σ1 H1 s1,Inv X pins σ1 H1 s1/\CX1 X.prog X.w X.stack H1 s1 (E σ1) e s'
structure XHand(K:W.Frag)(C:Addr):Prop where
 ty:W.typeIn K (.ref C)=some (.type "type")
 cls:(W.clsIn K C).isSome=true
 mb:W.mroIn K C (.type "BaseException")=some true
mutual
inductive Rep(K:W.Frag)(H:Hp):V->PyData->Prop where
 |non:Rep K H .non .none
 |bl (b:Bool):Rep K H (.bl b) (.bool b)
 |int (i:Int):Rep K H (.int i) (.int i)
 |str (x:Str):Rep K H (.str x) (.str x)
 |tup {a:Addr}{xs:List V}{ds:List PyData} (h:SqT K H a xs) (r:Reps K H xs ds):Rep K H (.ref a) (.tuple ds)
 |lst {a:Addr}{xs:List V}{ds:List PyData} (h:SqL K H a xs) (r:Reps K H xs ds):Rep K H (.ref a) (.list ds)
inductive Reps(K:W.Frag)(H:Hp):List V->List PyData->Prop where
 |nil:Reps K H [] []
 |cons {x:V}{d:PyData}{xs:List V}{ds:List PyData} (r:Rep K H x d) (rr:Reps K H xs ds):Reps K H (x::xs) (d::ds)
end
section
variable{X:Cx}{pins:Pb}{σ:St}{H:Hp}{s:Shared}{K:W.Frag}
def Rep.reads(I:Inv X pins σ H s)(r:Rep X.K H v d)(q:RelV v u):∃as,Reads s.heap u d as:=
 Rep.rec (motive_1:=λv d _=>∀u,RelV v u->∃as,Reads s.heap u d as) (motive_2:=λvs ds _=>∀us,Vals vs us->∃as,ReadsAll s.heap us ds as)
  (λu r=>by cases r;exact⟨_,.none⟩) (λb u r=>by cases r;exact⟨_,.bool b⟩) (λi u r=>by obtain⟨t,rfl⟩:=r;exact⟨_,.int i t⟩) (λx u r=>by obtain⟨t,rfl⟩:=r;exact⟨_,.str x t⟩)
  (λh _ ih u r=>by cases r;obtain⟨its,rv,⟨o,e,c,n,d⟩,_⟩:=I.tuple h;obtain⟨as,q⟩:=ih _ rv;exact⟨as,.tuple e c d (by simpa using q)⟩)
  (λh _ ih u r=>by cases r;obtain⟨its,rv,⟨o,n,e,c,_,d⟩,_⟩:=I.list h;obtain⟨as,q⟩:=ih _ rv;exact⟨_,.list e c d (by simpa using q)⟩)
  (λus r=>by cases r;exact⟨_,.nil⟩)
  (λ_ _ a b us q=>by
   cases q with
   |cons q1 q2=>obtain⟨as,h1⟩:=a _ q1;obtain⟨bs,h2⟩:=b _ q2;exact⟨_,.cons h1 h2⟩) r u q
end
section
variable{X:Cx}
noncomputable def shp (d:PyData):Bool:=d.canLay0&&decide (d.depth<=160)
def fo(h:shp d=true):d.canLay0=true:=(Bool.and_eq_true_iff.mp h).1
def kC{A:Around}{d e:PyData}(h:shp d=true)(hu:A.units+180<cLine):A.units+min d.depth e.depth<cLine:=by have h1:d.depth<=160:=NA (Bool.and_eq_true_iff.mp h).2;have h2:min d.depth e.depth<=d.depth:=Nat.min_le_left _ _;omega
def AA(K:W.Frag):R2:=λx y H Q=>∃dx dy,Rep K H x dx/\Rep K H y dy/\shp dx=true/\shp dy=true/\Q (.bl (PyData.eqv dx dy)) H
def zP(K:W.Frag):R2:=λx y H Q=>∃dx dy,Rep K H x dx/\Rep K H y dy/\shp dx=true/\shp dy=true/\Q (.bl (!PyData.eqv dx dy)) H
def Io(hu:X.A.units+180<cLine):OpR X (compareOp .Eq) (AA X.K):=by intro pins s σ H x y v u Q I rx ry h;obtain⟨dx,dy,r1,r2,h1,h2,q⟩:=h;obtain⟨as,q1⟩:=r1.reads I rx;obtain⟨bs,q2⟩:=r2.reads I ry;exact SeqAt.compareEq_reads q1 q2 (fo h1) (fo h2) (kC h1 hu) (yj I q rfl)
def G4(hu:X.A.units+180<cLine):OpR X (compareOp .NotEq) (zP X.K):=by intro pins s σ H x y v u Q I rx ry h;obtain⟨dx,dy,r1,r2,h1,h2,q⟩:=h;obtain⟨as,q1⟩:=r1.reads I rx;obtain⟨bs,q2⟩:=r2.reads I ry;exact SeqAt.compareNe_reads q1 q2 (fo h1) (fo h2) (kC h1 hu) (yj I q rfl)
open PySem.Builtin.Int (intBits)
def CDivB(i j:Int):Prop:=j≠0/\intBits j<=8000
def Ck(i j:Int):Prop:=intBits i<=100000/\intBits j<=100000
def zT:OpR X (binaryOp .FloorDiv) (rI CDivB λi j=>.int (i.fdiv j)):=opI λi j _ _ _ _ _ hc q=>floordiv_int hc.1 q (.inl (PyProof.noPylong_of_log2 (by
 have h:=hc.2;have h0:=hc.1;unfold intBits at h;have hb:(j==0)=false:=by simpa using h0
 rw[hb] at h;simp only[Nn,Oe] at h;omega)))
def DC:OpR X (binaryOp .Mult) (rI Ck λi j=>.int (i*j)):=opI λi j _ _ _ _ _ hc q=>mul_int q (PySem.IntMulOk.of_le hc.1 hc.2 (by decide))
def yI(bs:List Bool):((List.range bs.length).all λi=>bs.getD i false)=bs.all id:=by
 rw[NM,LQ,LQ];constructor
 .intro h x hx;obtain⟨i,hi,rfl⟩:=Oj.mp hx
  have:=h i (LC.mpr hi)
  simpa [E_,hi] using this
 .intro h i hi;have hi':=LC.mp hi
  have:=h bs[i] (Mo hi')
  simpa [E_,hi'] using this
def Am(hc:X.calm=true):CallR X (.builtin "all") (λxs H Q=>∃(a:Addr) (bs:List Bool),xs=[.ref a]/\SqL X.K H a (bs.map V.bl)/\Q (.bl (bs.all id)) H):=by
 intro pins s σ H xs us Q I r h;obtain⟨a,bs,rfl,hq,q⟩:=h;obtain⟨u,rfl,ru⟩:=dO r;cases ru;obtain⟨its,rv,p,hz⟩:=I.list hq;have hl:=rv.length;rw[q_] at hl;have hlt:a<s.heap.objs.size:=by obtain⟨o,n,e,_⟩:=p;exact C_ e
 refine call_all_walk (NX p.isList ?_);refine⟨s.heap.objs.size,_,_,_,_,_,λi=>bs.getD i false,rfl,Walks.list (A:=X.A.in1) (I.ok.hd hc) s.heap.objs.size a (LG hlt) its.toArray,⟨⟨_,F_ _ rfl,rfl,rfl⟩,(p.keeps λb o e=>t_ _ e).isList⟩,λi v s' Q' E' hP hQ=>?_,λh' tk hk=>?_⟩
 .have hP':its[i]?=some v:=by simpa using hP
  have hi:i<bs.length:=by rw[hl];exact (D_.mp hP').1
  have hb:(bs.map V.bl)[i]?=some (V.bl bs[i]):=by simp [hi]
  obtain⟨u,hu,ru⟩:=rv.get hb;rw[hP'] at hu;cases hu;cases ru;refine MV ?_;have e:bs.getD i false=bs[i]:=by simp [E_,hi]
  show Q' bs[i] s';rw[<- e];exact hQ
 .have e1:its.toArray.size=bs.length:=by rw[A_,hl]
  rw[e1,yI];have hn:H s.heap.objs.size=none:=I.fresh;have I1:Inv X pins σ H { s with heap:=s.heap.push { cls:=.type "list_iterator",dict:=none,data:=.fields #[.ref a,rawInt 0] } }:=I.kept (t':=s.toks) λb o e=>t_ _ e;refine⟨.bl _,H,?_,rfl,q⟩;refine I.kept (t':=tk) λb o e=>?_;have hne:b≠s.heap.objs.size:=LG (C_ e);exact hk b o (by simpa using hne) (t_ _ e)
end
structure Def(K:W.Frag)(mg:Pa)(x:Str)(st:Stmt):Prop where
 ex:∃f fd,Fun K x x st f fd/\mg x=some (.ref f)
def yV{K:W.Frag}{h:Heap}{mg:Pa}{x:Str}{st:Stmt}{f:Addr}{oc:Value}{od an:Option Addr}{osl:Array (Option Value)}{kV doc pm cdv ct:Value}(X:K.In h)(G:h.Ns mainGlobals mg)
 (a:W.nsIn K mainGlobals x=some (some (.ref f))) (l:K.lookup f=some ⟨oc,od,.func (W.fnOf x x (cS st) (br st) (ao st) .none kV doc pm an cdv ct),osl⟩)
 (c:W.codeIn K cdv x=true) (k:W.keepIn K (.ref f)=true):Def K mg x st:=⟨f,_,Hi l c k,W.mg_of X G a⟩
def Fun.look{K:W.Frag}{x qual:Str}{st:Stmt}{f:Addr}{fd:FuncData}(F:Fun K x qual st f fd):∃oc od osl,K.lookup f=some ⟨oc,od,.func fd,osl⟩:=by obtain⟨oc,od,kV,doc,pm,an,cdv,ct,osl,rfl,lk,o_⟩:=F.ex;exact⟨oc,od,osl,lk⟩
structure Callee(P:Program)(w:World)(K:W.Frag)(mg:Pa)(base:Heap)(x:Str)(k:Nat)(ps:List Str)(sp:Sp):Prop where
 ex:∃f fd,FnOk P w K mg base (CX1 P w) k f fd ps sp/\mg x=some (.ref f)/\W.keepIn K (.ref f)=true/\Binds K fd ps []/\∃oc od osl,K.lookup f=some ⟨oc,od,.func fd,osl⟩
section
variable{P:Program}{w:World}{K:W.Frag}{mg:Pa}{base:Heap}{x:Str}{st:Stmt}{k:Nat}{ps N:List Str}{sp:Sp}
def Callee.imp(C:Callee P w K mg base x k ps sp)(h:∀vs H Q E,sp' vs H Q E->sp vs H Q E):Callee P w K mg base x k ps sp':=by obtain⟨f,fd,F,r⟩:=C.ex;exact⟨f,fd,F.imp h,r⟩
def Def.okR(D:Def K mg x st)(S:FnScope N ps (ao st))
 (hb:∀(kV doc pm:Value) (an:Option Addr) (cdv ct:Value) (us:List Value),us.length=ps.length->bindArgs (W.fnOf x x (cS st) (br st) (ao st) .none kV doc pm an cdv ct) ⟨us,[]⟩=pure (ps.zip us))
 (len:∀vs H Q E,sp vs H Q E->vs.length=ps.length)
 (j_:∀(f:Addr) (cdv:Value) (A:Around) (outer:List Env) (s:Shared) (H:Hp) (vs:List V) (Q:VK) (E:XK),Room k (A.deeper (envOfC x (ao st) s.heap.objs.size f cdv))->sp vs H Q E->
  ∃t,PSs (dS (CX1 P w) P w K mg base N x (ao st) f cdv A outer s H E) (br st) t/\t { nx:=λ_ H'=>Q .non H',rt:=Q } (fD N vs) H):Callee P w K mg base x (k+1) ps sp:=by
 obtain⟨f,fd,F,m⟩:=D.ex;exact⟨f,fd,F.okR S len (j_ f),m,F.kp,F.binds hb,F.look⟩
end
section
variable{X:Cx}{K:W.Frag}
def zW(h:X.K=K)(hc:X.calm=true):CallR X (.builtin "all") (λxs H Q=>∃(a:Addr) (bs:List Bool),xs=[.ref a]/\SqL K H a (bs.map V.bl)/\Q (.bl (bs.all id)) H):=by subst h;exact Am hc
def Room.u180(r:Room k A):A.units+180<cLine:=by have:=r.un;omega
def eqDK(h:X.K=K)(hu:X.A.units+180<cLine):OpR X (compareOp .Eq) (AA K):=by subst h;exact Io hu
def neDK(h:X.K=K)(hu:X.A.units+180<cLine):OpR X (compareOp .NotEq) (zP K):=by subst h;exact G4 hu
def inK(h:X.K=K):OpR X (compareOp .In) (rIn K false):=by subst h;exact yN
def FQ(h:X.K=K):OpR X (compareOp .NotIn) (rIn K true):=by subst h;exact qK
end
section
variable{X:Cx}
def Iz{elt iter tg:Expr}{ifs:List Expr}{scope:Scope}{pos:Pos}{wi:TI}{g:TG}{tc:TT}{te:TE}{N:List Str}{sub:Pd}{iT:Nat}{xT:Str}{px spos:Pos}
 (hc:X.calm=true) (hN:X.N.Nodup) (hix:X.N[iT]?=some xT) (hxl:Loc X.env.scope xT) (hi:PI X tg iter wi)
 (hk:scope.kind=.function) (hnc:∀x∈scope.names,x.2 ≠ .cell) (f_:∀x∈scope.names,x.2=.local->scope.names.lookup x.1=some .local)
 (hfr:∀x∈scope.names,x.2=.free->X.env.kindOf x.1=some .cell\/X.env.kindOf x.1=some .free)
 (hsl:sub.length=N.length) (hsub:∀(j i:Nat) (x:Str),sub[j]?=some (some i)->N[j]?=some x->X.N[i]?=some x/\scope.names.lookup x=some .free)
 (hg:∀cl C s₂ H fp,PG (bL X N scope cl C s₂ H fp) tg g) (ht:∀cl C s₂ H fp,PTs (bL X N scope cl C s₂ H fp) ifs tc) (he:∀cl C s₂ H fp,PE (bL X N scope cl C s₂ H fp) elt te)
 (hsw:swapsWith (.ListComp elt [⟨tg,iter,ifs,0⟩] scope pos) (some (.Name xT px)) spos.line X.env=pure true)
 (hs:∀x,foldedSetIterable iter X.env x=pure x) (hf:X.fn xT=true\/X.env.scope.names.lookup xT=some .local):
 PS X (.Assign [.Name xT px] (.ListComp elt [⟨tg,iter,ifs,0⟩] scope pos) spos) (u9 (pb wi sub g tc te) (o9 iT)):=by
 intro pins s σ H D0 I h;rw[exec_Assign_Name_used _ _ _ _ hsw];refine p_ (Nm (p_ ?_));show wpAny _ X.A (do let _ <- comprehension (.ListComp elt [⟨tg,iter,ifs,0⟩] scope pos) scope X.env _ (newList []) false (eval iter X.env) (some (assign (.Name xT px) X.env))) _ _ s;refine p_ (LX (uf (use:=some (assign (.Name xT px) X.env)) (R:=λ_ s'=>SP X pins D0 .next s') hc hi hk hnc f_ hfr hsl hsub hg ht he hs I h λD C s4 e=>?_) (λ_ s' hq=>B_ (B_ hq)) λ_ _ e=>e);obtain⟨m,hm⟩:=e.ns;obtain⟨H',hC,q,i⟩:=e.inv;have dc:=e.dc;have fr:=e.fr;refine wpAny_assign_Name (oa (v:=.ref D) (i s4.heap ⟨rfl,λ_ _=>rfl⟩) hN hix hxl rfl (λs7 I7 ⟨a7,sb7,ha7⟩=>?_) hf);have ha:a7<D:=by
  rcases ha7 with z |z
  .rw[z];exact fr
  .exact e.cell xT a7 z
 refine⟨m,hm.sameBut sb7 (ND (Ol ha dc)),λh8 hs8=>⟨_,_,I7.turned (it:=C) (t':=s7.toks) (λb o hb e=>hs8.extBut b o hb e) hC (ND (Ol fr dc)) (.inr (LU e.sz (NC dc))) (λx c q=>LG (Ol (e.cell x c q) dc)) (λp hp=>LG (Ol (e.pin p hp) dc)),q⟩⟩
end
theorem f6:∀{ns:List Int}{its:List Value},Vals (ns.map V.int) its->IntsAre its ns
 | [],_,h=>by cases h;exact .nil
 |
  i::r,_,h=>by
  cases h with
  |cons h1 h2=>obtain⟨t,rfl⟩:=h1;exact .cons i t (f6 h2)
def og{X:Cx}{K:W.Frag}(hK:X.K=K)(hc:X.calm=true):CallR X (.builtin "sum") (λxs H Q=>∃(a:Addr) (ns:List Int),xs=[.ref a]/\SqL K H a (ns.map V.int)/\Q (.int ns.sum) H):=by
 subst hK;intro pins s σ H xs us Q I r h;obtain⟨a,ns,rfl,hq,q⟩:=h;obtain⟨u,rfl,ru⟩:=dO r;cases ru;obtain⟨its,rv,p,hz⟩:=I.list hq;have hi:=f6 rv;obtain⟨ys,hy⟩:=hi.allInts.items;have hn:numsOf its.toArray.toList=ns:=by rw[show its.toArray.toList=its from rfl,hi.numsOf]
 have pl:=p.isList;rw[hy] at pl hn;rw[nums_intItems] at hn;refine sum_intListG (I.ok.hd hc) pl λh' tk t' hk=>?_;rw[preSum_eq,Mq (by simp),hn];exact⟨.int ns.sum,H,I.kept (t':=tk) hk,⟨_,rfl⟩,q⟩
end L2
namespace Fr
noncomputable def dv (a b:Int):Int:=if b<0 then -((Int.gcd a b:Nat):Int) else ((Int.gcd a b:Nat):Int)
def T(a b:Int):Int:=a.fdiv (dv a b)
def B(a b:Int):Int:=b.fdiv (dv a b)
def qX(hb:b≠0):0<Int.gcd a b:=Int.gcd_pos_of_ne_zero_right a hb
def dv_ne(hb:b≠0):dv a b≠0:=by
 have:=qX (a:=a) hb
 unfold dv;split <;> omega
def Ay(a b:Int):dv a b ∣ a:=by
 have h:((Int.gcd a b:Nat):Int) ∣ a:=Int.gcd_dvd_left a b;unfold dv;split
 .exact Int.neg_dvd.mpr h
 .exact h
def Br(a b:Int):dv a b ∣ b:=by
 have h:((Int.gcd a b:Nat):Int) ∣ b:=Int.gcd_dvd_right a b;unfold dv;split
 .exact Int.neg_dvd.mpr h
 .exact h
def um{a d q:Int}(hd:d≠0)(h:a=d*q):a.fdiv d=q:=by rw[h,NB];exact Int.mul_fdiv_cancel q hd
def T_mul(hb:b≠0):T a b*dv a b=a:=by obtain⟨q,h⟩:=Ay a b;have:T a b=q:=um (dv_ne hb) h;rw[this,NB];exact h.symm
def B_mul(hb:b≠0):B a b*dv a b=b:=by obtain⟨q,h⟩:=Br a b;have:B a b=q:=um (dv_ne hb) h;rw[this,NB];exact h.symm
def B_pos(hb:b≠0):0<B a b:=by
 have h:=B_mul (a:=a) hb;have hg:=qX (a:=a) hb;generalize hx:B a b=x at h ⊢;unfold dv at h;split at h
 .rename_i hneg;have h2:x*((Int.gcd a b:Nat):Int)=-b:=by rw[Int.mul_neg] at h;omega
  rcases Int.lt_or_le 0 x with z |z
  .exact z
  .have:x*((Int.gcd a b:Nat):Int)<=0:=Int.mul_nonpos_of_nonpos_of_nonneg z (by omega);omega
 .rename_i hpos;rcases Int.lt_or_le 0 x with z |z
  .exact z
  .have:x*((Int.gcd a b:Nat):Int)<=0:=Int.mul_nonpos_of_nonpos_of_nonneg z (by omega);omega
def cross(hb:b≠0):T a b*b=a*B a b:=by have h1:=T_mul (a:=a) hb;have h2:=B_mul (a:=a) hb;generalize T a b=x at *;generalize B a b=y at *;generalize dv a b=d at *;rw[<- h2,<- h1];rw[<- Mv,NQ]
def dv_abs(a b:Int):(dv a b).natAbs=Int.gcd a b:=by unfold dv;split <;> simp
def low(hb:b≠0):Int.gcd (T a b) (B a b)=1:=by
 have h1:=T_mul (a:=a) hb;have h2:=B_mul (a:=a) hb;have hg:=qX (a:=a) hb;have e1:a.natAbs=(T a b).natAbs*Int.gcd a b:=by rw[<- dv_abs a b,<- Mp,h1]
 have e2:b.natAbs=(B a b).natAbs*Int.gcd a b:=by rw[<- dv_abs a b,<- Mp,h2]
 have e3:Int.gcd a b=Nat.gcd ((T a b).natAbs*Int.gcd a b) ((B a b).natAbs*Int.gcd a b):=by rw[<- e1,<- e2];rfl
 rw[Nat.gcd_mul_right] at e3;show Nat.gcd (T a b).natAbs (B a b).natAbs=1;generalize Nat.gcd (T a b).natAbs (B a b).natAbs=k at *;generalize Int.gcd a b=g at *;have:(1:Nat)*g=k*g:=by omega
 exact (Nat.eq_of_mul_eq_mul_right hg this).symm
def uniq(hy:0<y)(hy':0<y')(h:Int.gcd x y=1)(h':Int.gcd x' y'=1)(e:x*y'=x'*y):x=x'/\y=y':=by
 have c1:Nat.Coprime y.natAbs x.natAbs:=by rw[Nat.coprime_comm];exact h
 have c2:Nat.Coprime y'.natAbs x'.natAbs:=by rw[Nat.coprime_comm];exact h'
 have e1:x.natAbs*y'.natAbs=x'.natAbs*y.natAbs:=by rw[<- Mp,<- Mp,e]
 have d1:y.natAbs ∣ y'.natAbs:=c1.dvd_of_dvd_mul_left (by rw[e1];exact Nat.dvd_mul_left _ _);have d2:y'.natAbs ∣ y.natAbs:=c2.dvd_of_dvd_mul_left (by rw[<- e1];exact Nat.dvd_mul_left _ _);have ey:y.natAbs=y'.natAbs:=Nat.dvd_antisymm d1 d2;have ey':y=y':=by omega
 subst ey';exact⟨NJ (by omega) e,rfl⟩
def same(hb:b≠0)(hd:d≠0)(e:a*d=c*b):T a b=T c d/\B a b=B c d:=by
 refine uniq (B_pos hb) (B_pos hd) (low hb) (low hd) ?_;have h1:=cross (a:=a) hb;have h2:=cross (a:=c) hd;have hbd:b*d≠0:=Nr hb hd;refine NJ hbd ?_
 calc T a b*B c d*(b*d)=(T a b*b)*(B c d*d):=by rw[Mv,Nz (B c d) b d,<- Mv]
  _=(a*B a b)*(B c d*d):=by rw[h1]
  _=(a*d)*(B c d*B a b):=by rw[Mv a,Mv a,Nz (B a b),Nz d,NB (B a b) d]
  _=(c*b)*(B c d*B a b):=by rw[e]
  _=(c*B c d)*(B a b*b):=by rw[Mv c,Mv c,Nz b,NB b (B a b)]
  _=(T c d*d)*(B a b*b):=by rw[<- h2]
  _=T c d*B a b*(b*d):=by rw[Mv,Mv,Nz d,NB d b]
def self(hb:0<b)(h:Int.gcd a b=1):T a b=a/\B a b=b:=
 uniq (B_pos (by omega)) hb (low (by omega)) h (cross (by omega))
def euc(m n:Nat):Nat.gcd n (m % n)=Nat.gcd m n:=by rw[Nat.gcd_comm,<- Nat.gcd_rec,Nat.gcd_comm]
end Fr
set_option maxHeartbeats 1000000
namespace L2
open PySem PySem.Spec PyProof.Rows
def Inv.turnedL{X:Cx}{pins:Pb}{σ:St}{H:Hp}{s:Shared}{h':Heap}{t':Nat}{ch:List Addr}(I:Inv X pins σ H s)(k:∀b o,b∉ch->s.heap.get? b=some o->h'.get? b=some o)(hf:∀b∈ch,FpOk X pins H b):Inv X pins σ H { s with heap:=h',toks:=t' }:=by
 have away:∀b u,H b=some u->b∉ch:=λb u e z=>by have:=(hf b z).1;rw[e] at this;cases this
 refine I.step (g':=s.gens) (d':=s.drawn) (ch:=ch) (λb hb=>⟨(hf b hb).2.2.2.1,(hf b hb).2.1,(hf b hb).2.2.2.2.1,(hf b hb).2.2.2.2.2⟩) (λb o _ _ hc e _=>k b o hc e) (λb o _ _ hc e _=>⟨o.slots,k b o hc e⟩) (λ_ _ _ _ n=>n)
  (λb o hc e=>⟨o,k b o hc e⟩) (λ_ _ e=>e) (λ_ _ _ e=>e) (λb ps e=>⟨#[],by rw[e];simp⟩) (λm hm=>?_) (λb u e=>?_) I.bare
 .obtain⟨o,es,ep,ho,r⟩:=hm;exact⟨o,es,ep,k _ o (λz=>(hf _ z).2.1 rfl) ho,r⟩
 .refine (I.hok b u e).stay (λc v hc q=>k c v ?_ q) (λ_ q=>q) λ_ _ q=>q;rcases hc with z |z
  .rw[z];exact away b u e
  .exact away c _ z
def FpOk.up(f:FpOk X pins H b)(hn:b≠p):FpOk X pins (upd H p o) b:=⟨by rw[aB hn];exact f.1,f.2⟩
def vI(hj:s.heap.IsTupleIter j t n)(ht:s.heap.IsTuple t its)(hv:its[n]?=some v)
 (k:∀h',h'.IsTupleIter j t (n+1)->Heap.SameBut j s.heap h'->Q v { s with heap:=h' }):wpAny (model prog w) A (Builtin.SmallTypes.nextOf (.ref j)) Q E s:=by
 obtain⟨oj,ej,cj,dj⟩:=id hj;obtain⟨ot,et,_,m,dt⟩:=ht;unfold Builtin.SmallTypes.nextOf;refine p_ (MX (name:=Str.ofString "__next__") hj.typeIs Nc (NI Nc hj.typeIs F.entry_tuple_iterator_next ?_ (F.args_tuple_iterator_next_1 _)));show wpAny _ _ (field (.ref j) 0 >>= _) _ _ s;refine p_ (Mn ej dj (x:=.ref t) rfl ?_);show wpAny _ _ (if (Value.ref t==Value.none)=true then _ else _) _ _ s;rw[if_neg (show ¬ ((Value.ref t==Value.none)=true) from y_)];show wpAny _ _ (field (.ref j) 1 >>= _) _ _ s;refine p_ (Mn ej dj (x:=.int n 0) rfl ?_);show wpAny _ _ (seqItems? (.ref t) >>= _) _ _ s;refine p_ (M3 et dt ?_);simp only[Mh,hv];refine p_ (wpAny_setField ej dj (by simp) (B_ ⟨v,rfl,B_ (k _ ?_ (MY ..))⟩));exact⟨_,Heap.get?_update_self _ ej (Obj.isFreed_of_fields (Obj.data_mapFields dj _)),(Obj.cls_mapFields ..).trans cj,by rw[Obj.data_mapFields dj];simp [rawInt]⟩
def nL(hh:A.handled=none)(hj:s.heap.IsTupleIter j t n)(ht:s.heap.IsTuple t its)(hv:its[n]?=none)
 (k:∀h' e,Heap.ExtBut j s.heap h'->(∃o,h'.get? e=some o/\o.cls=.type "StopIteration")->E (.ref e) { s with heap:=h' }):wpAny (model prog w) A (Builtin.SmallTypes.nextOf (.ref j)) Q E s:=by
 obtain⟨oj,ej,cj,dj⟩:=id hj;obtain⟨ot,et,_,m,dt⟩:=ht;unfold Builtin.SmallTypes.nextOf;refine p_ (MX (name:=Str.ofString "__next__") hj.typeIs Nc (NI Nc hj.typeIs F.entry_tuple_iterator_next ?_ (F.args_tuple_iterator_next_1 _)));show wpAny _ _ (field (.ref j) 0 >>= _) _ _ s;refine p_ (Mn ej dj (x:=.ref t) rfl ?_);show wpAny _ _ (if (Value.ref t==Value.none)=true then _ else _) _ _ s;rw[if_neg (show ¬ ((Value.ref t==Value.none)=true) from y_)];show wpAny _ _ (field (.ref j) 1 >>= _) _ _ s;refine p_ (Mn ej dj (x:=.int n 0) rfl ?_);show wpAny _ _ (seqItems? (.ref t) >>= _) _ _ s;refine p_ (M3 et dt ?_);simp only[Mh,hv];refine p_ (wpAny_rule (p_ (wpAny_setField ej dj (by simp) ?_)));show wpAny _ _ (newExc (.type "StopIteration") [] >>= _) _ _ _;refine p_ ?_;simp only[newExc,newTuple];refine p_ (Mr ?_ (by size_fits));refine p_ (m:=firstArgMember _ _) (wpAny_of_eq (a:=Value.none) (by first |rfl |(simp only[firstArgMember];rfl)) ?_);refine Mr ?_ (by size_fits);simp only[raiseNew];refine p_ (wpAny_handled ?_);first |rw[show A.in1.handled=none from hh] |rw[hh]
 refine p_ (B_ (wpAny_throw ?_));exact k _ _ (((MY ..).extBut.push _).push _) ⟨_,F_ _ rfl,rfl⟩
def SqB(K:W.Frag)(b:Bool)(H:Hp)(a:Addr)(xs:List V):Prop:=match b with
 |true=>SqL K H a xs
 |false=>SqT K H a xs
def ItB(b:Bool)(h:Heap)(j a:Addr)(i:Nat):Prop:=match b with
 |true=>h.IsListIter j a i
 |false=>h.IsTupleIter j a i
def SqB.inj(I:Inv X pins σ H s)(x:SqB X.K b H a xs)(y:SqB X.K b H a ys):xs=ys:=by
 cases b with
 |true=>exact I.list_inj x y
 |false=>exact I.tuple_inj x y
def jY(z:ItB b h j a i):∃o,h.get? j=some o/\(∀v,o.data ≠ .cell v)/\o.cls=.type (if b then "list_iterator" else "tuple_iterator"):=by
 cases b with
 |true=>obtain⟨o,e,c,d⟩:=z;exact⟨o,e,(λv y=>by rw[d] at y;cases y),c⟩
 |false=>obtain⟨o,e,c,d⟩:=z;exact⟨o,e,(λv y=>by rw[d] at y;cases y),c⟩
def bE(z:ItB b h j a i)(k:∀o,h.get? j=some o->h'.get? j=some o):ItB b h' j a i:=by
 cases b with
 |true=>obtain⟨o,e,r⟩:=z;exact⟨o,k o e,r⟩
 |false=>obtain⟨o,e,r⟩:=z;exact⟨o,k o e,r⟩
def LsB(b:Bool)(h:Heap)(a:Addr)(its:Array Value):Prop:=match b with
 |true=>h.IsList a its
 |false=>h.IsTuple a its
def LsB.keep(z:LsB b h a its)(k:∀o,h.get? a=some o->h'.get? a=some o):LsB b h' a its:=by cases b <;> (obtain⟨o,e,r⟩:=z;exact⟨o,k o e,r⟩)
def vY(hj:ItB b s.heap j a n)(ht:LsB b s.heap a its)(hv:its[n]?=some v)
 (k:∀h',ItB b h' j a (n+1)->Heap.SameBut j s.heap h'->Q v { s with heap:=h' }):wpAny (model prog w) A (Builtin.SmallTypes.nextOf (.ref j)) Q E s:=by
 cases b with
 |true=>exact wpAny_nextOf_list_item hj ht hv k
 |false=>exact vI hj ht hv k
def om(hh:A.handled=none)(hj:ItB b s.heap j a n)(ht:LsB b s.heap a its)(hv:its[n]?=none)
 (k:∀h' e,Heap.ExtBut j s.heap h'->(∃o,h'.get? e=some o/\o.cls=.type "StopIteration")->E (.ref e) { s with heap:=h' }):wpAny (model prog w) A (Builtin.SmallTypes.nextOf (.ref j)) Q E s:=by
 cases b with
 |true=>exact wpAny_nextOf_list_end hh hj ht hv k
 |false=>exact nL hh hj ht hv k
section
variable{prog:Program}{w:World}{A:Around}{E:Pc}{s:Shared}{b1 b2:Bool}{z p q j1 j2 a1 a2:Addr}{n:Nat}{xs ys:Array Value}{x y u v:Value}
def zipN{Q:Pc}(D:ZipApart z p q j1 j2 a1 a2)(hz:IsZip s.heap z p q .none)(hp:IsPair s.heap p (.ref j1) (.ref j2))(hq:IsPair s.heap q u v)
 (i1:ItB b1 s.heap j1 a1 n) (i2:ItB b2 s.heap j2 a2 n) (l1:LsB b1 s.heap a1 xs) (l2:LsB b2 s.heap a2 ys) (ex:xs[n]?=some x) (ey:ys[n]?=some y)
 (k:∀h',IsZip h' z p q (rawInt s.heap.objs.size)->IsPair h' q x y->ItB b1 h' j1 a1 (n+1)->ItB b2 h' j2 a2 (n+1)->IsPair h' s.heap.objs.size x y->(∀c o,c≠z->c≠q->c≠j1->c≠j2->s.heap.get? c=some o->h'.get? c=some o)->Q (.ref s.heap.objs.size) { s with heap:=h' }):
 wpAny (model prog w) A (Builtin.«zip.__next__» ⟨[.ref z],[]⟩) (λd_ s'=>∃v,d_=.done (.ret v)/\Q v s') E s:=by
 show wpAny _ _ (field (.ref z) 2 >>= _) _ _ _;refine p_ (Mn hz rfl (x:=.bool false) rfl ?_);show wpAny _ _ (field (.ref z) 3 >>= _) _ _ _;refine p_ (Mn hz rfl (x:=.ref p) rfl ?_);refine p_ (M3 hp rfl ?_);show wpAny _ _ (Builtin.SmallTypes.ownedTupleIsFree (.ref z) >>= _) _ _ _;refine p_ ?_;unfold Builtin.SmallTypes.ownedTupleIsFree;refine p_ (Mn hz rfl (x:=.none) rfl (B_ ?_));simp only[NG];refine p_ (wpAny_rule ?_);refine p_ (Mn hz rfl (x:=.ref q) rfl ?_);refine p_ (M6 hz (by simp) λg1 (y1:IsZip g1 z p q .ellipsis) t1=>?_);refine p_ ?_;simp only[List.zipIdx_cons,List.zipIdx_nil,List.forIn_cons,List.forIn_nil];refine p_ (p_ (OK ?_));show wpAny _ _ (Builtin.SmallTypes.nextOf (.ref j1) >>= _) _ _ _;refine p_ (vY (bE i1 λo e=>t1.extBut _ _ D.i1z e) (l1.keep λo e=>t1.extBut _ _ D.l1z e) ex λg2 m1 t2=>B_ ?_);have q2:IsPair g2 q u v:=t2.extBut _ _ D.TOi1 (t1.extBut _ _ D.TOz hq);refine p_ (M3 q2 rfl ?_);refine p_ (Oz q2 λg3 (q3:IsPair g3 q x v) t3=>?_);refine p_ (wpAny_letGo (B_ ?_));refine p_ (p_ (OK ?_));show wpAny _ _ (Builtin.SmallTypes.nextOf (.ref j2) >>= _) _ _ _;refine p_ (vY (bE i2 λo e=>t3.extBut _ _ D.TOi2.symm (t2.extBut _ _ D.i12.symm (t1.extBut _ _ D.i2z e))) (l2.keep λo e=>t3.extBut _ _ D.l2TO (t2.extBut _ _ D.l2i1 (t1.extBut _ _ D.l2z e))) ey λg4 m2 t4=>B_ ?_);have q4:IsPair g4 q x v:=t4.extBut _ _ D.TOi2 q3;refine p_ (M3 q4 rfl ?_);refine p_ (Oz q4 λg5 (q5:IsPair g5 q x y) t5=>?_);refine p_ (wpAny_letGo (B_ (B_ ?_)));refine p_ (M3 q5 rfl ?_);refine p_ (wpAny_newTuple ?_);have sz:g5.objs.size=s.heap.objs.size:=by rw[t5.1,t4.1,t3.1,t2.1,t1.1]
 have y5:IsZip g5 z p q .ellipsis:=t5.extBut _ _ D.TOz.symm (t4.extBut _ _ D.i2z.symm (t3.extBut _ _ D.TOz.symm (t2.extBut _ _ D.i1z.symm y1)));have all5:∀c o,c≠z->c≠q->c≠j1->c≠j2->s.heap.get? c=some o->g5.get? c=some o:=λc o c1 c2 c3 c4 e=>t5.extBut _ _ c2 (t4.extBut _ _ c4 (t3.extBut _ _ c2 (t2.extBut _ _ c3 (t1.extBut _ _ c1 e))));have n1:ItB b1 g5 j1 a1 (n+1):=bE m1 λo e=>t5.extBut _ _ D.TOi1.symm (t4.extBut _ _ D.i12 (t3.extBut _ _ D.TOi1.symm e));have n2:ItB b2 g5 j2 a2 (n+1):=bE m2 λo e=>t5.extBut _ _ D.TOi2.symm e;have zl:z<g5.objs.size:=C_ y5;show wpAny _ _ (Builtin.SmallTypes.ownedTupleHandOut (.ref z) (.ref g5.objs.size) >>= _) _ _ _;refine p_ ?_;unfold Builtin.SmallTypes.ownedTupleHandOut;have y6:IsZip (g5.push { cls:=.type "tuple",data:=.seq #[x,y] }) z p q .ellipsis:=t_ _ y5;refine p_ (M6 y6 (by simp) λg7 (y7:IsZip g7 z p q (rawInt g5.objs.size)) t7=>?_);refine M6 y7 (by simp) λg8 (y8:IsZip g8 z p q (rawInt g5.objs.size)) t8=>?_;have up:∀c o,c≠z->g5.get? c=some o->g8.get? c=some o:=λc o c1 e=>t8.extBut _ _ c1 (t7.extBut _ _ c1 (t_ _ e));have w8:IsPair g8 g5.objs.size x y:=t8.extBut _ _ (ND zl) (t7.extBut _ _ (ND zl) (F_ _ rfl));rw[sz] at y8 w8;refine B_ ⟨_,rfl,?_⟩;show Q (.ref g5.objs.size) _;rw[sz];exact k g8 y8 (up _ _ D.TOz q5) (bE n1 λo e=>up _ o D.i1z e) (bE n2 λo e=>up _ o D.i2z e) w8 λc o c1 c2 c3 c4 e=>up c o c1 (all5 c o c1 c2 c3 c4 e)
def Bj(hh:A.handled=none)(D:ZipApart z p q j1 j2 a1 a2)(hz:IsZip s.heap z p q .none)(hp:IsPair s.heap p (.ref j1) (.ref j2))(hq:IsPair s.heap q u v)
 (i1:ItB b1 s.heap j1 a1 n) (i2:ItB b2 s.heap j2 a2 n) (l1:LsB b1 s.heap a1 xs) (l2:LsB b2 s.heap a2 ys) (en:xs[n]?=none\/ys[n]?=none)
 (k:∀h' e,(∀c o,c≠z->c≠q->c≠j1->c≠j2->s.heap.get? c=some o->h'.get? c=some o)->(∃o,h'.get? e=some o/\o.cls=.type "StopIteration")->E (.ref e) { s with heap:=h' }):wpAny (model prog w) A (Builtin.«zip.__next__» ⟨[.ref z],[]⟩) Q E s:=by
 show wpAny _ _ (field (.ref z) 2 >>= _) _ _ _;refine p_ (Mn hz rfl (x:=.bool false) rfl ?_);show wpAny _ _ (field (.ref z) 3 >>= _) _ _ _;refine p_ (Mn hz rfl (x:=.ref p) rfl ?_);refine p_ (M3 hp rfl ?_);show wpAny _ _ (Builtin.SmallTypes.ownedTupleIsFree (.ref z) >>= _) _ _ _;refine p_ ?_;unfold Builtin.SmallTypes.ownedTupleIsFree;refine p_ (Mn hz rfl (x:=.none) rfl (B_ ?_));simp only[NG];refine p_ (wpAny_rule ?_);refine p_ (Mn hz rfl (x:=.ref q) rfl ?_);refine p_ (M6 hz (by simp) λg1 (y1:IsZip g1 z p q .ellipsis) t1=>?_);refine p_ ?_;simp only[List.zipIdx_cons,List.zipIdx_nil,List.forIn_cons,List.forIn_nil];refine p_ (p_ (OK ?_));show wpAny _ _ (Builtin.SmallTypes.nextOf (.ref j1) >>= _) _ _ _;cases ex:xs[n]? with
 |
  none=>
  refine p_ (om hh (bE i1 λo e=>t1.extBut _ _ D.i1z e) (l1.keep λo e=>t1.extBut _ _ D.l1z e) ex λg2 e t2 ⟨oe,he,ce⟩=>?_);have y2:IsZip g2 z p q .ellipsis:=t2 _ _ D.i1z.symm y1;have ez:e≠z:=λw=>by subst w;rw[y2] at he;cases he;simp at ce
  exact M6 y2 (by simp) λg3 _ t3=>k g3 e (λc o c1 _ c3 _ w=>t3.extBut _ _ c1 (t2 _ _ c3 (t1.extBut _ _ c1 w))) ⟨oe,t3.extBut _ _ ez he,ce⟩
 |
  some x=>
  have ey:ys[n]?=none:=en.resolve_left λw=>by rw[ex] at w;cases w
  refine p_ (vY (bE i1 λo e=>t1.extBut _ _ D.i1z e) (l1.keep λo e=>t1.extBut _ _ D.l1z e) ex λg2 m1 t2=>B_ ?_);have q2:IsPair g2 q u v:=t2.extBut _ _ D.TOi1 (t1.extBut _ _ D.TOz hq);refine p_ (M3 q2 rfl ?_);refine p_ (Oz q2 λg3 q3 t3=>?_);refine p_ (wpAny_letGo (B_ ?_));refine p_ (p_ (OK ?_));show wpAny _ _ (Builtin.SmallTypes.nextOf (.ref j2) >>= _) _ _ _;refine p_ (om hh (bE i2 λo e=>t3.extBut _ _ D.TOi2.symm (t2.extBut _ _ D.i12.symm (t1.extBut _ _ D.i2z e))) (l2.keep λo e=>t3.extBut _ _ D.l2TO (t2.extBut _ _ D.l2i1 (t1.extBut _ _ D.l2z e))) ey λg4 e t4 ⟨oe,he,ce⟩=>?_);have y4:IsZip g4 z p q .ellipsis:=t4 _ _ D.i2z.symm (t3.extBut _ _ D.TOz.symm (t2.extBut _ _ D.i1z.symm y1));have ez:e≠z:=λw=>by subst w;rw[y4] at he;cases he;simp at ce
  exact M6 y4 (by simp) λg5 _ t5=>k g5 e (λc o c1 c2 c3 c4 w=>t5.extBut _ _ c1 (t4 _ _ c4 (t3.extBut _ _ c2 (t2.extBut _ _ c3 (t1.extBut _ _ c1 w))))) ⟨oe,t5.extBut _ _ ez he,ce⟩
end
noncomputable def BM (b:Bool):String:=if b then "list_iterator" else "tuple_iterator"
def uH(h:LsB b s.heap a its)(k:Q (.ref s.heap.objs.size) { s with heap:=s.heap.push { cls:=.type (BM b),data:=.fields #[.ref a,.int 0 0] } }):wpAny (model prog w) A (pyIter (.ref a)) Q E s:=by
 cases b with
 |true=>exact NX h k
 |false=>exact wpAny_pyIter_tuple h k
abbrev zp1(h:Heap)(b:Bool)(a:Addr):Heap:=h.push { cls:=.type (BM b),data:=.fields #[.ref a,.int 0 0] }
abbrev zp2(h:Heap)(b c:Bool)(a d:Addr):Heap:=zp1 (zp1 h b a) c d
abbrev zp3(h:Heap)(b c:Bool)(a d:Addr):Heap:=(zp2 h b c a d).push { cls:=.type "tuple",data:=.seq #[.ref h.objs.size,.ref (zp1 h b a).objs.size] }
abbrev zp4(h:Heap)(b c:Bool)(a d:Addr):Heap:=(zp3 h b c a d).push { cls:=.type "tuple",data:=.seq #[.none,.none] }
abbrev zp5(h:Heap)(b c:Bool)(a d:Addr):Heap:=(zp4 h b c a d).push { cls:=.type "zip",data:=.fields #[.none,.bool false,.bool false,.ref (zp2 h b c a d).objs.size,.ref (zp3 h b c a d).objs.size] }
def BA(b c:Bool)(a d:Addr)(xs ys:Array Value):Meets (Builtin.«zip.__new__» ⟨[.type "zip",.ref a,.ref d],[]⟩) (λ_ R s=>LsB b s.heap a xs/\LsB c s.heap d ys/\R (.ok (.ret (.ref (zp4 s.heap b c a d).objs.size))) { s with heap:=zp5 s.heap b c a d }):=
 .of_wp λprog w A R s h=>by
  obtain⟨hp,g,dr,tk,os⟩:=s;obtain⟨la,ld,h⟩:=h;have hsub:=sub_zip;have L1:LsB b (Shared.heap ⟨hp,g,dr,tk,os⟩) a xs:=la;have L2':LsB c (Shared.heap ⟨hp.push { cls:=.type (BM b),data:=.fields #[.ref a,.int 0 0] },g,dr,tk,os⟩) d ys:=ld.keep λo e=>t_ _ e
  wp_walk using uH L1,uH L2'
  exact⟨_,rfl,h⟩
def yA(la:LsB b s.heap a xs)(ld:LsB c s.heap d ys)
 (k:∀h',IsZip h' (s.heap.objs.size+4) (s.heap.objs.size+2) (s.heap.objs.size+3) .none->IsPair h' (s.heap.objs.size+2) (.ref s.heap.objs.size) (.ref (s.heap.objs.size+1))->IsPair h' (s.heap.objs.size+3) .none .none->
  ItB b h' s.heap.objs.size a 0->ItB c h' (s.heap.objs.size+1) d 0->(∀c o,s.heap.get? c=some o->h'.get? c=some o)->Q (.ref (s.heap.objs.size+4)) { s with heap:=h' }):wpAny (model prog w) A (call (.type "zip") [.ref a,.ref d]) Q E s:=by
 refine callType_new F.called_zip (by decide) (F.typeCall_zip_2 _ _) (F.newCall_zip_2 _ _) (λobj=>F.args_object_init_3 obj _ _) F.entry_zip_new (BA b c a d xs ys) ⟨la,ld,?_⟩;have n1:(zp1 s.heap b a).objs.size=s.heap.objs.size+1:=NU ..;have n2:(zp2 s.heap b c a d).objs.size=s.heap.objs.size+2:=by rw[NU,n1]
 have n3:(zp3 s.heap b c a d).objs.size=s.heap.objs.size+3:=by rw[NU,n2]
 have n4:(zp4 s.heap b c a d).objs.size=s.heap.objs.size+4:=by rw[NU,n3]
 have up:=λ{h:Heap}{x:Addr}{o:Obj} (o':Obj) (e:h.get? x=some o)=>t_ o' e;have e5:(zp5 s.heap b c a d).get? (zp4 s.heap b c a d).objs.size=some _:=F_ _ rfl;have e4:(zp5 s.heap b c a d).get? (zp3 s.heap b c a d).objs.size=some _:=up _ (F_ _ rfl);have e3:(zp5 s.heap b c a d).get? (zp2 s.heap b c a d).objs.size=some _:=up _ (up _ (F_ _ rfl));have e2:(zp5 s.heap b c a d).get? (zp1 s.heap b a).objs.size=some _:=up _ (up _ (up _ (F_ _ rfl)));have e1:(zp5 s.heap b c a d).get? s.heap.objs.size=some _:=up _ (up _ (up _ (up _ (F_ _ rfl))));show _/\_;rw[n2,n3,n4] at e5;rw[n1,n2] at e3;rw[n3] at e4;rw[n1] at e2;rw[n4];have i1:ItB b (zp5 s.heap b c a d) s.heap.objs.size a 0:=by cases b <;> exact⟨_,e1,rfl,rfl⟩
 have i2:ItB c (zp5 s.heap b c a d) (s.heap.objs.size+1) d 0:=by cases c <;> exact⟨_,e2,rfl,rfl⟩
 exact⟨⟨_,e5,rfl⟩,k _ e5 e3 e4 i1 i2 λx o e=>up _ (up _ (up _ (up _ (up _ e))))⟩
noncomputable def ItZ (K:W.Frag) (b c:Bool) (a d:Addr):It:=
 ⟨λi H=>∃xs ys x y,SqB K b H a xs/\SqB K c H d ys/\xs[i]?=some x/\ys[i]?=some y,
  λi H x H'=>∃p u v,x=.ref p/\H p=none/\H'=upd H p (.tup [u,v])/\(∀xs,SqB K b H a xs->xs[i]?=some u)/\∀ys,SqB K c H d ys->ys[i]?=some v,
  λi H=>∃xs ys,SqB K b H a xs/\SqB K c H d ys/\(xs[i]?=none\/ys[i]?=none)⟩
def iA(I:Inv X pins σ H s)(hq:SqB X.K b H a xs):∃its:List Value,Vals xs its/\LsB b s.heap a its.toArray:=by
 cases b with
 |true=>obtain⟨its,rv,p,_⟩:=I.list hq;exact⟨its,rv,p.isList⟩
 |false=>obtain⟨its,rv,p,_⟩:=I.tuple hq;exact⟨its,rv,p⟩
def BP{P:Program}{w:World}{K:W.Frag}{elts:List Expr}{x1:Nat}{tp:Pos}(b c:Bool)(a d z p q j1 j2:Addr)(D:ZipApart z p q j1 j2 a d):
 Turn P w K (.Tuple elts x1 tp) (ItZ K b c a d) [z,p,q,j1,j2] z (λi h=>IsZip h z p q .none/\IsPair h p (.ref j1) (.ref j2)/\(∃u v,IsPair h q u v)/\ItB b h j1 a i/\ItB c h j2 d i) where
 mem:=by simp
 obj:=λi h st e he=>by
  obtain⟨s1,s2,⟨u,v,s3⟩,s4,s5⟩:=st;obtain⟨o4,k4,l4,_⟩:=jY s4;obtain⟨o5,k5,l5,_⟩:=jY s5;simp only[G_,Ng,or_false] at he;rcases he with rfl |rfl |rfl |rfl |rfl
  .exact⟨_,s1,λv y=>by cases y⟩
  .exact⟨_,s2,λv y=>by cases y⟩
  .exact⟨_,s3,λv y=>by cases y⟩
  .exact⟨o4,k4,l4⟩
  .exact⟨o5,k5,l5⟩
 keep:=λi h h' st k=>by obtain⟨s1,s2,⟨u,v,s3⟩,s4,s5⟩:=st;exact⟨k z (by simp) _ s1,k p (by simp) _ s2,⟨u,v,k q (by simp) _ s3⟩,bE s4 λo e=>k j1 (by simp) o e,bE s5 λo e=>k j2 (by simp) o e⟩
 item:=
  by
  intro X hP hw hK hc i pins s σ H E I hf st hg;subst hP hw hK;obtain⟨xs,ys,x,y,qx,qy,ex,ey⟩:=hg;obtain⟨s1,s2,⟨u,v,s3⟩,s4,s5⟩:=st;obtain⟨ix,rx,lx⟩:=iA I qx;obtain⟨iy,ry,ly⟩:=iA I qy;obtain⟨ux,hux,rux⟩:=rx.get ex;obtain⟨uy,huy,ruy⟩:=ry.get ey;have hTy:s.TypeIs (.ref z) "zip":=⟨_,s1,rfl⟩;have zl:=C_ s1;have pl:=C_ s2;have ql:=C_ s3;obtain⟨o4,k4,_,_⟩:=jY s4;obtain⟨o5,k5,_,_⟩:=jY s5;have j1l:=C_ k4;have j2l:=C_ k5;unfold pyNext;refine p_ (N6 (MX (name:=Str.ofString "__next__") hTy Of (NI Of hTy F.entry_zip_next (zipN D s1 s2 s3 s4 s5 lx ly (by simpa using hux) (by simpa using huy) λh' y1 y3 y4 y5 yT hk=>B_ ?_) (F.args_zip_next_1 _))));refine⟨_,rfl,wpAny_letOwnedTupleGo_zip (s:={ s with heap:=h' }) y1 λh2 z2 sb=>?_⟩;have sb':Heap.SameBut z h' h2:=sb;have hT:H s.heap.objs.size=none:=I.hok.fresh (v_ _);have I1:Inv X pins σ (upd H s.heap.objs.size (.tup [x,y])) { s with heap:=s.heap.push { cls:=.type "tuple",data:=.seq #[ux,uy] },toks:=s.toks }:=
   I.laid (t':=s.toks) (λc o q=>t_ _ q) (v_ _) ⟨by show 2<=sizeLine;decide,[ux,uy],.cons rux (.cons ruy .nil),⟨_,F_ _ rfl,rfl,_,rfl⟩⟩
  have fp':∀e∈[z,p,q,j1,j2],FpOk X pins (upd H s.heap.objs.size (.tup [x,y])) e:=λe he=>by
   have:=hf e he
   simp only[G_,Ng,or_false] at he;rcases he with rfl |rfl |rfl |rfl |rfl
   .exact this.up (LG zl)
   .exact this.up (LG pl)
   .exact this.up (LG ql)
   .exact this.up (LG j1l)
   .exact this.up (LG j2l)
  have I2:Inv X pins σ (upd H s.heap.objs.size (.tup [x,y])) { s with heap:=h2,toks:=s.toks }:=
   Inv.turnedL (s:={ s with heap:=s.heap.push { cls:=.type "tuple",data:=.seq #[ux,uy] },toks:=s.toks }) (ch:=[z,p,q,j1,j2]) (t':=s.toks) I1 (λe o he qe=>by
    have c1:e≠z:=λw=>he (by simp [w]);have c2:e≠q:=λw=>he (by simp [w]);have c3:e≠j1:=λw=>he (by simp [w]);have c4:e≠j2:=λw=>he (by simp [w]);rw[sb'.2 e c1];have q':(s.heap.push { cls:=.type "tuple",data:=.seq #[ux,uy] }).get? e=some o:=qe;by_cases w:e=s.heap.objs.size
    .subst w;rw[F_ _ rfl] at q';cases q';exact yT
    .rw[Heap.get?_push_ne _ _ _ w] at q';exact hk e o c1 c2 c3 c4 q') fp'
  refine⟨.ref s.heap.objs.size,_,I2,rfl,⟨_,x,y,rfl,hT,rfl,λzs hz=>by rw[SqB.inj I hz qx];exact ex,λzs hz=>by rw[SqB.inj I hz qy];exact ey⟩,⟨z2,?_,⟨ux,uy,?_⟩,bE y4 λo e=>(sb'.2 j1 D.i1z).trans e,bE y5 λo e=>(sb'.2 j2 D.i2z).trans e⟩,λe he=>(fp' e he).1⟩
  .exact (sb'.2 p D.TIz).trans (hk p _ D.TIz D.TITO D.TIi1 D.TIi2 s2)
  .exact (sb'.2 q D.TOz).trans y3
 done:=by
  intro X hP hw hK hc i pins s σ H E I hf st hg;subst hP hw hK;obtain⟨xs,ys,qx,qy,en⟩:=hg;obtain⟨s1,s2,⟨u,v,s3⟩,s4,s5⟩:=st;obtain⟨ix,rx,lx⟩:=iA I qx;obtain⟨iy,ry,ly⟩:=iA I qy;have hTy:s.TypeIs (.ref z) "zip":=⟨_,s1,rfl⟩;have en':ix.toArray[i]?=none\/iy.toArray[i]?=none:=by
   rcases en with e |e
   .left;rw[NO] at e;simp;rw[<- rx.length];exact e
   .right;rw[NO] at e;simp;rw[<- ry.length];exact e
  unfold pyNext;refine p_ (N6 (MX (name:=Str.ofString "__next__") hTy Of (NI Of hTy F.entry_zip_next (Bj (I.ok.hd hc) D s1 s2 s3 s4 s5 lx ly en' λh' e hk ⟨o,ho,co⟩=>?_) (F.args_zip_next_1 _))));refine p_ (wpAny_isInstance (T:="StopIteration") (b:=true) ⟨o,ho,co⟩ isSubtype_stop (B_ ⟨rfl,?_⟩));exact Inv.turnedL (ch:=[z,p,q,j1,j2]) (t':=s.toks) I (λe o he qe=>hk e o (λw=>he (by simp [w])) (λw=>he (by simp [w])) (λw=>he (by simp [w])) (λw=>he (by simp [w])) qe) hf
 self:=λ_ _ _ _ _ st h=>wpAny_pyIter_zip st.1 h
def xg:bootBuiltins "zip"=some (.type "zip"):=by decide
def Gi(hg:Gl X "zip")(hm:X.mg "zip"=none)(ha:PA X [l,m] tl)(hs:starEach [l,m] X.env=[(false,eval l X.env),(false,eval m X.env)])(hs2:starEach [m] X.env=[(false,eval m X.env)]):
 PI X (.Tuple elts x1 tp) (.Call (.Name "zip" p) [l,m] [] pos) (λσ H R=>tl σ H λvs H1=>∃(b c:Bool) (a d:Addr) (xs ys:List V),vs=[.ref a,.ref d]/\SqB X.K b H1 a xs/\SqB X.K c H1 d ys/\R (ItZ X.K b c a d) H1):=by
 intro pins s σ H R I h;refine Call_ (cE I hg hm xg (LZ (thn (ha pos pins s σ H _ I h) λus s1 zz=>exA zz λvs H1 I1 r1 q1=>?_) (by rw[hs,hs2]) (by rw[hs2];rfl)));obtain⟨b,c,a,d,xs,ys,e,qx,qy,q⟩:=q1;subst e;cases r1 with
 |
  cons r rr=>
  cases rr with
  |
   cons r' rr=>
   cases rr;cases r;cases r';obtain⟨ix,rx,lx⟩:=iA I1 qx;obtain⟨iy,ry,ly⟩:=iA I1 qy;have la:a<s1.heap.objs.size:=by cases b <;> (obtain⟨o,e,_⟩:=lx;exact C_ e)
   have ld:d<s1.heap.objs.size:=by cases c <;> (obtain⟨o,e,_⟩:=ly;exact C_ e)
   refine yA lx ly λh' y1 y2 y3 y4 y5 hk=>wpAny_pyIter_zip y1 ⟨s1.heap.objs.size+4,[s1.heap.objs.size+4,s1.heap.objs.size+2,s1.heap.objs.size+3,s1.heap.objs.size,s1.heap.objs.size+1],_,_,H1,rfl,I1.kept (t':=s1.toks) λc o z=>hk c o z,BP b c a d _ _ _ _ _ (W.ktu_apart _ _ _ la ld),⟨y1,y2,⟨_,_,y3⟩,y4,y5⟩,λe he=>?_,q⟩;have hge:s1.heap.objs.size<=e:=by
    simp only[G_,Ng,or_false] at he;rcases he with rfl |rfl |rfl |rfl |rfl
    .exact N_ _ _
    .exact N_ _ _
    .exact N_ _ _
    .exact v_ _
    .exact N_ _ _
   exact I1.fpOk hge (I1.hok.fresh hge)
inductive D where
 |non |bl (b:Bool) |int (i:Int) |str (x:Str) |ty (n:String) |glb (x:Str) |exc (x:Str) |tup (xs:List D) |ref (n:Nat) |kl (xs:List D)
 deriving Inhabited
inductive Ob where
 |lst (xs:List D) |fz (xs:List D) |set (xs:List Int) |dct (kvs:List (Key×D)) |any
 deriving Inhabited
abbrev AH:=List Ob
abbrev AE:=List (Option D)
inductive R(α:Type) where
 |ok (a:α) (h:AH) |exc (c:Str) (h:AH) |stuck
inductive SR where
 |nx (ae:AE) (h:AH) |rt (d:D) (h:AH) |bk (ae:AE) (h:AH) |ct (ae:AE) (h:AH) |exc (c:Str) (ae:AE) (h:AH) |stuck
abbrev ME:=AE->AH->R D
abbrev MT:=AE->AH->R Bool
abbrev MA:=AE->AH->R (List D)
abbrev MS:=AE->AH->SR
section
variable(K:W.Frag)(mg:Pa)
def fj(c:Addr)(q:Str):Heap->Prop:=λh=>h.CodeRec (.ref c) q
noncomputable def kI:List Str:=["by_falling_weights", "least_around"]
def LamT(P:Addr)(q:Str):Prop:=∃(x:Str) (f:Addr) (oc:Value) (od:Option Addr) (fd:FuncData) (sl:Array (Option Value)) (c:Addr),x∈kI/\(∀y∈kI,y≠x->mg y=none)/\mg x=some (.ref f)/\K.lookup f=some ⟨oc,od,.func fd,sl⟩/\fd.code=.ref c/\W.codeHdIn K c P=true/\q=fd.qualname ++ ".<locals>." ++ "<lambda>"
def bmP(o:Obj):Prop:=o.cls=.type "module" /\ o.dict=some builtinsNs/\o.data=.plain
def pW(H:Hp):Prop:=∃b o,mg "__builtins__"=some (.ref b)/\b≠builtinsNs/\b≠mainGlobals/\bmP o/\(K.lookup b=some o\/∃u,H b=some (.frz o u))
end
section
variable{X:Cx}{e:Expr}{es:List Expr}{st:Stmt}{sts:List Stmt}
def PE.imp(h:PE X e t)(k:∀σ H Q,t' σ H Q->t σ H Q):PE X e t':=λpins s σ H Q I w=>h pins s σ H Q I (k σ H Q w)
def PT.imp(h:PT X e t)(k:∀σ H Q,t' σ H Q->t σ H Q):PT X e t':=λpins s σ H Q I w=>h pins s σ H Q I (k σ H Q w)
def PW.imp(h:PW X e t)(k:∀σ H Q,t' σ H Q->t σ H Q):PW X e t':=λwh pins s σ H Q I w=>h wh pins s σ H Q I (k σ H Q w)
def PA.imp(h:PA X es t)(k:∀σ H Q,t' σ H Q->t σ H Q):PA X es t':=λpos pins s σ H Q I w=>h pos pins s σ H Q I (k σ H Q w)
def PS.imp(h:PS X st t)(k:∀D σ H,t' D σ H->t D σ H):PS X st t':=λpins s σ H D I w=>h pins s σ H D I (k D σ H w)
def PSs.imp(h:PSs X sts t)(k:∀D σ H,t' D σ H->t D σ H):PSs X sts t':=λpins s σ H D I w=>h pins s σ H D I (k D σ H w)
def PG.imp(h:PG X e t)(k:∀v σ H Q,t' v σ H Q->t v σ H Q):PG X e t':=λpins s σ H v u Q I r w=>h pins s σ H v u Q I r (k v σ H Q w)
def PGs.imp(h:PGs X es t)(k:∀v σ H Q,t' v σ H Q->t v σ H Q):PGs X es t':=λpins s σ H v u Q I r w=>h pins s σ H v u Q I r (k v σ H Q w)
def PO.imp(h:PO X o t)(k:∀σ H Q,t' σ H Q->t σ H Q):PO X o t':=λpins s σ H Q I w=>h pins s σ H Q I (k σ H Q w)
end
abbrev MG:=D->AE->AH->R AE
abbrev MGs:=List D->AE->AH->R AE
noncomputable def g2 (f:Int->Int->R D) (x y:D):R D:=match x,y with
 |.int i,.int j=>f i j
 |_,_=>.stuck
section
variable{K:W.Frag}{X:Cx}
def oT(K:W.Frag):R2:=λx y H Q=>∃a b ys,x=.ref a/\y=.ref b/\SqT K H a []/\SqT K H b ys/\Q (.ref b) H
def D1:OpR X (binaryOp .Add) (oT X.K):=by
 intro pins s σ H x y v u Q I rx ry h;obtain⟨a,b,ys,rfl,rfl,ha,hb,q⟩:=h;cases rx;cases ry;obtain⟨its,r1,p1,_⟩:=I.tuple ha;obtain⟨its2,r2,p2,_⟩:=I.tuple hb;have e:its=[]:=r1.nil_iff.mpr rfl;subst e;obtain⟨⟨cls,dd,data,sl⟩,ho,hc,n,hd⟩:=id p1;obtain⟨⟨cls2,dd2,data2,sl2⟩,ho2,hc2,n2,hd2⟩:=id p2;simp only at hc hd hc2 hd2;subst hc hd hc2 hd2;exact concat_meets ⟨_,ho,rfl⟩ ⟨_,ho2,rfl⟩ noFill_tuple_add seq_tuple_add N3 NV (NT _ _)
  (tuple_addW0 _ _ _ _ n n2 dd dd2 sl sl2 rfl) ⟨ho,ho2,⟨.ref b,H,I,rfl,q⟩⟩
def ixK(h:X.K=K):IxR X (λx y H Q=>zG K x y H Q\/AY K x y H Q):=by subst h;exact Dg.or IU
def catK(h:X.K=K):OpR X (binaryOp .Add) (λx y H Q=>vK x y H Q\/(pj K x y H Q\/oT K x y H Q)):=by subst h;exact FC.or (E1.or D1)
end
inductive AIt where
 |lst (n:Nat) (xs:List D) |tup (xs:List D) |rng (lo:Int) (k:Nat) |rgd (lo:Int) (k:Nat) |txt (x:Str) |enm (s:AIt) |zip (s t:AIt)
abbrev MI:=AE->AH->R AIt
section
variable{K:W.Frag}{X:Cx}{tg iter e a b:Expr}{I:MI}
def PI.imp(h:PI X tg iter t)(k:∀σ H Q,t' σ H Q->t σ H Q):PI X tg iter t':=λpins s σ H Q I w=>h pins s σ H Q I (k σ H Q w)
def Hf(hl:PE X l tl):PI X tg l (λσ H R=>tl σ H λx H1=>(∃a,x=.ref a/\(∃xs,SqL X.K H1 a xs)/\R (Itl X.K a) H1)\/(∃a,x=.ref a/\(∃xs,SqT X.K H1 a xs)/\R (Itt X.K a) H1)):=by
 intro pins s σ H R I h;refine thn (hl pins s σ H _ I h) λv s1 zz=>exA zz λx H1 I1 r1 q1=>?_;rcases q1 with ⟨a,e,⟨xs,hq⟩,q⟩ |⟨a,e,⟨xs,hq⟩,q⟩
 .subst e;cases r1;obtain⟨its,rv,p,hz⟩:=I1.list hq;refine NX p.isList ?_;refine⟨s1.heap.objs.size,[s1.heap.objs.size],_,_,H1,rfl,I1.kept (t':=s1.toks) λb o e=>t_ _ e,xP a _,⟨_,F_ _ rfl,rfl,rfl⟩,λb hb=>?_,q⟩;have e:b=s1.heap.objs.size:=by simpa using hb
  subst e;exact I1.fpOk (v_ _) (I1.hok.fresh (v_ _))
 .subst e;cases r1;obtain⟨its,rv,p,hz⟩:=I1.tuple hq;refine wpAny_pyIter_tuple (show s1.heap.IsTuple a its.toArray from p) ?_;refine⟨s1.heap.objs.size,[s1.heap.objs.size],_,_,H1,rfl,I1.kept (t':=s1.toks) λb o e=>t_ _ e,wg a _,⟨_,F_ _ rfl,rfl,rfl⟩,λb hb=>?_,q⟩;have e:b=s1.heap.objs.size:=by simpa using hb
  subst e;exact I1.fpOk (v_ _) (I1.hok.fresh (v_ _))
end
section
variable{K:W.Frag}{X:Cx}
def JS(h:X.K=K):CallR X (.builtin "len") (λxs H Q=>(∃p ys,xs=[.ref p]/\(SqL K H p ys\/SqT K H p ys)/\Q (.int ys.length) H)\/(∃z,xs=[.str z]/\z.length<=sizeLine/\Q (.int z.length) H)):=by subst h;exact qr.or pV
end
inductive Cl where
 |b (n:String) |o (x:Str)
 deriving DecidableEq
def ClV(mg:Pa):Cl->Value->Prop
 |.b n,v=>v=.type n
 |.o x,v=>∃a,v=.ref a/\mg x=some (.ref a)
abbrev ja:=List (Cl×Cl×Bool)
structure KitsOk(K:W.Frag)(mg:Pa)(kt:ja):Prop where
 one:∀p∈kt,∀t v,ClV mg p.1 t->ClV mg p.2.1 v->W.kitOne K t v=some p.2.2
 xc:∀p∈kt,∀x C,p.1=.o x->mg x=some (.ref C)->XCls K C
noncomputable def kit (kt:ja) (t c:Cl):Option Bool:=(kt.find? λp=>decide (p.1=t)&&decide (p.2.1=c)).map (·.2.2)
noncomputable def gg (kt:ja) (t:Cl):List Cl->Option Bool
 | []=>some false
 |c::r=>match kit kt t c with
  |some true=>some true
  |some false=>gg kt t r
  |none=>none
def nO(e:kit kt t c=some b):(t,c,b)∈kt:=by
 unfold kit at e;cases q:kt.find? (λp=>decide (p.1=t)&&decide (p.2.1=c)) with
 |none=>rw[q] at e;cases e
 |some p=>rw[q] at e;have h1:=List.find?_some q;have h2:=List.mem_of_find?_eq_some q;simp only[w_,Nf] at h1;obtain⟨p1,p2,p3⟩:=p;have e3:p3=b:=LB e;obtain⟨rfl,rfl⟩:=h1;subst e3;exact h2
section
variable{K:W.Frag}{mg:Pa}{X:Cx}{H:Hp}{h:AH}
def wO(ok:KitsOk K mg kt)(ht:ClV mg t tv):∀{cs:List Cl}{cvs:List Value}{b:Bool},Paired (ClV mg) cs cvs->gg kt t cs=some b->W.kitAny K tv cvs=some b:=by
 intro cs;induction cs with
 |nil=>intro cvs b r e;cases r;cases e;rfl
 |
  cons c cs ih=>
  intro cvs b r e;cases r with
  |
   cons r rr=>
   unfold gg at e;unfold W.kitAny;cases q:kit kt t c with
   |none=>rw[q] at e;cases e
   |
    some z=>
    rw[q] at e;rw[ok.one _ (nO q) _ _ ht r];cases z with
    |true=>exact e
    |false=>exact ih rr e
def xS:CallR X (.builtin "isinstance") (λxs H Q=>∃x tp cs t vs b,xs=[x,.ref tp]/\SqT X.K H tp cs/\TyX X.K H x t/\cs.mapM eZ=some vs/\W.kitAny X.K t vs=some b/\Q (.bl b) H):=by intro pins s σ H xs us Q I r h;obtain⟨x,tp,cs,t,vs,b,rfl,ht,ty,hc,hk,q⟩:=h;obtain⟨u,w',rfl,rx,rc⟩:=lD r;cases rc;obtain⟨its,rv,⟨o,e,c,n,d⟩,_⟩:=I.tuple ht;obtain rfl:=nV hc rv;obtain⟨Hh,Z,p,hne⟩:=ud I rx ty;obtain⟨oc,od,odt,osl⟩:=o;have c':oc=.type "tuple":=c;have d':odt=.seq its.toArray n:=d;subst c' d';exact W.kia_tup Z I.kIn p e hk hne λtk=>⟨.bl b,H,I.tok _,rfl,q⟩
def Jh(hK:X.K=K):CallR X (.builtin "isinstance") (λxs H Q=>(∃x c t v b,xs=[x,c]/\TyX K H x t/\eZ c=some v/\W.kitOne K t v=some b/\Q (.bl b) H)\/
 (∃x tp cs t vs b,xs=[x,.ref tp]/\SqT K H tp cs/\TyX K H x t/\cs.mapM eZ=some vs/\W.kitAny K t vs=some b/\Q (.bl b) H)):=by subst hK;exact zU.or xS
end
section
variable{K:W.Frag}{X:Cx}{H:Hp}{h:AH}
inductive EqsR(K:W.Frag)(H:Hp)(y:V)(pd:PyData):List V->List Bool->Prop where
 |nil:EqsR K H y pd [] []
 |cons {x:V}{px:PyData}{xs:List V}{bs:List Bool} (rx:Rep K H x px) (hx:shp px=true) (r:EqsR K H y pd xs bs):EqsR K H y pd (x::xs) (PyData.eqv px pd::bs)
def rEqs(K:W.Frag)(H:Hp)(l:Addr)(y:V)(bs:List Bool):Prop:=∃xs pd,SqL K H l xs/\Rep K H y pd/\shp pd=true/\EqsR K H y pd xs bs
def zE(I:Inv X pins σ H s)(hu:X.A.units+190<cLine)(ry:Rep X.K H y pd)(rv:RelV y v)(hy:shp pd=true):∃e:Value->Bool,∀{xs:List V}{bs:List Bool}{its:List Value},EqsR X.K H y pd xs bs->Vals xs its->its.map e=bs/\∀u∈its,SeqAt.EqAt X.A.in1 s u v (e u):=by
 classical
 obtain⟨as,q1⟩:=ry.reads I rv;refine⟨λu=>if q:∃d as,Reads s.heap u d as/\shp d=true then PyData.eqv q.choose pd else false,λ{xs bs its} r rr=>?_⟩;induction r generalizing its with
 |nil=>cases rr;exact⟨rfl,λu hu=>nomatch hu⟩
 |
  cons rx hx r ih=>
  rename_i x px xs bs;cases rr with
  |
   cons r1 rr=>
   rename_i u us;obtain⟨ih1,ih2⟩:=ih rr;obtain⟨as1,q2⟩:=rx.reads I r1;have hq:∃d as,Reads s.heap u d as/\shp d=true:=⟨px,as1,q2,hx⟩;have e1:(if q:∃d as,Reads s.heap u d as/\shp d=true then PyData.eqv q.choose pd else false)=PyData.eqv px pd:=by
    rw[dif_pos hq];obtain⟨as2,q3,hs3⟩:=hq.choose_spec
    have:=SeqAt.Reads.unique px hq.choose u _ _ (fo hx) q2 q3
    rw[<- this]
   refine⟨by rw[u_,ih1,e1],λw hw=>?_⟩;rcases G_.mp hw with rfl |hw
   .dsimp only;rw[e1];exact SeqAt.eqAt_reads px pd X.A.in1 s _ _ _ _ q2 q1 (fo hx) (fo hy) (kC hx (by have:X.A.in1.units=X.A.units+1:=rfl;rw[this];omega))
   .exact ih2 w hw
def ng(K:W.Frag):V->List V->Hp->VK->Prop:=λx vs H Q=>∃l y bs,x=.ref l/\vs=[y]/\rEqs K H l y bs/\bs.idxOf true<bs.length/\Q (.int (bs.idxOf true:Nat)) H
def EqsR.len(r:EqsR K H y pd xs bs):xs.length=bs.length:=by
 induction r with
 |nil=>rfl
 |cons _ _ _ ih=>rw[Em,Em,ih]
def Bt(hu:X.A.units+190<cLine):MtM X "list.index" (ng X.K):=by
 intro pins s σ H x vs v us Q I rx rv h;obtain⟨l,y,bs,rfl,rfl,⟨xs,pd,hq,ry,hy,re⟩,hi,q⟩:=h;cases rx;obtain⟨u,rfl,ru⟩:=rv.one;obtain⟨e,he⟩:=zE I hu ry ru hy;obtain⟨its,r,⟨o,n,eo,hc,hd,hs⟩,hz⟩:=I.list hq;obtain⟨m1,m2⟩:=he re r;have b_:=r.length;have hbl:=re.len;have hn:=gH;have hj:bs.idxOf true<its.toArray.size:=by rw[A_];omega
 have eo':s.heap.get? l=some { cls:=.type "list",dict:=o.dict,data:=.seq its.toArray n,slots:=o.slots }:=by rw[eo];obtain⟨oc,od,odt,osl⟩:=o;have h1:oc=.type "list":=hc;have h2:odt=.seq its.toArray n:=hs;subst h1 h2;rfl
 have em:∀(m:Nat) (hm:m<its.toArray.size),bs[m]?=some (e its.toArray[m]):=λm hm=>by
  rw[<- m1,LL];have:its[m]?=some its.toArray[m]:=by rw[x_ (by simpa using hm)];rfl
  rw[this];rfl
 refine Ot PySem.F.slot_list_index ⟨_,eo',rfl⟩ PySem.F.entry_list_index (PySem.F.args_list_index_2 _ _)
  (SeqAt.list_indexAt l its.toArray n o.dict o.slots u e (bs.idxOf true) hj (by omega) ?_ ?_) ⟨eo',λw hw=>m2 w (by simpa using hw),?_⟩
 .have:=em _ hj
  rw[x_ hi,List.getElem_idxOf] at this;exact (LB this).symm
 .intro m
   hm hlt
  have:=em m hm
  have hb:m<bs.length:=by omega
  rw[x_ hb] at this;have h3
   : bs[m]≠true:=λz=>by
   have h4:bs.idxOf true<=m:=by
    have:=NR (l:=bs) (a:=true)
    rcases Nat.lt_or_ge m (bs.idxOf true) with z' |z'
    .exact absurd z (by have h5:=List.not_of_lt_findIdx (xs:=bs) (p:=(· == true)) (i:=m) z';simpa using h5)
    .exact z'
   omega
  have h4:e its.toArray[m]=bs[m]:=(LB this).symm;rw[h4];exact Bool.eq_false_iff.mpr h3
 .exact⟨.int _,H,I.tok _,⟨_,rfl⟩,q⟩
def IL(h:X.K=K)(hu:X.A.units+190<cLine):MtM X "list.index" (ng K):=by subst h;exact Bt hu
def Room.u100(r:Room k A):A.units+190<cLine:=by have:=r.un;omega
end
abbrev MO:=AE->AH->R (Option Int)
section
variable{K:W.Frag}{X:Cx}{F:ME}{lo hi:Option Expr}
def BG:V->Option Int->Option Int->Hp->VK->Prop:=λx lo hi H Q=>∃z,x=.str z/\z.length<=16777216/\Q (.str (Txt.slice z lo hi)) H
def Fo:SlR X BG:=by
 intro pins s σ H x v vl vu lo hi sl Q I rx hs pl pu h;obtain⟨z,rfl,hz,q⟩:=h;obtain⟨t,rfl⟩:=rx;refine⟨"str",_,PySem.F.slot_str_getitem.lookup,typeIs_str _ _ _,?_⟩;have k_:∀t' k,EP X pins σ Q (.str (Txt.slice z lo hi) t') { s with toks:=k }:=λt' k=>⟨.str (Txt.slice z lo hi),H,I.tok _,⟨_,rfl⟩,q⟩;cases pl <;> cases pu
 .exact Nl (l:=none) (u:=none) (st:=none) hs rfl (Ow ⟨LU (Txt.slice_le z _ _) hz,λt' k=>k_ t' k⟩)
 .exact Nl (l:=none) (u:=some (_,_)) (st:=none) hs rfl (Ow ⟨LU (Txt.slice_le z _ _) hz,λt' k=>k_ t' k⟩)
 .exact Nl (l:=some (_,_)) (u:=none) (st:=none) hs rfl (Ow ⟨LU (Txt.slice_le z _ _) hz,λt' k=>k_ t' k⟩)
 .exact Nl (l:=some (_,_)) (u:=some (_,_)) (st:=none) hs rfl (Ow ⟨LU (Txt.slice_le z _ _) hz,λt' k=>k_ t' k⟩)
def slK(h:X.K=K):SlR X (λx lo hi H Q=>(A9 K x lo hi H Q\/zD K x lo hi H Q)\/BG x lo hi H Q):=by subst h;exact (Du.or Hq).or Fo
end
def CMulA(i j:Int):Prop:=Ck i j\/CMul i j
section
variable{K:W.Frag}{X:Cx}
def xX(h:X.K=K):OpR X (binaryOp .Add) (λx y H Q=>rI0 (λi j=>.int (i+j)) x y H Q\/(vK x y H Q\/(pj K x y H Q\/oT K x y H Q))):=Hv.or (catK h)
def HM:OpR X (binaryOp .Mult) (rI CMulA λi j=>.int (i*j)):=by
 intro pins s σ H x y v u Q I rx ry h;obtain⟨i,j,e1,e2,hc,q⟩:=h;rcases hc with hc |hc
 .exact DC pins s σ H x y v u Q I rx ry ⟨i,j,e1,e2,hc,q⟩
 .exact G1 pins s σ H x y v u Q I rx ry ⟨i,j,e1,e2,hc,q⟩
end
def gX(h1:pd.canLay0=true)(h2:pd.depth<=160):shp pd=true:=by unfold shp;rw[h1,K_ h2];rfl
def Sm(n:Nat)(x:Int):Prop:=x.natAbs<2^n
def Sm.mono(h:Sm n x)(l:n<=m):Sm m x:=LA h (L8 (by omega) l)
def Sm.mul(h:Sm n x)(k:Sm m y):Sm (n+m) (x*y):=by unfold Sm at *;rw[Mp,M4];exact Nat.mul_lt_mul'' h k
def Sm.bits(h:Sm n x):Builtin.Int.intBits x<=n:=intBits_le_iff.mpr h
def Sm.of_le(h:Sm n y)(l:x.natAbs<=y.natAbs):Sm n x:=ML l h
def CMulA.of(h:Sm n x)(k:Sm m y)(hn:n<=100000)(hm:m<=100000):CMulA x y:=.inl ⟨LU h.bits hn,LU k.bits hm⟩
def CMulA.left(h:-(2^64)<x)(k:x<2^64):CMulA x y:=.inr (.inl ⟨h,k⟩)
def CMulA.right(h:-(2^64)<y)(k:y<2^64):CMulA x y:=.inr (.inr ⟨h,k⟩)
def CDivB.of(h0:y≠0)(h:Sm 8000 y):CDivB x y:=⟨h0,h.bits⟩
structure Sz(n:Nat)(q:Rat):Prop where
 top:Sm n q.num
 bot:Sm n (q.den:Int)
def yZ{a b:Int}(hb:b≠0):((a:Rat)/(b:Rat)).num*b=a*((a:Rat)/(b:Rat)).den:=by
 have h2:=Rat.num_divInt_den ((a:Rat)/(b:Rat));have h3:Rat.divInt ((a:Rat)/(b:Rat)).num (((a:Rat)/(b:Rat)).den:Int)=Rat.divInt a b:=by rw[h2,Rat.divInt_eq_div]
 exact (Rat.divInt_eq_divInt_iff (by have:=((a:Rat)/(b:Rat)).den_nz;omega) hb).mp h3
def uL(q:Rat):Int.gcd q.num q.den=1:=by
 have:=q.reduced
 exact this
def l9(hb:b≠0):Fr.T a b=((a:Rat)/(b:Rat)).num/\Fr.B a b=(((a:Rat)/(b:Rat)).den:Int):=by
 refine Fr.uniq (Fr.B_pos hb) (by have:=((a:Rat)/(b:Rat)).den_pos;omega) (Fr.low hb) (uL _) ?_;have h1:=Fr.cross (a:=a) hb;have h2:=yZ (a:=a) hb;generalize ((a:Rat)/(b:Rat)).num=n at *;generalize (((a:Rat)/(b:Rat)).den:Int)=d at *;generalize Fr.T a b=x at *;generalize Fr.B a b=y at *;have h3:(x*d)*b=(n*y)*b:=by
  calc x*d*b=(x*b)*d:=by rw[NQ]
   _=a*y*d:=by rw[h1]
   _=(a*d)*y:=by rw[NQ]
   _=n*b*y:=by rw[h2]
   _=n*y*b:=by rw[NQ]
 exact NJ hb h3
def vU{a b:Int}(hb:b≠0):((a:Rat)/(b:Rat)).num.natAbs<=a.natAbs:=by
 have h:=(l9 (a:=a) hb).1;rw[<- h];have h1:=Fr.T_mul (a:=a) hb;have h2:=Fr.dv_ne (a:=a) hb;have h3:(Fr.T a b).natAbs*(Fr.dv a b).natAbs=a.natAbs:=by rw[<- Mp,h1]
 have h4:1<=(Fr.dv a b).natAbs:=by omega
 calc (Fr.T a b).natAbs=(Fr.T a b).natAbs*1:=by omega
  _<=(Fr.T a b).natAbs*(Fr.dv a b).natAbs:=MC _ h4
  _=a.natAbs:=h3
def vG{a b:Int}(hb:b≠0):((((a:Rat)/(b:Rat)).den:Int)).natAbs<=b.natAbs:=by
 have h:=(l9 (a:=a) hb).2;rw[<- h];have h1:=Fr.B_mul (a:=a) hb;have h2:=Fr.dv_ne (a:=a) hb;have h3:(Fr.B a b).natAbs*(Fr.dv a b).natAbs=b.natAbs:=by rw[<- Mp,h1]
 have h4:1<=(Fr.dv a b).natAbs:=by omega
 calc (Fr.B a b).natAbs=(Fr.B a b).natAbs*1:=by omega
  _<=(Fr.B a b).natAbs*(Fr.dv a b).natAbs:=MC _ h4
  _=b.natAbs:=h3
def Sz.div(hb:b≠0)(ha:Sm n a)(hb':Sm m b)(k:Nat)(h1:n<=k)(h2:m<=k):Sz k ((a:Rat)/(b:Rat)):=
 ⟨(ha.of_le (vU hb)).mono h1,(hb'.of_le (vG hb)).mono h2⟩
def cG(q:Rat):(q.den:Int)≠0:=by have:=q.den_nz;omega
def dE(q:Rat):q=(q.num:Rat)/((q.den:Int):Rat):=by
 have:=Rat.num_divInt_den q
 rw[Rat.divInt_eq_div] at this;exact this.symm
def gw{b:Int}(h:b≠0):(b:Rat)≠0:=by intro z;exact h (by exact_mod_cast z)
def EM(p q:Rat):p+q=((p.num*q.den+q.num*p.den:Int):Rat)/((p.den*q.den:Int):Rat):=by
 have h1:=gw (cG p);have h2:=gw (cG q)
 conv=>lhs;rw[dE p,dE q]
 simp only[Oo,Mf];grind
def tX(p q:Rat):p*q=((p.num*q.num:Int):Rat)/((p.den*q.den:Int):Rat):=by
 have h1:=gw (cG p);have h2:=gw (cG q)
 conv=>lhs;rw[dE p,dE q]
 simp only[Mf];grind
def Sz.mul(hp:Sz n p)(hq:Sz m q):Sz (n+m) (p*q):=by rw[tX];exact Sz.div (by have:=cG p;have:=cG q;exact Nr ‹_› ‹_›) (hp.top.mul hq.top) (hp.bot.mul hq.bot) _ (by omega) (by omega)
def iI{q:Rat}:0<q.num ↔ 0<q:=by
 have h1:=Rat.num_nonneg (q:=q);have h2:=Oq (q:=q);constructor
 .intro h;refine Rat.lt_of_le_of_ne (h1.mp (by omega)) λz=>?_
  have:=h2.mpr z.symm
  omega
 .intro h;have h3:=h1.mpr (Nh h);have h4:q.num≠0:=λz=>(Rat.ne_of_lt h) (h2.mp z).symm;omega
def ma(p q:Rat):p<q ↔ p.num*q.den<q.num*p.den:=Rat.lt_iff p q
def Bh{P:Program}{w:World}{H:Hp}(h:Heap)(hb:sysModules<h.objs.size):ObjOk P w H (h.push { cls:=.type "dict",data:=.dict #[] }) h.objs.size (.dK []):=
 ⟨Mi _,J_.mpr (Ne.symm (LG hb)),[],.nil,Heap.DictOf.new h⟩
def Inv.big{X:Cx}{pins:Pb}{σ:St}{H:Hp}{s:Shared}(I:Inv X pins σ H s):sysModules<s.heap.objs.size:=by have h:mainGlobals<s.heap.objs.size:=(I.mod.glob.keeps I.bk).lt;exact Ol (by decide) h
def Fu:TE:=λ_ H Q=>∀p,H p=none->Q (.ref p) (upd H p (.dK []))
section
variable{X:Cx}{pos:Pos}
def AW:PE X (.Dict [] [] pos) Fu:=λpins s σ H Q I h=>
 wpAny_Dict_empty ⟨.ref s.heap.objs.size,_,I.laid (a:=s.heap.objs.size) (o:=.dK []) (t':=s.toks) (λ_ _ q=>t_ _ q) (v_ _) (Bh s.heap I.big),rfl,h _ (I.hok.fresh (v_ _))⟩
end
variable{K:W.Frag}{mg:Pa}
section
variable{κ:Type}[DecidableEq κ]
noncomputable def gz (kvs:List (κ×V)) (k:κ):Option V:=(kvs.find? λkv=>decide (kv.1=k)).map (·.2)
noncomputable def gG (kvs:List (κ×V)) (k:κ) (v:V):List (κ×V):=
 if (kvs.any λkv=>decide (kv.1=k))=true then kvs.map (λkv=>if kv.1=k then (kv.1,v) else kv) else kvs++[(k,v)]
def kB{p:κ×V}{r:List (κ×V)}{k:κ}(e:p.1=k):gz (p::r) k=some p.2:=by simp [gz,Ml,e]
def kR{p:κ×V}{r:List (κ×V)}{k:κ}(e:¬ p.1=k):gz (p::r) k=gz r k:=by simp [gz,Ml,e]
theorem qQ(k:κ):∀kvs:List (κ×V),(kvs.any λkv=>decide (kv.1=k))=(gz kvs k).isSome
 | []=>rfl
 |
  p::r=>by
  rw[Mw];by_cases e:p.1=k
  .simp only[kB e,K_ e,Bool.true_or,Option.isSome_some]
  .rw[kR e,H_ e,Bool.false_or];exact qQ k r
def kq(kvs:List (κ×V))(k:κ)(v:V):(gG kvs k v).length<=kvs.length+1:=by
 unfold gG;split
 .rw[q_];omega
 .rw[I_,Em,LD];omega
def RelO.isSome_eq(r:RelO o u):o.isSome=u.isSome:=by
 cases o with
 |none=>cases u with
  |none=>rfl
  |some _=>exact (show False from r).elim
 |some _=>cases u with
  |none=>exact (show False from r).elim
  |some _=>rfl
def KV.val(r:KV kvs vs)(k:κ):RelO (gz kvs k) (valueAt vs k):=by
 unfold KV at r;induction r with
 |nil=>exact True.intro
 |
  @cons p q ps qs h t ih=>
  obtain⟨h1,h2⟩:=h;by_cases e:p.1=k
  .have e':q.1=k:=h1.symm.trans e;have b:valueAt (q::qs) k=some q.2:=by simp [valueAt,Ml,e']
   rw[kB e,b];exact h2
  .have e':¬ q.1=k:=λz=>e (h1.trans z);have b:valueAt (q::qs) k=valueAt qs k:=by simp [valueAt,Ml,e']
   rw[kR e,b];exact ih
def KV.any(r:KV kvs vs)(k:κ):(kvs.any λkv=>decide (kv.1=k))=vs.any λkv=>decide (kv.1=k):=by
 unfold KV at r;induction r with
 |nil=>rfl
 |cons h t ih=>rw[Mw,Mw,ih,h.1]
def KV.repl(r:KV kvs vs)(k:κ)(ry:RelV y u):
 KV (kvs.map λkv=>if kv.1=k then (kv.1,y) else kv) (vs.map λkv=>if kv.1=k then (kv.1,u) else kv):=by
 unfold KV at r ⊢;induction r with
 |nil=>exact .nil
 |
  @cons p q ps qs h t ih=>
  rw[u_,u_];refine .cons ?_ ih;obtain⟨h1,h2⟩:=h;by_cases e:p.1=k
  .rw[if_pos e,if_pos (h1.symm.trans e)];exact⟨h1,ry⟩
  .rw[if_neg e,if_neg (λz=>e (h1.trans z))];exact⟨h1,h2⟩
def KV.put(r:KV kvs vs)(k:κ)(ry:RelV y u):KV (gG kvs k y) (stored vs k u):=by
 unfold gG stored;rw[r.any k];by_cases e:(vs.any λkv=>decide (kv.1=k))=true
 .rw[if_pos e,if_pos e];exact r.repl k ry
 .rw[if_neg e,if_neg e];exact Paired.snoc r ⟨rfl,ry⟩
def KV.length(r:KV kvs vs):kvs.length=vs.length:=OG r
end
def wG(r:RelV (kV k) u):(bQ P w).is k u=true:=by
 cases k with
 |inl i=>obtain⟨t,e⟩:=(show ∃t,u=Value.int i t from r);subst e;exact sM P w i t
 |inr x=>obtain⟨t,e⟩:=(show ∃t,u=Value.str x t from r);subst e;exact sR P w x t
theorem n6:∀{ks:List Key}{us:List Value},Vals (ks.map kV) us->ItemsAre (bQ P w) ks us
 | [],_,r=>by rw[LH] at r;cases r;exact .nil
 |
  k::ks,_,r=>by
  rw[u_] at r;cases r with
  |cons h t=>exact .cons (wG h) (n6 t)
abbrev KT(H:Hp):List (List Key×V)->List (List Key×Addr×Value)->Prop:=Paired λp q=>p.1=q.1/\H q.2.1=some (.tup (p.1.map kV))/\RelV p.2 q.2.2
def KT.val(r:KT H kvs xs)(k:List Key):RelO (gz kvs k) ((atKey xs k).map (·.2)):=by
 induction r with
 |nil=>exact True.intro
 |
  @cons p q ps qs h t ih=>
  obtain⟨h1,_,h2⟩:=h;by_cases e:p.1=k
  .have e':q.1=k:=h1.symm.trans e;have b:atKey (q::qs) k=some q.2:=by simp [atKey,Ml,e']
   rw[kB e,b];exact h2
  .have e':¬ q.1=k:=λz=>e (h1.trans z);have b:atKey (q::qs) k=atKey qs k:=by simp [atKey,Ml,e']
   rw[kR e,b];exact ih
def KT.repl(r:KT H kvs xs)(k:List Key)(ry:RelV y u):
 KT H (kvs.map λkv=>if kv.1=k then (kv.1,y) else kv) (xs.map (putAt k u)):=by
 induction r with
 |nil=>exact .nil
 |
  @cons p q ps qs h t ih=>
  rw[u_,u_];refine .cons ?_ ih;obtain⟨h1,h2,h3⟩:=h;unfold putAt;by_cases e:p.1=k
  .rw[if_pos e,if_pos (h1.symm.trans e)];exact⟨h1,h2,ry⟩
  .rw[if_neg e,if_neg (λz=>e (h1.trans z))];exact⟨h1,h2,h3⟩
def KT.put(r:KT H kvs xs)(k:List Key)(hb:H b=some (.tup (k.map kV)))(ry:RelV y u):
 KT H (gG kvs k y) (storedH xs k b u):=by
 have e:(kvs.any λkv=>decide (kv.1=k))=(atKey xs k).isSome:=by rw[qQ,(r.val k).isSome_eq,Option.isSome_map]
 unfold gG storedH;rw[e];by_cases q:(atKey xs k).isSome=true
 .rw[if_pos q,if_pos q];exact r.repl k ry
 .rw[if_neg q,if_neg q];exact Paired.snoc r ⟨rfl,hb,ry⟩
def KT.keeps(r:KT H kvs xs)(ht:∀b ys,H b=some (.tup ys)->H' b=some (.tup ys)):KT H' kvs xs:=
 Paired.mapP r λ_ _ z=>⟨z.1,ht _ _ z.2.1,z.2.2⟩
section
variable{P:Program}{w:World}{H:Hp}{h:Heap}{a:Addr}
def Cv(ok:HOk P w H h)(e:Rd H a u):ObjOk P w H h a u:=e.ok ok
def vb(ok:HOk P w H h)(e:Rd H a (.dK kvs)):kvs.length<=sizeLine/\(a==sysModules)=false/\∃vs,KV kvs vs/\h.DictOf (bQ P w) a vs:=
 show ObjOk P w H h a (.dK kvs) from Cv ok e
def Kz(ok:HOk P w H h)(e:H a=some (.dK kvs)):kvs.length<=sizeLine/\(a==sysModules)=false/\∃vs,KV kvs vs/\h.DictOf (bQ P w) a vs:=vb ok (.inl e)
def qb(ok:HOk P w H h)(e:H a=some (.tup (ks.map kV))):(tupleKind (bQ P w)).is h ks a:=by obtain⟨_,its,r,o,h1,h2,n,h3⟩:=(show ObjOk P w H h a (.tup (ks.map kV)) from ok a _ e);exact⟨o,its.toArray,n,h1,h2,h3,by simpa using n6 r⟩
def wC(ok:HOk P w H h)(e:Rd H a (.dT kvs)):kvs.length<=sizeLine/\(a==sysModules)=false/\
 ∃xs,KT H kvs xs/\h.DictOfH (tupleKind (bQ P w)) a xs:=by
 obtain⟨z,y,xs,r,o,es,ep,h1,h2,h3,h4,h5⟩:=(show ObjOk P w H h a (.dT kvs) from Cv ok e);refine⟨z,y,xs,r,o,es,ep,h1,h2,h3,h4,λx hx=>?_,h5⟩;have all:∀{l:List (List Key×V)}{m:List (List Key×Addr×Value)},KT H l m->∀x∈m,(tupleKind (bQ P w)).is h x.1 x.2.1:=by
  intro l m q;induction q with
  |nil=>intro x hx;exact nomatch hx
  |
   @cons p q ps qs hq t ih=>
   intro x hx;rcases G_.mp hx with e |hx
   .subst e;exact qb ok (by rw[<- hq.1];exact hq.2.1)
   .exact ih x hx
 exact all r x hx
def Ln(ok:HOk P w H h)(e:H a=some (.dT kvs)):kvs.length<=sizeLine/\(a==sysModules)=false/\
 ∃xs,KT H kvs xs/\h.DictOfH (tupleKind (bQ P w)) a xs:=wC ok (.inl e)
end
def DGet(H:Hp)(a:Addr)(y:V)(r:Option V):Prop:=
 (∃kvs k,Rd H a (.dK kvs)/\y=kV k/\r=gz kvs k)\/∃kvs k b,Rd H a (.dT kvs)/\y=.ref b/\H b=some (.tup (k.map kV))/\r=gz kvs k
def DPut(H:Hp)(a:Addr)(y v:V)(H':Hp):Prop:=
 (∃kvs k,H a=some (.dK kvs)/\y=kV k/\kvs.length<sizeLine/\H'=upd H a (.dK (gG kvs k v)))\/
 ∃kvs k b,H a=some (.dT kvs)/\y=.ref b/\H b=some (.tup (k.map kV))/\kvs.length<sizeLine/\H'=upd H a (.dT (gG kvs k v))
def DGet.k{H:Hp}{a:Addr}{kvs:List (Key×V)}{k:Key}(e:H a=some (.dK kvs)):DGet H a (kV k) (gz kvs k):=.inl ⟨kvs,k,.inl e,rfl,rfl⟩
def DPut.k{H:Hp}{a:Addr}{kvs:List (Key×V)}{k:Key}{v:V}(e:H a=some (.dK kvs))(hl:kvs.length<sizeLine):DPut H a (kV k) v (upd H a (.dK (gG kvs k v))):=.inl ⟨kvs,k,e,rfl,hl,rfl⟩
section
variable{X:Cx}{pins:Pb}{σ:St}{H:Hp}{s:Shared}{a:Addr}{y v:V}{u r:Value}{o:Option V}{A:Around}{E:Pc}
def xZ(hu:A.units+1<cLine)(I:Inv X pins σ H s)(g:DGet H a y (some v))(ry:RelV y u)(h:∀w' s',Inv X pins σ H s'->RelV v w'->Q w' s'):
 wpAny (model X.prog X.w) A (getItem (.ref a) u) Q E s:=by
 rcases g with ⟨kvs,k,e,ey,l⟩ |⟨kvs,k,b,e,ey,eb,l⟩
 .subst ey;obtain⟨z,hd,vs,rel,dd⟩:=vb I.hok e;obtain⟨w',hw,rw'⟩:=RelO.some_of (v:=v) (o:=valueAt vs k) (by rw[l];exact rel.val k);exact wpAny_getItem_of (wG ry) dd.mapOf hw (h w' _ (I.tok _) rw')
 .subst ey;cases (show u=Value.ref b from ry);obtain⟨z,hd,xs,rel,dd⟩:=wC I.hok e;obtain⟨w',hw,rw'⟩:=RelO.some_of (v:=v) (o:=(atKey xs k).map (·.2)) (by rw[l];exact rel.val k);obtain⟨p,hp,hp2⟩:=LK.mp hw;refine wpAny_getItem_heap (tupleKind_room_in1 hu) (qb I.hok eb) dd hp ?_;rw[hp2];exact h w' _ (I.tok _) rw'
def t9(I:Inv X pins σ H s)(mu:Mut (H a))(hs:Heap.SameBut a s.heap h')(he:∃q,h'.get? a=some q)(new:ObjOk X.prog X.w (upd H a ob) h' a ob):
 Inv X pins σ (upd H a ob) { s with heap:=h',toks:=t' }:=
 I.write (x:=a) (e:=a) mu (.inl rfl) (λb q hb z=>(hs.2 b hb).trans z) he new
def Ja(z:kvs.length<=sizeLine)(hd:(a==sysModules)=false)(rel:KV kvs vs)(dd:h'.DictOf (bQ P w) a vs):
 ObjOk P w H' h' a (.dK kvs):=⟨z,hd,vs,rel,dd⟩
def zq(hu:A.units+1<cLine)(I:Inv X pins σ H s)(g:DPut H a y v H')(ry:RelV y u)(rv:RelV v r)(h:∀s',Inv X pins σ H' s'->Q () s'):
 wpAny (model X.prog X.w) A (setItem (.ref a) u r) Q E s:=by
 rcases g with ⟨kvs,k,e,ey,l,eH⟩ |⟨kvs,k,b,e,ey,eb,l,eH⟩
 .subst ey eH;obtain⟨z,hd,vs,rel,dd⟩:=Kz I.hok e;have hz:vs.length<=sizeLine:=by rw[<- rel.length];exact z
  have hl:(gG kvs k v).length<=sizeLine:=by have:=kq kvs k v;omega
  refine wpAny_setItem_pairs (hsz:=hz) (wG ry) dd λh' dd' hs=>h _ ?_;have he:∃q,h'.get? a=some q:=let ⟨q,_,_,hq,_⟩:=dd';⟨q,hq⟩;exact t9 I (by rw[e];exact True.intro) hs he (Ja hl hd (rel.put k rv) dd')
 .subst ey eH;cases (show u=Value.ref b from ry);obtain⟨z,hd,xs,rel,dd⟩:=Ln I.hok e;have hz:xs.length<=sizeLine:=by rw[<- OG rel];exact z
  have hl:(gG kvs k v).length<=sizeLine:=by have:=kq kvs k v;omega
  refine wpAny_setItem_heap (hsz:=hz) (tupleKind_room_in1 hu) (qb I.hok eb) dd λh' dd' hs=>h _ ?_;obtain⟨q,es,ep,hq,h2,h3,h4,_,h5⟩:=dd';refine t9 I (by rw[e];exact True.intro) hs ⟨q,hq⟩ ⟨hl,hd,_,(rel.put k eb rv).keeps λc ys ec=>?_,q,es,ep,hq,h2,h3,h4,h5⟩;rw[aB (JZ ec e (λz=>nomatch z))];exact ec
end
def Ad(i:Expr):Prop:=∀ov iv,subscripted i false ov iv=operate [ov,iv] (getItem ov iv)
def D9{prog:Program}{w:World}{A:Around}{E:Pc}{s:Shared}{env:Env}{value slice:Expr}{pos:Pos}{T id:String}{Q:Pc}
 (hl:typeLookup (.type T) "__getitem__"=pure (some (.builtin id))) (hs:Ad slice)
 (h:wpAny (model prog w) A (eval value env) (λo s₁=>wpAny (model prog w) A (eval slice env) (λi s₂=>s₂.TypeIs o T/\wpAny (model prog w) A (getItem o i) Q E s₂) E s₁) E s):
 wpAny (model prog w) A (eval (.Subscript value slice pos) env) Q E s:=by
 refine Subscript_ (LX h (λo s₁ h₁=>LX h₁ (λi s₂ h₂=>?_) λ_ _ x=>x) λ_ _ x=>x);obtain⟨hT,h₂⟩:=h₂;unfold subscriptTail;refine p_ ?_;rw[getitemInPython_of_ne hT.not_modules];refine p_ (wpAny_specialOf hT hl ?_);have d_:wpAny (model prog w) A (subscripted slice false o i) (λr s₃=>wpAny (model prog w) A (letTemporaryGo value o r >>= λ_=>pure r) Q E s₃) E s₂:=by rw[hs o i];exact wpAny_operating (LX h₂ (λr s₃ h₃=>p_ (wpAny_letTemporaryGo (B_ h₃))) λ_ _ x=>x)
 first
  |exact B_ (p_ d_)
  |exact p_ (B_ (p_ d_))
  |exact p_ d_
def sZ(I:Inv X pins σ H s)(g:DGet H a y o):s.TypeIs (.ref a) "dict":=by
 rcases g with ⟨kvs,k,e,_,_⟩ |⟨kvs,k,b,e,_,_,_⟩
 .obtain⟨_,_,vs,_,dd⟩:=vb I.hok e;exact dd.typeIs
 .obtain⟨_,_,xs,_,dd⟩:=wC I.hok e;exact dd.typeIs
def KO(td ty:TE):TE:=λσ H Q=>td σ H λx H1=>ty σ H1 λy H2=>∃a v,x=.ref a/\DGet H2 a y (some v)/\Q v H2
section
variable{X:Cx}{o i:Expr}{pos:Pos}{td ty:TE}
def C6(hu:X.A.units+1<cLine)(ho:PE X o td)(hi:PE X i ty)(hs:Ad i):PE X (.Subscript o i pos) (KO td ty):=by intro pins s σ H Q I h;refine D9 PySem.F.slot_dict_getitem.lookup hs (thn (ho pins s σ H _ I h) λu s1 zz=>exA zz λx H1 I1 rx q1=>thn (hi pins s1 σ H1 _ I1 q1) λiv s2 ⟨y,H2,I2,ry,a,v,ex,g,q2⟩=>?_);subst ex;obtain rfl:u=Value.ref a:=rx;exact⟨sZ I2 g,xZ hu I2 g ry λw' s3 I3 rw'=>⟨v,H2,I3,rw',q2⟩⟩
end
section
variable[DecidableEq κ]
noncomputable def lkD (kvs:List (κ×α)) (k:κ):Option α:=(kvs.find? λkv=>decide (kv.1=k)).map (·.2)
noncomputable def eg (kvs:List (κ×α)) (k:κ) (v:α):List (κ×α):=if (kvs.any λkv=>decide (kv.1=k))=true then kvs.map λkv=>if kv.1=k then (kv.1,v) else kv else kvs++[(k,v)]
end
section
variable{H:Hp}
def Ai[DecidableEq κ]:∀{kvs:List (κ×α)}{ws:List (κ×β)},ws.map (·.1)=kvs.map (·.1)->(ws.any λkv=>decide (kv.1=k))=kvs.any λkv=>decide (kv.1=k):=by
 intro kvs;induction kvs with
 |
  nil=>
  intro ws e;cases ws with
  |nil=>rfl
  |cons _ _=>cases e
 |
  cons p kvs ih=>
  intro ws e;cases ws with
  |nil=>cases e
  |cons w ws=>rw[u_,u_] at e;injection e with e1 e2;rw[Mw,Mw,ih e2,e1]
def C2:qM:=λo i v H Q=>∃a H4,o=.ref a/\DPut H a i v H4/\Q H4
variable{X:Cx}{a:Expr}
def AK(hu:X.A.units+1<cLine):wb X C2:=λpins s σ H o i v ov iv u Q I ro ri rv ⟨a,H4,eo,g,q⟩=>by subst eo;obtain rfl:ov=Value.ref a:=ro;exact zq hu I g ri rv λs4 I4=>⟨H4,I4,q⟩
end
def yu(bs:List Bool):((List.range bs.length).any λi=>bs.getD i false)=bs.any id:=by
 rw[NM,N7,N7];constructor
 .rintro⟨i,hi,h⟩;have hi':=LC.mp hi;exact⟨bs[i],Mo hi',by simpa [E_,hi'] using h⟩
 .rintro⟨x,hx,h⟩;obtain⟨i,hi,rfl⟩:=Oj.mp hx;exact⟨i,LC.mpr hi,by simpa [E_,hi] using h⟩
section
variable{X:Cx}
def zR(hc:X.calm=true):CallR X (.builtin "any") (λxs H Q=>∃(a:Addr) (bs:List Bool),xs=[.ref a]/\SqL X.K H a (bs.map V.bl)/\Q (.bl (bs.any id)) H):=by
 intro pins s σ H xs us Q I r h;obtain⟨a,bs,rfl,hq,q⟩:=h;obtain⟨u,rfl,ru⟩:=dO r;cases ru;obtain⟨its,rv,p,hz⟩:=I.list hq;have hl:=rv.length;rw[q_] at hl;have hlt:a<s.heap.objs.size:=by obtain⟨o,n,e,_⟩:=p;exact C_ e
 refine call_any_walk (NX p.isList ?_);refine⟨s.heap.objs.size,_,_,_,_,_,λi=>bs.getD i false,rfl,Walks.list (A:=X.A.in1) (I.ok.hd hc) s.heap.objs.size a (LG hlt) its.toArray,⟨⟨_,F_ _ rfl,rfl,rfl⟩,(p.keeps λb o e=>t_ _ e).isList⟩,λi v s' Q' E' hP hQ=>?_,λh' tk hk=>?_⟩
 .have hP':its[i]?=some v:=by simpa using hP
  have hi:i<bs.length:=by rw[hl];exact (D_.mp hP').1
  have hb:(bs.map V.bl)[i]?=some (V.bl bs[i]):=by simp [hi]
  obtain⟨u,hu,ru⟩:=rv.get hb;rw[hP'] at hu;cases hu;cases ru;refine MV ?_;have e:bs.getD i false=bs[i]:=by simp [E_,hi]
  show Q' bs[i] s';rw[<- e];exact hQ
 .have e1:its.toArray.size=bs.length:=by rw[A_,hl]
  rw[e1,yu];have hn:H s.heap.objs.size=none:=I.fresh;have I1:Inv X pins σ H { s with heap:=s.heap.push { cls:=.type "list_iterator",dict:=none,data:=.fields #[.ref a,rawInt 0] } }:=I.kept (t':=s.toks) λb o e=>t_ _ e;refine⟨.bl _,H,?_,rfl,q⟩;refine I.kept (t':=tk) λb o e=>?_;have hne:b≠s.heap.objs.size:=LG (C_ e);exact hk b o (by simpa using hne) (t_ _ e)
def anyK{K:W.Frag}(h:X.K=K)(hc:X.calm=true):CallR X (.builtin "any") (λxs H Q=>∃(a:Addr) (bs:List Bool),xs=[.ref a]/\SqL K H a (bs.map V.bl)/\Q (.bl (bs.any id)) H):=by subst h;exact zR hc
end
open PySem PySem.Spec PySem.Calls PyProof.Rows
section
variable{X:Cx}{K:W.Frag}{es:List Expr}{pos:Pos}
def gUnp(K:W.Frag)(n:Nat)(t:TGs):TG:=λv σ H Q=>∃a xs,v=.ref a/\(SqT K H a xs\/SqL K H a xs)/\xs.length=n/\t xs σ H Q
def II{k:Nat}{t:TGs}{n:Nat}(hc:X.calm=true)(h:PGs X es t)
 (hn:(assignEach es X.env).length=n) (hst:(assignEach es X.env).findIdx? (·.1)=none):PG X (.Tuple es k pos) (gUnp X.K n t):=by
 intro pins s σ H v u Q I r hw;obtain⟨a,xs,e1,hq,hl,hw⟩:=hw;rcases hq with hq |hq
 .exact xu hc h hn hst pins s σ H v u Q I r ⟨a,xs,e1,hq,hl,hw⟩
 .subst e1;cases r;obtain⟨its,rv,⟨o,m,ho,oc,od,os⟩,hz⟩:=I.list hq;have ht:s.heap.IsList a its.toArray:=⟨o,ho,oc,m,os⟩;rw[assign_Tuple];refine p_ (Nm ?_);unfold unpack;rw[hst,hn,show n=its.toArray.size by simp [<- hl,rv.length]];refine p_ (Mx (W.kun_itemsOf (I.ok.hd hc) ht λh' hx=>?_));have I1:Inv X pins σ H { s with heap:=h' }:=I.kept (t':=s.toks) λb o e=>hx b o (LG (C_ e)) e;exact h pins _ σ H xs _ Q I1 (by simpa using rv) hw
end
section
variable{X:Cx}{mg:Pa}{a:Expr}{pos q2 p1 p2:Pos}
noncomputable def ij (j:Int):List V:=(List.range j.toNat).map λi=>V.int ((i:Nat):Int)
def rLrg:List V->Hp->VK->Prop:=λxs H Q=>∃j:Int,xs=[.int j]/\-(2^62)<=j/\j<=16777216/\∀l,H l=none->Q (.ref l) (upd H l (.lst (ij j)))
theorem tD:∀(n:Nat) (f:Nat->Int) (is:List Nat) (ys:List Value),CarriedAll ys (is.map λi=>PyData.int (f i))->Vals (is.map λi=>V.int (f i)) ys
 |n,f,[],ys,h=>by cases h;exact .nil
 |
  n,f,i::is,ys,h=>by
  cases h with
  |cons c r=>cases c;exact .cons ⟨_,rfl⟩ (tD n f is _ r)
def GJ(hc:X.calm=true)(hl:Gl X "list")(hml:X.mg "list"=none)(hg:Gl X "range")(hm:X.mg "range"=none)(ha:PA X [a] ta)(hs:starEach [a] X.env=[(false,eval a X.env)])
 (hs1:starEach [.Call (.Name "range" p2) [a] [] q2] X.env=[(false,eval (.Call (.Name "range" p2) [a] [] q2) X.env)]):
 PE X (.Call (.Name "list" p1) [.Call (.Name "range" p2) [a] [] q2] [] pos) (tCB rLrg ta):=by
 intro pins s σ H Q I h;refine Md (cE I hl hml (show bootBuiltins "list"=some (.type "list") from rfl) ?_ (by decide) (by decide));refine LZ ?_ hs1 rfl;rw[hs1];show wpAny _ _ (spliced ((false,eval (.Call (.Name "range" p2) [a] [] q2) X.env)::[])) _ _ s;refine M5 ?_;refine Md (cE I hg hm (show bootBuiltins "range"=some (.type "range") from rfl) ?_ (by decide) (by decide));refine LZ (thn (ha q2 pins s σ H _ I h) λus s1 zz=>exA zz λvs H1 I1 r1 q1=>?_) hs rfl;obtain⟨j,e,h1,h2,q⟩:=q1;subst e;cases r1 with
 |
  cons r rr=>
  cases rr;obtain⟨t,rfl⟩:=r;refine call_range_1 (Ny ?_);have I2:Inv X pins σ H1 { s1 with heap:=s1.heap.push { cls:=.type "range",data:=.fields #[.int 0 s1.toks,.int j t,.int 1 (s1.toks+1)] },toks:=s1.toks+1+1 }:=I1.kept λb o e=>t_ _ e;obtain⟨m,hns,_⟩:=I2.loc;refine list_rangeD (I.ok.hd hc) (Att.fr_all hns) (news:=[]) (λp hp=>nomatch hp) (IsRange.new ..) (small_one (by omega) (by omega) (by omega) (by omega)) (n:=j.toNat) (by rw[OJ];split <;> omega) (by omega) ?_;intro h' tk ys hf hn hk _ _ ⟨⟨c,hpl⟩,_⟩ hcar;have rv:Vals (ij j) ys:=tD 0 (λi=>((i:Nat):Int)) (List.range j.toNat) ys (by
   unfold rangeInts at hcar;rw[MF] at hcar;have e:((λi=>PyData.int i) ∘ λ(i:Nat)=>(0:Int)+(i:Int)*1)=λi:Nat=>PyData.int (i:Int):=by funext i;simp
   rw[show (PyData.int ∘ λ(i:Nat)=>(0:Int)+(i:Int)*1)=λi:Nat=>PyData.int (i:Int) from e] at hcar;exact hcar)
  have hz:(ij j).length<=sizeLine:=by unfold ij;rw[q_,z_];have:sizeLine=16777216:=rfl;omega
  exact⟨.ref _,_,I2.laid (t':=tk) hk (v_ _) (show ObjOk X.prog X.w _ h' _ (.lst (ij j)) from ⟨hz,ys,c,rv,hpl⟩),rfl,q _ (I2.hok.fresh (v_ _))⟩
end
section
variable{X:Cx}
def tV:V->List V->Hp->VK->Prop:=λx vs H Q=>∃l xs i y,x=.ref l/\vs=[.int i,y]/\H l=some (.lst xs)/\0<=i/\i<=(xs.length:Nat)/\xs.length<sizeLine/\Q .non (upd H l (.lst (xs.take i.toNat++y::xs.drop i.toNat)))
def yP:MtM X "list.insert" tV:=by
 intro pins s σ H x vs v us Q I rx rv h;obtain⟨l,xs,i,y,rfl,rfl,hH,h0,h1,hz,q⟩:=h;cases rx;obtain⟨u1,u2,rfl,ru1,ru2⟩:=lD rv;obtain⟨t,rfl⟩:=ru1;obtain⟨z,its,n,r,hl,e⟩:=I.lstM hH;have hs:sizeLine=16777216:=rfl;have hf:Builtin.List.listFitsIndex i=true:=fitsIndex_both (by omega) (by omega);refine Ot PySem.F.slot_list_insert ⟨_,e,rfl⟩ PySem.F.entry_list_insert (PySem.F.args_list_insert_3 _ _ _) (AutoSeq1.list_insert_list_int_val_1 l its.toArray n i t u2 (by rw[hf];decide) (by rw[A_];omega)) ⟨e,?_⟩;refine⟨.non,_,I.lset (its':=its.take i.toNat++u2::its.drop i.toNat) hH e ?_ ((r.take _).append (.cons ru2 (r.drop _))) ?_,rfl,q⟩
 .show (have k:=if i<0 then (i+(its.toArray.size:Int)).toNat else min i.toNat its.toArray.size;(its.toArray.extract 0 k).push u2++its.toArray.extract k)=_;rw[if_neg (by omega),A_,Om (by omega)];apply Array.ext';simp [Mq]
 .simp only[I_,Em,LP,LR];omega
def Je:List V->Hp->VK->Prop:=λxs H Q=>xs=[]/\∀l,H l=none->Q (.ref l) (upd H l (.set (λ_=>false) 0))
def yo:R2:=λx y H Q=>∃i a S n,x=.int i/\y=.ref a/\H a=some (.set S n)/\Q (.bl (S i)) H
def Bq:OpR X (compareOp .In) yo:=by intro pins s σ H x y v u Q I rx ry h;obtain⟨i,a,S,n,rfl,rfl,hH,q⟩:=h;obtain⟨t,rfl⟩:=rx;cases ry;have hS:s.heap.SetOf (intKind X.prog X.w) a S n:=I.hok a _ hH;exact wpAny_inSet_of (intKind_is _ _ i t) rfl hS ⟨.bl (S i),H,I.tok _,rfl,q⟩
def Dc:V->List V->Hp->VK->Prop:=λx vs H Q=>∃a i S n,x=.ref a/\vs=[.int i]/\H a=some (.set S n)/\n<4000/\Q .non (upd H a (.set (λk=>S k || decide (k=i)) (if S i then n else n+1)))
def xG:MtM X "set.add" Dc:=by intro pins s σ H x vs v us Q I rx rv h;obtain⟨a,i,S,n,rfl,rfl,hH,hn,q⟩:=h;cases rx;obtain⟨u,rfl,ru⟩:=rv.one;obtain⟨t,rfl⟩:=ru;have hS:s.heap.SetOf (intKind X.prog X.w) a S n:=I.hok a _ hH;refine call_set_add (intKind_is _ _ i t) rfl hS (by unfold scanBound;omega) λh' sb hS'=>?_;refine⟨.non,_,I.write (x:=a) (e:=a) (by rw[hH];exact trivial) (.inl rfl) (λb o hb e=>(sb.2 b hb).trans e) ?_ (show ObjOk X.prog X.w _ h' a (.set (λk=>S k || decide (k=i)) (if S i then n else n+1)) from hS'),rfl,q⟩;obtain⟨o,_,_,_,e,_⟩:=hS';exact⟨o,e⟩
def sJ:CallR X (.builtin "len") (λxs H Q=>∃a S n,xs=[.ref a]/\H a=some (.set S n)/\Q (.int (n:Nat)) H):=by intro pins s σ H xs us Q I r h;obtain⟨a,S,n,rfl,hH,q⟩:=h;obtain⟨u,rfl,ru⟩:=dO r;cases ru;have hS:s.heap.SetOf (intKind X.prog X.w) a S n:=I.hok a _ hH;obtain⟨o,es,ep,t,e,hex,hd,_,_,hb,hf,rfl⟩:=hS;refine call_len_set e hex hd hf (by unfold scanBound at hb;omega) ⟨.int (es.size:Nat),H,I.tok _,⟨_,rfl⟩,q⟩
def wV:CallR X (.type "set") Je:=by intro pins s σ H xs us Q I r h;obtain⟨rfl,q⟩:=h;cases r;refine call_set_0 λled=>?_;refine⟨.ref s.heap.objs.size,_,I.laid (t':=s.toks) (λb o e=>t_ _ e) (v_ _) (show ObjOk X.prog X.w _ _ _ (.set (λ_=>false) 0) from ?_),rfl,q _ (I.hok.fresh (v_ _))⟩;obtain⟨h1,es,ep,tt,h2,h3,h4,h5,h6⟩:=setObjOf_fresh (knd:=intKind X.prog X.w) led;exact⟨_,es,ep,tt,F_ _ rfl,h1,h2,h3,h4,by rw[h5];decide,h6,h5⟩
end
section
noncomputable def ff (xs:List Int) (i:Int):List Int:=if i∈xs then xs else i::xs
end
section
variable{X:Cx}{K:W.Frag}
def pE(K:W.Frag):V->List V->Hp->VK->Prop:=λx vs H Q=>∃l b xs zs,x=.ref l/\vs=[.ref b]/\H l=some (.lst xs)/\SqT K H b zs/\xs.length+zs.length<=sizeLine/\Q .non (upd H l (.lst (xs++zs)))
def EL(l:Addr)(xs:Array Value)(n:Nat)(b:Addr)(ys:Array Value)(n2:Nat)(dd:Option Addr)(ss:Array (Option Value))(z0:¬(!xs.isEmpty&&Builtin.List.listTooLong (xs.size+ys.size))=true)(z1:xs.size<=sizeLine)(z2:xs.size+ys.size<=sizeLine+1):
 Meets (Builtin.«list.extend» ⟨[.ref l,.ref b],[]⟩) (λ_ R s=>s.heap.get? l=some { cls:=.type "list",dict:=none,data:=.seq xs n,slots:=#[] }/\s.heap.get? b=some { cls:=.type "tuple",dict:=dd,data:=.seq ys n2,slots:=ss }/\R (.ok (.ret Value.none)) { s with heap:=s.heap.update l (Obj.mapSeq λx=>x++ys),toks:=s.toks }):=
 .of_wp λprog w A R s h=>by
  obtain⟨hp,g,d,tk,os⟩:=s;obtain⟨el,eb,h⟩:=h;have e1:=PySem.AutoSeq1.idx_int;have e2:=PySem.F.sub_tuple_tuple;have e3:=PySem.F.sub_list_list;have e4:=PySem.F.sub_tuple_list;have e5:=PySem.F.sub_list_tuple;have zz:(xs++ys).size<=sizeLine+1:=by rw[Array.size_append];exact z2
  wp_walk using (wpAny_updateSeq el rfl (hz:=z1) (_hz':=zz)),wpAny_loadPart' el,wpAny_loadPart' eb
  exact⟨_,rfl,h⟩
def wx(hK:X.K=K):MtM X "list.extend" (pE K):=by
 subst hK;intro pins s σ H x vs v us Q I rx rv h;obtain⟨l,b,xs,zs,rfl,rfl,hH,hB,hz,q⟩:=h;cases rx;obtain⟨u,rfl,ru⟩:=rv.one;cases ru;obtain⟨z,its,n,r,hl,e⟩:=I.lstM hH;obtain⟨its2,r2,⟨⟨oc,od,oda,os⟩,e2,ec,n2,ed⟩,z2⟩:=I.tuple hB;dsimp only at ec ed;subst ec ed;have hl2:=r2.length;have hsz:its.toArray.size+its2.toArray.size<=sizeLine:=by rw[A_,A_];omega
 have hlong:¬ (!its.toArray.isEmpty&&Builtin.List.listTooLong (its.toArray.size+its2.toArray.size))=true:=by rw[Ao hsz,Bool.and_false];exact y_
 refine Ot PySem.F.slot_list_extend ⟨_,e,rfl⟩ PySem.F.entry_list_extend (PySem.F.args_list_extend_2 _ _)
  (EL l its.toArray n b its2.toArray n2 od os hlong (by rw[A_];omega) (by omega)) ⟨e,e2,?_⟩
 refine⟨.non,_,I.lset (its':=its++its2) hH e (by simp) (r.append r2) ?_,rfl,q⟩;rw[I_];omega
end
noncomputable def mnI:List Int->Int
 | []=>0
 | [x]=>x
 |x::y::r=>if mnI (y::r)<x then mnI (y::r) else x
theorem gj:∀{l:List Int},l≠[]->mnI l∈l
 | [x],_=>by simp [mnI]
 |
  x::y::r,_=>by
  have:=gj (l:=y::r) (by simp)
  rw[mnI];split
  .exact r_ _ this
  .exact s_ ..
theorem lg:∀{l:List Int}{a:Int},a∈l->mnI l<=a
 | [x],a,h=>by rw[L5] at h;rw[h];exact Int.le_refl _
 |
  x::y::r,a,h=>by
  rw[mnI];rcases G_.mp h with rfl |h
  .split <;> omega
  .have:=lg (l:=y::r) h
   split <;> omega
noncomputable def mxI (l:List Int):Int:=- mnI (l.map λx=>-x)
def uF{l:List Int}(h:l≠[]):mxI l∈l:=by
 have:=gj (l:=l.map λx=>-x) (by simpa using h)
 obtain⟨x,hx,e⟩:=LN.mp this;unfold mxI;rw[<- e,Int.neg_neg];exact hx
def qP{l:List Int}{a:Int}(h:a∈l):a<=mxI l:=by
 have:=lg (l:=l.map λx=>-x) (a:=-a) (Nj (f:=λx=>-x) h)
 unfold mxI;omega
section
variable{X:Cx}{K:W.Frag}
def qa(f:List Int->Int)(K:W.Frag):List V->Hp->VK->Prop:=λxs H Q=>∃(a:Addr) (ns:List Int),xs=[.ref a]/\SqL K H a (ns.map V.int)/\ns≠[]/\Q (.int (f ns)) H
def yr(hK:X.K=K)(hc:X.calm=true):CallR X (.builtin "min") (qa mnI K):=by
 subst hK;intro pins s σ H xs us Q I r h;obtain⟨a,ns,rfl,hq,hne,q⟩:=h;obtain⟨u,rfl,ru⟩:=dO r;cases ru;obtain⟨its,rv,p,hz⟩:=I.list hq;have hi:=f6 rv;obtain⟨ys,hy⟩:=hi.allInts.items;have hn:numsOf its.toArray.toList=ns:=by rw[show its.toArray.toList=its from rfl,hi.numsOf]
 have pl:=p.isList;rw[hy] at pl hn;rw[nums_intItems] at hn;have hsz:0<ys.size:=by
  have:ns.length=ys.size:=by rw[<- hn,q_,LY]
  have:=List.length_pos_iff.mpr hne
  omega
 refine min_intList (I.ok.hd hc) pl hsz λv h' tk hv hk=>?_;obtain⟨t,rfl⟩:=intItems_at hv;obtain⟨h1,h2⟩:=argBest_lt (numAt ys) (ys.size-1);have m1:numAt ys (argBest (λi j=>decide (numAt ys i<numAt ys j)) (ys.size-1))∈ns:=by rw[<- hn,numAt_eq];exact getD_mem (by rw[q_,LY];omega)
 have m2:∀b∈ns,numAt ys (argBest (λi j=>decide (numAt ys i<numAt ys j)) (ys.size-1))<=b:=λb hb=>by rw[<- hn] at hb;obtain⟨j,hj,rfl⟩:=mem_getD hb;rw[q_,LY] at hj;rw[<- numAt_eq];exact h2 j (by omega)
 have e:numAt ys (argBest (λi j=>decide (numAt ys i<numAt ys j)) (ys.size-1))=mnI ns:=Int.le_antisymm (m2 _ (gj hne)) (lg m1);rw[e];exact⟨.int (mnI ns),H,I.kept (t':=tk) hk,⟨_,rfl⟩,q⟩
def wJ(hK:X.K=K)(hc:X.calm=true):CallR X (.builtin "max") (qa mxI K):=by
 subst hK;intro pins s σ H xs us Q I r h;obtain⟨a,ns,rfl,hq,hne,q⟩:=h;obtain⟨u,rfl,ru⟩:=dO r;cases ru;obtain⟨its,rv,p,hz⟩:=I.list hq;have hi:=f6 rv;obtain⟨ys,hy⟩:=hi.allInts.items;have hn:numsOf its.toArray.toList=ns:=by rw[show its.toArray.toList=its from rfl,hi.numsOf]
 have pl:=p.isList;rw[hy] at pl hn;rw[nums_intItems] at hn;have hsz:0<ys.size:=by
  have:ns.length=ys.size:=by rw[<- hn,q_,LY]
  have:=List.length_pos_iff.mpr hne
  omega
 refine max_intList (I.ok.hd hc) pl hsz λv h' tk hv hk=>?_;obtain⟨t,rfl⟩:=intItems_at hv;obtain⟨h1,h2⟩:=argBest_gt (numAt ys) (ys.size-1);have m1:numAt ys (argBest (λi j=>decide (numAt ys i>numAt ys j)) (ys.size-1))∈ns:=by rw[<- hn,numAt_eq];exact getD_mem (by rw[q_,LY];omega)
 have m2:∀b∈ns,b<=numAt ys (argBest (λi j=>decide (numAt ys i>numAt ys j)) (ys.size-1)):=λb hb=>by rw[<- hn] at hb;obtain⟨j,hj,rfl⟩:=mem_getD hb;rw[q_,LY] at hj;rw[<- numAt_eq];exact h2 j (by omega)
 have e:numAt ys (argBest (λi j=>decide (numAt ys i>numAt ys j)) (ys.size-1))=mxI ns:=Int.le_antisymm (qP m1) (m2 _ (uF hne));rw[e];exact⟨.int (mxI ns),H,I.kept (t':=tk) hk,⟨_,rfl⟩,q⟩
end
noncomputable def srI (ns:List Int):List Int:=ns.mergeSort
def DK{a b:List Int}(p:a.Perm b)(h:a.Pairwise (·<=·))(k:b.Pairwise (·<=·)):a=b:=p.eq_of_pairwise (λx y _ _ h1 h2=>by omega) h k
def bT(ns:List Int):(srI ns).Perm ns:=OB ..
def xk(ns:List Int):(srI ns).Pairwise (·<=·):=by
 have:=List.pairwise_mergeSort (le:=λa b:Int=>decide (a<=b)) (λa b c=>by simp;omega) (λa b=>by simp;omega) ns
 simpa [srI] using this
def xx{a b:List Int}(p:a.Perm b)(s:a.Pairwise (·<=·)):a=srI b:=DK (p.trans (bT b).symm) s (xk b)
section
variable{X:Cx}
def uV:List V->Hp->VK->Prop:=λxs H Q=>∃a ns,xs=[.ref a]/\H a=some (.lst (ns.map V.int))/\ns.length<64/\∀l,H l=none->Q (.ref l) (upd H l (.lst ((srI ns).map V.int)))
def qf:CallR X (.builtin "sorted") uV:=by
 intro pins s σ H xs us Q I r h;obtain⟨a,ns,rfl,hA,hz,q⟩:=h;obtain⟨u,rfl,ru⟩:=dO r;cases ru;obtain⟨_,its,n,rv,hl,e⟩:=I.lstM hA;have la:s.heap.IsList a its.toArray:=⟨_,e,rfl,_,rfl⟩;have len:its.length=ns.length:=by rw[<- rv.length,q_]
 refine sorted_ints la (f6 rv) (by omega) λout ns' a1 a2 a3=>?_;obtain⟨m',he⟩:=sortedAll_at s.heap its out;have en:=xx a2 a3;subst en;have rv':=fK a1;have l2:(srI ns).length=ns.length:=(bT ns).length_eq;have fr:s.heap.objs.size<=s.heap.objs.size+1:=Nat.le_succ _;have hsz:sizeLine=16777216:=rfl;exact⟨.ref (s.heap.objs.size+1),_,I.laid (t':=s.toks) (λb o z=>sortedAll_old z) fr (show ObjOk X.prog X.w _ _ _ (.lst ((srI ns).map V.int)) from ⟨by rw[q_];omega,_,m',rv',he⟩),rfl,q _ (I.hok.fresh fr)⟩
end
open PySem PySem.W PyProof.Rows
structure LtO(lt:Nat->Nat->Bool)(N:Nat):Prop where
 irr:∀i,lt i i=false
 tr:∀i j k,lt i j=true->lt j k=true->lt i k=true
 tot:∀i j,i<N->j<N->i≠j->lt i j=true\/lt j i=true
abbrev Ask:=Nat->Nat->(Bool->Shared->Prop)->Shared->Prop
def Ans(cmp:Ask)(lt:Nat->Nat->Bool)(N:Nat)(s:Shared):Prop:=∀i j C,i<N->j<N->C (lt i j) s->cmp i j C s
structure PmO(N:Nat)(p:Array Nat):Prop where
 sz:p.size=N
 lt:∀i,i<N->p.getD i 0<N
 ne:∀i j,i<j->j<N->p.getD i 0≠p.getD j 0
def UpTo(lt:Nat->Nat->Bool)(p:Array Nat)(k:Nat):Prop:=∀i j,i<j->j<k->lt (p.getD i 0) (p.getD j 0)=true
def DnTo(lt:Nat->Nat->Bool)(p:Array Nat)(k:Nat):Prop:=∀i j,i<j->j<k->lt (p.getD j 0) (p.getD i 0)=true
def dX(p:Array Nat)(i:Nat):p.getD i 0=(p[i]?).getD 0:=by rw[Array.getD_eq_getD_getElem?]
def PmO.of{N:Nat}{p:Array Nat}(h:p.toList.Perm (List.range N)):PmO N p:=by
 have hl:p.size=N:=by rw[<- LY,h.length_eq,z_]
 have nd:p.toList.Nodup:=h.nodup_iff.mpr N9;have e:∀i (hi:i<N),p.getD i 0=p.toList[i]'(by rw[LY,hl];exact hi):=λi hi=>by rw[dX,NL (by rw[hl];exact hi)];simp
 refine⟨hl,λi hi=>?_,λi j hij hj=>?_⟩
 .rw[e i hi];exact LC.mp (h.mem_iff.mp (Mo _))
 .rw[e i (by omega),e j hj];exact Ms.mp nd i j _ _ hij
variable{lt:Nat->Nat->Bool}{N:Nat}{cmp:Ask}{s:Shared}
def LtO.flip(O:LtO lt N){p:Array Nat}(P:PmO N p){i j:Nat}(hij:i<j)(hj:j<N)(h:lt (p.getD j 0) (p.getD i 0)=false):lt (p.getD i 0) (p.getD j 0)=true:=by
 rcases O.tot _ _ (P.lt i (by omega)) (P.lt j hj) (P.ne i j hij hj) with z |z
 .exact z
 .rw[h] at z;cases z
def UpTo.more(O:LtO lt N){p:Array Nat}{n:Nat}(h:UpTo lt p n)(hn:1<=n)(e:lt (p.getD (n-1) 0) (p.getD n 0)=true):UpTo lt p (n+1):=λi j hij hj=>by
 by_cases hj':j<n
 .exact h i j hij hj'
 .obtain rfl:j=n:=by omega
  by_cases hi:i=j-1
  .rw[hi];exact e
  .exact O.tr _ _ _ (h i (j-1) (by omega) (by omega)) e
def DnTo.more(O:LtO lt N){p:Array Nat}{n:Nat}(h:DnTo lt p n)(hn:1<=n)(e:lt (p.getD n 0) (p.getD (n-1) 0)=true):DnTo lt p (n+1):=λi j hij hj=>by
 by_cases hj':j<n
 .exact h i j hij hj'
 .obtain rfl:j=n:=by omega
  by_cases hi:i=j-1
  .rw[hi];exact e
  .exact O.tr _ _ _ e (h i (j-1) (by omega) (by omega))
theorem rQ(O:LtO lt N)(C:Ans cmp lt N s){p:Array Nat}(P:PmO N p){Q:Nat->Shared->Prop}:∀(f n:Nat),n+f=N->1<=n->UpTo lt p n->(∀m,n<=m->m<=N->UpTo lt p m->(m=N\/lt (p.getD m 0) (p.getD (m-1) 0)=true)->Q m s)->(kas_asc p f n).kasWp cmp Q s
 |0,n,hf,h1,hu,hq=>hq n (v_ _) (by omega) hu (.inl (by omega))
 |
  f+1,n,hf,h1,hu,hq=>by
  refine C _ _ _ (P.lt n (by omega)) (P.lt (n-1) (by omega)) ?_;cases z:lt (p.getD n 0) (p.getD (n-1) 0) with
  |true=>exact hq n (v_ _) (by omega) hu (.inr z)
  |false=>exact rQ O C P f (n+1) (by omega) (by omega) (hu.more O h1 (O.flip P (by omega) (by omega) z)) λm a b=>hq m (by omega) b
theorem uK(O:LtO lt N)(C:Ans cmp lt N s){p:Array Nat}(P:PmO N p){Q:Array Nat×Nat×Nat->Shared->Prop}:∀(f n:Nat),n+f=N->1<=n->DnTo lt p n->(∀m,n<=m->m<=N->DnTo lt p m->Q (p,m,0) s)->(kas_desc f p n 0).kasWp cmp Q s
 |0,n,hf,h1,hu,hq=>hq n (v_ _) (by omega) hu
 |
  f+1,n,hf,h1,hu,hq=>by
  refine C _ _ _ (P.lt n (by omega)) (P.lt (n-1) (by omega)) ?_;cases z:lt (p.getD n 0) (p.getD (n-1) 0) with
  |true=>exact uK O C P f (n+1) (by omega) (by omega) (hu.more O h1 z) λm a b=>hq m (by omega) b
  |false=>refine C _ _ _ (P.lt (n-1) (by omega)) (P.lt n (by omega)) ?_;rw[O.flip P (by omega) (by omega) z];exact hq n (v_ _) (by omega) hu
def yz{p:Array Nat}{n k:Nat}(hn:n<=p.size):(kas_rev p 0 n).getD k 0=if k<n then p.getD (n-1-k) 0 else p.getD k 0:=by
 have e:=getElem?_mirror_all (xs:=p) (i:=0) hn k;unfold kas_rev;rw[dX,e];by_cases h:k<n
 .rw[if_pos ⟨Mi _,h⟩,if_pos h,dX];congr 2;omega
 .rw[if_neg (λz=>h z.2),if_neg h,dX]
def Bw(O:LtO lt N)(C:Ans cmp lt N s){p:Array Nat}(P:p.toList.Perm (List.range N)){Q:Nat×Array Nat->Shared->Prop}{n:Nat}(h1:1<=n)(hn:n<=N)(hd:DnTo lt p n)(hq:∀m p',p'.toList.Perm (List.range N)->1<=m->m<=N->UpTo lt p' m->Q (m,p') s):(kas_tail3 n N p).kasWp cmp Q s:=by have P':(kas_rev p 0 n).toList.Perm (List.range N):=(Array.perm_iff_toList_perm.mp (mirror_perm _ _ _ _)).trans P;have sz:=(PmO.of P).sz;unfold kas_tail3;rw[KasT.kasWp_bind];refine rQ O C (PmO.of P') (N-n) n (by omega) h1 (λi j hij hj=>?_) λm a b c _=>hq m _ P' (by omega) b c;rw[yz (by omega),yz (by omega),if_pos (by omega),if_pos (by omega)];exact hd _ _ (by omega) (by omega)
def A2(O:LtO lt N)(C:Ans cmp lt N s){p:Array Nat}(P:p.toList.Perm (List.range N))(hN:1<=N){Q:Nat×Array Nat->Shared->Prop}(hq:∀m p',p'.toList.Perm (List.range N)->1<=m->m<=N->UpTo lt p' m->Q (m,p') s):(kas_count N p).kasWp cmp Q s:=by
 unfold kas_count;rw[KasT.kasWp_bind];refine rQ O C (PmO.of P) (N-1) 1 (by omega) (v_ _) (λi j hij hj=>by omega) λm a b c d=>?_;by_cases hm:m=N
 .rw[if_pos (by rw[LW];exact hm)];exact hq m p P a b c
 .rw[if_neg (by rw[LW];exact hm)];by_cases h1:m>1
  .rw[if_pos h1];refine C _ _ _ ((PmO.of P).lt 0 (by omega)) ((PmO.of P).lt (m-1) (by omega)) ?_;rw[c 0 (m-1) (by omega) (by omega)];exact hq m p P a b c
  .rw[if_neg h1];obtain rfl:m=1:=by omega
   have z:=d.resolve_left hm;unfold kas_descPart;rw[KasT.kasWp_bind];refine uK O C (PmO.of P) (N-2) 2 (by omega) (by omega) (λi j hij hj=>?_) λm' a' b' c'=>?_
   .obtain rfl:i=0:=by omega
    obtain rfl:j=1:=by omega
    exact z
   .dsimp only;rw[if_neg (by omega)];exact Bw O C P (by omega) b' c' hq
theorem qF(O:LtO lt N)(C:Ans cmp lt N s){p:Array Nat}(P:PmO N p){k:Nat}(hk:k<N){Q:Nat->Shared->Prop}(hu:UpTo lt p k):∀(f l r:Nat),l<=r->r<=k->r-l<=f->(∀i,i<l->lt (p.getD i 0) (p.getD k 0)=true)->(∀i,r<=i->i<k->lt (p.getD k 0) (p.getD i 0)=true)->(∀m,m<=k->(∀i,i<m->lt (p.getD i 0) (p.getD k 0)=true)->(∀i,m<=i->i<k->lt (p.getD k 0) (p.getD i 0)=true)->Q m s)->(kas_place p k f l r).kasWp cmp Q s
 |0,l,r,h1,h2,h3,h4,h5,hq=>hq l (by omega) h4 λi hi=>h5 i (by omega)
 |
  f+1,l,r,h1,h2,h3,h4,h5,hq=>by
  unfold kas_place;by_cases h:l >= r
  .rw[if_pos h];exact hq l (by omega) h4 λi hi=>h5 i (by omega)
  .rw[if_neg h];refine C _ _ _ (P.lt k hk) (P.lt _ (by omega)) ?_;cases z:lt (p.getD k 0) (p.getD ((l+r)/2) 0) with
   |
    true=>
    refine qF O C P hk hu f l ((l+r)/2) (by omega) (by omega) (by omega) h4 (λi hi hik=>?_) hq;by_cases hr:i=(l+r)/2
    .rw[hr];exact z
    .exact O.tr _ _ _ z (hu _ _ (by omega) hik)
   |
    false=>
    refine qF O C P hk hu f ((l+r)/2+1) r (by omega) h2 (by omega) (λi hi=>?_) h5 hq;have y:=O.flip P (show (l+r)/2<k by omega) hk z;by_cases hr:i=(l+r)/2
    .rw[hr];exact y
    .exact O.tr _ _ _ (hu _ _ (by omega) (by omega)) y
def wX{p:Array Nat}{k l t:Nat}(hk:k<p.size)(hl:l<=k):(bubble p k (k-l)).getD t 0=if t=l then p.getD k 0 else if l<t/\t<=k then p.getD (t-1) 0 else p.getD t 0:=by
 have e:=getElem?_bubble hk (k-l) (by omega) t;rw[show k-(k-l)=l by omega] at e;rw[dX,e];by_cases h:t=l
 .rw[if_pos h,if_pos h,dX]
 .rw[if_neg h,if_neg h];by_cases h':l<t/\t<=k
  .rw[if_pos h',if_pos h',dX]
  .rw[if_neg h',if_neg h',dX]
theorem za(O:LtO lt N)(C:Ans cmp lt N s){Q:Array Nat->Shared->Prop}(hq:∀p,p.toList.Perm (List.range N)->UpTo lt p N->Q p s):∀(f:Nat) (p:Array Nat) (k:Nat),p.toList.Perm (List.range N)->k+f=N->1<=k->UpTo lt p k->(kas_bin f p k).kasWp cmp Q s
 |
  0,p,k,P,hf,h1,hu=>by
  obtain rfl:k=N:=by omega
  exact hq p P hu
 |
  f+1,p,k,P,hf,h1,hu=>by
  have sz:=(PmO.of P).sz;unfold kas_bin;rw[KasT.kasWp_bind];refine qF O C (PmO.of P) (by omega) hu k 0 k (by omega) (v_ _) (by omega) (λi hi=>by omega) (λi h1 h2=>by omega) λm hm ha hb=>?_;refine za O C hq f _ (k+1) ((Array.perm_iff_toList_perm.mp (bubble_perm _ _ _)).trans P) (by omega) (by omega) λi j hij hj=>?_;rw[wX (by omega) hm,wX (by omega) hm];by_cases i1:i=m
  .rw[if_pos i1];rw[if_neg (by omega),if_pos (by omega)];exact hb _ (by omega) (by omega)
  .rw[if_neg i1];by_cases j1:j=m
   .rw[if_pos j1,if_neg (by omega)];exact ha i (by omega)
   .rw[if_neg j1];by_cases i2:m<i
    .rw[if_pos (by omega),if_pos (by omega)];exact hu _ _ (by omega) (by omega)
    .rw[if_neg (by omega)];by_cases j2:m<j
     .rw[if_pos (by omega)];exact hu _ _ (by omega) (by omega)
     .rw[if_neg (by omega)];exact hu _ _ (by omega) (by omega)
def EZ(O:LtO lt N)(C:Ans cmp lt N s)(hN:1<=N){Q:Array Nat->Shared->Prop}(hq:∀p,p.toList.Perm (List.range N)->UpTo lt p N->Q p s):(kas_sort N).kasWp cmp Q s:=by
 unfold kas_sort;rw[KasT.kasWp_bind];refine A2 O C (by simp) hN λm p P h1 h2 hu=>?_;dsimp only;by_cases h:m<N
 .rw[if_pos h,show max m 1=m by omega];exact za O C hq _ _ _ P (by omega) h1 hu
 .rw[if_neg h];obtain rfl:m=N:=by omega
  exact hq p P hu
def Cj(H:Hp):Prop:=∀b,H b=none\/(∃o xs,H b=some (.frz o xs))\/H b=some (.tbl #[])
structure TabsOk(K:W.Frag)(ts:List Addr)(h:Heap):Prop where
 at_:∀P∈ts,h.get? P=some (W.tabObj #[])
 no:∀P∈ts,K.lookup P=none
 cd:∀P∈ts,∃c,W.codeHdIn K c P=true
def spT(K:W.Frag)(mg:Pa)(ts:List Addr):Sp:=λvs H Q _=>∃(a:Addr) (ns:List Int),vs=[.ref a]/\Cj H/\SqL K H a (ns.map V.int)/\ns.length<=63/\(∀P∈ts,H P=some (.tbl #[]))/\pW K mg H/\∀H',Q (.bl true) H'
def Lr{Pr:Program}{w:World}{K:W.Frag}{mg mb:Pa}{k:Nat}{fa a:Addr}{fd:FuncData}{x:Str}{s1:Shared}{vs:List Value}{ns:List Int}{ts:List Addr}
 (KX:K.In s1.heap) (hns:s1.heap.Ns mainGlobals mg) (hb:s1.heap.Ns builtinsNs mb) (hbb:∀y:Str,y ≠ "__name__"->mb y=bootBuiltins y) (hlim:s1.heap.NoLimit) (hg:s1.gens=#[]) (TO:TabsOk K ts s1.heap) (hbm:∃bm ob,mg "__builtins__"=some (.ref bm)/\bm≠builtinsNs/\s1.heap.get? bm=some ob/\ob.cls=.type "module" /\ ob.dict=some builtinsNs/\ob.data=.plain)
 (ha:s1.heap.get? a=some { cls:=.type "list",data:=.seq vs.toArray }) (hi:IntsAre vs ns) (hl:ns.length<=63) (hr:Room k callerA)
 (F:∀base:Heap,K.In base->base.Ns mainGlobals mg->FnOk Pr w K mg base (CX1 Pr w) k fa fd [x] (spT K mg ts)) (hbind:∀(s:Shared) (u:Value),BindsTo s fd ⟨[u],[]⟩ [(x,u)]):
 codeAny (model Pr w) callerA (.call (.ref fa) ⟨[.ref a],[]⟩) (λr s'=>r=.ok (.ret (.bool true))/\OldK s1.heap s'.heap/\s'.os=s1.os/\AllBare s'.gens) s1:=by
 have rv:=fK hi;have hz:ns.length<=sizeLine:=LU hl (by decide);have ant:a∉ts:=λz=>by
  have:=TO.at_ a z
  rw[ha] at this;cases this
 obtain⟨bm,ob,b1,b2,b3,b4,b5,b6⟩:=hbm;have bmG:bm≠mainGlobals:=λz=>by obtain⟨o,es,ep,e,dd,_⟩:=hns;rw[z,e] at b3;cases b3;rw[dd] at b6;cases b6
 have bmt:bm∉ts:=λz=>by
  have:=TO.at_ bm z
  rw[b3] at this;cases this;cases b6
 have bma:bm≠a:=λz=>by rw[z,ha] at b3;cases b3;cases b6
 have go
  : ∀Hs:Option HO,(Hs=none\/∃o xs,Hs=some (.frz o (.lst xs)))->(∀u,Hs=some u->ObjOk Pr w (λ_=>none) s1.heap a u)->(Hs≠none->K.lookup a=none)->(∀H:Hp,H a=Hs->SqL K H a (ns.map V.int))->
  codeAny (model Pr w) callerA (.call (.ref fa) ⟨[.ref a],[]⟩) (λr s'=>r=.ok (.ret (.bool true))/\OldK s1.heap s'.heap/\s'.os=s1.os/\AllBare s'.gens) s1:=by
  intro Hs h1 h2 h3 h4;obtain⟨H,eH⟩:∃H:Hp,H=λb=>if b=a then Hs else if b∈ts then some (.tbl #[]) else if b=bm/\K.lookup bm=none then some (.frz ob (.ext λ_=>True)) else none:=⟨_,rfl⟩
  have Ha:H a=Hs:=by rw[eH];exact if_pos rfl
  have Ht:∀P∈ts,H P=some (.tbl #[]):=λP hP=>by rw[eH];show (if P=a then _ else _)=_;rw[if_neg (λz=>ant (by rw[<- z];exact hP)),if_pos hP]
  have Hb:K.lookup bm=none->H bm=some (.frz ob (.ext λ_=>True)):=λq=>by rw[eH];show (if bm=a then _ else _)=_;rw[if_neg bma,if_neg bmt,if_pos ⟨rfl,q⟩]
  have Hn
   : ∀b,H b≠none->(b=a/\Hs≠none)\/b∈ts\/(b=bm/\K.lookup bm=none):=λb n=>by
   by_cases q:b=a
   .exact .inl ⟨q,by rw[<- Ha,<- q];exact n⟩
   .by_cases q2:b∈ts
    .exact .inr (.inl q2)
    .by_cases q3:b=bm/\K.lookup bm=none
     .exact .inr (.inr q3)
     .refine absurd ?_ n;rw[eH];show (if b=a then _ else _)=_;rw[if_neg q,if_neg q2,if_neg q3]
  have hO:Cj H:=λb=>by
   by_cases n:H b=none
   .exact .inl n
   .rcases Hn b n with ⟨e,n2⟩ |e |⟨e,y⟩
    .rw[e,Ha];rcases h1 with z |⟨o,xs,z⟩
     .exact absurd z n2
     .exact .inr (.inl ⟨_,_,z⟩)
    .exact .inr (.inr (Ht b e))
    .rw[e];exact .inr (.inl ⟨_,_,Hb y⟩)
  have hok:HOk Pr w H s1.heap:=λb u e=>by
   rcases Hn b (by rw[e];simp) with ⟨z,n2⟩ |z |⟨z,y⟩
   .subst z;rw[Ha] at e;have q:=h2 u e;rcases h1 with y |⟨o,xs,y⟩
    .exact absurd y n2
    .rw[e] at y;cases y;exact q
   .have y:=Ht b z;rw[e] at y;cases y;exact TO.at_ b z
   .subst z;rw[Hb y] at e;cases e;exact⟨b3,trivial,⟨ob,b3⟩,λ_ _ _ _=>trivial⟩
  have keep:∀{b:Addr}{o:Obj},s1.heap.get? b=some o->H b=none->(eP s1.heap H).get? b=some o:=λe n=>rE e n;have noD:∀{b:Addr}{o:Obj}{es:Array DictEntry}{ep:Nat},s1.heap.get? b=some o->o.data=.dict es ep->H b=none:=λ{b o es ep} e dd=>by
   by_cases n:H b=none
   .exact n
   .rcases Hn b n with ⟨z,_⟩ |z |⟨z,_⟩
    .subst z;rw[ha] at e;cases e;cases dd
    .rw[TO.at_ b z] at e;cases e;cases dd
    .subst z;rw[b3] at e;cases e;rw[b6] at dd;cases dd
  have nsK:∀{b:Addr}{m:Pa},s1.heap.Ns b m->(eP s1.heap H).Ns b m:=λ{b m} ⟨o,es,ep,e,dd,r⟩=>⟨o,es,ep,keep e (noD e dd),dd,r⟩;have kb:K.In (eP s1.heap H):=λb o e=>keep (KX b o e) (by
   by_cases n:H b=none
   .exact n
   .rcases Hn b n with ⟨z,y⟩ |z |⟨z,y⟩
    .subst z
     have:=h3 y
     rw[e] at this;cases this
    .have:=TO.no b z
     rw[e] at this;cases this
    .subst z;rw[e] at y;cases y)
  have hM:Mod K mg (eP s1.heap H):=⟨kb,nsK hns,⟨mb,nsK hb,hbb⟩,let ⟨mc,q1,q2⟩:=hlim;⟨mc,nsK q1,q2⟩⟩;have e0:Env0 Pr w K mg (eP s1.heap H) callerA [] s1 H:=⟨rfl,hM,λb o e=>ur e,Nat.le_of_eq (nS _ _),trivial,λb z=>absurd (show b∈([]:List Addr) from z) (by simp),hok,.of_eq hg⟩;refine Ov ((F _ kb (nsK hns)).run callerA [] s1 H ⟨[.ref a],[]⟩ [.ref a] [.ref a] (λv _=>v=.bl true) (λ_ _ _=>False) hr e0 (hbind s1 (.ref a)) (.cons rfl .nil) ⟨a,ns,rfl,hO,h4 H Ha,hl,Ht,?bm,λ_=>rfl⟩) λr s' h=>?_
  case bm=>
   refine⟨bm,ob,b1,b2,bmG,⟨b4,b5,b6⟩,?_⟩;cases q:K.lookup bm with
   |none=>exact .inr ⟨_,Hb q⟩
   |
    some o=>
    have:=KX bm o q
    rw[b3] at this;cases this;exact .inl rfl
  cases r with
  |error e=>obtain⟨_,_,_,_,_,_,_,z⟩:=h;exact z.2.2.elim
  |
   ok fl=>
   cases fl with
   |next=>exact False.elim h
   |brk=>exact False.elim h
   |cont=>exact False.elim h
   |
    ret u=>
    obtain⟨v,H',os,bare,un,hok',r',q⟩:=h;have q':v=.bl true:=q;subst q';obtain rfl:u=Value.bool true:=r';refine⟨rfl,⟨λb o e=>?_,λb o e=>?_⟩,os,bare⟩
    .by_cases n:H b=none
     .exact .inl (un.keep b o e n (λz=>absurd (show b∈([]:List Addr) from z) (by simp)) (by simp))
     .have fz:∀ob xs,H b=some (.frz ob xs)->asItWas s1.heap s'.heap b o:=λob xs y=>by have y2:=un.frzs b ob _ y;obtain⟨e1,_⟩:=hok b _ y;obtain⟨e2,_⟩:=hok' b _ y2;rw[e] at e1;cases e1;exact .inl e2
      rcases Hn b n with ⟨z,n2⟩ |z |⟨z,y⟩
      .rcases h1 with y |⟨ob,xs,y⟩
       .exact absurd y n2
       .exact fz _ _ (by rw[z,Ha];exact y)
      .obtain⟨more,y⟩:=un.tbls b #[] (Ht b z);obtain⟨c,hc⟩:=TO.cd b z;have tab:=(W.codeHd_of_K KX hc).tab (TO.at_ b z);have e2:=TO.at_ b z;rw[e] at e2;cases e2;exact .inr (.inl ⟨tab.isCodeTable,rfl,#[],more,rfl,hok' b _ y⟩)
      .exact fz _ _ (by rw[z];exact Hb y)
    .exact un.there b o e (by simp)
 cases hk:K.lookup a with
 |some o=>have e:=KX a o hk;rw[ha] at e;cases e;exact go none (.inl rfl) (λu z=>nomatch z) (λz=>absurd rfl z) λH _=>.inr ⟨_,vs.toArray,_,hk,rfl,rfl,rfl,by rw[A_,hi.length];exact hz,by simpa using rv⟩
 |none=>exact go (some (.frz { cls:=.type "list",data:=.seq vs.toArray } (.lst (ns.map V.int)))) (.inr ⟨_,_,rfl⟩) (λu z=>by cases z;exact⟨ha,by rw[q_];exact hz,vs,_,rv,ha⟩) (λ_=>hk) λH e=>.inl (.inr ⟨_,e⟩)
def walk_lawT{l:W.OpenLaw}{q:Program}{loose:List Str}{XP:(Str->Option Value)->Heap->Prop}{YP:World->Heap->Prop}{d:DefRec}{K:Params->W.Frag}{x:Str}{k:Nat}{ts:List Addr}(hn:l.most=some 63)(hdf:d.params.defaults=[])(hr:Room k callerA)
 (hY:∀(w:World) (h:Heap),YP w h->(K w.params).In h/\TabsOk (K w.params) ts h)
 (F:∀(w:World) (mg:Pa) (h:Heap),(K w.params).In h->h.Ns mainGlobals mg->∀base:Heap,(K w.params).In base->base.Ns mainGlobals mg->Callee l.prog w (K w.params) mg base d.name k [x] (spT (K w.params) mg ts))
 (Dd:∀(w:World) (mg:Pa) (h:Heap),(K w.params).In h->h.Ns mainGlobals mg->∃st,Def (K w.params) mg d.name st/\∀(kV doc pm:Value) (an:Option Addr) (cdv ct:Value) (us:List Value),us.length=1->bindArgs (W.fnOf d.name d.name (cS st) (br st) (ao st) .none kV doc pm an cdv ct) ⟨us,[]⟩=pure ([x].zip us)):
 W.WalkO q loose XP YP l.row.toRowW d [] (λf vs=>PySem.call f vs):=by
 refine Att.attach_call hn hdf λw s0 s1 mg mb fa o pm cd doc a vs ns G Y ho hd o_ hmg hobj hints b_ hg=>?_;obtain⟨KX,TO⟩:=hY w _ Y;obtain⟨st,De,hbind⟩:=Dd w mg _ KX G.T.g;obtain⟨f,fd,Ff,m⟩:=De.ex;have e:=hmg.symm.trans m;cases e;obtain⟨oc,od,kV,doc',pm',an,cdv,ct,osl,rfl,lk,hcd'⟩:=Ff.ex;refine Lr KX G.T.g G.T.b G.T.builtins G.T.nolimit hg TO G.T.bmain hobj hints b_ hr (λbase kb nb=>?_) (λs u=>.of_eq (hbind kV doc' pm' an cdv ct [u] rfl));obtain⟨f',fd',F',m',kp',b',oc',od',osl',lk'⟩:=(F w mg _ KX G.T.g base kb nb).ex;rw[m] at m';cases m';rw[lk] at lk';cases lk';exact F'
noncomputable def bg (x y:Int×Int):Bool:=decide (x.1<y.1\/(x.1=y.1/\x.2<y.2))
def qz(x:Int×Int):bg x x=false:=by unfold bg;rw[Nk];omega
def tj{x y z:Int×Int}(h1:bg x y=true)(h2:bg y z=true):bg x z=true:=by unfold bg at *;rw[MM] at *;omega
def qV{x y:Int×Int}(h:x≠y):bg x y=true\/bg y x=true:=by unfold bg;rw[MM,MM];have:¬ (x.1=y.1/\x.2=y.2):=λz=>h (Prod.ext z.1 z.2);omega
def uz{α:Type}(d:α)(ks:List α):((List.range ks.length).map λi=>ks.getD i d)=ks:=List.ext_getElem (by simp) λi _ h=>by simp [h]
def zc{x y:Int×Int}(h1:bg x y=true):bg y x=false:=by
 cases z:bg y x with
 |false=>rfl
 |true=>have:=tj h1 z;rw[qz] at this;cases this
def Eh{α:Type}{k:α->Int×Int}{a b:List α}(h:a.Pairwise λx y=>bg (k x) (k y)=true)(h':b.Pairwise λx y=>bg (k x) (k y)=true)(p:a.Perm b):a=b:=p.eq_of_pairwise (λx y _ _ h1 h2=>by rw[zc h1] at h2;cases h2) h h'
def JJ{α:Type}(k:α->Int×Int)(hk:∀{x y},k x=k y->x=y){l:List α}(nd:l.Nodup):(l.mergeSort λx y=>!bg (k y) (k x)).Pairwise λx y=>bg (k x) (k y)=true:=by
 have srt:=List.pairwise_mergeSort (le:=λx y:α=>!bg (k y) (k x)) (λa b c h1 h2=>by
  simp only[bg,Nw,Nk] at *;omega) (λa b=>by
  simp only[bg,Np,Nw,Nk];omega) l
 refine List.Pairwise.imp (λ{a b} h=>?_) (List.Pairwise.and ((OB ..).nodup_iff.mpr nd) srt)
 have:=h.2
 simp only[Nw] at this;exact (qV λy=>h.1 (hk y)).resolve_right (by rw[this];exact Bool.noConfusion)
noncomputable def ltP (ks:List (Int×Int)) (i j:Nat):Bool:=bg (ks.getD i (0,0)) (ks.getD j (0,0))
def Iy{ks:List (Int×Int)}(nd:ks.Nodup):LtO (ltP ks) ks.length where
 irr:=λi=>qz _
 tr:=λi j k h1 h2=>tj h1 h2
 tot:=λi j hi hj hne=>by
  refine qV ?_;rw[E_,E_,x_ hi,x_ hj];show ks[i]≠ks[j];rcases Nat.lt_or_gt_of_ne hne with z |z
  .exact Ms.mp nd i j hi hj z
  .exact λy=>Ms.mp nd j i hj hi z y.symm
def Ef{ks:List (Int×Int)}{n:Nat}{p:Array Nat}(h1:p.toList.Perm (List.range n))(h2:UpTo (ltP ks) p n):p.toList.Pairwise λi j=>bg (ks.getD i (0,0)) (ks.getD j (0,0))=true:=by
 have sz:=(PmO.of h1).sz;rw[Ms];intro i j hi hj hij;rw[LY] at hi hj
 have:=h2 i j hij (by omega)
 rw[dX,dX,NL hi,NL hj] at this;exact this
def TupAt(h:Heap)(v:Value)(x:Int×Int):Prop:=∃(a:Addr) (e:Nat) (dd:Option Addr) (sl:Array (Option Value)) (t1 t2:Tok),v=.ref a/\h.get? a=some { cls:=.type "tuple",dict:=dd,data:=.seq #[.int x.1 t1,.int x.2 t2] e,slots:=sl }
def TupAt.keep{h h':Heap}{v:Value}{x:Int×Int}{b:Addr}(t:TupAt h v x)(hb:∃o,h.get? b=some o/\o.cls=.type "list")(k:∀c o,c≠b->h.get? c=some o->h'.get? c=some o):TupAt h' v x:=by obtain⟨a,e,dd,sl,t1,t2,rfl,ha⟩:=t;obtain⟨o,ho,hc⟩:=hb;exact⟨a,e,dd,sl,t1,t2,rfl,k a _ (λz=>by rw[z,ho] at ha;cases ha;injection hc with hc;exact absurd hc (by decide)) ha⟩
def TupAt.mono{h h':Heap}{v:Value}{x:Int×Int}(t:TupAt h v x)(k:∀c o,h.get? c=some o->h'.get? c=some o):TupAt h' v x:=by obtain⟨a,e,dd,sl,t1,t2,rfl,ha⟩:=t;exact⟨a,e,dd,sl,t1,t2,rfl,k a _ ha⟩
section
variable{prog:Program}{w:World}{A:Around}{E:Pc}{s:Shared}
def E2{v u:Value}{x y:Int×Int}{Q:Bool->Shared->Prop}(hv:TupAt s.heap v x)(hu:TupAt s.heap u y)(h:Q (bg x y) s):wpAny (model prog w) A (keyLt' (tuples' true) v u) Q E s:=by
 obtain⟨a,e,dd,sl,t1,t2,rfl,ha⟩:=hv;obtain⟨b,e',dd',sl',t3,t4,rfl,hb⟩:=hu;refine kat_lt ha rfl hb rfl ?_;show KatLex prog w A true false Q [(.int x.1 t1,.int y.1 t3),(.int x.2 t2,.int y.2 t4)] 0 s;refine kat_cons (wpAny_eqBool_int ?_);by_cases h1:x.1=y.1
 .rw[show (x.1==y.1)=true from LW.mpr h1];refine kat_yes (kat_cons (wpAny_eqBool_int ?_));by_cases h2:x.2=y.2
  .rw[show (x.2==y.2)=true from LW.mpr h2];refine kat_yes (kat_nil ?_);rw[show bg x y=false from by unfold bg;rw[Nk];omega] at h;exact h
  .rw[show (x.2==y.2)=false from J_.mpr h2];refine kat_no (kat_one _ _ (lt_int ?_));rw[show bg x y=decide (x.2<y.2) from Od.mpr (by omega)] at h;exact h
 .rw[show (x.1==y.1)=false from J_.mpr h1];refine kat_no (oneLt_int ?_);rw[show bg x y=decide (x.1<y.1) from Od.mpr (by omega)] at h;exact h
def TupsAt(h:Heap):List Value->List (Int×Int)->Prop
 | [],[]=>True
 |v::vs,x::xs=>TupAt h v x/\TupsAt h vs xs
 |_,_=>False
theorem TupsAt.len{h:Heap}:∀{vs:List Value}{xs:List (Int×Int)},TupsAt h vs xs->vs.length=xs.length
 | [],[],_=>rfl
 | [],_::_,t=>t.elim
 |_::_,[],t=>t.elim
 |_::_,_::_,t=>by rw[Em,Em,t.2.len]
theorem TupsAt.get{h:Heap}:∀{vs:List Value}{xs:List (Int×Int)} (i:Nat),TupsAt h vs xs->i<xs.length->TupAt h (vs.getD i Value.none) (xs.getD i (0,0))
 | [],[],i,_,hi=>absurd hi (by simp)
 | [],_::_,i,t,_=>t.elim
 |_::_,[],i,t,_=>t.elim
 |_::_,_::_,0,t,_=>t.1
 |_::vs,_::xs,i+1,t,hi=>TupsAt.get (vs:=vs) (xs:=xs) i t.2 (by simpa using hi)
theorem TupsAt.imp{h h':Heap}(k:∀v x,TupAt h v x->TupAt h' v x):∀{vs:List Value}{xs:List (Int×Int)},TupsAt h vs xs->TupsAt h' vs xs
 | [],[],_=>trivial
 | [],_::_,t=>t.elim
 |_::_,[],t=>t.elim
 |_::_,_::_,t=>⟨k _ _ t.1,t.2.imp k⟩
theorem TupsAt.snoc{h:Heap}{v:Value}{x:Int×Int}(tv:TupAt h v x):∀{vs:List Value}{xs:List (Int×Int)},TupsAt h vs xs->TupsAt h (vs++[v]) (xs++[x])
 | [],[],_=>⟨tv,trivial⟩
 | [],_::_,t=>t.elim
 |_::_,[],t=>t.elim
 |_::_,_::_,t=>⟨t.1,t.2.snoc tv⟩
theorem TupsAt.kat{h:Heap}:∀{vs:List Value}{xs:List (Int×Int)},TupsAt h vs xs->∃fs,KatTups h vs fs/\fs.length=xs.length/\∀f∈fs,∃i t,f=Value.int i t
 | [],[],_=>⟨[],trivial,rfl,λf z=>nomatch z⟩
 | [],_::_,t=>t.elim
 |_::_,[],t=>t.elim
 |
  _::_,x::_,t=>by
  obtain⟨fs,k,l,q⟩:=t.2.kat;obtain⟨a,e,dd,sl,t1,t2,rfl,ha⟩:=t.1;refine⟨.int x.1 t1::fs,⟨⟨a,_,_,_,rfl,ha,rfl,rfl,rfl⟩,k⟩,by rw[Em,Em,l],λf hf=>?_⟩;rcases G_.mp hf with rfl |hf
  .exact⟨_,_,rfl⟩
  .exact q f hf
def wF{vs:List Value}{xs:List (Int×Int)}{Q:SortKind->Shared->Prop}(t:TupsAt s.heap vs xs)(h2:2<=xs.length)(h:Q (tuples' true) s):wpAny (model prog w) A (keyKind' vs.toArray) Q E s:=by obtain⟨fs,k,l,q⟩:=t.kat;refine kat_kind (T:=.type "int") k (by omega) (λf hf=>?_) (by decide) h;obtain⟨i,t,rfl⟩:=q f hf;exact .now
def yq{vs:List Value}{xs:List (Int×Int)}(t:TupsAt s.heap vs xs):Ans (kas_ask prog w A (tuples' true) vs) (ltP xs) xs.length s:=λi j C hi hj c=>E2 (t.get i hi) (t.get j hj) c
def zM{β:Type}{vs ks:List Value}{xs:List (Int×Int)}{k:Unit×SortSt->Sem β}{P:β->Shared->Prop}(hkl:ks.length=vs.length)(h64:vs.length<64)(T:TupsAt s.heap ks xs)(nd:xs.Nodup)(h:∀(p:Array Nat) st',p.toList.Perm (List.range vs.length)->UpTo (ltP xs) p vs.length->(arrOf st').map (λp:Keyed=>p.2)=List.toArray (p.toList.map λi=>vs.getD i Value.none)->failedOf st'=none->wpAny (model prog w) A (k ((),st')) P E s):
 wpAny (model prog w) A (let f:=λκ=>(if vs.toArray.size<2 then pure () else sortRuns').run (SortSt.mk' κ (ks.toArray.zip vs.toArray) #[] 7 none) >>= k;if vs.toArray.size<2 then pure general' >>= f else keyKind' ks.toArray >>= f) P E s:=by
 dsimp only;have kl:=T.len;by_cases h2:vs.toArray.size<2
 .rw[if_pos h2,if_pos h2];rw[A_] at h2;refine p_ <| B_ ?_;rw[StateT.run_pure];refine p_ <| B_ (h (List.toArray (List.range vs.length)) _ (.refl _) (λi j hij hj=>by omega) ?_ rfl);show (ks.toArray.zip vs.toArray).map (λp:Keyed=>p.2)=List.toArray ((List.range vs.length).map _);rw[uz];apply Array.toList_inj.mp;rw[Array.toList_map,ksk_zip];exact List.map_snd_zip (by simp [hkl])
 .rw[if_neg h2,if_neg h2];rw[A_] at h2;refine p_ <| wF T (by omega) ?_;have an:=yq (prog:=prog) (w:=w) (A:=A) T;have O:=Iy nd;rw[<- kl,hkl] at an O;have run:=kat_run (prog:=prog) (w:=w) (A:=A) (E:=E) (κ:=tuples' true) (s:=s) (Q:=λst' s'=>s'=s/\wpAny (model prog w) A (k ((),st')) P E s) (G:=λp s'=>s'=s/\p.toList.Perm (List.range vs.length)/\UpTo (ltP xs) p vs.length) hkl (by omega) h64
   (λp st' s' a1 a2 a3 a4=>⟨a4.1,h p st' a4.2.1 a4.2.2 (kat_snds hkl a2) a3⟩) (EZ O an (by omega) λp p1 p2=>⟨rfl,p1,p2⟩)
  refine p_ <| LX run ?_ λ_ _ z=>z;rintro⟨⟨⟩,st'⟩ _ ⟨rfl,z⟩;exact z
end
set_option maxHeartbeats 4000000
section
variable{prog:Program}{w:World}{A:Around}{E:Pc}{s:Shared}
def Bb{a kS:Addr}{st:SortSt}{out ks:List Value}{e e1:Nat}{P:PySem.Fin->Shared->Prop}(hk:s.heap.get? kS=some (seqObj "list" (List.toArray ks) e))(ha:s.heap.get? a=some (seqObj "list" #[] e1))(hne:kS≠a)(hout:(arrOf st).map (λp:Keyed=>p.2)=List.toArray out)(hf:failedOf st=none)(hz:out.length<64)(hkz:ks.length<64)
 (h:∀h' c,(∀b o,b≠kS->b≠a->s.heap.get? b=some o->h'.get? b=some o)->h'.get? a=some (seqObj "list" out.toArray c)->P (.done (.ret .none)) { s with heap:=h' }):wpAny (model prog w) A (ksk_tail a false e1 (.ref kS) st) P E s:=by
 have u1:=MY s.heap kS (Obj.mapSeq λ_=>(#[]:Array Value));have a1:=(u1.2 a hne.symm).trans ha;have u2:=MY (s.heap.update kS (Obj.mapSeq λ_=>(#[]:Array Value))) a (Obj.mapSeq λ_=>(arrOf st).map (·.2));obtain⟨c,hc⟩:∃c,((s.heap.update kS (Obj.mapSeq λ_=>(#[]:Array Value))).update a (Obj.mapSeq λ_=>(arrOf st).map (·.2))).get? a=some (seqObj "list" ((arrOf st).map (·.2)) c):=⟨_,get?_update_seq a1 λ_=>(arrOf st).map (·.2)⟩;have zs:((arrOf st).map (·.2)).size<64:=by rw[hout];exact hz
 have big:sizeLine=16777216:=rfl;unfold ksk_tail;try dsimp only
 refine p_ <| OI hk rfl ?_ (by rw[A_];omega) (Mi _);refine p_ <| wpAny_letGo ?_;refine p_ <| seqEpoch_at a1 rfl ?_;refine p_ <| OI a1 rfl ?_ (Mi _) (by show ((arrOf st).map (·.2)).size<=_;omega);rw[hf];simp only[bne_self_eq_false,Nn,Oe];exact B_ (h _ c (λb o n1 n2 z=>(u2.2 b n2).trans ((u1.2 b n1).trans z)) (hc.trans (by rw[hout])))
def Dq{a kS:Addr}{vs ks:List Value}{xs:List (Int×Int)}{e e1:Nat}{P:PySem.Fin->Shared->Prop}(hl:xs.length=vs.length)(h64:vs.length<64)(T:TupsAt s.heap ks xs)(nd:xs.Nodup)(hk:s.heap.get? kS=some (seqObj "list" (List.toArray ks) e))(ha:s.heap.get? a=some (seqObj "list" #[] e1))(hne:kS≠a)
 (h:∀(p:Array Nat) h' c,p.toList.Perm (List.range vs.length)->UpTo (ltP xs) p vs.length->(∀b o,b≠kS->b≠a->s.heap.get? b=some o->h'.get? b=some o)->h'.get? a=some (seqObj "list" (p.toList.map λi=>vs.getD i Value.none).toArray c)->P (.done (.ret .none)) { s with heap:=h' }):
 wpAny (model prog w) A (ksk_end a false vs.toArray e1 (.ref kS) ks.toArray) P E s:=by
 have hkl:ks.length=vs.length:=by rw[T.len,hl]
 unfold ksk_end;try dsimp only
 refine zM hkl h64 T nd λp st' p1 p2 out hf=>?_;exact Bb hk ha hne out hf (by rw[q_,p1.length_eq,z_];exact h64) (by omega) λh' c k z=>h p h' c p1 p2 k z
def Bo{a:Addr}{f:Value}{vs:List Value}{n:Nat}{xs:List (Int×Int)}{P:PySem.Fin->Shared->Prop}(ho:s.heap.get? a=some (seqObj "list" vs.toArray n))(h64:vs.length<64)(hx:xs.length=vs.length)(nd:xs.Nodup)
 (hc:∀(i:Nat) (v:Value) (x:Int×Int) (h':Heap) (tk:Nat),vs[i]?=some v->xs[i]?=some x->(∀b o,b≠a->s.heap.get? b=some o->h'.get? b=some o)->wpAny (model prog w) A (call f [v]) (λk s2=>∃h2 tk2,s2={ s with heap:=h2,toks:=tk2 }/\(∀b o,h'.get? b=some o->h2.get? b=some o)/\TupAt h2 k x) (λ_ _=>False) { s with heap:=h',toks:=tk })
 (h:∀(p:Array Nat) h' c tk,p.toList.Perm (List.range vs.length)->UpTo (ltP xs) p vs.length->(∀b o,b≠a->s.heap.get? b=some o->h'.get? b=some o)->h'.get? a=some (seqObj "list" (p.toList.map λi=>vs.getD i Value.none).toArray c)->P (.done (.ret .none)) { s with heap:=h',toks:=tk }):
 wpAny (model prog w) A (ksk_tree a f false) P E s:=by
 have lt:=C_ ho;have u1:=MY s.heap a (Obj.mapSeq λ_=>(#[]:Array Value));obtain⟨e1,a1⟩:∃e1,(s.heap.update a (Obj.mapSeq λ_=>(#[]:Array Value))).get? a=some (seqObj "list" #[] e1):=⟨_,get?_update_seq ho λ_=>#[]⟩;have big:sizeLine=16777216:=rfl;unfold ksk_tree;refine p_ <| listItems_at ho rfl ?_;refine p_ <| OI ho rfl ?_ (by rw[A_];omega) (Mi _);refine p_ <| seqEpoch_at a1 rfl ?_;refine p_ <| wpAny_newTuple ?_ (by show vs.length<=_;omega);refine p_ <| wpAny_newList ?_ (Mi _);refine Mx ?_;obtain⟨h3,e3⟩:∃h3,h3=((s.heap.update a (Obj.mapSeq λ_=>(#[]:Array Value))).push (seqObj "tuple" vs.toArray 0)).push (seqObj "list" #[] 0):=⟨_,rfl⟩;obtain⟨kS,ek⟩:∃kS,kS=((s.heap.update a (Obj.mapSeq λ_=>(#[]:Array Value))).push (seqObj "tuple" vs.toArray 0)).objs.size:=⟨_,rfl⟩;have hk0:h3.get? kS=some (seqObj "list" #[] 0):=by rw[e3,ek];exact F_ _ rfl
 have ha0:h3.get? a=some (seqObj "list" #[] e1):=by rw[e3];exact t_ _ (t_ _ a1)
 have hlt:a<kS:=by rw[ek,size_push',Heap.size_update];exact Nat.lt_succ_of_lt lt
 have k0:∀b o,b≠a->s.heap.get? b=some o->b≠kS/\h3.get? b=some o:=λb o n z=>⟨λy=>by
  have:=C_ z
  rw[y,ek,size_push',Heap.size_update] at this;exact Mj _ (Nat.lt_of_succ_lt this),by rw[e3];exact t_ _ (t_ _ ((u1.2 b n).trans z))⟩
 show wpAny (model prog w) A (ksk_rest a f false vs.toArray e1 (.ref ((s.heap.update a (Obj.mapSeq λ_=>(#[]:Array Value))).push (seqObj "tuple" vs.toArray 0)).objs.size)) P E { s with heap:=((s.heap.update a (Obj.mapSeq λ_=>(#[]:Array Value))).push (seqObj "tuple" vs.toArray 0)).push (seqObj "list" #[] 0) };rw[<- e3,<- ek];clear e3 ek;unfold ksk_rest;refine p_ <| wpAny_rule ?_;rw[List.forIn_toArray];refine p_ <| ksk_fold (λi s'=>∃h' tk ks e,s'={ s with heap:=h',toks:=tk }/\(∀b o,b≠kS->h3.get? b=some o->h'.get? b=some o)/\h'.get? kS=some (seqObj "list" (List.toArray ks) e)/\TupsAt h' ks (xs.take i)/\i<=vs.length) vs 0 _ ⟨h3,s.toks,[],0,rfl,λb o _ z=>z,hk0,by rw[List.take_zero];trivial,Mi _⟩ (λj v s' hv I=>?_) λs' I=>?_
 .rw[NS] at I ⊢;obtain⟨h',tk,ks,e,rfl,k,hk,T,hi⟩:=I;have hj:j<vs.length:=(D_.mp hv).1;have ex:xs[j]?=some (xs[j]'(by omega)):=x_ (by omega);have tl:=T.len;rw[LP] at tl;refine p_ <| N6 <| LX (hc j v _ h' tk hv ex λb o n z=>k b o (k0 b o n z).1 (k0 b o n z).2) (λkv s2 hq=>?_) λ_ _ z=>z.elim;obtain⟨h2,tk2,rfl,k2,tp⟩:=hq;have hk2:=k2 kS _ hk;have u2:=MY h2 kS (Obj.mapSeq (·.push kv));obtain⟨c2,hc2⟩:∃c2,(h2.update kS (Obj.mapSeq (·.push kv))).get? kS=some (seqObj "list" (List.toArray (ks++[kv])) c2):=⟨_,by rw[<- List.push_toArray];exact get?_update_seq hk2 (·.push kv)⟩;try dsimp only
  refine p_ <| OI hk2 rfl ?_ (by rw[A_];omega) (by rw[Array.size_push,A_];omega);refine B_ ⟨rfl,_,tk2,ks++[kv],c2,rfl,λb o n z=>(u2.2 b n).trans (k2 b o (k b o n z)),hc2,?_,by omega⟩;have kp:∀v x,TupAt h2 v x->TupAt (h2.update kS (Obj.mapSeq (·.push kv))) v x:=λv x t=>t.keep (b:=kS) ⟨_,hk2,rfl⟩ λc o n z=>(u2.2 c n).trans z;rw[List.take_succ,ex];exact TupsAt.snoc (kp _ _ tp) ((T.imp λv x t=>t.mono k2).imp kp)
 .rw[NS] at I;obtain⟨h',tk,ks,e,rfl,k,hk,T,hi⟩:=I;rw[Mq (by omega)] at T;try dsimp only
  refine p_ <| listItems_at hk rfl ?_;exact Dq hx h64 T nd hk (k a _ (LG hlt) ha0) (ND hlt) λp h2 c p1 p2 k2 z=>h p h2 c tk p1 p2 (λb o n y=>k2 b o (k0 b o n y).1 n (k b o (k0 b o n y).1 (k0 b o n y).2)) z
def Dx{S r:Addr}{j:Int}{t u v:Tok}{n:Nat}{R:Result->Shared->Prop}(hh:A.handled=none)(hr:IsRange s.heap r 0 j 1 t u v)(g_:Builtin.Range.small 0 j 1=true)(hn:Builtin.Range.rangeSize 0 j 1=n)(b_:n<=2^24)(hS:s.heap.get? S=some (seqObj "list" #[] 0))
 (h:∀h' tk acc c,(∀b o,b≠S->s.heap.get? b=some o->h'.get? b=some o)->h'.get? S=some (seqObj "list" acc c)->ItemsOf (λi v=>∃t,v=.int (0+i*1) t) acc n->R (.ok (.ret (.ref S))) { s with heap:=h',toks:=tk }):codeAny (model prog w) A (.builtin "list.__iadd__" ⟨[.ref S,.ref r],[]⟩) R s:=by
 refine Ou entry_list_iadd' ?_;show wpAny (model prog w) A.in1 (Builtin.List.listExtendWith (.ref S) (.ref r) (.ref S)) _ _ s;exact wpAny_extend_range hh hr g_ hn b_ S _ 0 hS h
def mr{r:Addr}{j:Int}{t u v:Tok}{n:Nat}{Q:List Value->Shared->Prop}(hh:A.handled=none)(hr:IsRange s.heap r 0 j 1 t u v)(g_:Builtin.Range.small 0 j 1=true)(hn:Builtin.Range.rangeSize 0 j 1=n)(b_:n<=2^24)
 (h:∀h' tk (vs:List Value),s.heap.objs.size<=h'.objs.size->(∀b o,s.heap.get? b=some o->h'.get? b=some o)->vs.length=n->(∀(i:Nat) x,vs[i]?=some x->∃t,x=.int (i:Nat) t)->Q vs { s with heap:=h',toks:=tk }):wpAny (model prog w) A (collect (.ref r)) Q E s:=by
 unfold collect;refine p_ <| wpAny_runValue <| Ou entry_proto_collect' ?_;show wpAny _ _ (do again (.builtin "list.__iadd__" ⟨[<- newList [],.ref r],[]⟩)) _ _ s;have hS:(s.heap.push (seqObj "list" #[] 0)).get? s.heap.objs.size=some (seqObj "list" #[] 0):=F_ _ rfl;refine p_ <| wpAny_newList <| B_ ⟨Code.quiet_builtin _ (by decide),Dx (s:={ s with heap:=s.heap.push (seqObj "list" #[] 0) }) hh (t_ _ hr) g_ hn b_ hS λh' tk acc c k z it=>?_⟩;show wpAny (model prog w) A (do
  let o <- load s.heap.objs.size
  match o.data with
  |.seq xs _=>pure xs.toList
  |_=>unsupported "internal:collect") Q E { s with heap:=h',toks:=tk }
 refine p_ <| wpAny_load z ?_;refine B_ (h h' tk acc.toList (NC (C_ z)) (λb o y=>k b o (LG (C_ y)) (t_ _ y)) (by rw[LY];exact it.1) λi x y=>?_);obtain⟨t,e⟩:=it.2 i x (by simpa using y);exact⟨t,by rw[e];congr 1;omega⟩
end
abbrev eF(p:Pos):Arguments:=⟨[],[⟨"number",none,p⟩],none,[],[],none,[]⟩
abbrev aS:Scope:={ kind:=.function,names:=[("number",.local),("weights",.free)],isGenerator:=false,isCoroutine:=false,more:=[] }
abbrev dJ(p1 p2 p3 p4 p5 p6:Pos):Expr:=.Tuple [.UnaryOp .USub (.Subscript (.Name "weights" p1) (.Name "number" p2) p3) p4,.Name "number" p5] 0 p6
section
variable{prog:Program}{w:World}{A:Around}{s:Shared}
def Ek{f c' cell a:Addr}{q:Str}{pm ctv:Value}{its:Array Value}{ws:List Int}{p0 p1 p2 p3 p4 p5 p6:Pos}{i:Nat}{t:Tok}
 (hroom:A.depth<recursionLimit) (ho:s.heap.get? f=some (kla_obj "<lambda>" q (eF p0) (dJ p1 p2 p3 p4 p5 p6) aS [("weights",cell)] pm c' ctv)) (o_:s.heap.CodeRec (.ref c') q) (hlim:s.heap.NoLimit) (m_:s.heap.IsCell cell (some (.ref a))) (hl:s.heap.IsList a its) (hw:Vals (ws.map V.int) its.toList) (hi:i<ws.length) (hz:ws.length<64):
 wpAny (model prog w) A (call (.ref f) [.int (i:Nat) t]) (λk s2=>∃h2 tk2,s2={ s with heap:=h2,toks:=tk2 }/\(∀b o,s.heap.get? b=some o->h2.get? b=some o)/\TupAt h2 k (-(ws.getD i 0),(i:Nat))) (λ_ _=>False) s:=by
 refine wpAny_call ?_;refine kla_callFunE hroom ho rfl rfl rfl rfl o_ ?_;rw[show bindArgs (kla_fn "<lambda>" q (eF p0) (dJ p1 p2 p3 p4 p5 p6) aS [("weights",cell)] pm (.ref c') ctv) ⟨[Value.int (i:Nat) t],[]⟩=(pure [(("number" : Str),Value.int (i:Nat) t)]:Sem (List (Str×Value))) from by with_unfolding_all rfl];refine B_ (wpAny_newFunctionEnv (show ∀x∈aS.names,x.2 ≠ .cell by decide) (by intro y hy;rw[L5] at hy;subst hy;rfl) (λh1 hns hsb=>⟨hlim.fresh _ hsb,?_⟩) rfl);show codeAny _ _ (.expr (dJ p1 p2 p3 p4 p5 p6) (envX q aS s.heap.objs.size f (.ref c') [("weights",cell)])) _ _;have k1:∀b o,s.heap.get? b=some o->h1.get? b=some o:=λb o e=>hsb.extBut b o (LG (C_ e)) (t_ _ e);have hc1:h1.IsCell cell (some (.ref a)):=by obtain⟨o,e,d⟩:=m_;exact⟨o,k1 _ _ e,d⟩
 have hl1:h1.IsList a its:=by obtain⟨o,e,d⟩:=hl;exact⟨o,k1 _ _ e,d⟩
 refine kla_codeExpr ?_;refine wpAny_Tuple_spliced ?_;obtain⟨u,eu,ru⟩:=hw.get (i:=i) (x:=V.int (ws.getD i 0)) (by rw[LL,x_ hi,E_,x_ hi];rfl);obtain⟨tx,rfl⟩:=ru;have ei:its[((i:Nat):Int).toNat]?=some (.int (ws.getD i 0) tx):=by rw[Mh,<- Array.getElem?_toList];exact eu
 have nm:∀(pp:Pos) (s':Shared) (Q:Pc) (E':Pc),s'.heap=h1->Q (.int (i:Nat) t) s'->wpAny (model prog w) (A.deeper (envX q aS s.heap.objs.size f (.ref c') [("weights",cell)])) (eval (.Name "number" pp) (envX q aS s.heap.objs.size f (.ref c') [("weights",cell)])) Q E' s':=λpp s' Q E' e hq=>
  wpAny_Name (Oy rfl rfl (by rw[e];exact hns) rfl hq) (by decide)
 show wpAny _ _ (spliced ((false,eval (.UnaryOp .USub (.Subscript (.Name "weights" p1) (.Name "number" p2) p3) p4) (envX q aS s.heap.objs.size f (.ref c') [("weights",cell)]))::backTo p6 (starEach [.Name "number" p5] (envX q aS s.heap.objs.size f (.ref c') [("weights",cell)])))) _ _ _;refine M5 ?_;refine UnaryOp_ ?_;refine Subscript_ ?_;refine wpAny_Name (wpAny_loadName_free rfl rfl rfl hc1 ?_) (by decide);refine nm p2 _ _ _ rfl ?_;refine item_listR hl1 (by omega) (by omega) ei ?_;refine neg_int ?_;show wpAny _ _ (spliced ((false,eval (.Name "number" p5) (envX q aS s.heap.objs.size f (.ref c') [("weights",cell)]))::[])) _ _ _;refine M5 ?_;refine nm p5 _ _ _ rfl ?_;refine Ny ?_;refine⟨show 2<=sizeLine by decide,_,_,rfl,λb o e=>t_ _ (k1 b o e),h1.objs.size,0,none,#[],_,t,rfl,F_ _ rfl⟩
end
section
variable{prog:Program}{w:World}{A:Around}{E:Pc}{s:Shared}
def v7{r f:Addr}{j:Int}{t u v:Tok}{n:Nat}{xs:List (Int×Int)}{Q:Pc}(hh:A.handled=none)(hr:IsRange s.heap r 0 j 1 t u v)(g_:Builtin.Range.small 0 j 1=true)(hn:Builtin.Range.rangeSize 0 j 1=n)(h64:n<64)(hx:xs.length=n)(nd:xs.Nodup)
 (hc:∀(i:Nat) (x:Int×Int) (tt:Tok) (h':Heap) (tk:Nat),xs[i]?=some x->(∀b o,s.heap.get? b=some o->h'.get? b=some o)->wpAny (model prog w) A.in1.in1 (call (.ref f) [.int (i:Nat) tt]) (λk s2=>∃h2 tk2,s2={ s with heap:=h2,toks:=tk2 }/\(∀b o,h'.get? b=some o->h2.get? b=some o)/\TupAt h2 k x) (λ_ _=>False) { s with heap:=h',toks:=tk })
 (h:∀(p:Array Nat) (h':Heap) (D:Addr) (c tk:Nat) (out:List Value),p.toList.Perm (List.range n)->UpTo (ltP xs) p n->s.heap.objs.size<=D->(∀b o,s.heap.get? b=some o->h'.get? b=some o)->h'.get? D=some (seqObj "list" out.toArray c)->Vals (p.toList.map λi:Nat=>V.int (i:Nat)) out->Q (.ref D) { s with heap:=h',toks:=tk }):
 wpAny (model prog w) A (call (.builtin "sorted") [.ref r] [(Str.ofString "key",.ref f)]) Q E s:=by
 refine call_function_entry_kw kind_sorted plain_sorted entry_sorted (ksk_s1 _ _) ?_;unfold Builtin.«sorted»;refine p_ (m:=checkCount "sorted" 1 1 _) <| B_ ?_;refine p_ <| mr (A:=A.in1) hh hr g_ hn (by omega) λh1 tk1 vs sz k1 lv iv=>?_;have big:sizeLine=16777216:=rfl;refine p_ <| wpAny_newList ?_ (by omega);have hoL:(h1.push (seqObj "list" vs.toArray 0)).get? h1.objs.size=some (seqObj "list" vs.toArray 0):=F_ _ rfl;have kL:∀b o,s.heap.get? b=some o->b≠h1.objs.size/\(h1.push (seqObj "list" vs.toArray 0)).get? b=some o:=λb o e=>⟨LG (C_ (k1 b o e)),t_ _ (k1 b o e)⟩;refine p_ <| Mx <| wpAny_call_entry_kw slot_list_sort ⟨_,hoL,rfl⟩ entry_list_sort ?body (ksk_l1 _ _)
 case body=>
  show wpAny (model prog w) A.in1.in1 (Builtin.«list.sort» ⟨[.ref h1.objs.size],[(Str.ofString "key",.ref f)]⟩) _ _ { s with heap:=h1.push (seqObj "list" vs.toArray 0),toks:=tk1 };rw[ksk_t1];refine Bo (s:={ s with heap:=h1.push (seqObj "list" vs.toArray 0),toks:=tk1 }) (xs:=xs) hoL (by omega) (by omega) nd (λi v x h' tk e1 e2 k=>?_) λp h' c tk p1 p2 k z=>?_
  .obtain⟨tt,rfl⟩:=iv i v e1;exact hc i x tt h' tk e2 λb o e=>k b o (kL b o e).1 (kL b o e).2
  .rw[lv] at p1 p2;refine⟨_,rfl,B_ ⟨_,rfl,h p h' h1.objs.size c tk _ p1 p2 sz (λb o e=>k b o (kL b o e).1 (kL b o e).2) z ?_⟩⟩;have all:∀i∈p.toList,i<n:=λi hi=>LC.mp (p1.mem_iff.mp hi);clear z p1 p2;generalize p.toList=l at all;induction l with
   |nil=>exact .nil
   |cons i l ih=>refine .cons ?_ (ih λk hk=>all k (r_ _ hk));have hi:=all i (s_ ..);obtain⟨tt,e⟩:=iv i (vs.getD i Value.none) (by rw[E_,x_ (by omega)];rfl);exact⟨tt,e⟩
end
section
variable{X:Cx}{pins:Pb}{σ:St}{H:Hp}{s:Shared}{h':Heap}
def Inv.tabled{P c':Addr}{q:Str}{ps more:Array Value}{t':Nat}(I:Inv X pins σ H s)(hP:H P=some (.tbl ps))(hx:Heap.ExtBut P s.heap h')(hc:s.heap.objs.size<=c')(hrec:h'.CodeRec (.ref c') q)(htab:h'.get? P=some (tabObj (ps++more))):
 Inv X pins σ (upd (upd H P (.tbl (ps++more))) c' (.ext (fj c' q))) { s with heap:=h',toks:=t' }:=by
 have hcn:H c'=none:=I.hok.fresh hc;have nPc:P≠c':=bJ hP hcn;have at_:∀b,b≠P->b≠c'->upd (upd H P (.tbl (ps++more))) c' (.ext (fj c' q)) b=H b:=λb n1 n2=>by rw[aB n2,aB n1]
 have atP:upd (upd H P (.tbl (ps++more))) c' (.ext (fj c' q)) P=some (.tbl (ps++more)):=by rw[aB nPc,aR]
 have nP:∀b,H b=none->b≠P:=λb n z=>by rw[z,hP] at n;cases n
 have ol:∀b o,s.heap.get? b=some o->b≠c':=λb o e=>LG (LA (C_ e) hc);have tr:∀b u,H b=some u->b≠c':=λb u e=>bJ e hcn;refine I.un ⟨λb o e n _ _=>hx b o (nP b n) e,λb o e n _ _=>⟨o.slots,hx b o (nP b n) e⟩,λb o e n _=>by rw[at_ b (nP b n) (ol b o e)];exact n,λb o e _=>?_,λb ys e=>?_,λb o u e=>?_,λb qs e=>?_⟩ λb u e=>?_
 .by_cases z:b=P
  .exact⟨_,by rw[z];exact htab⟩
  .exact⟨o,hx b o z e⟩
 .rw[at_ b (λz=>by rw[z,hP] at e;cases e) (tr b _ e)];exact e
 .rw[at_ b (λz=>by rw[z,hP] at e;cases e) (tr b _ e)];exact e
 .by_cases z:b=P
  .subst z;rw[hP] at e;cases e;exact⟨more,atP⟩
  .exact⟨#[],by rw[at_ b z (tr b _ e),e];simp⟩
 .by_cases z:b=c'
  .subst z;rw[aR] at e;cases e;obtain⟨c,o,vs,t,e1,e2,e3⟩:=hrec;cases e1;refine⟨⟨_,o,vs,t,rfl,e2,e3⟩,⟨o,e2⟩,λh1 h2 q1 k=>?_⟩;obtain⟨c,o,vs,t,e1,e2,e3⟩:=q1;cases e1;exact⟨_,o,vs,t,rfl,k o e2,e3⟩
  .by_cases y:b=P
   .subst y;rw[atP] at e;cases e;exact htab
   .rw[at_ b y z] at e;refine (I.hok b u e).stay (λc v hc' r=>hx c v ?_ r) (λc r=>?_) λc ys r=>?_
    .rcases hc' with rfl |r
     .exact y
     .intro z';rw[z',hP] at r;cases r
    .rw[at_ c (λz'=>by rw[z',hP] at r;cases r) (tr c _ r)];exact r
    .rw[at_ c (λz'=>by rw[z',hP] at r;cases r) (tr c _ r)];exact r
end
noncomputable def kyF (ws:List Int) (i:Nat):Int×Int:=(-(ws.getD i 0),(i:Int))
noncomputable def i4 (ws:List Int):List (Int×Int):=(List.range ws.length).map (kyF ws)
noncomputable def aY (ws:List Int):List Nat:=(List.range ws.length).mergeSort λi j=>!bg (kyF ws j) (kyF ws i)
structure FallO(ws:List Int)(l:List Nat):Prop where
 perm:l.Perm (List.range ws.length)
 up:l.Pairwise λi j=>bg (kyF ws i) (kyF ws j)=true
def tS{ws:List Int}{i j:Nat}(h:kyF ws i=kyF ws j):i=j:=by
 have:=Mb Prod.snd h
 have:((i:Nat):Int)=(j:Nat):=this;omega
def DF(ws:List Int):(i4 ws).Nodup:=by unfold i4;refine List.pairwise_map.mpr (List.Pairwise.imp (λ{a b} h z=>h (tS z)) N9)
def c9(ws:List Int):FallO ws (aY ws):=⟨OB ..,JJ (kyF ws) tS N9⟩
def FallO.eq{ws:List Int}{l:List Nat}(h:FallO ws l):l=aY ws:=Eh h.up (c9 ws).up (h.perm.trans (c9 ws).perm.symm)
def Dv{ws:List Int}{p:Array Nat}(h1:p.toList.Perm (List.range ws.length))(h2:UpTo (ltP (i4 ws)) p ws.length):p.toList=aY ws:=by
 refine FallO.eq ⟨h1,List.Pairwise.imp_of_mem (λ{i j} hi hj h=>?_) (Ef h1 h2)⟩;have g:∀k∈p.toList,(i4 ws).getD k (0,0)=kyF ws k:=λk hk=>by unfold i4;rw[E_,LL,List.getElem?_range (LC.mp (h1.mem_iff.mp hk))];rfl
 rw[g i hi,g j hj] at h;exact h
section
variable{X:Cx}{iW:Nat}{ta:TA}{c P:Addr}{a:Expr}{q1 q2 q6 q7 q8 q9 p0 p1 p2 p3 p4 p5 p6:Pos}
def we(H H2:Hp)(P:Addr)(q:Str)(ps:Array Value)(pos:Pos):Prop:=H2=H\/∃c',H c'=none/\codeAmong pos ps.toList=none/\H2=upd (upd H P (.tbl (ps++#[rawInt pos.line,rawInt pos.col,.ref c']))) c' (.ext (fj c' q))
def u5(K:W.Frag)(mg:Pa)(P:Addr)(q:Str)(pos:Pos)(vW:Option (Option V)):List V->Hp->VK->Prop:=λvs H Q=>∃(b:Addr) (ws:List Int) (ps:Array Value),vs=[.int (ws.length:Nat)]/\vW=some (some (.ref b))/\SqL K H b (ws.map V.int)/\ws.length<64/\H P=some (.tbl ps)/\TriplesOk ps.toList/\(∀ps' cv,codeAmong ps' ps.toList=some cv->∃c,cv=.ref c/\H c=some (.ext (fj c q)))/\pW K mg H/\
 ∀H2 l,we H H2 P q ps pos->H2 l=none->Q (.ref l) (upd H2 l (.lst ((aY ws).map λi:Nat=>V.int (i:Nat))))
def J8(K:W.Frag)(mg:Pa)(iW:Nat)(P:Addr)(q:Str)(pos:Pos)(ta:TA):TE:=λσ H Q=>ta σ H λvs H1=>u5 K mg P q pos σ[iW]? vs H1 Q
def EV(hc:X.calm=true)(hdp:X.A.depth<recursionLimit)(hl:Gl X "sorted")(hml:X.mg "sorted"=none)(hg:Gl X "range")(hm:X.mg "range"=none)(ha:PA X [a] ta)(hN:X.N[iW]?=some "weights")(hv:X.env.scope.names.lookup ("weights" : Str)=some .cell)(o_:X.env.code=.ref c)(hh:codeHdIn X.K c P=true)(hs:starEach [a] X.env=[(false,eval a X.env)]:=by rfl):
 PE X (.Call (.Name "sorted" q1) [.Call (.Name "range" q2) [a] [] q6] [⟨some "key",.Lambda (eF p0) (dJ p1 p2 p3 p4 p5 p6) aS q7,q8⟩] q9) (J8 X.K X.mg iW P (X.env.qual ++ "<lambda>") q7 ta):=by
 intro pins s σ H Q I h;refine Md (cE I hl hml (show bootBuiltins "sorted"=some (.builtin "sorted") from rfl) ?_ (by decide) (by decide));refine callWith_kw ?_ rfl rfl rfl rfl;show wpAny _ _ (spliced ((false,eval (.Call (.Name "range" q2) [a] [] q6) X.env)::[])) _ _ s;refine M5 ?_;refine Md (cE I hg hm (show bootBuiltins "range"=some (.type "range") from rfl) ?_ (by decide) (by decide));refine LZ (thn (ha q6 pins s σ H _ I h) λus s1 zz=>exA zz λvs H1 I1 r1 z1=>?_) hs rfl;obtain⟨b,ws,ps,e,ew,hq,hn,hP,htr,hcs,hB,q⟩:=z1;subst e;cases r1 with
 |
  cons r rr=>
  cases rr;obtain⟨t,rfl⟩:=r;refine call_range_1 (Ny ?_);have I2:Inv X pins σ H1 { s1 with heap:=s1.heap.push { cls:=.type "range",data:=.fields #[.int 0 s1.toks,.int (ws.length:Nat) t,.int 1 (s1.toks+1)] },toks:=s1.toks+1+1 }:=I1.kept λb o e=>t_ _ e;have hr2:IsRange (s1.heap.push { cls:=.type "range",data:=.fields #[.int 0 s1.toks,.int (ws.length:Nat) t,.int 1 (s1.toks+1)] }) s1.heap.objs.size 0 (ws.length:Nat) 1 s1.toks t (s1.toks+1):=IsRange.new ..;generalize s1.heap.push { cls:=.type "range",data:=.fields #[.int 0 s1.toks,.int (ws.length:Nat) t,.int 1 (s1.toks+1)] }=h2 at I2 hr2 ⊢;generalize s1.heap.objs.size=r at hr2 ⊢;have hk:X.env.kindOf "weights"=some .cell:=hv;obtain⟨m,hns,hloc⟩:=I2.loc;obtain⟨u,ru,lk⟩:=hloc iW "weights" (.ref b) hN ew (.inr (.inl hv));obtain rfl:u=.ref b:=ru;obtain⟨cell,ec,m_⟩:∃cell,X.env.cells.lookup ("weights" : Str)=some cell/\h2.IsCell cell (some (.ref b)):=by
   rcases lk with ⟨z,_⟩ |⟨_,cl,z1,z2⟩
   .rw[hk] at z;cases z
   .exact⟨cl,z1,z2⟩
  have clo:closureFor aS X.env=(pure [(("weights" : Str),cell)]:Sem (List (Str×Addr))):=by simp [closureFor,cellOf,ec]
  obtain⟨its,rv,pl,hz⟩:=I2.list hq;have d_:∀(H2:Hp) (s3:Shared) (f c':Addr) (pm ctv:Value),we H1 H2 P (X.env.qual ++ "<lambda>") ps q7->Inv X pins σ H2 s3->(∀b o,b≠P->h2.get? b=some o->s3.heap.get? b=some o)->s3.heap.get? f=some (kla_obj "<lambda>" (X.env.qual ++ "<lambda>") (eF p0) (dJ p1 p2 p3 p4 p5 p6) aS [("weights",cell)] pm c' ctv)->s3.heap.CodeRec (.ref c') (X.env.qual ++ "<lambda>")->
   wpAny (model X.prog X.w) X.A (call (.builtin "sorted") [.ref r] [(Str.ofString "key",.ref f)]) (EP X pins σ Q) X.xe s3:=by
   intro H2 s3 f c' pm ctv G3 I3 k3 hf hrec;have nP:∀{b:Addr}{o:Obj},h2.get? b=some o->o.cls ≠ .none->b≠P:=λ{b o} e n z=>by have:h2.get? P=some { cls:=.none,data:=.fields ps }:=I2.hok P _ hP;rw[z,this] at e;cases e;exact n rfl
   have hr3:IsRange s3.heap r 0 (ws.length:Nat) 1 s1.toks t (s1.toks+1):=k3 _ _ (nP hr2 (λz=>nomatch z)) hr2;refine v7 (n:=ws.length) (xs:=i4 ws) (I.ok.hd hc) hr3 (small_one (by omega) (by omega) (by omega) (by omega)) (by rw[OJ];split <;> omega) hn (by unfold i4;rw[q_,z_]) (DF ws) (λi x tt h' tk ex k=>?_) λp h' D c tk out pp up sz k z vz=>?_
   .have hi:i<ws.length:=by
     have:=(D_.mp ex).1
     unfold i4 at this;rw[q_,z_] at this;exact this
    obtain rfl:x=(-(ws.getD i 0),((i:Nat):Int)):=by unfold i4 at ex;rw[LL,List.getElem?_range hi] at ex;cases ex;rfl
    have hcell':h'.IsCell cell (some (.ref b)):=by obtain⟨o,e1,e2⟩:=m_;refine⟨o,k _ _ (k3 _ _ (λz=>?_) e1),e2⟩;have:h2.get? P=some { cls:=.none,data:=.fields ps }:=I2.hok P _ hP;rw[z,this] at e1;cases e1;cases e2
    have hl':h'.IsList b its.toArray:=by obtain⟨o,e1,e2⟩:=pl.isList;exact⟨o,k _ _ (k3 _ _ (nP e1 (by rw[e2.1];intro z;cases z)) e1),e2⟩
    exact Ek (s:={ s3 with heap:=h',toks:=tk }) hdp (k _ _ hf) (by obtain⟨c2,o,vs,tq,e1,e2,e3⟩:=hrec;exact⟨c2,o,vs,tq,e1,k _ _ e2,e3⟩) (I3.nolimit.keeps k) hcell' hl' (by simpa using rv) hi hn
   .rw[Dv pp up] at vz;have big:sizeLine=16777216:=rfl;have ln:((aY ws).map λi:Nat=>V.int (i:Nat)).length<=sizeLine:=by rw[q_,(c9 ws).perm.length_eq,z_];omega
    exact⟨.ref D,_,I3.laid (t':=tk) k sz (show ObjOk X.prog X.w _ h' _ (.lst _) from ⟨ln,out,c,vz,z⟩),rfl,q H2 D G3 (I3.hok.fresh sz)⟩
  have tabP:h2.get? P=some { cls:=.none,data:=.fields ps }:=I2.hok P _ hP;have glb:h2.Ns mainGlobals X.mg:=I2.mod.glob.keeps I2.bk;have gP:mainGlobals≠P:=λz=>by obtain⟨o,es,ep,e,d,_⟩:=glb;rw[z,tabP] at e;cases e;cases d
  have bAt:h2.BuiltinsAt X.mg P:=by
   obtain⟨bm,o,y1,y2,y3,⟨y4,y5,y6⟩,y7⟩:=hB;have y8:h2.get? bm=some o:=by
    rcases y7 with z |⟨u,z⟩
    .exact I2.kIn bm o z
    .exact (I2.hok bm _ z).1
   exact⟨bm,o,y1,y2,y3,(λz=>by rw[z,tabP] at y8;cases y8;cases y6),y8,y4,y5,y6⟩
  have CH:=codeHd_of_K I2.kIn hh;have lam:wpAny (model X.prog X.w) X.A (eval (.Lambda (eF p0) (dJ p1 p2 p3 p4 p5 p6) aS q7) X.env) (λv s3=>∃f,v=.ref f/\wpAny (model X.prog X.w) X.A (call (.builtin "sorted") [.ref r] [(Str.ofString "key",.ref f)]) (EP X pins σ Q) X.xe s3) X.xe { s1 with heap:=h2,toks:=s1.toks+1+1 }:=by
   refine kla_eval rfl ?_;cases am:codeAmong q7 ps.toList with
   |
    none=>
    refine kla_makeFunction (mg:=X.mg) clo I.ok.glob glb o_ CH tabP htr am gP bAt λc' ctv h' tk hx hge hlt hrec htb=>?_;have hrec':(h'.push (kla_obj "<lambda>" (X.env.qual ++ "<lambda>") (eF p0) (dJ p1 p2 p3 p4 p5 p6) aS [("weights",cell)] ((X.mg "__name__").getD .none) c' ctv)).CodeRec (.ref c') (X.env.qual ++ "<lambda>"):=by obtain⟨c2,o,vs,tq,e1,e2,e3⟩:=hrec;exact⟨c2,o,vs,tq,e1,t_ _ e2,e3⟩
    exact⟨_,rfl,d_ _ _ _ c' _ ctv (.inr ⟨c',I2.hok.fresh hge,am,rfl⟩) (I2.tabled (t':=tk) hP (λb o n e=>t_ _ (hx b o n e)) hge hrec' (t_ _ htb)) (λb o n e=>t_ _ (hx b o n e)) (F_ _ rfl) hrec'⟩
   |some cv=>obtain⟨c',rfl,hc'⟩:=hcs q7 cv am;refine kla_makeFunctionHit (mg:=X.mg) clo I.ok.glob glb o_ CH tabP htr am bAt λctv h' tk k hsz=>?_;obtain⟨c2,o,vs,tq,e1,e2,e3⟩:h2.CodeRec (.ref c') (X.env.qual ++ "<lambda>"):=(I2.hok c' _ hc').1;exact⟨_,rfl,d_ _ _ _ c' _ ctv (.inl rfl) (I2.kept (t':=tk) λb o e=>t_ _ (k b o e)) (λb o n e=>t_ _ (k b o e)) (F_ _ rfl) ⟨c2,o,vs,tq,e1,t_ _ (k _ _ e2),e3⟩⟩
  show wpAny _ _ (do
   let v <- (do let v <- eval (.Lambda (eF p0) (dJ p1 p2 p3 p4 p5 p6) aS q7) X.env;standAt q9;pure v)
   return v::(<- holding [v] (evalAll []))) _ _ _
  refine p_ <| p_ <| LX lam (λv s3 hv3=>?_) λ_ _ z=>z;obtain⟨f,rfl,hv3⟩:=hv3;exact p_ (Nm (B_ (p_ (Mx (B_ (B_ hv3))))))
end
section
variable{K:W.Frag}{mg:Pa}{h:AH}
def LamT.one{P P':Addr}{q q':Str}(a:LamT K mg P q)(b:LamT K mg P' q'):q=q':=by
 obtain⟨x,f,oc,od,fd,sl,c,a1,a2,a3,a4,a5,a6,rfl⟩:=a;obtain⟨y,f',oc',od',fd',sl',c',b1,b2,b3,b4,b5,b6,rfl⟩:=b;have e:x=y:=by
  by_cases z:x=y
  .exact z
  .have:=a2 y b1 λw=>z w.symm
   rw[b3] at this;cases this
 subst e;rw[a3] at b3;cases b3;rw[a4] at b4;cases b4;rfl
def ve{pos:Pos}{a b:Int}{c cv:Value}(l:List Value)(h:TriplesOk l)(e:codeAmong pos (l++[rawInt a,rawInt b,c])=some cv):codeAmong pos l=some cv\/cv=c:=by
 fun_induction TriplesOk l with
 |
  case1=>
  simp only[Mk,codeAmong,rawInt] at e;split at e
  .cases e;exact .inr rfl
  .cases e
 |
  case2 a' t b' u x fP ih=>
  simp only[N8,codeAmong] at e ⊢;split at e
  .rename_i z;rw[if_pos z];exact .inl e
  .rename_i z;rw[if_neg z];exact ih h e
 |case3 l h1 h2=>exact h.elim
end
section
variable{X:Cx}{K:W.Frag}{mg:Pa}{a:Expr}{ta:TA}{q1 q8 q9 pc:Pos}{kc:Nat}
def xQ(K:W.Frag):List V->Hp->VK->Prop:=λxs H Q=>∃b ns,xs=[.ref b]/\SqL K H b (ns.map V.int)/\ns.length<64/\∀l,H l=none->Q (.ref l) (upd H l (.lst ((srI ns).reverse.map V.int)))
def Dw(hl:Gl X "sorted")(hml:X.mg "sorted"=none)(ha:PA X [a] ta)(hs:starEach [a] X.env=[(false,eval a X.env)]):
 PE X (.Call (.Name "sorted" q1) [a] [⟨some "reverse",.Constant (.bool true) kc pc,q8⟩] q9) (tCB (xQ X.K) ta):=by
 intro pins s σ H Q I h;refine Md (cE I hl hml (show bootBuiltins "sorted"=some (.builtin "sorted") from rfl) ?_ (by decide) (by decide));refine callWith_kw (thn (ha q9 pins s σ H _ I h) λus s1 zz=>exA zz λvs H1 I1 r1 z1=>?_) (by rw[hs];rfl) (by rw[hs];rfl) rfl rfl;obtain⟨b,ns,rfl,hq,hz,q⟩:=z1;obtain⟨u,rfl,ru⟩:=dO r1;cases ru;show wpAny _ _ (do
  let v <- (do let v <- eval (.Constant (.bool true) kc pc) X.env;standAt q9;pure v)
  return v::(<- holding [v] (evalAll []))) _ _ _
 refine p_ <| p_ <| Constant_bool ?_;refine p_ (Nm (B_ (p_ (Mx (B_ (B_ ?_))))));obtain⟨its,rv,pl,_⟩:=I1.list hq;have len:its.length=ns.length:=by rw[<- rv.length,q_]
 refine sorted_ints_rev pl.isList (f6 rv) (by omega) λout ns' a1 a2 a3=>?_;obtain⟨m',he⟩:=sortedAll_at s1.heap its out;have en:ns'=(srI ns).reverse:=by have:ns'.reverse=srI ns:=xx ((List.reverse_perm _).trans a2) (List.pairwise_reverse.mpr a3);rw[<- this,List.reverse_reverse]
 subst en;have rv':=fK a1;have l2:(srI ns).length=ns.length:=(bT ns).length_eq;have fr:s1.heap.objs.size<=s1.heap.objs.size+1:=Nat.le_succ _;have big:sizeLine=16777216:=rfl;exact⟨.ref (s1.heap.objs.size+1),_,I1.laid (t':=s1.toks) (λb o z=>sortedAll_old z) fr (show ObjOk X.prog X.w _ _ _ (.lst ((srI ns).reverse.map V.int)) from ⟨by rw[q_,OA];omega,_,m',rv',he⟩),rfl,q _ (I1.hok.fresh fr)⟩
end
section
variable{prog:Program}{w:World}{A:Around}{E:Pc}{s:Shared}
def zF{r:Addr}{j:Int}{t u v:Tok}{n:Nat}{Q:Pc}(hh:A.handled=none)(hr:IsRange s.heap r 0 j 1 t u v)(g_:Builtin.Range.small 0 j 1=true)(hn:Builtin.Range.rangeSize 0 j 1=n)(b_:n<=2^24)
 (h:∀(h':Heap) (tk:Nat) (vs:List Value),s.heap.objs.size<=h'.objs.size->(∀b o,s.heap.get? b=some o->h'.get? b=some o)->vs.length=n->(∀(i:Nat) x,vs[i]?=some x->∃t,x=.int (i:Nat) t)->Q (.ref h'.objs.size) { s with heap:=h'.push { cls:=.type "tuple",data:=.seq vs.toArray },toks:=tk }):
 codeAny (model prog w) A (.call (.builtin "tuple.__new__") ⟨[.type "tuple",.ref r],[]⟩) (wants Q E) s:=by
 refine codeAny_of_tree ?_;show wpAny _ A.in1 (do checkBuiltinCall "tuple.__new__" ⟨[.type "tuple",.ref r],[]⟩;again (.builtin "tuple.__new__" ⟨[.type "tuple",.ref r],[]⟩)) _ _ s;refine p_ <| wpAny_of_eq (F.newCall_tuple_1 _) <| B_ ⟨plainId_quiet F.plain_tuple_new _,Ou F.entry_tuple_new ?_⟩;rw[Around.under_plainId F.plain_tuple_new _];have hsub:=sub_tuple_self;have hinit:=init_tuple_lookup;have hmh:=madeHere_tuple;have hTI:s.TypeIs (.ref r) "range":=⟨_,hr,rfl⟩
 wp_walk using wpAny_typeOf hTI,mr (A:=A.in1) hh hr g_ hn b_
 intro h' tk vs sz k lv iv;show wpAny _ _ (Builtin.Tuple.tupleExact vs.toArray >>= λv=>ret v) _ _ _;unfold Builtin.Tuple.tupleExact;have big:sizeLine=16777216:=rfl;refine p_ <| Mr ?_ (by show vs.length<=_;omega);exact B_ (h h' tk vs sz k lv iv)
def zJ{r:Addr}{j:Int}{t u v:Tok}{n:Nat}{Q:Pc}(hh:A.handled=none)(hr:IsRange s.heap r 0 j 1 t u v)(g_:Builtin.Range.small 0 j 1=true)(hn:Builtin.Range.rangeSize 0 j 1=n)(b_:n<=2^24)
 (h:∀(h':Heap) (tk:Nat) (vs:List Value),s.heap.objs.size<=h'.objs.size->(∀b o,s.heap.get? b=some o->h'.get? b=some o)->vs.length=n->(∀(i:Nat) x,vs[i]?=some x->∃t,x=.int (i:Nat) t)->Q (.ref h'.objs.size) { s with heap:=h'.push { cls:=.type "tuple",data:=.seq vs.toArray },toks:=tk }):
 wpAny (model prog w) A (call (.type "tuple") [.ref r]) Q E s:=by
 refine callType_codes (Q₁:=λobj s₁=>s₁.TypeIs obj "tuple" /\ Q obj s₁) F.called_tuple (F.typeCall_tuple_1 _) F.entry_object_init (zF hh hr g_ hn b_ λh' tk vs sz k lv iv=>⟨⟨_,F_ _ rfl,rfl⟩,h h' tk vs sz k lv iv⟩) λobj s₁ h₁=>?_;exact⟨h₁.1,F.args_object_init_2 obj _,object_init_meets F.called_tuple.init.lookup F.called_tuple.made (by decide) prog w A.in1 _ s₁ ⟨h₁.1,rfl,h₁.2⟩⟩
end
section
variable{X:Cx}{mg:Pa}{a:Expr}{ta:TA}{pos q2 p1 p2:Pos}
def rTrg:List V->Hp->VK->Prop:=λxs H Q=>∃j:Int,xs=[.int j]/\0<=j/\j<=1000000/\∀l,H l=none->Q (.ref l) (upd H l (.tup (ij j)))
theorem rf:∀{vs:List Value} (i0:Nat),(∀(i:Nat) x,vs[i]?=some x->∃t,x=.int ((i0+i:Nat):Int) t)->Vals ((List.range' i0 vs.length).map λi:Nat=>V.int (i:Nat)) vs
 | [],_,_=>.nil
 |
  v::vs,i0,h=>by
  rw[Em,List.range'_succ,u_];refine .cons ?_ (rf (i0+1) λi x e=>?_)
  .obtain⟨t,e⟩:=h 0 v rfl;exact⟨t,by rw[e];rfl⟩
  .obtain⟨t,e'⟩:=h (i+1) x (by simpa using e);exact⟨t,by rw[e'];congr 1;omega⟩
def Ik(hc:X.calm=true)(hl:Gl X "tuple")(hml:X.mg "tuple"=none)(hg:Gl X "range")(hm:X.mg "range"=none)(ha:PA X [a] ta)(hs:starEach [a] X.env=[(false,eval a X.env)])
 (hs1:starEach [.Call (.Name "range" p2) [a] [] q2] X.env=[(false,eval (.Call (.Name "range" p2) [a] [] q2) X.env)]):
 PE X (.Call (.Name "tuple" p1) [.Call (.Name "range" p2) [a] [] q2] [] pos) (tCB rTrg ta):=by
 intro pins s σ H Q I h;refine Md (cE I hl hml (show bootBuiltins "tuple"=some (.type "tuple") from rfl) ?_ (by decide) (by decide));refine LZ ?_ hs1 rfl;rw[hs1];show wpAny _ _ (spliced ((false,eval (.Call (.Name "range" p2) [a] [] q2) X.env)::[])) _ _ s;refine M5 ?_;refine Md (cE I hg hm (show bootBuiltins "range"=some (.type "range") from rfl) ?_ (by decide) (by decide));refine LZ (thn (ha q2 pins s σ H _ I h) λus s1 zz=>exA zz λvs H1 I1 r1 z1=>?_) hs rfl;obtain⟨j,e,h1,h2,q⟩:=z1;subst e;cases r1 with
 |
  cons r rr=>
  cases rr;obtain⟨t,rfl⟩:=r;refine call_range_1 (Ny ?_);have I2:Inv X pins σ H1 { s1 with heap:=s1.heap.push { cls:=.type "range",data:=.fields #[.int 0 s1.toks,.int j t,.int 1 (s1.toks+1)] },toks:=s1.toks+1+1 }:=I1.kept λb o e=>t_ _ e;refine zJ (I.ok.hd hc) (IsRange.new ..) (small_one (by omega) (by omega) (by omega) (by omega)) (n:=j.toNat) (by rw[OJ];split <;> omega) (by omega) λh' tk vs sz k lv iv=>?_;have rv:Vals (ij j) vs:=by
   have:=rf (vs:=vs) 0 λi x e=>by obtain⟨t,e'⟩:=iv i x e;exact⟨t,by rw[e'];congr 1;omega⟩
   rw[lv,<- List.range_eq_range'] at this;exact this
  have hz:(ij j).length<=sizeLine:=by unfold ij;rw[q_,z_];have:sizeLine=16777216:=rfl;omega
  exact⟨.ref _,_,I2.laid (t':=tk) (a:=h'.objs.size) (λb o e=>t_ _ (k b o e)) sz (show ObjOk X.prog X.w _ _ _ (.tup (ij j)) from ⟨hz,vs,rv,⟨_,F_ _ rfl,rfl,_,rfl⟩⟩),rfl,q _ (I2.hok.fresh sz)⟩
end
noncomputable def ltS (x y:Str):Bool:=decide (x.cps.toList<y.cps.toList)
end L2
namespace L3
open PySem PySem.Spec PyProof.Rows L2
set_option genInjectivity true in
inductive Val where
 |non |bl (b:Bool) |int (i:Int) |str (x:Str) |ty (n:String) |glb (x:Str) |exc (x:Str)
 |tup (xs:List Val) |lst (xs:List Val) |kl (xs:List Val) |dct (kvs:List (Key×Val)) |set (xs:List Int)
 deriving Inhabited
abbrev St:=L2.St
structure LeH(H H':Hp):Prop where
 tup:∀b xs,H b=some (.tup xs)->H' b=some (.tup xs)
 frz:∀b o u,H b=some (.frz o u)->H' b=some (.frz o u)
 ext:∀b φ,H b=some (.ext φ)->H' b=some (.ext φ)
def LeH.refl:LeH H H:=⟨λ_ _ e=>e,λ_ _ _ e=>e,λ_ _ e=>e⟩
def LeH.trans(a:LeH H H1)(b:LeH H1 H2):LeH H H2:=⟨λx y e=>b.tup x y (a.tup x y e),λx y z e=>b.frz x y z (a.frz x y z e),λx y e=>b.ext x y (a.ext x y e)⟩
def Gr(H H':Hp):Prop:=∀a o,H a=some o->H' a=some o
def Gr.le(g:Gr H H'):LeH H H':=⟨λ_ _=>g _ _,λ_ _ _=>g _ _,λ_ _=>g _ _⟩
def Gr.refl:Gr H H:=λ_ _ e=>e
def Gr.upd(h:H p=none):Gr H (upd H p u):=λa o e=>by rw[aB (bJ e h)];exact e
def Gr.none(g:Gr H H')(h:H' a=none):H a=none:=by
 cases q:H a with
 |none=>rfl
 |some o=>rw[g a o q] at h;cases h
def LeH.sqT{K:W.Frag}(l:LeH H H')(q:SqT K H a xs):SqT K H' a xs:=by
 rcases q with (q |⟨o,q⟩) |q
 .exact .inl (.inl (l.tup _ _ q))
 .exact .inl (.inr ⟨o,l.frz _ _ _ q⟩)
 .exact .inr q
section
variable(K:W.Frag)(mg:Pa)
def KlR(a:Addr)(vs:List V):Prop:=∃(o:Obj) (its:Array Value) (n:Nat),K.lookup a=some o/\o.cls=.type "list" /\ o.dict=none/\o.data=.seq its n/\its.size<=sizeLine/\Vals vs its.toList
mutual
inductive Rd(P:Addr->Prop)(H:Hp):V->Val->Prop where
 |non:Rd P H .non .non
 |bl (b:Bool):Rd P H (.bl b) (.bl b)
 |int (i:Int):Rd P H (.int i) (.int i)
 |str (x:Str):Rd P H (.str x) (.str x)
 |ty (n:String):Rd P H (.ty n) (.ty n)
 |glb {x:Str}{a:Addr} (m:mg x=some (.ref a)):Rd P H (.ref a) (.glb x)
 |exc {x:Str}{a C:Addr} (m:mg x=some (.ref C)) (e:H a=some (.ext (va a C))):Rd P H (.ref a) (.exc x)
 |tup {p:Addr}{vs:List V}{us:List Val} (h:SqT K H p vs) (r:Rds P H vs us):Rd P H (.ref p) (.tup us)
 |kl {a:Addr}{vs:List V}{us:List Val} (h:KlR K a vs) (r:Rds P H vs us):Rd P H (.ref a) (.kl us)
 |cell {a:Addr}{o:HO}{v:Val} (p:P a) (e:H a=some o) (r:Rc P H o v):Rd P H (.ref a) v
inductive Rc(P:Addr->Prop)(H:Hp):HO->Val->Prop where
 |lst {vs:List V}{us:List Val} (r:Rds P H vs us):Rc P H (.lst vs) (.lst us)
 |fz {o:Obj}{vs:List V}{us:List Val} (r:Rds P H vs us):Rc P H (.frz o (.lst vs)) (.kl us)
 |dct {ws:List (Key×V)}{us:List (Key×Val)} (r:Rk P H ws us):Rc P H (.dK ws) (.dct us)
 |set (xs:List Int) (nd:xs.Nodup):Rc P H (.set (λi=>decide (i∈xs)) xs.length) (.set xs)
inductive Rds(P:Addr->Prop)(H:Hp):List V->List Val->Prop where
 |nil:Rds P H [] []
 |cons {d:V}{v:Val}{ds:List V}{vs:List Val} (r:Rd P H d v) (rr:Rds P H ds vs):Rds P H (d::ds) (v::vs)
inductive Rk(P:Addr->Prop)(H:Hp):List (Key×V)->List (Key×Val)->Prop where
 |nil:Rk P H [] []
 |cons {k:Key}{d:V}{v:Val}{ds:List (Key×V)}{vs:List (Key×Val)} (r:Rd P H d v) (rr:Rk P H ds vs):Rk P H ((k,d)::ds) ((k,v)::vs)
end
end
def nu(o:HO):Prop:=∀ps,o ≠ .tbl ps
structure Mov(P P':Addr->Prop)(H H':Hp):Prop where
 le:LeH H H'
 cl:∀a o,P a->H a=some o->nu o->P' a/\H' a=some o
def Gr.mov(g:Gr H H'):Mov P P H H':=⟨g.le,λa o p e _=>⟨p,g a o e⟩⟩
def Mov.of(h:∀a,P a->P' a):Mov P P' H H:=⟨.refl,λa o p e _=>⟨h a p,e⟩⟩
section
variable{K:W.Frag}{mg:Pa}{P P':Addr->Prop}{H H':Hp}
def Rc.nt(r:Rc K mg P H o v):nu o:=by cases r <;> exact λ_ z=>nomatch z
def Rd.mono(m:Mov P P' H H')(r:Rd K mg P H d v):Rd K mg P' H' d v:=@Rd.rec K mg P H (λd v _=>Rd K mg P' H' d v) (λo v _=>Rc K mg P' H' o v) (λds vs _=>Rds K mg P' H' ds vs) (λws us _=>Rk K mg P' H' ws us) .non (λb=>.bl b) (λi=>.int i) (λx=>.str x) (λn=>.ty n) (λe=>.glb e) (λq e=>.exc q (m.le.ext _ _ e)) (λh _ ih=>.tup (m.le.sqT h) ih) (λh _ ih=>.kl h ih) (λp e r ih=>.cell (m.cl _ _ p e r.nt).1 (m.cl _ _ p e r.nt).2 ih) (λ_ ih=>.lst ih) (λ_ ih=>.fz ih) (λ_ ih=>.dct ih) (λxs nd=>.set xs nd) .nil (λ_ _ a b=>.cons a b) .nil (λ_ _ a b=>.cons a b) d v r
def Rds.ind{M:List V->List Val->Prop}(h0:M [] [])(h1:∀{d v ds vs},Rd K mg P H d v->Rds K mg P H ds vs->M ds vs->M (d::ds) (v::vs)){ds:List V}{vs:List Val}(r:Rds K mg P H ds vs):M ds vs:=by
 induction ds generalizing vs with
 |nil=>cases r;exact h0
 |
  cons d ds ih=>
  cases r with
  |cons r rr=>exact h1 r rr (ih rr)
def Rk.ind{M:List (Key×V)->List (Key×Val)->Prop}(h0:M [] [])(h1:∀{k d v ds vs},Rd K mg P H d v->Rk K mg P H ds vs->M ds vs->M ((k,d)::ds) ((k,v)::vs)){ds:List (Key×V)}{vs:List (Key×Val)}(r:Rk K mg P H ds vs):M ds vs:=by
 induction ds generalizing vs with
 |nil=>cases r;exact h0
 |
  cons d ds ih=>
  cases r with
  |cons r rr=>exact h1 r rr (ih rr)
def Rds.mono(m:Mov P P' H H'){d:List V}{v:List Val}(r:Rds K mg P H d v):Rds K mg P' H' d v:=r.ind .nil λr _ ih=>.cons (r.mono m) ih
def Rk.mono(m:Mov P P' H H'){d:List (Key×V)}{v:List (Key×Val)}(r:Rk K mg P H d v):Rk K mg P' H' d v:=r.ind .nil λr _ ih=>.cons (r.mono m) ih
def Rc.mono(m:Mov P P' H H')(r:Rc K mg P H d v):Rc K mg P' H' d v:=by
 cases r with
 |lst r=>exact .lst (r.mono m)
 |fz r=>exact .fz (r.mono m)
 |dct r=>exact .dct (r.mono m)
 |set xs nd=>exact .set xs nd
def Rds.len{ds:List V}{vs:List Val}(r:Rds K mg P H ds vs):ds.length=vs.length:=r.ind (M:=λds vs=>ds.length=vs.length) rfl λ_ _ ih=>Mb (· + 1) ih
def Rds.get{ds:List V}{vs:List Val}{i:Nat}{v:Val}(r:Rds K mg P H ds vs)(e:vs[i]?=some v):∃d,ds[i]?=some d/\Rd K mg P H d v:=
 r.ind (M:=λds vs=>∀i,vs[i]?=some v->∃d,ds[i]?=some d/\Rd K mg P H d v) (λ_ e=>by rw[List.getElem?_nil] at e;cases e) (λr _ ih i e=>match i,e with
  |0,e=>by cases e;exact⟨_,rfl,r⟩
  |i+1,e=>ih i e) i e
def Rds.append{ds es:List V}{vs ws:List Val}(r:Rds K mg P H ds vs)(q:Rds K mg P H es ws):Rds K mg P H (ds++es) (vs++ws):=r.ind (M:=λds vs=>Rds K mg P H (ds++es) (vs++ws)) q λr _ ih=>.cons r ih
def Rds.take{ds:List V}{vs:List Val}(n:Nat)(r:Rds K mg P H ds vs):Rds K mg P H (ds.take n) (vs.take n):=
 r.ind (M:=λds vs=>∀n:Nat,Rds K mg P H (ds.take n) (vs.take n)) (λn=>by rw[N4,N4];exact .nil) (λr _ ih n=>by cases n with |zero=>exact .nil |succ n=>exact .cons r (ih n)) n
def Rds.drop{ds:List V}{vs:List Val}(n:Nat)(r:Rds K mg P H ds vs):Rds K mg P H (ds.drop n) (vs.drop n):=
 r.ind (M:=λds vs=>∀n:Nat,Rds K mg P H (ds.drop n) (vs.drop n)) (λn=>by rw[OF,OF];exact .nil) (λr rr ih n=>by cases n with |zero=>exact .cons r rr |succ n=>exact ih n) n
def Rds.set{d:V}{v:Val}(r:Rd K mg P H d v){ds:List V}{vs:List Val}(i:Nat)(q:Rds K mg P H ds vs):Rds K mg P H (ds.set i d) (vs.set i v):=
 q.ind (M:=λds vs=>∀i:Nat,Rds K mg P H (ds.set i d) (vs.set i v)) (λ_=>.nil) (λq qq ih i=>by cases i with |zero=>exact .cons r qq |succ i=>exact .cons q (ih i)) i
def ShR(K:W.Frag)(mg:Pa)(P:Addr->Prop)(H:Hp)(d:V)(v:Val):Prop:=Rd K mg P H d v\/∃a o,d=.ref a/\H a=some o/\Rc K mg P H o v
inductive ShRs(K:W.Frag)(mg:Pa)(P:Addr->Prop)(H:Hp):List V->List Val->Prop where
 |nil:ShRs K mg P H [] []
 |cons {d:V}{v:Val}{ds:List V}{vs:List Val} (r:ShR K mg P H d v) (rr:ShRs K mg P H ds vs):ShRs K mg P H (d::ds) (v::vs)
def ShR.mono(m:Mov P P' H H')(g:Gr H H')(r:ShR K mg P H d v):ShR K mg P' H' d v:=by
 rcases r with r |⟨a,o,rfl,e,r⟩
 .exact .inl (r.mono m)
 .exact .inr ⟨a,o,rfl,g a o e,r.mono m⟩
def ShR.int(r:ShR K mg P H d (.int i)):d=.int i:=by
 rcases r with r |⟨n,o,rfl,e,r⟩
 .cases r with
  |int=>rfl
  |cell p e r=>cases r
 .cases r
def ShR.str(r:ShR K mg P H d (.str i)):d=.str i:=by
 rcases r with r |⟨n,o,rfl,e,r⟩
 .cases r with
  |str=>rfl
  |cell p e r=>cases r
 .cases r
def ShR.bl(r:ShR K mg P H d (.bl i)):d=.bl i:=by
 rcases r with r |⟨n,o,rfl,e,r⟩
 .cases r with
  |bl=>rfl
  |cell p e r=>cases r
 .cases r
def ShR.non(r:ShR K mg P H d .non):d=.non:=by
 rcases r with r |⟨n,o,rfl,e,r⟩
 .cases r with
  |non=>rfl
  |cell p e r=>cases r
 .cases r
def ShR.exc(r:ShR K mg P H d (.exc x)):∃a C,d=.ref a/\mg x=some (.ref C)/\H a=some (.ext (va a C)):=by
 rcases r with r |⟨n,o,rfl,e,r⟩
 .cases r with
  |exc m e=>exact⟨_,_,rfl,m,e⟩
  |cell p e r=>cases r
 .cases r
def ShR.ty(r:ShR K mg P H d (.ty x)):d=.ty x:=by
 rcases r with r |⟨n,o,rfl,e,r⟩
 .cases r with
  |ty=>rfl
  |cell p e r=>cases r
 .cases r
def ShR.glb(r:ShR K mg P H d (.glb x)):∃a,d=.ref a/\mg x=some (.ref a):=by
 rcases r with r |⟨n,o,rfl,e,r⟩
 .cases r with
  |glb m=>exact⟨_,rfl,m⟩
  |cell p e r=>cases r
 .cases r
def ShR.tup(r:ShR K mg P H d (.tup us)):∃p vs,d=.ref p/\SqT K H p vs/\Rds K mg P H vs us:=by
 rcases r with r |⟨n,o,rfl,e,r⟩
 .cases r with
  |tup h r=>exact⟨_,_,rfl,h,r⟩
  |cell p e r=>cases r
 .cases r
def ShR.lst(r:ShR K mg P H d (.lst us)):∃a vs,d=.ref a/\H a=some (.lst vs)/\Rds K mg P H vs us:=by
 rcases r with r |⟨n,o,rfl,e,r⟩
 .cases r with
  |cell p e r=>cases r with |lst r=>exact⟨_,_,rfl,e,r⟩
 .cases r with |lst r=>exact⟨_,_,rfl,e,r⟩
def ShR.set(r:ShR K mg P H d (.set xs)):∃a,d=.ref a/\xs.Nodup/\H a=some (.set (λi=>decide (i∈xs)) xs.length):=by
 rcases r with r |⟨n,o,rfl,e,r⟩
 .cases r with
  |cell p e r=>cases r with |set _ nd=>exact⟨_,rfl,nd,e⟩
 .cases r with |set _ nd=>exact⟨_,rfl,nd,e⟩
def ShR.dct(r:ShR K mg P H d (.dct us)):∃a ws,d=.ref a/\H a=some (.dK ws)/\Rk K mg P H ws us:=by
 rcases r with r |⟨n,o,rfl,e,r⟩
 .cases r with
  |cell p e r=>cases r with |dct r=>exact⟨_,_,rfl,e,r⟩
 .cases r with |dct r=>exact⟨_,_,rfl,e,r⟩
def ShR.kl(r:ShR K mg P H d (.kl us)):∃a vs,d=.ref a/\SqL K H a vs/\Rds K mg P H vs us:=by
 rcases r with r |⟨n,o,rfl,e,r⟩
 .cases r with
  |kl h r=>exact⟨_,_,rfl,.inr h,r⟩
  |cell p e r=>cases r with |fz r=>exact⟨_,_,rfl,.inl (.inr ⟨_,e⟩),r⟩
 .cases r with |fz r=>exact⟨_,_,rfl,.inl (.inr ⟨_,e⟩),r⟩
def ShR.lstL(r:ShR K mg P H d (.lst us)):∃a vs,d=.ref a/\SqL K H a vs/\Rds K mg P H vs us:=by obtain⟨a,vs,e,h,q⟩:=r.lst;exact⟨a,vs,e,SqL.of h,q⟩
end
noncomputable def Val.items:Val->Option (List Val)
 |.tup xs=>some xs
 |.lst xs=>some xs
 |.kl xs=>some xs
 |_=>none
def ShR.items{K:W.Frag}{mg:Pa}{P:Addr->Prop}{H:Hp}{d:V}{v:Val}{us:List Val}(r:ShR K mg P H d v)(e:v.items=some us):∃a vs,d=.ref a/\(SqL K H a vs\/SqT K H a vs)/\Rds K mg P H vs us:=by
 cases v with
 |tup xs=>cases e;obtain⟨a,vs,h1,h2,h3⟩:=r.tup;exact⟨a,vs,h1,.inr h2,h3⟩
 |lst xs=>cases e;obtain⟨a,vs,h1,h2,h3⟩:=r.lstL;exact⟨a,vs,h1,.inl h2,h3⟩
 |kl xs=>cases e;obtain⟨a,vs,h1,h2,h3⟩:=r.kl;exact⟨a,vs,h1,.inl h2,h3⟩
 |_=>cases e
inductive Sl where
 |no |sh (v:Val) |ow (v:Val) |mu (v:Val) |lo (v:Val) |lm (v:Val)
 deriving Inhabited
abbrev E3:=List Sl
noncomputable def Sl.val:Sl->Option Val
 |.no=>none
 |.sh v=>some v
 |.ow v=>some v
 |.mu v=>some v
 |.lo v=>some v
 |.lm v=>some v
noncomputable def Sl.mt:Sl->Bool
 |.ow _=>true
 |.mu _=>true
 |_=>false
noncomputable def Sl.lk:Sl->Bool
 |.lo _=>true
 |.lm _=>true
 |_=>false
abbrev Ns:=List (Option Addr)
def Oc(X:Addr->Prop)(ns:Ns)(n:Addr):Prop:=¬ X n/\some n∉ns
def NotFz:HO->Prop
 |.lst _=>True
 |.dK _=>True
 |.set _ _=>True
 |_=>False
def TbQ(H:Hp)(P:Addr)(q:Str):Prop:=∃ps:Array Value,H P=some (.tbl ps)/\TriplesOk ps.toList/\∀pos cv,codeAmong pos ps.toList=some cv->∃c,cv=.ref c/\H c=some (.ext (fj c q))
section
variable(K:W.Frag)(mg:Pa)
def Bs(H:Hp):Prop:=∀P q,LamT K mg P q->TbQ H P q/\pW K mg H
def SlR(P:Addr->Prop)(N0:Addr->Prop)(n:Option (Option Addr))(d:Option (Option V))(H:Hp):Sl->Prop
 |.no=>n=some none
 |.sh v=>n=some none/\∃x,d=some (some x)/\Rd K mg P H x v
 |.ow v=>∃m o,n=some (some m)/\d=some (some (.ref m))/\N0 m/\H m=some o/\NotFz o/\Rc K mg P H o v
 |.lo v=>∃m o,n=some (some m)/\d=some (some (.ref m))/\N0 m/\H m=some o/\NotFz o/\Rc K mg P H o v
 |.mu v=>∃m o,n=some (some m)/\d=some (some (.ref m))/\H m=some o/\NotFz o/\Rc K mg P H o v
 |.lm v=>∃m o,n=some (some m)/\d=some (some (.ref m))/\H m=some o/\NotFz o/\Rc K mg P H o v
structure Sat(X:Addr->Prop)(N0:Addr->Prop)(ns:Ns)(e:E3)(σ:St)(H:Hp):Prop where
 l1:σ.length=e.length
 l2:ns.length=e.length
 lh:∀a,H a=none->N0 a
 xl:∀a,X a->∃o,H a=some o
 inj:∀(i j:Nat) (n:Addr),ns[i]?=some (some n)->ns[j]?=some (some n)->i=j
 nx:∀(i:Nat) (n:Addr),ns[i]?=some (some n)->¬ X n
 sl:∀(i:Nat) (s:Sl),e[i]?=some s->SlR K mg (Oc X ns) N0 (ns[i]?) (σ[i]?) H s
 bs:Bs K mg H
end
def Mt(ns:Ns)(e:E3)(n:Addr):Prop:=∃(i:Nat) (s:Sl),ns[i]?=some (some n)/\e[i]?=some s/\s.mt=true
structure Stp(ns:Ns)(e:E3)(H:Hp)(ns':Ns)(e':E3)(H':Hp):Prop where
 le:LeH H H'
 dom:∀a,H' a=none->H a=none
 keep:∀(m:Addr) (o:HO),H m=some o->nu o->¬ Mt ns e m->H' m=some o
 nw:∀(i:Nat) (n:Addr),ns'[i]?=some (some n)->ns[i]?=some (some n)\/H n=none
 lk:∀(i:Nat) (s:Sl),e[i]?=some s->s.lk=true->e'[i]?=some s/\ns'[i]?=ns[i]?
 lk':∀(i:Nat) (s:Sl),e'[i]?=some s->s.lk=true->e[i]?=some s/\ns'[i]?=ns[i]?
 mu:∀(i:Nat) (v:Val),e'[i]?=some (.mu v)->∃u,e[i]?=some (.mu u)/\ns'[i]?=ns[i]?
 mu':∀(i:Nat) (u:Val),e[i]?=some (.mu u)->∃v,e'[i]?=some (.mu v)/\ns'[i]?=ns[i]?
section
variable{K:W.Frag}{mg:Pa}{X Y N0 P P':Addr->Prop}{ns ns1 h_:Ns}{e e1 e2:E3}{σ:St}{H H' H1 H2:Hp}
def NotFz.nt(h:NotFz o):nu o:=λps z=>by subst z;exact h
def NotFz.no(h:NotFz o):(∀xs,o ≠ .tup xs)/\(∀x y,o ≠ .frz x y)/\(∀φ,o ≠ .ext φ)/\∀ps,o ≠ .tbl ps:=
 ⟨λ_ z=>by subst z;exact h,λ_ _ z=>by subst z;exact h,λ_ z=>by subst z;exact h,λ_ z=>by subst z;exact h⟩
def LeH.wr(q:H a=some u)(hf:NotFz u):LeH H (upd H a o):=by
 have n:∀b w,H b=some w->w≠u->upd H a o b=some w:=λb w e z=>by rw[aB λy=>?_];exact e;subst y;rw[q] at e;exact z (LB e).symm
 exact⟨λb xs e=>n b _ e λz=>hf.no.1 _ z.symm,λb x y e=>n b _ e λz=>hf.no.2.1 _ _ z.symm,λb φ e=>n b _ e λz=>hf.no.2.2.1 _ z.symm⟩
def CV(b:pW K mg H)(l:LeH H H'):pW K mg H':=by
 obtain⟨x,o,h1,h2,h3,h4,h5⟩:=b;refine⟨x,o,h1,h2,h3,h4,?_⟩;rcases h5 with z |⟨u,z⟩
 .exact .inl z
 .exact .inr ⟨u,l.frz _ _ _ z⟩
def Bs.of(b:Bs K mg H)(l:LeH H H')(t:∀a ps,H a=some (.tbl ps)->H' a=some (.tbl ps)):Bs K mg H':=λP q h=>by obtain⟨⟨ps,h1,h2,h3⟩,m⟩:=b P q h;exact⟨⟨ps,t _ _ h1,h2,λpos cv z=>by obtain⟨c,y1,y2⟩:=h3 pos cv z;exact⟨c,y1,l.ext _ _ y2⟩⟩,CV m l⟩
def Bs.gr(b:Bs K mg H)(g:Gr H H'):Bs K mg H':=b.of g.le λa _=>g a _
def Bs.wr(b:Bs K mg H)(q:H a=some u)(hf:NotFz u):Bs K mg (upd H a o):=b.of (LeH.wr q hf) λc ps e=>by rw[aB λy=>?_];exact e;subst y;rw[q] at e;exact hf.no.2.2.2 _ (LB e)
def aN{n:Addr}:some n∈ns ↔ ∃i:Nat,ns[i]?=some (some n):=by
 constructor
 .intro m;exact List.getElem?_of_mem m
 .rintro⟨i,e⟩;exact NH e
def Sat.own(S:Sat K mg X N0 ns e σ H){i:Nat}{n:Addr}(q:ns[i]?=some (some n)):∃s v o,e[i]?=some s/\(s.mt=true\/s.lk=true)/\s.val=some v/\σ[i]?=some (some (.ref n))/\H n=some o/\NotFz o/\Rc K mg (Oc X ns) H o v:=by
 have hi:i<e.length:=by rw[<- S.l2];exact (D_.mp q).1
 have hs:=S.sl i e[i] (x_ hi);refine⟨e[i],?_⟩;have he:=x_ hi;generalize e[i]=s at *;rw[q] at hs;cases s with
 |no=>cases hs
 |sh v=>cases hs.1
 |ow v=>obtain⟨m,o,e1,e2,_,e3,e4,e5⟩:=hs;cases e1;exact⟨v,o,he,.inl rfl,rfl,e2,e3,e4,e5⟩
 |lo v=>obtain⟨m,o,e1,e2,_,e3,e4,e5⟩:=hs;cases e1;exact⟨v,o,he,.inr rfl,rfl,e2,e3,e4,e5⟩
 |mu v=>obtain⟨m,o,e1,e2,e3,e4,e5⟩:=hs;cases e1;exact⟨v,o,he,.inl rfl,rfl,e2,e3,e4,e5⟩
 |lm v=>obtain⟨m,o,e1,e2,e3,e4,e5⟩:=hs;cases e1;exact⟨v,o,he,.inr rfl,rfl,e2,e3,e4,e5⟩
def Stp.gr(g:Gr H H'):Stp ns e H ns e H':=⟨g.le,λ_=>g.none,λ_ _ q _ _=>g _ _ q,λ_ _ q=>.inl q,λ_ _ q _=>⟨q,rfl⟩,λ_ _ q _=>⟨q,rfl⟩,λ_ _ q=>⟨_,q,rfl⟩,λ_ _ q=>⟨_,q,rfl⟩⟩
def Stp.refl:Stp ns e H ns e H:=.gr .refl
def Stp.trans(S:Sat K mg X N0 ns e σ H)(a:Stp ns e H ns1 e1 H1)(b:Stp ns1 e1 H1 h_ e2 H2):Stp ns e H h_ e2 H2:=by
 refine⟨a.le.trans b.le,λx z=>a.dom x (b.dom x z),λm o q ht hm=>?_,λi n q=>?_,λi s q hl=>?_,λi s q hl=>?_,λi v q=>?_,λi v q=>?_⟩
 .refine b.keep m o (a.keep m o q ht hm) ht λ⟨i,s,z1,z2,z3⟩=>hm ?_;rcases a.nw i m z1 with z |z
  .obtain⟨s0,v,o',q1,q2,_⟩:=S.own z;rcases q2 with q2 |q2
   .exact⟨i,s0,z,q1,q2⟩
   .have:=(a.lk i s0 q1 q2).1
    rw[z2] at this;cases this;exfalso;cases s <;> first |cases z3;done |cases q2;done
  .rw[q] at z;cases z
 .rcases b.nw i n q with z |z
  .exact a.nw i n z
  .exact .inr (a.dom n z)
 .obtain⟨q1,q2⟩:=a.lk i s q hl;obtain⟨q3,q4⟩:=b.lk i s q1 hl;exact⟨q3,q4.trans q2⟩
 .obtain⟨q1,q2⟩:=b.lk' i s q hl;obtain⟨q3,q4⟩:=a.lk' i s q1 hl;exact⟨q3,q2.trans q4⟩
 .obtain⟨u,q1,q2⟩:=b.mu i v q;obtain⟨u',q3,q4⟩:=a.mu i u q1;exact⟨u',q3,q2.trans q4⟩
 .obtain⟨u,q1,q2⟩:=a.mu' i v q;obtain⟨u',q3,q4⟩:=b.mu' i u q1;exact⟨u',q3,q4.trans q2⟩
def Stp.mov(a:Stp ns e H ns1 e1 H1):Mov (Oc X ns) (Oc X ns1) H H1:=⟨a.le,λn o p q ht=>by
 have hm:¬ Mt ns e n:=λ⟨i,s,z,_⟩=>p.2 (aN.mpr ⟨i,z⟩);refine⟨⟨p.1,λz=>?_⟩,a.keep n o q ht hm⟩;obtain⟨i,z⟩:=aN.mp z;rcases a.nw i n z with z |z
 .exact p.2 (aN.mpr ⟨i,z⟩)
 .rw[q] at z;cases z⟩
def SlR.mono(m:Mov P P' H H')(k:∀j o,n=some (some j)->H j=some o->NotFz o->H' j=some o)(r:SlR K mg P N0 n d H s):SlR K mg P' N0 n d H' s:=by
 cases s with
 |no=>exact r
 |sh v=>obtain⟨q,x,q1,q2⟩:=r;exact⟨q,x,q1,q2.mono m⟩
 |ow v=>obtain⟨j,o,q1,q2,q3,q4,q5,q6⟩:=r;exact⟨j,o,q1,q2,q3,k j o q1 q4 q5,q5,q6.mono m⟩
 |lo v=>obtain⟨j,o,q1,q2,q3,q4,q5,q6⟩:=r;exact⟨j,o,q1,q2,q3,k j o q1 q4 q5,q5,q6.mono m⟩
 |mu v=>obtain⟨j,o,q1,q2,q4,q5,q6⟩:=r;exact⟨j,o,q1,q2,k j o q1 q4 q5,q5,q6.mono m⟩
 |lm v=>obtain⟨j,o,q1,q2,q4,q5,q6⟩:=r;exact⟨j,o,q1,q2,k j o q1 q4 q5,q5,q6.mono m⟩
def Xn(X:Addr->Prop)(n:Addr):Addr->Prop:=λm=>X m\/m=n
def Sat.gr(S:Sat K mg X N0 ns e σ H)(g:Gr H H'):Sat K mg X N0 ns e σ H':=
 ⟨S.l1,S.l2,λa z=>S.lh a (g.none z),λa z=>by obtain⟨o,q⟩:=S.xl a z;exact⟨o,g a o q⟩,S.inj,S.nx,λi s q=>(S.sl i s q).mono g.mov λj o _ q _=>g j o q,S.bs.gr g⟩
def Sat.grow(S:Sat K mg X N0 ns e σ H)(g:Gr H H')(hp:H p=none)(q:H' p=some o):Sat K mg (Xn X p) N0 ns e σ H':=by
 have S':=S.gr g;have np:∀b u,H b=some u->b≠p:=λb u y z=>by subst z;rw[hp] at y;cases y
 refine⟨S.l1,S.l2,S'.lh,λa z=>?_,S.inj,λi n q' z=>?_,λi s q=>(S.sl i s q).mono ⟨g.le,λa o p q _=>⟨⟨λz=>?_,p.2⟩,g a o q⟩⟩ λj o _ q _=>g j o q,S'.bs⟩
 .rcases z with z |rfl
  .exact S'.xl a z
  .exact⟨o,q⟩
 .rcases z with z |rfl
  .exact S.nx i n q' z
  .obtain⟨_,_,_,_,_,_,_,y,_⟩:=S.own q';exact np _ _ y rfl
 .rcases z with z |z
  .exact p.1 z
  .exact np _ _ q z
def Sat.weak(S:Sat K mg Y N0 ns e σ H)(hx:∀n,X n->Y n):Sat K mg X N0 ns e σ H:=
 ⟨S.l1,S.l2,S.lh,λn z=>S.xl n (hx n z),S.inj,λi n q z=>S.nx i n q (hx n z),λi s q=>(S.sl i s q).mono (.of λn p=>⟨λz=>p.1 (hx n z),p.2⟩) λ_ _ _ q _=>q,S.bs⟩
end
section
variable{K:W.Frag}{mg:Pa}{X N0:Addr->Prop}{ns ns0:Ns}{e e0:E3}{σ:St}{H Hs:Hp}
def bC{α:Type}{l:List α}{i j:Nat}{a b:α}(hi:i<l.length)(q:(l.set i a)[j]?=some b):(j=i/\b=a)\/(j≠i/\l[j]?=some b):=by
 rw[List.getElem?_set] at q;by_cases z:i=j
 .subst z;rw[if_pos rfl,if_pos hi] at q;exact .inl ⟨rfl,(LB q).symm⟩
 .rw[if_neg z] at q;exact .inr ⟨λy=>z y.symm,q⟩
def cU{α:Type}{l:List α}{i:Nat}{a:α}(hi:i<l.length):(l.set i a)[i]?=some a:=by rw[List.getElem?_set,if_pos rfl,if_pos hi]
def cz{α:Type}{l:List α}{i j:Nat}{a:α}(hi:j≠i):(l.set i a)[j]?=l[j]?:=by rw[Oi (λy=>hi y.symm)]
def eX{n:Addr}(p:Oc X ns n):Oc X (ns.set i none) n:=⟨p.1,λz=>by
 rcases List.mem_or_eq_of_mem_set z with z |z
 .exact p.2 z
 .cases z⟩
def Sat.putN(S:Sat K mg X N0 ns e σ H)(hi:i<e.length)(q:SlR K mg (Oc X (ns.set i none)) N0 (some none) (some d) H s):Sat K mg X N0 (ns.set i none) (e.set i s) (σ.set i d) H:=by
 have hn:i<ns.length:=by rw[S.l2];exact hi
 have ha:i<σ.length:=by rw[S.l1];exact hi
 refine⟨by rw[L9,L9];exact S.l1,by rw[L9,L9];exact S.l2,S.lh,S.xl,λj k n q1 q2=>?_,λj n q1=>?_,λj s' q1=>?_,S.bs⟩
 .rcases bC hn q1 with ⟨_,z⟩ |⟨_,z⟩
  .cases z
  rcases bC hn q2 with ⟨_,y⟩ |⟨_,y⟩
  .cases y
  exact S.inj j k n z y
 .rcases bC hn q1 with ⟨_,z⟩ |⟨_,z⟩
  .cases z
  exact S.nx j n z
 .rcases bC hi q1 with ⟨rfl,rfl⟩ |⟨z,q2⟩
  .rw[cU hn,cU ha];exact q
  .rw[cz z,cz z];exact (S.sl j s' q2).mono (.of λn p=>eX p) λ_ _ _ q _=>q
def Sat.putN'(S:Sat K mg X N0 ns e σ H)(hi:i<e.length)(q:SlR K mg (Oc X (ns.set i none)) N0 (some none) (σ[i]?) H s):Sat K mg X N0 (ns.set i none) (e.set i s) σ H:=by
 have ha:i<σ.length:=by rw[S.l1];exact hi
 have:=S.putN hi (s:=s) (d:=σ[i]) (by rw[x_ ha] at q;exact q)
 rw[List.set_getElem_self] at this;exact this
def Sat.putO(S:Sat K mg (Xn X n) N0 ns e σ H)(hx:¬ X n)(hi:i<e.length)(hn0:N0 n)(eo:H n=some o)(hf:NotFz o)(r:Rc K mg (Oc (Xn X n) ns) H o v):Sat K mg X N0 (ns.set i (some n)) (e.set i (.ow v)) (σ.set i (some (.ref n))) H:=by
 have hn:i<ns.length:=by rw[S.l2];exact hi
 have ha:i<σ.length:=by rw[S.l1];exact hi
 have nn:∀j:Nat,ns[j]?≠some (some n):=λj q=>S.nx j n q (.inr rfl);have mv:Mov (Oc (Xn X n) ns) (Oc X (ns.set i (some n))) H H:=.of λm p=>⟨λz=>p.1 (.inl z),λz=>by
  rcases List.mem_or_eq_of_mem_set z with z |z
  .exact p.2 z
  .cases z;exact p.1 (.inr rfl)⟩
 refine⟨by rw[L9,L9];exact S.l1,by rw[L9,L9];exact S.l2,S.lh,λm z=>S.xl m (.inl z),λj k m q1 q2=>?_,λj m q1 z=>?_,λj s' q1=>?_,S.bs⟩
 .rcases bC hn q1 with ⟨z1,z⟩ |⟨z1,z⟩ <;> rcases bC hn q2 with ⟨y1,y⟩ |⟨y1,y⟩
  .rw[z1,y1]
  .cases z;exact absurd y (nn k)
  .cases y;exact absurd z (nn j)
  .exact S.inj j k m z y
 .rcases bC hn q1 with ⟨_,y⟩ |⟨_,y⟩
  .cases y;exact hx z
  .exact S.nx j m y (.inl z)
 .rcases bC hi q1 with ⟨rfl,rfl⟩ |⟨z,q2⟩
  .rw[cU hn,cU ha];exact⟨n,o,rfl,rfl,hn0,eo,hf,r.mono mv⟩
  .rw[cz z,cz z];exact (S.sl j s' q2).mono mv λ_ _ _ q _=>q
noncomputable def Sl.pl:Sl->Bool
 |.no=>true
 |.sh _=>true
 |.ow _=>true
 |_=>false
def Stp.put(A:Stp ns0 e0 Hs ns e H)(hi:i<e.length)(hx:∀n,x=some n->Hs n=none)(q0:e[i]?=some s0)(p0:s0.pl=true)(p:s.pl=true)(l2:ns.length=e.length):Stp ns0 e0 Hs (ns.set i x) (e.set i s) H:=by
 have hn:i<ns.length:=by rw[l2];exact hi
 refine⟨A.le,A.dom,A.keep,λj n q=>?_,λj s' q hl=>?_,λj s' q hl=>?_,λj v q=>?_,λj v q=>?_⟩
 .rcases bC hn q with ⟨_,z⟩ |⟨_,z⟩
  .exact .inr (hx n z.symm)
  .exact A.nw j n z
 .obtain⟨q1,q2⟩:=A.lk j s' q hl;have z:j≠i:=λz=>by subst z;rw[q0] at q1;cases q1;cases s0 <;> first |cases p0;done |cases hl;done
  rw[cz z,cz z];exact⟨q1,q2⟩
 .rcases bC hi q with ⟨_,z⟩ |⟨z,q1⟩
  .subst z;cases s' <;> first |cases p;done |cases hl;done
  .rw[cz z];exact A.lk' j s' q1 hl
 .rcases bC hi q with ⟨_,z⟩ |⟨z,q1⟩
  .subst z;cases p
  .rw[cz z];exact A.mu j v q1
 .obtain⟨u,q1,q2⟩:=A.mu' j v q;have z:j≠i:=λz=>by subst z;rw[q0] at q1;cases q1;cases p0
  exact⟨u,by rw[cz z];exact q1,by rw[cz z];exact q2⟩
end
inductive Tm where
 |val (v:Val) |new (v:Val) |bor (i:Nat)
inductive R3(α:Type) where
 |ok (a:α) (e:E3) |exc (c:Str) (e:E3) |stuck
noncomputable def R3.bind {α β:Type} (r:R3 α) (f:α->E3->R3 β):R3 β:=match r with
 |.ok a e=>f a e
 |.exc c e=>.exc c e
 |.stuck=>.stuck
abbrev ME3:=E3->R3 Tm
abbrev MT3:=E3->R3 Bool
abbrev MA3:=E3->R3 (List Tm)
section
variable(K:W.Frag)(mg:Pa)
def PG3{α:Type}(X N0:Addr->Prop)(ns:Ns)(e:E3)(σ:St)(H:Hp)(E:XK)(k:α->E3->Ns->Hp->Prop):R3 α->Prop
 |.ok t e'=>∀H' ns',Stp ns e H ns' e' H'->Sat K mg X N0 ns' e' σ H'->k t e' ns' H'
 |.exc c e'=>∀H' ns' C,Stp ns e H ns' e' H'->Sat K mg X N0 ns' e' σ H'->mg c=some (.ref C)->E (.ref C) none H'
 |.stuck=>False
def relE(X N0 L:Addr->Prop)(σ:St)(ns:Ns)(e:E3)(H:Hp)(d:V):Tm->Prop
 |.val v=>Rd K mg (Oc X ns) H d v
 |.new v=>∃n o,d=.ref n/\L n/\¬ X n/\H n=some o/\NotFz o/\Sat K mg (Xn X n) N0 ns e σ H/\Rc K mg (Oc (Xn X n) ns) H o v
 |.bor i=>σ[i]?=some (some d)
inductive TsR(X:Addr->Prop)(ns:Ns)(σ:St)(H:Hp):List V->List Tm->Prop where
 |nil:TsR X ns σ H [] []
 |val {d:V}{v:Val}{ds:List V}{ts:List Tm} (r:Rd K mg (Oc X ns) H d v) (rr:TsR X ns σ H ds ts):TsR X ns σ H (d::ds) (.val v::ts)
 |bor {d:V}{i:Nat}{ds:List V}{ts:List Tm} (q:σ[i]?=some (some d)) (rr:TsR X ns σ H ds ts):TsR X ns σ H (d::ds) (.bor i::ts)
abbrev KE(X N0 L:Addr->Prop)(σ:St)(Q:VK):Tm->E3->Ns->Hp->Prop:=λt e' ns' H'=>∀v,relE K mg X N0 L σ ns' e' H' v t->Q v H'
abbrev KA(X:Addr->Prop)(σ:St)(Q:List V->Hp->Prop):List Tm->E3->Ns->Hp->Prop:=λts _ ns' H'=>∀vs,TsR K mg X ns' σ H' vs ts->Q vs H'
abbrev KT(Q:Bool->Hp->Prop):Bool->E3->Ns->Hp->Prop:=λb _ _ H'=>Q b H'
def rdE(ES:St->XK)(G:ME3):TE:=λσ H Q=>∃X N0 L ns e,Sat K mg X N0 ns e σ H/\(∀a,H a=none->L a)/\PG3 K mg X N0 ns e σ H (ES σ) (KE K mg X N0 L σ Q) (G e)
def rdT(ES:St->XK)(G:MT3):TT:=λσ H Q=>∃X N0 ns e,Sat K mg X N0 ns e σ H/\PG3 K mg X N0 ns e σ H (ES σ) (KT Q) (G e)
def rdA(ES:St->XK)(G:MA3):TA:=λσ H Q=>∃X N0 ns e,Sat K mg X N0 ns e σ H/\PG3 K mg X N0 ns e σ H (ES σ) (KA K mg X σ Q) (G e)
end
section
variable{K:W.Frag}{mg:Pa}{ES:St->XK}{σ:St}{H:Hp}{Z:Prop}
def rdE.el{G:ME3}(h:rdE K mg ES G σ H Q)(k:∀X N0 L ns e,Sat K mg X N0 ns e σ H->(∀a,H a=none->L a)->PG3 K mg X N0 ns e σ H (ES σ) (KE K mg X N0 L σ Q) (G e)->Z):Z:=by obtain⟨X,N0,L,ns,e,S,hl,p⟩:=h;exact k X N0 L ns e S hl p
def rdT.el{G:MT3}(h:rdT K mg ES G σ H Q)(k:∀X N0 ns e,Sat K mg X N0 ns e σ H->PG3 K mg X N0 ns e σ H (ES σ) (KT Q) (G e)->Z):Z:=by obtain⟨X,N0,ns,e,S,p⟩:=h;exact k X N0 ns e S p
def rdA.el{G:MA3}(h:rdA K mg ES G σ H Q)(k:∀X N0 ns e,Sat K mg X N0 ns e σ H->PG3 K mg X N0 ns e σ H (ES σ) (KA K mg X σ Q) (G e)->Z):Z:=by obtain⟨X,N0,ns,e,S,p⟩:=h;exact k X N0 ns e S p
end
noncomputable def rs (e:E3):Tm->Option Val
 |.val v=>some v
 |.new v=>some v
 |.bor i=>(e[i]?).bind Sl.val
noncomputable def Tm.drop:Tm->Tm
 |.new v=>.val v
 |t=>t
noncomputable def rss (e:E3):List Tm->Option (List Val)
 | []=>some []
 |t::ts=>match rs e t,rss e ts with
  |some v,some vs=>some (v::vs)
  |_,_=>none
section
variable{K:W.Frag}{mg:Pa}{X N0 L:Addr->Prop}{ns ns':Ns}{e e':E3}{σ:St}{H H':Hp}{E:XK}
def PG3.ret{α:Type}{k:α->E3->Ns->Hp->Prop}{t:α}(p:PG3 K mg X N0 ns e σ H E k (.ok t e))(S:Sat K mg X N0 ns e σ H):k t e ns H:=p H ns .refl S
def PG3.after{α:Type}{r:R3 α}{k:α->E3->Ns->Hp->Prop}(p:PG3 K mg X N0 ns e σ H E k r)(S:Sat K mg X N0 ns e σ H)(a:Stp ns e H ns' e' H'):PG3 K mg X N0 ns' e' σ H' E k r:=by
 cases r with
 |stuck=>exact p
 |exc c e2=>exact λH2 h_ C b S2 m=>p H2 h_ C (a.trans S b) S2 m
 |ok t2 e2=>exact λH2 h_ b S2=>p H2 h_ (a.trans S b) S2
def PG3.imp{α β:Type}{r:R3 α}{f:α->E3->R3 β}{k:β->E3->Ns->Hp->Prop}{k':α->E3->Ns->Hp->Prop}(p:PG3 K mg X N0 ns e σ H E k (r.bind f))(S:Sat K mg X N0 ns e σ H)
 (i:∀t e1 ns1 H1,Stp ns e H ns1 e1 H1->Sat K mg X N0 ns1 e1 σ H1->PG3 K mg X N0 ns1 e1 σ H1 E k (f t e1)->k' t e1 ns1 H1):PG3 K mg X N0 ns e σ H E k' r:=by
 cases r with
 |stuck=>exact p
 |exc c e'=>exact p
 |ok t e1=>intro H1 ns1 a S1;exact i t e1 ns1 H1 a S1 (PG3.after (show PG3 K mg X N0 ns e σ H E k (f t e1) from p) S a)
def TsR.stp(a:Stp ns e H ns' e' H')(r:TsR K mg X ns σ H ds ts):TsR K mg X ns' σ H' ds ts:=by
 induction r with
 |nil=>exact .nil
 |val r _ ih=>exact .val (r.mono a.mov) ih
 |bor q _ ih=>exact .bor q ih
def Sat.bor(S:Sat K mg X N0 ns e σ H){i:Nat}{d:V}{v:Val}(q:σ[i]?=some (some d))(r:(e[i]?).bind Sl.val=some v):ShR K mg (Oc X ns) H d v:=by
 cases z:e[i]? with
 |none=>rw[z] at r;cases r
 |
  some s=>
  rw[z] at r;have y:=S.sl i s z;rw[q] at y;have r':s.val=some v:=r;cases s with
  |no=>cases r'
  |sh u=>cases r';obtain⟨_,x,e1,e2⟩:=y;cases e1;exact .inl e2
  |ow u=>cases r';obtain⟨m,o,_,e2,_,e3,_,e4⟩:=y;cases e2;exact .inr ⟨m,o,rfl,e3,e4⟩
  |lo u=>cases r';obtain⟨m,o,_,e2,_,e3,_,e4⟩:=y;cases e2;exact .inr ⟨m,o,rfl,e3,e4⟩
  |mu u=>cases r';obtain⟨m,o,_,e2,e3,_,e4⟩:=y;cases e2;exact .inr ⟨m,o,rfl,e3,e4⟩
  |lm u=>cases r';obtain⟨m,o,_,e2,e3,_,e4⟩:=y;cases e2;exact .inr ⟨m,o,rfl,e3,e4⟩
def relE.new(r:relE K mg X N0 L σ ns e H d (.new v)):Rd K mg (Oc X ns) H d v:=by obtain⟨n,o,rfl,_,hx,eo,_,S,rc⟩:=r;exact .cell ⟨hx,λz=>by obtain⟨i,z⟩:=aN.mp z;exact S.nx i n z (.inr rfl)⟩ eo (rc.mono (.of λm p=>⟨λz=>p.1 (.inl z),p.2⟩))
def relE.sh{d:V}{t:Tm}{v:Val}(S:Sat K mg X N0 ns e σ H)(r:relE K mg X N0 L σ ns e H d t)(q:rs e t=some v):ShR K mg (Oc X ns) H d v:=by
 cases t with
 |val u=>cases q;exact .inl r
 |new u=>cases q;exact .inl r.new
 |bor i=>exact S.bor r q
def relE.drop(r:relE K mg X N0 L σ ns e H d t)(a:Stp ns e H ns' e' H'):relE K mg X N0 L σ ns' e' H' d t.drop:=by
 cases t with
 |val u=>exact Rd.mono a.mov r
 |new u=>exact Rd.mono a.mov r.new
 |bor i=>exact r
def TsR.sh{ds:List V}{ts:List Tm}{vs:List Val}(S:Sat K mg X N0 ns e σ H)(r:TsR K mg X ns σ H ds ts)(q:rss e ts=some vs):ShRs K mg (Oc X ns) H ds vs:=by
 induction r generalizing vs with
 |nil=>cases q;exact .nil
 |
  val r _ ih=>
  unfold rss at q;split at q
  .rename_i e1 e2;cases q;cases e1;exact .cons (.inl r) (ih e2)
  .cases q
 |
  bor q' _ ih=>
  unfold rss at q;split at q
  .rename_i e1 e2;cases q;exact .cons (S.bor q' e1) (ih e2)
  .cases q
end
inductive Bv where
 |val (v:Val) |new (v:Val) |stuck
noncomputable def Bv.at (b:Bv) (e:E3):R3 Tm:=match b with
 |.val v=>.ok (.val v) e
 |.new v=>.ok (.new v) e
 |.stuck=>.stuck
def BvP(K:W.Frag)(mg:Pa)(P:Addr->Prop)(H:Hp)(Q:VK):Bv->Prop
 |.val v=>∀H1 x,Gr H H1->Rd K mg P H1 x v->Q x H1
 |.new v=>∀H1 a o,Gr H H1->H1 a=none->NotFz o->Rc K mg P H1 o v->Q (.ref a) (upd H1 a o)
 |.stuck=>False
section
variable{K:W.Frag}{mg:Pa}{X N0 L:Addr->Prop}{ns:Ns}{e:E3}{σ:St}{H:Hp}{E:XK}{Q:VK}
def PG3.bv(p:PG3 K mg X N0 ns e σ H E (KE K mg X N0 L σ Q) (b.at e))(S:Sat K mg X N0 ns e σ H)(hl:∀a,H a=none->L a):BvP K mg (Oc X ns) H Q b:=by
 cases b with
 |stuck=>exact p
 |val v=>exact λH1 x g r=>p H1 ns (.gr g) (S.gr g) x r
 |
  new v=>
  intro H1 a o g ha hf r;have g2:Gr H (upd H1 a o):=λc u q=>Gr.upd ha c u (g c u q);have S':=S.grow g2 (g.none ha) aR;refine p _ ns (.gr g2) (S.gr g2) _ ⟨a,o,rfl,hl a (g.none ha),λz=>?_,aR,hf,S',r.mono ⟨(Gr.upd ha).le,λc u q z _=>⟨⟨λy=>?_,q.2⟩,Gr.upd ha c u z⟩⟩⟩
  .obtain⟨u,q⟩:=S.xl a z;rw[g.none ha] at q;cases q
  .rcases y with y |rfl
   .exact q.1 y
   .rw[ha] at z;cases z
end
section
variable(K:W.Frag)(mg:Pa)
def UnD(r:V->Hp->VK->Prop)(g:Val->Bv):Prop:=∀P H x v Q,ShR K mg P H x v->BvP K mg P H Q (g v)->r x H Q
def OpD(r:R2)(g:Val->Val->Bv):Prop:=∀P H x y v u Q,ShR K mg P H x v->ShR K mg P H y u->BvP K mg P H Q (g v u)->r x y H Q
def bO(r:List V->Hp->VK->Prop)(g:List Val->Bv):Prop:=∀P H xs vs Q,ShRs K mg P H xs vs->BvP K mg P H Q (g vs)->r xs H Q
end
noncomputable def dU (i:Nat) (e:E3):R3 Tm:=match e[i]? with
 |some (.sh v)=>.ok (.val v) e
 |some .no=>.stuck
 |some _=>.ok (.bor i) e
 |none=>.stuck
noncomputable def vC (v:Val) (e:E3):R3 Tm:=.ok (.val v) e
noncomputable def vUn (g:Val->Bv) (F:ME3) (e:E3):R3 Tm:=(F e).bind λt e1=>match rs e1 t with
 |some v=>(g v).at e1
 |none=>.stuck
noncomputable def vOp (g:Val->Val->Bv) (F G:ME3) (e:E3):R3 Tm:=(F e).bind λt1 e1=>(G e1).bind λt2 e2=>match rs e2 t1.drop,rs e2 t2 with
 |some v1,some v2=>(g v1 v2).at e2
 |_,_=>.stuck
noncomputable def m5 (e:E3):R3 (List Tm):=.ok [] e
noncomputable def lG (F:ME3) (A:MA3) (e:E3):R3 (List Tm):=(F e).bind λt e1=>(A e1).bind λts e2=>.ok (t.drop::ts) e2
noncomputable def vFn (g:List Val->Bv) (A:MA3) (e:E3):R3 Tm:=(A e).bind λts e1=>match rss e1 ts with
 |some vs=>(g vs).at e1
 |none=>.stuck
noncomputable def cV (e:E3):Tm->Option (E3×Val)
 |.val v=>some (e,v)
 |.new v=>some (e,v)
 |.bor i=>match e[i]? with
  |some (.sh v)=>some (e,v)
  |some (.ow v)=>some (e.set i (.sh v),v)
  |_=>none
noncomputable def dem (e:E3):List Tm->Option (E3×List Val)
 | []=>some (e,[])
 |t::ts=>match cV e t with
  |some (e1,v)=>match dem e1 ts with
   |some (e2,vs)=>some (e2,v::vs)
   |none=>none
  |none=>none
noncomputable def vTup (A:MA3) (e:E3):R3 Tm:=(A e).bind λts e1=>match dem e1 ts with
 |some (e2,vs)=>if vs.length<=16777216 then .ok (.val (.tup vs)) e2 else .stuck
 |none=>.stuck
noncomputable def vLst (A:MA3) (e:E3):R3 Tm:=(A e).bind λts e1=>match dem e1 ts with
 |some (e2,vs)=>if vs.length<=16777216 then .ok (.new (.lst vs)) e2 else .stuck
 |none=>.stuck
noncomputable def bOf:Option Val->Option Bool
 |some (.bl b)=>some b
 |_=>none
noncomputable def vAnd (F G:ME3) (e:E3):R3 Tm:=(F e).bind λt e1=>match bOf (rs e1 t) with
 |some true=>G e1
 |some false=>.ok (.val (.bl false)) e1
 |none=>.stuck
noncomputable def vNot (F:ME3) (e:E3):R3 Tm:=(F e).bind λt e1=>match bOf (rs e1 t) with
 |some b=>.ok (.val (.bl (!b))) e1
 |none=>.stuck
noncomputable def cOf (F:ME3) (e:E3):R3 Bool:=(F e).bind λt e1=>match bOf (rs e1 t) with
 |some b=>.ok b e1
 |none=>.stuck
noncomputable def cAn (c d:MT3) (e:E3):R3 Bool:=(c e).bind λb e1=>if b=true then d e1 else .ok false e1
noncomputable def cO (c d:MT3) (e:E3):R3 Bool:=(c e).bind λb e1=>if b=true then .ok true e1 else d e1
noncomputable def cNo (c:MT3) (e:E3):R3 Bool:=(c e).bind λb e1=>.ok (!b) e1
noncomputable def cY (e:E3):R3 Bool:=.ok true e
noncomputable def mS:Val->Option Bool
 |.non=>some false
 |.bl b=>some b
 |.int i=>some (i != 0)
 |.tup xs=>some (!xs.isEmpty)
 |.lst xs=>some (!xs.isEmpty)
 |.kl xs=>some (!xs.isEmpty)
 |_=>none
noncomputable def cTr (F:ME3) (e:E3):R3 Bool:=(F e).bind λt e1=>match (rs e1 t).bind mS with
 |some b=>.ok b e1
 |none=>.stuck
section
variable{K:W.Frag}{mg:Pa}{X N0 L:Addr->Prop}{ns:Ns}{e:E3}{σ:St}{H:Hp}
def Gj(S:Sat K mg X N0 ns e σ H)(q:e[i]?=some (.ow v)):∃n,σ[i]?=some (some (.ref n))/\Sat K mg X N0 (ns.set i none) (e.set i (.sh v)) σ H/\Stp ns e H (ns.set i none) (e.set i (.sh v)) H/\Rd K mg (Oc X (ns.set i none)) H (.ref n) v:=by
 obtain⟨n,o,q1,q2,_,q3,_,q4⟩:=S.sl i _ q;have hi:=(D_.mp q).1;have hn:i<ns.length:=by rw[S.l2];exact hi
 have r:Rd K mg (Oc X (ns.set i none)) H (.ref n) v:=.cell ⟨S.nx i n q1,λz=>by
  obtain⟨j,z⟩:=aN.mp z;rcases bC hn z with ⟨_,y⟩ |⟨y,z⟩
  .cases y
  .exact y (S.inj j i n z q1)⟩ q3 (q4.mono (.of λm p=>eX p))
 exact⟨n,q2,S.putN' hi ⟨rfl,_,q2,r⟩,Stp.refl.put (x:=none) hi (λ_ z=>by cases z) q rfl rfl S.l2,r⟩
def fk{d:V}{t:Tm}{v:Val}{e':E3}(S:Sat K mg X N0 ns e σ H)(r:relE K mg X N0 L σ ns e H d t)(q:cV e t=some (e',v)):∃ns',Sat K mg X N0 ns' e' σ H/\Stp ns e H ns' e' H/\Rd K mg (Oc X ns') H d v:=by
 cases t with
 |val u=>cases q;exact⟨ns,S,.refl,r⟩
 |new u=>cases q;exact⟨ns,S,.refl,r.new⟩
 |
  bor i=>
  unfold cV at q;dsimp only at q;have r':σ[i]?=some (some d):=r;split at q
  .rename_i u q1;cases q;obtain⟨_,x,e1,e2⟩:=S.sl i _ q1;rw[r'] at e1;cases e1;exact⟨ns,S,.refl,e2⟩
  .rename_i u q1;cases q;obtain⟨n,e1,S',a',e2⟩:=Gj S q1;rw[r'] at e1;cases e1;exact⟨_,S',a',e2⟩
  .cases q
def iK:∀{ds:List V}{vs:List Val}{ns:Ns}{e e':E3},Sat K mg X N0 ns e σ H->TsR K mg X ns σ H ds ts->dem e ts=some (e',vs)->∃ns',Sat K mg X N0 ns' e' σ H/\Stp ns e H ns' e' H/\Rds K mg (Oc X ns') H ds vs:=by
 induction ts with
 |nil=>intro ds vs ns e e' S r q;cases r;cases q;exact⟨ns,S,.refl,.nil⟩
 |
  cons t ts ih=>
  intro ds vs ns e e' S r q;unfold dem at q;split at q
  .rename_i e1 v q1;split at q
   .rename_i e2 vs' q2;cases q;have hr:∃d ds',ds=d::ds'/\relE K mg X N0 X σ ns e H d t/\TsR K mg X ns σ H ds' ts:=by
     cases r with
     |val r rr=>exact⟨_,_,rfl,r,rr⟩
     |bor r rr=>exact⟨_,_,rfl,r,rr⟩
    obtain⟨d,ds',rfl,hr⟩:=hr;obtain⟨ns1,S1,a1,r1⟩:=fk S hr.1 q1;obtain⟨h_,S2,a2,r2⟩:=ih S1 (hr.2.stp a1) q2;exact⟨h_,S2,a1.trans S a2,.cons (r1.mono a2.mov) r2⟩
   .cases q
  .cases q
end
structure PEx where
 t:Nat
 G:ME3
structure PTs where
 t:Nat
 G:MT3
structure PAs where
 t:Nat
 G:MA3
structure PO2 where
 G:Val->Val->Bv
structure PU1 where
 G:Val->Bv
structure PBf where
 G:List Val->Bv
noncomputable def af (i:Nat):PEx:=⟨1,dU i⟩
noncomputable def ah (i:Int):PEx:=⟨2,vC (.int i)⟩
noncomputable def pBl (i:Bool):PEx:=⟨3,vC (.bl i)⟩
noncomputable def aZ (i:Str):PEx:=⟨4,vC (.str i)⟩
noncomputable def BR:PEx:=⟨5,vC .non⟩
noncomputable def pTy (i:String):PEx:=⟨6,vC (.ty i)⟩
noncomputable def vf (i:Str):PEx:=⟨7,vC (.glb i)⟩
noncomputable def mq (v:Val):PEx:=⟨8,vC v⟩
noncomputable def pUn (o:PU1) (a:PEx):PEx:=⟨9,vUn o.G a.G⟩
noncomputable def pOp (o:PO2) (a b:PEx):PEx:=⟨10,vOp o.G a.G b.G⟩
noncomputable def ag:PAs:=⟨1,m5⟩
noncomputable def aa (a:PEx) (r:PAs):PAs:=⟨2,lG a.G r.G⟩
noncomputable def pFn (o:PBf) (a:PAs):PEx:=⟨11,vFn o.G a.G⟩
noncomputable def ba (a:PAs):PEx:=⟨12,vTup a.G⟩
noncomputable def cm (a:PAs):PEx:=⟨13,vLst a.G⟩
noncomputable def i7 (a b:PEx):PEx:=⟨14,vAnd a.G b.G⟩
noncomputable def B5 (a:PEx):PEx:=⟨16,vNot a.G⟩
noncomputable def qOf (a:PEx):PTs:=⟨1,cOf a.G⟩
noncomputable def qTr (a:PEx):PTs:=⟨2,cTr a.G⟩
noncomputable def qAn (a b:PTs):PTs:=⟨3,cAn a.G b.G⟩
noncomputable def qO (a b:PTs):PTs:=⟨4,cO a.G b.G⟩
noncomputable def qNo (a:PTs):PTs:=⟨5,cNo a.G⟩
noncomputable def qY:PTs:=⟨6,cY⟩
section
variable(K:W.Frag)(mg:Pa)(X:Cx)(ES:St->XK)
structure DE(e:Expr)(F:PEx):Prop where
 ok:PE X e (rdE K mg ES F.G)
structure DT(e:Expr)(F:PTs):Prop where
 ok:PT X e (rdT K mg ES F.G)
structure DW(e:Expr)(F:PTs):Prop where
 ok:PW X e (rdT K mg ES F.G)
structure DA(es:List Expr)(F:PAs):Prop where
 ok:PA X es (rdA K mg ES F.G)
end
structure GC(K:W.Frag)(mg:Pa)(x:Str)(d:Val):Prop where
 ex:∃u v,mg x=some u/\RelV v u/\∀P H,Rd K mg P H v d
section
variable{K:W.Frag}{mg:Pa}{X:Cx}{ES:St->XK}{e a b:Expr}{es:List Expr}{F G p q:PEx}{A:PAs}{t u:PTs}{pos:Pos}{k:PO2}
def yK(i:Nat){x:Str}(hN:X.N[i]?=some x:=by rfl)(hv:Vis X.env.scope x:=by first |exact Or.inl rfl |exact Or.inr (Or.inl rfl) |exact Or.inr (Or.inr rfl))(hd:(x==("__debug__" : Str))=false:=by decide)(o_:(x==("__classdict__" : Str))=false:=by decide):DE K mg X ES (.Name x pos) (af i):=
 ⟨PE.imp (FG hN hv hd o_) λσ H Q zz=>zz.el λY N0 L ns e S hl p=>by
  have p:PG3 K mg Y N0 ns e σ H (ES σ) (KE K mg Y N0 L σ Q) (dU i e):=p;unfold dU at p;split at p
  .rename_i v q;obtain⟨_,x,e1,r⟩:=S.sl i _ q;exact⟨x,e1,p.ret S x r⟩
  .exact p.elim
  .rename_i s h1 h2 q;have y:=S.sl i s q;have:∃x,σ[i]?=some (some x):=by
    cases s with
    |no=>exact absurd rfl h2
    |sh v=>exact absurd rfl (h1 v)
    |ow v=>obtain⟨m,_,_,y,_⟩:=y;exact⟨_,y⟩
    |lo v=>obtain⟨m,_,_,y,_⟩:=y;exact⟨_,y⟩
    |mu v=>obtain⟨m,_,_,y,_⟩:=y;exact⟨_,y⟩
    |lm v=>obtain⟨m,_,_,y,_⟩:=y;exact⟨_,y⟩
   obtain⟨x,e1⟩:=this;exact⟨x,e1,p.ret S x e1⟩
  .exact p.elim⟩
def ky{v:V}{d:Val}{tg:Nat}(hp:PE X e (tC v))(r:∀P H,Rd K mg P H v d):DE K mg X ES e ⟨tg,vC d⟩:=⟨PE.imp hp λσ H Q zz=>zz.el λY N0 L ns e S hl p=>PG3.ret p S v (r _ _)⟩
def F8:DE K mg X ES (.Constant (.int i) j pos) (ah i):=ky HU λ_ _=>.int i
def KS:DE K mg X ES (.Constant (.bool i) j pos) (pBl i):=ky Ll λ_ _=>.bl i
def IQ:DE K mg X ES (.Constant .none j pos) BR:=ky HH λ_ _=>.non
def Iw:DE K mg X ES (.Constant (.str x) j pos) (aZ x):=ky Im λ_ _=>.str x
def HA{x:Str}(hg:Gl X x)(ha:∃a,mg x=some (.ref a))(hm:X.mg=mg:=by rfl)(hd:(x==("__debug__" : Str))=false:=by decide):DE K mg X ES (.Name x pos) (vf x):=by subst hm;obtain⟨a,ha⟩:=ha;exact ky (tN hg ha (v:=.ref a) rfl hd) λ_ _=>.glb ha
def Jr{x:Str}{d:Val}(hg:Gl X x)(ha:GC K mg x d)(hm:X.mg=mg:=by rfl)(hd:(x==("__debug__" : Str))=false:=by decide):DE K mg X ES (.Name x pos) (mq d):=by subst hm;obtain⟨u,v,h1,h2,h3⟩:=ha.ex;exact ky (tN hg h1 h2 hd) h3
def KJ{x:Str}{n:String}(hg:Gl X x)(hm:mg x=none)(hv:bootBuiltins x=some (.type n))(he:X.mg=mg:=by rfl)(hn:x ≠ "__name__":=by decide)(hd:(x==("__debug__" : Str))=false:=by decide):DE K mg X ES (.Name x pos) (pTy n):=by subst he;exact ky (Er hg hm hv (v:=.ty n) rfl hn hd) λ_ _=>.ty n
def o8(hd:OpD K mg r k.G)(σ:St)(H:Hp)(Q:VK):rdE K mg ES (pOp k F G).G σ H Q->tOp r (rdE K mg ES F.G) (rdE K mg ES G.G) σ H Q:=λzz=>zz.el λY N0 L ns e S hl p=>
 ⟨Y,
  N0,L,ns,e,S,hl,PG3.imp p S λt1 e1 ns1 H1 a1 S1 p1 x r1=>⟨Y,N0,L,ns1,e1,S1,λa z=>hl a (a1.dom a z),PG3.imp p1 S1 λt2 e2 h_ H2 a2 S2 p2 y r2=>by
  try dsimp only at p2
  split at p2
  .rename_i v u q1 q2;exact hd _ _ _ _ _ _ _ ((r1.drop a2).sh S2 q1) (r2.sh S2 q2) (p2.bv S2 λa z=>hl a (a1.dom a (a2.dom a z)))
  .exact p2.elim⟩⟩
def CN(ho:OpR X (binaryOp op) r)(hd:OpD K mg r k.G)(ha:DE K mg X ES a p)(hb:DE K mg X ES b q):DE K mg X ES (.BinOp a op b pos) (pOp k p q):=⟨PE.imp (JK ho ha.ok hb.ok) (o8 hd)⟩
def Lu(hr:IxR X r)(hd:OpD K mg r k.G)(ha:DE K mg X ES a p)(hb:DE K mg X ES b q)(hs:uh b:=by exact λ_ _=>rfl):DE K mg X ES (.Subscript a b pos) (pOp k p q):=⟨PE.imp (JW hr ha.ok hb.ok hs) (o8 hd)⟩
def HB(ho:OpR X (compareOp op) r)(hd:OpD K mg r k.G)(ha:DE K mg X ES a p)(hb:DE K mg X ES b q)(hm:behindInMarks op b=false:=by first |exact yw _ |with_unfolding_all rfl):DE K mg X ES (.Compare a [op] [b] pos) (pOp k p q):=⟨PE.imp (ET ho ha.ok hb.ok hm) (o8 hd)⟩
def mh{Y N0 L:Addr->Prop}{b:Bool}(S1:Sat K mg Y N0 ns1 e1 σ H1)(r1:relE K mg Y N0 L σ ns1 e1 H1 d1 t1)(q:bOf (rs e1 t1)=some b):d1=.bl b:=by
 unfold bOf at q;split at q
 .rename_i b' q';cases q;exact (r1.sh S1 q').bl
 .cases q
def tJ(σ:St)(H:Hp)(Q:Bool->Hp->Prop):rdT K mg ES (qOf F).G σ H Q->rdE K mg ES F.G σ H λx H'=>∃k,x=.bl k/\Q k H':=λzz=>zz.el λY N0 ns e S p=>
 ⟨Y,
  N0,λ_=>True,ns,e,S,λ_ _=>trivial,PG3.imp p S λt1 e1 ns1 H1 a1 S1 p1 x r1=>by
  try dsimp only at p1
  split at p1
  .rename_i b q;exact⟨b,mh S1 r1 q,p1.ret S1⟩
  .exact p1.elim⟩
def Gk(ho:OpR X (compareOp op) r)(hd:OpD K mg r k.G)(ha:DE K mg X ES a p)(hb:DE K mg X ES b q)(hm:behindInMarks op b=false:=by first |exact yw _ |with_unfolding_all rfl):DT K mg X ES (.Compare a [op] [b] pos) (qOf (pOp k p q)):=
 ⟨PT.imp (Ex ho ha.ok hb.ok hm) λσ H Q z=>o8 hd σ H _ (tJ σ H Q z)⟩
def lZ(ha:DE K mg X ES a p)(he:∀e_,isTrue a X.env e_=(do let v <- e_;standAt a.pos;holding [v] (truthy v)):=by intro _;rfl):DT K mg X ES a (qOf p):=⟨PT.imp (Iq ha.ok he) λσ H Q z=>tJ σ H Q z⟩
def rM(ha:DT K mg X ES a t):DT K mg X ES (.UnaryOp .Not a pos) (qNo t):=⟨PT.imp (IS ha.ok) λσ H Q zz=>zz.el λY N0 ns e S p=>⟨Y,N0,ns,e,S,PG3.imp p S λb e1 ns1 H1 a1 S1 p1=>p1.ret S1⟩⟩
def Ej(ha:DT K mg X ES a t):DW K mg X ES (.BoolOp .And [a] pos) t:=⟨EY ha.ok⟩
def HC(ha:DT K mg X ES a t):DW K mg X ES (.BoolOp .Or [a] pos) t:=⟨Hu ha.ok⟩
def HL(ha:DT K mg X ES a t)(hb:DW K mg X ES (.BoolOp .And (b::es) pos) u):DW K mg X ES (.BoolOp .And (a::b::es) pos) (qAn t u):=⟨PW.imp (GI ha.ok hb.ok) λσ H Q zz=>zz.el λY N0 ns e S p=>
 ⟨Y,N0,ns,e,S,PG3.imp p S λb e1 ns1 H1 a1 S1 p1=>by
  cases b with
  |true=>exact⟨Y,N0,ns1,e1,S1,p1⟩
  |false=>exact p1.ret S1⟩⟩
def Kv(ha:DT K mg X ES a t)(hb:DW K mg X ES (.BoolOp .Or (b::es) pos) u):DW K mg X ES (.BoolOp .Or (a::b::es) pos) (qO t u):=⟨PW.imp (J4 ha.ok hb.ok) λσ H Q zz=>zz.el λY N0 ns e S p=>
 ⟨Y,N0,ns,e,S,PG3.imp p S λb e1 ns1 H1 a1 S1 p1=>by
  cases b with
  |true=>exact p1.ret S1
  |false=>exact⟨Y,N0,ns1,e1,S1,p1⟩⟩⟩
def ZW.dt(h:DW K mg X ES a t):DT K mg X ES a t:=⟨h.ok.pt⟩
def zt_w{op}(h:DW K mg X ES (.BoolOp op es pos) t):DT K mg X ES (.BoolOp op es pos) t:=ZW.dt h
def Ge{op}(h:DE K mg X ES a p):DE K mg X ES (.BoolOp op [a] pos) p:=⟨E9 h.ok⟩
def GQ(ha:DE K mg X ES a p)(hb:DE K mg X ES (.BoolOp .And (b::es) pos) q):DE K mg X ES (.BoolOp .And (a::b::es) pos) (i7 p q):=⟨PE.imp (GK ha.ok hb.ok) λσ H Q zz=>zz.el λY N0 L ns e S hl p=>
 ⟨Y,N0,L,ns,e,S,hl,PG3.imp p S λt e1 ns1 H1 a1 S1 p1 x r1=>by
  try dsimp only at p1
  split at p1
  .rename_i z;exact⟨true,mh S1 r1 z,Y,N0,L,ns1,e1,S1,λa z=>hl a (a1.dom a z),p1⟩
  .rename_i z;exact⟨false,mh S1 r1 z,p1.ret S1 _ (.bl false)⟩
  .exact p1.elim⟩⟩
def HR(ha:DE K mg X ES a p):DE K mg X ES (.UnaryOp .Not a pos) (B5 p):=⟨PE.imp (Gd ha.ok) λσ H Q zz=>zz.el λY N0 L ns e S hl p=>
 ⟨Y,N0,L,ns,e,S,hl,PG3.imp p S λt e1 ns1 H1 a1 S1 p1 x r1=>by
  try dsimp only at p1
  split at p1
  .rename_i z;exact⟨_,mh S1 r1 z,p1.ret S1 _ (.bl _)⟩
  .exact p1.elim⟩⟩
def Lq{k:PU1}(ho:UnR X (unaryOp op) r)(hd:UnD K mg r k.G)(ha:DE K mg X ES a p):DE K mg X ES (.UnaryOp op a pos) (pUn k p):=⟨PE.imp (Kh ho ha.ok) λσ H Q zz=>zz.el λY N0 L ns e S hl p=>
 ⟨Y,N0,L,ns,e,S,hl,PG3.imp p S λt e1 ns1 H1 a1 S1 p1 x r1=>by
  try dsimp only at p1
  split at p1
  .rename_i v z;exact hd _ _ _ _ _ (r1.sh S1 z) (p1.bv S1 λa z=>hl a (a1.dom a z))
  .exact p1.elim⟩⟩
def yb:DA K mg X ES [] ag:=⟨PA.imp Gn λσ H Q zz=>zz.el λY N0 ns e S p=>PG3.ret p S _ .nil⟩
def bP(ha:DE K mg X ES e p)(hr:DA K mg X ES es A)(hs:starEach (e::es) X.env=(false,eval e X.env)::starEach es X.env:=by rfl):DA K mg X ES (e::es) (aa p A):=⟨PA.imp (Df ha.ok hr.ok hs) λσ H Q zz=>zz.el λY N0 ns e S p=>
 ⟨Y,N0,λ_=>True,ns,e,S,λ_ _=>trivial,PG3.imp p S λt e1 ns1 H1 a1 S1 p1 x r1=>⟨Y,N0,ns1,e1,S1,PG3.imp p1 S1 λts e2 h_ H2 a2 S2 p2 xs r2=>p2.ret S2 _ (by
  have r3:=r1.drop a2;generalize hg:t.drop=t' at *;cases t' with
  |val v=>exact .val r3 r2
  |new v=>cases t <;> cases hg
  |bor i=>exact .bor r3 r2)⟩⟩⟩
def Gg{x1}(h:DA K mg X ES es A):DE K mg X ES (.Tuple es x1 pos) (ba A):=⟨PE.imp (GX h.ok) λσ H Q zz=>zz.el λY N0 L ns e S hl p=>
 ⟨Y,
  N0,ns,e,S,PG3.imp p S λts e1 ns1 H1 a1 S1 p1 xs r1=>by
  try dsimp only at p1
  split at p1
  .rename_i e2 vs q;split at p1
   .rename_i hv;obtain⟨h_,S2,a2,r2⟩:=iK S1 r1 q;exact⟨by rw[r2.len];exact hv,λp hp=>p1 _ h_ (a2.trans S1 (.gr (Gr.upd hp))) (S2.gr (Gr.upd hp)) _ (.tup (SqT.of aR) (r2.mono (Gr.upd hp).mov))⟩
   .exact p1.elim
  .exact p1.elim⟩⟩
def FI(h:DA K mg X ES es A):DE K mg X ES (.List es pos) (cm A):=⟨PE.imp (Iv h.ok) λσ H Q zz=>zz.el λY N0 L ns e S hl p=>
 ⟨Y,
  N0,ns,e,S,PG3.imp p S λts e1 ns1 H1 a1 S1 p1 xs r1=>by
  try dsimp only at p1
  split at p1
  .rename_i e2 vs q;split at p1
   .rename_i hv;obtain⟨h_,S2,a2,r2⟩:=iK S1 r1 q;refine⟨by rw[r2.len];exact hv,λp hp=>PG3.bv (b:=.new (.lst vs)) (e:=e2) (X:=Y) (N0:=N0) (L:=L) (E:=ES σ) (λH' ns' a' S'=>p1 H' ns' (a2.trans S1 a') S') S2 (λa z=>hl a (a1.dom a z)) H1 p _ .refl hp trivial (.lst r2)⟩
   .exact p1.elim
  .exact p1.elim⟩⟩
def lU{g:PBf}(hd:bO K mg r g.G)(σ:St)(H:Hp)(Q:VK):rdE K mg ES (pFn g A).G σ H Q->tCB r (rdA K mg ES A.G) σ H Q:=λzz=>zz.el λY N0 L ns e S hl p=>
 ⟨Y,
  N0,ns,e,S,PG3.imp p S λts e1 ns1 H1 a1 S1 p1 xs r1=>by
  try dsimp only at p1
  split at p1
  .rename_i vs q;exact hd _ _ _ _ _ (r1.sh S1 q) (p1.bv S1 λa z=>hl a (a1.dom a z))
  .exact p1.elim⟩
def d9{id:String}{r:List V->Hp->VK->Prop}{k:PBf}{x:Str}{p0:Pos}(hc:CallR X (.builtin id) r)(hd:bO K mg r k.G)(hg:Gl X x)(hm:mg x=none)(hv:bootBuiltins x=some (.builtin id))(ha:DA K mg X ES (e::es) A)(hk:X.mg=mg:=by rfl)(hn:x ≠ "__name__":=by decide)(hdb:(x==("__debug__" : Str))=false:=by decide)
 (he:starEach (e::es) X.env=(false,eval e X.env)::starEach es X.env:=by rfl) (hpl:(backTo pos (starEach es X.env)).any (·.1)=false:=by rfl):DE K mg X ES (.Call (.Name x p0) (e::es) [] pos) (pFn k A):=by
 subst hk;exact⟨PE.imp (BK hc hg hm hv ha.ok hn hdb he hpl) (lU hd)⟩
def xb{id:String}{r:List V->Hp->VK->Prop}{k:PBf}{x:Str}{p0:Pos}(hc:CallR X (.type id) r)(hd:bO K mg r k.G)(hg:Gl X x)(hm:mg x=none)(hv:bootBuiltins x=some (.type id))(ha:DA K mg X ES (e::es) A)(hk:X.mg=mg:=by rfl)(hn:x ≠ "__name__":=by decide)(hdb:(x==("__debug__" : Str))=false:=by decide)
 (he:starEach (e::es) X.env=(false,eval e X.env)::starEach es X.env:=by rfl) (hpl:(backTo pos (starEach es X.env)).any (·.1)=false:=by rfl):DE K mg X ES (.Call (.Name x p0) (e::es) [] pos) (pFn k A):=by
 subst hk;exact⟨PE.imp (yL hc hg hm hv ha.ok hn hdb he hpl) (lU hd)⟩
end
inductive Rt where
 |val (v:Val) |new (v:Val) |par (i:Nat) |pr (v u:Val)
inductive SR3 where
 |nx (e:E3) |rt (r:Rt) (e:E3) |bk (e:E3) |ct (e:E3) |exc (c:Str) (e:E3) |stuck
abbrev MS3:=E3->SR3
section
variable(K:W.Frag)(mg:Pa)
def RtR(X N0:Addr->Prop)(ns:Ns)(e:E3)(σ:St)(H:Hp)(d:V):Rt->Prop
 |.val v=>Sat K mg X N0 ns e σ H/\Rd K mg (Oc X ns) H d v
 |.new v=>∃n o,d=.ref n/\N0 n/\¬ X n/\H n=some o/\NotFz o/\Sat K mg (Xn X n) N0 ns e σ H/\Rc K mg (Oc (Xn X n) ns) H o v
 |.par i=>Sat K mg X N0 ns e σ H/\σ[i]?=some (some d)/\∃v,e[i]?=some (.mu v)
 |.pr v u=>∃p d1 n o,d=.ref p/\SqT K H p [d1,.ref n]/\N0 n/\¬ X n/\H n=some o/\NotFz o/\Sat K mg (Xn X n) N0 ns e σ H/\Rd K mg (Oc (Xn X n) ns) H d1 v/\Rc K mg (Oc (Xn X n) ns) H o u
def PS3(X N0:Addr->Prop)(ns:Ns)(e:E3)(H:Hp)(D:Ends)(ES:St->XK):SR3->Prop
 |.nx e'=>∀H' σ' ns',Stp ns e H ns' e' H'->Sat K mg X N0 ns' e' σ' H'->D.nx σ' H'
 |.bk e'=>∀H' σ' ns',Stp ns e H ns' e' H'->Sat K mg X N0 ns' e' σ' H'->D.bk σ' H'
 |.ct e'=>∀H' σ' ns',Stp ns e H ns' e' H'->Sat K mg X N0 ns' e' σ' H'->D.ct σ' H'
 |.rt r e'=>∀H' σ' ns' x,Stp ns e H ns' e' H'->RtR K mg X N0 ns' e' σ' H' x r->D.rt x H'
 |.exc c e'=>∀H' σ' ns' C,Stp ns e H ns' e' H'->Sat K mg X N0 ns' e' σ' H'->mg c=some (.ref C)->ES σ' (.ref C) none H'
 |.stuck=>False
def rdS(ES:St->XK)(G:MS3):TS:=λD σ H=>∃X N0 ns e,Sat K mg X N0 ns e σ H/\PS3 K mg X N0 ns e H D ES (G e)
end
def rdS.el{K:W.Frag}{mg:Pa}{ES:St->XK}{σ:St}{H:Hp}{Z:Prop}{G:MS3}{D:Ends}(h:rdS K mg ES G D σ H)(k:∀X N0 ns e,Sat K mg X N0 ns e σ H->PS3 K mg X N0 ns e H D ES (G e)->Z):Z:=by obtain⟨X,N0,ns,e,S,p⟩:=h;exact k X N0 ns e S p
noncomputable def R3.toS {α:Type} (r:R3 α) (f:α->E3->SR3):SR3:=match r with
 |.ok a e=>f a e
 |.exc c e=>.exc c e
 |.stuck=>.stuck
noncomputable def SR3.then (r:SR3) (f:E3->SR3):SR3:=match r with
 |.nx e=>f e
 |r=>r
noncomputable def wSeq (F G:MS3) (e:E3):SR3:=(F e).then G
noncomputable def wIf (c:MT3) (F G:MS3) (e:E3):SR3:=(c e).toS λb e1=>if b=true then F e1 else G e1
noncomputable def mY (t:Tm) (e:E3):SR3:=match t with
 |.val v=>.rt (.val v) e
 |.new v=>.rt (.new v) e
 |.bor i=>match e[i]? with
  |some (.sh v)=>.rt (.val v) e
  |some (.ow v)=>.rt (.new v) (e.set i .no)
  |some (.mu _)=>.rt (.par i) e
  |_=>.stuck
noncomputable def jf (o:Bool) (i:Nat) (t:Tm) (e:E3):SR3:=match e[i]? with
 |some s0=>if s0.pl=true then (match t with
  |.val v=>.nx (e.set i (.sh v))
  |.new v=>.nx (e.set i (if o=true then .ow v else .sh v))
  |.bor j=>match cV e (.bor j) with
   |some (e2,v)=>.nx (e2.set i (.sh v))
   |none=>.stuck) else .stuck
 |none=>.stuck
abbrev MG3:=Val->E3->Option E3
abbrev jD:=List Val->E3->Option E3
noncomputable def pN (i:Nat):MG3:=λv e=>match e[i]? with
 |some s=>if s.pl=true then some (e.set i (.sh v)) else none
 |none=>none
noncomputable def psN:jD:=λvs e=>match vs with
 | []=>some e
 |_=>none
noncomputable def psC (g:MG3) (u:jD):jD:=λvs e=>match vs with
 |v::r=>(g v e).bind λe1=>u r e1
 | []=>none
noncomputable def pT (n:Nat) (u:jD):MG3:=λv e=>match v with
 |.tup vs=>if vs.length=n then u vs e else none
 |_=>none
noncomputable def Ki (F:ME3) (g:MG3) (e:E3):SR3:=(F e).toS λt e1=>match cV e1 t with
 |some (e2,v)=>match g v e2 with
  |some e3=>.nx e3
  |none=>.stuck
 |none=>.stuck
noncomputable def wPar (i j:Nat) (A:MA3) (e:E3):SR3:=(A e).toS λts e1=>match dem e1 ts with
 |some (e2,[v,u])=>match (pN i v e2).bind (pN j u) with
  |some e3=>.nx e3
  |none=>.stuck
 |_=>.stuck
noncomputable def zO (i:Nat) (g:Val->Val->Bv) (F:ME3) (e:E3):SR3:=match e[i]? with
 |some (.sh x)=>(F e).toS λt e1=>match rs e1 t with
  |some y=>match g x y with
   |.val z=>match pN i z e1 with
    |some e2=>.nx e2
    |none=>.stuck
   |_=>.stuck
  |none=>.stuck
 |_=>.stuck
noncomputable def FY (c:Str) (A:MA3) (e:E3):SR3:=(A e).toS λts e1=>if ts.length<=16777216 then .exc c e1 else .stuck
structure PSt where
 t:Nat
 G:MS3
structure PGt where
 t:Nat
 G:MG3
structure PGs where
 t:Nat
 G:jD
noncomputable def xNx:PSt:=⟨1,.nx⟩
noncomputable def vj:PSt:=⟨4,.rt (.val .non)⟩
noncomputable def aw (a:PEx):PSt:=⟨5,λe=>(a.G e).toS mY⟩
noncomputable def aO (a:PEx):PSt:=⟨6,λe=>(a.G e).toS λ_ e1=>.nx e1⟩
noncomputable def aj (a b:PSt):PSt:=⟨7,wSeq a.G b.G⟩
noncomputable def xIf (c:PTs) (a b:PSt):PSt:=⟨8,wIf c.G a.G b.G⟩
noncomputable def ar (o:Bool) (i:Nat) (a:PEx):PSt:=⟨9,λe=>(a.G e).toS (jf o i)⟩
noncomputable def gtN (i:Nat):PGt:=⟨1,pN i⟩
noncomputable def dP:PGs:=⟨1,psN⟩
noncomputable def aT (a:PGt) (b:PGs):PGs:=⟨2,psC a.G b.G⟩
noncomputable def gtT (n:Nat) (a:PGs):PGt:=⟨2,pT n a.G⟩
noncomputable def jW (a:PEx) (g:PGt):PSt:=⟨10,Ki a.G g.G⟩
noncomputable def fM (i j:Nat) (a:PAs):PSt:=⟨11,wPar i j a.G⟩
noncomputable def vQ (i:Nat) (o:PO2) (a:PEx):PSt:=⟨12,zO i o.G a.G⟩
noncomputable def dY (c:Str) (a:PAs):PSt:=⟨13,FY c a.G⟩
noncomputable def xNo:PSt:=⟨14,λ_=>.stuck⟩
section
variable{K:W.Frag}{mg:Pa}{X N0:Addr->Prop}{ns ns1:Ns}{e e1:E3}{σ:St}{H H1:Hp}{De:Ends}{ES:St->XK}
def PS3.after(p:PS3 K mg X N0 ns e H De ES r)(S:Sat K mg X N0 ns e σ H)(a:Stp ns e H ns1 e1 H1):PS3 K mg X N0 ns1 e1 H1 De ES r:=by
 cases r with
 |stuck=>exact p
 |nx e'=>exact λH' σ' ns' b S'=>p H' σ' ns' (a.trans S b) S'
 |bk e'=>exact λH' σ' ns' b S'=>p H' σ' ns' (a.trans S b) S'
 |ct e'=>exact λH' σ' ns' b S'=>p H' σ' ns' (a.trans S b) S'
 |exc c e'=>exact λH' σ' ns' C b S'=>p H' σ' ns' C (a.trans S b) S'
 |rt r e'=>exact λH' σ' ns' x b S'=>p H' σ' ns' x (a.trans S b) S'
def PS3.toS{α:Type}{r:R3 α}{f:α->E3->SR3}{k:α->E3->Ns->Hp->Prop}(p:PS3 K mg X N0 ns e H De ES (r.toS f))(S:Sat K mg X N0 ns e σ H)
 (i:∀t e1 ns1 H1,Stp ns e H ns1 e1 H1->Sat K mg X N0 ns1 e1 σ H1->PS3 K mg X N0 ns e H De ES (f t e1)->k t e1 ns1 H1):PG3 K mg X N0 ns e σ H (ES σ) k r:=by
 cases r with
 |stuck=>exact p
 |exc c e'=>exact λH' ns' C a S' m=>p H' σ ns' C a S' m
 |ok t e'=>exact λH' ns' a S'=>i t e' ns' H' a S' p
def PS3.then{r:SR3}{f:E3->SR3}{N:St->Hp->Prop}(p:PS3 K mg X N0 ns e H De ES (r.then f))(S:Sat K mg X N0 ns e σ H)
 (i:∀e1 ns1 σ1 H1,Stp ns e H ns1 e1 H1->Sat K mg X N0 ns1 e1 σ1 H1->PS3 K mg X N0 ns1 e1 H1 De ES (f e1)->N σ1 H1):PS3 K mg X N0 ns e H { De with nx:=N } ES r:=by
 cases r with
 |nx e'=>exact λH' σ' ns' a S'=>i e' ns' σ' H' a S' (PS3.after p S a)
 |stuck=>exact p
 |bk e'=>exact p
 |ct e'=>exact p
 |exc c e'=>exact p
 |rt r e'=>exact p
def PS3.nx(p:PS3 K mg X N0 ns e H De ES (.nx e))(S:Sat K mg X N0 ns e σ H):De.nx σ H:=p H σ ns .refl S
def l7{d:V}{v:Val}{e':E3}(S:Sat K mg X N0 ns e σ H)(r:Rd K mg (Oc X ns) H d v)(q:pN i v e=some e'):Sat K mg X N0 (ns.set i none) e' (σ.set i (some d)) H/\Stp ns e H (ns.set i none) e' H:=by
 unfold pN at q;split at q
 .rename_i s q0;split at q
  .rename_i p0;cases q;have hi:=(D_.mp q0).1;exact⟨S.putN hi ⟨rfl,d,rfl,Rd.mono (.of λm p=>eX p) r⟩,Stp.refl.put (x:=none) (s:=.sh v) hi (λ_ z=>by cases z) q0 p0 rfl S.l2⟩
  .cases q
 .cases q
end
section
variable(K:W.Frag)(mg:Pa)(X:Cx)(ES:St->XK)
structure DS(st:Stmt)(F:PSt):Prop where
 ok:PS X st (rdS K mg ES F.G)
structure DSs(st:List Stmt)(F:PSt):Prop where
 ok:PSs X st (rdS K mg ES F.G)
def rdG(g:MG3):TG:=λv σ H Q=>∃Y N0 ns e u e',Sat K mg Y N0 ns e σ H/\Rd K mg (Oc Y ns) H v u/\g u e=some e'/\∀σ' ns',Stp ns e H ns' e' H->Sat K mg Y N0 ns' e' σ' H->Q σ' H
def rdGs(g:jD):TGs:=λvs σ H Q=>∃Y N0 ns e us e',Sat K mg Y N0 ns e σ H/\Rds K mg (Oc Y ns) H vs us/\g us e=some e'/\∀σ' ns',Stp ns e H ns' e' H->Sat K mg Y N0 ns' e' σ' H->Q σ' H
def rdG.el{K:W.Frag}{mg:Pa}{g:MG3}(h:rdG K mg g v σ H Q){Z:Prop}(k:∀Y N0 ns e u e',Sat K mg Y N0 ns e σ H->Rd K mg (Oc Y ns) H v u->g u e=some e'->(∀σ' ns',Stp ns e H ns' e' H->Sat K mg Y N0 ns' e' σ' H->Q σ' H)->Z):Z:=by obtain⟨Y,N0,ns,e,u,e',S,r,q,p⟩:=h;exact k Y N0 ns e u e' S r q p
def rdGs.el{K:W.Frag}{mg:Pa}{g:jD}(h:rdGs K mg g v σ H Q){Z:Prop}(k:∀Y N0 ns e us e',Sat K mg Y N0 ns e σ H->Rds K mg (Oc Y ns) H v us->g us e=some e'->(∀σ' ns',Stp ns e H ns' e' H->Sat K mg Y N0 ns' e' σ' H->Q σ' H)->Z):Z:=by obtain⟨Y,N0,ns,e,u,e',S,r,q,p⟩:=h;exact k Y N0 ns e u e' S r q p
structure DG(e:Expr)(g:PGt):Prop where
 ok:PG X e (rdG K mg g.G)
structure DGs(es:List Expr)(g:PGs):Prop where
 ok:L2.PGs X es (rdGs K mg g.G)
def mG:Prop:=∀(pins:Pb) (σ:St) (H:Hp) (s:Shared) (e:Value) (s':Shared),Inv X pins σ H s->CX1 X.prog X.w X.stack H s (ES σ) e s'->X.xe e s'
end
section
variable{K:W.Frag}{mg:Pa}{X:Cx}{ES:St->XK}{e a b c o i:Expr}{es:List Expr}{st:Stmt}{sts sts':List Stmt}{p q:PEx}{A:PAs}{t:PTs}{x y:PSt}{g:PGt}{gs:PGs}{pos:Pos}
def Eu:DSs K mg X ES [] xNx:=⟨PSs.imp EG λD σ H zz=>zz.el λY N0 ns e S p=>PS3.nx p S⟩
def eA(h1:DS K mg X ES st x):DSs K mg X ES [st] x:=⟨EB h1.ok⟩
def au(h1:DS K mg X ES st x)(h2:DSs K mg X ES sts y):DSs K mg X ES (st::sts) (aj x y):=⟨PSs.imp (Ap h1.ok h2.ok) λD σ H zz=>zz.el λY N0 ns e S p=>
 ⟨Y,N0,ns,e,S,PS3.then p S λe1 ns1 σ1 H1 a1 S1 p1=>⟨Y,N0,ns1,e1,S1,p1⟩⟩⟩
def DN:DS K mg X ES (.Return none pos) vj:=⟨PS.imp D4 λD σ H zz=>zz.el λY N0 ns e S p=>p H σ ns _ .refl ⟨S,.non⟩⟩
def DQ(he:DE K mg X ES e p)(hs:swapsWith e none pos.line X.env=pure false:=by rfl):DS K mg X ES (.Expr e pos) (aO p):=⟨PS.imp (Dj he.ok hs) λD σ H zz=>zz.el λY N0 ns e S p=>
 ⟨Y,N0,λ_=>True,ns,e,S,λ_ _=>trivial,PS3.toS p S λt e1 ns1 H1 a1 S1 p1 x r1=>p1 H1 σ ns1 a1 S1⟩⟩
def lO(hc:DT K mg X ES c t)(ha:DSs K mg X ES sts x)(hb:DSs K mg X ES sts' y):DS K mg X ES (.If c sts sts' pos) (xIf t x y):=⟨PS.imp (KZ hc.ok ha.ok hb.ok) λD σ H zz=>zz.el λY N0 ns e S p=>
 ⟨Y,N0,ns,e,S,PS3.toS p S λb e1 ns1 H1 a1 S1 p1=>by
  cases b with
  |true=>exact⟨Y,N0,ns1,e1,S1,PS3.after p1 S a1⟩
  |false=>exact⟨Y,N0,ns1,e1,S1,PS3.after p1 S a1⟩⟩⟩
def fI(he:DE K mg X ES e p):DS K mg X ES (.Return (some e) pos) (aw p):=⟨PS.imp (Fz he.ok) λD σ H zz=>zz.el λY N0 ns e S p=>
 ⟨Y,
  N0,N0,ns,e,S,S.lh,PS3.toS p S λt e1 ns1 H1 a1 S1 p1 x r1=>by
  cases t with
  |val v=>exact p1 H1 σ ns1 x a1 ⟨S1,r1⟩
  |new v=>exact p1 H1 σ ns1 x a1 r1
  |
   bor i=>
   have r':σ[i]?=some (some x):=r1;unfold mY at p1;try dsimp only at p1
   split at p1
   .rename_i v q;obtain⟨_,x',e1',e2⟩:=S1.sl i _ q;rw[r'] at e1';cases e1';exact p1 H1 σ ns1 x a1 ⟨S1,e2⟩
   .rename_i v q;obtain⟨n,o,q1,q2,q3,q4,q5,q6⟩:=S1.sl i _ q;rw[r'] at q2;cases q2;have hi:=(D_.mp q).1;have hn:i<ns1.length:=by rw[S1.l2];exact hi
    have mv:Mov (Oc Y ns1) (Oc (Xn Y n) (ns1.set i none)) H1 H1:=.of λm p=>⟨λz=>by
     rcases z with z |rfl
     .exact p.1 z
     .exact p.2 (aN.mpr ⟨i,q1⟩),(eX p).2⟩
    have S2:=S1.putN' hi (s:=.no) rfl;refine p1 H1 σ (ns1.set i none) _ (a1.put (x:=none) hi (λ_ z=>by cases z) q rfl rfl S1.l2) ⟨n,o,rfl,q3,S1.nx i n q1,q4,q5,⟨S2.l1,S2.l2,S2.lh,λm z=>?_,S2.inj,λj m qj z=>?_,λj s qj=>?_,S2.bs⟩,q6.mono mv⟩
    .rcases z with z |rfl
     .exact S2.xl m z
     .exact⟨_,q4⟩
    .rcases z with z |rfl
     .exact S2.nx j m qj z
     .rcases bC hn qj with ⟨_,y⟩ |⟨y,z⟩
      .cases y
      .exact y (S1.inj j i _ z q1)
    .rcases bC hi qj with ⟨rfl,rfl⟩ |⟨z,qj'⟩
     .rw[cU hn];rfl
     .rw[cz z];exact (S1.sl j s qj').mono mv λ_ _ _ q _=>q
   .rename_i v q;exact p1 H1 σ ns1 x a1 ⟨S1,r',v,q⟩
   .exact p1.elim⟩⟩
def zf{ow:Bool}{i:Nat}(D:Ends)(σ:St)(H:Hp):rdS K mg ES (ar ow i p).G D σ H->u9 (rdE K mg ES p.G) (o9 i) D σ H:=λzz=>zz.el λY N0 ns e S p=>
 ⟨Y,
  N0,λa=>H a=none,ns,e,S,λ_ z=>z,PS3.toS p S λt e1 ns1 H1 a1 S1 p1 d r1=>by
  unfold jf at p1;split at p1
  .rename_i s0 q0;split at p1
   .rename_i p0;have hi:=(D_.mp q0).1;cases t with
    |val v=>exact p1 H1 _ _ (a1.put (x:=none) (s:=.sh v) hi (λ_ z=>by cases z) q0 p0 rfl S1.l2) (S1.putN hi ⟨rfl,d,rfl,Rd.mono (.of λm p=>eX p) r1⟩)
    |
     new v=>
     cases ow with
     |true=>obtain⟨n,ob,rfl,q1,q2,q3,q4,q5,q6⟩:=r1;exact p1 H1 _ _ (a1.put (x:=some n) (s:=.ow v) hi (λm z=>by cases z;exact q1) q0 p0 rfl S1.l2) (Sat.putO q5 q2 hi (S.lh n q1) q3 q4 q6)
     |false=>exact p1 H1 _ _ (a1.put (x:=none) (s:=.sh v) hi (λ_ z=>by cases z) q0 p0 rfl S1.l2) (S1.putN hi ⟨rfl,d,rfl,Rd.mono (.of λm p=>eX p) r1.new⟩)
    |
     bor j=>
     try dsimp only at p1
     split at p1
     .rename_i e2 v q2;obtain⟨h_,S2,a2,r2⟩:=fk S1 r1 q2;have hq:∃s2,e2[i]?=some s2/\s2.pl=true:=by
       unfold cV at q2;dsimp only at q2;split at q2
       .cases q2;exact⟨s0,q0,p0⟩
       .rename_i u q3;cases q2;by_cases z:i=j
        .subst z;exact⟨_,cU hi,rfl⟩
        .exact⟨s0,by rw[cz z];exact q0,p0⟩
       .cases q2
      obtain⟨s2,hq1,hq2⟩:=hq;have hi2:=(D_.mp hq1).1;exact p1 H1 _ _ ((a1.trans S a2).put (x:=none) (s:=.sh v) hi2 (λ_ z=>by cases z) hq1 hq2 rfl S2.l2) (S2.putN hi2 ⟨rfl,d,rfl,Rd.mono (.of λm p=>eX p) r2⟩)
     .exact p1.elim
   .exact p1.elim
  .exact p1.elim⟩
def Ij{ow:Bool}{i:Nat}{x:Str}{l_:Pos}(hN:X.N.Nodup)(hi:X.N[i]?=some x)(hx:Loc X.env.scope x)(he:DE K mg X ES e p)(hs:swapsWith e (some (.Name x l_)) pos.line X.env=pure false)(hf:X.fn x=true\/X.env.scope.names.lookup x=some .local):
 DS K mg X ES (.Assign [.Name x l_] e pos) (ar ow i p):=⟨PS.imp (IE hN hi hx he.ok hs hf) zf⟩
def Di{i:Nat}{x:Str}(hN:X.N.Nodup)(hi:X.N[i]?=some x)(hx:Loc X.env.scope x)(hf:X.fn x=true\/X.env.scope.names.lookup x=some .local):DG K mg X (.Name x pos) (gtN i):=
 ⟨PG.imp (EH hN hi hx hf) λv σ H Q zz=>zz.el λY N0 ns e u e' S r q k=>by obtain⟨S',a⟩:=l7 S r q;exact k _ _ a S'⟩
def DX:DGs K mg X [] dP:=⟨PGs.imp DL λvs σ H Q zz=>zz.el λY N0 ns e us e' S r q k=>by
 cases r with
 |nil=>cases q;exact⟨rfl,k _ _ .refl S⟩
 |cons _ _=>cases q⟩
def AB(h1:DG K mg X e g)(h2:DGs K mg X es gs)(hs:(assignEach (e::es) X.env).map (·.2)=assign e X.env::(assignEach es X.env).map (·.2):=by rfl):DGs K mg X (e::es) (aT g gs):=
 ⟨PGs.imp (A6 h1.ok h2.ok hs) λvs σ H Q zz=>zz.el λY N0 ns e us e' S r q k=>by
  cases r with
  |nil=>cases q
  |cons r rr=>obtain⟨e1,q1,q2⟩:=LS.mp q;exact⟨_,_,rfl,Y,N0,ns,e,_,e1,S,r,q1,λσ1 ns1 a1 S1=>⟨Y,N0,ns1,e1,_,e',S1,rr.mono a1.mov,q2,λσ2 h_ a2 S2=>k σ2 h_ (a1.trans S a2) S2⟩⟩⟩
def Fs(hK:X.K=K)(hc:X.calm=true)(h:DGs K mg X es gs)(hn:(assignEach es X.env).length=n:=by rfl)(hst:(assignEach es X.env).findIdx? (·.1)=none:=by rfl):DG K mg X (.Tuple es k pos) (gtT n gs):=by
 subst hK;exact
  ⟨PG.imp (xu hc h.ok hn hst) λv σ H Q zz=>zz.el λY N0 ns e u e' S r q k=>by
  have q:pT n gs.G u e=some e':=q;unfold pT at q;split at q
  .split at q
   .rename_i hl;obtain⟨a,vs,rfl,z,rr⟩:=ShR.tup (.inl r);exact⟨a,vs,rfl,z,by rw[rr.len];exact hl,Y,N0,ns,e,_,e',S,rr,q,k⟩
   .cases q
  .cases q⟩
def DJ(he:DE K mg X ES e p)(hg:DG K mg X a g)(hs:swapsWithSole [a] e pos.line X.env=pure false:=by rfl)(hw:swappedStores [a] e X.env=pure none:=by rfl)(h1:(assignEach [a] X.env).map (·.2)=[assign a X.env]:=by rfl):DS K mg X ES (.Assign [a] e pos) (jW p g):=
 ⟨PS.imp (xV he.ok hg.ok hs hw h1) λD σ H zz=>zz.el λY N0 ns e S p=>⟨Y,N0,λ_=>True,ns,e,S,λ_ _=>trivial,PS3.toS p S λt e1 ns1 H1 a1 S1 p1 x r1=>by
  try dsimp only at p1
  split at p1
  .rename_i e2 v q;obtain⟨h_,S2,a2,r2⟩:=fk S1 r1 q;split at p1
   .rename_i e3 q3;exact⟨Y,N0,h_,e2,v,e3,S2,r2,q3,λσ' ns' a3 S3=>p1 H1 σ' ns' ((a1.trans S a2).trans S a3) S3⟩
   .exact p1.elim
  .exact p1.elim⟩⟩
def GU{i j:Nat}{x y:Str}{px py pt:Pos}{kt k2 pt2}(hN:X.N.Nodup)(ha:DA K mg X ES [a,b] A)(hc:X.calm=true:=by rfl)(hi:X.N[i]?=some x:=by rfl)(hj:X.N[j]?=some y:=by rfl)(hij:i≠j:=by decide)(hx:X.env.scope.names.lookup x=some .local:=by rfl)(hy:X.env.scope.names.lookup y=some .local:=by rfl)(hw:swappedStores [.Tuple [.Name x px,.Name y py] kt pt] (.Tuple [a,b] k2 pt2) X.env=pure (some [x,y]):=by rfl)(hs:swapsWithSole [.Tuple [.Name x px,.Name y py] kt pt] (.Tuple [a,b] k2 pt2) pos.line X.env=pure false:=by rfl):DS K mg X ES (.Assign [.Tuple [.Name x px,.Name y py] kt pt] (.Tuple [a,b] k2 pt2) pos) (fM i j A):=
 ⟨PS.imp
  (Fm hc hN hi hj hij hx hy ha.ok hw hs) λD σ H zz=>zz.el λY N0 ns e S p=>⟨Y,N0,ns,e,S,PS3.toS p S λts e1 ns1 H1 a1 S1 p1 xs r1=>by
  try dsimp only at p1
  split at p1
  .rename_i e2 v u q;obtain⟨h_,S2,a2,r2⟩:=iK S1 r1 q;split at p1
   .rename_i e3 q3;obtain⟨e4,q4,q5⟩:=LS.mp q3;cases r2 with
    |
     cons r rr=>
     cases rr with
     |cons r' rr=>cases rr;obtain⟨S3,a3⟩:=l7 S2 r q4;obtain⟨S4,a4⟩:=l7 S3 (r'.mono a3.mov) q5;exact⟨_,_,rfl,p1 H1 _ _ (((a1.trans S a2).trans S a3).trans S a4) S4⟩
   .exact p1.elim
  .exact p1.elim⟩⟩
def IpD(K:W.Frag)(mg:Pa)(r:TIp)(g:Val->Val->Bv):Prop:=∀P H x y v u Q,ShR K mg P H x v->ShR K mg P H y u->BvP K mg P H Q (g v u)->r x y H Q
def Hm{i:Nat}{x:Str}{op:Operator}{ti:TIp}{l_:Pos}{k:PO2}(hN:X.N.Nodup)(he:DE K mg X ES e p)(ho:PIp X op ti)(hd:IpD K mg ti k.G)(hi:X.N[i]?=some x:=by rfl)(hx:Loc X.env.scope x:=by first |exact Or.inl rfl |exact Or.inr rfl)(hf:X.fn x=true\/X.env.scope.names.lookup x=some .local:=by first |exact .inl rfl |exact .inr rfl |assumption):DS K mg X ES (.AugAssign (.Name x l_) op e pos) (vQ i k p):=
 ⟨PS.imp
  (I0 hN hi hx he.ok ho hf) λD σ H zz=>zz.el λY N0 ns e S p=>by
  have p:PS3 K mg Y N0 ns e H D ES (zO i k.G _ e):=p;unfold zO at p;split at p
  .rename_i v q0;obtain⟨_,dx,e1,r0⟩:=S.sl i _ q0;refine⟨dx,e1,Y,N0,λ_=>True,ns,e,S,λ_ _=>trivial,PS3.toS p S λt e1 ns1 H1 a1 S1 p1 y r1=>?_⟩;try dsimp only at p1
   split at p1
   .rename_i u q1;refine hd _ _ _ _ _ _ _ (.inl (r0.mono a1.mov)) (r1.sh S1 q1) ?_;split at p1
    .rename_i z q2;rw[q2];split at p1
     .rename_i e2 q3;intro H2 dz g2 r2;obtain⟨S3,a3⟩:=l7 (S1.gr g2) r2 q3;exact p1 H2 _ _ ((a1.trans S (.gr g2)).trans S a3) S3
     .exact p1.elim
    .exact p1.elim
   .exact p1.elim
  .exact p.elim⟩
def TsR.len{Y:Addr->Prop}(r:TsR K mg Y ns σ H ds ts):ds.length=ts.length:=by
 induction r with
 |nil=>rfl
 |val _ _ ih=>rw[Em,Em,ih]
 |bor _ _ ih=>rw[Em,Em,ih]
def zX{x:Str}{C:Addr}{E:XK}{np cpos:Pos}(hc:X.calm=true)(hR:Rz X E)(hg:Gl X x)(hm:mg x=some (.ref C))(hq:W.excIn X.K C mX "ValueError.__new__"=true)(ha:DA K mg X (λ_=>E) (e::es) A)(hk:X.mg=mg:=by rfl)(he:starEach (e::es) X.env=(false,eval e X.env)::starEach es X.env:=by rfl)(c_:(backTo cpos (starEach es X.env)).any (·.1)=false:=by rfl)(hd:(x==("__debug__" : Str))=false:=by decide):DS K mg X (λ_=>E) (.Raise (some (.Call (.Name x np) (e::es) [] cpos)) none pos) (dY x A):=by
 subst hk;exact⟨PS.imp (Ah hc hR hg hm hq ha.ok he c_ hd) λD σ H zz=>zz.el λY N0 ns e S p=>⟨Y,N0,ns,e,S,PS3.toS p S λts e1 ns1 H1 a1 S1 p1 xs r1=>by
  try dsimp only at p1
  split at p1
  .rename_i hl;exact⟨by rw[r1.len];exact hl,p1 H1 σ ns1 C a1 S1 hm⟩
  .exact p1.elim⟩⟩
end
noncomputable def Sl.re (s:Sl) (u:Val):Sl:=match s with
 |.ow _=>.ow u
 |.mu _=>.mu u
 |s=>s
noncomputable def Sl.mv:Sl->Option Val
 |.ow v=>some v
 |.mu v=>some v
 |_=>none
section
variable{K:W.Frag}{mg:Pa}{X N0:Addr->Prop}{ns:Ns}{e:E3}{σ:St}{H:Hp}
def Sat.write(S:Sat K mg X N0 ns e σ H)(q:e[i]?=some s)(hm:s.mv=some u):∃n o,σ[i]?=some (some (.ref n))/\ns[i]?=some (some n)/\H n=some o/\NotFz o/\Rc K mg (Oc X ns) H o u/\
 ∀o' u',NotFz o'->Rc K mg (Oc X ns) H o' u'->Mov (Oc X ns) (Oc X ns) H (upd H n o')/\Sat K mg X N0 ns (e.set i (s.re u')) σ (upd H n o')/\Stp ns e H ns (e.set i (s.re u')) (upd H n o'):=by
 have hi:=(D_.mp q).1;have k_:∃n o,ns[i]?=some (some n)/\σ[i]?=some (some (.ref n))/\H n=some o/\NotFz o/\Rc K mg (Oc X ns) H o u/\s.mt=true/\(∀o' u',NotFz o'->Rc K mg (Oc X ns) (upd H n o') o' u'->SlR K mg (Oc X ns) N0 (some (some n)) (some (some (.ref n))) (upd H n o') (s.re u')):=by
  have y:=S.sl i s q;cases s with
  |ow v=>cases hm;obtain⟨n,o,q1,q2,q3,q4,q5,q6⟩:=y;exact⟨n,o,q1,q2,q4,q5,q6,rfl,λo' u' hf r=>⟨n,o',rfl,rfl,q3,aR,hf,r⟩⟩
  |mu v=>cases hm;obtain⟨n,o,q1,q2,q4,q5,q6⟩:=y;exact⟨n,o,q1,q2,q4,q5,q6,rfl,λo' u' hf r=>⟨n,o',rfl,rfl,aR,hf,r⟩⟩
  |_=>cases hm
 obtain⟨n,o,k1,k2,k3,k4,k5,k6,k7⟩:=k_;refine⟨n,o,k2,k1,k3,k4,k5,λo' u' hf r=>?_⟩;have up:∀m,m≠n->upd H n o' m=H m:=λm z=>aB z;have mv:Mov (Oc X ns) (Oc X ns) H (upd H n o'):=⟨LeH.wr k3 k4,λm ob p q' _=>⟨p,by rw[up m λz=>p.2 (aN.mpr ⟨i,by rw[z];exact k1⟩)];exact q'⟩⟩;have dom:∀a,upd H n o' a=none->H a=none:=λa z=>by rw[up a λy=>by subst y;rw[aR] at z;cases z] at z;exact z
 refine⟨mv,⟨by rw[L9];exact S.l1,by rw[L9];exact S.l2,λa z=>S.lh a (dom a z),λm z=>?_,S.inj,S.nx,λj s' qj=>?_,S.bs.wr k3 k4⟩,?_⟩
 .by_cases y:m=n
  .subst y;exact⟨o',aR⟩
  .rw[up m y];exact S.xl m z
 .rcases bC hi qj with ⟨rfl,rfl⟩ |⟨z,qj'⟩
  .rw[k1,k2];exact k7 o' u' hf (r.mono mv)
  .refine (S.sl j s' qj').mono mv λm ob qm qo _=>?_;rw[up m λy=>by subst y;exact z (S.inj j i m qm k1)];exact qo
 .refine⟨mv.le,dom,λm ob qm _ hM=>?_,λ_ _ q=>.inl q,λj s' qj hl=>?_,λj s' qj hl=>?_,λj v qj=>?_,λj v qj=>?_⟩
  .rw[up m λy=>by subst y;exact hM ⟨i,s,k1,q,k6⟩];exact qm
  .have z:j≠i:=λz=>by subst z;rw[q] at qj;cases qj;cases s <;> first |cases hl;done |cases k6;done
   rw[cz z];exact⟨qj,rfl⟩
  .rcases bC hi qj with ⟨_,y⟩ |⟨z,qj'⟩
   .subst y;cases s <;> first |cases hl;done |cases k6;done
   .exact⟨qj',rfl⟩
  .rcases bC hi qj with ⟨rfl,y⟩ |⟨z,qj'⟩
   .cases s with
    |mu w=>exact⟨w,q,rfl⟩
    |ow w=>cases y
    |_=>cases k6
   .exact⟨v,qj',rfl⟩
  .by_cases z:j=i
   .subst z;rw[q] at qj;cases qj;exact⟨u',cU hi,rfl⟩
   .exact⟨v,by rw[cz z];exact qj,rfl⟩
end
noncomputable def wSet (i:Nat) (G:ME3) (F:ME3) (w:Val->Val->Val->Option Val) (e:E3):SR3:=(F e).toS λt e1=>match (e1[i]?).bind Sl.mv with
 |none=>.stuck
 |some _=>(G e1).toS λt2 e2=>match rs e2 t2 with
  |none=>.stuck
  |some vi=>match cV e2 t.drop with
   |none=>.stuck
   |some (e3,v)=>match e3[i]? with
    |none=>.stuck
    |some s=>match s.mv with
     |none=>.stuck
     |some u=>match w u vi v with
      |some u'=>.nx (e3.set i (s.re u'))
      |none=>.stuck
noncomputable def eQ:Val->Bool
 |.lst _=>true
 |_=>false
noncomputable def qJ (i:Nat) (m:Val->List Val->Option (Val×Val)) (vs:List Val) (e2:E3):R3 Tm:=match e2[i]? with
 |some s2=>match s2.mv with
  |some u=>match m u vs with
   |some (u',v)=>.ok (.val v) (e2.set i (s2.re u'))
   |none=>.stuck
  |none=>.stuck
 |none=>.stuck
noncomputable def nI (i:Nat) (m:Val->List Val->Option (Val×Val)) (A:MA3) (e:E3):R3 Tm:=match e[i]? with
 |some s=>if (s.mv.map eQ)=some true then (A e).bind λts e1=>match dem e1 ts with
  |some (e2,vs)=>qJ i m vs e2
  |none=>.stuck else .stuck
 |none=>.stuck
noncomputable def KN (m:Val->List Val->Bv) (F:ME3) (A:MA3) (e:E3):R3 Tm:=(F e).bind λt e1=>if (rs e1 t).map eQ=some true then (A e1).bind λts e2=>(match rs e2 t.drop,rss e2 ts with
 |some v,some vs=>if eQ v=true then (m v vs).at e2 else .stuck
 |_,_=>.stuck) else .stuck
structure PSe where
 G:Val->Val->Val->Option Val
structure PMm where
 G:Val->List Val->Option (Val×Val)
structure PMv where
 G:Val->List Val->Bv
noncomputable def sr (i:Nat) (w:PSe) (k a:PEx):PSt:=⟨15,wSet i k.G a.G w.G⟩
noncomputable def g0 (i:Nat) (m:PMm) (a:PAs):PEx:=⟨18,nI i m.G a.G⟩
noncomputable def lu (i:Nat) (m:PMm):PEx:=⟨19,nI i m.G m5⟩
noncomputable def mj (m:PMv) (a:PEx) (b:PAs):PEx:=⟨20,KN m.G a.G b.G⟩
section
variable(K:W.Frag)(mg:Pa)
def Ae(r:qM)(w:Val->Val->Val->Option Val):Prop:=∀P H n o u di vi d v u' Q,¬ P n->H n=some o->NotFz o->Rc K mg P H o u->ShR K mg P H di vi->Rd K mg P H d v->w u vi v=some u'->(∀o',NotFz o'->Rc K mg P H o' u'->Q (upd H n o'))->r (.ref n) di d H Q
def MmD(r:V->List V->Hp->VK->Prop)(m:Val->List Val->Option (Val×Val)):Prop:=∀P H n o u ds vs u' v Q,¬ P n->H n=some o->NotFz o->Rc K mg P H o u->Rds K mg P H ds vs->m u vs=some (u',v)->(∀o' y,NotFz o'->Rc K mg P H o' u'->Rd K mg P H y v->Q y (upd H n o'))->r (.ref n) ds H Q
def MtD(r:V->List V->Hp->VK->Prop)(m:Val->List Val->Bv):Prop:=∀P H d v ds vs Q,ShR K mg P H d v->eQ v=true->ShRs K mg P H ds vs->BvP K mg P H Q (m v vs)->r d ds H Q
end
section
variable{K:W.Frag}{mg:Pa}{X:Cx}{ES:St->XK}{e o i:Expr}{es:List Expr}{p q:PEx}{A:PAs}{pos p1:Pos}
def pK{j:Nat}{e:E3}{s:Sl}{u:Val}(q:e[j]?=some s)(h:s.mv=some u):dU j e=.ok (.bor j) e:=by unfold dU;rw[q];cases s <;> first |rfl |cases h
def EK{w:PSe}{r:qM}(he:DE K mg X ES e p)(ho:DE K mg X ES o (af j))(hi:DE K mg X ES i q)(hs':wb X r)(hd:Ae K mg r w.G)(hs:swapsWithSole [.Subscript o i p1] e pos.line X.env=pure false:=by rfl)(hw:swappedStores [.Subscript o i p1] e X.env=pure none:=by rfl)(h1:(assignEach [.Subscript o i p1] X.env).map (·.2)=[assign (.Subscript o i p1) X.env]:=by rfl)
 (ha:∀v,assign (.Subscript o i p1) X.env v=(do
  let ov <- holding [v] (eval o X.env)
  let iv <- holding [v,ov] (eval i X.env)
  standAt p1
  holding [v,ov,iv] (setItem ov iv v)
  release [v,ov,iv] []):=by intro _;rfl):DS K mg X ES (.Assign [.Subscript o i p1] e pos) (sr j w q p):=
 ⟨PS.imp
  (xV he.ok (Gf ho.ok hi.ok hs' ha) hs hw h1) λD σ H zz=>zz.el λY N0 ns e S p=>⟨Y,N0,λ_=>True,ns,e,S,λ_ _=>trivial,PS3.toS p S λt e1 ns1 H1 a1 S1 p1 x r1=>by
  try dsimp only at p1
  split at p1
  .exact p1.elim
  .rename_i u0 qm;obtain⟨s0,y1,y2⟩:=LS.mp qm;refine⟨Y,N0,λ_=>True,ns1,e1,S1,λ_ _=>trivial,?_⟩;show PG3 K mg Y N0 ns1 e1 σ H1 (ES σ) _ (dU j e1);rw[pK y1 y2];intro H2 h_ a2 S2 ov ro;refine⟨Y,N0,λ_=>True,h_,e1,S2,λ_ _=>trivial,PS3.toS (PS3.after p1 S (a1.trans S a2)) S2 λt2 e2 ns3 H3 a3 S3 p3 iv r3=>?_⟩;try dsimp only at p3
   split at p3
   .exact p3.elim
   .rename_i vi qi;split at p3
    .exact p3.elim
    .rename_i e3 v qd;obtain⟨ns4,S4,a4,r4⟩:=fk S3 (r1.drop (a2.trans S1 a3)) qd;split at p3
     .exact p3.elim
     .rename_i s q3;split at p3
      .exact p3.elim
      .rename_i u q4;split at p3
       .rename_i u' q5;obtain⟨n,ob,k1,k0,k2,k3,k4,k5⟩:=S4.write q3 q4;have ro':σ[j]?=some (some ov):=ro;rw[k1] at ro';cases ro';refine hd (Oc Y ns4) _ _ _ _ _ _ _ _ _ _ (λz=>z.2 (aN.mpr ⟨j,k0⟩)) k2 k3 k4 ((r3.sh S3 qi).mono a4.mov .refl) r4 q5 λo' f' rc'=>?_;obtain⟨_,S5,a5⟩:=k5 o' u' f' rc';exact p3 _ _ _ ((a3.trans S2 a4).trans S2 a5) S5
       .exact p3.elim⟩⟩
def C1{P:Addr->Prop}(r:ShR K mg P H d v)(q:eQ v=true):tyV K "list" d H:=by
 cases v with
 |lst xs=>obtain⟨a,vs,rfl,h,_⟩:=r.lstL;exact .inl ⟨rfl,vs,h⟩
 |_=>cases q
def uR{Y N0 L:Addr->Prop}{ns:Ns}{e2:E3}{σ:St}{H:Hp}{k:PMm}{r:V->List V->Hp->VK->Prop}{vs:List Val}{E:XK}{Q:VK}(hd:MmD K mg r k.G)(S:Sat K mg Y N0 ns e2 σ H)(ro:σ[j]?=some (some ov))(rx:Rds K mg (Oc Y ns) H xs vs)(p:PG3 K mg Y N0 ns e2 σ H E (KE K mg Y N0 L σ Q) (qJ j k.G vs e2)):r ov xs H Q:=by
 unfold qJ at p;split at p
 .rename_i s2 q2;split at p
  .rename_i u q3;split at p
   .rename_i u' v q4;obtain⟨n,ob,k1,k0,k2,k3,k4,k5⟩:=S.write q2 q3;rw[k1] at ro;cases ro;refine hd (Oc Y ns) _ _ _ _ _ _ _ _ _ (λz=>z.2 (aN.mpr ⟨j,k0⟩)) k2 k3 k4 rx q4 λo' y f' rc' ry=>?_;obtain⟨mv,S4,a4⟩:=k5 o' u' f' rc';exact p _ _ a4 S4 _ (ry.mono mv)
   .exact p.elim
  .exact p.elim
 .exact p.elim
theorem uC{Y N0 L:Addr->Prop}{ns:Ns}{e:E3}{σ:St}{H:Hp}{m:Val->List Val->Option (Val×Val)}{A:MA3}{E:XK}{Q:VK}{R:V->Hp->Prop}(S:Sat K mg Y N0 ns e σ H)(p:PG3 K mg Y N0 ns e σ H E (KE K mg Y N0 L σ Q) (nI j m A e))
 (i:∀ov ns1 H1,Stp ns e H ns1 e H1->Sat K mg Y N0 ns1 e σ H1->σ[j]?=some (some ov)->tyV K "list" ov H1->PG3 K mg Y N0 ns1 e σ H1 E (KE K mg Y N0 L σ Q) ((A e).bind λts e1=>match dem e1 ts with
 |some (e2,vs)=>qJ j m vs e2
 |none=>.stuck)->R ov H1):PG3 K mg Y N0 ns e σ H E (KE K mg Y N0 L σ R) (dU j e):=by
 unfold nI at p;split at p
 .rename_i s0 q0;split at p
  .rename_i hz;obtain⟨u0,z1,z2⟩:=LK.mp hz;rw[pK q0 z1];exact λH1 ns1 a1 S1 ov ro=>i ov ns1 H1 a1 S1 ro (C1 (v:=u0) (S1.bor ro (by rw[q0];cases s0 <;> first |exact z1 |cases z1)) z2) (p.after S a1)
  .exact p.elim
 .exact p.elim
def IK{j:Nat}{name:Str}{id:String}{apos cpos:Pos}{r:V->List V->Hp->VK->Prop}{k:PMm}(hK:X.K=K)(slot:Slot "list" name id)(hty:typeOf (.builtin id)=pure (.type "method_descriptor"))(hm:MtM X id r)(hd:MmD K mg r k.G)(ho:DE K mg X ES o (af j))(ha:DA K mg X ES (e::es) A)(i_:attributeBase o name X.env (eval o X.env)=eval o X.env:=by rfl)(hfew:((backTo cpos (starEach (e::es) X.env)).all (λx=>!x.1)&&(backToKw cpos (keywordEach [] X.env)).all (λx=>x.1.isSome)&&decide ((e::es).length+([]:List Keyword).length+(if ([]:List Keyword).isEmpty then 0 else 1)<30))=true:=by rfl)(j':(apos.endLine==cpos.line)=true:=by rfl)(hs:starEach (e::es) X.env=(false,eval e X.env)::starEach es X.env:=by rfl)(c_:(backTo cpos (starEach es X.env)).any (·.1)=false:=by rfl):DE K mg X ES (.Call (.Attribute o name apos) (e::es) [] cpos) (g0 j k A):=by
 subst hK;exact
  ⟨PE.imp (vy NW slot hty hm ho.ok ha.ok i_ hfew j' hs c_) λσ H Q zz=>zz.el λY N0 L ns e S hl p=>
  ⟨Y,
   N0,L,ns,e,S,hl,uC S p λov ns1 H1 a1 S1 ro ty p1=>⟨ty,Y,N0,ns1,e,S1,PG3.imp p1 S1 λts e1 h_ H2 a2 S2 p2 xs r2=>by
   try dsimp only at p2
   split at p2
   .rename_i e2 vs q1;obtain⟨ns3,S3,a3,r3⟩:=iK S2 r2 q1;exact uR hd S3 ro r3 (p2.after S2 a3)
   .exact p2.elim⟩⟩⟩
def DD{j:Nat}{name:Str}{id:String}{apos cpos:Pos}{r:V->List V->Hp->VK->Prop}{k:PMm}(hK:X.K=K)(slot:Slot "list" name id)(hty:typeOf (.builtin id)=pure (.type "method_descriptor"))(hm:MtM X id r)(hd:MmD K mg r k.G)(ho:DE K mg X ES o (af j))(i_:attributeBase o name X.env (eval o X.env)=eval o X.env:=by rfl)(j':(apos.endLine==cpos.line)=true:=by rfl):DE K mg X ES (.Call (.Attribute o name apos) [] [] cpos) (lu j k):=by
 subst hK;exact⟨PE.imp (HP NW slot hty hm ho.ok i_ j') λσ H Q zz=>zz.el λY N0 L ns e S hl p=>
  ⟨Y,N0,L,ns,e,S,hl,uC S p λov ns1 H1 a1 S1 ro ty p1=>⟨ty,uR hd S1 ro .nil p1⟩⟩⟩
def Dp{name:Str}{id:String}{apos cpos:Pos}{r:V->List V->Hp->VK->Prop}{k:PMv}(hK:X.K=K)(slot:Slot "list" name id)(hty:typeOf (.builtin id)=pure (.type "method_descriptor"))(hm:MtM X id r)(hd:MtD K mg r k.G)(ho:DE K mg X ES o p)(ha:DA K mg X ES (e::es) A)(i_:attributeBase o name X.env (eval o X.env)=eval o X.env:=by rfl)(hfew:((backTo cpos (starEach (e::es) X.env)).all (λx=>!x.1)&&(backToKw cpos (keywordEach [] X.env)).all (λx=>x.1.isSome)&&decide ((e::es).length+([]:List Keyword).length+(if ([]:List Keyword).isEmpty then 0 else 1)<30))=true:=by rfl)(j':(apos.endLine==cpos.line)=true:=by rfl)(hs:starEach (e::es) X.env=(false,eval e X.env)::starEach es X.env:=by rfl)(c_:(backTo cpos (starEach es X.env)).any (·.1)=false:=by rfl):DE K mg X ES (.Call (.Attribute o name apos) (e::es) [] cpos) (mj k p A):=by
 subst hK;exact
  ⟨PE.imp (vy NW slot hty hm ho.ok ha.ok i_ hfew j' hs c_) λσ H Q zz=>zz.el λY N0 L ns e S hl p=>
  ⟨Y,
   N0,L,ns,e,S,hl,PG3.imp p S λt e1 ns1 H1 a1 S1 p1 x r1=>by
   try dsimp only at p1
   split at p1
   .rename_i hq;obtain⟨v0,z1,z2⟩:=LK.mp hq;refine⟨C1 (r1.sh S1 z1) z2,Y,N0,ns1,e1,S1,PG3.imp p1 S1 λts e2 h_ H2 a2 S2 p2 xs r2=>?_⟩;try dsimp only at p2
    split at p2
    .rename_i v vs q1 q2;split at p2
     .rename_i hv;exact hd _ _ _ _ _ _ _ ((r1.drop a2).sh S2 q1) hv (r2.sh S2 q2) (p2.bv S2 λa z=>hl a (a1.dom a (a2.dom a z)))
     .exact p2.elim
    .exact p2.elim
   .exact p1.elim⟩⟩
end
noncomputable def gU:Sl->Sl
 |.ow v=>.lo v
 |.mu v=>.lm v
 |s=>s
noncomputable def iJ:Sl->Sl
 |.lo v=>.ow v
 |.lm v=>.mu v
 |s=>s
noncomputable def lock (e:E3) (k:Nat):E3:=match e[k]? with
 |some s=>e.set k (gU s)
 |none=>e
noncomputable def unlock (e:E3) (k:Nat):E3:=match e[k]? with
 |some s=>e.set k (iJ s)
 |none=>e
noncomputable def lockO (e:E3):Option Nat->E3
 |some k=>lock e k
 |none=>e
noncomputable def eC (e:E3):Option Nat->E3
 |some k=>unlock e k
 |none=>e
section
variable{K:W.Frag}{mg:Pa}{X N0:Addr->Prop}{ns ns':Ns}{e e':E3}{σ:St}{H H':Hp}
def SlR.lock(r:SlR K mg P N0 n d H s):SlR K mg P N0 n d H (gU s):=by cases s <;> exact r
def SlR.unlock(r:SlR K mg P N0 n d H s):SlR K mg P N0 n d H (iJ s):=by cases s <;> exact r
def Sat.setS(S:Sat K mg X N0 ns e σ H)(q:e[k]?=some s)(f:Sl->Sl)(hf:SlR K mg (Oc X ns) N0 (ns[k]?) (σ[k]?) H s->SlR K mg (Oc X ns) N0 (ns[k]?) (σ[k]?) H (f s)):Sat K mg X N0 ns (e.set k (f s)) σ H:=by
 have hi:=(D_.mp q).1;refine⟨by rw[L9];exact S.l1,by rw[L9];exact S.l2,S.lh,S.xl,S.inj,S.nx,λj s' qj=>?_,S.bs⟩;rcases bC hi qj with ⟨rfl,rfl⟩ |⟨z,qj'⟩
 .exact hf (S.sl j s q)
 .exact S.sl j s' qj'
def Sat.lock(S:Sat K mg X N0 ns e σ H)(k:Nat):Sat K mg X N0 ns (lock e k) σ H:=by
 unfold L3.lock;split
 .rename_i s q;exact S.setS q gU SlR.lock
 .exact S
def Sat.unlock(S:Sat K mg X N0 ns e σ H)(k:Nat):Sat K mg X N0 ns (unlock e k) σ H:=by
 unfold L3.unlock;split
 .rename_i s q;exact S.setS q iJ SlR.unlock
 .exact S
def Sat.lockO(S:Sat K mg X N0 ns e σ H)(k:Option Nat):Sat K mg X N0 ns (lockO e k) σ H:=by
 cases k with
 |none=>exact S
 |some k=>exact S.lock k
def iH(z:j≠k):(lock e k)[j]?=e[j]?:=by
 unfold lock;split
 .rw[cz z]
 .rfl
def fL(z:j≠k):(unlock e k)[j]?=e[j]?:=by
 unfold unlock;split
 .rw[cz z]
 .rfl
def nM(q:e[k]?=some s):(lock e k)[k]?=some (gU s):=by unfold lock;rw[q];exact cU (D_.mp q).1
def gS(q:e[k]?=some s):(unlock e k)[k]?=some (iJ s):=by unfold unlock;rw[q];exact cU (D_.mp q).1
def Stp.unlock(q:e[k]?=some s)(hs:s.mt=true)(a:Stp ns (L3.lock e k) H ns' e' H'):Stp ns e H ns' (L3.unlock e' k) H':=by
 have hl:(gU s).lk=true:=by cases s <;> first |rfl |cases hs
 have hu:iJ (gU s)=s:=by cases s <;> first |rfl |cases hs
 obtain⟨qk,nk⟩:=a.lk k _ (nM q) hl;refine⟨a.le,a.dom,λm o qm ht hM=>a.keep m o qm ht λ⟨j,s',z1,z2,z3⟩=>hM ?_,a.nw,λj s' qj hj=>?_,λj s' qj hj=>?_,λj v qj=>?_,λj v qj=>?_⟩
 .by_cases z:j=k
  .subst z;exact⟨j,s,z1,q,hs⟩
  .rw[iH z] at z2;exact⟨j,s',z1,z2,z3⟩
 .have z:j≠k:=λz=>by subst z;rw[q] at qj;cases qj;cases s <;> first |cases hs;done |cases hj;done
  rw[fL z];exact a.lk j s' (by rw[iH z];exact qj) hj
 .have z:j≠k:=λz=>by subst z;rw[gS qk,hu] at qj;cases qj;cases s <;> first |cases hs;done |cases hj;done
  rw[fL z] at qj;obtain⟨y1,y2⟩:=a.lk' j s' qj hj;rw[iH z] at y1;exact⟨y1,y2⟩
 .by_cases z:j=k
  .subst z;rw[gS qk,hu] at qj;cases qj;exact⟨v,q,nk⟩
  .rw[fL z] at qj;obtain⟨u,y1,y2⟩:=a.mu j v qj;rw[iH z] at y1;exact⟨u,y1,y2⟩
 .by_cases z:j=k
  .subst z;rw[q] at qj;cases qj;exact⟨v,by rw[gS qk,hu],nk⟩
  .obtain⟨u,y1,y2⟩:=a.mu' j v (by rw[iH z];exact qj);exact⟨u,by rw[fL z];exact y1,y2⟩
end
abbrev MI3:=E3->R3 (List Val×Option Nat)
noncomputable def fY:Val->Option (List Val)
 |.tup xs=>some xs
 |.lst xs=>some xs
 |_=>none
noncomputable def ia (t:Tm) (e:E3):Option (List Val×Option Nat):=match t with
 |.val v=>(fY v).map λxs=>(xs,none)
 |.new v=>(fY v).map λxs=>(xs,none)
 |.bor k=>match e[k]? with
  |some (.sh v)=>(fY v).map λxs=>(xs,none)
  |some (.ow (.lst xs))=>some (xs,some k)
  |some (.mu (.lst xs))=>some (xs,some k)
  |_=>none
noncomputable def Lf (F:ME3) (e:E3):R3 (List Val×Option Nat):=(F e).bind λt e1=>match ia t e1 with
 |some p=>.ok p e1
 |none=>.stuck
noncomputable def JU (A:MA3) (e:E3):R3 (List Val×Option Nat):=(A e).bind λts e1=>match ts with
 | [t,u]=>(match ia t e1,ia u e1 with
  |some (xs,k),some (ys,none)=>.ok (List.zipWith (λx y=>.tup [x,y]) xs ys,k) e1
  |_,_=>.stuck)
 |_=>.stuck
noncomputable def eS (lo:Int) (k:Nat):List Val:=(List.range k).map λi=>Val.int (lo+(i:Nat))
structure RgB(j:Int):Prop where
 lo:-(2^62)<=j
 hi:j<2^62
def iZ:List Val->Option (List Val)
 | [.int j]=>@ite _ (RgB j) (Classical.propDecidable _) (some (eS 0 j.toNat)) none
 |_=>none
def kT:List Val->Option (List Val)
 | [.int i,.int j]=>@ite _ (RgB i/\RgB j) (Classical.propDecidable _) (some (eS i (j-i).toNat)) none
 |_=>none
noncomputable def viRg (f:List Val->Option (List Val)) (A:MA3) (e:E3):R3 (List Val×Option Nat):=(A e).bind λts e1=>match (rss e1 ts).bind f with
 |some xs=>.ok (xs,none) e1
 |none=>.stuck
noncomputable def SR3.loop (r:SR3) (f:E3->SR3):SR3:=match r with
 |.nx e=>f e
 |.ct e=>f e
 |.bk e=>.nx e
 |.rt d e=>.rt d e
 |.exc c e=>.exc c e
 |.stuck=>.stuck
noncomputable def dk (g:MG3) (B:MS3):List Val->MS3
 | [],e=>.nx e
 |v::vs,e=>match g v e with
  |some e1=>(B e1).loop (dk g B vs)
  |none=>.stuck
noncomputable def SR3.unl (k:Option Nat) (r:SR3):SR3:=match r with
 |.nx e=>.nx (eC e k)
 |.ct e=>.ct (eC e k)
 |.bk e=>.bk (eC e k)
 |.rt d e=>.rt d (eC e k)
 |.exc c e=>.exc c (eC e k)
 |.stuck=>.stuck
noncomputable def wFor (I:MI3) (g:MG3) (B:MS3) (e:E3):SR3:=(I e).toS λp e1=>(dk g B p.1 (lockO e1 p.2)).unl p.2
noncomputable def whV (c:MT3) (B:MS3):Nat->MS3
 |0,_=>.stuck
 |k+1,e=>(c e).toS λb e1=>if b=true then (B e1).loop (whV c B k) else .nx e1
open Classical in
def wWh(c:MT3)(B:MS3):MS3:=λe=>if q:∃k,whV c B k e ≠ .stuck then whV c B q.choose e else .stuck
theorem kE{c:MT3}{B:MS3}:∀{k:Nat}{e:E3},whV c B k e ≠ .stuck->whV c B (k+1) e=whV c B k e
 |0,_,q=>absurd rfl q
 |
  k+1,e,q=>by
  have e1:whV c B (k+2) e=(c e).toS λb e1=>if b=true then (B e1).loop (whV c B (k+1)) else .nx e1:=rfl
  have e2:whV c B (k+1) e=(c e).toS λb e1=>if b=true then (B e1).loop (whV c B k) else .nx e1:=rfl
  rw[e2] at q;rw[e1,e2];cases r:c e with
  |exc _ _=>rfl
  |stuck=>rfl
  |
   ok b h1=>
   rw[r] at q;cases b with
   |false=>rfl
   |
    true=>
    have q':(B h1).loop (whV c B k) ≠ .stuck:=q;show (B h1).loop (whV c B (k+1))=(B h1).loop (whV c B k);cases s:B h1 with
    |nx a2=>rw[s] at q';exact kE q'
    |ct a2=>rw[s] at q';exact kE q'
    |_=>rfl
def wW{c:MT3}{B:MS3}{k j:Nat}{e:E3}(q:whV c B k e ≠ .stuck)(hj:k<=j):whV c B j e=whV c B k e:=by
 induction hj with
 |refl=>rfl
 |step _ ih=>rw[kE (by rw[ih];exact q),ih]
def lQ{c:MT3}{B:MS3}{k:Nat}{e:E3}(q:whV c B k e ≠ .stuck):wWh c B e=whV c B k e:=by
 have hq:∃k,whV c B k e ≠ .stuck:=⟨k,q⟩;unfold wWh;rw[dif_pos hq];rcases Nat.le_total hq.choose k with z |z
 .exact (wW hq.choose_spec z).symm
 .exact wW q z
def zA(c:MT3)(B:MS3)(e:E3):wWh c B e=(c e).toS λb e1=>if b=true then (B e1).loop (wWh c B) else .nx e1:=by
 by_cases q:∃k,whV c B k e ≠ .stuck
 .obtain⟨k,q⟩:=q;rw[lQ q];cases k with
  |zero=>exact absurd rfl q
  |
   succ k=>
   have e2:whV c B (k+1) e=(c e).toS λb e1=>if b=true then (B e1).loop (whV c B k) else .nx e1:=rfl
   rw[e2] at q ⊢;cases r:c e with
   |exc _ _=>rfl
   |stuck=>rfl
   |
    ok b h1=>
    rw[r] at q;cases b with
    |false=>rfl
    |
     true=>
     have q':(B h1).loop (whV c B k) ≠ .stuck:=q;show (B h1).loop (whV c B k)=(B h1).loop (wWh c B);cases s:B h1 with
     |nx a2=>rw[s] at q';exact (lQ q').symm
     |ct a2=>rw[s] at q';exact (lQ q').symm
     |_=>rfl
 .have e0:wWh c B e=.stuck:=by unfold wWh;rw[dif_neg q]
  rw[e0];have hs:∀k,whV c B (k+1) e=.stuck:=λk=>Classical.byContradiction λz=>q ⟨_,z⟩;cases r:c e with
  |stuck=>rfl
  |
   exc c' h'=>
   have:=hs 0
   unfold whV at this;rw[r] at this;cases this
  |
   ok b h1=>
   cases b with
   |
    false=>
    have:=hs 0
    unfold whV at this;rw[r] at this;cases this
   |
    true=>
    have h2:∀k,(B h1).loop (whV c B k)=.stuck:=λk=>by
     have:=hs k
     unfold whV at this;rw[r] at this;exact this
    show SR3.stuck=(B h1).loop (wWh c B);have lim:∀a2,(∀k,whV c B k a2=.stuck)->wWh c B a2=.stuck:=λa2 z=>by unfold wWh;rw[dif_neg (λ⟨k,y⟩=>y (z k))]
    cases s:B h1 with
    |nx a2=>rw[s] at h2;exact (lim a2 h2).symm
    |ct a2=>rw[s] at h2;exact (lim a2 h2).symm
    |stuck=>rfl
    |_=>have:=h2 0;rw[s] at this;cases this
structure PIt where
 t:Nat
 G:MI3
noncomputable def bB (a:PEx):PIt:=⟨1,Lf a.G⟩
def j6(a:PAs):PIt:=⟨2,viRg iZ a.G⟩
def j8(a:PAs):PIt:=⟨3,viRg kT a.G⟩
noncomputable def oZ (a:PAs):PIt:=⟨5,JU a.G⟩
noncomputable def fB (i:PIt) (g:PGt) (b:PSt):PSt:=⟨16,wFor i.G g.G b.G⟩
def xWh(c:PTs)(b:PSt):PSt:=⟨17,wWh c.G b.G⟩
section
variable(K:W.Frag)(mg:Pa)
structure Kp(X:Addr->Prop)(ns:Ns)(k:Option Nat)(H0:Hp)(P:Addr->Prop)(H:Hp):Prop where
 mov:Mov (Oc X ns) P H0 H
 lk:∀(j:Nat) (a:Addr) (o:HO),k=some j->ns[j]?=some (some a)->H0 a=some o->nu o->H a=some o
def Kp.refl:Kp X ns k H (Oc X ns) H:=⟨.of λ_ z=>z,λ_ _ _ _ _ q _=>q⟩
def ItS(X:Addr->Prop)(ns:Ns)(k:Option Nat)(H0:Hp)(J:It)(us:List Val):Prop:=∀P H,Kp X ns k H0 P H->(∀(i:Nat) v,us[i]?=some v->J.go i H/\∀x H',J.yld i H x H'->Gr H H'/\Rd K mg P H' x v)/\J.stop us.length H
def gY(X:Addr->Prop)(ns:Ns)(k:Option Nat)(H0:Hp)(b:Bool)(a:Addr)(us:List Val):Prop:=∀P H,Kp X ns k H0 P H->∃vs,SqB K b H a vs/\Rds K mg P H vs us
def rdI(ES:St->XK)(I:MI3):TI:=λσ H R=>∃X N0 ns e,Sat K mg X N0 ns e σ H/\PG3 K mg X N0 ns e σ H (ES σ) (λp e' ns' H'=>∀J,ItS K mg X ns' p.2 H' J p.1->(∀k,p.2=some k->∃s,e'[k]?=some s/\s.mt=true)->R J H') (I e)
def rdI.el{K:W.Frag}{mg:Pa}{I:MI3}{R:It->Hp->Prop}(h:rdI K mg ES I σ H R){Z:Prop}(k:∀X N0 ns e,Sat K mg X N0 ns e σ H->PG3 K mg X N0 ns e σ H (ES σ) (λp e' ns' H'=>∀J,ItS K mg X ns' p.2 H' J p.1->(∀k,p.2=some k->∃s,e'[k]?=some s/\s.mt=true)->R J H') (I e)->Z):Z:=by obtain⟨X,N0,ns,e,S,p⟩:=h;exact k X N0 ns e S p
structure DI(X:Cx)(ES:St->XK)(tg iter:Expr)(F:PIt):Prop where
 ok:PI X tg iter (rdI K mg ES F.G)
end
noncomputable def ItA (K:W.Frag) (b:Bool) (a:Addr):It:=match b with
 |true=>Itl K a
 |false=>Itt K a
section
variable{K:W.Frag}{mg:Pa}{X N0 L:Addr->Prop}{ns ns1 ns':Ns}{e e1 e':E3}{σ:St}{H H1 H':Hp}{De:Ends}{ES:St->XK}
def Dt{x:V}{v:Val}(r:Rd K mg (Oc X ns) H x v)(q:fY v=some us):∃b a,x=.ref a/\∀k,gY K mg X ns k H b a us:=by
 cases v with
 |tup ys=>cases q;obtain⟨a,vs,rfl,h,rr⟩:=ShR.tup (.inl r);exact⟨false,a,rfl,λ_ P H' st=>⟨vs,st.mov.le.sqT h,rr.mono st.mov⟩⟩
 |
  lst ys=>
  cases q;cases r with
  |cell p eo rc=>cases rc with |lst rr=>exact⟨true,_,rfl,λ_ P H' st=>⟨_,SqL.of (st.mov.cl _ _ p eo (λ_ z=>nomatch z)).2,rr.mono st.mov⟩⟩
 |_=>cases q
def pR{x:V}{t:Tm}{p:List Val×Option Nat}(S:Sat K mg X N0 ns e σ H)(r:relE K mg X N0 L σ ns e H x t)(q:ia t e=some p):∃b a,x=.ref a/\gY K mg X ns p.2 H b a p.1/\(p.2=none->∀k,gY K mg X ns k H b a p.1)/\∀k:Nat,p.2=some k->∃s,e[k]?=some s/\s.mt=true:=by
 have fv:∀{v us},Rd K mg (Oc X ns) H x v->fY v=some us->∃b a,x=.ref a/\gY K mg X ns none H b a us/\((none:Option Nat)=none->∀k,gY K mg X ns k H b a us)/\∀k:Nat,none=some k->∃s,e[k]?=some s/\s.mt=true:=λr q=>by obtain⟨b,a,h1,h2⟩:=Dt r q;exact⟨b,a,h1,h2 _,λ_=>h2,λ_ z=>nomatch z⟩
 cases t with
 |val v=>obtain⟨xs,q1,rfl⟩:=LK.mp q;exact fv r q1
 |new v=>obtain⟨xs,q1,rfl⟩:=LK.mp q;exact fv r.new q1
 |
  bor k=>
  have r':σ[k]?=some (some x):=r;have own:∀{s xs},e[k]?=some s->s.mv=some (.lst xs)->∃b a,x=.ref a/\gY K mg X ns (some k) H b a xs/\(some k=none->∀k,gY K mg X ns k H b a xs)/\∀j:Nat,some k=some j->∃s,e[j]?=some s/\s.mt=true:=λ{s xs} q qm=>by
   obtain⟨n,o,k1,k0,k2,k3,k4,_⟩:=S.write q qm;rw[r'] at k1;cases k1;have hm:s.mt=true:=by cases s <;> first |rfl |cases qm
   refine⟨true,n,rfl,λP H' st=>?_,λz=>(nomatch z),λj z=>by cases z;exact⟨s,q,hm⟩⟩;cases k4 with
   |lst rr=>exact⟨_,SqL.of (st.lk k n _ rfl k0 k2 λ_ z=>nomatch z),rr.mono st.mov⟩
  unfold ia at q;dsimp only at q;split at q
  .rename_i v qs;obtain⟨_,x',e2,r2⟩:=S.sl k _ qs;rw[r'] at e2;cases e2;obtain⟨xs,q1,rfl⟩:=LK.mp q;exact fv r2 q1
  .rename_i xs qs;cases q;exact own qs rfl
  .rename_i xs qs;cases q;exact own qs rfl
  .cases q
def ItS.seq(s:gY K mg X ns k H b a us):ItS K mg X ns k H (ItA K b a) us:=λP H' st=>by
 obtain⟨vs,h,r⟩:=s P H' st;cases b with
 |true=>refine⟨λi v q=>?_,vs,h,by rw[r.len];exact v_ _⟩;obtain⟨x,ex,rx⟩:=r.get q;exact⟨⟨vs,x,h,ex⟩,λy H2 ⟨e1,z⟩=>by subst e1;have:=(z vs h).symm.trans ex;cases this;exact⟨.refl,rx⟩⟩
 |false=>refine⟨λi v q=>?_,vs,h,by rw[r.len];exact v_ _⟩;obtain⟨x,ex,rx⟩:=r.get q;exact⟨⟨vs,x,h,ex⟩,λy H2 ⟨e1,z⟩=>by subst e1;have:=(z vs h).symm.trans ex;cases this;exact⟨.refl,rx⟩⟩
def ItS.zip(s:gY K mg X ns k H b a us)(t:gY K mg X ns k H c d ws):ItS K mg X ns k H (ItZ K b c a d) (List.zipWith (λx y=>.tup [x,y]) us ws):=λP H' st=>by
 obtain⟨vs,h,r⟩:=s P H' st;obtain⟨xs,h',r'⟩:=t P H' st;refine⟨λi v q=>?_,vs,xs,h,h',?_⟩
 .rw[M8] at q;cases k1:us[i]? with
  |none=>rw[k1] at q;cases q
  |
   some u=>
   cases k2:ws[i]? with
   |none=>rw[k1,k2] at q;cases q
   |
    some w=>
    rw[k1,k2] at q;cases q;obtain⟨x,ex,rx⟩:=r.get k1;obtain⟨x',ex',rx'⟩:=r'.get k2;refine⟨⟨vs,xs,x,x',h,h',ex,ex'⟩,λy H2 ⟨p,f,f',e1,hp,e2,hf,hf'⟩=>?_⟩;subst e1 e2
    have:=(hf vs h).symm.trans ex
    cases this
    have:=(hf' xs h').symm.trans ex'
    cases this;exact⟨.upd hp,.tup (SqT.of aR) (.cons (rx.mono (Gr.upd hp).mov) (.cons (rx'.mono (Gr.upd hp).mov) .nil))⟩
 .rw[M0,<- r.len,<- r'.len];rcases Nat.le_total vs.length xs.length with z |z
  .left;rw[Om z];exact List.getElem?_eq_none (v_ _)
  .right;rw[Nat.min_eq_right z];exact List.getElem?_eq_none (v_ _)
def ItS.nums{f:Nat->Int}{k:Nat}{J:It}(h1:∀i H,i<k->J.go i H/\∀x H',J.yld i H x H'->H'=H/\x=V.int (f i))(h2:∀H,J.stop k H):ItS K mg X ns kk H J ((List.range k).map λi=>Val.int (f i)):=λP H' st=>by refine⟨λi v q=>?_,by rw[q_,z_];exact h2 _⟩;rw[LL] at q;obtain⟨j,hj,rfl⟩:=LK.mp q;obtain⟨hj1,hj2⟩:=D_.mp hj;rw[List.getElem_range] at hj2;subst hj2;rw[z_] at hj1;obtain⟨g,y⟩:=h1 i H' hj1;exact⟨g,λx H2 z=>by obtain⟨rfl,rfl⟩:=y x H2 z;exact⟨.refl,.int _⟩⟩
def ItS.rng(lo:Int)(k:Nat):ItS K mg X ns kk H (Itr lo k) (eS lo k):=ItS.nums (λi H hi=>⟨hi,λx H' z=>z⟩) λH=>v_ _
def Cf{k:Option Nat}(S:Sat K mg X N0 ns e σ H)(hk:∀j:Nat,k=some j->∃s,e[j]?=some s/\s.mt=true)(a:Stp ns (lockO e k) H ns' e' H'):Kp X ns k H (Oc X ns') H':=⟨a.mov,λj n o hj hn q ht=>by
 subst hj;refine a.keep n o q ht λ⟨i,s,z1,z2,z3⟩=>?_
 have:=S.inj i j n z1 hn
 subst this;obtain⟨s',y1,y2⟩:=hk i rfl;have:(lockO e (some i))[i]?=some (gU s'):=nM y1;rw[this] at z2;cases z2;cases s' <;> first |cases y2;done |cases z3;done⟩
def PS3.unl{k:Option Nat}{r:SR3}(hk:∀j:Nat,k=some j->∃s,e[j]?=some s/\s.mt=true)(p:PS3 K mg X N0 ns e H De ES (r.unl k)):PS3 K mg X N0 ns (lockO e k) H De ES r:=by
 cases k with
 |none=>cases r <;> exact p
 |
  some j=>
  obtain⟨s,y1,y2⟩:=hk j rfl;cases r with
  |stuck=>exact p
  |nx e'=>exact λH' σ' ns' a S=>p H' σ' ns' (a.unlock y1 y2) (S.unlock j)
  |bk e'=>exact λH' σ' ns' a S=>p H' σ' ns' (a.unlock y1 y2) (S.unlock j)
  |ct e'=>exact λH' σ' ns' a S=>p H' σ' ns' (a.unlock y1 y2) (S.unlock j)
  |exc c e'=>exact λH' σ' ns' C a S=>p H' σ' ns' C (a.unlock y1 y2) (S.unlock j)
  |
   rt r e'=>
   refine λH' σ' ns' x a q2=>p H' σ' ns' x (a.unlock y1 y2) ?_;cases r with
   |val v=>exact⟨q2.1.unlock j,q2.2⟩
   |new v=>obtain⟨n,o,z1,z2,z3,z4,z5,z6,z7⟩:=q2;exact⟨n,o,z1,z2,z3,z4,z5,z6.unlock j,z7⟩
   |
    par i=>
    obtain⟨z1,z2,v,z3⟩:=q2;refine⟨z1.unlock j,z2,v,?_⟩;by_cases z:i=j
    .subst z;exact gS z3
    .exact (fL z).trans z3
   |pr v u=>obtain⟨p,d1,n,o,z1,z2,z3,z4,z5,z6,z7,z8⟩:=q2;exact⟨p,d1,n,o,z1,z2,z3,z4,z5,z6,z7.unlock j,z8⟩
def PS3.toB{α:Type}{r:R3 α}{f:α->E3->SR3}{k:α->E3->Ns->Hp->Prop}{ns0:Ns}{e0:E3}{σ0:St}{H0:Hp}(p:PS3 K mg X N0 ns0 e0 H0 De ES (r.toS f))(S0:Sat K mg X N0 ns0 e0 σ0 H0)(a0:Stp ns0 e0 H0 ns e H)
 (i:∀t e1 ns1 H1,Stp ns0 e0 H0 ns1 e1 H1->Sat K mg X N0 ns1 e1 σ H1->PS3 K mg X N0 ns0 e0 H0 De ES (f t e1)->k t e1 ns1 H1):PG3 K mg X N0 ns e σ H (ES σ) k r:=by
 cases r with
 |stuck=>exact p
 |exc c e'=>exact λH' ns' C a S' m=>p H' σ ns' C (a0.trans S0 a) S' m
 |ok t e'=>exact λH' ns' a S'=>i t e' ns' H' (a0.trans S0 a) S' p
def PS3.loop{ns0:Ns}{e0:E3}{σ0:St}{H0:Hp}{r:SR3}{f:E3->SR3}{N:St->Hp->Prop}(p:PS3 K mg X N0 ns0 e0 H0 De ES (r.loop f))(S0:Sat K mg X N0 ns0 e0 σ0 H0)(a0:Stp ns0 e0 H0 ns e H)
 (i:∀e1 ns1 σ1 H1,Stp ns0 e0 H0 ns1 e1 H1->Sat K mg X N0 ns1 e1 σ1 H1->PS3 K mg X N0 ns0 e0 H0 De ES (f e1)->N σ1 H1):PS3 K mg X N0 ns e H { De with nx:=N,ct:=N,bk:=De.nx } ES r:=by
 cases r with
 |nx e'=>exact λH' σ' ns' b S'=>i e' ns' σ' H' (a0.trans S0 b) S' p
 |ct e'=>exact λH' σ' ns' b S'=>i e' ns' σ' H' (a0.trans S0 b) S' p
 |bk e'=>exact λH' σ' ns' b S'=>p H' σ' ns' (a0.trans S0 b) S'
 |exc c e'=>exact λH' σ' ns' C b S'=>p H' σ' ns' C (a0.trans S0 b) S'
 |rt r e'=>exact λH' σ' ns' x b S'=>p H' σ' ns' x (a0.trans S0 b) S'
 |stuck=>exact p
end
section
variable{K:W.Frag}{mg:Pa}{X:Cx}{ES:St->XK}{e a b c tg iter:Expr}{elts:List Expr}{sts:List Stmt}{p:PEx}{A:PAs}{t:PTs}{x:PSt}{g:PGt}{I:PIt}{pos p0 tp:Pos}
def GD(hK:X.K=K)(he:DE K mg X ES e p):DI K mg X ES tg e (bB p):=by
 subst hK;exact⟨PI.imp (Hf he.ok) λσ H R zz=>rdI.el zz λY N0 ns e S q=>⟨Y,N0,λ_=>True,ns,e,S,λ_ _=>trivial,PG3.imp q S λt e1 ns1 H1 a1 S1 p1 x r1=>by
  try dsimp only at p1
  split at p1
  .rename_i w z;obtain⟨b,a,rfl,s,_,hk⟩:=pR S1 r1 z;have k:=p1.ret S1 _ (ItS.seq s) hk;obtain⟨vs,hv,_⟩:=s _ _ .refl;cases b with
   |true=>exact .inl ⟨a,rfl,⟨vs,hv⟩,k⟩
   |false=>exact .inr ⟨a,rfl,⟨vs,hv⟩,k⟩
  .exact p1.elim⟩⟩
def tsr1{Y:Addr->Prop}{ns:Ns}{σ:St}{H:Hp}{xs:List V}{t:Tm}(N0 L:Addr->Prop)(e:E3)(r:TsR K mg Y ns σ H xs [t]):∃x,xs=[x]/\relE K mg Y N0 L σ ns e H x t:=by
 cases r with
 |val r rr=>cases rr;exact⟨_,rfl,r⟩
 |bor r rr=>cases rr;exact⟨_,rfl,r⟩
def tsr2{Y:Addr->Prop}{ns:Ns}{σ:St}{H:Hp}{xs:List V}{t u:Tm}(N0 L:Addr->Prop)(e:E3)(r:TsR K mg Y ns σ H xs [t,u]):∃x y,xs=[x,y]/\relE K mg Y N0 L σ ns e H x t/\relE K mg Y N0 L σ ns e H y u:=by
 cases r with
 |val r rr=>obtain⟨y,rfl,r'⟩:=tsr1 N0 L e rr;exact⟨_,_,rfl,r,r'⟩
 |bor r rr=>obtain⟨y,rfl,r'⟩:=tsr1 N0 L e rr;exact⟨_,_,rfl,r,r'⟩
def Gx(hK:X.K=K)(hg:Gl X "zip")(hm:mg "zip"=none)(ha:DA K mg X ES [a,b] A)(hk:X.mg=mg:=by rfl)(hs:starEach [a,b] X.env=[(false,eval a X.env),(false,eval b X.env)]:=by rfl)(hs2:starEach [b] X.env=[(false,eval b X.env)]:=by rfl):DI K mg X ES (.Tuple elts x1 tp) (.Call (.Name "zip" p0) [a,b] [] pos) (oZ A):=by
 subst hk hK;exact
  ⟨PI.imp (Gi hg hm ha.ok hs hs2) λσ H R zz=>rdI.el zz λY N0 ns e S q=>⟨Y,N0,ns,e,S,PG3.imp q S λts e1 ns1 H1 a1 S1 p1 xs r1=>by
  try dsimp only at p1
  split at p1
  .rename_i t u;obtain⟨x,y,rfl,r,r'⟩:=tsr2 N0 N0 e1 r1;split at p1
   .rename_i us k ws z z';obtain⟨b,a,rfl,s,_,hk⟩:=pR S1 r z;obtain⟨c,d,rfl,_,s',_⟩:=pR S1 r' z';have s2:=s' rfl k;obtain⟨vs,hv,_⟩:=s _ _ .refl;obtain⟨vs',hv',_⟩:=s2 _ _ .refl;exact⟨b,c,a,d,vs,vs',rfl,hv,hv',p1.ret S1 _ (ItS.zip s s2) hk⟩
   .exact p1.elim
  .exact p1.elim⟩⟩
def cP{P:Addr->Prop}(r:ShRs K mg P H xs [v]):∃x,xs=[x]/\ShR K mg P H x v:=by cases r with |cons r rr=>cases rr;exact⟨_,rfl,r⟩
def o3{P:Addr->Prop}(r:ShRs K mg P H xs [v,u]):∃x y,xs=[x,y]/\ShR K mg P H x v/\ShR K mg P H y u:=by cases r with |cons r rr=>cases rr with |cons r' rr=>cases rr;exact⟨_,_,rfl,r,r'⟩
def xy(hg:Gl X "range")(hm:mg "range"=none)(ha:DA K mg X ES [a] A)(hk:X.mg=mg:=by rfl)(hs:starEach [a] X.env=[(false,eval a X.env)]:=by rfl):DI K mg X ES tg (.Call (.Name "range" p0) [a] [] pos) (j6 A):=by
 subst hk;exact
  ⟨PI.imp (yg hg hm ha.ok hs) λσ H R zz=>rdI.el zz λY N0 ns e S q=>⟨Y,N0,ns,e,S,PG3.imp q S λts e1 ns1 H1 a1 S1 p1 xs r1=>by
  try dsimp only at p1
  split at p1
  .rename_i us z;obtain⟨vs,z1,z2⟩:=LS.mp z;have rr:=r1.sh S1 z1;unfold iZ at z2;split at z2
   .split at z2
    .rename_i hb;cases z2;obtain⟨x,rfl,r⟩:=cP rr;obtain rfl:=r.int;exact⟨_,rfl,hb.lo,hb.hi,p1.ret S1 _ (ItS.rng _ _) λ_ z=>nomatch z⟩
    .cases z2
   .cases z2
  .exact p1.elim⟩⟩
def zr(hg:Gl X "range")(hm:mg "range"=none)(ha:DA K mg X ES [a,b] A)(hk:X.mg=mg:=by rfl)(hs:starEach [a,b] X.env=[(false,eval a X.env),(false,eval b X.env)]:=by rfl)(hs2:starEach [b] X.env=[(false,eval b X.env)]:=by rfl):DI K mg X ES tg (.Call (.Name "range" p0) [a,b] [] pos) (j8 A):=by
 subst hk;exact
  ⟨PI.imp (yS hg hm ha.ok hs hs2) λσ H R zz=>rdI.el zz λY N0 ns e S q=>⟨Y,N0,ns,e,S,PG3.imp q S λts e1 ns1 H1 a1 S1 p1 xs r1=>by
  try dsimp only at p1
  split at p1
  .rename_i us z;obtain⟨vs,z1,z2⟩:=LS.mp z;have rr:=r1.sh S1 z1;unfold kT at z2;split at z2
   .split at z2
    .rename_i hb;cases z2;obtain⟨x,y,rfl,r,r'⟩:=o3 rr;obtain rfl:=r.int;obtain rfl:=r'.int;exact⟨_,_,rfl,⟨hb.1.lo,hb.1.hi,hb.2.lo,hb.2.hi⟩,p1.ret S1 _ (ItS.rng _ _) λ_ z=>nomatch z⟩
    .cases z2
   .cases z2
  .exact p1.elim⟩⟩
def zu(hp:PassesOwn (model X.prog X.w) X.A X.env X.xe)(hc:X.calm=true)(hi:DI K mg X ES tg iter I)(hg:DG K mg X tg g)(hb:DSs K mg X ES sts x)(hs:∀x,foldedSetIterable iter X.env x=pure x:=by intro _;rfl):DS K mg X ES (.For tg iter sts [] pos) (fB I g x):=
 ⟨PS.imp (Hx hp hc hi.ok hg.ok hb.ok hs) λD σ H zz=>zz.el λY N0 ns e S p=>⟨Y,N0,ns,e,S,PS3.toS p S λw e1 ns1 H1 a1 S1 p1 J it hk=>by
  have p2:=PS3.unl hk (PS3.after p1 S a1);have S2:=S1.lockO w.2;refine⟨λi m σ' H'=>m=w.1.length-i/\i<=w.1.length/\∃ns' e',Stp ns1 (lockO e1 w.2) H1 ns' e' H'/\Sat K mg Y N0 ns' e' σ' H'/\PS3 K mg Y N0 ns1 (lockO e1 w.2) H1 D ES (dk g.G x.G (w.1.drop i) e'),⟨_,rfl,Mi _,ns1,_,.refl,S2,p2⟩,?_⟩;rintro i m σ' H' ⟨rfl,hi,ns',e',a',S',p'⟩;by_cases hl:i=w.1.length
  .subst hl;rw[List.drop_length] at p';exact .inl ⟨(it _ _ (Cf S1 hk a')).2,p' H' σ' ns' a' S'⟩
  .have hl':i<w.1.length:=by omega
   rw[NN hl'] at p';unfold dk at p';obtain⟨go,yl⟩:=(it _ _ (Cf S1 hk a')).1 i _ (x_ hl');split at p'
   .rename_i e2 q;refine .inr ⟨go,λσ2 H2=>i+1<=w.1.length/\∃ns' e',Stp ns1 (lockO e1 w.2) H1 ns' e' H2/\Sat K mg Y N0 ns' e' σ2 H2/\PS3 K mg Y N0 ns1 (lockO e1 w.2) H1 D ES (dk g.G x.G (w.1.drop (i+1)) e'),λσ2 H2 n=>⟨_,by omega,rfl,n⟩,λv H2 y=>?_⟩;obtain⟨gr,r⟩:=yl v H2 y;have a2:=a'.trans S2 (.gr gr);exact⟨Y,N0,ns',e',_,e2,S'.gr gr,r,q,λσ3 ns3 a3 S3=>⟨Y,N0,ns3,e2,S3,PS3.loop p' S2 (a2.trans S2 a3) λe4 ns4 σ4 H4 a4 S4 p4=>⟨hl',ns4,e4,a4,S4,p4⟩⟩⟩
   .exact p'.elim⟩⟩
def Ak(hp:PassesOwn (model X.prog X.w) X.A X.env X.xe)(hc:DT K mg X ES c t)(hb:DSs K mg X ES sts x):DS K mg X ES (.While c sts [] pos) (xWh t x):=
 ⟨PS.imp (BQ hp hc.ok hb.ok) λD σ H zz=>zz.el λY N0 ns e S p=>by
  have p:PS3 K mg Y N0 ns e H D ES (wWh t.G x.G e):=p;by_cases q:∃k,whV t.G x.G k e ≠ .stuck
  .obtain⟨k,q⟩:=q;rw[lQ q] at p;refine⟨λm σ' H'=>∃ns' e',Stp ns e H ns' e' H'/\Sat K mg Y N0 ns' e' σ' H'/\PS3 K mg Y N0 ns e H D ES (whV t.G x.G m e'),⟨k,ns,e,.refl,S,p⟩,?_⟩;rintro m σ' H' ⟨ns',e',a',S',p'⟩;cases m with
   |zero=>exact p'.elim
   |
    succ m=>
    have p2:PS3 K mg Y N0 ns e H D ES ((t.G e').toS λb e1=>if b=true then (x.G e1).loop (whV t.G x.G m) else .nx e1):=p';refine⟨Y,N0,ns',e',S',PS3.toB p2 S a' λb e1 ns1 H1 a2 S1 p1=>?_⟩;cases b with
    |true=>exact⟨λσ2 H2=>∃ns' e',Stp ns e H ns' e' H2/\Sat K mg Y N0 ns' e' σ2 H2/\PS3 K mg Y N0 ns e H D ES (whV t.G x.G m e'),λσ2 H2 n=>⟨m,Nat.lt_succ_self _,n⟩,Y,N0,ns1,e1,S1,PS3.loop p1 S a2 λe4 ns4 σ4 H4 a4 S4 p4=>⟨ns4,e4,a4,S4,p4⟩⟩
    |false=>exact p1 _ _ _ a2 S1
  .unfold wWh at p;rw[dif_neg q] at p;exact p.elim⟩
end
noncomputable def fi (o:Option Nat) (s:Sl) (e:E3):E3:=match o,s with
 |some i,.mu v=>(match e[i]? with
  |some t=>e.set i (t.re v)
  |none=>e)
 |_,_=>e
noncomputable def aL:List (Option Nat)->E3->E3->E3
 |o::sub,s::inner,e=>aL sub inner (fi o s e)
 |_,_,e=>e
def ug(hn:∀v,o=some i->s=.mu v->False):(fi o s e)[i]?=e[i]?:=by
 unfold fi;split
 .rename_i i' v;split
  .rename_i t q;by_cases z:i=i'
   .subst z;exact (hn v rfl rfl).elim
   .rw[cz z]
  .rfl
 .rfl
theorem nC:∀{sub:Pd}{e2 e:E3}{i:Nat},(∀(j:Nat) v,sub[j]?=some (some i)->e2[j]?=some (.mu v)->False)->(aL sub e2 e)[i]?=e[i]?
 | [],_,_,_,_=>rfl
 |_::_,[],_,_,_=>rfl
 |
  o::sub,s::e2,e,i,hn=>by
  show (aL sub e2 (fi o s e))[i]?=_;rw[nC (λj v q1 q2=>hn (j+1) v (by simpa using q1) (by simpa using q2))];exact ug λv z1 z2=>hn 0 v (by rw[z1];rfl) (by rw[z2];rfl)
theorem uQ:∀{sub:Pd}{e2 e:E3}{i j:Nat}{v:Val},(∀(j k:Nat) i,sub[j]?=some (some i)->sub[k]?=some (some i)->j=k)->sub[j]?=some (some i)->e2[j]?=some (.mu v)->(aL sub e2 e)[i]?=(e[i]?).map (Sl.re · v)
 | [],_,_,_,j,_,_,q,_=>by simp at q
 |_::_,[],_,_,j,_,_,_,q=>by simp at q
 |
  o::sub,s::e2,e,i,0,v,hj,q1,q2=>by
  have z1:o=some i:=by simpa using q1
  have z2:s=.mu v:=by simpa using q2
  subst z1 z2;show (aL sub e2 (fi (some i) (.mu v) e))[i]?=_;rw[nC (λk u y1 _=>by have:=hj 0 (k+1) i rfl (by simpa using y1);omega)];unfold fi;dsimp only;split
  .rename_i t q;rw[cU (D_.mp q).1,q];rfl
  .rename_i q;rw[q];rfl
 |
  o::sub,s::e2,e,i,j+1,v,hj,q1,q2=>by
  show (aL sub e2 (fi o s e))[i]?=_;have q1':sub[j]?=some (some i):=by simpa using q1
  rw[uQ (λa b c y1 y2=>by have:=hj (a+1) (b+1) c (by simpa using y1) (by simpa using y2);omega) q1' (by simpa using q2)];rw[ug λv z1 _=>by have:=hj 0 (j+1) i (by rw[z1];rfl) q1;omega]
noncomputable def aQ (sub:Pd) (ns:Ns):Ns:=sub.map λo=>o.bind λi=>(ns[i]?).bind id
def cq{sub:Pd}{ns:Ns}{j:Nat}{n:Addr}(q:(aQ sub ns)[j]?=some (some n)):∃i,sub[j]?=some (some i)/\ns[i]?=some (some n):=by
 unfold aQ at q;rw[LL] at q;cases z:sub[j]? with
 |none=>rw[z] at q;cases q
 |
  some o=>
  rw[z] at q;cases o with
  |none=>cases q
  |
   some i=>
   refine⟨i,rfl,?_⟩;have q':(ns[i]?).bind id=some n:=LB q;cases y:ns[i]? with
   |none=>rw[y] at q';cases q'
   |some w=>rw[y] at q';have:w=some n:=q';rw[this]
def Dm{sub:Pd}{ns:Ns}{j i:Nat}{w:Option Addr}(q:sub[j]?=some (some i))(q2:ns[i]?=some w):(aQ sub ns)[j]?=some w:=by unfold aQ;rw[LL,q];show some ((ns[i]?).bind id)=some w;rw[q2];rfl
structure Lnk(sub:Pd)(e ei:E3):Prop where
 inj:∀(j k:Nat) (i:Nat),sub[j]?=some (some i)->sub[k]?=some (some i)->j=k
 mu:∀(j:Nat) (v:Val),ei[j]?=some (.mu v)->∃(i:Nat) (s:Sl),sub[j]?=some (some i)/\e[i]?=some s/\s.mt=true
 mt:∀(j:Nat) (s:Sl),ei[j]?=some s->s.mt=true->∃v,s=.mu v
section
variable{K:W.Frag}{mg:Pa}{X Y N0:Addr->Prop}{ns h_:Ns}{e e2 ei:E3}{σ:St}{H H2:Hp}{sub:Pd}
theorem kU:∀(sub:Pd) (e2 e:E3),(aL sub e2 e).length=e.length
 | [],_,_=>rfl
 |_::_,[],_=>rfl
 |
  o::sub,s::e2,e=>by
  show (aL sub e2 (fi o s e)).length=_;rw[kU];unfold fi;split
  .split
   .rw[L9]
   .rfl
  .rfl
def Sat.back(S:Sat K mg X N0 ns e σ H)(lk:Lnk sub e ei)(a:Stp (aQ sub ns) ei H h_ e2 H2)(hb:Bs K mg H2)
 (hY:∀n,Y n->(∃o,H2 n=some o)/\(X n\/H n=none)) (hXY:∀n,X n->Y n)
 (hc:∀(j:Nat) v n,e2[j]?=some (.mu v)->h_[j]?=some (some n)->∃o,H2 n=some o/\NotFz o/\Rc K mg (Oc Y ns) H2 o v):Sat K mg Y N0 ns (aL sub e2 e) σ H2/\Stp ns e H ns (aL sub e2 e) H2:=by
 have hM:∀n,Mt (aQ sub ns) ei n->Mt ns e n:=λn ⟨j,s,z1,z2,z3⟩=>by obtain⟨v,rfl⟩:=lk.mt j s z2 z3;obtain⟨i,s',y1,y2,y3⟩:=lk.mu j v z2;obtain⟨i',y4,y5⟩:=cq z1;rw[y1] at y4;cases y4;exact⟨i,s',y5,y2,y3⟩
 have mv:Mov (Oc X ns) (Oc Y ns) H H2:=⟨a.le,λn o p q ht=>⟨⟨λz=>(by
  rcases (hY n z).2 with z |z
  .exact p.1 z
  .rw[q] at z;cases z),p.2⟩,a.keep n o q ht λz=>by obtain⟨j,s,z1,_⟩:=z;obtain⟨i,_,y⟩:=cq z1;exact p.2 (aN.mpr ⟨i,y⟩)⟩⟩
 have k_:∀i:Nat,(∃(j:Nat) (v:Val) (s:Sl),sub[j]?=some (some i)/\e2[j]?=some (.mu v)/\e[i]?=some s/\s.mt=true/\(aL sub e2 e)[i]?=some (s.re v)/\h_[j]?=ns[i]?)\/((∀n,ns[i]?=some (some n)->¬ Mt (aQ sub ns) ei n)/\(aL sub e2 e)[i]?=e[i]?):=λi=>by
  by_cases hx:∃(j:Nat) (v:Val),sub[j]?=some (some i)/\e2[j]?=some (.mu v)
  .obtain⟨j,v,q1,q2⟩:=hx;obtain⟨u,q3,q4⟩:=a.mu j v q2;obtain⟨i',s,y1,y2,y3⟩:=lk.mu j u q3;rw[q1] at y1;cases y1;refine .inl ⟨j,v,s,q1,q2,y2,y3,by rw[uQ lk.inj q1 q2,y2];rfl,?_⟩;rw[q4];have hl:i<ns.length:=by rw[S.l2];exact (D_.mp y2).1
   rw[x_ hl];exact Dm q1 (x_ hl)
  .refine .inr ⟨λn q ⟨j,s,z1,z2,z3⟩=>hx ?_,nC λj v y1 y2=>hx ⟨j,v,y1,y2⟩⟩;obtain⟨v,rfl⟩:=lk.mt j s z2 z3;obtain⟨i',y4,y5⟩:=cq z1;have:i'=i:=S.inj i' i n y5 q;subst this;obtain⟨v',y6,_⟩:=a.mu' j v z2;exact⟨j,v',y4,y6⟩
 refine⟨⟨by rw[kU];exact S.l1,by rw[kU];exact S.l2,λx z=>S.lh x (a.dom x z),λn z=>(hY n z).1,S.inj,λi n q z=>?_,λi s q=>?_,hb⟩,⟨a.le,a.dom,λm o q ht hm=>a.keep m o q ht λz=>hm (hM m z),λ_ _ q=>.inl q,λi s q hl=>?_,λi s q hl=>?_,λi v q=>?_,λi v q=>?_⟩⟩
 .rcases (hY n z).2 with z |z
  .exact S.nx i n q z
  .obtain⟨_,_,_,_,_,_,_,q',_⟩:=S.own q;rw[q'] at z;cases z
 .rcases k_ i with ⟨j,v,s0,k1,k2,k3,k4,k5,k6⟩ |⟨k1,k2⟩
  .rw[k5] at q;cases q;have y:=S.sl i s0 k3;cases s0 with
   |ow u=>obtain⟨n,o,y1,y2,y3,_⟩:=y;obtain⟨o',z1,z2,z3⟩:=hc j v n k2 (by rw[k6];exact y1);exact⟨n,o',y1,y2,y3,z1,z2,z3⟩
   |mu u=>obtain⟨n,o,y1,y2,_⟩:=y;obtain⟨o',z1,z2,z3⟩:=hc j v n k2 (by rw[k6];exact y1);exact⟨n,o',y1,y2,z1,z2,z3⟩
   |_=>cases k4
  .rw[k2] at q;exact (S.sl i s q).mono mv λn o q1 q2 hf=>a.keep n o q2 hf.nt (k1 n q1)
 .rcases k_ i with ⟨j,v,s0,k1,k2,k3,k4,k5,k6⟩ |⟨k1,k2⟩
  .rw[k3] at q;cases q;cases s <;> first |cases hl;done |cases k4;done
  .rw[k2];exact⟨q,rfl⟩
 .rcases k_ i with ⟨j,v,s0,k1,k2,k3,k4,k5,k6⟩ |⟨k1,k2⟩
  .rw[k5] at q;cases q;cases s0 <;> first |cases hl;done |cases k4;done
  .rw[k2] at q;exact⟨q,rfl⟩
 .rcases k_ i with ⟨j,u,s0,k1,k2,k3,k4,k5,k6⟩ |⟨k1,k2⟩
  .rw[k5] at q;cases s0 with
   |mu w=>exact⟨w,k3,rfl⟩
   |ow w=>cases q
   |_=>cases k4
  .rw[k2] at q;exact⟨v,q,rfl⟩
 .rcases k_ i with ⟨j,u,s0,k1,k2,k3,k4,k5,k6⟩ |⟨k1,k2⟩
  .rw[k3] at q;cases q;exact⟨u,k5,rfl⟩
  .exact⟨v,by rw[k2];exact q,rfl⟩
end
noncomputable def inS:Sl->Sl
 |.ow v=>.mu v
 |.lo v=>.lm v
 |s=>s
noncomputable def bY (sub:Pd) (e:E3):E3:=sub.map λo=>match o with
 |none=>.no
 |some i=>match e[i]? with
  |some s=>inS s
  |none=>.no
noncomputable def lcV (g:MG3) (c:MT3) (F:ME3):List Val->List Val->E3->R3 (List Val)
 | [],acc,e=>.ok acc e
 |v::vs,acc,e=>if acc.length<16777216 then (match g v e with
  |none=>.stuck
  |some e1=>(c e1).bind λb e2=>if b=true then (F e2).bind λt e3=>(match cV e3 t with
   |some (e4,y)=>lcV g c F vs (acc++[y]) e4
   |none=>.stuck) else lcV g c F vs acc e2) else .stuck
noncomputable def vLC (I:MI3) (sub:Pd) (g:MG3) (c:MT3) (F:ME3) (e:E3):R3 Tm:=(I e).bind λp e1=>match lcV g c F p.1 [] (bY sub (lockO e1 p.2)) with
 |.ok ys e2=>if ys.length<=16777216 then .ok (.new (.lst ys)) (eC (aL sub e2 (lockO e1 p.2)) p.2) else .stuck
 |_=>.stuck
noncomputable def pLC (i:PIt) (sub:Pd) (hs:(sub.filterMap id).Nodup) (g:PGt) (c:PTs) (a:PEx):PEx:=⟨21,vLC i.G sub g.G c.G a.G⟩
def mE(sub:Pd):Prop:=∀(j k:Nat) (i:Nat),sub[j]?=some (some i)->sub[k]?=some (some i)->j=k
def w6(h:(sub.filterMap id).Nodup):mE sub:=by
 induction sub with
 |nil=>intro j k i q;simp at q
 |
  cons o sub ih=>
  have hsub:(sub.filterMap id).Nodup:=by
   cases o with
   |none=>simpa using h
   |some i=>rw[MZ] at h;simp at h;exact h.2
  have hno:∀(i k:Nat),o=some i->sub[k]?=some (some i)->False:=λi k z q=>by subst z;rw[MZ] at h;simp at h;exact h.1 (NH q)
  intro j k i q1 q2;cases j with
  |
   zero=>
   cases k with
   |zero=>rfl
   |succ k=>exact (hno i k (by simpa using q1) (by simpa using q2)).elim
  |
   succ j=>
   cases k with
   |zero=>exact (hno i j (by simpa using q2) (by simpa using q1)).elim
   |succ k=>exact Mb (· + 1) (ih hsub j k i (by simpa using q1) (by simpa using q2))
def Xin(X:Addr->Prop)(ns:Ns)(sub:Pd)(n:Addr):Prop:=X n\/(some n∈ns/\some n∉aQ sub ns)
def so{n:Addr}(q:some n∈aQ sub ns):some n∈ns:=by obtain⟨j,q⟩:=aN.mp q;obtain⟨i,_,q2⟩:=cq q;exact aN.mpr ⟨i,q2⟩
def Co{X:Addr->Prop}{H:Hp}:Mov (Oc X ns) (Oc (Xin X ns sub) (aQ sub ns)) H H:=.of λn p=>⟨λz=>by
 rcases z with z |⟨z,_⟩
 .exact p.1 z
 .exact p.2 z,λz=>p.2 (so z)⟩
def iQ{sub:Pd}{e:E3}{j:Nat}{s:Sl}(q:(bY sub e)[j]?=some s):(sub[j]?=some none/\s=.no)\/(∃i,sub[j]?=some (some i)/\((e[i]?=none/\s=.no)\/∃t,e[i]?=some t/\s=inS t)):=by
 unfold bY at q;rw[LL] at q;cases z:sub[j]? with
 |none=>rw[z] at q;cases q
 |
  some o=>
  rw[z] at q;cases o with
  |none=>cases q;exact .inl ⟨rfl,rfl⟩
  |
   some i=>
   refine .inr ⟨i,rfl,?_⟩;have q':=LB q;dsimp only at q';cases y:e[i]? with
   |none=>rw[y] at q';exact .inl ⟨rfl,q'.symm⟩
   |some t=>rw[y] at q';exact .inr ⟨t,rfl,q'.symm⟩
section
variable{K:W.Frag}{mg:Pa}{X N0:Addr->Prop}{ns:Ns}{e:E3}{σ:St}{H:Hp}{sub:Pd}
def Sat.inner(S:Sat K mg X N0 ns e σ H)(hs:mE sub):Sat K mg (Xin X ns sub) N0 (aQ sub ns) (bY sub e) (d0 sub σ) H:=by
 refine⟨by unfold d0 bY;rw[q_,q_],by unfold aQ bY;rw[q_,q_],S.lh,λn z=>?_,λj k n q1 q2=>?_,λj n q z=>?_,λj s q=>?_,S.bs⟩
 .rcases z with z |⟨z,_⟩
  .exact S.xl n z
  .obtain⟨i,z⟩:=aN.mp z;obtain⟨_,_,o,_,_,_,_,q',_⟩:=S.own z;exact⟨o,q'⟩
 .obtain⟨i,y1,y2⟩:=cq q1;obtain⟨i',y3,y4⟩:=cq q2
  have:=S.inj i i' n y2 y4
  subst this;exact hs j k i y1 y3
 .rcases z with z |⟨_,z⟩
  .obtain⟨i,y1,y2⟩:=cq q;exact S.nx i n y2 z
  .exact z (aN.mpr ⟨j,q⟩)
 .have hj:∀{o},sub[j]?=some o->(aQ sub ns)[j]?=some (o.bind λi=>(ns[i]?).bind id)/\(d0 sub σ)[j]?=some (o.bind λi=>(σ[i]?).bind id):=λ{o} z=>by unfold aQ d0;rw[LL,LL,z];exact⟨rfl,rfl⟩
  rcases iQ q with ⟨z,rfl⟩ |⟨i,z,⟨y,rfl⟩ |⟨t,y,rfl⟩⟩
  .rw[(hj z).1];rfl
  .rw[(hj z).1];show some ((ns[i]?).bind id)=some none;have:ns[i]?=none:=by rw[NO] at y ⊢;rw[S.l2];exact y
   rw[this];rfl
  .have k:=(S.sl i t y).mono (Co (sub:=sub) (H:=H)) λ_ _ _ q _=>q;rw[(hj z).1,(hj z).2];show SlR K mg _ N0 (some ((ns[i]?).bind id)) (some ((σ[i]?).bind id)) H (inS t);have w1:∀x,ns[i]?=some x->some ((ns[i]?).bind id)=some x:=λx q=>by rw[q];rfl
   have w2:∀x,σ[i]?=some x->some ((σ[i]?).bind id)=some x:=λx q=>by rw[q];rfl
   cases t with
   |no=>rw[w1 _ k];rfl
   |sh v=>obtain⟨k1,x,k2,k3⟩:=k;rw[w1 _ k1,w2 _ k2];exact⟨rfl,x,rfl,k3⟩
   |ow v=>obtain⟨m,o,k1,k2,_,k3⟩:=k;rw[w1 _ k1,w2 _ k2];exact⟨m,o,rfl,rfl,k3⟩
   |lo v=>obtain⟨m,o,k1,k2,_,k3⟩:=k;rw[w1 _ k1,w2 _ k2];exact⟨m,o,rfl,rfl,k3⟩
   |mu v=>obtain⟨m,o,k1,k2,k3⟩:=k;rw[w1 _ k1,w2 _ k2];exact⟨m,o,rfl,rfl,k3⟩
   |lm v=>obtain⟨m,o,k1,k2,k3⟩:=k;rw[w1 _ k1,w2 _ k2];exact⟨m,o,rfl,rfl,k3⟩
end
def uP(hs:mE sub):Lnk sub e (bY sub e):=by
 refine⟨hs,λj v q=>?_,λj s q hm=>?_⟩
 .rcases iQ q with ⟨_,z⟩ |⟨i,z,⟨_,y⟩ |⟨t,y,y2⟩⟩
  .cases z
  .cases y
  .refine⟨i,t,z,y,?_⟩;cases t <;> first |rfl |cases y2
 .rcases iQ q with ⟨_,z⟩ |⟨i,z,⟨_,y⟩ |⟨t,y,y2⟩⟩
  .subst z;cases hm
  .subst y;cases hm
  .subst y2;cases t with
   |ow v=>exact⟨v,rfl⟩
   |mu v=>exact⟨v,rfl⟩
   |_=>cases hm
structure DTs(K:W.Frag)(mg:Pa)(X:Cx)(ES:St->XK)(es:List Expr)(F:PTs):Prop where
 ok:L2.PTs X es (rdT K mg ES F.G)
def Mov.trans{P P1 P2:Addr->Prop}{H H1 H2:Hp}(a:Mov P P1 H H1)(b:Mov P1 P2 H1 H2):Mov P P2 H H2:=⟨a.le.trans b.le,λn o p q ht=>by obtain⟨p1,q1⟩:=a.cl n o p q ht;exact b.cl n o p1 q1 ht⟩
section
variable{K:W.Frag}{mg:Pa}{X:Cx}{ES:St->XK}{a b o iter tg elt:Expr}{ifs:List Expr}{I:PIt}{g:PGt}{p:PEx}{t:PTs}{pos:Pos}{sub:Pd}
def bD:DTs K mg X ES [] qY:=⟨λpins s σ H Q i ⟨Y,N0,ns,e,S,p⟩=>EA pins s σ H Q i (PG3.ret p S)⟩
def Cd{hsb:(sub.filterMap id).Nodup}(σ:St)(H:Hp)(Q:VK):rdE K mg ES (pLC I sub hsb g t p).G σ H Q->pb (rdI K mg ES I.G) sub (rdG K mg g.G) (rdT K mg (λ_=>E0) t.G) (rdE K mg (λ_=>E0) p.G) σ H Q:=λzz=>zz.el λY N0 L ns e S hl pp=>
 ⟨Y,
  N0,ns,e,S,PG3.imp pp S λw e1 ns1 H1 a1 S1 p1 J it hk=>by
  have hs':=w6 hsb;have S2:=S1.lockO w.2;have S3:=S2.inner hs';try dsimp only at p1
  split at p1
  .rename_i ys
    e2 q
   split at p1
   .rename_i hy;have kp:∀{ns' e' H'},Stp (aQ sub ns1) (bY sub (lockO e1 w.2)) H1 ns' e' H'->Kp Y ns1 w.2 H1 (Oc (Xin Y ns1 sub) ns') H':=λ{ns' e' H'} a=>⟨Co.trans a.mov,λk n ob hk1 hk2 qm ht=>a.keep n ob qm ht λ⟨j,s,z1,z2,z3⟩=>by
     obtain⟨i,y1,y2⟩:=cq z1
     have:=S1.inj i k n y2 hk2
     subst this;obtain⟨s',w1,w2⟩:=hk i hk1;have hl:(lockO e1 w.2)[i]?=some (gU s'):=by rw[hk1];exact nM w1
     rcases iQ z2 with ⟨z,_⟩ |⟨i',z,y⟩
     .rw[y1] at z;cases z
     .rw[y1] at z;cases z;rcases y with ⟨y,_⟩ |⟨t,y,rfl⟩
      .rw[hl] at y;cases y
      .rw[hl] at y;cases y;cases s' <;> first |cases w2;done |cases z3;done⟩
    refine⟨λi m acc σ' H'=>m=w.1.length-i/\i<=w.1.length/\∃ns' e' av,Stp (aQ sub ns1) (bY sub (lockO e1 w.2)) H1 ns' e' H'/\Sat K mg (Xin Y ns1 sub) N0 ns' e' σ' H'/\Rds K mg (Oc (Xin Y ns1 sub) ns') H' acc av/\lcV g.G t.G p.G (w.1.drop i) av e'=.ok ys e2,⟨_,rfl,Mi _,_,_,[],.refl,S3,.nil,q⟩,?_⟩;rintro i m acc σ' H' ⟨rfl,hi,ns',e',av,a',S',ra,q'⟩;by_cases hlt:i<w.1.length
    .rw[NN hlt] at q';unfold lcV at q';split at q'
     .rename_i hla;obtain⟨go,yl⟩:=(it _ _ (kp a')).1 i _ (x_ hlt);refine .inr ⟨go,by rw[ra.len];exact hla,λacc' σ2 H2=>i+1<=w.1.length/\∃ns' e' av,Stp (aQ sub ns1) (bY sub (lockO e1 w.2)) H1 ns' e' H2/\Sat K mg (Xin Y ns1 sub) N0 ns' e' σ2 H2/\Rds K mg (Oc (Xin Y ns1 sub) ns') H2 acc' av/\lcV g.G t.G p.G (w.1.drop (i+1)) av e'=.ok ys e2,λacc' σ2 H2 n=>⟨_,by omega,rfl,n⟩,λx H2 y=>?_⟩;obtain⟨gr,rx⟩:=yl x H2 y;have a2:=a'.trans S3 (.gr gr);have S4:=S'.gr gr;have ra2:=ra.mono gr.mov;split at q'
      .cases q'
      .rename_i e3 qg;refine⟨_,N0,ns',e',_,e3,S4,rx,qg,λσ3 ns3 a3 S5=>⟨_,N0,ns3,e3,S5,?_⟩⟩;have a4:=a2.trans S3 a3;have ra3:=ra2.mono a3.mov;cases qc:t.G e3 with
       |stuck=>rw[qc] at q';cases q'
       |exc _ _=>rw[qc] at q';cases q'
       |
        ok b e4=>
        rw[qc] at q';intro H4 ns4 a5 S6;have a6:=a4.trans S3 a5;have ra4:=ra3.mono a5.mov;show if b=true then _ else _
        have q':(if b=true then (p.G e4).bind λtt e3=>(match cV e3 tt with
         |some (e4,y)=>lcV g.G t.G p.G (w.1.drop (i+1)) (av++[y]) e4
         |none=>.stuck) else lcV g.G t.G p.G (w.1.drop (i+1)) av e4)=.ok ys e2:=q'
        by_cases hb:b=true
        .rw[if_pos hb] at q' ⊢;refine⟨_,N0,λ_=>True,ns4,e4,S6,λ_ _=>trivial,?_⟩;cases qp:p.G e4 with
         |stuck=>rw[qp] at q';cases q'
         |exc _ _=>rw[qp] at q';cases q'
         |
          ok tt e5=>
          rw[qp] at q';intro H5 ns5 a7 S7 v rv;have q':(match cV e5 tt with
           |some (e4,y)=>lcV g.G t.G p.G (w.1.drop (i+1)) (av++[y]) e4
           |none=>.stuck)=.ok ys e2:=q'
          split at q'
          .rename_i e6 u qd;obtain⟨ns6,S8,a8,r8⟩:=fk S7 rv qd;exact⟨hlt,ns6,e6,_,(a6.trans S3 a7).trans S3 a8,S8,((ra4.mono a7.mov).mono a8.mov).append (.cons r8 .nil),q'⟩
          .cases q'
        .rw[if_neg hb] at q' ⊢;exact⟨hlt,ns4,e4,av,a6,S6,ra4,q'⟩
     .cases q'
    .have hi2:i=w.1.length:=by omega
     subst hi2;rw[List.drop_length] at q';cases q';have k3:∀n,Oc (Xin Y ns1 sub) ns' n->Oc Y ns1 n:=λn z=>⟨λy=>z.1 (.inl y),λy=>by
      by_cases w:some n∈aQ sub ns1
      .obtain⟨j,w⟩:=aN.mp w;obtain⟨s,v,o,b1,b2,_⟩:=S3.own w;rcases b2 with b2 |b2
       .obtain⟨v',rfl⟩:=(uP (e:=lockO e1 _) hs').mt j s b1 b2;obtain⟨u,c1,c2⟩:=a'.mu' j v' b1;exact z.2 (aN.mpr ⟨j,by rw[c2];exact w⟩)
       .obtain⟨c1,c2⟩:=a'.lk j s b1 b2;exact z.2 (aN.mpr ⟨j,by rw[c2];exact w⟩)
      .exact z.1 (.inr ⟨y,w⟩)⟩
     obtain⟨S5,a5⟩:=S2.back (Y:=Y) (uP hs') a' S'.bs (λn z=>by
      obtain⟨ob,z'⟩:=S2.xl n z;exact⟨by
       cases qh:H' n with
       |none=>rw[a'.dom n qh] at z';cases z'
       |some o'=>exact⟨o',rfl⟩,.inl z⟩) (λ_ z=>z) λj v n q1 q2=>by
      obtain⟨s,u,o,b1,b2,b3,b4,b5,b6,b7⟩:=S'.own q2;rw[q1] at b1;cases b1;cases b3;exact⟨o,b5,b6,b7.mono (.of k3)⟩
     have d_:∀e'',Sat K mg Y N0 ns1 e'' σ H'->Stp ns1 e1 H1 ns1 e'' H'->PG3 K mg Y N0 ns1 e1 σ H1 (ES σ) (KE K mg Y N0 L σ Q) (.ok (.new (.lst ys)) e'')->∀D,H' D=none->Q (.ref D) (upd H' D (.lst acc)):=λe'' S6 a6 p6 D hD=>
      PG3.bv (b:=.new (.lst ys)) (p6.after S1 a6) S6 (λa z=>hl a (a1.dom a (a6.dom a z))) H' D _ .refl hD trivial (.lst (ra.mono (.of k3)))
     refine .inl ⟨(it _ _ (kp a')).2,by rw[ra.len];exact hy,?_⟩;cases hp:w.2 with
     |none=>rw[hp] at S5 a5 p1;exact d_ _ S5 a5 p1
     |some k=>rw[hp] at S5 a5 p1;obtain⟨s,w1,w2⟩:=hk k hp;exact d_ _ (S5.unlock k) (a5.unlock w1 w2) p1
   .exact p1.elim
  .exact p1.elim⟩
def gn{scope:Scope}(M:List Str)(kn:List (Str×NameKind))(N:List Str)(sub:Pd){hsb:(sub.filterMap id).Nodup}(hi:DI K mg X ES tg iter I)(hg:N.Nodup->∀cl C s₂ H fp,DG K mg (bL X N scope cl C s₂ H fp) tg g)(ht:N.Nodup->∀cl C s₂ H fp,DTs K mg (bL X N scope cl C s₂ H fp) (λ_=>E0) ifs t)(he:N.Nodup->∀cl C s₂ H fp,DE K mg (bL X N scope cl C s₂ H fp) (λ_=>E0) elt p)(hnd:N.Nodup:=by decide)(hc:X.calm=true:=by rfl)(hM:X.N=M:=by rfl)(hkn:X.env.scope.names=kn:=by rfl)(hsub:oX M scope.names sub N=true:=by decide)(hk:scope.kind=.function:=by rfl)(hnc:∀x∈scope.names,x.2 ≠ .cell:=by decide)(f_:∀x∈scope.names,x.2=.local->scope.names.lookup x.1=some .local:=by decide)(hfr:vk kn scope.names=true:=by decide)(hsl:sub.length=N.length:=by rfl)(hs:∀x,foldedSetIterable iter X.env x=pure x:=by intro _;rfl):DE K mg X ES (.ListComp elt [⟨tg,iter,ifs,0⟩] scope pos) (pLC I sub hsb g t p):=
 ⟨PE.imp (Fw hc hi.ok hk hnc f_ (by subst hkn;exact tf hfr) hsl (by subst hM;exact pX hsub) (λcl C s H f=>(hg hnd cl C s H f).ok) (λcl C s H f=>(ht hnd cl C s H f).ok) (λcl C s H f=>(he hnd cl C s H f).ok) hs) Cd⟩
def vw{ow:Bool}{px spos:Pos}{iT:Nat}{xT:Str}{scope:Scope}(hN:X.N.Nodup)(M:List Str)(kn:List (Str×NameKind))(N:List Str)(sub:Pd){hsb:(sub.filterMap id).Nodup}(hi:DI K mg X ES tg iter I)(hg:N.Nodup->∀cl C s₂ H fp,DG K mg (bL X N scope cl C s₂ H fp) tg g)(ht:N.Nodup->∀cl C s₂ H fp,DTs K mg (bL X N scope cl C s₂ H fp) (λ_=>E0) ifs t)(he:N.Nodup->∀cl C s₂ H fp,DE K mg (bL X N scope cl C s₂ H fp) (λ_=>E0) elt p)(hsw:swapsWith (.ListComp elt [⟨tg,iter,ifs,0⟩] scope pos) (some (.Name xT px)) spos.line X.env=pure true:=by rfl)(hnd:N.Nodup:=by decide)(hc:X.calm=true:=by rfl)(hix:X.N[iT]?=some xT:=by rfl)(hxl:Loc X.env.scope xT:=by first |exact Or.inl rfl |exact Or.inr rfl)(hM:X.N=M:=by rfl)(hkn:X.env.scope.names=kn:=by rfl)(hsub:oX M scope.names sub N=true:=by decide)(hk:scope.kind=.function:=by rfl)(hnc:∀x∈scope.names,x.2 ≠ .cell:=by decide)(f_:∀x∈scope.names,x.2=.local->scope.names.lookup x.1=some .local:=by decide)(hfr:vk kn scope.names=true:=by decide)(hsl:sub.length=N.length:=by rfl)(hs:∀x,foldedSetIterable iter X.env x=pure x:=by intro _;rfl)(hf:X.fn xT=true\/X.env.scope.names.lookup xT=some .local:=by first |exact .inl rfl |exact .inr rfl |assumption):DS K mg X ES (.Assign [.Name xT px] (.ListComp elt [⟨tg,iter,ifs,0⟩] scope pos) spos) (ar ow iT (pLC I sub hsb g t p)):=
 ⟨PS.imp (Iz hc hN hix hxl hi.ok hk hnc f_ (by subst hkn;exact tf hfr) hsl (by subst hM;exact pX hsub) (λcl C s H f=>(hg hnd cl C s H f).ok) (λcl C s H f=>(ht hnd cl C s H f).ok) (λcl C s H f=>(he hnd cl C s H f).ok) hsw hs hf) λD σ H q=>Cd σ H _ (zf D σ H q)⟩
end
inductive R3F where
 |ok (r:Rt) (mv:List Val) |exc (c:Str) (mv:List Val) |stuck
abbrev Fn3:=List Val->R3F
noncomputable def sl1 (b:Bool) (v:Val):Sl:=if b=true then .mu v else .sh v
noncomputable def sls (ms:List Bool) (vs:List Val):E3:=List.zipWith sl1 ms vs
noncomputable def az:List Bool->List Val->E3
 |true::ms,v::vs=>.mu v::az ms vs
 |true::ms,[]=>.no::az ms []
 |false::ms,vs=>.no::az ms vs
 | [],_=>[]
noncomputable def muV:List Bool->E3->Option (List Val)
 |true::ms,.mu v::e=>(muV ms e).map (v :: ·)
 |true::_,_=>none
 |false::ms,_::e=>muV ms e
 |false::_,[]=>none
 | [],_=>some []
noncomputable def fnV (ms:List Bool) (N:Nat) (F:MS3):Fn3:=λvs=>if vs.length=ms.length then (match F (sls ms vs++List.replicate (N-vs.length) .no) with
 |.nx e=>(match muV ms e with |some mv=>.ok (.val .non) mv |none=>.stuck)
 |.rt r e=>(match muV ms e with |some mv=>.ok r mv |none=>.stuck)
 |.exc c e=>(match muV ms e with |some mv=>.exc c mv |none=>.stuck)
 |_=>.stuck) else .stuck
def eG{ms:List Bool}{vs:List Val}{i:Nat}{s:Sl}(q:(sls ms vs)[i]?=some s):∃b v,ms[i]?=some b/\vs[i]?=some v/\s=sl1 b v:=by
 unfold sls at q;rw[M8] at q;cases h1:ms[i]? with
 |none=>rw[h1] at q;cases q
 |
  some b=>
  cases h2:vs[i]? with
  |none=>rw[h1,h2] at q;cases q
  |some v=>rw[h1,h2] at q;cases q;exact⟨b,v,rfl,rfl,rfl⟩
theorem gx:∀{ms:List Bool}{e:E3}{mv:List Val}{i:Nat}{s:Sl},muV ms e=some mv->(az ms mv)[i]?=some s->(ms[i]?=some false/\s=.no)\/(ms[i]?=some true/\∃v,e[i]?=some (.mu v)/\s=.mu v)
 | [],_,_,_,_,_,q=>by unfold az at q;simp at q
 |
  true::ms,.mu v::e,mv,i,s,q,q2=>by
  obtain⟨mv',z1,z2⟩:=LK.mp (show (muV ms e).map (v :: ·)=some mv from q);subst z2;cases i with
  |zero=>
   right;have:Sl.mu v=s:=by simpa [az] using q2
   subst this;exact⟨rfl,v,rfl,rfl⟩
  |
   succ i=>
   have:=gx (i:=i) (s:=s) z1 (by simpa [az] using q2)
   simpa using this
 |true::ms,[],mv,i,s,q,q2=>by cases q
 |true::ms,.no::e,mv,i,s,q,q2=>by cases q
 |true::ms,.sh v::e,mv,i,s,q,q2=>by cases q
 |true::ms,.ow v::e,mv,i,s,q,q2=>by cases q
 |true::ms,.lo v::e,mv,i,s,q,q2=>by cases q
 |true::ms,.lm v::e,mv,i,s,q,q2=>by cases q
 |false::ms,[],mv,i,s,q,q2=>by cases q
 |
  false::ms,t::e,mv,i,s,q,q2=>by
  cases i with
  |zero=>
   left;have:Sl.no=s:=by simpa [az] using q2
   exact⟨rfl,this.symm⟩
  |
   succ i=>
   have:=gx (i:=i) (s:=s) (show muV ms e=some mv from q) (by simpa [az] using q2)
   simpa using this
theorem mT:∀{ms:List Bool}{e:E3}{mv:List Val}{i:Nat},muV ms e=some mv->ms[i]?=some true->∃v,e[i]?=some (.mu v)/\(az ms mv)[i]?=some (.mu v)
 | [],_,_,i,_,q=>by simp at q
 |
  true::ms,.mu v::e,mv,i,q,q2=>by
  obtain⟨mv',z1,z2⟩:=LK.mp (show (muV ms e).map (v :: ·)=some mv from q);subst z2;cases i with
  |zero=>exact⟨v,rfl,rfl⟩
  |succ i=>obtain⟨u,y1,y2⟩:=mT (i:=i) z1 (by simpa using q2);exact⟨u,by simpa using y1,by simpa [az] using y2⟩
 |true::ms,[],mv,i,q,q2=>by cases q
 |true::ms,.no::e,mv,i,q,q2=>by cases q
 |true::ms,.sh v::e,mv,i,q,q2=>by cases q
 |true::ms,.ow v::e,mv,i,q,q2=>by cases q
 |true::ms,.lo v::e,mv,i,q,q2=>by cases q
 |true::ms,.lm v::e,mv,i,q,q2=>by cases q
 |false::ms,[],mv,i,q,q2=>by cases q
 |
  false::ms,t::e,mv,i,q,q2=>by
  cases i with
  |zero=>simp at q2
  |succ i=>obtain⟨u,y1,y2⟩:=mT (i:=i) (show muV ms e=some mv from q) (by simpa using q2);exact⟨u,by simpa using y1,by simpa [az] using y2⟩
theorem gL:∀{ms:List Bool}{mv:List Val},(az ms mv).length=ms.length
 | [],_=>rfl
 |true::ms,v::mv=>by show (az ms mv).length+1=ms.length+1;rw[gL]
 |true::ms,[]=>by show (az ms []).length+1=ms.length+1;rw[gL]
 |false::ms,mv=>by show (az ms mv).length+1=ms.length+1;rw[gL]
noncomputable def ie (i:Nat):List Tm->Bool
 |.bor j::ts=>(i==j) || ie i ts
 |_::ts=>ie i ts
 | []=>false
noncomputable def jB (i:Nat):List Bool->List Tm->Bool
 |true::ms,.bor j::ts=>(i==j) || jB i ms ts
 |_::ms,_::ts=>jB i ms ts
 |_,_=>false
noncomputable def okA (e:E3):List Bool->List Tm->Bool
 |true::ms,.bor i::ts=>((e[i]?).bind Sl.mv).isSome && !(ie i ts)&&okA e ms ts
 |true::_,_::_=>false
 |false::ms,.bor i::ts=>!(jB i ms ts)&&okA e ms ts
 |false::ms,_::ts=>okA e ms ts
 | [],[]=>true
 |_,_=>false
noncomputable def mM (b:Bool) (t:Tm):Option Nat:=match b,t with
 |true,.bor i=>some i
 |_,_=>none
noncomputable def aJ (ms:List Bool) (ts:List Tm):List (Option Nat):=List.zipWith mM ms ts
noncomputable def aH (e:E3):List Bool->List Tm->List Nat
 |false::ms,.bor i::ts=>(match e[i]? with
  |some (.sh _)=>aH e ms ts
  |_=>i::aH e ms ts)
 |_::ms,_::ts=>aH e ms ts
 |_,_=>[]
mutual
def flatV:Val->Bool
 |.tup xs=>cJ xs
 |.lst _=>false
 |.kl _=>false
 |.dct _=>false
 |.set _=>false
 |_=>true
def cJ:List Val->Bool
 | []=>true
 |v::vs=>flatV v&&cJ vs
end
noncomputable def lM:List (Key×Val)->Bool
 | []=>true
 |(_,v)::vs=>flatV v&&lM vs
noncomputable def cx:Val->Bool
 |.lst xs=>cJ xs
 |.dct xs=>lM xs
 |.set _=>true
 |_=>false
noncomputable def jO:Rt->Bool
 |.val v=>flatV v
 |.new v=>cx v
 |.par _=>true
 |.pr v u=>flatV v&&cx u
noncomputable def mV (e:E3):List Nat->Option E3
 | []=>some e
 |i::is=>match cV e (.bor i) with
  |some (e1,_)=>mV e1 is
  |none=>none
noncomputable def Rt.tm (ts:List Tm):Rt->Tm
 |.val v=>.val v
 |.new v=>.new v
 |.par i=>(ts[i]?).getD (.val .non)
 |.pr v u=>.val (.tup [v,u])
noncomputable def Cr (ms:List Bool) (G:Fn3) (A:MA3) (e:E3):R3 Tm:=(A e).bind λts e1=>match rss e1 ts with
 |none=>.stuck
 |some vs=>if okA e1 ms ts=true then (match G vs with
  |.stuck=>.stuck
  |.ok r mv=>if (aH e1 ms ts).isEmpty || (jO r&&mv.all cx) then .ok (r.tm ts) (aL (aJ ms ts) (az ms mv) e1) else (match mV e1 (aH e1 ms ts) with
   |some e2=>.ok (r.tm ts) (aL (aJ ms ts) (az ms mv) e2)
   |none=>.stuck)
  |.exc c mv=>if (aH e1 ms ts).isEmpty || mv.all cx then .exc c (aL (aJ ms ts) (az ms mv) e1) else .stuck) else .stuck
section
variable{K:W.Frag}{mg:Pa}{P P':Addr->Prop}{H H':Hp}
def Rd.flat(l:LeH H H')(f:flatV v=true)(r:Rd K mg P H d v):Rd K mg P' H' d v:=
 @Rd.rec K mg P H (λd v _=>flatV v=true->Rd K mg P' H' d v) (λo v _=>flatV v=true->Rd K mg P' H' .non v) (λds vs _=>cJ vs=true->Rds K mg P' H' ds vs) (λws us _=>True) (λ_=>.non) (λb _=>.bl b) (λi _=>.int i) (λx _=>.str x) (λn _=>.ty n) (λm _=>.glb m) (λm e _=>.exc m (l.ext _ _ e)) (λh _ ih f=>.tup (l.sqT h) (ih f)) (λ_ _ _ f=>absurd f y_) (λ_ _ r _ f=>by cases r <;> exact absurd f y_) (λ_ _ f=>absurd f y_) (λ_ _ f=>absurd f y_) (λ_ _ f=>absurd f y_) (λ_ _ f=>absurd f y_) (λ_=>.nil) (λ_ _ a b f=>.cons (a (w_ .. ▸ f).1) (b (w_ .. ▸ f).2)) trivial (λ_ _ _ _=>trivial) d v r f
def Rds.flat(l:LeH H H')(f:cJ v=true)(r:Rds K mg P H ds v):Rds K mg P' H' ds v:=
 r.ind (M:=λds vs=>cJ vs=true->Rds K mg P' H' ds vs) (λ_=>.nil) (λr _ ih f=>by rw[cJ,w_] at f;exact .cons (Rd.flat l f.1 r) (ih f.2)) f
def Rk.flat(l:LeH H H')(f:lM v=true)(r:Rk K mg P H ds v):Rk K mg P' H' ds v:=
 r.ind (M:=λds vs=>lM vs=true->Rk K mg P' H' ds vs) (λ_=>.nil) (λr _ ih f=>by rw[lM,w_] at f;exact .cons (Rd.flat l f.1 r) (ih f.2)) f
def Rc.flat(l:LeH H H')(f:cx v=true)(r:Rc K mg P H o v):Rc K mg P' H' o v:=by
 cases r with
 |lst r=>exact .lst (Rds.flat l (by simpa [cx] using f) r)
 |fz r=>simp [cx] at f
 |dct r=>exact .dct (Rk.flat l (by simpa [cx] using f) r)
 |set xs nd=>exact .set xs nd
end
structure PFn where
 ms:List Bool
 G:Fn3
def nn(H:Hp)(a:Addr):Prop:=H a=none
def sp3(K:W.Frag)(mg:Pa)(f:PFn):Sp:=λvs H Q E=>∃Y ps us,us.length=f.ms.length/\Sat K mg Y (nn H) ps (sls f.ms us) (vs.map some) H/\match f.G us with
 |.ok r mv=>∀x H',Stp ps (sls f.ms us) H ps (az f.ms mv) H'->RtR K mg Y (nn H) ps (az f.ms mv) (vs.map some) H' x r->Q x H'
 |.exc c mv=>∀C H',Stp ps (sls f.ms us) H ps (az f.ms mv) H'->Sat K mg Y (nn H) ps (az f.ms mv) (vs.map some) H'->mg c=some (.ref C)->E (.ref C) none H'
 |.stuck=>False
noncomputable def fnP (ms:List Bool) (N:Nat) (c:PSt):PFn:=⟨ms,fnV ms N c.G⟩
section
variable{K:W.Frag}{mg:Pa}{X N0:Addr->Prop}{ps:Ns}{e:E3}{H H':Hp}{ms:List Bool}{us:List Val}{vs:List V}{k:Nat}
def Ez(S:Sat K mg X N0 ps e σ H):Sat K mg X N0 (ps++List.replicate k none) (e++List.replicate k .no) (σ++List.replicate k none) H:=by
 have gns:∀{i n:Nat},(ps++List.replicate k (none:Option Addr))[i]?=some (some n)->ps[i]?=some (some n):=λ{i n} q=>by
  rw[Oh] at q;split at q
  .exact q
  .rw[Mz] at q;split at q <;> cases q
 refine⟨?_,?_,S.lh,S.xl,λi j n q1 q2=>S.inj i j n (gns q1) (gns q2),λi n q=>S.nx i n (gns q),λi s q=>?_,S.bs⟩
 .rw[I_,I_,M9,M9,S.l1]
 .rw[I_,I_,M9,M9,S.l2]
 .rw[Oh] at q;split at q
  .rename_i hi;rw[Mc (by rw[S.l2];exact hi),Mc (by rw[S.l1];exact hi)];exact (S.sl i s q).mono (.of λn p=>⟨p.1,λz=>p.2 (by obtain⟨j,z⟩:=aN.mp z;exact aN.mpr ⟨j,gns z⟩)⟩) λ_ _ _ q _=>q
  .rename_i hi;rw[Mz] at q;split at q
   .cases q;rw[Nd (by rw[S.l2];exact Nat.le_of_not_lt hi),Mz,if_pos (by rw[S.l2];assumption)];rfl
   .cases q
def iG{Y:Addr->Prop}(hl:us.length=ms.length)(S:Sat K mg X N0 ps (sls ms us) σ H)(hXY:∀n,X n->Y n)(a:Stp (ps++List.replicate k none) (sls ms us++List.replicate k .no) H ns' e' H')(S2:Sat K mg Y N0 ns' e' σ' H')(qm:muV ms e'=some mv):
 Stp ps (sls ms us) H ps (az ms mv) H'/\Sat K mg Y N0 ps (az ms mv) σ H'/\∀n,Oc Y ns' n->Oc Y ps n:=by
 have lS:(sls ms us).length=ms.length:=by unfold sls;rw[M0];omega
 have ltS:∀{i:Nat},i<ms.length->i<(sls ms us).length:=λh=>by omega
 have ltP:∀{i:Nat},i<(sls ms us).length->i<ps.length:=λh=>S.l2.symm ▸ h;have kmu:∀{i:Nat},ms[i]?=some true->∃v u n o,e'[i]?=some (.mu v)/\(az ms mv)[i]?=some (.mu v)/\(sls ms us)[i]?=some (.mu u)/\ns'[i]?=ps[i]?/\ps[i]?=some (some n)/\σ[i]?=some (some (.ref n))/\H' n=some o/\NotFz o/\Rc K mg (Oc Y ns') H' o v:=by intro i hi;obtain⟨v,y1,y2⟩:=mT qm hi;have hil:i<ms.length:=(D_.mp hi).1;obtain⟨u,y3,y4⟩:=a.mu i v y1;rw[Mc (ltS hil)] at y3;rw[Mc (ltP (ltS hil))] at y4;obtain⟨n,o,z1,z2,_⟩:=S.sl i _ y3;obtain⟨n',o',w1,w2,w3,w4,w5⟩:=S2.sl i _ y1;rw[y4,z1] at w1;cases w1;exact⟨v,u,n,o',y1,y2,y3,y4,z1,z2,w3,w4,w5⟩
 have kown:∀{i n:Nat},ps[i]?=some (some n)->ms[i]?=some true:=λ{i n} q=>by
  obtain⟨s,v,o,z1,z2,_⟩:=S.own q;obtain⟨b,u,y1,_,y2⟩:=eG z1;cases b with
  |true=>exact y1
  |false=>subst y2;rcases z2 with z2 |z2 <;> cases z2
 have koc:∀n,Oc Y ns' n->Oc Y ps n:=λn z=>⟨z.1,λy=>by obtain⟨i,y⟩:=aN.mp y;obtain⟨v,u,n',o,_,_,_,k1,k2,_⟩:=kmu (kown y);exact z.2 (aN.mpr ⟨i,by rw[k1];exact y⟩)⟩;refine⟨⟨a.le,a.dom,λm o q ht hm=>a.keep m o q ht λ⟨i,s,z1,z2,z3⟩=>hm ?_,λ_ _ q=>.inl q,λi s q hl'=>?_,λi s q hl'=>?_,λi v q=>?_,λi v q=>?_⟩,⟨?_,?_,λn z=>S.lh n (a.dom n z),S2.xl,S.inj,λi n q z=>?_,λi s q=>?_,S2.bs⟩,koc⟩
 .rw[Oh] at z1;split at z1
  .rename_i hi;rw[Mc (by rw[<- S.l2];exact hi)] at z2;exact⟨i,s,z1,z2,z3⟩
  .rw[Mz] at z1;split at z1 <;> cases z1
 .obtain⟨b,u,_,_,y⟩:=eG q;subst y;cases b <;> cases hl'
 .rcases gx qm q with ⟨_,z⟩ |⟨_,v,_,z⟩ <;> subst z <;> cases hl'
 .rcases gx qm q with ⟨_,z⟩ |⟨z,_⟩
  .cases z
  .obtain⟨v',u,n,o,_,_,k1,_⟩:=kmu z;exact⟨u,k1,rfl⟩
 .obtain⟨b,u,y1,_,y2⟩:=eG q;cases b with
  |false=>cases y2
  |true=>obtain⟨v',u,n,o,_,k0,k1,_⟩:=kmu y1;exact⟨v',k0,rfl⟩
 .rw[S.l1,gL];exact lS
 .rw[S.l2,gL];exact lS
 .obtain⟨v,u,n',o,_,_,_,k1,k2,_⟩:=kmu (kown q);exact S2.nx i n (by rw[k1];exact q) z
 .rcases gx qm q with ⟨z,rfl⟩ |⟨z,v,z2,rfl⟩
  .have hil:i<ms.length:=(D_.mp z).1;have hi:i<(sls ms us).length:=ltS hil;obtain⟨b,u,y1,_,y2⟩:=eG (x_ hi);rw[z] at y1;cases y1;have k:=S.sl i _ (x_ hi);rw[y2] at k;exact k.1
  .obtain⟨v',u,n,o,k0,_,_,k1,k2,k3,k4,k5,k6⟩:=kmu z;rw[z2] at k0;cases k0;exact⟨n,o,k2,k3,k4,k5,k6.mono (.of koc)⟩
variable{P:Program}{w:World}{base:Heap}{fx:Str}{n_:Stmt}{n m:Nat}{pn N:List Str}{x:PSt}
def qH(sp:sp3 K mg (fnP ms m x) vs H Q E):vs.length=ms.length:=by obtain⟨Y,ps,us,hl,S,_⟩:=sp;have q:=S.l1;unfold sls at q;rw[q_,M0] at q;have hl':us.length=ms.length:=hl;have:(fnP ms m x).ms=ms:=rfl;rw[this] at q;omega
def sf{Q:VK}{E:XK}(sp:sp3 K mg (fnP ms N.length x) vs H Q E):rdS K mg (λ_=>E) x.G { nx:=λ_ H'=>Q .non H',rt:=Q } (fD N vs) H:=by
 have hv:=qH sp;obtain⟨Y,ps,us,hl,S0,p⟩:=sp;have hl:us.length=ms.length:=hl;have S0:Sat K mg Y (nn H) ps (sls ms us) (vs.map some) H:=S0;have S1:=Ez (k:=N.length-vs.length) S0;refine⟨Y,nn H,_,_,S1,?_⟩;have p:match fnV ms N.length x.G us with
  |.ok r mv=>∀y H',Stp ps (sls ms us) H ps (az ms mv) H'->RtR K mg Y (nn H) ps (az ms mv) (vs.map some) H' y r->Q y H'
  |.exc c mv=>∀C H',Stp ps (sls ms us) H ps (az ms mv) H'->Sat K mg Y (nn H) ps (az ms mv) (vs.map some) H'->mg c=some (.ref C)->E (.ref C) none H'
  |.stuck=>False:=p
 unfold fnV at p;rw[if_pos hl] at p;have hvu:us.length=vs.length:=by omega
 rw[hvu] at p;cases q:x.G (sls ms us++List.replicate (N.length-vs.length) .no) with
 |stuck=>rw[q] at p;exact p.elim
 |bk _=>rw[q] at p;exact p.elim
 |ct _=>rw[q] at p;exact p.elim
 |
  nx e'=>
  rw[q] at p;intro H' σ' ns' a S2;try dsimp only at p
  cases qm:muV ms e' with
  |none=>rw[qm] at p;exact p.elim
  |some mv=>rw[qm] at p;obtain⟨a3,S3,koc⟩:=iG hl S0 (λ_ z=>z) a S2 qm;exact p _ _ a3 ⟨S3,.non⟩
 |
  exc c e'=>
  rw[q] at p;intro H' σ' ns' C a S2 hC;try dsimp only at p
  cases qm:muV ms e' with
  |none=>rw[qm] at p;exact p.elim
  |some mv=>rw[qm] at p;obtain⟨a3,S3,koc⟩:=iG hl S0 (λ_ z=>z) a S2 qm;exact p _ _ a3 S3 hC
 |
  rt r e'=>
  rw[q] at p;intro H' σ' ns' y a rr;try dsimp only at p
  cases qm:muV ms e' with
  |none=>rw[qm] at p;exact p.elim
  |
   some mv=>
   rw[qm] at p;cases r with
   |val v=>obtain⟨a3,S3,koc⟩:=iG hl S0 (λ_ z=>z) a rr.1 qm;exact p _ _ a3 ⟨S3,rr.2.mono (.of koc)⟩
   |new v=>obtain⟨n,o,z1,z2,z3,z4,z5,z6,z7⟩:=rr;obtain⟨a3,S3,koc⟩:=iG (Y:=Xn Y n) hl S0 (λ_ z=>.inl z) a z6 qm;exact p _ _ a3 ⟨n,o,z1,z2,z3,z4,z5,S3,z7.mono (.of koc)⟩
   |pr v u=>obtain⟨pp,d1,n,o,z0,z1,z2,z3,z4,z5,z6,z7,z8⟩:=rr;obtain⟨a3,S3,koc⟩:=iG (Y:=Xn Y n) hl S0 (λ_ z=>.inl z) a z6 qm;exact p _ _ a3 ⟨pp,d1,n,o,z0,z1,z2,z3,z4,z5,S3,z7.mono (.of koc),z8.mono (.of koc)⟩
   |
    par i=>
    obtain⟨R1,R2,v,R3⟩:=rr;obtain⟨a3,S3,koc⟩:=iG hl S0 (λ_ z=>z) a R1 qm;refine p _ _ a3 ⟨S3,?_,?_⟩;all_goals
     obtain⟨u,k1,k2⟩:=a.mu i v R3;have hi:i<(sls ms us).length:=by apply Decidable.byContradiction;intro hi;rw[Nd (Nat.le_of_not_lt hi),Mz] at k1;split at k1 <;> cases k1
     rw[Mc hi] at k1;rw[Mc (by rw[S0.l2];exact hi)] at k2;obtain⟨m,o,w1,w2,_⟩:=S0.sl i _ k1
    .obtain⟨m',o',x1,x2,_⟩:=R1.sl i _ R3;rw[k2,w1] at x1;cases x1;rw[R2] at x2;cases x2;exact w2
    .obtain⟨v',y,_⟩:=a3.mu' i u k1;exact⟨v',y⟩
def okP(D:Def K mg fx n_)(S:FnScope N pn (ao n_))
 (hb:∀(kV doc pm:Value) (an:Option Addr) (cdv ct:Value) (us:List Value),us.length=pn.length->bindArgs (W.fnOf fx fx (cS n_) (br n_) (ao n_) .none kV doc pm an cdv ct) ⟨us,[]⟩=pure (pn.zip us))
 (j_:N.Nodup->∀(f:Addr) (cdv:Value) (A:Around) (outer:List Env) (s:Shared) (H:Hp) (E:XK),Room k (A.deeper (envOfC fx (ao n_) s.heap.objs.size f cdv))->
  DSs K mg (dS (CX1 P w) P w K mg base N fx (ao n_) f cdv A outer s H E) (λ_=>E) (br n_) x) (hn:ms.length=pn.length:=by rfl) (hm:N.length=m:=by rfl):Callee P w K mg base fx (k+1) pn (sp3 K mg (fnP ms m x)):=by
 subst hm;exact D.okR S hb (λvs H Q E sp=>by rw[<- hn];exact qH sp) λf cdv A outer s H vs Q E hr sp=>⟨_,(j_ S.nd f cdv A outer s H E hr).ok,sf sp⟩
end
theorem ny:∀{ts:List Tm}{k:Nat},ts[k]?=some (.bor i)->ie i ts=true
 | [],_,q=>by simp at q
 |
  t::ts,0,q=>by
  have:t=.bor i:=by simpa using q
  subst this;simp [ie]
 |
  t::ts,k+1,q=>by
  have:=ny (ts:=ts) (k:=k) (by simpa using q)
  cases t <;> simp [ie,this]
theorem tu:∀{ms:List Bool}{ts:List Tm}{k:Nat},ms[k]?=some true->ts[k]?=some (.bor i)->jB i ms ts=true
 | [],_,_,q,_=>by simp at q
 |_::_,[],_,_,q=>by simp at q
 |
  b::ms,t::ts,0,q1,q=>by
  have:t=.bor i:=by simpa using q
  have:b=true:=by simpa using q1
  subst_vars;simp [jB]
 |
  b::ms,t::ts,k+1,q1,q=>by
  have:=tu (ms:=ms) (ts:=ts) (k:=k) (by simpa using q1) (by simpa using q)
  cases b <;> cases t <;> simp [jB,this]
theorem jZ:∀{ms:List Bool}{ts:List Tm}{k:Nat},okA e ms ts=true->ms[k]?=some true->∃i,ts[k]?=some (.bor i)/\∃u,(e[i]?).bind Sl.mv=some u
 | [],_,_,_,q=>by simp at q
 |b::ms,[],_,o,_=>by cases b <;> simp [okA] at o
 |
  b::ms,t::ts,0,o,q=>by
  have:b=true:=by simpa using q
  subst this;cases t with
  |bor i=>simp only[okA,w_] at o;exact⟨i,rfl,MR.mp o.1.1⟩
  |_=>simp [okA] at o
 |
  b::ms,t::ts,k+1,o,q=>by
  have o':okA e ms ts=true:=by cases b <;> cases t <;> simp only[okA,w_] at o <;> first |exact o.2 |exact o |(simp at o;done)
  obtain⟨i,y⟩:=jZ (k:=k) o' (by simpa using q);exact⟨i,by simpa using y⟩
theorem iB:∀{ms:List Bool}{ts:List Tm}{k j i:Nat},okA e ms ts=true->ms[k]?=some true->ts[k]?=some (.bor i)->ts[j]?=some (.bor i)->j=k
 | [],_,_,_,_,_,q,_,_=>by simp at q
 |b::ms,[],_,_,_,o,_,_,_=>by cases b <;> simp [okA] at o
 |b::ms,t::ts,0,0,i,o,q1,q2,q3=>rfl
 |
  b::ms,t::ts,0,j+1,i,o,q1,q2,q3=>by
  have h1:b=true:=by simpa using q1
  have h2:t=.bor i:=by simpa using q2
  subst h1 h2;simp only[okA,w_] at o
  have:=ny (i:=i) (ts:=ts) (k:=j) (by simpa using q3)
  rw[this] at o;simp at o
 |
  b::ms,t::ts,k+1,0,i,o,q1,q2,q3=>by
  have h2:t=.bor i:=by simpa using q3
  subst h2;have hm:=tu (i:=i) (ms:=ms) (ts:=ts) (k:=k) (by simpa using q1) (by simpa using q2);have hb:=ny (i:=i) (ts:=ts) (k:=k) (by simpa using q2);cases b <;> simp [okA,hm,hb] at o
 |
  b::ms,t::ts,k+1,j+1,i,o,q1,q2,q3=>by
  have o':okA e ms ts=true:=by cases b <;> cases t <;> simp only[okA,w_] at o <;> first |exact o.2 |exact o |(simp at o;done)
  exact Mb (· + 1) (iB (k:=k) (j:=j) (i:=i) o' (by simpa using q1) (by simpa using q2) (by simpa using q3))
theorem mP:∀{ms:List Bool}{ts:List Tm},okA e ms ts=true->ms.length=ts.length
 | [],[],_=>rfl
 | [],_::_,o=>by simp [okA] at o
 |b::ms,[],o=>by cases b <;> simp [okA] at o
 |
  b::ms,t::ts,o=>by
  have o':okA e ms ts=true:=by cases b <;> cases t <;> simp only[okA,w_] at o <;> first |exact o.2 |exact o |(simp at o;done)
  exact Mb (· + 1) (mP o')
theorem kA:∀{ms:List Bool}{ts:List Tm}{k i:Nat},ms[k]?=some false->ts[k]?=some (.bor i)->(∀v,e[i]?≠some (.sh v))->i∈aH e ms ts
 | [],_,_,_,q,_,_=>by simp at q
 |_::_,[],_,_,_,q,_=>by simp at q
 |
  b::ms,t::ts,0,i,q1,q2,hn=>by
  have h1:b=false:=by simpa using q1
  have h2:t=.bor i:=by simpa using q2
  subst h1 h2;unfold aH;split
  .rename_i v q;exact absurd q (hn v)
  .exact s_ ..
 |
  b::ms,t::ts,k+1,i,q1,q2,hn=>by
  have ih:=kA (ms:=ms) (ts:=ts) (k:=k) (by simpa using q1) (by simpa using q2) hn;cases b <;> cases t <;> simp only[aH] <;> first |exact ih |(split;exact ih;exact r_ _ ih)
def d8{ms:List Bool}{ts:List Tm}{k i:Nat}(q:(aJ ms ts)[k]?=some (some i)):ms[k]?=some true/\ts[k]?=some (.bor i):=by
 unfold aJ at q;rw[M8] at q;cases h1:ms[k]? with
 |none=>rw[h1] at q;cases q
 |
  some b=>
  cases h2:ts[k]? with
  |none=>rw[h1,h2] at q;cases q
  |some t=>rw[h1,h2] at q;have q':mM b t=some i:=LB q;cases b <;> cases t <;> first |(cases q';done) |(cases q';exact⟨rfl,rfl⟩)
def DZ{ms:List Bool}{ts:List Tm}{k i:Nat}(q1:ms[k]?=some true)(q2:ts[k]?=some (.bor i)):(aJ ms ts)[k]?=some (some i):=by unfold aJ;rw[M8,q1,q2];rfl
theorem ui:∀{ts:List Tm}{vs:List Val}{k:Nat}{v:Val},rss e ts=some vs->vs[k]?=some v->∃t,ts[k]?=some t/\rs e t=some v
 | [],_,_,_,q,q2=>by cases q;simp at q2
 |
  t::ts,vs,k,v,q,q2=>by
  unfold rss at q;split at q
  .rename_i u us e1 e2;cases q;cases k with
   |zero=>
    have:u=v:=by simpa using q2
    subst this;exact⟨t,rfl,e1⟩
   |succ k=>obtain⟨t',y1,y2⟩:=ui (k:=k) e2 (by simpa using q2);exact⟨t',by simpa using y1,y2⟩
  .cases q
theorem m9:∀{ts:List Tm}{vs:List Val},rss e ts=some vs->vs.length=ts.length
 | [],_,q=>by cases q;rfl
 |
  t::ts,vs,q=>by
  unfold rss at q;split at q
  .rename_i u us e1 e2;cases q;exact Mb (· + 1) (m9 e2)
  .cases q
theorem i9:∀{ms:List Bool}{mv:List Val}{j:Nat}{v:Val},(az ms mv)[j]?=some (.mu v)->v∈mv
 | [],_,_,_,q=>by simp [az] at q
 |true::ms,u::mv,0,v,q=>by
  have:Sl.mu u=.mu v:=by simpa [az] using q
  cases this;exact s_ ..
 |true::ms,u::mv,j+1,v,q=>r_ _ (i9 (ms:=ms) (mv:=mv) (j:=j) (by simpa [az] using q))
 |true::ms,[],0,v,q=>by simp [az] at q
 |true::ms,[],j+1,v,q=>i9 (ms:=ms) (mv:=[]) (j:=j) (by simpa [az] using q)
 |false::ms,mv,0,v,q=>by simp [az] at q
 |false::ms,mv,j+1,v,q=>i9 (ms:=ms) (mv:=mv) (j:=j) (by simpa [az] using q)
theorem lb:∀{ms:List Bool}{ts:List Tm}{i:Nat},i∈aH e ms ts->∃k:Nat,ms[k]?=some false/\ts[k]?=some (.bor i)
 | [],_,_,q=>by simp [aH] at q
 |_::_,[],_,q=>by simp [aH] at q
 |
  b::ms,t::ts,i,q=>by
  have up:i∈aH e ms ts->∃k:Nat,(b::ms)[k]?=some false/\(t::ts)[k]?=some (.bor i):=λz=>by obtain⟨k,y1,y2⟩:=lb z;exact⟨k+1,by simpa using y1,by simpa using y2⟩
  cases b <;> cases t <;> simp only[aH] at q <;> first |exact up q |skip
  split at q
  .exact up q
  .rcases G_.mp q with rfl |q
   .exact⟨0,rfl,rfl⟩
   .exact up q
def EU(q:cV e (.bor i)=some (e1,v)):(∀j,j≠i->e1[j]?=e[j]?)/\e1[i]?=some (.sh v)/\(e[i]?).bind Sl.val=some v:=by
 unfold cV at q;dsimp only at q;split at q
 .rename_i u q1;cases q;exact⟨λ_ _=>rfl,q1,by rw[q1];rfl⟩
 .rename_i u q1;cases q;exact⟨λj z=>cz z,cU (D_.mp q1).1,by rw[q1];rfl⟩
 .cases q
theorem ox:∀{ms:List Bool}{ts:List Tm},(∀(k i:Nat),ms[k]?=some true->ts[k]?=some (.bor i)->e2[i]?=e[i]?)->okA e ms ts=true->okA e2 ms ts=true
 | [],[],_,o=>rfl
 | [],_::_,_,o=>by simp [okA] at o
 |b::ms,[],_,o=>by cases b <;> simp [okA] at o
 |
  b::ms,t::ts,hk,o=>by
  have o':okA e ms ts=true:=by cases b <;> cases t <;> simp only[okA,w_] at o <;> first |exact o.2 |exact o |(simp at o;done)
  have ih:=ox (λk i q1 q2=>hk (k+1) i (by simpa using q1) (by simpa using q2)) o';cases b with
  |false=>cases t <;> simp only[okA,w_] at o ⊢ <;> first |exact⟨o.1,ih⟩ |exact ih
  |
   true=>
   cases t with
   |bor i=>simp only[okA,w_] at o ⊢;rw[hk 0 i rfl rfl];exact⟨o.1,ih⟩
   |_=>simp [okA] at o
theorem qZ:∀{ms:List Bool}{ts:List Tm},(∀(k i:Nat),ms[k]?=some false->ts[k]?=some (.bor i)->∃v,e[i]?=some (.sh v))->aH e ms ts=[]
 | [],_,_=>by simp [aH]
 |_::_,[],_=>by simp [aH]
 |
  b::ms,t::ts,hk=>by
  have ih:=qZ (λk i q1 q2=>hk (k+1) i (by simpa using q1) (by simpa using q2));cases b <;> cases t <;> simp only[aH] <;> first |exact ih |skip
  rename_i i;obtain⟨v,q⟩:=hk 0 i rfl rfl;rw[q];exact ih
theorem nU(hv:∀i:Nat,(e2[i]?).bind Sl.val=(e[i]?).bind Sl.val):∀(ts:List Tm),rss e2 ts=rss e ts
 | []=>rfl
 |
  t::ts=>by
  unfold rss;rw[nU hv ts];have:rs e2 t=rs e t:=by
   cases t with
   |bor i=>exact hv i
   |_=>rfl
  rw[this]
def A0(ok:okA e ms ts=true):Lnk (aJ ms ts) e (sls ms vs):=by
 refine⟨λj k i q1 q2=>iB ok (d8 q2).1 (d8 q2).2 (d8 q1).2,λj v q=>?_,λj s q hm=>?_⟩
 .obtain⟨b,u,q1,_,q2⟩:=eG q;cases b with
  |false=>cases q2
  |true=>obtain⟨i,y1,w,y2⟩:=jZ ok q1;obtain⟨s,z1,z2⟩:=LS.mp y2;exact⟨i,s,DZ q1 y1,z1,by cases s <;> first |rfl |cases z2⟩
 .obtain⟨b,u,q1,_,q2⟩:=eG q;cases b with
  |false=>subst q2;cases hm
  |true=>exact⟨u,q2⟩
section
variable{K:W.Frag}{mg:Pa}{X N0 L:Addr->Prop}{ns:Ns}{e e2:E3}{σ:St}{H H':Hp}{ms:List Bool}{ts:List Tm}{ds:List V}{vs:List Val}{E:XK}{Q:VK}
theorem TsR.get:∀{ds:List V}{ts:List Tm}{k:Nat}{t:Tm},TsR K mg X ns σ H ds ts->ts[k]?=some t->∃d,ds[k]?=some d/\((∃v,t=.val v/\Rd K mg (Oc X ns) H d v)\/∃i,t=.bor i/\σ[i]?=some (some d))
 |_,_,_,_,.nil,q=>by simp at q
 |_,_,0,_,.val r rr,q=>by have:=(by simpa using q:Tm.val _=_);subst this;exact⟨_,rfl,.inl ⟨_,rfl,r⟩⟩
 |_,_,0,_,.bor r rr,q=>by have:=(by simpa using q:Tm.bor _=_);subst this;exact⟨_,rfl,.inr ⟨_,rfl,r⟩⟩
 |_,_,k+1,t,.val r rr,q=>by obtain⟨d,y⟩:=rr.get (k:=k) (by simpa using q);exact⟨d,by simpa using y⟩
 |_,_,k+1,t,.bor r rr,q=>by obtain⟨d,y⟩:=rr.get (k:=k) (by simpa using q);exact⟨d,by simpa using y⟩
def Xc(X:Addr->Prop)(ns:Ns)(e:E3)(ms:List Bool)(ts:List Tm)(n:Addr):Prop:=(X n\/some n∈ns)/\some n∉aQ (aJ ms ts) ns/\∀i∈aH e ms ts,ns[i]?≠some (some n)
def kZ(S:Sat K mg X N0 ns e σ H)(rt:TsR K mg X ns σ H ds ts)(qv:rss e ts=some vs)(ok:okA e ms ts=true):
 Sat K mg (Xc X ns e ms ts) (nn H) (aQ (aJ ms ts) ns) (sls ms vs) (ds.map some) H:=by
 have l1:=mP ok;have l2:=m9 qv;have l3:=TsR.len rt;have hs:mE (aJ ms ts):=λj k i q1 q2=>iB ok (d8 q2).1 (d8 q2).2 (d8 q1).2;have mv:Mov (Oc X ns) (Oc (Xc X ns e ms ts) (aQ (aJ ms ts) ns)) H H:=.of λn p=>⟨λz=>by
  rcases z.1 with z |z
  .exact p.1 z
  .exact p.2 z,λz=>p.2 (so z)⟩
 refine⟨?_,?_,λ_ z=>z,λn z=>?_,λj k n q1 q2=>?_,λj n q z=>z.2.1 (aN.mpr ⟨j,q⟩),λk s q=>?_,S.bs⟩
 .unfold sls;rw[q_,M0];omega
 .unfold aQ aJ sls;rw[q_,M0,M0];omega
 .rcases z.1 with z |z
  .exact S.xl n z
  .obtain⟨i,z⟩:=aN.mp z;obtain⟨_,_,o,_,_,_,_,q',_⟩:=S.own z;exact⟨o,q'⟩
 .obtain⟨i,y1,y2⟩:=cq q1;obtain⟨i',y3,y4⟩:=cq q2
  have:=S.inj i i' n y2 y4
  subst this;exact hs j k i y1 y3
 .obtain⟨b,v,q1,q2,rfl⟩:=eG q;obtain⟨t,q3,q4⟩:=ui qv q2;obtain⟨d,q5,q6⟩:=rt.get q3;have qd:(ds.map some)[k]?=some (some d):=by rw[LL,q5];rfl
  rw[qd];have qn:(aQ (aJ ms ts) ns)[k]?=some ((mM b t).bind λi=>(ns[i]?).bind id):=by unfold aQ aJ;rw[LL,M8,q1,q3];rfl
  rw[qn];cases b with
  |
   true=>
   obtain⟨i,y1,u,y2⟩:=jZ ok q1;rw[q3] at y1;cases y1;have q4':(e[i]?).bind Sl.val=some v:=q4;obtain⟨s,z1,z2⟩:=LS.mp y2;rw[z1] at q4';have hv:s.val=some v:=q4';have huv:u=v:=by cases s <;> first |cases z2;done |(cases z2;cases hv;rfl)
   subst huv;have hns:∃n,ns[i]?=some (some n):=by
    have y:=S.sl i s z1;cases s with
    |ow v=>obtain⟨n,o,y1,_⟩:=y;exact⟨n,y1⟩
    |mu v=>obtain⟨n,o,y1,_⟩:=y;exact⟨n,y1⟩
    |_=>cases z2
   obtain⟨n,hn⟩:=hns;obtain⟨n',o,k1,k0,k2,k3,k4,_⟩:=S.write z1 z2;rcases q6 with ⟨_,z,_⟩ |⟨i',z,q6⟩
   .cases z
   .cases z;rw[q6] at k1;cases k1;obtain⟨_,_,_,_,_,_,w,_⟩:=S.own hn;rw[q6] at w;cases w;exact⟨n,o,by show some ((ns[i]?).bind id)=_;rw[hn];rfl,rfl,k2,k3,k4.mono mv⟩
  |
   false=>
   refine⟨by cases t <;> rfl,d,rfl,?_⟩;rcases q6 with ⟨u,rfl,q6⟩ |⟨i,rfl,q6⟩
   .cases q4;exact q6.mono mv
   .obtain⟨s,z1,z2⟩:=LS.mp (show (e[i]?).bind Sl.val=some v from q4);have y:=S.sl i s z1;by_cases hsh:∃w,s=.sh w
    .obtain⟨w,rfl⟩:=hsh;cases z2;obtain⟨_,x,w1,w2⟩:=y;rw[q6] at w1;cases w1;exact w2.mono mv
    .have hl:=kA q1 q3 λw z=>hsh ⟨w,by rw[z1] at z;exact LB z⟩;have:∃n o,ns[i]?=some (some n)/\σ[i]?=some (some (.ref n))/\H n=some o/\Rc K mg (Oc X ns) H o v:=by
      cases s with
      |no=>cases z2
      |sh w=>exact absurd ⟨w,rfl⟩ hsh
      |ow w=>cases z2;obtain⟨n,o,y1,y2,_,y3,_,y4⟩:=y;exact⟨n,o,y1,y2,y3,y4⟩
      |lo w=>cases z2;obtain⟨n,o,y1,y2,_,y3,_,y4⟩:=y;exact⟨n,o,y1,y2,y3,y4⟩
      |mu w=>cases z2;obtain⟨n,o,y1,y2,y3,_,y4⟩:=y;exact⟨n,o,y1,y2,y3,y4⟩
      |lm w=>cases z2;obtain⟨n,o,y1,y2,y3,_,y4⟩:=y;exact⟨n,o,y1,y2,y3,y4⟩
     obtain⟨n,o,w1,w2,w3,w4⟩:=this;rw[q6] at w2;cases w2;refine .cell ⟨λy=>y.2.2 i hl w1,λy=>?_⟩ w3 (w4.mono mv);obtain⟨j,y⟩:=aN.mp y;obtain⟨i',y1,y2⟩:=cq y;obtain⟨y3,y4⟩:=d8 y1
     have:=S.inj i' i n y2 w1
     subst this
     have:=iB ok y3 y4 q3
     subst this;rw[q1] at y3;cases y3
theorem si:∀{is:List Nat}{ns:Ns}{e e2:E3},Sat K mg X N0 ns e σ H->(∀i∈is,∃d,σ[i]?=some (some d))->mV e is=some e2->∃h_,Sat K mg X N0 h_ e2 σ H/\Stp ns e H h_ e2 H/\(∀i,i∉is->e2[i]?=e[i]?)/\(∀i∈is,∃v,e2[i]?=some (.sh v))/\∀i:Nat,(e2[i]?).bind Sl.val=(e[i]?).bind Sl.val
 | [],ns,e,e2,S,_,q=>by cases q;exact⟨ns,S,.refl,λ_ _=>rfl,(λ_ z=>by cases z),λ_=>rfl⟩
 |
  i::is,ns,e,e2,S,hd,q=>by
  unfold mV at q;split at q
  .rename_i e1 v q1;obtain⟨d,hd0⟩:=hd i (s_ ..);obtain⟨ns1,S1,a1,r1⟩:=fk (L:=X) (t:=.bor i) S hd0 q1;obtain⟨h_,S2,a2,k1,k2,k3⟩:=si S1 (λj z=>hd j (r_ _ z)) q;obtain⟨y1,y2,y3⟩:=EU q1;refine⟨h_,S2,a1.trans S a2,λj hj=>?_,λj hj=>?_,λj=>?_⟩
   .rw[G_,not_or] at hj;rw[k1 j hj.2,y1 j hj.1]
   .by_cases z:j∈is
    .exact k2 j z
    .rcases G_.mp hj with rfl |hj
     .exact⟨v,by rw[k1 j z];exact y2⟩
     .exact absurd hj z
   .rw[k3 j];by_cases z:j=i
    .subst z;rw[y2,y3];rfl
    .rw[y1 j z]
  .cases q
def tw(hl:aH e ms ts=[])(z:¬ Xc X ns e ms ts n)(z2:some n∉aQ (aJ ms ts) ns):Oc X ns n:=
 ⟨λy=>z ⟨.inl y,z2,λi hi=>by rw[hl] at hi;cases hi⟩,λy=>z ⟨.inr y,z2,λi hi=>by rw[hl] at hi;cases hi⟩⟩
def kP{Y:Addr->Prop}(S:Sat K mg X N0 ns e σ H)(ok:okA e ms ts=true)(a:Stp (aQ (aJ ms ts) ns) (sls ms vs) H (aQ (aJ ms ts) ns) (az ms mv) H')(hf:aH e ms ts=[]\/mv.all cx=true)(hY:∀n,Y n->(∃o,H' n=some o)/\H n=none)(S3:Sat K mg (λn=>Xc X ns e ms ts n\/Y n) N1 (aQ (aJ ms ts) ns) (az ms mv) (ds.map some) H'):
 Sat K mg (λn=>X n\/Y n) N0 ns (aL (aJ ms ts) (az ms mv) e) σ H'/\Stp ns e H ns (aL (aJ ms ts) (az ms mv) e) H'/\(aH e ms ts=[]->∀m,Oc (λn=>Xc X ns e ms ts n\/Y n) (aQ (aJ ms ts) ns) m->Oc (λn=>X n\/Y n) ns m):=by
 have kk:aH e ms ts=[]->∀m,Oc (λn=>Xc X ns e ms ts n\/Y n) (aQ (aJ ms ts) ns) m->Oc (λn=>X n\/Y n) ns m:=λhf m z=>by
  have:=tw hf (λy=>z.1 (.inl y)) z.2
  exact⟨λy=>by
   rcases y with y |y
   .exact this.1 y
   .exact z.1 (.inr y),this.2⟩
 obtain⟨S4,a4⟩:=S.back (Y:=λn=>X n\/Y n) (A0 (vs:=vs) ok) a S3.bs (λm z=>by
  rcases z with z |z
  .obtain⟨o,z'⟩:=S.xl m z;refine⟨?_,.inl z⟩;cases qh:H' m with
   |none=>rw[a.dom m qh] at z';cases z'
   |some o'=>exact⟨o',rfl⟩
  .exact⟨(hY m z).1,.inr (hY m z).2⟩) (λ_ z=>.inl z) λj w n' q1 q2=>by
  obtain⟨s,u,o,b1,b2,b3,b4,b5,b6,b7⟩:=S3.own q2;rw[q1] at b1;cases b1;cases b3;rcases hf with hf |hf
  .exact⟨o,b5,b6,b7.mono (.of (kk hf))⟩
  .exact⟨o,b5,b6,b7.flat .refl (LQ.mp hf w (i9 q1))⟩
 exact⟨S4,a4,kk⟩
def Sat.eqX{X Y:Addr->Prop}(S:Sat K mg X N0 ns e σ H)(h:∀n,X n ↔ Y n):Sat K mg Y N0 ns e σ H:=by have:X=Y:=funext λn=>propext (h n);exact this ▸ S
def nN(S:Sat K mg X N0 ns e σ H)(ok:okA e ms ts=true)(a:Stp (aQ (aJ ms ts) ns) (sls ms vs) H (aQ (aJ ms ts) ns) (az ms mv) H')(hf:aH e ms ts=[]\/mv.all cx=true)(S3:Sat K mg (Xc X ns e ms ts) N1 (aQ (aJ ms ts) ns) (az ms mv) (ds.map some) H'):
 Sat K mg X N0 ns (aL (aJ ms ts) (az ms mv) e) σ H'/\Stp ns e H ns (aL (aJ ms ts) (az ms mv) e) H'/\(aH e ms ts=[]->∀m,Oc (Xc X ns e ms ts) (aQ (aJ ms ts) ns) m->Oc X ns m):=by
 obtain⟨S4,a4,_⟩:=kP (Y:=λ_=>False) S ok a hf (λ_ z=>z.elim) (S3.eqX λn=>⟨.inl,λz=>z.elim id (·.elim)⟩);exact⟨S4.eqX λn=>⟨λz=>z.elim id (·.elim),.inl⟩,a4,λhf m z=>tw hf z.1 z.2⟩
def tG(S:Sat K mg X N0 ns e σ H)(hL:∀a,H a=none->L a)(rt:TsR K mg X ns σ H ds ts)(ok:okA e ms ts=true)(hf:aH e ms ts=[]\/(jO r=true/\mv.all cx=true))(p:PG3 K mg X N0 ns e σ H E (KE K mg X N0 L σ Q) (.ok (r.tm ts) (aL (aJ ms ts) (az ms mv) e)))
 (a:Stp (aQ (aJ ms ts) ns) (sls ms vs) H (aQ (aJ ms ts) ns) (az ms mv) H') (rr:RtR K mg (Xc X ns e ms ts) (nn H) (aQ (aJ ms ts) ns) (az ms mv) (ds.map some) H' x r):Q x H':=by
 have hf2:aH e ms ts=[]\/mv.all cx=true:=hf.imp id (·.2);cases r with
 |
  val v=>
  obtain⟨S3,rv⟩:=rr;obtain⟨S4,a4,kk⟩:=nN S ok a hf2 S3;refine p _ _ a4 S4 x ?_;rcases hf with hf |hf
  .exact rv.mono (.of (kk hf))
  .exact rv.flat .refl hf.1
 |
  new v=>
  obtain⟨n,o,rfl,z2,z3,z4,z5,S3,z7⟩:=rr;obtain⟨S4,a4,kk⟩:=kP (Y:=λm=>m=n) S ok a hf2 (λm z=>by subst z;exact⟨⟨o,z4⟩,z2⟩) S3;refine p _ _ a4 (S4.weak λ_ z=>.inl z) _ ⟨n,o,rfl,hL n z2,λy=>?_,z4,z5,S4,?_⟩
  .obtain⟨u,y⟩:=S.xl n y;rw[show H n=none from z2] at y;cases y
  .rcases hf with hf |hf
   .exact z7.mono (.of (kk hf))
   .exact z7.flat .refl hf.1
 |
  pr v u=>
  obtain⟨pp,d1,n,o,rfl,z1,z2,z3,z4,z5,S3,z6,z7⟩:=rr;obtain⟨S4,a4,kk⟩:=kP (Y:=λm=>m=n) S ok a hf2 (λm z=>by subst z;exact⟨⟨o,z4⟩,z2⟩) S3;have on:Oc X ns n:=⟨λy=>(by
   obtain⟨u,y⟩:=S.xl n y;rw[show H n=none from z2] at y;cases y),λy=>by
   obtain⟨i,y⟩:=aN.mp y;exact S4.nx i n y (.inr rfl)⟩
  have wk:Mov (Oc (λm=>X m\/m=n) ns) (Oc X ns) H' H':=.of λm z=>⟨λc=>z.1 (.inl c),z.2⟩;refine p _ _ a4 (S4.weak λ_ z=>.inl z) _ (.tup z1 (.cons ?_ (.cons (.cell on z4 ?_) .nil)))
  .rcases hf with hf |hf
   .exact (z6.mono (.of (kk hf))).mono wk
   .exact z6.flat .refl (w_ _ _ ▸ hf.1).1
  .rcases hf with hf |hf
   .exact (z7.mono (.of (kk hf))).mono wk
   .exact z7.flat .refl (w_ _ _ ▸ hf.1).2
 |
  par i=>
  obtain⟨S3,w1,w,w2⟩:=rr;obtain⟨S4,a4,_⟩:=nN S ok a hf2 S3;refine p _ _ a4 S4 x ?_;obtain⟨u,x1,_⟩:=a.mu i w w2;obtain⟨b,u',x2,_,x3⟩:=eG x1;cases b with
  |false=>cases x3
  |
   true=>
   obtain⟨k,y1,_⟩:=jZ ok x2;obtain⟨d',y2,z⟩:=rt.get y1;have e1:(Rt.par i).tm ts=.bor k:=by show (ts[i]?).getD _=_;rw[y1];rfl
   rw[e1];rcases z with ⟨_,z,_⟩ |⟨j,z,z2⟩
   .cases z
   .cases z;rw[LL,y2] at w1;cases w1;exact z2
theorem BX{f:PFn}(S:Sat K mg X N0 ns e σ H)(hL:∀a,H a=none->L a)(rt:TsR K mg X ns σ H ds ts)(p:PG3 K mg X N0 ns e σ H E (KE K mg X N0 L σ Q) (match rss e ts with
 |none=>.stuck
 |some vs=>if okA e f.ms ts=true then (match f.G vs with
  |.stuck=>.stuck
  |.ok r mv=>if (aH e f.ms ts).isEmpty || (jO r&&mv.all cx) then .ok (r.tm ts) (aL (aJ f.ms ts) (az f.ms mv) e) else (match mV e (aH e f.ms ts) with
   |some e2=>.ok (r.tm ts) (aL (aJ f.ms ts) (az f.ms mv) e2)
   |none=>.stuck)
  |.exc c mv=>if (aH e f.ms ts).isEmpty || mv.all cx then .exc c (aL (aJ f.ms ts) (az f.ms mv) e) else .stuck) else .stuck)):sp3 K mg f ds H Q E:=by
 split at p
 .exact p.elim
 .rename_i vs
   qv
  split at p
  .rename_i ok;have b_:vs.length=f.ms.length:=by rw[m9 qv,mP ok]
   split at p
   .exact p.elim
   .rename_i r mv q;split at p
    .rename_i hf;rw[Np,w_] at hf;exact⟨_,_,vs,b_,kZ S rt qv ok,by rw[q];exact λx H' a rr=>tG S hL rt ok (hf.imp List.isEmpty_iff.mp id) p a rr⟩
    .split
      at p
     .rename_i e2 qd;obtain⟨h_,S2,a2,k1,k2,k3⟩:=si S (λi hi=>by
       obtain⟨k,_,y⟩:=lb hi;obtain⟨d,_,z⟩:=rt.get y;rcases z with ⟨_,z,_⟩ |⟨j,z,z2⟩
       .cases z
       .cases z;exact⟨d,z2⟩) qd
      have ok2:okA e2 f.ms ts=true:=ox (λk i q1 q2=>k1 i λz=>by
       obtain⟨k',y1,y2⟩:=lb z
       have:=iB ok q1 q2 y2
       subst this;rw[q1] at y1;cases y1) ok
      have ln:aH e2 f.ms ts=[]:=qZ λk i q1 q2=>by
       by_cases z:i∈aH e f.ms ts
       .exact k2 i z
       .rw[k1 i z];exact Classical.byContradiction λw=>z (kA q1 q2 λv y=>w ⟨v,y⟩)
      exact⟨_,_,vs,b_,kZ S2 (rt.stp a2) (by rw[nU k3];exact qv) ok2,by rw[q];exact λx H' a rr=>tG S2 (λb z=>hL b z) (rt.stp a2) ok2 (.inl ln) (p.after S a2) a rr⟩
     .exact p.elim
   .rename_i c mv q;split at p
    .rename_i hf;rw[Np] at hf;refine⟨_,_,vs,b_,kZ S rt qv ok,?_⟩;rw[q];intro C H' a S3 hC;obtain⟨S4,a4,_⟩:=nN S ok a (hf.imp List.isEmpty_iff.mp id) S3;exact p _ _ C a4 S4 hC
    .exact p.elim
  .exact p.elim
end
noncomputable def ai (f:PFn) (a:PAs):PEx:=⟨22,Cr f.ms f.G a.G⟩
section
variable{K:W.Frag}{mg:Pa}{X:Cx}{ES:St->XK}{e:Expr}{es:List Expr}{A:PAs}{pos:Pos}{k:Nat}{ps:List Str}
def uM{f:PFn}(σ:St)(H:Hp)(Q:VK):rdE K mg ES (ai f A).G σ H Q->rdA K mg ES A.G σ H λvs H1=>sp3 K mg f vs H1 Q (ES σ):=λzz=>zz.el λY N0 L ns e S hl p=>
 ⟨Y,N0,ns,e,S,PG3.imp p S λts e1 ns1 H1 a1 S1 p1 xs r1=>BX S1 (λa z=>hl a (a1.dom a z)) r1 p1⟩
def Ac{f:PFn}{x:Str}{p0:Pos}(C:Callee X.prog X.w X.K X.mg X.base x k ps (sp3 K mg f))(hr:Room k X.A)(hg:Gl X x)(hx:mG X ES)(ha:DA K mg X ES (e::es) A)
 (hdb:(x==("__debug__" : Str))=false) (he:starEach (e::es) X.env=(false,eval e X.env)::starEach es X.env) (hpl:(backTo pos (starEach es X.env)).any (·.1)=false):
 DE K mg X ES (.Call (.Name x p0) (e::es) [] pos) (ai f A):=by
 obtain⟨fa,fd,F',m,kp,bb,_⟩:=C.ex;refine⟨λpins s σ H Q I hh=>Md (nz I hg m ?_ hdb)⟩;refine W.callWith_K (h₀:=X.base) I.ok.mod.kin kp (LX (ha.ok pos pins s σ H _ I (uM σ H Q hh)) (λus s1 ⟨vs,H1,I1,r,q⟩=>⟨I1.kIn,?_⟩) λ_ _ z=>z) he hpl;have hl:(us++[]).length=ps.length:=by rw[L6,<- r.length];exact F'.len _ _ _ _ q
 refine wpAny_call (Ov (F'.run X.A X.stack s1 H1 ⟨us,[]⟩ us vs Q (ES σ) hr I1.env0 (by simpa using bb s1 us I1.kIn hl) r q) λr s' hq=>?_);cases r with
 |error ex=>exact hx pins σ H1 s1 ex s' I1 hq
 |
  ok fl=>
  cases fl with
  |ret u=>exact I1.after hq
  |next=>exact False.elim hq
  |brk=>exact False.elim hq
  |cont=>exact False.elim hq
def CD(hp:pO (CX1 X.prog X.w) X E):mG X (λ_=>E):=λpins σ H s e s' I h=>hp pins σ H s e s' I h
def Lx:mG X (λ_=>E0):=λpins σ H s e s' I h=>Jp pins σ H s e s' I h
def zcF{f:PFn}{x:Str}{p0:Pos}{k j:Nat}{ps:List Str}(C:Callee X.prog X.w X.K X.mg X.base x j ps (sp3 K mg f))(hr:Room k X.A)(ha:DA K mg X ES (e::es) A)(hk:j<=k:=by omega)(hg:Gl X x:=by exact rfl)(hx:mG X ES:=by first |exact CD B7 |exact Lx |assumption)(hdb:(x==("__debug__" : Str))=false:=by decide)(he:starEach (e::es) X.env=(false,eval e X.env)::starEach es X.env:=by rfl)(hpl:(backTo pos (starEach es X.env)).any (·.1)=false:=by rfl):DE K mg X ES (.Call (.Name x p0) (e::es) [] pos) (ai f A):=Ac C (hr.mono hk) hg hx ha hdb he hpl
end
noncomputable def aI (f:Int->Int->Val):Val->Val->Bv:=λx y=>match x,y with
 |.int i,.int j=>.val (f i j)
 |_,_=>.stuck
open Classical in
def aIc(C:Int->Int->Prop)(f:Int->Int->Val):Val->Val->Bv:=λx y=>match x,y with
 |.int i,.int j=>if C i j then .val (f i j) else .stuck
 |_,_=>.stuck
noncomputable def aCat:Val->Val->Bv:=λx y=>match x,y with
 |.lst xs,.lst ys=>if xs.length+ys.length<=16777216 then .new (.lst (xs++ys)) else .stuck
 |.tup xs,.tup ys=>if xs.length+ys.length<=16777216 then .val (.tup (xs++ys)) else .stuck
 |_,_=>.stuck
noncomputable def AU:Val->Val->Bv:=λx y=>match x,y with
 |.int i,.int j=>.val (.int (i+j))
 |x,y=>aCat x y
noncomputable def aMin:=aI λi j=>.int (i-j)
def BO:=aIc CMulA λi j=>.int (i*j)
def BV:=aIc CDivB λi j=>.int (i.fdiv j)
def Ba:=aIc (λ_ j=>j≠0) λi j=>.int (i.fmod j)
def Be:=aIc jn λi j=>.int (i^j.toNat)
def B3:=aIc jn λi j=>.int (i*2^j.toNat)
noncomputable def aLt:=aI λi j=>.bl (decide (i<j))
noncomputable def aLe:=aI λi j=>.bl (decide (i<=j))
noncomputable def aGt:=aI λi j=>.bl (decide (j<i))
noncomputable def aGe:=aI λi j=>.bl (decide (j<=i))
noncomputable def BS:Val->Bv:=λx=>match x with
 |.int i=>.val (.int (-i))
 |_=>.stuck
noncomputable def aIx:Val->Val->Bv:=λx y=>match x.items,y with
 |some xs,.int i=>(match atI xs i with
  |some v=>.val v
  |none=>.stuck)
 |_,_=>.stuck
mutual
def cB:Nat->Val->Option PyData
 |0,_=>none
 |_+1,.non=>some .none
 |_+1,.bl b=>some (.bool b)
 |_+1,.int i=>some (.int i)
 |_+1,.str x=>some (.str x)
 |k+1,.tup xs=>(dn k xs).map .tuple
 |k+1,.lst xs=>(dn k xs).map .list
 |_+1,_=>none
def dn:Nat->List Val->Option (List PyData)
 |_,[]=>some []
 |k,x::xs=>match cB k x,dn k xs with
  |some a,some b=>some (a::b)
  |_,_=>none
end
noncomputable def bo (x y:Val):Option Bool:=match cB 164 x,cB 164 y with
 |some a,some b=>if shp a=true/\shp b=true then some (PyData.eqv a b) else none
 |_,_=>none
noncomputable def aEq (neg:Bool):Val->Val->Bv:=λx y=>match bo x y with
 |some b=>.val (.bl (if neg then !b else b))
 |none=>.stuck
noncomputable def lF:Val->Bool
 |.non=>true
 |.bl _=>true
 |.int _=>true
 |.str _=>true
 |_=>false
noncomputable def rJ:Val->V
 |.bl b=>.bl b
 |.int i=>.int i
 |.str x=>.str x
 |_=>.non
noncomputable def eq1 (x y:Val):Bool:=eqV (rJ x) (rJ y)
noncomputable def aIn (neg:Bool):Val->Val->Bv:=λx y=>match y.items with
 |some xs=>if lF x=true/\xs.all lF=true then .val (.bl (if neg then !(xs.any λd=>eq1 d x) else xs.any λd=>eq1 d x)) else .stuck
 |none=>.stuck
noncomputable def aIsN (neg:Bool):Val->Val->Bv:=λx y=>match x,y with
 |.non,.non=>.val (.bl (!neg))
 |_,.non=>.val (.bl neg)
 |_,_=>.stuck
noncomputable def A1:List Val->Bv:=λvs=>match vs with
 | [v]=>(match v.items with
  |some xs=>.val (.int xs.length)
  |none=>(match v with
   |.str z=>if z.length<=16777216 then .val (.int z.length) else .stuck
   |_=>.stuck))
 |_=>.stuck
noncomputable def BJ:List Val->Bv:=λvs=>match vs with
 | [.int i]=>.val (.int (if i<0 then -i else i))
 |_=>.stuck
noncomputable def vv:List Val->Bv:=λvs=>match vs with
 | [.int i,.int j]=>.val (.int (if j>i then j else i))
 |_=>.stuck
noncomputable def vo:List Val->Bv:=λvs=>match vs with
 | [.int i,.int j]=>.val (.int (if j<i then j else i))
 |_=>.stuck
noncomputable def fg:List Val->Option (List Bool)
 | []=>some []
 |.bl b::r=>(fg r).map (b :: ·)
 |_=>none
noncomputable def d5:List Val->Option (List Int)
 | []=>some []
 |.int b::r=>(d5 r).map (b :: ·)
 |_=>none
noncomputable def BC:List Val->Bv:=λvs=>match vs with
 | [.lst xs]=>(match fg xs with
  |some bs=>.val (.bl (bs.all id))
  |none=>.stuck)
 |_=>.stuck
noncomputable def AO:List Val->Bv:=λvs=>match vs with
 | [.lst xs]=>(match d5 xs with
  |some bs=>.val (.int bs.sum)
  |none=>.stuck)
 |_=>.stuck
noncomputable def Bk:List Val->Bv:=λvs=>match vs with
 | [.int i]=>.val (.int i)
 | [.bl b]=>.val (.int (if b then 1 else 0))
 |_=>.stuck
noncomputable def tyC:Val->Option Cl
 |.non=>some (.b "NoneType")
 |.bl _=>some (.b "bool")
 |.int _=>some (.b "int")
 |.str _=>some (.b "str")
 |.tup _=>some (.b "tuple")
 |.exc x=>some (.o x)
 |.lst _=>some (.b "list")
 |.dct _=>some (.b "dict")
 |_=>none
noncomputable def clV:Val->Option Cl
 |.ty n=>some (.b n)
 |.glb x=>some (.o x)
 |_=>none
noncomputable def pB:List Val->Option (List Cl)
 | []=>some []
 |v::vs=>match clV v,pB vs with
  |some c,some cs=>some (c::cs)
  |_,_=>none
noncomputable def J3:Val->Option (List Cl)
 |.tup cs=>pB cs
 |v=>(clV v).map ([·])
noncomputable def zK (kt:ja):List Val->Bv:=λvs=>match vs with
 | [v,c]=>(match tyC v,J3 c with
  |some t,some (c0::cr)=>(match gg kt t (c0::cr),kit kt t c0 with
   |some b,some _=>.val (.bl b)
   |_,_=>.stuck)
  |_,_=>.stuck)
 |_=>.stuck
noncomputable def gk (xs:List Val) (lo hi:Option Int):List Val:=(xs.drop (HT.sIx xs.length 0 lo)).take (HT.sIx xs.length xs.length hi-HT.sIx xs.length 0 lo)
noncomputable def aSl (x:Val) (lo hi:Option Int):Bv:=match x with
 |.tup xs=>if HT.sIx xs.length 0 lo=0/\HT.sIx xs.length xs.length hi=xs.length then .stuck else .val (.tup (gk xs lo hi))
 |.lst xs=>.new (.lst (gk xs lo hi))
 |.kl xs=>.new (.lst (gk xs lo hi))
 |.str z=>if z.length<=16777216 then .val (.str (Txt.slice z lo hi)) else .stuck
 |_=>.stuck
noncomputable def nJ:Val->List Val->Option (Val×Val):=λu vs=>match u,vs with
 |.lst xs,[v]=>if xs.length<16777216 then some (.lst (xs++[v]),.non) else none
 |_,_=>none
noncomputable def qG:Val->List Val->Option (Val×Val):=λu vs=>match u,vs with
 |.lst xs,[]=>(match xs[xs.length-1]? with
  |some v=>some (.lst xs.dropLast,v)
  |none=>none)
 |_,_=>none
noncomputable def sL:Val->Val->Val->Option Val:=λu i v=>match u,i with
 |.lst xs,.int k=>(match ixN xs.length k with
  |some j=>some (.lst (xs.set j v))
  |none=>none)
 |_,_=>none
noncomputable def gp (d:Val):List Val->Option (List Bool)
 | []=>some []
 |x::r=>match bo x d,gp d r with
  |some b,some bs=>some (b::bs)
  |_,_=>none
noncomputable def ft:Val->List Val->Bv:=λx vs=>match x,vs with
 |.lst xs,[d]=>(match gp d xs with
  |some bs=>if bs.idxOf true<bs.length then .val (.int (bs.idxOf true:Nat)) else .stuck
  |none=>.stuck)
 |_,_=>.stuck
noncomputable def aF:PO2:=⟨AU⟩
noncomputable def c7:PO2:=⟨aMin⟩
def aC:PO2:=⟨BO⟩
def eN:PO2:=⟨BV⟩
def bZ:PO2:=⟨Ba⟩
def fN:PO2:=⟨Be⟩
def sk:PO2:=⟨B3⟩
noncomputable def bLt:PO2:=⟨aLt⟩
noncomputable def bLe:PO2:=⟨aLe⟩
noncomputable def bGt:PO2:=⟨aGt⟩
noncomputable def bGe:PO2:=⟨aGe⟩
noncomputable def bIx:PO2:=⟨aIx⟩
noncomputable def bEq:PO2:=⟨aEq false⟩
noncomputable def bNe:PO2:=⟨aEq true⟩
noncomputable def bIn:PO2:=⟨aIn false⟩
noncomputable def BE:PO2:=⟨aIn true⟩
noncomputable def bIs:PO2:=⟨aIsN false⟩
noncomputable def vA:PO2:=⟨aI λi j=>.int (i+j)⟩
noncomputable def wj:PU1:=⟨BS⟩
noncomputable def bK:PBf:=⟨A1⟩
noncomputable def dN:PBf:=⟨BJ⟩
noncomputable def p8:PBf:=⟨vv⟩
noncomputable def rz:PBf:=⟨vo⟩
noncomputable def iS:PBf:=⟨BC⟩
noncomputable def cA:PBf:=⟨AO⟩
noncomputable def vm:PBf:=⟨Bk⟩
noncomputable def bp (kt:ja):PBf:=⟨zK kt⟩
noncomputable def er:PMm:=⟨nJ⟩
noncomputable def lV:PMm:=⟨qG⟩
noncomputable def eE:PMv:=⟨ft⟩
noncomputable def seL:PSe:=⟨sL⟩
section
variable{K:W.Frag}{mg:Pa}{P:Addr->Prop}{H:Hp}{Q:VK}{v:Val}{vs:List Val}{x:V}{ds:List V}{neg:Bool}
def bv(p:∀H1 x,Gr H H1->Rd K mg P H1 x v->Q x H1)(r:Rd K mg P H x v):Q x H:=p H x .refl r
def bvL(p:∀H1 a o,Gr H H1->H1 a=none->NotFz o->Rc K mg P H1 o (.lst vs)->Q (.ref a) (upd H1 a o))(r:Rds K mg P H ds vs):∀l,H l=none->Q (.ref l) (upd H l (.lst ds)):=λl hl=>p H l _ .refl hl trivial (.lst r)
def bvT(p:∀H1 x,Gr H H1->Rd K mg P H1 x (.tup vs)->Q x H1)(r:Rds K mg P H ds vs):∀l,H l=none->Q (.ref l) (upd H l (.tup ds)):=λl hl=>p _ _ (Gr.upd hl) (.tup (SqT.of aR) (r.mono (Gr.upd hl).mov))
def jP{f:Int->Int->V}{g:Int->Int->Val}(hr:∀i j P H,Rd K mg P H (f i j) (g i j)):OpD K mg (rI0 f) (aI g):=λP H x y v u Q rx ry p=>by
 unfold aI at p;split at p
 .obtain rfl:=rx.int;obtain rfl:=ry.int;exact⟨_,_,rfl,rfl,bv p (hr _ _ _ _)⟩
 .exact p.elim
def rN{f:Int->Int->V}{g:Int->Int->Val}{C:Int->Int->Prop}(hr:∀i j P H,Rd K mg P H (f i j) (g i j)):OpD K mg (rI C f) (aIc C g):=λP H x y v u Q rx ry p=>by
 unfold aIc at p;split at p
 .obtain rfl:=rx.int;obtain rfl:=ry.int;split at p
  .rename_i hc;exact⟨_,_,rfl,rfl,hc,bv p (hr _ _ _ _)⟩
  .exact p.elim
 .exact p.elim
def yW:OpD K mg (λx y H Q=>rI0 (λi j=>.int (i+j)) x y H Q\/(vK x y H Q\/(pj K x y H Q\/oT K x y H Q))) aF.G:=λP H x y v u Q rx ry p=>by
 replace p:BvP K mg P H Q (AU v u):=p;unfold AU at p;split at p
 .obtain rfl:=rx.int;obtain rfl:=ry.int;exact .inl ⟨_,_,rfl,rfl,bv p (.int _)⟩
 .right;unfold aCat at p;split at p
  .obtain⟨a,xs,rfl,e1,q1⟩:=rx.lst;obtain⟨b,ys,rfl,e2,q2⟩:=ry.lst;split at p
   .rename_i hl;exact .inl ⟨_,_,xs,ys,rfl,rfl,e1,e2,by rw[q1.len,q2.len];exact hl,bvL p (q1.append q2)⟩
   .exact p.elim
  .obtain⟨a,xs,rfl,e1,q1⟩:=rx.tup;obtain⟨b,ys,rfl,e2,q2⟩:=ry.tup;split at p
   .rename_i hl;cases q1 with
    |nil=>exact .inr (.inr ⟨_,_,_,rfl,rfl,e1,e2,bv p (.tup e2 q2)⟩)
    |cons r0 r1=>refine .inr (.inl ⟨_,_,_,_,rfl,rfl,e1,e2,(λz=>nomatch z),by rw[(Rds.cons r0 r1).len,q2.len];exact hl,λz=>?_,λ_=>bvT p ((Rds.cons r0 r1).append q2)⟩);subst z;cases q2;rw[L6] at p;exact bv p (.tup e1 (.cons r0 r1))
   .exact p.elim
  .exact p.elim
def FW:OpD K mg (rI0 λi j=>.int (i-j)) c7.G:=jP λ_ _ _ _=>.int _
def FK:OpD K mg (rI CMulA λi j=>.int (i*j)) aC.G:=rN λ_ _ _ _=>.int _
def Fi:OpD K mg (rI CDivB λi j=>.int (i.fdiv j)) eN.G:=rN λ_ _ _ _=>.int _
def G8:OpD K mg (rI (λ_ j=>j≠0) λi j=>.int (i.fmod j)) bZ.G:=rN λ_ _ _ _=>.int _
def Ga:OpD K mg (rI jn λi j=>.int (i^j.toNat)) fN.G:=rN λ_ _ _ _=>.int _
def HD:OpD K mg (rI jn λi j=>.int (i*2^j.toNat)) sk.G:=rN λ_ _ _ _=>.int _
def C5:OpD K mg (rI0 λi j=>.bl (decide (i<j))) bLt.G:=jP λ_ _ _ _=>.bl _
def K7:OpD K mg (rI0 λi j=>.bl (decide (i<=j))) bLe.G:=jP λ_ _ _ _=>.bl _
def Cg:OpD K mg (rI0 λi j=>.bl (decide (j<i))) bGt.G:=jP λ_ _ _ _=>.bl _
def C4:OpD K mg (rI0 λi j=>.bl (decide (j<=i))) bGe.G:=jP λ_ _ _ _=>.bl _
def Gw:IpD K mg (ipI λi j=>i+j) vA.G:=jP λ_ _ _ _=>.int _
def G9:UnD K mg (rU λi=>.int (-i)) wj.G:=λP H x v Q r p=>by
 replace p:BvP K mg P H Q (BS v):=p;unfold BS at p;split at p
 .obtain rfl:=r.int;exact⟨_,rfl,bv p (.int _)⟩
 .exact p.elim
def KD(r:Rds K mg P H ds vs)(e:atI vs i=some v):∃d,atI ds i=some d/\Rd K mg P H d v:=by
 unfold atI at e ⊢;rw[r.len];cases q:ixN vs.length i with
 |none=>rw[q] at e;cases e
 |some j=>rw[q] at e;exact r.get e
def JR:OpD K mg (λx y H Q=>zG K x y H Q\/AY K x y H Q) bIx.G:=λP H x y v u Q rx ry p=>by
 replace p:BvP K mg P H Q (aIx v u):=p;unfold aIx at p;split at p
 .rename_i xs i e1;obtain⟨a,ys,rfl,h,q⟩:=rx.items e1;obtain rfl:=ry.int;split at p
  .rename_i w e3;obtain⟨d,e4,q2⟩:=KD q e3;rcases h with h |h
   .exact .inl ⟨_,_,_,d,rfl,rfl,h,e4,bv p q2⟩
   .exact .inr ⟨_,_,_,d,rfl,rfl,h,e4,bv p q2⟩
  .exact p.elim
 .exact p.elim
def AG{k:Nat}(hk:∀d v pd,Rd K mg P H d v->cB k v=some pd->Rep K H d pd){ps:List PyData}(r:Rds K mg P H ds vs):dn k vs=some ps->Reps K H ds ps:=
 r.ind (M:=λds vs=>∀ps,dn k vs=some ps->Reps K H ds ps) (λ_ q=>by unfold dn at q;cases q;exact .nil) (λr _ ih ps q=>by
  unfold dn at q;split at q
  .rename_i a b e1 e2;cases q;exact .cons (hk _ _ _ r e1) (ih _ e2)
  .cases q) ps
theorem iq:∀(k:Nat) (d:V) (v:Val) (pd:PyData),ShR K mg P H d v->cB k v=some pd->Rep K H d pd
 |0,_,_,_,_,q=>by unfold cB at q;cases q
 |
  k+1,d,v,pd,r,q=>by
  have ih:∀{ds:List V}{vs:List Val}{ps:List PyData},Rds K mg P H ds vs->dn k vs=some ps->Reps K H ds ps:=λr=>AG (λd v pd r q=>iq k d v pd (.inl r) q) r;cases v with
  |non=>obtain rfl:=r.non;simp only[cB] at q;cases q;exact .non
  |bl b=>obtain rfl:=r.bl;simp only[cB] at q;cases q;exact .bl b
  |int b=>obtain rfl:=r.int;simp only[cB] at q;cases q;exact .int b
  |str b=>obtain rfl:=r.str;simp only[cB] at q;cases q;exact .str b
  |tup xs=>obtain⟨a,ds,rfl,e,r2⟩:=r.tup;simp only[cB] at q;obtain⟨ps,q1,rfl⟩:=LK.mp q;exact .tup e (ih r2 q1)
  |lst xs=>obtain⟨a,ds,rfl,e,r2⟩:=r.lstL;simp only[cB] at q;obtain⟨ps,q1,rfl⟩:=LK.mp q;exact .lst e (ih r2 q1)
  |_=>simp only[cB] at q;cases q
def Hj{x y:V}{u:Val}{b:Bool}(r1:ShR K mg P H x v)(r2:ShR K mg P H y u)(q:bo v u=some b):∃a c,Rep K H x a/\Rep K H y c/\shp a=true/\shp c=true/\PyData.eqv a c=b:=by
 unfold bo at q;split at q
 .rename_i a c e1 e2;split at q
  .rename_i hs;cases q;exact⟨a,c,iq 164 _ _ _ r1 e1,iq 164 _ _ _ r2 e2,hs.1,hs.2,rfl⟩
  .cases q
 .cases q
def CL{x y:V}{u:Val}(r1:ShR K mg P H x v)(r2:ShR K mg P H y u)(p:BvP K mg P H Q (aEq neg v u)):∃a c,Rep K H x a/\Rep K H y c/\shp a=true/\shp c=true/\Q (.bl (if neg then !PyData.eqv a c else PyData.eqv a c)) H:=by
 unfold aEq at p;split at p
 .rename_i b q;obtain⟨a,c,h1,h2,h3,h4,rfl⟩:=Hj r1 r2 q;exact⟨a,c,h1,h2,h3,h4,bv p (.bl _)⟩
 .exact p.elim
def Cc:OpD K mg (AA K) bEq.G:=λP H x y v u Q rx ry p=>CL rx ry p
def Jw:OpD K mg (zP K) bNe.G:=λP H x y v u Q rx ry p=>CL rx ry p
def uS(r:ShR K mg P H x v)(f:lF v=true):x=rJ v/\L2.flatV x=true:=by
 cases v with
 |non=>obtain rfl:=r.non;exact⟨rfl,rfl⟩
 |bl b=>obtain rfl:=r.bl;exact⟨rfl,rfl⟩
 |int b=>obtain rfl:=r.int;exact⟨rfl,rfl⟩
 |str b=>obtain rfl:=r.str;exact⟨rfl,rfl⟩
 |_=>cases f
def As(y:Val)(r:Rds K mg P H ds vs):vs.all lF=true->ds.all L2.flatV=true/\inV (rJ y) ds=vs.any λd=>eq1 d y:=
 r.ind (M:=λds vs=>vs.all lF=true->ds.all L2.flatV=true/\inV (rJ y) ds=vs.any λd=>eq1 d y) (λ_=>⟨rfl,rfl⟩) λr _ ih f=>by rw[OE,w_] at f;obtain⟨rfl,h2⟩:=uS (.inl r) f.1;obtain⟨h3,h4⟩:=ih f.2;refine⟨by rw[OE,h2,h3];rfl,?_⟩;unfold inV at h4 ⊢;rw[Mw,Mw,h4];rfl
def CB:OpD K mg (rIn K neg) (aIn neg):=λP H x y v u Q rx ry p=>by
 unfold aIn at p;split at p
 .rename_i xs e;obtain⟨a,ys,rfl,h,q⟩:=ry.items e;split at p
  .rename_i hf;obtain⟨rfl,f2⟩:=uS rx hf.1;obtain⟨f3,f4⟩:=As v q hf.2;exact⟨a,ys,rfl,h,f2,f3,by rw[f4];exact bv p (.bl _)⟩
  .exact p.elim
 .exact p.elim
def Cz:OpD K mg (rIn K false) bIn.G:=CB
def FZ:OpD K mg (rIn K true) BE.G:=CB
def IT:bO K mg (λxs H Q=>(∃p ys,xs=[.ref p]/\(SqL K H p ys\/SqT K H p ys)/\Q (.int ys.length) H)\/(∃z,xs=[.str z]/\z.length<=sizeLine/\Q (.int z.length) H)) bK.G:=λP H xs vs Q r0 p=>by
 replace p:BvP K mg P H Q (A1 vs):=p;unfold A1 at p;split at p
 .obtain⟨d,rfl,r⟩:=cP r0;split at p
  .rename_i xs e;obtain⟨a,ys,rfl,h,q⟩:=r.items e;exact .inl ⟨_,_,rfl,h,by rw[q.len];exact bv p (.int _)⟩
  .split at p
   .obtain rfl:=r.str;split at p
    .rename_i hl;exact .inr ⟨_,rfl,hl,bv p (.int _)⟩
    .exact p.elim
   .exact p.elim
 .exact p.elim
def E6:bO K mg (λxs H Q=>∃i,xs=[.int i]/\Q (.int (if i<0 then -i else i)) H) dN.G:=λP H xs vs Q r0 p=>by
 replace p:BvP K mg P H Q (BJ vs):=p;unfold BJ at p;split at p
 .obtain⟨d,rfl,r⟩:=cP r0;obtain rfl:=r.int;exact⟨_,rfl,bv p (.int _)⟩
 .exact p.elim
def EE:bO K mg (λxs H Q=>∃i j,xs=[.int i,.int j]/\Q (.int (if j>i then j else i)) H) p8.G:=λP H xs vs Q r0 p=>by
 replace p:BvP K mg P H Q (vv vs):=p;unfold vv at p;split at p
 .obtain⟨d,d',rfl,r,r'⟩:=o3 r0;obtain rfl:=r.int;obtain rfl:=r'.int;exact⟨_,_,rfl,bv p (.int _)⟩
 .exact p.elim
def Dk:bO K mg (λxs H Q=>∃i j,xs=[.int i,.int j]/\Q (.int (if j<i then j else i)) H) rz.G:=λP H xs vs Q r0 p=>by
 replace p:BvP K mg P H Q (vo vs):=p;unfold vo at p;split at p
 .obtain⟨d,d',rfl,r,r'⟩:=o3 r0;obtain rfl:=r.int;obtain rfl:=r'.int;exact⟨_,_,rfl,bv p (.int _)⟩
 .exact p.elim
def B6{bs:List Bool}(r:Rds K mg P H ds vs):fg vs=some bs->ds=bs.map V.bl:=
 r.ind (M:=λds vs=>∀bs,fg vs=some bs->ds=bs.map V.bl) (λbs q=>by cases q;rfl) (λ{d v ds vs} r _ ih bs q=>by
  cases v with
  |bl b=>obtain rfl:=ShR.bl (.inl r);obtain⟨b',q1,rfl⟩:=LK.mp (show (fg vs).map (b :: ·)=some bs from q);rw[ih _ q1];rfl
  |_=>cases q) bs
def jJ{bs:List Int}(r:Rds K mg P H ds vs):d5 vs=some bs->ds=bs.map V.int:=
 r.ind (M:=λds vs=>∀bs,d5 vs=some bs->ds=bs.map V.int) (λbs q=>by cases q;rfl) (λ{d v ds vs} r _ ih bs q=>by
  cases v with
  |int b=>obtain rfl:=ShR.int (.inl r);obtain⟨b',q1,rfl⟩:=LK.mp (show (d5 vs).map (b :: ·)=some bs from q);rw[ih _ q1];rfl
  |_=>cases q) bs
def qE:bO K mg (λxs H Q=>∃(a:Addr) (bs:List Bool),xs=[.ref a]/\SqL K H a (bs.map V.bl)/\Q (.bl (bs.all id)) H) iS.G:=λP H xs vs Q r0 p=>by
 replace p:BvP K mg P H Q (BC vs):=p;unfold BC at p;split at p
 .obtain⟨d,rfl,r⟩:=cP r0;obtain⟨a,ys,rfl,h,q⟩:=r.lstL;split at p
  .rename_i bs e;exact⟨a,bs,rfl,B6 q e ▸ h,bv p (.bl _)⟩
  .exact p.elim
 .exact p.elim
def xh:bO K mg (λxs H Q=>∃(a:Addr) (ns:List Int),xs=[.ref a]/\SqL K H a (ns.map V.int)/\Q (.int ns.sum) H) cA.G:=λP H xs vs Q r0 p=>by
 replace p:BvP K mg P H Q (AO vs):=p;unfold AO at p;split at p
 .obtain⟨d,rfl,r⟩:=cP r0;obtain⟨a,ys,rfl,h,q⟩:=r.lstL;split at p
  .rename_i bs e;exact⟨a,bs,rfl,jJ q e ▸ h,bv p (.int _)⟩
  .exact p.elim
 .exact p.elim
def FH:bO K mg (λxs H Q=>(∃i,xs=[.int i]/\Q (.int i) H)\/∃k,xs=[.bl k]/\Q (.int (if k then 1 else 0)) H) vm.G:=λP H xs vs Q r0 p=>by
 replace p:BvP K mg P H Q (Bk vs):=p;unfold Bk at p;split at p
 .obtain⟨d,rfl,r⟩:=cP r0;obtain rfl:=r.int;exact .inl ⟨_,rfl,bv p (.int _)⟩
 .obtain⟨d,rfl,r⟩:=cP r0;obtain rfl:=r.bl;exact .inr ⟨_,rfl,bv p (.int _)⟩
 .exact p.elim
def Jf{kt:ja}{t c:Cl}{b:Bool}(ok:KitsOk K mg kt)(r:ShR K mg P H x v)(q:tyC v=some t)(k:kit kt t c=some b):∃tv,TyX K H x tv/\ClV mg t tv:=by
 cases v with
 |non=>obtain rfl:=r.non;cases q;exact⟨_,.of .non,rfl⟩
 |bl b=>obtain rfl:=r.bl;cases q;exact⟨_,.of (.bl _),rfl⟩
 |int b=>obtain rfl:=r.int;cases q;exact⟨_,.of (.int _),rfl⟩
 |str b=>obtain rfl:=r.str;cases q;exact⟨_,.of (.str _),rfl⟩
 |exc b=>obtain⟨a,C,rfl,m,e⟩:=r.exc;cases q;exact⟨_,.exc e (ok.xc _ (nO k) _ _ rfl m),_,rfl,m⟩
 |tup b=>obtain⟨a,ds,rfl,h,_⟩:=r.tup;cases q;exact⟨_,.sqT h,rfl⟩
 |lst b=>obtain⟨a,ds,rfl,e,_⟩:=r.lst;cases q;exact⟨_,.of (.lst e),rfl⟩
 |dct b=>obtain⟨a,ds,rfl,e,_⟩:=r.dct;cases q;exact⟨_,.of (.dK e),rfl⟩
 |_=>cases q
def C3{c:Cl}(r:ShR K mg P H x v)(q:clV v=some c):∃cv,eZ x=some cv/\ClV mg c cv:=by
 cases v with
 |ty b=>obtain rfl:=r.ty;cases q;exact⟨_,rfl,rfl⟩
 |glb b=>obtain⟨a,rfl,m⟩:=r.glb;cases q;exact⟨_,rfl,_,rfl,m⟩
 |_=>cases q
def Ia{cs:List Cl}(r:Rds K mg P H ds vs):pB vs=some cs->∃cvs,ds.mapM eZ=some cvs/\Paired (ClV mg) cs cvs:=
 r.ind (M:=λds vs=>∀cs,pB vs=some cs->∃cvs,ds.mapM eZ=some cvs/\Paired (ClV mg) cs cvs) (λcs q=>by cases q;exact⟨[],rfl,.nil⟩) (λr _ ih cs q=>by
  unfold pB at q;split at q
  .rename_i c cs' e1 e2;cases q;obtain⟨cv,h1,h2⟩:=C3 (.inl r) e1;obtain⟨cvs,h3,h4⟩:=ih _ e2;refine⟨cv::cvs,?_,.cons h2 h4⟩;rw[List.mapM_cons,h1,h3];rfl
  .cases q) cs
def Ic{kt:ja}(ok:KitsOk K mg kt):bO K mg (λxs H Q=>(∃x c t v b,xs=[x,c]/\TyX K H x t/\eZ c=some v/\W.kitOne K t v=some b/\Q (.bl b) H)\/
 (∃x tp cs t vs b,xs=[x,.ref tp]/\SqT K H tp cs/\TyX K H x t/\cs.mapM eZ=some vs/\W.kitAny K t vs=some b/\Q (.bl b) H)) (bp kt).G:=λP H xs vs Q r0 p=>by
 replace p:BvP K mg P H Q (zK kt vs):=p;unfold zK at p;split at p
 .rename_i v c;obtain⟨d,d',rfl,r1,r2⟩:=o3 r0;split at p
  .rename_i t c0 cr e1 e2;split at p
   .rename_i b b' e4 e5;obtain⟨tv,h1,h2⟩:=Jf ok r1 e1 e5;by_cases ht:∃cs,c=.tup cs
    .obtain⟨cs,rfl⟩:=ht;obtain⟨a,es,rfl,h,q⟩:=r2.tup;obtain⟨cvs,h3,h4⟩:=Ia q e2;exact .inr ⟨_,_,_,tv,cvs,b,rfl,h,h1,h3,wO ok h2 h4 e4,bv p (.bl _)⟩
    .have e2':(clV c).map ([·])=some (c0::cr):=by
      cases c with
      |tup cs=>exact absurd ⟨cs,rfl⟩ ht
      |_=>exact e2
     obtain⟨cl,y1,y2⟩:=LK.mp e2';cases y2;obtain⟨cv,h3,h4⟩:=C3 r2 y1;have:kit kt t c0=some b:=by
      unfold gg at e4;rw[e5] at e4 ⊢;cases b' with
      |true=>exact e4
      |false=>unfold gg at e4;exact e4
     exact .inl ⟨_,_,tv,cv,b,rfl,h1,h3,ok.one _ (nO this) _ _ h2 h4,bv p (.bl _)⟩
   .exact p.elim
  .exact p.elim
 .exact p.elim
def jz(r:Rc K mg P H o (.lst us)):∃vs,o=.lst vs/\Rds K mg P H vs us:=by cases r with |lst r=>exact⟨_,rfl,r⟩
def vD(r:Rds K mg P H ds [v]):∃d,ds=[d]/\Rd K mg P H d v:=by cases r with |cons r rr=>cases rr;exact⟨_,rfl,r⟩
def zg:MmD K mg tY er.G:=λP H n o u ds vs u' v Q np e hf r0 rs q k=>by
 replace q:nJ u vs=some (u',v):=q;unfold nJ at q;split at q
 .split at q
  .rename_i hl;cases q;obtain⟨xs,rfl,r⟩:=jz r0;obtain⟨d,rfl,rd⟩:=vD rs;exact⟨n,xs,d,rfl,rfl,e,by rw[r.len];exact hl,k _ _ trivial (.lst (r.append (.cons rd .nil))) .non⟩
  .cases q
 .cases q
def G6:MmD K mg rPop lV.G:=λP H n o u ds vs u' v Q np e hf r0 rs q k=>by
 replace q:qG u vs=some (u',v):=q;unfold qG at q;split at q
 .split at q
  .rename_i w hw;cases q;obtain⟨xs,rfl,r⟩:=jz r0;cases rs;obtain⟨d,e2,rd⟩:=r.get hw;refine⟨n,xs,d,rfl,rfl,e,by rw[r.len];exact e2,k _ _ trivial (.lst ?_) rd⟩;rw[List.dropLast_eq_take,List.dropLast_eq_take,r.len];exact r.take _
  .cases q
 .cases q
def D7:Ae K mg Cu seL.G:=λP H n o u di vi d v u' Q np e hf r0 ri rd q k=>by
 replace q:sL u vi v=some u':=q;unfold sL at q;split at q
 .split at q
  .rename_i j hj;cases q;obtain⟨xs,rfl,r⟩:=jz r0;obtain rfl:=ri.int;exact⟨n,xs,_,j,rfl,rfl,e,by rw[r.len];exact hj,k _ trivial (.lst (r.set rd j))⟩
  .cases q
 .cases q
def JI{y:V}{w:Val}{pd:PyData}(ry:Rep K H y pd)(es:cB 164 w=some pd){bs:List Bool}(r:Rds K mg P H ds vs):gp w vs=some bs->EqsR K H y pd ds bs:=
 r.ind
  (M:=λds vs=>∀bs,gp w vs=some bs->EqsR K H y pd ds bs) (λbs q=>by cases q;exact .nil) (λr _ ih bs q=>by
  unfold gp at q;split at q
  .rename_i b bs' e1 e2;cases q;unfold bo at e1;rw[es] at e1;split at e1
   .rename_i a c e3 e4;cases e4;split at e1
    .rename_i hs;cases e1;exact .cons (iq 164 _ _ _ (.inl r) e3) hs.1 (ih _ e2)
    .cases e1
   .cases e1
  .cases q) bs
theorem A5{w:Val}:∀{vs:List Val}{bs:List Bool},gp w vs=some bs->vs=[]\/∃pd,cB 164 w=some pd/\shp pd=true
 | [],_,_=>.inl rfl
 |
  x::xs,bs,e=>by
  right;unfold gp at e;split at e
  .rename_i b bs' e1 e2;unfold bo at e1;split at e1
   .rename_i a c e3 e4;split at e1
    .rename_i hs;exact⟨c,e4,hs.2⟩
    .cases e1
   .cases e1
  .cases e
def Aj:MtD K mg (ng K) eE.G:=λP H d v ds vs Q r hv rs p=>by
 replace p:BvP K mg P H Q (ft v vs):=p;unfold ft at p;split at p
 .obtain⟨a,xs,rfl,h,q⟩:=r.lstL;obtain⟨y,rfl,ry⟩:=cP rs;split at p
  .rename_i bs eb;split at p
   .rename_i hl;rcases A5 eb with rfl |⟨pd,h3,h4⟩
    .cases eb;exact absurd hl (by simp)
    .have r3:=iq 164 _ _ _ ry h3;exact⟨a,y,bs,rfl,rfl,⟨xs,pd,h,r3,h4,JI r3 h3 q eb⟩,hl,bv p (.int _)⟩
   .exact p.elim
  .exact p.elim
 .exact p.elim
end
abbrev MO3:=E3->R3 (Option Int)
noncomputable def Gm (e:E3):R3 (Option Int):=.ok none e
noncomputable def Hg (F:ME3) (e:E3):R3 (Option Int):=(F e).bind λt e1=>match rs e1 t with
 |some (.int i)=>.ok (some i) e1
 |_=>.stuck
noncomputable def vSl (F:ME3) (L U:MO3) (e:E3):R3 Tm:=(F e).bind λt e1=>(L e1).bind λlo e2=>(U e2).bind λhi e3=>match rs e3 t.drop with
 |some v=>(aSl v lo hi).at e3
 |none=>.stuck
structure POp where
 t:Nat
 G:MO3
noncomputable def oN:POp:=⟨1,Gm⟩
noncomputable def oS (a:PEx):POp:=⟨2,Hg a.G⟩
noncomputable def pSl (a:PEx) (l u:POp):PEx:=⟨23,vSl a.G l.G u.G⟩
noncomputable def vD0 (e:E3):R3 Tm:=.ok (.new (.dct [])) e
noncomputable def pD0:PEx:=⟨24,vD0⟩
def rdO(K:W.Frag)(mg:Pa)(ES:St->XK)(G:MO3):TO:=λσ H Q=>∃X N0 ns e,Sat K mg X N0 ns e σ H/\PG3 K mg X N0 ns e σ H (ES σ) (λo _ _ H'=>Q o H') (G e)
def rdO.el{K:W.Frag}{mg:Pa}{G:MO3}(h:rdO K mg ES G σ H Q){Z:Prop}(k:∀X N0 ns e,Sat K mg X N0 ns e σ H->PG3 K mg X N0 ns e σ H (ES σ) (λo _ _ H'=>Q o H') (G e)->Z):Z:=by obtain⟨X,N0,ns,e,S,p⟩:=h;exact k X N0 ns e S p
structure DO(K:W.Frag)(mg:Pa)(X:Cx)(ES:St->XK)(e:Option Expr)(F:POp):Prop where
 ok:PO X e (rdO K mg ES F.G)
section
variable{K:W.Frag}{mg:Pa}{X:Cx}{ES:St->XK}{e a:Expr}{p:PEx}{l u:POp}{lo hi:Option Expr}{pos p2:Pos}
def D8:DO K mg X ES none oN:=⟨PO.imp ER λσ H Q zz=>rdO.el zz λY N0 ns e S p=>PG3.ret p S⟩
def DM(he:DE K mg X ES e p):DO K mg X ES (some e) (oS p):=⟨PO.imp (Ec he.ok) λσ H Q zz=>rdO.el zz λY N0 ns e S p=>
 ⟨Y,
  N0,λ_=>True,ns,e,S,λ_ _=>trivial,PG3.imp p S λt e1 ns1 H1 a1 S1 p1 x r1=>by
  try dsimp only at p1
  split at p1
  .rename_i i q;obtain rfl:=(r1.sh S1 q).int;exact⟨_,rfl,p1.ret S1⟩
  .exact p1.elim⟩⟩
def Jm{P:Addr->Prop}{H:Hp}{Q:VK}{x:V}{v:Val}{lo hi:Option Int}(r:ShR K mg P H x v)(p:BvP K mg P H Q (aSl v lo hi)):(A9 K x lo hi H Q\/zD K x lo hi H Q)\/BG x lo hi H Q:=by
 have cut:∀{vs us},Rds K mg P H vs us->Rds K mg P H (jE vs lo hi) (gk us lo hi):=λr=>by unfold jE gk;rw[r.len];exact (r.drop _).take _
 unfold aSl at p;split at p
 .obtain⟨a,ds,rfl,h,q⟩:=r.tup;split at p
  .exact p.elim
  .rename_i hn;exact .inl (.inr ⟨_,_,rfl,h,by rw[q.len];exact hn,bvT p (cut q)⟩)
 .obtain⟨a,ds,rfl,h,q⟩:=r.lstL;exact .inl (.inl ⟨_,_,rfl,h,bvL p (cut q)⟩)
 .obtain⟨a,ds,rfl,h,q⟩:=r.kl;exact .inl (.inl ⟨_,_,rfl,h,bvL p (cut q)⟩)
 .obtain rfl:=r.str;split at p
  .rename_i hz;exact .inr ⟨_,rfl,hz,bv p (.str _)⟩
  .exact p.elim
 .exact p.elim
def A7(hK:X.K=K)(he:DE K mg X ES e p)(hl:DO K mg X ES lo l)(hu:DO K mg X ES hi u):DE K mg X ES (.Subscript e (.Slice lo hi none p2) pos) (pSl p l u):=
 ⟨PE.imp (BZ (slK hK) he.ok hl.ok hu.ok) λσ H Q zz=>zz.el λY N0 L ns e S hL p=>⟨Y,N0,L,ns,e,S,hL,PG3.imp p S λt e1 ns1 H1 a1 S1 p1 x rx=>⟨Y,N0,ns1,e1,S1,PG3.imp p1 S1 λlo e2 h_ H2 a2 S2 p2=>⟨Y,N0,h_,e2,S2,PG3.imp p2 S2 λhi e3 ns3 H3 a3 S3 p3=>by
  try dsimp only at p3
  split at p3
  .rename_i v q;exact Jm ((rx.drop (a2.trans S1 a3)).sh S3 q) (p3.bv S3 λa z=>hL a (a1.dom a (a2.dom a (a3.dom a z))))
  .exact p3.elim⟩⟩⟩⟩
def Jn:DE K mg X ES (.Dict [] [] pos) pD0:=⟨PE.imp AW λσ H Q ⟨Y,N0,L,ns,e,S,hl,p⟩ a ha=>PG3.bv (b:=.new (.dct [])) p S hl H a (.dK []) .refl ha trivial (.dct .nil)⟩
def Al(hK:X.K=K)(ha:DE K mg X ES a p)(he:∀e_,isTrue a X.env e_=(do let v <- e_;standAt a.pos;holding [v] (truthy v)):=by intro _;rfl):DT K mg X ES a (qTr p):=by
 subst hK;exact
  ⟨PT.imp (Bl ha.ok he) λσ H Q zz=>zz.el λY N0 ns e S p=>⟨Y,N0,λ_=>True,ns,e,S,λ_ _=>trivial,PG3.imp p S λt e1 ns1 H1 a1 S1 p1 x r1=>by
  try dsimp only at p1
  split at p1
  .rename_i b q;obtain⟨v,q1,q2⟩:=LS.mp q;have r:=r1.sh S1 q1;have k:=p1.ret S1;have items:∀{us:List Val},v.items=some us->some (!us.isEmpty)=some b->∃k,Az X.K x H1 k/\Q k H1:=λ{us} e e2=>by
    obtain⟨a,vs,rfl,hq,rr⟩:=r.items e;have ee:us.isEmpty=vs.isEmpty:=by cases rr <;> rfl
    cases e2;rw[ee] at k;rcases hq with hq |hq
    .exact⟨_,.inl ⟨vs,hq,rfl⟩,k⟩
    .exact⟨_,.inr (.inl ⟨vs,hq,rfl⟩),k⟩
   cases v with
   |non=>obtain rfl:=r.non;cases q2;exact⟨_,rfl,k⟩
   |bl b=>obtain rfl:=r.bl;cases q2;exact⟨_,rfl,k⟩
   |int b=>obtain rfl:=r.int;cases q2;exact⟨_,rfl,k⟩
   |tup us=>exact items rfl q2
   |lst us=>exact items rfl q2
   |kl us=>exact items rfl q2
   |_=>cases q2
  .exact p1.elim⟩⟩
end
theorem ir{K:W.Frag}{mg:Pa}{P:Addr->Prop}{H:Hp}:∀(ns:List Int),Rds K mg P H (ns.map V.int) (ns.map Val.int)
 | []=>.nil
 |_::r=>.cons (.int _) (ir r)
structure PFx(ms:List Bool) where
 G:Fn3
noncomputable def PFx.fn {ms:List Bool} (p:PFx ms):PFn:=⟨ms,p.G⟩
noncomputable def PFx.none (ms:List Bool) (N:Nat:=0):PFx ms:=⟨λ_=>.stuck⟩
noncomputable def PFx.of (ms:List Bool) (N:Nat) (c:PSt):PFx ms:=⟨fnV ms N c.G⟩
section
variable{K:W.Frag}{mg:Pa}{P:Program}{w:World}{base:Heap}{fx:Str}{n_:Stmt}{k m:Nat}{ps N:List Str}{ms:List Bool}{x:PSt}
def okX(D:Def K mg fx n_)(S:FnScope N ps (ao n_))
 (hb:∀(kV doc pm:Value) (an:Option Addr) (cdv ct:Value) (us:List Value),us.length=ps.length->bindArgs (W.fnOf fx fx (cS n_) (br n_) (ao n_) .none kV doc pm an cdv ct) ⟨us,[]⟩=pure (ps.zip us))
 (j_:N.Nodup->∀(f:Addr) (cdv:Value) (A:Around) (outer:List Env) (s:Shared) (H:Hp) (E:XK),Room k (A.deeper (envOfC fx (ao n_) s.heap.objs.size f cdv))->
  DSs K mg (dS (CX1 P w) P w K mg base N fx (ao n_) f cdv A outer s H E) (λ_=>E) (br n_) x) (hn:ms.length=ps.length:=by rfl) (hm:N.length=m:=by rfl):Callee P w K mg base fx (k+1) ps (sp3 K mg (PFx.of ms m x).fn):=okP D S hb j_ hn hm
def ok0(D:Def K mg fx n_)(S:FnScope N ps (ao n_))
 (hb:∀(kV doc pm:Value) (an:Option Addr) (cdv ct:Value) (us:List Value),us.length=ps.length->bindArgs (W.fnOf fx fx (cS n_) (br n_) (ao n_) .none kV doc pm an cdv ct) ⟨us,[]⟩=pure (ps.zip us)) (hn:ms.length=ps.length:=by rfl):Callee P w K mg base fx (k+1) ps (sp3 K mg (PFx.none ms).fn):=
 (okP (x:=xNo) (ms:=ms) (m:=N.length) D S hb (λ_ _ _ _ _ _ _ _ _=>⟨λ_ _ _ _ _ _ ⟨_,_,_,_,_,p⟩=>p.elim⟩) hn).imp λ_ _ _ _ ⟨_,_,_,_,_,p⟩=>p.elim
end
section
variable{K:W.Frag}{mg:Pa}{X:Cx}{ES:St->XK}{e:Expr}{p:PEx}{pos:Pos}
def zsS{ow:Bool}(i:Nat){x:Str}{l_:Pos}(hN:X.N.Nodup)(he:DE K mg X ES e p)(hi:X.N[i]?=some x:=by exact rfl)(hx:Loc X.env.scope x:=by first |exact Or.inl rfl |exact Or.inr rfl)(hs:swapsWith e (some (.Name x l_)) pos.line X.env=pure false:=by rfl)(hf:X.fn x=true\/X.env.scope.names.lookup x=some .local:=by first |exact .inl rfl |exact .inr rfl |assumption):DS K mg X ES (.Assign [.Name x l_] e pos) (ar ow i p):=Ij hN hi hx he hs hf
def zgN(i:Nat){x:Str}(hN:X.N.Nodup)(hi:X.N[i]?=some x:=by exact rfl)(hx:Loc X.env.scope x:=by first |exact Or.inl rfl |exact Or.inr rfl)(hf:X.fn x=true\/X.env.scope.names.lookup x=some .local:=by first |exact .inl rfl |exact .inr rfl |assumption):DG K mg X (.Name x pos) (gtN i):=Di hN hi hx hf
end
section
variable(e:E3)
@[simp] theorem jV(a:α)(f:α->E3->R3 β):(R3.ok a e).bind f=f a e:=rfl
@[simp] theorem K0(a:α)(f:α->E3->SR3):(R3.ok a e).toS f=f a e:=rfl
@[simp] theorem Ji(f:E3->SR3):(SR3.nx e).then f=f e:=rfl
@[simp] theorem Ls(r:Rt)(f:E3->SR3):(SR3.rt r e).then f=.rt r e:=rfl
@[simp] theorem Hr(c:Str)(f:E3->SR3):(SR3.exc c e).then f=.exc c e:=rfl
@[simp] theorem j5(f:E3->SR3):(SR3.nx e).loop f=f e:=rfl
@[simp] theorem KR(f:E3->SR3):(SR3.ct e).loop f=f e:=rfl
@[simp] theorem Lo(r:SR3):r.unl none=r:=by cases r <;> rfl
@[simp] theorem Bc:lockO e none=e:=rfl
@[simp] theorem vR:eC e none=e:=rfl
@[simp] theorem GG(v:Val):(Bv.val v).at e=.ok (.val v) e:=rfl
@[simp] theorem Il(v:Val):(Bv.new v).at e=.ok (.new v) e:=rfl
@[simp] theorem FN(v:Val):rs e (.val v)=some v:=rfl
@[simp] theorem Fn(v:Val):rs e (.new v)=some v:=rfl
@[simp] theorem IV(i:Nat):rs e (.bor i)=(e[i]?).bind Sl.val:=rfl
@[simp] theorem GL(v:Val):(Tm.val v).drop=.val v:=rfl
@[simp] theorem GA(v:Val):(Tm.new v).drop=.val v:=rfl
@[simp] theorem Hd(i:Nat):(Tm.bor i).drop=.bor i:=rfl
@[simp] theorem D5:rss e []=some []:=rfl
@[simp] theorem zQ(t:Tm)(ts:List Tm):rss e (t::ts)=match rs e t,rss e ts with
 |some v,some vs=>some (v::vs)
 |_,_=>none:=rfl
@[simp] theorem G7(v:Val):cV e (.val v)=some (e,v):=rfl
@[simp] theorem GV(v:Val):cV e (.new v)=some (e,v):=rfl
@[simp] theorem xD:dem e []=some (e,[]):=rfl
@[simp] theorem D2(t:Tm)(ts:List Tm):dem e (t::ts)=match cV e t with
 |some (e1,v)=>match dem e1 ts with
  |some (e2,vs)=>some (e2,v::vs)
  |none=>none
 |none=>none:=rfl
@[simp] theorem HY(b:Bool):bOf (some (.bl b))=some b:=rfl
@[simp] theorem K8(i:Nat):(af i).G e=match e[i]? with
 |some (.sh v)=>.ok (.val v) e
 |some .no=>.stuck
 |some _=>.ok (.bor i) e
 |none=>.stuck:=rfl
@[simp] theorem Ky(i:Int):(ah i).G e=.ok (.val (.int i)) e:=rfl
@[simp] theorem v_bl(i:Bool):(pBl i).G e=.ok (.val (.bl i)) e:=rfl
@[simp] theorem Kt(i:Str):(aZ i).G e=.ok (.val (.str i)) e:=rfl
@[simp] theorem Lg:BR.G e=.ok (.val .non) e:=rfl
@[simp] theorem v_ty(i:String):(pTy i).G e=.ok (.val (.ty i)) e:=rfl
@[simp] theorem Lw(i:Str):(vf i).G e=.ok (.val (.glb i)) e:=rfl
@[simp] theorem v_un(o:PU1)(a:PEx):(pUn o a).G e=(a.G e).bind λt e1=>match rs e1 t with
 |some v=>(o.G v).at e1
 |none=>.stuck:=rfl
@[simp] theorem v_op(o:PO2)(a b:PEx):(pOp o a b).G e=(a.G e).bind λt1 e1=>(b.G e1).bind λt2 e2=>match rs e2 t1.drop,rs e2 t2 with
 |some v1,some v2=>(o.G v1 v2).at e2
 |_,_=>.stuck:=rfl
@[simp] theorem KQ:ag.G e=.ok [] e:=rfl
@[simp] theorem IX(a:PEx)(r:PAs):(aa a r).G e=(a.G e).bind λt e1=>(r.G e1).bind λts e2=>.ok (t.drop::ts) e2:=rfl
@[simp] theorem v_fn(o:PBf)(a:PAs):(pFn o a).G e=(a.G e).bind λts e1=>match rss e1 ts with
 |some vs=>(o.G vs).at e1
 |none=>.stuck:=rfl
@[simp] theorem K2(a:PAs):(ba a).G e=(a.G e).bind λts e1=>match dem e1 ts with
 |some (e2,vs)=>if vs.length<=16777216 then .ok (.val (.tup vs)) e2 else .stuck
 |none=>.stuck:=rfl
@[simp] theorem KP(a:PAs):(cm a).G e=(a.G e).bind λts e1=>match dem e1 ts with
 |some (e2,vs)=>if vs.length<=16777216 then .ok (.new (.lst vs)) e2 else .stuck
 |none=>.stuck:=rfl
@[simp] theorem K4(a b:PEx):(i7 a b).G e=(a.G e).bind λt e1=>match bOf (rs e1 t) with
 |some true=>b.G e1
 |some false=>.ok (.val (.bl false)) e1
 |none=>.stuck:=rfl
@[simp] theorem Kf(a:PEx):(B5 a).G e=(a.G e).bind λt e1=>match bOf (rs e1 t) with
 |some b=>.ok (.val (.bl (!b))) e1
 |none=>.stuck:=rfl
@[simp] theorem c_of(a:PEx):(qOf a).G e=(a.G e).bind λt e1=>match bOf (rs e1 t) with
 |some b=>.ok b e1
 |none=>.stuck:=rfl
@[simp] theorem c_tr(a:PEx):(qTr a).G e=(a.G e).bind λt e1=>match (rs e1 t).bind mS with
 |some b=>.ok b e1
 |none=>.stuck:=rfl
@[simp] theorem c_an(a b:PTs):(qAn a b).G e=(a.G e).bind λk e1=>if k=true then b.G e1 else .ok false e1:=rfl
@[simp] theorem c_o(a b:PTs):(qO a b).G e=(a.G e).bind λk e1=>if k=true then .ok true e1 else b.G e1:=rfl
@[simp] theorem c_no(a:PTs):(qNo a).G e=(a.G e).bind λk e1=>.ok (!k) e1:=rfl
@[simp] theorem x_nx:xNx.G e=.nx e:=rfl
@[simp] theorem FU:vj.G e=.rt (.val .non) e:=rfl
@[simp] theorem Ld(a:PEx):(aw a).G e=(a.G e).toS mY:=rfl
@[simp] theorem Ew(v:Val):mY (.val v) e=.rt (.val v) e:=rfl
@[simp] theorem C9(v:Val):mY (.new v) e=.rt (.new v) e:=rfl
@[simp] theorem Ee(i:Nat):mY (.bor i) e=match e[i]? with
 |some (.sh v)=>.rt (.val v) e
 |some (.ow v)=>.rt (.new v) (e.set i .no)
 |some (.mu _)=>.rt (.par i) e
 |_=>.stuck:=rfl
@[simp] theorem GH(a:PEx):(aO a).G e=(a.G e).toS λ_ e1=>.nx e1:=rfl
@[simp] theorem CF(a b:PSt):(aj a b).G e=(a.G e).then b.G:=rfl
@[simp] theorem x_if(c:PTs)(a b:PSt):(xIf c a b).G e=(c.G e).toS λk e1=>if k=true then a.G e1 else b.G e1:=rfl
@[simp] theorem KG(o:Bool)(i:Nat)(a:PEx):(ar o i a).G e=(a.G e).toS (jf o i):=rfl
@[simp] theorem K1:Sl.no.pl=true:=rfl
@[simp] theorem Jl(v:Val):(Sl.sh v).pl=true:=rfl
@[simp] theorem En(o:Bool)(i:Nat)(v:Val):jf o i (.val v) e=match e[i]? with
 |some s0=>if s0.pl=true then .nx (e.set i (.sh v)) else .stuck
 |none=>.stuck:=by unfold jf;rfl
@[simp] theorem Bg(i:Nat)(v:Val):jf true i (.new v) e=match e[i]? with
 |some s0=>if s0.pl=true then .nx (e.set i (.ow v)) else .stuck
 |none=>.stuck:=by unfold jf;rfl
@[simp] theorem BN(i:Nat)(v:Val):jf false i (.new v) e=match e[i]? with
 |some s0=>if s0.pl=true then .nx (e.set i (.sh v)) else .stuck
 |none=>.stuck:=by unfold jf;rfl
@[simp] theorem g_n(i:Nat)(v:Val):(gtN i).G v e=match e[i]? with
 |some s=>if s.pl=true then some (e.set i (.sh v)) else none
 |none=>none:=rfl
@[simp] theorem g_sn:dP.G [] e=some e:=rfl
@[simp] theorem g_sc(a:PGt)(b:PGs)(v:Val)(vs:List Val):(aT a b).G (v::vs) e=(a.G v e).bind λe1=>b.G vs e1:=rfl
@[simp] theorem g_t(n:Nat)(a:PGs)(vs:List Val):(gtT n a).G (.tup vs) e=if vs.length=n then a.G vs e else none:=rfl
@[simp] theorem FT(a:PEx)(g:PGt):(jW a g).G e=(a.G e).toS λt e1=>match cV e1 t with
 |some (e2,v)=>match g.G v e2 with
  |some e3=>.nx e3
  |none=>.stuck
 |none=>.stuck:=rfl
@[simp] theorem JD(i j:Nat)(a:PAs):(fM i j a).G e=(a.G e).toS λts e1=>match dem e1 ts with
 |some (e2,[v,u])=>match (pN i v e2).bind (pN j u) with
  |some e3=>.nx e3
  |none=>.stuck
 |_=>.stuck:=rfl
@[simp] theorem JV(i:Nat)(v:Val):pN i v e=match e[i]? with
 |some s=>if s.pl=true then some (e.set i (.sh v)) else none
 |none=>none:=rfl
@[simp] theorem Kq(i:Nat)(o:PO2)(a:PEx):(vQ i o a).G e=match e[i]? with
 |some (.sh x)=>(a.G e).toS λt e1=>match rs e1 t with
  |some y=>match o.G x y with
   |.val z=>match pN i z e1 with
    |some e2=>.nx e2
    |none=>.stuck
   |_=>.stuck
  |none=>.stuck
 |_=>.stuck:=rfl
@[simp] theorem D6(c:Str)(a:PAs):(dY c a).G e=(a.G e).toS λts e1=>if ts.length<=16777216 then .exc c e1 else .stuck:=rfl
@[simp] theorem Kx(i:Nat)(w:PSe)(k a:PEx):(sr i w k a).G e=(a.G e).toS λt e1=>match (e1[i]?).bind Sl.mv with
 |none=>.stuck
 |some _=>(k.G e1).toS λt2 e2=>match rs e2 t2 with
  |none=>.stuck
  |some vi=>match cV e2 t.drop with
   |none=>.stuck
   |some (e3,v)=>match e3[i]? with
    |none=>.stuck
    |some s=>match s.mv with
     |none=>.stuck
     |some u=>match w.G u vi v with
      |some u'=>.nx (e3.set i (s.re u'))
      |none=>.stuck:=rfl
@[simp] theorem J2(v:Val):(Sl.ow v).mv=some v:=rfl
@[simp] theorem Jc(v:Val):(Sl.mu v).mv=some v:=rfl
@[simp] theorem Kc(v u:Val):(Sl.ow v).re u=.ow u:=rfl
@[simp] theorem KL(v u:Val):(Sl.mu v).re u=.mu u:=rfl
@[simp] theorem Fl(v:Val):(Sl.ow v).val=some v:=rfl
@[simp] theorem Fv(v:Val):(Sl.mu v).val=some v:=rfl
@[simp] theorem JP(i:Nat)(m:PMm)(a:PAs):(g0 i m a).G e=match e[i]? with
 |some s=>if (s.mv.map eQ)=some true then (a.G e).bind λts e1=>match dem e1 ts with
  |some (e2,vs)=>match e2[i]? with
   |some s2=>match s2.mv with
    |some u=>match m.G u vs with
     |some (u',v)=>.ok (.val v) (e2.set i (s2.re u'))
     |none=>.stuck
    |none=>.stuck
   |none=>.stuck
  |none=>.stuck else .stuck
 |none=>.stuck:=rfl
@[simp] theorem GB(i:Nat)(m:PMm):(lu i m).G e=match e[i]? with
 |some s=>if (s.mv.map eQ)=some true then (match s.mv with
  |some u=>match m.G u [] with
   |some (u',v)=>.ok (.val v) (e.set i (s.re u'))
   |none=>.stuck
  |none=>.stuck) else .stuck
 |none=>.stuck:=by
 show nI i m.G m5 e=_;unfold nI;cases q:e[i]? with
 |none=>rfl
 |
  some s=>
  dsimp only;split
  .simp only[m5,jV,xD,qJ,q];try rfl
  .rfl
@[simp] theorem AS(xs:List Val):eQ (.lst xs)=true:=rfl
@[simp] theorem Fj(m:PMv)(a:PEx)(b:PAs):(mj m a b).G e=(a.G e).bind λt e1=>if (rs e1 t).map eQ=some true then (b.G e1).bind λts e2=>(match rs e2 t.drop,rss e2 ts with
 |some v,some vs=>if eQ v=true then (m.G v vs).at e2 else .stuck
 |_,_=>.stuck) else .stuck:=rfl
@[simp] theorem Lp(a:PEx):(bB a).G e=(a.G e).bind λt e1=>match ia t e1 with
 |some p=>.ok p e1
 |none=>.stuck:=rfl
@[simp] theorem JB(a:PAs):(oZ a).G e=(a.G e).bind λts e1=>match ts with
 | [t,u]=>(match ia t e1,ia u e1 with
  |some (xs,k),some (ys,none)=>.ok (List.zipWith (λx y=>.tup [x,y]) xs ys,k) e1
  |_,_=>.stuck)
 |_=>.stuck:=rfl
@[simp] theorem F7(v:Val):ia (.val v) e=(fY v).map λxs=>(xs,none):=rfl
@[simp] theorem Fq(v:Val):ia (.new v) e=(fY v).map λxs=>(xs,none):=rfl
@[simp] theorem IC(xs:List Val):fY (.tup xs)=some xs:=rfl
@[simp] theorem Gb(xs:List Val):fY (.lst xs)=some xs:=rfl
@[simp] theorem KY(a:PAs):(j6 a).G e=(a.G e).bind λts e1=>match (rss e1 ts).bind iZ with
 |some xs=>.ok (xs,none) e1
 |none=>.stuck:=rfl
@[simp] theorem KW(a:PAs):(j8 a).G e=(a.G e).bind λts e1=>match (rss e1 ts).bind kT with
 |some xs=>.ok (xs,none) e1
 |none=>.stuck:=rfl
@[simp] theorem JT(i:PIt)(g:PGt)(b:PSt):(fB i g b).G e=(i.G e).toS λp e1=>(dk g.G b.G p.1 (lockO e1 p.2)).unl p.2:=rfl
@[simp] theorem fh(g:MG3)(B:MS3):dk g B [] e=.nx e:=rfl
theorem c8(g:MG3)(B:MS3)(v:Val)(vs:List Val):dk g B (v::vs) e=match g v e with
 |some e1=>(B e1).loop (dk g B vs)
 |none=>.stuck:=rfl
def iR(c:PTs)(b:PSt):(xWh c b).G e=(c.G e).toS λk e1=>if k=true then (b.G e1).loop (xWh c b).G else .nx e1:=zA c.G b.G e
@[simp] theorem v_lc(i:PIt)(sub:Pd)(hs:(sub.filterMap id).Nodup)(g:PGt)(c:PTs)(a:PEx):(pLC i sub hs g c a).G e=(i.G e).bind λp e1=>match lcV g.G c.G a.G p.1 [] (bY sub (lockO e1 p.2)) with
 |.ok ys e2=>if ys.length<=16777216 then .ok (.new (.lst ys)) (eC (aL sub e2 (lockO e1 p.2)) p.2) else .stuck
 |_=>.stuck:=rfl
@[simp] theorem FE(f:PFn)(a:PAs):(ai f a).G e=(a.G e).bind λts e1=>match rss e1 ts with
 |none=>.stuck
 |some vs=>if okA e1 f.ms ts=true then (match f.G vs with
  |.stuck=>.stuck
  |.ok r mv=>if (aH e1 f.ms ts).isEmpty || (jO r&&mv.all cx) then .ok (r.tm ts) (aL (aJ f.ms ts) (az f.ms mv) e1) else (match mV e1 (aH e1 f.ms ts) with
   |some e2=>.ok (r.tm ts) (aL (aJ f.ms ts) (az f.ms mv) e2)
   |none=>.stuck)
  |.exc c mv=>if (aH e1 f.ms ts).isEmpty || mv.all cx then .exc c (aL (aJ f.ms ts) (az f.ms mv) e1) else .stuck) else .stuck:=rfl
@[simp] theorem Fe(ts:List Tm)(v:Val):(Rt.val v).tm ts=.val v:=rfl
@[simp] theorem F1(ts:List Tm)(v:Val):(Rt.new v).tm ts=.new v:=rfl
@[simp] theorem o_n:oN.G e=.ok none e:=rfl
@[simp] theorem o_s(a:PEx):(oS a).G e=(a.G e).bind λt e1=>match rs e1 t with
 |some (.int i)=>.ok (some i) e1
 |_=>.stuck:=rfl
@[simp] theorem v_sl(a:PEx)(l u:POp):(pSl a l u).G e=(a.G e).bind λt e1=>(l.G e1).bind λlo e2=>(u.G e2).bind λhi e3=>match rs e3 t.drop with
 |some v=>(aSl v lo hi).at e3
 |none=>.stuck:=rfl
@[simp] theorem v_d0:pD0.G e=.ok (.new (.dct [])) e:=rfl
theorem aD(ms:List Bool)(N:Nat)(c:PSt)(vs:List Val):(fnP ms N c).G vs=if vs.length=ms.length then (match c.G (sls ms vs++List.replicate (N-vs.length) .no) with
 |.nx e=>(match muV ms e with |some mv=>.ok (.val .non) mv |none=>.stuck)
 |.rt r e=>(match muV ms e with |some mv=>.ok r mv |none=>.stuck)
 |.exc c e=>(match muV ms e with |some mv=>.exc c mv |none=>.stuck)
 |_=>.stuck) else .stuck:=rfl
theorem o6(ms:List Bool)(N:Nat)(c:PSt)(vs:List Val):(PFx.of ms N c).G vs=if vs.length=ms.length then (match c.G (sls ms vs++List.replicate (N-vs.length) .no) with
 |.nx e=>(match muV ms e with |some mv=>.ok (.val .non) mv |none=>.stuck)
 |.rt r e=>(match muV ms e with |some mv=>.ok r mv |none=>.stuck)
 |.exc c e=>(match muV ms e with |some mv=>.exc c mv |none=>.stuck)
 |_=>.stuck) else .stuck:=rfl
@[simp] theorem JY(p:PFx ms):p.fn.ms=ms:=rfl
@[simp] theorem fx_G(p:PFx ms)(vs:List Val):p.fn.G vs=p.G vs:=rfl
end
@[simp] theorem JE(i j:Int):aF.G (.int i) (.int j)=.val (.int (i+j)):=rfl
@[simp] theorem K6(i j:Int):c7.G (.int i) (.int j)=.val (.int (i-j)):=rfl
@[simp] theorem k_lt(i j:Int):bLt.G (.int i) (.int j)=.val (.bl (decide (i<j))):=rfl
@[simp] theorem k_le(i j:Int):bLe.G (.int i) (.int j)=.val (.bl (decide (i<=j))):=rfl
@[simp] theorem k_gt(i j:Int):bGt.G (.int i) (.int j)=.val (.bl (decide (j<i))):=rfl
@[simp] theorem k_ge(i j:Int):bGe.G (.int i) (.int j)=.val (.bl (decide (j<=i))):=rfl
@[simp] theorem KU(i j:Int):vA.G (.int i) (.int j)=.val (.int (i+j)):=rfl
@[simp] theorem Lh(i:Int):wj.G (.int i)=.val (.int (-i)):=rfl
def aX(c:CMulA i j):aC.G (.int i) (.int j)=.val (.int (i*j)):=by show BO (.int i) (.int j)=_;unfold BO aIc;dsimp only;rw[if_pos c]
def iP(c:CDivB i j):eN.G (.int i) (.int j)=.val (.int (i.fdiv j)):=by show BV (.int i) (.int j)=_;unfold BV aIc;dsimp only;rw[if_pos c]
def eO(c:j≠0):bZ.G (.int i) (.int j)=.val (.int (i.fmod j)):=by show Ba (.int i) (.int j)=_;unfold Ba aIc;dsimp only;rw[if_pos c]
def oR(c:jn i j):fN.G (.int i) (.int j)=.val (.int (i^j.toNat)):=by show Be (.int i) (.int j)=_;unfold Be aIc;dsimp only;rw[if_pos c]
def Km(c:jn i j):sk.G (.int i) (.int j)=.val (.int (i*2^j.toNat)):=by show B3 (.int i) (.int j)=_;unfold B3 aIc;dsimp only;rw[if_pos c]
@[simp] theorem k_ix(x:Val)(i:Int):bIx.G x (.int i)=match x.items with
 |some xs=>(match atI xs i with
  |some v=>.val v
  |none=>.stuck)
 |none=>.stuck:=by show aIx x (.int i)=_;unfold aIx;cases x.items <;> rfl
@[simp] theorem IG(xs:List Val):(Val.tup xs).items=some xs:=rfl
@[simp] theorem GO(xs:List Val):(Val.lst xs).items=some xs:=rfl
@[simp] theorem Jg(xs:List Val):(Val.kl xs).items=some xs:=rfl
@[simp] theorem k_eq(x y:Val):bEq.G x y=match bo x y with
 |some b=>.val (.bl b)
 |none=>.stuck:=by show aEq false x y=_;unfold aEq;cases bo x y <;> rfl
@[simp] theorem k_ne(x y:Val):bNe.G x y=match bo x y with
 |some b=>.val (.bl (!b))
 |none=>.stuck:=by show aEq true x y=_;unfold aEq;cases bo x y <;> rfl
@[simp] theorem Cp(x y:Int):bo (.int x) (.int y)=some (x==y):=rfl
def eq_str(hx:PyData.strOk x=true)(hy:PyData.strOk y=true):bo (.str x) (.str y)=some (x==y):=by unfold bo;show (if shp (.str x)=true/\shp (.str y)=true then _ else _)=_;rw[if_pos ⟨gX hx (Mi _),gX hy (Mi _)⟩];rfl
@[simp] theorem k_is(x:Val):bIs.G x .non=match x with
 |.non=>.val (.bl true)
 |_=>.val (.bl false):=by cases x <;> rfl
@[simp] theorem Ko(v:Val):bK.G [v]=match v.items with
 |some xs=>.val (.int xs.length)
 |none=>(match v with
  |.str z=>if z.length<=16777216 then .val (.int z.length) else .stuck
  |_=>.stuck):=rfl
@[simp] theorem Lv(i:Int):dN.G [.int i]=.val (.int (if i<0 then -i else i)):=rfl
@[simp] theorem Kd(i j:Int):p8.G [.int i,.int j]=.val (.int (if j>i then j else i)):=rfl
@[simp] theorem Jv(i j:Int):rz.G [.int i,.int j]=.val (.int (if j<i then j else i)):=rfl
@[simp] theorem CM(xs:List Val):iS.G [.lst xs]=match fg xs with
 |some bs=>.val (.bl (bs.all id))
 |none=>.stuck:=rfl
@[simp] theorem Kg(xs:List Val):cA.G [.lst xs]=match d5 xs with
 |some bs=>.val (.int bs.sum)
 |none=>.stuck:=rfl
@[simp] theorem Gs(b:Bool):vm.G [.bl b]=.val (.int (if b then 1 else 0)):=rfl
@[simp] theorem zV(xs:List Val)(v:Val):er.G (.lst xs) [v]=if xs.length<16777216 then some (.lst (xs++[v]),.non) else none:=rfl
@[simp] theorem aW:∀(bs:List Int),d5 (bs.map Val.int)=some bs
 | []=>rfl
 |b::r=>by show (d5 (r.map Val.int)).map (b :: ·)=_;rw[aW r];rfl
def HS(b:Bool)(ms:List Bool)(v:Val)(vs:List Val):sls (b::ms) (v::vs)=sl1 b v::sls ms vs:=rfl
def EO:sls [] []=[]:=rfl
def Kj(v:Val):sl1 true v=.mu v:=rfl
def JL(v:Val):sl1 false v=.sh v:=rfl
section
variable(e:E3)
def Ed:okA e [] []=true:=rfl
def Ie(i:Nat)(ms:List Bool)(ts:List Tm):okA e (true::ms) (.bor i::ts)=(((e[i]?).bind Sl.mv).isSome && !(ie i ts)&&okA e ms ts):=rfl
def HN(i:Nat)(ms:List Bool)(ts:List Tm):okA e (false::ms) (.bor i::ts)=(!(jB i ms ts)&&okA e ms ts):=rfl
def Hl(v:Val)(ms:List Bool)(ts:List Tm):okA e (false::ms) (.val v::ts)=okA e ms ts:=rfl
def zB(i:Nat):ie i []=false:=rfl
def Ip(i:Nat)(v:Val)(ts:List Tm):ie i (.val v::ts)=ie i ts:=rfl
def BB(i:Nat):jB i [] []=false:=rfl
def yM:aH e [] []=[]:=rfl
theorem Ds(i:Nat)(ms:List Bool)(ts:List Tm):aH e (false::ms) (.bor i::ts)=match e[i]? with
 |some (.sh _)=>aH e ms ts
 |_=>i::aH e ms ts:=rfl
def E4(v:Val)(ms:List Bool)(ts:List Tm):aH e (false::ms) (.val v::ts)=aH e ms ts:=rfl
def Fg(t:Tm)(ms:List Bool)(ts:List Tm):aH e (true::ms) (t::ts)=aH e ms ts:=by cases t <;> rfl
end
def xB:aJ [] []=[]:=rfl
def Ey(b:Bool)(t:Tm)(ms:List Bool)(ts:List Tm):aJ (b::ms) (t::ts)=mM b t::aJ ms ts:=rfl
def EW(i:Nat):mM true (.bor i)=some i:=rfl
def FO(t:Tm):mM false t=none:=by cases t <;> rfl
def AJ(e:E3):aL [] [] e=e:=rfl
def IP(o:Option Nat)(sub:Pd)(s:Sl)(i e:E3):aL (o::sub) (s::i) e=aL sub i (fi o s e):=rfl
theorem C7(i:Nat)(v:Val)(e:E3):fi (some i) (.mu v) e=match e[i]? with
 |some t=>e.set i (t.re v)
 |none=>e:=rfl
def HJ(s:Sl)(e:E3):fi none s e=e:=rfl
def AL(vs:List Val):az [] vs=[]:=rfl
def F6(ms:List Bool)(v:Val)(vs:List Val):az (true::ms) (v::vs)=.mu v::az ms vs:=rfl
def FP(ms:List Bool)(vs:List Val):az (false::ms) vs=.no::az ms vs:=by cases vs <;> rfl
def DV(e:E3):muV [] e=some []:=by cases e <;> rfl
def JN(ms:List Bool)(v:Val)(e:E3):muV (true::ms) (.mu v::e)=(muV ms e).map (v :: ·):=rfl
def Jq(ms:List Bool)(s:Sl)(e:E3):muV (false::ms) (s::e)=muV ms e:=by cases s <;> rfl
def yh(v:Val):jO (.val v)=flatV v:=rfl
def xr(v:Val):jO (.new v)=cx v:=rfl
def ye(xs:List Val):cx (.lst xs)=cJ xs:=rfl
def wz:cJ []=true:=by simp [cJ]
def sY(v:Val)(vs:List Val):cJ (v::vs)=(flatV v&&cJ vs):=by simp [cJ]
def xY(i:Int):flatV (.int i)=true:=by simp [flatV]
def A3(i:Bool):flatV (.bl i)=true:=by simp [flatV]
def zm(i:Str):flatV (.str i)=true:=by simp [flatV]
def zx:flatV .non=true:=by simp [flatV]
def xH(xs:List Val):flatV (.tup xs)=cJ xs:=by simp [flatV]
def dm(h0:0<=i)(h:l[i.toNat]?=some x):atI l i=some x:=by have hl:=(D_.mp h).1;unfold atI ixN;rw[if_pos h0,if_pos (by omega)];exact h
def xw(h0:0<=i)(h:i.toNat<n):ixN n i=some i.toNat:=by unfold ixN;rw[if_pos h0,if_pos (by omega)]
section
variable(a b c d:α)(l:List α)
def ati0:atI (a::l) 0=some a:=dm (by decide) rfl
def ati1:atI (a::b::l) 1=some b:=dm (by decide) rfl
def ati2:atI (a::b::c::l) 2=some c:=dm (by decide) rfl
def ati3:atI (a::b::c::d::l) 3=some d:=dm (by decide) rfl
end
def ixn0(n:Nat):ixN (n+1) 0=some 0:=xw (i:=0) (by decide) (by show 0<n+_;omega)
def ixn1(n:Nat):ixN (n+2) 1=some 1:=xw (i:=1) (by decide) (by show 1<n+_;omega)
theorem Jz(xs:List Val)(k:Int)(v:Val):seL.G (.lst xs) (.int k) v=match ixN xs.length k with
 |some j=>some (.lst (xs.set j v))
 |none=>none:=rfl
mutual
def vq:Val->Val->Bool
 |.non,.non=>true
 |.bl a,.bl b=>a==b
 |.bl a,.int j=>(if a then 1 else 0)==j
 |.int i,.bl b=>i==(if b then 1 else 0)
 |.int i,.int j=>i==j
 |.str x,.str y=>x==y
 |.tup xs,.tup ys=>vqs xs ys
 |.lst xs,.lst ys=>vqs xs ys
 |_,_=>false
def vqs:List Val->List Val->Bool
 | [],[]=>true
 |x::xs,y::ys=>vq x y&&vqs xs ys
 |_,_=>false
end
mutual
def wfV:Nat->Val->Bool
 |_,.non=>true
 |_,.bl _=>true
 |_,.int _=>true
 |_,.str x=>PyData.strOk x
 |k+1,.tup xs=>fO k xs
 |k+1,.lst xs=>fO k xs
 |_,_=>false
def fO:Nat->List Val->Bool
 |_,[]=>true
 |k,x::xs=>wfV k x&&fO k xs
end
mutual
def fQ:Val->PyData
 |.bl b=>.bool b
 |.int i=>.int i
 |.str x=>.str x
 |.tup xs=>.tuple (dM xs)
 |.lst xs=>.list (dM xs)
 |_=>.none
def dM:List Val->List PyData
 | []=>[]
 |x::xs=>fQ x::dM xs
end
mutual
theorem mZ:∀(k:Nat) (v:Val),wfV k v=true->(∀j,k<j->cB j v=some (fQ v))/\(fQ v).canLay0=true/\(fQ v).depth<=k
 |k,.non,_=>⟨λj hj=>by cases j with |zero=>exact absurd hj (Na _) |succ j=>rfl,rfl,Mi _⟩
 |k,.bl b,_=>⟨λj hj=>by cases j with |zero=>exact absurd hj (Na _) |succ j=>rfl,rfl,Mi _⟩
 |k,.int b,_=>⟨λj hj=>by cases j with |zero=>exact absurd hj (Na _) |succ j=>rfl,rfl,Mi _⟩
 |k,.str b,w=>⟨λj hj=>by cases j with |zero=>exact absurd hj (Na _) |succ j=>rfl,by cases k <;> exact w,Mi _⟩
 |0,.tup xs,w=>absurd w y_
 |0,.lst xs,w=>absurd w y_
 |
  k+1,.tup xs,w=>by
  obtain⟨h1,h2,h3⟩:=kO k xs w;exact⟨λj hj=>by cases j with |zero=>exact absurd hj (Na _) |succ j=>simp only[cB,fQ,h1 j (Nat.lt_of_succ_lt_succ hj),Option.map_some],h2,by simpa [fQ,PyData.depth] using h3⟩
 |
  k+1,.lst xs,w=>by
  obtain⟨h1,h2,h3⟩:=kO k xs w;exact⟨λj hj=>by cases j with |zero=>exact absurd hj (Na _) |succ j=>simp only[cB,fQ,h1 j (Nat.lt_of_succ_lt_succ hj),Option.map_some],h2,by simpa [fQ,PyData.depth] using h3⟩
 |k,.ty _,w=>by cases k <;> exact absurd w y_
 |k,.glb _,w=>by cases k <;> exact absurd w y_
 |k,.exc _,w=>by cases k <;> exact absurd w y_
 |k,.kl _,w=>by cases k <;> exact absurd w y_
 |k,.dct _,w=>by cases k <;> exact absurd w y_
 |k,.set _,w=>by cases k <;> exact absurd w y_
theorem kO:∀(k:Nat) (vs:List Val),fO k vs=true->(∀j,k<j->dn j vs=some (dM vs))/\PyData.canLayAll0 (dM vs)=true/\PyData.depthAll (dM vs)<=k
 |k,[],_=>⟨λj hj=>by simp [dn,dM],rfl,Mi _⟩
 |
  k,v::vs,w=>by
  have w':(wfV k v&&fO k vs)=true:=w;rw[w_] at w';obtain⟨h1,h2,h3⟩:=mZ k v w'.1;obtain⟨i1,i2,i3⟩:=kO k vs w'.2;exact⟨λj hj=>by simp [dn,dM,h1 j hj,i1 j hj],by simp [dM,PyData.canLayAll0,h2,i2],Nat.max_le.mpr ⟨h3,i3⟩⟩
end
mutual
theorem xi:∀(k:Nat) (v u:Val),wfV k v=true->wfV k u=true->PyData.eqv (fQ v) (fQ u)=vq v u
 |
  k,v,u,hv,hu=>by
  cases v <;> first |(cases k <;> exact absurd hv y_) |skip
  all_goals (cases u <;> first |(cases k <;> exact absurd hu y_) |rfl |(cases k with |zero=>exact absurd hv y_ |succ k=>exact tL k _ _ hv hu))
theorem tL:∀(k:Nat) (v u:List Val),fO k v=true->fO k u=true->PyData.eqvAll (dM v) (dM u)=vqs v u
 |_,[],[],_,_=>rfl
 |_,[],_::_,_,_=>rfl
 |_,_::_,[],_,_=>rfl
 |
  k,x::xs,y::ys,hv,hu=>by
  have h1:(wfV k x&&fO k xs)=true:=hv;have h2:(wfV k y&&fO k ys)=true:=hu;rw[w_] at h1 h2;show (PyData.eqv (fQ x) (fQ y)&&PyData.eqvAll (dM xs) (dM ys))=(vq x y&&vqs xs ys);rw[xi k x y h1.1 h2.1,tL k xs ys h1.2 h2.2]
end
def HK(hk:k<=160)(hx:wfV k x=true)(hy:wfV k y=true):bo x y=some (vq x y):=by obtain⟨h1,h2,h3⟩:=mZ k x hx;obtain⟨i1,i2,i3⟩:=mZ k y hy;unfold bo;rw[h1 164 (by omega),i1 164 (by omega)];dsimp only;rw[if_pos ⟨gX h2 (by omega),gX i2 (by omega)⟩,xi k x y hx hy]
def CG(hx:wfV 60 x=true)(hy:wfV 60 y=true):bo x y=some (vq x y):=HK (by decide) hx hy
mutual
def kX:Val->Bool
 |.bl _=>false
 |.tup xs=>gQ xs
 |.lst xs=>gQ xs
 |.non=>true
 |.int _=>true
 |.str _=>true
 |_=>false
def gQ:List Val->Bool
 | []=>true
 |x::xs=>kX x&&gQ xs
end
mutual
theorem xO:∀(v u:Val),kX v=true->kX u=true->(vq v u=true ↔ v=u)
 |
  v,u,hv,hu=>by
  cases v <;> first |exact absurd hv y_ |skip
  all_goals (cases u <;> first |exact absurd hu y_ |exact⟨λz=>absurd z y_,λz=>nomatch z⟩ |(simp [vq];done) |skip)
  all_goals
   refine Iff.trans (uD _ _ hv hu) ?_;constructor
   .rintro rfl;rfl
   .intro z;cases z;rfl
theorem uD:∀(v u:List Val),gQ v=true->gQ u=true->(vqs v u=true ↔ v=u)
 | [],[],_,_=>⟨λ_=>rfl,λ_=>rfl⟩
 | [],_::_,_,_=>⟨λz=>absurd z y_,λz=>nomatch z⟩
 |_::_,[],_,_=>⟨λz=>absurd z y_,λz=>nomatch z⟩
 |
  x::xs,y::ys,hv,hu=>by
  have h1:(kX x&&gQ xs)=true:=hv;have h2:(kX y&&gQ ys)=true:=hu;rw[w_] at h1 h2;show (vq x y&&vqs xs ys)=true ↔ _;rw[w_,xO x y h1.1 h2.1,uD xs ys h1.2 h2.2,List.cons.injEq]
end
mutual
theorem tW:∀(k:Nat) (v:Val),wfV k v=true->vq v v=true
 |
  k,v,hv=>by
  cases v <;> first |(cases k <;> exact absurd hv y_) |rfl |exact Oa _ |(cases k with |zero=>exact absurd hv y_ |succ k=>exact pY k _ hv)
theorem pY:∀(k:Nat) (v:List Val),fO k v=true->vqs v v=true
 |_,[],_=>rfl
 |
  k,x::xs,hv=>by
  have h1:(wfV k x&&fO k xs)=true:=hv;rw[w_] at h1;show (vq x x&&vqs xs xs)=true;rw[tW k x h1.1,pY k xs h1.2];rfl
end
noncomputable def fV (q:Rat):Val:=.tup [.int q.num,.int q.den]
structure Bx where
 l:Rat
 t:Rat
 w:Rat
 h:Rat
structure Bx.Ok(b:Bx):Prop where
 w:0<b.w
 h:0<b.h
structure Bx.Sz(n:Nat)(b:Bx):Prop where
 l:L2.Sz n b.l
 t:L2.Sz n b.t
 w:L2.Sz n b.w
 h:L2.Sz n b.h
noncomputable def bV (b:Bx):Val:=.tup [fV b.l,fV b.t,fV b.w,fV b.h]
def Gq(e:fV p=fV q):p=q:=by unfold fV at e;simp only[Val.tup.injEq,List.cons.injEq,Val.int.injEq,and_true] at e;rw[dE p,dE q,e.1,e.2]
def CU(q:Rat)(k:Nat):wfV (k+1) (fV q)=true:=by simp [fV,wfV,fO]
def Cn(q:Rat):kX (fV q)=true:=by simp [fV,kX,gQ]
def JM(p q:Rat):bo (fV p) (fV q)=some (decide (p=q)):=by rw[CG (CU p 59) (CU q 59)];congr 1;rw[NM,xO _ _ (Cn p) (Cn q),Nf];exact⟨Gq,λz=>by rw[z]⟩
noncomputable def knV:Val->Bool
 |.exc _=>false
 |v=>(tyC v).isSome
noncomputable def hU:Nat->Val->Bool
 |k+1,.tup xs=>xs.all (hU k)
 |_,v=>knV v
noncomputable def jc:Val->Bool
 |.int _=>true
 |_=>false
noncomputable def aK:Val->Bool
 |.tup [.int a,.int b]=>decide (1<=b)&&decide (Int.gcd a b=1)
 |_=>false
noncomputable def i6:Val->Bool
 |.tup (.int a::_)=>decide (0<a)
 |_=>false
noncomputable def fC:Val->Bool
 |.tup [a,b,c,d]=>aK a&&(aK b&&(aK c&&(aK d&&(i6 c&&i6 d))))
 |_=>false
noncomputable def gM:Val->Bool
 |.int i=>decide (1<=i)
 |_=>false
noncomputable def eJ:Val->Bool
 |.tup _=>true
 |_=>false
def J5(h1:1<=b)(h2:Int.gcd a b=1):Val.tup [.int a,.int b]=fV ((a:Rat)/(b:Rat)):=by
 have hb:b≠0:=by omega
 have h:=l9 (a:=a) hb;have s:=Fr.self (by omega) h2;unfold fV;rw[<- h.1,<- h.2,s.1,s.2]
def i5(q:Rat):aK (fV q)=true:=by
 show (decide (1<=(q.den:Int))&&decide (Int.gcd q.num q.den=1))=true
 have:=q.den_pos
 rw[K_ (by omega),K_ (uL q)];rfl
def yd(h:aK d=true):∃q,d=fV q:=by
 unfold aK at h;split at h
 .simp only[w_,Nf] at h;exact⟨_,J5 h.1 h.2⟩
 .cases h
def uW(q:Rat):i6 (fV q)=decide (0<q):=by show decide (0<q.num)=decide (0<q);rw[Od];exact iI
def zY(h:b.Ok):fC (bV b)=true:=by show (aK (fV b.l)&&(aK (fV b.t)&&(aK (fV b.w)&&(aK (fV b.h)&&(i6 (fV b.w)&&i6 (fV b.h))))))=true;rw[i5,i5,i5,i5,uW,uW,K_ h.w,K_ h.h];rfl
def IM(b:Bx):hU 2 (bV b)=true:=by simp [bV,fV,hU,knV,tyC]
theorem m7(P:E3->Prop):∀(vs acc:List Val) (e:E3),P e->(∀v∈vs,∀e,P e->∃e1 t e2,g v e=some e1/\F e1=.ok t e2/\cV e2 t=some (e2,f v)/\P e2)->acc.length+vs.length<=16777216->∃e',P e'/\lcV g cY F vs acc e=.ok (acc++vs.map f) e'
 | [],acc,e,hp,_,_=>⟨e,hp,by simp [lcV]⟩
 |
  v::vs,acc,e,hp,hf,hl=>by
  obtain⟨e1,t,e2,q1,q2,q3,q4⟩:=hf v (s_ ..) e hp;obtain⟨e',p',q5⟩:=m7 P vs (acc++[f v]) e2 q4 (λu hu=>hf u (r_ _ hu)) (by simp at hl ⊢;omega);refine⟨e',p',?_⟩;unfold lcV;rw[if_pos (by simp at hl;omega),q1];simp only[cY,jV,NG,q2,q3,q5];simp
def Ep(lo:Int)(k:Nat):eS lo k=(List.range k).map λi=>Val.int (lo+(i:Nat)):=rfl
noncomputable def rgV (k:Nat):List Val:=(List.range k).map λj=>Val.int (j:Nat)
def nK(h:k<1000000):iZ [.int (k:Nat)]=some (rgV k):=by simp only[iZ];rw[if_pos (⟨by omega,by omega⟩:RgB _),Mh];unfold eS rgV;simp only[Int.zero_add]
def uT(h0:0<=i)(h:i<1000000):iZ [.int i]=some (rgV i.toNat):=by
 have:=nK (k:=i.toNat) (by omega)
 rwa [show ((i.toNat:Nat):Int)=i from by omega] at this
theorem cp(fv fw:α->Val)(P:E3->Prop):∀(l:List α) (acc:List Val) (e:E3),P e->(∀a∈l,∀e,P e->∃e1 t e2,g (fv a) e=some e1/\F e1=.ok t e2/\cV e2 t=some (e2,fw a)/\P e2)->acc.length+l.length<=16777216->∃e',P e'/\lcV g qY.G F (l.map fv) acc e=.ok (acc++l.map fw) e'
 | [],acc,e,hp,_,_=>⟨e,hp,by simp [lcV]⟩
 |
  v::vs,acc,e,hp,hf,hl=>by
  obtain⟨e1,t,e2,q1,q2,q3,q4⟩:=hf v (s_ ..) e hp;obtain⟨e',p',q5⟩:=cp fv fw P vs (acc++[fw v]) e2 q4 (λu hu=>hf u (r_ _ hu)) (by simp at hl ⊢;omega);refine⟨e',p',?_⟩;rw[u_];unfold lcV;have cy:qY.G=cY:=rfl;rw[cy] at q5 ⊢;rw[if_pos (by simp at hl;omega),q1];simp only[cY,jV,NG,q2,q3,q5];simp
def Ir(v:Val):inS (.sh v)=.sh v:=rfl
def Dh(i:Nat)(v:Val)(e:E3):fi (some i) (.sh v) e=e:=rfl
noncomputable def jt (ms:List Bool) (r:SR3):R3F:=match r with
 |.nx e=>(match muV ms e with |some mv=>.ok (.val .non) mv |none=>.stuck)
 |.rt r e=>(match muV ms e with |some mv=>.ok r mv |none=>.stuck)
 |.exc c e=>(match muV ms e with |some mv=>.exc c mv |none=>.stuck)
 |_=>.stuck
def pq(h:vs.length=ms.length):(fnP ms N c).G vs=jt ms (c.G (sls ms vs++List.replicate (N-vs.length) .no)):=by rw[aD,if_pos h];rfl
def GF(h:vs.length=ms.length):(PFx.of ms N c).G vs=jt ms (c.G (sls ms vs++List.replicate (N-vs.length) .no)):=by rw[o6,if_pos h];rfl
def oV(ms:List Bool)(r:Rt)(e:E3):jt ms (.rt r e)=match muV ms e with |some mv=>.ok r mv |none=>.stuck:=rfl
def aE{Q:SR3->Prop}(I:E3->Prop){a b:PSt}{e:E3}(h1:∃e1,a.G e=.nx e1/\I e1)(h2:∀e1,I e1->Q (b.G e1)):Q ((aj a b).G e):=by obtain⟨e1,q,i⟩:=h1;rw[CF,q];exact h2 e1 i
def iV(i:Int):Val.tup [.int i,.int 1]=fV (i:Rat):=rfl
def sm8(h:m.natAbs<1099511627776):Sm 8000 m:=LA (show m.natAbs<2^40 from h) (L8 (by decide) (by decide))
def mH(h:m.natAbs<=2000000000000000000000000000000):Sm 101 m:=by unfold Sm;exact ML h (by decide)
def fG{m:Int}(h:m.natAbs<=2000000000000000000000000000000):Sz 101 (m:Rat):=⟨mH h,mH (by show (1:Int).natAbs<=_;decide)⟩
def gd{a b:Int}(hb:b≠0)(h1:a.natAbs<=2000000000000000000000000000000)(h2:b.natAbs<=2000000000000000000000000000000):Sz 101 ((a:Rat)/(b:Rat)):=Sz.div hb (mH h1) (mH h2) 101 (v_ _) (v_ _)
def eY{m:Int}(h:0<m):(0:Rat)<(m:Rat):=Rat.intCast_pos.mpr h
def eW{a b:Int}(h1:0<a)(h2:0<b):(0:Rat)<(a:Rat)/(b:Rat):=by rw[MH];exact OD (eY h1) (OC.mpr (eY h2))
structure Good(b:Bx):Prop where
 ok:b.Ok
 sz:b.Sz 101
def jS(h:m.natAbs<=2000000000000000000000000000000):Sm 8000 m:=(mH h).mono (by decide)
noncomputable def FJ (cs:List (Str×PFn)) (F:ME3) (A:MA3) (e:E3):R3 Tm:=(F e).bind λt e1=>match rs e1 t with
 |some (.glb x)=>(match cs.lookup x with
  |some p=>Cr p.ms p.G A e1
  |none=>.stuck)
 |_=>.stuck
noncomputable def lW (cs:List (Str×PFn)) (f:PEx) (a:PAs):PEx:=⟨25,FJ cs f.G a.G⟩
theorem D3(e:E3)(cs:List (Str×PFn))(f:PEx)(a:PAs):(lW cs f a).G e=(f.G e).bind λt e1=>match rs e1 t with
 |some (.glb x)=>(match cs.lookup x with
  |some p=>(ai p a).G e1
  |none=>.stuck)
 |_=>.stuck:=rfl
theorem lB{β:Type}{x:Str}{b:β}:∀{l:List (Str×β)},l.lookup x=some b->(x,b)∈l
 | [],h=>by simp at h
 |
  (y,c)::l,h=>by
  rw[MK] at h;split at h
  .rename_i q
   have:=eq_of_beq q
   subst this;cases h;exact s_ ..
  .exact r_ _ (lB h)
section
variable{K:W.Frag}{mg:Pa}{X:Cx}{ES:St->XK}{e:Expr}{es:List Expr}{A:PAs}{pos:Pos}
def vE(K:W.Frag)(mg:Pa)(X:Cx)(cs:List (Str×PFn)):Prop:=∀c∈cs,∃k ps,Callee X.prog X.w X.K X.mg X.base c.1 k ps (sp3 K mg c.2)/\Room k X.A
def HV:vE K mg X []:=λ_ h=>nomatch h
def tO{f:PFn}{x:Str}{k:Nat}{ps:List Str}{cs:List (Str×PFn)}(C:Callee X.prog X.w X.K X.mg X.base x k ps (sp3 K mg f))(hr:Room k X.A)(h:vE K mg X cs):vE K mg X ((x,f)::cs):=λc hc=>by
 rcases G_.mp hc with rfl |hc
 .exact⟨k,ps,C,hr⟩
 .exact h c hc
def Bi{ef:Expr}{cs:List (Str×PFn)}{p:PEx}(hc:vE K mg X cs)(hf:DE K mg X ES ef p)(hx:mG X ES)(ha:DA K mg X ES (e::es) A)(hm:X.mg=mg:=by rfl)
 (harm:eval (.Call ef (e::es) [] pos) X.env=(do callWith pos (<- eval ef X.env) [] (backTo pos (starEach (e::es) X.env)) (backToKw pos (keywordEach [] X.env))):=by rfl)
 (he:starEach (e::es) X.env=(false,eval e X.env)::starEach es X.env:=by rfl) (hpl:(backTo pos (starEach es X.env)).any (·.1)=false:=by rfl):DE K mg X ES (.Call ef (e::es) [] pos) (lW cs p A):=by
 subst hm;refine⟨λpins s σ H Q I ⟨Y,N0,L,ns,e,S,hl,p⟩=>?_⟩;rw[harm];refine p_ ?_;have rd
  : rdE K X.mg ES _ σ H (λv H1=>∃x c f,(x,c)∈cs/\v=.ref f/\X.mg x=some (.ref f)/\rdA K X.mg ES A.G σ H1 (λvs H2=>sp3 K X.mg c vs H2 Q (ES σ))):=
  ⟨Y,
   N0,L,ns,e,S,hl,PG3.imp p S λt e1 ns1 H1 a1 S1 p1 x r1=>by
   try dsimp only at p1
   split at p1
   .rename_i y q;split at p1
    .rename_i c q2;obtain⟨a,rfl,m⟩:=(r1.sh S1 q).glb;exact⟨y,c,a,lB q2,rfl,m,uM (f:=c) σ H1 Q ⟨Y,N0,L,ns1,e1,S1,λa z=>hl a (a1.dom a z),p1⟩⟩
    .exact p1.elim
   .exact p1.elim⟩
 refine LX (hf.ok pins s σ H _ I rd) (λu s1 ⟨v,H1,I1,rv,x,c,f,hmem,ev,m,ra⟩=>?_) λ_ _ z=>z;subst ev;obtain rfl:u=Value.ref f:=rv;obtain⟨k,ps,C,hr⟩:=hc (x,c) hmem;obtain⟨f',fd,F',m',kp,bb,_⟩:=C.ex;rw[m] at m';cases m';refine W.callWith_K (h₀:=X.base) I.ok.mod.kin kp (LX (ha.ok pos pins s1 σ H1 _ I1 ra) (λus s2 ⟨vs,H2,I2,r,q⟩=>⟨I2.kIn,?_⟩) λ_ _ z=>z) he hpl;have hl:(us++[]).length=ps.length:=by rw[L6,<- r.length];exact F'.len _ _ _ _ q
 refine wpAny_call (Ov (F'.run X.A X.stack s2 H2 ⟨us,[]⟩ us vs Q (ES σ) hr I2.env0 (by simpa using bb s2 us I2.kIn hl) r q) λr s' hq=>?_);cases r with
 |error ex=>exact hx pins σ H2 s2 ex s' I2 hq
 |
  ok fl=>
  cases fl with
  |ret u=>exact I2.after hq
  |next=>exact False.elim hq
  |brk=>exact False.elim hq
  |cont=>exact False.elim hq
end
def ID(xs ys:List Val):aF.G (.lst xs) (.lst ys)=if xs.length+ys.length<=16777216 then .new (.lst (xs++ys)) else .stuck:=rfl
section
variable{K:W.Frag}{mg:Pa}{P:Addr->Prop}{H:Hp}{ws ws':List (Key×V)}{us us':List (Key×Val)}{k:Key}
def Lb(r:Rk K mg P H ws us):lkD us k=some v->∃d,lkD ws k=some d/\Rd K mg P H d v:=
 r.ind (M:=λws us=>lkD us k=some v->∃d,lkD ws k=some d/\Rd K mg P H d v) (λq=>by cases q) (λ{k2 d v2 ds vs} r _ ih q=>by
  unfold lkD at q ih ⊢;rw[Ml] at q ⊢;dsimp only at q ⊢;by_cases hk:k2=k
  .rw[K_ hk] at q ⊢;cases q;exact⟨d,rfl,r⟩
  .rw[H_ hk] at q ⊢;exact ih q)
def Dl(r:Rk K mg P H ws us):us.map (·.1)=ws.map (·.1):=
 r.ind (M:=λws us=>us.map (·.1)=ws.map (·.1)) rfl λ_ _ ih=>by rw[u_,u_,ih]
def IF(r:Rk K mg P H ws us):ws.length=us.length:=
 r.ind (M:=λws us=>ws.length=us.length) rfl λ_ _ ih=>Mb (· + 1) ih
def IZ(r:Rk K mg P H ws us)(q:Rk K mg P H ws' us'):Rk K mg P H (ws++ws') (us++us'):=
 r.ind (M:=λws us=>Rk K mg P H (ws++ws') (us++us')) q λr _ ih=>.cons r ih
def HZ(rd:Rd K mg P H d v)(r:Rk K mg P H ws us):Rk K mg P H (eg ws k d) (eg us k v):=by
 unfold eg;rw[Ai (Dl r)];by_cases hc:(ws.any λkv=>decide (kv.1=k))=true
 .rw[if_pos hc,if_pos hc];exact r.ind (M:=λws us=>Rk K mg P H (ws.map λkv=>if kv.1=k then (kv.1,d) else kv) (us.map λkv=>if kv.1=k then (kv.1,v) else kv)) .nil (λ{k2 d2 v2 ds vs} r _ ih=>by
   rw[u_,u_];dsimp only;by_cases hk:k2=k
   .rw[if_pos hk,if_pos hk];exact .cons rd ih
   .rw[if_neg hk,if_neg hk];exact .cons r ih)
 .rw[if_neg hc,if_neg hc];exact IZ r (.cons rd .nil)
end
noncomputable def sD:Val->Val->Val->Option Val:=λo i v=>match o with
 |.dct kvs=>(match i with
  |.str k=>if kvs.length<16777216 then some (.dct (eg kvs (.inr k) v)) else none
  |_=>none)
 |_=>none
section
variable{K:W.Frag}{mg:Pa}{a:Expr}{vs:List Expr}{p q:PEx}
noncomputable def Av:List Val->Bv:=λvs=>match vs with
 | [.lst xs]=>(match fg xs with
  |some bs=>.val (.bl (bs.any id))
  |none=>.stuck)
 |_=>.stuck
noncomputable def pf:PBf:=⟨Av⟩
theorem JG(xs:List Val):pf.G [.lst xs]=match fg xs with
 |some bs=>.val (.bl (bs.any id))
 |none=>.stuck:=rfl
def Fb:bO K mg (λxs H Q=>∃(a:Addr) (bs:List Bool),xs=[.ref a]/\SqL K H a (bs.map V.bl)/\Q (.bl (bs.any id)) H) pf.G:=λP H xs vs Q r0 p=>by
 replace p:BvP K mg P H Q (Av vs):=p;unfold Av at p;split at p
 .obtain⟨d,rfl,r⟩:=cP r0;obtain⟨a,ys,rfl,h,q⟩:=r.lstL;split at p
  .rename_i bs e;exact⟨a,bs,rfl,B6 q e ▸ h,bv p (.bl _)⟩
  .exact p.elim
 .exact p.elim
end
noncomputable def pU (n:Nat) (u:jD):MG3:=λv e=>match v with
 |.tup vs=>if vs.length=n then u vs e else none
 |.lst vs=>if vs.length=n then u vs e else none
 |_=>none
noncomputable def gtU (n:Nat) (a:PGs):PGt:=⟨3,pU n a.G⟩
section
variable{e:E3}
def g_uL(n:Nat)(a:PGs)(vs:List Val):(gtU n a).G (.lst vs) e=if vs.length=n then a.G vs e else none:=rfl
end
section
variable{K:W.Frag}{mg:Pa}{X:Cx}{es:List Expr}{gs:PGs}{pos:Pos}
def G0{k n:Nat}(hK:X.K=K)(hc:X.calm=true)(h:DGs K mg X es gs)(hn:(assignEach es X.env).length=n:=by rfl)(hst:(assignEach es X.env).findIdx? (·.1)=none:=by rfl):DG K mg X (.Tuple es k pos) (gtU n gs):=by
 subst hK;exact
  ⟨PG.imp (II hc h.ok hn hst) λv σ H Q zz=>zz.el λY N0 ns e u e' S r q k=>by
  replace q:pU n gs.G u e=some e':=q;unfold pU at q;split at q
  .split at q
   .rename_i hl;obtain⟨a,vs,rfl,z,rr⟩:=ShR.tup (.inl r);exact⟨a,vs,rfl,.inl z,by rw[rr.len];exact hl,Y,N0,ns,e,_,e',S,rr,q,k⟩
   .cases q
  .split at q
   .rename_i hl;obtain⟨a,vs,rfl,z,rr⟩:=ShR.lstL (.inl r);exact⟨a,vs,rfl,.inr z,by rw[rr.len];exact hl,Y,N0,ns,e,_,e',S,rr,q,k⟩
   .cases q
  .cases q⟩
end
theorem ar1{α:Type}{P:List α->Prop}(h:∀a,P [a]):∀us:List α,us.length=1->P us
 | [a],_=>h a
theorem ar2{α:Type}{P:List α->Prop}(h:∀a b,P [a,b]):∀us:List α,us.length=2->P us
 | [a,b],_=>h a b
theorem ar3{α:Type}{P:List α->Prop}(h:∀a b c,P [a,b,c]):∀us:List α,us.length=3->P us
 | [a,b,c],_=>h a b c
theorem ar4{α:Type}{P:List α->Prop}(h:∀a b c d,P [a,b,c,d]):∀us:List α,us.length=4->P us
 | [a,b,c,d],_=>h a b c d
section
variable{K:W.Frag}{mg:Pa}{P:Addr->Prop}{H:Hp}
theorem j0:∀l:List Nat,Rds K mg P H (l.map λi:Nat=>V.int (i:Nat)) (l.map λi:Nat=>Val.int (i:Nat))
 | []=>.nil
 |i::l=>.cons (.int _) (j0 l)
end
noncomputable def BL:List Val->Bv:=λvs=>match vs with
 | [.int j]=>if -(2^62)<=j/\j<=16777216 then .new (.lst (rgV j.toNat)) else .stuck
 |_=>.stuck
noncomputable def lT:PBf:=⟨BL⟩
def JX{j:Int}(h:-(2^62)<=j/\j<=16777216):lT.G [.int j]=.new (.lst (rgV j.toNat)):=if_pos h
noncomputable def zH:List Val->Bv:=λvs=>match vs with
 | [.int j]=>if 0<=j/\j<=1000000 then .val (.tup (rgV j.toNat)) else .stuck
 |_=>.stuck
noncomputable def lN:PBf:=⟨zH⟩
def Jd{j:Int}(h:0<=j/\j<=1000000):lN.G [.int j]=.val (.tup (rgV j.toNat)):=if_pos h
noncomputable def jo:List Val->Bv:=λvs=>match vs with
 | [.lst us]=>match d5 us with
  |some ns=>if ns.length<64 then .new (.lst ((srI ns).reverse.map .int)) else .stuck
  |none=>.stuck
 |_=>.stuck
noncomputable def j7:PBf:=⟨jo⟩
def Et(ns:List Int)(h:ns.length<64):j7.G [.lst (ns.map .int)]=.new (.lst ((srI ns).reverse.map .int)):=by show jo [.lst (ns.map .int)]=_;unfold jo;dsimp only;rw[aW];dsimp only;rw[if_pos h]
noncomputable def m8 (f:List Int->Int):List Val->Bv:=λvs=>match vs with
 | [.lst xs]=>(match d5 xs with
  |some bs=>if bs≠[] then .val (.int (f bs)) else .stuck
  |none=>.stuck)
 |_=>.stuck
noncomputable def lR:PBf:=⟨m8 mnI⟩
noncomputable def lI:PBf:=⟨m8 mxI⟩
def B8{f:List Int->Int}{ns:List Int}(h:ns≠[]):m8 f [.lst (ns.map .int)]=.val (.int (f ns)):=by unfold m8;dsimp only;rw[aW];exact if_pos h
def yG{ns:List Int}(h:ns≠[]):lR.G [.lst (ns.map .int)]=.val (.int (mnI ns)):=B8 h
def HF{ns:List Int}(h:ns≠[]):lI.G [.lst (ns.map .int)]=.val (.int (mxI ns)):=B8 h
noncomputable def Jo (e:E3):R3 Tm:=.ok (.new (.set [])) e
noncomputable def wq:PEx:=⟨27,Jo⟩
def FD(e:E3):wq.G e=.ok (.new (.set [])) e:=rfl
noncomputable def An:Val->Val->Bv:=λx y=>match x,y with
 |.int i,.set xs=>.val (.bl (decide (i∈xs)))
 |_,_=>.stuck
noncomputable def AV:PO2:=⟨An⟩
def J7(i:Int)(xs:List Int):AV.G (.int i) (.set xs)=.val (.bl (decide (i∈xs))):=rfl
noncomputable def wu:List Val->Bv:=λvs=>match vs with
 | [.set xs]=>.val (.int (xs.length:Nat))
 |_=>.stuck
noncomputable def pw:PBf:=⟨wu⟩
def F5(xs:List Int):pw.G [.set xs]=.val (.int (xs.length:Nat)):=rfl
noncomputable def Bp:Val->Option (List Int)
 |.set xs=>some xs
 |_=>none
noncomputable def pZ (i:Nat) (A:MA3) (e:E3):R3 Tm:=match e[i]? with
 |some s=>match s.mv.bind Bp with
  |some _=>(A e).bind λts e1=>match dem e1 ts with
   |some (e2,[.int k])=>match e2[i]? with
    |some s2=>match s2.mv.bind Bp with
     |some xs=>if xs.length<4000 then .ok (.val .non) (e2.set i (s2.re (.set (ff xs k)))) else .stuck
     |none=>.stuck
    |none=>.stuck
   |_=>.stuck
  |none=>.stuck
 |none=>.stuck
noncomputable def AD (i:Nat) (a:PAs):PEx:=⟨28,pZ i a.G⟩
def Ii(e:E3)(i:Nat)(a:PAs):(AD i a).G e=pZ i a.G e:=rfl
noncomputable def rK:Val->Val->Bv:=λx y=>match x with
 |.dct kvs=>(match y with
  |.int k=>(match lkD kvs (.inl k) with
   |some v=>.val v
   |none=>.stuck)
  |_=>.stuck)
 |_=>.stuck
noncomputable def vO:PO2:=⟨rK⟩
def Kw(h:lkD kvs (.inl k)=some v):vO.G (.dct kvs) (.int k)=.val v:=by show rK (.dct kvs) (.int k)=_;unfold rK;dsimp only;rw[h]
noncomputable def sDI:Val->Val->Val->Option Val:=λo i v=>match o with
 |.dct kvs=>(match i with
  |.int k=>if kvs.length<16777216 then some (.dct (eg kvs (.inl k) v)) else none
  |_=>none)
 |_=>none
noncomputable def seI:PSe:=⟨sDI⟩
def Gh(kvs:List (Key×Val))(k:Int)(v:Val):seI.G (.dct kvs) (.int k) v=if kvs.length<16777216 then some (.dct (eg kvs (.inl k) v)) else none:=rfl
noncomputable def kz:Val->List Val->Option (Val×Val):=λu vs=>match u,vs with
 |.lst xs,[.tup ys]=>if xs.length+ys.length<=16777216 then some (.lst (xs++ys),.non) else none
 |_,_=>none
noncomputable def gN:PMm:=⟨kz⟩
def oh(xs ys:List Val):gN.G (.lst xs) [.tup ys]=if xs.length+ys.length<=16777216 then some (.lst (xs++ys),.non) else none:=rfl
section
variable{K:W.Frag}{mg:Pa}{P:Addr->Prop}{H:Hp}
def IJ:bO K mg rLrg lT.G:=λP H xs vs Q r0 p=>by
 replace p:BvP K mg P H Q (BL vs):=p;unfold BL at p;split at p
 .obtain⟨d,rfl,r⟩:=cP r0;obtain rfl:=r.int;split at p
  .rename_i hb;exact⟨_,rfl,hb.1,hb.2,bvL p (j0 _)⟩
  .exact p.elim
 .exact p.elim
def Gu:bO K mg rTrg lN.G:=λP H xs vs Q r0 p=>by
 replace p:BvP K mg P H Q (zH vs):=p;unfold zH at p;split at p
 .obtain⟨d,rfl,r⟩:=cP r0;obtain rfl:=r.int;split at p
  .rename_i hb;exact⟨_,rfl,hb.1,hb.2,bvT p (j0 _)⟩
  .exact p.elim
 .exact p.elim
def AZ:bO K mg (xQ K) j7.G:=λP H xs vs Q r0 p=>by
 replace p:BvP K mg P H Q (jo vs):=p;unfold jo at p;split at p
 .obtain⟨d,rfl,r⟩:=cP r0;obtain⟨a,ys,rfl,h,q⟩:=r.lstL;split at p
  .rename_i bs e;split at p
   .rename_i hb;exact⟨a,bs,rfl,jJ q e ▸ h,hb,bvL p (ir _)⟩
   .exact p.elim
  .exact p.elim
 .exact p.elim
def yX{f:List Int->Int}:bO K mg (qa f K) (m8 f):=λP H xs vs Q r0 p=>by
 unfold m8 at p;split at p
 .obtain⟨d,rfl,r⟩:=cP r0;obtain⟨a,ys,rfl,h,q⟩:=r.lstL;split at p
  .rename_i bs e;split at p
   .rename_i hb;exact⟨a,bs,rfl,jJ q e ▸ h,hb,bv p (.int _)⟩
   .exact p.elim
  .exact p.elim
 .exact p.elim
def Es:bO K mg (qa mnI K) lR.G:=yX
def Eb:bO K mg (qa mxI K) lI.G:=yX
def Hw:OpD K mg yo AV.G:=λP H x y v u Q rx ry p=>by
 replace p:BvP K mg P H Q (An v u):=p;unfold An at p;split at p
 .obtain rfl:=rx.int;obtain⟨a,rfl,_,e⟩:=ry.set;exact⟨_,_,_,_,rfl,rfl,e,bv p (.bl _)⟩
 .exact p.elim
def EF:bO K mg (λxs H Q=>∃a S n,xs=[.ref a]/\H a=some (.set S n)/\Q (.int (n:Nat)) H) pw.G:=λP H xs vs Q r0 p=>by
 replace p:BvP K mg P H Q (wu vs):=p;unfold wu at p;split at p
 .obtain⟨d,rfl,r⟩:=cP r0;obtain⟨a,rfl,_,e⟩:=r.set;exact⟨_,_,_,rfl,e,bv p (.int _)⟩
 .exact p.elim
def BI:Ae K mg C2 seI.G:=λP H n o u di vi d v u' Q np e hf r0 ri rd q k=>by
 replace q:sDI u vi v=some u':=q;unfold sDI at q;split at q
 .split at q
  .split at q
   .rename_i hl;cases q;obtain rfl:=ri.int;cases r0 with
    |dct rk=>exact⟨n,_,rfl,DPut.k (k:=.inl _) e (by rw[IF rk];exact hl),k _ trivial (.dct (HZ rd rk))⟩
   .cases q
  .cases q
 .cases q
def vT:MmD K mg (pE K) gN.G:=λP H n o u ds vs u' v Q np e hf r0 rs q k=>by
 replace q:kz u vs=some (u',v):=q;unfold kz at q;split at q
 .split at q
  .rename_i hl;cases q;obtain⟨xs,rfl,r⟩:=jz r0;obtain⟨d,rfl,rd⟩:=vD rs;obtain⟨b,ys,rfl,e2,q5⟩:=ShR.tup (.inl rd);exact⟨n,b,xs,ys,rfl,rfl,e,e2,by rw[r.len,q5.len];exact hl,k _ _ trivial (.lst (r.append q5)) .non⟩
  .cases q
 .cases q
variable{X:Cx}{ES:St->XK}{e o a b:Expr}{es:List Expr}{p q:PEx}{A:PAs}{pos cpos apos q1 q2 q8 q9 p0 p1 p2 pc:Pos}{kc:Nat}
def IW(hc:X.calm=true)(hl:Gl X "list")(hml:mg "list"=none)(hg:Gl X "range")(hm:mg "range"=none)(ha:DA K mg X ES [a] A)(hk:X.mg=mg:=by rfl)(hs:starEach [a] X.env=[(false,eval a X.env)]:=by rfl)
 (hs1:starEach [.Call (.Name "range" p2) [a] [] q2] X.env=[(false,eval (.Call (.Name "range" p2) [a] [] q2) X.env)]:=by rfl):
 DE K mg X ES (.Call (.Name "list" p1) [.Call (.Name "range" p2) [a] [] q2] [] pos) (pFn lT A):=by
 subst hk;exact⟨PE.imp (GJ hc hl hml hg hm ha.ok hs hs1) (lU IJ)⟩
def F3(hc:X.calm=true)(hl:Gl X "tuple")(hml:mg "tuple"=none)(hg:Gl X "range")(hm:mg "range"=none)(ha:DA K mg X ES [a] A)(hk:X.mg=mg:=by rfl)(hs:starEach [a] X.env=[(false,eval a X.env)]:=by rfl)
 (hs1:starEach [.Call (.Name "range" p2) [a] [] q2] X.env=[(false,eval (.Call (.Name "range" p2) [a] [] q2) X.env)]:=by rfl):
 DE K mg X ES (.Call (.Name "tuple" p1) [.Call (.Name "range" p2) [a] [] q2] [] pos) (pFn lN A):=by
 subst hk;exact⟨PE.imp (Ik hc hl hml hg hm ha.ok hs hs1) (lU Gu)⟩
def EI(hl:Gl X "sorted")(hml:mg "sorted"=none)(ha:DA K mg X ES [a] A)(hK:X.K=K:=by rfl)(hk:X.mg=mg:=by rfl)(hs:starEach [a] X.env=[(false,eval a X.env)]:=by rfl):
 DE K mg X ES (.Call (.Name "sorted" q1) [a] [⟨some "reverse",.Constant (.bool true) kc pc,q8⟩] q9) (pFn j7 A):=by
 subst hK hk;exact⟨PE.imp (Dw hl hml ha.ok hs) (lU AZ)⟩
def DU(hg:Gl X x)(hm:mg x=none)(hv:bootBuiltins x=some (.type "set"))(hk:X.mg=mg:=by rfl)(hn:x ≠ "__name__":=by decide)(hdb:(x==("__debug__" : Str))=false:=by decide):DE K mg X ES (.Call (.Name x p0) [] [] pos) wq:=by
 subst hk;exact⟨PE.imp (vc wV hg hm hv hn hdb) λσ H Q zz=>zz.el λY N0 L ns e S hl p=>⟨rfl,λl hl'=>by
  have:=PG3.bv (b:=.new (.set [])) p S hl H l (.set (λi=>decide (i∈([]:List Int))) 0) .refl hl' trivial (.set [] List.nodup_nil)
  have e:(λ_:Int=>false)=λi:Int=>decide (i∈([]:List Int)):=by funext i;simp
  rw[e];exact this⟩⟩
def Ho{xs:List Int}{i:Int}(nd:xs.Nodup):(ff xs i).Nodup/\HO.set (λk=>decide (k∈xs) || decide (k=i)) (if decide (i∈xs)=true then xs.length else xs.length+1)=.set (λk=>decide (k∈ff xs i)) (ff xs i).length:=by
 unfold ff;by_cases hi:i∈xs
 .rw[if_pos (K_ hi),if_pos hi];refine⟨nd,?_⟩;congr 1;funext k;by_cases hk:k∈xs
  .rw[K_ hk];rfl
  .rw[H_ hk,H_ (show ¬ k=i from λz=>hk (by rw[z];exact hi))];rfl
 .rw[if_neg (show ¬ decide (i∈xs)=true by rw[H_ hi];exact y_),if_neg hi];refine⟨Nt.mpr ⟨hi,nd⟩,?_⟩;congr 1;funext k;rw[NM,Np,MM,MM,MM,G_];exact Or.comm
def Hk{j:Nat}(hK:X.K=K)(ho:DE K mg X ES o (af j))(ha:DA K mg X ES (e::es) A)
 (i_:attributeBase o "add" X.env (eval o X.env)=eval o X.env:=by rfl)
 (hfew:((backTo cpos (starEach (e::es) X.env)).all (λx=>!x.1)&&(backToKw cpos (keywordEach [] X.env)).all (λx=>x.1.isSome)
  && decide ((e::es).length+([]:List Keyword).length+(if ([]:List Keyword).isEmpty then 0 else 1)<30))=true:=by rfl)
 (j':(apos.endLine==cpos.line)=true:=by rfl) (hs:starEach (e::es) X.env=(false,eval e X.env)::starEach es X.env:=by rfl) (c_:(backTo cpos (starEach es X.env)).any (·.1)=false:=by rfl):
 DE K mg X ES (.Call (.Attribute o "add" apos) (e::es) [] cpos) (AD j A):=by
 subst hK;exact
  ⟨PE.imp (vy PySem.F.plainAttrs_set PySem.F.slot_set_add PySem.F.type_set_add xG ho.ok ha.ok i_ hfew j' hs c_) λσ H Q zz=>zz.el λY N0 L ns e S hl p=>⟨Y,N0,L,ns,e,S,hl,by
  replace p:PG3 X.K mg Y N0 ns e σ H (ES σ) (KE X.K mg Y N0 L σ Q) (pZ j A.G e):=p;unfold pZ at p;split at p
  .rename_i s0
    q0
   split at p
   .rename_i xs0 hz;obtain⟨u0,z1,z2⟩:=LS.mp hz;show PG3 X.K mg Y N0 ns e σ H (ES σ) _ (dU j e);rw[pK q0 z1];intro H1 ns1 a1 S1 ov ro;have ty:tyV X.K "set" ov H1:=by
     have rs:=S1.bor (i:=j) (v:=u0) ro (by rw[q0];cases s0 <;> first |exact z1 |cases z1);cases u0 with
     |set ys=>obtain⟨a,rfl,_,h⟩:=rs.set;exact .inr (.inr (.inr ⟨rfl,_,_,h⟩))
     |_=>cases z2
    refine⟨ty,Y,N0,ns1,e,S1,PG3.imp (p.after S a1) S1 λts e1 h_ H2 a2 S2 p2 xs r2=>?_⟩;split at p2
    .rename_i e2 k q1;obtain⟨ns3,S3,a3,r3⟩:=iK S2 r2 q1;split at p2
     .rename_i s2 q2;split at p2
      .rename_i ys q3;split at p2
       .rename_i b_;obtain⟨u,y1,y2⟩:=LS.mp q3;obtain⟨n,ob,k1,k0,k2,k3,k4,k5⟩:=S3.write q2 y1;have ro':σ[j]?=some (some ov):=ro;rw[k1] at ro';cases ro';obtain⟨d,rfl,rd⟩:=vD r3;obtain rfl:=ShR.int (.inl rd);cases u with
        |
         set zs=>
         cases y2;cases k4 with
         |set _ nd=>obtain⟨i1,i2⟩:=Ho (i:=k) nd;refine⟨n,k,_,_,rfl,rfl,k2,b_,?_⟩;rw[i2];obtain⟨mv,S4,a4⟩:=k5 (.set (λz=>decide (z∈ff ys k)) (ff ys k).length) (.set (ff ys k)) trivial (.set _ i1);exact p2 _ _ (a3.trans S2 a4) S4 _ .non
        |_=>cases y2
       .exact p2.elim
      .exact p2.elim
     .exact p2.elim
    .exact p2.elim
   .exact p.elim
  .exact p.elim⟩⟩
def Aw(hu:X.A.units+1<cLine)(ha:DE K mg X ES a p)(hb:DE K mg X ES b q)(hs:Ad b):DE K mg X ES (.Subscript a b pos) (pOp vO p q):=⟨PE.imp (C6 hu ha.ok hb.ok hs) λσ H Q zz=>zz.el λY N0 L ns e S hl p=>
 ⟨Y,
  N0,L,ns,e,S,hl,PG3.imp p S λt1 e1 ns1 H1 a1 S1 p1 x r1=>⟨Y,N0,L,ns1,e1,S1,λa z=>hl a (a1.dom a z),PG3.imp p1 S1 λt2 e2 h_ H2 a2 S2 p2 y r2=>by
  try dsimp only at p2
  split at p2
  .rename_i v u q1 q2;replace p2:PG3 K mg Y N0 h_ e2 σ H2 (ES σ) (KE K mg Y N0 L σ Q) ((rK v u).at e2):=p2;unfold rK at p2;split at p2
   .split at p2
    .split at p2
     .rename_i q3;obtain⟨a,ws,rfl,h,rk⟩:=((r1.drop a2).sh S2 q1).dct;obtain rfl:=(r2.sh S2 q2).int;obtain⟨d,q4,rd⟩:=Lb rk q3;exact⟨a,d,rfl,q4 ▸ DGet.k (k:=.inl _) h,p2.ret S2 _ rd⟩
     .exact p2.elim
    .exact p2.elim
   .exact p2.elim
  .exact p2.elim⟩⟩⟩
end
open PySem PySem.Spec PyProof.Rows L2 PySem.W
noncomputable def adr (K:Frag) (x:Str):Addr:=match nsIn K mainGlobals x with
 |some (some (.ref a))=>a
 |_=>0
noncomputable def ig (K:Frag) (x:Str):Bool:=match nsIn K mainGlobals x with
 |some (some (.ref _))=>true
 |_=>false
noncomputable def qR (K:Frag) (x:Str):Bool:=match nsIn K mainGlobals x with
 |some none=>true
 |_=>false
noncomputable def xcB (K:Frag) (C:Addr):Bool:=(clsIn K C).isSome&&(findIn K (.ref C) "__getattribute__" == some (some (.builtin "BaseException.__getattribute__"))&&(findIn K (.ref C) "__getattr__" == some none&&(findIn K (.ref C) "__class__" == some (some (.builtin "object.__class__"))&&(specialIn K (.builtin "object.__class__") "__get__" == some (some (.builtin "getset_descriptor.__get__"))&&(takesIn K (.builtin "object.__class__")==some true&&(mroIn K C (.type "object")==some true&&mroIn K C (.type "BaseException")==some true))))))
noncomputable def hdB (K:Frag) (C:Addr):Bool:=typeIn K (.ref C)==some (.type "type")&&((clsIn K C).isSome&&mroIn K C (.type "BaseException")==some true)
noncomputable def clA (K:Frag):Cl->Value
 |.b n=>.type n
 |.o x=>.ref (adr K x)
noncomputable def Aq (K:Frag):Cl->Bool
 |.b _=>true
 |.o x=>ig K x
noncomputable def Ag (K:Frag) (p:Cl×Cl×Bool):Bool:=kitOne K (clA K p.1) (clA K p.2.1)==some p.2.2&&(Aq K p.1&&Aq K p.2.1)
noncomputable def xkB (K:Frag):Cl->Bool
 |.b _=>true
 |.o x=>xcB K (adr K x)
noncomputable def v5:Val->Value->Bool
 |.int i,.int j _=>i==j
 |.str x,.str y _=>x==y
 |.non,.none=>true
 |.bl b,.bool c=>b==c
 |_,_=>false
noncomputable def dV:Val->V
 |.int i=>.int i
 |.str x=>.str x
 |.bl b=>.bl b
 |_=>.non
noncomputable def oW:List Val->List Value->Bool
 | [],[]=>true
 |d::ds,v::vs=>v5 d v&&oW ds vs
 |_,_=>false
noncomputable def gcB (K:Frag) (x:Str):Val->Bool
 |.tup ds=>(match nsIn K mainGlobals x with
  |some (some (.ref a))=>(match K.lookup a with
   |some ⟨.type "tuple",_,.seq its _,_⟩=>decide (its.size<=1000)&&oW ds its.toList
   |_=>false)
  |_=>false)
 |d=>match nsIn K mainGlobals x with
  |some (some v)=>v5 d v
  |_=>false
noncomputable def bFn:List String:=["abs", "all", "any", "isinstance", "len", "max", "min", "sorted", "sum"]
noncomputable def bTy:List String:=["bool", "dict", "int", "list", "set", "str", "tuple", "ValueError"]
noncomputable def bIt:List String:=["range", "zip", "enumerate"]
def GS:(bFn.all λn=>bootBuiltins (Str.ofString n)==some (.builtin n))=true:=by decide
def F2:(bTy.all λn=>bootBuiltins (Str.ofString n)==some (.type n))=true:=by decide
def boF{n:String}(h:bFn.contains n=true):bootBuiltins (Str.ofString n)=some (.builtin n):=LW.mp (LQ.mp GS n (Mg.mp h))
def boT{n:String}(h:bTy.contains n=true):bootBuiltins (Str.ofString n)=some (.type n):=LW.mp (LQ.mp F2 n (Mg.mp h))
structure Tb where
 us:List Str
 rs:List Str
 hs:List (Str×List Str)
 kt:ja
 gs:List (Str×Val)
noncomputable def Tb.ok (b:Tb) (K:Frag):Bool:=(bFn++(bTy++bIt)).all (λn=>qR K (Str.ofString n))&&(b.us.all (ig K)&&(b.rs.all (λx=>excIn K (adr K x) mX "ValueError.__new__" && ig K x)&&(b.hs.all (λp=>hdB K (adr K p.1)&&p.2.all λc=>mroIn K (adr K c) (.ref (adr K p.1))==some true&&ig K c)&&(b.kt.all (λp=>Ag K p&&xkB K p.1)&&b.gs.all λp=>gcB K p.1 p.2))))
structure Tx(b:Tb)(K:Frag)(mg:Pa):Prop where
 n:∀{n:String},(bFn++(bTy++bIt)).contains n=true->mg (Str.ofString n)=none
 m:∀{x:Str},b.us.contains x=true->mg x=some (.ref (adr K x))
 x:∀{x:Str},b.rs.contains x=true->excIn K (adr K x) mX "ValueError.__new__"=true
 h:∀{x:Str}{l:List Str},(x,l)∈b.hs->XHand K (adr K x)/\∀c∈l,∀Ce,mg c=some (.ref Ce)->mroIn K Ce (.ref (adr K x))=some true
 k:KitsOk K mg b.kt
 g:∀{x:Str}{d:Val},b.gs.lookup x=some d->GC K mg x d
section
variable{K:Frag}{h:Heap}{mg:Pa}{x:Str}(X:K.In h)(G:h.Ns mainGlobals mg)
include X G
def jQ(e:ig K x=true):mg x=some (.ref (adr K x)):=by
 unfold ig at e;split at e
 .rename_i a q;unfold adr;rw[q];exact mg_of X G q
 .cases e
def uY(e:qR K x=true):mg x=none:=by
 unfold qR at e;split at e
 .rename_i q;exact mg_none_of X G q
 .cases e
omit X G in
def J6{C:Addr}(e:xcB K C=true):XCls K C:=by simp only[xcB,w_,LW] at e;obtain⟨e1,e2,e3,e4,e5,e6,e7,e8⟩:=e;exact⟨e1,e2,e3,e4,e5,e6,e7,e8⟩
def Cw{c:Cl}{v:Value}(e:Aq K c=true)(q:ClV mg c v):v=clA K c:=by
 cases c with
 |b n=>exact q
 |o y=>obtain⟨a,rfl,m⟩:=q;rw[jQ X G (show ig K y=true from e)] at m;cases m;rfl
omit X G in
def yc{d:Val}{v:Value}(e:v5 d v=true):RelV (dV d) v/\∀P H,Rd K mg P H (dV d) d:=by
 unfold v5 at e;split at e
 .cases LW.mp e;exact⟨⟨_,rfl⟩,λ_ _=>.int _⟩
 .cases LW.mp e;exact⟨⟨_,rfl⟩,λ_ _=>.str _⟩
 .exact⟨rfl,λ_ _=>.non⟩
 .cases LW.mp e;exact⟨rfl,λ_ _=>.bl _⟩
 .cases e
omit X G in
theorem uA:∀{ds:List Val}{vs:List Value},oW ds vs=true->Vals (ds.map dV) vs/\∀P H,Rds K mg P H (ds.map dV) ds
 | [],[],_=>⟨.nil,λ_ _=>.nil⟩
 |
  d::ds,v::vs,e=>by
  rw[oW,w_] at e;obtain⟨a1,a2⟩:=yc (K:=K) (mg:=mg) e.1;obtain⟨b1,b2⟩:=uA e.2;exact⟨.cons a1 b1,λP H=>.cons (a2 P H) (b2 P H)⟩
 | [],_::_,e=>nomatch e
 |_::_,[],e=>nomatch e
def Li{d:Val}(e:gcB K x d=true):GC K mg x d:=by
 unfold gcB at e;split at e
 .rename_i ds;split at e
  .rename_i a q;split at e
   .rename_i dd its n sl l;rw[w_] at e;obtain⟨v1,v2⟩:=uA (K:=K) (mg:=mg) e.2;exact⟨_,.ref a,mg_of X G q,rfl,λP H=>.tup (.inr ⟨_,its,n,l,rfl,rfl,LU (NA e.1) (by decide),v1⟩) (v2 P H)⟩
   .cases e
  .cases e
 .split at e
  .rename_i v q;obtain⟨v1,v2⟩:=yc (K:=K) (mg:=mg) e;exact⟨_,_,mg_of X G q,v1,v2⟩
  .cases e
omit X G in
theorem zj{d:Val}:∀{l:List (Str×Val)},l.lookup x=some d->(x,d)∈l
 | [],h=>nomatch h
 |
  (y,e)::l,h=>by
  rw[MK] at h;split at h
  .rename_i q;cases h;rw[LW.mp q];exact s_
  .exact r_ _ (zj h)
def Kb{b:Tb}(e:b.ok K=true):Tx b K mg:=by
 unfold Tb.ok at e;simp only[w_] at e;obtain⟨e1,e2,e3,e4,e5,e6⟩:=e;simp only[LQ,w_] at e1 e2 e3 e4 e5 e6;refine⟨λh=>uY X G (e1 _ (Mg.mp h)),λh=>jQ X G (e2 _ (Mg.mp h)),λh=>(e3 _ (Mg.mp h)).1,λh=>?_,⟨λp hp t v h1 h2=>?_,λp hp x C e' m=>?_⟩,λh=>Li X G (e6 _ (zj h))⟩
 .obtain⟨a1,a2⟩:=e4 _ h;refine⟨?_,λc hc Ce m=>?_⟩
  .simp only[hdB,w_,LW] at a1;exact⟨a1.1,a1.2.1,a1.2.2⟩
  .obtain⟨b1,b2⟩:=a2 c hc;rw[jQ X G b2] at m;cases m;exact LW.mp b1
 .obtain⟨a1,_⟩:=e5 p hp;simp only[Ag,w_,LW] at a1;rw[Cw X G a1.2.1 h1,Cw X G a1.2.2 h2];exact a1.1
 .obtain⟨a1,a2⟩:=e5 p hp;simp only[Ag,w_,LW] at a1;have a3:=a1.2.1;rw[e'] at a2 a3;rw[jQ X G (show ig K x=true from a3)] at m;cases m;exact J6 a2
end
def dNm(s:Stmt):Str:=match s with
 |.FunctionDef n ..=>n
 |_=>""
def AllD(K:Frag)(mg:Pa)(top:Nat->Stmt):List Nat->Prop
 | []=>True
 |i::l=>Def K mg (dNm (top i)) (top i)/\AllD K mg top l
theorem AllD.get{K:Frag}{mg:Pa}{top:Nat->Stmt}:∀{l:List Nat},AllD K mg top l->∀i,l.contains i=true->Def K mg (dNm (top i)) (top i)
 | [],_,i,h=>nomatch h
 |
  j::l,⟨a,b⟩,i,h=>by
  rcases G_.mp (Mg.mp h) with rfl |h
  .exact a
  .exact b.get i (Mg.mpr h)
def _root_.L2.Def.gl{K:Frag}{mg:Pa}{x:Str}{st:Stmt}(D:Def K mg x st):∃a,mg x=some (.ref a):=let ⟨f,_,_,m⟩:=D.ex;⟨f,m⟩
structure Ty(b:Tb)(top:Nat->Stmt)(ds:List Nat)(K:Frag)(mg:Pa):Prop extends Tx b K mg where
 d:AllD K mg top ds
noncomputable def scB (N P:List Str) (sc:Scope):Bool:=decide (sc.kind=.function)&&(!sc.isCoroutine&&(!sc.isGenerator&&(decide N.Nodup&&(decide (N.take P.length=P)&&(P.all (λx=>decide (sc.names.lookup x=some .local\/sc.names.lookup x=some .cell))&&sc.names.all λy=>decide (y.2 ≠ .free))))))
def ax{N P:List Str}{sc:Scope}(e:scB N P sc=true):FnScope N P sc:=by simp only[scB,w_,Nf,LQ,Nw] at e;obtain⟨e1,e2,e3,e4,e5,e6,e7⟩:=e;exact⟨e1,e2,e3,e4,e5,e6,e7⟩
def z9(K:Frag)(mg:Pa)(x:Str):Prop:=x∈kI/\(∀y∈kI,y≠x->mg y=none)/\∀f oc od fd sl,mg x=some (.ref f)->K.lookup f=some ⟨oc,od,.func fd,sl⟩->∃c P,fd.code=.ref c/\codeHdIn K c P=true
noncomputable def vZ (K:Frag) (a:Addr):Option (Addr×Addr):=match K.lookup a with
 |some ⟨_,_,.func fd,_⟩=>(match fd.code with
  |.ref c=>(match K.lookup c with
   |some ⟨_,_,.fields vs,_⟩=>(match (vs[11]?:Option Value) with
    |some (.ref P)=>if codeHdIn K c P=true then some (c,P) else none
    |_=>none)
   |_=>none)
  |_=>none)
 |_=>none
noncomputable def lamB (K:Frag) (x:Str):Bool:=kI.contains x&&(kI.all (λy=>y==x || qR K y)&&(ig K x&&(vZ K (adr K x)).isSome))
noncomputable def La (K:Frag) (ts:List Addr):Bool:=kI.all λx=>qR K x || (ig K x&&(match vZ K (adr K x) with
 |some (_,P)=>ts.contains P
 |none=>false))
noncomputable def CJ (K:Frag) (ts:List Addr):Bool:=ts.all λP=>(K.lookup P).isNone&&K.any λp=>codeHdIn K p.1 P
def uE{K:Frag}{a c P:Addr}(e:vZ K a=some (c,P)):∃oc od fd sl,K.lookup a=some ⟨oc,od,.func fd,sl⟩/\fd.code=.ref c/\codeHdIn K c P=true:=by
 unfold vZ at e;split at e
 .rename_i oc od fd sl h1;split at e
  .rename_i c' h2;split at e
   .split at e
    .split at e
     .rename_i h3;cases e;exact⟨_,_,fd,_,h1,h2,h3⟩
     .cases e
    .cases e
   .cases e
  .cases e
 .cases e
def FA{K:Frag}{c P P':Addr}(h:codeHdIn K c P=true)(h':codeHdIn K c P'=true):P=P':=by
 unfold codeHdIn at h h';split at h
 .rename_i vs hk;rw[hk] at h';simp only[w_] at h h';have a:=h.1.1.1.1.1;have b:=h'.1.1.1.1.1;split at a
  .rename_i x hx;rw[hx] at b;rw[LW] at a b;exact a.symm.trans b
  .cases a
 .cases h
section
variable{K:Frag}{h:Heap}{mg:Pa}(X:K.In h)(G:h.Ns mainGlobals mg)
include X G
def Ih{x:Str}(e:lamB K x=true):z9 K mg x:=by
 simp only[lamB,w_,LQ,Np] at e;obtain⟨e1,e2,e3,e4⟩:=e;refine⟨Mg.mp e1,λy hy hne=>?_,λf oc od fd sl m lk=>?_⟩
 .rcases e2 y hy with z |z
  .exact absurd (LW.mp z) hne
  .exact uY X G z
 .obtain⟨⟨c,P⟩,ec⟩:=MR.mp e4;obtain⟨oc',od',fd',sl',l1,l2,l3⟩:=uE ec;have m':=jQ X G e3;rw[m] at m';cases m';rw[lk] at l1;cases l1;exact⟨c,P,l2,l3⟩
def E8{ts:List Addr}(e:La K ts=true)(P:Addr)(q:Str)(l:LamT K mg P q):P∈ts:=by
 obtain⟨x,f,oc,od,fd,sl,c,a1,a2,a3,a4,a5,a6,_⟩:=l;have z:=LQ.mp e x a1;rw[Np] at z;rcases z with z |z
 .have:=uY X G z
  rw[a3] at this;cases this
 .rw[w_] at z;obtain⟨z1,z2⟩:=z;have m':=jQ X G z1;rw[a3] at m';cases m';split at z2
  .rename_i c' P' ec;obtain⟨oc',od',fd',sl',l1,l2,l3⟩:=uE ec;rw[a4] at l1;cases l1;rw[a5] at l2;cases l2;rw[FA a6 l3];exact Mg.mp z2
  .cases z2
end
def Dy{K:Frag}{ts:List Addr}{h:Heap}(e:CJ K ts=true)(a:∀P∈ts,h.get? P=some (tabObj #[])):TabsOk K ts h:=by
 simp only[CJ,LQ,w_,N7] at e;refine⟨a,λP hP=>?_,λP hP=>?_⟩
 .have:=(e P hP).1
  rw[Option.isNone_iff_eq_none] at this;exact this
 .obtain⟨p,_,q⟩:=(e P hP).2;exact⟨p.1,q⟩
structure TyL(b:Tb)(top:Nat->Stmt)(ds:List Nat)(K:Frag)(mg:Pa):Prop extends Ty b top ds K mg where
 l:z9 K mg "by_falling_weights"
section
variable{K:W.Frag}{mg:Pa}{P:Program}{w:World}{base:Heap}{fx:Str}{n_:Stmt}{k m:Nat}{ps N:List Str}{ms:List Bool}{x:PSt}
def okPL(D:Def K mg fx n_)(L:z9 K mg fx)(S:FnScope N ps (ao n_))
 (hb:∀(kV doc pm:Value) (an:Option Addr) (cdv ct:Value) (us:List Value),us.length=ps.length->bindArgs (W.fnOf fx fx (cS n_) (br n_) (ao n_) .none kV doc pm an cdv ct) ⟨us,[]⟩=pure (ps.zip us))
 (j_:N.Nodup->∀(f:Addr) (A:Around) (outer:List Env) (s:Shared) (H:Hp) (E:XK) (c T:Addr),codeHdIn K c T=true->LamT K mg T (fx ++ ".<locals>." ++ "<lambda>")->Room k (A.deeper (envOfC fx (ao n_) s.heap.objs.size f (.ref c)))->
  DSs K mg (dS (CX1 P w) P w K mg base N fx (ao n_) f (.ref c) A outer s H E) (λ_=>E) (br n_) x) (hn:ms.length=ps.length:=by rfl) (hm:N.length=m:=by rfl):Callee P w K mg base fx (k+1) ps (sp3 K mg (fnP ms m x)):=by
 subst hm;obtain⟨f,fd,Ff,mm⟩:=D.ex;have bd:=Ff.binds hb;have kp:=Ff.kp;obtain⟨oc,od,kV,doc,pm,an,cdv,ct,osl,rfl,lk,o_⟩:=Ff.ex;obtain⟨c,T,e1,e2⟩:=L.2.2 f _ _ _ _ mm lk;have e1:cdv=.ref c:=e1;subst e1;have LT:LamT K mg T (fx ++ ".<locals>." ++ "<lambda>"):=⟨fx,f,oc,od,_,osl,c,L.1,L.2.1,mm,lk,rfl,e2,rfl⟩;exact⟨f,_,CK lk o_ S (λvs H Q E sp=>by rw[<- hn];exact qH sp) λA outer s H vs Q E hr sp=>⟨_,(j_ S.nd f A outer s H E c T e2 LT hr).ok,sf sp⟩,mm,kp,bd,oc,od,osl,lk⟩
end
noncomputable def je:List Val->Bv:=λvs=>match vs with
 | [.int j,.lst us]=>match d5 us with
  |some ws=>if j=(ws.length:Nat)/\ws.length<64 then .new (.lst ((aY ws).map λi:Nat=>.int (i:Nat))) else .stuck
  |none=>.stuck
 |_=>.stuck
noncomputable def r9:PBf:=⟨je⟩
def HE(ws:List Int)(h:ws.length<64):r9.G [.int (ws.length:Nat),.lst (ws.map .int)]=.new (.lst ((aY ws).map λi:Nat=>.int (i:Nat))):=by show je [.int (ws.length:Nat),.lst (ws.map .int)]=_;unfold je;dsimp only;rw[aW];dsimp only;rw[if_pos ⟨rfl,h⟩]
section
variable{K:W.Frag}{mg:Pa}{Y N0:Addr->Prop}{ns:Ns}{e:E3}{σ:St}{H H2:Hp}{P:Addr}{q:Str}{ps:Array Value}{pos:Pos}
def KI(S:Sat K mg Y N0 ns e σ H)(g:we H H2 P q ps pos)(hT:LamT K mg P q)(hP:H P=some (.tbl ps)):Sat K mg Y N0 ns e σ H2/\Stp ns e H ns e H2:=by
 rcases g with rfl |⟨c',hc,am,rfl⟩
 .exact⟨S,.refl⟩
 .have nPc:P≠c':=bJ hP hc;have at_:∀b,b≠P->b≠c'->upd (upd H P (.tbl (ps++#[rawInt pos.line,rawInt pos.col,.ref c']))) c' (.ext (fj c' q)) b=H b:=λb n1 n2=>by rw[aB n2,aB n1]
  have atP:upd (upd H P (.tbl (ps++#[rawInt pos.line,rawInt pos.col,.ref c']))) c' (.ext (fj c' q)) P=some (.tbl (ps++#[rawInt pos.line,rawInt pos.col,.ref c'])):=by rw[aB nPc,aR]
  have nc:∀b u,H b=some u->b≠c':=λb u e=>bJ e hc;have kp:∀b u,H b=some u->nu u->upd (upd H P (.tbl (ps++#[rawInt pos.line,rawInt pos.col,.ref c']))) c' (.ext (fj c' q)) b=some u:=λb u e n=>by rw[at_ b (λz=>by rw[z,hP] at e;cases e;exact n _ rfl) (nc b _ e)];exact e
  have l:LeH H (upd (upd H P (.tbl (ps++#[rawInt pos.line,rawInt pos.col,.ref c']))) c' (.ext (fj c' q))):=⟨λb xs e=>kp b _ e λ_ z=>(nomatch z),λb o u e=>kp b _ e λ_ z=>(nomatch z),λb φ e=>kp b _ e λ_ z=>(nomatch z)⟩;have dom:∀a,upd (upd H P (.tbl (ps++#[rawInt pos.line,rawInt pos.col,.ref c']))) c' (.ext (fj c' q)) a=none->H a=none:=λa z=>by
   by_cases z1:a=c'
   .subst z1;exact hc
   .by_cases z2:a=P
    .subst z2;rw[atP] at z;cases z
    .rw[at_ a z2 z1] at z;exact z
  have mv:Mov (Oc Y ns) (Oc Y ns) H (upd (upd H P (.tbl (ps++#[rawInt pos.line,rawInt pos.col,.ref c']))) c' (.ext (fj c' q))):=⟨l,λa o p e n=>⟨p,kp a o e n⟩⟩;refine⟨⟨S.l1,S.l2,λa z=>S.lh a (dom a z),λa z=>?_,S.inj,S.nx,λi s qi=>(S.sl i s qi).mono mv λj o _ e f=>kp j o e f.nt,λP' q' l'=>?_⟩,⟨l,dom,λm o e n _=>kp m o e n,λ_ _ q=>.inl q,λ_ _ q _=>⟨q,rfl⟩,λ_ _ q _=>⟨q,rfl⟩,λ_ _ q=>⟨_,q,rfl⟩,λ_ _ q=>⟨_,q,rfl⟩⟩⟩
  .obtain⟨o,z⟩:=S.xl a z;cases y:upd (upd H P (.tbl (ps++#[rawInt pos.line,rawInt pos.col,.ref c']))) c' (.ext (fj c' q)) a with
   |none=>rw[dom a y] at z;cases z
   |some u=>exact⟨u,rfl⟩
  .obtain⟨⟨ps',t2,t3,t4⟩,bm⟩:=S.bs P' q' l';refine⟨?_,CV bm l⟩;have eq:=hT.one l';by_cases z:P'=P
   .subst z;rw[hP] at t2;cases t2;refine⟨_,atP,?_,λl_ cv e=>?_⟩
    .rw[Array.toList_append];exact TriplesOk_snoc _ _ _ _ t3
    .rw[Array.toList_append] at e;rcases ve _ t3 e with z |rfl
     .obtain⟨c,e1,e2⟩:=t4 l_ cv z;exact⟨c,e1,l.ext _ _ e2⟩
     .exact⟨c',rfl,by rw[aR,eq]⟩
   .exact⟨ps',by rw[at_ P' z (nc P' _ t2)];exact t2,t3,λl_ cv e=>by obtain⟨c,e1,e2⟩:=t4 l_ cv e;exact⟨c,e1,l.ext _ _ e2⟩⟩
variable{X:Cx}{ES:St->XK}{a:Expr}{p:PEx}{iW:Nat}{c:Addr}{q1 q2 q6 q7 q8 q9 p0 p1 p2 p3 p4 p5 p6:Pos}
def El(hc:X.calm=true)(hdp:X.A.depth<recursionLimit)(hl:Gl X "sorted")(hml:mg "sorted"=none)(hg:Gl X "range")(hm:mg "range"=none)(hN:X.N[iW]?=some "weights")(hv:X.env.scope.names.lookup ("weights" : Str)=some .cell)(o_:X.env.code=.ref c)(hh:W.codeHdIn K c P=true)(hT:LamT K mg P (X.env.qual ++ "<lambda>"))(ha:DE K mg X ES a p)(hK:X.K=K:=by rfl)(hk:X.mg=mg:=by rfl)(hs:starEach [a] X.env=[(false,eval a X.env)]:=by rfl):
 DE K mg X ES (.Call (.Name "sorted" q1) [.Call (.Name "range" q2) [a] [] q6] [⟨some "key",.Lambda (eF p0) (dJ p1 p2 p3 p4 p5 p6) aS q7,q8⟩] q9) (pFn r9 (aa p (aa (af iW) ag))):=by
 subst hK hk;refine⟨PE.imp (EV hc hdp hl hml hg hm (bP ha yb hs).ok hN hv o_ hh hs) λσ H Q zz=>zz.el λY N0 L ns e S hL p3=>⟨Y,N0,ns,e,S,?_⟩⟩;replace p3:PG3 X.K X.mg Y N0 ns e σ H (ES σ) (KE X.K X.mg Y N0 L σ Q) ((lG p.G (lG (dU iW) m5) e).bind λts e1=>match rss e1 ts with
  |some vs=>(je vs).at e1
  |none=>.stuck):=p3
 show PG3 X.K X.mg Y N0 ns e σ H (ES σ) _ (lG p.G m5 e);unfold lG at p3 ⊢;cases q0:p.G e with
 |stuck=>rw[q0] at p3;exact p3.elim
 |exc c e'=>rw[q0] at p3;exact p3
 |
  ok t e1=>
  rw[q0] at p3;intro H1 ns1 a1 S1 vs rts;replace p3:PG3 X.K X.mg Y N0 ns e σ H (ES σ) (KE X.K X.mg Y N0 L σ Q) (((dU iW e1).bind λt2 e2=>.ok (t.drop::[t2.drop]) e2).bind λts e1=>match rss e1 ts with
   |some vs=>(je vs).at e1
   |none=>.stuck):=by
   refine Eq.mp ?_ p3;congr 1;show (R3.bind (R3.bind (R3.bind (dU iW e1) _) _) _)=_;cases dU iW e1 <;> rfl
  have d_:∀t2,dU iW e1=.ok t2 e1->(∀v,rs e1 t2.drop=some v->∃d,σ[iW]?=some (some d)/\ShR X.K X.mg (Oc Y ns1) H1 d v)->u5 X.K X.mg P (X.env.qual ++ "<lambda>") q7 σ[iW]? vs H1 Q:=λt2 e2 hd=>by
   rw[e2] at p3;replace p3:PG3 X.K X.mg Y N0 ns e σ H (ES σ) (KE X.K X.mg Y N0 L σ Q) (match rss e1 [t.drop,t2.drop] with
    |some vs=>(je vs).at e1
    |none=>.stuck):=p3
   unfold rss at p3;split at p3
   .rename_i vs' hvs;split at hvs
    .rename_i v1 vr hv1 hvr;cases hvs;unfold rss at hvr;split at hvr
     .rename_i v2 vr2 hv2 hvr2;cases hvr;cases hvr2;obtain⟨d,sd,rd⟩:=hd v2 hv2;have r1:=TsR.sh (ts:=[t.drop]) (vs:=[v1]) S1 rts (by unfold rss;rw[hv1];rfl);obtain⟨x,rfl,rx⟩:=cP r1;unfold je at p3;split at p3
      .rename_i j us he;cases he;split at p3
       .rename_i ws hws;split at p3
        .rename_i hb;obtain rfl:=rx.int;obtain⟨b,ds,rfl,h,qq⟩:=rd.lst;obtain rfl:=jJ qq hws;obtain⟨⟨ps,t2,t3,t4⟩,bm⟩:=S1.bs P _ hT;refine⟨b,ws,ps,by rw[hb.1],sd,SqL.of h,hb.2,t2,t3,t4,bm,λH2 l g hl2=>?_⟩;obtain⟨S2,a2⟩:=KI S1 g hT t2;exact PG3.bv (b:=.new (.lst ((aY ws).map λi:Nat=>.int (i:Nat)))) (p3.after S (a1.trans S a2)) S2 (λa z=>hL a (a1.dom a (a2.dom a z))) H2 l _ .refl hl2 trivial (.lst (j0 _))
        .exact p3.elim
       .exact p3.elim
      .exact p3.elim
     .cases hvr
    .cases hvs
   .exact p3.elim
  unfold dU at p3;cases q1:e1[iW]? with
  |none=>rw[q1] at p3;exact p3.elim
  |
   some s=>
   have fb:∀u,s.val=some u->(∀v,s ≠ .sh v)->u5 X.K X.mg P (X.env.qual ++ "<lambda>") q7 σ[iW]? vs H1 Q:=λu hu hn=>d_ (.bor iW) (by
    unfold dU;rw[q1];cases s <;> first |rfl |cases hu;done |exact absurd rfl (hn _)) λv hv=>by
    have y:=S1.sl iW s q1;have:∃x,σ[iW]?=some (some x):=by
     cases s with
     |no=>cases hu
     |sh v=>exact absurd rfl (hn v)
     |ow v=>obtain⟨m,_,_,y,_⟩:=y;exact⟨_,y⟩
     |lo v=>obtain⟨m,_,_,y,_⟩:=y;exact⟨_,y⟩
     |mu v=>obtain⟨m,_,_,y,_⟩:=y;exact⟨_,y⟩
     |lm v=>obtain⟨m,_,_,y,_⟩:=y;exact⟨_,y⟩
    obtain⟨x,hx⟩:=this;exact⟨x,hx,S1.bor hx hv⟩
   cases s with
   |no=>rw[q1] at p3;exact p3.elim
   |sh v=>exact d_ (.val v) (by unfold dU;rw[q1]) λu hu=>by cases hu;obtain⟨_,x,e1,r⟩:=S1.sl iW _ q1;exact⟨x,e1,.inl r⟩
   |ow v=>exact fb v rfl λ_ z=>nomatch z
   |lo v=>exact fb v rfl λ_ z=>nomatch z
   |mu v=>exact fb v rfl λ_ z=>nomatch z
   |lm v=>exact fb v rfl λ_ z=>nomatch z
end
def JQ{P:Program}{w:World}{K:W.Frag}{mg:Pa}{base:Heap}{x y:Str}{k:Nat}{ts:List Addr}(p:PFn)(C:Callee P w K mg base x k [y] (sp3 K mg p))(hT:∀P q,LamT K mg P q->P∈ts)(hm:p.ms=[false])(hG:∀ns:List Int,ns.length<=63->p.G [.kl (ns.map .int)]=.ok (.val (.bl true)) []):
 Callee P w K mg base x k [y] (spT K mg ts):=C.imp λvs H Q E ⟨a,ns,e,hO,hq,hl,ht,hB,q⟩=>by
 subst e;refine⟨λ_=>False,[none],[.kl (ns.map .int)],by rw[hm];rfl,?_,?_⟩
 .rw[hm];have rd:Rd K mg (Oc (λ_=>False) [none]) H (.ref a) (.kl (ns.map .int)):=by
   rcases hq with (hq |⟨o,hq⟩) |hq
   .rcases hO a with z |⟨o,xs,z⟩ |z <;> rw[hq] at z <;> cases z
   .exact .cell ⟨λz=>z,by simp⟩ hq (.fz (ir ns))
   .exact .kl hq (ir ns)
  refine⟨rfl,rfl,λ_ z=>z,λ_ z=>z.elim,λi j n q=>?_,λi n q z=>z,λi s q=>?_,λP q l=>⟨⟨#[],ht P (hT P q l),trivial,λpos cv z=>by cases z⟩,hB⟩⟩
  .cases i with
   |zero=>simp at q
   |succ i=>simp at q
  .cases i with
   |
    zero=>
    have:sl1 false (.kl (ns.map .int))=s:=by simpa [sls] using q
    subst this;exact⟨rfl,_,rfl,rd⟩
   |succ i=>simp [sls] at q
 .rw[hG ns hl];intro x H' _ rr;rw[ShR.bl (.inl rr.2)];exact q H'
def jI(xs:List Val)(n:Nat):gk xs none (some (n:Int))=xs.take n:=by
 unfold gk;rw[HT.sIx_none,HT.sIx_nat,List.drop_zero,Nat.sub_zero];by_cases h:n<=xs.length
 .rw[Om h]
 .rw[Nat.min_eq_right (by omega),Mq (v_ _),Mq (by omega)]
def gE(xs:List Val)(n:Nat):gk xs (some (n:Int)) none=xs.drop n:=by
 unfold gk;rw[HT.sIx_none,HT.sIx_nat];by_cases h:n<=xs.length
 .rw[Om h,Mq (by rw[LR];exact v_ _)]
 .rw[Nat.min_eq_right (by omega),List.drop_of_length_le (v_ _),List.drop_of_length_le (by omega),N4]
def gv(xs:List Val)(lo hi:Option Int):aSl (.lst xs) lo hi=.new (.lst (gk xs lo hi)):=rfl
@[irreducible] def gtX(a:PGt):PGt:=a
def g_x(a:PGt)(v:Val)(e:E3):(gtX a).G v e=a.G v e:=by unfold gtX;rfl
def ZG.weak{K:W.Frag}{mg:Pa}{X:Cx}{e:PySem.Expr}{g:PGt}(h:DG K mg X e g):DG K mg X e (gtX g):=by unfold gtX;exact h
theorem ni{g:MG3}{B:MS3}(P:Nat->E3->Prop):∀(vs:List Val) (i:Nat) (e:E3),P i e->(∀j v,vs[j]?=some v->∀e,P (i+j) e->∃e1 e2,g v e=some e1/\(B e1=.nx e2\/B e1=.ct e2)/\P (i+j+1) e2)->∃e',P (i+vs.length) e'/\dk g B vs e=.nx e'
 | [],i,e,p,_=>⟨e,p,rfl⟩
 |
  v::vs,i,e,p,hs=>by
  obtain⟨e1,e2,q1,q2,q3⟩:=hs 0 v rfl e p;obtain⟨e',p',q4⟩:=ni P vs (i+1) e2 q3 λj u hu=>by
   have:=hs (j+1) u hu
   rw[show i+(j+1)=i+1+j by omega] at this;exact this
  refine⟨e',by rw[Em,show i+(vs.length+1)=i+1+vs.length by omega];exact p',?_⟩;rw[c8,q1];rcases q2 with q2 |q2
  .simp only[q2,j5];exact q4
  .simp only[q2,KR];exact q4
noncomputable def nD:Val->List Val->Option (Val×Val):=λu vs=>match u,vs with
 |.lst xs,[.int i,v]=>if 0<=i/\i<=(xs.length:Nat)/\xs.length<16777216 then some (.lst (xs.take i.toNat++v::xs.drop i.toNat),.non) else none
 |_,_=>none
noncomputable def kN:PMm:=⟨nD⟩
def Af(xs:List Val)(i:Int)(v:Val):kN.G (.lst xs) [.int i,v]=if 0<=i/\i<=(xs.length:Nat)/\xs.length<16777216 then some (.lst (xs.take i.toNat++v::xs.drop i.toNat),.non) else none:=rfl
noncomputable def iE:List Val->Bv:=λvs=>match vs with
 | [.lst us]=>match d5 us with
  |some ns=>if ns.length<64 then .new (.lst ((srI ns).map .int)) else .stuck
  |none=>.stuck
 |_=>.stuck
noncomputable def iX:PBf:=⟨iE⟩
def zI(ns:List Int)(h:ns.length<64):iX.G [.lst (ns.map .int)]=.new (.lst ((srI ns).map .int)):=by show iE [.lst (ns.map .int)]=_;unfold iE;dsimp only;rw[aW];dsimp only;rw[if_pos h]
section
variable{K:W.Frag}{mg:Pa}
def yC:MmD K mg tV kN.G:=λP H n o u ds vs u' v Q np e hf r0 rs q k=>by
 replace q:nD u vs=some (u',v):=q;unfold nD at q;split at q
 .split at q
  .rename_i hb;cases q;obtain⟨xs,rfl,r⟩:=jz r0;cases rs with
   |cons r1 rs=>obtain⟨d,rfl,rd⟩:=vD rs;obtain rfl:=ShR.int (.inl r1);exact⟨n,xs,_,d,rfl,rfl,e,hb.1,by rw[r.len];exact hb.2.1,by rw[r.len];exact hb.2.2,k _ _ trivial (.lst ((r.take _).append (.cons rd (r.drop _)))) .non⟩
  .cases q
 .cases q
def wY:bO K mg uV iX.G:=λP H xs vs Q r0 p=>by
 replace p:BvP K mg P H Q (iE vs):=p;unfold iE at p;split at p
 .obtain⟨d,rfl,r⟩:=cP r0;obtain⟨a,ys,rfl,h,q⟩:=r.lst;split at p
  .rename_i bs e;split at p
   .rename_i hb;exact⟨a,bs,rfl,jJ q e ▸ h,hb,bvL p (ir _)⟩
   .exact p.elim
  .exact p.elim
 .exact p.elim
end
end L3
namespace Wb
open L2
noncomputable def lc (qs:List Rat) (c:Nat):Nat:=qs.foldl (λc q=>Nat.lcm c q.den) c
noncomputable def wh (L:Nat) (qs:List Rat):List Int:=qs.map λq=>q.num*((L/q.den:Nat):Int)
noncomputable def ws (qs:List Rat):List Int:=wh (lc qs 1) qs
end Wb
namespace L3
open PySem L2
noncomputable def aq (b:Bx):Rat:=if b.w<b.h then b.h/b.w else b.w/b.h
noncomputable def shL (s l:Rat) (W:Int):Int->List Int->List (Rat×Rat)
 |_,[]=>[]
 |a,w::ws=>(s+l*((a:Rat)/(W:Rat)),l*((w:Rat)/(W:Rat)))::shL s l W (a+w) ws
theorem iD(s l:Rat)(W:Int):∀(ws:List Int) (a:Int),(shL s l W a ws).length=ws.length
 | [],_=>rfl
 |w::ws,a=>by unfold shL;rw[Em,Em,iD s l W ws (a+w)]
noncomputable def ay (b:Bx) (way:Str) (ws:List Int):List Bx:=if way="across" then (shL b.l b.w ws.sum 0 ws).map λp=>⟨p.1,b.t,p.2,b.h⟩ else (shL b.t b.h ws.sum 0 ws).map λp=>⟨b.l,p.1,b.w,p.2⟩
theorem bN:∀{l:List Int},(∀w∈l,1<=w)->(l.length:Int)<=l.sum
 | [],_=>by simp
 |
  x::l,h=>by
  rw[LO,Em]
  have:=h x (s_ ..)
  have:=bN (l:=l) λw hw=>h w (r_ _ hw)
  omega
theorem uB:∀(ws:List Int) (a:Int),0<=a->(∀w∈ws,1<=w)->a+ws.sum<=W->p∈shL s l W a ws->∃a' w:Int,0<=a'/\a'<=W/\1<=w/\w<=W/\p=(s+l*((a':Rat)/(W:Rat)),l*((w:Rat)/(W:Rat)))
 | [],_,_,_,_,h=>nomatch h
 |
  w::ws,a,ha,hw,hs,h=>by
  have h1:=hw w (s_ ..);have h2:=bN (l:=ws) λx hx=>hw x (r_ _ hx);rw[LO] at hs;unfold shL at h;rcases G_.mp h with rfl |h
  .exact⟨a,w,ha,by omega,h1,by omega,rfl⟩
  .exact uB ws (a+w) (by omega) (λx hx=>hw x (r_ _ hx)) (by omega) h
noncomputable def liV (l:List Int):Val:=.lst (l.map .int)
noncomputable def wsAt (ws:List Int) (i:Int):Int:=ws.getD i.toNat 0
noncomputable def wt (ws l:List Int):Int:=(l.map (wsAt ws)).sum
noncomputable def mx (x y:Rat):Rat:=if x<y then y else x
open PySem PySem.Spec PyProof.Rows L2
inductive AT where
 |lf (k:Nat)
 |nd (w:Bool) (ts:List AT)
noncomputable def wy (w:Bool):Str:=if w=true then "across" else "down"
def AT.ind{P:AT->Prop}(h1:∀k,P (.lf k))(h2:∀w ts,(∀t∈ts,P t)->P (.nd w ts))(t:AT):P t:=
 @AT.rec P (λts=>∀t∈ts,P t) h1 (λw ts ih=>h2 w ts ih) (λt h=>nomatch h) (λt ts i1 i2 u hu=>by
  rcases G_.mp hu with rfl |hu
  .exact i1
  .exact i2 u hu) t
mutual
def AT.val(f:Nat->Val):AT->Val
 |.lf k=>f k
 |.nd w ts=>.tup [.str (wy w),.tup (AT.vals f ts)]
def AT.vals(f:Nat->Val):List AT->List Val
 | []=>[]
 |t::ts=>AT.val f t::AT.vals f ts
end
mutual
def AT.lvs:AT->List Nat
 |.lf k=>[k]
 |.nd _ ts=>AT.lvsL ts
def AT.lvsL:List AT->List Nat
 | []=>[]
 |t::ts=>AT.lvs t++AT.lvsL ts
end
mutual
def AT.dep:AT->Nat
 |.lf _=>1
 |.nd _ ts=>AT.depL ts+1
def AT.depL:List AT->Nat
 | []=>0
 |t::ts=>max (AT.dep t) (AT.depL ts)
end
mutual
def AT.ok:AT->Bool
 |.lf _=>true
 |.nd _ ts=>decide (2<=ts.length)&&AT.okL ts
def AT.okL:List AT->Bool
 | []=>true
 |t::ts=>AT.ok t&&AT.okL ts
end
theorem AT.vals_map(f:Nat->Val):∀ts,AT.vals f ts=ts.map (AT.val f)
 | []=>rfl
 |t::ts=>by rw[AT.vals,AT.vals_map f ts];rfl
theorem AT.lvsL_mem:∀{ts:List AT},x∈AT.lvsL ts ↔ ∃t∈ts,x∈t.lvs
 | []=>by simp [AT.lvsL]
 |t::ts=>by rw[AT.lvsL,Mm,AT.lvsL_mem (ts:=ts)];simp
theorem AT.lvsL_flat:∀ts:List AT,AT.lvsL ts=(ts.map AT.lvs).flatten
 | []=>rfl
 |t::ts=>by rw[AT.lvsL,AT.lvsL_flat ts];rfl
theorem AT.depL_le:∀{ts:List AT},AT.depL ts<=m ↔ ∀t∈ts,t.dep<=m
 | []=>by simp [AT.depL]
 |t::ts=>by rw[AT.depL,Nat.max_le,AT.depL_le (ts:=ts)];simp
theorem AT.okL_mem:∀{ts:List AT},AT.okL ts=true ↔ ∀t∈ts,t.ok=true
 | []=>by simp [AT.okL]
 |t::ts=>by rw[AT.okL,w_,AT.okL_mem (ts:=ts)];simp
noncomputable def wd (w b:Bool):Str:=if w=true then (if b=true then "left" else "right") else (if b=true then "above" else "below")
def tZ{t:AT}(h:t.ok=true):1<=t.lvs.length:=by
 induction t using AT.ind with
 |h1 k=>simp [AT.lvs]
 |
  h2 w ts ih=>
  rw[AT.ok,w_] at h;cases ts with
  |nil=>exact absurd h.1 (by decide)
  |
   cons t ts=>
   have:=ih t (s_ ..) (AT.okL_mem.mp h.2 t (s_ ..))
   rw[AT.lvs,AT.lvsL,I_];omega
theorem rX{α β:Type}{f:α->List β}:∀{l:List α},(∀a∈l,1<=(f a).length)->l.length<=((l.map f).flatten).length
 | [],_=>v_ _
 |
  a::l,h=>by
  have h1:=h a (s_ ..);have h2:=rX (l:=l) λb hb=>h b (r_ _ hb);rw[u_,List.flatten_cons,I_,Em];omega
noncomputable def lfV:Val->Bool
 |.int _=>true
 |.str _=>true
 |_=>false
def wH(v:Val)(l:List Val):atI (v::l) 0=some v:=dm (by decide) rfl
noncomputable def inB (x:Nat) (t:AT):Bool:=decide (x∈t.lvs)
noncomputable def itV (l:List Nat):Val:=.lst (l.map λk:Nat=>.int k)
structure TOk(t:AT)(l:List Nat):Prop where
 ok:t.ok=true
 mem:∀k,k∈t.lvs ↔ k∈l
 dep:t.dep<=l.length
 len:t.lvs.length=l.length
noncomputable def atV (t:AT):Val:=t.val λk=>.int (k:Nat)
mutual
def AT.cnt:AT->Nat
 |.lf _=>1
 |.nd _ ts=>AT.cntL ts+1
def AT.cntL:List AT->Nat
 | []=>0
 |t::ts=>AT.cnt t+AT.cntL ts
end
theorem AT.cntL_app:∀(a b:List AT),AT.cntL (a++b)=AT.cntL a+AT.cntL b
 | [],b=>by simp [AT.cntL]
 |t::a,b=>by rw[N8,AT.cntL,AT.cntL,AT.cntL_app a b];omega
theorem AT.lvsL_app:∀(a b:List AT),AT.lvsL (a++b)=AT.lvsL a++AT.lvsL b
 | [],b=>by simp [AT.lvsL]
 |t::a,b=>by rw[N8,AT.lvsL,AT.lvsL,AT.lvsL_app a b,MU]
def jG(xs:List Val)(x:Val):lV.G (.lst (xs++[x])) []=some (.lst xs,x):=by show qG (.lst (xs++[x])) []=_;unfold qG;dsimp only;rw[I_,M_,Nat.add_sub_cancel,Nd (v_ _),Nat.sub_self,List.dropLast_concat];rfl
theorem AT.cnt_le:∀{ts:List AT}{t:AT},t∈ts->t.cnt<=AT.cntL ts
 | [],t,h=>nomatch h
 |
  u::ts,t,h=>by
  rw[AT.cntL];rcases G_.mp h with rfl |h
  .omega
  .have:=AT.cnt_le h;omega
def AT.lvs_le(h:t∈ts):t.lvs.length<=(AT.lvsL ts).length:=by rw[AT.lvsL_flat];exact List.Sublist.length_le (List.sublist_flatten_of_mem (Nj (f:=AT.lvs) h))
noncomputable def wtA (ws:List Int) (l:List Nat):Int:=(l.map λk=>ws.getD k 0).sum
noncomputable def wtT (ws:List Int) (t:AT):Int:=wtA ws t.lvs
mutual
def AT.bx(ws:List Int):AT->Bx->List (Nat×Bx)
 |.lf k,b=>[(k,b)]
 |.nd w ts,b=>AT.bxL ws ts (ay b (wy w) (ts.map (wtT ws)))
def AT.bxL(ws:List Int):List AT->List Bx->List (Nat×Bx)
 |t::ts,b::bs=>AT.bx ws t b++AT.bxL ws ts bs
 |_,_=>[]
end
mutual
def AT.lay(ws:List Int)(n m:Nat):AT->Bx->Prop
 |.lf _,b=>b.Ok/\b.Sz n
 |.nd w ts,b=>b.Ok/\b.Sz n/\ts≠[]/\ts.length<=40/\(∀t∈ts,1<=wtT ws t)/\Sm m (ts.map (wtT ws)).sum/\AT.layL ws n m ts (ay b (wy w) (ts.map (wtT ws)))
def AT.layL(ws:List Int)(n m:Nat):List AT->List Bx->Prop
 |t::ts,b::bs=>AT.lay ws n m t b/\AT.layL ws n m ts bs
 |_,_=>True
end
noncomputable def cM (kvs:List (Key×Val)) (l:List (Nat×Bx)):List (Key×Val):=l.foldl (λkvs p=>eg kvs (.inl (p.1:Nat)) (bV p.2)) kvs
def Bm(kvs:List (Key×Val))(a b:List (Nat×Bx)):cM kvs (a++b)=cM (cM kvs a) b:=by unfold cM;rw[List.foldl_append]
def zy(h:a.Perm b):wtA ws a=wtA ws b:=by
 unfold wtA;induction h with
 |nil=>rfl
 |cons x _ ih=>rw[u_,u_,LO,LO,ih]
 |swap x y l=>simp only[u_,LO];omega
 |trans _ _ h1 h2=>rw[h1,h2]
theorem rB(ws:List Int):∀ts:List AT,wtA ws (AT.lvsL ts)=(ts.map (wtT ws)).sum
 | []=>rfl
 |
  t::ts=>by
  rw[AT.lvsL,u_,LO,<- rB ws ts];unfold wtT wtA;rw[L_,MP]
def Ar(kvs:List (Key×Val))(k:Key)(v:Val):(eg kvs k v).length<=kvs.length+1:=by
 unfold eg;split
 .rw[q_];omega
 .rw[I_];exact v_ _
theorem sx:∀(l:List (Nat×Bx)) (kvs:List (Key×Val)),(cM kvs l).length<=kvs.length+l.length
 | [],kvs=>v_ _
 |
  p::l,kvs=>by
  have h1:=Ar kvs (.inl (p.1:Nat)) (bV p.2);have h2:=sx l (eg kvs (.inl (p.1:Nat)) (bV p.2));unfold cM at h2 ⊢;rw[List.foldl_cons,Em];omega
def AT.bx_fst(ws:List Int)(t:AT):∀b,(AT.bx ws t b).length<=t.lvs.length/\∀p∈AT.bx ws t b,p.1∈t.lvs:=by
 induction t using AT.ind with
 |h1 k=>intro b;simp [AT.bx,AT.lvs]
 |
  h2 w ts ih=>
  intro b;rw[AT.bx,AT.lvs];generalize ay b (wy w) (ts.map (wtT ws))=bs;induction ts generalizing bs with
  |nil=>simp [AT.bxL]
  |
   cons t ts ih2=>
   cases bs with
   |nil=>simp [AT.bxL]
   |
    cons b bs=>
    obtain⟨h1,h2⟩:=ih t (s_ ..) b;obtain⟨h3,h4⟩:=ih2 (λu hu=>ih u (r_ _ hu)) bs;rw[AT.bxL,AT.lvsL,I_,I_];refine⟨by omega,λp hp=>?_⟩;rcases Mm.mp hp with hp |hp
    .exact My _ (h2 p hp)
    .exact LJ _ (h4 p hp)
def zk(kvs:List (Key×Val))(k k':Key)(v:Val):lkD (eg kvs k v) k'=if k=k' then some v else lkD kvs k':=by
 unfold eg;induction kvs with
 |
  nil=>
  rw[if_neg (by simp)];unfold lkD;by_cases h:k=k'
  .simp [h]
  .simp [h]
 |
  cons p kvs ih=>
  obtain⟨pk,pv⟩:=p;by_cases hp:pk=k
  .subst
    hp
   rw[if_pos (by simp)];by_cases h:pk=k'
   .subst h;simp [lkD]
   .rw[if_neg h];rw[if_neg h] at ih;simp only[u_,NG];unfold lkD;simp only[Ml,H_ h];by_cases ha:(kvs.any λkv=>decide (kv.1=pk))=true
    .rw[if_pos ha] at ih;unfold lkD at ih;exact ih
    .have:(kvs.map λkv=>if kv.1=pk then (kv.1,v) else kv)=kvs:=by
      conv=>rhs;rw[<- List.map_id kvs]
      refine List.map_congr_left λq hq=>?_;rw[if_neg]
      .rfl
      .intro z;exact ha (N7.mpr ⟨q,hq,K_ z⟩)
     rw[this]
  .by_cases ha:(kvs.any λkv=>decide (kv.1=k))=true
   .rw[if_pos ha] at ih;rw[if_pos (by rw[Mw,ha,Bool.or_true])];simp only[u_,if_neg hp];by_cases h:pk=k'
    .subst h;rw[if_neg (λz=>hp z.symm)];simp [lkD]
    .unfold lkD at ih ⊢;simp only[Ml,H_ h];exact ih
   .rw[if_neg ha] at ih;rw[if_neg (by rw[Mw,H_ hp,Bool.false_or];exact ha)];rw[N8];by_cases h:pk=k'
    .subst h;rw[if_neg (λz=>hp z.symm)];simp [lkD]
    .unfold lkD at ih ⊢;simp only[Ml,H_ h];exact ih
noncomputable def bxO (l:List (Nat×Bx)) (k:Nat):Bx:=((l.find? λp=>p.1==k).map (·.2)).getD ⟨0,0,0,0⟩
theorem uv:∀(l:List (Nat×Bx)) (kvs:List (Key×Val)),(l.map (·.1)).Nodup->(k∈l.map (·.1)->lkD (cM kvs l) (.inl (k:Nat))=some (bV (bxO l k)))/\(k∉l.map (·.1)->lkD (cM kvs l) (.inl (k:Nat))=lkD kvs (.inl (k:Nat)))
 | [],kvs,_=>⟨(λh=>nomatch h),λ_=>rfl⟩
 |
  p::l,kvs,nd=>by
  rw[u_,Nt] at nd;obtain⟨h1,h2⟩:=uv (k:=k) l (eg kvs (.inl (p.1:Nat)) (bV p.2)) nd.2;have e:cM kvs (p::l)=cM (eg kvs (.inl (p.1:Nat)) (bV p.2)) l:=rfl;rw[e];by_cases hp:p.1=k
  .have hk:k∉l.map (·.1):=hp ▸ nd.1;rw[h2 hk,zk,if_pos (by rw[hp])];refine⟨λ_=>?_,λz=>absurd (by rw[u_,hp];exact s_ ..) z⟩;unfold bxO;rw[Ml];simp [hp]
  .have hk:k∈(p::l).map (·.1) ↔ k∈l.map (·.1):=by rw[u_,G_];exact⟨λz=>z.resolve_left (λy=>hp y.symm),.inr⟩
   have hb:bxO (p::l) k=bxO l k:=by unfold bxO;rw[NZ (by simpa using hp)]
   rw[hk,hb];refine⟨h1,λz=>?_⟩;rw[h2 z,zk,if_neg];intro y;injection y with y;exact hp (Int.ofNat.inj y)
def jL(b:Bx)(way:Str)(ws:List Int):(ay b way ws).length=ws.length:=by unfold ay;split <;> rw[q_,iD]
def AT.bx_keys(ws:List Int)(t:AT):∀b,(AT.bx ws t b).map (·.1)=t.lvs:=by
 induction t using AT.ind with
 |h1 k=>intro b;rw[AT.bx,AT.lvs];rfl
 |
  h2 w ts ih=>
  intro b;rw[AT.bx,AT.lvs];have hl:(ay b (wy w) (ts.map (wtT ws))).length=ts.length:=by rw[jL,q_]
  generalize ay b (wy w) (ts.map (wtT ws))=bs at *;induction ts generalizing bs with
  |nil=>cases bs <;> rfl
  |
   cons t ts ih2=>
   cases bs with
   |nil=>exact nomatch hl
   |cons b bs=>rw[AT.bxL,AT.lvsL,L_,ih t (s_ ..) b,ih2 (λu hu=>ih u (r_ _ hu)) bs (by simpa using hl)]
def AT.cnt_lvs(t:AT)(h:t.ok=true):t.cnt+1<=2*t.lvs.length:=by
 induction t using AT.ind with
 |h1 k=>simp [AT.cnt,AT.lvs]
 |
  h2 w ts ih=>
  rw[AT.ok,w_] at h;have hk:=AT.okL_mem.mp h.2;have h2:2<=ts.length:=NA h.1;rw[AT.cnt,AT.lvs];have:∀ts:List AT,(∀t∈ts,t.cnt+1<=2*t.lvs.length)->AT.cntL ts+ts.length<=2*(AT.lvsL ts).length:=by
   intro ts;induction ts with
   |nil=>intro _;simp [AT.cntL,AT.lvsL]
   |cons t ts ih=>intro h;have h1:=h t (s_ ..);have h2:=ih λu hu=>h u (r_ _ hu);rw[AT.cntL,AT.lvsL,I_,Em];omega
  have:=this ts λt ht=>ih t ht (hk t ht)
  omega
structure Rp(D A B:Nat)(b:Bx):Prop where
 pos:0<D
 l:∃z:Int,b.l=(z:Rat)/((D:Int):Rat)/\z.natAbs<=A*D
 t:∃z:Int,b.t=(z:Rat)/((D:Int):Rat)/\z.natAbs<=A*D
 w:∃z:Int,b.w=(z:Rat)/((D:Int):Rat)/\0<z/\z<=B*D
 h:∃z:Int,b.h=(z:Rat)/((D:Int):Rat)/\0<z/\z<=B*D
def K9(x y a D W:Rat)(h1:D≠0)(h2:W≠0):x/D+(y/D)*(a/W)=(x*W+y*a)/(D*W):=by grind
def Jj(y a D W:Rat)(h1:D≠0)(h2:W≠0):(y/D)*(a/W)=(y*a)/(D*W):=by grind
def Ka(y D W:Rat)(h1:D≠0)(h2:W≠0):y/D=(y*W)/(D*W):=by grind
def jM{z:Int}(h:z≠0):(z:Rat)≠0:=λe=>h (Rat.intCast_inj.mp e)
def CI{x y a W:Int}{D A B:Nat}(hD:0<D)(hx:x.natAbs<=A*D)(hy:0<y/\y<=B*D)(ha:0<=a/\a<=W)(hW:0<W):∃z:Int,(x:Rat)/((D:Int):Rat)+((y:Rat)/((D:Int):Rat))*((a:Rat)/(W:Rat))=(z:Rat)/(((D*W.toNat:Nat):Int):Rat)/\z.natAbs<=(A+B)*(D*W.toNat):=by
 obtain⟨V,rfl⟩:∃V:Nat,W=V:=⟨W.toNat,by omega⟩;refine⟨x*V+y*a,?_,?_⟩
 .rw[K9 _ _ _ _ _ (jM (by omega)) (jM (by omega))];congr 1
  .rw[Oo,Mf,Mf]
  .rw[Mh,M7,Mf]
 .rw[Mh];have h1:(x*(V:Int)).natAbs<=A*D*V:=by rw[Mp];exact Me hx (v_ _)
  have h2:(y*a).natAbs<=B*D*V:=by
   rw[Mp];refine Me ?_ (by omega)
   have:=hy.2
   omega
  have h3:=Int.natAbs_add_le (x*V) (y*a);rw[Nat.add_mul,<- N5,<- N5];omega
def Cm{y a W:Int}{D B:Nat}(hD:0<D)(hy:0<y/\y<=B*D)(ha:1<=a/\a<=W):∃z:Int,((y:Rat)/((D:Int):Rat))*((a:Rat)/(W:Rat))=(z:Rat)/(((D*W.toNat:Nat):Int):Rat)/\0<z/\z<=((B:Nat):Int)*((D*W.toNat:Nat):Int):=by
 obtain⟨V,rfl⟩:∃V:Nat,W=V:=⟨W.toNat,by omega⟩;refine⟨y*a,?_,Int.mul_pos hy.1 (by omega),?_⟩
 .rw[Jj _ _ _ _ (jM (by omega)) (jM (by omega))];congr 1
  .rw[Mf]
  .rw[Mh,M7,Mf]
 .rw[Mh,M7,<- Mv];exact Int.mul_le_mul hy.2 ha.2 (by omega) (Int.le_trans (Int.le_of_lt hy.1) hy.2)
def mC{y W:Int}{D:Nat}(hD:0<D)(hW:0<W):(y:Rat)/((D:Int):Rat)=((y*W:Int):Rat)/(((D*W.toNat:Nat):Int):Rat):=by obtain⟨V,rfl⟩:∃V:Nat,W=V:=⟨W.toNat,by omega⟩;rw[Ka _ _ _ (jM (show ((D:Nat):Int)≠0 by omega)) (jM (show ((V:Nat):Int)≠0 by omega)),Mf,Mh,M7,Mf]
def xt{z W:Int}{D A B:Nat}(hz:z.natAbs<=A*D)(hW:0<W):(z*W).natAbs<=(A+B)*(D*W.toNat):=by rw[Mp,<- N5];refine Me ?_ (by omega);rw[Nat.add_mul];omega
def xC{z W:Int}{D B:Nat}(hz:0<z/\z<=B*D)(hW:0<W):0<z*W/\z*W<=((B:Nat):Int)*((D*W.toNat:Nat):Int):=by refine⟨Int.mul_pos hz.1 hW,?_⟩;rw[M7,<- Mv,Int.toNat_of_nonneg (by omega)];exact Nq hz.2 (by omega)
def Rp.parts{D A B:Nat}{b b':Bx}{way:Str}{ws:List Int}(r:Rp D A B b)(hw:∀w∈ws,1<=w)(h:b'∈ay b way ws):Rp (D*ws.sum.toNat) (A+B) B b':=by
 obtain⟨pos,⟨zl,el,bl⟩,⟨zt,et,bt⟩,⟨zw,ew,bw⟩,⟨zh,eh,bh⟩⟩:=r;have k_:∀p:Rat×Rat,∀s l:Rat,p∈shL s l ws.sum 0 ws->0<ws.sum/\∃a' w:Int,0<=a'/\a'<=ws.sum/\1<=w/\w<=ws.sum/\p=(s+l*((a':Rat)/(ws.sum:Rat)),l*((w:Rat)/(ws.sum:Rat))):=λp s l hp=>by obtain⟨a',w,h1,h2,h3,h4,h5⟩:=uB ws 0 (by omega) hw (by omega) hp;exact⟨by omega,a',w,h1,h2,h3,h4,h5⟩
 unfold ay at h;split at h
 .obtain⟨p,hp,rfl⟩:=LN.mp h;obtain⟨hS,a',w,h1,h2,h3,h4,rfl⟩:=k_ p _ _ hp;have hV:0<D*ws.sum.toNat:=MN pos (by omega);refine⟨hV,?_,⟨zt*ws.sum,by show b.t=_;rw[et];exact mC pos hS,xt bt hS⟩,?_,⟨zh*ws.sum,by show b.h=_;rw[eh];exact mC pos hS,xC bh hS⟩⟩
  .show ∃z:Int,b.l+b.w*_=_/\_;rw[el,ew];exact CI pos bl bw ⟨h1,h2⟩ hS
  .show ∃z:Int,b.w*_=_/\_;rw[ew];exact Cm pos bw ⟨h3,h4⟩
 .obtain⟨p,hp,rfl⟩:=LN.mp h;obtain⟨hS,a',w,h1,h2,h3,h4,rfl⟩:=k_ p _ _ hp;have hV:0<D*ws.sum.toNat:=MN pos (by omega);refine⟨hV,⟨zl*ws.sum,by show b.l=_;rw[el];exact mC pos hS,xt bl hS⟩,?_,⟨zw*ws.sum,by show b.w=_;rw[ew];exact mC pos hS,xC bw hS⟩,?_⟩
  .show ∃z:Int,b.t+b.h*_=_/\_;rw[et,eh];exact CI pos bt bh ⟨h1,h2⟩ hS
  .show ∃z:Int,b.h*_=_/\_;rw[eh];exact Cm pos bh ⟨h3,h4⟩
def Rp.ok{D A B:Nat}{b:Bx}(r:Rp D A B b):b.Ok:=by obtain⟨pos,_,_,⟨zw,ew,bw⟩,⟨zh,eh,bh⟩⟩:=r;exact⟨by rw[ew];exact eW bw.1 (by omega),by rw[eh];exact eW bh.1 (by omega)⟩
def Rp.sz{D A B n:Nat}{b:Bx}(r:Rp D A B b)(hA:A*D<2^n)(hB:B*D<2^n)(hD:D<2^n):b.Sz n:=by
 obtain⟨pos,⟨zl,el,bl⟩,⟨zt,et,bt⟩,⟨zw,ew,bw⟩,⟨zh,eh,bh⟩⟩:=r;have sD:Sm n ((D:Nat):Int):=by show ((D:Nat):Int).natAbs<2^n;omega
 have k:∀z:Int,z.natAbs<2^n->Sz n ((z:Rat)/((D:Int):Rat)):=λz hz=>Sz.div (by omega) hz sD n (v_ _) (v_ _);have hb:∀z:Int,0<z/\z<=B*D->z.natAbs<2^n:=λz hz=>by
  have h1:z<=((B*D:Nat):Int):=by rw[M7];exact hz.2
  omega
 exact⟨by rw[el];exact k zl (by omega),by rw[et];exact k zt (by omega),by rw[ew];exact k zw (hb zw bw),by rw[eh];exact k zh (hb zh bh)⟩
theorem nF{ws:List Int}:∀{l:List Nat},(∀k∈l,1<=ws.getD k 0)->(l.length:Int)<=wtA ws l
 | [],_=>by simp [wtA]
 |
  k::l,h=>by
  have h1:=h k (s_ ..);have h2:=nF (l:=l) λj hj=>h j (r_ _ hj);unfold wtA at h2 ⊢;rw[u_,LO,Em];omega
theorem tM{ws:List Int}{n m:Nat}:∀{ts:List AT}{bs:List Bx},(∀t∈ts,∀b∈bs,AT.lay ws n m t b)->AT.layL ws n m ts bs
 | [],_,_=>by rw[AT.layL];trivial;intro t ts b bs z;cases z
 |t::ts,[],_=>by rw[AT.layL];trivial;intro t ts b bs _ z;cases z
 |
  t::ts,b::bs,h=>by
  rw[AT.layL];exact⟨h t (s_ ..) b (s_ ..),tM λu hu c hc=>h u (r_ _ hu) c (r_ _ hc)⟩
def Rp.fine{n m B D A d:Nat}{b:Bx}(r:Rp D A B b)(hBA:B<=A)(hA:1<=A)(hq:(A+d*B)*(D*2^(m*d))<2^n):b.Ok/\b.Sz n:=by have hD1:1<=2^(m*d):=Nat.one_le_two_pow;have z1:A*D<=(A+d*B)*(D*2^(m*d)):=Me (by omega) (Nat.le_mul_of_pos_right _ hD1);have z2:D<=A*D:=Nat.le_mul_of_pos_left _ hA;have z3:B*D<=A*D:=MQ _ hBA;exact⟨r.ok,r.sz (by omega) (by omega) (by omega)⟩
def Fc{ws:List Int}{n m B:Nat}(t:AT):∀(b:Bx) (D A:Nat),Rp D A B b->B<=A->1<=A->(A+t.dep*B)*(D*2^(m*t.dep))<2^n->t.ok=true->(∀k∈t.lvs,1<=ws.getD k 0)->wtT ws t<2^m->t.lvs.length<=40->AT.lay ws n m t b:=by
 induction t using AT.ind with
 |h1 k=>intro b D A r hBA hA hn _ _ _ _;rw[AT.lay];exact r.fine hBA hA hn
 |
  h2 w ts ih=>
  intro b D A r hBA hA hn ho hw hm hl;have ho':=ho;rw[AT.ok,w_] at ho';have h2:2<=ts.length:=NA ho'.1;have hk:=AT.okL_mem.mp ho'.2;rw[AT.lvs] at hw hl;have hws:∀t∈ts,∀k∈t.lvs,1<=ws.getD k 0:=λt ht k hk'=>hw k (AT.lvsL_mem.mpr ⟨t,ht,hk'⟩);have hone:∀t∈ts,1<=wtT ws t:=λt ht=>by have h1:=tZ (hk t ht);have h2:=nF (hws t ht);unfold wtT;omega
  have hsum:wtT ws (.nd w ts)=(ts.map (wtT ws)).sum:=by unfold wtT;rw[AT.lvs];exact rB ws ts
  rw[hsum] at hm;have hpos:0<=(ts.map (wtT ws)).sum:=by
   rw[<- rB]
   have:=nF hw
   omega
  rw[AT.dep] at hn;generalize hq:AT.depL ts=q at *;have fn:=r.fine hBA hA hn;have tl:ts.length<=40:=by rw[AT.lvsL_flat] at hl;have:ts.length<=((ts.map AT.lvs).flatten).length:=rX λt ht=>tZ (hk t ht);omega
  rw[AT.lay];refine⟨fn.1,fn.2,λz=>by rw[z] at h2;simp at h2,tl,hone,by
   show (ts.map (wtT ws)).sum.natAbs<2^m;have:(((ts.map (wtT ws)).sum.natAbs:Nat):Int)<((2^m:Nat):Int):=by
    rw[Int.natAbs_of_nonneg hpos]
    push_cast
    exact hm
   omega,tM λt ht c hc=>?_⟩
  have rp:=r.parts (λx hx=>by obtain⟨u,hu,rfl⟩:=LN.mp hx;exact hone u hu) hc;have hdt:t.dep<=q:=by rw[<- hq];exact AT.depL_le.mp (v_ _) t ht
  have hS:(ts.map (wtT ws)).sum.toNat<=2^m:=by
   have:(((ts.map (wtT ws)).sum.toNat:Nat):Int)<((2^m:Nat):Int):=by
    rw[Int.toNat_of_nonneg hpos]
    push_cast
    exact hm
   omega
  refine ih t ht c _ (A+B) rp (by omega) (by omega) ?_ (hk t ht) (hws t ht) ?_ (by have:=AT.lvs_le ht;omega)
  .refine ML (Me ?_ ?_) hn
   .have:t.dep*B<=q*B:=MQ _ hdt;rw[Nat.add_mul,Nat.one_mul];omega
   .rw[N5];refine MC _ ?_;have e:2^(m*(q+1))=2^m*2^(m*q):=by rw[<- M4];congr 1;rw[Nat.mul_add,Nat.mul_one,Nat.add_comm]
    rw[e];exact Me hS (L8 (by decide) (MC _ hdt))
  .refine Int.lt_of_le_of_lt ?_ hm;have aux:∀us:List AT,(∀u∈us,0<=wtT ws u)->t∈us->wtT ws t<=(us.map (wtT ws)).sum:=by
    intro us;induction us with
    |nil=>intro _ h;exact nomatch h
    |
     cons u us ih=>
     intro h0 hm;have nn:∀us:List AT,(∀u∈us,0<=wtT ws u)->0<=(us.map (wtT ws)).sum:=by
      intro us;induction us with
      |nil=>intro _;simp
      |cons v us ih=>intro h;rw[u_,LO];have:=h v (s_ ..);have:=ih λu hu=>h u (r_ _ hu);omega
     rw[u_,LO];rcases G_.mp hm with rfl |hm
     .have:=nn us λu hu=>h0 u (r_ _ hu)
      omega
     .have h1:=ih (λu hu=>h0 u (r_ _ hu)) hm;have h2:=h0 u (s_ ..);omega
   exact aux ts (λu hu=>by have:=hone u hu;omega) ht
def GR{ws:List Int}{n m:Nat}(t:AT):∀b:Bx,AT.lay ws n m t b->∀p∈AT.bx ws t b,p.2.Ok/\p.2.Sz n:=by
 induction t using AT.ind with
 |h1 k=>intro b h p hp;rw[AT.bx] at hp;rw[L5.mp hp];rw[AT.lay] at h;exact h
 |
  h2 w ts ih=>
  intro b h p hp;rw[AT.bx] at hp;rw[AT.lay] at h;replace h:=h.2.2.2.2.2.2;generalize ay b (wy w) (ts.map (wtT ws))=bs at *;induction ts generalizing bs with
  |nil=>rw[AT.bxL] at hp;exact nomatch hp;intro _ _ _ _ z;cases z
  |
   cons t ts ih2=>
   cases bs with
   |nil=>rw[AT.bxL] at hp;exact nomatch hp;intro _ _ _ _ _ z;cases z
   |
    cons c cs=>
    rw[AT.bxL] at hp;rw[AT.layL] at h;rcases Mm.mp hp with hp |hp
    .exact ih t (s_ ..) c h.1 p hp
    .exact ih2 (λu hu=>ih u (r_ _ hu)) cs hp h.2
noncomputable def cC (b:Bx) (w:Bool) (W a x:Int):Bx:=if w=true then ⟨b.l+b.w*((a:Rat)/(W:Rat)),b.t,b.w*((x:Rat)/(W:Rat)),b.h⟩ else ⟨b.l,b.t+b.h*((a:Rat)/(W:Rat)),b.w,b.h*((x:Rat)/(W:Rat))⟩
noncomputable def frm (b:Bx) (w:Bool) (W:Int):Int->List Int->List Bx
 |_,[]=>[]
 |a,x::xs=>cC b w W a x::frm b w W (a+x) xs
def oi(b:Bx)(w:Bool)(xs:List Int):ay b (wy w) xs=frm b w xs.sum 0 xs:=by
 have k_:∀(W:Int) (xs:List Int) (a:Int),(if wy w="across" then (shL b.l b.w W a xs).map λp=>(⟨p.1,b.t,p.2,b.h⟩:Bx) else (shL b.t b.h W a xs).map λp=>⟨b.l,p.1,b.w,p.2⟩)=frm b w W a xs:=by
  intro W xs;induction xs with
  |nil=>intro a;unfold shL frm;split <;> rfl
  |
   cons x xs ih=>
   intro a;rw[frm,<- ih,shL,shL];unfold cC;cases w with
   |true=>rw[if_pos (show wy true="across" from rfl),if_pos (show wy true="across" from rfl),if_pos rfl];rfl
   |
    false=>
    have hn:¬ (wy false="across"):=by decide
    rw[if_neg hn,if_neg hn,if_neg (by decide)];rfl
 exact k_ xs.sum xs 0
def jK(ws:List Int):((aY ws).map λk=>ws.getD k 0).Pairwise (· >= ·):=by rw[List.pairwise_map];refine List.Pairwise.imp (λ{i j} h=>?_) (c9 ws).up;unfold bg kyF at h;rw[MM] at h;show ws.getD j 0<=ws.getD i 0;have h:-(ws.getD i 0) < -(ws.getD j 0)\/(-(ws.getD i 0)=-(ws.getD j 0)/\((i:Nat):Int)<(j:Nat)):=h;omega
noncomputable def thN (xs:List Int):Nat->Nat->Nat
 |0,k=>k
 |f+1,k=>if 3*(xs.take k).sum<xs.sum then thN xs f (k+1) else k
noncomputable def cQ (xs:List Int):Nat:=thN xs (xs.length-1) 1
theorem rA(xs:List Int):∀f k,k<=thN xs f k
 |0,k=>v_ _
 |
  f+1,k=>by
  rw[thN];split
  .have:=rA xs f (k+1);omega
  .exact v_ _
theorem ze(xs:List Int){m:Nat}(hm:¬ 3*(xs.take m).sum<xs.sum):∀f k,k<=m->thN xs f k<=m
 |0,k,h=>h
 |
  f+1,k,h=>by
  rw[thN];split
  .rename_i z;refine ze xs hm f (k+1) ?_;by_cases e:k=m
   .rw[e] at z;exact absurd z hm
   .omega
  .exact h
def pM{xs:List Int}(h2:2<=xs.length)(hp:∀x∈xs,1<=x)(hd:xs.Pairwise (· >= ·)):1<=cQ xs/\cQ xs<xs.length:=by
 have k_:¬ 3*(xs.take (xs.length-1)).sum<xs.sum:=by
  have e:xs.sum=(xs.take (xs.length-1)).sum+(xs.drop (xs.length-1)).sum:=by rw[<- MP,Ma]
  have d1:xs.drop (xs.length-1)=[xs[xs.length-1]]:=by rw[NN (by omega),List.drop_eq_nil_of_le (by omega)]
  obtain⟨y,ys,ey⟩:∃y ys,xs.take (xs.length-1)=y::ys:=by
   cases z:xs.take (xs.length-1) with
   |
    nil=>
    have:=Mb List.length z
    rw[LP,LD] at this;omega
   |cons y ys=>exact⟨y,ys,rfl⟩
  have hy:y=xs[0]:=by
   have z:(xs.take (xs.length-1))[0]?=some y:=by rw[ey];rfl
   rw[List.getElem?_take_of_lt (by omega),x_ (by omega)] at z;exact (LB z).symm
  have hge:xs[0] >= xs[xs.length-1]:=Ms.mp hd 0 (xs.length-1) (by omega) (by omega) (by omega);have hz:=hp xs[xs.length-1] (Mo _);have hs:0<=ys.sum:=by
   have:=bN (l:=ys) λx hx=>hp x (L4 (i:=xs.length-1) (by rw[ey];exact r_ _ hx))
   omega
  rw[e,d1,ey,LO,LO,List.sum_nil];generalize xs[0]=x0 at *;generalize xs[xs.length-1]=xl at *;omega
 refine⟨rA xs _ 1,?_⟩
 have:=ze xs k_ (xs.length-1) 1 (by omega)
 unfold cQ;omega
structure Bx.In(c b:Bx):Prop where
 l:b.l<=c.l
 r:c.l+c.w<=b.l+b.w
 t:b.t<=c.t
 u:c.t+c.h<=b.t+b.h
def BU{w a W:Rat}(hw:0<w)(hW:0<W)(ha:0<=a):0<=w*(a/W):=by rw[MH];exact Rat.mul_nonneg (Nh hw) (Rat.mul_nonneg ha (Nh (OC.mpr hW)))
def q_le{w a x c W:Rat}(hw:0<w)(hW:0<W)(h:a+x<=c):w*(a/W)+w*(x/W)<=w*(c/W):=by
 have h1:=BU (a:=c-(a+x)) hw hW (by grind);have e:w*((c-(a+x))/W)=w*(c/W)-(w*(a/W)+w*(x/W)):=by grind
 grind
def Ks{w W:Rat}(hW:0<W):w*(W/W)=w:=by grind
def eR{a b:Int}(h:a<=b):(a:Rat)<=(b:Rat):=Rat.intCast_le_intCast.mpr h
def gC{a:Int}(h:0<a):(0:Rat)<(a:Rat):=Rat.intCast_pos.mpr h
def rL{b:Bx}{w:Bool}{W a x:Int}(hb:b.Ok)(ha:0<=a)(hx:0<x)(hs:a+x<=W):(cC b w W a x).Ok/\Bx.In (cC b w W a x) b:=by
 have hW:0<W:=by omega
 have p:(0:Rat)<(x:Rat)/(W:Rat):=eW hx hW;have hWr:=gC hW;have har:(0:Rat)<=(a:Rat):=by have:=eR ha;simpa using this
 have hsr:(a:Rat)+(x:Rat)<=(W:Rat):=by rw[<- Oo];exact eR hs
 have w1:=BU hb.w hWr har;have w2:=q_le hb.w hWr hsr;have h1:=BU hb.h hWr har;have h2:=q_le hb.h hWr hsr;rw[Ks hWr] at w2 h2;unfold cC;cases w with
 |
  true=>
  refine⟨⟨OD hb.w p,hb.h⟩,?_,?_,?_,?_⟩
  .show b.l<=b.l+_;grind
  .show b.l+_+_<=b.l+b.w;grind
  .show b.t<=b.t;grind
  .show b.t+b.h<=b.t+b.h;grind
 |
  false=>
  refine⟨⟨hb.w,OD hb.h p⟩,?_,?_,?_,?_⟩
  .show b.l<=b.l;grind
  .show b.l+b.w<=b.l+b.w;grind
  .show b.t<=b.t+_;grind
  .show b.t+_+_<=b.t+b.h;grind
def xa{b:Bx}{B:Rat}(hb:b.Ok)(h1:b.w<=B*b.h)(h2:b.h<=B*b.w):aq b<=B:=by
 unfold aq;split
 .exact Mu.mp λz=>by
   have:=(NF hb.w).mp z
   grind
 .exact Mu.mp λz=>by
   have:=(NF hb.h).mp z
   grind
def E7{b:Bx}{B:Rat}(hb:b.Ok)(h:aq b<=B):b.w<=B*b.h/\b.h<=B*b.w:=by
 unfold aq at h;have k_:∀{x y:Rat},0<x->0<y->y<=x->x/y<=B->x<=B*y/\y<=B*x:=λ{x y} hx hy hl hd=>by
  have h1:x<=B*y:=Mu.mp λz=>Mu.mpr hd ((NF hy).mpr z);refine⟨h1,?_⟩;have h2:(1:Rat)<=B:=Mu.mp λz=>by
   have:=MB z hy
   grind
  have:=Nu h2 (Nh hx)
  grind
 split at h
 .rename_i hl
  have:=k_ hb.h hb.w (Nh hl) h
  exact⟨this.2,this.1⟩
 .rename_i hl;exact k_ hb.w hb.h (Mu.mp hl) h
def uc{b:Bx}{B:Rat}{W a x:Int}(hb:b.Ok)(hs:aq b<=B)(ha:0<=a)(hx:0<x)(hW:a+x<=W)(hB:(W:Rat)<=B*(x:Rat)):aq (cC b (!decide (b.w<b.h)) W a x)<=B:=by
 obtain⟨s1,s2⟩:=E7 hb hs;have ok:=(rL (w:=!decide (b.w<b.h)) hb ha hx hW).1;have w0:(0:Rat)<(W:Rat):=gC (by omega);have x0:(0:Rat)<(x:Rat):=gC hx;have xW:(x:Rat)<=(W:Rat):=eR (by omega);have q0:(0:Rat)<(x:Rat)/(W:Rat):=by rw[MH];exact OD x0 (OC.mpr w0)
 have q1:(x:Rat)/(W:Rat)<=1:=Mu.mp λz=>by
  have:=(NF w0).mp z
  grind
 have q2:1<=B*((x:Rat)/(W:Rat)):=by
  have e:B*((x:Rat)/(W:Rat))=(B*(x:Rat))/(W:Rat):=by rw[MH,MH,OH]
  rw[e];exact Mu.mp λz=>by
   have:=(Rat.div_lt_iff w0).mp z
   grind
 have b0:0<=B:=Mu.mp λz=>by
  have:=MB z q0
  grind
 unfold cC at *;generalize (x:Rat)/(W:Rat)=q at *;have k_:∀{s t:Rat},0<s->0<t->t<=s->s<=B*t->s*q<=B*t/\t<=B*(s*q):=λ{s t} hs ht hl hd=>by have h1:=Nv q1 (Nh hs);have h2:=Nv q2 (Nh hs);exact⟨by grind,by grind⟩
 by_cases hl:b.w<b.h
 .rw[K_ hl] at ok ⊢;obtain⟨k1,k2⟩:=k_ hb.h hb.w (Nh hl) s2;exact xa ok k2 k1
 .rw[H_ hl] at ok ⊢;obtain⟨k1,k2⟩:=k_ hb.w hb.h (Mu.mp hl) s1;exact xa ok k1 k2
theorem xq(xs:List Int):∀f k,¬ 3*(xs.take (k+f)).sum<xs.sum->¬ 3*(xs.take (thN xs f k)).sum<xs.sum
 |0,k,h=>h
 |
  f+1,k,h=>by
  rw[thN];split
  .exact xq xs f (k+1) (by rw[Nat.add_assoc,Nat.add_comm 1 f];exact h)
  .assumption
theorem xR(xs:List Int):∀f k,k<thN xs f k->3*(xs.take (thN xs f k-1)).sum<xs.sum
 |0,k,h=>absurd h (Mj _)
 |
  f+1,k,h=>by
  rw[thN] at h ⊢;split at h
  .rename_i z;rw[if_pos z];by_cases e:k+1<thN xs f (k+1)
   .exact xR xs f (k+1) e
   .have:=rA xs f (k+1)
    rw[show thN xs f (k+1)-1=k by omega];exact z
  .exact absurd h (Mj _)
def xj{xs:List Int}{B:Rat}(h2:2<=xs.length)(hp:∀x∈xs,1<=x)(hd:xs.Pairwise (· >= ·))(h3:3<=B)(hB:∀x y r,xs=x::y::r->((x+y:Int):Rat)<=B*(y:Rat)):((xs.sum:Int):Rat)<=B*(((xs.take (cQ xs)).sum:Int):Rat)/\((xs.sum:Int):Rat)<=B*(((xs.drop (cQ xs)).sum:Int):Rat):=by
 obtain⟨t1,t2⟩:=pM h2 hp hd;have e:∀i,xs.sum=(xs.take i).sum+(xs.drop i).sum:=λi=>by rw[<- MP,Ma]
 have pt:∀i,0<=(xs.take i).sum:=λi=>by have:=bN (l:=xs.take i) λx hx=>hp x (L4 hx);omega
 have pd:∀i,((xs.drop i).length:Int)<=(xs.drop i).sum:=λi=>bN (l:=xs.drop i) λx hx=>hp x (L7 hx);have vP:∀y:Int,0<=y->∀s:Int,s<=3*y->(s:Rat)<=B*(y:Rat):=λy hy s hs=>by have h1:(s:Rat)<=((3*y:Int):Rat):=eR hs;have h2:=Nu h3 (show (0:Rat)<=(y:Rat) by have:=eR hy;simpa using this);rw[Mf] at h1;exact Ni h1 h2
 have last:¬ 3*(xs.take (1+(xs.length-1))).sum<xs.sum:=by
  rw[show 1+(xs.length-1)=xs.length by omega,List.take_length]
  have:=pt xs.length
  rw[List.take_length] at this;omega
 have lo:=xq xs (xs.length-1) 1 last;rw[show thN xs (xs.length-1) 1=cQ xs from rfl] at lo;refine⟨vP _ (pt _) _ (by omega),?_⟩;by_cases h1:cQ xs=1
 .obtain⟨x,y,r,rfl⟩:∃x y r,xs=x::y::r:=by
   match xs,h2 with
   |x::y::r,_=>exact⟨x,y,r,rfl⟩
  have b1:=hB x y r rfl;have hy:=hp y (r_ _ (s_ ..));have rn:=bN (l:=r) λz hz=>hp z (r_ _ (r_ _ hz));rw[h1];simp only[List.drop_succ_cons,List.drop_zero,LO];have r0:(0:Rat)<=((r.sum:Int):Rat):=by have:=eR (show (0:Int)<=r.sum by omega);simpa using this
  have h4:=Nu (Ni (show (1:Rat)<=3 by decide) h3) r0;simp only[Oo] at b1 ⊢;grind
 .have hi:=xR xs (xs.length-1) 1 (by show 1<cQ xs;omega);rw[show thN xs (xs.length-1) 1=cQ xs from rfl] at hi;have e1:=e (cQ xs);have pdn:=pd (cQ xs);generalize cQ xs=n at *;obtain⟨i,rfl⟩:∃i,n=i+2:=⟨n-2,by omega⟩;rw[show i+2-1=i+1 from rfl] at hi;have a1:(xs.take (i+2)).sum=(xs.take (i+1)).sum+xs[i+1]'(by omega):=by rw[List.take_succ_eq_append_getElem (by omega),MP];simp
  have a2:xs[i+1]'(by omega)<=xs[0]'(by omega):=Ms.mp hd 0 (i+1) (by omega) (by omega) (by omega);have a3:xs[0]'(by omega)<=(xs.take (i+1)).sum:=by
   obtain⟨x,r,rfl⟩:∃x r,xs=x::r:=by
    match xs,h2 with
    |x::r,_=>exact⟨x,r,rfl⟩
   rw[List.take_succ_cons,LO]
   have:=bN (l:=r.take i) λz hz=>hp z (r_ _ (L4 hz))
   show x<=_;omega
  generalize xs[i+1]'(by omega)=y at *;generalize xs[0]'(by omega)=z at *;exact vP _ (by omega) _ (by omega)
end L3
namespace KK
open PySem PySem.Spec PyProof.Rows L2 L3
def top(i:Nat):Stmt:=PySem.Challenge.pw_weightrooms_k29_whole_no_box_beyond_boun.main.body.getD i (.Pass ⟨0,0,0,0⟩)
noncomputable def cu:ja:=[((.b "NoneType"),(.b "bool"),false),((.b "bool"),(.b "bool"),true),((.b "int"),(.b "bool"),false),((.b "str"),(.b "bool"),false),((.b "tuple"),(.b "bool"),false),((.b "list"),(.b "bool"),false),((.b "dict"),(.b "bool"),false),((.b "NoneType"),(.b "int"),false),((.b "bool"),(.b "int"),true),((.b "int"),(.b "int"),true),((.b "str"),(.b "int"),false),((.b "tuple"),(.b "int"),false),((.b "list"),(.b "int"),false),((.b "dict"),(.b "int"),false),((.b "NoneType"),(.b "list"),false),((.b "bool"),(.b "list"),false),((.b "int"),(.b "list"),false),((.b "str"),(.b "list"),false),((.b "tuple"),(.b "list"),false),((.b "list"),(.b "list"),true),((.b "dict"),(.b "list"),false),((.b "NoneType"),(.b "str"),false),((.b "bool"),(.b "str"),false),((.b "int"),(.b "str"),false),((.b "str"),(.b "str"),true),((.b "tuple"),(.b "str"),false),((.b "list"),(.b "str"),false),((.b "dict"),(.b "str"),false),((.b "NoneType"),(.b "tuple"),false),((.b "bool"),(.b "tuple"),false),((.b "int"),(.b "tuple"),false),((.b "str"),(.b "tuple"),false),((.b "tuple"),(.b "tuple"),true),((.b "list"),(.b "tuple"),false),((.b "dict"),(.b "tuple"),false)]
noncomputable def iu:Val:=(.int 40)
noncomputable def ue:Val:=(.tup [(.str "across"),(.str "down"),(.str "halves"),(.str "rows"),(.str "greatest"),(.str "thirds")])
noncomputable def ya:Val:=(.tup [(.str "across"),(.str "down")])
abbrev tb:Tb:=⟨["NoFraction", "NoBox", "NoWay", "NoWeights", "TooMany", "NoTree", "NoRule"],["NoFraction", "NoBox", "NoWay", "NoWeights", "TooMany", "NoTree", "NoRule"],[],cu,[("MOST_WEIGHTS",iu),("RULES",ue),("WAYS",ya)]⟩
abbrev TT(K:W.Frag)(mg:Pa):Prop:=TyL tb top [10,11,12,13,14,15,16,17,18,22,23,24,25,27,28,29,30,31,32,33,35,36,37,43,44,45,46,47,48,49,52,53,54,55,56,57,58,59,60,62,63,64,66,67,68,69,70,71,73,74,75,76] K mg
section
variable{P:Program}{w:World}{K:W.Frag}{mg:Pa}{base:Heap}
def gR:PEx:=mq iu
def lL(e:E3):gR.G e=.ok (.val (.int 40)) e:=rfl
def rO:PEx:=mq ue
def zN(e:E3):rO.G e=.ok (.val (.tup [(.str "across"),(.str "down"),(.str "halves"),(.str "rows"),(.str "greatest"),(.str "thirds")])) e:=rfl
def mL:PEx:=mq ya
def EN(e:E3):mL.G e=.ok (.val (.tup [(.str "across"),(.str "down")])) e:=rfl
def dI(s:String):Lean.TSyntax `term:=⟨Lean.mkIdent (s.replace "%" "").toName⟩
def dA(f:String)(a:Lean.TSyntax `term):Lean.TSyntax `term:=Lean.Syntax.mkApp (dI f) #[a]
def dF:List (Lean.TSyntax `tactic)->Lean.MacroM (Lean.TSyntax `tactic)
 | []=>`(tactic|fail)
 |a::l=>do `(tactic|first | $a:tactic | $(<- dF l):tactic)
def dL(f:String->Lean.MacroM (Lean.TSyntax `tactic)):List String->Lean.MacroM (List (Lean.TSyntax `tactic))
 | []=>pure []
 |s::l=>do return (<- f s)::(<- dL f l)
set_option hygiene false in
def dQ(ap:String->Lean.TSyntax `term)(s:String):Lean.MacroM (Lean.TSyntax `tactic):=match (s.splitOn ";").map ap with
 | [d,c,a,b]=>`(tactic|((case d=>with_reducible exact $d);(case c=>exact $c);(case a=>exact $a);(case b=>exact $b)))
 |d::c::_=>`(tactic|((case d=>with_reducible exact $d);(case c=>exact $c)))
 |_=>`(tactic|fail)
set_option hygiene false in
def dR(ap:String->Lean.TSyntax `term)(g:String):Lean.MacroM (Lean.TSyntax `tactic):=match g.splitOn ":" with
 | [r]=>`(tactic|refine $(ap r))
 |r::l=>do `(tactic|(refine' $(ap r);$(<- dF (<- dL (dQ ap) l)):tactic))
 | []=>`(tactic|fail)
set_option hygiene false in
local macro_rules | `('d')=>do
 let h <- `(?_)
 let u <- `(_)
 let R:=dI "rfl"
 let qA <- `(?a)
 let qB <- `(?b)
 let qC <- `(?c)
 let qD <- `(?d)
 let qp <- `((λ_ _=>rfl))
 let ap:=λ(s:String)=>let w:=s.splitOn " ";Lean.Syntax.mkApp (dI (w.getD 0 "")) (((w.getD 1 "").toList.map λc=>([('1',dI "hr.u100"),('8',dI "hr.u180"),('A',qA),('B',qB),('C',qC),('D',qD),('K',dI "T.k"),('_',u),('b',dA "%boT" R),('f',dA "%boF" R),('g',dA "T.g" R),('k',dA "T.n" R),('m',dA "T.m" R),('n',dI "nd"),('o',dI "%own1"),('p',qp),('r',R),('t',dI "T"),('u',dA "%JC" (dI "hr")),('v',dA "%yK" u),('x',dA "T.x" R),('z',dI "%rz1")].lookup c).getD h).toArray)
 let rd:=λ(s:String)=>dL (dR ap) (s.splitOn "|")
 let e0 <- `(tactic|refine zcF (by $(<- dF (<- rd "%ih|rR t|sg t|sG t|oI t|rG t|mB t|oE t|mU t|qT t|jv t|l6 t|wB t|oM t|oQ t|ka t|sW t|pJ t|rj t|BF t|zi t|mz t|jl t|yJ t|vd t|oB t|sH t|mO t|oP t|yi t|wN t|vh t|mI t|oy t|qN t|mf t_|rC t|eT t|eU t|nB t|d6 t_|lK t|oH t|kd t|ip t|my t|kY t|oF t|sS t|rY t|oC t|rZ t")):tactic) hr ?_)
 let e3 <- `(tactic|exact HA rfl (by first |exact T.e rfl |exact (T.d.get 60 rfl).gl |exact (T.d.get 59 rfl).gl))
 `(by repeat' $(<- dF ((<- rd "%yK _|F8|yb|bP ??|au ??|eA ?|zsS _n?|lO ???|fI ?|Gg ?|lZ ?|Iw|KS|Eu|FI ?")++[e0,e3]++(<- rd "%Lu CD??:JR;ixK r|Gk CD??:Cc;eqDK r8:C4;Cs:Cg;Ca:C5;Cq:FZ;FQ r:Jw;neDK r8:Hw;Bq:Cz;inK r|d9 CDrkf?:IT;JS r:E6;Aa:Dk;xF r:EE;yn r:EF;sJ:xh;og rr:Es;yr rr:wY;qf:Ic K;Jh r|CN CD??:G8;DY:yW;xX r:Ga;Hy:Fi;zT:FK;HM:FW;HX:HD;F4|xb CDrkb?:FH;yR|HB CD??:C4;Cs:Cc;eqDK r8:Cg;Ca:C5;Cq:Cz;inK r:K7;Ju|Dp rABCD??:Aj;IL r1;PySem.F.slot_list_index;PySem.F.type_list_index|IK rABCDv?:zg;zo;PySem.F.slot_list_append;PySem.F.type_list_append:yC;yP;PySem.F.slot_list_insert;PySem.F.type_list_insert:vT;wx r;PySem.F.slot_list_extend;PySem.F.type_list_extend|DD rABCDv:G6;FF;PySem.F.slot_list_pop;PySem.F.type_list_pop|Lq CD?:G9;GZ|Hm n?CD:Gw;FR|EK ?v?CD:D7;Bf:BI;AK u|ZG.weak ?|zt_w ?|Hk rv?|GQ ??|Jn|Aw u??p|Jr rg|IW rrkrk?|IQ|HR ?|Ge ?|DU rkb|A7 r???|EI rk?|F3 rrkrk?|KJ rkb|zgN _n|Fs rr?|G0 rr?|AB ??|DX|xy rk?|zr rk?|GD r?|Gx rrk?|D8|DM ?|DJ ??|DQ ?|zu or???|GU n?|zX rzrmx?|DN|Ak o??|rM ?|Al r?|HL ??|Ej ?|Kv ??|HC ?"))):tactic)
def ml:PSt:=
 (aj (xIf (qOf (pOp bEq (pFn bK (aa (af 0) ag)) (ah 0))) (aw (cm (aa (ah 0) (aa (ah 0) (aa (af 1) ag))))) xNx)
  (aw (cm (aa (pOp bIx (af 0) (pOp bZ (af 1) (pFn bK (aa (af 0) ag)))) (aa (ah 0) (aa (af 1) ag))))))
def cW:PFn:=fnP [false,false] 2 ml
def sT:cW.ms=[false,false]:=rfl
def rR(T:TT K mg):Callee P w K mg base "_law_feed" 1 ["_law_script", "_law_k"] (sp3 K mg cW):=okP (T.d.get 66 rfl) (ax (N:=["_law_script", "_law_k"]) (by decide)) (λ_ _ _ _ _ _=>ar2 λ_ _=>rfl) λnd _ _ _ _ _ _ _ hr=>'d'
def l8:PSt:=
 (aj (sr 0 seL (ah 1) (pOp aF (pOp bIx (af 0) (ah 1)) (ah 1)))
  (aj (xIf (qOf (pOp bGe (pOp bIx (af 0) (ah 0)) (pOp fN (ah 10) (ah 18)))) (aj (ar false 2 (pOp bZ (pOp bIx (af 0) (ah 0)) (af 1)))
  (aj (sr 0 seL (ah 0) (pOp eN (pOp bIx (af 0) (ah 0)) (af 1)))
  (aw (af 2)))) xNx)
  (aj (ar false 3 (pOp aF (pOp aF (pOp bZ (pOp bIx (af 0) (ah 0)) (ah 1000003)) (pOp aC (ah 7919) (pOp bIx (af 0) (ah 2)))) (pOp aC (ah 104729) (pOp bIx (af 0) (ah 1)))))
  (aj (ar false 3 (pOp bZ (pOp aC (af 3) (ah 48271)) (ah 2147483647)))
  (aw (pOp bZ (pOp bZ (pOp aC (af 3) (pOp aF (pOp bZ (af 3) (ah 65521)) (pOp bIx (af 0) (ah 1)))) (ah 2147483629)) (af 1)))))))
def ak:PFn:=fnP [true,false] 4 l8
def sQ:ak.ms=[true,false]:=rfl
def sg(T:TT K mg):Callee P w K mg base "_law_next" 1 ["_law_feed_here", "_law_many"] (sp3 K mg ak):=okP (T.d.get 67 rfl) (ax (N:=["_law_feed_here", "_law_many", "_law_digit", "_law_mixed"]) (by decide)) (λ_ _ _ _ _ _=>ar2 λ_ _=>rfl) λnd _ _ _ _ _ _ _ hr=>'d'
def fW:PSt:=
 (fM 2 3 (aa (af 3) (aa (pOp bZ (af 2) (af 3)) ag)))
def oq:PSt:=
 (aj (fM 2 3 (aa (pFn dN (aa (af 0) ag)) (aa (pFn dN (aa (af 1) ag)) ag)))
  (aj (xWh (qOf (pOp bGt (af 3) (ah 0))) (fW))
  (aj (xIf (qOf (pOp bLt (af 1) (ah 0))) (ar false 2 (pOp c7 (ah 0) (af 2))) xNx)
  (aw (ba (aa (pOp eN (af 0) (af 2)) (aa (pOp eN (af 1) (af 2)) ag)))))))
def bM:PFn:=fnP [false,false] 4 oq
def v9:bM.ms=[false,false]:=rfl
def sG(T:TT K mg):Callee P w K mg base "_law_low" 1 ["_law_top", "_law_bottom"] (sp3 K mg bM):=okP (T.d.get 69 rfl) (ax (N:=["_law_top", "_law_bottom", "_law_one", "_law_two"]) (by decide)) (λ_ _ _ _ _ _=>ar2 λ_ _=>rfl) λnd _ _ _ _ _ _ _ hr=>'d'
def jr:PSt:=
 (ar false 2 (pOp aF (pOp aC (af 2) (pOp fN (ah 10) (ah 6))) (ai ak (aa (af 0) (aa (pOp fN (ah 10) (ah 6)) ag)))))
def ki:PSt:=
 (aj (ar false 2 (ah 0))
  (aj (fB (j6 (aa (ah 6) ag)) (gtN 3) (jr))
  (aw (pOp c7 (pOp bZ (af 2) (pOp aF (pOp aC (ah 2) (af 1)) (ah 1))) (af 1)))))
def a9:PFn:=fnP [true,false] 4 ki
def pF:a9.ms=[true,false]:=rfl
def oI(T:TT K mg):Callee P w K mg base "_law_great" 2 ["_law_feed_here", "_law_far"] (sp3 K mg a9):=okP (T.d.get 68 rfl) (ax (N:=["_law_feed_here", "_law_far", "_law_number", "_law_k"]) (by decide)) (λ_ _ _ _ _ _=>ar2 λ_ _=>rfl) λnd _ _ _ _ _ _ _ hr=>'d'
def iY:PSt:=
 (aj (ar false 1 (ai ak (aa (af 0) (aa (ah 6) ag))))
  (aj (fM 2 3 (aa (ba (aa (pOp c7 (ai ak (aa (af 0) (aa (ah 19) ag))) (ah 9)) (aa (ah 1) ag))) (aa (ba (aa (pOp c7 (ai ak (aa (af 0) (aa (ah 19) ag))) (ah 9)) (aa (ah 1) ag))) ag)))
  (aj (fM 4 5 (aa (ba (aa (pOp aF (ah 1) (ai ak (aa (af 0) (aa (ah 12) ag)))) (aa (ah 1) ag))) (aa (ba (aa (pOp aF (ah 1) (ai ak (aa (af 0) (aa (ah 12) ag)))) (aa (ah 1) ag))) ag)))
  (aj (xIf (qOf (pOp bEq (af 1) (ah 1))) (ar false 5 (af 4)) xNx)
  (aj (xIf (qOf (pOp bEq (af 1) (ah 2))) (ar false 4 (ba (aa (pOp aF (ah 1) (ai ak (aa (af 0) (aa (ah 99) ag)))) (aa (ah 1) ag)))) xNx)
  (aj (xIf (qOf (pOp bEq (af 1) (ah 3))) (ar false 5 (ba (aa (pOp aF (ah 1) (ai ak (aa (af 0) (aa (ah 99) ag)))) (aa (ah 1) ag)))) xNx)
  (aj (xIf (qOf (pOp bEq (af 1) (ah 4))) (aj (fM 2 3 (aa (ai bM (aa (pOp c7 (ai ak (aa (af 0) (aa (ah 199) ag))) (ah 99)) (aa (pOp aF (ah 1) (ai ak (aa (af 0) (aa (ah 30) ag)))) ag))) (aa (ai bM (aa (ai ak (aa (af 0) (aa (ah 9) ag))) (aa (ah 7) ag))) ag)))
  (fM 4 5 (aa (ai bM (aa (pOp aF (ah 1) (ai ak (aa (af 0) (aa (ah 99) ag)))) (aa (pOp aF (ah 1) (ai ak (aa (af 0) (aa (ah 30) ag)))) ag))) (aa (ai bM (aa (pOp aF (ah 1) (ai ak (aa (af 0) (aa (ah 99) ag)))) (aa (ah 11) ag))) ag)))) xNx)
  (aj (xIf (qOf (pOp bEq (af 1) (ah 5))) (aj (ar false 6 (pOp c7 (pOp fN (ah 10) (ah 30)) (ah 1)))
  (aj (fM 2 3 (aa (ai bM (aa (ai a9 (aa (af 0) (aa (af 6) ag))) (aa (pOp aF (ah 1) (pFn dN (aa (ai a9 (aa (af 0) (aa (pOp c7 (af 6) (ah 1)) ag))) ag))) ag))) (aa (ba (aa (ai a9 (aa (af 0) (aa (af 6) ag))) (aa (ah 1) ag))) ag)))
  (fM 4 5 (aa (ba (aa (pOp aF (ah 1) (pFn dN (aa (ai a9 (aa (af 0) (aa (pOp c7 (af 6) (ah 1)) ag))) ag))) (aa (ah 1) ag))) (aa (ai bM (aa (pOp aF (ah 1) (pFn dN (aa (ai a9 (aa (af 0) (aa (pOp c7 (af 6) (ah 1)) ag))) ag))) (aa (af 6) ag))) ag))))) xNx)
  (aw (ba (aa (af 2) (aa (af 3) (aa (af 4) (aa (af 5) ag))))))))))))))
def eK:PFn:=fnP [true] 7 iY
def sV:eK.ms=[true]:=rfl
def rG(T:TT K mg):Callee P w K mg base "_law_room" 3 ["_law_feed_here"] (sp3 K mg eK):=okP (T.d.get 70 rfl) (ax (N:=["_law_feed_here", "_law_way", "_law_left", "_law_top", "_law_wide", "_law_high", "_law_far"]) (by decide)) (λ_ _ _ _ _ _=>ar1 λ_=>rfl) λnd _ _ _ _ _ _ _ hr=>'d'
def dH:PSt:=
 (aj (ar true 3 (ai cW (aa (af 0) (aa (pOp aF (pOp aF (af 1) (ah 1)) (af 8)) ag))))
  (aj (ar false 9 (pOp bIx (cm (aa (ah 1) (aa (pOp aF (ah 1) (ai ak (aa (af 3) (aa (ah 9) ag)))) (aa (pOp sk (ah 1) (pOp bZ (af 8) (ah 24))) (aa (pOp aF (ah 1) (ai ak (aa (af 3) (aa (ah 9) ag)))) (aa (ah 1) (aa (pOp aF (ah 1) (ai ak (aa (af 3) (aa (ah 3) ag)))) ag))))))) (af 6)))
  (aj (xIf (qAn (qOf (pOp bEq (af 6) (ah 3))) (qOf (pOp bEq (ai ak (aa (af 3) (aa (ah 4) ag))) (ah 0)))) (ar false 9 (pOp aF (pOp fN (ah 10) (ah 29)) (ai ak (aa (af 3) (aa (ah 100) ag))))) xNx)
  (aj (xIf (qOf (pOp bEq (af 6) (ah 4))) (ar false 9 (pOp aF (ah 1) (pFn dN (aa (ai a9 (aa (af 3) (aa (pOp c7 (pOp fN (ah 10) (ah 30)) (ah 2)) ag))) ag)))) xNx)
  (aO (g0 7 er (aa (af 9) ag)))))))
def fR:PSt:=
 (aj (ar true 3 (ai cW (aa (af 0) (aa (af 1) ag))))
  (aj (ar false 4 (pOp aF (ah 1) (ai ak (aa (af 3) (aa (pFn rz (aa (af 2) (aa (ah 7) ag))) ag)))))
  (aj (ar false 5 (ai ak (aa (af 3) (aa (ah 6) ag))))
  (aj (xIf (qOf (pOp bLt (af 5) (ah 2))) (ar false 4 (pOp bIx (cm (aa (af 2) (aa (pFn p8 (aa (ah 1) (aa (pOp eN (pOp aC (af 4) (af 2)) (ah 8)) ag))) ag))) (af 5))) xNx)
  (aj (ar false 6 (ai ak (aa (af 3) (aa (ah 6) ag))))
  (aj (xIf (qOf (pOp bGt (af 4) (ah 9))) (ar false 6 (pOp bZ (af 6) (ah 3))) xNx)
  (aj (ar true 7 (cm ag))
  (aj (fB (j6 (aa (af 4) ag)) (gtN 8) (dH))
  (aw (af 7))))))))))
def da:PFn:=fnP [false,false,false] 10 fR
def nA:da.ms=[false,false,false]:=rfl
def mB(T:TT K mg):Callee P w K mg base "_law_weights" 3 ["_law_script", "_law_at", "_law_most_here"] (sp3 K mg da):=okP (T.d.get 71 rfl) (ax (N:=["_law_script", "_law_at", "_law_most_here", "_law_feed_here", "_law_many", "_law_more", "_law_style", "_law_some", "_law_k", "_law_weight"]) (by decide)) (λ_ _ _ _ _ _=>ar3 λ_ _ _=>rfl) λnd _ _ _ _ _ _ _ hr=>'d'
def gB:PSt:=
 (aO (g0 2 er (aa (pOp aF (pOp aC (pOp bIx (af 2) (pUn wj (ah 1))) (pOp aF (ah 1) (ai ak (aa (af 0) (aa (ah 3) ag))))) (ai ak (aa (af 0) (aa (ah 2) ag)))) ag)))
def gA:PSt:=
 (aO (g0 2 kN (aa (ai ak (aa (af 0) (aa (af 1) ag))) (aa (lu 2 lV) ag))))
def gZ:PSt:=
 (aj (ar true 2 (cm (aa (pOp aF (ah 1) (ai ak (aa (af 0) (aa (ah 9) ag)))) ag)))
  (aj (fB (j8 (aa (ah 1) (aa (af 1) ag))) (gtN 3) (gB))
  (aj (fB (j6 (aa (af 1) ag)) (gtN 3) (gA))
  (aw (af 2)))))
def dW:PFn:=fnP [true,false] 4 gZ
def rm:dW.ms=[true,false]:=rfl
def oE(T:TT K mg):Callee P w K mg base "_law_steps" 2 ["_law_feed_here", "_law_many"] (sp3 K mg dW):=okP (T.d.get 75 rfl) (ax (N:=["_law_feed_here", "_law_many", "_law_some", "_law_k"]) (by decide)) (λ_ _ _ _ _ _=>ar2 λ_ _=>rfl) λnd _ _ _ _ _ _ _ hr=>'d'
def ju:PSt:=
 (xIf (qOf (pOp BE (af 0) rO)) (dY "NoRule" (aa (aZ "this is no rule") ag)) xNx)
def b8:PFn:=fnP [false] 1 ju
def oJ:b8.ms=[false]:=rfl
def mU(T:TT K mg):Callee P w K mg base "check_rule" 1 ["rule"] (sp3 K mg b8):=okP (T.d.get 52 rfl) (ax (N:=["rule"]) (by decide)) (λ_ _ _ _ _ _=>ar1 λ_=>rfl) λnd _ _ _ _ _ _ _ hr=>'d'
def iO:PSt:=
 (aw (i7 (pFn (bp cu) (aa (af 0) (aa (pTy "int") ag))) (B5 (pFn (bp cu) (aa (af 0) (aa (pTy "bool") ag))))))
def bH:PFn:=fnP [false] 1 iO
def sI:bH.ms=[false]:=rfl
def qT(T:TT K mg):Callee P w K mg base "is_whole" 1 ["thing"] (sp3 K mg bH):=okP (T.d.get 10 rfl) (ax (N:=["thing"]) (by decide)) (λ_ _ _ _ _ _=>ar1 λ_=>rfl) λnd _ _ _ _ _ _ _ hr=>'d'
def cR:PSt:=
 (fM 0 1 (aa (af 1) (aa (pOp bZ (af 0) (af 1)) ag)))
def gF:PSt:=
 (aj (fM 0 1 (aa (pFn dN (aa (af 0) ag)) (aa (pFn dN (aa (af 1) ag)) ag)))
  (aj (xWh (qOf (pOp bNe (af 1) (ah 0))) (cR))
  (aw (af 0))))
def bF:PFn:=fnP [false,false] 2 gF
def j9:bF.ms=[false,false]:=rfl
def jv(T:TT K mg):Callee P w K mg base "common_divisor" 1 ["one", "other"] (sp3 K mg bF):=okP (T.d.get 11 rfl) (ax (N:=["one", "other"]) (by decide)) (λ_ _ _ _ _ _=>ar2 λ_ _=>rfl) λnd _ _ _ _ _ _ _ hr=>'d'
def jj:PSt:=
 (aj (xIf (qO (qNo (qOf (pFn (bp cu) (aa (af 0) (aa (pTy "tuple") ag))))) (qOf (pOp bNe (pFn bK (aa (af 0) ag)) (ah 2)))) (aw (pBl false)) xNx)
  (aj (jW (af 0) (gtX (gtT 2 (aT (gtN 1) (aT (gtN 2) dP)))))
  (aj (xIf (qO (qNo (qOf (ai bH (aa (af 1) ag)))) (qNo (qOf (ai bH (aa (af 2) ag))))) (aw (pBl false)) xNx)
  (aw (i7 (pOp bGe (af 2) (ah 1)) (pOp bEq (ai bF (aa (af 1) (aa (af 2) ag))) (ah 1)))))))
def cD:PFn:=fnP [false] 3 jj
def mQ:cD.ms=[false]:=rfl
def l6(T:TT K mg):Callee P w K mg base "is_fraction" 2 ["thing"] (sp3 K mg cD):=okP (T.d.get 12 rfl) (ax (N:=["thing", "top", "bottom"]) (by decide)) (λ_ _ _ _ _ _=>ar1 λ_=>rfl) λnd _ _ _ _ _ _ _ hr=>'d'
def pz:PSt:=
 (aj (xIf (qO (qNo (qOf (pFn (bp cu) (aa (af 0) (aa (pTy "tuple") ag))))) (qOf (pOp bNe (pFn bK (aa (af 0) ag)) (ah 4)))) (aw (pBl false)) xNx)
  (aj (xIf (qNo (qOf (pFn iS (aa (pLC (bB (af 0)) [none] (by decide) (gtN 0) qY (ai cD (aa (af 0) ag))) ag)))) (aw (pBl false)) xNx)
  (aw (i7 (pOp bGt (pOp bIx (pOp bIx (af 0) (ah 2)) (ah 0)) (ah 0)) (pOp bGt (pOp bIx (pOp bIx (af 0) (ah 3)) (ah 0)) (ah 0))))))
def gJ:PFn:=fnP [false] 1 pz
def wL:gJ.ms=[false]:=rfl
def wB(T:TT K mg):Callee P w K mg base "is_box" 3 ["thing"] (sp3 K mg gJ):=okP (T.d.get 22 rfl) (ax (N:=["thing"]) (by decide)) (λ_ _ _ _ _ _=>ar1 λ_=>rfl) λnd _ _ _ _ _ _ _ hr=>(au 'd' (au (lO (rM (lZ (d9 (zW (K:=K) rfl rfl) qE rfl (T.n rfl) (by first |exact boF rfl |exact boT rfl) (bP (gn ["thing"] (ao (top 22)).names ["part"] [none] 'd' (λnd _ _ _ _ _=>'d') (λ_ _ _ _ _ _=>bD) (λnd _ _ _ _ _=>'d')) 'd')))) 'd' 'd') 'd'))
def ku:PSt:=
 (xIf (qNo (qOf (ai gJ (aa (af 0) ag)))) (dY "NoBox" (aa (aZ "this is no box") ag)) xNx)
def aP:PFn:=fnP [false] 1 ku
def rb:aP.ms=[false]:=rfl
def oM(T:TT K mg):Callee P w K mg base "check_box" 4 ["thing"] (sp3 K mg aP):=okP (T.d.get 23 rfl) (ax (N:=["thing"]) (by decide)) (λ_ _ _ _ _ _=>ar1 λ_=>rfl) λnd _ _ _ _ _ _ _ hr=>'d'
def ko:PSt:=
 (aw (i7 (ai bH (aa (af 0) ag)) (pOp bGe (af 0) (ah 1))))
def dg:PFn:=fnP [false] 1 ko
def qW:dg.ms=[false]:=rfl
def oQ(T:TT K mg):Callee P w K mg base "is_weight" 2 ["thing"] (sp3 K mg dg):=okP (T.d.get 27 rfl) (ax (N:=["thing"]) (by decide)) (λ_ _ _ _ _ _=>ar1 λ_=>rfl) λnd _ _ _ _ _ _ _ hr=>'d'
def gO:PSt:=
 (aj (xIf (qO (qNo (qOf (pFn (bp cu) (aa (af 0) (aa (pTy "list") ag))))) (qOf (pOp bEq (pFn bK (aa (af 0) ag)) (ah 0)))) (dY "NoWeights" (aa (aZ "this is no list of weights") ag)) xNx)
  (aj (xIf (qNo (qOf (pFn iS (aa (pLC (bB (af 0)) [none] (by decide) (gtN 0) qY (ai dg (aa (af 0) ag))) ag)))) (dY "NoWeights" (aa (aZ "a weight is a whole number from 1 on") ag)) xNx)
  (xIf (qOf (pOp bGt (pFn bK (aa (af 0) ag)) gR)) (dY "TooMany" (aa (aZ "these are more weights than forty") ag)) xNx)))
def aG:PFn:=fnP [false] 1 gO
def kF:aG.ms=[false]:=rfl
def ka(T:TT K mg):Callee P w K mg base "check_weights" 3 ["thing"] (sp3 K mg aG):=okP (T.d.get 28 rfl) (ax (N:=["thing"]) (by decide)) (λ_ _ _ _ _ _=>ar1 λ_=>rfl) λnd _ _ _ _ _ _ _ hr=>(au 'd' (au (lO (rM (lZ (d9 (zW (K:=K) rfl rfl) qE rfl (T.n rfl) (by first |exact boF rfl |exact boT rfl) (bP (gn ["thing"] (ao (top 28)).names ["weight"] [none] 'd' (λnd _ _ _ _ _=>'d') (λ_ _ _ _ _ _=>bD) (λnd _ _ _ _ _=>'d')) 'd')))) 'd' 'd') 'd'))
def nT:PSt:=
 (aw (pOp bLt (pOp aC (pOp bIx (af 0) (ah 0)) (pOp bIx (af 1) (ah 1))) (pOp aC (pOp bIx (af 1) (ah 0)) (pOp bIx (af 0) (ah 1)))))
def eB:PFn:=fnP [false,false] 2 nT
def vH:eB.ms=[false,false]:=rfl
def sW(T:TT K mg):Callee P w K mg base "is_less" 1 ["one", "other"] (sp3 K mg eB):=okP (T.d.get 17 rfl) (ax (N:=["one", "other"]) (by decide)) (λ_ _ _ _ _ _=>ar2 λ_ _=>rfl) λnd _ _ _ _ _ _ _ hr=>'d'
def lJ:PSt:=
 (aj (aO (ai aP (aa (af 0) ag)))
  (aj (xIf (qOf (ai eB (aa (pOp bIx (af 0) (ah 2)) (aa (pOp bIx (af 0) (ah 3)) ag)))) (aw (aZ "down")) xNx)
  (aw (aZ "across"))))
def cX:PFn:=fnP [false] 1 lJ
def sF:cX.ms=[false]:=rfl
def pJ(T:TT K mg):Callee P w K mg base "long_way" 5 ["box"] (sp3 K mg cX):=okP (T.d.get 29 rfl) (ax (N:=["box"]) (by decide)) (λ_ _ _ _ _ _=>ar1 λ_=>rfl) λnd _ _ _ _ _ _ _ hr=>'d'
def lX:PSt:=
 (aj (xIf (qOf (pOp bEq (af 1) (ah 0))) (dY "NoFraction" (aa (aZ "a fraction has no bottom of 0") ag)) xNx)
  (aj (ar false 2 (ai bF (aa (af 0) (aa (af 1) ag))))
  (aj (xIf (qOf (pOp bLt (af 1) (ah 0))) (ar false 2 (pUn wj (af 2))) xNx)
  (aw (ba (aa (pOp eN (af 0) (af 2)) (aa (pOp eN (af 1) (af 2)) ag)))))))
def bc:PFn:=fnP [false,false] 3 lX
def sN:bc.ms=[false,false]:=rfl
def rj(T:TT K mg):Callee P w K mg base "fraction" 2 ["top", "bottom"] (sp3 K mg bc):=okP (T.d.get 13 rfl) (ax (N:=["top", "bottom", "divisor"]) (by decide)) (λ_ _ _ _ _ _=>ar2 λ_ _=>rfl) λnd _ _ _ _ _ _ _ hr=>'d'
def zd:PSt:=
 (aw (ai bc (aa (pOp aC (pOp bIx (af 0) (ah 0)) (pOp bIx (af 1) (ah 1))) (aa (pOp aC (pOp bIx (af 0) (ah 1)) (pOp bIx (af 1) (ah 0))) ag))))
def iC:PFn:=fnP [false,false] 2 zd
def Dn:iC.ms=[false,false]:=rfl
def BF(T:TT K mg):Callee P w K mg base "over" 3 ["one", "other"] (sp3 K mg iC):=okP (T.d.get 16 rfl) (ax (N:=["one", "other"]) (by decide)) (λ_ _ _ _ _ _=>ar2 λ_ _=>rfl) λnd _ _ _ _ _ _ _ hr=>'d'
def uN:PSt:=
 (aj (xIf (qOf (pOp bEq (ai cX (aa (af 0) ag)) (aZ "across"))) (aw (ai iC (aa (pOp bIx (af 0) (ah 2)) (aa (pOp bIx (af 0) (ah 3)) ag)))) xNx)
  (aw (ai iC (aa (pOp bIx (af 0) (ah 3)) (aa (pOp bIx (af 0) (ah 2)) ag)))))
def eD:PFn:=fnP [false] 1 uN
def A8:eD.ms=[false]:=rfl
def zi(T:TT K mg):Callee P w K mg base "shape" 6 ["box"] (sp3 K mg eD):=okP (T.d.get 30 rfl) (ax (N:=["box"]) (by decide)) (λ_ _ _ _ _ _=>ar1 λ_=>rfl) λnd _ _ _ _ _ _ _ hr=>'d'
def dD:PSt:=
 (xIf (qOf (ai eB (aa (af 1) (aa (af 2) ag)))) (ar false 1 (af 2)) xNx)
def jh:PSt:=
 (aj (ar false 1 (pOp bIx (af 0) (ah 0)))
  (aj (fB (bB (af 0)) (gtN 2) (dD))
  (aw (af 1))))
def bR:PFn:=fnP [false] 3 jh
def nG:bR.ms=[false]:=rfl
def mz(T:TT K mg):Callee P w K mg base "greatest_of" 2 ["fractions"] (sp3 K mg bR):=okP (T.d.get 18 rfl) (ax (N:=["fractions", "found", "one"]) (by decide)) (λ_ _ _ _ _ _=>ar1 λ_=>rfl) λnd _ _ _ _ _ _ _ hr=>'d'
def cF:PSt:=
 (aO (g0 3 er (aa (ai bc (aa (pOp aF (af 4) (af 5)) (aa (af 5) ag))) ag)))
def fT:PSt:=
 (aj (ar false 2 (pFn j7 (aa (af 1) ag)))
  (aj (ar true 3 (cm (aa (ai eD (aa (af 0) ag)) (aa (ba (aa (ah 3) (aa (ah 1) ag))) ag))))
  (aj (fB (oZ (aa (af 2) (aa (pSl (af 2) (oS (ah 1)) oN) ag))) (gtX (gtT 2 (aT (gtN 4) (aT (gtN 5) dP)))) (cF))
  (aw (ai bR (aa (af 3) ag))))))
def bX:PFn:=fnP [false,false] 6 fT
def jy:bX.ms=[false,false]:=rfl
def jl(T:TT K mg):Callee P w K mg base "bound_of_thirds" 7 ["room", "weights"] (sp3 K mg bX):=okP (T.d.get 64 rfl) (ax (N:=["room", "weights", "falling", "found", "greater", "lesser"]) (by decide)) (λ_ _ _ _ _ _=>ar2 λ_ _=>rfl) λnd _ _ _ _ _ _ _ hr=>'d'
def uw:PSt:=
 (aj (ar false 1 (pLC (bB (af 0)) [none] (by decide) (gtN 0) qY (ai eD (aa (af 0) ag))))
  (aj (ar false 2 (ai bR (aa (af 1) ag)))
  (aw (ba (aa (af 2) (aa (mj eE (af 1) (aa (af 2) ag)) ag))))))
def gc:PFn:=fnP [false] 3 uw
def BH:gc.ms=[false]:=rfl
def yJ(T:TT K mg):Callee P w K mg base "worst" 7 ["boxes"] (sp3 K mg gc):=okP (T.d.get 62 rfl) (ax (N:=["boxes", "shapes", "greatest"]) (by decide)) (λ_ _ _ _ _ _=>ar1 λ_=>rfl) λnd _ _ _ _ _ _ _ hr=>(au (vw nd ["boxes", "shapes", "greatest"] (ao (top 62)).names ["box"] [none] 'd' (λnd _ _ _ _ _=>'d') (λ_ _ _ _ _ _=>bD) (λnd _ _ _ _ _=>'d')) 'd')
def kM:PSt:=
 (aw (i7 (pFn (bp cu) (aa (af 0) (aa (pTy "str") ag))) (pOp bIn (af 0) mL)))
def dC:PFn:=fnP [false] 1 kM
def xI:dC.ms=[false]:=rfl
def vd(T:TT K mg):Callee P w K mg base "is_way" 1 ["thing"] (sp3 K mg dC):=okP (T.d.get 24 rfl) (ax (N:=["thing"]) (by decide)) (λ_ _ _ _ _ _=>ar1 λ_=>rfl) λnd _ _ _ _ _ _ _ hr=>'d'
def hZ:PSt:=
 (aj (xIf (qO (qNo (qOf (pFn (bp cu) (aa (af 0) (aa (pTy "tuple") ag))))) (qOf (pOp bNe (pFn bK (aa (af 0) ag)) (ah 2)))) (aw (pBl false)) xNx)
  (aw (i7 (ai dC (aa (pOp bIx (af 0) (ah 0)) ag)) (i7 (pFn (bp cu) (aa (pOp bIx (af 0) (ah 1)) (aa (pTy "tuple") ag))) (pOp bGe (pFn bK (aa (pOp bIx (af 0) (ah 1)) ag)) (ah 2))))))
def cK:PFn:=fnP [false] 1 hZ
def pL:cK.ms=[false]:=rfl
def oB(T:TT K mg):Callee P w K mg base "is_branch" 2 ["thing"] (sp3 K mg cK):=okP (T.d.get 43 rfl) (ax (N:=["thing"]) (by decide)) (λ_ _ _ _ _ _=>ar1 λ_=>rfl) λnd _ _ _ _ _ _ _ hr=>'d'
def cZ:PSt:=
 (aj (ar false 4 (lu 3 lV))
  (xIf (qOf (ai cK (aa (af 4) ag))) (aO (g0 3 gN (aa (pOp bIx (af 4) (ah 1)) ag))) (xIf (qO (qNo (qOf (ai bH (aa (af 4) ag)))) (qO (qOf (pOp bLt (af 4) (ah 0))) (qO (qOf (pOp bGe (af 4) (af 1))) (qOf (pOp AV (af 4) (af 2)))))) (aw (pBl false)) (aO (AD 2 (aa (af 4) ag))))))
def n0:PSt:=
 (aj (ar true 2 wq)
  (aj (ar true 3 (cm (aa (af 0) ag)))
  (aj (xWh (qTr (af 3)) (cZ))
  (aw (pOp bEq (pFn pw (aa (af 2) ag)) (af 1))))))
def fJ:PFn:=fnP [false,false] 5 n0
def wc:fJ.ms=[false,false]:=rfl
def sH(T:TT K mg):Callee P w K mg base "is_tree" 3 ["thing", "many"] (sp3 K mg fJ):=okP (T.d.get 44 rfl) (ax (N:=["thing", "many", "seen", "waiting", "part"]) (by decide)) (λ_ _ _ _ _ _=>ar2 λ_ _=>rfl) λnd _ _ _ _ _ _ _ hr=>'d'
def jA:PSt:=
 (xIf (qNo (qOf (ai fJ (aa (af 0) (aa (af 1) ag))))) (dY "NoTree" (aa (aZ "this is no tree for the things") ag)) xNx)
def du:PFn:=fnP [false,false] 2 jA
def oG:du.ms=[false,false]:=rfl
def mO(T:TT K mg):Callee P w K mg base "check_tree" 4 ["thing", "many"] (sp3 K mg du):=okP (T.d.get 45 rfl) (ax (N:=["thing", "many"]) (by decide)) (λ_ _ _ _ _ _=>ar2 λ_ _=>rfl) λnd _ _ _ _ _ _ _ hr=>'d'
def kx:PSt:=
 (xIf (qNo (qOf (ai dC (aa (af 0) ag)))) (dY "NoWay" (aa (aZ "this is no way") ag)) xNx)
def dZ:PFn:=fnP [false] 1 kx
def p9:dZ.ms=[false]:=rfl
def oP(T:TT K mg):Callee P w K mg base "check_way" 2 ["way"] (sp3 K mg dZ):=okP (T.d.get 25 rfl) (ax (N:=["way"]) (by decide)) (λ_ _ _ _ _ _=>ar1 λ_=>rfl) λnd _ _ _ _ _ _ _ hr=>'d'
def uj:PSt:=
 (aw (ai bc (aa (pOp aF (pOp aC (pOp bIx (af 0) (ah 0)) (pOp bIx (af 1) (ah 1))) (pOp aC (pOp bIx (af 1) (ah 0)) (pOp bIx (af 0) (ah 1)))) (aa (pOp aC (pOp bIx (af 0) (ah 1)) (pOp bIx (af 1) (ah 1))) ag))))
def iz:PFn:=fnP [false,false] 2 uj
def AM:iz.ms=[false,false]:=rfl
def yi(T:TT K mg):Callee P w K mg base "added" 3 ["one", "other"] (sp3 K mg iz):=okP (T.d.get 14 rfl) (ax (N:=["one", "other"]) (by decide)) (λ_ _ _ _ _ _=>ar2 λ_ _=>rfl) λnd _ _ _ _ _ _ _ hr=>'d'
def tK:PSt:=
 (aw (ai bc (aa (pOp aC (pOp bIx (af 0) (ah 0)) (pOp bIx (af 1) (ah 0))) (aa (pOp aC (pOp bIx (af 0) (ah 1)) (pOp bIx (af 1) (ah 1))) ag))))
def gf:PFn:=fnP [false,false] 2 tK
def AR:gf.ms=[false,false]:=rfl
def wN(T:TT K mg):Callee P w K mg base "times" 3 ["one", "other"] (sp3 K mg gf):=okP (T.d.get 15 rfl) (ax (N:=["one", "other"]) (by decide)) (λ_ _ _ _ _ _=>ar2 λ_ _=>rfl) λnd _ _ _ _ _ _ _ hr=>'d'
def gT:PSt:=
 (aj (ar false 7 (ai iz (aa (af 0) (aa (ai gf (aa (af 1) (aa (ai bc (aa (af 4) (aa (af 3) ag))) ag))) ag))))
  (aj (aO (g0 5 er (aa (ba (aa (af 7) (aa (ai gf (aa (af 1) (aa (ai bc (aa (af 6) (aa (af 3) ag))) ag))) ag))) ag)))
  (vQ 4 vA (af 6))))
def qU:PSt:=
 (aj (ar false 3 (pFn cA (aa (af 2) ag)))
  (aj (ar false 4 (ah 0))
  (aj (ar true 5 (cm ag))
  (aj (fB (bB (af 2)) (gtN 6) (gT))
  (aw (af 5))))))
def fA:PFn:=fnP [false,false,false] 8 qU
def wQ:fA.ms=[false,false,false]:=rfl
def vh(T:TT K mg):Callee P w K mg base "shares" 4 ["start", "length", "weights"] (sp3 K mg fA):=okP (T.d.get 31 rfl) (ax (N:=["start", "length", "weights", "whole", "ahead", "found", "weight", "begin"]) (by decide)) (λ_ _ _ _ _ _=>ar3 λ_ _ _=>rfl) λnd _ _ _ _ _ _ _ hr=>'d'
def pQ:PSt:=
 (aj (aO (ai aP (aa (af 0) ag)))
  (aj (aO (ai dZ (aa (af 1) ag)))
  (aj (aO (ai aG (aa (af 2) ag)))
  (aj (jW (af 0) (gtX (gtT 4 (aT (gtN 3) (aT (gtN 4) (aT (gtN 5) (aT (gtN 6) dP)))))))
  (aj (xIf (qOf (pOp bEq (af 1) (aZ "across"))) (aw (pLC (bB (ai fA (aa (af 3) (aa (af 5) (aa (af 2) ag))))) [none,none,some 4,some 6] (by decide) (gtT 2 (aT (gtN 0) (aT (gtN 1) dP))) qY (ba (aa (af 0) (aa (af 2) (aa (af 1) (aa (af 3) ag))))))) xNx)
  (aw (pLC (bB (ai fA (aa (af 4) (aa (af 6) (aa (af 2) ag))))) [none,none,some 3,some 5] (by decide) (gtT 2 (aT (gtN 0) (aT (gtN 1) dP))) qY (ba (aa (af 2) (aa (af 0) (aa (af 3) (aa (af 1) ag))))))))))))
def d7:PFn:=fnP [false,false,false] 7 pQ
def zb:d7.ms=[false,false,false]:=rfl
def mI(T:TT K mg):Callee P w K mg base "parted" 5 ["box", "way", "weights"] (sp3 K mg d7):=okP (T.d.get 32 rfl) (ax (N:=["box", "way", "weights", "left", "top", "wide", "high"]) (by decide)) (λ_ _ _ _ _ _=>ar3 λ_ _ _=>rfl) λnd _ _ _ _ _ _ _ hr=>(au 'd' (au 'd' (au 'd' (au 'd' (au (lO 'd' (eA (fI (gn ["box", "way", "weights", "left", "top", "wide", "high"] (ao (top 32)).names ["begin", "length", "top", "high"] [none,none,some 4,some 6] 'd' (λnd _ _ _ _ _=>'d') (λ_ _ _ _ _ _=>bD) (λnd _ _ _ _ _=>'d')))) 'd') (eA (fI (gn ["box", "way", "weights", "left", "top", "wide", "high"] (ao (top 32)).names ["begin", "length", "left", "wide"] [none,none,some 3,some 5] 'd' (λnd _ _ _ _ _=>'d') (λ_ _ _ _ _ _=>bD) (λnd _ _ _ _ _=>'d')))))))))
def b9:PSt:=
 (aj (ar false 3 (lu 2 lV))
  (xIf (qOf (pFn (bp cu) (aa (af 3) (aa (pTy "tuple") ag)))) (aO (g0 2 gN (aa (pOp bIx (af 3) (ah 1)) ag))) (aO (g0 1 er (aa (af 3) ag)))))
def kh:PSt:=
 (aj (ar true 1 (cm ag))
  (aj (ar true 2 (cm (aa (af 0) ag)))
  (aj (xWh (qTr (af 2)) (b9))
  (aw (af 1)))))
def df:PFn:=fnP [false] 4 kh
def rq:df.ms=[false]:=rfl
def oy(T:TT K mg):Callee P w K mg base "things_in" 1 ["tree"] (sp3 K mg df):=okP (T.d.get 46 rfl) (ax (N:=["tree", "found", "waiting", "part"]) (by decide)) (λ_ _ _ _ _ _=>ar1 λ_=>rfl) λnd _ _ _ _ _ _ _ hr=>'d'
def lC:PSt:=
 (aj (jW (af 2) (gtX (gtT 2 (aT (gtN 3) (aT (gtN 4) dP)))))
  (aw (ai d7 (aa (af 0) (aa (af 3) (aa (pLC (bB (af 4)) [none,some 1] (by decide) (gtN 0) qY (pFn cA (aa (pLC (bB (ai df (aa (af 0) ag))) [none,some 1] (by decide) (gtN 0) qY (pOp bIx (af 1) (af 0))) ag))) ag))))))
def eL:PFn:=fnP [false,false,false] 5 lC
def sE:eL.ms=[false,false,false]:=rfl
def qN(T:TT K mg):Callee P w K mg base "parts_of" 6 ["room", "weights", "tree"] (sp3 K mg eL):=okP (T.d.get 49 rfl) (ax (N:=["room", "weights", "tree", "way", "trees"]) (by decide)) (λ_ _ _ _ _ _=>ar3 λ_ _ _=>rfl) λnd _ _ _ _ _ _ _ hr=>(au 'd' (eA (fI (zcF (mI T) hr (bP 'd' (bP 'd' (bP (gn ["room", "weights", "tree", "way", "trees"] (ao (top 49)).names ["part", "weights"] [none,some 1] 'd' (λnd _ _ _ _ _=>'d') (λ_ _ _ _ _ _=>bD) (λnd _ _ _ _ _=>(d9 (og (K:=K) rfl rfl) xh rfl (T.n rfl) (by first |exact boF rfl |exact boT rfl) (bP (gn ["part", "weights"] [(PySem.Str.ofString ".0",PySem.NameKind.local),(PySem.Str.ofString "part",PySem.NameKind.local),(PySem.Str.ofString "sum",PySem.NameKind.globalImplicit),(PySem.Str.ofString "things_in",PySem.NameKind.globalImplicit),(PySem.Str.ofString "weights",PySem.NameKind.cell)] ["thing", "weights"] [none,some 1] 'd' (λnd _ _ _ _ _=>'d') (λ_ _ _ _ _ _=>bD) (λnd _ _ _ _ _=>'d')) 'd')))) 'd')))))))
def jd(s:PFx [false,false,false,true]):PSt:=
 (aO (ai s.fn (aa (af 5) (aa (af 1) (aa (af 4) (aa (af 3) ag))))))
def gi(s:PFx [false,false,false,true]):PSt:=
 (aj (xIf (qNo (qOf (pFn (bp cu) (aa (af 2) (aa (pTy "tuple") ag))))) (aj (sr 3 seI (af 2) (af 0))
  vj) xNx)
  (fB (oZ (aa (pOp bIx (af 2) (ah 1)) (aa (ai eL (aa (af 0) (aa (af 1) (aa (af 2) ag)))) ag))) (gtX (gtT 2 (aT (gtN 4) (aT (gtN 5) dP)))) (jd s)))
def de:Nat->PFx [false,false,false,true]
 |0=>PFx.none [false,false,false,true]
 |n+1=>PFx.of [false,false,false,true] 6 (gi (de n))
theorem mf(T:TT K mg):∀n,Callee P w K mg base "place" (8+n) ["room", "weights", "tree", "placed"] (sp3 K mg (de n).fn)
 |0=>ok0 (T.d.get 48 rfl) (ax (N:=["room", "weights", "tree", "placed", "part", "box"]) (by decide)) (λ_ _ _ _ _ _=>ar4 λ_ _ _ _=>rfl)
 |
  n+1=>by
  have ih:=mf T n;show Callee _ _ _ _ _ _ _ _ (sp3 _ _ (PFx.of [false,false,false,true] 6 (gi (de n))).fn);exact okX (k:=8+n) (T.d.get 48 rfl) (ax (N:=["room", "weights", "tree", "placed", "part", "box"]) (by decide)) (λ_ _ _ _ _ _=>ar4 λ_ _ _ _=>rfl) λnd _ _ _ _ _ _ _ hr=>'d'
def mw:PSt:=
 (aj (aO (ai aP (aa (af 0) ag)))
  (aj (aO (ai aG (aa (af 1) ag)))
  (aj (aO (ai du (aa (af 2) (aa (pFn bK (aa (af 1) ag)) ag))))
  (aj (ar true 3 pD0)
  (aj (aO (ai (de 42).fn (aa (af 0) (aa (af 1) (aa (af 2) (aa (af 3) ag))))))
  (aw (pLC (j6 (aa (pFn bK (aa (af 1) ag)) ag)) [none,some 3] (by decide) (gtN 0) qY (pOp vO (af 1) (af 0)))))))))
def dG:PFn:=fnP [false,false,false] 4 mw
def sP:dG.ms=[false,false,false]:=rfl
def rC(T:TT K mg):Callee P w K mg base "boxes_by" 51 ["room", "weights", "tree"] (sp3 K mg dG):=okP (T.d.get 47 rfl) (ax (N:=["room", "weights", "tree", "placed"]) (by decide)) (λ_ _ _ _ _ _=>ar3 λ_ _ _=>rfl) λnd _ _ _ _ _ _ _ hr=>(au 'd' (au 'd' (au 'd' (au 'd' (au 'd' (eA (fI (gn ["room", "weights", "tree", "placed"] (ao (top 47)).names ["number", "placed"] [none,some 3] 'd' (λnd _ _ _ _ _=>'d') (λ_ _ _ _ _ _=>bD) (λnd _ _ _ _ _=>'d')))))))))
def fU:PSt:=
 (aj (ar false 1 (pLC (j8 (aa (ah 1) (aa (pFn bK (aa (af 0) ag)) ag))) [none,some 0] (by decide) (gtN 0) qY (pFn dN (aa (pOp c7 (pOp aC (ah 2) (pFn cA (aa (pSl (af 1) oN (oS (af 0))) ag))) (pFn cA (aa (af 1) ag))) ag))))
  (aw (pOp aF (mj eE (af 1) (aa (pFn lR (aa (af 1) ag)) ag)) (ah 1))))
def bz:PFn:=fnP [false] 2 fU
def jm:bz.ms=[false]:=rfl
def eT(T:TT K mg):Callee P w K mg base "nearest_to_half" 1 ["weights"] (sp3 K mg bz):=okP (T.d.get 59 rfl) (ax (N:=["weights", "apart"]) (by decide)) (λ_ _ _ _ _ _=>ar1 λ_=>rfl) λnd _ _ _ _ _ _ _ hr=>(au (vw nd ["weights", "apart"] (ao (top 59)).names ["many", "weights"] [none,some 0] 'd' (λnd _ _ _ _ _=>'d') (λ_ _ _ _ _ _=>bD) (λnd _ _ _ _ _=>'d')) 'd')
def cH:PSt:=
 (vQ 1 vA (ah 1))
def fS:PSt:=
 (aj (ar false 1 (ah 1))
  (aj (xWh (qOf (pOp bLt (pOp aC (ah 3) (pFn cA (aa (pSl (af 0) oN (oS (af 1))) ag))) (pFn cA (aa (af 0) ag)))) (cH))
  (aw (af 1))))
def bu:PFn:=fnP [false] 2 fS
def jx:bu.ms=[false]:=rfl
def eU(T:TT K mg):Callee P w K mg base "fewest_to_third" 1 ["weights"] (sp3 K mg bu):=okP (T.d.get 60 rfl) (ax (N:=["weights", "many"]) (by decide)) (λ_ _ _ _ _ _=>ar1 λ_=>rfl) λnd _ _ _ _ _ _ _ hr=>'d'
def js:PSt:=
 (aw (ai d7 (aa (af 0) (aa (ai cX (aa (af 0) ag)) (aa (cm (aa (pFn cA (aa (pSl (af 1) oN (oS (af 2))) ag)) (aa (pFn cA (aa (pSl (af 1) (oS (af 2)) oN) ag)) ag))) ag)))))
def dq:PFn:=fnP [false,false,false] 3 js
def oD:dq.ms=[false,false,false]:=rfl
def nB(T:TT K mg):Callee P w K mg base "cut_in_two" 6 ["room", "weights", "many"] (sp3 K mg dq):=okP (T.d.get 33 rfl) (ax (N:=["room", "weights", "many"]) (by decide)) (λ_ _ _ _ _ _=>ar3 λ_ _ _=>rfl) λnd _ _ _ _ _ _ _ hr=>'d'
def bW(s:PFx [false,false,false,false]):PSt:=
 (aj (xIf (qOf (pOp bEq (pFn bK (aa (af 1) ag)) (ah 1))) (aw (pOp bIx (af 1) (ah 0))) xNx)
  (aj (ar false 4 (lW [("nearest_to_half",bz),("fewest_to_third",bu)] (af 3) (aa (af 2) ag)))
  (aj (jW (ai dq (aa (af 0) (aa (af 2) (aa (af 4) ag)))) (gtX (gtU 2 (aT (gtN 5) (aT (gtN 6) dP)))))
  (aj (ar false 7 (ai s.fn (aa (af 5) (aa (pSl (af 1) oN (oS (af 4))) (aa (pSl (af 2) oN (oS (af 4))) (aa (af 3) ag))))))
  (aj (ar false 8 (ai s.fn (aa (af 6) (aa (pSl (af 1) (oS (af 4)) oN) (aa (pSl (af 2) (oS (af 4)) oN) (aa (af 3) ag))))))
  (aw (ba (aa (ai cX (aa (af 0) ag)) (aa (ba (aa (af 7) (aa (af 8) ag))) ag)))))))))
def aM:Nat->PFx [false,false,false,false]
 |0=>PFx.none [false,false,false,false]
 |n+1=>PFx.of [false,false,false,false] 9 (bW (aM n))
theorem d6(T:TT K mg):∀n,Callee P w K mg base "tree_in_two" (8+n) ["room", "numbers", "weights", "how_many"] (sp3 K mg (aM n).fn)
 |0=>ok0 (T.d.get 58 rfl) (ax (N:=["room", "numbers", "weights", "how_many", "many", "first", "second", "ahead", "behind"]) (by decide)) (λ_ _ _ _ _ _=>ar4 λ_ _ _ _=>rfl)
 |
  n+1=>by
  have ih:=d6 T n;show Callee _ _ _ _ _ _ _ _ (sp3 _ _ (PFx.of [false,false,false,false] 9 (bW (aM n))).fn);exact okX (k:=8+n) (T.d.get 58 rfl) (ax (N:=["room", "numbers", "weights", "how_many", "many", "first", "second", "ahead", "behind"]) (by decide)) (λ_ _ _ _ _ _=>ar4 λ_ _ _ _=>rfl) λnd _ _ _ _ _ _ _ hr=>(au 'd' (au (zsS 4 nd (Bi (tO (eT T) (hr.mono (by omega)) (tO (eU T) (hr.mono (by omega)) HV)) 'd' (CD B7) 'd')) 'd'))
def jk:PSt:=
 (aj (aO (ai aP (aa (af 0) ag)))
  (aj (aO (ai aG (aa (af 1) ag)))
  (aw (ai (aM 42).fn (aa (af 0) (aa (pFn lT (aa (pFn bK (aa (af 1) ag)) ag)) (aa (af 1) (aa (vf "nearest_to_half") ag))))))))
def bU:PFn:=fnP [false,false] 2 jk
def nj:bU.ms=[false,false]:=rfl
def lK(T:TT K mg):Callee P w K mg base "halves_tree" 51 ["room", "weights"] (sp3 K mg bU):=okP (T.d.get 56 rfl) (ax (N:=["room", "weights"]) (by decide)) (λ_ _ _ _ _ _=>ar2 λ_ _=>rfl) λnd _ _ _ _ _ _ _ hr=>'d'
def kr:Nat->PFx [false,false]:=λ_=>PFx.none [false,false]
def oH(T:TT K mg):Callee P w K mg base "rows_tree" 2 ["room", "weights"] (sp3 K mg (kr 0).fn):=by show Callee _ _ _ _ _ _ _ _ (sp3 _ _ (PFx.none [false,false]).fn);exact ok0 (T.d.get 35 rfl) (ax (N:=["room", "weights"]) (by decide)) (λ_ _ _ _ _ _=>ar2 λ_ _=>rfl)
def gW:Nat->PFx [false,false]:=λ_=>PFx.none [false,false]
def kd(T:TT K mg):Callee P w K mg base "greatest_tree" 2 ["room", "weights"] (sp3 K mg (gW 0).fn):=by show Callee _ _ _ _ _ _ _ _ (sp3 _ _ (PFx.none [false,false]).fn);exact ok0 (T.d.get 36 rfl) (ax (N:=["room", "weights", "numbers"]) (by decide)) (λ_ _ _ _ _ _=>ar2 λ_ _=>rfl)
def eM:PSt:=
 (aw (pFn r9 (aa (pFn bK (aa (af 0) ag)) (aa (af 0) ag))))
def bj:PFn:=fnP [false] 1 eM
def iL:bj.ms=[false]:=rfl
def ip(T:TT K mg):Callee P w K mg base "by_falling_weights" 1 ["weights"] (sp3 K mg bj):=okPL (T.d.get 37 rfl) T.l (ax (N:=["weights"]) (by decide)) (λ_ _ _ _ _ _=>ar1 λ_=>rfl) λnd _ _ _ _ _ _ _ _ e2 e3 hr=>(eA (fI (El rfl hr.depth rfl (T.n rfl) rfl (T.n rfl) rfl rfl rfl e2 e3 'd')))
def ji:PSt:=
 (aj (aO (ai aP (aa (af 0) ag)))
  (aj (aO (ai aG (aa (af 1) ag)))
  (aj (ar false 2 (ai bj (aa (af 1) ag)))
  (aw (ai (aM 42).fn (aa (af 0) (aa (af 2) (aa (pLC (bB (af 2)) [none,some 1] (by decide) (gtN 0) qY (pOp bIx (af 1) (af 0))) (aa (vf "fewest_to_third") ag)))))))))
def bS:PFn:=fnP [false,false] 3 ji
def nE:bS.ms=[false,false]:=rfl
def my(T:TT K mg):Callee P w K mg base "thirds_tree" 51 ["room", "weights"] (sp3 K mg bS):=okP (T.d.get 57 rfl) (ax (N:=["room", "weights", "numbers"]) (by decide)) (λ_ _ _ _ _ _=>ar2 λ_ _=>rfl) λnd _ _ _ _ _ _ _ hr=>(au 'd' (au 'd' (au 'd' (eA (fI (zcF (d6 T 42) hr (bP 'd' (bP 'd' (bP (gn ["room", "weights", "numbers"] (ao (top 57)).names ["number", "weights"] [none,some 1] 'd' (λnd _ _ _ _ _=>'d') (λ_ _ _ _ _ _=>bD) (λnd _ _ _ _ _=>'d')) 'd')))))))))
def iF:PSt:=
 (aj (aO (ai aP (aa (af 1) ag)))
  (aj (aO (ai aG (aa (af 2) ag)))
  (aj (xIf (qOf (pOp bEq (pFn bK (aa (af 2) ag)) (ah 1))) (aw (ah 0)) xNx)
  (aw (ba (aa (af 0) (aa (pFn lN (aa (pFn bK (aa (af 2) ag)) ag)) ag)))))))
def cT:PFn:=fnP [false,false,false] 3 iF
def mJ:cT.ms=[false,false,false]:=rfl
def kY(T:TT K mg):Callee P w K mg base "side_by_side" 5 ["way", "room", "weights"] (sp3 K mg cT):=okP (T.d.get 55 rfl) (ax (N:=["way", "room", "weights"]) (by decide)) (λ_ _ _ _ _ _=>ar3 λ_ _ _=>rfl) λnd _ _ _ _ _ _ _ hr=>'d'
def fE:PSt:=
 (aj (aO (ai b8 (aa (af 0) ag)))
  (aj (xIf (qOf (pOp bEq (af 0) (aZ "halves"))) (aw (ai bU (aa (af 1) (aa (af 2) ag)))) xNx)
  (aj (xIf (qOf (pOp bEq (af 0) (aZ "rows"))) (aw (ai (kr 0).fn (aa (af 1) (aa (af 2) ag)))) xNx)
  (aj (xIf (qOf (pOp bEq (af 0) (aZ "greatest"))) (aw (ai (gW 0).fn (aa (af 1) (aa (af 2) ag)))) xNx)
  (aj (xIf (qOf (pOp bEq (af 0) (aZ "thirds"))) (aw (ai bS (aa (af 1) (aa (af 2) ag)))) xNx)
  (aw (ai cT (aa (af 0) (aa (af 1) (aa (af 2) ag))))))))))
def aV:PFn:=fnP [false,false,false] 3 fE
def pD:aV.ms=[false,false,false]:=rfl
def oF(T:TT K mg):Callee P w K mg base "rule_tree" 52 ["rule", "room", "weights"] (sp3 K mg aV):=okP (T.d.get 53 rfl) (ax (N:=["rule", "room", "weights"]) (by decide)) (λ_ _ _ _ _ _=>ar3 λ_ _ _=>rfl) λnd _ _ _ _ _ _ _ hr=>'d'
def jC:PSt:=
 (aw (ai dG (aa (af 1) (aa (af 2) (aa (ai aV (aa (af 0) (aa (af 1) (aa (af 2) ag)))) ag)))))
def bA:PFn:=fnP [false,false,false] 3 jC
def vL:bA.ms=[false,false,false]:=rfl
def sS(T:TT K mg):Callee P w K mg base "by_rule" 53 ["rule", "room", "weights"] (sp3 K mg bA):=okP (T.d.get 54 rfl) (ax (N:=["rule", "room", "weights"]) (by decide)) (λ_ _ _ _ _ _=>ar3 λ_ _ _=>rfl) λnd _ _ _ _ _ _ _ hr=>'d'
def fX:PSt:=
 (aj (aO (ai b8 (aa (af 0) ag)))
  (aj (aO (ai aP (aa (af 1) ag)))
  (aj (aO (ai aG (aa (af 2) ag)))
  (aj (xIf (qOf (pOp bEq (af 0) (aZ "thirds"))) (aw (ai bX (aa (af 1) (aa (af 2) ag)))) xNx)
  (aj (xIf (qOf (pOp bEq (af 0) (aZ "halves"))) (aw (ai bR (aa (cm (aa (ai eD (aa (af 1) ag)) (aa (ai bc (aa (pFn cA (aa (af 2) ag)) (aa (pFn lR (aa (af 2) ag)) ag))) ag))) ag))) xNx)
  (aj (xIf (qOf (pOp bIn (af 0) mL)) (aw (pOp bIx (ai gc (aa (ai bA (aa (af 0) (aa (af 1) (aa (af 2) ag)))) ag)) (ah 0))) xNx)
  (aw BR)))))))
def bI:PFn:=fnP [false,false,false] 3 fX
def sO:bI.ms=[false,false,false]:=rfl
def rY(T:TT K mg):Callee P w K mg base "bound_of" 54 ["rule", "room", "weights"] (sp3 K mg bI):=okP (T.d.get 63 rfl) (ax (N:=["rule", "room", "weights"]) (by decide)) (λ_ _ _ _ _ _=>ar3 λ_ _ _=>rfl) λnd _ _ _ _ _ _ _ hr=>'d'
def kg:PSt:=
 (aj (ar false 1 (ai bM (aa (pOp aC (pOp bIx (pOp bIx (af 0) (ah 2)) (ah 0)) (pOp bIx (pOp bIx (af 0) (ah 3)) (ah 1))) (aa (pOp aC (pOp bIx (pOp bIx (af 0) (ah 2)) (ah 1)) (pOp bIx (pOp bIx (af 0) (ah 3)) (ah 0))) ag))))
  (aj (xIf (qOf (pOp bLt (pOp bIx (af 1) (ah 0)) (pOp bIx (af 1) (ah 1)))) (ar false 1 (ba (aa (pOp bIx (af 1) (ah 1)) (aa (pOp bIx (af 1) (ah 0)) ag)))) xNx)
  (aw (af 1))))
def aU:PFn:=fnP [false] 2 kg
def su:aU.ms=[false]:=rfl
def oC(T:TT K mg):Callee P w K mg base "_law_shape" 2 ["_law_box"] (sp3 K mg aU):=okP (T.d.get 73 rfl) (ax (N:=["_law_box", "_law_found"]) (by decide)) (λ_ _ _ _ _ _=>ar1 λ_=>rfl) λnd _ _ _ _ _ _ _ hr=>'d'
def fF:PSt:=
 (xIf (qOf (pOp bGt (pOp aC (pOp bIx (af 2) (ah 0)) (pOp bIx (af 1) (ah 1))) (pOp aC (pOp bIx (af 1) (ah 0)) (pOp bIx (af 2) (ah 1))))) (ar false 1 (af 2)) xNx)
def lA:PSt:=
 (aj (ar false 1 (pOp bIx (af 0) (ah 0)))
  (aj (fB (bB (pSl (af 0) (oS (ah 1)) oN)) (gtN 2) (fF))
  (aw (af 1))))
def cI:PFn:=fnP [false] 3 lA
def sU:cI.ms=[false]:=rfl
def rZ(T:TT K mg):Callee P w K mg base "_law_most" 1 ["_law_some"] (sp3 K mg cI):=okP (T.d.get 74 rfl) (ax (N:=["_law_some", "_law_found", "_law_one"]) (by decide)) (λ_ _ _ _ _ _=>ar1 λ_=>rfl) λnd _ _ _ _ _ _ _ hr=>'d'
def jq:PSt:=
 (aj (ar false 5 (ai bI (aa (af 4) (aa (af 2) (aa (af 3) ag)))))
  (aj (ar false 6 (ai bA (aa (af 4) (aa (af 2) (aa (af 3) ag)))))
  (aj (ar false 7 (pLC (bB (af 6)) [none] (by decide) (gtN 0) qY (ai aU (aa (af 0) ag))))
  (aj (xIf (qOf (pFn pf (aa (pLC (bB (af 7)) [none,some 5] (by decide) (gtN 0) qY (pOp bGt (pOp aC (pOp bIx (af 0) (ah 0)) (pOp bIx (af 1) (ah 1))) (pOp aC (pOp bIx (af 1) (ah 0)) (pOp bIx (af 0) (ah 1))))) ag))) (aw (pBl false)) xNx)
  (xIf (qOf (pOp bNe (ai gc (aa (af 6) ag)) (ba (aa (ai cI (aa (af 7) ag)) (aa (mj eE (af 7) (aa (ai cI (aa (af 7) ag)) ag)) ag))))) (aw (pBl false)) xNx)))))
def vt:PSt:=
 (aj (ar true 1 (ai cW (aa (af 0) (aa (ah 55) ag))))
  (aj (ar false 2 (ai eK (aa (af 1) ag)))
  (aj (ar false 3 (ai da (aa (af 0) (aa (ah 0) (aa (pOp bIx (cm (aa (ah 9) (aa (ah 40) ag))) (pFn vm (aa (pOp bEq (ai ak (aa (af 1) (aa (ah 6) ag))) (ah 0)) ag))) ag)))))
  (aj (xIf (qOf (pOp bEq (ai ak (aa (af 1) (aa (ah 2) ag))) (ah 0))) (ar false 3 (ai dW (aa (af 1) (aa (pFn bK (aa (af 3) ag)) ag)))) xNx)
  (aj (fB (bB (cm (aa (aZ "thirds") (aa (aZ "halves") (aa (aZ "across") (aa (aZ "down") ag)))))) (gtN 4) (jq))
  (aj (ar false 8 (pFn iX (aa (af 3) ag)))
  (aj (ar false 9 (pFn lI (aa (pOp aF (cm (aa (ah 1) ag)) (pLC (j8 (aa (ah 1) (aa (pFn bK (aa (af 8) ag)) ag))) [none,some 8] (by decide) (gtN 0) qY (pOp aF (pOp eN (pOp bIx (af 1) (af 0)) (pOp bIx (af 1) (pOp c7 (af 0) (ah 1)))) (ah 1)))) ag)))
  (aj (ar false 10 (ai cI (aa (cm (aa (ai aU (aa (af 2) ag)) (aa (ba (aa (ah 3) (aa (ah 1) ag))) (aa (ba (aa (pOp aF (ah 1) (af 9)) (aa (ah 1) ag))) ag)))) ag)))
  (aj (ar false 7 (pLC (bB (ai bA (aa (aZ "thirds") (aa (af 2) (aa (af 3) ag))))) [none] (by decide) (gtN 0) qY (ai aU (aa (af 0) ag))))
  (aw (pFn iS (aa (pLC (bB (af 7)) [none,some 10] (by decide) (gtN 0) qY (pOp bLe (pOp aC (pOp bIx (af 0) (ah 0)) (pOp bIx (af 1) (ah 1))) (pOp aC (pOp bIx (af 1) (ah 0)) (pOp bIx (af 0) (ah 1))))) ag))))))))))))
def oY:PFn:=fnP [false] 11 vt
def Eg(T:TT K mg):Callee P w K mg base "law" 55 ["_law_script"] (sp3 K mg oY):=okP (T.d.get 76 rfl) (ax (N:=["_law_script", "_law_feed_here", "_law_room_here", "_law_weights_here", "_law_rule", "_law_bound", "_law_boxes", "_law_some", "_law_order", "_law_step", "_law_far"]) (by decide)) (λ_ _ _ _ _ _=>ar1 λ_=>rfl) λnd _ _ _ _ _ _ _ hr=>(au 'd' (au 'd' (au 'd' (au 'd' (au (zu own1 rfl 'd' 'd' (au 'd' (au 'd' (au (vw nd ["_law_script", "_law_feed_here", "_law_room_here", "_law_weights_here", "_law_rule", "_law_bound", "_law_boxes", "_law_some", "_law_order", "_law_step", "_law_far"] (ao (top 76)).names ["_law_box"] [none] 'd' (λnd _ _ _ _ _=>'d') (λ_ _ _ _ _ _=>bD) (λnd _ _ _ _ _=>'d')) (au (lO (lZ (d9 (anyK (K:=K) rfl rfl) Fb rfl (T.n rfl) (by first |exact boF rfl |exact boT rfl) (bP (gn ["_law_script", "_law_feed_here", "_law_room_here", "_law_weights_here", "_law_rule", "_law_bound", "_law_boxes", "_law_some", "_law_order", "_law_step", "_law_far"] (ao (top 76)).names ["_law_one", "_law_bound"] [none,some 5] 'd' (λnd _ _ _ _ _=>'d') (λ_ _ _ _ _ _=>bD) (λnd _ _ _ _ _=>'d')) 'd'))) 'd' 'd') 'd'))))) (au 'd' (au (zsS 9 nd (d9 (wJ (K:=K) rfl rfl) Eb rfl (T.n rfl) (by first |exact boF rfl |exact boT rfl) (bP (CN (xX (K:=K) rfl) yW 'd' (gn ["_law_script", "_law_feed_here", "_law_room_here", "_law_weights_here", "_law_rule", "_law_bound", "_law_boxes", "_law_some", "_law_order", "_law_step", "_law_far"] (ao (top 76)).names ["_law_k", "_law_order"] [none,some 8] 'd' (λnd _ _ _ _ _=>'d') (λ_ _ _ _ _ _=>bD) (λnd _ _ _ _ _=>'d'))) 'd'))) (au 'd' (au (vw nd ["_law_script", "_law_feed_here", "_law_room_here", "_law_weights_here", "_law_rule", "_law_bound", "_law_boxes", "_law_some", "_law_order", "_law_step", "_law_far"] (ao (top 76)).names ["_law_box"] [none] 'd' (λnd _ _ _ _ _=>'d') (λ_ _ _ _ _ _=>bD) (λnd _ _ _ _ _=>'d')) (eA (fI (d9 (zW (K:=K) rfl rfl) qE rfl (T.n rfl) (by first |exact boF rfl |exact boT rfl) (bP (gn ["_law_script", "_law_feed_here", "_law_room_here", "_law_weights_here", "_law_rule", "_law_bound", "_law_boxes", "_law_some", "_law_order", "_law_step", "_law_far"] (ao (top 76)).names ["_law_one", "_law_far"] [none,some 10] 'd' (λnd _ _ _ _ _=>'d') (λ_ _ _ _ _ _=>bD) (λnd _ _ _ _ _=>'d')) 'd')))))))))))))
end
noncomputable def fdV (a b k:Int):Val:=.lst [.int a,.int b,.int k]
def CT:fN.G (.int 10) (.int 18)=.val (.int (10^18)):=oR ⟨by decide,by decide,by decide⟩
def dB{a m:Int}(h:0<m):0<=a.fmod m/\a.fmod m<m:=⟨Int.fmod_nonneg_of_pos a h,Int.fmod_lt_of_pos a h⟩
set_option hygiene false in
local macro_rules | `(tactic|simp![$args,*])=>do
 let l <- ("% jV K0 Ji Ls Hr j5 Lo Bc vR GG Il FN Fn IV GL GA Hd D5 zQ G7 GV xD D2 HY K8 Ky v_bl Kt Lg v_ty Lw v_un v_op KQ IX v_fn K2 KP K4 Kf c_of c_tr c_an c_o c_no x_nx FU Ld Ew C9 Ee GH CF x_if KG K1 Jl En Bg BN g_n g_sn g_sc g_t g_x FT JD JV Kq D6 Kx J2 Jc Kc KL Fl Fv JP GB AS Fj Lp JB F7 Fq IC Gb KY KW JT fh v_lc FE Fe F1 o_n o_s v_sl v_d0 JY fx_G JE K6 k_lt k_le k_gt k_ge KU Lh k_ix IG GO Jg k_eq k_ne Cp Ko Lv Kd Jv CM Kg Gs zV aW List.getElem?_cons_zero List.getElem?_cons_succ List.set_cons_zero List.set_cons_succ List.length_cons List.length_nil Option.bind_some Option.map_some Option.isSome_some if_true if_false Bool.not_true Bool.not_false Bool.and_true Bool.true_and Bool.and_false Bool.false_and Bool.or_true Bool.true_or Bool.or_false Nat.reduceLeDiff Nat.reduceLT Nat.reduceAdd Nat.reduceSub Nat.zero_add Nat.add_zero Nat.sub_self List.cons_append List.nil_append List.append_nil List.replicate reduceCtorEq decide_true decide_false Bool.false_eq_true List.all_cons List.all_nil List.isEmpty_nil List.isEmpty_cons List.map_cons List.map_nil Int.reduceBEq Int.reduceLT Int.reduceAdd Int.reduceSub Int.reduceMul Int.cast_ofNat_Int HS EO Ie Hl HN Ed zB Ip BB yM Ds E4 Fg Ey xB EW FO AJ IP C7 HJ AL F6 FP DV JN Jq Kj JL yh xr ye wz sY xY A3 zm zx xH ati0 ati1 ati2 ati3 ixn0 ixn1 Jz bY Ir Int.reduceNeg Dh D3 List.lookup_cons List.lookup_nil ID g_uL sT sQ v9 pF sV nA rm oJ sI j9 mQ wL rb qW kF vH sF sN Dn A8 nG jy BH xI pL wc oG p9 AM AR wQ zb rq sE sP jm jx oD nj iL nE mJ pD vL sO su sU lL zN EN".splitOn " ").tail.mapM λs=>`(Lean.Parser.Tactic.simpLemma| $(Lean.mkIdent s.toName):term)
 `(tactic|simp only[$(l.toArray),*,$args,*])
def aA{a b k m:Int}(h0:0<m)(hm:Sm 8000 m):∃r a' b',ak.G [fdV a b k,.int m]=.ok (.val (.int r)) [fdV a' b' k]/\0<=r/\r<m:=by
 unfold ak;rw[aD];unfold l8 fdV;have m0:m≠0:=by omega
 have d1:=λi=>eO (i:=i) m0;have d2:=λi=>iP (i:=i) (CDivB.of m0 hm);have ca:∀x:Int,CMulA 7919 x:=λx=>CMulA.left (by decide) (by decide);have cb:∀x:Int,CMulA 104729 x:=λx=>CMulA.left (by decide) (by decide);have cc:∀x:Int,CMulA x 48271:=λx=>CMulA.right (by decide) (by decide);have e1:bZ.G (.int a) (.int 1000003)=.val (.int (a.fmod 1000003)):=eO (by decide);have e2:aC.G (.int 7919) (.int k)=.val (.int (7919*k)):=aX (ca k);have e3:=λx=>aX (cb x);have e4:=λx=>aX (cc x);have e5:∀x:Int,bZ.G (.int x) (.int 2147483647)=.val (.int (x.fmod 2147483647)):=λx=>eO (by decide);have e6:∀x:Int,bZ.G (.int x) (.int 65521)=.val (.int (x.fmod 65521)):=λx=>eO (by decide);have e7:∀x y:Int,aC.G (.int (x.fmod 2147483647)) (.int y)=.val (.int (x.fmod 2147483647*y)):=λx y=>aX (CMulA.left (by have:=(dB (a:=x) (m:=2147483647) (by decide)).1;omega) (by have:=(dB (a:=x) (m:=2147483647) (by decide)).2;omega));have e8:∀x:Int,bZ.G (.int x) (.int 2147483629)=.val (.int (x.fmod 2147483629)):=λx=>eO (by decide);by_cases hc:(10^18:Int)<=a
 .have hc':decide ((10^18:Int)<=a)=true:=K_ hc;refine⟨a.fmod m,a.fdiv m,b+1,?_,dB h0⟩;simp![CT,hc',d1,d2]
  done
 .have hc':decide ((10^18:Int)<=a)=false:=H_ hc;refine⟨Int.fmod (Int.fmod (Int.fmod ((Int.fmod a 1000003+7919*k+104729*(b+1))*48271) 2147483647*(Int.fmod (Int.fmod ((Int.fmod a 1000003+7919*k+104729*(b+1))*48271) 2147483647) 65521+(b+1))) 2147483629) m,a,b+1,?_,dB h0⟩;simp![CT,hc',d1,e1,e2,e3,e4,e5,e6,e7,e8]
def xN(w:Bool):dC.G [.str (wy w)]=.ok (.val (.bl true)) []:=by
 have i1:∀x:Str,(bp cu).G [.str x,.ty "str"]=.val (.bl true):=λ_=>rfl;have i2:bIn.G (.str (wy w)) (.tup [.str "across",.str "down"])=.val (.bl true):=by cases w <;> rfl
 unfold dC;rw[aD];unfold kM;simp![i1,i2]
def xE{w:Bool}{ts:List Val}(h:2<=ts.length):cK.G [.tup [.str (wy w),.tup ts]]=.ok (.val (.bl true)) []:=by have e:=xN w;have i1:∀xs:List Val,(bp cu).G [.tup xs,.ty "tuple"]=.val (.bl true):=λ_=>rfl;have g:decide ((2:Int)<=(ts.length:Nat))=true:=K_ (by omega);unfold cK;rw[aD];unfold hZ;simp![i1,e,wH,g]
def yB{a:Val}(h:lfV a=true):cK.G [a]=.ok (.val (.bl false)) []:=by
 have i1:(bp cu).G [a,.ty "tuple"]=.val (.bl false):=by cases a <;> first |rfl |(cases h;done)
 unfold cK;rw[aD];unfold hZ;simp![i1]
def yk(k:Nat):bH.G [.int (k:Nat)]=.ok (.val (.bl true)) []:=by have i1:(bp cu).G [.int (k:Nat),.ty "int"]=.val (.bl true):=rfl;have i2:(bp cu).G [.int (k:Nat),.ty "bool"]=.val (.bl false):=rfl;unfold bH;rw[aD];unfold iO;simp![i1,i2]
theorem jF{n:Nat}(v:Val):∀(N:Nat) (st:List AT) (xs:List Int) (s4:Sl),AT.cntL st<=N->s4.pl=true->(∀t∈st,t.ok=true)->(∀k∈AT.lvsL st,k<n)->(AT.lvsL st).Nodup->(∀k∈AT.lvsL st,((k:Nat):Int)∉xs)->xs.length+(AT.lvsL st).length<=3000->AT.cntL st<=100000->
 ∃(ys:List Int) (s4':Sl),ys.length=xs.length+(AT.lvsL st).length/\(xWh (qTr (af 3)) cZ).G [.sh v,.sh (.int (n:Nat)),.ow (.set xs),.ow (.lst (st.map atV)),s4]=.nx [.sh v,.sh (.int (n:Nat)),.ow (.set ys),.ow (.lst []),s4']
 |
  N,[],xs,s4,_,_,_,_,_,_,_,_=>⟨xs,s4,by simp [AT.lvsL],by
  rw[iR];simp![LH,mS,List.isEmpty_nil]⟩
 |
  0,t::ts,xs,s4,h,_,_,_,_,_,_,_=>by
  rw[AT.cntL] at h;cases t <;> (rw[AT.cnt] at h;omega)
 |
  N+1,t0::ts0,xs,s4,hN,h4,ho,hn,nd,hx,hl,hc=>by
  obtain⟨st,t,hst⟩:∃st t,t0::ts0=st++[t]:=⟨(t0::ts0).dropLast,(t0::ts0).getLast (by simp),(M1 (by simp)).symm⟩;rw[hst] at hN ho hn nd hx hl hc ⊢;rw[AT.lvsL_app] at hn nd hx hl;rw[AT.lvsL_app];rw[AT.cntL_app] at hN hc;have hn0:((st++[t]).map atV).isEmpty=false:=by cases st <;> rfl
  have c1:(qTr (af 3)).G [.sh v,.sh (.int (n:Nat)),.ow (.set xs),.ow (.lst ((st++[t]).map atV)),s4]=.ok true [.sh v,.sh (.int (n:Nat)),.ow (.set xs),.ow (.lst ((st++[t]).map atV)),s4]:=by simp![mS,hn0,Bool.not_false]
  have hto:=ho t (by simp);rw[iR,c1];show ∃ys s4',_/\((cZ.G _).loop _)=_;rw[L_,u_,LH];cases t with
  |
   lf k=>
   simp only[AT.lvsL,AT.lvs,L6,I_,Em,LD,AT.cntL,AT.cnt] at hn nd hx hl hN hc ⊢;have hk:=hn k (by simp);have hkx:=hx k (by simp);have nda:=List.nodup_append.mp nd;obtain⟨ys,s4',q1,q2⟩:=jF (n:=n) v N st (ff xs (k:Nat)) (.sh (.int (k:Nat))) (by omega) rfl (λt ht=>ho t (by simp [ht])) (λj hj=>hn j (by simp [hj])) nda.1 (λj hj z=>by
    unfold ff at z;rw[if_neg hkx] at z;rcases G_.mp z with z |z
    .exact nda.2.2 j hj k (by simp) (Int.ofNat.inj z)
    .exact hx j (by simp [hj]) z) (by unfold ff;rw[if_neg hkx,Em];omega) (by omega)
   refine⟨ys,s4',by rw[q1];unfold ff;rw[if_neg hkx,Em];omega,?_⟩;have b1:=yB (a:=.int (k:Nat)) rfl;have w1:=yk k;have l0:decide (((k:Nat):Int)<0)=false:=H_ (by omega);have l1:decide (((n:Nat):Int)<=(k:Nat))=false:=H_ (by omega);have in1:decide (((k:Nat):Int)∈xs)=false:=H_ hkx;have av:atV (.lf k)=.int (k:Nat):=rfl;have xl:xs.length<4000:=by omega
   have bb:cZ.G [.sh v,.sh (.int (n:Nat)),.ow (.set xs),.ow (.lst (st.map atV++[atV (.lf k)])),s4]=.nx [.sh v,.sh (.int (n:Nat)),.ow (.set (ff xs (k:Nat))),.ow (.lst (st.map atV)),.sh (.int (k:Nat))]:=by unfold cZ;rw[av];simp![jG,h4,b1,w1,l0,l1,J7,in1,Ii,pZ,Bp,xl]
   rw[bb];exact q2
  |
   nd w ts=>
   have ho':=hto;rw[AT.ok,w_] at hto;have h2:2<=ts.length:=NA hto.1;have hk:=AT.okL_mem.mp hto.2;simp only[AT.lvsL,AT.lvs,L6,AT.cntL,AT.cnt] at hn nd hx hl hN hc ⊢;obtain⟨ys,s4',q1,q2⟩:=jF (n:=n) v N (st++ts) xs (.sh (atV (.nd w ts))) (by rw[AT.cntL_app];omega) rfl (λt ht=>by
    rcases Mm.mp ht with ht |ht
    .exact ho t (by simp [ht])
    .exact hk t ht) (by rw[AT.lvsL_app];exact hn) (by rw[AT.lvsL_app];exact nd) (by rw[AT.lvsL_app];exact hx) (by rw[AT.lvsL_app];exact hl) (by rw[AT.cntL_app];omega)
   rw[AT.lvsL_app] at q1;refine⟨ys,s4',q1,?_⟩;have av:atV (.nd w ts)=.tup [.str (wy w),.tup (ts.map atV)]:=by unfold atV;rw[AT.val,AT.vals_map]
   have b1:=xE (w:=w) (ts:=ts.map atV) (by rw[q_];exact h2);have le:∀l:List AT,l.length<=AT.cntL l:=by
    intro l;induction l with
    |nil=>exact v_ _
    |cons t l ih=>rw[AT.cntL,Em];cases t <;> (rw[AT.cnt];omega)
   have ll:(st.map atV).length+(ts.map atV).length<=16777216:=by
    have:=le st
    have:=le ts
    rw[q_,q_];omega
   rw[av] at q2 ⊢;rw[L_] at q2;have bb:cZ.G [.sh v,.sh (.int (n:Nat)),.ow (.set xs),.ow (.lst (st.map atV++[.tup [.str (wy w),.tup (ts.map atV)]])),s4]=.nx [.sh v,.sh (.int (n:Nat)),.ow (.set xs),.ow (.lst (st.map atV++ts.map atV)),.sh (.tup [.str (wy w),.tup (ts.map atV)])]:=by unfold cZ;simp![jG,h4,b1,oh,ll]
   rw[bb];exact q2
def vN{t:AT}{n:Nat}(ho:t.ok=true)(hn:∀k∈t.lvs,k<n)(nd:t.lvs.Nodup)(hl:t.lvs.length=n)(h3:n<=3000)(hc:t.cnt<=100000):fJ.G [atV t,.int (n:Nat)]=.ok (.val (.bl true)) []:=by
 have e1:AT.lvsL [t]=t.lvs:=by simp [AT.lvsL]
 have e2:AT.cntL [t]=t.cnt:=by simp [AT.cntL]
 obtain⟨ys,s4',q1,q2⟩:=jF (n:=n) (atV t) (AT.cntL [t]) [t] [] .no (v_ _) rfl (λu hu=>by rw[L5] at hu;rw[hu];exact ho) (by rw[e1];exact hn) (by rw[e1];exact nd) (λk hk z=>nomatch z) (by rw[e1,hl];simp;exact h3) (by rw[e2];exact hc);rw[e1,hl,LD,NS] at q1;rw[u_,LH] at q2;unfold fJ;rw[aD];unfold n0;generalize atV t=tv at *;simp![FD,q2,F5,q1,Oa]
def oA{t:AT}{n:Nat}(ho:t.ok=true)(hn:∀k∈t.lvs,k<n)(nd:t.lvs.Nodup)(hl:t.lvs.length=n)(h3:n<=3000)(hc:t.cnt<=100000):du.G [atV t,.int (n:Nat)]=.ok (.val .non) []:=by have e:=vN ho hn nd hl h3 hc;unfold du;rw[aD];unfold jA;generalize atV t=tv at *;simp![e]
def f9(a:Int):(if a<0 then -a else a)=((a.natAbs:Nat):Int):=by split <;> omega
theorem rP:∀(n one a_:Nat),a_<=n->(xWh (qOf (pOp bNe (af 1) (ah 0))) cR).G [.sh (.int (one:Nat)),.sh (.int (a_:Nat))]=.nx [.sh (.int (Nat.gcd one a_:Nat)),.sh (.int 0)]
 |
  n,one,0,_=>by
  rw[iR];simp![jV];rw[Nat.gcd_zero_right];try rfl
 |0,one,a_+1,hl=>absurd hl (by omega)
 |
  n+1,one,a_+1,hl=>by
  rw[iR];have e:((((a_+1:Nat):Int)==0))=false:=by rw[J_];omega
  have e1:bZ.G (.int (one:Nat)) (.int ((a_+1:Nat):Int))=.val (.int (((one:Nat):Int).fmod ((a_+1:Nat):Int))):=eO (by omega);have e2:((one:Nat):Int).fmod ((a_+1:Nat):Int)=((one % (a_+1):Nat):Int):=by rw[Int.fmod_eq_emod_of_nonneg _ (by omega)];rfl
  have ih:=rP n (a_+1) (one % (a_+1)) (by have:=Nat.mod_lt one (show a_+1>0 by omega);omega);rw[Fr.euc] at ih;rw[e2] at e1;have bb:cR.G [.sh (.int (one:Nat)),.sh (.int ((a_+1:Nat):Int))]=.nx [.sh (.int ((a_+1:Nat):Int)),.sh (.int ((one % (a_+1):Nat):Int))]:=by unfold cR;simp![e1]
  simp![e,bb,ih]
def cN(a b:Int):bF.G [.int a,.int b]=.ok (.val (.int (Int.gcd a b:Nat))) []:=by
 unfold bF;rw[aD];unfold gF
 have:=rP b.natAbs a.natAbs b.natAbs (v_ _)
 simp![f9,this];rfl
def cL{a b:Int}(hb:b≠0)(hs:Sm 8000 b):bc.G [.int a,.int b]=.ok (.val (fV ((a:Rat)/(b:Rat)))) []:=by
 unfold bc;rw[aD];unfold lX;have e:(b==0)=false:=by rw[J_];exact hb
 have c:∀x,CDivB x (Fr.dv a b):=λx=>CDivB.of (Fr.dv_ne hb) (hs.of_le (by rw[Fr.dv_abs];exact Nat.le_of_dvd (by omega) (Nat.gcd_dvd_right a.natAbs b.natAbs)));have k1:=iP (c a);have k2:=iP (c b);have hh:=l9 (a:=a) hb;have d_:Val.tup [.int (a.fdiv (Fr.dv a b)),.int (b.fdiv (Fr.dv a b))]=fV ((a:Rat)/(b:Rat)):=by unfold fV;rw[<- hh.1,<- hh.2];rfl
 by_cases hn:b<0
 .have hd:Fr.dv a b=-((Int.gcd a b:Nat):Int):=by unfold Fr.dv;rw[if_pos hn]
  rw[hd] at k1 k2 d_;simp![e,cN,K_ hn,k1,k2,d_]
 .have hd:Fr.dv a b=((Int.gcd a b:Nat):Int):=by unfold Fr.dv;rw[if_neg hn]
  rw[hd] at k1 k2 d_;simp![e,cN,H_ hn,k1,k2,d_]
def B4{p q:Rat}{n m:Nat}(hp:Sz n p)(hq:Sz m q)(h:n+m<=8000):iz.G [fV p,fV q]=.ok (.val (fV (p+q))) []:=by have c1:=aX (CMulA.of hp.top hq.bot (by omega) (by omega));have c2:=aX (CMulA.of hq.top hp.bot (by omega) (by omega));have c3:=aX (CMulA.of hp.bot hq.bot (by omega) (by omega));have fe:=cL (a:=p.num*q.den+q.num*p.den) (b:=p.den*q.den) (Nr (cG p) (cG q)) ((hp.bot.mul hq.bot).mono h);rw[<- EM] at fe;unfold iz;rw[aD];unfold uj;rw[show fV p=.tup [.int p.num,.int p.den] from rfl,show fV q=.tup [.int q.num,.int q.den] from rfl];simp![c1,c2,c3,fe]
def rH{p q:Rat}{n m:Nat}(hp:Sz n p)(hq:Sz m q)(h:n+m<=8000):gf.G [fV p,fV q]=.ok (.val (fV (p*q))) []:=by have c1:=aX (CMulA.of hp.top hq.top (by omega) (by omega));have c2:=aX (CMulA.of hp.bot hq.bot (by omega) (by omega));have fe:=cL (a:=p.num*q.num) (b:=p.den*q.den) (Nr (cG p) (cG q)) ((hp.bot.mul hq.bot).mono h);rw[<- tX] at fe;unfold gf;rw[aD];unfold tK;rw[show fV p=.tup [.int p.num,.int p.den] from rfl,show fV q=.tup [.int q.num,.int q.den] from rfl];simp![c1,c2,fe]
def lq{p q:Rat}{n m:Nat}(hp:Sz n p)(hq:Sz m q)(h1:n<=100000)(h2:m<=100000):eB.G [fV p,fV q]=.ok (.val (.bl (decide (p<q)))) []:=by have c1:=aX (CMulA.of hp.top hq.bot h1 h2);have c2:=aX (CMulA.of hq.top hp.bot h2 h1);unfold eB;rw[aD];unfold nT;rw[show fV p=.tup [.int p.num,.int p.den] from rfl,show fV q=.tup [.int q.num,.int q.den] from rfl];simp![c1,c2];rw[show decide (p.num*(q.den:Int)<q.num*(p.den:Int))=decide (p<q) from Od.mpr (ma p q).symm]
def j3{v:Val}(hk:knV v=true):(bp cu).G [v,.ty "tuple"]=.val (.bl (eJ v)):=by cases v <;> first |rfl |cases hk
def hJ{v:Val}(hk:knV v=true):bH.G [v]=.ok (.val (.bl (jc v))) []:=by unfold bH;rw[aD];unfold iO;cases v <;> first |rfl |cases hk
def pP(v:Val):eJ v=false\/∃xs,v=.tup xs:=by cases v <;> first |exact .inr ⟨_,rfl⟩ |exact .inl rfl
def k8(v:Val):jc v=false\/∃i,v=.int i:=by cases v <;> first |exact .inr ⟨_,rfl⟩ |exact .inl rfl
def J1{v:Val}(h:eJ v=false):aK v=false:=by cases v <;> first |rfl |cases h
def Jb{v:Val}(h:eJ v=false):fC v=false:=by cases v <;> first |rfl |cases h
def H9{a b:Val}(h:jc a=false):aK (.tup [a,b])=false:=by cases a <;> first |rfl |cases h
def Fh{i:Int}{b:Val}(h:jc b=false):aK (.tup [.int i,b])=false:=by cases b <;> first |rfl |cases h
def Lc{xs:List Val}(hl:xs.length≠2):aK (.tup xs)=false:=by
 unfold aK;split
 .rename_i e;injection e with e;subst e;exact absurd rfl hl
 .rfl
def Lk{xs:List Val}(hl:xs.length≠4):fC (.tup xs)=false:=by
 unfold fC;split
 .rename_i e;injection e with e;subst e;exact absurd rfl hl
 .rfl
def CO{k:Nat}{v:Val}(ha:hU k v=true)(h:eJ v=false):knV v=true:=by
 cases v with
 |tup xs=>cases h
 |_=>cases k <;> exact ha
def nv{v:Val}(ha:hU 1 v=true):cD.G [v]=.ok (.val (.bl (aK v))) []:=by
 unfold cD;rw[aD];unfold jj;rcases pP v with ht |⟨xs,rfl⟩
 .have it:=j3 (CO ha ht);rw[ht] at it;simp![it,J1 ht]
 have it:=j3 (v:=.tup xs) rfl;by_cases hl:xs.length=2
 .match xs,hl,ha with
  |
   [a,b],_,ha=>
   have ha':(knV a&&(knV b&&true))=true:=by simpa [hU] using ha
   simp only[w_] at ha';have w1:=hJ ha'.1;have w2:=hJ ha'.2.1;rcases k8 a with h1 |⟨i,rfl⟩
   .rw[h1] at w1;simp![it,eJ,w1,H9 h1]
   rcases k8 b with h2 |⟨j,rfl⟩
   .rw[h2] at w2;simp![it,eJ,w1,jc,w2,Fh h2]
   have f:aK (.tup [.int i,.int j])=(decide (1<=j)&&decide (Int.gcd i j=1)):=rfl;have g:((((Int.gcd i j:Nat):Int)==1):Bool)=decide (Int.gcd i j=1):=by rw[NM,LW,Nf];omega
   by_cases hj:1<=j
   .simp![it,eJ,w1,w2,jc,cN,K_ hj,f,g]
   .simp![it,eJ,w1,w2,jc,cN,H_ hj,f,g]
 .have e:(((xs.length:Nat):Int)==2)=false:=by rw[J_];omega
  simp![it,eJ,e,Lc hl]
def oo{v:Val}(ha:hU 2 v=true):gJ.G [v]=.ok (.val (.bl (fC v))) []:=by
 unfold gJ;rw[aD];unfold pz;rcases pP v with ht |⟨xs,rfl⟩
 .have it:=j3 (CO ha ht);rw[ht] at it;simp![it,Jb ht]
 have it:=j3 (v:=.tup xs) rfl;by_cases hl:xs.length=4
 .match
   xs,hl,ha with
  |
   [a,b,c,d],_,ha=>
   have e1:fC (.tup [a,b,c,d])=(aK a&&(aK b&&(aK c&&(aK d&&(i6 c&&i6 d))))):=rfl;have bl4:∀x y z w:Bool,fg [.bl x,.bl y,.bl z,.bl w]=some [x,y,z,w]:=λ_ _ _ _=>rfl;obtain⟨e',⟨s',rfl,_⟩,lc⟩:=m7 (g:=(gtN 0).G) (F:=(ai cD (aa (af 0) ag)).G) (f:=λv=>.bl (aK v)) (λe=>∃s,e=[s]/\s.pl=true) [a,b,c,d] [] [.no] ⟨.no,rfl,rfl⟩ (by
    rintro v hv e ⟨s,rfl,hs⟩;have hv':hU 1 v=true:=LQ.mp (by simpa [hU] using ha) v hv;refine⟨[.sh v],.val (.bl (aK v)),[.sh v],?_,?_,rfl,⟨_,rfl,rfl⟩⟩
    .simp![hs]
    .simp![nv hv']) (by simp)
   have cy:cY=qY.G:=rfl;rw[cy,Mk] at lc;simp only[u_,LH] at lc;cases hA:(aK a&&(aK b&&(aK c&&aK d))) with
   |
    true=>
    simp only[w_] at hA;obtain⟨p,rfl⟩:=yd hA.2.2.1;obtain⟨q,rfl⟩:=yd hA.2.2.2;rw[hA.1,hA.2.1,hA.2.2.1,hA.2.2.2] at e1 lc;have e2:fC (.tup [a,b,fV p,fV q])=(decide (0<p.num)&&decide (0<q.num)):=by rw[e1];rfl
    rw[e2];have i1:(fV p).items=some [.int p.num,.int p.den]:=rfl;have i2:(fV q).items=some [.int q.num,.int q.den]:=rfl;by_cases hp:0<p.num
    .simp![it,eJ,lc,bY,bl4,id,i1,i2,K_ hp]
    .simp![it,eJ,lc,bY,bl4,id,i1,H_ hp]
   |
    false=>
    have e2:fC (.tup [a,b,c,d])=false:=by rw[e1];revert hA;generalize aK a=a',aK b=b',aK c=c',aK d=d',(i6 c&&i6 d)=z;revert a' b' c' d' z;decide
    rw[e2];simp![it,eJ,lc,bY,bl4,id,hA]
 .have e:(((xs.length:Nat):Int)==4)=false:=by rw[J_];omega
  simp![it,eJ,e,Lk hl]
def pI{v:Val}(ha:hU 2 v=true):aP.G [v]=if fC v=true then .ok (.val .non) [] else .exc "NoBox" []:=by
 unfold aP;rw[aD];unfold ku;cases h:fC v with
 |true=>simp![oo ha,h]
 |false=>simp![oo ha,h]
def bq{b:Bx}(hb:b.Ok):aP.G [bV b]=.ok (.val .non) []:=by rw[pI (IM b),zY hb];rfl
def JO{v:Val}(h:jc v=false):gM v=false:=by cases v <;> first |rfl |cases h
def Bz(v:Val):eQ v=false\/∃xs,v=.lst xs:=by cases v <;> first |exact .inr ⟨_,rfl⟩ |exact .inl rfl
def rV{v:Val}(hk:knV v=true):dg.G [v]=.ok (.val (.bl (gM v))) []:=by
 have w:=hJ hk;unfold dg;rw[aD];unfold ko;rcases k8 v with h |⟨i,rfl⟩
 .rw[h] at w;simp![w,JO h]
 .simp![w,jc];rfl
def tE{v:Val}(hk:knV v=true):(bp cu).G [v,.ty "list"]=.val (.bl (eQ v)):=by cases v <;> first |rfl |cases hk
noncomputable def wD (v:Val):R3F:=match v with
 |.lst xs=>if xs=[] then .exc "NoWeights" [] else if xs.all gM=true then (if xs.length<=40 then .ok (.val .non) [] else .exc "TooMany" []) else .exc "NoWeights" []
 |_=>.exc "NoWeights" []
def Fx{v:Val}(h:eQ v=false):wD v=.exc "NoWeights" []:=by cases v <;> first |rfl |cases h
noncomputable def rh:Val->Bool
 |.lst xs=>decide (xs.length<=1000)&&xs.all knV
 |v=>knV v
def Ei{v:Val}(h:rh v=true)(hl:eQ v=false):knV v=true:=by cases v <;> first |(cases hl;done) |exact h
theorem iN(f:Val->Bool):∀xs:List Val,fg (xs.map λv=>.bl (f v))=some (xs.map f)
 | []=>rfl
 |x::xs=>by show (fg (xs.map λv=>.bl (f v))).map (f x :: ·)=_;rw[iN f xs];rfl
def i8(f:Val->Bool)(xs:List Val):(xs.map f).all id=xs.all f:=by rw[List.all_map];rfl
def kD{v:Val}(ha:rh v=true):aG.G [v]=wD v:=by
 unfold aG;rw[aD];unfold gO;rcases Bz v with hv |⟨xs,rfl⟩
 .have il:=tE (Ei ha hv);rw[hv] at il;rw[Fx hv];simp![il]
 .have ha':xs.length<=1000/\xs.all knV=true:=by simpa [rh] using ha
  have il:=tE (v:=.lst xs) rfl;unfold wD;dsimp only;by_cases h0:xs=[]
  .subst h0;simp![il]
  .have e0:(((xs.length:Nat):Int)==0)=false:=by rw[J_];intro z;exact h0 (List.length_eq_zero_iff.mp (by omega))
   rw[if_neg h0];obtain⟨e',p',lc⟩:=m7 (g:=(gtN 0).G) (F:=(ai dg (aa (af 0) ag)).G) (f:=λv=>.bl (gM v)) (λe=>∃s,e=[s]/\s.pl=true) xs [] [.no] ⟨.no,rfl,rfl⟩ (by
    rintro v hv e ⟨s,rfl,hs⟩;refine⟨[.sh v],.val (.bl (gM v)),[.sh v],?_,?_,rfl,⟨_,rfl,rfl⟩⟩
    .simp![hs]
    .simp![rV (LQ.mp ha'.2 v hv)]) (by simp;omega)
   obtain⟨s',rfl,_⟩:=p';have cy:cY=qY.G:=rfl;rw[cy,Mk] at lc;have b_:(xs.map λv=>Val.bl (gM v)).length<=16777216:=by rw[q_];omega
   by_cases hw:xs.all gM=true
   .rw[if_pos hw];by_cases h40:xs.length<=40
    .have hd:decide ((40:Int)<((xs.length:Nat):Int))=false:=H_ (by omega);rw[if_pos h40];simp![il,e0,bY,lc,b_,iN,i8,hw,hd]
    .have hd:decide ((40:Int)<((xs.length:Nat):Int))=true:=K_ (by omega);rw[if_neg h40];simp![il,e0,bY,lc,b_,iN,i8,hw,hd]
   .have hw':xs.all gM=false:=Bool.eq_false_iff.mpr hw;rw[if_neg hw];simp![il,e0,bY,lc,b_,iN,i8,hw']
def fH{ws:List Int}(h0:ws≠[])(h1:∀w∈ws,1<=w)(h2:ws.length<=40):aG.G [.lst (ws.map .int)]=.ok (.val .non) []:=by
 have ha:rh (.lst (ws.map .int))=true:=by simp only[rh,w_,Nf,q_];exact⟨by omega,by rw[LQ];intro v hv;obtain⟨w,_,rfl⟩:=LN.mp hv;rfl⟩
 rw[kD ha];unfold wD;dsimp only;rw[if_neg (by intro z;exact h0 (NK.mp z)),if_pos (by rw[LQ];intro v hv;obtain⟨w,hw,rfl⟩:=LN.mp hv;exact K_ (h1 w hw)),if_pos (by rw[q_];exact h2)]
def wU:bo (.str "down") (.str "across")=some false:=by rw[L3.eq_str (by decide) (by decide)];exact Mb some (by decide)
def xK:bo (.str "across") (.str "across")=some true:=by rw[L3.eq_str (by decide) (by decide)];exact Mb some (by decide)
noncomputable def prV (p:Rat×Rat):Val:=.tup [fV p.1,fV p.2]
theorem tI{s l:Rat}{n m:Nat}{W:Int}{wv:Val}(hs:Sz n s)(hl:Sz n l)(hW:0<W)(mW:Sm m W)(h:n+n+m<=8000):∀(ws:List Int) (a:Int) (acc:List (Rat×Rat)) (s6 s7:Sl),s6.pl=true->s7.pl=true->0<=a->(∀w∈ws,0<=w)->a+ws.sum<=W->acc.length+ws.length<=16777216->∃s6' s7',dk (gtN 6).G gT.G (ws.map .int) [.sh (fV s),.sh (fV l),.sh wv,.sh (.int W),.sh (.int a),.ow (.lst (acc.map prV)),s6,s7]=.nx [.sh (fV s),.sh (fV l),.sh wv,.sh (.int W),.sh (.int (a+ws.sum)),.ow (.lst ((acc++shL s l W a ws).map prV)),s6',s7']
 | [],a,acc,s6,s7,h6,h7,ha,hw,hsum,b_=>⟨s6,s7,by rw[LH,fh,List.sum_nil,Int.add_zero];unfold shL;rw[L6]⟩
 |
  w::ws,a,acc,s6,s7,h6,h7,ha,hw,hsum,b_=>by
  have hw0:=hw w (s_ ..);have hws:0<=ws.sum:=by
   have:∀l:List Int,(∀w∈l,0<=w)->0<=l.sum:=by
    intro l;induction l with
    |nil=>intro _;simp
    |cons x l ih=>intro hx;rw[LO];have:=hx x (s_ ..);have:=ih λw hw=>hx w (r_ _ hw);omega
   exact this ws λx hx=>hw x (r_ _ hx)
  rw[LO] at hsum;rw[Em] at b_;have sa:Sm m a:=mW.of_le (by omega);have sw:Sm m w:=mW.of_le (by omega);have f1:=cL (a:=a) (b:=W) (by omega) (mW.mono (by omega));have f2:=cL (a:=w) (b:=W) (by omega) (mW.mono (by omega));have z1:Sz m ((a:Rat)/(W:Rat)):=Sz.div (by omega) sa mW m (v_ _) (v_ _);have z2:Sz m ((w:Rat)/(W:Rat)):=Sz.div (by omega) sw mW m (v_ _) (v_ _);have t1:=rH hl z1 (by omega);have t2:=rH hl z2 (by omega);have ad:=B4 hs (hl.mul z1) (by omega);have ll:(acc.map prV).length<16777216:=by rw[q_];omega
  obtain⟨t6,t7,ih⟩:=tI (wv:=wv) hs hl hW mW h ws (a+w) (acc++[(s+l*((a:Rat)/(W:Rat)),l*((w:Rat)/(W:Rat)))]) (.sh (.int w)) (.sh (fV (s+l*((a:Rat)/(W:Rat))))) rfl rfl (by omega) (λx hx=>hw x (r_ _ hx)) (by omega) (by simp;omega);refine⟨t6,t7,?_⟩;have g1:(gtN 6).G (.int w) [.sh (fV s),.sh (fV l),.sh wv,.sh (.int W),.sh (.int a),.ow (.lst (acc.map prV)),s6,s7]=some [.sh (fV s),.sh (fV l),.sh wv,.sh (.int W),.sh (.int a),.ow (.lst (acc.map prV)),.sh (.int w),s7]:=by simp![h6]
  have b1:gT.G [.sh (fV s),.sh (fV l),.sh wv,.sh (.int W),.sh (.int a),.ow (.lst (acc.map prV)),.sh (.int w),s7]=.nx [.sh (fV s),.sh (fV l),.sh wv,.sh (.int W),.sh (.int (a+w)),.ow (.lst ((acc++[(s+l*((a:Rat)/(W:Rat)),l*((w:Rat)/(W:Rat)))]).map prV)),.sh (.int w),.sh (fV (s+l*((a:Rat)/(W:Rat))))]:=by unfold gT;rw[L_];simp![h7,f1,f2,t1,t2,ad,ll,prV]
  rw[u_,c8,g1];simp only[b1,j5];rw[ih,LO];rw[show shL s l W a (w::ws)=(s+l*((a:Rat)/(W:Rat)),l*((w:Rat)/(W:Rat)))::shL s l W (a+w) ws from rfl,MU,show a+w+ws.sum=a+(w+ws.sum) by omega];rfl
def nY{s l:Rat}{n m:Nat}{ws:List Int}(hs:Sz n s)(hl:Sz n l)(hw:∀w∈ws,0<=w)(h0:0<ws.sum)(mW:Sm m ws.sum)(h:n+n+m<=8000)(b_:ws.length<=1000):fA.G [fV s,fV l,.lst (ws.map .int)]=.ok (.new (.lst ((shL s l ws.sum 0 ws).map prV))) []:=by obtain⟨s6,s7,lo⟩:=tI (wv:=.lst (ws.map .int)) hs hl h0 mW h ws 0 [] .no .no rfl rfl (by omega) hw (by omega) (by simp;omega);rw[Mk,LH] at lo;unfold fA;rw[aD];unfold qU;simp![lo]
def FV{way:Str}(hw:way="across" \/ way="down"):dZ.G [.str way]=.ok (.val .non) []:=by
 have i1:∀x:Str,(bp cu).G [.str x,.ty "str"]=.val (.bl true):=λ_=>rfl;have i2:bIn.G (.str way) (.tup [.str "across",.str "down"])=.val (.bl true):=by rcases hw with rfl |rfl <;> rfl
 have e1:dC.G [.str way]=.ok (.val (.bl true)) []:=by unfold dC;rw[aD];unfold kM;simp![i1,i2]
 unfold dZ;rw[aD];unfold kx;simp![e1]
def ou{b:Bx}{n m:Nat}{way:Str}{ws:List Int}(hb:b.Ok)(hs:b.Sz n)(hway:way="across" \/ way="down")(h0:ws≠[])(hw:∀w∈ws,1<=w)(mW:Sm m ws.sum)(h:n+n+m<=8000)(b_:ws.length<=40):d7.G [bV b,.str way,.lst (ws.map .int)]=.ok (.new (.lst ((ay b way ws).map bV))) []:=by
 have cw:=fH h0 hw b_;have cy:=FV hway;have sp:0<ws.sum:=by
  cases ws with
  |nil=>exact absurd rfl h0
  |
   cons x l=>
   rw[LO]
   have:=hw x (s_ ..)
   have:∀l:List Int,(∀w∈l,1<=w)->0<=l.sum:=by
    intro l;induction l with
    |nil=>intro _;simp
    |cons x l ih=>intro hx;rw[LO];have:=hx x (s_ ..);have:=ih λw hw=>hx w (r_ _ hw);omega
   have:=this l λx hx=>hw x (r_ _ hx)
   omega
 have cb:aP.G [.tup [fV b.l,fV b.t,fV b.w,fV b.h]]=.ok (.val .non) []:=bq hb;have sh1:=nY hs.l hs.w (λw z=>by have:=hw w z;omega) sp mW h (by omega);have sh2:=nY hs.t hs.h (λw z=>by have:=hw w z;omega) sp mW h (by omega);show d7.G [.tup [fV b.l,fV b.t,fV b.w,fV b.h],.str way,.lst (ws.map .int)]=_;unfold d7 ay;rw[aD];unfold pQ;rcases hway with rfl |rfl
 .rw[if_pos (rfl:("across" : Str)="across")];have ln:=iD b.l b.w ws.sum ws 0;obtain⟨e',⟨s,t,rfl,_,_⟩,lc⟩:=cp (g:=(gtT 2 (aT (gtN 0) (aT (gtN 1) dP))).G) (F:=(ba (aa (af 0) (aa (af 2) (aa (af 1) (aa (af 3) ag))))).G) prV (λp=>bV ⟨p.1,b.t,p.2,b.h⟩) (λe=>∃s t,e=[s,t,.sh (fV b.t),.sh (fV b.h)]/\s.pl=true/\t.pl=true) (shL b.l b.w ws.sum 0 ws) [] [.no,.no,.sh (fV b.t),.sh (fV b.h)] ⟨.no,.no,rfl,rfl,rfl⟩ (by
   rintro p hp e ⟨s,t,rfl,hs,ht⟩;refine⟨[.sh (fV p.1),.sh (fV p.2),.sh (fV b.t),.sh (fV b.h)],.val (bV ⟨p.1,b.t,p.2,b.h⟩),[.sh (fV p.1),.sh (fV p.2),.sh (fV b.t),.sh (fV b.h)],?_,?_,rfl,⟨_,_,rfl,rfl,rfl⟩⟩
   .simp![prV,hs,ht]
   .simp![bV]) (by rw[ln,LD];omega)
  rw[Mk] at lc;have ll:((shL b.l b.w ws.sum 0 ws).map λp=>bV ⟨p.1,b.t,p.2,b.h⟩).length<=16777216:=by rw[q_,ln];omega
  rw[MF,show (bV ∘ λp:Rat×Rat=>(⟨p.1,b.t,p.2,b.h⟩:Bx))=λp=>bV ⟨p.1,b.t,p.2,b.h⟩ from rfl];simp![cb,cy,cw,xK,sh1,lc,ll]
 .have hne:¬ (("down" : Str)="across"):=by decide
  rw[if_neg hne];have ln:=iD b.t b.h ws.sum ws 0;obtain⟨e',⟨s,t,rfl,_,_⟩,lc⟩:=cp (g:=(gtT 2 (aT (gtN 0) (aT (gtN 1) dP))).G) (F:=(ba (aa (af 2) (aa (af 0) (aa (af 3) (aa (af 1) ag))))).G) prV (λp=>bV ⟨b.l,p.1,b.w,p.2⟩) (λe=>∃s t,e=[s,t,.sh (fV b.l),.sh (fV b.w)]/\s.pl=true/\t.pl=true) (shL b.t b.h ws.sum 0 ws) [] [.no,.no,.sh (fV b.l),.sh (fV b.w)] ⟨.no,.no,rfl,rfl,rfl⟩ (by
   rintro p hp e ⟨s,t,rfl,hs,ht⟩;refine⟨[.sh (fV p.1),.sh (fV p.2),.sh (fV b.l),.sh (fV b.w)],.val (bV ⟨b.l,p.1,b.w,p.2⟩),[.sh (fV p.1),.sh (fV p.2),.sh (fV b.l),.sh (fV b.w)],?_,?_,rfl,⟨_,_,rfl,rfl,rfl⟩⟩
   .simp![prV,hs,ht]
   .simp![bV]) (by rw[ln,LD];omega)
  rw[Mk] at lc;have ll:((shL b.t b.h ws.sum 0 ws).map λp=>bV ⟨b.l,p.1,b.w,p.2⟩).length<=16777216:=by rw[q_,ln];omega
  rw[MF,show (bV ∘ λp:Rat×Rat=>(⟨b.l,p.1,b.w,p.2⟩:Bx))=λp=>bV ⟨b.l,p.1,b.w,p.2⟩ from rfl];simp![cb,cy,cw,wU,sh2,lc,ll]
theorem g6{f:Nat->Val}(v:Val):∀(N:Nat) (st:List AT) (acc:List Nat) (s3:Sl),AT.cntL st<=N->s3.pl=true->(∀k∈AT.lvsL st,lfV (f k)=true)->acc.length+AT.cntL st<=100000->
 ∃(l:List Nat) (s3':Sl),l.Perm (AT.lvsL st)/\(xWh (qTr (af 2)) b9).G [.sh v,.ow (.lst (acc.map f)),.ow (.lst (st.map (AT.val f))),s3]=.nx [.sh v,.ow (.lst ((acc++l).map f)),.ow (.lst []),s3']
 |
  N,[],acc,s3,_,_,_,_=>⟨[],s3,.nil,by
  rw[iR,L6];simp![LH,mS,List.isEmpty_nil]⟩
 |
  0,t::ts,acc,s3,h,_,_,_=>by
  rw[AT.cntL] at h;cases t <;> (rw[AT.cnt] at h;omega)
 |
  N+1,t0::ts0,acc,s3,hN,h3,hf,hl=>by
  obtain⟨st,t,hst⟩:∃st t,t0::ts0=st++[t]:=⟨(t0::ts0).dropLast,(t0::ts0).getLast (by simp),(M1 (by simp)).symm⟩;rw[hst] at hN hf hl ⊢;rw[AT.lvsL_app] at hf;rw[AT.lvsL_app];rw[AT.cntL_app] at hN hl;have hn0:((st++[t]).map (AT.val f)).isEmpty=false:=by cases st <;> rfl
  have c1:(qTr (af 2)).G [.sh v,.ow (.lst (acc.map f)),.ow (.lst ((st++[t]).map (AT.val f))),s3]=.ok true [.sh v,.ow (.lst (acc.map f)),.ow (.lst ((st++[t]).map (AT.val f))),s3]:=by simp![mS,hn0,Bool.not_false]
  rw[iR,c1];show ∃l s3',_/\((b9.G _).loop _)=_;rw[L_,u_,LH];cases t with
  |
   lf k=>
   simp only[AT.lvsL,AT.lvs,L6,AT.cntL,AT.cnt] at hf hN hl ⊢;obtain⟨l,s3',q1,q2⟩:=g6 (f:=f) v N st (acc++[k]) (.sh (f k)) (by omega) rfl (λj hj=>hf j (by simp [hj])) (by rw[I_];simp only[Em,LD];omega);refine⟨k::l,s3',((q1.cons k).trans (List.perm_append_comm (l₁:=[k]) (l₂:=AT.lvsL st))),?_⟩;have i1:(bp cu).G [f k,.ty "tuple"]=.val (.bl false):=by
    have:=hf k (by simp)
    generalize f k=a at *;cases a <;> first |rfl |(cases this;done)
   have al:(acc.map f).length<16777216:=by rw[q_];omega
   have bb:b9.G [.sh v,.ow (.lst (acc.map f)),.ow (.lst (st.map (AT.val f)++[AT.val f (.lf k)])),s3]=.nx [.sh v,.ow (.lst ((acc++[k]).map f)),.ow (.lst (st.map (AT.val f))),.sh (f k)]:=by unfold b9;rw[AT.val,L_,u_,LH];generalize f k=a at *;simp![jG,h3,i1,al]
   rw[bb,show acc++k::l=acc++[k]++l by simp];exact q2
  |
   nd w ts=>
   simp only[AT.lvsL,AT.lvs,L6,AT.cntL,AT.cnt] at hf hN hl ⊢;obtain⟨l,s3',q1,q2⟩:=g6 (f:=f) v N (st++ts) acc (.sh (AT.val f (.nd w ts))) (by rw[AT.cntL_app];omega) rfl (by rw[AT.lvsL_app];exact hf) (by rw[AT.cntL_app];omega);rw[AT.lvsL_app] at q1;refine⟨l,s3',q1,?_⟩;have i1:∀xs:List Val,(bp cu).G [.tup xs,.ty "tuple"]=.val (.bl true):=λ_=>rfl;have le:∀l:List AT,l.length<=AT.cntL l:=by
    intro l;induction l with
    |nil=>exact v_ _
    |cons t l ih=>rw[AT.cntL,Em];cases t <;> (rw[AT.cnt];omega)
   have ll:(st.map (AT.val f)).length+(ts.map (AT.val f)).length<=16777216:=by
    have:=le st
    have:=le ts
    rw[q_,q_];omega
   rw[AT.val,AT.vals_map] at q2 ⊢;rw[L_] at q2;have bb:b9.G [.sh v,.ow (.lst (acc.map f)),.ow (.lst (st.map (AT.val f)++[.tup [.str (wy w),.tup (ts.map (AT.val f))]])),s3]=.nx [.sh v,.ow (.lst (acc.map f)),.ow (.lst (st.map (AT.val f)++ts.map (AT.val f))),.sh (.tup [.str (wy w),.tup (ts.map (AT.val f))])]:=by unfold b9;simp![jG,h3,i1,wH,oh,ll]
   rw[bb];exact q2
def xf{f:Nat->Val}{t:AT}(hf:∀k∈t.lvs,lfV (f k)=true)(hc:t.cnt<=100000):∃l:List Nat,l.Perm t.lvs/\df.G [t.val f]=.ok (.new (.lst (l.map f))) []:=by
 have e1:AT.lvsL [t]=t.lvs:=by simp [AT.lvsL]
 have e2:AT.cntL [t]=t.cnt:=by simp [AT.cntL]
 obtain⟨l,s3',q1,q2⟩:=g6 (f:=f) (t.val f) (AT.cntL [t]) [t] [] .no (v_ _) rfl (by rw[e1];exact hf) (by rw[e2,LD];omega);rw[e1] at q1;refine⟨l,q1,?_⟩;rw[u_,LH,LH,Mk] at q2;unfold df;rw[aD];unfold kh;generalize t.val f=tv at *;simp![q2]
def wM{ws:List Int}{l:List Nat}(hl:l.length<=1000)(hi:∀k∈l,k<ws.length):∃s,lcV (gtN 0).G qY.G (pOp bIx (af 1) (af 0)).G (l.map λk:Nat=>.int k) [] [.no,.sh (liV ws)]=.ok ((l.map λk=>ws.getD k 0).map .int) [s,.sh (liV ws)]:=by
 obtain⟨e',⟨s,rfl,_⟩,lc⟩:=cp (g:=(gtN 0).G) (F:=(pOp bIx (af 1) (af 0)).G) (λk:Nat=>Val.int k) (λk:Nat=>Val.int (ws.getD k 0)) (λe=>∃s:Sl,e=[s,.sh (liV ws)]/\s.pl=true) l [] [.no,.sh (liV ws)] ⟨.no,rfl,rfl⟩ (by
  rintro k hk _ ⟨s,rfl,hs⟩;have h1:=hi k hk;have a1:atI (ws.map Val.int) (k:Nat)=some (.int (ws.getD k 0)):=dm (by omega) (by rw[LL];show (ws[k]?).map _=_;rw[E_,x_ h1];rfl);refine⟨[.sh (.int (k:Nat)),.sh (liV ws)],.val (.int (ws.getD k 0)),[.sh (.int (k:Nat)),.sh (liV ws)],?_,?_,rfl,_,rfl,rfl⟩
  .simp![hs]
  .unfold liV;simp![a1]) (by rw[LD];omega)
 exact⟨s,by rw[MF];exact lc⟩
def sX{ws:List Int}{b:Bx}{w:Bool}{ts:List AT}{n m:Nat}(h:AT.lay ws n m (.nd w ts) b)(hnm:n+n+m<=8000)(hi:∀k∈AT.lvsL ts,k<ws.length)(hl:(AT.lvsL ts).length<=1000)(hc:AT.cntL ts<=100000):eL.G [bV b,liV ws,atV (.nd w ts)]=.ok (.new (.lst ((ay b (wy w) (ts.map (wtT ws))).map bV))) []:=by
 rw[AT.lay] at h;obtain⟨h1,h2,h3,h4,h5,h6,_⟩:=h;have ew:wy w="across" \/ wy w="down":=by cases w;exact .inr rfl;exact .inl rfl
 have pe:=ou h1 h2 ew (ws:=ts.map (wtT ws)) (by simpa using h3) (λx hx=>by obtain⟨t,ht,rfl⟩:=LN.mp hx;exact h5 t ht) h6 hnm (by rw[q_];exact h4);have cle:∀t∈ts,t.cnt<=AT.cntL ts:=λt ht=>AT.cnt_le ht;have lle:∀t∈ts,t.lvs.length<=(AT.lvsL ts).length:=λt ht=>AT.lvs_le ht;obtain⟨e',⟨s,rfl,_⟩,lc⟩:=cp (g:=(gtN 0).G) (F:=(pFn cA (aa (pLC (bB (ai df (aa (af 0) ag))) [none,some 1] (by decide) (gtN 0) qY (pOp bIx (af 1) (af 0))) ag)).G) atV (λt=>Val.int (wtT ws t)) (λe=>∃s:Sl,e=[s,.sh (liV ws)]/\s.pl=true) ts [] [.no,.sh (liV ws)] ⟨.no,rfl,rfl⟩ (by
  rintro t ht _ ⟨s,rfl,hs⟩;obtain⟨l,lp,e1⟩:=xf (f:=λk=>.int (k:Nat)) (t:=t) (λ_ _=>rfl) (by have:=cle t ht;omega);rw[show AT.val (λk=>Val.int (k:Nat)) t=atV t from rfl] at e1;obtain⟨s',lc⟩:=wM (ws:=ws) (l:=l) (by rw[lp.length_eq];have:=lle t ht;omega) (λk hk=>hi k (AT.lvsL_mem.mpr ⟨t,ht,lp.mem_iff.mp hk⟩));have ll:((l.map λk=>ws.getD k 0).map Val.int).length<=16777216:=by rw[q_,q_,lp.length_eq];have:=lle t ht;omega
  have sm:(l.map λk=>ws.getD k 0).sum=wtT ws t:=zy lp;refine⟨[.sh (atV t),.sh (liV ws)],.val (.int (wtT ws t)),[.sh (atV t),.sh (liV ws)],?_,?_,rfl,_,rfl,rfl⟩
  .generalize atV t=tv at *;simp![hs]
  .rw[<- sm];generalize atV t=tv at *;generalize liV ws=wv at *;generalize (l.map λk:Nat=>Val.int (k:Nat))=LV at *;simp![e1,bY,inS,lc,ll]) (by rw[LD];omega)
 have av:atV (.nd w ts)=.tup [.str (wy w),.tup (ts.map atV)]:=by unfold atV;rw[AT.val,AT.vals_map]
 have lm:ts.map (λt=>Val.int (wtT ws t))=(ts.map (wtT ws)).map .int:=by rw[MF];rfl
 have l2:((ts.map (wtT ws)).map Val.int).length<=16777216:=by rw[q_,q_];omega
 rw[Mk,lm] at lc;rw[av];generalize (ay b (wy w) (ts.map (wtT ws))).map bV=PB at *;generalize (ts.map (wtT ws)).map Val.int=SV at *;generalize ts.map atV=TV at *;generalize liV ws=wv at *;generalize bV b=bv at *;unfold eL;rw[aD];unfold lC;simp![bY,inS,lc,l2,pe]
theorem lE{ws:List Int}{n m k:Nat}(rv tv:Val):∀(ts:List AT) (bs:List Bx) (kvs:List (Key×Val)) (s4 s5:Sl),s4.pl=true->s5.pl=true->ts.length=bs.length->(∀(t:AT) (b:Bx) (kvs:List (Key×Val)),t∈ts->AT.lay ws n m t b->kvs.length+t.lvs.length<=100000->(de k).G [bV b,liV ws,atV t,.dct kvs]=.ok (.val .non) [.dct (cM kvs (AT.bx ws t b))])->AT.layL ws n m ts bs->kvs.length+(AT.lvsL ts).length<=100000->
 ∃s4' s5',dk (gtX (gtT 2 (aT (gtN 4) (aT (gtN 5) dP)))).G (jd (de k)).G (List.zipWith (λx y=>Val.tup [x,y]) (ts.map atV) (bs.map bV)) [.sh rv,.sh (liV ws),.sh tv,.mu (.dct kvs),s4,s5]=.nx [.sh rv,.sh (liV ws),.sh tv,.mu (.dct (cM kvs (AT.bxL ws ts bs))),s4',s5']
 | [],bs,kvs,s4,s5,_,_,_,_,_,_=>⟨s4,s5,by cases bs <;> rfl⟩
 |t::ts,[],kvs,s4,s5,_,_,h,_,_,_=>nomatch h
 |
  t::ts,b::bs,kvs,s4,s5,h4,h5,hl,hp,hy,hk=>by
  rw[AT.layL] at hy;rw[AT.lvsL,I_] at hk;have e1:=hp t b kvs (s_ ..) hy.1 (by omega);have b_:=sx (AT.bx ws t b) kvs;have hfst:=(AT.bx_fst ws t b).1;obtain⟨s4',s5',q⟩:=lE rv tv ts bs (cM kvs (AT.bx ws t b)) (.sh (atV t)) (.sh (bV b)) rfl rfl (by simpa using hl) (λu c kv hu=>hp u c kv (r_ _ hu)) hy.2 (by omega);refine⟨s4',s5',?_⟩;rw[AT.bxL,Bm,u_,u_,List.zipWith_cons_cons,c8];generalize cM kvs (AT.bx ws t b)=kvs1 at *;generalize atV t=av at *;generalize bV b=bv at *;generalize liV ws=wv at *;have g1:(gtX (gtT 2 (aT (gtN 4) (aT (gtN 5) dP)))).G (.tup [av,bv]) [.sh rv,.sh wv,.sh tv,.mu (.dct kvs),s4,s5]=some [.sh rv,.sh wv,.sh tv,.mu (.dct kvs),.sh av,.sh bv]:=by simp![h4,h5]
  have b1:(jd (de k)).G [.sh rv,.sh wv,.sh tv,.mu (.dct kvs),.sh av,.sh bv]=.nx [.sh rv,.sh wv,.sh tv,.mu (.dct kvs1),.sh av,.sh bv]:=by unfold jd;simp![e1]
  rw[g1];dsimp only;rw[b1];exact q
def u6(b:Bx)(way:Str)(ws:List Int):(ay b way ws).length=ws.length:=by unfold ay;split <;> rw[q_,iD]
def Au{ws:List Int}{n m:Nat}(hnm:n+n+m<=8000)(t:AT):∀(k:Nat) (b:Bx) (kvs:List (Key×Val)),t.dep<=k->AT.lay ws n m t b->(∀i∈t.lvs,i<ws.length)->t.lvs.length<=1000->t.cnt<=100000->kvs.length+t.lvs.length<=100000->(de k).G [bV b,liV ws,atV t,.dct kvs]=.ok (.val .non) [.dct (cM kvs (AT.bx ws t b))]:=by
 induction t using AT.ind with
 |
  h1 x=>
  intro k b kvs hd _ _ _ _ hk;cases k with
  |zero=>simp [AT.dep] at hd
  |
   succ k=>
   have i1:(bp cu).G [.int (x:Nat),.ty "tuple"]=.val (.bl false):=rfl;have kl:kvs.length<16777216:=by omega
   have av:atV (.lf x)=.int (x:Nat):=rfl;have pe:cM kvs (AT.bx ws (.lf x) b)=eg kvs (.inl (x:Nat)) (bV b):=by rw[AT.bx];rfl
   show (PFx.of [false,false,false,true] 6 (gi (de k))).G [bV b,liV ws,atV (.lf x),.dct kvs]=_;rw[o6,av,pe];unfold gi;generalize bV b=bv at *;generalize liV ws=wv at *;simp![i1,Gh,kl]
 |
  h2 w ts ih=>
  intro k b kvs hd hy hi hl hc hk;cases k with
  |zero=>simp [AT.dep] at hd
  |
   succ k=>
   rw[AT.dep] at hd;rw[AT.lvs] at hi hl hk;rw[AT.cnt] at hc;have hd':=AT.depL_le.mp (show AT.depL ts<=k by omega);have pe:=sX hy hnm hi hl (by omega);have hy':=hy;rw[AT.lay] at hy';obtain⟨s4,s5,lo⟩:=lE (ws:=ws) (n:=n) (m:=m) (k:=k) (bV b) (atV (.nd w ts)) ts (ay b (wy w) (ts.map (wtT ws))) kvs .no .no rfl rfl (by rw[u6,q_]) (λt c kv ht hy2 hk2=>ih t ht k c kv (hd' t ht) hy2 (λi hi2=>hi i (AT.lvsL_mem.mpr ⟨t,ht,hi2⟩)) (by have:=AT.lvs_le ht;omega) (by have:=AT.cnt_le ht;omega) hk2) hy'.2.2.2.2.2.2 hk;have av:atV (.nd w ts)=.tup [.str (wy w),.tup (ts.map atV)]:=by unfold atV;rw[AT.val,AT.vals_map]
   have bxe:AT.bx ws (.nd w ts) b=AT.bxL ws ts (ay b (wy w) (ts.map (wtT ws))):=by rw[AT.bx]
   show (PFx.of [false,false,false,true] 6 (gi (de k))).G [bV b,liV ws,atV (.nd w ts),.dct kvs]=_;rw[o6,bxe];unfold gi;rw[av] at pe lo ⊢;have i1:∀xs:List Val,(bp cu).G [.tup xs,.ty "tuple"]=.val (.bl true):=λ_=>rfl;generalize cM kvs (AT.bxL ws ts (ay b (wy w) (ts.map (wtT ws))))=kvs1 at *;generalize (ay b (wy w) (ts.map (wtT ws))).map bV=PB at *;generalize ts.map atV=TV at *;generalize bV b=bv at *;generalize liV ws=wv at *;simp![i1,wH,pe,lo]
def pG{ws:List Int}{n m:Nat}{b:Bx}{t:AT}(hnm:n+n+m<=8000)(hb:b.Ok)(h0:ws≠[])(hw:∀w∈ws,1<=w)(h40:ws.length<=40)(ho:t.ok=true)(hi:∀k,k∈t.lvs ↔ k<ws.length)(nd:t.lvs.Nodup)(hl:t.lvs.length=ws.length)(hd:t.dep<=42)(hy:AT.lay ws n m t b):dG.G [bV b,liV ws,atV t]=.ok (.new (.lst ((List.range ws.length).map λk=>bV (bxO (AT.bx ws t b) k)))) []:=by
 have hc:=AT.cnt_lvs t ho;have cb:=bq hb;have cw:=fH h0 hw h40;have ct:=oA (n:=ws.length) ho (λk hk=>(hi k).mp hk) nd hl (by omega) (by omega);have pl:=Au (ws:=ws) hnm t 42 b [] hd hy (λk hk=>(hi k).mp hk) (by omega) (by omega) (by rw[LD];omega);have ll:((ws.map Val.int).length:Nat)=ws.length:=q_ ..;have rg:iZ [.int (ws.length:Nat)]=some (rgV ws.length):=nK (by omega);have keys:=AT.bx_keys ws t b;obtain⟨e',⟨s,rfl,_⟩,lc⟩:=cp (g:=(gtN 0).G) (F:=(pOp vO (af 1) (af 0)).G) (λk:Nat=>Val.int k) (λk:Nat=>bV (bxO (AT.bx ws t b) k)) (λe=>∃s:Sl,e=[s,.mu (.dct (cM [] (AT.bx ws t b)))]/\s.pl=true) (List.range ws.length) [] [.no,.mu (.dct (cM [] (AT.bx ws t b)))] ⟨.no,rfl,rfl⟩ (by
  rintro k hk _ ⟨s,rfl,hs⟩;rw[LC] at hk;have lk:=Kw ((uv (k:=k) (AT.bx ws t b) [] (by rw[keys];exact nd)).1 (by rw[keys];exact (hi k).mpr hk));generalize cM [] (AT.bx ws t b)=kv at *;generalize bV (bxO (AT.bx ws t b) k)=bv at *;refine⟨[.sh (.int (k:Nat)),.mu (.dct kv)],.val bv,[.sh (.int (k:Nat)),.mu (.dct kv)],?_,?_,rfl,_,rfl,rfl⟩
  .simp![hs]
  .simp![lk]) (by rw[LD,z_];omega)
 have l2:((List.range ws.length).map λk=>bV (bxO (AT.bx ws t b) k)).length<=16777216:=by simp;omega
 rw[Mk] at lc;rw[show (List.range ws.length).map (λk:Nat=>Val.int k)=rgV ws.length from rfl] at lc;generalize (List.range ws.length).map (λk=>bV (bxO (AT.bx ws t b) k))=RB at *;generalize cM [] (AT.bx ws t b)=kv at *;unfold liV at pl ⊢;generalize atV t=tv at *;generalize bV b=bv at *;unfold dG;rw[aD];unfold mw;simp![cb,cw,ll,ct,pl,rg,bY,inS,lc,l2]
def nh{ns:List Int}{k:Int}(hk:0<=k):∃a,cW.G [.kl (ns.map .int),.int k]=.ok (.new (fdV a 0 k)) []:=by
 unfold cW;rw[aD];unfold ml fdV;by_cases h0:ns.length=0
 .have e:((((ns.map Val.int).length:Nat):Int)==0)=true:=by rw[LW,q_];omega
  exact⟨0,by simp![e]⟩
 .have e:((((ns.map Val.int).length:Nat):Int)==0)=false:=by rw[J_,q_];omega
  have e1:bZ.G (.int k) (.int ((ns.map Val.int).length:Nat))=.val (.int (k.fmod ((ns.map Val.int).length:Nat))):=eO (by rw[q_];omega);have r:=dB (a:=k) (m:=((ns.map Val.int).length:Nat)) (by rw[q_];omega);rw[q_] at r e1;have hi:(k.fmod (ns.length:Nat)).toNat<ns.length:=by omega
  have at1:atI (ns.map Val.int) (k.fmod (ns.length:Nat))=some (.int ns[(k.fmod (ns.length:Nat)).toNat]):=dm r.1 (by rw[LL,x_ hi];rfl);rw[q_] at e;exact⟨ns[(k.fmod (ns.length:Nat)).toNat],by simp![q_,e,e1,at1]⟩
def pow6:fN.G (.int 10) (.int 6)=.val (.int 1000000):=oR ⟨by decide,by decide,by decide⟩
def Kn:iZ [.int 6]=some [.int 0,.int 1,.int 2,.int 3,.int 4,.int 5]:=uT (i:=6) (by decide) (by decide)
def eV{a b k far:Int}(h0:0<=far)(hf:far.natAbs<=2000000000000000000000000000000):∃r a' b',a9.G [fdV a b k,.int far]=.ok (.val (.int r)) [fdV a' b' k]/\-far<=r/\r<=far:=by obtain⟨r1,a1,b1,e1,_,_⟩:=aA (a:=a) (b:=b) (k:=k) (m:=1000000) (by decide) (sm8 (by decide));obtain⟨r2,a2,b2,e2,_,_⟩:=aA (a:=a1) (b:=b1) (k:=k) (m:=1000000) (by decide) (sm8 (by decide));obtain⟨r3,a3,b3,e3,_,_⟩:=aA (a:=a2) (b:=b2) (k:=k) (m:=1000000) (by decide) (sm8 (by decide));obtain⟨r4,a4,b4,e4,_,_⟩:=aA (a:=a3) (b:=b3) (k:=k) (m:=1000000) (by decide) (sm8 (by decide));obtain⟨r5,a5,b5,e5,_,_⟩:=aA (a:=a4) (b:=b4) (k:=k) (m:=1000000) (by decide) (sm8 (by decide));obtain⟨r6,a6,b6,e6,_,_⟩:=aA (a:=a5) (b:=b5) (k:=k) (m:=1000000) (by decide) (sm8 (by decide));have c6:∀x:Int,aC.G (.int x) (.int 1000000)=.val (.int (x*1000000)):=λx=>aX (CMulA.right (by decide) (by decide));have c2:aC.G (.int 2) (.int far)=.val (.int (2*far)):=aX (CMulA.left (by decide) (by decide));have c3:∀x:Int,bZ.G (.int x) (.int (2*far+1))=.val (.int (x.fmod (2*far+1))):=λx=>eO (by omega);have fr:=dB (a:=(((((0*1000000+r1)*1000000+r2)*1000000+r3)*1000000+r4)*1000000+r5)*1000000+r6) (m:=2*far+1) (by omega);refine⟨((((((0*1000000+r1)*1000000+r2)*1000000+r3)*1000000+r4)*1000000+r5)*1000000+r6).fmod (2*far+1)-far,a6,b6,?_,by omega,by omega⟩;unfold a9;rw[aD];unfold ki jr;unfold fdV at *;simp![Kn,c8,pow6,c6,e1,e2,e3,e4,e5,e6,c2,c3,Int.reduceMul]
theorem sA(x y:Val):∀(n one a_:Nat),a_<=n->(xWh (qOf (pOp bGt (af 3) (ah 0))) fW).G [.sh x,.sh y,.sh (.int (one:Nat)),.sh (.int (a_:Nat))]=.nx [.sh x,.sh y,.sh (.int (Nat.gcd one a_:Nat)),.sh (.int 0)]
 |
  n,one,0,_=>by
  rw[iR];simp![Nat.gcd_zero_right,Int.natCast_zero,Int.lt_irrefl]
 |0,one,a_+1,hl=>absurd hl (by omega)
 |
  n+1,one,a_+1,hl=>by
  rw[iR];have e:decide ((0:Int)<((a_+1:Nat):Int))=true:=K_ (by omega);have e1:bZ.G (.int (one:Nat)) (.int ((a_+1:Nat):Int))=.val (.int (((one:Nat):Int).fmod ((a_+1:Nat):Int))):=eO (by omega);have e2:((one:Nat):Int).fmod ((a_+1:Nat):Int)=((one % (a_+1):Nat):Int):=by rw[Int.fmod_eq_emod_of_nonneg _ (by omega)];rfl
  have ih:=sA x y n (a_+1) (one % (a_+1)) (by have:=Nat.mod_lt one (show a_+1>0 by omega);omega);rw[Fr.euc] at ih;rw[e2] at e1;have bb:fW.G [.sh x,.sh y,.sh (.int (one:Nat)),.sh (.int ((a_+1:Nat):Int))]=.nx [.sh x,.sh y,.sh (.int ((a_+1:Nat):Int)),.sh (.int ((one % (a_+1):Nat):Int))]:=by unfold fW;simp![e1]
  simp![e,bb,ih]
def gI{a b:Int}(hb:b≠0)(hs:Sm 8000 b):bM.G [.int a,.int b]=.ok (.val (fV ((a:Rat)/(b:Rat)))) []:=by
 unfold bM;rw[aD];unfold oq;have lo:=sA (.int a) (.int b) b.natAbs a.natAbs b.natAbs (v_ _);rw[show Nat.gcd a.natAbs b.natAbs=Int.gcd a b from rfl] at lo;have c:∀x,CDivB x (Fr.dv a b):=λx=>CDivB.of (Fr.dv_ne hb) (hs.of_le (by rw[Fr.dv_abs];exact Nat.le_of_dvd (by omega) (Nat.gcd_dvd_right a.natAbs b.natAbs)));have k1:=iP (c a);have k2:=iP (c b);have hh:=l9 (a:=a) hb;have d_:Val.tup [.int (a.fdiv (Fr.dv a b)),.int (b.fdiv (Fr.dv a b))]=fV ((a:Rat)/(b:Rat)):=by unfold fV;rw[<- hh.1,<- hh.2];rfl
 by_cases hn:b<0
 .have hd:Fr.dv a b=0-((Int.gcd a b:Nat):Int):=by unfold Fr.dv;rw[if_pos hn];omega
  rw[hd] at k1 k2 d_;simp![f9,lo,K_ hn,k1,k2,d_]
 .have hd:Fr.dv a b=((Int.gcd a b:Nat):Int):=by unfold Fr.dv;rw[if_neg hn]
  rw[hd] at k1 k2 d_;simp![f9,lo,H_ hn,k1,k2,d_]
def p30:fN.G (.int 10) (.int 30)=.val (.int 1000000000000000000000000000000):=oR ⟨by decide,by decide,by decide⟩
def rmQ(k:Int)(r:SR3):Prop:=∃b a c,Good b/\jt [true] r=.ok (.val (bV b)) [fdV a c k]
def rmI(k way:Int)(e:E3):Prop:=∃b x a c,Good b/\x.pl=true/\e=[.mu (fdV a c k),.sh (.int way),.sh (fV b.l),.sh (fV b.t),.sh (fV b.w),.sh (fV b.h),x]
def iU{r:Int}(h:0<=r):0<1+r:=by omega
def vg{r:Int}(h:0<=r):1+r≠0:=by omega
def ik{r m:Int}(h0:0<=r)(h1:r<m)(hm:m<=1000):(1+r).natAbs<=2000000000000000000000000000000:=by omega
def o7{r m c:Int}(h0:0<=r)(h1:r<m)(hm:m<=1000)(hc:0<=c/\c<=1000):(r-c).natAbs<=2000000000000000000000000000000:=by omega
def nH{r far:Int}(h0:-far<=r)(h1:r<=far)(hf:far<=1000000000000000000000000000000):r.natAbs<=2000000000000000000000000000000/\(1+((r.natAbs:Nat):Int)).natAbs<=2000000000000000000000000000000:=by omega
def oU{r:Int}:0<1+((r.natAbs:Nat):Int):=by omega
def xn{r:Int}(h:0<r):r≠0:=by omega
def Eo(a c k:Int):∃b a' c',Good b/\eK.G [fdV a c k]=.ok (.val (bV b)) [fdV a' c' k]:=by
 unfold eK;rw[pq rfl];show rmQ k (iY.G [.mu (fdV a c k),.no,.no,.no,.no,.no,.no]);unfold iY;obtain⟨way,a1,c1,e1,hw0,hw1⟩:=aA (a:=a) (b:=c) (k:=k) (m:=6) (by decide) (sm8 (by decide));refine aE (λe=>e=[.mu (fdV a1 c1 k),.sh (.int way),.no,.no,.no,.no,.no]) ⟨_,by simp![e1],rfl⟩ ?_;rintro _ rfl;obtain⟨l,a2,c2,e2,hl0,hl1⟩:=aA (a:=a1) (b:=c1) (k:=k) (m:=19) (by decide) (sm8 (by decide));obtain⟨t,a3,c3,e3,ht0,ht1⟩:=aA (a:=a2) (b:=c2) (k:=k) (m:=19) (by decide) (sm8 (by decide));refine aE (λe=>e=[.mu (fdV a3 c3 k),.sh (.int way),.sh (fV ((l-9:Int):Rat)),.sh (fV ((t-9:Int):Rat)),.no,.no,.no]) ⟨_,by simp![e2,e3,iV],rfl⟩ ?_;rintro _ rfl;obtain⟨w,a4,c4,e4,hww0,hww1⟩:=aA (a:=a3) (b:=c3) (k:=k) (m:=12) (by decide) (sm8 (by decide));obtain⟨hh,a5,c5,e5,hh0,hh1⟩:=aA (a:=a4) (b:=c4) (k:=k) (m:=12) (by decide) (sm8 (by decide));refine aE (rmI k way) ⟨[.mu (fdV a5 c5 k),.sh (.int way),.sh (fV ((l-9:Int):Rat)),.sh (fV ((t-9:Int):Rat)),.sh (fV ((1+w:Int):Rat)),.sh (fV ((1+hh:Int):Rat)),.no],by simp![e4,e5,iV],⟨_,_,_,_⟩,.no,a5,c5,⟨⟨eY (iU hww0),eY (iU hh0)⟩,⟨fG (o7 hl0 hl1 (by decide) (by decide)),fG (o7 ht0 ht1 (by decide) (by decide)),fG (ik hww0 hww1 (by decide)),fG (ik hh0 hh1 (by decide))⟩⟩,rfl,rfl⟩ ?_;rintro _ ⟨b,x,a,c,gb,hx,rfl⟩;refine aE (rmI k way) ?_ ?_
 .by_cases hw:way=1
  .subst hw;exact⟨[.mu (fdV a c k),.sh (.int 1),.sh (fV b.l),.sh (fV b.t),.sh (fV b.w),.sh (fV b.w),x],by simp![jV],⟨b.l,b.t,b.w,b.w⟩,x,a,c,⟨⟨gb.ok.w,gb.ok.w⟩,⟨gb.sz.l,gb.sz.t,gb.sz.w,gb.sz.w⟩⟩,hx,rfl⟩
  .exact⟨_,by simp![J_.mpr hw],b,x,a,c,gb,hx,rfl⟩
 rintro _ ⟨b,x,a,c,gb,hx,rfl⟩;refine aE (rmI k way) ?_ ?_
 .by_cases hw:way=2
  .subst hw;obtain⟨r,a1,c1,e1,h0,h1⟩:=aA (a:=a) (b:=c) (k:=k) (m:=99) (by decide) (sm8 (by decide));exact⟨[.mu (fdV a1 c1 k),.sh (.int 2),.sh (fV b.l),.sh (fV b.t),.sh (fV ((1+r:Int):Rat)),.sh (fV b.h),x],by simp![e1,iV],⟨b.l,b.t,((1+r:Int):Rat),b.h⟩,x,a1,c1,⟨⟨eY (iU h0),gb.ok.h⟩,⟨gb.sz.l,gb.sz.t,fG (ik h0 h1 (by decide)),gb.sz.h⟩⟩,hx,rfl⟩
  .exact⟨_,by simp![J_.mpr hw],b,x,a,c,gb,hx,rfl⟩
 rintro _ ⟨b,x,a,c,gb,hx,rfl⟩;refine aE (rmI k way) ?_ ?_
 .by_cases hw:way=3
  .subst hw;obtain⟨r,a1,c1,e1,h0,h1⟩:=aA (a:=a) (b:=c) (k:=k) (m:=99) (by decide) (sm8 (by decide));exact⟨[.mu (fdV a1 c1 k),.sh (.int 3),.sh (fV b.l),.sh (fV b.t),.sh (fV b.w),.sh (fV ((1+r:Int):Rat)),x],by simp![e1,iV],⟨b.l,b.t,b.w,((1+r:Int):Rat)⟩,x,a1,c1,⟨⟨gb.ok.w,eY (iU h0)⟩,⟨gb.sz.l,gb.sz.t,gb.sz.w,fG (ik h0 h1 (by decide))⟩⟩,hx,rfl⟩
  .exact⟨_,by simp![J_.mpr hw],b,x,a,c,gb,hx,rfl⟩
 rintro _ ⟨b,x,a,c,gb,hx,rfl⟩;refine aE (rmI k way) ?_ ?_
 .by_cases hw:way=4
  .subst hw;obtain⟨r1,a1,c1,e1,h10,h11⟩:=aA (a:=a) (b:=c) (k:=k) (m:=199) (by decide) (sm8 (by decide));obtain⟨r2,a2,c2,e2,h20,h21⟩:=aA (a:=a1) (b:=c1) (k:=k) (m:=30) (by decide) (sm8 (by decide));obtain⟨r3,a3,c3,e3,h30,h31⟩:=aA (a:=a2) (b:=c2) (k:=k) (m:=9) (by decide) (sm8 (by decide));obtain⟨r4,a4,c4,e4,h40,h41⟩:=aA (a:=a3) (b:=c3) (k:=k) (m:=99) (by decide) (sm8 (by decide));obtain⟨r5,a5,c5,e5,h50,h51⟩:=aA (a:=a4) (b:=c4) (k:=k) (m:=30) (by decide) (sm8 (by decide));obtain⟨r6,a6,c6,e6,h60,h61⟩:=aA (a:=a5) (b:=c5) (k:=k) (m:=99) (by decide) (sm8 (by decide));have l1:=gI (a:=r1-99) (b:=1+r2) (vg h20) (jS (ik h20 h21 (by decide)));have l2:=gI (a:=r3) (b:=7) (by decide) (jS (by decide));have l3:=gI (a:=1+r4) (b:=1+r5) (vg h50) (jS (ik h50 h51 (by decide)));have l4:=gI (a:=1+r6) (b:=11) (by decide) (jS (by decide));exact⟨[.mu (fdV a6 c6 k),.sh (.int 4),.sh (fV (((r1-99:Int):Rat)/((1+r2:Int):Rat))),.sh (fV (((r3:Int):Rat)/((7:Int):Rat))),.sh (fV (((1+r4:Int):Rat)/((1+r5:Int):Rat))),.sh (fV (((1+r6:Int):Rat)/((11:Int):Rat))),x],by simp![e1,e2,e3,e4,e5,e6,l1,l2,l3,l4],⟨_,_,_,_⟩,x,a6,c6,⟨⟨eW (iU h40) (iU h50),eW (iU h60) (by decide)⟩,⟨gd (vg h20) (o7 h10 h11 (by decide) (by decide)) (ik h20 h21 (by decide)),gd (by decide) (by have:=o7 (c:=0) h30 h31 (by decide) (by decide);rw[Int.sub_zero] at this;exact this) (by decide),gd (vg h50) (ik h40 h41 (by decide)) (ik h50 h51 (by decide)),gd (by decide) (ik h60 h61 (by decide)) (by decide)⟩⟩,hx,rfl⟩
  .exact⟨_,by simp![J_.mpr hw],b,x,a,c,gb,hx,rfl⟩
 rintro _ ⟨b,x,a,c,gb,hx,rfl⟩;refine aE (rmI k way) ?_ ?_
 .by_cases hw:way=5
  .subst hw;obtain⟨r1,a1,c1,e1,h10,h11⟩:=eV (a:=a) (b:=c) (k:=k) (far:=999999999999999999999999999999) (by decide) (by decide);obtain⟨r2,a2,c2,e2,h20,h21⟩:=eV (a:=a1) (b:=c1) (k:=k) (far:=999999999999999999999999999998) (by decide) (by decide);obtain⟨r3,a3,c3,e3,h30,h31⟩:=eV (a:=a2) (b:=c2) (k:=k) (far:=999999999999999999999999999999) (by decide) (by decide);obtain⟨r4,a4,c4,e4,h40,h41⟩:=eV (a:=a3) (b:=c3) (k:=k) (far:=999999999999999999999999999998) (by decide) (by decide);obtain⟨r5,a5,c5,e5,h50,h51⟩:=eV (a:=a4) (b:=c4) (k:=k) (far:=999999999999999999999999999998) (by decide) (by decide);have n2:=f9 r2;have n4:=f9 r4;have n5:=f9 r5;have l1:=gI (a:=r1) (b:=1+((r2.natAbs:Nat):Int)) (xn oU) (jS (nH h20 h21 (by decide)).2);have l4:=gI (a:=1+((r5.natAbs:Nat):Int)) (b:=999999999999999999999999999999) (by decide) (jS (by decide));exact⟨[.mu (fdV a5 c5 k),.sh (.int 5),.sh (fV (((r1:Int):Rat)/((1+((r2.natAbs:Nat):Int):Int):Rat))),.sh (fV ((r3:Int):Rat)),.sh (fV ((1+((r4.natAbs:Nat):Int):Int):Rat)),.sh (fV (((1+((r5.natAbs:Nat):Int):Int):Rat)/((999999999999999999999999999999:Int):Rat))),.sh (.int 999999999999999999999999999999)],by simp![hx,p30,e1,e2,e3,e4,e5,n2,n4,n5,l1,l4,iV],⟨_,_,_,_⟩,_,a5,c5,⟨⟨eY oU,eW oU (by decide)⟩,⟨gd (xn oU) (nH h10 h11 (by decide)).1 (nH h20 h21 (by decide)).2,fG (nH h30 h31 (by decide)).1,fG (nH h40 h41 (by decide)).2,gd (by decide) (nH h50 h51 (by decide)).2 (by decide)⟩⟩,rfl,rfl⟩
  .exact⟨_,by simp![J_.mpr hw],b,x,a,c,gb,hx,rfl⟩
 rintro _ ⟨b,x,a,c,gb,hx,rfl⟩;refine⟨b,a,c,gb,?_⟩;simp![oV,bV]
def p29:fN.G (.int 10) (.int 29)=.val (.int 100000000000000000000000000000):=oR ⟨by decide,by decide,by decide⟩
def HQ{r:Int}(h0:0<=r)(h1:r<24):∃z,1<=z/\z<=8388608/\sk.G (.int 1) (.int r)=.val (.int z):=by
 have c1:(1:Nat)<=2^r.toNat:=Nat.one_le_two_pow;have c2:2^r.toNat<=2^23:=L8 (by decide) (by omega);have e:(2:Int)^r.toNat=((2^r.toNat:Nat):Int):=by rw[Int.natCast_pow];rfl
 refine⟨1*2^r.toNat,?_,?_,Km ⟨h0,by omega,by decide⟩⟩
 .rw[Int.one_mul,e];exact Int.ofNat_le.mpr c1
 .rw[Int.one_mul,e];exact Int.ofNat_le.mpr c2
def EX{ns:List Int}{at_ most many more sty k:Int}{acc:List Int}{s9:Sl}(h9:s9.pl=true)(hk:0<=k/\k<=40)(hs:0<=sty/\sty<6)(a c q:Int):
 ∃w a' c',1<=w/\w<=8388608/\(ar false 9 (pOp bIx (cm (aa (ah 1) (aa (pOp aF (ah 1) (ai ak (aa (af 3) (aa (ah 9) ag)))) (aa (pOp sk (ah 1) (pOp bZ (af 8) (ah 24))) (aa (pOp aF (ah 1) (ai ak (aa (af 3) (aa (ah 9) ag)))) (aa (ah 1) (aa (pOp aF (ah 1) (ai ak (aa (af 3) (aa (ah 3) ag)))) ag))))))) (af 6))).G [.sh (.kl (ns.map .int)),.sh (.int at_),.sh (.int most),.ow (fdV a c q),.sh (.int many),.sh (.int more),.sh (.int sty),.ow (.lst (acc.map .int)),.sh (.int k),s9]=.nx [.sh (.kl (ns.map .int)),.sh (.int at_),.sh (.int most),.ow (fdV a' c' q),.sh (.int many),.sh (.int more),.sh (.int sty),.ow (.lst (acc.map .int)),.sh (.int k),.sh (.int w)]:=by
 obtain⟨r1,a1,c1,e1,l1,u1⟩:=aA (a:=a) (b:=c) (k:=q) (m:=9) (by decide) (sm8 (by decide));obtain⟨r2,a2,c2,e2,l2,u2⟩:=aA (a:=a1) (b:=c1) (k:=q) (m:=9) (by decide) (sm8 (by decide));obtain⟨r3,a3,c3,e3,l3,u3⟩:=aA (a:=a2) (b:=c2) (k:=q) (m:=3) (by decide) (sm8 (by decide));have fm:=dB (a:=k) (m:=24) (by decide);have km:=eO (i:=k) (j:=24) (by decide);have sh:=HQ fm.1 fm.2;obtain⟨z,z1,z2,z3⟩:=sh;have hc:sty=0\/sty=1\/sty=2\/sty=3\/sty=4\/sty=5:=by omega
 have at6:∃w,1<=w/\w<=8388608/\atI [Val.int 1,.int (1+r1),.int z,.int (1+r2),.int 1,.int (1+r3)] sty=some (.int w):=by
  rcases hc with rfl |rfl |rfl |rfl |rfl |rfl
  .exact⟨1,by decide,by decide,rfl⟩
  .exact⟨1+r1,by omega,by omega,rfl⟩
  .exact⟨z,z1,z2,rfl⟩
  .exact⟨1+r2,by omega,by omega,rfl⟩
  .exact⟨1,by decide,by decide,rfl⟩
  .exact⟨1+r3,by omega,by omega,rfl⟩
 obtain⟨w,w1,w2,w3⟩:=at6;refine⟨w,a3,c3,w1,w2,?_⟩;simp![e1,e2,e3,km,z3,w3,h9]
def wtI(ns:List Int)(at_ most many more sty k:Int)(acc:List Int)(e:E3):Prop:=∃w a c q,1<=w/\w<=1000000000000000000000000000000/\(sty<3->w<=8388608)/\e=[.sh (.kl (ns.map .int)),.sh (.int at_),.sh (.int most),.ow (fdV a c q),.sh (.int many),.sh (.int more),.sh (.int sty),.ow (.lst (acc.map .int)),.sh (.int k),.sh (.int w)]
def wtQ(ns:List Int)(at_ most many more sty k:Int)(acc:List Int)(r:SR3):Prop:=∃w s3,1<=w/\w<=1000000000000000000000000000000/\(sty<3->w<=8388608)/\s3.pl=true/\r=.nx [.sh (.kl (ns.map .int)),.sh (.int at_),.sh (.int most),s3,.sh (.int many),.sh (.int more),.sh (.int sty),.ow (.lst ((acc++[w]).map .int)),.sh (.int k),.sh (.int w)]
def DR{ns:List Int}{at_ most many more sty k:Int}{acc:List Int}{s3 s9:Sl}(h3:s3.pl=true)(h9:s9.pl=true)(ha:0<=at_)(hk:0<=k/\k<=40)(hs:0<=sty/\sty<6)(hl:acc.length<=1000):
 wtQ ns at_ most many more sty k acc (dH.G [.sh (.kl (ns.map .int)),.sh (.int at_),.sh (.int most),s3,.sh (.int many),.sh (.int more),.sh (.int sty),.ow (.lst (acc.map .int)),.sh (.int k),s9]):=by
 unfold dH;obtain⟨f,ef⟩:=nh (ns:=ns) (k:=at_+1+k) (by omega);refine aE (λe=>e=[.sh (.kl (ns.map .int)),.sh (.int at_),.sh (.int most),.ow (fdV f 0 (at_+1+k)),.sh (.int many),.sh (.int more),.sh (.int sty),.ow (.lst (acc.map .int)),.sh (.int k),s9]) ⟨_,by simp![ef,h3],rfl⟩ ?_;rintro _ rfl;refine aE (wtI ns at_ most many more sty k acc) ?_ ?_
 .obtain⟨w,a,c,w1,w2,e⟩:=EX (ns:=ns) (at_:=at_) (most:=most) (many:=many) (more:=more) (acc:=acc) h9 hk hs f 0 (at_+1+k);exact⟨_,e,w,a,c,_,w1,by omega,λ_=>w2,rfl⟩
 rintro _ ⟨w,a,c,q,w1,w2,w3,rfl⟩;refine aE (wtI ns at_ most many more sty k acc) ?_ ?_
 .by_cases h:sty=3
  .subst h;obtain⟨r1,a1,c1,e1,l1,u1⟩:=aA (a:=a) (b:=c) (k:=q) (m:=4) (by decide) (sm8 (by decide));obtain⟨r2,a2,c2,e2,l2,u2⟩:=aA (a:=a1) (b:=c1) (k:=q) (m:=100) (by decide) (sm8 (by decide));by_cases hr:r1=0
   .subst hr;exact⟨[.sh (.kl (ns.map .int)),.sh (.int at_),.sh (.int most),.ow (fdV a2 c2 q),.sh (.int many),.sh (.int more),.sh (.int 3),.ow (.lst (acc.map .int)),.sh (.int k),.sh (.int (100000000000000000000000000000+r2))],by simp![e1,e2,p29],_,_,_,_,by omega,by omega,λz=>absurd z (by decide),rfl⟩
   .exact⟨[.sh (.kl (ns.map .int)),.sh (.int at_),.sh (.int most),.ow (fdV a1 c1 q),.sh (.int many),.sh (.int more),.sh (.int 3),.ow (.lst (acc.map .int)),.sh (.int k),.sh (.int w)],by simp![e1,J_.mpr hr],_,_,_,_,w1,w2,w3,rfl⟩
  .exact⟨_,by simp![J_.mpr h],w,a,c,q,w1,w2,w3,rfl⟩
 rintro _ ⟨w,a,c,q,w1,w2,w3,rfl⟩;refine aE (wtI ns at_ most many more sty k acc) ?_ ?_
 .by_cases h:sty=4
  .subst h;obtain⟨r1,a1,c1,e1,l1,u1⟩:=eV (a:=a) (b:=c) (k:=q) (far:=999999999999999999999999999998) (by decide) (by decide);exact⟨[.sh (.kl (ns.map .int)),.sh (.int at_),.sh (.int most),.ow (fdV a1 c1 q),.sh (.int many),.sh (.int more),.sh (.int 4),.ow (.lst (acc.map .int)),.sh (.int k),.sh (.int (1+if r1<0 then -r1 else r1))],by simp![e1,p30],_,_,_,_,by split <;> omega,by split <;> omega,λz=>absurd z (by decide),rfl⟩
  .exact⟨_,by simp![J_.mpr h],w,a,c,q,w1,w2,w3,rfl⟩
 rintro _ ⟨w,a,c,q,w1,w2,w3,rfl⟩;have ll:(acc.map Val.int).length<16777216:=by rw[q_];omega
 refine⟨w,.ow (fdV a c q),w1,w2,w3,rfl,?_⟩;rw[L_,u_,LH];simp![ll]
theorem uq{ns:List Int}{at_ most many more sty:Int}(ha:0<=at_)(hs:0<=sty/\sty<6):∀(ks:List Nat) (acc:List Int) (s3 s8 s9:Sl),s3.pl=true->s8.pl=true->s9.pl=true->(∀k∈ks,k<=40)->acc.length+ks.length<=1000->
 ∃(ws:List Int) (s3' s8' s9':Sl),ws.length=ks.length/\(∀w∈ws,1<=w/\w<=1000000000000000000000000000000/\(sty<3->w<=8388608))/\dk (gtN 8).G dH.G (ks.map λk:Nat=>Val.int (k:Nat)) [.sh (.kl (ns.map .int)),.sh (.int at_),.sh (.int most),s3,.sh (.int many),.sh (.int more),.sh (.int sty),.ow (.lst (acc.map .int)),s8,s9]=.nx [.sh (.kl (ns.map .int)),.sh (.int at_),.sh (.int most),s3',.sh (.int many),.sh (.int more),.sh (.int sty),.ow (.lst ((acc++ws).map .int)),s8',s9']
 | [],acc,s3,s8,s9,_,_,_,_,_=>⟨[],s3,s8,s9,rfl,(λ_ h=>nomatch h),by rw[LH,fh,L6]⟩
 |
  k::ks,acc,s3,s8,s9,h3,h8,h9,hk,hl=>by
  rw[Em] at hl;obtain⟨w,t3,w1,w2,w3,p3,e⟩:=DR (ns:=ns) (at_:=at_) (most:=most) (many:=many) (more:=more) (sty:=sty) (k:=(k:Nat)) (acc:=acc) h3 h9 ha ⟨by omega,by have:=hk k (s_ ..);omega⟩ hs (by omega);obtain⟨ws,s3',s8',s9',q1,q2,q3⟩:=uq (ns:=ns) (most:=most) (many:=many) (more:=more) ha hs ks (acc++[w]) t3 (.sh (.int (k:Nat))) (.sh (.int w)) p3 rfl rfl (λj hj=>hk j (r_ _ hj)) (by rw[I_];show acc.length+1+_<=_;omega);refine⟨w::ws,s3',s8',s9',by rw[Em,Em,q1],λx hx=>?_,?_⟩
  .rcases G_.mp hx with rfl |hx
   .exact⟨w1,w2,w3⟩
   .exact q2 x hx
  .have g1:(gtN 8).G (.int (k:Nat)) [.sh (.kl (ns.map .int)),.sh (.int at_),.sh (.int most),s3,.sh (.int many),.sh (.int more),.sh (.int sty),.ow (.lst (acc.map .int)),s8,s9]=some [.sh (.kl (ns.map .int)),.sh (.int at_),.sh (.int most),s3,.sh (.int many),.sh (.int more),.sh (.int sty),.ow (.lst (acc.map .int)),.sh (.int (k:Nat)),s9]:=by simp![h8]
   rw[u_,c8,g1];dsimp only;rw[e];show dk _ _ _ _=_;rw[q3,MU];rfl
def div8{x:Int}:eN.G (.int x) (.int 8)=.val (.int (x.fdiv 8)):=iP (CDivB.of (by decide) (sm8 (by decide)))
def wsQ(M:Int)(r:SR3):Prop:=∃ws:List Int,1<=ws.length/\(ws.length:Int)<=M/\(∀w∈ws,1<=w/\w<=1000000000000000000000000000000)/\(9<ws.length->∀w∈ws,w<=8388608)/\jt [false,false,false] r=.ok (.new (liV ws)) []
def ws_a{x most M:Int}(h:x<=most)(h1:most<=M)(h7:7<=M):1<=(if x>1 then x else 1)/\(if x>1 then x else 1)<=M:=by split <;> omega
def ws_b{most:Int}(h1:1<=most)(h2:most<=40):0<(if (7:Int)<most then 7 else most)/\Sm 8000 (if (7:Int)<most then 7 else most):=by
 split
 .exact⟨by decide,sm8 (by decide)⟩
 .exact⟨by omega,sm8 (by omega)⟩
def ws_c{r most:Int}(h:r<if (7:Int)<most then 7 else most):1+r<=7:=by split at h <;> omega
def uX{ns:List Int}{at_ most:Int}(ha:0<=at_)(hm:1<=most/\most<=40):∃ws:List Int,1<=ws.length/\(ws.length:Int)<=max most 7/\(∀w∈ws,1<=w/\w<=1000000000000000000000000000000)/\(9<ws.length->∀w∈ws,w<=8388608)/\da.G [.kl (ns.map .int),.int at_,.int most]=.ok (.new (liV ws)) []:=by
 have x1:most<=max most 7:=Int.le_max_left ..;have x7:(7:Int)<=max most 7:=Int.le_max_right ..;have x4:max most 7<=40:=Int.max_le.mpr ⟨hm.2,by decide⟩;generalize max most 7=M at *;unfold da;rw[pq rfl];show wsQ M (fR.G [.sh (.kl (ns.map .int)),.sh (.int at_),.sh (.int most),.no,.no,.no,.no,.no,.no,.no]);unfold fR;obtain⟨f,ef⟩:=nh (ns:=ns) (k:=at_) ha;refine aE (λe=>e=[.sh (.kl (ns.map .int)),.sh (.int at_),.sh (.int most),.ow (fdV f 0 at_),.no,.no,.no,.no,.no,.no]) ⟨_,by simp![ef],rfl⟩ ?_;rintro _ rfl;obtain⟨r1,a1,c1,e1,l1,u1⟩:=aA (a:=f) (b:=0) (k:=at_) (m:=if (7:Int)<most then 7 else most) (ws_b hm.1 hm.2).1 (ws_b hm.1 hm.2).2;refine aE (λe=>e=[.sh (.kl (ns.map .int)),.sh (.int at_),.sh (.int most),.ow (fdV a1 c1 at_),.sh (.int (1+r1)),.no,.no,.no,.no,.no]) ⟨_,by simp![e1],rfl⟩ ?_;rintro _ rfl;have b1:1+r1<=7:=ws_c u1;obtain⟨r2,a2,c2,e2,l2,u2⟩:=aA (a:=a1) (b:=c1) (k:=at_) (m:=6) (by decide) (sm8 (by decide));refine aE (λe=>e=[.sh (.kl (ns.map .int)),.sh (.int at_),.sh (.int most),.ow (fdV a2 c2 at_),.sh (.int (1+r1)),.sh (.int r2),.no,.no,.no,.no]) ⟨_,by simp![e2],rfl⟩ ?_;rintro _ rfl;refine aE (λe=>∃many:Int,1<=many/\many<=M/\e=[.sh (.kl (ns.map .int)),.sh (.int at_),.sh (.int most),.ow (fdV a2 c2 at_),.sh (.int many),.sh (.int r2),.no,.no,.no,.no]) ?_ ?_
 .have mm:=aX (i:=1+r1) (j:=most) (CMulA.of (sm8 (m:=1+r1) (by omega)) (sm8 (m:=most) (by omega)) (by decide) (by decide));by_cases h:r2<2
  .have dl:((1+r1)*most).fdiv 8<=most:=by rw[Int.fdiv_eq_ediv_of_nonneg _ (by decide)];have:(1+r1)*most<=7*most:=Nq b1 (by omega);omega
   have hc:r2=0\/r2=1:=by omega
   rcases hc with rfl |rfl
   .exact⟨_,by simp![mm,div8],most,hm.1,x1,rfl⟩
   .exact⟨_,by simp![mm,div8],(if ((1+r1)*most).fdiv 8>1 then ((1+r1)*most).fdiv 8 else 1),(ws_a dl x1 x7).1,(ws_a dl x1 x7).2,rfl⟩
  .exact⟨_,by simp![H_ h],1+r1,Int.le_add_of_nonneg_right l1,Int.le_trans b1 x7,rfl⟩
 rintro _ ⟨many,m1,m2,rfl⟩;obtain⟨r3,a3,c3,e3,l3,u3⟩:=aA (a:=a2) (b:=c2) (k:=at_) (m:=6) (by decide) (sm8 (by decide));refine aE (λe=>e=[.sh (.kl (ns.map .int)),.sh (.int at_),.sh (.int most),.ow (fdV a3 c3 at_),.sh (.int many),.sh (.int r2),.sh (.int r3),.no,.no,.no]) ⟨_,by simp![e3],rfl⟩ ?_;rintro _ rfl;refine aE (λe=>∃sty:Int,0<=sty/\sty<6/\(9<many->sty<3)/\e=[.sh (.kl (ns.map .int)),.sh (.int at_),.sh (.int most),.ow (fdV a3 c3 at_),.sh (.int many),.sh (.int r2),.sh (.int sty),.no,.no,.no]) ?_ ?_
 .have km:=eO (i:=r3) (j:=3) (by decide);have fm:=dB (a:=r3) (m:=3) (by decide);by_cases h:9<many
  .exact⟨_,by simp![K_ h,km],r3.fmod 3,fm.1,Int.lt_trans fm.2 (by decide),λ_=>fm.2,rfl⟩
  .exact⟨_,by simp![H_ h],r3,l3,u3,λz=>absurd z h,rfl⟩
 rintro _ ⟨sty,t0,t1,t2,rfl⟩;refine aE (λe=>e=[.sh (.kl (ns.map .int)),.sh (.int at_),.sh (.int most),.ow (fdV a3 c3 at_),.sh (.int many),.sh (.int r2),.sh (.int sty),.ow (.lst []),.no,.no]) ⟨_,by simp![LD],rfl⟩ ?_;rintro _ rfl;have rg:=uT (i:=many) (by omega) (by omega);obtain⟨ws,s3,s8,s9,q1,q2,q3⟩:=uq (ns:=ns) (at_:=at_) (most:=most) (many:=many) (more:=r2) (sty:=sty) ha ⟨t0,t1⟩ (List.range many.toNat) [] (.ow (fdV a3 c3 at_)) .no .no rfl rfl rfl (λk hk=>by have:=LC.mp hk;omega) (by rw[LD,z_];omega);rw[z_] at q1;rw[Mk,LH] at q3;unfold rgV at rg;refine⟨ws,by omega,by omega,λw hw=>⟨(q2 w hw).1,(q2 w hw).2.1⟩,λh w hw=>(q2 w hw).2.2 (t2 (by omega)),?_⟩;unfold liV;simp![rg,q3];rfl
theorem sC:∀(n:Nat) (l:List Nat),l.length=n->(∀i,i<n->i∈l)->l.Perm (List.range n)
 |0,l,h,_=>by rw[List.length_eq_zero_iff.mp h];exact List.Perm.refl _
 |
  n+1,l,h,hm=>by
  have h1:=hm n (by omega);have p:=List.perm_cons_erase h1;have q:=sC n (l.erase n) (by rw[List.length_erase_of_mem h1];omega) λi hi=>(List.mem_erase_of_ne (by omega)).mpr (hm i (by omega));rw[List.range_succ];exact p.trans ((q.cons n).trans (List.perm_append_singleton n _).symm)
def wZ{t:AT}{o:List Nat}{n:Nat}(T:TOk t o)(ho:∀i,i∈o ↔ i<n)(hl:o.length=n):t.lvs.Nodup:=
 (sC n t.lvs (by rw[T.len,hl]) λi hi=>(T.mem i).mpr ((ho i).mpr hi)).nodup_iff.mpr N9
def mK{q:Rat}{k D:Nat}(hs:Sz 101 q)(hD:D=q.den*k)(hk:0<k):∃z:Int,q=(z:Rat)/((D:Int):Rat)/\z.natAbs<=2^101*D/\(0<q->0<z/\z<=((2^101:Nat):Int)*(D:Int)):=by
 have dp:=q.den_pos;have hn:q.num.natAbs<2^101:=hs.1;have hz:(q.num*(k:Int)).natAbs<=2^101*D:=by rw[Mp,Int.natAbs_natCast,hD];exact Me (by omega) (Nat.le_mul_of_pos_left _ dp)
 refine⟨q.num*(k:Int),?_,hz,λh=>⟨Int.mul_pos (iI.mpr h) (by omega),?_⟩⟩
 .have:=mC (y:=q.num) (W:=(k:Int)) dp (by omega)
  rw[Mh,<- hD] at this;rw[<- this];exact dE q
 .rw[<- M7];generalize q.num*(k:Int)=z at *;generalize 2^101*D=y at *;omega
def Cy{b:Bx}(g:Good b):∃D,D<2^404/\Rp D (2^101) (2^101) b:=by
 have dl:=b.l.den_pos;have dt:=b.t.den_pos;have dw:=b.w.den_pos;have dh:=b.h.den_pos;have sz:∀q:Rat,Sz 101 q->q.den<=2^101:=λq h=>by have:(q.den:Int).natAbs<2^101:=h.2;omega
 have k1:=MN (MN dt dw) dh;have k2:=MN (MN dl dw) dh;have k3:=MN (MN dl dt) dh;have k4:=MN (MN dl dt) dw;refine⟨b.l.den*(b.t.den*b.w.den*b.h.den),?_,MN dl k1,?_,?_,?_,?_⟩
 .have a1:b.l.den<2^101:=by have:(b.l.den:Int).natAbs<2^101:=g.sz.l.2;omega
  have a2:=Me (Me (sz _ g.sz.t) (sz _ g.sz.w)) (sz _ g.sz.h)
  calc b.l.den*(b.t.den*b.w.den*b.h.den)<=b.l.den*(2^101*2^101*2^101):=MC _ a2
   _<2^101*(2^101*2^101*2^101):=Nat.mul_lt_mul_of_pos_right a1 (by decide)
   _=2^404:=by rw[<- M4,<- M4,<- M4]
 .obtain⟨z,h1,h2,_⟩:=mK (D:=b.l.den*(b.t.den*b.w.den*b.h.den)) g.sz.l rfl k1;exact⟨z,h1,h2⟩
 .obtain⟨z,h1,h2,_⟩:=mK (D:=b.l.den*(b.t.den*b.w.den*b.h.den)) (k:=b.l.den*b.w.den*b.h.den) g.sz.t (by ac_rfl) k2;exact⟨z,h1,h2⟩
 .obtain⟨z,h1,_,h2⟩:=mK (D:=b.l.den*(b.t.den*b.w.den*b.h.den)) (k:=b.l.den*b.t.den*b.h.den) g.sz.w (by ac_rfl) k3;exact⟨z,h1,h2 g.ok.w⟩
 .obtain⟨z,h1,_,h2⟩:=mK (D:=b.l.den*(b.t.den*b.w.den*b.h.den)) (k:=b.l.den*b.t.den*b.w.den) g.sz.h (by ac_rfl) k4;exact⟨z,h1,h2 g.ok.h⟩
structure WOk(ws:List Int):Prop where
 pos:1<=ws.length
 len:ws.length<=40
 wt:∀w∈ws,1<=w/\w<=1000000000000000000000000000000
 few:10<ws.length->∀w∈ws,w<=73786976294838206464
theorem jH{ws:List Int}{M:Int}:∀{l:List Nat},(∀k∈l,ws.getD k 0<=M)->wtA ws l<=(l.length:Int)*M
 | [],_=>by simp [wtA]
 |
  k::l,h=>by
  have h1:=h k (s_ ..);have h2:=jH (l:=l) λj hj=>h j (r_ _ hj);unfold wtA at h2 ⊢;rw[u_,LO,Em,Int.natCast_add,Int.add_mul];omega
def Ke{ws:List Int}{t:AT}{o:List Nat}{b:Bx}(g:Good b)(W:WOk ws)(T:TOk t o)(ho:∀i,i∈o ↔ i<ws.length)(hl:o.length=ws.length):(∀k∈t.lvs,1<=ws.getD k 0)/\∃D m,m<=104/\Rp D (2^101) (2^101) b/\(2^101+t.dep*2^101)*(D*2^(m*t.dep))<2^3400/\wtT ws t<2^m:=by
 obtain⟨D,hD,R⟩:=Cy g;have hlt:∀k∈t.lvs,k<ws.length:=λk hk=>(ho k).mp ((T.mem k).mp hk);have hin:∀k∈t.lvs,ws.getD k 0∈ws:=λk hk=>by rw[E_,x_ (hlt k hk)];exact Mo _
 have hd:=T.dep;have len:=T.len;have wl:=W.len;refine⟨λk hk=>(W.wt _ (hin k hk)).1,D,?_⟩;have k_:∀m,m*t.dep<=2880->m<=104->wtT ws t<2^m->∃m,m<=104/\Rp D (2^101) (2^101) b/\(2^101+t.dep*2^101)*(D*2^(m*t.dep))<2^3400/\wtT ws t<2^m:=λm h1 h2 h3=>by
  refine⟨m,h2,R,?_,h3⟩;have a1:2^101+t.dep*2^101<=2^107:=by
   have h1:=MQ (2^101) (show t.dep<=40 by omega);have h2:2^107=64*2^101:=by decide
   rw[h2];generalize 2^101=X at *;omega
  have a2:2^(m*t.dep)<=2^2880:=L8 (by decide) h1;have a3:=Me a1 (Me (NC hD) a2);refine ML a3 ?_;rw[<- M4,<- M4];exact Nat.pow_lt_pow_right (by decide) (by decide)
 by_cases h9:10<ws.length
 .refine k_ 72 (by omega) (by decide) ?_
  have:=jH (M:=73786976294838206464) λk hk=>W.few h9 _ (hin k hk)
  unfold wtT;have:(2:Int)^72=4722366482869645213696:=by decide
  omega
 .refine k_ 104 (by omega) (by decide) ?_
  have:=jH (M:=1000000000000000000000000000000) λk hk=>(W.wt _ (hin k hk)).2
  unfold wtT;have:(2:Int)^104=20282409603651670423947251286016:=by decide
  omega
def wa{ws:List Int}{t:AT}{o:List Nat}{b:Bx}(g:Good b)(W:WOk ws)(T:TOk t o)(ho:∀i,i∈o ↔ i<ws.length)(hl:o.length=ws.length):∃m,m<=104/\AT.lay ws 3400 m t b:=by obtain⟨hw,D,m,h1,R,h2,h3⟩:=Ke g W T ho hl;have len:=T.len;have wl:=W.len;exact⟨m,h1,Fc t b D (2^101) R (v_ _) (by decide) h2 T.ok hw h3 (by omega)⟩
noncomputable def lwB (b:Bx):Bool:=!decide (b.w<b.h)
def g9{b:Bx}{n:Nat}(hb:b.Ok)(hs:b.Sz n)(h:n<=8000):cX.G [bV b]=.ok (.val (.str (wy (lwB b)))) []:=by
 have cb:=bq hb;have il:=lq hs.w hs.h (by omega) (by omega);have ib:(bV b).items=some [fV b.l,fV b.t,fV b.w,fV b.h]:=rfl;unfold cX lwB;rw[aD];unfold lJ;by_cases hl:b.w<b.h
 .rw[K_ hl] at il ⊢;simp![cb,ib,il];rfl
 .rw[H_ hl] at il ⊢;simp![cb,ib,il];rfl
def Bd(m B:Nat)(b:Bx)(n:Nat):Prop:=∃D A,Rp D A B b/\B<=A/\1<=A/\(A+n*B)*(D*2^(m*n))<2^3400
def Bd.fine{m B n:Nat}{b:Bx}(h:Bd m B b n):b.Ok/\b.Sz 3400:=by obtain⟨D,A,r,hBA,hA,hq⟩:=h;exact r.fine hBA hA hq
def Bd.ok{m B n:Nat}{b:Bx}(h:Bd m B b n):b.Ok:=h.fine.1
def Bd.sz{m B n:Nat}{b:Bx}(h:Bd m B b n):b.Sz 3400:=h.fine.2
def Bd.part{m B n k:Nat}{b c:Bx}{way:Str}{ws:List Int}(h:Bd m B b n)(hw:∀w∈ws,1<=w)(hS:ws.sum<2^m)(hc:c∈ay b way ws)(hk:k<n):Bd m B c k:=by
 obtain⟨D,A,r,hBA,hA,hq⟩:=h;have hT:ws.sum.toNat<=2^m:=by
  have h4:((2^m:Nat):Int)=(2:Int)^m:=by push_cast;rfl
  rw[<- h4] at hS;generalize 2^m=X at hS ⊢;clear hq;omega
 refine⟨D*ws.sum.toNat,A+B,r.parts hw hc,by omega,by omega,ML (Me ?_ ?_) hq⟩
 .have:(k+1)*B<=n*B:=MQ _ hk;rw[Nat.add_mul,Nat.one_mul] at this;omega
 .rw[N5];refine MC _ ?_;have e:2^m*2^(m*k)=2^(m*(k+1)):=by rw[<- M4];congr 1;rw[Nat.mul_add,Nat.mul_one,Nat.add_comm]
  exact LU (MQ _ hT) (by rw[e];exact L8 (by decide) (MC _ hk))
def pC(b:Bx)(w:Bool)(x y:Int):ay b (wy w) [x,y]=[cC b w (x+y) 0 x,cC b w (x+y) x y]:=by rw[oi];simp [frm]
def Hc(w:Bool):wy w="across" \/ wy w="down":=by cases w;exact .inr rfl;exact .inl rfl
def qI{m:Nat}{S:Int}(h0:0<=S)(h:S<2^m):Sm m S:=by
 show S.natAbs<2^m;have h4:((2^m:Nat):Int)=(2:Int)^m:=by push_cast;rfl
 rw[<- h4] at h;omega
def vF{b:Bx}{xs:List Int}{m B n i:Nat}(hb:Bd m B b n)(hm:m<=104)(h1:1<=(xs.take i).sum)(h2:1<=(xs.drop i).sum)(hS:(xs.take i).sum+(xs.drop i).sum<2^m):dq.G [bV b,liV xs,.int (i:Nat)]=.ok (.new (.lst [bV (cC b (lwB b) ((xs.take i).sum+(xs.drop i).sum) 0 (xs.take i).sum),bV (cC b (lwB b) ((xs.take i).sum+(xs.drop i).sum) (xs.take i).sum (xs.drop i).sum)])) []:=by
 have lw:=g9 hb.ok hb.sz (by decide);have pe:=ou (way:=wy (lwB b)) (ws:=[(xs.take i).sum,(xs.drop i).sum]) (m:=m) hb.ok hb.sz (Hc _) (by simp) (λw hw=>by
  rcases G_.mp hw with rfl |hw
  .exact h1
  .rw[L5.mp hw];exact h2) (by
  rw[show [(xs.take i).sum,(xs.drop i).sum].sum=(xs.take i).sum+(xs.drop i).sum from by simp];exact qI (by omega) hS) (by omega) (by show 2<=40;decide)
 rw[pC] at pe;simp only[u_,LH] at pe;have ct:=jI (xs.map Val.int) i;have cd:=gE (xs.map Val.int) i;rw[<- MJ] at ct;rw[<- MW] at cd;have m1:=aW (xs.take i);have m2:=aW (xs.drop i);unfold dq;rw[aD];unfold js;unfold liV;generalize (xs.take i).map Val.int=w1 at *;generalize (xs.drop i).map Val.int=w2 at *;generalize xs.map Val.int=w3 at *;generalize bV (cC b (lwB b) ((xs.take i).sum+(xs.drop i).sum) 0 (xs.take i).sum)=b1 at *;generalize bV (cC b (lwB b) ((xs.take i).sum+(xs.drop i).sum) (xs.take i).sum (xs.drop i).sum)=b2 at *;generalize bV b=bv at *;generalize wy (lwB b)=yy at *;simp![lw,gv,ct,cd,m1,m2,pe]
def kK{p q:Rat}(hq:q≠0):p/q=((p.num*q.den:Int):Rat)/((p.den*q.num:Int):Rat):=by
 have h1:=gw (cG p);have h2:=gw (cG q);have h3:q.num≠0:=λz=>hq (Oq.mp z);have h4:=gw h3
 conv=>lhs;rw[dE p,dE q]
 rw[Mf,Mf];simp only[MH,Rat.inv_mul_rev,Rat.inv_inv];rw[OH,OH,Rat.mul_comm (((p.den:Int):Rat))⁻¹,OH]
def ub{p q:Rat}{n m:Nat}(hp:Sz n p)(hq:Sz m q)(h0:0<q)(h:n+m<=8000):iC.G [fV p,fV q]=.ok (.val (fV (p/q))) []:=by
 have c1:=aX (CMulA.of hp.top hq.bot (by omega) (by omega));have c2:=aX (CMulA.of hp.bot hq.top (by omega) (by omega));have hq0:q≠0:=λz=>by rw[z] at h0;exact absurd h0 (by decide)
 have hn:q.num≠0:=λz=>hq0 (Oq.mp z);have fe:=cL (a:=p.num*q.den) (b:=p.den*q.num) (Nr (cG p) hn) ((hp.bot.mul hq.top).mono h);rw[<- kK hq0] at fe;unfold iC;rw[aD];unfold zd;rw[show fV p=.tup [.int p.num,.int p.den] from rfl,show fV q=.tup [.int q.num,.int q.den] from rfl];simp![c1,c2,fe]
def kW{b:Bx}{n:Nat}(hb:b.Ok)(hs:b.Sz n)(h:n+n<=8000):eD.G [bV b]=.ok (.val (fV (aq b))) []:=by
 have lw:=g9 hb hs (by omega);have ib:(bV b).items=some [fV b.l,fV b.t,fV b.w,fV b.h]:=rfl;have o1:=ub hs.w hs.h hb.2 h;have o2:=ub hs.h hs.w hb.1 h;unfold eD aq;rw[aD];unfold uN;by_cases hl:b.w<b.h
 .rw[show wy (lwB b)="down" from by unfold lwB;rw[K_ hl];rfl] at lw;rw[if_pos hl];simp![lw,ib,o1,o2,wU]
 .rw[show wy (lwB b)="across" from by unfold lwB;rw[H_ hl];rfl] at lw;rw[if_neg hl];simp![lw,ib,o1,o2,xK]
def Sz.over{p q:Rat}{n m:Nat}(hp:Sz n p)(hq:Sz m q)(h0:0<q):Sz (n+m) (p/q):=by
 have hq0:q≠0:=λz=>by rw[z] at h0;exact absurd h0 (by decide)
 have hn:q.num≠0:=λz=>hq0 (Oq.mp z);rw[kK hq0];exact Sz.div (Nr (cG p) hn) (hp.top.mul hq.bot) (hp.bot.mul hq.top) (n+m) (v_ _) (v_ _)
def gK{b:Bx}{n:Nat}(hb:b.Ok)(hs:b.Sz n):Sz (n+n) (aq b):=by
 unfold aq;split
 .exact Sz.over hs.h hs.w hb.1
 .exact Sz.over hs.w hs.h hb.2
noncomputable def inT (f:List Int->Nat) (ws:List Int):Nat->Bx->List Nat->AT
 |0,_,l=>.lf (l.headD 0)
 |N
  + 1,b,l=>if l.length=1 then .lf (l.headD 0) else
  .nd (lwB b) [inT f ws N (cC b (lwB b) (wtA ws l) 0 (wtA ws (l.take (f (l.map λk=>ws.getD k 0))))) (l.take (f (l.map λk=>ws.getD k 0))),
   inT f ws N (cC b (lwB b) (wtA ws l) (wtA ws (l.take (f (l.map λk=>ws.getD k 0)))) (wtA ws (l.drop (f (l.map λk=>ws.getD k 0))))) (l.drop (f (l.map λk=>ws.getD k 0)))]
structure HowM(f:List Int->Nat)(nm:Str)(D:List Int->Prop):Prop where
 tk:∀xs i,D xs->D (xs.take i)
 dr:∀xs i,D xs->D (xs.drop i)
 lt:∀xs:List Int,D xs->2<=xs.length->(∀w∈xs,1<=w)->1<=f xs/\f xs<xs.length
 ev:∀(xs:List Int) (bv lv:Val),D xs->2<=xs.length->xs.length<=40->(∀w∈xs,1<=w)->(ar false 4 (lW [("nearest_to_half",bz),("fewest_to_third",bu)] (af 3) (aa (af 2) ag))).G [.sh bv,.sh lv,.sh (liV xs),.sh (.glb nm),.no,.no,.no,.no,.no]=.nx [.sh bv,.sh lv,.sh (liV xs),.sh (.glb nm),.sh (.int (f xs:Nat)),.no,.no,.no,.no]
def Gv{l:List Nat}{i N n:Nat}(h0:l.length<=N+1)(h1:1<=i)(h2:i<l.length)(hl:l.length<=n):((l.take i).length<=N/\1<=(l.take i).length/\(l.take i).length<=n/\(l.take i).length<l.length)/\(l.drop i).length<=N/\1<=(l.drop i).length/\(l.drop i).length<=n/\(l.drop i).length<l.length:=by rw[LP,LR];omega
def ED{l:List Nat}{i:Nat}{w:Bool}{s t:AT}(h1:1<=i)(h2:i<l.length)(a:s.dep<=(l.take i).length)(b:t.dep<=(l.drop i).length):(AT.nd w [s,t]).dep<=l.length:=by rw[LP] at a;rw[LR] at b;rw[AT.dep,AT.depL,AT.depL,AT.depL];omega
def yf{n:Nat}{x:Int}(h:(n:Int)<=x)(h1:1<=n):1<=x:=by omega
def ttQ(v:Val)(r:SR3):Prop:=jt [false,false,false,false] r=.ok (.val v) []
theorem mF{f:List Int->Nat}{nm:Str}{D:List Int->Prop}(H:HowM f nm D){ws:List Int}{m B:Nat}(hm:m<=104)(hS:∀l:List Nat,(∀k∈l,k<ws.length)->l.length<=ws.length->wtA ws l<2^m)(hw:∀w∈ws,1<=w)(hn:ws.length<=40):∀(N:Nat) (l:List Nat) (b:Bx),l.length<=N->1<=l.length->l.length<=ws.length->(∀k∈l,k<ws.length)->Bd m B b l.length->D (l.map λk=>ws.getD k 0)->
 (aM N).G [bV b,itV l,liV (l.map λk=>ws.getD k 0),.glb nm]=.ok (.val (atV (inT f ws N b l))) []/\(inT f ws N b l).ok=true/\(inT f ws N b l).lvs=l/\(inT f ws N b l).dep<=l.length
 |0,l,b,h0,h1,_,_,_,_=>by omega
 |
  N+1,l,b,h0,h1,hl,hi,hB,hD=>by
  by_cases hl1:l.length=1
  .obtain⟨k,rfl⟩:=N2.mp hl1;have a0:atI [Val.int (k:Nat)] 0=some (.int (k:Nat)):=dm (by decide) rfl;have te:inT f ws (N+1) b [k]=.lf k:=by rw[inT];exact if_pos rfl
   rw[te];refine⟨?_,rfl,rfl,by simp [AT.dep]⟩;show (PFx.of [false,false,false,false] 9 (bW (aM N))).G _=_;rw[o6,show atV (.lf k)=.int (k:Nat) from rfl,show itV [k]=.lst [.int (k:Nat)] from rfl];unfold bW;generalize bV b=bv;generalize liV _=wv;simp![a0]
  .have h2:2<=l.length:=by omega
   have hp:∀k∈l,1<=ws.getD k 0:=λj hj=>by rw[E_,x_ (hi j hj)];exact hw _ (Mo _)
   have xl:(l.map λk=>ws.getD k 0).length=l.length:=q_ ..;have xp:∀w∈l.map λk=>ws.getD k 0,1<=w:=λw hw=>by obtain⟨j,hj,rfl⟩:=LN.mp hw;exact hp j hj
   obtain⟨g1,g2⟩:=H.lt _ hD (by rw[xl];exact h2) xp;have ev:=H.ev (l.map λk=>ws.getD k 0) (bV b) (itV l) hD (by rw[xl];exact h2) (by rw[xl];exact LU hl hn) xp;rw[inT,if_neg hl1];have ht:∀i,∀j∈l.take i,j∈l:=λi j hj=>L4 hj;have hd:∀i,∀j∈l.drop i,j∈l:=λi j hj=>L7 hj;have wt:∀i,((l.map λk=>ws.getD k 0).take i).sum=wtA ws (l.take i):=λi=>by unfold wtA;rw[MJ]
   have wd:∀i,((l.map λk=>ws.getD k 0).drop i).sum=wtA ws (l.drop i):=λi=>by unfold wtA;rw[MW]
   generalize hh:f (l.map λk=>ws.getD k 0)=i at *;rw[xl] at g2;obtain⟨⟨t1,t2,t3,t4⟩,d1,d2,d3,d4⟩:=Gv h0 g1 g2 hl;have p1:=bN (l:=(l.take i).map λk=>ws.getD k 0) (λw hw=>by obtain⟨j,hj,rfl⟩:=LN.mp hw;exact hp j (ht i j hj));have p2:=bN (l:=(l.drop i).map λk=>ws.getD k 0) (λw hw=>by obtain⟨j,hj,rfl⟩:=LN.mp hw;exact hp j (hd i j hj));rw[q_] at p1 p2;replace p1:=yf p1 t2;replace p2:=yf p2 d2;have sp:wtA ws l=wtA ws (l.take i)+wtA ws (l.drop i):=by unfold wtA;rw[<- MP,<- L_,Ma]
   rw[show ((l.take i).map λk=>ws.getD k 0).sum=wtA ws (l.take i) from rfl] at p1;rw[show ((l.drop i).map λk=>ws.getD k 0).sum=wtA ws (l.drop i) from rfl] at p2;have hs:=hS l hi hl;have ct2:=vF (xs:=l.map λk=>ws.getD k 0) (i:=i) hB hm (by rw[wt];exact p1) (by rw[wd];exact p2) (by rw[wt,wd,<- sp];exact hs);have mt:(l.map λk=>ws.getD k 0).take i=(l.take i).map λk=>ws.getD k 0:=by rw[MJ]
   have md:(l.map λk=>ws.getD k 0).drop i=(l.drop i).map λk=>ws.getD k 0:=by rw[MW]
   rw[wt,wd,<- sp] at ct2;have pm:∀c∈[cC b (lwB b) (wtA ws l) 0 (wtA ws (l.take i)),cC b (lwB b) (wtA ws l) (wtA ws (l.take i)) (wtA ws (l.drop i))],∀k,k<l.length->Bd m B c k:=λc hc k hk=>hB.part (way:=wy (lwB b)) (ws:=[wtA ws (l.take i),wtA ws (l.drop i)]) (λw hw=>by
    rcases G_.mp hw with rfl |hw
    .exact p1
    .rw[L5.mp hw];exact p2) (by rw[show [wtA ws (l.take i),wtA ws (l.drop i)].sum=wtA ws l from by rw[sp];simp];exact hs) (by rw[pC,<- sp];exact hc) hk
   obtain⟨a1,a3,a4,a5⟩:=mF H hm hS hw hn N (l.take i) _ t1 t2 t3 (λj hj=>hi j (ht i j hj)) (pm _ (s_ ..) _ t4) (by rw[<- mt];exact H.tk _ _ hD);obtain⟨b1,b3,b4,b5⟩:=mF H hm hS hw hn N (l.drop i) _ d1 d2 d3 (λj hj=>hi j (hd i j hj)) (pm _ (r_ _ (s_ ..)) _ d4) (by rw[<- md];exact H.dr _ _ hD);have lw:=g9 hB.ok hB.sz (by decide);generalize inT f ws N (cC b (lwB b) (wtA ws l) 0 (wtA ws (l.take i))) (l.take i)=T1 at *;generalize inT f ws N (cC b (lwB b) (wtA ws l) (wtA ws (l.take i)) (wtA ws (l.drop i))) (l.drop i)=T2 at *;refine⟨?_,?_,?_,?_⟩
   .rw[show atV (.nd (lwB b) [T1,T2])=.tup [.str (wy (lwB b)),.tup [atV T1,atV T2]] from rfl];generalize cC b (lwB b) (wtA ws l) 0 (wtA ws (l.take i))=B1 at *;generalize cC b (lwB b) (wtA ws l) (wtA ws (l.take i)) (wtA ws (l.drop i))=B2 at *;have ctl:=jI (l.map λk:Nat=>Val.int k) i;have cdl:=gE (l.map λk:Nat=>Val.int k) i;rw[<- MJ] at ctl;rw[<- MW] at cdl;have ctx:=jI ((l.map λk=>ws.getD k 0).map Val.int) i;have cdx:=gE ((l.map λk=>ws.getD k 0).map Val.int) i;rw[<- MJ,mt] at ctx;rw[<- MW,md] at cdx;have n1:(((l.length:Nat):Int)==1)=false:=by rw[J_];omega
    have ll:((l.map λk:Nat=>Val.int k).length:Nat)=l.length:=q_ ..;show (PFx.of [false,false,false,false] 9 (bW (aM N))).G _=_;rw[GF rfl];show ttQ _ ((bW (aM N)).G [.sh (bV b),.sh (itV l),.sh (liV (l.map λk=>ws.getD k 0)),.sh (.glb nm),.no,.no,.no,.no,.no]);unfold bW;unfold itV at a1 b1 ev ⊢;unfold liV at a1 b1 ct2 ev ⊢;generalize bV b=bv at *;generalize bV B1=bv1 at *;generalize bV B2=bv2 at *;generalize atV T1=t1 at *;generalize atV T2=t2 at *;generalize wy (lwB b)=yy at *;generalize (l.take i).map (λk:Nat=>Val.int k)=l1 at *;generalize (l.drop i).map (λk:Nat=>Val.int k)=l2 at *;generalize ((l.take i).map λk=>ws.getD k 0).map Val.int=x1 at *;generalize ((l.drop i).map λk=>ws.getD k 0).map Val.int=x2 at *;generalize (l.map λk=>ws.getD k 0).map Val.int=x0 at *;generalize l.map (λk:Nat=>Val.int k)=l0 at *;refine aE (λe=>e=[.sh bv,.sh (.lst l0),.sh (.lst x0),.sh (.glb nm),.no,.no,.no,.no,.no]) ⟨_,by simp![ll,n1],rfl⟩ ?_;rintro _ rfl;refine aE (λe=>e=[.sh bv,.sh (.lst l0),.sh (.lst x0),.sh (.glb nm),.sh (.int (i:Nat)),.no,.no,.no,.no]) ⟨_,ev,rfl⟩ ?_;rintro _ rfl;unfold ttQ;simp![ct2,gv,ctl,cdl,ctx,cdx,a1,b1,lw,oV]
   .rw[AT.ok,AT.okL,AT.okL,AT.okL,a3,b3];rfl
   .rw[AT.lvs,AT.lvsL,AT.lvsL,AT.lvsL,a4,b4,L6,Ma]
   .exact ED g1 g2 a5 b5
theorem uk(m:Int):∀xs:List Int,gp (.int m) (xs.map .int)=some (xs.map (· == m))
 | []=>rfl
 |x::xs=>by rw[u_,gp,uk m xs,Cp];rfl
def wR{xs:List Int}{m:Int}(h:m∈xs):(xs.map (· == m)).idxOf true<xs.length/\eE.G (.lst (xs.map .int)) [.int m]=.val (.int ((xs.map (· == m)).idxOf true:Nat)):=by have hm:true∈xs.map (· == m):=LN.mpr ⟨m,h,Oa m⟩;have hl:=NR.mpr hm;refine⟨by rw[q_] at hl;exact hl,?_⟩;show ft (.lst (xs.map .int)) [.int m]=_;unfold ft;dsimp only;rw[uk];dsimp only;rw[if_pos hl]
noncomputable def apt (ws:List Int):List Int:=(List.range (ws.length-1)).map λi=>((2*(ws.take (i+1)).sum-ws.sum).natAbs:Int)
noncomputable def gy (ws:List Int):Nat:=((apt ws).map (· == mnI (apt ws))).idxOf true+1
def ua(ws:List Int):(apt ws).length=ws.length-1:=by unfold apt;rw[q_,z_]
def nQ{ws:List Int}(h:2<=ws.length):apt ws≠[]/\1<=gy ws/\gy ws<ws.length/\eE.G (liV (apt ws)) [.int (mnI (apt ws))]=.val (.int ((gy ws-1:Nat):Int)):=by
 have hl:=ua ws;have h0:apt ws≠[]:=λz=>by rw[z] at hl;simp at hl;omega
 obtain⟨h1,h2⟩:=wR (gj h0);refine⟨h0,by unfold gy;omega,by unfold gy;omega,?_⟩;unfold gy liV;rw[Nat.add_sub_cancel];exact h2
def Gp{ws:List Int}(hl:ws.length<=1000):∃s,lcV (gtN 0).G qY.G (pFn dN (aa (pOp c7 (pOp aC (ah 2) (pFn cA (aa (pSl (af 1) oN (oS (af 0))) ag))) (pFn cA (aa (af 1) ag))) ag)).G (eS 1 (ws.length-1)) [] [.no,.sh (liV ws)]=.ok ((apt ws).map .int) [s,.sh (liV ws)]:=by
 obtain⟨e',⟨s,rfl,_⟩,lc⟩:=cp (g:=(gtN 0).G) (F:=(pFn dN (aa (pOp c7 (pOp aC (ah 2) (pFn cA (aa (pSl (af 1) oN (oS (af 0))) ag))) (pFn cA (aa (af 1) ag))) ag)).G) (λi:Nat=>Val.int (1+(i:Nat))) (λi:Nat=>Val.int ((2*(ws.take (i+1)).sum-ws.sum).natAbs:Int)) (λe=>∃s:Sl,e=[s,.sh (liV ws)]/\s.pl=true) (List.range (ws.length-1)) [] [.no,.sh (liV ws)] ⟨.no,rfl,rfl⟩ (by
  rintro i hi _ ⟨s,rfl,hs⟩;have ic:(1:Int)+(i:Nat)=((i+1:Nat):Int):=by omega
  have ct:=jI (ws.map Val.int) (i+1);rw[<- MJ] at ct;have c2:aC.G (.int 2) (.int (ws.take (i+1)).sum)=.val (.int (2*(ws.take (i+1)).sum)):=aX (CMulA.left (by decide) (by decide));refine⟨[.sh (.int (1+(i:Nat))),.sh (liV ws)],.val (.int ((2*(ws.take (i+1)).sum-ws.sum).natAbs:Int)),[.sh (.int (1+(i:Nat))),.sh (liV ws)],?_,?_,rfl,_,rfl,rfl⟩
  .generalize liV ws=wv;simp![hs]
  .unfold liV;rw[ic];have m1:=aW ws;have m2:=aW (ws.take (i+1));have ab:∀x:Int,(if x<0 then -x else x)=(x.natAbs:Int):=λx=>by split <;> omega
   generalize ((ws.take (i+1)).map Val.int)=w1 at *;generalize ws.map Val.int=w2 at *;simp![gv,ct,m1,m2,c2,ab]) (by rw[LD,z_];omega)
 rw[Mk] at lc;refine⟨s,lc.trans ?_⟩;unfold apt;rw[MF];rfl
def Fy{n:Nat}(h:n<=1000):kT [.int 1,.int (n:Nat)]=some (eS 1 (n-1)):=by have e:((n:Nat):Int)-1=((n:Int)-1):=rfl;rw[show kT [.int 1,.int (n:Nat)]=some (eS 1 (((n:Nat):Int)-1).toNat) from if_pos ⟨⟨by decide,by decide⟩,⟨by omega,by omega⟩⟩];congr 2;omega
def vJ{ws:List Int}(h2:2<=ws.length)(hl:ws.length<=1000):bz.G [liV ws]=.ok (.val (.int (gy ws:Nat))) []:=by
 obtain⟨h0,h1,h3,ix⟩:=nQ h2;obtain⟨s,lc⟩:=Gp hl;have mn:=yG h0;have rg:=Fy (n:=ws.length) hl;have ll:((ws.map Val.int).length:Nat)=ws.length:=q_ ..;have al:((apt ws).map Val.int).length<=16777216:=by rw[q_,ua];omega
 have e1:((gy ws-1:Nat):Int)+1=(gy ws:Nat):=by omega
 unfold bz;rw[aD];unfold fU;unfold liV at lc ix ⊢;rw[<- e1];generalize (apt ws).map Val.int=av at *;generalize ws.map Val.int=wv at *;simp![ll,rg,bY,inS,lc,al,mn,ix]
def AQ{xs:List Int}{k:Nat}:aC.G (.int 3) (.int (xs.take k).sum)=.val (.int (3*(xs.take k).sum)):=aX (CMulA.left (by decide) (by decide))
theorem qu{xs:List Int}(hs:1<=xs.sum):∀f k,k+f=xs.length->(xWh (qOf (pOp bLt (pOp aC (ah 3) (pFn cA (aa (pSl (af 0) oN (oS (af 1))) ag))) (pFn cA (aa (af 0) ag)))) cH).G [.sh (liV xs),.sh (.int (k:Nat))]=.nx [.sh (liV xs),.sh (.int (thN xs f k:Nat))]
 |
  f,k,hf=>by
  have ct:=jI (xs.map Val.int) k;rw[<- MJ] at ct;have m1:=aW xs;have m2:=aW (xs.take k);have fc:=AQ (xs:=xs) (k:=k);rw[iR];by_cases hl:3*(xs.take k).sum<xs.sum
  .cases f with
   |zero=>rw[Mq (by omega)] at hl;omega
   |
    succ f=>
    have d1:=K_ hl;have ih:=qu hs f (k+1) (by omega);have k1:((k:Nat):Int)+1=((k+1:Nat):Int):=by omega
    have bb:cH.G [.sh (liV xs),.sh (.int (k:Nat))]=.nx [.sh (liV xs),.sh (.int ((k+1:Nat):Int))]:=by unfold cH;generalize liV xs=xv;simp![k1]
    rw[thN,if_pos hl];unfold liV at ih bb ⊢;generalize (xs.take k).map Val.int=w1 at *;generalize xs.map Val.int=w2 at *;simp![gv,ct,m1,m2,fc,d1,bb,ih]
  .have d1:=H_ hl;have e:thN xs f k=k:=by
    cases f with
    |zero=>rfl
    |succ f=>rw[thN,if_neg hl]
   rw[e];unfold liV;generalize (xs.take k).map Val.int=w1 at *;generalize xs.map Val.int=w2 at *;simp![gv,ct,m1,m2,fc,d1]
def yO{xs:List Int}(h1:1<=xs.length)(hs:1<=xs.sum):bu.G [liV xs]=.ok (.val (.int (cQ xs:Nat))) []:=by have lo:=qu hs (xs.length-1) 1 (by omega);rw[show thN xs (xs.length-1) 1=cQ xs from rfl,show ((1:Nat):Int)=1 from rfl] at lo;unfold bu;rw[aD];unfold fS;generalize liV xs=xv at *;simp![lo]
def kH:HowM gy "nearest_to_half" λ_=>True:=⟨λ_ _ _=>trivial,λ_ _ _=>trivial,λxs _ h2 _=>⟨(nQ h2).2.1,(nQ h2).2.2.1⟩,λxs bv lv _ h2 h40 hp=>by
 have ne:=vJ h2 (by omega);have nq:(("nearest_to_half" : Str) == "nearest_to_half")=true:=by decide
 generalize liV xs=xv at *;simp![nq,ne]⟩
def n9:HowM cQ "fewest_to_third" λxs=>xs.Pairwise λx y=>y<=x:=⟨λ_ _ h=>h.sublist (List.take_sublist ..),λ_ _ h=>h.sublist (List.drop_sublist ..),λxs h h2 hp=>pM h2 hp h,λxs bv lv _ h2 h40 hp=>by
 have sn:=bN hp;have ne:=yO (xs:=xs) (by omega) (by omega);have nq:(("nearest_to_half" : Str) == "fewest_to_third")=false:=by decide
 have nr:(("fewest_to_third" : Str) == "nearest_to_half")=false:=by decide
 have ns:(("fewest_to_third" : Str) == "fewest_to_third")=true:=by decide
 generalize liV xs=xv at *;simp![nq,nr,ns,ne]⟩
def xJ{ws:List Int}{b:Bx}{t:Val}(hb:b.Ok)(W:WOk ws)(h:(aM 42).G [bV b,itV (List.range ws.length),liV ws,.glb "nearest_to_half"]=.ok (.val t) []):bU.G [bV b,liV ws]=.ok (.val t) []:=by have wl:=W.len;have wp:=W.pos;have cb:=bq hb;have cw:=fH (ws:=ws) (by intro z;rw[z] at wp;exact absurd wp (by decide)) (λw hw=>(W.wt w hw).1) wl;have ll:((ws.map Val.int).length:Nat)=ws.length:=q_ ..;have lr:lT.G [.int (ws.length:Nat)]=.new (itV (List.range ws.length)):=JX ⟨by omega,by omega⟩;unfold bU;rw[aD];unfold jk;unfold liV at h ⊢;generalize itV (List.range ws.length)=rv at *;generalize ws.map Val.int=wv at *;generalize bV b=bv at *;simp![cb,cw,ll,lr,h]
def yU{ws:List Int}{b:Bx}{t:Val}(hb:b.Ok)(W:WOk ws)(h:(aM 42).G [bV b,itV (aY ws),liV ((aY ws).map λk=>ws.getD k 0),.glb "fewest_to_third"]=.ok (.val t) []):bS.G [bV b,liV ws]=.ok (.val t) []:=by
 have wl:=W.len;have wp:=W.pos;have cb:=bq hb;have cw:=fH (ws:=ws) (by intro z;rw[z] at wp;exact absurd wp (by decide)) (λw hw=>(W.wt w hw).1) wl;have kf:=HE ws (by omega);have lf:(aY ws).length=ws.length:=by rw[(c9 ws).perm.length_eq,z_]
 obtain⟨s,lc⟩:=wM (ws:=ws) (l:=aY ws) (by omega) (λk hk=>LC.mp ((c9 ws).perm.mem_iff.mp hk));have ll:((ws.map Val.int).length:Nat)=ws.length:=q_ ..;have lz:(((aY ws).map λk=>ws.getD k 0).map Val.int).length<=16777216:=by rw[q_,q_];omega
 have bf:bj.G [liV ws]=.ok (.new (itV (aY ws))) []:=by unfold bj;rw[aD];unfold eM;unfold liV itV;generalize (aY ws).map (λi:Nat=>Val.int (i:Nat))=fv at *;generalize ws.map Val.int=wv at *;simp![ll,kf]
 unfold bS;rw[aD];unfold ji;unfold itV at h bf;unfold liV at h lc bf ⊢;generalize ((aY ws).map λk=>ws.getD k 0).map Val.int=xv at *;generalize (aY ws).map (λi:Nat=>Val.int (i:Nat))=fv at *;generalize ws.map Val.int=wv at *;generalize bV b=bv at *;simp![cb,cw,bf,bY,inS,lc,lz,h]
def gq(ws:List Int):((List.range ws.length).map λk=>ws.getD k 0)=ws:=uz 0 ws
def uZ{ws:List Int}{b:Bx}(g:Good b)(W:WOk ws):∃m,m<=104/\Bd m (2^101) b ws.length/\∀l:List Nat,(∀k∈l,k<ws.length)->l.length<=ws.length->wtA ws l<2^m:=by
 obtain⟨D,hD,R⟩:=Cy g;have hin:∀k,k<ws.length->ws.getD k 0∈ws:=λk hk=>by rw[E_,x_ hk];exact Mo _
 have wl:=W.len;have k_:∀m,m*ws.length<=2880->Bd m (2^101) b ws.length:=λm h1=>by
  refine⟨D,2^101,R,v_ _,by decide,?_⟩;have a1:2^101+ws.length*2^101<=2^107:=by
   have h1:=MQ (2^101) (show ws.length<=40 by omega);have h2:2^107=64*2^101:=by decide
   rw[h2];generalize 2^101=X at *;omega
  have a2:2^(m*ws.length)<=2^2880:=L8 (by decide) h1;refine ML (Me a1 (Me (NC hD) a2)) ?_;rw[<- M4,<- M4];exact Nat.pow_lt_pow_right (by decide) (by decide)
 by_cases h9:10<ws.length
 .refine⟨72,by decide,k_ 72 (by omega),λl hl hn=>?_⟩
  have:=jH (M:=73786976294838206464) λk hk=>W.few h9 _ (hin k (hl k hk))
  have:(2:Int)^72=4722366482869645213696:=by decide
  omega
 .refine⟨104,by decide,k_ 104 (by omega),λl hl hn=>?_⟩
  have:=jH (M:=1000000000000000000000000000000) λk hk=>(W.wt _ (hin k (hl k hk))).2
  have:(2:Int)^104=20282409603651670423947251286016:=by decide
  omega
noncomputable def tH (b:Bx) (ws:List Int):AT:=inT gy ws 42 b (List.range ws.length)
noncomputable def tT (b:Bx) (ws:List Int):AT:=inT cQ ws 42 b (aY ws)
section
variable{ws:List Int}{b:Bx}
def mR{k:Nat}:k∈aY ws ↔ k<ws.length:=(c9 ws).perm.mem_iff.trans LC
def rW:(aY ws).length=ws.length:=by rw[(c9 ws).perm.length_eq,z_]
def yQ{t:AT}{l:List Nat}(h1:t.ok=true)(h2:t.lvs=l)(h3:t.dep<=l.length)(hl:∀k,k∈l ↔ k<ws.length)(hn:l.length=ws.length):TOk t (List.range ws.length):=⟨h1,λk=>by rw[h2,hl,LC],by rw[z_];omega,by rw[h2,z_];exact hn⟩
def CW(g:Good b)(W:WOk ws):bU.G [bV b,liV ws]=.ok (.val (atV (tH b ws))) []/\TOk (tH b ws) (List.range ws.length):=by have wl:=W.len;have wp:=W.pos;obtain⟨m,hm,B,hS⟩:=uZ g W;obtain⟨t1,t2,t3,t4⟩:=mF kH hm hS (λw hw=>(W.wt w hw).1) wl 42 (List.range ws.length) b (by rw[z_];omega) (by rw[z_];omega) (by rw[z_];omega) (λk hk=>LC.mp hk) (by rw[z_];exact B) trivial;rw[gq] at t1;exact⟨xJ g.ok W t1,yQ t2 t3 t4 (λk=>LC) z_⟩
def CA(g:Good b)(W:WOk ws):bS.G [bV b,liV ws]=.ok (.val (atV (tT b ws))) []/\TOk (tT b ws) (List.range ws.length):=by have wl:=W.len;have wp:=W.pos;have fl:=rW (ws:=ws);obtain⟨m,hm,B,hS⟩:=uZ g W;obtain⟨t1,t2,t3,t4⟩:=mF n9 hm hS (λw hw=>(W.wt w hw).1) wl 42 (aY ws) b (by omega) (by omega) (by omega) (λk hk=>mR.mp hk) (by rw[fl];exact B) (jK ws);exact⟨yU g.ok W t1,yQ t2 t3 t4 (λk=>mR) fl⟩
end
def ph(p:Rat):(fV p).items=some [.int p.num,.int p.den]:=rfl
noncomputable def mxL:List Rat->Rat
 | []=>0
 |x::xs=>xs.foldl mx x
theorem lj{n:Nat}(hn:n<=100000){v:Val}:∀(xs:List Rat) (a:Rat) (s:Sl),s.pl=true->Sz n a->(∀x∈xs,Sz n x)->∃s',dk (gtN 2).G dD.G (xs.map fV) [.sh v,.sh (fV a),s]=.nx [.sh v,.sh (fV (xs.foldl mx a)),s']
 | [],a,s,_,_,_=>⟨s,by rw[LH,fh];rfl⟩
 |
  x::xs,a,s,hs,ha,hx=>by
  have hx0:=hx x (s_ ..);have il:=lq ha hx0 hn hn;have hm:Sz n (mx a x):=by
   unfold mx;split
   .exact hx0
   .exact ha
  obtain⟨s',ih⟩:=lj hn (v:=v) xs (mx a x) (.sh (fV x)) rfl hm λy hy=>hx y (r_ _ hy);refine⟨s',?_⟩;have bb:dD.G [.sh v,.sh (fV a),.sh (fV x)]=.nx [.sh v,.sh (fV (mx a x)),.sh (fV x)]:=by
   unfold dD mx;by_cases hl:a<x
   .rw[K_ hl] at il;rw[if_pos hl];simp![il]
   .rw[H_ hl] at il;rw[if_neg hl];simp![il]
  have g1:(gtN 2).G (fV x) [.sh v,.sh (fV a),s]=some [.sh v,.sh (fV a),.sh (fV x)]:=by simp![hs]
  rw[u_,c8,g1];simp only[bb,j5];rw[ih];rfl
def hX{n:Nat}(hn:n<=100000){qs:List Rat}(h0:qs≠[])(hq:∀q∈qs,Sz n q):bR.G [.lst (qs.map fV)]=.ok (.val (fV (mxL qs))) []:=by
 cases qs with
 |nil=>exact absurd rfl h0
 |
  cons q qs=>
  have hq0:=hq q (s_ ..);obtain⟨s',lo⟩:=lj hn (v:=.lst ((q::qs).map fV)) (q::qs) q .no rfl hq0 hq;have e:(q::qs).foldl mx q=mxL (q::qs):=by rw[List.foldl_cons,show mx q q=q from if_neg Rat.lt_irrefl];rfl
  rw[e] at lo;have a0:atI ((q::qs).map fV) 0=some (fV q):=dm (by decide) rfl;generalize mxL (q::qs)=r at *;generalize (q::qs).map fV=qv at *;unfold bR;rw[aD];unfold jh;simp![a0,lo]
def rD{P:PFn}{bs:List Bx}(h:∀c∈bs,P.G [bV c]=.ok (.val (fV (aq c))) [])(hm:P.ms=[false])(hl:bs.length<=1000):∃s,lcV (gtN 0).G qY.G (ai P (aa (af 0) ag)).G (bs.map bV) [] [.no]=.ok ((bs.map aq).map fV) [s]:=by
 obtain⟨e',⟨s,rfl,_⟩,lc⟩:=cp (g:=(gtN 0).G) (F:=(ai P (aa (af 0) ag)).G) bV (λc=>fV (aq c)) (λe=>∃s:Sl,e=[s]/\s.pl=true) bs [] [.no] ⟨.no,rfl,rfl⟩ (by
  rintro c hc _ ⟨s,rfl,hs⟩;have hp:=h c hc;refine⟨[.sh (bV c)],.val (fV (aq c)),[.sh (bV c)],?_,?_,rfl,_,rfl,rfl⟩
  .simp![hs]
  .simp![hm,hp]) (by rw[LD];omega)
 rw[Mk] at lc;refine⟨s,?_⟩;rw[MF];exact lc
def xU{q:Rat}(h:0<q.num):(q⁻¹).num=q.den/\((q⁻¹).den:Int)=q.num:=by rw[Rat.num_inv,Rat.den_inv,Int.sign_eq_one_of_pos h,if_neg (by omega)];omega
def gu{b:Bx}{n:Nat}(hb:b.Ok)(hs:b.Sz n)(h:n+n<=8000):aU.G [bV b]=.ok (.val (fV (aq b))) []:=by
 have ib:(bV b).items=some [fV b.l,fV b.t,fV b.w,fV b.h]:=rfl;have c1:aC.G (.int b.w.num) (.int (b.h.den:Nat))=.val (.int (b.w.num*(b.h.den:Nat))):=aX (CMulA.of hs.w.top hs.h.bot (by omega) (by omega));have c2:aC.G (.int (b.w.den:Nat)) (.int b.h.num)=.val (.int ((b.w.den:Nat)*b.h.num)):=aX (CMulA.of hs.w.bot hs.h.top (by omega) (by omega));have h0:=hb.1;have h1:=hb.2;have hw0:0<b.w.num:=iI.mpr h0;have hh0:0<b.h.num:=iI.mpr h1;have dw:=b.w.den_pos;have lo:=gI (a:=b.w.num*b.h.den) (b:=b.w.den*b.h.num) (Int.ne_of_gt (Int.mul_pos (by omega) hh0)) ((hs.w.bot.mul hs.h.top).mono h);have hne:b.h≠0:=λz=>by rw[z] at h1;exact absurd h1 (by decide)
 have hnw:b.w≠0:=λz=>by rw[z] at h0;exact absurd h0 (by decide)
 rw[<- kK hne] at lo;have q0:0<b.w/b.h:=by rw[MH];exact OD h0 (OC.mpr h1)
 have qn:0<(b.w/b.h).num:=iI.mpr q0;have iv:(b.w/b.h)⁻¹=b.h/b.w:=by rw[MH,MH,Rat.inv_mul_rev,Rat.inv_inv]
 obtain⟨i1,i2⟩:=xU qn;rw[iv] at i1 i2;have lt:(b.w/b.h).num<((b.w/b.h).den:Int) ↔ b.w<b.h:=by
  have e:=ma (b.w/b.h) 1;rw[show (1:Rat).den=1 from rfl,show (1:Rat).num=1 from rfl] at e;rw[show ((b.w/b.h).num<((b.w/b.h).den:Int)) ↔ (b.w/b.h).num*((1:Nat):Int)<1*((b.w/b.h).den:Int) from by omega,<- e];constructor
  .intro z
   have:=MB z h1
   rw[Rat.div_mul_cancel hne,Rat.one_mul] at this;exact this
  .intro z
   have:=MB z (OC.mpr h1)
   rw[<- MH,Rat.mul_inv_cancel _ hne] at this;exact this
 unfold aU aq;rw[aD];unfold kg;by_cases hl:b.w<b.h
 .rw[if_pos hl,show fV (b.h/b.w)=.tup [.int (b.h/b.w).num,.int (b.h/b.w).den] from rfl,i1,i2];have d1:=K_ (lt.mpr hl);simp![ib,ph,c1,c2,lo,d1]
 .rw[if_neg hl];have d1:=H_ (λz=>hl (lt.mp z));simp![ib,ph,c1,c2,lo,d1]
theorem nW{n:Nat}(hn:n<=100000){v:Val}:∀(xs:List Rat) (a:Rat) (s:Sl),s.pl=true->Sz n a->(∀x∈xs,Sz n x)->∃s',dk (gtN 2).G fF.G (xs.map fV) [.sh v,.sh (fV a),s]=.nx [.sh v,.sh (fV (xs.foldl mx a)),s']
 | [],a,s,_,_,_=>⟨s,by rw[LH,fh];rfl⟩
 |
  x::xs,a,s,hs,ha,hx=>by
  have hx0:=hx x (s_ ..);have c1:aC.G (.int x.num) (.int (a.den:Nat))=.val (.int (x.num*(a.den:Nat))):=aX (CMulA.of hx0.top ha.bot hn hn);have c2:aC.G (.int a.num) (.int (x.den:Nat))=.val (.int (a.num*(x.den:Nat))):=aX (CMulA.of ha.top hx0.bot hn hn);have hm:Sz n (mx a x):=by
   unfold mx;split
   .exact hx0
   .exact ha
  obtain⟨s',ih⟩:=nW hn (v:=v) xs (mx a x) (.sh (fV x)) rfl hm λy hy=>hx y (r_ _ hy);refine⟨s',?_⟩;have bb:fF.G [.sh v,.sh (fV a),.sh (fV x)]=.nx [.sh v,.sh (fV (mx a x)),.sh (fV x)]:=by
   unfold fF mx;by_cases hl:a<x
   .have d1:=K_ ((ma a x).mp hl);rw[if_pos hl];simp![ph,c1,c2,d1]
   .have d1:=H_ (λz=>hl ((ma a x).mpr z));rw[if_neg hl];simp![ph,c1,c2,d1]
  have g1:(gtN 2).G (fV x) [.sh v,.sh (fV a),s]=some [.sh v,.sh (fV a),.sh (fV x)]:=by simp![hs]
  rw[u_,c8,g1];simp only[bb,j5];rw[ih];rfl
def ke{n:Nat}(hn:n<=100000){qs:List Rat}(h0:qs≠[])(hq:∀q∈qs,Sz n q):cI.G [.lst (qs.map fV)]=.ok (.val (fV (mxL qs))) []:=by
 cases qs with
 |nil=>exact absurd rfl h0
 |
  cons q qs=>
  have hq0:=hq q (s_ ..);obtain⟨s',lo⟩:=nW hn (v:=.lst ((q::qs).map fV)) qs q .no rfl hq0 λx hx=>hq x (r_ _ hx);rw[show qs.foldl mx q=mxL (q::qs) from rfl] at lo;have a0:atI ((q::qs).map fV) 0=some (fV q):=dm (by decide) rfl;have cf:aSl (.lst ((q::qs).map fV)) (some 1) none=.new (.lst (qs.map fV)):=by rw[gv,show (some 1:Option Int)=some ((1:Nat):Int) from rfl,gE];rfl
  generalize mxL (q::qs)=r at *;generalize (q::qs).map fV=qv at *;generalize qs.map fV=qw at *;unfold cI;rw[aD];unfold lA;simp![a0,cf,lo]
theorem CP:∀(xs:List Rat) (a:Rat),a<=xs.foldl mx a/\(∀x∈xs,x<=xs.foldl mx a)/\(xs.foldl mx a=a\/xs.foldl mx a∈xs)
 | [],a=>⟨Rat.le_refl,λ_ h=>(nomatch h),.inl rfl⟩
 |
  x::xs,a=>by
  obtain⟨h1,h2,h3⟩:=CP xs (mx a x);rw[List.foldl_cons];have ha:a<=mx a x:=by unfold mx;split;grind;exact Rat.le_refl
  have hx:x<=mx a x:=by unfold mx;split;exact Rat.le_refl;grind
  refine⟨Ni ha h1,λy hy=>?_,?_⟩
  .rcases G_.mp hy with rfl |hy
   .exact Ni hx h1
   .exact h2 y hy
  .rcases h3 with h3 |h3
   .rw[h3];unfold mx;split
    .exact .inr (s_ ..)
    .exact .inl rfl
   .exact .inr (r_ _ h3)
def eI{p:List Rat}(h:p≠[]):mxL p∈p/\∀x∈p,x<=mxL p:=by
 cases p with
 |nil=>exact absurd rfl h
 |
  cons a xs=>
  obtain⟨h1,h2,h3⟩:=CP xs a;refine⟨?_,λx hx=>?_⟩
  .show xs.foldl mx a∈_;rcases h3 with h3 |h3
   .rw[h3];exact s_ ..
   .exact r_ _ h3
  .rcases G_.mp hx with rfl |hx
   .exact h1
   .exact h2 x hx
theorem w9(q:Rat):∀qs:List Rat,gp (fV q) (qs.map fV)=some (qs.map λp=>decide (p=q))
 | []=>rfl
 |x::xs=>by rw[u_,gp,w9 q xs,JM];rfl
def BD{qs:List Rat}{q:Rat}(h:q∈qs):∃i:Int,eE.G (.lst (qs.map fV)) [fV q]=.val (.int i):=by have hm:true∈qs.map λp=>decide (p=q):=LN.mpr ⟨q,h,K_ rfl⟩;have hl:=NR.mpr hm;refine⟨((qs.map λp=>decide (p=q)).idxOf true:Nat),?_⟩;show ft (.lst (qs.map fV)) [fV q]=_;unfold ft;dsimp only;rw[w9];dsimp only;rw[if_pos hl]
def p7{bs:List Bx}(h0:bs≠[])(hb:∀c∈bs,c.Ok/\c.Sz 3400)(hl:bs.length<=1000):∃i:Int,eE.G (.lst ((bs.map aq).map fV)) [fV (mxL (bs.map aq))]=.val (.int i)/\gc.G [.lst (bs.map bV)]=.ok (.val (.tup [fV (mxL (bs.map aq)),.int i])) []:=by
 have q1:bs.map aq≠[]:=λz=>h0 (NK.mp z);have q2:∀q∈bs.map aq,Sz 6800 q:=λq hq=>by obtain⟨c,hc,rfl⟩:=LN.mp hq;exact gK (hb c hc).1 (hb c hc).2
 obtain⟨s,lc⟩:=rD (P:=eD) (bs:=bs) (λc hc=>kW (hb c hc).1 (hb c hc).2 (by decide)) rfl hl;have ge:=hX (by decide) q1 q2;obtain⟨i,ix⟩:=BD (eI q1).1;refine⟨i,ix,?_⟩;have sl:((bs.map aq).map fV).length<=16777216:=by rw[q_,q_];omega
 unfold gc;rw[aD];unfold uw;generalize (bs.map aq).map fV=sv at *;generalize mxL (bs.map aq)=r at *;generalize bs.map bV=bv at *;simp![lc,sl,ge,ix]
noncomputable def thQ (p:Int×Int):Rat:=((p.1+p.2:Int):Rat)/((p.2:Int):Rat)
theorem uO{rv wv fv:Val}:∀(ps:List (Int×Int)) (acc:List Rat) (s4 s5:Sl),s4.pl=true->s5.pl=true->(∀p∈ps,1<=p.2/\Sm 104 p.2)->acc.length+ps.length<=1000->∃s4' s5',dk (gtX (gtT 2 (aT (gtN 4) (aT (gtN 5) dP)))).G cF.G (ps.map λp=>.tup [.int p.1,.int p.2]) [.sh rv,.sh wv,.sh fv,.ow (.lst (acc.map fV)),s4,s5]=.nx [.sh rv,.sh wv,.sh fv,.ow (.lst ((acc++ps.map thQ).map fV)),s4',s5']
 | [],acc,s4,s5,_,_,_,_=>⟨s4,s5,by rw[LH,LH,fh,L6]⟩
 |
  p::ps,acc,s4,s5,h4,h5,hp,hl=>by
  obtain⟨p1,p2⟩:=hp p (s_ ..);rw[Em] at hl;have fe:=cL (a:=p.1+p.2) (b:=p.2) (by omega) (p2.mono (by decide));rw[show ((p.1+p.2:Int):Rat)/((p.2:Int):Rat)=thQ p from rfl] at fe;have ll:(acc.map fV).length<16777216:=by rw[q_];omega
  obtain⟨t4,t5,ih⟩:=uO (rv:=rv) (wv:=wv) (fv:=fv) ps (acc++[thQ p]) (.sh (.int p.1)) (.sh (.int p.2)) rfl rfl (λx hx=>hp x (r_ _ hx)) (by rw[I_,M_];omega);refine⟨t4,t5,?_⟩;have g1:(gtX (gtT 2 (aT (gtN 4) (aT (gtN 5) dP)))).G (.tup [.int p.1,.int p.2]) [.sh rv,.sh wv,.sh fv,.ow (.lst (acc.map fV)),s4,s5]=some [.sh rv,.sh wv,.sh fv,.ow (.lst (acc.map fV)),.sh (.int p.1),.sh (.int p.2)]:=by simp![h4,h5]
  have bb:cF.G [.sh rv,.sh wv,.sh fv,.ow (.lst (acc.map fV)),.sh (.int p.1),.sh (.int p.2)]=.nx [.sh rv,.sh wv,.sh fv,.ow (.lst ((acc++[thQ p]).map fV)),.sh (.int p.1),.sh (.int p.2)]:=by unfold cF;rw[L_,show [thQ p].map fV=[fV (thQ p)] from rfl];generalize fV (thQ p)=tq at *;generalize acc.map fV=av at *;simp![fe,ll]
  rw[u_,c8,g1];simp only[bb,j5];rw[ih,u_,MU];rfl
noncomputable def thL (L:List Int):List (Int×Int):=L.zip (L.drop 1)
def IH(L:List Int):List.zipWith (λx y=>Val.tup [x,y]) (L.map .int) ((L.map .int).drop 1)=(thL L).map λp=>.tup [.int p.1,.int p.2]:=by unfold thL;rw[<- MW,List.zipWith_map,List.map_zip_eq_zipWith];rfl
def lH{L:List Int}{p:Int×Int}(h:p∈thL L):p.1∈L/\p.2∈L:=⟨(NP h).1,L7 (NP h).2⟩
def Hz(L:List Int):(thL L).length<=L.length:=by unfold thL;rw[List.length_zip];omega
structure W1(ws:List Int):Prop where
 pos:1<=ws.length
 len:ws.length<=40
 wt:∀w∈ws,1<=w/\w<=1000000000000000000000000000000
def wm{w:Int}(h:0<=w)(h2:w<=2000000000000000000000000000000):Sm 104 w:=by
 refine qI h ?_;have e:(2:Int)^104=20282409603651670423947251286016:=by decide
 omega
def W1.sm{ws:List Int}(W:W1 ws){w:Int}(h:w∈ws):Sm 104 w:=wm (by have:=W.wt w h;omega) (by have:=W.wt w h;omega)
def KH{ws:List Int}(W:W1 ws){p:Int×Int}(h1:p.1∈ws)(h2:p.2∈ws):Sz 6800 (thQ p):=by have a1:=W.wt _ h1;have a2:=W.wt _ h2;exact Sz.div (by omega) (wm (by omega) (by omega)) (W.sm h2) 6800 (by decide) (by decide)
noncomputable def bTh (b:Bx) (ws:List Int):Rat:=mxL ([aq b,3]++(thL (srI ws).reverse).map thQ)
def vP:(.tup [.int 3,.int 1]:Val)=fV 3:=rfl
def xo{b:Bx}{ws:List Int}{l:List (Int×Int)}(hb:b.Ok)(hs:b.Sz 3400)(W:W1 ws)(hl:∀p∈l,p.1∈ws/\p.2∈ws):[aq b,3]++l.map thQ≠[]/\∀q∈[aq b,3]++l.map thQ,Sz 6800 q:=by
 refine⟨by simp,λq hq=>?_⟩;rcases Mm.mp hq with h |h
 .rcases G_.mp h with rfl |h
  .exact gK hb hs
  .rw[L5.mp h];exact⟨by show (3:Rat).num.natAbs<_;exact LA (show 3<2^2 by decide) (L8 (by decide) (by decide)),by show (3:Rat).den<_;exact LA (show 1<2^2 by decide) (L8 (by decide) (by decide))⟩
 .obtain⟨p,hp,rfl⟩:=LN.mp h;exact KH W (hl p hp).1 (hl p hp).2
def rF{b:Bx}{ws:List Int}(hb:b.Ok)(hs:b.Sz 3400)(W:W1 ws):bX.G [bV b,liV ws]=.ok (.val (fV (bTh b ws))) []:=by
 have wl:=W.len;have ks:=Et ws (by omega);have sh:=kW hb hs (by decide);have hin:∀x,x∈(srI ws).reverse->x∈ws:=λx hx=>(bT ws).mem_iff.mp (List.mem_reverse.mp hx);have rl:(srI ws).reverse.length=ws.length:=by rw[OA,(bT ws).length_eq]
 have tl:=Hz (srI ws).reverse;have hl:∀p∈thL (srI ws).reverse,p.1∈ws/\p.2∈ws:=λp hp=>⟨hin _ (lH hp).1,hin _ (lH hp).2⟩;obtain⟨s4,s5,lo⟩:=uO (rv:=bV b) (wv:=liV ws) (fv:=liV (srI ws).reverse) (thL (srI ws).reverse) [aq b,3] .no .no rfl rfl (λp hp=>⟨(W.wt _ (hl p hp).2).1,W.sm (hl p hp).2⟩) (by show 2+_<=_;omega);obtain⟨q1,q2⟩:=xo (l:=thL (srI ws).reverse) hb hs W hl;have ge:=hX (by decide) q1 q2;rw[show mxL ([aq b,3]++(thL (srI ws).reverse).map thQ)=bTh b ws from rfl] at ge;have zt:=IH (srI ws).reverse;have fl:L3.flatV (fV (bTh b ws))=true:=rfl;have cf:gk ((srI ws).reverse.map Val.int) (some 1) none=((srI ws).reverse.map Val.int).drop 1:=gE _ 1;rw[show ([aq b,3]:List Rat).map fV=[fV (aq b),.tup [.int 3,.int 1]] from rfl] at lo;unfold bX;rw[aD];unfold fT;unfold liV at *;generalize ([aq b,3]++(thL (srI ws).reverse).map thQ).map fV=sv at *;generalize (thL (srI ws).reverse).map (λp=>Val.tup [.int p.1,.int p.2])=zv at *;generalize (srI ws).reverse.map Val.int=fv at *;generalize ws.map Val.int=wv at *;generalize bTh b ws=r at *;generalize fV (aq b)=sq at *;generalize bV b=bv at *;simp![ks,sh,gv,cf,zt,lo,ge,fl]
theorem kJ:∀l:List Nat,AT.lvsL (l.map .lf)=l
 | []=>rfl
 |k::l=>by rw[u_,AT.lvsL,kJ l,AT.lvs];rfl
theorem uJ:∀l:List Nat,AT.okL (l.map .lf)=true
 | []=>rfl
 |k::l=>by rw[u_,AT.okL,uJ l,AT.ok];rfl
theorem pA:∀l:List Nat,AT.depL (l.map .lf)<=1
 | []=>by rw[LH,AT.depL];omega
 |k::l=>by rw[u_,AT.depL,AT.dep];have:=pA l;omega
theorem tF(ws:List Int):∀(l:List Nat) (bs:List Bx),AT.bxL ws (l.map .lf) bs=l.zip bs
 | [],bs=>by rw[LH,AT.bxL];rfl;exact λ_ _ _ _ z=>nomatch z
 |k::l,[]=>by rw[u_,AT.bxL];rfl;exact λ_ _ _ _ _ z=>nomatch z
 |k::l,b::bs=>by rw[u_,AT.bxL,tF ws l bs,AT.bx];rfl
theorem uU:∀(bs:List Bx) (a i:Nat) (c:Bx),bs[i]?=some c->bxO ((List.range' a bs.length).zip bs) (a+i)=c
 | [],a,i,c,h=>by simp at h
 |
  b::bs,a,i,c,h=>by
  rw[Em,List.range'_succ,List.zip_cons_cons];unfold bxO;cases i with
  |zero=>rw[List.find?_cons_of_pos (by simp)];simpa using h
  |
   succ i=>
   rw[NZ (by simp)]
   have:=uU bs (a+1) i c (by simpa using h)
   unfold bxO at this;rw[show a+(i+1)=a+1+i by omega];exact this
def vX{bs:List Bx}{n:Nat}(h:bs.length=n):((List.range n).map λk=>bV (bxO ((List.range n).zip bs) k))=bs.map bV:=by
 subst h;refine List.ext_getElem (by simp) λi h1 h2=>?_;rw[q_] at h2;rw[List.getElem_map,List.getElem_map,List.getElem_range];congr 1
 have:=uU bs 0 i (bs[i]) (x_ h2)
 rw[NS,<- List.range_eq_range'] at this;exact this
noncomputable def sbT (w:Bool) (n:Nat):AT:=if n=1 then .lf 0 else .nd w ((List.range n).map .lf)
def Lj(w:Bool){n:Nat}(h:1<=n):TOk (sbT w n) (List.range n):=by
 unfold sbT;by_cases h1:n=1
 .rw[if_pos h1,h1];exact⟨rfl,λk=>Iff.rfl,v_ _,rfl⟩
 .rw[if_neg h1];refine⟨?_,λk=>by rw[AT.lvs,kJ],?_,by rw[AT.lvs,kJ]⟩
  .rw[AT.ok,uJ,q_,z_,K_ (by omega)];rfl
  .rw[AT.dep,z_]
   have:=pA (List.range n)
   omega
def By(b:Bx)(w:Bool){x:Int}(h:1<=x):ay b (wy w) [x]=[b]:=by
 rw[oi];have hx:(x:Rat)≠0:=λz=>by
  have:x=0:=by exact_mod_cast z
  omega
 have e:(x:Rat)/(x:Rat)=1:=by rw[MH];exact Rat.mul_inv_cancel _ hx
 have e0:((0:Int):Rat)/(x:Rat)=0:=by rw[MH];exact Rat.zero_mul _
 simp only[LO,List.sum_nil,Int.add_zero,frm,cC,e,e0,Rat.mul_zero,Rat.mul_one,Rat.add_zero];cases w <;> rfl
def JH{ws:List Int}(b:Bx)(w:Bool)(h:1<=ws.length)(hw:∀x∈ws,1<=x):((List.range ws.length).map λk=>bV (bxO (AT.bx ws (sbT w ws.length) b) k))=(ay b (wy w) ws).map bV:=by
 unfold sbT;by_cases h1:ws.length=1
 .rw[if_pos h1,AT.bx,h1];obtain⟨x,rfl⟩:=N2.mp h1;rw[By b w (hw x (s_ ..))];rfl
 .rw[if_neg h1,AT.bx,MF];have e:(List.range ws.length).map (wtT ws ∘ AT.lf)=ws:=by
   have:=gq ws
   refine Eq.trans (List.map_congr_left λk _=>?_) this;show wtA ws (AT.lvs (.lf k))=_;rw[AT.lvs];simp [wtA]
  rw[e,tF];exact vX (jL ..)
def zZ{ws:List Int}{b:Bx}(w:Bool)(g:Good b)(W:WOk ws):dG.G [bV b,liV ws,atV (sbT w ws.length)]=.ok (.new (.lst ((ay b (wy w) ws).map bV))) []:=by have wp:=W.pos;have wl:=W.len;have T:=Lj w wp;obtain⟨m,hm,hy⟩:=wa g W T (λi=>LC) z_;have be:=pG (by omega) g.ok (λz=>by rw[z] at wp;exact absurd wp (by decide)) (λx hx=>(W.wt x hx).1) wl T.ok (λk=>(T.mem k).trans LC) (wZ T (λi=>LC) z_) (by rw[T.len,z_]) (by have:=T.dep;rw[z_] at this;omega) hy;rw[JH b w wp λx hx=>(W.wt x hx).1] at be;exact be
def Bu(w:Bool)(l:List Nat):atV (.nd w (l.map .lf))=.tup [.str (wy w),.tup (l.map λk:Nat=>Val.int k)]:=by unfold atV;rw[AT.val,AT.vals_map,MF];rfl
def EJ{ws:List Int}{b:Bx}(w:Bool)(hb:b.Ok)(W:WOk ws):cT.G [.str (wy w),bV b,liV ws]=.ok (.val (atV (sbT w ws.length))) []:=by
 have wl:=W.len;have wp:=W.pos;have cb:=bq hb;have cw:=fH (ws:=ws) (by intro z;rw[z] at wp;exact absurd wp (by decide)) (λx hx=>(W.wt x hx).1) wl;have ll:((ws.map Val.int).length:Nat)=ws.length:=q_ ..;have kt:lN.G [.int (ws.length:Nat)]=.val (.tup ((List.range ws.length).map λk:Nat=>Val.int k)):=Jd ⟨by omega,by omega⟩;unfold cT sbT;rw[aD];unfold iF;unfold liV;by_cases h1:ws.length=1
 .have n1:(((ws.length:Nat):Int)==1)=true:=by rw[LW];omega
  rw[if_pos h1,show atV (.lf 0)=.int 0 from rfl];generalize ws.map Val.int=wv at *;generalize bV b=bv at *;generalize wy w=yy at *;simp![cb,cw,ll,n1]
 .have n1:(((ws.length:Nat):Int)==1)=false:=by rw[J_];omega
  rw[if_neg h1,Bu];generalize ((List.range ws.length).map λk:Nat=>Val.int k)=rv at *;generalize ws.map Val.int=wv at *;generalize bV b=bv at *;generalize wy w=yy at *;simp![cb,cw,ll,n1,kt]
def fu{r:Str}(h:BE.G (.str r) (.tup [.str "across",.str "down",.str "halves",.str "rows",.str "greatest",.str "thirds"])=.val (.bl false)):b8.G [.str r]=.ok (.val .non) []:=by unfold b8;rw[aD];unfold ju;simp![h]
def sn(w:Bool){s:Str}(h:s∈(["halves", "rows", "greatest", "thirds"]:List Str)):bo (.str (wy w)) (.str s)=some false:=by simp only[G_,Ng,or_false] at h;rcases h with rfl |rfl |rfl |rfl <;> cases w <;> (rw[L3.eq_str (by decide) (by decide)];exact Mb some (by decide))
def yp(w:Bool):b8.G [.str (wy w)]=.ok (.val .non) []:=by
 cases w
 .exact fu rfl
 .exact fu rfl
def C0{ws:List Int}{b:Bx}(w:Bool)(g:Good b)(W:WOk ws):bA.G [.str (wy w),bV b,liV ws]=.ok (.new (.lst ((ay b (wy w) ws).map bV))) []:=by
 have se:=EJ w g.ok W;have bb:=zZ w g W;have ck:=yp w;have n1:=sn w (s:="halves") (by simp);have n2:=sn w (s:="rows") (by simp);have n3:=sn w (s:="greatest") (by simp);have n4:=sn w (s:="thirds") (by simp);have rt:aV.G [.str (wy w),bV b,liV ws]=.ok (.val (atV (sbT w ws.length))) []:=by unfold aV;rw[aD];unfold fE;generalize atV (sbT w ws.length)=tv at *;generalize liV ws=wv at *;generalize bV b=bv at *;generalize wy w=yy at *;simp![ck,n1,n2,n3,n4,se]
 unfold bA;rw[aD];unfold jC;generalize (ay b (wy w) ws).map bV=pv at *;generalize atV (sbT w ws.length)=tv at *;generalize liV ws=wv at *;generalize bV b=bv at *;generalize wy w=yy at *;simp![rt,bb]
def KC{ws:List Int}{b:Bx}{r:Str}{t:AT}(g:Good b)(W:WOk ws)(h:aV.G [.str r,bV b,liV ws]=.ok (.val (atV t)) [])(T:TOk t (List.range ws.length)):bA.G [.str r,bV b,liV ws]=.ok (.new (.lst ((List.range ws.length).map λk=>bV (bxO (AT.bx ws t b) k)))) []:=by have wp:=W.pos;have wl:=W.len;obtain⟨m,hm,hy⟩:=wa g W T (λi=>LC) z_;have be:=pG (by omega) g.ok (λz=>by rw[z] at wp;exact absurd wp (by decide)) (λx hx=>(W.wt x hx).1) wl T.ok (λk=>(T.mem k).trans LC) (wZ T (λi=>LC) z_) (by rw[T.len,z_]) (by have:=T.dep;rw[z_] at this;omega) hy;unfold bA;rw[aD];unfold jC;generalize (List.range ws.length).map (λk=>bV (bxO (AT.bx ws t b) k))=pv at *;generalize atV t=tv at *;generalize liV ws=wv at *;generalize bV b=bv at *;simp![h,be]
def Gz{bv wv t:Val}(h:bU.G [bv,wv]=.ok (.val t) []):aV.G [.str "halves",bv,wv]=.ok (.val t) []:=by
 have ck:=fu (r:="halves") rfl;have e1:bo (.str "halves") (.str "halves")=some true:=by rw[L3.eq_str (by decide) (by decide)];exact Mb some (by decide)
 unfold aV;rw[aD];unfold fE;simp![ck,e1,h]
def GN{bv wv t:Val}(h:bS.G [bv,wv]=.ok (.val t) []):aV.G [.str "thirds",bv,wv]=.ok (.val t) []:=by
 have ck:=fu (r:="thirds") rfl;have e0:bo (.str "thirds") (.str "halves")=some false:=by rw[L3.eq_str (by decide) (by decide)];exact Mb some (by decide)
 have e1:bo (.str "thirds") (.str "rows")=some false:=by rw[L3.eq_str (by decide) (by decide)];exact Mb some (by decide)
 have e2:bo (.str "thirds") (.str "greatest")=some false:=by rw[L3.eq_str (by decide) (by decide)];exact Mb some (by decide)
 have e3:bo (.str "thirds") (.str "thirds")=some true:=by rw[L3.eq_str (by decide) (by decide)];exact Mb some (by decide)
 unfold aV;rw[aD];unfold fE;simp![ck,e0,e1,e2,e3,h]
noncomputable def bWy (w:Bool) (b:Bx) (ws:List Int):Rat:=mxL ((ay b (wy w) ws).map aq)
noncomputable def bHv (b:Bx) (ws:List Int):Rat:=mxL [aq b,((ws.sum:Int):Rat)/((mnI ws:Int):Rat)]
def WOk.one{ws:List Int}(W:WOk ws):W1 ws:=⟨W.pos,W.len,W.wt⟩
def WOk.ne{ws:List Int}(W:WOk ws):ws≠[]:=λz=>by
 have:=W.pos
 rw[z] at this;exact absurd this (by decide)
def gh{b:Bx}{ws:List Int}(g:Good b)(W:WOk ws):b.Sz 3400:=by obtain⟨m,_,B,_⟩:=uZ g W;exact B.sz
def yE{ws:List Int}{b:Bx}(g:Good b)(W:WOk ws):∃m,m<=104/\Bd m (2^101) b ws.length/\ws.sum<2^m/\(ws.length:Int)<=ws.sum:=by obtain⟨m,hm,B,h⟩:=uZ g W;have e:=h (List.range ws.length) (λk hk=>LC.mp hk) (by rw[z_];exact v_ _);unfold wtA at e;rw[gq] at e;exact⟨m,hm,B,e,bN λw hw=>(W.wt w hw).1⟩
def tR{ws:List Int}{b:Bx}(w:Bool)(g:Good b)(W:WOk ws):(ay b (wy w) ws≠[]/\∀c∈ay b (wy w) ws,c.Ok/\c.Sz 3400)/\(ay b (wy w) ws).length<=1000/\(ay b (wy w) ws).map aq≠[]/\∀q∈(ay b (wy w) ws).map aq,Sz 6800 q:=by
 obtain⟨m,hm,B,h,_⟩:=yE g W;have wp:=W.pos;have wl:=W.len;have pl:=jL b (wy w) ws;have h0:ay b (wy w) ws≠[]:=λz=>by rw[z,LD] at pl;omega
 have h1:∀c∈ay b (wy w) ws,c.Ok/\c.Sz 3400:=λc hc=>by
  have:=B.part (λx hx=>(W.wt x hx).1) h hc (show 0<ws.length by omega)
  exact⟨this.ok,this.sz⟩
 refine⟨⟨h0,h1⟩,by omega,λz=>h0 (NK.mp z),λq hq=>?_⟩;obtain⟨c,hc,rfl⟩:=LN.mp hq;exact gK (h1 c hc).1 (h1 c hc).2
def CZ{ws:List Int}{b:Bx}(g:Good b)(W:WOk ws):([aq b,((ws.sum:Int):Rat)/((mnI ws:Int):Rat)]≠[])/\(∀q∈[aq b,((ws.sum:Int):Rat)/((mnI ws:Int):Rat)],Sz 6800 q)/\mnI ws≠0/\Sm 8000 (mnI ws):=by
 obtain⟨m,hm,B,h,hp⟩:=yE g W;have hi:=gj W.ne;have h1:=(W.wt _ hi).1;have s1:=W.one.sm hi;refine⟨by simp,λq hq=>?_,by omega,s1.mono (by decide)⟩;rcases G_.mp hq with rfl |hq
 .exact gK g.ok (gh g W)
 .rw[L5.mp hq];exact Sz.div (by omega) (qI (by omega) h) s1 6800 (by omega) (by decide)
section
variable{ws:List Int}{b:Bx}(g:Good b)(W:WOk ws)
def AF(g:Good b)(W:WOk ws):bI.G [.str "thirds",bV b,liV ws]=.ok (.val (fV (bTh b ws))) []:=by
 have cr:=fu (r:="thirds") rfl;have cb:=bq g.ok;have cw:=fH W.ne (λx hx=>(W.wt x hx).1) W.len;have tb:=rF g.ok (gh g W) W.one;have e1:bo (.str "thirds") (.str "thirds")=some true:=by rw[L3.eq_str (by decide) (by decide)];exact Mb some (by decide)
 unfold bI;rw[aD];unfold fX;unfold liV at *;generalize bTh b ws=r at *;generalize ws.map Val.int=wv at *;generalize bV b=bv at *;simp![cr,cb,cw,e1,tb]
def zC(g:Good b)(W:WOk ws):bI.G [.str "halves",bV b,liV ws]=.ok (.val (fV (bHv b ws))) []:=by
 have cr:=fu (r:="halves") rfl;have cb:=bq g.ok;have cw:=fH W.ne (λx hx=>(W.wt x hx).1) W.len;have sh:=kW g.ok (gh g W) (by decide);obtain⟨q1,q2,q3,q4⟩:=CZ g W;have fe:=cL (a:=ws.sum) q3 q4;have ge:=hX (by decide) q1 q2;rw[show mxL [aq b,((ws.sum:Int):Rat)/((mnI ws:Int):Rat)]=bHv b ws from rfl] at ge;have mn:=yG W.ne;have m1:=aW ws;have e0:bo (.str "halves") (.str "thirds")=some false:=by rw[L3.eq_str (by decide) (by decide)];exact Mb some (by decide)
 have e1:bo (.str "halves") (.str "halves")=some true:=by rw[L3.eq_str (by decide) (by decide)];exact Mb some (by decide)
 have fl:L3.flatV (fV (bHv b ws))=true:=rfl;simp only[u_,LH] at ge;unfold bI;rw[aD];unfold fX;unfold liV at *;generalize bHv b ws=r at *;generalize fV (((ws.sum:Int):Rat)/((mnI ws:Int):Rat))=hq at *;generalize fV (aq b)=sq at *;generalize ws.map Val.int=wv at *;generalize bV b=bv at *;simp![cr,cb,cw,e0,e1,sh,m1,mn,fe,ge,fl]
def AN(w:Bool)(g:Good b)(W:WOk ws):bI.G [.str (wy w),bV b,liV ws]=.ok (.val (fV (bWy w b ws))) []:=by
 have cr:=yp w;have cb:=bq g.ok;have cw:=fH W.ne (λx hx=>(W.wt x hx).1) W.len;obtain⟨⟨p0,p1⟩,p2,_⟩:=tR w g W;obtain⟨i,_,wo⟩:=p7 p0 p1 p2;rw[show mxL ((ay b (wy w) ws).map aq)=bWy w b ws from rfl] at wo;have be:=C0 w g W;have n1:=sn w (s:="halves") (by simp);have n4:=sn w (s:="thirds") (by simp);have iw:bIn.G (.str (wy w)) (.tup [.str "across",.str "down"])=.val (.bl true):=by cases w <;> rfl
 have a0:atI [fV (bWy w b ws),Val.int i] 0=some (fV (bWy w b ws)):=dm (by decide) rfl;unfold bI;rw[aD];unfold fX;unfold liV at *;generalize fV (bWy w b ws)=r at *;generalize (ay b (wy w) ws).map bV=pv at *;generalize ws.map Val.int=wv at *;generalize bV b=bv at *;generalize wy w=yy at *;simp![cr,cb,cw,n4,n1,iw,be,wo,a0]
end
theorem jN{f:List Int->Nat}{nm:Str}{D:List Int->Prop}(H:HowM f nm D){ws:List Int}(hw:∀w∈ws,1<=w):∀(N:Nat) (l:List Nat) (b:Bx),l.length<=N->1<=l.length->(∀k∈l,k<ws.length)->D (l.map λk=>ws.getD k 0)->(inT f ws N b l).lvs=l
 |0,l,b,h0,h1,_,_=>by omega
 |
  N+1,l,b,h0,h1,hi,hD=>by
  rw[inT];by_cases hl:l.length=1
  .obtain⟨k,rfl⟩:=N2.mp hl;rw[if_pos hl];rfl
  .rw[if_neg hl];have xl:(l.map λk=>ws.getD k 0).length=l.length:=q_ ..;obtain⟨g1,g2⟩:=H.lt _ hD (by omega) (λw hw'=>by obtain⟨j,hj,rfl⟩:=LN.mp hw';rw[E_,x_ (hi j hj)];exact hw _ (Mo _));have d1:=H.tk _ (f (l.map λk=>ws.getD k 0)) hD;have d2:=H.dr _ (f (l.map λk=>ws.getD k 0)) hD;rw[<- MJ] at d1;rw[<- MW] at d2;generalize f (l.map λk=>ws.getD k 0)=i at *;rw[AT.lvs,AT.lvsL,AT.lvsL,AT.lvsL,jN H hw N (l.take i) _ (by rw[LP];omega) (by rw[LP];omega) (λk hk=>hi k (L4 hk)) d1,jN H hw N (l.drop i) _ (by rw[LR];omega) (by rw[LR];omega) (λk hk=>hi k (L7 hk)) d2,L6,Ma]
theorem m6{k:Nat}:∀{l:List (Nat×Bx)},k∈l.map (·.1)->∃p∈l,bxO l k=p.2
 | [],h=>nomatch h
 |
  p::l,h=>by
  unfold bxO;by_cases hp:p.1=k
  .exact⟨p,s_ ..,by rw[List.find?_cons_of_pos (by simpa using hp)];rfl⟩
  .rw[u_,G_] at h;obtain⟨q,hq,e⟩:=m6 (l:=l) (h.resolve_left λz=>hp z.symm);refine⟨q,r_ _ hq,?_⟩;rw[NZ (by simpa using hp)];exact e
noncomputable def bsO (ws:List Int) (t:AT) (b:Bx):List Bx:=(List.range ws.length).map λk=>bxO (AT.bx ws t b) k
def C8(ws:List Int)(t:AT)(b:Bx):((List.range ws.length).map λk=>bV (bxO (AT.bx ws t b) k))=(bsO ws t b).map bV:=by unfold bsO;rw[MF];rfl
def pH{ws:List Int}{t:AT}{b:Bx}(g:Good b)(W:WOk ws)(T:TOk t (List.range ws.length)):∀c∈bsO ws t b,c.Ok/\c.Sz 3400:=λc hc=>by obtain⟨k,hk,rfl⟩:=LN.mp hc;obtain⟨m,hm,hy⟩:=wa g W T (λi=>LC) z_;obtain⟨p,hp,e⟩:=m6 (l:=AT.bx ws t b) (k:=k) (by rw[AT.bx_keys];exact (T.mem k).mpr hk);rw[e];exact GR t b hy p hp
def uo(ws:List Int)(t:AT)(b:Bx):(bsO ws t b).length=ws.length:=by unfold bsO;rw[q_,z_]
def CQ{ws:List Int}{b:Bx}{r:Str}{t:AT}(g:Good b)(W:WOk ws)(h:aV.G [.str r,bV b,liV ws]=.ok (.val (atV t)) [])(T:TOk t (List.range ws.length)):bA.G [.str r,bV b,liV ws]=.ok (.new (.lst ((bsO ws t b).map bV))) []:=by rw[<- C8];exact KC g W h T
theorem jR{f:List Int->Nat}{nm:Str}{D:List Int->Prop}(H:HowM f nm D){ws:List Int}(hw:∀w∈ws,1<=w){E:List Int->Prop}(et:∀xs i,E xs->E (xs.take i))(ed:∀xs i,E xs->E (xs.drop i)){B:Rat}(k_:∀xs:List Int,D xs->E xs->2<=xs.length->(∀w∈xs,1<=w)->((xs.sum:Int):Rat)<=B*(((xs.take (f xs)).sum:Int):Rat)/\((xs.sum:Int):Rat)<=B*(((xs.drop (f xs)).sum:Int):Rat)):
 ∀(N:Nat) (l:List Nat) (b:Bx),l.length<=N->1<=l.length->(∀k∈l,k<ws.length)->D (l.map λk=>ws.getD k 0)->E (l.map λk=>ws.getD k 0)->b.Ok->aq b<=B->∀p∈AT.bx ws (inT f ws N b l) b,aq p.2<=B
 |0,l,b,h0,h1,_,_,_,_,_=>by omega
 |
  N+1,l,b,h0,h1,hi,hD,hE,hb,hs=>by
  rw[inT];by_cases hl:l.length=1
  .rw[if_pos hl,AT.bx];intro p hp;rw[L5.mp hp];exact hs
  .rw[if_neg hl];have xl:(l.map λk=>ws.getD k 0).length=l.length:=q_ ..;have xp:∀w∈l.map λk=>ws.getD k 0,1<=w:=λw hw'=>by obtain⟨j,hj,rfl⟩:=LN.mp hw';rw[E_,x_ (hi j hj)];exact hw _ (Mo _)
   obtain⟨g1,g2⟩:=H.lt _ hD (by omega) xp;obtain⟨k1,k2⟩:=k_ _ hD hE (by omega) xp;have d1:=H.tk _ (f (l.map λk=>ws.getD k 0)) hD;have d2:=H.dr _ (f (l.map λk=>ws.getD k 0)) hD;have e1:=et _ (f (l.map λk=>ws.getD k 0)) hE;have e2:=ed _ (f (l.map λk=>ws.getD k 0)) hE;have p1:=bN (l:=(l.map λk=>ws.getD k 0).take (f (l.map λk=>ws.getD k 0))) λw h=>xp w (L4 h);have p2:=bN (l:=(l.map λk=>ws.getD k 0).drop (f (l.map λk=>ws.getD k 0))) λw h=>xp w (L7 h);have sm:(l.map λk=>ws.getD k 0).sum=((l.map λk=>ws.getD k 0).take (f (l.map λk=>ws.getD k 0))).sum+((l.map λk=>ws.getD k 0).drop (f (l.map λk=>ws.getD k 0))).sum:=by rw[<- MP,Ma]
   generalize hf:f (l.map λk=>ws.getD k 0)=i at *;rw[<- MJ] at k1 d1 e1 p1 sm;rw[<- MW] at k2 d2 e2 p2 sm;rw[q_,LP] at p1;rw[q_,LR] at p2;have l1:∀b,wtT ws (inT f ws N b (l.take i))=wtA ws (l.take i):=λb=>by unfold wtT;rw[jN H hw N (l.take i) b (by rw[LP];omega) (by rw[LP];omega) (λk hk=>hi k (L4 hk)) d1]
   have l2:∀b,wtT ws (inT f ws N b (l.drop i))=wtA ws (l.drop i):=λb=>by unfold wtT;rw[jN H hw N (l.drop i) b (by rw[LR];omega) (by rw[LR];omega) (λk hk=>hi k (L7 hk)) d2]
   have w1:wtA ws (l.take i)=((l.take i).map λk=>ws.getD k 0).sum:=rfl;have w2:wtA ws (l.drop i)=((l.drop i).map λk=>ws.getD k 0).sum:=rfl;have w3:wtA ws l=(l.map λk=>ws.getD k 0).sum:=rfl;rw[<- w3,<- w1] at k1;rw[<- w3,<- w2] at k2;rw[<- w1,<- w2,<- w3] at sm;rw[<- w1] at p1;rw[<- w2] at p2;intro p hp;rw[AT.bx,u_,u_,LH,l1,l2,pC,<- sm,AT.bxL,AT.bxL,AT.bxL,L6] at hp
   .have c1:=uc (W:=wtA ws l) (a:=0) (x:=wtA ws (l.take i)) hb hs (by omega) (by omega) (by omega) k1;have c2:=uc (W:=wtA ws l) (a:=wtA ws (l.take i)) (x:=wtA ws (l.drop i)) hb hs (by omega) (by omega) (by omega) k2;have o1:=(rL (w:=lwB b) (W:=wtA ws l) (a:=0) (x:=wtA ws (l.take i)) hb (by omega) (by omega) (by omega)).1;have o2:=(rL (w:=lwB b) (W:=wtA ws l) (a:=wtA ws (l.take i)) (x:=wtA ws (l.drop i)) hb (by omega) (by omega) (by omega)).1;rcases Mm.mp hp with hp |hp
    .exact jR H hw et ed k_ N (l.take i) _ (by rw[LP];omega) (by rw[LP];omega) (λk hk=>hi k (L4 hk)) d1 e1 o1 c1 p hp
    .exact jR H hw et ed k_ N (l.drop i) _ (by rw[LR];omega) (by rw[LR];omega) (λk hk=>hi k (L7 hk)) d2 e2 o2 c2 p hp
   all_goals exact λ_ _ _ _ _ z=>nomatch z
def uu{ws:List Int}{t:AT}{b:Bx}{B:Rat}(T:TOk t (List.range ws.length))(h:∀p∈AT.bx ws t b,aq p.2<=B):∀c∈bsO ws t b,aq c<=B:=λc hc=>by obtain⟨k,hk,rfl⟩:=LN.mp hc;obtain⟨p,hp,e⟩:=m6 (l:=AT.bx ws t b) (k:=k) (by rw[AT.bx_keys];exact (T.mem k).mpr hk);rw[e];exact h p hp
def wK{x y B:Rat}(hy:0<y)(h:x/y<=B):x<=B*y:=Mu.mp λz=>Mu.mpr h ((NF hy).mpr z)
def Fd{ws:List Int}{b:Bx}(g:Good b)(W:WOk ws):∀c∈bsO ws (tH b ws) b,aq c<=bHv b ws:=by
 have hw:∀w∈ws,1<=w:=λw h=>(W.wt w h).1;have wl:=W.len;have wp:=W.pos;obtain⟨_,mu⟩:=eI (p:=[aq b,((ws.sum:Int):Rat)/((mnI ws:Int):Rat)]) (by simp);have m1:=mu _ (s_ ..);have m2:=mu _ (r_ _ (s_ ..));have hm:=hw _ (gj W.ne);have m3:=wK (gC (by omega)) m2;rw[show mxL [aq b,((ws.sum:Int):Rat)/((mnI ws:Int):Rat)]=bHv b ws from rfl] at m1 m3;have B0:0<=bHv b ws:=Mu.mp λz=>by
  have h1:=MB z (gC (a:=mnI ws) (by omega));have h2:=eR (bN hw);have h3:(0:Rat)<=(((ws.length:Nat):Int):Rat):=by have:=eR (show (0:Int)<=(ws.length:Nat) by omega);simpa using this
  grind
 refine uu (CW g W).2 (jR kH hw (E:=λxs=>(∀w∈xs,mnI ws<=w/\1<=w)/\xs.sum<=ws.sum) (λxs i h=>⟨λw hx=>h.1 w (L4 hx),?_⟩) (λxs i h=>⟨λw hx=>h.1 w (L7 hx),?_⟩) (λxs _ hE h2 hp=>?_) 42 (List.range ws.length) b (by rw[z_];omega) (by rw[z_];omega) (λk hk=>LC.mp hk) trivial ?_ g.ok m1)
 .have e:xs.sum=(xs.take i).sum+(xs.drop i).sum:=by rw[<- MP,Ma]
  have:=bN (l:=xs.drop i) λw hx=>(h.1 w (L7 hx)).2
  omega
 .have e:xs.sum=(xs.take i).sum+(xs.drop i).sum:=by rw[<- MP,Ma]
  have:=bN (l:=xs.take i) λw hx=>(h.1 w (L4 hx)).2
  omega
 .obtain⟨g1,g2⟩:=kH.lt xs trivial h2 hp;have least:∀ys:List Int,ys≠[]->(∀w∈ys,w∈xs)->mnI ws<=ys.sum:=λys hy hin=>by
   cases ys with
   |nil=>exact absurd rfl hy
   |cons y r=>have h1:=(hE.1 y (hin y (s_ ..))).1;have h2:=bN (l:=r) λw h=>(hE.1 w (hin w (r_ _ h))).2;rw[LO];omega
  have d_:∀y:Int,mnI ws<=y->((xs.sum:Int):Rat)<=bHv b ws*(y:Rat):=λy hy=>Ni (eR hE.2) (Ni m3 (Nv (eR hy) B0));exact⟨d_ _ (least _ (λz=>by have:=Mb List.length z;rw[LP,LD] at this;omega) λw=>L4),d_ _ (least _ (λz=>by have:=Mb List.length z;rw[LR,LD] at this;omega) λw=>L7)⟩
 .rw[gq];exact⟨λw h=>⟨lg h,hw w h⟩,Int.le_refl _⟩
def A4(ws:List Int):((aY ws).map λk=>ws.getD k 0)=(srI ws).reverse:=by refine List.Perm.eq_of_pairwise (le:=λx y=>x >= y) (λx y _ _ h1 h2=>by omega) (jK ws) (by rw[List.pairwise_reverse];exact xk ws) ?_;have h1:=(c9 ws).perm.map λk=>ws.getD k 0;rw[gq] at h1;exact h1.trans ((bT ws).symm.trans (List.reverse_perm _).symm)
theorem Cb{x y:Int}{r:List Int}:∀p:List Int,(x,y)∈thL (p++x::y::r)
 | []=>s_ ..
 | [a]=>r_ _ (s_ ..)
 |a::c::p=>r_ _ (Cb (c::p))
def Ib{ws:List Int}{b:Bx}(g:Good b)(W:WOk ws):∀c∈bsO ws (tT b ws) b,aq c<=bTh b ws:=by
 have hw:∀w∈ws,1<=w:=λw h=>(W.wt w h).1;have wl:=W.len;have wp:=W.pos;have fl:=rW (ws:=ws);obtain⟨_,mu⟩:=eI (p:=[aq b,3]++(thL (srI ws).reverse).map thQ) (by simp);have m1:=mu _ (My _ (s_ ..));have m2:=mu _ (My _ (r_ _ (s_ ..)));have m3:∀p∈thL (srI ws).reverse,thQ p<=_:=λp hp=>mu _ (LJ _ (Nj hp));rw[show mxL ([aq b,3]++(thL (srI ws).reverse).map thQ)=bTh b ws from rfl] at m1 m2 m3;refine uu (CA g W).2 (jR n9 hw (E:=λxs=>∃p s,(srI ws).reverse=p++(xs++s)) (λxs i h=>?_) (λxs i h=>?_) (λxs hD hE h2 hp=>xj h2 hp hD m2 λx y r e=>?_) 42 (aY ws) b (by omega) (by omega) (λk hk=>mR.mp hk) (jK ws) ?_ g.ok m1)
 .obtain⟨p,s,e⟩:=h;exact⟨p,xs.drop i++s,by rw[e,<- MU (xs.take i),Ma]⟩
 .obtain⟨p,s,e⟩:=h;exact⟨p++xs.take i,s,by rw[e,MU,<- MU (xs.take i),Ma]⟩
 .obtain⟨p,s,e'⟩:=hE;subst e;have h1:=m3 (x,y) (by rw[e'];exact Cb p);have hy:=hp y (r_ _ (s_ ..));exact wK (gC (by omega)) h1
 .exact⟨[],[],by rw[A4];simp⟩
def stL(n:Nat)(L:List Int):Prop:=∀w∈L,1<=w/\2*w+1<=19*3^n
def tQ{n:Nat}(h:n<=1000):kT [.int 1,.int (n:Nat)]=some (eS 1 (n-1)):=by rw[show kT [.int 1,.int (n:Nat)]=some (eS 1 (((n:Nat):Int)-1).toNat) from if_pos ⟨⟨by decide,by decide⟩,⟨by omega,by omega⟩⟩];congr 2;omega
def Ea(L:List Int)(x:Int):atI ((L++[x]).map Val.int) (-1)=some (.int x):=by unfold atI ixN;rw[if_neg (by decide),q_,I_,M_,if_pos (by omega),show (-1+((L.length+1:Nat):Int)).toNat=L.length by omega];simp
def Jk{n:Nat}{w r s:Int}(h:1<=w/\2*w+1<=19*3^n)(r0:0<=r)(r1:r<3)(s0:0<=s)(s1:s<2):1<=w*(1+r)+s/\2*(w*(1+r)+s)+1<=19*3^(n+1):=by
 rw[Int.pow_succ];generalize (3:Int)^n=X at *;obtain rfl |rfl |rfl:r=0\/r=1\/r=2:=by omega
 .omega
 .omega
 .omega
def DH{n:Nat}{w:Int}(h:1<=w/\2*w+1<=19*3^n):1<=w/\2*w+1<=19*3^(n+1):=by rw[Int.pow_succ];generalize (3:Int)^n=X at *;omega
def CY{n:Nat}{w:Int}(h:1<=w/\2*w+1<=19*3^n)(hn:n<=39):w<=73786976294838206464:=by
 have h1:(3:Nat)^n<=3^39:=L8 (by decide) hn;have h2:(3:Int)^n<=3^39:=by exact_mod_cast h1
 have h3:(3:Int)^39=4052555153018976267:=by decide
 omega
def He{n:Nat}{w r:Int}(h:1<=w/\2*w+1<=19*3^n)(hn:n<=39)(r0:0<=r)(r1:r<3):aC.G (.int w) (.int (1+r))=.val (.int (w*(1+r))):=by
 have:=CY h hn
 have:(73786976294838206464:Int).natAbs<2^67:=by decide
 exact aX (CMulA.of (n:=67) (m:=67) (show w.natAbs<2^67 by omega) (show (1+r).natAbs<2^67 by omega) (by decide) (by decide))
def uG(lo:Int)(k:Nat):(eS lo k).length=k:=by unfold eS;rw[q_,z_]
def J9{vs:List Val}{j:Nat}{v:Val}(h:vs[j]?=some v):j<vs.length:=(D_.mp h).1
def stQ(n:Nat)(k:Int)(r:SR3):Prop:=∃(L:List Int) (a' c':Int),L.length=n/\(∀w∈L,1<=w/\w<=73786976294838206464)/\jt [true,false] r=.ok (.new (liV L)) [fdV a' c' k]
def AI(a c k:Int){n:Nat}(h1:1<=n)(h40:n<=40):∃(L:List Int) (a' c':Int),L.length=n/\(∀w∈L,1<=w/\w<=73786976294838206464)/\dW.G [fdV a c k,.int (n:Nat)]=.ok (.new (liV L)) [fdV a' c' k]:=by
 unfold dW;rw[pq rfl];show stQ n k (gZ.G [.mu (fdV a c k),.sh (.int (n:Nat)),.no,.no]);unfold gZ;obtain⟨r,a0,c0,e0,r0,r1⟩:=aA (a:=a) (b:=c) (k:=k) (m:=9) (by decide) (sm8 (by decide));refine aE (λe=>e=[.mu (fdV a0 c0 k),.sh (.int (n:Nat)),.ow (liV [1+r]),.no]) ⟨_,by unfold liV;generalize fdV a c k=f0 at *;generalize fdV a0 c0 k=f1 at *;simp![e0,u_,LH],rfl⟩ ?_;rintro _ rfl;obtain⟨e1,p1,lo⟩:=ni (g:=(gtN 3).G) (B:=gB.G) (λi e=>∃(a c:Int) (L:List Int) (s3:Sl),L.length=i+1/\stL i L/\s3.pl=true/\e=[.mu (fdV a c k),.sh (.int (n:Nat)),.ow (liV L),s3]) (eS 1 (n-1)) 0 [.mu (fdV a0 c0 k),.sh (.int (n:Nat)),.ow (liV [1+r]),.no] ⟨a0,c0,[1+r],.no,rfl,λw hw=>by rw[L5.mp hw];show 1<=1+r/\2*(1+r)+1<=19;omega,rfl,rfl⟩ (by
  rintro j v hv _ ⟨a,c,L,s3,q1,q2,q3,rfl⟩;have hj:=J9 hv;rw[uG] at hj;rw[NS] at *;obtain⟨x,a1,c1,e1,x0,x1⟩:=aA (a:=a) (b:=c) (k:=k) (m:=3) (by decide) (sm8 (by decide));obtain⟨y,a2,c2,e2,y0,y1⟩:=aA (a:=a1) (b:=c1) (k:=k) (m:=2) (by decide) (sm8 (by decide));obtain⟨L',z,rfl⟩:∃L' z,L=L'++[z]:=⟨L.dropLast,L.getLast (λh=>by rw[h] at q1;cases q1),(M1 _).symm⟩;have hz:=q2 z (LJ _ (L5.mpr rfl));have a0:=Ea L' z;have mu:=He hz (by omega) x0 x1;have ll:((L'++[z]).map Val.int).length<16777216:=by rw[q_];omega
  refine⟨[.mu (fdV a c k),.sh (.int (n:Nat)),.ow (liV (L'++[z])),.sh v],[.mu (fdV a2 c2 k),.sh (.int (n:Nat)),.ow (liV ((L'++[z])++[z*(1+x)+y])),.sh v],?_,.inl ?_,a2,c2,_,_,?_,?_,rfl,rfl⟩
  .generalize liV (L'++[z])=lv at *;generalize fdV a c k=f0 at *;simp![q3]
  .unfold gB;unfold liV;rw[L_ (l₁:=L'++[z]),u_,LH];generalize (L'++[z]).map Val.int=lv at *;generalize fdV a c k=f0 at *;generalize fdV a1 c1 k=f1 at *;generalize fdV a2 c2 k=f2 at *;simp![e1,e2,a0,mu,ll]
  .rw[I_,q1];rfl
  .intro w hw;rcases Mm.mp hw with hw |hw
   .exact DH (q2 w hw)
   .rw[L5.mp hw];exact Jk hz x0 x1 y0 y1)
 rw[uG,NS] at p1;obtain⟨a1,c1,L,s3,q1,q2,q3,rfl⟩:=p1;have rg:=tQ (n:=n) (by omega);have hL:∀w∈L,1<=w/\w<=73786976294838206464:=λw hw=>⟨(q2 w hw).1,CY (q2 w hw) (by omega)⟩;refine aE (λe=>e=[.mu (fdV a1 c1 k),.sh (.int (n:Nat)),.ow (liV L),s3]) ⟨_,by generalize liV L=lv at *;generalize liV [1+r]=l0 at *;generalize fdV a0 c0 k=f0 at *;generalize fdV a1 c1 k=f1 at *;simp![rg,lo],rfl⟩ ?_;rintro _ rfl;obtain⟨e2,p2,lo2⟩:=ni (g:=(gtN 3).G) (B:=gA.G) (λi e=>∃(a c:Int) (L:List Int) (s3:Sl),L.length=n/\(∀w∈L,1<=w/\w<=73786976294838206464)/\s3.pl=true/\e=[.mu (fdV a c k),.sh (.int (n:Nat)),.ow (liV L),s3]) (rgV n) 0 [.mu (fdV a1 c1 k),.sh (.int (n:Nat)),.ow (liV L),s3] ⟨a1,c1,L,s3,by omega,hL,q3,rfl⟩ (by
  rintro j v hv _ ⟨a,c,L,s3,q1,q2,q3,rfl⟩;obtain⟨x,a1,c1,e1,x0,x1⟩:=aA (a:=a) (b:=c) (k:=k) (m:=(n:Nat)) (by omega) (sm8 (by omega));obtain⟨L',z,rfl⟩:∃L' z,L=L'++[z]:=⟨L.dropLast,L.getLast (λh=>by rw[h] at q1;simp at q1;omega),(M1 _).symm⟩;rw[I_,M_] at q1;have po:=jG (L'.map Val.int) (.int z);have ins:0<=x/\x<=((L'.map Val.int).length:Nat)/\(L'.map Val.int).length<16777216:=by rw[q_];omega
  have mi:=Af (L'.map Val.int) x (.int z);rw[if_pos ins] at mi;have el:(L'.map Val.int).take x.toNat++Val.int z::(L'.map Val.int).drop x.toNat=(L'.take x.toNat++z::L'.drop x.toNat).map Val.int:=by rw[L_,u_,MJ,MW]
  rw[el] at mi;refine⟨[.mu (fdV a c k),.sh (.int (n:Nat)),.ow (liV (L'++[z])),.sh v],[.mu (fdV a1 c1 k),.sh (.int (n:Nat)),.ow (liV (L'.take x.toNat++z::L'.drop x.toNat)),.sh v],?_,.inl ?_,a1,c1,_,_,?_,?_,rfl,rfl⟩
  .generalize liV (L'++[z])=lv at *;generalize fdV a c k=f0 at *;simp![q3]
  .unfold gA;unfold liV;rw[L_ (l₁:=L'),u_,LH];generalize (L'.take x.toNat++z::L'.drop x.toNat).map Val.int=l2 at *;generalize L'.map Val.int=lv at *;generalize fdV a c k=f0 at *;generalize fdV a1 c1 k=f1 at *;simp![e1,po,mi]
  .rw[I_,Em,LP,LR];omega
  .intro w hw;rcases Mm.mp hw with hw |hw
   .exact q2 w (My _ (L4 hw))
   .rcases G_.mp hw with rfl |hw
    .exact q2 _ (LJ _ (L5.mpr rfl))
    .exact q2 w (My _ (L7 hw)))
 obtain⟨a2,c2,L2,s32,q12,q22,q32,rfl⟩:=p2;have rg2:iZ [.int (n:Nat)]=some (rgV n):=nK (by omega);refine aE (λe=>e=[.mu (fdV a2 c2 k),.sh (.int (n:Nat)),.ow (liV L2),s32]) ⟨_,by generalize liV L=lv at *;generalize liV L2=l2 at *;generalize fdV a1 c1 k=f0 at *;generalize fdV a2 c2 k=f1 at *;simp![rg2,lo2],rfl⟩ ?_;rintro _ rfl;refine⟨L2,a2,c2,q12,q22,?_⟩;generalize liV L2=l2 at *;generalize fdV a2 c2 k=f1 at *;simp![oV]
structure Hld(r:Str)(b:Bx)(ws:List Int)(B:Rat)(bs:List Bx):Prop where
 bd:bI.G [.str r,bV b,liV ws]=.ok (.val (fV B)) []
 by_:bA.G [.str r,bV b,liV ws]=.ok (.new (.lst (bs.map bV))) []
 ne:bs≠[]
 fine:∀c∈bs,c.Ok/\c.Sz 3400
 len:bs.length<=1000
 le:∀c∈bs,aq c<=B
 sz:Sz 6800 B
def yH(p q:Rat):p<=q ↔ p.num*q.den<=q.num*p.den:=Rat.le_iff p q
def jU{p q:Rat}(hp:Sz 6800 p)(hq:Sz 6800 q):aC.G (.int p.num) (.int (q.den:Nat))=.val (.int (p.num*(q.den:Nat))):=aX (CMulA.of hp.top hq.bot (by decide) (by decide))
def Jx{qs:List Rat}{B:Rat}(h:∀q∈qs,Sz 6800 q/\q<=B)(hB:Sz 6800 B)(hl:qs.length<=1000):∃s,lcV (gtN 0).G qY.G (pOp bGt (pOp aC (pOp bIx (af 0) (ah 0)) (pOp bIx (af 1) (ah 1))) (pOp aC (pOp bIx (af 1) (ah 0)) (pOp bIx (af 0) (ah 1)))).G (qs.map fV) [] [.no,.sh (fV B)]=.ok (qs.map λ_=>Val.bl false) [s,.sh (fV B)]:=by
 obtain⟨e',⟨s,rfl,_⟩,lc⟩:=cp (g:=(gtN 0).G) (F:=(pOp bGt (pOp aC (pOp bIx (af 0) (ah 0)) (pOp bIx (af 1) (ah 1))) (pOp aC (pOp bIx (af 1) (ah 0)) (pOp bIx (af 0) (ah 1)))).G) fV (λ_=>Val.bl false) (λe=>∃s:Sl,e=[s,.sh (fV B)]/\s.pl=true) qs [] [.no,.sh (fV B)] ⟨.no,rfl,rfl⟩ (by
  rintro q hq _ ⟨s,rfl,hs⟩;obtain⟨h1,h2⟩:=h q hq;have c1:=jU h1 hB;have c2:=jU hB h1;have d:decide (B.num*(q.den:Int)<q.num*(B.den:Int))=false:=H_ (λz=>by have:=(yH q B).mp h2;omega);refine⟨[.sh (fV q),.sh (fV B)],.val (.bl false),[.sh (fV q),.sh (fV B)],?_,?_,rfl,_,rfl,rfl⟩
  .simp![hs]
  .rw[show fV q=.tup [.int q.num,.int q.den] from rfl,show fV B=.tup [.int B.num,.int B.den] from rfl];simp![c1,c2,d]) (by rw[LD];omega)
 exact⟨s,lc⟩
def Jt{qs:List Rat}{B:Rat}(h:∀q∈qs,Sz 6800 q/\q<=B)(hB:Sz 6800 B)(hl:qs.length<=1000):∃s,lcV (gtN 0).G qY.G (pOp bLe (pOp aC (pOp bIx (af 0) (ah 0)) (pOp bIx (af 1) (ah 1))) (pOp aC (pOp bIx (af 1) (ah 0)) (pOp bIx (af 0) (ah 1)))).G (qs.map fV) [] [.no,.sh (fV B)]=.ok (qs.map λ_=>Val.bl true) [s,.sh (fV B)]:=by
 obtain⟨e',⟨s,rfl,_⟩,lc⟩:=cp (g:=(gtN 0).G) (F:=(pOp bLe (pOp aC (pOp bIx (af 0) (ah 0)) (pOp bIx (af 1) (ah 1))) (pOp aC (pOp bIx (af 1) (ah 0)) (pOp bIx (af 0) (ah 1)))).G) fV (λ_=>Val.bl true) (λe=>∃s:Sl,e=[s,.sh (fV B)]/\s.pl=true) qs [] [.no,.sh (fV B)] ⟨.no,rfl,rfl⟩ (by
  rintro q hq _ ⟨s,rfl,hs⟩;obtain⟨h1,h2⟩:=h q hq;have c1:=jU h1 hB;have c2:=jU hB h1;have d:=K_ ((yH q B).mp h2);refine⟨[.sh (fV q),.sh (fV B)],.val (.bl true),[.sh (fV q),.sh (fV B)],?_,?_,rfl,_,rfl,rfl⟩
  .simp![hs]
  .rw[show fV q=.tup [.int q.num,.int q.den] from rfl,show fV B=.tup [.int B.num,.int B.den] from rfl];simp![c1,c2,d]) (by rw[LD];omega)
 exact⟨s,lc⟩
theorem v8{α:Type}(v:Bool):∀l:List α,fg (l.map λ_=>Val.bl v)=some (l.map λ_=>v)
 | []=>rfl
 |a::l=>by rw[u_,fg,v8 v l];rfl
theorem Ct{α:Type}:∀l:List α,(l.map λ_=>false).any id=false
 | []=>rfl
 |_::l=>Ct l
theorem CC{α:Type}:∀l:List α,(l.map λ_=>true).all id=true
 | []=>rfl
 |_::l=>CC l
def G5{α:Type}(l:List α):pf.G [.lst (l.map λ_=>Val.bl false)]=.val (.bl false):=by rw[JG,v8];dsimp only;rw[Ct]
def EC{α:Type}(l:List α):iS.G [.lst (l.map λ_=>Val.bl true)]=.val (.bl true):=by rw[CM,v8];dsimp only;rw[CC]
def Kr(q:Rat)(i:Int):bo (.tup [fV q,.int i]) (.tup [fV q,.int i])=some true:=by have:wfV 60 (.tup [fV q,.int i])=true:=rfl;rw[CG this this,tW 60 _ this]
def jX{r:Str}{b:Bx}{ws:List Int}{B:Rat}{bs:List Bx}(h:Hld r b ws B bs){x0 x1 x5 x6 x7 x8 x9 x10:Sl}(h5:x5.pl=true)(h6:x6.pl=true)(h7:x7.pl=true):jq.G [x0,x1,.sh (bV b),.sh (liV ws),.sh (.str r),x5,x6,x7,x8,x9,x10]=.nx [x0,x1,.sh (bV b),.sh (liV ws),.sh (.str r),.sh (fV B),.sh (.lst (bs.map bV)),.sh (.lst ((bs.map aq).map fV)),x8,x9,x10]:=by
 have q1:bs.map aq≠[]:=λz=>h.ne (NK.mp z);have q2:∀q∈bs.map aq,Sz 6800 q:=λq hq=>by obtain⟨c,hc,rfl⟩:=LN.mp hq;exact gK (h.fine c hc).1 (h.fine c hc).2
 have q3:∀q∈bs.map aq,Sz 6800 q/\q<=B:=λq hq=>⟨q2 q hq,by obtain⟨c,hc,rfl⟩:=LN.mp hq;exact h.le c hc⟩;have bl:=h.len;obtain⟨s,lc⟩:=rD (P:=aU) (bs:=bs) (λc hc=>gu (h.fine c hc).1 (h.fine c hc).2 (by decide)) rfl h.len;obtain⟨e',lc2⟩:=Jx q3 h.sz (by rw[q_];omega);have an:=G5 (bs.map aq);have lm:=ke (by decide) q1 q2;obtain⟨i,ix,wo⟩:=p7 h.ne h.fine h.len;have sl:((bs.map aq).map fV).length<=16777216:=by rw[q_,q_];omega
 have sl2:((bs.map aq).map λ_=>Val.bl false).length<=16777216:=by rw[q_,q_];omega
 have e1:=h.bd;have e2:=h.by_;have ef:=Kr (mxL (bs.map aq)) i;have fl1:L3.flatV (fV (mxL (bs.map aq)))=true:=rfl;unfold jq;generalize (bs.map aq).map (λ_=>Val.bl false)=bv2 at *;generalize (bs.map aq).map fV=sv at *;generalize fV (mxL (bs.map aq))=mv at *;generalize fV B=Bv' at *;generalize bs.map bV=pv at *;generalize liV ws=wv at *;generalize bV b=bv at *;simp![h5,h6,h7,e1,e2,lc,sl,lc2,sl2,an,wo,lm,ix,ef,fl1]
def jT{L:List Int}{i:Nat}(h:i<L.length):L.getD i 0∈L:=by rw[E_,x_ h];exact Mo _
def B9{L:List Int}{i:Nat}{z:Int}(h:i<L.length)(hz:z=(i:Nat)):atI (L.map Val.int) z=some (.int (L.getD i 0)):=by subst hz;refine dm (by omega) ?_;rw[LL];show (L[i]?).map _=_;rw[E_,x_ h];rfl
def GP{p:Int×Int}(L:List Int)(h:p∈thL L.reverse):∃j,j+1<L.length/\p=(L.getD (j+1) 0,L.getD j 0):=by obtain⟨i,hi,e⟩:=Oj.mp h;unfold thL at hi e;rw[List.length_zip,LR,OA] at hi;rw[List.getElem_zip,List.getElem_drop,List.getElem_reverse,List.getElem_reverse] at e;refine⟨L.length-1-(1+i),by omega,?_⟩;rw[<- e,E_,E_,x_ (by omega),x_ (by omega)];simp only[Option.getD_some,show L.length-1-(1+i)+1=L.length-1-i by omega]
noncomputable def stp (L:List Int) (j:Nat):Int:=L.getD (j+1) 0/L.getD j 0+1
def Jy{L:List Int}(hL:∀w∈L,1<=w/\w<=1000000000000000000000000000000)(hl:L.length<=40):∃s,lcV (gtN 0).G qY.G (pOp aF (pOp eN (pOp bIx (af 1) (af 0)) (pOp bIx (af 1) (pOp c7 (af 0) (ah 1)))) (ah 1)).G (eS 1 (L.length-1)) [] [.no,.sh (liV L)]=.ok (((List.range (L.length-1)).map (stp L)).map Val.int) [s,.sh (liV L)]:=by
 obtain⟨e',⟨s,rfl,_⟩,lc⟩:=cp (g:=(gtN 0).G) (F:=(pOp aF (pOp eN (pOp bIx (af 1) (af 0)) (pOp bIx (af 1) (pOp c7 (af 0) (ah 1)))) (ah 1)).G) (λj:Nat=>Val.int (1+(j:Nat))) (λj=>Val.int (stp L j)) (λe=>∃s:Sl,e=[s,.sh (liV L)]/\s.pl=true) (List.range (L.length-1)) [] [.no,.sh (liV L)] ⟨.no,rfl,rfl⟩ (by
  rintro j hj _ ⟨s,rfl,hs⟩;have hj:=LC.mp hj;have a1:=B9 (L:=L) (i:=j+1) (z:=1+(j:Nat)) (by omega) (by omega);have a2:=B9 (L:=L) (i:=j) (z:=1+(j:Nat)-1) (by omega) (by omega);have b1:=hL _ (jT (L:=L) (i:=j) (by omega));have b2:=hL _ (jT (L:=L) (i:=j+1) (by omega));have dv:eN.G (.int (L.getD (j+1) 0)) (.int (L.getD j 0))=.val (.int (L.getD (j+1) 0/L.getD j 0)):=by rw[iP (CDivB.of (by omega) ((wm (by omega) (by omega)).mono (by decide))),Int.fdiv_eq_ediv_of_nonneg _ (by omega)]
  unfold stp;refine⟨[.sh (.int (1+(j:Nat))),.sh (liV L)],.val (.int (L.getD (j+1) 0/L.getD j 0+1)),[.sh (.int (1+(j:Nat))),.sh (liV L)],?_,?_,rfl,_,rfl,rfl⟩
  .generalize liV L=lv at *;simp![hs]
  .unfold liV;generalize L.map Val.int=lv at *;simp![a1,a2,dv]) (by rw[LD,z_];omega)
 refine⟨s,?_⟩;rw[Ep,MF];exact lc
noncomputable def stM (ws:List Int):Int:=mxI (1::(List.range (ws.length-1)).map (stp (srI ws)))
def GY{ws:List Int}(W:WOk ws):(1<=stM ws/\stM ws<=1000000000000000000000000000001)/\∀p∈thL (srI ws).reverse,thQ p<=((1+stM ws:Int):Rat):=by
 have sl:(srI ws).length=ws.length:=(bT ws).length_eq;have hin:∀x,x∈srI ws->1<=x/\x<=1000000000000000000000000000000:=λx hx=>W.wt x ((bT ws).mem_iff.mp hx);refine⟨⟨qP (s_ ..),?_⟩,λp hp=>?_⟩
 .have:=uF (l:=1::(List.range (ws.length-1)).map (stp (srI ws))) (by simp)
  rw[show mxI (1::(List.range (ws.length-1)).map (stp (srI ws)))=stM ws from rfl] at this;rcases G_.mp this with e |e
  .omega
  .obtain⟨j,hj,e⟩:=LN.mp e;have hj:=LC.mp hj;have b1:=hin _ (jT (L:=srI ws) (i:=j) (by omega));have b2:=hin _ (jT (L:=srI ws) (i:=j+1) (by omega));rw[<- e];unfold stp
   have:=Int.ediv_le_self (b:=(srI ws).getD j 0) (a:=(srI ws).getD (j+1) 0) (by omega)
   omega
 .obtain⟨j,hj,rfl⟩:=GP _ hp;have b1:=hin _ (jT (L:=srI ws) (i:=j) (by omega));have b2:=hin _ (jT (L:=srI ws) (i:=j+1) (by omega));have m:stp (srI ws) j<=stM ws:=qP (r_ _ (Nj (LC.mpr (by omega))));unfold stp at m;unfold thQ;dsimp only;generalize (srI ws).getD (j+1) 0=a at *;generalize (srI ws).getD j 0=d at *;have h1:=Int.mul_ediv_add_emod a d;have h2:=Int.emod_lt_of_pos a (show 0<d by omega);have h3:a+d<=(1+stM ws)*d:=by
   have h4:(a/d+1+1)*d<=(1+stM ws)*d:=Nq (by omega) (by omega);have h5:(a/d+1+1)*d=d*(a/d)+d+d:=by rw[Int.add_mul,Int.add_mul,NB,Int.one_mul]
   omega
  refine Mu.mp λz=>?_;have z2:=(NF (gC (show 0<d by omega))).mp z;have h6:=eR h3;rw[Mf] at h6;exact Mu.mpr h6 z2
noncomputable def kQ (b:Bx) (ws:List Int):Rat:=mxL [aq b,3,((1+stM ws:Int):Rat)]
def CS{z:Int}(h0:0<=z)(h:z<=2000000000000000000000000000000):Sz 6800 ((z:Int):Rat):=by
 have:=(wm h0 h).mono (show 104<=6800 by decide)
 exact⟨by rw[Rat.num_intCast];exact this,by rw[Rat.den_intCast];exact LA (show 1<2^1 by decide) (L8 (by decide) (by decide))⟩
def FL{b:Bx}{ws:List Int}(g:Good b)(W:WOk ws):([aq b,3,((1+stM ws:Int):Rat)]≠[])/\(∀q∈[aq b,3,((1+stM ws:Int):Rat)],Sz 6800 q)/\bTh b ws<=kQ b ws:=by
 obtain⟨⟨s1,s2⟩,s3⟩:=GY W;obtain⟨_,mu⟩:=eI (p:=[aq b,3,((1+stM ws:Int):Rat)]) (by simp);obtain⟨me,_⟩:=eI (p:=[aq b,3]++(thL (srI ws).reverse).map thQ) (by simp);refine⟨by simp,λq hq=>?_,?_⟩
 .simp only[G_,Ng,or_false] at hq;rcases hq with rfl |rfl |rfl
  .exact gK g.ok (gh g W)
  .exact CS (z:=3) (by decide) (by decide)
  .exact CS (by omega) (by omega)
 .unfold bTh kQ;rcases Mm.mp me with h |h
  .simp only[G_,Ng,or_false] at h;rcases h with h |h <;> rw[h] <;> exact mu _ (by simp)
  .obtain⟨p,hp,e⟩:=LN.mp h;rw[<- e];exact Ni (s3 p hp) (mu _ (by simp))
def h_th{b:Bx}{ws:List Int}(g:Good b)(W:WOk ws):Hld "thirds" b ws (bTh b ws) (bsO ws (tT b ws) b):=by have wp:=W.pos;have wl:=W.len;have bl:=uo ws (tT b ws) b;have T:=CA g W;have q:=xo (l:=thL (srI ws).reverse) g.ok (gh g W) W.one λp hp=>⟨(bT ws).mem_iff.mp (List.mem_reverse.mp (lH hp).1),(bT ws).mem_iff.mp (List.mem_reverse.mp (lH hp).2)⟩;exact⟨AF g W,CQ g W (GN T.1) T.2,λz=>by rw[z,LD] at bl;omega,pH g W T.2,by omega,Ib g W,q.2 _ (eI q.1).1⟩
def h_hv{b:Bx}{ws:List Int}(g:Good b)(W:WOk ws):Hld "halves" b ws (bHv b ws) (bsO ws (tH b ws) b):=by have wp:=W.pos;have wl:=W.len;have bl:=uo ws (tH b ws) b;have T:=CW g W;have q:=CZ g W;exact⟨zC g W,CQ g W (Gz T.1) T.2,λz=>by rw[z,LD] at bl;omega,pH g W T.2,by omega,Fd g W,q.2.1 _ (eI q.1).1⟩
def h_wy{b:Bx}{ws:List Int}(w:Bool)(g:Good b)(W:WOk ws):Hld (wy w) b ws (bWy w b ws) (ay b (wy w) ws):=by obtain⟨⟨p0,p1⟩,p2,q1,q2⟩:=tR w g W;have mu:=eI q1;exact⟨AN w g W,C0 w g W,p0,p1,p2,λc hc=>mu.2 _ (Nj hc),q2 _ mu.1⟩
def Dz{b:Bx}{ws:List Int}(g:Good b)(W:WOk ws){x0 x1:Sl}:∃s5 s6 s7:Sl,s5.pl=true/\s6.pl=true/\s7.pl=true/\dk (gtN 4).G jq.G [.str "thirds",.str "halves",.str "across",.str "down"] [x0,x1,.sh (bV b),.sh (liV ws),.no,.no,.no,.no,.no,.no,.no]=.nx [x0,x1,.sh (bV b),.sh (liV ws),.sh (.str "down"),s5,s6,s7,.no,.no,.no]:=by have k1:=jX (x0:=x0) (x1:=x1) (x5:=.no) (x6:=.no) (x7:=.no) (x8:=.no) (x9:=.no) (x10:=.no) (h_th g W) rfl rfl rfl;generalize hv1:((bsO ws (tT b ws) b).map aq).map fV=v1 at *;generalize hu1:(bsO ws (tT b ws) b).map bV=u1 at *;generalize fV (bTh b ws)=t1 at *;have k2:=jX (x0:=x0) (x1:=x1) (x5:=.sh t1) (x6:=.sh (.lst u1)) (x7:=.sh (.lst v1)) (x8:=.no) (x9:=.no) (x10:=.no) (h_hv g W) rfl rfl rfl;generalize hv2:((bsO ws (tH b ws) b).map aq).map fV=v2 at *;generalize hu2:(bsO ws (tH b ws) b).map bV=u2 at *;generalize fV (bHv b ws)=t2 at *;have k3:=jX (x0:=x0) (x1:=x1) (x5:=.sh t2) (x6:=.sh (.lst u2)) (x7:=.sh (.lst v2)) (x8:=.no) (x9:=.no) (x10:=.no) (h_wy true g W) rfl rfl rfl;generalize hv3:((ay b (wy true) ws).map aq).map fV=v3 at *;generalize hu3:(ay b (wy true) ws).map bV=u3 at *;generalize fV (bWy true b ws)=t3 at *;have k4:=jX (x0:=x0) (x1:=x1) (x5:=.sh t3) (x6:=.sh (.lst u3)) (x7:=.sh (.lst v3)) (x8:=.no) (x9:=.no) (x10:=.no) (h_wy false g W) rfl rfl rfl;generalize hv4:((ay b (wy false) ws).map aq).map fV=v4 at *;generalize hu4:(ay b (wy false) ws).map bV=u4 at *;generalize fV (bWy false b ws)=t4 at *;rw[show wy true="across" from rfl] at k3;rw[show wy false="down" from rfl] at k4;clear hv1 hv2 hv3 hv4 hu1 hu2 hu3 hu4;refine⟨.sh t4,.sh (.lst u4),.sh (.lst v4),rfl,rfl,rfl,?_⟩;generalize liV ws=wv at *;generalize bV b=bv at *;simp![c8,fh,k1,k2,k3,k4]
def IA{r:Int}:∃m:Int,1<=m/\m<=40/\atI [Val.int 9,.int 40] (if (r==0)=true then 1 else 0)=some (.int m):=by
 by_cases h:r=0
 .exact⟨40,by decide,by decide,by rw[h];exact dm (by decide) rfl⟩
 .have e:(r==0)=false:=by rw[J_];exact h
  exact⟨9,by decide,by decide,by rw[e];exact dm (by decide) rfl⟩
def BW(r:SR3):Prop:=jt [false] r=.ok (.val (.bl true)) []
def HG{b:Bx}{ws:List Int}(g:Good b)(W:WOk ws)(x0 x1:Sl):BW ((aj (fB (bB (cm (aa (aZ "thirds") (aa (aZ "halves") (aa (aZ "across") (aa (aZ "down") ag)))))) (gtN 4) (jq))
 (aj (ar false 8 (pFn iX (aa (af 3) ag)))
 (aj (ar false 9 (pFn lI (aa (pOp aF (cm (aa (ah 1) ag)) (pLC (j8 (aa (ah 1) (aa (pFn bK (aa (af 8) ag)) ag))) [none,some 8] (by decide) (gtN 0) qY (pOp aF (pOp eN (pOp bIx (af 1) (af 0)) (pOp bIx (af 1) (pOp c7 (af 0) (ah 1)))) (ah 1)))) ag)))
 (aj (ar false 10 (ai cI (aa (cm (aa (ai aU (aa (af 2) ag)) (aa (ba (aa (ah 3) (aa (ah 1) ag))) (aa (ba (aa (pOp aF (ah 1) (af 9)) (aa (ah 1) ag))) ag)))) ag)))
 (aj (ar false 7 (pLC (bB (ai bA (aa (aZ "thirds") (aa (af 2) (aa (af 3) ag))))) [none] (by decide) (gtN 0) qY (ai aU (aa (af 0) ag))))
 (aw (pFn iS (aa (pLC (bB (af 7)) [none,some 10] (by decide) (gtN 0) qY (pOp bLe (pOp aC (pOp bIx (af 0) (ah 0)) (pOp bIx (af 1) (ah 1))) (pOp aC (pOp bIx (af 1) (ah 0)) (pOp bIx (af 0) (ah 1))))) ag)))))))).G [x0,x1,.sh (bV b),.sh (liV ws),.no,.no,.no,.no,.no,.no,.no]):=by
 obtain⟨s5,s6,s7,h5,h6,h7,lo⟩:=Dz (x0:=x0) (x1:=x1) g W;refine aE (λe=>e=[x0,x1,.sh (bV b),.sh (liV ws),.sh (.str "down"),s5,s6,s7,.no,.no,.no]) ⟨_,by generalize liV ws=wv at *;generalize bV b=bv at *;simp![lo],rfl⟩ ?_;rintro _ rfl;have wl:=W.len;have wp:=W.pos;have sl:(srI ws).length=ws.length:=(bT ws).length_eq;have ks:=zI ws (by omega);refine aE (λe=>e=[x0,x1,.sh (bV b),.sh (liV ws),.sh (.str "down"),s5,s6,s7,.sh (liV (srI ws)),.no,.no]) ⟨_,by unfold liV;generalize (srI ws).map Val.int=lv at *;generalize ws.map Val.int=wv at *;generalize bV b=bv at *;simp![ks],rfl⟩ ?_;rintro _ rfl;obtain⟨e',lc⟩:=Jy (L:=srI ws) (λx hx=>W.wt x ((bT ws).mem_iff.mp hx)) (by omega);rw[sl] at lc;have rg:=tQ (n:=ws.length) (by omega);have ll:(((srI ws).map Val.int).length:Nat)=ws.length:=by rw[q_,sl]
 have mx:=HF (ns:=1::(List.range (ws.length-1)).map (stp (srI ws))) (by simp);rw[show mxI (1::(List.range (ws.length-1)).map (stp (srI ws)))=stM ws from rfl,u_] at mx;have l2:(((List.range (ws.length-1)).map (stp (srI ws))).map Val.int).length<=16777215:=by rw[q_,q_,z_];omega
 refine aE (λe=>e=[x0,x1,.sh (bV b),.sh (liV ws),.sh (.str "down"),s5,s6,s7,.sh (liV (srI ws)),.sh (.int (stM ws)),.no]) ⟨_,by
  unfold liV at *;generalize ((List.range (ws.length-1)).map (stp (srI ws))).map Val.int=sv at *;generalize (srI ws).map Val.int=lv at *;generalize ws.map Val.int=wv at *;generalize bV b=bv at *;have l3:sv.length<=16777216:=by omega
  have l4:1+sv.length<=16777216:=by omega
  simp![ll,rg,lc,l3,l4,mx],rfl⟩ ?_
 rintro _ rfl;obtain⟨f1,f2,f3⟩:=FL g W;have sh:=gu g.ok (gh g W) (by decide);have lm:=ke (by decide) f1 f2;rw[show mxL [aq b,3,((1+stM ws:Int):Rat)]=kQ b ws from rfl,u_,u_,u_,LH,show fV 3=.tup [.int 3,.int 1] from rfl,<- iV] at lm;refine aE (λe=>e=[x0,x1,.sh (bV b),.sh (liV ws),.sh (.str "down"),s5,s6,s7,.sh (liV (srI ws)),.sh (.int (stM ws)),.sh (fV (kQ b ws))]) ⟨_,by generalize liV (srI ws)=lv at *;generalize liV ws=wv at *;generalize bV b=bv at *;generalize fV (aq b)=sq at *;generalize fV (kQ b ws)=fq at *;simp![sh,lm],rfl⟩ ?_;rintro _ rfl;have hh:=h_th g W;obtain⟨s,lc1⟩:=rD (P:=aU) (bs:=bsO ws (tT b ws) b) (λc hc=>gu (hh.fine c hc).1 (hh.fine c hc).2 (by decide)) rfl hh.len;have bl:=hh.len;have q3:∀q∈(bsO ws (tT b ws) b).map aq,Sz 6800 q/\q<=kQ b ws:=λq hq=>by obtain⟨c,hc,rfl⟩:=LN.mp hq;exact⟨gK (hh.fine c hc).1 (hh.fine c hc).2,Ni (hh.le c hc) f3⟩
 obtain⟨e2,lc2⟩:=Jt q3 (f2 _ (eI f1).1) (by rw[q_];omega);have al:=EC ((bsO ws (tT b ws) b).map aq);have sl1:(((bsO ws (tT b ws) b).map aq).map fV).length<=16777216:=by rw[q_,q_];omega
 have sl2:(((bsO ws (tT b ws) b).map aq).map λ_=>Val.bl true).length<=16777216:=by rw[q_,q_];omega
 have eb:=hh.by_;unfold BW;generalize ((bsO ws (tT b ws) b).map aq).map (λ_=>Val.bl true)=bv2 at *;generalize ((bsO ws (tT b ws) b).map aq).map fV=sv at *;generalize (bsO ws (tT b ws) b).map bV=pv at *;generalize liV (srI ws)=lv at *;generalize liV ws=wv at *;generalize bV b=bv at *;generalize fV (kQ b ws)=fq at *;simp![h7,eb,lc1,sl1,lc2,sl2,al,oV]
def F9(ns:List Int)(hl:ns.length<=63):oY.G [.kl (ns.map .int)]=.ok (.val (.bl true)) []:=by
 unfold oY;rw[pq rfl];show BW (vt.G [.sh (.kl (ns.map .int)),.no,.no,.no,.no,.no,.no,.no,.no,.no,.no]);unfold vt;obtain⟨a,e0⟩:=nh (ns:=ns) (k:=55) (by omega);refine aE (λe=>e=[.sh (.kl (ns.map .int)),.ow (fdV a 0 55),.no,.no,.no,.no,.no,.no,.no,.no,.no]) ⟨_,by simp![e0],rfl⟩ ?_;rintro _ rfl;obtain⟨b,a1,c1,g,e1⟩:=Eo a 0 55;refine aE (λe=>e=[.sh (.kl (ns.map .int)),.ow (fdV a1 c1 55),.sh (bV b),.no,.no,.no,.no,.no,.no,.no,.no]) ⟨_,by simp![e1],rfl⟩ ?_;rintro _ rfl;obtain⟨r,a2,c2,e2,_,_⟩:=aA (a:=a1) (b:=c1) (k:=55) (m:=6) (by decide) (sm8 (by decide));obtain⟨m,m1,m2,pm⟩:=IA (r:=r);obtain⟨ws,p1,p2,p3,p4,p5⟩:=uX (ns:=ns) (at_:=0) (most:=m) (by decide) ⟨m1,m2⟩;have W:WOk ws:=⟨p1,by omega,p3,λh w hw=>by have:=p4 (by omega) w hw;omega⟩;refine aE (λe=>e=[.sh (.kl (ns.map .int)),.ow (fdV a2 c2 55),.sh (bV b),.sh (liV ws),.no,.no,.no,.no,.no,.no,.no]) ⟨_,by generalize liV ws=wv at *;generalize bV b=bv at *;generalize fdV a1 c1 55=f1 at *;generalize fdV a2 c2 55=f2 at *;simp![e2,pm,p5],rfl⟩ ?_;rintro _ rfl;obtain⟨r3,a3,c3,e3,_,_⟩:=aA (a:=a2) (b:=c2) (k:=55) (m:=2) (by decide) (sm8 (by decide));refine aE (λe=>∃(a c:Int) (ws:List Int),WOk ws/\e=[.sh (.kl (ns.map .int)),.ow (fdV a c 55),.sh (bV b),.sh (liV ws),.no,.no,.no,.no,.no,.no,.no]) ?_ ?_
 .by_cases hr:r3=0
  .obtain⟨L,a4,c4,l1,l2,e4⟩:=AI a3 c3 55 (n:=ws.length) p1 W.len;have ll:((ws.map Val.int).length:Nat)=ws.length:=q_ ..;have z:(r3==0)=true:=by rw[hr];rfl
   refine⟨_,?_,a4,c4,L,⟨by omega,by have:=W.len;omega,λw hw=>⟨(l2 w hw).1,by have:=(l2 w hw).2;omega⟩,λ_ w hw=>(l2 w hw).2⟩,rfl⟩;unfold liV at *;generalize L.map Val.int=lv at *;generalize ws.map Val.int=wv at *;generalize bV b=bv at *;generalize fdV a2 c2 55=f2 at *;generalize fdV a3 c3 55=f3 at *;generalize fdV a4 c4 55=f4 at *;simp![e3,z,ll,e4]
  .have z:(r3==0)=false:=by rw[J_];exact hr
   refine⟨_,?_,a3,c3,ws,W,rfl⟩;generalize liV ws=wv at *;generalize bV b=bv at *;generalize fdV a2 c2 55=f2 at *;generalize fdV a3 c3 55=f3 at *;simp![e3,z]
 rintro _ ⟨a,c,ws,W,rfl⟩;exact HG g W _ _
end KK
namespace PySem.W.Fast
def q__:=trivial
def tw10036482013831688373:=q__
def tw10052966464147955949:=q__
def tw10073582966842207731:=q__
def tw1008175939377907769:=q__
def tw10123023969173124001:=q__
def tw10141011638451666137:=q__
def tw10161424877983618577:=q__
def tw10226036899177219871:=q__
def tw10236467460910442754:=q__
def tw10308836594079332605:=q__
def tw1031683378766844305:=q__
def tw10326740089901306666:=q__
def tw10375141927053039759:=q__
def tw10381736192293929567:=q__
def tw10462435292872715454:=q__
def tw10462923091229697243:=q__
def tw10535434103027703326:=q__
def tw10543000097735903558:=q__
def tw10550194073537097816:=q__
def tw10562307390277903537:=q__
def tw10571128224340144817:=q__
def tw10590594921073556989:=q__
def tw10608034508168792092:=q__
def tw1064063743540046088:=q__
def tw10680327669374442165:=q__
def tw10719770329189002538:=q__
def tw10867938136894465951:=q__
def tw1088453136967239484:=q__
def tw10925714640210672020:=q__
def tw10959360008368299613:=q__
def tw10993017582825895820:=q__
def tw11022361051787359084:=q__
def tw11084970513855755183:=q__
def tw11146752450917072343:=q__
def tw11263782452989689895:=q__
def tw11274871466206757474:=q__
def tw11318129633474369654:=q__
def tw11327660872126744802:=q__
def tw11331332939066281089:=q__
def tw11391378773312588722:=q__
def tw11569927813081162183:=q__
def tw11572755860929675823:=q__
def tw11583133582304479338:=q__
def tw11634700608370460743:=q__
def tw11636833314510758279:=q__
def tw11664862213833567644:=q__
def tw11854444250466125481:=q__
def tw1188674921004586268:=q__
def tw11929570744375877877:=q__
def tw11962115129481740829:=q__
def tw119941326745712977:=q__
def tw12006100589227883371:=q__
def tw12043124566692304386:=q__
def tw12159964174000262519:=q__
def tw1226447487617782895:=q__
def tw12309814300344625340:=q__
def tw12322875530679932106:=q__
def tw12324616608611124475:=q__
def tw12328504725440776744:=q__
def tw1237387571451631979:=q__
def tw12390224130821556763:=q__
def tw12463317368061509955:=q__
def tw12557902104864543978:=q__
def tw12631309602865338670:=q__
def tw12702100822388462997:=q__
def tw12713045020463044938:=q__
def tw12713601782663709640:=q__
def tw12720924162063806402:=q__
def tw12790408672629868096:=q__
def tw12793364052254399677:=q__
def tw1290960563043569560:=q__
def tw13011851271817038434:=q__
def tw13100679802486281078:=q__
def tw13123180264322239293:=q__
def tw13148754188546563994:=q__
def tw13200503699660453796:=q__
def tw13230486647005225843:=q__
def tw13346355138106993963:=q__
def tw13353237800624523051:=q__
def tw13420395359297821815:=q__
def tw1342471505718089020:=q__
def tw13525849711329753388:=q__
def tw13543256796097022550:=q__
def tw13555449711557089345:=q__
def tw13557328624597036023:=q__
def tw1364621693110583246:=q__
def tw13674407756879790249:=q__
def tw13687319932521602857:=q__
def tw13732524798445187439:=q__
def tw13764979261873415636:=q__
def tw13807188956766113276:=q__
def tw13846100123448040929:=q__
def tw13889510760981450060:=q__
def tw13925492509967576887:=q__
def tw13995160907159683066:=q__
def tw13996590430266382888:=q__
def tw14161189026224028753:=q__
def tw14210386110727500165:=q__
def tw1423008891679854518:=q__
def tw14324696327382373090:=q__
def tw14369985192040353525:=q__
def tw14388279698742161184:=q__
def tw14391305898700193875:=q__
def tw14403079366091272481:=q__
def tw14405672504638212476:=q__
def tw14428459652471069820:=q__
def tw1443836628403603172:=q__
def tw14500589245654004306:=q__
def tw14563657581526807044:=q__
def tw14574338376753872099:=q__
def tw14578034135776974490:=q__
def tw14627169646712711082:=q__
def tw14652512696238317836:=q__
def tw14655094906445436328:=q__
def tw14679030133883366691:=q__
def tw14705338562831706971:=q__
def tw14745355726113593438:=q__
def tw1477096159977466897:=q__
def tw14773214175226715691:=q__
def tw14822692492340491571:=q__
def tw14827672571592658421:=q__
def tw14858995113888828305:=q__
def tw14923728578089106149:=q__
def tw14994182916008810515:=q__
def tw15040393717215045346:=q__
def tw15044236294628078200:=q__
def tw15087576360211524311:=q__
def tw15179292634606381469:=q__
def tw15198744990294094887:=q__
def tw15206639267575750157:=q__
def tw15210106304221551867:=q__
def tw15248652859655017632:=q__
def tw15263928924849163891:=q__
def tw15290610637856063132:=q__
def tw15307525724669949045:=q__
def tw15315425981599721515:=q__
def tw15323845630566774610:=q__
def tw15325884350504483876:=q__
def tw15350926878051575935:=q__
def tw15383560794361242426:=q__
def tw15402032114121305321:=q__
def tw15421133219016648212:=q__
def tw15429685985206539886:=q__
def tw15436432012162937953:=q__
def tw15443284447098106966:=q__
def tw15453747542531525118:=q__
def tw15489888729748687315:=q__
def tw15518398663729228971:=q__
def tw1557152011595867083:=q__
def tw15574239903493669208:=q__
def tw15590586891896486448:=q__
def tw15610337755194894672:=q__
def tw15646340387040395455:=q__
def tw15650227292035917068:=q__
def tw15677620049761433824:=q__
def tw15694243991513989271:=q__
def tw15712348369439930245:=q__
def tw1573927832847011353:=q__
def tw157707989671987126:=q__
def tw158030602180806069:=q__
def tw15810067496648321383:=q__
def tw15950108104735421935:=q__
def tw15979636983442928018:=q__
def tw16017796012855242532:=q__
def tw16021253443494274678:=q__
def tw1608776802002780176:=q__
def tw1609291452223757033:=q__
def tw16199448402747234454:=q__
def tw16212402318741272088:=q__
def tw16219222158121066336:=q__
def tw16245490544314008995:=q__
def tw16250614215001478218:=q__
def tw16289299847973148316:=q__
def tw16322832858987279232:=q__
def tw16358158704106542530:=q__
def tw16404268926943409655:=q__
def tw16485148186436024082:=q__
def tw16535716870117372911:=q__
def tw16567322148800047053:=q__
def tw16744590343495718343:=q__
def tw16798933613836129272:=q__
def tw16825267881061985062:=q__
def tw16928646618631913575:=q__
def tw16949420036512153857:=q__
def tw16960633531706666994:=q__
def tw169648553926528514:=q__
def tw16969617274277916428:=q__
def tw16982583194754026177:=q__
def tw16982873572018107519:=q__
def tw16983634655676789421:=q__
def tw17000873411939996103:=q__
def tw17002021851781672336:=q__
def tw17008939693845576788:=q__
def tw17018590493084982405:=q__
def tw17043826732053055543:=q__
def tw1705945140087698962:=q__
def tw17102629150649339401:=q__
def tw17104590653115468279:=q__
def tw1712160932510365681:=q__
def tw17140545663607433236:=q__
def tw17142642391290340112:=q__
def tw17181185652691672779:=q__
def tw17194330416390917773:=q__
def tw17229106950119859018:=q__
def tw17281773090570948451:=q__
def tw17322781733134981111:=q__
def tw17373453514975772371:=q__
def tw1746254219069225920:=q__
def tw17466703726165325868:=q__
def tw17490202361846986101:=q__
def tw17496112521630982500:=q__
def tw17511044467339757825:=q__
def tw17527313828347072512:=q__
def tw17547185173102454026:=q__
def tw17566217592271282650:=q__
def tw17577299999748014653:=q__
def tw17610783074414336650:=q__
def tw17675910941224714955:=q__
def tw17678055213718335104:=q__
def tw17685830152645857398:=q__
def tw17695816915414437984:=q__
def tw17716309022582158076:=q__
def tw17756654396287463418:=q__
def tw17835910108085046600:=q__
def tw17864038170226359082:=q__
def tw17927527579981549837:=q__
def tw17972896314432819340:=q__
def tw17986905459703091872:=q__
def tw17997913914936354935:=q__
def tw18016803270390327234:=q__
def tw18063231264242573827:=q__
def tw18072549909936110341:=q__
def tw18093564639029799303:=q__
def tw18156005973065250421:=q__
def tw18241588093495021713:=q__
def tw18267579053776444475:=q__
def tw18270193905718230118:=q__
def tw18304185083945155933:=q__
def tw18362131972227731007:=q__
def tw18393537774125342914:=q__
def tw18431519201649474860:=q__
def tw1887966406284665767:=q__
def tw1894524387392298581:=q__
def tw1905253799295277234:=q__
def tw1958030015520835647:=q__
def tw1966891799131296642:=q__
def tw2026962531310554382:=q__
def tw2048213999600648526:=q__
def tw205308923447300145:=q__
def tw2083774367991816936:=q__
def tw208447859170244586:=q__
def tw2155675851267277127:=q__
def tw2213106533100053732:=q__
def tw2232970324627726485:=q__
def tw2267233136895669560:=q__
def tw2269503352175813307:=q__
def tw2285720751557189996:=q__
def tw2333938838116981203:=q__
def tw2338964474302405463:=q__
def tw2377252759316739626:=q__
def tw2405272925517166627:=q__
def tw2456177506780146116:=q__
def tw2459556952767505757:=q__
def tw2474750896880162410:=q__
def tw2516428874390732695:=q__
def tw2533775435762856988:=q__
def tw2664691835061768930:=q__
def tw2756711634558460229:=q__
def tw2762892265917457544:=q__
def tw277027849559136478:=q__
def tw2817817036790510770:=q__
def tw2854048571175996898:=q__
def tw2931141183541429755:=q__
def tw293226700189717742:=q__
def tw2973426549649510542:=q__
def tw2987527035390793597:=q__
def tw3118081611886165940:=q__
def tw3125887719114921672:=q__
def tw3167395974882284525:=q__
def tw327041662896349004:=q__
def tw329581375388791487:=q__
def tw3304338127367809334:=q__
def tw331010686933949659:=q__
def tw3399476570877824244:=q__
def tw3416345981717876322:=q__
def tw3500331665633184134:=q__
def tw3506547368145997123:=q__
def tw3526324579610554745:=q__
def tw3550826447013563483:=q__
def tw3562657516473915099:=q__
def tw3566696365075895269:=q__
def tw3600633583324866350:=q__
def tw3638445916632614892:=q__
def tw3669519576380083881:=q__
def tw3703274530200289642:=q__
def tw3769732689568382743:=q__
def tw3773619276764763894:=q__
def tw3797791993279154219:=q__
def tw3811375836435307710:=q__
def tw3907995418164210868:=q__
def tw3927541275494530145:=q__
def tw3998579742384804292:=q__
def tw4085060818450428796:=q__
def tw4090146277946538695:=q__
def tw4110801129458912363:=q__
def tw4128558114245641282:=q__
def tw4178169437540888463:=q__
def tw423664758979167603:=q__
def tw4257969765935661430:=q__
def tw4293357650932012266:=q__
def tw4361813902301083455:=q__
def tw4369468401508874254:=q__
def tw4370016383540097738:=q__
def tw4371171779942016555:=q__
def tw4453399664087161459:=q__
def tw4460847316395062241:=q__
def tw4531321231981702426:=q__
def tw4556918353544106384:=q__
def tw45679731800700643:=q__
def tw4622547244513850734:=q__
def tw4651740862363525520:=q__
def tw4655608766965293457:=q__
def tw4660400156241470984:=q__
def tw4667066860332777815:=q__
def tw4707917404503556527:=q__
def tw4731160147917092529:=q__
def tw4745072818349859676:=q__
def tw4856680422325097858:=q__
def tw4924406313264163490:=q__
def tw492494790907581199:=q__
def tw4927656189037931055:=q__
def tw4980013656766058981:=q__
def tw507304074268955956:=q__
def tw5075440174965836439:=q__
def tw509603042727919831:=q__
def tw5105412413227374063:=q__
def tw5112798528948774499:=q__
def tw512391750979013363:=q__
def tw5158338956066261737:=q__
def tw5186184571290553916:=q__
def tw5192688797998675657:=q__
def tw5229032002924771205:=q__
def tw5260322343865639345:=q__
def tw5286095255399966647:=q__
def tw5288180662569163670:=q__
def tw5345194489135045308:=q__
def tw5361126165598457730:=q__
def tw5426694484860529836:=q__
def tw544059181358810885:=q__
def tw5465350479450625806:=q__
def tw5575725638904625219:=q__
def tw5583593327328338829:=q__
def tw5589455252802099006:=q__
def tw5593150075087447798:=q__
def tw5595658186210236819:=q__
def tw5654213049310071277:=q__
def tw568202214995938212:=q__
def tw5718405761808785594:=q__
def tw5767727292965420475:=q__
def tw5771474510699935481:=q__
def tw5784641974759858202:=q__
def tw5792257046028976886:=q__
def tw584516067035592861:=q__
def tw5933586940257854582:=q__
def tw6005780519467359170:=q__
def tw6005802168093559044:=q__
def tw6028950862936121217:=q__
def tw6044371709981769594:=q__
def tw6089257682529127795:=q__
def tw6161541533392796145:=q__
def tw6166580813994022072:=q__
def tw6211245528862012594:=q__
def tw6293095274946391171:=q__
def tw6308770060949633659:=q__
def tw6315697885575113493:=q__
def tw6322571375650254810:=q__
def tw6361724640607266236:=q__
def tw6439729963175365383:=q__
def tw6485229733275585354:=q__
def tw6528504701149668170:=q__
def tw6592626337966532687:=q__
def tw6675713740009146098:=q__
def tw6696282071902704901:=q__
def tw6850685763866722305:=q__
def tw6859537882915990692:=q__
def tw6863700195997615358:=q__
def tw6867372453034400635:=q__
def tw687985349514319472:=q__
def tw6899281736233083644:=q__
def tw6919593361072411540:=q__
def tw6960418860650412955:=q__
def tw700627931223863142:=q__
def tw7102267077175833326:=q__
def tw7146503602607302800:=q__
def tw7150319229950307215:=q__
def tw7230895105708240727:=q__
def tw7231525193870991341:=q__
def tw7246350494664997810:=q__
def tw7252428791893758204:=q__
def tw7278534239824394046:=q__
def tw7279531539068413798:=q__
def tw7282262956014502406:=q__
def tw7305571919791991308:=q__
def tw7313628705897412989:=q__
def tw7317329989737638070:=q__
def tw7323022151245971589:=q__
def tw7384532965912763869:=q__
def tw7404413733346154361:=q__
def tw7423429030672973910:=q__
def tw7453209905130235830:=q__
def tw7528882692114402736:=q__
def tw753889807965356661:=q__
def tw7558037755359611800:=q__
def tw7620932439687338180:=q__
def tw7664481328015548533:=q__
def tw7668208777001007126:=q__
def tw7682637968271644194:=q__
def tw7693885181936402044:=q__
def tw7695313802517553347:=q__
def tw7771965848674414935:=q__
def tw7791668819792908370:=q__
def tw7826603434269945191:=q__
def tw7831506197427587681:=q__
def tw7841505162922054256:=q__
def tw789953237582863845:=q__
def tw7972487997568887479:=q__
def tw8041469166131074393:=q__
def tw8049757791216360055:=q__
def tw8061443350412860291:=q__
def tw8081405053002812822:=q__
def tw811603352964721408:=q__
def tw8140494060344912936:=q__
def tw8185112887434750630:=q__
def tw8209926003111077722:=q__
def tw8354406333970571802:=q__
def tw835579951664108415:=q__
def tw8458191238355190907:=q__
def tw8489586600206804064:=q__
def tw850072879428067787:=q__
def tw8563726542586383305:=q__
def tw8612845004497430142:=q__
def tw8614105724544156711:=q__
def tw8638456048839963358:=q__
def tw8698440979755878937:=q__
def tw8965511724630010307:=q__
def tw8972221386593862010:=q__
def tw8973269196309020287:=q__
def tw8977304441246943738:=q__
def tw8989204528930647715:=q__
def tw9065535606244927355:=q__
def tw9177686267496214100:=q__
def tw9186233136690449193:=q__
def tw9193531847237185656:=q__
def tw9199055689548619578:=q__
def tw9225269786764356108:=q__
def tw9237693718713341113:=q__
def tw9257868421810765209:=q__
def tw9289426021263309628:=q__
def tw9378021050461784225:=q__
def tw941981502029282277:=q__
def tw9452393412462259132:=q__
def tw948702124180536585:=q__
def tw9487476167081185364:=q__
def tw9613758335832839107:=q__
def tw9614928106190331179:=q__
def tw9631480732009058432:=q__
def tw9653107761962063929:=q__
def tw9667324717519155787:=q__
def tw9723473293018696042:=q__
def tw9725230062606261567:=q__
def tw9751506027686587307:=q__
def tw9794288226229882424:=q__
def tw9817694480936565747:=q__
def tw9949114292114318699:=q__
end PySem.W.Fast
open PySem PySem.W PyProof.Rows L2 L3 KK
set_option maxRecDepth 100000 in
set_option maxHeartbeats 0 in
theorem PySem.Challenge.cw_weightrooms_k29_whole_no_box_beyond_boun_holds : PySem.Challenge.rw_weightrooms_k29_whole_no_box_beyond_boun.Holds := by
 w_on;o_law;k_head;(case hw=>w_witness2)
 k_fill
 refine L2.walk_lawT (l:=PySem.Challenge.rw_weightrooms_k29_whole_no_box_beyond_boun) (x:="_law_script") (k:=55) rfl rfl ⟨rfl,by decide,by decide⟩ (λw h Y=>⟨W.km_in_of Y,Dy (by kernel_rfl) (W.km_tabs_of Y)⟩) ?F ?D
 case F=>
  intro w mg h KX G base kb nb;refine JQ oY (Eg ⟨⟨Kb KX G (by kernel_rfl),?_⟩,Ih KX G (by kernel_rfl)⟩) (E8 KX G (by kernel_rfl)) rfl F9;repeat first
   |exact trivial
   |refine⟨by refine' yV KX G ?a ?l ?c ?k;(case a=>k_is);(case l=>k_is);(case c=>k_is);(case k=>k_is),?_⟩
 case D=>
  intro w mg h KX G;refine⟨top 76,?_,(λ_ _ _ _ _ _=>ar1 λ_=>rfl)⟩;refine' yV KX G ?a ?l ?c ?k;case a|l|c|k=>k_is
