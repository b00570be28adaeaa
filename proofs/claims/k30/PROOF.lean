import PyProof.Rows.All
import Wide.All
import OpenK.AllK
import Wide.FinOn
import Lean
import PyProof.EqAt
import PyProof.EqKinds
import PyProof.TupleCall
import PyProof.Rows.SumAny
import PyProof.EnumMake
import PyProof.Draws
import PyProof.ZipIter
import KE.KNestM
import PyProof.StrBlockH
import KE.KUnpack
import KE.KxIndex
import PyProof.SetRoads
import PyProof.SetNew
import PyProof.AutoSeq1
import KE.KRevSl
import PyProof.SeqI3
import PyProof.Rows.SortWalk
import PyProof.Rows.Range3
import KE.KSortTup
import KE.KLam
import PyProof.Rows.SetFrom
import PyProof.FactsAll.list_2
import PyProof.Rows.SortStr
import PyProof.Rows.StrRules
import PyProof.StrOps
import KE.KIntText
import PyProof.CallStr
import PyProof.StrWalks
import PyProof.Rows.StrNews2
import PySem.Challenge.RW_weightrooms_k30_whole_nothing_below_the
local macro_rules|`(tactic|trivial)=>`(tactic|first|exact Or.inl rfl|exact Or.inr rfl)
local macro_rules|`(tactic|decide)=>`(tactic|decide +kernel)
set_option genSizeOf false
set_option genInjectivity false
set_option bootstrap.genMatcherCode false
noncomputable section
set_option Elab.async false
set_option linter.all false
def o_:=@PySem.wpAny_bind
def p_:=@List.length_map
def q_:=@List.mem_cons_of_mem
def r_:=@PySem.Heap.get?_push_of_some
def s_:=@List.mem_cons_self
def t_:=@Nat.le_refl
def u_:=@List.getElem?_eq_some_iff
def v_:=@List.getElem?_eq_getElem
def w_:=@Bool.and_eq_true
def x_:=@List.map_cons
def y_:=@Bool.false_ne_true
def z_:=@List.size_toArray
def A_:=@List.length_range
def B_:=@PySem.wpAny_pure
def C_:=@PySem.Heap.lt_size
def D_:=@List.length_cons
def Em:=@List.length_append
def E_:=@decide_eq_false
def F_:=@List.mem_cons
def G_:=@PySem.Heap.get?_push_size
def H_:=@beq_eq_false_iff_ne
def I_:=@decide_eq_true
def J_:=@Option.some.inj
def K_:=@Nat.lt_of_lt_of_le
def L_:=@List.getElem?_map
def Mo:=@List.getD_eq_getElem?_getD
def Mp:=@Option.map_eq_some_iff
def Mq:=@List.mem_map
def Mr:=@List.length_nil
def Ms:=@Nat.ne_of_lt
def Mu:=@List.mem_range
def Mv:=@List.mem_append_right
def Mw:=@List.mem_of_getElem?
def Mx:=@List.map_nil
def My:=@Nat.le_trans
def Mz:=@List.getElem?_append_left
def MB:=@List.sum_cons
def MC:=@List.mem_singleton
def MD:=@beq_iff_eq
def MF:=@List.all_eq_true
def MH:=@List.length_take
def MJ:=@List.length_set
def MK:=@Option.bind_eq_some_iff
def ML:=@PySem.wpAny_mono
def MM:=@PyProof.Rows.callWith_type1
def MN:=@Nat.pow_le_pow_right
def MP:=@congrArg
def MQ:=@List.mem_append
def MR:=@List.nil_append
def MU:=@List.take_append_drop
def MV:=@Nat.zero_le
def MW:=@Nat.mul_le_mul
def MX:=@List.append_nil
def MY:=@List.map_append
def MZ:=@List.map_map
def M0:=@Array.length_toList
def M1:=@List.contains_iff_mem
def M3:=@Int.toNat_natCast
def M4:=@PySem.wpAny_Call_Name_kw
def M5:=@List.take_of_length_le
def M6:=@List.find?_cons
def M8:=@Rat.intCast_mul
def M9:=@PySem.wpAny_field
def M_:=@List.map_take
def Na:=@Nat.lt_irrefl
def Nb:=@Int.natAbs_mul
def Nc:=@PySem.wpAny_newObj_type
def Nd:=@List.mem_map_of_mem
def Nf:=@List.pairwise_iff_getElem
def Ng:=@Option.isSome_iff_exists
def Nh:=@Int.mul_assoc
def Ni:=@List.any_cons
def Nj:=@List.mem_of_mem_take
def Nk:=@List.getElem?_replicate
def Nl:=@Nat.mul_le_mul_left
def Nm:=@PySem.mem_of_lookup
def Nn:=@List.getElem?_append_right
def Np:=@List.map_drop
def Nq:=@PySem.wpAny_holding
def Nr:=@List.length_drop
def Nt:=@List.lookup_cons
def Nu:=@Nat.lt_of_le_of_lt
def Nv:=@decide_eq_true_iff
def Nw:=@List.mem_or_eq_of_mem_set
def Ny:=@Nat.mul_pos
def Nz:=@Nat.mul_le_mul_right
def NA:=@List.getElem?_nil
def NB:=@PySem.wpAny_truthy_bool
def NC:=@List.getElem?_cons_succ
def ND:=@PySem.wpAny_callSpecial?_slot
def NF:=@PySem.Heap.SameBut.update
def NG:=@List.filterMap_cons
def NH:=@List.length_zipWith
def NI:=@List.getElem_mem
def NJ:=@PySem.wpAny_seqItems
def NK:=@Nat.pow_add
def NL:=@PySem.Calls.spliced_cons
def NM:=@Rat.le_of_lt
def NN:=@Rat.le_trans
def NO:=@PySem.wpAny_setField_rec
def NP:=@Int.natCast_mul
def NQ:=@List.getElem?_zipWith
def NR:=@List.length_replicate
def NS:=@Nat.not_lt_zero
def NT:=@PySem.wpAny_passesOwn
def NU:=@PySem.F.slot_tuple_iterator_next
def NV:=@decide_eq_true_eq
def NW:=@of_decide_eq_true
def NX:=@List.drop_eq_getElem_cons
def NY:=@List.getElem?_of_mem
def NZ:=@List.mem_of_mem_drop
def N2:=@if_true
def N3:=@PySem.F.plainAttrs_list
def N4:=@decide_eq_false_iff_not
def N5:=@PySem.wpAny_getItem_str_slice
def N6:=@Bool.false_eq_true
def N7:=@Bool.or_eq_true
def N8:=@Int.mul_ne_zero
def N9:=@List.nodup_cons
def N_:=@Rat.not_lt
def Oa:=@List.length_eq_one_iff
def Od:=@Rat.div_def
def Oe:=@Rat.mul_pos
def Of:=@Rat.mul_le_mul_of_nonneg_left
def Og:=@Bool.not_eq_true'
def Oh:=@PySem.Calls.spliced_nil
def Oi:=@Int.mul_left_comm
def Oj:=@List.getElem?_eq_none
def Ol:=@Nat.le_of_lt
def Om:=@Nat.ne_of_gt
def Oo:=@Rat.mul_lt_mul_of_pos_right
def Oq:=@List.getElem?_set_ne
def Ot:=@List.mem_append_left
def Ou:=@List.not_mem_nil
def Ov:=@PySem.wpAny_call_entry
def Ow:=@Int.eq_of_mul_eq_mul_right
def Ox:=@PySem.wpAny_standAt
def Oy:=@List.length_pos_iff
def Oz:=@List.map_eq_nil_iff
def OA:=@Array.getElem?_eq_getElem
def OB:=@List.getElem?_eq_none_iff
def OC:=@List.sum_append
def OD:=@Int.mul_comm
def OE:=@Int.mul_right_comm
def OF:=@List.idxOf_lt_length_iff
def OG:=@PySem.F.args_tuple_add_2
def OH:=@PySem.Heap.size_push
def OI:=@List.length_eq_zero_iff
def OJ:=@PySem.F.entry_tuple_add
def OK:=@List.append_assoc
def OL:=@List.flatten_cons
def OM:=@PySem.Heap.get?_update_other
def ON:=@PySem.F.slot_tuple_add
def OO:=@List.take_nil
def OP:=@Nat.mul_assoc
def OQ:=@PySem.wpAny_attempt
def OR:=@List.cons_append
def OS:=@List.nodup_range
def OT:=@Nat.le_add_right
def OU:=@beq_self_eq_true
def OV:=@decide_eq_decide
def OW:=@if_false
def OX:=@Bool.eq_iff_iff
def OY:=@PySem.F.slot_zip_next
def OZ:=@PySem.Heap.get?_none_of_le
def O0:=@List.foldl_cons
def O1:=@List.getElem?_append
def O2:=@Nat.lt_trans
def O3:=@Nat.min_eq_left
def O4:=@Nat.zero_add
def O5:=@Rat.num_eq_zero
def O6:=@PySem.call_meets
def O7:=@PySem.codeAny_builtin
def O8:=@PySem.codeAny_mono
def O9:=@PySem.post_val_or_str
def O_:=@PySem.wpAny_execs_nil
def Pa:=@PySem.wpAny_loadName_local
def Pb:=@PySem.wpAny_updateSeq_pair
def Pc:=@Int.toNat_of_nonneg
def Pd:=@List.getElem?_range
def Pe:=@Rat.inv_pos
def Pf:=@Rat.le_refl
def Pg:=@Rat.one_mul
def Ph:=@List.all_cons
def Pj:=@List.drop_nil
def Pk:=@PySem.Paired.length
def Pl:=@PyProof.Rows.listUpdate_at
def Pm:=@PySem.rangeSize_one
def Po:=@PySem.wpAny_onRaise
set_option maxRecDepth 100000
namespace L2
open PySem PySem.Spec PyProof.Rows
abbrev _root_.Pp:=Str->Option Value
abbrev _root_.Pq:=List (Addr×Obj)
abbrev _root_.Pu:=Value->Shared->Prop
abbrev _root_.Pw:=List (Option Nat)
abbrev Key:=Sum Int Str
noncomputable def j8:Key->Value->Bool
 |.inl k,v=>Value.isInt k v
 |.inr x,v=>Value.isStrOf x v
noncomputable def keyH (w:World):Key->Int
 |.inl k=>hashInt k
 |.inr x=>hashStr w x
theorem bJ:∀{k:Key}{v:Value},j8 k v=true->(∃i t,k=Sum.inl i/\v=Value.int i t)\/(∃x t,k=Sum.inr x/\v=Value.str x t)
 |
  .inl i,v,h=>by
  obtain⟨t,e⟩:=Value.isInt_shape (k:=i) (v:=v) h;exact .inl ⟨i,t,rfl,e⟩
 |
  .inr x,v,h=>by
  obtain⟨t,e⟩:=Value.isStrOf_shape (x:=x) (v:=v) h;exact .inr ⟨x,t,rfl,e⟩
def yM(i:Int)(t:Tok):j8 (.inl i) (.int i t)=true:=by simp [j8,Value.isInt]
def yP(x:Str)(t:Tok):j8 (.inr x) (.str x t)=true:=by simp [j8,Value.isStrOf]
def Jy(a b:Int):decide ((Sum.inl a:Key)=Sum.inl b)=(a==b):=by
 by_cases e:a=b
 .subst e;simp
 .have h:¬ (Sum.inl a:Key)=Sum.inl b:=λq=>e (Sum.inl.inj q);rw[E_ h];exact (H_.mpr e).symm
def HN(a b:Str):decide ((Sum.inr a:Key)=Sum.inr b)=decide (a=b):=by
 by_cases e:a=b
 .subst e;simp
 .have h:¬ (Sum.inr a:Key)=Sum.inr b:=λq=>e (Sum.inr.inj q);rw[E_ h,E_ e]
def GG(a:Int)(b:Str):decide ((Sum.inl a:Key)=Sum.inr b)=false:=E_ (λq=>nomatch q)
def Hl(a:Str)(b:Int):decide ((Sum.inr a:Key)=Sum.inl b)=false:=E_ (λq=>nomatch q)
noncomputable def bR (prog:Program) (w:World):PySem.KeyKind prog w Key where
 is:=j8
 hash:=keyH w
 inj
  := λv a b ha hb=>by
  rcases bJ ha with ⟨i,t,rfl,rfl⟩ |⟨x,t,rfl,rfl⟩
  .rcases bJ hb with ⟨j,u,rfl,e⟩ |⟨y,u,rfl,e⟩
   .injection e with e1 _;rw[e1]
   .exact nomatch e
  .rcases bJ hb with ⟨j,u,rfl,e⟩ |⟨y,u,rfl,e⟩
   .exact nomatch e
   .injection e with e1 _;rw[e1]
 byValue:=λk v h=>by rcases bJ h with ⟨i,t,rfl,rfl⟩ |⟨x,t,rfl,rfl⟩ <;> rfl
 pyHash:=λhv h=>by
  rcases bJ hv with ⟨i,t,rfl,rfl⟩ |⟨x,t,rfl,rfl⟩
  .exact wpAny_pyHash_int h
  .exact wpAny_pyHash_str h
 eqBool:=λhu hv h=>by
  rcases bJ hu with ⟨i,t,rfl,rfl⟩ |⟨x,t,rfl,rfl⟩
  .rcases bJ hv with ⟨j,u,rfl,rfl⟩ |⟨y,u,rfl,rfl⟩
   .rw[Jy] at h;exact wpAny_eqBool_int h
   .rw[GG] at h;exact SeqAt.EqAt.int_str i t y u _ _ _ _ h
  .rcases bJ hv with ⟨j,u,rfl,rfl⟩ |⟨y,u,rfl,rfl⟩
   .rw[Hl] at h;exact SeqAt.EqAt.str_int x t j u _ _ _ _ h
   .rw[HN] at h;exact wpAny_eqBool_str h
 «strs»:=λk x t v h=>by
  rcases bJ h with ⟨i,u,rfl,e⟩ |⟨y,u,rfl,e⟩
  .exact nomatch e
  .injection e with e1 _;subst e1;cases v <;> rfl
def uG(prog:Program)(w:World)(i:Int)(t:Tok):(bR prog w).is (.inl i) (.int i t)=true:=yM i t
def uQ(prog:Program)(w:World)(x:Str)(t:Tok):(bR prog w).is (.inr x) (.str x t)=true:=yP x t
inductive V where
 |non |bl (b:Bool) |int (i:Int) |str (x:Str) |byt (b:Array UInt8) |flt (b:UInt64) |ref (a:Addr) |ty (n:String)
 deriving DecidableEq
def RelV:V->Value->Prop
 |.non,u=>u=Value.none
 |.bl b,u=>u=Value.bool b
 |.int i,u=>∃t,u=Value.int i t
 |.str x,u=>∃t,u=Value.str x t
 |.byt b,u=>∃t,u=Value.bytes b t
 |.flt b,u=>∃t,u=Value.float b t
 |.ref a,u=>u=Value.ref a
 |.ty n,u=>u=Value.type n
abbrev Vals:List V->List Value->Prop:=Paired RelV
def Vals.length(r:Vals xs us):xs.length=us.length:=Pk r
def Vals.get{xs:List V}{us:List Value}{i:Nat}{x:V}(r:Vals xs us)(e:xs[i]?=some x):∃u,us[i]?=some u/\RelV x u:=by
 induction r generalizing i with
 |nil=>rw[NA] at e;cases e
 |
  cons r t ih=>
  cases i with
  |zero=>cases e;exact⟨_,rfl,r⟩
  |succ i=>exact ih (i:=i) e
def Vals.set(r:RelV x u)(i:Nat)(q:Vals xs us):Vals (xs.set i x) (us.set i u):=by
 induction q generalizing i with
 |nil=>exact .nil
 |
  cons q t ih=>
  cases i with
  |zero=>exact .cons r t
  |succ i=>exact .cons q (ih i)
def Vals.append(r:Vals xs us)(s:Vals ys ws):Vals (xs++ys) (us++ws):=by
 induction r with
 |nil=>exact s
 |cons r t ih=>exact .cons r ih
def Vals.take(n:Nat)(r:Vals xs us):Vals (xs.take n) (us.take n):=by
 induction r generalizing n with
 |nil=>rw[OO,OO];exact .nil
 |
  cons r t ih=>
  cases n with
  |zero=>exact .nil
  |succ n=>exact .cons r (ih n)
def Vals.drop(n:Nat)(r:Vals xs us):Vals (xs.drop n) (us.drop n):=by
 induction r generalizing n with
 |nil=>rw[Pj,Pj];exact .nil
 |
  cons r t ih=>
  cases n with
  |zero=>exact .cons r t
  |succ n=>exact ih n
def RelO:Option V->Option Value->Prop
 |some v,some u=>RelV v u
 |none,none=>True
 |_,_=>False
def KV{κ:Type}:List (κ×V)->List (κ×Value)->Prop:=Paired λ(p:κ×V) (q:κ×Value)=>p.1=q.1/\RelV p.2 q.2
noncomputable def kV:Key->V
 |.inl i=>.int i
 |.inr x=>.str x
inductive HO where
 |lst (xs:List V)
 |tup (xs:List V)
 |dK (kvs:List (Key×V)) |dT (kvs:List (List Key×V))
 |set (S:Int->Bool) (n:Nat)
 |ins (C dx:Addr) (fs:List (Str×V))
 |own (x:Addr)
 |xd (fs:List (Str×V))
 |met (f x:Addr)
 |rng (lo hi:Int)
 |frz (o:Obj) (u:HO)
 |tbl (ps:Array Value)
 |ext (φ:Heap->Prop)
abbrev Hp:=Addr->Option HO
noncomputable def upd (H:Hp) (a:Addr) (o:HO):Hp:=λb=>if b=a then some o else H b
def aG:upd H a o a=some o:=by unfold upd;rw[if_pos rfl]
def az(h:b≠a):upd H a o b=H b:=by unfold upd;rw[if_neg h]
def Lm{H:Hp}{a b:Addr}{o u:HO}(h:H a=some o)(h':H b=some u)(d:o≠u):a≠b:=by intro e;subst e;rw[h] at h';exact d (J_ h')
def bL{H:Hp}{a b:Addr}{o:HO}(h:H a=some o)(h':H b=none):a≠b:=by intro e;subst e;rw[h] at h';cases h'
section
variable(P:Program)(w:World)
def ObjOk(H:Hp)(h:Heap)(a:Addr):HO->Prop
 |.lst xs=>xs.length<=sizeLine/\∃(its:List Value) (n:Nat),Vals xs its/\h.get? a=some { cls:=.type "list",data:=.seq its.toArray n }
 |.tup xs=>xs.length<=sizeLine/\∃its:List Value,Vals xs its/\IsTup h a its.toArray
 |.dK kvs=>kvs.length<=sizeLine/\(a==sysModules)=false/\∃vs,KV kvs vs/\h.DictOf (bR P w) a vs
 |.dT kvs=>kvs.length<=sizeLine/\(a==sysModules)=false/\∃xs:List (List Key×Addr×Value),
  Paired (λ(p:List Key×V) (q:List Key×Addr×Value)=>p.1=q.1/\H q.2.1=some (.tup (p.1.map kV))/\RelV p.2 q.2.2) kvs xs/\
  ∃o es ep,h.get? a=some o/\o.ExactDict/\o.data=.dict es ep/\es.toList=xs.map (entryOfKey (tupleKind (bR P w)))/\(xs.map (·.1)).Nodup
 |.set S n=>h.SetOf (intKind P w) a S n
 |.ins C dx fs=>H dx=some (.own a)/\fs.length<=1000/\dx≠a/\h.get? a=some (W.instObj C dx)/\
  ∃mA,h.Ns1 dx mA/\(∀f,RelO (fs.lookup f) (mA f))/\PySem.Within mA (fs.map (·.1))
 |.own _=>∃o,h.get? a=some o
 |.xd fs=>∃mA,h.Ns1 a mA/\∀f,RelO (fs.lookup f) (mA f)
 |.rng lo hi=>∃t u v,h.get? a=some { cls:=.type "range",data:=.fields #[.int lo t,.int hi u,.int 1 v] }
 |.frz o u=>h.get? a=some o/\ObjOk H h a u
 |.tbl ps=>h.get? a=some { cls:=.none,data:=.fields ps }
 |.met f x=>h.get? a=some (W.methodObj (.ref f) (.ref x))
 |.ext φ=>φ h/\(∃o,h.get? a=some o)/\∀h1 h2:Heap,φ h1->(∀o,h1.get? a=some o->h2.get? a=some o)->φ h2
def HOk(H:Hp)(h:Heap):Prop:=∀a o,H a=some o->ObjOk P w H h a o
end
section
variable{P:Program}{w:World}{H H':Hp}{h h':Heap}{a:Addr}{o:HO}
def ObjOk.lt(x:ObjOk P w H h a o):a<h.objs.size:=by
 cases o with
 |lst xs=>obtain⟨_,_,_,_,e⟩:=x;exact C_ e
 |tup xs=>obtain⟨_,_,_,p⟩:=x;exact p.lt
 |dK kvs=>obtain⟨_,_,_,_,o,_,_,e,_⟩:=x;exact C_ e
 |dT kvs=>obtain⟨_,_,_,_,o,_,_,e,_⟩:=x;exact C_ e
 |set S n=>obtain⟨o,_,_,_,e,_⟩:=x;exact C_ e
 |ins C dx fs=>obtain⟨_,_,_,e,_⟩:=x;exact C_ e
 |own y=>obtain⟨_,e⟩:=x;exact C_ e
 |xd fs=>obtain⟨_,⟨_,_,_,e,_⟩,_⟩:=x;exact C_ e
 |rng lo hi=>obtain⟨_,_,_,e⟩:=x;exact C_ e
 |frz ob u=>obtain⟨e,_⟩:=x;exact C_ e
 |tbl ps=>exact C_ (show h.get? a=some _ from x)
 |met f y=>exact C_ (show h.get? a=some _ from x)
 |ext φ=>obtain⟨_,⟨_,e⟩,_⟩:=x;exact C_ e
def Paired.mapP(r:Paired F l₁ l₂)(f:∀a b,F a b->G a b):Paired G l₁ l₂:=by
 induction r with
 |nil=>exact .nil
 |cons r t ih=>exact .cons (f _ _ r) ih
def ObjOk.stay(x:ObjOk P w H h a o)(k:∀b u,(b=a\/H b=some (.own a))->h.get? b=some u->h'.get? b=some u)
 (ho:∀b,H b=some (.own a)->H' b=some (.own a)) (ht:∀b xs,H b=some (.tup xs)->H' b=some (.tup xs)):ObjOk P w H' h' a o:=by
 induction o with
 |lst xs=>obtain⟨z,its,n,r,e⟩:=x;exact⟨z,its,n,r,k _ _ (.inl rfl) e⟩
 |tup xs=>obtain⟨z,its,r,ob,e,c⟩:=x;exact⟨z,its,r,ob,k _ _ (.inl rfl) e,c⟩
 |dK kvs=>obtain⟨z,y,vs,r,ob,es,ep,e,c⟩:=x;exact⟨z,y,vs,r,ob,es,ep,k _ _ (.inl rfl) e,c⟩
 |dT kvs=>obtain⟨z,y,xs,r,ob,es,ep,e,c⟩:=x;exact⟨z,y,xs,Paired.mapP r λp q z=>⟨z.1,ht _ _ z.2.1,z.2.2⟩,ob,es,ep,k _ _ (.inl rfl) e,c⟩
 |set S n=>obtain⟨ob,es,ep,t,e,c⟩:=x;exact⟨ob,es,ep,t,k _ _ (.inl rfl) e,c⟩
 |ins C dx fs=>obtain⟨d,z,ne,e,mA,⟨od,es,ep,e2,c⟩,r⟩:=x;exact⟨ho _ d,z,ne,k _ _ (.inl rfl) e,mA,⟨od,es,ep,k _ _ (.inr d) e2,c⟩,r⟩
 |own y=>obtain⟨ob,e⟩:=x;exact⟨ob,k _ _ (.inl rfl) e⟩
 |xd fs=>obtain⟨mA,⟨od,es,ep,e,c⟩,r⟩:=x;exact⟨mA,⟨od,es,ep,k _ _ (.inl rfl) e,c⟩,r⟩
 |rng lo hi=>obtain⟨t,u,v,e⟩:=x;exact⟨t,u,v,k _ _ (.inl rfl) e⟩
 |frz ob u ih=>obtain⟨e,q⟩:=x;exact⟨k _ _ (.inl rfl) e,ih q⟩
 |tbl ps=>have e:h.get? a=some { cls:=.none,data:=.fields ps }:=x;show h'.get? a=some { cls:=.none,data:=.fields ps };exact k a _ (.inl rfl) e
 |met f y=>have e:h.get? a=some (W.methodObj (.ref f) (.ref y)):=x;show h'.get? a=some (W.methodObj (.ref f) (.ref y));exact k a _ (.inl rfl) e
 |ext φ=>obtain⟨p,⟨o,e⟩,st⟩:=x;exact⟨st _ _ p λo q=>k _ _ (.inl rfl) q,⟨o,k _ _ (.inl rfl) e⟩,st⟩
def HOk.lt(x:HOk P w H h)(e:H a=some o):a<h.objs.size:=(x a o e).lt
def HOk.fresh(x:HOk P w H h)(e:h.objs.size<=a):H a=none:=by
 cases q:H a with
 |none=>rfl
 |some u=>exact absurd (K_ (x.lt q) e) (Na _)
def HOk.kept(x:HOk P w H h)(k:∀b u,h.get? b=some u->h'.get? b=some u):HOk P w H h':=λa o e=>
 (x a o e).stay (λb u _ q=>k b u q) (λ_ q=>q) λ_ _ q=>q
def HOk.laid(x:HOk P w H h)(k:∀b u,h.get? b=some u->h'.get? b=some u)(hp:h.objs.size<=a)(new:ObjOk P w (upd H a o) h' a o):HOk P w (upd H a o) h':=λb u e=>by
 have hn:=x.fresh hp;by_cases hb:b=a
 .subst hb;rw[aG] at e;cases e;exact new
 .rw[az hb] at e;exact (x b u e).stay (λc v _ q=>k c v q) (λc q=>by rw[az (bL q hn)];exact q) λc xs q=>by rw[az (bL q hn)];exact q
end
def Rd(H:Hp)(a:Addr)(u:HO):Prop:=H a=some u\/∃o,H a=some (.frz o u)
def Rd.ok(r:Rd H a u)(x:HOk P w H h):ObjOk P w H h a u:=by
 rcases r with r |⟨o,r⟩
 .exact x a u r
 .obtain⟨_,q⟩:=x a _ r;exact q
def Mut:Option HO->Prop
 |some (.lst _)=>True
 |some (.dK _)=>True
 |some (.dT _)=>True
 |some (.set _ _)=>True
 |some (.ins _ _ _)=>True
 |some (.ext _)=>True
 |_=>False
section
variable{P:Program}{w:World}{H:Hp}{h h':Heap}{x e:Addr}{o':HO}
def HOk.write(ok:HOk P w H h)(mu:Mut (H x))(he:e=x\/H e=some (.own x))(k:∀b u,b≠e->h.get? b=some u->h'.get? b=some u)(heo:∃u,h'.get? e=some u)
 (new:ObjOk P w (upd H x o') h' x o'):HOk P w (upd H x o') h':=λb u q=>by
 have nown:∀c y,H c=some (.own y)->c≠x:=λc y r z=>by subst z;rw[r] at mu;exact mu
 have ntup:∀c xs,H c=some (.tup xs)->c≠x:=λc xs r z=>by subst z;rw[r] at mu;exact mu
 by_cases hb:b=x
 .subst hb;rw[aG] at q;cases q;exact new
 .rw[az hb] at q;by_cases hbe:b=e
  .have q':H b=some (.own x):=by
    rcases he with z |z
    .exact absurd (hbe.trans z) hb
    .rw[hbe];exact z
   rw[q] at q';cases q';obtain⟨v,hv⟩:=heo;exact⟨v,by rw[hbe];exact hv⟩
  .refine (ok b u q).stay (λc v hc r=>k c v ?_ r) (λc r=>by rw[az (nown c b r)];exact r) λc xs r=>by rw[az (ntup c xs r)];exact r
   rcases hc with rfl |hc
   .exact hbe
   .rintro rfl;rcases he with z |z
    .exact nown c b hc z
    .rw[hc] at z;cases z;exact hb rfl
end
structure Un(fs ex:List Addr)(H H':Hp)(h h':Heap):Prop where
 keep:∀b o,h.get? b=some o->H b=none->b∉fs->b∉ex->h'.get? b=some o
 slot:∀b o,h.get? b=some o->H b=none->b∈fs->b∉ex->∃sl,h'.get? b=some { o with slots:=sl }
 free:∀b o,h.get? b=some o->H b=none->b∉ex->H' b=none
 there:∀b o,h.get? b=some o->b∉ex->∃o',h'.get? b=some o'
 tups:∀b xs,H b=some (.tup xs)->H' b=some (.tup xs)
 frzs:∀b o u,H b=some (.frz o u)->H' b=some (.frz o u)
 tbls:∀b ps,H b=some (.tbl ps)->∃more,H' b=some (.tbl (ps++more))
section
variable{fs ex:List Addr}{H H1:Hp}{h h1 h':Heap}{a x e:Addr}{o:HO}
def Un.any(u:Un fs ex H H1 h h1)(q:h.get? b=some ob)(n:H b=none)(hx:b∉ex):∃sl,h1.get? b=some { ob with slots:=sl }:=by
 by_cases hb:b∈fs
 .exact u.slot b ob q n hb hx
 .exact⟨ob.slots,u.keep b ob q n hb hx⟩
def Un.kept(k:∀b u,h.get? b=some u->h'.get? b=some u):Un fs ex H H h h':=
 ⟨λb ob q _ _ _=>k b ob q,λb ob q _ _ _=>⟨ob.slots,k b ob q⟩,λ_ _ _ n _=>n,λb ob q _=>⟨ob,k b ob q⟩,λ_ _ q=>q,λ_ _ _ q=>q,λ_ ps q=>⟨#[],by rw[q];simp⟩⟩
def Un.refl:Un fs ex H H h h:=Un.kept λ_ _ q=>q
def Un.laid(k:∀b u,h.get? b=some u->h'.get? b=some u)(hp:h.objs.size<=a)(hn:H a=none):Un fs ex H (upd H a o) h h' where
 keep:=λb u q _ _ _=>k b u q
 slot:=λb u q _ _ _=>⟨u.slots,k b u q⟩
 free:=λb u q n _=>by rw[az (Ms (K_ (C_ q) hp))];exact n
 there:=λb u q _=>⟨u,k b u q⟩
 tups:=λb xs q=>by rw[az (bL q hn)];exact q
 frzs:=λb u xs q=>by rw[az (bL q hn)];exact q
 tbls:=λb ps q=>⟨#[],by rw[az (bL q hn),q];simp⟩
def Un.write(mu:Mut (H x))(he:e=x\/H e=some (.own x))(k:∀b u,b≠e->h.get? b=some u->h'.get? b=some u)(heo:∃u,h'.get? e=some u):Un fs ex H (upd H x o) h h':=by
 have hx:∀b,H b=none->b≠x:=λb n z=>by subst z;rw[n] at mu;exact mu
 have hb:∀b,H b=none->b≠e:=λb n z=>by
  subst z;rcases he with r |r
  .exact hx b n r
  .rw[n] at r;cases r
 have hm:∀b u,H b=some u->¬ Mut (some u)->b≠x:=λb u q nm z=>by subst z;rw[q] at mu;exact nm mu
 refine⟨λb u q n _ _=>k b u (hb b n) q,λb u q n _ _=>⟨u.slots,k b u (hb b n) q⟩,λb u q n _=>by rw[az (hx b n)];exact n,λb u q _=>?_,
  λb xs q=>by rw[az (hm b _ q λz=>z)];exact q,λb u xs q=>by rw[az (hm b _ q λz=>z)];exact q,λb ps q=>⟨#[],by rw[az (hm b _ q λz=>z),q];simp⟩⟩
 by_cases hbe:b=e
 .subst hbe;exact heo
 .exact⟨u,k b u hbe q⟩
end
noncomputable def trk (h:Heap) (H:Hp):List Addr:=(List.range h.objs.size).filter λa=>(H a).isSome
noncomputable def fk (h:Heap) (H:Hp):Heap:=W.hideAll h (trk h H)
def oX(h:Heap)(H:Hp):(fk h H).objs.size=h.objs.size:=W.hideAll_size _ _
def tI(e:h.get? b=some o)(n:H b=none):(fk h H).get? b=some o:=
 W.hideAll_get _ e λhm=>by have q:(H b).isSome=true:=(List.mem_filter.mp hm).2;rw[n] at q;simp at q
def vZ(e:(fk h H).get? b=some o):h.get? b=some o/\H b=none:=by
 have e':h.get? b=some o:=W.of_hideAll (trk h H) e;refine⟨e',?_⟩;cases q:H b with
 |none=>rfl
 |some x=>have hm:b∈trk h H:=List.mem_filter.mpr ⟨Mu.mpr (C_ e'),by simp [q]⟩;have z:(fk h H).get? b=none:=W.hideAll_none (trk h H) hm;rw[z] at e;cases e
noncomputable def En (g h:Heap) (L:Addr):List (Addr×Obj):=(List.range h.objs.size).filterMap λa=>if a=L\/(g.get? a).isSome=true then none else (h.get? a).map λo=>(a,o)
noncomputable def cF (g h:Heap) (L d:Addr):List (Addr×Obj):=(En g h L).filter λp=>decide (p.1≠d)
structure Mod(K:W.Frag)(mg:Pp)(base:Heap):Prop where
 kin:K.In base
 glob:base.Ns mainGlobals mg
 blt:∃mb,base.Ns builtinsNs mb/\∀x:Str,x ≠ "__name__"->mb x=bootBuiltins x
 nolimit:base.NoLimit
structure Cx where
 prog:Program
 w:World
 K:W.Frag
 mg:Str->Option Value
 base:Heap
 A:Around
 N:List Str
 s₀:Shared
 H₀:Hp
 env:Env
 outer:List Env
 stack:List Env
 ex:List Addr
 fn:Str->Bool
 calm:Bool
 pn:List (Addr×Obj)
 xe:Value->Shared->Prop
noncomputable def frs (l:List Env):List Addr:=l.filterMap (·.frame)
abbrev Cx.fs(X:Cx):List Addr:=frs X.outer
def Vis(sc:Scope)(x:Str):Prop:=sc.names.lookup x=some .local\/sc.names.lookup x=some .cell\/sc.names.lookup x=some .free
def Loc(sc:Scope)(x:Str):Prop:=sc.names.lookup x=some .local\/sc.names.lookup x=some .cell
def Look(env:Env)(h:Heap)(m:Pp)(x:Str)(u:Value):Prop:=
 (env.kindOf x=some .local/\m x=some u)\/((env.kindOf x=some .cell\/env.kindOf x=some .free)/\∃c,env.cells.lookup x=some c/\h.IsCell c (some u))
structure Cx.Ok(X:Cx):Prop where
 mod:Mod X.K X.mg X.base
 kind:X.env.scope.kind=.function
 glob:X.env.globals=mainGlobals
 blt:X.env.builtins=builtinsNs
 above:X.s₀.heap.objs.size<=X.env.locals
 inj:∀x y c,X.env.cells.lookup x=some c->X.env.cells.lookup y=some c->x=y
 has:∀x,(X.env.kindOf x=some .cell\/X.env.kindOf x=some .free)->∃c,X.env.cells.lookup x=some c
 cab:∀x c,X.fn x=true->X.env.cells.lookup x=some c->X.s₀.heap.objs.size<=c
 hd:X.calm=true->X.A.handled=none
 frames:X.A.frames=some X.stack
 stk:X.stack=X.outer\/(X.stack=X.env::X.outer/\X.env.frame=some X.env.locals)
 exf:∀b∈X.ex,b≠X.env.locals/\∀x c,X.env.cells.lookup x=some c->c≠b
 bs:∀b o,X.base.get? b=some o->X.s₀.heap.get? b=some o/\X.H₀ b=none
 bsz:X.base.objs.size<=X.s₀.heap.objs.size
 noex:∀b o,X.base.get? b=some o->b∉X.ex
 exfs:∀b∈X.ex,b∉X.fs
 funs:X.s₀.heap.FunFrames X.base X.outer
 frf:∀b∈X.fs,X.H₀ b=none
structure Inv(X:Cx)(pins:Pq)(σ:List (Option V))(H:Hp)(s:Shared):Prop where
 ok:X.Ok
 os:s.os=X.s₀.os
 bare:AllBare s.gens
 base:Un X.fs X.ex X.H₀ H X.s₀.heap s.heap
 loc:∃m,s.heap.Ns X.env.locals m/\∀(i:Nat) (x:Str) (v:V),X.N[i]?=some x->σ[i]?=some (some v)->Vis X.env.scope x->∃u,RelV v u/\Look X.env s.heap m x u
 cell:∀x c,X.env.cells.lookup x=some c->∃v,s.heap.IsCell c v
 free:H X.env.locals=none
 freeC:∀x c,X.env.cells.lookup x=some c->H c=none
 pin:∀p∈X.pn++pins,s.heap.get? p.1=some p.2/\H p.1=none/\p.1≠X.env.locals/\p.1∉X.fs/\∀v,p.2.data ≠ .cell v
 hok:HOk X.prog X.w H s.heap
 len:σ.length=X.N.length
section
variable{X:Cx}{pins:Pq}{σ:List (Option V)}{H H':Hp}{s:Shared}{h':Heap}
def Cx.Ok.nofr(ok:X.Ok)(e:X.base.get? b=some o):b∉X.fs:=λhb=>by
 have:=(ok.funs.mem hb).1
 rw[e] at this;cases this
def Inv.bs(I:Inv X pins σ H s):∀b o,X.base.get? b=some o->s.heap.get? b=some o/\H b=none:=λb o e=>
 ⟨I.base.keep b o (I.ok.bs b o e).1 (I.ok.bs b o e).2 (I.ok.nofr e) (I.ok.noex b o e),I.base.free b o (I.ok.bs b o e).1 (I.ok.bs b o e).2 (I.ok.noex b o e)⟩
def Inv.bk(I:Inv X pins σ H s):∀b o,X.base.get? b=some o->s.heap.get? b=some o:=λb o e=>(I.bs b o e).1
def Inv.mod(I:Inv X pins σ H s):Mod X.K X.mg X.base:=I.ok.mod
def Inv.kIn(I:Inv X pins σ H s):X.K.In s.heap:=I.ok.mod.kin.keeps I.bk
def Inv.nolimit(I:Inv X pins σ H s):s.heap.NoLimit:=I.ok.mod.nolimit.keeps I.bk
def Inv.lt(I:Inv X pins σ H s):X.env.locals<s.heap.objs.size:=let ⟨_,hn,_⟩:=I.loc;hn.lt
def Inv.sz(I:Inv X pins σ H s):X.s₀.heap.objs.size<=s.heap.objs.size:=My I.ok.above (Ol I.lt)
def Inv.nofs(I:Inv X pins σ H s)(h:s.heap.objs.size<=a):a∉X.fs:=λhb=>by obtain⟨_,o,ho,_⟩:=I.ok.funs.mem hb;exact absurd (K_ (C_ ho) (My I.sz h)) (Na _)
def Inv.cne(I:Inv X pins σ H s):∀x c,X.env.cells.lookup x=some c->c≠X.env.locals:=λx c e z=>by obtain⟨v,o,ho,hd⟩:=I.cell x c e;obtain⟨m,⟨o',es,ep,ho',hd',_⟩,_⟩:=I.loc;rw[z,ho'] at ho;cases ho;rw[hd'] at hd;cases hd
def Inv.funs(I:Inv X pins σ H s):s.heap.FunFrames X.base X.outer:=by
 have all:∀(l:List Env),(∀b∈frs l,b∈X.fs)->X.s₀.heap.FunFrames X.base l->s.heap.FunFrames X.base l:=by
  intro l;induction l with
  |nil=>intro _ _;trivial
  |cons env r ih=>intro hs hl;obtain⟨hk,⟨L,o,hf,hn,ho,hd⟩,hr⟩:=hl;have hL:L∈X.fs:=hs L (by unfold frs;rw[NG,hf];exact s_);obtain⟨sl,e⟩:=I.base.slot L o ho (I.ok.frf L hL) hL λz=>I.ok.exfs L z hL;exact⟨hk,⟨L,_,hf,hn,e,hd⟩,ih (λb hb=>hs b (by unfold frs;rw[NG,hf];exact q_ _ hb)) hr⟩
 exact all X.outer (λ_ hb=>hb) I.ok.funs
def Inv.stack(I:Inv X pins σ H s):s.heap.FunFrames X.base X.stack:=by
 rcases I.ok.stk with e |⟨e,hf⟩
 .rw[e];exact I.funs
 .rw[e];obtain⟨m,hn,_⟩:=I.loc;refine .cons (by rw[I.ok.kind];decide) hf hn ?_ I.funs;exact OZ (My I.ok.bsz I.ok.above)
def Inv.stkSub(I:Inv X pins σ H s):∀b∈frs X.stack,b∈X.env.locals::X.fs:=λb hb=>by
 rcases I.ok.stk with e |⟨e,hf⟩
 .rw[e] at hb;exact q_ _ hb
 .rw[e] at hb;unfold frs at hb;rw[NG,hf] at hb;exact hb
def Inv.stkFree(I:Inv X pins σ H s):∀b∈frs X.stack,H b=none:=λb hb=>by
 rcases F_.mp (I.stkSub b hb) with e |hb
 .rw[e];exact I.free
 .obtain⟨_,o,ho,_⟩:=I.ok.funs.mem hb;exact I.base.free b o ho (I.ok.frf b hb) λz=>I.ok.exfs b z hb
def Inv.step{g':Array GenState}{t':Nat}{d':Drawn}{ch:List Addr}(I:Inv X pins σ H s)
 (hch:∀b∈ch,(b∈X.ex\/X.s₀.heap.objs.size<=b)/\b≠X.env.locals/\(∀x c,X.env.cells.lookup x=some c->c≠b)/\∀p∈X.pn++pins,p.1≠b)
 (keep:∀b o,b≠X.env.locals->b∉X.fs->b∉ch->s.heap.get? b=some o->H b=none->h'.get? b=some o)
 (slot:∀b o,b≠X.env.locals->b∈X.fs->b∉ch->s.heap.get? b=some o->H b=none->∃sl,h'.get? b=some { o with slots:=sl }) (free:∀b o,b∉ch->s.heap.get? b=some o->H b=none->H' b=none)
 (there:∀b o,b∉ch->s.heap.get? b=some o->∃o',h'.get? b=some o')
 (tups:∀b xs,H b=some (.tup xs)->H' b=some (.tup xs)) (frzs:∀b o u,H b=some (.frz o u)->H' b=some (.frz o u)) (tbls:∀b ps,H b=some (.tbl ps)->∃more,H' b=some (.tbl (ps++more)))
 (ns:∀m,s.heap.Ns X.env.locals m->h'.Ns X.env.locals m) (hok:HOk X.prog X.w H' h') (hg:AllBare g'):
 Inv X pins σ H' { s with heap:=h',gens:=g',drawn:=d',toks:=t' }:=by
 have neL:∀b o,X.s₀.heap.get? b=some o->b≠X.env.locals:=λb o e=>Ms (K_ (C_ e) I.ok.above);have neC:∀b o,X.s₀.heap.get? b=some o->b∉X.ex->b∉ch:=λb o e hx hb=>by
  rcases (hch b hb).1 with z |z
  .exact hx z
  .exact absurd (K_ (C_ e) z) (Na _)
 have cellK:∀x c,X.env.cells.lookup x=some c->∀v,s.heap.IsCell c v->h'.IsCell c v:=λx c e v ⟨o,ho,hd⟩=>by
  have nch:c∉ch:=λz=>(hch c z).2.2.1 x c e rfl;by_cases hc:c∈X.fs
  .obtain⟨sl,q⟩:=slot c o (I.cne x c e) hc nch ho (I.freeC x c e);exact⟨_,q,hd⟩
  .exact⟨o,keep c o (I.cne x c e) hc nch ho (I.freeC x c e),hd⟩
 refine⟨I.ok,I.os,hg,⟨λb o e n hb hx=>?_,λb o e n hb hx=>?_,λb o e n hx=>?_,λb o e hx=>?_,λb xs e=>tups b xs (I.base.tups b xs e),λb o xs e=>frzs b o xs (I.base.frzs b o xs e),λb ps e=>?_⟩,?_,λx c e=>?_,?_,λx c e=>?_,λp hp=>?_,hok,I.len⟩
 .exact keep b o (neL b o e) hb (neC b o e hx) (I.base.keep b o e n hb hx) (I.base.free b o e n hx)
 .obtain⟨sl,e1⟩:=I.base.slot b o e n hb hx;obtain⟨sl',e2⟩:=slot b _ (neL b o e) hb (neC b o e hx) e1 (I.base.free b o e n hx);exact⟨sl',e2⟩
 .obtain⟨o',e1⟩:=I.base.there b o e hx;exact free b o' (neC b o e hx) e1 (I.base.free b o e n hx)
 .obtain⟨o',e1⟩:=I.base.there b o e hx;exact there b o' (neC b o e hx) e1
 .obtain⟨m1,e1⟩:=I.base.tbls b ps e;obtain⟨m2,e2⟩:=tbls b _ e1;exact⟨m1++m2,by rw[e2,Array.append_assoc]⟩
 .obtain⟨m,hn,hl⟩:=I.loc;refine⟨m,ns m hn,λi x v e1 e2 e3=>?_⟩;obtain⟨u,r,l⟩:=hl i x v e1 e2 e3;refine⟨u,r,?_⟩;rcases l with l |⟨k,c,e,z⟩
  .exact .inl l
  .exact .inr ⟨k,c,e,cellK x c e _ z⟩
 .obtain⟨v,z⟩:=I.cell x c e;exact⟨v,cellK x c e v z⟩
 .obtain⟨m,⟨o,_,_,ho,_⟩,_⟩:=I.loc;exact free _ o (λz=>(hch _ z).2.1 rfl) ho I.free
 .obtain⟨v,o,ho,hd⟩:=I.cell x c e;exact free c o (λz=>(hch c z).2.2.1 x c e rfl) ho (I.freeC x c e)
 .obtain⟨e,n,ne,nf,d⟩:=I.pin p hp;have nch:p.1∉ch:=λz=>(hch p.1 z).2.2.2 p hp rfl;exact⟨keep p.1 p.2 ne nf nch e n,free p.1 p.2 nch e n,ne,nf,d⟩
def Inv.un{t':Nat}(I:Inv X pins σ H s)(u:Un X.fs [] H H' s.heap h')(hok:HOk X.prog X.w H' h'):Inv X pins σ H' { s with heap:=h',toks:=t' }:=by obtain⟨m,⟨o,es,ep,ho,r⟩,_⟩:=id I.loc;obtain⟨sl,hL⟩:=u.any ho I.free (by simp);exact I.step (g':=s.gens) (d':=s.drawn) (ch:=[]) (λ_ z=>nomatch z) (λb o _ hb _ e n=>u.keep b o e n hb (by simp)) (λb o _ hb _ e n=>u.slot b o e n hb (by simp)) (λb o _ e n=>u.free b o e n (by simp)) (λb o _ e=>u.there b o e (by simp)) u.tups u.frzs u.tbls (λm' hm=>by obtain⟨o',es',ep',ho',r'⟩:=hm;rw[ho] at ho';cases ho';exact⟨_,es',ep',hL,r'⟩) hok I.bare
def Inv.call{g':Array GenState}{t':Nat}{d':Drawn}{ch:List Addr}(I:Inv X pins σ H s)(u:Un (frs X.stack) ch H H' s.heap h')(hok:HOk X.prog X.w H' h')(hg:AllBare g')
 (hch:∀b∈ch,(b∈X.ex\/X.s₀.heap.objs.size<=b)/\b≠X.env.locals/\(∀x c,X.env.cells.lookup x=some c->c≠b)/\∀p∈X.pn++pins,p.1≠b):
 Inv X pins σ H' { s with heap:=h',gens:=g',drawn:=d',toks:=t' }:=by
 obtain⟨m,⟨o,es,ep,ho,r⟩,_⟩:=id I.loc;obtain⟨sl,hL⟩:=u.any ho I.free λz=>(hch _ z).2.1 rfl;exact I.step (ch:=ch) hch (λb o hL hb hc e n=>u.keep b o e n (λz=>(F_.mp (I.stkSub b z)).elim hL hb) hc) (λb o _ _ hc e n=>u.any e n hc) (λb o hc e n=>u.free b o e n hc) (λb o hc e=>u.there b o e hc) u.tups u.frzs u.tbls (λm' hm=>by obtain⟨o',es',ep',ho',r'⟩:=hm;rw[ho] at ho';cases ho';exact⟨_,es',ep',hL,r'⟩) hok hg
def Inv.turned{t':Nat}{it:Addr}(I:Inv X pins σ H s)(k:∀b o,b≠it->s.heap.get? b=some o->h'.get? b=some o)(hn:H it=none)(hL:it≠X.env.locals)
 (h1:it∈X.ex\/X.s₀.heap.objs.size<=it) (h2:∀x c,X.env.cells.lookup x=some c->c≠it) (h3:∀p∈X.pn++pins,p.1≠it):Inv X pins σ H { s with heap:=h',toks:=t' }:=by
 have nit:∀b u,H b=some u->b≠it:=λb u e z=>by rw[z,hn] at e;cases e
 refine I.step (g':=s.gens) (d':=s.drawn) (ch:=[it]) (λb hb=>?_) (λb o _ _ hc e _=>k b o (λz=>hc (by simp [z])) e) (λb o _ _ hc e _=>⟨o.slots,k b o (λz=>hc (by simp [z])) e⟩) (λ_ _ _ _ n=>n)
  (λb o hc e=>⟨o,k b o (λz=>hc (by simp [z])) e⟩) (λ_ _ e=>e) (λ_ _ _ e=>e) (λb ps e=>⟨#[],by rw[e];simp⟩) (λm hm=>?_) (λb u e=>?_) I.bare
 .have e:b=it:=by simpa using hb
  subst e;exact⟨h1,hL,h2,h3⟩
 .obtain⟨o,es,ep,ho,r⟩:=hm;exact⟨o,es,ep,k _ o (Ne.symm hL) ho,r⟩
 .refine (I.hok b u e).stay (λc v hc q=>k c v ?_ q) (λ_ q=>q) λ_ _ q=>q;rcases hc with z |z
  .rw[z];exact nit b u e
  .exact nit c _ z
def Inv.tok(I:Inv X pins σ H s)(t:Nat):Inv X pins σ H { s with toks:=t }:=I.un (h':=s.heap) (t':=t) Un.refl I.hok
def Inv.kept(I:Inv X pins σ H s)(k:∀b u,s.heap.get? b=some u->h'.get? b=some u):Inv X pins σ H { s with heap:=h',toks:=t' }:=I.un (Un.kept k) (I.hok.kept k)
def Inv.laid(I:Inv X pins σ H s)(k:∀b u,s.heap.get? b=some u->h'.get? b=some u)(hp:s.heap.objs.size<=a)(new:ObjOk X.prog X.w (upd H a o) h' a o):
 Inv X pins σ (upd H a o) { s with heap:=h',toks:=t' }:=I.un (Un.laid k hp (I.hok.fresh hp)) (I.hok.laid k hp new)
def Inv.write(I:Inv X pins σ H s)(mu:Mut (H x))(he:e=x\/H e=some (.own x))(k:∀b u,b≠e->s.heap.get? b=some u->h'.get? b=some u)(heo:∃u,h'.get? e=some u)
 (new:ObjOk X.prog X.w (upd H x o) h' x o):Inv X pins σ (upd H x o) { s with heap:=h',toks:=t' }:=I.un (Un.write mu he k heo) (I.hok.write mu he k heo new)
def Inv.pins_of(I:Inv X pins σ H s)(h:∀p∈pins',s.heap.get? p.1=some p.2/\H p.1=none/\p.1≠X.env.locals/\p.1∉X.fs/\∀v,p.2.data ≠ .cell v):Inv X pins' σ H s:=
 ⟨I.ok,I.os,I.bare,I.base,I.loc,I.cell,I.free,I.freeC,λp hp=>(MQ.mp hp).elim (λz=>I.pin p (Ot _ z)) (h p),I.hok,I.len⟩
def tN{N:List Str}(hN:N.Nodup){i j:Nat}{x:Str}(a:N[i]?=some x)(b:N[j]?=some x):i=j:=by obtain⟨h1,e1⟩:=u_.mp a;obtain⟨h2,e2⟩:=u_.mp b;exact (List.getElem_inj hN).mp (e1.trans e2.symm)
def pj(I:Inv X pins σ H s)(hN:X.N.Nodup)(hi:X.N[i]?=some x)(hx:Loc X.env.scope x)(r:RelV v u)
 (h:∀s',Inv X pins (σ.set i (some v)) H s'->(∃a,Heap.SameBut a s.heap s'.heap/\(a=X.env.locals\/X.env.cells.lookup x=some a))->Q () s') (hf:X.fn x=true\/X.env.scope.names.lookup x=some .local):wpAny M A (storeName X.env x u) Q E s:=by
 obtain⟨m,hn,hl⟩:=id I.loc;have hcls:(X.env.scope.kind == .class || (X.env.scope.kind == .module&&X.env.locals != X.env.globals))=false:=by rw[I.ok.kind];rfl
 have hiσ:i<σ.length:=by rw[I.len];exact (u_.mp hi).1
 have cne:=I.cne;have tracked:∀{a:Addr}{h':Heap},(∃o,s.heap.get? a=some o/\H a=none)->Heap.SameBut a s.heap h'->HOk X.prog X.w H h':=λ{a h'} ha hs b ob e=>by
  obtain⟨_,_,hfree⟩:=ha;refine (I.hok b ob e).stay (λc w' hc q=>(hs.2 c ?_).trans q) (λ_ q=>q) λ_ _ q=>q;rintro rfl;rcases hc with rfl |hc
  .rw[hfree] at e;cases e
  .rw[hfree] at hc;cases hc
 rcases hx with hk |hk
 .refine wpAny_storeName_local hk hn (λh' hn' hs=>?_) hcls;obtain⟨oL,_,_,hoL,_⟩:=id hn;refine h _ ⟨I.ok,I.os,I.bare,⟨λb o e n hb hx=>?_,λb o e n hb hx=>?_,I.base.free,λb o e hx=>?_,I.base.tups,I.base.frzs,I.base.tbls⟩,⟨_,hn',λj y v' e1 e2 e3=>?_⟩,λy c e=>?_,I.free,I.freeC,λp hp=>?_,tracked ⟨oL,hoL,I.free⟩ hs,by simpa using I.len⟩ ⟨_,hs,.inl rfl⟩
  .exact (hs.2 b (Ms (K_ (C_ e) I.ok.above))).trans (I.base.keep b o e n hb hx)
  .obtain⟨sl,e1⟩:=I.base.slot b o e n hb hx;exact⟨sl,(hs.2 b (Ms (K_ (C_ e) I.ok.above))).trans e1⟩
  .obtain⟨o',e1⟩:=I.base.there b o e hx;exact⟨o',(hs.2 b (Ms (K_ (C_ e) I.ok.above))).trans e1⟩
  .by_cases hj:j=i
   .subst hj;rw[hi] at e1;cases e1;rw[List.getElem?_set_self hiσ] at e2;cases e2;exact⟨u,r,.inl ⟨hk,by simp⟩⟩
   .rw[Oq (Ne.symm hj)] at e2;obtain⟨u',r',q⟩:=hl j y v' e1 e2 e3;refine⟨u',r',?_⟩;rcases q with ⟨k,e⟩ |⟨k,c,e,z⟩
    .refine .inl ⟨k,?_⟩;have:y≠x:=λe=>hj (tN hN e1 (e ▸ hi));simp [this,e]
    .exact .inr ⟨k,c,e,z.sameBut hs (cne y c e)⟩
  .obtain⟨w',z⟩:=I.cell y c e;exact⟨w',z.sameBut hs (cne y c e)⟩
  .obtain⟨e,n,ne,nf,d⟩:=I.pin p hp;exact⟨(hs.2 p.1 ne).trans e,n,ne,nf,d⟩
 .have hfn:X.fn x=true:=by
   rcases hf with z |z
   .exact z
   .rw[z] at hk;cases hk
  obtain⟨c,hc⟩:=I.ok.has x (.inl hk);obtain⟨w',z⟩:=I.cell x c hc;refine wpAny_storeName_cell I.ok.kind hk hc z (λh' hc' hs=>?_);obtain⟨oc,hoc,hocd⟩:=id z;refine h { s with heap:=h' } ⟨I.ok,I.os,I.bare,⟨λb o e n hb hx=>?_,λb o e n hb hx=>?_,I.base.free,λb o e hx=>?_,I.base.tups,I.base.frzs,I.base.tbls⟩,⟨m,hn.sameBut hs (Ne.symm (cne x c hc)),λj y v' e1 e2 e3=>?_⟩,λy c' e=>?_,I.free,I.freeC,λp hp=>?_,tracked ⟨oc,hoc,I.freeC x c hc⟩ hs,by simpa using I.len⟩ ⟨c,hs,.inr hc⟩
  .exact (hs.2 b (Ms (K_ (C_ e) (I.ok.cab x c hfn hc)))).trans (I.base.keep b o e n hb hx)
  .obtain⟨sl,e1⟩:=I.base.slot b o e n hb hx;exact⟨sl,(hs.2 b (Ms (K_ (C_ e) (I.ok.cab x c hfn hc)))).trans e1⟩
  .obtain⟨o',e1⟩:=I.base.there b o e hx;exact⟨o',(hs.2 b (Ms (K_ (C_ e) (I.ok.cab x c hfn hc)))).trans e1⟩
  .by_cases hj:j=i
   .subst hj;rw[hi] at e1;cases e1;rw[List.getElem?_set_self hiσ] at e2;cases e2;exact⟨u,r,.inr ⟨.inl hk,c,hc,hc'⟩⟩
   .rw[Oq (Ne.symm hj)] at e2;obtain⟨u',r',q⟩:=hl j y v' e1 e2 e3;refine⟨u',r',?_⟩;rcases q with q |⟨k,c',e,z'⟩
    .exact .inl q
    .refine .inr ⟨k,c',e,z'.sameBut hs ?_⟩;rintro rfl;exact hj (tN hN e1 (I.ok.inj _ _ _ e hc ▸ hi))
  .by_cases hcc:c'=c
   .subst hcc;exact⟨_,hc'⟩
   .obtain⟨w2,z2⟩:=I.cell y c' e;exact⟨w2,z2.sameBut hs hcc⟩
  .obtain⟨e,n,ne,nf,d⟩:=I.pin p hp;refine⟨(hs.2 p.1 ?_).trans e,n,ne,nf,d⟩;intro q;rw[q,hoc] at e;have q':oc=p.2:=J_ e;exact d w' (by rw[<- q'];exact hocd)
def gO(I:Inv X pins σ H s)(hN:X.N.Nodup)(hi:X.N[i]?=some x)(hx:Loc X.env.scope x)(r:RelV v u)
 (h:∀s',Inv X pins (σ.set i (some v)) H s'->Q () s') (hf:X.fn x=true\/X.env.scope.names.lookup x=some .local):wpAny M A (storeName X.env x u) Q E s:=
 pj I hN hi hx r (λs' I' _=>h s' I') hf
def Inv.call'(I:Inv X pins σ H s)(ho:s'.os=s.os)(u:Un (frs X.stack) ch H H' s.heap s'.heap)(hok:HOk X.prog X.w H' s'.heap)(hg:AllBare s'.gens)
 (hch:∀b∈ch,(b∈X.ex\/X.s₀.heap.objs.size<=b)/\b≠X.env.locals/\(∀x c,X.env.cells.lookup x=some c->c≠b)/\∀p∈X.pn++pins,p.1≠b):Inv X pins σ H' s':=by
 obtain⟨h',g',d',t',o'⟩:=s';have e:o'=s.os:=ho;subst e;exact I.call (g':=g') (t':=t') (d':=d') u hok hg hch
end
abbrev XK:=Value->Option Addr->Hp->Prop
abbrev St:=List (Option V)
abbrev VK:=V->Hp->Prop
abbrev TE:=St->Hp->VK->Prop
abbrev TT:=St->Hp->(Bool->Hp->Prop)->Prop
abbrev TA:=St->Hp->(List V->Hp->Prop)->Prop
structure Ends where
 nx:St->Hp->Prop
 rt:VK
 bk:St->Hp->Prop:=λ_ _=>False
 ct:St->Hp->Prop:=λ_ _=>False
abbrev TS:=Ends->St->Hp->Prop
def EP(X:Cx)(pins:Pq)(σ:St)(Q:VK)(u:Value)(s':Shared):Prop:=∃v H',Inv X pins σ H' s'/\RelV v u/\Q v H'
def TP(X:Cx)(pins:Pq)(σ:St)(Q:Bool->Hp->Prop)(b:Bool)(s':Shared):Prop:=∃H',Inv X pins σ H' s'/\Q b H'
def AP(X:Cx)(pins:Pq)(σ:St)(Q:List V->Hp->Prop)(us:List Value)(s':Shared):Prop:=∃vs H',Inv X pins σ H' s'/\Vals vs us/\Q vs H'
def SP(X:Cx)(pins:Pq)(D:Ends)(f:Flow)(s':Shared):Prop:=
 match f with
 |.next=>∃σ' H',Inv X pins σ' H' s'/\D.nx σ' H'
 |.brk=>∃σ' H',Inv X pins σ' H' s'/\D.bk σ' H'
 |.cont=>∃σ' H',Inv X pins σ' H' s'/\D.ct σ' H'
 |.ret u=>∃v σ' H',Inv X pins σ' H' s'/\RelV v u/\D.rt v H'
def exA{α:Type}{A B C:α->Hp->Prop}{Z:Prop}(h:∃v H',A v H'/\B v H'/\C v H')(k:∀v H',A v H'->B v H'->C v H'->Z):Z:=by obtain⟨v,H',a,b,c⟩:=h;exact k v H' a b c
def PE(X:Cx)(e:Expr)(t:TE):Prop:=
 ∀(pins:Pq) (s:Shared) (σ:St) (H:Hp) (Q:VK),Inv X pins σ H s->t σ H Q->wpAny (model X.prog X.w) X.A (eval e X.env) (EP X pins σ Q) X.xe s
def PT(X:Cx)(e:Expr)(t:TT):Prop:=
 ∀(pins:Pq) (s:Shared) (σ:St) (H:Hp) (Q:Bool->Hp->Prop),Inv X pins σ H s->t σ H Q->wpAny (model X.prog X.w) X.A (isTrue e X.env (eval e X.env)) (TP X pins σ Q) X.xe s
def PW(X:Cx)(e:Expr)(t:TT):Prop:=
 ∀(g_:Sem Value) (pins:Pq) (s:Shared) (σ:St) (H:Hp) (Q:Bool->Hp->Prop),Inv X pins σ H s->t σ H Q->wpAny (model X.prog X.w) X.A (isTrue e X.env g_) (TP X pins σ Q) X.xe s
def PW.pt(h:PW X e t):PT X e t:=h _
def PA(X:Cx)(es:List Expr)(t:TA):Prop:=
 ∀(pos:Pos) (pins:Pq) (s:Shared) (σ:St) (H:Hp) (Q:List V->Hp->Prop),Inv X pins σ H s->t σ H Q->wpAny (model X.prog X.w) X.A (spliced (backTo pos (starEach es X.env))) (AP X pins σ Q) X.xe s
def PS(X:Cx)(st:Stmt)(t:TS):Prop:=
 ∀(pins:Pq) (s:Shared) (σ:St) (H:Hp) (D:Ends),Inv X pins σ H s->t D σ H->wpAny (model X.prog X.w) X.A (exec st X.env) (SP X pins D) X.xe s
def PSs(X:Cx)(st:List Stmt)(t:TS):Prop:=
 ∀(pins:Pq) (s:Shared) (σ:St) (H:Hp) (D:Ends),Inv X pins σ H s->t D σ H->wpAny (model X.prog X.w) X.A (execs st X.env) (SP X pins D) X.xe s
def thn(h:wpAny M A t Q E s)(hQ:∀a s,Q a s->Q' a s):wpAny M A t Q' E s:=ML h hQ λ_ _ x=>x
section
variable{X:Cx}
def sA(i:Nat):TE:=λσ H Q=>∃v,σ[i]?=some (some v)/\Q v H
def tC(v:V):TE:=λ_ H Q=>Q v H
def mf(hN:X.N[i]?=some x)(hv:Vis X.env.scope x)(hd:(x==("__debug__" : Str))=false)(l_:(x==("__classdict__" : Str))=false):PE X (.Name x pos) (sA i):=by
 intro pins s σ H Q I h;obtain⟨v,e,h⟩:=h;obtain⟨m,hn,hl⟩:=I.loc;obtain⟨u,r,l⟩:=hl i x v hN e hv;have j_:EP X pins σ Q u s:=⟨v,H,I,r,h⟩;rcases l with ⟨hk,hm⟩ |⟨hk,c,hc,m_⟩
 .exact wpAny_Name (Pa I.ok.kind hk hn hm j_) hd
 .rcases hk with hk |hk
  .exact wpAny_Name (wpAny_loadName_cell I.ok.kind hk hc m_ j_) hd
  .exact wpAny_Name (wpAny_loadName_free I.ok.kind hk hc m_ j_ l_) hd
def Hi{i j pos}:PE X (.Constant (.int i) j pos) (tC (.int i)):=λ_ _ _ H _ I h=>wpAny_Constant_int ⟨.int i,H,I.tok _,⟨_,rfl⟩,h⟩
def L5{b j pos}:PE X (.Constant (.bool b) j pos) (tC (.bl b)):=λ_ _ _ H _ I h=>Constant_bool ⟨.bl b,H,I,rfl,h⟩
def Je{x j pos}:PE X (.Constant (.str x) j pos) (tC (.str x)):=λ_ _ _ H _ I h=>Calls.Constant_str ⟨.str x,H,I.tok _,⟨_,rfl⟩,h⟩
def Gl(X:Cx)(x:Str):Prop:=X.env.kindOf x=some .globalImplicit
def nO(I:Inv X pins σ H s)(hg:Gl X x)(hm:X.mg x=some u)(h:Q u s)
 (hd:(x==("__debug__" : Str))=false):wpAny (model X.prog X.w) X.A (eval (.Name x pos) X.env) Q E s:=
 Calls.Name_function_global I.ok.kind hg (Calls.loadGlobal_global (by rw[I.ok.glob];exact I.mod.glob.keeps I.bk) hm h) hd
def cW(I:Inv X pins σ H s)(hg:Gl X x)(hm:X.mg x=none)(hv:bootBuiltins x=some u)(h:Q u s)
 (hn:x ≠ "__name__":=by decide) (hd:(x==("__debug__" : Str))=false:=by decide):wpAny (model X.prog X.w) X.A (eval (.Name x pos) X.env) Q E s:=by
 obtain⟨mb,h1,h2⟩:=I.mod.blt;exact Calls.Name_function_global I.ok.kind hg (Calls.loadGlobal_builtin (by rw[I.ok.glob];exact I.mod.glob.keeps I.bk) hm (by rw[I.ok.blt];exact h1.keeps I.bk) ((h2 x hn).trans hv) h) hd
def vM(hg:Gl X x)(hm:X.mg x=some u)(r:RelV v u)(hd:(x==("__debug__" : Str))=false):PE X (.Name x pos) (tC v):=
 λ_ _ _ H _ I h=>nO I hg hm ⟨v,H,I,r,h⟩ hd
def Fb(hg:Gl X x)(hm:X.mg x=none)(hv:bootBuiltins x=some u)(r:RelV v u)(hn:x ≠ "__name__")(hd:(x==("__debug__" : Str))=false):PE X (.Name x pos) (tC v):=
 λ_ _ _ H _ I h=>cW I hg hm hv ⟨v,H,I,r,h⟩ hn hd
variable{a b:Expr}{ta tb:TE}{pos:Pos}
def tB(t:TE):TT:=λσ H Q=>t σ H λx H1=>∃c,x=.bl c/\Q c H1
def Ih(h:PE X e t)(he:∀g_,isTrue e X.env g_=(do let v <- g_;standAt e.pos;holding [v] (truthy v))):PT X e (tB t):=by intro pins s σ H Q I hw;refine isTrue_plain (thn (h pins s σ H _ I hw) λv s1 zz=>exA zz λx H1 I1 r1 q1=>?_) (he _);obtain⟨d,rfl,q⟩:=q1;cases r1;exact NB ⟨H1,I1,q⟩
variable{tA tB':TT}{cF:List Expr}
def tAnd(t u:TT):TT:=λσ H Q=>t σ H λc H1=>if c=true then u σ H1 Q else Q false H1
def tOr(t u:TT):TT:=λσ H Q=>t σ H λc H1=>if c=true then Q true H1 else u σ H1 Q
def tNot(t:TT):TT:=λσ H Q=>t σ H λc H1=>Q (!c) H1
def FI(ha:PT X a tA):PW X (.BoolOp .And [a] pos) tA:=by
 intro wh pins s σ H Q I h;refine isTrue_and (thn (ha pins s σ H Q I h) λc s1 e=>?_);cases c with
 |true=>exact isTrue_and_nil e
 |false=>exact e
def GK(ha:PT X a tA):PW X (.BoolOp .Or [a] pos) tA:=by
 intro wh pins s σ H Q I h;refine isTrue_or (thn (ha pins s σ H Q I h) λc s1 e=>?_);cases c with
 |false=>exact isTrue_or_nil e
 |true=>exact e
def Ip(ha:PT X a tA)(hb:PW X (.BoolOp .And (b::cF) pos) tB'):PW X (.BoolOp .And (a::b::cF) pos) (tAnd tA tB'):=by
 intro wh pins s σ H Q I h;refine isTrue_and (thn (ha pins s σ H _ I h) λc s1 ⟨H1,I1,q1⟩=>?_);cases c with
 |true=>exact hb wh pins s1 σ H1 Q I1 q1
 |false=>exact⟨H1,I1,q1⟩
def LN(ha:PT X a tA)(hb:PW X (.BoolOp .Or (b::cF) pos) tB'):PW X (.BoolOp .Or (a::b::cF) pos) (tOr tA tB'):=by
 intro wh pins s σ H Q I h;refine isTrue_or (thn (ha pins s σ H _ I h) λc s1 ⟨H1,I1,q1⟩=>?_);cases c with
 |true=>exact⟨H1,I1,q1⟩
 |false=>exact hb wh pins s1 σ H1 Q I1 q1
def G4(ha:PT X a tA):PT X (.UnaryOp .Not a pos) (tNot tA):=by intro pins s σ H Q I h;exact isTrue_not (ha pins s σ H (λc H1=>Q (!c) H1) I h)
def Lr(ta tb:TE):TE:=λσ H Q=>ta σ H λx H1=>∃c,x=.bl c/\if c=true then tb σ H1 Q else Q (.bl false) H1
def tOrV(ta tb:TE):TE:=λσ H Q=>ta σ H λx H1=>∃c,x=.bl c/\if c=true then Q (.bl true) H1 else tb σ H1 Q
def Le(ta:TE):TE:=λσ H Q=>ta σ H λx H1=>∃c,x=.bl c/\Q (.bl (!c)) H1
def HM{op}(h:PE X a t):PE X (.BoolOp op [a] pos) t:=λpins s σ H Q I hw=>BoolOp_one (h pins s σ H Q I hw)
def GL(ha:PE X a ta)(hb:PE X (.BoolOp .And (b::cF) pos) tb):PE X (.BoolOp .And (a::b::cF) pos) (Lr ta tb):=by
 intro pins s σ H Q I h;refine BoolOp_and (thn (ha pins s σ H _ I h) λv s1 zz=>exA zz λx H1 I1 r1 q1=>?_);obtain⟨c,rfl,q1⟩:=q1;cases r1;refine NB ?_;cases c with
 |true=>exact hb pins s1 σ H1 Q I1 q1
 |false=>exact⟨.bl false,H1,I1,rfl,q1⟩
def Kd(ha:PE X a ta)(hb:PE X (.BoolOp .Or (b::cF) pos) tb):PE X (.BoolOp .Or (a::b::cF) pos) (tOrV ta tb):=by
 intro pins s σ H Q I h;refine BoolOp_or (thn (ha pins s σ H _ I h) λv s1 zz=>exA zz λx H1 I1 r1 q1=>?_);obtain⟨c,rfl,q1⟩:=q1;cases r1;refine NB ?_;cases c with
 |false=>exact hb pins s1 σ H1 Q I1 q1
 |true=>exact⟨.bl true,H1,I1,rfl,q1⟩
def HI(ha:PE X a ta):PE X (.UnaryOp .Not a pos) (Le ta):=by intro pins s σ H Q I h;refine UnaryOp_ (thn (ha pins s σ H _ I h) λv s1 zz=>exA zz λx H1 I1 r1 q1=>?_);obtain⟨c,rfl,q1⟩:=q1;cases r1;exact not_of (NB ⟨.bl (!c),H1,I1,rfl,q1⟩)
end
def SqL(K:W.Frag)(H:Hp)(a:Addr)(xs:List V):Prop:=
 Rd H a (.lst xs)\/
  ∃(o:Obj) (its:Array Value) (n:Nat),K.lookup a=some o/\o.cls=.type "list" /\ o.dict=none/\o.data=.seq its n/\its.size<=sizeLine/\Vals xs its.toList
def SqT(K:W.Frag)(H:Hp)(a:Addr)(xs:List V):Prop:=
 Rd H a (.tup xs)\/
  ∃(o:Obj) (its:Array Value) (n:Nat),K.lookup a=some o/\o.cls=.type "tuple" /\ o.data=.seq its n/\its.size<=sizeLine/\Vals xs its.toList
noncomputable def absV:Value->Option V
 |.none=>some .non
 |.bool b=>some (.bl b)
 |.int i _=>some (.int i)
 |.str x _=>some (.str x)
 |.bytes b _=>some (.byt b)
 |.float b _=>some (.flt b)
 |.ref a=>some (.ref a)
 |.type n=>some (.ty n)
 |_=>none
def RelV.abs(r:RelV x u):absV u=some x:=by
 cases x with
 |non=>cases r;rfl
 |bl _=>cases r;rfl
 |int _=>obtain⟨t,rfl⟩:=r;rfl
 |str _=>obtain⟨t,rfl⟩:=r;rfl
 |byt _=>obtain⟨t,rfl⟩:=r;rfl
 |flt _=>obtain⟨t,rfl⟩:=r;rfl
 |ref _=>cases r;rfl
 |ty _=>cases r;rfl
def RelV.inj(r:RelV x u)(q:RelV y u):x=y:=J_ (r.abs.symm.trans q.abs)
def Vals.inj(r:Vals xs us)(q:Vals ys us):xs=ys:=by
 induction r generalizing ys with
 |nil=>cases q;rfl
 |
  cons r t ih=>
  cases q with
  |cons q t'=>rw[r.inj q,ih t']
section
variable{X:Cx}{pins:Pq}{σ:St}{H:Hp}{s:Shared}{a:Addr}{xs ys:List V}
def SqL.of{K:W.Frag}(h:H a=some (.lst xs)):SqL K H a xs:=.inl (.inl h)
def SqT.of{K:W.Frag}(h:H a=some (.tup xs)):SqT K H a xs:=.inl (.inl h)
def Inv.list(I:Inv X pins σ H s)(h:SqL X.K H a xs):∃its:List Value,Vals xs its/\PlainL s.heap a its.toArray/\xs.length<=sizeLine:=by
 rcases h with h |⟨o,its,n,hk,hc,hd,hs,hz,r⟩
 .obtain⟨z,its,n,r,e⟩:=h.ok I.hok;exact⟨its,r,⟨_,n,e,rfl,rfl,rfl⟩,z⟩
 .refine⟨its.toList,r,⟨o,n,I.kIn a o hk,hc,hd,by simpa using hs⟩,?_⟩;have e:=r.length;simp only[M0] at e;omega
def Inv.tuple(I:Inv X pins σ H s)(h:SqT X.K H a xs):∃its:List Value,Vals xs its/\IsTup s.heap a its.toArray/\xs.length<=sizeLine:=by
 rcases h with h |⟨o,its,n,hk,hc,hs,hz,r⟩
 .obtain⟨z,its,r,p⟩:=h.ok I.hok;exact⟨its,r,p,z⟩
 .refine⟨its.toList,r,⟨o,I.kIn a o hk,hc,n,by simpa using hs⟩,?_⟩;have e:=r.length;simp only[M0] at e;omega
def Inv.list_inj(I:Inv X pins σ H s)(h:SqL X.K H a xs)(h':SqL X.K H a ys):xs=ys:=by
 obtain⟨its,r,⟨o,n,e,_,_,d⟩,_⟩:=I.list h;obtain⟨its',r',⟨o',n',e',_,_,d'⟩,_⟩:=I.list h';rw[e] at e';cases e';rw[d] at d';injection d' with d1 _;have:its=its':=by simpa using MP Array.toList d1
 subst this;exact r.inj r'
def Inv.tuple_inj(I:Inv X pins σ H s)(h:SqT X.K H a xs)(h':SqT X.K H a ys):xs=ys:=by
 obtain⟨its,r,⟨o,e,_,n,d⟩,_⟩:=I.tuple h;obtain⟨its',r',⟨o',e',_,n',d'⟩,_⟩:=I.tuple h';rw[e] at e';cases e';rw[d] at d';injection d' with d1 _;have:its=its':=by simpa using MP Array.toList d1
 subst this;exact r.inj r'
end
section
variable{X:Cx}{st:Stmt}{cF:List Stmt}{t u:TS}{e:Expr}{te:TE}{pos:Pos}
def DZ:TS:=λD σ H=>D.nx σ H
def Dh(t u:TS):TS:=λD σ H=>t { D with nx:=u D } σ H
def uV:PSs X [] DZ:=λ_ _ σ H _ I h=>O_ ⟨σ,H,I,h⟩
def iX(h1:PS X st t)(h2:PSs X cF u):PSs X (st::cF) (Dh t u):=by
 intro pins s σ H D I h;refine wpAny_execs_cons (thn (h1 pins s σ H { D with nx:=u D } I h) λf s1 q=>?_);cases f with
 |next=>obtain⟨σ',H',I',q⟩:=q;exact h2 pins s1 σ' H' D I' q
 |ret v=>exact q
 |brk=>exact q
 |cont=>exact q
def Ew(h1:PS X st t):PSs X [st] t:=by
 intro pins s σ H D I h;refine wpAny_execs_cons (thn (h1 pins s σ H D I h) λf s1 q=>?_);cases f with
 |next=>exact O_ q
 |ret v=>exact q
 |brk=>exact q
 |cont=>exact q
def Hy:TS:=λD σ H=>D.bk σ H
def Bg:PS X (.Break pos) Hy:=λ_ _ σ H _ I h=>wpAny_Break ⟨σ,H,I,h⟩
def Inv.quiet(I:Inv X pins σ H s):interactive X.env=false:=by simp [interactive,I.ok.kind]
def DF(te:TE):TS:=λD σ H=>te σ H λ_ H1=>D.nx σ H1
def wc(he:PE X e te)(hs:swapsWith e none pos.line X.env=pure false):PS X (.Expr e pos) (DF te):=by intro pins s σ H D I h;exact wpAny_Expr_any (thn (he pins s σ H _ I h) λv s1 zz=>exA zz λx H1 I1 r1 q1=>⟨σ,H1,I1,q1⟩) I.quiet hs
def tRet(te:TE):TS:=λD σ H=>te σ H D.rt
def Jb(he:PE X e te):PS X (.Return (some e) pos) (tRet te):=by intro pins s σ H D I h;exact wpAny_Return_some (thn (he pins s σ H _ I h) λv s1 zz=>exA zz λx H1 I1 r1 q1=>⟨x,σ,H1,I1,r1,q1⟩)
def KH:TS:=λD _ H=>D.rt .non H
def Fs:PS X (.Return none pos) KH:=λ_ _ σ H _ I h=>wpAny_Return_none ⟨.non,σ,H,I,rfl,h⟩
def tIfS(c:TT)(t u:TS):TS:=λD σ H=>c σ H λb H1=>if b=true then t D σ H1 else u D σ H1
def K6(hc:PT X c tc)(ha:PSs X a t)(hb:PSs X b u):PS X (.If c a b pos) (tIfS tc t u):=by
 intro pins s σ H D I h;refine wpAny_If (thn (hc pins s σ H _ I h) λd s1 ⟨H1,I1,q1⟩=>?_);cases d with
 |true=>exact ha pins s1 σ H1 D I1 q1
 |false=>exact hb pins s1 σ H1 D I1 q1
end
abbrev TG:=V->St->Hp->(St->Hp->Prop)->Prop
abbrev TGs:=List V->St->Hp->(St->Hp->Prop)->Prop
def PG(X:Cx)(target:Expr)(t:TG):Prop:=
 ∀
  (pins:Pq) (s:Shared) (σ:St) (H:Hp) (v:V) (u:Value) (Q:St->Hp->Prop),Inv X pins σ H s->RelV v u->t v σ H Q->
  wpAny (model X.prog X.w) X.A (assign target X.env u) (λ_ s'=>∃σ' H',Inv X pins σ' H' s'/\Q σ' H') X.xe s
def PGs(X:Cx)(ts:List Expr)(t:TGs):Prop:=
 ∀
  (pins:Pq) (s:Shared) (σ:St) (H:Hp) (vs:List V) (us:List Value) (Q:St->Hp->Prop),Inv X pins σ H s->Vals vs us->t vs σ H Q->
  wpAny (model X.prog X.w) X.A (assignInOrder ((assignEach ts X.env).map (·.2)) us) (λ_ s'=>∃σ' H',Inv X pins σ' H' s'/\Q σ' H') X.xe s
abbrev rV:=V->V->V->Hp->(Hp->Prop)->Prop
def w9(X:Cx)(t:rV):Prop:=
 ∀
  (pins:Pq) (s:Shared) (σ:St) (H:Hp) (o i v:V) (ov iv u:Value) (Q:Hp->Prop),Inv X pins σ H s->RelV o ov->RelV i iv->RelV v u->t o i v H Q->
  wpAny (model X.prog X.w) X.A (setItem ov iv u) (λ_ s'=>∃H',Inv X pins σ H' s'/\Q H') X.xe s
abbrev TIp:=V->V->Hp->VK->Prop
def PIp(X:Cx)(op:Operator)(t:TIp):Prop:=
 ∀
  (pins:Pq) (s:Shared) (σ:St) (H:Hp) (x y:V) (v u:Value) (Q:VK),Inv X pins σ H s->RelV x v->RelV y u->t x y H Q->
  wpAny (model X.prog X.w) X.A (inplaceOp op v u) (EP X pins σ Q) X.xe s
section
variable{X:Cx}{pos:Pos}
def fo(i:Nat):TG:=λv σ H Q=>Q (σ.set i (some v)) H
def nG(hN:X.N.Nodup)(hi:X.N[i]?=some x)(hx:Loc X.env.scope x)(hf:X.fn x=true\/X.env.scope.names.lookup x=some .local):PG X (.Name x pos) (fo i):=by intro pins s σ H v u Q I r h;exact wpAny_assign_Name (gO I hN hi hx r (λs' I'=>⟨_,H,I',h⟩) hf)
def gNil:TGs:=λvs σ H Q=>vs=[]/\Q σ H
def Ki(t:TG)(u:TGs):TGs:=λvs σ H Q=>∃v r,vs=v::r/\t v σ H λσ' H'=>u r σ' H' Q
def EG:PGs X [] gNil:=by intro pins s σ H vs us Q I r h;obtain⟨e,h⟩:=h;subst e;cases r;exact assignInOrder_nil ⟨σ,H,I,h⟩
def BI(h1:PG X e t)(h2:PGs X es u)
 (hs:(assignEach (e::es) X.env).map (·.2)=assign e X.env::(assignEach es X.env).map (·.2)):PGs X (e::es) (Ki t u):=by
 intro pins s σ H vs us Q I r h;obtain⟨v,vr,e1,h⟩:=h;subst e1;cases r with
 |cons r rr=>rw[hs];refine assignInOrder_cons (thn (h1 pins s σ H _ _ _ I r h) λ_ s1 ⟨σ1,H1,I1,q1⟩=>?_);exact h2 pins s1 σ1 H1 _ _ Q I1 rr q1
def gTup(K:W.Frag)(n:Nat)(t:TGs):TG:=λv σ H Q=>∃a xs,v=.ref a/\SqT K H a xs/\xs.length=n/\t xs σ H Q
def Az(hc:X.calm=true)(h:PGs X es t)
 (hn:(assignEach es X.env).length=n) (hst:(assignEach es X.env).findIdx? (·.1)=none):PG X (.Tuple es k pos) (gTup X.K n t):=by
 intro pins s σ H v u Q I r hw;obtain⟨a,xs,e1,hq,hl,hw⟩:=hw;subst e1;cases r;obtain⟨its,rv,ht,hz⟩:=I.tuple hq;refine assign_Tuple_tuple (I.ok.hd hc) ht (by simp [hn,<- hl,rv.length]) hst λh' hx=>?_;have I1:Inv X pins σ H { s with heap:=h' }:=I.kept (t':=s.toks) λb o e=>hx b o (Ms (C_ e)) e;exact h pins _ σ H xs _ Q I1 (by simpa using rv) hw
def gSub(to ti:TE)(t:rV):TG:=λv σ H Q=>to σ H λo H1=>ti σ H1 λi H2=>t o i v H2 λH3=>Q σ H3
def GV(ho:PE X o to)(hi:PE X i ti)(hs:w9 X t)
 (ha:∀v,assign (.Subscript o i pos) X.env v=(do
  let ov <- holding [v] (eval o X.env)
  let iv <- holding [v,ov] (eval i X.env)
  standAt pos
  holding [v,ov,iv] (setItem ov iv v)
  release [v,ov,iv] [])):PG X (.Subscript o i pos) (gSub to ti t):=by
 intro pins s σ H v u Q I r h;rw[ha];refine o_ (Nq (thn (ho pins s σ H _ I h) λov s1 zz=>exA zz λx H1 I1 r1 q1=>?_));refine o_ (Nq (thn (hi pins s1 σ H1 _ I1 q1) λiv s2 zz=>exA zz λy H2 I2 r2 q2=>?_));refine o_ (Ox (o_ (Nq (thn (hs pins s2 σ H2 x y v ov iv u _ I2 r1 r2 r q2) λ_ s3 ⟨H3,I3,q3⟩=>?_))));exact wpAny_release ⟨σ,H3,I3,q3⟩
def r9(te:TE)(g:TG):TS:=λD σ H=>te σ H λx H1=>g x σ H1 D.nx
def Af(he:PE X e te)(hg:PG X tg g)(hs:swapsWithSole [tg] e pos.line X.env=pure false)(hw:swappedStores [tg] e X.env=pure none)
 (h1:(assignEach [tg] X.env).map (·.2)=[assign tg X.env]):PS X (.Assign [tg] e pos) (r9 te g):=by
 intro pins s σ H D I h;refine wpAny_Assign_stores (thn (he pins s σ H _ I h) λv s1 zz=>exA zz λx H1 I1 r1 q1=>?_) hs hw;rw[h1];exact thn (hg pins s1 σ H1 x v _ I1 r1 q1) λ_ s2 q=>q
def Ie(hN:X.N.Nodup)(hi:X.N[i]?=some x)(hx:Loc X.env.scope x)(he:PE X e te)(hs:swapsWith e (some (.Name x k_)) pos.line X.env=pure false)(hf:X.fn x=true\/X.env.scope.names.lookup x=some .local):
 PS X (.Assign [.Name x k_] e pos) (r9 te (fo i)):=by
 intro pins s σ H D I h;refine wpAny_Assign_Name (thn (he pins s σ H _ I h) λv s1 zz=>exA zz λy H1 I1 r1 q1=>?_) hs;exact gO I1 hN hi hx r1 (λs2 I2=>⟨_,H1,I2,q1⟩) hf
def tPar(i j:Nat)(ta:TA):TS:=λD σ H=>ta σ H λvs H1=>∃v w,vs=[v,w]/\D.nx ((σ.set i (some v)).set j (some w)) H1
def Gw{kt k2 pt2}(hc:X.calm=true)(hN:X.N.Nodup)(hi:X.N[i]?=some x)(hj:X.N[j]?=some y)(hij:i≠j)
 (hx:X.env.scope.names.lookup x=some .local) (hy:X.env.scope.names.lookup y=some .local) (ha:PA X [a,b] ta)
 (hw:swappedStores [.Tuple [.Name x px,.Name y py] kt pt] (.Tuple [a,b] k2 pt2) X.env=pure (some [x,y]))
 (hs:swapsWithSole [.Tuple [.Name x px,.Name y py] kt pt] (.Tuple [a,b] k2 pt2) pos.line X.env=pure false):
 PS X (.Assign [.Tuple [.Name x px,.Name y py] kt pt] (.Tuple [a,b] k2 pt2) pos) (tPar i j ta):=by
 intro pins s σ H D I h;rw[exec_Assign_arm];refine o_ (Ox ?_);rw[hs];refine o_ (B_ ?_);rw[if_neg (by decide)];refine o_ (Tuple_ (thn (ha _ pins s σ H _ I h) λus s1 zz=>exA zz λvs H1 I1 r1 q1=>?_));obtain⟨v,w,e1,q1⟩:=q1;subst e1;obtain⟨u1,u2,rfl,rv,rw'⟩:∃u1 u2,us=[u1,u2]/\RelV v u1/\RelV w u2:=by
  cases r1 with
  |
   cons p q=>
   cases q with
   |cons p' q'=>cases q';exact⟨_,_,rfl,p,p'⟩
 refine Nc ?_ (by show 2<=sizeLine;decide);have I2:Inv X pins σ H1 { s1 with heap:=s1.heap.push { cls:=.type "tuple",data:=.seq [u1,u2].toArray } }:=I1.kept (t':=s1.toks) λb o e=>r_ _ e;rw[hw];refine o_ (B_ ?_);show wpAny (model X.prog X.w) X.A (do rule "assign.swapped-stores";let items <- unpackItems (.ref s1.heap.objs.size) 2 none;assignInOrder [λv=>bindName X.env y v,λv=>bindName X.env x v] items.reverse;pure Flow.next) _ _ _;refine o_ (wpAny_rule (o_ (unpackItems_tuple (items:=#[u1,u2]) (I.ok.hd hc) (IsTup.new s1.heap _) λh' hx'=>?_)));have I3:=I2.kept (h':=h') (t':=s1.toks) λb o e=>hx' b o (Ms (C_ e)) e;show wpAny _ _ (assignInOrder [λv=>bindName X.env y v,λv=>bindName X.env x v] [u2,u1] >>= λ_=>pure Flow.next) _ _ _;refine o_ (assignInOrder_cons (wpAny_bindName (gO I3 hN hj (.inl hy) rw' (λs2 I4=>?_) (.inr hy))));refine assignInOrder_cons (wpAny_bindName (gO I4 hN hi (.inl hx) rv (λs3 I5=>assignInOrder_nil (B_ ?_)) (.inr hx)));rw[List.set_comm _ _ (Ne.symm hij)] at I5;exact⟨_,H1,I5,q1⟩
def tAug(i:Nat)(te:TE)(ti:TIp):TS:=λD σ H=>∃x,σ[i]?=some (some x)/\te σ H λy H1=>ti x y H1 λz H2=>D.nx (σ.set i (some z)) H2
def Jc(hN:X.N.Nodup)(hi:X.N[i]?=some x)(hx:Loc X.env.scope x)(he:PE X e te)(ho:PIp X op ti)(hf:X.fn x=true\/X.env.scope.names.lookup x=some .local):
 PS X (.AugAssign (.Name x k_) op e pos) (tAug i te ti):=by
 intro pins s σ H D I h;obtain⟨v,e1,h⟩:=h;obtain⟨m,hn,hl⟩:=I.loc;have vis:Vis X.env.scope x:=by rcases hx with k |k;exact .inl k;exact .inr (.inl k)
 obtain⟨u,r,l⟩:=hl i x v hi e1 vis;refine wpAny_AugAssign_Name ?_;have go:wpAny (model X.prog X.w) X.A (eval e X.env) (λw s₂=>wpAny (model X.prog X.w) X.A (inplaceOp op u w) (λr s₃=>wpAny (model X.prog X.w) X.A (storeName X.env x r) (λ_=>SP X pins D .next) X.xe s₃) X.xe s₂) X.xe s:=by refine thn (he pins s σ H _ I h) λw s1 zz=>exA zz λy H1 I1 r1 q1=>?_;refine thn (ho pins s1 σ H1 v y u w _ I1 r r1 q1) λz s2 zz=>exA zz λzv H2 I2 r2 q2=>?_;exact gO I2 hN hi hx r2 (λs3 I3=>⟨_,H2,I3,q2⟩) hf
 rcases l with ⟨hk,hm⟩ |⟨hk,c,hc,m_⟩
 .exact Pa I.ok.kind hk hn hm go
 .rcases hk with hk |hk
  .exact wpAny_loadName_cell I.ok.kind hk hc m_ go
  .rcases hx with k |k
   .have:X.env.scope.names.lookup x=some .free:=hk;rw[k] at this;cases this
   .have:X.env.scope.names.lookup x=some .free:=hk;rw[k] at this;cases this
def ipI(f:Int->Int->Int):TIp:=λx y H Q=>∃i j,x=.int i/\y=.int j/\Q (.int (f i j)) H
def GX:PIp X .Add (ipI λi j=>i+j):=by intro pins s σ H x y v u Q I r1 r2 h;obtain⟨i,j,e1,e2,q⟩:=h;subst e1;subst e2;obtain⟨t,rfl⟩:=r1;obtain⟨t',rfl⟩:=r2;exact iadd_int ⟨.int _,H,I.tok _,⟨_,rfl⟩,q⟩
def Ia(c:TT)(tb:TS):TS:=λD σ H=>∃W:Nat->St->Hp->Prop,(∃m,W m σ H)/\∀m σ H,W m σ H->
 c σ H λb H1=>if b=true then ∃N:St->Hp->Prop,(∀σ' H',N σ' H'->∃m',m'<m/\W m' σ' H')/\tb { D with nx:=N,ct:=N,bk:=D.nx } σ H1 else D.nx σ H1
def CU(hp:PassesOwn (model X.prog X.w) X.A X.env X.xe)(hc:PT X c tc)(hb:PSs X body tb):PS X (.While c body [] pos) (Ia tc tb):=by
 intro pins s σ H D I h;obtain⟨W,⟨m0,w0⟩,turn⟩:=h;refine wpAny_While (codeAny_whileLoop (λn s'=>∃σ' H',Inv X pins σ' H' s'/\W n σ' H') ?_ m0 ⟨σ,H,I,w0⟩);rintro n s1 ⟨σ1,H1,I1,w1⟩;refine NT hp (thn (hc pins s1 σ1 H1 _ I1 (turn n σ1 H1 w1)) λb s2 ⟨H2,I2,q2⟩=>?_);cases b with
 |
  true=>
  obtain⟨N,hN,q2⟩:=q2;rw[if_pos rfl];refine NT hp (thn (hb pins s2 σ1 H2 _ I2 q2) λf s3 q3=>?_);cases f with
  |next=>obtain⟨σ3,H3,I3,n3⟩:=q3;obtain⟨m',hm,w3⟩:=hN σ3 H3 n3;exact⟨m',hm,σ3,H3,I3,w3⟩
  |cont=>obtain⟨σ3,H3,I3,n3⟩:=q3;obtain⟨m',hm,w3⟩:=hN σ3 H3 n3;exact⟨m',hm,σ3,H3,I3,w3⟩
  |brk=>exact q3
  |ret v=>exact q3
 |false=>rw[if_neg y_];exact O_ ⟨σ1,H2,I2,q2⟩
end
structure It where
 go:Nat->Hp->Prop
 yld:Nat->Hp->V->Hp->Prop
 stop:Nat->Hp->Prop
def FpOk(X:Cx)(pins:Pq)(H:Hp)(b:Addr):Prop:=
 H b=none/\b≠X.env.locals/\b∉X.fs/\(b∈X.ex\/X.s₀.heap.objs.size<=b)/\(∀x c,X.env.cells.lookup x=some c->c≠b)/\∀p∈X.pn++pins,p.1≠b
def Inv.fpOk(I:Inv X pins σ H s)(hb:s.heap.objs.size<=b)(hn:H' b=none):FpOk X pins H' b:=by
 refine⟨hn,Om (K_ I.lt hb),I.nofs hb,.inr (My I.sz hb),λx c e z=>?_,λp hp z=>?_⟩
 .obtain⟨v,q⟩:=I.cell x c e;exact absurd (K_ q.lt (by rw[z];exact hb)) (Na _)
 .exact absurd (K_ (C_ (I.pin p hp).1) (by rw[z];exact hb)) (Na _)
structure Turn(P:Program)(w:World)(K:W.Frag)(tg:Expr)(J:It)(fp:List Addr)(it:Addr)(tn:Nat->Heap->Prop):Prop where
 mem:it∈fp
 obj:∀i h,tn i h->∀b∈fp,∃o,h.get? b=some o/\∀v,o.data ≠ .cell v
 keep:∀i h h',tn i h->(∀b∈fp,∀o,h.get? b=some o->h'.get? b=some o)->tn i h'
 item:∀(X:Cx),X.prog=P->X.w=w->X.K=K->X.calm=true->∀(i:Nat) (pins:Pq) (s:Shared) (σ:St) (H:Hp) (E:Pu),Inv X pins σ H s->(∀b∈fp,FpOk X pins H b)->tn i s.heap->J.go i H->
  wpAny (model P w) X.A (pyNext (.ref it)) (λr s1=>∃u,r=some u/\
   wpAny (model P w) X.A (letOwnedTupleGo tg (.ref it) u) (λ_ s2=>∃x H',Inv X pins σ H' s2/\RelV x u/\J.yld i H x H'/\tn (i+1) s2.heap/\∀b∈fp,H' b=none) E s1) E s
 done:∀(X:Cx),X.prog=P->X.w=w->X.K=K->X.calm=true->∀(i:Nat) (pins:Pq) (s:Shared) (σ:St) (H:Hp) (E:Pu),Inv X pins σ H s->(∀b∈fp,FpOk X pins H b)->tn i s.heap->J.stop i H->
  wpAny (model P w) X.A (pyNext (.ref it)) (λr s1=>r=none/\Inv X pins σ H s1) E s
 self:∀(A:Around) (i:Nat) (s:Shared) (Q:Pu) (E:Pu),tn i s.heap->Q (.ref it) s->wpAny (model P w) A (pyIter (.ref it)) Q E s
abbrev TI:=St->Hp->(It->Hp->Prop)->Prop
def PIE(X:Cx)(pins:Pq)(σ:St)(tg:Expr)(R:It->Hp->Prop)(itv:Value)(s2:Shared):Prop:=
 ∃(it:Addr) (fp:List Addr) (tn:Nat->Heap->Prop) (J:It) (H':Hp),itv=.ref it/\Inv X pins σ H' s2/\Turn X.prog X.w X.K tg J fp it tn/\tn 0 s2.heap/\(∀b∈fp,FpOk X pins H' b)/\R J H'
def PI(X:Cx)(tg iter:Expr)(wi:TI):Prop:=
 ∀
  (pins:Pq) (s:Shared) (σ:St) (H:Hp) (R:It->Hp->Prop),Inv X pins σ H s->wi σ H R->
  wpAny (model X.prog X.w) X.A (eval iter X.env) (λv s1=>wpAny (model X.prog X.w) X.A (pyIter v) (PIE X pins σ tg R) X.xe s1) X.xe s
def xa(ho:s.heap.get? it=some o)(hc:o.cls=.type n)(hd:o.data=.fields vs)
 (hn:["enumerate", "zip", "dict_itemiterator", "dict_reverseitemiterator", "odict_iterator", "itertools.zip_longest", "itertools.pairwise"].contains n=false) (hQ:Q () s):wpAny M A (letOwnedTupleGo tg (.ref it) u) Q E s:=by
 unfold letOwnedTupleGo;cases tg
  <;> first
  |exact B_ hQ
  |(cases u <;> first
   |exact B_ hQ
   |(
    refine o_ (wpAny_load ho ?_);rw[hc,hd];show wpAny M A (if (["enumerate", "zip", "dict_itemiterator", "dict_reverseitemiterator", "odict_iterator", "itertools.zip_longest", "itertools.pairwise"].contains n&&vs[0]?==some (rawInt _))=true then _ else _) Q E s;rw[if_neg (by intro h;rw[hn,Bool.false_and] at h;cases h)];exact B_ hQ))
noncomputable def Itl (K:W.Frag) (a:Addr):It:=
 ⟨λi H=>∃xs x,SqL K H a xs/\xs[i]?=some x,λi H x H'=>H'=H/\∀xs,SqL K H a xs->xs[i]?=some x,λi H=>∃xs,SqL K H a xs/\xs.length<=i⟩
noncomputable def Itt (K:W.Frag) (a:Addr):It:=
 ⟨λi H=>∃xs x,SqT K H a xs/\xs[i]?=some x,λi H x H'=>H'=H/\∀xs,SqT K H a xs->xs[i]?=some x,λi H=>∃xs,SqT K H a xs/\xs.length<=i⟩
noncomputable def Itr (lo:Int) (n:Nat):It:=⟨λi _=>i<n,λi H x H'=>H'=H/\x=.int (lo+i),λi _=>n<=i⟩
def Ao{P:Program}{w:World}{K:W.Frag}{tg:Expr}(a it:Addr):Turn P w K tg (Itl K a) [it] it (λi h=>h.IsListIter it a i) where
 mem:=by simp
 obj:=λi h st b hb=>by
  have e:b=it:=by simpa using hb
  subst e;obtain⟨o,e,c,d⟩:=st;exact⟨o,e,λv z=>by rw[d] at z;cases z⟩
 keep:=λi h h' st k=>st.at λo e=>k it (by simp) o e
 item:=by intro X hP hw hK hc i pins s σ H E I hf st hg;subst hP hw hK;obtain⟨xs,x,hq,hx⟩:=hg;obtain⟨its,rv,p,hz⟩:=I.list hq;obtain⟨u,hu,ru⟩:=rv.get hx;obtain⟨f0,f1,f2,f3,f4,f5⟩:=hf it (by simp);refine wpAny_pyNext_list_item st p.isList (x:=u) (by simpa using hu) λh' st' sb=>?_;have I1:Inv X pins σ H { s with heap:=h' }:=I.turned (t':=s.toks) (λb o hb e=>(sb.2 b hb).trans e) f0 f1 f3 f4 f5;obtain⟨o,e,c,d⟩:=id st';exact⟨u,rfl,xa (s:={ s with heap:=h' }) e c d (by decide) ⟨x,H,I1,ru,⟨rfl,λys hy=>by rw[I.list_inj hy hq];exact hx⟩,st',λb hb=>(hf b hb).1⟩⟩
 done:=by intro X hP hw hK hc i pins s σ H E I hf st hg;subst hP hw hK;obtain⟨xs,hq,hx⟩:=hg;obtain⟨its,rv,p,hz⟩:=I.list hq;obtain⟨f0,f1,f2,f3,f4,f5⟩:=hf it (by simp);have hl:=rv.length;exact wpAny_pyNext_list_end (I.ok.hd hc) st p.isList (by simp;omega) λh' eb=>⟨rfl,I.turned (t':=s.toks) (λb o hb e=>eb b o hb e) f0 f1 f3 f4 f5⟩
 self:=λ_ _ _ _ _ st h=>wpAny_pyIter_listiter st h
def wX{P:Program}{w:World}{K:W.Frag}{tg:Expr}(a it:Addr):Turn P w K tg (Itt K a) [it] it (λi h=>h.IsTupleIter it a i) where
 mem:=by simp
 obj:=λi h st b hb=>by
  have e:b=it:=by simpa using hb
  subst e;obtain⟨o,e,c,d⟩:=st;exact⟨o,e,λv z=>by rw[d] at z;cases z⟩
 keep:=λi h h' st k=>st.at λo e=>k it (by simp) o e
 item:=by intro X hP hw hK hc i pins s σ H E I hf st hg;subst hP hw hK;obtain⟨xs,x,hq,hx⟩:=hg;obtain⟨its,rv,p,hz⟩:=I.tuple hq;obtain⟨u,hu,ru⟩:=rv.get hx;obtain⟨f0,f1,f2,f3,f4,f5⟩:=hf it (by simp);refine wpAny_pyNext_tuple_item st (show s.heap.IsTuple a its.toArray from p) (x:=u) (by simpa using hu) λh' st' sb=>?_;have I1:Inv X pins σ H { s with heap:=h' }:=I.turned (t':=s.toks) (λb o hb e=>(sb.2 b hb).trans e) f0 f1 f3 f4 f5;obtain⟨o,e,c,d⟩:=id st';exact⟨u,rfl,xa (s:={ s with heap:=h' }) e c d (by decide) ⟨x,H,I1,ru,⟨rfl,λys hy=>by rw[I.tuple_inj hy hq];exact hx⟩,st',λb hb=>(hf b hb).1⟩⟩
 done:=by intro X hP hw hK hc i pins s σ H E I hf st hg;subst hP hw hK;obtain⟨xs,hq,hx⟩:=hg;obtain⟨its,rv,p,hz⟩:=I.tuple hq;obtain⟨f0,f1,f2,f3,f4,f5⟩:=hf it (by simp);have hl:=rv.length;exact wpAny_pyNext_tuple_end (I.ok.hd hc) st (show s.heap.IsTuple a its.toArray from p) (by simp;omega) λh' eb=>⟨rfl,I.turned (t':=s.toks) (λb o hb e=>eb b o hb e) f0 f1 f3 f4 f5⟩
 self:=λ_ _ _ _ _ st h=>wpAny_pyIter_tupleiter st h
def xx{P:Program}{w:World}{K:W.Frag}{tg:Expr}(it:Addr)(lo:Int)(n:Nat):Turn P w K tg (Itr lo n) [it] it (λi h=>IsRangeIter h it (lo+(i:Nat)*1) ((n:Int)-(i:Nat)) 1) where
 mem:=by simp
 obj
  := λi h st b hb=>by
  have e:b=it:=by simpa using hb
  subst e;exact⟨_,st,λv z=>by have z':Data.fields _=Data.cell v:=z;cases z'⟩
 keep:=λi h h' st k=>k it (by simp) _ st
 item:=by intro X hP hw hK hc i pins s σ H E I hf st hg;subst hP hw hK;obtain⟨f0,f1,f2,f3,f4,f5⟩:=hf it (by simp);have W:=Walks.range (prog:=X.prog) (w:=X.w) (I.ok.hd hc) it lo 1 n;refine W.item i s _ _ hg st λv h' tk hv st' kk=>?_;obtain⟨t,rfl⟩:=hv;have I1:Inv X pins σ H { s with heap:=h',toks:=tk }:=I.turned (λb o hb e=>kk b o (by simpa using hb) e) f0 f1 f3 f4 f5;refine⟨_,rfl,xa (s:={ s with heap:=h',toks:=tk }) (n:="range_iterator") st' rfl rfl (by decide) ⟨.int (lo+i),H,I1,⟨t,?_⟩,⟨rfl,rfl⟩,st',λb hb=>(hf b hb).1⟩⟩;rw[Int.mul_one]
 done:=by intro X hP hw hK hc i pins s σ H E I hf st hg;subst hP hw hK;obtain⟨f0,f1,f2,f3,f4,f5⟩:=hf it (by simp);exact wpAny_pyNext_range_end (I.ok.hd hc) st (by have:n<=i:=hg;omega) λh' eb=>⟨rfl,I.turned (t':=s.toks) (λb o hb e=>eb b o hb e) f0 f1 f3 f4 f5⟩
 self:=λ_ _ _ _ _ st h=>wpAny_pyIter_rangeiter st h
section
variable{X:Cx}{tg:Expr}
def rW{pins:Pq}{σ:St}{H:Hp}{s:Shared}{R:It->Hp->Prop}{E:Pu}{lo hi:Int}{t u v:Tok}{tk:Nat}(I:Inv X pins σ H s)(h1:-(2^62)<=lo)(h2:lo<2^62)(h3:-(2^62)<=hi)(h4:hi<2^62)
 (q:R (Itr lo (hi-lo).toNat) H):wpAny (model X.prog X.w) X.A (pyIter (.ref s.heap.objs.size)) (PIE X pins σ tg R) E { s with heap:=s.heap.push { cls:=.type "range",data:=.fields #[.int lo t,.int hi u,.int 1 v] },toks:=tk }:=by
 refine wpAny_pyIter_range (IsRange.new ..) (small_one h1 h2 h3 h4) ?_;have I1:Inv X pins σ H { s with heap:=s.heap.push { cls:=.type "range",data:=.fields #[.int lo t,.int hi u,.int 1 v] },toks:=tk }:=I.kept λb o e=>r_ _ e;refine⟨(s.heap.push { cls:=.type "range",data:=.fields #[.int lo t,.int hi u,.int 1 v] }).objs.size,[(s.heap.push { cls:=.type "range",data:=.fields #[.int lo t,.int hi u,.int 1 v] }).objs.size],_,_,H,rfl,
  I1.kept (t':=tk) λb o e=>r_ _ e,xx _ lo (hi-lo).toNat,?_,λb hb=>?_,q⟩
 .have e1:lo+((0:Nat):Int)*1=lo:=by simp
  have e2:(((hi-lo).toNat:Nat):Int)-((0:Nat):Int)=Builtin.Range.rangeSize lo hi 1:=by rw[Pm];split <;> omega
  show IsRangeIter _ _ (lo+((0:Nat):Int)*1) ((((hi-lo).toNat:Nat):Int)-((0:Nat):Int)) 1;rw[e1,e2];exact G_ _ rfl
 .have e:b=(s.heap.push { cls:=.type "range",data:=.fields #[.int lo t,.int hi u,.int 1 v] }).objs.size:=by simpa using hb
  subst e;exact I1.fpOk (t_ _) (I1.hok.fresh (t_ _))
def Ky(ta:TA):TI:=λσ H R=>ta σ H λvs H1=>∃j:Int,vs=[.int j]/\-(2^62)<=j/\j<2^62/\R (Itr 0 j.toNat) H1
def Ls(ta:TA):TI:=λσ H R=>ta σ H λvs H1=>∃i j:Int,vs=[.int i,.int j]/\(-(2^62)<=i/\i<2^62/\-(2^62)<=j/\j<2^62)/\R (Itr i (j-i).toNat) H1
def zJ(hg:Gl X "range")(hm:X.mg "range"=none)(ha:PA X [a] ta)(hs:starEach [a] X.env=[(false,eval a X.env)]):PI X tg (.Call (.Name "range" p) [a] [] pos) (Ky ta):=by
 intro pins s σ H R I h;refine Call_ (cW I hg hm boot_range (MM (thn (ha pos pins s σ H _ I h) λus s1 zz=>exA zz λvs H1 I1 r1 q1=>?_) hs rfl));obtain⟨j,e,q1,q2,q⟩:=q1;subst e;cases r1 with
 |cons r rr=>cases rr;obtain⟨t,rfl⟩:=r;exact call_range_1 (rW I1 (by omega) (by omega) q1 q2 (by simpa using q))
def yN(hg:Gl X "range")(hm:X.mg "range"=none)(ha:PA X [a,b] ta)(hs:starEach [a,b] X.env=[(false,eval a X.env),(false,eval b X.env)])(hs2:starEach [b] X.env=[(false,eval b X.env)]):
 PI X tg (.Call (.Name "range" p) [a,b] [] pos) (Ls ta):=by
 intro pins s σ H R I h;refine Call_ (cW I hg hm boot_range (MM (thn (ha pos pins s σ H _ I h) λus s1 zz=>exA zz λvs H1 I1 r1 q1=>?_) (by rw[hs,hs2]) (by rw[hs2];rfl)));obtain⟨i,j,e,⟨q1,q2,q3,q4⟩,q⟩:=q1;subst e;cases r1 with
 |
  cons r rr=>
  cases rr with
  |cons r' rr=>cases rr;obtain⟨t,rfl⟩:=r;obtain⟨t',rfl⟩:=r';exact call_range_2 (rW I1 q1 q2 q3 q4 q)
def CD(wi:TI)(g:TG)(tb:TS):TS:=λD σ H=>wi σ H λJ H1=>∃W:Nat->Nat->St->Hp->Prop,(∃m,W 0 m σ H1)/\∀i m σ H,W i m σ H->
 (J.stop i H/\D.nx σ H)\/(J.go i H/\∃N:St->Hp->Prop,(∀σ' H',N σ' H'->∃m',m'<m/\W (i+1) m' σ' H')/\∀x H',J.yld i H x H'->g x σ H' λσ2 H2=>tb { D with nx:=N,ct:=N,bk:=D.nx } σ2 H2)
noncomputable def jG (fp:List Addr) (h:Heap):List (Addr×Obj):=fp.filterMap λb=>(h.get? b).map λo=>(b,o)
def gw(hb:b∈fp)(e:h.get? b=some o):(b,o)∈jG fp h:=List.mem_filterMap.mpr ⟨b,hb,by rw[e];rfl⟩
def AI(hp:p∈jG fp h):p.1∈fp/\h.get? p.1=some p.2:=by
 obtain⟨b,hb,e⟩:=List.mem_filterMap.mp hp;cases q:h.get? b with
 |none=>rw[q] at e;cases e
 |some o=>rw[q] at e;have e':(b,o)=p:=J_ e;subst e';exact⟨hb,q⟩
def Inv.pinned(I:Inv X pins σ H s)(hf:∀b∈fp,FpOk X pins H b)(ho:∀b∈fp,∃o,s.heap.get? b=some o/\∀v,o.data ≠ .cell v):Inv X (pins++jG fp s.heap) σ H s:=
 I.pins_of λp hp=>(MQ.mp hp).elim (λz=>I.pin p (Mv _ z)) λz=>by obtain⟨hb,e⟩:=AI z;obtain⟨f0,f1,f2,_⟩:=hf p.1 hb;obtain⟨o,e',d⟩:=ho p.1 hb;rw[e] at e';cases e';exact⟨e,f0,f1,f2,d⟩
def Inv.unpinned(I:Inv X (pins++pl) σ H s):Inv X pins σ H s:=I.pins_of λp hp=>I.pin p (Mv _ (Ot _ hp))
def An(hp:PassesOwn (model X.prog X.w) X.A X.env X.xe)(hc:X.calm=true)(hi:PI X tg iter wi)(hg:PG X tg g)(hb:PSs X body tb)
 (hs:∀x,foldedSetIterable iter X.env x=pure x):PS X (.For tg iter body [] pos) (CD wi g tb):=by
 intro pins s σ H D I h;refine wpAny_For (thn (hi pins s σ H _ I h) λv s1 h1=>thn h1 λitv s2 h2=>?_) hs;obtain⟨it,fp,tn,J,H2,e,I2,T,st2,f2,W,⟨m0,w0⟩,turn⟩:=h2;subst e;have stat:∀{H':Hp},(∀b∈fp,H' b=none)->∀b∈fp,FpOk X pins H' b:=λhn b hb=>⟨hn b hb,(f2 b hb).2⟩;refine codeAny_forLoop_any (λn s'=>∃i σ' H',Inv X pins σ' H' s'/\tn i s'.heap/\(∀b∈fp,H' b=none)/\W i n σ' H') ?_ m0 ⟨0,σ,H2,I2,st2,λb hb=>(f2 b hb).1,w0⟩;rintro n s3 ⟨i,σ3,H3,I3,st3,fr3,w3⟩;rcases turn i n σ3 H3 w3 with ⟨stop,qn⟩ |⟨go,N,hN,step⟩
 .refine NT hp (thn (T.done X rfl rfl rfl hc i pins s3 σ3 H3 X.xe I3 (stat fr3) st3 stop) λr s4 ⟨hr,I4⟩=>?_);subst hr;exact O_ ⟨σ3,H3,I4,qn⟩
 .refine NT hp (thn (T.item X rfl rfl rfl hc i pins s3 σ3 H3 X.xe I3 (stat fr3) st3 go) λr s4 ⟨u,hr,h4⟩=>?_);subst hr;refine NT hp (thn h4 λ_ s5 ⟨x,H5,I5,r5,y5,st5,fr5⟩=>?_);have I5':=I5.pinned (stat fr5) (T.obj _ _ st5);refine NT hp (thn (hg _ s5 σ3 H5 x u _ I5' r5 (step x H5 y5)) λ_ s6 ⟨σ6,H6,I6,q6⟩=>?_);refine NT hp (thn (hb _ s6 σ6 H6 _ I6 q6) λf s7 q7=>?_);have again:∀{σ7:St}{H7:Hp},Inv X (pins++jG fp s5.heap) σ7 H7 s7->N σ7 H7->∃m,m<n/\∃i σ' H',Inv X pins σ' H' s7/\tn i s7.heap/\(∀b∈fp,H' b=none)/\W i m σ' H':=λ{σ7 H7} I7 n7=>by obtain⟨m',hm,w7⟩:=hN σ7 H7 n7;refine⟨m',hm,i+1,σ7,H7,I7.unpinned,T.keep _ _ _ st5 λb hb o e=>(I7.pin (b,o) (Mv _ (Mv _ (gw hb e)))).1,λb hb=>?_,w7⟩;obtain⟨o,e,d⟩:=T.obj _ _ st5 b hb;exact (I7.pin (b,o) (Mv _ (Mv _ (gw hb e)))).2.1
  cases f with
  |next=>obtain⟨σ7,H7,I7,n7⟩:=q7;exact again I7 n7
  |cont=>obtain⟨σ7,H7,I7,n7⟩:=q7;exact again I7 n7
  |brk=>obtain⟨σ7,H7,I7,q7⟩:=q7;exact⟨σ7,H7,I7.unpinned,q7⟩
  |ret v=>obtain⟨x7,σ7,H7,I7,r7,q7⟩:=q7;exact⟨x7,σ7,H7,I7.unpinned,r7,q7⟩
end
abbrev R2:=V->V->Hp->VK->Prop
def OpR(X:Cx)(f:Value->Value->Sem Value)(r:R2):Prop:=
 ∀
  (pins:Pq) (s:Shared) (σ:St) (H:Hp) (x y:V) (v u:Value) (Q:VK),Inv X pins σ H s->RelV x v->RelV y u->r x y H Q->
  wpAny (model X.prog X.w) X.A (f v u) (EP X pins σ Q) X.xe s
def UnR(X:Cx)(f:Value->Sem Value)(r:V->Hp->VK->Prop):Prop:=
 ∀
  (pins:Pq) (s:Shared) (σ:St) (H:Hp) (x:V) (v:Value) (Q:VK),Inv X pins σ H s->RelV x v->r x H Q->
  wpAny (model X.prog X.w) X.A (f v) (EP X pins σ Q) X.xe s
def CallR(X:Cx)(f:Value)(r:List V->Hp->VK->Prop):Prop:=
 ∀
  (pins:Pq) (s:Shared) (σ:St) (H:Hp) (xs:List V) (us:List Value) (Q:VK),Inv X pins σ H s->Vals xs us->r xs H Q->
  wpAny (model X.prog X.w) X.A (call f us) (EP X pins σ Q) X.xe s
def TruR(X:Cx)(r:V->Hp->(Bool->Hp->Prop)->Prop):Prop:=
 ∀
  (pins:Pq) (s:Shared) (σ:St) (H:Hp) (x:V) (v:Value) (Q:Bool->Hp->Prop),Inv X pins σ H s->RelV x v->r x H Q->
  wpAny (model X.prog X.w) X.A (truthy v) (TP X pins σ Q) X.xe s
def tOp(r:R2)(ta tb:TE):TE:=λσ H Q=>ta σ H λx H1=>tb σ H1 λy H2=>r x y H2 Q
def tUn(r:V->Hp->VK->Prop)(ta:TE):TE:=λσ H Q=>ta σ H λx H1=>r x H1 Q
def rI(C:Int->Int->Prop)(g:Int->Int->V):R2:=λx y H Q=>∃i j,x=.int i/\y=.int j/\C i j/\Q (g i j) H
def rI0(g:Int->Int->V):R2:=λx y H Q=>∃i j,x=.int i/\y=.int j/\Q (g i j) H
def rU(g:Int->V):V->Hp->VK->Prop:=λx H Q=>∃i,x=.int i/\Q (g i) H
section
variable{X:Cx}{a b:Expr}{ta tb:TE}{pos:Pos}
def A2(ha:PE X a ta)(hb:PE X b tb){pins:Pq}{s:Shared}{σ:St}{H:Hp}{R:V->V->Hp->Prop}(I:Inv X pins σ H s)
 (h:ta σ H λx H1=>tb σ H1 λy H2=>R x y H2) {Q:Pu}{f:Value->Value->Sem Value}
 (hf:∀v u s2 x y H2,Inv X pins σ H2 s2->RelV x v->RelV y u->R x y H2->wpAny (model X.prog X.w) X.A (f v u) Q X.xe s2):
 wpAny (model X.prog X.w) X.A (eval a X.env) (λv s₁=>wpAny (model X.prog X.w) X.A (eval b X.env) (λu s₂=>wpAny (model X.prog X.w) X.A (f v u) Q X.xe s₂) X.xe s₁) X.xe s:=by
 refine thn (ha pins s σ H _ I h) λv s1 zz=>exA zz λx H1 I1 r1 q1=>?_;refine thn (hb pins s1 σ H1 _ I1 q1) λu s2 zz=>exA zz λy H2 I2 r2 q2=>?_;exact hf v u s2 x y H2 I2 r1 r2 q2
def Ld(ho:OpR X (binaryOp op) r)(ha:PE X a ta)(hb:PE X b tb):PE X (.BinOp a op b pos) (tOp r ta tb):=by intro pins s σ H Q I h;exact wpAny_BinOp (A2 ha hb I h λv u s2 x y H2 I2 rx ry q=>ho pins s2 σ H2 x y v u Q I2 rx ry q)
def Ma(ho:UnR X (unaryOp op) r)(ha:PE X a ta):PE X (.UnaryOp op a pos) (tUn r ta):=by intro pins s σ H Q I h;exact UnaryOp_ (thn (ha pins s σ H _ I h) λv s1 zz=>exA zz λx H1 I1 r1 q1=>ho pins s1 σ H1 x v Q I1 r1 q1)
def opI{f:Value->Value->Sem Value}{C:Int->Int->Prop}{g:Int->Int->Int}
 (rule:∀(i j:Int) (t u:Tok) (s:Shared) (Q:Pu) (E:Pu),C i j->Q (.int (g i j) s.toks) { s with toks:=s.toks+1 }->wpAny (model X.prog X.w) X.A (f (.int i t) (.int j u)) Q E s):
 OpR X f (rI C λi j=>.int (g i j)):=by
 intro pins s σ H x y v u Q I rx ry h;obtain⟨i,j,rfl,rfl,hc,q⟩:=h;obtain⟨t,rfl⟩:=rx;obtain⟨t',rfl⟩:=ry;exact rule i j t t' s _ _ hc ⟨.int (g i j),H,I.tok _,⟨_,rfl⟩,q⟩
def opI0{f:Value->Value->Sem Value}{g:Int->Int->Int}
 (rule:∀(i j:Int) (t u:Tok) (s:Shared) (Q:Pu) (E:Pu),Q (.int (g i j) s.toks) { s with toks:=s.toks+1 }->wpAny (model X.prog X.w) X.A (f (.int i t) (.int j u)) Q E s):
 OpR X f (rI0 λi j=>.int (g i j)):=by
 intro pins s σ H x y v u Q I rx ry h;obtain⟨i,j,rfl,rfl,q⟩:=h;obtain⟨t,rfl⟩:=rx;obtain⟨t',rfl⟩:=ry;exact rule i j t t' s _ _ ⟨.int (g i j),H,I.tok _,⟨_,rfl⟩,q⟩
def AQ{f:Value->Value->Sem Value}{g:Int->Int->Bool}
 (rule:∀(i j:Int) (t u:Tok) (s:Shared) (Q:Pu) (E:Pu),Q (.bool (g i j)) s->wpAny (model X.prog X.w) X.A (f (.int i t) (.int j u)) Q E s):
 OpR X f (rI0 λi j=>.bl (g i j)):=by
 intro pins s σ H x y v u Q I rx ry h;obtain⟨i,j,rfl,rfl,q⟩:=h;obtain⟨t,rfl⟩:=rx;obtain⟨t',rfl⟩:=ry;exact rule i j t t' s _ _ ⟨.bl (g i j),H,I,rfl,q⟩
def jR(i j:Int):Prop:=0<=j/\j<=1000000/\i.natAbs<2^64
def CMul(i j:Int):Prop:=(-(2^64)<i/\i<2^64)\/(-(2^64)<j/\j<2^64)
def CMul.ok(h:CMul i j):IntMulOk i j:=by
 rcases h with ⟨h1,h2⟩ |⟨h1,h2⟩
 .exact .of_left (intBits_le_64 h1 h2)
 .exact .of_right (intBits_le_64 h1 h2)
def Hq:OpR X (binaryOp .Add) (rI0 λi j=>.int (i+j)):=opI0 λ_ _ _ _ _ _ _ q=>add_int q
def F9:OpR X (binaryOp .Sub) (rI0 λi j=>.int (i-j)):=opI0 λ_ _ _ _ _ _ _ q=>sub_int q
def JN:OpR X (binaryOp .Mult) (rI CMul λi j=>.int (i*j)):=opI λ_ _ _ _ _ _ _ hc q=>mul_int q hc.ok
def FY:OpR X (binaryOp .Mod) (rI (λ_ j=>j≠0) λi j=>.int (i.fmod j)):=opI λ_ _ _ _ _ _ _ hc q=>mod_int' hc q
def Hj:OpR X (binaryOp .Pow) (rI jR λi j=>.int (i^j.toNat)):=opI λ_ _ _ _ _ _ _ hc q=>pow_int_small hc.1 hc.2.1 hc.2.2 q
def Jn:OpR X (binaryOp .LShift) (rI jR λi j=>.int (i*2^j.toNat)):=opI λ_ _ _ _ _ _ _ hc q=>lshift_int_small hc.1 hc.2.1 hc.2.2 q
def unI{f:Value->Sem Value}{g:Int->Int}
 (rule:∀(i:Int) (t:Tok) (s:Shared) (Q:Pu) (E:Pu),Q (.int (g i) s.toks) { s with toks:=s.toks+1 }->wpAny (model X.prog X.w) X.A (f (.int i t)) Q E s):
 UnR X f (rU λi=>.int (g i)):=by
 intro pins s σ H x v Q I rx h;obtain⟨i,rfl,q⟩:=h;obtain⟨t,rfl⟩:=rx;exact rule i t s _ _ ⟨.int (g i),H,I.tok _,⟨_,rfl⟩,q⟩
def Gm:UnR X (unaryOp .USub) (rU λi=>.int (-i)):=unI λ_ _ _ _ _ q=>neg_int q
end
section
variable{X:Cx}{a b c:Expr}{ta tb:TE}{pos:Pos}
def zA(I:Inv X pins σ H s)(q:Q (.bl k) H)(e:k=k'):EP X pins σ Q (.bool k') s:=by subst e;exact⟨.bl k,H,I,rfl,q⟩
def Dt:OpR X (compareOp .Lt) (rI0 λi j=>.bl (decide (i<j))):=AQ λ_ _ _ _ _ _ _ q=>lt_int q
def Dv:OpR X (compareOp .Gt) (rI0 λi j=>.bl (decide (j<i))):=AQ λ_ _ _ _ _ _ _ q=>gt_int q
def DH:OpR X (compareOp .GtE) (rI0 λi j=>.bl (decide (j<=i))):=AQ λ_ _ _ _ _ _ _ q=>ge_int q
def OpR.or(h:OpR X f r)(h':OpR X f r'):OpR X f (λx y H Q=>r x y H Q\/r' x y H Q):=by
 intro pins s σ H x y v u Q I rx ry q;rcases q with q |q
 .exact h pins s σ H x y v u Q I rx ry q
 .exact h' pins s σ H x y v u Q I rx ry q
def zY(b:Expr)(h:op ≠ .In:=by decide)(h2:op ≠ .NotIn:=by decide):behindInMarks op b=false:=by
 have e1:(op==CmpOp.In)=false:=by cases op <;> first |rfl |exact absurd rfl h
 have e2:(op==CmpOp.NotIn)=false:=by cases op <;> first |rfl |exact absurd rfl h2
 cases b <;> simp [behindInMarks,e1,e2]
def Fi(ho:OpR X (compareOp op) r)(ha:PE X a ta)(hb:PE X b tb)(hm:behindInMarks op b=false):PE X (.Compare a [op] [b] pos) (tOp r ta tb):=by intro pins s σ H Q I h;exact wpAny_Compare1 (A2 ha hb I h λv u s2 x y H2 I2 rx ry q=>ho pins s2 σ H2 x y v u Q I2 rx ry q) hm
def KI(t:TE):TT:=λσ H Q=>t σ H λx H'=>∃k,x=.bl k/\Q k H'
def EN(ho:OpR X (compareOp op) r)(ha:PE X a ta)(hb:PE X b tb)(hm:behindInMarks op b=false):PT X (.Compare a [op] [b] pos) (KI (tOp r ta tb)):=by
 intro pins s σ H Q I h;refine wpAny_isTrue_Compare1 (thn (ha pins s σ H _ I h) λv s1 zz=>exA zz λx H1 I1 r1 q1=>thn (hb pins s1 σ H1 _ I1 q1) λu s2 zz=>exA zz λy H2 I2 r2 q2=>
  thn (ho pins s2 σ H2 x y v u _ I2 r1 r2 q2) λc s3 ⟨z,H3,I3,r3,k,e,q3⟩=>?_) hm
 subst e;cases r3;exact NB ⟨H3,I3,q3⟩
def A9(K:W.Frag)(x:V)(H:Hp)(k:Bool):Prop:=
 match x with
 |.non=>k=false
 |.bl b=>k=b
 |.int i=>k=(i != 0)
 |.str y=>y.length<=sizeLine/\k=((y.length:Int) != 0)
 |.byt y=>y.size<=sizeLine/\k=((y.size:Int) != 0)
 |.ref p=>(∃xs,SqL K H p xs/\k=!xs.isEmpty)\/(∃xs,SqT K H p xs/\k=!xs.isEmpty)\/∃kvs,H p=some (.dK kvs)/\k=!kvs.isEmpty
 |_=>False
def wI(r:KV kvs vs):(!vs.isEmpty)=!kvs.isEmpty:=by cases r <;> rfl
def lU(r:Vals xs its):(!its.toArray.isEmpty)=!xs.isEmpty:=by cases r <;> simp
def gF:(sizeLine:Nat)<2^63:=by rw[sizeLine_eq];decide
def JT:TruR X (λx H Q=>∃k,A9 X.K x H k/\Q k H):=by
 intro pins s σ H x v Q I rx h;obtain⟨k,e,q⟩:=h;have hl:=gF;have hs:sizeLine=16777216:=sizeLine_eq;cases x with
 |non=>cases rx;have e':k=false:=e;subst e';exact truthy_none ⟨H,I,q⟩
 |bl b=>cases rx;have e':k=b:=e;subst e';exact NB ⟨H,I,q⟩
 |int i=>obtain⟨t,rfl⟩:=rx;have e':k=(i != 0):=e;subst e';exact PySem.P.truthy_int ⟨H,I,q⟩
 |str y=>obtain⟨t,rfl⟩:=rx;obtain⟨hy,e'⟩:y.length<=sizeLine/\k=((y.length:Int) != 0):=e;subst e';exact PySem.P.truthy_str (by omega) ⟨H,I.tok _,q⟩
 |byt y=>obtain⟨t,rfl⟩:=rx;obtain⟨hy,e'⟩:y.size<=sizeLine/\k=((y.size:Int) != 0):=e;subst e';exact W.truthy_bytes (by omega) ⟨H,I.tok _,q⟩
 |
  ref p=>
  cases rx;have e':(∃xs,SqL X.K H p xs/\k=!xs.isEmpty)\/(∃xs,SqT X.K H p xs/\k=!xs.isEmpty)\/∃kvs,H p=some (.dK kvs)/\k=!kvs.isEmpty:=e;rcases e' with ⟨xs,hx,e'⟩ |⟨xs,hx,e'⟩ |⟨kvs,hx,e'⟩
  .subst e';obtain⟨its,r,pl,hz⟩:=I.list hx;have a_:=r.length;exact wpAny_truthy_list pl.isList (by simp only[z_];omega) ⟨H,I.tok _,by rw[lU r];exact q⟩
  .subst e';obtain⟨its,r,pl,hz⟩:=I.tuple hx;have a_:=r.length;exact truthy_tuple pl (by simp only[z_];omega) ⟨H,I.tok _,by rw[lU r];exact q⟩
  .subst e';obtain⟨hz,hS,vs,r,m⟩:kvs.length<=sizeLine/\(p==sysModules)=false/\∃vs,KV kvs vs/\s.heap.DictOf (bR X.prog X.w) p vs:=I.hok p _ hx;have a_:kvs.length=vs.length:=Pk r;exact wpAny_truthy_dict hS m (by omega) ⟨H,I.tok _,by rw[wI r];exact q⟩
 |_=>exact (show False from e).elim
def C4(ha:PE X a ta)(he:∀g_,isTrue a X.env g_=(do let v <- g_;standAt a.pos;holding [v] (truthy v))):
 PT X a (λσ H Q=>ta σ H λx H'=>∃k,A9 X.K x H' k/\Q k H'):=by
 intro pins s σ H Q I h;exact isTrue_plain (thn (ha pins s σ H _ I h) λv s1 zz=>exA zz λx H1 I1 r1 q1=>JT pins s1 σ H1 x v Q I1 r1 q1) (he _)
def fZ(r:Vals [x] us):∃u,us=[u]/\RelV x u:=by
 cases r with
 |cons r1 r2=>cases r2;exact⟨_,rfl,r1⟩
def mQ(r:Vals [x,y] us):∃u w',us=[u,w']/\RelV x u/\RelV y w':=by
 cases r with
 |
  cons r1 r2=>
  cases r2 with
  |cons r3 r4=>cases r4;exact⟨_,_,rfl,r1,r3⟩
def B6:CallR X (.builtin "abs") (λxs H Q=>∃i,xs=[.int i]/\Q (.int (if i<0 then -i else i)) H):=by intro pins s σ H xs us Q I r h;obtain⟨i,rfl,q⟩:=h;obtain⟨u,rfl,t,rfl⟩:=fZ r;exact call_abs_int λu tk=>⟨.int (if i<0 then -i else i),H,I.tok _,⟨_,rfl⟩,q⟩
def yF(hc:X.calm=true):CallR X (.builtin "max") (λxs H Q=>∃i j,xs=[.int i,.int j]/\Q (.int (if j>i then j else i)) H):=by
 intro pins s σ H xs us Q I r h;obtain⟨i,j,rfl,q⟩:=h;obtain⟨u,w',rfl,⟨t,rfl⟩,⟨t',rfl⟩⟩:=mQ r;refine max_two_ints (I.ok.hd hc) λh' tk k=>⟨_,H,I.kept k,?_,q⟩;by_cases hj:j>i
 .rw[if_pos hj,if_pos hj];exact⟨_,rfl⟩
 .rw[if_neg hj,if_neg hj];exact⟨_,rfl⟩
def xY(hc:X.calm=true):CallR X (.builtin "min") (λxs H Q=>∃i j,xs=[.int i,.int j]/\Q (.int (if j<i then j else i)) H):=by
 intro pins s σ H xs us Q I r h;obtain⟨i,j,rfl,q⟩:=h;obtain⟨u,w',rfl,⟨t,rfl⟩,⟨t',rfl⟩⟩:=mQ r;refine min_two_ints (I.ok.hd hc) λh' tk k=>⟨_,H,I.kept k,?_,q⟩;by_cases hj:j<i
 .rw[if_pos hj,if_pos hj];exact⟨_,rfl⟩
 .rw[if_neg hj,if_neg hj];exact⟨_,rfl⟩
def Ae:CallR X (.type "int") (λxs H Q=>(∃i,xs=[.int i]/\Q (.int i) H)\/∃k,xs=[.bl k]/\Q (.int (if k then 1 else 0)) H):=by
 intro pins s σ H xs us Q I r h;rcases h with ⟨i,rfl,q⟩ |⟨k,rfl,q⟩
 .obtain⟨u,rfl,t,rfl⟩:=fZ r;exact call_int_int ⟨.int i,H,I,⟨_,rfl⟩,q⟩
 .obtain⟨u,rfl,r1⟩:=fZ r;cases r1;exact call_int_bool ⟨.int (if k then 1 else 0),H,I.tok _,⟨_,rfl⟩,q⟩
end
structure ObjM(h:Heap)(x dx C:Addr)(mA:Pp):Prop where
 obj:h.get? x=some (W.instObj C dx)
 ns:h.Ns1 dx mA
 ne:dx≠x
def Ay{h:Heap}{dx:Addr}{mA:Pp}(n:h.Ns1 dx mA):∃od,h.get? dx=some od/\∀name,W.lookIn name od=some (mA name):=by
 obtain⟨o,es,ep,ho,hd,hk,_,hm⟩:=n;refine⟨o,ho,λname=>?_⟩;have e:=hm name;unfold nsFind findBy at e;rw[<- Array.find?_toList] at e;unfold W.lookIn;rw[hd];dsimp only;split
 .rename_i y q;rw[q] at e;exact MP some e
 .rename_i q;rw[q] at e;have a:es.toList.any (·.refKey)=false:=by rw[List.any_eq_false];intro y hy;obtain⟨z,t,hkey⟩:=hk y (Array.mem_toList_iff.mp hy);simp [DictEntry.refKey,hkey]
  have a':¬ es.toList.any (·.refKey)=true:=by rw[a];exact y_
  rw[if_neg a'];exact MP some e
def ObjM.look(I:ObjM h x dx C mA):∃od,W.InstAt h x (W.instObj C dx) C (some od)/\∀name,W.lookIn name od=some (mA name):=
 let ⟨od,ho,hl⟩:=Ay I.ns
 ⟨od,⟨I.obj,rfl,rfl,ho⟩,hl⟩
def RelO.some_of(r:RelO (some v) o):∃u,o=some u/\RelV v u:=by
 cases o with
 |none=>exact (show False from r).elim
 |some u=>exact⟨u,rfl,r⟩
section
variable{P:Program}{w:World}{H:Hp}{h:Heap}{a C dx:Addr}{fs:List (Str×V)}
def Fo(hok:HOk P w H h)(e:H a=some (.ins C dx fs)):∃mA,ObjM h a dx C mA/\(∀f,RelO (fs.lookup f) (mA f))/\PySem.Within mA (fs.map (·.1))/\fs.length<=1000/\H dx=some (.own a):=by obtain⟨d,z,ne,ob,mA,n,r,q⟩:=(show ObjOk P w H h a (.ins C dx fs) from hok a _ e);exact⟨mA,⟨ob,n,ne⟩,r,q,z,d⟩
end
structure Cls(K:W.Frag)(C:Addr):Prop where
 pg:W.plainGet K C Str.empty=true
 hd:W.hasDictIn K C=true
 po:W.plainOver K C=true
 sa:W.findIn K (.ref C) "__setattr__"=some (some (.builtin "object.__setattr__"))
def Cls.get{K:W.Frag}{C:Addr}(c:Cls K C)(f:Str):W.plainGet K C f=true:=c.pg
section
variable{H:Hp}
inductive TyOf(K:W.Frag)(H:Hp):V->Value->Prop where
 |non:TyOf K H .non (.type "NoneType")
 |bl (x:Bool):TyOf K H (.bl x) (.type "bool")
 |int (i:Int):TyOf K H (.int i) (.type "int")
 |str (x:Str):TyOf K H (.str x) (.type "str")
 |flt (x:UInt64):TyOf K H (.flt x) (.type "float")
 |lst {a:Addr}{xs:List V} (e:H a=some (.lst xs)):TyOf K H (.ref a) (.type "list")
 |frz {a:Addr}{o:Obj}{xs:List V} (e:H a=some (.frz o (.lst xs))):TyOf K H (.ref a) (.type "list")
 |tup {a:Addr}{xs:List V} (e:H a=some (.tup xs)):TyOf K H (.ref a) (.type "tuple")
 |dK {a:Addr}{kvs:List (Key×V)} (e:H a=some (.dK kvs)):TyOf K H (.ref a) (.type "dict")
 |dT {a:Addr}{kvs:List (List Key×V)} (e:H a=some (.dT kvs)):TyOf K H (.ref a) (.type "dict")
 |ins {a C dx:Addr}{fs:List (Str×V)} (e:H a=some (.ins C dx fs)) (cl:Cls K C) (ha:W.findIn K (.ref C) "__class__"=some (some (.builtin "object.__class__")))
  (hn:W.specialIn K (.builtin "object.__class__") "__get__"=some (some (.builtin "getset_descriptor.__get__"))) (htk:W.takesIn K (.builtin "object.__class__")=some true)
  (hm:W.mroIn K C (.type "object")=some true):TyOf K H (.ref a) (.ref C)
end
structure Room(k:Nat)(A:Around):Prop where
 hd:A.handled=none
 dp:A.depth+3*k+5<recursionLimit
 un:A.units+16*k+200<cLine
def Room.mono(r:Room k A)(h:j<=k):Room j A:=⟨r.hd,by have:=r.dp;omega,by have:=r.un;omega⟩
def Room.deeper(r:Room (k+1) A)(env:Env):Room k (A.deeper env):=
 ⟨r.hd,by have:=r.dp;show A.depth+1+3*k+5<_;omega,by have:=r.un;show A.units+3+16*k+200<_;omega⟩
def Room.depth(r:Room k A):A.depth<recursionLimit:=by have:=r.dp;omega
def Room.units(r:Room k A):A.units+64<cLine:=by have:=r.un;omega
def sq:TA:=λ_ H Q=>Q [] H
def qf(ta:TE)(tr:TA):TA:=λσ H Q=>ta σ H λx H1=>tr σ H1 λxs H2=>Q (x::xs) H2
section
variable{X:Cx}{e:Expr}{es:List Expr}{te:TE}{t:TA}{pos:Pos}
def su:PA X [] sq:=λ_ _ _ _ H Q I h=>Oh ⟨[],H,I,.nil,h⟩
def n8(ha:PE X e te)(hr:PA X es t)(hs:starEach (e::es) X.env=(false,eval e X.env)::starEach es X.env):PA X (e::es) (qf te t):=by intro pos pins s σ H Q I h;rw[hs];show wpAny _ _ (spliced ((false,eval e X.env)::backTo pos (starEach es X.env))) _ _ s;refine NL (thn (ha pins s σ H _ I h) λu s1 zz=>exA zz λx H1 I1 r1 q1=>?_);exact thn (hr pos pins s1 σ H1 _ I1 q1) λus s2 zz=>exA zz λxs H2 I2 r2 q2=>⟨x::xs,H2,I2,.cons r1 r2,q2⟩
def tTup(t:TA):TE:=λσ H Q=>t σ H λxs H1=>xs.length<=sizeLine/\∀p,H1 p=none->Q (.ref p) (upd H1 p (.tup xs))
def Cp(t:TA):TE:=λσ H Q=>t σ H λxs H1=>xs.length<=sizeLine/\∀p,H1 p=none->Q (.ref p) (upd H1 p (.lst xs))
def Gh{x1}(h:PA X es t):PE X (.Tuple es x1 pos) (tTup t):=by intro pins s σ H Q I hq;refine wpAny_Tuple_spliced (thn (h pos pins s σ H _ I hq) λus s1 ⟨xs,H1,I1,r,z,q⟩=>⟨by rw[<- r.length];exact z,?_⟩);have hf:H1 s1.heap.objs.size=none:=I1.hok.fresh (t_ _);refine⟨.ref s1.heap.objs.size,upd H1 s1.heap.objs.size (.tup xs),I1.laid (t':=s1.toks) (λb u e=>r_ _ e) (t_ _) ?_,rfl,q _ hf⟩;exact⟨z,us,r,⟨_,G_ _ rfl,rfl,_,rfl⟩⟩
def zy(h:PA X es t):PE X (.List es pos) (Cp t):=by intro pins s σ H Q I hq;refine wpAny_List_spliced (thn (h pos pins s σ H _ I hq) λus s1 ⟨xs,H1,I1,r,z,q⟩=>⟨by rw[<- r.length];exact z,?_⟩);have hf:H1 s1.heap.objs.size=none:=I1.hok.fresh (t_ _);refine⟨.ref s1.heap.objs.size,upd H1 s1.heap.objs.size (.lst xs),I1.laid (t':=s1.toks) (λb u e=>r_ _ e) (t_ _) ?_,rfl,q _ hf⟩;exact⟨z,us,0,r,G_ _ rfl⟩
end
abbrev Sp:=List V->Hp->VK->XK->Prop
abbrev CXT:=List Env->Hp->Shared->XK->Value->Shared->Prop
structure Env0(P:Program)(w:World)(K:W.Frag)(mg:Pp)(base:Heap)(A:Around)(outer:List Env)(s:Shared)(H:Hp):Prop where
 frames:A.frames=some outer
 mod:Mod K mg base
 bs:∀b o,base.get? b=some o->s.heap.get? b=some o/\H b=none
 bsz:base.objs.size<=s.heap.objs.size
 funs:s.heap.FunFrames base outer
 frf:∀b∈frs outer,H b=none
 hok:HOk P w H s.heap
 bare:AllBare s.gens
def CE(outer:List Env)(P:Program)(w:World)(H:Hp)(s:Shared)(Q:VK)(u:Value)(s':Shared):Prop:=
 ∃v H',s'.os=s.os/\AllBare s'.gens/\Un (frs outer) [] H H' s.heap s'.heap/\HOk P w H' s'.heap/\RelV v u/\Q v H'
def CR(CX:CXT)(outer:List Env)(P:Program)(w:World)(H:Hp)(s:Shared)(Q:VK)(E:XK)(r:Result)(s':Shared):Prop:=
 match r with
 |.ok (.ret u)=>CE outer P w H s Q u s'
 |.ok _=>False
 |.error e=>CX outer H s E e s'
structure FnOk(P:Program)(w:World)(K:W.Frag)(mg:Pp)(base:Heap)(CX:CXT)(k:Nat)(f:Addr)(fd:FuncData)(ps:List Str)(sp:Sp):Prop where
 len:∀vs H Q E,sp vs H Q E->vs.length=ps.length
 run:∀(A:Around) (outer:List Env) (s:Shared) (H:Hp) (args:Args) (us:List Value) (vs:List V) (Q:VK) (E:XK),Room k A->Env0 P w K mg base A outer s H->BindsTo s fd args (ps.zip us)->Vals vs us->sp vs H Q E->
  codeAny (model P w) A (.call (.ref f) args) (CR CX outer P w H s Q E) s
def FnOk.imp{P:Program}{w:World}{K:W.Frag}{mg:Pp}{base:Heap}{CX:CXT}{k:Nat}{f:Addr}{fd:FuncData}{ps:List Str}{sp sp':Sp}(F:FnOk P w K mg base CX k f fd ps sp)
 (h:∀vs H Q E,sp' vs H Q E->sp vs H Q E):FnOk P w K mg base CX k f fd ps sp':=
 ⟨λvs H Q E q=>F.len vs H Q E (h _ _ _ _ q),λA outer s H args us vs Q E hr he hb hv hs=>F.run A outer s H args us vs Q E hr he hb hv (h _ _ _ _ hs)⟩
section
variable{X:Cx}{pins:Pq}{σ:St}{H:Hp}{s s':Shared}
def Inv.env0(I:Inv X pins σ H s):Env0 X.prog X.w X.K X.mg X.base X.A X.stack s H:=
 ⟨I.ok.frames,I.ok.mod,I.bs,My I.ok.bsz I.sz,I.stack,I.stkFree,I.hok,I.bare⟩
def Inv.after(I:Inv X pins σ H s)(h:CE X.stack X.prog X.w H s Q u s'):EP X pins σ Q u s':=by obtain⟨v,H',os,bare,un,hok,r,q⟩:=h;obtain⟨hh,g,d,t,os'⟩:=s';obtain rfl:os'=s.os:=os;exact⟨v,H',I.call (h':=hh) (g':=g) (d':=d) (t':=t) (ch:=[]) un hok bare (λb z=>absurd z (by simp)),r,q⟩
end
def Binds(K:W.Frag)(fd:FuncData)(ps:List Str)(ds:List Value):Prop:=
 ∀(s:Shared) (us:List Value),K.In s.heap->(us++ds).length=ps.length->BindsTo s fd ⟨us,[]⟩ (ps.zip (us++ds))
def Binds.all{K:W.Frag}{fd:FuncData}{ps:List Str}(h:∀us:List Value,us.length=ps.length->bindArgs fd ⟨us,[]⟩=pure (ps.zip us)):Binds K fd ps []:=λs us _ hl=>by rw[MX] at hl ⊢;exact .of_eq (h us hl)
def sJ(CX:CXT)(X:Cx)(E:XK):Prop:=∀(pins:Pq) (σ:St) (H:Hp) (s:Shared) (e:Value) (s':Shared),Inv X pins σ H s->CX X.stack H s E e s'->X.xe e s'
structure FnScope(N P:List Str)(sc:Scope):Prop where
 kind:sc.kind=.function
 co:sc.isCoroutine=false
 gen:sc.isGenerator=false
 nd:N.Nodup
 pre:N.take P.length=P
 par:∀x∈P,sc.names.lookup x=some .local\/sc.names.lookup x=some .cell
 nofree:∀y∈sc.names,y.2 ≠ .free
theorem oY{kindOf:Str->Option NameKind}{x:Str}:∀{binds:List (Str×Value)}{m:Pp},(∀v,(x,v)∉binds)->bindL kindOf binds m x=m x
 | [],_,_=>rfl
 |
  (n,v)::r,m,h=>by
  unfold bindL;rw[oY λw hw=>h w (q_ _ hw)];split
  .have:x≠n:=by rintro rfl;exact h v s_
   simp [this]
  .rfl
theorem o7{kindOf:Str->Option NameKind}{x:Str}:∀{binds:List (Str×Value)}{m:Pp},(∀v,(x,v)∉binds)->bindC kindOf binds m x=m x
 | [],_,_=>rfl
 |
  (n,v)::r,m,h=>by
  unfold bindC;rw[o7 λw hw=>h w (q_ _ hw)];split
  .rfl
  .have:x≠n:=by rintro rfl;exact h v s_
   simp [this]
theorem pf{kindOf:Str->Option NameKind}{x:Str}{v:Value}:∀{P:List Str}{vs:List Value}{i:Nat}{m:Pp},P.Nodup->P[i]?=some x->vs[i]?=some v->kindOf x=some .local->
 bindL kindOf (P.zip vs) m x=some v
 | [],_,_,_,_,h,_,_=>by simp at h
 |_::_,[],_,_,_,_,h,_=>by simp at h
 |
  p::P,w::vs,0,m,nd,h1,h2,hk=>by
  simp at h1 h2;subst h1;subst h2;show bindL kindOf ((p,w)::P.zip vs) m p=_;unfold bindL;rw[oY λv hv=>(N9.mp nd).1 (List.of_mem_zip hv).1,if_pos hk];simp
 |
  p::P,w::vs,i+1,m,nd,h1,h2,hk=>by
  show bindL kindOf ((p,w)::P.zip vs) m x=_;unfold bindL;exact pf (i:=i) (N9.mp nd).2 (by simpa using h1) (by simpa using h2) hk
theorem o8{kindOf:Str->Option NameKind}{x:Str}{v:Value}:∀{P:List Str}{vs:List Value}{i:Nat}{m:Pp},P.Nodup->P[i]?=some x->vs[i]?=some v->kindOf x≠some .local->
 bindC kindOf (P.zip vs) m x=some v
 | [],_,_,_,_,h,_,_=>by simp at h
 |_::_,[],_,_,_,_,h,_=>by simp at h
 |
  p::P,w::vs,0,m,nd,h1,h2,hk=>by
  simp at h1 h2;subst h1;subst h2;show bindC kindOf ((p,w)::P.zip vs) m p=_;unfold bindC;rw[o7 λv hv=>(N9.mp nd).1 (List.of_mem_zip hv).1,if_neg hk];simp
 |
  p::P,w::vs,i+1,m,nd,h1,h2,hk=>by
  show bindC kindOf ((p,w)::P.zip vs) m x=_;unfold bindC;exact o8 (i:=i) (N9.mp nd).2 (by simpa using h1) (by simpa using h2) hk
noncomputable def f6 (N:List Str) (vs:List V):St:=vs.map some++List.replicate (N.length-vs.length) none
noncomputable def eN (CX:CXT) (P:Program) (w:World) (K:W.Frag) (mg:Pp) (base:Heap) (N:List Str) (qual:Str) (scope:Scope) (f:Addr) (cd:Value) (A:Around) (outer:List Env) (s:Shared) (H:Hp) (E:XK):Cx where
 prog:=P
 w:=w
 K:=K
 mg:=mg
 base:=base
 A:=A.deeper (envOfC qual scope s.heap.objs.size f cd)
 N:=N
 s₀:=s
 H₀:=H
 env:=envOfC qual scope s.heap.objs.size f cd
 outer:=outer
 stack:=envOfC qual scope s.heap.objs.size f cd::outer
 ex:=[]
 calm:=true
 fn:=λ_=>true
 pn:=[]
 xe:=λe s'=>wpAny (model P w) (A.deeper (envOfC qual scope s.heap.objs.size f cd)) (leaving (envOfC qual scope s.heap.objs.size f cd) e) (λ_ s''=>CX outer H s E e s'') (λe' s''=>CX outer H s E e' s'') s'
def rM{sc:Scope}{n:Nat}{x:Str}(h:sc.names.lookup x=some .cell):∃c,(cellsFrom n sc.names []).lookup x=some c:=by have q:=W.cellsFrom_some sc.names n [] (.inl h);exact Ng.mp q
def zK{CX:CXT}{P:Program}{w:World}{K:W.Frag}{mg:Pp}{base:Heap}{N ps:List Str}{qual:Str}{scope:Scope}{f:Addr}{cd:Value}{A:Around}{outer:List Env}{s s1:Shared}{H:Hp}{E:XK}{us:List Value}{vs:List V}
 (S:FnScope N ps scope) (hd:A.handled=none) (e0:Env0 P w K mg base A outer s H) (hl:vs.length=ps.length) (r:Vals vs us)
 (x:InCallC s s.heap.objs.size (bindL (envOfC qual scope s.heap.objs.size f cd).kindOf (ps.zip us) λ_=>none) (cellsFrom (s.heap.objs.size+1) scope.names []) (bindC (envOfC qual scope s.heap.objs.size f cd).kindOf (ps.zip us) λ_=>none) s1):
 Inv (eN CX P w K mg base N qual scope f cd A outer s H E) [] (f6 N vs) H s1:=by
 have hpl:ps.length<=N.length:=by have:=MP List.length S.pre;rw[MH] at this;omega
 obtain⟨h1,tk,rfl,hk⟩:=x.done;have noA:∀b:Addr,b∉(eN CX P w K mg base N qual scope f cd A outer s H E).ex:=λb z=>absurd (show b∈([]:List Addr) from z) (by simp);refine⟨⟨e0.mod,S.kind,rfl,rfl,t_ _,λy z c h1 h2=>?_,λy hy=>?_,λy c _ h=>?_,λ_=>hd,Around.frames_deeper e0.frames,.inr ⟨rfl,rfl⟩,λb z=>absurd z (noA b),e0.bs,e0.bsz,λb _ _=>noA b,λb z=>absurd z (noA b),e0.funs,e0.frf⟩,
  rfl,e0.bare,Un.kept hk,⟨_,x.toInCall.ns,λi y v h1 h2 h3=>?_⟩,λy c h=>⟨_,x.cell y c h⟩,e0.hok.fresh (t_ _),λy c h=>?_,λp hp=>absurd (show p∈([]:Pq) from hp) (by simp),e0.hok.kept hk,?_⟩
 .exact name_of_addr x.apart (Nm h1) (Nm h2)
 .have hy:scope.names.lookup y=some .cell\/scope.names.lookup y=some .free:=hy;rcases hy with hy |hy
  .exact rM hy
  .exact absurd rfl (S.nofree _ (Nm hy))
 .exact Ol (x.above y c (Nm h))
 .have hi:i<vs.length:=by
   unfold f6 at h2;by_cases hi:i<vs.length
   .exact hi
   .rw[Nn (by simpa using hi)] at h2;rw[Nk] at h2;split at h2 <;> cases h2
  have ha:vs[i]?=some v:=by
   unfold f6 at h2;rw[Mz (by simpa using hi),L_] at h2;cases e:vs[i]? with
   |none=>rw[e] at h2;cases h2
   |some a=>rw[e] at h2;cases h2;rfl
  obtain⟨u,hu,rv⟩:=r.get ha;have hp:ps[i]?=some y:=by rw[<- S.pre,List.getElem?_take_of_lt (by omega)];exact h1
  have ndP:ps.Nodup:=by rw[<- S.pre];exact S.nd.sublist (List.take_sublist _ _)
  refine⟨u,rv,?_⟩;rcases S.par y (Mw hp) with k |k
  .exact .inl ⟨k,pf ndP hp hu k⟩
  .obtain⟨c,e⟩:=rM (n:=s.heap.objs.size+1) k;refine .inr ⟨.inl k,c,e,?_⟩;have q:=x.cell y c e;rw[o8 ndP hp hu (by show scope.names.lookup y≠_;rw[k];decide)] at q;exact q
 .exact e0.hok.fresh (Ol (x.above y c (Nm h)))
 .unfold f6;show _=N.length;rw[Em,p_,NR];omega
def Ee{CX:CXT}{P:Program}{w:World}{K:W.Frag}{mg:Pp}{base:Heap}{k:Nat}{f:Addr}{name qual:Str}{params:Arguments}{body:List Stmt}{scope:Scope}{dV kV doc pm cdv ct oc:Value}{an od:Option Addr}
 {osl:Array (Option Value)}{N ps:List Str}{sp:Sp} (lk:K.lookup f=some ⟨oc,od,.func (W.fnOf name qual params body scope dV kV doc pm an cdv ct),osl⟩) (l_:W.codeIn K cdv qual=true) (S:FnScope N ps scope)
 (len:∀vs H Q E,sp vs H Q E->vs.length=ps.length)
 (j':∀(A:Around) (outer:List Env) (s:Shared) (H:Hp) (vs:List V) (Q:VK) (E:XK),Room k (A.deeper (envOfC qual scope s.heap.objs.size f cdv))->sp vs H Q E->
  ∃t,PSs (eN CX P w K mg base N qual scope f cdv A outer s H E) body t/\t { nx:=λ_ H'=>Q .non H',rt:=Q } (f6 N vs) H):
 FnOk P w K mg base CX (k+1) f (W.fnOf name qual params body scope dV kV doc pm an cdv ct) ps sp:=by
 refine⟨len,λA outer s H args us vs Q E hr e0 hb r hsp=>?_⟩;have hl:=len _ _ _ _ hsp;have KX:K.In s.heap:=e0.mod.kin.keeps λb o e=>(e0.bs b o e).1;have lim:s.heap.NoLimit:=e0.mod.nolimit.keeps λb o e=>(e0.bs b o e).1;have hkind:∀y∈ps.zip us,scope.names.lookup y.1=some .local\/(scope.names.lookup y.1=some .cell/\((cellsFrom (s.heap.objs.size+1) scope.names []).lookup y.1).isSome=true):=λ⟨n,v⟩ hy=>by
  rcases S.par n (List.of_mem_zip hy).1 with q |q
  .exact .inl q
  .exact .inr ⟨q,W.cellsFrom_some _ _ _ (.inl q)⟩
 refine codeAny_call_function hr.depth (KX _ _ lk) rfl S.co S.gen rfl (W.codeRec_of KX l_) (hb _ _ _ _ ?_);refine wpAny_newFunctionEnv_cells S.kind hkind λenv he s1 x=>?_;subst he;refine⟨lim.keeps x.toInCall.keep,codeAny_func ?_⟩;obtain⟨t,ht,hq⟩:=j' A outer s H vs Q E (hr.deeper _) hsp;have I:Inv (eN CX P w K mg base N qual scope f cdv A outer s H E) [] (f6 N vs) H s1:=zK S hr.hd e0 hl r x;refine ML (ht [] s1 (f6 N vs) H _ I hq) (λfl s' hs=>?_) λe s' hs=>hs;have j_:∀{σ':St}{H':Hp}{v:V}{u:Value},Inv (eN CX P w K mg base N qual scope f cdv A outer s H E) [] σ' H' s'->RelV v u->Q v H'->CE outer P w H s Q u s':=
  λ{σ' H' v u} J rv q=>⟨v,H',J.os,J.bare,J.base,J.hok,rv,q⟩
 cases fl with
 |ret u=>obtain⟨v,σ',H',J,rv,q⟩:=hs;exact j_ J rv q
 |next=>obtain⟨σ',H',J,q⟩:=hs;exact j_ (v:=V.non) (u:=Value.none) J rfl q
 |brk=>obtain⟨_,_,_,q⟩:=hs;exact False.elim q
 |cont=>obtain⟨_,_,_,q⟩:=hs;exact False.elim q
section
variable{X:Cx}{x:Str}{p pos:Pos}{e:Expr}{es:List Expr}{t:TA}{id T:String}{r:List V->Hp->VK->Prop}
def tCB(r:List V->Hp->VK->Prop)(t:TA):TE:=λσ H Q=>t σ H λvs H1=>r vs H1 Q
def BM(hc:CallR X (.builtin id) r)(hg:Gl X x)(hm:X.mg x=none)(hv:bootBuiltins x=some (.builtin id))(ha:PA X (e::es) t)(hn:x ≠ "__name__")(hdb:(x==("__debug__" : Str))=false)
 (he:starEach (e::es) X.env=(false,eval e X.env)::starEach es X.env) (hpl:(backTo pos (starEach es X.env)).any (·.1)=false):PE X (.Call (.Name x p) (e::es) [] pos) (tCB r t):=by
 intro pins s σ H Q I h;refine M4 (cW I hg hm hv ?_ hn hdb);exact PyProof.Rows.callWith_builtin1 (thn (ha pos pins s σ H _ I h) λus s1 zz=>exA zz λvs H1 I1 r1 q1=>hc pins s1 σ H1 vs us Q I1 r1 q1) he hpl
def zr(hc:CallR X (.type T) r)(hg:Gl X x)(hm:X.mg x=none)(hv:bootBuiltins x=some (.type T))(ha:PA X (e::es) t)(hn:x ≠ "__name__")(hdb:(x==("__debug__" : Str))=false)
 (he:starEach (e::es) X.env=(false,eval e X.env)::starEach es X.env) (hpl:(backTo pos (starEach es X.env)).any (·.1)=false):PE X (.Call (.Name x p) (e::es) [] pos) (tCB r t):=by
 intro pins s σ H Q I h;refine M4 (cW I hg hm hv ?_ hn hdb);exact MM (thn (ha pos pins s σ H _ I h) λus s1 zz=>exA zz λvs H1 I1 r1 q1=>hc pins s1 σ H1 vs us Q I1 r1 q1) he hpl
def wZ(hc:CallR X (.type T) r)(hg:Gl X x)(hm:X.mg x=none)(hv:bootBuiltins x=some (.type T))(hn:x ≠ "__name__")(hdb:(x==("__debug__" : Str))=false):
 PE X (.Call (.Name x p) [] [] pos) (tCB r sq):=by
 intro pins s σ H Q I h;refine M4 (cW I hg hm hv ?_ hn hdb);exact PyProof.Rows.callWith_type0 (hc pins s σ H [] [] Q I .nil h)
end
end L2
namespace HT
open PySem PyProof.Rows
section
variable{prog:Program}{w:World}{A:Around}{E:Pu}{s:Shared}
def cat_tup(ht:IsTup s.heap t vs.toArray)(hb:IsTup s.heap b ws.toArray)(hv:vs≠[])
 (h1:ws=[]->Q (.ref t) s) (h2:ws≠[]->Q (.ref s.heap.objs.size) { s with heap:=s.heap.push { cls:=.type "tuple",data:=.seq (vs++ws).toArray } })
 (hsz:vs.length+ws.length<=sizeLine):wpAny (model prog w) A (binaryOp .Add (.ref t) (.ref b)) Q E s:=by
 obtain⟨⟨cls,dd,data,sl⟩,ho,hc,n,hd⟩:=id ht;obtain⟨⟨cls2,dd2,data2,sl2⟩,ho2,hc2,n2,hd2⟩:=id hb;simp only at hc hd hc2 hd2;subst hc hd hc2 hd2;have e:vs.toArray++ws.toArray=(vs++ws).toArray:=by simp
 by_cases hw:ws=[]
 .exact concat_meets ⟨_,ho,rfl⟩ ⟨_,ho2,rfl⟩ noFill_tuple_add seq_tuple_add ON OJ (OG _ _)
   (tuple_addW1 t b vs.toArray ws.toArray n n2 dd dd2 sl sl2 (by simpa using hv) (by simp [hw])) ⟨ho,ho2,h1 hw⟩
 .refine concat_meets ⟨_,ho,rfl⟩ ⟨_,ho2,rfl⟩ noFill_tuple_add seq_tuple_add ON OJ (OG _ _)
   (tuple_addW2 t b vs.toArray ws.toArray n n2 dd dd2 sl sl2 (by simpa using hv) (by simpa using hw) (by rw[z_,z_];exact hsz)) ⟨ho,ho2,?_⟩
  rw[e];exact h2 hw
noncomputable def sIx (n d:Nat):Option Int->Nat
 |none=>d
 |some v=>if v<0 then (v+(n:Int)).toNat else min v.toNat n
def sIx_none(n d:Nat):sIx n d none=d:=rfl
def sIx_nat(n d k:Nat):sIx n d (some (k:Int))=min k n:=by show (if (k:Int)<0 then ((k:Int)+(n:Int)).toNat else min (k:Int).toNat n)=min k n;rw[if_neg (by omega),M3]
def Hz(n d:Nat)(hd:d<=n)(o:Option Int):sIx n d o<=n:=by
 cases o with
 |none=>exact hd
 |
  some v=>
  show (if v<0 then (v+(n:Int)).toNat else min v.toNat n)<=n;by_cases hv:v<0
  .rw[if_pos hv];omega
  .rw[if_neg hv];exact Nat.min_le_right _ _
def vH(v:Int)(n d:Nat):(if v<0 then max (v+(n:Int)) 0 else min v (n:Int))=((sIx n d (some v):Nat):Int):=by
 show (if v<0 then max (v+(n:Int)) 0 else min v (n:Int))=(((if v<0 then (v+(n:Int)).toNat else min v.toNat n):Nat):Int);by_cases hv:v<0
 .simp only[if_pos hv];omega
 .simp only[if_neg hv];omega
def xP(lo hi:Option Int)(n:Nat):Builtin.Slice.sliceAdjust lo hi 1 (n:Int)=(((sIx n 0 lo:Nat):Int),((sIx n n hi:Nat):Int)):=by
 have h1:¬ ((1:Int)<0):=by omega
 unfold Builtin.Slice.sliceAdjust;simp only[h1,OW];refine Prod.ext ?_ ?_
 .cases lo with
  |none=>rfl
  |some v=>exact vH v n 0
 .cases hi with
  |none=>rfl
  |some v=>exact vH v n n
def wY(i j:Nat):Builtin.Slice.slicePlaces (i:Int) (j:Int) 1=j-i:=by
 unfold Builtin.Slice.slicePlaces;have h1:(1:Int)>0:=by omega
 simp only[h1,N2,Int.ediv_one];split <;> omega
def l7(p:IsPart v o)(h:Q o s):wpAny (model prog w) A (Builtin.Slice.slicePartIndex v) Q E s:=by
 cases p with
 |none=>exact slicePart_none h
 |int i t=>exact slicePart_int h
def lE{sl:Addr}{vl vu:Value}{lo hi:Option Int}{n:Nat}{Q:Int×Int×Nat->Shared->Prop}(hs:s.heap.IsSliceOf sl vl vu .none)(pl:IsPart vl lo)(pu:IsPart vu hi)
 (h:Q (((sIx n 0 lo:Nat):Int),1,sIx n n hi-sIx n 0 lo) s):wpAny (model prog w) A (Builtin.Slice.sliceApplied (.ref sl) (pure (n:Int))) Q E s:=by
 obtain⟨os,hos,hcs,hds⟩:=id hs;unfold Builtin.Slice.sliceApplied Builtin.Slice.sliceFields;refine o_ (o_ (M9 hos hds (x:=vl) rfl (o_ (M9 hos hds (x:=vu) rfl (o_ (M9 hos hds (x:=.none) rfl (B_ ?_)))))));refine o_ (slicePart_none ?_);show wpAny _ _ (if ((1:Int)==0)=true then _ else _) _ _ s;rw[if_neg (by decide)];refine o_ (l7 pl (o_ (l7 pu (o_ (B_ ?_)))));show wpAny _ _ (match Builtin.Slice.sliceAdjust lo hi 1 (n:Int) with |(lo,hi)=>pure (lo,(1:Int),Builtin.Slice.slicePlaces lo hi 1)) _ _ s;rw[xP lo hi n];show wpAny _ _ (pure (((sIx n 0 lo:Nat):Int),(1:Int),Builtin.Slice.slicePlaces ((sIx n 0 lo:Nat):Int) ((sIx n n hi:Nat):Int) 1)) _ _ s;rw[wY];exact B_ h
def Ca(xs:Array Value)(i k:Nat):((List.range k).filterMap λ(m:Nat)=>xs[((i:Int)+(m:Int)*1).toNat]?).toArray=((xs.toList.drop i).take k).toArray:=by
 have e:(λ(m:Nat)=>xs[((i:Int)+(m:Int)*1).toNat]?)=λm=>xs[i+m]?:=by
  funext m;have:((i:Int)+(m:Int)*1).toNat=i+m:=by omega
  rw[this]
 rw[e]
 have:=pick_run xs i k
 rw[List.filterMap_map] at this;have e2:((λx=>xs[x]?) ∘ λx=>i+x)=λm=>xs[i+m]?:=rfl;rw[e2] at this;rw[this]
def getItem_tuple_cut{t sl:Addr}{items:Array Value}{vl vu:Value}{lo hi:Option Int}{Q:Pu}(ht:IsTup s.heap t items)(hs:s.heap.IsSliceOf sl vl vu .none)(pl:IsPart vl lo)(pu:IsPart vu hi)
 (hw:¬ (sIx items.size 0 lo=0/\sIx items.size items.size hi=items.size))
 (h:Q (.ref s.heap.objs.size) { s with heap:=s.heap.push { cls:=.type "tuple",data:=.seq ((items.toList.drop (sIx items.size 0 lo)).take (sIx items.size items.size hi-sIx items.size 0 lo)).toArray } })
 (hsz:items.size<=sizeLine):wpAny (model prog w) A (getItem (.ref t) (.ref sl)) Q E s:=by
 have htake:sizeOk (.seq ((items.toList.drop (sIx items.size 0 lo)).take (sIx items.size items.size hi-sIx items.size 0 lo)).toArray):=by show ((items.toList.drop (sIx items.size 0 lo)).take (sIx items.size items.size hi-sIx items.size 0 lo)).toArray.size<=sizeLine;rw[z_,MH,Nr,M0];omega
 have hj:sIx items.size items.size hi<=items.size:=Hz _ _ (t_ _) hi;obtain⟨os,hos,hcs,hds⟩:=id hs;have hTs:s.TypeIs (.ref sl) "slice":=⟨os,hos,hcs⟩;unfold getItem;try with_reducible refine Nq ?_
 first |refine o_ (B_ ?_) |skip
 refine o_ (wpAny_sequenceKey ht.typeIs (by decide) ?_);refine o_ (ND (name:=Str.ofString "__getitem__") ht.typeIs PyProof.Rows.slot_tuple_getitem
  (Ov PyProof.Rows.slot_tuple_getitem ht.typeIs entry_tuple_getitem ?_ (args_tuple_getitem _ _)))
 show wpAny _ _ (Builtin.Tuple.tupleItemsOf (.ref t) >>= _) _ _ s;refine o_ (tupleItemsOf_ ht ?_);refine o_ (wpAny_typeOf hTs ?_);rw[if_pos (by decide)];refine o_ (lE hs pl pu ?_);have hno:¬ ((((sIx items.size 0 lo:Nat):Int)==0&&(1:Int)==1&&(sIx items.size items.size hi-sIx items.size 0 lo)==items.size)=true):=by intro q;rw[w_,w_] at q;have q1:((sIx items.size 0 lo:Nat):Int)=0:=eq_of_beq q.1.1;have q2:sIx items.size items.size hi-sIx items.size 0 lo=items.size:=eq_of_beq q.2;exact hw ⟨by omega,by omega⟩
 show wpAny _ _ (if (((sIx items.size 0 lo:Nat):Int)==0&&(1:Int)==1&&(sIx items.size items.size hi-sIx items.size 0 lo)==items.size)=true then _ else _) _ _ s;rw[if_neg hno,Ca];first
  |exact o_ (m:=Builtin.Tuple.tupleExact _) (Nc (B_ ⟨_,rfl,B_ h⟩) htake)
  |exact o_ (m:=Builtin.Tuple.tupleExact _) (Nc (o_ (B_ (B_ ⟨_,rfl,B_ h⟩))) htake)
  |exact o_ (o_ (m:=Builtin.Tuple.tupleExact _) (Nc (B_ (B_ ⟨_,rfl,B_ h⟩)) htake))
  |exact o_ (o_ (m:=Builtin.Tuple.tupleExact _) (Nc (B_ ⟨_,rfl,B_ h⟩) htake))
end
end HT
namespace L2
open PySem PySem.Spec PyProof.Rows
abbrev TO:=St->Hp->(Option Int->Hp->Prop)->Prop
def PO(X:Cx)(e:Option Expr)(t:TO):Prop:=
 ∀
  (pins:Pq) (s:Shared) (σ:St) (H:Hp) (Q:Option Int->Hp->Prop),Inv X pins σ H s->t σ H Q->
  wpAny (model X.prog X.w) X.A (evalPart e X.env) (λu s'=>∃o H',Inv X pins σ H' s'/\IsPart u o/\Q o H') X.xe s
def Er:TO:=λ_ H Q=>Q none H
def J8(t:TE):TO:=λσ H Q=>t σ H λx H1=>∃i,x=.int i/\Q (some i) H1
section
variable{X:Cx}{e:Expr}{te:TE}{lo hi:Option Expr}{tl th:TO}{pos p2:Pos}
def Fj:PO X none Er:=by intro pins s σ H Q I h;rw[evalPart_none];exact B_ ⟨none,H,I,.none,h⟩
def FU(h:PE X e te):PO X (some e) (J8 te):=by intro pins s σ H Q I hw;rw[evalPart_some];refine thn (h pins s σ H _ I hw) λu s1 zz=>exA zz λx H1 I1 r1 q1=>?_;obtain⟨i,rfl,q⟩:=q1;obtain⟨t,rfl⟩:=r1;exact⟨some i,H1,I1,.int i t,q⟩
def SlR(X:Cx)(r:V->Option Int->Option Int->Hp->VK->Prop):Prop:=
 ∀
  (pins:Pq) (s:Shared) (σ:St) (H:Hp) (x:V) (v vl vu:Value) (lo hi:Option Int) (sl:Addr) (Q:VK),Inv X pins σ H s->RelV x v->s.heap.IsSliceOf sl vl vu .none->IsPart vl lo->IsPart vu hi->r x lo hi H Q->
  ∃T id,typeLookup (.type T) "__getitem__"=pure (some (.builtin id))/\s.TypeIs v T/\wpAny (model X.prog X.w) X.A (getItem v (.ref sl)) (EP X pins σ Q) X.xe s
def SlR.or(h:SlR X r)(h':SlR X r'):SlR X (λx lo hi H Q=>r x lo hi H Q\/r' x lo hi H Q):=by
 intro pins s σ H x v vl vu lo hi sl Q I rx hs pl pu q;rcases q with q |q
 .exact h pins s σ H x v vl vu lo hi sl Q I rx hs pl pu q
 .exact h' pins s σ H x v vl vu lo hi sl Q I rx hs pl pu q
def tSl(r:V->Option Int->Option Int->Hp->VK->Prop)(te:TE)(tl th:TO):TE:=λσ H Q=>te σ H λx H1=>tl σ H1 λl H2=>th σ H2 λu H3=>r x l u H3 Q
def BW(hr:SlR X r)(he:PE X e te)(hl:PO X lo tl)(hu:PO X hi th):PE X (.Subscript e (.Slice lo hi none p2) pos) (tSl r te tl th):=by intro pins s σ H Q I h;refine Subscript_ (thn (he pins s σ H _ I h) λv s1 zz=>exA zz λx H1 I1 r1 q1=>?_);refine wpAny_Slice (thn (hl pins s1 σ H1 _ I1 q1) λvl s2 ⟨l,H2,I2,pl,q2⟩=>thn (hu pins s2 σ H2 _ I2 q2) λvu s3 ⟨u,H3,I3,pu,q3⟩=>?_);rw[evalPart_none];refine B_ ?_;have I4:Inv X pins σ H3 { s3 with heap:=s3.heap.push { cls:=.type "slice",data:=.fields #[vl,vu,.none] } }:=I3.kept (t':=s3.toks) λb ob q=>r_ _ q;obtain⟨T,id,hT,ht,hg⟩:=hr pins { s3 with heap:=s3.heap.push { cls:=.type "slice",data:=.fields #[vl,vu,.none] } } σ H3 x v vl vu l u s3.heap.objs.size Q I4 r1 (Heap.IsSliceOf.new ..) pl pu q3;show wpAny (model X.prog X.w) X.A (subscriptTail e (.Slice lo hi none p2) v (.ref s3.heap.objs.size)) (EP X pins σ Q) X.xe { s3 with heap:=s3.heap.push { cls:=.type "slice",data:=.fields #[vl,vu,.none] } };exact tail_any (ops:=[.ref s3.heap.objs.size,v]) ht hT hg (by with_unfolding_all rfl)
noncomputable def jQ (xs:List V) (lo hi:Option Int):List V:=(xs.drop (HT.sIx xs.length 0 lo)).take (HT.sIx xs.length xs.length hi-HT.sIx xs.length 0 lo)
def kC(xs:List V)(lo hi:Option Int):(jQ xs lo hi).length<=xs.length:=by unfold jQ;rw[MH,Nr];omega
def CN(K:W.Frag):V->Option Int->Option Int->Hp->VK->Prop:=λx lo hi H Q=>∃a xs,x=.ref a/\SqT K H a xs/\
 ¬ (HT.sIx xs.length 0 lo=0/\HT.sIx xs.length xs.length hi=xs.length)/\∀p,H p=none->Q (.ref p) (upd H p (.tup (jQ xs lo hi)))
def G0:SlR X (CN X.K):=by
 intro pins s σ H x v vl vu lo hi sl Q I rx hs pl pu h;obtain⟨a,xs,rfl,hx,hw,q⟩:=h;cases rx;obtain⟨its,r,ht,hz⟩:=I.tuple hx;have a_:its.toArray.size=xs.length:=by rw[z_];exact r.length.symm
 refine⟨"tuple",_,PyProof.Rows.slot_tuple_getitem.lookup,ht.typeIs,?_⟩;refine HT.getItem_tuple_cut ht hs pl pu (by rw[a_];exact hw) ?_ (by rw[a_];exact hz);rw[a_];refine⟨.ref s.heap.objs.size,_,I.laid (t':=s.toks) (o:=.tup (jQ xs lo hi)) (λb ob q=>r_ _ q) (t_ _) ?_,rfl,q _ (I.hok.fresh (t_ _))⟩;exact⟨My (kC xs lo hi) hz,_,(r.drop (HT.sIx xs.length 0 lo)).take (HT.sIx xs.length xs.length hi-HT.sIx xs.length 0 lo),IsTup.new _ _⟩
def qL(K:W.Frag):R2:=λx y H Q=>∃a b xs ys,x=.ref a/\y=.ref b/\SqT K H a xs/\SqT K H b ys/\xs≠[]/\xs.length+ys.length<=sizeLine/\
 (ys=[]->Q (.ref a) H)/\(ys≠[]->∀p,H p=none->Q (.ref p) (upd H p (.tup (xs++ys))))
def Vals.nil_iff(r:Vals xs us):us=[] ↔ xs=[]:=by
 cases r with
 |nil=>simp
 |cons _ _=>simp
def Fl:OpR X (binaryOp .Add) (qL X.K):=by intro pins s σ H x y v u Q I rx ry h;obtain⟨a,b,xs,ys,rfl,rfl,ha,hb,hx,hz,q1,q2⟩:=h;cases rx;cases ry;obtain⟨its,r1,p1,_⟩:=I.tuple ha;obtain⟨its2,r2,p2,_⟩:=I.tuple hb;refine HT.cat_tup p1 p2 (λz=>hx (r1.nil_iff.mp z)) (λz=>⟨.ref a,H,I,rfl,q1 (r2.nil_iff.mp z)⟩) (λz=>?_) (by rw[<- r1.length,<- r2.length];exact hz);refine⟨.ref s.heap.objs.size,_,I.laid (t':=s.toks) (o:=.tup (xs++ys)) (λb ob q=>r_ _ q) (t_ _) ?_,rfl,q2 (λw=>z (r2.nil_iff.mpr w)) _ (I.hok.fresh (t_ _))⟩;exact⟨by rw[Em];exact hz,_,r1.append r2,IsTup.new _ _⟩
end
noncomputable def ixN (n:Nat) (i:Int):Option Nat:=if 0<=i then (if i<n then some i.toNat else none) else if -(n:Int)<=i then some (i+n).toNat else none
noncomputable def atI {α:Type} (xs:List α) (i:Int):Option α:=(ixN xs.length i).bind λj=>xs[j]?
def vK(h:ixN n i=some j):seqIndex? i n=some j/\j<n/\-(n:Int)<=i/\i<n:=by
 unfold ixN at h;by_cases h0:0<=i
 .rw[if_pos h0] at h;by_cases h1:i<n
  .rw[if_pos h1] at h;have e:i.toNat=j:=J_ h;exact⟨by rw[seqIndex_of h0 h1,e],by omega,by omega,h1⟩
  .rw[if_neg h1] at h;cases h
 .rw[if_neg h0] at h;by_cases h1:-(n:Int)<=i
  .rw[if_pos h1] at h;have e:(i+n).toNat=j:=J_ h;exact⟨by rw[seqIndex_neg (by omega) h1,e],by omega,h1,by omega⟩
  .rw[if_neg h1] at h;cases h
def vU(h:atI xs i=some v):∃j,seqIndex? i xs.length=some j/\xs[j]?=some v/\j<xs.length/\-(xs.length:Int)<=i/\i<xs.length:=by
 unfold atI at h;cases e:ixN xs.length i with
 |none=>rw[e] at h;cases h
 |some j=>rw[e] at h;obtain⟨h1,h2,h3,h4⟩:=vK e;exact⟨j,h1,h,h2,h3,h4⟩
def oy(b:Expr):Prop:=∀o i,subscripted b false o i=operate [o,i] (getItem o i)
def IxR(X:Cx)(r:R2):Prop:=
 ∀
  (value slice:Expr) (pins:Pq) (s:Shared) (σ:St) (H:Hp) (x y:V) (v u:Value) (Q:VK),Inv X pins σ H s->RelV x v->RelV y u->r x y H Q->
  subscripted slice false v u=operate [v,u] (getItem v u)->wpAny (model X.prog X.w) X.A (subscriptTail value slice v u) (EP X pins σ Q) X.xe s
def MtR(X:Cx)(id:String)(r:V->List V->Hp->VK->Prop):Prop:=
 ∀
  (pins:Pq) (s:Shared) (σ:St) (H:Hp) (x:V) (xs:List V) (v:Value) (us:List Value) (Q:VK),Inv X pins σ H s->RelV x v->Vals xs us->r x xs H Q->
  wpAny (model X.prog X.w) X.A (call (.builtin id) (v::us)) (EP X pins σ Q) X.xe s
section
variable{X:Cx}{a b:Expr}{ta tb:TE}{pos:Pos}
def IxR.or(h:IxR X r)(h':IxR X r'):IxR X (λx y H Q=>r x y H Q\/r' x y H Q):=by
 intro value slice pins s σ H x y v u Q I rx ry q hs;rcases q with q |q
 .exact h value slice pins s σ H x y v u Q I rx ry q hs
 .exact h' value slice pins s σ H x y v u Q I rx ry q hs
def Ec(hr:IxR X r)(ha:PE X a ta)(hb:PE X b tb)(hs:oy b):PE X (.Subscript a b pos) (tOp r ta tb):=by intro pins s σ H Q I h;exact Subscript_ (A2 ha hb I h λv u s2 x y H2 I2 rx ry q=>hr a b pins s2 σ H2 x y v u Q I2 rx ry q (hs _ _))
def wU(K:W.Frag):R2:=λx y H Q=>∃p xs i v,x=.ref p/\y=.int i/\SqL K H p xs/\atI xs i=some v/\Q v H
def xM(K:W.Frag):R2:=λx y H Q=>∃p xs i v,x=.ref p/\y=.int i/\SqT K H p xs/\atI xs i=some v/\Q v H
def F3:IxR X (wU X.K):=by
 intro value slice pins s σ H x y v u Q I rx ry h hs;obtain⟨p,xs,i,z,rfl,rfl,hq,he,q⟩:=h;cases rx;obtain⟨t,rfl⟩:=ry;obtain⟨its,r,pl,hz⟩:=I.list hq;obtain⟨j,h1,h2,h3,h4,h5⟩:=vU he;obtain⟨w,ew,rw'⟩:=r.get h2;have hl:=r.length;have hn:=gF;have j_:EP X pins σ Q w s:=⟨z,H,I,rw',q⟩;by_cases h0:0<=i
 .have hj:i.toNat=j:=by rw[seqIndex_of h0 h5] at h1;exact J_ h1
  exact item_listR pl.isList h0 (by omega) (by rw[hj];simpa using ew) j_ hs
 .have hj:(i+(its.toArray.size:Int)).toNat=j:=by rw[seqIndex_neg (by omega) h4] at h1;rw[z_,<- hl];exact J_ h1
  exact subscriptTail_builtinR (x:=w) pl.isList.typeIs slot_list_getitem.lookup
   (wpAny_getItem_list_neg (Q:=λr s'=>r=w/\EP X pins σ Q r s') pl.isList (by omega) (by rw[z_] <;> omega) (by omega) (by rw[hj];simpa using ew) ⟨rfl,j_⟩) hs
def HG:IxR X (xM X.K):=by
 intro value slice pins s σ H x y v u Q I rx ry h hs;obtain⟨p,xs,i,z,rfl,rfl,hq,he,q⟩:=h;cases rx;obtain⟨t,rfl⟩:=ry;obtain⟨its,r,pl,hz⟩:=I.tuple hq;obtain⟨j,h1,h2,h3,h4,h5⟩:=vU he;obtain⟨w,ew,rw'⟩:=r.get h2;have hl:=r.length;have hn:=gF;have j_:EP X pins σ Q w s:=⟨z,H,I,rw',q⟩;exact subscriptTail_builtinR (x:=w) pl.typeIs slot_tuple_getitem.lookup
  (getItem_tuple (j:=j) (Q:=λr s'=>r=w/\EP X pins σ Q r s') pl (by omega) (by omega) (by rw[z_,<- hl];exact h1) (by simpa using ew) ⟨rfl,j_⟩) hs
def xF(its:List Value)(n j:Nat)(u:Value):Obj.mapSeq (·.setIfInBounds j u) { cls:=.type "list",data:=.seq its.toArray n }={ cls:=.type "list",data:=.seq (its.set j u).toArray n }:=by simp [Obj.mapSeq]
def Inv.lst(I:Inv X pins σ H s)(h:H p=some (.lst xs)):
 ∃(its:List Value) (n:Nat),Vals xs its/\s.heap.get? p=some { cls:=.type "list",data:=.seq its.toArray n }/\xs.length<=sizeLine:=by
 obtain⟨z,its,n,r,e⟩:=I.hok p _ h;exact⟨its,n,r,e,z⟩
def Inv.lstUpd{pins:Pq}{σ:St}{H:Hp}{s:Shared}{p:Addr}{xs ys:List V}{its its':List Value}{n n':Nat}{f:Obj->Obj}(I:Inv X pins σ H s)(h:H p=some (.lst xs))
 (ho:s.heap.get? p=some { cls:=.type "list",data:=.seq its.toArray n }) (hf:f { cls:=.type "list",data:=.seq its.toArray n }={ cls:=.type "list",data:=.seq its'.toArray n' }) (r:Vals ys its') (hz:ys.length<=sizeLine) (t:Nat):
 Inv X pins σ (upd H p (.lst ys)) { s with heap:=s.heap.update p f,toks:=t }:=by
 have e:(s.heap.update p f).get? p=some { cls:=.type "list",data:=.seq its'.toArray n' }:=by rw[Heap.get?_update_self f ho (by rw[hf] <;> rfl),hf]
 refine I.write (x:=p) (e:=p) (by rw[h];trivial) (.inl rfl) (λb u hb q=>(OM _ _ (Ne.symm hb)).trans q) ⟨_,e⟩ ?_;exact⟨hz,its',n',r,e⟩
def DB:V->V->V->Hp->(Hp->Prop)->Prop:=λo i v H Q=>∃p xs k j,o=.ref p/\i=.int k/\H p=some (.lst xs)/\ixN xs.length k=some j/\Q (upd H p (.lst (xs.set j v)))
def CO:w9 X DB:=by
 intro pins s σ H o i v ov iv u Q I ro ri rv h;obtain⟨p,xs,k,j,rfl,rfl,hp,hj,q⟩:=h;cases ro;obtain⟨t,rfl⟩:=ri;obtain⟨its,n,r,ho,hz⟩:=I.lst hp;obtain⟨h1,h2,h3,h4⟩:=vK hj;have hl:=r.length;have hn:=gF;have I':Inv X pins σ (upd H p (.lst (xs.set j v))) { s with heap:=s.heap.update p (Obj.mapSeq (·.setIfInBounds j u)) }:=
  I.lstUpd hp ho (xF its n j u) (r.set rv j) (by rw[MJ];exact hz) s.toks
 by_cases h0:0<=k
 .have hk:k.toNat=j:=by rw[seqIndex_of h0 h4] at h1;exact J_ h1
  exact W.ki_setAt ho h0 (by omega) (by rw[z_,<- hl];exact h4) (by rw[hk];exact⟨_,I',q⟩)
 .have hk:(k+(its.toArray.size:Int)).toNat=j:=by rw[seqIndex_neg (by omega) h3] at h1;rw[z_,<- hl];exact J_ h1
  exact W.ki_setBack ho (by omega) (by rw[z_,<- hl];exact h3) (by omega) (by rw[hk];exact⟨_,I',q⟩)
def rz(lo hi:Option Int)(n:Nat):(sliceBounds lo hi none n).1=((HT.sIx n 0 lo:Nat):Int)/\(sliceBounds lo hi none n).2.1=((HT.sIx n n hi:Nat):Int)/\(sliceBounds lo hi none n).2.2=1:=by
 refine⟨?_,?_,rfl⟩
 .cases lo with
  |none=>simp [sliceBounds,HT.sIx]
  |
   some i=>
   simp only[sliceBounds,HT.sIx,Option.getD_none,show (1:Int)>0 by decide,N2];by_cases h:i<0
   .simp only[h,N2] <;> omega
   .simp only[h,OW] <;> omega
 .cases hi with
  |none=>simp [sliceBounds,HT.sIx]
  |
   some i=>
   simp only[sliceBounds,HT.sIx,Option.getD_none,show (1:Int)>0 by decide,N2];by_cases h:i<0
   .simp only[h,N2] <;> omega
   .simp only[h,OW] <;> omega
def pP(its:List Value)(lo hi:Option Int):slicePick its.toArray lo hi none=((its.drop (HT.sIx its.length 0 lo)).take (HT.sIx its.length its.length hi-HT.sIx its.length 0 lo)).toArray:=by obtain⟨h1,h2,h3⟩:=rz lo hi its.toArray.size;unfold slicePick;rw[h1,h2,h3];simp only[sliceRange_one,pick_run,z_] <;> rfl
def A5(K:W.Frag):V->Option Int->Option Int->Hp->VK->Prop:=λx lo hi H Q=>∃a xs,x=.ref a/\SqL K H a xs/\∀p,H p=none->Q (.ref p) (upd H p (.lst (jQ xs lo hi)))
def EE:SlR X (A5 X.K):=by intro pins s σ H x v vl vu lo hi sl Q I rx hs pl pu h;obtain⟨a,xs,rfl,hx,q⟩:=h;cases rx;obtain⟨its,r,ht,hz⟩:=I.list hx;have a_:=r.length;refine⟨"list",_,slot_list_getitem.lookup,ht.isList.typeIs,?_⟩;refine wpAny_getItem_list_slice ht.isList hs pl pu .none (by simp) ?_ (by rw[z_] <;> omega);rw[pP,<- a_];refine⟨.ref s.heap.objs.size,_,I.laid (t':=s.toks) (o:=.lst (jQ xs lo hi)) (λb ob q=>r_ _ q) (t_ _) ?_,rfl,q _ (I.hok.fresh (t_ _))⟩;exact⟨My (kC xs lo hi) hz,_,0,(r.drop (HT.sIx xs.length 0 lo)).take (HT.sIx xs.length xs.length hi-HT.sIx xs.length 0 lo),G_ _ rfl⟩
noncomputable def flatV:V->Bool
 |.non=>true
 |.bl _=>true
 |.int _=>true
 |.str _=>true
 |_=>false
noncomputable def eqV:V->V->Bool
 |.non,.non=>true
 |.bl a,.bl b=>a==b
 |.bl a,.int b=>(if a then 1 else 0)==b
 |.int a,.bl b=>a==(if b then 1 else 0)
 |.int a,.int b=>a==b
 |.str a,.str b=>a==b
 |_,_=>false
def G5(ry:RelV y u)(rx:RelV x v)(fy:flatV y=true)(fx:flatV x=true):SeqAt.EqAt A s u v (eqV y x):=by
 cases y with
 |
  non=>
  cases ry;cases x with
  |non=>cases rx;exact SeqAt.EqAt.same _
  |bl b=>cases rx;exact SeqAt.EqAt.none_bool b
  |int b=>obtain⟨t,rfl⟩:=rx;exact SeqAt.EqAt.none_int b t
  |str b=>obtain⟨t,rfl⟩:=rx;exact SeqAt.EqAt.none_str b t
  |_=>exact absurd (show false=true from fx) y_
 |
  bl a=>
  cases ry;cases x with
  |non=>cases rx;exact SeqAt.EqAt.bool_none a
  |bl b=>cases rx;exact SeqAt.EqAt.bool_bool a b
  |int b=>obtain⟨t,rfl⟩:=rx;exact SeqAt.EqAt.bool_int a b t
  |str b=>obtain⟨t,rfl⟩:=rx;exact SeqAt.EqAt.bool_str a b t
  |_=>exact absurd (show false=true from fx) y_
 |
  int a=>
  obtain⟨t',rfl⟩:=ry;cases x with
  |non=>cases rx;exact SeqAt.EqAt.int_none a t'
  |bl b=>cases rx;exact SeqAt.EqAt.int_bool a t' b
  |int b=>obtain⟨t,rfl⟩:=rx;exact SeqAt.EqAt.int_int a t' b t
  |str b=>obtain⟨t,rfl⟩:=rx;exact SeqAt.EqAt.int_str a t' b t
  |_=>exact absurd (show false=true from fx) y_
 |
  str a=>
  obtain⟨t',rfl⟩:=ry;cases x with
  |non=>cases rx;exact SeqAt.EqAt.str_none a t'
  |bl b=>cases rx;exact SeqAt.EqAt.str_bool a t' b
  |int b=>obtain⟨t,rfl⟩:=rx;exact SeqAt.EqAt.str_int a t' b t
  |str b=>obtain⟨t,rfl⟩:=rx;exact SeqAt.EqAt.str_str a t' b t
  |_=>exact absurd (show false=true from fx) y_
 |_=>exact absurd (show false=true from fy) y_
noncomputable def eqU (x:V) (u:Value):Bool:=match u with
 |.none=>eqV .non x
 |.bool b=>eqV (.bl b) x
 |.int i _=>eqV (.int i) x
 |.str z _=>eqV (.str z) x
 |_=>false
def yI(r:RelV y u)(f:flatV y=true):eqU x u=eqV y x:=by
 cases y with
 |non=>cases r;rfl
 |bl b=>cases r;rfl
 |int i=>obtain⟨t,rfl⟩:=r;rfl
 |str z=>obtain⟨t,rfl⟩:=r;rfl
 |_=>exact absurd (show false=true from f) y_
theorem iF:∀{xs:List V}{us:List Value},Vals xs us->xs.all flatV=true->us.any (eqU x)=xs.any λy=>eqV y x
 |_,_,.nil,_=>rfl
 |
  y::xs,u::us,.cons r t,f=>by
  rw[Ph,w_] at f;rw[Ni,Ni,yI r f.1,iF t f.2]
theorem gL(rx:RelV x v)(fx:flatV x=true):∀{xs:List V}{us:List Value},Vals xs us->xs.all flatV=true->∀u∈us,SeqAt.EqAt A s u v (eqU x u)
 |_,_,.nil,_=>λu hu=>by cases hu
 |
  y::xs,u::us,.cons r t,f=>λu' hu=>by
  rw[Ph,w_] at f;rcases F_.mp hu with rfl |hu
  .rw[yI r f.1];exact G5 r rx f.1 fx
  .exact gL rx fx t f.2 u' hu
noncomputable def inV (x:V) (xs:List V):Bool:=xs.any λy=>eqV y x
def rIn(K:W.Frag)(neg:Bool):R2:=λx y H Q=>∃p xs,y=.ref p/\(SqL K H p xs\/SqT K H p xs)/\flatV x=true/\xs.all flatV=true/\Q (.bl (if neg then !inV x xs else inV x xs)) H
def zQ:OpR X (compareOp .In) (rIn X.K false):=by
 intro pins s σ H x y v u Q I rx ry h;obtain⟨p,xs,rfl,hq,fx,fs,q⟩:=h;cases ry;rcases hq with hq |hq
 .obtain⟨its,r,pl,hz⟩:=I.list hq;refine SeqAt.in_listAt (eqU x) pl.isList (λw hw=>gL rx fx r fs w (by simpa using hw)) ⟨.bl _,H,I,rfl,?_⟩;rw[show its.toArray.any (eqU x)=its.any (eqU x) by simp,iF r fs];exact q
 .obtain⟨its,r,pl,hz⟩:=I.tuple hq;refine SeqAt.in_tupleAt (eqU x) pl (λw hw=>gL rx fx r fs w (by simpa using hw)) ⟨.bl _,H,I,rfl,?_⟩;rw[show its.toArray.any (eqU x)=its.any (eqU x) by simp,iF r fs];exact q
def tf:OpR X (compareOp .NotIn) (rIn X.K true):=by
 intro pins s σ H x y v u Q I rx ry h;obtain⟨p,xs,rfl,hq,fx,fs,q⟩:=h;cases ry;rcases hq with hq |hq
 .obtain⟨its,r,pl,hz⟩:=I.list hq;refine SeqAt.notIn_listAt (eqU x) pl.isList (λw hw=>gL rx fx r fs w (by simpa using hw)) ⟨.bl _,H,I,rfl,?_⟩;rw[show its.toArray.any (eqU x)=its.any (eqU x) by simp,iF r fs];exact q
 .obtain⟨its,r,pl,hz⟩:=I.tuple hq;refine SeqAt.notIn_tupleAt (eqU x) pl (λw hw=>gL rx fx r fs w (by simpa using hw)) ⟨.bl _,H,I,rfl,?_⟩;rw[show its.toArray.any (eqU x)=its.any (eqU x) by simp,iF r fs];exact q
def qQ:CallR X (.builtin "len") (λxs H Q=>∃p ys,xs=[.ref p]/\(SqL X.K H p ys\/SqT X.K H p ys)/\Q (.int ys.length) H):=by
 intro pins s σ H xs us Q I r h;obtain⟨p,ys,rfl,hq,q⟩:=h;obtain⟨u,rfl,rx⟩:=fZ r;cases rx;have hn:=gF;rcases hq with hq |hq
 .obtain⟨its,r',pl,hz⟩:=I.list hq;have a_:=r'.length;exact Calls.call_len_list pl.isList (by simp only[z_] <;> omega) ⟨.int ys.length,H,I.tok _,⟨s.toks+1,by rw[z_,a_]⟩,q⟩
 .obtain⟨its,r',pl,hz⟩:=I.tuple hq;have a_:=r'.length;exact len_tuple pl (by simp only[z_] <;> omega) ⟨.int ys.length,H,I.tok _,⟨s.toks+1,by rw[z_,a_]⟩,q⟩
def sQ:CallR X (.builtin "len") (λxs H Q=>∃z,xs=[.str z]/\z.length<=sizeLine/\Q (.int z.length) H):=by intro pins s σ H xs us Q I r h;obtain⟨z,rfl,hz,q⟩:=h;obtain⟨u,rfl,t,rfl⟩:=fZ r;have hn:=gF;exact len_str (by omega) ⟨.int z.length,H,I.tok _,⟨_,rfl⟩,q⟩
def CallR.or(h:CallR X f r)(h':CallR X f r'):CallR X f (λxs H Q=>r xs H Q\/r' xs H Q):=by
 intro pins s σ H xs us Q I rs q;rcases q with q |q
 .exact h pins s σ H xs us Q I rs q
 .exact h' pins s σ H xs us Q I rs q
def pV:CallR X (.type "tuple") (λxs H Q=>∃p ys,xs=[.ref p]/\((SqL X.K H p ys/\∀l,H l=none->Q (.ref l) (upd H l (.tup ys)))\/(SqT X.K H p ys/\Q (.ref p) H))):=by
 intro pins s σ H xs us Q I r h;obtain⟨p,ys,rfl,h⟩:=h;obtain⟨u,rfl,rx⟩:=fZ r;cases rx;rcases h with ⟨hq,q⟩ |⟨hq,q⟩
 .obtain⟨its,r',pl,hz⟩:=I.list hq;have a_:=r'.length;refine call_tuple_list pl.isList (λh' kp=>?_) (by simp only[z_] <;> omega);have I1:Inv X pins σ H { s with heap:=h' }:=I.kept (t':=s.toks) kp;have I2:Inv X pins σ (upd H h'.objs.size (.tup ys)) { s with heap:=h'.push { cls:=.type "tuple",data:=.seq its.toArray } }:=
   I1.laid (t':=s.toks) (λb o e=>r_ _ e) (t_ _) (show ObjOk X.prog X.w _ _ _ (.tup ys) from ⟨hz,its,r',IsTup.new _ _⟩)
  exact⟨.ref h'.objs.size,_,I2,rfl,q _ (I1.hok.fresh (t_ _))⟩
 .obtain⟨its,r',pl,hz⟩:=I.tuple hq;exact call_tuple_same pl ⟨.ref p,H,I,rfl,q⟩
def tyV(K:W.Frag)(T:String)(x:V)(H:Hp):Prop:=match x with
 |.str _=>T="str"
 |.int _=>T="int"
 |.ref p=>(T="list" /\ ∃xs,SqL K H p xs)\/(T="tuple" /\ ∃o,K.lookup p=some o/\o.cls=.type "tuple" /\ o.dict=none)\/
  (T="dict" /\ ((∃kvs,H p=some (.dK kvs))\/∃kvs,H p=some (.dT kvs)))\/(T="set" /\ ∃S n,H p=some (.set S n))
 |_=>False
def yk(I:Inv X pins σ H s)(r:RelV x v)(ty:tyV X.K T x H):
 s.TypeIs v T/\∀a,v=.ref a->∃ob,s.heap.get? a=some ob/\ob.dict=none:=by
 cases x with
 |str z=>obtain⟨t,rfl⟩:=r;cases (show T="str" from ty);exact⟨typeIs_str s z t,λ_ e=>nomatch e⟩
 |int i=>obtain⟨t,rfl⟩:=r;cases (show T="int" from ty);exact⟨typeIs_int s i t,λ_ e=>nomatch e⟩
 |
  ref p=>
  cases r;rcases ty with ⟨rfl,xs,hq⟩ |⟨rfl,o,hk,hc,hd⟩ |⟨rfl,hk⟩ |⟨rfl,S,n,hk⟩
  .obtain⟨its,_,pl,_⟩:=I.list hq;refine⟨pl.isList.typeIs,λa e=>?_⟩;cases e;obtain⟨o,n,e,c,hd,_⟩:=pl;exact⟨o,e,hd⟩
  .refine⟨⟨o,I.kIn p o hk,hc⟩,λa e=>?_⟩;cases e;exact⟨o,I.kIn _ o hk,hd⟩
  .have z:∃o,s.heap.get? p=some o/\o.ExactDict:=by
    rcases hk with ⟨kvs,hk⟩ |⟨kvs,hk⟩
    .obtain⟨_,_,_,_,o,_,_,e,ex,_⟩:=I.hok p _ hk;exact⟨o,e,ex⟩
    .obtain⟨_,_,_,_,o,_,_,e,ex,_⟩:=I.hok p _ hk;exact⟨o,e,ex⟩
   obtain⟨o,e,ex⟩:=z;refine⟨⟨o,e,ex.1⟩,λa e2=>?_⟩;cases e2;exact⟨o,e,ex.2.1⟩
  .obtain⟨o,_,_,_,e,ex,_⟩:=I.hok p _ hk;refine⟨⟨o,e,ex.1⟩,λa e2=>?_⟩;cases e2;exact⟨o,e,ex.2.1⟩
 |_=>exact False.elim ty
def tBM0(K:W.Frag)(T:String)(r:V->List V->Hp->VK->Prop)(to:TE):TE:=λσ H Q=>to σ H λx H1=>tyV K T x H1/\r x [] H1 Q
def tBM(K:W.Frag)(T:String)(r:V->List V->Hp->VK->Prop)(to:TE)(t:TA):TE:=λσ H Q=>to σ H λx H1=>tyV K T x H1/\t σ H1 λxs H2=>r x xs H2 Q
variable{o e:Expr}{es:List Expr}{to:TE}{t:TA}{name:Str}{apos cpos:Pos}{T id:String}{r:V->List V->Hp->VK->Prop}
def IS(pa:PlainAttrs T)(slot:Slot T name id)(hty:typeOf (.builtin id)=pure (.type "method_descriptor"))(hm:MtR X id r)(ho:PE X o to)
 (e_:attributeBase o name X.env (eval o X.env)=eval o X.env) (f_:(apos.endLine==cpos.line)=true):PE X (.Call (.Attribute o name apos) [] [] cpos) (tBM0 X.K T r to):=by
 intro pins s σ H Q I h;refine wpAny_Call_method0_late e_ f_ (thn (ho pins s σ H _ I h) λv s1 ⟨x,H1,I1,r1,ty,q1⟩=>?_);obtain⟨h1,h2⟩:=yk I1 r1 ty;exact⟨T,id,pa,slot,hty,h1,h2,Calls.callWith_builtin rfl (PySem.evalArgs_none (hm pins s1 σ H1 x [] v [] Q I1 r1 .nil q1))⟩
def qb(pa:PlainAttrs T)(slot:Slot T name id)(hty:typeOf (.builtin id)=pure (.type "method_descriptor"))(hm:MtR X id r)(ho:PE X o to)(ha:PA X (e::es) t)
 (e_:attributeBase o name X.env (eval o X.env)=eval o X.env)
 (hfew:((backTo cpos (starEach (e::es) X.env)).all (λx=>!x.1)&&(backToKw cpos (keywordEach [] X.env)).all (λx=>x.1.isSome)
  && decide ((e::es).length+([]:List Keyword).length+(if ([]:List Keyword).isEmpty then 0 else 1)<30))=true)
 (f_:(apos.endLine==cpos.line)=true) (hs:starEach (e::es) X.env=(false,eval e X.env)::starEach es X.env) (c_:(backTo cpos (starEach es X.env)).any (·.1)=false):
 PE X (.Call (.Attribute o name apos) (e::es) [] cpos) (tBM X.K T r to t):=by
 intro pins s σ H Q I h;refine wpAny_Call_method_late e_ hfew f_ rfl (thn (ho pins s σ H _ I h) λv s1 ⟨x,H1,I1,r1,ty,q1⟩=>?_);obtain⟨h1,h2⟩:=yk I1 r1 ty;refine⟨T,id,pa,slot,hty,h1,h2,?_⟩;have hA:=ha cpos pins s1 σ H1 _ I1 q1;rw[hs] at hA ⊢;refine Calls.callWith_builtin (by show (false || (backTo cpos (starEach es X.env)).any (·.1))=false;rw[c_] <;> rfl) (Calls.evalArgs_plain ?_);exact thn hA λus s2 zz=>exA zz λvs H2 I2 r2 q2=>hm pins s2 σ H2 x vs v us Q I2 r1 r2 q2
end
def MtM(X:Cx)(id:String)(r:V->List V->Hp->VK->Prop):Prop:=
 ∀
  (pins:Pq) (s:Shared) (σ:St) (H:Hp) (x:V) (xs:List V) (v:Value) (us:List Value) (Q:VK),Inv X pins σ H s->RelV x v->Vals xs us->r x xs H Q->
  wpAny (model X.prog X.w) X.A (call (.builtin id) (v::us)) (EP X pins σ Q) X.xe s
def Vals.one(r:Vals [x] us):∃u,us=[u]/\RelV x u:=by
 cases r with
 |cons r t=>cases t;exact⟨_,rfl,r⟩
theorem Vals.zero:∀{us:List Value},Vals [] us->us=[]
 |_,.nil=>rfl
def Vals.dropLast(h:Vals xs us):Vals xs.dropLast us.dropLast:=by
 induction h with
 |nil=>exact .nil
 |
  cons r t ih=>
  cases t with
  |nil=>exact .nil
  |cons q t'=>exact .cons r ih
def xb{α:Type}(l:List α):l.eraseIdx (l.length-1)=l.dropLast:=by
 induction l with
 |nil=>rfl
 |
  cons a r ih=>
  cases r with
  |nil=>rfl
  |
   cons b r=>
   have e:(a::b::r).length-1=((b::r).length-1)+1:=by have h1:(a::b::r).length=r.length+2:=rfl;have h2:(b::r).length=r.length+1:=rfl;omega
   rw[e,List.eraseIdx_cons_succ,ih];all_goals rfl
section
variable{X:Cx}{pins:Pq}{σ:St}{H:Hp}{s:Shared}{l:Addr}{xs ys:List V}
def Inv.lset{its its':List Value}{n:Nat}{f:Array Value->Array Value}{t':Nat}(I:Inv X pins σ H s)(hH:H l=some (.lst xs))
 (e:s.heap.get? l=some { cls:=.type "list",data:=.seq its.toArray n }) (hf:f its.toArray=its'.toArray) (hv:Vals ys its') (hz:ys.length<=sizeLine):
 Inv X pins σ (upd H l (.lst ys)) { s with heap:=s.heap.update l (Obj.mapSeq f),toks:=t' }:=by
 have q:=PySem.IsL.update e f;rw[hf] at q;refine I.write (x:=l) (e:=l) (by rw[hH];exact trivial) (.inl rfl) (λb' u hb hu=>(OM s.heap (Obj.mapSeq f) (Ne.symm hb)).trans hu) ⟨_,q⟩ ?_;exact⟨hz,its',_,hv,q⟩
def Inv.lnew(I:Inv X pins σ H s)(hv:Vals ys its)(hz:ys.length<=sizeLine):
 Inv X pins σ (upd H s.heap.objs.size (.lst ys)) { s with heap:=s.heap.push { cls:=.type "list",data:=.seq its.toArray },toks:=t' }:=
 I.laid (λ_ _ q=>r_ _ q) (t_ _) ⟨hz,its,0,hv,G_ _ rfl⟩
def Inv.fresh(I:Inv X pins σ H s):H s.heap.objs.size=none:=I.hok.fresh (t_ _)
def Inv.lstM(I:Inv X pins σ H s)(hH:H l=some (.lst xs)):xs.length<=sizeLine/\∃(its:List Value) (n:Nat),Vals xs its/\xs.length=its.length/\s.heap.get? l=some { cls:=.type "list",data:=.seq its.toArray n }:=by obtain⟨z,its,n,r,e⟩:=I.hok l _ hH;exact⟨z,its,n,r,r.length,e⟩
def Cn{n:Nat}(h:n<=sizeLine):Builtin.List.listTooLong n=false:=by unfold Builtin.List.listTooLong;exact E_ (by omega)
end
section
variable{X:Cx}
def nz:V->List V->Hp->VK->Prop:=λx vs H Q=>∃l xs y,x=.ref l/\vs=[y]/\H l=some (.lst xs)/\xs.length<sizeLine/\Q .non (upd H l (.lst (xs++[y])))
def oU:MtM X "list.append" nz:=by intro pins s σ H x vs v us Q I rx rv h;obtain⟨l,xs,y,rfl,rfl,hH,hz,q⟩:=h;cases rx;obtain⟨u,rfl,ru⟩:=rv.one;obtain⟨z,its,n,r,hl,e⟩:=I.lstM hH;refine O6 F.slot_list_append ⟨_,e,rfl⟩ F.entry_list_append (F.args_list_append_2 _ _) (PySem.list_append l its.toArray n u (by rw[z_];omega)) ⟨e,?_⟩;refine⟨.non,_,I.lset (its':=its++[u]) hH e (by simp) (r.append (.cons ru .nil)) ?_,rfl,q⟩;rw[Em,List.length_singleton];omega
def rPop:V->List V->Hp->VK->Prop:=λx vs H Q=>∃l xs y,x=.ref l/\vs=[]/\H l=some (.lst xs)/\xs[xs.length-1]?=some y/\Q y (upd H l (.lst xs.dropLast))
def Gf:MtM X "list.pop" rPop:=by
 intro pins s σ H x vs v us Q I rx rv h;obtain⟨l,xs,y,rfl,rfl,hH,hy,q⟩:=h;cases rx;have hus:=rv.zero;subst hus;obtain⟨z,its,n,r,hl,e⟩:=I.lstM hH;obtain⟨u,hu,ru⟩:=r.get hy;have hy':its.toArray[its.toArray.size-1]?=some u:=by show its.toArray[its.length-1]?=some u;rw[<- Array.getElem?_toList,<- hl];exact hu
 refine O6 F.slot_list_pop ⟨_,e,rfl⟩ F.entry_list_pop (F.args_list_pop_1 _) (MeetsSeq.list_pop_last l its.toArray n u hy' (by rw[z_];omega)) ⟨e,?_⟩;refine⟨y,_,I.lset (its':=its.dropLast) hH e ?_ r.dropLast ?_,ru,q⟩
 .show its.toArray.eraseIdxIfInBounds (its.toArray.size-1)=its.dropLast.toArray;rw[z_,List.eraseIdxIfInBounds_toArray,xb]
 .rw[List.length_dropLast];omega
def xI:R2:=λx y H Q=>∃l b xs zs,x=.ref l/\y=.ref b/\H l=some (.lst xs)/\H b=some (.lst zs)/\xs.length+zs.length<=sizeLine/\∀p,H p=none->Q (.ref p) (upd H p (.lst (xs++zs)))
def GP:OpR X (binaryOp .Add) xI:=by
 intro pins s σ H x y v u Q I rx ry h;obtain⟨l,b,xs,zs,rfl,rfl,hH,hB,hz,q⟩:=h;cases rx;cases ry;obtain⟨z,its,n,r,hl,e⟩:=I.lstM hH;obtain⟨z2,its2,n2,r2,hl2,e2⟩:=I.lstM hB;refine PySem.P.add_list e e2 ?_ (by rw[z_,z_];omega);have ea:its.toArray++its2.toArray=(its++its2).toArray:=by simp
 rw[ea];exact⟨.ref _,_,I.lnew (t':=s.toks) (r.append r2) (by rw[Em];omega),rfl,q _ I.fresh⟩
end
section
set_option maxRecDepth 100000 in
end
end L2
namespace Att
open PySem PySem.W PySem.Calls PyProof.Rows
def lL:∀(ns:List Int) (vs:List Value),WellAll P h vs (ns.map WData.int)->IntsAre vs ns:=by
 intro ns;induction ns with
 |nil=>intro vs w;rw[Mx] at w;cases w;exact .nil
 |
  cons n ns ih=>
  intro vs w;rw[x_] at w;cases w with
  |cons a b=>cases a;exact .cons _ _ (ih _ b)
def Ab{l:OpenLaw}{n:Nat}(hn:l.most=some n){P:Params}{h:Heap}{args:List WData}{vals:List Value}
 (hpre:l.row.toRowW.claim.pre args=true) (hwl:WellAll P h vals args):
 ∃a vs ns,vals=[Value.ref a]/\args=[WData.list (ns.map WData.int)]/\h.get? a=some { cls:=.type "list",data:=.seq vs.toArray }/\IntsAre vs ns/\ns.length<=n:=by
 have hsh:WShape.hasAll [] args [.list .int]=true:=(pre_splitW hpre).1;have hc:l.pre.holds [] { args:=args }=true:=(pre_splitW hpre).2;obtain⟨d,r,rfl,h1,h2⟩:=hasAllW_cons hsh;obtain rfl:=hasAllW_nil h2;obtain⟨xs,rfl,h3⟩:=hasW_list h1;obtain⟨ns,rfl⟩:=items_int h3;have a_:ns.length<=n:=by
  unfold OpenLaw.pre at hc;have h4:(WTm.not (.lt (.lit (.int (n:Int))) (.len (.arg 0)))).holds [] { args:=[.list (ns.map .int)] }=true:=by have h4:=(holds_andW hc).1;rw[hn] at h4;exact h4
  have h5:=condW_of h4 (w_not (w_lt w_lit (w_len_list (w_arg rfl))));rw[p_] at h5;refine Nat.le_of_not_lt λq=>?_;have q':(n:Int)<((ns.length:Nat):Int):=by omega
  first
   |(rw[I_ q'] at h5;exact absurd h5 (by decide))
   |(simp at h5;omega)
 cases hwl with
 |
  cons w1 w2=>
  cases w2;cases w1 with
  |list ho hall=>exact⟨_,_,ns,rfl,rfl,ho,lL ns _ hall,a_⟩
def AJ(l:OpenLaw)(args:List WData):l.row.toRowW.claim.post args (.bool true) args=true:=
 postW_of (r:=l.row.toRowW) (X:=(true==true))
  (show WShape.has [] (.bool true) .bool=true by first |rfl |decide |simp [WShape.has,WShape.arms,WShape.armsAll])
  (show (WTm.eq .res (.lit (.bool true))).value [] { args:=args,res:=some (.bool true),after:=args }=some (.bool (true==true)) from w_eq_bool (w_res rfl) w_lit) rfl
def attach_call{l:OpenLaw}{n:Nat}{q:Program}{loose:List Str}{XP:(Str->Option Value)->Heap->Prop}{YP:World->Heap->Prop}{d:DefRec}
 (hn:l.most=some n) (hdf:d.params.defaults=[])
 (call:∀(w:World) (s₀ s₁:Shared) (mg mb:Pp) (fa:Addr) (o:Obj) (pm cd doc:Value) (a:Addr) (vs:List Value) (ns:List Int),
  Ground q loose [] XP w s₀ mg mb s₁.heap->YP w s₁.heap->
  s₁.heap.get? fa=some o->o.data=.func (docDef d.name d.params d.body d.scope pm cd doc)->s₁.heap.CodeRec cd d.name->mg d.name=some (.ref fa)->
  s₁.heap.get? a=some { cls:=.type "list",data:=.seq vs.toArray }->IntsAre vs ns->ns.length<=n->s₁.gens=#[]->
  codeAny (model l.prog w) callerA (.call (.ref fa) ⟨[.ref a],[]⟩) (λr s'=>r=.ok (.ret (.bool true))/\OldK s₁.heap s'.heap/\s'.os=s₁.os/\AllBare s'.gens) s₁):
 WalkO q loose XP YP l.row.toRowW d [] (λf vs=>PySem.call f vs):=by
 intro w s₀ s₁ mg mb G Y fa o pm cd doc dV kV ho hd l_ hD hmg hg args vals as hpre hlay hrd hwl hlo;obtain rfl:dV=.none:=Dflts.none hD hdf;obtain rfl:kV=.none:=Dflts.noKw hD;obtain⟨a,vs,ns,rfl,rfl,hobj,hints,a_⟩:=Ab hn hpre hwl;refine enter_call (O8 (call w s₀ s₁ mg mb fa o pm cd doc a vs ns G Y ho (fd_plain hd) l_ hmg hobj hints a_ hg) λr s' hq=>?_);obtain⟨rfl,h2,h3,h4⟩:=hq;exact⟨.inl ⟨.bool true,.bool true,[],rfl,λ_=>rfl,.bool true,AJ l _,λ_=>⟨List.Pairwise.nil,λ_ hm=>(nomatch hm)⟩⟩,h2,h3,h4⟩
section
def rG(h:Heap):Heap:={ h with objs:=#[] }
def xE(h:Heap)(b:Addr):(rG h).get? b=none:=by
 cases e:(rG h).get? b with
 |none=>rfl
 |some o=>exact absurd (C_ e) (NS _)
def ledger(h:Heap)(L d:Addr):List (Addr×Obj):=(List.range h.objs.size).filterMap λa=>if a=L\/a=d then none else (h.get? a).map λo=>(a,o)
def fr_all(n:h.Ns L m):Fr (rG h) L h m:=
 ⟨n,λb o e=>(by rw[xE] at e;cases e),MV _⟩
end
end Att
namespace L2
open PySem PySem.Spec PyProof.Rows
theorem jJ:∀{vs:List Value}{ns:List Int},IntsAre vs ns->Vals (ns.map V.int) vs
 |_,_,.nil=>.nil
 |_,_,.cons n t h=>.cons ⟨t,rfl⟩ (jJ h)
def AM(H:Hp):Prop:=∀b,H b=none\/∃o xs,H b=some (.frz o (.lst xs))
def Cb{P:Program}{w:World}{K:W.Frag}{mg mb:Pp}{CX:CXT}{k:Nat}{fa a:Addr}{fd:FuncData}{x:Str}{sp:Sp}{s₁:Shared}{vs:List Value}{ns:List Int}
 (KX:K.In s₁.heap) (hns:s₁.heap.Ns mainGlobals mg) (hb:s₁.heap.Ns builtinsNs mb) (hbb:∀x:Str,x ≠ "__name__"->mb x=bootBuiltins x) (hlim:s₁.heap.NoLimit) (hg:s₁.gens=#[])
 (ha:s₁.heap.get? a=some { cls:=.type "list",data:=.seq vs.toArray }) (hi:IntsAre vs ns) (hl:ns.length<=sizeLine) (hr:Room k callerA)
 (F:∀base:Heap,K.In base->base.Ns mainGlobals mg->FnOk P w K mg base CX k fa fd [x] sp) (hbind:∀(s:Shared) (u:Value),BindsTo s fd ⟨[u],[]⟩ [(x,u)])
 (hsp:∀H:Hp,AM H->SqL K H a (ns.map V.int)->sp [.ref a] H (λv _=>v=.bl true) λ_ _ _=>False)
 (hCX:∀H e s',CX [] H s₁ (λ_ _ _=>False) e s'->False):
 codeAny (model P w) callerA (.call (.ref fa) ⟨[.ref a],[]⟩) (λr s'=>r=.ok (.ret (.bool true))/\OldK s₁.heap s'.heap/\s'.os=s₁.os/\AllBare s'.gens) s₁:=by
 have rv:=jJ hi;have lenV:=hi.length;have core
  : ∀H:Hp,AM H->SqL K H a (ns.map V.int)->HOk P w H s₁.heap->(∀b,H b≠none->b=a)->(H a≠none->K.lookup a=none)->
  codeAny (model P w) callerA (.call (.ref fa) ⟨[.ref a],[]⟩) (λr s'=>r=.ok (.ret (.bool true))/\OldK s₁.heap s'.heap/\s'.os=s₁.os/\AllBare s'.gens) s₁:=by
  intro H hO hS hok hA hK;have base_of:∀{b:Addr}{o:Obj},s₁.heap.get? b=some o->H b=none->(fk s₁.heap H).get? b=some o:=λe n=>tI e n;have noA:∀{b:Addr}{o:Obj}{es:Array DictEntry}{ep:Nat},s₁.heap.get? b=some o->o.data=.dict es ep->H b=none:=λ{b o es ep} e d=>by
   cases q:H b with
   |none=>rfl
   |some u=>have e':b=a:=hA b (by rw[q];simp);subst e';rw[ha] at e;cases e;have d':Data.seq vs.toArray _=Data.dict es ep:=d;cases d'
  have nsK:∀{b:Addr}{m:Pp},s₁.heap.Ns b m->(fk s₁.heap H).Ns b m:=λ{b m} ⟨o,es,ep,e,d,r⟩=>⟨o,es,ep,base_of e (noA e d),d,r⟩;have hKb:K.In (fk s₁.heap H):=λb o e=>base_of (KX b o e) (by
   cases q:H b with
   |none=>rfl
   |some u=>have e':b=a:=hA b (by rw[q];simp);subst e';rw[hK (by rw[q];simp)] at e;cases e)
  have hM:Mod K mg (fk s₁.heap H):=⟨hKb,nsK hns,⟨mb,nsK hb,hbb⟩,let ⟨mc,h1,h2⟩:=hlim;⟨mc,nsK h1,h2⟩⟩;have e0:Env0 P w K mg (fk s₁.heap H) callerA [] s₁ H:=⟨rfl,hM,λb o e=>vZ e,Nat.le_of_eq (oX _ _),trivial,λb hb=>absurd (show b∈([]:List Addr) from hb) (by simp),hok,.of_eq hg⟩;refine O8 ((F _ hKb (nsK hns)).run callerA [] s₁ H ⟨[.ref a],[]⟩ [.ref a] [.ref a] _ _ hr e0 (hbind s₁ (.ref a)) (.cons rfl .nil) (hsp H hO hS)) λr s' h=>?_;cases r with
  |error e=>exact (hCX H e s' h).elim
  |
   ok fl=>
   cases fl with
   |next=>exact False.elim h
   |brk=>exact False.elim h
   |cont=>exact False.elim h
   |
    ret u=>
    obtain⟨v,H',os,bare,un,hok',r',q⟩:=h;have q':v=.bl true:=q;subst q';obtain rfl:u=Value.bool true:=r';refine⟨rfl,OldK.of_keep λb o e=>?_,os,bare⟩;cases q:H b with
    |none=>exact un.keep b o e q (by intro z;exact absurd (show b∈([]:List Addr) from z) (by simp)) (by simp)
    |
     some u=>
     rcases hO b with z |⟨ob,xs,z⟩
     .rw[q] at z;cases z
     .have z2:=un.frzs b ob _ z;obtain⟨e1,_⟩:=hok b _ z;obtain⟨e2,_⟩:=hok' b _ z2;rw[e] at e1;cases e1;exact e2
 cases hk:K.lookup a with
 |some o=>have e:=KX a o hk;rw[ha] at e;cases e;refine core (λ_=>none) (λ_=>.inl rfl) (.inr ⟨_,vs.toArray,_,hk,rfl,rfl,rfl,by rw[z_,lenV];exact hl,by simpa using rv⟩) (λb u z=>by have z':(none:Option HO)=some u:=z;cases z') (λb z=>absurd rfl z) λz=>absurd rfl z
 |
  none=>
  refine core (λb=>if b=a then some (.frz { cls:=.type "list",data:=.seq vs.toArray } (.lst (ns.map V.int))) else none) (λb=>?_) (.inl (.inr ⟨{ cls:=.type "list",data:=.seq vs.toArray },if_pos rfl⟩)) (λb u z=>?_) (λb z=>?_) λ_=>hk
  .by_cases hb:b=a
   .exact .inr ⟨_,_,if_pos hb⟩
   .exact .inl (if_neg hb)
  .by_cases hb:b=a
   .have z':=(if_pos hb).symm.trans z;cases z';subst hb;exact⟨ha,by rw[p_];exact hl,vs,_,rv,ha⟩
   .have z':=(if_neg hb).symm.trans z;cases z'
  .by_cases hb:b=a
   .exact hb
   .exact absurd (if_neg hb) z
abbrev KOf{K:W.Frag}{h:Heap}(_:K.In h):W.Frag:=K
def Mn{l:W.OpenLaw}{n k:Nat}{q:Program}{loose:List Str}{XP:(Str->Option Value)->Heap->Prop}{YP:World->Heap->Prop}{d:DefRec}{K:Params->W.Frag}{CX:World->CXT}{sp:World->Sp}{x:Str}
 (hn:l.most=some n) (hn2:n<=sizeLine) (hdf:d.params.defaults=[]) (hr:Room k callerA)
 (hY:∀(w:World) (h:Heap),YP w h->(K w.params).In h)
 (F:∀(w:World) (mg:Pp) (fa:Addr) (h:Heap),(K w.params).In h->h.Ns mainGlobals mg->mg d.name=some (.ref fa)->
  ∃
   fd:FuncData,(∀(s:Shared) (u:Value),BindsTo s fd ⟨[u],[]⟩ [(x,u)])/\
   ∀base:Heap,(K w.params).In base->base.Ns mainGlobals mg->FnOk l.prog w (K w.params) mg base (CX w) k fa fd [x] (sp w))
 (hsp:∀(w:World) (H:Hp) (a:Addr) (ns:List Int),ns.length<=n->AM H->SqL (K w.params) H a (ns.map V.int)->sp w [.ref a] H (λv _=>v=.bl true) λ_ _ _=>False)
 (hCX:∀(w:World) (H:Hp) (s:Shared) (e:Value) (s':Shared),CX w [] H s (λ_ _ _=>False) e s'->False):
 W.WalkO q loose XP YP l.row.toRowW d [] (λf vs=>PySem.call f vs):=by
 refine Att.attach_call hn hdf λw s₀ s₁ mg mb fa o pm cd doc a vs ns G Y ho hd l_ hmg hobj hints a_ hg=>?_;have KX:=hY w _ Y;obtain⟨fd,hb,hF⟩:=F w mg fa _ KX G.T.g hmg;exact Cb KX G.T.g G.T.b G.T.builtins G.T.nolimit hg hobj hints (My a_ hn2) hr hF hb (λH hO hS=>hsp w H a ns a_ hO hS) λH e s'=>hCX w H s₁ e s'
noncomputable def c7 (s:Stmt):Arguments:=match s with
 |.FunctionDef _ a _ _ _ _ _ _ _ _=>a
 |_=>{ posonlyargs:=[],args:=[],vararg:=none,kwonlyargs:=[],kw_defaults:=[],kwarg:=none,defaults:=[] }
noncomputable def bD (s:Stmt):List Stmt:=match s with
 |.FunctionDef _ _ b _ _ _ _ _ _ _=>b
 |_=>[]
noncomputable def aq (s:Stmt):Scope:=match s with
 |.FunctionDef _ _ _ _ _ _ sc _ _ _=>sc
 |_=>{ kind:=.function,names:=[],isGenerator:=false,isCoroutine:=false }
abbrev E0:XK:=λ_ _ _=>False
structure Fun(K:W.Frag)(x qual:Str)(st:Stmt)(f:Addr)(fd:FuncData):Prop where
 ex:∃(oc:Value) (od:Option Addr) (kV doc pm:Value) (an:Option Addr) (cdv ct:Value) (osl:Array (Option Value)),
  fd=W.fnOf x qual (c7 st) (bD st) (aq st) .none kV doc pm an cdv ct/\K.lookup f=some ⟨oc,od,.func fd,osl⟩/\W.codeIn K cdv qual=true
 kp:W.keepIn K (.ref f)=true
section
variable{K:W.Frag}
def Fun.binds{x qual:Str}{st:Stmt}{f:Addr}{fd:FuncData}{ps:List Str}(F:Fun K x qual st f fd)
 (h:∀(kV doc pm:Value) (an:Option Addr) (cdv ct:Value) (us:List Value),us.length=ps.length->bindArgs (W.fnOf x qual (c7 st) (bD st) (aq st) .none kV doc pm an cdv ct) ⟨us,[]⟩=pure (ps.zip us)):Binds K fd ps []:=by
 obtain⟨oc,od,kV,doc,pm,an,cdv,ct,osl,rfl,lk,l_⟩:=F.ex;exact .all (h kV doc pm an cdv ct)
def HX{x qual:Str}{st:Stmt}{f:Addr}{oc:Value}{od an:Option Addr}{osl:Array (Option Value)}{kV doc pm cdv ct:Value}(l:K.lookup f=some ⟨oc,od,.func (W.fnOf x qual (c7 st) (bD st) (aq st) .none kV doc pm an cdv ct),osl⟩)
 (c:W.codeIn K cdv qual=true) (k:W.keepIn K (.ref f)=true):Fun K x qual st f (W.fnOf x qual (c7 st) (bD st) (aq st) .none kV doc pm an cdv ct):=⟨⟨oc,od,kV,doc,pm,an,cdv,ct,osl,rfl,l,c⟩,k⟩
end
def Li(hr:Room k A):A.units+1<cLine:=Nu (Nat.add_le_add_left (by decide:1<=64) _) hr.units
section
variable{X:Cx}{pins:Pq}{σ:St}{H:Hp}{s:Shared}
def Inv.track{a:Addr}{o:HO}(I:Inv X pins σ H s)(hn:H a=none)(h0:X.s₀.heap.get? a=none)(hL:a≠X.env.locals)(hc:∀x c,X.env.cells.lookup x=some c->c≠a)
 (hp:∀p∈X.pn++pins,p.1≠a) (new:ObjOk X.prog X.w (upd H a o) s.heap a o):Inv X pins σ (upd H a o) s:=by
 have ne:∀b u,H b=some u->b≠a:=λb u e z=>by rw[z,hn] at e;cases e
 have ne0:∀b u,X.s₀.heap.get? b=some u->b≠a:=λb u e z=>by rw[z,h0] at e;cases e
 refine⟨I.ok,I.os,I.bare,⟨I.base.keep,I.base.slot,λb u e n hx=>?_,I.base.there,λb xs e=>?_,λb u xs e=>?_,λb ps e=>?_⟩,I.loc,I.cell,?_,λx c e=>?_,λp hp'=>?_,λb u e=>?_,I.len⟩
 .rw[az (ne0 b u e)];exact I.base.free b u e n hx
 .have q:=I.base.tups b xs e;rw[az (ne _ _ q)];exact q
 .have q:=I.base.frzs b u xs e;rw[az (ne _ _ q)];exact q
 .obtain⟨m,q⟩:=I.base.tbls b ps e;exact⟨m,by rw[az (ne _ _ q)];exact q⟩
 .rw[az (Ne.symm hL)];exact I.free
 .rw[az (hc x c e)];exact I.freeC x c e
 .obtain⟨e,n,r⟩:=I.pin p hp';exact⟨e,by rw[az (hp p hp')];exact n,r⟩
 .by_cases hb:b=a
  .subst hb;rw[aG] at e;cases e;exact new
  .rw[az hb] at e;exact (I.hok b u e).stay (λc v _ q=>q) (λc q=>by rw[az (ne _ _ q)];exact q) λc xs q=>by rw[az (ne _ _ q)];exact q
end
theorem i5{env:Env}:∀{names:List (Str×NameKind)} (cs:List (Str×Addr)),(∀x∈names,x.2=.free->∃c,env.cells.lookup x.1=some c)->(∀x c,cs.lookup x=some c->env.cells.lookup x=some c)->
 ∃
  cl,(forIn names cs λ(x:Str×NameKind) (r:List (Str×Addr))=>if (x.2==NameKind.free)=true then do let a <- cellOf env x.1;pure (ForInStep.yield ((x.1,a)::r)) else pure (ForInStep.yield r):Sem (List (Str×Addr)))=pure cl/\
  (∀x c,cl.lookup x=some c->env.cells.lookup x=some c)/\(∀x c,cs.lookup x=some c->∃c',cl.lookup x=some c')/\∀x∈names,x.2=.free->∃c,cl.lookup x.1=some c
 | [],cs,_,h=>⟨cs,by simp,h,λx c e=>⟨c,e⟩,λ_ hx=>nomatch hx⟩
 |
  (n,k)::r,cs,hf,h=>by
  rw[List.forIn_cons];by_cases hk:k=.free
  .subst hk;obtain⟨c,hc⟩:=hf (n,.free) s_ rfl;have m_:cellOf env n=pure c:=by unfold cellOf;rw[hc]
   have h':∀x d,((n,c)::cs).lookup x=some d->env.cells.lookup x=some d:=λx d e=>by
    rw[Nt] at e;cases q:x==n with
    |true=>rw[q] at e;cases e;rw[MD.mp q];exact hc
    |false=>rw[q] at e;exact h x d e
   obtain⟨cl,e1,e2,e3,e4⟩:=i5 (env:=env) (names:=r) ((n,c)::cs) (λx hx=>hf x (q_ _ hx)) h';have top:∃c',cl.lookup n=some c':=e3 n c (by rw[Nt];simp);refine⟨cl,?_,e2,λx d e=>?_,λx hx hfr=>?_⟩
   .simp only[OU,N2,m_];exact e1
   .by_cases q:x=n
    .rw[q];exact top
    .exact e3 x d (by rw[Nt,(H_.mpr q:(x==n)=false)];exact e)
   .rcases F_.mp hx with rfl |hx
    .exact top
    .exact e4 x hx hfr
  .have hb:(k==NameKind.free)=false:=by simpa using hk
   obtain⟨cl,e1,e2,e3,e4⟩:=i5 (env:=env) (names:=r) cs (λx hx=>hf x (q_ _ hx)) h;refine⟨cl,?_,e2,e3,λx hx hfr=>?_⟩
   .simp only[hb,N6,OW];exact e1
   .rcases F_.mp hx with rfl |hx
    .exact absurd hfr hk
    .exact e4 x hx hfr
def pS{env:Env}{scope:Scope}(hf:∀x∈scope.names,x.2=.free->∃c,env.cells.lookup x.1=some c):
 ∃cl,closureFor scope env=pure cl/\(∀x c,cl.lookup x=some c->env.cells.lookup x=some c)/\∀x∈scope.names,x.2=.free->∃c,cl.lookup x.1=some c:=by
 obtain⟨cl,e1,e2,_,e4⟩:=i5 (env:=env) (names:=scope.names) [] hf (λx c e=>by simp at e);refine⟨cl,?_,e2,e4⟩;unfold closureFor;simp only[e1];rfl
noncomputable def aZ (X:Cx) (N:List Str) (scope:Scope) (cl:List (Str×Addr)) (C:Addr) (s₂:Shared) (H:Hp) (fp:List Addr):Cx:=
 { X with N:=N,s₀:=s₂,H₀:=H,env:=compEnvC scope cl C X.env,outer:=X.stack,stack:=X.stack,ex:=fp,fn:=λ_=>false,pn:=[],xe:=λ_ _=>False }
noncomputable def eU (sub:Pw) (σ:St):St:=sub.map λo=>o.bind λi=>(σ[i]?).bind id
def LcW(J:It)(sub:Pw)(g:TG)(tc:TT)(te:TE)(σ:St)(H1:Hp)(Q:VK):Prop:=∃W:Nat->Nat->List V->St->Hp->Prop,(∃m,W 0 m [] (eU sub σ) H1)/\∀i m ys σ H,W i m ys σ H->
 (J.stop i H/\ys.length<=sizeLine/\∀D,H D=none->Q (.ref D) (upd H D (.lst ys)))\/
 (J.go i H/\ys.length<sizeLine/\∃Nx:List V->St->Hp->Prop,(∀ys' σ' H',Nx ys' σ' H'->∃m',m'<m/\W (i+1) m' ys' σ' H')/\
  ∀x H',J.yld i H x H'->g x σ H' λσ2 H2=>tc σ2 H2 λb H3=>if b=true then te σ2 H3 λy H4=>Nx (ys++[y]) σ2 H4 else Nx ys σ2 H3)
def lW(wi:TI)(sub:Pw)(g:TG)(tc:TT)(te:TE):TE:=λσ H Q=>wi σ H λJ H1=>LcW J sub g tc te σ H1 Q
abbrev tYes:TT:=λ_ H Q=>Q true H
section
variable{prog:Program}{w:World}{A:Around}{R:Result->Shared->Prop}{s:Shared}
def uh{elt target iter:Expr}{ifs:List Expr}{scope:Scope}{pos:Pos}{it acc:Value}{env:Env}(I:Nat->Shared->Prop)
 (turn
  : ∀n s,I n s->wpAny (model prog w) A (pyNext it) (λr s₁=>match r with
  |none=>R (.ok .next) s₁
  |some v=>wpAny (model prog w) A (letOwnedTupleGo target it v) (λ_ s₁'=>wpAny (model prog w) A (assign target env v) (λ_ s₂=>
   wpAny (model prog w) A (forIn ifs true λc r=>if r=true then do let ok <- isTrue c env (eval c env);pure (ForInStep.yield ok) else pure (ForInStep.yield r))
    (λok s₃=>if ok=true then wpAny (model prog w) A (eval elt env) (λx s₄=>wpAny (model prog w) A (call (.builtin "list.append") [acc,x]) (λ_ s₅=>∃m,m<n/\I m s₅) (λ_ _=>False) s₄) (λ_ _=>False) s₃
     else ∃m,m<n/\I m s₃) (λ_ _=>False) s₂) (λ_ _=>False) s₁') (λ_ _=>False) s₁) (λ_ _=>False) s)
 (n:Nat) (h:I n s):
 codeAny (model prog w) A (.compLoop (.ListComp elt [⟨target,iter,ifs,0⟩] scope pos) 0 it acc env) R s:=by
 refine codeAny_loop rfl I (λn s hI=>?_) n h;show wpAny _ _ ((compTurn (.ListComp elt [⟨target,iter,ifs,0⟩] scope pos) 0 it acc env).onRaise (λx=>do noteFrame x env;theTreesLotGoes x)) _ _ s;refine wpAny_noted ?_;rw[compTurn_list];refine ML (E:=λ_ _=>False) ?_ (λ_ _ q=>q) λ_ _ q=>q.elim;refine o_ (Ox (o_ (ML (turn n s hI) (λr s₁ h₁=>?_) λ_ _ h'=>h')));cases r with
 |none=>exact B_ h₁
 |
  some v=>
  refine o_ (ML h₁ (λ_ s₁' h₁'=>?_) λ_ _ h'=>h');refine o_ (ML h₁' (λ_ s₂ h₂=>?_) λ_ _ h'=>h');refine o_ (ML h₂ (λok s₃ h₃=>?_) λ_ _ h'=>h');cases ok with
  |true=>simp only[N2] at h₃ ⊢;refine o_ (o_ (ML h₃ (λx s₄ h₄=>?_) λ_ _ h'=>h'));refine o_ (ML h₄ (λ_ s₅ h₅=>?_) λ_ _ h'=>h');exact B_ (B_ ⟨rfl,h₅⟩)
  |
   false=>
   simp only[N6,OW] at h₃ ⊢;first
    |exact o_ (B_ (B_ ⟨rfl,h₃⟩))
    |exact B_ ⟨rfl,h₃⟩
end
section
variable{X:Cx}
def PTs(X:Cx)(ifs:List Expr)(t:TT):Prop:=
 ∀
  (pins:Pq) (s:Shared) (σ:St) (H:Hp) (Q:Bool->Hp->Prop),Inv X pins σ H s->t σ H Q->
  wpAny (model X.prog X.w) X.A (forIn ifs true λc r=>if r=true then do let ok <- isTrue c X.env (eval c X.env);pure (ForInStep.yield ok) else pure (ForInStep.yield r)) (TP X pins σ Q) X.xe s
def vQ:PTs X [] (λ_ H Q=>Q true H):=λpins s σ H Q I h=>by rw[List.forIn_nil];exact B_ ⟨H,I,h⟩
structure LcEnd(X:Cx)(pins:Pq)(σ:St)(Q:VK)(D C:Addr)(s4:Shared):Prop where
 ns:∃m,s4.heap.Ns C m
 dc:D<C
 fr:X.env.locals<D
 cell:∀x c,X.env.cells.lookup x=some c->c<D
 pin:∀p∈X.pn++pins,p.1<D
 sz:X.s₀.heap.objs.size<=D
 inv:∃H',H' C=none/\Q (.ref D) H'/\∀h',Heap.SameBut C s4.heap h'->Inv X pins σ H' { s4 with heap:=h' }
def u4{elt iter tg:Expr}{ifs:List Expr}{scope:Scope}{pos:Pos}{wi:TI}{g:TG}{tc:TT}{te:TE}{N:List Str}{sub:Pw}{use:Option (Value->Sem Unit)}{R:Pu}{pins:Pq}{s:Shared}{σ:St}{H:Hp}{Q:VK}{fpos:Pos}
 (hc:X.calm=true) (hi:PI X tg iter wi)
 (hk:scope.kind=.function) (hnc:∀x∈scope.names,x.2 ≠ .cell) (d_:∀x∈scope.names,x.2=.local->scope.names.lookup x.1=some .local)
 (hfr:∀x∈scope.names,x.2=.free->X.env.kindOf x.1=some .cell\/X.env.kindOf x.1=some .free)
 (hsl:sub.length=N.length) (n_:∀(j i:Nat) (x:Str),sub[j]?=some (some i)->N[j]?=some x->X.N[i]?=some x/\scope.names.lookup x=some .free)
 (hg:∀cl C s₂ H fp,PG (aZ X N scope cl C s₂ H fp) tg g) (ht:∀cl C s₂ H fp,PTs (aZ X N scope cl C s₂ H fp) ifs tc) (he:∀cl C s₂ H fp,PE (aZ X N scope cl C s₂ H fp) elt te)
 (hs:∀x,foldedSetIterable iter X.env x=pure x) (I:Inv X pins σ H s) (h:lW wi sub g tc te σ H Q)
 (j_:∀D C s4,LcEnd X pins σ Q D C s4->compPost (model X.prog X.w) X.A X.xe use R (.ref D) C (.ok .next) s4):
 wpAny (model X.prog X.w) X.A (comprehension (.ListComp elt [⟨tg,iter,ifs,0⟩] scope pos) scope X.env fpos (newList []) false (eval iter X.env) use) R X.xe s:=by
 obtain⟨cl,hclos,hcl,hclf⟩:=pS (env:=X.env) (scope:=scope) λx hx hf=>I.ok.has x.1 (hfr x hx hf);refine wpAny_comprehension_free rfl hs hclos hk d_ ?_;show wpAny _ _ (eval iter X.env) _ _ _;refine thn (hi pins s σ H _ I h) λv s1 h1=>thn h1 λitv s2 h2=>?_;obtain⟨it,fp,tn,J,H2,e,I2,T,st2,f2,W,⟨m0,w0⟩,turn⟩:=h2;subst e;refine Nc (wpAny_newFunctionEnv hnc (by intro y hy;simp at hy) (λh₁ hns₁ hsb₁=>?_) hk);dsimp only at hns₁ hsb₁ ⊢;generalize hH2:s2.heap.push { cls:=.type "list",dict:=none,data:=.seq ([]:List Value).toArray }=G2 at hns₁ hsb₁ ⊢;have hC:G2.objs.size=s2.heap.objs.size+1:=by rw[<- hH2,OH]
 have hDC:s2.heap.objs.size≠G2.objs.size:=by omega
 have below:∀b,b<s2.heap.objs.size->b≠G2.objs.size/\b≠s2.heap.objs.size:=λb hb=>⟨by omega,by omega⟩;have old:∀b o,s2.heap.get? b=some o->h₁.get? b=some o:=λb o e=>hsb₁.extBut b o (below b (C_ e)).1 (r_ _ (hH2 ▸ r_ _ e));have hD₁:h₁.get? s2.heap.objs.size=some { cls:=.type "list",dict:=none,data:=.seq ([]:List Value).toArray }:=hsb₁.extBut _ _ hDC (r_ _ (hH2 ▸ G_ _ rfl));have fresh:∀a,s2.heap.objs.size<=a->s2.heap.get? a=none:=λa ha=>OZ ha;have cellOld:∀x c,cl.lookup x=some c->c<s2.heap.objs.size:=λx c e=>by obtain⟨v,z⟩:=I2.cell x c (hcl x c e);exact z.lt
 have fpOld:∀b∈fp,b<s2.heap.objs.size:=λb hb=>by obtain⟨o,e,_⟩:=T.obj _ _ st2 b hb;exact C_ e
 let Y:Cx:=aZ X N scope cl G2.objs.size s2 H2 fp
 have okY:Y.Ok
  := by
  refine⟨I2.ok.mod,?_,I2.ok.glob,I2.ok.blt,?_,λx y c e1 e2=>I2.ok.inj x y c (hcl x c e1) (hcl y c e2),λx hx=>?_,λx c hfn _=>absurd hfn y_,I2.ok.hd,I2.ok.frames,.inl rfl,
   λb hb=>⟨?_,λx c e z=>?_⟩,I2.bs,My I2.ok.bsz I2.sz,λb o e hb=>?_,λb hb hf=>?_,I2.stack,I2.stkFree⟩
  .show (relabel scope X.env).kind=.function;exact hk
  .show s2.heap.objs.size<=G2.objs.size;omega
  .have hx':(
    relabel scope X.env).names.lookup x=some .cell\/(relabel scope X.env).names.lookup x=some .free:=hx
   have:∃k,
    (x,k)∈scope.names/\k=.free:=by
    have gen:∀(names:List (Str×NameKind)),(∀y∈names,y.2 ≠ .cell)->∀kk,(kk=NameKind.cell\/kk=NameKind.free)->(names.map λ(n,k)=>if (k==NameKind.free&&X.env.scope.kind == .function&&X.env.kindOf n==some .cell) then (n,NameKind.cell) else (n,k)).lookup x=some kk->∃k,(x,k)∈names/\k=.free:=by
     intro names;induction names with
     |nil=>intro _ kk _ e;simp at e
     |
      cons y r ih=>
      intro hn kk hkk e;obtain⟨n,k⟩:=y;rw[x_,Nt] at e;by_cases hkf:k=.free
      .subst hkf;by_cases hxn:x=n
       .exact⟨.free,by rw[hxn];exact s_,rfl⟩
       .have hb:(x==(if (NameKind.free==NameKind.free&&X.env.scope.kind == .function&&X.env.kindOf n==some .cell)=true then (n,NameKind.cell) else (n,NameKind.free)).1)=false:=by split <;> exact H_.mpr hxn
        rw[hb] at e;obtain⟨k',m,q⟩:=ih (λz hz=>hn z (q_ _ hz)) kk hkk e;exact⟨k',q_ _ m,q⟩
      .have hb0:(k==NameKind.free&&X.env.scope.kind == .function&&X.env.kindOf n==some .cell)=false:=by
        have:(k==NameKind.free)=false:=by simpa using hkf
        rw[this];rfl
       rw[hb0] at e;simp only[N6,OW] at e;cases q:x==n with
       |
        true=>
        rw[q] at e;have e':k=kk:=J_ e;subst e';rcases hkk with z |z
        .exact absurd z (hn (n,k) s_)
        .exact absurd z hkf
       |false=>rw[q] at e;obtain⟨k',m,q⟩:=ih (λz hz=>hn z (q_ _ hz)) kk hkk e;exact⟨k',q_ _ m,q⟩
    rcases hx' with z |z
    .exact gen scope.names hnc _ (.inl rfl) z
    .exact gen scope.names hnc _ (.inr rfl) z
   obtain⟨k,m,q⟩:=this;exact hclf (x,k) m q
  .show b≠G2.objs.size;exact (below b (fpOld b hb)).1
  .exact (f2 b hb).2.2.2.2.1 x c (hcl x c e) z
  .rcases (f2 b hb).2.2.2.1 with z |z
   .exact I2.ok.noex b o e z
   .exact absurd (K_ (C_ e) (My I2.ok.bsz z)) (Na _)
  .have hf':b∈frs X.stack:=hf;rcases F_.mp (I2.stkSub b hf') with z |z
   .exact (f2 b hb).2.1 z
   .exact (f2 b hb).2.2.1 z
 have startLoc
  : ∃m,h₁.Ns G2.objs.size m/\∀(i:Nat) (x:Str) (v:V),N[i]?=some x->(eU sub σ)[i]?=some (some v)->Vis (relabel scope X.env) x->∃u,RelV v u/\Look Y.env h₁ m x u:=by
  refine⟨_,hns₁,λj x v e1 e2 e3=>?_⟩;unfold eU at e2;rw[L_] at e2;cases q:sub[j]? with
  |none=>rw[q] at e2;cases e2
  |
   some o=>
   rw[q] at e2;cases o with
   |none=>cases e2
   |
    some i=>
    obtain⟨hNi,hfree⟩:=n_ j i x q e1;have e2':(σ[i]?).bind id=some v:=J_ e2;have e2'':σ[i]?=some (some v):=by
     cases z:σ[i]? with
     |none=>rw[z] at e2';cases e2'
     |some y=>rw[z] at e2';rw[show y=some v from e2']
    obtain⟨m2,hn2,hl2⟩:=I2.loc;have hkx:=hfr (x,.free) (Nm hfree) rfl;obtain⟨u,r,l⟩:=hl2 i x v hNi e2'' (by rcases hkx with z |z;exact .inr (.inl z);exact .inr (.inr z));refine⟨u,r,.inr ⟨?_,?_⟩⟩
    .rcases e3
      with z |z |z
     .exfalso;have gen:∀(names:List (Str×NameKind)),names.lookup x=some .free->(names.map λ(n,k)=>if (k==NameKind.free&&X.env.scope.kind == .function&&X.env.kindOf n==some .cell) then (n,NameKind.cell) else (n,k)).lookup x=some .local->False:=by
       intro names;induction names with
       |nil=>intro e _;simp at e
       |
        cons y r ih=>
        intro e1 e2;obtain⟨n,k⟩:=y;rw[Nt] at e1;rw[x_,Nt] at e2;by_cases hxn:x=n
        .have hb1:(x==n)=true:=MD.mpr hxn;rw[hb1] at e1;have:k=.free:=J_ e1;subst this;split at e2
         .rename_i hq;split at e2 <;> cases e2
         .rename_i hq;split at hq <;> (rw[hb1] at hq;cases hq)
        .have hb1:(x==n)=false:=H_.mpr hxn;rw[hb1] at e1;refine ih e1 ?_;split at e2
         .rename_i hq;split at hq <;> (rw[hb1] at hq;cases hq)
         .exact e2
      exact gen scope.names hfree z
     .exact .inl z
     .exact .inr z
    .obtain⟨c,hc'⟩:=hclf (x,.free) (Nm hfree) rfl;refine⟨c,hc',?_⟩;rcases l with ⟨k,_⟩ |⟨_,c2,ec2,z⟩
     .rcases hkx with z |z <;> (rw[k] at z;cases z)
     .have:=hcl x c hc'
      rw[ec2] at this;cases this;obtain⟨oc,hoc,hd⟩:=z;exact⟨oc,old _ _ hoc,hd⟩
 have pinD:∀{σ':St}{H':Hp}{s':Shared}{pl:Pq}{o:Obj},Inv Y pl σ' H' s'->s'.heap.get? s2.heap.objs.size=some o->(∀v,o.data ≠ .cell v)->H' s2.heap.objs.size=none->Inv Y [(s2.heap.objs.size,o)] σ' H' s':=λ{σ' H' s' pl o} IY e d n=>
  IY.pins_of λp hp=>by
   have e':p=(s2.heap.objs.size,o):=by simpa using hp
   subst e';refine⟨e,n,?_,?_,d⟩
   .show s2.heap.objs.size≠G2.objs.size;omega
   .intro hf;have hf':s2.heap.objs.size∈frs X.stack:=hf;obtain⟨_,o',ho',_⟩:=I2.stack.mem hf';exact absurd (C_ ho') (Na _)
 have fpY:∀{H':Hp}{pl:Pq},(∀b∈fp,H' b=none)->(∀p∈pl,p.1∉fp)->∀b∈fp,FpOk Y pl H' b:=λ{H' pl} hn hp b hb=>by
  refine⟨hn b hb,?_,?_,.inl hb,λx c e=>?_,λp hp'=>?_⟩
  .exact (okY.exf b hb).1
  .exact okY.exfs b hb
  .exact (okY.exf b hb).2 x c e
  .intro z;have hp'':p∈pl:=by simpa [Y,aZ] using hp'
   exact hp p hp'' (by rw[z];exact hb)
 have hDfp:s2.heap.objs.size∉fp:=λz=>Na _ (fpOld _ z);have loop
  : ∀s₃:Shared,s₃={ s2 with heap:=h₁,toks:=s2.toks+([]:List (Str×Value)).length }->
  codeAny (model X.prog X.w) X.A (.compLoop (.ListComp elt [⟨tg,iter,ifs,0⟩] scope pos) 0 (.ref it) (.ref s2.heap.objs.size) (compEnvC scope cl G2.objs.size X.env))
   (compPost (model X.prog X.w) X.A X.xe use R (.ref s2.heap.objs.size) G2.objs.size) s₃:=by
  rintro s₃ rfl;have IY0:Inv Y [(s2.heap.objs.size,{ cls:=.type "list",dict:=none,data:=.seq ([]:List Value).toArray })] (eU sub σ) H2 { s2 with heap:=h₁,toks:=s2.toks+([]:List (Str×Value)).length }:=by
   have J0:Inv Y [] (eU sub σ) H2 { s2 with heap:=h₁,toks:=s2.toks+([]:List (Str×Value)).length }:=by
    refine⟨okY,rfl,I2.bare,Un.kept old,startLoc,λx c e=>?_,I2.hok.fresh (by show s2.heap.objs.size<=G2.objs.size;omega),λx c e=>I2.freeC x c (hcl x c e),λp hp=>absurd (show p∈([]:Pq) from hp) (by simp),I2.hok.kept old,?_⟩
    .obtain⟨v,oc,hoc,hd⟩:=I2.cell x c (hcl x c e);exact⟨v,oc,old _ _ hoc,hd⟩
    .show (eU sub σ).length=N.length;unfold eU;rw[p_];exact hsl
   exact pinD J0 hD₁ (λv z=>by cases z) I2.fresh
  refine uh (λn s'=>∃(i:Nat) (ys:List V) (its:List Value) (k:Nat) (σ':St) (H':Hp),Inv Y [(s2.heap.objs.size,{ cls:=.type "list",dict:=none,data:=.seq its.toArray k })] σ' H' s'/\Vals ys its/\tn i s'.heap/\(∀b∈fp,H' b=none)/\W i n ys σ' H') ?_ m0
   ⟨0,[],[],0,eU sub σ,H2,IY0,.nil,T.keep _ _ _ st2 (λb hb o e=>old b o e),λb hb=>(f2 b hb).1,w0⟩
  rintro n s3 ⟨i,ys,its,k,σ3,H3,I3,rv,st3,fr3,w3⟩;have npl:∀(o:Obj),∀p∈[(s2.heap.objs.size,o)],p.1∉fp:=λo p hp=>by
   have e':p=(s2.heap.objs.size,o):=by simpa using hp
   subst e';exact hDfp
  rcases turn i n ys σ3 H3 w3 with ⟨stop,hz,qn⟩ |⟨go,hz,Nx,hNx,step⟩
  .refine ML (T.done Y rfl rfl rfl hc i _ s3 σ3 H3 (λ_ _=>False) I3 (fpY fr3 (npl _)) st3 stop) (λr s4 ⟨hr,I4⟩=>?_) λ_ _ z=>z;subst hr;obtain⟨m4,hn4,_⟩:=I4.loc;have hCfree:H3 G2.objs.size=none:=I4.free;have hD4:=I4.pin (s2.heap.objs.size,{ cls:=.type "list",dict:=none,data:=.seq its.toArray k }) (Mv _ s_);have un4:Un (frs X.stack) fp H2 H3 s2.heap s4.heap:=I4.base;have ne2:∀b o,s2.heap.get? b=some o->b≠G2.objs.size:=λb o e=>(below b (C_ e)).1;have hDfree:H3 s2.heap.objs.size=none:=hD4.2.1;have sz0:X.s₀.heap.objs.size<=s2.heap.objs.size:=I2.sz;refine j_ s2.heap.objs.size G2.objs.size s4 ⟨⟨m4,hn4⟩,by rw[hC];exact Nat.lt_succ_self _,I2.lt,λx c e=>?_,λp hp=>C_ (I2.pin p hp).1,sz0,upd H3 s2.heap.objs.size (.lst ys),by rw[az (Ne.symm hDC)];exact hCfree,qn _ hDfree,λh' hs'=>?_⟩
   .obtain⟨v,q⟩:=I2.cell x c e;exact q.lt
   have up:∀b o,b≠G2.objs.size->s4.heap.get? b=some o->h'.get? b=some o:=λb o hb e=>hs'.extBut b o hb e;have un5:Un (frs X.stack) fp H2 H3 s2.heap h':=by
    refine⟨λb o e n hb hx=>up b o (ne2 b o e) (un4.keep b o e n hb hx),λb o e n hb hx=>?_,un4.free,λb o e hx=>?_,un4.tups,un4.frzs,un4.tbls⟩
    .obtain⟨sl,q⟩:=un4.slot b o e n hb hx;exact⟨sl,up b _ (ne2 b o e) q⟩
    .obtain⟨o',q⟩:=un4.there b o e hx;exact⟨o',up b _ (ne2 b o e) q⟩
   have hok5:HOk X.prog X.w H3 h':=λb u e=>(I4.hok b u e).stay (λc v hcc q=>up c v (λz=>by
    rcases hcc with zz |zz
    .rw[zz] at z;rw[z,hCfree] at e;cases e
    .rw[z,hCfree] at zz;cases zz) q) (λ_ q=>q) λ_ _ q=>q
   have I5:Inv X pins σ H3 { s4 with heap:=h' }:=I2.call' (s':={ s4 with heap:=h' }) (ch:=fp) I4.os un5 hok5 I4.bare λb hb=>by obtain⟨_,g1,_,g3,g4,g5⟩:=f2 b hb;exact⟨g3,g1,g4,g5⟩
   refine I5.track (o:=.lst ys) hDfree (OZ sz0) (Om I2.lt) (λx c e z=>?_) (λp hp z=>?_) ?_
   .obtain⟨v,q⟩:=I2.cell x c e;exact absurd q.lt (by rw[z];exact Na _)
   .exact absurd (C_ (I2.pin p hp).1) (by rw[z];exact Na _)
   .exact⟨hz,its,k,rv,up _ _ hDC hD4.1⟩
  .refine ML (T.item Y rfl rfl rfl hc i _ s3 σ3 H3 (λ_ _=>False) I3 (fpY fr3 (npl _)) st3 go) (λr s4 ⟨u,hr,h4⟩=>?_) λ_ _ z=>z;subst hr;refine ML h4 (λ_ s5 ⟨x,H5,I5,r5,y5,st5,fr5⟩=>?_) λ_ _ z=>z;have I5':=I5.pinned (fpY fr5 (npl _)) (T.obj _ _ st5);refine ML (hg cl G2.objs.size s2 H2 fp _ s5 σ3 H5 x u _ I5' r5 (step x H5 y5)) (λ_ s6 ⟨σ6,H6,I6,q6⟩=>?_) λ_ _ z=>z;refine ML (ht cl G2.objs.size s2 H2 fp _ s6 σ6 H6 _ I6 q6) (λok s7 ⟨H7,I7,q7⟩=>?_) λ_ _ z=>z;have back:∀{σ':St}{H':Hp}{s':Shared},Inv Y ([(s2.heap.objs.size,{ cls:=.type "list",dict:=none,data:=.seq its.toArray k })]++jG fp s5.heap) σ' H' s'->tn (i+1) s'.heap/\∀b∈fp,H' b=none:=λ{σ' H' s'} IB=>by refine⟨T.keep _ _ _ st5 λb hb o e=>(IB.pin (b,o) (Mv _ (Mv _ (gw hb e)))).1,λb hb=>?_⟩;obtain⟨o,e,d⟩:=T.obj _ _ st5 b hb;exact (IB.pin (b,o) (Mv _ (Mv _ (gw hb e)))).2.1
   cases ok with
   |false=>rw[if_neg y_] at q7;obtain⟨m',hm,w7⟩:=hNx _ _ _ q7;rw[if_neg y_];obtain⟨t7,f7⟩:=back I7;exact⟨m',hm,i+1,ys,its,k,σ6,H7,I7.unpinned,rv,t7,f7,w7⟩
   |
    true=>
    rw[if_pos rfl] at q7;rw[if_pos rfl];refine ML (he cl G2.objs.size s2 H2 fp _ s7 σ6 H7 _ I7 q7) (λy s8 zz=>exA zz λyv H8 I8 r8 q8=>?_) λ_ _ z=>z;obtain⟨m',hm,w8⟩:=hNx _ _ _ q8;obtain⟨t8,f8⟩:=back I8;have I9:=I8.unpinned;have hD9:=I9.pin (s2.heap.objs.size,{ cls:=.type "list",dict:=none,data:=.seq its.toArray k }) (Mv _ s_);have e9:s8.heap.get? s2.heap.objs.size=some { cls:=.type "list",dict:=none,data:=.seq its.toArray k }:=hD9.1;have a_:=rv.length;refine O6 F.slot_list_append ⟨_,e9,rfl⟩ F.entry_list_append (F.args_list_append_2 _ _) (PySem.list_append _ its.toArray k y (by rw[z_];omega)) ⟨e9,?_⟩;have q9:=PySem.IsL.update e9 (λxs=>xs.push y);have ea:its.toArray.push y=(its++[y]).toArray:=by simp
    rw[ea] at q9;have k9:∀b o,b≠s2.heap.objs.size->s8.heap.get? b=some o->(s8.heap.update s2.heap.objs.size (Obj.mapSeq λxs=>xs.push y)).get? b=some o:=λb o hb e=>(OM _ _ (Ne.symm hb)).trans e;have I10:Inv Y [] σ6 H8 { s8 with heap:=s8.heap.update s2.heap.objs.size (Obj.mapSeq λxs=>xs.push y) }:=
     (I9.pins_of (pins':=[]) (λp hp=>nomatch hp)).turned (t':=s8.toks) k9 hD9.2.1 hD9.2.2.1 (.inr (t_ _)) (λx c e z=>absurd (cellOld x c e) (by rw[z];exact Na _))
      (λp hp=>absurd (show p∈([]:Pq) from hp) (by simp))
    refine⟨m',hm,i+1,ys++[yv],its++[y],_,σ6,H8,pinD I10 q9 (λv z=>by cases z) hD9.2.1,rv.append (.cons r8 .nil),?_,f8,w8⟩;exact T.keep _ _ _ t8 λb hb o e=>k9 b o (λz=>hDfp (by rw[<- z];exact hb)) e
 exact codeAny_compStart_list (loop _ rfl) (T.self _ 0 _ _ _ (T.keep _ _ _ st2 λb hb o e=>old b o e) (loop _ rfl))
def Hw{elt iter tg:Expr}{ifs:List Expr}{scope:Scope}{pos:Pos}{wi:TI}{g:TG}{tc:TT}{te:TE}{N:List Str}{sub:Pw}
 (hc:X.calm=true) (hi:PI X tg iter wi)
 (hk:scope.kind=.function) (hnc:∀x∈scope.names,x.2 ≠ .cell) (d_:∀x∈scope.names,x.2=.local->scope.names.lookup x.1=some .local)
 (hfr:∀x∈scope.names,x.2=.free->X.env.kindOf x.1=some .cell\/X.env.kindOf x.1=some .free)
 (hsl:sub.length=N.length) (n_:∀(j i:Nat) (x:Str),sub[j]?=some (some i)->N[j]?=some x->X.N[i]?=some x/\scope.names.lookup x=some .free)
 (hg:∀cl C s₂ H fp,PG (aZ X N scope cl C s₂ H fp) tg g) (ht:∀cl C s₂ H fp,PTs (aZ X N scope cl C s₂ H fp) ifs tc) (he:∀cl C s₂ H fp,PE (aZ X N scope cl C s₂ H fp) elt te)
 (hs:∀x,foldedSetIterable iter X.env x=pure x):
 PE X (.ListComp elt [⟨tg,iter,ifs,0⟩] scope pos) (lW wi sub g tc te):=by
 intro pins s σ H Q I h;rw[eval_ListComp];refine u4 hc hi hk hnc d_ hfr hsl n_ hg ht he hs I h λD C s4 e=>?_;obtain⟨m,hm⟩:=e.ns;obtain⟨H',_,q,i⟩:=e.inv;exact⟨m,hm,λh' hs'=>⟨.ref D,H',i h' hs',rfl,q⟩⟩
noncomputable def mP (M:List Str) (names:List (Str×NameKind)) (sub:Pw) (N:List Str):Bool:=(sub.zip N).all λp=>match p.1 with
 |none=>true
 |some i=>M[i]?==some p.2&&names.lookup p.2==some .free
def lA{M:List Str}{names:List (Str×NameKind)}{sub:Pw}{N:List Str}(h:mP M names sub N=true)(j i:Nat)(x:Str)(h1:sub[j]?=some (some i))(h2:N[j]?=some x):
 M[i]?=some x/\names.lookup x=some .free:=by
 unfold mP at h;rw[MF] at h;have hm:(some i,x)∈sub.zip N:=by refine Mw (i:=j) ?_;rw[List.getElem?_zip_eq_some];exact⟨h1,h2⟩
 have q:=h _ hm;simp only[w_,MD] at q;exact q
noncomputable def rC (kn names:List (Str×NameKind)):Bool:=names.all λx=>x.2 != .free || kn.lookup x.1==some .cell || kn.lookup x.1==some .free
def nE{kn names:List (Str×NameKind)}(h:rC kn names=true):∀x∈names,x.2=.free->kn.lookup x.1=some .cell\/kn.lookup x.1=some .free:=λx hx hf=>by unfold rC at h;rw[MF] at h;have q:=h x hx;rw[hf] at q;simpa using q
end
open PySem PySem.Spec PyProof.Rows PySem.W PySem.Builtin PySem.Builtin.ObjectAttr PySem.Builtin.Getset_descriptor
structure XCls(K:W.Frag)(C:Addr):Prop where
 cls:(clsIn K C).isSome=true
 ga:findIn K (.ref C) "__getattribute__"=some (some (.builtin "BaseException.__getattribute__"))
 gt:findIn K (.ref C) "__getattr__"=some none
 at_:findIn K (.ref C) "__class__"=some (some (.builtin "object.__class__"))
 gs:specialIn K (.builtin "object.__class__") "__get__"=some (some (.builtin "getset_descriptor.__get__"))
 tk:takesIn K (.builtin "object.__class__")=some true
 mo:mroIn K C (.type "object")=some true
 mb:mroIn K C (.type "BaseException")=some true
section
variable{prog:Program}{w:World}{A:Around}{E:Pu}{K:W.Frag}{x C:Addr}{o:Obj}
def jl(hx:h.get? x=some o)(hc:o.cls=.ref C):Looks M h (typeOf (.ref x)) (.ref C):=hc ▸ (Looks.ld hx).andThen .now
def Bm(X:K.In h)(T:XCls K C):Looks M h (find (.ref x) (.ref C) "__class__") (.bind (.builtin "getset_descriptor.__get__") (.builtin "object.__class__")):=by have L1:=looks_findIn (M:=M) X T.at_;have L2:Looks M h (getOf (some (.builtin "object.__class__"))) (some (.builtin "getset_descriptor.__get__")):=looks_specialIn X T.gs;have L3:=looks_takesIn (M:=M) X T.tk;refine L1.andThen (L2.andThen ?_);exact (show Looks M h (dataDescriptor? (some (.builtin "object.__class__")) (some (.builtin "getset_descriptor.__get__"))) (some (.builtin "getset_descriptor.__get__",.builtin "object.__class__")) from L3.andThen .now).andThen (Looks.tag .now)
def pK(X:K.In s.heap)(hx:s.heap.get? x=some o)(hc:o.cls=.ref C)(T:XCls K C)
 (h:R (.ok (.ret (.ref C))) s):codeAny (model prog w) A (.call (.builtin "getset_descriptor.__get__") ⟨[.builtin "object.__class__",.ref x,tp],[]⟩) R s:=by
 obtain⟨hh,g,dr,t,os⟩:=s;have L0:=jl (M:=model prog w) hx hc;have L1:=looks_mroIn (M:=model prog w) X T.mo;refine codeAny_call_builtin KF.slot_gs.plain KF.entry_gs (KF.slot_gs.check _ _ _ _ _ _ _ _ KF.type_class (KF.args_gs _ _ _) ?_);unfold Builtin.«getset_descriptor.__get__» descrGet;rw[dga_obj];refine o_ (B_ ?_);unfold descrGetter descrCheckInstance descrNameAndClass isInstance;simp only[KF.owner_class];repeat lk
 refine⟨Code.quiet_builtin _ (by decide),O7 KF.entry_class ?_⟩;unfold Builtin.«object.__class__» shownTypeOf;repeat lk
 exact h
def xX(X:K.In s.heap)(hx:s.heap.get? x=some o)(hc:o.cls=.ref C)(T:XCls K C)(hq:Q () s):
 wpAny M A (checkBuiltinCall "BaseException.__getattribute__" ⟨[.ref x,nameV],[]⟩) Q E s:=by
 obtain⟨h,g,dr,t,os⟩:=s;have hk:builtinKind "BaseException.__getattribute__"=some .slot:=by decide
 have hsplit:splitId "BaseException.__getattribute__"=some ("BaseException", "__getattribute__"):=by decide
 have ha:=PySem.F.args_bexc_ga (.ref x) nameV;have L0:=jl (M:=M) hx hc;have LM:=looks_mroIn (M:=M) X T.mb;have LI:Looks M h (isInstance (.ref x) (.type "BaseException")) true:=L0.andThen LM;simp only[checkBuiltinCall,hk,hsplit];refine o_ ?_;refine LI.at ?_;repeat (first |wp_step)
 all_goals exact hq
def HD(X:K.In s.heap)(hx:s.heap.get? x=some o)(hc:o.cls=.ref C)(T:XCls K C)(h:Q (some (.ref C)) { s with toks:=s.toks+1 }):
 wpAny (model prog w) A (getAttr? (.ref x) "__class__") Q E s:=by
 obtain⟨hh,g,d,t,os⟩:=s;have L0:=jl (M:=model prog w) hx hc;have L1:=looks_findIn (M:=model prog w) X T.ga;have L2:=looks_findIn (M:=model prog w) X T.gt;have LF:=Bm (M:=model prog w) (x:=x) X T;have f3:=PySem.F.excAttr_ValueError.ga.bind (.ref x);have hx2:(Value.builtin "BaseException.__getattribute__" == Value.builtin "object.__getattribute__")=false:=by decide
 unfold getAttr? getAttrBy? getAttrBy;refine o_ (wpAny_mkText (o_ (OQ (Nq (o_ (L0.at (o_ (L1.at ?_))))))));dsimp only;rw[if_neg (by rw[hx2];simp)];unfold getAttrByItsOwn hookBefore;rw[if_pos (show onTheHeap (Value.ref C)=true from rfl)];refine o_ (L2.at ?_);unfold callGetattribute;refine o_ (OQ (Nq ?_));rw[if_neg (by simp)];unfold boundAndCalled;refine o_ (wpAny_of_eq f3 ?_);refine wpAny_call (codeAny_call_builtin PySem.F.excAttr_ValueError.ga.plain PySem.F.entry_bexc_ga (xX X hx hc T ?_));unfold Builtin.«object.__getattribute__»;repeat (first |(refine o_ (L0.at ?_)) |(refine o_ (LF.at ?_)) |wp_step)
 refine pK (s:=⟨hh,g,d,t+1,os⟩) X hx hc T ?_;repeat (first |exact h |wp_step)
def wx(x:Addr)(C:Addr)(h:Heap):Prop:=∃o vs,h.get? x=some o/\o.cls=.ref C/\o.data=.fields vs
def A4(T:XCls K C):KitX K (.ref x) (.ref C) (wx x C) where
 ty:=λM h _ ⟨o,_,hx,hc,_⟩=>jl hx hc
 it:=λM h X _=>by
  obtain⟨cd,l_⟩:=Ng.mp T.cls;unfold clsIn at l_;split at l_
  .rename_i c' d' cd' sl' ho;intro A' Q' E' s' k q;unfold isType loadHead;exact o_ (wpAny_loadPart (k _ _ (X _ _ ho)) (B_ q))
  .cases l_
 ne:=λh tp dd its n sl X htp=>by
  obtain⟨cd,l_⟩:=Ng.mp T.cls;refine Bool.eq_false_iff.mpr λq=>?_;have e:C=tp:=Value.ref.inj (MD.mp q);subst e;unfold clsIn at l_;split at l_
  .rename_i c' d' cd' sl' ho;have z:=(X _ _ ho).symm.trans htp;cases z
  .cases l_
 ca:=λX ⟨o,_,hx,hc,_⟩ k=>HD X hx hc T k
end
inductive TyX(K:W.Frag)(H:Hp):V->Value->Prop where
 |of {x:V}{t:Value} (h:TyOf K H x t):TyX K H x t
 |exc {a C:Addr} (e:H a=some (.ext (wx a C))) (T:XCls K C):TyX K H (.ref a) (.ref C)
 |sqT {a:Addr}{xs:List V} (h:SqT K H a xs):TyX K H (.ref a) (.type "tuple")
 |sqL {a:Addr}{xs:List V} (h:SqL K H a xs):TyX K H (.ref a) (.type "list")
section
variable{X:Cx}{pins:Pq}{σ:St}{H:Hp}{s:Shared}{c:Value}
def uX(I:Inv X pins σ H s)(rx:RelV x u)(ty:TyX X.K H x t):∃Hh:Heap->Prop,KitX X.K u t Hh/\Hh s.heap/\u ≠ .builtin "__main__.__loader__#opaque":=by
 cases ty with
 |exc ea T=>cases (show u=Value.ref _ from rx);exact⟨_,A4 T,(I.hok _ _ ea).1,λz=>nomatch z⟩
 |sqT h=>cases (show u=Value.ref _ from rx);obtain⟨its,rv,⟨o,e,c,_⟩,_⟩:=I.tuple h;exact⟨_,kitx_tuple,⟨o,e,c⟩,λz=>nomatch z⟩
 |sqL h=>cases (show u=Value.ref _ from rx);obtain⟨its,rv,⟨o,n,e,c,_⟩,_⟩:=I.list h;exact⟨_,kitx_list,⟨o,e,c⟩,λz=>nomatch z⟩
 |
  of ty=>
  cases ty with
  |non=>cases (show u=Value.none from rx);exact⟨_,kitx_none,True.intro,λz=>nomatch z⟩
  |bl y=>cases (show u=Value.bool y from rx);exact⟨_,kitx_bool,True.intro,λz=>nomatch z⟩
  |int i=>obtain⟨t,q⟩:=(show ∃t,u=Value.int i t from rx);cases q;exact⟨_,kitx_int,True.intro,λz=>nomatch z⟩
  |str y=>obtain⟨t,q⟩:=(show ∃t,u=Value.str y t from rx);cases q;exact⟨_,kitx_str,True.intro,λz=>nomatch z⟩
  |flt y=>obtain⟨t,q⟩:=(show ∃t,u=Value.float y t from rx);cases q;exact⟨_,kitx_float,True.intro,λz=>nomatch z⟩
  |@lst a xs ea=>cases (show u=Value.ref a from rx);obtain⟨_,_,n,_,h1⟩:=(show ObjOk X.prog X.w H s.heap a (.lst xs) from I.hok a _ ea);exact⟨_,kitx_list,⟨_,h1,rfl⟩,λz=>nomatch z⟩
  |@frz a ob xs ea=>cases (show u=Value.ref a from rx);obtain⟨_,_,_,n,_,h1⟩:=(show ObjOk X.prog X.w H s.heap a (.frz ob (.lst xs)) from I.hok a _ ea);exact⟨_,kitx_list,⟨_,h1,rfl⟩,λz=>nomatch z⟩
  |@tup a xs ea=>cases (show u=Value.ref a from rx);obtain⟨_,_,_,p⟩:=(show ObjOk X.prog X.w H s.heap a (.tup xs) from I.hok a _ ea);obtain⟨o,h1,h2,_⟩:=p;exact⟨_,kitx_tuple,⟨o,h1,h2⟩,λz=>nomatch z⟩
  |@dK a kvs ea=>cases (show u=Value.ref a from rx);obtain⟨_,_,vs,_,p⟩:=(show ObjOk X.prog X.w H s.heap a (.dK kvs) from I.hok a _ ea);obtain⟨o,es,ep,h1,h2,_⟩:=p;exact⟨_,kitx_dict,⟨o,h1,h2.1⟩,λz=>nomatch z⟩
  |@dT a kvs ea=>cases (show u=Value.ref a from rx);obtain⟨_,_,xs,_,o,es,ep,h1,h2,_⟩:=(show ObjOk X.prog X.w H s.heap a (.dT kvs) from I.hok a _ ea);exact⟨_,kitx_dict,⟨o,h1,h2.1⟩,λz=>nomatch z⟩
  |@ins a C dx fs ea cl ha hn htk hm=>cases (show u=Value.ref a from rx);obtain⟨mA,O,_⟩:=Fo I.hok ea;obtain⟨od,J,_⟩:=O.look;exact⟨_,kitx_own (cl.get _) cl.hd ha hn htk hm,J,λz=>nomatch z⟩
end
section
variable{X:Cx}
noncomputable def fT:V->Option Value
 |.ref C=>some (.ref C)
 |.ty T=>some (.type T)
 |_=>none
def qV(h:fT c=some v)(r:RelV c u):u=v:=by
 cases c with
 |ref C=>cases r;exact J_ h
 |ty T=>cases r;exact J_ h
 |_=>cases h
theorem pb:∀{cs:List V}{us vs:List Value},cs.mapM fT=some vs->Vals cs us->us=vs
 |
  [],_,vs,h,.nil=>by
  have h':some ([]:List Value)=some vs:=h;exact J_ h'
 |
  c::cs,_,vs,h,.cons r rr=>by
  rw[List.mapM_cons] at h;cases q:fT c with
  |none=>rw[q] at h;cases h
  |
   some v=>
   rw[q] at h;cases q2:cs.mapM fT with
   |none=>rw[q2] at h;cases h
   |some vs'=>rw[q2] at h;have h':some (v::vs')=some vs:=h;cases h';rw[qV q r,pb q2 rr]
def Bi:CallR X (.builtin "isinstance") (λxs H Q=>∃x c t v b,xs=[x,c]/\TyX X.K H x t/\fT c=some v/\kitOne X.K t v=some b/\Q (.bl b) H):=by intro pins s σ H xs us Q I r h;obtain⟨x,c,t,v,b,rfl,ty,hc,hk,q⟩:=h;obtain⟨u,w',rfl,rx,rc⟩:=mQ r;obtain rfl:=qV hc rc;obtain⟨Hh,Z,p,hne⟩:=uX I rx ty;exact kia_one Z I.kIn p hk hne λtk=>⟨.bl b,H,I.tok _,rfl,q⟩
end
def ObjOk.there(x:ObjOk P w H h a o):∃u,h.get? a=some u:=by
 cases o with
 |lst xs=>obtain⟨_,_,_,_,e⟩:=x;exact⟨_,e⟩
 |tup xs=>obtain⟨_,_,_,ob,e,_⟩:=x;exact⟨_,e⟩
 |dK kvs=>obtain⟨_,_,_,_,o,_,_,e,_⟩:=x;exact⟨_,e⟩
 |dT kvs=>obtain⟨_,_,_,_,o,_,_,e,_⟩:=x;exact⟨_,e⟩
 |set S n=>obtain⟨o,_,_,_,e,_⟩:=x;exact⟨_,e⟩
 |ins C dx fs=>obtain⟨_,_,_,e,_⟩:=x;exact⟨_,e⟩
 |own y=>exact x
 |xd fs=>obtain⟨_,⟨_,_,_,e,_⟩,_⟩:=x;exact⟨_,e⟩
 |rng lo hi=>obtain⟨_,_,_,e⟩:=x;exact⟨_,e⟩
 |frz ob u=>obtain⟨e,_⟩:=x;exact⟨_,e⟩
 |tbl ps=>exact⟨_,show h.get? a=some _ from x⟩
 |met f y=>exact⟨_,show h.get? a=some _ from x⟩
 |ext φ=>obtain⟨_,e,_⟩:=x;exact e
structure Fly(P:Program)(w:World)(outer:List Env)(H:Hp)(h₀:Heap)(H':Hp)(ea:Addr)(cls:Value)(h:Heap)(B:Heap)(t:Addr):Prop where
 un:Un (frs outer) [] H H' h₀ h
 hok:HOk P w H' h
 fl:Heap.FlyingW B outer ea cls (.ref t) h
 old:∀b o,h₀.get? b=some o->b∉frs outer->∃o',B.get? b=some o'
 trk:∀b o,H' b=some o->∃o',B.get? b=some o'
def CX1(P:Program)(w:World):CXT:=λouter H s E e s'=>∃(ea t:Addr) (cls:Value) (H':Hp) (B:Heap),e=.ref ea/\s'.os=s.os/\AllBare s'.gens/\Fly P w outer H s.heap H' ea cls s'.heap B t/\E cls none H'
def rT(h:env.frame=some L):frs (env::outer)=L::frs outer:=by unfold frs;rw[NG,h]
section
variable{P:Program}{w:World}{outer:List Env}{H H':Hp}{h₀ h h' B:Heap}{ea t:Addr}{cls:Value}
def Fly.step(F:Fly P w outer H h₀ H' ea cls h B t)(fl':Heap.FlyingW B outer' ea cls (.ref t) h')(up:h.UpToSlots h'):
 Un (frs outer) [] H H' h₀ h'/\HOk P w H' h':=by
 have st:=F.fl.1;have same:∀b o,(∃o',B.get? b=some o')->h.get? b=some o->h'.get? b=some o:=λb o ⟨o',e⟩ q=>by have z:=st b o' e;rw[q] at z;cases z;exact fl'.1 b _ e
 have frame:∀b o,b∈frs outer->h.get? b=some o->∃sl,h'.get? b=some { o with slots:=sl }:=λb o hb q=>by obtain⟨_,o',ho',hd⟩:=F.fl.2.2.1.mem hb;rw[q] at ho';cases ho';exact up b o q hd
 refine⟨⟨λb o e n hb hx=>same b o (F.old b o e hb) (F.un.keep b o e n hb hx),λb o e n hb hx=>?_,F.un.free,λb o e hx=>?_,F.un.tups,F.un.frzs,F.un.tbls⟩,λa o e=>?_⟩
 .obtain⟨sl,q⟩:=F.un.slot b o e n hb hx;obtain⟨sl',q'⟩:=frame b _ hb q;exact⟨sl',q'⟩
 .obtain⟨o',q⟩:=F.un.there b o e hx;by_cases hb:b∈frs outer
  .obtain⟨sl,q'⟩:=frame b _ hb q;exact⟨_,q'⟩
  .exact⟨o',same b o' (F.old b o e hb) q⟩
 .refine (F.hok a o e).stay (λb u hb q=>same b u ?_ q) (λ_ q=>q) λ_ _ q=>q;rcases hb with z |z
  .rw[z];exact F.trk a o e
  .exact F.trk b _ z
end
structure Cx.Top(X:Cx):Prop where
 ex:X.ex=[]
 stk:X.stack=X.env::X.outer
 fr:X.env.frame=some X.env.locals
section
variable{X:Cx}{pins:Pq}{σ:St}{H:Hp}{s s':Shared}{E:XK}{e:Value}
def zW(T:X.Top)(hA:A.frames=some X.stack)(I:Inv X pins σ H s)(h:CX1 X.prog X.w X.stack H s E e s'):
 wpAny (model X.prog X.w) A (leaving X.env e) (λ_ s''=>CX1 X.prog X.w X.outer X.H₀ X.s₀ E e s'') E' s':=by
 obtain⟨ea,t,cls,H',B,rfl,os,bare,F,q⟩:=h;have F0:=F;rw[T.stk] at F;have hf:=rT (outer:=X.outer) T.fr;refine wpAny_leaves_onW (by rw[hA,T.stk]) T.fr F.fl λh'' fl'' up=>?_;obtain⟨un2,hok2⟩:=F.step fl'' up;have exn:∀b,b∉X.ex:=λb z=>by rw[T.ex] at z;cases z
 have neL:∀b o,X.s₀.heap.get? b=some o->b≠X.env.locals:=λb o e=>Ms (K_ (C_ e) I.ok.above);have notin:∀b o,X.s₀.heap.get? b=some o->b∉frs X.outer->b∉frs (X.env::X.outer):=λb o e hb z=>by
  rw[hf] at z;rcases F_.mp z with z |z
  .exact neL b o e z
  .exact hb z
 refine⟨ea,t,cls,H',B,rfl,os.trans I.os,bare,⟨⟨λb o e n hb hx=>?_,λb o e n hb hx=>?_,λb o e n hx=>?_,λb o e hx=>?_,λb xs e=>un2.tups b xs (I.base.tups b xs e),λb o xs e=>un2.frzs b o xs (I.base.frzs b o xs e),λb ps e=>?_⟩,hok2,fl'',λb o e hb=>?_,F.trk⟩,q⟩
 .exact un2.keep b o (I.base.keep b o e n hb (exn b)) (I.base.free b o e n (exn b)) (notin b o e hb) (by simp)
 .obtain⟨sl,e1⟩:=I.base.slot b o e n hb (exn b);obtain⟨sl',e2⟩:=un2.slot b _ e1 (I.base.free b o e n (exn b)) (by rw[hf];exact q_ _ hb) (by simp);exact⟨sl',e2⟩
 .obtain⟨o',e1⟩:=I.base.there b o e (exn b);exact un2.free b o' e1 (I.base.free b o e n (exn b)) (by simp)
 .obtain⟨o',e1⟩:=I.base.there b o e (exn b);exact un2.there b o' e1 (by simp)
 .obtain⟨m1,e1⟩:=I.base.tbls b ps e;obtain⟨m2,e2⟩:=un2.tbls b _ e1;exact⟨m1++m2,by rw[e2,Array.append_assoc]⟩
 .obtain⟨o',e1⟩:=I.base.there b o e (exn b);exact F.old b o' e1 (notin b o e hb)
def BC(T:X.Top)(hA:A.frames=some X.stack)(I:Inv X pins σ H s)(hx:Heap.MadeExcOf s.heap h' ea cls args)(q:E cls none H):
 wpAny (model X.prog X.w) A (leaving X.env (.ref ea)) (λ_ s''=>CX1 X.prog X.w X.outer X.H₀ X.s₀ E (.ref ea) s'') E' { s with heap:=h' }:=by
 have hf:=rT (outer:=X.outer) T.fr;have stk:=I.stack;rw[T.stk] at stk;have hin:∀env∈(X.env::X.outer),∀b,env.frame=some b->b∈frs (X.env::X.outer):=λenv he b hb=>List.mem_filterMap.mpr ⟨env,he,hb⟩;refine wpAny_leaves_madeW (base:=W.hideAll s.heap (frs (X.env::X.outer))) (h:=s.heap) (by rw[hA,T.stk]) T.fr (λb o q=>W.of_hideAll _ q) (W.funFrames_hide stk hin) hx λh'' t fl tup tn up=>?_;have inB:∀b o,s.heap.get? b=some o->b∉frs (X.env::X.outer)->(W.hideAll s.heap (frs (X.env::X.outer))).get? b=some o:=λb o e hb=>W.hideAll_get _ e hb;have free:∀b∈frs (X.env::X.outer),H b=none:=λb hb=>I.stkFree b (by rw[T.stk];exact hb);have up2:s.heap.UpToSlots h'':=(Heap.UpToSlots.of_keeps hx.keeps).trans up;have exn:∀b,b∉X.ex:=λb z=>by rw[T.ex] at z;cases z
 have neL:∀b o,X.s₀.heap.get? b=some o->b≠X.env.locals:=λb o e=>Ms (K_ (C_ e) I.ok.above);have notin:∀b o,X.s₀.heap.get? b=some o->b∉frs X.outer->b∉frs (X.env::X.outer):=λb o e hb z=>by
  rw[hf] at z;rcases F_.mp z with z |z
  .exact neL b o e z
  .exact hb z
 have trk:∀b o,H b=some o->∃o',(W.hideAll s.heap (frs (X.env::X.outer))).get? b=some o':=λb o e=>by obtain⟨u,hu⟩:=(I.hok b o e).there;exact⟨u,inB b u hu λz=>by rw[free b z] at e;cases e⟩
 refine⟨ea,t,cls,H,_,rfl,I.os,I.bare,⟨⟨λb o e n hb hx=>?_,λb o e n hb hx=>?_,λb o e n hx=>?_,λb o e hx=>?_,I.base.tups,I.base.frzs,I.base.tbls⟩,λa o e=>?_,fl,λb o e hb=>?_,trk⟩,q⟩
 .exact fl.1 b o (inB b o (I.base.keep b o e n hb (exn b)) (notin b o e hb))
 .obtain⟨sl,e1⟩:=I.base.slot b o e n hb (exn b);obtain⟨_,o',ho',hd⟩:=I.ok.funs.mem hb;rw[e] at ho';cases ho';obtain⟨sl',e2⟩:=up2 b _ e1 hd;exact⟨sl',e2⟩
 .exact I.base.free b o e n (exn b)
 .obtain⟨o',e1⟩:=I.base.there b o e (exn b);by_cases hb:b∈frs X.outer
  .obtain⟨_,o2,ho2,hd⟩:=I.funs.mem hb;rw[e1] at ho2;cases ho2;obtain⟨sl',e2⟩:=up2 b _ e1 hd;exact⟨_,e2⟩
  .exact⟨o',fl.1 b o' (inB b o' e1 (notin b o e hb))⟩
 .refine (I.hok a o e).stay (λb u hb q=>?_) (λ_ q=>q) λ_ _ q=>q;refine fl.1 b u (inB b u q λz=>?_);rcases hb with y |y
  .rw[y] at z;rw[free a z] at e;cases e
  .rw[free b z] at y;cases y
 .obtain⟨o',e1⟩:=I.base.there b o e (exn b);exact⟨o',inB b o' e1 (notin b o e hb)⟩
end
section
variable{P:Program}{w:World}{K:W.Frag}{mg:Pp}{base:Heap}{N:List Str}{qual:Str}{scope:Scope}{f:Addr}{cd:Value}{A:Around}{outer:List Env}{s:Shared}{H:Hp}{E:XK}
def D8:(eN (CX1 P w) P w K mg base N qual scope f cd A outer s H E).Top:=⟨rfl,rfl,rfl⟩
def Ej:sJ (CX1 P w) (eN (CX1 P w) P w K mg base N qual scope f cd A outer s H E) E:=λpins σ H s e s' I h=>zW D8 I.ok.frames I h
def Md:sJ (CX1 P w) X E0:=λpins σ H s e s' I ⟨_,_,_,_,_,_,_,_,_,q⟩=>q.elim
def own1:PassesOwn (model P w) (eN (CX1 P w) P w K mg base N qual scope f cd A outer s H E).A (eN (CX1 P w) P w K mg base N qual scope f cd A outer s H E).env (eN (CX1 P w) P w K mg base N qual scope f cd A outer s H E).xe:=PassesOwn.leaving
def Rz(X:Cx)(E:XK):Prop:=∀(pins:Pq) (σ:St) (H:Hp) (s:Shared) (h':Heap) (ea:Addr) (cls:Value) (args:List Value),Inv X pins σ H s->Heap.MadeExcOf s.heap h' ea cls args->E cls none H->X.xe (.ref ea) { s with heap:=h' }
def rz1:Rz (eN (CX1 P w) P w K mg base N qual scope f cd A outer s H E) E:=λpins σ H s h' ea cls args I hx q=>BC D8 I.ok.frames I hx q
def Fun.okR{x qual:Str}{st:Stmt}{f:Addr}{fd:FuncData}{N ps:List Str}{k:Nat}{sp:Sp}(F:Fun K x qual st f fd)(S:FnScope N ps (aq st))(len:∀vs H Q E,sp vs H Q E->vs.length=ps.length)
 (j':∀(cdv:Value) (A:Around) (outer:List Env) (s:Shared) (H:Hp) (vs:List V) (Q:VK) (E:XK),Room k (A.deeper (envOfC qual (aq st) s.heap.objs.size f cdv))->sp vs H Q E->
  ∃t,PSs (eN (CX1 P w) P w K mg base N qual (aq st) f cdv A outer s H E) (bD st) t/\t { nx:=λ_ H'=>Q .non H',rt:=Q } (f6 N vs) H):FnOk P w K mg base (CX1 P w) (k+1) f fd ps sp:=by
 obtain⟨oc,od,kV,doc,pm,an,cdv,ct,osl,rfl,lk,l_⟩:=F.ex;exact Ee lk l_ S len λA outer s H vs Q E hr hsp=>j' cdv A outer s H vs Q E hr hsp
end
abbrev nY:List Value:=[.type "ValueError",.type "Exception",.type "BaseException",.type "object"]
def zM{K:W.Frag}{h:Heap}{C:Addr}(X:K.In h)(q:W.excIn K C nY "ValueError.__new__"=true):
 ∃bm N nm q' bs hdct sn sub ab col dd k0 k1 k2 k3 k5 mN,h.get? C=some (excClassObj nm q' C N bs bm hdct sn sub ab col dd k0 k1 k2 k3 k5 "ValueError.__new__")/\h.Ns N mN/\mN "__init__"=none/\OwnTail h nY bm:=by
 unfold W.excIn at q;split at q
 .rename_i dd cd sl ho;split at q
  .rename_i C' bm k0 k1 k2 k3 n k5 hm hs;simp only[w_,MD,Og] at q;obtain⟨⟨⟨⟨⟨rfl,rfl⟩,hdel⟩,ht⟩,hok⟩,hni⟩:=q;obtain⟨nm,bs,mro,ns,qn,hd,sn,sub,ab,col,del⟩:=cd;dsimp only at hm hdel hok hni;subst hm hdel;have hsl:sl=#[k0,k1,k2,k3,some (.builtin "ValueError.__new__"),k5]:=by obtain⟨l⟩:=sl;simp only at hs;rw[hs]
   subst hsl;exact⟨bm,ns,nm,qn,bs,hd,sn,sub,ab,col,dd,k0,k1,k2,k3,k5,_,X _ _ ho,.of_isNs (W.isNs_of_in X hok),W.nsMap_none_of_in X hok hni,W.tail_of_in X ht⟩
  .cases q
 .cases q
section
variable{X:Cx}{x:Str}{C:Addr}{E:XK}{np cpos pos:Pos}{e₀:Expr}{es:List Expr}{ta:TA}
def JF(C:Addr)(E:XK)(ta:TA):TS:=λ_ σ H=>ta σ H λvs H1=>vs.length<=sizeLine/\E (.ref C) none H1
def A8(hc:X.calm=true)(hR:Rz X E)(hg:Gl X x)(hm:X.mg x=some (.ref C))(hq:W.excIn X.K C nY "ValueError.__new__"=true)(ha:PA X (e₀::es) ta)
 (he:starEach (e₀::es) X.env=(false,eval e₀ X.env)::starEach es X.env) (c_:(backTo cpos (starEach es X.env)).any (·.1)=false) (hd:(x==("__debug__" : Str))=false):
 PS X (.Raise (some (.Call (.Name x np) (e₀::es) [] cpos)) none pos) (JF C E ta):=by
 intro pins s σ H D I h;obtain⟨bm,N,nm,q',bs,hdct,sn,sub,ab,col,dd,k0,k1,k2,k3,k5,mN,hC,hN,hni,T⟩:=zM I.ok.mod.kin hq;refine wpAny_Raise_call_subT (C:=C) (nm:=nm) (q:=q') (N:=N) (bs:=bs) (bm:=bm) (hdct:=hdct) (sn:=sn) (sub:=sub) (ab:=ab) (col:=col) (dd:=dd) (k0:=k0) (k1:=k1) (k2:=k2) (k3:=k3) (k5:=k5)
  PySem.F.excBase_ValueError (mN:=mN) (T.hasType PySem.F.excBase_ValueError.hasBase) (I.ok.hd hc) (by rw[he];show (false || (backTo cpos (starEach es X.env)).any (·.1))=false;rw[c_];rfl) hni (nO I hg hm ⟨rfl,?_⟩ hd)
 have hA:=ha cpos pins s σ H _ I h;rw[he] at hA ⊢;refine Calls.evalArgs_plain (thn hA λus s2 ⟨vs,H2,I2,r2,hz,q2⟩=>⟨rfl,by rw[<- r2.length];exact hz,I2.bk _ _ hC,hN.keeps I2.bk,T.keeps I2.bk,λh' e hm'=>?_⟩);exact hR pins σ H2 s2 h' e _ _ I2 hm' q2
end
abbrev XS:=St->XK
abbrev TEx:=St->Hp->VK->XK->Prop
abbrev TSx:=Ends->XS->St->Hp->Prop
def XP(X:Cx)(pins:Pq)(E:XS)(e:Value)(s':Shared):Prop:=∃σ1 H1 s1,Inv X pins σ1 H1 s1/\CX1 X.prog X.w X.stack H1 s1 (E σ1) e s'
structure XHand(K:W.Frag)(C:Addr):Prop where
 ty:W.typeIn K (.ref C)=some (.type "type")
 cls:(W.clsIn K C).isSome=true
 mb:W.mroIn K C (.type "BaseException")=some true
mutual
inductive Rep(K:W.Frag)(H:Hp):V->PyData->Prop where
 |non:Rep K H .non .none
 |bl (b:Bool):Rep K H (.bl b) (.bool b)
 |int (i:Int):Rep K H (.int i) (.int i)
 |str (x:Str):Rep K H (.str x) (.str x)
 |tup {a:Addr}{xs:List V}{ds:List PyData} (h:SqT K H a xs) (r:Reps K H xs ds):Rep K H (.ref a) (.tuple ds)
 |lst {a:Addr}{xs:List V}{ds:List PyData} (h:SqL K H a xs) (r:Reps K H xs ds):Rep K H (.ref a) (.list ds)
inductive Reps(K:W.Frag)(H:Hp):List V->List PyData->Prop where
 |nil:Reps K H [] []
 |cons {x:V}{d:PyData}{xs:List V}{ds:List PyData} (r:Rep K H x d) (rr:Reps K H xs ds):Reps K H (x::xs) (d::ds)
end
section
variable{X:Cx}{pins:Pq}{σ:St}{H:Hp}{s:Shared}{K:W.Frag}
def Rep.reads(I:Inv X pins σ H s)(r:Rep X.K H v d)(q:RelV v u):∃as,Reads s.heap u d as:=
 Rep.rec (motive_1:=λv d _=>∀u,RelV v u->∃as,Reads s.heap u d as) (motive_2:=λvs ds _=>∀us,Vals vs us->∃as,ReadsAll s.heap us ds as)
  (λu r=>by cases r;exact⟨_,.none⟩) (λb u r=>by cases r;exact⟨_,.bool b⟩) (λi u r=>by obtain⟨t,rfl⟩:=r;exact⟨_,.int i t⟩) (λx u r=>by obtain⟨t,rfl⟩:=r;exact⟨_,.str x t⟩)
  (λh _ ih u r=>by cases r;obtain⟨its,rv,⟨o,e,c,n,d⟩,_⟩:=I.tuple h;obtain⟨as,q⟩:=ih _ rv;exact⟨as,.tuple e c d (by simpa using q)⟩)
  (λh _ ih u r=>by cases r;obtain⟨its,rv,⟨o,n,e,c,_,d⟩,_⟩:=I.list h;obtain⟨as,q⟩:=ih _ rv;exact⟨_,.list e c d (by simpa using q)⟩)
  (λus r=>by cases r;exact⟨_,.nil⟩)
  (λ_ _ a b us q=>by
   cases q with
   |cons q1 q2=>obtain⟨as,h1⟩:=a _ q1;obtain⟨bs,h2⟩:=b _ q2;exact⟨_,.cons h1 h2⟩) r u q
end
section
variable{X:Cx}
noncomputable def shp (d:PyData):Bool:=d.canLay0&&decide (d.depth<=160)
def fR(h:shp d=true):d.canLay0=true:=(Bool.and_eq_true_iff.mp h).1
def lF{A:Around}{d e:PyData}(h:shp d=true)(hu:A.units+180<cLine):A.units+min d.depth e.depth<cLine:=by have h1:d.depth<=160:=NW (Bool.and_eq_true_iff.mp h).2;have h2:min d.depth e.depth<=d.depth:=Nat.min_le_left _ _;omega
def Cy(K:W.Frag):R2:=λx y H Q=>∃dx dy,Rep K H x dx/\Rep K H y dy/\shp dx=true/\shp dy=true/\Q (.bl (PyData.eqv dx dy)) H
def CW(K:W.Frag):R2:=λx y H Q=>∃dx dy,Rep K H x dx/\Rep K H y dy/\shp dx=true/\shp dy=true/\Q (.bl (!PyData.eqv dx dy)) H
def Ho(hu:X.A.units+180<cLine):OpR X (compareOp .Eq) (Cy X.K):=by intro pins s σ H x y v u Q I rx ry h;obtain⟨dx,dy,r1,r2,h1,h2,q⟩:=h;obtain⟨as,q1⟩:=r1.reads I rx;obtain⟨bs,q2⟩:=r2.reads I ry;exact SeqAt.compareEq_reads q1 q2 (fR h1) (fR h2) (lF h1 hu) (zA I q rfl)
def Iv(hu:X.A.units+180<cLine):OpR X (compareOp .NotEq) (CW X.K):=by intro pins s σ H x y v u Q I rx ry h;obtain⟨dx,dy,r1,r2,h1,h2,q⟩:=h;obtain⟨as,q1⟩:=r1.reads I rx;obtain⟨bs,q2⟩:=r2.reads I ry;exact SeqAt.compareNe_reads q1 q2 (fR h1) (fR h2) (lF h1 hu) (zA I q rfl)
open PySem.Builtin.Int (intBits)
def CDivB(i j:Int):Prop:=j≠0/\intBits j<=8000
def Dn(i j:Int):Prop:=intBits i<=100000/\intBits j<=100000
def Bb:OpR X (binaryOp .FloorDiv) (rI CDivB λi j=>.int (i.fdiv j)):=opI λi j _ _ _ _ _ hc q=>floordiv_int hc.1 q (.inl (PyProof.noPylong_of_log2 (by
 have h:=hc.2;have h0:=hc.1;unfold intBits at h;have hb:(j==0)=false:=by simpa using h0
 rw[hb] at h;simp only[N6,OW] at h;omega)))
def FJ:OpR X (binaryOp .Mult) (rI Dn λi j=>.int (i*j)):=opI λi j _ _ _ _ _ hc q=>mul_int q (PySem.IntMulOk.of_le hc.1 hc.2 (by decide))
def yh(bs:List Bool):((List.range bs.length).all λi=>bs.getD i false)=bs.all id:=by
 rw[OX,MF,MF];constructor
 .intro h x hx;obtain⟨i,hi,rfl⟩:=List.mem_iff_getElem.mp hx
  have:=h i (Mu.mpr hi)
  simpa [Mo,hi] using this
 .intro h i hi;have hi':=Mu.mp hi
  have:=h bs[i] (NI hi')
  simpa [Mo,hi'] using this
def BS(hc:X.calm=true):CallR X (.builtin "all") (λxs H Q=>∃(a:Addr) (bs:List Bool),xs=[.ref a]/\SqL X.K H a (bs.map V.bl)/\Q (.bl (bs.all id)) H):=by
 intro pins s σ H xs us Q I r h;obtain⟨a,bs,rfl,hq,q⟩:=h;obtain⟨u,rfl,ru⟩:=fZ r;cases ru;obtain⟨its,rv,p,hz⟩:=I.list hq;have hl:=rv.length;rw[p_] at hl;have hlt:a<s.heap.objs.size:=by obtain⟨o,n,e,_⟩:=p;exact C_ e
 refine call_all_walk (wpAny_pyIter_list p.isList ?_);refine⟨s.heap.objs.size,_,_,_,_,_,λi=>bs.getD i false,rfl,Walks.list (A:=X.A.in1) (I.ok.hd hc) s.heap.objs.size a (Ms hlt) its.toArray,⟨⟨_,G_ _ rfl,rfl,rfl⟩,(p.keeps λb o e=>r_ _ e).isList⟩,λi v s' Q' E' hP hQ=>?_,λh' tk hk=>?_⟩
 .have hP':its[i]?=some v:=by simpa using hP
  have hi:i<bs.length:=by rw[hl];exact (u_.mp hP').1
  have hb:(bs.map V.bl)[i]?=some (V.bl bs[i]):=by simp [hi]
  obtain⟨u,hu,ru⟩:=rv.get hb;rw[hP'] at hu;cases hu;cases ru;refine NB ?_;have e:bs.getD i false=bs[i]:=by simp [Mo,hi]
  show Q' bs[i] s';rw[<- e];exact hQ
 .have e1:its.toArray.size=bs.length:=by rw[z_,hl]
  rw[e1,yh];have hn:H s.heap.objs.size=none:=I.fresh;have I1:Inv X pins σ H { s with heap:=s.heap.push { cls:=.type "list_iterator",dict:=none,data:=.fields #[.ref a,rawInt 0] } }:=I.kept (t':=s.toks) λb o e=>r_ _ e;refine⟨.bl _,H,?_,rfl,q⟩;refine I.kept (t':=tk) λb o e=>?_;have hne:b≠s.heap.objs.size:=Ms (C_ e);exact hk b o (by simpa using hne) (r_ _ e)
end
structure Def(K:W.Frag)(mg:Pp)(x:Str)(st:Stmt):Prop where
 ex:∃f fd,Fun K x x st f fd/\mg x=some (.ref f)
def yt{K:W.Frag}{h:Heap}{mg:Pp}{x:Str}{st:Stmt}{f:Addr}{oc:Value}{od an:Option Addr}{osl:Array (Option Value)}{kV doc pm cdv ct:Value}(X:K.In h)(G:h.Ns mainGlobals mg)
 (a:W.nsIn K mainGlobals x=some (some (.ref f))) (l:K.lookup f=some ⟨oc,od,.func (W.fnOf x x (c7 st) (bD st) (aq st) .none kV doc pm an cdv ct),osl⟩)
 (c:W.codeIn K cdv x=true) (k:W.keepIn K (.ref f)=true):Def K mg x st:=⟨f,_,HX l c k,W.mg_of X G a⟩
def Fun.look{K:W.Frag}{x qual:Str}{st:Stmt}{f:Addr}{fd:FuncData}(F:Fun K x qual st f fd):∃oc od osl,K.lookup f=some ⟨oc,od,.func fd,osl⟩:=by obtain⟨oc,od,kV,doc,pm,an,cdv,ct,osl,rfl,lk,l_⟩:=F.ex;exact⟨oc,od,osl,lk⟩
structure Callee(P:Program)(w:World)(K:W.Frag)(mg:Pp)(base:Heap)(x:Str)(k:Nat)(ps:List Str)(sp:Sp):Prop where
 ex:∃f fd,FnOk P w K mg base (CX1 P w) k f fd ps sp/\mg x=some (.ref f)/\W.keepIn K (.ref f)=true/\Binds K fd ps []/\∃oc od osl,K.lookup f=some ⟨oc,od,.func fd,osl⟩
section
variable{P:Program}{w:World}{K:W.Frag}{mg:Pp}{base:Heap}{x:Str}{st:Stmt}{k:Nat}{ps N:List Str}{sp:Sp}
def Callee.imp(C:Callee P w K mg base x k ps sp)(h:∀vs H Q E,sp' vs H Q E->sp vs H Q E):Callee P w K mg base x k ps sp':=by obtain⟨f,fd,F,r⟩:=C.ex;exact⟨f,fd,F.imp h,r⟩
def Def.okR(D:Def K mg x st)(S:FnScope N ps (aq st))
 (hb:∀(kV doc pm:Value) (an:Option Addr) (cdv ct:Value) (us:List Value),us.length=ps.length->bindArgs (W.fnOf x x (c7 st) (bD st) (aq st) .none kV doc pm an cdv ct) ⟨us,[]⟩=pure (ps.zip us))
 (len:∀vs H Q E,sp vs H Q E->vs.length=ps.length)
 (j':∀(f:Addr) (cdv:Value) (A:Around) (outer:List Env) (s:Shared) (H:Hp) (vs:List V) (Q:VK) (E:XK),Room k (A.deeper (envOfC x (aq st) s.heap.objs.size f cdv))->sp vs H Q E->
  ∃t,PSs (eN (CX1 P w) P w K mg base N x (aq st) f cdv A outer s H E) (bD st) t/\t { nx:=λ_ H'=>Q .non H',rt:=Q } (f6 N vs) H):Callee P w K mg base x (k+1) ps sp:=by
 obtain⟨f,fd,F,m⟩:=D.ex;exact⟨f,fd,F.okR S len (j' f),m,F.kp,F.binds hb,F.look⟩
end
section
variable{X:Cx}{K:W.Frag}
def allK(h:X.K=K)(hc:X.calm=true):CallR X (.builtin "all") (λxs H Q=>∃(a:Addr) (bs:List Bool),xs=[.ref a]/\SqL K H a (bs.map V.bl)/\Q (.bl (bs.all id)) H):=by subst h;exact BS hc
def Room.u180(r:Room k A):A.units+180<cLine:=by have:=r.un;omega
def eqDK(h:X.K=K)(hu:X.A.units+180<cLine):OpR X (compareOp .Eq) (Cy K):=by subst h;exact Ho hu
def neDK(h:X.K=K)(hu:X.A.units+180<cLine):OpR X (compareOp .NotEq) (CW K):=by subst h;exact Iv hu
def inK(h:X.K=K):OpR X (compareOp .In) (rIn K false):=by subst h;exact zQ
def H9(h:X.K=K):OpR X (compareOp .NotIn) (rIn K true):=by subst h;exact tf
end
section
variable{X:Cx}
def ze{elt iter tg:Expr}{ifs:List Expr}{scope:Scope}{pos:Pos}{wi:TI}{g:TG}{tc:TT}{te:TE}{N:List Str}{sub:Pw}{iT:Nat}{xT:Str}{px spos:Pos}
 (hc:X.calm=true) (hN:X.N.Nodup) (hix:X.N[iT]?=some xT) (hxl:Loc X.env.scope xT) (hi:PI X tg iter wi)
 (hk:scope.kind=.function) (hnc:∀x∈scope.names,x.2 ≠ .cell) (d_:∀x∈scope.names,x.2=.local->scope.names.lookup x.1=some .local)
 (hfr:∀x∈scope.names,x.2=.free->X.env.kindOf x.1=some .cell\/X.env.kindOf x.1=some .free)
 (hsl:sub.length=N.length) (n_:∀(j i:Nat) (x:Str),sub[j]?=some (some i)->N[j]?=some x->X.N[i]?=some x/\scope.names.lookup x=some .free)
 (hg:∀cl C s₂ H fp,PG (aZ X N scope cl C s₂ H fp) tg g) (ht:∀cl C s₂ H fp,PTs (aZ X N scope cl C s₂ H fp) ifs tc) (he:∀cl C s₂ H fp,PE (aZ X N scope cl C s₂ H fp) elt te)
 (hsw:swapsWith (.ListComp elt [⟨tg,iter,ifs,0⟩] scope pos) (some (.Name xT px)) spos.line X.env=pure true)
 (hs:∀x,foldedSetIterable iter X.env x=pure x) (hf:X.fn xT=true\/X.env.scope.names.lookup xT=some .local):
 PS X (.Assign [.Name xT px] (.ListComp elt [⟨tg,iter,ifs,0⟩] scope pos) spos) (r9 (lW wi sub g tc te) (fo iT)):=by
 intro pins s σ H D0 I h;rw[exec_Assign_Name_used _ _ _ _ hsw];refine o_ (Ox (o_ ?_));show wpAny _ X.A (do let _ <- comprehension (.ListComp elt [⟨tg,iter,ifs,0⟩] scope pos) scope X.env _ (newList []) false (eval iter X.env) (some (assign (.Name xT px) X.env))) _ _ s;refine o_ (ML (u4 (use:=some (assign (.Name xT px) X.env)) (R:=λ_ s'=>SP X pins D0 .next s') hc hi hk hnc d_ hfr hsl n_ hg ht he hs I h λD C s4 e=>?_) (λ_ s' hq=>B_ (B_ hq)) λ_ _ e=>e);obtain⟨m,hm⟩:=e.ns;obtain⟨H',hC,q,i⟩:=e.inv;have dc:=e.dc;have fr:=e.fr;refine wpAny_assign_Name (pj (v:=.ref D) (i s4.heap ⟨rfl,λ_ _=>rfl⟩) hN hix hxl rfl (λs7 I7 ⟨a7,sb7,ha7⟩=>?_) hf);have ha:a7<D:=by
  rcases ha7 with z |z
  .rw[z];exact fr
  .exact e.cell xT a7 z
 refine⟨m,hm.sameBut sb7 (Om (O2 ha dc)),λh8 hs8=>⟨_,_,I7.turned (it:=C) (t':=s7.toks) (λb o hb e=>hs8.extBut b o hb e) hC (Om (O2 fr dc)) (.inr (My e.sz (Ol dc))) (λx c q=>Ms (O2 (e.cell x c q) dc)) (λp hp=>Ms (O2 (e.pin p hp) dc)),q⟩⟩
end
theorem nF:∀{ns:List Int}{its:List Value},Vals (ns.map V.int) its->IntsAre its ns
 | [],_,h=>by cases h;exact .nil
 |
  i::r,_,h=>by
  cases h with
  |cons h1 h2=>obtain⟨t,rfl⟩:=h1;exact .cons i t (nF h2)
def pz{X:Cx}{K:W.Frag}(hK:X.K=K)(hc:X.calm=true):CallR X (.builtin "sum") (λxs H Q=>∃(a:Addr) (ns:List Int),xs=[.ref a]/\SqL K H a (ns.map V.int)/\Q (.int ns.sum) H):=by
 subst hK;intro pins s σ H xs us Q I r h;obtain⟨a,ns,rfl,hq,q⟩:=h;obtain⟨u,rfl,ru⟩:=fZ r;cases ru;obtain⟨its,rv,p,hz⟩:=I.list hq;have hi:=nF rv;obtain⟨ys,hy⟩:=hi.allInts.items;have hn:numsOf its.toArray.toList=ns:=by rw[show its.toArray.toList=its from rfl,hi.numsOf]
 have pl:=p.isList;rw[hy] at pl hn;rw[nums_intItems] at hn;refine sum_intListG (I.ok.hd hc) pl λh' tk t' hk=>?_;rw[preSum_eq,M5 (by simp),hn];exact⟨.int ns.sum,H,I.kept (t':=tk) hk,⟨_,rfl⟩,q⟩
end L2
namespace Fr
noncomputable def dv (a b:Int):Int:=if b<0 then -((Int.gcd a b:Nat):Int) else ((Int.gcd a b:Nat):Int)
def T(a b:Int):Int:=a.fdiv (dv a b)
def B(a b:Int):Int:=b.fdiv (dv a b)
def sX(hb:b≠0):0<Int.gcd a b:=Int.gcd_pos_of_ne_zero_right a hb
def dv_ne(hb:b≠0):dv a b≠0:=by
 have:=sX (a:=a) hb
 unfold dv;split <;> omega
def Cf(a b:Int):dv a b ∣ a:=by
 have h:((Int.gcd a b:Nat):Int) ∣ a:=Int.gcd_dvd_left a b;unfold dv;split
 .exact Int.neg_dvd.mpr h
 .exact h
def Bh(a b:Int):dv a b ∣ b:=by
 have h:((Int.gcd a b:Nat):Int) ∣ b:=Int.gcd_dvd_right a b;unfold dv;split
 .exact Int.neg_dvd.mpr h
 .exact h
def vB{a d q:Int}(hd:d≠0)(h:a=d*q):a.fdiv d=q:=by rw[h,OD];exact Int.mul_fdiv_cancel q hd
def T_mul(hb:b≠0):T a b*dv a b=a:=by obtain⟨q,h⟩:=Cf a b;have:T a b=q:=vB (dv_ne hb) h;rw[this,OD];exact h.symm
def B_mul(hb:b≠0):B a b*dv a b=b:=by obtain⟨q,h⟩:=Bh a b;have:B a b=q:=vB (dv_ne hb) h;rw[this,OD];exact h.symm
def B_pos(hb:b≠0):0<B a b:=by
 have h:=B_mul (a:=a) hb;have hg:=sX (a:=a) hb;generalize hx:B a b=x at h ⊢;unfold dv at h;split at h
 .rename_i hneg;have h2:x*((Int.gcd a b:Nat):Int)=-b:=by rw[Int.mul_neg] at h;omega
  rcases Int.lt_or_le 0 x with z |z
  .exact z
  .have:x*((Int.gcd a b:Nat):Int)<=0:=Int.mul_nonpos_of_nonpos_of_nonneg z (by omega);omega
 .rename_i hpos;rcases Int.lt_or_le 0 x with z |z
  .exact z
  .have:x*((Int.gcd a b:Nat):Int)<=0:=Int.mul_nonpos_of_nonpos_of_nonneg z (by omega);omega
def cross(hb:b≠0):T a b*b=a*B a b:=by have h1:=T_mul (a:=a) hb;have h2:=B_mul (a:=a) hb;generalize T a b=x at *;generalize B a b=y at *;generalize dv a b=d at *;rw[<- h2,<- h1];rw[<- Nh,OE]
def dv_abs(a b:Int):(dv a b).natAbs=Int.gcd a b:=by unfold dv;split <;> simp
def low(hb:b≠0):Int.gcd (T a b) (B a b)=1:=by
 have h1:=T_mul (a:=a) hb;have h2:=B_mul (a:=a) hb;have hg:=sX (a:=a) hb;have e1:a.natAbs=(T a b).natAbs*Int.gcd a b:=by rw[<- dv_abs a b,<- Nb,h1]
 have e2:b.natAbs=(B a b).natAbs*Int.gcd a b:=by rw[<- dv_abs a b,<- Nb,h2]
 have e3:Int.gcd a b=Nat.gcd ((T a b).natAbs*Int.gcd a b) ((B a b).natAbs*Int.gcd a b):=by rw[<- e1,<- e2];rfl
 rw[Nat.gcd_mul_right] at e3;show Nat.gcd (T a b).natAbs (B a b).natAbs=1;generalize Nat.gcd (T a b).natAbs (B a b).natAbs=k at *;generalize Int.gcd a b=g at *;have:(1:Nat)*g=k*g:=by omega
 exact (Nat.eq_of_mul_eq_mul_right hg this).symm
def uniq(hy:0<y)(hy':0<y')(h:Int.gcd x y=1)(h':Int.gcd x' y'=1)(e:x*y'=x'*y):x=x'/\y=y':=by
 have c1:Nat.Coprime y.natAbs x.natAbs:=by rw[Nat.coprime_comm];exact h
 have c2:Nat.Coprime y'.natAbs x'.natAbs:=by rw[Nat.coprime_comm];exact h'
 have e1:x.natAbs*y'.natAbs=x'.natAbs*y.natAbs:=by rw[<- Nb,<- Nb,e]
 have d1:y.natAbs ∣ y'.natAbs:=c1.dvd_of_dvd_mul_left (by rw[e1];exact Nat.dvd_mul_left _ _);have d2:y'.natAbs ∣ y.natAbs:=c2.dvd_of_dvd_mul_left (by rw[<- e1];exact Nat.dvd_mul_left _ _);have ey:y.natAbs=y'.natAbs:=Nat.dvd_antisymm d1 d2;have ey':y=y':=by omega
 subst ey';exact⟨Ow (by omega) e,rfl⟩
def same(hb:b≠0)(hd:d≠0)(e:a*d=c*b):T a b=T c d/\B a b=B c d:=by
 refine uniq (B_pos hb) (B_pos hd) (low hb) (low hd) ?_;have h1:=cross (a:=a) hb;have h2:=cross (a:=c) hd;have hbd:b*d≠0:=N8 hb hd;refine Ow hbd ?_
 calc T a b*B c d*(b*d)=(T a b*b)*(B c d*d):=by rw[Nh,Oi (B c d) b d,<- Nh]
  _=(a*B a b)*(B c d*d):=by rw[h1]
  _=(a*d)*(B c d*B a b):=by rw[Nh a,Nh a,Oi (B a b),Oi d,OD (B a b) d]
  _=(c*b)*(B c d*B a b):=by rw[e]
  _=(c*B c d)*(B a b*b):=by rw[Nh c,Nh c,Oi b,OD b (B a b)]
  _=(T c d*d)*(B a b*b):=by rw[<- h2]
  _=T c d*B a b*(b*d):=by rw[Nh,Nh,Oi d,OD d b]
def self(hb:0<b)(h:Int.gcd a b=1):T a b=a/\B a b=b:=
 uniq (B_pos (by omega)) hb (low (by omega)) h (cross (by omega))
def euc(m n:Nat):Nat.gcd n (m % n)=Nat.gcd m n:=by rw[Nat.gcd_comm,<- Nat.gcd_rec,Nat.gcd_comm]
end Fr
set_option maxHeartbeats 1000000
namespace L2
open PySem PySem.Spec PyProof.Rows
def Inv.turnedL{X:Cx}{pins:Pq}{σ:St}{H:Hp}{s:Shared}{h':Heap}{t':Nat}{ch:List Addr}(I:Inv X pins σ H s)(k:∀b o,b∉ch->s.heap.get? b=some o->h'.get? b=some o)(hf:∀b∈ch,FpOk X pins H b):Inv X pins σ H { s with heap:=h',toks:=t' }:=by
 have away:∀b u,H b=some u->b∉ch:=λb u e z=>by have:=(hf b z).1;rw[e] at this;cases this
 refine I.step (g':=s.gens) (d':=s.drawn) (ch:=ch) (λb hb=>⟨(hf b hb).2.2.2.1,(hf b hb).2.1,(hf b hb).2.2.2.2.1,(hf b hb).2.2.2.2.2⟩) (λb o _ _ hc e _=>k b o hc e) (λb o _ _ hc e _=>⟨o.slots,k b o hc e⟩) (λ_ _ _ _ n=>n)
  (λb o hc e=>⟨o,k b o hc e⟩) (λ_ _ e=>e) (λ_ _ _ e=>e) (λb ps e=>⟨#[],by rw[e];simp⟩) (λm hm=>?_) (λb u e=>?_) I.bare
 .obtain⟨o,es,ep,ho,r⟩:=hm;exact⟨o,es,ep,k _ o (λz=>(hf _ z).2.1 rfl) ho,r⟩
 .refine (I.hok b u e).stay (λc v hc q=>k c v ?_ q) (λ_ q=>q) λ_ _ q=>q;rcases hc with z |z
  .rw[z];exact away b u e
  .exact away c _ z
def FpOk.up(f:FpOk X pins H b)(hn:b≠p):FpOk X pins (upd H p o) b:=⟨by rw[az hn];exact f.1,f.2⟩
def xi(hj:s.heap.IsTupleIter j t n)(ht:s.heap.IsTuple t its)(hv:its[n]?=some v)
 (k:∀h',h'.IsTupleIter j t (n+1)->Heap.SameBut j s.heap h'->Q v { s with heap:=h' }):wpAny (model prog w) A (Builtin.SmallTypes.nextOf (.ref j)) Q E s:=by
 obtain⟨oj,ej,cj,dj⟩:=id hj;obtain⟨ot,et,_,m,dt⟩:=ht;unfold Builtin.SmallTypes.nextOf;refine o_ (ND (name:=Str.ofString "__next__") hj.typeIs NU (Ov NU hj.typeIs F.entry_tuple_iterator_next ?_ (F.args_tuple_iterator_next_1 _)));show wpAny _ _ (field (.ref j) 0 >>= _) _ _ s;refine o_ (M9 ej dj (x:=.ref t) rfl ?_);show wpAny _ _ (if (Value.ref t==Value.none)=true then _ else _) _ _ s;rw[if_neg (show ¬ ((Value.ref t==Value.none)=true) from y_)];show wpAny _ _ (field (.ref j) 1 >>= _) _ _ s;refine o_ (M9 ej dj (x:=.int n 0) rfl ?_);show wpAny _ _ (seqItems? (.ref t) >>= _) _ _ s;refine o_ (NJ et dt ?_);simp only[M3,hv];refine o_ (wpAny_setField ej dj (by simp) (B_ ⟨v,rfl,B_ (k _ ?_ (NF ..))⟩));exact⟨_,Heap.get?_update_self _ ej (Obj.isFreed_of_fields (Obj.data_mapFields dj _)),(Obj.cls_mapFields ..).trans cj,by rw[Obj.data_mapFields dj];simp [rawInt]⟩
def oa(hh:A.handled=none)(hj:s.heap.IsTupleIter j t n)(ht:s.heap.IsTuple t its)(hv:its[n]?=none)
 (k:∀h' e,Heap.ExtBut j s.heap h'->(∃o,h'.get? e=some o/\o.cls=.type "StopIteration")->E (.ref e) { s with heap:=h' }):wpAny (model prog w) A (Builtin.SmallTypes.nextOf (.ref j)) Q E s:=by
 obtain⟨oj,ej,cj,dj⟩:=id hj;obtain⟨ot,et,_,m,dt⟩:=ht;unfold Builtin.SmallTypes.nextOf;refine o_ (ND (name:=Str.ofString "__next__") hj.typeIs NU (Ov NU hj.typeIs F.entry_tuple_iterator_next ?_ (F.args_tuple_iterator_next_1 _)));show wpAny _ _ (field (.ref j) 0 >>= _) _ _ s;refine o_ (M9 ej dj (x:=.ref t) rfl ?_);show wpAny _ _ (if (Value.ref t==Value.none)=true then _ else _) _ _ s;rw[if_neg (show ¬ ((Value.ref t==Value.none)=true) from y_)];show wpAny _ _ (field (.ref j) 1 >>= _) _ _ s;refine o_ (M9 ej dj (x:=.int n 0) rfl ?_);show wpAny _ _ (seqItems? (.ref t) >>= _) _ _ s;refine o_ (NJ et dt ?_);simp only[M3,hv];refine o_ (wpAny_rule (o_ (wpAny_setField ej dj (by simp) ?_)));show wpAny _ _ (newExc (.type "StopIteration") [] >>= _) _ _ _;refine o_ ?_;simp only[newExc,newTuple];refine o_ (Nc ?_ (by size_fits));refine o_ (m:=firstArgMember _ _) (wpAny_of_eq (a:=Value.none) (by first |rfl |(simp only[firstArgMember];rfl)) ?_);refine Nc ?_ (by size_fits);simp only[raiseNew];refine o_ (wpAny_handled ?_);first |rw[show A.in1.handled=none from hh] |rw[hh]
 refine o_ (B_ (wpAny_throw ?_));exact k _ _ (((NF ..).extBut.push _).push _) ⟨_,G_ _ rfl,rfl⟩
def SqB(K:W.Frag)(b:Bool)(H:Hp)(a:Addr)(xs:List V):Prop:=match b with
 |true=>SqL K H a xs
 |false=>SqT K H a xs
def ItB(b:Bool)(h:Heap)(j a:Addr)(i:Nat):Prop:=match b with
 |true=>h.IsListIter j a i
 |false=>h.IsTupleIter j a i
def SqB.inj(I:Inv X pins σ H s)(x:SqB X.K b H a xs)(y:SqB X.K b H a ys):xs=ys:=by
 cases b with
 |true=>exact I.list_inj x y
 |false=>exact I.tuple_inj x y
def j7(z:ItB b h j a i):∃o,h.get? j=some o/\(∀v,o.data ≠ .cell v)/\o.cls=.type (if b then "list_iterator" else "tuple_iterator"):=by
 cases b with
 |true=>obtain⟨o,e,c,d⟩:=z;exact⟨o,e,(λv y=>by rw[d] at y;cases y),c⟩
 |false=>obtain⟨o,e,c,d⟩:=z;exact⟨o,e,(λv y=>by rw[d] at y;cases y),c⟩
def bF(z:ItB b h j a i)(k:∀o,h.get? j=some o->h'.get? j=some o):ItB b h' j a i:=by
 cases b with
 |true=>obtain⟨o,e,r⟩:=z;exact⟨o,k o e,r⟩
 |false=>obtain⟨o,e,r⟩:=z;exact⟨o,k o e,r⟩
def LsB(b:Bool)(h:Heap)(a:Addr)(its:Array Value):Prop:=match b with
 |true=>h.IsList a its
 |false=>h.IsTuple a its
def LsB.keep(z:LsB b h a its)(k:∀o,h.get? a=some o->h'.get? a=some o):LsB b h' a its:=by cases b <;> (obtain⟨o,e,r⟩:=z;exact⟨o,k o e,r⟩)
def wO(hj:ItB b s.heap j a n)(ht:LsB b s.heap a its)(hv:its[n]?=some v)
 (k:∀h',ItB b h' j a (n+1)->Heap.SameBut j s.heap h'->Q v { s with heap:=h' }):wpAny (model prog w) A (Builtin.SmallTypes.nextOf (.ref j)) Q E s:=by
 cases b with
 |true=>exact wpAny_nextOf_list_item hj ht hv k
 |false=>exact xi hj ht hv k
def o9(hh:A.handled=none)(hj:ItB b s.heap j a n)(ht:LsB b s.heap a its)(hv:its[n]?=none)
 (k:∀h' e,Heap.ExtBut j s.heap h'->(∃o,h'.get? e=some o/\o.cls=.type "StopIteration")->E (.ref e) { s with heap:=h' }):wpAny (model prog w) A (Builtin.SmallTypes.nextOf (.ref j)) Q E s:=by
 cases b with
 |true=>exact wpAny_nextOf_list_end hh hj ht hv k
 |false=>exact oa hh hj ht hv k
section
variable{prog:Program}{w:World}{A:Around}{E:Pu}{s:Shared}{b1 b2:Bool}{z p q j1 j2 a1 a2:Addr}{n:Nat}{xs ys:Array Value}{x y u v:Value}
def zipN{Q:Pu}(D:ZipApart z p q j1 j2 a1 a2)(hz:IsZip s.heap z p q .none)(hp:IsPair s.heap p (.ref j1) (.ref j2))(hq:IsPair s.heap q u v)
 (i1:ItB b1 s.heap j1 a1 n) (i2:ItB b2 s.heap j2 a2 n) (l1:LsB b1 s.heap a1 xs) (l2:LsB b2 s.heap a2 ys) (ex:xs[n]?=some x) (ey:ys[n]?=some y)
 (k:∀h',IsZip h' z p q (rawInt s.heap.objs.size)->IsPair h' q x y->ItB b1 h' j1 a1 (n+1)->ItB b2 h' j2 a2 (n+1)->IsPair h' s.heap.objs.size x y->(∀c o,c≠z->c≠q->c≠j1->c≠j2->s.heap.get? c=some o->h'.get? c=some o)->Q (.ref s.heap.objs.size) { s with heap:=h' }):
 wpAny (model prog w) A (Builtin.«zip.__next__» ⟨[.ref z],[]⟩) (λj_ s'=>∃v,j_=.done (.ret v)/\Q v s') E s:=by
 show wpAny _ _ (field (.ref z) 2 >>= _) _ _ _;refine o_ (M9 hz rfl (x:=.bool false) rfl ?_);show wpAny _ _ (field (.ref z) 3 >>= _) _ _ _;refine o_ (M9 hz rfl (x:=.ref p) rfl ?_);refine o_ (NJ hp rfl ?_);show wpAny _ _ (Builtin.SmallTypes.ownedTupleIsFree (.ref z) >>= _) _ _ _;refine o_ ?_;unfold Builtin.SmallTypes.ownedTupleIsFree;refine o_ (M9 hz rfl (x:=.none) rfl (B_ ?_));simp only[N2];refine o_ (wpAny_rule ?_);refine o_ (M9 hz rfl (x:=.ref q) rfl ?_);refine o_ (NO hz (by simp) λg1 (y1:IsZip g1 z p q .ellipsis) t1=>?_);refine o_ ?_;simp only[List.zipIdx_cons,List.zipIdx_nil,List.forIn_cons,List.forIn_nil];refine o_ (o_ (Po ?_));show wpAny _ _ (Builtin.SmallTypes.nextOf (.ref j1) >>= _) _ _ _;refine o_ (wO (bF i1 λo e=>t1.extBut _ _ D.i1z e) (l1.keep λo e=>t1.extBut _ _ D.l1z e) ex λg2 m1 t2=>B_ ?_);have q2:IsPair g2 q u v:=t2.extBut _ _ D.TOi1 (t1.extBut _ _ D.TOz hq);refine o_ (NJ q2 rfl ?_);refine o_ (Pb q2 λg3 (q3:IsPair g3 q x v) t3=>?_);refine o_ (wpAny_letGo (B_ ?_));refine o_ (o_ (Po ?_));show wpAny _ _ (Builtin.SmallTypes.nextOf (.ref j2) >>= _) _ _ _;refine o_ (wO (bF i2 λo e=>t3.extBut _ _ D.TOi2.symm (t2.extBut _ _ D.i12.symm (t1.extBut _ _ D.i2z e))) (l2.keep λo e=>t3.extBut _ _ D.l2TO (t2.extBut _ _ D.l2i1 (t1.extBut _ _ D.l2z e))) ey λg4 m2 t4=>B_ ?_);have q4:IsPair g4 q x v:=t4.extBut _ _ D.TOi2 q3;refine o_ (NJ q4 rfl ?_);refine o_ (Pb q4 λg5 (q5:IsPair g5 q x y) t5=>?_);refine o_ (wpAny_letGo (B_ (B_ ?_)));refine o_ (NJ q5 rfl ?_);refine o_ (wpAny_newTuple ?_);have sz:g5.objs.size=s.heap.objs.size:=by rw[t5.1,t4.1,t3.1,t2.1,t1.1]
 have y5:IsZip g5 z p q .ellipsis:=t5.extBut _ _ D.TOz.symm (t4.extBut _ _ D.i2z.symm (t3.extBut _ _ D.TOz.symm (t2.extBut _ _ D.i1z.symm y1)));have all5:∀c o,c≠z->c≠q->c≠j1->c≠j2->s.heap.get? c=some o->g5.get? c=some o:=λc o c1 c2 c3 c4 e=>t5.extBut _ _ c2 (t4.extBut _ _ c4 (t3.extBut _ _ c2 (t2.extBut _ _ c3 (t1.extBut _ _ c1 e))));have n1:ItB b1 g5 j1 a1 (n+1):=bF m1 λo e=>t5.extBut _ _ D.TOi1.symm (t4.extBut _ _ D.i12 (t3.extBut _ _ D.TOi1.symm e));have n2:ItB b2 g5 j2 a2 (n+1):=bF m2 λo e=>t5.extBut _ _ D.TOi2.symm e;have zl:z<g5.objs.size:=C_ y5;show wpAny _ _ (Builtin.SmallTypes.ownedTupleHandOut (.ref z) (.ref g5.objs.size) >>= _) _ _ _;refine o_ ?_;unfold Builtin.SmallTypes.ownedTupleHandOut;have y6:IsZip (g5.push { cls:=.type "tuple",data:=.seq #[x,y] }) z p q .ellipsis:=r_ _ y5;refine o_ (NO y6 (by simp) λg7 (y7:IsZip g7 z p q (rawInt g5.objs.size)) t7=>?_);refine NO y7 (by simp) λg8 (y8:IsZip g8 z p q (rawInt g5.objs.size)) t8=>?_;have up:∀c o,c≠z->g5.get? c=some o->g8.get? c=some o:=λc o c1 e=>t8.extBut _ _ c1 (t7.extBut _ _ c1 (r_ _ e));have w8:IsPair g8 g5.objs.size x y:=t8.extBut _ _ (Om zl) (t7.extBut _ _ (Om zl) (G_ _ rfl));rw[sz] at y8 w8;refine B_ ⟨_,rfl,?_⟩;show Q (.ref g5.objs.size) _;rw[sz];exact k g8 y8 (up _ _ D.TOz q5) (bF n1 λo e=>up _ o D.i1z e) (bF n2 λo e=>up _ o D.i2z e) w8 λc o c1 c2 c3 c4 e=>up c o c1 (all5 c o c1 c2 c3 c4 e)
def Cv(hh:A.handled=none)(D:ZipApart z p q j1 j2 a1 a2)(hz:IsZip s.heap z p q .none)(hp:IsPair s.heap p (.ref j1) (.ref j2))(hq:IsPair s.heap q u v)
 (i1:ItB b1 s.heap j1 a1 n) (i2:ItB b2 s.heap j2 a2 n) (l1:LsB b1 s.heap a1 xs) (l2:LsB b2 s.heap a2 ys) (en:xs[n]?=none\/ys[n]?=none)
 (k:∀h' e,(∀c o,c≠z->c≠q->c≠j1->c≠j2->s.heap.get? c=some o->h'.get? c=some o)->(∃o,h'.get? e=some o/\o.cls=.type "StopIteration")->E (.ref e) { s with heap:=h' }):wpAny (model prog w) A (Builtin.«zip.__next__» ⟨[.ref z],[]⟩) Q E s:=by
 show wpAny _ _ (field (.ref z) 2 >>= _) _ _ _;refine o_ (M9 hz rfl (x:=.bool false) rfl ?_);show wpAny _ _ (field (.ref z) 3 >>= _) _ _ _;refine o_ (M9 hz rfl (x:=.ref p) rfl ?_);refine o_ (NJ hp rfl ?_);show wpAny _ _ (Builtin.SmallTypes.ownedTupleIsFree (.ref z) >>= _) _ _ _;refine o_ ?_;unfold Builtin.SmallTypes.ownedTupleIsFree;refine o_ (M9 hz rfl (x:=.none) rfl (B_ ?_));simp only[N2];refine o_ (wpAny_rule ?_);refine o_ (M9 hz rfl (x:=.ref q) rfl ?_);refine o_ (NO hz (by simp) λg1 (y1:IsZip g1 z p q .ellipsis) t1=>?_);refine o_ ?_;simp only[List.zipIdx_cons,List.zipIdx_nil,List.forIn_cons,List.forIn_nil];refine o_ (o_ (Po ?_));show wpAny _ _ (Builtin.SmallTypes.nextOf (.ref j1) >>= _) _ _ _;cases ex:xs[n]? with
 |
  none=>
  refine o_ (o9 hh (bF i1 λo e=>t1.extBut _ _ D.i1z e) (l1.keep λo e=>t1.extBut _ _ D.l1z e) ex λg2 e t2 ⟨oe,he,ce⟩=>?_);have y2:IsZip g2 z p q .ellipsis:=t2 _ _ D.i1z.symm y1;have ez:e≠z:=λw=>by subst w;rw[y2] at he;cases he;simp at ce
  exact NO y2 (by simp) λg3 _ t3=>k g3 e (λc o c1 _ c3 _ w=>t3.extBut _ _ c1 (t2 _ _ c3 (t1.extBut _ _ c1 w))) ⟨oe,t3.extBut _ _ ez he,ce⟩
 |
  some x=>
  have ey:ys[n]?=none:=en.resolve_left λw=>by rw[ex] at w;cases w
  refine o_ (wO (bF i1 λo e=>t1.extBut _ _ D.i1z e) (l1.keep λo e=>t1.extBut _ _ D.l1z e) ex λg2 m1 t2=>B_ ?_);have q2:IsPair g2 q u v:=t2.extBut _ _ D.TOi1 (t1.extBut _ _ D.TOz hq);refine o_ (NJ q2 rfl ?_);refine o_ (Pb q2 λg3 q3 t3=>?_);refine o_ (wpAny_letGo (B_ ?_));refine o_ (o_ (Po ?_));show wpAny _ _ (Builtin.SmallTypes.nextOf (.ref j2) >>= _) _ _ _;refine o_ (o9 hh (bF i2 λo e=>t3.extBut _ _ D.TOi2.symm (t2.extBut _ _ D.i12.symm (t1.extBut _ _ D.i2z e))) (l2.keep λo e=>t3.extBut _ _ D.l2TO (t2.extBut _ _ D.l2i1 (t1.extBut _ _ D.l2z e))) ey λg4 e t4 ⟨oe,he,ce⟩=>?_);have y4:IsZip g4 z p q .ellipsis:=t4 _ _ D.i2z.symm (t3.extBut _ _ D.TOz.symm (t2.extBut _ _ D.i1z.symm y1));have ez:e≠z:=λw=>by subst w;rw[y4] at he;cases he;simp at ce
  exact NO y4 (by simp) λg5 _ t5=>k g5 e (λc o c1 c2 c3 c4 w=>t5.extBut _ _ c1 (t4 _ _ c4 (t3.extBut _ _ c2 (t2.extBut _ _ c3 (t1.extBut _ _ c1 w))))) ⟨oe,t5.extBut _ _ ez he,ce⟩
end
noncomputable def CZ (b:Bool):String:=if b then "list_iterator" else "tuple_iterator"
def vP(h:LsB b s.heap a its)(k:Q (.ref s.heap.objs.size) { s with heap:=s.heap.push { cls:=.type (CZ b),data:=.fields #[.ref a,.int 0 0] } }):wpAny (model prog w) A (pyIter (.ref a)) Q E s:=by
 cases b with
 |true=>exact wpAny_pyIter_list h k
 |false=>exact wpAny_pyIter_tuple h k
abbrev zp1(h:Heap)(b:Bool)(a:Addr):Heap:=h.push { cls:=.type (CZ b),data:=.fields #[.ref a,.int 0 0] }
abbrev zp2(h:Heap)(b c:Bool)(a d:Addr):Heap:=zp1 (zp1 h b a) c d
abbrev zp3(h:Heap)(b c:Bool)(a d:Addr):Heap:=(zp2 h b c a d).push { cls:=.type "tuple",data:=.seq #[.ref h.objs.size,.ref (zp1 h b a).objs.size] }
abbrev zp4(h:Heap)(b c:Bool)(a d:Addr):Heap:=(zp3 h b c a d).push { cls:=.type "tuple",data:=.seq #[.none,.none] }
abbrev zp5(h:Heap)(b c:Bool)(a d:Addr):Heap:=(zp4 h b c a d).push { cls:=.type "zip",data:=.fields #[.none,.bool false,.bool false,.ref (zp2 h b c a d).objs.size,.ref (zp3 h b c a d).objs.size] }
def CL(b c:Bool)(a d:Addr)(xs ys:Array Value):Meets (Builtin.«zip.__new__» ⟨[.type "zip",.ref a,.ref d],[]⟩) (λ_ R s=>LsB b s.heap a xs/\LsB c s.heap d ys/\R (.ok (.ret (.ref (zp4 s.heap b c a d).objs.size))) { s with heap:=zp5 s.heap b c a d }):=
 .of_wp λprog w A R s h=>by
  obtain⟨hp,g,dr,tk,os⟩:=s;obtain⟨la,ld,h⟩:=h;have n_:=sub_zip;have L1:LsB b (Shared.heap ⟨hp,g,dr,tk,os⟩) a xs:=la;have L2':LsB c (Shared.heap ⟨hp.push { cls:=.type (CZ b),data:=.fields #[.ref a,.int 0 0] },g,dr,tk,os⟩) d ys:=ld.keep λo e=>r_ _ e
  wp_walk using vP L1,vP L2'
  exact⟨_,rfl,h⟩
def zN(la:LsB b s.heap a xs)(ld:LsB c s.heap d ys)
 (k:∀h',IsZip h' (s.heap.objs.size+4) (s.heap.objs.size+2) (s.heap.objs.size+3) .none->IsPair h' (s.heap.objs.size+2) (.ref s.heap.objs.size) (.ref (s.heap.objs.size+1))->IsPair h' (s.heap.objs.size+3) .none .none->
  ItB b h' s.heap.objs.size a 0->ItB c h' (s.heap.objs.size+1) d 0->(∀c o,s.heap.get? c=some o->h'.get? c=some o)->Q (.ref (s.heap.objs.size+4)) { s with heap:=h' }):wpAny (model prog w) A (call (.type "zip") [.ref a,.ref d]) Q E s:=by
 refine callType_new F.called_zip (by decide) (F.typeCall_zip_2 _ _) (F.newCall_zip_2 _ _) (λobj=>F.args_object_init_3 obj _ _) F.entry_zip_new (CL b c a d xs ys) ⟨la,ld,?_⟩;have n1:(zp1 s.heap b a).objs.size=s.heap.objs.size+1:=OH ..;have n2:(zp2 s.heap b c a d).objs.size=s.heap.objs.size+2:=by rw[OH,n1]
 have n3:(zp3 s.heap b c a d).objs.size=s.heap.objs.size+3:=by rw[OH,n2]
 have n4:(zp4 s.heap b c a d).objs.size=s.heap.objs.size+4:=by rw[OH,n3]
 have up:=λ{h:Heap}{x:Addr}{o:Obj} (o':Obj) (e:h.get? x=some o)=>r_ o' e;have e5:(zp5 s.heap b c a d).get? (zp4 s.heap b c a d).objs.size=some _:=G_ _ rfl;have e4:(zp5 s.heap b c a d).get? (zp3 s.heap b c a d).objs.size=some _:=up _ (G_ _ rfl);have e3:(zp5 s.heap b c a d).get? (zp2 s.heap b c a d).objs.size=some _:=up _ (up _ (G_ _ rfl));have e2:(zp5 s.heap b c a d).get? (zp1 s.heap b a).objs.size=some _:=up _ (up _ (up _ (G_ _ rfl)));have e1:(zp5 s.heap b c a d).get? s.heap.objs.size=some _:=up _ (up _ (up _ (up _ (G_ _ rfl))));show _/\_;rw[n2,n3,n4] at e5;rw[n1,n2] at e3;rw[n3] at e4;rw[n1] at e2;rw[n4];have i1:ItB b (zp5 s.heap b c a d) s.heap.objs.size a 0:=by cases b <;> exact⟨_,e1,rfl,rfl⟩
 have i2:ItB c (zp5 s.heap b c a d) (s.heap.objs.size+1) d 0:=by cases c <;> exact⟨_,e2,rfl,rfl⟩
 exact⟨⟨_,e5,rfl⟩,k _ e5 e3 e4 i1 i2 λx o e=>up _ (up _ (up _ (up _ (up _ e))))⟩
noncomputable def ItZ (K:W.Frag) (b c:Bool) (a d:Addr):It:=
 ⟨λi H=>∃xs ys x y,SqB K b H a xs/\SqB K c H d ys/\xs[i]?=some x/\ys[i]?=some y,
  λi H x H'=>∃p u v,x=.ref p/\H p=none/\H'=upd H p (.tup [u,v])/\(∀xs,SqB K b H a xs->xs[i]?=some u)/\∀ys,SqB K c H d ys->ys[i]?=some v,
  λi H=>∃xs ys,SqB K b H a xs/\SqB K c H d ys/\(xs[i]?=none\/ys[i]?=none)⟩
def iP(I:Inv X pins σ H s)(hq:SqB X.K b H a xs):∃its:List Value,Vals xs its/\LsB b s.heap a its.toArray:=by
 cases b with
 |true=>obtain⟨its,rv,p,_⟩:=I.list hq;exact⟨its,rv,p.isList⟩
 |false=>obtain⟨its,rv,p,_⟩:=I.tuple hq;exact⟨its,rv,p⟩
def AO{P:Program}{w:World}{K:W.Frag}{elts:List Expr}{x1:Nat}{tp:Pos}(b c:Bool)(a d z p q j1 j2:Addr)(D:ZipApart z p q j1 j2 a d):
 Turn P w K (.Tuple elts x1 tp) (ItZ K b c a d) [z,p,q,j1,j2] z (λi h=>IsZip h z p q .none/\IsPair h p (.ref j1) (.ref j2)/\(∃u v,IsPair h q u v)/\ItB b h j1 a i/\ItB c h j2 d i) where
 mem:=by simp
 obj:=λi h st e he=>by
  obtain⟨s1,s2,⟨u,v,s3⟩,s4,s5⟩:=st;obtain⟨o4,k4,l4,_⟩:=j7 s4;obtain⟨o5,k5,l5,_⟩:=j7 s5;simp only[F_,Ou,or_false] at he;rcases he with rfl |rfl |rfl |rfl |rfl
  .exact⟨_,s1,λv y=>by cases y⟩
  .exact⟨_,s2,λv y=>by cases y⟩
  .exact⟨_,s3,λv y=>by cases y⟩
  .exact⟨o4,k4,l4⟩
  .exact⟨o5,k5,l5⟩
 keep:=λi h h' st k=>by obtain⟨s1,s2,⟨u,v,s3⟩,s4,s5⟩:=st;exact⟨k z (by simp) _ s1,k p (by simp) _ s2,⟨u,v,k q (by simp) _ s3⟩,bF s4 λo e=>k j1 (by simp) o e,bF s5 λo e=>k j2 (by simp) o e⟩
 item:=
  by
  intro X hP hw hK hc i pins s σ H E I hf st hg;subst hP hw hK;obtain⟨xs,ys,x,y,qx,qy,ex,ey⟩:=hg;obtain⟨s1,s2,⟨u,v,s3⟩,s4,s5⟩:=st;obtain⟨ix,rx,lx⟩:=iP I qx;obtain⟨iy,ry,ly⟩:=iP I qy;obtain⟨ux,hux,rux⟩:=rx.get ex;obtain⟨uy,huy,ruy⟩:=ry.get ey;have hTy:s.TypeIs (.ref z) "zip":=⟨_,s1,rfl⟩;have zl:=C_ s1;have pl:=C_ s2;have ql:=C_ s3;obtain⟨o4,k4,_,_⟩:=j7 s4;obtain⟨o5,k5,_,_⟩:=j7 s5;have j1l:=C_ k4;have j2l:=C_ k5;unfold pyNext;refine o_ (OQ (ND (name:=Str.ofString "__next__") hTy OY (Ov OY hTy F.entry_zip_next (zipN D s1 s2 s3 s4 s5 lx ly (by simpa using hux) (by simpa using huy) λh' y1 y3 y4 y5 yT hk=>B_ ?_) (F.args_zip_next_1 _))));refine⟨_,rfl,wpAny_letOwnedTupleGo_zip (s:={ s with heap:=h' }) y1 λh2 z2 sb=>?_⟩;have sb':Heap.SameBut z h' h2:=sb;have hT:H s.heap.objs.size=none:=I.hok.fresh (t_ _);have I1:Inv X pins σ (upd H s.heap.objs.size (.tup [x,y])) { s with heap:=s.heap.push { cls:=.type "tuple",data:=.seq #[ux,uy] },toks:=s.toks }:=
   I.laid (t':=s.toks) (λc o q=>r_ _ q) (t_ _) ⟨by show 2<=sizeLine;decide,[ux,uy],.cons rux (.cons ruy .nil),⟨_,G_ _ rfl,rfl,_,rfl⟩⟩
  have fp':∀e∈[z,p,q,j1,j2],FpOk X pins (upd H s.heap.objs.size (.tup [x,y])) e:=λe he=>by
   have:=hf e he
   simp only[F_,Ou,or_false] at he;rcases he with rfl |rfl |rfl |rfl |rfl
   .exact this.up (Ms zl)
   .exact this.up (Ms pl)
   .exact this.up (Ms ql)
   .exact this.up (Ms j1l)
   .exact this.up (Ms j2l)
  have I2:Inv X pins σ (upd H s.heap.objs.size (.tup [x,y])) { s with heap:=h2,toks:=s.toks }:=
   Inv.turnedL (s:={ s with heap:=s.heap.push { cls:=.type "tuple",data:=.seq #[ux,uy] },toks:=s.toks }) (ch:=[z,p,q,j1,j2]) (t':=s.toks) I1 (λe o he qe=>by
    have c1:e≠z:=λw=>he (by simp [w]);have c2:e≠q:=λw=>he (by simp [w]);have c3:e≠j1:=λw=>he (by simp [w]);have c4:e≠j2:=λw=>he (by simp [w]);rw[sb'.2 e c1];have q':(s.heap.push { cls:=.type "tuple",data:=.seq #[ux,uy] }).get? e=some o:=qe;by_cases w:e=s.heap.objs.size
    .subst w;rw[G_ _ rfl] at q';cases q';exact yT
    .rw[Heap.get?_push_ne _ _ _ w] at q';exact hk e o c1 c2 c3 c4 q') fp'
  refine⟨.ref s.heap.objs.size,_,I2,rfl,⟨_,x,y,rfl,hT,rfl,λzs hz=>by rw[SqB.inj I hz qx];exact ex,λzs hz=>by rw[SqB.inj I hz qy];exact ey⟩,⟨z2,?_,⟨ux,uy,?_⟩,bF y4 λo e=>(sb'.2 j1 D.i1z).trans e,bF y5 λo e=>(sb'.2 j2 D.i2z).trans e⟩,λe he=>(fp' e he).1⟩
  .exact (sb'.2 p D.TIz).trans (hk p _ D.TIz D.TITO D.TIi1 D.TIi2 s2)
  .exact (sb'.2 q D.TOz).trans y3
 done:=by
  intro X hP hw hK hc i pins s σ H E I hf st hg;subst hP hw hK;obtain⟨xs,ys,qx,qy,en⟩:=hg;obtain⟨s1,s2,⟨u,v,s3⟩,s4,s5⟩:=st;obtain⟨ix,rx,lx⟩:=iP I qx;obtain⟨iy,ry,ly⟩:=iP I qy;have hTy:s.TypeIs (.ref z) "zip":=⟨_,s1,rfl⟩;have en':ix.toArray[i]?=none\/iy.toArray[i]?=none:=by
   rcases en with e |e
   .left;rw[OB] at e;simp;rw[<- rx.length];exact e
   .right;rw[OB] at e;simp;rw[<- ry.length];exact e
  unfold pyNext;refine o_ (OQ (ND (name:=Str.ofString "__next__") hTy OY (Ov OY hTy F.entry_zip_next (Cv (I.ok.hd hc) D s1 s2 s3 s4 s5 lx ly en' λh' e hk ⟨o,ho,co⟩=>?_) (F.args_zip_next_1 _))));refine o_ (wpAny_isInstance (T:="StopIteration") (b:=true) ⟨o,ho,co⟩ isSubtype_stop (B_ ⟨rfl,?_⟩));exact Inv.turnedL (ch:=[z,p,q,j1,j2]) (t':=s.toks) I (λe o he qe=>hk e o (λw=>he (by simp [w])) (λw=>he (by simp [w])) (λw=>he (by simp [w])) (λw=>he (by simp [w])) qe) hf
 self:=λ_ _ _ _ _ st h=>wpAny_pyIter_zip st.1 h
def ym:bootBuiltins "zip"=some (.type "zip"):=by decide
def Jg(hg:Gl X "zip")(hm:X.mg "zip"=none)(ha:PA X [l,m] tl)(hs:starEach [l,m] X.env=[(false,eval l X.env),(false,eval m X.env)])(hs2:starEach [m] X.env=[(false,eval m X.env)]):
 PI X (.Tuple elts x1 tp) (.Call (.Name "zip" p) [l,m] [] pos) (λσ H R=>tl σ H λvs H1=>∃(b c:Bool) (a d:Addr) (xs ys:List V),vs=[.ref a,.ref d]/\SqB X.K b H1 a xs/\SqB X.K c H1 d ys/\R (ItZ X.K b c a d) H1):=by
 intro pins s σ H R I h;refine Call_ (cW I hg hm ym (MM (thn (ha pos pins s σ H _ I h) λus s1 zz=>exA zz λvs H1 I1 r1 q1=>?_) (by rw[hs,hs2]) (by rw[hs2];rfl)));obtain⟨b,c,a,d,xs,ys,e,qx,qy,q⟩:=q1;subst e;cases r1 with
 |
  cons r rr=>
  cases rr with
  |
   cons r' rr=>
   cases rr;cases r;cases r';obtain⟨ix,rx,lx⟩:=iP I1 qx;obtain⟨iy,ry,ly⟩:=iP I1 qy;have la:a<s1.heap.objs.size:=by cases b <;> (obtain⟨o,e,_⟩:=lx;exact C_ e)
   have ld:d<s1.heap.objs.size:=by cases c <;> (obtain⟨o,e,_⟩:=ly;exact C_ e)
   refine zN lx ly λh' y1 y2 y3 y4 y5 hk=>wpAny_pyIter_zip y1 ⟨s1.heap.objs.size+4,[s1.heap.objs.size+4,s1.heap.objs.size+2,s1.heap.objs.size+3,s1.heap.objs.size,s1.heap.objs.size+1],_,_,H1,rfl,I1.kept (t':=s1.toks) λc o z=>hk c o z,AO b c a d _ _ _ _ _ (W.ktu_apart _ _ _ la ld),⟨y1,y2,⟨_,_,y3⟩,y4,y5⟩,λe he=>?_,q⟩;have hge:s1.heap.objs.size<=e:=by
    simp only[F_,Ou,or_false] at he;rcases he with rfl |rfl |rfl |rfl |rfl
    .exact OT _ _
    .exact OT _ _
    .exact OT _ _
    .exact t_ _
    .exact OT _ _
   exact I1.fpOk hge (I1.hok.fresh hge)
inductive D where
 |non |bl (b:Bool) |int (i:Int) |str (x:Str) |ty (n:String) |glb (x:Str) |exc (x:Str) |tup (xs:List D) |ref (n:Nat) |kl (xs:List D)
 deriving Inhabited
inductive Ob where
 |lst (xs:List D) |fz (xs:List D) |set (xs:List Int) |dct (kvs:List (Key×D)) |any
 deriving Inhabited
abbrev AH:=List Ob
abbrev AE:=List (Option D)
inductive R(α:Type) where
 |ok (a:α) (h:AH) |exc (c:Str) (h:AH) |stuck
inductive SR where
 |nx (ae:AE) (h:AH) |rt (d:D) (h:AH) |bk (ae:AE) (h:AH) |ct (ae:AE) (h:AH) |exc (c:Str) (ae:AE) (h:AH) |stuck
abbrev ME:=AE->AH->R D
abbrev MT:=AE->AH->R Bool
abbrev MA:=AE->AH->R (List D)
abbrev MS:=AE->AH->SR
section
variable(K:W.Frag)(mg:Pp)
def fN(c:Addr)(q:Str):Heap->Prop:=λh=>h.CodeRec (.ref c) q
noncomputable def kJ:List Str:=["by_falling_weights", "least_around"]
def LamT(P:Addr)(q:Str):Prop:=∃(x:Str) (f:Addr) (oc:Value) (od:Option Addr) (fd:FuncData) (sl:Array (Option Value)) (c:Addr),x∈kJ/\(∀y∈kJ,y≠x->mg y=none)/\mg x=some (.ref f)/\K.lookup f=some ⟨oc,od,.func fd,sl⟩/\fd.code=.ref c/\W.codeHdIn K c P=true/\q=fd.qualname ++ ".<locals>." ++ "<lambda>"
def bmP(o:Obj):Prop:=o.cls=.type "module" /\ o.dict=some builtinsNs/\o.data=.plain
def tZ(H:Hp):Prop:=∃b o,mg "__builtins__"=some (.ref b)/\b≠builtinsNs/\b≠mainGlobals/\bmP o/\(K.lookup b=some o\/∃u,H b=some (.frz o u))
end
section
variable{X:Cx}{e:Expr}{es:List Expr}{st:Stmt}{sts:List Stmt}
def PE.imp(h:PE X e t)(k:∀σ H Q,t' σ H Q->t σ H Q):PE X e t':=λpins s σ H Q I w=>h pins s σ H Q I (k σ H Q w)
def PT.imp(h:PT X e t)(k:∀σ H Q,t' σ H Q->t σ H Q):PT X e t':=λpins s σ H Q I w=>h pins s σ H Q I (k σ H Q w)
def PW.imp(h:PW X e t)(k:∀σ H Q,t' σ H Q->t σ H Q):PW X e t':=λwh pins s σ H Q I w=>h wh pins s σ H Q I (k σ H Q w)
def PA.imp(h:PA X es t)(k:∀σ H Q,t' σ H Q->t σ H Q):PA X es t':=λpos pins s σ H Q I w=>h pos pins s σ H Q I (k σ H Q w)
def PS.imp(h:PS X st t)(k:∀D σ H,t' D σ H->t D σ H):PS X st t':=λpins s σ H D I w=>h pins s σ H D I (k D σ H w)
def PSs.imp(h:PSs X sts t)(k:∀D σ H,t' D σ H->t D σ H):PSs X sts t':=λpins s σ H D I w=>h pins s σ H D I (k D σ H w)
def PG.imp(h:PG X e t)(k:∀v σ H Q,t' v σ H Q->t v σ H Q):PG X e t':=λpins s σ H v u Q I r w=>h pins s σ H v u Q I r (k v σ H Q w)
def PGs.imp(h:PGs X es t)(k:∀v σ H Q,t' v σ H Q->t v σ H Q):PGs X es t':=λpins s σ H v u Q I r w=>h pins s σ H v u Q I r (k v σ H Q w)
def PO.imp(h:PO X o t)(k:∀σ H Q,t' σ H Q->t σ H Q):PO X o t':=λpins s σ H Q I w=>h pins s σ H Q I (k σ H Q w)
end
abbrev MG:=D->AE->AH->R AE
abbrev MGs:=List D->AE->AH->R AE
noncomputable def g2 (f:Int->Int->R D) (x y:D):R D:=match x,y with
 |.int i,.int j=>f i j
 |_,_=>.stuck
section
variable{K:W.Frag}{X:Cx}
def p9(K:W.Frag):R2:=λx y H Q=>∃a b ys,x=.ref a/\y=.ref b/\SqT K H a []/\SqT K H b ys/\Q (.ref b) H
def E9:OpR X (binaryOp .Add) (p9 X.K):=by
 intro pins s σ H x y v u Q I rx ry h;obtain⟨a,b,ys,rfl,rfl,ha,hb,q⟩:=h;cases rx;cases ry;obtain⟨its,r1,p1,_⟩:=I.tuple ha;obtain⟨its2,r2,p2,_⟩:=I.tuple hb;have e:its=[]:=r1.nil_iff.mpr rfl;subst e;obtain⟨⟨cls,dd,data,sl⟩,ho,hc,n,hd⟩:=id p1;obtain⟨⟨cls2,dd2,data2,sl2⟩,ho2,hc2,n2,hd2⟩:=id p2;simp only at hc hd hc2 hd2;subst hc hd hc2 hd2;exact concat_meets ⟨_,ho,rfl⟩ ⟨_,ho2,rfl⟩ noFill_tuple_add seq_tuple_add ON OJ (OG _ _)
  (tuple_addW0 _ _ _ _ n n2 dd dd2 sl sl2 rfl) ⟨ho,ho2,⟨.ref b,H,I,rfl,q⟩⟩
def ixK(h:X.K=K):IxR X (λx y H Q=>wU K x y H Q\/xM K x y H Q):=by subst h;exact F3.or HG
def catK(h:X.K=K):OpR X (binaryOp .Add) (λx y H Q=>xI x y H Q\/(qL K x y H Q\/p9 K x y H Q)):=by subst h;exact GP.or (Fl.or E9)
end
inductive AIt where
 |lst (n:Nat) (xs:List D) |tup (xs:List D) |rng (lo:Int) (k:Nat) |rgd (lo:Int) (k:Nat) |txt (x:Str) |enm (s:AIt) |zip (s t:AIt)
abbrev MI:=AE->AH->R AIt
section
variable{K:W.Frag}{X:Cx}{tg iter e a b:Expr}{I:MI}
def PI.imp(h:PI X tg iter t)(k:∀σ H Q,t' σ H Q->t σ H Q):PI X tg iter t':=λpins s σ H Q I w=>h pins s σ H Q I (k σ H Q w)
def Jw(hl:PE X l tl):PI X tg l (λσ H R=>tl σ H λx H1=>(∃a,x=.ref a/\(∃xs,SqL X.K H1 a xs)/\R (Itl X.K a) H1)\/(∃a,x=.ref a/\(∃xs,SqT X.K H1 a xs)/\R (Itt X.K a) H1)):=by
 intro pins s σ H R I h;refine thn (hl pins s σ H _ I h) λv s1 zz=>exA zz λx H1 I1 r1 q1=>?_;rcases q1 with ⟨a,e,⟨xs,hq⟩,q⟩ |⟨a,e,⟨xs,hq⟩,q⟩
 .subst e;cases r1;obtain⟨its,rv,p,hz⟩:=I1.list hq;refine wpAny_pyIter_list p.isList ?_;refine⟨s1.heap.objs.size,[s1.heap.objs.size],_,_,H1,rfl,I1.kept (t':=s1.toks) λb o e=>r_ _ e,Ao a _,⟨_,G_ _ rfl,rfl,rfl⟩,λb hb=>?_,q⟩;have e:b=s1.heap.objs.size:=by simpa using hb
  subst e;exact I1.fpOk (t_ _) (I1.hok.fresh (t_ _))
 .subst e;cases r1;obtain⟨its,rv,p,hz⟩:=I1.tuple hq;refine wpAny_pyIter_tuple (show s1.heap.IsTuple a its.toArray from p) ?_;refine⟨s1.heap.objs.size,[s1.heap.objs.size],_,_,H1,rfl,I1.kept (t':=s1.toks) λb o e=>r_ _ e,wX a _,⟨_,G_ _ rfl,rfl,rfl⟩,λb hb=>?_,q⟩;have e:b=s1.heap.objs.size:=by simpa using hb
  subst e;exact I1.fpOk (t_ _) (I1.hok.fresh (t_ _))
end
section
variable{K:W.Frag}{X:Cx}
def KP(h:X.K=K):CallR X (.builtin "len") (λxs H Q=>(∃p ys,xs=[.ref p]/\(SqL K H p ys\/SqT K H p ys)/\Q (.int ys.length) H)\/(∃z,xs=[.str z]/\z.length<=sizeLine/\Q (.int z.length) H)):=by subst h;exact qQ.or sQ
def uU(h:X.K=K):CallR X (.type "tuple") (λxs H Q=>∃p ys,xs=[.ref p]/\((SqL K H p ys/\∀l,H l=none->Q (.ref l) (upd H l (.tup ys)))\/(SqT K H p ys/\Q (.ref p) H))):=by subst h;exact pV
end
inductive Cl where
 |b (n:String) |o (x:Str)
 deriving DecidableEq
def ClV(mg:Pp):Cl->Value->Prop
 |.b n,v=>v=.type n
 |.o x,v=>∃a,v=.ref a/\mg x=some (.ref a)
abbrev jd:=List (Cl×Cl×Bool)
structure KitsOk(K:W.Frag)(mg:Pp)(kt:jd):Prop where
 one:∀p∈kt,∀t v,ClV mg p.1 t->ClV mg p.2.1 v->W.kitOne K t v=some p.2.2
 xc:∀p∈kt,∀x C,p.1=.o x->mg x=some (.ref C)->XCls K C
noncomputable def kit (kt:jd) (t c:Cl):Option Bool:=(kt.find? λp=>decide (p.1=t)&&decide (p.2.1=c)).map (·.2.2)
noncomputable def gy (kt:jd) (t:Cl):List Cl->Option Bool
 | []=>some false
 |c::r=>match kit kt t c with
  |some true=>some true
  |some false=>gy kt t r
  |none=>none
def nH(e:kit kt t c=some b):(t,c,b)∈kt:=by
 unfold kit at e;cases q:kt.find? (λp=>decide (p.1=t)&&decide (p.2.1=c)) with
 |none=>rw[q] at e;cases e
 |some p=>rw[q] at e;have h1:=List.find?_some q;have h2:=List.mem_of_find?_eq_some q;simp only[w_,NV] at h1;obtain⟨p1,p2,p3⟩:=p;have e3:p3=b:=J_ e;obtain⟨rfl,rfl⟩:=h1;subst e3;exact h2
section
variable{K:W.Frag}{mg:Pp}{X:Cx}{H:Hp}{h:AH}
def yb(ok:KitsOk K mg kt)(ht:ClV mg t tv):∀{cs:List Cl}{cvs:List Value}{b:Bool},Paired (ClV mg) cs cvs->gy kt t cs=some b->W.kitAny K tv cvs=some b:=by
 intro cs;induction cs with
 |nil=>intro cvs b r e;cases r;cases e;rfl
 |
  cons c cs ih=>
  intro cvs b r e;cases r with
  |
   cons r rr=>
   unfold gy at e;unfold W.kitAny;cases q:kit kt t c with
   |none=>rw[q] at e;cases e
   |
    some z=>
    rw[q] at e;rw[ok.one _ (nH q) _ _ ht r];cases z with
    |true=>exact e
    |false=>exact ih rr e
def zD:CallR X (.builtin "isinstance") (λxs H Q=>∃x tp cs t vs b,xs=[x,.ref tp]/\SqT X.K H tp cs/\TyX X.K H x t/\cs.mapM fT=some vs/\W.kitAny X.K t vs=some b/\Q (.bl b) H):=by intro pins s σ H xs us Q I r h;obtain⟨x,tp,cs,t,vs,b,rfl,ht,ty,hc,hk,q⟩:=h;obtain⟨u,w',rfl,rx,rc⟩:=mQ r;cases rc;obtain⟨its,rv,⟨o,e,c,n,d⟩,_⟩:=I.tuple ht;obtain rfl:=pb hc rv;obtain⟨Hh,Z,p,hne⟩:=uX I rx ty;obtain⟨oc,od,odt,osl⟩:=o;have c':oc=.type "tuple":=c;have d':odt=.seq its.toArray n:=d;subst c' d';exact W.kia_tup Z I.kIn p e hk hne λtk=>⟨.bl b,H,I.tok _,rfl,q⟩
def Kq(hK:X.K=K):CallR X (.builtin "isinstance") (λxs H Q=>(∃x c t v b,xs=[x,c]/\TyX K H x t/\fT c=some v/\W.kitOne K t v=some b/\Q (.bl b) H)\/
 (∃x tp cs t vs b,xs=[x,.ref tp]/\SqT K H tp cs/\TyX K H x t/\cs.mapM fT=some vs/\W.kitAny K t vs=some b/\Q (.bl b) H)):=by subst hK;exact Bi.or zD
end
section
variable{K:W.Frag}{X:Cx}{H:Hp}{h:AH}
inductive EqsR(K:W.Frag)(H:Hp)(y:V)(pd:PyData):List V->List Bool->Prop where
 |nil:EqsR K H y pd [] []
 |cons {x:V}{px:PyData}{xs:List V}{bs:List Bool} (rx:Rep K H x px) (hx:shp px=true) (r:EqsR K H y pd xs bs):EqsR K H y pd (x::xs) (PyData.eqv px pd::bs)
def rEqs(K:W.Frag)(H:Hp)(l:Addr)(y:V)(bs:List Bool):Prop:=∃xs pd,SqL K H l xs/\Rep K H y pd/\shp pd=true/\EqsR K H y pd xs bs
def Bq(I:Inv X pins σ H s)(hu:X.A.units+190<cLine)(ry:Rep X.K H y pd)(rv:RelV y v)(hy:shp pd=true):∃e:Value->Bool,∀{xs:List V}{bs:List Bool}{its:List Value},EqsR X.K H y pd xs bs->Vals xs its->its.map e=bs/\∀u∈its,SeqAt.EqAt X.A.in1 s u v (e u):=by
 classical
 obtain⟨as,q1⟩:=ry.reads I rv;refine⟨λu=>if q:∃d as,Reads s.heap u d as/\shp d=true then PyData.eqv q.choose pd else false,λ{xs bs its} r rr=>?_⟩;induction r generalizing its with
 |nil=>cases rr;exact⟨rfl,λu hu=>nomatch hu⟩
 |
  cons rx hx r ih=>
  rename_i x px xs bs;cases rr with
  |
   cons r1 rr=>
   rename_i u us;obtain⟨ih1,ih2⟩:=ih rr;obtain⟨as1,q2⟩:=rx.reads I r1;have hq:∃d as,Reads s.heap u d as/\shp d=true:=⟨px,as1,q2,hx⟩;have e1:(if q:∃d as,Reads s.heap u d as/\shp d=true then PyData.eqv q.choose pd else false)=PyData.eqv px pd:=by
    rw[dif_pos hq];obtain⟨as2,q3,hs3⟩:=hq.choose_spec
    have:=SeqAt.Reads.unique px hq.choose u _ _ (fR hx) q2 q3
    rw[<- this]
   refine⟨by rw[x_,ih1,e1],λw hw=>?_⟩;rcases F_.mp hw with rfl |hw
   .dsimp only;rw[e1];exact SeqAt.eqAt_reads px pd X.A.in1 s _ _ _ _ q2 q1 (fR hx) (fR hy) (lF hx (by have:X.A.in1.units=X.A.units+1:=rfl;rw[this];omega))
   .exact ih2 w hw
def oD(K:W.Frag):V->List V->Hp->VK->Prop:=λx vs H Q=>∃l y bs,x=.ref l/\vs=[y]/\rEqs K H l y bs/\bs.idxOf true<bs.length/\Q (.int (bs.idxOf true:Nat)) H
def EqsR.len(r:EqsR K H y pd xs bs):xs.length=bs.length:=by
 induction r with
 |nil=>rfl
 |cons _ _ _ ih=>rw[D_,D_,ih]
def Cs(hu:X.A.units+190<cLine):MtM X "list.index" (oD X.K):=by
 intro pins s σ H x vs v us Q I rx rv h;obtain⟨l,y,bs,rfl,rfl,⟨xs,pd,hq,ry,hy,re⟩,hi,q⟩:=h;cases rx;obtain⟨u,rfl,ru⟩:=rv.one;obtain⟨e,he⟩:=Bq I hu ry ru hy;obtain⟨its,r,⟨o,n,eo,hc,hd,hs⟩,hz⟩:=I.list hq;obtain⟨m1,m2⟩:=he re r;have a_:=r.length;have hbl:=re.len;have hn:=gF;have hj:bs.idxOf true<its.toArray.size:=by rw[z_];omega
 have eo':s.heap.get? l=some { cls:=.type "list",dict:=o.dict,data:=.seq its.toArray n,slots:=o.slots }:=by rw[eo];obtain⟨oc,od,odt,osl⟩:=o;have h1:oc=.type "list":=hc;have h2:odt=.seq its.toArray n:=hs;subst h1 h2;rfl
 have em:∀(m:Nat) (hm:m<its.toArray.size),bs[m]?=some (e its.toArray[m]):=λm hm=>by
  rw[<- m1,L_];have:its[m]?=some its.toArray[m]:=by rw[v_ (by simpa using hm)];rfl
  rw[this];rfl
 refine O6 PySem.F.slot_list_index ⟨_,eo',rfl⟩ PySem.F.entry_list_index (PySem.F.args_list_index_2 _ _)
  (SeqAt.list_indexAt l its.toArray n o.dict o.slots u e (bs.idxOf true) hj (by omega) ?_ ?_) ⟨eo',λw hw=>m2 w (by simpa using hw),?_⟩
 .have:=em _ hj
  rw[v_ hi,List.getElem_idxOf] at this;exact (J_ this).symm
 .intro m
   hm hlt
  have:=em m hm
  have hb:m<bs.length:=by omega
  rw[v_ hb] at this;have h3
   : bs[m]≠true:=λz=>by
   have h4:bs.idxOf true<=m:=by
    have:=OF (l:=bs) (a:=true)
    rcases Nat.lt_or_ge m (bs.idxOf true) with z' |z'
    .exact absurd z (by have h5:=List.not_of_lt_findIdx (xs:=bs) (p:=(· == true)) (i:=m) z';simpa using h5)
    .exact z'
   omega
  have h4:e its.toArray[m]=bs[m]:=(J_ this).symm;rw[h4];exact Bool.eq_false_iff.mpr h3
 .exact⟨.int _,H,I.tok _,⟨_,rfl⟩,q⟩
def IQ(h:X.K=K)(hu:X.A.units+190<cLine):MtM X "list.index" (oD K):=by subst h;exact Cs hu
def Room.u100(r:Room k A):A.units+190<cLine:=by have:=r.un;omega
end
abbrev MO:=AE->AH->R (Option Int)
section
variable{K:W.Frag}{X:Cx}{F:ME}{lo hi:Option Expr}
def BL:V->Option Int->Option Int->Hp->VK->Prop:=λx lo hi H Q=>∃z,x=.str z/\z.length<=16777216/\Q (.str (Txt.slice z lo hi)) H
def Ik:SlR X BL:=by
 intro pins s σ H x v vl vu lo hi sl Q I rx hs pl pu h;obtain⟨z,rfl,hz,q⟩:=h;obtain⟨t,rfl⟩:=rx;refine⟨"str",_,PySem.F.slot_str_getitem.lookup,typeIs_str _ _ _,?_⟩;have key:∀t' k,EP X pins σ Q (.str (Txt.slice z lo hi) t') { s with toks:=k }:=λt' k=>⟨.str (Txt.slice z lo hi),H,I.tok _,⟨_,rfl⟩,q⟩;cases pl <;> cases pu
 .exact N5 (l:=none) (u:=none) (st:=none) hs rfl (O9 ⟨My (Txt.slice_le z _ _) hz,λt' k=>key t' k⟩)
 .exact N5 (l:=none) (u:=some (_,_)) (st:=none) hs rfl (O9 ⟨My (Txt.slice_le z _ _) hz,λt' k=>key t' k⟩)
 .exact N5 (l:=some (_,_)) (u:=none) (st:=none) hs rfl (O9 ⟨My (Txt.slice_le z _ _) hz,λt' k=>key t' k⟩)
 .exact N5 (l:=some (_,_)) (u:=some (_,_)) (st:=none) hs rfl (O9 ⟨My (Txt.slice_le z _ _) hz,λt' k=>key t' k⟩)
def slK(h:X.K=K):SlR X (λx lo hi H Q=>(A5 K x lo hi H Q\/CN K x lo hi H Q)\/BL x lo hi H Q):=by subst h;exact (EE.or G0).or Ik
end
def CMulA(i j:Int):Prop:=Dn i j\/CMul i j
section
variable{K:W.Frag}{X:Cx}
def Ac(h:X.K=K):OpR X (binaryOp .Add) (λx y H Q=>rI0 (λi j=>.int (i+j)) x y H Q\/(xI x y H Q\/(qL K x y H Q\/p9 K x y H Q))):=Hq.or (catK h)
def IW:OpR X (binaryOp .Mult) (rI CMulA λi j=>.int (i*j)):=by
 intro pins s σ H x y v u Q I rx ry h;obtain⟨i,j,e1,e2,hc,q⟩:=h;rcases hc with hc |hc
 .exact FJ pins s σ H x y v u Q I rx ry ⟨i,j,e1,e2,hc,q⟩
 .exact JN pins s σ H x y v u Q I rx ry ⟨i,j,e1,e2,hc,q⟩
end
def gU(h1:pd.canLay0=true)(h2:pd.depth<=160):shp pd=true:=by unfold shp;rw[h1,I_ h2];rfl
def Sm(n:Nat)(x:Int):Prop:=x.natAbs<2^n
def Sm.mono(h:Sm n x)(l:n<=m):Sm m x:=K_ h (MN (by omega) l)
def Sm.mul(h:Sm n x)(k:Sm m y):Sm (n+m) (x*y):=by unfold Sm at *;rw[Nb,NK];exact Nat.mul_lt_mul'' h k
def Sm.bits(h:Sm n x):Builtin.Int.intBits x<=n:=intBits_le_iff.mpr h
def Sm.of_le(h:Sm n y)(l:x.natAbs<=y.natAbs):Sm n x:=Nu l h
def CMulA.of(h:Sm n x)(k:Sm m y)(hn:n<=100000)(hm:m<=100000):CMulA x y:=.inl ⟨My h.bits hn,My k.bits hm⟩
def CMulA.left(h:-(2^64)<x)(k:x<2^64):CMulA x y:=.inr (.inl ⟨h,k⟩)
def CMulA.right(h:-(2^64)<y)(k:y<2^64):CMulA x y:=.inr (.inr ⟨h,k⟩)
def CDivB.of(h0:y≠0)(h:Sm 8000 y):CDivB x y:=⟨h0,h.bits⟩
structure Sz(n:Nat)(q:Rat):Prop where
 top:Sm n q.num
 bot:Sm n (q.den:Int)
def Sz.mono(h:Sz n q)(l:n<=m):Sz m q:=⟨h.top.mono l,h.bot.mono l⟩
def y9{a b:Int}(hb:b≠0):((a:Rat)/(b:Rat)).num*b=a*((a:Rat)/(b:Rat)).den:=by
 have h2:=Rat.num_divInt_den ((a:Rat)/(b:Rat));have h3:Rat.divInt ((a:Rat)/(b:Rat)).num (((a:Rat)/(b:Rat)).den:Int)=Rat.divInt a b:=by rw[h2,Rat.divInt_eq_div]
 exact (Rat.divInt_eq_divInt_iff (by have:=((a:Rat)/(b:Rat)).den_nz;omega) hb).mp h3
def vY(q:Rat):Int.gcd q.num q.den=1:=by
 have:=q.reduced
 exact this
def ma(hb:b≠0):Fr.T a b=((a:Rat)/(b:Rat)).num/\Fr.B a b=(((a:Rat)/(b:Rat)).den:Int):=by
 refine Fr.uniq (Fr.B_pos hb) (by have:=((a:Rat)/(b:Rat)).den_pos;omega) (Fr.low hb) (vY _) ?_;have h1:=Fr.cross (a:=a) hb;have h2:=y9 (a:=a) hb;generalize ((a:Rat)/(b:Rat)).num=n at *;generalize (((a:Rat)/(b:Rat)).den:Int)=d at *;generalize Fr.T a b=x at *;generalize Fr.B a b=y at *;have h3:(x*d)*b=(n*y)*b:=by
  calc x*d*b=(x*b)*d:=by rw[OE]
   _=a*y*d:=by rw[h1]
   _=(a*d)*y:=by rw[OE]
   _=n*b*y:=by rw[h2]
   _=n*y*b:=by rw[OE]
 exact Ow hb h3
def wF{a b:Int}(hb:b≠0):((a:Rat)/(b:Rat)).num.natAbs<=a.natAbs:=by
 have h:=(ma (a:=a) hb).1;rw[<- h];have h1:=Fr.T_mul (a:=a) hb;have h2:=Fr.dv_ne (a:=a) hb;have h3:(Fr.T a b).natAbs*(Fr.dv a b).natAbs=a.natAbs:=by rw[<- Nb,h1]
 have h4:1<=(Fr.dv a b).natAbs:=by omega
 calc (Fr.T a b).natAbs=(Fr.T a b).natAbs*1:=by omega
  _<=(Fr.T a b).natAbs*(Fr.dv a b).natAbs:=Nl _ h4
  _=a.natAbs:=h3
def xA{a b:Int}(hb:b≠0):((((a:Rat)/(b:Rat)).den:Int)).natAbs<=b.natAbs:=by
 have h:=(ma (a:=a) hb).2;rw[<- h];have h1:=Fr.B_mul (a:=a) hb;have h2:=Fr.dv_ne (a:=a) hb;have h3:(Fr.B a b).natAbs*(Fr.dv a b).natAbs=b.natAbs:=by rw[<- Nb,h1]
 have h4:1<=(Fr.dv a b).natAbs:=by omega
 calc (Fr.B a b).natAbs=(Fr.B a b).natAbs*1:=by omega
  _<=(Fr.B a b).natAbs*(Fr.dv a b).natAbs:=Nl _ h4
  _=b.natAbs:=h3
def Sz.div(hb:b≠0)(ha:Sm n a)(hb':Sm m b)(k:Nat)(h1:n<=k)(h2:m<=k):Sz k ((a:Rat)/(b:Rat)):=
 ⟨(ha.of_le (wF hb)).mono h1,(hb'.of_le (xA hb)).mono h2⟩
def cL(q:Rat):(q.den:Int)≠0:=by have:=q.den_nz;omega
def eC(q:Rat):q=(q.num:Rat)/((q.den:Int):Rat):=by
 have:=Rat.num_divInt_den q
 rw[Rat.divInt_eq_div] at this;exact this.symm
def gB{b:Int}(h:b≠0):(b:Rat)≠0:=by intro z;exact h (by exact_mod_cast z)
def E8(p q:Rat):p+q=((p.num*q.den+q.num*p.den:Int):Rat)/((p.den*q.den:Int):Rat):=by
 have h1:=gB (cL p);have h2:=gB (cL q)
 conv=>lhs;rw[eC p,eC q]
 simp only[Rat.intCast_add,M8];grind
def vO(p q:Rat):p*q=((p.num*q.num:Int):Rat)/((p.den*q.den:Int):Rat):=by
 have h1:=gB (cL p);have h2:=gB (cL q)
 conv=>lhs;rw[eC p,eC q]
 simp only[M8];grind
def Sz.mul(hp:Sz n p)(hq:Sz m q):Sz (n+m) (p*q):=by rw[vO];exact Sz.div (by have:=cL p;have:=cL q;exact N8 ‹_› ‹_›) (hp.top.mul hq.top) (hp.bot.mul hq.bot) _ (by omega) (by omega)
def iQ{q:Rat}:0<q.num ↔ 0<q:=by
 have h1:=Rat.num_nonneg (q:=q);have h2:=O5 (q:=q);constructor
 .intro h;refine Rat.lt_of_le_of_ne (h1.mp (by omega)) λz=>?_
  have:=h2.mpr z.symm
  omega
 .intro h;have h3:=h1.mpr (NM h);have h4:q.num≠0:=λz=>(Rat.ne_of_lt h) (h2.mp z).symm;omega
def uj(p q:Rat):p<q ↔ p.num*q.den<q.num*p.den:=Rat.lt_iff p q
def BE{P:Program}{w:World}{H:Hp}(h:Heap)(hb:sysModules<h.objs.size):ObjOk P w H (h.push { cls:=.type "dict",data:=.dict #[] }) h.objs.size (.dK []):=
 ⟨MV _,H_.mpr (Ne.symm (Ms hb)),[],.nil,Heap.DictOf.new h⟩
def Inv.big{X:Cx}{pins:Pq}{σ:St}{H:Hp}{s:Shared}(I:Inv X pins σ H s):sysModules<s.heap.objs.size:=by have h:mainGlobals<s.heap.objs.size:=(I.mod.glob.keeps I.bk).lt;exact O2 (by decide) h
def GW:TE:=λ_ H Q=>∀p,H p=none->Q (.ref p) (upd H p (.dK []))
section
variable{X:Cx}{pos:Pos}
def Bt:PE X (.Dict [] [] pos) GW:=λpins s σ H Q I h=>
 wpAny_Dict_empty ⟨.ref s.heap.objs.size,_,I.laid (a:=s.heap.objs.size) (o:=.dK []) (t':=s.toks) (λ_ _ q=>r_ _ q) (t_ _) (BE s.heap I.big),rfl,h _ (I.hok.fresh (t_ _))⟩
end
variable{K:W.Frag}{mg:Pp}
section
variable{κ:Type}[DecidableEq κ]
noncomputable def gJ (kvs:List (κ×V)) (k:κ):Option V:=(kvs.find? λkv=>decide (kv.1=k)).map (·.2)
noncomputable def gK (kvs:List (κ×V)) (k:κ) (v:V):List (κ×V):=
 if (kvs.any λkv=>decide (kv.1=k))=true then kvs.map (λkv=>if kv.1=k then (kv.1,v) else kv) else kvs++[(k,v)]
def kP{p:κ×V}{r:List (κ×V)}{k:κ}(e:p.1=k):gJ (p::r) k=some p.2:=by simp [gJ,M6,e]
def kQ{p:κ×V}{r:List (κ×V)}{k:κ}(e:¬ p.1=k):gJ (p::r) k=gJ r k:=by simp [gJ,M6,e]
theorem sW(k:κ):∀kvs:List (κ×V),(kvs.any λkv=>decide (kv.1=k))=(gJ kvs k).isSome
 | []=>rfl
 |
  p::r=>by
  rw[Ni];by_cases e:p.1=k
  .simp only[kP e,I_ e,Bool.true_or,Option.isSome_some]
  .rw[kQ e,E_ e,Bool.false_or];exact sW k r
def kr(kvs:List (κ×V))(k:κ)(v:V):(gK kvs k v).length<=kvs.length+1:=by
 unfold gK;split
 .rw[p_];omega
 .rw[Em,D_,Mr];omega
def RelO.isSome_eq(r:RelO o u):o.isSome=u.isSome:=by
 cases o with
 |none=>cases u with
  |none=>rfl
  |some _=>exact (show False from r).elim
 |some _=>cases u with
  |none=>exact (show False from r).elim
  |some _=>rfl
def KV.val(r:KV kvs vs)(k:κ):RelO (gJ kvs k) (valueAt vs k):=by
 unfold KV at r;induction r with
 |nil=>exact True.intro
 |
  @cons p q ps qs h t ih=>
  obtain⟨h1,h2⟩:=h;by_cases e:p.1=k
  .have e':q.1=k:=h1.symm.trans e;have b:valueAt (q::qs) k=some q.2:=by simp [valueAt,M6,e']
   rw[kP e,b];exact h2
  .have e':¬ q.1=k:=λz=>e (h1.trans z);have b:valueAt (q::qs) k=valueAt qs k:=by simp [valueAt,M6,e']
   rw[kQ e,b];exact ih
def KV.any(r:KV kvs vs)(k:κ):(kvs.any λkv=>decide (kv.1=k))=vs.any λkv=>decide (kv.1=k):=by
 unfold KV at r;induction r with
 |nil=>rfl
 |cons h t ih=>rw[Ni,Ni,ih,h.1]
def KV.repl(r:KV kvs vs)(k:κ)(ry:RelV y u):
 KV (kvs.map λkv=>if kv.1=k then (kv.1,y) else kv) (vs.map λkv=>if kv.1=k then (kv.1,u) else kv):=by
 unfold KV at r ⊢;induction r with
 |nil=>exact .nil
 |
  @cons p q ps qs h t ih=>
  rw[x_,x_];refine .cons ?_ ih;obtain⟨h1,h2⟩:=h;by_cases e:p.1=k
  .rw[if_pos e,if_pos (h1.symm.trans e)];exact⟨h1,ry⟩
  .rw[if_neg e,if_neg (λz=>e (h1.trans z))];exact⟨h1,h2⟩
def KV.put(r:KV kvs vs)(k:κ)(ry:RelV y u):KV (gK kvs k y) (stored vs k u):=by
 unfold gK stored;rw[r.any k];by_cases e:(vs.any λkv=>decide (kv.1=k))=true
 .rw[if_pos e,if_pos e];exact r.repl k ry
 .rw[if_neg e,if_neg e];exact Paired.snoc r ⟨rfl,ry⟩
def KV.length(r:KV kvs vs):kvs.length=vs.length:=Pk r
end
def wC(r:RelV (kV k) u):(bR P w).is k u=true:=by
 cases k with
 |inl i=>obtain⟨t,e⟩:=(show ∃t,u=Value.int i t from r);subst e;exact uG P w i t
 |inr x=>obtain⟨t,e⟩:=(show ∃t,u=Value.str x t from r);subst e;exact uQ P w x t
theorem pq:∀{ks:List Key}{us:List Value},Vals (ks.map kV) us->ItemsAre (bR P w) ks us
 | [],_,r=>by rw[Mx] at r;cases r;exact .nil
 |
  k::ks,_,r=>by
  rw[x_] at r;cases r with
  |cons h t=>exact .cons (wC h) (pq t)
abbrev KT(H:Hp):List (List Key×V)->List (List Key×Addr×Value)->Prop:=Paired λp q=>p.1=q.1/\H q.2.1=some (.tup (p.1.map kV))/\RelV p.2 q.2.2
def KT.val(r:KT H kvs xs)(k:List Key):RelO (gJ kvs k) ((atKey xs k).map (·.2)):=by
 induction r with
 |nil=>exact True.intro
 |
  @cons p q ps qs h t ih=>
  obtain⟨h1,_,h2⟩:=h;by_cases e:p.1=k
  .have e':q.1=k:=h1.symm.trans e;have b:atKey (q::qs) k=some q.2:=by simp [atKey,M6,e']
   rw[kP e,b];exact h2
  .have e':¬ q.1=k:=λz=>e (h1.trans z);have b:atKey (q::qs) k=atKey qs k:=by simp [atKey,M6,e']
   rw[kQ e,b];exact ih
def KT.repl(r:KT H kvs xs)(k:List Key)(ry:RelV y u):
 KT H (kvs.map λkv=>if kv.1=k then (kv.1,y) else kv) (xs.map (putAt k u)):=by
 induction r with
 |nil=>exact .nil
 |
  @cons p q ps qs h t ih=>
  rw[x_,x_];refine .cons ?_ ih;obtain⟨h1,h2,h3⟩:=h;unfold putAt;by_cases e:p.1=k
  .rw[if_pos e,if_pos (h1.symm.trans e)];exact⟨h1,h2,ry⟩
  .rw[if_neg e,if_neg (λz=>e (h1.trans z))];exact⟨h1,h2,h3⟩
def KT.put(r:KT H kvs xs)(k:List Key)(hb:H b=some (.tup (k.map kV)))(ry:RelV y u):
 KT H (gK kvs k y) (storedH xs k b u):=by
 have e:(kvs.any λkv=>decide (kv.1=k))=(atKey xs k).isSome:=by rw[sW,(r.val k).isSome_eq,Option.isSome_map]
 unfold gK storedH;rw[e];by_cases q:(atKey xs k).isSome=true
 .rw[if_pos q,if_pos q];exact r.repl k ry
 .rw[if_neg q,if_neg q];exact Paired.snoc r ⟨rfl,hb,ry⟩
def KT.keeps(r:KT H kvs xs)(ht:∀b ys,H b=some (.tup ys)->H' b=some (.tup ys)):KT H' kvs xs:=
 Paired.mapP r λ_ _ z=>⟨z.1,ht _ _ z.2.1,z.2.2⟩
section
variable{P:Program}{w:World}{H:Hp}{h:Heap}{a:Addr}
def Dm(ok:HOk P w H h)(e:Rd H a u):ObjOk P w H h a u:=e.ok ok
def w6(ok:HOk P w H h)(e:Rd H a (.dK kvs)):kvs.length<=sizeLine/\(a==sysModules)=false/\∃vs,KV kvs vs/\h.DictOf (bR P w) a vs:=
 show ObjOk P w H h a (.dK kvs) from Dm ok e
def Mk(ok:HOk P w H h)(e:H a=some (.dK kvs)):kvs.length<=sizeLine/\(a==sysModules)=false/\∃vs,KV kvs vs/\h.DictOf (bR P w) a vs:=w6 ok (.inl e)
def ua(ok:HOk P w H h)(e:H a=some (.tup (ks.map kV))):(tupleKind (bR P w)).is h ks a:=by obtain⟨_,its,r,o,h1,h2,n,h3⟩:=(show ObjOk P w H h a (.tup (ks.map kV)) from ok a _ e);exact⟨o,its.toArray,n,h1,h2,h3,by simpa using pq r⟩
def wQ(ok:HOk P w H h)(e:Rd H a (.dT kvs)):kvs.length<=sizeLine/\(a==sysModules)=false/\
 ∃xs,KT H kvs xs/\h.DictOfH (tupleKind (bR P w)) a xs:=by
 obtain⟨z,y,xs,r,o,es,ep,h1,h2,h3,h4,h5⟩:=(show ObjOk P w H h a (.dT kvs) from Dm ok e);refine⟨z,y,xs,r,o,es,ep,h1,h2,h3,h4,λx hx=>?_,h5⟩;have all:∀{l:List (List Key×V)}{m:List (List Key×Addr×Value)},KT H l m->∀x∈m,(tupleKind (bR P w)).is h x.1 x.2.1:=by
  intro l m q;induction q with
  |nil=>intro x hx;exact nomatch hx
  |
   @cons p q ps qs hq t ih=>
   intro x hx;rcases F_.mp hx with e |hx
   .subst e;exact ua ok (by rw[<- hq.1];exact hq.2.1)
   .exact ih x hx
 exact all r x hx
def Mb(ok:HOk P w H h)(e:H a=some (.dT kvs)):kvs.length<=sizeLine/\(a==sysModules)=false/\
 ∃xs,KT H kvs xs/\h.DictOfH (tupleKind (bR P w)) a xs:=wQ ok (.inl e)
end
def DGet(H:Hp)(a:Addr)(y:V)(r:Option V):Prop:=
 (∃kvs k,Rd H a (.dK kvs)/\y=kV k/\r=gJ kvs k)\/∃kvs k b,Rd H a (.dT kvs)/\y=.ref b/\H b=some (.tup (k.map kV))/\r=gJ kvs k
def DPut(H:Hp)(a:Addr)(y v:V)(H':Hp):Prop:=
 (∃kvs k,H a=some (.dK kvs)/\y=kV k/\kvs.length<sizeLine/\H'=upd H a (.dK (gK kvs k v)))\/
 ∃kvs k b,H a=some (.dT kvs)/\y=.ref b/\H b=some (.tup (k.map kV))/\kvs.length<sizeLine/\H'=upd H a (.dT (gK kvs k v))
def DGet.k{H:Hp}{a:Addr}{kvs:List (Key×V)}{k:Key}(e:H a=some (.dK kvs)):DGet H a (kV k) (gJ kvs k):=.inl ⟨kvs,k,.inl e,rfl,rfl⟩
def DPut.k{H:Hp}{a:Addr}{kvs:List (Key×V)}{k:Key}{v:V}(e:H a=some (.dK kvs))(hl:kvs.length<sizeLine):DPut H a (kV k) v (upd H a (.dK (gK kvs k v))):=.inl ⟨kvs,k,e,rfl,hl,rfl⟩
section
variable{X:Cx}{pins:Pq}{σ:St}{H:Hp}{s:Shared}{a:Addr}{y v:V}{u r:Value}{o:Option V}{A:Around}{E:Pu}
def Aa(hu:A.units+1<cLine)(I:Inv X pins σ H s)(g:DGet H a y (some v))(ry:RelV y u)(h:∀w' s',Inv X pins σ H s'->RelV v w'->Q w' s'):
 wpAny (model X.prog X.w) A (getItem (.ref a) u) Q E s:=by
 rcases g with ⟨kvs,k,e,ey,l⟩ |⟨kvs,k,b,e,ey,eb,l⟩
 .subst ey;obtain⟨z,hd,vs,rel,dd⟩:=w6 I.hok e;obtain⟨w',hw,rw'⟩:=RelO.some_of (v:=v) (o:=valueAt vs k) (by rw[l];exact rel.val k);exact wpAny_getItem_of (wC ry) dd.mapOf hw (h w' _ (I.tok _) rw')
 .subst ey;cases (show u=Value.ref b from ry);obtain⟨z,hd,xs,rel,dd⟩:=wQ I.hok e;obtain⟨w',hw,rw'⟩:=RelO.some_of (v:=v) (o:=(atKey xs k).map (·.2)) (by rw[l];exact rel.val k);obtain⟨p,hp,hp2⟩:=Mp.mp hw;refine wpAny_getItem_heap (tupleKind_room_in1 hu) (ua I.hok eb) dd hp ?_;rw[hp2];exact h w' _ (I.tok _) rw'
def wj(I:Inv X pins σ H s)(mu:Mut (H a))(hs:Heap.SameBut a s.heap h')(he:∃q,h'.get? a=some q)(new:ObjOk X.prog X.w (upd H a ob) h' a ob):
 Inv X pins σ (upd H a ob) { s with heap:=h',toks:=t' }:=
 I.write (x:=a) (e:=a) mu (.inl rfl) (λb q hb z=>(hs.2 b hb).trans z) he new
def Ga(z:kvs.length<=sizeLine)(hd:(a==sysModules)=false)(rel:KV kvs vs)(dd:h'.DictOf (bR P w) a vs):
 ObjOk P w H' h' a (.dK kvs):=⟨z,hd,vs,rel,dd⟩
def yp(hu:A.units+1<cLine)(I:Inv X pins σ H s)(g:DPut H a y v H')(ry:RelV y u)(rv:RelV v r)(h:∀s',Inv X pins σ H' s'->Q () s'):
 wpAny (model X.prog X.w) A (setItem (.ref a) u r) Q E s:=by
 rcases g with ⟨kvs,k,e,ey,l,eH⟩ |⟨kvs,k,b,e,ey,eb,l,eH⟩
 .subst ey eH;obtain⟨z,hd,vs,rel,dd⟩:=Mk I.hok e;have hz:vs.length<=sizeLine:=by rw[<- rel.length];exact z
  have hl:(gK kvs k v).length<=sizeLine:=by have:=kr kvs k v;omega
  refine wpAny_setItem_pairs (hsz:=hz) (wC ry) dd λh' dd' hs=>h _ ?_;have he:∃q,h'.get? a=some q:=let ⟨q,_,_,hq,_⟩:=dd';⟨q,hq⟩;exact wj I (by rw[e];exact True.intro) hs he (Ga hl hd (rel.put k rv) dd')
 .subst ey eH;cases (show u=Value.ref b from ry);obtain⟨z,hd,xs,rel,dd⟩:=Mb I.hok e;have hz:xs.length<=sizeLine:=by rw[<- Pk rel];exact z
  have hl:(gK kvs k v).length<=sizeLine:=by have:=kr kvs k v;omega
  refine wpAny_setItem_heap (hsz:=hz) (tupleKind_room_in1 hu) (ua I.hok eb) dd λh' dd' hs=>h _ ?_;obtain⟨q,es,ep,hq,h2,h3,h4,_,h5⟩:=dd';refine wj I (by rw[e];exact True.intro) hs ⟨q,hq⟩ ⟨hl,hd,_,(rel.put k eb rv).keeps λc ys ec=>?_,q,es,ep,hq,h2,h3,h4,h5⟩;rw[az (Lm ec e (λz=>nomatch z))];exact ec
end
def Cd(i:Expr):Prop:=∀ov iv,subscripted i false ov iv=operate [ov,iv] (getItem ov iv)
def EU{prog:Program}{w:World}{A:Around}{E:Pu}{s:Shared}{env:Env}{value slice:Expr}{pos:Pos}{T id:String}{Q:Pu}
 (hl:typeLookup (.type T) "__getitem__"=pure (some (.builtin id))) (hs:Cd slice)
 (h:wpAny (model prog w) A (eval value env) (λo s₁=>wpAny (model prog w) A (eval slice env) (λi s₂=>s₂.TypeIs o T/\wpAny (model prog w) A (getItem o i) Q E s₂) E s₁) E s):
 wpAny (model prog w) A (eval (.Subscript value slice pos) env) Q E s:=by
 refine Subscript_ (ML h (λo s₁ h₁=>ML h₁ (λi s₂ h₂=>?_) λ_ _ x=>x) λ_ _ x=>x);obtain⟨hT,h₂⟩:=h₂;unfold subscriptTail;refine o_ ?_;rw[getitemInPython_of_ne hT.not_modules];refine o_ (wpAny_specialOf hT hl ?_);have j_:wpAny (model prog w) A (subscripted slice false o i) (λr s₃=>wpAny (model prog w) A (letTemporaryGo value o r >>= λ_=>pure r) Q E s₃) E s₂:=by rw[hs o i];exact wpAny_operating (ML h₂ (λr s₃ h₃=>o_ (wpAny_letTemporaryGo (B_ h₃))) λ_ _ x=>x)
 first
  |exact B_ (o_ j_)
  |exact o_ (B_ (o_ j_))
  |exact o_ j_
def uS(I:Inv X pins σ H s)(g:DGet H a y o):s.TypeIs (.ref a) "dict":=by
 rcases g with ⟨kvs,k,e,_,_⟩ |⟨kvs,k,b,e,_,_,_⟩
 .obtain⟨_,_,vs,_,dd⟩:=w6 I.hok e;exact dd.typeIs
 .obtain⟨_,_,xs,_,dd⟩:=wQ I.hok e;exact dd.typeIs
def Kt(td ty:TE):TE:=λσ H Q=>td σ H λx H1=>ty σ H1 λy H2=>∃a v,x=.ref a/\DGet H2 a y (some v)/\Q v H2
section
variable{X:Cx}{o i:Expr}{pos:Pos}{td ty:TE}
def Fu(hu:X.A.units+1<cLine)(ho:PE X o td)(hi:PE X i ty)(hs:Cd i):PE X (.Subscript o i pos) (Kt td ty):=by intro pins s σ H Q I h;refine EU PySem.F.slot_dict_getitem.lookup hs (thn (ho pins s σ H _ I h) λu s1 zz=>exA zz λx H1 I1 rx q1=>thn (hi pins s1 σ H1 _ I1 q1) λiv s2 ⟨y,H2,I2,ry,a,v,ex,g,q2⟩=>?_);subst ex;obtain rfl:u=Value.ref a:=rx;exact⟨uS I2 g,Aa hu I2 g ry λw' s3 I3 rw'=>⟨v,H2,I3,rw',q2⟩⟩
end
section
variable[DecidableEq κ]
noncomputable def lkD (kvs:List (κ×α)) (k:κ):Option α:=(kvs.find? λkv=>decide (kv.1=k)).map (·.2)
noncomputable def ff (kvs:List (κ×α)) (k:κ) (v:α):List (κ×α):=if (kvs.any λkv=>decide (kv.1=k))=true then kvs.map λkv=>if kv.1=k then (kv.1,v) else kv else kvs++[(k,v)]
end
section
variable{H:Hp}
def AN[DecidableEq κ]:∀{kvs:List (κ×α)}{ws:List (κ×β)},ws.map (·.1)=kvs.map (·.1)->(ws.any λkv=>decide (kv.1=k))=kvs.any λkv=>decide (kv.1=k):=by
 intro kvs;induction kvs with
 |
  nil=>
  intro ws e;cases ws with
  |nil=>rfl
  |cons _ _=>cases e
 |
  cons p kvs ih=>
  intro ws e;cases ws with
  |nil=>cases e
  |cons w ws=>rw[x_,x_] at e;injection e with e1 e2;rw[Ni,Ni,ih e2,e1]
def DL:rV:=λo i v H Q=>∃a H4,o=.ref a/\DPut H a i v H4/\Q H4
variable{X:Cx}{a:Expr}
def CF(hu:X.A.units+1<cLine):w9 X DL:=λpins s σ H o i v ov iv u Q I ro ri rv ⟨a,H4,eo,g,q⟩=>by subst eo;obtain rfl:ov=Value.ref a:=ro;exact yp hu I g ri rv λs4 I4=>⟨H4,I4,q⟩
end
open PySem PySem.Spec PySem.Calls PyProof.Rows
section
variable{X:Cx}{K:W.Frag}{es:List Expr}{pos:Pos}
def gUnp(K:W.Frag)(n:Nat)(t:TGs):TG:=λv σ H Q=>∃a xs,v=.ref a/\(SqT K H a xs\/SqL K H a xs)/\xs.length=n/\t xs σ H Q
def Hd{k:Nat}{t:TGs}{n:Nat}(hc:X.calm=true)(h:PGs X es t)
 (hn:(assignEach es X.env).length=n) (hst:(assignEach es X.env).findIdx? (·.1)=none):PG X (.Tuple es k pos) (gUnp X.K n t):=by
 intro pins s σ H v u Q I r hw;obtain⟨a,xs,e1,hq,hl,hw⟩:=hw;rcases hq with hq |hq
 .exact Az hc h hn hst pins s σ H v u Q I r ⟨a,xs,e1,hq,hl,hw⟩
 .subst e1;cases r;obtain⟨its,rv,⟨o,m,ho,oc,od,os⟩,hz⟩:=I.list hq;have ht:s.heap.IsList a its.toArray:=⟨o,ho,oc,m,os⟩;rw[assign_Tuple];refine o_ (Ox ?_);unfold unpack;rw[hst,hn,show n=its.toArray.size by simp [<- hl,rv.length]];refine o_ (Nq (W.kun_itemsOf (I.ok.hd hc) ht λh' hx=>?_));have I1:Inv X pins σ H { s with heap:=h' }:=I.kept (t':=s.toks) λb o e=>hx b o (Ms (C_ e)) e;exact h pins _ σ H xs _ Q I1 (by simpa using rv) hw
end
section
variable{X:Cx}{mg:Pp}{a:Expr}{pos q2 p1 p2:Pos}
noncomputable def hZ (j:Int):List V:=(List.range j.toNat).map λi=>V.int ((i:Nat):Int)
def rLrg:List V->Hp->VK->Prop:=λxs H Q=>∃j:Int,xs=[.int j]/\-(2^62)<=j/\j<=16777216/\∀l,H l=none->Q (.ref l) (upd H l (.lst (hZ j)))
theorem u9:∀(n:Nat) (f:Nat->Int) (is:List Nat) (ys:List Value),CarriedAll ys (is.map λi=>PyData.int (f i))->Vals (is.map λi=>V.int (f i)) ys
 |n,f,[],ys,h=>by cases h;exact .nil
 |
  n,f,i::is,ys,h=>by
  cases h with
  |cons c r=>cases c;exact .cons ⟨_,rfl⟩ (u9 n f is _ r)
def IF(hc:X.calm=true)(hl:Gl X "list")(hml:X.mg "list"=none)(hg:Gl X "range")(hm:X.mg "range"=none)(ha:PA X [a] ta)(hs:starEach [a] X.env=[(false,eval a X.env)])
 (hs1:starEach [.Call (.Name "range" p2) [a] [] q2] X.env=[(false,eval (.Call (.Name "range" p2) [a] [] q2) X.env)]):
 PE X (.Call (.Name "list" p1) [.Call (.Name "range" p2) [a] [] q2] [] pos) (tCB rLrg ta):=by
 intro pins s σ H Q I h;refine M4 (cW I hl hml (show bootBuiltins "list"=some (.type "list") from rfl) ?_ (by decide) (by decide));refine MM ?_ hs1 rfl;rw[hs1];show wpAny _ _ (spliced ((false,eval (.Call (.Name "range" p2) [a] [] q2) X.env)::[])) _ _ s;refine NL ?_;refine M4 (cW I hg hm (show bootBuiltins "range"=some (.type "range") from rfl) ?_ (by decide) (by decide));refine MM (thn (ha q2 pins s σ H _ I h) λus s1 zz=>exA zz λvs H1 I1 r1 q1=>?_) hs rfl;obtain⟨j,e,h1,h2,q⟩:=q1;subst e;cases r1 with
 |
  cons r rr=>
  cases rr;obtain⟨t,rfl⟩:=r;refine call_range_1 (Oh ?_);have I2:Inv X pins σ H1 { s1 with heap:=s1.heap.push { cls:=.type "range",data:=.fields #[.int 0 s1.toks,.int j t,.int 1 (s1.toks+1)] },toks:=s1.toks+1+1 }:=I1.kept λb o e=>r_ _ e;obtain⟨m,hns,_⟩:=I2.loc;refine list_rangeD (I.ok.hd hc) (Att.fr_all hns) (news:=[]) (λp hp=>nomatch hp) (IsRange.new ..) (small_one (by omega) (by omega) (by omega) (by omega)) (n:=j.toNat) (by rw[Pm];split <;> omega) (by omega) ?_;intro h' tk ys hf hn hk _ _ ⟨⟨c,hpl⟩,_⟩ hcar;have rv:Vals (hZ j) ys:=u9 0 (λi=>((i:Nat):Int)) (List.range j.toNat) ys (by
   unfold rangeInts at hcar;rw[MZ] at hcar;have e:((λi=>PyData.int i) ∘ λ(i:Nat)=>(0:Int)+(i:Int)*1)=λi:Nat=>PyData.int (i:Int):=by funext i;simp
   rw[show (PyData.int ∘ λ(i:Nat)=>(0:Int)+(i:Int)*1)=λi:Nat=>PyData.int (i:Int) from e] at hcar;exact hcar)
  have hz:(hZ j).length<=sizeLine:=by unfold hZ;rw[p_,A_];have:sizeLine=16777216:=rfl;omega
  exact⟨.ref _,_,I2.laid (t':=tk) hk (t_ _) (show ObjOk X.prog X.w _ h' _ (.lst (hZ j)) from ⟨hz,ys,c,rv,hpl⟩),rfl,q _ (I2.hok.fresh (t_ _))⟩
end
section
variable{X:Cx}
def vn:V->List V->Hp->VK->Prop:=λx vs H Q=>∃l xs i y,x=.ref l/\vs=[.int i,y]/\H l=some (.lst xs)/\0<=i/\i<=(xs.length:Nat)/\xs.length<sizeLine/\Q .non (upd H l (.lst (xs.take i.toNat++y::xs.drop i.toNat)))
def zx:MtM X "list.insert" vn:=by
 intro pins s σ H x vs v us Q I rx rv h;obtain⟨l,xs,i,y,rfl,rfl,hH,h0,h1,hz,q⟩:=h;cases rx;obtain⟨u1,u2,rfl,ru1,ru2⟩:=mQ rv;obtain⟨t,rfl⟩:=ru1;obtain⟨z,its,n,r,hl,e⟩:=I.lstM hH;have hs:sizeLine=16777216:=rfl;have hf:Builtin.List.listFitsIndex i=true:=fitsIndex_both (by omega) (by omega);refine O6 PySem.F.slot_list_insert ⟨_,e,rfl⟩ PySem.F.entry_list_insert (PySem.F.args_list_insert_3 _ _ _) (AutoSeq1.list_insert_list_int_val_1 l its.toArray n i t u2 (by rw[hf];decide) (by rw[z_];omega)) ⟨e,?_⟩;refine⟨.non,_,I.lset (its':=its.take i.toNat++u2::its.drop i.toNat) hH e ?_ ((r.take _).append (.cons ru2 (r.drop _))) ?_,rfl,q⟩
 .show (have k:=if i<0 then (i+(its.toArray.size:Int)).toNat else min i.toNat its.toArray.size;(its.toArray.extract 0 k).push u2++its.toArray.extract k)=_;rw[if_neg (by omega),z_,O3 (by omega)];apply Array.ext';simp [M5]
 .simp only[Em,D_,MH,Nr];omega
def Kf:List V->Hp->VK->Prop:=λxs H Q=>xs=[]/\∀l,H l=none->Q (.ref l) (upd H l (.set (λ_=>false) 0))
def AD:R2:=λx y H Q=>∃i a S n,x=.int i/\y=.ref a/\H a=some (.set S n)/\Q (.bl (S i)) H
def CT:OpR X (compareOp .In) AD:=by intro pins s σ H x y v u Q I rx ry h;obtain⟨i,a,S,n,rfl,rfl,hH,q⟩:=h;obtain⟨t,rfl⟩:=rx;cases ry;have hS:s.heap.SetOf (intKind X.prog X.w) a S n:=I.hok a _ hH;exact wpAny_inSet_of (intKind_is _ _ i t) rfl hS ⟨.bl (S i),H,I.tok _,rfl,q⟩
def F4:V->List V->Hp->VK->Prop:=λx vs H Q=>∃a i S n,x=.ref a/\vs=[.int i]/\H a=some (.set S n)/\n<4000/\Q .non (upd H a (.set (λk=>S k || decide (k=i)) (if S i then n else n+1)))
def zV:MtM X "set.add" F4:=by intro pins s σ H x vs v us Q I rx rv h;obtain⟨a,i,S,n,rfl,rfl,hH,hn,q⟩:=h;cases rx;obtain⟨u,rfl,ru⟩:=rv.one;obtain⟨t,rfl⟩:=ru;have hS:s.heap.SetOf (intKind X.prog X.w) a S n:=I.hok a _ hH;refine call_set_add (intKind_is _ _ i t) rfl hS (by unfold scanBound;omega) λh' sb hS'=>?_;refine⟨.non,_,I.write (x:=a) (e:=a) (by rw[hH];exact trivial) (.inl rfl) (λb o hb e=>(sb.2 b hb).trans e) ?_ (show ObjOk X.prog X.w _ h' a (.set (λk=>S k || decide (k=i)) (if S i then n else n+1)) from hS'),rfl,q⟩;obtain⟨o,_,_,_,e,_⟩:=hS';exact⟨o,e⟩
def uB:CallR X (.builtin "len") (λxs H Q=>∃a S n,xs=[.ref a]/\H a=some (.set S n)/\Q (.int (n:Nat)) H):=by intro pins s σ H xs us Q I r h;obtain⟨a,S,n,rfl,hH,q⟩:=h;obtain⟨u,rfl,ru⟩:=fZ r;cases ru;have hS:s.heap.SetOf (intKind X.prog X.w) a S n:=I.hok a _ hH;obtain⟨o,es,ep,t,e,hex,hd,_,_,hb,hf,rfl⟩:=hS;refine call_len_set e hex hd hf (by unfold scanBound at hb;omega) ⟨.int (es.size:Nat),H,I.tok _,⟨_,rfl⟩,q⟩
def Ag:CallR X (.type "set") Kf:=by intro pins s σ H xs us Q I r h;obtain⟨rfl,q⟩:=h;cases r;refine call_set_0 λled=>?_;refine⟨.ref s.heap.objs.size,_,I.laid (t':=s.toks) (λb o e=>r_ _ e) (t_ _) (show ObjOk X.prog X.w _ _ _ (.set (λ_=>false) 0) from ?_),rfl,q _ (I.hok.fresh (t_ _))⟩;obtain⟨h1,es,ep,tt,h2,h3,h4,h5,h6⟩:=setObjOf_fresh (knd:=intKind X.prog X.w) led;exact⟨_,es,ep,tt,G_ _ rfl,h1,h2,h3,h4,by rw[h5];decide,h6,h5⟩
end
section
noncomputable def fK (xs:List Int) (i:Int):List Int:=if i∈xs then xs else i::xs
end
section
variable{X:Cx}{K:W.Frag}
def rY(K:W.Frag):V->List V->Hp->VK->Prop:=λx vs H Q=>∃l b xs zs,x=.ref l/\vs=[.ref b]/\H l=some (.lst xs)/\SqT K H b zs/\xs.length+zs.length<=sizeLine/\Q .non (upd H l (.lst (xs++zs)))
def F6(l:Addr)(xs:Array Value)(n:Nat)(b:Addr)(ys:Array Value)(n2:Nat)(dd:Option Addr)(ss:Array (Option Value))(z0:¬(!xs.isEmpty&&Builtin.List.listTooLong (xs.size+ys.size))=true)(z1:xs.size<=sizeLine)(z2:xs.size+ys.size<=sizeLine+1):
 Meets (Builtin.«list.extend» ⟨[.ref l,.ref b],[]⟩) (λ_ R s=>s.heap.get? l=some { cls:=.type "list",dict:=none,data:=.seq xs n,slots:=#[] }/\s.heap.get? b=some { cls:=.type "tuple",dict:=dd,data:=.seq ys n2,slots:=ss }/\R (.ok (.ret Value.none)) { s with heap:=s.heap.update l (Obj.mapSeq λx=>x++ys),toks:=s.toks }):=
 .of_wp λprog w A R s h=>by
  obtain⟨hp,g,d,tk,os⟩:=s;obtain⟨el,eb,h⟩:=h;have e1:=PySem.AutoSeq1.idx_int;have e2:=PySem.F.sub_tuple_tuple;have e3:=PySem.F.sub_list_list;have e4:=PySem.F.sub_tuple_list;have e5:=PySem.F.sub_list_tuple;have zz:(xs++ys).size<=sizeLine+1:=by rw[Array.size_append];exact z2
  wp_walk using (wpAny_updateSeq el rfl (hz:=z1) (_hz':=zz)),wpAny_loadPart' el,wpAny_loadPart' eb
  exact⟨_,rfl,h⟩
def wJ(hK:X.K=K):MtM X "list.extend" (rY K):=by
 subst hK;intro pins s σ H x vs v us Q I rx rv h;obtain⟨l,b,xs,zs,rfl,rfl,hH,hB,hz,q⟩:=h;cases rx;obtain⟨u,rfl,ru⟩:=rv.one;cases ru;obtain⟨z,its,n,r,hl,e⟩:=I.lstM hH;obtain⟨its2,r2,⟨⟨oc,od,oda,os⟩,e2,ec,n2,ed⟩,z2⟩:=I.tuple hB;dsimp only at ec ed;subst ec ed;have hl2:=r2.length;have hsz:its.toArray.size+its2.toArray.size<=sizeLine:=by rw[z_,z_];omega
 have hlong:¬ (!its.toArray.isEmpty&&Builtin.List.listTooLong (its.toArray.size+its2.toArray.size))=true:=by rw[Cn hsz,Bool.and_false];exact y_
 refine O6 PySem.F.slot_list_extend ⟨_,e,rfl⟩ PySem.F.entry_list_extend (PySem.F.args_list_extend_2 _ _)
  (F6 l its.toArray n b its2.toArray n2 od os hlong (by rw[z_];omega) (by omega)) ⟨e,e2,?_⟩
 refine⟨.non,_,I.lset (its':=its++its2) hH e (by simp) (r.append r2) ?_,rfl,q⟩;rw[Em];omega
end
noncomputable def mnI:List Int->Int
 | []=>0
 | [x]=>x
 |x::y::r=>if mnI (y::r)<x then mnI (y::r) else x
theorem n6:∀{l:List Int},l≠[]->mnI l∈l
 | [x],_=>by simp [mnI]
 |
  x::y::r,_=>by
  have:=n6 (l:=y::r) (by simp)
  rw[mnI];split
  .exact q_ _ this
  .exact s_ ..
theorem Am:∀{l:List Int}{a:Int},a∈l->mnI l<=a
 | [x],a,h=>by rw[MC] at h;rw[h];exact Int.le_refl _
 |
  x::y::r,a,h=>by
  rw[mnI];rcases F_.mp h with rfl |h
  .split <;> omega
  .have:=Am (l:=y::r) h
   split <;> omega
section
variable{X:Cx}{K:W.Frag}
def Be(f:List Int->Int)(K:W.Frag):List V->Hp->VK->Prop:=λxs H Q=>∃(a:Addr) (ns:List Int),xs=[.ref a]/\SqL K H a (ns.map V.int)/\ns≠[]/\Q (.int (f ns)) H
def yK(hK:X.K=K)(hc:X.calm=true):CallR X (.builtin "min") (Be mnI K):=by
 subst hK;intro pins s σ H xs us Q I r h;obtain⟨a,ns,rfl,hq,hne,q⟩:=h;obtain⟨u,rfl,ru⟩:=fZ r;cases ru;obtain⟨its,rv,p,hz⟩:=I.list hq;have hi:=nF rv;obtain⟨ys,hy⟩:=hi.allInts.items;have hn:numsOf its.toArray.toList=ns:=by rw[show its.toArray.toList=its from rfl,hi.numsOf]
 have pl:=p.isList;rw[hy] at pl hn;rw[nums_intItems] at hn;have hsz:0<ys.size:=by
  have:ns.length=ys.size:=by rw[<- hn,p_,M0]
  have:=Oy.mpr hne
  omega
 refine min_intList (I.ok.hd hc) pl hsz λv h' tk hv hk=>?_;obtain⟨t,rfl⟩:=intItems_at hv;obtain⟨h1,h2⟩:=argBest_lt (numAt ys) (ys.size-1);have m1:numAt ys (argBest (λi j=>decide (numAt ys i<numAt ys j)) (ys.size-1))∈ns:=by rw[<- hn,numAt_eq];exact getD_mem (by rw[p_,M0];omega)
 have m2:∀b∈ns,numAt ys (argBest (λi j=>decide (numAt ys i<numAt ys j)) (ys.size-1))<=b:=λb hb=>by rw[<- hn] at hb;obtain⟨j,hj,rfl⟩:=mem_getD hb;rw[p_,M0] at hj;rw[<- numAt_eq];exact h2 j (by omega)
 have e:numAt ys (argBest (λi j=>decide (numAt ys i<numAt ys j)) (ys.size-1))=mnI ns:=Int.le_antisymm (m2 _ (n6 hne)) (Am m1);rw[e];exact⟨.int (mnI ns),H,I.kept (t':=tk) hk,⟨_,rfl⟩,q⟩
end
open PySem PySem.W PyProof.Rows
structure LtO(lt:Nat->Nat->Bool)(N:Nat):Prop where
 irr:∀i,lt i i=false
 tr:∀i j k,lt i j=true->lt j k=true->lt i k=true
 tot:∀i j,i<N->j<N->i≠j->lt i j=true\/lt j i=true
abbrev Ask:=Nat->Nat->(Bool->Shared->Prop)->Shared->Prop
def Ans(cmp:Ask)(lt:Nat->Nat->Bool)(N:Nat)(s:Shared):Prop:=∀i j C,i<N->j<N->C (lt i j) s->cmp i j C s
structure PmO(N:Nat)(p:Array Nat):Prop where
 sz:p.size=N
 lt:∀i,i<N->p.getD i 0<N
 ne:∀i j,i<j->j<N->p.getD i 0≠p.getD j 0
def UpTo(lt:Nat->Nat->Bool)(p:Array Nat)(k:Nat):Prop:=∀i j,i<j->j<k->lt (p.getD i 0) (p.getD j 0)=true
def DnTo(lt:Nat->Nat->Bool)(p:Array Nat)(k:Nat):Prop:=∀i j,i<j->j<k->lt (p.getD j 0) (p.getD i 0)=true
def eS(p:Array Nat)(i:Nat):p.getD i 0=(p[i]?).getD 0:=by rw[Array.getD_eq_getD_getElem?]
def PmO.of{N:Nat}{p:Array Nat}(h:p.toList.Perm (List.range N)):PmO N p:=by
 have hl:p.size=N:=by rw[<- M0,h.length_eq,A_]
 have nd:p.toList.Nodup:=h.nodup_iff.mpr OS;have e:∀i (hi:i<N),p.getD i 0=p.toList[i]'(by rw[M0,hl];exact hi):=λi hi=>by rw[eS,OA (by rw[hl];exact hi)];simp
 refine⟨hl,λi hi=>?_,λi j hij hj=>?_⟩
 .rw[e i hi];exact Mu.mp (h.mem_iff.mp (NI _))
 .rw[e i (by omega),e j hj];exact Nf.mp nd i j _ _ hij
variable{lt:Nat->Nat->Bool}{N:Nat}{cmp:Ask}{s:Shared}
def LtO.flip(O:LtO lt N){p:Array Nat}(P:PmO N p){i j:Nat}(hij:i<j)(hj:j<N)(h:lt (p.getD j 0) (p.getD i 0)=false):lt (p.getD i 0) (p.getD j 0)=true:=by
 rcases O.tot _ _ (P.lt i (by omega)) (P.lt j hj) (P.ne i j hij hj) with z |z
 .exact z
 .rw[h] at z;cases z
def UpTo.more(O:LtO lt N){p:Array Nat}{n:Nat}(h:UpTo lt p n)(hn:1<=n)(e:lt (p.getD (n-1) 0) (p.getD n 0)=true):UpTo lt p (n+1):=λi j hij hj=>by
 by_cases hj':j<n
 .exact h i j hij hj'
 .obtain rfl:j=n:=by omega
  by_cases hi:i=j-1
  .rw[hi];exact e
  .exact O.tr _ _ _ (h i (j-1) (by omega) (by omega)) e
def DnTo.more(O:LtO lt N){p:Array Nat}{n:Nat}(h:DnTo lt p n)(hn:1<=n)(e:lt (p.getD n 0) (p.getD (n-1) 0)=true):DnTo lt p (n+1):=λi j hij hj=>by
 by_cases hj':j<n
 .exact h i j hij hj'
 .obtain rfl:j=n:=by omega
  by_cases hi:i=j-1
  .rw[hi];exact e
  .exact O.tr _ _ _ e (h i (j-1) (by omega) (by omega))
theorem ud(O:LtO lt N)(C:Ans cmp lt N s){p:Array Nat}(P:PmO N p){Q:Nat->Shared->Prop}:∀(f n:Nat),n+f=N->1<=n->UpTo lt p n->(∀m,n<=m->m<=N->UpTo lt p m->(m=N\/lt (p.getD m 0) (p.getD (m-1) 0)=true)->Q m s)->(kas_asc p f n).kasWp cmp Q s
 |0,n,hf,h1,hu,hq=>hq n (t_ _) (by omega) hu (.inl (by omega))
 |
  f+1,n,hf,h1,hu,hq=>by
  refine C _ _ _ (P.lt n (by omega)) (P.lt (n-1) (by omega)) ?_;cases z:lt (p.getD n 0) (p.getD (n-1) 0) with
  |true=>exact hq n (t_ _) (by omega) hu (.inr z)
  |false=>exact ud O C P f (n+1) (by omega) (by omega) (hu.more O h1 (O.flip P (by omega) (by omega) z)) λm a b=>hq m (by omega) b
theorem vv(O:LtO lt N)(C:Ans cmp lt N s){p:Array Nat}(P:PmO N p){Q:Array Nat×Nat×Nat->Shared->Prop}:∀(f n:Nat),n+f=N->1<=n->DnTo lt p n->(∀m,n<=m->m<=N->DnTo lt p m->Q (p,m,0) s)->(kas_desc f p n 0).kasWp cmp Q s
 |0,n,hf,h1,hu,hq=>hq n (t_ _) (by omega) hu
 |
  f+1,n,hf,h1,hu,hq=>by
  refine C _ _ _ (P.lt n (by omega)) (P.lt (n-1) (by omega)) ?_;cases z:lt (p.getD n 0) (p.getD (n-1) 0) with
  |true=>exact vv O C P f (n+1) (by omega) (by omega) (hu.more O h1 z) λm a b=>hq m (by omega) b
  |false=>refine C _ _ _ (P.lt (n-1) (by omega)) (P.lt n (by omega)) ?_;rw[O.flip P (by omega) (by omega) z];exact hq n (t_ _) (by omega) hu
def zm{p:Array Nat}{n k:Nat}(hn:n<=p.size):(kas_rev p 0 n).getD k 0=if k<n then p.getD (n-1-k) 0 else p.getD k 0:=by
 have e:=getElem?_mirror_all (xs:=p) (i:=0) hn k;unfold kas_rev;rw[eS,e];by_cases h:k<n
 .rw[if_pos ⟨MV _,h⟩,if_pos h,eS];congr 2;omega
 .rw[if_neg (λz=>h z.2),if_neg h,eS]
def Cq(O:LtO lt N)(C:Ans cmp lt N s){p:Array Nat}(P:p.toList.Perm (List.range N)){Q:Nat×Array Nat->Shared->Prop}{n:Nat}(h1:1<=n)(hn:n<=N)(hd:DnTo lt p n)(hq:∀m p',p'.toList.Perm (List.range N)->1<=m->m<=N->UpTo lt p' m->Q (m,p') s):(kas_tail3 n N p).kasWp cmp Q s:=by have P':(kas_rev p 0 n).toList.Perm (List.range N):=(Array.perm_iff_toList_perm.mp (mirror_perm _ _ _ _)).trans P;have sz:=(PmO.of P).sz;unfold kas_tail3;rw[KasT.kasWp_bind];refine ud O C (PmO.of P') (N-n) n (by omega) h1 (λi j hij hj=>?_) λm a b c _=>hq m _ P' (by omega) b c;rw[zm (by omega),zm (by omega),if_pos (by omega),if_pos (by omega)];exact hd _ _ (by omega) (by omega)
def Ck(O:LtO lt N)(C:Ans cmp lt N s){p:Array Nat}(P:p.toList.Perm (List.range N))(hN:1<=N){Q:Nat×Array Nat->Shared->Prop}(hq:∀m p',p'.toList.Perm (List.range N)->1<=m->m<=N->UpTo lt p' m->Q (m,p') s):(kas_count N p).kasWp cmp Q s:=by
 unfold kas_count;rw[KasT.kasWp_bind];refine ud O C (PmO.of P) (N-1) 1 (by omega) (t_ _) (λi j hij hj=>by omega) λm a b c d=>?_;by_cases hm:m=N
 .rw[if_pos (by rw[MD];exact hm)];exact hq m p P a b c
 .rw[if_neg (by rw[MD];exact hm)];by_cases h1:m>1
  .rw[if_pos h1];refine C _ _ _ ((PmO.of P).lt 0 (by omega)) ((PmO.of P).lt (m-1) (by omega)) ?_;rw[c 0 (m-1) (by omega) (by omega)];exact hq m p P a b c
  .rw[if_neg h1];obtain rfl:m=1:=by omega
   have z:=d.resolve_left hm;unfold kas_descPart;rw[KasT.kasWp_bind];refine vv O C (PmO.of P) (N-2) 2 (by omega) (by omega) (λi j hij hj=>?_) λm' a' b' c'=>?_
   .obtain rfl:i=0:=by omega
    obtain rfl:j=1:=by omega
    exact z
   .dsimp only;rw[if_neg (by omega)];exact Cq O C P (by omega) b' c' hq
theorem tw(O:LtO lt N)(C:Ans cmp lt N s){p:Array Nat}(P:PmO N p){k:Nat}(hk:k<N){Q:Nat->Shared->Prop}(hu:UpTo lt p k):∀(f l r:Nat),l<=r->r<=k->r-l<=f->(∀i,i<l->lt (p.getD i 0) (p.getD k 0)=true)->(∀i,r<=i->i<k->lt (p.getD k 0) (p.getD i 0)=true)->(∀m,m<=k->(∀i,i<m->lt (p.getD i 0) (p.getD k 0)=true)->(∀i,m<=i->i<k->lt (p.getD k 0) (p.getD i 0)=true)->Q m s)->(kas_place p k f l r).kasWp cmp Q s
 |0,l,r,h1,h2,h3,h4,h5,hq=>hq l (by omega) h4 λi hi=>h5 i (by omega)
 |
  f+1,l,r,h1,h2,h3,h4,h5,hq=>by
  unfold kas_place;by_cases h:l >= r
  .rw[if_pos h];exact hq l (by omega) h4 λi hi=>h5 i (by omega)
  .rw[if_neg h];refine C _ _ _ (P.lt k hk) (P.lt _ (by omega)) ?_;cases z:lt (p.getD k 0) (p.getD ((l+r)/2) 0) with
   |
    true=>
    refine tw O C P hk hu f l ((l+r)/2) (by omega) (by omega) (by omega) h4 (λi hi hik=>?_) hq;by_cases hr:i=(l+r)/2
    .rw[hr];exact z
    .exact O.tr _ _ _ z (hu _ _ (by omega) hik)
   |
    false=>
    refine tw O C P hk hu f ((l+r)/2+1) r (by omega) h2 (by omega) (λi hi=>?_) h5 hq;have y:=O.flip P (show (l+r)/2<k by omega) hk z;by_cases hr:i=(l+r)/2
    .rw[hr];exact y
    .exact O.tr _ _ _ (hu _ _ (by omega) (by omega)) y
def zb{p:Array Nat}{k l t:Nat}(hk:k<p.size)(hl:l<=k):(bubble p k (k-l)).getD t 0=if t=l then p.getD k 0 else if l<t/\t<=k then p.getD (t-1) 0 else p.getD t 0:=by
 have e:=getElem?_bubble hk (k-l) (by omega) t;rw[show k-(k-l)=l by omega] at e;rw[eS,e];by_cases h:t=l
 .rw[if_pos h,if_pos h,eS]
 .rw[if_neg h,if_neg h];by_cases h':l<t/\t<=k
  .rw[if_pos h',if_pos h',eS]
  .rw[if_neg h',if_neg h',eS]
theorem Aj(O:LtO lt N)(C:Ans cmp lt N s){Q:Array Nat->Shared->Prop}(hq:∀p,p.toList.Perm (List.range N)->UpTo lt p N->Q p s):∀(f:Nat) (p:Array Nat) (k:Nat),p.toList.Perm (List.range N)->k+f=N->1<=k->UpTo lt p k->(kas_bin f p k).kasWp cmp Q s
 |
  0,p,k,P,hf,h1,hu=>by
  obtain rfl:k=N:=by omega
  exact hq p P hu
 |
  f+1,p,k,P,hf,h1,hu=>by
  have sz:=(PmO.of P).sz;unfold kas_bin;rw[KasT.kasWp_bind];refine tw O C (PmO.of P) (by omega) hu k 0 k (by omega) (t_ _) (by omega) (λi hi=>by omega) (λi h1 h2=>by omega) λm hm ha hb=>?_;refine Aj O C hq f _ (k+1) ((Array.perm_iff_toList_perm.mp (bubble_perm _ _ _)).trans P) (by omega) (by omega) λi j hij hj=>?_;rw[zb (by omega) hm,zb (by omega) hm];by_cases i1:i=m
  .rw[if_pos i1];rw[if_neg (by omega),if_pos (by omega)];exact hb _ (by omega) (by omega)
  .rw[if_neg i1];by_cases j1:j=m
   .rw[if_pos j1,if_neg (by omega)];exact ha i (by omega)
   .rw[if_neg j1];by_cases i2:m<i
    .rw[if_pos (by omega),if_pos (by omega)];exact hu _ _ (by omega) (by omega)
    .rw[if_neg (by omega)];by_cases j2:m<j
     .rw[if_pos (by omega)];exact hu _ _ (by omega) (by omega)
     .rw[if_neg (by omega)];exact hu _ _ (by omega) (by omega)
def F8(O:LtO lt N)(C:Ans cmp lt N s)(hN:1<=N){Q:Array Nat->Shared->Prop}(hq:∀p,p.toList.Perm (List.range N)->UpTo lt p N->Q p s):(kas_sort N).kasWp cmp Q s:=by
 unfold kas_sort;rw[KasT.kasWp_bind];refine Ck O C (by simp) hN λm p P h1 h2 hu=>?_;dsimp only;by_cases h:m<N
 .rw[if_pos h,show max m 1=m by omega];exact Aj O C hq _ _ _ P (by omega) h1 hu
 .rw[if_neg h];obtain rfl:m=N:=by omega
  exact hq p P hu
def DP(H:Hp):Prop:=∀b,H b=none\/(∃o xs,H b=some (.frz o xs))\/H b=some (.tbl #[])
structure TabsOk(K:W.Frag)(ts:List Addr)(h:Heap):Prop where
 at_:∀P∈ts,h.get? P=some (W.tabObj #[])
 no:∀P∈ts,K.lookup P=none
 cd:∀P∈ts,∃c,W.codeHdIn K c P=true
def spT(K:W.Frag)(mg:Pp)(ts:List Addr):Sp:=λvs H Q _=>∃(a:Addr) (ns:List Int),vs=[.ref a]/\DP H/\SqL K H a (ns.map V.int)/\ns.length<=63/\(∀P∈ts,H P=some (.tbl #[]))/\tZ K mg H/\∀H',Q (.bl true) H'
def LS{Pr:Program}{w:World}{K:W.Frag}{mg mb:Pp}{k:Nat}{fa a:Addr}{fd:FuncData}{x:Str}{s1:Shared}{vs:List Value}{ns:List Int}{ts:List Addr}
 (KX:K.In s1.heap) (hns:s1.heap.Ns mainGlobals mg) (hb:s1.heap.Ns builtinsNs mb) (hbb:∀y:Str,y ≠ "__name__"->mb y=bootBuiltins y) (hlim:s1.heap.NoLimit) (hg:s1.gens=#[]) (TO:TabsOk K ts s1.heap) (hbm:∃bm ob,mg "__builtins__"=some (.ref bm)/\bm≠builtinsNs/\s1.heap.get? bm=some ob/\ob.cls=.type "module" /\ ob.dict=some builtinsNs/\ob.data=.plain)
 (ha:s1.heap.get? a=some { cls:=.type "list",data:=.seq vs.toArray }) (hi:IntsAre vs ns) (hl:ns.length<=63) (hr:Room k callerA)
 (F:∀base:Heap,K.In base->base.Ns mainGlobals mg->FnOk Pr w K mg base (CX1 Pr w) k fa fd [x] (spT K mg ts)) (hbind:∀(s:Shared) (u:Value),BindsTo s fd ⟨[u],[]⟩ [(x,u)]):
 codeAny (model Pr w) callerA (.call (.ref fa) ⟨[.ref a],[]⟩) (λr s'=>r=.ok (.ret (.bool true))/\OldK s1.heap s'.heap/\s'.os=s1.os/\AllBare s'.gens) s1:=by
 have rv:=jJ hi;have hz:ns.length<=sizeLine:=My hl (by decide);have ant:a∉ts:=λz=>by
  have:=TO.at_ a z
  rw[ha] at this;cases this
 obtain⟨bm,ob,b1,b2,b3,b4,b5,b6⟩:=hbm;have bmG:bm≠mainGlobals:=λz=>by obtain⟨o,es,ep,e,dd,_⟩:=hns;rw[z,e] at b3;cases b3;rw[dd] at b6;cases b6
 have bmt:bm∉ts:=λz=>by
  have:=TO.at_ bm z
  rw[b3] at this;cases this;cases b6
 have bma:bm≠a:=λz=>by rw[z,ha] at b3;cases b3;cases b6
 have go
  : ∀Hs:Option HO,(Hs=none\/∃o xs,Hs=some (.frz o (.lst xs)))->(∀u,Hs=some u->ObjOk Pr w (λ_=>none) s1.heap a u)->(Hs≠none->K.lookup a=none)->(∀H:Hp,H a=Hs->SqL K H a (ns.map V.int))->
  codeAny (model Pr w) callerA (.call (.ref fa) ⟨[.ref a],[]⟩) (λr s'=>r=.ok (.ret (.bool true))/\OldK s1.heap s'.heap/\s'.os=s1.os/\AllBare s'.gens) s1:=by
  intro Hs h1 h2 h3 h4;obtain⟨H,eH⟩:∃H:Hp,H=λb=>if b=a then Hs else if b∈ts then some (.tbl #[]) else if b=bm/\K.lookup bm=none then some (.frz ob (.ext λ_=>True)) else none:=⟨_,rfl⟩
  have Ha:H a=Hs:=by rw[eH];exact if_pos rfl
  have Ht:∀P∈ts,H P=some (.tbl #[]):=λP hP=>by rw[eH];show (if P=a then _ else _)=_;rw[if_neg (λz=>ant (by rw[<- z];exact hP)),if_pos hP]
  have Hb:K.lookup bm=none->H bm=some (.frz ob (.ext λ_=>True)):=λq=>by rw[eH];show (if bm=a then _ else _)=_;rw[if_neg bma,if_neg bmt,if_pos ⟨rfl,q⟩]
  have Hn
   : ∀b,H b≠none->(b=a/\Hs≠none)\/b∈ts\/(b=bm/\K.lookup bm=none):=λb n=>by
   by_cases q:b=a
   .exact .inl ⟨q,by rw[<- Ha,<- q];exact n⟩
   .by_cases q2:b∈ts
    .exact .inr (.inl q2)
    .by_cases q3:b=bm/\K.lookup bm=none
     .exact .inr (.inr q3)
     .refine absurd ?_ n;rw[eH];show (if b=a then _ else _)=_;rw[if_neg q,if_neg q2,if_neg q3]
  have hO:DP H:=λb=>by
   by_cases n:H b=none
   .exact .inl n
   .rcases Hn b n with ⟨e,n2⟩ |e |⟨e,y⟩
    .rw[e,Ha];rcases h1 with z |⟨o,xs,z⟩
     .exact absurd z n2
     .exact .inr (.inl ⟨_,_,z⟩)
    .exact .inr (.inr (Ht b e))
    .rw[e];exact .inr (.inl ⟨_,_,Hb y⟩)
  have hok:HOk Pr w H s1.heap:=λb u e=>by
   rcases Hn b (by rw[e];simp) with ⟨z,n2⟩ |z |⟨z,y⟩
   .subst z;rw[Ha] at e;have q:=h2 u e;rcases h1 with y |⟨o,xs,y⟩
    .exact absurd y n2
    .rw[e] at y;cases y;exact q
   .have y:=Ht b z;rw[e] at y;cases y;exact TO.at_ b z
   .subst z;rw[Hb y] at e;cases e;exact⟨b3,trivial,⟨ob,b3⟩,λ_ _ _ _=>trivial⟩
  have keep:∀{b:Addr}{o:Obj},s1.heap.get? b=some o->H b=none->(fk s1.heap H).get? b=some o:=λe n=>tI e n;have noD:∀{b:Addr}{o:Obj}{es:Array DictEntry}{ep:Nat},s1.heap.get? b=some o->o.data=.dict es ep->H b=none:=λ{b o es ep} e dd=>by
   by_cases n:H b=none
   .exact n
   .rcases Hn b n with ⟨z,_⟩ |z |⟨z,_⟩
    .subst z;rw[ha] at e;cases e;cases dd
    .rw[TO.at_ b z] at e;cases e;cases dd
    .subst z;rw[b3] at e;cases e;rw[b6] at dd;cases dd
  have nsK:∀{b:Addr}{m:Pp},s1.heap.Ns b m->(fk s1.heap H).Ns b m:=λ{b m} ⟨o,es,ep,e,dd,r⟩=>⟨o,es,ep,keep e (noD e dd),dd,r⟩;have kb:K.In (fk s1.heap H):=λb o e=>keep (KX b o e) (by
   by_cases n:H b=none
   .exact n
   .rcases Hn b n with ⟨z,y⟩ |z |⟨z,y⟩
    .subst z
     have:=h3 y
     rw[e] at this;cases this
    .have:=TO.no b z
     rw[e] at this;cases this
    .subst z;rw[e] at y;cases y)
  have hM:Mod K mg (fk s1.heap H):=⟨kb,nsK hns,⟨mb,nsK hb,hbb⟩,let ⟨mc,q1,q2⟩:=hlim;⟨mc,nsK q1,q2⟩⟩;have e0:Env0 Pr w K mg (fk s1.heap H) callerA [] s1 H:=⟨rfl,hM,λb o e=>vZ e,Nat.le_of_eq (oX _ _),trivial,λb z=>absurd (show b∈([]:List Addr) from z) (by simp),hok,.of_eq hg⟩;refine O8 ((F _ kb (nsK hns)).run callerA [] s1 H ⟨[.ref a],[]⟩ [.ref a] [.ref a] (λv _=>v=.bl true) (λ_ _ _=>False) hr e0 (hbind s1 (.ref a)) (.cons rfl .nil) ⟨a,ns,rfl,hO,h4 H Ha,hl,Ht,?bm,λ_=>rfl⟩) λr s' h=>?_
  case bm=>
   refine⟨bm,ob,b1,b2,bmG,⟨b4,b5,b6⟩,?_⟩;cases q:K.lookup bm with
   |none=>exact .inr ⟨_,Hb q⟩
   |
    some o=>
    have:=KX bm o q
    rw[b3] at this;cases this;exact .inl rfl
  cases r with
  |error e=>obtain⟨_,_,_,_,_,_,_,z⟩:=h;exact z.2.2.elim
  |
   ok fl=>
   cases fl with
   |next=>exact False.elim h
   |brk=>exact False.elim h
   |cont=>exact False.elim h
   |
    ret u=>
    obtain⟨v,H',os,bare,un,hok',r',q⟩:=h;have q':v=.bl true:=q;subst q';obtain rfl:u=Value.bool true:=r';refine⟨rfl,⟨λb o e=>?_,λb o e=>?_⟩,os,bare⟩
    .by_cases n:H b=none
     .exact .inl (un.keep b o e n (λz=>absurd (show b∈([]:List Addr) from z) (by simp)) (by simp))
     .have fz:∀ob xs,H b=some (.frz ob xs)->asItWas s1.heap s'.heap b o:=λob xs y=>by have y2:=un.frzs b ob _ y;obtain⟨e1,_⟩:=hok b _ y;obtain⟨e2,_⟩:=hok' b _ y2;rw[e] at e1;cases e1;exact .inl e2
      rcases Hn b n with ⟨z,n2⟩ |z |⟨z,y⟩
      .rcases h1 with y |⟨ob,xs,y⟩
       .exact absurd y n2
       .exact fz _ _ (by rw[z,Ha];exact y)
      .obtain⟨more,y⟩:=un.tbls b #[] (Ht b z);obtain⟨c,hc⟩:=TO.cd b z;have tab:=(W.codeHd_of_K KX hc).tab (TO.at_ b z);have e2:=TO.at_ b z;rw[e] at e2;cases e2;exact .inr (.inl ⟨tab.isCodeTable,rfl,#[],more,rfl,hok' b _ y⟩)
      .exact fz _ _ (by rw[z];exact Hb y)
    .exact un.there b o e (by simp)
 cases hk:K.lookup a with
 |some o=>have e:=KX a o hk;rw[ha] at e;cases e;exact go none (.inl rfl) (λu z=>nomatch z) (λz=>absurd rfl z) λH _=>.inr ⟨_,vs.toArray,_,hk,rfl,rfl,rfl,by rw[z_,hi.length];exact hz,by simpa using rv⟩
 |none=>exact go (some (.frz { cls:=.type "list",data:=.seq vs.toArray } (.lst (ns.map V.int)))) (.inr ⟨_,_,rfl⟩) (λu z=>by cases z;exact⟨ha,by rw[p_];exact hz,vs,_,rv,ha⟩) (λ_=>hk) λH e=>.inl (.inr ⟨_,e⟩)
def walk_lawT{l:W.OpenLaw}{q:Program}{loose:List Str}{XP:(Str->Option Value)->Heap->Prop}{YP:World->Heap->Prop}{d:DefRec}{K:Params->W.Frag}{x:Str}{k:Nat}{ts:List Addr}(hn:l.most=some 63)(hdf:d.params.defaults=[])(hr:Room k callerA)
 (hY:∀(w:World) (h:Heap),YP w h->(K w.params).In h/\TabsOk (K w.params) ts h)
 (F:∀(w:World) (mg:Pp) (h:Heap),(K w.params).In h->h.Ns mainGlobals mg->∀base:Heap,(K w.params).In base->base.Ns mainGlobals mg->Callee l.prog w (K w.params) mg base d.name k [x] (spT (K w.params) mg ts))
 (Dd:∀(w:World) (mg:Pp) (h:Heap),(K w.params).In h->h.Ns mainGlobals mg->∃st,Def (K w.params) mg d.name st/\∀(kV doc pm:Value) (an:Option Addr) (cdv ct:Value) (us:List Value),us.length=1->bindArgs (W.fnOf d.name d.name (c7 st) (bD st) (aq st) .none kV doc pm an cdv ct) ⟨us,[]⟩=pure ([x].zip us)):
 W.WalkO q loose XP YP l.row.toRowW d [] (λf vs=>PySem.call f vs):=by
 refine Att.attach_call hn hdf λw s0 s1 mg mb fa o pm cd doc a vs ns G Y ho hd l_ hmg hobj hints a_ hg=>?_;obtain⟨KX,TO⟩:=hY w _ Y;obtain⟨st,De,hbind⟩:=Dd w mg _ KX G.T.g;obtain⟨f,fd,Ff,m⟩:=De.ex;have e:=hmg.symm.trans m;cases e;obtain⟨oc,od,kV,doc',pm',an,cdv,ct,osl,rfl,lk,hcd'⟩:=Ff.ex;refine LS KX G.T.g G.T.b G.T.builtins G.T.nolimit hg TO G.T.bmain hobj hints a_ hr (λbase kb nb=>?_) (λs u=>.of_eq (hbind kV doc' pm' an cdv ct [u] rfl));obtain⟨f',fd',F',m',kp',b',oc',od',osl',lk'⟩:=(F w mg _ KX G.T.g base kb nb).ex;rw[m] at m';cases m';rw[lk] at lk';cases lk';exact F'
noncomputable def bA (x y:Int×Int):Bool:=decide (x.1<y.1\/(x.1=y.1/\x.2<y.2))
def ug(x:Int×Int):bA x x=false:=by unfold bA;rw[N4];omega
def wm{x y z:Int×Int}(h1:bA x y=true)(h2:bA y z=true):bA x z=true:=by unfold bA at *;rw[Nv] at *;omega
def tO{x y:Int×Int}(h:x≠y):bA x y=true\/bA y x=true:=by unfold bA;rw[Nv,Nv];have:¬ (x.1=y.1/\x.2=y.2):=λz=>h (Prod.ext z.1 z.2);omega
def u5{α:Type}(d:α)(ks:List α):((List.range ks.length).map λi=>ks.getD i d)=ks:=List.ext_getElem (by simp) λi _ h=>by simp [h]
def yH{x y:Int×Int}(h1:bA x y=true):bA y x=false:=by
 cases z:bA y x with
 |false=>rfl
 |true=>have:=wm h1 z;rw[ug] at this;cases this
def EZ{α:Type}{k:α->Int×Int}{a b:List α}(h:a.Pairwise λx y=>bA (k x) (k y)=true)(h':b.Pairwise λx y=>bA (k x) (k y)=true)(p:a.Perm b):a=b:=p.eq_of_pairwise (λx y _ _ h1 h2=>by rw[yH h1] at h2;cases h2) h h'
def KR{α:Type}(k:α->Int×Int)(hk:∀{x y},k x=k y->x=y){l:List α}(nd:l.Nodup):(l.mergeSort λx y=>!bA (k y) (k x)).Pairwise λx y=>bA (k x) (k y)=true:=by
 have srt:=List.pairwise_mergeSort (le:=λx y:α=>!bA (k y) (k x)) (λa b c h1 h2=>by
  simp only[bA,Og,N4] at *;omega) (λa b=>by
  simp only[bA,N7,Og,N4];omega) l
 refine List.Pairwise.imp (λ{a b} h=>?_) (List.Pairwise.and ((List.mergeSort_perm ..).nodup_iff.mpr nd) srt)
 have:=h.2
 simp only[Og] at this;exact (tO λy=>h.1 (hk y)).resolve_right (by rw[this];exact Bool.noConfusion)
noncomputable def ltP (ks:List (Int×Int)) (i j:Nat):Bool:=bA (ks.getD i (0,0)) (ks.getD j (0,0))
def Il{ks:List (Int×Int)}(nd:ks.Nodup):LtO (ltP ks) ks.length where
 irr:=λi=>ug _
 tr:=λi j k h1 h2=>wm h1 h2
 tot:=λi j hi hj hne=>by
  refine tO ?_;rw[Mo,Mo,v_ hi,v_ hj];show ks[i]≠ks[j];rcases Nat.lt_or_gt_of_ne hne with z |z
  .exact Nf.mp nd i j hi hj z
  .exact λy=>Nf.mp nd j i hj hi z y.symm
def Ey{ks:List (Int×Int)}{n:Nat}{p:Array Nat}(h1:p.toList.Perm (List.range n))(h2:UpTo (ltP ks) p n):p.toList.Pairwise λi j=>bA (ks.getD i (0,0)) (ks.getD j (0,0))=true:=by
 have sz:=(PmO.of h1).sz;rw[Nf];intro i j hi hj hij;rw[M0] at hi hj
 have:=h2 i j hij (by omega)
 rw[eS,eS,OA hi,OA hj] at this;exact this
def TupAt(h:Heap)(v:Value)(x:Int×Int):Prop:=∃(a:Addr) (e:Nat) (dd:Option Addr) (sl:Array (Option Value)) (t1 t2:Tok),v=.ref a/\h.get? a=some { cls:=.type "tuple",dict:=dd,data:=.seq #[.int x.1 t1,.int x.2 t2] e,slots:=sl }
def TupAt.keep{h h':Heap}{v:Value}{x:Int×Int}{b:Addr}(t:TupAt h v x)(hb:∃o,h.get? b=some o/\o.cls=.type "list")(k:∀c o,c≠b->h.get? c=some o->h'.get? c=some o):TupAt h' v x:=by obtain⟨a,e,dd,sl,t1,t2,rfl,ha⟩:=t;obtain⟨o,ho,hc⟩:=hb;exact⟨a,e,dd,sl,t1,t2,rfl,k a _ (λz=>by rw[z,ho] at ha;cases ha;injection hc with hc;exact absurd hc (by decide)) ha⟩
def TupAt.mono{h h':Heap}{v:Value}{x:Int×Int}(t:TupAt h v x)(k:∀c o,h.get? c=some o->h'.get? c=some o):TupAt h' v x:=by obtain⟨a,e,dd,sl,t1,t2,rfl,ha⟩:=t;exact⟨a,e,dd,sl,t1,t2,rfl,k a _ ha⟩
section
variable{prog:Program}{w:World}{A:Around}{E:Pu}{s:Shared}
def Ex{v u:Value}{x y:Int×Int}{Q:Bool->Shared->Prop}(hv:TupAt s.heap v x)(hu:TupAt s.heap u y)(h:Q (bA x y) s):wpAny (model prog w) A (keyLt' (tuples' true) v u) Q E s:=by
 obtain⟨a,e,dd,sl,t1,t2,rfl,ha⟩:=hv;obtain⟨b,e',dd',sl',t3,t4,rfl,hb⟩:=hu;refine kat_lt ha rfl hb rfl ?_;show KatLex prog w A true false Q [(.int x.1 t1,.int y.1 t3),(.int x.2 t2,.int y.2 t4)] 0 s;refine kat_cons (wpAny_eqBool_int ?_);by_cases h1:x.1=y.1
 .rw[show (x.1==y.1)=true from MD.mpr h1];refine kat_yes (kat_cons (wpAny_eqBool_int ?_));by_cases h2:x.2=y.2
  .rw[show (x.2==y.2)=true from MD.mpr h2];refine kat_yes (kat_nil ?_);rw[show bA x y=false from by unfold bA;rw[N4];omega] at h;exact h
  .rw[show (x.2==y.2)=false from H_.mpr h2];refine kat_no (kat_one _ _ (lt_int ?_));rw[show bA x y=decide (x.2<y.2) from OV.mpr (by omega)] at h;exact h
 .rw[show (x.1==y.1)=false from H_.mpr h1];refine kat_no (oneLt_int ?_);rw[show bA x y=decide (x.1<y.1) from OV.mpr (by omega)] at h;exact h
def TupsAt(h:Heap):List Value->List (Int×Int)->Prop
 | [],[]=>True
 |v::vs,x::xs=>TupAt h v x/\TupsAt h vs xs
 |_,_=>False
theorem TupsAt.len{h:Heap}:∀{vs:List Value}{xs:List (Int×Int)},TupsAt h vs xs->vs.length=xs.length
 | [],[],_=>rfl
 | [],_::_,t=>t.elim
 |_::_,[],t=>t.elim
 |_::_,_::_,t=>by rw[D_,D_,t.2.len]
theorem TupsAt.get{h:Heap}:∀{vs:List Value}{xs:List (Int×Int)} (i:Nat),TupsAt h vs xs->i<xs.length->TupAt h (vs.getD i Value.none) (xs.getD i (0,0))
 | [],[],i,_,hi=>absurd hi (by simp)
 | [],_::_,i,t,_=>t.elim
 |_::_,[],i,t,_=>t.elim
 |_::_,_::_,0,t,_=>t.1
 |_::vs,_::xs,i+1,t,hi=>TupsAt.get (vs:=vs) (xs:=xs) i t.2 (by simpa using hi)
theorem TupsAt.imp{h h':Heap}(k:∀v x,TupAt h v x->TupAt h' v x):∀{vs:List Value}{xs:List (Int×Int)},TupsAt h vs xs->TupsAt h' vs xs
 | [],[],_=>trivial
 | [],_::_,t=>t.elim
 |_::_,[],t=>t.elim
 |_::_,_::_,t=>⟨k _ _ t.1,t.2.imp k⟩
theorem TupsAt.snoc{h:Heap}{v:Value}{x:Int×Int}(tv:TupAt h v x):∀{vs:List Value}{xs:List (Int×Int)},TupsAt h vs xs->TupsAt h (vs++[v]) (xs++[x])
 | [],[],_=>⟨tv,trivial⟩
 | [],_::_,t=>t.elim
 |_::_,[],t=>t.elim
 |_::_,_::_,t=>⟨t.1,t.2.snoc tv⟩
theorem TupsAt.kat{h:Heap}:∀{vs:List Value}{xs:List (Int×Int)},TupsAt h vs xs->∃fs,KatTups h vs fs/\fs.length=xs.length/\∀f∈fs,∃i t,f=Value.int i t
 | [],[],_=>⟨[],trivial,rfl,λf z=>nomatch z⟩
 | [],_::_,t=>t.elim
 |_::_,[],t=>t.elim
 |
  _::_,x::_,t=>by
  obtain⟨fs,k,l,q⟩:=t.2.kat;obtain⟨a,e,dd,sl,t1,t2,rfl,ha⟩:=t.1;refine⟨.int x.1 t1::fs,⟨⟨a,_,_,_,rfl,ha,rfl,rfl,rfl⟩,k⟩,by rw[D_,D_,l],λf hf=>?_⟩;rcases F_.mp hf with rfl |hf
  .exact⟨_,_,rfl⟩
  .exact q f hf
def xr{vs:List Value}{xs:List (Int×Int)}{Q:SortKind->Shared->Prop}(t:TupsAt s.heap vs xs)(h2:2<=xs.length)(h:Q (tuples' true) s):wpAny (model prog w) A (keyKind' vs.toArray) Q E s:=by obtain⟨fs,k,l,q⟩:=t.kat;refine kat_kind (T:=.type "int") k (by omega) (λf hf=>?_) (by decide) h;obtain⟨i,t,rfl⟩:=q f hf;exact .now
def yq{vs:List Value}{xs:List (Int×Int)}(t:TupsAt s.heap vs xs):Ans (kas_ask prog w A (tuples' true) vs) (ltP xs) xs.length s:=λi j C hi hj c=>Ex (t.get i hi) (t.get j hj) c
def Di{β:Type}{vs ks:List Value}{xs:List (Int×Int)}{k:Unit×SortSt->Sem β}{P:β->Shared->Prop}(hkl:ks.length=vs.length)(h64:vs.length<64)(T:TupsAt s.heap ks xs)(nd:xs.Nodup)(h:∀(p:Array Nat) st',p.toList.Perm (List.range vs.length)->UpTo (ltP xs) p vs.length->(arrOf st').map (λp:Keyed=>p.2)=List.toArray (p.toList.map λi=>vs.getD i Value.none)->failedOf st'=none->wpAny (model prog w) A (k ((),st')) P E s):
 wpAny (model prog w) A (let f:=λκ=>(if vs.toArray.size<2 then pure () else sortRuns').run (SortSt.mk' κ (ks.toArray.zip vs.toArray) #[] 7 none) >>= k;if vs.toArray.size<2 then pure general' >>= f else keyKind' ks.toArray >>= f) P E s:=by
 dsimp only;have kl:=T.len;by_cases h2:vs.toArray.size<2
 .rw[if_pos h2,if_pos h2];rw[z_] at h2;refine o_ <| B_ ?_;rw[StateT.run_pure];refine o_ <| B_ (h (List.toArray (List.range vs.length)) _ (.refl _) (λi j hij hj=>by omega) ?_ rfl);show (ks.toArray.zip vs.toArray).map (λp:Keyed=>p.2)=List.toArray ((List.range vs.length).map _);rw[u5];apply Array.toList_inj.mp;rw[Array.toList_map,ksk_zip];exact List.map_snd_zip (by simp [hkl])
 .rw[if_neg h2,if_neg h2];rw[z_] at h2;refine o_ <| xr T (by omega) ?_;have an:=yq (prog:=prog) (w:=w) (A:=A) T;have O:=Il nd;rw[<- kl,hkl] at an O;have run:=kat_run (prog:=prog) (w:=w) (A:=A) (E:=E) (κ:=tuples' true) (s:=s) (Q:=λst' s'=>s'=s/\wpAny (model prog w) A (k ((),st')) P E s) (G:=λp s'=>s'=s/\p.toList.Perm (List.range vs.length)/\UpTo (ltP xs) p vs.length) hkl (by omega) h64
   (λp st' s' a1 a2 a3 a4=>⟨a4.1,h p st' a4.2.1 a4.2.2 (kat_snds hkl a2) a3⟩) (F8 O an (by omega) λp p1 p2=>⟨rfl,p1,p2⟩)
  refine o_ <| ML run ?_ λ_ _ z=>z;rintro⟨⟨⟩,st'⟩ _ ⟨rfl,z⟩;exact z
end
set_option maxHeartbeats 4000000
section
variable{prog:Program}{w:World}{A:Around}{E:Pu}{s:Shared}
def AZ{a kS:Addr}{st:SortSt}{out ks:List Value}{e e1:Nat}{P:PySem.Fin->Shared->Prop}(hk:s.heap.get? kS=some (seqObj "list" (List.toArray ks) e))(ha:s.heap.get? a=some (seqObj "list" #[] e1))(hne:kS≠a)(hout:(arrOf st).map (λp:Keyed=>p.2)=List.toArray out)(hf:failedOf st=none)(hz:out.length<64)(hkz:ks.length<64)
 (h:∀h' c,(∀b o,b≠kS->b≠a->s.heap.get? b=some o->h'.get? b=some o)->h'.get? a=some (seqObj "list" out.toArray c)->P (.done (.ret .none)) { s with heap:=h' }):wpAny (model prog w) A (ksk_tail a false e1 (.ref kS) st) P E s:=by
 have u1:=NF s.heap kS (Obj.mapSeq λ_=>(#[]:Array Value));have a1:=(u1.2 a hne.symm).trans ha;have u2:=NF (s.heap.update kS (Obj.mapSeq λ_=>(#[]:Array Value))) a (Obj.mapSeq λ_=>(arrOf st).map (·.2));obtain⟨c,hc⟩:∃c,((s.heap.update kS (Obj.mapSeq λ_=>(#[]:Array Value))).update a (Obj.mapSeq λ_=>(arrOf st).map (·.2))).get? a=some (seqObj "list" ((arrOf st).map (·.2)) c):=⟨_,get?_update_seq a1 λ_=>(arrOf st).map (·.2)⟩;have zs:((arrOf st).map (·.2)).size<64:=by rw[hout];exact hz
 have big:sizeLine=16777216:=rfl;unfold ksk_tail;try dsimp only
 refine o_ <| Pl hk rfl ?_ (by rw[z_];omega) (MV _);refine o_ <| wpAny_letGo ?_;refine o_ <| seqEpoch_at a1 rfl ?_;refine o_ <| Pl a1 rfl ?_ (MV _) (by show ((arrOf st).map (·.2)).size<=_;omega);rw[hf];simp only[bne_self_eq_false,N6,OW];exact B_ (h _ c (λb o n1 n2 z=>(u2.2 b n2).trans ((u1.2 b n1).trans z)) (hc.trans (by rw[hout])))
def ET{a kS:Addr}{vs ks:List Value}{xs:List (Int×Int)}{e e1:Nat}{P:PySem.Fin->Shared->Prop}(hl:xs.length=vs.length)(h64:vs.length<64)(T:TupsAt s.heap ks xs)(nd:xs.Nodup)(hk:s.heap.get? kS=some (seqObj "list" (List.toArray ks) e))(ha:s.heap.get? a=some (seqObj "list" #[] e1))(hne:kS≠a)
 (h:∀(p:Array Nat) h' c,p.toList.Perm (List.range vs.length)->UpTo (ltP xs) p vs.length->(∀b o,b≠kS->b≠a->s.heap.get? b=some o->h'.get? b=some o)->h'.get? a=some (seqObj "list" (p.toList.map λi=>vs.getD i Value.none).toArray c)->P (.done (.ret .none)) { s with heap:=h' }):
 wpAny (model prog w) A (ksk_end a false vs.toArray e1 (.ref kS) ks.toArray) P E s:=by
 have hkl:ks.length=vs.length:=by rw[T.len,hl]
 unfold ksk_end;try dsimp only
 refine Di hkl h64 T nd λp st' p1 p2 out hf=>?_;exact AZ hk ha hne out hf (by rw[p_,p1.length_eq,A_];exact h64) (by omega) λh' c k z=>h p h' c p1 p2 k z
def AR{a:Addr}{f:Value}{vs:List Value}{n:Nat}{xs:List (Int×Int)}{P:PySem.Fin->Shared->Prop}(ho:s.heap.get? a=some (seqObj "list" vs.toArray n))(h64:vs.length<64)(hx:xs.length=vs.length)(nd:xs.Nodup)
 (hc:∀(i:Nat) (v:Value) (x:Int×Int) (h':Heap) (tk:Nat),vs[i]?=some v->xs[i]?=some x->(∀b o,b≠a->s.heap.get? b=some o->h'.get? b=some o)->wpAny (model prog w) A (call f [v]) (λk s2=>∃h2 tk2,s2={ s with heap:=h2,toks:=tk2 }/\(∀b o,h'.get? b=some o->h2.get? b=some o)/\TupAt h2 k x) (λ_ _=>False) { s with heap:=h',toks:=tk })
 (h:∀(p:Array Nat) h' c tk,p.toList.Perm (List.range vs.length)->UpTo (ltP xs) p vs.length->(∀b o,b≠a->s.heap.get? b=some o->h'.get? b=some o)->h'.get? a=some (seqObj "list" (p.toList.map λi=>vs.getD i Value.none).toArray c)->P (.done (.ret .none)) { s with heap:=h',toks:=tk }):
 wpAny (model prog w) A (ksk_tree a f false) P E s:=by
 have lt:=C_ ho;have u1:=NF s.heap a (Obj.mapSeq λ_=>(#[]:Array Value));obtain⟨e1,a1⟩:∃e1,(s.heap.update a (Obj.mapSeq λ_=>(#[]:Array Value))).get? a=some (seqObj "list" #[] e1):=⟨_,get?_update_seq ho λ_=>#[]⟩;have big:sizeLine=16777216:=rfl;unfold ksk_tree;refine o_ <| listItems_at ho rfl ?_;refine o_ <| Pl ho rfl ?_ (by rw[z_];omega) (MV _);refine o_ <| seqEpoch_at a1 rfl ?_;refine o_ <| wpAny_newTuple ?_ (by show vs.length<=_;omega);refine o_ <| wpAny_newList ?_ (MV _);refine Nq ?_;obtain⟨h3,e3⟩:∃h3,h3=((s.heap.update a (Obj.mapSeq λ_=>(#[]:Array Value))).push (seqObj "tuple" vs.toArray 0)).push (seqObj "list" #[] 0):=⟨_,rfl⟩;obtain⟨kS,ek⟩:∃kS,kS=((s.heap.update a (Obj.mapSeq λ_=>(#[]:Array Value))).push (seqObj "tuple" vs.toArray 0)).objs.size:=⟨_,rfl⟩;have hk0:h3.get? kS=some (seqObj "list" #[] 0):=by rw[e3,ek];exact G_ _ rfl
 have ha0:h3.get? a=some (seqObj "list" #[] e1):=by rw[e3];exact r_ _ (r_ _ a1)
 have hlt:a<kS:=by rw[ek,size_push',Heap.size_update];exact Nat.lt_succ_of_lt lt
 have k0:∀b o,b≠a->s.heap.get? b=some o->b≠kS/\h3.get? b=some o:=λb o n z=>⟨λy=>by
  have:=C_ z
  rw[y,ek,size_push',Heap.size_update] at this;exact Na _ (Nat.lt_of_succ_lt this),by rw[e3];exact r_ _ (r_ _ ((u1.2 b n).trans z))⟩
 show wpAny (model prog w) A (ksk_rest a f false vs.toArray e1 (.ref ((s.heap.update a (Obj.mapSeq λ_=>(#[]:Array Value))).push (seqObj "tuple" vs.toArray 0)).objs.size)) P E { s with heap:=((s.heap.update a (Obj.mapSeq λ_=>(#[]:Array Value))).push (seqObj "tuple" vs.toArray 0)).push (seqObj "list" #[] 0) };rw[<- e3,<- ek];clear e3 ek;unfold ksk_rest;refine o_ <| wpAny_rule ?_;rw[List.forIn_toArray];refine o_ <| ksk_fold (λi s'=>∃h' tk ks e,s'={ s with heap:=h',toks:=tk }/\(∀b o,b≠kS->h3.get? b=some o->h'.get? b=some o)/\h'.get? kS=some (seqObj "list" (List.toArray ks) e)/\TupsAt h' ks (xs.take i)/\i<=vs.length) vs 0 _ ⟨h3,s.toks,[],0,rfl,λb o _ z=>z,hk0,by rw[List.take_zero];trivial,MV _⟩ (λj v s' hv I=>?_) λs' I=>?_
 .rw[O4] at I ⊢;obtain⟨h',tk,ks,e,rfl,k,hk,T,hi⟩:=I;have hj:j<vs.length:=(u_.mp hv).1;have ex:xs[j]?=some (xs[j]'(by omega)):=v_ (by omega);have tl:=T.len;rw[MH] at tl;refine o_ <| OQ <| ML (hc j v _ h' tk hv ex λb o n z=>k b o (k0 b o n z).1 (k0 b o n z).2) (λkv s2 hq=>?_) λ_ _ z=>z.elim;obtain⟨h2,tk2,rfl,k2,tp⟩:=hq;have hk2:=k2 kS _ hk;have u2:=NF h2 kS (Obj.mapSeq (·.push kv));obtain⟨c2,hc2⟩:∃c2,(h2.update kS (Obj.mapSeq (·.push kv))).get? kS=some (seqObj "list" (List.toArray (ks++[kv])) c2):=⟨_,by rw[<- List.push_toArray];exact get?_update_seq hk2 (·.push kv)⟩;try dsimp only
  refine o_ <| Pl hk2 rfl ?_ (by rw[z_];omega) (by rw[Array.size_push,z_];omega);refine B_ ⟨rfl,_,tk2,ks++[kv],c2,rfl,λb o n z=>(u2.2 b n).trans (k2 b o (k b o n z)),hc2,?_,by omega⟩;have kp:∀v x,TupAt h2 v x->TupAt (h2.update kS (Obj.mapSeq (·.push kv))) v x:=λv x t=>t.keep (b:=kS) ⟨_,hk2,rfl⟩ λc o n z=>(u2.2 c n).trans z;rw[List.take_succ,ex];exact TupsAt.snoc (kp _ _ tp) ((T.imp λv x t=>t.mono k2).imp kp)
 .rw[O4] at I;obtain⟨h',tk,ks,e,rfl,k,hk,T,hi⟩:=I;rw[M5 (by omega)] at T;try dsimp only
  refine o_ <| listItems_at hk rfl ?_;exact ET hx h64 T nd hk (k a _ (Ms hlt) ha0) (Om hlt) λp h2 c p1 p2 k2 z=>h p h2 c tk p1 p2 (λb o n y=>k2 b o (k0 b o n y).1 n (k b o (k0 b o n y).1 (k0 b o n y).2)) z
def F2{S r:Addr}{j:Int}{t u v:Tok}{n:Nat}{R:Result->Shared->Prop}(hh:A.handled=none)(hr:IsRange s.heap r 0 j 1 t u v)(i_:Builtin.Range.small 0 j 1=true)(hn:Builtin.Range.rangeSize 0 j 1=n)(a_:n<=2^24)(hS:s.heap.get? S=some (seqObj "list" #[] 0))
 (h:∀h' tk acc c,(∀b o,b≠S->s.heap.get? b=some o->h'.get? b=some o)->h'.get? S=some (seqObj "list" acc c)->ItemsOf (λi v=>∃t,v=.int (0+i*1) t) acc n->R (.ok (.ret (.ref S))) { s with heap:=h',toks:=tk }):codeAny (model prog w) A (.builtin "list.__iadd__" ⟨[.ref S,.ref r],[]⟩) R s:=by
 refine O7 entry_list_iadd' ?_;show wpAny (model prog w) A.in1 (Builtin.List.listExtendWith (.ref S) (.ref r) (.ref S)) _ _ s;exact wpAny_extend_range hh hr i_ hn a_ S _ 0 hS h
def mU{r:Addr}{j:Int}{t u v:Tok}{n:Nat}{Q:List Value->Shared->Prop}(hh:A.handled=none)(hr:IsRange s.heap r 0 j 1 t u v)(i_:Builtin.Range.small 0 j 1=true)(hn:Builtin.Range.rangeSize 0 j 1=n)(a_:n<=2^24)
 (h:∀h' tk (vs:List Value),s.heap.objs.size<=h'.objs.size->(∀b o,s.heap.get? b=some o->h'.get? b=some o)->vs.length=n->(∀(i:Nat) x,vs[i]?=some x->∃t,x=.int (i:Nat) t)->Q vs { s with heap:=h',toks:=tk }):wpAny (model prog w) A (collect (.ref r)) Q E s:=by
 unfold collect;refine o_ <| wpAny_runValue <| O7 entry_proto_collect' ?_;show wpAny _ _ (do again (.builtin "list.__iadd__" ⟨[<- newList [],.ref r],[]⟩)) _ _ s;have hS:(s.heap.push (seqObj "list" #[] 0)).get? s.heap.objs.size=some (seqObj "list" #[] 0):=G_ _ rfl;refine o_ <| wpAny_newList <| B_ ⟨Code.quiet_builtin _ (by decide),F2 (s:={ s with heap:=s.heap.push (seqObj "list" #[] 0) }) hh (r_ _ hr) i_ hn a_ hS λh' tk acc c k z it=>?_⟩;show wpAny (model prog w) A (do
  let o <- load s.heap.objs.size
  match o.data with
  |.seq xs _=>pure xs.toList
  |_=>unsupported "internal:collect") Q E { s with heap:=h',toks:=tk }
 refine o_ <| wpAny_load z ?_;refine B_ (h h' tk acc.toList (Ol (C_ z)) (λb o y=>k b o (Ms (C_ y)) (r_ _ y)) (by rw[M0];exact it.1) λi x y=>?_);obtain⟨t,e⟩:=it.2 i x (by simpa using y);exact⟨t,by rw[e];congr 1;omega⟩
end
abbrev fg(p:Pos):Arguments:=⟨[],[⟨"number",none,p⟩],none,[],[],none,[]⟩
abbrev bc:Scope:={ kind:=.function,names:=[("number",.local),("weights",.free)],isGenerator:=false,isCoroutine:=false,more:=[] }
abbrev eB(p1 p2 p3 p4 p5 p6:Pos):Expr:=.Tuple [.UnaryOp .USub (.Subscript (.Name "weights" p1) (.Name "number" p2) p3) p4,.Name "number" p5] 0 p6
section
variable{prog:Program}{w:World}{A:Around}{s:Shared}
def Fz{f c' cell a:Addr}{q:Str}{pm ctv:Value}{its:Array Value}{ws:List Int}{p0 p1 p2 p3 p4 p5 p6:Pos}{i:Nat}{t:Tok}
 (hroom:A.depth<recursionLimit) (ho:s.heap.get? f=some (kla_obj "<lambda>" q (fg p0) (eB p1 p2 p3 p4 p5 p6) bc [("weights",cell)] pm c' ctv)) (l_:s.heap.CodeRec (.ref c') q) (hlim:s.heap.NoLimit) (m_:s.heap.IsCell cell (some (.ref a))) (hl:s.heap.IsList a its) (hw:Vals (ws.map V.int) its.toList) (hi:i<ws.length) (hz:ws.length<64):
 wpAny (model prog w) A (call (.ref f) [.int (i:Nat) t]) (λk s2=>∃h2 tk2,s2={ s with heap:=h2,toks:=tk2 }/\(∀b o,s.heap.get? b=some o->h2.get? b=some o)/\TupAt h2 k (-(ws.getD i 0),(i:Nat))) (λ_ _=>False) s:=by
 refine wpAny_call ?_;refine kla_callFunE hroom ho rfl rfl rfl rfl l_ ?_;rw[show bindArgs (kla_fn "<lambda>" q (fg p0) (eB p1 p2 p3 p4 p5 p6) bc [("weights",cell)] pm (.ref c') ctv) ⟨[Value.int (i:Nat) t],[]⟩=(pure [(("number" : Str),Value.int (i:Nat) t)]:Sem (List (Str×Value))) from by with_unfolding_all rfl];refine B_ (wpAny_newFunctionEnv (show ∀x∈bc.names,x.2 ≠ .cell by decide) (by intro y hy;rw[MC] at hy;subst hy;rfl) (λh1 hns hsb=>⟨hlim.fresh _ hsb,?_⟩) rfl);show codeAny _ _ (.expr (eB p1 p2 p3 p4 p5 p6) (envX q bc s.heap.objs.size f (.ref c') [("weights",cell)])) _ _;have k1:∀b o,s.heap.get? b=some o->h1.get? b=some o:=λb o e=>hsb.extBut b o (Ms (C_ e)) (r_ _ e);have hc1:h1.IsCell cell (some (.ref a)):=by obtain⟨o,e,d⟩:=m_;exact⟨o,k1 _ _ e,d⟩
 have hl1:h1.IsList a its:=by obtain⟨o,e,d⟩:=hl;exact⟨o,k1 _ _ e,d⟩
 refine kla_codeExpr ?_;refine wpAny_Tuple_spliced ?_;obtain⟨u,eu,ru⟩:=hw.get (i:=i) (x:=V.int (ws.getD i 0)) (by rw[L_,v_ hi,Mo,v_ hi];rfl);obtain⟨tx,rfl⟩:=ru;have ei:its[((i:Nat):Int).toNat]?=some (.int (ws.getD i 0) tx):=by rw[M3,<- Array.getElem?_toList];exact eu
 have nm:∀(pp:Pos) (s':Shared) (Q:Pu) (E':Pu),s'.heap=h1->Q (.int (i:Nat) t) s'->wpAny (model prog w) (A.deeper (envX q bc s.heap.objs.size f (.ref c') [("weights",cell)])) (eval (.Name "number" pp) (envX q bc s.heap.objs.size f (.ref c') [("weights",cell)])) Q E' s':=λpp s' Q E' e hq=>
  wpAny_Name (Pa rfl rfl (by rw[e];exact hns) rfl hq) (by decide)
 show wpAny _ _ (spliced ((false,eval (.UnaryOp .USub (.Subscript (.Name "weights" p1) (.Name "number" p2) p3) p4) (envX q bc s.heap.objs.size f (.ref c') [("weights",cell)]))::backTo p6 (starEach [.Name "number" p5] (envX q bc s.heap.objs.size f (.ref c') [("weights",cell)])))) _ _ _;refine NL ?_;refine UnaryOp_ ?_;refine Subscript_ ?_;refine wpAny_Name (wpAny_loadName_free rfl rfl rfl hc1 ?_) (by decide);refine nm p2 _ _ _ rfl ?_;refine item_listR hl1 (by omega) (by omega) ei ?_;refine neg_int ?_;show wpAny _ _ (spliced ((false,eval (.Name "number" p5) (envX q bc s.heap.objs.size f (.ref c') [("weights",cell)]))::[])) _ _ _;refine NL ?_;refine nm p5 _ _ _ rfl ?_;refine Oh ?_;refine⟨show 2<=sizeLine by decide,_,_,rfl,λb o e=>r_ _ (k1 b o e),h1.objs.size,0,none,#[],_,t,rfl,G_ _ rfl⟩
end
section
variable{prog:Program}{w:World}{A:Around}{E:Pu}{s:Shared}
def xt{r f:Addr}{j:Int}{t u v:Tok}{n:Nat}{xs:List (Int×Int)}{Q:Pu}(hh:A.handled=none)(hr:IsRange s.heap r 0 j 1 t u v)(i_:Builtin.Range.small 0 j 1=true)(hn:Builtin.Range.rangeSize 0 j 1=n)(h64:n<64)(hx:xs.length=n)(nd:xs.Nodup)
 (hc:∀(i:Nat) (x:Int×Int) (tt:Tok) (h':Heap) (tk:Nat),xs[i]?=some x->(∀b o,s.heap.get? b=some o->h'.get? b=some o)->wpAny (model prog w) A.in1.in1 (call (.ref f) [.int (i:Nat) tt]) (λk s2=>∃h2 tk2,s2={ s with heap:=h2,toks:=tk2 }/\(∀b o,h'.get? b=some o->h2.get? b=some o)/\TupAt h2 k x) (λ_ _=>False) { s with heap:=h',toks:=tk })
 (h:∀(p:Array Nat) (h':Heap) (D:Addr) (c tk:Nat) (out:List Value),p.toList.Perm (List.range n)->UpTo (ltP xs) p n->s.heap.objs.size<=D->(∀b o,s.heap.get? b=some o->h'.get? b=some o)->h'.get? D=some (seqObj "list" out.toArray c)->Vals (p.toList.map λi:Nat=>V.int (i:Nat)) out->Q (.ref D) { s with heap:=h',toks:=tk }):
 wpAny (model prog w) A (call (.builtin "sorted") [.ref r] [(Str.ofString "key",.ref f)]) Q E s:=by
 refine call_function_entry_kw kind_sorted plain_sorted entry_sorted (ksk_s1 _ _) ?_;unfold Builtin.«sorted»;refine o_ (m:=checkCount "sorted" 1 1 _) <| B_ ?_;refine o_ <| mU (A:=A.in1) hh hr i_ hn (by omega) λh1 tk1 vs sz k1 lv iv=>?_;have big:sizeLine=16777216:=rfl;refine o_ <| wpAny_newList ?_ (by omega);have hoL:(h1.push (seqObj "list" vs.toArray 0)).get? h1.objs.size=some (seqObj "list" vs.toArray 0):=G_ _ rfl;have kL:∀b o,s.heap.get? b=some o->b≠h1.objs.size/\(h1.push (seqObj "list" vs.toArray 0)).get? b=some o:=λb o e=>⟨Ms (C_ (k1 b o e)),r_ _ (k1 b o e)⟩;refine o_ <| Nq <| wpAny_call_entry_kw slot_list_sort ⟨_,hoL,rfl⟩ entry_list_sort ?body (ksk_l1 _ _)
 case body=>
  show wpAny (model prog w) A.in1.in1 (Builtin.«list.sort» ⟨[.ref h1.objs.size],[(Str.ofString "key",.ref f)]⟩) _ _ { s with heap:=h1.push (seqObj "list" vs.toArray 0),toks:=tk1 };rw[ksk_t1];refine AR (s:={ s with heap:=h1.push (seqObj "list" vs.toArray 0),toks:=tk1 }) (xs:=xs) hoL (by omega) (by omega) nd (λi v x h' tk e1 e2 k=>?_) λp h' c tk p1 p2 k z=>?_
  .obtain⟨tt,rfl⟩:=iv i v e1;exact hc i x tt h' tk e2 λb o e=>k b o (kL b o e).1 (kL b o e).2
  .rw[lv] at p1 p2;refine⟨_,rfl,B_ ⟨_,rfl,h p h' h1.objs.size c tk _ p1 p2 sz (λb o e=>k b o (kL b o e).1 (kL b o e).2) z ?_⟩⟩;have all:∀i∈p.toList,i<n:=λi hi=>Mu.mp (p1.mem_iff.mp hi);clear z p1 p2;generalize p.toList=l at all;induction l with
   |nil=>exact .nil
   |cons i l ih=>refine .cons ?_ (ih λk hk=>all k (q_ _ hk));have hi:=all i (s_ ..);obtain⟨tt,e⟩:=iv i (vs.getD i Value.none) (by rw[Mo,v_ (by omega)];rfl);exact⟨tt,e⟩
end
section
variable{X:Cx}{pins:Pq}{σ:St}{H:Hp}{s:Shared}{h':Heap}
def Inv.tabled{P c':Addr}{q:Str}{ps more:Array Value}{t':Nat}(I:Inv X pins σ H s)(hP:H P=some (.tbl ps))(hx:Heap.ExtBut P s.heap h')(hc:s.heap.objs.size<=c')(hrec:h'.CodeRec (.ref c') q)(htab:h'.get? P=some (tabObj (ps++more))):
 Inv X pins σ (upd (upd H P (.tbl (ps++more))) c' (.ext (fN c' q))) { s with heap:=h',toks:=t' }:=by
 have hcn:H c'=none:=I.hok.fresh hc;have nPc:P≠c':=bL hP hcn;have at_:∀b,b≠P->b≠c'->upd (upd H P (.tbl (ps++more))) c' (.ext (fN c' q)) b=H b:=λb n1 n2=>by rw[az n2,az n1]
 have atP:upd (upd H P (.tbl (ps++more))) c' (.ext (fN c' q)) P=some (.tbl (ps++more)):=by rw[az nPc,aG]
 have nP:∀b,H b=none->b≠P:=λb n z=>by rw[z,hP] at n;cases n
 have ol:∀b o,s.heap.get? b=some o->b≠c':=λb o e=>Ms (K_ (C_ e) hc);have tr:∀b u,H b=some u->b≠c':=λb u e=>bL e hcn;refine I.un ⟨λb o e n _ _=>hx b o (nP b n) e,λb o e n _ _=>⟨o.slots,hx b o (nP b n) e⟩,λb o e n _=>by rw[at_ b (nP b n) (ol b o e)];exact n,λb o e _=>?_,λb ys e=>?_,λb o u e=>?_,λb qs e=>?_⟩ λb u e=>?_
 .by_cases z:b=P
  .exact⟨_,by rw[z];exact htab⟩
  .exact⟨o,hx b o z e⟩
 .rw[at_ b (λz=>by rw[z,hP] at e;cases e) (tr b _ e)];exact e
 .rw[at_ b (λz=>by rw[z,hP] at e;cases e) (tr b _ e)];exact e
 .by_cases z:b=P
  .subst z;rw[hP] at e;cases e;exact⟨more,atP⟩
  .exact⟨#[],by rw[at_ b z (tr b _ e),e];simp⟩
 .by_cases z:b=c'
  .subst z;rw[aG] at e;cases e;obtain⟨c,o,vs,t,e1,e2,e3⟩:=hrec;cases e1;refine⟨⟨_,o,vs,t,rfl,e2,e3⟩,⟨o,e2⟩,λh1 h2 q1 k=>?_⟩;obtain⟨c,o,vs,t,e1,e2,e3⟩:=q1;cases e1;exact⟨_,o,vs,t,rfl,k o e2,e3⟩
  .by_cases y:b=P
   .subst y;rw[atP] at e;cases e;exact htab
   .rw[at_ b y z] at e;refine (I.hok b u e).stay (λc v hc' r=>hx c v ?_ r) (λc r=>?_) λc ys r=>?_
    .rcases hc' with rfl |r
     .exact y
     .intro z';rw[z',hP] at r;cases r
    .rw[at_ c (λz'=>by rw[z',hP] at r;cases r) (tr c _ r)];exact r
    .rw[at_ c (λz'=>by rw[z',hP] at r;cases r) (tr c _ r)];exact r
end
noncomputable def kyF (ws:List Int) (i:Nat):Int×Int:=(-(ws.getD i 0),(i:Int))
noncomputable def jq (ws:List Int):List (Int×Int):=(List.range ws.length).map (kyF ws)
noncomputable def aN (ws:List Int):List Nat:=(List.range ws.length).mergeSort λi j=>!bA (kyF ws j) (kyF ws i)
structure FallO(ws:List Int)(l:List Nat):Prop where
 perm:l.Perm (List.range ws.length)
 up:l.Pairwise λi j=>bA (kyF ws i) (kyF ws j)=true
def vA{ws:List Int}{i j:Nat}(h:kyF ws i=kyF ws j):i=j:=by
 have:=MP Prod.snd h
 have:((i:Nat):Int)=(j:Nat):=this;omega
def Fd(ws:List Int):(jq ws).Nodup:=by unfold jq;refine List.pairwise_map.mpr (List.Pairwise.imp (λ{a b} h z=>h (vA z)) OS)
def cP(ws:List Int):FallO ws (aN ws):=⟨List.mergeSort_perm ..,KR (kyF ws) vA OS⟩
def FallO.eq{ws:List Int}{l:List Nat}(h:FallO ws l):l=aN ws:=EZ h.up (cP ws).up (h.perm.trans (cP ws).perm.symm)
def FN{ws:List Int}{p:Array Nat}(h1:p.toList.Perm (List.range ws.length))(h2:UpTo (ltP (jq ws)) p ws.length):p.toList=aN ws:=by
 refine FallO.eq ⟨h1,List.Pairwise.imp_of_mem (λ{i j} hi hj h=>?_) (Ey h1 h2)⟩;have g:∀k∈p.toList,(jq ws).getD k (0,0)=kyF ws k:=λk hk=>by unfold jq;rw[Mo,L_,Pd (Mu.mp (h1.mem_iff.mp hk))];rfl
 rw[g i hi,g j hj] at h;exact h
section
variable{X:Cx}{iW:Nat}{ta:TA}{c P:Addr}{a:Expr}{q1 q2 q6 q7 q8 q9 p0 p1 p2 p3 p4 p5 p6:Pos}
def xG(H H2:Hp)(P:Addr)(q:Str)(ps:Array Value)(pos:Pos):Prop:=H2=H\/∃c',H c'=none/\codeAmong pos ps.toList=none/\H2=upd (upd H P (.tbl (ps++#[rawInt pos.line,rawInt pos.col,.ref c']))) c' (.ext (fN c' q))
def wL(K:W.Frag)(mg:Pp)(P:Addr)(q:Str)(pos:Pos)(vW:Option (Option V)):List V->Hp->VK->Prop:=λvs H Q=>∃(b:Addr) (ws:List Int) (ps:Array Value),vs=[.int (ws.length:Nat)]/\vW=some (some (.ref b))/\SqL K H b (ws.map V.int)/\ws.length<64/\H P=some (.tbl ps)/\TriplesOk ps.toList/\(∀ps' cv,codeAmong ps' ps.toList=some cv->∃c,cv=.ref c/\H c=some (.ext (fN c q)))/\tZ K mg H/\
 ∀H2 l,xG H H2 P q ps pos->H2 l=none->Q (.ref l) (upd H2 l (.lst ((aN ws).map λi:Nat=>V.int (i:Nat))))
def L4(K:W.Frag)(mg:Pp)(iW:Nat)(P:Addr)(q:Str)(pos:Pos)(ta:TA):TE:=λσ H Q=>ta σ H λvs H1=>wL K mg P q pos σ[iW]? vs H1 Q
def FL(hc:X.calm=true)(hdp:X.A.depth<recursionLimit)(hl:Gl X "sorted")(hml:X.mg "sorted"=none)(hg:Gl X "range")(hm:X.mg "range"=none)(ha:PA X [a] ta)(hN:X.N[iW]?=some "weights")(hv:X.env.scope.names.lookup ("weights" : Str)=some .cell)(l_:X.env.code=.ref c)(hh:codeHdIn X.K c P=true)(hs:starEach [a] X.env=[(false,eval a X.env)]:=by rfl):
 PE X (.Call (.Name "sorted" q1) [.Call (.Name "range" q2) [a] [] q6] [⟨some "key",.Lambda (fg p0) (eB p1 p2 p3 p4 p5 p6) bc q7,q8⟩] q9) (L4 X.K X.mg iW P (X.env.qual ++ "<lambda>") q7 ta):=by
 intro pins s σ H Q I h;refine M4 (cW I hl hml (show bootBuiltins "sorted"=some (.builtin "sorted") from rfl) ?_ (by decide) (by decide));refine callWith_kw ?_ rfl rfl rfl rfl;show wpAny _ _ (spliced ((false,eval (.Call (.Name "range" q2) [a] [] q6) X.env)::[])) _ _ s;refine NL ?_;refine M4 (cW I hg hm (show bootBuiltins "range"=some (.type "range") from rfl) ?_ (by decide) (by decide));refine MM (thn (ha q6 pins s σ H _ I h) λus s1 zz=>exA zz λvs H1 I1 r1 z1=>?_) hs rfl;obtain⟨b,ws,ps,e,ew,hq,hn,hP,htr,hcs,hB,q⟩:=z1;subst e;cases r1 with
 |
  cons r rr=>
  cases rr;obtain⟨t,rfl⟩:=r;refine call_range_1 (Oh ?_);have I2:Inv X pins σ H1 { s1 with heap:=s1.heap.push { cls:=.type "range",data:=.fields #[.int 0 s1.toks,.int (ws.length:Nat) t,.int 1 (s1.toks+1)] },toks:=s1.toks+1+1 }:=I1.kept λb o e=>r_ _ e;have hr2:IsRange (s1.heap.push { cls:=.type "range",data:=.fields #[.int 0 s1.toks,.int (ws.length:Nat) t,.int 1 (s1.toks+1)] }) s1.heap.objs.size 0 (ws.length:Nat) 1 s1.toks t (s1.toks+1):=IsRange.new ..;generalize s1.heap.push { cls:=.type "range",data:=.fields #[.int 0 s1.toks,.int (ws.length:Nat) t,.int 1 (s1.toks+1)] }=h2 at I2 hr2 ⊢;generalize s1.heap.objs.size=r at hr2 ⊢;have hk:X.env.kindOf "weights"=some .cell:=hv;obtain⟨m,hns,hloc⟩:=I2.loc;obtain⟨u,ru,lk⟩:=hloc iW "weights" (.ref b) hN ew (.inr (.inl hv));obtain rfl:u=.ref b:=ru;obtain⟨cell,ec,m_⟩:∃cell,X.env.cells.lookup ("weights" : Str)=some cell/\h2.IsCell cell (some (.ref b)):=by
   rcases lk with ⟨z,_⟩ |⟨_,cl,z1,z2⟩
   .rw[hk] at z;cases z
   .exact⟨cl,z1,z2⟩
  have clo:closureFor bc X.env=(pure [(("weights" : Str),cell)]:Sem (List (Str×Addr))):=by simp [closureFor,cellOf,ec]
  obtain⟨its,rv,pl,hz⟩:=I2.list hq;have j_:∀(H2:Hp) (s3:Shared) (f c':Addr) (pm ctv:Value),xG H1 H2 P (X.env.qual ++ "<lambda>") ps q7->Inv X pins σ H2 s3->(∀b o,b≠P->h2.get? b=some o->s3.heap.get? b=some o)->s3.heap.get? f=some (kla_obj "<lambda>" (X.env.qual ++ "<lambda>") (fg p0) (eB p1 p2 p3 p4 p5 p6) bc [("weights",cell)] pm c' ctv)->s3.heap.CodeRec (.ref c') (X.env.qual ++ "<lambda>")->
   wpAny (model X.prog X.w) X.A (call (.builtin "sorted") [.ref r] [(Str.ofString "key",.ref f)]) (EP X pins σ Q) X.xe s3:=by
   intro H2 s3 f c' pm ctv G3 I3 k3 hf hrec;have nP:∀{b:Addr}{o:Obj},h2.get? b=some o->o.cls ≠ .none->b≠P:=λ{b o} e n z=>by have:h2.get? P=some { cls:=.none,data:=.fields ps }:=I2.hok P _ hP;rw[z,this] at e;cases e;exact n rfl
   have hr3:IsRange s3.heap r 0 (ws.length:Nat) 1 s1.toks t (s1.toks+1):=k3 _ _ (nP hr2 (λz=>nomatch z)) hr2;refine xt (n:=ws.length) (xs:=jq ws) (I.ok.hd hc) hr3 (small_one (by omega) (by omega) (by omega) (by omega)) (by rw[Pm];split <;> omega) hn (by unfold jq;rw[p_,A_]) (Fd ws) (λi x tt h' tk ex k=>?_) λp h' D c tk out pp up sz k z vz=>?_
   .have hi:i<ws.length:=by
     have:=(u_.mp ex).1
     unfold jq at this;rw[p_,A_] at this;exact this
    obtain rfl:x=(-(ws.getD i 0),((i:Nat):Int)):=by unfold jq at ex;rw[L_,Pd hi] at ex;cases ex;rfl
    have hcell':h'.IsCell cell (some (.ref b)):=by obtain⟨o,e1,e2⟩:=m_;refine⟨o,k _ _ (k3 _ _ (λz=>?_) e1),e2⟩;have:h2.get? P=some { cls:=.none,data:=.fields ps }:=I2.hok P _ hP;rw[z,this] at e1;cases e1;cases e2
    have hl':h'.IsList b its.toArray:=by obtain⟨o,e1,e2⟩:=pl.isList;exact⟨o,k _ _ (k3 _ _ (nP e1 (by rw[e2.1];intro z;cases z)) e1),e2⟩
    exact Fz (s:={ s3 with heap:=h',toks:=tk }) hdp (k _ _ hf) (by obtain⟨c2,o,vs,tq,e1,e2,e3⟩:=hrec;exact⟨c2,o,vs,tq,e1,k _ _ e2,e3⟩) (I3.nolimit.keeps k) hcell' hl' (by simpa using rv) hi hn
   .rw[FN pp up] at vz;have big:sizeLine=16777216:=rfl;have ln:((aN ws).map λi:Nat=>V.int (i:Nat)).length<=sizeLine:=by rw[p_,(cP ws).perm.length_eq,A_];omega
    exact⟨.ref D,_,I3.laid (t':=tk) k sz (show ObjOk X.prog X.w _ h' _ (.lst _) from ⟨ln,out,c,vz,z⟩),rfl,q H2 D G3 (I3.hok.fresh sz)⟩
  have tabP:h2.get? P=some { cls:=.none,data:=.fields ps }:=I2.hok P _ hP;have glb:h2.Ns mainGlobals X.mg:=I2.mod.glob.keeps I2.bk;have gP:mainGlobals≠P:=λz=>by obtain⟨o,es,ep,e,d,_⟩:=glb;rw[z,tabP] at e;cases e;cases d
  have bAt:h2.BuiltinsAt X.mg P:=by
   obtain⟨bm,o,y1,y2,y3,⟨y4,y5,y6⟩,y7⟩:=hB;have y8:h2.get? bm=some o:=by
    rcases y7 with z |⟨u,z⟩
    .exact I2.kIn bm o z
    .exact (I2.hok bm _ z).1
   exact⟨bm,o,y1,y2,y3,(λz=>by rw[z,tabP] at y8;cases y8;cases y6),y8,y4,y5,y6⟩
  have CH:=codeHd_of_K I2.kIn hh;have lam:wpAny (model X.prog X.w) X.A (eval (.Lambda (fg p0) (eB p1 p2 p3 p4 p5 p6) bc q7) X.env) (λv s3=>∃f,v=.ref f/\wpAny (model X.prog X.w) X.A (call (.builtin "sorted") [.ref r] [(Str.ofString "key",.ref f)]) (EP X pins σ Q) X.xe s3) X.xe { s1 with heap:=h2,toks:=s1.toks+1+1 }:=by
   refine kla_eval rfl ?_;cases am:codeAmong q7 ps.toList with
   |
    none=>
    refine kla_makeFunction (mg:=X.mg) clo I.ok.glob glb l_ CH tabP htr am gP bAt λc' ctv h' tk hx hge hlt hrec htb=>?_;have hrec':(h'.push (kla_obj "<lambda>" (X.env.qual ++ "<lambda>") (fg p0) (eB p1 p2 p3 p4 p5 p6) bc [("weights",cell)] ((X.mg "__name__").getD .none) c' ctv)).CodeRec (.ref c') (X.env.qual ++ "<lambda>"):=by obtain⟨c2,o,vs,tq,e1,e2,e3⟩:=hrec;exact⟨c2,o,vs,tq,e1,r_ _ e2,e3⟩
    exact⟨_,rfl,j_ _ _ _ c' _ ctv (.inr ⟨c',I2.hok.fresh hge,am,rfl⟩) (I2.tabled (t':=tk) hP (λb o n e=>r_ _ (hx b o n e)) hge hrec' (r_ _ htb)) (λb o n e=>r_ _ (hx b o n e)) (G_ _ rfl) hrec'⟩
   |some cv=>obtain⟨c',rfl,hc'⟩:=hcs q7 cv am;refine kla_makeFunctionHit (mg:=X.mg) clo I.ok.glob glb l_ CH tabP htr am bAt λctv h' tk k hsz=>?_;obtain⟨c2,o,vs,tq,e1,e2,e3⟩:h2.CodeRec (.ref c') (X.env.qual ++ "<lambda>"):=(I2.hok c' _ hc').1;exact⟨_,rfl,j_ _ _ _ c' _ ctv (.inl rfl) (I2.kept (t':=tk) λb o e=>r_ _ (k b o e)) (λb o n e=>r_ _ (k b o e)) (G_ _ rfl) ⟨c2,o,vs,tq,e1,r_ _ (k _ _ e2),e3⟩⟩
  show wpAny _ _ (do
   let v <- (do let v <- eval (.Lambda (fg p0) (eB p1 p2 p3 p4 p5 p6) bc q7) X.env;standAt q9;pure v)
   return v::(<- holding [v] (evalAll []))) _ _ _
  refine o_ <| o_ <| ML lam (λv s3 hv3=>?_) λ_ _ z=>z;obtain⟨f,rfl,hv3⟩:=hv3;exact o_ (Ox (B_ (o_ (Nq (B_ (B_ hv3))))))
end
section
variable{K:W.Frag}{mg:Pp}{h:AH}
def LamT.one{P P':Addr}{q q':Str}(a:LamT K mg P q)(b:LamT K mg P' q'):q=q':=by
 obtain⟨x,f,oc,od,fd,sl,c,a1,a2,a3,a4,a5,a6,rfl⟩:=a;obtain⟨y,f',oc',od',fd',sl',c',b1,b2,b3,b4,b5,b6,rfl⟩:=b;have e:x=y:=by
  by_cases z:x=y
  .exact z
  .have:=a2 y b1 λw=>z w.symm
   rw[b3] at this;cases this
 subst e;rw[a3] at b3;cases b3;rw[a4] at b4;cases b4;rfl
def xf{pos:Pos}{a b:Int}{c cv:Value}(l:List Value)(h:TriplesOk l)(e:codeAmong pos (l++[rawInt a,rawInt b,c])=some cv):codeAmong pos l=some cv\/cv=c:=by
 fun_induction TriplesOk l with
 |
  case1=>
  simp only[MR,codeAmong,rawInt] at e;split at e
  .cases e;exact .inr rfl
  .cases e
 |
  case2 a' t b' u x cF ih=>
  simp only[OR,codeAmong] at e ⊢;split at e
  .rename_i z;rw[if_pos z];exact .inl e
  .rename_i z;rw[if_neg z];exact ih h e
 |case3 l h1 h2=>exact h.elim
end
section
variable{prog:Program}{w:World}{A:Around}{E:Pu}{s:Shared}
def AW{r:Addr}{j:Int}{t u v:Tok}{n:Nat}{Q:Pu}(hh:A.handled=none)(hr:IsRange s.heap r 0 j 1 t u v)(i_:Builtin.Range.small 0 j 1=true)(hn:Builtin.Range.rangeSize 0 j 1=n)(a_:n<=2^24)
 (h:∀(h':Heap) (tk:Nat) (vs:List Value),s.heap.objs.size<=h'.objs.size->(∀b o,s.heap.get? b=some o->h'.get? b=some o)->vs.length=n->(∀(i:Nat) x,vs[i]?=some x->∃t,x=.int (i:Nat) t)->Q (.ref h'.objs.size) { s with heap:=h'.push { cls:=.type "tuple",data:=.seq vs.toArray },toks:=tk }):
 codeAny (model prog w) A (.call (.builtin "tuple.__new__") ⟨[.type "tuple",.ref r],[]⟩) (wants Q E) s:=by
 refine codeAny_of_tree ?_;show wpAny _ A.in1 (do checkBuiltinCall "tuple.__new__" ⟨[.type "tuple",.ref r],[]⟩;again (.builtin "tuple.__new__" ⟨[.type "tuple",.ref r],[]⟩)) _ _ s;refine o_ <| wpAny_of_eq (F.newCall_tuple_1 _) <| B_ ⟨plainId_quiet F.plain_tuple_new _,O7 F.entry_tuple_new ?_⟩;rw[Around.under_plainId F.plain_tuple_new _];have n_:=sub_tuple_self;have hinit:=init_tuple_lookup;have hmh:=madeHere_tuple;have hTI:s.TypeIs (.ref r) "range":=⟨_,hr,rfl⟩
 wp_walk using wpAny_typeOf hTI,mU (A:=A.in1) hh hr i_ hn a_
 intro h' tk vs sz k lv iv;show wpAny _ _ (Builtin.Tuple.tupleExact vs.toArray >>= λv=>ret v) _ _ _;unfold Builtin.Tuple.tupleExact;have big:sizeLine=16777216:=rfl;refine o_ <| Nc ?_ (by show vs.length<=_;omega);exact B_ (h h' tk vs sz k lv iv)
def Co{r:Addr}{j:Int}{t u v:Tok}{n:Nat}{Q:Pu}(hh:A.handled=none)(hr:IsRange s.heap r 0 j 1 t u v)(i_:Builtin.Range.small 0 j 1=true)(hn:Builtin.Range.rangeSize 0 j 1=n)(a_:n<=2^24)
 (h:∀(h':Heap) (tk:Nat) (vs:List Value),s.heap.objs.size<=h'.objs.size->(∀b o,s.heap.get? b=some o->h'.get? b=some o)->vs.length=n->(∀(i:Nat) x,vs[i]?=some x->∃t,x=.int (i:Nat) t)->Q (.ref h'.objs.size) { s with heap:=h'.push { cls:=.type "tuple",data:=.seq vs.toArray },toks:=tk }):
 wpAny (model prog w) A (call (.type "tuple") [.ref r]) Q E s:=by
 refine callType_codes (Q₁:=λobj s₁=>s₁.TypeIs obj "tuple" /\ Q obj s₁) F.called_tuple (F.typeCall_tuple_1 _) F.entry_object_init (AW hh hr i_ hn a_ λh' tk vs sz k lv iv=>⟨⟨_,G_ _ rfl,rfl⟩,h h' tk vs sz k lv iv⟩) λobj s₁ h₁=>?_;exact⟨h₁.1,F.args_object_init_2 obj _,object_init_meets F.called_tuple.init.lookup F.called_tuple.made (by decide) prog w A.in1 _ s₁ ⟨h₁.1,rfl,h₁.2⟩⟩
end
section
variable{X:Cx}{mg:Pp}{a:Expr}{ta:TA}{pos q2 p1 p2:Pos}
def rTrg:List V->Hp->VK->Prop:=λxs H Q=>∃j:Int,xs=[.int j]/\0<=j/\j<=1000000/\∀l,H l=none->Q (.ref l) (upd H l (.tup (hZ j)))
theorem sg:∀{vs:List Value} (i0:Nat),(∀(i:Nat) x,vs[i]?=some x->∃t,x=.int ((i0+i:Nat):Int) t)->Vals ((List.range' i0 vs.length).map λi:Nat=>V.int (i:Nat)) vs
 | [],_,_=>.nil
 |
  v::vs,i0,h=>by
  rw[D_,List.range'_succ,x_];refine .cons ?_ (sg (i0+1) λi x e=>?_)
  .obtain⟨t,e⟩:=h 0 v rfl;exact⟨t,by rw[e];rfl⟩
  .obtain⟨t,e'⟩:=h (i+1) x (by simpa using e);exact⟨t,by rw[e'];congr 1;omega⟩
def Gq(hc:X.calm=true)(hl:Gl X "tuple")(hml:X.mg "tuple"=none)(hg:Gl X "range")(hm:X.mg "range"=none)(ha:PA X [a] ta)(hs:starEach [a] X.env=[(false,eval a X.env)])
 (hs1:starEach [.Call (.Name "range" p2) [a] [] q2] X.env=[(false,eval (.Call (.Name "range" p2) [a] [] q2) X.env)]):
 PE X (.Call (.Name "tuple" p1) [.Call (.Name "range" p2) [a] [] q2] [] pos) (tCB rTrg ta):=by
 intro pins s σ H Q I h;refine M4 (cW I hl hml (show bootBuiltins "tuple"=some (.type "tuple") from rfl) ?_ (by decide) (by decide));refine MM ?_ hs1 rfl;rw[hs1];show wpAny _ _ (spliced ((false,eval (.Call (.Name "range" p2) [a] [] q2) X.env)::[])) _ _ s;refine NL ?_;refine M4 (cW I hg hm (show bootBuiltins "range"=some (.type "range") from rfl) ?_ (by decide) (by decide));refine MM (thn (ha q2 pins s σ H _ I h) λus s1 zz=>exA zz λvs H1 I1 r1 z1=>?_) hs rfl;obtain⟨j,e,h1,h2,q⟩:=z1;subst e;cases r1 with
 |
  cons r rr=>
  cases rr;obtain⟨t,rfl⟩:=r;refine call_range_1 (Oh ?_);have I2:Inv X pins σ H1 { s1 with heap:=s1.heap.push { cls:=.type "range",data:=.fields #[.int 0 s1.toks,.int j t,.int 1 (s1.toks+1)] },toks:=s1.toks+1+1 }:=I1.kept λb o e=>r_ _ e;refine Co (I.ok.hd hc) (IsRange.new ..) (small_one (by omega) (by omega) (by omega) (by omega)) (n:=j.toNat) (by rw[Pm];split <;> omega) (by omega) λh' tk vs sz k lv iv=>?_;have rv:Vals (hZ j) vs:=by
   have:=sg (vs:=vs) 0 λi x e=>by obtain⟨t,e'⟩:=iv i x e;exact⟨t,by rw[e'];congr 1;omega⟩
   rw[lv,<- List.range_eq_range'] at this;exact this
  have hz:(hZ j).length<=sizeLine:=by unfold hZ;rw[p_,A_];have:sizeLine=16777216:=rfl;omega
  exact⟨.ref _,_,I2.laid (t':=tk) (a:=h'.objs.size) (λb o e=>r_ _ (k b o e)) sz (show ObjOk X.prog X.w _ _ _ (.tup (hZ j)) from ⟨hz,vs,rv,⟨_,G_ _ rfl,rfl,_,rfl⟩⟩),rfl,q _ (I2.hok.fresh sz)⟩
end
noncomputable def ltS (x y:Str):Bool:=decide (x.cps.toList<y.cps.toList)
end L2
namespace L3
open PySem PySem.Spec PyProof.Rows L2
set_option genInjectivity true in
inductive Val where
 |non |bl (b:Bool) |int (i:Int) |str (x:Str) |ty (n:String) |glb (x:Str) |exc (x:Str)
 |tup (xs:List Val) |lst (xs:List Val) |kl (xs:List Val) |dct (kvs:List (Key×Val)) |set (xs:List Int)
 deriving Inhabited
abbrev St:=L2.St
structure LeH(H H':Hp):Prop where
 tup:∀b xs,H b=some (.tup xs)->H' b=some (.tup xs)
 frz:∀b o u,H b=some (.frz o u)->H' b=some (.frz o u)
 ext:∀b φ,H b=some (.ext φ)->H' b=some (.ext φ)
def LeH.refl:LeH H H:=⟨λ_ _ e=>e,λ_ _ _ e=>e,λ_ _ e=>e⟩
def LeH.trans(a:LeH H H1)(b:LeH H1 H2):LeH H H2:=⟨λx y e=>b.tup x y (a.tup x y e),λx y z e=>b.frz x y z (a.frz x y z e),λx y e=>b.ext x y (a.ext x y e)⟩
def Gr(H H':Hp):Prop:=∀a o,H a=some o->H' a=some o
def Gr.le(g:Gr H H'):LeH H H':=⟨λ_ _=>g _ _,λ_ _ _=>g _ _,λ_ _=>g _ _⟩
def Gr.refl:Gr H H:=λ_ _ e=>e
def Gr.upd(h:H p=none):Gr H (upd H p u):=λa o e=>by rw[az (bL e h)];exact e
def Gr.none(g:Gr H H')(h:H' a=none):H a=none:=by
 cases q:H a with
 |none=>rfl
 |some o=>rw[g a o q] at h;cases h
def LeH.sqT{K:W.Frag}(l:LeH H H')(q:SqT K H a xs):SqT K H' a xs:=by
 rcases q with (q |⟨o,q⟩) |q
 .exact .inl (.inl (l.tup _ _ q))
 .exact .inl (.inr ⟨o,l.frz _ _ _ q⟩)
 .exact .inr q
section
variable(K:W.Frag)(mg:Pp)
def KlR(a:Addr)(vs:List V):Prop:=∃(o:Obj) (its:Array Value) (n:Nat),K.lookup a=some o/\o.cls=.type "list" /\ o.dict=none/\o.data=.seq its n/\its.size<=sizeLine/\Vals vs its.toList
mutual
inductive Rd(P:Addr->Prop)(H:Hp):V->Val->Prop where
 |non:Rd P H .non .non
 |bl (b:Bool):Rd P H (.bl b) (.bl b)
 |int (i:Int):Rd P H (.int i) (.int i)
 |str (x:Str):Rd P H (.str x) (.str x)
 |ty (n:String):Rd P H (.ty n) (.ty n)
 |glb {x:Str}{a:Addr} (m:mg x=some (.ref a)):Rd P H (.ref a) (.glb x)
 |exc {x:Str}{a C:Addr} (m:mg x=some (.ref C)) (e:H a=some (.ext (wx a C))):Rd P H (.ref a) (.exc x)
 |tup {p:Addr}{vs:List V}{us:List Val} (h:SqT K H p vs) (r:Rds P H vs us):Rd P H (.ref p) (.tup us)
 |kl {a:Addr}{vs:List V}{us:List Val} (h:KlR K a vs) (r:Rds P H vs us):Rd P H (.ref a) (.kl us)
 |cell {a:Addr}{o:HO}{v:Val} (p:P a) (e:H a=some o) (r:Rc P H o v):Rd P H (.ref a) v
inductive Rc(P:Addr->Prop)(H:Hp):HO->Val->Prop where
 |lst {vs:List V}{us:List Val} (r:Rds P H vs us):Rc P H (.lst vs) (.lst us)
 |fz {o:Obj}{vs:List V}{us:List Val} (r:Rds P H vs us):Rc P H (.frz o (.lst vs)) (.kl us)
 |dct {ws:List (Key×V)}{us:List (Key×Val)} (r:Rk P H ws us):Rc P H (.dK ws) (.dct us)
 |set (xs:List Int) (nd:xs.Nodup):Rc P H (.set (λi=>decide (i∈xs)) xs.length) (.set xs)
inductive Rds(P:Addr->Prop)(H:Hp):List V->List Val->Prop where
 |nil:Rds P H [] []
 |cons {d:V}{v:Val}{ds:List V}{vs:List Val} (r:Rd P H d v) (rr:Rds P H ds vs):Rds P H (d::ds) (v::vs)
inductive Rk(P:Addr->Prop)(H:Hp):List (Key×V)->List (Key×Val)->Prop where
 |nil:Rk P H [] []
 |cons {k:Key}{d:V}{v:Val}{ds:List (Key×V)}{vs:List (Key×Val)} (r:Rd P H d v) (rr:Rk P H ds vs):Rk P H ((k,d)::ds) ((k,v)::vs)
end
end
def oC(o:HO):Prop:=∀ps,o ≠ .tbl ps
structure Mov(P P':Addr->Prop)(H H':Hp):Prop where
 le:LeH H H'
 cl:∀a o,P a->H a=some o->oC o->P' a/\H' a=some o
def Gr.mov(g:Gr H H'):Mov P P H H':=⟨g.le,λa o p e _=>⟨p,g a o e⟩⟩
def Mov.of(h:∀a,P a->P' a):Mov P P' H H:=⟨.refl,λa o p e _=>⟨h a p,e⟩⟩
section
variable{K:W.Frag}{mg:Pp}{P P':Addr->Prop}{H H':Hp}
def Rc.nt(r:Rc K mg P H o v):oC o:=by cases r <;> exact λ_ z=>nomatch z
def Rd.mono(m:Mov P P' H H')(r:Rd K mg P H d v):Rd K mg P' H' d v:=@Rd.rec K mg P H (λd v _=>Rd K mg P' H' d v) (λo v _=>Rc K mg P' H' o v) (λds vs _=>Rds K mg P' H' ds vs) (λws us _=>Rk K mg P' H' ws us) .non (λb=>.bl b) (λi=>.int i) (λx=>.str x) (λn=>.ty n) (λe=>.glb e) (λq e=>.exc q (m.le.ext _ _ e)) (λh _ ih=>.tup (m.le.sqT h) ih) (λh _ ih=>.kl h ih) (λp e r ih=>.cell (m.cl _ _ p e r.nt).1 (m.cl _ _ p e r.nt).2 ih) (λ_ ih=>.lst ih) (λ_ ih=>.fz ih) (λ_ ih=>.dct ih) (λxs nd=>.set xs nd) .nil (λ_ _ a b=>.cons a b) .nil (λ_ _ a b=>.cons a b) d v r
def Rds.ind{M:List V->List Val->Prop}(h0:M [] [])(h1:∀{d v ds vs},Rd K mg P H d v->Rds K mg P H ds vs->M ds vs->M (d::ds) (v::vs)){ds:List V}{vs:List Val}(r:Rds K mg P H ds vs):M ds vs:=by
 induction ds generalizing vs with
 |nil=>cases r;exact h0
 |
  cons d ds ih=>
  cases r with
  |cons r rr=>exact h1 r rr (ih rr)
def Rk.ind{M:List (Key×V)->List (Key×Val)->Prop}(h0:M [] [])(h1:∀{k d v ds vs},Rd K mg P H d v->Rk K mg P H ds vs->M ds vs->M ((k,d)::ds) ((k,v)::vs)){ds:List (Key×V)}{vs:List (Key×Val)}(r:Rk K mg P H ds vs):M ds vs:=by
 induction ds generalizing vs with
 |nil=>cases r;exact h0
 |
  cons d ds ih=>
  cases r with
  |cons r rr=>exact h1 r rr (ih rr)
def Rds.mono(m:Mov P P' H H'){d:List V}{v:List Val}(r:Rds K mg P H d v):Rds K mg P' H' d v:=r.ind .nil λr _ ih=>.cons (r.mono m) ih
def Rk.mono(m:Mov P P' H H'){d:List (Key×V)}{v:List (Key×Val)}(r:Rk K mg P H d v):Rk K mg P' H' d v:=r.ind .nil λr _ ih=>.cons (r.mono m) ih
def Rc.mono(m:Mov P P' H H')(r:Rc K mg P H d v):Rc K mg P' H' d v:=by
 cases r with
 |lst r=>exact .lst (r.mono m)
 |fz r=>exact .fz (r.mono m)
 |dct r=>exact .dct (r.mono m)
 |set xs nd=>exact .set xs nd
def Rds.len{ds:List V}{vs:List Val}(r:Rds K mg P H ds vs):ds.length=vs.length:=r.ind (M:=λds vs=>ds.length=vs.length) rfl λ_ _ ih=>MP (· + 1) ih
def Rds.get{ds:List V}{vs:List Val}{i:Nat}{v:Val}(r:Rds K mg P H ds vs)(e:vs[i]?=some v):∃d,ds[i]?=some d/\Rd K mg P H d v:=
 r.ind (M:=λds vs=>∀i,vs[i]?=some v->∃d,ds[i]?=some d/\Rd K mg P H d v) (λ_ e=>by rw[NA] at e;cases e) (λr _ ih i e=>match i,e with
  |0,e=>by cases e;exact⟨_,rfl,r⟩
  |i+1,e=>ih i e) i e
def Rds.append{ds es:List V}{vs ws:List Val}(r:Rds K mg P H ds vs)(q:Rds K mg P H es ws):Rds K mg P H (ds++es) (vs++ws):=r.ind (M:=λds vs=>Rds K mg P H (ds++es) (vs++ws)) q λr _ ih=>.cons r ih
def Rds.take{ds:List V}{vs:List Val}(n:Nat)(r:Rds K mg P H ds vs):Rds K mg P H (ds.take n) (vs.take n):=
 r.ind (M:=λds vs=>∀n:Nat,Rds K mg P H (ds.take n) (vs.take n)) (λn=>by rw[OO,OO];exact .nil) (λr _ ih n=>by cases n with |zero=>exact .nil |succ n=>exact .cons r (ih n)) n
def Rds.drop{ds:List V}{vs:List Val}(n:Nat)(r:Rds K mg P H ds vs):Rds K mg P H (ds.drop n) (vs.drop n):=
 r.ind (M:=λds vs=>∀n:Nat,Rds K mg P H (ds.drop n) (vs.drop n)) (λn=>by rw[Pj,Pj];exact .nil) (λr rr ih n=>by cases n with |zero=>exact .cons r rr |succ n=>exact ih n) n
def Rds.set{d:V}{v:Val}(r:Rd K mg P H d v){ds:List V}{vs:List Val}(i:Nat)(q:Rds K mg P H ds vs):Rds K mg P H (ds.set i d) (vs.set i v):=
 q.ind (M:=λds vs=>∀i:Nat,Rds K mg P H (ds.set i d) (vs.set i v)) (λ_=>.nil) (λq qq ih i=>by cases i with |zero=>exact .cons r qq |succ i=>exact .cons q (ih i)) i
def ShR(K:W.Frag)(mg:Pp)(P:Addr->Prop)(H:Hp)(d:V)(v:Val):Prop:=Rd K mg P H d v\/∃a o,d=.ref a/\H a=some o/\Rc K mg P H o v
inductive ShRs(K:W.Frag)(mg:Pp)(P:Addr->Prop)(H:Hp):List V->List Val->Prop where
 |nil:ShRs K mg P H [] []
 |cons {d:V}{v:Val}{ds:List V}{vs:List Val} (r:ShR K mg P H d v) (rr:ShRs K mg P H ds vs):ShRs K mg P H (d::ds) (v::vs)
def ShR.mono(m:Mov P P' H H')(g:Gr H H')(r:ShR K mg P H d v):ShR K mg P' H' d v:=by
 rcases r with r |⟨a,o,rfl,e,r⟩
 .exact .inl (r.mono m)
 .exact .inr ⟨a,o,rfl,g a o e,r.mono m⟩
def ShR.int(r:ShR K mg P H d (.int i)):d=.int i:=by
 rcases r with r |⟨n,o,rfl,e,r⟩
 .cases r with
  |int=>rfl
  |cell p e r=>cases r
 .cases r
def ShR.str(r:ShR K mg P H d (.str i)):d=.str i:=by
 rcases r with r |⟨n,o,rfl,e,r⟩
 .cases r with
  |str=>rfl
  |cell p e r=>cases r
 .cases r
def ShR.bl(r:ShR K mg P H d (.bl i)):d=.bl i:=by
 rcases r with r |⟨n,o,rfl,e,r⟩
 .cases r with
  |bl=>rfl
  |cell p e r=>cases r
 .cases r
def ShR.non(r:ShR K mg P H d .non):d=.non:=by
 rcases r with r |⟨n,o,rfl,e,r⟩
 .cases r with
  |non=>rfl
  |cell p e r=>cases r
 .cases r
def ShR.exc(r:ShR K mg P H d (.exc x)):∃a C,d=.ref a/\mg x=some (.ref C)/\H a=some (.ext (wx a C)):=by
 rcases r with r |⟨n,o,rfl,e,r⟩
 .cases r with
  |exc m e=>exact⟨_,_,rfl,m,e⟩
  |cell p e r=>cases r
 .cases r
def ShR.ty(r:ShR K mg P H d (.ty x)):d=.ty x:=by
 rcases r with r |⟨n,o,rfl,e,r⟩
 .cases r with
  |ty=>rfl
  |cell p e r=>cases r
 .cases r
def ShR.glb(r:ShR K mg P H d (.glb x)):∃a,d=.ref a/\mg x=some (.ref a):=by
 rcases r with r |⟨n,o,rfl,e,r⟩
 .cases r with
  |glb m=>exact⟨_,rfl,m⟩
  |cell p e r=>cases r
 .cases r
def ShR.tup(r:ShR K mg P H d (.tup us)):∃p vs,d=.ref p/\SqT K H p vs/\Rds K mg P H vs us:=by
 rcases r with r |⟨n,o,rfl,e,r⟩
 .cases r with
  |tup h r=>exact⟨_,_,rfl,h,r⟩
  |cell p e r=>cases r
 .cases r
def ShR.lst(r:ShR K mg P H d (.lst us)):∃a vs,d=.ref a/\H a=some (.lst vs)/\Rds K mg P H vs us:=by
 rcases r with r |⟨n,o,rfl,e,r⟩
 .cases r with
  |cell p e r=>cases r with |lst r=>exact⟨_,_,rfl,e,r⟩
 .cases r with |lst r=>exact⟨_,_,rfl,e,r⟩
def ShR.set(r:ShR K mg P H d (.set xs)):∃a,d=.ref a/\xs.Nodup/\H a=some (.set (λi=>decide (i∈xs)) xs.length):=by
 rcases r with r |⟨n,o,rfl,e,r⟩
 .cases r with
  |cell p e r=>cases r with |set _ nd=>exact⟨_,rfl,nd,e⟩
 .cases r with |set _ nd=>exact⟨_,rfl,nd,e⟩
def ShR.dct(r:ShR K mg P H d (.dct us)):∃a ws,d=.ref a/\H a=some (.dK ws)/\Rk K mg P H ws us:=by
 rcases r with r |⟨n,o,rfl,e,r⟩
 .cases r with
  |cell p e r=>cases r with |dct r=>exact⟨_,_,rfl,e,r⟩
 .cases r with |dct r=>exact⟨_,_,rfl,e,r⟩
def ShR.kl(r:ShR K mg P H d (.kl us)):∃a vs,d=.ref a/\SqL K H a vs/\Rds K mg P H vs us:=by
 rcases r with r |⟨n,o,rfl,e,r⟩
 .cases r with
  |kl h r=>exact⟨_,_,rfl,.inr h,r⟩
  |cell p e r=>cases r with |fz r=>exact⟨_,_,rfl,.inl (.inr ⟨_,e⟩),r⟩
 .cases r with |fz r=>exact⟨_,_,rfl,.inl (.inr ⟨_,e⟩),r⟩
def ShR.lstL(r:ShR K mg P H d (.lst us)):∃a vs,d=.ref a/\SqL K H a vs/\Rds K mg P H vs us:=by obtain⟨a,vs,e,h,q⟩:=r.lst;exact⟨a,vs,e,SqL.of h,q⟩
end
noncomputable def Val.items:Val->Option (List Val)
 |.tup xs=>some xs
 |.lst xs=>some xs
 |.kl xs=>some xs
 |_=>none
def ShR.items{K:W.Frag}{mg:Pp}{P:Addr->Prop}{H:Hp}{d:V}{v:Val}{us:List Val}(r:ShR K mg P H d v)(e:v.items=some us):∃a vs,d=.ref a/\(SqL K H a vs\/SqT K H a vs)/\Rds K mg P H vs us:=by
 cases v with
 |tup xs=>cases e;obtain⟨a,vs,h1,h2,h3⟩:=r.tup;exact⟨a,vs,h1,.inr h2,h3⟩
 |lst xs=>cases e;obtain⟨a,vs,h1,h2,h3⟩:=r.lstL;exact⟨a,vs,h1,.inl h2,h3⟩
 |kl xs=>cases e;obtain⟨a,vs,h1,h2,h3⟩:=r.kl;exact⟨a,vs,h1,.inl h2,h3⟩
 |_=>cases e
inductive Sl where
 |no |sh (v:Val) |ow (v:Val) |mu (v:Val) |lo (v:Val) |lm (v:Val)
 deriving Inhabited
abbrev E3:=List Sl
noncomputable def Sl.val:Sl->Option Val
 |.no=>none
 |.sh v=>some v
 |.ow v=>some v
 |.mu v=>some v
 |.lo v=>some v
 |.lm v=>some v
noncomputable def Sl.mt:Sl->Bool
 |.ow _=>true
 |.mu _=>true
 |_=>false
noncomputable def Sl.lk:Sl->Bool
 |.lo _=>true
 |.lm _=>true
 |_=>false
abbrev Ns:=List (Option Addr)
def Oc(X:Addr->Prop)(ns:Ns)(n:Addr):Prop:=¬ X n/\some n∉ns
def NotFz:HO->Prop
 |.lst _=>True
 |.dK _=>True
 |.set _ _=>True
 |_=>False
def TbQ(H:Hp)(P:Addr)(q:Str):Prop:=∃ps:Array Value,H P=some (.tbl ps)/\TriplesOk ps.toList/\∀pos cv,codeAmong pos ps.toList=some cv->∃c,cv=.ref c/\H c=some (.ext (fN c q))
section
variable(K:W.Frag)(mg:Pp)
def Bs(H:Hp):Prop:=∀P q,LamT K mg P q->TbQ H P q/\tZ K mg H
def SlR(P:Addr->Prop)(N0:Addr->Prop)(n:Option (Option Addr))(d:Option (Option V))(H:Hp):Sl->Prop
 |.no=>n=some none
 |.sh v=>n=some none/\∃x,d=some (some x)/\Rd K mg P H x v
 |.ow v=>∃m o,n=some (some m)/\d=some (some (.ref m))/\N0 m/\H m=some o/\NotFz o/\Rc K mg P H o v
 |.lo v=>∃m o,n=some (some m)/\d=some (some (.ref m))/\N0 m/\H m=some o/\NotFz o/\Rc K mg P H o v
 |.mu v=>∃m o,n=some (some m)/\d=some (some (.ref m))/\H m=some o/\NotFz o/\Rc K mg P H o v
 |.lm v=>∃m o,n=some (some m)/\d=some (some (.ref m))/\H m=some o/\NotFz o/\Rc K mg P H o v
structure Sat(X:Addr->Prop)(N0:Addr->Prop)(ns:Ns)(e:E3)(σ:St)(H:Hp):Prop where
 l1:σ.length=e.length
 l2:ns.length=e.length
 lh:∀a,H a=none->N0 a
 xl:∀a,X a->∃o,H a=some o
 inj:∀(i j:Nat) (n:Addr),ns[i]?=some (some n)->ns[j]?=some (some n)->i=j
 nx:∀(i:Nat) (n:Addr),ns[i]?=some (some n)->¬ X n
 sl:∀(i:Nat) (s:Sl),e[i]?=some s->SlR K mg (Oc X ns) N0 (ns[i]?) (σ[i]?) H s
 bs:Bs K mg H
end
def Mt(ns:Ns)(e:E3)(n:Addr):Prop:=∃(i:Nat) (s:Sl),ns[i]?=some (some n)/\e[i]?=some s/\s.mt=true
structure Stp(ns:Ns)(e:E3)(H:Hp)(ns':Ns)(e':E3)(H':Hp):Prop where
 le:LeH H H'
 dom:∀a,H' a=none->H a=none
 keep:∀(m:Addr) (o:HO),H m=some o->oC o->¬ Mt ns e m->H' m=some o
 nw:∀(i:Nat) (n:Addr),ns'[i]?=some (some n)->ns[i]?=some (some n)\/H n=none
 lk:∀(i:Nat) (s:Sl),e[i]?=some s->s.lk=true->e'[i]?=some s/\ns'[i]?=ns[i]?
 lk':∀(i:Nat) (s:Sl),e'[i]?=some s->s.lk=true->e[i]?=some s/\ns'[i]?=ns[i]?
 mu:∀(i:Nat) (v:Val),e'[i]?=some (.mu v)->∃u,e[i]?=some (.mu u)/\ns'[i]?=ns[i]?
 mu':∀(i:Nat) (u:Val),e[i]?=some (.mu u)->∃v,e'[i]?=some (.mu v)/\ns'[i]?=ns[i]?
section
variable{K:W.Frag}{mg:Pp}{X Y N0 P P':Addr->Prop}{ns ns1 h_:Ns}{e e1 e2:E3}{σ:St}{H H' H1 H2:Hp}
def NotFz.nt(h:NotFz o):oC o:=λps z=>by subst z;exact h
def NotFz.no(h:NotFz o):(∀xs,o ≠ .tup xs)/\(∀x y,o ≠ .frz x y)/\(∀φ,o ≠ .ext φ)/\∀ps,o ≠ .tbl ps:=
 ⟨λ_ z=>by subst z;exact h,λ_ _ z=>by subst z;exact h,λ_ z=>by subst z;exact h,λ_ z=>by subst z;exact h⟩
def LeH.wr(q:H a=some u)(hf:NotFz u):LeH H (upd H a o):=by
 have n:∀b w,H b=some w->w≠u->upd H a o b=some w:=λb w e z=>by rw[az λy=>?_];exact e;subst y;rw[q] at e;exact z (J_ e).symm
 exact⟨λb xs e=>n b _ e λz=>hf.no.1 _ z.symm,λb x y e=>n b _ e λz=>hf.no.2.1 _ _ z.symm,λb φ e=>n b _ e λz=>hf.no.2.2.1 _ z.symm⟩
def Eh(b:tZ K mg H)(l:LeH H H'):tZ K mg H':=by
 obtain⟨x,o,h1,h2,h3,h4,h5⟩:=b;refine⟨x,o,h1,h2,h3,h4,?_⟩;rcases h5 with z |⟨u,z⟩
 .exact .inl z
 .exact .inr ⟨u,l.frz _ _ _ z⟩
def Bs.of(b:Bs K mg H)(l:LeH H H')(t:∀a ps,H a=some (.tbl ps)->H' a=some (.tbl ps)):Bs K mg H':=λP q h=>by obtain⟨⟨ps,h1,h2,h3⟩,m⟩:=b P q h;exact⟨⟨ps,t _ _ h1,h2,λpos cv z=>by obtain⟨c,y1,y2⟩:=h3 pos cv z;exact⟨c,y1,l.ext _ _ y2⟩⟩,Eh m l⟩
def Bs.gr(b:Bs K mg H)(g:Gr H H'):Bs K mg H':=b.of g.le λa _=>g a _
def Bs.wr(b:Bs K mg H)(q:H a=some u)(hf:NotFz u):Bs K mg (upd H a o):=b.of (LeH.wr q hf) λc ps e=>by rw[az λy=>?_];exact e;subst y;rw[q] at e;exact hf.no.2.2.2 _ (J_ e)
def aQ{n:Addr}:some n∈ns ↔ ∃i:Nat,ns[i]?=some (some n):=by
 constructor
 .intro m;exact NY m
 .rintro⟨i,e⟩;exact Mw e
def Sat.own(S:Sat K mg X N0 ns e σ H){i:Nat}{n:Addr}(q:ns[i]?=some (some n)):∃s v o,e[i]?=some s/\(s.mt=true\/s.lk=true)/\s.val=some v/\σ[i]?=some (some (.ref n))/\H n=some o/\NotFz o/\Rc K mg (Oc X ns) H o v:=by
 have hi:i<e.length:=by rw[<- S.l2];exact (u_.mp q).1
 have hs:=S.sl i e[i] (v_ hi);refine⟨e[i],?_⟩;have he:=v_ hi;generalize e[i]=s at *;rw[q] at hs;cases s with
 |no=>cases hs
 |sh v=>cases hs.1
 |ow v=>obtain⟨m,o,e1,e2,_,e3,e4,e5⟩:=hs;cases e1;exact⟨v,o,he,.inl rfl,rfl,e2,e3,e4,e5⟩
 |lo v=>obtain⟨m,o,e1,e2,_,e3,e4,e5⟩:=hs;cases e1;exact⟨v,o,he,.inr rfl,rfl,e2,e3,e4,e5⟩
 |mu v=>obtain⟨m,o,e1,e2,e3,e4,e5⟩:=hs;cases e1;exact⟨v,o,he,.inl rfl,rfl,e2,e3,e4,e5⟩
 |lm v=>obtain⟨m,o,e1,e2,e3,e4,e5⟩:=hs;cases e1;exact⟨v,o,he,.inr rfl,rfl,e2,e3,e4,e5⟩
def Stp.gr(g:Gr H H'):Stp ns e H ns e H':=⟨g.le,λ_=>g.none,λ_ _ q _ _=>g _ _ q,λ_ _ q=>.inl q,λ_ _ q _=>⟨q,rfl⟩,λ_ _ q _=>⟨q,rfl⟩,λ_ _ q=>⟨_,q,rfl⟩,λ_ _ q=>⟨_,q,rfl⟩⟩
def Stp.refl:Stp ns e H ns e H:=.gr .refl
def Stp.trans(S:Sat K mg X N0 ns e σ H)(a:Stp ns e H ns1 e1 H1)(b:Stp ns1 e1 H1 h_ e2 H2):Stp ns e H h_ e2 H2:=by
 refine⟨a.le.trans b.le,λx z=>a.dom x (b.dom x z),λm o q ht hm=>?_,λi n q=>?_,λi s q hl=>?_,λi s q hl=>?_,λi v q=>?_,λi v q=>?_⟩
 .refine b.keep m o (a.keep m o q ht hm) ht λ⟨i,s,z1,z2,z3⟩=>hm ?_;rcases a.nw i m z1 with z |z
  .obtain⟨s0,v,o',q1,q2,_⟩:=S.own z;rcases q2 with q2 |q2
   .exact⟨i,s0,z,q1,q2⟩
   .have:=(a.lk i s0 q1 q2).1
    rw[z2] at this;cases this;exfalso;cases s <;> first |cases z3;done |cases q2;done
  .rw[q] at z;cases z
 .rcases b.nw i n q with z |z
  .exact a.nw i n z
  .exact .inr (a.dom n z)
 .obtain⟨q1,q2⟩:=a.lk i s q hl;obtain⟨q3,q4⟩:=b.lk i s q1 hl;exact⟨q3,q4.trans q2⟩
 .obtain⟨q1,q2⟩:=b.lk' i s q hl;obtain⟨q3,q4⟩:=a.lk' i s q1 hl;exact⟨q3,q2.trans q4⟩
 .obtain⟨u,q1,q2⟩:=b.mu i v q;obtain⟨u',q3,q4⟩:=a.mu i u q1;exact⟨u',q3,q2.trans q4⟩
 .obtain⟨u,q1,q2⟩:=a.mu' i v q;obtain⟨u',q3,q4⟩:=b.mu' i u q1;exact⟨u',q3,q4.trans q2⟩
def Stp.mov(a:Stp ns e H ns1 e1 H1):Mov (Oc X ns) (Oc X ns1) H H1:=⟨a.le,λn o p q ht=>by
 have hm:¬ Mt ns e n:=λ⟨i,s,z,_⟩=>p.2 (aQ.mpr ⟨i,z⟩);refine⟨⟨p.1,λz=>?_⟩,a.keep n o q ht hm⟩;obtain⟨i,z⟩:=aQ.mp z;rcases a.nw i n z with z |z
 .exact p.2 (aQ.mpr ⟨i,z⟩)
 .rw[q] at z;cases z⟩
def SlR.mono(m:Mov P P' H H')(k:∀j o,n=some (some j)->H j=some o->NotFz o->H' j=some o)(r:SlR K mg P N0 n d H s):SlR K mg P' N0 n d H' s:=by
 cases s with
 |no=>exact r
 |sh v=>obtain⟨q,x,q1,q2⟩:=r;exact⟨q,x,q1,q2.mono m⟩
 |ow v=>obtain⟨j,o,q1,q2,q3,q4,q5,q6⟩:=r;exact⟨j,o,q1,q2,q3,k j o q1 q4 q5,q5,q6.mono m⟩
 |lo v=>obtain⟨j,o,q1,q2,q3,q4,q5,q6⟩:=r;exact⟨j,o,q1,q2,q3,k j o q1 q4 q5,q5,q6.mono m⟩
 |mu v=>obtain⟨j,o,q1,q2,q4,q5,q6⟩:=r;exact⟨j,o,q1,q2,k j o q1 q4 q5,q5,q6.mono m⟩
 |lm v=>obtain⟨j,o,q1,q2,q4,q5,q6⟩:=r;exact⟨j,o,q1,q2,k j o q1 q4 q5,q5,q6.mono m⟩
def Xn(X:Addr->Prop)(n:Addr):Addr->Prop:=λm=>X m\/m=n
def Sat.gr(S:Sat K mg X N0 ns e σ H)(g:Gr H H'):Sat K mg X N0 ns e σ H':=
 ⟨S.l1,S.l2,λa z=>S.lh a (g.none z),λa z=>by obtain⟨o,q⟩:=S.xl a z;exact⟨o,g a o q⟩,S.inj,S.nx,λi s q=>(S.sl i s q).mono g.mov λj o _ q _=>g j o q,S.bs.gr g⟩
def Sat.grow(S:Sat K mg X N0 ns e σ H)(g:Gr H H')(hp:H p=none)(q:H' p=some o):Sat K mg (Xn X p) N0 ns e σ H':=by
 have S':=S.gr g;have np:∀b u,H b=some u->b≠p:=λb u y z=>by subst z;rw[hp] at y;cases y
 refine⟨S.l1,S.l2,S'.lh,λa z=>?_,S.inj,λi n q' z=>?_,λi s q=>(S.sl i s q).mono ⟨g.le,λa o p q _=>⟨⟨λz=>?_,p.2⟩,g a o q⟩⟩ λj o _ q _=>g j o q,S'.bs⟩
 .rcases z with z |rfl
  .exact S'.xl a z
  .exact⟨o,q⟩
 .rcases z with z |rfl
  .exact S.nx i n q' z
  .obtain⟨_,_,_,_,_,_,_,y,_⟩:=S.own q';exact np _ _ y rfl
 .rcases z with z |z
  .exact p.1 z
  .exact np _ _ q z
def Sat.weak(S:Sat K mg Y N0 ns e σ H)(hx:∀n,X n->Y n):Sat K mg X N0 ns e σ H:=
 ⟨S.l1,S.l2,S.lh,λn z=>S.xl n (hx n z),S.inj,λi n q z=>S.nx i n q (hx n z),λi s q=>(S.sl i s q).mono (.of λn p=>⟨λz=>p.1 (hx n z),p.2⟩) λ_ _ _ q _=>q,S.bs⟩
end
section
variable{K:W.Frag}{mg:Pp}{X N0:Addr->Prop}{ns ns0:Ns}{e e0:E3}{σ:St}{H Hs:Hp}
def bu{α:Type}{l:List α}{i j:Nat}{a b:α}(hi:i<l.length)(q:(l.set i a)[j]?=some b):(j=i/\b=a)\/(j≠i/\l[j]?=some b):=by
 rw[List.getElem?_set] at q;by_cases z:i=j
 .subst z;rw[if_pos rfl,if_pos hi] at q;exact .inl ⟨rfl,(J_ q).symm⟩
 .rw[if_neg z] at q;exact .inr ⟨λy=>z y.symm,q⟩
def b9{α:Type}{l:List α}{i:Nat}{a:α}(hi:i<l.length):(l.set i a)[i]?=some a:=by rw[List.getElem?_set,if_pos rfl,if_pos hi]
def b8{α:Type}{l:List α}{i j:Nat}{a:α}(hi:j≠i):(l.set i a)[j]?=l[j]?:=by rw[Oq (λy=>hi y.symm)]
def eF{n:Addr}(p:Oc X ns n):Oc X (ns.set i none) n:=⟨p.1,λz=>by
 rcases Nw z with z |z
 .exact p.2 z
 .cases z⟩
def Sat.putN(S:Sat K mg X N0 ns e σ H)(hi:i<e.length)(q:SlR K mg (Oc X (ns.set i none)) N0 (some none) (some d) H s):Sat K mg X N0 (ns.set i none) (e.set i s) (σ.set i d) H:=by
 have hn:i<ns.length:=by rw[S.l2];exact hi
 have ha:i<σ.length:=by rw[S.l1];exact hi
 refine⟨by rw[MJ,MJ];exact S.l1,by rw[MJ,MJ];exact S.l2,S.lh,S.xl,λj k n q1 q2=>?_,λj n q1=>?_,λj s' q1=>?_,S.bs⟩
 .rcases bu hn q1 with ⟨_,z⟩ |⟨_,z⟩
  .cases z
  rcases bu hn q2 with ⟨_,y⟩ |⟨_,y⟩
  .cases y
  exact S.inj j k n z y
 .rcases bu hn q1 with ⟨_,z⟩ |⟨_,z⟩
  .cases z
  exact S.nx j n z
 .rcases bu hi q1 with ⟨rfl,rfl⟩ |⟨z,q2⟩
  .rw[b9 hn,b9 ha];exact q
  .rw[b8 z,b8 z];exact (S.sl j s' q2).mono (.of λn p=>eF p) λ_ _ _ q _=>q
def Sat.putN'(S:Sat K mg X N0 ns e σ H)(hi:i<e.length)(q:SlR K mg (Oc X (ns.set i none)) N0 (some none) (σ[i]?) H s):Sat K mg X N0 (ns.set i none) (e.set i s) σ H:=by
 have ha:i<σ.length:=by rw[S.l1];exact hi
 have:=S.putN hi (s:=s) (d:=σ[i]) (by rw[v_ ha] at q;exact q)
 rw[List.set_getElem_self] at this;exact this
def Sat.putO(S:Sat K mg (Xn X n) N0 ns e σ H)(hx:¬ X n)(hi:i<e.length)(hn0:N0 n)(eo:H n=some o)(hf:NotFz o)(r:Rc K mg (Oc (Xn X n) ns) H o v):Sat K mg X N0 (ns.set i (some n)) (e.set i (.ow v)) (σ.set i (some (.ref n))) H:=by
 have hn:i<ns.length:=by rw[S.l2];exact hi
 have ha:i<σ.length:=by rw[S.l1];exact hi
 have nn:∀j:Nat,ns[j]?≠some (some n):=λj q=>S.nx j n q (.inr rfl);have mv:Mov (Oc (Xn X n) ns) (Oc X (ns.set i (some n))) H H:=.of λm p=>⟨λz=>p.1 (.inl z),λz=>by
  rcases Nw z with z |z
  .exact p.2 z
  .cases z;exact p.1 (.inr rfl)⟩
 refine⟨by rw[MJ,MJ];exact S.l1,by rw[MJ,MJ];exact S.l2,S.lh,λm z=>S.xl m (.inl z),λj k m q1 q2=>?_,λj m q1 z=>?_,λj s' q1=>?_,S.bs⟩
 .rcases bu hn q1 with ⟨z1,z⟩ |⟨z1,z⟩ <;> rcases bu hn q2 with ⟨y1,y⟩ |⟨y1,y⟩
  .rw[z1,y1]
  .cases z;exact absurd y (nn k)
  .cases y;exact absurd z (nn j)
  .exact S.inj j k m z y
 .rcases bu hn q1 with ⟨_,y⟩ |⟨_,y⟩
  .cases y;exact hx z
  .exact S.nx j m y (.inl z)
 .rcases bu hi q1 with ⟨rfl,rfl⟩ |⟨z,q2⟩
  .rw[b9 hn,b9 ha];exact⟨n,o,rfl,rfl,hn0,eo,hf,r.mono mv⟩
  .rw[b8 z,b8 z];exact (S.sl j s' q2).mono mv λ_ _ _ q _=>q
noncomputable def Sl.pl:Sl->Bool
 |.no=>true
 |.sh _=>true
 |.ow _=>true
 |_=>false
def Stp.put(A:Stp ns0 e0 Hs ns e H)(hi:i<e.length)(hx:∀n,x=some n->Hs n=none)(q0:e[i]?=some s0)(p0:s0.pl=true)(p:s.pl=true)(l2:ns.length=e.length):Stp ns0 e0 Hs (ns.set i x) (e.set i s) H:=by
 have hn:i<ns.length:=by rw[l2];exact hi
 refine⟨A.le,A.dom,A.keep,λj n q=>?_,λj s' q hl=>?_,λj s' q hl=>?_,λj v q=>?_,λj v q=>?_⟩
 .rcases bu hn q with ⟨_,z⟩ |⟨_,z⟩
  .exact .inr (hx n z.symm)
  .exact A.nw j n z
 .obtain⟨q1,q2⟩:=A.lk j s' q hl;have z:j≠i:=λz=>by subst z;rw[q0] at q1;cases q1;cases s0 <;> first |cases p0;done |cases hl;done
  rw[b8 z,b8 z];exact⟨q1,q2⟩
 .rcases bu hi q with ⟨_,z⟩ |⟨z,q1⟩
  .subst z;cases s' <;> first |cases p;done |cases hl;done
  .rw[b8 z];exact A.lk' j s' q1 hl
 .rcases bu hi q with ⟨_,z⟩ |⟨z,q1⟩
  .subst z;cases p
  .rw[b8 z];exact A.mu j v q1
 .obtain⟨u,q1,q2⟩:=A.mu' j v q;have z:j≠i:=λz=>by subst z;rw[q0] at q1;cases q1;cases p0
  exact⟨u,by rw[b8 z];exact q1,by rw[b8 z];exact q2⟩
end
inductive Tm where
 |val (v:Val) |new (v:Val) |bor (i:Nat)
inductive R3(α:Type) where
 |ok (a:α) (e:E3) |exc (c:Str) (e:E3) |stuck
noncomputable def R3.bind {α β:Type} (r:R3 α) (f:α->E3->R3 β):R3 β:=match r with
 |.ok a e=>f a e
 |.exc c e=>.exc c e
 |.stuck=>.stuck
abbrev ME3:=E3->R3 Tm
abbrev MT3:=E3->R3 Bool
abbrev MA3:=E3->R3 (List Tm)
section
variable(K:W.Frag)(mg:Pp)
def PG3{α:Type}(X N0:Addr->Prop)(ns:Ns)(e:E3)(σ:St)(H:Hp)(E:XK)(k:α->E3->Ns->Hp->Prop):R3 α->Prop
 |.ok t e'=>∀H' ns',Stp ns e H ns' e' H'->Sat K mg X N0 ns' e' σ H'->k t e' ns' H'
 |.exc c e'=>∀H' ns' C,Stp ns e H ns' e' H'->Sat K mg X N0 ns' e' σ H'->mg c=some (.ref C)->E (.ref C) none H'
 |.stuck=>False
def relE(X N0 L:Addr->Prop)(σ:St)(ns:Ns)(e:E3)(H:Hp)(d:V):Tm->Prop
 |.val v=>Rd K mg (Oc X ns) H d v
 |.new v=>∃n o,d=.ref n/\L n/\¬ X n/\H n=some o/\NotFz o/\Sat K mg (Xn X n) N0 ns e σ H/\Rc K mg (Oc (Xn X n) ns) H o v
 |.bor i=>σ[i]?=some (some d)
inductive TsR(X:Addr->Prop)(ns:Ns)(σ:St)(H:Hp):List V->List Tm->Prop where
 |nil:TsR X ns σ H [] []
 |val {d:V}{v:Val}{ds:List V}{ts:List Tm} (r:Rd K mg (Oc X ns) H d v) (rr:TsR X ns σ H ds ts):TsR X ns σ H (d::ds) (.val v::ts)
 |bor {d:V}{i:Nat}{ds:List V}{ts:List Tm} (q:σ[i]?=some (some d)) (rr:TsR X ns σ H ds ts):TsR X ns σ H (d::ds) (.bor i::ts)
abbrev KE(X N0 L:Addr->Prop)(σ:St)(Q:VK):Tm->E3->Ns->Hp->Prop:=λt e' ns' H'=>∀v,relE K mg X N0 L σ ns' e' H' v t->Q v H'
abbrev KA(X:Addr->Prop)(σ:St)(Q:List V->Hp->Prop):List Tm->E3->Ns->Hp->Prop:=λts _ ns' H'=>∀vs,TsR K mg X ns' σ H' vs ts->Q vs H'
abbrev KT(Q:Bool->Hp->Prop):Bool->E3->Ns->Hp->Prop:=λb _ _ H'=>Q b H'
def rdE(ES:St->XK)(G:ME3):TE:=λσ H Q=>∃X N0 L ns e,Sat K mg X N0 ns e σ H/\(∀a,H a=none->L a)/\PG3 K mg X N0 ns e σ H (ES σ) (KE K mg X N0 L σ Q) (G e)
def rdT(ES:St->XK)(G:MT3):TT:=λσ H Q=>∃X N0 ns e,Sat K mg X N0 ns e σ H/\PG3 K mg X N0 ns e σ H (ES σ) (KT Q) (G e)
def rdA(ES:St->XK)(G:MA3):TA:=λσ H Q=>∃X N0 ns e,Sat K mg X N0 ns e σ H/\PG3 K mg X N0 ns e σ H (ES σ) (KA K mg X σ Q) (G e)
end
section
variable{K:W.Frag}{mg:Pp}{ES:St->XK}{σ:St}{H:Hp}{Z:Prop}
def rdE.el{G:ME3}(h:rdE K mg ES G σ H Q)(k:∀X N0 L ns e,Sat K mg X N0 ns e σ H->(∀a,H a=none->L a)->PG3 K mg X N0 ns e σ H (ES σ) (KE K mg X N0 L σ Q) (G e)->Z):Z:=by obtain⟨X,N0,L,ns,e,S,hl,p⟩:=h;exact k X N0 L ns e S hl p
def rdT.el{G:MT3}(h:rdT K mg ES G σ H Q)(k:∀X N0 ns e,Sat K mg X N0 ns e σ H->PG3 K mg X N0 ns e σ H (ES σ) (KT Q) (G e)->Z):Z:=by obtain⟨X,N0,ns,e,S,p⟩:=h;exact k X N0 ns e S p
def rdA.el{G:MA3}(h:rdA K mg ES G σ H Q)(k:∀X N0 ns e,Sat K mg X N0 ns e σ H->PG3 K mg X N0 ns e σ H (ES σ) (KA K mg X σ Q) (G e)->Z):Z:=by obtain⟨X,N0,ns,e,S,p⟩:=h;exact k X N0 ns e S p
end
noncomputable def rs (e:E3):Tm->Option Val
 |.val v=>some v
 |.new v=>some v
 |.bor i=>(e[i]?).bind Sl.val
noncomputable def Tm.drop:Tm->Tm
 |.new v=>.val v
 |t=>t
noncomputable def rss (e:E3):List Tm->Option (List Val)
 | []=>some []
 |t::ts=>match rs e t,rss e ts with
  |some v,some vs=>some (v::vs)
  |_,_=>none
section
variable{K:W.Frag}{mg:Pp}{X N0 L:Addr->Prop}{ns ns':Ns}{e e':E3}{σ:St}{H H':Hp}{E:XK}
def PG3.ret{α:Type}{k:α->E3->Ns->Hp->Prop}{t:α}(p:PG3 K mg X N0 ns e σ H E k (.ok t e))(S:Sat K mg X N0 ns e σ H):k t e ns H:=p H ns .refl S
def PG3.after{α:Type}{r:R3 α}{k:α->E3->Ns->Hp->Prop}(p:PG3 K mg X N0 ns e σ H E k r)(S:Sat K mg X N0 ns e σ H)(a:Stp ns e H ns' e' H'):PG3 K mg X N0 ns' e' σ H' E k r:=by
 cases r with
 |stuck=>exact p
 |exc c e2=>exact λH2 h_ C b S2 m=>p H2 h_ C (a.trans S b) S2 m
 |ok t2 e2=>exact λH2 h_ b S2=>p H2 h_ (a.trans S b) S2
def PG3.imp{α β:Type}{r:R3 α}{f:α->E3->R3 β}{k:β->E3->Ns->Hp->Prop}{k':α->E3->Ns->Hp->Prop}(p:PG3 K mg X N0 ns e σ H E k (r.bind f))(S:Sat K mg X N0 ns e σ H)
 (i:∀t e1 ns1 H1,Stp ns e H ns1 e1 H1->Sat K mg X N0 ns1 e1 σ H1->PG3 K mg X N0 ns1 e1 σ H1 E k (f t e1)->k' t e1 ns1 H1):PG3 K mg X N0 ns e σ H E k' r:=by
 cases r with
 |stuck=>exact p
 |exc c e'=>exact p
 |ok t e1=>intro H1 ns1 a S1;exact i t e1 ns1 H1 a S1 (PG3.after (show PG3 K mg X N0 ns e σ H E k (f t e1) from p) S a)
def TsR.stp(a:Stp ns e H ns' e' H')(r:TsR K mg X ns σ H ds ts):TsR K mg X ns' σ H' ds ts:=by
 induction r with
 |nil=>exact .nil
 |val r _ ih=>exact .val (r.mono a.mov) ih
 |bor q _ ih=>exact .bor q ih
def Sat.bor(S:Sat K mg X N0 ns e σ H){i:Nat}{d:V}{v:Val}(q:σ[i]?=some (some d))(r:(e[i]?).bind Sl.val=some v):ShR K mg (Oc X ns) H d v:=by
 cases z:e[i]? with
 |none=>rw[z] at r;cases r
 |
  some s=>
  rw[z] at r;have y:=S.sl i s z;rw[q] at y;have r':s.val=some v:=r;cases s with
  |no=>cases r'
  |sh u=>cases r';obtain⟨_,x,e1,e2⟩:=y;cases e1;exact .inl e2
  |ow u=>cases r';obtain⟨m,o,_,e2,_,e3,_,e4⟩:=y;cases e2;exact .inr ⟨m,o,rfl,e3,e4⟩
  |lo u=>cases r';obtain⟨m,o,_,e2,_,e3,_,e4⟩:=y;cases e2;exact .inr ⟨m,o,rfl,e3,e4⟩
  |mu u=>cases r';obtain⟨m,o,_,e2,e3,_,e4⟩:=y;cases e2;exact .inr ⟨m,o,rfl,e3,e4⟩
  |lm u=>cases r';obtain⟨m,o,_,e2,e3,_,e4⟩:=y;cases e2;exact .inr ⟨m,o,rfl,e3,e4⟩
def relE.new(r:relE K mg X N0 L σ ns e H d (.new v)):Rd K mg (Oc X ns) H d v:=by obtain⟨n,o,rfl,_,hx,eo,_,S,rc⟩:=r;exact .cell ⟨hx,λz=>by obtain⟨i,z⟩:=aQ.mp z;exact S.nx i n z (.inr rfl)⟩ eo (rc.mono (.of λm p=>⟨λz=>p.1 (.inl z),p.2⟩))
def relE.sh{d:V}{t:Tm}{v:Val}(S:Sat K mg X N0 ns e σ H)(r:relE K mg X N0 L σ ns e H d t)(q:rs e t=some v):ShR K mg (Oc X ns) H d v:=by
 cases t with
 |val u=>cases q;exact .inl r
 |new u=>cases q;exact .inl r.new
 |bor i=>exact S.bor r q
def relE.drop(r:relE K mg X N0 L σ ns e H d t)(a:Stp ns e H ns' e' H'):relE K mg X N0 L σ ns' e' H' d t.drop:=by
 cases t with
 |val u=>exact Rd.mono a.mov r
 |new u=>exact Rd.mono a.mov r.new
 |bor i=>exact r
def TsR.sh{ds:List V}{ts:List Tm}{vs:List Val}(S:Sat K mg X N0 ns e σ H)(r:TsR K mg X ns σ H ds ts)(q:rss e ts=some vs):ShRs K mg (Oc X ns) H ds vs:=by
 induction r generalizing vs with
 |nil=>cases q;exact .nil
 |
  val r _ ih=>
  unfold rss at q;split at q
  .rename_i e1 e2;cases q;cases e1;exact .cons (.inl r) (ih e2)
  .cases q
 |
  bor q' _ ih=>
  unfold rss at q;split at q
  .rename_i e1 e2;cases q;exact .cons (S.bor q' e1) (ih e2)
  .cases q
end
inductive Bv where
 |val (v:Val) |new (v:Val) |stuck
noncomputable def Bv.at (b:Bv) (e:E3):R3 Tm:=match b with
 |.val v=>.ok (.val v) e
 |.new v=>.ok (.new v) e
 |.stuck=>.stuck
def BvP(K:W.Frag)(mg:Pp)(P:Addr->Prop)(H:Hp)(Q:VK):Bv->Prop
 |.val v=>∀H1 x,Gr H H1->Rd K mg P H1 x v->Q x H1
 |.new v=>∀H1 a o,Gr H H1->H1 a=none->NotFz o->Rc K mg P H1 o v->Q (.ref a) (upd H1 a o)
 |.stuck=>False
section
variable{K:W.Frag}{mg:Pp}{X N0 L:Addr->Prop}{ns:Ns}{e:E3}{σ:St}{H:Hp}{E:XK}{Q:VK}
def PG3.bv(p:PG3 K mg X N0 ns e σ H E (KE K mg X N0 L σ Q) (b.at e))(S:Sat K mg X N0 ns e σ H)(hl:∀a,H a=none->L a):BvP K mg (Oc X ns) H Q b:=by
 cases b with
 |stuck=>exact p
 |val v=>exact λH1 x g r=>p H1 ns (.gr g) (S.gr g) x r
 |
  new v=>
  intro H1 a o g ha hf r;have g2:Gr H (upd H1 a o):=λc u q=>Gr.upd ha c u (g c u q);have S':=S.grow g2 (g.none ha) aG;refine p _ ns (.gr g2) (S.gr g2) _ ⟨a,o,rfl,hl a (g.none ha),λz=>?_,aG,hf,S',r.mono ⟨(Gr.upd ha).le,λc u q z _=>⟨⟨λy=>?_,q.2⟩,Gr.upd ha c u z⟩⟩⟩
  .obtain⟨u,q⟩:=S.xl a z;rw[g.none ha] at q;cases q
  .rcases y with y |rfl
   .exact q.1 y
   .rw[ha] at z;cases z
end
section
variable(K:W.Frag)(mg:Pp)
def UnD(r:V->Hp->VK->Prop)(g:Val->Bv):Prop:=∀P H x v Q,ShR K mg P H x v->BvP K mg P H Q (g v)->r x H Q
def OpD(r:R2)(g:Val->Val->Bv):Prop:=∀P H x y v u Q,ShR K mg P H x v->ShR K mg P H y u->BvP K mg P H Q (g v u)->r x y H Q
def cI(r:List V->Hp->VK->Prop)(g:List Val->Bv):Prop:=∀P H xs vs Q,ShRs K mg P H xs vs->BvP K mg P H Q (g vs)->r xs H Q
end
noncomputable def eL (i:Nat) (e:E3):R3 Tm:=match e[i]? with
 |some (.sh v)=>.ok (.val v) e
 |some .no=>.stuck
 |some _=>.ok (.bor i) e
 |none=>.stuck
noncomputable def vC (v:Val) (e:E3):R3 Tm:=.ok (.val v) e
noncomputable def vUn (g:Val->Bv) (F:ME3) (e:E3):R3 Tm:=(F e).bind λt e1=>match rs e1 t with
 |some v=>(g v).at e1
 |none=>.stuck
noncomputable def vOp (g:Val->Val->Bv) (F G:ME3) (e:E3):R3 Tm:=(F e).bind λt1 e1=>(G e1).bind λt2 e2=>match rs e2 t1.drop,rs e2 t2 with
 |some v1,some v2=>(g v1 v2).at e2
 |_,_=>.stuck
noncomputable def nZ (e:E3):R3 (List Tm):=.ok [] e
noncomputable def mq (F:ME3) (A:MA3) (e:E3):R3 (List Tm):=(F e).bind λt e1=>(A e1).bind λts e2=>.ok (t.drop::ts) e2
noncomputable def vFn (g:List Val->Bv) (A:MA3) (e:E3):R3 Tm:=(A e).bind λts e1=>match rss e1 ts with
 |some vs=>(g vs).at e1
 |none=>.stuck
noncomputable def cT (e:E3):Tm->Option (E3×Val)
 |.val v=>some (e,v)
 |.new v=>some (e,v)
 |.bor i=>match e[i]? with
  |some (.sh v)=>some (e,v)
  |some (.ow v)=>some (e.set i (.sh v),v)
  |_=>none
noncomputable def dem (e:E3):List Tm->Option (E3×List Val)
 | []=>some (e,[])
 |t::ts=>match cT e t with
  |some (e1,v)=>match dem e1 ts with
   |some (e2,vs)=>some (e2,v::vs)
   |none=>none
  |none=>none
noncomputable def vTup (A:MA3) (e:E3):R3 Tm:=(A e).bind λts e1=>match dem e1 ts with
 |some (e2,vs)=>if vs.length<=16777216 then .ok (.val (.tup vs)) e2 else .stuck
 |none=>.stuck
noncomputable def vLst (A:MA3) (e:E3):R3 Tm:=(A e).bind λts e1=>match dem e1 ts with
 |some (e2,vs)=>if vs.length<=16777216 then .ok (.new (.lst vs)) e2 else .stuck
 |none=>.stuck
noncomputable def bOf:Option Val->Option Bool
 |some (.bl b)=>some b
 |_=>none
noncomputable def vAnd (F G:ME3) (e:E3):R3 Tm:=(F e).bind λt e1=>match bOf (rs e1 t) with
 |some true=>G e1
 |some false=>.ok (.val (.bl false)) e1
 |none=>.stuck
noncomputable def vOr (F G:ME3) (e:E3):R3 Tm:=(F e).bind λt e1=>match bOf (rs e1 t) with
 |some true=>.ok (.val (.bl true)) e1
 |some false=>G e1
 |none=>.stuck
noncomputable def vNot (F:ME3) (e:E3):R3 Tm:=(F e).bind λt e1=>match bOf (rs e1 t) with
 |some b=>.ok (.val (.bl (!b))) e1
 |none=>.stuck
noncomputable def cOf (F:ME3) (e:E3):R3 Bool:=(F e).bind λt e1=>match bOf (rs e1 t) with
 |some b=>.ok b e1
 |none=>.stuck
noncomputable def cAn (c d:MT3) (e:E3):R3 Bool:=(c e).bind λb e1=>if b=true then d e1 else .ok false e1
noncomputable def cO (c d:MT3) (e:E3):R3 Bool:=(c e).bind λb e1=>if b=true then .ok true e1 else d e1
noncomputable def cNo (c:MT3) (e:E3):R3 Bool:=(c e).bind λb e1=>.ok (!b) e1
noncomputable def cY (e:E3):R3 Bool:=.ok true e
noncomputable def om:Val->Option Bool
 |.non=>some false
 |.bl b=>some b
 |.int i=>some (i != 0)
 |.tup xs=>some (!xs.isEmpty)
 |.lst xs=>some (!xs.isEmpty)
 |.kl xs=>some (!xs.isEmpty)
 |_=>none
noncomputable def cTr (F:ME3) (e:E3):R3 Bool:=(F e).bind λt e1=>match (rs e1 t).bind om with
 |some b=>.ok b e1
 |none=>.stuck
section
variable{K:W.Frag}{mg:Pp}{X N0 L:Addr->Prop}{ns:Ns}{e:E3}{σ:St}{H:Hp}
def Jo(S:Sat K mg X N0 ns e σ H)(q:e[i]?=some (.ow v)):∃n,σ[i]?=some (some (.ref n))/\Sat K mg X N0 (ns.set i none) (e.set i (.sh v)) σ H/\Stp ns e H (ns.set i none) (e.set i (.sh v)) H/\Rd K mg (Oc X (ns.set i none)) H (.ref n) v:=by
 obtain⟨n,o,q1,q2,_,q3,_,q4⟩:=S.sl i _ q;have hi:=(u_.mp q).1;have hn:i<ns.length:=by rw[S.l2];exact hi
 have r:Rd K mg (Oc X (ns.set i none)) H (.ref n) v:=.cell ⟨S.nx i n q1,λz=>by
  obtain⟨j,z⟩:=aQ.mp z;rcases bu hn z with ⟨_,y⟩ |⟨y,z⟩
  .cases y
  .exact y (S.inj j i n z q1)⟩ q3 (q4.mono (.of λm p=>eF p))
 exact⟨n,q2,S.putN' hi ⟨rfl,_,q2,r⟩,Stp.refl.put (x:=none) hi (λ_ z=>by cases z) q rfl rfl S.l2,r⟩
def fW{d:V}{t:Tm}{v:Val}{e':E3}(S:Sat K mg X N0 ns e σ H)(r:relE K mg X N0 L σ ns e H d t)(q:cT e t=some (e',v)):∃ns',Sat K mg X N0 ns' e' σ H/\Stp ns e H ns' e' H/\Rd K mg (Oc X ns') H d v:=by
 cases t with
 |val u=>cases q;exact⟨ns,S,.refl,r⟩
 |new u=>cases q;exact⟨ns,S,.refl,r.new⟩
 |
  bor i=>
  unfold cT at q;dsimp only at q;have r':σ[i]?=some (some d):=r;split at q
  .rename_i u q1;cases q;obtain⟨_,x,e1,e2⟩:=S.sl i _ q1;rw[r'] at e1;cases e1;exact⟨ns,S,.refl,e2⟩
  .rename_i u q1;cases q;obtain⟨n,e1,S',a',e2⟩:=Jo S q1;rw[r'] at e1;cases e1;exact⟨_,S',a',e2⟩
  .cases q
def iI:∀{ds:List V}{vs:List Val}{ns:Ns}{e e':E3},Sat K mg X N0 ns e σ H->TsR K mg X ns σ H ds ts->dem e ts=some (e',vs)->∃ns',Sat K mg X N0 ns' e' σ H/\Stp ns e H ns' e' H/\Rds K mg (Oc X ns') H ds vs:=by
 induction ts with
 |nil=>intro ds vs ns e e' S r q;cases r;cases q;exact⟨ns,S,.refl,.nil⟩
 |
  cons t ts ih=>
  intro ds vs ns e e' S r q;unfold dem at q;split at q
  .rename_i e1 v q1;split at q
   .rename_i e2 vs' q2;cases q;have hr:∃d ds',ds=d::ds'/\relE K mg X N0 X σ ns e H d t/\TsR K mg X ns σ H ds' ts:=by
     cases r with
     |val r rr=>exact⟨_,_,rfl,r,rr⟩
     |bor r rr=>exact⟨_,_,rfl,r,rr⟩
    obtain⟨d,ds',rfl,hr⟩:=hr;obtain⟨ns1,S1,a1,r1⟩:=fW S hr.1 q1;obtain⟨h_,S2,a2,r2⟩:=ih S1 (hr.2.stp a1) q2;exact⟨h_,S2,a1.trans S a2,.cons (r1.mono a2.mov) r2⟩
   .cases q
  .cases q
end
structure PEx where
 t:Nat
 G:ME3
structure PTs where
 t:Nat
 G:MT3
structure PAs where
 t:Nat
 G:MA3
structure PO2 where
 G:Val->Val->Bv
structure PU1 where
 G:Val->Bv
structure PBf where
 G:List Val->Bv
noncomputable def af (i:Nat):PEx:=⟨1,eL i⟩
noncomputable def ah (i:Int):PEx:=⟨2,vC (.int i)⟩
noncomputable def pBl (i:Bool):PEx:=⟨3,vC (.bl i)⟩
noncomputable def bS (i:Str):PEx:=⟨4,vC (.str i)⟩
noncomputable def pTy (i:String):PEx:=⟨6,vC (.ty i)⟩
noncomputable def xC (i:Str):PEx:=⟨7,vC (.glb i)⟩
noncomputable def mZ (v:Val):PEx:=⟨8,vC v⟩
noncomputable def pUn (o:PU1) (a:PEx):PEx:=⟨9,vUn o.G a.G⟩
noncomputable def pOp (o:PO2) (a b:PEx):PEx:=⟨10,vOp o.G a.G b.G⟩
noncomputable def ag:PAs:=⟨1,nZ⟩
noncomputable def aa (a:PEx) (r:PAs):PAs:=⟨2,mq a.G r.G⟩
noncomputable def pFn (o:PBf) (a:PAs):PEx:=⟨11,vFn o.G a.G⟩
noncomputable def bg (a:PAs):PEx:=⟨12,vTup a.G⟩
noncomputable def cX (a:PAs):PEx:=⟨13,vLst a.G⟩
noncomputable def i7 (a b:PEx):PEx:=⟨14,vAnd a.G b.G⟩
noncomputable def pOr (a b:PEx):PEx:=⟨15,vOr a.G b.G⟩
noncomputable def BV (a:PEx):PEx:=⟨16,vNot a.G⟩
noncomputable def qOf (a:PEx):PTs:=⟨1,cOf a.G⟩
noncomputable def qTr (a:PEx):PTs:=⟨2,cTr a.G⟩
noncomputable def qAn (a b:PTs):PTs:=⟨3,cAn a.G b.G⟩
noncomputable def qO (a b:PTs):PTs:=⟨4,cO a.G b.G⟩
noncomputable def qNo (a:PTs):PTs:=⟨5,cNo a.G⟩
noncomputable def qY:PTs:=⟨6,cY⟩
section
variable(K:W.Frag)(mg:Pp)(X:Cx)(ES:St->XK)
structure DE(e:Expr)(F:PEx):Prop where
 ok:PE X e (rdE K mg ES F.G)
structure DT(e:Expr)(F:PTs):Prop where
 ok:PT X e (rdT K mg ES F.G)
structure DW(e:Expr)(F:PTs):Prop where
 ok:PW X e (rdT K mg ES F.G)
structure DA(es:List Expr)(F:PAs):Prop where
 ok:PA X es (rdA K mg ES F.G)
end
structure GC(K:W.Frag)(mg:Pp)(x:Str)(d:Val):Prop where
 ex:∃u v,mg x=some u/\RelV v u/\∀P H,Rd K mg P H v d
section
variable{K:W.Frag}{mg:Pp}{X:Cx}{ES:St->XK}{e a b:Expr}{es:List Expr}{F G p q:PEx}{A:PAs}{t u:PTs}{pos:Pos}{k:PO2}
def AA(i:Nat){x:Str}(hN:X.N[i]?=some x:=by rfl)(hv:Vis X.env.scope x:=by first |exact Or.inl rfl |exact Or.inr (Or.inl rfl) |exact Or.inr (Or.inr rfl))(hd:(x==("__debug__" : Str))=false:=by decide)(l_:(x==("__classdict__" : Str))=false:=by decide):DE K mg X ES (.Name x pos) (af i):=
 ⟨PE.imp (mf hN hv hd l_) λσ H Q zz=>zz.el λY N0 L ns e S hl p=>by
  have p:PG3 K mg Y N0 ns e σ H (ES σ) (KE K mg Y N0 L σ Q) (eL i e):=p;unfold eL at p;split at p
  .rename_i v q;obtain⟨_,x,e1,r⟩:=S.sl i _ q;exact⟨x,e1,p.ret S x r⟩
  .exact p.elim
  .rename_i s h1 h2 q;have y:=S.sl i s q;have:∃x,σ[i]?=some (some x):=by
    cases s with
    |no=>exact absurd rfl h2
    |sh v=>exact absurd rfl (h1 v)
    |ow v=>obtain⟨m,_,_,y,_⟩:=y;exact⟨_,y⟩
    |lo v=>obtain⟨m,_,_,y,_⟩:=y;exact⟨_,y⟩
    |mu v=>obtain⟨m,_,_,y,_⟩:=y;exact⟨_,y⟩
    |lm v=>obtain⟨m,_,_,y,_⟩:=y;exact⟨_,y⟩
   obtain⟨x,e1⟩:=this;exact⟨x,e1,p.ret S x e1⟩
  .exact p.elim⟩
def oA{v:V}{d:Val}{tg:Nat}(hp:PE X e (tC v))(r:∀P H,Rd K mg P H v d):DE K mg X ES e ⟨tg,vC d⟩:=⟨PE.imp hp λσ H Q zz=>zz.el λY N0 L ns e S hl p=>PG3.ret p S v (r _ _)⟩
def IZ:DE K mg X ES (.Constant (.int i) j pos) (ah i):=oA Hi λ_ _=>.int i
def LR:DE K mg X ES (.Constant (.bool i) j pos) (pBl i):=oA L5 λ_ _=>.bl i
def Hc:DE K mg X ES (.Constant (.str x) j pos) (bS x):=oA Je λ_ _=>.str x
def Gg{x:Str}(hg:Gl X x)(ha:∃a,mg x=some (.ref a))(hm:X.mg=mg:=by rfl)(hd:(x==("__debug__" : Str))=false:=by decide):DE K mg X ES (.Name x pos) (xC x):=by subst hm;obtain⟨a,ha⟩:=ha;exact oA (vM hg ha (v:=.ref a) rfl hd) λ_ _=>.glb ha
def JZ{x:Str}{d:Val}(hg:Gl X x)(ha:GC K mg x d)(hm:X.mg=mg:=by rfl)(hd:(x==("__debug__" : Str))=false:=by decide):DE K mg X ES (.Name x pos) (mZ d):=by subst hm;obtain⟨u,v,h1,h2,h3⟩:=ha.ex;exact oA (vM hg h1 h2 hd) h3
def LO{x:Str}{n:String}(hg:Gl X x)(hm:mg x=none)(hv:bootBuiltins x=some (.type n))(he:X.mg=mg:=by rfl)(hn:x ≠ "__name__":=by decide)(hd:(x==("__debug__" : Str))=false:=by decide):DE K mg X ES (.Name x pos) (pTy n):=by subst he;exact oA (Fb hg hm hv (v:=.ty n) rfl hn hd) λ_ _=>.ty n
def pZ(hd:OpD K mg r k.G)(σ:St)(H:Hp)(Q:VK):rdE K mg ES (pOp k F G).G σ H Q->tOp r (rdE K mg ES F.G) (rdE K mg ES G.G) σ H Q:=λzz=>zz.el λY N0 L ns e S hl p=>
 ⟨Y,
  N0,L,ns,e,S,hl,PG3.imp p S λt1 e1 ns1 H1 a1 S1 p1 x r1=>⟨Y,N0,L,ns1,e1,S1,λa z=>hl a (a1.dom a z),PG3.imp p1 S1 λt2 e2 h_ H2 a2 S2 p2 y r2=>by
  try dsimp only at p2
  split at p2
  .rename_i v u q1 q2;exact hd _ _ _ _ _ _ _ ((r1.drop a2).sh S2 q1) (r2.sh S2 q2) (p2.bv S2 λa z=>hl a (a1.dom a (a2.dom a z)))
  .exact p2.elim⟩⟩
def DU(ho:OpR X (binaryOp op) r)(hd:OpD K mg r k.G)(ha:DE K mg X ES a p)(hb:DE K mg X ES b q):DE K mg X ES (.BinOp a op b pos) (pOp k p q):=⟨PE.imp (Ld ho ha.ok hb.ok) (pZ hd)⟩
def LL(hr:IxR X r)(hd:OpD K mg r k.G)(ha:DE K mg X ES a p)(hb:DE K mg X ES b q)(hs:oy b:=by exact λ_ _=>rfl):DE K mg X ES (.Subscript a b pos) (pOp k p q):=⟨PE.imp (Ec hr ha.ok hb.ok hs) (pZ hd)⟩
def HJ(ho:OpR X (compareOp op) r)(hd:OpD K mg r k.G)(ha:DE K mg X ES a p)(hb:DE K mg X ES b q)(hm:behindInMarks op b=false:=by first |exact zY _ |with_unfolding_all rfl):DE K mg X ES (.Compare a [op] [b] pos) (pOp k p q):=⟨PE.imp (Fi ho ha.ok hb.ok hm) (pZ hd)⟩
def iG{Y N0 L:Addr->Prop}{b:Bool}(S1:Sat K mg Y N0 ns1 e1 σ H1)(r1:relE K mg Y N0 L σ ns1 e1 H1 d1 t1)(q:bOf (rs e1 t1)=some b):d1=.bl b:=by
 unfold bOf at q;split at q
 .rename_i b' q';cases q;exact (r1.sh S1 q').bl
 .cases q
def vL(σ:St)(H:Hp)(Q:Bool->Hp->Prop):rdT K mg ES (qOf F).G σ H Q->rdE K mg ES F.G σ H λx H'=>∃k,x=.bl k/\Q k H':=λzz=>zz.el λY N0 ns e S p=>
 ⟨Y,
  N0,λ_=>True,ns,e,S,λ_ _=>trivial,PG3.imp p S λt1 e1 ns1 H1 a1 S1 p1 x r1=>by
  try dsimp only at p1
  split at p1
  .rename_i b q;exact⟨b,iG S1 r1 q,p1.ret S1⟩
  .exact p1.elim⟩
def HH(ho:OpR X (compareOp op) r)(hd:OpD K mg r k.G)(ha:DE K mg X ES a p)(hb:DE K mg X ES b q)(hm:behindInMarks op b=false:=by first |exact zY _ |with_unfolding_all rfl):DT K mg X ES (.Compare a [op] [b] pos) (qOf (pOp k p q)):=
 ⟨PT.imp (EN ho ha.ok hb.ok hm) λσ H Q z=>pZ hd σ H _ (vL σ H Q z)⟩
def rQ(ha:DE K mg X ES a p)(he:∀g_,isTrue a X.env g_=(do let v <- g_;standAt a.pos;holding [v] (truthy v)):=by intro _;rfl):DT K mg X ES a (qOf p):=⟨PT.imp (Ih ha.ok he) λσ H Q z=>vL σ H Q z⟩
def rB(ha:DT K mg X ES a t):DT K mg X ES (.UnaryOp .Not a pos) (qNo t):=⟨PT.imp (G4 ha.ok) λσ H Q zz=>zz.el λY N0 ns e S p=>⟨Y,N0,ns,e,S,PG3.imp p S λb e1 ns1 H1 a1 S1 p1=>p1.ret S1⟩⟩
def Fc(ha:DT K mg X ES a t):DW K mg X ES (.BoolOp .And [a] pos) t:=⟨FI ha.ok⟩
def HP(ha:DT K mg X ES a t):DW K mg X ES (.BoolOp .Or [a] pos) t:=⟨GK ha.ok⟩
def Hg(ha:DT K mg X ES a t)(hb:DW K mg X ES (.BoolOp .And (b::es) pos) u):DW K mg X ES (.BoolOp .And (a::b::es) pos) (qAn t u):=⟨PW.imp (Ip ha.ok hb.ok) λσ H Q zz=>zz.el λY N0 ns e S p=>
 ⟨Y,N0,ns,e,S,PG3.imp p S λb e1 ns1 H1 a1 S1 p1=>by
  cases b with
  |true=>exact⟨Y,N0,ns1,e1,S1,p1⟩
  |false=>exact p1.ret S1⟩⟩
def Kk(ha:DT K mg X ES a t)(hb:DW K mg X ES (.BoolOp .Or (b::es) pos) u):DW K mg X ES (.BoolOp .Or (a::b::es) pos) (qO t u):=⟨PW.imp (LN ha.ok hb.ok) λσ H Q zz=>zz.el λY N0 ns e S p=>
 ⟨Y,N0,ns,e,S,PG3.imp p S λb e1 ns1 H1 a1 S1 p1=>by
  cases b with
  |true=>exact p1.ret S1
  |false=>exact⟨Y,N0,ns1,e1,S1,p1⟩⟩⟩
def ZW.dt(h:DW K mg X ES a t):DT K mg X ES a t:=⟨h.ok.pt⟩
def zt_w{op}(h:DW K mg X ES (.BoolOp op es pos) t):DT K mg X ES (.BoolOp op es pos) t:=ZW.dt h
def JD{op}(h:DE K mg X ES a p):DE K mg X ES (.BoolOp op [a] pos) p:=⟨HM h.ok⟩
def JE(ha:DE K mg X ES a p)(hb:DE K mg X ES (.BoolOp .And (b::es) pos) q):DE K mg X ES (.BoolOp .And (a::b::es) pos) (i7 p q):=⟨PE.imp (GL ha.ok hb.ok) λσ H Q zz=>zz.el λY N0 L ns e S hl p=>
 ⟨Y,N0,L,ns,e,S,hl,PG3.imp p S λt e1 ns1 H1 a1 S1 p1 x r1=>by
  try dsimp only at p1
  split at p1
  .rename_i z;exact⟨true,iG S1 r1 z,Y,N0,L,ns1,e1,S1,λa z=>hl a (a1.dom a z),p1⟩
  .rename_i z;exact⟨false,iG S1 r1 z,p1.ret S1 _ (.bl false)⟩
  .exact p1.elim⟩⟩
def Lk(ha:DE K mg X ES a p)(hb:DE K mg X ES (.BoolOp .Or (b::es) pos) q):DE K mg X ES (.BoolOp .Or (a::b::es) pos) (pOr p q):=⟨PE.imp (Kd ha.ok hb.ok) λσ H Q zz=>zz.el λY N0 L ns e S hl p=>
 ⟨Y,N0,L,ns,e,S,hl,PG3.imp p S λt e1 ns1 H1 a1 S1 p1 x r1=>by
  try dsimp only at p1
  split at p1
  .rename_i z;exact⟨true,iG S1 r1 z,p1.ret S1 _ (.bl true)⟩
  .rename_i z;exact⟨false,iG S1 r1 z,Y,N0,L,ns1,e1,S1,λa z=>hl a (a1.dom a z),p1⟩
  .exact p1.elim⟩⟩
def II(ha:DE K mg X ES a p):DE K mg X ES (.UnaryOp .Not a pos) (BV p):=⟨PE.imp (HI ha.ok) λσ H Q zz=>zz.el λY N0 L ns e S hl p=>
 ⟨Y,N0,L,ns,e,S,hl,PG3.imp p S λt e1 ns1 H1 a1 S1 p1 x r1=>by
  try dsimp only at p1
  split at p1
  .rename_i z;exact⟨_,iG S1 r1 z,p1.ret S1 _ (.bl _)⟩
  .exact p1.elim⟩⟩
def Lq{k:PU1}(ho:UnR X (unaryOp op) r)(hd:UnD K mg r k.G)(ha:DE K mg X ES a p):DE K mg X ES (.UnaryOp op a pos) (pUn k p):=⟨PE.imp (Ma ho ha.ok) λσ H Q zz=>zz.el λY N0 L ns e S hl p=>
 ⟨Y,N0,L,ns,e,S,hl,PG3.imp p S λt e1 ns1 H1 a1 S1 p1 x r1=>by
  try dsimp only at p1
  split at p1
  .rename_i v z;exact hd _ _ _ _ _ (r1.sh S1 z) (p1.bv S1 λa z=>hl a (a1.dom a z))
  .exact p1.elim⟩⟩
def yQ:DA K mg X ES [] ag:=⟨PA.imp su λσ H Q zz=>zz.el λY N0 ns e S p=>PG3.ret p S _ .nil⟩
def a9(ha:DE K mg X ES e p)(hr:DA K mg X ES es A)(hs:starEach (e::es) X.env=(false,eval e X.env)::starEach es X.env:=by rfl):DA K mg X ES (e::es) (aa p A):=⟨PA.imp (n8 ha.ok hr.ok hs) λσ H Q zz=>zz.el λY N0 ns e S p=>
 ⟨Y,N0,λ_=>True,ns,e,S,λ_ _=>trivial,PG3.imp p S λt e1 ns1 H1 a1 S1 p1 x r1=>⟨Y,N0,ns1,e1,S1,PG3.imp p1 S1 λts e2 h_ H2 a2 S2 p2 xs r2=>p2.ret S2 _ (by
  have r3:=r1.drop a2;generalize hg:t.drop=t' at *;cases t' with
  |val v=>exact .val r3 r2
  |new v=>cases t <;> cases hg
  |bor i=>exact .bor r3 r2)⟩⟩⟩
def yG{x1}(h:DA K mg X ES es A):DE K mg X ES (.Tuple es x1 pos) (bg A):=⟨PE.imp (Gh h.ok) λσ H Q zz=>zz.el λY N0 L ns e S hl p=>
 ⟨Y,
  N0,ns,e,S,PG3.imp p S λts e1 ns1 H1 a1 S1 p1 xs r1=>by
  try dsimp only at p1
  split at p1
  .rename_i e2 vs q;split at p1
   .rename_i hv;obtain⟨h_,S2,a2,r2⟩:=iI S1 r1 q;exact⟨by rw[r2.len];exact hv,λp hp=>p1 _ h_ (a2.trans S1 (.gr (Gr.upd hp))) (S2.gr (Gr.upd hp)) _ (.tup (SqT.of aG) (r2.mono (Gr.upd hp).mov))⟩
   .exact p1.elim
  .exact p1.elim⟩⟩
def GZ(h:DA K mg X ES es A):DE K mg X ES (.List es pos) (cX A):=⟨PE.imp (zy h.ok) λσ H Q zz=>zz.el λY N0 L ns e S hl p=>
 ⟨Y,
  N0,ns,e,S,PG3.imp p S λts e1 ns1 H1 a1 S1 p1 xs r1=>by
  try dsimp only at p1
  split at p1
  .rename_i e2 vs q;split at p1
   .rename_i hv;obtain⟨h_,S2,a2,r2⟩:=iI S1 r1 q;refine⟨by rw[r2.len];exact hv,λp hp=>PG3.bv (b:=.new (.lst vs)) (e:=e2) (X:=Y) (N0:=N0) (L:=L) (E:=ES σ) (λH' ns' a' S'=>p1 H' ns' (a2.trans S1 a') S') S2 (λa z=>hl a (a1.dom a z)) H1 p _ .refl hp trivial (.lst r2)⟩
   .exact p1.elim
  .exact p1.elim⟩⟩
def qu{g:PBf}(hd:cI K mg r g.G)(σ:St)(H:Hp)(Q:VK):rdE K mg ES (pFn g A).G σ H Q->tCB r (rdA K mg ES A.G) σ H Q:=λzz=>zz.el λY N0 L ns e S hl p=>
 ⟨Y,
  N0,ns,e,S,PG3.imp p S λts e1 ns1 H1 a1 S1 p1 xs r1=>by
  try dsimp only at p1
  split at p1
  .rename_i vs q;exact hd _ _ _ _ _ (r1.sh S1 q) (p1.bv S1 λa z=>hl a (a1.dom a z))
  .exact p1.elim⟩
def i6{id:String}{r:List V->Hp->VK->Prop}{k:PBf}{x:Str}{p0:Pos}(hc:CallR X (.builtin id) r)(hd:cI K mg r k.G)(hg:Gl X x)(hm:mg x=none)(hv:bootBuiltins x=some (.builtin id))(ha:DA K mg X ES (e::es) A)(hk:X.mg=mg:=by rfl)(hn:x ≠ "__name__":=by decide)(hdb:(x==("__debug__" : Str))=false:=by decide)
 (he:starEach (e::es) X.env=(false,eval e X.env)::starEach es X.env:=by rfl) (hpl:(backTo pos (starEach es X.env)).any (·.1)=false:=by rfl):DE K mg X ES (.Call (.Name x p0) (e::es) [] pos) (pFn k A):=by
 subst hk;exact⟨PE.imp (BM hc hg hm hv ha.ok hn hdb he hpl) (qu hd)⟩
def oQ{id:String}{r:List V->Hp->VK->Prop}{k:PBf}{x:Str}{p0:Pos}(hc:CallR X (.type id) r)(hd:cI K mg r k.G)(hg:Gl X x)(hm:mg x=none)(hv:bootBuiltins x=some (.type id))(ha:DA K mg X ES (e::es) A)(hk:X.mg=mg:=by rfl)(hn:x ≠ "__name__":=by decide)(hdb:(x==("__debug__" : Str))=false:=by decide)
 (he:starEach (e::es) X.env=(false,eval e X.env)::starEach es X.env:=by rfl) (hpl:(backTo pos (starEach es X.env)).any (·.1)=false:=by rfl):DE K mg X ES (.Call (.Name x p0) (e::es) [] pos) (pFn k A):=by
 subst hk;exact⟨PE.imp (zr hc hg hm hv ha.ok hn hdb he hpl) (qu hd)⟩
end
inductive Rt where
 |val (v:Val) |new (v:Val) |par (i:Nat) |pr (v u:Val)
inductive SR3 where
 |nx (e:E3) |rt (r:Rt) (e:E3) |bk (e:E3) |ct (e:E3) |exc (c:Str) (e:E3) |stuck
abbrev MS3:=E3->SR3
section
variable(K:W.Frag)(mg:Pp)
def RtR(X N0:Addr->Prop)(ns:Ns)(e:E3)(σ:St)(H:Hp)(d:V):Rt->Prop
 |.val v=>Sat K mg X N0 ns e σ H/\Rd K mg (Oc X ns) H d v
 |.new v=>∃n o,d=.ref n/\N0 n/\¬ X n/\H n=some o/\NotFz o/\Sat K mg (Xn X n) N0 ns e σ H/\Rc K mg (Oc (Xn X n) ns) H o v
 |.par i=>Sat K mg X N0 ns e σ H/\σ[i]?=some (some d)/\∃v,e[i]?=some (.mu v)
 |.pr v u=>∃p d1 n o,d=.ref p/\SqT K H p [d1,.ref n]/\N0 n/\¬ X n/\H n=some o/\NotFz o/\Sat K mg (Xn X n) N0 ns e σ H/\Rd K mg (Oc (Xn X n) ns) H d1 v/\Rc K mg (Oc (Xn X n) ns) H o u
def PS3(X N0:Addr->Prop)(ns:Ns)(e:E3)(H:Hp)(D:Ends)(ES:St->XK):SR3->Prop
 |.nx e'=>∀H' σ' ns',Stp ns e H ns' e' H'->Sat K mg X N0 ns' e' σ' H'->D.nx σ' H'
 |.bk e'=>∀H' σ' ns',Stp ns e H ns' e' H'->Sat K mg X N0 ns' e' σ' H'->D.bk σ' H'
 |.ct e'=>∀H' σ' ns',Stp ns e H ns' e' H'->Sat K mg X N0 ns' e' σ' H'->D.ct σ' H'
 |.rt r e'=>∀H' σ' ns' x,Stp ns e H ns' e' H'->RtR K mg X N0 ns' e' σ' H' x r->D.rt x H'
 |.exc c e'=>∀H' σ' ns' C,Stp ns e H ns' e' H'->Sat K mg X N0 ns' e' σ' H'->mg c=some (.ref C)->ES σ' (.ref C) none H'
 |.stuck=>False
def rdS(ES:St->XK)(G:MS3):TS:=λD σ H=>∃X N0 ns e,Sat K mg X N0 ns e σ H/\PS3 K mg X N0 ns e H D ES (G e)
end
def rdS.el{K:W.Frag}{mg:Pp}{ES:St->XK}{σ:St}{H:Hp}{Z:Prop}{G:MS3}{D:Ends}(h:rdS K mg ES G D σ H)(k:∀X N0 ns e,Sat K mg X N0 ns e σ H->PS3 K mg X N0 ns e H D ES (G e)->Z):Z:=by obtain⟨X,N0,ns,e,S,p⟩:=h;exact k X N0 ns e S p
noncomputable def R3.toS {α:Type} (r:R3 α) (f:α->E3->SR3):SR3:=match r with
 |.ok a e=>f a e
 |.exc c e=>.exc c e
 |.stuck=>.stuck
noncomputable def SR3.then (r:SR3) (f:E3->SR3):SR3:=match r with
 |.nx e=>f e
 |r=>r
noncomputable def wSeq (F G:MS3) (e:E3):SR3:=(F e).then G
noncomputable def wIf (c:MT3) (F G:MS3) (e:E3):SR3:=(c e).toS λb e1=>if b=true then F e1 else G e1
noncomputable def nD (t:Tm) (e:E3):SR3:=match t with
 |.val v=>.rt (.val v) e
 |.new v=>.rt (.new v) e
 |.bor i=>match e[i]? with
  |some (.sh v)=>.rt (.val v) e
  |some (.ow v)=>.rt (.new v) (e.set i .no)
  |some (.mu _)=>.rt (.par i) e
  |_=>.stuck
noncomputable def je (o:Bool) (i:Nat) (t:Tm) (e:E3):SR3:=match e[i]? with
 |some s0=>if s0.pl=true then (match t with
  |.val v=>.nx (e.set i (.sh v))
  |.new v=>.nx (e.set i (if o=true then .ow v else .sh v))
  |.bor j=>match cT e (.bor j) with
   |some (e2,v)=>.nx (e2.set i (.sh v))
   |none=>.stuck) else .stuck
 |none=>.stuck
abbrev MG3:=Val->E3->Option E3
abbrev jI:=List Val->E3->Option E3
noncomputable def pN (i:Nat):MG3:=λv e=>match e[i]? with
 |some s=>if s.pl=true then some (e.set i (.sh v)) else none
 |none=>none
noncomputable def psN:jI:=λvs e=>match vs with
 | []=>some e
 |_=>none
noncomputable def psC (g:MG3) (u:jI):jI:=λvs e=>match vs with
 |v::r=>(g v e).bind λe1=>u r e1
 | []=>none
noncomputable def pT (n:Nat) (u:jI):MG3:=λv e=>match v with
 |.tup vs=>if vs.length=n then u vs e else none
 |_=>none
noncomputable def LA (F:ME3) (g:MG3) (e:E3):SR3:=(F e).toS λt e1=>match cT e1 t with
 |some (e2,v)=>match g v e2 with
  |some e3=>.nx e3
  |none=>.stuck
 |none=>.stuck
noncomputable def wPar (i j:Nat) (A:MA3) (e:E3):SR3:=(A e).toS λts e1=>match dem e1 ts with
 |some (e2,[v,u])=>match (pN i v e2).bind (pN j u) with
  |some e3=>.nx e3
  |none=>.stuck
 |_=>.stuck
noncomputable def B3 (i:Nat) (g:Val->Val->Bv) (F:ME3) (e:E3):SR3:=match e[i]? with
 |some (.sh x)=>(F e).toS λt e1=>match rs e1 t with
  |some y=>match g x y with
   |.val z=>match pN i z e1 with
    |some e2=>.nx e2
    |none=>.stuck
   |_=>.stuck
  |none=>.stuck
 |_=>.stuck
noncomputable def HQ (c:Str) (A:MA3) (e:E3):SR3:=(A e).toS λts e1=>if ts.length<=16777216 then .exc c e1 else .stuck
structure PSt where
 t:Nat
 G:MS3
structure PGt where
 t:Nat
 G:MG3
structure PGs where
 t:Nat
 G:jI
noncomputable def xNx:PSt:=⟨1,.nx⟩
noncomputable def xBk:PSt:=⟨2,.bk⟩
noncomputable def xB:PSt:=⟨4,.rt (.val .non)⟩
noncomputable def ay (a:PEx):PSt:=⟨5,λe=>(a.G e).toS nD⟩
noncomputable def aM (a:PEx):PSt:=⟨6,λe=>(a.G e).toS λ_ e1=>.nx e1⟩
noncomputable def ak (a b:PSt):PSt:=⟨7,wSeq a.G b.G⟩
noncomputable def xIf (c:PTs) (a b:PSt):PSt:=⟨8,wIf c.G a.G b.G⟩
noncomputable def ax (o:Bool) (i:Nat) (a:PEx):PSt:=⟨9,λe=>(a.G e).toS (je o i)⟩
noncomputable def gtN (i:Nat):PGt:=⟨1,pN i⟩
noncomputable def fH:PGs:=⟨1,psN⟩
noncomputable def bQ (a:PGt) (b:PGs):PGs:=⟨2,psC a.G b.G⟩
noncomputable def gtT (n:Nat) (a:PGs):PGt:=⟨2,pT n a.G⟩
noncomputable def j3 (a:PEx) (g:PGt):PSt:=⟨10,LA a.G g.G⟩
noncomputable def gk (i j:Nat) (a:PAs):PSt:=⟨11,wPar i j a.G⟩
noncomputable def ub (i:Nat) (o:PO2) (a:PEx):PSt:=⟨12,B3 i o.G a.G⟩
noncomputable def eT (c:Str) (a:PAs):PSt:=⟨13,HQ c a.G⟩
noncomputable def xNo:PSt:=⟨14,λ_=>.stuck⟩
section
variable{K:W.Frag}{mg:Pp}{X N0:Addr->Prop}{ns ns1:Ns}{e e1:E3}{σ:St}{H H1:Hp}{De:Ends}{ES:St->XK}
def PS3.after(p:PS3 K mg X N0 ns e H De ES r)(S:Sat K mg X N0 ns e σ H)(a:Stp ns e H ns1 e1 H1):PS3 K mg X N0 ns1 e1 H1 De ES r:=by
 cases r with
 |stuck=>exact p
 |nx e'=>exact λH' σ' ns' b S'=>p H' σ' ns' (a.trans S b) S'
 |bk e'=>exact λH' σ' ns' b S'=>p H' σ' ns' (a.trans S b) S'
 |ct e'=>exact λH' σ' ns' b S'=>p H' σ' ns' (a.trans S b) S'
 |exc c e'=>exact λH' σ' ns' C b S'=>p H' σ' ns' C (a.trans S b) S'
 |rt r e'=>exact λH' σ' ns' x b S'=>p H' σ' ns' x (a.trans S b) S'
def PS3.toS{α:Type}{r:R3 α}{f:α->E3->SR3}{k:α->E3->Ns->Hp->Prop}(p:PS3 K mg X N0 ns e H De ES (r.toS f))(S:Sat K mg X N0 ns e σ H)
 (i:∀t e1 ns1 H1,Stp ns e H ns1 e1 H1->Sat K mg X N0 ns1 e1 σ H1->PS3 K mg X N0 ns e H De ES (f t e1)->k t e1 ns1 H1):PG3 K mg X N0 ns e σ H (ES σ) k r:=by
 cases r with
 |stuck=>exact p
 |exc c e'=>exact λH' ns' C a S' m=>p H' σ ns' C a S' m
 |ok t e'=>exact λH' ns' a S'=>i t e' ns' H' a S' p
def PS3.then{r:SR3}{f:E3->SR3}{N:St->Hp->Prop}(p:PS3 K mg X N0 ns e H De ES (r.then f))(S:Sat K mg X N0 ns e σ H)
 (i:∀e1 ns1 σ1 H1,Stp ns e H ns1 e1 H1->Sat K mg X N0 ns1 e1 σ1 H1->PS3 K mg X N0 ns1 e1 H1 De ES (f e1)->N σ1 H1):PS3 K mg X N0 ns e H { De with nx:=N } ES r:=by
 cases r with
 |nx e'=>exact λH' σ' ns' a S'=>i e' ns' σ' H' a S' (PS3.after p S a)
 |stuck=>exact p
 |bk e'=>exact p
 |ct e'=>exact p
 |exc c e'=>exact p
 |rt r e'=>exact p
def PS3.nx(p:PS3 K mg X N0 ns e H De ES (.nx e))(S:Sat K mg X N0 ns e σ H):De.nx σ H:=p H σ ns .refl S
def jE{d:V}{v:Val}{e':E3}(S:Sat K mg X N0 ns e σ H)(r:Rd K mg (Oc X ns) H d v)(q:pN i v e=some e'):Sat K mg X N0 (ns.set i none) e' (σ.set i (some d)) H/\Stp ns e H (ns.set i none) e' H:=by
 unfold pN at q;split at q
 .rename_i s q0;split at q
  .rename_i p0;cases q;have hi:=(u_.mp q0).1;exact⟨S.putN hi ⟨rfl,d,rfl,Rd.mono (.of λm p=>eF p) r⟩,Stp.refl.put (x:=none) (s:=.sh v) hi (λ_ z=>by cases z) q0 p0 rfl S.l2⟩
  .cases q
 .cases q
end
section
variable(K:W.Frag)(mg:Pp)(X:Cx)(ES:St->XK)
structure DS(st:Stmt)(F:PSt):Prop where
 ok:PS X st (rdS K mg ES F.G)
structure DSs(st:List Stmt)(F:PSt):Prop where
 ok:PSs X st (rdS K mg ES F.G)
def rdG(g:MG3):TG:=λv σ H Q=>∃Y N0 ns e u e',Sat K mg Y N0 ns e σ H/\Rd K mg (Oc Y ns) H v u/\g u e=some e'/\∀σ' ns',Stp ns e H ns' e' H->Sat K mg Y N0 ns' e' σ' H->Q σ' H
def rdGs(g:jI):TGs:=λvs σ H Q=>∃Y N0 ns e us e',Sat K mg Y N0 ns e σ H/\Rds K mg (Oc Y ns) H vs us/\g us e=some e'/\∀σ' ns',Stp ns e H ns' e' H->Sat K mg Y N0 ns' e' σ' H->Q σ' H
def rdG.el{K:W.Frag}{mg:Pp}{g:MG3}(h:rdG K mg g v σ H Q){Z:Prop}(k:∀Y N0 ns e u e',Sat K mg Y N0 ns e σ H->Rd K mg (Oc Y ns) H v u->g u e=some e'->(∀σ' ns',Stp ns e H ns' e' H->Sat K mg Y N0 ns' e' σ' H->Q σ' H)->Z):Z:=by obtain⟨Y,N0,ns,e,u,e',S,r,q,p⟩:=h;exact k Y N0 ns e u e' S r q p
def rdGs.el{K:W.Frag}{mg:Pp}{g:jI}(h:rdGs K mg g v σ H Q){Z:Prop}(k:∀Y N0 ns e us e',Sat K mg Y N0 ns e σ H->Rds K mg (Oc Y ns) H v us->g us e=some e'->(∀σ' ns',Stp ns e H ns' e' H->Sat K mg Y N0 ns' e' σ' H->Q σ' H)->Z):Z:=by obtain⟨Y,N0,ns,e,u,e',S,r,q,p⟩:=h;exact k Y N0 ns e u e' S r q p
structure DG(e:Expr)(g:PGt):Prop where
 ok:PG X e (rdG K mg g.G)
structure DGs(es:List Expr)(g:PGs):Prop where
 ok:L2.PGs X es (rdGs K mg g.G)
def mE:Prop:=∀(pins:Pq) (σ:St) (H:Hp) (s:Shared) (e:Value) (s':Shared),Inv X pins σ H s->CX1 X.prog X.w X.stack H s (ES σ) e s'->X.xe e s'
end
section
variable{K:W.Frag}{mg:Pp}{X:Cx}{ES:St->XK}{e a b c o i:Expr}{es:List Expr}{st:Stmt}{sts sts':List Stmt}{p q:PEx}{A:PAs}{t:PTs}{x y:PSt}{g:PGt}{gs:PGs}{pos:Pos}
def Fe:DSs K mg X ES [] xNx:=⟨PSs.imp uV λD σ H zz=>zz.el λY N0 ns e S p=>PS3.nx p S⟩
def c9(h1:DS K mg X ES st x):DSs K mg X ES [st] x:=⟨Ew h1.ok⟩
def au(h1:DS K mg X ES st x)(h2:DSs K mg X ES sts y):DSs K mg X ES (st::sts) (ak x y):=⟨PSs.imp (iX h1.ok h2.ok) λD σ H zz=>zz.el λY N0 ns e S p=>
 ⟨Y,N0,ns,e,S,PS3.then p S λe1 ns1 σ1 H1 a1 S1 p1=>⟨Y,N0,ns1,e1,S1,p1⟩⟩⟩
def By:DS K mg X ES (.Break pos) xBk:=⟨PS.imp Bg λD σ H zz=>zz.el λY N0 ns e S p=>p H σ ns .refl S⟩
def Ek:DS K mg X ES (.Return none pos) xB:=⟨PS.imp Fs λD σ H zz=>zz.el λY N0 ns e S p=>p H σ ns _ .refl ⟨S,.non⟩⟩
def Fq(he:DE K mg X ES e p)(hs:swapsWith e none pos.line X.env=pure false:=by rfl):DS K mg X ES (.Expr e pos) (aM p):=⟨PS.imp (wc he.ok hs) λD σ H zz=>zz.el λY N0 ns e S p=>
 ⟨Y,N0,λ_=>True,ns,e,S,λ_ _=>trivial,PS3.toS p S λt e1 ns1 H1 a1 S1 p1 x r1=>p1 H1 σ ns1 a1 S1⟩⟩
def qG(hc:DT K mg X ES c t)(ha:DSs K mg X ES sts x)(hb:DSs K mg X ES sts' y):DS K mg X ES (.If c sts sts' pos) (xIf t x y):=⟨PS.imp (K6 hc.ok ha.ok hb.ok) λD σ H zz=>zz.el λY N0 ns e S p=>
 ⟨Y,N0,ns,e,S,PS3.toS p S λb e1 ns1 H1 a1 S1 p1=>by
  cases b with
  |true=>exact⟨Y,N0,ns1,e1,S1,PS3.after p1 S a1⟩
  |false=>exact⟨Y,N0,ns1,e1,S1,PS3.after p1 S a1⟩⟩⟩
def dW(he:DE K mg X ES e p):DS K mg X ES (.Return (some e) pos) (ay p):=⟨PS.imp (Jb he.ok) λD σ H zz=>zz.el λY N0 ns e S p=>
 ⟨Y,
  N0,N0,ns,e,S,S.lh,PS3.toS p S λt e1 ns1 H1 a1 S1 p1 x r1=>by
  cases t with
  |val v=>exact p1 H1 σ ns1 x a1 ⟨S1,r1⟩
  |new v=>exact p1 H1 σ ns1 x a1 r1
  |
   bor i=>
   have r':σ[i]?=some (some x):=r1;unfold nD at p1;try dsimp only at p1
   split at p1
   .rename_i v q;obtain⟨_,x',e1',e2⟩:=S1.sl i _ q;rw[r'] at e1';cases e1';exact p1 H1 σ ns1 x a1 ⟨S1,e2⟩
   .rename_i v q;obtain⟨n,o,q1,q2,q3,q4,q5,q6⟩:=S1.sl i _ q;rw[r'] at q2;cases q2;have hi:=(u_.mp q).1;have hn:i<ns1.length:=by rw[S1.l2];exact hi
    have mv:Mov (Oc Y ns1) (Oc (Xn Y n) (ns1.set i none)) H1 H1:=.of λm p=>⟨λz=>by
     rcases z with z |rfl
     .exact p.1 z
     .exact p.2 (aQ.mpr ⟨i,q1⟩),(eF p).2⟩
    have S2:=S1.putN' hi (s:=.no) rfl;refine p1 H1 σ (ns1.set i none) _ (a1.put (x:=none) hi (λ_ z=>by cases z) q rfl rfl S1.l2) ⟨n,o,rfl,q3,S1.nx i n q1,q4,q5,⟨S2.l1,S2.l2,S2.lh,λm z=>?_,S2.inj,λj m qj z=>?_,λj s qj=>?_,S2.bs⟩,q6.mono mv⟩
    .rcases z with z |rfl
     .exact S2.xl m z
     .exact⟨_,q4⟩
    .rcases z with z |rfl
     .exact S2.nx j m qj z
     .rcases bu hn qj with ⟨_,y⟩ |⟨y,z⟩
      .cases y
      .exact y (S1.inj j i _ z q1)
    .rcases bu hi qj with ⟨rfl,rfl⟩ |⟨z,qj'⟩
     .rw[b9 hn];rfl
     .rw[b8 z];exact (S1.sl j s qj').mono mv λ_ _ _ q _=>q
   .rename_i v q;exact p1 H1 σ ns1 x a1 ⟨S1,r',v,q⟩
   .exact p1.elim⟩⟩
def yA{ow:Bool}{i:Nat}(D:Ends)(σ:St)(H:Hp):rdS K mg ES (ax ow i p).G D σ H->r9 (rdE K mg ES p.G) (fo i) D σ H:=λzz=>zz.el λY N0 ns e S p=>
 ⟨Y,
  N0,λa=>H a=none,ns,e,S,λ_ z=>z,PS3.toS p S λt e1 ns1 H1 a1 S1 p1 d r1=>by
  unfold je at p1;split at p1
  .rename_i s0 q0;split at p1
   .rename_i p0;have hi:=(u_.mp q0).1;cases t with
    |val v=>exact p1 H1 _ _ (a1.put (x:=none) (s:=.sh v) hi (λ_ z=>by cases z) q0 p0 rfl S1.l2) (S1.putN hi ⟨rfl,d,rfl,Rd.mono (.of λm p=>eF p) r1⟩)
    |
     new v=>
     cases ow with
     |true=>obtain⟨n,ob,rfl,q1,q2,q3,q4,q5,q6⟩:=r1;exact p1 H1 _ _ (a1.put (x:=some n) (s:=.ow v) hi (λm z=>by cases z;exact q1) q0 p0 rfl S1.l2) (Sat.putO q5 q2 hi (S.lh n q1) q3 q4 q6)
     |false=>exact p1 H1 _ _ (a1.put (x:=none) (s:=.sh v) hi (λ_ z=>by cases z) q0 p0 rfl S1.l2) (S1.putN hi ⟨rfl,d,rfl,Rd.mono (.of λm p=>eF p) r1.new⟩)
    |
     bor j=>
     try dsimp only at p1
     split at p1
     .rename_i e2 v q2;obtain⟨h_,S2,a2,r2⟩:=fW S1 r1 q2;have hq:∃s2,e2[i]?=some s2/\s2.pl=true:=by
       unfold cT at q2;dsimp only at q2;split at q2
       .cases q2;exact⟨s0,q0,p0⟩
       .rename_i u q3;cases q2;by_cases z:i=j
        .subst z;exact⟨_,b9 hi,rfl⟩
        .exact⟨s0,by rw[b8 z];exact q0,p0⟩
       .cases q2
      obtain⟨s2,hq1,hq2⟩:=hq;have hi2:=(u_.mp hq1).1;exact p1 H1 _ _ ((a1.trans S a2).put (x:=none) (s:=.sh v) hi2 (λ_ z=>by cases z) hq1 hq2 rfl S2.l2) (S2.putN hi2 ⟨rfl,d,rfl,Rd.mono (.of λm p=>eF p) r2⟩)
     .exact p1.elim
   .exact p1.elim
  .exact p1.elim⟩
def Js{ow:Bool}{i:Nat}{x:Str}{k_:Pos}(hN:X.N.Nodup)(hi:X.N[i]?=some x)(hx:Loc X.env.scope x)(he:DE K mg X ES e p)(hs:swapsWith e (some (.Name x k_)) pos.line X.env=pure false)(hf:X.fn x=true\/X.env.scope.names.lookup x=some .local):
 DS K mg X ES (.Assign [.Name x k_] e pos) (ax ow i p):=⟨PS.imp (Ie hN hi hx he.ok hs hf) yA⟩
def FV{i:Nat}{x:Str}(hN:X.N.Nodup)(hi:X.N[i]?=some x)(hx:Loc X.env.scope x)(hf:X.fn x=true\/X.env.scope.names.lookup x=some .local):DG K mg X (.Name x pos) (gtN i):=
 ⟨PG.imp (nG hN hi hx hf) λv σ H Q zz=>zz.el λY N0 ns e u e' S r q k=>by obtain⟨S',a⟩:=jE S r q;exact k _ _ a S'⟩
def EF:DGs K mg X [] fH:=⟨PGs.imp EG λvs σ H Q zz=>zz.el λY N0 ns e us e' S r q k=>by
 cases r with
 |nil=>cases q;exact⟨rfl,k _ _ .refl S⟩
 |cons _ _=>cases q⟩
def CJ(h1:DG K mg X e g)(h2:DGs K mg X es gs)(hs:(assignEach (e::es) X.env).map (·.2)=assign e X.env::(assignEach es X.env).map (·.2):=by rfl):DGs K mg X (e::es) (bQ g gs):=
 ⟨PGs.imp (BI h1.ok h2.ok hs) λvs σ H Q zz=>zz.el λY N0 ns e us e' S r q k=>by
  cases r with
  |nil=>cases q
  |cons r rr=>obtain⟨e1,q1,q2⟩:=MK.mp q;exact⟨_,_,rfl,Y,N0,ns,e,_,e1,S,r,q1,λσ1 ns1 a1 S1=>⟨Y,N0,ns1,e1,_,e',S1,rr.mono a1.mov,q2,λσ2 h_ a2 S2=>k σ2 h_ (a1.trans S a2) S2⟩⟩⟩
def Jv(hK:X.K=K)(hc:X.calm=true)(h:DGs K mg X es gs)(hn:(assignEach es X.env).length=n:=by rfl)(hst:(assignEach es X.env).findIdx? (·.1)=none:=by rfl):DG K mg X (.Tuple es k pos) (gtT n gs):=by
 subst hK;exact
  ⟨PG.imp (Az hc h.ok hn hst) λv σ H Q zz=>zz.el λY N0 ns e u e' S r q k=>by
  have q:pT n gs.G u e=some e':=q;unfold pT at q;split at q
  .split at q
   .rename_i hl;obtain⟨a,vs,rfl,z,rr⟩:=ShR.tup (.inl r);exact⟨a,vs,rfl,z,by rw[rr.len];exact hl,Y,N0,ns,e,_,e',S,rr,q,k⟩
   .cases q
  .cases q⟩
def FO(he:DE K mg X ES e p)(hg:DG K mg X a g)(hs:swapsWithSole [a] e pos.line X.env=pure false:=by rfl)(hw:swappedStores [a] e X.env=pure none:=by rfl)(h1:(assignEach [a] X.env).map (·.2)=[assign a X.env]:=by rfl):DS K mg X ES (.Assign [a] e pos) (j3 p g):=
 ⟨PS.imp (Af he.ok hg.ok hs hw h1) λD σ H zz=>zz.el λY N0 ns e S p=>⟨Y,N0,λ_=>True,ns,e,S,λ_ _=>trivial,PS3.toS p S λt e1 ns1 H1 a1 S1 p1 x r1=>by
  try dsimp only at p1
  split at p1
  .rename_i e2 v q;obtain⟨h_,S2,a2,r2⟩:=fW S1 r1 q;split at p1
   .rename_i e3 q3;exact⟨Y,N0,h_,e2,v,e3,S2,r2,q3,λσ' ns' a3 S3=>p1 H1 σ' ns' ((a1.trans S a2).trans S a3) S3⟩
   .exact p1.elim
  .exact p1.elim⟩⟩
def IC{i j:Nat}{x y:Str}{px py pt:Pos}{kt k2 pt2}(hN:X.N.Nodup)(ha:DA K mg X ES [a,b] A)(hc:X.calm=true:=by rfl)(hi:X.N[i]?=some x:=by rfl)(hj:X.N[j]?=some y:=by rfl)(hij:i≠j:=by decide)(hx:X.env.scope.names.lookup x=some .local:=by rfl)(hy:X.env.scope.names.lookup y=some .local:=by rfl)(hw:swappedStores [.Tuple [.Name x px,.Name y py] kt pt] (.Tuple [a,b] k2 pt2) X.env=pure (some [x,y]):=by rfl)(hs:swapsWithSole [.Tuple [.Name x px,.Name y py] kt pt] (.Tuple [a,b] k2 pt2) pos.line X.env=pure false:=by rfl):DS K mg X ES (.Assign [.Tuple [.Name x px,.Name y py] kt pt] (.Tuple [a,b] k2 pt2) pos) (gk i j A):=
 ⟨PS.imp
  (Gw hc hN hi hj hij hx hy ha.ok hw hs) λD σ H zz=>zz.el λY N0 ns e S p=>⟨Y,N0,ns,e,S,PS3.toS p S λts e1 ns1 H1 a1 S1 p1 xs r1=>by
  try dsimp only at p1
  split at p1
  .rename_i e2 v u q;obtain⟨h_,S2,a2,r2⟩:=iI S1 r1 q;split at p1
   .rename_i e3 q3;obtain⟨e4,q4,q5⟩:=MK.mp q3;cases r2 with
    |
     cons r rr=>
     cases rr with
     |cons r' rr=>cases rr;obtain⟨S3,a3⟩:=jE S2 r q4;obtain⟨S4,a4⟩:=jE S3 (r'.mono a3.mov) q5;exact⟨_,_,rfl,p1 H1 _ _ (((a1.trans S a2).trans S a3).trans S a4) S4⟩
   .exact p1.elim
  .exact p1.elim⟩⟩
def IpD(K:W.Frag)(mg:Pp)(r:TIp)(g:Val->Val->Bv):Prop:=∀P H x y v u Q,ShR K mg P H x v->ShR K mg P H y u->BvP K mg P H Q (g v u)->r x y H Q
def HA{i:Nat}{x:Str}{op:Operator}{ti:TIp}{k_:Pos}{k:PO2}(hN:X.N.Nodup)(he:DE K mg X ES e p)(ho:PIp X op ti)(hd:IpD K mg ti k.G)(hi:X.N[i]?=some x:=by rfl)(hx:Loc X.env.scope x:=by first |exact Or.inl rfl |exact Or.inr rfl)(hf:X.fn x=true\/X.env.scope.names.lookup x=some .local:=by first |exact .inl rfl |exact .inr rfl |assumption):DS K mg X ES (.AugAssign (.Name x k_) op e pos) (ub i k p):=
 ⟨PS.imp
  (Jc hN hi hx he.ok ho hf) λD σ H zz=>zz.el λY N0 ns e S p=>by
  have p:PS3 K mg Y N0 ns e H D ES (B3 i k.G _ e):=p;unfold B3 at p;split at p
  .rename_i v q0;obtain⟨_,dx,e1,r0⟩:=S.sl i _ q0;refine⟨dx,e1,Y,N0,λ_=>True,ns,e,S,λ_ _=>trivial,PS3.toS p S λt e1 ns1 H1 a1 S1 p1 y r1=>?_⟩;try dsimp only at p1
   split at p1
   .rename_i u q1;refine hd _ _ _ _ _ _ _ (.inl (r0.mono a1.mov)) (r1.sh S1 q1) ?_;split at p1
    .rename_i z q2;rw[q2];split at p1
     .rename_i e2 q3;intro H2 dz g2 r2;obtain⟨S3,a3⟩:=jE (S1.gr g2) r2 q3;exact p1 H2 _ _ ((a1.trans S (.gr g2)).trans S a3) S3
     .exact p1.elim
    .exact p1.elim
   .exact p1.elim
  .exact p.elim⟩
def TsR.len{Y:Addr->Prop}(r:TsR K mg Y ns σ H ds ts):ds.length=ts.length:=by
 induction r with
 |nil=>rfl
 |val _ _ ih=>rw[D_,D_,ih]
 |bor _ _ ih=>rw[D_,D_,ih]
def CP{x:Str}{C:Addr}{E:XK}{np cpos:Pos}(hc:X.calm=true)(hR:Rz X E)(hg:Gl X x)(hm:mg x=some (.ref C))(hq:W.excIn X.K C nY "ValueError.__new__"=true)(ha:DA K mg X (λ_=>E) (e::es) A)(hk:X.mg=mg:=by rfl)(he:starEach (e::es) X.env=(false,eval e X.env)::starEach es X.env:=by rfl)(c_:(backTo cpos (starEach es X.env)).any (·.1)=false:=by rfl)(hd:(x==("__debug__" : Str))=false:=by decide):DS K mg X (λ_=>E) (.Raise (some (.Call (.Name x np) (e::es) [] cpos)) none pos) (eT x A):=by
 subst hk;exact⟨PS.imp (A8 hc hR hg hm hq ha.ok he c_ hd) λD σ H zz=>zz.el λY N0 ns e S p=>⟨Y,N0,ns,e,S,PS3.toS p S λts e1 ns1 H1 a1 S1 p1 xs r1=>by
  try dsimp only at p1
  split at p1
  .rename_i hl;exact⟨by rw[r1.len];exact hl,p1 H1 σ ns1 C a1 S1 hm⟩
  .exact p1.elim⟩⟩
end
noncomputable def Sl.re (s:Sl) (u:Val):Sl:=match s with
 |.ow _=>.ow u
 |.mu _=>.mu u
 |s=>s
noncomputable def Sl.mv:Sl->Option Val
 |.ow v=>some v
 |.mu v=>some v
 |_=>none
section
variable{K:W.Frag}{mg:Pp}{X N0:Addr->Prop}{ns:Ns}{e:E3}{σ:St}{H:Hp}
def Sat.write(S:Sat K mg X N0 ns e σ H)(q:e[i]?=some s)(hm:s.mv=some u):∃n o,σ[i]?=some (some (.ref n))/\ns[i]?=some (some n)/\H n=some o/\NotFz o/\Rc K mg (Oc X ns) H o u/\
 ∀o' u',NotFz o'->Rc K mg (Oc X ns) H o' u'->Mov (Oc X ns) (Oc X ns) H (upd H n o')/\Sat K mg X N0 ns (e.set i (s.re u')) σ (upd H n o')/\Stp ns e H ns (e.set i (s.re u')) (upd H n o'):=by
 have hi:=(u_.mp q).1;have key:∃n o,ns[i]?=some (some n)/\σ[i]?=some (some (.ref n))/\H n=some o/\NotFz o/\Rc K mg (Oc X ns) H o u/\s.mt=true/\(∀o' u',NotFz o'->Rc K mg (Oc X ns) (upd H n o') o' u'->SlR K mg (Oc X ns) N0 (some (some n)) (some (some (.ref n))) (upd H n o') (s.re u')):=by
  have y:=S.sl i s q;cases s with
  |ow v=>cases hm;obtain⟨n,o,q1,q2,q3,q4,q5,q6⟩:=y;exact⟨n,o,q1,q2,q4,q5,q6,rfl,λo' u' hf r=>⟨n,o',rfl,rfl,q3,aG,hf,r⟩⟩
  |mu v=>cases hm;obtain⟨n,o,q1,q2,q4,q5,q6⟩:=y;exact⟨n,o,q1,q2,q4,q5,q6,rfl,λo' u' hf r=>⟨n,o',rfl,rfl,aG,hf,r⟩⟩
  |_=>cases hm
 obtain⟨n,o,k1,k2,k3,k4,k5,k6,k7⟩:=key;refine⟨n,o,k2,k1,k3,k4,k5,λo' u' hf r=>?_⟩;have up:∀m,m≠n->upd H n o' m=H m:=λm z=>az z;have mv:Mov (Oc X ns) (Oc X ns) H (upd H n o'):=⟨LeH.wr k3 k4,λm ob p q' _=>⟨p,by rw[up m λz=>p.2 (aQ.mpr ⟨i,by rw[z];exact k1⟩)];exact q'⟩⟩;have dom:∀a,upd H n o' a=none->H a=none:=λa z=>by rw[up a λy=>by subst y;rw[aG] at z;cases z] at z;exact z
 refine⟨mv,⟨by rw[MJ];exact S.l1,by rw[MJ];exact S.l2,λa z=>S.lh a (dom a z),λm z=>?_,S.inj,S.nx,λj s' qj=>?_,S.bs.wr k3 k4⟩,?_⟩
 .by_cases y:m=n
  .subst y;exact⟨o',aG⟩
  .rw[up m y];exact S.xl m z
 .rcases bu hi qj with ⟨rfl,rfl⟩ |⟨z,qj'⟩
  .rw[k1,k2];exact k7 o' u' hf (r.mono mv)
  .refine (S.sl j s' qj').mono mv λm ob qm qo _=>?_;rw[up m λy=>by subst y;exact z (S.inj j i m qm k1)];exact qo
 .refine⟨mv.le,dom,λm ob qm _ hM=>?_,λ_ _ q=>.inl q,λj s' qj hl=>?_,λj s' qj hl=>?_,λj v qj=>?_,λj v qj=>?_⟩
  .rw[up m λy=>by subst y;exact hM ⟨i,s,k1,q,k6⟩];exact qm
  .have z:j≠i:=λz=>by subst z;rw[q] at qj;cases qj;cases s <;> first |cases hl;done |cases k6;done
   rw[b8 z];exact⟨qj,rfl⟩
  .rcases bu hi qj with ⟨_,y⟩ |⟨z,qj'⟩
   .subst y;cases s <;> first |cases hl;done |cases k6;done
   .exact⟨qj',rfl⟩
  .rcases bu hi qj with ⟨rfl,y⟩ |⟨z,qj'⟩
   .cases s with
    |mu w=>exact⟨w,q,rfl⟩
    |ow w=>cases y
    |_=>cases k6
   .exact⟨v,qj',rfl⟩
  .by_cases z:j=i
   .subst z;rw[q] at qj;cases qj;exact⟨u',b9 hi,rfl⟩
   .exact⟨v,by rw[b8 z];exact qj,rfl⟩
end
noncomputable def wSet (i:Nat) (G:ME3) (F:ME3) (w:Val->Val->Val->Option Val) (e:E3):SR3:=(F e).toS λt e1=>match (e1[i]?).bind Sl.mv with
 |none=>.stuck
 |some _=>(G e1).toS λt2 e2=>match rs e2 t2 with
  |none=>.stuck
  |some vi=>match cT e2 t.drop with
   |none=>.stuck
   |some (e3,v)=>match e3[i]? with
    |none=>.stuck
    |some s=>match s.mv with
     |none=>.stuck
     |some u=>match w u vi v with
      |some u'=>.nx (e3.set i (s.re u'))
      |none=>.stuck
noncomputable def fB:Val->Bool
 |.lst _=>true
 |_=>false
noncomputable def rn (i:Nat) (m:Val->List Val->Option (Val×Val)) (vs:List Val) (e2:E3):R3 Tm:=match e2[i]? with
 |some s2=>match s2.mv with
  |some u=>match m u vs with
   |some (u',v)=>.ok (.val v) (e2.set i (s2.re u'))
   |none=>.stuck
  |none=>.stuck
 |none=>.stuck
noncomputable def og (i:Nat) (m:Val->List Val->Option (Val×Val)) (A:MA3) (e:E3):R3 Tm:=match e[i]? with
 |some s=>if (s.mv.map fB)=some true then (A e).bind λts e1=>match dem e1 ts with
  |some (e2,vs)=>rn i m vs e2
  |none=>.stuck else .stuck
 |none=>.stuck
noncomputable def LP (m:Val->List Val->Bv) (F:ME3) (A:MA3) (e:E3):R3 Tm:=(F e).bind λt e1=>if (rs e1 t).map fB=some true then (A e1).bind λts e2=>(match rs e2 t.drop,rss e2 ts with
 |some v,some vs=>if fB v=true then (m v vs).at e2 else .stuck
 |_,_=>.stuck) else .stuck
structure PSe where
 G:Val->Val->Val->Option Val
structure PMm where
 G:Val->List Val->Option (Val×Val)
structure PMv where
 G:Val->List Val->Bv
noncomputable def tQ (i:Nat) (w:PSe) (k a:PEx):PSt:=⟨15,wSet i k.G a.G w.G⟩
noncomputable def ia (i:Nat) (m:PMm) (a:PAs):PEx:=⟨18,og i m.G a.G⟩
noncomputable def qF (i:Nat) (m:PMm):PEx:=⟨19,og i m.G nZ⟩
noncomputable def p8 (m:PMv) (a:PEx) (b:PAs):PEx:=⟨20,LP m.G a.G b.G⟩
section
variable(K:W.Frag)(mg:Pp)
def BB(r:rV)(w:Val->Val->Val->Option Val):Prop:=∀P H n o u di vi d v u' Q,¬ P n->H n=some o->NotFz o->Rc K mg P H o u->ShR K mg P H di vi->Rd K mg P H d v->w u vi v=some u'->(∀o',NotFz o'->Rc K mg P H o' u'->Q (upd H n o'))->r (.ref n) di d H Q
def MmD(r:V->List V->Hp->VK->Prop)(m:Val->List Val->Option (Val×Val)):Prop:=∀P H n o u ds vs u' v Q,¬ P n->H n=some o->NotFz o->Rc K mg P H o u->Rds K mg P H ds vs->m u vs=some (u',v)->(∀o' y,NotFz o'->Rc K mg P H o' u'->Rd K mg P H y v->Q y (upd H n o'))->r (.ref n) ds H Q
def MtD(r:V->List V->Hp->VK->Prop)(m:Val->List Val->Bv):Prop:=∀P H d v ds vs Q,ShR K mg P H d v->fB v=true->ShRs K mg P H ds vs->BvP K mg P H Q (m v vs)->r d ds H Q
end
section
variable{K:W.Frag}{mg:Pp}{X:Cx}{ES:St->XK}{e o i:Expr}{es:List Expr}{p q:PEx}{A:PAs}{pos p1:Pos}
def um{j:Nat}{e:E3}{s:Sl}{u:Val}(q:e[j]?=some s)(h:s.mv=some u):eL j e=.ok (.bor j) e:=by unfold eL;rw[q];cases s <;> first |rfl |cases h
def EY{w:PSe}{r:rV}(he:DE K mg X ES e p)(ho:DE K mg X ES o (af j))(hi:DE K mg X ES i q)(hs':w9 X r)(hd:BB K mg r w.G)(hs:swapsWithSole [.Subscript o i p1] e pos.line X.env=pure false:=by rfl)(hw:swappedStores [.Subscript o i p1] e X.env=pure none:=by rfl)(h1:(assignEach [.Subscript o i p1] X.env).map (·.2)=[assign (.Subscript o i p1) X.env]:=by rfl)
 (ha:∀v,assign (.Subscript o i p1) X.env v=(do
  let ov <- holding [v] (eval o X.env)
  let iv <- holding [v,ov] (eval i X.env)
  standAt p1
  holding [v,ov,iv] (setItem ov iv v)
  release [v,ov,iv] []):=by intro _;rfl):DS K mg X ES (.Assign [.Subscript o i p1] e pos) (tQ j w q p):=
 ⟨PS.imp
  (Af he.ok (GV ho.ok hi.ok hs' ha) hs hw h1) λD σ H zz=>zz.el λY N0 ns e S p=>⟨Y,N0,λ_=>True,ns,e,S,λ_ _=>trivial,PS3.toS p S λt e1 ns1 H1 a1 S1 p1 x r1=>by
  try dsimp only at p1
  split at p1
  .exact p1.elim
  .rename_i u0 qm;obtain⟨s0,y1,y2⟩:=MK.mp qm;refine⟨Y,N0,λ_=>True,ns1,e1,S1,λ_ _=>trivial,?_⟩;show PG3 K mg Y N0 ns1 e1 σ H1 (ES σ) _ (eL j e1);rw[um y1 y2];intro H2 h_ a2 S2 ov ro;refine⟨Y,N0,λ_=>True,h_,e1,S2,λ_ _=>trivial,PS3.toS (PS3.after p1 S (a1.trans S a2)) S2 λt2 e2 ns3 H3 a3 S3 p3 iv r3=>?_⟩;try dsimp only at p3
   split at p3
   .exact p3.elim
   .rename_i vi qi;split at p3
    .exact p3.elim
    .rename_i e3 v qd;obtain⟨ns4,S4,a4,r4⟩:=fW S3 (r1.drop (a2.trans S1 a3)) qd;split at p3
     .exact p3.elim
     .rename_i s q3;split at p3
      .exact p3.elim
      .rename_i u q4;split at p3
       .rename_i u' q5;obtain⟨n,ob,k1,k0,k2,k3,k4,k5⟩:=S4.write q3 q4;have ro':σ[j]?=some (some ov):=ro;rw[k1] at ro';cases ro';refine hd (Oc Y ns4) _ _ _ _ _ _ _ _ _ _ (λz=>z.2 (aQ.mpr ⟨j,k0⟩)) k2 k3 k4 ((r3.sh S3 qi).mono a4.mov .refl) r4 q5 λo' f' rc'=>?_;obtain⟨_,S5,a5⟩:=k5 o' u' f' rc';exact p3 _ _ _ ((a3.trans S2 a4).trans S2 a5) S5
       .exact p3.elim⟩⟩
def DJ{P:Addr->Prop}(r:ShR K mg P H d v)(q:fB v=true):tyV K "list" d H:=by
 cases v with
 |lst xs=>obtain⟨a,vs,rfl,h,_⟩:=r.lstL;exact .inl ⟨rfl,vs,h⟩
 |_=>cases q
def vJ{Y N0 L:Addr->Prop}{ns:Ns}{e2:E3}{σ:St}{H:Hp}{k:PMm}{r:V->List V->Hp->VK->Prop}{vs:List Val}{E:XK}{Q:VK}(hd:MmD K mg r k.G)(S:Sat K mg Y N0 ns e2 σ H)(ro:σ[j]?=some (some ov))(rx:Rds K mg (Oc Y ns) H xs vs)(p:PG3 K mg Y N0 ns e2 σ H E (KE K mg Y N0 L σ Q) (rn j k.G vs e2)):r ov xs H Q:=by
 unfold rn at p;split at p
 .rename_i s2 q2;split at p
  .rename_i u q3;split at p
   .rename_i u' v q4;obtain⟨n,ob,k1,k0,k2,k3,k4,k5⟩:=S.write q2 q3;rw[k1] at ro;cases ro;refine hd (Oc Y ns) _ _ _ _ _ _ _ _ _ (λz=>z.2 (aQ.mpr ⟨j,k0⟩)) k2 k3 k4 rx q4 λo' y f' rc' ry=>?_;obtain⟨mv,S4,a4⟩:=k5 o' u' f' rc';exact p _ _ a4 S4 _ (ry.mono mv)
   .exact p.elim
  .exact p.elim
 .exact p.elim
theorem vI{Y N0 L:Addr->Prop}{ns:Ns}{e:E3}{σ:St}{H:Hp}{m:Val->List Val->Option (Val×Val)}{A:MA3}{E:XK}{Q:VK}{R:V->Hp->Prop}(S:Sat K mg Y N0 ns e σ H)(p:PG3 K mg Y N0 ns e σ H E (KE K mg Y N0 L σ Q) (og j m A e))
 (i:∀ov ns1 H1,Stp ns e H ns1 e H1->Sat K mg Y N0 ns1 e σ H1->σ[j]?=some (some ov)->tyV K "list" ov H1->PG3 K mg Y N0 ns1 e σ H1 E (KE K mg Y N0 L σ Q) ((A e).bind λts e1=>match dem e1 ts with
 |some (e2,vs)=>rn j m vs e2
 |none=>.stuck)->R ov H1):PG3 K mg Y N0 ns e σ H E (KE K mg Y N0 L σ R) (eL j e):=by
 unfold og at p;split at p
 .rename_i s0 q0;split at p
  .rename_i hz;obtain⟨u0,z1,z2⟩:=Mp.mp hz;rw[um q0 z1];exact λH1 ns1 a1 S1 ov ro=>i ov ns1 H1 a1 S1 ro (DJ (v:=u0) (S1.bor ro (by rw[q0];cases s0 <;> first |exact z1 |cases z1)) z2) (p.after S a1)
  .exact p.elim
 .exact p.elim
def HS{j:Nat}{name:Str}{id:String}{apos cpos:Pos}{r:V->List V->Hp->VK->Prop}{k:PMm}(hK:X.K=K)(slot:Slot "list" name id)(hty:typeOf (.builtin id)=pure (.type "method_descriptor"))(hm:MtM X id r)(hd:MmD K mg r k.G)(ho:DE K mg X ES o (af j))(ha:DA K mg X ES (e::es) A)(e_:attributeBase o name X.env (eval o X.env)=eval o X.env:=by rfl)(hfew:((backTo cpos (starEach (e::es) X.env)).all (λx=>!x.1)&&(backToKw cpos (keywordEach [] X.env)).all (λx=>x.1.isSome)&&decide ((e::es).length+([]:List Keyword).length+(if ([]:List Keyword).isEmpty then 0 else 1)<30))=true:=by rfl)(f_:(apos.endLine==cpos.line)=true:=by rfl)(hs:starEach (e::es) X.env=(false,eval e X.env)::starEach es X.env:=by rfl)(c_:(backTo cpos (starEach es X.env)).any (·.1)=false:=by rfl):DE K mg X ES (.Call (.Attribute o name apos) (e::es) [] cpos) (ia j k A):=by
 subst hK;exact
  ⟨PE.imp (qb N3 slot hty hm ho.ok ha.ok e_ hfew f_ hs c_) λσ H Q zz=>zz.el λY N0 L ns e S hl p=>
  ⟨Y,
   N0,L,ns,e,S,hl,vI S p λov ns1 H1 a1 S1 ro ty p1=>⟨ty,Y,N0,ns1,e,S1,PG3.imp p1 S1 λts e1 h_ H2 a2 S2 p2 xs r2=>by
   try dsimp only at p2
   split at p2
   .rename_i e2 vs q1;obtain⟨ns3,S3,a3,r3⟩:=iI S2 r2 q1;exact vJ hd S3 ro r3 (p2.after S2 a3)
   .exact p2.elim⟩⟩⟩
def FQ{j:Nat}{name:Str}{id:String}{apos cpos:Pos}{r:V->List V->Hp->VK->Prop}{k:PMm}(hK:X.K=K)(slot:Slot "list" name id)(hty:typeOf (.builtin id)=pure (.type "method_descriptor"))(hm:MtM X id r)(hd:MmD K mg r k.G)(ho:DE K mg X ES o (af j))(e_:attributeBase o name X.env (eval o X.env)=eval o X.env:=by rfl)(f_:(apos.endLine==cpos.line)=true:=by rfl):DE K mg X ES (.Call (.Attribute o name apos) [] [] cpos) (qF j k):=by
 subst hK;exact⟨PE.imp (IS N3 slot hty hm ho.ok e_ f_) λσ H Q zz=>zz.el λY N0 L ns e S hl p=>
  ⟨Y,N0,L,ns,e,S,hl,vI S p λov ns1 H1 a1 S1 ro ty p1=>⟨ty,vJ hd S1 ro .nil p1⟩⟩⟩
def ER{name:Str}{id:String}{apos cpos:Pos}{r:V->List V->Hp->VK->Prop}{k:PMv}(hK:X.K=K)(slot:Slot "list" name id)(hty:typeOf (.builtin id)=pure (.type "method_descriptor"))(hm:MtM X id r)(hd:MtD K mg r k.G)(ho:DE K mg X ES o p)(ha:DA K mg X ES (e::es) A)(e_:attributeBase o name X.env (eval o X.env)=eval o X.env:=by rfl)(hfew:((backTo cpos (starEach (e::es) X.env)).all (λx=>!x.1)&&(backToKw cpos (keywordEach [] X.env)).all (λx=>x.1.isSome)&&decide ((e::es).length+([]:List Keyword).length+(if ([]:List Keyword).isEmpty then 0 else 1)<30))=true:=by rfl)(f_:(apos.endLine==cpos.line)=true:=by rfl)(hs:starEach (e::es) X.env=(false,eval e X.env)::starEach es X.env:=by rfl)(c_:(backTo cpos (starEach es X.env)).any (·.1)=false:=by rfl):DE K mg X ES (.Call (.Attribute o name apos) (e::es) [] cpos) (p8 k p A):=by
 subst hK;exact
  ⟨PE.imp (qb N3 slot hty hm ho.ok ha.ok e_ hfew f_ hs c_) λσ H Q zz=>zz.el λY N0 L ns e S hl p=>
  ⟨Y,
   N0,L,ns,e,S,hl,PG3.imp p S λt e1 ns1 H1 a1 S1 p1 x r1=>by
   try dsimp only at p1
   split at p1
   .rename_i hq;obtain⟨v0,z1,z2⟩:=Mp.mp hq;refine⟨DJ (r1.sh S1 z1) z2,Y,N0,ns1,e1,S1,PG3.imp p1 S1 λts e2 h_ H2 a2 S2 p2 xs r2=>?_⟩;try dsimp only at p2
    split at p2
    .rename_i v vs q1 q2;split at p2
     .rename_i hv;exact hd _ _ _ _ _ _ _ ((r1.drop a2).sh S2 q1) hv (r2.sh S2 q2) (p2.bv S2 λa z=>hl a (a1.dom a (a2.dom a z)))
     .exact p2.elim
    .exact p2.elim
   .exact p1.elim⟩⟩
end
noncomputable def g6:Sl->Sl
 |.ow v=>.lo v
 |.mu v=>.lm v
 |s=>s
noncomputable def iN:Sl->Sl
 |.lo v=>.ow v
 |.lm v=>.mu v
 |s=>s
noncomputable def lock (e:E3) (k:Nat):E3:=match e[k]? with
 |some s=>e.set k (g6 s)
 |none=>e
noncomputable def unlock (e:E3) (k:Nat):E3:=match e[k]? with
 |some s=>e.set k (iN s)
 |none=>e
noncomputable def lockO (e:E3):Option Nat->E3
 |some k=>lock e k
 |none=>e
noncomputable def fj (e:E3):Option Nat->E3
 |some k=>unlock e k
 |none=>e
section
variable{K:W.Frag}{mg:Pp}{X N0:Addr->Prop}{ns ns':Ns}{e e':E3}{σ:St}{H H':Hp}
def SlR.lock(r:SlR K mg P N0 n d H s):SlR K mg P N0 n d H (g6 s):=by cases s <;> exact r
def SlR.unlock(r:SlR K mg P N0 n d H s):SlR K mg P N0 n d H (iN s):=by cases s <;> exact r
def Sat.setS(S:Sat K mg X N0 ns e σ H)(q:e[k]?=some s)(f:Sl->Sl)(hf:SlR K mg (Oc X ns) N0 (ns[k]?) (σ[k]?) H s->SlR K mg (Oc X ns) N0 (ns[k]?) (σ[k]?) H (f s)):Sat K mg X N0 ns (e.set k (f s)) σ H:=by
 have hi:=(u_.mp q).1;refine⟨by rw[MJ];exact S.l1,by rw[MJ];exact S.l2,S.lh,S.xl,S.inj,S.nx,λj s' qj=>?_,S.bs⟩;rcases bu hi qj with ⟨rfl,rfl⟩ |⟨z,qj'⟩
 .exact hf (S.sl j s q)
 .exact S.sl j s' qj'
def Sat.lock(S:Sat K mg X N0 ns e σ H)(k:Nat):Sat K mg X N0 ns (lock e k) σ H:=by
 unfold L3.lock;split
 .rename_i s q;exact S.setS q g6 SlR.lock
 .exact S
def Sat.unlock(S:Sat K mg X N0 ns e σ H)(k:Nat):Sat K mg X N0 ns (unlock e k) σ H:=by
 unfold L3.unlock;split
 .rename_i s q;exact S.setS q iN SlR.unlock
 .exact S
def Sat.lockO(S:Sat K mg X N0 ns e σ H)(k:Option Nat):Sat K mg X N0 ns (lockO e k) σ H:=by
 cases k with
 |none=>exact S
 |some k=>exact S.lock k
def iJ(z:j≠k):(lock e k)[j]?=e[j]?:=by
 unfold lock;split
 .rw[b8 z]
 .rfl
def gc(z:j≠k):(unlock e k)[j]?=e[j]?:=by
 unfold unlock;split
 .rw[b8 z]
 .rfl
def oz(q:e[k]?=some s):(lock e k)[k]?=some (g6 s):=by unfold lock;rw[q];exact b9 (u_.mp q).1
def gX(q:e[k]?=some s):(unlock e k)[k]?=some (iN s):=by unfold unlock;rw[q];exact b9 (u_.mp q).1
def Stp.unlock(q:e[k]?=some s)(hs:s.mt=true)(a:Stp ns (L3.lock e k) H ns' e' H'):Stp ns e H ns' (L3.unlock e' k) H':=by
 have hl:(g6 s).lk=true:=by cases s <;> first |rfl |cases hs
 have hu:iN (g6 s)=s:=by cases s <;> first |rfl |cases hs
 obtain⟨qk,nk⟩:=a.lk k _ (oz q) hl;refine⟨a.le,a.dom,λm o qm ht hM=>a.keep m o qm ht λ⟨j,s',z1,z2,z3⟩=>hM ?_,a.nw,λj s' qj hj=>?_,λj s' qj hj=>?_,λj v qj=>?_,λj v qj=>?_⟩
 .by_cases z:j=k
  .subst z;exact⟨j,s,z1,q,hs⟩
  .rw[iJ z] at z2;exact⟨j,s',z1,z2,z3⟩
 .have z:j≠k:=λz=>by subst z;rw[q] at qj;cases qj;cases s <;> first |cases hs;done |cases hj;done
  rw[gc z];exact a.lk j s' (by rw[iJ z];exact qj) hj
 .have z:j≠k:=λz=>by subst z;rw[gX qk,hu] at qj;cases qj;cases s <;> first |cases hs;done |cases hj;done
  rw[gc z] at qj;obtain⟨y1,y2⟩:=a.lk' j s' qj hj;rw[iJ z] at y1;exact⟨y1,y2⟩
 .by_cases z:j=k
  .subst z;rw[gX qk,hu] at qj;cases qj;exact⟨v,q,nk⟩
  .rw[gc z] at qj;obtain⟨u,y1,y2⟩:=a.mu j v qj;rw[iJ z] at y1;exact⟨u,y1,y2⟩
 .by_cases z:j=k
  .subst z;rw[q] at qj;cases qj;exact⟨v,by rw[gX qk,hu],nk⟩
  .obtain⟨u,y1,y2⟩:=a.mu' j v (by rw[iJ z];exact qj);exact⟨u,by rw[gc z];exact y1,y2⟩
end
abbrev MI3:=E3->R3 (List Val×Option Nat)
noncomputable def fY:Val->Option (List Val)
 |.tup xs=>some xs
 |.lst xs=>some xs
 |_=>none
noncomputable def gE (t:Tm) (e:E3):Option (List Val×Option Nat):=match t with
 |.val v=>(fY v).map λxs=>(xs,none)
 |.new v=>(fY v).map λxs=>(xs,none)
 |.bor k=>match e[k]? with
  |some (.sh v)=>(fY v).map λxs=>(xs,none)
  |some (.ow (.lst xs))=>some (xs,some k)
  |some (.mu (.lst xs))=>some (xs,some k)
  |_=>none
noncomputable def KD (F:ME3) (e:E3):R3 (List Val×Option Nat):=(F e).bind λt e1=>match gE t e1 with
 |some p=>.ok p e1
 |none=>.stuck
noncomputable def K2 (A:MA3) (e:E3):R3 (List Val×Option Nat):=(A e).bind λts e1=>match ts with
 | [t,u]=>(match gE t e1,gE u e1 with
  |some (xs,k),some (ys,none)=>.ok (List.zipWith (λx y=>.tup [x,y]) xs ys,k) e1
  |_,_=>.stuck)
 |_=>.stuck
noncomputable def kU (lo:Int) (k:Nat):List Val:=(List.range k).map λi=>Val.int (lo+(i:Nat))
structure RgB(j:Int):Prop where
 lo:-(2^62)<=j
 hi:j<2^62
def hU:List Val->Option (List Val)
 | [.int j]=>@ite _ (RgB j) (Classical.propDecidable _) (some (kU 0 j.toNat)) none
 |_=>none
def rJ:List Val->Option (List Val)
 | [.int i,.int j]=>@ite _ (RgB i/\RgB j) (Classical.propDecidable _) (some (kU i (j-i).toNat)) none
 |_=>none
noncomputable def viRg (f:List Val->Option (List Val)) (A:MA3) (e:E3):R3 (List Val×Option Nat):=(A e).bind λts e1=>match (rss e1 ts).bind f with
 |some xs=>.ok (xs,none) e1
 |none=>.stuck
noncomputable def SR3.loop (r:SR3) (f:E3->SR3):SR3:=match r with
 |.nx e=>f e
 |.ct e=>f e
 |.bk e=>.nx e
 |.rt d e=>.rt d e
 |.exc c e=>.exc c e
 |.stuck=>.stuck
noncomputable def dN (g:MG3) (B:MS3):List Val->MS3
 | [],e=>.nx e
 |v::vs,e=>match g v e with
  |some e1=>(B e1).loop (dN g B vs)
  |none=>.stuck
noncomputable def SR3.unl (k:Option Nat) (r:SR3):SR3:=match r with
 |.nx e=>.nx (fj e k)
 |.ct e=>.ct (fj e k)
 |.bk e=>.bk (fj e k)
 |.rt d e=>.rt d (fj e k)
 |.exc c e=>.exc c (fj e k)
 |.stuck=>.stuck
noncomputable def wFor (I:MI3) (g:MG3) (B:MS3) (e:E3):SR3:=(I e).toS λp e1=>(dN g B p.1 (lockO e1 p.2)).unl p.2
noncomputable def whV (c:MT3) (B:MS3):Nat->MS3
 |0,_=>.stuck
 |k+1,e=>(c e).toS λb e1=>if b=true then (B e1).loop (whV c B k) else .nx e1
open Classical in
def wWh(c:MT3)(B:MS3):MS3:=λe=>if q:∃k,whV c B k e ≠ .stuck then whV c B q.choose e else .stuck
theorem lB{c:MT3}{B:MS3}:∀{k:Nat}{e:E3},whV c B k e ≠ .stuck->whV c B (k+1) e=whV c B k e
 |0,_,q=>absurd rfl q
 |
  k+1,e,q=>by
  have e1:whV c B (k+2) e=(c e).toS λb e1=>if b=true then (B e1).loop (whV c B (k+1)) else .nx e1:=rfl
  have e2:whV c B (k+1) e=(c e).toS λb e1=>if b=true then (B e1).loop (whV c B k) else .nx e1:=rfl
  rw[e2] at q;rw[e1,e2];cases r:c e with
  |exc _ _=>rfl
  |stuck=>rfl
  |
   ok b h1=>
   rw[r] at q;cases b with
   |false=>rfl
   |
    true=>
    have q':(B h1).loop (whV c B k) ≠ .stuck:=q;show (B h1).loop (whV c B (k+1))=(B h1).loop (whV c B k);cases s:B h1 with
    |nx a2=>rw[s] at q';exact lB q'
    |ct a2=>rw[s] at q';exact lB q'
    |_=>rfl
def zo{c:MT3}{B:MS3}{k j:Nat}{e:E3}(q:whV c B k e ≠ .stuck)(hj:k<=j):whV c B j e=whV c B k e:=by
 induction hj with
 |refl=>rfl
 |step _ ih=>rw[lB (by rw[ih];exact q),ih]
def m8{c:MT3}{B:MS3}{k:Nat}{e:E3}(q:whV c B k e ≠ .stuck):wWh c B e=whV c B k e:=by
 have hq:∃k,whV c B k e ≠ .stuck:=⟨k,q⟩;unfold wWh;rw[dif_pos hq];rcases Nat.le_total hq.choose k with z |z
 .exact (zo hq.choose_spec z).symm
 .exact zo q z
def AY(c:MT3)(B:MS3)(e:E3):wWh c B e=(c e).toS λb e1=>if b=true then (B e1).loop (wWh c B) else .nx e1:=by
 by_cases q:∃k,whV c B k e ≠ .stuck
 .obtain⟨k,q⟩:=q;rw[m8 q];cases k with
  |zero=>exact absurd rfl q
  |
   succ k=>
   have e2:whV c B (k+1) e=(c e).toS λb e1=>if b=true then (B e1).loop (whV c B k) else .nx e1:=rfl
   rw[e2] at q ⊢;cases r:c e with
   |exc _ _=>rfl
   |stuck=>rfl
   |
    ok b h1=>
    rw[r] at q;cases b with
    |false=>rfl
    |
     true=>
     have q':(B h1).loop (whV c B k) ≠ .stuck:=q;show (B h1).loop (whV c B k)=(B h1).loop (wWh c B);cases s:B h1 with
     |nx a2=>rw[s] at q';exact (m8 q').symm
     |ct a2=>rw[s] at q';exact (m8 q').symm
     |_=>rfl
 .have e0:wWh c B e=.stuck:=by unfold wWh;rw[dif_neg q]
  rw[e0];have hs:∀k,whV c B (k+1) e=.stuck:=λk=>Classical.byContradiction λz=>q ⟨_,z⟩;cases r:c e with
  |stuck=>rfl
  |
   exc c' h'=>
   have:=hs 0
   unfold whV at this;rw[r] at this;cases this
  |
   ok b h1=>
   cases b with
   |
    false=>
    have:=hs 0
    unfold whV at this;rw[r] at this;cases this
   |
    true=>
    have h2:∀k,(B h1).loop (whV c B k)=.stuck:=λk=>by
     have:=hs k
     unfold whV at this;rw[r] at this;exact this
    show SR3.stuck=(B h1).loop (wWh c B);have lim:∀a2,(∀k,whV c B k a2=.stuck)->wWh c B a2=.stuck:=λa2 z=>by unfold wWh;rw[dif_neg (λ⟨k,y⟩=>y (z k))]
    cases s:B h1 with
    |nx a2=>rw[s] at h2;exact (lim a2 h2).symm
    |ct a2=>rw[s] at h2;exact (lim a2 h2).symm
    |stuck=>rfl
    |_=>have:=h2 0;rw[s] at this;cases this
structure PIt where
 t:Nat
 G:MI3
noncomputable def bj (a:PEx):PIt:=⟨1,KD a.G⟩
def i8(a:PAs):PIt:=⟨2,viRg hU a.G⟩
def wu(a:PAs):PIt:=⟨3,viRg rJ a.G⟩
noncomputable def xg (a:PAs):PIt:=⟨5,K2 a.G⟩
noncomputable def gN (i:PIt) (g:PGt) (b:PSt):PSt:=⟨16,wFor i.G g.G b.G⟩
def xWh(c:PTs)(b:PSt):PSt:=⟨17,wWh c.G b.G⟩
section
variable(K:W.Frag)(mg:Pp)
structure Kp(X:Addr->Prop)(ns:Ns)(k:Option Nat)(H0:Hp)(P:Addr->Prop)(H:Hp):Prop where
 mov:Mov (Oc X ns) P H0 H
 lk:∀(j:Nat) (a:Addr) (o:HO),k=some j->ns[j]?=some (some a)->H0 a=some o->oC o->H a=some o
def Kp.refl:Kp X ns k H (Oc X ns) H:=⟨.of λ_ z=>z,λ_ _ _ _ _ q _=>q⟩
def ItS(X:Addr->Prop)(ns:Ns)(k:Option Nat)(H0:Hp)(J:It)(us:List Val):Prop:=∀P H,Kp X ns k H0 P H->(∀(i:Nat) v,us[i]?=some v->J.go i H/\∀x H',J.yld i H x H'->Gr H H'/\Rd K mg P H' x v)/\J.stop us.length H
def ij(X:Addr->Prop)(ns:Ns)(k:Option Nat)(H0:Hp)(b:Bool)(a:Addr)(us:List Val):Prop:=∀P H,Kp X ns k H0 P H->∃vs,SqB K b H a vs/\Rds K mg P H vs us
def rdI(ES:St->XK)(I:MI3):TI:=λσ H R=>∃X N0 ns e,Sat K mg X N0 ns e σ H/\PG3 K mg X N0 ns e σ H (ES σ) (λp e' ns' H'=>∀J,ItS K mg X ns' p.2 H' J p.1->(∀k,p.2=some k->∃s,e'[k]?=some s/\s.mt=true)->R J H') (I e)
def rdI.el{K:W.Frag}{mg:Pp}{I:MI3}{R:It->Hp->Prop}(h:rdI K mg ES I σ H R){Z:Prop}(k:∀X N0 ns e,Sat K mg X N0 ns e σ H->PG3 K mg X N0 ns e σ H (ES σ) (λp e' ns' H'=>∀J,ItS K mg X ns' p.2 H' J p.1->(∀k,p.2=some k->∃s,e'[k]?=some s/\s.mt=true)->R J H') (I e)->Z):Z:=by obtain⟨X,N0,ns,e,S,p⟩:=h;exact k X N0 ns e S p
structure DI(X:Cx)(ES:St->XK)(tg iter:Expr)(F:PIt):Prop where
 ok:PI X tg iter (rdI K mg ES F.G)
end
noncomputable def ItA (K:W.Frag) (b:Bool) (a:Addr):It:=match b with
 |true=>Itl K a
 |false=>Itt K a
section
variable{K:W.Frag}{mg:Pp}{X N0 L:Addr->Prop}{ns ns1 ns':Ns}{e e1 e':E3}{σ:St}{H H1 H':Hp}{De:Ends}{ES:St->XK}
def FR{x:V}{v:Val}(r:Rd K mg (Oc X ns) H x v)(q:fY v=some us):∃b a,x=.ref a/\∀k,ij K mg X ns k H b a us:=by
 cases v with
 |tup ys=>cases q;obtain⟨a,vs,rfl,h,rr⟩:=ShR.tup (.inl r);exact⟨false,a,rfl,λ_ P H' st=>⟨vs,st.mov.le.sqT h,rr.mono st.mov⟩⟩
 |
  lst ys=>
  cases q;cases r with
  |cell p eo rc=>cases rc with |lst rr=>exact⟨true,_,rfl,λ_ P H' st=>⟨_,SqL.of (st.mov.cl _ _ p eo (λ_ z=>nomatch z)).2,rr.mono st.mov⟩⟩
 |_=>cases q
def rX{x:V}{t:Tm}{p:List Val×Option Nat}(S:Sat K mg X N0 ns e σ H)(r:relE K mg X N0 L σ ns e H x t)(q:gE t e=some p):∃b a,x=.ref a/\ij K mg X ns p.2 H b a p.1/\(p.2=none->∀k,ij K mg X ns k H b a p.1)/\∀k:Nat,p.2=some k->∃s,e[k]?=some s/\s.mt=true:=by
 have fv:∀{v us},Rd K mg (Oc X ns) H x v->fY v=some us->∃b a,x=.ref a/\ij K mg X ns none H b a us/\((none:Option Nat)=none->∀k,ij K mg X ns k H b a us)/\∀k:Nat,none=some k->∃s,e[k]?=some s/\s.mt=true:=λr q=>by obtain⟨b,a,h1,h2⟩:=FR r q;exact⟨b,a,h1,h2 _,λ_=>h2,λ_ z=>nomatch z⟩
 cases t with
 |val v=>obtain⟨xs,q1,rfl⟩:=Mp.mp q;exact fv r q1
 |new v=>obtain⟨xs,q1,rfl⟩:=Mp.mp q;exact fv r.new q1
 |
  bor k=>
  have r':σ[k]?=some (some x):=r;have own:∀{s xs},e[k]?=some s->s.mv=some (.lst xs)->∃b a,x=.ref a/\ij K mg X ns (some k) H b a xs/\(some k=none->∀k,ij K mg X ns k H b a xs)/\∀j:Nat,some k=some j->∃s,e[j]?=some s/\s.mt=true:=λ{s xs} q qm=>by
   obtain⟨n,o,k1,k0,k2,k3,k4,_⟩:=S.write q qm;rw[r'] at k1;cases k1;have hm:s.mt=true:=by cases s <;> first |rfl |cases qm
   refine⟨true,n,rfl,λP H' st=>?_,λz=>(nomatch z),λj z=>by cases z;exact⟨s,q,hm⟩⟩;cases k4 with
   |lst rr=>exact⟨_,SqL.of (st.lk k n _ rfl k0 k2 λ_ z=>nomatch z),rr.mono st.mov⟩
  unfold gE at q;dsimp only at q;split at q
  .rename_i v qs;obtain⟨_,x',e2,r2⟩:=S.sl k _ qs;rw[r'] at e2;cases e2;obtain⟨xs,q1,rfl⟩:=Mp.mp q;exact fv r2 q1
  .rename_i xs qs;cases q;exact own qs rfl
  .rename_i xs qs;cases q;exact own qs rfl
  .cases q
def ItS.seq(s:ij K mg X ns k H b a us):ItS K mg X ns k H (ItA K b a) us:=λP H' st=>by
 obtain⟨vs,h,r⟩:=s P H' st;cases b with
 |true=>refine⟨λi v q=>?_,vs,h,by rw[r.len];exact t_ _⟩;obtain⟨x,ex,rx⟩:=r.get q;exact⟨⟨vs,x,h,ex⟩,λy H2 ⟨e1,z⟩=>by subst e1;have:=(z vs h).symm.trans ex;cases this;exact⟨.refl,rx⟩⟩
 |false=>refine⟨λi v q=>?_,vs,h,by rw[r.len];exact t_ _⟩;obtain⟨x,ex,rx⟩:=r.get q;exact⟨⟨vs,x,h,ex⟩,λy H2 ⟨e1,z⟩=>by subst e1;have:=(z vs h).symm.trans ex;cases this;exact⟨.refl,rx⟩⟩
def ItS.zip(s:ij K mg X ns k H b a us)(t:ij K mg X ns k H c d ws):ItS K mg X ns k H (ItZ K b c a d) (List.zipWith (λx y=>.tup [x,y]) us ws):=λP H' st=>by
 obtain⟨vs,h,r⟩:=s P H' st;obtain⟨xs,h',r'⟩:=t P H' st;refine⟨λi v q=>?_,vs,xs,h,h',?_⟩
 .rw[NQ] at q;cases k1:us[i]? with
  |none=>rw[k1] at q;cases q
  |
   some u=>
   cases k2:ws[i]? with
   |none=>rw[k1,k2] at q;cases q
   |
    some w=>
    rw[k1,k2] at q;cases q;obtain⟨x,ex,rx⟩:=r.get k1;obtain⟨x',ex',rx'⟩:=r'.get k2;refine⟨⟨vs,xs,x,x',h,h',ex,ex'⟩,λy H2 ⟨p,f,f',e1,hp,e2,hf,hf'⟩=>?_⟩;subst e1 e2
    have:=(hf vs h).symm.trans ex
    cases this
    have:=(hf' xs h').symm.trans ex'
    cases this;exact⟨.upd hp,.tup (SqT.of aG) (.cons (rx.mono (Gr.upd hp).mov) (.cons (rx'.mono (Gr.upd hp).mov) .nil))⟩
 .rw[NH,<- r.len,<- r'.len];rcases Nat.le_total vs.length xs.length with z |z
  .left;rw[O3 z];exact Oj (t_ _)
  .right;rw[Nat.min_eq_right z];exact Oj (t_ _)
def ItS.nums{f:Nat->Int}{k:Nat}{J:It}(h1:∀i H,i<k->J.go i H/\∀x H',J.yld i H x H'->H'=H/\x=V.int (f i))(h2:∀H,J.stop k H):ItS K mg X ns kk H J ((List.range k).map λi=>Val.int (f i)):=λP H' st=>by refine⟨λi v q=>?_,by rw[p_,A_];exact h2 _⟩;rw[L_] at q;obtain⟨j,hj,rfl⟩:=Mp.mp q;obtain⟨hj1,hj2⟩:=u_.mp hj;rw[List.getElem_range] at hj2;subst hj2;rw[A_] at hj1;obtain⟨g,y⟩:=h1 i H' hj1;exact⟨g,λx H2 z=>by obtain⟨rfl,rfl⟩:=y x H2 z;exact⟨.refl,.int _⟩⟩
def ItS.rng(lo:Int)(k:Nat):ItS K mg X ns kk H (Itr lo k) (kU lo k):=ItS.nums (λi H hi=>⟨hi,λx H' z=>z⟩) λH=>t_ _
def DC{k:Option Nat}(S:Sat K mg X N0 ns e σ H)(hk:∀j:Nat,k=some j->∃s,e[j]?=some s/\s.mt=true)(a:Stp ns (lockO e k) H ns' e' H'):Kp X ns k H (Oc X ns') H':=⟨a.mov,λj n o hj hn q ht=>by
 subst hj;refine a.keep n o q ht λ⟨i,s,z1,z2,z3⟩=>?_
 have:=S.inj i j n z1 hn
 subst this;obtain⟨s',y1,y2⟩:=hk i rfl;have:(lockO e (some i))[i]?=some (g6 s'):=oz y1;rw[this] at z2;cases z2;cases s' <;> first |cases y2;done |cases z3;done⟩
def PS3.unl{k:Option Nat}{r:SR3}(hk:∀j:Nat,k=some j->∃s,e[j]?=some s/\s.mt=true)(p:PS3 K mg X N0 ns e H De ES (r.unl k)):PS3 K mg X N0 ns (lockO e k) H De ES r:=by
 cases k with
 |none=>cases r <;> exact p
 |
  some j=>
  obtain⟨s,y1,y2⟩:=hk j rfl;cases r with
  |stuck=>exact p
  |nx e'=>exact λH' σ' ns' a S=>p H' σ' ns' (a.unlock y1 y2) (S.unlock j)
  |bk e'=>exact λH' σ' ns' a S=>p H' σ' ns' (a.unlock y1 y2) (S.unlock j)
  |ct e'=>exact λH' σ' ns' a S=>p H' σ' ns' (a.unlock y1 y2) (S.unlock j)
  |exc c e'=>exact λH' σ' ns' C a S=>p H' σ' ns' C (a.unlock y1 y2) (S.unlock j)
  |
   rt r e'=>
   refine λH' σ' ns' x a q2=>p H' σ' ns' x (a.unlock y1 y2) ?_;cases r with
   |val v=>exact⟨q2.1.unlock j,q2.2⟩
   |new v=>obtain⟨n,o,z1,z2,z3,z4,z5,z6,z7⟩:=q2;exact⟨n,o,z1,z2,z3,z4,z5,z6.unlock j,z7⟩
   |
    par i=>
    obtain⟨z1,z2,v,z3⟩:=q2;refine⟨z1.unlock j,z2,v,?_⟩;by_cases z:i=j
    .subst z;exact gX z3
    .exact (gc z).trans z3
   |pr v u=>obtain⟨p,d1,n,o,z1,z2,z3,z4,z5,z6,z7,z8⟩:=q2;exact⟨p,d1,n,o,z1,z2,z3,z4,z5,z6,z7.unlock j,z8⟩
def PS3.toB{α:Type}{r:R3 α}{f:α->E3->SR3}{k:α->E3->Ns->Hp->Prop}{ns0:Ns}{e0:E3}{σ0:St}{H0:Hp}(p:PS3 K mg X N0 ns0 e0 H0 De ES (r.toS f))(S0:Sat K mg X N0 ns0 e0 σ0 H0)(a0:Stp ns0 e0 H0 ns e H)
 (i:∀t e1 ns1 H1,Stp ns0 e0 H0 ns1 e1 H1->Sat K mg X N0 ns1 e1 σ H1->PS3 K mg X N0 ns0 e0 H0 De ES (f t e1)->k t e1 ns1 H1):PG3 K mg X N0 ns e σ H (ES σ) k r:=by
 cases r with
 |stuck=>exact p
 |exc c e'=>exact λH' ns' C a S' m=>p H' σ ns' C (a0.trans S0 a) S' m
 |ok t e'=>exact λH' ns' a S'=>i t e' ns' H' (a0.trans S0 a) S' p
def PS3.loop{ns0:Ns}{e0:E3}{σ0:St}{H0:Hp}{r:SR3}{f:E3->SR3}{N:St->Hp->Prop}(p:PS3 K mg X N0 ns0 e0 H0 De ES (r.loop f))(S0:Sat K mg X N0 ns0 e0 σ0 H0)(a0:Stp ns0 e0 H0 ns e H)
 (i:∀e1 ns1 σ1 H1,Stp ns0 e0 H0 ns1 e1 H1->Sat K mg X N0 ns1 e1 σ1 H1->PS3 K mg X N0 ns0 e0 H0 De ES (f e1)->N σ1 H1):PS3 K mg X N0 ns e H { De with nx:=N,ct:=N,bk:=De.nx } ES r:=by
 cases r with
 |nx e'=>exact λH' σ' ns' b S'=>i e' ns' σ' H' (a0.trans S0 b) S' p
 |ct e'=>exact λH' σ' ns' b S'=>i e' ns' σ' H' (a0.trans S0 b) S' p
 |bk e'=>exact λH' σ' ns' b S'=>p H' σ' ns' (a0.trans S0 b) S'
 |exc c e'=>exact λH' σ' ns' C b S'=>p H' σ' ns' C (a0.trans S0 b) S'
 |rt r e'=>exact λH' σ' ns' x b S'=>p H' σ' ns' x (a0.trans S0 b) S'
 |stuck=>exact p
end
section
variable{K:W.Frag}{mg:Pp}{X:Cx}{ES:St->XK}{e a b c tg iter:Expr}{elts:List Expr}{sts:List Stmt}{p:PEx}{A:PAs}{t:PTs}{x:PSt}{g:PGt}{I:PIt}{pos p0 tp:Pos}
def HF(hK:X.K=K)(he:DE K mg X ES e p):DI K mg X ES tg e (bj p):=by
 subst hK;exact⟨PI.imp (Jw he.ok) λσ H R zz=>rdI.el zz λY N0 ns e S q=>⟨Y,N0,λ_=>True,ns,e,S,λ_ _=>trivial,PG3.imp q S λt e1 ns1 H1 a1 S1 p1 x r1=>by
  try dsimp only at p1
  split at p1
  .rename_i w z;obtain⟨b,a,rfl,s,_,hk⟩:=rX S1 r1 z;have k:=p1.ret S1 _ (ItS.seq s) hk;obtain⟨vs,hv,_⟩:=s _ _ .refl;cases b with
   |true=>exact .inl ⟨a,rfl,⟨vs,hv⟩,k⟩
   |false=>exact .inr ⟨a,rfl,⟨vs,hv⟩,k⟩
  .exact p1.elim⟩⟩
def tsr1{Y:Addr->Prop}{ns:Ns}{σ:St}{H:Hp}{xs:List V}{t:Tm}(N0 L:Addr->Prop)(e:E3)(r:TsR K mg Y ns σ H xs [t]):∃x,xs=[x]/\relE K mg Y N0 L σ ns e H x t:=by
 cases r with
 |val r rr=>cases rr;exact⟨_,rfl,r⟩
 |bor r rr=>cases rr;exact⟨_,rfl,r⟩
def tsr2{Y:Addr->Prop}{ns:Ns}{σ:St}{H:Hp}{xs:List V}{t u:Tm}(N0 L:Addr->Prop)(e:E3)(r:TsR K mg Y ns σ H xs [t,u]):∃x y,xs=[x,y]/\relE K mg Y N0 L σ ns e H x t/\relE K mg Y N0 L σ ns e H y u:=by
 cases r with
 |val r rr=>obtain⟨y,rfl,r'⟩:=tsr1 N0 L e rr;exact⟨_,_,rfl,r,r'⟩
 |bor r rr=>obtain⟨y,rfl,r'⟩:=tsr1 N0 L e rr;exact⟨_,_,rfl,r,r'⟩
def Gj(hK:X.K=K)(hg:Gl X "zip")(hm:mg "zip"=none)(ha:DA K mg X ES [a,b] A)(hk:X.mg=mg:=by rfl)(hs:starEach [a,b] X.env=[(false,eval a X.env),(false,eval b X.env)]:=by rfl)(hs2:starEach [b] X.env=[(false,eval b X.env)]:=by rfl):DI K mg X ES (.Tuple elts x1 tp) (.Call (.Name "zip" p0) [a,b] [] pos) (xg A):=by
 subst hk hK;exact
  ⟨PI.imp (Jg hg hm ha.ok hs hs2) λσ H R zz=>rdI.el zz λY N0 ns e S q=>⟨Y,N0,ns,e,S,PG3.imp q S λts e1 ns1 H1 a1 S1 p1 xs r1=>by
  try dsimp only at p1
  split at p1
  .rename_i t u;obtain⟨x,y,rfl,r,r'⟩:=tsr2 N0 N0 e1 r1;split at p1
   .rename_i us k ws z z';obtain⟨b,a,rfl,s,_,hk⟩:=rX S1 r z;obtain⟨c,d,rfl,_,s',_⟩:=rX S1 r' z';have s2:=s' rfl k;obtain⟨vs,hv,_⟩:=s _ _ .refl;obtain⟨vs',hv',_⟩:=s2 _ _ .refl;exact⟨b,c,a,d,vs,vs',rfl,hv,hv',p1.ret S1 _ (ItS.zip s s2) hk⟩
   .exact p1.elim
  .exact p1.elim⟩⟩
def dO{P:Addr->Prop}(r:ShRs K mg P H xs [v]):∃x,xs=[x]/\ShR K mg P H x v:=by cases r with |cons r rr=>cases rr;exact⟨_,rfl,r⟩
def qJ{P:Addr->Prop}(r:ShRs K mg P H xs [v,u]):∃x y,xs=[x,y]/\ShR K mg P H x v/\ShR K mg P H y u:=by cases r with |cons r rr=>cases rr with |cons r' rr=>cases rr;exact⟨_,_,rfl,r,r'⟩
def zX(hg:Gl X "range")(hm:mg "range"=none)(ha:DA K mg X ES [a] A)(hk:X.mg=mg:=by rfl)(hs:starEach [a] X.env=[(false,eval a X.env)]:=by rfl):DI K mg X ES tg (.Call (.Name "range" p0) [a] [] pos) (i8 A):=by
 subst hk;exact
  ⟨PI.imp (zJ hg hm ha.ok hs) λσ H R zz=>rdI.el zz λY N0 ns e S q=>⟨Y,N0,ns,e,S,PG3.imp q S λts e1 ns1 H1 a1 S1 p1 xs r1=>by
  try dsimp only at p1
  split at p1
  .rename_i us z;obtain⟨vs,z1,z2⟩:=MK.mp z;have rr:=r1.sh S1 z1;unfold hU at z2;split at z2
   .split at z2
    .rename_i hb;cases z2;obtain⟨x,rfl,r⟩:=dO rr;obtain rfl:=r.int;exact⟨_,rfl,hb.lo,hb.hi,p1.ret S1 _ (ItS.rng _ _) λ_ z=>nomatch z⟩
    .cases z2
   .cases z2
  .exact p1.elim⟩⟩
def ye(hg:Gl X "range")(hm:mg "range"=none)(ha:DA K mg X ES [a,b] A)(hk:X.mg=mg:=by rfl)(hs:starEach [a,b] X.env=[(false,eval a X.env),(false,eval b X.env)]:=by rfl)(hs2:starEach [b] X.env=[(false,eval b X.env)]:=by rfl):DI K mg X ES tg (.Call (.Name "range" p0) [a,b] [] pos) (wu A):=by
 subst hk;exact
  ⟨PI.imp (yN hg hm ha.ok hs hs2) λσ H R zz=>rdI.el zz λY N0 ns e S q=>⟨Y,N0,ns,e,S,PG3.imp q S λts e1 ns1 H1 a1 S1 p1 xs r1=>by
  try dsimp only at p1
  split at p1
  .rename_i us z;obtain⟨vs,z1,z2⟩:=MK.mp z;have rr:=r1.sh S1 z1;unfold rJ at z2;split at z2
   .split at z2
    .rename_i hb;cases z2;obtain⟨x,y,rfl,r,r'⟩:=qJ rr;obtain rfl:=r.int;obtain rfl:=r'.int;exact⟨_,_,rfl,⟨hb.1.lo,hb.1.hi,hb.2.lo,hb.2.hi⟩,p1.ret S1 _ (ItS.rng _ _) λ_ z=>nomatch z⟩
    .cases z2
   .cases z2
  .exact p1.elim⟩⟩
def JC(hp:PassesOwn (model X.prog X.w) X.A X.env X.xe)(hc:X.calm=true)(hi:DI K mg X ES tg iter I)(hg:DG K mg X tg g)(hb:DSs K mg X ES sts x)(hs:∀x,foldedSetIterable iter X.env x=pure x:=by intro _;rfl):DS K mg X ES (.For tg iter sts [] pos) (gN I g x):=
 ⟨PS.imp (An hp hc hi.ok hg.ok hb.ok hs) λD σ H zz=>zz.el λY N0 ns e S p=>⟨Y,N0,ns,e,S,PS3.toS p S λw e1 ns1 H1 a1 S1 p1 J it hk=>by
  have p2:=PS3.unl hk (PS3.after p1 S a1);have S2:=S1.lockO w.2;refine⟨λi m σ' H'=>m=w.1.length-i/\i<=w.1.length/\∃ns' e',Stp ns1 (lockO e1 w.2) H1 ns' e' H'/\Sat K mg Y N0 ns' e' σ' H'/\PS3 K mg Y N0 ns1 (lockO e1 w.2) H1 D ES (dN g.G x.G (w.1.drop i) e'),⟨_,rfl,MV _,ns1,_,.refl,S2,p2⟩,?_⟩;rintro i m σ' H' ⟨rfl,hi,ns',e',a',S',p'⟩;by_cases hl:i=w.1.length
  .subst hl;rw[List.drop_length] at p';exact .inl ⟨(it _ _ (DC S1 hk a')).2,p' H' σ' ns' a' S'⟩
  .have hl':i<w.1.length:=by omega
   rw[NX hl'] at p';unfold dN at p';obtain⟨go,yl⟩:=(it _ _ (DC S1 hk a')).1 i _ (v_ hl');split at p'
   .rename_i e2 q;refine .inr ⟨go,λσ2 H2=>i+1<=w.1.length/\∃ns' e',Stp ns1 (lockO e1 w.2) H1 ns' e' H2/\Sat K mg Y N0 ns' e' σ2 H2/\PS3 K mg Y N0 ns1 (lockO e1 w.2) H1 D ES (dN g.G x.G (w.1.drop (i+1)) e'),λσ2 H2 n=>⟨_,by omega,rfl,n⟩,λv H2 y=>?_⟩;obtain⟨gr,r⟩:=yl v H2 y;have a2:=a'.trans S2 (.gr gr);exact⟨Y,N0,ns',e',_,e2,S'.gr gr,r,q,λσ3 ns3 a3 S3=>⟨Y,N0,ns3,e2,S3,PS3.loop p' S2 (a2.trans S2 a3) λe4 ns4 σ4 H4 a4 S4 p4=>⟨hl',ns4,e4,a4,S4,p4⟩⟩⟩
   .exact p'.elim⟩⟩
def Bj(hp:PassesOwn (model X.prog X.w) X.A X.env X.xe)(hc:DT K mg X ES c t)(hb:DSs K mg X ES sts x):DS K mg X ES (.While c sts [] pos) (xWh t x):=
 ⟨PS.imp (CU hp hc.ok hb.ok) λD σ H zz=>zz.el λY N0 ns e S p=>by
  have p:PS3 K mg Y N0 ns e H D ES (wWh t.G x.G e):=p;by_cases q:∃k,whV t.G x.G k e ≠ .stuck
  .obtain⟨k,q⟩:=q;rw[m8 q] at p;refine⟨λm σ' H'=>∃ns' e',Stp ns e H ns' e' H'/\Sat K mg Y N0 ns' e' σ' H'/\PS3 K mg Y N0 ns e H D ES (whV t.G x.G m e'),⟨k,ns,e,.refl,S,p⟩,?_⟩;rintro m σ' H' ⟨ns',e',a',S',p'⟩;cases m with
   |zero=>exact p'.elim
   |
    succ m=>
    have p2:PS3 K mg Y N0 ns e H D ES ((t.G e').toS λb e1=>if b=true then (x.G e1).loop (whV t.G x.G m) else .nx e1):=p';refine⟨Y,N0,ns',e',S',PS3.toB p2 S a' λb e1 ns1 H1 a2 S1 p1=>?_⟩;cases b with
    |true=>exact⟨λσ2 H2=>∃ns' e',Stp ns e H ns' e' H2/\Sat K mg Y N0 ns' e' σ2 H2/\PS3 K mg Y N0 ns e H D ES (whV t.G x.G m e'),λσ2 H2 n=>⟨m,Nat.lt_succ_self _,n⟩,Y,N0,ns1,e1,S1,PS3.loop p1 S a2 λe4 ns4 σ4 H4 a4 S4 p4=>⟨ns4,e4,a4,S4,p4⟩⟩
    |false=>exact p1 _ _ _ a2 S1
  .unfold wWh at p;rw[dif_neg q] at p;exact p.elim⟩
end
noncomputable def fO (o:Option Nat) (s:Sl) (e:E3):E3:=match o,s with
 |some i,.mu v=>(match e[i]? with
  |some t=>e.set i (t.re v)
  |none=>e)
 |_,_=>e
noncomputable def aS:List (Option Nat)->E3->E3->E3
 |o::sub,s::inner,e=>aS sub inner (fO o s e)
 |_,_,e=>e
def vN(hn:∀v,o=some i->s=.mu v->False):(fO o s e)[i]?=e[i]?:=by
 unfold fO;split
 .rename_i i' v;split
  .rename_i t q;by_cases z:i=i'
   .subst z;exact (hn v rfl rfl).elim
   .rw[b8 z]
  .rfl
 .rfl
theorem nL:∀{sub:Pw}{e2 e:E3}{i:Nat},(∀(j:Nat) v,sub[j]?=some (some i)->e2[j]?=some (.mu v)->False)->(aS sub e2 e)[i]?=e[i]?
 | [],_,_,_,_=>rfl
 |_::_,[],_,_,_=>rfl
 |
  o::sub,s::e2,e,i,hn=>by
  show (aS sub e2 (fO o s e))[i]?=_;rw[nL (λj v q1 q2=>hn (j+1) v (by simpa using q1) (by simpa using q2))];exact vN λv z1 z2=>hn 0 v (by rw[z1];rfl) (by rw[z2];rfl)
theorem vd:∀{sub:Pw}{e2 e:E3}{i j:Nat}{v:Val},(∀(j k:Nat) i,sub[j]?=some (some i)->sub[k]?=some (some i)->j=k)->sub[j]?=some (some i)->e2[j]?=some (.mu v)->(aS sub e2 e)[i]?=(e[i]?).map (Sl.re · v)
 | [],_,_,_,j,_,_,q,_=>by simp at q
 |_::_,[],_,_,j,_,_,_,q=>by simp at q
 |
  o::sub,s::e2,e,i,0,v,hj,q1,q2=>by
  have z1:o=some i:=by simpa using q1
  have z2:s=.mu v:=by simpa using q2
  subst z1 z2;show (aS sub e2 (fO (some i) (.mu v) e))[i]?=_;rw[nL (λk u y1 _=>by have:=hj 0 (k+1) i rfl (by simpa using y1);omega)];unfold fO;dsimp only;split
  .rename_i t q;rw[b9 (u_.mp q).1,q];rfl
  .rename_i q;rw[q];rfl
 |
  o::sub,s::e2,e,i,j+1,v,hj,q1,q2=>by
  show (aS sub e2 (fO o s e))[i]?=_;have q1':sub[j]?=some (some i):=by simpa using q1
  rw[vd (λa b c y1 y2=>by have:=hj (a+1) (b+1) c (by simpa using y1) (by simpa using y2);omega) q1' (by simpa using q2)];rw[vN λv z1 _=>by have:=hj 0 (j+1) i (by rw[z1];rfl) q1;omega]
noncomputable def aW (sub:Pw) (ns:Ns):Ns:=sub.map λo=>o.bind λi=>(ns[i]?).bind id
def cA{sub:Pw}{ns:Ns}{j:Nat}{n:Addr}(q:(aW sub ns)[j]?=some (some n)):∃i,sub[j]?=some (some i)/\ns[i]?=some (some n):=by
 unfold aW at q;rw[L_] at q;cases z:sub[j]? with
 |none=>rw[z] at q;cases q
 |
  some o=>
  rw[z] at q;cases o with
  |none=>cases q
  |
   some i=>
   refine⟨i,rfl,?_⟩;have q':(ns[i]?).bind id=some n:=J_ q;cases y:ns[i]? with
   |none=>rw[y] at q';cases q'
   |some w=>rw[y] at q';have:w=some n:=q';rw[this]
def EK{sub:Pw}{ns:Ns}{j i:Nat}{w:Option Addr}(q:sub[j]?=some (some i))(q2:ns[i]?=some w):(aW sub ns)[j]?=some w:=by unfold aW;rw[L_,q];show some ((ns[i]?).bind id)=some w;rw[q2];rfl
structure Lnk(sub:Pw)(e ei:E3):Prop where
 inj:∀(j k:Nat) (i:Nat),sub[j]?=some (some i)->sub[k]?=some (some i)->j=k
 mu:∀(j:Nat) (v:Val),ei[j]?=some (.mu v)->∃(i:Nat) (s:Sl),sub[j]?=some (some i)/\e[i]?=some s/\s.mt=true
 mt:∀(j:Nat) (s:Sl),ei[j]?=some s->s.mt=true->∃v,s=.mu v
section
variable{K:W.Frag}{mg:Pp}{X Y N0:Addr->Prop}{ns h_:Ns}{e e2 ei:E3}{σ:St}{H H2:Hp}{sub:Pw}
theorem lJ:∀(sub:Pw) (e2 e:E3),(aS sub e2 e).length=e.length
 | [],_,_=>rfl
 |_::_,[],_=>rfl
 |
  o::sub,s::e2,e=>by
  show (aS sub e2 (fO o s e)).length=_;rw[lJ];unfold fO;split
  .split
   .rw[MJ]
   .rfl
  .rfl
def Sat.back(S:Sat K mg X N0 ns e σ H)(lk:Lnk sub e ei)(a:Stp (aW sub ns) ei H h_ e2 H2)(hb:Bs K mg H2)
 (hY:∀n,Y n->(∃o,H2 n=some o)/\(X n\/H n=none)) (hXY:∀n,X n->Y n)
 (hc:∀(j:Nat) v n,e2[j]?=some (.mu v)->h_[j]?=some (some n)->∃o,H2 n=some o/\NotFz o/\Rc K mg (Oc Y ns) H2 o v):Sat K mg Y N0 ns (aS sub e2 e) σ H2/\Stp ns e H ns (aS sub e2 e) H2:=by
 have hM:∀n,Mt (aW sub ns) ei n->Mt ns e n:=λn ⟨j,s,z1,z2,z3⟩=>by obtain⟨v,rfl⟩:=lk.mt j s z2 z3;obtain⟨i,s',y1,y2,y3⟩:=lk.mu j v z2;obtain⟨i',y4,y5⟩:=cA z1;rw[y1] at y4;cases y4;exact⟨i,s',y5,y2,y3⟩
 have mv:Mov (Oc X ns) (Oc Y ns) H H2:=⟨a.le,λn o p q ht=>⟨⟨λz=>(by
  rcases (hY n z).2 with z |z
  .exact p.1 z
  .rw[q] at z;cases z),p.2⟩,a.keep n o q ht λz=>by obtain⟨j,s,z1,_⟩:=z;obtain⟨i,_,y⟩:=cA z1;exact p.2 (aQ.mpr ⟨i,y⟩)⟩⟩
 have key:∀i:Nat,(∃(j:Nat) (v:Val) (s:Sl),sub[j]?=some (some i)/\e2[j]?=some (.mu v)/\e[i]?=some s/\s.mt=true/\(aS sub e2 e)[i]?=some (s.re v)/\h_[j]?=ns[i]?)\/((∀n,ns[i]?=some (some n)->¬ Mt (aW sub ns) ei n)/\(aS sub e2 e)[i]?=e[i]?):=λi=>by
  by_cases hx:∃(j:Nat) (v:Val),sub[j]?=some (some i)/\e2[j]?=some (.mu v)
  .obtain⟨j,v,q1,q2⟩:=hx;obtain⟨u,q3,q4⟩:=a.mu j v q2;obtain⟨i',s,y1,y2,y3⟩:=lk.mu j u q3;rw[q1] at y1;cases y1;refine .inl ⟨j,v,s,q1,q2,y2,y3,by rw[vd lk.inj q1 q2,y2];rfl,?_⟩;rw[q4];have hl:i<ns.length:=by rw[S.l2];exact (u_.mp y2).1
   rw[v_ hl];exact EK q1 (v_ hl)
  .refine .inr ⟨λn q ⟨j,s,z1,z2,z3⟩=>hx ?_,nL λj v y1 y2=>hx ⟨j,v,y1,y2⟩⟩;obtain⟨v,rfl⟩:=lk.mt j s z2 z3;obtain⟨i',y4,y5⟩:=cA z1;have:i'=i:=S.inj i' i n y5 q;subst this;obtain⟨v',y6,_⟩:=a.mu' j v z2;exact⟨j,v',y4,y6⟩
 refine⟨⟨by rw[lJ];exact S.l1,by rw[lJ];exact S.l2,λx z=>S.lh x (a.dom x z),λn z=>(hY n z).1,S.inj,λi n q z=>?_,λi s q=>?_,hb⟩,⟨a.le,a.dom,λm o q ht hm=>a.keep m o q ht λz=>hm (hM m z),λ_ _ q=>.inl q,λi s q hl=>?_,λi s q hl=>?_,λi v q=>?_,λi v q=>?_⟩⟩
 .rcases (hY n z).2 with z |z
  .exact S.nx i n q z
  .obtain⟨_,_,_,_,_,_,_,q',_⟩:=S.own q;rw[q'] at z;cases z
 .rcases key i with ⟨j,v,s0,k1,k2,k3,k4,k5,k6⟩ |⟨k1,k2⟩
  .rw[k5] at q;cases q;have y:=S.sl i s0 k3;cases s0 with
   |ow u=>obtain⟨n,o,y1,y2,y3,_⟩:=y;obtain⟨o',z1,z2,z3⟩:=hc j v n k2 (by rw[k6];exact y1);exact⟨n,o',y1,y2,y3,z1,z2,z3⟩
   |mu u=>obtain⟨n,o,y1,y2,_⟩:=y;obtain⟨o',z1,z2,z3⟩:=hc j v n k2 (by rw[k6];exact y1);exact⟨n,o',y1,y2,z1,z2,z3⟩
   |_=>cases k4
  .rw[k2] at q;exact (S.sl i s q).mono mv λn o q1 q2 hf=>a.keep n o q2 hf.nt (k1 n q1)
 .rcases key i with ⟨j,v,s0,k1,k2,k3,k4,k5,k6⟩ |⟨k1,k2⟩
  .rw[k3] at q;cases q;cases s <;> first |cases hl;done |cases k4;done
  .rw[k2];exact⟨q,rfl⟩
 .rcases key i with ⟨j,v,s0,k1,k2,k3,k4,k5,k6⟩ |⟨k1,k2⟩
  .rw[k5] at q;cases q;cases s0 <;> first |cases hl;done |cases k4;done
  .rw[k2] at q;exact⟨q,rfl⟩
 .rcases key i with ⟨j,u,s0,k1,k2,k3,k4,k5,k6⟩ |⟨k1,k2⟩
  .rw[k5] at q;cases s0 with
   |mu w=>exact⟨w,k3,rfl⟩
   |ow w=>cases q
   |_=>cases k4
  .rw[k2] at q;exact⟨v,q,rfl⟩
 .rcases key i with ⟨j,u,s0,k1,k2,k3,k4,k5,k6⟩ |⟨k1,k2⟩
  .rw[k3] at q;cases q;exact⟨u,k5,rfl⟩
  .exact⟨v,by rw[k2];exact q,rfl⟩
end
noncomputable def inS:Sl->Sl
 |.ow v=>.mu v
 |.lo v=>.lm v
 |s=>s
noncomputable def bU (sub:Pw) (e:E3):E3:=sub.map λo=>match o with
 |none=>.no
 |some i=>match e[i]? with
  |some s=>inS s
  |none=>.no
noncomputable def lcV (g:MG3) (c:MT3) (F:ME3):List Val->List Val->E3->R3 (List Val)
 | [],acc,e=>.ok acc e
 |v::vs,acc,e=>if acc.length<16777216 then (match g v e with
  |none=>.stuck
  |some e1=>(c e1).bind λb e2=>if b=true then (F e2).bind λt e3=>(match cT e3 t with
   |some (e4,y)=>lcV g c F vs (acc++[y]) e4
   |none=>.stuck) else lcV g c F vs acc e2) else .stuck
noncomputable def vLC (I:MI3) (sub:Pw) (g:MG3) (c:MT3) (F:ME3) (e:E3):R3 Tm:=(I e).bind λp e1=>match lcV g c F p.1 [] (bU sub (lockO e1 p.2)) with
 |.ok ys e2=>if ys.length<=16777216 then .ok (.new (.lst ys)) (fj (aS sub e2 (lockO e1 p.2)) p.2) else .stuck
 |_=>.stuck
noncomputable def pLC (i:PIt) (sub:Pw) (hs:(sub.filterMap id).Nodup) (g:PGt) (c:PTs) (a:PEx):PEx:=⟨21,vLC i.G sub g.G c.G a.G⟩
def lT(sub:Pw):Prop:=∀(j k:Nat) (i:Nat),sub[j]?=some (some i)->sub[k]?=some (some i)->j=k
def yZ(h:(sub.filterMap id).Nodup):lT sub:=by
 induction sub with
 |nil=>intro j k i q;simp at q
 |
  cons o sub ih=>
  have n_:(sub.filterMap id).Nodup:=by
   cases o with
   |none=>simpa using h
   |some i=>rw[NG] at h;simp at h;exact h.2
  have hno:∀(i k:Nat),o=some i->sub[k]?=some (some i)->False:=λi k z q=>by subst z;rw[NG] at h;simp at h;exact h.1 (Mw q)
  intro j k i q1 q2;cases j with
  |
   zero=>
   cases k with
   |zero=>rfl
   |succ k=>exact (hno i k (by simpa using q1) (by simpa using q2)).elim
  |
   succ j=>
   cases k with
   |zero=>exact (hno i j (by simpa using q2) (by simpa using q1)).elim
   |succ k=>exact MP (· + 1) (ih n_ j k i (by simpa using q1) (by simpa using q2))
def Xin(X:Addr->Prop)(ns:Ns)(sub:Pw)(n:Addr):Prop:=X n\/(some n∈ns/\some n∉aW sub ns)
def tE{n:Addr}(q:some n∈aW sub ns):some n∈ns:=by obtain⟨j,q⟩:=aQ.mp q;obtain⟨i,_,q2⟩:=cA q;exact aQ.mpr ⟨i,q2⟩
def Dx{X:Addr->Prop}{H:Hp}:Mov (Oc X ns) (Oc (Xin X ns sub) (aW sub ns)) H H:=.of λn p=>⟨λz=>by
 rcases z with z |⟨z,_⟩
 .exact p.1 z
 .exact p.2 z,λz=>p.2 (tE z)⟩
def i9{sub:Pw}{e:E3}{j:Nat}{s:Sl}(q:(bU sub e)[j]?=some s):(sub[j]?=some none/\s=.no)\/(∃i,sub[j]?=some (some i)/\((e[i]?=none/\s=.no)\/∃t,e[i]?=some t/\s=inS t)):=by
 unfold bU at q;rw[L_] at q;cases z:sub[j]? with
 |none=>rw[z] at q;cases q
 |
  some o=>
  rw[z] at q;cases o with
  |none=>cases q;exact .inl ⟨rfl,rfl⟩
  |
   some i=>
   refine .inr ⟨i,rfl,?_⟩;have q':=J_ q;dsimp only at q';cases y:e[i]? with
   |none=>rw[y] at q';exact .inl ⟨rfl,q'.symm⟩
   |some t=>rw[y] at q';exact .inr ⟨t,rfl,q'.symm⟩
section
variable{K:W.Frag}{mg:Pp}{X N0:Addr->Prop}{ns:Ns}{e:E3}{σ:St}{H:Hp}{sub:Pw}
def Sat.inner(S:Sat K mg X N0 ns e σ H)(hs:lT sub):Sat K mg (Xin X ns sub) N0 (aW sub ns) (bU sub e) (eU sub σ) H:=by
 refine⟨by unfold eU bU;rw[p_,p_],by unfold aW bU;rw[p_,p_],S.lh,λn z=>?_,λj k n q1 q2=>?_,λj n q z=>?_,λj s q=>?_,S.bs⟩
 .rcases z with z |⟨z,_⟩
  .exact S.xl n z
  .obtain⟨i,z⟩:=aQ.mp z;obtain⟨_,_,o,_,_,_,_,q',_⟩:=S.own z;exact⟨o,q'⟩
 .obtain⟨i,y1,y2⟩:=cA q1;obtain⟨i',y3,y4⟩:=cA q2
  have:=S.inj i i' n y2 y4
  subst this;exact hs j k i y1 y3
 .rcases z with z |⟨_,z⟩
  .obtain⟨i,y1,y2⟩:=cA q;exact S.nx i n y2 z
  .exact z (aQ.mpr ⟨j,q⟩)
 .have hj:∀{o},sub[j]?=some o->(aW sub ns)[j]?=some (o.bind λi=>(ns[i]?).bind id)/\(eU sub σ)[j]?=some (o.bind λi=>(σ[i]?).bind id):=λ{o} z=>by unfold aW eU;rw[L_,L_,z];exact⟨rfl,rfl⟩
  rcases i9 q with ⟨z,rfl⟩ |⟨i,z,⟨y,rfl⟩ |⟨t,y,rfl⟩⟩
  .rw[(hj z).1];rfl
  .rw[(hj z).1];show some ((ns[i]?).bind id)=some none;have:ns[i]?=none:=by rw[OB] at y ⊢;rw[S.l2];exact y
   rw[this];rfl
  .have k:=(S.sl i t y).mono (Dx (sub:=sub) (H:=H)) λ_ _ _ q _=>q;rw[(hj z).1,(hj z).2];show SlR K mg _ N0 (some ((ns[i]?).bind id)) (some ((σ[i]?).bind id)) H (inS t);have w1:∀x,ns[i]?=some x->some ((ns[i]?).bind id)=some x:=λx q=>by rw[q];rfl
   have w2:∀x,σ[i]?=some x->some ((σ[i]?).bind id)=some x:=λx q=>by rw[q];rfl
   cases t with
   |no=>rw[w1 _ k];rfl
   |sh v=>obtain⟨k1,x,k2,k3⟩:=k;rw[w1 _ k1,w2 _ k2];exact⟨rfl,x,rfl,k3⟩
   |ow v=>obtain⟨m,o,k1,k2,_,k3⟩:=k;rw[w1 _ k1,w2 _ k2];exact⟨m,o,rfl,rfl,k3⟩
   |lo v=>obtain⟨m,o,k1,k2,_,k3⟩:=k;rw[w1 _ k1,w2 _ k2];exact⟨m,o,rfl,rfl,k3⟩
   |mu v=>obtain⟨m,o,k1,k2,k3⟩:=k;rw[w1 _ k1,w2 _ k2];exact⟨m,o,rfl,rfl,k3⟩
   |lm v=>obtain⟨m,o,k1,k2,k3⟩:=k;rw[w1 _ k1,w2 _ k2];exact⟨m,o,rfl,rfl,k3⟩
end
def v7(hs:lT sub):Lnk sub e (bU sub e):=by
 refine⟨hs,λj v q=>?_,λj s q hm=>?_⟩
 .rcases i9 q with ⟨_,z⟩ |⟨i,z,⟨_,y⟩ |⟨t,y,y2⟩⟩
  .cases z
  .cases y
  .refine⟨i,t,z,y,?_⟩;cases t <;> first |rfl |cases y2
 .rcases i9 q with ⟨_,z⟩ |⟨i,z,⟨_,y⟩ |⟨t,y,y2⟩⟩
  .subst z;cases hm
  .subst y;cases hm
  .subst y2;cases t with
   |ow v=>exact⟨v,rfl⟩
   |mu v=>exact⟨v,rfl⟩
   |_=>cases hm
structure DTs(K:W.Frag)(mg:Pp)(X:Cx)(ES:St->XK)(es:List Expr)(F:PTs):Prop where
 ok:L2.PTs X es (rdT K mg ES F.G)
def Mov.trans{P P1 P2:Addr->Prop}{H H1 H2:Hp}(a:Mov P P1 H H1)(b:Mov P1 P2 H1 H2):Mov P P2 H H2:=⟨a.le.trans b.le,λn o p q ht=>by obtain⟨p1,q1⟩:=a.cl n o p q ht;exact b.cl n o p1 q1 ht⟩
section
variable{K:W.Frag}{mg:Pp}{X:Cx}{ES:St->XK}{a b o iter tg elt:Expr}{ifs:List Expr}{I:PIt}{g:PGt}{p:PEx}{t:PTs}{pos:Pos}{sub:Pw}
def bH:DTs K mg X ES [] qY:=⟨λpins s σ H Q i ⟨Y,N0,ns,e,S,p⟩=>vQ pins s σ H Q i (PG3.ret p S)⟩
def D2{hsb:(sub.filterMap id).Nodup}(σ:St)(H:Hp)(Q:VK):rdE K mg ES (pLC I sub hsb g t p).G σ H Q->lW (rdI K mg ES I.G) sub (rdG K mg g.G) (rdT K mg (λ_=>E0) t.G) (rdE K mg (λ_=>E0) p.G) σ H Q:=λzz=>zz.el λY N0 L ns e S hl pp=>
 ⟨Y,
  N0,ns,e,S,PG3.imp pp S λw e1 ns1 H1 a1 S1 p1 J it hk=>by
  have hs':=yZ hsb;have S2:=S1.lockO w.2;have S3:=S2.inner hs';try dsimp only at p1
  split at p1
  .rename_i ys
    e2 q
   split at p1
   .rename_i hy;have kp:∀{ns' e' H'},Stp (aW sub ns1) (bU sub (lockO e1 w.2)) H1 ns' e' H'->Kp Y ns1 w.2 H1 (Oc (Xin Y ns1 sub) ns') H':=λ{ns' e' H'} a=>⟨Dx.trans a.mov,λk n ob hk1 hk2 qm ht=>a.keep n ob qm ht λ⟨j,s,z1,z2,z3⟩=>by
     obtain⟨i,y1,y2⟩:=cA z1
     have:=S1.inj i k n y2 hk2
     subst this;obtain⟨s',w1,w2⟩:=hk i hk1;have hl:(lockO e1 w.2)[i]?=some (g6 s'):=by rw[hk1];exact oz w1
     rcases i9 z2 with ⟨z,_⟩ |⟨i',z,y⟩
     .rw[y1] at z;cases z
     .rw[y1] at z;cases z;rcases y with ⟨y,_⟩ |⟨t,y,rfl⟩
      .rw[hl] at y;cases y
      .rw[hl] at y;cases y;cases s' <;> first |cases w2;done |cases z3;done⟩
    refine⟨λi m acc σ' H'=>m=w.1.length-i/\i<=w.1.length/\∃ns' e' av,Stp (aW sub ns1) (bU sub (lockO e1 w.2)) H1 ns' e' H'/\Sat K mg (Xin Y ns1 sub) N0 ns' e' σ' H'/\Rds K mg (Oc (Xin Y ns1 sub) ns') H' acc av/\lcV g.G t.G p.G (w.1.drop i) av e'=.ok ys e2,⟨_,rfl,MV _,_,_,[],.refl,S3,.nil,q⟩,?_⟩;rintro i m acc σ' H' ⟨rfl,hi,ns',e',av,a',S',ra,q'⟩;by_cases hlt:i<w.1.length
    .rw[NX hlt] at q';unfold lcV at q';split at q'
     .rename_i hla;obtain⟨go,yl⟩:=(it _ _ (kp a')).1 i _ (v_ hlt);refine .inr ⟨go,by rw[ra.len];exact hla,λacc' σ2 H2=>i+1<=w.1.length/\∃ns' e' av,Stp (aW sub ns1) (bU sub (lockO e1 w.2)) H1 ns' e' H2/\Sat K mg (Xin Y ns1 sub) N0 ns' e' σ2 H2/\Rds K mg (Oc (Xin Y ns1 sub) ns') H2 acc' av/\lcV g.G t.G p.G (w.1.drop (i+1)) av e'=.ok ys e2,λacc' σ2 H2 n=>⟨_,by omega,rfl,n⟩,λx H2 y=>?_⟩;obtain⟨gr,rx⟩:=yl x H2 y;have a2:=a'.trans S3 (.gr gr);have S4:=S'.gr gr;have ra2:=ra.mono gr.mov;split at q'
      .cases q'
      .rename_i e3 qg;refine⟨_,N0,ns',e',_,e3,S4,rx,qg,λσ3 ns3 a3 S5=>⟨_,N0,ns3,e3,S5,?_⟩⟩;have a4:=a2.trans S3 a3;have ra3:=ra2.mono a3.mov;cases qc:t.G e3 with
       |stuck=>rw[qc] at q';cases q'
       |exc _ _=>rw[qc] at q';cases q'
       |
        ok b e4=>
        rw[qc] at q';intro H4 ns4 a5 S6;have a6:=a4.trans S3 a5;have ra4:=ra3.mono a5.mov;show if b=true then _ else _
        have q':(if b=true then (p.G e4).bind λtt e3=>(match cT e3 tt with
         |some (e4,y)=>lcV g.G t.G p.G (w.1.drop (i+1)) (av++[y]) e4
         |none=>.stuck) else lcV g.G t.G p.G (w.1.drop (i+1)) av e4)=.ok ys e2:=q'
        by_cases hb:b=true
        .rw[if_pos hb] at q' ⊢;refine⟨_,N0,λ_=>True,ns4,e4,S6,λ_ _=>trivial,?_⟩;cases qp:p.G e4 with
         |stuck=>rw[qp] at q';cases q'
         |exc _ _=>rw[qp] at q';cases q'
         |
          ok tt e5=>
          rw[qp] at q';intro H5 ns5 a7 S7 v rv;have q':(match cT e5 tt with
           |some (e4,y)=>lcV g.G t.G p.G (w.1.drop (i+1)) (av++[y]) e4
           |none=>.stuck)=.ok ys e2:=q'
          split at q'
          .rename_i e6 u qd;obtain⟨ns6,S8,a8,r8⟩:=fW S7 rv qd;exact⟨hlt,ns6,e6,_,(a6.trans S3 a7).trans S3 a8,S8,((ra4.mono a7.mov).mono a8.mov).append (.cons r8 .nil),q'⟩
          .cases q'
        .rw[if_neg hb] at q' ⊢;exact⟨hlt,ns4,e4,av,a6,S6,ra4,q'⟩
     .cases q'
    .have hi2:i=w.1.length:=by omega
     subst hi2;rw[List.drop_length] at q';cases q';have k3:∀n,Oc (Xin Y ns1 sub) ns' n->Oc Y ns1 n:=λn z=>⟨λy=>z.1 (.inl y),λy=>by
      by_cases w:some n∈aW sub ns1
      .obtain⟨j,w⟩:=aQ.mp w;obtain⟨s,v,o,b1,b2,_⟩:=S3.own w;rcases b2 with b2 |b2
       .obtain⟨v',rfl⟩:=(v7 (e:=lockO e1 _) hs').mt j s b1 b2;obtain⟨u,c1,c2⟩:=a'.mu' j v' b1;exact z.2 (aQ.mpr ⟨j,by rw[c2];exact w⟩)
       .obtain⟨c1,c2⟩:=a'.lk j s b1 b2;exact z.2 (aQ.mpr ⟨j,by rw[c2];exact w⟩)
      .exact z.1 (.inr ⟨y,w⟩)⟩
     obtain⟨S5,a5⟩:=S2.back (Y:=Y) (v7 hs') a' S'.bs (λn z=>by
      obtain⟨ob,z'⟩:=S2.xl n z;exact⟨by
       cases qh:H' n with
       |none=>rw[a'.dom n qh] at z';cases z'
       |some o'=>exact⟨o',rfl⟩,.inl z⟩) (λ_ z=>z) λj v n q1 q2=>by
      obtain⟨s,u,o,b1,b2,b3,b4,b5,b6,b7⟩:=S'.own q2;rw[q1] at b1;cases b1;cases b3;exact⟨o,b5,b6,b7.mono (.of k3)⟩
     have j_:∀e'',Sat K mg Y N0 ns1 e'' σ H'->Stp ns1 e1 H1 ns1 e'' H'->PG3 K mg Y N0 ns1 e1 σ H1 (ES σ) (KE K mg Y N0 L σ Q) (.ok (.new (.lst ys)) e'')->∀D,H' D=none->Q (.ref D) (upd H' D (.lst acc)):=λe'' S6 a6 p6 D hD=>
      PG3.bv (b:=.new (.lst ys)) (p6.after S1 a6) S6 (λa z=>hl a (a1.dom a (a6.dom a z))) H' D _ .refl hD trivial (.lst (ra.mono (.of k3)))
     refine .inl ⟨(it _ _ (kp a')).2,by rw[ra.len];exact hy,?_⟩;cases hp:w.2 with
     |none=>rw[hp] at S5 a5 p1;exact j_ _ S5 a5 p1
     |some k=>rw[hp] at S5 a5 p1;obtain⟨s,w1,w2⟩:=hk k hp;exact j_ _ (S5.unlock k) (a5.unlock w1 w2) p1
   .exact p1.elim
  .exact p1.elim⟩
def gn{scope:Scope}(M:List Str)(kn:List (Str×NameKind))(N:List Str)(sub:Pw){hsb:(sub.filterMap id).Nodup}(hi:DI K mg X ES tg iter I)(hg:N.Nodup->∀cl C s₂ H fp,DG K mg (aZ X N scope cl C s₂ H fp) tg g)(ht:N.Nodup->∀cl C s₂ H fp,DTs K mg (aZ X N scope cl C s₂ H fp) (λ_=>E0) ifs t)(he:N.Nodup->∀cl C s₂ H fp,DE K mg (aZ X N scope cl C s₂ H fp) (λ_=>E0) elt p)(hnd:N.Nodup:=by decide)(hc:X.calm=true:=by rfl)(hM:X.N=M:=by rfl)(hkn:X.env.scope.names=kn:=by rfl)(n_:mP M scope.names sub N=true:=by decide)(hk:scope.kind=.function:=by rfl)(hnc:∀x∈scope.names,x.2 ≠ .cell:=by decide)(d_:∀x∈scope.names,x.2=.local->scope.names.lookup x.1=some .local:=by decide)(hfr:rC kn scope.names=true:=by decide)(hsl:sub.length=N.length:=by rfl)(hs:∀x,foldedSetIterable iter X.env x=pure x:=by intro _;rfl):DE K mg X ES (.ListComp elt [⟨tg,iter,ifs,0⟩] scope pos) (pLC I sub hsb g t p):=
 ⟨PE.imp (Hw hc hi.ok hk hnc d_ (by subst hkn;exact nE hfr) hsl (by subst hM;exact lA n_) (λcl C s H f=>(hg hnd cl C s H f).ok) (λcl C s H f=>(ht hnd cl C s H f).ok) (λcl C s H f=>(he hnd cl C s H f).ok) hs) D2⟩
def Cj{ow:Bool}{px spos:Pos}{iT:Nat}{xT:Str}{scope:Scope}(hN:X.N.Nodup)(M:List Str)(kn:List (Str×NameKind))(N:List Str)(sub:Pw){hsb:(sub.filterMap id).Nodup}(hi:DI K mg X ES tg iter I)(hg:N.Nodup->∀cl C s₂ H fp,DG K mg (aZ X N scope cl C s₂ H fp) tg g)(ht:N.Nodup->∀cl C s₂ H fp,DTs K mg (aZ X N scope cl C s₂ H fp) (λ_=>E0) ifs t)(he:N.Nodup->∀cl C s₂ H fp,DE K mg (aZ X N scope cl C s₂ H fp) (λ_=>E0) elt p)(hsw:swapsWith (.ListComp elt [⟨tg,iter,ifs,0⟩] scope pos) (some (.Name xT px)) spos.line X.env=pure true:=by rfl)(hnd:N.Nodup:=by decide)(hc:X.calm=true:=by rfl)(hix:X.N[iT]?=some xT:=by rfl)(hxl:Loc X.env.scope xT:=by first |exact Or.inl rfl |exact Or.inr rfl)(hM:X.N=M:=by rfl)(hkn:X.env.scope.names=kn:=by rfl)(n_:mP M scope.names sub N=true:=by decide)(hk:scope.kind=.function:=by rfl)(hnc:∀x∈scope.names,x.2 ≠ .cell:=by decide)(d_:∀x∈scope.names,x.2=.local->scope.names.lookup x.1=some .local:=by decide)(hfr:rC kn scope.names=true:=by decide)(hsl:sub.length=N.length:=by rfl)(hs:∀x,foldedSetIterable iter X.env x=pure x:=by intro _;rfl)(hf:X.fn xT=true\/X.env.scope.names.lookup xT=some .local:=by first |exact .inl rfl |exact .inr rfl |assumption):DS K mg X ES (.Assign [.Name xT px] (.ListComp elt [⟨tg,iter,ifs,0⟩] scope pos) spos) (ax ow iT (pLC I sub hsb g t p)):=
 ⟨PS.imp (ze hc hN hix hxl hi.ok hk hnc d_ (by subst hkn;exact nE hfr) hsl (by subst hM;exact lA n_) (λcl C s H f=>(hg hnd cl C s H f).ok) (λcl C s H f=>(ht hnd cl C s H f).ok) (λcl C s H f=>(he hnd cl C s H f).ok) hsw hs hf) λD σ H q=>D2 σ H _ (yA D σ H q)⟩
end
inductive R3F where
 |ok (r:Rt) (mv:List Val) |exc (c:Str) (mv:List Val) |stuck
abbrev Fn3:=List Val->R3F
noncomputable def sl1 (b:Bool) (v:Val):Sl:=if b=true then .mu v else .sh v
noncomputable def sls (ms:List Bool) (vs:List Val):E3:=List.zipWith sl1 ms vs
noncomputable def aC:List Bool->List Val->E3
 |true::ms,v::vs=>.mu v::aC ms vs
 |true::ms,[]=>.no::aC ms []
 |false::ms,vs=>.no::aC ms vs
 | [],_=>[]
noncomputable def muV:List Bool->E3->Option (List Val)
 |true::ms,.mu v::e=>(muV ms e).map (v :: ·)
 |true::_,_=>none
 |false::ms,_::e=>muV ms e
 |false::_,[]=>none
 | [],_=>some []
noncomputable def fnV (ms:List Bool) (N:Nat) (F:MS3):Fn3:=λvs=>if vs.length=ms.length then (match F (sls ms vs++List.replicate (N-vs.length) .no) with
 |.nx e=>(match muV ms e with |some mv=>.ok (.val .non) mv |none=>.stuck)
 |.rt r e=>(match muV ms e with |some mv=>.ok r mv |none=>.stuck)
 |.exc c e=>(match muV ms e with |some mv=>.exc c mv |none=>.stuck)
 |_=>.stuck) else .stuck
def fh{ms:List Bool}{vs:List Val}{i:Nat}{s:Sl}(q:(sls ms vs)[i]?=some s):∃b v,ms[i]?=some b/\vs[i]?=some v/\s=sl1 b v:=by
 unfold sls at q;rw[NQ] at q;cases h1:ms[i]? with
 |none=>rw[h1] at q;cases q
 |
  some b=>
  cases h2:vs[i]? with
  |none=>rw[h1,h2] at q;cases q
  |some v=>rw[h1,h2] at q;cases q;exact⟨b,v,rfl,rfl,rfl⟩
theorem gS:∀{ms:List Bool}{e:E3}{mv:List Val}{i:Nat}{s:Sl},muV ms e=some mv->(aC ms mv)[i]?=some s->(ms[i]?=some false/\s=.no)\/(ms[i]?=some true/\∃v,e[i]?=some (.mu v)/\s=.mu v)
 | [],_,_,_,_,_,q=>by unfold aC at q;simp at q
 |
  true::ms,.mu v::e,mv,i,s,q,q2=>by
  obtain⟨mv',z1,z2⟩:=Mp.mp (show (muV ms e).map (v :: ·)=some mv from q);subst z2;cases i with
  |zero=>
   right;have:Sl.mu v=s:=by simpa [aC] using q2
   subst this;exact⟨rfl,v,rfl,rfl⟩
  |
   succ i=>
   have:=gS (i:=i) (s:=s) z1 (by simpa [aC] using q2)
   simpa using this
 |true::ms,[],mv,i,s,q,q2=>by cases q
 |true::ms,.no::e,mv,i,s,q,q2=>by cases q
 |true::ms,.sh v::e,mv,i,s,q,q2=>by cases q
 |true::ms,.ow v::e,mv,i,s,q,q2=>by cases q
 |true::ms,.lo v::e,mv,i,s,q,q2=>by cases q
 |true::ms,.lm v::e,mv,i,s,q,q2=>by cases q
 |false::ms,[],mv,i,s,q,q2=>by cases q
 |
  false::ms,t::e,mv,i,s,q,q2=>by
  cases i with
  |zero=>
   left;have:Sl.no=s:=by simpa [aC] using q2
   exact⟨rfl,this.symm⟩
  |
   succ i=>
   have:=gS (i:=i) (s:=s) (show muV ms e=some mv from q) (by simpa [aC] using q2)
   simpa using this
theorem nJ:∀{ms:List Bool}{e:E3}{mv:List Val}{i:Nat},muV ms e=some mv->ms[i]?=some true->∃v,e[i]?=some (.mu v)/\(aC ms mv)[i]?=some (.mu v)
 | [],_,_,i,_,q=>by simp at q
 |
  true::ms,.mu v::e,mv,i,q,q2=>by
  obtain⟨mv',z1,z2⟩:=Mp.mp (show (muV ms e).map (v :: ·)=some mv from q);subst z2;cases i with
  |zero=>exact⟨v,rfl,rfl⟩
  |succ i=>obtain⟨u,y1,y2⟩:=nJ (i:=i) z1 (by simpa using q2);exact⟨u,by simpa using y1,by simpa [aC] using y2⟩
 |true::ms,[],mv,i,q,q2=>by cases q
 |true::ms,.no::e,mv,i,q,q2=>by cases q
 |true::ms,.sh v::e,mv,i,q,q2=>by cases q
 |true::ms,.ow v::e,mv,i,q,q2=>by cases q
 |true::ms,.lo v::e,mv,i,q,q2=>by cases q
 |true::ms,.lm v::e,mv,i,q,q2=>by cases q
 |false::ms,[],mv,i,q,q2=>by cases q
 |
  false::ms,t::e,mv,i,q,q2=>by
  cases i with
  |zero=>simp at q2
  |succ i=>obtain⟨u,y1,y2⟩:=nJ (i:=i) (show muV ms e=some mv from q) (by simpa using q2);exact⟨u,by simpa using y1,by simpa [aC] using y2⟩
theorem gR:∀{ms:List Bool}{mv:List Val},(aC ms mv).length=ms.length
 | [],_=>rfl
 |true::ms,v::mv=>by show (aC ms mv).length+1=ms.length+1;rw[gR]
 |true::ms,[]=>by show (aC ms []).length+1=ms.length+1;rw[gR]
 |false::ms,mv=>by show (aC ms mv).length+1=ms.length+1;rw[gR]
noncomputable def ik (i:Nat):List Tm->Bool
 |.bor j::ts=>(i==j) || ik i ts
 |_::ts=>ik i ts
 | []=>false
noncomputable def oH (i:Nat):List Bool->List Tm->Bool
 |true::ms,.bor j::ts=>(i==j) || oH i ms ts
 |_::ms,_::ts=>oH i ms ts
 |_,_=>false
noncomputable def okA (e:E3):List Bool->List Tm->Bool
 |true::ms,.bor i::ts=>((e[i]?).bind Sl.mv).isSome && !(ik i ts)&&okA e ms ts
 |true::_,_::_=>false
 |false::ms,.bor i::ts=>!(oH i ms ts)&&okA e ms ts
 |false::ms,_::ts=>okA e ms ts
 | [],[]=>true
 |_,_=>false
noncomputable def nV (b:Bool) (t:Tm):Option Nat:=match b,t with
 |true,.bor i=>some i
 |_,_=>none
noncomputable def aL (ms:List Bool) (ts:List Tm):List (Option Nat):=List.zipWith nV ms ts
noncomputable def aP (e:E3):List Bool->List Tm->List Nat
 |false::ms,.bor i::ts=>(match e[i]? with
  |some (.sh _)=>aP e ms ts
  |_=>i::aP e ms ts)
 |_::ms,_::ts=>aP e ms ts
 |_,_=>[]
mutual
def flatV:Val->Bool
 |.tup xs=>cM xs
 |.lst _=>false
 |.kl _=>false
 |.dct _=>false
 |.set _=>false
 |_=>true
def cM:List Val->Bool
 | []=>true
 |v::vs=>flatV v&&cM vs
end
noncomputable def mz:List (Key×Val)->Bool
 | []=>true
 |(_,v)::vs=>flatV v&&mz vs
noncomputable def cD:Val->Bool
 |.lst xs=>cM xs
 |.dct xs=>mz xs
 |.set _=>true
 |_=>false
noncomputable def ka:Rt->Bool
 |.val v=>flatV v
 |.new v=>cD v
 |.par _=>true
 |.pr v u=>flatV v&&cD u
noncomputable def n0 (e:E3):List Nat->Option E3
 | []=>some e
 |i::is=>match cT e (.bor i) with
  |some (e1,_)=>n0 e1 is
  |none=>none
noncomputable def Rt.tm (ts:List Tm):Rt->Tm
 |.val v=>.val v
 |.new v=>.new v
 |.par i=>(ts[i]?).getD (.val .non)
 |.pr v u=>.val (.tup [v,u])
noncomputable def Du (ms:List Bool) (G:Fn3) (A:MA3) (e:E3):R3 Tm:=(A e).bind λts e1=>match rss e1 ts with
 |none=>.stuck
 |some vs=>if okA e1 ms ts=true then (match G vs with
  |.stuck=>.stuck
  |.ok r mv=>if (aP e1 ms ts).isEmpty || (ka r&&mv.all cD) then .ok (r.tm ts) (aS (aL ms ts) (aC ms mv) e1) else (match n0 e1 (aP e1 ms ts) with
   |some e2=>.ok (r.tm ts) (aS (aL ms ts) (aC ms mv) e2)
   |none=>.stuck)
  |.exc c mv=>if (aP e1 ms ts).isEmpty || mv.all cD then .exc c (aS (aL ms ts) (aC ms mv) e1) else .stuck) else .stuck
section
variable{K:W.Frag}{mg:Pp}{P P':Addr->Prop}{H H':Hp}
def Rd.flat(l:LeH H H')(f:flatV v=true)(r:Rd K mg P H d v):Rd K mg P' H' d v:=
 @Rd.rec K mg P H (λd v _=>flatV v=true->Rd K mg P' H' d v) (λo v _=>flatV v=true->Rd K mg P' H' .non v) (λds vs _=>cM vs=true->Rds K mg P' H' ds vs) (λws us _=>True) (λ_=>.non) (λb _=>.bl b) (λi _=>.int i) (λx _=>.str x) (λn _=>.ty n) (λm _=>.glb m) (λm e _=>.exc m (l.ext _ _ e)) (λh _ ih f=>.tup (l.sqT h) (ih f)) (λ_ _ _ f=>absurd f y_) (λ_ _ r _ f=>by cases r <;> exact absurd f y_) (λ_ _ f=>absurd f y_) (λ_ _ f=>absurd f y_) (λ_ _ f=>absurd f y_) (λ_ _ f=>absurd f y_) (λ_=>.nil) (λ_ _ a b f=>.cons (a (w_ .. ▸ f).1) (b (w_ .. ▸ f).2)) trivial (λ_ _ _ _=>trivial) d v r f
def Rds.flat(l:LeH H H')(f:cM v=true)(r:Rds K mg P H ds v):Rds K mg P' H' ds v:=
 r.ind (M:=λds vs=>cM vs=true->Rds K mg P' H' ds vs) (λ_=>.nil) (λr _ ih f=>by rw[cM,w_] at f;exact .cons (Rd.flat l f.1 r) (ih f.2)) f
def Rk.flat(l:LeH H H')(f:mz v=true)(r:Rk K mg P H ds v):Rk K mg P' H' ds v:=
 r.ind (M:=λds vs=>mz vs=true->Rk K mg P' H' ds vs) (λ_=>.nil) (λr _ ih f=>by rw[mz,w_] at f;exact .cons (Rd.flat l f.1 r) (ih f.2)) f
def Rc.flat(l:LeH H H')(f:cD v=true)(r:Rc K mg P H o v):Rc K mg P' H' o v:=by
 cases r with
 |lst r=>exact .lst (Rds.flat l (by simpa [cD] using f) r)
 |fz r=>simp [cD] at f
 |dct r=>exact .dct (Rk.flat l (by simpa [cD] using f) r)
 |set xs nd=>exact .set xs nd
end
structure PFn where
 ms:List Bool
 G:Fn3
def nn(H:Hp)(a:Addr):Prop:=H a=none
def sp3(K:W.Frag)(mg:Pp)(f:PFn):Sp:=λvs H Q E=>∃Y ps us,us.length=f.ms.length/\Sat K mg Y (nn H) ps (sls f.ms us) (vs.map some) H/\match f.G us with
 |.ok r mv=>∀x H',Stp ps (sls f.ms us) H ps (aC f.ms mv) H'->RtR K mg Y (nn H) ps (aC f.ms mv) (vs.map some) H' x r->Q x H'
 |.exc c mv=>∀C H',Stp ps (sls f.ms us) H ps (aC f.ms mv) H'->Sat K mg Y (nn H) ps (aC f.ms mv) (vs.map some) H'->mg c=some (.ref C)->E (.ref C) none H'
 |.stuck=>False
noncomputable def fnP (ms:List Bool) (N:Nat) (c:PSt):PFn:=⟨ms,fnV ms N c.G⟩
section
variable{K:W.Frag}{mg:Pp}{X N0:Addr->Prop}{ps:Ns}{e:E3}{H H':Hp}{ms:List Bool}{us:List Val}{vs:List V}{k:Nat}
def EV(S:Sat K mg X N0 ps e σ H):Sat K mg X N0 (ps++List.replicate k none) (e++List.replicate k .no) (σ++List.replicate k none) H:=by
 have gns:∀{i n:Nat},(ps++List.replicate k (none:Option Addr))[i]?=some (some n)->ps[i]?=some (some n):=λ{i n} q=>by
  rw[O1] at q;split at q
  .exact q
  .rw[Nk] at q;split at q <;> cases q
 refine⟨?_,?_,S.lh,S.xl,λi j n q1 q2=>S.inj i j n (gns q1) (gns q2),λi n q=>S.nx i n (gns q),λi s q=>?_,S.bs⟩
 .rw[Em,Em,NR,NR,S.l1]
 .rw[Em,Em,NR,NR,S.l2]
 .rw[O1] at q;split at q
  .rename_i hi;rw[Mz (by rw[S.l2];exact hi),Mz (by rw[S.l1];exact hi)];exact (S.sl i s q).mono (.of λn p=>⟨p.1,λz=>p.2 (by obtain⟨j,z⟩:=aQ.mp z;exact aQ.mpr ⟨j,gns z⟩)⟩) λ_ _ _ q _=>q
  .rename_i hi;rw[Nk] at q;split at q
   .cases q;rw[Nn (by rw[S.l2];exact Nat.le_of_not_lt hi),Nk,if_pos (by rw[S.l2];assumption)];rfl
   .cases q
def iO{Y:Addr->Prop}(hl:us.length=ms.length)(S:Sat K mg X N0 ps (sls ms us) σ H)(hXY:∀n,X n->Y n)(a:Stp (ps++List.replicate k none) (sls ms us++List.replicate k .no) H ns' e' H')(S2:Sat K mg Y N0 ns' e' σ' H')(qm:muV ms e'=some mv):
 Stp ps (sls ms us) H ps (aC ms mv) H'/\Sat K mg Y N0 ps (aC ms mv) σ H'/\∀n,Oc Y ns' n->Oc Y ps n:=by
 have lS:(sls ms us).length=ms.length:=by unfold sls;rw[NH];omega
 have ltS:∀{i:Nat},i<ms.length->i<(sls ms us).length:=λh=>by omega
 have ltP:∀{i:Nat},i<(sls ms us).length->i<ps.length:=λh=>S.l2.symm ▸ h;have kmu:∀{i:Nat},ms[i]?=some true->∃v u n o,e'[i]?=some (.mu v)/\(aC ms mv)[i]?=some (.mu v)/\(sls ms us)[i]?=some (.mu u)/\ns'[i]?=ps[i]?/\ps[i]?=some (some n)/\σ[i]?=some (some (.ref n))/\H' n=some o/\NotFz o/\Rc K mg (Oc Y ns') H' o v:=by intro i hi;obtain⟨v,y1,y2⟩:=nJ qm hi;have hil:i<ms.length:=(u_.mp hi).1;obtain⟨u,y3,y4⟩:=a.mu i v y1;rw[Mz (ltS hil)] at y3;rw[Mz (ltP (ltS hil))] at y4;obtain⟨n,o,z1,z2,_⟩:=S.sl i _ y3;obtain⟨n',o',w1,w2,w3,w4,w5⟩:=S2.sl i _ y1;rw[y4,z1] at w1;cases w1;exact⟨v,u,n,o',y1,y2,y3,y4,z1,z2,w3,w4,w5⟩
 have kown:∀{i n:Nat},ps[i]?=some (some n)->ms[i]?=some true:=λ{i n} q=>by
  obtain⟨s,v,o,z1,z2,_⟩:=S.own q;obtain⟨b,u,y1,_,y2⟩:=fh z1;cases b with
  |true=>exact y1
  |false=>subst y2;rcases z2 with z2 |z2 <;> cases z2
 have koc:∀n,Oc Y ns' n->Oc Y ps n:=λn z=>⟨z.1,λy=>by obtain⟨i,y⟩:=aQ.mp y;obtain⟨v,u,n',o,_,_,_,k1,k2,_⟩:=kmu (kown y);exact z.2 (aQ.mpr ⟨i,by rw[k1];exact y⟩)⟩;refine⟨⟨a.le,a.dom,λm o q ht hm=>a.keep m o q ht λ⟨i,s,z1,z2,z3⟩=>hm ?_,λ_ _ q=>.inl q,λi s q hl'=>?_,λi s q hl'=>?_,λi v q=>?_,λi v q=>?_⟩,⟨?_,?_,λn z=>S.lh n (a.dom n z),S2.xl,S.inj,λi n q z=>?_,λi s q=>?_,S2.bs⟩,koc⟩
 .rw[O1] at z1;split at z1
  .rename_i hi;rw[Mz (by rw[<- S.l2];exact hi)] at z2;exact⟨i,s,z1,z2,z3⟩
  .rw[Nk] at z1;split at z1 <;> cases z1
 .obtain⟨b,u,_,_,y⟩:=fh q;subst y;cases b <;> cases hl'
 .rcases gS qm q with ⟨_,z⟩ |⟨_,v,_,z⟩ <;> subst z <;> cases hl'
 .rcases gS qm q with ⟨_,z⟩ |⟨z,_⟩
  .cases z
  .obtain⟨v',u,n,o,_,_,k1,_⟩:=kmu z;exact⟨u,k1,rfl⟩
 .obtain⟨b,u,y1,_,y2⟩:=fh q;cases b with
  |false=>cases y2
  |true=>obtain⟨v',u,n,o,_,k0,k1,_⟩:=kmu y1;exact⟨v',k0,rfl⟩
 .rw[S.l1,gR];exact lS
 .rw[S.l2,gR];exact lS
 .obtain⟨v,u,n',o,_,_,_,k1,k2,_⟩:=kmu (kown q);exact S2.nx i n (by rw[k1];exact q) z
 .rcases gS qm q with ⟨z,rfl⟩ |⟨z,v,z2,rfl⟩
  .have hil:i<ms.length:=(u_.mp z).1;have hi:i<(sls ms us).length:=ltS hil;obtain⟨b,u,y1,_,y2⟩:=fh (v_ hi);rw[z] at y1;cases y1;have k:=S.sl i _ (v_ hi);rw[y2] at k;exact k.1
  .obtain⟨v',u,n,o,k0,_,_,k1,k2,k3,k4,k5,k6⟩:=kmu z;rw[z2] at k0;cases k0;exact⟨n,o,k2,k3,k4,k5,k6.mono (.of koc)⟩
variable{P:Program}{w:World}{base:Heap}{fx:Str}{fst:Stmt}{n m:Nat}{pn N:List Str}{x:PSt}
def tJ(sp:sp3 K mg (fnP ms m x) vs H Q E):vs.length=ms.length:=by obtain⟨Y,ps,us,hl,S,_⟩:=sp;have q:=S.l1;unfold sls at q;rw[p_,NH] at q;have hl':us.length=ms.length:=hl;have:(fnP ms m x).ms=ms:=rfl;rw[this] at q;omega
def uo{Q:VK}{E:XK}(sp:sp3 K mg (fnP ms N.length x) vs H Q E):rdS K mg (λ_=>E) x.G { nx:=λ_ H'=>Q .non H',rt:=Q } (f6 N vs) H:=by
 have hv:=tJ sp;obtain⟨Y,ps,us,hl,S0,p⟩:=sp;have hl:us.length=ms.length:=hl;have S0:Sat K mg Y (nn H) ps (sls ms us) (vs.map some) H:=S0;have S1:=EV (k:=N.length-vs.length) S0;refine⟨Y,nn H,_,_,S1,?_⟩;have p:match fnV ms N.length x.G us with
  |.ok r mv=>∀y H',Stp ps (sls ms us) H ps (aC ms mv) H'->RtR K mg Y (nn H) ps (aC ms mv) (vs.map some) H' y r->Q y H'
  |.exc c mv=>∀C H',Stp ps (sls ms us) H ps (aC ms mv) H'->Sat K mg Y (nn H) ps (aC ms mv) (vs.map some) H'->mg c=some (.ref C)->E (.ref C) none H'
  |.stuck=>False:=p
 unfold fnV at p;rw[if_pos hl] at p;have hvu:us.length=vs.length:=by omega
 rw[hvu] at p;cases q:x.G (sls ms us++List.replicate (N.length-vs.length) .no) with
 |stuck=>rw[q] at p;exact p.elim
 |bk _=>rw[q] at p;exact p.elim
 |ct _=>rw[q] at p;exact p.elim
 |
  nx e'=>
  rw[q] at p;intro H' σ' ns' a S2;try dsimp only at p
  cases qm:muV ms e' with
  |none=>rw[qm] at p;exact p.elim
  |some mv=>rw[qm] at p;obtain⟨a3,S3,koc⟩:=iO hl S0 (λ_ z=>z) a S2 qm;exact p _ _ a3 ⟨S3,.non⟩
 |
  exc c e'=>
  rw[q] at p;intro H' σ' ns' C a S2 hC;try dsimp only at p
  cases qm:muV ms e' with
  |none=>rw[qm] at p;exact p.elim
  |some mv=>rw[qm] at p;obtain⟨a3,S3,koc⟩:=iO hl S0 (λ_ z=>z) a S2 qm;exact p _ _ a3 S3 hC
 |
  rt r e'=>
  rw[q] at p;intro H' σ' ns' y a rr;try dsimp only at p
  cases qm:muV ms e' with
  |none=>rw[qm] at p;exact p.elim
  |
   some mv=>
   rw[qm] at p;cases r with
   |val v=>obtain⟨a3,S3,koc⟩:=iO hl S0 (λ_ z=>z) a rr.1 qm;exact p _ _ a3 ⟨S3,rr.2.mono (.of koc)⟩
   |new v=>obtain⟨n,o,z1,z2,z3,z4,z5,z6,z7⟩:=rr;obtain⟨a3,S3,koc⟩:=iO (Y:=Xn Y n) hl S0 (λ_ z=>.inl z) a z6 qm;exact p _ _ a3 ⟨n,o,z1,z2,z3,z4,z5,S3,z7.mono (.of koc)⟩
   |pr v u=>obtain⟨pp,d1,n,o,z0,z1,z2,z3,z4,z5,z6,z7,z8⟩:=rr;obtain⟨a3,S3,koc⟩:=iO (Y:=Xn Y n) hl S0 (λ_ z=>.inl z) a z6 qm;exact p _ _ a3 ⟨pp,d1,n,o,z0,z1,z2,z3,z4,z5,S3,z7.mono (.of koc),z8.mono (.of koc)⟩
   |
    par i=>
    obtain⟨R1,R2,v,R3⟩:=rr;obtain⟨a3,S3,koc⟩:=iO hl S0 (λ_ z=>z) a R1 qm;refine p _ _ a3 ⟨S3,?_,?_⟩;all_goals
     obtain⟨u,k1,k2⟩:=a.mu i v R3;have hi:i<(sls ms us).length:=by apply Decidable.byContradiction;intro hi;rw[Nn (Nat.le_of_not_lt hi),Nk] at k1;split at k1 <;> cases k1
     rw[Mz hi] at k1;rw[Mz (by rw[S0.l2];exact hi)] at k2;obtain⟨m,o,w1,w2,_⟩:=S0.sl i _ k1
    .obtain⟨m',o',x1,x2,_⟩:=R1.sl i _ R3;rw[k2,w1] at x1;cases x1;rw[R2] at x2;cases x2;exact w2
    .obtain⟨v',y,_⟩:=a3.mu' i u k1;exact⟨v',y⟩
def okP(D:Def K mg fx fst)(S:FnScope N pn (aq fst))
 (hb:∀(kV doc pm:Value) (an:Option Addr) (cdv ct:Value) (us:List Value),us.length=pn.length->bindArgs (W.fnOf fx fx (c7 fst) (bD fst) (aq fst) .none kV doc pm an cdv ct) ⟨us,[]⟩=pure (pn.zip us))
 (j':N.Nodup->∀(f:Addr) (cdv:Value) (A:Around) (outer:List Env) (s:Shared) (H:Hp) (E:XK),Room k (A.deeper (envOfC fx (aq fst) s.heap.objs.size f cdv))->
  DSs K mg (eN (CX1 P w) P w K mg base N fx (aq fst) f cdv A outer s H E) (λ_=>E) (bD fst) x) (hn:ms.length=pn.length:=by rfl) (hm:N.length=m:=by rfl):Callee P w K mg base fx (k+1) pn (sp3 K mg (fnP ms m x)):=by
 subst hm;exact D.okR S hb (λvs H Q E sp=>by rw[<- hn];exact tJ sp) λf cdv A outer s H vs Q E hr sp=>⟨_,(j' S.nd f cdv A outer s H E hr).ok,uo sp⟩
end
theorem nR:∀{ts:List Tm}{k:Nat},ts[k]?=some (.bor i)->ik i ts=true
 | [],_,q=>by simp at q
 |
  t::ts,0,q=>by
  have:t=.bor i:=by simpa using q
  subst this;simp [ik]
 |
  t::ts,k+1,q=>by
  have:=nR (ts:=ts) (k:=k) (by simpa using q)
  cases t <;> simp [ik,this]
theorem vy:∀{ms:List Bool}{ts:List Tm}{k:Nat},ms[k]?=some true->ts[k]?=some (.bor i)->oH i ms ts=true
 | [],_,_,q,_=>by simp at q
 |_::_,[],_,_,q=>by simp at q
 |
  b::ms,t::ts,0,q1,q=>by
  have:t=.bor i:=by simpa using q
  have:b=true:=by simpa using q1
  subst_vars;simp [oH]
 |
  b::ms,t::ts,k+1,q1,q=>by
  have:=vy (ms:=ms) (ts:=ts) (k:=k) (by simpa using q1) (by simpa using q)
  cases b <;> cases t <;> simp [oH,this]
theorem j9:∀{ms:List Bool}{ts:List Tm}{k:Nat},okA e ms ts=true->ms[k]?=some true->∃i,ts[k]?=some (.bor i)/\∃u,(e[i]?).bind Sl.mv=some u
 | [],_,_,_,q=>by simp at q
 |b::ms,[],_,o,_=>by cases b <;> simp [okA] at o
 |
  b::ms,t::ts,0,o,q=>by
  have:b=true:=by simpa using q
  subst this;cases t with
  |bor i=>simp only[okA,w_] at o;exact⟨i,rfl,Ng.mp o.1.1⟩
  |_=>simp [okA] at o
 |
  b::ms,t::ts,k+1,o,q=>by
  have o':okA e ms ts=true:=by cases b <;> cases t <;> simp only[okA,w_] at o <;> first |exact o.2 |exact o |(simp at o;done)
  obtain⟨i,y⟩:=j9 (k:=k) o' (by simpa using q);exact⟨i,by simpa using y⟩
theorem iH:∀{ms:List Bool}{ts:List Tm}{k j i:Nat},okA e ms ts=true->ms[k]?=some true->ts[k]?=some (.bor i)->ts[j]?=some (.bor i)->j=k
 | [],_,_,_,_,_,q,_,_=>by simp at q
 |b::ms,[],_,_,_,o,_,_,_=>by cases b <;> simp [okA] at o
 |b::ms,t::ts,0,0,i,o,q1,q2,q3=>rfl
 |
  b::ms,t::ts,0,j+1,i,o,q1,q2,q3=>by
  have h1:b=true:=by simpa using q1
  have h2:t=.bor i:=by simpa using q2
  subst h1 h2;simp only[okA,w_] at o
  have:=nR (i:=i) (ts:=ts) (k:=j) (by simpa using q3)
  rw[this] at o;simp at o
 |
  b::ms,t::ts,k+1,0,i,o,q1,q2,q3=>by
  have h2:t=.bor i:=by simpa using q3
  subst h2;have hm:=vy (i:=i) (ms:=ms) (ts:=ts) (k:=k) (by simpa using q1) (by simpa using q2);have hb:=nR (i:=i) (ts:=ts) (k:=k) (by simpa using q2);cases b <;> simp [okA,hm,hb] at o
 |
  b::ms,t::ts,k+1,j+1,i,o,q1,q2,q3=>by
  have o':okA e ms ts=true:=by cases b <;> cases t <;> simp only[okA,w_] at o <;> first |exact o.2 |exact o |(simp at o;done)
  exact MP (· + 1) (iH (k:=k) (j:=j) (i:=i) o' (by simpa using q1) (by simpa using q2) (by simpa using q3))
theorem nC:∀{ms:List Bool}{ts:List Tm},okA e ms ts=true->ms.length=ts.length
 | [],[],_=>rfl
 | [],_::_,o=>by simp [okA] at o
 |b::ms,[],o=>by cases b <;> simp [okA] at o
 |
  b::ms,t::ts,o=>by
  have o':okA e ms ts=true:=by cases b <;> cases t <;> simp only[okA,w_] at o <;> first |exact o.2 |exact o |(simp at o;done)
  exact MP (· + 1) (nC o')
theorem kN:∀{ms:List Bool}{ts:List Tm}{k i:Nat},ms[k]?=some false->ts[k]?=some (.bor i)->(∀v,e[i]?≠some (.sh v))->i∈aP e ms ts
 | [],_,_,_,q,_,_=>by simp at q
 |_::_,[],_,_,_,q,_=>by simp at q
 |
  b::ms,t::ts,0,i,q1,q2,hn=>by
  have h1:b=false:=by simpa using q1
  have h2:t=.bor i:=by simpa using q2
  subst h1 h2;unfold aP;split
  .rename_i v q;exact absurd q (hn v)
  .exact s_ ..
 |
  b::ms,t::ts,k+1,i,q1,q2,hn=>by
  have ih:=kN (ms:=ms) (ts:=ts) (k:=k) (by simpa using q1) (by simpa using q2) hn;cases b <;> cases t <;> simp only[aP] <;> first |exact ih |(split;exact ih;exact q_ _ ih)
def eW{ms:List Bool}{ts:List Tm}{k i:Nat}(q:(aL ms ts)[k]?=some (some i)):ms[k]?=some true/\ts[k]?=some (.bor i):=by
 unfold aL at q;rw[NQ] at q;cases h1:ms[k]? with
 |none=>rw[h1] at q;cases q
 |
  some b=>
  cases h2:ts[k]? with
  |none=>rw[h1,h2] at q;cases q
  |some t=>rw[h1,h2] at q;have q':nV b t=some i:=J_ q;cases b <;> cases t <;> first |(cases q';done) |(cases q';exact⟨rfl,rfl⟩)
def FF{ms:List Bool}{ts:List Tm}{k i:Nat}(q1:ms[k]?=some true)(q2:ts[k]?=some (.bor i)):(aL ms ts)[k]?=some (some i):=by unfold aL;rw[NQ,q1,q2];rfl
theorem u7:∀{ts:List Tm}{vs:List Val}{k:Nat}{v:Val},rss e ts=some vs->vs[k]?=some v->∃t,ts[k]?=some t/\rs e t=some v
 | [],_,_,_,q,q2=>by cases q;simp at q2
 |
  t::ts,vs,k,v,q,q2=>by
  unfold rss at q;split at q
  .rename_i u us e1 e2;cases q;cases k with
   |zero=>
    have:u=v:=by simpa using q2
    subst this;exact⟨t,rfl,e1⟩
   |succ k=>obtain⟨t',y1,y2⟩:=u7 (k:=k) e2 (by simpa using q2);exact⟨t',by simpa using y1,y2⟩
  .cases q
theorem ou:∀{ts:List Tm}{vs:List Val},rss e ts=some vs->vs.length=ts.length
 | [],_,q=>by cases q;rfl
 |
  t::ts,vs,q=>by
  unfold rss at q;split at q
  .rename_i u us e1 e2;cases q;exact MP (· + 1) (ou e2)
  .cases q
theorem js:∀{ms:List Bool}{mv:List Val}{j:Nat}{v:Val},(aC ms mv)[j]?=some (.mu v)->v∈mv
 | [],_,_,_,q=>by simp [aC] at q
 |true::ms,u::mv,0,v,q=>by
  have:Sl.mu u=.mu v:=by simpa [aC] using q
  cases this;exact s_ ..
 |true::ms,u::mv,j+1,v,q=>q_ _ (js (ms:=ms) (mv:=mv) (j:=j) (by simpa [aC] using q))
 |true::ms,[],0,v,q=>by simp [aC] at q
 |true::ms,[],j+1,v,q=>js (ms:=ms) (mv:=[]) (j:=j) (by simpa [aC] using q)
 |false::ms,mv,0,v,q=>by simp [aC] at q
 |false::ms,mv,j+1,v,q=>js (ms:=ms) (mv:=mv) (j:=j) (by simpa [aC] using q)
theorem lg:∀{ms:List Bool}{ts:List Tm}{i:Nat},i∈aP e ms ts->∃k:Nat,ms[k]?=some false/\ts[k]?=some (.bor i)
 | [],_,_,q=>by simp [aP] at q
 |_::_,[],_,q=>by simp [aP] at q
 |
  b::ms,t::ts,i,q=>by
  have up:i∈aP e ms ts->∃k:Nat,(b::ms)[k]?=some false/\(t::ts)[k]?=some (.bor i):=λz=>by obtain⟨k,y1,y2⟩:=lg z;exact⟨k+1,by simpa using y1,by simpa using y2⟩
  cases b <;> cases t <;> simp only[aP] at q <;> first |exact up q |skip
  split at q
  .exact up q
  .rcases F_.mp q with rfl |q
   .exact⟨0,rfl,rfl⟩
   .exact up q
def Fg(q:cT e (.bor i)=some (e1,v)):(∀j,j≠i->e1[j]?=e[j]?)/\e1[i]?=some (.sh v)/\(e[i]?).bind Sl.val=some v:=by
 unfold cT at q;dsimp only at q;split at q
 .rename_i u q1;cases q;exact⟨λ_ _=>rfl,q1,by rw[q1];rfl⟩
 .rename_i u q1;cases q;exact⟨λj z=>b8 z,b9 (u_.mp q1).1,by rw[q1];rfl⟩
 .cases q
theorem oR:∀{ms:List Bool}{ts:List Tm},(∀(k i:Nat),ms[k]?=some true->ts[k]?=some (.bor i)->e2[i]?=e[i]?)->okA e ms ts=true->okA e2 ms ts=true
 | [],[],_,o=>rfl
 | [],_::_,_,o=>by simp [okA] at o
 |b::ms,[],_,o=>by cases b <;> simp [okA] at o
 |
  b::ms,t::ts,hk,o=>by
  have o':okA e ms ts=true:=by cases b <;> cases t <;> simp only[okA,w_] at o <;> first |exact o.2 |exact o |(simp at o;done)
  have ih:=oR (λk i q1 q2=>hk (k+1) i (by simpa using q1) (by simpa using q2)) o';cases b with
  |false=>cases t <;> simp only[okA,w_] at o ⊢ <;> first |exact⟨o.1,ih⟩ |exact ih
  |
   true=>
   cases t with
   |bor i=>simp only[okA,w_] at o ⊢;rw[hk 0 i rfl rfl];exact⟨o.1,ih⟩
   |_=>simp [okA] at o
theorem rZ:∀{ms:List Bool}{ts:List Tm},(∀(k i:Nat),ms[k]?=some false->ts[k]?=some (.bor i)->∃v,e[i]?=some (.sh v))->aP e ms ts=[]
 | [],_,_=>by simp [aP]
 |_::_,[],_=>by simp [aP]
 |
  b::ms,t::ts,hk=>by
  have ih:=rZ (λk i q1 q2=>hk (k+1) i (by simpa using q1) (by simpa using q2));cases b <;> cases t <;> simp only[aP] <;> first |exact ih |skip
  rename_i i;obtain⟨v,q⟩:=hk 0 i rfl rfl;rw[q];exact ih
theorem oO(hv:∀i:Nat,(e2[i]?).bind Sl.val=(e[i]?).bind Sl.val):∀(ts:List Tm),rss e2 ts=rss e ts
 | []=>rfl
 |
  t::ts=>by
  unfold rss;rw[oO hv ts];have:rs e2 t=rs e t:=by
   cases t with
   |bor i=>exact hv i
   |_=>rfl
  rw[this]
def Bp(ok:okA e ms ts=true):Lnk (aL ms ts) e (sls ms vs):=by
 refine⟨λj k i q1 q2=>iH ok (eW q2).1 (eW q2).2 (eW q1).2,λj v q=>?_,λj s q hm=>?_⟩
 .obtain⟨b,u,q1,_,q2⟩:=fh q;cases b with
  |false=>cases q2
  |true=>obtain⟨i,y1,w,y2⟩:=j9 ok q1;obtain⟨s,z1,z2⟩:=MK.mp y2;exact⟨i,s,FF q1 y1,z1,by cases s <;> first |rfl |cases z2⟩
 .obtain⟨b,u,q1,_,q2⟩:=fh q;cases b with
  |false=>subst q2;cases hm
  |true=>exact⟨u,q2⟩
section
variable{K:W.Frag}{mg:Pp}{X N0 L:Addr->Prop}{ns:Ns}{e e2:E3}{σ:St}{H H':Hp}{ms:List Bool}{ts:List Tm}{ds:List V}{vs:List Val}{E:XK}{Q:VK}
theorem TsR.get:∀{ds:List V}{ts:List Tm}{k:Nat}{t:Tm},TsR K mg X ns σ H ds ts->ts[k]?=some t->∃d,ds[k]?=some d/\((∃v,t=.val v/\Rd K mg (Oc X ns) H d v)\/∃i,t=.bor i/\σ[i]?=some (some d))
 |_,_,_,_,.nil,q=>by simp at q
 |_,_,0,_,.val r rr,q=>by have:=(by simpa using q:Tm.val _=_);subst this;exact⟨_,rfl,.inl ⟨_,rfl,r⟩⟩
 |_,_,0,_,.bor r rr,q=>by have:=(by simpa using q:Tm.bor _=_);subst this;exact⟨_,rfl,.inr ⟨_,rfl,r⟩⟩
 |_,_,k+1,t,.val r rr,q=>by obtain⟨d,y⟩:=rr.get (k:=k) (by simpa using q);exact⟨d,by simpa using y⟩
 |_,_,k+1,t,.bor r rr,q=>by obtain⟨d,y⟩:=rr.get (k:=k) (by simpa using q);exact⟨d,by simpa using y⟩
def Xc(X:Addr->Prop)(ns:Ns)(e:E3)(ms:List Bool)(ts:List Tm)(n:Addr):Prop:=(X n\/some n∈ns)/\some n∉aW (aL ms ts) ns/\∀i∈aP e ms ts,ns[i]?≠some (some n)
def lH(S:Sat K mg X N0 ns e σ H)(rt:TsR K mg X ns σ H ds ts)(qv:rss e ts=some vs)(ok:okA e ms ts=true):
 Sat K mg (Xc X ns e ms ts) (nn H) (aW (aL ms ts) ns) (sls ms vs) (ds.map some) H:=by
 have l1:=nC ok;have l2:=ou qv;have l3:=TsR.len rt;have hs:lT (aL ms ts):=λj k i q1 q2=>iH ok (eW q2).1 (eW q2).2 (eW q1).2;have mv:Mov (Oc X ns) (Oc (Xc X ns e ms ts) (aW (aL ms ts) ns)) H H:=.of λn p=>⟨λz=>by
  rcases z.1 with z |z
  .exact p.1 z
  .exact p.2 z,λz=>p.2 (tE z)⟩
 refine⟨?_,?_,λ_ z=>z,λn z=>?_,λj k n q1 q2=>?_,λj n q z=>z.2.1 (aQ.mpr ⟨j,q⟩),λk s q=>?_,S.bs⟩
 .unfold sls;rw[p_,NH];omega
 .unfold aW aL sls;rw[p_,NH,NH];omega
 .rcases z.1 with z |z
  .exact S.xl n z
  .obtain⟨i,z⟩:=aQ.mp z;obtain⟨_,_,o,_,_,_,_,q',_⟩:=S.own z;exact⟨o,q'⟩
 .obtain⟨i,y1,y2⟩:=cA q1;obtain⟨i',y3,y4⟩:=cA q2
  have:=S.inj i i' n y2 y4
  subst this;exact hs j k i y1 y3
 .obtain⟨b,v,q1,q2,rfl⟩:=fh q;obtain⟨t,q3,q4⟩:=u7 qv q2;obtain⟨d,q5,q6⟩:=rt.get q3;have qd:(ds.map some)[k]?=some (some d):=by rw[L_,q5];rfl
  rw[qd];have qn:(aW (aL ms ts) ns)[k]?=some ((nV b t).bind λi=>(ns[i]?).bind id):=by unfold aW aL;rw[L_,NQ,q1,q3];rfl
  rw[qn];cases b with
  |
   true=>
   obtain⟨i,y1,u,y2⟩:=j9 ok q1;rw[q3] at y1;cases y1;have q4':(e[i]?).bind Sl.val=some v:=q4;obtain⟨s,z1,z2⟩:=MK.mp y2;rw[z1] at q4';have hv:s.val=some v:=q4';have huv:u=v:=by cases s <;> first |cases z2;done |(cases z2;cases hv;rfl)
   subst huv;have hns:∃n,ns[i]?=some (some n):=by
    have y:=S.sl i s z1;cases s with
    |ow v=>obtain⟨n,o,y1,_⟩:=y;exact⟨n,y1⟩
    |mu v=>obtain⟨n,o,y1,_⟩:=y;exact⟨n,y1⟩
    |_=>cases z2
   obtain⟨n,hn⟩:=hns;obtain⟨n',o,k1,k0,k2,k3,k4,_⟩:=S.write z1 z2;rcases q6 with ⟨_,z,_⟩ |⟨i',z,q6⟩
   .cases z
   .cases z;rw[q6] at k1;cases k1;obtain⟨_,_,_,_,_,_,w,_⟩:=S.own hn;rw[q6] at w;cases w;exact⟨n,o,by show some ((ns[i]?).bind id)=_;rw[hn];rfl,rfl,k2,k3,k4.mono mv⟩
  |
   false=>
   refine⟨by cases t <;> rfl,d,rfl,?_⟩;rcases q6 with ⟨u,rfl,q6⟩ |⟨i,rfl,q6⟩
   .cases q4;exact q6.mono mv
   .obtain⟨s,z1,z2⟩:=MK.mp (show (e[i]?).bind Sl.val=some v from q4);have y:=S.sl i s z1;by_cases hsh:∃w,s=.sh w
    .obtain⟨w,rfl⟩:=hsh;cases z2;obtain⟨_,x,w1,w2⟩:=y;rw[q6] at w1;cases w1;exact w2.mono mv
    .have hl:=kN q1 q3 λw z=>hsh ⟨w,by rw[z1] at z;exact J_ z⟩;have:∃n o,ns[i]?=some (some n)/\σ[i]?=some (some (.ref n))/\H n=some o/\Rc K mg (Oc X ns) H o v:=by
      cases s with
      |no=>cases z2
      |sh w=>exact absurd ⟨w,rfl⟩ hsh
      |ow w=>cases z2;obtain⟨n,o,y1,y2,_,y3,_,y4⟩:=y;exact⟨n,o,y1,y2,y3,y4⟩
      |lo w=>cases z2;obtain⟨n,o,y1,y2,_,y3,_,y4⟩:=y;exact⟨n,o,y1,y2,y3,y4⟩
      |mu w=>cases z2;obtain⟨n,o,y1,y2,y3,_,y4⟩:=y;exact⟨n,o,y1,y2,y3,y4⟩
      |lm w=>cases z2;obtain⟨n,o,y1,y2,y3,_,y4⟩:=y;exact⟨n,o,y1,y2,y3,y4⟩
     obtain⟨n,o,w1,w2,w3,w4⟩:=this;rw[q6] at w2;cases w2;refine .cell ⟨λy=>y.2.2 i hl w1,λy=>?_⟩ w3 (w4.mono mv);obtain⟨j,y⟩:=aQ.mp y;obtain⟨i',y1,y2⟩:=cA y;obtain⟨y3,y4⟩:=eW y1
     have:=S.inj i' i n y2 w1
     subst this
     have:=iH ok y3 y4 q3
     subst this;rw[q1] at y3;cases y3
theorem rA:∀{is:List Nat}{ns:Ns}{e e2:E3},Sat K mg X N0 ns e σ H->(∀i∈is,∃d,σ[i]?=some (some d))->n0 e is=some e2->∃h_,Sat K mg X N0 h_ e2 σ H/\Stp ns e H h_ e2 H/\(∀i,i∉is->e2[i]?=e[i]?)/\(∀i∈is,∃v,e2[i]?=some (.sh v))/\∀i:Nat,(e2[i]?).bind Sl.val=(e[i]?).bind Sl.val
 | [],ns,e,e2,S,_,q=>by cases q;exact⟨ns,S,.refl,λ_ _=>rfl,(λ_ z=>by cases z),λ_=>rfl⟩
 |
  i::is,ns,e,e2,S,hd,q=>by
  unfold n0 at q;split at q
  .rename_i e1 v q1;obtain⟨d,hd0⟩:=hd i (s_ ..);obtain⟨ns1,S1,a1,r1⟩:=fW (L:=X) (t:=.bor i) S hd0 q1;obtain⟨h_,S2,a2,k1,k2,k3⟩:=rA S1 (λj z=>hd j (q_ _ z)) q;obtain⟨y1,y2,y3⟩:=Fg q1;refine⟨h_,S2,a1.trans S a2,λj hj=>?_,λj hj=>?_,λj=>?_⟩
   .rw[F_,not_or] at hj;rw[k1 j hj.2,y1 j hj.1]
   .by_cases z:j∈is
    .exact k2 j z
    .rcases F_.mp hj with rfl |hj
     .exact⟨v,by rw[k1 j z];exact y2⟩
     .exact absurd hj z
   .rw[k3 j];by_cases z:j=i
    .subst z;rw[y2,y3];rfl
    .rw[y1 j z]
  .cases q
def uW(hl:aP e ms ts=[])(z:¬ Xc X ns e ms ts n)(z2:some n∉aW (aL ms ts) ns):Oc X ns n:=
 ⟨λy=>z ⟨.inl y,z2,λi hi=>by rw[hl] at hi;cases hi⟩,λy=>z ⟨.inr y,z2,λi hi=>by rw[hl] at hi;cases hi⟩⟩
def kO{Y:Addr->Prop}(S:Sat K mg X N0 ns e σ H)(ok:okA e ms ts=true)(a:Stp (aW (aL ms ts) ns) (sls ms vs) H (aW (aL ms ts) ns) (aC ms mv) H')(hf:aP e ms ts=[]\/mv.all cD=true)(hY:∀n,Y n->(∃o,H' n=some o)/\H n=none)(S3:Sat K mg (λn=>Xc X ns e ms ts n\/Y n) N1 (aW (aL ms ts) ns) (aC ms mv) (ds.map some) H'):
 Sat K mg (λn=>X n\/Y n) N0 ns (aS (aL ms ts) (aC ms mv) e) σ H'/\Stp ns e H ns (aS (aL ms ts) (aC ms mv) e) H'/\(aP e ms ts=[]->∀m,Oc (λn=>Xc X ns e ms ts n\/Y n) (aW (aL ms ts) ns) m->Oc (λn=>X n\/Y n) ns m):=by
 have kk:aP e ms ts=[]->∀m,Oc (λn=>Xc X ns e ms ts n\/Y n) (aW (aL ms ts) ns) m->Oc (λn=>X n\/Y n) ns m:=λhf m z=>by
  have:=uW hf (λy=>z.1 (.inl y)) z.2
  exact⟨λy=>by
   rcases y with y |y
   .exact this.1 y
   .exact z.1 (.inr y),this.2⟩
 obtain⟨S4,a4⟩:=S.back (Y:=λn=>X n\/Y n) (Bp (vs:=vs) ok) a S3.bs (λm z=>by
  rcases z with z |z
  .obtain⟨o,z'⟩:=S.xl m z;refine⟨?_,.inl z⟩;cases qh:H' m with
   |none=>rw[a.dom m qh] at z';cases z'
   |some o'=>exact⟨o',rfl⟩
  .exact⟨(hY m z).1,.inr (hY m z).2⟩) (λ_ z=>.inl z) λj w n' q1 q2=>by
  obtain⟨s,u,o,b1,b2,b3,b4,b5,b6,b7⟩:=S3.own q2;rw[q1] at b1;cases b1;cases b3;rcases hf with hf |hf
  .exact⟨o,b5,b6,b7.mono (.of (kk hf))⟩
  .exact⟨o,b5,b6,b7.flat .refl (MF.mp hf w (js q1))⟩
 exact⟨S4,a4,kk⟩
def Sat.eqX{X Y:Addr->Prop}(S:Sat K mg X N0 ns e σ H)(h:∀n,X n ↔ Y n):Sat K mg Y N0 ns e σ H:=by have:X=Y:=funext λn=>propext (h n);exact this ▸ S
def ni(S:Sat K mg X N0 ns e σ H)(ok:okA e ms ts=true)(a:Stp (aW (aL ms ts) ns) (sls ms vs) H (aW (aL ms ts) ns) (aC ms mv) H')(hf:aP e ms ts=[]\/mv.all cD=true)(S3:Sat K mg (Xc X ns e ms ts) N1 (aW (aL ms ts) ns) (aC ms mv) (ds.map some) H'):
 Sat K mg X N0 ns (aS (aL ms ts) (aC ms mv) e) σ H'/\Stp ns e H ns (aS (aL ms ts) (aC ms mv) e) H'/\(aP e ms ts=[]->∀m,Oc (Xc X ns e ms ts) (aW (aL ms ts) ns) m->Oc X ns m):=by
 obtain⟨S4,a4,_⟩:=kO (Y:=λ_=>False) S ok a hf (λ_ z=>z.elim) (S3.eqX λn=>⟨.inl,λz=>z.elim id (·.elim)⟩);exact⟨S4.eqX λn=>⟨λz=>z.elim id (·.elim),.inl⟩,a4,λhf m z=>uW hf z.1 z.2⟩
def vf(S:Sat K mg X N0 ns e σ H)(hL:∀a,H a=none->L a)(rt:TsR K mg X ns σ H ds ts)(ok:okA e ms ts=true)(hf:aP e ms ts=[]\/(ka r=true/\mv.all cD=true))(p:PG3 K mg X N0 ns e σ H E (KE K mg X N0 L σ Q) (.ok (r.tm ts) (aS (aL ms ts) (aC ms mv) e)))
 (a:Stp (aW (aL ms ts) ns) (sls ms vs) H (aW (aL ms ts) ns) (aC ms mv) H') (rr:RtR K mg (Xc X ns e ms ts) (nn H) (aW (aL ms ts) ns) (aC ms mv) (ds.map some) H' x r):Q x H':=by
 have hf2:aP e ms ts=[]\/mv.all cD=true:=hf.imp id (·.2);cases r with
 |
  val v=>
  obtain⟨S3,rv⟩:=rr;obtain⟨S4,a4,kk⟩:=ni S ok a hf2 S3;refine p _ _ a4 S4 x ?_;rcases hf with hf |hf
  .exact rv.mono (.of (kk hf))
  .exact rv.flat .refl hf.1
 |
  new v=>
  obtain⟨n,o,rfl,z2,z3,z4,z5,S3,z7⟩:=rr;obtain⟨S4,a4,kk⟩:=kO (Y:=λm=>m=n) S ok a hf2 (λm z=>by subst z;exact⟨⟨o,z4⟩,z2⟩) S3;refine p _ _ a4 (S4.weak λ_ z=>.inl z) _ ⟨n,o,rfl,hL n z2,λy=>?_,z4,z5,S4,?_⟩
  .obtain⟨u,y⟩:=S.xl n y;rw[show H n=none from z2] at y;cases y
  .rcases hf with hf |hf
   .exact z7.mono (.of (kk hf))
   .exact z7.flat .refl hf.1
 |
  pr v u=>
  obtain⟨pp,d1,n,o,rfl,z1,z2,z3,z4,z5,S3,z6,z7⟩:=rr;obtain⟨S4,a4,kk⟩:=kO (Y:=λm=>m=n) S ok a hf2 (λm z=>by subst z;exact⟨⟨o,z4⟩,z2⟩) S3;have on:Oc X ns n:=⟨λy=>(by
   obtain⟨u,y⟩:=S.xl n y;rw[show H n=none from z2] at y;cases y),λy=>by
   obtain⟨i,y⟩:=aQ.mp y;exact S4.nx i n y (.inr rfl)⟩
  have wk:Mov (Oc (λm=>X m\/m=n) ns) (Oc X ns) H' H':=.of λm z=>⟨λc=>z.1 (.inl c),z.2⟩;refine p _ _ a4 (S4.weak λ_ z=>.inl z) _ (.tup z1 (.cons ?_ (.cons (.cell on z4 ?_) .nil)))
  .rcases hf with hf |hf
   .exact (z6.mono (.of (kk hf))).mono wk
   .exact z6.flat .refl (w_ _ _ ▸ hf.1).1
  .rcases hf with hf |hf
   .exact (z7.mono (.of (kk hf))).mono wk
   .exact z7.flat .refl (w_ _ _ ▸ hf.1).2
 |
  par i=>
  obtain⟨S3,w1,w,w2⟩:=rr;obtain⟨S4,a4,_⟩:=ni S ok a hf2 S3;refine p _ _ a4 S4 x ?_;obtain⟨u,x1,_⟩:=a.mu i w w2;obtain⟨b,u',x2,_,x3⟩:=fh x1;cases b with
  |false=>cases x3
  |
   true=>
   obtain⟨k,y1,_⟩:=j9 ok x2;obtain⟨d',y2,z⟩:=rt.get y1;have e1:(Rt.par i).tm ts=.bor k:=by show (ts[i]?).getD _=_;rw[y1];rfl
   rw[e1];rcases z with ⟨_,z,_⟩ |⟨j,z,z2⟩
   .cases z
   .cases z;rw[L_,y2] at w1;cases w1;exact z2
theorem C3{f:PFn}(S:Sat K mg X N0 ns e σ H)(hL:∀a,H a=none->L a)(rt:TsR K mg X ns σ H ds ts)(p:PG3 K mg X N0 ns e σ H E (KE K mg X N0 L σ Q) (match rss e ts with
 |none=>.stuck
 |some vs=>if okA e f.ms ts=true then (match f.G vs with
  |.stuck=>.stuck
  |.ok r mv=>if (aP e f.ms ts).isEmpty || (ka r&&mv.all cD) then .ok (r.tm ts) (aS (aL f.ms ts) (aC f.ms mv) e) else (match n0 e (aP e f.ms ts) with
   |some e2=>.ok (r.tm ts) (aS (aL f.ms ts) (aC f.ms mv) e2)
   |none=>.stuck)
  |.exc c mv=>if (aP e f.ms ts).isEmpty || mv.all cD then .exc c (aS (aL f.ms ts) (aC f.ms mv) e) else .stuck) else .stuck)):sp3 K mg f ds H Q E:=by
 split at p
 .exact p.elim
 .rename_i vs
   qv
  split at p
  .rename_i ok;have a_:vs.length=f.ms.length:=by rw[ou qv,nC ok]
   split at p
   .exact p.elim
   .rename_i r mv q;split at p
    .rename_i hf;rw[N7,w_] at hf;exact⟨_,_,vs,a_,lH S rt qv ok,by rw[q];exact λx H' a rr=>vf S hL rt ok (hf.imp List.isEmpty_iff.mp id) p a rr⟩
    .split
      at p
     .rename_i e2 qd;obtain⟨h_,S2,a2,k1,k2,k3⟩:=rA S (λi hi=>by
       obtain⟨k,_,y⟩:=lg hi;obtain⟨d,_,z⟩:=rt.get y;rcases z with ⟨_,z,_⟩ |⟨j,z,z2⟩
       .cases z
       .cases z;exact⟨d,z2⟩) qd
      have ok2:okA e2 f.ms ts=true:=oR (λk i q1 q2=>k1 i λz=>by
       obtain⟨k',y1,y2⟩:=lg z
       have:=iH ok q1 q2 y2
       subst this;rw[q1] at y1;cases y1) ok
      have ln:aP e2 f.ms ts=[]:=rZ λk i q1 q2=>by
       by_cases z:i∈aP e f.ms ts
       .exact k2 i z
       .rw[k1 i z];exact Classical.byContradiction λw=>z (kN q1 q2 λv y=>w ⟨v,y⟩)
      exact⟨_,_,vs,a_,lH S2 (rt.stp a2) (by rw[oO k3];exact qv) ok2,by rw[q];exact λx H' a rr=>vf S2 (λb z=>hL b z) (rt.stp a2) ok2 (.inl ln) (p.after S a2) a rr⟩
     .exact p.elim
   .rename_i c mv q;split at p
    .rename_i hf;rw[N7] at hf;refine⟨_,_,vs,a_,lH S rt qv ok,?_⟩;rw[q];intro C H' a S3 hC;obtain⟨S4,a4,_⟩:=ni S ok a (hf.imp List.isEmpty_iff.mp id) S3;exact p _ _ C a4 S4 hC
    .exact p.elim
  .exact p.elim
end
noncomputable def ai (f:PFn) (a:PAs):PEx:=⟨22,Du f.ms f.G a.G⟩
section
variable{K:W.Frag}{mg:Pp}{X:Cx}{ES:St->XK}{e:Expr}{es:List Expr}{A:PAs}{pos:Pos}{k:Nat}{ps:List Str}
def vh{f:PFn}(σ:St)(H:Hp)(Q:VK):rdE K mg ES (ai f A).G σ H Q->rdA K mg ES A.G σ H λvs H1=>sp3 K mg f vs H1 Q (ES σ):=λzz=>zz.el λY N0 L ns e S hl p=>
 ⟨Y,N0,ns,e,S,PG3.imp p S λts e1 ns1 H1 a1 S1 p1 xs r1=>C3 S1 (λa z=>hl a (a1.dom a z)) r1 p1⟩
def AU{f:PFn}{x:Str}{p0:Pos}(C:Callee X.prog X.w X.K X.mg X.base x k ps (sp3 K mg f))(hr:Room k X.A)(hg:Gl X x)(hx:mE X ES)(ha:DA K mg X ES (e::es) A)
 (hdb:(x==("__debug__" : Str))=false) (he:starEach (e::es) X.env=(false,eval e X.env)::starEach es X.env) (hpl:(backTo pos (starEach es X.env)).any (·.1)=false):
 DE K mg X ES (.Call (.Name x p0) (e::es) [] pos) (ai f A):=by
 obtain⟨fa,fd,F',m,kp,bb,_⟩:=C.ex;refine⟨λpins s σ H Q I hh=>M4 (nO I hg m ?_ hdb)⟩;refine W.callWith_K (h₀:=X.base) I.ok.mod.kin kp (ML (ha.ok pos pins s σ H _ I (vh σ H Q hh)) (λus s1 ⟨vs,H1,I1,r,q⟩=>⟨I1.kIn,?_⟩) λ_ _ z=>z) he hpl;have hl:(us++[]).length=ps.length:=by rw[MX,<- r.length];exact F'.len _ _ _ _ q
 refine wpAny_call (O8 (F'.run X.A X.stack s1 H1 ⟨us,[]⟩ us vs Q (ES σ) hr I1.env0 (by simpa using bb s1 us I1.kIn hl) r q) λr s' hq=>?_);cases r with
 |error ex=>exact hx pins σ H1 s1 ex s' I1 hq
 |
  ok fl=>
  cases fl with
  |ret u=>exact I1.after hq
  |next=>exact False.elim hq
  |brk=>exact False.elim hq
  |cont=>exact False.elim hq
def DM(hp:sJ (CX1 X.prog X.w) X E):mE X (λ_=>E):=λpins σ H s e s' I h=>hp pins σ H s e s' I h
def Km:mE X (λ_=>E0):=λpins σ H s e s' I h=>Md pins σ H s e s' I h
def zcF{f:PFn}{x:Str}{p0:Pos}{k j:Nat}{ps:List Str}(C:Callee X.prog X.w X.K X.mg X.base x j ps (sp3 K mg f))(hr:Room k X.A)(ha:DA K mg X ES (e::es) A)(hk:j<=k:=by omega)(hg:Gl X x:=by exact rfl)(hx:mE X ES:=by first |exact DM Ej |exact Km |assumption)(hdb:(x==("__debug__" : Str))=false:=by decide)(he:starEach (e::es) X.env=(false,eval e X.env)::starEach es X.env:=by rfl)(hpl:(backTo pos (starEach es X.env)).any (·.1)=false:=by rfl):DE K mg X ES (.Call (.Name x p0) (e::es) [] pos) (ai f A):=AU C (hr.mono hk) hg hx ha hdb he hpl
end
noncomputable def aI (f:Int->Int->Val):Val->Val->Bv:=λx y=>match x,y with
 |.int i,.int j=>.val (f i j)
 |_,_=>.stuck
open Classical in
def aIc(C:Int->Int->Prop)(f:Int->Int->Val):Val->Val->Bv:=λx y=>match x,y with
 |.int i,.int j=>if C i j then .val (f i j) else .stuck
 |_,_=>.stuck
noncomputable def aCat:Val->Val->Bv:=λx y=>match x,y with
 |.lst xs,.lst ys=>if xs.length+ys.length<=16777216 then .new (.lst (xs++ys)) else .stuck
 |.tup xs,.tup ys=>if xs.length+ys.length<=16777216 then .val (.tup (xs++ys)) else .stuck
 |_,_=>.stuck
noncomputable def B5:Val->Val->Bv:=λx y=>match x,y with
 |.int i,.int j=>.val (.int (i+j))
 |x,y=>aCat x y
noncomputable def aMin:=aI λi j=>.int (i-j)
def BD:=aIc CMulA λi j=>.int (i*j)
def CK:=aIc CDivB λi j=>.int (i.fdiv j)
def CY:=aIc (λ_ j=>j≠0) λi j=>.int (i.fmod j)
def Cg:=aIc jR λi j=>.int (i^j.toNat)
def C6:=aIc jR λi j=>.int (i*2^j.toNat)
noncomputable def aLt:=aI λi j=>.bl (decide (i<j))
noncomputable def aGt:=aI λi j=>.bl (decide (j<i))
noncomputable def aGe:=aI λi j=>.bl (decide (j<=i))
noncomputable def BF:Val->Bv:=λx=>match x with
 |.int i=>.val (.int (-i))
 |_=>.stuck
noncomputable def aIx:Val->Val->Bv:=λx y=>match x.items,y with
 |some xs,.int i=>(match atI xs i with
  |some v=>.val v
  |none=>.stuck)
 |_,_=>.stuck
mutual
def cE:Nat->Val->Option PyData
 |0,_=>none
 |_+1,.non=>some .none
 |_+1,.bl b=>some (.bool b)
 |_+1,.int i=>some (.int i)
 |_+1,.str x=>some (.str x)
 |k+1,.tup xs=>(d7 k xs).map .tuple
 |k+1,.lst xs=>(d7 k xs).map .list
 |_+1,_=>none
def d7:Nat->List Val->Option (List PyData)
 |_,[]=>some []
 |k,x::xs=>match cE k x,d7 k xs with
  |some a,some b=>some (a::b)
  |_,_=>none
end
noncomputable def bo (x y:Val):Option Bool:=match cE 164 x,cE 164 y with
 |some a,some b=>if shp a=true/\shp b=true then some (PyData.eqv a b) else none
 |_,_=>none
noncomputable def aEq (neg:Bool):Val->Val->Bv:=λx y=>match bo x y with
 |some b=>.val (.bl (if neg then !b else b))
 |none=>.stuck
noncomputable def me:Val->Bool
 |.non=>true
 |.bl _=>true
 |.int _=>true
 |.str _=>true
 |_=>false
noncomputable def rN:Val->V
 |.bl b=>.bl b
 |.int i=>.int i
 |.str x=>.str x
 |_=>.non
noncomputable def eq1 (x y:Val):Bool:=eqV (rN x) (rN y)
noncomputable def aIn (neg:Bool):Val->Val->Bv:=λx y=>match y.items with
 |some xs=>if me x=true/\xs.all me=true then .val (.bl (if neg then !(xs.any λd=>eq1 d x) else xs.any λd=>eq1 d x)) else .stuck
 |none=>.stuck
noncomputable def aIsN (neg:Bool):Val->Val->Bv:=λx y=>match x,y with
 |.non,.non=>.val (.bl (!neg))
 |_,.non=>.val (.bl neg)
 |_,_=>.stuck
noncomputable def AL:List Val->Bv:=λvs=>match vs with
 | [v]=>(match v.items with
  |some xs=>.val (.int xs.length)
  |none=>(match v with
   |.str z=>if z.length<=16777216 then .val (.int z.length) else .stuck
   |_=>.stuck))
 |_=>.stuck
noncomputable def BH:List Val->Bv:=λvs=>match vs with
 | [.int i]=>.val (.int (if i<0 then -i else i))
 |_=>.stuck
noncomputable def xn:List Val->Bv:=λvs=>match vs with
 | [.int i,.int j]=>.val (.int (if j>i then j else i))
 |_=>.stuck
noncomputable def xN:List Val->Bv:=λvs=>match vs with
 | [.int i,.int j]=>.val (.int (if j<i then j else i))
 |_=>.stuck
noncomputable def jf:List Val->Option (List Bool)
 | []=>some []
 |.bl b::r=>(jf r).map (b :: ·)
 |_=>none
noncomputable def fX:List Val->Option (List Int)
 | []=>some []
 |.int b::r=>(fX r).map (b :: ·)
 |_=>none
noncomputable def BQ:List Val->Bv:=λvs=>match vs with
 | [.lst xs]=>(match jf xs with
  |some bs=>.val (.bl (bs.all id))
  |none=>.stuck)
 |_=>.stuck
noncomputable def Dg:List Val->Bv:=λvs=>match vs with
 | [.lst xs]=>(match fX xs with
  |some bs=>.val (.int bs.sum)
  |none=>.stuck)
 |_=>.stuck
noncomputable def sR:List Val->Bv:=λvs=>match vs with
 | [v]=>(match v.items with
  |some xs=>.val (.tup xs)
  |none=>.stuck)
 |_=>.stuck
noncomputable def Bk:List Val->Bv:=λvs=>match vs with
 | [.int i]=>.val (.int i)
 | [.bl b]=>.val (.int (if b then 1 else 0))
 |_=>.stuck
noncomputable def tyC:Val->Option Cl
 |.non=>some (.b "NoneType")
 |.bl _=>some (.b "bool")
 |.int _=>some (.b "int")
 |.str _=>some (.b "str")
 |.tup _=>some (.b "tuple")
 |.exc x=>some (.o x)
 |.lst _=>some (.b "list")
 |.dct _=>some (.b "dict")
 |_=>none
noncomputable def clV:Val->Option Cl
 |.ty n=>some (.b n)
 |.glb x=>some (.o x)
 |_=>none
noncomputable def sU:List Val->Option (List Cl)
 | []=>some []
 |v::vs=>match clV v,sU vs with
  |some c,some cs=>some (c::cs)
  |_,_=>none
noncomputable def Ml:Val->Option (List Cl)
 |.tup cs=>sU cs
 |v=>(clV v).map ([·])
noncomputable def CG (kt:jd):List Val->Bv:=λvs=>match vs with
 | [v,c]=>(match tyC v,Ml c with
  |some t,some (c0::cr)=>(match gy kt t (c0::cr),kit kt t c0 with
   |some b,some _=>.val (.bl b)
   |_,_=>.stuck)
  |_,_=>.stuck)
 |_=>.stuck
noncomputable def gI (xs:List Val) (lo hi:Option Int):List Val:=(xs.drop (HT.sIx xs.length 0 lo)).take (HT.sIx xs.length xs.length hi-HT.sIx xs.length 0 lo)
noncomputable def aSl (x:Val) (lo hi:Option Int):Bv:=match x with
 |.tup xs=>if HT.sIx xs.length 0 lo=0/\HT.sIx xs.length xs.length hi=xs.length then .stuck else .val (.tup (gI xs lo hi))
 |.lst xs=>.new (.lst (gI xs lo hi))
 |.kl xs=>.new (.lst (gI xs lo hi))
 |.str z=>if z.length<=16777216 then .val (.str (Txt.slice z lo hi)) else .stuck
 |_=>.stuck
noncomputable def nX:Val->List Val->Option (Val×Val):=λu vs=>match u,vs with
 |.lst xs,[v]=>if xs.length<16777216 then some (.lst (xs++[v]),.non) else none
 |_,_=>none
noncomputable def tP:Val->List Val->Option (Val×Val):=λu vs=>match u,vs with
 |.lst xs,[]=>(match xs[xs.length-1]? with
  |some v=>some (.lst xs.dropLast,v)
  |none=>none)
 |_,_=>none
noncomputable def sL:Val->Val->Val->Option Val:=λu i v=>match u,i with
 |.lst xs,.int k=>(match ixN xs.length k with
  |some j=>some (.lst (xs.set j v))
  |none=>none)
 |_,_=>none
noncomputable def gG (d:Val):List Val->Option (List Bool)
 | []=>some []
 |x::r=>match bo x d,gG d r with
  |some b,some bs=>some (b::bs)
  |_,_=>none
noncomputable def d9:Val->List Val->Bv:=λx vs=>match x,vs with
 |.lst xs,[d]=>(match gG d xs with
  |some bs=>if bs.idxOf true<bs.length then .val (.int (bs.idxOf true:Nat)) else .stuck
  |none=>.stuck)
 |_,_=>.stuck
noncomputable def aX:PO2:=⟨B5⟩
noncomputable def eM:PO2:=⟨aMin⟩
def aV:PO2:=⟨BD⟩
def jr:PO2:=⟨CK⟩
def cz:PO2:=⟨CY⟩
def gp:PO2:=⟨Cg⟩
def qW:PO2:=⟨C6⟩
noncomputable def bLt:PO2:=⟨aLt⟩
noncomputable def bGt:PO2:=⟨aGt⟩
noncomputable def bGe:PO2:=⟨aGe⟩
noncomputable def bIx:PO2:=⟨aIx⟩
noncomputable def bEq:PO2:=⟨aEq false⟩
noncomputable def bNe:PO2:=⟨aEq true⟩
noncomputable def bIn:PO2:=⟨aIn false⟩
noncomputable def Bl:PO2:=⟨aIn true⟩
noncomputable def bIs:PO2:=⟨aIsN false⟩
noncomputable def rl:PO2:=⟨aI λi j=>.int (i+j)⟩
noncomputable def Cc:PU1:=⟨BF⟩
noncomputable def aY:PBf:=⟨AL⟩
noncomputable def er:PBf:=⟨BH⟩
noncomputable def sG:PBf:=⟨xn⟩
noncomputable def mT:PBf:=⟨xN⟩
noncomputable def qP:PBf:=⟨BQ⟩
noncomputable def b0:PBf:=⟨Dg⟩
noncomputable def jX:PBf:=⟨sR⟩
noncomputable def qw:PBf:=⟨Bk⟩
noncomputable def bz (kt:jd):PBf:=⟨CG kt⟩
noncomputable def eX:PMm:=⟨nX⟩
noncomputable def qt:PMm:=⟨tP⟩
noncomputable def fi:PMv:=⟨d9⟩
noncomputable def seL:PSe:=⟨sL⟩
section
variable{K:W.Frag}{mg:Pp}{P:Addr->Prop}{H:Hp}{Q:VK}{v:Val}{vs:List Val}{x:V}{ds:List V}{neg:Bool}
def bv(p:∀H1 x,Gr H H1->Rd K mg P H1 x v->Q x H1)(r:Rd K mg P H x v):Q x H:=p H x .refl r
def bvL(p:∀H1 a o,Gr H H1->H1 a=none->NotFz o->Rc K mg P H1 o (.lst vs)->Q (.ref a) (upd H1 a o))(r:Rds K mg P H ds vs):∀l,H l=none->Q (.ref l) (upd H l (.lst ds)):=λl hl=>p H l _ .refl hl trivial (.lst r)
def bvT(p:∀H1 x,Gr H H1->Rd K mg P H1 x (.tup vs)->Q x H1)(r:Rds K mg P H ds vs):∀l,H l=none->Q (.ref l) (upd H l (.tup ds)):=λl hl=>p _ _ (Gr.upd hl) (.tup (SqT.of aG) (r.mono (Gr.upd hl).mov))
def mM{f:Int->Int->V}{g:Int->Int->Val}(hr:∀i j P H,Rd K mg P H (f i j) (g i j)):OpD K mg (rI0 f) (aI g):=λP H x y v u Q rx ry p=>by
 unfold aI at p;split at p
 .obtain rfl:=rx.int;obtain rfl:=ry.int;exact⟨_,_,rfl,rfl,bv p (hr _ _ _ _)⟩
 .exact p.elim
def so{f:Int->Int->V}{g:Int->Int->Val}{C:Int->Int->Prop}(hr:∀i j P H,Rd K mg P H (f i j) (g i j)):OpD K mg (rI C f) (aIc C g):=λP H x y v u Q rx ry p=>by
 unfold aIc at p;split at p
 .obtain rfl:=rx.int;obtain rfl:=ry.int;split at p
  .rename_i hc;exact⟨_,_,rfl,rfl,hc,bv p (hr _ _ _ _)⟩
  .exact p.elim
 .exact p.elim
def Aw:OpD K mg (λx y H Q=>rI0 (λi j=>.int (i+j)) x y H Q\/(xI x y H Q\/(qL K x y H Q\/p9 K x y H Q))) aX.G:=λP H x y v u Q rx ry p=>by
 replace p:BvP K mg P H Q (B5 v u):=p;unfold B5 at p;split at p
 .obtain rfl:=rx.int;obtain rfl:=ry.int;exact .inl ⟨_,_,rfl,rfl,bv p (.int _)⟩
 .right;unfold aCat at p;split at p
  .obtain⟨a,xs,rfl,e1,q1⟩:=rx.lst;obtain⟨b,ys,rfl,e2,q2⟩:=ry.lst;split at p
   .rename_i hl;exact .inl ⟨_,_,xs,ys,rfl,rfl,e1,e2,by rw[q1.len,q2.len];exact hl,bvL p (q1.append q2)⟩
   .exact p.elim
  .obtain⟨a,xs,rfl,e1,q1⟩:=rx.tup;obtain⟨b,ys,rfl,e2,q2⟩:=ry.tup;split at p
   .rename_i hl;cases q1 with
    |nil=>exact .inr (.inr ⟨_,_,_,rfl,rfl,e1,e2,bv p (.tup e2 q2)⟩)
    |cons r0 r1=>refine .inr (.inl ⟨_,_,_,_,rfl,rfl,e1,e2,(λz=>nomatch z),by rw[(Rds.cons r0 r1).len,q2.len];exact hl,λz=>?_,λ_=>bvT p ((Rds.cons r0 r1).append q2)⟩);subst z;cases q2;rw[MX] at p;exact bv p (.tup e1 (.cons r0 r1))
   .exact p.elim
  .exact p.elim
def JI:OpD K mg (rI0 λi j=>.int (i-j)) eM.G:=mM λ_ _ _ _=>.int _
def GU:OpD K mg (rI CMulA λi j=>.int (i*j)) aV.G:=so λ_ _ _ _=>.int _
def Ja:OpD K mg (rI CDivB λi j=>.int (i.fdiv j)) jr.G:=so λ_ _ _ _=>.int _
def Ji:OpD K mg (rI (λ_ j=>j≠0) λi j=>.int (i.fmod j)) cz.G:=so λ_ _ _ _=>.int _
def JR:OpD K mg (rI jR λi j=>.int (i^j.toNat)) gp.G:=so λ_ _ _ _=>.int _
def Gu:OpD K mg (rI jR λi j=>.int (i*2^j.toNat)) qW.G:=so λ_ _ _ _=>.int _
def Dj:OpD K mg (rI0 λi j=>.bl (decide (i<j))) bLt.G:=mM λ_ _ _ _=>.bl _
def Ei:OpD K mg (rI0 λi j=>.bl (decide (j<i))) bGt.G:=mM λ_ _ _ _=>.bl _
def Ea:OpD K mg (rI0 λi j=>.bl (decide (j<=i))) bGe.G:=mM λ_ _ _ _=>.bl _
def GH:IpD K mg (ipI λi j=>i+j) rl.G:=mM λ_ _ _ _=>.int _
def Gp:UnD K mg (rU λi=>.int (-i)) Cc.G:=λP H x v Q r p=>by
 replace p:BvP K mg P H Q (BF v):=p;unfold BF at p;split at p
 .obtain rfl:=r.int;exact⟨_,rfl,bv p (.int _)⟩
 .exact p.elim
def Mi(r:Rds K mg P H ds vs)(e:atI vs i=some v):∃d,atI ds i=some d/\Rd K mg P H d v:=by
 unfold atI at e ⊢;rw[r.len];cases q:ixN vs.length i with
 |none=>rw[q] at e;cases e
 |some j=>rw[q] at e;exact r.get e
def J3:OpD K mg (λx y H Q=>wU K x y H Q\/xM K x y H Q) bIx.G:=λP H x y v u Q rx ry p=>by
 replace p:BvP K mg P H Q (aIx v u):=p;unfold aIx at p;split at p
 .rename_i xs i e1;obtain⟨a,ys,rfl,h,q⟩:=rx.items e1;obtain rfl:=ry.int;split at p
  .rename_i w e3;obtain⟨d,e4,q2⟩:=Mi q e3;rcases h with h |h
   .exact .inl ⟨_,_,_,d,rfl,rfl,h,e4,bv p q2⟩
   .exact .inr ⟨_,_,_,d,rfl,rfl,h,e4,bv p q2⟩
  .exact p.elim
 .exact p.elim
def BP{k:Nat}(hk:∀d v pd,Rd K mg P H d v->cE k v=some pd->Rep K H d pd){ps:List PyData}(r:Rds K mg P H ds vs):d7 k vs=some ps->Reps K H ds ps:=
 r.ind (M:=λds vs=>∀ps,d7 k vs=some ps->Reps K H ds ps) (λ_ q=>by unfold d7 at q;cases q;exact .nil) (λr _ ih ps q=>by
  unfold d7 at q;split at q
  .rename_i a b e1 e2;cases q;exact .cons (hk _ _ _ r e1) (ih _ e2)
  .cases q) ps
theorem iA:∀(k:Nat) (d:V) (v:Val) (pd:PyData),ShR K mg P H d v->cE k v=some pd->Rep K H d pd
 |0,_,_,_,_,q=>by unfold cE at q;cases q
 |
  k+1,d,v,pd,r,q=>by
  have ih:∀{ds:List V}{vs:List Val}{ps:List PyData},Rds K mg P H ds vs->d7 k vs=some ps->Reps K H ds ps:=λr=>BP (λd v pd r q=>iA k d v pd (.inl r) q) r;cases v with
  |non=>obtain rfl:=r.non;simp only[cE] at q;cases q;exact .non
  |bl b=>obtain rfl:=r.bl;simp only[cE] at q;cases q;exact .bl b
  |int b=>obtain rfl:=r.int;simp only[cE] at q;cases q;exact .int b
  |str b=>obtain rfl:=r.str;simp only[cE] at q;cases q;exact .str b
  |tup xs=>obtain⟨a,ds,rfl,e,r2⟩:=r.tup;simp only[cE] at q;obtain⟨ps,q1,rfl⟩:=Mp.mp q;exact .tup e (ih r2 q1)
  |lst xs=>obtain⟨a,ds,rfl,e,r2⟩:=r.lstL;simp only[cE] at q;obtain⟨ps,q1,rfl⟩:=Mp.mp q;exact .lst e (ih r2 q1)
  |_=>simp only[cE] at q;cases q
def Jt{x y:V}{u:Val}{b:Bool}(r1:ShR K mg P H x v)(r2:ShR K mg P H y u)(q:bo v u=some b):∃a c,Rep K H x a/\Rep K H y c/\shp a=true/\shp c=true/\PyData.eqv a c=b:=by
 unfold bo at q;split at q
 .rename_i a c e1 e2;split at q
  .rename_i hs;cases q;exact⟨a,c,iA 164 _ _ _ r1 e1,iA 164 _ _ _ r2 e2,hs.1,hs.2,rfl⟩
  .cases q
 .cases q
def Ed{x y:V}{u:Val}(r1:ShR K mg P H x v)(r2:ShR K mg P H y u)(p:BvP K mg P H Q (aEq neg v u)):∃a c,Rep K H x a/\Rep K H y c/\shp a=true/\shp c=true/\Q (.bl (if neg then !PyData.eqv a c else PyData.eqv a c)) H:=by
 unfold aEq at p;split at p
 .rename_i b q;obtain⟨a,c,h1,h2,h3,h4,rfl⟩:=Jt r1 r2 q;exact⟨a,c,h1,h2,h3,h4,bv p (.bl _)⟩
 .exact p.elim
def DR:OpD K mg (Cy K) bEq.G:=λP H x y v u Q rx ry p=>Ed rx ry p
def J9:OpD K mg (CW K) bNe.G:=λP H x y v u Q rx ry p=>Ed rx ry p
def wg(r:ShR K mg P H x v)(f:me v=true):x=rN v/\L2.flatV x=true:=by
 cases v with
 |non=>obtain rfl:=r.non;exact⟨rfl,rfl⟩
 |bl b=>obtain rfl:=r.bl;exact⟨rfl,rfl⟩
 |int b=>obtain rfl:=r.int;exact⟨rfl,rfl⟩
 |str b=>obtain rfl:=r.str;exact⟨rfl,rfl⟩
 |_=>cases f
def AV(y:Val)(r:Rds K mg P H ds vs):vs.all me=true->ds.all L2.flatV=true/\inV (rN y) ds=vs.any λd=>eq1 d y:=
 r.ind (M:=λds vs=>vs.all me=true->ds.all L2.flatV=true/\inV (rN y) ds=vs.any λd=>eq1 d y) (λ_=>⟨rfl,rfl⟩) λr _ ih f=>by rw[Ph,w_] at f;obtain⟨rfl,h2⟩:=wg (.inl r) f.1;obtain⟨h3,h4⟩:=ih f.2;refine⟨by rw[Ph,h2,h3];rfl,?_⟩;unfold inV at h4 ⊢;rw[Ni,Ni,h4];rfl
def DY:OpD K mg (rIn K neg) (aIn neg):=λP H x y v u Q rx ry p=>by
 unfold aIn at p;split at p
 .rename_i xs e;obtain⟨a,ys,rfl,h,q⟩:=ry.items e;split at p
  .rename_i hf;obtain⟨rfl,f2⟩:=wg rx hf.1;obtain⟨f3,f4⟩:=AV v q hf.2;exact⟨a,ys,rfl,h,f2,f3,by rw[f4];exact bv p (.bl _)⟩
  .exact p.elim
 .exact p.elim
def KN:OpD K mg (rIn K false) bIn.G:=DY
def GI:OpD K mg (rIn K true) Bl.G:=DY
def Hr:cI K mg (λxs H Q=>(∃p ys,xs=[.ref p]/\(SqL K H p ys\/SqT K H p ys)/\Q (.int ys.length) H)\/(∃z,xs=[.str z]/\z.length<=sizeLine/\Q (.int z.length) H)) aY.G:=λP H xs vs Q r0 p=>by
 replace p:BvP K mg P H Q (AL vs):=p;unfold AL at p;split at p
 .obtain⟨d,rfl,r⟩:=dO r0;split at p
  .rename_i xs e;obtain⟨a,ys,rfl,h,q⟩:=r.items e;exact .inl ⟨_,_,rfl,h,by rw[q.len];exact bv p (.int _)⟩
  .split at p
   .obtain rfl:=r.str;split at p
    .rename_i hl;exact .inr ⟨_,rfl,hl,bv p (.int _)⟩
    .exact p.elim
   .exact p.elim
 .exact p.elim
def Jl:cI K mg (λxs H Q=>∃i,xs=[.int i]/\Q (.int (if i<0 then -i else i)) H) er.G:=λP H xs vs Q r0 p=>by
 replace p:BvP K mg P H Q (BH vs):=p;unfold BH at p;split at p
 .obtain⟨d,rfl,r⟩:=dO r0;obtain rfl:=r.int;exact⟨_,rfl,bv p (.int _)⟩
 .exact p.elim
def FW:cI K mg (λxs H Q=>∃i j,xs=[.int i,.int j]/\Q (.int (if j>i then j else i)) H) sG.G:=λP H xs vs Q r0 p=>by
 replace p:BvP K mg P H Q (xn vs):=p;unfold xn at p;split at p
 .obtain⟨d,d',rfl,r,r'⟩:=qJ r0;obtain rfl:=r.int;obtain rfl:=r'.int;exact⟨_,_,rfl,bv p (.int _)⟩
 .exact p.elim
def Fv:cI K mg (λxs H Q=>∃i j,xs=[.int i,.int j]/\Q (.int (if j<i then j else i)) H) mT.G:=λP H xs vs Q r0 p=>by
 replace p:BvP K mg P H Q (xN vs):=p;unfold xN at p;split at p
 .obtain⟨d,d',rfl,r,r'⟩:=qJ r0;obtain rfl:=r.int;obtain rfl:=r'.int;exact⟨_,_,rfl,bv p (.int _)⟩
 .exact p.elim
def KL{bs:List Bool}(r:Rds K mg P H ds vs):jf vs=some bs->ds=bs.map V.bl:=
 r.ind (M:=λds vs=>∀bs,jf vs=some bs->ds=bs.map V.bl) (λbs q=>by cases q;rfl) (λ{d v ds vs} r _ ih bs q=>by
  cases v with
  |bl b=>obtain rfl:=ShR.bl (.inl r);obtain⟨b',q1,rfl⟩:=Mp.mp (show (jf vs).map (b :: ·)=some bs from q);rw[ih _ q1];rfl
  |_=>cases q) bs
def tV{bs:List Int}(r:Rds K mg P H ds vs):fX vs=some bs->ds=bs.map V.int:=
 r.ind (M:=λds vs=>∀bs,fX vs=some bs->ds=bs.map V.int) (λbs q=>by cases q;rfl) (λ{d v ds vs} r _ ih bs q=>by
  cases v with
  |int b=>obtain rfl:=ShR.int (.inl r);obtain⟨b',q1,rfl⟩:=Mp.mp (show (fX vs).map (b :: ·)=some bs from q);rw[ih _ q1];rfl
  |_=>cases q) bs
def zR:cI K mg (λxs H Q=>∃(a:Addr) (bs:List Bool),xs=[.ref a]/\SqL K H a (bs.map V.bl)/\Q (.bl (bs.all id)) H) qP.G:=λP H xs vs Q r0 p=>by
 replace p:BvP K mg P H Q (BQ vs):=p;unfold BQ at p;split at p
 .obtain⟨d,rfl,r⟩:=dO r0;obtain⟨a,ys,rfl,h,q⟩:=r.lstL;split at p
  .rename_i bs e;exact⟨a,bs,rfl,KL q e ▸ h,bv p (.bl _)⟩
  .exact p.elim
 .exact p.elim
def zH:cI K mg (λxs H Q=>∃(a:Addr) (ns:List Int),xs=[.ref a]/\SqL K H a (ns.map V.int)/\Q (.int ns.sum) H) b0.G:=λP H xs vs Q r0 p=>by
 replace p:BvP K mg P H Q (Dg vs):=p;unfold Dg at p;split at p
 .obtain⟨d,rfl,r⟩:=dO r0;obtain⟨a,ys,rfl,h,q⟩:=r.lstL;split at p
  .rename_i bs e;exact⟨a,bs,rfl,tV q e ▸ h,bv p (.int _)⟩
  .exact p.elim
 .exact p.elim
def rD:cI K mg (λxs H Q=>∃p ys,xs=[.ref p]/\((SqL K H p ys/\∀l,H l=none->Q (.ref l) (upd H l (.tup ys)))\/(SqT K H p ys/\Q (.ref p) H))) jX.G:=λP H xs vs Q r0 p=>by
 replace p:BvP K mg P H Q (sR vs):=p;unfold sR at p;split at p
 .obtain⟨d,rfl,r⟩:=dO r0;split at p
  .rename_i xs e;obtain⟨a,ys,rfl,h,q⟩:=r.items e;rcases h with h |h
   .exact⟨_,_,rfl,.inl ⟨h,bvT p q⟩⟩
   .exact⟨_,_,rfl,.inr ⟨h,bv p (.tup h q)⟩⟩
  .exact p.elim
 .exact p.elim
def Jq:cI K mg (λxs H Q=>(∃i,xs=[.int i]/\Q (.int i) H)\/∃k,xs=[.bl k]/\Q (.int (if k then 1 else 0)) H) qw.G:=λP H xs vs Q r0 p=>by
 replace p:BvP K mg P H Q (Bk vs):=p;unfold Bk at p;split at p
 .obtain⟨d,rfl,r⟩:=dO r0;obtain rfl:=r.int;exact .inl ⟨_,rfl,bv p (.int _)⟩
 .obtain⟨d,rfl,r⟩:=dO r0;obtain rfl:=r.bl;exact .inr ⟨_,rfl,bv p (.int _)⟩
 .exact p.elim
def Mf{kt:jd}{t c:Cl}{b:Bool}(ok:KitsOk K mg kt)(r:ShR K mg P H x v)(q:tyC v=some t)(k:kit kt t c=some b):∃tv,TyX K H x tv/\ClV mg t tv:=by
 cases v with
 |non=>obtain rfl:=r.non;cases q;exact⟨_,.of .non,rfl⟩
 |bl b=>obtain rfl:=r.bl;cases q;exact⟨_,.of (.bl _),rfl⟩
 |int b=>obtain rfl:=r.int;cases q;exact⟨_,.of (.int _),rfl⟩
 |str b=>obtain rfl:=r.str;cases q;exact⟨_,.of (.str _),rfl⟩
 |exc b=>obtain⟨a,C,rfl,m,e⟩:=r.exc;cases q;exact⟨_,.exc e (ok.xc _ (nH k) _ _ rfl m),_,rfl,m⟩
 |tup b=>obtain⟨a,ds,rfl,h,_⟩:=r.tup;cases q;exact⟨_,.sqT h,rfl⟩
 |lst b=>obtain⟨a,ds,rfl,e,_⟩:=r.lst;cases q;exact⟨_,.of (.lst e),rfl⟩
 |dct b=>obtain⟨a,ds,rfl,e,_⟩:=r.dct;cases q;exact⟨_,.of (.dK e),rfl⟩
 |_=>cases q
def DX{c:Cl}(r:ShR K mg P H x v)(q:clV v=some c):∃cv,fT x=some cv/\ClV mg c cv:=by
 cases v with
 |ty b=>obtain rfl:=r.ty;cases q;exact⟨_,rfl,rfl⟩
 |glb b=>obtain⟨a,rfl,m⟩:=r.glb;cases q;exact⟨_,rfl,_,rfl,m⟩
 |_=>cases q
def I0{cs:List Cl}(r:Rds K mg P H ds vs):sU vs=some cs->∃cvs,ds.mapM fT=some cvs/\Paired (ClV mg) cs cvs:=
 r.ind (M:=λds vs=>∀cs,sU vs=some cs->∃cvs,ds.mapM fT=some cvs/\Paired (ClV mg) cs cvs) (λcs q=>by cases q;exact⟨[],rfl,.nil⟩) (λr _ ih cs q=>by
  unfold sU at q;split at q
  .rename_i c cs' e1 e2;cases q;obtain⟨cv,h1,h2⟩:=DX (.inl r) e1;obtain⟨cvs,h3,h4⟩:=ih _ e2;refine⟨cv::cvs,?_,.cons h2 h4⟩;rw[List.mapM_cons,h1,h3];rfl
  .cases q) cs
def Gy{kt:jd}(ok:KitsOk K mg kt):cI K mg (λxs H Q=>(∃x c t v b,xs=[x,c]/\TyX K H x t/\fT c=some v/\W.kitOne K t v=some b/\Q (.bl b) H)\/
 (∃x tp cs t vs b,xs=[x,.ref tp]/\SqT K H tp cs/\TyX K H x t/\cs.mapM fT=some vs/\W.kitAny K t vs=some b/\Q (.bl b) H)) (bz kt).G:=λP H xs vs Q r0 p=>by
 replace p:BvP K mg P H Q (CG kt vs):=p;unfold CG at p;split at p
 .rename_i v c;obtain⟨d,d',rfl,r1,r2⟩:=qJ r0;split at p
  .rename_i t c0 cr e1 e2;split at p
   .rename_i b b' e4 e5;obtain⟨tv,h1,h2⟩:=Mf ok r1 e1 e5;by_cases ht:∃cs,c=.tup cs
    .obtain⟨cs,rfl⟩:=ht;obtain⟨a,es,rfl,h,q⟩:=r2.tup;obtain⟨cvs,h3,h4⟩:=I0 q e2;exact .inr ⟨_,_,_,tv,cvs,b,rfl,h,h1,h3,yb ok h2 h4 e4,bv p (.bl _)⟩
    .have e2':(clV c).map ([·])=some (c0::cr):=by
      cases c with
      |tup cs=>exact absurd ⟨cs,rfl⟩ ht
      |_=>exact e2
     obtain⟨cl,y1,y2⟩:=Mp.mp e2';cases y2;obtain⟨cv,h3,h4⟩:=DX r2 y1;have:kit kt t c0=some b:=by
      unfold gy at e4;rw[e5] at e4 ⊢;cases b' with
      |true=>exact e4
      |false=>unfold gy at e4;exact e4
     exact .inl ⟨_,_,tv,cv,b,rfl,h1,h3,ok.one _ (nH this) _ _ h2 h4,bv p (.bl _)⟩
   .exact p.elim
  .exact p.elim
 .exact p.elim
def jV(r:Rc K mg P H o (.lst us)):∃vs,o=.lst vs/\Rds K mg P H vs us:=by cases r with |lst r=>exact⟨_,rfl,r⟩
def wB(r:Rds K mg P H ds [v]):∃d,ds=[d]/\Rd K mg P H d v:=by cases r with |cons r rr=>cases rr;exact⟨_,rfl,r⟩
def yX:MmD K mg nz eX.G:=λP H n o u ds vs u' v Q np e hf r0 rs q k=>by
 replace q:nX u vs=some (u',v):=q;unfold nX at q;split at q
 .split at q
  .rename_i hl;cases q;obtain⟨xs,rfl,r⟩:=jV r0;obtain⟨d,rfl,rd⟩:=wB rs;exact⟨n,xs,d,rfl,rfl,e,by rw[r.len];exact hl,k _ _ trivial (.lst (r.append (.cons rd .nil))) .non⟩
  .cases q
 .cases q
def Ge:MmD K mg rPop qt.G:=λP H n o u ds vs u' v Q np e hf r0 rs q k=>by
 replace q:tP u vs=some (u',v):=q;unfold tP at q;split at q
 .split at q
  .rename_i w hw;cases q;obtain⟨xs,rfl,r⟩:=jV r0;cases rs;obtain⟨d,e2,rd⟩:=r.get hw;refine⟨n,xs,d,rfl,rfl,e,by rw[r.len];exact e2,k _ _ trivial (.lst ?_) rd⟩;rw[List.dropLast_eq_take,List.dropLast_eq_take,r.len];exact r.take _
  .cases q
 .cases q
def EA:BB K mg DB seL.G:=λP H n o u di vi d v u' Q np e hf r0 ri rd q k=>by
 replace q:sL u vi v=some u':=q;unfold sL at q;split at q
 .split at q
  .rename_i j hj;cases q;obtain⟨xs,rfl,r⟩:=jV r0;obtain rfl:=ri.int;exact⟨n,xs,_,j,rfl,rfl,e,by rw[r.len];exact hj,k _ trivial (.lst (r.set rd j))⟩
  .cases q
 .cases q
def Lc{y:V}{w:Val}{pd:PyData}(ry:Rep K H y pd)(es:cE 164 w=some pd){bs:List Bool}(r:Rds K mg P H ds vs):gG w vs=some bs->EqsR K H y pd ds bs:=
 r.ind
  (M:=λds vs=>∀bs,gG w vs=some bs->EqsR K H y pd ds bs) (λbs q=>by cases q;exact .nil) (λr _ ih bs q=>by
  unfold gG at q;split at q
  .rename_i b bs' e1 e2;cases q;unfold bo at e1;rw[es] at e1;split at e1
   .rename_i a c e3 e4;cases e4;split at e1
    .rename_i hs;cases e1;exact .cons (iA 164 _ _ _ (.inl r) e3) hs.1 (ih _ e2)
    .cases e1
   .cases e1
  .cases q) bs
theorem CI{w:Val}:∀{vs:List Val}{bs:List Bool},gG w vs=some bs->vs=[]\/∃pd,cE 164 w=some pd/\shp pd=true
 | [],_,_=>.inl rfl
 |
  x::xs,bs,e=>by
  right;unfold gG at e;split at e
  .rename_i b bs' e1 e2;unfold bo at e1;split at e1
   .rename_i a c e3 e4;split at e1
    .rename_i hs;exact⟨c,e4,hs.2⟩
    .cases e1
   .cases e1
  .cases e
def Cz:MtD K mg (oD K) fi.G:=λP H d v ds vs Q r hv rs p=>by
 replace p:BvP K mg P H Q (d9 v vs):=p;unfold d9 at p;split at p
 .obtain⟨a,xs,rfl,h,q⟩:=r.lstL;obtain⟨y,rfl,ry⟩:=dO rs;split at p
  .rename_i bs eb;split at p
   .rename_i hl;rcases CI eb with rfl |⟨pd,h3,h4⟩
    .cases eb;exact absurd hl (by simp)
    .have r3:=iA 164 _ _ _ ry h3;exact⟨a,y,bs,rfl,rfl,⟨xs,pd,h,r3,h4,Lc r3 h3 q eb⟩,hl,bv p (.int _)⟩
   .exact p.elim
  .exact p.elim
 .exact p.elim
end
abbrev MO3:=E3->R3 (Option Int)
noncomputable def Iz (e:E3):R3 (Option Int):=.ok none e
noncomputable def Hf (F:ME3) (e:E3):R3 (Option Int):=(F e).bind λt e1=>match rs e1 t with
 |some (.int i)=>.ok (some i) e1
 |_=>.stuck
noncomputable def vSl (F:ME3) (L U:MO3) (e:E3):R3 Tm:=(F e).bind λt e1=>(L e1).bind λlo e2=>(U e2).bind λhi e3=>match rs e3 t.drop with
 |some v=>(aSl v lo hi).at e3
 |none=>.stuck
structure POp where
 t:Nat
 G:MO3
noncomputable def oN:POp:=⟨1,Iz⟩
noncomputable def oS (a:PEx):POp:=⟨2,Hf a.G⟩
noncomputable def pSl (a:PEx) (l u:POp):PEx:=⟨23,vSl a.G l.G u.G⟩
noncomputable def vD0 (e:E3):R3 Tm:=.ok (.new (.dct [])) e
noncomputable def pD0:PEx:=⟨24,vD0⟩
def rdO(K:W.Frag)(mg:Pp)(ES:St->XK)(G:MO3):TO:=λσ H Q=>∃X N0 ns e,Sat K mg X N0 ns e σ H/\PG3 K mg X N0 ns e σ H (ES σ) (λo _ _ H'=>Q o H') (G e)
def rdO.el{K:W.Frag}{mg:Pp}{G:MO3}(h:rdO K mg ES G σ H Q){Z:Prop}(k:∀X N0 ns e,Sat K mg X N0 ns e σ H->PG3 K mg X N0 ns e σ H (ES σ) (λo _ _ H'=>Q o H') (G e)->Z):Z:=by obtain⟨X,N0,ns,e,S,p⟩:=h;exact k X N0 ns e S p
structure DO(K:W.Frag)(mg:Pp)(X:Cx)(ES:St->XK)(e:Option Expr)(F:POp):Prop where
 ok:PO X e (rdO K mg ES F.G)
section
variable{K:W.Frag}{mg:Pp}{X:Cx}{ES:St->XK}{e a:Expr}{p:PEx}{l u:POp}{lo hi:Option Expr}{pos p2:Pos}
def E6:DO K mg X ES none oN:=⟨PO.imp Fj λσ H Q zz=>rdO.el zz λY N0 ns e S p=>PG3.ret p S⟩
def F7(he:DE K mg X ES e p):DO K mg X ES (some e) (oS p):=⟨PO.imp (FU he.ok) λσ H Q zz=>rdO.el zz λY N0 ns e S p=>
 ⟨Y,
  N0,λ_=>True,ns,e,S,λ_ _=>trivial,PG3.imp p S λt e1 ns1 H1 a1 S1 p1 x r1=>by
  try dsimp only at p1
  split at p1
  .rename_i i q;obtain rfl:=(r1.sh S1 q).int;exact⟨_,rfl,p1.ret S1⟩
  .exact p1.elim⟩⟩
def L6{P:Addr->Prop}{H:Hp}{Q:VK}{x:V}{v:Val}{lo hi:Option Int}(r:ShR K mg P H x v)(p:BvP K mg P H Q (aSl v lo hi)):(A5 K x lo hi H Q\/CN K x lo hi H Q)\/BL x lo hi H Q:=by
 have cut:∀{vs us},Rds K mg P H vs us->Rds K mg P H (jQ vs lo hi) (gI us lo hi):=λr=>by unfold jQ gI;rw[r.len];exact (r.drop _).take _
 unfold aSl at p;split at p
 .obtain⟨a,ds,rfl,h,q⟩:=r.tup;split at p
  .exact p.elim
  .rename_i hn;exact .inl (.inr ⟨_,_,rfl,h,by rw[q.len];exact hn,bvT p (cut q)⟩)
 .obtain⟨a,ds,rfl,h,q⟩:=r.lstL;exact .inl (.inl ⟨_,_,rfl,h,bvL p (cut q)⟩)
 .obtain⟨a,ds,rfl,h,q⟩:=r.kl;exact .inl (.inl ⟨_,_,rfl,h,bvL p (cut q)⟩)
 .obtain rfl:=r.str;split at p
  .rename_i hz;exact .inr ⟨_,rfl,hz,bv p (.str _)⟩
  .exact p.elim
 .exact p.elim
def B0(hK:X.K=K)(he:DE K mg X ES e p)(hl:DO K mg X ES lo l)(hu:DO K mg X ES hi u):DE K mg X ES (.Subscript e (.Slice lo hi none p2) pos) (pSl p l u):=
 ⟨PE.imp (BW (slK hK) he.ok hl.ok hu.ok) λσ H Q zz=>zz.el λY N0 L ns e S hL p=>⟨Y,N0,L,ns,e,S,hL,PG3.imp p S λt e1 ns1 H1 a1 S1 p1 x rx=>⟨Y,N0,ns1,e1,S1,PG3.imp p1 S1 λlo e2 h_ H2 a2 S2 p2=>⟨Y,N0,h_,e2,S2,PG3.imp p2 S2 λhi e3 ns3 H3 a3 S3 p3=>by
  try dsimp only at p3
  split at p3
  .rename_i v q;exact L6 ((rx.drop (a2.trans S1 a3)).sh S3 q) (p3.bv S3 λa z=>hL a (a1.dom a (a2.dom a (a3.dom a z))))
  .exact p3.elim⟩⟩⟩⟩
def J5:DE K mg X ES (.Dict [] [] pos) pD0:=⟨PE.imp Bt λσ H Q ⟨Y,N0,L,ns,e,S,hl,p⟩ a ha=>PG3.bv (b:=.new (.dct [])) p S hl H a (.dK []) .refl ha trivial (.dct .nil)⟩
def B4(hK:X.K=K)(ha:DE K mg X ES a p)(he:∀g_,isTrue a X.env g_=(do let v <- g_;standAt a.pos;holding [v] (truthy v)):=by intro _;rfl):DT K mg X ES a (qTr p):=by
 subst hK;exact
  ⟨PT.imp (C4 ha.ok he) λσ H Q zz=>zz.el λY N0 ns e S p=>⟨Y,N0,λ_=>True,ns,e,S,λ_ _=>trivial,PG3.imp p S λt e1 ns1 H1 a1 S1 p1 x r1=>by
  try dsimp only at p1
  split at p1
  .rename_i b q;obtain⟨v,q1,q2⟩:=MK.mp q;have r:=r1.sh S1 q1;have k:=p1.ret S1;have items:∀{us:List Val},v.items=some us->some (!us.isEmpty)=some b->∃k,A9 X.K x H1 k/\Q k H1:=λ{us} e e2=>by
    obtain⟨a,vs,rfl,hq,rr⟩:=r.items e;have ee:us.isEmpty=vs.isEmpty:=by cases rr <;> rfl
    cases e2;rw[ee] at k;rcases hq with hq |hq
    .exact⟨_,.inl ⟨vs,hq,rfl⟩,k⟩
    .exact⟨_,.inr (.inl ⟨vs,hq,rfl⟩),k⟩
   cases v with
   |non=>obtain rfl:=r.non;cases q2;exact⟨_,rfl,k⟩
   |bl b=>obtain rfl:=r.bl;cases q2;exact⟨_,rfl,k⟩
   |int b=>obtain rfl:=r.int;cases q2;exact⟨_,rfl,k⟩
   |tup us=>exact items rfl q2
   |lst us=>exact items rfl q2
   |kl us=>exact items rfl q2
   |_=>cases q2
  .exact p1.elim⟩⟩
end
theorem ox{K:W.Frag}{mg:Pp}{P:Addr->Prop}{H:Hp}:∀(ns:List Int),Rds K mg P H (ns.map V.int) (ns.map Val.int)
 | []=>.nil
 |_::r=>.cons (.int _) (ox r)
structure PFx(ms:List Bool) where
 G:Fn3
noncomputable def PFx.fn {ms:List Bool} (p:PFx ms):PFn:=⟨ms,p.G⟩
noncomputable def PFx.none (ms:List Bool) (N:Nat:=0):PFx ms:=⟨λ_=>.stuck⟩
noncomputable def PFx.of (ms:List Bool) (N:Nat) (c:PSt):PFx ms:=⟨fnV ms N c.G⟩
section
variable{K:W.Frag}{mg:Pp}{P:Program}{w:World}{base:Heap}{fx:Str}{fst:Stmt}{k m:Nat}{ps N:List Str}{ms:List Bool}{x:PSt}
def okX(D:Def K mg fx fst)(S:FnScope N ps (aq fst))
 (hb:∀(kV doc pm:Value) (an:Option Addr) (cdv ct:Value) (us:List Value),us.length=ps.length->bindArgs (W.fnOf fx fx (c7 fst) (bD fst) (aq fst) .none kV doc pm an cdv ct) ⟨us,[]⟩=pure (ps.zip us))
 (j':N.Nodup->∀(f:Addr) (cdv:Value) (A:Around) (outer:List Env) (s:Shared) (H:Hp) (E:XK),Room k (A.deeper (envOfC fx (aq fst) s.heap.objs.size f cdv))->
  DSs K mg (eN (CX1 P w) P w K mg base N fx (aq fst) f cdv A outer s H E) (λ_=>E) (bD fst) x) (hn:ms.length=ps.length:=by rfl) (hm:N.length=m:=by rfl):Callee P w K mg base fx (k+1) ps (sp3 K mg (PFx.of ms m x).fn):=okP D S hb j' hn hm
def ok0(D:Def K mg fx fst)(S:FnScope N ps (aq fst))
 (hb:∀(kV doc pm:Value) (an:Option Addr) (cdv ct:Value) (us:List Value),us.length=ps.length->bindArgs (W.fnOf fx fx (c7 fst) (bD fst) (aq fst) .none kV doc pm an cdv ct) ⟨us,[]⟩=pure (ps.zip us)) (hn:ms.length=ps.length:=by rfl):Callee P w K mg base fx (k+1) ps (sp3 K mg (PFx.none ms).fn):=
 (okP (x:=xNo) (ms:=ms) (m:=N.length) D S hb (λ_ _ _ _ _ _ _ _ _=>⟨λ_ _ _ _ _ _ ⟨_,_,_,_,_,p⟩=>p.elim⟩) hn).imp λ_ _ _ _ ⟨_,_,_,_,_,p⟩=>p.elim
end
section
variable{K:W.Frag}{mg:Pp}{X:Cx}{ES:St->XK}{e:Expr}{p:PEx}{pos:Pos}
def zsS{ow:Bool}(i:Nat){x:Str}{k_:Pos}(hN:X.N.Nodup)(he:DE K mg X ES e p)(hi:X.N[i]?=some x:=by exact rfl)(hx:Loc X.env.scope x:=by first |exact Or.inl rfl |exact Or.inr rfl)(hs:swapsWith e (some (.Name x k_)) pos.line X.env=pure false:=by rfl)(hf:X.fn x=true\/X.env.scope.names.lookup x=some .local:=by first |exact .inl rfl |exact .inr rfl |assumption):DS K mg X ES (.Assign [.Name x k_] e pos) (ax ow i p):=Js hN hi hx he hs hf
def zgN(i:Nat){x:Str}(hN:X.N.Nodup)(hi:X.N[i]?=some x:=by exact rfl)(hx:Loc X.env.scope x:=by first |exact Or.inl rfl |exact Or.inr rfl)(hf:X.fn x=true\/X.env.scope.names.lookup x=some .local:=by first |exact .inl rfl |exact .inr rfl |assumption):DG K mg X (.Name x pos) (gtN i):=FV hN hi hx hf
end
section
variable(e:E3)
@[simp] theorem iU(a:α)(f:α->E3->R3 β):(R3.ok a e).bind f=f a e:=rfl
@[simp] theorem Kh(a:α)(f:α->E3->SR3):(R3.ok a e).toS f=f a e:=rfl
@[simp] theorem KZ(f:E3->SR3):(SR3.nx e).then f=f e:=rfl
@[simp] theorem K9(r:Rt)(f:E3->SR3):(SR3.rt r e).then f=.rt r e:=rfl
@[simp] theorem Ka(f:E3->SR3):(SR3.bk e).then f=.bk e:=rfl
@[simp] theorem JG(c:Str)(f:E3->SR3):(SR3.exc c e).then f=.exc c e:=rfl
@[simp] theorem qM(f:E3->SR3):(SR3.nx e).loop f=f e:=rfl
@[simp] theorem Kx(f:E3->SR3):(SR3.ct e).loop f=f e:=rfl
@[simp] theorem J4(f:E3->SR3):(SR3.bk e).loop f=.nx e:=rfl
@[simp] theorem Ku(r:SR3):r.unl none=r:=by cases r <;> rfl
@[simp] theorem Lx(k:Nat):(SR3.nx e).unl (some k)=.nx (unlock e k):=rfl
@[simp] theorem Dc:lockO e none=e:=rfl
@[simp] theorem AK(k:Nat):lockO e (some k)=lock e k:=rfl
@[simp] theorem wA:fj e none=e:=rfl
@[simp] theorem G9(v:Val):(Bv.val v).at e=.ok (.val v) e:=rfl
@[simp] theorem Gx(v:Val):(Bv.new v).at e=.ok (.new v) e:=rfl
@[simp] theorem Hu(v:Val):rs e (.val v)=some v:=rfl
@[simp] theorem JK(v:Val):rs e (.new v)=some v:=rfl
@[simp] theorem HK(i:Nat):rs e (.bor i)=(e[i]?).bind Sl.val:=rfl
@[simp] theorem JO(v:Val):(Tm.val v).drop=.val v:=rfl
@[simp] theorem HC(v:Val):(Tm.new v).drop=.val v:=rfl
@[simp] theorem Im(i:Nat):(Tm.bor i).drop=.bor i:=rfl
@[simp] theorem Eo:rss e []=some []:=rfl
@[simp] theorem C8(t:Tm)(ts:List Tm):rss e (t::ts)=match rs e t,rss e ts with
 |some v,some vs=>some (v::vs)
 |_,_=>none:=rfl
@[simp] theorem HB(v:Val):cT e (.val v)=some (e,v):=rfl
@[simp] theorem GB(v:Val):cT e (.new v)=some (e,v):=rfl
@[simp] theorem yD:dem e []=some (e,[]):=rfl
@[simp] theorem Ep(t:Tm)(ts:List Tm):dem e (t::ts)=match cT e t with
 |some (e1,v)=>match dem e1 ts with
  |some (e2,vs)=>some (e2,v::vs)
  |none=>none
 |none=>none:=rfl
@[simp] theorem GR(b:Bool):bOf (some (.bl b))=some b:=rfl
@[simp] theorem Kz(i:Nat):(af i).G e=match e[i]? with
 |some (.sh v)=>.ok (.val v) e
 |some .no=>.stuck
 |some _=>.ok (.bor i) e
 |none=>.stuck:=rfl
@[simp] theorem K1(i:Int):(ah i).G e=.ok (.val (.int i)) e:=rfl
@[simp] theorem v_bl(i:Bool):(pBl i).G e=.ok (.val (.bl i)) e:=rfl
@[simp] theorem Lh(i:Str):(bS i).G e=.ok (.val (.str i)) e:=rfl
@[simp] theorem v_ty(i:String):(pTy i).G e=.ok (.val (.ty i)) e:=rfl
@[simp] theorem KY(i:Str):(xC i).G e=.ok (.val (.glb i)) e:=rfl
@[simp] theorem v_un(o:PU1)(a:PEx):(pUn o a).G e=(a.G e).bind λt e1=>match rs e1 t with
 |some v=>(o.G v).at e1
 |none=>.stuck:=rfl
@[simp] theorem v_op(o:PO2)(a b:PEx):(pOp o a b).G e=(a.G e).bind λt1 e1=>(b.G e1).bind λt2 e2=>match rs e2 t1.drop,rs e2 t2 with
 |some v1,some v2=>(o.G v1 v2).at e2
 |_,_=>.stuck:=rfl
@[simp] theorem Kv:ag.G e=.ok [] e:=rfl
@[simp] theorem Gv(a:PEx)(r:PAs):(aa a r).G e=(a.G e).bind λt e1=>(r.G e1).bind λts e2=>.ok (t.drop::ts) e2:=rfl
@[simp] theorem v_fn(o:PBf)(a:PAs):(pFn o a).G e=(a.G e).bind λts e1=>match rss e1 ts with
 |some vs=>(o.G vs).at e1
 |none=>.stuck:=rfl
@[simp] theorem LW(a:PAs):(bg a).G e=(a.G e).bind λts e1=>match dem e1 ts with
 |some (e2,vs)=>if vs.length<=16777216 then .ok (.val (.tup vs)) e2 else .stuck
 |none=>.stuck:=rfl
@[simp] theorem L7(a:PAs):(cX a).G e=(a.G e).bind λts e1=>match dem e1 ts with
 |some (e2,vs)=>if vs.length<=16777216 then .ok (.new (.lst vs)) e2 else .stuck
 |none=>.stuck:=rfl
@[simp] theorem L8(a b:PEx):(i7 a b).G e=(a.G e).bind λt e1=>match bOf (rs e1 t) with
 |some true=>b.G e1
 |some false=>.ok (.val (.bl false)) e1
 |none=>.stuck:=rfl
@[simp] theorem y_or(a b:PEx):(pOr a b).G e=(a.G e).bind λt e1=>match bOf (rs e1 t) with
 |some true=>.ok (.val (.bl true)) e1
 |some false=>b.G e1
 |none=>.stuck:=rfl
@[simp] theorem Ks(a:PEx):(BV a).G e=(a.G e).bind λt e1=>match bOf (rs e1 t) with
 |some b=>.ok (.val (.bl (!b))) e1
 |none=>.stuck:=rfl
@[simp] theorem c_of(a:PEx):(qOf a).G e=(a.G e).bind λt e1=>match bOf (rs e1 t) with
 |some b=>.ok b e1
 |none=>.stuck:=rfl
@[simp] theorem c_tr(a:PEx):(qTr a).G e=(a.G e).bind λt e1=>match (rs e1 t).bind om with
 |some b=>.ok b e1
 |none=>.stuck:=rfl
@[simp] theorem c_an(a b:PTs):(qAn a b).G e=(a.G e).bind λk e1=>if k=true then b.G e1 else .ok false e1:=rfl
@[simp] theorem c_o(a b:PTs):(qO a b).G e=(a.G e).bind λk e1=>if k=true then .ok true e1 else b.G e1:=rfl
@[simp] theorem c_no(a:PTs):(qNo a).G e=(a.G e).bind λk e1=>.ok (!k) e1:=rfl
@[simp] theorem x_nx:xNx.G e=.nx e:=rfl
@[simp] theorem x_bk:xBk.G e=.bk e:=rfl
@[simp] theorem HL:xB.G e=.rt (.val .non) e:=rfl
@[simp] theorem Mh(a:PEx):(ay a).G e=(a.G e).toS nD:=rfl
@[simp] theorem F5(v:Val):nD (.val v) e=.rt (.val v) e:=rfl
@[simp] theorem FE(v:Val):nD (.new v) e=.rt (.new v) e:=rfl
@[simp] theorem E5(i:Nat):nD (.bor i) e=match e[i]? with
 |some (.sh v)=>.rt (.val v) e
 |some (.ow v)=>.rt (.new v) (e.set i .no)
 |some (.mu _)=>.rt (.par i) e
 |_=>.stuck:=rfl
@[simp] theorem Gs(a:PEx):(aM a).G e=(a.G e).toS λ_ e1=>.nx e1:=rfl
@[simp] theorem Ef(a b:PSt):(ak a b).G e=(a.G e).then b.G:=rfl
@[simp] theorem x_if(c:PTs)(a b:PSt):(xIf c a b).G e=(c.G e).toS λk e1=>if k=true then a.G e1 else b.G e1:=rfl
@[simp] theorem Lp(o:Bool)(i:Nat)(a:PEx):(ax o i a).G e=(a.G e).toS (je o i):=rfl
@[simp] theorem Ll:Sl.no.pl=true:=rfl
@[simp] theorem LK(v:Val):(Sl.sh v).pl=true:=rfl
@[simp] theorem Ez(o:Bool)(i:Nat)(v:Val):je o i (.val v) e=match e[i]? with
 |some s0=>if s0.pl=true then .nx (e.set i (.sh v)) else .stuck
 |none=>.stuck:=by unfold je;rfl
@[simp] theorem C0(i:Nat)(v:Val):je true i (.new v) e=match e[i]? with
 |some s0=>if s0.pl=true then .nx (e.set i (.ow v)) else .stuck
 |none=>.stuck:=by unfold je;rfl
@[simp] theorem AX(i:Nat)(v:Val):je false i (.new v) e=match e[i]? with
 |some s0=>if s0.pl=true then .nx (e.set i (.sh v)) else .stuck
 |none=>.stuck:=by unfold je;rfl
@[simp] theorem g_n(i:Nat)(v:Val):(gtN i).G v e=match e[i]? with
 |some s=>if s.pl=true then some (e.set i (.sh v)) else none
 |none=>none:=rfl
@[simp] theorem g_sn:fH.G [] e=some e:=rfl
@[simp] theorem g_sc(a:PGt)(b:PGs)(v:Val)(vs:List Val):(bQ a b).G (v::vs) e=(a.G v e).bind λe1=>b.G vs e1:=rfl
@[simp] theorem g_t(n:Nat)(a:PGs)(vs:List Val):(gtT n a).G (.tup vs) e=if vs.length=n then a.G vs e else none:=rfl
@[simp] theorem JS(a:PEx)(g:PGt):(j3 a g).G e=(a.G e).toS λt e1=>match cT e1 t with
 |some (e2,v)=>match g.G v e2 with
  |some e3=>.nx e3
  |none=>.stuck
 |none=>.stuck:=rfl
@[simp] theorem Kc(i j:Nat)(a:PAs):(gk i j a).G e=(a.G e).toS λts e1=>match dem e1 ts with
 |some (e2,[v,u])=>match (pN i v e2).bind (pN j u) with
  |some e3=>.nx e3
  |none=>.stuck
 |_=>.stuck:=rfl
@[simp] theorem LQ(i:Nat)(v:Val):pN i v e=match e[i]? with
 |some s=>if s.pl=true then some (e.set i (.sh v)) else none
 |none=>none:=rfl
@[simp] theorem LU(i:Nat)(o:PO2)(a:PEx):(ub i o a).G e=match e[i]? with
 |some (.sh x)=>(a.G e).toS λt e1=>match rs e1 t with
  |some y=>match o.G x y with
   |.val z=>match pN i z e1 with
    |some e2=>.nx e2
    |none=>.stuck
   |_=>.stuck
  |none=>.stuck
 |_=>.stuck:=rfl
@[simp] theorem FD(c:Str)(a:PAs):(eT c a).G e=(a.G e).toS λts e1=>if ts.length<=16777216 then .exc c e1 else .stuck:=rfl
@[simp] theorem KC(i:Nat)(w:PSe)(k a:PEx):(tQ i w k a).G e=(a.G e).toS λt e1=>match (e1[i]?).bind Sl.mv with
 |none=>.stuck
 |some _=>(k.G e1).toS λt2 e2=>match rs e2 t2 with
  |none=>.stuck
  |some vi=>match cT e2 t.drop with
   |none=>.stuck
   |some (e3,v)=>match e3[i]? with
    |none=>.stuck
    |some s=>match s.mv with
     |none=>.stuck
     |some u=>match w.G u vi v with
      |some u'=>.nx (e3.set i (s.re u'))
      |none=>.stuck:=rfl
@[simp] theorem Lu(v:Val):(Sl.ow v).mv=some v:=rfl
@[simp] theorem J6(v:Val):(Sl.mu v).mv=some v:=rfl
@[simp] theorem Mc(v u:Val):(Sl.ow v).re u=.ow u:=rfl
@[simp] theorem LX(v u:Val):(Sl.mu v).re u=.mu u:=rfl
@[simp] theorem Gn(v:Val):(Sl.ow v).val=some v:=rfl
@[simp] theorem Jj(v:Val):(Sl.mu v).val=some v:=rfl
@[simp] theorem Ly(i:Nat)(m:PMm)(a:PAs):(ia i m a).G e=match e[i]? with
 |some s=>if (s.mv.map fB)=some true then (a.G e).bind λts e1=>match dem e1 ts with
  |some (e2,vs)=>match e2[i]? with
   |some s2=>match s2.mv with
    |some u=>match m.G u vs with
     |some (u',v)=>.ok (.val v) (e2.set i (s2.re u'))
     |none=>.stuck
    |none=>.stuck
   |none=>.stuck
  |none=>.stuck else .stuck
 |none=>.stuck:=rfl
@[simp] theorem HZ(i:Nat)(m:PMm):(qF i m).G e=match e[i]? with
 |some s=>if (s.mv.map fB)=some true then (match s.mv with
  |some u=>match m.G u [] with
   |some (u',v)=>.ok (.val v) (e.set i (s.re u'))
   |none=>.stuck
  |none=>.stuck) else .stuck
 |none=>.stuck:=by
 show og i m.G nZ e=_;unfold og;cases q:e[i]? with
 |none=>rfl
 |
  some s=>
  dsimp only;split
  .simp only[nZ,iU,yD,rn,q];try rfl
  .rfl
@[simp] theorem Ct(xs:List Val):fB (.lst xs)=true:=rfl
@[simp] theorem Ib(m:PMv)(a:PEx)(b:PAs):(p8 m a b).G e=(a.G e).bind λt e1=>if (rs e1 t).map fB=some true then (b.G e1).bind λts e2=>(match rs e2 t.drop,rss e2 ts with
 |some v,some vs=>if fB v=true then (m.G v vs).at e2 else .stuck
 |_,_=>.stuck) else .stuck:=rfl
@[simp] theorem LG(a:PEx):(bj a).G e=(a.G e).bind λt e1=>match gE t e1 with
 |some p=>.ok p e1
 |none=>.stuck:=rfl
@[simp] theorem Lw(a:PAs):(xg a).G e=(a.G e).bind λts e1=>match ts with
 | [t,u]=>(match gE t e1,gE u e1 with
  |some (xs,k),some (ys,none)=>.ok (List.zipWith (λx y=>.tup [x,y]) xs ys,k) e1
  |_,_=>.stuck)
 |_=>.stuck:=rfl
@[simp] theorem IV(v:Val):gE (.val v) e=(fY v).map λxs=>(xs,none):=rfl
@[simp] theorem Jz(v:Val):gE (.new v) e=(fY v).map λxs=>(xs,none):=rfl
@[simp] theorem JQ(k:Nat):gE (.bor k) e=match e[k]? with
 |some (.sh v)=>(fY v).map λxs=>(xs,none)
 |some (.ow (.lst xs))=>some (xs,some k)
 |some (.mu (.lst xs))=>some (xs,some k)
 |_=>none:=rfl
@[simp] theorem Jr(xs:List Val):fY (.tup xs)=some xs:=rfl
@[simp] theorem JP(xs:List Val):fY (.lst xs)=some xs:=rfl
@[simp] theorem L9(a:PAs):(i8 a).G e=(a.G e).bind λts e1=>match (rss e1 ts).bind hU with
 |some xs=>.ok (xs,none) e1
 |none=>.stuck:=rfl
@[simp] theorem Kr(a:PAs):(wu a).G e=(a.G e).bind λts e1=>match (rss e1 ts).bind rJ with
 |some xs=>.ok (xs,none) e1
 |none=>.stuck:=rfl
@[simp] theorem Lj(i:PIt)(g:PGt)(b:PSt):(gN i g b).G e=(i.G e).toS λp e1=>(dN g.G b.G p.1 (lockO e1 p.2)).unl p.2:=rfl
@[simp] theorem iM(g:MG3)(B:MS3):dN g B [] e=.nx e:=rfl
theorem dS(g:MG3)(B:MS3)(v:Val)(vs:List Val):dN g B (v::vs) e=match g v e with
 |some e1=>(B e1).loop (dN g B vs)
 |none=>.stuck:=rfl
def gh(c:PTs)(b:PSt):(xWh c b).G e=(c.G e).toS λk e1=>if k=true then (b.G e1).loop (xWh c b).G else .nx e1:=AY c.G b.G e
@[simp] theorem v_lc(i:PIt)(sub:Pw)(hs:(sub.filterMap id).Nodup)(g:PGt)(c:PTs)(a:PEx):(pLC i sub hs g c a).G e=(i.G e).bind λp e1=>match lcV g.G c.G a.G p.1 [] (bU sub (lockO e1 p.2)) with
 |.ok ys e2=>if ys.length<=16777216 then .ok (.new (.lst ys)) (fj (aS sub e2 (lockO e1 p.2)) p.2) else .stuck
 |_=>.stuck:=rfl
@[simp] theorem JL(f:PFn)(a:PAs):(ai f a).G e=(a.G e).bind λts e1=>match rss e1 ts with
 |none=>.stuck
 |some vs=>if okA e1 f.ms ts=true then (match f.G vs with
  |.stuck=>.stuck
  |.ok r mv=>if (aP e1 f.ms ts).isEmpty || (ka r&&mv.all cD) then .ok (r.tm ts) (aS (aL f.ms ts) (aC f.ms mv) e1) else (match n0 e1 (aP e1 f.ms ts) with
   |some e2=>.ok (r.tm ts) (aS (aL f.ms ts) (aC f.ms mv) e2)
   |none=>.stuck)
  |.exc c mv=>if (aP e1 f.ms ts).isEmpty || mv.all cD then .exc c (aS (aL f.ms ts) (aC f.ms mv) e1) else .stuck) else .stuck:=rfl
@[simp] theorem JB(ts:List Tm)(v:Val):(Rt.val v).tm ts=.val v:=rfl
@[simp] theorem Jk(ts:List Tm)(v:Val):(Rt.new v).tm ts=.new v:=rfl
@[simp] theorem o_n:oN.G e=.ok none e:=rfl
@[simp] theorem o_s(a:PEx):(oS a).G e=(a.G e).bind λt e1=>match rs e1 t with
 |some (.int i)=>.ok (some i) e1
 |_=>.stuck:=rfl
@[simp] theorem v_sl(a:PEx)(l u:POp):(pSl a l u).G e=(a.G e).bind λt e1=>(l.G e1).bind λlo e2=>(u.G e2).bind λhi e3=>match rs e3 t.drop with
 |some v=>(aSl v lo hi).at e3
 |none=>.stuck:=rfl
@[simp] theorem v_d0:pD0.G e=.ok (.new (.dct [])) e:=rfl
theorem aB(ms:List Bool)(N:Nat)(c:PSt)(vs:List Val):(fnP ms N c).G vs=if vs.length=ms.length then (match c.G (sls ms vs++List.replicate (N-vs.length) .no) with
 |.nx e=>(match muV ms e with |some mv=>.ok (.val .non) mv |none=>.stuck)
 |.rt r e=>(match muV ms e with |some mv=>.ok r mv |none=>.stuck)
 |.exc c e=>(match muV ms e with |some mv=>.exc c mv |none=>.stuck)
 |_=>.stuck) else .stuck:=rfl
theorem jt(ms:List Bool)(N:Nat)(c:PSt)(vs:List Val):(PFx.of ms N c).G vs=if vs.length=ms.length then (match c.G (sls ms vs++List.replicate (N-vs.length) .no) with
 |.nx e=>(match muV ms e with |some mv=>.ok (.val .non) mv |none=>.stuck)
 |.rt r e=>(match muV ms e with |some mv=>.ok r mv |none=>.stuck)
 |.exc c e=>(match muV ms e with |some mv=>.exc c mv |none=>.stuck)
 |_=>.stuck) else .stuck:=rfl
@[simp] theorem K3(p:PFx ms):p.fn.ms=ms:=rfl
@[simp] theorem fx_G(p:PFx ms)(vs:List Val):p.fn.G vs=p.G vs:=rfl
end
@[simp] theorem J1(i j:Int):aX.G (.int i) (.int j)=.val (.int (i+j)):=rfl
@[simp] theorem LJ(i j:Int):eM.G (.int i) (.int j)=.val (.int (i-j)):=rfl
@[simp] theorem k_lt(i j:Int):bLt.G (.int i) (.int j)=.val (.bl (decide (i<j))):=rfl
@[simp] theorem k_gt(i j:Int):bGt.G (.int i) (.int j)=.val (.bl (decide (j<i))):=rfl
@[simp] theorem k_ge(i j:Int):bGe.G (.int i) (.int j)=.val (.bl (decide (j<=i))):=rfl
@[simp] theorem Kw(i j:Int):rl.G (.int i) (.int j)=.val (.int (i+j)):=rfl
@[simp] theorem Mj(i:Int):Cc.G (.int i)=.val (.int (-i)):=rfl
def bE(c:CMulA i j):aV.G (.int i) (.int j)=.val (.int (i*j)):=by show BD (.int i) (.int j)=_;unfold BD aIc;dsimp only;rw[if_pos c]
def j6(c:CDivB i j):jr.G (.int i) (.int j)=.val (.int (i.fdiv j)):=by show CK (.int i) (.int j)=_;unfold CK aIc;dsimp only;rw[if_pos c]
def fD(c:j≠0):cz.G (.int i) (.int j)=.val (.int (i.fmod j)):=by show CY (.int i) (.int j)=_;unfold CY aIc;dsimp only;rw[if_pos c]
def qK(c:jR i j):gp.G (.int i) (.int j)=.val (.int (i^j.toNat)):=by show Cg (.int i) (.int j)=_;unfold Cg aIc;dsimp only;rw[if_pos c]
def K7(c:jR i j):qW.G (.int i) (.int j)=.val (.int (i*2^j.toNat)):=by show C6 (.int i) (.int j)=_;unfold C6 aIc;dsimp only;rw[if_pos c]
@[simp] theorem k_ix(x:Val)(i:Int):bIx.G x (.int i)=match x.items with
 |some xs=>(match atI xs i with
  |some v=>.val v
  |none=>.stuck)
 |none=>.stuck:=by show aIx x (.int i)=_;unfold aIx;cases x.items <;> rfl
@[simp] theorem JH(xs:List Val):(Val.tup xs).items=some xs:=rfl
@[simp] theorem IT(xs:List Val):(Val.lst xs).items=some xs:=rfl
@[simp] theorem KJ(xs:List Val):(Val.kl xs).items=some xs:=rfl
@[simp] theorem k_eq(x y:Val):bEq.G x y=match bo x y with
 |some b=>.val (.bl b)
 |none=>.stuck:=by show aEq false x y=_;unfold aEq;cases bo x y <;> rfl
@[simp] theorem k_ne(x y:Val):bNe.G x y=match bo x y with
 |some b=>.val (.bl (!b))
 |none=>.stuck:=by show aEq true x y=_;unfold aEq;cases bo x y <;> rfl
@[simp] theorem Eb(x y:Int):bo (.int x) (.int y)=some (x==y):=rfl
def eq_str(hx:PyData.strOk x=true)(hy:PyData.strOk y=true):bo (.str x) (.str y)=some (x==y):=by unfold bo;show (if shp (.str x)=true/\shp (.str y)=true then _ else _)=_;rw[if_pos ⟨gU hx (MV _),gU hy (MV _)⟩];rfl
@[simp] theorem k_is(x:Val):bIs.G x .non=match x with
 |.non=>.val (.bl true)
 |_=>.val (.bl false):=by cases x <;> rfl
@[simp] theorem Kb(v:Val):aY.G [v]=match v.items with
 |some xs=>.val (.int xs.length)
 |none=>(match v with
  |.str z=>if z.length<=16777216 then .val (.int z.length) else .stuck
  |_=>.stuck):=rfl
@[simp] theorem Kl(i:Int):er.G [.int i]=.val (.int (if i<0 then -i else i)):=rfl
@[simp] theorem Lo(i j:Int):sG.G [.int i,.int j]=.val (.int (if j>i then j else i)):=rfl
@[simp] theorem LH(i j:Int):mT.G [.int i,.int j]=.val (.int (if j<i then j else i)):=rfl
@[simp] theorem Mm(xs:List Val):qP.G [.lst xs]=match jf xs with
 |some bs=>.val (.bl (bs.all id))
 |none=>.stuck:=rfl
@[simp] theorem LC(xs:List Val):b0.G [.lst xs]=match fX xs with
 |some bs=>.val (.int bs.sum)
 |none=>.stuck:=rfl
@[simp] theorem EH(v:Val):jX.G [v]=match v.items with
 |some xs=>.val (.tup xs)
 |none=>.stuck:=rfl
@[simp] theorem Jd(b:Bool):qw.G [.bl b]=.val (.int (if b then 1 else 0)):=rfl
@[simp] theorem kM(xs:List Val)(v:Val):eX.G (.lst xs) [v]=if xs.length<16777216 then some (.lst (xs++[v]),.non) else none:=rfl
@[simp] theorem bO:∀(bs:List Int),fX (bs.map Val.int)=some bs
 | []=>rfl
 |b::r=>by show (fX (r.map Val.int)).map (b :: ·)=_;rw[bO r];rfl
def Hv(b:Bool)(ms:List Bool)(v:Val)(vs:List Val):sls (b::ms) (v::vs)=sl1 b v::sls ms vs:=rfl
def E7:sls [] []=[]:=rfl
def Ko(v:Val):sl1 true v=.mu v:=rfl
def K8(v:Val):sl1 false v=.sh v:=rfl
section
variable(e:E3)
def EJ:okA e [] []=true:=rfl
def IA(i:Nat)(ms:List Bool)(ts:List Tm):okA e (true::ms) (.bor i::ts)=(((e[i]?).bind Sl.mv).isSome && !(ik i ts)&&okA e ms ts):=rfl
def Gb(v:Val)(ms:List Bool)(ts:List Tm):okA e (false::ms) (.val v::ts)=okA e ms ts:=rfl
def BJ(i:Nat):ik i []=false:=rfl
def Ir(i:Nat)(v:Val)(ts:List Tm):ik i (.val v::ts)=ik i ts:=rfl
def Ap:aP e [] []=[]:=rfl
def El(v:Val)(ms:List Bool)(ts:List Tm):aP e (false::ms) (.val v::ts)=aP e ms ts:=rfl
def G8(t:Tm)(ms:List Bool)(ts:List Tm):aP e (true::ms) (t::ts)=aP e ms ts:=by cases t <;> rfl
end
def AF:aL [] []=[]:=rfl
def E2(b:Bool)(t:Tm)(ms:List Bool)(ts:List Tm):aL (b::ms) (t::ts)=nV b t::aL ms ts:=rfl
def FC(i:Nat):nV true (.bor i)=some i:=rfl
def IG(t:Tm):nV false t=none:=by cases t <;> rfl
def A0(e:E3):aS [] [] e=e:=rfl
def ID(o:Option Nat)(sub:Pw)(s:Sl)(i e:E3):aS (o::sub) (s::i) e=aS sub i (fO o s e):=rfl
theorem FT(i:Nat)(v:Val)(e:E3):fO (some i) (.mu v) e=match e[i]? with
 |some t=>e.set i (t.re v)
 |none=>e:=rfl
def Ij(s:Sl)(e:E3):fO none s e=e:=rfl
def Ba(vs:List Val):aC [] vs=[]:=rfl
def GO(ms:List Bool)(v:Val)(vs:List Val):aC (true::ms) (v::vs)=.mu v::aC ms vs:=rfl
def Io(ms:List Bool)(vs:List Val):aC (false::ms) vs=.no::aC ms vs:=by cases vs <;> rfl
def FA(e:E3):muV [] e=some []:=by cases e <;> rfl
def JW(ms:List Bool)(v:Val)(e:E3):muV (true::ms) (.mu v::e)=(muV ms e).map (v :: ·):=rfl
def KG(ms:List Bool)(s:Sl)(e:E3):muV (false::ms) (s::e)=muV ms e:=by cases s <;> rfl
def x6(v:Val):ka (.val v)=flatV v:=rfl
def yo(v:Val):ka (.new v)=cD v:=rfl
def zk(xs:List Val):cD (.lst xs)=cM xs:=rfl
def xu:cM []=true:=by simp [cM]
def uN(v:Val)(vs:List Val):cM (v::vs)=(flatV v&&cM vs):=by simp [cM]
def zg(i:Int):flatV (.int i)=true:=by simp [flatV]
def BZ(i:Bool):flatV (.bl i)=true:=by simp [flatV]
def za(i:Str):flatV (.str i)=true:=by simp [flatV]
def AB:flatV .non=true:=by simp [flatV]
def zq(xs:List Val):flatV (.tup xs)=cM xs:=by simp [flatV]
def cC(h0:0<=i)(h:l[i.toNat]?=some x):atI l i=some x:=by have hl:=(u_.mp h).1;unfold atI ixN;rw[if_pos h0,if_pos (by omega)];exact h
def Av(h0:0<=i)(h:i.toNat<n):ixN n i=some i.toNat:=by unfold ixN;rw[if_pos h0,if_pos (by omega)]
section
variable(a b c d:α)(l:List α)
def ati0:atI (a::l) 0=some a:=cC (by decide) rfl
def ati1:atI (a::b::l) 1=some b:=cC (by decide) rfl
def ati2:atI (a::b::c::l) 2=some c:=cC (by decide) rfl
def ati3:atI (a::b::c::d::l) 3=some d:=cC (by decide) rfl
end
def ixn0(n:Nat):ixN (n+1) 0=some 0:=Av (i:=0) (by decide) (by show 0<n+_;omega)
def ixn1(n:Nat):ixN (n+2) 1=some 1:=Av (i:=1) (by decide) (by show 1<n+_;omega)
theorem Kj(xs:List Val)(k:Int)(v:Val):seL.G (.lst xs) (.int k) v=match ixN xs.length k with
 |some j=>some (.lst (xs.set j v))
 |none=>none:=rfl
mutual
def vq:Val->Val->Bool
 |.non,.non=>true
 |.bl a,.bl b=>a==b
 |.bl a,.int j=>(if a then 1 else 0)==j
 |.int i,.bl b=>i==(if b then 1 else 0)
 |.int i,.int j=>i==j
 |.str x,.str y=>x==y
 |.tup xs,.tup ys=>vqs xs ys
 |.lst xs,.lst ys=>vqs xs ys
 |_,_=>false
def vqs:List Val->List Val->Bool
 | [],[]=>true
 |x::xs,y::ys=>vq x y&&vqs xs ys
 |_,_=>false
end
mutual
def wfV:Nat->Val->Bool
 |_,.non=>true
 |_,.bl _=>true
 |_,.int _=>true
 |_,.str x=>PyData.strOk x
 |k+1,.tup xs=>gj k xs
 |k+1,.lst xs=>gj k xs
 |_,_=>false
def gj:Nat->List Val->Bool
 |_,[]=>true
 |k,x::xs=>wfV k x&&gj k xs
end
mutual
def gi:Val->PyData
 |.bl b=>.bool b
 |.int i=>.int i
 |.str x=>.str x
 |.tup xs=>.tuple (eJ xs)
 |.lst xs=>.list (eJ xs)
 |_=>.none
def eJ:List Val->List PyData
 | []=>[]
 |x::xs=>gi x::eJ xs
end
mutual
theorem oo:∀(k:Nat) (v:Val),wfV k v=true->(∀j,k<j->cE j v=some (gi v))/\(gi v).canLay0=true/\(gi v).depth<=k
 |k,.non,_=>⟨λj hj=>by cases j with |zero=>exact absurd hj (NS _) |succ j=>rfl,rfl,MV _⟩
 |k,.bl b,_=>⟨λj hj=>by cases j with |zero=>exact absurd hj (NS _) |succ j=>rfl,rfl,MV _⟩
 |k,.int b,_=>⟨λj hj=>by cases j with |zero=>exact absurd hj (NS _) |succ j=>rfl,rfl,MV _⟩
 |k,.str b,w=>⟨λj hj=>by cases j with |zero=>exact absurd hj (NS _) |succ j=>rfl,by cases k <;> exact w,MV _⟩
 |0,.tup xs,w=>absurd w y_
 |0,.lst xs,w=>absurd w y_
 |
  k+1,.tup xs,w=>by
  obtain⟨h1,h2,h3⟩:=lb k xs w;exact⟨λj hj=>by cases j with |zero=>exact absurd hj (NS _) |succ j=>simp only[cE,gi,h1 j (Nat.lt_of_succ_lt_succ hj),Option.map_some],h2,by simpa [gi,PyData.depth] using h3⟩
 |
  k+1,.lst xs,w=>by
  obtain⟨h1,h2,h3⟩:=lb k xs w;exact⟨λj hj=>by cases j with |zero=>exact absurd hj (NS _) |succ j=>simp only[cE,gi,h1 j (Nat.lt_of_succ_lt_succ hj),Option.map_some],h2,by simpa [gi,PyData.depth] using h3⟩
 |k,.ty _,w=>by cases k <;> exact absurd w y_
 |k,.glb _,w=>by cases k <;> exact absurd w y_
 |k,.exc _,w=>by cases k <;> exact absurd w y_
 |k,.kl _,w=>by cases k <;> exact absurd w y_
 |k,.dct _,w=>by cases k <;> exact absurd w y_
 |k,.set _,w=>by cases k <;> exact absurd w y_
theorem lb:∀(k:Nat) (vs:List Val),gj k vs=true->(∀j,k<j->d7 j vs=some (eJ vs))/\PyData.canLayAll0 (eJ vs)=true/\PyData.depthAll (eJ vs)<=k
 |k,[],_=>⟨λj hj=>by simp [d7,eJ],rfl,MV _⟩
 |
  k,v::vs,w=>by
  have w':(wfV k v&&gj k vs)=true:=w;rw[w_] at w';obtain⟨h1,h2,h3⟩:=oo k v w'.1;obtain⟨i1,i2,i3⟩:=lb k vs w'.2;exact⟨λj hj=>by simp [d7,eJ,h1 j hj,i1 j hj],by simp [eJ,PyData.canLayAll0,h2,i2],Nat.max_le.mpr ⟨h3,i3⟩⟩
end
mutual
theorem zE:∀(k:Nat) (v u:Val),wfV k v=true->wfV k u=true->PyData.eqv (gi v) (gi u)=vq v u
 |
  k,v,u,hv,hu=>by
  cases v <;> first |(cases k <;> exact absurd hv y_) |skip
  all_goals (cases u <;> first |(cases k <;> exact absurd hu y_) |rfl |(cases k with |zero=>exact absurd hv y_ |succ k=>exact vR k _ _ hv hu))
theorem vR:∀(k:Nat) (v u:List Val),gj k v=true->gj k u=true->PyData.eqvAll (eJ v) (eJ u)=vqs v u
 |_,[],[],_,_=>rfl
 |_,[],_::_,_,_=>rfl
 |_,_::_,[],_,_=>rfl
 |
  k,x::xs,y::ys,hv,hu=>by
  have h1:(wfV k x&&gj k xs)=true:=hv;have h2:(wfV k y&&gj k ys)=true:=hu;rw[w_] at h1 h2;show (PyData.eqv (gi x) (gi y)&&PyData.eqvAll (eJ xs) (eJ ys))=(vq x y&&vqs xs ys);rw[zE k x y h1.1 h2.1,vR k xs ys h1.2 h2.2]
end
def Gd(hk:k<=160)(hx:wfV k x=true)(hy:wfV k y=true):bo x y=some (vq x y):=by obtain⟨h1,h2,h3⟩:=oo k x hx;obtain⟨i1,i2,i3⟩:=oo k y hy;unfold bo;rw[h1 164 (by omega),i1 164 (by omega)];dsimp only;rw[if_pos ⟨gU h2 (by omega),gU i2 (by omega)⟩,zE k x y hx hy]
def D5(hx:wfV 60 x=true)(hy:wfV 60 y=true):bo x y=some (vq x y):=Gd (by decide) hx hy
mutual
def kY:Val->Bool
 |.bl _=>false
 |.tup xs=>hE xs
 |.lst xs=>hE xs
 |.non=>true
 |.int _=>true
 |.str _=>true
 |_=>false
def hE:List Val->Bool
 | []=>true
 |x::xs=>kY x&&hE xs
end
mutual
theorem zc:∀(v u:Val),kY v=true->kY u=true->(vq v u=true ↔ v=u)
 |
  v,u,hv,hu=>by
  cases v <;> first |exact absurd hv y_ |skip
  all_goals (cases u <;> first |exact absurd hu y_ |exact⟨λz=>absurd z y_,λz=>nomatch z⟩ |(simp [vq];done) |skip)
  all_goals
   refine Iff.trans (va _ _ hv hu) ?_;constructor
   .rintro rfl;rfl
   .intro z;cases z;rfl
theorem va:∀(v u:List Val),hE v=true->hE u=true->(vqs v u=true ↔ v=u)
 | [],[],_,_=>⟨λ_=>rfl,λ_=>rfl⟩
 | [],_::_,_,_=>⟨λz=>absurd z y_,λz=>nomatch z⟩
 |_::_,[],_,_=>⟨λz=>absurd z y_,λz=>nomatch z⟩
 |
  x::xs,y::ys,hv,hu=>by
  have h1:(kY x&&hE xs)=true:=hv;have h2:(kY y&&hE ys)=true:=hu;rw[w_] at h1 h2;show (vq x y&&vqs xs ys)=true ↔ _;rw[w_,zc x y h1.1 h2.1,va xs ys h1.2 h2.2,List.cons.injEq]
end
mutual
theorem vw:∀(k:Nat) (v:Val),wfV k v=true->vq v v=true
 |
  k,v,hv=>by
  cases v <;> first |(cases k <;> exact absurd hv y_) |rfl |exact OU _ |(cases k with |zero=>exact absurd hv y_ |succ k=>exact sV k _ hv)
theorem sV:∀(k:Nat) (v:List Val),gj k v=true->vqs v v=true
 |_,[],_=>rfl
 |
  k,x::xs,hv=>by
  have h1:(wfV k x&&gj k xs)=true:=hv;rw[w_] at h1;show (vq x x&&vqs xs xs)=true;rw[vw k x h1.1,sV k xs h1.2];rfl
end
noncomputable def fV (q:Rat):Val:=.tup [.int q.num,.int q.den]
structure Bx where
 l:Rat
 t:Rat
 w:Rat
 h:Rat
structure Bx.Ok(b:Bx):Prop where
 w:0<b.w
 h:0<b.h
structure Bx.Sz(n:Nat)(b:Bx):Prop where
 l:L2.Sz n b.l
 t:L2.Sz n b.t
 w:L2.Sz n b.w
 h:L2.Sz n b.h
noncomputable def bV (b:Bx):Val:=.tup [fV b.l,fV b.t,fV b.w,fV b.h]
def Ju(e:fV p=fV q):p=q:=by unfold fV at e;simp only[Val.tup.injEq,List.cons.injEq,Val.int.injEq,and_true] at e;rw[eC p,eC q,e.1,e.2]
def Dw(q:Rat)(k:Nat):wfV (k+1) (fV q)=true:=by simp [fV,wfV,gj]
def Dp(q:Rat):kY (fV q)=true:=by simp [fV,kY,hE]
def LZ(p q:Rat):bo (fV p) (fV q)=some (decide (p=q)):=by rw[D5 (Dw p 59) (Dw q 59)];congr 1;rw[OX,zc _ _ (Dp p) (Dp q),NV];exact⟨Ju,λz=>by rw[z]⟩
noncomputable def knV:Val->Bool
 |.exc _=>false
 |v=>(tyC v).isSome
noncomputable def ip:Nat->Val->Bool
 |k+1,.tup xs=>xs.all (ip k)
 |_,v=>knV v
noncomputable def jg:Val->Bool
 |.int _=>true
 |_=>false
noncomputable def aO:Val->Bool
 |.tup [.int a,.int b]=>decide (1<=b)&&decide (Int.gcd a b=1)
 |_=>false
noncomputable def jo:Val->Bool
 |.tup (.int a::_)=>decide (0<a)
 |_=>false
noncomputable def f9:Val->Bool
 |.tup [a,b,c,d]=>aO a&&(aO b&&(aO c&&(aO d&&(jo c&&jo d))))
 |_=>false
noncomputable def gT:Val->Bool
 |.int i=>decide (1<=i)
 |_=>false
noncomputable def ft:Val->Bool
 |.tup _=>true
 |_=>false
def Me(h1:1<=b)(h2:Int.gcd a b=1):Val.tup [.int a,.int b]=fV ((a:Rat)/(b:Rat)):=by
 have hb:b≠0:=by omega
 have h:=ma (a:=a) hb;have s:=Fr.self (by omega) h2;unfold fV;rw[<- h.1,<- h.2,s.1,s.2]
def ji(q:Rat):aO (fV q)=true:=by
 show (decide (1<=(q.den:Int))&&decide (Int.gcd q.num q.den=1))=true
 have:=q.den_pos
 rw[I_ (by omega),I_ (vY q)];rfl
def zL(h:aO d=true):∃q,d=fV q:=by
 unfold aO at h;split at h
 .simp only[w_,NV] at h;exact⟨_,Me h.1 h.2⟩
 .cases h
def vo(q:Rat):jo (fV q)=decide (0<q):=by show decide (0<q.num)=decide (0<q);rw[OV];exact iQ
def BG(h:b.Ok):f9 (bV b)=true:=by show (aO (fV b.l)&&(aO (fV b.t)&&(aO (fV b.w)&&(aO (fV b.h)&&(jo (fV b.w)&&jo (fV b.h))))))=true;rw[ji,ji,ji,ji,vo,vo,I_ h.w,I_ h.h];rfl
def Ig(b:Bx):ip 2 (bV b)=true:=by simp [bV,fV,ip,knV,tyC]
theorem nN(P:E3->Prop):∀(vs acc:List Val) (e:E3),P e->(∀v∈vs,∀e,P e->∃e1 t e2,g v e=some e1/\F e1=.ok t e2/\cT e2 t=some (e2,f v)/\P e2)->acc.length+vs.length<=16777216->∃e',P e'/\lcV g cY F vs acc e=.ok (acc++vs.map f) e'
 | [],acc,e,hp,_,_=>⟨e,hp,by simp [lcV]⟩
 |
  v::vs,acc,e,hp,hf,hl=>by
  obtain⟨e1,t,e2,q1,q2,q3,q4⟩:=hf v (s_ ..) e hp;obtain⟨e',p',q5⟩:=nN P vs (acc++[f v]) e2 q4 (λu hu=>hf u (q_ _ hu)) (by simp at hl ⊢;omega);refine⟨e',p',?_⟩;unfold lcV;rw[if_pos (by simp at hl;omega),q1];simp only[cY,iU,N2,q2,q3,q5];simp
noncomputable def rgV (k:Nat):List Val:=(List.range k).map λj=>Val.int (j:Nat)
def nQ(h:k<1000000):hU [.int (k:Nat)]=some (rgV k):=by simp only[hU];rw[if_pos (⟨by omega,by omega⟩:RgB _),M3];unfold kU rgV;simp only[Int.zero_add]
def nj(h0:0<=i)(h:i<1000000):hU [.int i]=some (rgV i.toNat):=by
 have:=nQ (k:=i.toNat) (by omega)
 rwa [show ((i.toNat:Nat):Int)=i from by omega] at this
theorem cS(fv fw:α->Val)(P:E3->Prop):∀(l:List α) (acc:List Val) (e:E3),P e->(∀a∈l,∀e,P e->∃e1 t e2,g (fv a) e=some e1/\F e1=.ok t e2/\cT e2 t=some (e2,fw a)/\P e2)->acc.length+l.length<=16777216->∃e',P e'/\lcV g qY.G F (l.map fv) acc e=.ok (acc++l.map fw) e'
 | [],acc,e,hp,_,_=>⟨e,hp,by simp [lcV]⟩
 |
  v::vs,acc,e,hp,hf,hl=>by
  obtain⟨e1,t,e2,q1,q2,q3,q4⟩:=hf v (s_ ..) e hp;obtain⟨e',p',q5⟩:=cS fv fw P vs (acc++[fw v]) e2 q4 (λu hu=>hf u (q_ _ hu)) (by simp at hl ⊢;omega);refine⟨e',p',?_⟩;rw[x_];unfold lcV;have cy:qY.G=cY:=rfl;rw[cy] at q5 ⊢;rw[if_pos (by simp at hl;omega),q1];simp only[cY,iU,N2,q2,q3,q5];simp
def IE(v:Val):inS (.sh v)=.sh v:=rfl
def Fy(i:Nat)(v:Val)(e:E3):fO (some i) (.sh v) e=e:=rfl
noncomputable def jC (ms:List Bool) (r:SR3):R3F:=match r with
 |.nx e=>(match muV ms e with |some mv=>.ok (.val .non) mv |none=>.stuck)
 |.rt r e=>(match muV ms e with |some mv=>.ok r mv |none=>.stuck)
 |.exc c e=>(match muV ms e with |some mv=>.exc c mv |none=>.stuck)
 |_=>.stuck
def wz(h:vs.length=ms.length):(fnP ms N c).G vs=jC ms (c.G (sls ms vs++List.replicate (N-vs.length) .no)):=by rw[aB,if_pos h];rfl
def yE(h:vs.length=ms.length):(PFx.of ms N c).G vs=jC ms (c.G (sls ms vs++List.replicate (N-vs.length) .no)):=by rw[jt,if_pos h];rfl
def lK(ms:List Bool)(r:Rt)(e:E3):jC ms (.rt r e)=match muV ms e with |some mv=>.ok r mv |none=>.stuck:=rfl
def aF{Q:SR3->Prop}(I:E3->Prop){a b:PSt}{e:E3}(h1:∃e1,a.G e=.nx e1/\I e1)(h2:∀e1,I e1->Q (b.G e1)):Q ((ak a b).G e):=by obtain⟨e1,q,i⟩:=h1;rw[Ef,q];exact h2 e1 i
def iV(i:Int):Val.tup [.int i,.int 1]=fV (i:Rat):=rfl
def sm8(h:m.natAbs<1099511627776):Sm 8000 m:=K_ (show m.natAbs<2^40 from h) (MN (by decide) (by decide))
def my(h:m.natAbs<=2000000000000000000000000000000):Sm 101 m:=by unfold Sm;exact Nu h (by decide)
def gf{m:Int}(h:m.natAbs<=2000000000000000000000000000000):Sz 101 (m:Rat):=⟨my h,my (by show (1:Int).natAbs<=_;decide)⟩
def gz{a b:Int}(hb:b≠0)(h1:a.natAbs<=2000000000000000000000000000000)(h2:b.natAbs<=2000000000000000000000000000000):Sz 101 ((a:Rat)/(b:Rat)):=Sz.div hb (my h1) (my h2) 101 (t_ _) (t_ _)
def fQ{m:Int}(h:0<m):(0:Rat)<(m:Rat):=Rat.intCast_pos.mpr h
def fS{a b:Int}(h1:0<a)(h2:0<b):(0:Rat)<(a:Rat)/(b:Rat):=by rw[Od];exact Oe (fQ h1) (Pe.mpr (fQ h2))
structure Good(b:Bx):Prop where
 ok:b.Ok
 sz:b.Sz 101
def jY(h:m.natAbs<=2000000000000000000000000000000):Sm 8000 m:=(my h).mono (by decide)
noncomputable def Hx (cs:List (Str×PFn)) (F:ME3) (A:MA3) (e:E3):R3 Tm:=(F e).bind λt e1=>match rs e1 t with
 |some (.glb x)=>(match cs.lookup x with
  |some p=>Du p.ms p.G A e1
  |none=>.stuck)
 |_=>.stuck
noncomputable def lP (cs:List (Str×PFn)) (f:PEx) (a:PAs):PEx:=⟨25,Hx cs f.G a.G⟩
theorem Fh(e:E3)(cs:List (Str×PFn))(f:PEx)(a:PAs):(lP cs f a).G e=(f.G e).bind λt e1=>match rs e1 t with
 |some (.glb x)=>(match cs.lookup x with
  |some p=>(ai p a).G e1
  |none=>.stuck)
 |_=>.stuck:=rfl
theorem mV{β:Type}{x:Str}{b:β}:∀{l:List (Str×β)},l.lookup x=some b->(x,b)∈l
 | [],h=>by simp at h
 |
  (y,c)::l,h=>by
  rw[Nt] at h;split at h
  .rename_i q
   have:=eq_of_beq q
   subst this;cases h;exact s_ ..
  .exact q_ _ (mV h)
section
variable{K:W.Frag}{mg:Pp}{X:Cx}{ES:St->XK}{e:Expr}{es:List Expr}{A:PAs}{pos:Pos}
def wM(K:W.Frag)(mg:Pp)(X:Cx)(cs:List (Str×PFn)):Prop:=∀c∈cs,∃k ps,Callee X.prog X.w X.K X.mg X.base c.1 k ps (sp3 K mg c.2)/\Room k X.A
def Iq:wM K mg X []:=λ_ h=>nomatch h
def uY{f:PFn}{x:Str}{k:Nat}{ps:List Str}{cs:List (Str×PFn)}(C:Callee X.prog X.w X.K X.mg X.base x k ps (sp3 K mg f))(hr:Room k X.A)(h:wM K mg X cs):wM K mg X ((x,f)::cs):=λc hc=>by
 rcases F_.mp hc with rfl |hc
 .exact⟨k,ps,C,hr⟩
 .exact h c hc
def Bu{ef:Expr}{cs:List (Str×PFn)}{p:PEx}(hc:wM K mg X cs)(hf:DE K mg X ES ef p)(hx:mE X ES)(ha:DA K mg X ES (e::es) A)(hm:X.mg=mg:=by rfl)
 (harm:eval (.Call ef (e::es) [] pos) X.env=(do callWith pos (<- eval ef X.env) [] (backTo pos (starEach (e::es) X.env)) (backToKw pos (keywordEach [] X.env))):=by rfl)
 (he:starEach (e::es) X.env=(false,eval e X.env)::starEach es X.env:=by rfl) (hpl:(backTo pos (starEach es X.env)).any (·.1)=false:=by rfl):DE K mg X ES (.Call ef (e::es) [] pos) (lP cs p A):=by
 subst hm;refine⟨λpins s σ H Q I ⟨Y,N0,L,ns,e,S,hl,p⟩=>?_⟩;rw[harm];refine o_ ?_;have rd
  : rdE K X.mg ES _ σ H (λv H1=>∃x c f,(x,c)∈cs/\v=.ref f/\X.mg x=some (.ref f)/\rdA K X.mg ES A.G σ H1 (λvs H2=>sp3 K X.mg c vs H2 Q (ES σ))):=
  ⟨Y,
   N0,L,ns,e,S,hl,PG3.imp p S λt e1 ns1 H1 a1 S1 p1 x r1=>by
   try dsimp only at p1
   split at p1
   .rename_i y q;split at p1
    .rename_i c q2;obtain⟨a,rfl,m⟩:=(r1.sh S1 q).glb;exact⟨y,c,a,mV q2,rfl,m,vh (f:=c) σ H1 Q ⟨Y,N0,L,ns1,e1,S1,λa z=>hl a (a1.dom a z),p1⟩⟩
    .exact p1.elim
   .exact p1.elim⟩
 refine ML (hf.ok pins s σ H _ I rd) (λu s1 ⟨v,H1,I1,rv,x,c,f,hmem,ev,m,ra⟩=>?_) λ_ _ z=>z;subst ev;obtain rfl:u=Value.ref f:=rv;obtain⟨k,ps,C,hr⟩:=hc (x,c) hmem;obtain⟨f',fd,F',m',kp,bb,_⟩:=C.ex;rw[m] at m';cases m';refine W.callWith_K (h₀:=X.base) I.ok.mod.kin kp (ML (ha.ok pos pins s1 σ H1 _ I1 ra) (λus s2 ⟨vs,H2,I2,r,q⟩=>⟨I2.kIn,?_⟩) λ_ _ z=>z) he hpl;have hl:(us++[]).length=ps.length:=by rw[MX,<- r.length];exact F'.len _ _ _ _ q
 refine wpAny_call (O8 (F'.run X.A X.stack s2 H2 ⟨us,[]⟩ us vs Q (ES σ) hr I2.env0 (by simpa using bb s2 us I2.kIn hl) r q) λr s' hq=>?_);cases r with
 |error ex=>exact hx pins σ H2 s2 ex s' I2 hq
 |
  ok fl=>
  cases fl with
  |ret u=>exact I2.after hq
  |next=>exact False.elim hq
  |brk=>exact False.elim hq
  |cont=>exact False.elim hq
end
def HU(xs ys:List Val):aX.G (.lst xs) (.lst ys)=if xs.length+ys.length<=16777216 then .new (.lst (xs++ys)) else .stuck:=rfl
section
variable{K:W.Frag}{mg:Pp}{P:Addr->Prop}{H:Hp}{ws ws':List (Key×V)}{us us':List (Key×Val)}{k:Key}
def K5(r:Rk K mg P H ws us):lkD us k=some v->∃d,lkD ws k=some d/\Rd K mg P H d v:=
 r.ind (M:=λws us=>lkD us k=some v->∃d,lkD ws k=some d/\Rd K mg P H d v) (λq=>by cases q) (λ{k2 d v2 ds vs} r _ ih q=>by
  unfold lkD at q ih ⊢;rw[M6] at q ⊢;dsimp only at q ⊢;by_cases hk:k2=k
  .rw[I_ hk] at q ⊢;cases q;exact⟨d,rfl,r⟩
  .rw[E_ hk] at q ⊢;exact ih q)
def EB(r:Rk K mg P H ws us):us.map (·.1)=ws.map (·.1):=
 r.ind (M:=λws us=>us.map (·.1)=ws.map (·.1)) rfl λ_ _ ih=>by rw[x_,x_,ih]
def GA(r:Rk K mg P H ws us):ws.length=us.length:=
 r.ind (M:=λws us=>ws.length=us.length) rfl λ_ _ ih=>MP (· + 1) ih
def IJ(r:Rk K mg P H ws us)(q:Rk K mg P H ws' us'):Rk K mg P H (ws++ws') (us++us'):=
 r.ind (M:=λws us=>Rk K mg P H (ws++ws') (us++us')) q λr _ ih=>.cons r ih
def GS(rd:Rd K mg P H d v)(r:Rk K mg P H ws us):Rk K mg P H (ff ws k d) (ff us k v):=by
 unfold ff;rw[AN (EB r)];by_cases hc:(ws.any λkv=>decide (kv.1=k))=true
 .rw[if_pos hc,if_pos hc];exact r.ind (M:=λws us=>Rk K mg P H (ws.map λkv=>if kv.1=k then (kv.1,d) else kv) (us.map λkv=>if kv.1=k then (kv.1,v) else kv)) .nil (λ{k2 d2 v2 ds vs} r _ ih=>by
   rw[x_,x_];dsimp only;by_cases hk:k2=k
   .rw[if_pos hk,if_pos hk];exact .cons rd ih
   .rw[if_neg hk,if_neg hk];exact .cons r ih)
 .rw[if_neg hc,if_neg hc];exact IJ r (.cons rd .nil)
end
noncomputable def sD:Val->Val->Val->Option Val:=λo i v=>match o with
 |.dct kvs=>(match i with
  |.str k=>if kvs.length<16777216 then some (.dct (ff kvs (.inr k) v)) else none
  |_=>none)
 |_=>none
noncomputable def pU (n:Nat) (u:jI):MG3:=λv e=>match v with
 |.tup vs=>if vs.length=n then u vs e else none
 |.lst vs=>if vs.length=n then u vs e else none
 |_=>none
noncomputable def gtU (n:Nat) (a:PGs):PGt:=⟨3,pU n a.G⟩
section
variable{e:E3}
def g_uL(n:Nat)(a:PGs)(vs:List Val):(gtU n a).G (.lst vs) e=if vs.length=n then a.G vs e else none:=rfl
end
section
variable{K:W.Frag}{mg:Pp}{X:Cx}{es:List Expr}{gs:PGs}{pos:Pos}
def Ic{k n:Nat}(hK:X.K=K)(hc:X.calm=true)(h:DGs K mg X es gs)(hn:(assignEach es X.env).length=n:=by rfl)(hst:(assignEach es X.env).findIdx? (·.1)=none:=by rfl):DG K mg X (.Tuple es k pos) (gtU n gs):=by
 subst hK;exact
  ⟨PG.imp (Hd hc h.ok hn hst) λv σ H Q zz=>zz.el λY N0 ns e u e' S r q k=>by
  replace q:pU n gs.G u e=some e':=q;unfold pU at q;split at q
  .split at q
   .rename_i hl;obtain⟨a,vs,rfl,z,rr⟩:=ShR.tup (.inl r);exact⟨a,vs,rfl,.inl z,by rw[rr.len];exact hl,Y,N0,ns,e,_,e',S,rr,q,k⟩
   .cases q
  .split at q
   .rename_i hl;obtain⟨a,vs,rfl,z,rr⟩:=ShR.lstL (.inl r);exact⟨a,vs,rfl,.inr z,by rw[rr.len];exact hl,Y,N0,ns,e,_,e',S,rr,q,k⟩
   .cases q
  .cases q⟩
end
theorem ar1{α:Type}{P:List α->Prop}(h:∀a,P [a]):∀us:List α,us.length=1->P us
 | [a],_=>h a
theorem ar2{α:Type}{P:List α->Prop}(h:∀a b,P [a,b]):∀us:List α,us.length=2->P us
 | [a,b],_=>h a b
theorem ar3{α:Type}{P:List α->Prop}(h:∀a b c,P [a,b,c]):∀us:List α,us.length=3->P us
 | [a,b,c],_=>h a b c
theorem ar4{α:Type}{P:List α->Prop}(h:∀a b c d,P [a,b,c,d]):∀us:List α,us.length=4->P us
 | [a,b,c,d],_=>h a b c d
section
variable{K:W.Frag}{mg:Pp}{P:Addr->Prop}{H:Hp}
theorem ke:∀l:List Nat,Rds K mg P H (l.map λi:Nat=>V.int (i:Nat)) (l.map λi:Nat=>Val.int (i:Nat))
 | []=>.nil
 |i::l=>.cons (.int _) (ke l)
end
noncomputable def Cm:List Val->Bv:=λvs=>match vs with
 | [.int j]=>if -(2^62)<=j/\j<=16777216 then .new (.lst (rgV j.toNat)) else .stuck
 |_=>.stuck
noncomputable def iY:PBf:=⟨Cm⟩
def D1{j:Int}(h:-(2^62)<=j/\j<=16777216):iY.G [.int j]=.new (.lst (rgV j.toNat)):=if_pos h
noncomputable def Bo:List Val->Bv:=λvs=>match vs with
 | [.int j]=>if 0<=j/\j<=1000000 then .val (.tup (rgV j.toNat)) else .stuck
 |_=>.stuck
noncomputable def lV:PBf:=⟨Bo⟩
def Lv{j:Int}(h:0<=j/\j<=1000000):lV.G [.int j]=.val (.tup (rgV j.toNat)):=if_pos h
noncomputable def qZ (f:List Int->Int):List Val->Bv:=λvs=>match vs with
 | [.lst xs]=>(match fX xs with
  |some bs=>if bs≠[] then .val (.int (f bs)) else .stuck
  |none=>.stuck)
 |_=>.stuck
noncomputable def sY:PBf:=⟨qZ mnI⟩
def LY{f:List Int->Int}{ns:List Int}(h:ns≠[]):qZ f [.lst (ns.map .int)]=.val (.int (f ns)):=by unfold qZ;dsimp only;rw[bO];exact if_pos h
def JM{ns:List Int}(h:ns≠[]):sY.G [.lst (ns.map .int)]=.val (.int (mnI ns)):=LY h
noncomputable def Lb (e:E3):R3 Tm:=.ok (.new (.set [])) e
noncomputable def xH:PEx:=⟨27,Lb⟩
def JJ(e:E3):xH.G e=.ok (.new (.set [])) e:=rfl
noncomputable def B9:Val->Val->Bv:=λx y=>match x,y with
 |.int i,.set xs=>.val (.bl (decide (i∈xs)))
 |_,_=>.stuck
noncomputable def C1:PO2:=⟨B9⟩
def K4(i:Int)(xs:List Int):C1.G (.int i) (.set xs)=.val (.bl (decide (i∈xs))):=rfl
noncomputable def wV:List Val->Bv:=λvs=>match vs with
 | [.set xs]=>.val (.int (xs.length:Nat))
 |_=>.stuck
noncomputable def tU:PBf:=⟨wV⟩
def JU(xs:List Int):tU.G [.set xs]=.val (.int (xs.length:Nat)):=rfl
noncomputable def Ci:Val->Option (List Int)
 |.set xs=>some xs
 |_=>none
noncomputable def ue (i:Nat) (A:MA3) (e:E3):R3 Tm:=match e[i]? with
 |some s=>match s.mv.bind Ci with
  |some _=>(A e).bind λts e1=>match dem e1 ts with
   |some (e2,[.int k])=>match e2[i]? with
    |some s2=>match s2.mv.bind Ci with
     |some xs=>if xs.length<4000 then .ok (.val .non) (e2.set i (s2.re (.set (fK xs k)))) else .stuck
     |none=>.stuck
    |none=>.stuck
   |_=>.stuck
  |none=>.stuck
 |none=>.stuck
noncomputable def C2 (i:Nat) (a:PAs):PEx:=⟨28,ue i a.G⟩
def Gk(e:E3)(i:Nat)(a:PAs):(C2 i a).G e=ue i a.G e:=rfl
noncomputable def sN:Val->Val->Bv:=λx y=>match x with
 |.dct kvs=>(match y with
  |.int k=>(match lkD kvs (.inl k) with
   |some v=>.val v
   |none=>.stuck)
  |_=>.stuck)
 |_=>.stuck
noncomputable def xU:PO2:=⟨sN⟩
def J7(h:lkD kvs (.inl k)=some v):xU.G (.dct kvs) (.int k)=.val v:=by show sN (.dct kvs) (.int k)=_;unfold sN;dsimp only;rw[h]
noncomputable def sDI:Val->Val->Val->Option Val:=λo i v=>match o with
 |.dct kvs=>(match i with
  |.int k=>if kvs.length<16777216 then some (.dct (ff kvs (.inl k) v)) else none
  |_=>none)
 |_=>none
noncomputable def seI:PSe:=⟨sDI⟩
def GJ(kvs:List (Key×Val))(k:Int)(v:Val):seI.G (.dct kvs) (.int k) v=if kvs.length<16777216 then some (.dct (ff kvs (.inl k) v)) else none:=rfl
noncomputable def lD:Val->List Val->Option (Val×Val):=λu vs=>match u,vs with
 |.lst xs,[.tup ys]=>if xs.length+ys.length<=16777216 then some (.lst (xs++ys),.non) else none
 |_,_=>none
noncomputable def gY:PMm:=⟨lD⟩
def oI(xs ys:List Val):gY.G (.lst xs) [.tup ys]=if xs.length+ys.length<=16777216 then some (.lst (xs++ys),.non) else none:=rfl
section
variable{K:W.Frag}{mg:Pp}{P:Addr->Prop}{H:Hp}
def GY:cI K mg rLrg iY.G:=λP H xs vs Q r0 p=>by
 replace p:BvP K mg P H Q (Cm vs):=p;unfold Cm at p;split at p
 .obtain⟨d,rfl,r⟩:=dO r0;obtain rfl:=r.int;split at p
  .rename_i hb;exact⟨_,rfl,hb.1,hb.2,bvL p (ke _)⟩
  .exact p.elim
 .exact p.elim
def Jm:cI K mg rTrg lV.G:=λP H xs vs Q r0 p=>by
 replace p:BvP K mg P H Q (Bo vs):=p;unfold Bo at p;split at p
 .obtain⟨d,rfl,r⟩:=dO r0;obtain rfl:=r.int;split at p
  .rename_i hb;exact⟨_,rfl,hb.1,hb.2,bvT p (ke _)⟩
  .exact p.elim
 .exact p.elim
def Jp{f:List Int->Int}:cI K mg (Be f K) (qZ f):=λP H xs vs Q r0 p=>by
 unfold qZ at p;split at p
 .obtain⟨d,rfl,r⟩:=dO r0;obtain⟨a,ys,rfl,h,q⟩:=r.lstL;split at p
  .rename_i bs e;split at p
   .rename_i hb;exact⟨a,bs,rfl,tV q e ▸ h,hb,bv p (.int _)⟩
   .exact p.elim
  .exact p.elim
 .exact p.elim
def FZ:cI K mg (Be mnI K) sY.G:=Jp
def IH:OpD K mg AD C1.G:=λP H x y v u Q rx ry p=>by
 replace p:BvP K mg P H Q (B9 v u):=p;unfold B9 at p;split at p
 .obtain rfl:=rx.int;obtain⟨a,rfl,_,e⟩:=ry.set;exact⟨_,_,_,_,rfl,rfl,e,bv p (.bl _)⟩
 .exact p.elim
def FX:cI K mg (λxs H Q=>∃a S n,xs=[.ref a]/\H a=some (.set S n)/\Q (.int (n:Nat)) H) tU.G:=λP H xs vs Q r0 p=>by
 replace p:BvP K mg P H Q (wV vs):=p;unfold wV at p;split at p
 .obtain⟨d,rfl,r⟩:=dO r0;obtain⟨a,rfl,_,e⟩:=r.set;exact⟨_,_,_,rfl,e,bv p (.int _)⟩
 .exact p.elim
def BU:BB K mg DL seI.G:=λP H n o u di vi d v u' Q np e hf r0 ri rd q k=>by
 replace q:sDI u vi v=some u':=q;unfold sDI at q;split at q
 .split at q
  .split at q
   .rename_i hl;cases q;obtain rfl:=ri.int;cases r0 with
    |dct rk=>exact⟨n,_,rfl,DPut.k (k:=.inl _) e (by rw[GA rk];exact hl),k _ trivial (.dct (GS rd rk))⟩
   .cases q
  .cases q
 .cases q
def wH:MmD K mg (rY K) gY.G:=λP H n o u ds vs u' v Q np e hf r0 rs q k=>by
 replace q:lD u vs=some (u',v):=q;unfold lD at q;split at q
 .split at q
  .rename_i hl;cases q;obtain⟨xs,rfl,r⟩:=jV r0;obtain⟨d,rfl,rd⟩:=wB rs;obtain⟨b,ys,rfl,e2,q5⟩:=ShR.tup (.inl rd);exact⟨n,b,xs,ys,rfl,rfl,e,e2,by rw[r.len,q5.len];exact hl,k _ _ trivial (.lst (r.append q5)) .non⟩
  .cases q
 .cases q
variable{X:Cx}{ES:St->XK}{e o a b:Expr}{es:List Expr}{p q:PEx}{A:PAs}{pos cpos apos q1 q2 p0 p1 p2:Pos}
def Iy(hc:X.calm=true)(hl:Gl X "list")(hml:mg "list"=none)(hg:Gl X "range")(hm:mg "range"=none)(ha:DA K mg X ES [a] A)(hk:X.mg=mg:=by rfl)(hs:starEach [a] X.env=[(false,eval a X.env)]:=by rfl)
 (hs1:starEach [.Call (.Name "range" p2) [a] [] q2] X.env=[(false,eval (.Call (.Name "range" p2) [a] [] q2) X.env)]:=by rfl):
 DE K mg X ES (.Call (.Name "list" p1) [.Call (.Name "range" p2) [a] [] q2] [] pos) (pFn iY A):=by
 subst hk;exact⟨PE.imp (IF hc hl hml hg hm ha.ok hs hs1) (qu GY)⟩
def IM(hc:X.calm=true)(hl:Gl X "tuple")(hml:mg "tuple"=none)(hg:Gl X "range")(hm:mg "range"=none)(ha:DA K mg X ES [a] A)(hk:X.mg=mg:=by rfl)(hs:starEach [a] X.env=[(false,eval a X.env)]:=by rfl)
 (hs1:starEach [.Call (.Name "range" p2) [a] [] q2] X.env=[(false,eval (.Call (.Name "range" p2) [a] [] q2) X.env)]:=by rfl):
 DE K mg X ES (.Call (.Name "tuple" p1) [.Call (.Name "range" p2) [a] [] q2] [] pos) (pFn lV A):=by
 subst hk;exact⟨PE.imp (Gq hc hl hml hg hm ha.ok hs hs1) (qu Jm)⟩
def Fw(hg:Gl X x)(hm:mg x=none)(hv:bootBuiltins x=some (.type "set"))(hk:X.mg=mg:=by rfl)(hn:x ≠ "__name__":=by decide)(hdb:(x==("__debug__" : Str))=false:=by decide):DE K mg X ES (.Call (.Name x p0) [] [] pos) xH:=by
 subst hk;exact⟨PE.imp (wZ Ag hg hm hv hn hdb) λσ H Q zz=>zz.el λY N0 L ns e S hl p=>⟨rfl,λl hl'=>by
  have:=PG3.bv (b:=.new (.set [])) p S hl H l (.set (λi=>decide (i∈([]:List Int))) 0) .refl hl' trivial (.set [] List.nodup_nil)
  have e:(λ_:Int=>false)=λi:Int=>decide (i∈([]:List Int)):=by funext i;simp
  rw[e];exact this⟩⟩
def IL{xs:List Int}{i:Int}(nd:xs.Nodup):(fK xs i).Nodup/\HO.set (λk=>decide (k∈xs) || decide (k=i)) (if decide (i∈xs)=true then xs.length else xs.length+1)=.set (λk=>decide (k∈fK xs i)) (fK xs i).length:=by
 unfold fK;by_cases hi:i∈xs
 .rw[if_pos (I_ hi),if_pos hi];refine⟨nd,?_⟩;congr 1;funext k;by_cases hk:k∈xs
  .rw[I_ hk];rfl
  .rw[E_ hk,E_ (show ¬ k=i from λz=>hk (by rw[z];exact hi))];rfl
 .rw[if_neg (show ¬ decide (i∈xs)=true by rw[E_ hi];exact y_),if_neg hi];refine⟨N9.mpr ⟨hi,nd⟩,?_⟩;congr 1;funext k;rw[OX,N7,Nv,Nv,Nv,F_];exact Or.comm
def GD{j:Nat}(hK:X.K=K)(ho:DE K mg X ES o (af j))(ha:DA K mg X ES (e::es) A)
 (e_:attributeBase o "add" X.env (eval o X.env)=eval o X.env:=by rfl)
 (hfew:((backTo cpos (starEach (e::es) X.env)).all (λx=>!x.1)&&(backToKw cpos (keywordEach [] X.env)).all (λx=>x.1.isSome)
  && decide ((e::es).length+([]:List Keyword).length+(if ([]:List Keyword).isEmpty then 0 else 1)<30))=true:=by rfl)
 (f_:(apos.endLine==cpos.line)=true:=by rfl) (hs:starEach (e::es) X.env=(false,eval e X.env)::starEach es X.env:=by rfl) (c_:(backTo cpos (starEach es X.env)).any (·.1)=false:=by rfl):
 DE K mg X ES (.Call (.Attribute o "add" apos) (e::es) [] cpos) (C2 j A):=by
 subst hK;exact
  ⟨PE.imp (qb PySem.F.plainAttrs_set PySem.F.slot_set_add PySem.F.type_set_add zV ho.ok ha.ok e_ hfew f_ hs c_) λσ H Q zz=>zz.el λY N0 L ns e S hl p=>⟨Y,N0,L,ns,e,S,hl,by
  replace p:PG3 X.K mg Y N0 ns e σ H (ES σ) (KE X.K mg Y N0 L σ Q) (ue j A.G e):=p;unfold ue at p;split at p
  .rename_i s0
    q0
   split at p
   .rename_i xs0 hz;obtain⟨u0,z1,z2⟩:=MK.mp hz;show PG3 X.K mg Y N0 ns e σ H (ES σ) _ (eL j e);rw[um q0 z1];intro H1 ns1 a1 S1 ov ro;have ty:tyV X.K "set" ov H1:=by
     have rs:=S1.bor (i:=j) (v:=u0) ro (by rw[q0];cases s0 <;> first |exact z1 |cases z1);cases u0 with
     |set ys=>obtain⟨a,rfl,_,h⟩:=rs.set;exact .inr (.inr (.inr ⟨rfl,_,_,h⟩))
     |_=>cases z2
    refine⟨ty,Y,N0,ns1,e,S1,PG3.imp (p.after S a1) S1 λts e1 h_ H2 a2 S2 p2 xs r2=>?_⟩;split at p2
    .rename_i e2 k q1;obtain⟨ns3,S3,a3,r3⟩:=iI S2 r2 q1;split at p2
     .rename_i s2 q2;split at p2
      .rename_i ys q3;split at p2
       .rename_i a_;obtain⟨u,y1,y2⟩:=MK.mp q3;obtain⟨n,ob,k1,k0,k2,k3,k4,k5⟩:=S3.write q2 y1;have ro':σ[j]?=some (some ov):=ro;rw[k1] at ro';cases ro';obtain⟨d,rfl,rd⟩:=wB r3;obtain rfl:=ShR.int (.inl rd);cases u with
        |
         set zs=>
         cases y2;cases k4 with
         |set _ nd=>obtain⟨i1,i2⟩:=IL (i:=k) nd;refine⟨n,k,_,_,rfl,rfl,k2,a_,?_⟩;rw[i2];obtain⟨mv,S4,a4⟩:=k5 (.set (λz=>decide (z∈fK ys k)) (fK ys k).length) (.set (fK ys k)) trivial (.set _ i1);exact p2 _ _ (a3.trans S2 a4) S4 _ .non
        |_=>cases y2
       .exact p2.elim
      .exact p2.elim
     .exact p2.elim
    .exact p2.elim
   .exact p.elim
  .exact p.elim⟩⟩
def Bw(hu:X.A.units+1<cLine)(ha:DE K mg X ES a p)(hb:DE K mg X ES b q)(hs:Cd b):DE K mg X ES (.Subscript a b pos) (pOp xU p q):=⟨PE.imp (Fu hu ha.ok hb.ok hs) λσ H Q zz=>zz.el λY N0 L ns e S hl p=>
 ⟨Y,
  N0,L,ns,e,S,hl,PG3.imp p S λt1 e1 ns1 H1 a1 S1 p1 x r1=>⟨Y,N0,L,ns1,e1,S1,λa z=>hl a (a1.dom a z),PG3.imp p1 S1 λt2 e2 h_ H2 a2 S2 p2 y r2=>by
  try dsimp only at p2
  split at p2
  .rename_i v u q1 q2;replace p2:PG3 K mg Y N0 h_ e2 σ H2 (ES σ) (KE K mg Y N0 L σ Q) ((sN v u).at e2):=p2;unfold sN at p2;split at p2
   .split at p2
    .split at p2
     .rename_i q3;obtain⟨a,ws,rfl,h,rk⟩:=((r1.drop a2).sh S2 q1).dct;obtain rfl:=(r2.sh S2 q2).int;obtain⟨d,q4,rd⟩:=K5 rk q3;exact⟨a,d,rfl,q4 ▸ DGet.k (k:=.inl _) h,p2.ret S2 _ rd⟩
     .exact p2.elim
    .exact p2.elim
   .exact p2.elim
  .exact p2.elim⟩⟩⟩
end
open PySem PySem.Spec PyProof.Rows L2 PySem.W
noncomputable def adr (K:Frag) (x:Str):Addr:=match nsIn K mainGlobals x with
 |some (some (.ref a))=>a
 |_=>0
noncomputable def iq (K:Frag) (x:Str):Bool:=match nsIn K mainGlobals x with
 |some (some (.ref _))=>true
 |_=>false
noncomputable def sf (K:Frag) (x:Str):Bool:=match nsIn K mainGlobals x with
 |some none=>true
 |_=>false
noncomputable def xcB (K:Frag) (C:Addr):Bool:=(clsIn K C).isSome&&(findIn K (.ref C) "__getattribute__" == some (some (.builtin "BaseException.__getattribute__"))&&(findIn K (.ref C) "__getattr__" == some none&&(findIn K (.ref C) "__class__" == some (some (.builtin "object.__class__"))&&(specialIn K (.builtin "object.__class__") "__get__" == some (some (.builtin "getset_descriptor.__get__"))&&(takesIn K (.builtin "object.__class__")==some true&&(mroIn K C (.type "object")==some true&&mroIn K C (.type "BaseException")==some true))))))
noncomputable def hdB (K:Frag) (C:Addr):Bool:=typeIn K (.ref C)==some (.type "type")&&((clsIn K C).isSome&&mroIn K C (.type "BaseException")==some true)
noncomputable def clA (K:Frag):Cl->Value
 |.b n=>.type n
 |.o x=>.ref (adr K x)
noncomputable def C9 (K:Frag):Cl->Bool
 |.b _=>true
 |.o x=>iq K x
noncomputable def C7 (K:Frag) (p:Cl×Cl×Bool):Bool:=kitOne K (clA K p.1) (clA K p.2.1)==some p.2.2&&(C9 K p.1&&C9 K p.2.1)
noncomputable def xkB (K:Frag):Cl->Bool
 |.b _=>true
 |.o x=>xcB K (adr K x)
noncomputable def xk:Val->Value->Bool
 |.int i,.int j _=>i==j
 |.str x,.str y _=>x==y
 |.non,.none=>true
 |.bl b,.bool c=>b==c
 |_,_=>false
noncomputable def dV:Val->V
 |.int i=>.int i
 |.str x=>.str x
 |.bl b=>.bl b
 |_=>.non
noncomputable def qz:List Val->List Value->Bool
 | [],[]=>true
 |d::ds,v::vs=>xk d v&&qz ds vs
 |_,_=>false
noncomputable def gcB (K:Frag) (x:Str):Val->Bool
 |.tup ds=>(match nsIn K mainGlobals x with
  |some (some (.ref a))=>(match K.lookup a with
   |some ⟨.type "tuple",_,.seq its _,_⟩=>decide (its.size<=1000)&&qz ds its.toList
   |_=>false)
  |_=>false)
 |d=>match nsIn K mainGlobals x with
  |some (some v)=>xk d v
  |_=>false
noncomputable def bFn:List String:=["abs", "all", "any", "isinstance", "len", "max", "min", "sorted", "sum"]
noncomputable def bTy:List String:=["bool", "dict", "int", "list", "set", "str", "tuple", "ValueError"]
noncomputable def bIt:List String:=["range", "zip", "enumerate"]
def G7:(bFn.all λn=>bootBuiltins (Str.ofString n)==some (.builtin n))=true:=by decide
def Jh:(bTy.all λn=>bootBuiltins (Str.ofString n)==some (.type n))=true:=by decide
def boF{n:String}(h:bFn.contains n=true):bootBuiltins (Str.ofString n)=some (.builtin n):=MD.mp (MF.mp G7 n (M1.mp h))
def boT{n:String}(h:bTy.contains n=true):bootBuiltins (Str.ofString n)=some (.type n):=MD.mp (MF.mp Jh n (M1.mp h))
structure Tb where
 us:List Str
 rs:List Str
 hs:List (Str×List Str)
 kt:jd
 gs:List (Str×Val)
noncomputable def Tb.ok (b:Tb) (K:Frag):Bool:=(bFn++(bTy++bIt)).all (λn=>sf K (Str.ofString n))&&(b.us.all (iq K)&&(b.rs.all (λx=>excIn K (adr K x) nY "ValueError.__new__" && iq K x)&&(b.hs.all (λp=>hdB K (adr K p.1)&&p.2.all λc=>mroIn K (adr K c) (.ref (adr K p.1))==some true&&iq K c)&&(b.kt.all (λp=>C7 K p&&xkB K p.1)&&b.gs.all λp=>gcB K p.1 p.2))))
structure Tx(b:Tb)(K:Frag)(mg:Pp):Prop where
 n:∀{n:String},(bFn++(bTy++bIt)).contains n=true->mg (Str.ofString n)=none
 m:∀{x:Str},b.us.contains x=true->mg x=some (.ref (adr K x))
 x:∀{x:Str},b.rs.contains x=true->excIn K (adr K x) nY "ValueError.__new__"=true
 h:∀{x:Str}{l:List Str},(x,l)∈b.hs->XHand K (adr K x)/\∀c∈l,∀Ce,mg c=some (.ref Ce)->mroIn K Ce (.ref (adr K x))=some true
 k:KitsOk K mg b.kt
 g:∀{x:Str}{d:Val},b.gs.lookup x=some d->GC K mg x d
section
variable{K:Frag}{h:Heap}{mg:Pp}{x:Str}(X:K.In h)(G:h.Ns mainGlobals mg)
include X G
def kd(e:iq K x=true):mg x=some (.ref (adr K x)):=by
 unfold iq at e;split at e
 .rename_i a q;unfold adr;rw[q];exact mg_of X G q
 .cases e
def wN(e:sf K x=true):mg x=none:=by
 unfold sf at e;split at e
 .rename_i q;exact mg_none_of X G q
 .cases e
omit X G in
def Ln{C:Addr}(e:xcB K C=true):XCls K C:=by simp only[xcB,w_,MD] at e;obtain⟨e1,e2,e3,e4,e5,e6,e7,e8⟩:=e;exact⟨e1,e2,e3,e4,e5,e6,e7,e8⟩
def Dy{c:Cl}{v:Value}(e:C9 K c=true)(q:ClV mg c v):v=clA K c:=by
 cases c with
 |b n=>exact q
 |o y=>obtain⟨a,rfl,m⟩:=q;rw[kd X G (show iq K y=true from e)] at m;cases m;rfl
omit X G in
def zI{d:Val}{v:Value}(e:xk d v=true):RelV (dV d) v/\∀P H,Rd K mg P H (dV d) d:=by
 unfold xk at e;split at e
 .cases MD.mp e;exact⟨⟨_,rfl⟩,λ_ _=>.int _⟩
 .cases MD.mp e;exact⟨⟨_,rfl⟩,λ_ _=>.str _⟩
 .exact⟨rfl,λ_ _=>.non⟩
 .cases MD.mp e;exact⟨rfl,λ_ _=>.bl _⟩
 .cases e
omit X G in
theorem vb:∀{ds:List Val}{vs:List Value},qz ds vs=true->Vals (ds.map dV) vs/\∀P H,Rds K mg P H (ds.map dV) ds
 | [],[],_=>⟨.nil,λ_ _=>.nil⟩
 |
  d::ds,v::vs,e=>by
  rw[qz,w_] at e;obtain⟨a1,a2⟩:=zI (K:=K) (mg:=mg) e.1;obtain⟨b1,b2⟩:=vb e.2;exact⟨.cons a1 b1,λP H=>.cons (a2 P H) (b2 P H)⟩
 | [],_::_,e=>nomatch e
 |_::_,[],e=>nomatch e
def Mg{d:Val}(e:gcB K x d=true):GC K mg x d:=by
 unfold gcB at e;split at e
 .rename_i ds;split at e
  .rename_i a q;split at e
   .rename_i dd its n sl l;rw[w_] at e;obtain⟨v1,v2⟩:=vb (K:=K) (mg:=mg) e.2;exact⟨_,.ref a,mg_of X G q,rfl,λP H=>.tup (.inr ⟨_,its,n,l,rfl,rfl,My (NW e.1) (by decide),v1⟩) (v2 P H)⟩
   .cases e
  .cases e
 .split at e
  .rename_i v q;obtain⟨v1,v2⟩:=zI (K:=K) (mg:=mg) e;exact⟨_,_,mg_of X G q,v1,v2⟩
  .cases e
omit X G in
theorem yn{d:Val}:∀{l:List (Str×Val)},l.lookup x=some d->(x,d)∈l
 | [],h=>nomatch h
 |
  (y,e)::l,h=>by
  rw[Nt] at h;split at h
  .rename_i q;cases h;rw[MD.mp q];exact s_
  .exact q_ _ (yn h)
def KU{b:Tb}(e:b.ok K=true):Tx b K mg:=by
 unfold Tb.ok at e;simp only[w_] at e;obtain⟨e1,e2,e3,e4,e5,e6⟩:=e;simp only[MF,w_] at e1 e2 e3 e4 e5 e6;refine⟨λh=>wN X G (e1 _ (M1.mp h)),λh=>kd X G (e2 _ (M1.mp h)),λh=>(e3 _ (M1.mp h)).1,λh=>?_,⟨λp hp t v h1 h2=>?_,λp hp x C e' m=>?_⟩,λh=>Mg X G (e6 _ (yn h))⟩
 .obtain⟨a1,a2⟩:=e4 _ h;refine⟨?_,λc hc Ce m=>?_⟩
  .simp only[hdB,w_,MD] at a1;exact⟨a1.1,a1.2.1,a1.2.2⟩
  .obtain⟨b1,b2⟩:=a2 c hc;rw[kd X G b2] at m;cases m;exact MD.mp b1
 .obtain⟨a1,_⟩:=e5 p hp;simp only[C7,w_,MD] at a1;rw[Dy X G a1.2.1 h1,Dy X G a1.2.2 h2];exact a1.1
 .obtain⟨a1,a2⟩:=e5 p hp;simp only[C7,w_,MD] at a1;have a3:=a1.2.1;rw[e'] at a2 a3;rw[kd X G (show iq K x=true from a3)] at m;cases m;exact Ln a2
end
def dNm(s:Stmt):Str:=match s with
 |.FunctionDef n ..=>n
 |_=>""
def AllD(K:Frag)(mg:Pp)(top:Nat->Stmt):List Nat->Prop
 | []=>True
 |i::l=>Def K mg (dNm (top i)) (top i)/\AllD K mg top l
theorem AllD.get{K:Frag}{mg:Pp}{top:Nat->Stmt}:∀{l:List Nat},AllD K mg top l->∀i,l.contains i=true->Def K mg (dNm (top i)) (top i)
 | [],_,i,h=>nomatch h
 |
  j::l,⟨a,b⟩,i,h=>by
  rcases F_.mp (M1.mp h) with rfl |h
  .exact a
  .exact b.get i (M1.mpr h)
def _root_.L2.Def.gl{K:Frag}{mg:Pp}{x:Str}{st:Stmt}(D:Def K mg x st):∃a,mg x=some (.ref a):=let ⟨f,_,_,m⟩:=D.ex;⟨f,m⟩
structure Ty(b:Tb)(top:Nat->Stmt)(ds:List Nat)(K:Frag)(mg:Pp):Prop extends Tx b K mg where
 d:AllD K mg top ds
noncomputable def scB (N P:List Str) (sc:Scope):Bool:=decide (sc.kind=.function)&&(!sc.isCoroutine&&(!sc.isGenerator&&(decide N.Nodup&&(decide (N.take P.length=P)&&(P.all (λx=>decide (sc.names.lookup x=some .local\/sc.names.lookup x=some .cell))&&sc.names.all λy=>decide (y.2 ≠ .free))))))
def aw{N P:List Str}{sc:Scope}(e:scB N P sc=true):FnScope N P sc:=by simp only[scB,w_,NV,MF,Og] at e;obtain⟨e1,e2,e3,e4,e5,e6,e7⟩:=e;exact⟨e1,e2,e3,e4,e5,e6,e7⟩
def CB(K:Frag)(mg:Pp)(x:Str):Prop:=x∈kJ/\(∀y∈kJ,y≠x->mg y=none)/\∀f oc od fd sl,mg x=some (.ref f)->K.lookup f=some ⟨oc,od,.func fd,sl⟩->∃c P,fd.code=.ref c/\codeHdIn K c P=true
noncomputable def wq (K:Frag) (a:Addr):Option (Addr×Addr):=match K.lookup a with
 |some ⟨_,_,.func fd,_⟩=>(match fd.code with
  |.ref c=>(match K.lookup c with
   |some ⟨_,_,.fields vs,_⟩=>(match (vs[11]?:Option Value) with
    |some (.ref P)=>if codeHdIn K c P=true then some (c,P) else none
    |_=>none)
   |_=>none)
  |_=>none)
 |_=>none
noncomputable def lamB (K:Frag) (x:Str):Bool:=kJ.contains x&&(kJ.all (λy=>y==x || sf K y)&&(iq K x&&(wq K (adr K x)).isSome))
noncomputable def Kg (K:Frag) (ts:List Addr):Bool:=kJ.all λx=>sf K x || (iq K x&&(match wq K (adr K x) with
 |some (_,P)=>ts.contains P
 |none=>false))
noncomputable def DN (K:Frag) (ts:List Addr):Bool:=ts.all λP=>(K.lookup P).isNone&&K.any λp=>codeHdIn K p.1 P
def uZ{K:Frag}{a c P:Addr}(e:wq K a=some (c,P)):∃oc od fd sl,K.lookup a=some ⟨oc,od,.func fd,sl⟩/\fd.code=.ref c/\codeHdIn K c P=true:=by
 unfold wq at e;split at e
 .rename_i oc od fd sl h1;split at e
  .rename_i c' h2;split at e
   .split at e
    .split at e
     .rename_i h3;cases e;exact⟨_,_,fd,_,h1,h2,h3⟩
     .cases e
    .cases e
   .cases e
  .cases e
 .cases e
def HR{K:Frag}{c P P':Addr}(h:codeHdIn K c P=true)(h':codeHdIn K c P'=true):P=P':=by
 unfold codeHdIn at h h';split at h
 .rename_i vs hk;rw[hk] at h';simp only[w_] at h h';have a:=h.1.1.1.1.1;have b:=h'.1.1.1.1.1;split at a
  .rename_i x hx;rw[hx] at b;rw[MD] at a b;exact a.symm.trans b
  .cases a
 .cases h
section
variable{K:Frag}{h:Heap}{mg:Pp}(X:K.In h)(G:h.Ns mainGlobals mg)
include X G
def HV{x:Str}(e:lamB K x=true):CB K mg x:=by
 simp only[lamB,w_,MF,N7] at e;obtain⟨e1,e2,e3,e4⟩:=e;refine⟨M1.mp e1,λy hy hne=>?_,λf oc od fd sl m lk=>?_⟩
 .rcases e2 y hy with z |z
  .exact absurd (MD.mp z) hne
  .exact wN X G z
 .obtain⟨⟨c,P⟩,ec⟩:=Ng.mp e4;obtain⟨oc',od',fd',sl',l1,l2,l3⟩:=uZ ec;have m':=kd X G e3;rw[m] at m';cases m';rw[lk] at l1;cases l1;exact⟨c,P,l2,l3⟩
def Gz{ts:List Addr}(e:Kg K ts=true)(P:Addr)(q:Str)(l:LamT K mg P q):P∈ts:=by
 obtain⟨x,f,oc,od,fd,sl,c,a1,a2,a3,a4,a5,a6,_⟩:=l;have z:=MF.mp e x a1;rw[N7] at z;rcases z with z |z
 .have:=wN X G z
  rw[a3] at this;cases this
 .rw[w_] at z;obtain⟨z1,z2⟩:=z;have m':=kd X G z1;rw[a3] at m';cases m';split at z2
  .rename_i c' P' ec;obtain⟨oc',od',fd',sl',l1,l2,l3⟩:=uZ ec;rw[a4] at l1;cases l1;rw[a5] at l2;cases l2;rw[HR a6 l3];exact M1.mp z2
  .cases z2
end
def EM{K:Frag}{ts:List Addr}{h:Heap}(e:DN K ts=true)(a:∀P∈ts,h.get? P=some (tabObj #[])):TabsOk K ts h:=by
 simp only[DN,MF,w_,List.any_eq_true] at e;refine⟨a,λP hP=>?_,λP hP=>?_⟩
 .have:=(e P hP).1
  rw[Option.isNone_iff_eq_none] at this;exact this
 .obtain⟨p,_,q⟩:=(e P hP).2;exact⟨p.1,q⟩
structure TyL(b:Tb)(top:Nat->Stmt)(ds:List Nat)(K:Frag)(mg:Pp):Prop extends Ty b top ds K mg where
 l:CB K mg "by_falling_weights"
section
variable{K:W.Frag}{mg:Pp}{P:Program}{w:World}{base:Heap}{fx:Str}{fst:Stmt}{k m:Nat}{ps N:List Str}{ms:List Bool}{x:PSt}
def okPL(D:Def K mg fx fst)(L:CB K mg fx)(S:FnScope N ps (aq fst))
 (hb:∀(kV doc pm:Value) (an:Option Addr) (cdv ct:Value) (us:List Value),us.length=ps.length->bindArgs (W.fnOf fx fx (c7 fst) (bD fst) (aq fst) .none kV doc pm an cdv ct) ⟨us,[]⟩=pure (ps.zip us))
 (j':N.Nodup->∀(f:Addr) (A:Around) (outer:List Env) (s:Shared) (H:Hp) (E:XK) (c T:Addr),codeHdIn K c T=true->LamT K mg T (fx ++ ".<locals>." ++ "<lambda>")->Room k (A.deeper (envOfC fx (aq fst) s.heap.objs.size f (.ref c)))->
  DSs K mg (eN (CX1 P w) P w K mg base N fx (aq fst) f (.ref c) A outer s H E) (λ_=>E) (bD fst) x) (hn:ms.length=ps.length:=by rfl) (hm:N.length=m:=by rfl):Callee P w K mg base fx (k+1) ps (sp3 K mg (fnP ms m x)):=by
 subst hm;obtain⟨f,fd,Ff,mm⟩:=D.ex;have bd:=Ff.binds hb;have kp:=Ff.kp;obtain⟨oc,od,kV,doc,pm,an,cdv,ct,osl,rfl,lk,l_⟩:=Ff.ex;obtain⟨c,T,e1,e2⟩:=L.2.2 f _ _ _ _ mm lk;have e1:cdv=.ref c:=e1;subst e1;have LT:LamT K mg T (fx ++ ".<locals>." ++ "<lambda>"):=⟨fx,f,oc,od,_,osl,c,L.1,L.2.1,mm,lk,rfl,e2,rfl⟩;exact⟨f,_,Ee lk l_ S (λvs H Q E sp=>by rw[<- hn];exact tJ sp) λA outer s H vs Q E hr sp=>⟨_,(j' S.nd f A outer s H E c T e2 LT hr).ok,uo sp⟩,mm,kp,bd,oc,od,osl,lk⟩
end
noncomputable def jk:List Val->Bv:=λvs=>match vs with
 | [.int j,.lst us]=>match fX us with
  |some ws=>if j=(ws.length:Nat)/\ws.length<64 then .new (.lst ((aN ws).map λi:Nat=>.int (i:Nat))) else .stuck
  |none=>.stuck
 |_=>.stuck
noncomputable def rf:PBf:=⟨jk⟩
def zp(ws:List Int)(h:ws.length<64):rf.G [.int (ws.length:Nat),.lst (ws.map .int)]=.new (.lst ((aN ws).map λi:Nat=>.int (i:Nat))):=by show jk [.int (ws.length:Nat),.lst (ws.map .int)]=_;unfold jk;dsimp only;rw[bO];dsimp only;rw[if_pos ⟨rfl,h⟩]
section
variable{K:W.Frag}{mg:Pp}{Y N0:Addr->Prop}{ns:Ns}{e:E3}{σ:St}{H H2:Hp}{P:Addr}{q:Str}{ps:Array Value}{pos:Pos}
def LD(S:Sat K mg Y N0 ns e σ H)(g:xG H H2 P q ps pos)(hT:LamT K mg P q)(hP:H P=some (.tbl ps)):Sat K mg Y N0 ns e σ H2/\Stp ns e H ns e H2:=by
 rcases g with rfl |⟨c',hc,am,rfl⟩
 .exact⟨S,.refl⟩
 .have nPc:P≠c':=bL hP hc;have at_:∀b,b≠P->b≠c'->upd (upd H P (.tbl (ps++#[rawInt pos.line,rawInt pos.col,.ref c']))) c' (.ext (fN c' q)) b=H b:=λb n1 n2=>by rw[az n2,az n1]
  have atP:upd (upd H P (.tbl (ps++#[rawInt pos.line,rawInt pos.col,.ref c']))) c' (.ext (fN c' q)) P=some (.tbl (ps++#[rawInt pos.line,rawInt pos.col,.ref c'])):=by rw[az nPc,aG]
  have nc:∀b u,H b=some u->b≠c':=λb u e=>bL e hc;have kp:∀b u,H b=some u->oC u->upd (upd H P (.tbl (ps++#[rawInt pos.line,rawInt pos.col,.ref c']))) c' (.ext (fN c' q)) b=some u:=λb u e n=>by rw[at_ b (λz=>by rw[z,hP] at e;cases e;exact n _ rfl) (nc b _ e)];exact e
  have l:LeH H (upd (upd H P (.tbl (ps++#[rawInt pos.line,rawInt pos.col,.ref c']))) c' (.ext (fN c' q))):=⟨λb xs e=>kp b _ e λ_ z=>(nomatch z),λb o u e=>kp b _ e λ_ z=>(nomatch z),λb φ e=>kp b _ e λ_ z=>(nomatch z)⟩;have dom:∀a,upd (upd H P (.tbl (ps++#[rawInt pos.line,rawInt pos.col,.ref c']))) c' (.ext (fN c' q)) a=none->H a=none:=λa z=>by
   by_cases z1:a=c'
   .subst z1;exact hc
   .by_cases z2:a=P
    .subst z2;rw[atP] at z;cases z
    .rw[at_ a z2 z1] at z;exact z
  have mv:Mov (Oc Y ns) (Oc Y ns) H (upd (upd H P (.tbl (ps++#[rawInt pos.line,rawInt pos.col,.ref c']))) c' (.ext (fN c' q))):=⟨l,λa o p e n=>⟨p,kp a o e n⟩⟩;refine⟨⟨S.l1,S.l2,λa z=>S.lh a (dom a z),λa z=>?_,S.inj,S.nx,λi s qi=>(S.sl i s qi).mono mv λj o _ e f=>kp j o e f.nt,λP' q' l'=>?_⟩,⟨l,dom,λm o e n _=>kp m o e n,λ_ _ q=>.inl q,λ_ _ q _=>⟨q,rfl⟩,λ_ _ q _=>⟨q,rfl⟩,λ_ _ q=>⟨_,q,rfl⟩,λ_ _ q=>⟨_,q,rfl⟩⟩⟩
  .obtain⟨o,z⟩:=S.xl a z;cases y:upd (upd H P (.tbl (ps++#[rawInt pos.line,rawInt pos.col,.ref c']))) c' (.ext (fN c' q)) a with
   |none=>rw[dom a y] at z;cases z
   |some u=>exact⟨u,rfl⟩
  .obtain⟨⟨ps',t2,t3,t4⟩,bm⟩:=S.bs P' q' l';refine⟨?_,Eh bm l⟩;have eq:=hT.one l';by_cases z:P'=P
   .subst z;rw[hP] at t2;cases t2;refine⟨_,atP,?_,λk_ cv e=>?_⟩
    .rw[Array.toList_append];exact TriplesOk_snoc _ _ _ _ t3
    .rw[Array.toList_append] at e;rcases xf _ t3 e with z |rfl
     .obtain⟨c,e1,e2⟩:=t4 k_ cv z;exact⟨c,e1,l.ext _ _ e2⟩
     .exact⟨c',rfl,by rw[aG,eq]⟩
   .exact⟨ps',by rw[at_ P' z (nc P' _ t2)];exact t2,t3,λk_ cv e=>by obtain⟨c,e1,e2⟩:=t4 k_ cv e;exact⟨c,e1,l.ext _ _ e2⟩⟩
variable{X:Cx}{ES:St->XK}{a:Expr}{p:PEx}{iW:Nat}{c:Addr}{q1 q2 q6 q7 q8 q9 p0 p1 p2 p3 p4 p5 p6:Pos}
def FG(hc:X.calm=true)(hdp:X.A.depth<recursionLimit)(hl:Gl X "sorted")(hml:mg "sorted"=none)(hg:Gl X "range")(hm:mg "range"=none)(hN:X.N[iW]?=some "weights")(hv:X.env.scope.names.lookup ("weights" : Str)=some .cell)(l_:X.env.code=.ref c)(hh:W.codeHdIn K c P=true)(hT:LamT K mg P (X.env.qual ++ "<lambda>"))(ha:DE K mg X ES a p)(hK:X.K=K:=by rfl)(hk:X.mg=mg:=by rfl)(hs:starEach [a] X.env=[(false,eval a X.env)]:=by rfl):
 DE K mg X ES (.Call (.Name "sorted" q1) [.Call (.Name "range" q2) [a] [] q6] [⟨some "key",.Lambda (fg p0) (eB p1 p2 p3 p4 p5 p6) bc q7,q8⟩] q9) (pFn rf (aa p (aa (af iW) ag))):=by
 subst hK hk;refine⟨PE.imp (FL hc hdp hl hml hg hm (a9 ha yQ hs).ok hN hv l_ hh hs) λσ H Q zz=>zz.el λY N0 L ns e S hL p3=>⟨Y,N0,ns,e,S,?_⟩⟩;replace p3:PG3 X.K X.mg Y N0 ns e σ H (ES σ) (KE X.K X.mg Y N0 L σ Q) ((mq p.G (mq (eL iW) nZ) e).bind λts e1=>match rss e1 ts with
  |some vs=>(jk vs).at e1
  |none=>.stuck):=p3
 show PG3 X.K X.mg Y N0 ns e σ H (ES σ) _ (mq p.G nZ e);unfold mq at p3 ⊢;cases q0:p.G e with
 |stuck=>rw[q0] at p3;exact p3.elim
 |exc c e'=>rw[q0] at p3;exact p3
 |
  ok t e1=>
  rw[q0] at p3;intro H1 ns1 a1 S1 vs rts;replace p3:PG3 X.K X.mg Y N0 ns e σ H (ES σ) (KE X.K X.mg Y N0 L σ Q) (((eL iW e1).bind λt2 e2=>.ok (t.drop::[t2.drop]) e2).bind λts e1=>match rss e1 ts with
   |some vs=>(jk vs).at e1
   |none=>.stuck):=by
   refine Eq.mp ?_ p3;congr 1;show (R3.bind (R3.bind (R3.bind (eL iW e1) _) _) _)=_;cases eL iW e1 <;> rfl
  have j_:∀t2,eL iW e1=.ok t2 e1->(∀v,rs e1 t2.drop=some v->∃d,σ[iW]?=some (some d)/\ShR X.K X.mg (Oc Y ns1) H1 d v)->wL X.K X.mg P (X.env.qual ++ "<lambda>") q7 σ[iW]? vs H1 Q:=λt2 e2 hd=>by
   rw[e2] at p3;replace p3:PG3 X.K X.mg Y N0 ns e σ H (ES σ) (KE X.K X.mg Y N0 L σ Q) (match rss e1 [t.drop,t2.drop] with
    |some vs=>(jk vs).at e1
    |none=>.stuck):=p3
   unfold rss at p3;split at p3
   .rename_i vs' hvs;split at hvs
    .rename_i v1 vr hv1 hvr;cases hvs;unfold rss at hvr;split at hvr
     .rename_i v2 vr2 hv2 hvr2;cases hvr;cases hvr2;obtain⟨d,sd,rd⟩:=hd v2 hv2;have r1:=TsR.sh (ts:=[t.drop]) (vs:=[v1]) S1 rts (by unfold rss;rw[hv1];rfl);obtain⟨x,rfl,rx⟩:=dO r1;unfold jk at p3;split at p3
      .rename_i j us he;cases he;split at p3
       .rename_i ws hws;split at p3
        .rename_i hb;obtain rfl:=rx.int;obtain⟨b,ds,rfl,h,qq⟩:=rd.lst;obtain rfl:=tV qq hws;obtain⟨⟨ps,t2,t3,t4⟩,bm⟩:=S1.bs P _ hT;refine⟨b,ws,ps,by rw[hb.1],sd,SqL.of h,hb.2,t2,t3,t4,bm,λH2 l g hl2=>?_⟩;obtain⟨S2,a2⟩:=LD S1 g hT t2;exact PG3.bv (b:=.new (.lst ((aN ws).map λi:Nat=>.int (i:Nat)))) (p3.after S (a1.trans S a2)) S2 (λa z=>hL a (a1.dom a (a2.dom a z))) H2 l _ .refl hl2 trivial (.lst (ke _))
        .exact p3.elim
       .exact p3.elim
      .exact p3.elim
     .cases hvr
    .cases hvs
   .exact p3.elim
  unfold eL at p3;cases q1:e1[iW]? with
  |none=>rw[q1] at p3;exact p3.elim
  |
   some s=>
   have fb:∀u,s.val=some u->(∀v,s ≠ .sh v)->wL X.K X.mg P (X.env.qual ++ "<lambda>") q7 σ[iW]? vs H1 Q:=λu hu hn=>j_ (.bor iW) (by
    unfold eL;rw[q1];cases s <;> first |rfl |cases hu;done |exact absurd rfl (hn _)) λv hv=>by
    have y:=S1.sl iW s q1;have:∃x,σ[iW]?=some (some x):=by
     cases s with
     |no=>cases hu
     |sh v=>exact absurd rfl (hn v)
     |ow v=>obtain⟨m,_,_,y,_⟩:=y;exact⟨_,y⟩
     |lo v=>obtain⟨m,_,_,y,_⟩:=y;exact⟨_,y⟩
     |mu v=>obtain⟨m,_,_,y,_⟩:=y;exact⟨_,y⟩
     |lm v=>obtain⟨m,_,_,y,_⟩:=y;exact⟨_,y⟩
    obtain⟨x,hx⟩:=this;exact⟨x,hx,S1.bor hx hv⟩
   cases s with
   |no=>rw[q1] at p3;exact p3.elim
   |sh v=>exact j_ (.val v) (by unfold eL;rw[q1]) λu hu=>by cases hu;obtain⟨_,x,e1,r⟩:=S1.sl iW _ q1;exact⟨x,e1,.inl r⟩
   |ow v=>exact fb v rfl λ_ z=>nomatch z
   |lo v=>exact fb v rfl λ_ z=>nomatch z
   |mu v=>exact fb v rfl λ_ z=>nomatch z
   |lm v=>exact fb v rfl λ_ z=>nomatch z
end
def JY{P:Program}{w:World}{K:W.Frag}{mg:Pp}{base:Heap}{x y:Str}{k:Nat}{ts:List Addr}(p:PFn)(C:Callee P w K mg base x k [y] (sp3 K mg p))(hT:∀P q,LamT K mg P q->P∈ts)(hm:p.ms=[false])(hG:∀ns:List Int,ns.length<=63->p.G [.kl (ns.map .int)]=.ok (.val (.bl true)) []):
 Callee P w K mg base x k [y] (spT K mg ts):=C.imp λvs H Q E ⟨a,ns,e,hO,hq,hl,ht,hB,q⟩=>by
 subst e;refine⟨λ_=>False,[none],[.kl (ns.map .int)],by rw[hm];rfl,?_,?_⟩
 .rw[hm];have rd:Rd K mg (Oc (λ_=>False) [none]) H (.ref a) (.kl (ns.map .int)):=by
   rcases hq with (hq |⟨o,hq⟩) |hq
   .rcases hO a with z |⟨o,xs,z⟩ |z <;> rw[hq] at z <;> cases z
   .exact .cell ⟨λz=>z,by simp⟩ hq (.fz (ox ns))
   .exact .kl hq (ox ns)
  refine⟨rfl,rfl,λ_ z=>z,λ_ z=>z.elim,λi j n q=>?_,λi n q z=>z,λi s q=>?_,λP q l=>⟨⟨#[],ht P (hT P q l),trivial,λpos cv z=>by cases z⟩,hB⟩⟩
  .cases i with
   |zero=>simp at q
   |succ i=>simp at q
  .cases i with
   |
    zero=>
    have:sl1 false (.kl (ns.map .int))=s:=by simpa [sls] using q
    subst this;exact⟨rfl,_,rfl,rd⟩
   |succ i=>simp [sls] at q
 .rw[hG ns hl];intro x H' _ rr;rw[ShR.bl (.inl rr.2)];exact q H'
theorem ph(P:Nat->E3->Prop)(m:Nat)(hs:∀i,i<m->∀e,P i e->∃e1 e2,g (.int (i:Nat)) e=some e1/\(B e1=.nx e2\/B e1=.ct e2)/\P (i+1) e2):∀(k i:Nat) (e:E3),i+k=m->P i e->∃e',P m e'/\dN g B ((List.range' i k).map λj=>Val.int (j:Nat)) e=.nx e'
 |
  0,i,e,h,p=>by
  obtain rfl:i=m:=by omega
  exact⟨e,p,rfl⟩
 |
  k+1,i,e,h,p=>by
  obtain⟨e1,e2,q1,q2,q3⟩:=hs i (by omega) e p;obtain⟨e',p',q4⟩:=ph P m hs k (i+1) e2 (by omega) q3;refine⟨e',p',?_⟩;rw[List.range'_succ,x_,dS,q1];rcases q2 with q2 |q2
  .simp only[q2,qM];exact q4
  .simp only[q2,Kx];exact q4
def uq(P:Nat->E3->Prop)(m:Nat)(h0:P 0 e)(hs:∀i,i<m->∀e,P i e->∃e1 e2,g (.int (i:Nat)) e=some e1/\(B e1=.nx e2\/B e1=.ct e2)/\P (i+1) e2):∃e',P m e'/\dN g B (rgV m) e=.nx e':=by
 have:=ph P m hs m 0 e (by omega) h0
 rw[<- List.range_eq_range'] at this;exact this
def fE(xs:List Val)(n:Nat):gI xs none (some (n:Int))=xs.take n:=by
 unfold gI;rw[HT.sIx_none,HT.sIx_nat,List.drop_zero,Nat.sub_zero];by_cases h:n<=xs.length
 .rw[O3 h]
 .rw[Nat.min_eq_right (by omega),M5 (t_ _),M5 (by omega)]
def eY(xs:List Val)(n:Nat):gI xs (some (n:Int)) none=xs.drop n:=by
 unfold gI;rw[HT.sIx_none,HT.sIx_nat];by_cases h:n<=xs.length
 .rw[O3 h,M5 (by rw[Nr];exact t_ _)]
 .rw[Nat.min_eq_right (by omega),List.drop_of_length_le (t_ _),List.drop_of_length_le (by omega),OO]
def dB(xs:List Val)(lo hi:Option Int):aSl (.lst xs) lo hi=.new (.lst (gI xs lo hi)):=rfl
@[irreducible] def gtX(a:PGt):PGt:=a
def g_x(a:PGt)(v:Val)(e:E3):(gtX a).G v e=a.G v e:=by unfold gtX;rfl
def ZG.weak{K:W.Frag}{mg:Pp}{X:Cx}{e:PySem.Expr}{g:PGt}(h:DG K mg X e g):DG K mg X e (gtX g):=by unfold gtX;exact h
noncomputable def oh:Val->List Val->Option (Val×Val):=λu vs=>match u,vs with
 |.lst xs,[.int i,v]=>if 0<=i/\i<=(xs.length:Nat)/\xs.length<16777216 then some (.lst (xs.take i.toNat++v::xs.drop i.toNat),.non) else none
 |_,_=>none
noncomputable def kT:PMm:=⟨oh⟩
def Bf(xs:List Val)(i:Int)(v:Val):kT.G (.lst xs) [.int i,v]=if 0<=i/\i<=(xs.length:Nat)/\xs.length<16777216 then some (.lst (xs.take i.toNat++v::xs.drop i.toNat),.non) else none:=rfl
section
variable{K:W.Frag}{mg:Pp}
def zS:MmD K mg vn kT.G:=λP H n o u ds vs u' v Q np e hf r0 rs q k=>by
 replace q:oh u vs=some (u',v):=q;unfold oh at q;split at q
 .split at q
  .rename_i hb;cases q;obtain⟨xs,rfl,r⟩:=jV r0;cases rs with
   |cons r1 rs=>obtain⟨d,rfl,rd⟩:=wB rs;obtain rfl:=ShR.int (.inl r1);exact⟨n,xs,_,d,rfl,rfl,e,hb.1,by rw[r.len];exact hb.2.1,by rw[r.len];exact hb.2.2,k _ _ trivial (.lst ((r.take _).append (.cons rd (r.drop _)))) .non⟩
  .cases q
 .cases q
end
noncomputable def eA (j t:Nat) (q:ME3):List Val->List (List Val)->MS3
 | [],xss,e=>match e[j]? with
  |some .no=>.nx (e.set j (.sh (.lst (xss.map .lst))))
  |_=>.stuck
 |v::vs,xss,e=>match pN t v e with
  |none=>.stuck
  |some e1=>match q e1 with
   |.ok tm e2=>match rs e2 tm,e2[j]?,e2[t]? with
    |some (.int i),some .no,some (.sh u)=>match xss[i.toNat]? with
     |some xs=>if 0<=i/\xs.length<16777216 then eA j t q vs (xss.set i.toNat (xs++[u])) e2 else .stuck
     |none=>.stuck
    |_,_,_=>.stuck
   |_=>.stuck
noncomputable def KO (I1 I2:MI3) (j t:Nat) (q:ME3):MS3:=λe=>(I1 e).toS λp e1=>match p.2,e1[j]? with
 |
  none,some s=>if s.pl=true/\p.1.length<16777216 then (I2 (e1.set j .no)).toS λp2 e2=>match p2.2,e2[j]? with
   |none,some .no=>eA j t q p2.1 (p.1.map λv=>[v]) e2
   |_,_=>.stuck
  else .stuck
 |_,_=>.stuck
noncomputable def qE (I1 I2:PIt) (j t:Nat) (q:PEx) (_:j≠t):PSt:=⟨40,KO I1.G I2.G j t q.G⟩
theorem BN(I1 I2:PIt)(j t:Nat)(q:PEx)(hjt:j≠t)(e:E3):(qE I1 I2 j t q hjt).G e=(I1.G e).toS λp e1=>match p.2,e1[j]? with
 |
  none,some s=>if s.pl=true/\p.1.length<16777216 then (I2.G (e1.set j .no)).toS λp2 e2=>match p2.2,e2[j]? with
   |none,some .no=>eA j t q.G p2.1 (p.1.map λv=>[v]) e2
   |_,_=>.stuck
  else .stuck
 |_,_=>.stuck:=rfl
def Xd(X:Addr->Prop)(cs:List Addr)(D:Addr):Addr->Prop:=λn=>X n\/n∈cs\/n=D
section
variable{K:W.Frag}{mg:Pp}{X Z N0:Addr->Prop}{ns ns1:Ns}{e e1:E3}{σ σ':St}{H H' H1:Hp}{c D:Addr}{o o':HO}{cs:List Addr}
def Sat.growL(S:Sat K mg X N0 ns e σ H)(g:Gr H H')(hz:∀n,Z n->X n\/(H n=none/\∃o,H' n=some o))(hx:∀n,X n->Z n):Sat K mg Z N0 ns e σ H':=by
 have S':=S.gr g;refine⟨S.l1,S.l2,S'.lh,λa z=>?_,S.inj,λi n q' z=>?_,λi s q=>(S.sl i s q).mono ⟨g.le,λa o p q _=>⟨⟨λz=>?_,p.2⟩,g a o q⟩⟩ λj o _ q _=>g j o q,S'.bs⟩
 .rcases hz a z with y |⟨_,y⟩
  .exact S'.xl a y
  .exact y
 .rcases hz n z with y |⟨y,_⟩
  .exact S.nx i n q' y
  .obtain⟨_,_,_,_,_,_,_,w,_⟩:=S.own q';rw[y] at w;cases w
 .rcases hz a z with y |⟨y,_⟩
  .exact p.1 y
  .rw[y] at q;cases q
def sj(hc:X c)(hH:H c=some o)(hf:NotFz o):Mov (Oc X ns) (Oc X ns) H (upd H c o'):=⟨LeH.wr hH hf,λn ob p q _=>⟨p,by rw[az λz=>p.1 (by rw[z];exact hc)];exact q⟩⟩
def Sat.wr(S:Sat K mg X N0 ns e σ H)(hc:X c)(hH:H c=some o)(hf:NotFz o):Sat K mg X N0 ns e σ (upd H c o'):=by
 refine⟨S.l1,S.l2,λa z=>S.lh a ?_,λn z=>?_,S.inj,S.nx,λi s q=>?_,S.bs.wr hH hf⟩
 .by_cases y:a=c
  .subst y;rw[aG] at z;cases z
  .rw[az y] at z;exact z
 .by_cases y:n=c
  .subst y;exact⟨o',aG⟩
  .rw[az y];exact S.xl n z
 .exact (S.sl i s q).mono (sj hc hH hf) λj ob z q' _=>by rw[az λy=>S.nx i c (by rw[<- y];exact z) hc];exact q'
def Stp.wr(a:Stp ns e H ns1 e1 H1)(h0:H c=none)(h1:H1 c=some o)(hf:NotFz o):Stp ns e H ns1 e1 (upd H1 c o'):=
 ⟨a.le.trans (LeH.wr h1 hf),λm z=>a.dom m (by
  by_cases y:m=c
  .subst y;rw[aG] at z;cases z
  .rw[az y] at z;exact z),λm ob q t z=>by rw[az λy=>by subst y;rw[h0] at q;cases q];exact a.keep m ob q t z,a.nw,a.lk,a.lk',a.mu,a.mu'⟩
structure Dl(K:W.Frag)(mg:Pp)(X:Addr->Prop)(cs:List Addr)(D:Addr)(j:Nat)(ns:Ns)(σ:St)(H:Hp)(xss:List (List Val)):Prop where
 aj:σ[j]?=some (some (.ref D))
 hm:H D=some (.lst (cs.map .ref))
 len:xss.length=cs.length
 nd:cs.Nodup
 dn:D∉cs
 cl:∀(i:Nat) (xs:List Val),xss[i]?=some xs->∃c ds,cs[i]?=some c/\H c=some (.lst ds)/\Rds K mg (Oc (Xd X cs D) ns) H ds xs
def Dl.step{j:Nat}{xss:List (List Val)}(d:Dl K mg X cs D j ns σ H xss)(S:Sat K mg (Xd X cs D) N0 ns e σ H)(a:Stp ns e H ns1 e1 H1)(ha:σ'[j]?=σ[j]?):Dl K mg X cs D j ns1 σ' H1 xss:=by have kp:∀(m:Addr) (l:List V),Xd X cs D m->H m=some (.lst l)->H1 m=some (.lst l):=λm l z q=>a.keep m _ q (λ_ z=>nomatch z) λ⟨i,s,y,_⟩=>S.nx i m y z;refine⟨ha.trans d.aj,kp _ _ (.inr (.inr rfl)) d.hm,d.len,d.nd,d.dn,λi xs q=>?_⟩;obtain⟨c,ds,q0,q1,q2⟩:=d.cl i xs q;exact⟨c,ds,q0,kp _ _ (.inr (.inl (Mw q0))) q1,q2.mono a.mov⟩
def Dl.wr{j i:Nat}{xss:List (List Val)}{xs:List Val}{u:Val}{du:V}{ds:List V}(d:Dl K mg X cs D j ns σ H xss)(hi:xss[i]?=some xs)(hc:cs[i]?=some c)(hH:H c=some (.lst ds))(r:Rds K mg (Oc (Xd X cs D) ns) H ds xs)(ru:Rd K mg (Oc (Xd X cs D) ns) H du u):Dl K mg X cs D j ns σ (upd H c (.lst (ds++[du]))) (xss.set i (xs++[u])):=by
 have mc:c∈cs:=Mw hc;have mw:Mov (Oc (Xd X cs D) ns) (Oc (Xd X cs D) ns) H (upd H c (.lst (ds++[du]))):=sj (.inr (.inl mc)) hH trivial;have hil:i<xss.length:=(u_.mp hi).1;refine⟨d.aj,by rw[az λz=>d.dn (by rw[z];exact mc)];exact d.hm,by rw[MJ];exact d.len,d.nd,d.dn,λi' xs' q=>?_⟩;rcases bu hil q with ⟨rfl,rfl⟩ |⟨z,q⟩
 .exact⟨c,_,hc,aG,(r.append (.cons ru .nil)).mono mw⟩
 .obtain⟨c',ds',q0,q1,q2⟩:=d.cl i' xs' q;refine⟨c',ds',q0,?_,q2.mono mw⟩;rw[az λy=>z ?_]
  .exact q1
  .subst y;have l1:=(u_.mp q0).1;have l2:=(u_.mp hc).1;have e0:cs[i']=cs[i]:=(u_.mp q0).2.trans (u_.mp hc).2.symm;have pw:=Nf.mp d.nd;rcases Nat.lt_trichotomy i' i with z |z |z
   .exact absurd e0 (pw _ _ l1 l2 z)
   .exact z
   .exact absurd e0.symm (pw _ _ l2 l1 z)
end
section
variable{K:W.Frag}{mg:Pp}
theorem yi{P:Addr->Prop}{H:Hp}:∀{ds:List V}{vs:List Val},ds.length=vs.length->(∀(i:Nat) d v,ds[i]?=some d->vs[i]?=some v->Rd K mg P H d v)->Rds K mg P H ds vs
 | [],[],_,_=>.nil
 |d::ds,v::vs,h,k=>.cons (k 0 d v rfl rfl) (yi (Nat.succ.inj h) λi d v q1 q2=>k (i+1) d v q1 q2)
def Pn(Y:Addr->Prop)(ns:Ns)(cs:List Addr):Addr->Prop:=λn=>Oc Y ns n/\n∉cs
def Dz{Y P:Addr->Prop}{ns:Ns}{H H':Hp}(m:Mov (Oc Y ns) P H H'):Kp Y ns none H P H':=⟨m,λ_ _ _ z=>nomatch z⟩
def sC(K:W.Frag)(mg:Pp)(ES:St->XK)(j t:Nat)(q:PEx):TS:=Dh (DF (tBM K "list" nz (tOp (λx y H Q=>wU K x y H Q\/xM K x y H Q) (sA j) (rdE K mg ES q.G)) (qf (sA t) sq))) DZ
def yg{I2:PIt}{j t:Nat}{q:PEx}{ES:St->XK}{De:Ends}(hjt:j≠t){Y N0:Addr->Prop}{ns ns3:Ns}{e e3:E3}{σ σ3:St}{H H3:Hp}{cs:List Addr}{D:Addr}{xss:List (List Val)}{us:List Val}{J:It}
 (S:Sat K mg Y N0 ns e σ H) (A:Stp ns e H ns3 e3 H3) (S3:Sat K mg (Xd Y cs D) N0 ns3 e3 σ3 H3) (D3:Dl K mg Y cs D j ns3 σ3 H3 xss) (hn:∀c,c∈cs\/c=D->H c=none) (ej:e3[j]?=some .no) (it:ItS K mg (Xd Y cs D) ns3 none H3 J us)
 (p:PS3 K mg Y N0 ns e H De ES (eA j t q.G us xss e3)):∃W:Nat->Nat->St->Hp->Prop,(∃m,W 0 m σ3 H3)/\∀i m σ H,W i m σ H->
  (J.stop i H/\De.nx σ H)\/(J.go i H/\∃N:St->Hp->Prop,(∀σ' H',N σ' H'->∃m',m'<m/\W (i+1) m' σ' H')/\∀x H',J.yld i H x H'->fo t x σ H' λσ2 H2=>sC K mg ES j t q { De with nx:=N,ct:=N,bk:=De.nx } σ2 H2):=by
 refine⟨λi m σ' H'=>m=us.length-i/\i<=us.length/\∃ns' e' xss,Stp ns e H ns' e' H'/\Mov (Oc (Xd Y cs D) ns3) (Oc (Xd Y cs D) ns') H3 H'/\Sat K mg (Xd Y cs D) N0 ns' e' σ' H'/\Dl K mg Y cs D j ns' σ' H' xss/\e'[j]?=some .no/\PS3 K mg Y N0 ns e H De ES (eA j t q.G (us.drop i) xss e'),⟨_,rfl,MV _,ns3,e3,xss,A,.of λ_ z=>z,S3,D3,ej,p⟩,?_⟩;rintro i m σ' H' ⟨rfl,hi,ns',e',xss',A',M',S',D',ej',p'⟩;have kp:=Dz M';by_cases hlt:i<us.length
 .rw[NX hlt] at p';obtain⟨go,yl⟩:=(it _ _ kp).1 i _ (v_ hlt);refine .inr ⟨go,λσ2 H2=>i+1<=us.length/\∃ns' e' xss,Stp ns e H ns' e' H2/\Mov (Oc (Xd Y cs D) ns3) (Oc (Xd Y cs D) ns') H3 H2/\Sat K mg (Xd Y cs D) N0 ns' e' σ2 H2/\Dl K mg Y cs D j ns' σ2 H2 xss/\e'[j]?=some .no/\PS3 K mg Y N0 ns e H De ES (eA j t q.G (us.drop (i+1)) xss e'),λσ2 H2 n=>⟨_,by omega,rfl,n⟩,λx H4 y=>?_⟩;obtain⟨gr,rx⟩:=yl x H4 y;unfold eA at p';split at p'
  .exact p'.elim
  .rename_i e4 qp;have S5:=S'.gr gr;obtain⟨S6,a6⟩:=jE S5 rx qp;have A6:=(A'.trans S (.gr gr)).trans S a6;have hjs:(σ'.set t (some x))[j]?=σ'[j]?:=b8 hjt;have D6:=(D'.step S' (.gr gr) rfl).step S5 a6 hjs;refine⟨.ref D,D6.aj,Xd Y cs D,N0,λ_=>True,ns'.set t none,e4,S6,λ_ _=>trivial,?_⟩;cases qq:q.G e4 with
   |stuck=>rw[qq] at p';exact p'.elim
   |exc c e5=>rw[qq] at p';exact p'.elim
   |
    ok tm e5=>
    rw[qq] at p';intro H5 ns5 a7 S7 v rv;dsimp only at p';split at p'
    .rename_i i' u z1 z2 z3;split at p'
     .rename_i xs z4;split at p'
      .rename_i hb;obtain rfl:=(rv.sh S7 z1).int;have D7:=D6.step S6 a7 (σ':=σ'.set t (some x)) rfl;obtain⟨c,ds,w0,w1,w2⟩:=D7.cl _ xs z4;obtain⟨_,du,w3,w4⟩:=S7.sl t _ z3;have mc:c∈cs:=Mw w0;have ix:atI (cs.map V.ref) i'=some (.ref c):=cC hb.1 (by rw[L_,w0];rfl);have A7:=A6.trans S a7;have M7:Mov (Oc (Xd Y cs D) ns3) (Oc (Xd Y cs D) ns5) H3 H5:=((M'.trans gr.mov).trans a6.mov).trans a7.mov;refine .inl ⟨D,cs.map V.ref,i',.ref c,rfl,rfl,SqL.of D7.hm,ix,.inl ⟨rfl,ds,SqL.of w1⟩,du,w3,c,ds,du,rfl,rfl,w1,by rw[w2.len];exact hb.2,?_⟩;exact⟨hlt,ns5,e5,_,A7.wr (hn c (.inl mc)) w1 trivial,M7.trans (sj (.inr (.inl mc)) w1 trivial),S7.wr (.inr (.inl mc)) w1 trivial,D7.wr z4 w0 w1 w2 w4,z2,p'⟩
      .exact p'.elim
     .exact p'.elim
    .exact p'.elim
 .obtain rfl:i=us.length:=by omega
  rw[List.drop_length] at p';unfold eA at p';rw[ej'] at p';have hi':=(u_.mp ej').1;have oc:∀n,n∈cs\/n=D->Oc Y (ns'.set j none) n:=λn z=>⟨λy=>(by
   obtain⟨o,w⟩:=S.xl n y;rw[hn n z] at w;cases w),λy=>by
   rcases Nw y with y |y
   .obtain⟨k,y⟩:=aQ.mp y;exact S'.nx k n y (.inr z)
   .cases y⟩
  have rows:Rds K mg (Oc Y (ns'.set j none)) H' (cs.map V.ref) (xss'.map .lst):=yi (by rw[p_,p_,D'.len]) λk d v q1 q2=>by rw[L_] at q1 q2;obtain⟨c,q5,rfl⟩:=Mp.mp q1;obtain⟨xs,q3,rfl⟩:=Mp.mp q2;obtain⟨c',ds,w0,w1,w2⟩:=D'.cl _ xs q3;rw[q5] at w0;cases w0;exact .cell (oc c (.inl (Mw q5))) w1 (.lst (w2.mono (.of λn p=>eF ⟨λz=>p.1 (.inl z),p.2⟩)))
  refine .inl ⟨(it _ _ kp).2,p' H' σ' (ns'.set j none) (A'.put (x:=none) hi' (λ_ z=>nomatch z) ej' rfl rfl S'.l2) ((S'.weak λn z=>.inl z).putN' hi' ⟨rfl,_,D'.aj,.cell (oc D (.inr rfl)) D'.hm (.lst rows)⟩)⟩
def EI{I1 I2:PIt}{j t:Nat}{q:PEx}{ES:St->XK}{De:Ends}{σ:St}{H:Hp}(hjt:j≠t)(zz:rdS K mg ES (qE I1 I2 j t q hjt).G De σ H):
 Dh (r9 (lW (rdI K mg ES I1.G) [none] (fo 0) tYes (Cp (qf (sA 0) sq))) (fo j)) (CD (rdI K mg ES I2.G) (fo t) (sC K mg ES j t q)) De σ H:=zz.el λY N0 ns e S p=>by
 refine⟨Y,N0,ns,e,S,PS3.toS (r:=I1.G e) p S λw e1 ns1 H1 a1 S1 p1 J it hk=>?_⟩;obtain⟨vs,lk⟩:=w;cases lk with
 |some _=>exact p1.elim
 |none=>
 cases z2:e1[j]? with
 |none=>simp only[z2] at p1;exact p1.elim
 |some s=>
 simp only[z2] at p1;by_cases hp:s.pl=true/\vs.length<16777216
 case neg=>rw[if_neg hp] at p1;exact p1.elim
 rw[if_pos hp] at p1;have hj:=(u_.mp z2).1;refine⟨λi m ys σ' H'=>m=vs.length-i/\i<=vs.length/\∃cs:List Addr,ys=cs.map V.ref/\cs.length=i/\cs.Nodup/\Gr H1 H'/\(∀c∈cs,H1 c=none)/\(∃d,σ'=[d])/\∀(k:Nat) c,cs[k]?=some c->∃d v,vs[k]?=some v/\H' c=some (.lst [d])/\Rd K mg (Pn Y ns1 cs) H' d v,⟨_,rfl,MV _,[],rfl,rfl,.nil,.refl,λ_ z=>by simp at z,⟨_,rfl⟩,λk c z=>by simp at z⟩,?_⟩;rintro i m ys σ' H' ⟨rfl,hi,cs,rfl,hl,nd,g,new,⟨d0,rfl⟩,cl⟩;have mv0:Mov (Oc Y ns1) (Pn Y ns1 cs) H1 H':=⟨g.le,λa o p q _=>⟨⟨p,λz=>by rw[new a z] at q;cases q⟩,g a o q⟩⟩;have kp:=Dz mv0;by_cases hlt:i<vs.length
 .obtain⟨go,yl⟩:=(it _ _ kp).1 i _ (v_ hlt);refine .inr ⟨go,by have:sizeLine=16777216:=rfl;rw[p_,hl];omega,λys σ' H'=>i+1<=vs.length/\∃cs:List Addr,ys=cs.map V.ref/\cs.length=i+1/\cs.Nodup/\Gr H1 H'/\(∀c∈cs,H1 c=none)/\(∃d,σ'=[d])/\∀(k:Nat) c,cs[k]?=some c->∃d v,vs[k]?=some v/\H' c=some (.lst [d])/\Rd K mg (Pn Y ns1 cs) H' d v,λys' σ2 H2 n=>⟨_,by omega,rfl,n⟩,λx H2 y=>?_⟩;obtain⟨gr,rx⟩:=yl x H2 y;simp only[fo,N2];refine⟨x,rfl,by show 1<=sizeLine;decide,λp hp'=>?_⟩;have np:p∉cs:=λz=>by obtain⟨k,z⟩:=NY z;obtain⟨_,_,_,w,_⟩:=cl k p z;rw[gr _ _ w] at hp';cases hp'
  have mv1:Mov (Pn Y ns1 cs) (Pn Y ns1 (cs++[p])) H2 (upd H2 p (.lst [x])):=⟨(Gr.upd hp').le,λa o pa qa _=>⟨⟨pa.1,λz=>by
   rcases MQ.mp z with z |z
   .exact pa.2 z
   .rw[MC] at z;subst z;rw[hp'] at qa;cases qa⟩,Gr.upd hp' a o qa⟩⟩
  have new':H1 p=none:=g.none (gr.none hp');refine⟨hlt,cs++[p],by rw[MY];rfl,by rw[Em,hl];rfl,?_,λa o q=>Gr.upd hp' a o (gr a o (g a o q)),λc z=>?_,⟨_,rfl⟩,λk c q=>?_⟩
  .exact List.nodup_append.mpr ⟨nd,by simp,λa ha b hb z=>by rw[MC] at hb;subst hb;subst z;exact np ha⟩
  .rcases MQ.mp z with z |z
   .exact new c z
   .rw[MC] at z;subst z;exact new'
  .by_cases hk':k<cs.length
   .rw[Mz hk'] at q;obtain⟨d,v,w0,w1,w2⟩:=cl k c q;exact⟨d,v,w0,Gr.upd hp' _ _ (gr _ _ w1),(w2.mono gr.mov).mono mv1⟩
   .rw[Nn (by omega)] at q;obtain⟨y1,y2⟩:=u_.mp q;have hk2:k-cs.length<1:=y1;have:k=i:=by omega
    subst this;have hc:c=p:=by
     have e0:k-cs.length=0:=by omega
     rw[e0] at q;exact (J_ q).symm
    subst hc;exact⟨x,_,v_ hlt,aG,rx.mono mv1⟩
 .obtain rfl:i=vs.length:=by omega
  refine .inl ⟨(it _ _ kp).2,by have:sizeLine=16777216:=rfl;rw[p_,hl];omega,λD hD=>?_⟩;have dn:D∉cs:=λz=>by obtain⟨k,z⟩:=NY z;obtain⟨_,_,_,w,_⟩:=cl k D z;rw[hD] at w;cases w
  have g2:Gr H1 (upd H' D (.lst (cs.map V.ref))):=λa o q=>Gr.upd hD a o (g a o q);have hn1:∀c,c∈cs\/c=D->H1 c=none:=λc z=>by
   rcases z with z |rfl
   .exact new c z
   .exact g.none hD
  have S2:Sat K mg (Xd Y cs D) N0 ns1 e1 σ (upd H' D (.lst (cs.map V.ref))):=S1.growL g2 (λn z=>by
   rcases z with z |z
   .exact .inl z
   .refine .inr ⟨hn1 n z,?_⟩;rcases z with z |rfl
    .obtain⟨k,z⟩:=NY z;obtain⟨_,_,_,w,_⟩:=cl k n z;exact⟨_,Gr.upd hD _ _ w⟩
    .exact⟨_,aG⟩) λn z=>.inl z
  have S3:=S2.putN hj (s:=.no) (d:=some (.ref D)) rfl;have A3:=(Stp.gr (ns:=ns1) (e:=e1) g2).put (x:=none) (s:=.no) hj (λ_ z=>nomatch z) z2 hp.1 rfl S1.l2;have A:=a1.trans S A3;have mv2:Mov (Pn Y ns1 cs) (Oc (Xd Y cs D) (ns1.set j none)) H' (upd H' D (.lst (cs.map V.ref))):=⟨(Gr.upd hD).le,λa o pa qa _=>⟨eF ⟨λz=>(by
   rcases z with z |z |z
   .exact pa.1.1 z
   .exact pa.2 z
   .subst z;rw[hD] at qa;cases qa),pa.1.2⟩,Gr.upd hD a o qa⟩⟩
  have D3:Dl K mg Y cs D j (ns1.set j none) (σ.set j (some (.ref D))) (upd H' D (.lst (cs.map V.ref))) (vs.map λv=>[v]):=by
   refine⟨b9 (by rw[S1.l1];exact hj),aG,by rw[p_,hl],nd,dn,λk xs q=>?_⟩;rw[L_] at q;obtain⟨v,q5,rfl⟩:=Mp.mp q;have hk':k<cs.length:=by rw[hl];exact (u_.mp q5).1
   obtain⟨d,v',w0,w1,w2⟩:=cl k _ (v_ hk');rw[q5] at w0;cases w0;exact⟨_,[d],v_ hk',Gr.upd hD _ _ w1,.cons (w2.mono mv2) .nil⟩
  have hn:∀c,c∈cs\/c=D->H c=none:=λc z=>a1.dom c (hn1 c z);refine⟨Xd Y cs D,N0,ns1.set j none,e1.set j .no,S3,?_⟩;have ej3:(e1.set j .no)[j]?=some .no:=b9 hj;generalize upd H' D (.lst (cs.map V.ref))=H2 at *;generalize σ.set j (some (.ref D))=σ2 at *;generalize ns1.set j none=h_ at *;generalize e1.set j .no=e2 at *;cases qi:I2.G e2 with
  |stuck=>rw[qi] at p1;exact p1.elim
  |exc c e'=>rw[qi] at p1;exact λH' ns' C a S' m=>p1 H' _ ns' C (A.trans S a) (S'.weak λn z=>.inl z) m
  |
   ok p2 e'=>
   rw[qi] at p1;obtain⟨us,lk⟩:=p2;intro H4 ns4 a4 S4 J2 it2 hk2;cases lk with
   |some _=>exact p1.elim
   |none=>
   cases z4:e'[j]? with
   |none=>simp only[R3.toS,z4] at p1;exact p1.elim
   |some s4=>
   by_cases hs4:s4=.no
   case neg=>(simp only[R3.toS,z4] at p1;cases s4 <;> first |exact absurd rfl hs4 |exact p1.elim)
   subst hs4;simp only[R3.toS,z4] at p1;exact yg (I2:=I2) hjt S (A.trans S a4) S4 (D3.step S3 a4 rfl) hn z4 it2 p1
end
section
variable{K:W.Frag}{mg:Pp}{X:Cx}{ES:St->XK}{qe iter iter1:Expr}{sts:List Stmt}{q:PEx}{y:PSt}{I1 I2:PIt}{pos p2 p3 p4 p5 px spos cpos py1 py2 py3 pt po pr:Pos}{x y0 z0:Str}{j t:Nat}
def BO{scope:Scope}{hjt:j≠t}(hN:X.N.Nodup)(M:List Str)(kn:List (Str×NameKind))(N:List Str)(hi1:DI K mg X ES (.Name y0 py1) iter1 I1)(hp:PassesOwn (model X.prog X.w) X.A X.env X.xe)(hK:X.K=K)(hi:DI K mg X ES (.Name z0 pt) iter I2)(hq:DE K mg X ES qe q)(hy:DSs K mg X ES sts y)
 (hNy:N=[y0]:=by rfl)
 (hsw1:swapsWith (.ListComp (.List [.Name y0 py2] py3) [⟨.Name y0 py1,iter1,[],0⟩] scope cpos) (some (.Name x px)) spos.line X.env=pure true:=by rfl) (hc:X.calm=true:=by rfl) (hix:X.N[j]?=some x:=by rfl) (hxl:Loc X.env.scope x:=by first |exact Or.inl rfl |exact Or.inr rfl) (hM:X.N=M:=by rfl) (hkn:X.env.scope.names=kn:=by rfl) (n_:mP M scope.names [none] N=true:=by decide) (hk:scope.kind=.function:=by rfl) (hnc:∀x∈scope.names,x.2 ≠ .cell:=by decide) (d_:∀x∈scope.names,x.2=.local->scope.names.lookup x.1=some .local:=by decide) (hfr:rC kn scope.names=true:=by decide) (hs1:∀x,foldedSetIterable iter1 X.env x=pure x:=by intro _;rfl) (hf:X.fn x=true\/X.env.scope.names.lookup x=some .local:=by first |exact .inl rfl |exact .inr rfl |assumption)
 (hgl:∀cl C s₂ H fp,Loc (aZ X N scope cl C s₂ H fp).env.scope y0:=by intro _ _ _ _ _;first |exact Or.inl rfl |exact Or.inr rfl) (hgf:∀cl C s₂ H fp,(aZ X N scope cl C s₂ H fp).env.scope.names.lookup y0=some .local:=by intro _ _ _ _ _;rfl) (hev:∀cl C s₂ H fp,Vis (aZ X N scope cl C s₂ H fp).env.scope y0:=by intro _ _ _ _ _;first |exact Or.inl rfl |exact Or.inr (Or.inl rfl) |exact Or.inr (Or.inr rfl)) (hd:(y0==("__debug__" : Str))=false:=by decide) (l_:(y0==("__classdict__" : Str))=false:=by decide) (hes:∀cl C s₂ H fp,starEach [.Name y0 py2] (aZ X N scope cl C s₂ H fp).env=(false,eval (.Name y0 py2) (aZ X N scope cl C s₂ H fp).env)::starEach [] (aZ X N scope cl C s₂ H fp).env:=by intro _ _ _ _ _;rfl)
 (htN:X.N[t]?=some z0:=by rfl) (htl:Loc X.env.scope z0:=by first |exact Or.inl rfl |exact Or.inr rfl) (htf:X.fn z0=true\/X.env.scope.names.lookup z0=some .local:=by first |exact .inl rfl |exact .inr rfl |assumption) (hxv:Vis X.env.scope x:=by first |exact Or.inl rfl |exact Or.inr (Or.inl rfl) |exact Or.inr (Or.inr rfl)) (hzv:Vis X.env.scope z0:=by first |exact Or.inl rfl |exact Or.inr (Or.inl rfl) |exact Or.inr (Or.inr rfl)) (hxd:(x==("__debug__" : Str))=false:=by decide) (hxc:(x==("__classdict__" : Str))=false:=by decide) (hzd:(z0==("__debug__" : Str))=false:=by decide) (hzc:(z0==("__classdict__" : Str))=false:=by decide)
 (hpx:oy qe:=by exact λ_ _=>rfl) (hs:∀x,foldedSetIterable iter X.env x=pure x:=by intro _;rfl)
 (hsw:swapsWith (.Call (.Attribute (.Subscript (.Name x po) qe p2) "append" p3) [.Name z0 pr] [] p4) none p5.line X.env=pure false:=by rfl)
 (e_:attributeBase (.Subscript (.Name x po) qe p2) "append" X.env (eval (.Subscript (.Name x po) qe p2) X.env)=eval (.Subscript (.Name x po) qe p2) X.env:=by rfl)
 (hfew:((backTo p4 (starEach [.Name z0 pr] X.env)).all (λx=>!x.1)&&(backToKw p4 (keywordEach [] X.env)).all (λx=>x.1.isSome)&&decide ([(.Name z0 pr:Expr)].length+([]:List Keyword).length+(if ([]:List Keyword).isEmpty then 0 else 1)<30))=true:=by rfl)
 (f_:(p3.endLine==p4.line)=true:=by rfl) (hst:starEach [.Name z0 pr] X.env=(false,eval (.Name z0 pr) X.env)::starEach [] X.env:=by rfl) (c_:(backTo p4 (starEach ([]:List Expr) X.env)).any (·.1)=false:=by rfl):
 DSs K mg X ES (.Assign [.Name x px] (.ListComp (.List [.Name y0 py2] py3) [⟨.Name y0 py1,iter1,[],0⟩] scope cpos) spos :: .For (.Name z0 pt) iter [.Expr (.Call (.Attribute (.Subscript (.Name x po) qe p2) "append" p3) [.Name z0 pr] [] p4) p5] [] pos::sts) (ak (qE I1 I2 j t q hjt) y):=by
 subst hK;have h1:=ze (te:=Cp (qf (sA 0) sq)) (g:=fo 0) (tc:=tYes) (sub:=[none]) (N:=N) hc hN hix hxl hi1.ok hk hnc d_ (by subst hkn;exact nE hfr) (by rw[hNy];rfl) (by subst hM;exact lA n_) (λcl C s₂ H fp=>nG (by show N.Nodup;rw[hNy];simp) (by show N[0]?=_;rw[hNy];rfl) (hgl cl C s₂ H fp) (.inr (hgf cl C s₂ H fp))) (λcl C s₂ H fp=>vQ) (λcl C s₂ H fp=>zy (pos:=py3) (n8 (mf (pos:=py2) (by show N[0]?=_;rw[hNy];rfl) (hev cl C s₂ H fp) hd l_) su (hes cl C s₂ H fp))) hsw1 hs1 hf;have h2:PS X (.For (.Name z0 pt) iter [.Expr (.Call (.Attribute (.Subscript (.Name x po) qe p2) "append" p3) [.Name z0 pr] [] p4) p5] [] pos) (CD (rdI X.K mg ES I2.G) (fo t) (sC X.K mg ES j t q)):=An hp hc hi.ok (nG hN htN htl htf) (iX (wc (qb N3 PySem.F.slot_list_append PySem.F.type_list_append oU (Ec (ixK rfl) (mf hix hxv hxd hxc) hq.ok hpx) (n8 (mf htN hzv hzd hzc) su hst) e_ hfew f_ hst c_) hsw) uV) hs;refine⟨PSs.imp (iX h1 (iX h2 hy.ok)) λDe σ H zz=>zz.el λY N0 ns e S p=>?_⟩;exact EI hjt (De:={ De with nx:=λσ1 H1=>rdS X.K mg ES y.G De σ1 H1 }) ⟨Y,N0,ns,e,S,PS3.then p S λe1 ns1 σ1 H1 a1 S1 p1=>⟨Y,N0,ns1,e1,S1,p1⟩⟩
end
end L3
namespace Wb
open L2
noncomputable def lc (qs:List Rat) (c:Nat):Nat:=qs.foldl (λc q=>Nat.lcm c q.den) c
noncomputable def wh (L:Nat) (qs:List Rat):List Int:=qs.map λq=>q.num*((L/q.den:Nat):Int)
noncomputable def ws (qs:List Rat):List Int:=wh (lc qs 1) qs
end Wb
namespace L3
open PySem L2
noncomputable def aA (b:Bx):Rat:=if b.w<b.h then b.h/b.w else b.w/b.h
noncomputable def shL (s l:Rat) (W:Int):Int->List Int->List (Rat×Rat)
 |_,[]=>[]
 |a,w::ws=>(s+l*((a:Rat)/(W:Rat)),l*((w:Rat)/(W:Rat)))::shL s l W (a+w) ws
theorem iE(s l:Rat)(W:Int):∀(ws:List Int) (a:Int),(shL s l W a ws).length=ws.length
 | [],_=>rfl
 |w::ws,a=>by unfold shL;rw[D_,D_,iE s l W ws (a+w)]
noncomputable def aR (b:Bx) (way:Str) (ws:List Int):List Bx:=if way="across" then (shL b.l b.w ws.sum 0 ws).map λp=>⟨p.1,b.t,p.2,b.h⟩ else (shL b.t b.h ws.sum 0 ws).map λp=>⟨b.l,p.1,b.w,p.2⟩
theorem dg:∀{l:List Int},(∀w∈l,1<=w)->(l.length:Int)<=l.sum
 | [],_=>by simp
 |
  x::l,h=>by
  rw[MB,D_]
  have:=h x (s_ ..)
  have:=dg (l:=l) λw hw=>h w (q_ _ hw)
  omega
theorem vx:∀(ws:List Int) (a:Int),0<=a->(∀w∈ws,1<=w)->a+ws.sum<=W->p∈shL s l W a ws->∃a' w:Int,0<=a'/\a'<=W/\1<=w/\w<=W/\p=(s+l*((a':Rat)/(W:Rat)),l*((w:Rat)/(W:Rat)))
 | [],_,_,_,_,h=>nomatch h
 |
  w::ws,a,ha,hw,hs,h=>by
  have h1:=hw w (s_ ..);have h2:=dg (l:=ws) λx hx=>hw x (q_ _ hx);rw[MB] at hs;unfold shL at h;rcases F_.mp h with rfl |h
  .exact⟨a,w,ha,by omega,h1,by omega,rfl⟩
  .exact vx ws (a+w) (by omega) (λx hx=>hw x (q_ _ hx)) (by omega) h
noncomputable def liV (l:List Int):Val:=.lst (l.map .int)
noncomputable def wsAt (ws:List Int) (i:Int):Int:=ws.getD i.toNat 0
noncomputable def wt (ws l:List Int):Int:=(l.map (wsAt ws)).sum
noncomputable def mx (x y:Rat):Rat:=if x<y then y else x
open PySem PySem.Spec PyProof.Rows L2
inductive AT where
 |lf (k:Nat)
 |nd (w:Bool) (ts:List AT)
noncomputable def wy (w:Bool):Str:=if w=true then "across" else "down"
def AT.ind{P:AT->Prop}(h1:∀k,P (.lf k))(h2:∀w ts,(∀t∈ts,P t)->P (.nd w ts))(t:AT):P t:=
 @AT.rec P (λts=>∀t∈ts,P t) h1 (λw ts ih=>h2 w ts ih) (λt h=>nomatch h) (λt ts i1 i2 u hu=>by
  rcases F_.mp hu with rfl |hu
  .exact i1
  .exact i2 u hu) t
mutual
def AT.val(f:Nat->Val):AT->Val
 |.lf k=>f k
 |.nd w ts=>.tup [.str (wy w),.tup (AT.vals f ts)]
def AT.vals(f:Nat->Val):List AT->List Val
 | []=>[]
 |t::ts=>AT.val f t::AT.vals f ts
end
mutual
def AT.lvs:AT->List Nat
 |.lf k=>[k]
 |.nd _ ts=>AT.lvsL ts
def AT.lvsL:List AT->List Nat
 | []=>[]
 |t::ts=>AT.lvs t++AT.lvsL ts
end
mutual
def AT.dep:AT->Nat
 |.lf _=>1
 |.nd _ ts=>AT.depL ts+1
def AT.depL:List AT->Nat
 | []=>0
 |t::ts=>max (AT.dep t) (AT.depL ts)
end
mutual
def AT.pth(x:Nat):AT->Option (List Nat)
 |.lf k=>if k=x then some [] else none
 |.nd _ ts=>AT.pthL x 0 ts
def AT.pthL(x:Nat):Nat->List AT->Option (List Nat)
 |_,[]=>none
 |i,t::ts=>match AT.pth x t with
  |some q=>some (i::q)
  |none=>AT.pthL x (i+1) ts
end
mutual
def AT.ok:AT->Bool
 |.lf _=>true
 |.nd _ ts=>decide (2<=ts.length)&&AT.okL ts
def AT.okL:List AT->Bool
 | []=>true
 |t::ts=>AT.ok t&&AT.okL ts
end
theorem AT.vals_map(f:Nat->Val):∀ts,AT.vals f ts=ts.map (AT.val f)
 | []=>rfl
 |t::ts=>by rw[AT.vals,AT.vals_map f ts];rfl
theorem AT.lvsL_mem:∀{ts:List AT},x∈AT.lvsL ts ↔ ∃t∈ts,x∈t.lvs
 | []=>by simp [AT.lvsL]
 |t::ts=>by rw[AT.lvsL,MQ,AT.lvsL_mem (ts:=ts)];simp
theorem AT.lvsL_flat:∀ts:List AT,AT.lvsL ts=(ts.map AT.lvs).flatten
 | []=>rfl
 |t::ts=>by rw[AT.lvsL,AT.lvsL_flat ts];rfl
theorem AT.depL_le:∀{ts:List AT},AT.depL ts<=m ↔ ∀t∈ts,t.dep<=m
 | []=>by simp [AT.depL]
 |t::ts=>by rw[AT.depL,Nat.max_le,AT.depL_le (ts:=ts)];simp
theorem AT.okL_mem:∀{ts:List AT},AT.okL ts=true ↔ ∀t∈ts,t.ok=true
 | []=>by simp [AT.okL]
 |t::ts=>by rw[AT.okL,w_,AT.okL_mem (ts:=ts)];simp
def AT.dep_pos(t:AT):1<=t.dep:=by cases t <;> simp [AT.dep]
theorem AT.pthL_some:∀{ts:List AT}{i:Nat}{q:List Nat},AT.pthL x i ts=some q->∃k t r,ts[k]?=some t/\t.pth x=some r/\q=(i+k)::r/\∀(k':Nat) (t':AT),k'<k->ts[k']?=some t'->t'.pth x=none
 | [],i,q,h=>by rw[AT.pthL] at h;cases h
 |
  t::ts,i,q,h=>by
  rw[AT.pthL] at h;split at h
  .rename_i r e;cases h;exact⟨0,t,r,rfl,e,rfl,λk' t' hk=>absurd hk (by omega)⟩
  .rename_i e;obtain⟨k,u,r,h1,h2,h3,h4⟩:=AT.pthL_some h;refine⟨k+1,u,r,h1,h2,by rw[h3];congr 1;omega,λk' t' hk e'=>?_⟩;cases k' with
   |zero=>cases e';exact e
   |succ k'=>exact h4 k' t' (by omega) e'
theorem AT.pthL_none:∀{ts:List AT}{i:Nat},AT.pthL x i ts=none ↔ ∀t∈ts,t.pth x=none
 | [],i=>by simp [AT.pthL]
 |
  t::ts,i=>by
  rw[AT.pthL];cases e:t.pth x with
  |some q=>simp [e]
  |none=>simp [e,AT.pthL_none (ts:=ts)]
def AT.pth_mem(t:AT):t.pth x=none ↔ x∉t.lvs:=by
 induction t using AT.ind with
 |h1 k=>simp [AT.pth,AT.lvs,eq_comm]
 |
  h2 w ts ih=>
  rw[AT.pth,AT.lvs,AT.pthL_none,AT.lvsL_mem];constructor
  .rintro h ⟨t,ht,hx⟩;exact (ih t ht).mp (h t ht) hx
  .intro h t ht;exact (ih t ht).mpr λhx=>h ⟨t,ht,hx⟩
noncomputable def AT.at:List Nat->AT->Option Nat
 | [],.lf k=>some k
 |i::p,.nd _ ts=>match ts[i]? with
  |some t=>AT.at p t
  |none=>none
 |_,_=>none
def AT.pth_at(t:AT):∀p,t.pth x=some p->AT.at p t=some x:=by
 induction t using AT.ind with
 |
  h1 k=>
  intro p h;rw[AT.pth] at h;split at h
  .cases h;rename_i e;rw[<- e];rfl
  .cases h
 |h2 w ts ih=>intro p h;rw[AT.pth] at h;obtain⟨k,u,r,h1,h2,h3,_⟩:=AT.pthL_some h;subst h3;rw[O4,AT.at,h1];exact ih u (Mw h1) r h2
noncomputable def wd (w b:Bool):Str:=if w=true then (if b=true then "left" else "right") else (if b=true then "above" else "below")
def oi{t:AT}(h:t.ok=true):1<=t.lvs.length:=by
 induction t using AT.ind with
 |h1 k=>simp [AT.lvs]
 |
  h2 w ts ih=>
  rw[AT.ok,w_] at h;cases ts with
  |nil=>exact absurd h.1 (by decide)
  |
   cons t ts=>
   have:=ih t (s_ ..) (AT.okL_mem.mp h.2 t (s_ ..))
   rw[AT.lvs,AT.lvsL,Em];omega
theorem k8{α β:Type}{f:α->List β}:∀{l:List α},(∀a∈l,1<=(f a).length)->l.length<=((l.map f).flatten).length
 | [],_=>t_ _
 |
  a::l,h=>by
  have h1:=h a (s_ ..);have h2:=k8 (l:=l) λb hb=>h b (q_ _ hb);rw[x_,OL,Em,D_];omega
noncomputable def lfV:Val->Bool
 |.int _=>true
 |.str _=>true
 |_=>false
def m3(v:Val)(l:List Val):atI (v::l) 0=some v:=cC (by decide) rfl
def LB(v:Val)(l:List Val):gI (v::l) (some 1) none=l:=eY _ 1
noncomputable def inB (x:Nat) (t:AT):Bool:=decide (x∈t.lvs)
noncomputable def itV (l:List Nat):Val:=.lst (l.map λk:Nat=>.int k)
structure TOk(t:AT)(l:List Nat):Prop where
 ok:t.ok=true
 mem:∀k,k∈t.lvs ↔ k∈l
 dep:t.dep<=l.length
 len:t.lvs.length=l.length
noncomputable def Bz (xss:List (List Nat)):List Val:=xss.map itV
structure Lots(yss xss:List (List Nat))(vs:List Nat):Prop where
 len:yss.length=xss.length
 ne:∀l∈yss,l≠[]
 mem:∀k,(∃l∈yss,k∈l) ↔ (∃l∈xss,k∈l)\/k∈vs
 tot:yss.flatten.length=xss.flatten.length+vs.length
def CC(h:xss[i]?=some xs)(ne:∀l∈xss,l≠[]):Lots (xss.set i (xs++[u])) xss [u]:=by
 have hi:=(u_.mp h).1;refine⟨MJ ..,λl hl=>?_,λk=>?_,?_⟩
 .rcases Nw hl with hl |rfl
  .exact ne l hl
  .simp
 .constructor
  .rintro⟨l,hl,hk⟩;rcases Nw hl with hl |rfl
   .exact .inl ⟨l,hl,hk⟩
   .rcases MQ.mp hk with hk |hk
    .exact .inl ⟨xs,Mw h,hk⟩
    .exact .inr hk
  .rintro (⟨l,hl,hk⟩ |hk)
   .obtain⟨j,hj⟩:=NY hl;by_cases hij:i=j
    .subst hij;rw[h] at hj;cases hj;exact⟨_,List.mem_set (by omega) _,Ot _ hk⟩
    .exact⟨l,Mw (i:=j) (by rw[Oq hij];exact hj),hk⟩
   .exact⟨_,List.mem_set (by omega) _,Mv _ hk⟩
 .have aux:∀(xss:List (List Nat)) (i:Nat),xss[i]?=some xs->(xss.set i (xs++[u])).flatten.length=xss.flatten.length+1:=by
   intro xss;induction xss with
   |nil=>intro i h;rw[NA] at h;cases h
   |
    cons y ys ih=>
    intro i h;cases i with
    |zero=>cases h;simp [List.set];omega
    |succ i=>simp only[List.set,OL,Em];rw[ih i h];omega
  exact aux xss i h
def nK{xss:List (List Nat)}(ne:∀l∈xss,l≠[]):xss.length<=xss.flatten.length:=by
 have:=k8 (f:=id) (l:=xss) λl hl=>Oy.mpr (ne l hl)
 rw[List.map_id] at this;exact this
theorem rH:∀{yss:List (List Nat)},(∀l∈yss,l≠[])->∀l∈yss,l.length+yss.length<=yss.flatten.length+1
 | [],_,l,hl=>nomatch hl
 |
  y::ys,ne,l,hl=>by
  have h0:=nK (xss:=ys) λl hl=>ne l (q_ _ hl);have h1:=Oy.mpr (ne y (s_ ..));rw[OL,Em,D_];rcases F_.mp hl with rfl |hl
  .omega
  .have:=rH (yss:=ys) (λl hl=>ne l (q_ _ hl)) l hl
   omega
noncomputable def atV (t:AT):Val:=t.val λk=>.int (k:Nat)
def Es{w:Bool}{ps:List (AT×List Nat)}(h:∀p∈ps,TOk p.1 p.2)(hne:ps≠[])(hne2:∀p∈ps,p.2≠[])(h2:2<=ps.length):TOk (.nd w (ps.map (·.1))) (ps.map (·.2)).flatten:=by
 have hlot:=rH (yss:=ps.map (·.2)) (λl hl=>by obtain⟨p,hp,rfl⟩:=Mq.mp hl;exact hne2 p hp);refine⟨?_,λk=>?_,?_,?_⟩
 .rw[AT.ok,w_];refine⟨I_ (by rw[p_];exact h2),AT.okL_mem.mpr λt ht=>?_⟩;obtain⟨p,hp,rfl⟩:=Mq.mp ht;exact (h p hp).ok
 .rw[AT.lvs,AT.lvsL_mem,List.mem_flatten];constructor
  .rintro⟨t,ht,hk⟩;obtain⟨p,hp,rfl⟩:=Mq.mp ht;exact⟨p.2,Nd hp,((h p hp).mem k).mp hk⟩
  .rintro⟨l,hl,hk⟩;obtain⟨p,hp,rfl⟩:=Mq.mp hl;exact⟨p.1,Nd hp,((h p hp).mem k).mpr hk⟩
 .rw[AT.dep];have:AT.depL (ps.map (·.1))<=(ps.map (·.2)).flatten.length-1:=AT.depL_le.mpr λt ht=>by
   obtain⟨p,hp,rfl⟩:=Mq.mp ht
   have:=(h p hp).dep
   have:=hlot p.2 (Nd hp)
   rw[p_] at this;omega
  obtain⟨p,hp⟩:=List.exists_mem_of_ne_nil ps hne
  have:=hlot p.2 (Nd hp)
  rw[p_] at this;omega
 .rw[AT.lvs];clear hlot h2 hne hne2;induction ps with
  |nil=>rfl
  |cons p ps ih=>rw[x_,x_,AT.lvsL,Em,OL,Em,ih λp hp=>h p (q_ _ hp),(h p (s_ ..)).len]
def trQ(v f:Val)(r:SR3):Prop:=jC [true,false] r=.ok (.val v) [f]
mutual
def AT.cnt:AT->Nat
 |.lf _=>1
 |.nd _ ts=>AT.cntL ts+1
def AT.cntL:List AT->Nat
 | []=>0
 |t::ts=>AT.cnt t+AT.cntL ts
end
theorem AT.cntL_app:∀(a b:List AT),AT.cntL (a++b)=AT.cntL a+AT.cntL b
 | [],b=>by simp [AT.cntL]
 |t::a,b=>by rw[OR,AT.cntL,AT.cntL,AT.cntL_app a b];omega
theorem AT.lvsL_app:∀(a b:List AT),AT.lvsL (a++b)=AT.lvsL a++AT.lvsL b
 | [],b=>by simp [AT.lvsL]
 |t::a,b=>by rw[OR,AT.lvsL,AT.lvsL,AT.lvsL_app a b,OK]
def m6(xs:List Val)(x:Val):qt.G (.lst (xs++[x])) []=some (.lst xs,x):=by show tP (.lst (xs++[x])) []=_;unfold tP;dsimp only;rw[Em,List.length_singleton,Nat.add_sub_cancel,Nn (t_ _),Nat.sub_self,List.dropLast_concat];rfl
theorem AT.cnt_le:∀{ts:List AT}{t:AT},t∈ts->t.cnt<=AT.cntL ts
 | [],t,h=>nomatch h
 |
  u::ts,t,h=>by
  rw[AT.cntL];rcases F_.mp h with rfl |h
  .omega
  .have:=AT.cnt_le h;omega
def AT.lvs_le(h:t∈ts):t.lvs.length<=(AT.lvsL ts).length:=by rw[AT.lvsL_flat];exact List.Sublist.length_le (List.sublist_flatten_of_mem (Nd (f:=AT.lvs) h))
noncomputable def wtA (ws:List Int) (l:List Nat):Int:=(l.map λk=>ws.getD k 0).sum
noncomputable def wtT (ws:List Int) (t:AT):Int:=wtA ws t.lvs
mutual
def AT.bx(ws:List Int):AT->Bx->List (Nat×Bx)
 |.lf k,b=>[(k,b)]
 |.nd w ts,b=>AT.bxL ws ts (aR b (wy w) (ts.map (wtT ws)))
def AT.bxL(ws:List Int):List AT->List Bx->List (Nat×Bx)
 |t::ts,b::bs=>AT.bx ws t b++AT.bxL ws ts bs
 |_,_=>[]
end
mutual
def AT.lay(ws:List Int)(n m:Nat):AT->Bx->Prop
 |.lf _,b=>b.Ok/\b.Sz n
 |.nd w ts,b=>b.Ok/\b.Sz n/\ts≠[]/\ts.length<=40/\(∀t∈ts,1<=wtT ws t)/\Sm m (ts.map (wtT ws)).sum/\AT.layL ws n m ts (aR b (wy w) (ts.map (wtT ws)))
def AT.layL(ws:List Int)(n m:Nat):List AT->List Bx->Prop
 |t::ts,b::bs=>AT.lay ws n m t b/\AT.layL ws n m ts bs
 |_,_=>True
end
noncomputable def cN (kvs:List (Key×Val)) (l:List (Nat×Bx)):List (Key×Val):=l.foldl (λkvs p=>ff kvs (.inl (p.1:Nat)) (bV p.2)) kvs
def CQ(kvs:List (Key×Val))(a b:List (Nat×Bx)):cN kvs (a++b)=cN (cN kvs a) b:=by unfold cN;rw[List.foldl_append]
def sy(h:a.Perm b):wtA ws a=wtA ws b:=by
 unfold wtA;induction h with
 |nil=>rfl
 |cons x _ ih=>rw[x_,x_,MB,MB,ih]
 |swap x y l=>simp only[x_,MB];omega
 |trans _ _ h1 h2=>rw[h1,h2]
theorem lQ(ws:List Int):∀ts:List AT,wtA ws (AT.lvsL ts)=(ts.map (wtT ws)).sum
 | []=>rfl
 |
  t::ts=>by
  rw[AT.lvsL,x_,MB,<- lQ ws ts];unfold wtT wtA;rw[MY,OC]
def BR(kvs:List (Key×Val))(k:Key)(v:Val):(ff kvs k v).length<=kvs.length+1:=by
 unfold ff;split
 .rw[p_];omega
 .rw[Em];exact t_ _
theorem tF:∀(l:List (Nat×Bx)) (kvs:List (Key×Val)),(cN kvs l).length<=kvs.length+l.length
 | [],kvs=>t_ _
 |
  p::l,kvs=>by
  have h1:=BR kvs (.inl (p.1:Nat)) (bV p.2);have h2:=tF l (ff kvs (.inl (p.1:Nat)) (bV p.2));unfold cN at h2 ⊢;rw[O0,D_];omega
def AT.bx_fst(ws:List Int)(t:AT):∀b,(AT.bx ws t b).length<=t.lvs.length/\∀p∈AT.bx ws t b,p.1∈t.lvs:=by
 induction t using AT.ind with
 |h1 k=>intro b;simp [AT.bx,AT.lvs]
 |
  h2 w ts ih=>
  intro b;rw[AT.bx,AT.lvs];generalize aR b (wy w) (ts.map (wtT ws))=bs;induction ts generalizing bs with
  |nil=>simp [AT.bxL]
  |
   cons t ts ih2=>
   cases bs with
   |nil=>simp [AT.bxL]
   |
    cons b bs=>
    obtain⟨h1,h2⟩:=ih t (s_ ..) b;obtain⟨h3,h4⟩:=ih2 (λu hu=>ih u (q_ _ hu)) bs;rw[AT.bxL,AT.lvsL,Em,Em];refine⟨by omega,λp hp=>?_⟩;rcases MQ.mp hp with hp |hp
    .exact Ot _ (h2 p hp)
    .exact Mv _ (h4 p hp)
def zT(kvs:List (Key×Val))(k k':Key)(v:Val):lkD (ff kvs k v) k'=if k=k' then some v else lkD kvs k':=by
 unfold ff;induction kvs with
 |
  nil=>
  rw[if_neg (by simp)];unfold lkD;by_cases h:k=k'
  .simp [h]
  .simp [h]
 |
  cons p kvs ih=>
  obtain⟨pk,pv⟩:=p;by_cases hp:pk=k
  .subst
    hp
   rw[if_pos (by simp)];by_cases h:pk=k'
   .subst h;simp [lkD]
   .rw[if_neg h];rw[if_neg h] at ih;simp only[x_,N2];unfold lkD;simp only[M6,E_ h];by_cases ha:(kvs.any λkv=>decide (kv.1=pk))=true
    .rw[if_pos ha] at ih;unfold lkD at ih;exact ih
    .have:(kvs.map λkv=>if kv.1=pk then (kv.1,v) else kv)=kvs:=by
      conv=>rhs;rw[<- List.map_id kvs]
      refine List.map_congr_left λq hq=>?_;rw[if_neg]
      .rfl
      .intro z;exact ha (List.any_eq_true.mpr ⟨q,hq,I_ z⟩)
     rw[this]
  .by_cases ha:(kvs.any λkv=>decide (kv.1=k))=true
   .rw[if_pos ha] at ih;rw[if_pos (by rw[Ni,ha,Bool.or_true])];simp only[x_,if_neg hp];by_cases h:pk=k'
    .subst h;rw[if_neg (λz=>hp z.symm)];simp [lkD]
    .unfold lkD at ih ⊢;simp only[M6,E_ h];exact ih
   .rw[if_neg ha] at ih;rw[if_neg (by rw[Ni,E_ hp,Bool.false_or];exact ha)];rw[OR];by_cases h:pk=k'
    .subst h;rw[if_neg (λz=>hp z.symm)];simp [lkD]
    .unfold lkD at ih ⊢;simp only[M6,E_ h];exact ih
noncomputable def bxO (l:List (Nat×Bx)) (k:Nat):Bx:=((l.find? λp=>p.1==k).map (·.2)).getD ⟨0,0,0,0⟩
theorem vV:∀(l:List (Nat×Bx)) (kvs:List (Key×Val)),(l.map (·.1)).Nodup->(k∈l.map (·.1)->lkD (cN kvs l) (.inl (k:Nat))=some (bV (bxO l k)))/\(k∉l.map (·.1)->lkD (cN kvs l) (.inl (k:Nat))=lkD kvs (.inl (k:Nat)))
 | [],kvs,_=>⟨(λh=>nomatch h),λ_=>rfl⟩
 |
  p::l,kvs,nd=>by
  rw[x_,N9] at nd;obtain⟨h1,h2⟩:=vV (k:=k) l (ff kvs (.inl (p.1:Nat)) (bV p.2)) nd.2;have e:cN kvs (p::l)=cN (ff kvs (.inl (p.1:Nat)) (bV p.2)) l:=rfl;rw[e];by_cases hp:p.1=k
  .have hk:k∉l.map (·.1):=hp ▸ nd.1;rw[h2 hk,zT,if_pos (by rw[hp])];refine⟨λ_=>?_,λz=>absurd (by rw[x_,hp];exact s_ ..) z⟩;unfold bxO;rw[M6];simp [hp]
  .have hk:k∈(p::l).map (·.1) ↔ k∈l.map (·.1):=by rw[x_,F_];exact⟨λz=>z.resolve_left (λy=>hp y.symm),.inr⟩
   have hb:bxO (p::l) k=bxO l k:=by unfold bxO;rw[List.find?_cons_of_neg (by simpa using hp)]
   rw[hk,hb];refine⟨h1,λz=>?_⟩;rw[h2 z,zT,if_neg];intro y;injection y with y;exact hp (Int.ofNat.inj y)
def yL(b:Bx)(way:Str)(ws:List Int):(aR b way ws).length=ws.length:=by unfold aR;split <;> rw[p_,iE]
def AT.bx_keys(ws:List Int)(t:AT):∀b,(AT.bx ws t b).map (·.1)=t.lvs:=by
 induction t using AT.ind with
 |h1 k=>intro b;rw[AT.bx,AT.lvs];rfl
 |
  h2 w ts ih=>
  intro b;rw[AT.bx,AT.lvs];have hl:(aR b (wy w) (ts.map (wtT ws))).length=ts.length:=by rw[yL,p_]
  generalize aR b (wy w) (ts.map (wtT ws))=bs at *;induction ts generalizing bs with
  |nil=>cases bs <;> rfl
  |
   cons t ts ih2=>
   cases bs with
   |nil=>exact nomatch hl
   |cons b bs=>rw[AT.bxL,AT.lvsL,MY,ih t (s_ ..) b,ih2 (λu hu=>ih u (q_ _ hu)) bs (by simpa using hl)]
def AT.cnt_lvs(t:AT)(h:t.ok=true):t.cnt+1<=2*t.lvs.length:=by
 induction t using AT.ind with
 |h1 k=>simp [AT.cnt,AT.lvs]
 |
  h2 w ts ih=>
  rw[AT.ok,w_] at h;have hk:=AT.okL_mem.mp h.2;have h2:2<=ts.length:=NW h.1;rw[AT.cnt,AT.lvs];have:∀ts:List AT,(∀t∈ts,t.cnt+1<=2*t.lvs.length)->AT.cntL ts+ts.length<=2*(AT.lvsL ts).length:=by
   intro ts;induction ts with
   |nil=>intro _;simp [AT.cntL,AT.lvsL]
   |cons t ts ih=>intro h;have h1:=h t (s_ ..);have h2:=ih λu hu=>h u (q_ _ hu);rw[AT.cntL,AT.lvsL,Em,D_];omega
  have:=this ts λt ht=>ih t ht (hk t ht)
  omega
structure Rp(D A B:Nat)(b:Bx):Prop where
 pos:0<D
 l:∃z:Int,b.l=(z:Rat)/((D:Int):Rat)/\z.natAbs<=A*D
 t:∃z:Int,b.t=(z:Rat)/((D:Int):Rat)/\z.natAbs<=A*D
 w:∃z:Int,b.w=(z:Rat)/((D:Int):Rat)/\0<z/\z<=B*D
 h:∃z:Int,b.h=(z:Rat)/((D:Int):Rat)/\0<z/\z<=B*D
def Lg(x y a D W:Rat)(h1:D≠0)(h2:W≠0):x/D+(y/D)*(a/W)=(x*W+y*a)/(D*W):=by grind
def KW(y a D W:Rat)(h1:D≠0)(h2:W≠0):(y/D)*(a/W)=(y*a)/(D*W):=by grind
def Lz(y D W:Rat)(h1:D≠0)(h2:W≠0):y/D=(y*W)/(D*W):=by grind
def g0{z:Int}(h:z≠0):(z:Rat)≠0:=λe=>h (Rat.intCast_inj.mp e)
def D4{x y a W:Int}{D A B:Nat}(hD:0<D)(hx:x.natAbs<=A*D)(hy:0<y/\y<=B*D)(ha:0<=a/\a<=W)(hW:0<W):∃z:Int,(x:Rat)/((D:Int):Rat)+((y:Rat)/((D:Int):Rat))*((a:Rat)/(W:Rat))=(z:Rat)/(((D*W.toNat:Nat):Int):Rat)/\z.natAbs<=(A+B)*(D*W.toNat):=by
 obtain⟨V,rfl⟩:∃V:Nat,W=V:=⟨W.toNat,by omega⟩;refine⟨x*V+y*a,?_,?_⟩
 .rw[Lg _ _ _ _ _ (g0 (by omega)) (g0 (by omega))];congr 1
  .rw[Rat.intCast_add,M8,M8]
  .rw[M3,NP,M8]
 .rw[M3];have h1:(x*(V:Int)).natAbs<=A*D*V:=by rw[Nb];exact MW hx (t_ _)
  have h2:(y*a).natAbs<=B*D*V:=by
   rw[Nb];refine MW ?_ (by omega)
   have:=hy.2
   omega
  have h3:=Int.natAbs_add_le (x*V) (y*a);rw[Nat.add_mul,<- OP,<- OP];omega
def DQ{y a W:Int}{D B:Nat}(hD:0<D)(hy:0<y/\y<=B*D)(ha:1<=a/\a<=W):∃z:Int,((y:Rat)/((D:Int):Rat))*((a:Rat)/(W:Rat))=(z:Rat)/(((D*W.toNat:Nat):Int):Rat)/\0<z/\z<=((B:Nat):Int)*((D*W.toNat:Nat):Int):=by
 obtain⟨V,rfl⟩:∃V:Nat,W=V:=⟨W.toNat,by omega⟩;refine⟨y*a,?_,Int.mul_pos hy.1 (by omega),?_⟩
 .rw[KW _ _ _ _ (g0 (by omega)) (g0 (by omega))];congr 1
  .rw[M8]
  .rw[M3,NP,M8]
 .rw[M3,NP,<- Nh];exact Int.mul_le_mul hy.2 ha.2 (by omega) (Int.le_trans (Int.le_of_lt hy.1) hy.2)
def lM{y W:Int}{D:Nat}(hD:0<D)(hW:0<W):(y:Rat)/((D:Int):Rat)=((y*W:Int):Rat)/(((D*W.toNat:Nat):Int):Rat):=by obtain⟨V,rfl⟩:∃V:Nat,W=V:=⟨W.toNat,by omega⟩;rw[Lz _ _ _ (g0 (show ((D:Nat):Int)≠0 by omega)) (g0 (show ((V:Nat):Int)≠0 by omega)),M8,M3,NP,M8]
def yV{z W:Int}{D A B:Nat}(hz:z.natAbs<=A*D)(hW:0<W):(z*W).natAbs<=(A+B)*(D*W.toNat):=by rw[Nb,<- OP];refine MW ?_ (by omega);rw[Nat.add_mul];omega
def yc{z W:Int}{D B:Nat}(hz:0<z/\z<=B*D)(hW:0<W):0<z*W/\z*W<=((B:Nat):Int)*((D*W.toNat:Nat):Int):=by refine⟨Int.mul_pos hz.1 hW,?_⟩;rw[NP,<- Nh,Pc (by omega)];exact Int.mul_le_mul_of_nonneg_right hz.2 (by omega)
def Rp.parts{D A B:Nat}{b b':Bx}{way:Str}{ws:List Int}(r:Rp D A B b)(hw:∀w∈ws,1<=w)(h:b'∈aR b way ws):Rp (D*ws.sum.toNat) (A+B) B b':=by
 obtain⟨pos,⟨zl,el,bl⟩,⟨zt,et,bt⟩,⟨zw,ew,bw⟩,⟨zh,eh,bh⟩⟩:=r;have key:∀p:Rat×Rat,∀s l:Rat,p∈shL s l ws.sum 0 ws->0<ws.sum/\∃a' w:Int,0<=a'/\a'<=ws.sum/\1<=w/\w<=ws.sum/\p=(s+l*((a':Rat)/(ws.sum:Rat)),l*((w:Rat)/(ws.sum:Rat))):=λp s l hp=>by obtain⟨a',w,h1,h2,h3,h4,h5⟩:=vx ws 0 (by omega) hw (by omega) hp;exact⟨by omega,a',w,h1,h2,h3,h4,h5⟩
 unfold aR at h;split at h
 .obtain⟨p,hp,rfl⟩:=Mq.mp h;obtain⟨hS,a',w,h1,h2,h3,h4,rfl⟩:=key p _ _ hp;have hV:0<D*ws.sum.toNat:=Ny pos (by omega);refine⟨hV,?_,⟨zt*ws.sum,by show b.t=_;rw[et];exact lM pos hS,yV bt hS⟩,?_,⟨zh*ws.sum,by show b.h=_;rw[eh];exact lM pos hS,yc bh hS⟩⟩
  .show ∃z:Int,b.l+b.w*_=_/\_;rw[el,ew];exact D4 pos bl bw ⟨h1,h2⟩ hS
  .show ∃z:Int,b.w*_=_/\_;rw[ew];exact DQ pos bw ⟨h3,h4⟩
 .obtain⟨p,hp,rfl⟩:=Mq.mp h;obtain⟨hS,a',w,h1,h2,h3,h4,rfl⟩:=key p _ _ hp;have hV:0<D*ws.sum.toNat:=Ny pos (by omega);refine⟨hV,⟨zl*ws.sum,by show b.l=_;rw[el];exact lM pos hS,yV bl hS⟩,?_,⟨zw*ws.sum,by show b.w=_;rw[ew];exact lM pos hS,yc bw hS⟩,?_⟩
  .show ∃z:Int,b.t+b.h*_=_/\_;rw[et,eh];exact D4 pos bt bh ⟨h1,h2⟩ hS
  .show ∃z:Int,b.h*_=_/\_;rw[eh];exact DQ pos bh ⟨h3,h4⟩
def Rp.ok{D A B:Nat}{b:Bx}(r:Rp D A B b):b.Ok:=by obtain⟨pos,_,_,⟨zw,ew,bw⟩,⟨zh,eh,bh⟩⟩:=r;exact⟨by rw[ew];exact fS bw.1 (by omega),by rw[eh];exact fS bh.1 (by omega)⟩
def Rp.sz{D A B n:Nat}{b:Bx}(r:Rp D A B b)(hA:A*D<2^n)(hB:B*D<2^n)(hD:D<2^n):b.Sz n:=by
 obtain⟨pos,⟨zl,el,bl⟩,⟨zt,et,bt⟩,⟨zw,ew,bw⟩,⟨zh,eh,bh⟩⟩:=r;have sD:Sm n ((D:Nat):Int):=by show ((D:Nat):Int).natAbs<2^n;omega
 have k:∀z:Int,z.natAbs<2^n->Sz n ((z:Rat)/((D:Int):Rat)):=λz hz=>Sz.div (by omega) hz sD n (t_ _) (t_ _);have hb:∀z:Int,0<z/\z<=B*D->z.natAbs<2^n:=λz hz=>by
  have h1:z<=((B*D:Nat):Int):=by rw[NP];exact hz.2
  omega
 exact⟨by rw[el];exact k zl (by omega),by rw[et];exact k zt (by omega),by rw[ew];exact k zw (hb zw bw),by rw[eh];exact k zh (hb zh bh)⟩
theorem kg{ws:List Int}:∀{l:List Nat},(∀k∈l,1<=ws.getD k 0)->(l.length:Int)<=wtA ws l
 | [],_=>by simp [wtA]
 |
  k::l,h=>by
  have h1:=h k (s_ ..);have h2:=kg (l:=l) λj hj=>h j (q_ _ hj);unfold wtA at h2 ⊢;rw[x_,MB,D_];omega
theorem vE{ws:List Int}{n m:Nat}:∀{ts:List AT}{bs:List Bx},(∀t∈ts,∀b∈bs,AT.lay ws n m t b)->AT.layL ws n m ts bs
 | [],_,_=>by rw[AT.layL];trivial;intro t ts b bs z;cases z
 |t::ts,[],_=>by rw[AT.layL];trivial;intro t ts b bs _ z;cases z
 |
  t::ts,b::bs,h=>by
  rw[AT.layL];exact⟨h t (s_ ..) b (s_ ..),vE λu hu c hc=>h u (q_ _ hu) c (q_ _ hc)⟩
def Rp.fine{n m B D A d:Nat}{b:Bx}(r:Rp D A B b)(hBA:B<=A)(hA:1<=A)(hq:(A+d*B)*(D*2^(m*d))<2^n):b.Ok/\b.Sz n:=by have hD1:1<=2^(m*d):=Nat.one_le_two_pow;have z1:A*D<=(A+d*B)*(D*2^(m*d)):=MW (by omega) (Nat.le_mul_of_pos_right _ hD1);have z2:D<=A*D:=Nat.le_mul_of_pos_left _ hA;have z3:B*D<=A*D:=Nz _ hBA;exact⟨r.ok,r.sz (by omega) (by omega) (by omega)⟩
def GF{ws:List Int}{n m B:Nat}(t:AT):∀(b:Bx) (D A:Nat),Rp D A B b->B<=A->1<=A->(A+t.dep*B)*(D*2^(m*t.dep))<2^n->t.ok=true->(∀k∈t.lvs,1<=ws.getD k 0)->wtT ws t<2^m->t.lvs.length<=40->AT.lay ws n m t b:=by
 induction t using AT.ind with
 |h1 k=>intro b D A r hBA hA hn _ _ _ _;rw[AT.lay];exact r.fine hBA hA hn
 |
  h2 w ts ih=>
  intro b D A r hBA hA hn ho hw hm hl;have ho':=ho;rw[AT.ok,w_] at ho';have h2:2<=ts.length:=NW ho'.1;have hk:=AT.okL_mem.mp ho'.2;rw[AT.lvs] at hw hl;have hws:∀t∈ts,∀k∈t.lvs,1<=ws.getD k 0:=λt ht k hk'=>hw k (AT.lvsL_mem.mpr ⟨t,ht,hk'⟩);have hone:∀t∈ts,1<=wtT ws t:=λt ht=>by have h1:=oi (hk t ht);have h2:=kg (hws t ht);unfold wtT;omega
  have hsum:wtT ws (.nd w ts)=(ts.map (wtT ws)).sum:=by unfold wtT;rw[AT.lvs];exact lQ ws ts
  rw[hsum] at hm;have hpos:0<=(ts.map (wtT ws)).sum:=by
   rw[<- lQ]
   have:=kg hw
   omega
  rw[AT.dep] at hn;generalize hq:AT.depL ts=q at *;have fn:=r.fine hBA hA hn;have tl:ts.length<=40:=by rw[AT.lvsL_flat] at hl;have:ts.length<=((ts.map AT.lvs).flatten).length:=k8 λt ht=>oi (hk t ht);omega
  rw[AT.lay];refine⟨fn.1,fn.2,λz=>by rw[z] at h2;simp at h2,tl,hone,by
   show (ts.map (wtT ws)).sum.natAbs<2^m;have:(((ts.map (wtT ws)).sum.natAbs:Nat):Int)<((2^m:Nat):Int):=by
    rw[Int.natAbs_of_nonneg hpos]
    push_cast
    exact hm
   omega,vE λt ht c hc=>?_⟩
  have rp:=r.parts (λx hx=>by obtain⟨u,hu,rfl⟩:=Mq.mp hx;exact hone u hu) hc;have hdt:t.dep<=q:=by rw[<- hq];exact AT.depL_le.mp (t_ _) t ht
  have hS:(ts.map (wtT ws)).sum.toNat<=2^m:=by
   have:(((ts.map (wtT ws)).sum.toNat:Nat):Int)<((2^m:Nat):Int):=by
    rw[Pc hpos]
    push_cast
    exact hm
   omega
  refine ih t ht c _ (A+B) rp (by omega) (by omega) ?_ (hk t ht) (hws t ht) ?_ (by have:=AT.lvs_le ht;omega)
  .refine Nu (MW ?_ ?_) hn
   .have:t.dep*B<=q*B:=Nz _ hdt;rw[Nat.add_mul,Nat.one_mul];omega
   .rw[OP];refine Nl _ ?_;have e:2^(m*(q+1))=2^m*2^(m*q):=by rw[<- NK];congr 1;rw[Nat.mul_add,Nat.mul_one,Nat.add_comm]
    rw[e];exact MW hS (MN (by decide) (Nl _ hdt))
  .refine Int.lt_of_le_of_lt ?_ hm;have aux:∀us:List AT,(∀u∈us,0<=wtT ws u)->t∈us->wtT ws t<=(us.map (wtT ws)).sum:=by
    intro us;induction us with
    |nil=>intro _ h;exact nomatch h
    |
     cons u us ih=>
     intro h0 hm;have nn:∀us:List AT,(∀u∈us,0<=wtT ws u)->0<=(us.map (wtT ws)).sum:=by
      intro us;induction us with
      |nil=>intro _;simp
      |cons v us ih=>intro h;rw[x_,MB];have:=h v (s_ ..);have:=ih λu hu=>h u (q_ _ hu);omega
     rw[x_,MB];rcases F_.mp hm with rfl |hm
     .have:=nn us λu hu=>h0 u (q_ _ hu)
      omega
     .have h1:=ih (λu hu=>h0 u (q_ _ hu)) hm;have h2:=h0 u (s_ ..);omega
   exact aux ts (λu hu=>by have:=hone u hu;omega) ht
def Jf{ws:List Int}{n m:Nat}(t:AT):∀b:Bx,AT.lay ws n m t b->∀p∈AT.bx ws t b,p.2.Ok/\p.2.Sz n:=by
 induction t using AT.ind with
 |h1 k=>intro b h p hp;rw[AT.bx] at hp;rw[MC.mp hp];rw[AT.lay] at h;exact h
 |
  h2 w ts ih=>
  intro b h p hp;rw[AT.bx] at hp;rw[AT.lay] at h;replace h:=h.2.2.2.2.2.2;generalize aR b (wy w) (ts.map (wtT ws))=bs at *;induction ts generalizing bs with
  |nil=>rw[AT.bxL] at hp;exact nomatch hp;intro _ _ _ _ z;cases z
  |
   cons t ts ih2=>
   cases bs with
   |nil=>rw[AT.bxL] at hp;exact nomatch hp;intro _ _ _ _ _ z;cases z
   |
    cons c cs=>
    rw[AT.bxL] at hp;rw[AT.layL] at h;rcases MQ.mp hp with hp |hp
    .exact ih t (s_ ..) c h.1 p hp
    .exact ih2 (λu hu=>ih u (q_ _ hu)) cs hp h.2
noncomputable def ba (b:Bx) (w:Bool) (W a x:Int):Bx:=if w=true then ⟨b.l+b.w*((a:Rat)/(W:Rat)),b.t,b.w*((x:Rat)/(W:Rat)),b.h⟩ else ⟨b.l,b.t+b.h*((a:Rat)/(W:Rat)),b.w,b.h*((x:Rat)/(W:Rat))⟩
noncomputable def frm (b:Bx) (w:Bool) (W:Int):Int->List Int->List Bx
 |_,[]=>[]
 |a,x::xs=>ba b w W a x::frm b w W (a+x) xs
theorem nu(b:Bx)(w:Bool)(W:Int):∀(xs:List Int) (a:Int),(frm b w W a xs).length=xs.length
 | [],_=>rfl
 |x::xs,a=>by rw[frm,D_,D_,nu b w W xs]
def jL(b:Bx)(w:Bool)(xs:List Int):aR b (wy w) xs=frm b w xs.sum 0 xs:=by
 have key:∀(W:Int) (xs:List Int) (a:Int),(if wy w="across" then (shL b.l b.w W a xs).map λp=>(⟨p.1,b.t,p.2,b.h⟩:Bx) else (shL b.t b.h W a xs).map λp=>⟨b.l,p.1,b.w,p.2⟩)=frm b w W a xs:=by
  intro W xs;induction xs with
  |nil=>intro a;unfold shL frm;split <;> rfl
  |
   cons x xs ih=>
   intro a;rw[frm,<- ih,shL,shL];unfold ba;cases w with
   |true=>rw[if_pos (show wy true="across" from rfl),if_pos (show wy true="across" from rfl),if_pos rfl];rfl
   |
    false=>
    have hn:¬ (wy false="across"):=by decide
    rw[if_neg hn,if_neg hn,if_neg (by decide)];rfl
 exact key xs.sum xs 0
def yO(ws:List Int):((aN ws).map λk=>ws.getD k 0).Pairwise (· >= ·):=by rw[List.pairwise_map];refine List.Pairwise.imp (λ{i j} h=>?_) (cP ws).up;unfold bA kyF at h;rw[Nv] at h;show ws.getD j 0<=ws.getD i 0;have h:-(ws.getD i 0) < -(ws.getD j 0)\/(-(ws.getD i 0)=-(ws.getD j 0)/\((i:Nat):Int)<(j:Nat)):=h;omega
noncomputable def thN (xs:List Int):Nat->Nat->Nat
 |0,k=>k
 |f+1,k=>if 3*(xs.take k).sum<xs.sum then thN xs f (k+1) else k
noncomputable def iZ (xs:List Int):Nat:=thN xs (xs.length-1) 1
theorem zB(xs:List Int):∀f k,k<=thN xs f k
 |0,k=>t_ _
 |
  f+1,k=>by
  rw[thN];split
  .have:=zB xs f (k+1);omega
  .exact t_ _
theorem zU(xs:List Int){m:Nat}(hm:¬ 3*(xs.take m).sum<xs.sum):∀f k,k<=m->thN xs f k<=m
 |0,k,h=>h
 |
  f+1,k,h=>by
  rw[thN];split
  .rename_i z;refine zU xs hm f (k+1) ?_;by_cases e:k=m
   .rw[e] at z;exact absurd z hm
   .omega
  .exact h
def Cw{xs:List Int}(h2:2<=xs.length)(hp:∀x∈xs,1<=x)(hd:xs.Pairwise (· >= ·)):1<=iZ xs/\iZ xs<xs.length:=by
 have key:¬ 3*(xs.take (xs.length-1)).sum<xs.sum:=by
  have e:xs.sum=(xs.take (xs.length-1)).sum+(xs.drop (xs.length-1)).sum:=by rw[<- OC,MU]
  have d1:xs.drop (xs.length-1)=[xs[xs.length-1]]:=by rw[NX (by omega),List.drop_eq_nil_of_le (by omega)]
  obtain⟨y,ys,ey⟩:∃y ys,xs.take (xs.length-1)=y::ys:=by
   cases z:xs.take (xs.length-1) with
   |
    nil=>
    have:=MP List.length z
    rw[MH,Mr] at this;omega
   |cons y ys=>exact⟨y,ys,rfl⟩
  have hy:y=xs[0]:=by
   have z:(xs.take (xs.length-1))[0]?=some y:=by rw[ey];rfl
   rw[List.getElem?_take_of_lt (by omega),v_ (by omega)] at z;exact (J_ z).symm
  have hge:xs[0] >= xs[xs.length-1]:=Nf.mp hd 0 (xs.length-1) (by omega) (by omega) (by omega);have hz:=hp xs[xs.length-1] (NI _);have hs:0<=ys.sum:=by
   have:=dg (l:=ys) λx hx=>hp x (Nj (i:=xs.length-1) (by rw[ey];exact q_ _ hx))
   omega
  rw[e,d1,ey,MB,MB,List.sum_nil];generalize xs[0]=x0 at *;generalize xs[xs.length-1]=xl at *;omega
 refine⟨zB xs _ 1,?_⟩
 have:=zU xs key (xs.length-1) 1 (by omega)
 unfold iZ;omega
structure Bx.In(c b:Bx):Prop where
 l:b.l<=c.l
 r:c.l+c.w<=b.l+b.w
 t:b.t<=c.t
 u:c.t+c.h<=b.t+b.h
def Bx.In.refl(b:Bx):Bx.In b b:=⟨by grind,by grind,by grind,by grind⟩
def Bx.In.trans{a b c:Bx}(h:Bx.In a b)(k:Bx.In b c):Bx.In a c:=by obtain⟨a1,a2,a3,a4⟩:=h;obtain⟨b1,b2,b3,b4⟩:=k;exact⟨by grind,by grind,by grind,by grind⟩
def Df{w a W:Rat}(hw:0<w)(hW:0<W)(ha:0<=a):0<=w*(a/W):=by rw[Od];exact Rat.mul_nonneg (NM hw) (Rat.mul_nonneg ha (NM (Pe.mpr hW)))
def q_le{w a x c W:Rat}(hw:0<w)(hW:0<W)(h:a+x<=c):w*(a/W)+w*(x/W)<=w*(c/W):=by
 have h1:=Df (a:=c-(a+x)) hw hW (by grind);have e:w*((c-(a+x))/W)=w*(c/W)-(w*(a/W)+w*(x/W)):=by grind
 grind
def Dq{w W:Rat}(hW:0<W):w*(W/W)=w:=by grind
def Dk{a b:Int}(h:a<=b):(a:Rat)<=(b:Rat):=Rat.intCast_le_intCast.mpr h
def yx{a:Int}(h:0<a):(0:Rat)<(a:Rat):=Rat.intCast_pos.mpr h
def G1{b:Bx}{w:Bool}{W a x:Int}(hb:b.Ok)(ha:0<=a)(hx:0<x)(hs:a+x<=W):(ba b w W a x).Ok/\Bx.In (ba b w W a x) b:=by
 have hW:0<W:=by omega
 have p:(0:Rat)<(x:Rat)/(W:Rat):=fS hx hW;have hWr:=yx hW;have har:(0:Rat)<=(a:Rat):=by have:=Dk ha;simpa using this
 have hsr:(a:Rat)+(x:Rat)<=(W:Rat):=by rw[<- Rat.intCast_add];exact Dk hs
 have w1:=Df hb.w hWr har;have w2:=q_le hb.w hWr hsr;have h1:=Df hb.h hWr har;have h2:=q_le hb.h hWr hsr;rw[Dq hWr] at w2 h2;unfold ba;cases w with
 |
  true=>
  refine⟨⟨Oe hb.w p,hb.h⟩,?_,?_,?_,?_⟩
  .show b.l<=b.l+_;grind
  .show b.l+_+_<=b.l+b.w;grind
  .show b.t<=b.t;grind
  .show b.t+b.h<=b.t+b.h;grind
 |
  false=>
  refine⟨⟨hb.w,Oe hb.h p⟩,?_,?_,?_,?_⟩
  .show b.l<=b.l;grind
  .show b.l+b.w<=b.l+b.w;grind
  .show b.t<=b.t+_;grind
  .show b.t+_+_<=b.t+b.h;grind
theorem zG{b:Bx}{w:Bool}{W:Int}:∀{xs:List Int}{i:Nat}{a:Int}{c:Bx},(frm b w W a xs)[i]?=some c->∃x,xs[i]?=some x/\c=ba b w W (a+(xs.take i).sum) x
 | [],i,a,c,h=>by rw[frm,NA] at h;cases h
 |
  x::xs,0,a,c,h=>by
  rw[frm,List.getElem?_cons_zero] at h;cases h;exact⟨x,rfl,by rw[List.take_zero,List.sum_nil,Int.add_zero]⟩
 |
  x::xs,i+1,a,c,h=>by
  rw[frm,NC] at h;obtain⟨y,h1,h2⟩:=zG h;exact⟨y,by rw[NC];exact h1,by rw[h2,List.take_succ_cons,MB,Int.add_assoc]⟩
theorem zd:∀{xs:List Int}{i:Nat}{x:Int},(∀y∈xs,1<=y)->xs[i]?=some x->0<=(xs.take i).sum/\(xs.take i).sum+x<=xs.sum
 | [],i,x,_,h=>by rw[NA] at h;cases h
 |
  y::xs,0,x,hp,h=>by
  cases h
  have:=dg λz hz=>hp z (q_ _ hz)
  rw[List.take_zero,List.sum_nil,MB];omega
 |
  y::xs,i+1,x,hp,h=>by
  rw[NC] at h;obtain⟨h1,h2⟩:=zd (λz hz=>hp z (q_ _ hz)) h
  have:=hp y (s_ ..)
  rw[List.take_succ_cons,MB,MB];omega
noncomputable def AT.bxAt (ws:List Int):List Nat->AT->Bx->Option Bx
 | [],.lf _,b=>some b
 |i::p,.nd w ts,b=>match ts[i]?,(frm b w (ts.map (wtT ws)).sum 0 (ts.map (wtT ws)))[i]? with
  |some t,some c=>AT.bxAt ws p t c
  |_,_=>none
 |_,_,_=>none
def zF{ws:List Int}{t:AT}(ho:t.ok=true)(hw:∀k∈t.lvs,1<=ws.getD k 0):1<=wtT ws t:=by have h1:=oi ho;have h2:=kg (ws:=ws) (l:=t.lvs) hw;unfold wtT;omega
def u6{ws:List Int}{i:Nat}{p:List Nat}{w:Bool}{ts:List AT}{b d:Bx}(ho:AT.ok (.nd w ts)=true)(hw:∀k∈AT.lvs (.nd w ts),1<=ws.getD k 0)(hb:b.Ok)(h:AT.bxAt ws (i::p) (.nd w ts) b=some d):
 ∃t a,ts[i]?=some t/\t.ok=true/\(∀k∈t.lvs,1<=ws.getD k 0)/\a=((ts.map (wtT ws)).take i).sum/\0<=a/\a+wtT ws t<=wtT ws (.nd w ts)/\1<=wtT ws t/\(ts.map (wtT ws))[i]?=some (wtT ws t)/\(ba b w (wtT ws (.nd w ts)) a (wtT ws t)).Ok/\Bx.In (ba b w (wtT ws (.nd w ts)) a (wtT ws t)) b/\AT.bxAt ws p t (ba b w (wtT ws (.nd w ts)) a (wtT ws t))=some d:=by
 have es:wtT ws (.nd w ts)=(ts.map (wtT ws)).sum:=by unfold wtT;rw[AT.lvs];exact lQ ws ts
 rw[AT.ok,w_] at ho;have hk:=AT.okL_mem.mp ho.2;rw[AT.lvs] at hw;have hws:∀t∈ts,∀k∈t.lvs,1<=ws.getD k 0:=λt ht k hk'=>hw k (AT.lvsL_mem.mpr ⟨t,ht,hk'⟩);have hone:∀x∈ts.map (wtT ws),1<=x:=λx hx=>by obtain⟨t,ht,rfl⟩:=Mq.mp hx;exact zF (hk t ht) (hws t ht)
 unfold AT.bxAt at h;split at h
 .rename_i t c e1 e2;obtain⟨x,h1,h2⟩:=zG e2;have hm:=Mw e1;have ex:x=wtT ws t:=by rw[L_,e1] at h1;exact (J_ h1).symm
  subst ex;obtain⟨p1,p2⟩:=zd hone h1;have p3:=zF (hk t hm) (hws t hm);rw[Int.zero_add] at h2;rw[<- es] at p2 h2;obtain⟨s1,s2⟩:=G1 (w:=w) hb p1 (by omega:0<wtT ws t) p2;exact⟨t,_,e1,hk t hm,hws t hm,rfl,p1,p2,p3,h1,s1,s2,by rw[<- h2];exact h⟩
 .cases h
theorem oB{ws:List Int}:∀{p:List Nat}{t:AT}{b d:Bx},t.ok=true->(∀k∈t.lvs,1<=ws.getD k 0)->b.Ok->AT.bxAt ws p t b=some d->d.Ok/\Bx.In d b
 | [],.lf k,b,d,_,_,hb,h=>by unfold AT.bxAt at h;cases h;exact⟨hb,Bx.In.refl b⟩
 | [],.nd w ts,b,d,_,_,_,h=>by unfold AT.bxAt at h;cases h
 |i::p,.lf k,b,d,_,_,_,h=>by unfold AT.bxAt at h;cases h
 |
  i::p,.nd w ts,b,d,ho,hw,hb,h=>by
  obtain⟨t,a,h1,h2,h3,_,_,_,_,_,h4,h5,h6⟩:=u6 ho hw hb h;obtain⟨k1,k2⟩:=oB h2 h3 h4 h6;exact⟨k1,k2.trans h5⟩
theorem oV{ws:List Int}:∀{p:List Nat}{t:AT}{b d:Bx}{k:Nat},t.ok=true->(∀k∈t.lvs,1<=ws.getD k 0)->b.Ok->AT.bxAt ws p t b=some d->AT.at p t=some k->d.w*d.h=b.w*b.h*(((ws.getD k 0:Int):Rat)/((wtT ws t:Int):Rat))
 |
  [],.lf k,b,d,j,_,hw,hb,h,hk=>by
  unfold AT.bxAt at h;cases h;unfold AT.at at hk;cases hk;have e:wtT ws (.lf k)=ws.getD k 0:=by unfold wtT wtA;rw[AT.lvs];simp
  have:=hw k (by rw[AT.lvs];exact s_ ..)
  rw[e,Dq (yx (by omega))]
 | [],.nd w ts,b,d,_,_,_,_,h,_=>by unfold AT.bxAt at h;cases h
 |i::p,.lf k,b,d,_,_,_,_,h,_=>by unfold AT.bxAt at h;cases h
 |
  i::p,.nd w ts,b,d,k,ho,hw,hb,h,hk=>by
  obtain⟨t,a,h1,h2,h3,_,g1,g2,g3,_,h4,h5,h6⟩:=u6 ho hw hb h;have hk':AT.at p t=some k:=by unfold AT.at at hk;rw[h1] at hk;exact hk
  rw[oV h2 h3 h4 h6 hk'];have n1:=g0 (show wtT ws t≠0 by omega);have n2:=g0 (show wtT ws (.nd w ts)≠0 by omega);generalize ((ws.getD k 0:Int):Rat)=v at *;unfold ba;generalize ((wtT ws t:Int):Rat)=x at *;generalize ((wtT ws (.nd w ts):Int):Rat)=W at *;cases w with
  |true=>show b.w*(x/W)*b.h*(v/x)=_;grind
  |false=>show b.w*(b.h*(x/W))*(v/x)=_;grind
def vk{k:Nat}(a b:List (Nat×Bx)):bxO (a++b) k=if k∈a.map (·.1) then bxO a k else bxO b k:=by
 unfold bxO;rw[List.find?_append];by_cases h:k∈a.map (·.1)
 .rw[if_pos h];obtain⟨p,hp,e⟩:=Mq.mp h;have:(a.find? λp=>p.1==k).isSome=true:=List.find?_isSome.mpr ⟨p,hp,by simpa using e⟩;obtain⟨q,hq⟩:=Ng.mp this;rw[hq];rfl
 .rw[if_neg h];have:a.find? (λp=>p.1==k)=none:=List.find?_eq_none.mpr λp hp z=>h (Mq.mpr ⟨p,hp,by simpa using z⟩);rw[this];rfl
theorem yW{ws:List Int}{x:Nat}{t:AT}{c:Bx}:∀{ts:List AT}{bs:List Bx}{i:Nat},ts[i]?=some t->bs[i]?=some c->(∀(j:Nat) (u:AT),j<i->ts[j]?=some u->x∉u.lvs)->x∈t.lvs->bxO (AT.bxL ws ts bs) x=bxO (AT.bx ws t c) x
 | [],bs,i,h,_,_,_=>by rw[NA] at h;cases h
 |u::ts,[],i,_,h,_,_=>by rw[NA] at h;cases h
 |
  u::ts,b::bs,0,h1,h2,_,hx=>by
  cases h1;cases h2;rw[AT.bxL,vk,if_pos (by rw[AT.bx_keys];exact hx)]
 |
  u::ts,b::bs,i+1,h1,h2,hn,hx=>by
  rw[NC] at h1 h2;rw[AT.bxL,vk,if_neg (by rw[AT.bx_keys];exact hn 0 u (by omega) rfl)];exact yW h1 h2 (λj v hj hv=>hn (j+1) v (by omega) (by rw[NC];exact hv)) hx
def E1{ws:List Int}{x:Nat}(t:AT):∀p b,t.pth x=some p->AT.bxAt ws p t b=some (bxO (AT.bx ws t b) x):=by
 induction t using AT.ind with
 |
  h1 k=>
  intro p b h;unfold AT.pth at h;split at h
  .rename_i e;cases h;subst e;unfold AT.bxAt;rw[AT.bx];simp [bxO]
  .cases h
 |
  h2 w ts ih=>
  intro p b h;unfold AT.pth at h;obtain⟨i,t,r,h1,h2,rfl,h4⟩:=AT.pthL_some h;have hm:=Mw h1;rw[O4];have hi:=(u_.mp h1).1;have hf:i<(frm b w (ts.map (wtT ws)).sum 0 (ts.map (wtT ws))).length:=by rw[nu,p_];exact hi
  have e2:=v_ hf;unfold AT.bxAt;rw[h1,e2];dsimp only;rw[ih t hm r _ h2,AT.bx,jL,yW h1 e2 (λj u hj hu=>(AT.pth_mem u).mp (h4 j u hj hu))];cases q:decide (x∈t.lvs) with
  |true=>exact NW q
  |
   false=>
   have:=(AT.pth_mem t).mpr (of_decide_eq_false q)
   rw[h2] at this;cases this
end L3
namespace KK
open PySem PySem.Spec PyProof.Rows L2 L3
def top(i:Nat):Stmt:=PySem.Challenge.pw_weightrooms_k30_whole_nothing_below_the.main.body.getD i (.Pass ⟨0,0,0,0⟩)
noncomputable def cB:jd:=[((.b "NoneType"),(.b "bool"),false),((.b "bool"),(.b "bool"),true),((.b "int"),(.b "bool"),false),((.b "str"),(.b "bool"),false),((.b "tuple"),(.b "bool"),false),((.b "list"),(.b "bool"),false),((.b "dict"),(.b "bool"),false),((.b "NoneType"),(.b "int"),false),((.b "bool"),(.b "int"),true),((.b "int"),(.b "int"),true),((.b "str"),(.b "int"),false),((.b "tuple"),(.b "int"),false),((.b "list"),(.b "int"),false),((.b "dict"),(.b "int"),false),((.b "NoneType"),(.b "list"),false),((.b "bool"),(.b "list"),false),((.b "int"),(.b "list"),false),((.b "str"),(.b "list"),false),((.b "tuple"),(.b "list"),false),((.b "list"),(.b "list"),true),((.b "dict"),(.b "list"),false),((.b "NoneType"),(.b "str"),false),((.b "bool"),(.b "str"),false),((.b "int"),(.b "str"),false),((.b "str"),(.b "str"),true),((.b "tuple"),(.b "str"),false),((.b "list"),(.b "str"),false),((.b "dict"),(.b "str"),false),((.b "NoneType"),(.b "tuple"),false),((.b "bool"),(.b "tuple"),false),((.b "int"),(.b "tuple"),false),((.b "str"),(.b "tuple"),false),((.b "tuple"),(.b "tuple"),true),((.b "list"),(.b "tuple"),false),((.b "dict"),(.b "tuple"),false)]
noncomputable def iL:Val:=(.int 40)
noncomputable def wa:Val:=(.tup [(.str "across"),(.str "down"),(.str "halves"),(.str "rows"),(.str "greatest"),(.str "thirds")])
noncomputable def zf:Val:=(.tup [(.str "across"),(.str "down")])
abbrev tb:Tb:=⟨["NoFraction", "NoBox", "NoWay", "NoWeights", "TooMany", "NoTree", "NoRule"],["NoFraction", "NoBox", "NoWay", "NoWeights", "TooMany", "NoTree", "NoRule"],[],cB,[("MOST_WEIGHTS",iL),("RULES",wa),("WAYS",zf)]⟩
abbrev TT(K:W.Frag)(mg:Pp):Prop:=TyL tb top [10,11,12,13,14,15,16,17,18,22,23,24,25,26,27,28,29,30,31,32,33,35,36,37,38,39,40,41,43,44,45,46,47,48,49,52,53,54,55,56,57,58,59,60,62,63,64,66,67,68,69,70,71,72,73,74,76,78] K mg
section
variable{P:Program}{w:World}{K:W.Frag}{mg:Pp}{base:Heap}
def hJ:PEx:=mZ iL
def lX(e:E3):hJ.G e=.ok (.val (.int 40)) e:=rfl
def kH:PEx:=mZ wa
def AS(e:E3):kH.G e=.ok (.val (.tup [(.str "across"),(.str "down"),(.str "halves"),(.str "rows"),(.str "greatest"),(.str "thirds")])) e:=rfl
def vG:PEx:=mZ zf
def Fp(e:E3):vG.G e=.ok (.val (.tup [(.str "across"),(.str "down")])) e:=rfl
def dI(s:String):Lean.TSyntax `term:=⟨Lean.mkIdent (s.replace "%" "").toName⟩
def dA(f:String)(a:Lean.TSyntax `term):Lean.TSyntax `term:=Lean.Syntax.mkApp (dI f) #[a]
def dF:List (Lean.TSyntax `tactic)->Lean.MacroM (Lean.TSyntax `tactic)
 | []=>`(tactic|fail)
 |a::l=>do `(tactic|first | $a:tactic | $(<- dF l):tactic)
def dL(f:String->Lean.MacroM (Lean.TSyntax `tactic)):List String->Lean.MacroM (List (Lean.TSyntax `tactic))
 | []=>pure []
 |s::l=>do return (<- f s)::(<- dL f l)
set_option hygiene false in
def dQ(ap:String->Lean.TSyntax `term)(s:String):Lean.MacroM (Lean.TSyntax `tactic):=match (s.splitOn ";").map ap with
 | [d,c,a,b]=>`(tactic|((case d=>with_reducible exact $d);(case c=>exact $c);(case a=>exact $a);(case b=>exact $b)))
 |d::c::_=>`(tactic|((case d=>with_reducible exact $d);(case c=>exact $c)))
 |_=>`(tactic|fail)
set_option hygiene false in
def dR(ap:String->Lean.TSyntax `term)(g:String):Lean.MacroM (Lean.TSyntax `tactic):=match g.splitOn ":" with
 | [r]=>`(tactic|refine $(ap r))
 |r::l=>do `(tactic|(refine' $(ap r);$(<- dF (<- dL (dQ ap) l)):tactic))
 | []=>`(tactic|fail)
set_option hygiene false in
local macro_rules | `('d')=>do
 let h <- `(?_)
 let u <- `(_)
 let R:=dI "rfl"
 let qA <- `(?a)
 let qB <- `(?b)
 let qC <- `(?c)
 let qD <- `(?d)
 let qp <- `((λ_ _=>rfl))
 let ap:=λ(s:String)=>let w:=s.splitOn " ";Lean.Syntax.mkApp (dI (w.getD 0 "")) (((w.getD 1 "").toList.map λc=>([('1',dI "hr.u100"),('8',dI "hr.u180"),('A',qA),('B',qB),('C',qC),('D',qD),('K',dI "T.k"),('_',u),('b',dA "%boT" R),('f',dA "%boF" R),('g',dA "T.g" R),('k',dA "T.n" R),('m',dA "T.m" R),('n',dI "nd"),('o',dI "%own1"),('p',qp),('r',R),('t',dI "T"),('u',dA "%Li" (dI "hr")),('v',dA "%AA" u),('x',dA "T.x" R),('z',dI "%rz1")].lookup c).getD h).toArray)
 let rd:=λ(s:String)=>dL (dR ap) (s.splitOn "|")
 let e0 <- `(tactic|refine zcF (by $(<- dF (<- rd "%ih|tS t|tD t|uH t|pR t|rP t|mi t|rh t|jF t|mh t|xO t|pQ t|pH t|kh t|uM t|fq t|rR t|Ar t|qS t|A1 t|yY t|rq t|ur t|pX t|xm t|pL t|uJ t|n9 t|pJ t|zZ t|wD t|m7 t|pM t|sk t|mL t_|rm t|oE t|fF t|fG t|nW t|eZ t_|mj t|pF t|kG t|oF t|mY t|eK t_|pI t|ir t|kj t|lO t|kZ t|pA t|uI t|jx t_|pW t|As t|pD t")):tactic) hr ?_)
 let e3 <- `(tactic|exact Gg rfl (by first |exact T.e rfl |exact (T.d.get 60 rfl).gl |exact (T.d.get 59 rfl).gl))
 `(by repeat' $(<- dF ((<- rd "%AA _|IZ|yQ|a9 ??|au ??|c9 ?|zsS _n?|qG ???|dW ?|yG ?|rQ ?|Hc|LR|Fe|GZ ?")++[e0,e3]++(<- rd "%LL CD??:J3;ixK r|HH CD??:DR;eqDK r8:Ea;DH:Ei;Dv:Dj;Dt:J9;neDK r8:IH;CT:GI;H9 r|i6 CDrkf?:Hr;KP r:Jl;B6:Fv;xY r:FW;yF r:zH;pz rr:FX;uB:FZ;yK rr:Gy K;Kq r|DU CD??:Ji;FY:Aw;Ac r:JR;Hj:Ja;Bb:GU;IW:JI;F9:Gu;Jn|oQ CDrkb?:Jq;Ae:rD;uU r|HJ CD??:Ei;Dv:Ea;DH:DR;eqDK r8:Dj;Dt:KN;inK r|ER rABCD??:Cz;IQ r1;PySem.F.slot_list_index;PySem.F.type_list_index|HS rABCDv?:yX;oU;PySem.F.slot_list_append;PySem.F.type_list_append:zS;zx;PySem.F.slot_list_insert;PySem.F.type_list_insert:wH;wJ r;PySem.F.slot_list_extend;PySem.F.type_list_extend|FQ rABCDv:Ge;Gf;PySem.F.slot_list_pop;PySem.F.type_list_pop|Lq CD?:Gp;Gm|HA n?CD:GH;GX|EY ?v?CD:EA;CO:BU;CF u|ZG.weak ?|zt_w ?|GD rv?|JE ??|J5|Bw u??p|JZ rg|Iy rrkrk?|II ?|JD ?|Lk ??|Fw rkb|B0 r???|IM rrkrk?|LO rkb|zgN _n|Jv rr?|Ic rr?|CJ ??|EF|zX rk?|ye rk?|HF r?|Gj rrk?|E6|F7 ?|FO ??|By|Fq ?|JC or???|IC n?|CP rzrmx?|Ek|Bj o??|rB ?|B4 r?|Hg ??|Fc ?|Kk ??|HP ?"))):tactic)
def mR:PSt:=
 (ak (xIf (qOf (pOp bEq (pFn aY (aa (af 0) ag)) (ah 0))) (ay (cX (aa (ah 0) (aa (ah 0) (aa (af 1) ag))))) xNx)
  (ay (cX (aa (pOp bIx (af 0) (pOp cz (af 1) (pFn aY (aa (af 0) ag)))) (aa (ah 0) (aa (af 1) ag))))))
def de:PFn:=fnP [false,false] 2 mR
def uz:de.ms=[false,false]:=rfl
def tS(T:TT K mg):Callee P w K mg base "_law_feed" 1 ["_law_script", "_law_k"] (sp3 K mg de):=okP (T.d.get 66 rfl) (aw (N:=["_law_script", "_law_k"]) (by decide)) (λ_ _ _ _ _ _=>ar2 λ_ _=>rfl) λnd _ _ _ _ _ _ _ hr=>'d'
def mK:PSt:=
 (ak (tQ 0 seL (ah 1) (pOp aX (pOp bIx (af 0) (ah 1)) (ah 1)))
  (ak (xIf (qOf (pOp bGe (pOp bIx (af 0) (ah 0)) (pOp gp (ah 10) (ah 18)))) (ak (ax false 2 (pOp cz (pOp bIx (af 0) (ah 0)) (af 1)))
  (ak (tQ 0 seL (ah 0) (pOp jr (pOp bIx (af 0) (ah 0)) (af 1)))
  (ay (af 2)))) xNx)
  (ak (ax false 3 (pOp aX (pOp aX (pOp cz (pOp bIx (af 0) (ah 0)) (ah 1000003)) (pOp aV (ah 7919) (pOp bIx (af 0) (ah 2)))) (pOp aV (ah 104729) (pOp bIx (af 0) (ah 1)))))
  (ak (ax false 3 (pOp cz (pOp aV (af 3) (ah 48271)) (ah 2147483647)))
  (ay (pOp cz (pOp cz (pOp aV (af 3) (pOp aX (pOp cz (af 3) (ah 65521)) (pOp bIx (af 0) (ah 1)))) (ah 2147483629)) (af 1)))))))
def ao:PFn:=fnP [true,false] 4 mK
def uD:ao.ms=[true,false]:=rfl
def tD(T:TT K mg):Callee P w K mg base "_law_next" 1 ["_law_feed_here", "_law_many"] (sp3 K mg ao):=okP (T.d.get 67 rfl) (aw (N:=["_law_feed_here", "_law_many", "_law_digit", "_law_mixed"]) (by decide)) (λ_ _ _ _ _ _=>ar2 λ_ _=>rfl) λnd _ _ _ _ _ _ _ hr=>'d'
def gv:PSt:=
 (gk 2 3 (aa (af 3) (aa (pOp cz (af 2) (af 3)) ag)))
def o6:PSt:=
 (ak (gk 2 3 (aa (pFn er (aa (af 0) ag)) (aa (pFn er (aa (af 1) ag)) ag)))
  (ak (xWh (qOf (pOp bGt (af 3) (ah 0))) (gv))
  (ak (xIf (qOf (pOp bLt (af 1) (ah 0))) (ax false 2 (pOp eM (ah 0) (af 2))) xNx)
  (ay (bg (aa (pOp jr (af 0) (af 2)) (aa (pOp jr (af 1) (af 2)) ag)))))))
def bP:PFn:=fnP [false,false] 4 o6
def wG:bP.ms=[false,false]:=rfl
def uH(T:TT K mg):Callee P w K mg base "_law_low" 1 ["_law_top", "_law_bottom"] (sp3 K mg bP):=okP (T.d.get 69 rfl) (aw (N:=["_law_top", "_law_bottom", "_law_one", "_law_two"]) (by decide)) (λ_ _ _ _ _ _=>ar2 λ_ _=>rfl) λnd _ _ _ _ _ _ _ hr=>'d'
def jH:PSt:=
 (ax false 2 (pOp aX (pOp aV (af 2) (pOp gp (ah 10) (ah 6))) (ai ao (aa (af 0) (aa (pOp gp (ah 10) (ah 6)) ag)))))
def kD:PSt:=
 (ak (ax false 2 (ah 0))
  (ak (gN (i8 (aa (ah 6) ag)) (gtN 3) (jH))
  (ay (pOp eM (pOp cz (af 2) (pOp aX (pOp aV (ah 2) (af 1)) (ah 1))) (af 1)))))
def bp:PFn:=fnP [true,false] 4 kD
def uk:bp.ms=[true,false]:=rfl
def pR(T:TT K mg):Callee P w K mg base "_law_great" 2 ["_law_feed_here", "_law_far"] (sp3 K mg bp):=okP (T.d.get 68 rfl) (aw (N:=["_law_feed_here", "_law_far", "_law_number", "_law_k"]) (by decide)) (λ_ _ _ _ _ _=>ar2 λ_ _=>rfl) λnd _ _ _ _ _ _ _ hr=>'d'
def iS:PSt:=
 (ak (ax false 1 (ai ao (aa (af 0) (aa (ah 6) ag))))
  (ak (gk 2 3 (aa (bg (aa (pOp eM (ai ao (aa (af 0) (aa (ah 19) ag))) (ah 9)) (aa (ah 1) ag))) (aa (bg (aa (pOp eM (ai ao (aa (af 0) (aa (ah 19) ag))) (ah 9)) (aa (ah 1) ag))) ag)))
  (ak (gk 4 5 (aa (bg (aa (pOp aX (ah 1) (ai ao (aa (af 0) (aa (ah 12) ag)))) (aa (ah 1) ag))) (aa (bg (aa (pOp aX (ah 1) (ai ao (aa (af 0) (aa (ah 12) ag)))) (aa (ah 1) ag))) ag)))
  (ak (xIf (qOf (pOp bEq (af 1) (ah 1))) (ax false 5 (af 4)) xNx)
  (ak (xIf (qOf (pOp bEq (af 1) (ah 2))) (ax false 4 (bg (aa (pOp aX (ah 1) (ai ao (aa (af 0) (aa (ah 99) ag)))) (aa (ah 1) ag)))) xNx)
  (ak (xIf (qOf (pOp bEq (af 1) (ah 3))) (ax false 5 (bg (aa (pOp aX (ah 1) (ai ao (aa (af 0) (aa (ah 99) ag)))) (aa (ah 1) ag)))) xNx)
  (ak (xIf (qOf (pOp bEq (af 1) (ah 4))) (ak (gk 2 3 (aa (ai bP (aa (pOp eM (ai ao (aa (af 0) (aa (ah 199) ag))) (ah 99)) (aa (pOp aX (ah 1) (ai ao (aa (af 0) (aa (ah 30) ag)))) ag))) (aa (ai bP (aa (ai ao (aa (af 0) (aa (ah 9) ag))) (aa (ah 7) ag))) ag)))
  (gk 4 5 (aa (ai bP (aa (pOp aX (ah 1) (ai ao (aa (af 0) (aa (ah 99) ag)))) (aa (pOp aX (ah 1) (ai ao (aa (af 0) (aa (ah 30) ag)))) ag))) (aa (ai bP (aa (pOp aX (ah 1) (ai ao (aa (af 0) (aa (ah 99) ag)))) (aa (ah 11) ag))) ag)))) xNx)
  (ak (xIf (qOf (pOp bEq (af 1) (ah 5))) (ak (ax false 6 (pOp eM (pOp gp (ah 10) (ah 30)) (ah 1)))
  (ak (gk 2 3 (aa (ai bP (aa (ai bp (aa (af 0) (aa (af 6) ag))) (aa (pOp aX (ah 1) (pFn er (aa (ai bp (aa (af 0) (aa (pOp eM (af 6) (ah 1)) ag))) ag))) ag))) (aa (bg (aa (ai bp (aa (af 0) (aa (af 6) ag))) (aa (ah 1) ag))) ag)))
  (gk 4 5 (aa (bg (aa (pOp aX (ah 1) (pFn er (aa (ai bp (aa (af 0) (aa (pOp eM (af 6) (ah 1)) ag))) ag))) (aa (ah 1) ag))) (aa (ai bP (aa (pOp aX (ah 1) (pFn er (aa (ai bp (aa (af 0) (aa (pOp eM (af 6) (ah 1)) ag))) ag))) (aa (af 6) ag))) ag))))) xNx)
  (ay (bg (aa (af 2) (aa (af 3) (aa (af 4) (aa (af 5) ag))))))))))))))
def fC:PFn:=fnP [true] 7 iS
def uO:fC.ms=[true]:=rfl
def rP(T:TT K mg):Callee P w K mg base "_law_room" 3 ["_law_feed_here"] (sp3 K mg fC):=okP (T.d.get 70 rfl) (aw (N:=["_law_feed_here", "_law_way", "_law_left", "_law_top", "_law_wide", "_law_high", "_law_far"]) (by decide)) (λ_ _ _ _ _ _=>ar1 λ_=>rfl) λnd _ _ _ _ _ _ _ hr=>'d'
def eg:PSt:=
 (ak (ax true 3 (ai de (aa (af 0) (aa (pOp aX (pOp aX (af 1) (ah 1)) (af 9)) ag))))
  (ak (ax false 10 (pOp bIx (cX (aa (ah 1) (aa (pOp aX (ah 1) (ai ao (aa (af 3) (aa (ah 9) ag)))) (aa (pOp qW (ah 1) (pOp cz (af 9) (af 8))) (aa (pOp aX (ah 1) (ai ao (aa (af 3) (aa (ah 9) ag)))) (aa (ah 1) (aa (pOp aX (ah 1) (ai ao (aa (af 3) (aa (ah 3) ag)))) ag))))))) (af 6)))
  (ak (xIf (qAn (qOf (pOp bEq (af 6) (ah 3))) (qOf (pOp bEq (ai ao (aa (af 3) (aa (ah 4) ag))) (ah 0)))) (ax false 10 (pOp aX (pOp gp (ah 10) (ah 29)) (ai ao (aa (af 3) (aa (ah 100) ag))))) xNx)
  (ak (xIf (qOf (pOp bEq (af 6) (ah 4))) (ax false 10 (pOp aX (ah 1) (pFn er (aa (ai bp (aa (af 3) (aa (pOp eM (pOp gp (ah 10) (ah 30)) (ah 2)) ag))) ag)))) xNx)
  (aM (ia 7 eX (aa (af 10) ag)))))))
def gm:PSt:=
 (ak (ax true 3 (ai de (aa (af 0) (aa (af 1) ag))))
  (ak (ax false 4 (pOp aX (ah 1) (ai ao (aa (af 3) (aa (pFn mT (aa (af 2) (aa (ah 7) ag))) ag)))))
  (ak (ax false 5 (ai ao (aa (af 3) (aa (ah 6) ag))))
  (ak (xIf (qOf (pOp bLt (af 5) (ah 2))) (ax false 4 (pOp bIx (cX (aa (af 2) (aa (pFn sG (aa (ah 1) (aa (pOp jr (pOp aV (af 4) (af 2)) (ah 8)) ag))) ag))) (af 5))) xNx)
  (ak (ax false 6 (ai ao (aa (af 3) (aa (ah 6) ag))))
  (ak (xIf (qOf (pOp bGt (af 4) (ah 9))) (ax false 6 (pOp cz (af 6) (ah 3))) xNx)
  (ak (ax true 7 (cX ag))
  (ak (ax false 8 (pOp bIx (cX (aa (ah 24) (aa (ah 4) ag))) (pFn qw (aa (pOp bGt (af 4) (ah 9)) ag))))
  (ak (gN (i8 (aa (af 4) ag)) (gtN 9) (eg))
  (ay (af 7)))))))))))
def dq:PFn:=fnP [false,false,false] 11 gm
def nU:dq.ms=[false,false,false]:=rfl
def mi(T:TT K mg):Callee P w K mg base "_law_weights" 3 ["_law_script", "_law_at", "_law_most_here"] (sp3 K mg dq):=okP (T.d.get 71 rfl) (aw (N:=["_law_script", "_law_at", "_law_most_here", "_law_feed_here", "_law_many", "_law_more", "_law_style", "_law_some", "_law_high", "_law_k", "_law_weight"]) (by decide)) (λ_ _ _ _ _ _=>ar3 λ_ _ _=>rfl) λnd _ _ _ _ _ _ _ hr=>'d'
def jh:PSt:=
 (ay (i7 (pFn (bz cB) (aa (af 0) (aa (pTy "int") ag))) (BV (pFn (bz cB) (aa (af 0) (aa (pTy "bool") ag))))))
def bM:PFn:=fnP [false] 1 jh
def uK:bM.ms=[false]:=rfl
def rh(T:TT K mg):Callee P w K mg base "is_whole" 1 ["thing"] (sp3 K mg bM):=okP (T.d.get 10 rfl) (aw (N:=["thing"]) (by decide)) (λ_ _ _ _ _ _=>ar1 λ_=>rfl) λnd _ _ _ _ _ _ _ hr=>'d'
def cU:PSt:=
 (gk 0 1 (aa (af 1) (aa (pOp cz (af 0) (af 1)) ag)))
def gM:PSt:=
 (ak (gk 0 1 (aa (pFn er (aa (af 0) ag)) (aa (pFn er (aa (af 1) ag)) ag)))
  (ak (xWh (qOf (pOp bNe (af 1) (ah 0))) (cU))
  (ay (af 0))))
def bG:PFn:=fnP [false,false] 2 gM
def ki:bG.ms=[false,false]:=rfl
def jF(T:TT K mg):Callee P w K mg base "common_divisor" 1 ["one", "other"] (sp3 K mg bG):=okP (T.d.get 11 rfl) (aw (N:=["one", "other"]) (by decide)) (λ_ _ _ _ _ _=>ar2 λ_ _=>rfl) λnd _ _ _ _ _ _ _ hr=>'d'
def jy:PSt:=
 (ak (xIf (qO (qNo (qOf (pFn (bz cB) (aa (af 0) (aa (pTy "tuple") ag))))) (qOf (pOp bNe (pFn aY (aa (af 0) ag)) (ah 2)))) (ay (pBl false)) xNx)
  (ak (j3 (af 0) (gtX (gtT 2 (bQ (gtN 1) (bQ (gtN 2) fH)))))
  (ak (xIf (qO (qNo (qOf (ai bM (aa (af 1) ag)))) (qNo (qOf (ai bM (aa (af 2) ag))))) (ay (pBl false)) xNx)
  (ay (i7 (pOp bGe (af 2) (ah 1)) (pOp bEq (ai bG (aa (af 1) (aa (af 2) ag))) (ah 1)))))))
def cG:PFn:=fnP [false] 3 jy
def nA:cG.ms=[false]:=rfl
def mh(T:TT K mg):Callee P w K mg base "is_fraction" 2 ["thing"] (sp3 K mg cG):=okP (T.d.get 12 rfl) (aw (N:=["thing", "top", "bottom"]) (by decide)) (λ_ _ _ _ _ _=>ar1 λ_=>rfl) λnd _ _ _ _ _ _ _ hr=>'d'
def rK:PSt:=
 (ak (xIf (qO (qNo (qOf (pFn (bz cB) (aa (af 0) (aa (pTy "tuple") ag))))) (qOf (pOp bNe (pFn aY (aa (af 0) ag)) (ah 4)))) (ay (pBl false)) xNx)
  (ak (xIf (qNo (qOf (pFn qP (aa (pLC (bj (af 0)) [none] (by decide) (gtN 0) qY (ai cG (aa (af 0) ag))) ag)))) (ay (pBl false)) xNx)
  (ay (i7 (pOp bGt (pOp bIx (pOp bIx (af 0) (ah 2)) (ah 0)) (ah 0)) (pOp bGt (pOp bIx (pOp bIx (af 0) (ah 3)) (ah 0)) (ah 0))))))
def gC:PFn:=fnP [false] 1 rK
def ya:gC.ms=[false]:=rfl
def xO(T:TT K mg):Callee P w K mg base "is_box" 3 ["thing"] (sp3 K mg gC):=okP (T.d.get 22 rfl) (aw (N:=["thing"]) (by decide)) (λ_ _ _ _ _ _=>ar1 λ_=>rfl) λnd _ _ _ _ _ _ _ hr=>(au 'd' (au (qG (rB (rQ (i6 (allK (K:=K) rfl rfl) zR rfl (T.n rfl) (by first |exact boF rfl |exact boT rfl) (a9 (gn ["thing"] (aq (top 22)).names ["part"] [none] 'd' (λnd _ _ _ _ _=>'d') (λ_ _ _ _ _ _=>bH) (λnd _ _ _ _ _=>'d')) 'd')))) 'd' 'd') 'd'))
def ko:PSt:=
 (xIf (qNo (qOf (ai gC (aa (af 0) ag)))) (eT "NoBox" (aa (bS "this is no box") ag)) xNx)
def aK:PFn:=fnP [false] 1 ko
def sP:aK.ms=[false]:=rfl
def pQ(T:TT K mg):Callee P w K mg base "check_box" 4 ["thing"] (sp3 K mg aK):=okP (T.d.get 23 rfl) (aw (N:=["thing"]) (by decide)) (λ_ _ _ _ _ _=>ar1 λ_=>rfl) λnd _ _ _ _ _ _ _ hr=>'d'
def kB:PSt:=
 (ay (i7 (ai bM (aa (af 0) ag)) (pOp bGe (af 0) (ah 1))))
def dD:PFn:=fnP [false] 1 kB
def tL:dD.ms=[false]:=rfl
def pH(T:TT K mg):Callee P w K mg base "is_weight" 2 ["thing"] (sp3 K mg dD):=okP (T.d.get 27 rfl) (aw (N:=["thing"]) (by decide)) (λ_ _ _ _ _ _=>ar1 λ_=>rfl) λnd _ _ _ _ _ _ _ hr=>'d'
def g9:PSt:=
 (ak (xIf (qO (qNo (qOf (pFn (bz cB) (aa (af 0) (aa (pTy "list") ag))))) (qOf (pOp bEq (pFn aY (aa (af 0) ag)) (ah 0)))) (eT "NoWeights" (aa (bS "this is no list of weights") ag)) xNx)
  (ak (xIf (qNo (qOf (pFn qP (aa (pLC (bj (af 0)) [none] (by decide) (gtN 0) qY (ai dD (aa (af 0) ag))) ag)))) (eT "NoWeights" (aa (bS "a weight is a whole number from 1 on") ag)) xNx)
  (xIf (qOf (pOp bGt (pFn aY (aa (af 0) ag)) hJ)) (eT "TooMany" (aa (bS "these are more weights than forty") ag)) xNx)))
def aE:PFn:=fnP [false] 1 g9
def kI:aE.ms=[false]:=rfl
def kh(T:TT K mg):Callee P w K mg base "check_weights" 3 ["thing"] (sp3 K mg aE):=okP (T.d.get 28 rfl) (aw (N:=["thing"]) (by decide)) (λ_ _ _ _ _ _=>ar1 λ_=>rfl) λnd _ _ _ _ _ _ _ hr=>(au 'd' (au (qG (rB (rQ (i6 (allK (K:=K) rfl rfl) zR rfl (T.n rfl) (by first |exact boF rfl |exact boT rfl) (a9 (gn ["thing"] (aq (top 28)).names ["weight"] [none] 'd' (λnd _ _ _ _ _=>'d') (λ_ _ _ _ _ _=>bH) (λnd _ _ _ _ _=>'d')) 'd')))) 'd' 'd') 'd'))
def oW:PSt:=
 (ay (pOp bLt (pOp aV (pOp bIx (af 0) (ah 0)) (pOp bIx (af 1) (ah 1))) (pOp aV (pOp bIx (af 1) (ah 0)) (pOp bIx (af 0) (ah 1)))))
def dX:PFn:=fnP [false,false] 2 oW
def xq:dX.ms=[false,false]:=rfl
def uM(T:TT K mg):Callee P w K mg base "is_less" 1 ["one", "other"] (sp3 K mg dX):=okP (T.d.get 17 rfl) (aw (N:=["one", "other"]) (by decide)) (λ_ _ _ _ _ _=>ar2 λ_ _=>rfl) λnd _ _ _ _ _ _ _ hr=>'d'
def eD:PSt:=
 (xIf (qOf (ai dX (aa (af 1) (aa (af 2) ag)))) (ax false 1 (af 2)) xNx)
def jv:PSt:=
 (ak (ax false 1 (pOp bIx (af 0) (ah 0)))
  (ak (gN (bj (af 0)) (gtN 2) (eD))
  (ay (af 1))))
def bZ:PFn:=fnP [false] 3 jv
def nT:bZ.ms=[false]:=rfl
def fq(T:TT K mg):Callee P w K mg base "greatest_of" 2 ["fractions"] (sp3 K mg bZ):=okP (T.d.get 18 rfl) (aw (N:=["fractions", "found", "one"]) (by decide)) (λ_ _ _ _ _ _=>ar1 λ_=>rfl) λnd _ _ _ _ _ _ _ hr=>'d'
def mH:PSt:=
 (ak (xIf (qOf (pOp bEq (af 1) (ah 0))) (eT "NoFraction" (aa (bS "a fraction has no bottom of 0") ag)) xNx)
  (ak (ax false 2 (ai bG (aa (af 0) (aa (af 1) ag))))
  (ak (xIf (qOf (pOp bLt (af 1) (ah 0))) (ax false 2 (pUn Cc (af 2))) xNx)
  (ay (bg (aa (pOp jr (af 0) (af 2)) (aa (pOp jr (af 1) (af 2)) ag)))))))
def bI:PFn:=fnP [false,false] 3 mH
def uR:bI.ms=[false,false]:=rfl
def rR(T:TT K mg):Callee P w K mg base "fraction" 2 ["top", "bottom"] (sp3 K mg bI):=okP (T.d.get 13 rfl) (aw (N:=["top", "bottom", "divisor"]) (by decide)) (λ_ _ _ _ _ _=>ar2 λ_ _=>rfl) λnd _ _ _ _ _ _ _ hr=>'d'
def vm:PSt:=
 (ay (ai bI (aa (pOp aV (pOp bIx (af 0) (ah 0)) (pOp bIx (af 1) (ah 0))) (aa (pOp aV (pOp bIx (af 0) (ah 1)) (pOp bIx (af 1) (ah 1))) ag))))
def fL:PFn:=fnP [false,false] 2 vm
def CS:fL.ms=[false,false]:=rfl
def Ar(T:TT K mg):Callee P w K mg base "times" 3 ["one", "other"] (sp3 K mg fL):=okP (T.d.get 15 rfl) (aw (N:=["one", "other"]) (by decide)) (λ_ _ _ _ _ _=>ar2 λ_ _=>rfl) λnd _ _ _ _ _ _ _ hr=>'d'
def l9:PSt:=
 (ak (aM (ai aK (aa (af 0) ag)))
  (ak (xIf (qOf (ai dX (aa (pOp bIx (af 0) (ah 2)) (aa (pOp bIx (af 0) (ah 3)) ag)))) (ay (bS "down")) xNx)
  (ay (bS "across"))))
def bK:PFn:=fnP [false] 1 l9
def uC:bK.ms=[false]:=rfl
def qS(T:TT K mg):Callee P w K mg base "long_way" 5 ["box"] (sp3 K mg bK):=okP (T.d.get 29 rfl) (aw (N:=["box"]) (by decide)) (λ_ _ _ _ _ _=>ar1 λ_=>rfl) λnd _ _ _ _ _ _ _ hr=>'d'
def zO:PSt:=
 (ay (ai bI (aa (pOp aV (pOp bIx (af 0) (ah 0)) (pOp bIx (af 1) (ah 1))) (aa (pOp aV (pOp bIx (af 0) (ah 1)) (pOp bIx (af 1) (ah 0))) ag))))
def iR:PFn:=fnP [false,false] 2 zO
def EO:iR.ms=[false,false]:=rfl
def A1(T:TT K mg):Callee P w K mg base "over" 3 ["one", "other"] (sp3 K mg iR):=okP (T.d.get 16 rfl) (aw (N:=["one", "other"]) (by decide)) (λ_ _ _ _ _ _=>ar2 λ_ _=>rfl) λnd _ _ _ _ _ _ _ hr=>'d'
def vS:PSt:=
 (ak (xIf (qOf (pOp bEq (ai bK (aa (af 0) ag)) (bS "across"))) (ay (ai iR (aa (pOp bIx (af 0) (ah 2)) (aa (pOp bIx (af 0) (ah 3)) ag)))) xNx)
  (ay (ai iR (aa (pOp bIx (af 0) (ah 3)) (aa (pOp bIx (af 0) (ah 2)) ag)))))
def eI:PFn:=fnP [false] 1 vS
def B7:eI.ms=[false]:=rfl
def yY(T:TT K mg):Callee P w K mg base "shape" 6 ["box"] (sp3 K mg eI):=okP (T.d.get 30 rfl) (aw (N:=["box"]) (by decide)) (λ_ _ _ _ _ _=>ar1 λ_=>rfl) λnd _ _ _ _ _ _ _ hr=>'d'
def mB:PSt:=
 (ay (ai fL (aa (ai eI (aa (af 0) ag)) (aa (ai bI (aa (af 1) (aa (af 2) ag))) ag))))
def eE:PFn:=fnP [false,false,false] 3 mB
def uT:eE.ms=[false,false,false]:=rfl
def rq(T:TT K mg):Callee P w K mg base "thinness" 7 ["room", "weight", "whole"] (sp3 K mg eE):=okP (T.d.get 63 rfl) (aw (N:=["room", "weight", "whole"]) (by decide)) (λ_ _ _ _ _ _=>ar3 λ_ _ _=>rfl) λnd _ _ _ _ _ _ _ hr=>'d'
def lN:PSt:=
 (ak (aM (ai aK (aa (af 0) ag)))
  (ak (aM (ai aE (aa (af 1) ag)))
  (ay (ai bZ (aa (pOp aX (cX (aa (bg (aa (ah 1) (aa (ah 1) ag))) ag)) (pLC (bj (af 1)) [none,some 0,some 1] (by decide) (gtN 0) qY (ai eE (aa (af 1) (aa (af 0) (aa (pFn b0 (aa (af 2) ag)) ag)))))) ag)))))
def fu:PFn:=fnP [false,false] 2 lN
def uE:fu.ms=[false,false]:=rfl
def ur(T:TT K mg):Callee P w K mg base "floor_of" 8 ["room", "weights"] (sp3 K mg fu):=okP (T.d.get 64 rfl) (aw (N:=["room", "weights"]) (by decide)) (λ_ _ _ _ _ _=>ar2 λ_ _=>rfl) λnd _ _ _ _ _ _ _ hr=>(au 'd' (au 'd' (c9 (dW (zcF (fq T) hr (a9 (DU (Ac (K:=K) rfl) Aw 'd' (gn ["room", "weights"] (aq (top 64)).names ["weight", "room", "weights"] [none,some 0,some 1] 'd' (λnd _ _ _ _ _=>'d') (λ_ _ _ _ _ _=>bH) (λnd _ _ _ _ _=>'d'))) 'd'))))))
def gD:PSt:=
 (aM (ia 2 kT (aa (ai ao (aa (af 0) (aa (pOp aX (pFn aY (aa (af 2) ag)) (ah 1)) ag))) (aa (af 3) ag))))
def kE:PSt:=
 (ak (ax true 2 (cX ag))
  (ak (gN (i8 (aa (af 1) ag)) (gtN 3) (gD))
  (ay (af 2))))
def eP:PFn:=fnP [true,false] 4 kE
def rO:eP.ms=[true,false]:=rfl
def pX(T:TT K mg):Callee P w K mg base "_law_order" 2 ["_law_feed_here", "_law_many"] (sp3 K mg eP):=okP (T.d.get 72 rfl) (aw (N:=["_law_feed_here", "_law_many", "_law_order_here", "_law_k"]) (by decide)) (λ_ _ _ _ _ _=>ar2 λ_ _=>rfl) λnd _ _ _ _ _ _ _ hr=>'d'
def lu:PSt:=
 (ay (i7 (pFn (bz cB) (aa (af 0) (aa (pTy "str") ag))) (pOp bIn (af 0) vG)))
def d5:PFn:=fnP [false] 1 lu
def yC:d5.ms=[false]:=rfl
def xm(T:TT K mg):Callee P w K mg base "is_way" 1 ["thing"] (sp3 K mg d5):=okP (T.d.get 24 rfl) (aw (N:=["thing"]) (by decide)) (λ_ _ _ _ _ _=>ar1 λ_=>rfl) λnd _ _ _ _ _ _ _ hr=>'d'
def iw:PSt:=
 (ak (xIf (qO (qNo (qOf (pFn (bz cB) (aa (af 0) (aa (pTy "tuple") ag))))) (qOf (pOp bNe (pFn aY (aa (af 0) ag)) (ah 2)))) (ay (pBl false)) xNx)
  (ay (i7 (ai d5 (aa (pOp bIx (af 0) (ah 0)) ag)) (i7 (pFn (bz cB) (aa (pOp bIx (af 0) (ah 1)) (aa (pTy "tuple") ag))) (pOp bGe (pFn aY (aa (pOp bIx (af 0) (ah 1)) ag)) (ah 2))))))
def cQ:PFn:=fnP [false] 1 iw
def sE:cQ.ms=[false]:=rfl
def pL(T:TT K mg):Callee P w K mg base "is_branch" 2 ["thing"] (sp3 K mg cQ):=okP (T.d.get 43 rfl) (aw (N:=["thing"]) (by decide)) (λ_ _ _ _ _ _=>ar1 λ_=>rfl) λnd _ _ _ _ _ _ _ hr=>'d'
def df:PSt:=
 (ak (ax false 4 (qF 3 qt))
  (xIf (qOf (ai cQ (aa (af 4) ag))) (aM (ia 3 gY (aa (pOp bIx (af 4) (ah 1)) ag))) (xIf (qO (qNo (qOf (ai bM (aa (af 4) ag)))) (qO (qOf (pOp bLt (af 4) (ah 0))) (qO (qOf (pOp bGe (af 4) (af 1))) (qOf (pOp C1 (af 4) (af 2)))))) (ay (pBl false)) (aM (C2 2 (aa (af 4) ag))))))
def oZ:PSt:=
 (ak (ax true 2 xH)
  (ak (ax true 3 (cX (aa (af 0) ag)))
  (ak (xWh (qTr (af 3)) (df))
  (ay (pOp bEq (pFn tU (aa (af 2) ag)) (af 1))))))
def gd:PFn:=fnP [false,false] 5 oZ
def xD:gd.ms=[false,false]:=rfl
def uJ(T:TT K mg):Callee P w K mg base "is_tree" 3 ["thing", "many"] (sp3 K mg gd):=okP (T.d.get 44 rfl) (aw (N:=["thing", "many", "seen", "waiting", "part"]) (by decide)) (λ_ _ _ _ _ _=>ar2 λ_ _=>rfl) λnd _ _ _ _ _ _ _ hr=>'d'
def jK:PSt:=
 (xIf (qNo (qOf (ai gd (aa (af 0) (aa (af 1) ag))))) (eT "NoTree" (aa (bS "this is no tree for the things") ag)) xNx)
def dU:PFn:=fnP [false,false] 2 jK
def pO:dU.ms=[false,false]:=rfl
def n9(T:TT K mg):Callee P w K mg base "check_tree" 4 ["thing", "many"] (sp3 K mg dU):=okP (T.d.get 45 rfl) (aw (N:=["thing", "many"]) (by decide)) (λ_ _ _ _ _ _=>ar2 λ_ _=>rfl) λnd _ _ _ _ _ _ _ hr=>'d'
def kA:PSt:=
 (xIf (qNo (qOf (ai d5 (aa (af 0) ag)))) (eT "NoWay" (aa (bS "this is no way") ag)) xNx)
def eR:PFn:=fnP [false] 1 kA
def tY:eR.ms=[false]:=rfl
def pJ(T:TT K mg):Callee P w K mg base "check_way" 2 ["way"] (sp3 K mg eR):=okP (T.d.get 25 rfl) (aw (N:=["way"]) (by decide)) (λ_ _ _ _ _ _=>ar1 λ_=>rfl) λnd _ _ _ _ _ _ _ hr=>'d'
def v8:PSt:=
 (ay (ai bI (aa (pOp aX (pOp aV (pOp bIx (af 0) (ah 0)) (pOp bIx (af 1) (ah 1))) (pOp aV (pOp bIx (af 1) (ah 0)) (pOp bIx (af 0) (ah 1)))) (aa (pOp aV (pOp bIx (af 0) (ah 1)) (pOp bIx (af 1) (ah 1))) ag))))
def iC:PFn:=fnP [false,false] 2 v8
def CV:iC.ms=[false,false]:=rfl
def zZ(T:TT K mg):Callee P w K mg base "added" 3 ["one", "other"] (sp3 K mg iC):=okP (T.d.get 14 rfl) (aw (N:=["one", "other"]) (by decide)) (λ_ _ _ _ _ _=>ar2 λ_ _=>rfl) λnd _ _ _ _ _ _ _ hr=>'d'
def gW:PSt:=
 (ak (ax false 7 (ai iC (aa (af 0) (aa (ai fL (aa (af 1) (aa (ai bI (aa (af 4) (aa (af 3) ag))) ag))) ag))))
  (ak (aM (ia 5 eX (aa (bg (aa (af 7) (aa (ai fL (aa (af 1) (aa (ai bI (aa (af 6) (aa (af 3) ag))) ag))) ag))) ag)))
  (ub 4 rl (af 6))))
def sO:PSt:=
 (ak (ax false 3 (pFn b0 (aa (af 2) ag)))
  (ak (ax false 4 (ah 0))
  (ak (ax true 5 (cX ag))
  (ak (gN (bj (af 2)) (gtN 6) (gW))
  (ay (af 5))))))
def fM:PFn:=fnP [false,false,false] 8 sO
def Au:fM.ms=[false,false,false]:=rfl
def wD(T:TT K mg):Callee P w K mg base "shares" 4 ["start", "length", "weights"] (sp3 K mg fM):=okP (T.d.get 31 rfl) (aw (N:=["start", "length", "weights", "whole", "ahead", "found", "weight", "begin"]) (by decide)) (λ_ _ _ _ _ _=>ar3 λ_ _ _=>rfl) λnd _ _ _ _ _ _ _ hr=>'d'
def sH:PSt:=
 (ak (aM (ai aK (aa (af 0) ag)))
  (ak (aM (ai eR (aa (af 1) ag)))
  (ak (aM (ai aE (aa (af 2) ag)))
  (ak (j3 (af 0) (gtX (gtT 4 (bQ (gtN 3) (bQ (gtN 4) (bQ (gtN 5) (bQ (gtN 6) fH)))))))
  (ak (xIf (qOf (pOp bEq (af 1) (bS "across"))) (ay (pLC (bj (ai fM (aa (af 3) (aa (af 5) (aa (af 2) ag))))) [none,none,some 4,some 6] (by decide) (gtT 2 (bQ (gtN 0) (bQ (gtN 1) fH))) qY (bg (aa (af 0) (aa (af 2) (aa (af 1) (aa (af 3) ag))))))) xNx)
  (ay (pLC (bj (ai fM (aa (af 4) (aa (af 6) (aa (af 2) ag))))) [none,none,some 3,some 5] (by decide) (gtT 2 (bQ (gtN 0) (bQ (gtN 1) fH))) qY (bg (aa (af 2) (aa (af 0) (aa (af 3) (aa (af 1) ag))))))))))))
def d6:PFn:=fnP [false,false,false] 7 sH
def yB:d6.ms=[false,false,false]:=rfl
def m7(T:TT K mg):Callee P w K mg base "parted" 5 ["box", "way", "weights"] (sp3 K mg d6):=okP (T.d.get 32 rfl) (aw (N:=["box", "way", "weights", "left", "top", "wide", "high"]) (by decide)) (λ_ _ _ _ _ _=>ar3 λ_ _ _=>rfl) λnd _ _ _ _ _ _ _ hr=>(au 'd' (au 'd' (au 'd' (au 'd' (au (qG 'd' (c9 (dW (gn ["box", "way", "weights", "left", "top", "wide", "high"] (aq (top 32)).names ["begin", "length", "top", "high"] [none,none,some 4,some 6] 'd' (λnd _ _ _ _ _=>'d') (λ_ _ _ _ _ _=>bH) (λnd _ _ _ _ _=>'d')))) 'd') (c9 (dW (gn ["box", "way", "weights", "left", "top", "wide", "high"] (aq (top 32)).names ["begin", "length", "left", "wide"] [none,none,some 3,some 5] 'd' (λnd _ _ _ _ _=>'d') (λ_ _ _ _ _ _=>bH) (λnd _ _ _ _ _=>'d')))))))))
def cx:PSt:=
 (ak (ax false 3 (qF 2 qt))
  (xIf (qOf (pFn (bz cB) (aa (af 3) (aa (pTy "tuple") ag)))) (aM (ia 2 gY (aa (pOp bIx (af 3) (ah 1)) ag))) (aM (ia 1 eX (aa (af 3) ag)))))
def ku:PSt:=
 (ak (ax true 1 (cX ag))
  (ak (ax true 2 (cX (aa (af 0) ag)))
  (ak (xWh (qTr (af 2)) (cx))
  (ay (af 1)))))
def dJ:PFn:=fnP [false] 4 ku
def uv:dJ.ms=[false]:=rfl
def pM(T:TT K mg):Callee P w K mg base "things_in" 1 ["tree"] (sp3 K mg dJ):=okP (T.d.get 46 rfl) (aw (N:=["tree", "found", "waiting", "part"]) (by decide)) (λ_ _ _ _ _ _=>ar1 λ_=>rfl) λnd _ _ _ _ _ _ _ hr=>'d'
def lZ:PSt:=
 (ak (j3 (af 2) (gtX (gtT 2 (bQ (gtN 3) (bQ (gtN 4) fH)))))
  (ay (ai d6 (aa (af 0) (aa (af 3) (aa (pLC (bj (af 4)) [none,some 1] (by decide) (gtN 0) qY (pFn b0 (aa (pLC (bj (ai dJ (aa (af 0) ag))) [none,some 1] (by decide) (gtN 0) qY (pOp bIx (af 1) (af 0))) ag))) ag))))))
def fA:PFn:=fnP [false,false,false] 5 lZ
def uF:fA.ms=[false,false,false]:=rfl
def sk(T:TT K mg):Callee P w K mg base "parts_of" 6 ["room", "weights", "tree"] (sp3 K mg fA):=okP (T.d.get 49 rfl) (aw (N:=["room", "weights", "tree", "way", "trees"]) (by decide)) (λ_ _ _ _ _ _=>ar3 λ_ _ _=>rfl) λnd _ _ _ _ _ _ _ hr=>(au 'd' (c9 (dW (zcF (m7 T) hr (a9 'd' (a9 'd' (a9 (gn ["room", "weights", "tree", "way", "trees"] (aq (top 49)).names ["part", "weights"] [none,some 1] 'd' (λnd _ _ _ _ _=>'d') (λ_ _ _ _ _ _=>bH) (λnd _ _ _ _ _=>(i6 (pz (K:=K) rfl rfl) zH rfl (T.n rfl) (by first |exact boF rfl |exact boT rfl) (a9 (gn ["part", "weights"] [(PySem.Str.ofString ".0",PySem.NameKind.local),(PySem.Str.ofString "part",PySem.NameKind.local),(PySem.Str.ofString "sum",PySem.NameKind.globalImplicit),(PySem.Str.ofString "things_in",PySem.NameKind.globalImplicit),(PySem.Str.ofString "weights",PySem.NameKind.cell)] ["thing", "weights"] [none,some 1] 'd' (λnd _ _ _ _ _=>'d') (λ_ _ _ _ _ _=>bH) (λnd _ _ _ _ _=>'d')) 'd')))) 'd')))))))
def jb(s:PFx [false,false,false,true]):PSt:=
 (aM (ai s.fn (aa (af 5) (aa (af 1) (aa (af 4) (aa (af 3) ag))))))
def gx(s:PFx [false,false,false,true]):PSt:=
 (ak (xIf (qNo (qOf (pFn (bz cB) (aa (af 2) (aa (pTy "tuple") ag))))) (ak (tQ 3 seI (af 2) (af 0))
  xB) xNx)
  (gN (xg (aa (pOp bIx (af 2) (ah 1)) (aa (ai fA (aa (af 0) (aa (af 1) (aa (af 2) ag)))) ag))) (gtX (gtT 2 (bQ (gtN 4) (bQ (gtN 5) fH)))) (jb s)))
def dH:Nat->PFx [false,false,false,true]
 |0=>PFx.none [false,false,false,true]
 |n+1=>PFx.of [false,false,false,true] 6 (gx (dH n))
theorem mL(T:TT K mg):∀n,Callee P w K mg base "place" (8+n) ["room", "weights", "tree", "placed"] (sp3 K mg (dH n).fn)
 |0=>ok0 (T.d.get 48 rfl) (aw (N:=["room", "weights", "tree", "placed", "part", "box"]) (by decide)) (λ_ _ _ _ _ _=>ar4 λ_ _ _ _=>rfl)
 |
  n+1=>by
  have ih:=mL T n;show Callee _ _ _ _ _ _ _ _ (sp3 _ _ (PFx.of [false,false,false,true] 6 (gx (dH n))).fn);exact okX (k:=8+n) (T.d.get 48 rfl) (aw (N:=["room", "weights", "tree", "placed", "part", "box"]) (by decide)) (λ_ _ _ _ _ _=>ar4 λ_ _ _ _=>rfl) λnd _ _ _ _ _ _ _ hr=>'d'
def mr:PSt:=
 (ak (aM (ai aK (aa (af 0) ag)))
  (ak (aM (ai aE (aa (af 1) ag)))
  (ak (aM (ai dU (aa (af 2) (aa (pFn aY (aa (af 1) ag)) ag))))
  (ak (ax true 3 pD0)
  (ak (aM (ai (dH 42).fn (aa (af 0) (aa (af 1) (aa (af 2) (aa (af 3) ag))))))
  (ay (pLC (i8 (aa (pFn aY (aa (af 1) ag)) ag)) [none,some 3] (by decide) (gtN 0) qY (pOp xU (af 1) (af 0)))))))))
def cH:PFn:=fnP [false,false,false] 4 mr
def uA:cH.ms=[false,false,false]:=rfl
def rm(T:TT K mg):Callee P w K mg base "boxes_by" 51 ["room", "weights", "tree"] (sp3 K mg cH):=okP (T.d.get 47 rfl) (aw (N:=["room", "weights", "tree", "placed"]) (by decide)) (λ_ _ _ _ _ _=>ar3 λ_ _ _=>rfl) λnd _ _ _ _ _ _ _ hr=>(au 'd' (au 'd' (au 'd' (au 'd' (au 'd' (c9 (dW (gn ["room", "weights", "tree", "placed"] (aq (top 47)).names ["number", "placed"] [none,some 3] 'd' (λnd _ _ _ _ _=>'d') (λ_ _ _ _ _ _=>bH) (λnd _ _ _ _ _=>'d')))))))))
def jM:PSt:=
 (xIf (qOf (pOp Bl (af 0) kH)) (eT "NoRule" (aa (bS "this is no rule") ag)) xNx)
def cZ:PFn:=fnP [false] 1 jM
def pE:cZ.ms=[false]:=rfl
def oE(T:TT K mg):Callee P w K mg base "check_rule" 1 ["rule"] (sp3 K mg cZ):=okP (T.d.get 52 rfl) (aw (N:=["rule"]) (by decide)) (λ_ _ _ _ _ _=>ar1 λ_=>rfl) λnd _ _ _ _ _ _ _ hr=>'d'
def gu:PSt:=
 (ak (ax false 1 (pLC (wu (aa (ah 1) (aa (pFn aY (aa (af 0) ag)) ag))) [none,some 0] (by decide) (gtN 0) qY (pFn er (aa (pOp eM (pOp aV (ah 2) (pFn b0 (aa (pSl (af 1) oN (oS (af 0))) ag))) (pFn b0 (aa (af 1) ag))) ag))))
  (ay (pOp aX (p8 fi (af 1) (aa (pFn sY (aa (af 1) ag)) ag)) (ah 1))))
def bB:PFn:=fnP [false] 2 gu
def jS:bB.ms=[false]:=rfl
def fF(T:TT K mg):Callee P w K mg base "nearest_to_half" 1 ["weights"] (sp3 K mg bB):=okP (T.d.get 59 rfl) (aw (N:=["weights", "apart"]) (by decide)) (λ_ _ _ _ _ _=>ar1 λ_=>rfl) λnd _ _ _ _ _ _ _ hr=>(au (Cj nd ["weights", "apart"] (aq (top 59)).names ["many", "weights"] [none,some 0] 'd' (λnd _ _ _ _ _=>'d') (λ_ _ _ _ _ _=>bH) (λnd _ _ _ _ _=>'d')) 'd')
def cJ:PSt:=
 (ub 1 rl (ah 1))
def gq:PSt:=
 (ak (ax false 1 (ah 1))
  (ak (xWh (qOf (pOp bLt (pOp aV (ah 3) (pFn b0 (aa (pSl (af 0) oN (oS (af 1))) ag))) (pFn b0 (aa (af 0) ag)))) (cJ))
  (ay (af 1))))
def bC:PFn:=fnP [false] 2 gq
def jD:bC.ms=[false]:=rfl
def fG(T:TT K mg):Callee P w K mg base "fewest_to_third" 1 ["weights"] (sp3 K mg bC):=okP (T.d.get 60 rfl) (aw (N:=["weights", "many"]) (by decide)) (λ_ _ _ _ _ _=>ar1 λ_=>rfl) λnd _ _ _ _ _ _ _ hr=>'d'
def jO:PSt:=
 (ay (ai d6 (aa (af 0) (aa (ai bK (aa (af 0) ag)) (aa (cX (aa (pFn b0 (aa (pSl (af 1) oN (oS (af 2))) ag)) (aa (pFn b0 (aa (pSl (af 1) (oS (af 2)) oN) ag)) ag))) ag)))))
def cu:PFn:=fnP [false,false,false] 3 jO
def pG:cu.ms=[false,false,false]:=rfl
def nW(T:TT K mg):Callee P w K mg base "cut_in_two" 6 ["room", "weights", "many"] (sp3 K mg cu):=okP (T.d.get 33 rfl) (aw (N:=["room", "weights", "many"]) (by decide)) (λ_ _ _ _ _ _=>ar3 λ_ _ _=>rfl) λnd _ _ _ _ _ _ _ hr=>'d'
def bT(s:PFx [false,false,false,false]):PSt:=
 (ak (xIf (qOf (pOp bEq (pFn aY (aa (af 1) ag)) (ah 1))) (ay (pOp bIx (af 1) (ah 0))) xNx)
  (ak (ax false 4 (lP [("nearest_to_half",bB),("fewest_to_third",bC)] (af 3) (aa (af 2) ag)))
  (ak (j3 (ai cu (aa (af 0) (aa (af 2) (aa (af 4) ag)))) (gtX (gtU 2 (bQ (gtN 5) (bQ (gtN 6) fH)))))
  (ak (ax false 7 (ai s.fn (aa (af 5) (aa (pSl (af 1) oN (oS (af 4))) (aa (pSl (af 2) oN (oS (af 4))) (aa (af 3) ag))))))
  (ak (ax false 8 (ai s.fn (aa (af 6) (aa (pSl (af 1) (oS (af 4)) oN) (aa (pSl (af 2) (oS (af 4)) oN) (aa (af 3) ag))))))
  (ay (bg (aa (ai bK (aa (af 0) ag)) (aa (bg (aa (af 7) (aa (af 8) ag))) ag)))))))))
def aT:Nat->PFx [false,false,false,false]
 |0=>PFx.none [false,false,false,false]
 |n+1=>PFx.of [false,false,false,false] 9 (bT (aT n))
theorem eZ(T:TT K mg):∀n,Callee P w K mg base "tree_in_two" (8+n) ["room", "numbers", "weights", "how_many"] (sp3 K mg (aT n).fn)
 |0=>ok0 (T.d.get 58 rfl) (aw (N:=["room", "numbers", "weights", "how_many", "many", "first", "second", "ahead", "behind"]) (by decide)) (λ_ _ _ _ _ _=>ar4 λ_ _ _ _=>rfl)
 |
  n+1=>by
  have ih:=eZ T n;show Callee _ _ _ _ _ _ _ _ (sp3 _ _ (PFx.of [false,false,false,false] 9 (bT (aT n))).fn);exact okX (k:=8+n) (T.d.get 58 rfl) (aw (N:=["room", "numbers", "weights", "how_many", "many", "first", "second", "ahead", "behind"]) (by decide)) (λ_ _ _ _ _ _=>ar4 λ_ _ _ _=>rfl) λnd _ _ _ _ _ _ _ hr=>(au 'd' (au (zsS 4 nd (Bu (uY (fF T) (hr.mono (by omega)) (uY (fG T) (hr.mono (by omega)) Iq)) 'd' (DM Ej) 'd')) 'd'))
def jw:PSt:=
 (ak (aM (ai aK (aa (af 0) ag)))
  (ak (aM (ai aE (aa (af 1) ag)))
  (ay (ai (aT 42).fn (aa (af 0) (aa (pFn iY (aa (pFn aY (aa (af 1) ag)) ag)) (aa (af 1) (aa (xC "nearest_to_half") ag))))))))
def bY:PFn:=fnP [false,false] 2 jw
def nB:bY.ms=[false,false]:=rfl
def mj(T:TT K mg):Callee P w K mg base "halves_tree" 51 ["room", "weights"] (sp3 K mg bY):=okP (T.d.get 56 rfl) (aw (N:=["room", "weights"]) (by decide)) (λ_ _ _ _ _ _=>ar2 λ_ _=>rfl) λnd _ _ _ _ _ _ _ hr=>'d'
def kq:PSt:=
 (ak (xIf (qOf (pOp bEq (af 0) (bS "across"))) (ay (bS "down")) xNx)
  (ay (bS "across")))
def dC:PFn:=fnP [false] 1 kq
def sZ:dC.ms=[false]:=rfl
def pF(T:TT K mg):Callee P w K mg base "other_way" 1 ["way"] (sp3 K mg dC):=okP (T.d.get 26 rfl) (aw (N:=["way"]) (by decide)) (λ_ _ _ _ _ _=>ar1 λ_=>rfl) λnd _ _ _ _ _ _ _ hr=>'d'
def iB:PSt:=
 (ak (ax false 3 (af 0))
  (ak (xIf (qOf (pOp bLt (af 2) (pFn aY (aa (af 1) ag)))) (ax false 3 (pOp bIx (ai cu (aa (af 0) (aa (af 1) (aa (af 2) ag)))) (ah 0))) xNx)
  (ak (ax false 4 (ai d6 (aa (af 3) (aa (ai dC (aa (ai bK (aa (af 0) ag)) ag)) (aa (pSl (af 1) oN (oS (af 2))) ag)))))
  (ay (ai bZ (aa (pLC (bj (af 4)) [none] (by decide) (gtN 0) qY (ai eI (aa (af 0) ag))) ag))))))
def cp:PFn:=fnP [false,false,false] 5 iB
def mF:cp.ms=[false,false,false]:=rfl
def kG(T:TT K mg):Callee P w K mg base "worst_of_row" 7 ["room", "weights", "many"] (sp3 K mg cp):=okP (T.d.get 41 rfl) (aw (N:=["room", "weights", "many", "part", "boxes"]) (by decide)) (λ_ _ _ _ _ _=>ar3 λ_ _ _=>rfl) λnd _ _ _ _ _ _ _ hr=>(au 'd' (au 'd' (au 'd' (c9 (dW (zcF (fq T) hr (a9 (gn ["room", "weights", "many", "part", "boxes"] (aq (top 41)).names ["box"] [none] 'd' (λnd _ _ _ _ _=>'d') (λ_ _ _ _ _ _=>bH) (λnd _ _ _ _ _=>'d')) 'd')))))))
def dm:PSt:=
 (ak (ax false 4 (ai cp (aa (af 0) (aa (af 1) (aa (pOp aX (af 2) (ah 1)) ag)))))
  (ak (xIf (qOf (ai dX (aa (af 3) (aa (af 4) ag)))) xBk xNx)
  (ak (ax false 3 (af 4))
  (ub 2 rl (ah 1)))))
def jP:PSt:=
 (ak (ax false 2 (ah 1))
  (ak (ax false 3 (ai cp (aa (af 0) (aa (af 1) (aa (af 2) ag)))))
  (ak (xWh (qOf (pOp bLt (af 2) (pFn aY (aa (af 1) ag)))) (dm))
  (ay (af 2)))))
def dZ:PFn:=fnP [false,false] 5 jP
def pY:dZ.ms=[false,false]:=rfl
def oF(T:TT K mg):Callee P w K mg base "row_length" 8 ["room", "weights"] (sp3 K mg dZ):=okP (T.d.get 40 rfl) (aw (N:=["room", "weights", "many", "before", "behind"]) (by decide)) (λ_ _ _ _ _ _=>ar2 λ_ _=>rfl) λnd _ _ _ _ _ _ _ hr=>'d'
def ju:PSt:=
 (ak (xIf (qOf (pOp bEq (pFn aY (aa (af 1) ag)) (ah 1))) (ay (pOp bIx (af 1) (ah 0))) xNx)
  (ay (bg (aa (ai dC (aa (ai bK (aa (af 0) ag)) ag)) (aa (pFn jX (aa (af 1) ag)) ag)))))
def dk:PFn:=fnP [false,false] 2 ju
def nS:dk.ms=[false,false]:=rfl
def mY(T:TT K mg):Callee P w K mg base "tree_of_row" 6 ["room", "numbers"] (sp3 K mg dk):=okP (T.d.get 39 rfl) (aw (N:=["room", "numbers"]) (by decide)) (λ_ _ _ _ _ _=>ar2 λ_ _=>rfl) λnd _ _ _ _ _ _ _ hr=>'d'
def cq(s:PFx [false,false,false]):PSt:=
 (ak (ax false 3 (ai dZ (aa (af 0) (aa (af 2) ag))))
  (ak (ax false 4 (ai dk (aa (af 0) (aa (pSl (af 1) oN (oS (af 3))) ag))))
  (ak (xIf (qOf (pOp bEq (af 3) (pFn aY (aa (af 1) ag)))) (ay (af 4)) xNx)
  (ak (ax false 5 (pOp bIx (ai cu (aa (af 0) (aa (af 2) (aa (af 3) ag)))) (ah 1)))
  (ay (bg (aa (ai bK (aa (af 0) ag)) (aa (bg (aa (af 4) (aa (ai s.fn (aa (af 5) (aa (pSl (af 1) (oS (af 3)) oN) (aa (pSl (af 2) (oS (af 3)) oN) ag)))) ag))) ag))))))))
def aU:Nat->PFx [false,false,false]
 |0=>PFx.none [false,false,false]
 |n+1=>PFx.of [false,false,false] 6 (cq (aU n))
theorem eK(T:TT K mg):∀n,Callee P w K mg base "tree_of_rows" (10+n) ["room", "numbers", "weights"] (sp3 K mg (aU n).fn)
 |0=>ok0 (T.d.get 38 rfl) (aw (N:=["room", "numbers", "weights", "many", "tree", "rest"]) (by decide)) (λ_ _ _ _ _ _=>ar3 λ_ _ _=>rfl)
 |
  n+1=>by
  have ih:=eK T n;show Callee _ _ _ _ _ _ _ _ (sp3 _ _ (PFx.of [false,false,false] 6 (cq (aU n))).fn);exact okX (k:=10+n) (T.d.get 38 rfl) (aw (N:=["room", "numbers", "weights", "many", "tree", "rest"]) (by decide)) (λ_ _ _ _ _ _=>ar3 λ_ _ _=>rfl) λnd _ _ _ _ _ _ _ hr=>'d'
def kx:PSt:=
 (ak (aM (ai aK (aa (af 0) ag)))
  (ak (aM (ai aE (aa (af 1) ag)))
  (ay (ai (aU 42).fn (aa (af 0) (aa (pFn iY (aa (pFn aY (aa (af 1) ag)) ag)) (aa (af 1) ag)))))))
def cR:PFn:=fnP [false,false] 2 kx
def tX:cR.ms=[false,false]:=rfl
def pI(T:TT K mg):Callee P w K mg base "rows_tree" 53 ["room", "weights"] (sp3 K mg cR):=okP (T.d.get 35 rfl) (aw (N:=["room", "weights"]) (by decide)) (λ_ _ _ _ _ _=>ar2 λ_ _=>rfl) λnd _ _ _ _ _ _ _ hr=>'d'
def da:PSt:=
 (ay (pFn rf (aa (pFn aY (aa (af 0) ag)) (aa (af 0) ag))))
def aH:PFn:=fnP [false] 1 da
def iK:aH.ms=[false]:=rfl
def ir(T:TT K mg):Callee P w K mg base "by_falling_weights" 1 ["weights"] (sp3 K mg aH):=okPL (T.d.get 37 rfl) T.l (aw (N:=["weights"]) (by decide)) (λ_ _ _ _ _ _=>ar1 λ_=>rfl) λnd _ _ _ _ _ _ _ _ e2 e3 hr=>(c9 (dW (FG rfl hr.depth rfl (T.n rfl) rfl (T.n rfl) rfl rfl rfl e2 e3 'd')))
def gZ:PSt:=
 (ak (aM (ai aK (aa (af 0) ag)))
  (ak (aM (ai aE (aa (af 1) ag)))
  (ak (ax false 2 (ai aH (aa (af 1) ag)))
  (ay (ai (aU 42).fn (aa (af 0) (aa (af 2) (aa (pLC (bj (af 2)) [none,some 1] (by decide) (gtN 0) qY (pOp bIx (af 1) (af 0))) ag))))))))
def br:PFn:=fnP [false,false] 3 gZ
def kF:br.ms=[false,false]:=rfl
def kj(T:TT K mg):Callee P w K mg base "greatest_tree" 53 ["room", "weights"] (sp3 K mg br):=okP (T.d.get 36 rfl) (aw (N:=["room", "weights", "numbers"]) (by decide)) (λ_ _ _ _ _ _=>ar2 λ_ _=>rfl) λnd _ _ _ _ _ _ _ hr=>(au 'd' (au 'd' (au 'd' (c9 (dW (zcF (eK T 42) hr (a9 'd' (a9 'd' (a9 (gn ["room", "weights", "numbers"] (aq (top 36)).names ["number", "weights"] [none,some 1] 'd' (λnd _ _ _ _ _=>'d') (λ_ _ _ _ _ _=>bH) (λnd _ _ _ _ _=>'d')) 'd')))))))))
def jz:PSt:=
 (ak (aM (ai aK (aa (af 0) ag)))
  (ak (aM (ai aE (aa (af 1) ag)))
  (ak (ax false 2 (ai aH (aa (af 1) ag)))
  (ay (ai (aT 42).fn (aa (af 0) (aa (af 2) (aa (pLC (bj (af 2)) [none,some 1] (by decide) (gtN 0) qY (pOp bIx (af 1) (af 0))) (aa (xC "fewest_to_third") ag)))))))))
def bX:PFn:=fnP [false,false] 3 jz
def m9:bX.ms=[false,false]:=rfl
def lO(T:TT K mg):Callee P w K mg base "thirds_tree" 51 ["room", "weights"] (sp3 K mg bX):=okP (T.d.get 57 rfl) (aw (N:=["room", "weights", "numbers"]) (by decide)) (λ_ _ _ _ _ _=>ar2 λ_ _=>rfl) λnd _ _ _ _ _ _ _ hr=>(au 'd' (au 'd' (au 'd' (c9 (dW (zcF (eZ T 42) hr (a9 'd' (a9 'd' (a9 (gn ["room", "weights", "numbers"] (aq (top 57)).names ["number", "weights"] [none,some 1] 'd' (λnd _ _ _ _ _=>'d') (λ_ _ _ _ _ _=>bH) (λnd _ _ _ _ _=>'d')) 'd')))))))))
def iD:PSt:=
 (ak (aM (ai aK (aa (af 1) ag)))
  (ak (aM (ai aE (aa (af 2) ag)))
  (ak (xIf (qOf (pOp bEq (pFn aY (aa (af 2) ag)) (ah 1))) (ay (ah 0)) xNx)
  (ay (bg (aa (af 0) (aa (pFn lV (aa (pFn aY (aa (af 2) ag)) ag)) ag)))))))
def c8:PFn:=fnP [false,false,false] 3 iD
def mX:c8.ms=[false,false,false]:=rfl
def kZ(T:TT K mg):Callee P w K mg base "side_by_side" 5 ["way", "room", "weights"] (sp3 K mg c8):=okP (T.d.get 55 rfl) (aw (N:=["way", "room", "weights"]) (by decide)) (λ_ _ _ _ _ _=>ar3 λ_ _ _=>rfl) λnd _ _ _ _ _ _ _ hr=>'d'
def dE:PSt:=
 (ak (aM (ai cZ (aa (af 0) ag)))
  (ak (xIf (qOf (pOp bEq (af 0) (bS "halves"))) (ay (ai bY (aa (af 1) (aa (af 2) ag)))) xNx)
  (ak (xIf (qOf (pOp bEq (af 0) (bS "rows"))) (ay (ai cR (aa (af 1) (aa (af 2) ag)))) xNx)
  (ak (xIf (qOf (pOp bEq (af 0) (bS "greatest"))) (ay (ai br (aa (af 1) (aa (af 2) ag)))) xNx)
  (ak (xIf (qOf (pOp bEq (af 0) (bS "thirds"))) (ay (ai bX (aa (af 1) (aa (af 2) ag)))) xNx)
  (ay (ai c8 (aa (af 0) (aa (af 1) (aa (af 2) ag))))))))))
def aJ:PFn:=fnP [false,false,false] 3 dE
def rb:aJ.ms=[false,false,false]:=rfl
def pA(T:TT K mg):Callee P w K mg base "rule_tree" 54 ["rule", "room", "weights"] (sp3 K mg aJ):=okP (T.d.get 53 rfl) (aw (N:=["rule", "room", "weights"]) (by decide)) (λ_ _ _ _ _ _=>ar3 λ_ _ _=>rfl) λnd _ _ _ _ _ _ _ hr=>'d'
def oJ:PSt:=
 (ay (ai cH (aa (af 1) (aa (af 2) (aa (ai aJ (aa (af 0) (aa (af 1) (aa (af 2) ag)))) ag)))))
def cK:PFn:=fnP [false,false,false] 3 oJ
def wK:cK.ms=[false,false,false]:=rfl
def uI(T:TT K mg):Callee P w K mg base "by_rule" 55 ["rule", "room", "weights"] (sp3 K mg cK):=okP (T.d.get 54 rfl) (aw (N:=["rule", "room", "weights"]) (by decide)) (λ_ _ _ _ _ _=>ar3 λ_ _ _=>rfl) λnd _ _ _ _ _ _ _ hr=>'d'
def eG(s:PFx [true,false]):PSt:=
 (ak (xIf (qOf (pOp bEq (pFn aY (aa (af 1) ag)) (ah 1))) (ay (pOp bIx (af 1) (ah 0))) xNx)
  (ak (ax false 2 (pOp aX (ah 2) (ai ao (aa (af 0) (aa (pFn mT (aa (ah 3) (aa (pOp eM (pFn aY (aa (af 1) ag)) (ah 1)) ag))) ag)))))
  (ak (qE (bj (pSl (af 1) oN (oS (af 2)))) (bj (pSl (af 1) (oS (af 2)) oN)) 3 4 (ai ao (aa (af 0) (aa (af 2) ag))) (by decide))
  (ay (bg (aa (pOp bIx (cX (aa (bS "across") (aa (bS "down") ag))) (ai ao (aa (af 0) (aa (ah 2) ag)))) (aa (pFn jX (aa (pLC (bj (af 3)) [none,some 0] (by decide) (gtN 0) qY (ai s.fn (aa (af 1) (aa (af 0) ag)))) ag)) ag)))))))
def bN:Nat->PFx [true,false]
 |0=>PFx.none [true,false]
 |n+1=>PFx.of [true,false] 5 (eG (bN n))
theorem jx(T:TT K mg):∀n,Callee P w K mg base "_law_tree" (3+n) ["_law_feed_here", "_law_numbers"] (sp3 K mg (bN n).fn)
 |0=>ok0 (T.d.get 73 rfl) (aw (N:=["_law_feed_here", "_law_numbers", "_law_many", "_law_some", "_law_number"]) (by decide)) (λ_ _ _ _ _ _=>ar2 λ_ _=>rfl)
 |
  n+1=>by
  have ih:=jx T n;show Callee _ _ _ _ _ _ _ _ (sp3 _ _ (PFx.of [true,false] 5 (eG (bN n))).fn);exact okX (k:=3+n) (T.d.get 73 rfl) (aw (N:=["_law_feed_here", "_law_numbers", "_law_many", "_law_some", "_law_number"]) (by decide)) (λ_ _ _ _ _ _=>ar2 λ_ _=>rfl) λnd _ _ _ _ _ _ _ hr=>(au 'd' (au 'd' (BO nd ["_law_feed_here", "_law_numbers", "_law_many", "_law_some", "_law_number"] (aq (top 73)).names ["_law_number"] 'd' own1 rfl 'd' 'd' (c9 (dW (yG (a9 'd' (a9 (oQ (uU (K:=K) rfl) rD rfl (T.n rfl) (by first |exact boF rfl |exact boT rfl) (a9 (gn ["_law_feed_here", "_law_numbers", "_law_many", "_law_some", "_law_number"] (aq (top 73)).names ["_law_part", "_law_feed_here"] [none,some 0] 'd' (λnd _ _ _ _ _=>'d') (λ_ _ _ _ _ _=>bH) (λnd _ _ _ _ _=>'d')) 'd')) 'd'))))))))
def d8:PSt:=
 (ax false 2 (bg (aa (pOp bIx (cX (aa (bS "across") (aa (bS "down") ag))) (ai ao (aa (af 0) (aa (ah 2) ag)))) (aa (pOp bIx (cX (aa (bg (aa (af 3) (aa (af 2) ag))) (aa (bg (aa (af 2) (aa (af 3) ag))) ag))) (ai ao (aa (af 0) (aa (ah 2) ag)))) ag))))
def ky:PSt:=
 (ak (ax false 2 (pOp bIx (af 1) (ah 0)))
  (ak (gN (bj (pSl (af 1) (oS (ah 1)) oN)) (gtN 3) (d8))
  (ay (af 2))))
def eO:PFn:=fnP [true,false] 4 ky
def tW:eO.ms=[true,false]:=rfl
def pW(T:TT K mg):Callee P w K mg base "_law_chain" 2 ["_law_feed_here", "_law_numbers"] (sp3 K mg eO):=okP (T.d.get 74 rfl) (aw (N:=["_law_feed_here", "_law_numbers", "_law_found", "_law_number"]) (by decide)) (λ_ _ _ _ _ _=>ar2 λ_ _=>rfl) λnd _ _ _ _ _ _ _ hr=>'d'
def v9:PSt:=
 (ak (ax false 1 (pLC (bj (af 0)) [none] (by decide) (gtN 0) qY (ai eI (aa (af 0) ag))))
  (ak (ax false 2 (ai bZ (aa (af 1) ag)))
  (ay (bg (aa (af 2) (aa (p8 fi (af 1) (aa (af 2) ag)) ag))))))
def fU:PFn:=fnP [false] 3 v9
def BK:fU.ms=[false]:=rfl
def As(T:TT K mg):Callee P w K mg base "worst" 7 ["boxes"] (sp3 K mg fU):=okP (T.d.get 62 rfl) (aw (N:=["boxes", "shapes", "greatest"]) (by decide)) (λ_ _ _ _ _ _=>ar1 λ_=>rfl) λnd _ _ _ _ _ _ _ hr=>(au (Cj nd ["boxes", "shapes", "greatest"] (aq (top 62)).names ["box"] [none] 'd' (λnd _ _ _ _ _=>'d') (λ_ _ _ _ _ _=>bH) (λnd _ _ _ _ _=>'d')) 'd')
def kz:PSt:=
 (ak (ax false 1 (ai bP (aa (pOp aV (pOp bIx (pOp bIx (af 0) (ah 2)) (ah 0)) (pOp bIx (pOp bIx (af 0) (ah 3)) (ah 1))) (aa (pOp aV (pOp bIx (pOp bIx (af 0) (ah 2)) (ah 1)) (pOp bIx (pOp bIx (af 0) (ah 3)) (ah 0))) ag))))
  (ak (xIf (qOf (pOp bLt (pOp bIx (af 1) (ah 0)) (pOp bIx (af 1) (ah 1)))) (ax false 1 (bg (aa (pOp bIx (af 1) (ah 1)) (aa (pOp bIx (af 1) (ah 0)) ag)))) xNx)
  (ay (af 1))))
def eQ:PFn:=fnP [false] 2 kz
def qR:eQ.ms=[false]:=rfl
def pD(T:TT K mg):Callee P w K mg base "_law_shape" 2 ["_law_box"] (sp3 K mg eQ):=okP (T.d.get 76 rfl) (aw (N:=["_law_box", "_law_found"]) (by decide)) (λ_ _ _ _ _ _=>ar1 λ_=>rfl) λnd _ _ _ _ _ _ _ hr=>'d'
def mI:PSt:=
 (aM (ia 6 eX (aa (ai cH (aa (af 2) (aa (af 3) (aa (ai (bN 42).fn (aa (af 1) (aa (af 5) ag))) ag)))) ag)))
def mC:PSt:=
 (ak (ax false 9 (pOp bIx (ai fU (aa (af 8) ag)) (ah 0)))
  (xIf (qOf (pOp bLt (pOp aV (pOp bIx (af 9) (ah 0)) (pOp bIx (af 4) (ah 1))) (pOp aV (pOp bIx (af 4) (ah 0)) (pOp bIx (af 9) (ah 1))))) (ay (pBl false)) xNx))
def xK:PSt:=
 (ak (ax true 1 (ai de (aa (af 0) (aa (ah 55) ag))))
  (ak (ax false 2 (ai fC (aa (af 1) ag)))
  (ak (ax false 3 (ai dq (aa (af 0) (aa (ah 0) (aa (pOp bIx (cX (aa (ah 9) (aa (ah 40) ag))) (pFn qw (aa (pOp bEq (ai ao (aa (af 1) (aa (ah 6) ag))) (ah 0)) ag))) ag)))))
  (ak (ax false 4 (ai fu (aa (af 2) (aa (af 3) ag))))
  (ak (ax false 5 (ai eP (aa (af 1) (aa (pFn aY (aa (af 3) ag)) ag))))
  (ak (ax true 6 (pLC (bj kH) [none,some 2,some 3] (by decide) (gtN 0) qY (ai cK (aa (af 0) (aa (af 1) (aa (af 2) ag))))))
  (ak (gN (i8 (aa (ah 3) ag)) (gtN 7) (mI))
  (ak (aM (ia 6 eX (aa (ai cH (aa (af 2) (aa (af 3) (aa (ai eO (aa (af 1) (aa (af 5) ag))) ag)))) ag)))
  (ak (gN (bj (af 6)) (gtN 8) (mC))
  (ay (pOr (pOp bGt (pFn aY (aa (af 3) ag)) (ah 1)) (pOp bEq (ai fU (aa (pOp bIx (af 6) (ah 0)) ag)) (bg (aa (ai eQ (aa (af 2) ag)) (aa (ah 0) ag)))))))))))))))
def qN:PFn:=fnP [false] 10 xK
def Fn(T:TT K mg):Callee P w K mg base "law" 56 ["_law_script"] (sp3 K mg qN):=okP (T.d.get 78 rfl) (aw (N:=["_law_script", "_law_feed_here", "_law_room_here", "_law_weights_here", "_law_floor", "_law_order_here", "_law_lists", "_law_again", "_law_boxes", "_law_found"]) (by decide)) (λ_ _ _ _ _ _=>ar1 λ_=>rfl) λnd _ _ _ _ _ _ _ hr=>(au 'd' (au 'd' (au 'd' (au 'd' (au 'd' (au (Cj nd ["_law_script", "_law_feed_here", "_law_room_here", "_law_weights_here", "_law_floor", "_law_order_here", "_law_lists", "_law_again", "_law_boxes", "_law_found"] (aq (top 78)).names ["_law_rule", "_law_room_here", "_law_weights_here"] [none,some 2,some 3] 'd' (λnd _ _ _ _ _=>'d') (λ_ _ _ _ _ _=>bH) (λnd _ _ _ _ _=>'d')) 'd'))))))
end
noncomputable def fdV (a b k:Int):Val:=.lst [.int a,.int b,.int k]
def D9:gp.G (.int 10) (.int 18)=.val (.int (10^18)):=qK ⟨by decide,by decide,by decide⟩
def dY{a m:Int}(h:0<m):0<=a.fmod m/\a.fmod m<m:=⟨Int.fmod_nonneg_of_pos a h,Int.fmod_lt_of_pos a h⟩
set_option hygiene false in
local macro_rules | `(tactic|simp![$args,*])=>do
 let l <- ("% iU Kh KZ K9 Ka JG qM J4 Ku Lx Dc AK wA G9 Gx Hu JK HK JO HC Im Eo C8 HB GB yD Ep GR Kz K1 v_bl Lh v_ty KY v_un v_op Kv Gv v_fn LW L7 L8 y_or Ks c_of c_tr c_an c_o c_no x_nx x_bk HL Mh F5 FE E5 Gs Ef x_if Lp Ll LK Ez C0 AX g_n g_sn g_sc g_t g_x JS Kc LQ LU FD KC Lu J6 Mc LX Gn Jj Ly HZ Ct Ib LG Lw IV Jz JQ Jr JP L9 Kr Lj iM v_lc JL JB Jk o_n o_s v_sl v_d0 K3 fx_G J1 LJ k_lt k_gt k_ge Kw Mj k_ix JH IT KJ k_eq k_ne Eb Kb Kl Lo LH Mm LC EH Jd kM bO List.getElem?_cons_zero List.getElem?_cons_succ List.set_cons_zero List.set_cons_succ List.length_cons List.length_nil Option.bind_some Option.map_some Option.isSome_some if_true if_false Bool.not_true Bool.not_false Bool.and_true Bool.true_and Bool.and_false Bool.false_and Bool.or_true Bool.true_or Bool.or_false Bool.false_or Nat.reduceLeDiff Nat.reduceLT Nat.reduceAdd Nat.reduceSub Nat.zero_add Nat.add_zero Nat.sub_self List.cons_append List.nil_append List.append_nil List.replicate reduceCtorEq decide_true decide_false Bool.false_eq_true List.all_cons List.all_nil List.isEmpty_nil List.map_cons List.map_nil Int.reduceBEq Int.reduceLT Int.reduceAdd Int.reduceSub Int.reduceMul Int.cast_ofNat_Int Hv E7 IA Gb EJ BJ Ir Ap El G8 E2 AF FC IG A0 ID FT Ij Ba GO Io FA JW KG Ko K8 x6 yo zk xu uN zg BZ za AB zq ati0 ati1 ati2 ati3 ixn0 ixn1 Kj bU IE Fy Fh List.lookup_cons List.lookup_nil HU g_uL uz uD wG uk uO nU uK ki nA ya sP tL kI xq nT uR CS uC EO B7 uT uE rO yC sE xD pO tY CV Au yB uv uF uA pE jS jD pG nB sZ mF pY nS tX iK kF m9 mX rb wK tW BK qR lX AS Fp".splitOn " ").tail.mapM λs=>`(Lean.Parser.Tactic.simpLemma| $(Lean.mkIdent s.toName):term)
 `(tactic|simp only[$(l.toArray),*,$args,*])
def aD{a b k m:Int}(h0:0<m)(hm:Sm 8000 m):∃r a' b',ao.G [fdV a b k,.int m]=.ok (.val (.int r)) [fdV a' b' k]/\0<=r/\r<m:=by
 unfold ao;rw[aB];unfold mK fdV;have m0:m≠0:=by omega
 have d1:=λi=>fD (i:=i) m0;have d2:=λi=>j6 (i:=i) (CDivB.of m0 hm);have ca:∀x:Int,CMulA 7919 x:=λx=>CMulA.left (by decide) (by decide);have cb:∀x:Int,CMulA 104729 x:=λx=>CMulA.left (by decide) (by decide);have cc:∀x:Int,CMulA x 48271:=λx=>CMulA.right (by decide) (by decide);have e1:cz.G (.int a) (.int 1000003)=.val (.int (a.fmod 1000003)):=fD (by decide);have e2:aV.G (.int 7919) (.int k)=.val (.int (7919*k)):=bE (ca k);have e3:=λx=>bE (cb x);have e4:=λx=>bE (cc x);have e5:∀x:Int,cz.G (.int x) (.int 2147483647)=.val (.int (x.fmod 2147483647)):=λx=>fD (by decide);have e6:∀x:Int,cz.G (.int x) (.int 65521)=.val (.int (x.fmod 65521)):=λx=>fD (by decide);have e7:∀x y:Int,aV.G (.int (x.fmod 2147483647)) (.int y)=.val (.int (x.fmod 2147483647*y)):=λx y=>bE (CMulA.left (by have:=(dY (a:=x) (m:=2147483647) (by decide)).1;omega) (by have:=(dY (a:=x) (m:=2147483647) (by decide)).2;omega));have e8:∀x:Int,cz.G (.int x) (.int 2147483629)=.val (.int (x.fmod 2147483629)):=λx=>fD (by decide);by_cases hc:(10^18:Int)<=a
 .have hc':decide ((10^18:Int)<=a)=true:=I_ hc;refine⟨a.fmod m,a.fdiv m,b+1,?_,dY h0⟩;simp![D9,hc',d1,d2]
  done
 .have hc':decide ((10^18:Int)<=a)=false:=E_ hc;refine⟨Int.fmod (Int.fmod (Int.fmod ((Int.fmod a 1000003+7919*k+104729*(b+1))*48271) 2147483647*(Int.fmod (Int.fmod ((Int.fmod a 1000003+7919*k+104729*(b+1))*48271) 2147483647) 65521+(b+1))) 2147483629) m,a,b+1,?_,dY h0⟩;simp![D9,hc',d1,e1,e2,e3,e4,e5,e6,e7,e8]
def Cu{a b k:Int}{m:Nat}(hm:m<=1000):∃(o:List Nat) (a' b':Int),(∀i,i∈o ↔ i<m)/\o.length=m/\eP.G [fdV a b k,.int (m:Nat)]=.ok (.new (itV o)) [fdV a' b' k]:=by
 have rg:hU [.int (m:Nat)]=some (rgV m):=nj (i:=(m:Nat)) (by omega) (by omega);obtain⟨e',⟨a',b',o,s3,h1,h2,_,rfl⟩,lo⟩:=uq (g:=(gtN 3).G) (B:=gD.G) (λi e=>∃(a b:Int) (o:List Nat) (s3:Sl),o.length=i/\(∀j,j∈o ↔ j<i)/\s3.pl=true/\e=[.mu (fdV a b k),.sh (.int (m:Nat)),.ow (itV o),s3]) m (e:=[.mu (fdV a b k),.sh (.int (m:Nat)),.ow (itV []),.no]) ⟨a,b,[],.no,rfl,by simp,rfl,rfl⟩ (by
  rintro i hi _ ⟨a,b,o,s3,h1,h2,h3,rfl⟩;obtain⟨r,a1,b1,e1,r0,r1⟩:=aD (a:=a) (b:=b) (k:=k) (m:=(o.length:Nat)+1) (by omega) (sm8 (by omega));refine⟨[.mu (fdV a b k),.sh (.int (m:Nat)),.ow (itV o),.sh (.int (i:Nat))],[.mu (fdV a1 b1 k),.sh (.int (m:Nat)),.ow (itV (o.take r.toNat++i::o.drop r.toNat)),.sh (.int (i:Nat))],?_,.inl ?_,a1,b1,_,_,?_,?_,rfl,rfl⟩
  .simp![h3]
  .have ln:(o.map λk:Nat=>Val.int k).length=o.length:=p_ ..;have ins:(0<=r/\r<=(o.length:Nat)/\o.length<16777216):=⟨r0,by omega,by omega⟩;unfold gD itV;generalize hf:fdV a b k=f0 at *;generalize hf1:fdV a1 b1 k=f1 at *;simp![ln,e1,Bf,ins,true_and,and_true,and_self];simp [M_,Np]
  .simp only[Em,D_,MH,Nr];omega
  .intro j;rw[MQ,F_];have:j∈o ↔ j∈o.take r.toNat\/j∈o.drop r.toNat:=by rw[<- MQ,MU]
   rw[show (j<i+1 ↔ j<i\/j=i) from by omega,<- h2 j,this];constructor
   .rintro (h |h |h)
    .exact .inl (.inl h)
    .exact .inr h
    .exact .inl (.inr h)
   .rintro ((h |h) |h)
    .exact .inl h
    .exact .inr (.inr h)
    .exact .inr (.inl h))
 refine⟨o,a',b',h2,h1,?_⟩;unfold eP;rw[aB];unfold kE;unfold itV at lo ⊢;generalize fdV a b k=f0 at *;generalize fdV a' b' k=f1 at *;rw[Mx] at lo;simp![rg,lo]
def vp{a b k:Int}:∃(w:Bool) (r a' b':Int),ao.G [fdV a b k,.int 2]=.ok (.val (.int r)) [fdV a' b' k]/\atI [Val.str "across",Val.str "down"] r=some (Val.str (wy w)):=by
 obtain⟨r,a1,b1,e1,r0,r1⟩:=aD (a:=a) (b:=b) (k:=k) (m:=2) (by decide) (sm8 (by decide));obtain rfl |rfl:r=0\/r=1:=by omega
 .exact⟨true,0,a1,b1,e1,cC (by decide) rfl⟩
 .exact⟨false,1,a1,b1,e1,cC (by decide) rfl⟩
theorem lY{k:Int}(nv:Val):∀(cF:List Nat) (t:AT) (l:List Nat) (a b:Int) (s3:Sl),s3.pl=true->TOk t l->∃(t':AT) (a' b':Int) (s3':Sl),TOk t' (cF.reverse++l)/\dN (gtN 3).G d8.G (cF.map λi:Nat=>.int i) [.mu (fdV a b k),.sh nv,.sh (t.val λk=>.int (k:Nat)),s3]=.nx [.mu (fdV a' b' k),.sh nv,.sh (t'.val λk=>.int (k:Nat)),s3']
 | [],t,l,a,b,s3,_,h=>⟨t,a,b,s3,h,rfl⟩
 |
  x::cF,t,l,a,b,s3,h3,h=>by
  obtain⟨w,r,a1,b1,e1,w1⟩:=vp (a:=a) (b:=b) (k:=k);obtain⟨r2,a2,b2,e2,r0,r1⟩:=aD (a:=a1) (b:=b1) (k:=k) (m:=2) (by decide) (sm8 (by decide));have key:∃t1,TOk t1 (x::l)/\d8.G [.mu (fdV a b k),.sh nv,.sh (t.val λk=>.int (k:Nat)),.sh (.int (x:Nat))]=.nx [.mu (fdV a2 b2 k),.sh nv,.sh (t1.val λk=>.int (k:Nat)),.sh (.int (x:Nat))]:=by
   have hd:=h.dep;have hp:=AT.dep_pos t;obtain rfl |rfl:r2=0\/r2=1:=by omega
   .refine⟨.nd w [.lf x,t],⟨by simp [AT.ok,AT.okL,h.ok],λk=>by simp [AT.lvs,AT.lvsL,h.mem],by simp [AT.dep,AT.depL] <;> omega,by simp [AT.lvs,AT.lvsL,h.len] <;> omega⟩,?_⟩;unfold d8;rw[AT.val,AT.vals,AT.vals,AT.vals,AT.val];generalize AT.val (λk=>Val.int (k:Nat)) t=tv at *;generalize fdV a b k=f0 at *;generalize fdV a1 b1 k=f1 at *;generalize fdV a2 b2 k=f2 at *;simp![e1,w1,e2]
   .refine⟨.nd w [t,.lf x],⟨by simp [AT.ok,AT.okL,h.ok],λk=>by simp [AT.lvs,AT.lvsL,h.mem,or_comm],by simp [AT.dep,AT.depL] <;> omega,by simp [AT.lvs,AT.lvsL,h.len]⟩,?_⟩;unfold d8;rw[AT.val,AT.vals,AT.vals,AT.vals,AT.val];generalize AT.val (λk=>Val.int (k:Nat)) t=tv at *;generalize fdV a b k=f0 at *;generalize fdV a1 b1 k=f1 at *;generalize fdV a2 b2 k=f2 at *;simp![e1,w1,e2]
  obtain⟨t1,h1,bb⟩:=key;obtain⟨t',a',b',s3',h',q⟩:=lY (k:=k) nv cF t1 (x::l) a2 b2 (.sh (.int (x:Nat))) rfl h1;refine⟨t',a',b',s3',by rw[List.reverse_cons,OK];exact h',?_⟩;rw[x_,dS];have g1:(gtN 3).G (.int (x:Nat)) [.mu (fdV a b k),.sh nv,.sh (t.val λk=>.int (k:Nat)),s3]=some [.mu (fdV a b k),.sh nv,.sh (t.val λk=>.int (k:Nat)),.sh (.int (x:Nat))]:=by generalize AT.val (λk=>Val.int (k:Nat)) t=tv at *;simp![h3]
  rw[g1];dsimp only;rw[bb];exact q
def Cr{a b k:Int}{l:List Nat}(hl:l≠[]):∃(t:AT) (a' b':Int),TOk t l/\eO.G [fdV a b k,itV l]=.ok (.val (t.val λk=>.int (k:Nat))) [fdV a' b' k]:=by
 cases l with
 |nil=>exact absurd rfl hl
 |cons x cF=>obtain⟨t,a',b',s3,h,q⟩:=lY (k:=k) (itV (x::cF)) cF (.lf x) [x] a b .no rfl ⟨rfl,λk=>by simp [AT.lvs],t_ _,rfl⟩;refine⟨t,a',b',⟨h.ok,λk=>by rw[h.mem];simp [or_comm],by have:=h.dep;simpa using this,by have:=h.len;simpa using this⟩,?_⟩;unfold eO;rw[aB];unfold ky;rw[AT.val] at q;unfold itV at q ⊢;generalize AT.val (λk=>Val.int (k:Nat)) t=tv at *;generalize fdV a b k=f0 at *;generalize fdV a' b' k=f1 at *;rw[x_] at q ⊢;simp![dB,LB,m3,q]
theorem ve{k:Int}(nv:Val)(m:Nat)(hm:1<=m/\m<=1000):∀(vs:List Nat) (xss:List (List Nat)) (a b:Int) (s4:Sl),s4.pl=true->xss.length=m->(∀l∈xss,l≠[])->xss.flatten.length+vs.length<=1000->∃(yss:List (List Nat)) (a' b':Int) (s4':Sl),Lots yss xss vs/\eA 3 4 (ai ao (aa (af 0) (aa (af 2) ag))).G (vs.map λi:Nat=>.int i) (xss.map λl=>l.map λi:Nat=>.int i) [.mu (fdV a b k),.sh nv,.sh (.int (m:Nat)),.no,s4]=.nx [.mu (fdV a' b' k),.sh nv,.sh (.int (m:Nat)),.sh (.lst (Bz yss)),s4']
 |
  [],xss,a,b,s4,_,_,ne,_=>⟨xss,a,b,s4,⟨rfl,ne,λk=>by simp,rfl⟩,by
  unfold eA;show SR3.nx _=_;rw[MZ];rfl⟩
 |
  v::vs,xss,a,b,s4,h4,hl,ne,ht=>by
  rw[D_] at ht;obtain⟨r,a1,b1,e1,r0,r1⟩:=aD (a:=a) (b:=b) (k:=k) (m:=(m:Nat)) (by omega) (sm8 (by omega));have hi:r.toNat<xss.length:=by omega
  have hx:=v_ hi;generalize xss[r.toNat]=xs at hx;have L1:=CC (u:=v) hx ne;have hxl:xs.length<=1000:=by
   have:=List.Sublist.length_le (List.sublist_flatten_of_mem (Mw hx))
   omega
  obtain⟨yss,a',b',s4',L2,q⟩:=ve (k:=k) nv m hm vs (xss.set r.toNat (xs++[v])) a1 b1 (.sh (.int (v:Nat))) rfl (by rw[MJ];exact hl) L1.ne (by have:=L1.tot;simp only[D_,Mr] at this;omega);refine⟨yss,a',b',s4',⟨L2.len.trans L1.len,L2.ne,λk=>by rw[L2.mem,L1.mem];simp [or_assoc],by have t1:=L2.tot;have t2:=L1.tot;simp only[D_,Mr] at t2 ⊢;omega⟩,?_⟩;have g1:pN 4 (.int (v:Nat)) [.mu (fdV a b k),.sh nv,.sh (.int (m:Nat)),.no,s4]=some [.mu (fdV a b k),.sh nv,.sh (.int (m:Nat)),.no,.sh (.int (v:Nat))]:=by unfold pN;show (if s4.pl=true then _ else _)=_;rw[if_pos h4];rfl
  have q1:(ai ao (aa (af 0) (aa (af 2) ag))).G [.mu (fdV a b k),.sh nv,.sh (.int (m:Nat)),.no,.sh (.int (v:Nat))]=.ok (.val (.int r)) [.mu (fdV a1 b1 k),.sh nv,.sh (.int (m:Nat)),.no,.sh (.int (v:Nat))]:=by generalize fdV a b k=f0 at *;generalize fdV a1 b1 k=f1 at *;simp![e1]
  have hx':(xss.map λl=>l.map λi:Nat=>Val.int i)[r.toNat]?=some (xs.map λi:Nat=>Val.int i):=by rw[L_,hx];rfl
  have sx:(xss.map λl=>l.map λi:Nat=>Val.int i).set r.toNat ((xs.map λi:Nat=>Val.int i)++[.int (v:Nat)])=(xss.set r.toNat (xs++[v])).map λl=>l.map λi:Nat=>Val.int i:=by rw[List.map_set,MY];rfl
  rw[x_];unfold eA;rw[g1];dsimp only;rw[q1];dsimp only [rs];show (match (xss.map λl=>l.map λi:Nat=>Val.int i)[r.toNat]? with |some xs=>(if 0<=r/\xs.length<16777216 then eA 3 4 _ _ _ _ else .stuck) |none=>.stuck)=_;rw[hx'];dsimp only;rw[if_pos ⟨r0,by rw[p_];omega⟩,sx];exact q
theorem oK{k:Int}{m n:Nat}(ih:∀(l:List Nat) (a b:Int),l≠[]->l.length<=n->∃(t:AT) (a' b':Int),TOk t l/\(bN m).G [fdV a b k,itV l]=.ok (.val (atV t)) [fdV a' b' k]):
 ∀(ls:List (List Nat)) (acc:List Val) (a b:Int) (s:Sl),s.pl=true->(∀l∈ls,l≠[]/\l.length<=n)->acc.length+ls.length<=16777216->∃(ps:List (AT×List Nat)) (a' b':Int) (s':Sl),ps.map (·.2)=ls/\(∀p∈ps,TOk p.1 p.2)/\lcV (gtN 0).G qY.G (ai (bN m).fn (aa (af 1) (aa (af 0) ag))).G (ls.map itV) acc [s,.mu (fdV a b k)]=.ok (acc++ps.map λp=>atV p.1) [s',.mu (fdV a' b' k)]
 | [],acc,a,b,s,_,_,_=>⟨[],a,b,s,rfl,(λ_ h=>nomatch h),by simp [lcV]⟩
 |
  l::ls,acc,a,b,s,hs,hl,ha=>by
  rw[D_] at ha;obtain⟨h1,h2⟩:=hl l (s_ ..);obtain⟨t,a1,b1,ht,e1⟩:=ih l a b h1 h2;obtain⟨ps,a',b',s',q1,q2,q3⟩:=oK ih ls (acc++[atV t]) a1 b1 (.sh (itV l)) rfl (λl hl'=>hl l (q_ _ hl')) (by rw[Em];show acc.length+1+_<=_;omega);refine⟨(t,l)::ps,a',b',s',by rw[x_,q1],λp hp=>?_,?_⟩
  .rcases F_.mp hp with rfl |hp
   .exact ht
   .exact q2 p hp
  .show lcV _ _ _ (itV l::ls.map itV) acc _=.ok (acc++atV t::ps.map λp=>atV p.1) _;generalize atV t=tv at *;generalize itV l=lv at *;have g1:(gtN 0).G lv [s,.mu (fdV a b k)]=some [.sh lv,.mu (fdV a b k)]:=by simp![hs]
   have F1:(ai (bN m).fn (aa (af 1) (aa (af 0) ag))).G [.sh lv,.mu (fdV a b k)]=.ok (.val tv) [.sh lv,.mu (fdV a1 b1 k)]:=by generalize fdV a b k=f0 at *;generalize fdV a1 b1 k=f1 at *;simp![e1]
   have d1:cT [.sh lv,.mu (fdV a1 b1 k)] (.val tv)=some ([.sh lv,.mu (fdV a1 b1 k)],tv):=rfl;unfold lcV;have cy:qY.G=cY:=rfl;rw[cy] at q3 ⊢;rw[if_pos (by omega),g1];simp only[cY,iU,N2,F1,d1,q3];simp
def t3_a{L:Nat}(h:2<=L):0<(if ((L:Nat):Int)-1<3 then ((L:Nat):Int)-1 else 3)/\Sm 8000 (if ((L:Nat):Int)-1<3 then ((L:Nat):Int)-1 else 3):=by
 split
 .exact⟨by omega,sm8 (by omega)⟩
 .exact⟨by decide,sm8 (by decide)⟩
def t3_b{L:Nat}{r:Int}(h:r<if ((L:Nat):Int)-1<3 then ((L:Nat):Int)-1 else 3):r<3/\r<(L:Int)-1:=by split at h <;> omega
def t3_c{L:Nat}(h:0<L)(h1:¬ L=1):2<=L:=by omega
def t3_d{L mn:Nat}{r:Int}(h:(mn:Int)=2+r)(r0:0<=r)(r1:r<3)(r2:r<(L:Int)-1):2<=mn/\mn<=5/\mn<=L:=by omega
theorem wb{k:Int}:∀(n m:Nat) (l:List Nat) (a b:Int),l≠[]->l.length<=n->n<=m->n<=100->∃(t:AT) (a' b':Int),TOk t l/\(bN m).G [fdV a b k,itV l]=.ok (.val (atV t)) [fdV a' b' k]
 |0,m,l,a,b,hl,hn,_,_=>absurd (OI.mp (Nat.le_zero.mp hn)) hl
 |n+1,0,l,a,b,_,_,hm,_=>absurd hm (Nat.not_succ_le_zero _)
 |
  n+1,m+1,l,a,b,hl,hn,hm,h100=>by
  have ih:=λ(l:List Nat) (a b:Int) (h1:l≠[]) (h2:l.length<=n)=>wb (k:=k) n m l a b h1 h2 (Nat.le_of_succ_le_succ hm) (Nat.le_of_succ_le h100);have hpos:=Oy.mpr hl;have ll:(l.map λk:Nat=>Val.int k).length=l.length:=p_ ..;show ∃t a' b',_/\(PFx.of [true,false] 5 (eG (bN m))).G [fdV a b k,itV l]=_;by_cases h1:l.length=1
  .obtain⟨x,rfl⟩:=Oa.mp h1;refine⟨.lf x,a,b,⟨rfl,λk=>by simp [AT.lvs],t_ _,rfl⟩,?_⟩;rw[jt];unfold eG atV itV;rw[AT.val];generalize fdV a b k=f0 at *;simp![x_,Mx,m3]
  .have h2':=t3_c hpos h1;obtain⟨r,a1,b1,e1,r0,r1⟩:=aD (a:=a) (b:=b) (k:=k) (m:=if ((l.length:Nat):Int)-1<3 then ((l.length:Nat):Int)-1 else 3) (t3_a h2').1 (t3_a h2').2;have hr:=t3_b r1;obtain⟨mn,hmn⟩:∃mn:Nat,(mn:Int)=2+r:=⟨(2+r).toNat,Pc (Int.add_nonneg (by decide) r0)⟩;obtain⟨m2,m5,ml⟩:=t3_d hmn r0 hr.1 hr.2;have ne1:(((l.length:Nat):Int)==1)=false:=by rw[H_];omega
   obtain⟨yss,a2,b2,s4,L,dl⟩:=ve (k:=k) (itV l) mn (by omega) (l.drop mn) ((l.take mn).map λx=>[x]) a1 b1 .no rfl (by rw[p_,MH];omega) (λx hx=>by obtain⟨y,_,rfl⟩:=Mq.mp hx;simp) (by
    have:((l.take mn).map λx=>[x]).flatten=l.take mn:=by rw[<- List.flatMap_def];exact List.flatMap_singleton' _
    rw[this,<- Em,MU];omega)
   have hfl:((l.take mn).map λx=>[x]).flatten=l.take mn:=by rw[<- List.flatMap_def];exact List.flatMap_singleton' _
   have hy2:2<=yss.length:=by rw[L.len,p_,MH];omega
   have htot:yss.flatten.length=l.length:=by rw[L.tot,hfl,<- Em,MU]
   obtain⟨w,rw',a3,b3,e3,w3⟩:=vp (a:=a2) (b:=b2) (k:=k);have hlt:=rH L.ne;obtain⟨ps,a4,b4,s0,q1,q2,q3⟩:=oK (k:=k) (m:=m) (n:=n) ih yss [] a3 b3 .no rfl (λx hx=>⟨L.ne x hx,by have:=hlt x hx;omega⟩) (by have:=nK L.ne;rw[Mr];omega);have pl:ps.length=yss.length:=by rw[<- q1,p_]
   have T:=Es (w:=w) q2 (λz=>by rw[z] at pl;simp at pl;omega) (λp hp=>L.ne p.2 (by rw[<- q1];exact Nd hp)) (by omega);rw[q1] at T;refine⟨.nd w (ps.map (·.1)),a4,b4,⟨T.ok,λk=>?_,by have:=T.dep;omega,by rw[T.len,htot]⟩,?_⟩
   .rw[T.mem,List.mem_flatten,L.mem];constructor
    .rintro (⟨x,hx,hk⟩ |hk)
     .obtain⟨y,hy,rfl⟩:=Mq.mp hx;rw[MC] at hk;subst hk;exact Nj hy
     .exact NZ hk
    .intro hk;rw[<- MU mn l] at hk;rcases MQ.mp hk with hk |hk
     .exact .inl ⟨[k],Nd (f:=λx=>[x]) hk,MC.mpr rfl⟩
     .exact .inr hk
   .rw[yE rfl];show trQ (atV (.nd w (ps.map (·.1)))) (fdV a4 b4 k) ((eG (bN m)).G [.mu (fdV a b k),.sh (itV l),.no,.no,.no]);unfold eG;refine aF (λe=>e=[.mu (fdV a b k),.sh (itV l),.no,.no,.no]) ⟨_,by unfold itV;simp![ll,ne1],rfl⟩ ?_;rintro _ rfl;refine aF (λe=>e=[.mu (fdV a1 b1 k),.sh (itV l),.sh (.int (mn:Nat)),.no,.no]) ⟨_,by unfold itV;generalize fdV a b k=f0 at *;generalize fdV a1 b1 k=f1 at *;simp![ll,e1,hmn],rfl⟩ ?_;rintro _ rfl;refine aF (λe=>e=[.mu (fdV a2 b2 k),.sh (itV l),.sh (.int (mn:Nat)),.sh (.lst (Bz yss)),s4]) ⟨_,?_,rfl⟩ ?_
    .rw[BN];have i1:(bj (pSl (af 1) oN (oS (af 2)))).G [.mu (fdV a1 b1 k),.sh (itV l),.sh (.int (mn:Nat)),.no,.no]=.ok ((l.take mn).map λi:Nat=>.int i,none) [.mu (fdV a1 b1 k),.sh (itV l),.sh (.int (mn:Nat)),.no,.no]:=by unfold itV;simp![dB,fE,M_]
     have i2:(bj (pSl (af 1) (oS (af 2)) oN)).G [.mu (fdV a1 b1 k),.sh (itV l),.sh (.int (mn:Nat)),.no,.no]=.ok ((l.drop mn).map λi:Nat=>.int i,none) [.mu (fdV a1 b1 k),.sh (itV l),.sh (.int (mn:Nat)),.no,.no]:=by unfold itV;simp![dB,eY,Np]
     rw[i1];show (if Sl.pl .no=true/\((l.take mn).map λi:Nat=>Val.int i).length<16777216 then _ else _)=_;rw[if_pos ⟨rfl,by rw[p_,MH];omega⟩];show ((bj (pSl (af 1) (oS (af 2)) oN)).G [.mu (fdV a1 b1 k),.sh (itV l),.sh (.int (mn:Nat)),.no,.no]).toS _=_;rw[i2];show eA 3 4 _ ((l.drop mn).map λi:Nat=>.int i) (((l.take mn).map λi:Nat=>Val.int i).map λv=>[v]) [.mu (fdV a1 b1 k),.sh (itV l),.sh (.int (mn:Nat)),.no,.no]=_;have sx:(((l.take mn).map λi:Nat=>Val.int i).map λv=>[v])=((l.take mn).map λx=>[x]).map λl=>l.map λi:Nat=>Val.int i:=by rw[MZ,MZ];rfl
     rw[sx];exact dl
    .rintro _ rfl;have lp:(ps.map λp=>atV p.1).length<=16777216:=by have:=nK L.ne;rw[p_];omega
     rw[MR] at q3;unfold trQ;unfold atV at q3 lp ⊢;rw[AT.val,AT.vals_map,MZ];unfold Bz;have cm:(List.map (AT.val (λk=>Val.int (k:Nat)) ∘ λx=>x.fst) ps)=ps.map λp=>AT.val (λk=>Val.int (k:Nat)) p.1:=rfl;rw[cm];generalize (ps.map λp=>AT.val (λk=>Val.int (k:Nat)) p.1)=PS at *;generalize itV l=lv at *;generalize fdV a2 b2 k=f2 at *;generalize fdV a3 b3 k=f3 at *;generalize fdV a4 b4 k=f4 at *;generalize yss.map itV=YS at *;simp![e3,w3,bU,inS,q3,lp,lK]
def z9(w:Bool):d5.G [.str (wy w)]=.ok (.val (.bl true)) []:=by
 have i1:∀x:Str,(bz cB).G [.str x,.ty "str"]=.val (.bl true):=λ_=>rfl;have i2:bIn.G (.str (wy w)) (.tup [.str "across",.str "down"])=.val (.bl true):=by cases w <;> rfl
 unfold d5;rw[aB];unfold lu;simp![i1,i2]
def Ah{w:Bool}{ts:List Val}(h:2<=ts.length):cQ.G [.tup [.str (wy w),.tup ts]]=.ok (.val (.bl true)) []:=by have e:=z9 w;have i1:∀xs:List Val,(bz cB).G [.tup xs,.ty "tuple"]=.val (.bl true):=λ_=>rfl;have g:decide ((2:Int)<=(ts.length:Nat))=true:=I_ (by omega);unfold cQ;rw[aB];unfold iw;simp![i1,e,m3,g]
def zi{a:Val}(h:lfV a=true):cQ.G [a]=.ok (.val (.bl false)) []:=by
 have i1:(bz cB).G [a,.ty "tuple"]=.val (.bl false):=by cases a <;> first |rfl |(cases h;done)
 unfold cQ;rw[aB];unfold iw;simp![i1]
def yu(k:Nat):bM.G [.int (k:Nat)]=.ok (.val (.bl true)) []:=by have i1:(bz cB).G [.int (k:Nat),.ty "int"]=.val (.bl true):=rfl;have i2:(bz cB).G [.int (k:Nat),.ty "bool"]=.val (.bl false):=rfl;unfold bM;rw[aB];unfold jh;simp![i1,i2]
theorem jT{n:Nat}(v:Val):∀(N:Nat) (st:List AT) (xs:List Int) (s4:Sl),AT.cntL st<=N->s4.pl=true->(∀t∈st,t.ok=true)->(∀k∈AT.lvsL st,k<n)->(AT.lvsL st).Nodup->(∀k∈AT.lvsL st,((k:Nat):Int)∉xs)->xs.length+(AT.lvsL st).length<=3000->AT.cntL st<=100000->
 ∃(ys:List Int) (s4':Sl),ys.length=xs.length+(AT.lvsL st).length/\(xWh (qTr (af 3)) df).G [.sh v,.sh (.int (n:Nat)),.ow (.set xs),.ow (.lst (st.map atV)),s4]=.nx [.sh v,.sh (.int (n:Nat)),.ow (.set ys),.ow (.lst []),s4']
 |
  N,[],xs,s4,_,_,_,_,_,_,_,_=>⟨xs,s4,by simp [AT.lvsL],by
  rw[gh];simp![Mx,om,List.isEmpty_nil]⟩
 |
  0,t::ts,xs,s4,h,_,_,_,_,_,_,_=>by
  rw[AT.cntL] at h;cases t <;> (rw[AT.cnt] at h;omega)
 |
  N+1,t0::ts0,xs,s4,hN,h4,ho,hn,nd,hx,hl,hc=>by
  obtain⟨st,t,hst⟩:∃st t,t0::ts0=st++[t]:=⟨(t0::ts0).dropLast,(t0::ts0).getLast (by simp),(List.dropLast_concat_getLast (by simp)).symm⟩;rw[hst] at hN ho hn nd hx hl hc ⊢;rw[AT.lvsL_app] at hn nd hx hl;rw[AT.lvsL_app];rw[AT.cntL_app] at hN hc;have hn0:((st++[t]).map atV).isEmpty=false:=by cases st <;> rfl
  have c1:(qTr (af 3)).G [.sh v,.sh (.int (n:Nat)),.ow (.set xs),.ow (.lst ((st++[t]).map atV)),s4]=.ok true [.sh v,.sh (.int (n:Nat)),.ow (.set xs),.ow (.lst ((st++[t]).map atV)),s4]:=by simp![om,hn0,Bool.not_false]
  have hto:=ho t (by simp);rw[gh,c1];show ∃ys s4',_/\((df.G _).loop _)=_;rw[MY,x_,Mx];cases t with
  |
   lf k=>
   simp only[AT.lvsL,AT.lvs,MX,Em,D_,Mr,AT.cntL,AT.cnt] at hn nd hx hl hN hc ⊢;have hk:=hn k (by simp);have hkx:=hx k (by simp);have nda:=List.nodup_append.mp nd;obtain⟨ys,s4',q1,q2⟩:=jT (n:=n) v N st (fK xs (k:Nat)) (.sh (.int (k:Nat))) (by omega) rfl (λt ht=>ho t (by simp [ht])) (λj hj=>hn j (by simp [hj])) nda.1 (λj hj z=>by
    unfold fK at z;rw[if_neg hkx] at z;rcases F_.mp z with z |z
    .exact nda.2.2 j hj k (by simp) (Int.ofNat.inj z)
    .exact hx j (by simp [hj]) z) (by unfold fK;rw[if_neg hkx,D_];omega) (by omega)
   refine⟨ys,s4',by rw[q1];unfold fK;rw[if_neg hkx,D_];omega,?_⟩;have b1:=zi (a:=.int (k:Nat)) rfl;have w1:=yu k;have l0:decide (((k:Nat):Int)<0)=false:=E_ (by omega);have l1:decide (((n:Nat):Int)<=(k:Nat))=false:=E_ (by omega);have in1:decide (((k:Nat):Int)∈xs)=false:=E_ hkx;have av:atV (.lf k)=.int (k:Nat):=rfl;have xl:xs.length<4000:=by omega
   have bb:df.G [.sh v,.sh (.int (n:Nat)),.ow (.set xs),.ow (.lst (st.map atV++[atV (.lf k)])),s4]=.nx [.sh v,.sh (.int (n:Nat)),.ow (.set (fK xs (k:Nat))),.ow (.lst (st.map atV)),.sh (.int (k:Nat))]:=by unfold df;rw[av];simp![m6,h4,b1,w1,l0,l1,K4,in1,Gk,ue,Ci,xl]
   rw[bb];exact q2
  |
   nd w ts=>
   have ho':=hto;rw[AT.ok,w_] at hto;have h2:2<=ts.length:=NW hto.1;have hk:=AT.okL_mem.mp hto.2;simp only[AT.lvsL,AT.lvs,MX,AT.cntL,AT.cnt] at hn nd hx hl hN hc ⊢;obtain⟨ys,s4',q1,q2⟩:=jT (n:=n) v N (st++ts) xs (.sh (atV (.nd w ts))) (by rw[AT.cntL_app];omega) rfl (λt ht=>by
    rcases MQ.mp ht with ht |ht
    .exact ho t (by simp [ht])
    .exact hk t ht) (by rw[AT.lvsL_app];exact hn) (by rw[AT.lvsL_app];exact nd) (by rw[AT.lvsL_app];exact hx) (by rw[AT.lvsL_app];exact hl) (by rw[AT.cntL_app];omega)
   rw[AT.lvsL_app] at q1;refine⟨ys,s4',q1,?_⟩;have av:atV (.nd w ts)=.tup [.str (wy w),.tup (ts.map atV)]:=by unfold atV;rw[AT.val,AT.vals_map]
   have b1:=Ah (w:=w) (ts:=ts.map atV) (by rw[p_];exact h2);have le:∀l:List AT,l.length<=AT.cntL l:=by
    intro l;induction l with
    |nil=>exact t_ _
    |cons t l ih=>rw[AT.cntL,D_];cases t <;> (rw[AT.cnt];omega)
   have ll:(st.map atV).length+(ts.map atV).length<=16777216:=by
    have:=le st
    have:=le ts
    rw[p_,p_];omega
   rw[av] at q2 ⊢;rw[MY] at q2;have bb:df.G [.sh v,.sh (.int (n:Nat)),.ow (.set xs),.ow (.lst (st.map atV++[.tup [.str (wy w),.tup (ts.map atV)]])),s4]=.nx [.sh v,.sh (.int (n:Nat)),.ow (.set xs),.ow (.lst (st.map atV++ts.map atV)),.sh (.tup [.str (wy w),.tup (ts.map atV)])]:=by unfold df;simp![m6,h4,b1,oI,ll]
   rw[bb];exact q2
def xV{t:AT}{n:Nat}(ho:t.ok=true)(hn:∀k∈t.lvs,k<n)(nd:t.lvs.Nodup)(hl:t.lvs.length=n)(h3:n<=3000)(hc:t.cnt<=100000):gd.G [atV t,.int (n:Nat)]=.ok (.val (.bl true)) []:=by
 have e1:AT.lvsL [t]=t.lvs:=by simp [AT.lvsL]
 have e2:AT.cntL [t]=t.cnt:=by simp [AT.cntL]
 obtain⟨ys,s4',q1,q2⟩:=jT (n:=n) (atV t) (AT.cntL [t]) [t] [] .no (t_ _) rfl (λu hu=>by rw[MC] at hu;rw[hu];exact ho) (by rw[e1];exact hn) (by rw[e1];exact nd) (λk hk z=>nomatch z) (by rw[e1,hl];simp;exact h3) (by rw[e2];exact hc);rw[e1,hl,Mr,O4] at q1;rw[x_,Mx] at q2;unfold gd;rw[aB];unfold oZ;generalize atV t=tv at *;simp![JJ,q2,JU,q1,OU]
def pB{t:AT}{n:Nat}(ho:t.ok=true)(hn:∀k∈t.lvs,k<n)(nd:t.lvs.Nodup)(hl:t.lvs.length=n)(h3:n<=3000)(hc:t.cnt<=100000):dU.G [atV t,.int (n:Nat)]=.ok (.val .non) []:=by have e:=xV ho hn nd hl h3 hc;unfold dU;rw[aB];unfold jK;generalize atV t=tv at *;simp![e]
def gA(a:Int):(if a<0 then -a else a)=((a.natAbs:Nat):Int):=by split <;> omega
theorem sr:∀(n one b_:Nat),b_<=n->(xWh (qOf (pOp bNe (af 1) (ah 0))) cU).G [.sh (.int (one:Nat)),.sh (.int (b_:Nat))]=.nx [.sh (.int (Nat.gcd one b_:Nat)),.sh (.int 0)]
 |
  n,one,0,_=>by
  rw[gh];simp![iU];rw[Nat.gcd_zero_right];try rfl
 |0,one,b_+1,hl=>absurd hl (by omega)
 |
  n+1,one,b_+1,hl=>by
  rw[gh];have e:((((b_+1:Nat):Int)==0))=false:=by rw[H_];omega
  have e1:cz.G (.int (one:Nat)) (.int ((b_+1:Nat):Int))=.val (.int (((one:Nat):Int).fmod ((b_+1:Nat):Int))):=fD (by omega);have e2:((one:Nat):Int).fmod ((b_+1:Nat):Int)=((one % (b_+1):Nat):Int):=by rw[Int.fmod_eq_emod_of_nonneg _ (by omega)];rfl
  have ih:=sr n (b_+1) (one % (b_+1)) (by have:=Nat.mod_lt one (show b_+1>0 by omega);omega);rw[Fr.euc] at ih;rw[e2] at e1;have bb:cU.G [.sh (.int (one:Nat)),.sh (.int ((b_+1:Nat):Int))]=.nx [.sh (.int ((b_+1:Nat):Int)),.sh (.int ((one % (b_+1):Nat):Int))]:=by unfold cU;simp![e1]
  simp![e,bb,ih]
def cV(a b:Int):bG.G [.int a,.int b]=.ok (.val (.int (Int.gcd a b:Nat))) []:=by
 unfold bG;rw[aB];unfold gM
 have:=sr b.natAbs a.natAbs b.natAbs (t_ _)
 simp![gA,this];rfl
def dG{a b:Int}(hb:b≠0)(hs:Sm 8000 b):bI.G [.int a,.int b]=.ok (.val (fV ((a:Rat)/(b:Rat)))) []:=by
 unfold bI;rw[aB];unfold mH;have e:(b==0)=false:=by rw[H_];exact hb
 have c:∀x,CDivB x (Fr.dv a b):=λx=>CDivB.of (Fr.dv_ne hb) (hs.of_le (by rw[Fr.dv_abs];exact Nat.le_of_dvd (by omega) (Nat.gcd_dvd_right a.natAbs b.natAbs)));have k1:=j6 (c a);have k2:=j6 (c b);have hh:=ma (a:=a) hb;have j_:Val.tup [.int (a.fdiv (Fr.dv a b)),.int (b.fdiv (Fr.dv a b))]=fV ((a:Rat)/(b:Rat)):=by unfold fV;rw[<- hh.1,<- hh.2];rfl
 by_cases hn:b<0
 .have hd:Fr.dv a b=-((Int.gcd a b:Nat):Int):=by unfold Fr.dv;rw[if_pos hn]
  rw[hd] at k1 k2 j_;simp![e,cV,I_ hn,k1,k2,j_]
 .have hd:Fr.dv a b=((Int.gcd a b:Nat):Int):=by unfold Fr.dv;rw[if_neg hn]
  rw[hd] at k1 k2 j_;simp![e,cV,E_ hn,k1,k2,j_]
def Br{p q:Rat}{n m:Nat}(hp:Sz n p)(hq:Sz m q)(h:n+m<=8000):iC.G [fV p,fV q]=.ok (.val (fV (p+q))) []:=by have c1:=bE (CMulA.of hp.top hq.bot (by omega) (by omega));have c2:=bE (CMulA.of hq.top hp.bot (by omega) (by omega));have c3:=bE (CMulA.of hp.bot hq.bot (by omega) (by omega));have fe:=dG (a:=p.num*q.den+q.num*p.den) (b:=p.den*q.den) (N8 (cL p) (cL q)) ((hp.bot.mul hq.bot).mono h);rw[<- E8] at fe;unfold iC;rw[aB];unfold v8;rw[show fV p=.tup [.int p.num,.int p.den] from rfl,show fV q=.tup [.int q.num,.int q.den] from rfl];simp![c1,c2,c3,fe]
def lI{p q:Rat}{n m:Nat}(hp:Sz n p)(hq:Sz m q)(h:n+m<=8000):fL.G [fV p,fV q]=.ok (.val (fV (p*q))) []:=by have c1:=bE (CMulA.of hp.top hq.top (by omega) (by omega));have c2:=bE (CMulA.of hp.bot hq.bot (by omega) (by omega));have fe:=dG (a:=p.num*q.num) (b:=p.den*q.den) (N8 (cL p) (cL q)) ((hp.bot.mul hq.bot).mono h);rw[<- vO] at fe;unfold fL;rw[aB];unfold vm;rw[show fV p=.tup [.int p.num,.int p.den] from rfl,show fV q=.tup [.int q.num,.int q.den] from rfl];simp![c1,c2,fe]
def jn{p q:Rat}{n m:Nat}(hp:Sz n p)(hq:Sz m q)(h1:n<=100000)(h2:m<=100000):dX.G [fV p,fV q]=.ok (.val (.bl (decide (p<q)))) []:=by have c1:=bE (CMulA.of hp.top hq.bot h1 h2);have c2:=bE (CMulA.of hq.top hp.bot h2 h1);unfold dX;rw[aB];unfold oW;rw[show fV p=.tup [.int p.num,.int p.den] from rfl,show fV q=.tup [.int q.num,.int q.den] from rfl];simp![c1,c2];rw[show decide (p.num*(q.den:Int)<q.num*(p.den:Int))=decide (p<q) from OV.mpr (uj p q).symm]
def j5{v:Val}(hk:knV v=true):(bz cB).G [v,.ty "tuple"]=.val (.bl (ft v)):=by cases v <;> first |rfl |cases hk
def ig{v:Val}(hk:knV v=true):bM.G [v]=.ok (.val (.bl (jg v))) []:=by unfold bM;rw[aB];unfold jh;cases v <;> first |rfl |cases hk
def uf(v:Val):ft v=false\/∃xs,v=.tup xs:=by cases v <;> first |exact .inr ⟨_,rfl⟩ |exact .inl rfl
def kX(v:Val):jg v=false\/∃i,v=.int i:=by cases v <;> first |exact .inr ⟨_,rfl⟩ |exact .inl rfl
def Lf{v:Val}(h:ft v=false):aO v=false:=by cases v <;> first |rfl |cases h
def KQ{v:Val}(h:ft v=false):f9 v=false:=by cases v <;> first |rfl |cases h
def Iw{a b:Val}(h:jg a=false):aO (.tup [a,b])=false:=by cases a <;> first |rfl |cases h
def IU{i:Int}{b:Val}(h:jg b=false):aO (.tup [.int i,b])=false:=by cases b <;> first |rfl |cases h
def Kn{xs:List Val}(hl:xs.length≠2):aO (.tup xs)=false:=by
 unfold aO;split
 .rename_i e;injection e with e;subst e;exact absurd rfl hl
 .rfl
def Ke{xs:List Val}(hl:xs.length≠4):f9 (.tup xs)=false:=by
 unfold f9;split
 .rename_i e;injection e with e;subst e;exact absurd rfl hl
 .rfl
def Dr{k:Nat}{v:Val}(ha:ip k v=true)(h:ft v=false):knV v=true:=by
 cases v with
 |tup xs=>cases h
 |_=>cases k <;> exact ha
def oG{v:Val}(ha:ip 1 v=true):cG.G [v]=.ok (.val (.bl (aO v))) []:=by
 unfold cG;rw[aB];unfold jy;rcases uf v with ht |⟨xs,rfl⟩
 .have it:=j5 (Dr ha ht);rw[ht] at it;simp![it,Lf ht]
 have it:=j5 (v:=.tup xs) rfl;by_cases hl:xs.length=2
 .match xs,hl,ha with
  |
   [a,b],_,ha=>
   have ha':(knV a&&(knV b&&true))=true:=by simpa [ip] using ha
   simp only[w_] at ha';have w1:=ig ha'.1;have w2:=ig ha'.2.1;rcases kX a with h1 |⟨i,rfl⟩
   .rw[h1] at w1;simp![it,ft,w1,Iw h1]
   rcases kX b with h2 |⟨j,rfl⟩
   .rw[h2] at w2;simp![it,ft,w1,jg,w2,IU h2]
   have f:aO (.tup [.int i,.int j])=(decide (1<=j)&&decide (Int.gcd i j=1)):=rfl;have g:((((Int.gcd i j:Nat):Int)==1):Bool)=decide (Int.gcd i j=1):=by rw[OX,MD,NV];omega
   by_cases hj:1<=j
   .simp![it,ft,w1,w2,jg,cV,I_ hj,f,g]
   .simp![it,ft,w1,w2,jg,cV,E_ hj,f,g]
 .have e:(((xs.length:Nat):Int)==2)=false:=by rw[H_];omega
  simp![it,ft,e,Kn hl]
def oM{v:Val}(ha:ip 2 v=true):gC.G [v]=.ok (.val (.bl (f9 v))) []:=by
 unfold gC;rw[aB];unfold rK;rcases uf v with ht |⟨xs,rfl⟩
 .have it:=j5 (Dr ha ht);rw[ht] at it;simp![it,KQ ht]
 have it:=j5 (v:=.tup xs) rfl;by_cases hl:xs.length=4
 .match
   xs,hl,ha with
  |
   [a,b,c,d],_,ha=>
   have e1:f9 (.tup [a,b,c,d])=(aO a&&(aO b&&(aO c&&(aO d&&(jo c&&jo d))))):=rfl;have bl4:∀x y z w:Bool,jf [.bl x,.bl y,.bl z,.bl w]=some [x,y,z,w]:=λ_ _ _ _=>rfl;obtain⟨e',⟨s',rfl,_⟩,lc⟩:=nN (g:=(gtN 0).G) (F:=(ai cG (aa (af 0) ag)).G) (f:=λv=>.bl (aO v)) (λe=>∃s,e=[s]/\s.pl=true) [a,b,c,d] [] [.no] ⟨.no,rfl,rfl⟩ (by
    rintro v hv e ⟨s,rfl,hs⟩;have hv':ip 1 v=true:=MF.mp (by simpa [ip] using ha) v hv;refine⟨[.sh v],.val (.bl (aO v)),[.sh v],?_,?_,rfl,⟨_,rfl,rfl⟩⟩
    .simp![hs]
    .simp![oG hv']) (by simp)
   have cy:cY=qY.G:=rfl;rw[cy,MR] at lc;simp only[x_,Mx] at lc;cases hA:(aO a&&(aO b&&(aO c&&aO d))) with
   |
    true=>
    simp only[w_] at hA;obtain⟨p,rfl⟩:=zL hA.2.2.1;obtain⟨q,rfl⟩:=zL hA.2.2.2;rw[hA.1,hA.2.1,hA.2.2.1,hA.2.2.2] at e1 lc;have e2:f9 (.tup [a,b,fV p,fV q])=(decide (0<p.num)&&decide (0<q.num)):=by rw[e1];rfl
    rw[e2];have i1:(fV p).items=some [.int p.num,.int p.den]:=rfl;have i2:(fV q).items=some [.int q.num,.int q.den]:=rfl;by_cases hp:0<p.num
    .simp![it,ft,lc,bU,bl4,id,i1,i2,I_ hp]
    .simp![it,ft,lc,bU,bl4,id,i1,E_ hp]
   |
    false=>
    have e2:f9 (.tup [a,b,c,d])=false:=by rw[e1];revert hA;generalize aO a=a',aO b=b',aO c=c',aO d=d',(jo c&&jo d)=z;revert a' b' c' d' z;decide
    rw[e2];simp![it,ft,lc,bU,bl4,id,hA]
 .have e:(((xs.length:Nat):Int)==4)=false:=by rw[H_];omega
  simp![it,ft,e,Ke hl]
def sT{v:Val}(ha:ip 2 v=true):aK.G [v]=if f9 v=true then .ok (.val .non) [] else .exc "NoBox" []:=by
 unfold aK;rw[aB];unfold ko;cases h:f9 v with
 |true=>simp![oM ha,h]
 |false=>simp![oM ha,h]
def bq{b:Bx}(hb:b.Ok):aK.G [bV b]=.ok (.val .non) []:=by rw[sT (Ig b),BG hb];rfl
def JX{v:Val}(h:jg v=false):gT v=false:=by cases v <;> first |rfl |cases h
def CM(v:Val):fB v=false\/∃xs,v=.lst xs:=by cases v <;> first |exact .inr ⟨_,rfl⟩ |exact .inl rfl
def rL{v:Val}(hk:knV v=true):dD.G [v]=.ok (.val (.bl (gT v))) []:=by
 have w:=ig hk;unfold dD;rw[aB];unfold kB;rcases kX v with h |⟨i,rfl⟩
 .rw[h] at w;simp![w,JX h]
 .simp![w,jg];rfl
def we{v:Val}(hk:knV v=true):(bz cB).G [v,.ty "list"]=.val (.bl (fB v)):=by cases v <;> first |rfl |cases hk
noncomputable def xW (v:Val):R3F:=match v with
 |.lst xs=>if xs=[] then .exc "NoWeights" [] else if xs.all gT=true then (if xs.length<=40 then .ok (.val .non) [] else .exc "TooMany" []) else .exc "NoWeights" []
 |_=>.exc "NoWeights" []
def IX{v:Val}(h:fB v=false):xW v=.exc "NoWeights" []:=by cases v <;> first |rfl |cases h
noncomputable def rF:Val->Bool
 |.lst xs=>decide (xs.length<=1000)&&xs.all knV
 |v=>knV v
def Fx{v:Val}(h:rF v=true)(hl:fB v=false):knV v=true:=by cases v <;> first |(cases hl;done) |exact h
theorem ja(f:Val->Bool):∀xs:List Val,jf (xs.map λv=>.bl (f v))=some (xs.map f)
 | []=>rfl
 |x::xs=>by show (jf (xs.map λv=>.bl (f v))).map (f x :: ·)=_;rw[ja f xs];rfl
def jc(f:Val->Bool)(xs:List Val):(xs.map f).all id=xs.all f:=by rw[List.all_map];rfl
def kR{v:Val}(ha:rF v=true):aE.G [v]=xW v:=by
 unfold aE;rw[aB];unfold g9;rcases CM v with hv |⟨xs,rfl⟩
 .have il:=we (Fx ha hv);rw[hv] at il;rw[IX hv];simp![il]
 .have ha':xs.length<=1000/\xs.all knV=true:=by simpa [rF] using ha
  have il:=we (v:=.lst xs) rfl;unfold xW;dsimp only;by_cases h0:xs=[]
  .subst h0;simp![il]
  .have e0:(((xs.length:Nat):Int)==0)=false:=by rw[H_];intro z;exact h0 (OI.mp (by omega))
   rw[if_neg h0];obtain⟨e',p',lc⟩:=nN (g:=(gtN 0).G) (F:=(ai dD (aa (af 0) ag)).G) (f:=λv=>.bl (gT v)) (λe=>∃s,e=[s]/\s.pl=true) xs [] [.no] ⟨.no,rfl,rfl⟩ (by
    rintro v hv e ⟨s,rfl,hs⟩;refine⟨[.sh v],.val (.bl (gT v)),[.sh v],?_,?_,rfl,⟨_,rfl,rfl⟩⟩
    .simp![hs]
    .simp![rL (MF.mp ha'.2 v hv)]) (by simp;omega)
   obtain⟨s',rfl,_⟩:=p';have cy:cY=qY.G:=rfl;rw[cy,MR] at lc;have a_:(xs.map λv=>Val.bl (gT v)).length<=16777216:=by rw[p_];omega
   by_cases hw:xs.all gT=true
   .rw[if_pos hw];by_cases h40:xs.length<=40
    .have hd:decide ((40:Int)<((xs.length:Nat):Int))=false:=E_ (by omega);rw[if_pos h40];simp![il,e0,bU,lc,a_,ja,jc,hw,hd]
    .have hd:decide ((40:Int)<((xs.length:Nat):Int))=true:=I_ (by omega);rw[if_neg h40];simp![il,e0,bU,lc,a_,ja,jc,hw,hd]
   .have hw':xs.all gT=false:=Bool.eq_false_iff.mpr hw;rw[if_neg hw];simp![il,e0,bU,lc,a_,ja,jc,hw']
def gg{ws:List Int}(h0:ws≠[])(h1:∀w∈ws,1<=w)(h2:ws.length<=40):aE.G [.lst (ws.map .int)]=.ok (.val .non) []:=by
 have ha:rF (.lst (ws.map .int))=true:=by simp only[rF,w_,NV,p_];exact⟨by omega,by rw[MF];intro v hv;obtain⟨w,_,rfl⟩:=Mq.mp hv;rfl⟩
 rw[kR ha];unfold xW;dsimp only;rw[if_neg (by intro z;exact h0 (Oz.mp z)),if_pos (by rw[MF];intro v hv;obtain⟨w,hw,rfl⟩:=Mq.mp hv;exact I_ (h1 w hw)),if_pos (by rw[p_];exact h2)]
def rj:bo (.str "down") (.str "across")=some false:=by rw[L3.eq_str (by decide) (by decide)];exact MP some (by decide)
def tu:bo (.str "across") (.str "across")=some true:=by rw[L3.eq_str (by decide) (by decide)];exact MP some (by decide)
noncomputable def prV (p:Rat×Rat):Val:=.tup [fV p.1,fV p.2]
theorem vF{s l:Rat}{n m:Nat}{W:Int}{wv:Val}(hs:Sz n s)(hl:Sz n l)(hW:0<W)(mW:Sm m W)(h:n+n+m<=8000):∀(ws:List Int) (a:Int) (acc:List (Rat×Rat)) (s6 s7:Sl),s6.pl=true->s7.pl=true->0<=a->(∀w∈ws,0<=w)->a+ws.sum<=W->acc.length+ws.length<=16777216->∃s6' s7',dN (gtN 6).G gW.G (ws.map .int) [.sh (fV s),.sh (fV l),.sh wv,.sh (.int W),.sh (.int a),.ow (.lst (acc.map prV)),s6,s7]=.nx [.sh (fV s),.sh (fV l),.sh wv,.sh (.int W),.sh (.int (a+ws.sum)),.ow (.lst ((acc++shL s l W a ws).map prV)),s6',s7']
 | [],a,acc,s6,s7,h6,h7,ha,hw,hsum,a_=>⟨s6,s7,by rw[Mx,iM,List.sum_nil,Int.add_zero];unfold shL;rw[MX]⟩
 |
  w::ws,a,acc,s6,s7,h6,h7,ha,hw,hsum,a_=>by
  have hw0:=hw w (s_ ..);have hws:0<=ws.sum:=by
   have:∀l:List Int,(∀w∈l,0<=w)->0<=l.sum:=by
    intro l;induction l with
    |nil=>intro _;simp
    |cons x l ih=>intro hx;rw[MB];have:=hx x (s_ ..);have:=ih λw hw=>hx w (q_ _ hw);omega
   exact this ws λx hx=>hw x (q_ _ hx)
  rw[MB] at hsum;rw[D_] at a_;have sa:Sm m a:=mW.of_le (by omega);have sw:Sm m w:=mW.of_le (by omega);have f1:=dG (a:=a) (b:=W) (by omega) (mW.mono (by omega));have f2:=dG (a:=w) (b:=W) (by omega) (mW.mono (by omega));have z1:Sz m ((a:Rat)/(W:Rat)):=Sz.div (by omega) sa mW m (t_ _) (t_ _);have z2:Sz m ((w:Rat)/(W:Rat)):=Sz.div (by omega) sw mW m (t_ _) (t_ _);have t1:=lI hl z1 (by omega);have t2:=lI hl z2 (by omega);have ad:=Br hs (hl.mul z1) (by omega);have ll:(acc.map prV).length<16777216:=by rw[p_];omega
  obtain⟨t6,t7,ih⟩:=vF (wv:=wv) hs hl hW mW h ws (a+w) (acc++[(s+l*((a:Rat)/(W:Rat)),l*((w:Rat)/(W:Rat)))]) (.sh (.int w)) (.sh (fV (s+l*((a:Rat)/(W:Rat))))) rfl rfl (by omega) (λx hx=>hw x (q_ _ hx)) (by omega) (by simp;omega);refine⟨t6,t7,?_⟩;have g1:(gtN 6).G (.int w) [.sh (fV s),.sh (fV l),.sh wv,.sh (.int W),.sh (.int a),.ow (.lst (acc.map prV)),s6,s7]=some [.sh (fV s),.sh (fV l),.sh wv,.sh (.int W),.sh (.int a),.ow (.lst (acc.map prV)),.sh (.int w),s7]:=by simp![h6]
  have b1:gW.G [.sh (fV s),.sh (fV l),.sh wv,.sh (.int W),.sh (.int a),.ow (.lst (acc.map prV)),.sh (.int w),s7]=.nx [.sh (fV s),.sh (fV l),.sh wv,.sh (.int W),.sh (.int (a+w)),.ow (.lst ((acc++[(s+l*((a:Rat)/(W:Rat)),l*((w:Rat)/(W:Rat)))]).map prV)),.sh (.int w),.sh (fV (s+l*((a:Rat)/(W:Rat))))]:=by unfold gW;rw[MY];simp![h7,f1,f2,t1,t2,ad,ll,prV]
  rw[x_,dS,g1];simp only[b1,qM];rw[ih,MB];rw[show shL s l W a (w::ws)=(s+l*((a:Rat)/(W:Rat)),l*((w:Rat)/(W:Rat)))::shL s l W (a+w) ws from rfl,OK,show a+w+ws.sum=a+(w+ws.sum) by omega];rfl
def oP{s l:Rat}{n m:Nat}{ws:List Int}(hs:Sz n s)(hl:Sz n l)(hw:∀w∈ws,0<=w)(h0:0<ws.sum)(mW:Sm m ws.sum)(h:n+n+m<=8000)(a_:ws.length<=1000):fM.G [fV s,fV l,.lst (ws.map .int)]=.ok (.new (.lst ((shL s l ws.sum 0 ws).map prV))) []:=by obtain⟨s6,s7,lo⟩:=vF (wv:=.lst (ws.map .int)) hs hl h0 mW h ws 0 [] .no .no rfl rfl (by omega) hw (by omega) (by simp;omega);rw[MR,Mx] at lo;unfold fM;rw[aB];unfold sO;simp![lo]
def HY{way:Str}(hw:way="across" \/ way="down"):eR.G [.str way]=.ok (.val .non) []:=by
 have i1:∀x:Str,(bz cB).G [.str x,.ty "str"]=.val (.bl true):=λ_=>rfl;have i2:bIn.G (.str way) (.tup [.str "across",.str "down"])=.val (.bl true):=by rcases hw with rfl |rfl <;> rfl
 have e1:d5.G [.str way]=.ok (.val (.bl true)) []:=by unfold d5;rw[aB];unfold lu;simp![i1,i2]
 unfold eR;rw[aB];unfold kA;simp![e1]
def jU{b:Bx}{n m:Nat}{way:Str}{ws:List Int}(hb:b.Ok)(hs:b.Sz n)(hway:way="across" \/ way="down")(h0:ws≠[])(hw:∀w∈ws,1<=w)(mW:Sm m ws.sum)(h:n+n+m<=8000)(a_:ws.length<=40):d6.G [bV b,.str way,.lst (ws.map .int)]=.ok (.new (.lst ((aR b way ws).map bV))) []:=by
 have cw:=gg h0 hw a_;have cy:=HY hway;have sp:0<ws.sum:=by
  cases ws with
  |nil=>exact absurd rfl h0
  |
   cons x l=>
   rw[MB]
   have:=hw x (s_ ..)
   have:∀l:List Int,(∀w∈l,1<=w)->0<=l.sum:=by
    intro l;induction l with
    |nil=>intro _;simp
    |cons x l ih=>intro hx;rw[MB];have:=hx x (s_ ..);have:=ih λw hw=>hx w (q_ _ hw);omega
   have:=this l λx hx=>hw x (q_ _ hx)
   omega
 have cb:aK.G [.tup [fV b.l,fV b.t,fV b.w,fV b.h]]=.ok (.val .non) []:=bq hb;have sh1:=oP hs.l hs.w (λw z=>by have:=hw w z;omega) sp mW h (by omega);have sh2:=oP hs.t hs.h (λw z=>by have:=hw w z;omega) sp mW h (by omega);show d6.G [.tup [fV b.l,fV b.t,fV b.w,fV b.h],.str way,.lst (ws.map .int)]=_;unfold d6 aR;rw[aB];unfold sH;rcases hway with rfl |rfl
 .rw[if_pos (rfl:("across" : Str)="across")];have ln:=iE b.l b.w ws.sum ws 0;obtain⟨e',⟨s,t,rfl,_,_⟩,lc⟩:=cS (g:=(gtT 2 (bQ (gtN 0) (bQ (gtN 1) fH))).G) (F:=(bg (aa (af 0) (aa (af 2) (aa (af 1) (aa (af 3) ag))))).G) prV (λp=>bV ⟨p.1,b.t,p.2,b.h⟩) (λe=>∃s t,e=[s,t,.sh (fV b.t),.sh (fV b.h)]/\s.pl=true/\t.pl=true) (shL b.l b.w ws.sum 0 ws) [] [.no,.no,.sh (fV b.t),.sh (fV b.h)] ⟨.no,.no,rfl,rfl,rfl⟩ (by
   rintro p hp e ⟨s,t,rfl,hs,ht⟩;refine⟨[.sh (fV p.1),.sh (fV p.2),.sh (fV b.t),.sh (fV b.h)],.val (bV ⟨p.1,b.t,p.2,b.h⟩),[.sh (fV p.1),.sh (fV p.2),.sh (fV b.t),.sh (fV b.h)],?_,?_,rfl,⟨_,_,rfl,rfl,rfl⟩⟩
   .simp![prV,hs,ht]
   .simp![bV]) (by rw[ln,Mr];omega)
  rw[MR] at lc;have ll:((shL b.l b.w ws.sum 0 ws).map λp=>bV ⟨p.1,b.t,p.2,b.h⟩).length<=16777216:=by rw[p_,ln];omega
  rw[MZ,show (bV ∘ λp:Rat×Rat=>(⟨p.1,b.t,p.2,b.h⟩:Bx))=λp=>bV ⟨p.1,b.t,p.2,b.h⟩ from rfl];simp![cb,cy,cw,tu,sh1,lc,ll]
 .have hne:¬ (("down" : Str)="across"):=by decide
  rw[if_neg hne];have ln:=iE b.t b.h ws.sum ws 0;obtain⟨e',⟨s,t,rfl,_,_⟩,lc⟩:=cS (g:=(gtT 2 (bQ (gtN 0) (bQ (gtN 1) fH))).G) (F:=(bg (aa (af 2) (aa (af 0) (aa (af 3) (aa (af 1) ag))))).G) prV (λp=>bV ⟨b.l,p.1,b.w,p.2⟩) (λe=>∃s t,e=[s,t,.sh (fV b.l),.sh (fV b.w)]/\s.pl=true/\t.pl=true) (shL b.t b.h ws.sum 0 ws) [] [.no,.no,.sh (fV b.l),.sh (fV b.w)] ⟨.no,.no,rfl,rfl,rfl⟩ (by
   rintro p hp e ⟨s,t,rfl,hs,ht⟩;refine⟨[.sh (fV p.1),.sh (fV p.2),.sh (fV b.l),.sh (fV b.w)],.val (bV ⟨b.l,p.1,b.w,p.2⟩),[.sh (fV p.1),.sh (fV p.2),.sh (fV b.l),.sh (fV b.w)],?_,?_,rfl,⟨_,_,rfl,rfl,rfl⟩⟩
   .simp![prV,hs,ht]
   .simp![bV]) (by rw[ln,Mr];omega)
  rw[MR] at lc;have ll:((shL b.t b.h ws.sum 0 ws).map λp=>bV ⟨b.l,p.1,b.w,p.2⟩).length<=16777216:=by rw[p_,ln];omega
  rw[MZ,show (bV ∘ λp:Rat×Rat=>(⟨b.l,p.1,b.w,p.2⟩:Bx))=λp=>bV ⟨b.l,p.1,b.w,p.2⟩ from rfl];simp![cb,cy,cw,rj,sh2,lc,ll]
theorem ie{f:Nat->Val}(v:Val):∀(N:Nat) (st:List AT) (acc:List Nat) (s3:Sl),AT.cntL st<=N->s3.pl=true->(∀k∈AT.lvsL st,lfV (f k)=true)->acc.length+AT.cntL st<=100000->
 ∃(l:List Nat) (s3':Sl),l.Perm (AT.lvsL st)/\(xWh (qTr (af 2)) cx).G [.sh v,.ow (.lst (acc.map f)),.ow (.lst (st.map (AT.val f))),s3]=.nx [.sh v,.ow (.lst ((acc++l).map f)),.ow (.lst []),s3']
 |
  N,[],acc,s3,_,_,_,_=>⟨[],s3,.nil,by
  rw[gh,MX];simp![Mx,om,List.isEmpty_nil]⟩
 |
  0,t::ts,acc,s3,h,_,_,_=>by
  rw[AT.cntL] at h;cases t <;> (rw[AT.cnt] at h;omega)
 |
  N+1,t0::ts0,acc,s3,hN,h3,hf,hl=>by
  obtain⟨st,t,hst⟩:∃st t,t0::ts0=st++[t]:=⟨(t0::ts0).dropLast,(t0::ts0).getLast (by simp),(List.dropLast_concat_getLast (by simp)).symm⟩;rw[hst] at hN hf hl ⊢;rw[AT.lvsL_app] at hf;rw[AT.lvsL_app];rw[AT.cntL_app] at hN hl;have hn0:((st++[t]).map (AT.val f)).isEmpty=false:=by cases st <;> rfl
  have c1:(qTr (af 2)).G [.sh v,.ow (.lst (acc.map f)),.ow (.lst ((st++[t]).map (AT.val f))),s3]=.ok true [.sh v,.ow (.lst (acc.map f)),.ow (.lst ((st++[t]).map (AT.val f))),s3]:=by simp![om,hn0,Bool.not_false]
  rw[gh,c1];show ∃l s3',_/\((cx.G _).loop _)=_;rw[MY,x_,Mx];cases t with
  |
   lf k=>
   simp only[AT.lvsL,AT.lvs,MX,AT.cntL,AT.cnt] at hf hN hl ⊢;obtain⟨l,s3',q1,q2⟩:=ie (f:=f) v N st (acc++[k]) (.sh (f k)) (by omega) rfl (λj hj=>hf j (by simp [hj])) (by rw[Em];simp only[D_,Mr];omega);refine⟨k::l,s3',((q1.cons k).trans (List.perm_append_comm (l₁:=[k]) (l₂:=AT.lvsL st))),?_⟩;have i1:(bz cB).G [f k,.ty "tuple"]=.val (.bl false):=by
    have:=hf k (by simp)
    generalize f k=a at *;cases a <;> first |rfl |(cases this;done)
   have al:(acc.map f).length<16777216:=by rw[p_];omega
   have bb:cx.G [.sh v,.ow (.lst (acc.map f)),.ow (.lst (st.map (AT.val f)++[AT.val f (.lf k)])),s3]=.nx [.sh v,.ow (.lst ((acc++[k]).map f)),.ow (.lst (st.map (AT.val f))),.sh (f k)]:=by unfold cx;rw[AT.val,MY,x_,Mx];generalize f k=a at *;simp![m6,h3,i1,al]
   rw[bb,show acc++k::l=acc++[k]++l by simp];exact q2
  |
   nd w ts=>
   simp only[AT.lvsL,AT.lvs,MX,AT.cntL,AT.cnt] at hf hN hl ⊢;obtain⟨l,s3',q1,q2⟩:=ie (f:=f) v N (st++ts) acc (.sh (AT.val f (.nd w ts))) (by rw[AT.cntL_app];omega) rfl (by rw[AT.lvsL_app];exact hf) (by rw[AT.cntL_app];omega);rw[AT.lvsL_app] at q1;refine⟨l,s3',q1,?_⟩;have i1:∀xs:List Val,(bz cB).G [.tup xs,.ty "tuple"]=.val (.bl true):=λ_=>rfl;have le:∀l:List AT,l.length<=AT.cntL l:=by
    intro l;induction l with
    |nil=>exact t_ _
    |cons t l ih=>rw[AT.cntL,D_];cases t <;> (rw[AT.cnt];omega)
   have ll:(st.map (AT.val f)).length+(ts.map (AT.val f)).length<=16777216:=by
    have:=le st
    have:=le ts
    rw[p_,p_];omega
   rw[AT.val,AT.vals_map] at q2 ⊢;rw[MY] at q2;have bb:cx.G [.sh v,.ow (.lst (acc.map f)),.ow (.lst (st.map (AT.val f)++[.tup [.str (wy w),.tup (ts.map (AT.val f))]])),s3]=.nx [.sh v,.ow (.lst (acc.map f)),.ow (.lst (st.map (AT.val f)++ts.map (AT.val f))),.sh (.tup [.str (wy w),.tup (ts.map (AT.val f))])]:=by unfold cx;simp![m6,h3,i1,m3,oI,ll]
   rw[bb];exact q2
def AG{f:Nat->Val}{t:AT}(hf:∀k∈t.lvs,lfV (f k)=true)(hc:t.cnt<=100000):∃l:List Nat,l.Perm t.lvs/\dJ.G [t.val f]=.ok (.new (.lst (l.map f))) []:=by
 have e1:AT.lvsL [t]=t.lvs:=by simp [AT.lvsL]
 have e2:AT.cntL [t]=t.cnt:=by simp [AT.cntL]
 obtain⟨l,s3',q1,q2⟩:=ie (f:=f) (t.val f) (AT.cntL [t]) [t] [] .no (t_ _) rfl (by rw[e1];exact hf) (by rw[e2,Mr];omega);rw[e1] at q1;refine⟨l,q1,?_⟩;rw[x_,Mx,Mx,MR] at q2;unfold dJ;rw[aB];unfold ku;generalize t.val f=tv at *;simp![q2]
def qX{ws:List Int}{l:List Nat}(hl:l.length<=1000)(hi:∀k∈l,k<ws.length):∃s,lcV (gtN 0).G qY.G (pOp bIx (af 1) (af 0)).G (l.map λk:Nat=>.int k) [] [.no,.sh (liV ws)]=.ok ((l.map λk=>ws.getD k 0).map .int) [s,.sh (liV ws)]:=by
 obtain⟨e',⟨s,rfl,_⟩,lc⟩:=cS (g:=(gtN 0).G) (F:=(pOp bIx (af 1) (af 0)).G) (λk:Nat=>Val.int k) (λk:Nat=>Val.int (ws.getD k 0)) (λe=>∃s:Sl,e=[s,.sh (liV ws)]/\s.pl=true) l [] [.no,.sh (liV ws)] ⟨.no,rfl,rfl⟩ (by
  rintro k hk _ ⟨s,rfl,hs⟩;have h1:=hi k hk;have a1:atI (ws.map Val.int) (k:Nat)=some (.int (ws.getD k 0)):=cC (by omega) (by rw[L_];show (ws[k]?).map _=_;rw[Mo,v_ h1];rfl);refine⟨[.sh (.int (k:Nat)),.sh (liV ws)],.val (.int (ws.getD k 0)),[.sh (.int (k:Nat)),.sh (liV ws)],?_,?_,rfl,_,rfl,rfl⟩
  .simp![hs]
  .unfold liV;simp![a1]) (by rw[Mr];omega)
 exact⟨s,by rw[MZ];exact lc⟩
def uL{ws:List Int}{b:Bx}{w:Bool}{ts:List AT}{n m:Nat}(h:AT.lay ws n m (.nd w ts) b)(hnm:n+n+m<=8000)(hi:∀k∈AT.lvsL ts,k<ws.length)(hl:(AT.lvsL ts).length<=1000)(hc:AT.cntL ts<=100000):fA.G [bV b,liV ws,atV (.nd w ts)]=.ok (.new (.lst ((aR b (wy w) (ts.map (wtT ws))).map bV))) []:=by
 rw[AT.lay] at h;obtain⟨h1,h2,h3,h4,h5,h6,_⟩:=h;have ew:wy w="across" \/ wy w="down":=by cases w;exact .inr rfl;exact .inl rfl
 have pe:=jU h1 h2 ew (ws:=ts.map (wtT ws)) (by simpa using h3) (λx hx=>by obtain⟨t,ht,rfl⟩:=Mq.mp hx;exact h5 t ht) h6 hnm (by rw[p_];exact h4);have cle:∀t∈ts,t.cnt<=AT.cntL ts:=λt ht=>AT.cnt_le ht;have lle:∀t∈ts,t.lvs.length<=(AT.lvsL ts).length:=λt ht=>AT.lvs_le ht;obtain⟨e',⟨s,rfl,_⟩,lc⟩:=cS (g:=(gtN 0).G) (F:=(pFn b0 (aa (pLC (bj (ai dJ (aa (af 0) ag))) [none,some 1] (by decide) (gtN 0) qY (pOp bIx (af 1) (af 0))) ag)).G) atV (λt=>Val.int (wtT ws t)) (λe=>∃s:Sl,e=[s,.sh (liV ws)]/\s.pl=true) ts [] [.no,.sh (liV ws)] ⟨.no,rfl,rfl⟩ (by
  rintro t ht _ ⟨s,rfl,hs⟩;obtain⟨l,lp,e1⟩:=AG (f:=λk=>.int (k:Nat)) (t:=t) (λ_ _=>rfl) (by have:=cle t ht;omega);rw[show AT.val (λk=>Val.int (k:Nat)) t=atV t from rfl] at e1;obtain⟨s',lc⟩:=qX (ws:=ws) (l:=l) (by rw[lp.length_eq];have:=lle t ht;omega) (λk hk=>hi k (AT.lvsL_mem.mpr ⟨t,ht,lp.mem_iff.mp hk⟩));have ll:((l.map λk=>ws.getD k 0).map Val.int).length<=16777216:=by rw[p_,p_,lp.length_eq];have:=lle t ht;omega
  have sm:(l.map λk=>ws.getD k 0).sum=wtT ws t:=sy lp;refine⟨[.sh (atV t),.sh (liV ws)],.val (.int (wtT ws t)),[.sh (atV t),.sh (liV ws)],?_,?_,rfl,_,rfl,rfl⟩
  .generalize atV t=tv at *;simp![hs]
  .rw[<- sm];generalize atV t=tv at *;generalize liV ws=wv at *;generalize (l.map λk:Nat=>Val.int (k:Nat))=LV at *;simp![e1,bU,inS,lc,ll]) (by rw[Mr];omega)
 have av:atV (.nd w ts)=.tup [.str (wy w),.tup (ts.map atV)]:=by unfold atV;rw[AT.val,AT.vals_map]
 have lm:ts.map (λt=>Val.int (wtT ws t))=(ts.map (wtT ws)).map .int:=by rw[MZ];rfl
 have l2:((ts.map (wtT ws)).map Val.int).length<=16777216:=by rw[p_,p_];omega
 rw[MR,lm] at lc;rw[av];generalize (aR b (wy w) (ts.map (wtT ws))).map bV=PB at *;generalize (ts.map (wtT ws)).map Val.int=SV at *;generalize ts.map atV=TV at *;generalize liV ws=wv at *;generalize bV b=bv at *;unfold fA;rw[aB];unfold lZ;simp![bU,inS,lc,l2,pe]
theorem l8{ws:List Int}{n m k:Nat}(rv tv:Val):∀(ts:List AT) (bs:List Bx) (kvs:List (Key×Val)) (s4 s5:Sl),s4.pl=true->s5.pl=true->ts.length=bs.length->(∀(t:AT) (b:Bx) (kvs:List (Key×Val)),t∈ts->AT.lay ws n m t b->kvs.length+t.lvs.length<=100000->(dH k).G [bV b,liV ws,atV t,.dct kvs]=.ok (.val .non) [.dct (cN kvs (AT.bx ws t b))])->AT.layL ws n m ts bs->kvs.length+(AT.lvsL ts).length<=100000->
 ∃s4' s5',dN (gtX (gtT 2 (bQ (gtN 4) (bQ (gtN 5) fH)))).G (jb (dH k)).G (List.zipWith (λx y=>Val.tup [x,y]) (ts.map atV) (bs.map bV)) [.sh rv,.sh (liV ws),.sh tv,.mu (.dct kvs),s4,s5]=.nx [.sh rv,.sh (liV ws),.sh tv,.mu (.dct (cN kvs (AT.bxL ws ts bs))),s4',s5']
 | [],bs,kvs,s4,s5,_,_,_,_,_,_=>⟨s4,s5,by cases bs <;> rfl⟩
 |t::ts,[],kvs,s4,s5,_,_,h,_,_,_=>nomatch h
 |
  t::ts,b::bs,kvs,s4,s5,h4,h5,hl,hp,hy,hk=>by
  rw[AT.layL] at hy;rw[AT.lvsL,Em] at hk;have e1:=hp t b kvs (s_ ..) hy.1 (by omega);have a_:=tF (AT.bx ws t b) kvs;have hfst:=(AT.bx_fst ws t b).1;obtain⟨s4',s5',q⟩:=l8 rv tv ts bs (cN kvs (AT.bx ws t b)) (.sh (atV t)) (.sh (bV b)) rfl rfl (by simpa using hl) (λu c kv hu=>hp u c kv (q_ _ hu)) hy.2 (by omega);refine⟨s4',s5',?_⟩;rw[AT.bxL,CQ,x_,x_,List.zipWith_cons_cons,dS];generalize cN kvs (AT.bx ws t b)=kvs1 at *;generalize atV t=av at *;generalize bV b=bv at *;generalize liV ws=wv at *;have g1:(gtX (gtT 2 (bQ (gtN 4) (bQ (gtN 5) fH)))).G (.tup [av,bv]) [.sh rv,.sh wv,.sh tv,.mu (.dct kvs),s4,s5]=some [.sh rv,.sh wv,.sh tv,.mu (.dct kvs),.sh av,.sh bv]:=by simp![h4,h5]
  have b1:(jb (dH k)).G [.sh rv,.sh wv,.sh tv,.mu (.dct kvs),.sh av,.sh bv]=.nx [.sh rv,.sh wv,.sh tv,.mu (.dct kvs1),.sh av,.sh bv]:=by unfold jb;simp![e1]
  rw[g1];dsimp only;rw[b1];exact q
def xQ(b:Bx)(way:Str)(ws:List Int):(aR b way ws).length=ws.length:=by unfold aR;split <;> rw[p_,iE]
def BY{ws:List Int}{n m:Nat}(hnm:n+n+m<=8000)(t:AT):∀(k:Nat) (b:Bx) (kvs:List (Key×Val)),t.dep<=k->AT.lay ws n m t b->(∀i∈t.lvs,i<ws.length)->t.lvs.length<=1000->t.cnt<=100000->kvs.length+t.lvs.length<=100000->(dH k).G [bV b,liV ws,atV t,.dct kvs]=.ok (.val .non) [.dct (cN kvs (AT.bx ws t b))]:=by
 induction t using AT.ind with
 |
  h1 x=>
  intro k b kvs hd _ _ _ _ hk;cases k with
  |zero=>simp [AT.dep] at hd
  |
   succ k=>
   have i1:(bz cB).G [.int (x:Nat),.ty "tuple"]=.val (.bl false):=rfl;have kl:kvs.length<16777216:=by omega
   have av:atV (.lf x)=.int (x:Nat):=rfl;have pe:cN kvs (AT.bx ws (.lf x) b)=ff kvs (.inl (x:Nat)) (bV b):=by rw[AT.bx];rfl
   show (PFx.of [false,false,false,true] 6 (gx (dH k))).G [bV b,liV ws,atV (.lf x),.dct kvs]=_;rw[jt,av,pe];unfold gx;generalize bV b=bv at *;generalize liV ws=wv at *;simp![i1,GJ,kl]
 |
  h2 w ts ih=>
  intro k b kvs hd hy hi hl hc hk;cases k with
  |zero=>simp [AT.dep] at hd
  |
   succ k=>
   rw[AT.dep] at hd;rw[AT.lvs] at hi hl hk;rw[AT.cnt] at hc;have hd':=AT.depL_le.mp (show AT.depL ts<=k by omega);have pe:=uL hy hnm hi hl (by omega);have hy':=hy;rw[AT.lay] at hy';obtain⟨s4,s5,lo⟩:=l8 (ws:=ws) (n:=n) (m:=m) (k:=k) (bV b) (atV (.nd w ts)) ts (aR b (wy w) (ts.map (wtT ws))) kvs .no .no rfl rfl (by rw[xQ,p_]) (λt c kv ht hy2 hk2=>ih t ht k c kv (hd' t ht) hy2 (λi hi2=>hi i (AT.lvsL_mem.mpr ⟨t,ht,hi2⟩)) (by have:=AT.lvs_le ht;omega) (by have:=AT.cnt_le ht;omega) hk2) hy'.2.2.2.2.2.2 hk;have av:atV (.nd w ts)=.tup [.str (wy w),.tup (ts.map atV)]:=by unfold atV;rw[AT.val,AT.vals_map]
   have bxe:AT.bx ws (.nd w ts) b=AT.bxL ws ts (aR b (wy w) (ts.map (wtT ws))):=by rw[AT.bx]
   show (PFx.of [false,false,false,true] 6 (gx (dH k))).G [bV b,liV ws,atV (.nd w ts),.dct kvs]=_;rw[jt,bxe];unfold gx;rw[av] at pe lo ⊢;have i1:∀xs:List Val,(bz cB).G [.tup xs,.ty "tuple"]=.val (.bl true):=λ_=>rfl;generalize cN kvs (AT.bxL ws ts (aR b (wy w) (ts.map (wtT ws))))=kvs1 at *;generalize (aR b (wy w) (ts.map (wtT ws))).map bV=PB at *;generalize ts.map atV=TV at *;generalize bV b=bv at *;generalize liV ws=wv at *;simp![i1,m3,pe,lo]
def si{ws:List Int}{n m:Nat}{b:Bx}{t:AT}(hnm:n+n+m<=8000)(hb:b.Ok)(h0:ws≠[])(hw:∀w∈ws,1<=w)(h40:ws.length<=40)(ho:t.ok=true)(hi:∀k,k∈t.lvs ↔ k<ws.length)(nd:t.lvs.Nodup)(hl:t.lvs.length=ws.length)(hd:t.dep<=42)(hy:AT.lay ws n m t b):cH.G [bV b,liV ws,atV t]=.ok (.new (.lst ((List.range ws.length).map λk=>bV (bxO (AT.bx ws t b) k)))) []:=by
 have hc:=AT.cnt_lvs t ho;have cb:=bq hb;have cw:=gg h0 hw h40;have ct:=pB (n:=ws.length) ho (λk hk=>(hi k).mp hk) nd hl (by omega) (by omega);have pl:=BY (ws:=ws) hnm t 42 b [] hd hy (λk hk=>(hi k).mp hk) (by omega) (by omega) (by rw[Mr];omega);have ll:((ws.map Val.int).length:Nat)=ws.length:=p_ ..;have rg:hU [.int (ws.length:Nat)]=some (rgV ws.length):=nQ (by omega);have keys:=AT.bx_keys ws t b;obtain⟨e',⟨s,rfl,_⟩,lc⟩:=cS (g:=(gtN 0).G) (F:=(pOp xU (af 1) (af 0)).G) (λk:Nat=>Val.int k) (λk:Nat=>bV (bxO (AT.bx ws t b) k)) (λe=>∃s:Sl,e=[s,.mu (.dct (cN [] (AT.bx ws t b)))]/\s.pl=true) (List.range ws.length) [] [.no,.mu (.dct (cN [] (AT.bx ws t b)))] ⟨.no,rfl,rfl⟩ (by
  rintro k hk _ ⟨s,rfl,hs⟩;rw[Mu] at hk;have lk:=J7 ((vV (k:=k) (AT.bx ws t b) [] (by rw[keys];exact nd)).1 (by rw[keys];exact (hi k).mpr hk));generalize cN [] (AT.bx ws t b)=kv at *;generalize bV (bxO (AT.bx ws t b) k)=bv at *;refine⟨[.sh (.int (k:Nat)),.mu (.dct kv)],.val bv,[.sh (.int (k:Nat)),.mu (.dct kv)],?_,?_,rfl,_,rfl,rfl⟩
  .simp![hs]
  .simp![lk]) (by rw[Mr,A_];omega)
 have l2:((List.range ws.length).map λk=>bV (bxO (AT.bx ws t b) k)).length<=16777216:=by simp;omega
 rw[MR] at lc;rw[show (List.range ws.length).map (λk:Nat=>Val.int k)=rgV ws.length from rfl] at lc;generalize (List.range ws.length).map (λk=>bV (bxO (AT.bx ws t b) k))=RB at *;generalize cN [] (AT.bx ws t b)=kv at *;unfold liV at pl ⊢;generalize atV t=tv at *;generalize bV b=bv at *;unfold cH;rw[aB];unfold mr;simp![cb,cw,ll,ct,pl,rg,bU,inS,lc,l2]
def ny{ns:List Int}{k:Int}(hk:0<=k):∃a,de.G [.kl (ns.map .int),.int k]=.ok (.new (fdV a 0 k)) []:=by
 unfold de;rw[aB];unfold mR fdV;by_cases h0:ns.length=0
 .have e:((((ns.map Val.int).length:Nat):Int)==0)=true:=by rw[MD,p_];omega
  exact⟨0,by simp![e]⟩
 .have e:((((ns.map Val.int).length:Nat):Int)==0)=false:=by rw[H_,p_];omega
  have e1:cz.G (.int k) (.int ((ns.map Val.int).length:Nat))=.val (.int (k.fmod ((ns.map Val.int).length:Nat))):=fD (by rw[p_];omega);have r:=dY (a:=k) (m:=((ns.map Val.int).length:Nat)) (by rw[p_];omega);rw[p_] at r e1;have hi:(k.fmod (ns.length:Nat)).toNat<ns.length:=by omega
  have at1:atI (ns.map Val.int) (k.fmod (ns.length:Nat))=some (.int ns[(k.fmod (ns.length:Nat)).toNat]):=cC r.1 (by rw[L_,v_ hi];rfl);rw[p_] at e;exact⟨ns[(k.fmod (ns.length:Nat)).toNat],by simp![p_,e,e1,at1]⟩
def pow6:gp.G (.int 10) (.int 6)=.val (.int 1000000):=qK ⟨by decide,by decide,by decide⟩
def La:hU [.int 6]=some [.int 0,.int 1,.int 2,.int 3,.int 4,.int 5]:=nj (i:=6) (by decide) (by decide)
def fI{a b k far:Int}(h0:0<=far)(hf:far.natAbs<=2000000000000000000000000000000):∃r a' b',bp.G [fdV a b k,.int far]=.ok (.val (.int r)) [fdV a' b' k]/\-far<=r/\r<=far:=by obtain⟨r1,a1,b1,e1,_,_⟩:=aD (a:=a) (b:=b) (k:=k) (m:=1000000) (by decide) (sm8 (by decide));obtain⟨r2,a2,b2,e2,_,_⟩:=aD (a:=a1) (b:=b1) (k:=k) (m:=1000000) (by decide) (sm8 (by decide));obtain⟨r3,a3,b3,e3,_,_⟩:=aD (a:=a2) (b:=b2) (k:=k) (m:=1000000) (by decide) (sm8 (by decide));obtain⟨r4,a4,b4,e4,_,_⟩:=aD (a:=a3) (b:=b3) (k:=k) (m:=1000000) (by decide) (sm8 (by decide));obtain⟨r5,a5,b5,e5,_,_⟩:=aD (a:=a4) (b:=b4) (k:=k) (m:=1000000) (by decide) (sm8 (by decide));obtain⟨r6,a6,b6,e6,_,_⟩:=aD (a:=a5) (b:=b5) (k:=k) (m:=1000000) (by decide) (sm8 (by decide));have c6:∀x:Int,aV.G (.int x) (.int 1000000)=.val (.int (x*1000000)):=λx=>bE (CMulA.right (by decide) (by decide));have c2:aV.G (.int 2) (.int far)=.val (.int (2*far)):=bE (CMulA.left (by decide) (by decide));have c3:∀x:Int,cz.G (.int x) (.int (2*far+1))=.val (.int (x.fmod (2*far+1))):=λx=>fD (by omega);have fr:=dY (a:=(((((0*1000000+r1)*1000000+r2)*1000000+r3)*1000000+r4)*1000000+r5)*1000000+r6) (m:=2*far+1) (by omega);refine⟨((((((0*1000000+r1)*1000000+r2)*1000000+r3)*1000000+r4)*1000000+r5)*1000000+r6).fmod (2*far+1)-far,a6,b6,?_,by omega,by omega⟩;unfold bp;rw[aB];unfold kD jH;unfold fdV at *;simp![La,dS,pow6,c6,e1,e2,e3,e4,e5,e6,c2,c3,Int.reduceMul]
theorem ui(x y:Val):∀(n one b_:Nat),b_<=n->(xWh (qOf (pOp bGt (af 3) (ah 0))) gv).G [.sh x,.sh y,.sh (.int (one:Nat)),.sh (.int (b_:Nat))]=.nx [.sh x,.sh y,.sh (.int (Nat.gcd one b_:Nat)),.sh (.int 0)]
 |
  n,one,0,_=>by
  rw[gh];simp![Nat.gcd_zero_right,Int.natCast_zero,Int.lt_irrefl]
 |0,one,b_+1,hl=>absurd hl (by omega)
 |
  n+1,one,b_+1,hl=>by
  rw[gh];have e:decide ((0:Int)<((b_+1:Nat):Int))=true:=I_ (by omega);have e1:cz.G (.int (one:Nat)) (.int ((b_+1:Nat):Int))=.val (.int (((one:Nat):Int).fmod ((b_+1:Nat):Int))):=fD (by omega);have e2:((one:Nat):Int).fmod ((b_+1:Nat):Int)=((one % (b_+1):Nat):Int):=by rw[Int.fmod_eq_emod_of_nonneg _ (by omega)];rfl
  have ih:=ui x y n (b_+1) (one % (b_+1)) (by have:=Nat.mod_lt one (show b_+1>0 by omega);omega);rw[Fr.euc] at ih;rw[e2] at e1;have bb:gv.G [.sh x,.sh y,.sh (.int (one:Nat)),.sh (.int ((b_+1:Nat):Int))]=.nx [.sh x,.sh y,.sh (.int ((b_+1:Nat):Int)),.sh (.int ((one % (b_+1):Nat):Int))]:=by unfold gv;simp![e1]
  simp![e,bb,ih]
def gQ{a b:Int}(hb:b≠0)(hs:Sm 8000 b):bP.G [.int a,.int b]=.ok (.val (fV ((a:Rat)/(b:Rat)))) []:=by
 unfold bP;rw[aB];unfold o6;have lo:=ui (.int a) (.int b) b.natAbs a.natAbs b.natAbs (t_ _);rw[show Nat.gcd a.natAbs b.natAbs=Int.gcd a b from rfl] at lo;have c:∀x,CDivB x (Fr.dv a b):=λx=>CDivB.of (Fr.dv_ne hb) (hs.of_le (by rw[Fr.dv_abs];exact Nat.le_of_dvd (by omega) (Nat.gcd_dvd_right a.natAbs b.natAbs)));have k1:=j6 (c a);have k2:=j6 (c b);have hh:=ma (a:=a) hb;have j_:Val.tup [.int (a.fdiv (Fr.dv a b)),.int (b.fdiv (Fr.dv a b))]=fV ((a:Rat)/(b:Rat)):=by unfold fV;rw[<- hh.1,<- hh.2];rfl
 by_cases hn:b<0
 .have hd:Fr.dv a b=0-((Int.gcd a b:Nat):Int):=by unfold Fr.dv;rw[if_pos hn];omega
  rw[hd] at k1 k2 j_;simp![gA,lo,I_ hn,k1,k2,j_]
 .have hd:Fr.dv a b=((Int.gcd a b:Nat):Int):=by unfold Fr.dv;rw[if_neg hn]
  rw[hd] at k1 k2 j_;simp![gA,lo,E_ hn,k1,k2,j_]
def p30:gp.G (.int 10) (.int 30)=.val (.int 1000000000000000000000000000000):=qK ⟨by decide,by decide,by decide⟩
def rmQ(k:Int)(r:SR3):Prop:=∃b a c,Good b/\jC [true] r=.ok (.val (bV b)) [fdV a c k]
def rmI(k way:Int)(e:E3):Prop:=∃b x a c,Good b/\x.pl=true/\e=[.mu (fdV a c k),.sh (.int way),.sh (fV b.l),.sh (fV b.t),.sh (fV b.w),.sh (fV b.h),x]
def jj{r:Int}(h:0<=r):0<1+r:=by omega
def xy{r:Int}(h:0<=r):1+r≠0:=by omega
def iu{r m:Int}(h0:0<=r)(h1:r<m)(hm:m<=1000):(1+r).natAbs<=2000000000000000000000000000000:=by omega
def p7{r m c:Int}(h0:0<=r)(h1:r<m)(hm:m<=1000)(hc:0<=c/\c<=1000):(r-c).natAbs<=2000000000000000000000000000000:=by omega
def nM{r far:Int}(h0:-far<=r)(h1:r<=far)(hf:far<=1000000000000000000000000000000):r.natAbs<=2000000000000000000000000000000/\(1+((r.natAbs:Nat):Int)).natAbs<=2000000000000000000000000000000:=by omega
def qI{r:Int}:0<1+((r.natAbs:Nat):Int):=by omega
def zP{r:Int}(h:0<r):r≠0:=by omega
def ED(a c k:Int):∃b a' c',Good b/\fC.G [fdV a c k]=.ok (.val (bV b)) [fdV a' c' k]:=by
 unfold fC;rw[wz rfl];show rmQ k (iS.G [.mu (fdV a c k),.no,.no,.no,.no,.no,.no]);unfold iS;obtain⟨way,a1,c1,e1,hw0,hw1⟩:=aD (a:=a) (b:=c) (k:=k) (m:=6) (by decide) (sm8 (by decide));refine aF (λe=>e=[.mu (fdV a1 c1 k),.sh (.int way),.no,.no,.no,.no,.no]) ⟨_,by simp![e1],rfl⟩ ?_;rintro _ rfl;obtain⟨l,a2,c2,e2,hl0,hl1⟩:=aD (a:=a1) (b:=c1) (k:=k) (m:=19) (by decide) (sm8 (by decide));obtain⟨t,a3,c3,e3,ht0,ht1⟩:=aD (a:=a2) (b:=c2) (k:=k) (m:=19) (by decide) (sm8 (by decide));refine aF (λe=>e=[.mu (fdV a3 c3 k),.sh (.int way),.sh (fV ((l-9:Int):Rat)),.sh (fV ((t-9:Int):Rat)),.no,.no,.no]) ⟨_,by simp![e2,e3,iV],rfl⟩ ?_;rintro _ rfl;obtain⟨w,a4,c4,e4,hww0,hww1⟩:=aD (a:=a3) (b:=c3) (k:=k) (m:=12) (by decide) (sm8 (by decide));obtain⟨hh,a5,c5,e5,hh0,hh1⟩:=aD (a:=a4) (b:=c4) (k:=k) (m:=12) (by decide) (sm8 (by decide));refine aF (rmI k way) ⟨[.mu (fdV a5 c5 k),.sh (.int way),.sh (fV ((l-9:Int):Rat)),.sh (fV ((t-9:Int):Rat)),.sh (fV ((1+w:Int):Rat)),.sh (fV ((1+hh:Int):Rat)),.no],by simp![e4,e5,iV],⟨_,_,_,_⟩,.no,a5,c5,⟨⟨fQ (jj hww0),fQ (jj hh0)⟩,⟨gf (p7 hl0 hl1 (by decide) (by decide)),gf (p7 ht0 ht1 (by decide) (by decide)),gf (iu hww0 hww1 (by decide)),gf (iu hh0 hh1 (by decide))⟩⟩,rfl,rfl⟩ ?_;rintro _ ⟨b,x,a,c,gb,hx,rfl⟩;refine aF (rmI k way) ?_ ?_
 .by_cases hw:way=1
  .subst hw;exact⟨[.mu (fdV a c k),.sh (.int 1),.sh (fV b.l),.sh (fV b.t),.sh (fV b.w),.sh (fV b.w),x],by simp![iU],⟨b.l,b.t,b.w,b.w⟩,x,a,c,⟨⟨gb.ok.w,gb.ok.w⟩,⟨gb.sz.l,gb.sz.t,gb.sz.w,gb.sz.w⟩⟩,hx,rfl⟩
  .exact⟨_,by simp![H_.mpr hw],b,x,a,c,gb,hx,rfl⟩
 rintro _ ⟨b,x,a,c,gb,hx,rfl⟩;refine aF (rmI k way) ?_ ?_
 .by_cases hw:way=2
  .subst hw;obtain⟨r,a1,c1,e1,h0,h1⟩:=aD (a:=a) (b:=c) (k:=k) (m:=99) (by decide) (sm8 (by decide));exact⟨[.mu (fdV a1 c1 k),.sh (.int 2),.sh (fV b.l),.sh (fV b.t),.sh (fV ((1+r:Int):Rat)),.sh (fV b.h),x],by simp![e1,iV],⟨b.l,b.t,((1+r:Int):Rat),b.h⟩,x,a1,c1,⟨⟨fQ (jj h0),gb.ok.h⟩,⟨gb.sz.l,gb.sz.t,gf (iu h0 h1 (by decide)),gb.sz.h⟩⟩,hx,rfl⟩
  .exact⟨_,by simp![H_.mpr hw],b,x,a,c,gb,hx,rfl⟩
 rintro _ ⟨b,x,a,c,gb,hx,rfl⟩;refine aF (rmI k way) ?_ ?_
 .by_cases hw:way=3
  .subst hw;obtain⟨r,a1,c1,e1,h0,h1⟩:=aD (a:=a) (b:=c) (k:=k) (m:=99) (by decide) (sm8 (by decide));exact⟨[.mu (fdV a1 c1 k),.sh (.int 3),.sh (fV b.l),.sh (fV b.t),.sh (fV b.w),.sh (fV ((1+r:Int):Rat)),x],by simp![e1,iV],⟨b.l,b.t,b.w,((1+r:Int):Rat)⟩,x,a1,c1,⟨⟨gb.ok.w,fQ (jj h0)⟩,⟨gb.sz.l,gb.sz.t,gb.sz.w,gf (iu h0 h1 (by decide))⟩⟩,hx,rfl⟩
  .exact⟨_,by simp![H_.mpr hw],b,x,a,c,gb,hx,rfl⟩
 rintro _ ⟨b,x,a,c,gb,hx,rfl⟩;refine aF (rmI k way) ?_ ?_
 .by_cases hw:way=4
  .subst hw;obtain⟨r1,a1,c1,e1,h10,h11⟩:=aD (a:=a) (b:=c) (k:=k) (m:=199) (by decide) (sm8 (by decide));obtain⟨r2,a2,c2,e2,h20,h21⟩:=aD (a:=a1) (b:=c1) (k:=k) (m:=30) (by decide) (sm8 (by decide));obtain⟨r3,a3,c3,e3,h30,h31⟩:=aD (a:=a2) (b:=c2) (k:=k) (m:=9) (by decide) (sm8 (by decide));obtain⟨r4,a4,c4,e4,h40,h41⟩:=aD (a:=a3) (b:=c3) (k:=k) (m:=99) (by decide) (sm8 (by decide));obtain⟨r5,a5,c5,e5,h50,h51⟩:=aD (a:=a4) (b:=c4) (k:=k) (m:=30) (by decide) (sm8 (by decide));obtain⟨r6,a6,c6,e6,h60,h61⟩:=aD (a:=a5) (b:=c5) (k:=k) (m:=99) (by decide) (sm8 (by decide));have l1:=gQ (a:=r1-99) (b:=1+r2) (xy h20) (jY (iu h20 h21 (by decide)));have l2:=gQ (a:=r3) (b:=7) (by decide) (jY (by decide));have l3:=gQ (a:=1+r4) (b:=1+r5) (xy h50) (jY (iu h50 h51 (by decide)));have l4:=gQ (a:=1+r6) (b:=11) (by decide) (jY (by decide));exact⟨[.mu (fdV a6 c6 k),.sh (.int 4),.sh (fV (((r1-99:Int):Rat)/((1+r2:Int):Rat))),.sh (fV (((r3:Int):Rat)/((7:Int):Rat))),.sh (fV (((1+r4:Int):Rat)/((1+r5:Int):Rat))),.sh (fV (((1+r6:Int):Rat)/((11:Int):Rat))),x],by simp![e1,e2,e3,e4,e5,e6,l1,l2,l3,l4],⟨_,_,_,_⟩,x,a6,c6,⟨⟨fS (jj h40) (jj h50),fS (jj h60) (by decide)⟩,⟨gz (xy h20) (p7 h10 h11 (by decide) (by decide)) (iu h20 h21 (by decide)),gz (by decide) (by have:=p7 (c:=0) h30 h31 (by decide) (by decide);rw[Int.sub_zero] at this;exact this) (by decide),gz (xy h50) (iu h40 h41 (by decide)) (iu h50 h51 (by decide)),gz (by decide) (iu h60 h61 (by decide)) (by decide)⟩⟩,hx,rfl⟩
  .exact⟨_,by simp![H_.mpr hw],b,x,a,c,gb,hx,rfl⟩
 rintro _ ⟨b,x,a,c,gb,hx,rfl⟩;refine aF (rmI k way) ?_ ?_
 .by_cases hw:way=5
  .subst hw;obtain⟨r1,a1,c1,e1,h10,h11⟩:=fI (a:=a) (b:=c) (k:=k) (far:=999999999999999999999999999999) (by decide) (by decide);obtain⟨r2,a2,c2,e2,h20,h21⟩:=fI (a:=a1) (b:=c1) (k:=k) (far:=999999999999999999999999999998) (by decide) (by decide);obtain⟨r3,a3,c3,e3,h30,h31⟩:=fI (a:=a2) (b:=c2) (k:=k) (far:=999999999999999999999999999999) (by decide) (by decide);obtain⟨r4,a4,c4,e4,h40,h41⟩:=fI (a:=a3) (b:=c3) (k:=k) (far:=999999999999999999999999999998) (by decide) (by decide);obtain⟨r5,a5,c5,e5,h50,h51⟩:=fI (a:=a4) (b:=c4) (k:=k) (far:=999999999999999999999999999998) (by decide) (by decide);have n2:=gA r2;have n4:=gA r4;have n5:=gA r5;have l1:=gQ (a:=r1) (b:=1+((r2.natAbs:Nat):Int)) (zP qI) (jY (nM h20 h21 (by decide)).2);have l4:=gQ (a:=1+((r5.natAbs:Nat):Int)) (b:=999999999999999999999999999999) (by decide) (jY (by decide));exact⟨[.mu (fdV a5 c5 k),.sh (.int 5),.sh (fV (((r1:Int):Rat)/((1+((r2.natAbs:Nat):Int):Int):Rat))),.sh (fV ((r3:Int):Rat)),.sh (fV ((1+((r4.natAbs:Nat):Int):Int):Rat)),.sh (fV (((1+((r5.natAbs:Nat):Int):Int):Rat)/((999999999999999999999999999999:Int):Rat))),.sh (.int 999999999999999999999999999999)],by simp![hx,p30,e1,e2,e3,e4,e5,n2,n4,n5,l1,l4,iV],⟨_,_,_,_⟩,_,a5,c5,⟨⟨fQ qI,fS qI (by decide)⟩,⟨gz (zP qI) (nM h10 h11 (by decide)).1 (nM h20 h21 (by decide)).2,gf (nM h30 h31 (by decide)).1,gf (nM h40 h41 (by decide)).2,gz (by decide) (nM h50 h51 (by decide)).2 (by decide)⟩⟩,rfl,rfl⟩
  .exact⟨_,by simp![H_.mpr hw],b,x,a,c,gb,hx,rfl⟩
 rintro _ ⟨b,x,a,c,gb,hx,rfl⟩;refine⟨b,a,c,gb,?_⟩;simp![lK,bV]
noncomputable def lwB (b:Bx):Bool:=!decide (b.w<b.h)
def dM{b:Bx}{n:Nat}(hb:b.Ok)(hs:b.Sz n)(h:n<=8000):bK.G [bV b]=.ok (.val (.str (wy (lwB b)))) []:=by
 have cb:=bq hb;have il:=jn hs.w hs.h (by omega) (by omega);have ib:(bV b).items=some [fV b.l,fV b.t,fV b.w,fV b.h]:=rfl;unfold bK lwB;rw[aB];unfold l9;by_cases hl:b.w<b.h
 .rw[I_ hl] at il ⊢;simp![cb,ib,il];rfl
 .rw[E_ hl] at il ⊢;simp![cb,ib,il];rfl
def Bd(m B:Nat)(b:Bx)(n:Nat):Prop:=∃D A,Rp D A B b/\B<=A/\1<=A/\(A+n*B)*(D*2^(m*n))<2^2000
def Bd.fine{m B n:Nat}{b:Bx}(h:Bd m B b n):b.Ok/\b.Sz 2000:=by obtain⟨D,A,r,hBA,hA,hq⟩:=h;exact r.fine hBA hA hq
def Bd.ok{m B n:Nat}{b:Bx}(h:Bd m B b n):b.Ok:=h.fine.1
def Bd.sz{m B n:Nat}{b:Bx}(h:Bd m B b n):b.Sz 2000:=h.fine.2
def Bd.part{m B n k:Nat}{b c:Bx}{way:Str}{ws:List Int}(h:Bd m B b n)(hw:∀w∈ws,1<=w)(hS:ws.sum<2^m)(hc:c∈aR b way ws)(hk:k<n):Bd m B c k:=by
 obtain⟨D,A,r,hBA,hA,hq⟩:=h;have hT:ws.sum.toNat<=2^m:=by
  have h4:((2^m:Nat):Int)=(2:Int)^m:=by push_cast;rfl
  rw[<- h4] at hS;generalize 2^m=X at hS ⊢;clear hq;omega
 refine⟨D*ws.sum.toNat,A+B,r.parts hw hc,by omega,by omega,Nu (MW ?_ ?_) hq⟩
 .have:(k+1)*B<=n*B:=Nz _ hk;rw[Nat.add_mul,Nat.one_mul] at this;omega
 .rw[OP];refine Nl _ ?_;have e:2^m*2^(m*k)=2^(m*(k+1)):=by rw[<- NK];congr 1;rw[Nat.mul_add,Nat.mul_one,Nat.add_comm]
  exact My (Nz _ hT) (by rw[e];exact MN (by decide) (Nl _ hk))
def tK(b:Bx)(w:Bool)(x y:Int):aR b (wy w) [x,y]=[ba b w (x+y) 0 x,ba b w (x+y) x y]:=by rw[jL];simp [frm]
def yU(w:Bool):wy w="across" \/ wy w="down":=by cases w;exact .inr rfl;exact .inl rfl
def lR{m:Nat}{S:Int}(h0:0<=S)(h:S<2^m):Sm m S:=by
 show S.natAbs<2^m;have h4:((2^m:Nat):Int)=(2:Int)^m:=by push_cast;rfl
 rw[<- h4] at h;omega
def jm{b:Bx}{xs:List Int}{m B n i:Nat}(hb:Bd m B b n)(hm:m<=104)(h1:1<=(xs.take i).sum)(h2:1<=(xs.drop i).sum)(hS:(xs.take i).sum+(xs.drop i).sum<2^m):cu.G [bV b,liV xs,.int (i:Nat)]=.ok (.new (.lst [bV (ba b (lwB b) ((xs.take i).sum+(xs.drop i).sum) 0 (xs.take i).sum),bV (ba b (lwB b) ((xs.take i).sum+(xs.drop i).sum) (xs.take i).sum (xs.drop i).sum)])) []:=by
 have lw:=dM hb.ok hb.sz (by decide);have pe:=jU (way:=wy (lwB b)) (ws:=[(xs.take i).sum,(xs.drop i).sum]) (m:=m) hb.ok hb.sz (yU _) (by simp) (λw hw=>by
  rcases F_.mp hw with rfl |hw
  .exact h1
  .rw[MC.mp hw];exact h2) (by
  rw[show [(xs.take i).sum,(xs.drop i).sum].sum=(xs.take i).sum+(xs.drop i).sum from by simp];exact lR (by omega) hS) (by omega) (by show 2<=40;decide)
 rw[tK] at pe;simp only[x_,Mx] at pe;have ct:=fE (xs.map Val.int) i;have cd:=eY (xs.map Val.int) i;rw[<- M_] at ct;rw[<- Np] at cd;have m1:=bO (xs.take i);have m2:=bO (xs.drop i);unfold cu;rw[aB];unfold jO;unfold liV;generalize (xs.take i).map Val.int=w1 at *;generalize (xs.drop i).map Val.int=w2 at *;generalize xs.map Val.int=w3 at *;generalize bV (ba b (lwB b) ((xs.take i).sum+(xs.drop i).sum) 0 (xs.take i).sum)=b1 at *;generalize bV (ba b (lwB b) ((xs.take i).sum+(xs.drop i).sum) (xs.take i).sum (xs.drop i).sum)=b2 at *;generalize bV b=bv at *;generalize wy (lwB b)=yy at *;simp![lw,dB,ct,cd,m1,m2,pe]
def kW{p q:Rat}(hq:q≠0):p/q=((p.num*q.den:Int):Rat)/((p.den*q.num:Int):Rat):=by
 have h1:=gB (cL p);have h2:=gB (cL q);have h3:q.num≠0:=λz=>hq (O5.mp z);have h4:=gB h3
 conv=>lhs;rw[eC p,eC q]
 rw[M8,M8];simp only[Od,Rat.inv_mul_rev,Rat.inv_inv];rw[Rat.mul_assoc,Rat.mul_assoc,Rat.mul_comm (((p.den:Int):Rat))⁻¹,Rat.mul_assoc]
def v3{p q:Rat}{n m:Nat}(hp:Sz n p)(hq:Sz m q)(h0:0<q)(h:n+m<=8000):iR.G [fV p,fV q]=.ok (.val (fV (p/q))) []:=by
 have c1:=bE (CMulA.of hp.top hq.bot (by omega) (by omega));have c2:=bE (CMulA.of hp.bot hq.top (by omega) (by omega));have hq0:q≠0:=λz=>by rw[z] at h0;exact absurd h0 (by decide)
 have hn:q.num≠0:=λz=>hq0 (O5.mp z);have fe:=dG (a:=p.num*q.den) (b:=p.den*q.num) (N8 (cL p) hn) ((hp.bot.mul hq.top).mono h);rw[<- kW hq0] at fe;unfold iR;rw[aB];unfold zO;rw[show fV p=.tup [.int p.num,.int p.den] from rfl,show fV q=.tup [.int q.num,.int q.den] from rfl];simp![c1,c2,fe]
def kK{b:Bx}{n:Nat}(hb:b.Ok)(hs:b.Sz n)(h:n+n<=8000):eI.G [bV b]=.ok (.val (fV (aA b))) []:=by
 have lw:=dM hb hs (by omega);have ib:(bV b).items=some [fV b.l,fV b.t,fV b.w,fV b.h]:=rfl;have o1:=v3 hs.w hs.h hb.2 h;have o2:=v3 hs.h hs.w hb.1 h;unfold eI aA;rw[aB];unfold vS;by_cases hl:b.w<b.h
 .rw[show wy (lwB b)="down" from by unfold lwB;rw[I_ hl];rfl] at lw;rw[if_pos hl];simp![lw,ib,o1,o2,rj]
 .rw[show wy (lwB b)="across" from by unfold lwB;rw[E_ hl];rfl] at lw;rw[if_neg hl];simp![lw,ib,o1,o2,tu]
def Sz.over{p q:Rat}{n m:Nat}(hp:Sz n p)(hq:Sz m q)(h0:0<q):Sz (n+m) (p/q):=by
 have hq0:q≠0:=λz=>by rw[z] at h0;exact absurd h0 (by decide)
 have hn:q.num≠0:=λz=>hq0 (O5.mp z);rw[kW hq0];exact Sz.div (N8 (cL p) hn) (hp.top.mul hq.bot) (hp.bot.mul hq.top) (n+m) (t_ _) (t_ _)
def mS{b:Bx}{n:Nat}(hb:b.Ok)(hs:b.Sz n):Sz (n+n) (aA b):=by
 unfold aA;split
 .exact Sz.over hs.h hs.w hb.1
 .exact Sz.over hs.w hs.h hb.2
noncomputable def inT (f:List Int->Nat) (ws:List Int):Nat->Bx->List Nat->AT
 |0,_,l=>.lf (l.headD 0)
 |N
  + 1,b,l=>if l.length=1 then .lf (l.headD 0) else
  .nd (lwB b) [inT f ws N (ba b (lwB b) (wtA ws l) 0 (wtA ws (l.take (f (l.map λk=>ws.getD k 0))))) (l.take (f (l.map λk=>ws.getD k 0))),
   inT f ws N (ba b (lwB b) (wtA ws l) (wtA ws (l.take (f (l.map λk=>ws.getD k 0)))) (wtA ws (l.drop (f (l.map λk=>ws.getD k 0))))) (l.drop (f (l.map λk=>ws.getD k 0)))]
structure HowM(f:List Int->Nat)(nm:Str)(D:List Int->Prop):Prop where
 tk:∀xs i,D xs->D (xs.take i)
 dr:∀xs i,D xs->D (xs.drop i)
 lt:∀xs:List Int,D xs->2<=xs.length->(∀w∈xs,1<=w)->1<=f xs/\f xs<xs.length
 ev:∀(xs:List Int) (bv lv:Val),D xs->2<=xs.length->xs.length<=40->(∀w∈xs,1<=w)->(ax false 4 (lP [("nearest_to_half",bB),("fewest_to_third",bC)] (af 3) (aa (af 2) ag))).G [.sh bv,.sh lv,.sh (liV xs),.sh (.glb nm),.no,.no,.no,.no,.no]=.nx [.sh bv,.sh lv,.sh (liV xs),.sh (.glb nm),.sh (.int (f xs:Nat)),.no,.no,.no,.no]
def yJ{l:List Nat}{i N n:Nat}(h0:l.length<=N+1)(h1:1<=i)(h2:i<l.length)(hl:l.length<=n):((l.take i).length<=N/\1<=(l.take i).length/\(l.take i).length<=n/\(l.take i).length<l.length)/\(l.drop i).length<=N/\1<=(l.drop i).length/\(l.drop i).length<=n/\(l.drop i).length<l.length:=by rw[MH,Nr];omega
def vg{l:List Nat}{i:Nat}{w:Bool}{s t:AT}(h1:1<=i)(h2:i<l.length)(a:s.dep<=(l.take i).length)(b:t.dep<=(l.drop i).length):(AT.nd w [s,t]).dep<=l.length:=by rw[MH] at a;rw[Nr] at b;rw[AT.dep,AT.depL,AT.depL,AT.depL];omega
def xZ{n:Nat}{x:Int}(h:(n:Int)<=x)(h1:1<=n):1<=x:=by omega
def ttQ(v:Val)(r:SR3):Prop:=jC [false,false,false,false] r=.ok (.val v) []
theorem mO{f:List Int->Nat}{nm:Str}{D:List Int->Prop}(H:HowM f nm D){ws:List Int}{m B:Nat}(hm:m<=104)(hS:∀l:List Nat,(∀k∈l,k<ws.length)->l.length<=ws.length->wtA ws l<2^m)(hw:∀w∈ws,1<=w)(hn:ws.length<=40):∀(N:Nat) (l:List Nat) (b:Bx),l.length<=N->1<=l.length->l.length<=ws.length->(∀k∈l,k<ws.length)->Bd m B b l.length->D (l.map λk=>ws.getD k 0)->
 (aT N).G [bV b,itV l,liV (l.map λk=>ws.getD k 0),.glb nm]=.ok (.val (atV (inT f ws N b l))) []/\(inT f ws N b l).ok=true/\(inT f ws N b l).lvs=l/\(inT f ws N b l).dep<=l.length
 |0,l,b,h0,h1,_,_,_,_=>by omega
 |
  N+1,l,b,h0,h1,hl,hi,hB,hD=>by
  by_cases hl1:l.length=1
  .obtain⟨k,rfl⟩:=Oa.mp hl1;have a0:atI [Val.int (k:Nat)] 0=some (.int (k:Nat)):=cC (by decide) rfl;have te:inT f ws (N+1) b [k]=.lf k:=by rw[inT];exact if_pos rfl
   rw[te];refine⟨?_,rfl,rfl,by simp [AT.dep]⟩;show (PFx.of [false,false,false,false] 9 (bT (aT N))).G _=_;rw[jt,show atV (.lf k)=.int (k:Nat) from rfl,show itV [k]=.lst [.int (k:Nat)] from rfl];unfold bT;generalize bV b=bv;generalize liV _=wv;simp![a0]
  .have h2:2<=l.length:=by omega
   have hp:∀k∈l,1<=ws.getD k 0:=λj hj=>by rw[Mo,v_ (hi j hj)];exact hw _ (NI _)
   have xl:(l.map λk=>ws.getD k 0).length=l.length:=p_ ..;have xp:∀w∈l.map λk=>ws.getD k 0,1<=w:=λw hw=>by obtain⟨j,hj,rfl⟩:=Mq.mp hw;exact hp j hj
   obtain⟨g1,g2⟩:=H.lt _ hD (by rw[xl];exact h2) xp;have ev:=H.ev (l.map λk=>ws.getD k 0) (bV b) (itV l) hD (by rw[xl];exact h2) (by rw[xl];exact My hl hn) xp;rw[inT,if_neg hl1];have ht:∀i,∀j∈l.take i,j∈l:=λi j hj=>Nj hj;have hd:∀i,∀j∈l.drop i,j∈l:=λi j hj=>NZ hj;have wt:∀i,((l.map λk=>ws.getD k 0).take i).sum=wtA ws (l.take i):=λi=>by unfold wtA;rw[M_]
   have wd:∀i,((l.map λk=>ws.getD k 0).drop i).sum=wtA ws (l.drop i):=λi=>by unfold wtA;rw[Np]
   generalize hh:f (l.map λk=>ws.getD k 0)=i at *;rw[xl] at g2;obtain⟨⟨t1,t2,t3,t4⟩,d1,d2,d3,d4⟩:=yJ h0 g1 g2 hl;have p1:=dg (l:=(l.take i).map λk=>ws.getD k 0) (λw hw=>by obtain⟨j,hj,rfl⟩:=Mq.mp hw;exact hp j (ht i j hj));have p2:=dg (l:=(l.drop i).map λk=>ws.getD k 0) (λw hw=>by obtain⟨j,hj,rfl⟩:=Mq.mp hw;exact hp j (hd i j hj));rw[p_] at p1 p2;replace p1:=xZ p1 t2;replace p2:=xZ p2 d2;have sp:wtA ws l=wtA ws (l.take i)+wtA ws (l.drop i):=by unfold wtA;rw[<- OC,<- MY,MU]
   rw[show ((l.take i).map λk=>ws.getD k 0).sum=wtA ws (l.take i) from rfl] at p1;rw[show ((l.drop i).map λk=>ws.getD k 0).sum=wtA ws (l.drop i) from rfl] at p2;have hs:=hS l hi hl;have ct2:=jm (xs:=l.map λk=>ws.getD k 0) (i:=i) hB hm (by rw[wt];exact p1) (by rw[wd];exact p2) (by rw[wt,wd,<- sp];exact hs);have mt:(l.map λk=>ws.getD k 0).take i=(l.take i).map λk=>ws.getD k 0:=by rw[M_]
   have md:(l.map λk=>ws.getD k 0).drop i=(l.drop i).map λk=>ws.getD k 0:=by rw[Np]
   rw[wt,wd,<- sp] at ct2;have pm:∀c∈[ba b (lwB b) (wtA ws l) 0 (wtA ws (l.take i)),ba b (lwB b) (wtA ws l) (wtA ws (l.take i)) (wtA ws (l.drop i))],∀k,k<l.length->Bd m B c k:=λc hc k hk=>hB.part (way:=wy (lwB b)) (ws:=[wtA ws (l.take i),wtA ws (l.drop i)]) (λw hw=>by
    rcases F_.mp hw with rfl |hw
    .exact p1
    .rw[MC.mp hw];exact p2) (by rw[show [wtA ws (l.take i),wtA ws (l.drop i)].sum=wtA ws l from by rw[sp];simp];exact hs) (by rw[tK,<- sp];exact hc) hk
   obtain⟨a1,a3,a4,a5⟩:=mO H hm hS hw hn N (l.take i) _ t1 t2 t3 (λj hj=>hi j (ht i j hj)) (pm _ (s_ ..) _ t4) (by rw[<- mt];exact H.tk _ _ hD);obtain⟨b1,b3,b4,b5⟩:=mO H hm hS hw hn N (l.drop i) _ d1 d2 d3 (λj hj=>hi j (hd i j hj)) (pm _ (q_ _ (s_ ..)) _ d4) (by rw[<- md];exact H.dr _ _ hD);have lw:=dM hB.ok hB.sz (by decide);generalize inT f ws N (ba b (lwB b) (wtA ws l) 0 (wtA ws (l.take i))) (l.take i)=T1 at *;generalize inT f ws N (ba b (lwB b) (wtA ws l) (wtA ws (l.take i)) (wtA ws (l.drop i))) (l.drop i)=T2 at *;refine⟨?_,?_,?_,?_⟩
   .rw[show atV (.nd (lwB b) [T1,T2])=.tup [.str (wy (lwB b)),.tup [atV T1,atV T2]] from rfl];generalize ba b (lwB b) (wtA ws l) 0 (wtA ws (l.take i))=B1 at *;generalize ba b (lwB b) (wtA ws l) (wtA ws (l.take i)) (wtA ws (l.drop i))=B2 at *;have ctl:=fE (l.map λk:Nat=>Val.int k) i;have cdl:=eY (l.map λk:Nat=>Val.int k) i;rw[<- M_] at ctl;rw[<- Np] at cdl;have ctx:=fE ((l.map λk=>ws.getD k 0).map Val.int) i;have cdx:=eY ((l.map λk=>ws.getD k 0).map Val.int) i;rw[<- M_,mt] at ctx;rw[<- Np,md] at cdx;have n1:(((l.length:Nat):Int)==1)=false:=by rw[H_];omega
    have ll:((l.map λk:Nat=>Val.int k).length:Nat)=l.length:=p_ ..;show (PFx.of [false,false,false,false] 9 (bT (aT N))).G _=_;rw[yE rfl];show ttQ _ ((bT (aT N)).G [.sh (bV b),.sh (itV l),.sh (liV (l.map λk=>ws.getD k 0)),.sh (.glb nm),.no,.no,.no,.no,.no]);unfold bT;unfold itV at a1 b1 ev ⊢;unfold liV at a1 b1 ct2 ev ⊢;generalize bV b=bv at *;generalize bV B1=bv1 at *;generalize bV B2=bv2 at *;generalize atV T1=t1 at *;generalize atV T2=t2 at *;generalize wy (lwB b)=yy at *;generalize (l.take i).map (λk:Nat=>Val.int k)=l1 at *;generalize (l.drop i).map (λk:Nat=>Val.int k)=l2 at *;generalize ((l.take i).map λk=>ws.getD k 0).map Val.int=x1 at *;generalize ((l.drop i).map λk=>ws.getD k 0).map Val.int=x2 at *;generalize (l.map λk=>ws.getD k 0).map Val.int=x0 at *;generalize l.map (λk:Nat=>Val.int k)=l0 at *;refine aF (λe=>e=[.sh bv,.sh (.lst l0),.sh (.lst x0),.sh (.glb nm),.no,.no,.no,.no,.no]) ⟨_,by simp![ll,n1],rfl⟩ ?_;rintro _ rfl;refine aF (λe=>e=[.sh bv,.sh (.lst l0),.sh (.lst x0),.sh (.glb nm),.sh (.int (i:Nat)),.no,.no,.no,.no]) ⟨_,ev,rfl⟩ ?_;rintro _ rfl;unfold ttQ;simp![ct2,dB,ctl,cdl,ctx,cdx,a1,b1,lw,lK]
   .rw[AT.ok,AT.okL,AT.okL,AT.okL,a3,b3];rfl
   .rw[AT.lvs,AT.lvsL,AT.lvsL,AT.lvsL,a4,b4,MX,MU]
   .exact vg g1 g2 a5 b5
def p29:gp.G (.int 10) (.int 29)=.val (.int 100000000000000000000000000000):=qK ⟨by decide,by decide,by decide⟩
def IP{r:Int}(h0:0<=r)(h1:r<24):∃z,1<=z/\z<=8388608/\qW.G (.int 1) (.int r)=.val (.int z):=by
 have c1:(1:Nat)<=2^r.toNat:=Nat.one_le_two_pow;have c2:2^r.toNat<=2^23:=MN (by decide) (by omega);have e:(2:Int)^r.toNat=((2^r.toNat:Nat):Int):=by rw[Int.natCast_pow];rfl
 refine⟨1*2^r.toNat,?_,?_,K7 ⟨h0,by omega,by decide⟩⟩
 .rw[Int.one_mul,e];exact Int.ofNat_le.mpr c1
 .rw[Int.one_mul,e];exact Int.ofNat_le.mpr c2
def EC{ns:List Int}{at_ most many more sty hg k:Int}{acc:List Int}{s9:Sl}(h9:s9.pl=true)(hk:0<=k/\k<=40)(hs:0<=sty/\sty<6)(hh:1<=hg/\hg<=24)(a c q:Int):
 ∃w a' c',1<=w/\w<=8388608/\(ax false 10 (pOp bIx (cX (aa (ah 1) (aa (pOp aX (ah 1) (ai ao (aa (af 3) (aa (ah 9) ag)))) (aa (pOp qW (ah 1) (pOp cz (af 9) (af 8))) (aa (pOp aX (ah 1) (ai ao (aa (af 3) (aa (ah 9) ag)))) (aa (ah 1) (aa (pOp aX (ah 1) (ai ao (aa (af 3) (aa (ah 3) ag)))) ag))))))) (af 6))).G [.sh (.kl (ns.map .int)),.sh (.int at_),.sh (.int most),.ow (fdV a c q),.sh (.int many),.sh (.int more),.sh (.int sty),.ow (.lst (acc.map .int)),.sh (.int hg),.sh (.int k),s9]=.nx [.sh (.kl (ns.map .int)),.sh (.int at_),.sh (.int most),.ow (fdV a' c' q),.sh (.int many),.sh (.int more),.sh (.int sty),.ow (.lst (acc.map .int)),.sh (.int hg),.sh (.int k),.sh (.int w)]:=by
 obtain⟨r1,a1,c1,e1,l1,u1⟩:=aD (a:=a) (b:=c) (k:=q) (m:=9) (by decide) (sm8 (by decide));obtain⟨r2,a2,c2,e2,l2,u2⟩:=aD (a:=a1) (b:=c1) (k:=q) (m:=9) (by decide) (sm8 (by decide));obtain⟨r3,a3,c3,e3,l3,u3⟩:=aD (a:=a2) (b:=c2) (k:=q) (m:=3) (by decide) (sm8 (by decide));have fm:=dY (a:=k) (m:=hg) (by omega);have km:=fD (i:=k) (j:=hg) (by omega);have sh:=IP fm.1 (by omega);obtain⟨z,z1,z2,z3⟩:=sh;have hc:sty=0\/sty=1\/sty=2\/sty=3\/sty=4\/sty=5:=by omega
 have at6:∃w,1<=w/\w<=8388608/\atI [Val.int 1,.int (1+r1),.int z,.int (1+r2),.int 1,.int (1+r3)] sty=some (.int w):=by
  rcases hc with rfl |rfl |rfl |rfl |rfl |rfl
  .exact⟨1,by decide,by decide,rfl⟩
  .exact⟨1+r1,by omega,by omega,rfl⟩
  .exact⟨z,z1,z2,rfl⟩
  .exact⟨1+r2,by omega,by omega,rfl⟩
  .exact⟨1,by decide,by decide,rfl⟩
  .exact⟨1+r3,by omega,by omega,rfl⟩
 obtain⟨w,w1,w2,w3⟩:=at6;refine⟨w,a3,c3,w1,w2,?_⟩;simp![e1,e2,e3,km,z3,w3,h9]
def wtI(ns:List Int)(at_ most many more sty hg k:Int)(acc:List Int)(e:E3):Prop:=∃w a c q,1<=w/\w<=1000000000000000000000000000000/\(sty<3->w<=8388608)/\e=[.sh (.kl (ns.map .int)),.sh (.int at_),.sh (.int most),.ow (fdV a c q),.sh (.int many),.sh (.int more),.sh (.int sty),.ow (.lst (acc.map .int)),.sh (.int hg),.sh (.int k),.sh (.int w)]
def wtQ(ns:List Int)(at_ most many more sty hg k:Int)(acc:List Int)(r:SR3):Prop:=∃w s3,1<=w/\w<=1000000000000000000000000000000/\(sty<3->w<=8388608)/\s3.pl=true/\r=.nx [.sh (.kl (ns.map .int)),.sh (.int at_),.sh (.int most),s3,.sh (.int many),.sh (.int more),.sh (.int sty),.ow (.lst ((acc++[w]).map .int)),.sh (.int hg),.sh (.int k),.sh (.int w)]
def Et{ns:List Int}{at_ most many more sty hg k:Int}{acc:List Int}{s3 s9:Sl}(h3:s3.pl=true)(h9:s9.pl=true)(ha:0<=at_)(hk:0<=k/\k<=40)(hs:0<=sty/\sty<6)(hh:1<=hg/\hg<=24)(hl:acc.length<=1000):
 wtQ ns at_ most many more sty hg k acc (eg.G [.sh (.kl (ns.map .int)),.sh (.int at_),.sh (.int most),s3,.sh (.int many),.sh (.int more),.sh (.int sty),.ow (.lst (acc.map .int)),.sh (.int hg),.sh (.int k),s9]):=by
 unfold eg;obtain⟨f,ef⟩:=ny (ns:=ns) (k:=at_+1+k) (by omega);refine aF (λe=>e=[.sh (.kl (ns.map .int)),.sh (.int at_),.sh (.int most),.ow (fdV f 0 (at_+1+k)),.sh (.int many),.sh (.int more),.sh (.int sty),.ow (.lst (acc.map .int)),.sh (.int hg),.sh (.int k),s9]) ⟨_,by simp![ef,h3],rfl⟩ ?_;rintro _ rfl;refine aF (wtI ns at_ most many more sty hg k acc) ?_ ?_
 .obtain⟨w,a,c,w1,w2,e⟩:=EC (ns:=ns) (at_:=at_) (most:=most) (many:=many) (more:=more) (acc:=acc) h9 hk hs hh f 0 (at_+1+k);exact⟨_,e,w,a,c,_,w1,by omega,λ_=>w2,rfl⟩
 rintro _ ⟨w,a,c,q,w1,w2,w3,rfl⟩;refine aF (wtI ns at_ most many more sty hg k acc) ?_ ?_
 .by_cases h:sty=3
  .subst h;obtain⟨r1,a1,c1,e1,l1,u1⟩:=aD (a:=a) (b:=c) (k:=q) (m:=4) (by decide) (sm8 (by decide));obtain⟨r2,a2,c2,e2,l2,u2⟩:=aD (a:=a1) (b:=c1) (k:=q) (m:=100) (by decide) (sm8 (by decide));by_cases hr:r1=0
   .subst hr;exact⟨[.sh (.kl (ns.map .int)),.sh (.int at_),.sh (.int most),.ow (fdV a2 c2 q),.sh (.int many),.sh (.int more),.sh (.int 3),.ow (.lst (acc.map .int)),.sh (.int hg),.sh (.int k),.sh (.int (100000000000000000000000000000+r2))],by simp![e1,e2,p29],_,_,_,_,by omega,by omega,λz=>absurd z (by decide),rfl⟩
   .exact⟨[.sh (.kl (ns.map .int)),.sh (.int at_),.sh (.int most),.ow (fdV a1 c1 q),.sh (.int many),.sh (.int more),.sh (.int 3),.ow (.lst (acc.map .int)),.sh (.int hg),.sh (.int k),.sh (.int w)],by simp![e1,H_.mpr hr],_,_,_,_,w1,w2,w3,rfl⟩
  .exact⟨_,by simp![H_.mpr h],w,a,c,q,w1,w2,w3,rfl⟩
 rintro _ ⟨w,a,c,q,w1,w2,w3,rfl⟩;refine aF (wtI ns at_ most many more sty hg k acc) ?_ ?_
 .by_cases h:sty=4
  .subst h;obtain⟨r1,a1,c1,e1,l1,u1⟩:=fI (a:=a) (b:=c) (k:=q) (far:=999999999999999999999999999998) (by decide) (by decide);exact⟨[.sh (.kl (ns.map .int)),.sh (.int at_),.sh (.int most),.ow (fdV a1 c1 q),.sh (.int many),.sh (.int more),.sh (.int 4),.ow (.lst (acc.map .int)),.sh (.int hg),.sh (.int k),.sh (.int (1+if r1<0 then -r1 else r1))],by simp![e1,p30],_,_,_,_,by split <;> omega,by split <;> omega,λz=>absurd z (by decide),rfl⟩
  .exact⟨_,by simp![H_.mpr h],w,a,c,q,w1,w2,w3,rfl⟩
 rintro _ ⟨w,a,c,q,w1,w2,w3,rfl⟩;have ll:(acc.map Val.int).length<16777216:=by rw[p_];omega
 refine⟨w,.ow (fdV a c q),w1,w2,w3,rfl,?_⟩;rw[MY,x_,Mx];simp![ll]
theorem vt{ns:List Int}{at_ most many more sty hg:Int}(ha:0<=at_)(hs:0<=sty/\sty<6)(hh:1<=hg/\hg<=24):∀(ks:List Nat) (acc:List Int) (s3 s8 s9:Sl),s3.pl=true->s8.pl=true->s9.pl=true->(∀k∈ks,k<=40)->acc.length+ks.length<=1000->
 ∃(ws:List Int) (s3' s8' s9':Sl),ws.length=ks.length/\(∀w∈ws,1<=w/\w<=1000000000000000000000000000000/\(sty<3->w<=8388608))/\dN (gtN 9).G eg.G (ks.map λk:Nat=>Val.int (k:Nat)) [.sh (.kl (ns.map .int)),.sh (.int at_),.sh (.int most),s3,.sh (.int many),.sh (.int more),.sh (.int sty),.ow (.lst (acc.map .int)),.sh (.int hg),s8,s9]=.nx [.sh (.kl (ns.map .int)),.sh (.int at_),.sh (.int most),s3',.sh (.int many),.sh (.int more),.sh (.int sty),.ow (.lst ((acc++ws).map .int)),.sh (.int hg),s8',s9']
 | [],acc,s3,s8,s9,_,_,_,_,_=>⟨[],s3,s8,s9,rfl,(λ_ h=>nomatch h),by rw[Mx,iM,MX]⟩
 |
  k::ks,acc,s3,s8,s9,h3,h8,h9,hk,hl=>by
  rw[D_] at hl;obtain⟨w,t3,w1,w2,w3,p3,e⟩:=Et (ns:=ns) (at_:=at_) (most:=most) (many:=many) (more:=more) (sty:=sty) (k:=(k:Nat)) (acc:=acc) h3 h9 ha ⟨by omega,by have:=hk k (s_ ..);omega⟩ hs hh (by omega);obtain⟨ws,s3',s8',s9',q1,q2,q3⟩:=vt (ns:=ns) (most:=most) (many:=many) (more:=more) ha hs hh ks (acc++[w]) t3 (.sh (.int (k:Nat))) (.sh (.int w)) p3 rfl rfl (λj hj=>hk j (q_ _ hj)) (by rw[Em];show acc.length+1+_<=_;omega);refine⟨w::ws,s3',s8',s9',by rw[D_,D_,q1],λx hx=>?_,?_⟩
  .rcases F_.mp hx with rfl |hx
   .exact⟨w1,w2,w3⟩
   .exact q2 x hx
  .have g1:(gtN 9).G (.int (k:Nat)) [.sh (.kl (ns.map .int)),.sh (.int at_),.sh (.int most),s3,.sh (.int many),.sh (.int more),.sh (.int sty),.ow (.lst (acc.map .int)),.sh (.int hg),s8,s9]=some [.sh (.kl (ns.map .int)),.sh (.int at_),.sh (.int most),s3,.sh (.int many),.sh (.int more),.sh (.int sty),.ow (.lst (acc.map .int)),.sh (.int hg),.sh (.int (k:Nat)),s9]:=by simp![h8]
   rw[x_,dS,g1];dsimp only;rw[e];show dN _ _ _ _=_;rw[q3,OK];rfl
def div8{x:Int}:jr.G (.int x) (.int 8)=.val (.int (x.fdiv 8)):=j6 (CDivB.of (by decide) (sm8 (by decide)))
def wsQ(M:Int)(r:SR3):Prop:=∃ws:List Int,1<=ws.length/\(ws.length:Int)<=M/\(∀w∈ws,1<=w/\w<=1000000000000000000000000000000)/\(9<ws.length->∀w∈ws,w<=8388608)/\jC [false,false,false] r=.ok (.new (liV ws)) []
def ws_a{x most M:Int}(h:x<=most)(h1:most<=M)(h7:7<=M):1<=(if x>1 then x else 1)/\(if x>1 then x else 1)<=M:=by split <;> omega
def ws_b{most:Int}(h1:1<=most)(h2:most<=40):0<(if (7:Int)<most then 7 else most)/\Sm 8000 (if (7:Int)<most then 7 else most):=by
 split
 .exact⟨by decide,sm8 (by decide)⟩
 .exact⟨by omega,sm8 (by omega)⟩
def ws_c{r most:Int}(h:r<if (7:Int)<most then 7 else most):1+r<=7:=by split at h <;> omega
def xJ{ns:List Int}{at_ most:Int}(ha:0<=at_)(hm:1<=most/\most<=40):∃ws:List Int,1<=ws.length/\(ws.length:Int)<=max most 7/\(∀w∈ws,1<=w/\w<=1000000000000000000000000000000)/\(9<ws.length->∀w∈ws,w<=8388608)/\dq.G [.kl (ns.map .int),.int at_,.int most]=.ok (.new (liV ws)) []:=by
 have x1:most<=max most 7:=Int.le_max_left ..;have x7:(7:Int)<=max most 7:=Int.le_max_right ..;have x4:max most 7<=40:=Int.max_le.mpr ⟨hm.2,by decide⟩;generalize max most 7=M at *;unfold dq;rw[wz rfl];show wsQ M (gm.G [.sh (.kl (ns.map .int)),.sh (.int at_),.sh (.int most),.no,.no,.no,.no,.no,.no,.no,.no]);unfold gm;obtain⟨f,ef⟩:=ny (ns:=ns) (k:=at_) ha;refine aF (λe=>e=[.sh (.kl (ns.map .int)),.sh (.int at_),.sh (.int most),.ow (fdV f 0 at_),.no,.no,.no,.no,.no,.no,.no]) ⟨_,by simp![ef],rfl⟩ ?_;rintro _ rfl;obtain⟨r1,a1,c1,e1,l1,u1⟩:=aD (a:=f) (b:=0) (k:=at_) (m:=if (7:Int)<most then 7 else most) (ws_b hm.1 hm.2).1 (ws_b hm.1 hm.2).2;refine aF (λe=>e=[.sh (.kl (ns.map .int)),.sh (.int at_),.sh (.int most),.ow (fdV a1 c1 at_),.sh (.int (1+r1)),.no,.no,.no,.no,.no,.no]) ⟨_,by simp![e1],rfl⟩ ?_;rintro _ rfl;have b1:1+r1<=7:=ws_c u1;obtain⟨r2,a2,c2,e2,l2,u2⟩:=aD (a:=a1) (b:=c1) (k:=at_) (m:=6) (by decide) (sm8 (by decide));refine aF (λe=>e=[.sh (.kl (ns.map .int)),.sh (.int at_),.sh (.int most),.ow (fdV a2 c2 at_),.sh (.int (1+r1)),.sh (.int r2),.no,.no,.no,.no,.no]) ⟨_,by simp![e2],rfl⟩ ?_;rintro _ rfl;refine aF (λe=>∃many:Int,1<=many/\many<=M/\e=[.sh (.kl (ns.map .int)),.sh (.int at_),.sh (.int most),.ow (fdV a2 c2 at_),.sh (.int many),.sh (.int r2),.no,.no,.no,.no,.no]) ?_ ?_
 .have mm:=bE (i:=1+r1) (j:=most) (CMulA.of (sm8 (m:=1+r1) (by omega)) (sm8 (m:=most) (by omega)) (by decide) (by decide));by_cases h:r2<2
  .have dl:((1+r1)*most).fdiv 8<=most:=by rw[Int.fdiv_eq_ediv_of_nonneg _ (by decide)];have:(1+r1)*most<=7*most:=Int.mul_le_mul_of_nonneg_right b1 (by omega);omega
   have hc:r2=0\/r2=1:=by omega
   rcases hc with rfl |rfl
   .exact⟨_,by simp![mm,div8],most,hm.1,x1,rfl⟩
   .exact⟨_,by simp![mm,div8],(if ((1+r1)*most).fdiv 8>1 then ((1+r1)*most).fdiv 8 else 1),(ws_a dl x1 x7).1,(ws_a dl x1 x7).2,rfl⟩
  .exact⟨_,by simp![E_ h],1+r1,Int.le_add_of_nonneg_right l1,Int.le_trans b1 x7,rfl⟩
 rintro _ ⟨many,m1,m2,rfl⟩;obtain⟨r3,a3,c3,e3,l3,u3⟩:=aD (a:=a2) (b:=c2) (k:=at_) (m:=6) (by decide) (sm8 (by decide));refine aF (λe=>e=[.sh (.kl (ns.map .int)),.sh (.int at_),.sh (.int most),.ow (fdV a3 c3 at_),.sh (.int many),.sh (.int r2),.sh (.int r3),.no,.no,.no,.no]) ⟨_,by simp![e3],rfl⟩ ?_;rintro _ rfl;refine aF (λe=>∃sty:Int,0<=sty/\sty<6/\(9<many->sty<3)/\e=[.sh (.kl (ns.map .int)),.sh (.int at_),.sh (.int most),.ow (fdV a3 c3 at_),.sh (.int many),.sh (.int r2),.sh (.int sty),.no,.no,.no,.no]) ?_ ?_
 .have km:=fD (i:=r3) (j:=3) (by decide);have fm:=dY (a:=r3) (m:=3) (by decide);by_cases h:9<many
  .exact⟨_,by simp![I_ h,km],r3.fmod 3,fm.1,Int.lt_trans fm.2 (by decide),λ_=>fm.2,rfl⟩
  .exact⟨_,by simp![E_ h],r3,l3,u3,λz=>absurd z h,rfl⟩
 rintro _ ⟨sty,t0,t1,t2,rfl⟩;refine aF (λe=>e=[.sh (.kl (ns.map .int)),.sh (.int at_),.sh (.int most),.ow (fdV a3 c3 at_),.sh (.int many),.sh (.int r2),.sh (.int sty),.ow (.lst []),.no,.no,.no]) ⟨_,by simp![Mr],rfl⟩ ?_;rintro _ rfl;refine aF (λe=>∃hg:Int,1<=hg/\hg<=24/\e=[.sh (.kl (ns.map .int)),.sh (.int at_),.sh (.int most),.ow (fdV a3 c3 at_),.sh (.int many),.sh (.int r2),.sh (.int sty),.ow (.lst []),.sh (.int hg),.no,.no]) ?_ ?_
 .by_cases h:9<many
  .exact⟨_,by simp![I_ h],4,by decide,by decide,rfl⟩
  .exact⟨_,by simp![E_ h],24,by decide,by decide,rfl⟩
 rintro _ ⟨hg,g1,g2,rfl⟩;have rg:=nj (i:=many) (by omega) (by omega);obtain⟨ws,s3,s8,s9,q1,q2,q3⟩:=vt (ns:=ns) (at_:=at_) (most:=most) (many:=many) (more:=r2) (sty:=sty) (hg:=hg) ha ⟨t0,t1⟩ ⟨g1,g2⟩ (List.range many.toNat) [] (.ow (fdV a3 c3 at_)) .no .no rfl rfl rfl (λk hk=>by have:=Mu.mp hk;omega) (by rw[Mr,A_];omega);rw[A_] at q1;rw[MR,Mx] at q3;unfold rgV at rg;refine⟨ws,by omega,by omega,λw hw=>⟨(q2 w hw).1,(q2 w hw).2.1⟩,λh w hw=>(q2 w hw).2.2 (t2 (by omega)),?_⟩;unfold liV;simp![rg,q3];rfl
theorem lC:∀(n:Nat) (l:List Nat),l.length=n->(∀i,i<n->i∈l)->l.Perm (List.range n)
 |0,l,h,_=>by rw[OI.mp h];exact List.Perm.refl _
 |
  n+1,l,h,hm=>by
  have h1:=hm n (by omega);have p:=List.perm_cons_erase h1;have q:=lC n (l.erase n) (by rw[List.length_erase_of_mem h1];omega) λi hi=>(List.mem_erase_of_ne (by omega)).mpr (hm i (by omega));rw[List.range_succ];exact p.trans ((q.cons n).trans (List.perm_append_singleton n _).symm)
def Ax{t:AT}{o:List Nat}{n:Nat}(T:TOk t o)(ho:∀i,i∈o ↔ i<n)(hl:o.length=n):t.lvs.Nodup:=
 (lC n t.lvs (by rw[T.len,hl]) λi hi=>(T.mem i).mpr ((ho i).mpr hi)).nodup_iff.mpr OS
def mJ{q:Rat}{k D:Nat}(hs:Sz 101 q)(hD:D=q.den*k)(hk:0<k):∃z:Int,q=(z:Rat)/((D:Int):Rat)/\z.natAbs<=2^101*D/\(0<q->0<z/\z<=((2^101:Nat):Int)*(D:Int)):=by
 have dp:=q.den_pos;have hn:q.num.natAbs<2^101:=hs.1;have hz:(q.num*(k:Int)).natAbs<=2^101*D:=by rw[Nb,Int.natAbs_natCast,hD];exact MW (by omega) (Nat.le_mul_of_pos_left _ dp)
 refine⟨q.num*(k:Int),?_,hz,λh=>⟨Int.mul_pos (iQ.mpr h) (by omega),?_⟩⟩
 .have:=lM (y:=q.num) (W:=(k:Int)) dp (by omega)
  rw[M3,<- hD] at this;rw[<- this];exact eC q
 .rw[<- NP];generalize q.num*(k:Int)=z at *;generalize 2^101*D=y at *;omega
def DV{b:Bx}(g:Good b):∃D,D<2^404/\Rp D (2^101) (2^101) b:=by
 have dl:=b.l.den_pos;have dt:=b.t.den_pos;have dw:=b.w.den_pos;have dh:=b.h.den_pos;have sz:∀q:Rat,Sz 101 q->q.den<=2^101:=λq h=>by have:(q.den:Int).natAbs<2^101:=h.2;omega
 have k1:=Ny (Ny dt dw) dh;have k2:=Ny (Ny dl dw) dh;have k3:=Ny (Ny dl dt) dh;have k4:=Ny (Ny dl dt) dw;refine⟨b.l.den*(b.t.den*b.w.den*b.h.den),?_,Ny dl k1,?_,?_,?_,?_⟩
 .have a1:b.l.den<2^101:=by have:(b.l.den:Int).natAbs<2^101:=g.sz.l.2;omega
  have a2:=MW (MW (sz _ g.sz.t) (sz _ g.sz.w)) (sz _ g.sz.h)
  calc b.l.den*(b.t.den*b.w.den*b.h.den)<=b.l.den*(2^101*2^101*2^101):=Nl _ a2
   _<2^101*(2^101*2^101*2^101):=Nat.mul_lt_mul_of_pos_right a1 (by decide)
   _=2^404:=by rw[<- NK,<- NK,<- NK]
 .obtain⟨z,h1,h2,_⟩:=mJ (D:=b.l.den*(b.t.den*b.w.den*b.h.den)) g.sz.l rfl k1;exact⟨z,h1,h2⟩
 .obtain⟨z,h1,h2,_⟩:=mJ (D:=b.l.den*(b.t.den*b.w.den*b.h.den)) (k:=b.l.den*b.w.den*b.h.den) g.sz.t (by ac_rfl) k2;exact⟨z,h1,h2⟩
 .obtain⟨z,h1,_,h2⟩:=mJ (D:=b.l.den*(b.t.den*b.w.den*b.h.den)) (k:=b.l.den*b.t.den*b.h.den) g.sz.w (by ac_rfl) k3;exact⟨z,h1,h2 g.ok.w⟩
 .obtain⟨z,h1,_,h2⟩:=mJ (D:=b.l.den*(b.t.den*b.w.den*b.h.den)) (k:=b.l.den*b.t.den*b.w.den) g.sz.h (by ac_rfl) k4;exact⟨z,h1,h2 g.ok.h⟩
structure WOk(ws:List Int):Prop where
 pos:1<=ws.length
 len:ws.length<=40
 wt:∀w∈ws,1<=w/\w<=1000000000000000000000000000000
 few:10<ws.length->∀w∈ws,w<=8388608
theorem jA{ws:List Int}{M:Int}:∀{l:List Nat},(∀k∈l,ws.getD k 0<=M)->wtA ws l<=(l.length:Int)*M
 | [],_=>by simp [wtA]
 |
  k::l,h=>by
  have h1:=h k (s_ ..);have h2:=jA (l:=l) λj hj=>h j (q_ _ hj);unfold wtA at h2 ⊢;rw[x_,MB,D_,Int.natCast_add,Int.add_mul];omega
def DD{ws:List Int}{t:AT}{o:List Nat}{b:Bx}(g:Good b)(W:WOk ws)(T:TOk t o)(ho:∀i,i∈o ↔ i<ws.length)(hl:o.length=ws.length):(∀k∈t.lvs,1<=ws.getD k 0)/\∃D m,m<=104/\Rp D (2^101) (2^101) b/\(2^101+t.dep*2^101)*(D*2^(m*t.dep))<2^2000/\wtT ws t<2^m:=by
 obtain⟨D,hD,R⟩:=DV g;have hlt:∀k∈t.lvs,k<ws.length:=λk hk=>(ho k).mp ((T.mem k).mp hk);have hin:∀k∈t.lvs,ws.getD k 0∈ws:=λk hk=>by rw[Mo,v_ (hlt k hk)];exact NI _
 have hd:=T.dep;have len:=T.len;have wl:=W.len;refine⟨λk hk=>(W.wt _ (hin k hk)).1,D,?_⟩;have key:∀m,m*t.dep<=1218->m<=104->wtT ws t<2^m->∃m,m<=104/\Rp D (2^101) (2^101) b/\(2^101+t.dep*2^101)*(D*2^(m*t.dep))<2^2000/\wtT ws t<2^m:=λm h1 h2 h3=>by
  refine⟨m,h2,R,?_,h3⟩;have a1:2^101+t.dep*2^101<=2^107:=by
   have h1:=Nz (2^101) (show t.dep<=40 by omega);have h2:2^107=64*2^101:=by decide
   rw[h2];generalize 2^101=X at *;omega
  have a2:2^(m*t.dep)<=2^1218:=MN (by decide) h1;have a3:=MW a1 (MW (Ol hD) a2);refine Nu a3 ?_;rw[<- NK,<- NK];exact Nat.pow_lt_pow_right (by decide) (by decide)
 by_cases h9:10<ws.length
 .refine key 29 (by omega) (by decide) ?_
  have:=jA (M:=8388608) λk hk=>W.few h9 _ (hin k hk)
  unfold wtT;have:(2:Int)^29=536870912:=by decide
  omega
 .refine key 104 (by omega) (by decide) ?_
  have:=jA (M:=1000000000000000000000000000000) λk hk=>(W.wt _ (hin k hk)).2
  unfold wtT;have:(2:Int)^104=20282409603651670423947251286016:=by decide
  omega
def xS{ws:List Int}{t:AT}{o:List Nat}{b:Bx}(g:Good b)(W:WOk ws)(T:TOk t o)(ho:∀i,i∈o ↔ i<ws.length)(hl:o.length=ws.length):∃m,m<=104/\AT.lay ws 2000 m t b:=by obtain⟨hw,D,m,h1,R,h2,h3⟩:=DD g W T ho hl;have len:=T.len;have wl:=W.len;exact⟨m,h1,GF t b D (2^101) R (t_ _) (by decide) h2 T.ok hw h3 (by omega)⟩
theorem vX(m:Int):∀xs:List Int,gG (.int m) (xs.map .int)=some (xs.map (· == m))
 | []=>rfl
 |x::xs=>by rw[x_,gG,vX m xs,Eb];rfl
def yj{xs:List Int}{m:Int}(h:m∈xs):(xs.map (· == m)).idxOf true<xs.length/\fi.G (.lst (xs.map .int)) [.int m]=.val (.int ((xs.map (· == m)).idxOf true:Nat)):=by have hm:true∈xs.map (· == m):=Mq.mpr ⟨m,h,OU m⟩;have hl:=OF.mpr hm;refine⟨by rw[p_] at hl;exact hl,?_⟩;show d9 (.lst (xs.map .int)) [.int m]=_;unfold d9;dsimp only;rw[vX];dsimp only;rw[if_pos hl]
noncomputable def apt (ws:List Int):List Int:=(List.range (ws.length-1)).map λi=>((2*(ws.take (i+1)).sum-ws.sum).natAbs:Int)
noncomputable def gH (ws:List Int):Nat:=((apt ws).map (· == mnI (apt ws))).idxOf true+1
def vT(ws:List Int):(apt ws).length=ws.length-1:=by unfold apt;rw[p_,A_]
def ng{ws:List Int}(h:2<=ws.length):apt ws≠[]/\1<=gH ws/\gH ws<ws.length/\fi.G (liV (apt ws)) [.int (mnI (apt ws))]=.val (.int ((gH ws-1:Nat):Int)):=by
 have hl:=vT ws;have h0:apt ws≠[]:=λz=>by rw[z] at hl;simp at hl;omega
 obtain⟨h1,h2⟩:=yj (n6 h0);refine⟨h0,by unfold gH;omega,by unfold gH;omega,?_⟩;unfold gH liV;rw[Nat.add_sub_cancel];exact h2
def He{ws:List Int}(hl:ws.length<=1000):∃s,lcV (gtN 0).G qY.G (pFn er (aa (pOp eM (pOp aV (ah 2) (pFn b0 (aa (pSl (af 1) oN (oS (af 0))) ag))) (pFn b0 (aa (af 1) ag))) ag)).G (kU 1 (ws.length-1)) [] [.no,.sh (liV ws)]=.ok ((apt ws).map .int) [s,.sh (liV ws)]:=by
 obtain⟨e',⟨s,rfl,_⟩,lc⟩:=cS (g:=(gtN 0).G) (F:=(pFn er (aa (pOp eM (pOp aV (ah 2) (pFn b0 (aa (pSl (af 1) oN (oS (af 0))) ag))) (pFn b0 (aa (af 1) ag))) ag)).G) (λi:Nat=>Val.int (1+(i:Nat))) (λi:Nat=>Val.int ((2*(ws.take (i+1)).sum-ws.sum).natAbs:Int)) (λe=>∃s:Sl,e=[s,.sh (liV ws)]/\s.pl=true) (List.range (ws.length-1)) [] [.no,.sh (liV ws)] ⟨.no,rfl,rfl⟩ (by
  rintro i hi _ ⟨s,rfl,hs⟩;have ic:(1:Int)+(i:Nat)=((i+1:Nat):Int):=by omega
  have ct:=fE (ws.map Val.int) (i+1);rw[<- M_] at ct;have c2:aV.G (.int 2) (.int (ws.take (i+1)).sum)=.val (.int (2*(ws.take (i+1)).sum)):=bE (CMulA.left (by decide) (by decide));refine⟨[.sh (.int (1+(i:Nat))),.sh (liV ws)],.val (.int ((2*(ws.take (i+1)).sum-ws.sum).natAbs:Int)),[.sh (.int (1+(i:Nat))),.sh (liV ws)],?_,?_,rfl,_,rfl,rfl⟩
  .generalize liV ws=wv;simp![hs]
  .unfold liV;rw[ic];have m1:=bO ws;have m2:=bO (ws.take (i+1));have ab:∀x:Int,(if x<0 then -x else x)=(x.natAbs:Int):=λx=>by split <;> omega
   generalize ((ws.take (i+1)).map Val.int)=w1 at *;generalize ws.map Val.int=w2 at *;simp![dB,ct,m1,m2,c2,ab]) (by rw[Mr,A_];omega)
 rw[MR] at lc;refine⟨s,lc.trans ?_⟩;unfold apt;rw[MZ];rfl
def Hm{n:Nat}(h:n<=1000):rJ [.int 1,.int (n:Nat)]=some (kU 1 (n-1)):=by have e:((n:Nat):Int)-1=((n:Int)-1):=rfl;rw[show rJ [.int 1,.int (n:Nat)]=some (kU 1 (((n:Nat):Int)-1).toNat) from if_pos ⟨⟨by decide,by decide⟩,⟨by omega,by omega⟩⟩];congr 2;omega
def xj{ws:List Int}(h2:2<=ws.length)(hl:ws.length<=1000):bB.G [liV ws]=.ok (.val (.int (gH ws:Nat))) []:=by
 obtain⟨h0,h1,h3,ix⟩:=ng h2;obtain⟨s,lc⟩:=He hl;have mn:=JM h0;have rg:=Hm (n:=ws.length) hl;have ll:((ws.map Val.int).length:Nat)=ws.length:=p_ ..;have al:((apt ws).map Val.int).length<=16777216:=by rw[p_,vT];omega
 have e1:((gH ws-1:Nat):Int)+1=(gH ws:Nat):=by omega
 unfold bB;rw[aB];unfold gu;unfold liV at lc ix ⊢;rw[<- e1];generalize (apt ws).map Val.int=av at *;generalize ws.map Val.int=wv at *;simp![ll,rg,bU,inS,lc,al,mn,ix]
def Bn{xs:List Int}{k:Nat}:aV.G (.int 3) (.int (xs.take k).sum)=.val (.int (3*(xs.take k).sum)):=bE (CMulA.left (by decide) (by decide))
theorem uw{xs:List Int}(hs:1<=xs.sum):∀f k,k+f=xs.length->(xWh (qOf (pOp bLt (pOp aV (ah 3) (pFn b0 (aa (pSl (af 0) oN (oS (af 1))) ag))) (pFn b0 (aa (af 0) ag)))) cJ).G [.sh (liV xs),.sh (.int (k:Nat))]=.nx [.sh (liV xs),.sh (.int (thN xs f k:Nat))]
 |
  f,k,hf=>by
  have ct:=fE (xs.map Val.int) k;rw[<- M_] at ct;have m1:=bO xs;have m2:=bO (xs.take k);have fc:=Bn (xs:=xs) (k:=k);rw[gh];by_cases hl:3*(xs.take k).sum<xs.sum
  .cases f with
   |zero=>rw[M5 (by omega)] at hl;omega
   |
    succ f=>
    have d1:=I_ hl;have ih:=uw hs f (k+1) (by omega);have k1:((k:Nat):Int)+1=((k+1:Nat):Int):=by omega
    have bb:cJ.G [.sh (liV xs),.sh (.int (k:Nat))]=.nx [.sh (liV xs),.sh (.int ((k+1:Nat):Int))]:=by unfold cJ;generalize liV xs=xv;simp![k1]
    rw[thN,if_pos hl];unfold liV at ih bb ⊢;generalize (xs.take k).map Val.int=w1 at *;generalize xs.map Val.int=w2 at *;simp![dB,ct,m1,m2,fc,d1,bb,ih]
  .have d1:=E_ hl;have e:thN xs f k=k:=by
    cases f with
    |zero=>rfl
    |succ f=>rw[thN,if_neg hl]
   rw[e];unfold liV;generalize (xs.take k).map Val.int=w1 at *;generalize xs.map Val.int=w2 at *;simp![dB,ct,m1,m2,fc,d1]
def yw{xs:List Int}(h1:1<=xs.length)(hs:1<=xs.sum):bC.G [liV xs]=.ok (.val (.int (iZ xs:Nat))) []:=by have lo:=uw hs (xs.length-1) 1 (by omega);rw[show thN xs (xs.length-1) 1=iZ xs from rfl,show ((1:Nat):Int)=1 from rfl] at lo;unfold bC;rw[aB];unfold gq;generalize liV xs=xv at *;simp![lo]
def CA:HowM gH "nearest_to_half" λ_=>True:=⟨λ_ _ _=>trivial,λ_ _ _=>trivial,λxs _ h2 _=>⟨(ng h2).2.1,(ng h2).2.2.1⟩,λxs bv lv _ h2 h40 hp=>by
 have ne:=xj h2 (by omega);have nq:(("nearest_to_half" : Str) == "nearest_to_half")=true:=by decide
 generalize liV xs=xv at *;simp![nq,ne]⟩
def yd:HowM iZ "fewest_to_third" λxs=>xs.Pairwise λx y=>y<=x:=⟨λ_ _ h=>h.sublist (List.take_sublist ..),λ_ _ h=>h.sublist (List.drop_sublist ..),λxs h h2 hp=>Cw h2 hp h,λxs bv lv _ h2 h40 hp=>by
 have sn:=dg hp;have ne:=yw (xs:=xs) (by omega) (by omega);have nq:(("nearest_to_half" : Str) == "fewest_to_third")=false:=by decide
 have nr:(("fewest_to_third" : Str) == "nearest_to_half")=false:=by decide
 have ns:(("fewest_to_third" : Str) == "fewest_to_third")=true:=by decide
 generalize liV xs=xv at *;simp![nq,nr,ns,ne]⟩
noncomputable def mxL:List Rat->Rat
 | []=>0
 |x::xs=>xs.foldl mx x
theorem yR{n:Nat}:∀(xs:List Rat) (a:Rat),Sz n a->(∀x∈xs,Sz n x)->Sz n (xs.foldl mx a)
 | [],a,h,_=>h
 |
  x::xs,a,h,hx=>by
  rw[O0];refine yR xs _ ?_ λy hy=>hx y (q_ _ hy);unfold mx;split
  .exact hx x (s_ ..)
  .exact h
theorem mD{n:Nat}(hn:n<=100000){v:Val}:∀(xs:List Rat) (a:Rat) (s:Sl),s.pl=true->Sz n a->(∀x∈xs,Sz n x)->∃s',dN (gtN 2).G eD.G (xs.map fV) [.sh v,.sh (fV a),s]=.nx [.sh v,.sh (fV (xs.foldl mx a)),s']
 | [],a,s,_,_,_=>⟨s,by rw[Mx,iM];rfl⟩
 |
  x::xs,a,s,hs,ha,hx=>by
  have hx0:=hx x (s_ ..);have il:=jn ha hx0 hn hn;have hm:Sz n (mx a x):=by
   unfold mx;split
   .exact hx0
   .exact ha
  obtain⟨s',ih⟩:=mD hn (v:=v) xs (mx a x) (.sh (fV x)) rfl hm λy hy=>hx y (q_ _ hy);refine⟨s',?_⟩;have bb:eD.G [.sh v,.sh (fV a),.sh (fV x)]=.nx [.sh v,.sh (fV (mx a x)),.sh (fV x)]:=by
   unfold eD mx;by_cases hl:a<x
   .rw[I_ hl] at il;rw[if_pos hl];simp![il]
   .rw[E_ hl] at il;rw[if_neg hl];simp![il]
  have g1:(gtN 2).G (fV x) [.sh v,.sh (fV a),s]=some [.sh v,.sh (fV a),.sh (fV x)]:=by simp![hs]
  rw[x_,dS,g1];simp only[bb,qM];rw[ih];rfl
def iz{n:Nat}(hn:n<=100000){qs:List Rat}(h0:qs≠[])(hq:∀q∈qs,Sz n q):bZ.G [.lst (qs.map fV)]=.ok (.val (fV (mxL qs))) []:=by
 cases qs with
 |nil=>exact absurd rfl h0
 |
  cons q qs=>
  have hq0:=hq q (s_ ..);obtain⟨s',lo⟩:=mD hn (v:=.lst ((q::qs).map fV)) (q::qs) q .no rfl hq0 hq;have e:(q::qs).foldl mx q=mxL (q::qs):=by rw[O0,show mx q q=q from if_neg Rat.lt_irrefl];rfl
  rw[e] at lo;have a0:atI ((q::qs).map fV) 0=some (fV q):=cC (by decide) rfl;generalize mxL (q::qs)=r at *;generalize (q::qs).map fV=qv at *;unfold bZ;rw[aB];unfold jv;simp![a0,lo]
def zu{P:PFn}{bs:List Bx}(h:∀c∈bs,P.G [bV c]=.ok (.val (fV (aA c))) [])(hm:P.ms=[false])(hl:bs.length<=1000):∃s,lcV (gtN 0).G qY.G (ai P (aa (af 0) ag)).G (bs.map bV) [] [.no]=.ok ((bs.map aA).map fV) [s]:=by
 obtain⟨e',⟨s,rfl,_⟩,lc⟩:=cS (g:=(gtN 0).G) (F:=(ai P (aa (af 0) ag)).G) bV (λc=>fV (aA c)) (λe=>∃s:Sl,e=[s]/\s.pl=true) bs [] [.no] ⟨.no,rfl,rfl⟩ (by
  rintro c hc _ ⟨s,rfl,hs⟩;have hp:=h c hc;refine⟨[.sh (bV c)],.val (fV (aA c)),[.sh (bV c)],?_,?_,rfl,_,rfl,rfl⟩
  .simp![hs]
  .simp![hm,hp]) (by rw[Mr];omega)
 rw[MR] at lc;refine⟨s,?_⟩;rw[MZ];exact lc
def tM(w:Bool):dC.G [.str (wy w)]=.ok (.val (.str (wy !w))) []:=by
 unfold dC;rw[aB];unfold kq;cases w
 .rw[show wy (!false)="across" from rfl,show wy false="down" from rfl];simp![rj]
 .rw[show wy (!true)="down" from rfl,show wy true="across" from rfl];simp![tu]
noncomputable def lj (b:Bx) (xs:List Int) (k:Nat):Bx:=if k<xs.length then ba b (lwB b) ((xs.take k).sum+(xs.drop k).sum) 0 (xs.take k).sum else b
noncomputable def eV (b:Bx) (xs:List Int) (k:Nat):List Bx:=aR (lj b xs k) (wy !lwB b) (xs.take k)
noncomputable def bW (b:Bx) (xs:List Int) (k:Nat):Rat:=mxL ((eV b xs k).map aA)
structure RwIn(m B:Nat)(b:Bx)(xs:List Int):Prop where
 hm:m<=104
 bd:Bd m B b xs.length
 pos:∀w∈xs,1<=w
 sum:xs.sum<2^m
 len:xs.length<=40
def RwIn.two{m B:Nat}{b:Bx}{xs:List Int}(h:RwIn m B b xs){k:Nat}(h1:1<=k)(h2:k<xs.length):1<=(xs.take k).sum/\1<=(xs.drop k).sum/\(xs.take k).sum+(xs.drop k).sum<2^m:=by
 have a1:=dg (l:=xs.take k) λw hw=>h.pos w (Nj hw);have a2:=dg (l:=xs.drop k) λw hw=>h.pos w (NZ hw);have a3:(xs.take k).sum+(xs.drop k).sum=xs.sum:=by rw[<- OC,MU]
 rw[MH] at a1;rw[Nr] at a2
 have:=h.sum
 refine⟨by omega,by omega,by rw[a3];exact this⟩
def RwIn.cut{m B:Nat}{b:Bx}{xs:List Int}(h:RwIn m B b xs){k:Nat}(h1:1<=k)(h2:k<xs.length){c:Bx}(hc:c∈[ba b (lwB b) ((xs.take k).sum+(xs.drop k).sum) 0 (xs.take k).sum,ba b (lwB b) ((xs.take k).sum+(xs.drop k).sum) (xs.take k).sum (xs.drop k).sum]){j:Nat}(hj:j<xs.length):Bd m B c j:=by
 obtain⟨a1,a2,a3⟩:=h.two h1 h2;exact
  h.bd.part (way:=wy (lwB b)) (ws:=[(xs.take k).sum,(xs.drop k).sum]) (λw hw=>by
  rcases F_.mp hw with rfl |hw
  .exact a1
  .rw[MC.mp hw];exact a2) (by rw[show [(xs.take k).sum,(xs.drop k).sum].sum=(xs.take k).sum+(xs.drop k).sum from by simp];exact a3) (by rw[tK];exact hc) hj
def RwIn.row{m B:Nat}{b:Bx}{xs:List Int}(h:RwIn m B b xs){k:Nat}(h1:1<=k)(h2:k<=xs.length):∃j,1<=j/\Bd m B (lj b xs k) j:=by
 unfold lj;by_cases hk:k<xs.length
 .rw[if_pos hk];exact⟨k,h1,h.cut h1 hk (s_ ..) hk⟩
 .rw[if_neg hk];exact⟨xs.length,by omega,h.bd⟩
def RwIn.take{m B:Nat}{b:Bx}{xs:List Int}(h:RwIn m B b xs){k:Nat}:(xs.take k).sum<2^m:=by
 have a2:=dg (l:=xs.drop k) λw hw=>h.pos w (NZ hw);have a3:(xs.take k).sum+(xs.drop k).sum=xs.sum:=by rw[<- OC,MU]
 have:=h.sum
 omega
def Aq(b:Bx)(w:Bool)(xs:List Int):(aR b (wy w) xs).length=xs.length:=by rw[jL,nu]
def RwIn.boxes{m B:Nat}{b:Bx}{xs:List Int}(h:RwIn m B b xs){k:Nat}(h1:1<=k)(h2:k<=xs.length):∀c∈eV b xs k,c.Ok/\c.Sz 2000:=λc hc=>by
 obtain⟨j,hj,hB⟩:=h.row h1 h2
 have:=hB.part (λw hw=>h.pos w (Nj hw)) h.take hc (show 0<j by omega)
 exact⟨this.ok,this.sz⟩
def RwIn.len'{m B:Nat}{b:Bx}{xs:List Int}(h:RwIn m B b xs){k:Nat}(h2:k<=xs.length):(eV b xs k).length=k:=by unfold eV;rw[Aq,MH];omega
def RwIn.shp{m B:Nat}{b:Bx}{xs:List Int}(h:RwIn m B b xs){k:Nat}(h1:1<=k)(h2:k<=xs.length):(eV b xs k).map aA≠[]/\∀q∈(eV b xs k).map aA,Sz 4000 q:=by
 have:=h.len' h2
 refine⟨λz=>?_,λq hq=>?_⟩
 .have:=MP List.length z
  rw[p_,Mr] at this;omega
 .obtain⟨c,hc,rfl⟩:=Mq.mp hq;obtain⟨c1,c2⟩:=h.boxes h1 h2 c hc;exact mS c1 c2
def RwIn.wsz{m B:Nat}{b:Bx}{xs:List Int}(h:RwIn m B b xs){k:Nat}(h1:1<=k)(h2:k<=xs.length):Sz 4000 (bW b xs k):=by
 obtain⟨q1,q2⟩:=h.shp h1 h2;unfold bW;cases hq:(eV b xs k).map aA with
 |nil=>exact absurd hq q1
 |cons q qs=>rw[hq] at q2;exact yR qs q (q2 q (s_ ..)) λx hx=>q2 x (q_ _ hx)
def jB{m B:Nat}{b:Bx}{xs:List Int}(h:RwIn m B b xs){k:Nat}(h1:1<=k)(h2:k<=xs.length):cp.G [bV b,liV xs,.int (k:Nat)]=.ok (.val (fV (bW b xs k))) []:=by
 obtain⟨j,hj,hB⟩:=h.row h1 h2;have hm:=h.hm;have a_:=h.len;have lw:=dM h.bd.ok h.bd.sz (by decide);have ow:=tM (lwB b);have tl:(xs.take k).length=k:=by rw[MH];omega
 have tp:=dg (l:=xs.take k) λw hw=>h.pos w (Nj hw);have pe:=jU (way:=wy !lwB b) (ws:=xs.take k) (m:=m) hB.ok hB.sz (yU _) (λz=>by rw[z] at tl;simp at tl;omega) (λw hw=>h.pos w (Nj hw)) (lR (by omega) h.take) (by omega) (by omega);rw[show aR (lj b xs k) (wy !lwB b) (xs.take k)=eV b xs k from rfl] at pe;have bl:=h.len' h2;obtain⟨s,lc⟩:=zu (P:=eI) (bs:=eV b xs k) (λc hc=>kK (h.boxes h1 h2 c hc).1 (h.boxes h1 h2 c hc).2 (by decide)) rfl (by omega);obtain⟨q1,q2⟩:=h.shp h1 h2;have ge:=iz (by decide) q1 q2;rw[show mxL ((eV b xs k).map aA)=bW b xs k from rfl] at ge;have sl:(((eV b xs k).map aA).map fV).length<=16777216:=by rw[p_,p_];omega
 have ct:=fE (xs.map Val.int) k;rw[<- M_] at ct;have lx:((xs.map Val.int).length:Nat)=xs.length:=p_ ..;unfold cp;rw[aB];unfold iB;by_cases hk:k<xs.length
 .obtain⟨a1,a2,a3⟩:=h.two h1 hk;have ct2:=jm h.bd hm a1 a2 a3;rw[show ba b (lwB b) ((xs.take k).sum+(xs.drop k).sum) 0 (xs.take k).sum=lj b xs k from (if_pos hk).symm] at ct2;have c1:decide (((k:Nat):Int)<((xs.length:Nat):Int))=true:=I_ (by omega);unfold liV at ct2 ⊢;generalize bV (ba b (lwB b) ((xs.take k).sum+(xs.drop k).sum) (xs.take k).sum (xs.drop k).sum)=b2 at *;generalize bV (lj b xs k)=b1 at *;generalize ((eV b xs k).map aA).map fV=sv at *;generalize (eV b xs k).map bV=bs at *;generalize (xs.take k).map Val.int=w1 at *;generalize xs.map Val.int=w3 at *;generalize bV b=bv at *;generalize wy (!lwB b)=y1 at *;generalize wy (lwB b)=yy at *;generalize bW b xs k=rr at *;simp![lx,c1,ct2,lw,ow,dB,ct,pe,lc,sl,ge]
 .have c1:decide (((k:Nat):Int)<((xs.length:Nat):Int))=false:=E_ (by omega);rw[show lj b xs k=b from if_neg hk] at pe;unfold liV;generalize ((eV b xs k).map aA).map fV=sv at *;generalize (eV b xs k).map bV=bs at *;generalize (xs.take k).map Val.int=w1 at *;generalize xs.map Val.int=w3 at *;generalize bV b=bv at *;generalize wy (!lwB b)=y1 at *;generalize wy (lwB b)=yy at *;generalize bW b xs k=rr at *;simp![lx,c1,lw,ow,dB,ct,pe,lc,sl,ge]
noncomputable def hX (b:Bx) (xs:List Int):Nat->Nat->Nat
 |0,k=>k
 |f+1,k=>if k<xs.length then (if bW b xs k<bW b xs (k+1) then k else hX b xs f (k+1)) else k
theorem vc(b:Bx)(xs:List Int):∀f k,k<=xs.length->k<=hX b xs f k/\hX b xs f k<=xs.length
 |0,k,h=>⟨t_ _,h⟩
 |
  f+1,k,h=>by
  rw[hX];split
  .split
   .omega
   .have:=vc b xs f (k+1) (by omega)
    omega
  .omega
theorem rE{m B:Nat}{b:Bx}{xs:List Int}(h:RwIn m B b xs):∀(f k:Nat) (s:Sl),s.pl=true->xs.length<=k+f->1<=k->k<=xs.length->∃s3 s4,(xWh (qOf (pOp bLt (af 2) (pFn aY (aa (af 1) ag)))) dm).G [.sh (bV b),.sh (liV xs),.sh (.int (k:Nat)),.sh (fV (bW b xs k)),s]=.nx [.sh (bV b),.sh (liV xs),.sh (.int (hX b xs f k:Nat)),s3,s4]
 |
  f,k,s,hs,hf,h1,h2=>by
  have lx:((xs.map Val.int).length:Nat)=xs.length:=p_ ..;by_cases hk:k<xs.length
  .cases
    f with
   |zero=>omega
   |
    succ f=>
    have c1:decide (((k:Nat):Int)<((xs.length:Nat):Int))=true:=I_ (by omega);have k1:((k:Nat):Int)+1=((k+1:Nat):Int):=by omega
    have wr:=jB h (k:=k+1) (by omega) (by omega);have il:=jn (h.wsz h1 h2) (h.wsz (k:=k+1) (by omega) (by omega)) (by decide) (by decide);obtain⟨s3,s4,ih⟩:=rE h f (k+1) (.sh (fV (bW b xs (k+1)))) rfl (by omega) (by omega) (by omega);rw[hX,if_pos hk];by_cases hl:bW b xs k<bW b xs (k+1)
    .rw[if_pos hl];rw[I_ hl] at il;refine⟨.sh (fV (bW b xs k)),.sh (fV (bW b xs (k+1))),?_⟩;rw[gh];unfold dm;unfold liV at wr ⊢;generalize xs.map Val.int=w3 at *;generalize bV b=bv at *;generalize fV (bW b xs (k+1))=r1 at *;generalize fV (bW b xs k)=r0 at *;simp![hs,lx,c1,k1,wr,il]
    .rw[if_neg hl];rw[E_ hl] at il;refine⟨s3,s4,?_⟩;have bb:dm.G [.sh (bV b),.sh (liV xs),.sh (.int (k:Nat)),.sh (fV (bW b xs k)),s]=.nx [.sh (bV b),.sh (liV xs),.sh (.int ((k+1:Nat):Int)),.sh (fV (bW b xs (k+1))),.sh (fV (bW b xs (k+1)))]:=by unfold dm;generalize liV xs=w3 at *;generalize bV b=bv at *;generalize fV (bW b xs (k+1))=r1 at *;generalize fV (bW b xs k)=r0 at *;simp![hs,k1,wr,il]
     rw[gh];unfold liV at bb ih ⊢;generalize xs.map Val.int=w3 at *;generalize bV b=bv at *;generalize fV (bW b xs (k+1))=r1 at *;generalize fV (bW b xs k)=r0 at *;simp![lx,c1,bb,ih]
  .have c1:decide (((k:Nat):Int)<((xs.length:Nat):Int))=false:=E_ (by omega);refine⟨.sh (fV (bW b xs k)),s,?_⟩;have e:hX b xs f k=k:=by
    cases f with
    |zero=>rfl
    |succ f=>rw[hX,if_neg hk]
   rw[e,gh];unfold liV;generalize xs.map Val.int=w3 at *;simp![lx,c1]
noncomputable def row (b:Bx) (xs:List Int):Nat:=hX b xs xs.length 1
def Jx{b:Bx}{xs:List Int}(h:1<=xs.length):1<=row b xs/\row b xs<=xs.length:=vc b xs _ 1 h
def pC{m B:Nat}{b:Bx}{xs:List Int}(h:RwIn m B b xs)(h1:1<=xs.length):dZ.G [bV b,liV xs]=.ok (.val (.int (row b xs:Nat))) []:=by have wr:=jB h (k:=1) (by omega) (by omega);obtain⟨s3,s4,lo⟩:=rE h xs.length 1 .no rfl (by omega) (by omega) (by omega);rw[show hX b xs xs.length 1=row b xs from rfl] at lo;unfold dZ;rw[aB];unfold jP;rw[show ((1:Nat):Int)=1 from rfl] at wr lo;generalize liV xs=w3 at *;generalize bV b=bv at *;generalize fV (bW b xs 1)=r0 at *;simp![wr,lo]
noncomputable def fJ (b:Bx) (l:List Nat):AT:=if l.length=1 then .lf (l.headD 0) else .nd (!lwB b) (l.map .lf)
def Fm(b:Bx)(l:List Nat):atV (.nd (!lwB b) (l.map .lf))=.tup [.str (wy !lwB b),.tup (l.map λk:Nat=>Val.int k)]:=by unfold atV;rw[AT.val,AT.vals_map,MZ];rfl
def uP{b:Bx}{l:List Nat}{n:Nat}(hb:b.Ok)(hs:b.Sz n)(h:n<=8000)(hl:1<=l.length)(hl2:l.length<=1000):dk.G [bV b,itV l]=.ok (.val (atV (fJ b l))) []:=by
 have lw:=dM hb hs h;have ow:=tM (lwB b);have ll:((l.map λk:Nat=>Val.int k).length:Nat)=l.length:=p_ ..;unfold dk fJ;rw[aB];unfold ju;by_cases h1:l.length=1
 .obtain⟨k,rfl⟩:=Oa.mp h1;have a0:atI [Val.int (k:Nat)] 0=some (.int (k:Nat)):=cC (by decide) rfl;rw[if_pos h1,show atV (.lf ([k].headD 0))=.int (k:Nat) from rfl,show itV [k]=.lst [.int (k:Nat)] from rfl];simp![a0]
 .have n1:(((l.length:Nat):Int)==1)=false:=by rw[H_];omega
  rw[if_neg h1,Fm];unfold itV;generalize wy (!lwB b)=y1 at *;generalize wy (lwB b)=yy at *;generalize (l.map λk:Nat=>Val.int k)=l0 at *;generalize bV b=bv at *;simp![ll,n1,lw,ow]
noncomputable def rwT (ws:List Int):Nat->Bx->List Nat->AT
 |0,_,l=>.lf (l.headD 0)
 |N+1,b,l=>if row b (l.map λk=>ws.getD k 0)=l.length then fJ b l else .nd (lwB b) [fJ b (l.take (row b (l.map λk=>ws.getD k 0))),rwT ws N (ba b (lwB b) (((l.map λk=>ws.getD k 0).take (row b (l.map λk=>ws.getD k 0))).sum+((l.map λk=>ws.getD k 0).drop (row b (l.map λk=>ws.getD k 0))).sum) ((l.map λk=>ws.getD k 0).take (row b (l.map λk=>ws.getD k 0))).sum ((l.map λk=>ws.getD k 0).drop (row b (l.map λk=>ws.getD k 0))).sum) (l.drop (row b (l.map λk=>ws.getD k 0)))]
theorem Eg:∀l:List Nat,AT.okL (l.map .lf)=true/\AT.lvsL (l.map .lf)=l/\AT.depL (l.map .lf)<=1
 | []=>⟨rfl,rfl,by decide⟩
 |
  k::l=>by
  obtain⟨a,b,c⟩:=Eg l;rw[x_];refine⟨?_,?_,?_⟩
  .rw[AT.okL,a];rfl
  .rw[AT.lvsL,b];rfl
  .rw[AT.depL,AT.dep];omega
def FH(b:Bx){l:List Nat}(hl:1<=l.length):(fJ b l).ok=true/\(fJ b l).lvs=l/\(fJ b l).dep<=l.length/\(fJ b l).dep<=2:=by
 unfold fJ;by_cases h1:l.length=1
 .obtain⟨k,rfl⟩:=Oa.mp h1;rw[if_pos h1];exact⟨rfl,rfl,by simp [AT.dep],by simp [AT.dep]⟩
 .rw[if_neg h1];obtain⟨a1,a2,a3⟩:=Eg l;refine⟨?_,?_,?_,?_⟩
  .simp [AT.ok,a1];omega
  .rw[AT.lvs,a2]
  .rw[AT.dep];omega
  .rw[AT.dep];omega
def KS{l:List Nat}{i:Nat}(hn:l.length<=40)(h1:1<=l.length)(h2:1<=i):1<=(l.take i).length/\(l.take i).length<=1000:=by rw[MH];omega
theorem oq{ws:List Int}{m B:Nat}(hm:m<=104)(hS:∀l:List Nat,(∀k∈l,k<ws.length)->l.length<=ws.length->wtA ws l<2^m)(hw:∀w∈ws,1<=w)(hn:ws.length<=40):∀(N:Nat) (l:List Nat) (b:Bx),l.length<=N->1<=l.length->l.length<=ws.length->(∀k∈l,k<ws.length)->Bd m B b l.length->
 (aU N).G [bV b,itV l,liV (l.map λk=>ws.getD k 0)]=.ok (.val (atV (rwT ws N b l))) []/\(rwT ws N b l).ok=true/\(rwT ws N b l).lvs=l/\(rwT ws N b l).dep<=l.length
 |0,l,b,h0,h1,_,_,_=>by omega
 |
  N+1,l,b,h0,h1,hl,hi,hB=>by
  have hp:∀k∈l,1<=ws.getD k 0:=λj hj=>by rw[Mo,v_ (hi j hj)];exact hw _ (NI _)
  have xl:(l.map λk=>ws.getD k 0).length=l.length:=p_ ..;have hR:RwIn m B b (l.map λk=>ws.getD k 0):=⟨hm,by rw[xl];exact hB,λw hw=>by obtain⟨k,hk,rfl⟩:=Mq.mp hw;exact hp k hk,hS l hi hl,by rw[xl];exact My hl hn⟩;obtain⟨r1,r2⟩:=Jx (b:=b) (xs:=l.map λk=>ws.getD k 0) (by rw[xl];exact h1);have re:=pC hR (by rw[xl];exact h1);have te:rwT ws (N+1) b l=_:=rwT.eq_2 ws b l N;rw[xl] at r2;have ll:((l.map λk:Nat=>Val.int k).length:Nat)=l.length:=p_ ..;have lw:=dM hB.ok hB.sz (by decide);have ctl:=fE (l.map λk:Nat=>Val.int k) (row b (l.map λk=>ws.getD k 0));have cdl:=eY (l.map λk:Nat=>Val.int k) (row b (l.map λk=>ws.getD k 0));rw[<- M_] at ctl;rw[<- Np] at cdl;have two:∀k,k<l.length->1<=k->_:=λk h1 h2=>hR.two (k:=k) h2 (by rw[xl];exact h1);have cut:∀k,k<l.length->1<=k->∀c,c∈_->∀j,j<l.length->Bd m B c j:=λk h1 h2 c hc j hj=>hR.cut (k:=k) h2 (by rw[xl];exact h1) hc (by rw[xl];exact hj);rw[te];generalize hi0:row b (l.map λk=>ws.getD k 0)=i at *;obtain⟨k1,k2⟩:=KS (My hl hn) h1 r1;have tr:=uP (l:=l.take i) hB.ok hB.sz (by decide) k1 k2;obtain⟨o1,o2,o3,o4⟩:=FH b (l:=l.take i) k1;by_cases hk:i=l.length
  .rw[if_pos hk];have et:l.take i=l:=M5 (Nat.le_of_eq hk.symm);rw[et] at o1 o2 o3 o4 tr ctl;have q1:(((i:Nat):Int)==((l.length:Nat):Int))=true:=by rw[MD,hk]
   refine⟨?_,o1,o2,o3⟩
   .show (PFx.of [false,false,false] 6 (cq (aU N))).G _=_;rw[jt];unfold cq;unfold itV at tr ⊢;generalize atV (fJ b l)=tv at *;generalize liV (l.map λk=>ws.getD k 0)=x0 at *;generalize (l.map λk:Nat=>Val.int k)=l0 at *;generalize bV b=bv at *;simp![re,dB,ctl,tr,ll,q1]
  .rw[if_neg hk];have q1:(((i:Nat):Int)==((l.length:Nat):Int))=false:=by rw[H_];exact λz=>hk (Int.ofNat.inj z)
   have hi2:i<l.length:=Nat.lt_of_le_of_ne r2 hk;obtain⟨p1,p2,p3⟩:=two i hi2 r1;have pm:=cut i hi2 r1;have ct2:=jm hR.bd hm p1 p2 p3;have ctx:=fE ((l.map λk=>ws.getD k 0).map Val.int) i;have cdx:=eY ((l.map λk=>ws.getD k 0).map Val.int) i;rw[<- M_] at ctx;rw[<- Np] at cdx;obtain⟨_,d1,d2,d3,d4⟩:=yJ h0 r1 hi2 hl;obtain⟨b1,b3,b4,b5⟩:=oq hm hS hw hn N (l.drop i) _ d1 d2 d3 (λj hj=>hi j (NZ hj)) (pm _ (q_ _ (s_ ..)) _ d4);rw[Np] at b1;generalize rwT ws N (ba b (lwB b) (((l.map λk=>ws.getD k 0).take i).sum+((l.map λk=>ws.getD k 0).drop i).sum) ((l.map λk=>ws.getD k 0).take i).sum ((l.map λk=>ws.getD k 0).drop i).sum) (l.drop i)=T2 at *;refine⟨?_,?_,?_,?_⟩
   .show (PFx.of [false,false,false] 6 (cq (aU N))).G _=_;rw[jt];unfold cq;rw[show atV (.nd (lwB b) [fJ b (l.take i),T2])=.tup [.str (wy (lwB b)),.tup [atV (fJ b (l.take i)),atV T2]] from rfl];generalize atV (fJ b (l.take i))=tv at *;generalize atV T2=tv2 at *;generalize wy (lwB b)=yy at *;generalize bV (ba b (lwB b) _ 0 _)=B1 at *;generalize bV (ba b (lwB b) _ _ _)=B2 at *;unfold itV at tr b1 ⊢;unfold liV at re ct2 b1 ⊢;generalize ((l.map λk=>ws.getD k 0).take i).map Val.int=x1 at *;generalize ((l.map λk=>ws.getD k 0).drop i).map Val.int=x2 at *;generalize (l.map λk=>ws.getD k 0).map Val.int=x0 at *;generalize ((l.take i).map λk:Nat=>Val.int k)=l1 at *;generalize ((l.drop i).map λk:Nat=>Val.int k)=l2 at *;generalize (l.map λk:Nat=>Val.int k)=l0 at *;generalize bV b=bv at *;simp![re,dB,ctl,tr,ll,q1,ct2,lw,cdl,cdx,b1]
   .simp [AT.ok,AT.okL,o1,b3]
   .rw[AT.lvs,AT.lvsL,AT.lvsL,AT.lvsL,o2,b4,MX,MU]
   .exact vg r1 hi2 o3 b5
def EX{ws:List Int}(hl:ws.length<64):aH.G [liV ws]=.ok (.new (itV (aN ws))) []:=by have kf:=zp ws hl;have ll:((ws.map Val.int).length:Nat)=ws.length:=p_ ..;unfold aH;rw[aB];unfold da;unfold liV itV;generalize (aN ws).map (λi:Nat=>Val.int (i:Nat))=fv at *;generalize ws.map Val.int=wv at *;simp![ll,kf]
def Ad{ws:List Int}{b:Bx}{t:Val}(hb:b.Ok)(W:WOk ws)(h:(aT 42).G [bV b,itV (List.range ws.length),liV ws,.glb "nearest_to_half"]=.ok (.val t) []):bY.G [bV b,liV ws]=.ok (.val t) []:=by have wl:=W.len;have wp:=W.pos;have cb:=bq hb;have cw:=gg (ws:=ws) (by intro z;rw[z] at wp;exact absurd wp (by decide)) (λw hw=>(W.wt w hw).1) wl;have ll:((ws.map Val.int).length:Nat)=ws.length:=p_ ..;have lr:iY.G [.int (ws.length:Nat)]=.new (itV (List.range ws.length)):=D1 ⟨by omega,by omega⟩;unfold bY;rw[aB];unfold jw;unfold liV at h ⊢;generalize itV (List.range ws.length)=rv at *;generalize ws.map Val.int=wv at *;generalize bV b=bv at *;simp![cb,cw,ll,lr,h]
def FP{ws:List Int}{b:Bx}{t:Val}(hb:b.Ok)(W:WOk ws)(h:(aU 42).G [bV b,itV (List.range ws.length),liV ws]=.ok (.val t) []):cR.G [bV b,liV ws]=.ok (.val t) []:=by have wl:=W.len;have wp:=W.pos;have cb:=bq hb;have cw:=gg (ws:=ws) (by intro z;rw[z] at wp;exact absurd wp (by decide)) (λw hw=>(W.wt w hw).1) wl;have ll:((ws.map Val.int).length:Nat)=ws.length:=p_ ..;have lr:iY.G [.int (ws.length:Nat)]=.new (itV (List.range ws.length)):=D1 ⟨by omega,by omega⟩;unfold cR;rw[aB];unfold kx;unfold liV at h ⊢;generalize itV (List.range ws.length)=rv at *;generalize ws.map Val.int=wv at *;generalize bV b=bv at *;simp![cb,cw,ll,lr,h]
def Bc{ws:List Int}{b:Bx}{t:Val}(hb:b.Ok)(W:WOk ws)(h:(aU 42).G [bV b,itV (aN ws),liV ((aN ws).map λk=>ws.getD k 0)]=.ok (.val t) []):br.G [bV b,liV ws]=.ok (.val t) []:=by
 have wl:=W.len;have wp:=W.pos;have cb:=bq hb;have cw:=gg (ws:=ws) (by intro z;rw[z] at wp;exact absurd wp (by decide)) (λw hw=>(W.wt w hw).1) wl;have bf:=EX (ws:=ws) (by omega);have lf:(aN ws).length=ws.length:=by rw[(cP ws).perm.length_eq,A_]
 obtain⟨s,lc⟩:=qX (ws:=ws) (l:=aN ws) (by omega) (λk hk=>Mu.mp ((cP ws).perm.mem_iff.mp hk));have lz:(((aN ws).map λk=>ws.getD k 0).map Val.int).length<=16777216:=by rw[p_,p_];omega
 unfold br;rw[aB];unfold gZ;unfold itV at h bf;unfold liV at h lc bf ⊢;generalize ((aN ws).map λk=>ws.getD k 0).map Val.int=xv at *;generalize (aN ws).map (λi:Nat=>Val.int (i:Nat))=fv at *;generalize ws.map Val.int=wv at *;generalize bV b=bv at *;simp![cb,cw,bf,bU,inS,lc,lz,h]
def yz{ws:List Int}{b:Bx}{t:Val}(hb:b.Ok)(W:WOk ws)(h:(aT 42).G [bV b,itV (aN ws),liV ((aN ws).map λk=>ws.getD k 0),.glb "fewest_to_third"]=.ok (.val t) []):bX.G [bV b,liV ws]=.ok (.val t) []:=by
 have wl:=W.len;have wp:=W.pos;have cb:=bq hb;have cw:=gg (ws:=ws) (by intro z;rw[z] at wp;exact absurd wp (by decide)) (λw hw=>(W.wt w hw).1) wl;have kf:=zp ws (by omega);have lf:(aN ws).length=ws.length:=by rw[(cP ws).perm.length_eq,A_]
 obtain⟨s,lc⟩:=qX (ws:=ws) (l:=aN ws) (by omega) (λk hk=>Mu.mp ((cP ws).perm.mem_iff.mp hk));have ll:((ws.map Val.int).length:Nat)=ws.length:=p_ ..;have lz:(((aN ws).map λk=>ws.getD k 0).map Val.int).length<=16777216:=by rw[p_,p_];omega
 have bf:aH.G [liV ws]=.ok (.new (itV (aN ws))) []:=by unfold aH;rw[aB];unfold da;unfold liV itV;generalize (aN ws).map (λi:Nat=>Val.int (i:Nat))=fv at *;generalize ws.map Val.int=wv at *;simp![ll,kf]
 unfold bX;rw[aB];unfold jz;unfold itV at h bf;unfold liV at h lc bf ⊢;generalize ((aN ws).map λk=>ws.getD k 0).map Val.int=xv at *;generalize (aN ws).map (λi:Nat=>Val.int (i:Nat))=fv at *;generalize ws.map Val.int=wv at *;generalize bV b=bv at *;simp![cb,cw,bf,bU,inS,lc,lz,h]
def lq(ws:List Int):((List.range ws.length).map λk=>ws.getD k 0)=ws:=u5 0 ws
def nh{ws:List Int}{b:Bx}(g:Good b)(W:WOk ws):∃m,m<=104/\Bd m (2^101) b ws.length/\∀l:List Nat,(∀k∈l,k<ws.length)->l.length<=ws.length->wtA ws l<2^m:=by
 obtain⟨D,hD,R⟩:=DV g;have hin:∀k,k<ws.length->ws.getD k 0∈ws:=λk hk=>by rw[Mo,v_ hk];exact NI _
 have wl:=W.len;have key:∀m,m*ws.length<=1218->Bd m (2^101) b ws.length:=λm h1=>by
  refine⟨D,2^101,R,t_ _,by decide,?_⟩;have a1:2^101+ws.length*2^101<=2^107:=by
   have h1:=Nz (2^101) (show ws.length<=40 by omega);have h2:2^107=64*2^101:=by decide
   rw[h2];generalize 2^101=X at *;omega
  have a2:2^(m*ws.length)<=2^1218:=MN (by decide) h1;refine Nu (MW a1 (MW (Ol hD) a2)) ?_;rw[<- NK,<- NK];exact Nat.pow_lt_pow_right (by decide) (by decide)
 by_cases h9:10<ws.length
 .refine⟨29,by decide,key 29 (by omega),λl hl hn=>?_⟩
  have:=jA (M:=8388608) λk hk=>W.few h9 _ (hin k (hl k hk))
  have:(2:Int)^29=536870912:=by decide
  omega
 .refine⟨104,by decide,key 104 (by omega),λl hl hn=>?_⟩
  have:=jA (M:=1000000000000000000000000000000) λk hk=>(W.wt _ (hin k (hl k hk))).2
  have:(2:Int)^104=20282409603651670423947251286016:=by decide
  omega
noncomputable def tH (b:Bx) (ws:List Int):AT:=inT gH ws 42 b (List.range ws.length)
noncomputable def tR (b:Bx) (ws:List Int):AT:=rwT ws 42 b (List.range ws.length)
noncomputable def tG (b:Bx) (ws:List Int):AT:=rwT ws 42 b (aN ws)
noncomputable def tT (b:Bx) (ws:List Int):AT:=inT iZ ws 42 b (aN ws)
section
variable{ws:List Int}{b:Bx}
def jZ{k:Nat}:k∈aN ws ↔ k<ws.length:=(cP ws).perm.mem_iff.trans Mu
def qT:(aN ws).length=ws.length:=by rw[(cP ws).perm.length_eq,A_]
def mG{t:AT}{l:List Nat}(h1:t.ok=true)(h2:t.lvs=l)(h3:t.dep<=l.length)(hl:∀k,k∈l ↔ k<ws.length)(hn:l.length=ws.length):TOk t (List.range ws.length):=⟨h1,λk=>by rw[h2,hl,Mu],by rw[A_];omega,by rw[h2,A_];exact hn⟩
def wW(g:Good b)(W:WOk ws):bY.G [bV b,liV ws]=.ok (.val (atV (tH b ws))) []/\TOk (tH b ws) (List.range ws.length):=by have wl:=W.len;have wp:=W.pos;obtain⟨m,hm,B,hS⟩:=nh g W;obtain⟨t1,t2,t3,t4⟩:=mO CA hm hS (λw hw=>(W.wt w hw).1) wl 42 (List.range ws.length) b (by rw[A_];omega) (by rw[A_];omega) (by rw[A_];omega) (λk hk=>Mu.mp hk) (by rw[A_];exact B) trivial;rw[lq] at t1;exact⟨Ad g.ok W t1,mG t2 t3 t4 (λk=>Mu) A_⟩
def xR(g:Good b)(W:WOk ws):cR.G [bV b,liV ws]=.ok (.val (atV (tR b ws))) []/\TOk (tR b ws) (List.range ws.length):=by have wl:=W.len;have wp:=W.pos;obtain⟨m,hm,B,hS⟩:=nh g W;obtain⟨t1,t2,t3,t4⟩:=oq (B:=2^101) hm hS (λw hw=>(W.wt w hw).1) wl 42 (List.range ws.length) b (by rw[A_];omega) (by rw[A_];omega) (by rw[A_];omega) (λk hk=>Mu.mp hk) (by rw[A_];exact B);rw[lq] at t1;exact⟨FP g.ok W t1,mG t2 t3 t4 (λk=>Mu) A_⟩
def xo(g:Good b)(W:WOk ws):br.G [bV b,liV ws]=.ok (.val (atV (tG b ws))) []/\TOk (tG b ws) (List.range ws.length):=by have wl:=W.len;have wp:=W.pos;have fl:=qT (ws:=ws);obtain⟨m,hm,B,hS⟩:=nh g W;obtain⟨t1,t2,t3,t4⟩:=oq (B:=2^101) hm hS (λw hw=>(W.wt w hw).1) wl 42 (aN ws) b (by omega) (by omega) (by omega) (λk hk=>jZ.mp hk) (by rw[fl];exact B);exact⟨Bc g.ok W t1,mG t2 t3 t4 (λk=>jZ) fl⟩
def xw(g:Good b)(W:WOk ws):bX.G [bV b,liV ws]=.ok (.val (atV (tT b ws))) []/\TOk (tT b ws) (List.range ws.length):=by have wl:=W.len;have wp:=W.pos;have fl:=qT (ws:=ws);obtain⟨m,hm,B,hS⟩:=nh g W;obtain⟨t1,t2,t3,t4⟩:=mO yd hm hS (λw hw=>(W.wt w hw).1) wl 42 (aN ws) b (by omega) (by omega) (by omega) (λk hk=>jZ.mp hk) (by rw[fl];exact B) (yO ws);exact⟨yz g.ok W t1,mG t2 t3 t4 (λk=>jZ) fl⟩
end
def K0{ws:List Int}{b:Bx}{r:Str}{t:AT}(g:Good b)(W:WOk ws)(h:aJ.G [.str r,bV b,liV ws]=.ok (.val (atV t)) [])(T:TOk t (List.range ws.length)):cK.G [.str r,bV b,liV ws]=.ok (.new (.lst ((List.range ws.length).map λk=>bV (bxO (AT.bx ws t b) k)))) []:=by have wp:=W.pos;have wl:=W.len;obtain⟨m,hm,hy⟩:=xS g W T (λi=>Mu) A_;have be:=si (by omega) g.ok (λz=>by rw[z] at wp;exact absurd wp (by decide)) (λx hx=>(W.wt x hx).1) wl T.ok (λk=>(T.mem k).trans Mu) (Ax T (λi=>Mu) A_) (by rw[T.len,A_]) (by have:=T.dep;rw[A_] at this;omega) hy;unfold cK;rw[aB];unfold oJ;generalize (List.range ws.length).map (λk=>bV (bxO (AT.bx ws t b) k))=pv at *;generalize atV t=tv at *;generalize liV ws=wv at *;generalize bV b=bv at *;simp![h,be]
def fP{r:Str}(h:Bl.G (.str r) (.tup [.str "across",.str "down",.str "halves",.str "rows",.str "greatest",.str "thirds"])=.val (.bl false)):cZ.G [.str r]=.ok (.val .non) []:=by unfold cZ;rw[aB];unfold jM;simp![h]
def Gi{bv wv t:Val}(h:bY.G [bv,wv]=.ok (.val t) []):aJ.G [.str "halves",bv,wv]=.ok (.val t) []:=by
 have ck:=fP (r:="halves") rfl;have e1:bo (.str "halves") (.str "halves")=some true:=by rw[L3.eq_str (by decide) (by decide)];exact MP some (by decide)
 unfold aJ;rw[aB];unfold dE;simp![ck,e1,h]
def Ii{bv wv t:Val}(h:cR.G [bv,wv]=.ok (.val t) []):aJ.G [.str "rows",bv,wv]=.ok (.val t) []:=by
 have ck:=fP (r:="rows") rfl;have e0:bo (.str "rows") (.str "halves")=some false:=by rw[L3.eq_str (by decide) (by decide)];exact MP some (by decide)
 have e1:bo (.str "rows") (.str "rows")=some true:=by rw[L3.eq_str (by decide) (by decide)];exact MP some (by decide)
 unfold aJ;rw[aB];unfold dE;simp![ck,e0,e1,h]
def JA{bv wv t:Val}(h:br.G [bv,wv]=.ok (.val t) []):aJ.G [.str "greatest",bv,wv]=.ok (.val t) []:=by
 have ck:=fP (r:="greatest") rfl;have e0:bo (.str "greatest") (.str "halves")=some false:=by rw[L3.eq_str (by decide) (by decide)];exact MP some (by decide)
 have e1:bo (.str "greatest") (.str "rows")=some false:=by rw[L3.eq_str (by decide) (by decide)];exact MP some (by decide)
 have e2:bo (.str "greatest") (.str "greatest")=some true:=by rw[L3.eq_str (by decide) (by decide)];exact MP some (by decide)
 unfold aJ;rw[aB];unfold dE;simp![ck,e0,e1,e2,h]
def JV{bv wv t:Val}(h:bX.G [bv,wv]=.ok (.val t) []):aJ.G [.str "thirds",bv,wv]=.ok (.val t) []:=by
 have ck:=fP (r:="thirds") rfl;have e0:bo (.str "thirds") (.str "halves")=some false:=by rw[L3.eq_str (by decide) (by decide)];exact MP some (by decide)
 have e1:bo (.str "thirds") (.str "rows")=some false:=by rw[L3.eq_str (by decide) (by decide)];exact MP some (by decide)
 have e2:bo (.str "thirds") (.str "greatest")=some false:=by rw[L3.eq_str (by decide) (by decide)];exact MP some (by decide)
 have e3:bo (.str "thirds") (.str "thirds")=some true:=by rw[L3.eq_str (by decide) (by decide)];exact MP some (by decide)
 unfold aJ;rw[aB];unfold dE;simp![ck,e0,e1,e2,e3,h]
theorem lG:∀l:List Nat,AT.lvsL (l.map .lf)=l
 | []=>rfl
 |k::l=>by rw[x_,AT.lvsL,lG l,AT.lvs];rfl
theorem vD:∀l:List Nat,AT.okL (l.map .lf)=true
 | []=>rfl
 |k::l=>by rw[x_,AT.okL,vD l,AT.ok];rfl
theorem qU:∀l:List Nat,AT.depL (l.map .lf)<=1
 | []=>by rw[Mx,AT.depL];omega
 |k::l=>by rw[x_,AT.depL,AT.dep];have:=qU l;omega
noncomputable def sbT (w:Bool) (n:Nat):AT:=if n=1 then .lf 0 else .nd w ((List.range n).map .lf)
def qH(w:Bool){n:Nat}(h:1<=n):TOk (sbT w n) (List.range n):=by
 unfold sbT;by_cases h1:n=1
 .rw[if_pos h1,h1];exact⟨rfl,λk=>Iff.rfl,t_ _,rfl⟩
 .rw[if_neg h1];refine⟨?_,λk=>by rw[AT.lvs,lG],?_,by rw[AT.lvs,lG]⟩
  .rw[AT.ok,vD,p_,A_,I_ (by omega)];rfl
  .rw[AT.dep,A_]
   have:=qU (List.range n)
   omega
def C5(w:Bool)(l:List Nat):atV (.nd w (l.map .lf))=.tup [.str (wy w),.tup (l.map λk:Nat=>Val.int k)]:=by unfold atV;rw[AT.val,AT.vals_map,MZ];rfl
def EL{ws:List Int}{b:Bx}(w:Bool)(hb:b.Ok)(W:WOk ws):c8.G [.str (wy w),bV b,liV ws]=.ok (.val (atV (sbT w ws.length))) []:=by
 have wl:=W.len;have wp:=W.pos;have cb:=bq hb;have cw:=gg (ws:=ws) (by intro z;rw[z] at wp;exact absurd wp (by decide)) (λx hx=>(W.wt x hx).1) wl;have ll:((ws.map Val.int).length:Nat)=ws.length:=p_ ..;have kt:lV.G [.int (ws.length:Nat)]=.val (.tup ((List.range ws.length).map λk:Nat=>Val.int k)):=Lv ⟨by omega,by omega⟩;unfold c8 sbT;rw[aB];unfold iD;unfold liV;by_cases h1:ws.length=1
 .have n1:(((ws.length:Nat):Int)==1)=true:=by rw[MD];omega
  rw[if_pos h1,show atV (.lf 0)=.int 0 from rfl];generalize ws.map Val.int=wv at *;generalize bV b=bv at *;generalize wy w=yy at *;simp![cb,cw,ll,n1]
 .have n1:(((ws.length:Nat):Int)==1)=false:=by rw[H_];omega
  rw[if_neg h1,C5];generalize ((List.range ws.length).map λk:Nat=>Val.int k)=rv at *;generalize ws.map Val.int=wv at *;generalize bV b=bv at *;generalize wy w=yy at *;simp![cb,cw,ll,n1,kt]
def xh(w:Bool){s:Str}(h:s∈(["halves", "rows", "greatest", "thirds"]:List Str)):bo (.str (wy w)) (.str s)=some false:=by simp only[F_,Ou,or_false] at h;rcases h with rfl |rfl |rfl |rfl <;> cases w <;> (rw[L3.eq_str (by decide) (by decide)];exact MP some (by decide))
def IK(w:Bool):cZ.G [.str (wy w)]=.ok (.val .non) []:=by
 cases w
 .exact fP rfl
 .exact fP rfl
def Al{ws:List Int}{b:Bx}(w:Bool)(hb:b.Ok)(W:WOk ws):aJ.G [.str (wy w),bV b,liV ws]=.ok (.val (atV (sbT w ws.length))) []:=by have se:=EL w hb W;have ck:=IK w;have n1:=xh w (s:="halves") (by simp);have n2:=xh w (s:="rows") (by simp);have n3:=xh w (s:="greatest") (by simp);have n4:=xh w (s:="thirds") (by simp);unfold aJ;rw[aB];unfold dE;generalize atV (sbT w ws.length)=tv at *;generalize liV ws=wv at *;generalize bV b=bv at *;generalize wy w=yy at *;simp![ck,n1,n2,n3,n4,se]
theorem v5{k:Nat}:∀{l:List (Nat×Bx)},k∈l.map (·.1)->∃p∈l,bxO l k=p.2
 | [],h=>nomatch h
 |
  p::l,h=>by
  unfold bxO;by_cases hp:p.1=k
  .exact⟨p,s_ ..,by rw[List.find?_cons_of_pos (by simpa using hp)];rfl⟩
  .rw[x_,F_] at h;obtain⟨q,hq,e⟩:=v5 (l:=l) (h.resolve_left λz=>hp z.symm);refine⟨q,q_ _ hq,?_⟩;rw[List.find?_cons_of_neg (by simpa using hp)];exact e
noncomputable def bsO (ws:List Int) (t:AT) (b:Bx):List Bx:=(List.range ws.length).map λk=>bxO (AT.bx ws t b) k
def vj(ws:List Int)(t:AT)(b:Bx):((List.range ws.length).map λk=>bV (bxO (AT.bx ws t b) k))=(bsO ws t b).map bV:=by unfold bsO;rw[MZ];rfl
def FK(ws:List Int)(t:AT)(b:Bx):(bsO ws t b).length=ws.length:=by unfold bsO;rw[p_,A_]
def jW{ws:List Int}{b:Bx}{r:Str}{t:AT}(g:Good b)(W:WOk ws)(h:aJ.G [.str r,bV b,liV ws]=.ok (.val (atV t)) [])(T:TOk t (List.range ws.length)):cK.G [.str r,bV b,liV ws]=.ok (.new (.lst ((bsO ws t b).map bV))) []:=by rw[<- vj];exact K0 g W h T
def Ft{ws:List Int}{l:List Nat}(h:l.Perm (List.range ws.length)):wtA ws l=ws.sum:=by
 rw[sy h];unfold wtA;congr 1;refine List.ext_getElem? λi=>?_;rw[L_];by_cases hi:i<ws.length
 .rw[Pd hi,v_ hi];show some (ws.getD i 0)=_;rw[Mo,v_ hi];rfl
 .rw[Oj (by rw[A_];omega),Oj (by omega)];rfl
structure TBx(ws:List Int)(t:AT)(b:Bx):Prop where
 ok:t.ok=true
 wt:∀k∈t.lvs,1<=ws.getD k 0
 bok:b.Ok
 mem:∀k,k∈t.lvs ↔ k<ws.length
 sum:wtT ws t=ws.sum
 sz:∀p∈AT.bx ws t b,p.2.Sz 2000
def TBx.pth{ws:List Int}{t:AT}{b:Bx}(T:TBx ws t b){k:Nat}(h:k<ws.length):∃p,t.pth k=some p/\AT.bxAt ws p t b=some (bxO (AT.bx ws t b) k)/\AT.at p t=some k:=by
 cases q:t.pth k with
 |some p=>exact⟨p,rfl,E1 t p b q,AT.pth_at t p q⟩
 |none=>exact absurd ((T.mem k).mpr h) ((AT.pth_mem t).mp q)
def TBx.szO{ws:List Int}{t:AT}{b:Bx}(T:TBx ws t b){k:Nat}(h:k<ws.length):(bxO (AT.bx ws t b) k).Sz 2000:=by obtain⟨p,hp,e⟩:=v5 (l:=AT.bx ws t b) (k:=k) (by rw[AT.bx_keys];exact (T.mem k).mpr h);rw[e];exact T.sz p hp
def G6{ws:List Int}{t:AT}{o:List Nat}{b:Bx}(g:Good b)(W:WOk ws)(T:TOk t o)(ho:∀i,i∈o ↔ i<ws.length)(hl:o.length=ws.length):TBx ws t b:=by obtain⟨hw,_⟩:=DD g W T ho hl;obtain⟨m,hm,hy⟩:=xS g W T ho hl;have hp:=lC ws.length t.lvs (by rw[T.len,hl]) λi hi=>(T.mem i).mpr ((ho i).mpr hi);exact⟨T.ok,hw,g.ok,λk=>(T.mem k).trans (ho k),Ft hp,λp hp=>(Jf t b hy p hp).2⟩
theorem DK:∀(xs:List Rat) (a:Rat),a<=xs.foldl mx a/\(∀x∈xs,x<=xs.foldl mx a)/\(xs.foldl mx a=a\/xs.foldl mx a∈xs)
 | [],a=>⟨Pf,λ_ h=>(nomatch h),.inl rfl⟩
 |
  x::xs,a=>by
  obtain⟨h1,h2,h3⟩:=DK xs (mx a x);rw[O0];have ha:a<=mx a x:=by unfold mx;split;grind;exact Pf
  have hx:x<=mx a x:=by unfold mx;split;exact Pf;grind
  refine⟨NN ha h1,λy hy=>?_,?_⟩
  .rcases F_.mp hy with rfl |hy
   .exact NN hx h1
   .exact h2 y hy
  .rcases h3 with h3 |h3
   .rw[h3];unfold mx;split
    .exact .inr (s_ ..)
    .exact .inl rfl
   .exact .inr (q_ _ h3)
def jN{p:List Rat}(h:p≠[]):mxL p∈p/\∀x∈p,x<=mxL p:=by
 cases p with
 |nil=>exact absurd rfl h
 |
  cons a xs=>
  obtain⟨h1,h2,h3⟩:=DK xs a;refine⟨?_,λx hx=>?_⟩
  .show xs.foldl mx a∈_;rcases h3 with h3 |h3
   .rw[h3];exact s_ ..
   .exact q_ _ h3
  .rcases F_.mp hx with rfl |hx
   .exact h1
   .exact h2 x hx
theorem uc(q:Rat):∀qs:List Rat,gG (fV q) (qs.map fV)=some (qs.map λp=>decide (p=q))
 | []=>rfl
 |x::xs=>by rw[x_,gG,uc q xs,LZ];rfl
def BA{qs:List Rat}{q:Rat}(h:q∈qs):∃i:Int,fi.G (.lst (qs.map fV)) [fV q]=.val (.int i):=by have hm:true∈qs.map λp=>decide (p=q):=Mq.mpr ⟨q,h,I_ rfl⟩;have hl:=OF.mpr hm;refine⟨((qs.map λp=>decide (p=q)).idxOf true:Nat),?_⟩;show d9 (.lst (qs.map fV)) [fV q]=_;unfold d9;dsimp only;rw[uc];dsimp only;rw[if_pos hl]
def sI{bs:List Bx}(h0:bs≠[])(hb:∀c∈bs,c.Ok/\c.Sz 2000)(hl:bs.length<=1000):∃i:Int,fi.G (.lst ((bs.map aA).map fV)) [fV (mxL (bs.map aA))]=.val (.int i)/\fU.G [.lst (bs.map bV)]=.ok (.val (.tup [fV (mxL (bs.map aA)),.int i])) []:=by
 have q1:bs.map aA≠[]:=λz=>h0 (Oz.mp z);have q2:∀q∈bs.map aA,Sz 4000 q:=λq hq=>by obtain⟨c,hc,rfl⟩:=Mq.mp hq;exact mS (hb c hc).1 (hb c hc).2
 obtain⟨s,lc⟩:=zu (P:=eI) (bs:=bs) (λc hc=>kK (hb c hc).1 (hb c hc).2 (by decide)) rfl hl;have ge:=iz (by decide) q1 q2;obtain⟨i,ix⟩:=BA (jN q1).1;refine⟨i,ix,?_⟩;have sl:((bs.map aA).map fV).length<=16777216:=by rw[p_,p_];omega
 unfold fU;rw[aB];unfold v9;generalize (bs.map aA).map fV=sv at *;generalize mxL (bs.map aA)=r at *;generalize bs.map bV=bv at *;simp![lc,sl,ge,ix]
structure W1(ws:List Int):Prop where
 pos:1<=ws.length
 len:ws.length<=40
 wt:∀w∈ws,1<=w/\w<=1000000000000000000000000000000
def sm30{w:Int}(h:0<=w)(h2:w<=2000000000000000000000000000000):Sm 104 w:=by
 refine lR h ?_;have e:(2:Int)^104=20282409603651670423947251286016:=by decide
 omega
def W1.sm{ws:List Int}(W:W1 ws){w:Int}(h:w∈ws):Sm 104 w:=sm30 (by have:=W.wt w h;omega) (by have:=W.wt w h;omega)
def WOk.one{ws:List Int}(W:WOk ws):W1 ws:=⟨W.pos,W.len,W.wt⟩
def WOk.ne{ws:List Int}(W:WOk ws):ws≠[]:=λz=>by
 have:=W.pos
 rw[z] at this;exact absurd this (by decide)
def j4{b:Bx}{ws:List Int}(g:Good b)(W:WOk ws):b.Sz 2000:=by obtain⟨m,_,B,_⟩:=nh g W;exact B.sz
def Hk{ws:List Int}{b:Bx}(g:Good b)(W:WOk ws):∃m,m<=104/\Bd m (2^101) b ws.length/\ws.sum<2^m/\(ws.length:Int)<=ws.sum:=by obtain⟨m,hm,B,h⟩:=nh g W;have e:=h (List.range ws.length) (λk hk=>Mu.mp hk) (by rw[A_];exact t_ _);unfold wtA at e;rw[lq] at e;exact⟨m,hm,B,e,dg λw hw=>(W.wt w hw).1⟩
def Ds(p:Rat):(fV p).items=some [.int p.num,.int p.den]:=rfl
def Ai{q:Rat}(h:0<q.num):(q⁻¹).num=q.den/\((q⁻¹).den:Int)=q.num:=by rw[Rat.num_inv,Rat.den_inv,Int.sign_eq_one_of_pos h,if_neg (by omega)];omega
def rS{b:Bx}{n:Nat}(hb:b.Ok)(hs:b.Sz n)(h:n+n<=8000):eQ.G [bV b]=.ok (.val (fV (aA b))) []:=by
 have ib:(bV b).items=some [fV b.l,fV b.t,fV b.w,fV b.h]:=rfl;have c1:aV.G (.int b.w.num) (.int (b.h.den:Nat))=.val (.int (b.w.num*(b.h.den:Nat))):=bE (CMulA.of hs.w.top hs.h.bot (by omega) (by omega));have c2:aV.G (.int (b.w.den:Nat)) (.int b.h.num)=.val (.int ((b.w.den:Nat)*b.h.num)):=bE (CMulA.of hs.w.bot hs.h.top (by omega) (by omega));have h0:=hb.1;have h1:=hb.2;have hw0:0<b.w.num:=iQ.mpr h0;have hh0:0<b.h.num:=iQ.mpr h1;have dw:=b.w.den_pos;have lo:=gQ (a:=b.w.num*b.h.den) (b:=b.w.den*b.h.num) (Int.ne_of_gt (Int.mul_pos (by omega) hh0)) ((hs.w.bot.mul hs.h.top).mono h);have hne:b.h≠0:=λz=>by rw[z] at h1;exact absurd h1 (by decide)
 have hnw:b.w≠0:=λz=>by rw[z] at h0;exact absurd h0 (by decide)
 rw[<- kW hne] at lo;have q0:0<b.w/b.h:=by rw[Od];exact Oe h0 (Pe.mpr h1)
 have qn:0<(b.w/b.h).num:=iQ.mpr q0;have iv:(b.w/b.h)⁻¹=b.h/b.w:=by rw[Od,Od,Rat.inv_mul_rev,Rat.inv_inv]
 obtain⟨i1,i2⟩:=Ai qn;rw[iv] at i1 i2;have lt:(b.w/b.h).num<((b.w/b.h).den:Int) ↔ b.w<b.h:=by
  have e:=uj (b.w/b.h) 1;rw[show (1:Rat).den=1 from rfl,show (1:Rat).num=1 from rfl] at e;rw[show ((b.w/b.h).num<((b.w/b.h).den:Int)) ↔ (b.w/b.h).num*((1:Nat):Int)<1*((b.w/b.h).den:Int) from by omega,<- e];constructor
  .intro z
   have:=Oo z h1
   rw[Rat.div_mul_cancel hne,Pg] at this;exact this
  .intro z
   have:=Oo z (Pe.mpr h1)
   rw[<- Od,Rat.mul_inv_cancel _ hne] at this;exact this
 unfold eQ aA;rw[aB];unfold kz;by_cases hl:b.w<b.h
 .rw[if_pos hl,show fV (b.h/b.w)=.tup [.int (b.h/b.w).num,.int (b.h/b.w).den] from rfl,i1,i2];have d1:=I_ (lt.mpr hl);simp![ib,Ds,c1,c2,lo,d1]
 .rw[if_neg hl];have d1:=E_ (λz=>hl (lt.mp z));simp![ib,Ds,c1,c2,lo,d1]
noncomputable def dP (b:Bx) (S w:Int):Rat:=aA b*((w:Rat)/(S:Rat))
def nI{b:Bx}{ws:List Int}(g:Good b)(W:WOk ws){w:Int}(hw:w∈ws):eE.G [bV b,.int w,.int ws.sum]=.ok (.val (fV (dP b ws.sum w))) []/\Sz 4200 (dP b ws.sum w):=by obtain⟨m,hm,B,h,hp⟩:=Hk g W;have h1:=W.wt w hw;have wp:=W.pos;have sS:Sm 104 ws.sum:=(lR (by omega) h).mono hm;have fe:=dG (a:=w) (b:=ws.sum) (by omega) (sS.mono (by decide));have sh:=kK g.ok (j4 g W) (by decide);have s1:=mS g.ok (j4 g W);have s2:Sz 104 ((w:Rat)/((ws.sum:Int):Rat)):=Sz.div (by omega) (W.one.sm hw) sS 104 (by decide) (by decide);have te:=lI s1 s2 (by decide);refine⟨?_,(s1.mul s2).mono (by decide)⟩;unfold eE dP;rw[aB];unfold mB;generalize fV (aA b*((w:Rat)/((ws.sum:Int):Rat)))=tv at *;generalize fV (aA b)=sv at *;generalize fV ((w:Rat)/((ws.sum:Int):Rat))=qv at *;generalize bV b=bv at *;simp![sh,fe,te]
noncomputable def flr (b:Bx) (ws:List Int):Rat:=mxL (1::ws.map (dP b ws.sum))
def B8{b:Bx}{ws:List Int}(g:Good b)(W:WOk ws):fu.G [bV b,liV ws]=.ok (.val (fV (flr b ws))) []:=by
 have wl:=W.len;have cb:=bq g.ok;have cw:=gg W.ne (λx hx=>(W.wt x hx).1) W.len;have iv:=bO ws;obtain⟨e',⟨s,rfl,_⟩,lc⟩:=cS (g:=(gtN 0).G) (F:=(ai eE (aa (af 1) (aa (af 0) (aa (pFn b0 (aa (af 2) ag)) ag)))).G) Val.int (λw=>fV (dP b ws.sum w)) (λe=>∃s:Sl,e=[s,.sh (bV b),.sh (liV ws)]/\s.pl=true) ws [] [.no,.sh (bV b),.sh (liV ws)] ⟨.no,rfl,rfl⟩ (by
  rintro w hw _ ⟨s,rfl,hs⟩;have te:=(nI g W hw).1;refine⟨[.sh (.int w),.sh (bV b),.sh (liV ws)],.val (fV (dP b ws.sum w)),[.sh (.int w),.sh (bV b),.sh (liV ws)],?_,?_,rfl,_,rfl,rfl⟩
  .generalize liV ws=wv at *;generalize bV b=bv at *;simp![hs]
  .unfold liV at *;generalize ws.map Val.int=wv at *;generalize bV b=bv at *;generalize fV (dP b ws.sum w)=tv at *;simp![iv,te]) (by rw[Mr];omega)
 rw[MR] at lc;have ge:=iz (n:=4200) (by decide) (qs:=1::ws.map (dP b ws.sum)) (by simp) λq hq=>by
  rcases F_.mp hq with rfl |hq
  .exact⟨by show (1:Rat).num.natAbs<_;exact K_ (show 1<2^1 by decide) (MN (by decide) (by decide)),by show (1:Rat).den<_;exact K_ (show 1<2^1 by decide) (MN (by decide) (by decide))⟩
  .obtain⟨w,hw,rfl⟩:=Mq.mp hq;exact (nI g W hw).2
 rw[x_,MZ,show fV 1=.tup [.int 1,.int 1] from rfl,show mxL (1::ws.map (dP b ws.sum))=flr b ws from rfl] at ge;rw[show (λw=>fV (dP b ws.sum w))=fV ∘ dP b ws.sum from rfl] at lc;have l2:(ws.map (fV ∘ dP b ws.sum)).length<=16777215:=by rw[p_];omega
 unfold fu;rw[aB];unfold lN;unfold liV at *;generalize ws.map (fV ∘ dP b ws.sum)=tv at *;generalize ws.map Val.int=wv at *;generalize fV (flr b ws)=fv at *;generalize bV b=bv at *;have l3:tv.length<=16777216:=by omega
 have l4:1+tv.length<=16777216:=by omega
 simp![cb,cw,lc,l3,l4,ge]
def yr{c:Bx}(hc:c.Ok):c.w/c.h<=aA c/\c.h/c.w<=aA c/\1<=aA c:=by
 have w0:=hc.1;have h0:=hc.2;by_cases l:c.w<c.h
 .rw[show aA c=c.h/c.w from if_pos l];have u:1<=c.h/c.w:=N_.mp λz=>by
   have:=(Rat.div_lt_iff w0).mp z
   rw[Pg] at this;exact N_.mpr (NM l) this
  refine⟨NN (N_.mp λz=>?_) u,Pf,u⟩
  have:=(Rat.lt_div_iff h0).mp z
  rw[Pg] at this;exact N_.mpr (NM l) this
 .rw[show aA c=c.w/c.h from if_neg l];have u:1<=c.w/c.h:=N_.mp λz=>by
   have:=(Rat.div_lt_iff h0).mp z
   rw[Pg] at this;exact l this
  refine⟨Pf,NN (N_.mp λz=>?_) u,u⟩
  have:=(Rat.lt_div_iff w0).mp z
  rw[Pg] at this;exact l this
def oT{W H w h r:Rat}(W0:0<W)(H0:0<H)(w0:0<w)(h0:0<h)(hh:h<=H)(e:w*h=W*H*r):W/H*r<=w/h:=by
 refine N_.mp λz=>?_;have z1:=(Rat.div_lt_iff h0).mp z;have eq:W/H*H=W:=Rat.div_mul_cancel (λz=>by rw[z] at H0;exact Rat.lt_irrefl H0);have q0:0<W/H:=by rw[Od];exact Oe W0 (Pe.mpr H0)
 have r0:0<r:=Rat.not_le.mp λy=>by have y1:=Of y (NM (Oe W0 H0));have y2:=Oe w0 h0;rw[Rat.mul_zero,<- e] at y1;exact N_.mpr y1 y2
 generalize W/H=q at *;subst eq;have z2:=Oo z1 h0;have qr:=Oe q0 r0;have a1:=Of hh (NM h0);have a2:=Rat.mul_le_mul_of_nonneg_right hh (NM H0);have a3:=Of (NN a1 a2) (NM qr);rw[e] at z2;clear e z z1 a1 a2 hh w0 W0 q0 r0 qr H0 h0;grind
def E4{b c:Bx}{r:Rat}(hb:b.Ok)(hc:c.Ok)(i:Bx.In c b)(e:c.w*c.h=b.w*b.h*r):aA b*r<=aA c:=by
 obtain⟨u1,u2,_⟩:=yr hc;obtain⟨i1,i2,i3,i4⟩:=i;have hw:c.w<=b.w:=by clear e;grind
 have hh:c.h<=b.h:=by clear e;grind
 by_cases l:b.w<b.h
 .rw[show aA b=b.h/b.w from if_pos l];exact NN (oT hb.2 hb.1 hc.2 hc.1 hw (by rw[Rat.mul_comm c.h,e,Rat.mul_comm b.w])) u2
 .rw[show aA b=b.w/b.h from if_neg l];exact NN (oT hb.1 hb.2 hc.1 hc.2 hh e) u1
def zC{ws:List Int}{k:Nat}(t:AT)(b:Bx)(h:k<ws.length):bxO (AT.bx ws t b) k∈bsO ws t b:=Mq.mpr ⟨k,Mu.mpr h,rfl⟩
def HE{ws:List Int}{t:AT}{b:Bx}(T:TBx ws t b)(h1:1<=ws.length):flr b ws<=mxL ((bsO ws t b).map aA):=by
 have ok:∀k,k<ws.length->(bxO (AT.bx ws t b) k).Ok/\Bx.In (bxO (AT.bx ws t b) k) b:=λk hk=>by obtain⟨p,p1,p2,p3⟩:=T.pth hk;exact oB T.ok T.wt T.bok p2
 have up:∀k,k<ws.length->aA (bxO (AT.bx ws t b) k)<=mxL ((bsO ws t b).map aA):=λk hk=>(jN (λz=>by
  have:=zC t b hk
  rw[Oz.mp z] at this;cases this)).2 _ (Nd (zC t b hk))
 have m:=(jN (p:=1::ws.map (dP b ws.sum)) (by simp)).1;rw[show mxL (1::ws.map (dP b ws.sum))=flr b ws from rfl] at m;rcases F_.mp m with m |m
 .rw[m];exact NN (yr (ok 0 (by omega)).1).2.2 (up 0 (by omega))
 .obtain⟨w,hw,e⟩:=Mq.mp m;obtain⟨k,hk,rfl⟩:=List.getElem_of_mem hw;obtain⟨p,p1,p2,p3⟩:=T.pth hk;have ar:=oV T.ok T.wt T.bok p2 p3;rw[T.sum,Mo,v_ hk,Option.getD_some] at ar;rw[<- e];exact NN (E4 T.bok (ok k hk).1 (ok k hk).2 ar) (up k hk)
def GQ{b:Bx}{ws:List Int}(g:Good b)(W:WOk ws):Sz 4200 (flr b ws):=by
 have m:=(jN (p:=1::ws.map (dP b ws.sum)) (by simp)).1;rw[show mxL (1::ws.map (dP b ws.sum))=flr b ws from rfl] at m;rcases F_.mp m with m |m
 .rw[m];exact⟨by show (1:Rat).num.natAbs<_;exact K_ (show 1<2^1 by decide) (MN (by decide) (by decide)),by show (1:Rat).den<_;exact K_ (show 1<2^1 by decide) (MN (by decide) (by decide))⟩
 .obtain⟨w,hw,e⟩:=Mq.mp m;rw[<- e];exact (nI g W hw).2
structure Pt(b:Bx)(ws:List Int)(bs:List Bx):Prop where
 ne:bs≠[]
 len:bs.length<=1000
 fine:∀c∈bs,c.Ok/\c.Sz 2000
 fl:flr b ws<=mxL (bs.map aA)
def wR{b:Bx}{ws:List Int}{t:AT}{o:List Nat}(g:Good b)(W:WOk ws)(T:TOk t o)(ho:∀i,i∈o ↔ i<ws.length)(hl:o.length=ws.length):Pt b ws (bsO ws t b):=by
 have X:=G6 g W T ho hl;have bl:=FK ws t b;have wp:=W.pos;have wl:=W.len;refine⟨λz=>?_,by omega,λc hc=>?_,HE X wp⟩
 .rw[z,Mr] at bl;omega
 .obtain⟨k,hk,rfl⟩:=Mq.mp hc;have hk:=Mu.mp hk;obtain⟨p,p1,p2,p3⟩:=X.pth hk;exact⟨(oB X.ok X.wt X.bok p2).1,X.szO hk⟩
def uu{b:Bx}{ws:List Int}{t:AT}{o:List Nat}(g:Good b)(W:WOk ws)(T:TOk t o)(ho:∀i,i∈o ↔ i<ws.length)(hl:o.length=ws.length):cH.G [bV b,liV ws,atV t]=.ok (.new (.lst ((bsO ws t b).map bV))) []:=by have wp:=W.pos;have wl:=W.len;obtain⟨m,hm,hy⟩:=xS g W T ho hl;have be:=si (by omega) g.ok W.ne (λx hx=>(W.wt x hx).1) wl T.ok (λk=>(T.mem k).trans (ho k)) (Ax T ho hl) (by rw[T.len,hl]) (by have:=T.dep;omega) hy;rw[vj] at be;exact be
noncomputable def six (b:Bx) (ws:List Int):List (Str×AT):=[("across",sbT true ws.length),("down",sbT false ws.length),("halves",tH b ws),("rows",tR b ws),("greatest",tG b ws),("thirds",tT b ws)]
def zj{b:Bx}{ws:List Int}(g:Good b)(W:WOk ws):∀p∈six b ws,TOk p.2 (List.range ws.length)/\cK.G [.str p.1,bV b,liV ws]=.ok (.new (.lst ((bsO ws p.2 b).map bV))) []:=by
 have wp:=W.pos;intro p hp;unfold six at hp;simp only[F_,Ou,or_false] at hp;rcases hp with rfl |rfl |rfl |rfl |rfl |rfl
 .exact⟨qH true wp,jW g W (Al true g.ok W) (qH true wp)⟩
 .exact⟨qH false wp,jW g W (Al false g.ok W) (qH false wp)⟩
 .exact⟨(wW g W).2,jW g W (Gi (wW g W).1) (wW g W).2⟩
 .exact⟨(xR g W).2,jW g W (Ii (xR g W).1) (xR g W).2⟩
 .exact⟨(xo g W).2,jW g W (JA (xo g W).1) (xo g W).2⟩
 .exact⟨(xw g W).2,jW g W (JV (xw g W).1) (xw g W).2⟩
def Iu{b:Bx}{ws:List Int}(g:Good b)(W:WOk ws):∃s:Sl,lcV (gtN 0).G qY.G (ai cK (aa (af 0) (aa (af 1) (aa (af 2) ag)))).G [.str "across",.str "down",.str "halves",.str "rows",.str "greatest",.str "thirds"] [] [.no,.sh (bV b),.sh (liV ws)]=.ok ((six b ws).map λp=>.lst ((bsO ws p.2 b).map bV)) [s,.sh (bV b),.sh (liV ws)]:=by
 obtain⟨e',⟨s,rfl,_⟩,lc⟩:=cS (g:=(gtN 0).G) (F:=(ai cK (aa (af 0) (aa (af 1) (aa (af 2) ag)))).G) (λp:Str×AT=>Val.str p.1) (λp=>.lst ((bsO ws p.2 b).map bV)) (λe=>∃s:Sl,e=[s,.sh (bV b),.sh (liV ws)]/\s.pl=true) (six b ws) [] [.no,.sh (bV b),.sh (liV ws)] ⟨.no,rfl,rfl⟩ (by
  rintro p hp _ ⟨s,rfl,hs⟩;obtain⟨_,e⟩:=zj g W p hp;refine⟨[.sh (.str p.1),.sh (bV b),.sh (liV ws)],.new (.lst ((bsO ws p.2 b).map bV)),[.sh (.str p.1),.sh (bV b),.sh (liV ws)],?_,?_,rfl,_,rfl,rfl⟩
  .generalize liV ws=wv at *;generalize bV b=bv at *;simp![hs]
  .generalize (bsO ws p.2 b).map bV=v1 at *;generalize liV ws=wv at *;generalize bV b=bv at *;simp![e]) (by show 0+6<=_;decide)
 exact⟨s,lc⟩
noncomputable def lbV (L:List (List Bx)):Val:=.lst (L.map λbs=>.lst (bs.map bV))
section
variable{x0 x1 x5:Sl}{b:Bx}{ws:List Int}
def EW{bs:List Bx}{s6 s7 s9:Sl}(g:Good b)(W:WOk ws)(h:Pt b ws bs)(h9:s9.pl=true):∃t:Sl,t.pl=true/\mC.G [x0,x1,.sh (bV b),.sh (liV ws),.sh (fV (flr b ws)),x5,s6,s7,.sh (.lst (bs.map bV)),s9]=.nx [x0,x1,.sh (bV b),.sh (liV ws),.sh (fV (flr b ws)),x5,s6,s7,.sh (.lst (bs.map bV)),t]:=by
 obtain⟨i,_,wo⟩:=sI h.ne h.fine h.len;have q1:bs.map aA≠[]:=λz=>h.ne (Oz.mp z);have sM:Sz 4000 (mxL (bs.map aA)):=by obtain⟨c,hc,e⟩:=Mq.mp (jN q1).1;rw[<- e];exact mS (h.fine c hc).1 (h.fine c hc).2
 have sF:=GQ g W;have c1:aV.G (.int (mxL (bs.map aA)).num) (.int ((flr b ws).den:Nat))=.val (.int ((mxL (bs.map aA)).num*((flr b ws).den:Nat))):=bE (CMulA.of sM.top sF.bot (by decide) (by decide));have c2:aV.G (.int (flr b ws).num) (.int ((mxL (bs.map aA)).den:Nat))=.val (.int ((flr b ws).num*((mxL (bs.map aA)).den:Nat))):=bE (CMulA.of sF.top sM.bot (by decide) (by decide));have d1:=E_ (λz=>N_.mpr h.fl ((uj (mxL (bs.map aA)) (flr b ws)).mpr z));refine⟨.sh (fV (mxL (bs.map aA))),rfl,?_⟩;have j0:∀p q:Val,atI [p,q] 0=some p:=λ_ _=>cC (by decide) rfl;have j1:∀p q:Val,atI [p,q] 1=some q:=λ_ _=>cC (by decide) rfl;unfold mC;rw[show fV (mxL (bs.map aA))=.tup [.int (mxL (bs.map aA)).num,.int (mxL (bs.map aA)).den] from rfl] at *;rw[show fV (flr b ws)=.tup [.int (flr b ws).num,.int (flr b ws).den] from rfl];generalize bs.map bV=bv at *;generalize mxL (bs.map aA)=M at *;generalize flr b ws=F at *;simp![wo,j0,j1,c1,c2,d1,h9]
theorem tj{s7:Sl}{lv:Val}(g:Good b)(W:WOk ws):∀(L:List (List Bx)) (s8 s9:Sl),s8.pl=true->s9.pl=true->(∀bs∈L,Pt b ws bs)->∃t8 t9:Sl,dN (gtN 8).G mC.G (L.map λbs=>.lst (bs.map bV)) [x0,x1,.sh (bV b),.sh (liV ws),.sh (fV (flr b ws)),x5,.lo lv,s7,s8,s9]=.nx [x0,x1,.sh (bV b),.sh (liV ws),.sh (fV (flr b ws)),x5,.lo lv,s7,t8,t9]
 | [],s8,s9,_,_,_=>⟨s8,s9,by rw[Mx,iM]⟩
 |
  bs::L,s8,s9,h8,h9,h=>by
  obtain⟨t,ht,e⟩:=EW (x0:=x0) (x1:=x1) (x5:=x5) (s6:=.lo lv) (s7:=s7) g W (h bs (s_ ..)) h9;obtain⟨t8,t9,ih⟩:=tj (s7:=s7) (lv:=lv) g W L (.sh (.lst (bs.map bV))) t rfl ht λx hx=>h x (q_ _ hx);refine⟨t8,t9,?_⟩;have g1:(gtN 8).G (.lst (bs.map bV)) [x0,x1,.sh (bV b),.sh (liV ws),.sh (fV (flr b ws)),x5,.lo lv,s7,s8,s9]=some [x0,x1,.sh (bV b),.sh (liV ws),.sh (fV (flr b ws)),x5,.lo lv,s7,.sh (.lst (bs.map bV)),s9]:=by generalize bs.map bV=bv;simp![h8]
  rw[x_,dS,g1];dsimp only;rw[e];exact ih
end
def Ak(L:List (List Bx))(bs:List Bx):lbV (L++[bs])=.lst ((L.map λbs=>.lst (bs.map bV))++[.lst (bs.map bV)]):=by unfold lbV;rw[MY];rfl
def Eu{b:Bx}{ws:List Int}(h:ws.length=1):bsO ws (sbT true ws.length) b=[b]:=by unfold bsO;rw[h];rfl
def yf(q:Rat):fi.G (.lst ([q].map fV)) [fV q]=.val (.int 0):=by show d9 (.lst ([q].map fV)) [fV q]=_;unfold d9;dsimp only;rw[uc];dsimp only;rw[x_,Mx,I_ rfl];rfl
def yS{b:Bx}{ws:List Int}(g:Good b)(W:WOk ws):fU.G [.lst ([b].map bV)]=.ok (.val (.tup [fV (aA b),.int 0])) []:=by obtain⟨i,ix,wo⟩:=sI (bs:=[b]) (by simp) (λc hc=>by rw[MC.mp hc];exact⟨g.ok,j4 g W⟩) (by show 1<=1000;decide);rw[show mxL ([b].map aA)=aA b from rfl] at ix wo;rw[show ([b].map aA).map fV=[aA b].map fV from rfl,yf] at ix;injection ix with ix;injection ix with ix;rw[<- ix] at wo;exact wo
def GN{r:Int}:∃m:Int,1<=m/\m<=40/\atI [Val.int 9,.int 40] (if (r==0)=true then 1 else 0)=some (.int m):=by
 by_cases h:r=0
 .exact⟨40,by decide,by decide,by rw[h];exact cC (by decide) rfl⟩
 .have e:(r==0)=false:=by rw[H_];exact h
  exact⟨9,by decide,by decide,by rw[e];exact cC (by decide) rfl⟩
def lawQ(r:SR3):Prop:=jC [false] r=.ok (.val (.bl true)) []
def BX{b:Bx}{ws:List Int}{o:List Nat}(g:Good b)(W:WOk ws)(ho:∀i,i∈o ↔ i<ws.length)(hl:o.length=ws.length){x0 x4 x8 x9:Sl}(a c:Int)(L:List (List Bx))(hL:L.length<=1000)(i:Val):∃(a' c':Int) (bs:List Bx),Pt b ws bs/\mI.G [x0,.ow (fdV a c 55),.sh (bV b),.sh (liV ws),x4,.sh (itV o),.ow (lbV L),.sh i,x8,x9]=.nx [x0,.ow (fdV a' c' 55),.sh (bV b),.sh (liV ws),x4,.sh (itV o),.ow (lbV (L++[bs])),.sh i,x8,x9]:=by
 have wp:=W.pos;have wl:=W.len;obtain⟨t,a1,c1,T,te⟩:=wb (k:=55) 40 42 o a c (λz=>by rw[z,Mr] at hl;omega) (by omega) (by decide) (by decide);have tb:=uu g W T ho hl;refine⟨a1,c1,bsO ws t b,wR g W T ho hl,?_⟩;have ll:(L.map λbs=>Val.lst (bs.map bV)).length<16777216:=by rw[p_];omega
 rw[Ak];unfold mI lbV;generalize (L.map λbs=>Val.lst (bs.map bV))=lv at *;generalize (bsO ws t b).map bV=v1 at *;generalize atV t=v2 at *;generalize bV b=bv at *;generalize liV ws=wv at *;generalize itV o=ov at *;generalize fdV a c 55=f0 at *;generalize fdV a1 c1 55=f1 at *;simp![te,tb,kM,ll]
def HW(ns:List Int)(hl:ns.length<=63):qN.G [.kl (ns.map .int)]=.ok (.val (.bl true)) []:=by
 unfold qN;rw[wz rfl];show lawQ (xK.G [.sh (.kl (ns.map .int)),.no,.no,.no,.no,.no,.no,.no,.no,.no]);unfold xK;obtain⟨a,e0⟩:=ny (ns:=ns) (k:=55) (by omega);refine aF (λe=>e=[.sh (.kl (ns.map .int)),.ow (fdV a 0 55),.no,.no,.no,.no,.no,.no,.no,.no]) ⟨_,by simp![e0],rfl⟩ ?_;rintro _ rfl;obtain⟨b,a1,c1,g,e1⟩:=ED a 0 55;refine aF (λe=>e=[.sh (.kl (ns.map .int)),.ow (fdV a1 c1 55),.sh (bV b),.no,.no,.no,.no,.no,.no,.no]) ⟨_,by simp![e1],rfl⟩ ?_;rintro _ rfl;obtain⟨r,a2,c2,e2,_,_⟩:=aD (a:=a1) (b:=c1) (k:=55) (m:=6) (by decide) (sm8 (by decide));obtain⟨m,m1,m2,pm⟩:=GN (r:=r);obtain⟨ws,p1,p2,p3,p4,p5⟩:=xJ (ns:=ns) (at_:=0) (most:=m) (by decide) ⟨m1,m2⟩;have W:WOk ws:=⟨p1,by omega,p3,λh=>p4 (by omega)⟩;refine aF (λe=>e=[.sh (.kl (ns.map .int)),.ow (fdV a2 c2 55),.sh (bV b),.sh (liV ws),.no,.no,.no,.no,.no,.no]) ⟨_,by generalize liV ws=wv at *;generalize bV b=bv at *;generalize fdV a1 c1 55=f1 at *;generalize fdV a2 c2 55=f2 at *;simp![e2,pm,p5],rfl⟩ ?_;rintro _ rfl;have wp:=W.pos;have wl:=W.len;have fe:=B8 g W;refine aF (λe=>e=[.sh (.kl (ns.map .int)),.ow (fdV a2 c2 55),.sh (bV b),.sh (liV ws),.sh (fV (flr b ws)),.no,.no,.no,.no,.no]) ⟨_,by generalize liV ws=wv at *;generalize bV b=bv at *;generalize fV (flr b ws)=fv at *;generalize fdV a2 c2 55=f2 at *;simp![fe],rfl⟩ ?_;rintro _ rfl;obtain⟨o,a3,c3,ho,ol,oe⟩:=Cu (a:=a2) (b:=c2) (k:=55) (m:=ws.length) (by omega);have ll:((ws.map Val.int).length:Nat)=ws.length:=p_ ..;refine aF (λe=>e=[.sh (.kl (ns.map .int)),.ow (fdV a3 c3 55),.sh (bV b),.sh (liV ws),.sh (fV (flr b ws)),.sh (itV o),.no,.no,.no,.no]) ⟨_,by unfold liV;generalize hW:ws.map Val.int=wv at *;generalize bV b=bv at *;generalize fV (flr b ws)=fv at *;generalize itV o=ov at *;generalize fdV a2 c2 55=f2 at *;generalize fdV a3 c3 55=f3 at *;simp![ll,oe],rfl⟩ ?_;rintro _ rfl;obtain⟨zs,lc⟩:=Iu g W;refine aF (λe=>e=[.sh (.kl (ns.map .int)),.ow (fdV a3 c3 55),.sh (bV b),.sh (liV ws),.sh (fV (flr b ws)),.sh (itV o),.ow (lbV ((six b ws).map λp=>bsO ws p.2 b)),.no,.no,.no]) ⟨_,by
  have l6:((six b ws).map λp=>Val.lst ((bsO ws p.2 b).map bV)).length<=16777216:=by show 6<=_;decide
  unfold lbV;rw[MZ];show _=SR3.nx [_,_,_,_,_,_,.ow (.lst ((six b ws).map λp=>Val.lst ((bsO ws p.2 b).map bV))),_,_,_];generalize ((six b ws).map λp=>Val.lst ((bsO ws p.2 b).map bV))=sv at *;generalize liV ws=wv at *;generalize bV b=bv at *;generalize fV (flr b ws)=fv at *;generalize itV o=ov at *;generalize fdV a3 c3 55=f3 at *;simp![lc,l6],rfl⟩ ?_
 rintro _ rfl;have six0:∀bs∈(six b ws).map λp=>bsO ws p.2 b,Pt b ws bs:=λbs hb=>by obtain⟨p,hp,rfl⟩:=Mq.mp hb;exact wR g W (zj g W p hp).1 (λi=>Mu) A_
 obtain⟨e4,⟨a4,c4,L,s7,q1,q2,q3,q4,rfl⟩,lo⟩:=uq (g:=(gtN 7).G) (B:=mI.G) (λi e=>∃(a c:Int) (L:List (List Bx)) (s7:Sl),L.length=6+i/\(∀bs∈L,Pt b ws bs)/\L[0]?=some (bsO ws (sbT true ws.length) b)/\s7.pl=true/\e=[.sh (.kl (ns.map .int)),.ow (fdV a c 55),.sh (bV b),.sh (liV ws),.sh (fV (flr b ws)),.sh (itV o),.ow (lbV L),s7,.no,.no]) 3 (e:=[.sh (.kl (ns.map .int)),.ow (fdV a3 c3 55),.sh (bV b),.sh (liV ws),.sh (fV (flr b ws)),.sh (itV o),.ow (lbV ((six b ws).map λp=>bsO ws p.2 b)),.no,.no,.no]) ⟨a3,c3,_,.no,rfl,six0,rfl,rfl,rfl⟩ (by
  rintro i hi _ ⟨a,c,L,s7,q1,q2,q3,q4,rfl⟩;obtain⟨a5,c5,bs,hb,e⟩:=BX (x0:=.sh (.kl (ns.map .int))) (x4:=.sh (fV (flr b ws))) (x8:=.no) (x9:=.no) g W ho ol a c L (by omega) (.int (i:Nat));refine⟨_,_,?_,.inl e,a5,c5,_,_,?_,λx hx=>?_,?_,rfl,rfl⟩
  .generalize lbV L=lv at *;generalize liV ws=wv at *;generalize bV b=bv at *;generalize fV (flr b ws)=fv at *;generalize itV o=ov at *;generalize fdV a c 55=f3 at *;simp![q4]
  .rw[Em,q1];rfl
  .rcases MQ.mp hx with hx |hx
   .exact q2 x hx
   .rw[MC.mp hx];exact hb
  .rw[Mz (by omega)];exact q3)
 have rg:hU [.int 3]=some (rgV 3):=nQ (k:=3) (by decide);refine aF (λe=>e=[.sh (.kl (ns.map .int)),.ow (fdV a4 c4 55),.sh (bV b),.sh (liV ws),.sh (fV (flr b ws)),.sh (itV o),.ow (lbV L),s7,.no,.no]) ⟨_,by generalize lbV ((six b ws).map λp=>bsO ws p.2 b)=l0 at *;generalize lbV L=lv at *;generalize liV ws=wv at *;generalize bV b=bv at *;generalize fV (flr b ws)=fv at *;generalize itV o=ov at *;generalize fdV a3 c3 55=f3 at *;generalize fdV a4 c4 55=f4 at *;simp![rg,lo],rfl⟩ ?_;rintro _ rfl;obtain⟨t,a5,c5,T,te⟩:=Cr (a:=a4) (b:=c4) (k:=55) (l:=o) (λz=>by rw[z,Mr] at ol;omega);rw[show (t.val λk=>.int (k:Nat))=atV t from rfl] at te;have tb:=uu g W T ho ol;have tp:=wR g W T ho ol;refine aF (λe=>e=[.sh (.kl (ns.map .int)),.ow (fdV a5 c5 55),.sh (bV b),.sh (liV ws),.sh (fV (flr b ws)),.sh (itV o),.ow (lbV (L++[bsO ws t b])),s7,.no,.no]) ⟨_,by
  have ll:(L.map λbs=>Val.lst (bs.map bV)).length<16777216:=by rw[p_];omega
  rw[Ak];unfold lbV;generalize (L.map λbs=>Val.lst (bs.map bV))=lv at *;generalize (bsO ws t b).map bV=v1 at *;generalize atV t=v2 at *;generalize liV ws=wv at *;generalize bV b=bv at *;generalize fV (flr b ws)=fv at *;generalize itV o=ov at *;generalize fdV a4 c4 55=f4 at *;generalize fdV a5 c5 55=f5 at *;simp![te,tb,kM,ll],rfl⟩ ?_
 rintro _ rfl;have all:∀bs∈L++[bsO ws t b],Pt b ws bs:=λx hx=>by
  rcases MQ.mp hx with hx |hx
  .exact q2 x hx
  .rw[MC.mp hx];exact tp
 have h0:(L++[bsO ws t b])[0]?=some (bsO ws (sbT true ws.length) b):=by rw[Mz (by omega)];exact q3
 generalize L++[bsO ws t b]=M at *;obtain⟨t8,t9,lo2⟩:=tj (x0:=.sh (.kl (ns.map .int))) (x1:=.ow (fdV a5 c5 55)) (x5:=.sh (itV o)) (s7:=s7) (lv:=lbV M) g W M .no .no rfl rfl all;refine aF (λe=>e=[.sh (.kl (ns.map .int)),.ow (fdV a5 c5 55),.sh (bV b),.sh (liV ws),.sh (fV (flr b ws)),.sh (itV o),.ow (lbV M),s7,t8,t9]) ⟨_,by unfold lbV at lo2 ⊢;generalize (M.map λbs=>Val.lst (bs.map bV))=lv at *;generalize liV ws=wv at *;generalize bV b=bv at *;generalize fV (flr b ws)=fv at *;generalize itV o=ov at *;generalize fdV a5 c5 55=f5 at *;have k1:lock [.sh (.kl (ns.map .int)),.ow f5,.sh bv,.sh wv,.sh fv,.sh ov,.ow (.lst lv),s7,.no,.no] 6=[.sh (.kl (ns.map .int)),.ow f5,.sh bv,.sh wv,.sh fv,.sh ov,.lo (.lst lv),s7,.no,.no]:=rfl;have k2:unlock [.sh (.kl (ns.map .int)),.ow f5,.sh bv,.sh wv,.sh fv,.sh ov,.lo (.lst lv),s7,t8,t9] 6=[.sh (.kl (ns.map .int)),.ow f5,.sh bv,.sh wv,.sh fv,.sh ov,.ow (.lst lv),s7,t8,t9]:=rfl;simp![k1,lo2,k2],rfl⟩ ?_;rintro _ rfl;unfold lawQ;by_cases hn:1<ws.length
 .have g1:((ws.length:Nat):Int)>1:=by omega
  unfold liV;generalize hW:ws.map Val.int=wv at *;generalize lbV M=lv at *;generalize bV b=bv at *;generalize fV (flr b ws)=fv at *;generalize itV o=ov at *;generalize fdV a5 c5 55=f5 at *;simp![ll,I_ g1,lK]
 .have g1:¬ (((ws.length:Nat):Int)>1):=by omega
  have w1:=yS g W;have ls:=rS g.ok (j4 g W) (by decide);rw[Eu (by omega)] at h0;have a0:atI (M.map λbs=>Val.lst (bs.map bV)) 0=some (.lst ([b].map bV)):=cC (by decide) (by rw[L_];show (M[0]?).map _=_;rw[h0];rfl);have ee:bo (.tup [fV (aA b),.int 0]) (.tup [fV (aA b),.int 0])=some true:=by have:wfV 60 (.tup [fV (aA b),.int 0])=true:=rfl;rw[D5 this this,vw 60 _ this]
  have fl:L3.flatV (.tup [fV (aA b),.int 0])=true:=rfl;unfold liV lbV;generalize fV (aA b)=sv at *;generalize [b].map bV=b1 at *;generalize hW:ws.map Val.int=wv at *;generalize (M.map λbs=>Val.lst (bs.map bV))=lv at *;generalize bV b=bv at *;generalize fV (flr b ws)=fv at *;generalize itV o=ov at *;generalize fdV a5 c5 55=f5 at *;simp![ll,E_ g1,a0,w1,ls,ee,fl,lK]
end KK
namespace PySem.W.Fast
def q__:=trivial
def tw10028296390372173746:=q__
def tw10193521658924989592:=q__
def tw10229166801982229838:=q__
def tw10239203639131643687:=q__
def tw10274353466376547848:=q__
def tw10294745946653593326:=q__
def tw1032284255363615040:=q__
def tw10336636735857425138:=q__
def tw10340131289953435944:=q__
def tw10353012161090660725:=q__
def tw10408261810155671719:=q__
def tw10429618452602807714:=q__
def tw10437163028029321497:=q__
def tw10439786716906603473:=q__
def tw10504114413307394766:=q__
def tw10558809964617257286:=q__
def tw10562551960160984709:=q__
def tw10586021345924743877:=q__
def tw10709158313150661986:=q__
def tw10744300227780188973:=q__
def tw10762868516281981334:=q__
def tw10768219954428975032:=q__
def tw10785942204854951967:=q__
def tw10797972627682723611:=q__
def tw10849561991264255945:=q__
def tw10863188563142163538:=q__
def tw10881115353016407675:=q__
def tw10884980455994124423:=q__
def tw10893740742477860035:=q__
def tw10966152122801972833:=q__
def tw10972570153808918350:=q__
def tw10983682493837910368:=q__
def tw11053266240957559553:=q__
def tw11053761969957225050:=q__
def tw11061266291437222041:=q__
def tw11175362912452254814:=q__
def tw1118141052970083800:=q__
def tw11209024258925660893:=q__
def tw11233771764733989413:=q__
def tw11237009447568919018:=q__
def tw11258175644210572824:=q__
def tw11316944175686216476:=q__
def tw11335479241980377777:=q__
def tw11340618812669469055:=q__
def tw11384156263680253615:=q__
def tw11387086101733632135:=q__
def tw11423596876985841020:=q__
def tw11451018422437134754:=q__
def tw11514190651611460609:=q__
def tw11518050495916889948:=q__
def tw11529493938645456701:=q__
def tw11531261680634834992:=q__
def tw11577973099149562560:=q__
def tw11608696621369771316:=q__
def tw11628102110484370881:=q__
def tw11639751336677861204:=q__
def tw11675474433302394004:=q__
def tw11677301281260020676:=q__
def tw11718439735447171325:=q__
def tw11756528501262844243:=q__
def tw1176479141416958052:=q__
def tw11791201652572460572:=q__
def tw11820965129648796791:=q__
def tw11828409019274817344:=q__
def tw11842192808269423514:=q__
def tw11897142322355030654:=q__
def tw11927962570516036977:=q__
def tw11975648153445457823:=q__
def tw12003219281890291743:=q__
def tw1200828021591344545:=q__
def tw1202171432869292534:=q__
def tw12022752650097216897:=q__
def tw12039200732094557452:=q__
def tw12082949390303365047:=q__
def tw12147273440058479839:=q__
def tw1219061231058832472:=q__
def tw12250095341961165423:=q__
def tw12251323576722410151:=q__
def tw12262673170509236344:=q__
def tw12313044346992411041:=q__
def tw12337483028239861498:=q__
def tw12390759711377987778:=q__
def tw12393471855948061969:=q__
def tw12455962096047400908:=q__
def tw12460607885237235152:=q__
def tw12489776349027663058:=q__
def tw12497074424194087844:=q__
def tw12545757003401654708:=q__
def tw12587443196323444602:=q__
def tw12618671287539982826:=q__
def tw12638244108522186343:=q__
def tw12647176883424387139:=q__
def tw12705182123067624498:=q__
def tw12767583463947047742:=q__
def tw12857132839990570995:=q__
def tw12896421323449090858:=q__
def tw12907969609833792768:=q__
def tw12974758588634923945:=q__
def tw12979966430566480571:=q__
def tw13024295951861255030:=q__
def tw13046732849482233912:=q__
def tw130887918384459963:=q__
def tw13114370406283659155:=q__
def tw13136924177631962182:=q__
def tw13139129431552534904:=q__
def tw13162733688858886571:=q__
def tw13188500963553030073:=q__
def tw13246808721676667242:=q__
def tw13293002901331535107:=q__
def tw1332605542936204055:=q__
def tw13334416199368158872:=q__
def tw13342242235588260453:=q__
def tw13345928453580437876:=q__
def tw13359291381296766851:=q__
def tw13390521410371412778:=q__
def tw13396319099093464233:=q__
def tw13437913597848702418:=q__
def tw13478832360183445275:=q__
def tw13485756659348830668:=q__
def tw13493162753136558971:=q__
def tw1352248224185305758:=q__
def tw1354291839146797086:=q__
def tw13644172649540654085:=q__
def tw13691628173562377115:=q__
def tw13702665912506939154:=q__
def tw13754125393885443105:=q__
def tw13766037568867850164:=q__
def tw13771180691466168543:=q__
def tw13785776350314843052:=q__
def tw13819281561800266781:=q__
def tw13823117035500906899:=q__
def tw13830606911312089957:=q__
def tw13839082940973174246:=q__
def tw13847313758280179695:=q__
def tw13871599303566809860:=q__
def tw13928270889184799587:=q__
def tw13998424162409062308:=q__
def tw14011277277524661435:=q__
def tw1402479608301806389:=q__
def tw14082874159943671515:=q__
def tw14123838478203911733:=q__
def tw14166009279451063618:=q__
def tw14166933463329791467:=q__
def tw14177674245152926660:=q__
def tw14261219742163834586:=q__
def tw14287772977434502114:=q__
def tw14321702923116873423:=q__
def tw1433549935210478784:=q__
def tw14381536042707234879:=q__
def tw14410175143466622248:=q__
def tw1442708763608582282:=q__
def tw14440136539916241219:=q__
def tw14447748184587950235:=q__
def tw14532514057694344471:=q__
def tw14533919447052979273:=q__
def tw14576032280661579300:=q__
def tw14603642708058556450:=q__
def tw14627595067761721381:=q__
def tw14676747825993434094:=q__
def tw14751285535093638109:=q__
def tw14762719745956041541:=q__
def tw14796289106673626415:=q__
def tw1480011593403802273:=q__
def tw14803698777085256005:=q__
def tw14845064860505738273:=q__
def tw14859784206583134630:=q__
def tw14893838028190599490:=q__
def tw14989364480798498139:=q__
def tw1500208405350520636:=q__
def tw15050565112648954031:=q__
def tw1506059734407860381:=q__
def tw15079293458183993970:=q__
def tw15089937231245229530:=q__
def tw15116529334345166464:=q__
def tw15121178604577430495:=q__
def tw15157617108791124058:=q__
def tw15196186054053797263:=q__
def tw15238481396661534695:=q__
def tw15261875179002395478:=q__
def tw15323681964538417341:=q__
def tw15330434972090280933:=q__
def tw15374724847923639142:=q__
def tw1543249363013250889:=q__
def tw15489804575225012015:=q__
def tw15521217253254724436:=q__
def tw1553855400987411762:=q__
def tw15567179253110451212:=q__
def tw15600681983125188481:=q__
def tw1568170082201262349:=q__
def tw15710483006894312685:=q__
def tw15795561958517480141:=q__
def tw15804979083634323047:=q__
def tw15821013925036204458:=q__
def tw15826698577120163986:=q__
def tw15843175262781479093:=q__
def tw15867230291467908478:=q__
def tw15878492181636604496:=q__
def tw15884990704277068914:=q__
def tw15919600753694554176:=q__
def tw15935596943351182585:=q__
def tw15948231446256894383:=q__
def tw16027297594309355921:=q__
def tw16072093476836430908:=q__
def tw16139609776144876312:=q__
def tw16223557666199937113:=q__
def tw16351500959446320691:=q__
def tw16416624685174219713:=q__
def tw16422552061836659159:=q__
def tw16455985616181175937:=q__
def tw16482014813605344018:=q__
def tw16492028399257299734:=q__
def tw16520709332537649736:=q__
def tw16628639287971834158:=q__
def tw16651547748057109885:=q__
def tw16653273467769486831:=q__
def tw16654269253150013594:=q__
def tw16693473819513496221:=q__
def tw16701839368154090196:=q__
def tw16722459830750121370:=q__
def tw16727828660277637531:=q__
def tw16728714695379864726:=q__
def tw16752975990202888272:=q__
def tw16852611967054215442:=q__
def tw16856031192943056694:=q__
def tw16867432748512489727:=q__
def tw16870123707593966185:=q__
def tw16872518965234794221:=q__
def tw16905589838473555777:=q__
def tw16928142327555771845:=q__
def tw16935928133651737119:=q__
def tw16939703054207064564:=q__
def tw16956606880989111169:=q__
def tw17083304129337196844:=q__
def tw17105068631194858768:=q__
def tw17133186996215644062:=q__
def tw17158463138589485646:=q__
def tw17174153864819166373:=q__
def tw17215483575481958118:=q__
def tw17250796003041960193:=q__
def tw17310406575295893302:=q__
def tw17363828148546974891:=q__
def tw17379280926426591876:=q__
def tw17384852197028918110:=q__
def tw17420223123892544146:=q__
def tw1750687306553781651:=q__
def tw17538538974516382681:=q__
def tw17617649181528582805:=q__
def tw17664502252697677482:=q__
def tw17687466598661263701:=q__
def tw17724871437787059534:=q__
def tw17749188022248527026:=q__
def tw17758501661657990781:=q__
def tw17818858530631103161:=q__
def tw17828830102098258178:=q__
def tw17844496246404668366:=q__
def tw17845154382860021968:=q__
def tw17849711519348130090:=q__
def tw1789465679202358531:=q__
def tw17925966040176799313:=q__
def tw17980737300415583998:=q__
def tw17984778134471149567:=q__
def tw1798801733763692479:=q__
def tw18002577274743756084:=q__
def tw18015004907410526432:=q__
def tw18028281876856494816:=q__
def tw1812848101651744695:=q__
def tw18216244104412284081:=q__
def tw18225520504682926616:=q__
def tw18231754936397741195:=q__
def tw18278930726010744968:=q__
def tw18280217483659808211:=q__
def tw18287058328587759287:=q__
def tw18350181260645848550:=q__
def tw18370812390930802147:=q__
def tw18386890029135987612:=q__
def tw1839926251767644531:=q__
def tw18412665264957167531:=q__
def tw18415134681407495444:=q__
def tw18445047562283763666:=q__
def tw1952475304837375378:=q__
def tw2007721512672736684:=q__
def tw2082601679307563686:=q__
def tw2104976703925605364:=q__
def tw2123654311037027664:=q__
def tw2185420951024906048:=q__
def tw2212972538106529677:=q__
def tw2293856539303869068:=q__
def tw232690728177385198:=q__
def tw239946122154109073:=q__
def tw2492548224957939686:=q__
def tw2537416042110901611:=q__
def tw2540303853065659953:=q__
def tw2628281956503384071:=q__
def tw2646255029165621398:=q__
def tw2655057229990781526:=q__
def tw2686955124978116071:=q__
def tw2727347048260672423:=q__
def tw2765636742605646985:=q__
def tw282721717459396299:=q__
def tw288157988301190491:=q__
def tw2920045881592758492:=q__
def tw302450069656601867:=q__
def tw304414419277445243:=q__
def tw3058711286988067917:=q__
def tw3069432963904789212:=q__
def tw309883986924243728:=q__
def tw3131913920403761511:=q__
def tw3177053626524635581:=q__
def tw3190570188831423175:=q__
def tw3200997093807500258:=q__
def tw3238699976881413321:=q__
def tw336614014243939823:=q__
def tw3366529958759474953:=q__
def tw3400609329710292343:=q__
def tw3485573976906394689:=q__
def tw3528739419791681645:=q__
def tw3548602748950595772:=q__
def tw361090110477132539:=q__
def tw3621472081518169689:=q__
def tw3672557080178347521:=q__
def tw3718214294399156492:=q__
def tw3847148608051134321:=q__
def tw3905276489273129126:=q__
def tw3921195329365866428:=q__
def tw3933571749459025238:=q__
def tw397375947535100899:=q__
def tw4056711583033233983:=q__
def tw4086846014482284830:=q__
def tw4142450832439126828:=q__
def tw418925212050656498:=q__
def tw424176078472144176:=q__
def tw4246649701753891455:=q__
def tw4257646934499050598:=q__
def tw4307179512348870070:=q__
def tw4328316747836956238:=q__
def tw4414612529890021386:=q__
def tw4424533564059827541:=q__
def tw4431868288887520391:=q__
def tw4545061083119560501:=q__
def tw4571104009439202607:=q__
def tw4592229949040453647:=q__
def tw4640263862888410291:=q__
def tw4681099976290996431:=q__
def tw4689822459261290927:=q__
def tw4732392635930905022:=q__
def tw4753379016323730833:=q__
def tw4812873390336679149:=q__
def tw4890737212380953507:=q__
def tw4919567973016165514:=q__
def tw5034643746122977752:=q__
def tw5063948953278718543:=q__
def tw5086354490328227368:=q__
def tw5129981742996734983:=q__
def tw5143470073166789887:=q__
def tw5185327038829091350:=q__
def tw5209205981387367193:=q__
def tw5230161908352892914:=q__
def tw5266983967044901274:=q__
def tw5329519532924245984:=q__
def tw5387799461542308877:=q__
def tw5444358975539441918:=q__
def tw5468365593381201859:=q__
def tw5594926890518291422:=q__
def tw5610489819973164164:=q__
def tw5674060023068944623:=q__
def tw5674238428047349313:=q__
def tw5718888372594096135:=q__
def tw5780013644608066790:=q__
def tw5783792545463116467:=q__
def tw5821946907551682893:=q__
def tw584724503953850039:=q__
def tw5856366850403724031:=q__
def tw5873424141458738479:=q__
def tw5921371742117105857:=q__
def tw5925457735624657512:=q__
def tw5942464142466594459:=q__
def tw5944767396711895544:=q__
def tw5950110214919519537:=q__
def tw5984051274923342512:=q__
def tw5985574349430303325:=q__
def tw5998870574844504271:=q__
def tw5999115063126263365:=q__
def tw6019466197119506229:=q__
def tw6058095671082415972:=q__
def tw6073307647857986264:=q__
def tw6080327101963643754:=q__
def tw6158286808569490052:=q__
def tw616324859308579720:=q__
def tw6189304102836133809:=q__
def tw6201375048577778459:=q__
def tw6296123010007461816:=q__
def tw6359413529854842842:=q__
def tw6528026027749817034:=q__
def tw6547408490869176668:=q__
def tw6558323196448346412:=q__
def tw6563222567349535974:=q__
def tw6570788667203890134:=q__
def tw6590135039745826731:=q__
def tw6600037340302790658:=q__
def tw6609143222350578012:=q__
def tw6664791850977540740:=q__
def tw6696207124705284164:=q__
def tw6740591805432258881:=q__
def tw6783437744641048014:=q__
def tw6792148500952287289:=q__
def tw6834097182092535460:=q__
def tw6951224533908442738:=q__
def tw7001477277849439742:=q__
def tw7032323890825462294:=q__
def tw7034188460173532807:=q__
def tw705062416996250688:=q__
def tw7065045392411395438:=q__
def tw7094773567503357617:=q__
def tw7222576433767768080:=q__
def tw7233320693867470769:=q__
def tw7249176579919861756:=q__
def tw7262068004515296112:=q__
def tw7347831566211781607:=q__
def tw7362723219282298305:=q__
def tw7385492720000127183:=q__
def tw7390709848989368016:=q__
def tw7442404550879832288:=q__
def tw744476465643308484:=q__
def tw765512181728340642:=q__
def tw7702469272429128041:=q__
def tw7725288441576811601:=q__
def tw7743187118788532861:=q__
def tw7748779452056050395:=q__
def tw7770754392218532473:=q__
def tw7826667513570287346:=q__
def tw7832589246247134363:=q__
def tw7861583708356505555:=q__
def tw8012695444475811758:=q__
def tw8025488928812015590:=q__
def tw8041928994454655266:=q__
def tw8214127413454441730:=q__
def tw8248477329629409111:=q__
def tw8290843286902607758:=q__
def tw8329031825727452554:=q__
def tw8377292115907739695:=q__
def tw8385364260341727953:=q__
def tw8434514161984985566:=q__
def tw8443578901979062041:=q__
def tw8476245372605829538:=q__
def tw8506726249820574782:=q__
def tw8611633666615808679:=q__
def tw8675056053562206459:=q__
def tw872163813970034400:=q__
def tw8739756970030342038:=q__
def tw874294263090510793:=q__
def tw8773016394310155378:=q__
def tw8785586823904371161:=q__
def tw8797875671434966695:=q__
def tw8917932744777075639:=q__
def tw8926517646938654904:=q__
def tw8930446251611987648:=q__
def tw8956472875815870879:=q__
def tw9037246039070317079:=q__
def tw9064403652788629814:=q__
def tw9112911621129045584:=q__
def tw9151456165460678239:=q__
def tw9190098710408993978:=q__
def tw9236599685334665992:=q__
def tw9290550508454161626:=q__
def tw9291683423495492806:=q__
def tw9343123511505140361:=q__
def tw9344973039398033062:=q__
def tw9376149067686051552:=q__
def tw9396872515920242101:=q__
def tw9405924224159990663:=q__
def tw9445706933594380133:=q__
def tw9460522085618119502:=q__
def tw9571414027714774342:=q__
def tw9604816188341425220:=q__
def tw960517271514541655:=q__
def tw9624218100964674337:=q__
def tw9647161027242729627:=q__
def tw9675858715555822939:=q__
def tw9693529480072488519:=q__
def tw981683696552050876:=q__
def tw9828358836572913260:=q__
def tw9961108676806131587:=q__
end PySem.W.Fast
open PySem PySem.W PyProof.Rows L2 L3 KK
set_option maxRecDepth 100000 in
set_option maxHeartbeats 0 in
theorem PySem.Challenge.cw_weightrooms_k30_whole_nothing_below_the_holds : PySem.Challenge.rw_weightrooms_k30_whole_nothing_below_the.Holds := by
 w_on;o_law;k_head;(case hw=>w_witness2)
 k_fill
 refine L2.walk_lawT (l:=PySem.Challenge.rw_weightrooms_k30_whole_nothing_below_the) (x:="_law_script") (k:=56) rfl rfl ⟨rfl,by decide,by decide⟩ (λw h Y=>⟨W.km_in_of Y,EM (by kernel_rfl) (W.km_tabs_of Y)⟩) ?F ?D
 case F=>
  intro w mg h KX G base kb nb;refine JY qN (Fn ⟨⟨KU KX G (by kernel_rfl),?_⟩,HV KX G (by kernel_rfl)⟩) (Gz KX G (by kernel_rfl)) rfl HW;repeat first
   |exact trivial
   |refine⟨by refine' yt KX G ?a ?l ?c ?k;(case a=>k_is);(case l=>k_is);(case c=>k_is);(case k=>k_is),?_⟩
 case D=>
  intro w mg h KX G;refine⟨top 78,?_,(λ_ _ _ _ _ _=>ar1 λ_=>rfl)⟩;refine' yt KX G ?a ?l ?c ?k;case a|l|c|k=>k_is
