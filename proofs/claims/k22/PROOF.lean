import PyProof.Rows.All
import Wide.All
import OpenK.AllK
import Wide.FinOn
import Lean
import PyProof.EqAt
import PyProof.EqKinds
import PyProof.TupleCall
import PyProof.Rows.SumAny
import PyProof.EnumMake
import PyProof.Draws
import PyProof.ZipIter
import KE.KNestM
import PyProof.StrBlockH
import KE.KUnpack
import KE.KxIndex
import PyProof.SetRoads
import PyProof.SetNew
import PyProof.AutoSeq1
import KE.KRevSl
import PyProof.SeqI3
import PyProof.Rows.SortWalk
import PyProof.Rows.Range3
import KE.KSortTup
import KE.KLam
import PyProof.Rows.SetFrom
import PyProof.FactsAll.list_2
import PyProof.Rows.SortStr
import PyProof.Rows.StrRules
import PyProof.StrOps
import KE.KIntText
import PyProof.CallStr
import PyProof.StrWalks
import PyProof.Rows.StrNews2
import PySem.Challenge.RW_weightrooms_k22_whole_each_rule_parts
local macro_rules|`(tactic|trivial)=>`(tactic|first|exact Or.inl rfl|exact Or.inr rfl)
local macro_rules|`(tactic|decide)=>`(tactic|decide +kernel)
set_option genSizeOf false
set_option genInjectivity false
set_option bootstrap.genMatcherCode false
noncomputable section
set_option Elab.async false
set_option linter.all false
def o_:=@PySem.wpAny_bind
def p_:=@List.length_map
def q_:=@List.mem_cons_of_mem
def r_:=@PySem.Heap.get?_push_of_some
def s_:=@List.mem_cons_self
def t_:=@Nat.le_refl
def u_:=@Bool.and_eq_true
def v_:=@List.getElem?_eq_getElem
def w_:=@List.length_range
def x_:=@List.map_cons
def y_:=@PySem.Heap.lt_size
def z_:=@PySem.wpAny_pure
def A_:=@List.size_toArray
def B_:=@Bool.false_ne_true
def C_:=@decide_eq_false
def D_:=@List.getElem?_eq_some_iff
def Em:=@PySem.Heap.get?_push_size
def E_:=@List.length_cons
def F_:=@beq_eq_false_iff_ne
def G_:=@Option.some.inj
def H_:=@List.length_append
def I_:=@decide_eq_true
def J_:=@List.mem_cons
def K_:=@List.getD_eq_getElem?_getD
def L_:=@Nat.ne_of_lt
def M_:=@List.mem_range
def Nm:=@List.getElem?_map
def Nn:=@Nat.lt_of_lt_of_le
def Np:=@List.sum_cons
def Nq:=@Option.map_eq_some_iff
def Nr:=@List.length_nil
def Nt:=@List.map_nil
def Nu:=@Nat.le_trans
def Nv:=@List.mem_map
def Nw:=@List.mem_append_right
def Ny:=@List.append_nil
def Nz:=@PyProof.Rows.callWith_type1
def NA:=@beq_iff_eq
def NB:=@List.all_eq_true
def NC:=@congrArg
def ND:=@List.length_set
def NF:=@Option.bind_eq_some_iff
def NG:=@PySem.wpAny_mono
def NH:=@List.nil_append
def NI:=@List.length_take
def NJ:=@Int.toNat_natCast
def NK:=@Nat.zero_le
def NL:=@List.getElem?_append_left
def NM:=@Bool.false_eq_true
def NN:=@PySem.Heap.get?_update_other
def NO:=@Nat.mul_le_mul
def NP:=@List.find?_cons
def NQ:=@List.map_append
def NR:=@Array.length_toList
def NS:=@List.contains_iff_mem
def NT:=@List.map_map
def NU:=@List.mem_singleton
def NV:=@PySem.wpAny_Call_Name_kw
def NW:=@List.getElem_mem
def NX:=@PySem.wpAny_newObj_type
def NY:=@List.take_append_drop
def NZ:=@Rat.intCast_mul
def N2:=@PySem.wpAny_field
def N3:=@List.getElem?_cons_succ
def N4:=@List.length_drop
def N5:=@Nat.pow_le_pow_right
def N6:=@Nat.lt_irrefl
def N7:=@Int.natAbs_mul
def N8:=@List.take_of_length_le
def N9:=@of_decide_eq_true
def N_:=@List.cons_append
def Oa:=@Option.isSome_iff_exists
def Od:=@Int.mul_assoc
def Oe:=@List.any_cons
def Of:=@List.map_take
def Og:=@PySem.wpAny_holding
def Oh:=@PySem.Heap.size_push
def Oi:=@List.mem_of_getElem?
def Oj:=@List.mem_of_mem_take
def Ol:=@PySem.wpAny_seqItems
def Om:=@List.getElem?_replicate
def Oo:=@List.getElem?_nil
def Oq:=@Nat.mul_le_mul_left
def Ot:=@PySem.mem_of_lookup
def Ou:=@List.fst_mem_of_mem_zipIdx
def Ov:=@List.lookup_cons
def Ow:=@List.getElem?_eq_none
def Ox:=@Nat.lt_of_le_of_lt
def Oy:=@decide_eq_true_iff
def Oz:=@List.pairwise_iff_getElem
def OA:=@Nat.mul_pos
def OB:=@List.mem_append
def OC:=@Nat.mul_le_mul_right
def OD:=@Nat.ne_of_gt
def OE:=@List.map_drop
def OF:=@List.length_eq_zero_iff
def OG:=@decide_eq_false_iff_not
def OH:=@PySem.wpAny_callSpecial?_slot
def OI:=@PySem.Heap.SameBut.update
def OJ:=@List.filterMap_cons
def OK:=@List.getElem?_range
def OL:=@List.length_zipWith
def OM:=@if_false
def ON:=@Nat.pow_add
def OO:=@PySem.Calls.spliced_cons
def OP:=@List.find?_eq_none
def OQ:=@PySem.wpAny_setField_rec
def OR:=@Int.mul_ne_zero
def OS:=@Int.natCast_mul
def OT:=@List.getElem?_zipWith
def OU:=@List.length_replicate
def OV:=@Nat.not_lt_zero
def OW:=@if_true
def OX:=@PySem.wpAny_passesOwn
def OY:=@PySem.F.slot_tuple_iterator_next
def OZ:=@List.getElem?_append_right
def O0:=@List.append_assoc
def O1:=@decide_eq_true_eq
def O2:=@PySem.wpAny_truthy_bool
def O3:=@List.mem_of_mem_drop
def O4:=@Nat.le_of_lt
def O5:=@List.take_succ_cons
def O6:=@PySem.wpAny_getItem_str_slice
def O7:=@Bool.or_eq_true
def O8:=@List.nodup_cons
def O9:=@Rat.intCast_add
def O_:=@PySem.codeAny_builtin
def Pa:=@List.length_eq_one_iff
def Pb:=@PySem.F.plain_sum_loop
def Pc:=@and_true
def Pd:=@Bool.not_eq_true'
def Pe:=@PySem.Calls.spliced_nil
def Pf:=@Int.mul_left_comm
def Pg:=@PySem.Heap.get?_update_self
def Ph:=@Nat.zero_add
def Pj:=@beq_self_eq_true
def Pk:=@PySem.wpAny_call_entry
def Pl:=@Int.eq_of_mul_eq_mul_right
def Pm:=@Int.fmod_eq_emod_of_nonneg
def Pn:=@PySem.wpAny_attempt
def Po:=@PySem.wpAny_standAt
def Pp:=@Array.getElem?_eq_getElem
def Pq:=@List.drop_eq_getElem_cons
def Pt:=@List.getElem?_eq_none_iff
def Pu:=@List.mem_or_eq_of_mem_set
def Pw:=@List.sum_append
def Px:=@PySem.AutoSeq1.wpAny_loadPart'
def Py:=@Int.mul_comm
def Pz:=@Int.mul_right_comm
def PC:=@PySem.F.args_tuple_add_2
def PD:=@or_false
def PF:=@PySem.wpAny_pyIter_tuple
def PH:=@PySem.F.entry_tuple_add
def PJ:=@PySem.F.plainAttrs_list
def PK:=@PySem.wpAny_pyIter_list
def PL:=@PySem.F.slot_tuple_add
def PM:=@List.take_nil
def PN:=@Nat.mul_assoc
def PQ:=@PySem.Heap.size_update
def PR:=@List.nodup_range
def PU:=@List.not_mem_nil
def PX:=@Nat.le_add_right
def PY:=@decide_eq_decide
def PZ:=@PySem.wpAny_isInstance
def P0:=@Bool.and_eq_false_iff
def P4:=@List.length_singleton
def P5:=@PySem.Around.under_plainId
def P6:=@Bool.eq_iff_iff
def P7:=@PySem.F.slot_zip_next
def P8:=@PySem.Heap.get?_none_of_le
def P9:=@List.forIn_cons
def P_:=@List.getElem?_append
def Qa:=@List.getElem?_set_ne
def Qb:=@List.mem_append_left
def Qc:=@List.sum_nil
def Qd:=@Nat.lt_trans
def Qe:=@Rat.num_eq_zero
def Qf:=@PySem.codeAny_mono
def Qg:=@PySem.post_val_or_str
def Qh:=@PySem.wpAny_execs_nil
def Qi:=@PySem.wpAny_loadName_local
def Qj:=@PySem.wpAny_updateSeq_pair
def Qk:=@List.forIn_nil
def Ql:=@List.take_zero
def Qm:=@PySem.wpAny_letGo
def Qn:=@List.all_cons
def Qo:=@List.drop_nil
def Qp:=@PySem.Paired.length
def Qq:=@PyProof.Rows.listUpdate_at
def Qr:=@PySem.rangeSize_one
def Qs:=@PySem.wpAny_onRaise
set_option maxRecDepth 100000
namespace L2
open PySem PySem.Spec PyProof.Rows
abbrev _root_.Qt:=Str->Option Value
abbrev _root_.Qu:=List (Addr×Obj)
abbrev _root_.Qv:=Value->Shared->Prop
abbrev _root_.Qw:=List (Option Nat)
abbrev Key:=Sum Int Str
noncomputable def kT:Key->Value->Bool
 |.inl k,v=>Value.isInt k v
 |.inr x,v=>Value.isStrOf x v
noncomputable def keyH (w:World):Key->Int
 |.inl k=>hashInt k
 |.inr x=>hashStr w x
theorem bQ:∀{k:Key}{v:Value},kT k v=true->(∃i t,k=Sum.inl i/\v=Value.int i t)\/(∃x t,k=Sum.inr x/\v=Value.str x t)
 |
  .inl i,v,h=>by
  obtain⟨t,e⟩:=Value.isInt_shape (k:=i) (v:=v) h;exact .inl ⟨i,t,rfl,e⟩
 |
  .inr x,v,h=>by
  obtain⟨t,e⟩:=Value.isStrOf_shape (x:=x) (v:=v) h;exact .inr ⟨x,t,rfl,e⟩
def Ay(i:Int)(t:Tok):kT (.inl i) (.int i t)=true:=by simp [kT,Value.isInt]
def Ag(x:Str)(t:Tok):kT (.inr x) (.str x t)=true:=by simp [kT,Value.isStrOf]
def Jc(a b:Int):decide ((Sum.inl a:Key)=Sum.inl b)=(a==b):=by
 by_cases e:a=b
 .subst e;simp
 .have h:¬ (Sum.inl a:Key)=Sum.inl b:=λq=>e (Sum.inl.inj q);rw[C_ h];exact (F_.mpr e).symm
def Jk(a b:Str):decide ((Sum.inr a:Key)=Sum.inr b)=decide (a=b):=by
 by_cases e:a=b
 .subst e;simp
 .have h:¬ (Sum.inr a:Key)=Sum.inr b:=λq=>e (Sum.inr.inj q);rw[C_ h,C_ e]
def Jb(a:Int)(b:Str):decide ((Sum.inl a:Key)=Sum.inr b)=false:=C_ (λq=>nomatch q)
def Il(a:Str)(b:Int):decide ((Sum.inr a:Key)=Sum.inl b)=false:=C_ (λq=>nomatch q)
noncomputable def bT (prog:Program) (w:World):PySem.KeyKind prog w Key where
 is:=kT
 hash:=keyH w
 inj
  := λv a b ha hb=>by
  rcases bQ ha with ⟨i,t,rfl,rfl⟩ |⟨x,t,rfl,rfl⟩
  .rcases bQ hb with ⟨j,u,rfl,e⟩ |⟨y,u,rfl,e⟩
   .injection e with e1 _;rw[e1]
   .exact nomatch e
  .rcases bQ hb with ⟨j,u,rfl,e⟩ |⟨y,u,rfl,e⟩
   .exact nomatch e
   .injection e with e1 _;rw[e1]
 byValue:=λk v h=>by rcases bQ h with ⟨i,t,rfl,rfl⟩ |⟨x,t,rfl,rfl⟩ <;> rfl
 pyHash:=λhv h=>by
  rcases bQ hv with ⟨i,t,rfl,rfl⟩ |⟨x,t,rfl,rfl⟩
  .exact wpAny_pyHash_int h
  .exact wpAny_pyHash_str h
 eqBool:=λhu hv h=>by
  rcases bQ hu with ⟨i,t,rfl,rfl⟩ |⟨x,t,rfl,rfl⟩
  .rcases bQ hv with ⟨j,u,rfl,rfl⟩ |⟨y,u,rfl,rfl⟩
   .rw[Jc] at h;exact wpAny_eqBool_int h
   .rw[Jb] at h;exact SeqAt.EqAt.int_str i t y u _ _ _ _ h
  .rcases bQ hv with ⟨j,u,rfl,rfl⟩ |⟨y,u,rfl,rfl⟩
   .rw[Il] at h;exact SeqAt.EqAt.str_int x t j u _ _ _ _ h
   .rw[Jk] at h;exact wpAny_eqBool_str h
 «strs»:=λk x t v h=>by
  rcases bQ h with ⟨i,u,rfl,e⟩ |⟨y,u,rfl,e⟩
  .exact nomatch e
  .injection e with e1 _;subst e1;cases v <;> rfl
def uQ(prog:Program)(w:World)(i:Int)(t:Tok):(bT prog w).is (.inl i) (.int i t)=true:=Ay i t
def uP(prog:Program)(w:World)(x:Str)(t:Tok):(bT prog w).is (.inr x) (.str x t)=true:=Ag x t
inductive V where
 |non |bl (b:Bool) |int (i:Int) |str (x:Str) |byt (b:Array UInt8) |flt (b:UInt64) |ref (a:Addr) |ty (n:String)
 deriving DecidableEq
def RelV:V->Value->Prop
 |.non,u=>u=Value.none
 |.bl b,u=>u=Value.bool b
 |.int i,u=>∃t,u=Value.int i t
 |.str x,u=>∃t,u=Value.str x t
 |.byt b,u=>∃t,u=Value.bytes b t
 |.flt b,u=>∃t,u=Value.float b t
 |.ref a,u=>u=Value.ref a
 |.ty n,u=>u=Value.type n
abbrev Vals:List V->List Value->Prop:=Paired RelV
def Vals.length(r:Vals xs us):xs.length=us.length:=Qp r
def Vals.get{xs:List V}{us:List Value}{i:Nat}{x:V}(r:Vals xs us)(e:xs[i]?=some x):∃u,us[i]?=some u/\RelV x u:=by
 induction r generalizing i with
 |nil=>rw[Oo] at e;cases e
 |
  cons r t ih=>
  cases i with
  |zero=>cases e;exact⟨_,rfl,r⟩
  |succ i=>exact ih (i:=i) e
def Vals.set(r:RelV x u)(i:Nat)(q:Vals xs us):Vals (xs.set i x) (us.set i u):=by
 induction q generalizing i with
 |nil=>exact .nil
 |
  cons q t ih=>
  cases i with
  |zero=>exact .cons r t
  |succ i=>exact .cons q (ih i)
def Vals.append(r:Vals xs us)(s:Vals ys ws):Vals (xs++ys) (us++ws):=by
 induction r with
 |nil=>exact s
 |cons r t ih=>exact .cons r ih
def Vals.take(n:Nat)(r:Vals xs us):Vals (xs.take n) (us.take n):=by
 induction r generalizing n with
 |nil=>rw[PM,PM];exact .nil
 |
  cons r t ih=>
  cases n with
  |zero=>exact .nil
  |succ n=>exact .cons r (ih n)
def Vals.drop(n:Nat)(r:Vals xs us):Vals (xs.drop n) (us.drop n):=by
 induction r generalizing n with
 |nil=>rw[Qo,Qo];exact .nil
 |
  cons r t ih=>
  cases n with
  |zero=>exact .cons r t
  |succ n=>exact ih n
def RelO:Option V->Option Value->Prop
 |some v,some u=>RelV v u
 |none,none=>True
 |_,_=>False
def KV{κ:Type}:List (κ×V)->List (κ×Value)->Prop:=Paired λ(p:κ×V) (q:κ×Value)=>p.1=q.1/\RelV p.2 q.2
noncomputable def kV:Key->V
 |.inl i=>.int i
 |.inr x=>.str x
inductive HO where
 |lst (xs:List V)
 |tup (xs:List V)
 |dK (kvs:List (Key×V)) |dT (kvs:List (List Key×V))
 |set (S:Int->Bool) (n:Nat)
 |ins (C dx:Addr) (fs:List (Str×V))
 |own (x:Addr)
 |xd (fs:List (Str×V))
 |met (f x:Addr)
 |rng (lo hi:Int)
 |frz (o:Obj) (u:HO)
 |tbl (ps:Array Value)
 |ext (φ:Heap->Prop)
abbrev Hp:=Addr->Option HO
noncomputable def upd (H:Hp) (a:Addr) (o:HO):Hp:=λb=>if b=a then some o else H b
def aY:upd H a o a=some o:=by unfold upd;rw[if_pos rfl]
def aC(h:b≠a):upd H a o b=H b:=by unfold upd;rw[if_neg h]
def Lx{H:Hp}{a b:Addr}{o u:HO}(h:H a=some o)(h':H b=some u)(d:o≠u):a≠b:=by intro e;subst e;rw[h] at h';exact d (G_ h')
def bM{H:Hp}{a b:Addr}{o:HO}(h:H a=some o)(h':H b=none):a≠b:=by intro e;subst e;rw[h] at h';cases h'
section
variable(P:Program)(w:World)
def ObjOk(H:Hp)(h:Heap)(a:Addr):HO->Prop
 |.lst xs=>xs.length<=sizeLine/\∃(its:List Value) (n:Nat),Vals xs its/\h.get? a=some { cls:=.type "list",data:=.seq its.toArray n }
 |.tup xs=>xs.length<=sizeLine/\∃its:List Value,Vals xs its/\IsTup h a its.toArray
 |.dK kvs=>kvs.length<=sizeLine/\(a==sysModules)=false/\∃vs,KV kvs vs/\h.DictOf (bT P w) a vs
 |.dT kvs=>kvs.length<=sizeLine/\(a==sysModules)=false/\∃xs:List (List Key×Addr×Value),
  Paired (λ(p:List Key×V) (q:List Key×Addr×Value)=>p.1=q.1/\H q.2.1=some (.tup (p.1.map kV))/\RelV p.2 q.2.2) kvs xs/\
  ∃o es ep,h.get? a=some o/\o.ExactDict/\o.data=.dict es ep/\es.toList=xs.map (entryOfKey (tupleKind (bT P w)))/\(xs.map (·.1)).Nodup
 |.set S n=>h.SetOf (intKind P w) a S n
 |.ins C dx fs=>H dx=some (.own a)/\fs.length<=1000/\dx≠a/\h.get? a=some (W.instObj C dx)/\
  ∃mA,h.Ns1 dx mA/\(∀f,RelO (fs.lookup f) (mA f))/\PySem.Within mA (fs.map (·.1))
 |.own _=>∃o,h.get? a=some o
 |.xd fs=>∃mA,h.Ns1 a mA/\∀f,RelO (fs.lookup f) (mA f)
 |.rng lo hi=>∃t u v,h.get? a=some { cls:=.type "range",data:=.fields #[.int lo t,.int hi u,.int 1 v] }
 |.frz o u=>h.get? a=some o/\ObjOk H h a u
 |.tbl ps=>h.get? a=some { cls:=.none,data:=.fields ps }
 |.met f x=>h.get? a=some (W.methodObj (.ref f) (.ref x))
 |.ext φ=>φ h/\(∃o,h.get? a=some o)/\∀h1 h2:Heap,φ h1->(∀o,h1.get? a=some o->h2.get? a=some o)->φ h2
def HOk(H:Hp)(h:Heap):Prop:=∀a o,H a=some o->ObjOk P w H h a o
end
section
variable{P:Program}{w:World}{H H':Hp}{h h':Heap}{a:Addr}{o:HO}
def ObjOk.lt(x:ObjOk P w H h a o):a<h.objs.size:=by
 cases o with
 |lst xs=>obtain⟨_,_,_,_,e⟩:=x;exact y_ e
 |tup xs=>obtain⟨_,_,_,p⟩:=x;exact p.lt
 |dK kvs=>obtain⟨_,_,_,_,o,_,_,e,_⟩:=x;exact y_ e
 |dT kvs=>obtain⟨_,_,_,_,o,_,_,e,_⟩:=x;exact y_ e
 |set S n=>obtain⟨o,_,_,_,e,_⟩:=x;exact y_ e
 |ins C dx fs=>obtain⟨_,_,_,e,_⟩:=x;exact y_ e
 |own y=>obtain⟨_,e⟩:=x;exact y_ e
 |xd fs=>obtain⟨_,⟨_,_,_,e,_⟩,_⟩:=x;exact y_ e
 |rng lo hi=>obtain⟨_,_,_,e⟩:=x;exact y_ e
 |frz ob u=>obtain⟨e,_⟩:=x;exact y_ e
 |tbl ps=>exact y_ (show h.get? a=some _ from x)
 |met f y=>exact y_ (show h.get? a=some _ from x)
 |ext φ=>obtain⟨_,⟨_,e⟩,_⟩:=x;exact y_ e
def Paired.mapP(r:Paired F l₁ l₂)(f:∀a b,F a b->G a b):Paired G l₁ l₂:=by
 induction r with
 |nil=>exact .nil
 |cons r t ih=>exact .cons (f _ _ r) ih
def ObjOk.stay(x:ObjOk P w H h a o)(k:∀b u,(b=a\/H b=some (.own a))->h.get? b=some u->h'.get? b=some u)
 (ho:∀b,H b=some (.own a)->H' b=some (.own a)) (ht:∀b xs,H b=some (.tup xs)->H' b=some (.tup xs)):ObjOk P w H' h' a o:=by
 induction o with
 |lst xs=>obtain⟨z,its,n,r,e⟩:=x;exact⟨z,its,n,r,k _ _ (.inl rfl) e⟩
 |tup xs=>obtain⟨z,its,r,ob,e,c⟩:=x;exact⟨z,its,r,ob,k _ _ (.inl rfl) e,c⟩
 |dK kvs=>obtain⟨z,y,vs,r,ob,es,ep,e,c⟩:=x;exact⟨z,y,vs,r,ob,es,ep,k _ _ (.inl rfl) e,c⟩
 |dT kvs=>obtain⟨z,y,xs,r,ob,es,ep,e,c⟩:=x;exact⟨z,y,xs,Paired.mapP r λp q z=>⟨z.1,ht _ _ z.2.1,z.2.2⟩,ob,es,ep,k _ _ (.inl rfl) e,c⟩
 |set S n=>obtain⟨ob,es,ep,t,e,c⟩:=x;exact⟨ob,es,ep,t,k _ _ (.inl rfl) e,c⟩
 |ins C dx fs=>obtain⟨d,z,ne,e,mA,⟨od,es,ep,e2,c⟩,r⟩:=x;exact⟨ho _ d,z,ne,k _ _ (.inl rfl) e,mA,⟨od,es,ep,k _ _ (.inr d) e2,c⟩,r⟩
 |own y=>obtain⟨ob,e⟩:=x;exact⟨ob,k _ _ (.inl rfl) e⟩
 |xd fs=>obtain⟨mA,⟨od,es,ep,e,c⟩,r⟩:=x;exact⟨mA,⟨od,es,ep,k _ _ (.inl rfl) e,c⟩,r⟩
 |rng lo hi=>obtain⟨t,u,v,e⟩:=x;exact⟨t,u,v,k _ _ (.inl rfl) e⟩
 |frz ob u ih=>obtain⟨e,q⟩:=x;exact⟨k _ _ (.inl rfl) e,ih q⟩
 |tbl ps=>have e:h.get? a=some { cls:=.none,data:=.fields ps }:=x;show h'.get? a=some { cls:=.none,data:=.fields ps };exact k a _ (.inl rfl) e
 |met f y=>have e:h.get? a=some (W.methodObj (.ref f) (.ref y)):=x;show h'.get? a=some (W.methodObj (.ref f) (.ref y));exact k a _ (.inl rfl) e
 |ext φ=>obtain⟨p,⟨o,e⟩,st⟩:=x;exact⟨st _ _ p λo q=>k _ _ (.inl rfl) q,⟨o,k _ _ (.inl rfl) e⟩,st⟩
def HOk.lt(x:HOk P w H h)(e:H a=some o):a<h.objs.size:=(x a o e).lt
def HOk.fresh(x:HOk P w H h)(e:h.objs.size<=a):H a=none:=by
 cases q:H a with
 |none=>rfl
 |some u=>exact absurd (Nn (x.lt q) e) (N6 _)
def HOk.kept(x:HOk P w H h)(k:∀b u,h.get? b=some u->h'.get? b=some u):HOk P w H h':=λa o e=>
 (x a o e).stay (λb u _ q=>k b u q) (λ_ q=>q) λ_ _ q=>q
def HOk.laid(x:HOk P w H h)(k:∀b u,h.get? b=some u->h'.get? b=some u)(hp:h.objs.size<=a)(new:ObjOk P w (upd H a o) h' a o):HOk P w (upd H a o) h':=λb u e=>by
 have hn:=x.fresh hp;by_cases hb:b=a
 .subst hb;rw[aY] at e;cases e;exact new
 .rw[aC hb] at e;exact (x b u e).stay (λc v _ q=>k c v q) (λc q=>by rw[aC (bM q hn)];exact q) λc xs q=>by rw[aC (bM q hn)];exact q
end
def Rd(H:Hp)(a:Addr)(u:HO):Prop:=H a=some u\/∃o,H a=some (.frz o u)
def Rd.ok(r:Rd H a u)(x:HOk P w H h):ObjOk P w H h a u:=by
 rcases r with r |⟨o,r⟩
 .exact x a u r
 .obtain⟨_,q⟩:=x a _ r;exact q
def Mut:Option HO->Prop
 |some (.lst _)=>True
 |some (.dK _)=>True
 |some (.dT _)=>True
 |some (.set _ _)=>True
 |some (.ins _ _ _)=>True
 |some (.ext _)=>True
 |_=>False
section
variable{P:Program}{w:World}{H:Hp}{h h':Heap}{x e:Addr}{o':HO}
def HOk.write(ok:HOk P w H h)(mu:Mut (H x))(he:e=x\/H e=some (.own x))(k:∀b u,b≠e->h.get? b=some u->h'.get? b=some u)(heo:∃u,h'.get? e=some u)
 (new:ObjOk P w (upd H x o') h' x o'):HOk P w (upd H x o') h':=λb u q=>by
 have nown:∀c y,H c=some (.own y)->c≠x:=λc y r z=>by subst z;rw[r] at mu;exact mu
 have ntup:∀c xs,H c=some (.tup xs)->c≠x:=λc xs r z=>by subst z;rw[r] at mu;exact mu
 by_cases hb:b=x
 .subst hb;rw[aY] at q;cases q;exact new
 .rw[aC hb] at q;by_cases hbe:b=e
  .have q':H b=some (.own x):=by
    rcases he with z |z
    .exact absurd (hbe.trans z) hb
    .rw[hbe];exact z
   rw[q] at q';cases q';obtain⟨v,hv⟩:=heo;exact⟨v,by rw[hbe];exact hv⟩
  .refine (ok b u q).stay (λc v hc r=>k c v ?_ r) (λc r=>by rw[aC (nown c b r)];exact r) λc xs r=>by rw[aC (ntup c xs r)];exact r
   rcases hc with rfl |hc
   .exact hbe
   .rintro rfl;rcases he with z |z
    .exact nown c b hc z
    .rw[hc] at z;cases z;exact hb rfl
end
structure Un(fs ex:List Addr)(H H':Hp)(h h':Heap):Prop where
 keep:∀b o,h.get? b=some o->H b=none->b∉fs->b∉ex->h'.get? b=some o
 slot:∀b o,h.get? b=some o->H b=none->b∈fs->b∉ex->∃sl,h'.get? b=some { o with slots:=sl }
 free:∀b o,h.get? b=some o->H b=none->b∉ex->H' b=none
 there:∀b o,h.get? b=some o->b∉ex->∃o',h'.get? b=some o'
 tups:∀b xs,H b=some (.tup xs)->H' b=some (.tup xs)
 frzs:∀b o u,H b=some (.frz o u)->H' b=some (.frz o u)
 tbls:∀b ps,H b=some (.tbl ps)->∃more,H' b=some (.tbl (ps++more))
section
variable{fs ex:List Addr}{H H1:Hp}{h h1 h':Heap}{a x e:Addr}{o:HO}
def Un.any(u:Un fs ex H H1 h h1)(q:h.get? b=some ob)(n:H b=none)(hx:b∉ex):∃sl,h1.get? b=some { ob with slots:=sl }:=by
 by_cases hb:b∈fs
 .exact u.slot b ob q n hb hx
 .exact⟨ob.slots,u.keep b ob q n hb hx⟩
def Un.kept(k:∀b u,h.get? b=some u->h'.get? b=some u):Un fs ex H H h h':=
 ⟨λb ob q _ _ _=>k b ob q,λb ob q _ _ _=>⟨ob.slots,k b ob q⟩,λ_ _ _ n _=>n,λb ob q _=>⟨ob,k b ob q⟩,λ_ _ q=>q,λ_ _ _ q=>q,λ_ ps q=>⟨#[],by rw[q];simp⟩⟩
def Un.refl:Un fs ex H H h h:=Un.kept λ_ _ q=>q
def Un.laid(k:∀b u,h.get? b=some u->h'.get? b=some u)(hp:h.objs.size<=a)(hn:H a=none):Un fs ex H (upd H a o) h h' where
 keep:=λb u q _ _ _=>k b u q
 slot:=λb u q _ _ _=>⟨u.slots,k b u q⟩
 free:=λb u q n _=>by rw[aC (L_ (Nn (y_ q) hp))];exact n
 there:=λb u q _=>⟨u,k b u q⟩
 tups:=λb xs q=>by rw[aC (bM q hn)];exact q
 frzs:=λb u xs q=>by rw[aC (bM q hn)];exact q
 tbls:=λb ps q=>⟨#[],by rw[aC (bM q hn),q];simp⟩
def Un.write(mu:Mut (H x))(he:e=x\/H e=some (.own x))(k:∀b u,b≠e->h.get? b=some u->h'.get? b=some u)(heo:∃u,h'.get? e=some u):Un fs ex H (upd H x o) h h':=by
 have hx:∀b,H b=none->b≠x:=λb n z=>by subst z;rw[n] at mu;exact mu
 have hb:∀b,H b=none->b≠e:=λb n z=>by
  subst z;rcases he with r |r
  .exact hx b n r
  .rw[n] at r;cases r
 have hm:∀b u,H b=some u->¬ Mut (some u)->b≠x:=λb u q nm z=>by subst z;rw[q] at mu;exact nm mu
 refine⟨λb u q n _ _=>k b u (hb b n) q,λb u q n _ _=>⟨u.slots,k b u (hb b n) q⟩,λb u q n _=>by rw[aC (hx b n)];exact n,λb u q _=>?_,
  λb xs q=>by rw[aC (hm b _ q λz=>z)];exact q,λb u xs q=>by rw[aC (hm b _ q λz=>z)];exact q,λb ps q=>⟨#[],by rw[aC (hm b _ q λz=>z),q];simp⟩⟩
 by_cases hbe:b=e
 .subst hbe;exact heo
 .exact⟨u,k b u hbe q⟩
end
noncomputable def trk (h:Heap) (H:Hp):List Addr:=(List.range h.objs.size).filter λa=>(H a).isSome
noncomputable def fO (h:Heap) (H:Hp):Heap:=W.hideAll h (trk h H)
def pf(h:Heap)(H:Hp):(fO h H).objs.size=h.objs.size:=W.hideAll_size _ _
def rF(e:h.get? b=some o)(n:H b=none):(fO h H).get? b=some o:=
 W.hideAll_get _ e λhm=>by have q:(H b).isSome=true:=(List.mem_filter.mp hm).2;rw[n] at q;simp at q
def vN(e:(fO h H).get? b=some o):h.get? b=some o/\H b=none:=by
 have e':h.get? b=some o:=W.of_hideAll (trk h H) e;refine⟨e',?_⟩;cases q:H b with
 |none=>rfl
 |some x=>have hm:b∈trk h H:=List.mem_filter.mpr ⟨M_.mpr (y_ e'),by simp [q]⟩;have z:(fO h H).get? b=none:=W.hideAll_none (trk h H) hm;rw[z] at e;cases e
noncomputable def FC (g h:Heap) (L:Addr):List (Addr×Obj):=(List.range h.objs.size).filterMap λa=>if a=L\/(g.get? a).isSome=true then none else (h.get? a).map λo=>(a,o)
noncomputable def cJ (g h:Heap) (L d:Addr):List (Addr×Obj):=(FC g h L).filter λp=>decide (p.1≠d)
structure Mod(K:W.Frag)(mg:Qt)(base:Heap):Prop where
 kin:K.In base
 glob:base.Ns mainGlobals mg
 blt:∃mb,base.Ns builtinsNs mb/\∀x:Str,x ≠ "__name__"->mb x=bootBuiltins x
 nolimit:base.NoLimit
structure Cx where
 prog:Program
 w:World
 K:W.Frag
 mg:Str->Option Value
 base:Heap
 A:Around
 N:List Str
 s₀:Shared
 H₀:Hp
 env:Env
 outer:List Env
 stack:List Env
 ex:List Addr
 fn:Str->Bool
 calm:Bool
 pn:List (Addr×Obj)
 xe:Value->Shared->Prop
noncomputable def frs (l:List Env):List Addr:=l.filterMap (·.frame)
abbrev Cx.fs(X:Cx):List Addr:=frs X.outer
def Vis(sc:Scope)(x:Str):Prop:=sc.names.lookup x=some .local\/sc.names.lookup x=some .cell\/sc.names.lookup x=some .free
def Loc(sc:Scope)(x:Str):Prop:=sc.names.lookup x=some .local\/sc.names.lookup x=some .cell
def Look(env:Env)(h:Heap)(m:Qt)(x:Str)(u:Value):Prop:=
 (env.kindOf x=some .local/\m x=some u)\/((env.kindOf x=some .cell\/env.kindOf x=some .free)/\∃c,env.cells.lookup x=some c/\h.IsCell c (some u))
structure Cx.Ok(X:Cx):Prop where
 mod:Mod X.K X.mg X.base
 kind:X.env.scope.kind=.function
 glob:X.env.globals=mainGlobals
 blt:X.env.builtins=builtinsNs
 above:X.s₀.heap.objs.size<=X.env.locals
 inj:∀x y c,X.env.cells.lookup x=some c->X.env.cells.lookup y=some c->x=y
 has:∀x,(X.env.kindOf x=some .cell\/X.env.kindOf x=some .free)->∃c,X.env.cells.lookup x=some c
 cab:∀x c,X.fn x=true->X.env.cells.lookup x=some c->X.s₀.heap.objs.size<=c
 hd:X.calm=true->X.A.handled=none
 frames:X.A.frames=some X.stack
 stk:X.stack=X.outer\/(X.stack=X.env::X.outer/\X.env.frame=some X.env.locals)
 exf:∀b∈X.ex,b≠X.env.locals/\∀x c,X.env.cells.lookup x=some c->c≠b
 bs:∀b o,X.base.get? b=some o->X.s₀.heap.get? b=some o/\X.H₀ b=none
 bsz:X.base.objs.size<=X.s₀.heap.objs.size
 noex:∀b o,X.base.get? b=some o->b∉X.ex
 exfs:∀b∈X.ex,b∉X.fs
 funs:X.s₀.heap.FunFrames X.base X.outer
 frf:∀b∈X.fs,X.H₀ b=none
structure Inv(X:Cx)(pins:Qu)(σ:List (Option V))(H:Hp)(s:Shared):Prop where
 ok:X.Ok
 os:s.os=X.s₀.os
 bare:AllBare s.gens
 base:Un X.fs X.ex X.H₀ H X.s₀.heap s.heap
 loc:∃m,s.heap.Ns X.env.locals m/\∀(i:Nat) (x:Str) (v:V),X.N[i]?=some x->σ[i]?=some (some v)->Vis X.env.scope x->∃u,RelV v u/\Look X.env s.heap m x u
 cell:∀x c,X.env.cells.lookup x=some c->∃v,s.heap.IsCell c v
 free:H X.env.locals=none
 freeC:∀x c,X.env.cells.lookup x=some c->H c=none
 pin:∀p∈X.pn++pins,s.heap.get? p.1=some p.2/\H p.1=none/\p.1≠X.env.locals/\p.1∉X.fs/\∀v,p.2.data ≠ .cell v
 hok:HOk X.prog X.w H s.heap
 len:σ.length=X.N.length
section
variable{X:Cx}{pins:Qu}{σ:List (Option V)}{H H':Hp}{s:Shared}{h':Heap}
def Cx.Ok.nofr(ok:X.Ok)(e:X.base.get? b=some o):b∉X.fs:=λhb=>by
 have:=(ok.funs.mem hb).1
 rw[e] at this;cases this
def Inv.bs(I:Inv X pins σ H s):∀b o,X.base.get? b=some o->s.heap.get? b=some o/\H b=none:=λb o e=>
 ⟨I.base.keep b o (I.ok.bs b o e).1 (I.ok.bs b o e).2 (I.ok.nofr e) (I.ok.noex b o e),I.base.free b o (I.ok.bs b o e).1 (I.ok.bs b o e).2 (I.ok.noex b o e)⟩
def Inv.bk(I:Inv X pins σ H s):∀b o,X.base.get? b=some o->s.heap.get? b=some o:=λb o e=>(I.bs b o e).1
def Inv.mod(I:Inv X pins σ H s):Mod X.K X.mg X.base:=I.ok.mod
def Inv.kIn(I:Inv X pins σ H s):X.K.In s.heap:=I.ok.mod.kin.keeps I.bk
def Inv.nolimit(I:Inv X pins σ H s):s.heap.NoLimit:=I.ok.mod.nolimit.keeps I.bk
def Inv.lt(I:Inv X pins σ H s):X.env.locals<s.heap.objs.size:=let ⟨_,hn,_⟩:=I.loc;hn.lt
def Inv.sz(I:Inv X pins σ H s):X.s₀.heap.objs.size<=s.heap.objs.size:=Nu I.ok.above (O4 I.lt)
def Inv.nofs(I:Inv X pins σ H s)(h:s.heap.objs.size<=a):a∉X.fs:=λhb=>by obtain⟨_,o,ho,_⟩:=I.ok.funs.mem hb;exact absurd (Nn (y_ ho) (Nu I.sz h)) (N6 _)
def Inv.cne(I:Inv X pins σ H s):∀x c,X.env.cells.lookup x=some c->c≠X.env.locals:=λx c e z=>by obtain⟨v,o,ho,hd⟩:=I.cell x c e;obtain⟨m,⟨o',es,ep,ho',hd',_⟩,_⟩:=I.loc;rw[z,ho'] at ho;cases ho;rw[hd'] at hd;cases hd
def Inv.funs(I:Inv X pins σ H s):s.heap.FunFrames X.base X.outer:=by
 have all:∀(l:List Env),(∀b∈frs l,b∈X.fs)->X.s₀.heap.FunFrames X.base l->s.heap.FunFrames X.base l:=by
  intro l;induction l with
  |nil=>intro _ _;trivial
  |cons env r ih=>intro hs hl;obtain⟨hk,⟨L,o,hf,hn,ho,hd⟩,hr⟩:=hl;have hL:L∈X.fs:=hs L (by unfold frs;rw[OJ,hf];exact s_);obtain⟨sl,e⟩:=I.base.slot L o ho (I.ok.frf L hL) hL λz=>I.ok.exfs L z hL;exact⟨hk,⟨L,_,hf,hn,e,hd⟩,ih (λb hb=>hs b (by unfold frs;rw[OJ,hf];exact q_ _ hb)) hr⟩
 exact all X.outer (λ_ hb=>hb) I.ok.funs
def Inv.stack(I:Inv X pins σ H s):s.heap.FunFrames X.base X.stack:=by
 rcases I.ok.stk with e |⟨e,hf⟩
 .rw[e];exact I.funs
 .rw[e];obtain⟨m,hn,_⟩:=I.loc;refine .cons (by rw[I.ok.kind];decide) hf hn ?_ I.funs;exact P8 (Nu I.ok.bsz I.ok.above)
def Inv.stkSub(I:Inv X pins σ H s):∀b∈frs X.stack,b∈X.env.locals::X.fs:=λb hb=>by
 rcases I.ok.stk with e |⟨e,hf⟩
 .rw[e] at hb;exact q_ _ hb
 .rw[e] at hb;unfold frs at hb;rw[OJ,hf] at hb;exact hb
def Inv.stkFree(I:Inv X pins σ H s):∀b∈frs X.stack,H b=none:=λb hb=>by
 rcases J_.mp (I.stkSub b hb) with e |hb
 .rw[e];exact I.free
 .obtain⟨_,o,ho,_⟩:=I.ok.funs.mem hb;exact I.base.free b o ho (I.ok.frf b hb) λz=>I.ok.exfs b z hb
def Inv.step{g':Array GenState}{t':Nat}{d':Drawn}{ch:List Addr}(I:Inv X pins σ H s)
 (hch:∀b∈ch,(b∈X.ex\/X.s₀.heap.objs.size<=b)/\b≠X.env.locals/\(∀x c,X.env.cells.lookup x=some c->c≠b)/\∀p∈X.pn++pins,p.1≠b)
 (keep:∀b o,b≠X.env.locals->b∉X.fs->b∉ch->s.heap.get? b=some o->H b=none->h'.get? b=some o)
 (slot:∀b o,b≠X.env.locals->b∈X.fs->b∉ch->s.heap.get? b=some o->H b=none->∃sl,h'.get? b=some { o with slots:=sl }) (free:∀b o,b∉ch->s.heap.get? b=some o->H b=none->H' b=none)
 (there:∀b o,b∉ch->s.heap.get? b=some o->∃o',h'.get? b=some o')
 (tups:∀b xs,H b=some (.tup xs)->H' b=some (.tup xs)) (frzs:∀b o u,H b=some (.frz o u)->H' b=some (.frz o u)) (tbls:∀b ps,H b=some (.tbl ps)->∃more,H' b=some (.tbl (ps++more)))
 (ns:∀m,s.heap.Ns X.env.locals m->h'.Ns X.env.locals m) (hok:HOk X.prog X.w H' h') (hg:AllBare g'):
 Inv X pins σ H' { s with heap:=h',gens:=g',drawn:=d',toks:=t' }:=by
 have neL:∀b o,X.s₀.heap.get? b=some o->b≠X.env.locals:=λb o e=>L_ (Nn (y_ e) I.ok.above);have neC:∀b o,X.s₀.heap.get? b=some o->b∉X.ex->b∉ch:=λb o e hx hb=>by
  rcases (hch b hb).1 with z |z
  .exact hx z
  .exact absurd (Nn (y_ e) z) (N6 _)
 have cellK:∀x c,X.env.cells.lookup x=some c->∀v,s.heap.IsCell c v->h'.IsCell c v:=λx c e v ⟨o,ho,hd⟩=>by
  have nch:c∉ch:=λz=>(hch c z).2.2.1 x c e rfl;by_cases hc:c∈X.fs
  .obtain⟨sl,q⟩:=slot c o (I.cne x c e) hc nch ho (I.freeC x c e);exact⟨_,q,hd⟩
  .exact⟨o,keep c o (I.cne x c e) hc nch ho (I.freeC x c e),hd⟩
 refine⟨I.ok,I.os,hg,⟨λb o e n hb hx=>?_,λb o e n hb hx=>?_,λb o e n hx=>?_,λb o e hx=>?_,λb xs e=>tups b xs (I.base.tups b xs e),λb o xs e=>frzs b o xs (I.base.frzs b o xs e),λb ps e=>?_⟩,?_,λx c e=>?_,?_,λx c e=>?_,λp hp=>?_,hok,I.len⟩
 .exact keep b o (neL b o e) hb (neC b o e hx) (I.base.keep b o e n hb hx) (I.base.free b o e n hx)
 .obtain⟨sl,e1⟩:=I.base.slot b o e n hb hx;obtain⟨sl',e2⟩:=slot b _ (neL b o e) hb (neC b o e hx) e1 (I.base.free b o e n hx);exact⟨sl',e2⟩
 .obtain⟨o',e1⟩:=I.base.there b o e hx;exact free b o' (neC b o e hx) e1 (I.base.free b o e n hx)
 .obtain⟨o',e1⟩:=I.base.there b o e hx;exact there b o' (neC b o e hx) e1
 .obtain⟨m1,e1⟩:=I.base.tbls b ps e;obtain⟨m2,e2⟩:=tbls b _ e1;exact⟨m1++m2,by rw[e2,Array.append_assoc]⟩
 .obtain⟨m,hn,hl⟩:=I.loc;refine⟨m,ns m hn,λi x v e1 e2 e3=>?_⟩;obtain⟨u,r,l⟩:=hl i x v e1 e2 e3;refine⟨u,r,?_⟩;rcases l with l |⟨k,c,e,z⟩
  .exact .inl l
  .exact .inr ⟨k,c,e,cellK x c e _ z⟩
 .obtain⟨v,z⟩:=I.cell x c e;exact⟨v,cellK x c e v z⟩
 .obtain⟨m,⟨o,_,_,ho,_⟩,_⟩:=I.loc;exact free _ o (λz=>(hch _ z).2.1 rfl) ho I.free
 .obtain⟨v,o,ho,hd⟩:=I.cell x c e;exact free c o (λz=>(hch c z).2.2.1 x c e rfl) ho (I.freeC x c e)
 .obtain⟨e,n,ne,nf,d⟩:=I.pin p hp;have nch:p.1∉ch:=λz=>(hch p.1 z).2.2.2 p hp rfl;exact⟨keep p.1 p.2 ne nf nch e n,free p.1 p.2 nch e n,ne,nf,d⟩
def Inv.un{t':Nat}(I:Inv X pins σ H s)(u:Un X.fs [] H H' s.heap h')(hok:HOk X.prog X.w H' h'):Inv X pins σ H' { s with heap:=h',toks:=t' }:=by obtain⟨m,⟨o,es,ep,ho,r⟩,_⟩:=id I.loc;obtain⟨sl,hL⟩:=u.any ho I.free (by simp);exact I.step (g':=s.gens) (d':=s.drawn) (ch:=[]) (λ_ z=>nomatch z) (λb o _ hb _ e n=>u.keep b o e n hb (by simp)) (λb o _ hb _ e n=>u.slot b o e n hb (by simp)) (λb o _ e n=>u.free b o e n (by simp)) (λb o _ e=>u.there b o e (by simp)) u.tups u.frzs u.tbls (λm' hm=>by obtain⟨o',es',ep',ho',r'⟩:=hm;rw[ho] at ho';cases ho';exact⟨_,es',ep',hL,r'⟩) hok I.bare
def Inv.call{g':Array GenState}{t':Nat}{d':Drawn}{ch:List Addr}(I:Inv X pins σ H s)(u:Un (frs X.stack) ch H H' s.heap h')(hok:HOk X.prog X.w H' h')(hg:AllBare g')
 (hch:∀b∈ch,(b∈X.ex\/X.s₀.heap.objs.size<=b)/\b≠X.env.locals/\(∀x c,X.env.cells.lookup x=some c->c≠b)/\∀p∈X.pn++pins,p.1≠b):
 Inv X pins σ H' { s with heap:=h',gens:=g',drawn:=d',toks:=t' }:=by
 obtain⟨m,⟨o,es,ep,ho,r⟩,_⟩:=id I.loc;obtain⟨sl,hL⟩:=u.any ho I.free λz=>(hch _ z).2.1 rfl;exact I.step (ch:=ch) hch (λb o hL hb hc e n=>u.keep b o e n (λz=>(J_.mp (I.stkSub b z)).elim hL hb) hc) (λb o _ _ hc e n=>u.any e n hc) (λb o hc e n=>u.free b o e n hc) (λb o hc e=>u.there b o e hc) u.tups u.frzs u.tbls (λm' hm=>by obtain⟨o',es',ep',ho',r'⟩:=hm;rw[ho] at ho';cases ho';exact⟨_,es',ep',hL,r'⟩) hok hg
def Inv.turned{t':Nat}{it:Addr}(I:Inv X pins σ H s)(k:∀b o,b≠it->s.heap.get? b=some o->h'.get? b=some o)(hn:H it=none)(hL:it≠X.env.locals)
 (h1:it∈X.ex\/X.s₀.heap.objs.size<=it) (h2:∀x c,X.env.cells.lookup x=some c->c≠it) (h3:∀p∈X.pn++pins,p.1≠it):Inv X pins σ H { s with heap:=h',toks:=t' }:=by
 have nit:∀b u,H b=some u->b≠it:=λb u e z=>by rw[z,hn] at e;cases e
 refine I.step (g':=s.gens) (d':=s.drawn) (ch:=[it]) (λb hb=>?_) (λb o _ _ hc e _=>k b o (λz=>hc (by simp [z])) e) (λb o _ _ hc e _=>⟨o.slots,k b o (λz=>hc (by simp [z])) e⟩) (λ_ _ _ _ n=>n)
  (λb o hc e=>⟨o,k b o (λz=>hc (by simp [z])) e⟩) (λ_ _ e=>e) (λ_ _ _ e=>e) (λb ps e=>⟨#[],by rw[e];simp⟩) (λm hm=>?_) (λb u e=>?_) I.bare
 .have e:b=it:=by simpa using hb
  subst e;exact⟨h1,hL,h2,h3⟩
 .obtain⟨o,es,ep,ho,r⟩:=hm;exact⟨o,es,ep,k _ o (Ne.symm hL) ho,r⟩
 .refine (I.hok b u e).stay (λc v hc q=>k c v ?_ q) (λ_ q=>q) λ_ _ q=>q;rcases hc with z |z
  .rw[z];exact nit b u e
  .exact nit c _ z
def Inv.tok(I:Inv X pins σ H s)(t:Nat):Inv X pins σ H { s with toks:=t }:=I.un (h':=s.heap) (t':=t) Un.refl I.hok
def Inv.kept(I:Inv X pins σ H s)(k:∀b u,s.heap.get? b=some u->h'.get? b=some u):Inv X pins σ H { s with heap:=h',toks:=t' }:=I.un (Un.kept k) (I.hok.kept k)
def Inv.laid(I:Inv X pins σ H s)(k:∀b u,s.heap.get? b=some u->h'.get? b=some u)(hp:s.heap.objs.size<=a)(new:ObjOk X.prog X.w (upd H a o) h' a o):
 Inv X pins σ (upd H a o) { s with heap:=h',toks:=t' }:=I.un (Un.laid k hp (I.hok.fresh hp)) (I.hok.laid k hp new)
def Inv.write(I:Inv X pins σ H s)(mu:Mut (H x))(he:e=x\/H e=some (.own x))(k:∀b u,b≠e->s.heap.get? b=some u->h'.get? b=some u)(heo:∃u,h'.get? e=some u)
 (new:ObjOk X.prog X.w (upd H x o) h' x o):Inv X pins σ (upd H x o) { s with heap:=h',toks:=t' }:=I.un (Un.write mu he k heo) (I.hok.write mu he k heo new)
def Inv.pins_of(I:Inv X pins σ H s)(h:∀p∈pins',s.heap.get? p.1=some p.2/\H p.1=none/\p.1≠X.env.locals/\p.1∉X.fs/\∀v,p.2.data ≠ .cell v):Inv X pins' σ H s:=
 ⟨I.ok,I.os,I.bare,I.base,I.loc,I.cell,I.free,I.freeC,λp hp=>(OB.mp hp).elim (λz=>I.pin p (Qb _ z)) (h p),I.hok,I.len⟩
def ur{N:List Str}(hN:N.Nodup){i j:Nat}{x:Str}(a:N[i]?=some x)(b:N[j]?=some x):i=j:=by obtain⟨h1,e1⟩:=D_.mp a;obtain⟨h2,e2⟩:=D_.mp b;exact (List.getElem_inj hN).mp (e1.trans e2.symm)
def oZ(I:Inv X pins σ H s)(hN:X.N.Nodup)(hi:X.N[i]?=some x)(hx:Loc X.env.scope x)(r:RelV v u)
 (h:∀s',Inv X pins (σ.set i (some v)) H s'->(∃a,Heap.SameBut a s.heap s'.heap/\(a=X.env.locals\/X.env.cells.lookup x=some a))->Q () s') (hf:X.fn x=true\/X.env.scope.names.lookup x=some .local):wpAny M A (storeName X.env x u) Q E s:=by
 obtain⟨m,hn,hl⟩:=id I.loc;have hcls:(X.env.scope.kind == .class || (X.env.scope.kind == .module&&X.env.locals != X.env.globals))=false:=by rw[I.ok.kind];rfl
 have hiσ:i<σ.length:=by rw[I.len];exact (D_.mp hi).1
 have cne:=I.cne;have tracked:∀{a:Addr}{h':Heap},(∃o,s.heap.get? a=some o/\H a=none)->Heap.SameBut a s.heap h'->HOk X.prog X.w H h':=λ{a h'} ha hs b ob e=>by
  obtain⟨_,_,hfree⟩:=ha;refine (I.hok b ob e).stay (λc w' hc q=>(hs.2 c ?_).trans q) (λ_ q=>q) λ_ _ q=>q;rintro rfl;rcases hc with rfl |hc
  .rw[hfree] at e;cases e
  .rw[hfree] at hc;cases hc
 rcases hx with hk |hk
 .refine wpAny_storeName_local hk hn (λh' hn' hs=>?_) hcls;obtain⟨oL,_,_,hoL,_⟩:=id hn;refine h _ ⟨I.ok,I.os,I.bare,⟨λb o e n hb hx=>?_,λb o e n hb hx=>?_,I.base.free,λb o e hx=>?_,I.base.tups,I.base.frzs,I.base.tbls⟩,⟨_,hn',λj y v' e1 e2 e3=>?_⟩,λy c e=>?_,I.free,I.freeC,λp hp=>?_,tracked ⟨oL,hoL,I.free⟩ hs,by simpa using I.len⟩ ⟨_,hs,.inl rfl⟩
  .exact (hs.2 b (L_ (Nn (y_ e) I.ok.above))).trans (I.base.keep b o e n hb hx)
  .obtain⟨sl,e1⟩:=I.base.slot b o e n hb hx;exact⟨sl,(hs.2 b (L_ (Nn (y_ e) I.ok.above))).trans e1⟩
  .obtain⟨o',e1⟩:=I.base.there b o e hx;exact⟨o',(hs.2 b (L_ (Nn (y_ e) I.ok.above))).trans e1⟩
  .by_cases hj:j=i
   .subst hj;rw[hi] at e1;cases e1;rw[List.getElem?_set_self hiσ] at e2;cases e2;exact⟨u,r,.inl ⟨hk,by simp⟩⟩
   .rw[Qa (Ne.symm hj)] at e2;obtain⟨u',r',q⟩:=hl j y v' e1 e2 e3;refine⟨u',r',?_⟩;rcases q with ⟨k,e⟩ |⟨k,c,e,z⟩
    .refine .inl ⟨k,?_⟩;have:y≠x:=λe=>hj (ur hN e1 (e ▸ hi));simp [this,e]
    .exact .inr ⟨k,c,e,z.sameBut hs (cne y c e)⟩
  .obtain⟨w',z⟩:=I.cell y c e;exact⟨w',z.sameBut hs (cne y c e)⟩
  .obtain⟨e,n,ne,nf,d⟩:=I.pin p hp;exact⟨(hs.2 p.1 ne).trans e,n,ne,nf,d⟩
 .have hfn:X.fn x=true:=by
   rcases hf with z |z
   .exact z
   .rw[z] at hk;cases hk
  obtain⟨c,hc⟩:=I.ok.has x (.inl hk);obtain⟨w',z⟩:=I.cell x c hc;refine wpAny_storeName_cell I.ok.kind hk hc z (λh' hc' hs=>?_);obtain⟨oc,hoc,hocd⟩:=id z;refine h { s with heap:=h' } ⟨I.ok,I.os,I.bare,⟨λb o e n hb hx=>?_,λb o e n hb hx=>?_,I.base.free,λb o e hx=>?_,I.base.tups,I.base.frzs,I.base.tbls⟩,⟨m,hn.sameBut hs (Ne.symm (cne x c hc)),λj y v' e1 e2 e3=>?_⟩,λy c' e=>?_,I.free,I.freeC,λp hp=>?_,tracked ⟨oc,hoc,I.freeC x c hc⟩ hs,by simpa using I.len⟩ ⟨c,hs,.inr hc⟩
  .exact (hs.2 b (L_ (Nn (y_ e) (I.ok.cab x c hfn hc)))).trans (I.base.keep b o e n hb hx)
  .obtain⟨sl,e1⟩:=I.base.slot b o e n hb hx;exact⟨sl,(hs.2 b (L_ (Nn (y_ e) (I.ok.cab x c hfn hc)))).trans e1⟩
  .obtain⟨o',e1⟩:=I.base.there b o e hx;exact⟨o',(hs.2 b (L_ (Nn (y_ e) (I.ok.cab x c hfn hc)))).trans e1⟩
  .by_cases hj:j=i
   .subst hj;rw[hi] at e1;cases e1;rw[List.getElem?_set_self hiσ] at e2;cases e2;exact⟨u,r,.inr ⟨.inl hk,c,hc,hc'⟩⟩
   .rw[Qa (Ne.symm hj)] at e2;obtain⟨u',r',q⟩:=hl j y v' e1 e2 e3;refine⟨u',r',?_⟩;rcases q with q |⟨k,c',e,z'⟩
    .exact .inl q
    .refine .inr ⟨k,c',e,z'.sameBut hs ?_⟩;rintro rfl;exact hj (ur hN e1 (I.ok.inj _ _ _ e hc ▸ hi))
  .by_cases hcc:c'=c
   .subst hcc;exact⟨_,hc'⟩
   .obtain⟨w2,z2⟩:=I.cell y c' e;exact⟨w2,z2.sameBut hs hcc⟩
  .obtain⟨e,n,ne,nf,d⟩:=I.pin p hp;refine⟨(hs.2 p.1 ?_).trans e,n,ne,nf,d⟩;intro q;rw[q,hoc] at e;have q':oc=p.2:=G_ e;exact d w' (by rw[<- q'];exact hocd)
def hJ(I:Inv X pins σ H s)(hN:X.N.Nodup)(hi:X.N[i]?=some x)(hx:Loc X.env.scope x)(r:RelV v u)
 (h:∀s',Inv X pins (σ.set i (some v)) H s'->Q () s') (hf:X.fn x=true\/X.env.scope.names.lookup x=some .local):wpAny M A (storeName X.env x u) Q E s:=
 oZ I hN hi hx r (λs' I' _=>h s' I') hf
def Inv.call'(I:Inv X pins σ H s)(ho:s'.os=s.os)(u:Un (frs X.stack) ch H H' s.heap s'.heap)(hok:HOk X.prog X.w H' s'.heap)(hg:AllBare s'.gens)
 (hch:∀b∈ch,(b∈X.ex\/X.s₀.heap.objs.size<=b)/\b≠X.env.locals/\(∀x c,X.env.cells.lookup x=some c->c≠b)/\∀p∈X.pn++pins,p.1≠b):Inv X pins σ H' s':=by
 obtain⟨h',g',d',t',o'⟩:=s';have e:o'=s.os:=ho;subst e;exact I.call (g':=g') (t':=t') (d':=d') u hok hg hch
end
abbrev XK:=Value->Option Addr->Hp->Prop
abbrev St:=List (Option V)
abbrev VK:=V->Hp->Prop
abbrev TE:=St->Hp->VK->Prop
abbrev TT:=St->Hp->(Bool->Hp->Prop)->Prop
abbrev TA:=St->Hp->(List V->Hp->Prop)->Prop
structure Ends where
 nx:St->Hp->Prop
 rt:VK
 bk:St->Hp->Prop:=λ_ _=>False
 ct:St->Hp->Prop:=λ_ _=>False
abbrev TS:=Ends->St->Hp->Prop
def EP(X:Cx)(pins:Qu)(σ:St)(Q:VK)(u:Value)(s':Shared):Prop:=∃v H',Inv X pins σ H' s'/\RelV v u/\Q v H'
def TP(X:Cx)(pins:Qu)(σ:St)(Q:Bool->Hp->Prop)(b:Bool)(s':Shared):Prop:=∃H',Inv X pins σ H' s'/\Q b H'
def AP(X:Cx)(pins:Qu)(σ:St)(Q:List V->Hp->Prop)(us:List Value)(s':Shared):Prop:=∃vs H',Inv X pins σ H' s'/\Vals vs us/\Q vs H'
def SP(X:Cx)(pins:Qu)(D:Ends)(f:Flow)(s':Shared):Prop:=
 match f with
 |.next=>∃σ' H',Inv X pins σ' H' s'/\D.nx σ' H'
 |.brk=>∃σ' H',Inv X pins σ' H' s'/\D.bk σ' H'
 |.cont=>∃σ' H',Inv X pins σ' H' s'/\D.ct σ' H'
 |.ret u=>∃v σ' H',Inv X pins σ' H' s'/\RelV v u/\D.rt v H'
def exA{α:Type}{A B C:α->Hp->Prop}{Z:Prop}(h:∃v H',A v H'/\B v H'/\C v H')(k:∀v H',A v H'->B v H'->C v H'->Z):Z:=by obtain⟨v,H',a,b,c⟩:=h;exact k v H' a b c
def PE(X:Cx)(e:Expr)(t:TE):Prop:=
 ∀(pins:Qu) (s:Shared) (σ:St) (H:Hp) (Q:VK),Inv X pins σ H s->t σ H Q->wpAny (model X.prog X.w) X.A (eval e X.env) (EP X pins σ Q) X.xe s
def PT(X:Cx)(e:Expr)(t:TT):Prop:=
 ∀(pins:Qu) (s:Shared) (σ:St) (H:Hp) (Q:Bool->Hp->Prop),Inv X pins σ H s->t σ H Q->wpAny (model X.prog X.w) X.A (isTrue e X.env (eval e X.env)) (TP X pins σ Q) X.xe s
def PW(X:Cx)(e:Expr)(t:TT):Prop:=
 ∀(e_:Sem Value) (pins:Qu) (s:Shared) (σ:St) (H:Hp) (Q:Bool->Hp->Prop),Inv X pins σ H s->t σ H Q->wpAny (model X.prog X.w) X.A (isTrue e X.env e_) (TP X pins σ Q) X.xe s
def PW.pt(h:PW X e t):PT X e t:=h _
def PA(X:Cx)(es:List Expr)(t:TA):Prop:=
 ∀(pos:Pos) (pins:Qu) (s:Shared) (σ:St) (H:Hp) (Q:List V->Hp->Prop),Inv X pins σ H s->t σ H Q->wpAny (model X.prog X.w) X.A (spliced (backTo pos (starEach es X.env))) (AP X pins σ Q) X.xe s
def PS(X:Cx)(st:Stmt)(t:TS):Prop:=
 ∀(pins:Qu) (s:Shared) (σ:St) (H:Hp) (D:Ends),Inv X pins σ H s->t D σ H->wpAny (model X.prog X.w) X.A (exec st X.env) (SP X pins D) X.xe s
def PSs(X:Cx)(st:List Stmt)(t:TS):Prop:=
 ∀(pins:Qu) (s:Shared) (σ:St) (H:Hp) (D:Ends),Inv X pins σ H s->t D σ H->wpAny (model X.prog X.w) X.A (execs st X.env) (SP X pins D) X.xe s
def thn(h:wpAny M A t Q E s)(hQ:∀a s,Q a s->Q' a s):wpAny M A t Q' E s:=NG h hQ λ_ _ x=>x
section
variable{X:Cx}
def tVar(i:Nat):TE:=λσ H Q=>∃v,σ[i]?=some (some v)/\Q v H
def tC(v:V):TE:=λ_ H Q=>Q v H
def Ij(hN:X.N[i]?=some x)(hv:Vis X.env.scope x)(hd:(x==("__debug__" : Str))=false)(n_:(x==("__classdict__" : Str))=false):PE X (.Name x pos) (tVar i):=by
 intro pins s σ H Q I h;obtain⟨v,e,h⟩:=h;obtain⟨m,hn,hl⟩:=I.loc;obtain⟨u,r,l⟩:=hl i x v hN e hv;have d_:EP X pins σ Q u s:=⟨v,H,I,r,h⟩;rcases l with ⟨hk,hm⟩ |⟨hk,c,hc,l_⟩
 .exact wpAny_Name (Qi I.ok.kind hk hn hm d_) hd
 .rcases hk with hk |hk
  .exact wpAny_Name (wpAny_loadName_cell I.ok.kind hk hc l_ d_) hd
  .exact wpAny_Name (wpAny_loadName_free I.ok.kind hk hc l_ d_ n_) hd
def G6{i j pos}:PE X (.Constant (.int i) j pos) (tC (.int i)):=λ_ _ _ H _ I h=>wpAny_Constant_int ⟨.int i,H,I.tok _,⟨_,rfl⟩,h⟩
def Lp{b j pos}:PE X (.Constant (.bool b) j pos) (tC (.bl b)):=λ_ _ _ H _ I h=>Constant_bool ⟨.bl b,H,I,rfl,h⟩
def IH{j pos}:PE X (.Constant .none j pos) (tC .non):=λ_ _ _ H _ I h=>Constant_none ⟨.non,H,I,rfl,h⟩
def IC{x j pos}:PE X (.Constant (.str x) j pos) (tC (.str x)):=λ_ _ _ H _ I h=>Calls.Constant_str ⟨.str x,H,I.tok _,⟨_,rfl⟩,h⟩
def Gl(X:Cx)(x:Str):Prop:=X.env.kindOf x=some .globalImplicit
def nN(I:Inv X pins σ H s)(hg:Gl X x)(hm:X.mg x=some u)(h:Q u s)
 (hd:(x==("__debug__" : Str))=false):wpAny (model X.prog X.w) X.A (eval (.Name x pos) X.env) Q E s:=
 Calls.Name_function_global I.ok.kind hg (Calls.loadGlobal_global (by rw[I.ok.glob];exact I.mod.glob.keeps I.bk) hm h) hd
def cL(I:Inv X pins σ H s)(hg:Gl X x)(hm:X.mg x=none)(hv:bootBuiltins x=some u)(h:Q u s)
 (hn:x ≠ "__name__":=by decide) (hd:(x==("__debug__" : Str))=false:=by decide):wpAny (model X.prog X.w) X.A (eval (.Name x pos) X.env) Q E s:=by
 obtain⟨mb,h1,h2⟩:=I.mod.blt;exact Calls.Name_function_global I.ok.kind hg (Calls.loadGlobal_builtin (by rw[I.ok.glob];exact I.mod.glob.keeps I.bk) hm (by rw[I.ok.blt];exact h1.keeps I.bk) ((h2 x hn).trans hv) h) hd
def wa(hg:Gl X x)(hm:X.mg x=some u)(r:RelV v u)(hd:(x==("__debug__" : Str))=false):PE X (.Name x pos) (tC v):=
 λ_ _ _ H _ I h=>nN I hg hm ⟨v,H,I,r,h⟩ hd
def EA(hg:Gl X x)(hm:X.mg x=none)(hv:bootBuiltins x=some u)(r:RelV v u)(hn:x ≠ "__name__")(hd:(x==("__debug__" : Str))=false):PE X (.Name x pos) (tC v):=
 λ_ _ _ H _ I h=>cL I hg hm hv ⟨v,H,I,r,h⟩ hn hd
variable{a b:Expr}{ta tb:TE}{pos:Pos}
def tB(t:TE):TT:=λσ H Q=>t σ H λx H1=>∃c,x=.bl c/\Q c H1
def HJ(h:PE X e t)(he:∀e_,isTrue e X.env e_=(do let v <- e_;standAt e.pos;holding [v] (truthy v))):PT X e (tB t):=by intro pins s σ H Q I hw;refine isTrue_plain (thn (h pins s σ H _ I hw) λv s1 zz=>exA zz λx H1 I1 r1 q1=>?_) (he _);obtain⟨d,rfl,q⟩:=q1;cases r1;exact O2 ⟨H1,I1,q⟩
variable{tA tB':TT}{cJ:List Expr}
def tAnd(t u:TT):TT:=λσ H Q=>t σ H λc H1=>if c=true then u σ H1 Q else Q false H1
def tOr(t u:TT):TT:=λσ H Q=>t σ H λc H1=>if c=true then Q true H1 else u σ H1 Q
def tNot(t:TT):TT:=λσ H Q=>t σ H λc H1=>Q (!c) H1
def EE(ha:PT X a tA):PW X (.BoolOp .And [a] pos) tA:=by
 intro wh pins s σ H Q I h;refine isTrue_and (thn (ha pins s σ H Q I h) λc s1 e=>?_);cases c with
 |true=>exact isTrue_and_nil e
 |false=>exact e
def HL(ha:PT X a tA):PW X (.BoolOp .Or [a] pos) tA:=by
 intro wh pins s σ H Q I h;refine isTrue_or (thn (ha pins s σ H Q I h) λc s1 e=>?_);cases c with
 |false=>exact isTrue_or_nil e
 |true=>exact e
def IV(ha:PT X a tA)(hb:PW X (.BoolOp .And (b::cJ) pos) tB'):PW X (.BoolOp .And (a::b::cJ) pos) (tAnd tA tB'):=by
 intro wh pins s σ H Q I h;refine isTrue_and (thn (ha pins s σ H _ I h) λc s1 ⟨H1,I1,q1⟩=>?_);cases c with
 |true=>exact hb wh pins s1 σ H1 Q I1 q1
 |false=>exact⟨H1,I1,q1⟩
def La(ha:PT X a tA)(hb:PW X (.BoolOp .Or (b::cJ) pos) tB'):PW X (.BoolOp .Or (a::b::cJ) pos) (tOr tA tB'):=by
 intro wh pins s σ H Q I h;refine isTrue_or (thn (ha pins s σ H _ I h) λc s1 ⟨H1,I1,q1⟩=>?_);cases c with
 |true=>exact⟨H1,I1,q1⟩
 |false=>exact hb wh pins s1 σ H1 Q I1 q1
def Jx(ha:PT X a tA):PT X (.UnaryOp .Not a pos) (tNot tA):=by intro pins s σ H Q I h;exact isTrue_not (ha pins s σ H (λc H1=>Q (!c) H1) I h)
def Lf(ta tb:TE):TE:=λσ H Q=>ta σ H λx H1=>∃c,x=.bl c/\if c=true then tb σ H1 Q else Q (.bl false) H1
def KD(ta:TE):TE:=λσ H Q=>ta σ H λx H1=>∃c,x=.bl c/\Q (.bl (!c)) H1
def JO{op}(h:PE X a t):PE X (.BoolOp op [a] pos) t:=λpins s σ H Q I hw=>BoolOp_one (h pins s σ H Q I hw)
def GG(ha:PE X a ta)(hb:PE X (.BoolOp .And (b::cJ) pos) tb):PE X (.BoolOp .And (a::b::cJ) pos) (Lf ta tb):=by
 intro pins s σ H Q I h;refine BoolOp_and (thn (ha pins s σ H _ I h) λv s1 zz=>exA zz λx H1 I1 r1 q1=>?_);obtain⟨c,rfl,q1⟩:=q1;cases r1;refine O2 ?_;cases c with
 |true=>exact hb pins s1 σ H1 Q I1 q1
 |false=>exact⟨.bl false,H1,I1,rfl,q1⟩
def G1(ha:PE X a ta):PE X (.UnaryOp .Not a pos) (KD ta):=by intro pins s σ H Q I h;refine UnaryOp_ (thn (ha pins s σ H _ I h) λv s1 zz=>exA zz λx H1 I1 r1 q1=>?_);obtain⟨c,rfl,q1⟩:=q1;cases r1;exact not_of (O2 ⟨.bl (!c),H1,I1,rfl,q1⟩)
end
def SqL(K:W.Frag)(H:Hp)(a:Addr)(xs:List V):Prop:=
 Rd H a (.lst xs)\/
  ∃(o:Obj) (its:Array Value) (n:Nat),K.lookup a=some o/\o.cls=.type "list" /\ o.dict=none/\o.data=.seq its n/\its.size<=sizeLine/\Vals xs its.toList
def SqT(K:W.Frag)(H:Hp)(a:Addr)(xs:List V):Prop:=
 Rd H a (.tup xs)\/
  ∃(o:Obj) (its:Array Value) (n:Nat),K.lookup a=some o/\o.cls=.type "tuple" /\ o.data=.seq its n/\its.size<=sizeLine/\Vals xs its.toList
noncomputable def absV:Value->Option V
 |.none=>some .non
 |.bool b=>some (.bl b)
 |.int i _=>some (.int i)
 |.str x _=>some (.str x)
 |.bytes b _=>some (.byt b)
 |.float b _=>some (.flt b)
 |.ref a=>some (.ref a)
 |.type n=>some (.ty n)
 |_=>none
def RelV.abs(r:RelV x u):absV u=some x:=by
 cases x with
 |non=>cases r;rfl
 |bl _=>cases r;rfl
 |int _=>obtain⟨t,rfl⟩:=r;rfl
 |str _=>obtain⟨t,rfl⟩:=r;rfl
 |byt _=>obtain⟨t,rfl⟩:=r;rfl
 |flt _=>obtain⟨t,rfl⟩:=r;rfl
 |ref _=>cases r;rfl
 |ty _=>cases r;rfl
def RelV.inj(r:RelV x u)(q:RelV y u):x=y:=G_ (r.abs.symm.trans q.abs)
def Vals.inj(r:Vals xs us)(q:Vals ys us):xs=ys:=by
 induction r generalizing ys with
 |nil=>cases q;rfl
 |
  cons r t ih=>
  cases q with
  |cons q t'=>rw[r.inj q,ih t']
section
variable{X:Cx}{pins:Qu}{σ:St}{H:Hp}{s:Shared}{a:Addr}{xs ys:List V}
def SqL.of{K:W.Frag}(h:H a=some (.lst xs)):SqL K H a xs:=.inl (.inl h)
def SqT.of{K:W.Frag}(h:H a=some (.tup xs)):SqT K H a xs:=.inl (.inl h)
def Inv.list(I:Inv X pins σ H s)(h:SqL X.K H a xs):∃its:List Value,Vals xs its/\PlainL s.heap a its.toArray/\xs.length<=sizeLine:=by
 rcases h with h |⟨o,its,n,hk,hc,hd,hs,hz,r⟩
 .obtain⟨z,its,n,r,e⟩:=h.ok I.hok;exact⟨its,r,⟨_,n,e,rfl,rfl,rfl⟩,z⟩
 .refine⟨its.toList,r,⟨o,n,I.kIn a o hk,hc,hd,by simpa using hs⟩,?_⟩;have e:=r.length;simp only[NR] at e;omega
def Inv.tuple(I:Inv X pins σ H s)(h:SqT X.K H a xs):∃its:List Value,Vals xs its/\IsTup s.heap a its.toArray/\xs.length<=sizeLine:=by
 rcases h with h |⟨o,its,n,hk,hc,hs,hz,r⟩
 .obtain⟨z,its,r,p⟩:=h.ok I.hok;exact⟨its,r,p,z⟩
 .refine⟨its.toList,r,⟨o,I.kIn a o hk,hc,n,by simpa using hs⟩,?_⟩;have e:=r.length;simp only[NR] at e;omega
def Inv.list_inj(I:Inv X pins σ H s)(h:SqL X.K H a xs)(h':SqL X.K H a ys):xs=ys:=by
 obtain⟨its,r,⟨o,n,e,_,_,d⟩,_⟩:=I.list h;obtain⟨its',r',⟨o',n',e',_,_,d'⟩,_⟩:=I.list h';rw[e] at e';cases e';rw[d] at d';injection d' with d1 _;have:its=its':=by simpa using NC Array.toList d1
 subst this;exact r.inj r'
def Inv.tuple_inj(I:Inv X pins σ H s)(h:SqT X.K H a xs)(h':SqT X.K H a ys):xs=ys:=by
 obtain⟨its,r,⟨o,e,_,n,d⟩,_⟩:=I.tuple h;obtain⟨its',r',⟨o',e',_,n',d'⟩,_⟩:=I.tuple h';rw[e] at e';cases e';rw[d] at d';injection d' with d1 _;have:its=its':=by simpa using NC Array.toList d1
 subst this;exact r.inj r'
end
section
variable{X:Cx}{st:Stmt}{cJ:List Stmt}{t u:TS}{e:Expr}{te:TE}{pos:Pos}
def MP:TS:=λD σ H=>D.nx σ H
def tSeq(t u:TS):TS:=λD σ H=>t { D with nx:=u D } σ H
def FL:PSs X [] MP:=λ_ _ σ H _ I h=>Qh ⟨σ,H,I,h⟩
def CD(h1:PS X st t)(h2:PSs X cJ u):PSs X (st::cJ) (tSeq t u):=by
 intro pins s σ H D I h;refine wpAny_execs_cons (thn (h1 pins s σ H { D with nx:=u D } I h) λf s1 q=>?_);cases f with
 |next=>obtain⟨σ',H',I',q⟩:=q;exact h2 pins s1 σ' H' D I' q
 |ret v=>exact q
 |brk=>exact q
 |cont=>exact q
def Fw(h1:PS X st t):PSs X [st] t:=by
 intro pins s σ H D I h;refine wpAny_execs_cons (thn (h1 pins s σ H D I h) λf s1 q=>?_);cases f with
 |next=>exact Qh q
 |ret v=>exact q
 |brk=>exact q
 |cont=>exact q
def Iy:TS:=λD σ H=>D.bk σ H
def AY:PS X (.Break pos) Iy:=λ_ _ σ H _ I h=>wpAny_Break ⟨σ,H,I,h⟩
def Inv.quiet(I:Inv X pins σ H s):interactive X.env=false:=by simp [interactive,I.ok.kind]
def Lb(te:TE):TS:=λD σ H=>te σ H λ_ H1=>D.nx σ H1
def Ex(he:PE X e te)(hs:swapsWith e none pos.line X.env=pure false):PS X (.Expr e pos) (Lb te):=by intro pins s σ H D I h;exact wpAny_Expr_any (thn (he pins s σ H _ I h) λv s1 zz=>exA zz λx H1 I1 r1 q1=>⟨σ,H1,I1,q1⟩) I.quiet hs
def tRet(te:TE):TS:=λD σ H=>te σ H D.rt
def Kf(he:PE X e te):PS X (.Return (some e) pos) (tRet te):=by intro pins s σ H D I h;exact wpAny_Return_some (thn (he pins s σ H _ I h) λv s1 zz=>exA zz λx H1 I1 r1 q1=>⟨x,σ,H1,I1,r1,q1⟩)
def M8:TS:=λD _ H=>D.rt .non H
def E9:PS X (.Return none pos) M8:=λ_ _ σ H _ I h=>wpAny_Return_none ⟨.non,σ,H,I,rfl,h⟩
def tIfS(c:TT)(t u:TS):TS:=λD σ H=>c σ H λb H1=>if b=true then t D σ H1 else u D σ H1
def LO(hc:PT X c tc)(ha:PSs X a t)(hb:PSs X b u):PS X (.If c a b pos) (tIfS tc t u):=by
 intro pins s σ H D I h;refine wpAny_If (thn (hc pins s σ H _ I h) λd s1 ⟨H1,I1,q1⟩=>?_);cases d with
 |true=>exact ha pins s1 σ H1 D I1 q1
 |false=>exact hb pins s1 σ H1 D I1 q1
end
abbrev TG:=V->St->Hp->(St->Hp->Prop)->Prop
abbrev TGs:=List V->St->Hp->(St->Hp->Prop)->Prop
def PG(X:Cx)(target:Expr)(t:TG):Prop:=
 ∀
  (pins:Qu) (s:Shared) (σ:St) (H:Hp) (v:V) (u:Value) (Q:St->Hp->Prop),Inv X pins σ H s->RelV v u->t v σ H Q->
  wpAny (model X.prog X.w) X.A (assign target X.env u) (λ_ s'=>∃σ' H',Inv X pins σ' H' s'/\Q σ' H') X.xe s
def PGs(X:Cx)(ts:List Expr)(t:TGs):Prop:=
 ∀
  (pins:Qu) (s:Shared) (σ:St) (H:Hp) (vs:List V) (us:List Value) (Q:St->Hp->Prop),Inv X pins σ H s->Vals vs us->t vs σ H Q->
  wpAny (model X.prog X.w) X.A (assignInOrder ((assignEach ts X.env).map (·.2)) us) (λ_ s'=>∃σ' H',Inv X pins σ' H' s'/\Q σ' H') X.xe s
abbrev rB:=V->V->V->Hp->(Hp->Prop)->Prop
def xj(X:Cx)(t:rB):Prop:=
 ∀
  (pins:Qu) (s:Shared) (σ:St) (H:Hp) (o i v:V) (ov iv u:Value) (Q:Hp->Prop),Inv X pins σ H s->RelV o ov->RelV i iv->RelV v u->t o i v H Q->
  wpAny (model X.prog X.w) X.A (setItem ov iv u) (λ_ s'=>∃H',Inv X pins σ H' s'/\Q H') X.xe s
abbrev TIp:=V->V->Hp->VK->Prop
def PIp(X:Cx)(op:Operator)(t:TIp):Prop:=
 ∀
  (pins:Qu) (s:Shared) (σ:St) (H:Hp) (x y:V) (v u:Value) (Q:VK),Inv X pins σ H s->RelV x v->RelV y u->t x y H Q->
  wpAny (model X.prog X.w) X.A (inplaceOp op v u) (EP X pins σ Q) X.xe s
section
variable{X:Cx}{pos:Pos}
def qQ(i:Nat):TG:=λv σ H Q=>Q (σ.set i (some v)) H
def EF(hN:X.N.Nodup)(hi:X.N[i]?=some x)(hx:Loc X.env.scope x)(hf:X.fn x=true\/X.env.scope.names.lookup x=some .local):PG X (.Name x pos) (qQ i):=by intro pins s σ H v u Q I r h;exact wpAny_assign_Name (hJ I hN hi hx r (λs' I'=>⟨_,H,I',h⟩) hf)
def gNil:TGs:=λvs σ H Q=>vs=[]/\Q σ H
def Ma(t:TG)(u:TGs):TGs:=λvs σ H Q=>∃v r,vs=v::r/\t v σ H λσ' H'=>u r σ' H' Q
def Fb:PGs X [] gNil:=by intro pins s σ H vs us Q I r h;obtain⟨e,h⟩:=h;subst e;cases r;exact assignInOrder_nil ⟨σ,H,I,h⟩
def BV(h1:PG X e t)(h2:PGs X es u)
 (hs:(assignEach (e::es) X.env).map (·.2)=assign e X.env::(assignEach es X.env).map (·.2)):PGs X (e::es) (Ma t u):=by
 intro pins s σ H vs us Q I r h;obtain⟨v,vr,e1,h⟩:=h;subst e1;cases r with
 |cons r rr=>rw[hs];refine assignInOrder_cons (thn (h1 pins s σ H _ _ _ I r h) λ_ s1 ⟨σ1,H1,I1,q1⟩=>?_);exact h2 pins s1 σ1 H1 _ _ Q I1 rr q1
def gTup(K:W.Frag)(n:Nat)(t:TGs):TG:=λv σ H Q=>∃a xs,v=.ref a/\SqT K H a xs/\xs.length=n/\t xs σ H Q
def zk(hc:X.calm=true)(h:PGs X es t)
 (hn:(assignEach es X.env).length=n) (hst:(assignEach es X.env).findIdx? (·.1)=none):PG X (.Tuple es k pos) (gTup X.K n t):=by
 intro pins s σ H v u Q I r hw;obtain⟨a,xs,e1,hq,hl,hw⟩:=hw;subst e1;cases r;obtain⟨its,rv,ht,hz⟩:=I.tuple hq;refine assign_Tuple_tuple (I.ok.hd hc) ht (by simp [hn,<- hl,rv.length]) hst λh' hx=>?_;have I1:Inv X pins σ H { s with heap:=h' }:=I.kept (t':=s.toks) λb o e=>hx b o (L_ (y_ e)) e;exact h pins _ σ H xs _ Q I1 (by simpa using rv) hw
def gSub(to ti:TE)(t:rB):TG:=λv σ H Q=>to σ H λo H1=>ti σ H1 λi H2=>t o i v H2 λH3=>Q σ H3
def Iq(ho:PE X o to)(hi:PE X i ti)(hs:xj X t)
 (ha:∀v,assign (.Subscript o i pos) X.env v=(do
  let ov <- holding [v] (eval o X.env)
  let iv <- holding [v,ov] (eval i X.env)
  standAt pos
  holding [v,ov,iv] (setItem ov iv v)
  release [v,ov,iv] [])):PG X (.Subscript o i pos) (gSub to ti t):=by
 intro pins s σ H v u Q I r h;rw[ha];refine o_ (Og (thn (ho pins s σ H _ I h) λov s1 zz=>exA zz λx H1 I1 r1 q1=>?_));refine o_ (Og (thn (hi pins s1 σ H1 _ I1 q1) λiv s2 zz=>exA zz λy H2 I2 r2 q2=>?_));refine o_ (Po (o_ (Og (thn (hs pins s2 σ H2 x y v ov iv u _ I2 r1 r2 r q2) λ_ s3 ⟨H3,I3,q3⟩=>?_))));exact wpAny_release ⟨σ,H3,I3,q3⟩
def wD(te:TE)(g:TG):TS:=λD σ H=>te σ H λx H1=>g x σ H1 D.nx
def zH(he:PE X e te)(hg:PG X tg g)(hs:swapsWithSole [tg] e pos.line X.env=pure false)(hw:swappedStores [tg] e X.env=pure none)
 (h1:(assignEach [tg] X.env).map (·.2)=[assign tg X.env]):PS X (.Assign [tg] e pos) (wD te g):=by
 intro pins s σ H D I h;refine wpAny_Assign_stores (thn (he pins s σ H _ I h) λv s1 zz=>exA zz λx H1 I1 r1 q1=>?_) hs hw;rw[h1];exact thn (hg pins s1 σ H1 x v _ I1 r1 q1) λ_ s2 q=>q
def Ku(hN:X.N.Nodup)(hi:X.N[i]?=some x)(hx:Loc X.env.scope x)(he:PE X e te)(hs:swapsWith e (some (.Name x k_)) pos.line X.env=pure false)(hf:X.fn x=true\/X.env.scope.names.lookup x=some .local):
 PS X (.Assign [.Name x k_] e pos) (wD te (qQ i)):=by
 intro pins s σ H D I h;refine wpAny_Assign_Name (thn (he pins s σ H _ I h) λv s1 zz=>exA zz λy H1 I1 r1 q1=>?_) hs;exact hJ I1 hN hi hx r1 (λs2 I2=>⟨_,H1,I2,q1⟩) hf
def tPar(i j:Nat)(ta:TA):TS:=λD σ H=>ta σ H λvs H1=>∃v w,vs=[v,w]/\D.nx ((σ.set i (some v)).set j (some w)) H1
def GU{kt k2 pt2}(hc:X.calm=true)(hN:X.N.Nodup)(hi:X.N[i]?=some x)(hj:X.N[j]?=some y)(hij:i≠j)
 (hx:X.env.scope.names.lookup x=some .local) (hy:X.env.scope.names.lookup y=some .local) (ha:PA X [a,b] ta)
 (hw:swappedStores [.Tuple [.Name x px,.Name y py] kt pt] (.Tuple [a,b] k2 pt2) X.env=pure (some [x,y]))
 (hs:swapsWithSole [.Tuple [.Name x px,.Name y py] kt pt] (.Tuple [a,b] k2 pt2) pos.line X.env=pure false):
 PS X (.Assign [.Tuple [.Name x px,.Name y py] kt pt] (.Tuple [a,b] k2 pt2) pos) (tPar i j ta):=by
 intro pins s σ H D I h;rw[exec_Assign_arm];refine o_ (Po ?_);rw[hs];refine o_ (z_ ?_);rw[if_neg (by decide)];refine o_ (Tuple_ (thn (ha _ pins s σ H _ I h) λus s1 zz=>exA zz λvs H1 I1 r1 q1=>?_));obtain⟨v,w,e1,q1⟩:=q1;subst e1;obtain⟨u1,u2,rfl,rv,rw'⟩:∃u1 u2,us=[u1,u2]/\RelV v u1/\RelV w u2:=by
  cases r1 with
  |
   cons p q=>
   cases q with
   |cons p' q'=>cases q';exact⟨_,_,rfl,p,p'⟩
 refine NX ?_ (by show 2<=sizeLine;decide);have I2:Inv X pins σ H1 { s1 with heap:=s1.heap.push { cls:=.type "tuple",data:=.seq [u1,u2].toArray } }:=I1.kept (t':=s1.toks) λb o e=>r_ _ e;rw[hw];refine o_ (z_ ?_);show wpAny (model X.prog X.w) X.A (do rule "assign.swapped-stores";let items <- unpackItems (.ref s1.heap.objs.size) 2 none;assignInOrder [λv=>bindName X.env y v,λv=>bindName X.env x v] items.reverse;pure Flow.next) _ _ _;refine o_ (wpAny_rule (o_ (unpackItems_tuple (items:=#[u1,u2]) (I.ok.hd hc) (IsTup.new s1.heap _) λh' hx'=>?_)));have I3:=I2.kept (h':=h') (t':=s1.toks) λb o e=>hx' b o (L_ (y_ e)) e;show wpAny _ _ (assignInOrder [λv=>bindName X.env y v,λv=>bindName X.env x v] [u2,u1] >>= λ_=>pure Flow.next) _ _ _;refine o_ (assignInOrder_cons (wpAny_bindName (hJ I3 hN hj (.inl hy) rw' (λs2 I4=>?_) (.inr hy))));refine assignInOrder_cons (wpAny_bindName (hJ I4 hN hi (.inl hx) rv (λs3 I5=>assignInOrder_nil (z_ ?_)) (.inr hx)));rw[List.set_comm _ _ (Ne.symm hij)] at I5;exact⟨_,H1,I5,q1⟩
def tAug(i:Nat)(te:TE)(ti:TIp):TS:=λD σ H=>∃x,σ[i]?=some (some x)/\te σ H λy H1=>ti x y H1 λz H2=>D.nx (σ.set i (some z)) H2
def IQ(hN:X.N.Nodup)(hi:X.N[i]?=some x)(hx:Loc X.env.scope x)(he:PE X e te)(ho:PIp X op ti)(hf:X.fn x=true\/X.env.scope.names.lookup x=some .local):
 PS X (.AugAssign (.Name x k_) op e pos) (tAug i te ti):=by
 intro pins s σ H D I h;obtain⟨v,e1,h⟩:=h;obtain⟨m,hn,hl⟩:=I.loc;have vis:Vis X.env.scope x:=by rcases hx with k |k;exact .inl k;exact .inr (.inl k)
 obtain⟨u,r,l⟩:=hl i x v hi e1 vis;refine wpAny_AugAssign_Name ?_;have go:wpAny (model X.prog X.w) X.A (eval e X.env) (λw s₂=>wpAny (model X.prog X.w) X.A (inplaceOp op u w) (λr s₃=>wpAny (model X.prog X.w) X.A (storeName X.env x r) (λ_=>SP X pins D .next) X.xe s₃) X.xe s₂) X.xe s:=by refine thn (he pins s σ H _ I h) λw s1 zz=>exA zz λy H1 I1 r1 q1=>?_;refine thn (ho pins s1 σ H1 v y u w _ I1 r r1 q1) λz s2 zz=>exA zz λzv H2 I2 r2 q2=>?_;exact hJ I2 hN hi hx r2 (λs3 I3=>⟨_,H2,I3,q2⟩) hf
 rcases l with ⟨hk,hm⟩ |⟨hk,c,hc,l_⟩
 .exact Qi I.ok.kind hk hn hm go
 .rcases hk with hk |hk
  .exact wpAny_loadName_cell I.ok.kind hk hc l_ go
  .rcases hx with k |k
   .have:X.env.scope.names.lookup x=some .free:=hk;rw[k] at this;cases this
   .have:X.env.scope.names.lookup x=some .free:=hk;rw[k] at this;cases this
def ipI(f:Int->Int->Int):TIp:=λx y H Q=>∃i j,x=.int i/\y=.int j/\Q (.int (f i j)) H
def Kk:PIp X .Add (ipI λi j=>i+j):=by intro pins s σ H x y v u Q I r1 r2 h;obtain⟨i,j,e1,e2,q⟩:=h;subst e1;subst e2;obtain⟨t,rfl⟩:=r1;obtain⟨t',rfl⟩:=r2;exact iadd_int ⟨.int _,H,I.tok _,⟨_,rfl⟩,q⟩
def Ka(c:TT)(tb:TS):TS:=λD σ H=>∃W:Nat->St->Hp->Prop,(∃m,W m σ H)/\∀m σ H,W m σ H->
 c σ H λb H1=>if b=true then ∃N:St->Hp->Prop,(∀σ' H',N σ' H'->∃m',m'<m/\W m' σ' H')/\tb { D with nx:=N,ct:=N,bk:=D.nx } σ H1 else D.nx σ H1
def CU(hp:PassesOwn (model X.prog X.w) X.A X.env X.xe)(hc:PT X c tc)(hb:PSs X body tb):PS X (.While c body [] pos) (Ka tc tb):=by
 intro pins s σ H D I h;obtain⟨W,⟨m0,w0⟩,turn⟩:=h;refine wpAny_While (codeAny_whileLoop (λn s'=>∃σ' H',Inv X pins σ' H' s'/\W n σ' H') ?_ m0 ⟨σ,H,I,w0⟩);rintro n s1 ⟨σ1,H1,I1,w1⟩;refine OX hp (thn (hc pins s1 σ1 H1 _ I1 (turn n σ1 H1 w1)) λb s2 ⟨H2,I2,q2⟩=>?_);cases b with
 |
  true=>
  obtain⟨N,hN,q2⟩:=q2;rw[if_pos rfl];refine OX hp (thn (hb pins s2 σ1 H2 _ I2 q2) λf s3 q3=>?_);cases f with
  |next=>obtain⟨σ3,H3,I3,n3⟩:=q3;obtain⟨m',hm,w3⟩:=hN σ3 H3 n3;exact⟨m',hm,σ3,H3,I3,w3⟩
  |cont=>obtain⟨σ3,H3,I3,n3⟩:=q3;obtain⟨m',hm,w3⟩:=hN σ3 H3 n3;exact⟨m',hm,σ3,H3,I3,w3⟩
  |brk=>exact q3
  |ret v=>exact q3
 |false=>rw[if_neg B_];exact Qh ⟨σ1,H2,I2,q2⟩
end
structure It where
 go:Nat->Hp->Prop
 yld:Nat->Hp->V->Hp->Prop
 stop:Nat->Hp->Prop
def FpOk(X:Cx)(pins:Qu)(H:Hp)(b:Addr):Prop:=
 H b=none/\b≠X.env.locals/\b∉X.fs/\(b∈X.ex\/X.s₀.heap.objs.size<=b)/\(∀x c,X.env.cells.lookup x=some c->c≠b)/\∀p∈X.pn++pins,p.1≠b
def Inv.fpOk(I:Inv X pins σ H s)(hb:s.heap.objs.size<=b)(hn:H' b=none):FpOk X pins H' b:=by
 refine⟨hn,OD (Nn I.lt hb),I.nofs hb,.inr (Nu I.sz hb),λx c e z=>?_,λp hp z=>?_⟩
 .obtain⟨v,q⟩:=I.cell x c e;exact absurd (Nn q.lt (by rw[z];exact hb)) (N6 _)
 .exact absurd (Nn (y_ (I.pin p hp).1) (by rw[z];exact hb)) (N6 _)
structure Turn(P:Program)(w:World)(K:W.Frag)(tg:Expr)(J:It)(fp:List Addr)(it:Addr)(tn:Nat->Heap->Prop):Prop where
 mem:it∈fp
 obj:∀i h,tn i h->∀b∈fp,∃o,h.get? b=some o/\∀v,o.data ≠ .cell v
 keep:∀i h h',tn i h->(∀b∈fp,∀o,h.get? b=some o->h'.get? b=some o)->tn i h'
 item:∀(X:Cx),X.prog=P->X.w=w->X.K=K->X.calm=true->∀(i:Nat) (pins:Qu) (s:Shared) (σ:St) (H:Hp) (E:Qv),Inv X pins σ H s->(∀b∈fp,FpOk X pins H b)->tn i s.heap->J.go i H->
  wpAny (model P w) X.A (pyNext (.ref it)) (λr s1=>∃u,r=some u/\
   wpAny (model P w) X.A (letOwnedTupleGo tg (.ref it) u) (λ_ s2=>∃x H',Inv X pins σ H' s2/\RelV x u/\J.yld i H x H'/\tn (i+1) s2.heap/\∀b∈fp,H' b=none) E s1) E s
 done:∀(X:Cx),X.prog=P->X.w=w->X.K=K->X.calm=true->∀(i:Nat) (pins:Qu) (s:Shared) (σ:St) (H:Hp) (E:Qv),Inv X pins σ H s->(∀b∈fp,FpOk X pins H b)->tn i s.heap->J.stop i H->
  wpAny (model P w) X.A (pyNext (.ref it)) (λr s1=>r=none/\Inv X pins σ H s1) E s
 self:∀(A:Around) (i:Nat) (s:Shared) (Q:Qv) (E:Qv),tn i s.heap->Q (.ref it) s->wpAny (model P w) A (pyIter (.ref it)) Q E s
abbrev TI:=St->Hp->(It->Hp->Prop)->Prop
def PIE(X:Cx)(pins:Qu)(σ:St)(tg:Expr)(R:It->Hp->Prop)(itv:Value)(s2:Shared):Prop:=
 ∃(it:Addr) (fp:List Addr) (tn:Nat->Heap->Prop) (J:It) (H':Hp),itv=.ref it/\Inv X pins σ H' s2/\Turn X.prog X.w X.K tg J fp it tn/\tn 0 s2.heap/\(∀b∈fp,FpOk X pins H' b)/\R J H'
def PI(X:Cx)(tg iter:Expr)(wi:TI):Prop:=
 ∀
  (pins:Qu) (s:Shared) (σ:St) (H:Hp) (R:It->Hp->Prop),Inv X pins σ H s->wi σ H R->
  wpAny (model X.prog X.w) X.A (eval iter X.env) (λv s1=>wpAny (model X.prog X.w) X.A (pyIter v) (PIE X pins σ tg R) X.xe s1) X.xe s
def xf(ho:s.heap.get? it=some o)(hc:o.cls=.type n)(hd:o.data=.fields vs)
 (hn:["enumerate", "zip", "dict_itemiterator", "dict_reverseitemiterator", "odict_iterator", "itertools.zip_longest", "itertools.pairwise"].contains n=false) (hQ:Q () s):wpAny M A (letOwnedTupleGo tg (.ref it) u) Q E s:=by
 unfold letOwnedTupleGo;cases tg
  <;> first
  |exact z_ hQ
  |(cases u <;> first
   |exact z_ hQ
   |(
    refine o_ (wpAny_load ho ?_);rw[hc,hd];show wpAny M A (if (["enumerate", "zip", "dict_itemiterator", "dict_reverseitemiterator", "odict_iterator", "itertools.zip_longest", "itertools.pairwise"].contains n&&vs[0]?==some (rawInt _))=true then _ else _) Q E s;rw[if_neg (by intro h;rw[hn,Bool.false_and] at h;cases h)];exact z_ hQ))
noncomputable def Itl (K:W.Frag) (a:Addr):It:=
 ⟨λi H=>∃xs x,SqL K H a xs/\xs[i]?=some x,λi H x H'=>H'=H/\∀xs,SqL K H a xs->xs[i]?=some x,λi H=>∃xs,SqL K H a xs/\xs.length<=i⟩
noncomputable def Itt (K:W.Frag) (a:Addr):It:=
 ⟨λi H=>∃xs x,SqT K H a xs/\xs[i]?=some x,λi H x H'=>H'=H/\∀xs,SqT K H a xs->xs[i]?=some x,λi H=>∃xs,SqT K H a xs/\xs.length<=i⟩
noncomputable def Itr (lo:Int) (n:Nat):It:=⟨λi _=>i<n,λi H x H'=>H'=H/\x=.int (lo+i),λi _=>n<=i⟩
def y9{P:Program}{w:World}{K:W.Frag}{tg:Expr}(a it:Addr):Turn P w K tg (Itl K a) [it] it (λi h=>h.IsListIter it a i) where
 mem:=by simp
 obj:=λi h st b hb=>by
  have e:b=it:=by simpa using hb
  subst e;obtain⟨o,e,c,d⟩:=st;exact⟨o,e,λv z=>by rw[d] at z;cases z⟩
 keep:=λi h h' st k=>st.at λo e=>k it (by simp) o e
 item:=by intro X hP hw hK hc i pins s σ H E I hf st hg;subst hP hw hK;obtain⟨xs,x,hq,hx⟩:=hg;obtain⟨its,rv,p,hz⟩:=I.list hq;obtain⟨u,hu,ru⟩:=rv.get hx;obtain⟨f0,f1,f2,f3,f4,f5⟩:=hf it (by simp);refine wpAny_pyNext_list_item st p.isList (x:=u) (by simpa using hu) λh' st' sb=>?_;have I1:Inv X pins σ H { s with heap:=h' }:=I.turned (t':=s.toks) (λb o hb e=>(sb.2 b hb).trans e) f0 f1 f3 f4 f5;obtain⟨o,e,c,d⟩:=id st';exact⟨u,rfl,xf (s:={ s with heap:=h' }) e c d (by decide) ⟨x,H,I1,ru,⟨rfl,λys hy=>by rw[I.list_inj hy hq];exact hx⟩,st',λb hb=>(hf b hb).1⟩⟩
 done:=by intro X hP hw hK hc i pins s σ H E I hf st hg;subst hP hw hK;obtain⟨xs,hq,hx⟩:=hg;obtain⟨its,rv,p,hz⟩:=I.list hq;obtain⟨f0,f1,f2,f3,f4,f5⟩:=hf it (by simp);have hl:=rv.length;exact wpAny_pyNext_list_end (I.ok.hd hc) st p.isList (by simp;omega) λh' eb=>⟨rfl,I.turned (t':=s.toks) (λb o hb e=>eb b o hb e) f0 f1 f3 f4 f5⟩
 self:=λ_ _ _ _ _ st h=>wpAny_pyIter_listiter st h
def xo{P:Program}{w:World}{K:W.Frag}{tg:Expr}(a it:Addr):Turn P w K tg (Itt K a) [it] it (λi h=>h.IsTupleIter it a i) where
 mem:=by simp
 obj:=λi h st b hb=>by
  have e:b=it:=by simpa using hb
  subst e;obtain⟨o,e,c,d⟩:=st;exact⟨o,e,λv z=>by rw[d] at z;cases z⟩
 keep:=λi h h' st k=>st.at λo e=>k it (by simp) o e
 item:=by intro X hP hw hK hc i pins s σ H E I hf st hg;subst hP hw hK;obtain⟨xs,x,hq,hx⟩:=hg;obtain⟨its,rv,p,hz⟩:=I.tuple hq;obtain⟨u,hu,ru⟩:=rv.get hx;obtain⟨f0,f1,f2,f3,f4,f5⟩:=hf it (by simp);refine wpAny_pyNext_tuple_item st (show s.heap.IsTuple a its.toArray from p) (x:=u) (by simpa using hu) λh' st' sb=>?_;have I1:Inv X pins σ H { s with heap:=h' }:=I.turned (t':=s.toks) (λb o hb e=>(sb.2 b hb).trans e) f0 f1 f3 f4 f5;obtain⟨o,e,c,d⟩:=id st';exact⟨u,rfl,xf (s:={ s with heap:=h' }) e c d (by decide) ⟨x,H,I1,ru,⟨rfl,λys hy=>by rw[I.tuple_inj hy hq];exact hx⟩,st',λb hb=>(hf b hb).1⟩⟩
 done:=by intro X hP hw hK hc i pins s σ H E I hf st hg;subst hP hw hK;obtain⟨xs,hq,hx⟩:=hg;obtain⟨its,rv,p,hz⟩:=I.tuple hq;obtain⟨f0,f1,f2,f3,f4,f5⟩:=hf it (by simp);have hl:=rv.length;exact wpAny_pyNext_tuple_end (I.ok.hd hc) st (show s.heap.IsTuple a its.toArray from p) (by simp;omega) λh' eb=>⟨rfl,I.turned (t':=s.toks) (λb o hb e=>eb b o hb e) f0 f1 f3 f4 f5⟩
 self:=λ_ _ _ _ _ st h=>wpAny_pyIter_tupleiter st h
def wO{P:Program}{w:World}{K:W.Frag}{tg:Expr}(it:Addr)(lo:Int)(n:Nat):Turn P w K tg (Itr lo n) [it] it (λi h=>IsRangeIter h it (lo+(i:Nat)*1) ((n:Int)-(i:Nat)) 1) where
 mem:=by simp
 obj
  := λi h st b hb=>by
  have e:b=it:=by simpa using hb
  subst e;exact⟨_,st,λv z=>by have z':Data.fields _=Data.cell v:=z;cases z'⟩
 keep:=λi h h' st k=>k it (by simp) _ st
 item:=by intro X hP hw hK hc i pins s σ H E I hf st hg;subst hP hw hK;obtain⟨f0,f1,f2,f3,f4,f5⟩:=hf it (by simp);have W:=Walks.range (prog:=X.prog) (w:=X.w) (I.ok.hd hc) it lo 1 n;refine W.item i s _ _ hg st λv h' tk hv st' kk=>?_;obtain⟨t,rfl⟩:=hv;have I1:Inv X pins σ H { s with heap:=h',toks:=tk }:=I.turned (λb o hb e=>kk b o (by simpa using hb) e) f0 f1 f3 f4 f5;refine⟨_,rfl,xf (s:={ s with heap:=h',toks:=tk }) (n:="range_iterator") st' rfl rfl (by decide) ⟨.int (lo+i),H,I1,⟨t,?_⟩,⟨rfl,rfl⟩,st',λb hb=>(hf b hb).1⟩⟩;rw[Int.mul_one]
 done:=by intro X hP hw hK hc i pins s σ H E I hf st hg;subst hP hw hK;obtain⟨f0,f1,f2,f3,f4,f5⟩:=hf it (by simp);exact wpAny_pyNext_range_end (I.ok.hd hc) st (by have:n<=i:=hg;omega) λh' eb=>⟨rfl,I.turned (t':=s.toks) (λb o hb e=>eb b o hb e) f0 f1 f3 f4 f5⟩
 self:=λ_ _ _ _ _ st h=>wpAny_pyIter_rangeiter st h
section
variable{X:Cx}{tg:Expr}
def ug{pins:Qu}{σ:St}{H:Hp}{s:Shared}{R:It->Hp->Prop}{E:Qv}{lo hi:Int}{t u v:Tok}{tk:Nat}(I:Inv X pins σ H s)(h1:-(2^62)<=lo)(h2:lo<2^62)(h3:-(2^62)<=hi)(h4:hi<2^62)
 (q:R (Itr lo (hi-lo).toNat) H):wpAny (model X.prog X.w) X.A (pyIter (.ref s.heap.objs.size)) (PIE X pins σ tg R) E { s with heap:=s.heap.push { cls:=.type "range",data:=.fields #[.int lo t,.int hi u,.int 1 v] },toks:=tk }:=by
 refine wpAny_pyIter_range (IsRange.new ..) (small_one h1 h2 h3 h4) ?_;have I1:Inv X pins σ H { s with heap:=s.heap.push { cls:=.type "range",data:=.fields #[.int lo t,.int hi u,.int 1 v] },toks:=tk }:=I.kept λb o e=>r_ _ e;refine⟨(s.heap.push { cls:=.type "range",data:=.fields #[.int lo t,.int hi u,.int 1 v] }).objs.size,[(s.heap.push { cls:=.type "range",data:=.fields #[.int lo t,.int hi u,.int 1 v] }).objs.size],_,_,H,rfl,
  I1.kept (t':=tk) λb o e=>r_ _ e,wO _ lo (hi-lo).toNat,?_,λb hb=>?_,q⟩
 .have e1:lo+((0:Nat):Int)*1=lo:=by simp
  have e2:(((hi-lo).toNat:Nat):Int)-((0:Nat):Int)=Builtin.Range.rangeSize lo hi 1:=by rw[Qr];split <;> omega
  show IsRangeIter _ _ (lo+((0:Nat):Int)*1) ((((hi-lo).toNat:Nat):Int)-((0:Nat):Int)) 1;rw[e1,e2];exact Em _ rfl
 .have e:b=(s.heap.push { cls:=.type "range",data:=.fields #[.int lo t,.int hi u,.int 1 v] }).objs.size:=by simpa using hb
  subst e;exact I1.fpOk (t_ _) (I1.hok.fresh (t_ _))
def Kz(ta:TA):TI:=λσ H R=>ta σ H λvs H1=>∃j:Int,vs=[.int j]/\-(2^62)<=j/\j<2^62/\R (Itr 0 j.toNat) H1
def K0(ta:TA):TI:=λσ H R=>ta σ H λvs H1=>∃i j:Int,vs=[.int i,.int j]/\(-(2^62)<=i/\i<2^62/\-(2^62)<=j/\j<2^62)/\R (Itr i (j-i).toNat) H1
def As(hg:Gl X "range")(hm:X.mg "range"=none)(ha:PA X [a] ta)(hs:starEach [a] X.env=[(false,eval a X.env)]):PI X tg (.Call (.Name "range" p) [a] [] pos) (Kz ta):=by
 intro pins s σ H R I h;refine Call_ (cL I hg hm boot_range (Nz (thn (ha pos pins s σ H _ I h) λus s1 zz=>exA zz λvs H1 I1 r1 q1=>?_) hs rfl));obtain⟨j,e,q1,q2,q⟩:=q1;subst e;cases r1 with
 |cons r rr=>cases rr;obtain⟨t,rfl⟩:=r;exact call_range_1 (ug I1 (by omega) (by omega) q1 q2 (by simpa using q))
def zI(hg:Gl X "range")(hm:X.mg "range"=none)(ha:PA X [a,b] ta)(hs:starEach [a,b] X.env=[(false,eval a X.env),(false,eval b X.env)])(hs2:starEach [b] X.env=[(false,eval b X.env)]):
 PI X tg (.Call (.Name "range" p) [a,b] [] pos) (K0 ta):=by
 intro pins s σ H R I h;refine Call_ (cL I hg hm boot_range (Nz (thn (ha pos pins s σ H _ I h) λus s1 zz=>exA zz λvs H1 I1 r1 q1=>?_) (by rw[hs,hs2]) (by rw[hs2];rfl)));obtain⟨i,j,e,⟨q1,q2,q3,q4⟩,q⟩:=q1;subst e;cases r1 with
 |
  cons r rr=>
  cases rr with
  |cons r' rr=>cases rr;obtain⟨t,rfl⟩:=r;obtain⟨t',rfl⟩:=r';exact call_range_2 (ug I1 q1 q2 q3 q4 q)
def tFor(wi:TI)(g:TG)(tb:TS):TS:=λD σ H=>wi σ H λJ H1=>∃W:Nat->Nat->St->Hp->Prop,(∃m,W 0 m σ H1)/\∀i m σ H,W i m σ H->
 (J.stop i H/\D.nx σ H)\/(J.go i H/\∃N:St->Hp->Prop,(∀σ' H',N σ' H'->∃m',m'<m/\W (i+1) m' σ' H')/\∀x H',J.yld i H x H'->g x σ H' λσ2 H2=>tb { D with nx:=N,ct:=N,bk:=D.nx } σ2 H2)
noncomputable def j8 (fp:List Addr) (h:Heap):List (Addr×Obj):=fp.filterMap λb=>(h.get? b).map λo=>(b,o)
def gM(hb:b∈fp)(e:h.get? b=some o):(b,o)∈j8 fp h:=List.mem_filterMap.mpr ⟨b,hb,by rw[e];rfl⟩
def Ai(hp:p∈j8 fp h):p.1∈fp/\h.get? p.1=some p.2:=by
 obtain⟨b,hb,e⟩:=List.mem_filterMap.mp hp;cases q:h.get? b with
 |none=>rw[q] at e;cases e
 |some o=>rw[q] at e;have e':(b,o)=p:=G_ e;subst e';exact⟨hb,q⟩
def Inv.pinned(I:Inv X pins σ H s)(hf:∀b∈fp,FpOk X pins H b)(ho:∀b∈fp,∃o,s.heap.get? b=some o/\∀v,o.data ≠ .cell v):Inv X (pins++j8 fp s.heap) σ H s:=
 I.pins_of λp hp=>(OB.mp hp).elim (λz=>I.pin p (Nw _ z)) λz=>by obtain⟨hb,e⟩:=Ai z;obtain⟨f0,f1,f2,_⟩:=hf p.1 hb;obtain⟨o,e',d⟩:=ho p.1 hb;rw[e] at e';cases e';exact⟨e,f0,f1,f2,d⟩
def Inv.unpinned(I:Inv X (pins++pl) σ H s):Inv X pins σ H s:=I.pins_of λp hp=>I.pin p (Nw _ (Qb _ hp))
def Kw(hp:PassesOwn (model X.prog X.w) X.A X.env X.xe)(hc:X.calm=true)(hi:PI X tg iter wi)(hg:PG X tg g)(hb:PSs X body tb)
 (hs:∀x,foldedSetIterable iter X.env x=pure x):PS X (.For tg iter body [] pos) (tFor wi g tb):=by
 intro pins s σ H D I h;refine wpAny_For (thn (hi pins s σ H _ I h) λv s1 h1=>thn h1 λitv s2 h2=>?_) hs;obtain⟨it,fp,tn,J,H2,e,I2,T,st2,f2,W,⟨m0,w0⟩,turn⟩:=h2;subst e;have stat:∀{H':Hp},(∀b∈fp,H' b=none)->∀b∈fp,FpOk X pins H' b:=λhn b hb=>⟨hn b hb,(f2 b hb).2⟩;refine codeAny_forLoop_any (λn s'=>∃i σ' H',Inv X pins σ' H' s'/\tn i s'.heap/\(∀b∈fp,H' b=none)/\W i n σ' H') ?_ m0 ⟨0,σ,H2,I2,st2,λb hb=>(f2 b hb).1,w0⟩;rintro n s3 ⟨i,σ3,H3,I3,st3,fr3,w3⟩;rcases turn i n σ3 H3 w3 with ⟨stop,qn⟩ |⟨go,N,hN,step⟩
 .refine OX hp (thn (T.done X rfl rfl rfl hc i pins s3 σ3 H3 X.xe I3 (stat fr3) st3 stop) λr s4 ⟨hr,I4⟩=>?_);subst hr;exact Qh ⟨σ3,H3,I4,qn⟩
 .refine OX hp (thn (T.item X rfl rfl rfl hc i pins s3 σ3 H3 X.xe I3 (stat fr3) st3 go) λr s4 ⟨u,hr,h4⟩=>?_);subst hr;refine OX hp (thn h4 λ_ s5 ⟨x,H5,I5,r5,y5,st5,fr5⟩=>?_);have I5':=I5.pinned (stat fr5) (T.obj _ _ st5);refine OX hp (thn (hg _ s5 σ3 H5 x u _ I5' r5 (step x H5 y5)) λ_ s6 ⟨σ6,H6,I6,q6⟩=>?_);refine OX hp (thn (hb _ s6 σ6 H6 _ I6 q6) λf s7 q7=>?_);have again:∀{σ7:St}{H7:Hp},Inv X (pins++j8 fp s5.heap) σ7 H7 s7->N σ7 H7->∃m,m<n/\∃i σ' H',Inv X pins σ' H' s7/\tn i s7.heap/\(∀b∈fp,H' b=none)/\W i m σ' H':=λ{σ7 H7} I7 n7=>by obtain⟨m',hm,w7⟩:=hN σ7 H7 n7;refine⟨m',hm,i+1,σ7,H7,I7.unpinned,T.keep _ _ _ st5 λb hb o e=>(I7.pin (b,o) (Nw _ (Nw _ (gM hb e)))).1,λb hb=>?_,w7⟩;obtain⟨o,e,d⟩:=T.obj _ _ st5 b hb;exact (I7.pin (b,o) (Nw _ (Nw _ (gM hb e)))).2.1
  cases f with
  |next=>obtain⟨σ7,H7,I7,n7⟩:=q7;exact again I7 n7
  |cont=>obtain⟨σ7,H7,I7,n7⟩:=q7;exact again I7 n7
  |brk=>obtain⟨σ7,H7,I7,q7⟩:=q7;exact⟨σ7,H7,I7.unpinned,q7⟩
  |ret v=>obtain⟨x7,σ7,H7,I7,r7,q7⟩:=q7;exact⟨x7,σ7,H7,I7.unpinned,r7,q7⟩
end
abbrev R2:=V->V->Hp->VK->Prop
def OpR(X:Cx)(f:Value->Value->Sem Value)(r:R2):Prop:=
 ∀
  (pins:Qu) (s:Shared) (σ:St) (H:Hp) (x y:V) (v u:Value) (Q:VK),Inv X pins σ H s->RelV x v->RelV y u->r x y H Q->
  wpAny (model X.prog X.w) X.A (f v u) (EP X pins σ Q) X.xe s
def UnR(X:Cx)(f:Value->Sem Value)(r:V->Hp->VK->Prop):Prop:=
 ∀
  (pins:Qu) (s:Shared) (σ:St) (H:Hp) (x:V) (v:Value) (Q:VK),Inv X pins σ H s->RelV x v->r x H Q->
  wpAny (model X.prog X.w) X.A (f v) (EP X pins σ Q) X.xe s
def CallR(X:Cx)(f:Value)(r:List V->Hp->VK->Prop):Prop:=
 ∀
  (pins:Qu) (s:Shared) (σ:St) (H:Hp) (xs:List V) (us:List Value) (Q:VK),Inv X pins σ H s->Vals xs us->r xs H Q->
  wpAny (model X.prog X.w) X.A (call f us) (EP X pins σ Q) X.xe s
def TruR(X:Cx)(r:V->Hp->(Bool->Hp->Prop)->Prop):Prop:=
 ∀
  (pins:Qu) (s:Shared) (σ:St) (H:Hp) (x:V) (v:Value) (Q:Bool->Hp->Prop),Inv X pins σ H s->RelV x v->r x H Q->
  wpAny (model X.prog X.w) X.A (truthy v) (TP X pins σ Q) X.xe s
def tOp(r:R2)(ta tb:TE):TE:=λσ H Q=>ta σ H λx H1=>tb σ H1 λy H2=>r x y H2 Q
def tUn(r:V->Hp->VK->Prop)(ta:TE):TE:=λσ H Q=>ta σ H λx H1=>r x H1 Q
def rI(C:Int->Int->Prop)(g:Int->Int->V):R2:=λx y H Q=>∃i j,x=.int i/\y=.int j/\C i j/\Q (g i j) H
def rI0(g:Int->Int->V):R2:=λx y H Q=>∃i j,x=.int i/\y=.int j/\Q (g i j) H
def rU(g:Int->V):V->Hp->VK->Prop:=λx H Q=>∃i,x=.int i/\Q (g i) H
section
variable{X:Cx}{a b:Expr}{ta tb:TE}{pos:Pos}
def C4(ha:PE X a ta)(hb:PE X b tb){pins:Qu}{s:Shared}{σ:St}{H:Hp}{R:V->V->Hp->Prop}(I:Inv X pins σ H s)
 (h:ta σ H λx H1=>tb σ H1 λy H2=>R x y H2) {Q:Qv}{f:Value->Value->Sem Value}
 (hf:∀v u s2 x y H2,Inv X pins σ H2 s2->RelV x v->RelV y u->R x y H2->wpAny (model X.prog X.w) X.A (f v u) Q X.xe s2):
 wpAny (model X.prog X.w) X.A (eval a X.env) (λv s₁=>wpAny (model X.prog X.w) X.A (eval b X.env) (λu s₂=>wpAny (model X.prog X.w) X.A (f v u) Q X.xe s₂) X.xe s₁) X.xe s:=by
 refine thn (ha pins s σ H _ I h) λv s1 zz=>exA zz λx H1 I1 r1 q1=>?_;refine thn (hb pins s1 σ H1 _ I1 q1) λu s2 zz=>exA zz λy H2 I2 r2 q2=>?_;exact hf v u s2 x y H2 I2 r1 r2 q2
def K1(ho:OpR X (binaryOp op) r)(ha:PE X a ta)(hb:PE X b tb):PE X (.BinOp a op b pos) (tOp r ta tb):=by intro pins s σ H Q I h;exact wpAny_BinOp (C4 ha hb I h λv u s2 x y H2 I2 rx ry q=>ho pins s2 σ H2 x y v u Q I2 rx ry q)
def M1(ho:UnR X (unaryOp op) r)(ha:PE X a ta):PE X (.UnaryOp op a pos) (tUn r ta):=by intro pins s σ H Q I h;exact UnaryOp_ (thn (ha pins s σ H _ I h) λv s1 zz=>exA zz λx H1 I1 r1 q1=>ho pins s1 σ H1 x v Q I1 r1 q1)
def opI{f:Value->Value->Sem Value}{C:Int->Int->Prop}{g:Int->Int->Int}
 (rule:∀(i j:Int) (t u:Tok) (s:Shared) (Q:Qv) (E:Qv),C i j->Q (.int (g i j) s.toks) { s with toks:=s.toks+1 }->wpAny (model X.prog X.w) X.A (f (.int i t) (.int j u)) Q E s):
 OpR X f (rI C λi j=>.int (g i j)):=by
 intro pins s σ H x y v u Q I rx ry h;obtain⟨i,j,rfl,rfl,hc,q⟩:=h;obtain⟨t,rfl⟩:=rx;obtain⟨t',rfl⟩:=ry;exact rule i j t t' s _ _ hc ⟨.int (g i j),H,I.tok _,⟨_,rfl⟩,q⟩
def opI0{f:Value->Value->Sem Value}{g:Int->Int->Int}
 (rule:∀(i j:Int) (t u:Tok) (s:Shared) (Q:Qv) (E:Qv),Q (.int (g i j) s.toks) { s with toks:=s.toks+1 }->wpAny (model X.prog X.w) X.A (f (.int i t) (.int j u)) Q E s):
 OpR X f (rI0 λi j=>.int (g i j)):=by
 intro pins s σ H x y v u Q I rx ry h;obtain⟨i,j,rfl,rfl,q⟩:=h;obtain⟨t,rfl⟩:=rx;obtain⟨t',rfl⟩:=ry;exact rule i j t t' s _ _ ⟨.int (g i j),H,I.tok _,⟨_,rfl⟩,q⟩
def Cz{f:Value->Value->Sem Value}{g:Int->Int->Bool}
 (rule:∀(i j:Int) (t u:Tok) (s:Shared) (Q:Qv) (E:Qv),Q (.bool (g i j)) s->wpAny (model X.prog X.w) X.A (f (.int i t) (.int j u)) Q E s):
 OpR X f (rI0 λi j=>.bl (g i j)):=by
 intro pins s σ H x y v u Q I rx ry h;obtain⟨i,j,rfl,rfl,q⟩:=h;obtain⟨t,rfl⟩:=rx;obtain⟨t',rfl⟩:=ry;exact rule i j t t' s _ _ ⟨.bl (g i j),H,I,rfl,q⟩
def kh(i j:Int):Prop:=0<=j/\j<=1000000/\i.natAbs<2^64
def CMul(i j:Int):Prop:=(-(2^64)<i/\i<2^64)\/(-(2^64)<j/\j<2^64)
def CMul.ok(h:CMul i j):IntMulOk i j:=by
 rcases h with ⟨h1,h2⟩ |⟨h1,h2⟩
 .exact .of_left (intBits_le_64 h1 h2)
 .exact .of_right (intBits_le_64 h1 h2)
def J9:OpR X (binaryOp .Add) (rI0 λi j=>.int (i+j)):=opI0 λ_ _ _ _ _ _ _ q=>add_int q
def Ki:OpR X (binaryOp .Sub) (rI0 λi j=>.int (i-j)):=opI0 λ_ _ _ _ _ _ _ q=>sub_int q
def GA:OpR X (binaryOp .Mult) (rI CMul λi j=>.int (i*j)):=opI λ_ _ _ _ _ _ _ hc q=>mul_int q hc.ok
def E4:OpR X (binaryOp .Mod) (rI (λ_ j=>j≠0) λi j=>.int (i.fmod j)):=opI λ_ _ _ _ _ _ _ hc q=>mod_int' hc q
def Ks:OpR X (binaryOp .Pow) (rI kh λi j=>.int (i^j.toNat)):=opI λ_ _ _ _ _ _ _ hc q=>pow_int_small hc.1 hc.2.1 hc.2.2 q
def Hd:OpR X (binaryOp .LShift) (rI kh λi j=>.int (i*2^j.toNat)):=opI λ_ _ _ _ _ _ _ hc q=>lshift_int_small hc.1 hc.2.1 hc.2.2 q
def unI{f:Value->Sem Value}{g:Int->Int}
 (rule:∀(i:Int) (t:Tok) (s:Shared) (Q:Qv) (E:Qv),Q (.int (g i) s.toks) { s with toks:=s.toks+1 }->wpAny (model X.prog X.w) X.A (f (.int i t)) Q E s):
 UnR X f (rU λi=>.int (g i)):=by
 intro pins s σ H x v Q I rx h;obtain⟨i,rfl,q⟩:=h;obtain⟨t,rfl⟩:=rx;exact rule i t s _ _ ⟨.int (g i),H,I.tok _,⟨_,rfl⟩,q⟩
def Ic:UnR X (unaryOp .USub) (rU λi=>.int (-i)):=unI λ_ _ _ _ _ q=>neg_int q
end
section
variable{X:Cx}{a b c:Expr}{ta tb:TE}{pos:Pos}
def m3(I:Inv X pins σ H s)(q:Q (.bl k) H)(e:k=k'):EP X pins σ Q (.bool k') s:=by subst e;exact⟨.bl k,H,I,rfl,q⟩
def D9:OpR X (compareOp .Lt) (rI0 λi j=>.bl (decide (i<j))):=Cz λ_ _ _ _ _ _ _ q=>lt_int q
def DN:OpR X (compareOp .Gt) (rI0 λi j=>.bl (decide (j<i))):=Cz λ_ _ _ _ _ _ _ q=>gt_int q
def Ej:OpR X (compareOp .GtE) (rI0 λi j=>.bl (decide (j<=i))):=Cz λ_ _ _ _ _ _ _ q=>ge_int q
def FF:OpR X (compareOp .IsNot) (λx y H Q=>y=.non/\Q (.bl (!decide (x=.non))) H):=by
 intro pins s σ H x y v u Q I rx ry h;obtain⟨rfl,q⟩:=h;cases ry;refine isnot_none_gen (m3 I q ?_);cases x <;> first
  |(cases rx;rfl)
  |(obtain⟨t,rfl⟩:=rx;rfl)
def OpR.or(h:OpR X f r)(h':OpR X f r'):OpR X f (λx y H Q=>r x y H Q\/r' x y H Q):=by
 intro pins s σ H x y v u Q I rx ry q;rcases q with q |q
 .exact h pins s σ H x y v u Q I rx ry q
 .exact h' pins s σ H x y v u Q I rx ry q
def Ao(b:Expr)(h:op ≠ .In:=by decide)(h2:op ≠ .NotIn:=by decide):behindInMarks op b=false:=by
 have e1:(op==CmpOp.In)=false:=by cases op <;> first |rfl |exact absurd rfl h
 have e2:(op==CmpOp.NotIn)=false:=by cases op <;> first |rfl |exact absurd rfl h2
 cases b <;> simp [behindInMarks,e1,e2]
def Fy(ho:OpR X (compareOp op) r)(ha:PE X a ta)(hb:PE X b tb)(hm:behindInMarks op b=false):PE X (.Compare a [op] [b] pos) (tOp r ta tb):=by intro pins s σ H Q I h;exact wpAny_Compare1 (C4 ha hb I h λv u s2 x y H2 I2 rx ry q=>ho pins s2 σ H2 x y v u Q I2 rx ry q) hm
def Nh(t:TE):TT:=λσ H Q=>t σ H λx H'=>∃k,x=.bl k/\Q k H'
def EG(ho:OpR X (compareOp op) r)(ha:PE X a ta)(hb:PE X b tb)(hm:behindInMarks op b=false):PT X (.Compare a [op] [b] pos) (Nh (tOp r ta tb)):=by
 intro pins s σ H Q I h;refine wpAny_isTrue_Compare1 (thn (ha pins s σ H _ I h) λv s1 zz=>exA zz λx H1 I1 r1 q1=>thn (hb pins s1 σ H1 _ I1 q1) λu s2 zz=>exA zz λy H2 I2 r2 q2=>
  thn (ho pins s2 σ H2 x y v u _ I2 r1 r2 q2) λc s3 ⟨z,H3,I3,r3,k,e,q3⟩=>?_) hm
 subst e;cases r3;exact O2 ⟨H3,I3,q3⟩
def CI(K:W.Frag)(x:V)(H:Hp)(k:Bool):Prop:=
 match x with
 |.non=>k=false
 |.bl b=>k=b
 |.int i=>k=(i != 0)
 |.str y=>y.length<=sizeLine/\k=((y.length:Int) != 0)
 |.byt y=>y.size<=sizeLine/\k=((y.size:Int) != 0)
 |.ref p=>(∃xs,SqL K H p xs/\k=!xs.isEmpty)\/(∃xs,SqT K H p xs/\k=!xs.isEmpty)\/∃kvs,H p=some (.dK kvs)/\k=!kvs.isEmpty
 |_=>False
def ye(r:KV kvs vs):(!vs.isEmpty)=!kvs.isEmpty:=by cases r <;> rfl
def mF(r:Vals xs its):(!its.toArray.isEmpty)=!xs.isEmpty:=by cases r <;> simp
def gX:(sizeLine:Nat)<2^63:=by rw[sizeLine_eq];decide
def Km:TruR X (λx H Q=>∃k,CI X.K x H k/\Q k H):=by
 intro pins s σ H x v Q I rx h;obtain⟨k,e,q⟩:=h;have hl:=gX;have hs:sizeLine=16777216:=sizeLine_eq;cases x with
 |non=>cases rx;have e':k=false:=e;subst e';exact truthy_none ⟨H,I,q⟩
 |bl b=>cases rx;have e':k=b:=e;subst e';exact O2 ⟨H,I,q⟩
 |int i=>obtain⟨t,rfl⟩:=rx;have e':k=(i != 0):=e;subst e';exact PySem.P.truthy_int ⟨H,I,q⟩
 |str y=>obtain⟨t,rfl⟩:=rx;obtain⟨hy,e'⟩:y.length<=sizeLine/\k=((y.length:Int) != 0):=e;subst e';exact PySem.P.truthy_str (by omega) ⟨H,I.tok _,q⟩
 |byt y=>obtain⟨t,rfl⟩:=rx;obtain⟨hy,e'⟩:y.size<=sizeLine/\k=((y.size:Int) != 0):=e;subst e';exact W.truthy_bytes (by omega) ⟨H,I.tok _,q⟩
 |
  ref p=>
  cases rx;have e':(∃xs,SqL X.K H p xs/\k=!xs.isEmpty)\/(∃xs,SqT X.K H p xs/\k=!xs.isEmpty)\/∃kvs,H p=some (.dK kvs)/\k=!kvs.isEmpty:=e;rcases e' with ⟨xs,hx,e'⟩ |⟨xs,hx,e'⟩ |⟨kvs,hx,e'⟩
  .subst e';obtain⟨its,r,pl,hz⟩:=I.list hx;have a_:=r.length;exact wpAny_truthy_list pl.isList (by simp only[A_];omega) ⟨H,I.tok _,by rw[mF r];exact q⟩
  .subst e';obtain⟨its,r,pl,hz⟩:=I.tuple hx;have a_:=r.length;exact truthy_tuple pl (by simp only[A_];omega) ⟨H,I.tok _,by rw[mF r];exact q⟩
  .subst e';obtain⟨hz,hS,vs,r,m⟩:kvs.length<=sizeLine/\(p==sysModules)=false/\∃vs,KV kvs vs/\s.heap.DictOf (bT X.prog X.w) p vs:=I.hok p _ hx;have a_:kvs.length=vs.length:=Qp r;exact wpAny_truthy_dict hS m (by omega) ⟨H,I.tok _,by rw[ye r];exact q⟩
 |_=>exact (show False from e).elim
def BM(ha:PE X a ta)(he:∀e_,isTrue a X.env e_=(do let v <- e_;standAt a.pos;holding [v] (truthy v))):
 PT X a (λσ H Q=>ta σ H λx H'=>∃k,CI X.K x H' k/\Q k H'):=by
 intro pins s σ H Q I h;exact isTrue_plain (thn (ha pins s σ H _ I h) λv s1 zz=>exA zz λx H1 I1 r1 q1=>Km pins s1 σ H1 x v Q I1 r1 q1) (he _)
def fM(r:Vals [x] us):∃u,us=[u]/\RelV x u:=by
 cases r with
 |cons r1 r2=>cases r2;exact⟨_,rfl,r1⟩
def m7(r:Vals [x,y] us):∃u w',us=[u,w']/\RelV x u/\RelV y w':=by
 cases r with
 |
  cons r1 r2=>
  cases r2 with
  |cons r3 r4=>cases r4;exact⟨_,_,rfl,r1,r3⟩
def C7:CallR X (.builtin "abs") (λxs H Q=>∃i,xs=[.int i]/\Q (.int (if i<0 then -i else i)) H):=by intro pins s σ H xs us Q I r h;obtain⟨i,rfl,q⟩:=h;obtain⟨u,rfl,t,rfl⟩:=fM r;exact call_abs_int λu tk=>⟨.int (if i<0 then -i else i),H,I.tok _,⟨_,rfl⟩,q⟩
def Ap(hc:X.calm=true):CallR X (.builtin "max") (λxs H Q=>∃i j,xs=[.int i,.int j]/\Q (.int (if j>i then j else i)) H):=by
 intro pins s σ H xs us Q I r h;obtain⟨i,j,rfl,q⟩:=h;obtain⟨u,w',rfl,⟨t,rfl⟩,⟨t',rfl⟩⟩:=m7 r;refine max_two_ints (I.ok.hd hc) λh' tk k=>⟨_,H,I.kept k,?_,q⟩;by_cases hj:j>i
 .rw[if_pos hj,if_pos hj];exact⟨_,rfl⟩
 .rw[if_neg hj,if_neg hj];exact⟨_,rfl⟩
def yx(hc:X.calm=true):CallR X (.builtin "min") (λxs H Q=>∃i j,xs=[.int i,.int j]/\Q (.int (if j<i then j else i)) H):=by
 intro pins s σ H xs us Q I r h;obtain⟨i,j,rfl,q⟩:=h;obtain⟨u,w',rfl,⟨t,rfl⟩,⟨t',rfl⟩⟩:=m7 r;refine min_two_ints (I.ok.hd hc) λh' tk k=>⟨_,H,I.kept k,?_,q⟩;by_cases hj:j<i
 .rw[if_pos hj,if_pos hj];exact⟨_,rfl⟩
 .rw[if_neg hj,if_neg hj];exact⟨_,rfl⟩
def yY:CallR X (.type "int") (λxs H Q=>(∃i,xs=[.int i]/\Q (.int i) H)\/∃k,xs=[.bl k]/\Q (.int (if k then 1 else 0)) H):=by
 intro pins s σ H xs us Q I r h;rcases h with ⟨i,rfl,q⟩ |⟨k,rfl,q⟩
 .obtain⟨u,rfl,t,rfl⟩:=fM r;exact call_int_int ⟨.int i,H,I,⟨_,rfl⟩,q⟩
 .obtain⟨u,rfl,r1⟩:=fM r;cases r1;exact call_int_bool ⟨.int (if k then 1 else 0),H,I.tok _,⟨_,rfl⟩,q⟩
end
structure ObjM(h:Heap)(x dx C:Addr)(mA:Qt):Prop where
 obj:h.get? x=some (W.instObj C dx)
 ns:h.Ns1 dx mA
 ne:dx≠x
def zC{h:Heap}{dx:Addr}{mA:Qt}(n:h.Ns1 dx mA):∃od,h.get? dx=some od/\∀name,W.lookIn name od=some (mA name):=by
 obtain⟨o,es,ep,ho,hd,hk,_,hm⟩:=n;refine⟨o,ho,λname=>?_⟩;have e:=hm name;unfold nsFind findBy at e;rw[<- Array.find?_toList] at e;unfold W.lookIn;rw[hd];dsimp only;split
 .rename_i y q;rw[q] at e;exact NC some e
 .rename_i q;rw[q] at e;have a:es.toList.any (·.refKey)=false:=by rw[List.any_eq_false];intro y hy;obtain⟨z,t,hkey⟩:=hk y (Array.mem_toList_iff.mp hy);simp [DictEntry.refKey,hkey]
  have a':¬ es.toList.any (·.refKey)=true:=by rw[a];exact B_
  rw[if_neg a'];exact NC some e
def ObjM.look(I:ObjM h x dx C mA):∃od,W.InstAt h x (W.instObj C dx) C (some od)/\∀name,W.lookIn name od=some (mA name):=
 let ⟨od,ho,hl⟩:=zC I.ns
 ⟨od,⟨I.obj,rfl,rfl,ho⟩,hl⟩
def RelO.some_of(r:RelO (some v) o):∃u,o=some u/\RelV v u:=by
 cases o with
 |none=>exact (show False from r).elim
 |some u=>exact⟨u,rfl,r⟩
section
variable{P:Program}{w:World}{H:Hp}{h:Heap}{a C dx:Addr}{fs:List (Str×V)}
def Gg(hok:HOk P w H h)(e:H a=some (.ins C dx fs)):∃mA,ObjM h a dx C mA/\(∀f,RelO (fs.lookup f) (mA f))/\PySem.Within mA (fs.map (·.1))/\fs.length<=1000/\H dx=some (.own a):=by obtain⟨d,z,ne,ob,mA,n,r,q⟩:=(show ObjOk P w H h a (.ins C dx fs) from hok a _ e);exact⟨mA,⟨ob,n,ne⟩,r,q,z,d⟩
end
structure Cls(K:W.Frag)(C:Addr):Prop where
 pg:W.plainGet K C Str.empty=true
 hd:W.hasDictIn K C=true
 po:W.plainOver K C=true
 sa:W.findIn K (.ref C) "__setattr__"=some (some (.builtin "object.__setattr__"))
def Cls.get{K:W.Frag}{C:Addr}(c:Cls K C)(f:Str):W.plainGet K C f=true:=c.pg
section
variable{H:Hp}
inductive TyOf(K:W.Frag)(H:Hp):V->Value->Prop where
 |non:TyOf K H .non (.type "NoneType")
 |bl (x:Bool):TyOf K H (.bl x) (.type "bool")
 |int (i:Int):TyOf K H (.int i) (.type "int")
 |str (x:Str):TyOf K H (.str x) (.type "str")
 |flt (x:UInt64):TyOf K H (.flt x) (.type "float")
 |lst {a:Addr}{xs:List V} (e:H a=some (.lst xs)):TyOf K H (.ref a) (.type "list")
 |frz {a:Addr}{o:Obj}{xs:List V} (e:H a=some (.frz o (.lst xs))):TyOf K H (.ref a) (.type "list")
 |tup {a:Addr}{xs:List V} (e:H a=some (.tup xs)):TyOf K H (.ref a) (.type "tuple")
 |dK {a:Addr}{kvs:List (Key×V)} (e:H a=some (.dK kvs)):TyOf K H (.ref a) (.type "dict")
 |dT {a:Addr}{kvs:List (List Key×V)} (e:H a=some (.dT kvs)):TyOf K H (.ref a) (.type "dict")
 |ins {a C dx:Addr}{fs:List (Str×V)} (e:H a=some (.ins C dx fs)) (cl:Cls K C) (ha:W.findIn K (.ref C) "__class__"=some (some (.builtin "object.__class__")))
  (hn:W.specialIn K (.builtin "object.__class__") "__get__"=some (some (.builtin "getset_descriptor.__get__"))) (htk:W.takesIn K (.builtin "object.__class__")=some true)
  (hm:W.mroIn K C (.type "object")=some true):TyOf K H (.ref a) (.ref C)
end
structure Room(k:Nat)(A:Around):Prop where
 hd:A.handled=none
 dp:A.depth+3*k+5<recursionLimit
 un:A.units+16*k+200<cLine
def Room.mono(r:Room k A)(h:j<=k):Room j A:=⟨r.hd,by have:=r.dp;omega,by have:=r.un;omega⟩
def Room.deeper(r:Room (k+1) A)(env:Env):Room k (A.deeper env):=
 ⟨r.hd,by have:=r.dp;show A.depth+1+3*k+5<_;omega,by have:=r.un;show A.units+3+16*k+200<_;omega⟩
def Room.depth(r:Room k A):A.depth<recursionLimit:=by have:=r.dp;omega
def Room.units(r:Room k A):A.units+64<cLine:=by have:=r.un;omega
def tNil:TA:=λ_ H Q=>Q [] H
def LQ(ta:TE)(tr:TA):TA:=λσ H Q=>ta σ H λx H1=>tr σ H1 λxs H2=>Q (x::xs) H2
section
variable{X:Cx}{e:Expr}{es:List Expr}{te:TE}{t:TA}{pos:Pos}
def JK:PA X [] tNil:=λ_ _ _ _ H Q I h=>Pe ⟨[],H,I,.nil,h⟩
def FQ(ha:PE X e te)(hr:PA X es t)(hs:starEach (e::es) X.env=(false,eval e X.env)::starEach es X.env):PA X (e::es) (LQ te t):=by intro pos pins s σ H Q I h;rw[hs];show wpAny _ _ (spliced ((false,eval e X.env)::backTo pos (starEach es X.env))) _ _ s;refine OO (thn (ha pins s σ H _ I h) λu s1 zz=>exA zz λx H1 I1 r1 q1=>?_);exact thn (hr pos pins s1 σ H1 _ I1 q1) λus s2 zz=>exA zz λxs H2 I2 r2 q2=>⟨x::xs,H2,I2,.cons r1 r2,q2⟩
def tTup(t:TA):TE:=λσ H Q=>t σ H λxs H1=>xs.length<=sizeLine/\∀p,H1 p=none->Q (.ref p) (upd H1 p (.tup xs))
def tLst(t:TA):TE:=λσ H Q=>t σ H λxs H1=>xs.length<=sizeLine/\∀p,H1 p=none->Q (.ref p) (upd H1 p (.lst xs))
def J5{x1}(h:PA X es t):PE X (.Tuple es x1 pos) (tTup t):=by intro pins s σ H Q I hq;refine wpAny_Tuple_spliced (thn (h pos pins s σ H _ I hq) λus s1 ⟨xs,H1,I1,r,z,q⟩=>⟨by rw[<- r.length];exact z,?_⟩);have hf:H1 s1.heap.objs.size=none:=I1.hok.fresh (t_ _);refine⟨.ref s1.heap.objs.size,upd H1 s1.heap.objs.size (.tup xs),I1.laid (t':=s1.toks) (λb u e=>r_ _ e) (t_ _) ?_,rfl,q _ hf⟩;exact⟨z,us,r,⟨_,Em _ rfl,rfl,_,rfl⟩⟩
def Jt(h:PA X es t):PE X (.List es pos) (tLst t):=by intro pins s σ H Q I hq;refine wpAny_List_spliced (thn (h pos pins s σ H _ I hq) λus s1 ⟨xs,H1,I1,r,z,q⟩=>⟨by rw[<- r.length];exact z,?_⟩);have hf:H1 s1.heap.objs.size=none:=I1.hok.fresh (t_ _);refine⟨.ref s1.heap.objs.size,upd H1 s1.heap.objs.size (.lst xs),I1.laid (t':=s1.toks) (λb u e=>r_ _ e) (t_ _) ?_,rfl,q _ hf⟩;exact⟨z,us,0,r,Em _ rfl⟩
end
abbrev Sp:=List V->Hp->VK->XK->Prop
abbrev CXT:=List Env->Hp->Shared->XK->Value->Shared->Prop
structure Env0(P:Program)(w:World)(K:W.Frag)(mg:Qt)(base:Heap)(A:Around)(outer:List Env)(s:Shared)(H:Hp):Prop where
 frames:A.frames=some outer
 mod:Mod K mg base
 bs:∀b o,base.get? b=some o->s.heap.get? b=some o/\H b=none
 bsz:base.objs.size<=s.heap.objs.size
 funs:s.heap.FunFrames base outer
 frf:∀b∈frs outer,H b=none
 hok:HOk P w H s.heap
 bare:AllBare s.gens
def CE(outer:List Env)(P:Program)(w:World)(H:Hp)(s:Shared)(Q:VK)(u:Value)(s':Shared):Prop:=
 ∃v H',s'.os=s.os/\AllBare s'.gens/\Un (frs outer) [] H H' s.heap s'.heap/\HOk P w H' s'.heap/\RelV v u/\Q v H'
def CR(CX:CXT)(outer:List Env)(P:Program)(w:World)(H:Hp)(s:Shared)(Q:VK)(E:XK)(r:Result)(s':Shared):Prop:=
 match r with
 |.ok (.ret u)=>CE outer P w H s Q u s'
 |.ok _=>False
 |.error e=>CX outer H s E e s'
structure FnOk(P:Program)(w:World)(K:W.Frag)(mg:Qt)(base:Heap)(CX:CXT)(k:Nat)(f:Addr)(fd:FuncData)(ps:List Str)(sp:Sp):Prop where
 len:∀vs H Q E,sp vs H Q E->vs.length=ps.length
 run:∀(A:Around) (outer:List Env) (s:Shared) (H:Hp) (args:Args) (us:List Value) (vs:List V) (Q:VK) (E:XK),Room k A->Env0 P w K mg base A outer s H->BindsTo s fd args (ps.zip us)->Vals vs us->sp vs H Q E->
  codeAny (model P w) A (.call (.ref f) args) (CR CX outer P w H s Q E) s
def FnOk.imp{P:Program}{w:World}{K:W.Frag}{mg:Qt}{base:Heap}{CX:CXT}{k:Nat}{f:Addr}{fd:FuncData}{ps:List Str}{sp sp':Sp}(F:FnOk P w K mg base CX k f fd ps sp)
 (h:∀vs H Q E,sp' vs H Q E->sp vs H Q E):FnOk P w K mg base CX k f fd ps sp':=
 ⟨λvs H Q E q=>F.len vs H Q E (h _ _ _ _ q),λA outer s H args us vs Q E hr he hb hv hs=>F.run A outer s H args us vs Q E hr he hb hv (h _ _ _ _ hs)⟩
section
variable{X:Cx}{pins:Qu}{σ:St}{H:Hp}{s s':Shared}
def Inv.env0(I:Inv X pins σ H s):Env0 X.prog X.w X.K X.mg X.base X.A X.stack s H:=
 ⟨I.ok.frames,I.ok.mod,I.bs,Nu I.ok.bsz I.sz,I.stack,I.stkFree,I.hok,I.bare⟩
def Inv.after(I:Inv X pins σ H s)(h:CE X.stack X.prog X.w H s Q u s'):EP X pins σ Q u s':=by obtain⟨v,H',os,bare,un,hok,r,q⟩:=h;obtain⟨hh,g,d,t,os'⟩:=s';obtain rfl:os'=s.os:=os;exact⟨v,H',I.call (h':=hh) (g':=g) (d':=d) (t':=t) (ch:=[]) un hok bare (λb z=>absurd z (by simp)),r,q⟩
end
def Binds(K:W.Frag)(fd:FuncData)(ps:List Str)(ds:List Value):Prop:=
 ∀(s:Shared) (us:List Value),K.In s.heap->(us++ds).length=ps.length->BindsTo s fd ⟨us,[]⟩ (ps.zip (us++ds))
def Binds.all{K:W.Frag}{fd:FuncData}{ps:List Str}(h:∀us:List Value,us.length=ps.length->bindArgs fd ⟨us,[]⟩=pure (ps.zip us)):Binds K fd ps []:=λs us _ hl=>by rw[Ny] at hl ⊢;exact .of_eq (h us hl)
def sW(CX:CXT)(X:Cx)(E:XK):Prop:=∀(pins:Qu) (σ:St) (H:Hp) (s:Shared) (e:Value) (s':Shared),Inv X pins σ H s->CX X.stack H s E e s'->X.xe e s'
structure FnScope(N P:List Str)(sc:Scope):Prop where
 kind:sc.kind=.function
 co:sc.isCoroutine=false
 gen:sc.isGenerator=false
 nd:N.Nodup
 pre:N.take P.length=P
 par:∀x∈P,sc.names.lookup x=some .local\/sc.names.lookup x=some .cell
 nofree:∀y∈sc.names,y.2 ≠ .free
theorem o8{kindOf:Str->Option NameKind}{x:Str}:∀{binds:List (Str×Value)}{m:Qt},(∀v,(x,v)∉binds)->bindL kindOf binds m x=m x
 | [],_,_=>rfl
 |
  (n,v)::r,m,h=>by
  unfold bindL;rw[o8 λw hw=>h w (q_ _ hw)];split
  .have:x≠n:=by rintro rfl;exact h v s_
   simp [this]
  .rfl
theorem o7{kindOf:Str->Option NameKind}{x:Str}:∀{binds:List (Str×Value)}{m:Qt},(∀v,(x,v)∉binds)->bindC kindOf binds m x=m x
 | [],_,_=>rfl
 |
  (n,v)::r,m,h=>by
  unfold bindC;rw[o7 λw hw=>h w (q_ _ hw)];split
  .rfl
  .have:x≠n:=by rintro rfl;exact h v s_
   simp [this]
theorem pz{kindOf:Str->Option NameKind}{x:Str}{v:Value}:∀{P:List Str}{vs:List Value}{i:Nat}{m:Qt},P.Nodup->P[i]?=some x->vs[i]?=some v->kindOf x=some .local->
 bindL kindOf (P.zip vs) m x=some v
 | [],_,_,_,_,h,_,_=>by simp at h
 |_::_,[],_,_,_,_,h,_=>by simp at h
 |
  p::P,w::vs,0,m,nd,h1,h2,hk=>by
  simp at h1 h2;subst h1;subst h2;show bindL kindOf ((p,w)::P.zip vs) m p=_;unfold bindL;rw[o8 λv hv=>(O8.mp nd).1 (List.of_mem_zip hv).1,if_pos hk];simp
 |
  p::P,w::vs,i+1,m,nd,h1,h2,hk=>by
  show bindL kindOf ((p,w)::P.zip vs) m x=_;unfold bindL;exact pz (i:=i) (O8.mp nd).2 (by simpa using h1) (by simpa using h2) hk
theorem pB{kindOf:Str->Option NameKind}{x:Str}{v:Value}:∀{P:List Str}{vs:List Value}{i:Nat}{m:Qt},P.Nodup->P[i]?=some x->vs[i]?=some v->kindOf x≠some .local->
 bindC kindOf (P.zip vs) m x=some v
 | [],_,_,_,_,h,_,_=>by simp at h
 |_::_,[],_,_,_,_,h,_=>by simp at h
 |
  p::P,w::vs,0,m,nd,h1,h2,hk=>by
  simp at h1 h2;subst h1;subst h2;show bindC kindOf ((p,w)::P.zip vs) m p=_;unfold bindC;rw[o7 λv hv=>(O8.mp nd).1 (List.of_mem_zip hv).1,if_neg hk];simp
 |
  p::P,w::vs,i+1,m,nd,h1,h2,hk=>by
  show bindC kindOf ((p,w)::P.zip vs) m x=_;unfold bindC;exact pB (i:=i) (O8.mp nd).2 (by simpa using h1) (by simpa using h2) hk
noncomputable def gm (N:List Str) (vs:List V):St:=vs.map some++List.replicate (N.length-vs.length) none
noncomputable def eF (CX:CXT) (P:Program) (w:World) (K:W.Frag) (mg:Qt) (base:Heap) (N:List Str) (qual:Str) (scope:Scope) (f:Addr) (cd:Value) (A:Around) (outer:List Env) (s:Shared) (H:Hp) (E:XK):Cx where
 prog:=P
 w:=w
 K:=K
 mg:=mg
 base:=base
 A:=A.deeper (envOfC qual scope s.heap.objs.size f cd)
 N:=N
 s₀:=s
 H₀:=H
 env:=envOfC qual scope s.heap.objs.size f cd
 outer:=outer
 stack:=envOfC qual scope s.heap.objs.size f cd::outer
 ex:=[]
 calm:=true
 fn:=λ_=>true
 pn:=[]
 xe:=λe s'=>wpAny (model P w) (A.deeper (envOfC qual scope s.heap.objs.size f cd)) (leaving (envOfC qual scope s.heap.objs.size f cd) e) (λ_ s''=>CX outer H s E e s'') (λe' s''=>CX outer H s E e' s'') s'
def ue{sc:Scope}{n:Nat}{x:Str}(h:sc.names.lookup x=some .cell):∃c,(cellsFrom n sc.names []).lookup x=some c:=by have q:=W.cellsFrom_some sc.names n [] (.inl h);exact Oa.mp q
def Ar{CX:CXT}{P:Program}{w:World}{K:W.Frag}{mg:Qt}{base:Heap}{N ps:List Str}{qual:Str}{scope:Scope}{f:Addr}{cd:Value}{A:Around}{outer:List Env}{s s1:Shared}{H:Hp}{E:XK}{us:List Value}{vs:List V}
 (S:FnScope N ps scope) (hd:A.handled=none) (e0:Env0 P w K mg base A outer s H) (hl:vs.length=ps.length) (r:Vals vs us)
 (x:InCallC s s.heap.objs.size (bindL (envOfC qual scope s.heap.objs.size f cd).kindOf (ps.zip us) λ_=>none) (cellsFrom (s.heap.objs.size+1) scope.names []) (bindC (envOfC qual scope s.heap.objs.size f cd).kindOf (ps.zip us) λ_=>none) s1):
 Inv (eF CX P w K mg base N qual scope f cd A outer s H E) [] (gm N vs) H s1:=by
 have hpl:ps.length<=N.length:=by have:=NC List.length S.pre;rw[NI] at this;omega
 obtain⟨h1,tk,rfl,hk⟩:=x.done;have noA:∀b:Addr,b∉(eF CX P w K mg base N qual scope f cd A outer s H E).ex:=λb z=>absurd (show b∈([]:List Addr) from z) (by simp);refine⟨⟨e0.mod,S.kind,rfl,rfl,t_ _,λy z c h1 h2=>?_,λy hy=>?_,λy c _ h=>?_,λ_=>hd,Around.frames_deeper e0.frames,.inr ⟨rfl,rfl⟩,λb z=>absurd z (noA b),e0.bs,e0.bsz,λb _ _=>noA b,λb z=>absurd z (noA b),e0.funs,e0.frf⟩,
  rfl,e0.bare,Un.kept hk,⟨_,x.toInCall.ns,λi y v h1 h2 h3=>?_⟩,λy c h=>⟨_,x.cell y c h⟩,e0.hok.fresh (t_ _),λy c h=>?_,λp hp=>absurd (show p∈([]:Qu) from hp) (by simp),e0.hok.kept hk,?_⟩
 .exact name_of_addr x.apart (Ot h1) (Ot h2)
 .have hy:scope.names.lookup y=some .cell\/scope.names.lookup y=some .free:=hy;rcases hy with hy |hy
  .exact ue hy
  .exact absurd rfl (S.nofree _ (Ot hy))
 .exact O4 (x.above y c (Ot h))
 .have hi:i<vs.length:=by
   unfold gm at h2;by_cases hi:i<vs.length
   .exact hi
   .rw[OZ (by simpa using hi)] at h2;rw[Om] at h2;split at h2 <;> cases h2
  have ha:vs[i]?=some v:=by
   unfold gm at h2;rw[NL (by simpa using hi),Nm] at h2;cases e:vs[i]? with
   |none=>rw[e] at h2;cases h2
   |some a=>rw[e] at h2;cases h2;rfl
  obtain⟨u,hu,rv⟩:=r.get ha;have hp:ps[i]?=some y:=by rw[<- S.pre,List.getElem?_take_of_lt (by omega)];exact h1
  have ndP:ps.Nodup:=by rw[<- S.pre];exact S.nd.sublist (List.take_sublist _ _)
  refine⟨u,rv,?_⟩;rcases S.par y (Oi hp) with k |k
  .exact .inl ⟨k,pz ndP hp hu k⟩
  .obtain⟨c,e⟩:=ue (n:=s.heap.objs.size+1) k;refine .inr ⟨.inl k,c,e,?_⟩;have q:=x.cell y c e;rw[pB ndP hp hu (by show scope.names.lookup y≠_;rw[k];decide)] at q;exact q
 .exact e0.hok.fresh (O4 (x.above y c (Ot h)))
 .unfold gm;show _=N.length;rw[H_,p_,OU];omega
def D7{CX:CXT}{P:Program}{w:World}{K:W.Frag}{mg:Qt}{base:Heap}{k:Nat}{f:Addr}{name qual:Str}{params:Arguments}{body:List Stmt}{scope:Scope}{dV kV doc pm cdv ct oc:Value}{an od:Option Addr}
 {osl:Array (Option Value)}{N ps:List Str}{sp:Sp} (lk:K.lookup f=some ⟨oc,od,.func (W.fnOf name qual params body scope dV kV doc pm an cdv ct),osl⟩) (n_:W.codeIn K cdv qual=true) (S:FnScope N ps scope)
 (len:∀vs H Q E,sp vs H Q E->vs.length=ps.length)
 (j_:∀(A:Around) (outer:List Env) (s:Shared) (H:Hp) (vs:List V) (Q:VK) (E:XK),Room k (A.deeper (envOfC qual scope s.heap.objs.size f cdv))->sp vs H Q E->
  ∃t,PSs (eF CX P w K mg base N qual scope f cdv A outer s H E) body t/\t { nx:=λ_ H'=>Q .non H',rt:=Q } (gm N vs) H):
 FnOk P w K mg base CX (k+1) f (W.fnOf name qual params body scope dV kV doc pm an cdv ct) ps sp:=by
 refine⟨len,λA outer s H args us vs Q E hr e0 hb r hsp=>?_⟩;have hl:=len _ _ _ _ hsp;have KX:K.In s.heap:=e0.mod.kin.keeps λb o e=>(e0.bs b o e).1;have lim:s.heap.NoLimit:=e0.mod.nolimit.keeps λb o e=>(e0.bs b o e).1;have hkind:∀y∈ps.zip us,scope.names.lookup y.1=some .local\/(scope.names.lookup y.1=some .cell/\((cellsFrom (s.heap.objs.size+1) scope.names []).lookup y.1).isSome=true):=λ⟨n,v⟩ hy=>by
  rcases S.par n (List.of_mem_zip hy).1 with q |q
  .exact .inl q
  .exact .inr ⟨q,W.cellsFrom_some _ _ _ (.inl q)⟩
 refine codeAny_call_function hr.depth (KX _ _ lk) rfl S.co S.gen rfl (W.codeRec_of KX n_) (hb _ _ _ _ ?_);refine wpAny_newFunctionEnv_cells S.kind hkind λenv he s1 x=>?_;subst he;refine⟨lim.keeps x.toInCall.keep,codeAny_func ?_⟩;obtain⟨t,ht,hq⟩:=j_ A outer s H vs Q E (hr.deeper _) hsp;have I:Inv (eF CX P w K mg base N qual scope f cdv A outer s H E) [] (gm N vs) H s1:=Ar S hr.hd e0 hl r x;refine NG (ht [] s1 (gm N vs) H _ I hq) (λfl s' hs=>?_) λe s' hs=>hs;have d_:∀{σ':St}{H':Hp}{v:V}{u:Value},Inv (eF CX P w K mg base N qual scope f cdv A outer s H E) [] σ' H' s'->RelV v u->Q v H'->CE outer P w H s Q u s':=
  λ{σ' H' v u} J rv q=>⟨v,H',J.os,J.bare,J.base,J.hok,rv,q⟩
 cases fl with
 |ret u=>obtain⟨v,σ',H',J,rv,q⟩:=hs;exact d_ J rv q
 |next=>obtain⟨σ',H',J,q⟩:=hs;exact d_ (v:=V.non) (u:=Value.none) J rfl q
 |brk=>obtain⟨_,_,_,q⟩:=hs;exact False.elim q
 |cont=>obtain⟨_,_,_,q⟩:=hs;exact False.elim q
section
variable{X:Cx}{x:Str}{p pos:Pos}{e:Expr}{es:List Expr}{t:TA}{id T:String}{r:List V->Hp->VK->Prop}
def tCB(r:List V->Hp->VK->Prop)(t:TA):TE:=λσ H Q=>t σ H λvs H1=>r vs H1 Q
def Dq(hc:CallR X (.builtin id) r)(hg:Gl X x)(hm:X.mg x=none)(hv:bootBuiltins x=some (.builtin id))(ha:PA X (e::es) t)(hn:x ≠ "__name__")(hdb:(x==("__debug__" : Str))=false)
 (he:starEach (e::es) X.env=(false,eval e X.env)::starEach es X.env) (hpl:(backTo pos (starEach es X.env)).any (·.1)=false):PE X (.Call (.Name x p) (e::es) [] pos) (tCB r t):=by
 intro pins s σ H Q I h;refine NV (cL I hg hm hv ?_ hn hdb);exact PyProof.Rows.callWith_builtin1 (thn (ha pos pins s σ H _ I h) λus s1 zz=>exA zz λvs H1 I1 r1 q1=>hc pins s1 σ H1 vs us Q I1 r1 q1) he hpl
def yF(hc:CallR X (.type T) r)(hg:Gl X x)(hm:X.mg x=none)(hv:bootBuiltins x=some (.type T))(ha:PA X (e::es) t)(hn:x ≠ "__name__")(hdb:(x==("__debug__" : Str))=false)
 (he:starEach (e::es) X.env=(false,eval e X.env)::starEach es X.env) (hpl:(backTo pos (starEach es X.env)).any (·.1)=false):PE X (.Call (.Name x p) (e::es) [] pos) (tCB r t):=by
 intro pins s σ H Q I h;refine NV (cL I hg hm hv ?_ hn hdb);exact Nz (thn (ha pos pins s σ H _ I h) λus s1 zz=>exA zz λvs H1 I1 r1 q1=>hc pins s1 σ H1 vs us Q I1 r1 q1) he hpl
def xW(hc:CallR X (.type T) r)(hg:Gl X x)(hm:X.mg x=none)(hv:bootBuiltins x=some (.type T))(hn:x ≠ "__name__")(hdb:(x==("__debug__" : Str))=false):
 PE X (.Call (.Name x p) [] [] pos) (tCB r tNil):=by
 intro pins s σ H Q I h;refine NV (cL I hg hm hv ?_ hn hdb);exact PyProof.Rows.callWith_type0 (hc pins s σ H [] [] Q I .nil h)
end
end L2
namespace HT
open PySem PyProof.Rows
section
variable{prog:Program}{w:World}{A:Around}{E:Qv}{s:Shared}
def cat_tup(ht:IsTup s.heap t vs.toArray)(hb:IsTup s.heap b ws.toArray)(hv:vs≠[])
 (h1:ws=[]->Q (.ref t) s) (h2:ws≠[]->Q (.ref s.heap.objs.size) { s with heap:=s.heap.push { cls:=.type "tuple",data:=.seq (vs++ws).toArray } })
 (hsz:vs.length+ws.length<=sizeLine):wpAny (model prog w) A (binaryOp .Add (.ref t) (.ref b)) Q E s:=by
 obtain⟨⟨cls,dd,data,sl⟩,ho,hc,n,hd⟩:=id ht;obtain⟨⟨cls2,dd2,data2,sl2⟩,ho2,hc2,n2,hd2⟩:=id hb;simp only at hc hd hc2 hd2;subst hc hd hc2 hd2;have e:vs.toArray++ws.toArray=(vs++ws).toArray:=by simp
 by_cases hw:ws=[]
 .exact concat_meets ⟨_,ho,rfl⟩ ⟨_,ho2,rfl⟩ noFill_tuple_add seq_tuple_add PL PH (PC _ _)
   (tuple_addW1 t b vs.toArray ws.toArray n n2 dd dd2 sl sl2 (by simpa using hv) (by simp [hw])) ⟨ho,ho2,h1 hw⟩
 .refine concat_meets ⟨_,ho,rfl⟩ ⟨_,ho2,rfl⟩ noFill_tuple_add seq_tuple_add PL PH (PC _ _)
   (tuple_addW2 t b vs.toArray ws.toArray n n2 dd dd2 sl sl2 (by simpa using hv) (by simpa using hw) (by rw[A_,A_];exact hsz)) ⟨ho,ho2,?_⟩
  rw[e];exact h2 hw
noncomputable def sIx (n d:Nat):Option Int->Nat
 |none=>d
 |some v=>if v<0 then (v+(n:Int)).toNat else min v.toNat n
def sIx_none(n d:Nat):sIx n d none=d:=rfl
def sIx_nat(n d k:Nat):sIx n d (some (k:Int))=min k n:=by show (if (k:Int)<0 then ((k:Int)+(n:Int)).toNat else min (k:Int).toNat n)=min k n;rw[if_neg (by omega),NJ]
def JH(n d:Nat)(hd:d<=n)(o:Option Int):sIx n d o<=n:=by
 cases o with
 |none=>exact hd
 |
  some v=>
  show (if v<0 then (v+(n:Int)).toNat else min v.toNat n)<=n;by_cases hv:v<0
  .rw[if_pos hv];omega
  .rw[if_neg hv];exact Nat.min_le_right _ _
def v8(v:Int)(n d:Nat):(if v<0 then max (v+(n:Int)) 0 else min v (n:Int))=((sIx n d (some v):Nat):Int):=by
 show (if v<0 then max (v+(n:Int)) 0 else min v (n:Int))=(((if v<0 then (v+(n:Int)).toNat else min v.toNat n):Nat):Int);by_cases hv:v<0
 .simp only[if_pos hv];omega
 .simp only[if_neg hv];omega
def yd(lo hi:Option Int)(n:Nat):Builtin.Slice.sliceAdjust lo hi 1 (n:Int)=(((sIx n 0 lo:Nat):Int),((sIx n n hi:Nat):Int)):=by
 have h1:¬ ((1:Int)<0):=by omega
 unfold Builtin.Slice.sliceAdjust;simp only[h1,OM];refine Prod.ext ?_ ?_
 .cases lo with
  |none=>rfl
  |some v=>exact v8 v n 0
 .cases hi with
  |none=>rfl
  |some v=>exact v8 v n n
def xG(i j:Nat):Builtin.Slice.slicePlaces (i:Int) (j:Int) 1=j-i:=by
 unfold Builtin.Slice.slicePlaces;have h1:(1:Int)>0:=by omega
 simp only[h1,OW,Int.ediv_one];split <;> omega
def m8(p:IsPart v o)(h:Q o s):wpAny (model prog w) A (Builtin.Slice.slicePartIndex v) Q E s:=by
 cases p with
 |none=>exact slicePart_none h
 |int i t=>exact slicePart_int h
def lC{sl:Addr}{vl vu:Value}{lo hi:Option Int}{n:Nat}{Q:Int×Int×Nat->Shared->Prop}(hs:s.heap.IsSliceOf sl vl vu .none)(pl:IsPart vl lo)(pu:IsPart vu hi)
 (h:Q (((sIx n 0 lo:Nat):Int),1,sIx n n hi-sIx n 0 lo) s):wpAny (model prog w) A (Builtin.Slice.sliceApplied (.ref sl) (pure (n:Int))) Q E s:=by
 obtain⟨os,hos,hcs,hds⟩:=id hs;unfold Builtin.Slice.sliceApplied Builtin.Slice.sliceFields;refine o_ (o_ (N2 hos hds (x:=vl) rfl (o_ (N2 hos hds (x:=vu) rfl (o_ (N2 hos hds (x:=.none) rfl (z_ ?_)))))));refine o_ (slicePart_none ?_);show wpAny _ _ (if ((1:Int)==0)=true then _ else _) _ _ s;rw[if_neg (by decide)];refine o_ (m8 pl (o_ (m8 pu (o_ (z_ ?_)))));show wpAny _ _ (match Builtin.Slice.sliceAdjust lo hi 1 (n:Int) with |(lo,hi)=>pure (lo,(1:Int),Builtin.Slice.slicePlaces lo hi 1)) _ _ s;rw[yd lo hi n];show wpAny _ _ (pure (((sIx n 0 lo:Nat):Int),(1:Int),Builtin.Slice.slicePlaces ((sIx n 0 lo:Nat):Int) ((sIx n n hi:Nat):Int) 1)) _ _ s;rw[xG];exact z_ h
def BB(xs:Array Value)(i k:Nat):((List.range k).filterMap λ(m:Nat)=>xs[((i:Int)+(m:Int)*1).toNat]?).toArray=((xs.toList.drop i).take k).toArray:=by
 have e:(λ(m:Nat)=>xs[((i:Int)+(m:Int)*1).toNat]?)=λm=>xs[i+m]?:=by
  funext m;have:((i:Int)+(m:Int)*1).toNat=i+m:=by omega
  rw[this]
 rw[e]
 have:=pick_run xs i k
 rw[List.filterMap_map] at this;have e2:((λx=>xs[x]?) ∘ λx=>i+x)=λm=>xs[i+m]?:=rfl;rw[e2] at this;rw[this]
def getItem_tuple_cut{t sl:Addr}{items:Array Value}{vl vu:Value}{lo hi:Option Int}{Q:Qv}(ht:IsTup s.heap t items)(hs:s.heap.IsSliceOf sl vl vu .none)(pl:IsPart vl lo)(pu:IsPart vu hi)
 (hw:¬ (sIx items.size 0 lo=0/\sIx items.size items.size hi=items.size))
 (h:Q (.ref s.heap.objs.size) { s with heap:=s.heap.push { cls:=.type "tuple",data:=.seq ((items.toList.drop (sIx items.size 0 lo)).take (sIx items.size items.size hi-sIx items.size 0 lo)).toArray } })
 (hsz:items.size<=sizeLine):wpAny (model prog w) A (getItem (.ref t) (.ref sl)) Q E s:=by
 have htake:sizeOk (.seq ((items.toList.drop (sIx items.size 0 lo)).take (sIx items.size items.size hi-sIx items.size 0 lo)).toArray):=by show ((items.toList.drop (sIx items.size 0 lo)).take (sIx items.size items.size hi-sIx items.size 0 lo)).toArray.size<=sizeLine;rw[A_,NI,N4,NR];omega
 have hj:sIx items.size items.size hi<=items.size:=JH _ _ (t_ _) hi;obtain⟨os,hos,hcs,hds⟩:=id hs;have hTs:s.TypeIs (.ref sl) "slice":=⟨os,hos,hcs⟩;unfold getItem;try with_reducible refine Og ?_
 first |refine o_ (z_ ?_) |skip
 refine o_ (wpAny_sequenceKey ht.typeIs (by decide) ?_);refine o_ (OH (name:=Str.ofString "__getitem__") ht.typeIs PyProof.Rows.slot_tuple_getitem
  (Pk PyProof.Rows.slot_tuple_getitem ht.typeIs entry_tuple_getitem ?_ (args_tuple_getitem _ _)))
 show wpAny _ _ (Builtin.Tuple.tupleItemsOf (.ref t) >>= _) _ _ s;refine o_ (tupleItemsOf_ ht ?_);refine o_ (wpAny_typeOf hTs ?_);rw[if_pos (by decide)];refine o_ (lC hs pl pu ?_);have hno:¬ ((((sIx items.size 0 lo:Nat):Int)==0&&(1:Int)==1&&(sIx items.size items.size hi-sIx items.size 0 lo)==items.size)=true):=by intro q;rw[u_,u_] at q;have q1:((sIx items.size 0 lo:Nat):Int)=0:=eq_of_beq q.1.1;have q2:sIx items.size items.size hi-sIx items.size 0 lo=items.size:=eq_of_beq q.2;exact hw ⟨by omega,by omega⟩
 show wpAny _ _ (if (((sIx items.size 0 lo:Nat):Int)==0&&(1:Int)==1&&(sIx items.size items.size hi-sIx items.size 0 lo)==items.size)=true then _ else _) _ _ s;rw[if_neg hno,BB];first
  |exact o_ (m:=Builtin.Tuple.tupleExact _) (NX (z_ ⟨_,rfl,z_ h⟩) htake)
  |exact o_ (m:=Builtin.Tuple.tupleExact _) (NX (o_ (z_ (z_ ⟨_,rfl,z_ h⟩))) htake)
  |exact o_ (o_ (m:=Builtin.Tuple.tupleExact _) (NX (z_ (z_ ⟨_,rfl,z_ h⟩)) htake))
  |exact o_ (o_ (m:=Builtin.Tuple.tupleExact _) (NX (z_ ⟨_,rfl,z_ h⟩) htake))
end
end HT
namespace L2
open PySem PySem.Spec PyProof.Rows
abbrev TO:=St->Hp->(Option Int->Hp->Prop)->Prop
def PO(X:Cx)(e:Option Expr)(t:TO):Prop:=
 ∀
  (pins:Qu) (s:Shared) (σ:St) (H:Hp) (Q:Option Int->Hp->Prop),Inv X pins σ H s->t σ H Q->
  wpAny (model X.prog X.w) X.A (evalPart e X.env) (λu s'=>∃o H',Inv X pins σ H' s'/\IsPart u o/\Q o H') X.xe s
def Gd:TO:=λ_ H Q=>Q none H
def KY(t:TE):TO:=λσ H Q=>t σ H λx H1=>∃i,x=.int i/\Q (some i) H1
section
variable{X:Cx}{e:Expr}{te:TE}{lo hi:Option Expr}{tl th:TO}{pos p2:Pos}
def EB:PO X none Gd:=by intro pins s σ H Q I h;rw[evalPart_none];exact z_ ⟨none,H,I,.none,h⟩
def F5(h:PE X e te):PO X (some e) (KY te):=by intro pins s σ H Q I hw;rw[evalPart_some];refine thn (h pins s σ H _ I hw) λu s1 zz=>exA zz λx H1 I1 r1 q1=>?_;obtain⟨i,rfl,q⟩:=q1;obtain⟨t,rfl⟩:=r1;exact⟨some i,H1,I1,.int i t,q⟩
def SlR(X:Cx)(r:V->Option Int->Option Int->Hp->VK->Prop):Prop:=
 ∀
  (pins:Qu) (s:Shared) (σ:St) (H:Hp) (x:V) (v vl vu:Value) (lo hi:Option Int) (sl:Addr) (Q:VK),Inv X pins σ H s->RelV x v->s.heap.IsSliceOf sl vl vu .none->IsPart vl lo->IsPart vu hi->r x lo hi H Q->
  ∃T id,typeLookup (.type T) "__getitem__"=pure (some (.builtin id))/\s.TypeIs v T/\wpAny (model X.prog X.w) X.A (getItem v (.ref sl)) (EP X pins σ Q) X.xe s
def SlR.or(h:SlR X r)(h':SlR X r'):SlR X (λx lo hi H Q=>r x lo hi H Q\/r' x lo hi H Q):=by
 intro pins s σ H x v vl vu lo hi sl Q I rx hs pl pu q;rcases q with q |q
 .exact h pins s σ H x v vl vu lo hi sl Q I rx hs pl pu q
 .exact h' pins s σ H x v vl vu lo hi sl Q I rx hs pl pu q
def tSl(r:V->Option Int->Option Int->Hp->VK->Prop)(te:TE)(tl th:TO):TE:=λσ H Q=>te σ H λx H1=>tl σ H1 λl H2=>th σ H2 λu H3=>r x l u H3 Q
def CC(hr:SlR X r)(he:PE X e te)(hl:PO X lo tl)(hu:PO X hi th):PE X (.Subscript e (.Slice lo hi none p2) pos) (tSl r te tl th):=by intro pins s σ H Q I h;refine Subscript_ (thn (he pins s σ H _ I h) λv s1 zz=>exA zz λx H1 I1 r1 q1=>?_);refine wpAny_Slice (thn (hl pins s1 σ H1 _ I1 q1) λvl s2 ⟨l,H2,I2,pl,q2⟩=>thn (hu pins s2 σ H2 _ I2 q2) λvu s3 ⟨u,H3,I3,pu,q3⟩=>?_);rw[evalPart_none];refine z_ ?_;have I4:Inv X pins σ H3 { s3 with heap:=s3.heap.push { cls:=.type "slice",data:=.fields #[vl,vu,.none] } }:=I3.kept (t':=s3.toks) λb ob q=>r_ _ q;obtain⟨T,id,hT,ht,hg⟩:=hr pins { s3 with heap:=s3.heap.push { cls:=.type "slice",data:=.fields #[vl,vu,.none] } } σ H3 x v vl vu l u s3.heap.objs.size Q I4 r1 (Heap.IsSliceOf.new ..) pl pu q3;show wpAny (model X.prog X.w) X.A (subscriptTail e (.Slice lo hi none p2) v (.ref s3.heap.objs.size)) (EP X pins σ Q) X.xe { s3 with heap:=s3.heap.push { cls:=.type "slice",data:=.fields #[vl,vu,.none] } };exact tail_any (ops:=[.ref s3.heap.objs.size,v]) ht hT hg (by with_unfolding_all rfl)
noncomputable def kj (xs:List V) (lo hi:Option Int):List V:=(xs.drop (HT.sIx xs.length 0 lo)).take (HT.sIx xs.length xs.length hi-HT.sIx xs.length 0 lo)
def lb(xs:List V)(lo hi:Option Int):(kj xs lo hi).length<=xs.length:=by unfold kj;rw[NI,N4];omega
def Cw(K:W.Frag):V->Option Int->Option Int->Hp->VK->Prop:=λx lo hi H Q=>∃a xs,x=.ref a/\SqT K H a xs/\
 ¬ (HT.sIx xs.length 0 lo=0/\HT.sIx xs.length xs.length hi=xs.length)/\∀p,H p=none->Q (.ref p) (upd H p (.tup (kj xs lo hi)))
def HE:SlR X (Cw X.K):=by
 intro pins s σ H x v vl vu lo hi sl Q I rx hs pl pu h;obtain⟨a,xs,rfl,hx,hw,q⟩:=h;cases rx;obtain⟨its,r,ht,hz⟩:=I.tuple hx;have a_:its.toArray.size=xs.length:=by rw[A_];exact r.length.symm
 refine⟨"tuple",_,PyProof.Rows.slot_tuple_getitem.lookup,ht.typeIs,?_⟩;refine HT.getItem_tuple_cut ht hs pl pu (by rw[a_];exact hw) ?_ (by rw[a_];exact hz);rw[a_];refine⟨.ref s.heap.objs.size,_,I.laid (t':=s.toks) (o:=.tup (kj xs lo hi)) (λb ob q=>r_ _ q) (t_ _) ?_,rfl,q _ (I.hok.fresh (t_ _))⟩;exact⟨Nu (lb xs lo hi) hz,_,(r.drop (HT.sIx xs.length 0 lo)).take (HT.sIx xs.length xs.length hi-HT.sIx xs.length 0 lo),IsTup.new _ _⟩
def qT(K:W.Frag):R2:=λx y H Q=>∃a b xs ys,x=.ref a/\y=.ref b/\SqT K H a xs/\SqT K H b ys/\xs≠[]/\xs.length+ys.length<=sizeLine/\
 (ys=[]->Q (.ref a) H)/\(ys≠[]->∀p,H p=none->Q (.ref p) (upd H p (.tup (xs++ys))))
def Vals.nil_iff(r:Vals xs us):us=[] ↔ xs=[]:=by
 cases r with
 |nil=>simp
 |cons _ _=>simp
def FI:OpR X (binaryOp .Add) (qT X.K):=by intro pins s σ H x y v u Q I rx ry h;obtain⟨a,b,xs,ys,rfl,rfl,ha,hb,hx,hz,q1,q2⟩:=h;cases rx;cases ry;obtain⟨its,r1,p1,_⟩:=I.tuple ha;obtain⟨its2,r2,p2,_⟩:=I.tuple hb;refine HT.cat_tup p1 p2 (λz=>hx (r1.nil_iff.mp z)) (λz=>⟨.ref a,H,I,rfl,q1 (r2.nil_iff.mp z)⟩) (λz=>?_) (by rw[<- r1.length,<- r2.length];exact hz);refine⟨.ref s.heap.objs.size,_,I.laid (t':=s.toks) (o:=.tup (xs++ys)) (λb ob q=>r_ _ q) (t_ _) ?_,rfl,q2 (λw=>z (r2.nil_iff.mpr w)) _ (I.hok.fresh (t_ _))⟩;exact⟨by rw[H_];exact hz,_,r1.append r2,IsTup.new _ _⟩
end
noncomputable def ixN (n:Nat) (i:Int):Option Nat:=if 0<=i then (if i<n then some i.toNat else none) else if -(n:Int)<=i then some (i+n).toNat else none
noncomputable def atI {α:Type} (xs:List α) (i:Int):Option α:=(ixN xs.length i).bind λj=>xs[j]?
def vp(h:ixN n i=some j):seqIndex? i n=some j/\j<n/\-(n:Int)<=i/\i<n:=by
 unfold ixN at h;by_cases h0:0<=i
 .rw[if_pos h0] at h;by_cases h1:i<n
  .rw[if_pos h1] at h;have e:i.toNat=j:=G_ h;exact⟨by rw[seqIndex_of h0 h1,e],by omega,by omega,h1⟩
  .rw[if_neg h1] at h;cases h
 .rw[if_neg h0] at h;by_cases h1:-(n:Int)<=i
  .rw[if_pos h1] at h;have e:(i+n).toNat=j:=G_ h;exact⟨by rw[seqIndex_neg (by omega) h1,e],by omega,h1,by omega⟩
  .rw[if_neg h1] at h;cases h
def vH(h:atI xs i=some v):∃j,seqIndex? i xs.length=some j/\xs[j]?=some v/\j<xs.length/\-(xs.length:Int)<=i/\i<xs.length:=by
 unfold atI at h;cases e:ixN xs.length i with
 |none=>rw[e] at h;cases h
 |some j=>rw[e] at h;obtain⟨h1,h2,h3,h4⟩:=vp e;exact⟨j,h1,h,h2,h3,h4⟩
def wu(b:Expr):Prop:=∀o i,subscripted b false o i=operate [o,i] (getItem o i)
def IxR(X:Cx)(r:R2):Prop:=
 ∀
  (value slice:Expr) (pins:Qu) (s:Shared) (σ:St) (H:Hp) (x y:V) (v u:Value) (Q:VK),Inv X pins σ H s->RelV x v->RelV y u->r x y H Q->
  subscripted slice false v u=operate [v,u] (getItem v u)->wpAny (model X.prog X.w) X.A (subscriptTail value slice v u) (EP X pins σ Q) X.xe s
def MtR(X:Cx)(id:String)(r:V->List V->Hp->VK->Prop):Prop:=
 ∀
  (pins:Qu) (s:Shared) (σ:St) (H:Hp) (x:V) (xs:List V) (v:Value) (us:List Value) (Q:VK),Inv X pins σ H s->RelV x v->Vals xs us->r x xs H Q->
  wpAny (model X.prog X.w) X.A (call (.builtin id) (v::us)) (EP X pins σ Q) X.xe s
section
variable{X:Cx}{a b:Expr}{ta tb:TE}{pos:Pos}
def IxR.or(h:IxR X r)(h':IxR X r'):IxR X (λx y H Q=>r x y H Q\/r' x y H Q):=by
 intro value slice pins s σ H x y v u Q I rx ry q hs;rcases q with q |q
 .exact h value slice pins s σ H x y v u Q I rx ry q hs
 .exact h' value slice pins s σ H x y v u Q I rx ry q hs
def Lg(hr:IxR X r)(ha:PE X a ta)(hb:PE X b tb)(hs:wu b):PE X (.Subscript a b pos) (tOp r ta tb):=by intro pins s σ H Q I h;exact Subscript_ (C4 ha hb I h λv u s2 x y H2 I2 rx ry q=>hr a b pins s2 σ H2 x y v u Q I2 rx ry q (hs _ _))
def Bc(K:W.Frag):R2:=λx y H Q=>∃p xs i v,x=.ref p/\y=.int i/\SqL K H p xs/\atI xs i=some v/\Q v H
def BJ(K:W.Frag):R2:=λx y H Q=>∃p xs i v,x=.ref p/\y=.int i/\SqT K H p xs/\atI xs i=some v/\Q v H
def Gb:IxR X (Bc X.K):=by
 intro value slice pins s σ H x y v u Q I rx ry h hs;obtain⟨p,xs,i,z,rfl,rfl,hq,he,q⟩:=h;cases rx;obtain⟨t,rfl⟩:=ry;obtain⟨its,r,pl,hz⟩:=I.list hq;obtain⟨j,h1,h2,h3,h4,h5⟩:=vH he;obtain⟨w,ew,rw'⟩:=r.get h2;have hl:=r.length;have hn:=gX;have d_:EP X pins σ Q w s:=⟨z,H,I,rw',q⟩;by_cases h0:0<=i
 .have hj:i.toNat=j:=by rw[seqIndex_of h0 h5] at h1;exact G_ h1
  exact item_listR pl.isList h0 (by omega) (by rw[hj];simpa using ew) d_ hs
 .have hj:(i+(its.toArray.size:Int)).toNat=j:=by rw[seqIndex_neg (by omega) h4] at h1;rw[A_,<- hl];exact G_ h1
  exact subscriptTail_builtinR (x:=w) pl.isList.typeIs slot_list_getitem.lookup
   (wpAny_getItem_list_neg (Q:=λr s'=>r=w/\EP X pins σ Q r s') pl.isList (by omega) (by rw[A_] <;> omega) (by omega) (by rw[hj];simpa using ew) ⟨rfl,d_⟩) hs
def IU:IxR X (BJ X.K):=by
 intro value slice pins s σ H x y v u Q I rx ry h hs;obtain⟨p,xs,i,z,rfl,rfl,hq,he,q⟩:=h;cases rx;obtain⟨t,rfl⟩:=ry;obtain⟨its,r,pl,hz⟩:=I.tuple hq;obtain⟨j,h1,h2,h3,h4,h5⟩:=vH he;obtain⟨w,ew,rw'⟩:=r.get h2;have hl:=r.length;have hn:=gX;have d_:EP X pins σ Q w s:=⟨z,H,I,rw',q⟩;exact subscriptTail_builtinR (x:=w) pl.typeIs slot_tuple_getitem.lookup
  (getItem_tuple (j:=j) (Q:=λr s'=>r=w/\EP X pins σ Q r s') pl (by omega) (by omega) (by rw[A_,<- hl];exact h1) (by simpa using ew) ⟨rfl,d_⟩) hs
def wH(its:List Value)(n j:Nat)(u:Value):Obj.mapSeq (·.setIfInBounds j u) { cls:=.type "list",data:=.seq its.toArray n }={ cls:=.type "list",data:=.seq (its.set j u).toArray n }:=by simp [Obj.mapSeq]
def Inv.lst(I:Inv X pins σ H s)(h:H p=some (.lst xs)):
 ∃(its:List Value) (n:Nat),Vals xs its/\s.heap.get? p=some { cls:=.type "list",data:=.seq its.toArray n }/\xs.length<=sizeLine:=by
 obtain⟨z,its,n,r,e⟩:=I.hok p _ h;exact⟨its,n,r,e,z⟩
def Inv.lstUpd{pins:Qu}{σ:St}{H:Hp}{s:Shared}{p:Addr}{xs ys:List V}{its its':List Value}{n n':Nat}{f:Obj->Obj}(I:Inv X pins σ H s)(h:H p=some (.lst xs))
 (ho:s.heap.get? p=some { cls:=.type "list",data:=.seq its.toArray n }) (hf:f { cls:=.type "list",data:=.seq its.toArray n }={ cls:=.type "list",data:=.seq its'.toArray n' }) (r:Vals ys its') (hz:ys.length<=sizeLine) (t:Nat):
 Inv X pins σ (upd H p (.lst ys)) { s with heap:=s.heap.update p f,toks:=t }:=by
 have e:(s.heap.update p f).get? p=some { cls:=.type "list",data:=.seq its'.toArray n' }:=by rw[Pg f ho (by rw[hf] <;> rfl),hf]
 refine I.write (x:=p) (e:=p) (by rw[h];trivial) (.inl rfl) (λb u hb q=>(NN _ _ (Ne.symm hb)).trans q) ⟨_,e⟩ ?_;exact⟨hz,its',n',r,e⟩
def Du:V->V->V->Hp->(Hp->Prop)->Prop:=λo i v H Q=>∃p xs k j,o=.ref p/\i=.int k/\H p=some (.lst xs)/\ixN xs.length k=some j/\Q (upd H p (.lst (xs.set j v)))
def A4:xj X Du:=by
 intro pins s σ H o i v ov iv u Q I ro ri rv h;obtain⟨p,xs,k,j,rfl,rfl,hp,hj,q⟩:=h;cases ro;obtain⟨t,rfl⟩:=ri;obtain⟨its,n,r,ho,hz⟩:=I.lst hp;obtain⟨h1,h2,h3,h4⟩:=vp hj;have hl:=r.length;have hn:=gX;have I':Inv X pins σ (upd H p (.lst (xs.set j v))) { s with heap:=s.heap.update p (Obj.mapSeq (·.setIfInBounds j u)) }:=
  I.lstUpd hp ho (wH its n j u) (r.set rv j) (by rw[ND];exact hz) s.toks
 by_cases h0:0<=k
 .have hk:k.toNat=j:=by rw[seqIndex_of h0 h4] at h1;exact G_ h1
  exact W.ki_setAt ho h0 (by omega) (by rw[A_,<- hl];exact h4) (by rw[hk];exact⟨_,I',q⟩)
 .have hk:(k+(its.toArray.size:Int)).toNat=j:=by rw[seqIndex_neg (by omega) h3] at h1;rw[A_,<- hl];exact G_ h1
  exact W.ki_setBack ho (by omega) (by rw[A_,<- hl];exact h3) (by omega) (by rw[hk];exact⟨_,I',q⟩)
def tX(lo hi:Option Int)(n:Nat):(sliceBounds lo hi none n).1=((HT.sIx n 0 lo:Nat):Int)/\(sliceBounds lo hi none n).2.1=((HT.sIx n n hi:Nat):Int)/\(sliceBounds lo hi none n).2.2=1:=by
 refine⟨?_,?_,rfl⟩
 .cases lo with
  |none=>simp [sliceBounds,HT.sIx]
  |
   some i=>
   simp only[sliceBounds,HT.sIx,Option.getD_none,show (1:Int)>0 by decide,OW];by_cases h:i<0
   .simp only[h,OW] <;> omega
   .simp only[h,OM] <;> omega
 .cases hi with
  |none=>simp [sliceBounds,HT.sIx]
  |
   some i=>
   simp only[sliceBounds,HT.sIx,Option.getD_none,show (1:Int)>0 by decide,OW];by_cases h:i<0
   .simp only[h,OW] <;> omega
   .simp only[h,OM] <;> omega
def pP(its:List Value)(lo hi:Option Int):slicePick its.toArray lo hi none=((its.drop (HT.sIx its.length 0 lo)).take (HT.sIx its.length its.length hi-HT.sIx its.length 0 lo)).toArray:=by obtain⟨h1,h2,h3⟩:=tX lo hi its.toArray.size;unfold slicePick;rw[h1,h2,h3];simp only[sliceRange_one,pick_run,A_] <;> rfl
def C2(K:W.Frag):V->Option Int->Option Int->Hp->VK->Prop:=λx lo hi H Q=>∃a xs,x=.ref a/\SqL K H a xs/\∀p,H p=none->Q (.ref p) (upd H p (.lst (kj xs lo hi)))
def Et:SlR X (C2 X.K):=by intro pins s σ H x v vl vu lo hi sl Q I rx hs pl pu h;obtain⟨a,xs,rfl,hx,q⟩:=h;cases rx;obtain⟨its,r,ht,hz⟩:=I.list hx;have a_:=r.length;refine⟨"list",_,slot_list_getitem.lookup,ht.isList.typeIs,?_⟩;refine wpAny_getItem_list_slice ht.isList hs pl pu .none (by simp) ?_ (by rw[A_] <;> omega);rw[pP,<- a_];refine⟨.ref s.heap.objs.size,_,I.laid (t':=s.toks) (o:=.lst (kj xs lo hi)) (λb ob q=>r_ _ q) (t_ _) ?_,rfl,q _ (I.hok.fresh (t_ _))⟩;exact⟨Nu (lb xs lo hi) hz,_,0,(r.drop (HT.sIx xs.length 0 lo)).take (HT.sIx xs.length xs.length hi-HT.sIx xs.length 0 lo),Em _ rfl⟩
noncomputable def flatV:V->Bool
 |.non=>true
 |.bl _=>true
 |.int _=>true
 |.str _=>true
 |_=>false
noncomputable def eqV:V->V->Bool
 |.non,.non=>true
 |.bl a,.bl b=>a==b
 |.bl a,.int b=>(if a then 1 else 0)==b
 |.int a,.bl b=>a==(if b then 1 else 0)
 |.int a,.int b=>a==b
 |.str a,.str b=>a==b
 |_,_=>false
def IX(ry:RelV y u)(rx:RelV x v)(fy:flatV y=true)(fx:flatV x=true):SeqAt.EqAt A s u v (eqV y x):=by
 cases y with
 |
  non=>
  cases ry;cases x with
  |non=>cases rx;exact SeqAt.EqAt.same _
  |bl b=>cases rx;exact SeqAt.EqAt.none_bool b
  |int b=>obtain⟨t,rfl⟩:=rx;exact SeqAt.EqAt.none_int b t
  |str b=>obtain⟨t,rfl⟩:=rx;exact SeqAt.EqAt.none_str b t
  |_=>exact absurd (show false=true from fx) B_
 |
  bl a=>
  cases ry;cases x with
  |non=>cases rx;exact SeqAt.EqAt.bool_none a
  |bl b=>cases rx;exact SeqAt.EqAt.bool_bool a b
  |int b=>obtain⟨t,rfl⟩:=rx;exact SeqAt.EqAt.bool_int a b t
  |str b=>obtain⟨t,rfl⟩:=rx;exact SeqAt.EqAt.bool_str a b t
  |_=>exact absurd (show false=true from fx) B_
 |
  int a=>
  obtain⟨t',rfl⟩:=ry;cases x with
  |non=>cases rx;exact SeqAt.EqAt.int_none a t'
  |bl b=>cases rx;exact SeqAt.EqAt.int_bool a t' b
  |int b=>obtain⟨t,rfl⟩:=rx;exact SeqAt.EqAt.int_int a t' b t
  |str b=>obtain⟨t,rfl⟩:=rx;exact SeqAt.EqAt.int_str a t' b t
  |_=>exact absurd (show false=true from fx) B_
 |
  str a=>
  obtain⟨t',rfl⟩:=ry;cases x with
  |non=>cases rx;exact SeqAt.EqAt.str_none a t'
  |bl b=>cases rx;exact SeqAt.EqAt.str_bool a t' b
  |int b=>obtain⟨t,rfl⟩:=rx;exact SeqAt.EqAt.str_int a t' b t
  |str b=>obtain⟨t,rfl⟩:=rx;exact SeqAt.EqAt.str_str a t' b t
  |_=>exact absurd (show false=true from fx) B_
 |_=>exact absurd (show false=true from fy) B_
noncomputable def eqU (x:V) (u:Value):Bool:=match u with
 |.none=>eqV .non x
 |.bool b=>eqV (.bl b) x
 |.int i _=>eqV (.int i) x
 |.str z _=>eqV (.str z) x
 |_=>false
def zj(r:RelV y u)(f:flatV y=true):eqU x u=eqV y x:=by
 cases y with
 |non=>cases r;rfl
 |bl b=>cases r;rfl
 |int i=>obtain⟨t,rfl⟩:=r;rfl
 |str z=>obtain⟨t,rfl⟩:=r;rfl
 |_=>exact absurd (show false=true from f) B_
theorem je:∀{xs:List V}{us:List Value},Vals xs us->xs.all flatV=true->us.any (eqU x)=xs.any λy=>eqV y x
 |_,_,.nil,_=>rfl
 |
  y::xs,u::us,.cons r t,f=>by
  rw[Qn,u_] at f;rw[Oe,Oe,zj r f.1,je t f.2]
theorem g9(rx:RelV x v)(fx:flatV x=true):∀{xs:List V}{us:List Value},Vals xs us->xs.all flatV=true->∀u∈us,SeqAt.EqAt A s u v (eqU x u)
 |_,_,.nil,_=>λu hu=>by cases hu
 |
  y::xs,u::us,.cons r t,f=>λu' hu=>by
  rw[Qn,u_] at f;rcases J_.mp hu with rfl |hu
  .rw[zj r f.1];exact IX r rx f.1 fx
  .exact g9 rx fx t f.2 u' hu
noncomputable def inV (x:V) (xs:List V):Bool:=xs.any λy=>eqV y x
def rIn(K:W.Frag)(neg:Bool):R2:=λx y H Q=>∃p xs,y=.ref p/\(SqL K H p xs\/SqT K H p xs)/\flatV x=true/\xs.all flatV=true/\Q (.bl (if neg then !inV x xs else inV x xs)) H
def yq:OpR X (compareOp .In) (rIn X.K false):=by
 intro pins s σ H x y v u Q I rx ry h;obtain⟨p,xs,rfl,hq,fx,fs,q⟩:=h;cases ry;rcases hq with hq |hq
 .obtain⟨its,r,pl,hz⟩:=I.list hq;refine SeqAt.in_listAt (eqU x) pl.isList (λw hw=>g9 rx fx r fs w (by simpa using hw)) ⟨.bl _,H,I,rfl,?_⟩;rw[show its.toArray.any (eqU x)=its.any (eqU x) by simp,je r fs];exact q
 .obtain⟨its,r,pl,hz⟩:=I.tuple hq;refine SeqAt.in_tupleAt (eqU x) pl (λw hw=>g9 rx fx r fs w (by simpa using hw)) ⟨.bl _,H,I,rfl,?_⟩;rw[show its.toArray.any (eqU x)=its.any (eqU x) by simp,je r fs];exact q
def sE:OpR X (compareOp .NotIn) (rIn X.K true):=by
 intro pins s σ H x y v u Q I rx ry h;obtain⟨p,xs,rfl,hq,fx,fs,q⟩:=h;cases ry;rcases hq with hq |hq
 .obtain⟨its,r,pl,hz⟩:=I.list hq;refine SeqAt.notIn_listAt (eqU x) pl.isList (λw hw=>g9 rx fx r fs w (by simpa using hw)) ⟨.bl _,H,I,rfl,?_⟩;rw[show its.toArray.any (eqU x)=its.any (eqU x) by simp,je r fs];exact q
 .obtain⟨its,r,pl,hz⟩:=I.tuple hq;refine SeqAt.notIn_tupleAt (eqU x) pl (λw hw=>g9 rx fx r fs w (by simpa using hw)) ⟨.bl _,H,I,rfl,?_⟩;rw[show its.toArray.any (eqU x)=its.any (eqU x) by simp,je r fs];exact q
def qZ:CallR X (.builtin "len") (λxs H Q=>∃p ys,xs=[.ref p]/\(SqL X.K H p ys\/SqT X.K H p ys)/\Q (.int ys.length) H):=by
 intro pins s σ H xs us Q I r h;obtain⟨p,ys,rfl,hq,q⟩:=h;obtain⟨u,rfl,rx⟩:=fM r;cases rx;have hn:=gX;rcases hq with hq |hq
 .obtain⟨its,r',pl,hz⟩:=I.list hq;have a_:=r'.length;exact Calls.call_len_list pl.isList (by simp only[A_] <;> omega) ⟨.int ys.length,H,I.tok _,⟨s.toks+1,by rw[A_,a_]⟩,q⟩
 .obtain⟨its,r',pl,hz⟩:=I.tuple hq;have a_:=r'.length;exact len_tuple pl (by simp only[A_] <;> omega) ⟨.int ys.length,H,I.tok _,⟨s.toks+1,by rw[A_,a_]⟩,q⟩
def uu:CallR X (.builtin "len") (λxs H Q=>∃z,xs=[.str z]/\z.length<=sizeLine/\Q (.int z.length) H):=by intro pins s σ H xs us Q I r h;obtain⟨z,rfl,hz,q⟩:=h;obtain⟨u,rfl,t,rfl⟩:=fM r;have hn:=gX;exact len_str (by omega) ⟨.int z.length,H,I.tok _,⟨_,rfl⟩,q⟩
def CallR.or(h:CallR X f r)(h':CallR X f r'):CallR X f (λxs H Q=>r xs H Q\/r' xs H Q):=by
 intro pins s σ H xs us Q I rs q;rcases q with q |q
 .exact h pins s σ H xs us Q I rs q
 .exact h' pins s σ H xs us Q I rs q
def uo:CallR X (.type "list") (λxs H Q=>∃p ys,xs=[.ref p]/\(SqL X.K H p ys\/SqT X.K H p ys)/\∀l,H l=none->Q (.ref l) (upd H l (.lst ys))):=by
 intro pins s σ H xs us Q I r h;obtain⟨p,ys,rfl,hq,q⟩:=h;obtain⟨u,rfl,rx⟩:=fM r;cases rx;have d_:∀(its:List Value),Vals ys its->ys.length<=sizeLine->∀(h':Heap) (c':Nat),(∀b o',s.heap.get? b=some o'->h'.get? b=some o')->
  h'.get? s.heap.objs.size=some { cls:=.type "list",dict:=none,data:=.seq its.toArray c',slots:=#[] }->EP X pins σ Q (.ref s.heap.objs.size) { s with heap:=h' }:=λits r' hz h' c' kp e=>
  ⟨.ref s.heap.objs.size,_,I.laid (t':=s.toks) kp (t_ _) (show ObjOk X.prog X.w _ h' _ (.lst ys) from ⟨hz,its,c',r',e⟩),rfl,q _ (I.hok.fresh (t_ _))⟩
 rcases hq with hq |hq
 .obtain⟨its,r',pl,hz⟩:=I.list hq;have a_:=r'.length;obtain⟨o,ho,hc,n,hd⟩:=pl.isList;exact call_list_seq p (.inl rfl) ho hc hd (λh' c' kp e=>d_ its r' hz h' c' kp e) (by simp only[A_] <;> omega)
 .obtain⟨its,r',pl,hz⟩:=I.tuple hq;have a_:=r'.length;obtain⟨o,ho,hc,n,hd⟩:=pl;exact call_list_seq p (.inr rfl) ho hc hd (λh' c' kp e=>d_ its r' hz h' c' kp e) (by simp only[A_] <;> omega)
def pS:CallR X (.type "tuple") (λxs H Q=>∃p ys,xs=[.ref p]/\((SqL X.K H p ys/\∀l,H l=none->Q (.ref l) (upd H l (.tup ys)))\/(SqT X.K H p ys/\Q (.ref p) H))):=by
 intro pins s σ H xs us Q I r h;obtain⟨p,ys,rfl,h⟩:=h;obtain⟨u,rfl,rx⟩:=fM r;cases rx;rcases h with ⟨hq,q⟩ |⟨hq,q⟩
 .obtain⟨its,r',pl,hz⟩:=I.list hq;have a_:=r'.length;refine call_tuple_list pl.isList (λh' kp=>?_) (by simp only[A_] <;> omega);have I1:Inv X pins σ H { s with heap:=h' }:=I.kept (t':=s.toks) kp;have I2:Inv X pins σ (upd H h'.objs.size (.tup ys)) { s with heap:=h'.push { cls:=.type "tuple",data:=.seq its.toArray } }:=
   I1.laid (t':=s.toks) (λb o e=>r_ _ e) (t_ _) (show ObjOk X.prog X.w _ _ _ (.tup ys) from ⟨hz,its,r',IsTup.new _ _⟩)
  exact⟨.ref h'.objs.size,_,I2,rfl,q _ (I1.hok.fresh (t_ _))⟩
 .obtain⟨its,r',pl,hz⟩:=I.tuple hq;exact call_tuple_same pl ⟨.ref p,H,I,rfl,q⟩
def tyV(K:W.Frag)(T:String)(x:V)(H:Hp):Prop:=match x with
 |.str _=>T="str"
 |.int _=>T="int"
 |.ref p=>(T="list" /\ ∃xs,SqL K H p xs)\/(T="tuple" /\ ∃o,K.lookup p=some o/\o.cls=.type "tuple" /\ o.dict=none)\/
  (T="dict" /\ ((∃kvs,H p=some (.dK kvs))\/∃kvs,H p=some (.dT kvs)))\/(T="set" /\ ∃S n,H p=some (.set S n))
 |_=>False
def zc(I:Inv X pins σ H s)(r:RelV x v)(ty:tyV X.K T x H):
 s.TypeIs v T/\∀a,v=.ref a->∃ob,s.heap.get? a=some ob/\ob.dict=none:=by
 cases x with
 |str z=>obtain⟨t,rfl⟩:=r;cases (show T="str" from ty);exact⟨typeIs_str s z t,λ_ e=>nomatch e⟩
 |int i=>obtain⟨t,rfl⟩:=r;cases (show T="int" from ty);exact⟨typeIs_int s i t,λ_ e=>nomatch e⟩
 |
  ref p=>
  cases r;rcases ty with ⟨rfl,xs,hq⟩ |⟨rfl,o,hk,hc,hd⟩ |⟨rfl,hk⟩ |⟨rfl,S,n,hk⟩
  .obtain⟨its,_,pl,_⟩:=I.list hq;refine⟨pl.isList.typeIs,λa e=>?_⟩;cases e;obtain⟨o,n,e,c,hd,_⟩:=pl;exact⟨o,e,hd⟩
  .refine⟨⟨o,I.kIn p o hk,hc⟩,λa e=>?_⟩;cases e;exact⟨o,I.kIn _ o hk,hd⟩
  .have z:∃o,s.heap.get? p=some o/\o.ExactDict:=by
    rcases hk with ⟨kvs,hk⟩ |⟨kvs,hk⟩
    .obtain⟨_,_,_,_,o,_,_,e,ex,_⟩:=I.hok p _ hk;exact⟨o,e,ex⟩
    .obtain⟨_,_,_,_,o,_,_,e,ex,_⟩:=I.hok p _ hk;exact⟨o,e,ex⟩
   obtain⟨o,e,ex⟩:=z;refine⟨⟨o,e,ex.1⟩,λa e2=>?_⟩;cases e2;exact⟨o,e,ex.2.1⟩
  .obtain⟨o,_,_,_,e,ex,_⟩:=I.hok p _ hk;refine⟨⟨o,e,ex.1⟩,λa e2=>?_⟩;cases e2;exact⟨o,e,ex.2.1⟩
 |_=>exact False.elim ty
def tBM0(K:W.Frag)(T:String)(r:V->List V->Hp->VK->Prop)(to:TE):TE:=λσ H Q=>to σ H λx H1=>tyV K T x H1/\r x [] H1 Q
def tBM(K:W.Frag)(T:String)(r:V->List V->Hp->VK->Prop)(to:TE)(t:TA):TE:=λσ H Q=>to σ H λx H1=>tyV K T x H1/\t σ H1 λxs H2=>r x xs H2 Q
variable{o e:Expr}{es:List Expr}{to:TE}{t:TA}{name:Str}{apos cpos:Pos}{T id:String}{r:V->List V->Hp->VK->Prop}
def G7(pa:PlainAttrs T)(slot:Slot T name id)(hty:typeOf (.builtin id)=pure (.type "method_descriptor"))(hm:MtR X id r)(ho:PE X o to)
 (i_:attributeBase o name X.env (eval o X.env)=eval o X.env) (j':(apos.endLine==cpos.line)=true):PE X (.Call (.Attribute o name apos) [] [] cpos) (tBM0 X.K T r to):=by
 intro pins s σ H Q I h;refine wpAny_Call_method0_late i_ j' (thn (ho pins s σ H _ I h) λv s1 ⟨x,H1,I1,r1,ty,q1⟩=>?_);obtain⟨h1,h2⟩:=zc I1 r1 ty;exact⟨T,id,pa,slot,hty,h1,h2,Calls.callWith_builtin rfl (PySem.evalArgs_none (hm pins s1 σ H1 x [] v [] Q I1 r1 .nil q1))⟩
def xJ(pa:PlainAttrs T)(slot:Slot T name id)(hty:typeOf (.builtin id)=pure (.type "method_descriptor"))(hm:MtR X id r)(ho:PE X o to)(ha:PA X (e::es) t)
 (i_:attributeBase o name X.env (eval o X.env)=eval o X.env)
 (hfew:((backTo cpos (starEach (e::es) X.env)).all (λx=>!x.1)&&(backToKw cpos (keywordEach [] X.env)).all (λx=>x.1.isSome)
  && decide ((e::es).length+([]:List Keyword).length+(if ([]:List Keyword).isEmpty then 0 else 1)<30))=true)
 (j':(apos.endLine==cpos.line)=true) (hs:starEach (e::es) X.env=(false,eval e X.env)::starEach es X.env) (c_:(backTo cpos (starEach es X.env)).any (·.1)=false):
 PE X (.Call (.Attribute o name apos) (e::es) [] cpos) (tBM X.K T r to t):=by
 intro pins s σ H Q I h;refine wpAny_Call_method_late i_ hfew j' rfl (thn (ho pins s σ H _ I h) λv s1 ⟨x,H1,I1,r1,ty,q1⟩=>?_);obtain⟨h1,h2⟩:=zc I1 r1 ty;refine⟨T,id,pa,slot,hty,h1,h2,?_⟩;have hA:=ha cpos pins s1 σ H1 _ I1 q1;rw[hs] at hA ⊢;refine Calls.callWith_builtin (by show (false || (backTo cpos (starEach es X.env)).any (·.1))=false;rw[c_] <;> rfl) (Calls.evalArgs_plain ?_);exact thn hA λus s2 zz=>exA zz λvs H2 I2 r2 q2=>hm pins s2 σ H2 x vs v us Q I2 r1 r2 q2
end
def MtM(X:Cx)(id:String)(r:V->List V->Hp->VK->Prop):Prop:=
 ∀
  (pins:Qu) (s:Shared) (σ:St) (H:Hp) (x:V) (xs:List V) (v:Value) (us:List Value) (Q:VK),Inv X pins σ H s->RelV x v->Vals xs us->r x xs H Q->
  wpAny (model X.prog X.w) X.A (call (.builtin id) (v::us)) (EP X pins σ Q) X.xe s
def Vals.one(r:Vals [x] us):∃u,us=[u]/\RelV x u:=by
 cases r with
 |cons r t=>cases t;exact⟨_,rfl,r⟩
theorem Vals.zero:∀{us:List Value},Vals [] us->us=[]
 |_,.nil=>rfl
def Vals.dropLast(h:Vals xs us):Vals xs.dropLast us.dropLast:=by
 induction h with
 |nil=>exact .nil
 |
  cons r t ih=>
  cases t with
  |nil=>exact .nil
  |cons q t'=>exact .cons r ih
def xn{α:Type}(l:List α):l.eraseIdx (l.length-1)=l.dropLast:=by
 induction l with
 |nil=>rfl
 |
  cons a r ih=>
  cases r with
  |nil=>rfl
  |
   cons b r=>
   have e:(a::b::r).length-1=((b::r).length-1)+1:=by have h1:(a::b::r).length=r.length+2:=rfl;have h2:(b::r).length=r.length+1:=rfl;omega
   rw[e,List.eraseIdx_cons_succ,ih];all_goals rfl
section
variable{X:Cx}{pins:Qu}{σ:St}{H:Hp}{s:Shared}{l:Addr}{xs ys:List V}
def Inv.lset{its its':List Value}{n:Nat}{f:Array Value->Array Value}{t':Nat}(I:Inv X pins σ H s)(hH:H l=some (.lst xs))
 (e:s.heap.get? l=some { cls:=.type "list",data:=.seq its.toArray n }) (hf:f its.toArray=its'.toArray) (hv:Vals ys its') (hz:ys.length<=sizeLine):
 Inv X pins σ (upd H l (.lst ys)) { s with heap:=s.heap.update l (Obj.mapSeq f),toks:=t' }:=by
 have q:=PySem.IsL.update e f;rw[hf] at q;refine I.write (x:=l) (e:=l) (by rw[hH];exact trivial) (.inl rfl) (λb' u hb hu=>(NN s.heap (Obj.mapSeq f) (Ne.symm hb)).trans hu) ⟨_,q⟩ ?_;exact⟨hz,its',_,hv,q⟩
def Inv.lnew(I:Inv X pins σ H s)(hv:Vals ys its)(hz:ys.length<=sizeLine):
 Inv X pins σ (upd H s.heap.objs.size (.lst ys)) { s with heap:=s.heap.push { cls:=.type "list",data:=.seq its.toArray },toks:=t' }:=
 I.laid (λ_ _ q=>r_ _ q) (t_ _) ⟨hz,its,0,hv,Em _ rfl⟩
def Inv.fresh(I:Inv X pins σ H s):H s.heap.objs.size=none:=I.hok.fresh (t_ _)
def Inv.lstM(I:Inv X pins σ H s)(hH:H l=some (.lst xs)):xs.length<=sizeLine/\∃(its:List Value) (n:Nat),Vals xs its/\xs.length=its.length/\s.heap.get? l=some { cls:=.type "list",data:=.seq its.toArray n }:=by obtain⟨z,its,n,r,e⟩:=I.hok l _ hH;exact⟨z,its,n,r,r.length,e⟩
def BH{n:Nat}(h:n<=sizeLine):Builtin.List.listTooLong n=false:=by unfold Builtin.List.listTooLong;exact C_ (by omega)
end
section
variable{X:Cx}
def vo:V->List V->Hp->VK->Prop:=λx vs H Q=>∃l xs y,x=.ref l/\vs=[y]/\H l=some (.lst xs)/\xs.length<sizeLine/\Q .non (upd H l (.lst (xs++[y])))
def zY:MtM X "list.append" vo:=by intro pins s σ H x vs v us Q I rx rv h;obtain⟨l,xs,y,rfl,rfl,hH,hz,q⟩:=h;cases rx;obtain⟨u,rfl,ru⟩:=rv.one;obtain⟨z,its,n,r,hl,e⟩:=I.lstM hH;refine call_meets F.slot_list_append ⟨_,e,rfl⟩ F.entry_list_append (F.args_list_append_2 _ _) (PySem.list_append l its.toArray n u (by rw[A_];omega)) ⟨e,?_⟩;refine⟨.non,_,I.lset (its':=its++[u]) hH e (by simp) (r.append (.cons ru .nil)) ?_,rfl,q⟩;rw[H_,P4];omega
def rPop:V->List V->Hp->VK->Prop:=λx vs H Q=>∃l xs y,x=.ref l/\vs=[]/\H l=some (.lst xs)/\xs[xs.length-1]?=some y/\Q y (upd H l (.lst xs.dropLast))
def JM:MtM X "list.pop" rPop:=by
 intro pins s σ H x vs v us Q I rx rv h;obtain⟨l,xs,y,rfl,rfl,hH,hy,q⟩:=h;cases rx;have hus:=rv.zero;subst hus;obtain⟨z,its,n,r,hl,e⟩:=I.lstM hH;obtain⟨u,hu,ru⟩:=r.get hy;have hy':its.toArray[its.toArray.size-1]?=some u:=by show its.toArray[its.length-1]?=some u;rw[<- Array.getElem?_toList,<- hl];exact hu
 refine call_meets F.slot_list_pop ⟨_,e,rfl⟩ F.entry_list_pop (F.args_list_pop_1 _) (MeetsSeq.list_pop_last l its.toArray n u hy' (by rw[A_];omega)) ⟨e,?_⟩;refine⟨y,_,I.lset (its':=its.dropLast) hH e ?_ r.dropLast ?_,ru,q⟩
 .show its.toArray.eraseIdxIfInBounds (its.toArray.size-1)=its.dropLast.toArray;rw[A_,List.eraseIdxIfInBounds_toArray,xn]
 .rw[List.length_dropLast];omega
def yh:R2:=λx y H Q=>∃l b xs zs,x=.ref l/\y=.ref b/\H l=some (.lst xs)/\H b=some (.lst zs)/\xs.length+zs.length<=sizeLine/\∀p,H p=none->Q (.ref p) (upd H p (.lst (xs++zs)))
def GI:OpR X (binaryOp .Add) yh:=by
 intro pins s σ H x y v u Q I rx ry h;obtain⟨l,b,xs,zs,rfl,rfl,hH,hB,hz,q⟩:=h;cases rx;cases ry;obtain⟨z,its,n,r,hl,e⟩:=I.lstM hH;obtain⟨z2,its2,n2,r2,hl2,e2⟩:=I.lstM hB;refine PySem.P.add_list e e2 ?_ (by rw[A_,A_];omega);have ea:its.toArray++its2.toArray=(its++its2).toArray:=by simp
 rw[ea];exact⟨.ref _,_,I.lnew (t':=s.toks) (r.append r2) (by rw[H_];omega),rfl,q _ I.fresh⟩
end
section
set_option maxRecDepth 100000 in
end
end L2
namespace Att
open PySem PySem.W PySem.Calls PyProof.Rows
def mR:∀(ns:List Int) (vs:List Value),WellAll P h vs (ns.map WData.int)->IntsAre vs ns:=by
 intro ns;induction ns with
 |nil=>intro vs w;rw[Nt] at w;cases w;exact .nil
 |
  cons n ns ih=>
  intro vs w;rw[x_] at w;cases w with
  |cons a b=>cases a;exact .cons _ _ (ih _ b)
def AN{l:OpenLaw}{n:Nat}(hn:l.most=some n){P:Params}{h:Heap}{args:List WData}{vals:List Value}
 (hpre:l.row.toRowW.claim.pre args=true) (hwl:WellAll P h vals args):
 ∃a vs ns,vals=[Value.ref a]/\args=[WData.list (ns.map WData.int)]/\h.get? a=some { cls:=.type "list",data:=.seq vs.toArray }/\IntsAre vs ns/\ns.length<=n:=by
 have hsh:WShape.hasAll [] args [.list .int]=true:=(pre_splitW hpre).1;have hc:l.pre.holds [] { args:=args }=true:=(pre_splitW hpre).2;obtain⟨d,r,rfl,h1,h2⟩:=hasAllW_cons hsh;obtain rfl:=hasAllW_nil h2;obtain⟨xs,rfl,h3⟩:=hasW_list h1;obtain⟨ns,rfl⟩:=items_int h3;have a_:ns.length<=n:=by
  unfold OpenLaw.pre at hc;have h4:(WTm.not (.lt (.lit (.int (n:Int))) (.len (.arg 0)))).holds [] { args:=[.list (ns.map .int)] }=true:=by have h4:=(holds_andW hc).1;rw[hn] at h4;exact h4
  have h5:=condW_of h4 (w_not (w_lt w_lit (w_len_list (w_arg rfl))));rw[p_] at h5;refine Nat.le_of_not_lt λq=>?_;have q':(n:Int)<((ns.length:Nat):Int):=by omega
  first
   |(rw[I_ q'] at h5;exact absurd h5 (by decide))
   |(simp at h5;omega)
 cases hwl with
 |
  cons w1 w2=>
  cases w2;cases w1 with
  |list ho hall=>exact⟨_,_,ns,rfl,rfl,ho,mR ns _ hall,a_⟩
def AB(l:OpenLaw)(args:List WData):l.row.toRowW.claim.post args (.bool true) args=true:=
 postW_of (r:=l.row.toRowW) (X:=(true==true))
  (show WShape.has [] (.bool true) .bool=true by first |rfl |decide |simp [WShape.has,WShape.arms,WShape.armsAll])
  (show (WTm.eq .res (.lit (.bool true))).value [] { args:=args,res:=some (.bool true),after:=args }=some (.bool (true==true)) from w_eq_bool (w_res rfl) w_lit) rfl
def attach_call{l:OpenLaw}{n:Nat}{q:Program}{loose:List Str}{XP:(Str->Option Value)->Heap->Prop}{YP:World->Heap->Prop}{d:DefRec}
 (hn:l.most=some n) (hdf:d.params.defaults=[])
 (call:∀(w:World) (s₀ s₁:Shared) (mg mb:Qt) (fa:Addr) (o:Obj) (pm cd doc:Value) (a:Addr) (vs:List Value) (ns:List Int),
  Ground q loose [] XP w s₀ mg mb s₁.heap->YP w s₁.heap->
  s₁.heap.get? fa=some o->o.data=.func (docDef d.name d.params d.body d.scope pm cd doc)->s₁.heap.CodeRec cd d.name->mg d.name=some (.ref fa)->
  s₁.heap.get? a=some { cls:=.type "list",data:=.seq vs.toArray }->IntsAre vs ns->ns.length<=n->s₁.gens=#[]->
  codeAny (model l.prog w) callerA (.call (.ref fa) ⟨[.ref a],[]⟩) (λr s'=>r=.ok (.ret (.bool true))/\OldK s₁.heap s'.heap/\s'.os=s₁.os/\AllBare s'.gens) s₁):
 WalkO q loose XP YP l.row.toRowW d [] (λf vs=>PySem.call f vs):=by
 intro w s₀ s₁ mg mb G Y fa o pm cd doc dV kV ho hd n_ hD hmg hg args vals as hpre hlay hrd hwl hlo;obtain rfl:dV=.none:=Dflts.none hD hdf;obtain rfl:kV=.none:=Dflts.noKw hD;obtain⟨a,vs,ns,rfl,rfl,hobj,hints,a_⟩:=AN hn hpre hwl;refine enter_call (Qf (call w s₀ s₁ mg mb fa o pm cd doc a vs ns G Y ho (fd_plain hd) n_ hmg hobj hints a_ hg) λr s' hq=>?_);obtain⟨rfl,h2,h3,h4⟩:=hq;exact⟨.inl ⟨.bool true,.bool true,[],rfl,λ_=>rfl,.bool true,AB l _,λ_=>⟨List.Pairwise.nil,λ_ hm=>(nomatch hm)⟩⟩,h2,h3,h4⟩
section
def rT(h:Heap):Heap:={ h with objs:=#[] }
def ya(h:Heap)(b:Addr):(rT h).get? b=none:=by
 cases e:(rT h).get? b with
 |none=>rfl
 |some o=>exact absurd (y_ e) (OV _)
def ledger(h:Heap)(L d:Addr):List (Addr×Obj):=(List.range h.objs.size).filterMap λa=>if a=L\/a=d then none else (h.get? a).map λo=>(a,o)
def fr_all(n:h.Ns L m):Fr (rT h) L h m:=
 ⟨n,λb o e=>(by rw[ya] at e;cases e),NK _⟩
end
end Att
namespace L2
open PySem PySem.Spec PyProof.Rows
theorem j0:∀{vs:List Value}{ns:List Int},IntsAre vs ns->Vals (ns.map V.int) vs
 |_,_,.nil=>.nil
 |_,_,.cons n t h=>.cons ⟨t,rfl⟩ (j0 h)
def BY(H:Hp):Prop:=∀b,H b=none\/∃o xs,H b=some (.frz o (.lst xs))
def Dc{P:Program}{w:World}{K:W.Frag}{mg mb:Qt}{CX:CXT}{k:Nat}{fa a:Addr}{fd:FuncData}{x:Str}{sp:Sp}{s₁:Shared}{vs:List Value}{ns:List Int}
 (KX:K.In s₁.heap) (hns:s₁.heap.Ns mainGlobals mg) (hb:s₁.heap.Ns builtinsNs mb) (hbb:∀x:Str,x ≠ "__name__"->mb x=bootBuiltins x) (hlim:s₁.heap.NoLimit) (hg:s₁.gens=#[])
 (ha:s₁.heap.get? a=some { cls:=.type "list",data:=.seq vs.toArray }) (hi:IntsAre vs ns) (hl:ns.length<=sizeLine) (hr:Room k callerA)
 (F:∀base:Heap,K.In base->base.Ns mainGlobals mg->FnOk P w K mg base CX k fa fd [x] sp) (hbind:∀(s:Shared) (u:Value),BindsTo s fd ⟨[u],[]⟩ [(x,u)])
 (hsp:∀H:Hp,BY H->SqL K H a (ns.map V.int)->sp [.ref a] H (λv _=>v=.bl true) λ_ _ _=>False)
 (hCX:∀H e s',CX [] H s₁ (λ_ _ _=>False) e s'->False):
 codeAny (model P w) callerA (.call (.ref fa) ⟨[.ref a],[]⟩) (λr s'=>r=.ok (.ret (.bool true))/\OldK s₁.heap s'.heap/\s'.os=s₁.os/\AllBare s'.gens) s₁:=by
 have rv:=j0 hi;have lenV:=hi.length;have core
  : ∀H:Hp,BY H->SqL K H a (ns.map V.int)->HOk P w H s₁.heap->(∀b,H b≠none->b=a)->(H a≠none->K.lookup a=none)->
  codeAny (model P w) callerA (.call (.ref fa) ⟨[.ref a],[]⟩) (λr s'=>r=.ok (.ret (.bool true))/\OldK s₁.heap s'.heap/\s'.os=s₁.os/\AllBare s'.gens) s₁:=by
  intro H hO hS hok hA hK;have base_of:∀{b:Addr}{o:Obj},s₁.heap.get? b=some o->H b=none->(fO s₁.heap H).get? b=some o:=λe n=>rF e n;have noA:∀{b:Addr}{o:Obj}{es:Array DictEntry}{ep:Nat},s₁.heap.get? b=some o->o.data=.dict es ep->H b=none:=λ{b o es ep} e d=>by
   cases q:H b with
   |none=>rfl
   |some u=>have e':b=a:=hA b (by rw[q];simp);subst e';rw[ha] at e;cases e;have d':Data.seq vs.toArray _=Data.dict es ep:=d;cases d'
  have nsK:∀{b:Addr}{m:Qt},s₁.heap.Ns b m->(fO s₁.heap H).Ns b m:=λ{b m} ⟨o,es,ep,e,d,r⟩=>⟨o,es,ep,base_of e (noA e d),d,r⟩;have hKb:K.In (fO s₁.heap H):=λb o e=>base_of (KX b o e) (by
   cases q:H b with
   |none=>rfl
   |some u=>have e':b=a:=hA b (by rw[q];simp);subst e';rw[hK (by rw[q];simp)] at e;cases e)
  have hM:Mod K mg (fO s₁.heap H):=⟨hKb,nsK hns,⟨mb,nsK hb,hbb⟩,let ⟨mc,h1,h2⟩:=hlim;⟨mc,nsK h1,h2⟩⟩;have e0:Env0 P w K mg (fO s₁.heap H) callerA [] s₁ H:=⟨rfl,hM,λb o e=>vN e,Nat.le_of_eq (pf _ _),trivial,λb hb=>absurd (show b∈([]:List Addr) from hb) (by simp),hok,.of_eq hg⟩;refine Qf ((F _ hKb (nsK hns)).run callerA [] s₁ H ⟨[.ref a],[]⟩ [.ref a] [.ref a] _ _ hr e0 (hbind s₁ (.ref a)) (.cons rfl .nil) (hsp H hO hS)) λr s' h=>?_;cases r with
  |error e=>exact (hCX H e s' h).elim
  |
   ok fl=>
   cases fl with
   |next=>exact False.elim h
   |brk=>exact False.elim h
   |cont=>exact False.elim h
   |
    ret u=>
    obtain⟨v,H',os,bare,un,hok',r',q⟩:=h;have q':v=.bl true:=q;subst q';obtain rfl:u=Value.bool true:=r';refine⟨rfl,OldK.of_keep λb o e=>?_,os,bare⟩;cases q:H b with
    |none=>exact un.keep b o e q (by intro z;exact absurd (show b∈([]:List Addr) from z) (by simp)) (by simp)
    |
     some u=>
     rcases hO b with z |⟨ob,xs,z⟩
     .rw[q] at z;cases z
     .have z2:=un.frzs b ob _ z;obtain⟨e1,_⟩:=hok b _ z;obtain⟨e2,_⟩:=hok' b _ z2;rw[e] at e1;cases e1;exact e2
 cases hk:K.lookup a with
 |some o=>have e:=KX a o hk;rw[ha] at e;cases e;refine core (λ_=>none) (λ_=>.inl rfl) (.inr ⟨_,vs.toArray,_,hk,rfl,rfl,rfl,by rw[A_,lenV];exact hl,by simpa using rv⟩) (λb u z=>by have z':(none:Option HO)=some u:=z;cases z') (λb z=>absurd rfl z) λz=>absurd rfl z
 |
  none=>
  refine core (λb=>if b=a then some (.frz { cls:=.type "list",data:=.seq vs.toArray } (.lst (ns.map V.int))) else none) (λb=>?_) (.inl (.inr ⟨{ cls:=.type "list",data:=.seq vs.toArray },if_pos rfl⟩)) (λb u z=>?_) (λb z=>?_) λ_=>hk
  .by_cases hb:b=a
   .exact .inr ⟨_,_,if_pos hb⟩
   .exact .inl (if_neg hb)
  .by_cases hb:b=a
   .have z':=(if_pos hb).symm.trans z;cases z';subst hb;exact⟨ha,by rw[p_];exact hl,vs,_,rv,ha⟩
   .have z':=(if_neg hb).symm.trans z;cases z'
  .by_cases hb:b=a
   .exact hb
   .exact absurd (if_neg hb) z
abbrev KOf{K:W.Frag}{h:Heap}(_:K.In h):W.Frag:=K
def Nl{l:W.OpenLaw}{n k:Nat}{q:Program}{loose:List Str}{XP:(Str->Option Value)->Heap->Prop}{YP:World->Heap->Prop}{d:DefRec}{K:Params->W.Frag}{CX:World->CXT}{sp:World->Sp}{x:Str}
 (hn:l.most=some n) (hn2:n<=sizeLine) (hdf:d.params.defaults=[]) (hr:Room k callerA)
 (hY:∀(w:World) (h:Heap),YP w h->(K w.params).In h)
 (F:∀(w:World) (mg:Qt) (fa:Addr) (h:Heap),(K w.params).In h->h.Ns mainGlobals mg->mg d.name=some (.ref fa)->
  ∃
   fd:FuncData,(∀(s:Shared) (u:Value),BindsTo s fd ⟨[u],[]⟩ [(x,u)])/\
   ∀base:Heap,(K w.params).In base->base.Ns mainGlobals mg->FnOk l.prog w (K w.params) mg base (CX w) k fa fd [x] (sp w))
 (hsp:∀(w:World) (H:Hp) (a:Addr) (ns:List Int),ns.length<=n->BY H->SqL (K w.params) H a (ns.map V.int)->sp w [.ref a] H (λv _=>v=.bl true) λ_ _ _=>False)
 (hCX:∀(w:World) (H:Hp) (s:Shared) (e:Value) (s':Shared),CX w [] H s (λ_ _ _=>False) e s'->False):
 W.WalkO q loose XP YP l.row.toRowW d [] (λf vs=>PySem.call f vs):=by
 refine Att.attach_call hn hdf λw s₀ s₁ mg mb fa o pm cd doc a vs ns G Y ho hd n_ hmg hobj hints a_ hg=>?_;have KX:=hY w _ Y;obtain⟨fd,hb,hF⟩:=F w mg fa _ KX G.T.g hmg;exact Dc KX G.T.g G.T.b G.T.builtins G.T.nolimit hg hobj hints (Nu a_ hn2) hr hF hb (λH hO hS=>hsp w H a ns a_ hO hS) λH e s'=>hCX w H s₁ e s'
noncomputable def cV (s:Stmt):Arguments:=match s with
 |.FunctionDef _ a _ _ _ _ _ _ _ _=>a
 |_=>{ posonlyargs:=[],args:=[],vararg:=none,kwonlyargs:=[],kw_defaults:=[],kwarg:=none,defaults:=[] }
noncomputable def bD (s:Stmt):List Stmt:=match s with
 |.FunctionDef _ _ b _ _ _ _ _ _ _=>b
 |_=>[]
noncomputable def aq (s:Stmt):Scope:=match s with
 |.FunctionDef _ _ _ _ _ _ sc _ _ _=>sc
 |_=>{ kind:=.function,names:=[],isGenerator:=false,isCoroutine:=false }
abbrev E0:XK:=λ_ _ _=>False
structure Fun(K:W.Frag)(x qual:Str)(st:Stmt)(f:Addr)(fd:FuncData):Prop where
 ex:∃(oc:Value) (od:Option Addr) (kV doc pm:Value) (an:Option Addr) (cdv ct:Value) (osl:Array (Option Value)),
  fd=W.fnOf x qual (cV st) (bD st) (aq st) .none kV doc pm an cdv ct/\K.lookup f=some ⟨oc,od,.func fd,osl⟩/\W.codeIn K cdv qual=true
 kp:W.keepIn K (.ref f)=true
section
variable{K:W.Frag}
def Fun.binds{x qual:Str}{st:Stmt}{f:Addr}{fd:FuncData}{ps:List Str}(F:Fun K x qual st f fd)
 (h:∀(kV doc pm:Value) (an:Option Addr) (cdv ct:Value) (us:List Value),us.length=ps.length->bindArgs (W.fnOf x qual (cV st) (bD st) (aq st) .none kV doc pm an cdv ct) ⟨us,[]⟩=pure (ps.zip us)):Binds K fd ps []:=by
 obtain⟨oc,od,kV,doc,pm,an,cdv,ct,osl,rfl,lk,n_⟩:=F.ex;exact .all (h kV doc pm an cdv ct)
def JR{x qual:Str}{st:Stmt}{f:Addr}{oc:Value}{od an:Option Addr}{osl:Array (Option Value)}{kV doc pm cdv ct:Value}(l:K.lookup f=some ⟨oc,od,.func (W.fnOf x qual (cV st) (bD st) (aq st) .none kV doc pm an cdv ct),osl⟩)
 (c:W.codeIn K cdv qual=true) (k:W.keepIn K (.ref f)=true):Fun K x qual st f (W.fnOf x qual (cV st) (bD st) (aq st) .none kV doc pm an cdv ct):=⟨⟨oc,od,kV,doc,pm,an,cdv,ct,osl,rfl,l,c⟩,k⟩
end
def Mj(hr:Room k A):A.units+1<cLine:=Ox (Nat.add_le_add_left (by decide:1<=64) _) hr.units
section
variable{X:Cx}{pins:Qu}{σ:St}{H:Hp}{s:Shared}
def Inv.track{a:Addr}{o:HO}(I:Inv X pins σ H s)(hn:H a=none)(h0:X.s₀.heap.get? a=none)(hL:a≠X.env.locals)(hc:∀x c,X.env.cells.lookup x=some c->c≠a)
 (hp:∀p∈X.pn++pins,p.1≠a) (new:ObjOk X.prog X.w (upd H a o) s.heap a o):Inv X pins σ (upd H a o) s:=by
 have ne:∀b u,H b=some u->b≠a:=λb u e z=>by rw[z,hn] at e;cases e
 have ne0:∀b u,X.s₀.heap.get? b=some u->b≠a:=λb u e z=>by rw[z,h0] at e;cases e
 refine⟨I.ok,I.os,I.bare,⟨I.base.keep,I.base.slot,λb u e n hx=>?_,I.base.there,λb xs e=>?_,λb u xs e=>?_,λb ps e=>?_⟩,I.loc,I.cell,?_,λx c e=>?_,λp hp'=>?_,λb u e=>?_,I.len⟩
 .rw[aC (ne0 b u e)];exact I.base.free b u e n hx
 .have q:=I.base.tups b xs e;rw[aC (ne _ _ q)];exact q
 .have q:=I.base.frzs b u xs e;rw[aC (ne _ _ q)];exact q
 .obtain⟨m,q⟩:=I.base.tbls b ps e;exact⟨m,by rw[aC (ne _ _ q)];exact q⟩
 .rw[aC (Ne.symm hL)];exact I.free
 .rw[aC (hc x c e)];exact I.freeC x c e
 .obtain⟨e,n,r⟩:=I.pin p hp';exact⟨e,by rw[aC (hp p hp')];exact n,r⟩
 .by_cases hb:b=a
  .subst hb;rw[aY] at e;cases e;exact new
  .rw[aC hb] at e;exact (I.hok b u e).stay (λc v _ q=>q) (λc q=>by rw[aC (ne _ _ q)];exact q) λc xs q=>by rw[aC (ne _ _ q)];exact q
end
theorem jw{env:Env}:∀{names:List (Str×NameKind)} (cs:List (Str×Addr)),(∀x∈names,x.2=.free->∃c,env.cells.lookup x.1=some c)->(∀x c,cs.lookup x=some c->env.cells.lookup x=some c)->
 ∃
  cl,(forIn names cs λ(x:Str×NameKind) (r:List (Str×Addr))=>if (x.2==NameKind.free)=true then do let a <- cellOf env x.1;pure (ForInStep.yield ((x.1,a)::r)) else pure (ForInStep.yield r):Sem (List (Str×Addr)))=pure cl/\
  (∀x c,cl.lookup x=some c->env.cells.lookup x=some c)/\(∀x c,cs.lookup x=some c->∃c',cl.lookup x=some c')/\∀x∈names,x.2=.free->∃c,cl.lookup x.1=some c
 | [],cs,_,h=>⟨cs,by simp,h,λx c e=>⟨c,e⟩,λ_ hx=>nomatch hx⟩
 |
  (n,k)::r,cs,hf,h=>by
  rw[P9];by_cases hk:k=.free
  .subst hk;obtain⟨c,hc⟩:=hf (n,.free) s_ rfl;have l_:cellOf env n=pure c:=by unfold cellOf;rw[hc]
   have h':∀x d,((n,c)::cs).lookup x=some d->env.cells.lookup x=some d:=λx d e=>by
    rw[Ov] at e;cases q:x==n with
    |true=>rw[q] at e;cases e;rw[NA.mp q];exact hc
    |false=>rw[q] at e;exact h x d e
   obtain⟨cl,e1,e2,e3,e4⟩:=jw (env:=env) (names:=r) ((n,c)::cs) (λx hx=>hf x (q_ _ hx)) h';have top:∃c',cl.lookup n=some c':=e3 n c (by rw[Ov];simp);refine⟨cl,?_,e2,λx d e=>?_,λx hx hfr=>?_⟩
   .simp only[Pj,OW,l_];exact e1
   .by_cases q:x=n
    .rw[q];exact top
    .exact e3 x d (by rw[Ov,(F_.mpr q:(x==n)=false)];exact e)
   .rcases J_.mp hx with rfl |hx
    .exact top
    .exact e4 x hx hfr
  .have hb:(k==NameKind.free)=false:=by simpa using hk
   obtain⟨cl,e1,e2,e3,e4⟩:=jw (env:=env) (names:=r) cs (λx hx=>hf x (q_ _ hx)) h;refine⟨cl,?_,e2,e3,λx hx hfr=>?_⟩
   .simp only[hb,NM,OM];exact e1
   .rcases J_.mp hx with rfl |hx
    .exact absurd hfr hk
    .exact e4 x hx hfr
def qf{env:Env}{scope:Scope}(hf:∀x∈scope.names,x.2=.free->∃c,env.cells.lookup x.1=some c):
 ∃cl,closureFor scope env=pure cl/\(∀x c,cl.lookup x=some c->env.cells.lookup x=some c)/\∀x∈scope.names,x.2=.free->∃c,cl.lookup x.1=some c:=by
 obtain⟨cl,e1,e2,_,e4⟩:=jw (env:=env) (names:=scope.names) [] hf (λx c e=>by simp at e);refine⟨cl,?_,e2,e4⟩;unfold closureFor;simp only[e1];rfl
noncomputable def bR (X:Cx) (N:List Str) (scope:Scope) (cl:List (Str×Addr)) (C:Addr) (s₂:Shared) (H:Hp) (fp:List Addr):Cx:=
 { X with N:=N,s₀:=s₂,H₀:=H,env:=compEnvC scope cl C X.env,outer:=X.stack,stack:=X.stack,ex:=fp,fn:=λ_=>false,pn:=[],xe:=λ_ _=>False }
noncomputable def eW (sub:Qw) (σ:St):St:=sub.map λo=>o.bind λi=>(σ[i]?).bind id
def LcW(J:It)(sub:Qw)(g:TG)(tc:TT)(te:TE)(σ:St)(H1:Hp)(Q:VK):Prop:=∃W:Nat->Nat->List V->St->Hp->Prop,(∃m,W 0 m [] (eW sub σ) H1)/\∀i m ys σ H,W i m ys σ H->
 (J.stop i H/\ys.length<=sizeLine/\∀D,H D=none->Q (.ref D) (upd H D (.lst ys)))\/
 (J.go i H/\ys.length<sizeLine/\∃Nx:List V->St->Hp->Prop,(∀ys' σ' H',Nx ys' σ' H'->∃m',m'<m/\W (i+1) m' ys' σ' H')/\
  ∀x H',J.yld i H x H'->g x σ H' λσ2 H2=>tc σ2 H2 λb H3=>if b=true then te σ2 H3 λy H4=>Nx (ys++[y]) σ2 H4 else Nx ys σ2 H3)
def qu(wi:TI)(sub:Qw)(g:TG)(tc:TT)(te:TE):TE:=λσ H Q=>wi σ H λJ H1=>LcW J sub g tc te σ H1 Q
section
variable{prog:Program}{w:World}{A:Around}{R:Result->Shared->Prop}{s:Shared}
def rn{elt target iter:Expr}{ifs:List Expr}{scope:Scope}{pos:Pos}{it acc:Value}{env:Env}(I:Nat->Shared->Prop)
 (turn
  : ∀n s,I n s->wpAny (model prog w) A (pyNext it) (λr s₁=>match r with
  |none=>R (.ok .next) s₁
  |some v=>wpAny (model prog w) A (letOwnedTupleGo target it v) (λ_ s₁'=>wpAny (model prog w) A (assign target env v) (λ_ s₂=>
   wpAny (model prog w) A (forIn ifs true λc r=>if r=true then do let ok <- isTrue c env (eval c env);pure (ForInStep.yield ok) else pure (ForInStep.yield r))
    (λok s₃=>if ok=true then wpAny (model prog w) A (eval elt env) (λx s₄=>wpAny (model prog w) A (call (.builtin "list.append") [acc,x]) (λ_ s₅=>∃m,m<n/\I m s₅) (λ_ _=>False) s₄) (λ_ _=>False) s₃
     else ∃m,m<n/\I m s₃) (λ_ _=>False) s₂) (λ_ _=>False) s₁') (λ_ _=>False) s₁) (λ_ _=>False) s)
 (n:Nat) (h:I n s):
 codeAny (model prog w) A (.compLoop (.ListComp elt [⟨target,iter,ifs,0⟩] scope pos) 0 it acc env) R s:=by
 refine codeAny_loop rfl I (λn s hI=>?_) n h;show wpAny _ _ ((compTurn (.ListComp elt [⟨target,iter,ifs,0⟩] scope pos) 0 it acc env).onRaise (λx=>do noteFrame x env;theTreesLotGoes x)) _ _ s;refine wpAny_noted ?_;rw[compTurn_list];refine NG (E:=λ_ _=>False) ?_ (λ_ _ q=>q) λ_ _ q=>q.elim;refine o_ (Po (o_ (NG (turn n s hI) (λr s₁ h₁=>?_) λ_ _ h'=>h')));cases r with
 |none=>exact z_ h₁
 |
  some v=>
  refine o_ (NG h₁ (λ_ s₁' h₁'=>?_) λ_ _ h'=>h');refine o_ (NG h₁' (λ_ s₂ h₂=>?_) λ_ _ h'=>h');refine o_ (NG h₂ (λok s₃ h₃=>?_) λ_ _ h'=>h');cases ok with
  |true=>simp only[OW] at h₃ ⊢;refine o_ (o_ (NG h₃ (λx s₄ h₄=>?_) λ_ _ h'=>h'));refine o_ (NG h₄ (λ_ s₅ h₅=>?_) λ_ _ h'=>h');exact z_ (z_ ⟨rfl,h₅⟩)
  |
   false=>
   simp only[NM,OM] at h₃ ⊢;first
    |exact o_ (z_ (z_ ⟨rfl,h₃⟩))
    |exact z_ ⟨rfl,h₃⟩
end
section
variable{X:Cx}
def PTs(X:Cx)(ifs:List Expr)(t:TT):Prop:=
 ∀
  (pins:Qu) (s:Shared) (σ:St) (H:Hp) (Q:Bool->Hp->Prop),Inv X pins σ H s->t σ H Q->
  wpAny (model X.prog X.w) X.A (forIn ifs true λc r=>if r=true then do let ok <- isTrue c X.env (eval c X.env);pure (ForInStep.yield ok) else pure (ForInStep.yield r)) (TP X pins σ Q) X.xe s
def F1:PTs X [] (λ_ H Q=>Q true H):=λpins s σ H Q I h=>by rw[Qk];exact z_ ⟨H,I,h⟩
structure LcEnd(X:Cx)(pins:Qu)(σ:St)(Q:VK)(D C:Addr)(s4:Shared):Prop where
 ns:∃m,s4.heap.Ns C m
 dc:D<C
 fr:X.env.locals<D
 cell:∀x c,X.env.cells.lookup x=some c->c<D
 pin:∀p∈X.pn++pins,p.1<D
 sz:X.s₀.heap.objs.size<=D
 inv:∃H',H' C=none/\Q (.ref D) H'/\∀h',Heap.SameBut C s4.heap h'->Inv X pins σ H' { s4 with heap:=h' }
def vL{elt iter tg:Expr}{ifs:List Expr}{scope:Scope}{pos:Pos}{wi:TI}{g:TG}{tc:TT}{te:TE}{N:List Str}{sub:Qw}{use:Option (Value->Sem Unit)}{R:Qv}{pins:Qu}{s:Shared}{σ:St}{H:Hp}{Q:VK}{fpos:Pos}
 (hc:X.calm=true) (hi:PI X tg iter wi)
 (hk:scope.kind=.function) (hnc:∀x∈scope.names,x.2 ≠ .cell) (f_:∀x∈scope.names,x.2=.local->scope.names.lookup x.1=some .local)
 (hfr:∀x∈scope.names,x.2=.free->X.env.kindOf x.1=some .cell\/X.env.kindOf x.1=some .free)
 (hsl:sub.length=N.length) (hsub:∀(j i:Nat) (x:Str),sub[j]?=some (some i)->N[j]?=some x->X.N[i]?=some x/\scope.names.lookup x=some .free)
 (hg:∀cl C s₂ H fp,PG (bR X N scope cl C s₂ H fp) tg g) (ht:∀cl C s₂ H fp,PTs (bR X N scope cl C s₂ H fp) ifs tc) (he:∀cl C s₂ H fp,PE (bR X N scope cl C s₂ H fp) elt te)
 (hs:∀x,foldedSetIterable iter X.env x=pure x) (I:Inv X pins σ H s) (h:qu wi sub g tc te σ H Q)
 (d_:∀D C s4,LcEnd X pins σ Q D C s4->compPost (model X.prog X.w) X.A X.xe use R (.ref D) C (.ok .next) s4):
 wpAny (model X.prog X.w) X.A (comprehension (.ListComp elt [⟨tg,iter,ifs,0⟩] scope pos) scope X.env fpos (newList []) false (eval iter X.env) use) R X.xe s:=by
 obtain⟨cl,hclos,hcl,hclf⟩:=qf (env:=X.env) (scope:=scope) λx hx hf=>I.ok.has x.1 (hfr x hx hf);refine wpAny_comprehension_free rfl hs hclos hk f_ ?_;show wpAny _ _ (eval iter X.env) _ _ _;refine thn (hi pins s σ H _ I h) λv s1 h1=>thn h1 λitv s2 h2=>?_;obtain⟨it,fp,tn,J,H2,e,I2,T,st2,f2,W,⟨m0,w0⟩,turn⟩:=h2;subst e;refine NX (wpAny_newFunctionEnv hnc (by intro y hy;simp at hy) (λh₁ hns₁ hsb₁=>?_) hk);dsimp only at hns₁ hsb₁ ⊢;generalize hH2:s2.heap.push { cls:=.type "list",dict:=none,data:=.seq ([]:List Value).toArray }=G2 at hns₁ hsb₁ ⊢;have hC:G2.objs.size=s2.heap.objs.size+1:=by rw[<- hH2,Oh]
 have hDC:s2.heap.objs.size≠G2.objs.size:=by omega
 have below:∀b,b<s2.heap.objs.size->b≠G2.objs.size/\b≠s2.heap.objs.size:=λb hb=>⟨by omega,by omega⟩;have old:∀b o,s2.heap.get? b=some o->h₁.get? b=some o:=λb o e=>hsb₁.extBut b o (below b (y_ e)).1 (r_ _ (hH2 ▸ r_ _ e));have hD₁:h₁.get? s2.heap.objs.size=some { cls:=.type "list",dict:=none,data:=.seq ([]:List Value).toArray }:=hsb₁.extBut _ _ hDC (r_ _ (hH2 ▸ Em _ rfl));have fresh:∀a,s2.heap.objs.size<=a->s2.heap.get? a=none:=λa ha=>P8 ha;have cellOld:∀x c,cl.lookup x=some c->c<s2.heap.objs.size:=λx c e=>by obtain⟨v,z⟩:=I2.cell x c (hcl x c e);exact z.lt
 have fpOld:∀b∈fp,b<s2.heap.objs.size:=λb hb=>by obtain⟨o,e,_⟩:=T.obj _ _ st2 b hb;exact y_ e
 let Y:Cx:=bR X N scope cl G2.objs.size s2 H2 fp
 have okY:Y.Ok
  := by
  refine⟨I2.ok.mod,?_,I2.ok.glob,I2.ok.blt,?_,λx y c e1 e2=>I2.ok.inj x y c (hcl x c e1) (hcl y c e2),λx hx=>?_,λx c hfn _=>absurd hfn B_,I2.ok.hd,I2.ok.frames,.inl rfl,
   λb hb=>⟨?_,λx c e z=>?_⟩,I2.bs,Nu I2.ok.bsz I2.sz,λb o e hb=>?_,λb hb hf=>?_,I2.stack,I2.stkFree⟩
  .show (relabel scope X.env).kind=.function;exact hk
  .show s2.heap.objs.size<=G2.objs.size;omega
  .have hx':(
    relabel scope X.env).names.lookup x=some .cell\/(relabel scope X.env).names.lookup x=some .free:=hx
   have:∃k,
    (x,k)∈scope.names/\k=.free:=by
    have gen:∀(names:List (Str×NameKind)),(∀y∈names,y.2 ≠ .cell)->∀kk,(kk=NameKind.cell\/kk=NameKind.free)->(names.map λ(n,k)=>if (k==NameKind.free&&X.env.scope.kind == .function&&X.env.kindOf n==some .cell) then (n,NameKind.cell) else (n,k)).lookup x=some kk->∃k,(x,k)∈names/\k=.free:=by
     intro names;induction names with
     |nil=>intro _ kk _ e;simp at e
     |
      cons y r ih=>
      intro hn kk hkk e;obtain⟨n,k⟩:=y;rw[x_,Ov] at e;by_cases hkf:k=.free
      .subst hkf;by_cases hxn:x=n
       .exact⟨.free,by rw[hxn];exact s_,rfl⟩
       .have hb:(x==(if (NameKind.free==NameKind.free&&X.env.scope.kind == .function&&X.env.kindOf n==some .cell)=true then (n,NameKind.cell) else (n,NameKind.free)).1)=false:=by split <;> exact F_.mpr hxn
        rw[hb] at e;obtain⟨k',m,q⟩:=ih (λz hz=>hn z (q_ _ hz)) kk hkk e;exact⟨k',q_ _ m,q⟩
      .have hb0:(k==NameKind.free&&X.env.scope.kind == .function&&X.env.kindOf n==some .cell)=false:=by
        have:(k==NameKind.free)=false:=by simpa using hkf
        rw[this];rfl
       rw[hb0] at e;simp only[NM,OM] at e;cases q:x==n with
       |
        true=>
        rw[q] at e;have e':k=kk:=G_ e;subst e';rcases hkk with z |z
        .exact absurd z (hn (n,k) s_)
        .exact absurd z hkf
       |false=>rw[q] at e;obtain⟨k',m,q⟩:=ih (λz hz=>hn z (q_ _ hz)) kk hkk e;exact⟨k',q_ _ m,q⟩
    rcases hx' with z |z
    .exact gen scope.names hnc _ (.inl rfl) z
    .exact gen scope.names hnc _ (.inr rfl) z
   obtain⟨k,m,q⟩:=this;exact hclf (x,k) m q
  .show b≠G2.objs.size;exact (below b (fpOld b hb)).1
  .exact (f2 b hb).2.2.2.2.1 x c (hcl x c e) z
  .rcases (f2 b hb).2.2.2.1 with z |z
   .exact I2.ok.noex b o e z
   .exact absurd (Nn (y_ e) (Nu I2.ok.bsz z)) (N6 _)
  .have hf':b∈frs X.stack:=hf;rcases J_.mp (I2.stkSub b hf') with z |z
   .exact (f2 b hb).2.1 z
   .exact (f2 b hb).2.2.1 z
 have startLoc
  : ∃m,h₁.Ns G2.objs.size m/\∀(i:Nat) (x:Str) (v:V),N[i]?=some x->(eW sub σ)[i]?=some (some v)->Vis (relabel scope X.env) x->∃u,RelV v u/\Look Y.env h₁ m x u:=by
  refine⟨_,hns₁,λj x v e1 e2 e3=>?_⟩;unfold eW at e2;rw[Nm] at e2;cases q:sub[j]? with
  |none=>rw[q] at e2;cases e2
  |
   some o=>
   rw[q] at e2;cases o with
   |none=>cases e2
   |
    some i=>
    obtain⟨hNi,hfree⟩:=hsub j i x q e1;have e2':(σ[i]?).bind id=some v:=G_ e2;have e2'':σ[i]?=some (some v):=by
     cases z:σ[i]? with
     |none=>rw[z] at e2';cases e2'
     |some y=>rw[z] at e2';rw[show y=some v from e2']
    obtain⟨m2,hn2,hl2⟩:=I2.loc;have hkx:=hfr (x,.free) (Ot hfree) rfl;obtain⟨u,r,l⟩:=hl2 i x v hNi e2'' (by rcases hkx with z |z;exact .inr (.inl z);exact .inr (.inr z));refine⟨u,r,.inr ⟨?_,?_⟩⟩
    .rcases e3
      with z |z |z
     .exfalso;have gen:∀(names:List (Str×NameKind)),names.lookup x=some .free->(names.map λ(n,k)=>if (k==NameKind.free&&X.env.scope.kind == .function&&X.env.kindOf n==some .cell) then (n,NameKind.cell) else (n,k)).lookup x=some .local->False:=by
       intro names;induction names with
       |nil=>intro e _;simp at e
       |
        cons y r ih=>
        intro e1 e2;obtain⟨n,k⟩:=y;rw[Ov] at e1;rw[x_,Ov] at e2;by_cases hxn:x=n
        .have hb1:(x==n)=true:=NA.mpr hxn;rw[hb1] at e1;have:k=.free:=G_ e1;subst this;split at e2
         .rename_i hq;split at e2 <;> cases e2
         .rename_i hq;split at hq <;> (rw[hb1] at hq;cases hq)
        .have hb1:(x==n)=false:=F_.mpr hxn;rw[hb1] at e1;refine ih e1 ?_;split at e2
         .rename_i hq;split at hq <;> (rw[hb1] at hq;cases hq)
         .exact e2
      exact gen scope.names hfree z
     .exact .inl z
     .exact .inr z
    .obtain⟨c,hc'⟩:=hclf (x,.free) (Ot hfree) rfl;refine⟨c,hc',?_⟩;rcases l with ⟨k,_⟩ |⟨_,c2,ec2,z⟩
     .rcases hkx with z |z <;> (rw[k] at z;cases z)
     .have:=hcl x c hc'
      rw[ec2] at this;cases this;obtain⟨oc,hoc,hd⟩:=z;exact⟨oc,old _ _ hoc,hd⟩
 have pinD:∀{σ':St}{H':Hp}{s':Shared}{pl:Qu}{o:Obj},Inv Y pl σ' H' s'->s'.heap.get? s2.heap.objs.size=some o->(∀v,o.data ≠ .cell v)->H' s2.heap.objs.size=none->Inv Y [(s2.heap.objs.size,o)] σ' H' s':=λ{σ' H' s' pl o} IY e d n=>
  IY.pins_of λp hp=>by
   have e':p=(s2.heap.objs.size,o):=by simpa using hp
   subst e';refine⟨e,n,?_,?_,d⟩
   .show s2.heap.objs.size≠G2.objs.size;omega
   .intro hf;have hf':s2.heap.objs.size∈frs X.stack:=hf;obtain⟨_,o',ho',_⟩:=I2.stack.mem hf';exact absurd (y_ ho') (N6 _)
 have fpY:∀{H':Hp}{pl:Qu},(∀b∈fp,H' b=none)->(∀p∈pl,p.1∉fp)->∀b∈fp,FpOk Y pl H' b:=λ{H' pl} hn hp b hb=>by
  refine⟨hn b hb,?_,?_,.inl hb,λx c e=>?_,λp hp'=>?_⟩
  .exact (okY.exf b hb).1
  .exact okY.exfs b hb
  .exact (okY.exf b hb).2 x c e
  .intro z;have hp'':p∈pl:=by simpa [Y,bR] using hp'
   exact hp p hp'' (by rw[z];exact hb)
 have hDfp:s2.heap.objs.size∉fp:=λz=>N6 _ (fpOld _ z);have loop
  : ∀s₃:Shared,s₃={ s2 with heap:=h₁,toks:=s2.toks+([]:List (Str×Value)).length }->
  codeAny (model X.prog X.w) X.A (.compLoop (.ListComp elt [⟨tg,iter,ifs,0⟩] scope pos) 0 (.ref it) (.ref s2.heap.objs.size) (compEnvC scope cl G2.objs.size X.env))
   (compPost (model X.prog X.w) X.A X.xe use R (.ref s2.heap.objs.size) G2.objs.size) s₃:=by
  rintro s₃ rfl;have IY0:Inv Y [(s2.heap.objs.size,{ cls:=.type "list",dict:=none,data:=.seq ([]:List Value).toArray })] (eW sub σ) H2 { s2 with heap:=h₁,toks:=s2.toks+([]:List (Str×Value)).length }:=by
   have J0:Inv Y [] (eW sub σ) H2 { s2 with heap:=h₁,toks:=s2.toks+([]:List (Str×Value)).length }:=by
    refine⟨okY,rfl,I2.bare,Un.kept old,startLoc,λx c e=>?_,I2.hok.fresh (by show s2.heap.objs.size<=G2.objs.size;omega),λx c e=>I2.freeC x c (hcl x c e),λp hp=>absurd (show p∈([]:Qu) from hp) (by simp),I2.hok.kept old,?_⟩
    .obtain⟨v,oc,hoc,hd⟩:=I2.cell x c (hcl x c e);exact⟨v,oc,old _ _ hoc,hd⟩
    .show (eW sub σ).length=N.length;unfold eW;rw[p_];exact hsl
   exact pinD J0 hD₁ (λv z=>by cases z) I2.fresh
  refine rn (λn s'=>∃(i:Nat) (ys:List V) (its:List Value) (k:Nat) (σ':St) (H':Hp),Inv Y [(s2.heap.objs.size,{ cls:=.type "list",dict:=none,data:=.seq its.toArray k })] σ' H' s'/\Vals ys its/\tn i s'.heap/\(∀b∈fp,H' b=none)/\W i n ys σ' H') ?_ m0
   ⟨0,[],[],0,eW sub σ,H2,IY0,.nil,T.keep _ _ _ st2 (λb hb o e=>old b o e),λb hb=>(f2 b hb).1,w0⟩
  rintro n s3 ⟨i,ys,its,k,σ3,H3,I3,rv,st3,fr3,w3⟩;have npl:∀(o:Obj),∀p∈[(s2.heap.objs.size,o)],p.1∉fp:=λo p hp=>by
   have e':p=(s2.heap.objs.size,o):=by simpa using hp
   subst e';exact hDfp
  rcases turn i n ys σ3 H3 w3 with ⟨stop,hz,qn⟩ |⟨go,hz,Nx,hNx,step⟩
  .refine NG (T.done Y rfl rfl rfl hc i _ s3 σ3 H3 (λ_ _=>False) I3 (fpY fr3 (npl _)) st3 stop) (λr s4 ⟨hr,I4⟩=>?_) λ_ _ z=>z;subst hr;obtain⟨m4,hn4,_⟩:=I4.loc;have hCfree:H3 G2.objs.size=none:=I4.free;have hD4:=I4.pin (s2.heap.objs.size,{ cls:=.type "list",dict:=none,data:=.seq its.toArray k }) (Nw _ s_);have un4:Un (frs X.stack) fp H2 H3 s2.heap s4.heap:=I4.base;have ne2:∀b o,s2.heap.get? b=some o->b≠G2.objs.size:=λb o e=>(below b (y_ e)).1;have hDfree:H3 s2.heap.objs.size=none:=hD4.2.1;have sz0:X.s₀.heap.objs.size<=s2.heap.objs.size:=I2.sz;refine d_ s2.heap.objs.size G2.objs.size s4 ⟨⟨m4,hn4⟩,by rw[hC];exact Nat.lt_succ_self _,I2.lt,λx c e=>?_,λp hp=>y_ (I2.pin p hp).1,sz0,upd H3 s2.heap.objs.size (.lst ys),by rw[aC (Ne.symm hDC)];exact hCfree,qn _ hDfree,λh' hs'=>?_⟩
   .obtain⟨v,q⟩:=I2.cell x c e;exact q.lt
   have up:∀b o,b≠G2.objs.size->s4.heap.get? b=some o->h'.get? b=some o:=λb o hb e=>hs'.extBut b o hb e;have un5:Un (frs X.stack) fp H2 H3 s2.heap h':=by
    refine⟨λb o e n hb hx=>up b o (ne2 b o e) (un4.keep b o e n hb hx),λb o e n hb hx=>?_,un4.free,λb o e hx=>?_,un4.tups,un4.frzs,un4.tbls⟩
    .obtain⟨sl,q⟩:=un4.slot b o e n hb hx;exact⟨sl,up b _ (ne2 b o e) q⟩
    .obtain⟨o',q⟩:=un4.there b o e hx;exact⟨o',up b _ (ne2 b o e) q⟩
   have hok5:HOk X.prog X.w H3 h':=λb u e=>(I4.hok b u e).stay (λc v hcc q=>up c v (λz=>by
    rcases hcc with zz |zz
    .rw[zz] at z;rw[z,hCfree] at e;cases e
    .rw[z,hCfree] at zz;cases zz) q) (λ_ q=>q) λ_ _ q=>q
   have I5:Inv X pins σ H3 { s4 with heap:=h' }:=I2.call' (s':={ s4 with heap:=h' }) (ch:=fp) I4.os un5 hok5 I4.bare λb hb=>by obtain⟨_,g1,_,g3,g4,g5⟩:=f2 b hb;exact⟨g3,g1,g4,g5⟩
   refine I5.track (o:=.lst ys) hDfree (P8 sz0) (OD I2.lt) (λx c e z=>?_) (λp hp z=>?_) ?_
   .obtain⟨v,q⟩:=I2.cell x c e;exact absurd q.lt (by rw[z];exact N6 _)
   .exact absurd (y_ (I2.pin p hp).1) (by rw[z];exact N6 _)
   .exact⟨hz,its,k,rv,up _ _ hDC hD4.1⟩
  .refine NG (T.item Y rfl rfl rfl hc i _ s3 σ3 H3 (λ_ _=>False) I3 (fpY fr3 (npl _)) st3 go) (λr s4 ⟨u,hr,h4⟩=>?_) λ_ _ z=>z;subst hr;refine NG h4 (λ_ s5 ⟨x,H5,I5,r5,y5,st5,fr5⟩=>?_) λ_ _ z=>z;have I5':=I5.pinned (fpY fr5 (npl _)) (T.obj _ _ st5);refine NG (hg cl G2.objs.size s2 H2 fp _ s5 σ3 H5 x u _ I5' r5 (step x H5 y5)) (λ_ s6 ⟨σ6,H6,I6,q6⟩=>?_) λ_ _ z=>z;refine NG (ht cl G2.objs.size s2 H2 fp _ s6 σ6 H6 _ I6 q6) (λok s7 ⟨H7,I7,q7⟩=>?_) λ_ _ z=>z;have back:∀{σ':St}{H':Hp}{s':Shared},Inv Y ([(s2.heap.objs.size,{ cls:=.type "list",dict:=none,data:=.seq its.toArray k })]++j8 fp s5.heap) σ' H' s'->tn (i+1) s'.heap/\∀b∈fp,H' b=none:=λ{σ' H' s'} IB=>by refine⟨T.keep _ _ _ st5 λb hb o e=>(IB.pin (b,o) (Nw _ (Nw _ (gM hb e)))).1,λb hb=>?_⟩;obtain⟨o,e,d⟩:=T.obj _ _ st5 b hb;exact (IB.pin (b,o) (Nw _ (Nw _ (gM hb e)))).2.1
   cases ok with
   |false=>rw[if_neg B_] at q7;obtain⟨m',hm,w7⟩:=hNx _ _ _ q7;rw[if_neg B_];obtain⟨t7,f7⟩:=back I7;exact⟨m',hm,i+1,ys,its,k,σ6,H7,I7.unpinned,rv,t7,f7,w7⟩
   |
    true=>
    rw[if_pos rfl] at q7;rw[if_pos rfl];refine NG (he cl G2.objs.size s2 H2 fp _ s7 σ6 H7 _ I7 q7) (λy s8 zz=>exA zz λyv H8 I8 r8 q8=>?_) λ_ _ z=>z;obtain⟨m',hm,w8⟩:=hNx _ _ _ q8;obtain⟨t8,f8⟩:=back I8;have I9:=I8.unpinned;have hD9:=I9.pin (s2.heap.objs.size,{ cls:=.type "list",dict:=none,data:=.seq its.toArray k }) (Nw _ s_);have e9:s8.heap.get? s2.heap.objs.size=some { cls:=.type "list",dict:=none,data:=.seq its.toArray k }:=hD9.1;have a_:=rv.length;refine call_meets F.slot_list_append ⟨_,e9,rfl⟩ F.entry_list_append (F.args_list_append_2 _ _) (PySem.list_append _ its.toArray k y (by rw[A_];omega)) ⟨e9,?_⟩;have q9:=PySem.IsL.update e9 (λxs=>xs.push y);have ea:its.toArray.push y=(its++[y]).toArray:=by simp
    rw[ea] at q9;have k9:∀b o,b≠s2.heap.objs.size->s8.heap.get? b=some o->(s8.heap.update s2.heap.objs.size (Obj.mapSeq λxs=>xs.push y)).get? b=some o:=λb o hb e=>(NN _ _ (Ne.symm hb)).trans e;have I10:Inv Y [] σ6 H8 { s8 with heap:=s8.heap.update s2.heap.objs.size (Obj.mapSeq λxs=>xs.push y) }:=
     (I9.pins_of (pins':=[]) (λp hp=>nomatch hp)).turned (t':=s8.toks) k9 hD9.2.1 hD9.2.2.1 (.inr (t_ _)) (λx c e z=>absurd (cellOld x c e) (by rw[z];exact N6 _))
      (λp hp=>absurd (show p∈([]:Qu) from hp) (by simp))
    refine⟨m',hm,i+1,ys++[yv],its++[y],_,σ6,H8,pinD I10 q9 (λv z=>by cases z) hD9.2.1,rv.append (.cons r8 .nil),?_,f8,w8⟩;exact T.keep _ _ _ t8 λb hb o e=>k9 b o (λz=>hDfp (by rw[<- z];exact hb)) e
 exact codeAny_compStart_list (loop _ rfl) (T.self _ 0 _ _ _ (T.keep _ _ _ st2 λb hb o e=>old b o e) (loop _ rfl))
def IE{elt iter tg:Expr}{ifs:List Expr}{scope:Scope}{pos:Pos}{wi:TI}{g:TG}{tc:TT}{te:TE}{N:List Str}{sub:Qw}
 (hc:X.calm=true) (hi:PI X tg iter wi)
 (hk:scope.kind=.function) (hnc:∀x∈scope.names,x.2 ≠ .cell) (f_:∀x∈scope.names,x.2=.local->scope.names.lookup x.1=some .local)
 (hfr:∀x∈scope.names,x.2=.free->X.env.kindOf x.1=some .cell\/X.env.kindOf x.1=some .free)
 (hsl:sub.length=N.length) (hsub:∀(j i:Nat) (x:Str),sub[j]?=some (some i)->N[j]?=some x->X.N[i]?=some x/\scope.names.lookup x=some .free)
 (hg:∀cl C s₂ H fp,PG (bR X N scope cl C s₂ H fp) tg g) (ht:∀cl C s₂ H fp,PTs (bR X N scope cl C s₂ H fp) ifs tc) (he:∀cl C s₂ H fp,PE (bR X N scope cl C s₂ H fp) elt te)
 (hs:∀x,foldedSetIterable iter X.env x=pure x):
 PE X (.ListComp elt [⟨tg,iter,ifs,0⟩] scope pos) (qu wi sub g tc te):=by
 intro pins s σ H Q I h;rw[eval_ListComp];refine vL hc hi hk hnc f_ hfr hsl hsub hg ht he hs I h λD C s4 e=>?_;obtain⟨m,hm⟩:=e.ns;obtain⟨H',_,q,i⟩:=e.inv;exact⟨m,hm,λh' hs'=>⟨.ref D,H',i h' hs',rfl,q⟩⟩
noncomputable def qw (M:List Str) (names:List (Str×NameKind)) (sub:Qw) (N:List Str):Bool:=(sub.zip N).all λp=>match p.1 with
 |none=>true
 |some i=>M[i]?==some p.2&&names.lookup p.2==some .free
def tE{M:List Str}{names:List (Str×NameKind)}{sub:Qw}{N:List Str}(h:qw M names sub N=true)(j i:Nat)(x:Str)(h1:sub[j]?=some (some i))(h2:N[j]?=some x):
 M[i]?=some x/\names.lookup x=some .free:=by
 unfold qw at h;rw[NB] at h;have hm:(some i,x)∈sub.zip N:=by refine Oi (i:=j) ?_;rw[List.getElem?_zip_eq_some];exact⟨h1,h2⟩
 have q:=h _ hm;simp only[u_,NA] at q;exact q
noncomputable def x9 (kn names:List (Str×NameKind)):Bool:=names.all λx=>x.2 != .free || kn.lookup x.1==some .cell || kn.lookup x.1==some .free
def vF{kn names:List (Str×NameKind)}(h:x9 kn names=true):∀x∈names,x.2=.free->kn.lookup x.1=some .cell\/kn.lookup x.1=some .free:=λx hx hf=>by unfold x9 at h;rw[NB] at h;have q:=h x hx;rw[hf] at q;simpa using q
end
open PySem PySem.Spec PyProof.Rows PySem.W PySem.Builtin PySem.Builtin.ObjectAttr PySem.Builtin.Getset_descriptor
structure XCls(K:W.Frag)(C:Addr):Prop where
 cls:(clsIn K C).isSome=true
 ga:findIn K (.ref C) "__getattribute__"=some (some (.builtin "BaseException.__getattribute__"))
 gt:findIn K (.ref C) "__getattr__"=some none
 at_:findIn K (.ref C) "__class__"=some (some (.builtin "object.__class__"))
 gs:specialIn K (.builtin "object.__class__") "__get__"=some (some (.builtin "getset_descriptor.__get__"))
 tk:takesIn K (.builtin "object.__class__")=some true
 mo:mroIn K C (.type "object")=some true
 mb:mroIn K C (.type "BaseException")=some true
section
variable{prog:Program}{w:World}{A:Around}{E:Qv}{K:W.Frag}{x C:Addr}{o:Obj}
def jO(hx:h.get? x=some o)(hc:o.cls=.ref C):Looks M h (typeOf (.ref x)) (.ref C):=hc ▸ (Looks.ld hx).andThen .now
def AV(X:K.In h)(T:XCls K C):Looks M h (find (.ref x) (.ref C) "__class__") (.bind (.builtin "getset_descriptor.__get__") (.builtin "object.__class__")):=by have L1:=looks_findIn (M:=M) X T.at_;have L2:Looks M h (getOf (some (.builtin "object.__class__"))) (some (.builtin "getset_descriptor.__get__")):=looks_specialIn X T.gs;have L3:=looks_takesIn (M:=M) X T.tk;refine L1.andThen (L2.andThen ?_);exact (show Looks M h (dataDescriptor? (some (.builtin "object.__class__")) (some (.builtin "getset_descriptor.__get__"))) (some (.builtin "getset_descriptor.__get__",.builtin "object.__class__")) from L3.andThen .now).andThen (Looks.tag .now)
def qa(X:K.In s.heap)(hx:s.heap.get? x=some o)(hc:o.cls=.ref C)(T:XCls K C)
 (h:R (.ok (.ret (.ref C))) s):codeAny (model prog w) A (.call (.builtin "getset_descriptor.__get__") ⟨[.builtin "object.__class__",.ref x,tp],[]⟩) R s:=by
 obtain⟨hh,g,dr,t,os⟩:=s;have L0:=jO (M:=model prog w) hx hc;have L1:=looks_mroIn (M:=model prog w) X T.mo;refine codeAny_call_builtin KF.slot_gs.plain KF.entry_gs (KF.slot_gs.check _ _ _ _ _ _ _ _ KF.type_class (KF.args_gs _ _ _) ?_);unfold Builtin.«getset_descriptor.__get__» descrGet;rw[dga_obj];refine o_ (z_ ?_);unfold descrGetter descrCheckInstance descrNameAndClass isInstance;simp only[KF.owner_class];repeat lk
 refine⟨Code.quiet_builtin _ (by decide),O_ KF.entry_class ?_⟩;unfold Builtin.«object.__class__» shownTypeOf;repeat lk
 exact h
def Ax(X:K.In s.heap)(hx:s.heap.get? x=some o)(hc:o.cls=.ref C)(T:XCls K C)(hq:Q () s):
 wpAny M A (checkBuiltinCall "BaseException.__getattribute__" ⟨[.ref x,nameV],[]⟩) Q E s:=by
 obtain⟨h,g,dr,t,os⟩:=s;have hk:builtinKind "BaseException.__getattribute__"=some .slot:=by decide
 have hsplit:splitId "BaseException.__getattribute__"=some ("BaseException", "__getattribute__"):=by decide
 have ha:=PySem.F.args_bexc_ga (.ref x) nameV;have L0:=jO (M:=M) hx hc;have LM:=looks_mroIn (M:=M) X T.mb;have LI:Looks M h (isInstance (.ref x) (.type "BaseException")) true:=L0.andThen LM;simp only[checkBuiltinCall,hk,hsplit];refine o_ ?_;refine LI.at ?_;repeat (first |wp_step)
 all_goals exact hq
def Hj(X:K.In s.heap)(hx:s.heap.get? x=some o)(hc:o.cls=.ref C)(T:XCls K C)(h:Q (some (.ref C)) { s with toks:=s.toks+1 }):
 wpAny (model prog w) A (getAttr? (.ref x) "__class__") Q E s:=by
 obtain⟨hh,g,d,t,os⟩:=s;have L0:=jO (M:=model prog w) hx hc;have L1:=looks_findIn (M:=model prog w) X T.ga;have L2:=looks_findIn (M:=model prog w) X T.gt;have LF:=AV (M:=model prog w) (x:=x) X T;have f3:=PySem.F.excAttr_ValueError.ga.bind (.ref x);have hx2:(Value.builtin "BaseException.__getattribute__" == Value.builtin "object.__getattribute__")=false:=by decide
 unfold getAttr? getAttrBy? getAttrBy;refine o_ (wpAny_mkText (o_ (Pn (Og (o_ (L0.at (o_ (L1.at ?_))))))));dsimp only;rw[if_neg (by rw[hx2];simp)];unfold getAttrByItsOwn hookBefore;rw[if_pos (show onTheHeap (Value.ref C)=true from rfl)];refine o_ (L2.at ?_);unfold callGetattribute;refine o_ (Pn (Og ?_));rw[if_neg (by simp)];unfold boundAndCalled;refine o_ (wpAny_of_eq f3 ?_);refine wpAny_call (codeAny_call_builtin PySem.F.excAttr_ValueError.ga.plain PySem.F.entry_bexc_ga (Ax X hx hc T ?_));unfold Builtin.«object.__getattribute__»;repeat (first |(refine o_ (L0.at ?_)) |(refine o_ (LF.at ?_)) |wp_step)
 refine qa (s:=⟨hh,g,d,t+1,os⟩) X hx hc T ?_;repeat (first |exact h |wp_step)
def w9(x:Addr)(C:Addr)(h:Heap):Prop:=∃o vs,h.get? x=some o/\o.cls=.ref C/\o.data=.fields vs
def BG(T:XCls K C):KitX K (.ref x) (.ref C) (w9 x C) where
 ty:=λM h _ ⟨o,_,hx,hc,_⟩=>jO hx hc
 it:=λM h X _=>by
  obtain⟨cd,n_⟩:=Oa.mp T.cls;unfold clsIn at n_;split at n_
  .rename_i c' d' cd' sl' ho;intro A' Q' E' s' k q;unfold isType loadHead;exact o_ (wpAny_loadPart (k _ _ (X _ _ ho)) (z_ q))
  .cases n_
 ne:=λh tp dd its n sl X htp=>by
  obtain⟨cd,n_⟩:=Oa.mp T.cls;refine Bool.eq_false_iff.mpr λq=>?_;have e:C=tp:=Value.ref.inj (NA.mp q);subst e;unfold clsIn at n_;split at n_
  .rename_i c' d' cd' sl' ho;have z:=(X _ _ ho).symm.trans htp;cases z
  .cases n_
 ca:=λX ⟨o,_,hx,hc,_⟩ k=>Hj X hx hc T k
end
inductive TyX(K:W.Frag)(H:Hp):V->Value->Prop where
 |of {x:V}{t:Value} (h:TyOf K H x t):TyX K H x t
 |exc {a C:Addr} (e:H a=some (.ext (w9 a C))) (T:XCls K C):TyX K H (.ref a) (.ref C)
 |sqT {a:Addr}{xs:List V} (h:SqT K H a xs):TyX K H (.ref a) (.type "tuple")
 |sqL {a:Addr}{xs:List V} (h:SqL K H a xs):TyX K H (.ref a) (.type "list")
section
variable{X:Cx}{pins:Qu}{σ:St}{H:Hp}{s:Shared}{c:Value}
def vJ(I:Inv X pins σ H s)(rx:RelV x u)(ty:TyX X.K H x t):∃Hh:Heap->Prop,KitX X.K u t Hh/\Hh s.heap/\u ≠ .builtin "__main__.__loader__#opaque":=by
 cases ty with
 |exc ea T=>cases (show u=Value.ref _ from rx);exact⟨_,BG T,(I.hok _ _ ea).1,λz=>nomatch z⟩
 |sqT h=>cases (show u=Value.ref _ from rx);obtain⟨its,rv,⟨o,e,c,_⟩,_⟩:=I.tuple h;exact⟨_,kitx_tuple,⟨o,e,c⟩,λz=>nomatch z⟩
 |sqL h=>cases (show u=Value.ref _ from rx);obtain⟨its,rv,⟨o,n,e,c,_⟩,_⟩:=I.list h;exact⟨_,kitx_list,⟨o,e,c⟩,λz=>nomatch z⟩
 |
  of ty=>
  cases ty with
  |non=>cases (show u=Value.none from rx);exact⟨_,kitx_none,True.intro,λz=>nomatch z⟩
  |bl y=>cases (show u=Value.bool y from rx);exact⟨_,kitx_bool,True.intro,λz=>nomatch z⟩
  |int i=>obtain⟨t,q⟩:=(show ∃t,u=Value.int i t from rx);cases q;exact⟨_,kitx_int,True.intro,λz=>nomatch z⟩
  |str y=>obtain⟨t,q⟩:=(show ∃t,u=Value.str y t from rx);cases q;exact⟨_,kitx_str,True.intro,λz=>nomatch z⟩
  |flt y=>obtain⟨t,q⟩:=(show ∃t,u=Value.float y t from rx);cases q;exact⟨_,kitx_float,True.intro,λz=>nomatch z⟩
  |@lst a xs ea=>cases (show u=Value.ref a from rx);obtain⟨_,_,n,_,h1⟩:=(show ObjOk X.prog X.w H s.heap a (.lst xs) from I.hok a _ ea);exact⟨_,kitx_list,⟨_,h1,rfl⟩,λz=>nomatch z⟩
  |@frz a ob xs ea=>cases (show u=Value.ref a from rx);obtain⟨_,_,_,n,_,h1⟩:=(show ObjOk X.prog X.w H s.heap a (.frz ob (.lst xs)) from I.hok a _ ea);exact⟨_,kitx_list,⟨_,h1,rfl⟩,λz=>nomatch z⟩
  |@tup a xs ea=>cases (show u=Value.ref a from rx);obtain⟨_,_,_,p⟩:=(show ObjOk X.prog X.w H s.heap a (.tup xs) from I.hok a _ ea);obtain⟨o,h1,h2,_⟩:=p;exact⟨_,kitx_tuple,⟨o,h1,h2⟩,λz=>nomatch z⟩
  |@dK a kvs ea=>cases (show u=Value.ref a from rx);obtain⟨_,_,vs,_,p⟩:=(show ObjOk X.prog X.w H s.heap a (.dK kvs) from I.hok a _ ea);obtain⟨o,es,ep,h1,h2,_⟩:=p;exact⟨_,kitx_dict,⟨o,h1,h2.1⟩,λz=>nomatch z⟩
  |@dT a kvs ea=>cases (show u=Value.ref a from rx);obtain⟨_,_,xs,_,o,es,ep,h1,h2,_⟩:=(show ObjOk X.prog X.w H s.heap a (.dT kvs) from I.hok a _ ea);exact⟨_,kitx_dict,⟨o,h1,h2.1⟩,λz=>nomatch z⟩
  |@ins a C dx fs ea cl ha hn htk hm=>cases (show u=Value.ref a from rx);obtain⟨mA,O,_⟩:=Gg I.hok ea;obtain⟨od,J,_⟩:=O.look;exact⟨_,kitx_own (cl.get _) cl.hd ha hn htk hm,J,λz=>nomatch z⟩
end
section
variable{X:Cx}
noncomputable def gk:V->Option Value
 |.ref C=>some (.ref C)
 |.ty T=>some (.type T)
 |_=>none
def uc(h:gk c=some v)(r:RelV c u):u=v:=by
 cases c with
 |ref C=>cases r;exact G_ h
 |ty T=>cases r;exact G_ h
 |_=>cases h
theorem pA:∀{cs:List V}{us vs:List Value},cs.mapM gk=some vs->Vals cs us->us=vs
 |
  [],_,vs,h,.nil=>by
  have h':some ([]:List Value)=some vs:=h;exact G_ h'
 |
  c::cs,_,vs,h,.cons r rr=>by
  rw[List.mapM_cons] at h;cases q:gk c with
  |none=>rw[q] at h;cases h
  |
   some v=>
   rw[q] at h;cases q2:cs.mapM gk with
   |none=>rw[q2] at h;cases h
   |some vs'=>rw[q2] at h;have h':some (v::vs')=some vs:=h;cases h';rw[uc q r,pA q2 rr]
def Cg:CallR X (.builtin "isinstance") (λxs H Q=>∃x c t v b,xs=[x,c]/\TyX X.K H x t/\gk c=some v/\kitOne X.K t v=some b/\Q (.bl b) H):=by intro pins s σ H xs us Q I r h;obtain⟨x,c,t,v,b,rfl,ty,hc,hk,q⟩:=h;obtain⟨u,w',rfl,rx,rc⟩:=m7 r;obtain rfl:=uc hc rc;obtain⟨Hh,Z,p,hne⟩:=vJ I rx ty;exact kia_one Z I.kIn p hk hne λtk=>⟨.bl b,H,I.tok _,rfl,q⟩
end
def ObjOk.there(x:ObjOk P w H h a o):∃u,h.get? a=some u:=by
 cases o with
 |lst xs=>obtain⟨_,_,_,_,e⟩:=x;exact⟨_,e⟩
 |tup xs=>obtain⟨_,_,_,ob,e,_⟩:=x;exact⟨_,e⟩
 |dK kvs=>obtain⟨_,_,_,_,o,_,_,e,_⟩:=x;exact⟨_,e⟩
 |dT kvs=>obtain⟨_,_,_,_,o,_,_,e,_⟩:=x;exact⟨_,e⟩
 |set S n=>obtain⟨o,_,_,_,e,_⟩:=x;exact⟨_,e⟩
 |ins C dx fs=>obtain⟨_,_,_,e,_⟩:=x;exact⟨_,e⟩
 |own y=>exact x
 |xd fs=>obtain⟨_,⟨_,_,_,e,_⟩,_⟩:=x;exact⟨_,e⟩
 |rng lo hi=>obtain⟨_,_,_,e⟩:=x;exact⟨_,e⟩
 |frz ob u=>obtain⟨e,_⟩:=x;exact⟨_,e⟩
 |tbl ps=>exact⟨_,show h.get? a=some _ from x⟩
 |met f y=>exact⟨_,show h.get? a=some _ from x⟩
 |ext φ=>obtain⟨_,e,_⟩:=x;exact e
structure Fly(P:Program)(w:World)(outer:List Env)(H:Hp)(h₀:Heap)(H':Hp)(ea:Addr)(cls:Value)(h:Heap)(B:Heap)(t:Addr):Prop where
 un:Un (frs outer) [] H H' h₀ h
 hok:HOk P w H' h
 fl:Heap.FlyingW B outer ea cls (.ref t) h
 old:∀b o,h₀.get? b=some o->b∉frs outer->∃o',B.get? b=some o'
 trk:∀b o,H' b=some o->∃o',B.get? b=some o'
def CX1(P:Program)(w:World):CXT:=λouter H s E e s'=>∃(ea t:Addr) (cls:Value) (H':Hp) (B:Heap),e=.ref ea/\s'.os=s.os/\AllBare s'.gens/\Fly P w outer H s.heap H' ea cls s'.heap B t/\E cls none H'
def rO(h:env.frame=some L):frs (env::outer)=L::frs outer:=by unfold frs;rw[OJ,h]
section
variable{P:Program}{w:World}{outer:List Env}{H H':Hp}{h₀ h h' B:Heap}{ea t:Addr}{cls:Value}
def Fly.step(F:Fly P w outer H h₀ H' ea cls h B t)(fl':Heap.FlyingW B outer' ea cls (.ref t) h')(up:h.UpToSlots h'):
 Un (frs outer) [] H H' h₀ h'/\HOk P w H' h':=by
 have st:=F.fl.1;have same:∀b o,(∃o',B.get? b=some o')->h.get? b=some o->h'.get? b=some o:=λb o ⟨o',e⟩ q=>by have z:=st b o' e;rw[q] at z;cases z;exact fl'.1 b _ e
 have frame:∀b o,b∈frs outer->h.get? b=some o->∃sl,h'.get? b=some { o with slots:=sl }:=λb o hb q=>by obtain⟨_,o',ho',hd⟩:=F.fl.2.2.1.mem hb;rw[q] at ho';cases ho';exact up b o q hd
 refine⟨⟨λb o e n hb hx=>same b o (F.old b o e hb) (F.un.keep b o e n hb hx),λb o e n hb hx=>?_,F.un.free,λb o e hx=>?_,F.un.tups,F.un.frzs,F.un.tbls⟩,λa o e=>?_⟩
 .obtain⟨sl,q⟩:=F.un.slot b o e n hb hx;obtain⟨sl',q'⟩:=frame b _ hb q;exact⟨sl',q'⟩
 .obtain⟨o',q⟩:=F.un.there b o e hx;by_cases hb:b∈frs outer
  .obtain⟨sl,q'⟩:=frame b _ hb q;exact⟨_,q'⟩
  .exact⟨o',same b o' (F.old b o e hb) q⟩
 .refine (F.hok a o e).stay (λb u hb q=>same b u ?_ q) (λ_ q=>q) λ_ _ q=>q;rcases hb with z |z
  .rw[z];exact F.trk a o e
  .exact F.trk b _ z
end
structure Cx.Top(X:Cx):Prop where
 ex:X.ex=[]
 stk:X.stack=X.env::X.outer
 fr:X.env.frame=some X.env.locals
section
variable{X:Cx}{pins:Qu}{σ:St}{H:Hp}{s s':Shared}{E:XK}{e:Value}
def zR(T:X.Top)(hA:A.frames=some X.stack)(I:Inv X pins σ H s)(h:CX1 X.prog X.w X.stack H s E e s'):
 wpAny (model X.prog X.w) A (leaving X.env e) (λ_ s''=>CX1 X.prog X.w X.outer X.H₀ X.s₀ E e s'') E' s':=by
 obtain⟨ea,t,cls,H',B,rfl,os,bare,F,q⟩:=h;have F0:=F;rw[T.stk] at F;have hf:=rO (outer:=X.outer) T.fr;refine wpAny_leaves_onW (by rw[hA,T.stk]) T.fr F.fl λh'' fl'' up=>?_;obtain⟨un2,hok2⟩:=F.step fl'' up;have exn:∀b,b∉X.ex:=λb z=>by rw[T.ex] at z;cases z
 have neL:∀b o,X.s₀.heap.get? b=some o->b≠X.env.locals:=λb o e=>L_ (Nn (y_ e) I.ok.above);have notin:∀b o,X.s₀.heap.get? b=some o->b∉frs X.outer->b∉frs (X.env::X.outer):=λb o e hb z=>by
  rw[hf] at z;rcases J_.mp z with z |z
  .exact neL b o e z
  .exact hb z
 refine⟨ea,t,cls,H',B,rfl,os.trans I.os,bare,⟨⟨λb o e n hb hx=>?_,λb o e n hb hx=>?_,λb o e n hx=>?_,λb o e hx=>?_,λb xs e=>un2.tups b xs (I.base.tups b xs e),λb o xs e=>un2.frzs b o xs (I.base.frzs b o xs e),λb ps e=>?_⟩,hok2,fl'',λb o e hb=>?_,F.trk⟩,q⟩
 .exact un2.keep b o (I.base.keep b o e n hb (exn b)) (I.base.free b o e n (exn b)) (notin b o e hb) (by simp)
 .obtain⟨sl,e1⟩:=I.base.slot b o e n hb (exn b);obtain⟨sl',e2⟩:=un2.slot b _ e1 (I.base.free b o e n (exn b)) (by rw[hf];exact q_ _ hb) (by simp);exact⟨sl',e2⟩
 .obtain⟨o',e1⟩:=I.base.there b o e (exn b);exact un2.free b o' e1 (I.base.free b o e n (exn b)) (by simp)
 .obtain⟨o',e1⟩:=I.base.there b o e (exn b);exact un2.there b o' e1 (by simp)
 .obtain⟨m1,e1⟩:=I.base.tbls b ps e;obtain⟨m2,e2⟩:=un2.tbls b _ e1;exact⟨m1++m2,by rw[e2,Array.append_assoc]⟩
 .obtain⟨o',e1⟩:=I.base.there b o e (exn b);exact F.old b o' e1 (notin b o e hb)
def C3(T:X.Top)(hA:A.frames=some X.stack)(I:Inv X pins σ H s)(hx:Heap.MadeExcOf s.heap h' ea cls args)(q:E cls none H):
 wpAny (model X.prog X.w) A (leaving X.env (.ref ea)) (λ_ s''=>CX1 X.prog X.w X.outer X.H₀ X.s₀ E (.ref ea) s'') E' { s with heap:=h' }:=by
 have hf:=rO (outer:=X.outer) T.fr;have stk:=I.stack;rw[T.stk] at stk;have hin:∀env∈(X.env::X.outer),∀b,env.frame=some b->b∈frs (X.env::X.outer):=λenv he b hb=>List.mem_filterMap.mpr ⟨env,he,hb⟩;refine wpAny_leaves_madeW (base:=W.hideAll s.heap (frs (X.env::X.outer))) (h:=s.heap) (by rw[hA,T.stk]) T.fr (λb o q=>W.of_hideAll _ q) (W.funFrames_hide stk hin) hx λh'' t fl tup tn up=>?_;have inB:∀b o,s.heap.get? b=some o->b∉frs (X.env::X.outer)->(W.hideAll s.heap (frs (X.env::X.outer))).get? b=some o:=λb o e hb=>W.hideAll_get _ e hb;have free:∀b∈frs (X.env::X.outer),H b=none:=λb hb=>I.stkFree b (by rw[T.stk];exact hb);have up2:s.heap.UpToSlots h'':=(Heap.UpToSlots.of_keeps hx.keeps).trans up;have exn:∀b,b∉X.ex:=λb z=>by rw[T.ex] at z;cases z
 have neL:∀b o,X.s₀.heap.get? b=some o->b≠X.env.locals:=λb o e=>L_ (Nn (y_ e) I.ok.above);have notin:∀b o,X.s₀.heap.get? b=some o->b∉frs X.outer->b∉frs (X.env::X.outer):=λb o e hb z=>by
  rw[hf] at z;rcases J_.mp z with z |z
  .exact neL b o e z
  .exact hb z
 have trk:∀b o,H b=some o->∃o',(W.hideAll s.heap (frs (X.env::X.outer))).get? b=some o':=λb o e=>by obtain⟨u,hu⟩:=(I.hok b o e).there;exact⟨u,inB b u hu λz=>by rw[free b z] at e;cases e⟩
 refine⟨ea,t,cls,H,_,rfl,I.os,I.bare,⟨⟨λb o e n hb hx=>?_,λb o e n hb hx=>?_,λb o e n hx=>?_,λb o e hx=>?_,I.base.tups,I.base.frzs,I.base.tbls⟩,λa o e=>?_,fl,λb o e hb=>?_,trk⟩,q⟩
 .exact fl.1 b o (inB b o (I.base.keep b o e n hb (exn b)) (notin b o e hb))
 .obtain⟨sl,e1⟩:=I.base.slot b o e n hb (exn b);obtain⟨_,o',ho',hd⟩:=I.ok.funs.mem hb;rw[e] at ho';cases ho';obtain⟨sl',e2⟩:=up2 b _ e1 hd;exact⟨sl',e2⟩
 .exact I.base.free b o e n (exn b)
 .obtain⟨o',e1⟩:=I.base.there b o e (exn b);by_cases hb:b∈frs X.outer
  .obtain⟨_,o2,ho2,hd⟩:=I.funs.mem hb;rw[e1] at ho2;cases ho2;obtain⟨sl',e2⟩:=up2 b _ e1 hd;exact⟨_,e2⟩
  .exact⟨o',fl.1 b o' (inB b o' e1 (notin b o e hb))⟩
 .refine (I.hok a o e).stay (λb u hb q=>?_) (λ_ q=>q) λ_ _ q=>q;refine fl.1 b u (inB b u q λz=>?_);rcases hb with y |y
  .rw[y] at z;rw[free a z] at e;cases e
  .rw[free b z] at y;cases y
 .obtain⟨o',e1⟩:=I.base.there b o e (exn b);exact⟨o',inB b o' e1 (notin b o e hb)⟩
end
section
variable{P:Program}{w:World}{K:W.Frag}{mg:Qt}{base:Heap}{N:List Str}{qual:Str}{scope:Scope}{f:Addr}{cd:Value}{A:Around}{outer:List Env}{s:Shared}{H:Hp}{E:XK}
def Ec:(eF (CX1 P w) P w K mg base N qual scope f cd A outer s H E).Top:=⟨rfl,rfl,rfl⟩
def Dx:sW (CX1 P w) (eF (CX1 P w) P w K mg base N qual scope f cd A outer s H E) E:=λpins σ H s e s' I h=>zR Ec I.ok.frames I h
def LR:sW (CX1 P w) X E0:=λpins σ H s e s' I ⟨_,_,_,_,_,_,_,_,_,q⟩=>q.elim
def own1:PassesOwn (model P w) (eF (CX1 P w) P w K mg base N qual scope f cd A outer s H E).A (eF (CX1 P w) P w K mg base N qual scope f cd A outer s H E).env (eF (CX1 P w) P w K mg base N qual scope f cd A outer s H E).xe:=PassesOwn.leaving
def Rz(X:Cx)(E:XK):Prop:=∀(pins:Qu) (σ:St) (H:Hp) (s:Shared) (h':Heap) (ea:Addr) (cls:Value) (args:List Value),Inv X pins σ H s->Heap.MadeExcOf s.heap h' ea cls args->E cls none H->X.xe (.ref ea) { s with heap:=h' }
def rz1:Rz (eF (CX1 P w) P w K mg base N qual scope f cd A outer s H E) E:=λpins σ H s h' ea cls args I hx q=>C3 Ec I.ok.frames I hx q
def Fun.okR{x qual:Str}{st:Stmt}{f:Addr}{fd:FuncData}{N ps:List Str}{k:Nat}{sp:Sp}(F:Fun K x qual st f fd)(S:FnScope N ps (aq st))(len:∀vs H Q E,sp vs H Q E->vs.length=ps.length)
 (j_:∀(cdv:Value) (A:Around) (outer:List Env) (s:Shared) (H:Hp) (vs:List V) (Q:VK) (E:XK),Room k (A.deeper (envOfC qual (aq st) s.heap.objs.size f cdv))->sp vs H Q E->
  ∃t,PSs (eF (CX1 P w) P w K mg base N qual (aq st) f cdv A outer s H E) (bD st) t/\t { nx:=λ_ H'=>Q .non H',rt:=Q } (gm N vs) H):FnOk P w K mg base (CX1 P w) (k+1) f fd ps sp:=by
 obtain⟨oc,od,kV,doc,pm,an,cdv,ct,osl,rfl,lk,n_⟩:=F.ex;exact D7 lk n_ S len λA outer s H vs Q E hr hsp=>j_ cdv A outer s H vs Q E hr hsp
end
abbrev n6:List Value:=[.type "ValueError",.type "Exception",.type "BaseException",.type "object"]
def zp{K:W.Frag}{h:Heap}{C:Addr}(X:K.In h)(q:W.excIn K C n6 "ValueError.__new__"=true):
 ∃bm N nm q' bs hdct sn sub ab col dd k0 k1 k2 k3 k5 mN,h.get? C=some (excClassObj nm q' C N bs bm hdct sn sub ab col dd k0 k1 k2 k3 k5 "ValueError.__new__")/\h.Ns N mN/\mN "__init__"=none/\OwnTail h n6 bm:=by
 unfold W.excIn at q;split at q
 .rename_i dd cd sl ho;split at q
  .rename_i C' bm k0 k1 k2 k3 n k5 hm hs;simp only[u_,NA,Pd] at q;obtain⟨⟨⟨⟨⟨rfl,rfl⟩,hdel⟩,ht⟩,hok⟩,hni⟩:=q;obtain⟨nm,bs,mro,ns,qn,hd,sn,sub,ab,col,del⟩:=cd;dsimp only at hm hdel hok hni;subst hm hdel;have hsl:sl=#[k0,k1,k2,k3,some (.builtin "ValueError.__new__"),k5]:=by obtain⟨l⟩:=sl;simp only at hs;rw[hs]
   subst hsl;exact⟨bm,ns,nm,qn,bs,hd,sn,sub,ab,col,dd,k0,k1,k2,k3,k5,_,X _ _ ho,.of_isNs (W.isNs_of_in X hok),W.nsMap_none_of_in X hok hni,W.tail_of_in X ht⟩
  .cases q
 .cases q
section
variable{X:Cx}{x:Str}{C:Addr}{E:XK}{np cpos pos:Pos}{e₀:Expr}{es:List Expr}{ta:TA}
def Ii(C:Addr)(E:XK)(ta:TA):TS:=λ_ σ H=>ta σ H λvs H1=>vs.length<=sizeLine/\E (.ref C) none H1
def A9(hc:X.calm=true)(hR:Rz X E)(hg:Gl X x)(hm:X.mg x=some (.ref C))(hq:W.excIn X.K C n6 "ValueError.__new__"=true)(ha:PA X (e₀::es) ta)
 (he:starEach (e₀::es) X.env=(false,eval e₀ X.env)::starEach es X.env) (c_:(backTo cpos (starEach es X.env)).any (·.1)=false) (hd:(x==("__debug__" : Str))=false):
 PS X (.Raise (some (.Call (.Name x np) (e₀::es) [] cpos)) none pos) (Ii C E ta):=by
 intro pins s σ H D I h;obtain⟨bm,N,nm,q',bs,hdct,sn,sub,ab,col,dd,k0,k1,k2,k3,k5,mN,hC,hN,hni,T⟩:=zp I.ok.mod.kin hq;refine wpAny_Raise_call_subT (C:=C) (nm:=nm) (q:=q') (N:=N) (bs:=bs) (bm:=bm) (hdct:=hdct) (sn:=sn) (sub:=sub) (ab:=ab) (col:=col) (dd:=dd) (k0:=k0) (k1:=k1) (k2:=k2) (k3:=k3) (k5:=k5)
  PySem.F.excBase_ValueError (mN:=mN) (T.hasType PySem.F.excBase_ValueError.hasBase) (I.ok.hd hc) (by rw[he];show (false || (backTo cpos (starEach es X.env)).any (·.1))=false;rw[c_];rfl) hni (nN I hg hm ⟨rfl,?_⟩ hd)
 have hA:=ha cpos pins s σ H _ I h;rw[he] at hA ⊢;refine Calls.evalArgs_plain (thn hA λus s2 ⟨vs,H2,I2,r2,hz,q2⟩=>⟨rfl,by rw[<- r2.length];exact hz,I2.bk _ _ hC,hN.keeps I2.bk,T.keeps I2.bk,λh' e hm'=>?_⟩);exact hR pins σ H2 s2 h' e _ _ I2 hm' q2
end
abbrev XS:=St->XK
abbrev TEx:=St->Hp->VK->XK->Prop
abbrev TSx:=Ends->XS->St->Hp->Prop
def XP(X:Cx)(pins:Qu)(E:XS)(e:Value)(s':Shared):Prop:=∃σ1 H1 s1,Inv X pins σ1 H1 s1/\CX1 X.prog X.w X.stack H1 s1 (E σ1) e s'
structure XHand(K:W.Frag)(C:Addr):Prop where
 ty:W.typeIn K (.ref C)=some (.type "type")
 cls:(W.clsIn K C).isSome=true
 mb:W.mroIn K C (.type "BaseException")=some true
mutual
inductive Rep(K:W.Frag)(H:Hp):V->PyData->Prop where
 |non:Rep K H .non .none
 |bl (b:Bool):Rep K H (.bl b) (.bool b)
 |int (i:Int):Rep K H (.int i) (.int i)
 |str (x:Str):Rep K H (.str x) (.str x)
 |tup {a:Addr}{xs:List V}{ds:List PyData} (h:SqT K H a xs) (r:Reps K H xs ds):Rep K H (.ref a) (.tuple ds)
 |lst {a:Addr}{xs:List V}{ds:List PyData} (h:SqL K H a xs) (r:Reps K H xs ds):Rep K H (.ref a) (.list ds)
inductive Reps(K:W.Frag)(H:Hp):List V->List PyData->Prop where
 |nil:Reps K H [] []
 |cons {x:V}{d:PyData}{xs:List V}{ds:List PyData} (r:Rep K H x d) (rr:Reps K H xs ds):Reps K H (x::xs) (d::ds)
end
section
variable{X:Cx}{pins:Qu}{σ:St}{H:Hp}{s:Shared}{K:W.Frag}
def Rep.reads(I:Inv X pins σ H s)(r:Rep X.K H v d)(q:RelV v u):∃as,Reads s.heap u d as:=
 Rep.rec (motive_1:=λv d _=>∀u,RelV v u->∃as,Reads s.heap u d as) (motive_2:=λvs ds _=>∀us,Vals vs us->∃as,ReadsAll s.heap us ds as)
  (λu r=>by cases r;exact⟨_,.none⟩) (λb u r=>by cases r;exact⟨_,.bool b⟩) (λi u r=>by obtain⟨t,rfl⟩:=r;exact⟨_,.int i t⟩) (λx u r=>by obtain⟨t,rfl⟩:=r;exact⟨_,.str x t⟩)
  (λh _ ih u r=>by cases r;obtain⟨its,rv,⟨o,e,c,n,d⟩,_⟩:=I.tuple h;obtain⟨as,q⟩:=ih _ rv;exact⟨as,.tuple e c d (by simpa using q)⟩)
  (λh _ ih u r=>by cases r;obtain⟨its,rv,⟨o,n,e,c,_,d⟩,_⟩:=I.list h;obtain⟨as,q⟩:=ih _ rv;exact⟨_,.list e c d (by simpa using q)⟩)
  (λus r=>by cases r;exact⟨_,.nil⟩)
  (λ_ _ a b us q=>by
   cases q with
   |cons q1 q2=>obtain⟨as,h1⟩:=a _ q1;obtain⟨bs,h2⟩:=b _ q2;exact⟨_,.cons h1 h2⟩) r u q
end
section
variable{X:Cx}
noncomputable def shp (d:PyData):Bool:=d.canLay0&&decide (d.depth<=160)
def fX(h:shp d=true):d.canLay0=true:=(Bool.and_eq_true_iff.mp h).1
def lK{A:Around}{d e:PyData}(h:shp d=true)(hu:A.units+180<cLine):A.units+min d.depth e.depth<cLine:=by have h1:d.depth<=160:=N9 (Bool.and_eq_true_iff.mp h).2;have h2:min d.depth e.depth<=d.depth:=Nat.min_le_left _ _;omega
def B0(K:W.Frag):R2:=λx y H Q=>∃dx dy,Rep K H x dx/\Rep K H y dy/\shp dx=true/\shp dy=true/\Q (.bl (PyData.eqv dx dy)) H
def C1(K:W.Frag):R2:=λx y H Q=>∃dx dy,Rep K H x dx/\Rep K H y dy/\shp dx=true/\shp dy=true/\Q (.bl (!PyData.eqv dx dy)) H
def G8(hu:X.A.units+180<cLine):OpR X (compareOp .Eq) (B0 X.K):=by intro pins s σ H x y v u Q I rx ry h;obtain⟨dx,dy,r1,r2,h1,h2,q⟩:=h;obtain⟨as,q1⟩:=r1.reads I rx;obtain⟨bs,q2⟩:=r2.reads I ry;exact SeqAt.compareEq_reads q1 q2 (fX h1) (fX h2) (lK h1 hu) (m3 I q rfl)
def JD(hu:X.A.units+180<cLine):OpR X (compareOp .NotEq) (C1 X.K):=by intro pins s σ H x y v u Q I rx ry h;obtain⟨dx,dy,r1,r2,h1,h2,q⟩:=h;obtain⟨as,q1⟩:=r1.reads I rx;obtain⟨bs,q2⟩:=r2.reads I ry;exact SeqAt.compareNe_reads q1 q2 (fX h1) (fX h2) (lK h1 hu) (m3 I q rfl)
open PySem.Builtin.Int (intBits)
def CDivB(i j:Int):Prop:=j≠0/\intBits j<=8000
def DQ(i j:Int):Prop:=intBits i<=100000/\intBits j<=100000
def Ca:OpR X (binaryOp .FloorDiv) (rI CDivB λi j=>.int (i.fdiv j)):=opI λi j _ _ _ _ _ hc q=>floordiv_int hc.1 q (.inl (PyProof.noPylong_of_log2 (by
 have h:=hc.2;have h0:=hc.1;unfold intBits at h;have hb:(j==0)=false:=by simpa using h0
 rw[hb] at h;simp only[NM,OM] at h;omega)))
def Gq:OpR X (binaryOp .Mult) (rI DQ λi j=>.int (i*j)):=opI λi j _ _ _ _ _ hc q=>mul_int q (PySem.IntMulOk.of_le hc.1 hc.2 (by decide))
def yr(bs:List Bool):((List.range bs.length).all λi=>bs.getD i false)=bs.all id:=by
 rw[P6,NB,NB];constructor
 .intro h x hx;obtain⟨i,hi,rfl⟩:=List.mem_iff_getElem.mp hx
  have:=h i (M_.mpr hi)
  simpa [K_,hi] using this
 .intro h i hi;have hi':=M_.mp hi
  have:=h bs[i] (NW hi')
  simpa [K_,hi'] using this
def C6(hc:X.calm=true):CallR X (.builtin "all") (λxs H Q=>∃(a:Addr) (bs:List Bool),xs=[.ref a]/\SqL X.K H a (bs.map V.bl)/\Q (.bl (bs.all id)) H):=by
 intro pins s σ H xs us Q I r h;obtain⟨a,bs,rfl,hq,q⟩:=h;obtain⟨u,rfl,ru⟩:=fM r;cases ru;obtain⟨its,rv,p,hz⟩:=I.list hq;have hl:=rv.length;rw[p_] at hl;have hlt:a<s.heap.objs.size:=by obtain⟨o,n,e,_⟩:=p;exact y_ e
 refine call_all_walk (PK p.isList ?_);refine⟨s.heap.objs.size,_,_,_,_,_,λi=>bs.getD i false,rfl,Walks.list (A:=X.A.in1) (I.ok.hd hc) s.heap.objs.size a (L_ hlt) its.toArray,⟨⟨_,Em _ rfl,rfl,rfl⟩,(p.keeps λb o e=>r_ _ e).isList⟩,λi v s' Q' E' hP hQ=>?_,λh' tk hk=>?_⟩
 .have hP':its[i]?=some v:=by simpa using hP
  have hi:i<bs.length:=by rw[hl];exact (D_.mp hP').1
  have hb:(bs.map V.bl)[i]?=some (V.bl bs[i]):=by simp [hi]
  obtain⟨u,hu,ru⟩:=rv.get hb;rw[hP'] at hu;cases hu;cases ru;refine O2 ?_;have e:bs.getD i false=bs[i]:=by simp [K_,hi]
  show Q' bs[i] s';rw[<- e];exact hQ
 .have e1:its.toArray.size=bs.length:=by rw[A_,hl]
  rw[e1,yr];have hn:H s.heap.objs.size=none:=I.fresh;have I1:Inv X pins σ H { s with heap:=s.heap.push { cls:=.type "list_iterator",dict:=none,data:=.fields #[.ref a,rawInt 0] } }:=I.kept (t':=s.toks) λb o e=>r_ _ e;refine⟨.bl _,H,?_,rfl,q⟩;refine I.kept (t':=tk) λb o e=>?_;have hne:b≠s.heap.objs.size:=L_ (y_ e);exact hk b o (by simpa using hne) (r_ _ e)
end
structure Def(K:W.Frag)(mg:Qt)(x:Str)(st:Stmt):Prop where
 ex:∃f fd,Fun K x x st f fd/\mg x=some (.ref f)
def zV{K:W.Frag}{h:Heap}{mg:Qt}{x:Str}{st:Stmt}{f:Addr}{oc:Value}{od an:Option Addr}{osl:Array (Option Value)}{kV doc pm cdv ct:Value}(X:K.In h)(G:h.Ns mainGlobals mg)
 (a:W.nsIn K mainGlobals x=some (some (.ref f))) (l:K.lookup f=some ⟨oc,od,.func (W.fnOf x x (cV st) (bD st) (aq st) .none kV doc pm an cdv ct),osl⟩)
 (c:W.codeIn K cdv x=true) (k:W.keepIn K (.ref f)=true):Def K mg x st:=⟨f,_,JR l c k,W.mg_of X G a⟩
def Fun.look{K:W.Frag}{x qual:Str}{st:Stmt}{f:Addr}{fd:FuncData}(F:Fun K x qual st f fd):∃oc od osl,K.lookup f=some ⟨oc,od,.func fd,osl⟩:=by obtain⟨oc,od,kV,doc,pm,an,cdv,ct,osl,rfl,lk,n_⟩:=F.ex;exact⟨oc,od,osl,lk⟩
structure Callee(P:Program)(w:World)(K:W.Frag)(mg:Qt)(base:Heap)(x:Str)(k:Nat)(ps:List Str)(sp:Sp):Prop where
 ex:∃f fd,FnOk P w K mg base (CX1 P w) k f fd ps sp/\mg x=some (.ref f)/\W.keepIn K (.ref f)=true/\Binds K fd ps []/\∃oc od osl,K.lookup f=some ⟨oc,od,.func fd,osl⟩
section
variable{P:Program}{w:World}{K:W.Frag}{mg:Qt}{base:Heap}{x:Str}{st:Stmt}{k:Nat}{ps N:List Str}{sp:Sp}
def Callee.imp(C:Callee P w K mg base x k ps sp)(h:∀vs H Q E,sp' vs H Q E->sp vs H Q E):Callee P w K mg base x k ps sp':=by obtain⟨f,fd,F,r⟩:=C.ex;exact⟨f,fd,F.imp h,r⟩
def Def.okR(D:Def K mg x st)(S:FnScope N ps (aq st))
 (hb:∀(kV doc pm:Value) (an:Option Addr) (cdv ct:Value) (us:List Value),us.length=ps.length->bindArgs (W.fnOf x x (cV st) (bD st) (aq st) .none kV doc pm an cdv ct) ⟨us,[]⟩=pure (ps.zip us))
 (len:∀vs H Q E,sp vs H Q E->vs.length=ps.length)
 (j_:∀(f:Addr) (cdv:Value) (A:Around) (outer:List Env) (s:Shared) (H:Hp) (vs:List V) (Q:VK) (E:XK),Room k (A.deeper (envOfC x (aq st) s.heap.objs.size f cdv))->sp vs H Q E->
  ∃t,PSs (eF (CX1 P w) P w K mg base N x (aq st) f cdv A outer s H E) (bD st) t/\t { nx:=λ_ H'=>Q .non H',rt:=Q } (gm N vs) H):Callee P w K mg base x (k+1) ps sp:=by
 obtain⟨f,fd,F,m⟩:=D.ex;exact⟨f,fd,F.okR S len (j_ f),m,F.kp,F.binds hb,F.look⟩
end
section
variable{X:Cx}{K:W.Frag}
def allK(h:X.K=K)(hc:X.calm=true):CallR X (.builtin "all") (λxs H Q=>∃(a:Addr) (bs:List Bool),xs=[.ref a]/\SqL K H a (bs.map V.bl)/\Q (.bl (bs.all id)) H):=by subst h;exact C6 hc
def Room.u180(r:Room k A):A.units+180<cLine:=by have:=r.un;omega
def eqDK(h:X.K=K)(hu:X.A.units+180<cLine):OpR X (compareOp .Eq) (B0 K):=by subst h;exact G8 hu
def neDK(h:X.K=K)(hu:X.A.units+180<cLine):OpR X (compareOp .NotEq) (C1 K):=by subst h;exact JD hu
def inK(h:X.K=K):OpR X (compareOp .In) (rIn K false):=by subst h;exact yq
def Ja(h:X.K=K):OpR X (compareOp .NotIn) (rIn K true):=by subst h;exact sE
end
section
variable{X:Cx}
def JB{elt iter tg:Expr}{ifs:List Expr}{scope:Scope}{pos:Pos}{wi:TI}{g:TG}{tc:TT}{te:TE}{N:List Str}{sub:Qw}{iT:Nat}{xT:Str}{px spos:Pos}
 (hc:X.calm=true) (hN:X.N.Nodup) (hix:X.N[iT]?=some xT) (hxl:Loc X.env.scope xT) (hi:PI X tg iter wi)
 (hk:scope.kind=.function) (hnc:∀x∈scope.names,x.2 ≠ .cell) (f_:∀x∈scope.names,x.2=.local->scope.names.lookup x.1=some .local)
 (hfr:∀x∈scope.names,x.2=.free->X.env.kindOf x.1=some .cell\/X.env.kindOf x.1=some .free)
 (hsl:sub.length=N.length) (hsub:∀(j i:Nat) (x:Str),sub[j]?=some (some i)->N[j]?=some x->X.N[i]?=some x/\scope.names.lookup x=some .free)
 (hg:∀cl C s₂ H fp,PG (bR X N scope cl C s₂ H fp) tg g) (ht:∀cl C s₂ H fp,PTs (bR X N scope cl C s₂ H fp) ifs tc) (he:∀cl C s₂ H fp,PE (bR X N scope cl C s₂ H fp) elt te)
 (hsw:swapsWith (.ListComp elt [⟨tg,iter,ifs,0⟩] scope pos) (some (.Name xT px)) spos.line X.env=pure true)
 (hs:∀x,foldedSetIterable iter X.env x=pure x) (hf:X.fn xT=true\/X.env.scope.names.lookup xT=some .local):
 PS X (.Assign [.Name xT px] (.ListComp elt [⟨tg,iter,ifs,0⟩] scope pos) spos) (wD (qu wi sub g tc te) (qQ iT)):=by
 intro pins s σ H D0 I h;rw[exec_Assign_Name_used _ _ _ _ hsw];refine o_ (Po (o_ ?_));show wpAny _ X.A (do let _ <- comprehension (.ListComp elt [⟨tg,iter,ifs,0⟩] scope pos) scope X.env _ (newList []) false (eval iter X.env) (some (assign (.Name xT px) X.env))) _ _ s;refine o_ (NG (vL (use:=some (assign (.Name xT px) X.env)) (R:=λ_ s'=>SP X pins D0 .next s') hc hi hk hnc f_ hfr hsl hsub hg ht he hs I h λD C s4 e=>?_) (λ_ s' hq=>z_ (z_ hq)) λ_ _ e=>e);obtain⟨m,hm⟩:=e.ns;obtain⟨H',hC,q,i⟩:=e.inv;have dc:=e.dc;have fr:=e.fr;refine wpAny_assign_Name (oZ (v:=.ref D) (i s4.heap ⟨rfl,λ_ _=>rfl⟩) hN hix hxl rfl (λs7 I7 ⟨a7,sb7,ha7⟩=>?_) hf);have ha:a7<D:=by
  rcases ha7 with z |z
  .rw[z];exact fr
  .exact e.cell xT a7 z
 refine⟨m,hm.sameBut sb7 (OD (Qd ha dc)),λh8 hs8=>⟨_,_,I7.turned (it:=C) (t':=s7.toks) (λb o hb e=>hs8.extBut b o hb e) hC (OD (Qd fr dc)) (.inr (Nu e.sz (O4 dc))) (λx c q=>L_ (Qd (e.cell x c q) dc)) (λp hp=>L_ (Qd (e.pin p hp) dc)),q⟩⟩
end
theorem n8:∀{ns:List Int}{its:List Value},Vals (ns.map V.int) its->IntsAre its ns
 | [],_,h=>by cases h;exact .nil
 |
  i::r,_,h=>by
  cases h with
  |cons h1 h2=>obtain⟨t,rfl⟩:=h1;exact .cons i t (n8 h2)
def pq{X:Cx}{K:W.Frag}(hK:X.K=K)(hc:X.calm=true):CallR X (.builtin "sum") (λxs H Q=>∃(a:Addr) (ns:List Int),xs=[.ref a]/\SqL K H a (ns.map V.int)/\Q (.int ns.sum) H):=by
 subst hK;intro pins s σ H xs us Q I r h;obtain⟨a,ns,rfl,hq,q⟩:=h;obtain⟨u,rfl,ru⟩:=fM r;cases ru;obtain⟨its,rv,p,hz⟩:=I.list hq;have hi:=n8 rv;obtain⟨ys,hy⟩:=hi.allInts.items;have hn:numsOf its.toArray.toList=ns:=by rw[show its.toArray.toList=its from rfl,hi.numsOf]
 have pl:=p.isList;rw[hy] at pl hn;rw[nums_intItems] at hn;refine sum_intListG (I.ok.hd hc) pl λh' tk t' hk=>?_;rw[preSum_eq,N8 (by simp),hn];exact⟨.int ns.sum,H,I.kept (t':=tk) hk,⟨_,rfl⟩,q⟩
end L2
namespace Fr
noncomputable def dv (a b:Int):Int:=if b<0 then -((Int.gcd a b:Nat):Int) else ((Int.gcd a b:Nat):Int)
def T(a b:Int):Int:=a.fdiv (dv a b)
def B(a b:Int):Int:=b.fdiv (dv a b)
def tZ(hb:b≠0):0<Int.gcd a b:=Int.gcd_pos_of_ne_zero_right a hb
def dv_ne(hb:b≠0):dv a b≠0:=by
 have:=tZ (a:=a) hb
 unfold dv;split <;> omega
def Cr(a b:Int):dv a b ∣ a:=by
 have h:((Int.gcd a b:Nat):Int) ∣ a:=Int.gcd_dvd_left a b;unfold dv;split
 .exact Int.neg_dvd.mpr h
 .exact h
def Bp(a b:Int):dv a b ∣ b:=by
 have h:((Int.gcd a b:Nat):Int) ∣ b:=Int.gcd_dvd_right a b;unfold dv;split
 .exact Int.neg_dvd.mpr h
 .exact h
def vf{a d q:Int}(hd:d≠0)(h:a=d*q):a.fdiv d=q:=by rw[h,Py];exact Int.mul_fdiv_cancel q hd
def T_mul(hb:b≠0):T a b*dv a b=a:=by obtain⟨q,h⟩:=Cr a b;have:T a b=q:=vf (dv_ne hb) h;rw[this,Py];exact h.symm
def B_mul(hb:b≠0):B a b*dv a b=b:=by obtain⟨q,h⟩:=Bp a b;have:B a b=q:=vf (dv_ne hb) h;rw[this,Py];exact h.symm
def B_pos(hb:b≠0):0<B a b:=by
 have h:=B_mul (a:=a) hb;have hg:=tZ (a:=a) hb;generalize hx:B a b=x at h ⊢;unfold dv at h;split at h
 .rename_i hneg;have h2:x*((Int.gcd a b:Nat):Int)=-b:=by rw[Int.mul_neg] at h;omega
  rcases Int.lt_or_le 0 x with z |z
  .exact z
  .have:x*((Int.gcd a b:Nat):Int)<=0:=Int.mul_nonpos_of_nonpos_of_nonneg z (by omega);omega
 .rename_i hpos;rcases Int.lt_or_le 0 x with z |z
  .exact z
  .have:x*((Int.gcd a b:Nat):Int)<=0:=Int.mul_nonpos_of_nonpos_of_nonneg z (by omega);omega
def cross(hb:b≠0):T a b*b=a*B a b:=by have h1:=T_mul (a:=a) hb;have h2:=B_mul (a:=a) hb;generalize T a b=x at *;generalize B a b=y at *;generalize dv a b=d at *;rw[<- h2,<- h1];rw[<- Od,Pz]
def dv_abs(a b:Int):(dv a b).natAbs=Int.gcd a b:=by unfold dv;split <;> simp
def low(hb:b≠0):Int.gcd (T a b) (B a b)=1:=by
 have h1:=T_mul (a:=a) hb;have h2:=B_mul (a:=a) hb;have hg:=tZ (a:=a) hb;have e1:a.natAbs=(T a b).natAbs*Int.gcd a b:=by rw[<- dv_abs a b,<- N7,h1]
 have e2:b.natAbs=(B a b).natAbs*Int.gcd a b:=by rw[<- dv_abs a b,<- N7,h2]
 have e3:Int.gcd a b=Nat.gcd ((T a b).natAbs*Int.gcd a b) ((B a b).natAbs*Int.gcd a b):=by rw[<- e1,<- e2];rfl
 rw[Nat.gcd_mul_right] at e3;show Nat.gcd (T a b).natAbs (B a b).natAbs=1;generalize Nat.gcd (T a b).natAbs (B a b).natAbs=k at *;generalize Int.gcd a b=g at *;have:(1:Nat)*g=k*g:=by omega
 exact (Nat.eq_of_mul_eq_mul_right hg this).symm
def uniq(hy:0<y)(hy':0<y')(h:Int.gcd x y=1)(h':Int.gcd x' y'=1)(e:x*y'=x'*y):x=x'/\y=y':=by
 have c1:Nat.Coprime y.natAbs x.natAbs:=by rw[Nat.coprime_comm];exact h
 have c2:Nat.Coprime y'.natAbs x'.natAbs:=by rw[Nat.coprime_comm];exact h'
 have e1:x.natAbs*y'.natAbs=x'.natAbs*y.natAbs:=by rw[<- N7,<- N7,e]
 have d1:y.natAbs ∣ y'.natAbs:=c1.dvd_of_dvd_mul_left (by rw[e1];exact Nat.dvd_mul_left _ _);have d2:y'.natAbs ∣ y.natAbs:=c2.dvd_of_dvd_mul_left (by rw[<- e1];exact Nat.dvd_mul_left _ _);have ey:y.natAbs=y'.natAbs:=Nat.dvd_antisymm d1 d2;have ey':y=y':=by omega
 subst ey';exact⟨Pl (by omega) e,rfl⟩
def same(hb:b≠0)(hd:d≠0)(e:a*d=c*b):T a b=T c d/\B a b=B c d:=by
 refine uniq (B_pos hb) (B_pos hd) (low hb) (low hd) ?_;have h1:=cross (a:=a) hb;have h2:=cross (a:=c) hd;have hbd:b*d≠0:=OR hb hd;refine Pl hbd ?_
 calc T a b*B c d*(b*d)=(T a b*b)*(B c d*d):=by rw[Od,Pf (B c d) b d,<- Od]
  _=(a*B a b)*(B c d*d):=by rw[h1]
  _=(a*d)*(B c d*B a b):=by rw[Od a,Od a,Pf (B a b),Pf d,Py (B a b) d]
  _=(c*b)*(B c d*B a b):=by rw[e]
  _=(c*B c d)*(B a b*b):=by rw[Od c,Od c,Pf b,Py b (B a b)]
  _=(T c d*d)*(B a b*b):=by rw[<- h2]
  _=T c d*B a b*(b*d):=by rw[Od,Od,Pf d,Py d b]
def self(hb:0<b)(h:Int.gcd a b=1):T a b=a/\B a b=b:=
 uniq (B_pos (by omega)) hb (low (by omega)) h (cross (by omega))
def euc(m n:Nat):Nat.gcd n (m % n)=Nat.gcd m n:=by rw[Nat.gcd_comm,<- Nat.gcd_rec,Nat.gcd_comm]
end Fr
set_option maxHeartbeats 1000000
namespace L2
open PySem PySem.Spec PyProof.Rows
def Inv.turnedL{X:Cx}{pins:Qu}{σ:St}{H:Hp}{s:Shared}{h':Heap}{t':Nat}{ch:List Addr}(I:Inv X pins σ H s)(k:∀b o,b∉ch->s.heap.get? b=some o->h'.get? b=some o)(hf:∀b∈ch,FpOk X pins H b):Inv X pins σ H { s with heap:=h',toks:=t' }:=by
 have away:∀b u,H b=some u->b∉ch:=λb u e z=>by have:=(hf b z).1;rw[e] at this;cases this
 refine I.step (g':=s.gens) (d':=s.drawn) (ch:=ch) (λb hb=>⟨(hf b hb).2.2.2.1,(hf b hb).2.1,(hf b hb).2.2.2.2.1,(hf b hb).2.2.2.2.2⟩) (λb o _ _ hc e _=>k b o hc e) (λb o _ _ hc e _=>⟨o.slots,k b o hc e⟩) (λ_ _ _ _ n=>n)
  (λb o hc e=>⟨o,k b o hc e⟩) (λ_ _ e=>e) (λ_ _ _ e=>e) (λb ps e=>⟨#[],by rw[e];simp⟩) (λm hm=>?_) (λb u e=>?_) I.bare
 .obtain⟨o,es,ep,ho,r⟩:=hm;exact⟨o,es,ep,k _ o (λz=>(hf _ z).2.1 rfl) ho,r⟩
 .refine (I.hok b u e).stay (λc v hc q=>k c v ?_ q) (λ_ q=>q) λ_ _ q=>q;rcases hc with z |z
  .rw[z];exact away b u e
  .exact away c _ z
def FpOk.up(f:FpOk X pins H b)(hn:b≠p):FpOk X pins (upd H p o) b:=⟨by rw[aC hn];exact f.1,f.2⟩
def mZ(hj:s.heap.IsTupleIter j t n)(ht:s.heap.IsTuple t its)(hv:its[n]?=some v)
 (k:∀h',h'.IsTupleIter j t (n+1)->Heap.SameBut j s.heap h'->Q v { s with heap:=h' }):wpAny (model prog w) A (Builtin.SmallTypes.nextOf (.ref j)) Q E s:=by
 obtain⟨oj,ej,cj,dj⟩:=id hj;obtain⟨ot,et,_,m,dt⟩:=ht;unfold Builtin.SmallTypes.nextOf;refine o_ (OH (name:=Str.ofString "__next__") hj.typeIs OY (Pk OY hj.typeIs F.entry_tuple_iterator_next ?_ (F.args_tuple_iterator_next_1 _)));show wpAny _ _ (field (.ref j) 0 >>= _) _ _ s;refine o_ (N2 ej dj (x:=.ref t) rfl ?_);show wpAny _ _ (if (Value.ref t==Value.none)=true then _ else _) _ _ s;rw[if_neg (show ¬ ((Value.ref t==Value.none)=true) from B_)];show wpAny _ _ (field (.ref j) 1 >>= _) _ _ s;refine o_ (N2 ej dj (x:=.int n 0) rfl ?_);show wpAny _ _ (seqItems? (.ref t) >>= _) _ _ s;refine o_ (Ol et dt ?_);simp only[NJ,hv];refine o_ (wpAny_setField ej dj (by simp) (z_ ⟨v,rfl,z_ (k _ ?_ (OI ..))⟩));exact⟨_,Pg _ ej (Obj.isFreed_of_fields (Obj.data_mapFields dj _)),(Obj.cls_mapFields ..).trans cj,by rw[Obj.data_mapFields dj];simp [rawInt]⟩
def i7(hh:A.handled=none)(hj:s.heap.IsTupleIter j t n)(ht:s.heap.IsTuple t its)(hv:its[n]?=none)
 (k:∀h' e,Heap.ExtBut j s.heap h'->(∃o,h'.get? e=some o/\o.cls=.type "StopIteration")->E (.ref e) { s with heap:=h' }):wpAny (model prog w) A (Builtin.SmallTypes.nextOf (.ref j)) Q E s:=by
 obtain⟨oj,ej,cj,dj⟩:=id hj;obtain⟨ot,et,_,m,dt⟩:=ht;unfold Builtin.SmallTypes.nextOf;refine o_ (OH (name:=Str.ofString "__next__") hj.typeIs OY (Pk OY hj.typeIs F.entry_tuple_iterator_next ?_ (F.args_tuple_iterator_next_1 _)));show wpAny _ _ (field (.ref j) 0 >>= _) _ _ s;refine o_ (N2 ej dj (x:=.ref t) rfl ?_);show wpAny _ _ (if (Value.ref t==Value.none)=true then _ else _) _ _ s;rw[if_neg (show ¬ ((Value.ref t==Value.none)=true) from B_)];show wpAny _ _ (field (.ref j) 1 >>= _) _ _ s;refine o_ (N2 ej dj (x:=.int n 0) rfl ?_);show wpAny _ _ (seqItems? (.ref t) >>= _) _ _ s;refine o_ (Ol et dt ?_);simp only[NJ,hv];refine o_ (wpAny_rule (o_ (wpAny_setField ej dj (by simp) ?_)));show wpAny _ _ (newExc (.type "StopIteration") [] >>= _) _ _ _;refine o_ ?_;simp only[newExc,newTuple];refine o_ (NX ?_ (by size_fits));refine o_ (m:=firstArgMember _ _) (wpAny_of_eq (a:=Value.none) (by first |rfl |(simp only[firstArgMember];rfl)) ?_);refine NX ?_ (by size_fits);simp only[raiseNew];refine o_ (wpAny_handled ?_);first |rw[show A.in1.handled=none from hh] |rw[hh]
 refine o_ (z_ (wpAny_throw ?_));exact k _ _ (((OI ..).extBut.push _).push _) ⟨_,Em _ rfl,rfl⟩
def IG(hh:A.handled=none)(j t:Addr)(ne:t≠j)(its:Array Value):Draws prog w A j [j,t] its.size (λi v=>its[i]?=some v) (λi h=>h.IsTupleIter j t i/\h.IsTuple t its) where
 live:=λ_ _ z=>let ⟨o,e,_⟩:=z.1;⟨o,e⟩
 frame:=λ_ _ _ z k=>⟨z.1.at λo e=>k j (by simp) o e,let ⟨o,e,r⟩:=z.2;⟨o,k t (by simp) o e,r⟩⟩
 item:=λi s Q E hi z k=>mZ z.1 z.2 (v:=its[i]) (by simp [hi]) λh' z' sb=>k _ h' s.toks (by simp [hi]) ⟨z',let ⟨o,e,r⟩:=z.2;⟨o,(sb.2 t ne).trans e,r⟩⟩ sb
 done:=λs Q E z k=>i7 hh z.1 z.2 (by simp) k
def zM(l:Addr)(its:Array Value)(n:Nat)(dc:Option Addr)(sl:Array (Option Value)):
 Meets (Builtin.«enumerate.__new__» ⟨[.type "enumerate",.ref l],[]⟩) (λ_ R s=>s.heap.get? l=some { cls:=.type "tuple",dict:=dc,data:=.seq its n,slots:=sl }/\
  R
   (.ok (.ret (.ref (s.heap.push { cls:=.type "tuple_iterator",data:=.fields #[.ref l,.int 0 0] }).objs.size)))
   { s with heap:=(s.heap.push { cls:=.type "tuple_iterator",data:=.fields #[.ref l,.int 0 0] }).push { cls:=.type "enumerate",data:=.fields #[.none,.bool false,.ref s.heap.objs.size,rawInt 0,.none,.none] } }):=
 .of_wp λprog w A R s h=>by
  obtain⟨hp,g,d,tk,os⟩:=s;obtain⟨hl,h⟩:=h;have hsub:=sub_enumerate;have hT:Heap.IsTuple (Shared.heap ⟨hp,g,d,tk,os⟩) l its:=⟨_,hl,rfl,n,rfl⟩
  wp_walk using Px hl
  refine wpAny_stack_any λst=>z_ ?_;split
  .rename_i c _ _ _ _ _;cases (c==Value.type "enumerate") <;> (wp_walk using Px hl,PF hT;exact⟨_,rfl,h⟩)
  .wp_walk using Px hl,PF hT;exact⟨_,rfl,h⟩
def xm(hT:s.heap.IsTuple l its)
 (k:∀h',IsEnum h' (s.heap.objs.size+1) s.heap.objs.size 0 .none->h'.IsTupleIter s.heap.objs.size l 0->h'.objs.size=s.heap.objs.size+2->(∀b o,s.heap.get? b=some o->h'.get? b=some o)->Q (.ref (s.heap.objs.size+1)) { s with heap:=h' }):
 wpAny (model prog w) A (call (.type "enumerate") [.ref l]) Q E s:=by
 obtain⟨⟨c,dc,dt,sl⟩,hl,hc,n,hd⟩:=hT;have hc':c=.type "tuple":=hc;have hd':dt=.seq its n:=hd;subst hc' hd';refine callType_new F.called_enumerate (by decide) (F.typeCall_enumerate_1 _) (F.newCall_enumerate_1 _) (λobj=>F.args_object_init_2 obj _) F.entry_enumerate_new (zM l its n dc sl) ⟨hl,?_⟩;have z1:(s.heap.push { cls:=.type "tuple_iterator",data:=.fields #[.ref l,.int 0 0] }).objs.size=s.heap.objs.size+1:=Oh ..;show _/\_;rw[z1];have he:IsEnum ((s.heap.push { cls:=.type "tuple_iterator",data:=.fields #[.ref l,.int 0 0] }).push { cls:=.type "enumerate",data:=.fields #[.none,.bool false,.ref s.heap.objs.size,rawInt 0,.none,.none] }) (s.heap.objs.size+1) s.heap.objs.size 0 .none:=by have z2:=Em (s.heap.push { cls:=.type "tuple_iterator",data:=.fields #[.ref l,.int 0 0] }) (o:={ cls:=.type "enumerate",data:=.fields #[.none,.bool false,.ref s.heap.objs.size,rawInt 0,.none,.none] }) rfl;rw[z1] at z2;exact z2
 exact⟨⟨_,he,rfl⟩,k _ he ⟨_,r_ _ (Em _ rfl),rfl,rfl⟩ (by rw[Oh,z1]) λb o x=>r_ _ (r_ _ x)⟩
def SqB(K:W.Frag)(b:Bool)(H:Hp)(a:Addr)(xs:List V):Prop:=match b with
 |true=>SqL K H a xs
 |false=>SqT K H a xs
def ItB(b:Bool)(h:Heap)(j a:Addr)(i:Nat):Prop:=match b with
 |true=>h.IsListIter j a i
 |false=>h.IsTupleIter j a i
def SqB.inj(I:Inv X pins σ H s)(x:SqB X.K b H a xs)(y:SqB X.K b H a ys):xs=ys:=by
 cases b with
 |true=>exact I.list_inj x y
 |false=>exact I.tuple_inj x y
noncomputable def B3 (K:W.Frag) (b:Bool) (a:Addr):It:=
 ⟨λi H=>∃xs x,SqB K b H a xs/\xs[i]?=some x,λi H x H'=>∃p u,x=.ref p/\H p=none/\H'=upd H p (.tup [.int (i:Nat),u])/\∀xs,SqB K b H a xs->xs[i]?=some u,λi H=>∃xs,SqB K b H a xs/\xs.length=i⟩
def vV(I:Inv X pins σ H s)(hh:X.A.handled=none)(hq:SqB X.K b H a xs)(hj:ItB b s.heap j a i):
 ∃(its:List Value) (St:Nat->Heap->Prop),Vals xs its/\Draws X.prog X.w X.A.in1 j [j,a] its.length (λi v=>its[i]?=some v) St/\St i s.heap/\(∀i h,St i h->ItB b h j a i)/\∃o n,s.heap.get? a=some o/\o.cls=.type (if b then "list" else "tuple")/\o.data=.seq its.toArray n:=by
 cases b with
 |
  true=>
  obtain⟨its,rv,p,hz⟩:=I.list hq;obtain⟨o,n,e,c,d,ds⟩:=p;have hL:s.heap.IsList a its.toArray:=⟨o,e,c,n,ds⟩;have hj':s.heap.IsListIter j a i:=hj;have ne:a≠j:=λz=>by subst z;obtain⟨o',e',c',_⟩:=hj';rw[e] at e';cases e';rw[c] at c';exact absurd (Value.type.inj c') (by decide)
  have D:=Draws.list (prog:=X.prog) (w:=X.w) (A:=X.A.in1) hh j a ne its.toArray;refine⟨its,λi h=>h.IsListIter j a i/\h.IsList a its.toArray,rv,?_,⟨hj',hL⟩,λ_ _ z=>z.1,o,n,e,c,ds⟩;have e1:its.toArray.size=its.length:=by simp
  have e2:(λ(i:Nat) (v:Value)=>its.toArray[i]?=some v)=λi v=>its[i]?=some v:=by funext i v;simp
  rw[e1,e2] at D;exact D
 |
  false=>
  obtain⟨its,rv,p,hz⟩:=I.tuple hq;have hT:s.heap.IsTuple a its.toArray:=p;obtain⟨o,e,c,n,ds⟩:=id hT;have hj':s.heap.IsTupleIter j a i:=hj;have ne:a≠j:=λz=>by subst z;obtain⟨o',e',c',_⟩:=hj';rw[e] at e';cases e';rw[c] at c';exact absurd (Value.type.inj c') (by decide)
  have D:=IG (prog:=X.prog) (w:=X.w) (A:=X.A.in1) hh j a ne its.toArray;refine⟨its,λi h=>h.IsTupleIter j a i/\h.IsTuple a its.toArray,rv,?_,⟨hj',hT⟩,λ_ _ z=>z.1,o,n,e,c,ds⟩;have e1:its.toArray.size=its.length:=by simp
  have e2:(λ(i:Nat) (v:Value)=>its.toArray[i]?=some v)=λi v=>its[i]?=some v:=by funext i v;simp
  rw[e1,e2] at D;exact D
def gQ(z:ItB b h j a i):∃o,h.get? j=some o/\(∀v,o.data ≠ .cell v)/\o.cls=.type (if b then "list_iterator" else "tuple_iterator"):=by
 cases b with
 |true=>obtain⟨o,e,c,d⟩:=z;exact⟨o,e,(λv y=>by rw[d] at y;cases y),c⟩
 |false=>obtain⟨o,e,c,d⟩:=z;exact⟨o,e,(λv y=>by rw[d] at y;cases y),c⟩
def bq(z:ItB b h j a i)(k:∀o,h.get? j=some o->h'.get? j=some o):ItB b h' j a i:=by
 cases b with
 |true=>obtain⟨o,e,r⟩:=z;exact⟨o,k o e,r⟩
 |false=>obtain⟨o,e,r⟩:=z;exact⟨o,k o e,r⟩
def za{P:Program}{w:World}{K:W.Frag}{elts:List Expr}{x1:Nat}{tp:Pos}(b:Bool)(a e j:Addr)(hej:e≠j):Turn P w K (.Tuple elts x1 tp) (B3 K b a) [e,j] e (λi h=>(∃old,IsEnum h e j ((i:Nat):Int) old)/\ItB b h j a i) where
 mem:=by simp
 obj
  := λi h st c hc=>by
  rcases J_.mp hc with rfl |hc
  .obtain⟨old,he⟩:=st.1;exact⟨_,he,λv z=>by cases z⟩
  .have:c=j:=by simpa using hc
   subst this;obtain⟨o,q1,q2,_⟩:=gQ st.2;exact⟨o,q1,q2⟩
 keep:=λi h h' st k=>⟨let ⟨old,he⟩:=st.1;⟨old,k e (by simp) _ he⟩,bq st.2 λo q=>k j (by simp) o q⟩
 item:=
  by
  intro X hP hw hK hc i pins s σ H E I hf st hg;subst hP hw hK;obtain⟨xs,x,hq,hx⟩:=hg;obtain⟨⟨old,he⟩,hj⟩:=st;obtain⟨its,St,rv,D,hst,hSt,oa,na,ea,ca,da⟩:=vV I (I.ok.hd hc) hq hj;obtain⟨u,hu,ru⟩:=rv.get hx;have hlt:i<its.length:=(D_.mp hu).1;have hea:e≠a:=λz=>by subst z;rw[he] at ea;cases ea;cases b <;> exact absurd (Value.type.inj ca) (by decide)
  refine wpAny_pyNext_enum_itemD D he hst hlt hej (by simp [hej,hea]) λy h' tk hy heo hst' ht hsz hk=>?_;have:y=u:=by rw[hu] at hy;exact (G_ hy).symm
  subst this;refine⟨_,rfl,wpAny_letOwnedTupleGo_enum (s:={ s with heap:=h',toks:=tk+1 }) heo λh2 he2 sb=>?_⟩;have hT:H s.heap.objs.size=none:=I.hok.fresh (t_ _);have hef:=y_ he;obtain⟨oj,q1,_,_⟩:=gQ hj;have hjf:=y_ q1;have I1:Inv X pins σ (upd H s.heap.objs.size (.tup [.int (i:Nat),x])) { s with heap:=s.heap.push { cls:=.type "tuple",data:=.seq #[.int (i:Nat) tk,y] },toks:=s.toks }:=
   I.laid (t':=s.toks) (λc o q=>r_ _ q) (t_ _) ⟨by show 2<=sizeLine;decide,[.int (i:Nat) tk,y],.cons ⟨tk,rfl⟩ (.cons ru .nil),⟨_,Em _ rfl,rfl,_,rfl⟩⟩
  have sb':Heap.SameBut e h' h2:=sb;have I2:Inv X pins σ (upd H s.heap.objs.size (.tup [.int (i:Nat),x])) { s with heap:=h2,toks:=tk+1 }:=
   Inv.turnedL (s:={ s with heap:=s.heap.push { cls:=.type "tuple",data:=.seq #[.int (i:Nat) tk,y] },toks:=s.toks }) (ch:=[e,j]) (t':=tk+1) I1 (λc o hc' q=>by
    have c1:c≠e:=λz=>hc' (by simp [z]);have c2:c≠j:=λz=>hc' (by simp [z]);rw[sb'.2 c c1];by_cases z:c=s.heap.objs.size
    .subst z;have q':(s.heap.push { cls:=.type "tuple",data:=.seq #[.int (i:Nat) tk,y] }).get? s.heap.objs.size=some o:=q;rw[Em _ rfl] at q';cases q';exact ht
    .refine hk c o c1 c2 ?_;have q':(s.heap.push { cls:=.type "tuple",data:=.seq #[.int (i:Nat) tk,y] }).get? c=some o:=q;rw[Heap.get?_push_ne _ _ _ z] at q';exact q') λc hc'=>by
    rcases J_.mp hc' with rfl |hc'
    .exact (hf c (by simp)).up (L_ hef)
    .have:c=j:=by simpa using hc'
     subst this;exact (hf c (by simp)).up (L_ hjf)
  refine⟨.ref s.heap.objs.size,_,I2,rfl,⟨_,x,rfl,hT,rfl,λys hy'=>by rw[SqB.inj I hy' hq];exact hx⟩,⟨⟨y,he2⟩,bq (hSt _ _ hst') λo q=>(sb'.2 j (Ne.symm hej)).trans q⟩,λc hc'=>?_⟩;rcases J_.mp hc' with rfl |hc'
  .exact ((hf c (by simp)).up (L_ hef)).1
  .have:c=j:=by simpa using hc'
   subst this;exact ((hf c (by simp)).up (L_ hjf)).1
 done:=by
  intro X hP hw hK hc i pins s σ H E I hf st hg;subst hP hw hK;obtain⟨xs,hq,hx⟩:=hg;obtain⟨⟨old,he⟩,hj⟩:=st;obtain⟨its,St,rv,D,hst,hSt,oa,na,ea,ca,da⟩:=vV I (I.ok.hd hc) hq hj;have hl:=rv.length;subst hx;rw[hl] at hst;refine wpAny_pyNext_enum_endD D he hst λh' eb=>⟨rfl,Inv.turnedL (ch:=[j]) (t':=s.toks) I (λc o hc' q=>eb c o (λz=>hc' (by simp [z])) q) λc hc'=>?_⟩;have:c=j:=by simpa using hc'
  subst this;exact hf c (by simp)
 self:=λ_ _ _ _ _ st h=>let ⟨_,he⟩:=st.1;wpAny_pyIter_enum he h
def Ez(hg:Gl X "enumerate")(hm:X.mg "enumerate"=none)(ha:PA X [l] tl)(hs:starEach [l] X.env=[(false,eval l X.env)]):
 PI X (.Tuple elts x1 tp) (.Call (.Name "enumerate" p) [l] [] pos) (λσ H R=>tl σ H λvs H1=>∃(b:Bool) (a:Addr) (xs:List V),vs=[.ref a]/\SqB X.K b H1 a xs/\R (B3 X.K b a) H1):=by
 intro pins s σ H R I h;refine Call_ (cL I hg hm boot_enumerate (Nz (thn (ha pos pins s σ H _ I h) λus s1 zz=>exA zz λvs H1 I1 r1 q1=>?_) hs rfl));obtain⟨b,a,xs,e,hq,q⟩:=q1;subst e;cases r1 with
 |
  cons r rr=>
  cases rr;cases r;have d_:∀h',IsEnum h' (s1.heap.objs.size+1) s1.heap.objs.size 0 .none->ItB b h' s1.heap.objs.size a 0->(∀c o,s1.heap.get? c=some o->h'.get? c=some o)->
   wpAny (model X.prog X.w) X.A (pyIter (.ref (s1.heap.objs.size+1))) (PIE X pins σ (.Tuple elts x1 tp) R) X.xe { s1 with heap:=h' }:=λh' he hj hk=>by
   refine wpAny_pyIter_enum he ⟨s1.heap.objs.size+1,[s1.heap.objs.size+1,s1.heap.objs.size],_,_,H1,rfl,I1.kept (t':=s1.toks) λc o z=>hk c o z,za b a _ _ (Nat.succ_ne_self _),⟨⟨.none,he⟩,hj⟩,λc hc=>?_,q⟩;rcases J_.mp hc with rfl |hc
   .exact I1.fpOk (Nat.le_succ _) (I1.hok.fresh (Nat.le_succ _))
   .have:c=s1.heap.objs.size:=by simpa using hc
    subst this;exact I1.fpOk (t_ _) (I1.hok.fresh (t_ _))
  cases b with
  |true=>obtain⟨its,rv,pp,hz⟩:=I1.list hq;exact call_enumerate_list pp.isList λh' he hit _ hk=>d_ h' he hit hk
  |false=>obtain⟨its,rv,pp,hz⟩:=I1.tuple hq;exact xm (show s1.heap.IsTuple a its.toArray from pp) λh' he hit _ hk=>d_ h' he hit hk
def LsB(b:Bool)(h:Heap)(a:Addr)(its:Array Value):Prop:=match b with
 |true=>h.IsList a its
 |false=>h.IsTuple a its
def LsB.keep(z:LsB b h a its)(k:∀o,h.get? a=some o->h'.get? a=some o):LsB b h' a its:=by cases b <;> (obtain⟨o,e,r⟩:=z;exact⟨o,k o e,r⟩)
def x8(hj:ItB b s.heap j a n)(ht:LsB b s.heap a its)(hv:its[n]?=some v)
 (k:∀h',ItB b h' j a (n+1)->Heap.SameBut j s.heap h'->Q v { s with heap:=h' }):wpAny (model prog w) A (Builtin.SmallTypes.nextOf (.ref j)) Q E s:=by
 cases b with
 |true=>exact wpAny_nextOf_list_item hj ht hv k
 |false=>exact mZ hj ht hv k
def pF(hh:A.handled=none)(hj:ItB b s.heap j a n)(ht:LsB b s.heap a its)(hv:its[n]?=none)
 (k:∀h' e,Heap.ExtBut j s.heap h'->(∃o,h'.get? e=some o/\o.cls=.type "StopIteration")->E (.ref e) { s with heap:=h' }):wpAny (model prog w) A (Builtin.SmallTypes.nextOf (.ref j)) Q E s:=by
 cases b with
 |true=>exact wpAny_nextOf_list_end hh hj ht hv k
 |false=>exact i7 hh hj ht hv k
section
variable{prog:Program}{w:World}{A:Around}{E:Qv}{s:Shared}{b1 b2:Bool}{z p q j1 j2 a1 a2:Addr}{n:Nat}{xs ys:Array Value}{x y u v:Value}
def zipN{Q:Qv}(D:ZipApart z p q j1 j2 a1 a2)(hz:IsZip s.heap z p q .none)(hp:IsPair s.heap p (.ref j1) (.ref j2))(hq:IsPair s.heap q u v)
 (i1:ItB b1 s.heap j1 a1 n) (i2:ItB b2 s.heap j2 a2 n) (l1:LsB b1 s.heap a1 xs) (l2:LsB b2 s.heap a2 ys) (ex:xs[n]?=some x) (ey:ys[n]?=some y)
 (k:∀h',IsZip h' z p q (rawInt s.heap.objs.size)->IsPair h' q x y->ItB b1 h' j1 a1 (n+1)->ItB b2 h' j2 a2 (n+1)->IsPair h' s.heap.objs.size x y->(∀c o,c≠z->c≠q->c≠j1->c≠j2->s.heap.get? c=some o->h'.get? c=some o)->Q (.ref s.heap.objs.size) { s with heap:=h' }):
 wpAny (model prog w) A (Builtin.«zip.__next__» ⟨[.ref z],[]⟩) (λd_ s'=>∃v,d_=.done (.ret v)/\Q v s') E s:=by
 show wpAny _ _ (field (.ref z) 2 >>= _) _ _ _;refine o_ (N2 hz rfl (x:=.bool false) rfl ?_);show wpAny _ _ (field (.ref z) 3 >>= _) _ _ _;refine o_ (N2 hz rfl (x:=.ref p) rfl ?_);refine o_ (Ol hp rfl ?_);show wpAny _ _ (Builtin.SmallTypes.ownedTupleIsFree (.ref z) >>= _) _ _ _;refine o_ ?_;unfold Builtin.SmallTypes.ownedTupleIsFree;refine o_ (N2 hz rfl (x:=.none) rfl (z_ ?_));simp only[OW];refine o_ (wpAny_rule ?_);refine o_ (N2 hz rfl (x:=.ref q) rfl ?_);refine o_ (OQ hz (by simp) λg1 (y1:IsZip g1 z p q .ellipsis) t1=>?_);refine o_ ?_;simp only[List.zipIdx_cons,List.zipIdx_nil,P9,Qk];refine o_ (o_ (Qs ?_));show wpAny _ _ (Builtin.SmallTypes.nextOf (.ref j1) >>= _) _ _ _;refine o_ (x8 (bq i1 λo e=>t1.extBut _ _ D.i1z e) (l1.keep λo e=>t1.extBut _ _ D.l1z e) ex λg2 m1 t2=>z_ ?_);have q2:IsPair g2 q u v:=t2.extBut _ _ D.TOi1 (t1.extBut _ _ D.TOz hq);refine o_ (Ol q2 rfl ?_);refine o_ (Qj q2 λg3 (q3:IsPair g3 q x v) t3=>?_);refine o_ (Qm (z_ ?_));refine o_ (o_ (Qs ?_));show wpAny _ _ (Builtin.SmallTypes.nextOf (.ref j2) >>= _) _ _ _;refine o_ (x8 (bq i2 λo e=>t3.extBut _ _ D.TOi2.symm (t2.extBut _ _ D.i12.symm (t1.extBut _ _ D.i2z e))) (l2.keep λo e=>t3.extBut _ _ D.l2TO (t2.extBut _ _ D.l2i1 (t1.extBut _ _ D.l2z e))) ey λg4 m2 t4=>z_ ?_);have q4:IsPair g4 q x v:=t4.extBut _ _ D.TOi2 q3;refine o_ (Ol q4 rfl ?_);refine o_ (Qj q4 λg5 (q5:IsPair g5 q x y) t5=>?_);refine o_ (Qm (z_ (z_ ?_)));refine o_ (Ol q5 rfl ?_);refine o_ (wpAny_newTuple ?_);have sz:g5.objs.size=s.heap.objs.size:=by rw[t5.1,t4.1,t3.1,t2.1,t1.1]
 have y5:IsZip g5 z p q .ellipsis:=t5.extBut _ _ D.TOz.symm (t4.extBut _ _ D.i2z.symm (t3.extBut _ _ D.TOz.symm (t2.extBut _ _ D.i1z.symm y1)));have all5:∀c o,c≠z->c≠q->c≠j1->c≠j2->s.heap.get? c=some o->g5.get? c=some o:=λc o c1 c2 c3 c4 e=>t5.extBut _ _ c2 (t4.extBut _ _ c4 (t3.extBut _ _ c2 (t2.extBut _ _ c3 (t1.extBut _ _ c1 e))));have n1:ItB b1 g5 j1 a1 (n+1):=bq m1 λo e=>t5.extBut _ _ D.TOi1.symm (t4.extBut _ _ D.i12 (t3.extBut _ _ D.TOi1.symm e));have n2:ItB b2 g5 j2 a2 (n+1):=bq m2 λo e=>t5.extBut _ _ D.TOi2.symm e;have zl:z<g5.objs.size:=y_ y5;show wpAny _ _ (Builtin.SmallTypes.ownedTupleHandOut (.ref z) (.ref g5.objs.size) >>= _) _ _ _;refine o_ ?_;unfold Builtin.SmallTypes.ownedTupleHandOut;have y6:IsZip (g5.push { cls:=.type "tuple",data:=.seq #[x,y] }) z p q .ellipsis:=r_ _ y5;refine o_ (OQ y6 (by simp) λg7 (y7:IsZip g7 z p q (rawInt g5.objs.size)) t7=>?_);refine OQ y7 (by simp) λg8 (y8:IsZip g8 z p q (rawInt g5.objs.size)) t8=>?_;have up:∀c o,c≠z->g5.get? c=some o->g8.get? c=some o:=λc o c1 e=>t8.extBut _ _ c1 (t7.extBut _ _ c1 (r_ _ e));have w8:IsPair g8 g5.objs.size x y:=t8.extBut _ _ (OD zl) (t7.extBut _ _ (OD zl) (Em _ rfl));rw[sz] at y8 w8;refine z_ ⟨_,rfl,?_⟩;show Q (.ref g5.objs.size) _;rw[sz];exact k g8 y8 (up _ _ D.TOz q5) (bq n1 λo e=>up _ o D.i1z e) (bq n2 λo e=>up _ o D.i2z e) w8 λc o c1 c2 c3 c4 e=>up c o c1 (all5 c o c1 c2 c3 c4 e)
def BK(hh:A.handled=none)(D:ZipApart z p q j1 j2 a1 a2)(hz:IsZip s.heap z p q .none)(hp:IsPair s.heap p (.ref j1) (.ref j2))(hq:IsPair s.heap q u v)
 (i1:ItB b1 s.heap j1 a1 n) (i2:ItB b2 s.heap j2 a2 n) (l1:LsB b1 s.heap a1 xs) (l2:LsB b2 s.heap a2 ys) (en:xs[n]?=none\/ys[n]?=none)
 (k:∀h' e,(∀c o,c≠z->c≠q->c≠j1->c≠j2->s.heap.get? c=some o->h'.get? c=some o)->(∃o,h'.get? e=some o/\o.cls=.type "StopIteration")->E (.ref e) { s with heap:=h' }):wpAny (model prog w) A (Builtin.«zip.__next__» ⟨[.ref z],[]⟩) Q E s:=by
 show wpAny _ _ (field (.ref z) 2 >>= _) _ _ _;refine o_ (N2 hz rfl (x:=.bool false) rfl ?_);show wpAny _ _ (field (.ref z) 3 >>= _) _ _ _;refine o_ (N2 hz rfl (x:=.ref p) rfl ?_);refine o_ (Ol hp rfl ?_);show wpAny _ _ (Builtin.SmallTypes.ownedTupleIsFree (.ref z) >>= _) _ _ _;refine o_ ?_;unfold Builtin.SmallTypes.ownedTupleIsFree;refine o_ (N2 hz rfl (x:=.none) rfl (z_ ?_));simp only[OW];refine o_ (wpAny_rule ?_);refine o_ (N2 hz rfl (x:=.ref q) rfl ?_);refine o_ (OQ hz (by simp) λg1 (y1:IsZip g1 z p q .ellipsis) t1=>?_);refine o_ ?_;simp only[List.zipIdx_cons,List.zipIdx_nil,P9,Qk];refine o_ (o_ (Qs ?_));show wpAny _ _ (Builtin.SmallTypes.nextOf (.ref j1) >>= _) _ _ _;cases ex:xs[n]? with
 |
  none=>
  refine o_ (pF hh (bq i1 λo e=>t1.extBut _ _ D.i1z e) (l1.keep λo e=>t1.extBut _ _ D.l1z e) ex λg2 e t2 ⟨oe,he,ce⟩=>?_);have y2:IsZip g2 z p q .ellipsis:=t2 _ _ D.i1z.symm y1;have ez:e≠z:=λw=>by subst w;rw[y2] at he;cases he;simp at ce
  exact OQ y2 (by simp) λg3 _ t3=>k g3 e (λc o c1 _ c3 _ w=>t3.extBut _ _ c1 (t2 _ _ c3 (t1.extBut _ _ c1 w))) ⟨oe,t3.extBut _ _ ez he,ce⟩
 |
  some x=>
  have ey:ys[n]?=none:=en.resolve_left λw=>by rw[ex] at w;cases w
  refine o_ (x8 (bq i1 λo e=>t1.extBut _ _ D.i1z e) (l1.keep λo e=>t1.extBut _ _ D.l1z e) ex λg2 m1 t2=>z_ ?_);have q2:IsPair g2 q u v:=t2.extBut _ _ D.TOi1 (t1.extBut _ _ D.TOz hq);refine o_ (Ol q2 rfl ?_);refine o_ (Qj q2 λg3 q3 t3=>?_);refine o_ (Qm (z_ ?_));refine o_ (o_ (Qs ?_));show wpAny _ _ (Builtin.SmallTypes.nextOf (.ref j2) >>= _) _ _ _;refine o_ (pF hh (bq i2 λo e=>t3.extBut _ _ D.TOi2.symm (t2.extBut _ _ D.i12.symm (t1.extBut _ _ D.i2z e))) (l2.keep λo e=>t3.extBut _ _ D.l2TO (t2.extBut _ _ D.l2i1 (t1.extBut _ _ D.l2z e))) ey λg4 e t4 ⟨oe,he,ce⟩=>?_);have y4:IsZip g4 z p q .ellipsis:=t4 _ _ D.i2z.symm (t3.extBut _ _ D.TOz.symm (t2.extBut _ _ D.i1z.symm y1));have ez:e≠z:=λw=>by subst w;rw[y4] at he;cases he;simp at ce
  exact OQ y4 (by simp) λg5 _ t5=>k g5 e (λc o c1 c2 c3 c4 w=>t5.extBut _ _ c1 (t4 _ _ c4 (t3.extBut _ _ c2 (t2.extBut _ _ c3 (t1.extBut _ _ c1 w))))) ⟨oe,t5.extBut _ _ ez he,ce⟩
end
noncomputable def BC (b:Bool):String:=if b then "list_iterator" else "tuple_iterator"
def wj(h:LsB b s.heap a its)(k:Q (.ref s.heap.objs.size) { s with heap:=s.heap.push { cls:=.type (BC b),data:=.fields #[.ref a,.int 0 0] } }):wpAny (model prog w) A (pyIter (.ref a)) Q E s:=by
 cases b with
 |true=>exact PK h k
 |false=>exact PF h k
abbrev zp1(h:Heap)(b:Bool)(a:Addr):Heap:=h.push { cls:=.type (BC b),data:=.fields #[.ref a,.int 0 0] }
abbrev zp2(h:Heap)(b c:Bool)(a d:Addr):Heap:=zp1 (zp1 h b a) c d
abbrev zp3(h:Heap)(b c:Bool)(a d:Addr):Heap:=(zp2 h b c a d).push { cls:=.type "tuple",data:=.seq #[.ref h.objs.size,.ref (zp1 h b a).objs.size] }
abbrev zp4(h:Heap)(b c:Bool)(a d:Addr):Heap:=(zp3 h b c a d).push { cls:=.type "tuple",data:=.seq #[.none,.none] }
abbrev zp5(h:Heap)(b c:Bool)(a d:Addr):Heap:=(zp4 h b c a d).push { cls:=.type "zip",data:=.fields #[.none,.bool false,.bool false,.ref (zp2 h b c a d).objs.size,.ref (zp3 h b c a d).objs.size] }
def CM(b c:Bool)(a d:Addr)(xs ys:Array Value):Meets (Builtin.«zip.__new__» ⟨[.type "zip",.ref a,.ref d],[]⟩) (λ_ R s=>LsB b s.heap a xs/\LsB c s.heap d ys/\R (.ok (.ret (.ref (zp4 s.heap b c a d).objs.size))) { s with heap:=zp5 s.heap b c a d }):=
 .of_wp λprog w A R s h=>by
  obtain⟨hp,g,dr,tk,os⟩:=s;obtain⟨la,ld,h⟩:=h;have hsub:=sub_zip;have L1:LsB b (Shared.heap ⟨hp,g,dr,tk,os⟩) a xs:=la;have L2':LsB c (Shared.heap ⟨hp.push { cls:=.type (BC b),data:=.fields #[.ref a,.int 0 0] },g,dr,tk,os⟩) d ys:=ld.keep λo e=>r_ _ e
  wp_walk using wj L1,wj L2'
  exact⟨_,rfl,h⟩
def Ac(la:LsB b s.heap a xs)(ld:LsB c s.heap d ys)
 (k:∀h',IsZip h' (s.heap.objs.size+4) (s.heap.objs.size+2) (s.heap.objs.size+3) .none->IsPair h' (s.heap.objs.size+2) (.ref s.heap.objs.size) (.ref (s.heap.objs.size+1))->IsPair h' (s.heap.objs.size+3) .none .none->
  ItB b h' s.heap.objs.size a 0->ItB c h' (s.heap.objs.size+1) d 0->(∀c o,s.heap.get? c=some o->h'.get? c=some o)->Q (.ref (s.heap.objs.size+4)) { s with heap:=h' }):wpAny (model prog w) A (call (.type "zip") [.ref a,.ref d]) Q E s:=by
 refine callType_new F.called_zip (by decide) (F.typeCall_zip_2 _ _) (F.newCall_zip_2 _ _) (λobj=>F.args_object_init_3 obj _ _) F.entry_zip_new (CM b c a d xs ys) ⟨la,ld,?_⟩;have n1:(zp1 s.heap b a).objs.size=s.heap.objs.size+1:=Oh ..;have n2:(zp2 s.heap b c a d).objs.size=s.heap.objs.size+2:=by rw[Oh,n1]
 have n3:(zp3 s.heap b c a d).objs.size=s.heap.objs.size+3:=by rw[Oh,n2]
 have n4:(zp4 s.heap b c a d).objs.size=s.heap.objs.size+4:=by rw[Oh,n3]
 have up:=λ{h:Heap}{x:Addr}{o:Obj} (o':Obj) (e:h.get? x=some o)=>r_ o' e;have e5:(zp5 s.heap b c a d).get? (zp4 s.heap b c a d).objs.size=some _:=Em _ rfl;have e4:(zp5 s.heap b c a d).get? (zp3 s.heap b c a d).objs.size=some _:=up _ (Em _ rfl);have e3:(zp5 s.heap b c a d).get? (zp2 s.heap b c a d).objs.size=some _:=up _ (up _ (Em _ rfl));have e2:(zp5 s.heap b c a d).get? (zp1 s.heap b a).objs.size=some _:=up _ (up _ (up _ (Em _ rfl)));have e1:(zp5 s.heap b c a d).get? s.heap.objs.size=some _:=up _ (up _ (up _ (up _ (Em _ rfl))));show _/\_;rw[n2,n3,n4] at e5;rw[n1,n2] at e3;rw[n3] at e4;rw[n1] at e2;rw[n4];have i1:ItB b (zp5 s.heap b c a d) s.heap.objs.size a 0:=by cases b <;> exact⟨_,e1,rfl,rfl⟩
 have i2:ItB c (zp5 s.heap b c a d) (s.heap.objs.size+1) d 0:=by cases c <;> exact⟨_,e2,rfl,rfl⟩
 exact⟨⟨_,e5,rfl⟩,k _ e5 e3 e4 i1 i2 λx o e=>up _ (up _ (up _ (up _ (up _ e))))⟩
noncomputable def ItZ (K:W.Frag) (b c:Bool) (a d:Addr):It:=
 ⟨λi H=>∃xs ys x y,SqB K b H a xs/\SqB K c H d ys/\xs[i]?=some x/\ys[i]?=some y,
  λi H x H'=>∃p u v,x=.ref p/\H p=none/\H'=upd H p (.tup [u,v])/\(∀xs,SqB K b H a xs->xs[i]?=some u)/\∀ys,SqB K c H d ys->ys[i]?=some v,
  λi H=>∃xs ys,SqB K b H a xs/\SqB K c H d ys/\(xs[i]?=none\/ys[i]?=none)⟩
def i9(I:Inv X pins σ H s)(hq:SqB X.K b H a xs):∃its:List Value,Vals xs its/\LsB b s.heap a its.toArray:=by
 cases b with
 |true=>obtain⟨its,rv,p,_⟩:=I.list hq;exact⟨its,rv,p.isList⟩
 |false=>obtain⟨its,rv,p,_⟩:=I.tuple hq;exact⟨its,rv,p⟩
def Dg{P:Program}{w:World}{K:W.Frag}{elts:List Expr}{x1:Nat}{tp:Pos}(b c:Bool)(a d z p q j1 j2:Addr)(D:ZipApart z p q j1 j2 a d):
 Turn P w K (.Tuple elts x1 tp) (ItZ K b c a d) [z,p,q,j1,j2] z (λi h=>IsZip h z p q .none/\IsPair h p (.ref j1) (.ref j2)/\(∃u v,IsPair h q u v)/\ItB b h j1 a i/\ItB c h j2 d i) where
 mem:=by simp
 obj:=λi h st e he=>by
  obtain⟨s1,s2,⟨u,v,s3⟩,s4,s5⟩:=st;obtain⟨o4,k4,l4,_⟩:=gQ s4;obtain⟨o5,k5,l5,_⟩:=gQ s5;simp only[J_,PU,PD] at he;rcases he with rfl |rfl |rfl |rfl |rfl
  .exact⟨_,s1,λv y=>by cases y⟩
  .exact⟨_,s2,λv y=>by cases y⟩
  .exact⟨_,s3,λv y=>by cases y⟩
  .exact⟨o4,k4,l4⟩
  .exact⟨o5,k5,l5⟩
 keep:=λi h h' st k=>by obtain⟨s1,s2,⟨u,v,s3⟩,s4,s5⟩:=st;exact⟨k z (by simp) _ s1,k p (by simp) _ s2,⟨u,v,k q (by simp) _ s3⟩,bq s4 λo e=>k j1 (by simp) o e,bq s5 λo e=>k j2 (by simp) o e⟩
 item:=
  by
  intro X hP hw hK hc i pins s σ H E I hf st hg;subst hP hw hK;obtain⟨xs,ys,x,y,qx,qy,ex,ey⟩:=hg;obtain⟨s1,s2,⟨u,v,s3⟩,s4,s5⟩:=st;obtain⟨ix,rx,lx⟩:=i9 I qx;obtain⟨iy,ry,ly⟩:=i9 I qy;obtain⟨ux,hux,rux⟩:=rx.get ex;obtain⟨uy,huy,ruy⟩:=ry.get ey;have hTy:s.TypeIs (.ref z) "zip":=⟨_,s1,rfl⟩;have zl:=y_ s1;have pl:=y_ s2;have ql:=y_ s3;obtain⟨o4,k4,_,_⟩:=gQ s4;obtain⟨o5,k5,_,_⟩:=gQ s5;have j1l:=y_ k4;have j2l:=y_ k5;unfold pyNext;refine o_ (Pn (OH (name:=Str.ofString "__next__") hTy P7 (Pk P7 hTy F.entry_zip_next (zipN D s1 s2 s3 s4 s5 lx ly (by simpa using hux) (by simpa using huy) λh' y1 y3 y4 y5 yT hk=>z_ ?_) (F.args_zip_next_1 _))));refine⟨_,rfl,wpAny_letOwnedTupleGo_zip (s:={ s with heap:=h' }) y1 λh2 z2 sb=>?_⟩;have sb':Heap.SameBut z h' h2:=sb;have hT:H s.heap.objs.size=none:=I.hok.fresh (t_ _);have I1:Inv X pins σ (upd H s.heap.objs.size (.tup [x,y])) { s with heap:=s.heap.push { cls:=.type "tuple",data:=.seq #[ux,uy] },toks:=s.toks }:=
   I.laid (t':=s.toks) (λc o q=>r_ _ q) (t_ _) ⟨by show 2<=sizeLine;decide,[ux,uy],.cons rux (.cons ruy .nil),⟨_,Em _ rfl,rfl,_,rfl⟩⟩
  have fp':∀e∈[z,p,q,j1,j2],FpOk X pins (upd H s.heap.objs.size (.tup [x,y])) e:=λe he=>by
   have:=hf e he
   simp only[J_,PU,PD] at he;rcases he with rfl |rfl |rfl |rfl |rfl
   .exact this.up (L_ zl)
   .exact this.up (L_ pl)
   .exact this.up (L_ ql)
   .exact this.up (L_ j1l)
   .exact this.up (L_ j2l)
  have I2:Inv X pins σ (upd H s.heap.objs.size (.tup [x,y])) { s with heap:=h2,toks:=s.toks }:=
   Inv.turnedL (s:={ s with heap:=s.heap.push { cls:=.type "tuple",data:=.seq #[ux,uy] },toks:=s.toks }) (ch:=[z,p,q,j1,j2]) (t':=s.toks) I1 (λe o he qe=>by
    have c1:e≠z:=λw=>he (by simp [w]);have c2:e≠q:=λw=>he (by simp [w]);have c3:e≠j1:=λw=>he (by simp [w]);have c4:e≠j2:=λw=>he (by simp [w]);rw[sb'.2 e c1];have q':(s.heap.push { cls:=.type "tuple",data:=.seq #[ux,uy] }).get? e=some o:=qe;by_cases w:e=s.heap.objs.size
    .subst w;rw[Em _ rfl] at q';cases q';exact yT
    .rw[Heap.get?_push_ne _ _ _ w] at q';exact hk e o c1 c2 c3 c4 q') fp'
  refine⟨.ref s.heap.objs.size,_,I2,rfl,⟨_,x,y,rfl,hT,rfl,λzs hz=>by rw[SqB.inj I hz qx];exact ex,λzs hz=>by rw[SqB.inj I hz qy];exact ey⟩,⟨z2,?_,⟨ux,uy,?_⟩,bq y4 λo e=>(sb'.2 j1 D.i1z).trans e,bq y5 λo e=>(sb'.2 j2 D.i2z).trans e⟩,λe he=>(fp' e he).1⟩
  .exact (sb'.2 p D.TIz).trans (hk p _ D.TIz D.TITO D.TIi1 D.TIi2 s2)
  .exact (sb'.2 q D.TOz).trans y3
 done:=by
  intro X hP hw hK hc i pins s σ H E I hf st hg;subst hP hw hK;obtain⟨xs,ys,qx,qy,en⟩:=hg;obtain⟨s1,s2,⟨u,v,s3⟩,s4,s5⟩:=st;obtain⟨ix,rx,lx⟩:=i9 I qx;obtain⟨iy,ry,ly⟩:=i9 I qy;have hTy:s.TypeIs (.ref z) "zip":=⟨_,s1,rfl⟩;have en':ix.toArray[i]?=none\/iy.toArray[i]?=none:=by
   rcases en with e |e
   .left;rw[Pt] at e;simp;rw[<- rx.length];exact e
   .right;rw[Pt] at e;simp;rw[<- ry.length];exact e
  unfold pyNext;refine o_ (Pn (OH (name:=Str.ofString "__next__") hTy P7 (Pk P7 hTy F.entry_zip_next (BK (I.ok.hd hc) D s1 s2 s3 s4 s5 lx ly en' λh' e hk ⟨o,ho,co⟩=>?_) (F.args_zip_next_1 _))));refine o_ (PZ (T:="StopIteration") (b:=true) ⟨o,ho,co⟩ isSubtype_stop (z_ ⟨rfl,?_⟩));exact Inv.turnedL (ch:=[z,p,q,j1,j2]) (t':=s.toks) I (λe o he qe=>hk e o (λw=>he (by simp [w])) (λw=>he (by simp [w])) (λw=>he (by simp [w])) (λw=>he (by simp [w])) qe) hf
 self:=λ_ _ _ _ _ st h=>wpAny_pyIter_zip st.1 h
def yn:bootBuiltins "zip"=some (.type "zip"):=by decide
def GO(hg:Gl X "zip")(hm:X.mg "zip"=none)(ha:PA X [l,m] tl)(hs:starEach [l,m] X.env=[(false,eval l X.env),(false,eval m X.env)])(hs2:starEach [m] X.env=[(false,eval m X.env)]):
 PI X (.Tuple elts x1 tp) (.Call (.Name "zip" p) [l,m] [] pos) (λσ H R=>tl σ H λvs H1=>∃(b c:Bool) (a d:Addr) (xs ys:List V),vs=[.ref a,.ref d]/\SqB X.K b H1 a xs/\SqB X.K c H1 d ys/\R (ItZ X.K b c a d) H1):=by
 intro pins s σ H R I h;refine Call_ (cL I hg hm yn (Nz (thn (ha pos pins s σ H _ I h) λus s1 zz=>exA zz λvs H1 I1 r1 q1=>?_) (by rw[hs,hs2]) (by rw[hs2];rfl)));obtain⟨b,c,a,d,xs,ys,e,qx,qy,q⟩:=q1;subst e;cases r1 with
 |
  cons r rr=>
  cases rr with
  |
   cons r' rr=>
   cases rr;cases r;cases r';obtain⟨ix,rx,lx⟩:=i9 I1 qx;obtain⟨iy,ry,ly⟩:=i9 I1 qy;have la:a<s1.heap.objs.size:=by cases b <;> (obtain⟨o,e,_⟩:=lx;exact y_ e)
   have ld:d<s1.heap.objs.size:=by cases c <;> (obtain⟨o,e,_⟩:=ly;exact y_ e)
   refine Ac lx ly λh' y1 y2 y3 y4 y5 hk=>wpAny_pyIter_zip y1 ⟨s1.heap.objs.size+4,[s1.heap.objs.size+4,s1.heap.objs.size+2,s1.heap.objs.size+3,s1.heap.objs.size,s1.heap.objs.size+1],_,_,H1,rfl,I1.kept (t':=s1.toks) λc o z=>hk c o z,Dg b c a d _ _ _ _ _ (W.ktu_apart _ _ _ la ld),⟨y1,y2,⟨_,_,y3⟩,y4,y5⟩,λe he=>?_,q⟩;have hge:s1.heap.objs.size<=e:=by
    simp only[J_,PU,PD] at he;rcases he with rfl |rfl |rfl |rfl |rfl
    .exact PX _ _
    .exact PX _ _
    .exact PX _ _
    .exact t_ _
    .exact PX _ _
   exact I1.fpOk hge (I1.hok.fresh hge)
inductive D where
 |non |bl (b:Bool) |int (i:Int) |str (x:Str) |ty (n:String) |glb (x:Str) |exc (x:Str) |tup (xs:List D) |ref (n:Nat) |kl (xs:List D)
 deriving Inhabited
inductive Ob where
 |lst (xs:List D) |fz (xs:List D) |set (xs:List Int) |dct (kvs:List (Key×D)) |any
 deriving Inhabited
abbrev AH:=List Ob
abbrev AE:=List (Option D)
inductive R(α:Type) where
 |ok (a:α) (h:AH) |exc (c:Str) (h:AH) |stuck
inductive SR where
 |nx (ae:AE) (h:AH) |rt (d:D) (h:AH) |bk (ae:AE) (h:AH) |ct (ae:AE) (h:AH) |exc (c:Str) (ae:AE) (h:AH) |stuck
abbrev ME:=AE->AH->R D
abbrev MT:=AE->AH->R Bool
abbrev MA:=AE->AH->R (List D)
abbrev MS:=AE->AH->SR
section
variable(K:W.Frag)(mg:Qt)
def gd(c:Addr)(q:Str):Heap->Prop:=λh=>h.CodeRec (.ref c) q
noncomputable def l9:List Str:=["by_falling_weights", "least_around"]
def LamT(P:Addr)(q:Str):Prop:=∃(x:Str) (f:Addr) (oc:Value) (od:Option Addr) (fd:FuncData) (sl:Array (Option Value)) (c:Addr),x∈l9/\(∀y∈l9,y≠x->mg y=none)/\mg x=some (.ref f)/\K.lookup f=some ⟨oc,od,.func fd,sl⟩/\fd.code=.ref c/\W.codeHdIn K c P=true/\q=fd.qualname ++ ".<locals>." ++ "<lambda>"
def bmP(o:Obj):Prop:=o.cls=.type "module" /\ o.dict=some builtinsNs/\o.data=.plain
def sI(H:Hp):Prop:=∃b o,mg "__builtins__"=some (.ref b)/\b≠builtinsNs/\b≠mainGlobals/\bmP o/\(K.lookup b=some o\/∃u,H b=some (.frz o u))
end
section
variable{X:Cx}{e:Expr}{es:List Expr}{st:Stmt}{sts:List Stmt}
def PE.imp(h:PE X e t)(k:∀σ H Q,t' σ H Q->t σ H Q):PE X e t':=λpins s σ H Q I w=>h pins s σ H Q I (k σ H Q w)
def PT.imp(h:PT X e t)(k:∀σ H Q,t' σ H Q->t σ H Q):PT X e t':=λpins s σ H Q I w=>h pins s σ H Q I (k σ H Q w)
def PW.imp(h:PW X e t)(k:∀σ H Q,t' σ H Q->t σ H Q):PW X e t':=λwh pins s σ H Q I w=>h wh pins s σ H Q I (k σ H Q w)
def PA.imp(h:PA X es t)(k:∀σ H Q,t' σ H Q->t σ H Q):PA X es t':=λpos pins s σ H Q I w=>h pos pins s σ H Q I (k σ H Q w)
def PS.imp(h:PS X st t)(k:∀D σ H,t' D σ H->t D σ H):PS X st t':=λpins s σ H D I w=>h pins s σ H D I (k D σ H w)
def PSs.imp(h:PSs X sts t)(k:∀D σ H,t' D σ H->t D σ H):PSs X sts t':=λpins s σ H D I w=>h pins s σ H D I (k D σ H w)
def PG.imp(h:PG X e t)(k:∀v σ H Q,t' v σ H Q->t v σ H Q):PG X e t':=λpins s σ H v u Q I r w=>h pins s σ H v u Q I r (k v σ H Q w)
def PGs.imp(h:PGs X es t)(k:∀v σ H Q,t' v σ H Q->t v σ H Q):PGs X es t':=λpins s σ H v u Q I r w=>h pins s σ H v u Q I r (k v σ H Q w)
def PO.imp(h:PO X o t)(k:∀σ H Q,t' σ H Q->t σ H Q):PO X o t':=λpins s σ H Q I w=>h pins s σ H Q I (k σ H Q w)
end
abbrev MG:=D->AE->AH->R AE
abbrev MGs:=List D->AE->AH->R AE
noncomputable def g2 (f:Int->Int->R D) (x y:D):R D:=match x,y with
 |.int i,.int j=>f i j
 |_,_=>.stuck
section
variable{K:W.Frag}{X:Cx}
def qS(K:W.Frag):R2:=λx y H Q=>∃a b ys,x=.ref a/\y=.ref b/\SqT K H a []/\SqT K H b ys/\Q (.ref b) H
def Fx:OpR X (binaryOp .Add) (qS X.K):=by
 intro pins s σ H x y v u Q I rx ry h;obtain⟨a,b,ys,rfl,rfl,ha,hb,q⟩:=h;cases rx;cases ry;obtain⟨its,r1,p1,_⟩:=I.tuple ha;obtain⟨its2,r2,p2,_⟩:=I.tuple hb;have e:its=[]:=r1.nil_iff.mpr rfl;subst e;obtain⟨⟨cls,dd,data,sl⟩,ho,hc,n,hd⟩:=id p1;obtain⟨⟨cls2,dd2,data2,sl2⟩,ho2,hc2,n2,hd2⟩:=id p2;simp only at hc hd hc2 hd2;subst hc hd hc2 hd2;exact concat_meets ⟨_,ho,rfl⟩ ⟨_,ho2,rfl⟩ noFill_tuple_add seq_tuple_add PL PH (PC _ _)
  (tuple_addW0 _ _ _ _ n n2 dd dd2 sl sl2 rfl) ⟨ho,ho2,⟨.ref b,H,I,rfl,q⟩⟩
def ixK(h:X.K=K):IxR X (λx y H Q=>Bc K x y H Q\/BJ K x y H Q):=by subst h;exact Gb.or IU
def catK(h:X.K=K):OpR X (binaryOp .Add) (λx y H Q=>yh x y H Q\/(qT K x y H Q\/qS K x y H Q)):=by subst h;exact GI.or (FI.or Fx)
end
inductive AIt where
 |lst (n:Nat) (xs:List D) |tup (xs:List D) |rng (lo:Int) (k:Nat) |rgd (lo:Int) (k:Nat) |txt (x:Str) |enm (s:AIt) |zip (s t:AIt)
abbrev MI:=AE->AH->R AIt
section
variable{K:W.Frag}{X:Cx}{tg iter e a b:Expr}{I:MI}
def PI.imp(h:PI X tg iter t)(k:∀σ H Q,t' σ H Q->t σ H Q):PI X tg iter t':=λpins s σ H Q I w=>h pins s σ H Q I (k σ H Q w)
def IW(hl:PE X l tl):PI X tg l (λσ H R=>tl σ H λx H1=>(∃a,x=.ref a/\(∃xs,SqL X.K H1 a xs)/\R (Itl X.K a) H1)\/(∃a,x=.ref a/\(∃xs,SqT X.K H1 a xs)/\R (Itt X.K a) H1)):=by
 intro pins s σ H R I h;refine thn (hl pins s σ H _ I h) λv s1 zz=>exA zz λx H1 I1 r1 q1=>?_;rcases q1 with ⟨a,e,⟨xs,hq⟩,q⟩ |⟨a,e,⟨xs,hq⟩,q⟩
 .subst e;cases r1;obtain⟨its,rv,p,hz⟩:=I1.list hq;refine PK p.isList ?_;refine⟨s1.heap.objs.size,[s1.heap.objs.size],_,_,H1,rfl,I1.kept (t':=s1.toks) λb o e=>r_ _ e,y9 a _,⟨_,Em _ rfl,rfl,rfl⟩,λb hb=>?_,q⟩;have e:b=s1.heap.objs.size:=by simpa using hb
  subst e;exact I1.fpOk (t_ _) (I1.hok.fresh (t_ _))
 .subst e;cases r1;obtain⟨its,rv,p,hz⟩:=I1.tuple hq;refine PF (show s1.heap.IsTuple a its.toArray from p) ?_;refine⟨s1.heap.objs.size,[s1.heap.objs.size],_,_,H1,rfl,I1.kept (t':=s1.toks) λb o e=>r_ _ e,xo a _,⟨_,Em _ rfl,rfl,rfl⟩,λb hb=>?_,q⟩;have e:b=s1.heap.objs.size:=by simpa using hb
  subst e;exact I1.fpOk (t_ _) (I1.hok.fresh (t_ _))
end
section
variable{K:W.Frag}{X:Cx}
def KL(h:X.K=K):CallR X (.builtin "len") (λxs H Q=>(∃p ys,xs=[.ref p]/\(SqL K H p ys\/SqT K H p ys)/\Q (.int ys.length) H)\/(∃z,xs=[.str z]/\z.length<=sizeLine/\Q (.int z.length) H)):=by subst h;exact qZ.or uu
def Jz(h:X.K=K):CallR X (.type "list") (λxs H Q=>∃p ys,xs=[.ref p]/\(SqL K H p ys\/SqT K H p ys)/\∀l,H l=none->Q (.ref l) (upd H l (.lst ys))):=by subst h;exact uo
def ED(h:X.K=K):CallR X (.type "tuple") (λxs H Q=>∃p ys,xs=[.ref p]/\((SqL K H p ys/\∀l,H l=none->Q (.ref l) (upd H l (.tup ys)))\/(SqT K H p ys/\Q (.ref p) H))):=by subst h;exact pS
end
inductive Cl where
 |b (n:String) |o (x:Str)
 deriving DecidableEq
def ClV(mg:Qt):Cl->Value->Prop
 |.b n,v=>v=.type n
 |.o x,v=>∃a,v=.ref a/\mg x=some (.ref a)
abbrev jz:=List (Cl×Cl×Bool)
structure KitsOk(K:W.Frag)(mg:Qt)(kt:jz):Prop where
 one:∀p∈kt,∀t v,ClV mg p.1 t->ClV mg p.2.1 v->W.kitOne K t v=some p.2.2
 xc:∀p∈kt,∀x C,p.1=.o x->mg x=some (.ref C)->XCls K C
noncomputable def kit (kt:jz) (t c:Cl):Option Bool:=(kt.find? λp=>decide (p.1=t)&&decide (p.2.1=c)).map (·.2.2)
noncomputable def gN (kt:jz) (t:Cl):List Cl->Option Bool
 | []=>some false
 |c::r=>match kit kt t c with
  |some true=>some true
  |some false=>gN kt t r
  |none=>none
def oC(e:kit kt t c=some b):(t,c,b)∈kt:=by
 unfold kit at e;cases q:kt.find? (λp=>decide (p.1=t)&&decide (p.2.1=c)) with
 |none=>rw[q] at e;cases e
 |some p=>rw[q] at e;have h1:=List.find?_some q;have h2:=List.mem_of_find?_eq_some q;simp only[u_,O1] at h1;obtain⟨p1,p2,p3⟩:=p;have e3:p3=b:=G_ e;obtain⟨rfl,rfl⟩:=h1;subst e3;exact h2
section
variable{K:W.Frag}{mg:Qt}{X:Cx}{H:Hp}{h:AH}
def zO(ok:KitsOk K mg kt)(ht:ClV mg t tv):∀{cs:List Cl}{cvs:List Value}{b:Bool},Paired (ClV mg) cs cvs->gN kt t cs=some b->W.kitAny K tv cvs=some b:=by
 intro cs;induction cs with
 |nil=>intro cvs b r e;cases r;cases e;rfl
 |
  cons c cs ih=>
  intro cvs b r e;cases r with
  |
   cons r rr=>
   unfold gN at e;unfold W.kitAny;cases q:kit kt t c with
   |none=>rw[q] at e;cases e
   |
    some z=>
    rw[q] at e;rw[ok.one _ (oC q) _ _ ht r];cases z with
    |true=>exact e
    |false=>exact ih rr e
def ze:CallR X (.builtin "isinstance") (λxs H Q=>∃x tp cs t vs b,xs=[x,.ref tp]/\SqT X.K H tp cs/\TyX X.K H x t/\cs.mapM gk=some vs/\W.kitAny X.K t vs=some b/\Q (.bl b) H):=by intro pins s σ H xs us Q I r h;obtain⟨x,tp,cs,t,vs,b,rfl,ht,ty,hc,hk,q⟩:=h;obtain⟨u,w',rfl,rx,rc⟩:=m7 r;cases rc;obtain⟨its,rv,⟨o,e,c,n,d⟩,_⟩:=I.tuple ht;obtain rfl:=pA hc rv;obtain⟨Hh,Z,p,hne⟩:=vJ I rx ty;obtain⟨oc,od,odt,osl⟩:=o;have c':oc=.type "tuple":=c;have d':odt=.seq its.toArray n:=d;subst c' d';exact W.kia_tup Z I.kIn p e hk hne λtk=>⟨.bl b,H,I.tok _,rfl,q⟩
def Lc(hK:X.K=K):CallR X (.builtin "isinstance") (λxs H Q=>(∃x c t v b,xs=[x,c]/\TyX K H x t/\gk c=some v/\W.kitOne K t v=some b/\Q (.bl b) H)\/
 (∃x tp cs t vs b,xs=[x,.ref tp]/\SqT K H tp cs/\TyX K H x t/\cs.mapM gk=some vs/\W.kitAny K t vs=some b/\Q (.bl b) H)):=by subst hK;exact Cg.or ze
end
section
variable{K:W.Frag}{X:Cx}{H:Hp}{h:AH}
inductive EqsR(K:W.Frag)(H:Hp)(y:V)(pd:PyData):List V->List Bool->Prop where
 |nil:EqsR K H y pd [] []
 |cons {x:V}{px:PyData}{xs:List V}{bs:List Bool} (rx:Rep K H x px) (hx:shp px=true) (r:EqsR K H y pd xs bs):EqsR K H y pd (x::xs) (PyData.eqv px pd::bs)
def rEqs(K:W.Frag)(H:Hp)(l:Addr)(y:V)(bs:List Bool):Prop:=∃xs pd,SqL K H l xs/\Rep K H y pd/\shp pd=true/\EqsR K H y pd xs bs
def A2(I:Inv X pins σ H s)(hu:X.A.units+190<cLine)(ry:Rep X.K H y pd)(rv:RelV y v)(hy:shp pd=true):∃e:Value->Bool,∀{xs:List V}{bs:List Bool}{its:List Value},EqsR X.K H y pd xs bs->Vals xs its->its.map e=bs/\∀u∈its,SeqAt.EqAt X.A.in1 s u v (e u):=by
 classical
 obtain⟨as,q1⟩:=ry.reads I rv;refine⟨λu=>if q:∃d as,Reads s.heap u d as/\shp d=true then PyData.eqv q.choose pd else false,λ{xs bs its} r rr=>?_⟩;induction r generalizing its with
 |nil=>cases rr;exact⟨rfl,λu hu=>nomatch hu⟩
 |
  cons rx hx r ih=>
  rename_i x px xs bs;cases rr with
  |
   cons r1 rr=>
   rename_i u us;obtain⟨ih1,ih2⟩:=ih rr;obtain⟨as1,q2⟩:=rx.reads I r1;have hq:∃d as,Reads s.heap u d as/\shp d=true:=⟨px,as1,q2,hx⟩;have e1:(if q:∃d as,Reads s.heap u d as/\shp d=true then PyData.eqv q.choose pd else false)=PyData.eqv px pd:=by
    rw[dif_pos hq];obtain⟨as2,q3,hs3⟩:=hq.choose_spec
    have:=SeqAt.Reads.unique px hq.choose u _ _ (fX hx) q2 q3
    rw[<- this]
   refine⟨by rw[x_,ih1,e1],λw hw=>?_⟩;rcases J_.mp hw with rfl |hw
   .dsimp only;rw[e1];exact SeqAt.eqAt_reads px pd X.A.in1 s _ _ _ _ q2 q1 (fX hx) (fX hy) (lK hx (by have:X.A.in1.units=X.A.units+1:=rfl;rw[this];omega))
   .exact ih2 w hw
def oX(K:W.Frag):V->List V->Hp->VK->Prop:=λx vs H Q=>∃l y bs,x=.ref l/\vs=[y]/\rEqs K H l y bs/\bs.idxOf true<bs.length/\Q (.int (bs.idxOf true:Nat)) H
def EqsR.len(r:EqsR K H y pd xs bs):xs.length=bs.length:=by
 induction r with
 |nil=>rfl
 |cons _ _ _ ih=>rw[E_,E_,ih]
def Cs(hu:X.A.units+190<cLine):MtM X "list.index" (oX X.K):=by
 intro pins s σ H x vs v us Q I rx rv h;obtain⟨l,y,bs,rfl,rfl,⟨xs,pd,hq,ry,hy,re⟩,hi,q⟩:=h;cases rx;obtain⟨u,rfl,ru⟩:=rv.one;obtain⟨e,he⟩:=A2 I hu ry ru hy;obtain⟨its,r,⟨o,n,eo,hc,hd,hs⟩,hz⟩:=I.list hq;obtain⟨m1,m2⟩:=he re r;have a_:=r.length;have hbl:=re.len;have hn:=gX;have hj:bs.idxOf true<its.toArray.size:=by rw[A_];omega
 have eo':s.heap.get? l=some { cls:=.type "list",dict:=o.dict,data:=.seq its.toArray n,slots:=o.slots }:=by rw[eo];obtain⟨oc,od,odt,osl⟩:=o;have h1:oc=.type "list":=hc;have h2:odt=.seq its.toArray n:=hs;subst h1 h2;rfl
 have em:∀(m:Nat) (hm:m<its.toArray.size),bs[m]?=some (e its.toArray[m]):=λm hm=>by
  rw[<- m1,Nm];have:its[m]?=some its.toArray[m]:=by rw[v_ (by simpa using hm)];rfl
  rw[this];rfl
 refine call_meets PySem.F.slot_list_index ⟨_,eo',rfl⟩ PySem.F.entry_list_index (PySem.F.args_list_index_2 _ _)
  (SeqAt.list_indexAt l its.toArray n o.dict o.slots u e (bs.idxOf true) hj (by omega) ?_ ?_) ⟨eo',λw hw=>m2 w (by simpa using hw),?_⟩
 .have:=em _ hj
  rw[v_ hi,List.getElem_idxOf] at this;exact (G_ this).symm
 .intro m
   hm hlt
  have:=em m hm
  have hb:m<bs.length:=by omega
  rw[v_ hb] at this;have h3
   : bs[m]≠true:=λz=>by
   have h4:bs.idxOf true<=m:=by
    have:=List.idxOf_lt_length_iff (l:=bs) (a:=true)
    rcases Nat.lt_or_ge m (bs.idxOf true) with z' |z'
    .exact absurd z (by have h5:=List.not_of_lt_findIdx (xs:=bs) (p:=(· == true)) (i:=m) z';simpa using h5)
    .exact z'
   omega
  have h4:e its.toArray[m]=bs[m]:=(G_ this).symm;rw[h4];exact Bool.eq_false_iff.mpr h3
 .exact⟨.int _,H,I.tok _,⟨_,rfl⟩,q⟩
def IL(h:X.K=K)(hu:X.A.units+190<cLine):MtM X "list.index" (oX K):=by subst h;exact Cs hu
def Room.u100(r:Room k A):A.units+190<cLine:=by have:=r.un;omega
end
abbrev MO:=AE->AH->R (Option Int)
section
variable{K:W.Frag}{X:Cx}{F:ME}{lo hi:Option Expr}
def Bg:V->Option Int->Option Int->Hp->VK->Prop:=λx lo hi H Q=>∃z,x=.str z/\z.length<=16777216/\Q (.str (Txt.slice z lo hi)) H
def Io:SlR X Bg:=by
 intro pins s σ H x v vl vu lo hi sl Q I rx hs pl pu h;obtain⟨z,rfl,hz,q⟩:=h;obtain⟨t,rfl⟩:=rx;refine⟨"str",_,PySem.F.slot_str_getitem.lookup,typeIs_str _ _ _,?_⟩;have key:∀t' k,EP X pins σ Q (.str (Txt.slice z lo hi) t') { s with toks:=k }:=λt' k=>⟨.str (Txt.slice z lo hi),H,I.tok _,⟨_,rfl⟩,q⟩;cases pl <;> cases pu
 .exact O6 (l:=none) (u:=none) (st:=none) hs rfl (Qg ⟨Nu (Txt.slice_le z _ _) hz,λt' k=>key t' k⟩)
 .exact O6 (l:=none) (u:=some (_,_)) (st:=none) hs rfl (Qg ⟨Nu (Txt.slice_le z _ _) hz,λt' k=>key t' k⟩)
 .exact O6 (l:=some (_,_)) (u:=none) (st:=none) hs rfl (Qg ⟨Nu (Txt.slice_le z _ _) hz,λt' k=>key t' k⟩)
 .exact O6 (l:=some (_,_)) (u:=some (_,_)) (st:=none) hs rfl (Qg ⟨Nu (Txt.slice_le z _ _) hz,λt' k=>key t' k⟩)
def slK(h:X.K=K):SlR X (λx lo hi H Q=>(C2 K x lo hi H Q\/Cw K x lo hi H Q)\/Bg x lo hi H Q):=by subst h;exact (Et.or HE).or Io
end
def CMulA(i j:Int):Prop:=DQ i j\/CMul i j
section
variable{K:W.Frag}{X:Cx}
def Kb(h:X.K=K):OpR X (binaryOp .Add) (λx y H Q=>rI0 (λi j=>.int (i+j)) x y H Q\/(yh x y H Q\/(qT K x y H Q\/qS K x y H Q))):=J9.or (catK h)
def HG:OpR X (binaryOp .Mult) (rI CMulA λi j=>.int (i*j)):=by
 intro pins s σ H x y v u Q I rx ry h;obtain⟨i,j,e1,e2,hc,q⟩:=h;rcases hc with hc |hc
 .exact Gq pins s σ H x y v u Q I rx ry ⟨i,j,e1,e2,hc,q⟩
 .exact GA pins s σ H x y v u Q I rx ry ⟨i,j,e1,e2,hc,q⟩
end
def iI(h1:pd.canLay0=true)(h2:pd.depth<=160):shp pd=true:=by unfold shp;rw[h1,I_ h2];rfl
def Sm(n:Nat)(x:Int):Prop:=x.natAbs<2^n
def Sm.mono(h:Sm n x)(l:n<=m):Sm m x:=Nn h (N5 (by omega) l)
def Sm.mul(h:Sm n x)(k:Sm m y):Sm (n+m) (x*y):=by unfold Sm at *;rw[N7,ON];exact Nat.mul_lt_mul'' h k
def Sm.add'(h:Sm n x)(k:Sm n y):Sm (n+1) (x+y):=by
 unfold Sm at *;have h3:2^(n+1)=2^n+2^n:=by rw[Nat.pow_succ];omega
 have h4:(x+y).natAbs<=x.natAbs+y.natAbs:=Int.natAbs_add_le x y;omega
def Sm.bits(h:Sm n x):Builtin.Int.intBits x<=n:=intBits_le_iff.mpr h
def Sm.of_le(h:Sm n y)(l:x.natAbs<=y.natAbs):Sm n x:=Ox l h
def CMulA.of(h:Sm n x)(k:Sm m y)(hn:n<=100000)(hm:m<=100000):CMulA x y:=.inl ⟨Nu h.bits hn,Nu k.bits hm⟩
def CMulA.left(h:-(2^64)<x)(k:x<2^64):CMulA x y:=.inr (.inl ⟨h,k⟩)
def CMulA.right(h:-(2^64)<y)(k:y<2^64):CMulA x y:=.inr (.inr ⟨h,k⟩)
def CDivB.of(h0:y≠0)(h:Sm 8000 y):CDivB x y:=⟨h0,h.bits⟩
structure Sz(n:Nat)(q:Rat):Prop where
 top:Sm n q.num
 bot:Sm n (q.den:Int)
def Sz.mono(h:Sz n q)(l:n<=m):Sz m q:=⟨h.top.mono l,h.bot.mono l⟩
def yC{a b:Int}(hb:b≠0):((a:Rat)/(b:Rat)).num*b=a*((a:Rat)/(b:Rat)).den:=by
 have h2:=Rat.num_divInt_den ((a:Rat)/(b:Rat));have h3:Rat.divInt ((a:Rat)/(b:Rat)).num (((a:Rat)/(b:Rat)).den:Int)=Rat.divInt a b:=by rw[h2,Rat.divInt_eq_div]
 exact (Rat.divInt_eq_divInt_iff (by have:=((a:Rat)/(b:Rat)).den_nz;omega) hb).mp h3
def vn(q:Rat):Int.gcd q.num q.den=1:=by
 have:=q.reduced
 exact this
def nv(hb:b≠0):Fr.T a b=((a:Rat)/(b:Rat)).num/\Fr.B a b=(((a:Rat)/(b:Rat)).den:Int):=by
 refine Fr.uniq (Fr.B_pos hb) (by have:=((a:Rat)/(b:Rat)).den_pos;omega) (Fr.low hb) (vn _) ?_;have h1:=Fr.cross (a:=a) hb;have h2:=yC (a:=a) hb;generalize ((a:Rat)/(b:Rat)).num=n at *;generalize (((a:Rat)/(b:Rat)).den:Int)=d at *;generalize Fr.T a b=x at *;generalize Fr.B a b=y at *;have h3:(x*d)*b=(n*y)*b:=by
  calc x*d*b=(x*b)*d:=by rw[Pz]
   _=a*y*d:=by rw[h1]
   _=(a*d)*y:=by rw[Pz]
   _=n*b*y:=by rw[h2]
   _=n*y*b:=by rw[Pz]
 exact Pl hb h3
def xN{a b:Int}(hb:b≠0):((a:Rat)/(b:Rat)).num.natAbs<=a.natAbs:=by
 have h:=(nv (a:=a) hb).1;rw[<- h];have h1:=Fr.T_mul (a:=a) hb;have h2:=Fr.dv_ne (a:=a) hb;have h3:(Fr.T a b).natAbs*(Fr.dv a b).natAbs=a.natAbs:=by rw[<- N7,h1]
 have h4:1<=(Fr.dv a b).natAbs:=by omega
 calc (Fr.T a b).natAbs=(Fr.T a b).natAbs*1:=by omega
  _<=(Fr.T a b).natAbs*(Fr.dv a b).natAbs:=Oq _ h4
  _=a.natAbs:=h3
def wR{a b:Int}(hb:b≠0):((((a:Rat)/(b:Rat)).den:Int)).natAbs<=b.natAbs:=by
 have h:=(nv (a:=a) hb).2;rw[<- h];have h1:=Fr.B_mul (a:=a) hb;have h2:=Fr.dv_ne (a:=a) hb;have h3:(Fr.B a b).natAbs*(Fr.dv a b).natAbs=b.natAbs:=by rw[<- N7,h1]
 have h4:1<=(Fr.dv a b).natAbs:=by omega
 calc (Fr.B a b).natAbs=(Fr.B a b).natAbs*1:=by omega
  _<=(Fr.B a b).natAbs*(Fr.dv a b).natAbs:=Oq _ h4
  _=b.natAbs:=h3
def Sz.div(hb:b≠0)(ha:Sm n a)(hb':Sm m b)(k:Nat)(h1:n<=k)(h2:m<=k):Sz k ((a:Rat)/(b:Rat)):=
 ⟨(ha.of_le (xN hb)).mono h1,(hb'.of_le (wR hb)).mono h2⟩
def b8(q:Rat):(q.den:Int)≠0:=by have:=q.den_nz;omega
def eC(q:Rat):q=(q.num:Rat)/((q.den:Int):Rat):=by
 have:=Rat.num_divInt_den q
 rw[Rat.divInt_eq_div] at this;exact this.symm
def gZ{b:Int}(h:b≠0):(b:Rat)≠0:=by intro z;exact h (by exact_mod_cast z)
def wm(p q:Rat):p+q=((p.num*q.den+q.num*p.den:Int):Rat)/((p.den*q.den:Int):Rat):=by
 have h1:=gZ (b8 p);have h2:=gZ (b8 q)
 conv=>lhs;rw[eC p,eC q]
 simp only[O9,NZ];grind
def wb(p q:Rat):p*q=((p.num*q.num:Int):Rat)/((p.den*q.den:Int):Rat):=by
 have h1:=gZ (b8 p);have h2:=gZ (b8 q)
 conv=>lhs;rw[eC p,eC q]
 simp only[NZ];grind
def Sz.add(hp:Sz n p)(hq:Sz m q):Sz (n+m+1) (p+q):=by rw[wm];have h1:=(hp.top.mul hq.bot);have h2:=(hq.top.mul hp.bot);exact Sz.div (by have:=b8 p;have:=b8 q;exact OR ‹_› ‹_›) (h1.add' (by rw[Nat.add_comm n m];exact h2)) (hp.bot.mul hq.bot) _ (by omega) (by omega)
def Sz.mul(hp:Sz n p)(hq:Sz m q):Sz (n+m) (p*q):=by rw[wb];exact Sz.div (by have:=b8 p;have:=b8 q;exact OR ‹_› ‹_›) (hp.top.mul hq.top) (hp.bot.mul hq.bot) _ (by omega) (by omega)
def ve{q:Rat}:0<q.num ↔ 0<q:=by
 have h1:=Rat.num_nonneg (q:=q);have h2:=Qe (q:=q);constructor
 .intro h;refine Rat.lt_of_le_of_ne (h1.mp (by omega)) λz=>?_
  have:=h2.mpr z.symm
  omega
 .intro h;have h3:=h1.mpr (Rat.le_of_lt h);have h4:q.num≠0:=λz=>(Rat.ne_of_lt h) (h2.mp z).symm;omega
def Jo(p q:Rat):p<q ↔ p.num*q.den<q.num*p.den:=Rat.lt_iff p q
def B4{P:Program}{w:World}{H:Hp}(h:Heap)(hb:sysModules<h.objs.size):ObjOk P w H (h.push { cls:=.type "dict",data:=.dict #[] }) h.objs.size (.dK []):=
 ⟨NK _,F_.mpr (Ne.symm (L_ hb)),[],.nil,Heap.DictOf.new h⟩
def Inv.big{X:Cx}{pins:Qu}{σ:St}{H:Hp}{s:Shared}(I:Inv X pins σ H s):sysModules<s.heap.objs.size:=by have h:mainGlobals<s.heap.objs.size:=(I.mod.glob.keeps I.bk).lt;exact Qd (by decide) h
def Gv:TE:=λ_ H Q=>∀p,H p=none->Q (.ref p) (upd H p (.dK []))
section
variable{X:Cx}{pos:Pos}
def CO:PE X (.Dict [] [] pos) Gv:=λpins s σ H Q I h=>
 wpAny_Dict_empty ⟨.ref s.heap.objs.size,_,I.laid (a:=s.heap.objs.size) (o:=.dK []) (t':=s.toks) (λ_ _ q=>r_ _ q) (t_ _) (B4 s.heap I.big),rfl,h _ (I.hok.fresh (t_ _))⟩
end
variable{K:W.Frag}{mg:Qt}
section
variable{κ:Type}[DecidableEq κ]
noncomputable def hX (kvs:List (κ×V)) (k:κ):Option V:=(kvs.find? λkv=>decide (kv.1=k)).map (·.2)
noncomputable def hE (kvs:List (κ×V)) (k:κ) (v:V):List (κ×V):=
 if (kvs.any λkv=>decide (kv.1=k))=true then kvs.map (λkv=>if kv.1=k then (kv.1,v) else kv) else kvs++[(k,v)]
def lZ{p:κ×V}{r:List (κ×V)}{k:κ}(e:p.1=k):hX (p::r) k=some p.2:=by simp [hX,NP,e]
def lR{p:κ×V}{r:List (κ×V)}{k:κ}(e:¬ p.1=k):hX (p::r) k=hX r k:=by simp [hX,NP,e]
theorem sT(k:κ):∀kvs:List (κ×V),(kvs.any λkv=>decide (kv.1=k))=(hX kvs k).isSome
 | []=>rfl
 |
  p::r=>by
  rw[Oe];by_cases e:p.1=k
  .simp only[lZ e,I_ e,Bool.true_or,Option.isSome_some]
  .rw[lR e,C_ e,Bool.false_or];exact sT k r
def lg(kvs:List (κ×V))(k:κ)(v:V):(hE kvs k v).length<=kvs.length+1:=by
 unfold hE;split
 .rw[p_];omega
 .rw[H_,E_,Nr];omega
def RelO.isSome_eq(r:RelO o u):o.isSome=u.isSome:=by
 cases o with
 |none=>cases u with
  |none=>rfl
  |some _=>exact (show False from r).elim
 |some _=>cases u with
  |none=>exact (show False from r).elim
  |some _=>rfl
def KV.val(r:KV kvs vs)(k:κ):RelO (hX kvs k) (valueAt vs k):=by
 unfold KV at r;induction r with
 |nil=>exact True.intro
 |
  @cons p q ps qs h t ih=>
  obtain⟨h1,h2⟩:=h;by_cases e:p.1=k
  .have e':q.1=k:=h1.symm.trans e;have b:valueAt (q::qs) k=some q.2:=by simp [valueAt,NP,e']
   rw[lZ e,b];exact h2
  .have e':¬ q.1=k:=λz=>e (h1.trans z);have b:valueAt (q::qs) k=valueAt qs k:=by simp [valueAt,NP,e']
   rw[lR e,b];exact ih
def KV.any(r:KV kvs vs)(k:κ):(kvs.any λkv=>decide (kv.1=k))=vs.any λkv=>decide (kv.1=k):=by
 unfold KV at r;induction r with
 |nil=>rfl
 |cons h t ih=>rw[Oe,Oe,ih,h.1]
def KV.repl(r:KV kvs vs)(k:κ)(ry:RelV y u):
 KV (kvs.map λkv=>if kv.1=k then (kv.1,y) else kv) (vs.map λkv=>if kv.1=k then (kv.1,u) else kv):=by
 unfold KV at r ⊢;induction r with
 |nil=>exact .nil
 |
  @cons p q ps qs h t ih=>
  rw[x_,x_];refine .cons ?_ ih;obtain⟨h1,h2⟩:=h;by_cases e:p.1=k
  .rw[if_pos e,if_pos (h1.symm.trans e)];exact⟨h1,ry⟩
  .rw[if_neg e,if_neg (λz=>e (h1.trans z))];exact⟨h1,h2⟩
def KV.put(r:KV kvs vs)(k:κ)(ry:RelV y u):KV (hE kvs k y) (stored vs k u):=by
 unfold hE stored;rw[r.any k];by_cases e:(vs.any λkv=>decide (kv.1=k))=true
 .rw[if_pos e,if_pos e];exact r.repl k ry
 .rw[if_neg e,if_neg e];exact Paired.snoc r ⟨rfl,ry⟩
def KV.length(r:KV kvs vs):kvs.length=vs.length:=Qp r
end
def xw(r:RelV (kV k) u):(bT P w).is k u=true:=by
 cases k with
 |inl i=>obtain⟨t,e⟩:=(show ∃t,u=Value.int i t from r);subst e;exact uQ P w i t
 |inr x=>obtain⟨t,e⟩:=(show ∃t,u=Value.str x t from r);subst e;exact uP P w x t
theorem pE:∀{ks:List Key}{us:List Value},Vals (ks.map kV) us->ItemsAre (bT P w) ks us
 | [],_,r=>by rw[Nt] at r;cases r;exact .nil
 |
  k::ks,_,r=>by
  rw[x_] at r;cases r with
  |cons h t=>exact .cons (xw h) (pE t)
abbrev KT(H:Hp):List (List Key×V)->List (List Key×Addr×Value)->Prop:=Paired λp q=>p.1=q.1/\H q.2.1=some (.tup (p.1.map kV))/\RelV p.2 q.2.2
def KT.val(r:KT H kvs xs)(k:List Key):RelO (hX kvs k) ((atKey xs k).map (·.2)):=by
 induction r with
 |nil=>exact True.intro
 |
  @cons p q ps qs h t ih=>
  obtain⟨h1,_,h2⟩:=h;by_cases e:p.1=k
  .have e':q.1=k:=h1.symm.trans e;have b:atKey (q::qs) k=some q.2:=by simp [atKey,NP,e']
   rw[lZ e,b];exact h2
  .have e':¬ q.1=k:=λz=>e (h1.trans z);have b:atKey (q::qs) k=atKey qs k:=by simp [atKey,NP,e']
   rw[lR e,b];exact ih
def KT.repl(r:KT H kvs xs)(k:List Key)(ry:RelV y u):
 KT H (kvs.map λkv=>if kv.1=k then (kv.1,y) else kv) (xs.map (putAt k u)):=by
 induction r with
 |nil=>exact .nil
 |
  @cons p q ps qs h t ih=>
  rw[x_,x_];refine .cons ?_ ih;obtain⟨h1,h2,h3⟩:=h;unfold putAt;by_cases e:p.1=k
  .rw[if_pos e,if_pos (h1.symm.trans e)];exact⟨h1,h2,ry⟩
  .rw[if_neg e,if_neg (λz=>e (h1.trans z))];exact⟨h1,h2,h3⟩
def KT.put(r:KT H kvs xs)(k:List Key)(hb:H b=some (.tup (k.map kV)))(ry:RelV y u):
 KT H (hE kvs k y) (storedH xs k b u):=by
 have e:(kvs.any λkv=>decide (kv.1=k))=(atKey xs k).isSome:=by rw[sT,(r.val k).isSome_eq,Option.isSome_map]
 unfold hE storedH;rw[e];by_cases q:(atKey xs k).isSome=true
 .rw[if_pos q,if_pos q];exact r.repl k ry
 .rw[if_neg q,if_neg q];exact Paired.snoc r ⟨rfl,hb,ry⟩
def KT.keeps(r:KT H kvs xs)(ht:∀b ys,H b=some (.tup ys)->H' b=some (.tup ys)):KT H' kvs xs:=
 Paired.mapP r λ_ _ z=>⟨z.1,ht _ _ z.2.1,z.2.2⟩
section
variable{P:Program}{w:World}{H:Hp}{h:Heap}{a:Addr}
def DU(ok:HOk P w H h)(e:Rd H a u):ObjOk P w H h a u:=e.ok ok
def xi(ok:HOk P w H h)(e:Rd H a (.dK kvs)):kvs.length<=sizeLine/\(a==sysModules)=false/\∃vs,KV kvs vs/\h.DictOf (bT P w) a vs:=
 show ObjOk P w H h a (.dK kvs) from DU ok e
def KJ(ok:HOk P w H h)(e:H a=some (.dK kvs)):kvs.length<=sizeLine/\(a==sysModules)=false/\∃vs,KV kvs vs/\h.DictOf (bT P w) a vs:=xi ok (.inl e)
def rL(ok:HOk P w H h)(e:H a=some (.tup (ks.map kV))):(tupleKind (bT P w)).is h ks a:=by obtain⟨_,its,r,o,h1,h2,n,h3⟩:=(show ObjOk P w H h a (.tup (ks.map kV)) from ok a _ e);exact⟨o,its.toArray,n,h1,h2,h3,by simpa using pE r⟩
def xS(ok:HOk P w H h)(e:Rd H a (.dT kvs)):kvs.length<=sizeLine/\(a==sysModules)=false/\
 ∃xs,KT H kvs xs/\h.DictOfH (tupleKind (bT P w)) a xs:=by
 obtain⟨z,y,xs,r,o,es,ep,h1,h2,h3,h4,h5⟩:=(show ObjOk P w H h a (.dT kvs) from DU ok e);refine⟨z,y,xs,r,o,es,ep,h1,h2,h3,h4,λx hx=>?_,h5⟩;have all:∀{l:List (List Key×V)}{m:List (List Key×Addr×Value)},KT H l m->∀x∈m,(tupleKind (bT P w)).is h x.1 x.2.1:=by
  intro l m q;induction q with
  |nil=>intro x hx;exact nomatch hx
  |
   @cons p q ps qs hq t ih=>
   intro x hx;rcases J_.mp hx with e |hx
   .subst e;exact rL ok (by rw[<- hq.1];exact hq.2.1)
   .exact ih x hx
 exact all r x hx
def Lw(ok:HOk P w H h)(e:H a=some (.dT kvs)):kvs.length<=sizeLine/\(a==sysModules)=false/\
 ∃xs,KT H kvs xs/\h.DictOfH (tupleKind (bT P w)) a xs:=xS ok (.inl e)
end
def DGet(H:Hp)(a:Addr)(y:V)(r:Option V):Prop:=
 (∃kvs k,Rd H a (.dK kvs)/\y=kV k/\r=hX kvs k)\/∃kvs k b,Rd H a (.dT kvs)/\y=.ref b/\H b=some (.tup (k.map kV))/\r=hX kvs k
def DPut(H:Hp)(a:Addr)(y v:V)(H':Hp):Prop:=
 (∃kvs k,H a=some (.dK kvs)/\y=kV k/\kvs.length<sizeLine/\H'=upd H a (.dK (hE kvs k v)))\/
 ∃kvs k b,H a=some (.dT kvs)/\y=.ref b/\H b=some (.tup (k.map kV))/\kvs.length<sizeLine/\H'=upd H a (.dT (hE kvs k v))
def DGet.k{H:Hp}{a:Addr}{kvs:List (Key×V)}{k:Key}(e:H a=some (.dK kvs)):DGet H a (kV k) (hX kvs k):=.inl ⟨kvs,k,.inl e,rfl,rfl⟩
def DPut.k{H:Hp}{a:Addr}{kvs:List (Key×V)}{k:Key}{v:V}(e:H a=some (.dK kvs))(hl:kvs.length<sizeLine):DPut H a (kV k) v (upd H a (.dK (hE kvs k v))):=.inl ⟨kvs,k,e,rfl,hl,rfl⟩
section
variable{X:Cx}{pins:Qu}{σ:St}{H:Hp}{s:Shared}{a:Addr}{y v:V}{u r:Value}{o:Option V}{A:Around}{E:Qv}
def yK(hu:A.units+1<cLine)(I:Inv X pins σ H s)(g:DGet H a y (some v))(ry:RelV y u)(h:∀w' s',Inv X pins σ H s'->RelV v w'->Q w' s'):
 wpAny (model X.prog X.w) A (getItem (.ref a) u) Q E s:=by
 rcases g with ⟨kvs,k,e,ey,l⟩ |⟨kvs,k,b,e,ey,eb,l⟩
 .subst ey;obtain⟨z,hd,vs,rel,dd⟩:=xi I.hok e;obtain⟨w',hw,rw'⟩:=RelO.some_of (v:=v) (o:=valueAt vs k) (by rw[l];exact rel.val k);exact wpAny_getItem_of (xw ry) dd.mapOf hw (h w' _ (I.tok _) rw')
 .subst ey;cases (show u=Value.ref b from ry);obtain⟨z,hd,xs,rel,dd⟩:=xS I.hok e;obtain⟨w',hw,rw'⟩:=RelO.some_of (v:=v) (o:=(atKey xs k).map (·.2)) (by rw[l];exact rel.val k);obtain⟨p,hp,hp2⟩:=Nq.mp hw;refine wpAny_getItem_heap (tupleKind_room_in1 hu) (rL I.hok eb) dd hp ?_;rw[hp2];exact h w' _ (I.tok _) rw'
def vm(I:Inv X pins σ H s)(mu:Mut (H a))(hs:Heap.SameBut a s.heap h')(he:∃q,h'.get? a=some q)(new:ObjOk X.prog X.w (upd H a ob) h' a ob):
 Inv X pins σ (upd H a ob) { s with heap:=h',toks:=t' }:=
 I.write (x:=a) (e:=a) mu (.inl rfl) (λb q hb z=>(hs.2 b hb).trans z) he new
def HK(z:kvs.length<=sizeLine)(hd:(a==sysModules)=false)(rel:KV kvs vs)(dd:h'.DictOf (bT P w) a vs):
 ObjOk P w H' h' a (.dK kvs):=⟨z,hd,vs,rel,dd⟩
def yG(hu:A.units+1<cLine)(I:Inv X pins σ H s)(g:DPut H a y v H')(ry:RelV y u)(rv:RelV v r)(h:∀s',Inv X pins σ H' s'->Q () s'):
 wpAny (model X.prog X.w) A (setItem (.ref a) u r) Q E s:=by
 rcases g with ⟨kvs,k,e,ey,l,eH⟩ |⟨kvs,k,b,e,ey,eb,l,eH⟩
 .subst ey eH;obtain⟨z,hd,vs,rel,dd⟩:=KJ I.hok e;have hz:vs.length<=sizeLine:=by rw[<- rel.length];exact z
  have hl:(hE kvs k v).length<=sizeLine:=by have:=lg kvs k v;omega
  refine wpAny_setItem_pairs (hsz:=hz) (xw ry) dd λh' dd' hs=>h _ ?_;have he:∃q,h'.get? a=some q:=let ⟨q,_,_,hq,_⟩:=dd';⟨q,hq⟩;exact vm I (by rw[e];exact True.intro) hs he (HK hl hd (rel.put k rv) dd')
 .subst ey eH;cases (show u=Value.ref b from ry);obtain⟨z,hd,xs,rel,dd⟩:=Lw I.hok e;have hz:xs.length<=sizeLine:=by rw[<- Qp rel];exact z
  have hl:(hE kvs k v).length<=sizeLine:=by have:=lg kvs k v;omega
  refine wpAny_setItem_heap (hsz:=hz) (tupleKind_room_in1 hu) (rL I.hok eb) dd λh' dd' hs=>h _ ?_;obtain⟨q,es,ep,hq,h2,h3,h4,_,h5⟩:=dd';refine vm I (by rw[e];exact True.intro) hs ⟨q,hq⟩ ⟨hl,hd,_,(rel.put k eb rv).keeps λc ys ec=>?_,q,es,ep,hq,h2,h3,h4,h5⟩;rw[aC (Lx ec e (λz=>nomatch z))];exact ec
end
def BZ(i:Expr):Prop:=∀ov iv,subscripted i false ov iv=operate [ov,iv] (getItem ov iv)
def Fo{prog:Program}{w:World}{A:Around}{E:Qv}{s:Shared}{env:Env}{value slice:Expr}{pos:Pos}{T id:String}{Q:Qv}
 (hl:typeLookup (.type T) "__getitem__"=pure (some (.builtin id))) (hs:BZ slice)
 (h:wpAny (model prog w) A (eval value env) (λo s₁=>wpAny (model prog w) A (eval slice env) (λi s₂=>s₂.TypeIs o T/\wpAny (model prog w) A (getItem o i) Q E s₂) E s₁) E s):
 wpAny (model prog w) A (eval (.Subscript value slice pos) env) Q E s:=by
 refine Subscript_ (NG h (λo s₁ h₁=>NG h₁ (λi s₂ h₂=>?_) λ_ _ x=>x) λ_ _ x=>x);obtain⟨hT,h₂⟩:=h₂;unfold subscriptTail;refine o_ ?_;rw[getitemInPython_of_ne hT.not_modules];refine o_ (wpAny_specialOf hT hl ?_);have d_:wpAny (model prog w) A (subscripted slice false o i) (λr s₃=>wpAny (model prog w) A (letTemporaryGo value o r >>= λ_=>pure r) Q E s₃) E s₂:=by rw[hs o i];exact wpAny_operating (NG h₂ (λr s₃ h₃=>o_ (wpAny_letTemporaryGo (z_ h₃))) λ_ _ x=>x)
 first
  |exact z_ (o_ d_)
  |exact o_ (z_ (o_ d_))
  |exact o_ d_
def uC(I:Inv X pins σ H s)(g:DGet H a y o):s.TypeIs (.ref a) "dict":=by
 rcases g with ⟨kvs,k,e,_,_⟩ |⟨kvs,k,b,e,_,_,_⟩
 .obtain⟨_,_,vs,_,dd⟩:=xi I.hok e;exact dd.typeIs
 .obtain⟨_,_,xs,_,dd⟩:=xS I.hok e;exact dd.typeIs
def K5(td ty:TE):TE:=λσ H Q=>td σ H λx H1=>ty σ H1 λy H2=>∃a v,x=.ref a/\DGet H2 a y (some v)/\Q v H2
section
variable{X:Cx}{o i:Expr}{pos:Pos}{td ty:TE}
def Er(hu:X.A.units+1<cLine)(ho:PE X o td)(hi:PE X i ty)(hs:BZ i):PE X (.Subscript o i pos) (K5 td ty):=by intro pins s σ H Q I h;refine Fo PySem.F.slot_dict_getitem.lookup hs (thn (ho pins s σ H _ I h) λu s1 zz=>exA zz λx H1 I1 rx q1=>thn (hi pins s1 σ H1 _ I1 q1) λiv s2 ⟨y,H2,I2,ry,a,v,ex,g,q2⟩=>?_);subst ex;obtain rfl:u=Value.ref a:=rx;exact⟨uC I2 g,yK hu I2 g ry λw' s3 I3 rw'=>⟨v,H2,I3,rw',q2⟩⟩
end
section
variable[DecidableEq κ]
noncomputable def lkD (kvs:List (κ×α)) (k:κ):Option α:=(kvs.find? λkv=>decide (kv.1=k)).map (·.2)
noncomputable def eY (kvs:List (κ×α)) (k:κ) (v:α):List (κ×α):=if (kvs.any λkv=>decide (kv.1=k))=true then kvs.map λkv=>if kv.1=k then (kv.1,v) else kv else kvs++[(k,v)]
end
section
variable{H:Hp}
def BF[DecidableEq κ]:∀{kvs:List (κ×α)}{ws:List (κ×β)},ws.map (·.1)=kvs.map (·.1)->(ws.any λkv=>decide (kv.1=k))=kvs.any λkv=>decide (kv.1=k):=by
 intro kvs;induction kvs with
 |
  nil=>
  intro ws e;cases ws with
  |nil=>rfl
  |cons _ _=>cases e
 |
  cons p kvs ih=>
  intro ws e;cases ws with
  |nil=>cases e
  |cons w ws=>rw[x_,x_] at e;injection e with e1 e2;rw[Oe,Oe,ih e2,e1]
def DR:rB:=λo i v H Q=>∃a H4,o=.ref a/\DPut H a i v H4/\Q H4
variable{X:Cx}{a:Expr}
def BO(hu:X.A.units+1<cLine):xj X DR:=λpins s σ H o i v ov iv u Q I ro ri rv ⟨a,H4,eo,g,q⟩=>by subst eo;obtain rfl:ov=Value.ref a:=ro;exact yG hu I g ri rv λs4 I4=>⟨H4,I4,q⟩
end
open PySem PySem.Spec PySem.Calls PyProof.Rows
section
variable{X:Cx}{K:W.Frag}{es:List Expr}{pos:Pos}
def gUnp(K:W.Frag)(n:Nat)(t:TGs):TG:=λv σ H Q=>∃a xs,v=.ref a/\(SqT K H a xs\/SqL K H a xs)/\xs.length=n/\t xs σ H Q
def Gx{k:Nat}{t:TGs}{n:Nat}(hc:X.calm=true)(h:PGs X es t)
 (hn:(assignEach es X.env).length=n) (hst:(assignEach es X.env).findIdx? (·.1)=none):PG X (.Tuple es k pos) (gUnp X.K n t):=by
 intro pins s σ H v u Q I r hw;obtain⟨a,xs,e1,hq,hl,hw⟩:=hw;rcases hq with hq |hq
 .exact zk hc h hn hst pins s σ H v u Q I r ⟨a,xs,e1,hq,hl,hw⟩
 .subst e1;cases r;obtain⟨its,rv,⟨o,m,ho,oc,od,os⟩,hz⟩:=I.list hq;have ht:s.heap.IsList a its.toArray:=⟨o,ho,oc,m,os⟩;rw[assign_Tuple];refine o_ (Po ?_);unfold unpack;rw[hst,hn,show n=its.toArray.size by simp [<- hl,rv.length]];refine o_ (Og (W.kun_itemsOf (I.ok.hd hc) ht λh' hx=>?_));have I1:Inv X pins σ H { s with heap:=h' }:=I.kept (t':=s.toks) λb o e=>hx b o (L_ (y_ e)) e;exact h pins _ σ H xs _ Q I1 (by simpa using rv) hw
end
section
variable{X:Cx}{mg:Qt}{a:Expr}{pos q2 p1 p2:Pos}
noncomputable def iX (j:Int):List V:=(List.range j.toNat).map λi=>V.int ((i:Nat):Int)
def rLrg:List V->Hp->VK->Prop:=λxs H Q=>∃j:Int,xs=[.int j]/\-(2^62)<=j/\j<=16777216/\∀l,H l=none->Q (.ref l) (upd H l (.lst (iX j)))
theorem u6:∀(n:Nat) (f:Nat->Int) (is:List Nat) (ys:List Value),CarriedAll ys (is.map λi=>PyData.int (f i))->Vals (is.map λi=>V.int (f i)) ys
 |n,f,[],ys,h=>by cases h;exact .nil
 |
  n,f,i::is,ys,h=>by
  cases h with
  |cons c r=>cases c;exact .cons ⟨_,rfl⟩ (u6 n f is _ r)
def Jq(hc:X.calm=true)(hl:Gl X "list")(hml:X.mg "list"=none)(hg:Gl X "range")(hm:X.mg "range"=none)(ha:PA X [a] ta)(hs:starEach [a] X.env=[(false,eval a X.env)])
 (hs1:starEach [.Call (.Name "range" p2) [a] [] q2] X.env=[(false,eval (.Call (.Name "range" p2) [a] [] q2) X.env)]):
 PE X (.Call (.Name "list" p1) [.Call (.Name "range" p2) [a] [] q2] [] pos) (tCB rLrg ta):=by
 intro pins s σ H Q I h;refine NV (cL I hl hml (show bootBuiltins "list"=some (.type "list") from rfl) ?_ (by decide) (by decide));refine Nz ?_ hs1 rfl;rw[hs1];show wpAny _ _ (spliced ((false,eval (.Call (.Name "range" p2) [a] [] q2) X.env)::[])) _ _ s;refine OO ?_;refine NV (cL I hg hm (show bootBuiltins "range"=some (.type "range") from rfl) ?_ (by decide) (by decide));refine Nz (thn (ha q2 pins s σ H _ I h) λus s1 zz=>exA zz λvs H1 I1 r1 q1=>?_) hs rfl;obtain⟨j,e,h1,h2,q⟩:=q1;subst e;cases r1 with
 |
  cons r rr=>
  cases rr;obtain⟨t,rfl⟩:=r;refine call_range_1 (Pe ?_);have I2:Inv X pins σ H1 { s1 with heap:=s1.heap.push { cls:=.type "range",data:=.fields #[.int 0 s1.toks,.int j t,.int 1 (s1.toks+1)] },toks:=s1.toks+1+1 }:=I1.kept λb o e=>r_ _ e;obtain⟨m,hns,_⟩:=I2.loc;refine list_rangeD (I.ok.hd hc) (Att.fr_all hns) (news:=[]) (λp hp=>nomatch hp) (IsRange.new ..) (small_one (by omega) (by omega) (by omega) (by omega)) (n:=j.toNat) (by rw[Qr];split <;> omega) (by omega) ?_;intro h' tk ys hf hn hk _ _ ⟨⟨c,hpl⟩,_⟩ hcar;have rv:Vals (iX j) ys:=u6 0 (λi=>((i:Nat):Int)) (List.range j.toNat) ys (by
   unfold rangeInts at hcar;rw[NT] at hcar;have e:((λi=>PyData.int i) ∘ λ(i:Nat)=>(0:Int)+(i:Int)*1)=λi:Nat=>PyData.int (i:Int):=by funext i;simp
   rw[show (PyData.int ∘ λ(i:Nat)=>(0:Int)+(i:Int)*1)=λi:Nat=>PyData.int (i:Int) from e] at hcar;exact hcar)
  have hz:(iX j).length<=sizeLine:=by unfold iX;rw[p_,w_];have:sizeLine=16777216:=rfl;omega
  exact⟨.ref _,_,I2.laid (t':=tk) hk (t_ _) (show ObjOk X.prog X.w _ h' _ (.lst (iX j)) from ⟨hz,ys,c,rv,hpl⟩),rfl,q _ (I2.hok.fresh (t_ _))⟩
end
section
variable{X:Cx}
def An{prog:Program}{w:World}{A:Around}{R:Result->Shared->Prop}{I ax S:Addr}{items:Array Value}{lists:List (List Value)}{h0:Heap}(hh:A.in1.handled=none)(hIS:I≠S)(hI:h0.objs.size<=I)(hS0:h0.objs.size<=S)
 (hax:h0.IsList ax items) (hn:items.size=lists.length) (hit:∀(i:Nat) (l:List Value),lists[i]?=some l->∃c m,items[i]?=some (Value.ref c)/\PySem.IsL h0 c l.toArray m):
 ∀(cJ:List (List Value)) (i:Nat) (s:Shared) (T:Addr) (acc:List Value) (c m:Nat),lists.drop i=cJ->i<=lists.length->s.heap.IsListIter I ax i->PySem.IsL s.heap S #[Value.ref T] c->PySem.IsL s.heap T acc.toArray m->T≠S->T≠I->h0.objs.size<=s.heap.objs.size->
 (∀b o,h0.get? b=some o->s.heap.get? b=some o)->acc.length+cJ.flatten.length<=sizeLine->
 (∀h' T' m',(∀b o,h0.get? b=some o->h'.get? b=some o)->PySem.IsL h' T' (acc++cJ.flatten).toArray m'->(cJ=[]->T'=T)->(cJ≠[]->h0.objs.size<=T')->R (.ok (.ret (.ref T'))) { s with heap:=h' })->
 codeAny (model prog w) A (.builtin "sum.loop" ⟨[.ref I,.ref S,rawInt 2,rawInt 0],[]⟩) R s:=by
 intro cJ;induction cJ with
 |
  nil=>
  intro i s T acc c m hd hi st zS hT hTS hTI hsz hk hz hR;have hi':lists.length<=i:=List.drop_eq_nil_iff.mp hd;refine O_ PySem.F.entry_sum_loop ?_;rw[P5 Pb _];show wpAny _ A.in1 (PySem.seqItems? (.ref S) >>= _) _ _ s;refine o_ (Ol zS rfl ?_);show wpAny _ A.in1 (tryCatch (PySem.pyNext (.ref I)) _ >>= _) _ _ s;refine o_ (wpAny_tryCatch (wpAny_pyNext_list_end hh st (hax.at λo e=>hk _ o e) (by rw[Array.getElem?_eq_none_iff];omega) λh' xb=>?_));refine z_ (hR h' T m (λb o e=>xb b o (λz=>?_) (hk b o e)) ?_ (λ_=>rfl) λz=>absurd rfl z)
  .exact absurd (z ▸ y_ e:I<h0.objs.size) (Nat.not_lt.mpr hI)
  .rw[List.flatten_nil,Ny];exact xb T _ hTI hT
 |
  cons l cJ ih=>
  intro i s T acc c m hd hi st zS hT hTS hTI hsz hk hz hR;have hli:lists[i]?=some l:=by
   have:=NC (λq=>q[0]?) hd
   simpa using this
  obtain⟨cc,mm,hx,hc⟩:=hit i l hli;have hilt:i<lists.length:=(D_.mp hli).1;rw[List.flatten_cons,H_] at hz;refine O_ PySem.F.entry_sum_loop ?_;rw[P5 Pb _];show wpAny _ A.in1 (PySem.seqItems? (.ref S) >>= _) _ _ s;refine o_ (Ol zS rfl ?_);show wpAny _ A.in1 (tryCatch (PySem.pyNext (.ref I)) _ >>= _) _ _ s;refine o_ (wpAny_tryCatch (wpAny_pyNext_list_item st (hax.at λo e=>hk _ o e) hx λh' st' sb=>?_));have hold:∀b o,h0.get? b=some o->h'.get? b=some o:=λb o e=>by rw[sb.2 b (λz=>absurd (z ▸ y_ e:I<h0.objs.size) (Nat.not_lt.mpr hI))];exact hk b o e
  have hT':PySem.IsL h' T acc.toArray m:=(sb.2 T hTI).trans hT;have zS':PySem.IsL h' S #[.ref T] c:=(sb.2 S (Ne.symm hIS)).trans zS;have eS:=y_ zS';have eI:I<h'.objs.size:=by obtain⟨o,e,_⟩:=st';exact y_ e
  show wpAny _ A.in1 ((PySem.holding [Value.ref cc] (binaryOp .Add (.ref T) (.ref cc))).attempt >>= _) _ _ _;refine o_ (Pn (Og (PySem.P.add_list hT' (hold _ _ hc) ?_ (by rw[A_,A_];omega))));have ea:acc.toArray++l.toArray=(acc++l).toArray:=by simp
  rw[ea];have hB:h0.objs.size<=h'.objs.size:=Nu hS0 (O4 eS);generalize hb:h'.objs.size=B at *;have zB:PySem.IsL (h'.push { cls:=.type "list",data:=.seq (acc++l).toArray }) B (acc++l).toArray 0:=by rw[<- hb];exact Em _ rfl
  have old2:∀b o,h'.get? b=some o->(h'.push { cls:=.type "list",data:=.seq (acc++l).toArray }).get? b=some o:=λb o e=>r_ _ e;have szp:(h'.push { cls:=.type "list",data:=.seq (acc++l).toArray }).objs.size=B+1:=by rw[<- hb];exact Oh ..
  generalize h'.push { cls:=.type "list",data:=.seq (acc++l).toArray }=h2 at *;show wpAny _ A.in1 (PySem.updateSeq S (λ_=>#[.ref B]) >>= _) _ _ _;refine o_ ?_;have zS2:=old2 _ _ zS';refine wpAny_updateSeq zS2 rfl ?_;have zS3:=Pg (Obj.mapSeq λ_=>#[Value.ref B]) zS2 rfl;refine o_ (Qm ?_);refine o_ ?_;refine wpAny_updateSeq zS3 rfl (z_ ⟨plainId_quiet Pb _,ih (i+1) _ B (acc++l) _ 0 ?_ (by omega) ?_ (Pg _ zS3 rfl) ?_ (OD eS) (OD eI) ?_ ?_ (by rw[H_];omega) ?_⟩)
  .rw[<- List.tail_drop,hd];rfl
  .exact st'.at λo e=>(NN _ _ (Ne.symm hIS)).trans ((NN _ _ (Ne.symm hIS)).trans (old2 _ _ e))
  .exact (NN _ _ (L_ eS)).trans ((NN _ _ (L_ eS)).trans zB)
  .show _<=((h2.update _ _).update _ _).objs.size;rw[PQ,PQ,szp];exact Nat.le_succ_of_le hB
  .intro b o e;have nb:S≠b:=OD (Nn (y_ e) hS0);exact (NN _ _ nb).trans ((NN _ _ nb).trans (old2 _ _ (hold b o e)))
  .intro h3 T' m' k3 e3 e4 e5;refine hR h3 T' m' k3 (by rw[List.flatten_cons,<- O0];exact e3) (λz=>nomatch z) λ_=>?_;by_cases hr:cJ=[]
   .rw[e4 hr];exact hB
   .exact e5 hr
def Aa(a b:Value):argsOk "sum" ⟨[a,b],[]⟩:=by unfold argsOk;kernel_rfl
inductive Lsts(H:Hp):List V->List (List V)->Prop where
 |nil:Lsts H [] []
 |cons {a:Addr}{xs:List V}{vs:List V}{xss:List (List V)} (e:H a=some (.lst xs)) (r:Lsts H vs xss):Lsts H (.ref a::vs) (xs::xss)
def Lsts.out(I:Inv X pins σ H s)(r:Lsts H vs xss):∀{us:List Value},Vals vs us->∃lists:List (List Value),us.length=lists.length/\Vals xss.flatten lists.flatten/\xss.length=lists.length/\∀(i:Nat) (l:List Value),lists[i]?=some l->∃c m,us[i]?=some (Value.ref c)/\PySem.IsL s.heap c l.toArray m:=by
 induction r with
 |nil=>intro us rv;cases rv;exact⟨[],rfl,.nil,rfl,λi l e=>by rw[Oo] at e;cases e⟩
 |
  cons e r ih=>
  intro us rv;cases rv with
  |
   cons ru rv=>
   cases ru;obtain⟨lists,h1,h2,h3,h4⟩:=ih rv;obtain⟨z,its,n,r,hl,e⟩:=I.lstM e;refine⟨its::lists,NC (· + 1) h1,r.append h2,NC (· + 1) h3,λi l q=>?_⟩;cases i with
   |zero=>cases q;exact⟨_,n,rfl,e⟩
   |succ i=>exact h4 i l q
def Dz:List V->Hp->VK->Prop:=λxs H Q=>∃a b vs ys xss,xs=[.ref a,.ref b]/\H a=some (.lst vs)/\H b=some (.lst ys)/\Lsts H vs xss/\xss≠[]/\ys.length+xss.flatten.length<=sizeLine/\∀l,H l=none->Q (.ref l) (upd H l (.lst (ys++xss.flatten)))
def xt(hc:X.calm=true):CallR X (.builtin "sum") Dz:=by
 intro pins s σ H xs us Q I r h;obtain⟨a,b,vs,ys,xss,rfl,hA,hB,hL,hne,hz,q⟩:=h;obtain⟨u1,u2,rfl,r1,r2⟩:=m7 r;cases r1;cases r2;obtain⟨_,its,n,rv,hl,e⟩:=I.lstM hA;obtain⟨_,its2,n2,rv2,hl2,e2⟩:=I.lstM hB;obtain⟨lists,g1,g2,g3,g4⟩:=Lsts.out I hL rv;have la:s.heap.IsList a its.toArray:=⟨_,e,rfl,_,rfl⟩;have al:=y_ e;have bl:=y_ e2;refine call_function_tree PySem.F.kind_sum PySem.F.plain_sum PySem.F.entry_sum (Aa _ _) ?_;unfold PySem.Builtin.«sum»;simp only[E_,Nr];rw[if_neg (by decide)];refine o_ (wpAny_of_eq (show Builtin.Builtins.bindParams "sum" ["start"] 0 { pos:=[.ref b] }=pure [some (.ref b)] from rfl) ?_);refine o_ (PK la ?_);have q1:∀c o,s.heap.get? c=some o->(s.heap.push { cls:=.type "list_iterator",data:=.fields #[.ref a,.int 0 0] }).get? c=some o:=λc o z=>r_ _ z;have q2:(s.heap.push { cls:=.type "list_iterator",data:=.fields #[.ref a,.int 0 0] }).IsListIter s.heap.objs.size a 0:=⟨_,Em _ rfl,rfl,rfl⟩;have q3:(s.heap.push { cls:=.type "list_iterator",data:=.fields #[.ref a,.int 0 0] }).objs.size=s.heap.objs.size+1:=Oh ..;generalize s.heap.push { cls:=.type "list_iterator",data:=.fields #[.ref a,.int 0 0] }=h1 at *;refine o_ (z_ ?_);simp only[P9,Qk];have ty:({ s with heap:=h1 }:Shared).TypeIs (.ref b) "list":=⟨_,q1 _ _ e2,rfl⟩;refine o_ (o_ (o_ (PZ (b:=false) ty PySem.F.sub_list_str ?_)));simp only[NM,OM];refine z_ (o_ (o_ (PZ (b:=false) ty PySem.F.sub_list_bytes ?_)));simp only[NM,OM];refine z_ (o_ (o_ (PZ (b:=false) ty PySem.F.sub_list_bytearray ?_)));simp only[NM,OM];refine z_ (z_ ?_);refine o_ (NX ?_);have p1:∀c o,h1.get? c=some o->(h1.push { cls:=.type "list",data:=.seq #[.ref b] }).get? c=some o:=λc o z=>r_ _ z;have p2:PySem.IsL (h1.push { cls:=.type "list",data:=.seq #[.ref b] }) h1.objs.size #[.ref b] 0:=Em _ rfl;have p3:(h1.push { cls:=.type "list",data:=.seq #[.ref b] }).objs.size=h1.objs.size+1:=Oh ..;refine z_ ⟨plainId_quiet Pb _,An (h0:=s.heap) (items:=its.toArray) (lists:=lists) (I.ok.hd hc) ?_ (t_ _) ?_ la (by rw[A_];exact g1) (λi l z=>?_) lists 0 _ b its2 0 n2 rfl (NK _) ?_ p2 (p1 _ _ (q1 _ _ e2)) ?_ (L_ bl) ?_ (λc o z=>p1 _ _ (q1 _ _ z)) ?_ λh' T' m' k' e' _ f'=>?_⟩
 .rw[q3];exact L_ (Nat.lt_succ_self _)
 .rw[q3];exact Nat.le_succ _
 .obtain⟨c,m,y1,y2⟩:=g4 i l z;exact⟨c,m,by simpa using y1,y2⟩
 .exact q2.at λo z=>p1 _ _ z
 .rw[q3];exact L_ (Nat.lt_succ_of_lt bl)
 .show _<=(h1.push _).objs.size;rw[p3,q3];omega
 .rw[<- hl2,<- g2.length];exact hz
 .have hne':lists≠[]:=λz=>by rw[z] at g3;exact hne (OF.mp g3)
  have fr:=f' hne';exact⟨.ref T',_,I.laid (t':=s.toks) k' fr (show ObjOk X.prog X.w _ h' _ (.lst (ys++xss.flatten)) from ⟨by rw[H_];exact hz,_,m',rv2.append g2,e'⟩),rfl,q _ (I.hok.fresh fr)⟩
def KI:List V->Hp->VK->Prop:=λxs H Q=>xs=[]/\∀l,H l=none->Q (.ref l) (upd H l (.set (λ_=>false) 0))
def yZ:R2:=λx y H Q=>∃i a S n,x=.int i/\y=.ref a/\H a=some (.set S n)/\Q (.bl (S i)) H
def Bh:OpR X (compareOp .In) yZ:=by intro pins s σ H x y v u Q I rx ry h;obtain⟨i,a,S,n,rfl,rfl,hH,q⟩:=h;obtain⟨t,rfl⟩:=rx;cases ry;have hS:s.heap.SetOf (intKind X.prog X.w) a S n:=I.hok a _ hH;exact wpAny_inSet_of (intKind_is _ _ i t) rfl hS ⟨.bl (S i),H,I.tok _,rfl,q⟩
def Ge:V->List V->Hp->VK->Prop:=λx vs H Q=>∃a i S n,x=.ref a/\vs=[.int i]/\H a=some (.set S n)/\n<4000/\Q .non (upd H a (.set (λk=>S k || decide (k=i)) (if S i then n else n+1)))
def AO:MtM X "set.add" Ge:=by intro pins s σ H x vs v us Q I rx rv h;obtain⟨a,i,S,n,rfl,rfl,hH,hn,q⟩:=h;cases rx;obtain⟨u,rfl,ru⟩:=rv.one;obtain⟨t,rfl⟩:=ru;have hS:s.heap.SetOf (intKind X.prog X.w) a S n:=I.hok a _ hH;refine call_set_add (intKind_is _ _ i t) rfl hS (by unfold scanBound;omega) λh' sb hS'=>?_;refine⟨.non,_,I.write (x:=a) (e:=a) (by rw[hH];exact trivial) (.inl rfl) (λb o hb e=>(sb.2 b hb).trans e) ?_ (show ObjOk X.prog X.w _ h' a (.set (λk=>S k || decide (k=i)) (if S i then n else n+1)) from hS'),rfl,q⟩;obtain⟨o,_,_,_,e,_⟩:=hS';exact⟨o,e⟩
def uL:CallR X (.builtin "len") (λxs H Q=>∃a S n,xs=[.ref a]/\H a=some (.set S n)/\Q (.int (n:Nat)) H):=by intro pins s σ H xs us Q I r h;obtain⟨a,S,n,rfl,hH,q⟩:=h;obtain⟨u,rfl,ru⟩:=fM r;cases ru;have hS:s.heap.SetOf (intKind X.prog X.w) a S n:=I.hok a _ hH;obtain⟨o,es,ep,t,e,hex,hd,_,_,hb,hf,rfl⟩:=hS;refine call_len_set e hex hd hf (by unfold scanBound at hb;omega) ⟨.int (es.size:Nat),H,I.tok _,⟨_,rfl⟩,q⟩
def yA:CallR X (.type "set") KI:=by intro pins s σ H xs us Q I r h;obtain⟨rfl,q⟩:=h;cases r;refine call_set_0 λled=>?_;refine⟨.ref s.heap.objs.size,_,I.laid (t':=s.toks) (λb o e=>r_ _ e) (t_ _) (show ObjOk X.prog X.w _ _ _ (.set (λ_=>false) 0) from ?_),rfl,q _ (I.hok.fresh (t_ _))⟩;obtain⟨h1,es,ep,tt,h2,h3,h4,h5,h6⟩:=setObjOf_fresh (knd:=intKind X.prog X.w) led;exact⟨_,es,ep,tt,Em _ rfl,h1,h2,h3,h4,by rw[h5];decide,h6,h5⟩
end
section
noncomputable def gh (xs:List Int) (i:Int):List Int:=if i∈xs then xs else i::xs
end
section
variable{X:Cx}{K:W.Frag}
def tJ(K:W.Frag):V->List V->Hp->VK->Prop:=λx vs H Q=>∃l b xs zs,x=.ref l/\vs=[.ref b]/\H l=some (.lst xs)/\SqT K H b zs/\xs.length+zs.length<=sizeLine/\Q .non (upd H l (.lst (xs++zs)))
def E6(l:Addr)(xs:Array Value)(n:Nat)(b:Addr)(ys:Array Value)(n2:Nat)(dd:Option Addr)(ss:Array (Option Value))(z0:¬(!xs.isEmpty&&Builtin.List.listTooLong (xs.size+ys.size))=true)(z1:xs.size<=sizeLine)(z2:xs.size+ys.size<=sizeLine+1):
 Meets (Builtin.«list.extend» ⟨[.ref l,.ref b],[]⟩) (λ_ R s=>s.heap.get? l=some { cls:=.type "list",dict:=none,data:=.seq xs n,slots:=#[] }/\s.heap.get? b=some { cls:=.type "tuple",dict:=dd,data:=.seq ys n2,slots:=ss }/\R (.ok (.ret Value.none)) { s with heap:=s.heap.update l (Obj.mapSeq λx=>x++ys),toks:=s.toks }):=
 .of_wp λprog w A R s h=>by
  obtain⟨hp,g,d,tk,os⟩:=s;obtain⟨el,eb,h⟩:=h;have e1:=PySem.AutoSeq1.idx_int;have e2:=PySem.F.sub_tuple_tuple;have e3:=PySem.F.sub_list_list;have e4:=PySem.F.sub_tuple_list;have e5:=PySem.F.sub_list_tuple;have zz:(xs++ys).size<=sizeLine+1:=by rw[Array.size_append];exact z2
  wp_walk using (wpAny_updateSeq el rfl (hz:=z1) (_hz':=zz)),wpAny_loadPart' el,wpAny_loadPart' eb
  exact⟨_,rfl,h⟩
def xP(hK:X.K=K):MtM X "list.extend" (tJ K):=by
 subst hK;intro pins s σ H x vs v us Q I rx rv h;obtain⟨l,b,xs,zs,rfl,rfl,hH,hB,hz,q⟩:=h;cases rx;obtain⟨u,rfl,ru⟩:=rv.one;cases ru;obtain⟨z,its,n,r,hl,e⟩:=I.lstM hH;obtain⟨its2,r2,⟨⟨oc,od,oda,os⟩,e2,ec,n2,ed⟩,z2⟩:=I.tuple hB;dsimp only at ec ed;subst ec ed;have hl2:=r2.length;have hsz:its.toArray.size+its2.toArray.size<=sizeLine:=by rw[A_,A_];omega
 have hlong:¬ (!its.toArray.isEmpty&&Builtin.List.listTooLong (its.toArray.size+its2.toArray.size))=true:=by rw[BH hsz,Bool.and_false];exact B_
 refine call_meets PySem.F.slot_list_extend ⟨_,e,rfl⟩ PySem.F.entry_list_extend (PySem.F.args_list_extend_2 _ _)
  (E6 l its.toArray n b its2.toArray n2 od os hlong (by rw[A_];omega) (by omega)) ⟨e,e2,?_⟩
 refine⟨.non,_,I.lset (its':=its++its2) hH e (by simp) (r.append r2) ?_,rfl,q⟩;rw[H_];omega
end
noncomputable def mnI:List Int->Int
 | []=>0
 | [x]=>x
 |x::y::r=>if mnI (y::r)<x then mnI (y::r) else x
theorem nU:∀{l:List Int},l≠[]->mnI l∈l
 | [x],_=>by simp [mnI]
 |
  x::y::r,_=>by
  have:=nU (l:=y::r) (by simp)
  rw[mnI];split
  .exact q_ _ this
  .exact s_ ..
theorem zT:∀{l:List Int}{a:Int},a∈l->mnI l<=a
 | [x],a,h=>by rw[NU] at h;rw[h];exact Int.le_refl _
 |
  x::y::r,a,h=>by
  rw[mnI];rcases J_.mp h with rfl |h
  .split <;> omega
  .have:=zT (l:=y::r) h
   split <;> omega
section
variable{X:Cx}{K:W.Frag}
def CN(f:List Int->Int)(K:W.Frag):List V->Hp->VK->Prop:=λxs H Q=>∃(a:Addr) (ns:List Int),xs=[.ref a]/\SqL K H a (ns.map V.int)/\ns≠[]/\Q (.int (f ns)) H
def AQ(hK:X.K=K)(hc:X.calm=true):CallR X (.builtin "min") (CN mnI K):=by
 subst hK;intro pins s σ H xs us Q I r h;obtain⟨a,ns,rfl,hq,hne,q⟩:=h;obtain⟨u,rfl,ru⟩:=fM r;cases ru;obtain⟨its,rv,p,hz⟩:=I.list hq;have hi:=n8 rv;obtain⟨ys,hy⟩:=hi.allInts.items;have hn:numsOf its.toArray.toList=ns:=by rw[show its.toArray.toList=its from rfl,hi.numsOf]
 have pl:=p.isList;rw[hy] at pl hn;rw[nums_intItems] at hn;have hsz:0<ys.size:=by
  have:ns.length=ys.size:=by rw[<- hn,p_,NR]
  have:=List.length_pos_iff.mpr hne
  omega
 refine min_intList (I.ok.hd hc) pl hsz λv h' tk hv hk=>?_;obtain⟨t,rfl⟩:=intItems_at hv;obtain⟨h1,h2⟩:=argBest_lt (numAt ys) (ys.size-1);have m1:numAt ys (argBest (λi j=>decide (numAt ys i<numAt ys j)) (ys.size-1))∈ns:=by rw[<- hn,numAt_eq];exact getD_mem (by rw[p_,NR];omega)
 have m2:∀b∈ns,numAt ys (argBest (λi j=>decide (numAt ys i<numAt ys j)) (ys.size-1))<=b:=λb hb=>by rw[<- hn] at hb;obtain⟨j,hj,rfl⟩:=mem_getD hb;rw[p_,NR] at hj;rw[<- numAt_eq];exact h2 j (by omega)
 have e:numAt ys (argBest (λi j=>decide (numAt ys i<numAt ys j)) (ys.size-1))=mnI ns:=Int.le_antisymm (m2 _ (nU hne)) (zT m1);rw[e];exact⟨.int (mnI ns),H,I.kept (t':=tk) hk,⟨_,rfl⟩,q⟩
end
def rIsB:R2:=λx y H Q=>∃a b,x=.bl a/\y=.bl b/\Q (.bl (a != b)) H
section
variable{X:Cx}
def JX:OpR X (compareOp .IsNot) rIsB:=by intro pins s σ H x y v u Q I rx ry ⟨a,b,e1,e2,q⟩;subst e1 e2;cases rx;cases ry;exact isnot_bool (m3 I q rfl)
end
open PySem PySem.W PyProof.Rows
structure LtO(lt:Nat->Nat->Bool)(N:Nat):Prop where
 irr:∀i,lt i i=false
 tr:∀i j k,lt i j=true->lt j k=true->lt i k=true
 tot:∀i j,i<N->j<N->i≠j->lt i j=true\/lt j i=true
abbrev Ask:=Nat->Nat->(Bool->Shared->Prop)->Shared->Prop
def Ans(cmp:Ask)(lt:Nat->Nat->Bool)(N:Nat)(s:Shared):Prop:=∀i j C,i<N->j<N->C (lt i j) s->cmp i j C s
structure PmO(N:Nat)(p:Array Nat):Prop where
 sz:p.size=N
 lt:∀i,i<N->p.getD i 0<N
 ne:∀i j,i<j->j<N->p.getD i 0≠p.getD j 0
def UpTo(lt:Nat->Nat->Bool)(p:Array Nat)(k:Nat):Prop:=∀i j,i<j->j<k->lt (p.getD i 0) (p.getD j 0)=true
def DnTo(lt:Nat->Nat->Bool)(p:Array Nat)(k:Nat):Prop:=∀i j,i<j->j<k->lt (p.getD j 0) (p.getD i 0)=true
def eM(p:Array Nat)(i:Nat):p.getD i 0=(p[i]?).getD 0:=by rw[Array.getD_eq_getD_getElem?]
def PmO.of{N:Nat}{p:Array Nat}(h:p.toList.Perm (List.range N)):PmO N p:=by
 have hl:p.size=N:=by rw[<- NR,h.length_eq,w_]
 have nd:p.toList.Nodup:=h.nodup_iff.mpr PR;have e:∀i (hi:i<N),p.getD i 0=p.toList[i]'(by rw[NR,hl];exact hi):=λi hi=>by rw[eM,Pp (by rw[hl];exact hi)];simp
 refine⟨hl,λi hi=>?_,λi j hij hj=>?_⟩
 .rw[e i hi];exact M_.mp (h.mem_iff.mp (NW _))
 .rw[e i (by omega),e j hj];exact Oz.mp nd i j _ _ hij
variable{lt:Nat->Nat->Bool}{N:Nat}{cmp:Ask}{s:Shared}
def LtO.flip(O:LtO lt N){p:Array Nat}(P:PmO N p){i j:Nat}(hij:i<j)(hj:j<N)(h:lt (p.getD j 0) (p.getD i 0)=false):lt (p.getD i 0) (p.getD j 0)=true:=by
 rcases O.tot _ _ (P.lt i (by omega)) (P.lt j hj) (P.ne i j hij hj) with z |z
 .exact z
 .rw[h] at z;cases z
def UpTo.more(O:LtO lt N){p:Array Nat}{n:Nat}(h:UpTo lt p n)(hn:1<=n)(e:lt (p.getD (n-1) 0) (p.getD n 0)=true):UpTo lt p (n+1):=λi j hij hj=>by
 by_cases hj':j<n
 .exact h i j hij hj'
 .obtain rfl:j=n:=by omega
  by_cases hi:i=j-1
  .rw[hi];exact e
  .exact O.tr _ _ _ (h i (j-1) (by omega) (by omega)) e
def DnTo.more(O:LtO lt N){p:Array Nat}{n:Nat}(h:DnTo lt p n)(hn:1<=n)(e:lt (p.getD n 0) (p.getD (n-1) 0)=true):DnTo lt p (n+1):=λi j hij hj=>by
 by_cases hj':j<n
 .exact h i j hij hj'
 .obtain rfl:j=n:=by omega
  by_cases hi:i=j-1
  .rw[hi];exact e
  .exact O.tr _ _ _ e (h i (j-1) (by omega) (by omega))
theorem qV(O:LtO lt N)(C:Ans cmp lt N s){p:Array Nat}(P:PmO N p){Q:Nat->Shared->Prop}:∀(f n:Nat),n+f=N->1<=n->UpTo lt p n->(∀m,n<=m->m<=N->UpTo lt p m->(m=N\/lt (p.getD m 0) (p.getD (m-1) 0)=true)->Q m s)->(kas_asc p f n).kasWp cmp Q s
 |0,n,hf,h1,hu,hq=>hq n (t_ _) (by omega) hu (.inl (by omega))
 |
  f+1,n,hf,h1,hu,hq=>by
  refine C _ _ _ (P.lt n (by omega)) (P.lt (n-1) (by omega)) ?_;cases z:lt (p.getD n 0) (p.getD (n-1) 0) with
  |true=>exact hq n (t_ _) (by omega) hu (.inr z)
  |false=>exact qV O C P f (n+1) (by omega) (by omega) (hu.more O h1 (O.flip P (by omega) (by omega) z)) λm a b=>hq m (by omega) b
theorem va(O:LtO lt N)(C:Ans cmp lt N s){p:Array Nat}(P:PmO N p){Q:Array Nat×Nat×Nat->Shared->Prop}:∀(f n:Nat),n+f=N->1<=n->DnTo lt p n->(∀m,n<=m->m<=N->DnTo lt p m->Q (p,m,0) s)->(kas_desc f p n 0).kasWp cmp Q s
 |0,n,hf,h1,hu,hq=>hq n (t_ _) (by omega) hu
 |
  f+1,n,hf,h1,hu,hq=>by
  refine C _ _ _ (P.lt n (by omega)) (P.lt (n-1) (by omega)) ?_;cases z:lt (p.getD n 0) (p.getD (n-1) 0) with
  |true=>exact va O C P f (n+1) (by omega) (by omega) (hu.more O h1 z) λm a b=>hq m (by omega) b
  |false=>refine C _ _ _ (P.lt (n-1) (by omega)) (P.lt n (by omega)) ?_;rw[O.flip P (by omega) (by omega) z];exact hq n (t_ _) (by omega) hu
def AF{p:Array Nat}{n k:Nat}(hn:n<=p.size):(kas_rev p 0 n).getD k 0=if k<n then p.getD (n-1-k) 0 else p.getD k 0:=by
 have e:=getElem?_mirror_all (xs:=p) (i:=0) hn k;unfold kas_rev;rw[eM,e];by_cases h:k<n
 .rw[if_pos ⟨NK _,h⟩,if_pos h,eM];congr 2;omega
 .rw[if_neg (λz=>h z.2),if_neg h,eM]
def Cm(O:LtO lt N)(C:Ans cmp lt N s){p:Array Nat}(P:p.toList.Perm (List.range N)){Q:Nat×Array Nat->Shared->Prop}{n:Nat}(h1:1<=n)(hn:n<=N)(hd:DnTo lt p n)(hq:∀m p',p'.toList.Perm (List.range N)->1<=m->m<=N->UpTo lt p' m->Q (m,p') s):(kas_tail3 n N p).kasWp cmp Q s:=by have P':(kas_rev p 0 n).toList.Perm (List.range N):=(Array.perm_iff_toList_perm.mp (mirror_perm _ _ _ _)).trans P;have sz:=(PmO.of P).sz;unfold kas_tail3;rw[KasT.kasWp_bind];refine qV O C (PmO.of P') (N-n) n (by omega) h1 (λi j hij hj=>?_) λm a b c _=>hq m _ P' (by omega) b c;rw[AF (by omega),AF (by omega),if_pos (by omega),if_pos (by omega)];exact hd _ _ (by omega) (by omega)
def Bb(O:LtO lt N)(C:Ans cmp lt N s){p:Array Nat}(P:p.toList.Perm (List.range N))(hN:1<=N){Q:Nat×Array Nat->Shared->Prop}(hq:∀m p',p'.toList.Perm (List.range N)->1<=m->m<=N->UpTo lt p' m->Q (m,p') s):(kas_count N p).kasWp cmp Q s:=by
 unfold kas_count;rw[KasT.kasWp_bind];refine qV O C (PmO.of P) (N-1) 1 (by omega) (t_ _) (λi j hij hj=>by omega) λm a b c d=>?_;by_cases hm:m=N
 .rw[if_pos (by rw[NA];exact hm)];exact hq m p P a b c
 .rw[if_neg (by rw[NA];exact hm)];by_cases h1:m>1
  .rw[if_pos h1];refine C _ _ _ ((PmO.of P).lt 0 (by omega)) ((PmO.of P).lt (m-1) (by omega)) ?_;rw[c 0 (m-1) (by omega) (by omega)];exact hq m p P a b c
  .rw[if_neg h1];obtain rfl:m=1:=by omega
   have z:=d.resolve_left hm;unfold kas_descPart;rw[KasT.kasWp_bind];refine va O C (PmO.of P) (N-2) 2 (by omega) (by omega) (λi j hij hj=>?_) λm' a' b' c'=>?_
   .obtain rfl:i=0:=by omega
    obtain rfl:j=1:=by omega
    exact z
   .dsimp only;rw[if_neg (by omega)];exact Cm O C P (by omega) b' c' hq
theorem rX(O:LtO lt N)(C:Ans cmp lt N s){p:Array Nat}(P:PmO N p){k:Nat}(hk:k<N){Q:Nat->Shared->Prop}(hu:UpTo lt p k):∀(f l r:Nat),l<=r->r<=k->r-l<=f->(∀i,i<l->lt (p.getD i 0) (p.getD k 0)=true)->(∀i,r<=i->i<k->lt (p.getD k 0) (p.getD i 0)=true)->(∀m,m<=k->(∀i,i<m->lt (p.getD i 0) (p.getD k 0)=true)->(∀i,m<=i->i<k->lt (p.getD k 0) (p.getD i 0)=true)->Q m s)->(kas_place p k f l r).kasWp cmp Q s
 |0,l,r,h1,h2,h3,h4,h5,hq=>hq l (by omega) h4 λi hi=>h5 i (by omega)
 |
  f+1,l,r,h1,h2,h3,h4,h5,hq=>by
  unfold kas_place;by_cases h:l >= r
  .rw[if_pos h];exact hq l (by omega) h4 λi hi=>h5 i (by omega)
  .rw[if_neg h];refine C _ _ _ (P.lt k hk) (P.lt _ (by omega)) ?_;cases z:lt (p.getD k 0) (p.getD ((l+r)/2) 0) with
   |
    true=>
    refine rX O C P hk hu f l ((l+r)/2) (by omega) (by omega) (by omega) h4 (λi hi hik=>?_) hq;by_cases hr:i=(l+r)/2
    .rw[hr];exact z
    .exact O.tr _ _ _ z (hu _ _ (by omega) hik)
   |
    false=>
    refine rX O C P hk hu f ((l+r)/2+1) r (by omega) h2 (by omega) (λi hi=>?_) h5 hq;have y:=O.flip P (show (l+r)/2<k by omega) hk z;by_cases hr:i=(l+r)/2
    .rw[hr];exact y
    .exact O.tr _ _ _ (hu _ _ (by omega) (by omega)) y
def yO{p:Array Nat}{k l t:Nat}(hk:k<p.size)(hl:l<=k):(bubble p k (k-l)).getD t 0=if t=l then p.getD k 0 else if l<t/\t<=k then p.getD (t-1) 0 else p.getD t 0:=by
 have e:=getElem?_bubble hk (k-l) (by omega) t;rw[show k-(k-l)=l by omega] at e;rw[eM,e];by_cases h:t=l
 .rw[if_pos h,if_pos h,eM]
 .rw[if_neg h,if_neg h];by_cases h':l<t/\t<=k
  .rw[if_pos h',if_pos h',eM]
  .rw[if_neg h',if_neg h',eM]
theorem yP(O:LtO lt N)(C:Ans cmp lt N s){Q:Array Nat->Shared->Prop}(hq:∀p,p.toList.Perm (List.range N)->UpTo lt p N->Q p s):∀(f:Nat) (p:Array Nat) (k:Nat),p.toList.Perm (List.range N)->k+f=N->1<=k->UpTo lt p k->(kas_bin f p k).kasWp cmp Q s
 |
  0,p,k,P,hf,h1,hu=>by
  obtain rfl:k=N:=by omega
  exact hq p P hu
 |
  f+1,p,k,P,hf,h1,hu=>by
  have sz:=(PmO.of P).sz;unfold kas_bin;rw[KasT.kasWp_bind];refine rX O C (PmO.of P) (by omega) hu k 0 k (by omega) (t_ _) (by omega) (λi hi=>by omega) (λi h1 h2=>by omega) λm hm ha hb=>?_;refine yP O C hq f _ (k+1) ((Array.perm_iff_toList_perm.mp (bubble_perm _ _ _)).trans P) (by omega) (by omega) λi j hij hj=>?_;rw[yO (by omega) hm,yO (by omega) hm];by_cases i1:i=m
  .rw[if_pos i1];rw[if_neg (by omega),if_pos (by omega)];exact hb _ (by omega) (by omega)
  .rw[if_neg i1];by_cases j1:j=m
   .rw[if_pos j1,if_neg (by omega)];exact ha i (by omega)
   .rw[if_neg j1];by_cases i2:m<i
    .rw[if_pos (by omega),if_pos (by omega)];exact hu _ _ (by omega) (by omega)
    .rw[if_neg (by omega)];by_cases j2:m<j
     .rw[if_pos (by omega)];exact hu _ _ (by omega) (by omega)
     .rw[if_neg (by omega)];exact hu _ _ (by omega) (by omega)
def EI(O:LtO lt N)(C:Ans cmp lt N s)(hN:1<=N){Q:Array Nat->Shared->Prop}(hq:∀p,p.toList.Perm (List.range N)->UpTo lt p N->Q p s):(kas_sort N).kasWp cmp Q s:=by
 unfold kas_sort;rw[KasT.kasWp_bind];refine Bb O C (by simp) hN λm p P h1 h2 hu=>?_;dsimp only;by_cases h:m<N
 .rw[if_pos h,show max m 1=m by omega];exact yP O C hq _ _ _ P (by omega) h1 hu
 .rw[if_neg h];obtain rfl:m=N:=by omega
  exact hq p P hu
def DB(H:Hp):Prop:=∀b,H b=none\/(∃o xs,H b=some (.frz o xs))\/H b=some (.tbl #[])
structure TabsOk(K:W.Frag)(ts:List Addr)(h:Heap):Prop where
 at_:∀P∈ts,h.get? P=some (W.tabObj #[])
 no:∀P∈ts,K.lookup P=none
 cd:∀P∈ts,∃c,W.codeHdIn K c P=true
def spT(K:W.Frag)(mg:Qt)(ts:List Addr):Sp:=λvs H Q _=>∃(a:Addr) (ns:List Int),vs=[.ref a]/\DB H/\SqL K H a (ns.map V.int)/\ns.length<=63/\(∀P∈ts,H P=some (.tbl #[]))/\sI K mg H/\∀H',Q (.bl true) H'
def Nf{Pr:Program}{w:World}{K:W.Frag}{mg mb:Qt}{k:Nat}{fa a:Addr}{fd:FuncData}{x:Str}{s1:Shared}{vs:List Value}{ns:List Int}{ts:List Addr}
 (KX:K.In s1.heap) (hns:s1.heap.Ns mainGlobals mg) (hb:s1.heap.Ns builtinsNs mb) (hbb:∀y:Str,y ≠ "__name__"->mb y=bootBuiltins y) (hlim:s1.heap.NoLimit) (hg:s1.gens=#[]) (TO:TabsOk K ts s1.heap) (hbm:∃bm ob,mg "__builtins__"=some (.ref bm)/\bm≠builtinsNs/\s1.heap.get? bm=some ob/\ob.cls=.type "module" /\ ob.dict=some builtinsNs/\ob.data=.plain)
 (ha:s1.heap.get? a=some { cls:=.type "list",data:=.seq vs.toArray }) (hi:IntsAre vs ns) (hl:ns.length<=63) (hr:Room k callerA)
 (F:∀base:Heap,K.In base->base.Ns mainGlobals mg->FnOk Pr w K mg base (CX1 Pr w) k fa fd [x] (spT K mg ts)) (hbind:∀(s:Shared) (u:Value),BindsTo s fd ⟨[u],[]⟩ [(x,u)]):
 codeAny (model Pr w) callerA (.call (.ref fa) ⟨[.ref a],[]⟩) (λr s'=>r=.ok (.ret (.bool true))/\OldK s1.heap s'.heap/\s'.os=s1.os/\AllBare s'.gens) s1:=by
 have rv:=j0 hi;have hz:ns.length<=sizeLine:=Nu hl (by decide);have ant:a∉ts:=λz=>by
  have:=TO.at_ a z
  rw[ha] at this;cases this
 obtain⟨bm,ob,b1,b2,b3,b4,b5,b6⟩:=hbm;have bmG:bm≠mainGlobals:=λz=>by obtain⟨o,es,ep,e,dd,_⟩:=hns;rw[z,e] at b3;cases b3;rw[dd] at b6;cases b6
 have bmt:bm∉ts:=λz=>by
  have:=TO.at_ bm z
  rw[b3] at this;cases this;cases b6
 have bma:bm≠a:=λz=>by rw[z,ha] at b3;cases b3;cases b6
 have go
  : ∀Hs:Option HO,(Hs=none\/∃o xs,Hs=some (.frz o (.lst xs)))->(∀u,Hs=some u->ObjOk Pr w (λ_=>none) s1.heap a u)->(Hs≠none->K.lookup a=none)->(∀H:Hp,H a=Hs->SqL K H a (ns.map V.int))->
  codeAny (model Pr w) callerA (.call (.ref fa) ⟨[.ref a],[]⟩) (λr s'=>r=.ok (.ret (.bool true))/\OldK s1.heap s'.heap/\s'.os=s1.os/\AllBare s'.gens) s1:=by
  intro Hs h1 h2 h3 h4;obtain⟨H,eH⟩:∃H:Hp,H=λb=>if b=a then Hs else if b∈ts then some (.tbl #[]) else if b=bm/\K.lookup bm=none then some (.frz ob (.ext λ_=>True)) else none:=⟨_,rfl⟩
  have Ha:H a=Hs:=by rw[eH];exact if_pos rfl
  have Ht:∀P∈ts,H P=some (.tbl #[]):=λP hP=>by rw[eH];show (if P=a then _ else _)=_;rw[if_neg (λz=>ant (by rw[<- z];exact hP)),if_pos hP]
  have Hb:K.lookup bm=none->H bm=some (.frz ob (.ext λ_=>True)):=λq=>by rw[eH];show (if bm=a then _ else _)=_;rw[if_neg bma,if_neg bmt,if_pos ⟨rfl,q⟩]
  have Hn
   : ∀b,H b≠none->(b=a/\Hs≠none)\/b∈ts\/(b=bm/\K.lookup bm=none):=λb n=>by
   by_cases q:b=a
   .exact .inl ⟨q,by rw[<- Ha,<- q];exact n⟩
   .by_cases q2:b∈ts
    .exact .inr (.inl q2)
    .by_cases q3:b=bm/\K.lookup bm=none
     .exact .inr (.inr q3)
     .refine absurd ?_ n;rw[eH];show (if b=a then _ else _)=_;rw[if_neg q,if_neg q2,if_neg q3]
  have hO:DB H:=λb=>by
   by_cases n:H b=none
   .exact .inl n
   .rcases Hn b n with ⟨e,n2⟩ |e |⟨e,y⟩
    .rw[e,Ha];rcases h1 with z |⟨o,xs,z⟩
     .exact absurd z n2
     .exact .inr (.inl ⟨_,_,z⟩)
    .exact .inr (.inr (Ht b e))
    .rw[e];exact .inr (.inl ⟨_,_,Hb y⟩)
  have hok:HOk Pr w H s1.heap:=λb u e=>by
   rcases Hn b (by rw[e];simp) with ⟨z,n2⟩ |z |⟨z,y⟩
   .subst z;rw[Ha] at e;have q:=h2 u e;rcases h1 with y |⟨o,xs,y⟩
    .exact absurd y n2
    .rw[e] at y;cases y;exact q
   .have y:=Ht b z;rw[e] at y;cases y;exact TO.at_ b z
   .subst z;rw[Hb y] at e;cases e;exact⟨b3,trivial,⟨ob,b3⟩,λ_ _ _ _=>trivial⟩
  have keep:∀{b:Addr}{o:Obj},s1.heap.get? b=some o->H b=none->(fO s1.heap H).get? b=some o:=λe n=>rF e n;have noD:∀{b:Addr}{o:Obj}{es:Array DictEntry}{ep:Nat},s1.heap.get? b=some o->o.data=.dict es ep->H b=none:=λ{b o es ep} e dd=>by
   by_cases n:H b=none
   .exact n
   .rcases Hn b n with ⟨z,_⟩ |z |⟨z,_⟩
    .subst z;rw[ha] at e;cases e;cases dd
    .rw[TO.at_ b z] at e;cases e;cases dd
    .subst z;rw[b3] at e;cases e;rw[b6] at dd;cases dd
  have nsK:∀{b:Addr}{m:Qt},s1.heap.Ns b m->(fO s1.heap H).Ns b m:=λ{b m} ⟨o,es,ep,e,dd,r⟩=>⟨o,es,ep,keep e (noD e dd),dd,r⟩;have kb:K.In (fO s1.heap H):=λb o e=>keep (KX b o e) (by
   by_cases n:H b=none
   .exact n
   .rcases Hn b n with ⟨z,y⟩ |z |⟨z,y⟩
    .subst z
     have:=h3 y
     rw[e] at this;cases this
    .have:=TO.no b z
     rw[e] at this;cases this
    .subst z;rw[e] at y;cases y)
  have hM:Mod K mg (fO s1.heap H):=⟨kb,nsK hns,⟨mb,nsK hb,hbb⟩,let ⟨mc,q1,q2⟩:=hlim;⟨mc,nsK q1,q2⟩⟩;have e0:Env0 Pr w K mg (fO s1.heap H) callerA [] s1 H:=⟨rfl,hM,λb o e=>vN e,Nat.le_of_eq (pf _ _),trivial,λb z=>absurd (show b∈([]:List Addr) from z) (by simp),hok,.of_eq hg⟩;refine Qf ((F _ kb (nsK hns)).run callerA [] s1 H ⟨[.ref a],[]⟩ [.ref a] [.ref a] (λv _=>v=.bl true) (λ_ _ _=>False) hr e0 (hbind s1 (.ref a)) (.cons rfl .nil) ⟨a,ns,rfl,hO,h4 H Ha,hl,Ht,?bm,λ_=>rfl⟩) λr s' h=>?_
  case bm=>
   refine⟨bm,ob,b1,b2,bmG,⟨b4,b5,b6⟩,?_⟩;cases q:K.lookup bm with
   |none=>exact .inr ⟨_,Hb q⟩
   |
    some o=>
    have:=KX bm o q
    rw[b3] at this;cases this;exact .inl rfl
  cases r with
  |error e=>obtain⟨_,_,_,_,_,_,_,z⟩:=h;exact z.2.2.elim
  |
   ok fl=>
   cases fl with
   |next=>exact False.elim h
   |brk=>exact False.elim h
   |cont=>exact False.elim h
   |
    ret u=>
    obtain⟨v,H',os,bare,un,hok',r',q⟩:=h;have q':v=.bl true:=q;subst q';obtain rfl:u=Value.bool true:=r';refine⟨rfl,⟨λb o e=>?_,λb o e=>?_⟩,os,bare⟩
    .by_cases n:H b=none
     .exact .inl (un.keep b o e n (λz=>absurd (show b∈([]:List Addr) from z) (by simp)) (by simp))
     .have fz:∀ob xs,H b=some (.frz ob xs)->asItWas s1.heap s'.heap b o:=λob xs y=>by have y2:=un.frzs b ob _ y;obtain⟨e1,_⟩:=hok b _ y;obtain⟨e2,_⟩:=hok' b _ y2;rw[e] at e1;cases e1;exact .inl e2
      rcases Hn b n with ⟨z,n2⟩ |z |⟨z,y⟩
      .rcases h1 with y |⟨ob,xs,y⟩
       .exact absurd y n2
       .exact fz _ _ (by rw[z,Ha];exact y)
      .obtain⟨more,y⟩:=un.tbls b #[] (Ht b z);obtain⟨c,hc⟩:=TO.cd b z;have tab:=(W.codeHd_of_K KX hc).tab (TO.at_ b z);have e2:=TO.at_ b z;rw[e] at e2;cases e2;exact .inr (.inl ⟨tab.isCodeTable,rfl,#[],more,rfl,hok' b _ y⟩)
      .exact fz _ _ (by rw[z];exact Hb y)
    .exact un.there b o e (by simp)
 cases hk:K.lookup a with
 |some o=>have e:=KX a o hk;rw[ha] at e;cases e;exact go none (.inl rfl) (λu z=>nomatch z) (λz=>absurd rfl z) λH _=>.inr ⟨_,vs.toArray,_,hk,rfl,rfl,rfl,by rw[A_,hi.length];exact hz,by simpa using rv⟩
 |none=>exact go (some (.frz { cls:=.type "list",data:=.seq vs.toArray } (.lst (ns.map V.int)))) (.inr ⟨_,_,rfl⟩) (λu z=>by cases z;exact⟨ha,by rw[p_];exact hz,vs,_,rv,ha⟩) (λ_=>hk) λH e=>.inl (.inr ⟨_,e⟩)
def walk_lawT{l:W.OpenLaw}{q:Program}{loose:List Str}{XP:(Str->Option Value)->Heap->Prop}{YP:World->Heap->Prop}{d:DefRec}{K:Params->W.Frag}{x:Str}{k:Nat}{ts:List Addr}(hn:l.most=some 63)(hdf:d.params.defaults=[])(hr:Room k callerA)
 (hY:∀(w:World) (h:Heap),YP w h->(K w.params).In h/\TabsOk (K w.params) ts h)
 (F:∀(w:World) (mg:Qt) (h:Heap),(K w.params).In h->h.Ns mainGlobals mg->∀base:Heap,(K w.params).In base->base.Ns mainGlobals mg->Callee l.prog w (K w.params) mg base d.name k [x] (spT (K w.params) mg ts))
 (Dd:∀(w:World) (mg:Qt) (h:Heap),(K w.params).In h->h.Ns mainGlobals mg->∃st,Def (K w.params) mg d.name st/\∀(kV doc pm:Value) (an:Option Addr) (cdv ct:Value) (us:List Value),us.length=1->bindArgs (W.fnOf d.name d.name (cV st) (bD st) (aq st) .none kV doc pm an cdv ct) ⟨us,[]⟩=pure ([x].zip us)):
 W.WalkO q loose XP YP l.row.toRowW d [] (λf vs=>PySem.call f vs):=by
 refine Att.attach_call hn hdf λw s0 s1 mg mb fa o pm cd doc a vs ns G Y ho hd n_ hmg hobj hints a_ hg=>?_;obtain⟨KX,TO⟩:=hY w _ Y;obtain⟨st,De,hbind⟩:=Dd w mg _ KX G.T.g;obtain⟨f,fd,Ff,m⟩:=De.ex;have e:=hmg.symm.trans m;cases e;obtain⟨oc,od,kV,doc',pm',an,cdv,ct,osl,rfl,lk,hcd'⟩:=Ff.ex;refine Nf KX G.T.g G.T.b G.T.builtins G.T.nolimit hg TO G.T.bmain hobj hints a_ hr (λbase kb nb=>?_) (λs u=>.of_eq (hbind kV doc' pm' an cdv ct [u] rfl));obtain⟨f',fd',F',m',kp',b',oc',od',osl',lk'⟩:=(F w mg _ KX G.T.g base kb nb).ex;rw[m] at m';cases m';rw[lk] at lk';cases lk';exact F'
noncomputable def bA (x y:Int×Int):Bool:=decide (x.1<y.1\/(x.1=y.1/\x.2<y.2))
def rQ(x:Int×Int):bA x x=false:=by unfold bA;rw[OG];omega
def u5{x y z:Int×Int}(h1:bA x y=true)(h2:bA y z=true):bA x z=true:=by unfold bA at *;rw[Oy] at *;omega
def tK{x y:Int×Int}(h:x≠y):bA x y=true\/bA y x=true:=by unfold bA;rw[Oy,Oy];have:¬ (x.1=y.1/\x.2=y.2):=λz=>h (Prod.ext z.1 z.2);omega
def wz{α:Type}(d:α)(ks:List α):((List.range ks.length).map λi=>ks.getD i d)=ks:=List.ext_getElem (by simp) λi _ h=>by simp [h]
def yj{x y:Int×Int}(h1:bA x y=true):bA y x=false:=by
 cases z:bA y x with
 |false=>rfl
 |true=>have:=u5 h1 z;rw[rQ] at this;cases this
def FH{α:Type}{k:α->Int×Int}{a b:List α}(h:a.Pairwise λx y=>bA (k x) (k y)=true)(h':b.Pairwise λx y=>bA (k x) (k y)=true)(p:a.Perm b):a=b:=p.eq_of_pairwise (λx y _ _ h1 h2=>by rw[yj h1] at h2;cases h2) h h'
def KW{α:Type}(k:α->Int×Int)(hk:∀{x y},k x=k y->x=y){l:List α}(nd:l.Nodup):(l.mergeSort λx y=>!bA (k y) (k x)).Pairwise λx y=>bA (k x) (k y)=true:=by
 have srt:=List.pairwise_mergeSort (le:=λx y:α=>!bA (k y) (k x)) (λa b c h1 h2=>by
  simp only[bA,Pd,OG] at *;omega) (λa b=>by
  simp only[bA,O7,Pd,OG];omega) l
 refine List.Pairwise.imp (λ{a b} h=>?_) (List.Pairwise.and ((List.mergeSort_perm ..).nodup_iff.mpr nd) srt)
 have:=h.2
 simp only[Pd] at this;exact (tK λy=>h.1 (hk y)).resolve_right (by rw[this];exact Bool.noConfusion)
noncomputable def ltP (ks:List (Int×Int)) (i j:Nat):Bool:=bA (ks.getD i (0,0)) (ks.getD j (0,0))
def Jy{ks:List (Int×Int)}(nd:ks.Nodup):LtO (ltP ks) ks.length where
 irr:=λi=>rQ _
 tr:=λi j k h1 h2=>u5 h1 h2
 tot:=λi j hi hj hne=>by
  refine tK ?_;rw[K_,K_,v_ hi,v_ hj];show ks[i]≠ks[j];rcases Nat.lt_or_gt_of_ne hne with z |z
  .exact Oz.mp nd i j hi hj z
  .exact λy=>Oz.mp nd j i hj hi z y.symm
def Gk{ks:List (Int×Int)}{n:Nat}{p:Array Nat}(h1:p.toList.Perm (List.range n))(h2:UpTo (ltP ks) p n):p.toList.Pairwise λi j=>bA (ks.getD i (0,0)) (ks.getD j (0,0))=true:=by
 have sz:=(PmO.of h1).sz;rw[Oz];intro i j hi hj hij;rw[NR] at hi hj
 have:=h2 i j hij (by omega)
 rw[eM,eM,Pp hi,Pp hj] at this;exact this
def TupAt(h:Heap)(v:Value)(x:Int×Int):Prop:=∃(a:Addr) (e:Nat) (dd:Option Addr) (sl:Array (Option Value)) (t1 t2:Tok),v=.ref a/\h.get? a=some { cls:=.type "tuple",dict:=dd,data:=.seq #[.int x.1 t1,.int x.2 t2] e,slots:=sl }
def TupAt.keep{h h':Heap}{v:Value}{x:Int×Int}{b:Addr}(t:TupAt h v x)(hb:∃o,h.get? b=some o/\o.cls=.type "list")(k:∀c o,c≠b->h.get? c=some o->h'.get? c=some o):TupAt h' v x:=by obtain⟨a,e,dd,sl,t1,t2,rfl,ha⟩:=t;obtain⟨o,ho,hc⟩:=hb;exact⟨a,e,dd,sl,t1,t2,rfl,k a _ (λz=>by rw[z,ho] at ha;cases ha;injection hc with hc;exact absurd hc (by decide)) ha⟩
def TupAt.mono{h h':Heap}{v:Value}{x:Int×Int}(t:TupAt h v x)(k:∀c o,h.get? c=some o->h'.get? c=some o):TupAt h' v x:=by obtain⟨a,e,dd,sl,t1,t2,rfl,ha⟩:=t;exact⟨a,e,dd,sl,t1,t2,rfl,k a _ ha⟩
section
variable{prog:Program}{w:World}{A:Around}{E:Qv}{s:Shared}
def Gp{v u:Value}{x y:Int×Int}{Q:Bool->Shared->Prop}(hv:TupAt s.heap v x)(hu:TupAt s.heap u y)(h:Q (bA x y) s):wpAny (model prog w) A (keyLt' (tuples' true) v u) Q E s:=by
 obtain⟨a,e,dd,sl,t1,t2,rfl,ha⟩:=hv;obtain⟨b,e',dd',sl',t3,t4,rfl,hb⟩:=hu;refine kat_lt ha rfl hb rfl ?_;show KatLex prog w A true false Q [(.int x.1 t1,.int y.1 t3),(.int x.2 t2,.int y.2 t4)] 0 s;refine kat_cons (wpAny_eqBool_int ?_);by_cases h1:x.1=y.1
 .rw[show (x.1==y.1)=true from NA.mpr h1];refine kat_yes (kat_cons (wpAny_eqBool_int ?_));by_cases h2:x.2=y.2
  .rw[show (x.2==y.2)=true from NA.mpr h2];refine kat_yes (kat_nil ?_);rw[show bA x y=false from by unfold bA;rw[OG];omega] at h;exact h
  .rw[show (x.2==y.2)=false from F_.mpr h2];refine kat_no (kat_one _ _ (lt_int ?_));rw[show bA x y=decide (x.2<y.2) from PY.mpr (by omega)] at h;exact h
 .rw[show (x.1==y.1)=false from F_.mpr h1];refine kat_no (oneLt_int ?_);rw[show bA x y=decide (x.1<y.1) from PY.mpr (by omega)] at h;exact h
def TupsAt(h:Heap):List Value->List (Int×Int)->Prop
 | [],[]=>True
 |v::vs,x::xs=>TupAt h v x/\TupsAt h vs xs
 |_,_=>False
theorem TupsAt.len{h:Heap}:∀{vs:List Value}{xs:List (Int×Int)},TupsAt h vs xs->vs.length=xs.length
 | [],[],_=>rfl
 | [],_::_,t=>t.elim
 |_::_,[],t=>t.elim
 |_::_,_::_,t=>by rw[E_,E_,t.2.len]
theorem TupsAt.get{h:Heap}:∀{vs:List Value}{xs:List (Int×Int)} (i:Nat),TupsAt h vs xs->i<xs.length->TupAt h (vs.getD i Value.none) (xs.getD i (0,0))
 | [],[],i,_,hi=>absurd hi (by simp)
 | [],_::_,i,t,_=>t.elim
 |_::_,[],i,t,_=>t.elim
 |_::_,_::_,0,t,_=>t.1
 |_::vs,_::xs,i+1,t,hi=>TupsAt.get (vs:=vs) (xs:=xs) i t.2 (by simpa using hi)
theorem TupsAt.imp{h h':Heap}(k:∀v x,TupAt h v x->TupAt h' v x):∀{vs:List Value}{xs:List (Int×Int)},TupsAt h vs xs->TupsAt h' vs xs
 | [],[],_=>trivial
 | [],_::_,t=>t.elim
 |_::_,[],t=>t.elim
 |_::_,_::_,t=>⟨k _ _ t.1,t.2.imp k⟩
theorem TupsAt.snoc{h:Heap}{v:Value}{x:Int×Int}(tv:TupAt h v x):∀{vs:List Value}{xs:List (Int×Int)},TupsAt h vs xs->TupsAt h (vs++[v]) (xs++[x])
 | [],[],_=>⟨tv,trivial⟩
 | [],_::_,t=>t.elim
 |_::_,[],t=>t.elim
 |_::_,_::_,t=>⟨t.1,t.2.snoc tv⟩
theorem TupsAt.kat{h:Heap}:∀{vs:List Value}{xs:List (Int×Int)},TupsAt h vs xs->∃fs,KatTups h vs fs/\fs.length=xs.length/\∀f∈fs,∃i t,f=Value.int i t
 | [],[],_=>⟨[],trivial,rfl,λf z=>nomatch z⟩
 | [],_::_,t=>t.elim
 |_::_,[],t=>t.elim
 |
  _::_,x::_,t=>by
  obtain⟨fs,k,l,q⟩:=t.2.kat;obtain⟨a,e,dd,sl,t1,t2,rfl,ha⟩:=t.1;refine⟨.int x.1 t1::fs,⟨⟨a,_,_,_,rfl,ha,rfl,rfl,rfl⟩,k⟩,by rw[E_,E_,l],λf hf=>?_⟩;rcases J_.mp hf with rfl |hf
  .exact⟨_,_,rfl⟩
  .exact q f hf
def xK{vs:List Value}{xs:List (Int×Int)}{Q:SortKind->Shared->Prop}(t:TupsAt s.heap vs xs)(h2:2<=xs.length)(h:Q (tuples' true) s):wpAny (model prog w) A (keyKind' vs.toArray) Q E s:=by obtain⟨fs,k,l,q⟩:=t.kat;refine kat_kind (T:=.type "int") k (by omega) (λf hf=>?_) (by decide) h;obtain⟨i,t,rfl⟩:=q f hf;exact .now
def zb{vs:List Value}{xs:List (Int×Int)}(t:TupsAt s.heap vs xs):Ans (kas_ask prog w A (tuples' true) vs) (ltP xs) xs.length s:=λi j C hi hj c=>Gp (t.get i hi) (t.get j hj) c
def Dh{β:Type}{vs ks:List Value}{xs:List (Int×Int)}{k:Unit×SortSt->Sem β}{P:β->Shared->Prop}(hkl:ks.length=vs.length)(h64:vs.length<64)(T:TupsAt s.heap ks xs)(nd:xs.Nodup)(h:∀(p:Array Nat) st',p.toList.Perm (List.range vs.length)->UpTo (ltP xs) p vs.length->(arrOf st').map (λp:Keyed=>p.2)=List.toArray (p.toList.map λi=>vs.getD i Value.none)->failedOf st'=none->wpAny (model prog w) A (k ((),st')) P E s):
 wpAny (model prog w) A (let f:=λκ=>(if vs.toArray.size<2 then pure () else sortRuns').run (SortSt.mk' κ (ks.toArray.zip vs.toArray) #[] 7 none) >>= k;if vs.toArray.size<2 then pure general' >>= f else keyKind' ks.toArray >>= f) P E s:=by
 dsimp only;have kl:=T.len;by_cases h2:vs.toArray.size<2
 .rw[if_pos h2,if_pos h2];rw[A_] at h2;refine o_ <| z_ ?_;rw[StateT.run_pure];refine o_ <| z_ (h (List.toArray (List.range vs.length)) _ (.refl _) (λi j hij hj=>by omega) ?_ rfl);show (ks.toArray.zip vs.toArray).map (λp:Keyed=>p.2)=List.toArray ((List.range vs.length).map _);rw[wz];apply Array.toList_inj.mp;rw[Array.toList_map,ksk_zip];exact List.map_snd_zip (by simp [hkl])
 .rw[if_neg h2,if_neg h2];rw[A_] at h2;refine o_ <| xK T (by omega) ?_;have an:=zb (prog:=prog) (w:=w) (A:=A) T;have O:=Jy nd;rw[<- kl,hkl] at an O;have run:=kat_run (prog:=prog) (w:=w) (A:=A) (E:=E) (κ:=tuples' true) (s:=s) (Q:=λst' s'=>s'=s/\wpAny (model prog w) A (k ((),st')) P E s) (G:=λp s'=>s'=s/\p.toList.Perm (List.range vs.length)/\UpTo (ltP xs) p vs.length) hkl (by omega) h64
   (λp st' s' a1 a2 a3 a4=>⟨a4.1,h p st' a4.2.1 a4.2.2 (kat_snds hkl a2) a3⟩) (EI O an (by omega) λp p1 p2=>⟨rfl,p1,p2⟩)
  refine o_ <| NG run ?_ λ_ _ z=>z;rintro⟨⟨⟩,st'⟩ _ ⟨rfl,z⟩;exact z
end
set_option maxHeartbeats 4000000
section
variable{prog:Program}{w:World}{A:Around}{E:Qv}{s:Shared}
def A5{a kS:Addr}{st:SortSt}{out ks:List Value}{e e1:Nat}{P:PySem.Fin->Shared->Prop}(hk:s.heap.get? kS=some (seqObj "list" (List.toArray ks) e))(ha:s.heap.get? a=some (seqObj "list" #[] e1))(hne:kS≠a)(hout:(arrOf st).map (λp:Keyed=>p.2)=List.toArray out)(hf:failedOf st=none)(hz:out.length<64)(hkz:ks.length<64)
 (h:∀h' c,(∀b o,b≠kS->b≠a->s.heap.get? b=some o->h'.get? b=some o)->h'.get? a=some (seqObj "list" out.toArray c)->P (.done (.ret .none)) { s with heap:=h' }):wpAny (model prog w) A (ksk_tail a false e1 (.ref kS) st) P E s:=by
 have u1:=OI s.heap kS (Obj.mapSeq λ_=>(#[]:Array Value));have a1:=(u1.2 a hne.symm).trans ha;have u2:=OI (s.heap.update kS (Obj.mapSeq λ_=>(#[]:Array Value))) a (Obj.mapSeq λ_=>(arrOf st).map (·.2));obtain⟨c,hc⟩:∃c,((s.heap.update kS (Obj.mapSeq λ_=>(#[]:Array Value))).update a (Obj.mapSeq λ_=>(arrOf st).map (·.2))).get? a=some (seqObj "list" ((arrOf st).map (·.2)) c):=⟨_,get?_update_seq a1 λ_=>(arrOf st).map (·.2)⟩;have zs:((arrOf st).map (·.2)).size<64:=by rw[hout];exact hz
 have big:sizeLine=16777216:=rfl;unfold ksk_tail;try dsimp only
 refine o_ <| Qq hk rfl ?_ (by rw[A_];omega) (NK _);refine o_ <| Qm ?_;refine o_ <| seqEpoch_at a1 rfl ?_;refine o_ <| Qq a1 rfl ?_ (NK _) (by show ((arrOf st).map (·.2)).size<=_;omega);rw[hf];simp only[bne_self_eq_false,NM,OM];exact z_ (h _ c (λb o n1 n2 z=>(u2.2 b n2).trans ((u1.2 b n1).trans z)) (hc.trans (by rw[hout])))
def Fs{a kS:Addr}{vs ks:List Value}{xs:List (Int×Int)}{e e1:Nat}{P:PySem.Fin->Shared->Prop}(hl:xs.length=vs.length)(h64:vs.length<64)(T:TupsAt s.heap ks xs)(nd:xs.Nodup)(hk:s.heap.get? kS=some (seqObj "list" (List.toArray ks) e))(ha:s.heap.get? a=some (seqObj "list" #[] e1))(hne:kS≠a)
 (h:∀(p:Array Nat) h' c,p.toList.Perm (List.range vs.length)->UpTo (ltP xs) p vs.length->(∀b o,b≠kS->b≠a->s.heap.get? b=some o->h'.get? b=some o)->h'.get? a=some (seqObj "list" (p.toList.map λi=>vs.getD i Value.none).toArray c)->P (.done (.ret .none)) { s with heap:=h' }):
 wpAny (model prog w) A (ksk_end a false vs.toArray e1 (.ref kS) ks.toArray) P E s:=by
 have hkl:ks.length=vs.length:=by rw[T.len,hl]
 unfold ksk_end;try dsimp only
 refine Dh hkl h64 T nd λp st' p1 p2 out hf=>?_;exact A5 hk ha hne out hf (by rw[p_,p1.length_eq,w_];exact h64) (by omega) λh' c k z=>h p h' c p1 p2 k z
def A1{a:Addr}{f:Value}{vs:List Value}{n:Nat}{xs:List (Int×Int)}{P:PySem.Fin->Shared->Prop}(ho:s.heap.get? a=some (seqObj "list" vs.toArray n))(h64:vs.length<64)(hx:xs.length=vs.length)(nd:xs.Nodup)
 (hc:∀(i:Nat) (v:Value) (x:Int×Int) (h':Heap) (tk:Nat),vs[i]?=some v->xs[i]?=some x->(∀b o,b≠a->s.heap.get? b=some o->h'.get? b=some o)->wpAny (model prog w) A (call f [v]) (λk s2=>∃h2 tk2,s2={ s with heap:=h2,toks:=tk2 }/\(∀b o,h'.get? b=some o->h2.get? b=some o)/\TupAt h2 k x) (λ_ _=>False) { s with heap:=h',toks:=tk })
 (h:∀(p:Array Nat) h' c tk,p.toList.Perm (List.range vs.length)->UpTo (ltP xs) p vs.length->(∀b o,b≠a->s.heap.get? b=some o->h'.get? b=some o)->h'.get? a=some (seqObj "list" (p.toList.map λi=>vs.getD i Value.none).toArray c)->P (.done (.ret .none)) { s with heap:=h',toks:=tk }):
 wpAny (model prog w) A (ksk_tree a f false) P E s:=by
 have lt:=y_ ho;have u1:=OI s.heap a (Obj.mapSeq λ_=>(#[]:Array Value));obtain⟨e1,a1⟩:∃e1,(s.heap.update a (Obj.mapSeq λ_=>(#[]:Array Value))).get? a=some (seqObj "list" #[] e1):=⟨_,get?_update_seq ho λ_=>#[]⟩;have big:sizeLine=16777216:=rfl;unfold ksk_tree;refine o_ <| listItems_at ho rfl ?_;refine o_ <| Qq ho rfl ?_ (by rw[A_];omega) (NK _);refine o_ <| seqEpoch_at a1 rfl ?_;refine o_ <| wpAny_newTuple ?_ (by show vs.length<=_;omega);refine o_ <| wpAny_newList ?_ (NK _);refine Og ?_;obtain⟨h3,e3⟩:∃h3,h3=((s.heap.update a (Obj.mapSeq λ_=>(#[]:Array Value))).push (seqObj "tuple" vs.toArray 0)).push (seqObj "list" #[] 0):=⟨_,rfl⟩;obtain⟨kS,ek⟩:∃kS,kS=((s.heap.update a (Obj.mapSeq λ_=>(#[]:Array Value))).push (seqObj "tuple" vs.toArray 0)).objs.size:=⟨_,rfl⟩;have hk0:h3.get? kS=some (seqObj "list" #[] 0):=by rw[e3,ek];exact Em _ rfl
 have ha0:h3.get? a=some (seqObj "list" #[] e1):=by rw[e3];exact r_ _ (r_ _ a1)
 have hlt:a<kS:=by rw[ek,size_push',PQ];exact Nat.lt_succ_of_lt lt
 have k0:∀b o,b≠a->s.heap.get? b=some o->b≠kS/\h3.get? b=some o:=λb o n z=>⟨λy=>by
  have:=y_ z
  rw[y,ek,size_push',PQ] at this;exact N6 _ (Nat.lt_of_succ_lt this),by rw[e3];exact r_ _ (r_ _ ((u1.2 b n).trans z))⟩
 show wpAny (model prog w) A (ksk_rest a f false vs.toArray e1 (.ref ((s.heap.update a (Obj.mapSeq λ_=>(#[]:Array Value))).push (seqObj "tuple" vs.toArray 0)).objs.size)) P E { s with heap:=((s.heap.update a (Obj.mapSeq λ_=>(#[]:Array Value))).push (seqObj "tuple" vs.toArray 0)).push (seqObj "list" #[] 0) };rw[<- e3,<- ek];clear e3 ek;unfold ksk_rest;refine o_ <| wpAny_rule ?_;rw[List.forIn_toArray];refine o_ <| ksk_fold (λi s'=>∃h' tk ks e,s'={ s with heap:=h',toks:=tk }/\(∀b o,b≠kS->h3.get? b=some o->h'.get? b=some o)/\h'.get? kS=some (seqObj "list" (List.toArray ks) e)/\TupsAt h' ks (xs.take i)/\i<=vs.length) vs 0 _ ⟨h3,s.toks,[],0,rfl,λb o _ z=>z,hk0,by rw[Ql];trivial,NK _⟩ (λj v s' hv I=>?_) λs' I=>?_
 .rw[Ph] at I ⊢;obtain⟨h',tk,ks,e,rfl,k,hk,T,hi⟩:=I;have hj:j<vs.length:=(D_.mp hv).1;have ex:xs[j]?=some (xs[j]'(by omega)):=v_ (by omega);have tl:=T.len;rw[NI] at tl;refine o_ <| Pn <| NG (hc j v _ h' tk hv ex λb o n z=>k b o (k0 b o n z).1 (k0 b o n z).2) (λkv s2 hq=>?_) λ_ _ z=>z.elim;obtain⟨h2,tk2,rfl,k2,tp⟩:=hq;have hk2:=k2 kS _ hk;have u2:=OI h2 kS (Obj.mapSeq (·.push kv));obtain⟨c2,hc2⟩:∃c2,(h2.update kS (Obj.mapSeq (·.push kv))).get? kS=some (seqObj "list" (List.toArray (ks++[kv])) c2):=⟨_,by rw[<- List.push_toArray];exact get?_update_seq hk2 (·.push kv)⟩;try dsimp only
  refine o_ <| Qq hk2 rfl ?_ (by rw[A_];omega) (by rw[Array.size_push,A_];omega);refine z_ ⟨rfl,_,tk2,ks++[kv],c2,rfl,λb o n z=>(u2.2 b n).trans (k2 b o (k b o n z)),hc2,?_,by omega⟩;have kp:∀v x,TupAt h2 v x->TupAt (h2.update kS (Obj.mapSeq (·.push kv))) v x:=λv x t=>t.keep (b:=kS) ⟨_,hk2,rfl⟩ λc o n z=>(u2.2 c n).trans z;rw[List.take_succ,ex];exact TupsAt.snoc (kp _ _ tp) ((T.imp λv x t=>t.mono k2).imp kp)
 .rw[Ph] at I;obtain⟨h',tk,ks,e,rfl,k,hk,T,hi⟩:=I;rw[N8 (by omega)] at T;try dsimp only
  refine o_ <| listItems_at hk rfl ?_;exact Fs hx h64 T nd hk (k a _ (L_ hlt) ha0) (OD hlt) λp h2 c p1 p2 k2 z=>h p h2 c tk p1 p2 (λb o n y=>k2 b o (k0 b o n y).1 n (k b o (k0 b o n y).1 (k0 b o n y).2)) z
def Gj{S r:Addr}{j:Int}{t u v:Tok}{n:Nat}{R:Result->Shared->Prop}(hh:A.handled=none)(hr:IsRange s.heap r 0 j 1 t u v)(g_:Builtin.Range.small 0 j 1=true)(hn:Builtin.Range.rangeSize 0 j 1=n)(a_:n<=2^24)(hS:s.heap.get? S=some (seqObj "list" #[] 0))
 (h:∀h' tk acc c,(∀b o,b≠S->s.heap.get? b=some o->h'.get? b=some o)->h'.get? S=some (seqObj "list" acc c)->ItemsOf (λi v=>∃t,v=.int (0+i*1) t) acc n->R (.ok (.ret (.ref S))) { s with heap:=h',toks:=tk }):codeAny (model prog w) A (.builtin "list.__iadd__" ⟨[.ref S,.ref r],[]⟩) R s:=by
 refine O_ entry_list_iadd' ?_;show wpAny (model prog w) A.in1 (Builtin.List.listExtendWith (.ref S) (.ref r) (.ref S)) _ _ s;exact wpAny_extend_range hh hr g_ hn a_ S _ 0 hS h
def nh{r:Addr}{j:Int}{t u v:Tok}{n:Nat}{Q:List Value->Shared->Prop}(hh:A.handled=none)(hr:IsRange s.heap r 0 j 1 t u v)(g_:Builtin.Range.small 0 j 1=true)(hn:Builtin.Range.rangeSize 0 j 1=n)(a_:n<=2^24)
 (h:∀h' tk (vs:List Value),s.heap.objs.size<=h'.objs.size->(∀b o,s.heap.get? b=some o->h'.get? b=some o)->vs.length=n->(∀(i:Nat) x,vs[i]?=some x->∃t,x=.int (i:Nat) t)->Q vs { s with heap:=h',toks:=tk }):wpAny (model prog w) A (collect (.ref r)) Q E s:=by
 unfold collect;refine o_ <| wpAny_runValue <| O_ entry_proto_collect' ?_;show wpAny _ _ (do again (.builtin "list.__iadd__" ⟨[<- newList [],.ref r],[]⟩)) _ _ s;have hS:(s.heap.push (seqObj "list" #[] 0)).get? s.heap.objs.size=some (seqObj "list" #[] 0):=Em _ rfl;refine o_ <| wpAny_newList <| z_ ⟨Code.quiet_builtin _ (by decide),Gj (s:={ s with heap:=s.heap.push (seqObj "list" #[] 0) }) hh (r_ _ hr) g_ hn a_ hS λh' tk acc c k z it=>?_⟩;show wpAny (model prog w) A (do
  let o <- load s.heap.objs.size
  match o.data with
  |.seq xs _=>pure xs.toList
  |_=>unsupported "internal:collect") Q E { s with heap:=h',toks:=tk }
 refine o_ <| wpAny_load z ?_;refine z_ (h h' tk acc.toList (O4 (y_ z)) (λb o y=>k b o (L_ (y_ y)) (r_ _ y)) (by rw[NR];exact it.1) λi x y=>?_);obtain⟨t,e⟩:=it.2 i x (by simpa using y);exact⟨t,by rw[e];congr 1;omega⟩
end
abbrev fF(p:Pos):Arguments:=⟨[],[⟨"number",none,p⟩],none,[],[],none,[]⟩
abbrev bg:Scope:={ kind:=.function,names:=[("number",.local),("weights",.free)],isGenerator:=false,isCoroutine:=false,more:=[] }
abbrev d8(p1 p2 p3 p4 p5 p6:Pos):Expr:=.Tuple [.UnaryOp .USub (.Subscript (.Name "weights" p1) (.Name "number" p2) p3) p4,.Name "number" p5] 0 p6
section
variable{prog:Program}{w:World}{A:Around}{s:Shared}
def EK{f c' cell a:Addr}{q:Str}{pm ctv:Value}{its:Array Value}{ws:List Int}{p0 p1 p2 p3 p4 p5 p6:Pos}{i:Nat}{t:Tok}
 (hroom:A.depth<recursionLimit) (ho:s.heap.get? f=some (kla_obj "<lambda>" q (fF p0) (d8 p1 p2 p3 p4 p5 p6) bg [("weights",cell)] pm c' ctv)) (n_:s.heap.CodeRec (.ref c') q) (hlim:s.heap.NoLimit) (l_:s.heap.IsCell cell (some (.ref a))) (hl:s.heap.IsList a its) (hw:Vals (ws.map V.int) its.toList) (hi:i<ws.length) (hz:ws.length<64):
 wpAny (model prog w) A (call (.ref f) [.int (i:Nat) t]) (λk s2=>∃h2 tk2,s2={ s with heap:=h2,toks:=tk2 }/\(∀b o,s.heap.get? b=some o->h2.get? b=some o)/\TupAt h2 k (-(ws.getD i 0),(i:Nat))) (λ_ _=>False) s:=by
 refine wpAny_call ?_;refine kla_callFunE hroom ho rfl rfl rfl rfl n_ ?_;rw[show bindArgs (kla_fn "<lambda>" q (fF p0) (d8 p1 p2 p3 p4 p5 p6) bg [("weights",cell)] pm (.ref c') ctv) ⟨[Value.int (i:Nat) t],[]⟩=(pure [(("number" : Str),Value.int (i:Nat) t)]:Sem (List (Str×Value))) from by with_unfolding_all rfl];refine z_ (wpAny_newFunctionEnv (show ∀x∈bg.names,x.2 ≠ .cell by decide) (by intro y hy;rw[NU] at hy;subst hy;rfl) (λh1 hns hsb=>⟨hlim.fresh _ hsb,?_⟩) rfl);show codeAny _ _ (.expr (d8 p1 p2 p3 p4 p5 p6) (envX q bg s.heap.objs.size f (.ref c') [("weights",cell)])) _ _;have k1:∀b o,s.heap.get? b=some o->h1.get? b=some o:=λb o e=>hsb.extBut b o (L_ (y_ e)) (r_ _ e);have hc1:h1.IsCell cell (some (.ref a)):=by obtain⟨o,e,d⟩:=l_;exact⟨o,k1 _ _ e,d⟩
 have hl1:h1.IsList a its:=by obtain⟨o,e,d⟩:=hl;exact⟨o,k1 _ _ e,d⟩
 refine kla_codeExpr ?_;refine wpAny_Tuple_spliced ?_;obtain⟨u,eu,ru⟩:=hw.get (i:=i) (x:=V.int (ws.getD i 0)) (by rw[Nm,v_ hi,K_,v_ hi];rfl);obtain⟨tx,rfl⟩:=ru;have ei:its[((i:Nat):Int).toNat]?=some (.int (ws.getD i 0) tx):=by rw[NJ,<- Array.getElem?_toList];exact eu
 have nm:∀(pp:Pos) (s':Shared) (Q:Qv) (E':Qv),s'.heap=h1->Q (.int (i:Nat) t) s'->wpAny (model prog w) (A.deeper (envX q bg s.heap.objs.size f (.ref c') [("weights",cell)])) (eval (.Name "number" pp) (envX q bg s.heap.objs.size f (.ref c') [("weights",cell)])) Q E' s':=λpp s' Q E' e hq=>
  wpAny_Name (Qi rfl rfl (by rw[e];exact hns) rfl hq) (by decide)
 show wpAny _ _ (spliced ((false,eval (.UnaryOp .USub (.Subscript (.Name "weights" p1) (.Name "number" p2) p3) p4) (envX q bg s.heap.objs.size f (.ref c') [("weights",cell)]))::backTo p6 (starEach [.Name "number" p5] (envX q bg s.heap.objs.size f (.ref c') [("weights",cell)])))) _ _ _;refine OO ?_;refine UnaryOp_ ?_;refine Subscript_ ?_;refine wpAny_Name (wpAny_loadName_free rfl rfl rfl hc1 ?_) (by decide);refine nm p2 _ _ _ rfl ?_;refine item_listR hl1 (by omega) (by omega) ei ?_;refine neg_int ?_;show wpAny _ _ (spliced ((false,eval (.Name "number" p5) (envX q bg s.heap.objs.size f (.ref c') [("weights",cell)]))::[])) _ _ _;refine OO ?_;refine nm p5 _ _ _ rfl ?_;refine Pe ?_;refine⟨show 2<=sizeLine by decide,_,_,rfl,λb o e=>r_ _ (k1 b o e),h1.objs.size,0,none,#[],_,t,rfl,Em _ rfl⟩
end
section
variable{prog:Program}{w:World}{A:Around}{E:Qv}{s:Shared}
def wQ{r f:Addr}{j:Int}{t u v:Tok}{n:Nat}{xs:List (Int×Int)}{Q:Qv}(hh:A.handled=none)(hr:IsRange s.heap r 0 j 1 t u v)(g_:Builtin.Range.small 0 j 1=true)(hn:Builtin.Range.rangeSize 0 j 1=n)(h64:n<64)(hx:xs.length=n)(nd:xs.Nodup)
 (hc:∀(i:Nat) (x:Int×Int) (tt:Tok) (h':Heap) (tk:Nat),xs[i]?=some x->(∀b o,s.heap.get? b=some o->h'.get? b=some o)->wpAny (model prog w) A.in1.in1 (call (.ref f) [.int (i:Nat) tt]) (λk s2=>∃h2 tk2,s2={ s with heap:=h2,toks:=tk2 }/\(∀b o,h'.get? b=some o->h2.get? b=some o)/\TupAt h2 k x) (λ_ _=>False) { s with heap:=h',toks:=tk })
 (h:∀(p:Array Nat) (h':Heap) (D:Addr) (c tk:Nat) (out:List Value),p.toList.Perm (List.range n)->UpTo (ltP xs) p n->s.heap.objs.size<=D->(∀b o,s.heap.get? b=some o->h'.get? b=some o)->h'.get? D=some (seqObj "list" out.toArray c)->Vals (p.toList.map λi:Nat=>V.int (i:Nat)) out->Q (.ref D) { s with heap:=h',toks:=tk }):
 wpAny (model prog w) A (call (.builtin "sorted") [.ref r] [(Str.ofString "key",.ref f)]) Q E s:=by
 refine call_function_entry_kw kind_sorted plain_sorted entry_sorted (ksk_s1 _ _) ?_;unfold Builtin.«sorted»;refine o_ (m:=checkCount "sorted" 1 1 _) <| z_ ?_;refine o_ <| nh (A:=A.in1) hh hr g_ hn (by omega) λh1 tk1 vs sz k1 lv iv=>?_;have big:sizeLine=16777216:=rfl;refine o_ <| wpAny_newList ?_ (by omega);have hoL:(h1.push (seqObj "list" vs.toArray 0)).get? h1.objs.size=some (seqObj "list" vs.toArray 0):=Em _ rfl;have kL:∀b o,s.heap.get? b=some o->b≠h1.objs.size/\(h1.push (seqObj "list" vs.toArray 0)).get? b=some o:=λb o e=>⟨L_ (y_ (k1 b o e)),r_ _ (k1 b o e)⟩;refine o_ <| Og <| wpAny_call_entry_kw slot_list_sort ⟨_,hoL,rfl⟩ entry_list_sort ?body (ksk_l1 _ _)
 case body=>
  show wpAny (model prog w) A.in1.in1 (Builtin.«list.sort» ⟨[.ref h1.objs.size],[(Str.ofString "key",.ref f)]⟩) _ _ { s with heap:=h1.push (seqObj "list" vs.toArray 0),toks:=tk1 };rw[ksk_t1];refine A1 (s:={ s with heap:=h1.push (seqObj "list" vs.toArray 0),toks:=tk1 }) (xs:=xs) hoL (by omega) (by omega) nd (λi v x h' tk e1 e2 k=>?_) λp h' c tk p1 p2 k z=>?_
  .obtain⟨tt,rfl⟩:=iv i v e1;exact hc i x tt h' tk e2 λb o e=>k b o (kL b o e).1 (kL b o e).2
  .rw[lv] at p1 p2;refine⟨_,rfl,z_ ⟨_,rfl,h p h' h1.objs.size c tk _ p1 p2 sz (λb o e=>k b o (kL b o e).1 (kL b o e).2) z ?_⟩⟩;have all:∀i∈p.toList,i<n:=λi hi=>M_.mp (p1.mem_iff.mp hi);clear z p1 p2;generalize p.toList=l at all;induction l with
   |nil=>exact .nil
   |cons i l ih=>refine .cons ?_ (ih λk hk=>all k (q_ _ hk));have hi:=all i (s_ ..);obtain⟨tt,e⟩:=iv i (vs.getD i Value.none) (by rw[K_,v_ (by omega)];rfl);exact⟨tt,e⟩
end
section
variable{X:Cx}{pins:Qu}{σ:St}{H:Hp}{s:Shared}{h':Heap}
def Inv.tabled{P c':Addr}{q:Str}{ps more:Array Value}{t':Nat}(I:Inv X pins σ H s)(hP:H P=some (.tbl ps))(hx:Heap.ExtBut P s.heap h')(hc:s.heap.objs.size<=c')(hrec:h'.CodeRec (.ref c') q)(htab:h'.get? P=some (tabObj (ps++more))):
 Inv X pins σ (upd (upd H P (.tbl (ps++more))) c' (.ext (gd c' q))) { s with heap:=h',toks:=t' }:=by
 have hcn:H c'=none:=I.hok.fresh hc;have nPc:P≠c':=bM hP hcn;have at_:∀b,b≠P->b≠c'->upd (upd H P (.tbl (ps++more))) c' (.ext (gd c' q)) b=H b:=λb n1 n2=>by rw[aC n2,aC n1]
 have atP:upd (upd H P (.tbl (ps++more))) c' (.ext (gd c' q)) P=some (.tbl (ps++more)):=by rw[aC nPc,aY]
 have nP:∀b,H b=none->b≠P:=λb n z=>by rw[z,hP] at n;cases n
 have ol:∀b o,s.heap.get? b=some o->b≠c':=λb o e=>L_ (Nn (y_ e) hc);have tr:∀b u,H b=some u->b≠c':=λb u e=>bM e hcn;refine I.un ⟨λb o e n _ _=>hx b o (nP b n) e,λb o e n _ _=>⟨o.slots,hx b o (nP b n) e⟩,λb o e n _=>by rw[at_ b (nP b n) (ol b o e)];exact n,λb o e _=>?_,λb ys e=>?_,λb o u e=>?_,λb qs e=>?_⟩ λb u e=>?_
 .by_cases z:b=P
  .exact⟨_,by rw[z];exact htab⟩
  .exact⟨o,hx b o z e⟩
 .rw[at_ b (λz=>by rw[z,hP] at e;cases e) (tr b _ e)];exact e
 .rw[at_ b (λz=>by rw[z,hP] at e;cases e) (tr b _ e)];exact e
 .by_cases z:b=P
  .subst z;rw[hP] at e;cases e;exact⟨more,atP⟩
  .exact⟨#[],by rw[at_ b z (tr b _ e),e];simp⟩
 .by_cases z:b=c'
  .subst z;rw[aY] at e;cases e;obtain⟨c,o,vs,t,e1,e2,e3⟩:=hrec;cases e1;refine⟨⟨_,o,vs,t,rfl,e2,e3⟩,⟨o,e2⟩,λh1 h2 q1 k=>?_⟩;obtain⟨c,o,vs,t,e1,e2,e3⟩:=q1;cases e1;exact⟨_,o,vs,t,rfl,k o e2,e3⟩
  .by_cases y:b=P
   .subst y;rw[atP] at e;cases e;exact htab
   .rw[at_ b y z] at e;refine (I.hok b u e).stay (λc v hc' r=>hx c v ?_ r) (λc r=>?_) λc ys r=>?_
    .rcases hc' with rfl |r
     .exact y
     .intro z';rw[z',hP] at r;cases r
    .rw[at_ c (λz'=>by rw[z',hP] at r;cases r) (tr c _ r)];exact r
    .rw[at_ c (λz'=>by rw[z',hP] at r;cases r) (tr c _ r)];exact r
end
noncomputable def kyF (ws:List Int) (i:Nat):Int×Int:=(-(ws.getD i 0),(i:Int))
noncomputable def jq (ws:List Int):List (Int×Int):=(List.range ws.length).map (kyF ws)
noncomputable def aN (ws:List Int):List Nat:=(List.range ws.length).mergeSort λi j=>!bA (kyF ws j) (kyF ws i)
structure FallO(ws:List Int)(l:List Nat):Prop where
 perm:l.Perm (List.range ws.length)
 up:l.Pairwise λi j=>bA (kyF ws i) (kyF ws j)=true
def uX{ws:List Int}{i j:Nat}(h:kyF ws i=kyF ws j):i=j:=by
 have:=NC Prod.snd h
 have:((i:Nat):Int)=(j:Nat):=this;omega
def FV(ws:List Int):(jq ws).Nodup:=by unfold jq;refine List.pairwise_map.mpr (List.Pairwise.imp (λ{a b} h z=>h (uX z)) PR)
def cN(ws:List Int):FallO ws (aN ws):=⟨List.mergeSort_perm ..,KW (kyF ws) uX PR⟩
def FallO.eq{ws:List Int}{l:List Nat}(h:FallO ws l):l=aN ws:=FH h.up (cN ws).up (h.perm.trans (cN ws).perm.symm)
def FN{ws:List Int}{p:Array Nat}(h1:p.toList.Perm (List.range ws.length))(h2:UpTo (ltP (jq ws)) p ws.length):p.toList=aN ws:=by
 refine FallO.eq ⟨h1,List.Pairwise.imp_of_mem (λ{i j} hi hj h=>?_) (Gk h1 h2)⟩;have g:∀k∈p.toList,(jq ws).getD k (0,0)=kyF ws k:=λk hk=>by unfold jq;rw[K_,Nm,OK (M_.mp (h1.mem_iff.mp hk))];rfl
 rw[g i hi,g j hj] at h;exact h
section
variable{X:Cx}{iW:Nat}{ta:TA}{c P:Addr}{a:Expr}{q1 q2 q6 q7 q8 q9 p0 p1 p2 p3 p4 p5 p6:Pos}
def wN(H H2:Hp)(P:Addr)(q:Str)(ps:Array Value)(pos:Pos):Prop:=H2=H\/∃c',H c'=none/\codeAmong pos ps.toList=none/\H2=upd (upd H P (.tbl (ps++#[rawInt pos.line,rawInt pos.col,.ref c']))) c' (.ext (gd c' q))
def xR(K:W.Frag)(mg:Qt)(P:Addr)(q:Str)(pos:Pos)(vW:Option (Option V)):List V->Hp->VK->Prop:=λvs H Q=>∃(b:Addr) (ws:List Int) (ps:Array Value),vs=[.int (ws.length:Nat)]/\vW=some (some (.ref b))/\SqL K H b (ws.map V.int)/\ws.length<64/\H P=some (.tbl ps)/\TriplesOk ps.toList/\(∀ps' cv,codeAmong ps' ps.toList=some cv->∃c,cv=.ref c/\H c=some (.ext (gd c q)))/\sI K mg H/\
 ∀H2 l,wN H H2 P q ps pos->H2 l=none->Q (.ref l) (upd H2 l (.lst ((aN ws).map λi:Nat=>V.int (i:Nat))))
def LA(K:W.Frag)(mg:Qt)(iW:Nat)(P:Addr)(q:Str)(pos:Pos)(ta:TA):TE:=λσ H Q=>ta σ H λvs H1=>xR K mg P q pos σ[iW]? vs H1 Q
def ET(hc:X.calm=true)(hdp:X.A.depth<recursionLimit)(hl:Gl X "sorted")(hml:X.mg "sorted"=none)(hg:Gl X "range")(hm:X.mg "range"=none)(ha:PA X [a] ta)(hN:X.N[iW]?=some "weights")(hv:X.env.scope.names.lookup ("weights" : Str)=some .cell)(n_:X.env.code=.ref c)(hh:codeHdIn X.K c P=true)(hs:starEach [a] X.env=[(false,eval a X.env)]:=by rfl):
 PE X (.Call (.Name "sorted" q1) [.Call (.Name "range" q2) [a] [] q6] [⟨some "key",.Lambda (fF p0) (d8 p1 p2 p3 p4 p5 p6) bg q7,q8⟩] q9) (LA X.K X.mg iW P (X.env.qual ++ "<lambda>") q7 ta):=by
 intro pins s σ H Q I h;refine NV (cL I hl hml (show bootBuiltins "sorted"=some (.builtin "sorted") from rfl) ?_ (by decide) (by decide));refine callWith_kw ?_ rfl rfl rfl rfl;show wpAny _ _ (spliced ((false,eval (.Call (.Name "range" q2) [a] [] q6) X.env)::[])) _ _ s;refine OO ?_;refine NV (cL I hg hm (show bootBuiltins "range"=some (.type "range") from rfl) ?_ (by decide) (by decide));refine Nz (thn (ha q6 pins s σ H _ I h) λus s1 zz=>exA zz λvs H1 I1 r1 z1=>?_) hs rfl;obtain⟨b,ws,ps,e,ew,hq,hn,hP,htr,hcs,hB,q⟩:=z1;subst e;cases r1 with
 |
  cons r rr=>
  cases rr;obtain⟨t,rfl⟩:=r;refine call_range_1 (Pe ?_);have I2:Inv X pins σ H1 { s1 with heap:=s1.heap.push { cls:=.type "range",data:=.fields #[.int 0 s1.toks,.int (ws.length:Nat) t,.int 1 (s1.toks+1)] },toks:=s1.toks+1+1 }:=I1.kept λb o e=>r_ _ e;have hr2:IsRange (s1.heap.push { cls:=.type "range",data:=.fields #[.int 0 s1.toks,.int (ws.length:Nat) t,.int 1 (s1.toks+1)] }) s1.heap.objs.size 0 (ws.length:Nat) 1 s1.toks t (s1.toks+1):=IsRange.new ..;generalize s1.heap.push { cls:=.type "range",data:=.fields #[.int 0 s1.toks,.int (ws.length:Nat) t,.int 1 (s1.toks+1)] }=h2 at I2 hr2 ⊢;generalize s1.heap.objs.size=r at hr2 ⊢;have hk:X.env.kindOf "weights"=some .cell:=hv;obtain⟨m,hns,hloc⟩:=I2.loc;obtain⟨u,ru,lk⟩:=hloc iW "weights" (.ref b) hN ew (.inr (.inl hv));obtain rfl:u=.ref b:=ru;obtain⟨cell,ec,l_⟩:∃cell,X.env.cells.lookup ("weights" : Str)=some cell/\h2.IsCell cell (some (.ref b)):=by
   rcases lk with ⟨z,_⟩ |⟨_,cl,z1,z2⟩
   .rw[hk] at z;cases z
   .exact⟨cl,z1,z2⟩
  have clo:closureFor bg X.env=(pure [(("weights" : Str),cell)]:Sem (List (Str×Addr))):=by simp [closureFor,cellOf,ec]
  obtain⟨its,rv,pl,hz⟩:=I2.list hq;have d_:∀(H2:Hp) (s3:Shared) (f c':Addr) (pm ctv:Value),wN H1 H2 P (X.env.qual ++ "<lambda>") ps q7->Inv X pins σ H2 s3->(∀b o,b≠P->h2.get? b=some o->s3.heap.get? b=some o)->s3.heap.get? f=some (kla_obj "<lambda>" (X.env.qual ++ "<lambda>") (fF p0) (d8 p1 p2 p3 p4 p5 p6) bg [("weights",cell)] pm c' ctv)->s3.heap.CodeRec (.ref c') (X.env.qual ++ "<lambda>")->
   wpAny (model X.prog X.w) X.A (call (.builtin "sorted") [.ref r] [(Str.ofString "key",.ref f)]) (EP X pins σ Q) X.xe s3:=by
   intro H2 s3 f c' pm ctv G3 I3 k3 hf hrec;have nP:∀{b:Addr}{o:Obj},h2.get? b=some o->o.cls ≠ .none->b≠P:=λ{b o} e n z=>by have:h2.get? P=some { cls:=.none,data:=.fields ps }:=I2.hok P _ hP;rw[z,this] at e;cases e;exact n rfl
   have hr3:IsRange s3.heap r 0 (ws.length:Nat) 1 s1.toks t (s1.toks+1):=k3 _ _ (nP hr2 (λz=>nomatch z)) hr2;refine wQ (n:=ws.length) (xs:=jq ws) (I.ok.hd hc) hr3 (small_one (by omega) (by omega) (by omega) (by omega)) (by rw[Qr];split <;> omega) hn (by unfold jq;rw[p_,w_]) (FV ws) (λi x tt h' tk ex k=>?_) λp h' D c tk out pp up sz k z vz=>?_
   .have hi:i<ws.length:=by
     have:=(D_.mp ex).1
     unfold jq at this;rw[p_,w_] at this;exact this
    obtain rfl:x=(-(ws.getD i 0),((i:Nat):Int)):=by unfold jq at ex;rw[Nm,OK hi] at ex;cases ex;rfl
    have hcell':h'.IsCell cell (some (.ref b)):=by obtain⟨o,e1,e2⟩:=l_;refine⟨o,k _ _ (k3 _ _ (λz=>?_) e1),e2⟩;have:h2.get? P=some { cls:=.none,data:=.fields ps }:=I2.hok P _ hP;rw[z,this] at e1;cases e1;cases e2
    have hl':h'.IsList b its.toArray:=by obtain⟨o,e1,e2⟩:=pl.isList;exact⟨o,k _ _ (k3 _ _ (nP e1 (by rw[e2.1];intro z;cases z)) e1),e2⟩
    exact EK (s:={ s3 with heap:=h',toks:=tk }) hdp (k _ _ hf) (by obtain⟨c2,o,vs,tq,e1,e2,e3⟩:=hrec;exact⟨c2,o,vs,tq,e1,k _ _ e2,e3⟩) (I3.nolimit.keeps k) hcell' hl' (by simpa using rv) hi hn
   .rw[FN pp up] at vz;have big:sizeLine=16777216:=rfl;have ln:((aN ws).map λi:Nat=>V.int (i:Nat)).length<=sizeLine:=by rw[p_,(cN ws).perm.length_eq,w_];omega
    exact⟨.ref D,_,I3.laid (t':=tk) k sz (show ObjOk X.prog X.w _ h' _ (.lst _) from ⟨ln,out,c,vz,z⟩),rfl,q H2 D G3 (I3.hok.fresh sz)⟩
  have tabP:h2.get? P=some { cls:=.none,data:=.fields ps }:=I2.hok P _ hP;have glb:h2.Ns mainGlobals X.mg:=I2.mod.glob.keeps I2.bk;have gP:mainGlobals≠P:=λz=>by obtain⟨o,es,ep,e,d,_⟩:=glb;rw[z,tabP] at e;cases e;cases d
  have bAt:h2.BuiltinsAt X.mg P:=by
   obtain⟨bm,o,y1,y2,y3,⟨y4,y5,y6⟩,y7⟩:=hB;have y8:h2.get? bm=some o:=by
    rcases y7 with z |⟨u,z⟩
    .exact I2.kIn bm o z
    .exact (I2.hok bm _ z).1
   exact⟨bm,o,y1,y2,y3,(λz=>by rw[z,tabP] at y8;cases y8;cases y6),y8,y4,y5,y6⟩
  have CH:=codeHd_of_K I2.kIn hh;have lam:wpAny (model X.prog X.w) X.A (eval (.Lambda (fF p0) (d8 p1 p2 p3 p4 p5 p6) bg q7) X.env) (λv s3=>∃f,v=.ref f/\wpAny (model X.prog X.w) X.A (call (.builtin "sorted") [.ref r] [(Str.ofString "key",.ref f)]) (EP X pins σ Q) X.xe s3) X.xe { s1 with heap:=h2,toks:=s1.toks+1+1 }:=by
   refine kla_eval rfl ?_;cases am:codeAmong q7 ps.toList with
   |
    none=>
    refine kla_makeFunction (mg:=X.mg) clo I.ok.glob glb n_ CH tabP htr am gP bAt λc' ctv h' tk hx hge hlt hrec htb=>?_;have hrec':(h'.push (kla_obj "<lambda>" (X.env.qual ++ "<lambda>") (fF p0) (d8 p1 p2 p3 p4 p5 p6) bg [("weights",cell)] ((X.mg "__name__").getD .none) c' ctv)).CodeRec (.ref c') (X.env.qual ++ "<lambda>"):=by obtain⟨c2,o,vs,tq,e1,e2,e3⟩:=hrec;exact⟨c2,o,vs,tq,e1,r_ _ e2,e3⟩
    exact⟨_,rfl,d_ _ _ _ c' _ ctv (.inr ⟨c',I2.hok.fresh hge,am,rfl⟩) (I2.tabled (t':=tk) hP (λb o n e=>r_ _ (hx b o n e)) hge hrec' (r_ _ htb)) (λb o n e=>r_ _ (hx b o n e)) (Em _ rfl) hrec'⟩
   |some cv=>obtain⟨c',rfl,hc'⟩:=hcs q7 cv am;refine kla_makeFunctionHit (mg:=X.mg) clo I.ok.glob glb n_ CH tabP htr am bAt λctv h' tk k hsz=>?_;obtain⟨c2,o,vs,tq,e1,e2,e3⟩:h2.CodeRec (.ref c') (X.env.qual ++ "<lambda>"):=(I2.hok c' _ hc').1;exact⟨_,rfl,d_ _ _ _ c' _ ctv (.inl rfl) (I2.kept (t':=tk) λb o e=>r_ _ (k b o e)) (λb o n e=>r_ _ (k b o e)) (Em _ rfl) ⟨c2,o,vs,tq,e1,r_ _ (k _ _ e2),e3⟩⟩
  show wpAny _ _ (do
   let v <- (do let v <- eval (.Lambda (fF p0) (d8 p1 p2 p3 p4 p5 p6) bg q7) X.env;standAt q9;pure v)
   return v::(<- holding [v] (evalAll []))) _ _ _
  refine o_ <| o_ <| NG lam (λv s3 hv3=>?_) λ_ _ z=>z;obtain⟨f,rfl,hv3⟩:=hv3;exact o_ (Po (z_ (o_ (Og (z_ (z_ hv3))))))
end
section
variable{K:W.Frag}{mg:Qt}{h:AH}
def LamT.one{P P':Addr}{q q':Str}(a:LamT K mg P q)(b:LamT K mg P' q'):q=q':=by
 obtain⟨x,f,oc,od,fd,sl,c,a1,a2,a3,a4,a5,a6,rfl⟩:=a;obtain⟨y,f',oc',od',fd',sl',c',b1,b2,b3,b4,b5,b6,rfl⟩:=b;have e:x=y:=by
  by_cases z:x=y
  .exact z
  .have:=a2 y b1 λw=>z w.symm
   rw[b3] at this;cases this
 subst e;rw[a3] at b3;cases b3;rw[a4] at b4;cases b4;rfl
def xQ{pos:Pos}{a b:Int}{c cv:Value}(l:List Value)(h:TriplesOk l)(e:codeAmong pos (l++[rawInt a,rawInt b,c])=some cv):codeAmong pos l=some cv\/cv=c:=by
 fun_induction TriplesOk l with
 |
  case1=>
  simp only[NH,codeAmong,rawInt] at e;split at e
  .cases e;exact .inr rfl
  .cases e
 |
  case2 a' t b' u x cJ ih=>
  simp only[N_,codeAmong] at e ⊢;split at e
  .rename_i z;rw[if_pos z];exact .inl e
  .rename_i z;rw[if_neg z];exact ih h e
 |case3 l h1 h2=>exact h.elim
end
section
variable{prog:Program}{w:World}{A:Around}{E:Qv}{s:Shared}
def CA{r:Addr}{j:Int}{t u v:Tok}{n:Nat}{Q:Qv}(hh:A.handled=none)(hr:IsRange s.heap r 0 j 1 t u v)(g_:Builtin.Range.small 0 j 1=true)(hn:Builtin.Range.rangeSize 0 j 1=n)(a_:n<=2^24)
 (h:∀(h':Heap) (tk:Nat) (vs:List Value),s.heap.objs.size<=h'.objs.size->(∀b o,s.heap.get? b=some o->h'.get? b=some o)->vs.length=n->(∀(i:Nat) x,vs[i]?=some x->∃t,x=.int (i:Nat) t)->Q (.ref h'.objs.size) { s with heap:=h'.push { cls:=.type "tuple",data:=.seq vs.toArray },toks:=tk }):
 codeAny (model prog w) A (.call (.builtin "tuple.__new__") ⟨[.type "tuple",.ref r],[]⟩) (wants Q E) s:=by
 refine codeAny_of_tree ?_;show wpAny _ A.in1 (do checkBuiltinCall "tuple.__new__" ⟨[.type "tuple",.ref r],[]⟩;again (.builtin "tuple.__new__" ⟨[.type "tuple",.ref r],[]⟩)) _ _ s;refine o_ <| wpAny_of_eq (F.newCall_tuple_1 _) <| z_ ⟨plainId_quiet F.plain_tuple_new _,O_ F.entry_tuple_new ?_⟩;rw[P5 F.plain_tuple_new _];have hsub:=sub_tuple_self;have hinit:=init_tuple_lookup;have hmh:=madeHere_tuple;have hTI:s.TypeIs (.ref r) "range":=⟨_,hr,rfl⟩
 wp_walk using wpAny_typeOf hTI,nh (A:=A.in1) hh hr g_ hn a_
 intro h' tk vs sz k lv iv;show wpAny _ _ (Builtin.Tuple.tupleExact vs.toArray >>= λv=>ret v) _ _ _;unfold Builtin.Tuple.tupleExact;have big:sizeLine=16777216:=rfl;refine o_ <| NX ?_ (by show vs.length<=_;omega);exact z_ (h h' tk vs sz k lv iv)
def Cf{r:Addr}{j:Int}{t u v:Tok}{n:Nat}{Q:Qv}(hh:A.handled=none)(hr:IsRange s.heap r 0 j 1 t u v)(g_:Builtin.Range.small 0 j 1=true)(hn:Builtin.Range.rangeSize 0 j 1=n)(a_:n<=2^24)
 (h:∀(h':Heap) (tk:Nat) (vs:List Value),s.heap.objs.size<=h'.objs.size->(∀b o,s.heap.get? b=some o->h'.get? b=some o)->vs.length=n->(∀(i:Nat) x,vs[i]?=some x->∃t,x=.int (i:Nat) t)->Q (.ref h'.objs.size) { s with heap:=h'.push { cls:=.type "tuple",data:=.seq vs.toArray },toks:=tk }):
 wpAny (model prog w) A (call (.type "tuple") [.ref r]) Q E s:=by
 refine callType_codes (Q₁:=λobj s₁=>s₁.TypeIs obj "tuple" /\ Q obj s₁) F.called_tuple (F.typeCall_tuple_1 _) F.entry_object_init (CA hh hr g_ hn a_ λh' tk vs sz k lv iv=>⟨⟨_,Em _ rfl,rfl⟩,h h' tk vs sz k lv iv⟩) λobj s₁ h₁=>?_;exact⟨h₁.1,F.args_object_init_2 obj _,object_init_meets F.called_tuple.init.lookup F.called_tuple.made (by decide) prog w A.in1 _ s₁ ⟨h₁.1,rfl,h₁.2⟩⟩
end
section
variable{X:Cx}{mg:Qt}{a:Expr}{ta:TA}{pos q2 p1 p2:Pos}
def rTrg:List V->Hp->VK->Prop:=λxs H Q=>∃j:Int,xs=[.int j]/\0<=j/\j<=1000000/\∀l,H l=none->Q (.ref l) (upd H l (.tup (iX j)))
theorem sA:∀{vs:List Value} (i0:Nat),(∀(i:Nat) x,vs[i]?=some x->∃t,x=.int ((i0+i:Nat):Int) t)->Vals ((List.range' i0 vs.length).map λi:Nat=>V.int (i:Nat)) vs
 | [],_,_=>.nil
 |
  v::vs,i0,h=>by
  rw[E_,List.range'_succ,x_];refine .cons ?_ (sA (i0+1) λi x e=>?_)
  .obtain⟨t,e⟩:=h 0 v rfl;exact⟨t,by rw[e];rfl⟩
  .obtain⟨t,e'⟩:=h (i+1) x (by simpa using e);exact⟨t,by rw[e'];congr 1;omega⟩
def I0(hc:X.calm=true)(hl:Gl X "tuple")(hml:X.mg "tuple"=none)(hg:Gl X "range")(hm:X.mg "range"=none)(ha:PA X [a] ta)(hs:starEach [a] X.env=[(false,eval a X.env)])
 (hs1:starEach [.Call (.Name "range" p2) [a] [] q2] X.env=[(false,eval (.Call (.Name "range" p2) [a] [] q2) X.env)]):
 PE X (.Call (.Name "tuple" p1) [.Call (.Name "range" p2) [a] [] q2] [] pos) (tCB rTrg ta):=by
 intro pins s σ H Q I h;refine NV (cL I hl hml (show bootBuiltins "tuple"=some (.type "tuple") from rfl) ?_ (by decide) (by decide));refine Nz ?_ hs1 rfl;rw[hs1];show wpAny _ _ (spliced ((false,eval (.Call (.Name "range" p2) [a] [] q2) X.env)::[])) _ _ s;refine OO ?_;refine NV (cL I hg hm (show bootBuiltins "range"=some (.type "range") from rfl) ?_ (by decide) (by decide));refine Nz (thn (ha q2 pins s σ H _ I h) λus s1 zz=>exA zz λvs H1 I1 r1 z1=>?_) hs rfl;obtain⟨j,e,h1,h2,q⟩:=z1;subst e;cases r1 with
 |
  cons r rr=>
  cases rr;obtain⟨t,rfl⟩:=r;refine call_range_1 (Pe ?_);have I2:Inv X pins σ H1 { s1 with heap:=s1.heap.push { cls:=.type "range",data:=.fields #[.int 0 s1.toks,.int j t,.int 1 (s1.toks+1)] },toks:=s1.toks+1+1 }:=I1.kept λb o e=>r_ _ e;refine Cf (I.ok.hd hc) (IsRange.new ..) (small_one (by omega) (by omega) (by omega) (by omega)) (n:=j.toNat) (by rw[Qr];split <;> omega) (by omega) λh' tk vs sz k lv iv=>?_;have rv:Vals (iX j) vs:=by
   have:=sA (vs:=vs) 0 λi x e=>by obtain⟨t,e'⟩:=iv i x e;exact⟨t,by rw[e'];congr 1;omega⟩
   rw[lv,<- List.range_eq_range'] at this;exact this
  have hz:(iX j).length<=sizeLine:=by unfold iX;rw[p_,w_];have:sizeLine=16777216:=rfl;omega
  exact⟨.ref _,_,I2.laid (t':=tk) (a:=h'.objs.size) (λb o e=>r_ _ (k b o e)) sz (show ObjOk X.prog X.w _ _ _ (.tup (iX j)) from ⟨hz,vs,rv,⟨_,Em _ rfl,rfl,_,rfl⟩⟩),rfl,q _ (I2.hok.fresh sz)⟩
end
noncomputable def ltS (x y:Str):Bool:=decide (x.cps.toList<y.cps.toList)
end L2
namespace L3
open PySem PySem.Spec PyProof.Rows L2
set_option genInjectivity true in
inductive Val where
 |non |bl (b:Bool) |int (i:Int) |str (x:Str) |ty (n:String) |glb (x:Str) |exc (x:Str)
 |tup (xs:List Val) |lst (xs:List Val) |kl (xs:List Val) |dct (kvs:List (Key×Val)) |set (xs:List Int)
 deriving Inhabited
abbrev St:=L2.St
structure LeH(H H':Hp):Prop where
 tup:∀b xs,H b=some (.tup xs)->H' b=some (.tup xs)
 frz:∀b o u,H b=some (.frz o u)->H' b=some (.frz o u)
 ext:∀b φ,H b=some (.ext φ)->H' b=some (.ext φ)
def LeH.refl:LeH H H:=⟨λ_ _ e=>e,λ_ _ _ e=>e,λ_ _ e=>e⟩
def LeH.trans(a:LeH H H1)(b:LeH H1 H2):LeH H H2:=⟨λx y e=>b.tup x y (a.tup x y e),λx y z e=>b.frz x y z (a.frz x y z e),λx y e=>b.ext x y (a.ext x y e)⟩
def Gr(H H':Hp):Prop:=∀a o,H a=some o->H' a=some o
def Gr.le(g:Gr H H'):LeH H H':=⟨λ_ _=>g _ _,λ_ _ _=>g _ _,λ_ _=>g _ _⟩
def Gr.refl:Gr H H:=λ_ _ e=>e
def Gr.upd(h:H p=none):Gr H (upd H p u):=λa o e=>by rw[aC (bM e h)];exact e
def Gr.none(g:Gr H H')(h:H' a=none):H a=none:=by
 cases q:H a with
 |none=>rfl
 |some o=>rw[g a o q] at h;cases h
def LeH.sqT{K:W.Frag}(l:LeH H H')(q:SqT K H a xs):SqT K H' a xs:=by
 rcases q with (q |⟨o,q⟩) |q
 .exact .inl (.inl (l.tup _ _ q))
 .exact .inl (.inr ⟨o,l.frz _ _ _ q⟩)
 .exact .inr q
section
variable(K:W.Frag)(mg:Qt)
def KlR(a:Addr)(vs:List V):Prop:=∃(o:Obj) (its:Array Value) (n:Nat),K.lookup a=some o/\o.cls=.type "list" /\ o.dict=none/\o.data=.seq its n/\its.size<=sizeLine/\Vals vs its.toList
mutual
inductive Rd(P:Addr->Prop)(H:Hp):V->Val->Prop where
 |non:Rd P H .non .non
 |bl (b:Bool):Rd P H (.bl b) (.bl b)
 |int (i:Int):Rd P H (.int i) (.int i)
 |str (x:Str):Rd P H (.str x) (.str x)
 |ty (n:String):Rd P H (.ty n) (.ty n)
 |glb {x:Str}{a:Addr} (m:mg x=some (.ref a)):Rd P H (.ref a) (.glb x)
 |exc {x:Str}{a C:Addr} (m:mg x=some (.ref C)) (e:H a=some (.ext (w9 a C))):Rd P H (.ref a) (.exc x)
 |tup {p:Addr}{vs:List V}{us:List Val} (h:SqT K H p vs) (r:Rds P H vs us):Rd P H (.ref p) (.tup us)
 |kl {a:Addr}{vs:List V}{us:List Val} (h:KlR K a vs) (r:Rds P H vs us):Rd P H (.ref a) (.kl us)
 |cell {a:Addr}{o:HO}{v:Val} (p:P a) (e:H a=some o) (r:Rc P H o v):Rd P H (.ref a) v
inductive Rc(P:Addr->Prop)(H:Hp):HO->Val->Prop where
 |lst {vs:List V}{us:List Val} (r:Rds P H vs us):Rc P H (.lst vs) (.lst us)
 |fz {o:Obj}{vs:List V}{us:List Val} (r:Rds P H vs us):Rc P H (.frz o (.lst vs)) (.kl us)
 |dct {ws:List (Key×V)}{us:List (Key×Val)} (r:Rk P H ws us):Rc P H (.dK ws) (.dct us)
 |set (xs:List Int) (nd:xs.Nodup):Rc P H (.set (λi=>decide (i∈xs)) xs.length) (.set xs)
inductive Rds(P:Addr->Prop)(H:Hp):List V->List Val->Prop where
 |nil:Rds P H [] []
 |cons {d:V}{v:Val}{ds:List V}{vs:List Val} (r:Rd P H d v) (rr:Rds P H ds vs):Rds P H (d::ds) (v::vs)
inductive Rk(P:Addr->Prop)(H:Hp):List (Key×V)->List (Key×Val)->Prop where
 |nil:Rk P H [] []
 |cons {k:Key}{d:V}{v:Val}{ds:List (Key×V)}{vs:List (Key×Val)} (r:Rd P H d v) (rr:Rk P H ds vs):Rk P H ((k,d)::ds) ((k,v)::vs)
end
end
def n9(o:HO):Prop:=∀ps,o ≠ .tbl ps
structure Mov(P P':Addr->Prop)(H H':Hp):Prop where
 le:LeH H H'
 cl:∀a o,P a->H a=some o->n9 o->P' a/\H' a=some o
def Gr.mov(g:Gr H H'):Mov P P H H':=⟨g.le,λa o p e _=>⟨p,g a o e⟩⟩
def Mov.of(h:∀a,P a->P' a):Mov P P' H H:=⟨.refl,λa o p e _=>⟨h a p,e⟩⟩
section
variable{K:W.Frag}{mg:Qt}{P P':Addr->Prop}{H H':Hp}
def Rc.nt(r:Rc K mg P H o v):n9 o:=by cases r <;> exact λ_ z=>nomatch z
def Rd.mono(m:Mov P P' H H')(r:Rd K mg P H d v):Rd K mg P' H' d v:=@Rd.rec K mg P H (λd v _=>Rd K mg P' H' d v) (λo v _=>Rc K mg P' H' o v) (λds vs _=>Rds K mg P' H' ds vs) (λws us _=>Rk K mg P' H' ws us) .non (λb=>.bl b) (λi=>.int i) (λx=>.str x) (λn=>.ty n) (λe=>.glb e) (λq e=>.exc q (m.le.ext _ _ e)) (λh _ ih=>.tup (m.le.sqT h) ih) (λh _ ih=>.kl h ih) (λp e r ih=>.cell (m.cl _ _ p e r.nt).1 (m.cl _ _ p e r.nt).2 ih) (λ_ ih=>.lst ih) (λ_ ih=>.fz ih) (λ_ ih=>.dct ih) (λxs nd=>.set xs nd) .nil (λ_ _ a b=>.cons a b) .nil (λ_ _ a b=>.cons a b) d v r
def Rds.ind{M:List V->List Val->Prop}(h0:M [] [])(h1:∀{d v ds vs},Rd K mg P H d v->Rds K mg P H ds vs->M ds vs->M (d::ds) (v::vs)){ds:List V}{vs:List Val}(r:Rds K mg P H ds vs):M ds vs:=by
 induction ds generalizing vs with
 |nil=>cases r;exact h0
 |
  cons d ds ih=>
  cases r with
  |cons r rr=>exact h1 r rr (ih rr)
def Rk.ind{M:List (Key×V)->List (Key×Val)->Prop}(h0:M [] [])(h1:∀{k d v ds vs},Rd K mg P H d v->Rk K mg P H ds vs->M ds vs->M ((k,d)::ds) ((k,v)::vs)){ds:List (Key×V)}{vs:List (Key×Val)}(r:Rk K mg P H ds vs):M ds vs:=by
 induction ds generalizing vs with
 |nil=>cases r;exact h0
 |
  cons d ds ih=>
  cases r with
  |cons r rr=>exact h1 r rr (ih rr)
def Rds.mono(m:Mov P P' H H'){d:List V}{v:List Val}(r:Rds K mg P H d v):Rds K mg P' H' d v:=r.ind .nil λr _ ih=>.cons (r.mono m) ih
def Rk.mono(m:Mov P P' H H'){d:List (Key×V)}{v:List (Key×Val)}(r:Rk K mg P H d v):Rk K mg P' H' d v:=r.ind .nil λr _ ih=>.cons (r.mono m) ih
def Rc.mono(m:Mov P P' H H')(r:Rc K mg P H d v):Rc K mg P' H' d v:=by
 cases r with
 |lst r=>exact .lst (r.mono m)
 |fz r=>exact .fz (r.mono m)
 |dct r=>exact .dct (r.mono m)
 |set xs nd=>exact .set xs nd
def Rds.len{ds:List V}{vs:List Val}(r:Rds K mg P H ds vs):ds.length=vs.length:=r.ind (M:=λds vs=>ds.length=vs.length) rfl λ_ _ ih=>NC (· + 1) ih
def Rds.get{ds:List V}{vs:List Val}{i:Nat}{v:Val}(r:Rds K mg P H ds vs)(e:vs[i]?=some v):∃d,ds[i]?=some d/\Rd K mg P H d v:=
 r.ind (M:=λds vs=>∀i,vs[i]?=some v->∃d,ds[i]?=some d/\Rd K mg P H d v) (λ_ e=>by rw[Oo] at e;cases e) (λr _ ih i e=>match i,e with
  |0,e=>by cases e;exact⟨_,rfl,r⟩
  |i+1,e=>ih i e) i e
def Rds.append{ds es:List V}{vs ws:List Val}(r:Rds K mg P H ds vs)(q:Rds K mg P H es ws):Rds K mg P H (ds++es) (vs++ws):=r.ind (M:=λds vs=>Rds K mg P H (ds++es) (vs++ws)) q λr _ ih=>.cons r ih
def Rds.take{ds:List V}{vs:List Val}(n:Nat)(r:Rds K mg P H ds vs):Rds K mg P H (ds.take n) (vs.take n):=
 r.ind (M:=λds vs=>∀n:Nat,Rds K mg P H (ds.take n) (vs.take n)) (λn=>by rw[PM,PM];exact .nil) (λr _ ih n=>by cases n with |zero=>exact .nil |succ n=>exact .cons r (ih n)) n
def Rds.drop{ds:List V}{vs:List Val}(n:Nat)(r:Rds K mg P H ds vs):Rds K mg P H (ds.drop n) (vs.drop n):=
 r.ind (M:=λds vs=>∀n:Nat,Rds K mg P H (ds.drop n) (vs.drop n)) (λn=>by rw[Qo,Qo];exact .nil) (λr rr ih n=>by cases n with |zero=>exact .cons r rr |succ n=>exact ih n) n
def Rds.set{d:V}{v:Val}(r:Rd K mg P H d v){ds:List V}{vs:List Val}(i:Nat)(q:Rds K mg P H ds vs):Rds K mg P H (ds.set i d) (vs.set i v):=
 q.ind (M:=λds vs=>∀i:Nat,Rds K mg P H (ds.set i d) (vs.set i v)) (λ_=>.nil) (λq qq ih i=>by cases i with |zero=>exact .cons r qq |succ i=>exact .cons q (ih i)) i
def ShR(K:W.Frag)(mg:Qt)(P:Addr->Prop)(H:Hp)(d:V)(v:Val):Prop:=Rd K mg P H d v\/∃a o,d=.ref a/\H a=some o/\Rc K mg P H o v
inductive ShRs(K:W.Frag)(mg:Qt)(P:Addr->Prop)(H:Hp):List V->List Val->Prop where
 |nil:ShRs K mg P H [] []
 |cons {d:V}{v:Val}{ds:List V}{vs:List Val} (r:ShR K mg P H d v) (rr:ShRs K mg P H ds vs):ShRs K mg P H (d::ds) (v::vs)
def ShR.mono(m:Mov P P' H H')(g:Gr H H')(r:ShR K mg P H d v):ShR K mg P' H' d v:=by
 rcases r with r |⟨a,o,rfl,e,r⟩
 .exact .inl (r.mono m)
 .exact .inr ⟨a,o,rfl,g a o e,r.mono m⟩
def ShR.int(r:ShR K mg P H d (.int i)):d=.int i:=by
 rcases r with r |⟨n,o,rfl,e,r⟩
 .cases r with
  |int=>rfl
  |cell p e r=>cases r
 .cases r
def ShR.str(r:ShR K mg P H d (.str i)):d=.str i:=by
 rcases r with r |⟨n,o,rfl,e,r⟩
 .cases r with
  |str=>rfl
  |cell p e r=>cases r
 .cases r
def ShR.bl(r:ShR K mg P H d (.bl i)):d=.bl i:=by
 rcases r with r |⟨n,o,rfl,e,r⟩
 .cases r with
  |bl=>rfl
  |cell p e r=>cases r
 .cases r
def ShR.non(r:ShR K mg P H d .non):d=.non:=by
 rcases r with r |⟨n,o,rfl,e,r⟩
 .cases r with
  |non=>rfl
  |cell p e r=>cases r
 .cases r
def ShR.exc(r:ShR K mg P H d (.exc x)):∃a C,d=.ref a/\mg x=some (.ref C)/\H a=some (.ext (w9 a C)):=by
 rcases r with r |⟨n,o,rfl,e,r⟩
 .cases r with
  |exc m e=>exact⟨_,_,rfl,m,e⟩
  |cell p e r=>cases r
 .cases r
def ShR.ty(r:ShR K mg P H d (.ty x)):d=.ty x:=by
 rcases r with r |⟨n,o,rfl,e,r⟩
 .cases r with
  |ty=>rfl
  |cell p e r=>cases r
 .cases r
def ShR.glb(r:ShR K mg P H d (.glb x)):∃a,d=.ref a/\mg x=some (.ref a):=by
 rcases r with r |⟨n,o,rfl,e,r⟩
 .cases r with
  |glb m=>exact⟨_,rfl,m⟩
  |cell p e r=>cases r
 .cases r
def ShR.tup(r:ShR K mg P H d (.tup us)):∃p vs,d=.ref p/\SqT K H p vs/\Rds K mg P H vs us:=by
 rcases r with r |⟨n,o,rfl,e,r⟩
 .cases r with
  |tup h r=>exact⟨_,_,rfl,h,r⟩
  |cell p e r=>cases r
 .cases r
def ShR.lst(r:ShR K mg P H d (.lst us)):∃a vs,d=.ref a/\H a=some (.lst vs)/\Rds K mg P H vs us:=by
 rcases r with r |⟨n,o,rfl,e,r⟩
 .cases r with
  |cell p e r=>cases r with |lst r=>exact⟨_,_,rfl,e,r⟩
 .cases r with |lst r=>exact⟨_,_,rfl,e,r⟩
def ShR.set(r:ShR K mg P H d (.set xs)):∃a,d=.ref a/\xs.Nodup/\H a=some (.set (λi=>decide (i∈xs)) xs.length):=by
 rcases r with r |⟨n,o,rfl,e,r⟩
 .cases r with
  |cell p e r=>cases r with |set _ nd=>exact⟨_,rfl,nd,e⟩
 .cases r with |set _ nd=>exact⟨_,rfl,nd,e⟩
def ShR.dct(r:ShR K mg P H d (.dct us)):∃a ws,d=.ref a/\H a=some (.dK ws)/\Rk K mg P H ws us:=by
 rcases r with r |⟨n,o,rfl,e,r⟩
 .cases r with
  |cell p e r=>cases r with |dct r=>exact⟨_,_,rfl,e,r⟩
 .cases r with |dct r=>exact⟨_,_,rfl,e,r⟩
def ShR.kl(r:ShR K mg P H d (.kl us)):∃a vs,d=.ref a/\SqL K H a vs/\Rds K mg P H vs us:=by
 rcases r with r |⟨n,o,rfl,e,r⟩
 .cases r with
  |kl h r=>exact⟨_,_,rfl,.inr h,r⟩
  |cell p e r=>cases r with |fz r=>exact⟨_,_,rfl,.inl (.inr ⟨_,e⟩),r⟩
 .cases r with |fz r=>exact⟨_,_,rfl,.inl (.inr ⟨_,e⟩),r⟩
def ShR.lstL(r:ShR K mg P H d (.lst us)):∃a vs,d=.ref a/\SqL K H a vs/\Rds K mg P H vs us:=by obtain⟨a,vs,e,h,q⟩:=r.lst;exact⟨a,vs,e,SqL.of h,q⟩
end
noncomputable def Val.items:Val->Option (List Val)
 |.tup xs=>some xs
 |.lst xs=>some xs
 |.kl xs=>some xs
 |_=>none
def ShR.items{K:W.Frag}{mg:Qt}{P:Addr->Prop}{H:Hp}{d:V}{v:Val}{us:List Val}(r:ShR K mg P H d v)(e:v.items=some us):∃a vs,d=.ref a/\(SqL K H a vs\/SqT K H a vs)/\Rds K mg P H vs us:=by
 cases v with
 |tup xs=>cases e;obtain⟨a,vs,h1,h2,h3⟩:=r.tup;exact⟨a,vs,h1,.inr h2,h3⟩
 |lst xs=>cases e;obtain⟨a,vs,h1,h2,h3⟩:=r.lstL;exact⟨a,vs,h1,.inl h2,h3⟩
 |kl xs=>cases e;obtain⟨a,vs,h1,h2,h3⟩:=r.kl;exact⟨a,vs,h1,.inl h2,h3⟩
 |_=>cases e
inductive Sl where
 |no |sh (v:Val) |ow (v:Val) |mu (v:Val) |lo (v:Val) |lm (v:Val)
 deriving Inhabited
abbrev E3:=List Sl
noncomputable def Sl.val:Sl->Option Val
 |.no=>none
 |.sh v=>some v
 |.ow v=>some v
 |.mu v=>some v
 |.lo v=>some v
 |.lm v=>some v
noncomputable def Sl.mt:Sl->Bool
 |.ow _=>true
 |.mu _=>true
 |_=>false
noncomputable def Sl.lk:Sl->Bool
 |.lo _=>true
 |.lm _=>true
 |_=>false
abbrev Ns:=List (Option Addr)
def Oc(X:Addr->Prop)(ns:Ns)(n:Addr):Prop:=¬ X n/\some n∉ns
def NotFz:HO->Prop
 |.lst _=>True
 |.dK _=>True
 |.set _ _=>True
 |_=>False
def TbQ(H:Hp)(P:Addr)(q:Str):Prop:=∃ps:Array Value,H P=some (.tbl ps)/\TriplesOk ps.toList/\∀pos cv,codeAmong pos ps.toList=some cv->∃c,cv=.ref c/\H c=some (.ext (gd c q))
section
variable(K:W.Frag)(mg:Qt)
def Bs(H:Hp):Prop:=∀P q,LamT K mg P q->TbQ H P q/\sI K mg H
def SlR(P:Addr->Prop)(N0:Addr->Prop)(n:Option (Option Addr))(d:Option (Option V))(H:Hp):Sl->Prop
 |.no=>n=some none
 |.sh v=>n=some none/\∃x,d=some (some x)/\Rd K mg P H x v
 |.ow v=>∃m o,n=some (some m)/\d=some (some (.ref m))/\N0 m/\H m=some o/\NotFz o/\Rc K mg P H o v
 |.lo v=>∃m o,n=some (some m)/\d=some (some (.ref m))/\N0 m/\H m=some o/\NotFz o/\Rc K mg P H o v
 |.mu v=>∃m o,n=some (some m)/\d=some (some (.ref m))/\H m=some o/\NotFz o/\Rc K mg P H o v
 |.lm v=>∃m o,n=some (some m)/\d=some (some (.ref m))/\H m=some o/\NotFz o/\Rc K mg P H o v
structure Sat(X:Addr->Prop)(N0:Addr->Prop)(ns:Ns)(e:E3)(σ:St)(H:Hp):Prop where
 l1:σ.length=e.length
 l2:ns.length=e.length
 lh:∀a,H a=none->N0 a
 xl:∀a,X a->∃o,H a=some o
 inj:∀(i j:Nat) (n:Addr),ns[i]?=some (some n)->ns[j]?=some (some n)->i=j
 nx:∀(i:Nat) (n:Addr),ns[i]?=some (some n)->¬ X n
 sl:∀(i:Nat) (s:Sl),e[i]?=some s->SlR K mg (Oc X ns) N0 (ns[i]?) (σ[i]?) H s
 bs:Bs K mg H
end
def Mt(ns:Ns)(e:E3)(n:Addr):Prop:=∃(i:Nat) (s:Sl),ns[i]?=some (some n)/\e[i]?=some s/\s.mt=true
structure Stp(ns:Ns)(e:E3)(H:Hp)(ns':Ns)(e':E3)(H':Hp):Prop where
 le:LeH H H'
 dom:∀a,H' a=none->H a=none
 keep:∀(m:Addr) (o:HO),H m=some o->n9 o->¬ Mt ns e m->H' m=some o
 nw:∀(i:Nat) (n:Addr),ns'[i]?=some (some n)->ns[i]?=some (some n)\/H n=none
 lk:∀(i:Nat) (s:Sl),e[i]?=some s->s.lk=true->e'[i]?=some s/\ns'[i]?=ns[i]?
 lk':∀(i:Nat) (s:Sl),e'[i]?=some s->s.lk=true->e[i]?=some s/\ns'[i]?=ns[i]?
 mu:∀(i:Nat) (v:Val),e'[i]?=some (.mu v)->∃u,e[i]?=some (.mu u)/\ns'[i]?=ns[i]?
 mu':∀(i:Nat) (u:Val),e[i]?=some (.mu u)->∃v,e'[i]?=some (.mu v)/\ns'[i]?=ns[i]?
section
variable{K:W.Frag}{mg:Qt}{X Y N0 P P':Addr->Prop}{ns ns1 h_:Ns}{e e1 e2:E3}{σ:St}{H H' H1 H2:Hp}
def NotFz.nt(h:NotFz o):n9 o:=λps z=>by subst z;exact h
def NotFz.no(h:NotFz o):(∀xs,o ≠ .tup xs)/\(∀x y,o ≠ .frz x y)/\(∀φ,o ≠ .ext φ)/\∀ps,o ≠ .tbl ps:=
 ⟨λ_ z=>by subst z;exact h,λ_ _ z=>by subst z;exact h,λ_ z=>by subst z;exact h,λ_ z=>by subst z;exact h⟩
def LeH.wr(q:H a=some u)(hf:NotFz u):LeH H (upd H a o):=by
 have n:∀b w,H b=some w->w≠u->upd H a o b=some w:=λb w e z=>by rw[aC λy=>?_];exact e;subst y;rw[q] at e;exact z (G_ e).symm
 exact⟨λb xs e=>n b _ e λz=>hf.no.1 _ z.symm,λb x y e=>n b _ e λz=>hf.no.2.1 _ _ z.symm,λb φ e=>n b _ e λz=>hf.no.2.2.1 _ z.symm⟩
def Dr(b:sI K mg H)(l:LeH H H'):sI K mg H':=by
 obtain⟨x,o,h1,h2,h3,h4,h5⟩:=b;refine⟨x,o,h1,h2,h3,h4,?_⟩;rcases h5 with z |⟨u,z⟩
 .exact .inl z
 .exact .inr ⟨u,l.frz _ _ _ z⟩
def Bs.of(b:Bs K mg H)(l:LeH H H')(t:∀a ps,H a=some (.tbl ps)->H' a=some (.tbl ps)):Bs K mg H':=λP q h=>by obtain⟨⟨ps,h1,h2,h3⟩,m⟩:=b P q h;exact⟨⟨ps,t _ _ h1,h2,λpos cv z=>by obtain⟨c,y1,y2⟩:=h3 pos cv z;exact⟨c,y1,l.ext _ _ y2⟩⟩,Dr m l⟩
def Bs.gr(b:Bs K mg H)(g:Gr H H'):Bs K mg H':=b.of g.le λa _=>g a _
def Bs.wr(b:Bs K mg H)(q:H a=some u)(hf:NotFz u):Bs K mg (upd H a o):=b.of (LeH.wr q hf) λc ps e=>by rw[aC λy=>?_];exact e;subst y;rw[q] at e;exact hf.no.2.2.2 _ (G_ e)
def aT{n:Addr}:some n∈ns ↔ ∃i:Nat,ns[i]?=some (some n):=by
 constructor
 .intro m;exact List.getElem?_of_mem m
 .rintro⟨i,e⟩;exact Oi e
def Sat.own(S:Sat K mg X N0 ns e σ H){i:Nat}{n:Addr}(q:ns[i]?=some (some n)):∃s v o,e[i]?=some s/\(s.mt=true\/s.lk=true)/\s.val=some v/\σ[i]?=some (some (.ref n))/\H n=some o/\NotFz o/\Rc K mg (Oc X ns) H o v:=by
 have hi:i<e.length:=by rw[<- S.l2];exact (D_.mp q).1
 have hs:=S.sl i e[i] (v_ hi);refine⟨e[i],?_⟩;have he:=v_ hi;generalize e[i]=s at *;rw[q] at hs;cases s with
 |no=>cases hs
 |sh v=>cases hs.1
 |ow v=>obtain⟨m,o,e1,e2,_,e3,e4,e5⟩:=hs;cases e1;exact⟨v,o,he,.inl rfl,rfl,e2,e3,e4,e5⟩
 |lo v=>obtain⟨m,o,e1,e2,_,e3,e4,e5⟩:=hs;cases e1;exact⟨v,o,he,.inr rfl,rfl,e2,e3,e4,e5⟩
 |mu v=>obtain⟨m,o,e1,e2,e3,e4,e5⟩:=hs;cases e1;exact⟨v,o,he,.inl rfl,rfl,e2,e3,e4,e5⟩
 |lm v=>obtain⟨m,o,e1,e2,e3,e4,e5⟩:=hs;cases e1;exact⟨v,o,he,.inr rfl,rfl,e2,e3,e4,e5⟩
def Stp.gr(g:Gr H H'):Stp ns e H ns e H':=⟨g.le,λ_=>g.none,λ_ _ q _ _=>g _ _ q,λ_ _ q=>.inl q,λ_ _ q _=>⟨q,rfl⟩,λ_ _ q _=>⟨q,rfl⟩,λ_ _ q=>⟨_,q,rfl⟩,λ_ _ q=>⟨_,q,rfl⟩⟩
def Stp.refl:Stp ns e H ns e H:=.gr .refl
def Stp.trans(S:Sat K mg X N0 ns e σ H)(a:Stp ns e H ns1 e1 H1)(b:Stp ns1 e1 H1 h_ e2 H2):Stp ns e H h_ e2 H2:=by
 refine⟨a.le.trans b.le,λx z=>a.dom x (b.dom x z),λm o q ht hm=>?_,λi n q=>?_,λi s q hl=>?_,λi s q hl=>?_,λi v q=>?_,λi v q=>?_⟩
 .refine b.keep m o (a.keep m o q ht hm) ht λ⟨i,s,z1,z2,z3⟩=>hm ?_;rcases a.nw i m z1 with z |z
  .obtain⟨s0,v,o',q1,q2,_⟩:=S.own z;rcases q2 with q2 |q2
   .exact⟨i,s0,z,q1,q2⟩
   .have:=(a.lk i s0 q1 q2).1
    rw[z2] at this;cases this;exfalso;cases s <;> first |cases z3;done |cases q2;done
  .rw[q] at z;cases z
 .rcases b.nw i n q with z |z
  .exact a.nw i n z
  .exact .inr (a.dom n z)
 .obtain⟨q1,q2⟩:=a.lk i s q hl;obtain⟨q3,q4⟩:=b.lk i s q1 hl;exact⟨q3,q4.trans q2⟩
 .obtain⟨q1,q2⟩:=b.lk' i s q hl;obtain⟨q3,q4⟩:=a.lk' i s q1 hl;exact⟨q3,q2.trans q4⟩
 .obtain⟨u,q1,q2⟩:=b.mu i v q;obtain⟨u',q3,q4⟩:=a.mu i u q1;exact⟨u',q3,q2.trans q4⟩
 .obtain⟨u,q1,q2⟩:=a.mu' i v q;obtain⟨u',q3,q4⟩:=b.mu' i u q1;exact⟨u',q3,q4.trans q2⟩
def Stp.mov(a:Stp ns e H ns1 e1 H1):Mov (Oc X ns) (Oc X ns1) H H1:=⟨a.le,λn o p q ht=>by
 have hm:¬ Mt ns e n:=λ⟨i,s,z,_⟩=>p.2 (aT.mpr ⟨i,z⟩);refine⟨⟨p.1,λz=>?_⟩,a.keep n o q ht hm⟩;obtain⟨i,z⟩:=aT.mp z;rcases a.nw i n z with z |z
 .exact p.2 (aT.mpr ⟨i,z⟩)
 .rw[q] at z;cases z⟩
def SlR.mono(m:Mov P P' H H')(k:∀j o,n=some (some j)->H j=some o->NotFz o->H' j=some o)(r:SlR K mg P N0 n d H s):SlR K mg P' N0 n d H' s:=by
 cases s with
 |no=>exact r
 |sh v=>obtain⟨q,x,q1,q2⟩:=r;exact⟨q,x,q1,q2.mono m⟩
 |ow v=>obtain⟨j,o,q1,q2,q3,q4,q5,q6⟩:=r;exact⟨j,o,q1,q2,q3,k j o q1 q4 q5,q5,q6.mono m⟩
 |lo v=>obtain⟨j,o,q1,q2,q3,q4,q5,q6⟩:=r;exact⟨j,o,q1,q2,q3,k j o q1 q4 q5,q5,q6.mono m⟩
 |mu v=>obtain⟨j,o,q1,q2,q4,q5,q6⟩:=r;exact⟨j,o,q1,q2,k j o q1 q4 q5,q5,q6.mono m⟩
 |lm v=>obtain⟨j,o,q1,q2,q4,q5,q6⟩:=r;exact⟨j,o,q1,q2,k j o q1 q4 q5,q5,q6.mono m⟩
def Xn(X:Addr->Prop)(n:Addr):Addr->Prop:=λm=>X m\/m=n
def Sat.gr(S:Sat K mg X N0 ns e σ H)(g:Gr H H'):Sat K mg X N0 ns e σ H':=
 ⟨S.l1,S.l2,λa z=>S.lh a (g.none z),λa z=>by obtain⟨o,q⟩:=S.xl a z;exact⟨o,g a o q⟩,S.inj,S.nx,λi s q=>(S.sl i s q).mono g.mov λj o _ q _=>g j o q,S.bs.gr g⟩
def Sat.grow(S:Sat K mg X N0 ns e σ H)(g:Gr H H')(hp:H p=none)(q:H' p=some o):Sat K mg (Xn X p) N0 ns e σ H':=by
 have S':=S.gr g;have np:∀b u,H b=some u->b≠p:=λb u y z=>by subst z;rw[hp] at y;cases y
 refine⟨S.l1,S.l2,S'.lh,λa z=>?_,S.inj,λi n q' z=>?_,λi s q=>(S.sl i s q).mono ⟨g.le,λa o p q _=>⟨⟨λz=>?_,p.2⟩,g a o q⟩⟩ λj o _ q _=>g j o q,S'.bs⟩
 .rcases z with z |rfl
  .exact S'.xl a z
  .exact⟨o,q⟩
 .rcases z with z |rfl
  .exact S.nx i n q' z
  .obtain⟨_,_,_,_,_,_,_,y,_⟩:=S.own q';exact np _ _ y rfl
 .rcases z with z |z
  .exact p.1 z
  .exact np _ _ q z
def Sat.weak(S:Sat K mg Y N0 ns e σ H)(hx:∀n,X n->Y n):Sat K mg X N0 ns e σ H:=
 ⟨S.l1,S.l2,S.lh,λn z=>S.xl n (hx n z),S.inj,λi n q z=>S.nx i n q (hx n z),λi s q=>(S.sl i s q).mono (.of λn p=>⟨λz=>p.1 (hx n z),p.2⟩) λ_ _ _ q _=>q,S.bs⟩
end
section
variable{K:W.Frag}{mg:Qt}{X N0:Addr->Prop}{ns ns0:Ns}{e e0:E3}{σ:St}{H Hs:Hp}
def bJ{α:Type}{l:List α}{i j:Nat}{a b:α}(hi:i<l.length)(q:(l.set i a)[j]?=some b):(j=i/\b=a)\/(j≠i/\l[j]?=some b):=by
 rw[List.getElem?_set] at q;by_cases z:i=j
 .subst z;rw[if_pos rfl,if_pos hi] at q;exact .inl ⟨rfl,(G_ q).symm⟩
 .rw[if_neg z] at q;exact .inr ⟨λy=>z y.symm,q⟩
def cW{α:Type}{l:List α}{i:Nat}{a:α}(hi:i<l.length):(l.set i a)[i]?=some a:=by rw[List.getElem?_set,if_pos rfl,if_pos hi]
def cE{α:Type}{l:List α}{i j:Nat}{a:α}(hi:j≠i):(l.set i a)[j]?=l[j]?:=by rw[Qa (λy=>hi y.symm)]
def fY{n:Addr}(p:Oc X ns n):Oc X (ns.set i none) n:=⟨p.1,λz=>by
 rcases Pu z with z |z
 .exact p.2 z
 .cases z⟩
def Sat.putN(S:Sat K mg X N0 ns e σ H)(hi:i<e.length)(q:SlR K mg (Oc X (ns.set i none)) N0 (some none) (some d) H s):Sat K mg X N0 (ns.set i none) (e.set i s) (σ.set i d) H:=by
 have hn:i<ns.length:=by rw[S.l2];exact hi
 have ha:i<σ.length:=by rw[S.l1];exact hi
 refine⟨by rw[ND,ND];exact S.l1,by rw[ND,ND];exact S.l2,S.lh,S.xl,λj k n q1 q2=>?_,λj n q1=>?_,λj s' q1=>?_,S.bs⟩
 .rcases bJ hn q1 with ⟨_,z⟩ |⟨_,z⟩
  .cases z
  rcases bJ hn q2 with ⟨_,y⟩ |⟨_,y⟩
  .cases y
  exact S.inj j k n z y
 .rcases bJ hn q1 with ⟨_,z⟩ |⟨_,z⟩
  .cases z
  exact S.nx j n z
 .rcases bJ hi q1 with ⟨rfl,rfl⟩ |⟨z,q2⟩
  .rw[cW hn,cW ha];exact q
  .rw[cE z,cE z];exact (S.sl j s' q2).mono (.of λn p=>fY p) λ_ _ _ q _=>q
def Sat.putN'(S:Sat K mg X N0 ns e σ H)(hi:i<e.length)(q:SlR K mg (Oc X (ns.set i none)) N0 (some none) (σ[i]?) H s):Sat K mg X N0 (ns.set i none) (e.set i s) σ H:=by
 have ha:i<σ.length:=by rw[S.l1];exact hi
 have:=S.putN hi (s:=s) (d:=σ[i]) (by rw[v_ ha] at q;exact q)
 rw[List.set_getElem_self] at this;exact this
def Sat.putO(S:Sat K mg (Xn X n) N0 ns e σ H)(hx:¬ X n)(hi:i<e.length)(hn0:N0 n)(eo:H n=some o)(hf:NotFz o)(r:Rc K mg (Oc (Xn X n) ns) H o v):Sat K mg X N0 (ns.set i (some n)) (e.set i (.ow v)) (σ.set i (some (.ref n))) H:=by
 have hn:i<ns.length:=by rw[S.l2];exact hi
 have ha:i<σ.length:=by rw[S.l1];exact hi
 have nn:∀j:Nat,ns[j]?≠some (some n):=λj q=>S.nx j n q (.inr rfl);have mv:Mov (Oc (Xn X n) ns) (Oc X (ns.set i (some n))) H H:=.of λm p=>⟨λz=>p.1 (.inl z),λz=>by
  rcases Pu z with z |z
  .exact p.2 z
  .cases z;exact p.1 (.inr rfl)⟩
 refine⟨by rw[ND,ND];exact S.l1,by rw[ND,ND];exact S.l2,S.lh,λm z=>S.xl m (.inl z),λj k m q1 q2=>?_,λj m q1 z=>?_,λj s' q1=>?_,S.bs⟩
 .rcases bJ hn q1 with ⟨z1,z⟩ |⟨z1,z⟩ <;> rcases bJ hn q2 with ⟨y1,y⟩ |⟨y1,y⟩
  .rw[z1,y1]
  .cases z;exact absurd y (nn k)
  .cases y;exact absurd z (nn j)
  .exact S.inj j k m z y
 .rcases bJ hn q1 with ⟨_,y⟩ |⟨_,y⟩
  .cases y;exact hx z
  .exact S.nx j m y (.inl z)
 .rcases bJ hi q1 with ⟨rfl,rfl⟩ |⟨z,q2⟩
  .rw[cW hn,cW ha];exact⟨n,o,rfl,rfl,hn0,eo,hf,r.mono mv⟩
  .rw[cE z,cE z];exact (S.sl j s' q2).mono mv λ_ _ _ q _=>q
noncomputable def Sl.pl:Sl->Bool
 |.no=>true
 |.sh _=>true
 |.ow _=>true
 |_=>false
def Stp.put(A:Stp ns0 e0 Hs ns e H)(hi:i<e.length)(hx:∀n,x=some n->Hs n=none)(q0:e[i]?=some s0)(p0:s0.pl=true)(p:s.pl=true)(l2:ns.length=e.length):Stp ns0 e0 Hs (ns.set i x) (e.set i s) H:=by
 have hn:i<ns.length:=by rw[l2];exact hi
 refine⟨A.le,A.dom,A.keep,λj n q=>?_,λj s' q hl=>?_,λj s' q hl=>?_,λj v q=>?_,λj v q=>?_⟩
 .rcases bJ hn q with ⟨_,z⟩ |⟨_,z⟩
  .exact .inr (hx n z.symm)
  .exact A.nw j n z
 .obtain⟨q1,q2⟩:=A.lk j s' q hl;have z:j≠i:=λz=>by subst z;rw[q0] at q1;cases q1;cases s0 <;> first |cases p0;done |cases hl;done
  rw[cE z,cE z];exact⟨q1,q2⟩
 .rcases bJ hi q with ⟨_,z⟩ |⟨z,q1⟩
  .subst z;cases s' <;> first |cases p;done |cases hl;done
  .rw[cE z];exact A.lk' j s' q1 hl
 .rcases bJ hi q with ⟨_,z⟩ |⟨z,q1⟩
  .subst z;cases p
  .rw[cE z];exact A.mu j v q1
 .obtain⟨u,q1,q2⟩:=A.mu' j v q;have z:j≠i:=λz=>by subst z;rw[q0] at q1;cases q1;cases p0
  exact⟨u,by rw[cE z];exact q1,by rw[cE z];exact q2⟩
end
inductive Tm where
 |val (v:Val) |new (v:Val) |bor (i:Nat)
inductive R3(α:Type) where
 |ok (a:α) (e:E3) |exc (c:Str) (e:E3) |stuck
noncomputable def R3.bind {α β:Type} (r:R3 α) (f:α->E3->R3 β):R3 β:=match r with
 |.ok a e=>f a e
 |.exc c e=>.exc c e
 |.stuck=>.stuck
abbrev ME3:=E3->R3 Tm
abbrev MT3:=E3->R3 Bool
abbrev MA3:=E3->R3 (List Tm)
section
variable(K:W.Frag)(mg:Qt)
def PG3{α:Type}(X N0:Addr->Prop)(ns:Ns)(e:E3)(σ:St)(H:Hp)(E:XK)(k:α->E3->Ns->Hp->Prop):R3 α->Prop
 |.ok t e'=>∀H' ns',Stp ns e H ns' e' H'->Sat K mg X N0 ns' e' σ H'->k t e' ns' H'
 |.exc c e'=>∀H' ns' C,Stp ns e H ns' e' H'->Sat K mg X N0 ns' e' σ H'->mg c=some (.ref C)->E (.ref C) none H'
 |.stuck=>False
def relE(X N0 L:Addr->Prop)(σ:St)(ns:Ns)(e:E3)(H:Hp)(d:V):Tm->Prop
 |.val v=>Rd K mg (Oc X ns) H d v
 |.new v=>∃n o,d=.ref n/\L n/\¬ X n/\H n=some o/\NotFz o/\Sat K mg (Xn X n) N0 ns e σ H/\Rc K mg (Oc (Xn X n) ns) H o v
 |.bor i=>σ[i]?=some (some d)
inductive TsR(X:Addr->Prop)(ns:Ns)(σ:St)(H:Hp):List V->List Tm->Prop where
 |nil:TsR X ns σ H [] []
 |val {d:V}{v:Val}{ds:List V}{ts:List Tm} (r:Rd K mg (Oc X ns) H d v) (rr:TsR X ns σ H ds ts):TsR X ns σ H (d::ds) (.val v::ts)
 |bor {d:V}{i:Nat}{ds:List V}{ts:List Tm} (q:σ[i]?=some (some d)) (rr:TsR X ns σ H ds ts):TsR X ns σ H (d::ds) (.bor i::ts)
abbrev KE(X N0 L:Addr->Prop)(σ:St)(Q:VK):Tm->E3->Ns->Hp->Prop:=λt e' ns' H'=>∀v,relE K mg X N0 L σ ns' e' H' v t->Q v H'
abbrev KA(X:Addr->Prop)(σ:St)(Q:List V->Hp->Prop):List Tm->E3->Ns->Hp->Prop:=λts _ ns' H'=>∀vs,TsR K mg X ns' σ H' vs ts->Q vs H'
abbrev KT(Q:Bool->Hp->Prop):Bool->E3->Ns->Hp->Prop:=λb _ _ H'=>Q b H'
def rdE(ES:St->XK)(G:ME3):TE:=λσ H Q=>∃X N0 L ns e,Sat K mg X N0 ns e σ H/\(∀a,H a=none->L a)/\PG3 K mg X N0 ns e σ H (ES σ) (KE K mg X N0 L σ Q) (G e)
def rdT(ES:St->XK)(G:MT3):TT:=λσ H Q=>∃X N0 ns e,Sat K mg X N0 ns e σ H/\PG3 K mg X N0 ns e σ H (ES σ) (KT Q) (G e)
def rdA(ES:St->XK)(G:MA3):TA:=λσ H Q=>∃X N0 ns e,Sat K mg X N0 ns e σ H/\PG3 K mg X N0 ns e σ H (ES σ) (KA K mg X σ Q) (G e)
end
section
variable{K:W.Frag}{mg:Qt}{ES:St->XK}{σ:St}{H:Hp}{Z:Prop}
def rdE.el{G:ME3}(h:rdE K mg ES G σ H Q)(k:∀X N0 L ns e,Sat K mg X N0 ns e σ H->(∀a,H a=none->L a)->PG3 K mg X N0 ns e σ H (ES σ) (KE K mg X N0 L σ Q) (G e)->Z):Z:=by obtain⟨X,N0,L,ns,e,S,hl,p⟩:=h;exact k X N0 L ns e S hl p
def rdT.el{G:MT3}(h:rdT K mg ES G σ H Q)(k:∀X N0 ns e,Sat K mg X N0 ns e σ H->PG3 K mg X N0 ns e σ H (ES σ) (KT Q) (G e)->Z):Z:=by obtain⟨X,N0,ns,e,S,p⟩:=h;exact k X N0 ns e S p
def rdA.el{G:MA3}(h:rdA K mg ES G σ H Q)(k:∀X N0 ns e,Sat K mg X N0 ns e σ H->PG3 K mg X N0 ns e σ H (ES σ) (KA K mg X σ Q) (G e)->Z):Z:=by obtain⟨X,N0,ns,e,S,p⟩:=h;exact k X N0 ns e S p
end
noncomputable def rs (e:E3):Tm->Option Val
 |.val v=>some v
 |.new v=>some v
 |.bor i=>(e[i]?).bind Sl.val
noncomputable def Tm.drop:Tm->Tm
 |.new v=>.val v
 |t=>t
noncomputable def rss (e:E3):List Tm->Option (List Val)
 | []=>some []
 |t::ts=>match rs e t,rss e ts with
  |some v,some vs=>some (v::vs)
  |_,_=>none
section
variable{K:W.Frag}{mg:Qt}{X N0 L:Addr->Prop}{ns ns':Ns}{e e':E3}{σ:St}{H H':Hp}{E:XK}
def PG3.ret{α:Type}{k:α->E3->Ns->Hp->Prop}{t:α}(p:PG3 K mg X N0 ns e σ H E k (.ok t e))(S:Sat K mg X N0 ns e σ H):k t e ns H:=p H ns .refl S
def PG3.after{α:Type}{r:R3 α}{k:α->E3->Ns->Hp->Prop}(p:PG3 K mg X N0 ns e σ H E k r)(S:Sat K mg X N0 ns e σ H)(a:Stp ns e H ns' e' H'):PG3 K mg X N0 ns' e' σ H' E k r:=by
 cases r with
 |stuck=>exact p
 |exc c e2=>exact λH2 h_ C b S2 m=>p H2 h_ C (a.trans S b) S2 m
 |ok t2 e2=>exact λH2 h_ b S2=>p H2 h_ (a.trans S b) S2
def PG3.imp{α β:Type}{r:R3 α}{f:α->E3->R3 β}{k:β->E3->Ns->Hp->Prop}{k':α->E3->Ns->Hp->Prop}(p:PG3 K mg X N0 ns e σ H E k (r.bind f))(S:Sat K mg X N0 ns e σ H)
 (i:∀t e1 ns1 H1,Stp ns e H ns1 e1 H1->Sat K mg X N0 ns1 e1 σ H1->PG3 K mg X N0 ns1 e1 σ H1 E k (f t e1)->k' t e1 ns1 H1):PG3 K mg X N0 ns e σ H E k' r:=by
 cases r with
 |stuck=>exact p
 |exc c e'=>exact p
 |ok t e1=>intro H1 ns1 a S1;exact i t e1 ns1 H1 a S1 (PG3.after (show PG3 K mg X N0 ns e σ H E k (f t e1) from p) S a)
def TsR.stp(a:Stp ns e H ns' e' H')(r:TsR K mg X ns σ H ds ts):TsR K mg X ns' σ H' ds ts:=by
 induction r with
 |nil=>exact .nil
 |val r _ ih=>exact .val (r.mono a.mov) ih
 |bor q _ ih=>exact .bor q ih
def Sat.bor(S:Sat K mg X N0 ns e σ H){i:Nat}{d:V}{v:Val}(q:σ[i]?=some (some d))(r:(e[i]?).bind Sl.val=some v):ShR K mg (Oc X ns) H d v:=by
 cases z:e[i]? with
 |none=>rw[z] at r;cases r
 |
  some s=>
  rw[z] at r;have y:=S.sl i s z;rw[q] at y;have r':s.val=some v:=r;cases s with
  |no=>cases r'
  |sh u=>cases r';obtain⟨_,x,e1,e2⟩:=y;cases e1;exact .inl e2
  |ow u=>cases r';obtain⟨m,o,_,e2,_,e3,_,e4⟩:=y;cases e2;exact .inr ⟨m,o,rfl,e3,e4⟩
  |lo u=>cases r';obtain⟨m,o,_,e2,_,e3,_,e4⟩:=y;cases e2;exact .inr ⟨m,o,rfl,e3,e4⟩
  |mu u=>cases r';obtain⟨m,o,_,e2,e3,_,e4⟩:=y;cases e2;exact .inr ⟨m,o,rfl,e3,e4⟩
  |lm u=>cases r';obtain⟨m,o,_,e2,e3,_,e4⟩:=y;cases e2;exact .inr ⟨m,o,rfl,e3,e4⟩
def relE.new(r:relE K mg X N0 L σ ns e H d (.new v)):Rd K mg (Oc X ns) H d v:=by obtain⟨n,o,rfl,_,hx,eo,_,S,rc⟩:=r;exact .cell ⟨hx,λz=>by obtain⟨i,z⟩:=aT.mp z;exact S.nx i n z (.inr rfl)⟩ eo (rc.mono (.of λm p=>⟨λz=>p.1 (.inl z),p.2⟩))
def relE.sh{d:V}{t:Tm}{v:Val}(S:Sat K mg X N0 ns e σ H)(r:relE K mg X N0 L σ ns e H d t)(q:rs e t=some v):ShR K mg (Oc X ns) H d v:=by
 cases t with
 |val u=>cases q;exact .inl r
 |new u=>cases q;exact .inl r.new
 |bor i=>exact S.bor r q
def relE.drop(r:relE K mg X N0 L σ ns e H d t)(a:Stp ns e H ns' e' H'):relE K mg X N0 L σ ns' e' H' d t.drop:=by
 cases t with
 |val u=>exact Rd.mono a.mov r
 |new u=>exact Rd.mono a.mov r.new
 |bor i=>exact r
def TsR.sh{ds:List V}{ts:List Tm}{vs:List Val}(S:Sat K mg X N0 ns e σ H)(r:TsR K mg X ns σ H ds ts)(q:rss e ts=some vs):ShRs K mg (Oc X ns) H ds vs:=by
 induction r generalizing vs with
 |nil=>cases q;exact .nil
 |
  val r _ ih=>
  unfold rss at q;split at q
  .rename_i e1 e2;cases q;cases e1;exact .cons (.inl r) (ih e2)
  .cases q
 |
  bor q' _ ih=>
  unfold rss at q;split at q
  .rename_i e1 e2;cases q;exact .cons (S.bor q' e1) (ih e2)
  .cases q
end
inductive Bv where
 |val (v:Val) |new (v:Val) |stuck
noncomputable def Bv.at (b:Bv) (e:E3):R3 Tm:=match b with
 |.val v=>.ok (.val v) e
 |.new v=>.ok (.new v) e
 |.stuck=>.stuck
def BvP(K:W.Frag)(mg:Qt)(P:Addr->Prop)(H:Hp)(Q:VK):Bv->Prop
 |.val v=>∀H1 x,Gr H H1->Rd K mg P H1 x v->Q x H1
 |.new v=>∀H1 a o,Gr H H1->H1 a=none->NotFz o->Rc K mg P H1 o v->Q (.ref a) (upd H1 a o)
 |.stuck=>False
section
variable{K:W.Frag}{mg:Qt}{X N0 L:Addr->Prop}{ns:Ns}{e:E3}{σ:St}{H:Hp}{E:XK}{Q:VK}
def PG3.bv(p:PG3 K mg X N0 ns e σ H E (KE K mg X N0 L σ Q) (b.at e))(S:Sat K mg X N0 ns e σ H)(hl:∀a,H a=none->L a):BvP K mg (Oc X ns) H Q b:=by
 cases b with
 |stuck=>exact p
 |val v=>exact λH1 x g r=>p H1 ns (.gr g) (S.gr g) x r
 |
  new v=>
  intro H1 a o g ha hf r;have g2:Gr H (upd H1 a o):=λc u q=>Gr.upd ha c u (g c u q);have S':=S.grow g2 (g.none ha) aY;refine p _ ns (.gr g2) (S.gr g2) _ ⟨a,o,rfl,hl a (g.none ha),λz=>?_,aY,hf,S',r.mono ⟨(Gr.upd ha).le,λc u q z _=>⟨⟨λy=>?_,q.2⟩,Gr.upd ha c u z⟩⟩⟩
  .obtain⟨u,q⟩:=S.xl a z;rw[g.none ha] at q;cases q
  .rcases y with y |rfl
   .exact q.1 y
   .rw[ha] at z;cases z
end
section
variable(K:W.Frag)(mg:Qt)
def UnD(r:V->Hp->VK->Prop)(g:Val->Bv):Prop:=∀P H x v Q,ShR K mg P H x v->BvP K mg P H Q (g v)->r x H Q
def OpD(r:R2)(g:Val->Val->Bv):Prop:=∀P H x y v u Q,ShR K mg P H x v->ShR K mg P H y u->BvP K mg P H Q (g v u)->r x y H Q
def b9(r:List V->Hp->VK->Prop)(g:List Val->Bv):Prop:=∀P H xs vs Q,ShRs K mg P H xs vs->BvP K mg P H Q (g vs)->r xs H Q
end
noncomputable def eJ (i:Nat) (e:E3):R3 Tm:=match e[i]? with
 |some (.sh v)=>.ok (.val v) e
 |some .no=>.stuck
 |some _=>.ok (.bor i) e
 |none=>.stuck
noncomputable def vC (v:Val) (e:E3):R3 Tm:=.ok (.val v) e
noncomputable def vUn (g:Val->Bv) (F:ME3) (e:E3):R3 Tm:=(F e).bind λt e1=>match rs e1 t with
 |some v=>(g v).at e1
 |none=>.stuck
noncomputable def vOp (g:Val->Val->Bv) (F G:ME3) (e:E3):R3 Tm:=(F e).bind λt1 e1=>(G e1).bind λt2 e2=>match rs e2 t1.drop,rs e2 t2 with
 |some v1,some v2=>(g v1 v2).at e2
 |_,_=>.stuck
noncomputable def oH (e:E3):R3 (List Tm):=.ok [] e
noncomputable def m9 (F:ME3) (A:MA3) (e:E3):R3 (List Tm):=(F e).bind λt e1=>(A e1).bind λts e2=>.ok (t.drop::ts) e2
noncomputable def vFn (g:List Val->Bv) (A:MA3) (e:E3):R3 Tm:=(A e).bind λts e1=>match rss e1 ts with
 |some vs=>(g vs).at e1
 |none=>.stuck
noncomputable def cX (e:E3):Tm->Option (E3×Val)
 |.val v=>some (e,v)
 |.new v=>some (e,v)
 |.bor i=>match e[i]? with
  |some (.sh v)=>some (e,v)
  |some (.ow v)=>some (e.set i (.sh v),v)
  |_=>none
noncomputable def dem (e:E3):List Tm->Option (E3×List Val)
 | []=>some (e,[])
 |t::ts=>match cX e t with
  |some (e1,v)=>match dem e1 ts with
   |some (e2,vs)=>some (e2,v::vs)
   |none=>none
  |none=>none
noncomputable def vTup (A:MA3) (e:E3):R3 Tm:=(A e).bind λts e1=>match dem e1 ts with
 |some (e2,vs)=>if vs.length<=16777216 then .ok (.val (.tup vs)) e2 else .stuck
 |none=>.stuck
noncomputable def vLst (A:MA3) (e:E3):R3 Tm:=(A e).bind λts e1=>match dem e1 ts with
 |some (e2,vs)=>if vs.length<=16777216 then .ok (.new (.lst vs)) e2 else .stuck
 |none=>.stuck
noncomputable def bOf:Option Val->Option Bool
 |some (.bl b)=>some b
 |_=>none
noncomputable def vAnd (F G:ME3) (e:E3):R3 Tm:=(F e).bind λt e1=>match bOf (rs e1 t) with
 |some true=>G e1
 |some false=>.ok (.val (.bl false)) e1
 |none=>.stuck
noncomputable def vNot (F:ME3) (e:E3):R3 Tm:=(F e).bind λt e1=>match bOf (rs e1 t) with
 |some b=>.ok (.val (.bl (!b))) e1
 |none=>.stuck
noncomputable def cOf (F:ME3) (e:E3):R3 Bool:=(F e).bind λt e1=>match bOf (rs e1 t) with
 |some b=>.ok b e1
 |none=>.stuck
noncomputable def cAn (c d:MT3) (e:E3):R3 Bool:=(c e).bind λb e1=>if b=true then d e1 else .ok false e1
noncomputable def cO (c d:MT3) (e:E3):R3 Bool:=(c e).bind λb e1=>if b=true then .ok true e1 else d e1
noncomputable def cNo (c:MT3) (e:E3):R3 Bool:=(c e).bind λb e1=>.ok (!b) e1
noncomputable def cY (e:E3):R3 Bool:=.ok true e
noncomputable def nS:Val->Option Bool
 |.non=>some false
 |.bl b=>some b
 |.int i=>some (i != 0)
 |.tup xs=>some (!xs.isEmpty)
 |.lst xs=>some (!xs.isEmpty)
 |.kl xs=>some (!xs.isEmpty)
 |_=>none
noncomputable def cTr (F:ME3) (e:E3):R3 Bool:=(F e).bind λt e1=>match (rs e1 t).bind nS with
 |some b=>.ok b e1
 |none=>.stuck
section
variable{K:W.Frag}{mg:Qt}{X N0 L:Addr->Prop}{ns:Ns}{e:E3}{σ:St}{H:Hp}
def Hx(S:Sat K mg X N0 ns e σ H)(q:e[i]?=some (.ow v)):∃n,σ[i]?=some (some (.ref n))/\Sat K mg X N0 (ns.set i none) (e.set i (.sh v)) σ H/\Stp ns e H (ns.set i none) (e.set i (.sh v)) H/\Rd K mg (Oc X (ns.set i none)) H (.ref n) v:=by
 obtain⟨n,o,q1,q2,_,q3,_,q4⟩:=S.sl i _ q;have hi:=(D_.mp q).1;have hn:i<ns.length:=by rw[S.l2];exact hi
 have r:Rd K mg (Oc X (ns.set i none)) H (.ref n) v:=.cell ⟨S.nx i n q1,λz=>by
  obtain⟨j,z⟩:=aT.mp z;rcases bJ hn z with ⟨_,y⟩ |⟨y,z⟩
  .cases y
  .exact y (S.inj j i n z q1)⟩ q3 (q4.mono (.of λm p=>fY p))
 exact⟨n,q2,S.putN' hi ⟨rfl,_,q2,r⟩,Stp.refl.put (x:=none) hi (λ_ z=>by cases z) q rfl rfl S.l2,r⟩
def fT{d:V}{t:Tm}{v:Val}{e':E3}(S:Sat K mg X N0 ns e σ H)(r:relE K mg X N0 L σ ns e H d t)(q:cX e t=some (e',v)):∃ns',Sat K mg X N0 ns' e' σ H/\Stp ns e H ns' e' H/\Rd K mg (Oc X ns') H d v:=by
 cases t with
 |val u=>cases q;exact⟨ns,S,.refl,r⟩
 |new u=>cases q;exact⟨ns,S,.refl,r.new⟩
 |
  bor i=>
  unfold cX at q;dsimp only at q;have r':σ[i]?=some (some d):=r;split at q
  .rename_i u q1;cases q;obtain⟨_,x,e1,e2⟩:=S.sl i _ q1;rw[r'] at e1;cases e1;exact⟨ns,S,.refl,e2⟩
  .rename_i u q1;cases q;obtain⟨n,e1,S',a',e2⟩:=Hx S q1;rw[r'] at e1;cases e1;exact⟨_,S',a',e2⟩
  .cases q
def jh:∀{ds:List V}{vs:List Val}{ns:Ns}{e e':E3},Sat K mg X N0 ns e σ H->TsR K mg X ns σ H ds ts->dem e ts=some (e',vs)->∃ns',Sat K mg X N0 ns' e' σ H/\Stp ns e H ns' e' H/\Rds K mg (Oc X ns') H ds vs:=by
 induction ts with
 |nil=>intro ds vs ns e e' S r q;cases r;cases q;exact⟨ns,S,.refl,.nil⟩
 |
  cons t ts ih=>
  intro ds vs ns e e' S r q;unfold dem at q;split at q
  .rename_i e1 v q1;split at q
   .rename_i e2 vs' q2;cases q;have hr:∃d ds',ds=d::ds'/\relE K mg X N0 X σ ns e H d t/\TsR K mg X ns σ H ds' ts:=by
     cases r with
     |val r rr=>exact⟨_,_,rfl,r,rr⟩
     |bor r rr=>exact⟨_,_,rfl,r,rr⟩
    obtain⟨d,ds',rfl,hr⟩:=hr;obtain⟨ns1,S1,a1,r1⟩:=fT S hr.1 q1;obtain⟨h_,S2,a2,r2⟩:=ih S1 (hr.2.stp a1) q2;exact⟨h_,S2,a1.trans S a2,.cons (r1.mono a2.mov) r2⟩
   .cases q
  .cases q
end
structure PEx where
 t:Nat
 G:ME3
structure PTs where
 t:Nat
 G:MT3
structure PAs where
 t:Nat
 G:MA3
structure PO2 where
 G:Val->Val->Bv
structure PU1 where
 G:Val->Bv
structure PBf where
 G:List Val->Bv
noncomputable def af (i:Nat):PEx:=⟨1,eJ i⟩
noncomputable def ai (i:Int):PEx:=⟨2,vC (.int i)⟩
noncomputable def pBl (i:Bool):PEx:=⟨3,vC (.bl i)⟩
noncomputable def bH (i:Str):PEx:=⟨4,vC (.str i)⟩
noncomputable def yi:PEx:=⟨5,vC .non⟩
noncomputable def pTy (i:String):PEx:=⟨6,vC (.ty i)⟩
noncomputable def xA (i:Str):PEx:=⟨7,vC (.glb i)⟩
noncomputable def ng (v:Val):PEx:=⟨8,vC v⟩
noncomputable def pUn (o:PU1) (a:PEx):PEx:=⟨9,vUn o.G a.G⟩
noncomputable def pOp (o:PO2) (a b:PEx):PEx:=⟨10,vOp o.G a.G b.G⟩
noncomputable def ag:PAs:=⟨1,oH⟩
noncomputable def aa (a:PEx) (r:PAs):PAs:=⟨2,m9 a.G r.G⟩
noncomputable def pFn (o:PBf) (a:PAs):PEx:=⟨11,vFn o.G a.G⟩
noncomputable def bo (a:PAs):PEx:=⟨12,vTup a.G⟩
noncomputable def dW (a:PAs):PEx:=⟨13,vLst a.G⟩
noncomputable def hU (a b:PEx):PEx:=⟨14,vAnd a.G b.G⟩
noncomputable def ud (a:PEx):PEx:=⟨16,vNot a.G⟩
noncomputable def qOf (a:PEx):PTs:=⟨1,cOf a.G⟩
noncomputable def qTr (a:PEx):PTs:=⟨2,cTr a.G⟩
noncomputable def qAn (a b:PTs):PTs:=⟨3,cAn a.G b.G⟩
noncomputable def qO (a b:PTs):PTs:=⟨4,cO a.G b.G⟩
noncomputable def qNo (a:PTs):PTs:=⟨5,cNo a.G⟩
noncomputable def qY:PTs:=⟨6,cY⟩
section
variable(K:W.Frag)(mg:Qt)(X:Cx)(ES:St->XK)
structure DE(e:Expr)(F:PEx):Prop where
 ok:PE X e (rdE K mg ES F.G)
structure DT(e:Expr)(F:PTs):Prop where
 ok:PT X e (rdT K mg ES F.G)
structure DW(e:Expr)(F:PTs):Prop where
 ok:PW X e (rdT K mg ES F.G)
structure DA(es:List Expr)(F:PAs):Prop where
 ok:PA X es (rdA K mg ES F.G)
end
structure GC(K:W.Frag)(mg:Qt)(x:Str)(d:Val):Prop where
 ex:∃u v,mg x=some u/\RelV v u/\∀P H,Rd K mg P H v d
section
variable{K:W.Frag}{mg:Qt}{X:Cx}{ES:St->XK}{e a b:Expr}{es:List Expr}{F G p q:PEx}{A:PAs}{t u:PTs}{pos:Pos}{k:PO2}
def yM(i:Nat){x:Str}(hN:X.N[i]?=some x:=by rfl)(hv:Vis X.env.scope x:=by first |exact Or.inl rfl |exact Or.inr (Or.inl rfl) |exact Or.inr (Or.inr rfl))(hd:(x==("__debug__" : Str))=false:=by decide)(n_:(x==("__classdict__" : Str))=false:=by decide):DE K mg X ES (.Name x pos) (af i):=
 ⟨PE.imp (Ij hN hv hd n_) λσ H Q zz=>zz.el λY N0 L ns e S hl p=>by
  have p:PG3 K mg Y N0 ns e σ H (ES σ) (KE K mg Y N0 L σ Q) (eJ i e):=p;unfold eJ at p;split at p
  .rename_i v q;obtain⟨_,x,e1,r⟩:=S.sl i _ q;exact⟨x,e1,p.ret S x r⟩
  .exact p.elim
  .rename_i s h1 h2 q;have y:=S.sl i s q;have:∃x,σ[i]?=some (some x):=by
    cases s with
    |no=>exact absurd rfl h2
    |sh v=>exact absurd rfl (h1 v)
    |ow v=>obtain⟨m,_,_,y,_⟩:=y;exact⟨_,y⟩
    |lo v=>obtain⟨m,_,_,y,_⟩:=y;exact⟨_,y⟩
    |mu v=>obtain⟨m,_,_,y,_⟩:=y;exact⟨_,y⟩
    |lm v=>obtain⟨m,_,_,y,_⟩:=y;exact⟨_,y⟩
   obtain⟨x,e1⟩:=this;exact⟨x,e1,p.ret S x e1⟩
  .exact p.elim⟩
def lV{v:V}{d:Val}{tg:Nat}(hp:PE X e (tC v))(r:∀P H,Rd K mg P H v d):DE K mg X ES e ⟨tg,vC d⟩:=⟨PE.imp hp λσ H Q zz=>zz.el λY N0 L ns e S hl p=>PG3.ret p S v (r _ _)⟩
def JG:DE K mg X ES (.Constant (.int i) j pos) (ai i):=lV G6 λ_ _=>.int i
def Ld:DE K mg X ES (.Constant (.bool i) j pos) (pBl i):=lV Lp λ_ _=>.bl i
def GF:DE K mg X ES (.Constant .none j pos) yi:=lV IH λ_ _=>.non
def J8:DE K mg X ES (.Constant (.str x) j pos) (bH x):=lV IC λ_ _=>.str x
def JU{x:Str}(hg:Gl X x)(ha:∃a,mg x=some (.ref a))(hm:X.mg=mg:=by rfl)(hd:(x==("__debug__" : Str))=false:=by decide):DE K mg X ES (.Name x pos) (xA x):=by subst hm;obtain⟨a,ha⟩:=ha;exact lV (wa hg ha (v:=.ref a) rfl hd) λ_ _=>.glb ha
def L7{x:Str}{d:Val}(hg:Gl X x)(ha:GC K mg x d)(hm:X.mg=mg:=by rfl)(hd:(x==("__debug__" : Str))=false:=by decide):DE K mg X ES (.Name x pos) (ng d):=by subst hm;obtain⟨u,v,h1,h2,h3⟩:=ha.ex;exact lV (wa hg h1 h2 hd) h3
def MK{x:Str}{n:String}(hg:Gl X x)(hm:mg x=none)(hv:bootBuiltins x=some (.type n))(he:X.mg=mg:=by rfl)(hn:x ≠ "__name__":=by decide)(hd:(x==("__debug__" : Str))=false:=by decide):DE K mg X ES (.Name x pos) (pTy n):=by subst he;exact lV (EA hg hm hv (v:=.ty n) rfl hn hd) λ_ _=>.ty n
def qJ(hd:OpD K mg r k.G)(σ:St)(H:Hp)(Q:VK):rdE K mg ES (pOp k F G).G σ H Q->tOp r (rdE K mg ES F.G) (rdE K mg ES G.G) σ H Q:=λzz=>zz.el λY N0 L ns e S hl p=>
 ⟨Y,
  N0,L,ns,e,S,hl,PG3.imp p S λt1 e1 ns1 H1 a1 S1 p1 x r1=>⟨Y,N0,L,ns1,e1,S1,λa z=>hl a (a1.dom a z),PG3.imp p1 S1 λt2 e2 h_ H2 a2 S2 p2 y r2=>by
  try dsimp only at p2
  split at p2
  .rename_i v u q1 q2;exact hd _ _ _ _ _ _ _ ((r1.drop a2).sh S2 q1) (r2.sh S2 q2) (p2.bv S2 λa z=>hl a (a1.dom a (a2.dom a z)))
  .exact p2.elim⟩⟩
def KU(ho:OpR X (binaryOp op) r)(hd:OpD K mg r k.G)(ha:DE K mg X ES a p)(hb:DE K mg X ES b q):DE K mg X ES (.BinOp a op b pos) (pOp k p q):=⟨PE.imp (K1 ho ha.ok hb.ok) (qJ hd)⟩
def Mi(hr:IxR X r)(hd:OpD K mg r k.G)(ha:DE K mg X ES a p)(hb:DE K mg X ES b q)(hs:wu b:=by exact λ_ _=>rfl):DE K mg X ES (.Subscript a b pos) (pOp k p q):=⟨PE.imp (Lg hr ha.ok hb.ok hs) (qJ hd)⟩
def J1(ho:OpR X (compareOp op) r)(hd:OpD K mg r k.G)(ha:DE K mg X ES a p)(hb:DE K mg X ES b q)(hm:behindInMarks op b=false:=by first |exact Ao _ |with_unfolding_all rfl):DE K mg X ES (.Compare a [op] [b] pos) (pOp k p q):=⟨PE.imp (Fy ho ha.ok hb.ok hm) (qJ hd)⟩
def mQ{Y N0 L:Addr->Prop}{b:Bool}(S1:Sat K mg Y N0 ns1 e1 σ H1)(r1:relE K mg Y N0 L σ ns1 e1 H1 d1 t1)(q:bOf (rs e1 t1)=some b):d1=.bl b:=by
 unfold bOf at q;split at q
 .rename_i b' q';cases q;exact (r1.sh S1 q').bl
 .cases q
def uR(σ:St)(H:Hp)(Q:Bool->Hp->Prop):rdT K mg ES (qOf F).G σ H Q->rdE K mg ES F.G σ H λx H'=>∃k,x=.bl k/\Q k H':=λzz=>zz.el λY N0 ns e S p=>
 ⟨Y,
  N0,λ_=>True,ns,e,S,λ_ _=>trivial,PG3.imp p S λt1 e1 ns1 H1 a1 S1 p1 x r1=>by
  try dsimp only at p1
  split at p1
  .rename_i b q;exact⟨b,mQ S1 r1 q,p1.ret S1⟩
  .exact p1.elim⟩
def Kr(ho:OpR X (compareOp op) r)(hd:OpD K mg r k.G)(ha:DE K mg X ES a p)(hb:DE K mg X ES b q)(hm:behindInMarks op b=false:=by first |exact Ao _ |with_unfolding_all rfl):DT K mg X ES (.Compare a [op] [b] pos) (qOf (pOp k p q)):=
 ⟨PT.imp (EG ho ha.ok hb.ok hm) λσ H Q z=>qJ hd σ H _ (uR σ H Q z)⟩
def ub(ha:DE K mg X ES a p)(he:∀e_,isTrue a X.env e_=(do let v <- e_;standAt a.pos;holding [v] (truthy v)):=by intro _;rfl):DT K mg X ES a (qOf p):=⟨PT.imp (HJ ha.ok he) λσ H Q z=>uR σ H Q z⟩
def sO(ha:DT K mg X ES a t):DT K mg X ES (.UnaryOp .Not a pos) (qNo t):=⟨PT.imp (Jx ha.ok) λσ H Q zz=>zz.el λY N0 ns e S p=>⟨Y,N0,ns,e,S,PG3.imp p S λb e1 ns1 H1 a1 S1 p1=>p1.ret S1⟩⟩
def EX(ha:DT K mg X ES a t):DW K mg X ES (.BoolOp .And [a] pos) t:=⟨EE ha.ok⟩
def Jh(ha:DT K mg X ES a t):DW K mg X ES (.BoolOp .Or [a] pos) t:=⟨HL ha.ok⟩
def Kv(ha:DT K mg X ES a t)(hb:DW K mg X ES (.BoolOp .And (b::es) pos) u):DW K mg X ES (.BoolOp .And (a::b::es) pos) (qAn t u):=⟨PW.imp (IV ha.ok hb.ok) λσ H Q zz=>zz.el λY N0 ns e S p=>
 ⟨Y,N0,ns,e,S,PG3.imp p S λb e1 ns1 H1 a1 S1 p1=>by
  cases b with
  |true=>exact⟨Y,N0,ns1,e1,S1,p1⟩
  |false=>exact p1.ret S1⟩⟩
def LK(ha:DT K mg X ES a t)(hb:DW K mg X ES (.BoolOp .Or (b::es) pos) u):DW K mg X ES (.BoolOp .Or (a::b::es) pos) (qO t u):=⟨PW.imp (La ha.ok hb.ok) λσ H Q zz=>zz.el λY N0 ns e S p=>
 ⟨Y,N0,ns,e,S,PG3.imp p S λb e1 ns1 H1 a1 S1 p1=>by
  cases b with
  |true=>exact p1.ret S1
  |false=>exact⟨Y,N0,ns1,e1,S1,p1⟩⟩⟩
def ZW.dt(h:DW K mg X ES a t):DT K mg X ES a t:=⟨h.ok.pt⟩
def zt_w{op}(h:DW K mg X ES (.BoolOp op es pos) t):DT K mg X ES (.BoolOp op es pos) t:=ZW.dt h
def Kc{op}(h:DE K mg X ES a p):DE K mg X ES (.BoolOp op [a] pos) p:=⟨JO h.ok⟩
def IZ(ha:DE K mg X ES a p)(hb:DE K mg X ES (.BoolOp .And (b::es) pos) q):DE K mg X ES (.BoolOp .And (a::b::es) pos) (hU p q):=⟨PE.imp (GG ha.ok hb.ok) λσ H Q zz=>zz.el λY N0 L ns e S hl p=>
 ⟨Y,N0,L,ns,e,S,hl,PG3.imp p S λt e1 ns1 H1 a1 S1 p1 x r1=>by
  try dsimp only at p1
  split at p1
  .rename_i z;exact⟨true,mQ S1 r1 z,Y,N0,L,ns1,e1,S1,λa z=>hl a (a1.dom a z),p1⟩
  .rename_i z;exact⟨false,mQ S1 r1 z,p1.ret S1 _ (.bl false)⟩
  .exact p1.elim⟩⟩
def HP(ha:DE K mg X ES a p):DE K mg X ES (.UnaryOp .Not a pos) (ud p):=⟨PE.imp (G1 ha.ok) λσ H Q zz=>zz.el λY N0 L ns e S hl p=>
 ⟨Y,N0,L,ns,e,S,hl,PG3.imp p S λt e1 ns1 H1 a1 S1 p1 x r1=>by
  try dsimp only at p1
  split at p1
  .rename_i z;exact⟨_,mQ S1 r1 z,p1.ret S1 _ (.bl _)⟩
  .exact p1.elim⟩⟩
def Ni{k:PU1}(ho:UnR X (unaryOp op) r)(hd:UnD K mg r k.G)(ha:DE K mg X ES a p):DE K mg X ES (.UnaryOp op a pos) (pUn k p):=⟨PE.imp (M1 ho ha.ok) λσ H Q zz=>zz.el λY N0 L ns e S hl p=>
 ⟨Y,N0,L,ns,e,S,hl,PG3.imp p S λt e1 ns1 H1 a1 S1 p1 x r1=>by
  try dsimp only at p1
  split at p1
  .rename_i v z;exact hd _ _ _ _ _ (r1.sh S1 z) (p1.bv S1 λa z=>hl a (a1.dom a z))
  .exact p1.elim⟩⟩
def zK:DA K mg X ES [] ag:=⟨PA.imp JK λσ H Q zz=>zz.el λY N0 ns e S p=>PG3.ret p S _ .nil⟩
def bE(ha:DE K mg X ES e p)(hr:DA K mg X ES es A)(hs:starEach (e::es) X.env=(false,eval e X.env)::starEach es X.env:=by rfl):DA K mg X ES (e::es) (aa p A):=⟨PA.imp (FQ ha.ok hr.ok hs) λσ H Q zz=>zz.el λY N0 ns e S p=>
 ⟨Y,N0,λ_=>True,ns,e,S,λ_ _=>trivial,PG3.imp p S λt e1 ns1 H1 a1 S1 p1 x r1=>⟨Y,N0,ns1,e1,S1,PG3.imp p1 S1 λts e2 h_ H2 a2 S2 p2 xs r2=>p2.ret S2 _ (by
  have r3:=r1.drop a2;generalize hg:t.drop=t' at *;cases t' with
  |val v=>exact .val r3 r2
  |new v=>cases t <;> cases hg
  |bor i=>exact .bor r3 r2)⟩⟩⟩
def JE{x1}(h:DA K mg X ES es A):DE K mg X ES (.Tuple es x1 pos) (bo A):=⟨PE.imp (J5 h.ok) λσ H Q zz=>zz.el λY N0 L ns e S hl p=>
 ⟨Y,
  N0,ns,e,S,PG3.imp p S λts e1 ns1 H1 a1 S1 p1 xs r1=>by
  try dsimp only at p1
  split at p1
  .rename_i e2 vs q;split at p1
   .rename_i hv;obtain⟨h_,S2,a2,r2⟩:=jh S1 r1 q;exact⟨by rw[r2.len];exact hv,λp hp=>p1 _ h_ (a2.trans S1 (.gr (Gr.upd hp))) (S2.gr (Gr.upd hp)) _ (.tup (SqT.of aY) (r2.mono (Gr.upd hp).mov))⟩
   .exact p1.elim
  .exact p1.elim⟩⟩
def Jg(h:DA K mg X ES es A):DE K mg X ES (.List es pos) (dW A):=⟨PE.imp (Jt h.ok) λσ H Q zz=>zz.el λY N0 L ns e S hl p=>
 ⟨Y,
  N0,ns,e,S,PG3.imp p S λts e1 ns1 H1 a1 S1 p1 xs r1=>by
  try dsimp only at p1
  split at p1
  .rename_i e2 vs q;split at p1
   .rename_i hv;obtain⟨h_,S2,a2,r2⟩:=jh S1 r1 q;refine⟨by rw[r2.len];exact hv,λp hp=>PG3.bv (b:=.new (.lst vs)) (e:=e2) (X:=Y) (N0:=N0) (L:=L) (E:=ES σ) (λH' ns' a' S'=>p1 H' ns' (a2.trans S1 a') S') S2 (λa z=>hl a (a1.dom a z)) H1 p _ .refl hp trivial (.lst r2)⟩
   .exact p1.elim
  .exact p1.elim⟩⟩
def qt{g:PBf}(hd:b9 K mg r g.G)(σ:St)(H:Hp)(Q:VK):rdE K mg ES (pFn g A).G σ H Q->tCB r (rdA K mg ES A.G) σ H Q:=λzz=>zz.el λY N0 L ns e S hl p=>
 ⟨Y,
  N0,ns,e,S,PG3.imp p S λts e1 ns1 H1 a1 S1 p1 xs r1=>by
  try dsimp only at p1
  split at p1
  .rename_i vs q;exact hd _ _ _ _ _ (r1.sh S1 q) (p1.bv S1 λa z=>hl a (a1.dom a z))
  .exact p1.elim⟩
def ia{id:String}{r:List V->Hp->VK->Prop}{k:PBf}{x:Str}{p0:Pos}(hc:CallR X (.builtin id) r)(hd:b9 K mg r k.G)(hg:Gl X x)(hm:mg x=none)(hv:bootBuiltins x=some (.builtin id))(ha:DA K mg X ES (e::es) A)(hk:X.mg=mg:=by rfl)(hn:x ≠ "__name__":=by decide)(hdb:(x==("__debug__" : Str))=false:=by decide)
 (he:starEach (e::es) X.env=(false,eval e X.env)::starEach es X.env:=by rfl) (hpl:(backTo pos (starEach es X.env)).any (·.1)=false:=by rfl):DE K mg X ES (.Call (.Name x p0) (e::es) [] pos) (pFn k A):=by
 subst hk;exact⟨PE.imp (Dq hc hg hm hv ha.ok hn hdb he hpl) (qt hd)⟩
def yI{id:String}{r:List V->Hp->VK->Prop}{k:PBf}{x:Str}{p0:Pos}(hc:CallR X (.type id) r)(hd:b9 K mg r k.G)(hg:Gl X x)(hm:mg x=none)(hv:bootBuiltins x=some (.type id))(ha:DA K mg X ES (e::es) A)(hk:X.mg=mg:=by rfl)(hn:x ≠ "__name__":=by decide)(hdb:(x==("__debug__" : Str))=false:=by decide)
 (he:starEach (e::es) X.env=(false,eval e X.env)::starEach es X.env:=by rfl) (hpl:(backTo pos (starEach es X.env)).any (·.1)=false:=by rfl):DE K mg X ES (.Call (.Name x p0) (e::es) [] pos) (pFn k A):=by
 subst hk;exact⟨PE.imp (yF hc hg hm hv ha.ok hn hdb he hpl) (qt hd)⟩
end
inductive Rt where
 |val (v:Val) |new (v:Val) |par (i:Nat) |pr (v u:Val)
inductive SR3 where
 |nx (e:E3) |rt (r:Rt) (e:E3) |bk (e:E3) |ct (e:E3) |exc (c:Str) (e:E3) |stuck
abbrev MS3:=E3->SR3
section
variable(K:W.Frag)(mg:Qt)
def RtR(X N0:Addr->Prop)(ns:Ns)(e:E3)(σ:St)(H:Hp)(d:V):Rt->Prop
 |.val v=>Sat K mg X N0 ns e σ H/\Rd K mg (Oc X ns) H d v
 |.new v=>∃n o,d=.ref n/\N0 n/\¬ X n/\H n=some o/\NotFz o/\Sat K mg (Xn X n) N0 ns e σ H/\Rc K mg (Oc (Xn X n) ns) H o v
 |.par i=>Sat K mg X N0 ns e σ H/\σ[i]?=some (some d)/\∃v,e[i]?=some (.mu v)
 |.pr v u=>∃p d1 n o,d=.ref p/\SqT K H p [d1,.ref n]/\N0 n/\¬ X n/\H n=some o/\NotFz o/\Sat K mg (Xn X n) N0 ns e σ H/\Rd K mg (Oc (Xn X n) ns) H d1 v/\Rc K mg (Oc (Xn X n) ns) H o u
def PS3(X N0:Addr->Prop)(ns:Ns)(e:E3)(H:Hp)(D:Ends)(ES:St->XK):SR3->Prop
 |.nx e'=>∀H' σ' ns',Stp ns e H ns' e' H'->Sat K mg X N0 ns' e' σ' H'->D.nx σ' H'
 |.bk e'=>∀H' σ' ns',Stp ns e H ns' e' H'->Sat K mg X N0 ns' e' σ' H'->D.bk σ' H'
 |.ct e'=>∀H' σ' ns',Stp ns e H ns' e' H'->Sat K mg X N0 ns' e' σ' H'->D.ct σ' H'
 |.rt r e'=>∀H' σ' ns' x,Stp ns e H ns' e' H'->RtR K mg X N0 ns' e' σ' H' x r->D.rt x H'
 |.exc c e'=>∀H' σ' ns' C,Stp ns e H ns' e' H'->Sat K mg X N0 ns' e' σ' H'->mg c=some (.ref C)->ES σ' (.ref C) none H'
 |.stuck=>False
def rdS(ES:St->XK)(G:MS3):TS:=λD σ H=>∃X N0 ns e,Sat K mg X N0 ns e σ H/\PS3 K mg X N0 ns e H D ES (G e)
end
def rdS.el{K:W.Frag}{mg:Qt}{ES:St->XK}{σ:St}{H:Hp}{Z:Prop}{G:MS3}{D:Ends}(h:rdS K mg ES G D σ H)(k:∀X N0 ns e,Sat K mg X N0 ns e σ H->PS3 K mg X N0 ns e H D ES (G e)->Z):Z:=by obtain⟨X,N0,ns,e,S,p⟩:=h;exact k X N0 ns e S p
noncomputable def R3.toS {α:Type} (r:R3 α) (f:α->E3->SR3):SR3:=match r with
 |.ok a e=>f a e
 |.exc c e=>.exc c e
 |.stuck=>.stuck
noncomputable def SR3.then (r:SR3) (f:E3->SR3):SR3:=match r with
 |.nx e=>f e
 |r=>r
noncomputable def wSeq (F G:MS3) (e:E3):SR3:=(F e).then G
noncomputable def wIf (c:MT3) (F G:MS3) (e:E3):SR3:=(c e).toS λb e1=>if b=true then F e1 else G e1
noncomputable def om (t:Tm) (e:E3):SR3:=match t with
 |.val v=>.rt (.val v) e
 |.new v=>.rt (.new v) e
 |.bor i=>match e[i]? with
  |some (.sh v)=>.rt (.val v) e
  |some (.ow v)=>.rt (.new v) (e.set i .no)
  |some (.mu _)=>.rt (.par i) e
  |_=>.stuck
noncomputable def jD (o:Bool) (i:Nat) (t:Tm) (e:E3):SR3:=match e[i]? with
 |some s0=>if s0.pl=true then (match t with
  |.val v=>.nx (e.set i (.sh v))
  |.new v=>.nx (e.set i (if o=true then .ow v else .sh v))
  |.bor j=>match cX e (.bor j) with
   |some (e2,v)=>.nx (e2.set i (.sh v))
   |none=>.stuck) else .stuck
 |none=>.stuck
abbrev MG3:=Val->E3->Option E3
abbrev j6:=List Val->E3->Option E3
noncomputable def pN (i:Nat):MG3:=λv e=>match e[i]? with
 |some s=>if s.pl=true then some (e.set i (.sh v)) else none
 |none=>none
noncomputable def psN:j6:=λvs e=>match vs with
 | []=>some e
 |_=>none
noncomputable def psC (g:MG3) (u:j6):j6:=λvs e=>match vs with
 |v::r=>(g v e).bind λe1=>u r e1
 | []=>none
noncomputable def pT (n:Nat) (u:j6):MG3:=λv e=>match v with
 |.tup vs=>if vs.length=n then u vs e else none
 |_=>none
noncomputable def Lo (F:ME3) (g:MG3) (e:E3):SR3:=(F e).toS λt e1=>match cX e1 t with
 |some (e2,v)=>match g v e2 with
  |some e3=>.nx e3
  |none=>.stuck
 |none=>.stuck
noncomputable def wPar (i j:Nat) (A:MA3) (e:E3):SR3:=(A e).toS λts e1=>match dem e1 ts with
 |some (e2,[v,u])=>match (pN i v e2).bind (pN j u) with
  |some e3=>.nx e3
  |none=>.stuck
 |_=>.stuck
noncomputable def C5 (i:Nat) (g:Val->Val->Bv) (F:ME3) (e:E3):SR3:=match e[i]? with
 |some (.sh x)=>(F e).toS λt e1=>match rs e1 t with
  |some y=>match g x y with
   |.val z=>match pN i z e1 with
    |some e2=>.nx e2
    |none=>.stuck
   |_=>.stuck
  |none=>.stuck
 |_=>.stuck
noncomputable def JL (c:Str) (A:MA3) (e:E3):SR3:=(A e).toS λts e1=>if ts.length<=16777216 then .exc c e1 else .stuck
structure PSt where
 t:Nat
 G:MS3
structure PGt where
 t:Nat
 G:MG3
structure PGs where
 t:Nat
 G:j6
noncomputable def xNx:PSt:=⟨1,.nx⟩
noncomputable def xBk:PSt:=⟨2,.bk⟩
noncomputable def xB:PSt:=⟨4,.rt (.val .non)⟩
noncomputable def ak (a:PEx):PSt:=⟨5,λe=>(a.G e).toS om⟩
noncomputable def aK (a:PEx):PSt:=⟨6,λe=>(a.G e).toS λ_ e1=>.nx e1⟩
noncomputable def aj (a b:PSt):PSt:=⟨7,wSeq a.G b.G⟩
noncomputable def xIf (c:PTs) (a b:PSt):PSt:=⟨8,wIf c.G a.G b.G⟩
noncomputable def aw (o:Bool) (i:Nat) (a:PEx):PSt:=⟨9,λe=>(a.G e).toS (jD o i)⟩
noncomputable def gtN (i:Nat):PGt:=⟨1,pN i⟩
noncomputable def bI:PGs:=⟨1,psN⟩
noncomputable def ay (a:PGt) (b:PGs):PGs:=⟨2,psC a.G b.G⟩
noncomputable def gtT (n:Nat) (a:PGs):PGt:=⟨2,pT n a.G⟩
noncomputable def eX (a:PEx) (g:PGt):PSt:=⟨10,Lo a.G g.G⟩
noncomputable def gF (i j:Nat) (a:PAs):PSt:=⟨11,wPar i j a.G⟩
noncomputable def rh (i:Nat) (o:PO2) (a:PEx):PSt:=⟨12,C5 i o.G a.G⟩
noncomputable def eN (c:Str) (a:PAs):PSt:=⟨13,JL c a.G⟩
noncomputable def xNo:PSt:=⟨14,λ_=>.stuck⟩
section
variable{K:W.Frag}{mg:Qt}{X N0:Addr->Prop}{ns ns1:Ns}{e e1:E3}{σ:St}{H H1:Hp}{De:Ends}{ES:St->XK}
def PS3.after(p:PS3 K mg X N0 ns e H De ES r)(S:Sat K mg X N0 ns e σ H)(a:Stp ns e H ns1 e1 H1):PS3 K mg X N0 ns1 e1 H1 De ES r:=by
 cases r with
 |stuck=>exact p
 |nx e'=>exact λH' σ' ns' b S'=>p H' σ' ns' (a.trans S b) S'
 |bk e'=>exact λH' σ' ns' b S'=>p H' σ' ns' (a.trans S b) S'
 |ct e'=>exact λH' σ' ns' b S'=>p H' σ' ns' (a.trans S b) S'
 |exc c e'=>exact λH' σ' ns' C b S'=>p H' σ' ns' C (a.trans S b) S'
 |rt r e'=>exact λH' σ' ns' x b S'=>p H' σ' ns' x (a.trans S b) S'
def PS3.toS{α:Type}{r:R3 α}{f:α->E3->SR3}{k:α->E3->Ns->Hp->Prop}(p:PS3 K mg X N0 ns e H De ES (r.toS f))(S:Sat K mg X N0 ns e σ H)
 (i:∀t e1 ns1 H1,Stp ns e H ns1 e1 H1->Sat K mg X N0 ns1 e1 σ H1->PS3 K mg X N0 ns e H De ES (f t e1)->k t e1 ns1 H1):PG3 K mg X N0 ns e σ H (ES σ) k r:=by
 cases r with
 |stuck=>exact p
 |exc c e'=>exact λH' ns' C a S' m=>p H' σ ns' C a S' m
 |ok t e'=>exact λH' ns' a S'=>i t e' ns' H' a S' p
def PS3.then{r:SR3}{f:E3->SR3}{N:St->Hp->Prop}(p:PS3 K mg X N0 ns e H De ES (r.then f))(S:Sat K mg X N0 ns e σ H)
 (i:∀e1 ns1 σ1 H1,Stp ns e H ns1 e1 H1->Sat K mg X N0 ns1 e1 σ1 H1->PS3 K mg X N0 ns1 e1 H1 De ES (f e1)->N σ1 H1):PS3 K mg X N0 ns e H { De with nx:=N } ES r:=by
 cases r with
 |nx e'=>exact λH' σ' ns' a S'=>i e' ns' σ' H' a S' (PS3.after p S a)
 |stuck=>exact p
 |bk e'=>exact p
 |ct e'=>exact p
 |exc c e'=>exact p
 |rt r e'=>exact p
def PS3.nx(p:PS3 K mg X N0 ns e H De ES (.nx e))(S:Sat K mg X N0 ns e σ H):De.nx σ H:=p H σ ns .refl S
def nG{d:V}{v:Val}{e':E3}(S:Sat K mg X N0 ns e σ H)(r:Rd K mg (Oc X ns) H d v)(q:pN i v e=some e'):Sat K mg X N0 (ns.set i none) e' (σ.set i (some d)) H/\Stp ns e H (ns.set i none) e' H:=by
 unfold pN at q;split at q
 .rename_i s q0;split at q
  .rename_i p0;cases q;have hi:=(D_.mp q0).1;exact⟨S.putN hi ⟨rfl,d,rfl,Rd.mono (.of λm p=>fY p) r⟩,Stp.refl.put (x:=none) (s:=.sh v) hi (λ_ z=>by cases z) q0 p0 rfl S.l2⟩
  .cases q
 .cases q
end
section
variable(K:W.Frag)(mg:Qt)(X:Cx)(ES:St->XK)
structure DS(st:Stmt)(F:PSt):Prop where
 ok:PS X st (rdS K mg ES F.G)
structure DSs(st:List Stmt)(F:PSt):Prop where
 ok:PSs X st (rdS K mg ES F.G)
def rdG(g:MG3):TG:=λv σ H Q=>∃Y N0 ns e u e',Sat K mg Y N0 ns e σ H/\Rd K mg (Oc Y ns) H v u/\g u e=some e'/\∀σ' ns',Stp ns e H ns' e' H->Sat K mg Y N0 ns' e' σ' H->Q σ' H
def rdGs(g:j6):TGs:=λvs σ H Q=>∃Y N0 ns e us e',Sat K mg Y N0 ns e σ H/\Rds K mg (Oc Y ns) H vs us/\g us e=some e'/\∀σ' ns',Stp ns e H ns' e' H->Sat K mg Y N0 ns' e' σ' H->Q σ' H
def rdG.el{K:W.Frag}{mg:Qt}{g:MG3}(h:rdG K mg g v σ H Q){Z:Prop}(k:∀Y N0 ns e u e',Sat K mg Y N0 ns e σ H->Rd K mg (Oc Y ns) H v u->g u e=some e'->(∀σ' ns',Stp ns e H ns' e' H->Sat K mg Y N0 ns' e' σ' H->Q σ' H)->Z):Z:=by obtain⟨Y,N0,ns,e,u,e',S,r,q,p⟩:=h;exact k Y N0 ns e u e' S r q p
def rdGs.el{K:W.Frag}{mg:Qt}{g:j6}(h:rdGs K mg g v σ H Q){Z:Prop}(k:∀Y N0 ns e us e',Sat K mg Y N0 ns e σ H->Rds K mg (Oc Y ns) H v us->g us e=some e'->(∀σ' ns',Stp ns e H ns' e' H->Sat K mg Y N0 ns' e' σ' H->Q σ' H)->Z):Z:=by obtain⟨Y,N0,ns,e,u,e',S,r,q,p⟩:=h;exact k Y N0 ns e u e' S r q p
structure DG(e:Expr)(g:PGt):Prop where
 ok:PG X e (rdG K mg g.G)
structure DGs(es:List Expr)(g:PGs):Prop where
 ok:L2.PGs X es (rdGs K mg g.G)
def mV:Prop:=∀(pins:Qu) (σ:St) (H:Hp) (s:Shared) (e:Value) (s':Shared),Inv X pins σ H s->CX1 X.prog X.w X.stack H s (ES σ) e s'->X.xe e s'
end
section
variable{K:W.Frag}{mg:Qt}{X:Cx}{ES:St->XK}{e a b c o i:Expr}{es:List Expr}{st:Stmt}{sts sts':List Stmt}{p q:PEx}{A:PAs}{t:PTs}{x y:PSt}{g:PGt}{gs:PGs}{pos:Pos}
def Fe:DSs K mg X ES [] xNx:=⟨PSs.imp FL λD σ H zz=>zz.el λY N0 ns e S p=>PS3.nx p S⟩
def dJ(h1:DS K mg X ES st x):DSs K mg X ES [st] x:=⟨Fw h1.ok⟩
def az(h1:DS K mg X ES st x)(h2:DSs K mg X ES sts y):DSs K mg X ES (st::sts) (aj x y):=⟨PSs.imp (CD h1.ok h2.ok) λD σ H zz=>zz.el λY N0 ns e S p=>
 ⟨Y,N0,ns,e,S,PS3.then p S λe1 ns1 σ1 H1 a1 S1 p1=>⟨Y,N0,ns1,e1,S1,p1⟩⟩⟩
def B7:DS K mg X ES (.Break pos) xBk:=⟨PS.imp AY λD σ H zz=>zz.el λY N0 ns e S p=>p H σ ns .refl S⟩
def Fz:DS K mg X ES (.Return none pos) xB:=⟨PS.imp E9 λD σ H zz=>zz.el λY N0 ns e S p=>p H σ ns _ .refl ⟨S,.non⟩⟩
def Fi(he:DE K mg X ES e p)(hs:swapsWith e none pos.line X.env=pure false:=by rfl):DS K mg X ES (.Expr e pos) (aK p):=⟨PS.imp (Ex he.ok hs) λD σ H zz=>zz.el λY N0 ns e S p=>
 ⟨Y,N0,λ_=>True,ns,e,S,λ_ _=>trivial,PS3.toS p S λt e1 ns1 H1 a1 S1 p1 x r1=>p1 H1 σ ns1 a1 S1⟩⟩
def qN(hc:DT K mg X ES c t)(ha:DSs K mg X ES sts x)(hb:DSs K mg X ES sts' y):DS K mg X ES (.If c sts sts' pos) (xIf t x y):=⟨PS.imp (LO hc.ok ha.ok hb.ok) λD σ H zz=>zz.el λY N0 ns e S p=>
 ⟨Y,N0,ns,e,S,PS3.toS p S λb e1 ns1 H1 a1 S1 p1=>by
  cases b with
  |true=>exact⟨Y,N0,ns1,e1,S1,PS3.after p1 S a1⟩
  |false=>exact⟨Y,N0,ns1,e1,S1,PS3.after p1 S a1⟩⟩⟩
def eQ(he:DE K mg X ES e p):DS K mg X ES (.Return (some e) pos) (ak p):=⟨PS.imp (Kf he.ok) λD σ H zz=>zz.el λY N0 ns e S p=>
 ⟨Y,
  N0,N0,ns,e,S,S.lh,PS3.toS p S λt e1 ns1 H1 a1 S1 p1 x r1=>by
  cases t with
  |val v=>exact p1 H1 σ ns1 x a1 ⟨S1,r1⟩
  |new v=>exact p1 H1 σ ns1 x a1 r1
  |
   bor i=>
   have r':σ[i]?=some (some x):=r1;unfold om at p1;try dsimp only at p1
   split at p1
   .rename_i v q;obtain⟨_,x',e1',e2⟩:=S1.sl i _ q;rw[r'] at e1';cases e1';exact p1 H1 σ ns1 x a1 ⟨S1,e2⟩
   .rename_i v q;obtain⟨n,o,q1,q2,q3,q4,q5,q6⟩:=S1.sl i _ q;rw[r'] at q2;cases q2;have hi:=(D_.mp q).1;have hn:i<ns1.length:=by rw[S1.l2];exact hi
    have mv:Mov (Oc Y ns1) (Oc (Xn Y n) (ns1.set i none)) H1 H1:=.of λm p=>⟨λz=>by
     rcases z with z |rfl
     .exact p.1 z
     .exact p.2 (aT.mpr ⟨i,q1⟩),(fY p).2⟩
    have S2:=S1.putN' hi (s:=.no) rfl;refine p1 H1 σ (ns1.set i none) _ (a1.put (x:=none) hi (λ_ z=>by cases z) q rfl rfl S1.l2) ⟨n,o,rfl,q3,S1.nx i n q1,q4,q5,⟨S2.l1,S2.l2,S2.lh,λm z=>?_,S2.inj,λj m qj z=>?_,λj s qj=>?_,S2.bs⟩,q6.mono mv⟩
    .rcases z with z |rfl
     .exact S2.xl m z
     .exact⟨_,q4⟩
    .rcases z with z |rfl
     .exact S2.nx j m qj z
     .rcases bJ hn qj with ⟨_,y⟩ |⟨y,z⟩
      .cases y
      .exact y (S1.inj j i _ z q1)
    .rcases bJ hi qj with ⟨rfl,rfl⟩ |⟨z,qj'⟩
     .rw[cW hn];rfl
     .rw[cE z];exact (S1.sl j s qj').mono mv λ_ _ _ q _=>q
   .rename_i v q;exact p1 H1 σ ns1 x a1 ⟨S1,r',v,q⟩
   .exact p1.elim⟩⟩
def zd{ow:Bool}{i:Nat}(D:Ends)(σ:St)(H:Hp):rdS K mg ES (aw ow i p).G D σ H->wD (rdE K mg ES p.G) (qQ i) D σ H:=λzz=>zz.el λY N0 ns e S p=>
 ⟨Y,
  N0,λa=>H a=none,ns,e,S,λ_ z=>z,PS3.toS p S λt e1 ns1 H1 a1 S1 p1 d r1=>by
  unfold jD at p1;split at p1
  .rename_i s0 q0;split at p1
   .rename_i p0;have hi:=(D_.mp q0).1;cases t with
    |val v=>exact p1 H1 _ _ (a1.put (x:=none) (s:=.sh v) hi (λ_ z=>by cases z) q0 p0 rfl S1.l2) (S1.putN hi ⟨rfl,d,rfl,Rd.mono (.of λm p=>fY p) r1⟩)
    |
     new v=>
     cases ow with
     |true=>obtain⟨n,ob,rfl,q1,q2,q3,q4,q5,q6⟩:=r1;exact p1 H1 _ _ (a1.put (x:=some n) (s:=.ow v) hi (λm z=>by cases z;exact q1) q0 p0 rfl S1.l2) (Sat.putO q5 q2 hi (S.lh n q1) q3 q4 q6)
     |false=>exact p1 H1 _ _ (a1.put (x:=none) (s:=.sh v) hi (λ_ z=>by cases z) q0 p0 rfl S1.l2) (S1.putN hi ⟨rfl,d,rfl,Rd.mono (.of λm p=>fY p) r1.new⟩)
    |
     bor j=>
     try dsimp only at p1
     split at p1
     .rename_i e2 v q2;obtain⟨h_,S2,a2,r2⟩:=fT S1 r1 q2;have hq:∃s2,e2[i]?=some s2/\s2.pl=true:=by
       unfold cX at q2;dsimp only at q2;split at q2
       .cases q2;exact⟨s0,q0,p0⟩
       .rename_i u q3;cases q2;by_cases z:i=j
        .subst z;exact⟨_,cW hi,rfl⟩
        .exact⟨s0,by rw[cE z];exact q0,p0⟩
       .cases q2
      obtain⟨s2,hq1,hq2⟩:=hq;have hi2:=(D_.mp hq1).1;exact p1 H1 _ _ ((a1.trans S a2).put (x:=none) (s:=.sh v) hi2 (λ_ z=>by cases z) hq1 hq2 rfl S2.l2) (S2.putN hi2 ⟨rfl,d,rfl,Rd.mono (.of λm p=>fY p) r2⟩)
     .exact p1.elim
   .exact p1.elim
  .exact p1.elim⟩
def II{ow:Bool}{i:Nat}{x:Str}{k_:Pos}(hN:X.N.Nodup)(hi:X.N[i]?=some x)(hx:Loc X.env.scope x)(he:DE K mg X ES e p)(hs:swapsWith e (some (.Name x k_)) pos.line X.env=pure false)(hf:X.fn x=true\/X.env.scope.names.lookup x=some .local):
 DS K mg X ES (.Assign [.Name x k_] e pos) (aw ow i p):=⟨PS.imp (Ku hN hi hx he.ok hs hf) zd⟩
def FU{i:Nat}{x:Str}(hN:X.N.Nodup)(hi:X.N[i]?=some x)(hx:Loc X.env.scope x)(hf:X.fn x=true\/X.env.scope.names.lookup x=some .local):DG K mg X (.Name x pos) (gtN i):=
 ⟨PG.imp (EF hN hi hx hf) λv σ H Q zz=>zz.el λY N0 ns e u e' S r q k=>by obtain⟨S',a⟩:=nG S r q;exact k _ _ a S'⟩
def FY:DGs K mg X [] bI:=⟨PGs.imp Fb λvs σ H Q zz=>zz.el λY N0 ns e us e' S r q k=>by
 cases r with
 |nil=>cases q;exact⟨rfl,k _ _ .refl S⟩
 |cons _ _=>cases q⟩
def CQ(h1:DG K mg X e g)(h2:DGs K mg X es gs)(hs:(assignEach (e::es) X.env).map (·.2)=assign e X.env::(assignEach es X.env).map (·.2):=by rfl):DGs K mg X (e::es) (ay g gs):=
 ⟨PGs.imp (BV h1.ok h2.ok hs) λvs σ H Q zz=>zz.el λY N0 ns e us e' S r q k=>by
  cases r with
  |nil=>cases q
  |cons r rr=>obtain⟨e1,q1,q2⟩:=NF.mp q;exact⟨_,_,rfl,Y,N0,ns,e,_,e1,S,r,q1,λσ1 ns1 a1 S1=>⟨Y,N0,ns1,e1,_,e',S1,rr.mono a1.mov,q2,λσ2 h_ a2 S2=>k σ2 h_ (a1.trans S a2) S2⟩⟩⟩
def Hq(hK:X.K=K)(hc:X.calm=true)(h:DGs K mg X es gs)(hn:(assignEach es X.env).length=n:=by rfl)(hst:(assignEach es X.env).findIdx? (·.1)=none:=by rfl):DG K mg X (.Tuple es k pos) (gtT n gs):=by
 subst hK;exact
  ⟨PG.imp (zk hc h.ok hn hst) λv σ H Q zz=>zz.el λY N0 ns e u e' S r q k=>by
  have q:pT n gs.G u e=some e':=q;unfold pT at q;split at q
  .split at q
   .rename_i hl;obtain⟨a,vs,rfl,z,rr⟩:=ShR.tup (.inl r);exact⟨a,vs,rfl,z,by rw[rr.len];exact hl,Y,N0,ns,e,_,e',S,rr,q,k⟩
   .cases q
  .cases q⟩
def FJ(he:DE K mg X ES e p)(hg:DG K mg X a g)(hs:swapsWithSole [a] e pos.line X.env=pure false:=by rfl)(hw:swappedStores [a] e X.env=pure none:=by rfl)(h1:(assignEach [a] X.env).map (·.2)=[assign a X.env]:=by rfl):DS K mg X ES (.Assign [a] e pos) (eX p g):=
 ⟨PS.imp (zH he.ok hg.ok hs hw h1) λD σ H zz=>zz.el λY N0 ns e S p=>⟨Y,N0,λ_=>True,ns,e,S,λ_ _=>trivial,PS3.toS p S λt e1 ns1 H1 a1 S1 p1 x r1=>by
  try dsimp only at p1
  split at p1
  .rename_i e2 v q;obtain⟨h_,S2,a2,r2⟩:=fT S1 r1 q;split at p1
   .rename_i e3 q3;exact⟨Y,N0,h_,e2,v,e3,S2,r2,q3,λσ' ns' a3 S3=>p1 H1 σ' ns' ((a1.trans S a2).trans S a3) S3⟩
   .exact p1.elim
  .exact p1.elim⟩⟩
def HA{i j:Nat}{x y:Str}{px py pt:Pos}{kt k2 pt2}(hN:X.N.Nodup)(ha:DA K mg X ES [a,b] A)(hc:X.calm=true:=by rfl)(hi:X.N[i]?=some x:=by rfl)(hj:X.N[j]?=some y:=by rfl)(hij:i≠j:=by decide)(hx:X.env.scope.names.lookup x=some .local:=by rfl)(hy:X.env.scope.names.lookup y=some .local:=by rfl)(hw:swappedStores [.Tuple [.Name x px,.Name y py] kt pt] (.Tuple [a,b] k2 pt2) X.env=pure (some [x,y]):=by rfl)(hs:swapsWithSole [.Tuple [.Name x px,.Name y py] kt pt] (.Tuple [a,b] k2 pt2) pos.line X.env=pure false:=by rfl):DS K mg X ES (.Assign [.Tuple [.Name x px,.Name y py] kt pt] (.Tuple [a,b] k2 pt2) pos) (gF i j A):=
 ⟨PS.imp
  (GU hc hN hi hj hij hx hy ha.ok hw hs) λD σ H zz=>zz.el λY N0 ns e S p=>⟨Y,N0,ns,e,S,PS3.toS p S λts e1 ns1 H1 a1 S1 p1 xs r1=>by
  try dsimp only at p1
  split at p1
  .rename_i e2 v u q;obtain⟨h_,S2,a2,r2⟩:=jh S1 r1 q;split at p1
   .rename_i e3 q3;obtain⟨e4,q4,q5⟩:=NF.mp q3;cases r2 with
    |
     cons r rr=>
     cases rr with
     |cons r' rr=>cases rr;obtain⟨S3,a3⟩:=nG S2 r q4;obtain⟨S4,a4⟩:=nG S3 (r'.mono a3.mov) q5;exact⟨_,_,rfl,p1 H1 _ _ (((a1.trans S a2).trans S a3).trans S a4) S4⟩
   .exact p1.elim
  .exact p1.elim⟩⟩
def IpD(K:W.Frag)(mg:Qt)(r:TIp)(g:Val->Val->Bv):Prop:=∀P H x y v u Q,ShR K mg P H x v->ShR K mg P H y u->BvP K mg P H Q (g v u)->r x y H Q
def J2{i:Nat}{x:Str}{op:Operator}{ti:TIp}{k_:Pos}{k:PO2}(hN:X.N.Nodup)(he:DE K mg X ES e p)(ho:PIp X op ti)(hd:IpD K mg ti k.G)(hi:X.N[i]?=some x:=by rfl)(hx:Loc X.env.scope x:=by first |exact Or.inl rfl |exact Or.inr rfl)(hf:X.fn x=true\/X.env.scope.names.lookup x=some .local:=by first |exact .inl rfl |exact .inr rfl |assumption):DS K mg X ES (.AugAssign (.Name x k_) op e pos) (rh i k p):=
 ⟨PS.imp
  (IQ hN hi hx he.ok ho hf) λD σ H zz=>zz.el λY N0 ns e S p=>by
  have p:PS3 K mg Y N0 ns e H D ES (C5 i k.G _ e):=p;unfold C5 at p;split at p
  .rename_i v q0;obtain⟨_,dx,e1,r0⟩:=S.sl i _ q0;refine⟨dx,e1,Y,N0,λ_=>True,ns,e,S,λ_ _=>trivial,PS3.toS p S λt e1 ns1 H1 a1 S1 p1 y r1=>?_⟩;try dsimp only at p1
   split at p1
   .rename_i u q1;refine hd _ _ _ _ _ _ _ (.inl (r0.mono a1.mov)) (r1.sh S1 q1) ?_;split at p1
    .rename_i z q2;rw[q2];split at p1
     .rename_i e2 q3;intro H2 dz g2 r2;obtain⟨S3,a3⟩:=nG (S1.gr g2) r2 q3;exact p1 H2 _ _ ((a1.trans S (.gr g2)).trans S a3) S3
     .exact p1.elim
    .exact p1.elim
   .exact p1.elim
  .exact p.elim⟩
def TsR.len{Y:Addr->Prop}(r:TsR K mg Y ns σ H ds ts):ds.length=ts.length:=by
 induction r with
 |nil=>rfl
 |val _ _ ih=>rw[E_,E_,ih]
 |bor _ _ ih=>rw[E_,E_,ih]
def CT{x:Str}{C:Addr}{E:XK}{np cpos:Pos}(hc:X.calm=true)(hR:Rz X E)(hg:Gl X x)(hm:mg x=some (.ref C))(hq:W.excIn X.K C n6 "ValueError.__new__"=true)(ha:DA K mg X (λ_=>E) (e::es) A)(hk:X.mg=mg:=by rfl)(he:starEach (e::es) X.env=(false,eval e X.env)::starEach es X.env:=by rfl)(c_:(backTo cpos (starEach es X.env)).any (·.1)=false:=by rfl)(hd:(x==("__debug__" : Str))=false:=by decide):DS K mg X (λ_=>E) (.Raise (some (.Call (.Name x np) (e::es) [] cpos)) none pos) (eN x A):=by
 subst hk;exact⟨PS.imp (A9 hc hR hg hm hq ha.ok he c_ hd) λD σ H zz=>zz.el λY N0 ns e S p=>⟨Y,N0,ns,e,S,PS3.toS p S λts e1 ns1 H1 a1 S1 p1 xs r1=>by
  try dsimp only at p1
  split at p1
  .rename_i hl;exact⟨by rw[r1.len];exact hl,p1 H1 σ ns1 C a1 S1 hm⟩
  .exact p1.elim⟩⟩
end
noncomputable def Sl.re (s:Sl) (u:Val):Sl:=match s with
 |.ow _=>.ow u
 |.mu _=>.mu u
 |s=>s
noncomputable def Sl.mv:Sl->Option Val
 |.ow v=>some v
 |.mu v=>some v
 |_=>none
section
variable{K:W.Frag}{mg:Qt}{X N0:Addr->Prop}{ns:Ns}{e:E3}{σ:St}{H:Hp}
def Sat.write(S:Sat K mg X N0 ns e σ H)(q:e[i]?=some s)(hm:s.mv=some u):∃n o,σ[i]?=some (some (.ref n))/\ns[i]?=some (some n)/\H n=some o/\NotFz o/\Rc K mg (Oc X ns) H o u/\
 ∀o' u',NotFz o'->Rc K mg (Oc X ns) H o' u'->Mov (Oc X ns) (Oc X ns) H (upd H n o')/\Sat K mg X N0 ns (e.set i (s.re u')) σ (upd H n o')/\Stp ns e H ns (e.set i (s.re u')) (upd H n o'):=by
 have hi:=(D_.mp q).1;have key:∃n o,ns[i]?=some (some n)/\σ[i]?=some (some (.ref n))/\H n=some o/\NotFz o/\Rc K mg (Oc X ns) H o u/\s.mt=true/\(∀o' u',NotFz o'->Rc K mg (Oc X ns) (upd H n o') o' u'->SlR K mg (Oc X ns) N0 (some (some n)) (some (some (.ref n))) (upd H n o') (s.re u')):=by
  have y:=S.sl i s q;cases s with
  |ow v=>cases hm;obtain⟨n,o,q1,q2,q3,q4,q5,q6⟩:=y;exact⟨n,o,q1,q2,q4,q5,q6,rfl,λo' u' hf r=>⟨n,o',rfl,rfl,q3,aY,hf,r⟩⟩
  |mu v=>cases hm;obtain⟨n,o,q1,q2,q4,q5,q6⟩:=y;exact⟨n,o,q1,q2,q4,q5,q6,rfl,λo' u' hf r=>⟨n,o',rfl,rfl,aY,hf,r⟩⟩
  |_=>cases hm
 obtain⟨n,o,k1,k2,k3,k4,k5,k6,k7⟩:=key;refine⟨n,o,k2,k1,k3,k4,k5,λo' u' hf r=>?_⟩;have up:∀m,m≠n->upd H n o' m=H m:=λm z=>aC z;have mv:Mov (Oc X ns) (Oc X ns) H (upd H n o'):=⟨LeH.wr k3 k4,λm ob p q' _=>⟨p,by rw[up m λz=>p.2 (aT.mpr ⟨i,by rw[z];exact k1⟩)];exact q'⟩⟩;have dom:∀a,upd H n o' a=none->H a=none:=λa z=>by rw[up a λy=>by subst y;rw[aY] at z;cases z] at z;exact z
 refine⟨mv,⟨by rw[ND];exact S.l1,by rw[ND];exact S.l2,λa z=>S.lh a (dom a z),λm z=>?_,S.inj,S.nx,λj s' qj=>?_,S.bs.wr k3 k4⟩,?_⟩
 .by_cases y:m=n
  .subst y;exact⟨o',aY⟩
  .rw[up m y];exact S.xl m z
 .rcases bJ hi qj with ⟨rfl,rfl⟩ |⟨z,qj'⟩
  .rw[k1,k2];exact k7 o' u' hf (r.mono mv)
  .refine (S.sl j s' qj').mono mv λm ob qm qo _=>?_;rw[up m λy=>by subst y;exact z (S.inj j i m qm k1)];exact qo
 .refine⟨mv.le,dom,λm ob qm _ hM=>?_,λ_ _ q=>.inl q,λj s' qj hl=>?_,λj s' qj hl=>?_,λj v qj=>?_,λj v qj=>?_⟩
  .rw[up m λy=>by subst y;exact hM ⟨i,s,k1,q,k6⟩];exact qm
  .have z:j≠i:=λz=>by subst z;rw[q] at qj;cases qj;cases s <;> first |cases hl;done |cases k6;done
   rw[cE z];exact⟨qj,rfl⟩
  .rcases bJ hi qj with ⟨_,y⟩ |⟨z,qj'⟩
   .subst y;cases s <;> first |cases hl;done |cases k6;done
   .exact⟨qj',rfl⟩
  .rcases bJ hi qj with ⟨rfl,y⟩ |⟨z,qj'⟩
   .cases s with
    |mu w=>exact⟨w,q,rfl⟩
    |ow w=>cases y
    |_=>cases k6
   .exact⟨v,qj',rfl⟩
  .by_cases z:j=i
   .subst z;rw[q] at qj;cases qj;exact⟨u',cW hi,rfl⟩
   .exact⟨v,by rw[cE z];exact qj,rfl⟩
end
noncomputable def wSet (i:Nat) (G:ME3) (F:ME3) (w:Val->Val->Val->Option Val) (e:E3):SR3:=(F e).toS λt e1=>match (e1[i]?).bind Sl.mv with
 |none=>.stuck
 |some _=>(G e1).toS λt2 e2=>match rs e2 t2 with
  |none=>.stuck
  |some vi=>match cX e2 t.drop with
   |none=>.stuck
   |some (e3,v)=>match e3[i]? with
    |none=>.stuck
    |some s=>match s.mv with
     |none=>.stuck
     |some u=>match w u vi v with
      |some u'=>.nx (e3.set i (s.re u'))
      |none=>.stuck
noncomputable def fN:Val->Bool
 |.lst _=>true
 |_=>false
noncomputable def sR (i:Nat) (m:Val->List Val->Option (Val×Val)) (vs:List Val) (e2:E3):R3 Tm:=match e2[i]? with
 |some s2=>match s2.mv with
  |some u=>match m u vs with
   |some (u',v)=>.ok (.val v) (e2.set i (s2.re u'))
   |none=>.stuck
  |none=>.stuck
 |none=>.stuck
noncomputable def oI (i:Nat) (m:Val->List Val->Option (Val×Val)) (A:MA3) (e:E3):R3 Tm:=match e[i]? with
 |some s=>if (s.mv.map fN)=some true then (A e).bind λts e1=>match dem e1 ts with
  |some (e2,vs)=>sR i m vs e2
  |none=>.stuck else .stuck
 |none=>.stuck
noncomputable def LU (m:Val->List Val->Bv) (F:ME3) (A:MA3) (e:E3):R3 Tm:=(F e).bind λt e1=>if (rs e1 t).map fN=some true then (A e1).bind λts e2=>(match rs e2 t.drop,rss e2 ts with
 |some v,some vs=>if fN v=true then (m v vs).at e2 else .stuck
 |_,_=>.stuck) else .stuck
structure PSe where
 G:Val->Val->Val->Option Val
structure PMm where
 G:Val->List Val->Option (Val×Val)
structure PMv where
 G:Val->List Val->Bv
noncomputable def oq (i:Nat) (w:PSe) (k a:PEx):PSt:=⟨15,wSet i k.G a.G w.G⟩
noncomputable def iN (i:Nat) (m:PMm) (a:PAs):PEx:=⟨18,oI i m.G a.G⟩
noncomputable def qG (i:Nat) (m:PMm):PEx:=⟨19,oI i m.G oH⟩
noncomputable def xV (m:PMv) (a:PEx) (b:PAs):PEx:=⟨20,LU m.G a.G b.G⟩
section
variable(K:W.Frag)(mg:Qt)
def Dn(r:rB)(w:Val->Val->Val->Option Val):Prop:=∀P H n o u di vi d v u' Q,¬ P n->H n=some o->NotFz o->Rc K mg P H o u->ShR K mg P H di vi->Rd K mg P H d v->w u vi v=some u'->(∀o',NotFz o'->Rc K mg P H o' u'->Q (upd H n o'))->r (.ref n) di d H Q
def MmD(r:V->List V->Hp->VK->Prop)(m:Val->List Val->Option (Val×Val)):Prop:=∀P H n o u ds vs u' v Q,¬ P n->H n=some o->NotFz o->Rc K mg P H o u->Rds K mg P H ds vs->m u vs=some (u',v)->(∀o' y,NotFz o'->Rc K mg P H o' u'->Rd K mg P H y v->Q y (upd H n o'))->r (.ref n) ds H Q
def MtD(r:V->List V->Hp->VK->Prop)(m:Val->List Val->Bv):Prop:=∀P H d v ds vs Q,ShR K mg P H d v->fN v=true->ShRs K mg P H ds vs->BvP K mg P H Q (m v vs)->r d ds H Q
end
section
variable{K:W.Frag}{mg:Qt}{X:Cx}{ES:St->XK}{e o i:Expr}{es:List Expr}{p q:PEx}{A:PAs}{pos p1:Pos}
def tO{j:Nat}{e:E3}{s:Sl}{u:Val}(q:e[j]?=some s)(h:s.mv=some u):eJ j e=.ok (.bor j) e:=by unfold eJ;rw[q];cases s <;> first |rfl |cases h
def Ga{w:PSe}{r:rB}(he:DE K mg X ES e p)(ho:DE K mg X ES o (af j))(hi:DE K mg X ES i q)(hs':xj X r)(hd:Dn K mg r w.G)(hs:swapsWithSole [.Subscript o i p1] e pos.line X.env=pure false:=by rfl)(hw:swappedStores [.Subscript o i p1] e X.env=pure none:=by rfl)(h1:(assignEach [.Subscript o i p1] X.env).map (·.2)=[assign (.Subscript o i p1) X.env]:=by rfl)
 (ha:∀v,assign (.Subscript o i p1) X.env v=(do
  let ov <- holding [v] (eval o X.env)
  let iv <- holding [v,ov] (eval i X.env)
  standAt p1
  holding [v,ov,iv] (setItem ov iv v)
  release [v,ov,iv] []):=by intro _;rfl):DS K mg X ES (.Assign [.Subscript o i p1] e pos) (oq j w q p):=
 ⟨PS.imp
  (zH he.ok (Iq ho.ok hi.ok hs' ha) hs hw h1) λD σ H zz=>zz.el λY N0 ns e S p=>⟨Y,N0,λ_=>True,ns,e,S,λ_ _=>trivial,PS3.toS p S λt e1 ns1 H1 a1 S1 p1 x r1=>by
  try dsimp only at p1
  split at p1
  .exact p1.elim
  .rename_i u0 qm;obtain⟨s0,y1,y2⟩:=NF.mp qm;refine⟨Y,N0,λ_=>True,ns1,e1,S1,λ_ _=>trivial,?_⟩;show PG3 K mg Y N0 ns1 e1 σ H1 (ES σ) _ (eJ j e1);rw[tO y1 y2];intro H2 h_ a2 S2 ov ro;refine⟨Y,N0,λ_=>True,h_,e1,S2,λ_ _=>trivial,PS3.toS (PS3.after p1 S (a1.trans S a2)) S2 λt2 e2 ns3 H3 a3 S3 p3 iv r3=>?_⟩;try dsimp only at p3
   split at p3
   .exact p3.elim
   .rename_i vi qi;split at p3
    .exact p3.elim
    .rename_i e3 v qd;obtain⟨ns4,S4,a4,r4⟩:=fT S3 (r1.drop (a2.trans S1 a3)) qd;split at p3
     .exact p3.elim
     .rename_i s q3;split at p3
      .exact p3.elim
      .rename_i u q4;split at p3
       .rename_i u' q5;obtain⟨n,ob,k1,k0,k2,k3,k4,k5⟩:=S4.write q3 q4;have ro':σ[j]?=some (some ov):=ro;rw[k1] at ro';cases ro';refine hd (Oc Y ns4) _ _ _ _ _ _ _ _ _ _ (λz=>z.2 (aT.mpr ⟨j,k0⟩)) k2 k3 k4 ((r3.sh S3 qi).mono a4.mov .refl) r4 q5 λo' f' rc'=>?_;obtain⟨_,S5,a5⟩:=k5 o' u' f' rc';exact p3 _ _ _ ((a3.trans S2 a4).trans S2 a5) S5
       .exact p3.elim⟩⟩
def D2{P:Addr->Prop}(r:ShR K mg P H d v)(q:fN v=true):tyV K "list" d H:=by
 cases v with
 |lst xs=>obtain⟨a,vs,rfl,h,_⟩:=r.lstL;exact .inl ⟨rfl,vs,h⟩
 |_=>cases q
def vI{Y N0 L:Addr->Prop}{ns:Ns}{e2:E3}{σ:St}{H:Hp}{k:PMm}{r:V->List V->Hp->VK->Prop}{vs:List Val}{E:XK}{Q:VK}(hd:MmD K mg r k.G)(S:Sat K mg Y N0 ns e2 σ H)(ro:σ[j]?=some (some ov))(rx:Rds K mg (Oc Y ns) H xs vs)(p:PG3 K mg Y N0 ns e2 σ H E (KE K mg Y N0 L σ Q) (sR j k.G vs e2)):r ov xs H Q:=by
 unfold sR at p;split at p
 .rename_i s2 q2;split at p
  .rename_i u q3;split at p
   .rename_i u' v q4;obtain⟨n,ob,k1,k0,k2,k3,k4,k5⟩:=S.write q2 q3;rw[k1] at ro;cases ro;refine hd (Oc Y ns) _ _ _ _ _ _ _ _ _ (λz=>z.2 (aT.mpr ⟨j,k0⟩)) k2 k3 k4 rx q4 λo' y f' rc' ry=>?_;obtain⟨mv,S4,a4⟩:=k5 o' u' f' rc';exact p _ _ a4 S4 _ (ry.mono mv)
   .exact p.elim
  .exact p.elim
 .exact p.elim
theorem vR{Y N0 L:Addr->Prop}{ns:Ns}{e:E3}{σ:St}{H:Hp}{m:Val->List Val->Option (Val×Val)}{A:MA3}{E:XK}{Q:VK}{R:V->Hp->Prop}(S:Sat K mg Y N0 ns e σ H)(p:PG3 K mg Y N0 ns e σ H E (KE K mg Y N0 L σ Q) (oI j m A e))
 (i:∀ov ns1 H1,Stp ns e H ns1 e H1->Sat K mg Y N0 ns1 e σ H1->σ[j]?=some (some ov)->tyV K "list" ov H1->PG3 K mg Y N0 ns1 e σ H1 E (KE K mg Y N0 L σ Q) ((A e).bind λts e1=>match dem e1 ts with
 |some (e2,vs)=>sR j m vs e2
 |none=>.stuck)->R ov H1):PG3 K mg Y N0 ns e σ H E (KE K mg Y N0 L σ R) (eJ j e):=by
 unfold oI at p;split at p
 .rename_i s0 q0;split at p
  .rename_i hz;obtain⟨u0,z1,z2⟩:=Nq.mp hz;rw[tO q0 z1];exact λH1 ns1 a1 S1 ov ro=>i ov ns1 H1 a1 S1 ro (D2 (v:=u0) (S1.bor ro (by rw[q0];cases s0 <;> first |exact z1 |cases z1)) z2) (p.after S a1)
  .exact p.elim
 .exact p.elim
def HR{j:Nat}{name:Str}{id:String}{apos cpos:Pos}{r:V->List V->Hp->VK->Prop}{k:PMm}(hK:X.K=K)(slot:Slot "list" name id)(hty:typeOf (.builtin id)=pure (.type "method_descriptor"))(hm:MtM X id r)(hd:MmD K mg r k.G)(ho:DE K mg X ES o (af j))(ha:DA K mg X ES (e::es) A)(i_:attributeBase o name X.env (eval o X.env)=eval o X.env:=by rfl)(hfew:((backTo cpos (starEach (e::es) X.env)).all (λx=>!x.1)&&(backToKw cpos (keywordEach [] X.env)).all (λx=>x.1.isSome)&&decide ((e::es).length+([]:List Keyword).length+(if ([]:List Keyword).isEmpty then 0 else 1)<30))=true:=by rfl)(j':(apos.endLine==cpos.line)=true:=by rfl)(hs:starEach (e::es) X.env=(false,eval e X.env)::starEach es X.env:=by rfl)(c_:(backTo cpos (starEach es X.env)).any (·.1)=false:=by rfl):DE K mg X ES (.Call (.Attribute o name apos) (e::es) [] cpos) (iN j k A):=by
 subst hK;exact
  ⟨PE.imp (xJ PJ slot hty hm ho.ok ha.ok i_ hfew j' hs c_) λσ H Q zz=>zz.el λY N0 L ns e S hl p=>
  ⟨Y,
   N0,L,ns,e,S,hl,vR S p λov ns1 H1 a1 S1 ro ty p1=>⟨ty,Y,N0,ns1,e,S1,PG3.imp p1 S1 λts e1 h_ H2 a2 S2 p2 xs r2=>by
   try dsimp only at p2
   split at p2
   .rename_i e2 vs q1;obtain⟨ns3,S3,a3,r3⟩:=jh S2 r2 q1;exact vI hd S3 ro r3 (p2.after S2 a3)
   .exact p2.elim⟩⟩⟩
def Fl{j:Nat}{name:Str}{id:String}{apos cpos:Pos}{r:V->List V->Hp->VK->Prop}{k:PMm}(hK:X.K=K)(slot:Slot "list" name id)(hty:typeOf (.builtin id)=pure (.type "method_descriptor"))(hm:MtM X id r)(hd:MmD K mg r k.G)(ho:DE K mg X ES o (af j))(i_:attributeBase o name X.env (eval o X.env)=eval o X.env:=by rfl)(j':(apos.endLine==cpos.line)=true:=by rfl):DE K mg X ES (.Call (.Attribute o name apos) [] [] cpos) (qG j k):=by
 subst hK;exact⟨PE.imp (G7 PJ slot hty hm ho.ok i_ j') λσ H Q zz=>zz.el λY N0 L ns e S hl p=>
  ⟨Y,N0,L,ns,e,S,hl,vR S p λov ns1 H1 a1 S1 ro ty p1=>⟨ty,vI hd S1 ro .nil p1⟩⟩⟩
def F4{name:Str}{id:String}{apos cpos:Pos}{r:V->List V->Hp->VK->Prop}{k:PMv}(hK:X.K=K)(slot:Slot "list" name id)(hty:typeOf (.builtin id)=pure (.type "method_descriptor"))(hm:MtM X id r)(hd:MtD K mg r k.G)(ho:DE K mg X ES o p)(ha:DA K mg X ES (e::es) A)(i_:attributeBase o name X.env (eval o X.env)=eval o X.env:=by rfl)(hfew:((backTo cpos (starEach (e::es) X.env)).all (λx=>!x.1)&&(backToKw cpos (keywordEach [] X.env)).all (λx=>x.1.isSome)&&decide ((e::es).length+([]:List Keyword).length+(if ([]:List Keyword).isEmpty then 0 else 1)<30))=true:=by rfl)(j':(apos.endLine==cpos.line)=true:=by rfl)(hs:starEach (e::es) X.env=(false,eval e X.env)::starEach es X.env:=by rfl)(c_:(backTo cpos (starEach es X.env)).any (·.1)=false:=by rfl):DE K mg X ES (.Call (.Attribute o name apos) (e::es) [] cpos) (xV k p A):=by
 subst hK;exact
  ⟨PE.imp (xJ PJ slot hty hm ho.ok ha.ok i_ hfew j' hs c_) λσ H Q zz=>zz.el λY N0 L ns e S hl p=>
  ⟨Y,
   N0,L,ns,e,S,hl,PG3.imp p S λt e1 ns1 H1 a1 S1 p1 x r1=>by
   try dsimp only at p1
   split at p1
   .rename_i hq;obtain⟨v0,z1,z2⟩:=Nq.mp hq;refine⟨D2 (r1.sh S1 z1) z2,Y,N0,ns1,e1,S1,PG3.imp p1 S1 λts e2 h_ H2 a2 S2 p2 xs r2=>?_⟩;try dsimp only at p2
    split at p2
    .rename_i v vs q1 q2;split at p2
     .rename_i hv;exact hd _ _ _ _ _ _ _ ((r1.drop a2).sh S2 q1) hv (r2.sh S2 q2) (p2.bv S2 λa z=>hl a (a1.dom a (a2.dom a z)))
     .exact p2.elim
    .exact p2.elim
   .exact p1.elim⟩⟩
end
noncomputable def iH:Sl->Sl
 |.ow v=>.lo v
 |.mu v=>.lm v
 |s=>s
noncomputable def ji:Sl->Sl
 |.lo v=>.ow v
 |.lm v=>.mu v
 |s=>s
noncomputable def lock (e:E3) (k:Nat):E3:=match e[k]? with
 |some s=>e.set k (iH s)
 |none=>e
noncomputable def unlock (e:E3) (k:Nat):E3:=match e[k]? with
 |some s=>e.set k (ji s)
 |none=>e
noncomputable def lockO (e:E3):Option Nat->E3
 |some k=>lock e k
 |none=>e
noncomputable def fB (e:E3):Option Nat->E3
 |some k=>unlock e k
 |none=>e
section
variable{K:W.Frag}{mg:Qt}{X N0:Addr->Prop}{ns ns':Ns}{e e':E3}{σ:St}{H H':Hp}
def SlR.lock(r:SlR K mg P N0 n d H s):SlR K mg P N0 n d H (iH s):=by cases s <;> exact r
def SlR.unlock(r:SlR K mg P N0 n d H s):SlR K mg P N0 n d H (ji s):=by cases s <;> exact r
def Sat.setS(S:Sat K mg X N0 ns e σ H)(q:e[k]?=some s)(f:Sl->Sl)(hf:SlR K mg (Oc X ns) N0 (ns[k]?) (σ[k]?) H s->SlR K mg (Oc X ns) N0 (ns[k]?) (σ[k]?) H (f s)):Sat K mg X N0 ns (e.set k (f s)) σ H:=by
 have hi:=(D_.mp q).1;refine⟨by rw[ND];exact S.l1,by rw[ND];exact S.l2,S.lh,S.xl,S.inj,S.nx,λj s' qj=>?_,S.bs⟩;rcases bJ hi qj with ⟨rfl,rfl⟩ |⟨z,qj'⟩
 .exact hf (S.sl j s q)
 .exact S.sl j s' qj'
def Sat.lock(S:Sat K mg X N0 ns e σ H)(k:Nat):Sat K mg X N0 ns (lock e k) σ H:=by
 unfold L3.lock;split
 .rename_i s q;exact S.setS q iH SlR.lock
 .exact S
def Sat.unlock(S:Sat K mg X N0 ns e σ H)(k:Nat):Sat K mg X N0 ns (unlock e k) σ H:=by
 unfold L3.unlock;split
 .rename_i s q;exact S.setS q ji SlR.unlock
 .exact S
def Sat.lockO(S:Sat K mg X N0 ns e σ H)(k:Option Nat):Sat K mg X N0 ns (lockO e k) σ H:=by
 cases k with
 |none=>exact S
 |some k=>exact S.lock k
def i8(z:j≠k):(lock e k)[j]?=e[j]?:=by
 unfold lock;split
 .rw[cE z]
 .rfl
def gy(z:j≠k):(unlock e k)[j]?=e[j]?:=by
 unfold unlock;split
 .rw[cE z]
 .rfl
def og(q:e[k]?=some s):(lock e k)[k]?=some (iH s):=by unfold lock;rw[q];exact cW (D_.mp q).1
def iB(q:e[k]?=some s):(unlock e k)[k]?=some (ji s):=by unfold unlock;rw[q];exact cW (D_.mp q).1
def Stp.unlock(q:e[k]?=some s)(hs:s.mt=true)(a:Stp ns (L3.lock e k) H ns' e' H'):Stp ns e H ns' (L3.unlock e' k) H':=by
 have hl:(iH s).lk=true:=by cases s <;> first |rfl |cases hs
 have hu:ji (iH s)=s:=by cases s <;> first |rfl |cases hs
 obtain⟨qk,nk⟩:=a.lk k _ (og q) hl;refine⟨a.le,a.dom,λm o qm ht hM=>a.keep m o qm ht λ⟨j,s',z1,z2,z3⟩=>hM ?_,a.nw,λj s' qj hj=>?_,λj s' qj hj=>?_,λj v qj=>?_,λj v qj=>?_⟩
 .by_cases z:j=k
  .subst z;exact⟨j,s,z1,q,hs⟩
  .rw[i8 z] at z2;exact⟨j,s',z1,z2,z3⟩
 .have z:j≠k:=λz=>by subst z;rw[q] at qj;cases qj;cases s <;> first |cases hs;done |cases hj;done
  rw[gy z];exact a.lk j s' (by rw[i8 z];exact qj) hj
 .have z:j≠k:=λz=>by subst z;rw[iB qk,hu] at qj;cases qj;cases s <;> first |cases hs;done |cases hj;done
  rw[gy z] at qj;obtain⟨y1,y2⟩:=a.lk' j s' qj hj;rw[i8 z] at y1;exact⟨y1,y2⟩
 .by_cases z:j=k
  .subst z;rw[iB qk,hu] at qj;cases qj;exact⟨v,q,nk⟩
  .rw[gy z] at qj;obtain⟨u,y1,y2⟩:=a.mu j v qj;rw[i8 z] at y1;exact⟨u,y1,y2⟩
 .by_cases z:j=k
  .subst z;rw[q] at qj;cases qj;exact⟨v,by rw[iB qk,hu],nk⟩
  .obtain⟨u,y1,y2⟩:=a.mu' j v (by rw[i8 z];exact qj);exact⟨u,by rw[gy z];exact y1,y2⟩
end
abbrev MI3:=E3->R3 (List Val×Option Nat)
noncomputable def gL:Val->Option (List Val)
 |.tup xs=>some xs
 |.lst xs=>some xs
 |_=>none
noncomputable def gB (t:Tm) (e:E3):Option (List Val×Option Nat):=match t with
 |.val v=>(gL v).map λxs=>(xs,none)
 |.new v=>(gL v).map λxs=>(xs,none)
 |.bor k=>match e[k]? with
  |some (.sh v)=>(gL v).map λxs=>(xs,none)
  |some (.ow (.lst xs))=>some (xs,some k)
  |some (.mu (.lst xs))=>some (xs,some k)
  |_=>none
noncomputable def LS (F:ME3) (e:E3):R3 (List Val×Option Nat):=(F e).bind λt e1=>match gB t e1 with
 |some p=>.ok p e1
 |none=>.stuck
noncomputable def eL:Nat->List Val->List Val
 |_,[]=>[]
 |i,d::ds=>.tup [.int (i:Nat),d]::eL (i+1) ds
noncomputable def Lz (A:MA3) (e:E3):R3 (List Val×Option Nat):=(A e).bind λts e1=>match ts with
 | [t]=>(match gB t e1 with
  |some p=>.ok (eL 0 p.1,p.2) e1
  |none=>.stuck)
 |_=>.stuck
noncomputable def LB (A:MA3) (e:E3):R3 (List Val×Option Nat):=(A e).bind λts e1=>match ts with
 | [t,u]=>(match gB t e1,gB u e1 with
  |some (xs,k),some (ys,none)=>.ok (List.zipWith (λx y=>.tup [x,y]) xs ys,k) e1
  |_,_=>.stuck)
 |_=>.stuck
noncomputable def lF (lo:Int) (k:Nat):List Val:=(List.range k).map λi=>Val.int (lo+(i:Nat))
structure RgB(j:Int):Prop where
 lo:-(2^62)<=j
 hi:j<2^62
def jL:List Val->Option (List Val)
 | [.int j]=>@ite _ (RgB j) (Classical.propDecidable _) (some (lF 0 j.toNat)) none
 |_=>none
def rE:List Val->Option (List Val)
 | [.int i,.int j]=>@ite _ (RgB i/\RgB j) (Classical.propDecidable _) (some (lF i (j-i).toNat)) none
 |_=>none
noncomputable def viRg (f:List Val->Option (List Val)) (A:MA3) (e:E3):R3 (List Val×Option Nat):=(A e).bind λts e1=>match (rss e1 ts).bind f with
 |some xs=>.ok (xs,none) e1
 |none=>.stuck
noncomputable def SR3.loop (r:SR3) (f:E3->SR3):SR3:=match r with
 |.nx e=>f e
 |.ct e=>f e
 |.bk e=>.nx e
 |.rt d e=>.rt d e
 |.exc c e=>.exc c e
 |.stuck=>.stuck
noncomputable def cI (g:MG3) (B:MS3):List Val->MS3
 | [],e=>.nx e
 |v::vs,e=>match g v e with
  |some e1=>(B e1).loop (cI g B vs)
  |none=>.stuck
noncomputable def SR3.unl (k:Option Nat) (r:SR3):SR3:=match r with
 |.nx e=>.nx (fB e k)
 |.ct e=>.ct (fB e k)
 |.bk e=>.bk (fB e k)
 |.rt d e=>.rt d (fB e k)
 |.exc c e=>.exc c (fB e k)
 |.stuck=>.stuck
noncomputable def wFor (I:MI3) (g:MG3) (B:MS3) (e:E3):SR3:=(I e).toS λp e1=>(cI g B p.1 (lockO e1 p.2)).unl p.2
noncomputable def whV (c:MT3) (B:MS3):Nat->MS3
 |0,_=>.stuck
 |k+1,e=>(c e).toS λb e1=>if b=true then (B e1).loop (whV c B k) else .nx e1
open Classical in
def wWh(c:MT3)(B:MS3):MS3:=λe=>if q:∃k,whV c B k e ≠ .stuck then whV c B q.choose e else .stuck
theorem lT{c:MT3}{B:MS3}:∀{k:Nat}{e:E3},whV c B k e ≠ .stuck->whV c B (k+1) e=whV c B k e
 |0,_,q=>absurd rfl q
 |
  k+1,e,q=>by
  have e1:whV c B (k+2) e=(c e).toS λb e1=>if b=true then (B e1).loop (whV c B (k+1)) else .nx e1:=rfl
  have e2:whV c B (k+1) e=(c e).toS λb e1=>if b=true then (B e1).loop (whV c B k) else .nx e1:=rfl
  rw[e2] at q;rw[e1,e2];cases r:c e with
  |exc _ _=>rfl
  |stuck=>rfl
  |
   ok b h1=>
   rw[r] at q;cases b with
   |false=>rfl
   |
    true=>
    have q':(B h1).loop (whV c B k) ≠ .stuck:=q;show (B h1).loop (whV c B (k+1))=(B h1).loop (whV c B k);cases s:B h1 with
    |nx a2=>rw[s] at q';exact lT q'
    |ct a2=>rw[s] at q';exact lT q'
    |_=>rfl
def AS{c:MT3}{B:MS3}{k j:Nat}{e:E3}(q:whV c B k e ≠ .stuck)(hj:k<=j):whV c B j e=whV c B k e:=by
 induction hj with
 |refl=>rfl
 |step _ ih=>rw[lT (by rw[ih];exact q),ih]
def my{c:MT3}{B:MS3}{k:Nat}{e:E3}(q:whV c B k e ≠ .stuck):wWh c B e=whV c B k e:=by
 have hq:∃k,whV c B k e ≠ .stuck:=⟨k,q⟩;unfold wWh;rw[dif_pos hq];rcases Nat.le_total hq.choose k with z |z
 .exact (AS hq.choose_spec z).symm
 .exact AS q z
def CB(c:MT3)(B:MS3)(e:E3):wWh c B e=(c e).toS λb e1=>if b=true then (B e1).loop (wWh c B) else .nx e1:=by
 by_cases q:∃k,whV c B k e ≠ .stuck
 .obtain⟨k,q⟩:=q;rw[my q];cases k with
  |zero=>exact absurd rfl q
  |
   succ k=>
   have e2:whV c B (k+1) e=(c e).toS λb e1=>if b=true then (B e1).loop (whV c B k) else .nx e1:=rfl
   rw[e2] at q ⊢;cases r:c e with
   |exc _ _=>rfl
   |stuck=>rfl
   |
    ok b h1=>
    rw[r] at q;cases b with
    |false=>rfl
    |
     true=>
     have q':(B h1).loop (whV c B k) ≠ .stuck:=q;show (B h1).loop (whV c B k)=(B h1).loop (wWh c B);cases s:B h1 with
     |nx a2=>rw[s] at q';exact (my q').symm
     |ct a2=>rw[s] at q';exact (my q').symm
     |_=>rfl
 .have e0:wWh c B e=.stuck:=by unfold wWh;rw[dif_neg q]
  rw[e0];have hs:∀k,whV c B (k+1) e=.stuck:=λk=>Classical.byContradiction λz=>q ⟨_,z⟩;cases r:c e with
  |stuck=>rfl
  |
   exc c' h'=>
   have:=hs 0
   unfold whV at this;rw[r] at this;cases this
  |
   ok b h1=>
   cases b with
   |
    false=>
    have:=hs 0
    unfold whV at this;rw[r] at this;cases this
   |
    true=>
    have h2:∀k,(B h1).loop (whV c B k)=.stuck:=λk=>by
     have:=hs k
     unfold whV at this;rw[r] at this;exact this
    show SR3.stuck=(B h1).loop (wWh c B);have lim:∀a2,(∀k,whV c B k a2=.stuck)->wWh c B a2=.stuck:=λa2 z=>by unfold wWh;rw[dif_neg (λ⟨k,y⟩=>y (z k))]
    cases s:B h1 with
    |nx a2=>rw[s] at h2;exact (lim a2 h2).symm
    |ct a2=>rw[s] at h2;exact (lim a2 h2).symm
    |stuck=>rfl
    |_=>have:=h2 0;rw[s] at this;cases this
structure PIt where
 t:Nat
 G:MI3
noncomputable def cD (a:PEx):PIt:=⟨1,LS a.G⟩
def jB(a:PAs):PIt:=⟨2,viRg jL a.G⟩
def wG(a:PAs):PIt:=⟨3,viRg rE a.G⟩
noncomputable def kI (a:PAs):PIt:=⟨4,Lz a.G⟩
noncomputable def xC (a:PAs):PIt:=⟨5,LB a.G⟩
noncomputable def eZ (i:PIt) (g:PGt) (b:PSt):PSt:=⟨16,wFor i.G g.G b.G⟩
def xWh(c:PTs)(b:PSt):PSt:=⟨17,wWh c.G b.G⟩
section
variable(K:W.Frag)(mg:Qt)
structure Kp(X:Addr->Prop)(ns:Ns)(k:Option Nat)(H0:Hp)(P:Addr->Prop)(H:Hp):Prop where
 mov:Mov (Oc X ns) P H0 H
 lk:∀(j:Nat) (a:Addr) (o:HO),k=some j->ns[j]?=some (some a)->H0 a=some o->n9 o->H a=some o
def Kp.refl:Kp X ns k H (Oc X ns) H:=⟨.of λ_ z=>z,λ_ _ _ _ _ q _=>q⟩
def ItS(X:Addr->Prop)(ns:Ns)(k:Option Nat)(H0:Hp)(J:It)(us:List Val):Prop:=∀P H,Kp X ns k H0 P H->(∀(i:Nat) v,us[i]?=some v->J.go i H/\∀x H',J.yld i H x H'->Gr H H'/\Rd K mg P H' x v)/\J.stop us.length H
def iq(X:Addr->Prop)(ns:Ns)(k:Option Nat)(H0:Hp)(b:Bool)(a:Addr)(us:List Val):Prop:=∀P H,Kp X ns k H0 P H->∃vs,SqB K b H a vs/\Rds K mg P H vs us
def rdI(ES:St->XK)(I:MI3):TI:=λσ H R=>∃X N0 ns e,Sat K mg X N0 ns e σ H/\PG3 K mg X N0 ns e σ H (ES σ) (λp e' ns' H'=>∀J,ItS K mg X ns' p.2 H' J p.1->(∀k,p.2=some k->∃s,e'[k]?=some s/\s.mt=true)->R J H') (I e)
def rdI.el{K:W.Frag}{mg:Qt}{I:MI3}{R:It->Hp->Prop}(h:rdI K mg ES I σ H R){Z:Prop}(k:∀X N0 ns e,Sat K mg X N0 ns e σ H->PG3 K mg X N0 ns e σ H (ES σ) (λp e' ns' H'=>∀J,ItS K mg X ns' p.2 H' J p.1->(∀k,p.2=some k->∃s,e'[k]?=some s/\s.mt=true)->R J H') (I e)->Z):Z:=by obtain⟨X,N0,ns,e,S,p⟩:=h;exact k X N0 ns e S p
structure DI(X:Cx)(ES:St->XK)(tg iter:Expr)(F:PIt):Prop where
 ok:PI X tg iter (rdI K mg ES F.G)
end
noncomputable def ItA (K:W.Frag) (b:Bool) (a:Addr):It:=match b with
 |true=>Itl K a
 |false=>Itt K a
section
variable{K:W.Frag}{mg:Qt}{X N0 L:Addr->Prop}{ns ns1 ns':Ns}{e e1 e':E3}{σ:St}{H H1 H':Hp}{De:Ends}{ES:St->XK}
def F6{x:V}{v:Val}(r:Rd K mg (Oc X ns) H x v)(q:gL v=some us):∃b a,x=.ref a/\∀k,iq K mg X ns k H b a us:=by
 cases v with
 |tup ys=>cases q;obtain⟨a,vs,rfl,h,rr⟩:=ShR.tup (.inl r);exact⟨false,a,rfl,λ_ P H' st=>⟨vs,st.mov.le.sqT h,rr.mono st.mov⟩⟩
 |
  lst ys=>
  cases q;cases r with
  |cell p eo rc=>cases rc with |lst rr=>exact⟨true,_,rfl,λ_ P H' st=>⟨_,SqL.of (st.mov.cl _ _ p eo (λ_ z=>nomatch z)).2,rr.mono st.mov⟩⟩
 |_=>cases q
def ni{x:V}{t:Tm}{p:List Val×Option Nat}(S:Sat K mg X N0 ns e σ H)(r:relE K mg X N0 L σ ns e H x t)(q:gB t e=some p):∃b a,x=.ref a/\iq K mg X ns p.2 H b a p.1/\(p.2=none->∀k,iq K mg X ns k H b a p.1)/\∀k:Nat,p.2=some k->∃s,e[k]?=some s/\s.mt=true:=by
 have fv:∀{v us},Rd K mg (Oc X ns) H x v->gL v=some us->∃b a,x=.ref a/\iq K mg X ns none H b a us/\((none:Option Nat)=none->∀k,iq K mg X ns k H b a us)/\∀k:Nat,none=some k->∃s,e[k]?=some s/\s.mt=true:=λr q=>by obtain⟨b,a,h1,h2⟩:=F6 r q;exact⟨b,a,h1,h2 _,λ_=>h2,λ_ z=>nomatch z⟩
 cases t with
 |val v=>obtain⟨xs,q1,rfl⟩:=Nq.mp q;exact fv r q1
 |new v=>obtain⟨xs,q1,rfl⟩:=Nq.mp q;exact fv r.new q1
 |
  bor k=>
  have r':σ[k]?=some (some x):=r;have own:∀{s xs},e[k]?=some s->s.mv=some (.lst xs)->∃b a,x=.ref a/\iq K mg X ns (some k) H b a xs/\(some k=none->∀k,iq K mg X ns k H b a xs)/\∀j:Nat,some k=some j->∃s,e[j]?=some s/\s.mt=true:=λ{s xs} q qm=>by
   obtain⟨n,o,k1,k0,k2,k3,k4,_⟩:=S.write q qm;rw[r'] at k1;cases k1;have hm:s.mt=true:=by cases s <;> first |rfl |cases qm
   refine⟨true,n,rfl,λP H' st=>?_,λz=>(nomatch z),λj z=>by cases z;exact⟨s,q,hm⟩⟩;cases k4 with
   |lst rr=>exact⟨_,SqL.of (st.lk k n _ rfl k0 k2 λ_ z=>nomatch z),rr.mono st.mov⟩
  unfold gB at q;dsimp only at q;split at q
  .rename_i v qs;obtain⟨_,x',e2,r2⟩:=S.sl k _ qs;rw[r'] at e2;cases e2;obtain⟨xs,q1,rfl⟩:=Nq.mp q;exact fv r2 q1
  .rename_i xs qs;cases q;exact own qs rfl
  .rename_i xs qs;cases q;exact own qs rfl
  .cases q
def ItS.seq(s:iq K mg X ns k H b a us):ItS K mg X ns k H (ItA K b a) us:=λP H' st=>by
 obtain⟨vs,h,r⟩:=s P H' st;cases b with
 |true=>refine⟨λi v q=>?_,vs,h,by rw[r.len];exact t_ _⟩;obtain⟨x,ex,rx⟩:=r.get q;exact⟨⟨vs,x,h,ex⟩,λy H2 ⟨e1,z⟩=>by subst e1;have:=(z vs h).symm.trans ex;cases this;exact⟨.refl,rx⟩⟩
 |false=>refine⟨λi v q=>?_,vs,h,by rw[r.len];exact t_ _⟩;obtain⟨x,ex,rx⟩:=r.get q;exact⟨⟨vs,x,h,ex⟩,λy H2 ⟨e1,z⟩=>by subst e1;have:=(z vs h).symm.trans ex;cases this;exact⟨.refl,rx⟩⟩
theorem ua:∀{us:List Val}{k i:Nat}{v:Val},(eL k us)[i]?=some v->∃u,us[i]?=some u/\v=.tup [.int ((k+i:Nat):Int),u]
 | [],_,_,_,q=>by simp [eL] at q
 |u::us,k,0,v,q=>⟨u,rfl,by simpa [eL] using q.symm⟩
 |
  u::us,k,i+1,v,q=>by
  obtain⟨u',q1,q2⟩:=ua (us:=us) (k:=k+1) (i:=i) (by simpa [eL] using q);exact⟨u',by simpa using q1,by rw[q2,show k+1+i=k+(i+1) by omega]⟩
theorem rP:∀(us:List Val) (k:Nat),(eL k us).length=us.length
 | [],_=>rfl
 |_::us,k=>NC (· + 1) (rP us (k+1))
def ItS.enm(s:iq K mg X ns k H b a us):ItS K mg X ns k H (B3 K b a) (eL 0 us):=λP H' st=>by
 obtain⟨vs,h,r⟩:=s P H' st;refine⟨λi v q=>?_,vs,h,by rw[rP,r.len]⟩;obtain⟨u,q1,rfl⟩:=ua q;obtain⟨x,ex,rx⟩:=r.get q1;refine⟨⟨vs,x,h,ex⟩,λy H2 ⟨p,w,e1,hp,e2,hw⟩=>?_⟩;subst e1 e2
 have:=(hw vs h).symm.trans ex
 cases this;rw[Ph];exact⟨.upd hp,.tup (SqT.of aY) (.cons (.int _) (.cons (rx.mono (Gr.upd hp).mov) .nil))⟩
def ItS.zip(s:iq K mg X ns k H b a us)(t:iq K mg X ns k H c d ws):ItS K mg X ns k H (ItZ K b c a d) (List.zipWith (λx y=>.tup [x,y]) us ws):=λP H' st=>by
 obtain⟨vs,h,r⟩:=s P H' st;obtain⟨xs,h',r'⟩:=t P H' st;refine⟨λi v q=>?_,vs,xs,h,h',?_⟩
 .rw[OT] at q;cases k1:us[i]? with
  |none=>rw[k1] at q;cases q
  |
   some u=>
   cases k2:ws[i]? with
   |none=>rw[k1,k2] at q;cases q
   |
    some w=>
    rw[k1,k2] at q;cases q;obtain⟨x,ex,rx⟩:=r.get k1;obtain⟨x',ex',rx'⟩:=r'.get k2;refine⟨⟨vs,xs,x,x',h,h',ex,ex'⟩,λy H2 ⟨p,f,f',e1,hp,e2,hf,hf'⟩=>?_⟩;subst e1 e2
    have:=(hf vs h).symm.trans ex
    cases this
    have:=(hf' xs h').symm.trans ex'
    cases this;exact⟨.upd hp,.tup (SqT.of aY) (.cons (rx.mono (Gr.upd hp).mov) (.cons (rx'.mono (Gr.upd hp).mov) .nil))⟩
 .rw[OL,<- r.len,<- r'.len];rcases Nat.le_total vs.length xs.length with z |z
  .left;rw[Nat.min_eq_left z];exact Ow (t_ _)
  .right;rw[Nat.min_eq_right z];exact Ow (t_ _)
def ItS.nums{f:Nat->Int}{k:Nat}{J:It}(h1:∀i H,i<k->J.go i H/\∀x H',J.yld i H x H'->H'=H/\x=V.int (f i))(h2:∀H,J.stop k H):ItS K mg X ns kk H J ((List.range k).map λi=>Val.int (f i)):=λP H' st=>by refine⟨λi v q=>?_,by rw[p_,w_];exact h2 _⟩;rw[Nm] at q;obtain⟨j,hj,rfl⟩:=Nq.mp q;obtain⟨hj1,hj2⟩:=D_.mp hj;rw[List.getElem_range] at hj2;subst hj2;rw[w_] at hj1;obtain⟨g,y⟩:=h1 i H' hj1;exact⟨g,λx H2 z=>by obtain⟨rfl,rfl⟩:=y x H2 z;exact⟨.refl,.int _⟩⟩
def ItS.rng(lo:Int)(k:Nat):ItS K mg X ns kk H (Itr lo k) (lF lo k):=ItS.nums (λi H hi=>⟨hi,λx H' z=>z⟩) λH=>t_ _
def DL{k:Option Nat}(S:Sat K mg X N0 ns e σ H)(hk:∀j:Nat,k=some j->∃s,e[j]?=some s/\s.mt=true)(a:Stp ns (lockO e k) H ns' e' H'):Kp X ns k H (Oc X ns') H':=⟨a.mov,λj n o hj hn q ht=>by
 subst hj;refine a.keep n o q ht λ⟨i,s,z1,z2,z3⟩=>?_
 have:=S.inj i j n z1 hn
 subst this;obtain⟨s',y1,y2⟩:=hk i rfl;have:(lockO e (some i))[i]?=some (iH s'):=og y1;rw[this] at z2;cases z2;cases s' <;> first |cases y2;done |cases z3;done⟩
def PS3.unl{k:Option Nat}{r:SR3}(hk:∀j:Nat,k=some j->∃s,e[j]?=some s/\s.mt=true)(p:PS3 K mg X N0 ns e H De ES (r.unl k)):PS3 K mg X N0 ns (lockO e k) H De ES r:=by
 cases k with
 |none=>cases r <;> exact p
 |
  some j=>
  obtain⟨s,y1,y2⟩:=hk j rfl;cases r with
  |stuck=>exact p
  |nx e'=>exact λH' σ' ns' a S=>p H' σ' ns' (a.unlock y1 y2) (S.unlock j)
  |bk e'=>exact λH' σ' ns' a S=>p H' σ' ns' (a.unlock y1 y2) (S.unlock j)
  |ct e'=>exact λH' σ' ns' a S=>p H' σ' ns' (a.unlock y1 y2) (S.unlock j)
  |exc c e'=>exact λH' σ' ns' C a S=>p H' σ' ns' C (a.unlock y1 y2) (S.unlock j)
  |
   rt r e'=>
   refine λH' σ' ns' x a q2=>p H' σ' ns' x (a.unlock y1 y2) ?_;cases r with
   |val v=>exact⟨q2.1.unlock j,q2.2⟩
   |new v=>obtain⟨n,o,z1,z2,z3,z4,z5,z6,z7⟩:=q2;exact⟨n,o,z1,z2,z3,z4,z5,z6.unlock j,z7⟩
   |
    par i=>
    obtain⟨z1,z2,v,z3⟩:=q2;refine⟨z1.unlock j,z2,v,?_⟩;by_cases z:i=j
    .subst z;exact iB z3
    .exact (gy z).trans z3
   |pr v u=>obtain⟨p,d1,n,o,z1,z2,z3,z4,z5,z6,z7,z8⟩:=q2;exact⟨p,d1,n,o,z1,z2,z3,z4,z5,z6,z7.unlock j,z8⟩
def PS3.toB{α:Type}{r:R3 α}{f:α->E3->SR3}{k:α->E3->Ns->Hp->Prop}{ns0:Ns}{e0:E3}{σ0:St}{H0:Hp}(p:PS3 K mg X N0 ns0 e0 H0 De ES (r.toS f))(S0:Sat K mg X N0 ns0 e0 σ0 H0)(a0:Stp ns0 e0 H0 ns e H)
 (i:∀t e1 ns1 H1,Stp ns0 e0 H0 ns1 e1 H1->Sat K mg X N0 ns1 e1 σ H1->PS3 K mg X N0 ns0 e0 H0 De ES (f t e1)->k t e1 ns1 H1):PG3 K mg X N0 ns e σ H (ES σ) k r:=by
 cases r with
 |stuck=>exact p
 |exc c e'=>exact λH' ns' C a S' m=>p H' σ ns' C (a0.trans S0 a) S' m
 |ok t e'=>exact λH' ns' a S'=>i t e' ns' H' (a0.trans S0 a) S' p
def PS3.loop{ns0:Ns}{e0:E3}{σ0:St}{H0:Hp}{r:SR3}{f:E3->SR3}{N:St->Hp->Prop}(p:PS3 K mg X N0 ns0 e0 H0 De ES (r.loop f))(S0:Sat K mg X N0 ns0 e0 σ0 H0)(a0:Stp ns0 e0 H0 ns e H)
 (i:∀e1 ns1 σ1 H1,Stp ns0 e0 H0 ns1 e1 H1->Sat K mg X N0 ns1 e1 σ1 H1->PS3 K mg X N0 ns0 e0 H0 De ES (f e1)->N σ1 H1):PS3 K mg X N0 ns e H { De with nx:=N,ct:=N,bk:=De.nx } ES r:=by
 cases r with
 |nx e'=>exact λH' σ' ns' b S'=>i e' ns' σ' H' (a0.trans S0 b) S' p
 |ct e'=>exact λH' σ' ns' b S'=>i e' ns' σ' H' (a0.trans S0 b) S' p
 |bk e'=>exact λH' σ' ns' b S'=>p H' σ' ns' (a0.trans S0 b) S'
 |exc c e'=>exact λH' σ' ns' C b S'=>p H' σ' ns' C (a0.trans S0 b) S'
 |rt r e'=>exact λH' σ' ns' x b S'=>p H' σ' ns' x (a0.trans S0 b) S'
 |stuck=>exact p
end
section
variable{K:W.Frag}{mg:Qt}{X:Cx}{ES:St->XK}{e a b c tg iter:Expr}{elts:List Expr}{sts:List Stmt}{p:PEx}{A:PAs}{t:PTs}{x:PSt}{g:PGt}{I:PIt}{pos p0 tp:Pos}
def Hw(hK:X.K=K)(he:DE K mg X ES e p):DI K mg X ES tg e (cD p):=by
 subst hK;exact⟨PI.imp (IW he.ok) λσ H R zz=>rdI.el zz λY N0 ns e S q=>⟨Y,N0,λ_=>True,ns,e,S,λ_ _=>trivial,PG3.imp q S λt e1 ns1 H1 a1 S1 p1 x r1=>by
  try dsimp only at p1
  split at p1
  .rename_i w z;obtain⟨b,a,rfl,s,_,hk⟩:=ni S1 r1 z;have k:=p1.ret S1 _ (ItS.seq s) hk;obtain⟨vs,hv,_⟩:=s _ _ .refl;cases b with
   |true=>exact .inl ⟨a,rfl,⟨vs,hv⟩,k⟩
   |false=>exact .inr ⟨a,rfl,⟨vs,hv⟩,k⟩
  .exact p1.elim⟩⟩
def CW{Y:Addr->Prop}{ns:Ns}{σ:St}{H:Hp}{xs:List V}{t:Tm}(N0 L:Addr->Prop)(e:E3)(r:TsR K mg Y ns σ H xs [t]):∃x,xs=[x]/\relE K mg Y N0 L σ ns e H x t:=by
 cases r with
 |val r rr=>cases rr;exact⟨_,rfl,r⟩
 |bor r rr=>cases rr;exact⟨_,rfl,r⟩
def tsr2{Y:Addr->Prop}{ns:Ns}{σ:St}{H:Hp}{xs:List V}{t u:Tm}(N0 L:Addr->Prop)(e:E3)(r:TsR K mg Y ns σ H xs [t,u]):∃x y,xs=[x,y]/\relE K mg Y N0 L σ ns e H x t/\relE K mg Y N0 L σ ns e H y u:=by
 cases r with
 |val r rr=>obtain⟨y,rfl,r'⟩:=CW N0 L e rr;exact⟨_,_,rfl,r,r'⟩
 |bor r rr=>obtain⟨y,rfl,r'⟩:=CW N0 L e rr;exact⟨_,_,rfl,r,r'⟩
def Fu(hK:X.K=K)(hg:Gl X "enumerate")(hm:mg "enumerate"=none)(ha:DA K mg X ES [a] A)(hk:X.mg=mg:=by rfl)(hs:starEach [a] X.env=[(false,eval a X.env)]:=by rfl):DI K mg X ES (.Tuple elts x1 tp) (.Call (.Name "enumerate" p0) [a] [] pos) (kI A):=by
 subst hk hK;exact
  ⟨PI.imp (Ez hg hm ha.ok hs) λσ H R zz=>rdI.el zz λY N0 ns e S q=>⟨Y,N0,ns,e,S,PG3.imp q S λts e1 ns1 H1 a1 S1 p1 xs r1=>by
  try dsimp only at p1
  split at p1
  .rename_i t;obtain⟨x,rfl,r⟩:=CW N0 N0 e1 r1;split at p1
   .rename_i w z;obtain⟨b,a,rfl,s,_,hk⟩:=ni S1 r z;obtain⟨vs,hv,_⟩:=s _ _ .refl;exact⟨b,a,vs,rfl,hv,p1.ret S1 _ (ItS.enm s) hk⟩
   .exact p1.elim
  .exact p1.elim⟩⟩
def Hl(hK:X.K=K)(hg:Gl X "zip")(hm:mg "zip"=none)(ha:DA K mg X ES [a,b] A)(hk:X.mg=mg:=by rfl)(hs:starEach [a,b] X.env=[(false,eval a X.env),(false,eval b X.env)]:=by rfl)(hs2:starEach [b] X.env=[(false,eval b X.env)]:=by rfl):DI K mg X ES (.Tuple elts x1 tp) (.Call (.Name "zip" p0) [a,b] [] pos) (xC A):=by
 subst hk hK;exact
  ⟨PI.imp (GO hg hm ha.ok hs hs2) λσ H R zz=>rdI.el zz λY N0 ns e S q=>⟨Y,N0,ns,e,S,PG3.imp q S λts e1 ns1 H1 a1 S1 p1 xs r1=>by
  try dsimp only at p1
  split at p1
  .rename_i t u;obtain⟨x,y,rfl,r,r'⟩:=tsr2 N0 N0 e1 r1;split at p1
   .rename_i us k ws z z';obtain⟨b,a,rfl,s,_,hk⟩:=ni S1 r z;obtain⟨c,d,rfl,_,s',_⟩:=ni S1 r' z';have s2:=s' rfl k;obtain⟨vs,hv,_⟩:=s _ _ .refl;obtain⟨vs',hv',_⟩:=s2 _ _ .refl;exact⟨b,c,a,d,vs,vs',rfl,hv,hv',p1.ret S1 _ (ItS.zip s s2) hk⟩
   .exact p1.elim
  .exact p1.elim⟩⟩
def dn{P:Addr->Prop}(r:ShRs K mg P H xs [v]):∃x,xs=[x]/\ShR K mg P H x v:=by cases r with |cons r rr=>cases rr;exact⟨_,rfl,r⟩
def nE{P:Addr->Prop}(r:ShRs K mg P H xs [v,u]):∃x y,xs=[x,y]/\ShR K mg P H x v/\ShR K mg P H y u:=by cases r with |cons r rr=>cases rr with |cons r' rr=>cases rr;exact⟨_,_,rfl,r,r'⟩
def zq(hg:Gl X "range")(hm:mg "range"=none)(ha:DA K mg X ES [a] A)(hk:X.mg=mg:=by rfl)(hs:starEach [a] X.env=[(false,eval a X.env)]:=by rfl):DI K mg X ES tg (.Call (.Name "range" p0) [a] [] pos) (jB A):=by
 subst hk;exact
  ⟨PI.imp (As hg hm ha.ok hs) λσ H R zz=>rdI.el zz λY N0 ns e S q=>⟨Y,N0,ns,e,S,PG3.imp q S λts e1 ns1 H1 a1 S1 p1 xs r1=>by
  try dsimp only at p1
  split at p1
  .rename_i us z;obtain⟨vs,z1,z2⟩:=NF.mp z;have rr:=r1.sh S1 z1;unfold jL at z2;split at z2
   .split at z2
    .rename_i hb;cases z2;obtain⟨x,rfl,r⟩:=dn rr;obtain rfl:=r.int;exact⟨_,rfl,hb.lo,hb.hi,p1.ret S1 _ (ItS.rng _ _) λ_ z=>nomatch z⟩
    .cases z2
   .cases z2
  .exact p1.elim⟩⟩
def yH(hg:Gl X "range")(hm:mg "range"=none)(ha:DA K mg X ES [a,b] A)(hk:X.mg=mg:=by rfl)(hs:starEach [a,b] X.env=[(false,eval a X.env),(false,eval b X.env)]:=by rfl)(hs2:starEach [b] X.env=[(false,eval b X.env)]:=by rfl):DI K mg X ES tg (.Call (.Name "range" p0) [a,b] [] pos) (wG A):=by
 subst hk;exact
  ⟨PI.imp (zI hg hm ha.ok hs hs2) λσ H R zz=>rdI.el zz λY N0 ns e S q=>⟨Y,N0,ns,e,S,PG3.imp q S λts e1 ns1 H1 a1 S1 p1 xs r1=>by
  try dsimp only at p1
  split at p1
  .rename_i us z;obtain⟨vs,z1,z2⟩:=NF.mp z;have rr:=r1.sh S1 z1;unfold rE at z2;split at z2
   .split at z2
    .rename_i hb;cases z2;obtain⟨x,y,rfl,r,r'⟩:=nE rr;obtain rfl:=r.int;obtain rfl:=r'.int;exact⟨_,_,rfl,⟨hb.1.lo,hb.1.hi,hb.2.lo,hb.2.hi⟩,p1.ret S1 _ (ItS.rng _ _) λ_ z=>nomatch z⟩
    .cases z2
   .cases z2
  .exact p1.elim⟩⟩
def Gw(hp:PassesOwn (model X.prog X.w) X.A X.env X.xe)(hc:X.calm=true)(hi:DI K mg X ES tg iter I)(hg:DG K mg X tg g)(hb:DSs K mg X ES sts x)(hs:∀x,foldedSetIterable iter X.env x=pure x:=by intro _;rfl):DS K mg X ES (.For tg iter sts [] pos) (eZ I g x):=
 ⟨PS.imp (Kw hp hc hi.ok hg.ok hb.ok hs) λD σ H zz=>zz.el λY N0 ns e S p=>⟨Y,N0,ns,e,S,PS3.toS p S λw e1 ns1 H1 a1 S1 p1 J it hk=>by
  have p2:=PS3.unl hk (PS3.after p1 S a1);have S2:=S1.lockO w.2;refine⟨λi m σ' H'=>m=w.1.length-i/\i<=w.1.length/\∃ns' e',Stp ns1 (lockO e1 w.2) H1 ns' e' H'/\Sat K mg Y N0 ns' e' σ' H'/\PS3 K mg Y N0 ns1 (lockO e1 w.2) H1 D ES (cI g.G x.G (w.1.drop i) e'),⟨_,rfl,NK _,ns1,_,.refl,S2,p2⟩,?_⟩;rintro i m σ' H' ⟨rfl,hi,ns',e',a',S',p'⟩;by_cases hl:i=w.1.length
  .subst hl;rw[List.drop_length] at p';exact .inl ⟨(it _ _ (DL S1 hk a')).2,p' H' σ' ns' a' S'⟩
  .have hl':i<w.1.length:=by omega
   rw[Pq hl'] at p';unfold cI at p';obtain⟨go,yl⟩:=(it _ _ (DL S1 hk a')).1 i _ (v_ hl');split at p'
   .rename_i e2 q;refine .inr ⟨go,λσ2 H2=>i+1<=w.1.length/\∃ns' e',Stp ns1 (lockO e1 w.2) H1 ns' e' H2/\Sat K mg Y N0 ns' e' σ2 H2/\PS3 K mg Y N0 ns1 (lockO e1 w.2) H1 D ES (cI g.G x.G (w.1.drop (i+1)) e'),λσ2 H2 n=>⟨_,by omega,rfl,n⟩,λv H2 y=>?_⟩;obtain⟨gr,r⟩:=yl v H2 y;have a2:=a'.trans S2 (.gr gr);exact⟨Y,N0,ns',e',_,e2,S'.gr gr,r,q,λσ3 ns3 a3 S3=>⟨Y,N0,ns3,e2,S3,PS3.loop p' S2 (a2.trans S2 a3) λe4 ns4 σ4 H4 a4 S4 p4=>⟨hl',ns4,e4,a4,S4,p4⟩⟩⟩
   .exact p'.elim⟩⟩
def Ck(hp:PassesOwn (model X.prog X.w) X.A X.env X.xe)(hc:DT K mg X ES c t)(hb:DSs K mg X ES sts x):DS K mg X ES (.While c sts [] pos) (xWh t x):=
 ⟨PS.imp (CU hp hc.ok hb.ok) λD σ H zz=>zz.el λY N0 ns e S p=>by
  have p:PS3 K mg Y N0 ns e H D ES (wWh t.G x.G e):=p;by_cases q:∃k,whV t.G x.G k e ≠ .stuck
  .obtain⟨k,q⟩:=q;rw[my q] at p;refine⟨λm σ' H'=>∃ns' e',Stp ns e H ns' e' H'/\Sat K mg Y N0 ns' e' σ' H'/\PS3 K mg Y N0 ns e H D ES (whV t.G x.G m e'),⟨k,ns,e,.refl,S,p⟩,?_⟩;rintro m σ' H' ⟨ns',e',a',S',p'⟩;cases m with
   |zero=>exact p'.elim
   |
    succ m=>
    have p2:PS3 K mg Y N0 ns e H D ES ((t.G e').toS λb e1=>if b=true then (x.G e1).loop (whV t.G x.G m) else .nx e1):=p';refine⟨Y,N0,ns',e',S',PS3.toB p2 S a' λb e1 ns1 H1 a2 S1 p1=>?_⟩;cases b with
    |true=>exact⟨λσ2 H2=>∃ns' e',Stp ns e H ns' e' H2/\Sat K mg Y N0 ns' e' σ2 H2/\PS3 K mg Y N0 ns e H D ES (whV t.G x.G m e'),λσ2 H2 n=>⟨m,Nat.lt_succ_self _,n⟩,Y,N0,ns1,e1,S1,PS3.loop p1 S a2 λe4 ns4 σ4 H4 a4 S4 p4=>⟨ns4,e4,a4,S4,p4⟩⟩
    |false=>exact p1 _ _ _ a2 S1
  .unfold wWh at p;rw[dif_neg q] at p;exact p.elim⟩
end
noncomputable def gg (o:Option Nat) (s:Sl) (e:E3):E3:=match o,s with
 |some i,.mu v=>(match e[i]? with
  |some t=>e.set i (t.re v)
  |none=>e)
 |_,_=>e
noncomputable def aS:List (Option Nat)->E3->E3->E3
 |o::sub,s::inner,e=>aS sub inner (gg o s e)
 |_,_,e=>e
def vZ(hn:∀v,o=some i->s=.mu v->False):(gg o s e)[i]?=e[i]?:=by
 unfold gg;split
 .rename_i i' v;split
  .rename_i t q;by_cases z:i=i'
   .subst z;exact (hn v rfl rfl).elim
   .rw[cE z]
  .rfl
 .rfl
theorem n0:∀{sub:Qw}{e2 e:E3}{i:Nat},(∀(j:Nat) v,sub[j]?=some (some i)->e2[j]?=some (.mu v)->False)->(aS sub e2 e)[i]?=e[i]?
 | [],_,_,_,_=>rfl
 |_::_,[],_,_,_=>rfl
 |
  o::sub,s::e2,e,i,hn=>by
  show (aS sub e2 (gg o s e))[i]?=_;rw[n0 (λj v q1 q2=>hn (j+1) v (by simpa using q1) (by simpa using q2))];exact vZ λv z1 z2=>hn 0 v (by rw[z1];rfl) (by rw[z2];rfl)
theorem vv:∀{sub:Qw}{e2 e:E3}{i j:Nat}{v:Val},(∀(j k:Nat) i,sub[j]?=some (some i)->sub[k]?=some (some i)->j=k)->sub[j]?=some (some i)->e2[j]?=some (.mu v)->(aS sub e2 e)[i]?=(e[i]?).map (Sl.re · v)
 | [],_,_,_,j,_,_,q,_=>by simp at q
 |_::_,[],_,_,j,_,_,_,q=>by simp at q
 |
  o::sub,s::e2,e,i,0,v,hj,q1,q2=>by
  have z1:o=some i:=by simpa using q1
  have z2:s=.mu v:=by simpa using q2
  subst z1 z2;show (aS sub e2 (gg (some i) (.mu v) e))[i]?=_;rw[n0 (λk u y1 _=>by have:=hj 0 (k+1) i rfl (by simpa using y1);omega)];unfold gg;dsimp only;split
  .rename_i t q;rw[cW (D_.mp q).1,q];rfl
  .rename_i q;rw[q];rfl
 |
  o::sub,s::e2,e,i,j+1,v,hj,q1,q2=>by
  show (aS sub e2 (gg o s e))[i]?=_;have q1':sub[j]?=some (some i):=by simpa using q1
  rw[vv (λa b c y1 y2=>by have:=hj (a+1) (b+1) c (by simpa using y1) (by simpa using y2);omega) q1' (by simpa using q2)];rw[vZ λv z1 _=>by have:=hj 0 (j+1) i (by rw[z1];rfl) q1;omega]
noncomputable def aW (sub:Qw) (ns:Ns):Ns:=sub.map λo=>o.bind λi=>(ns[i]?).bind id
def cA{sub:Qw}{ns:Ns}{j:Nat}{n:Addr}(q:(aW sub ns)[j]?=some (some n)):∃i,sub[j]?=some (some i)/\ns[i]?=some (some n):=by
 unfold aW at q;rw[Nm] at q;cases z:sub[j]? with
 |none=>rw[z] at q;cases q
 |
  some o=>
  rw[z] at q;cases o with
  |none=>cases q
  |
   some i=>
   refine⟨i,rfl,?_⟩;have q':(ns[i]?).bind id=some n:=G_ q;cases y:ns[i]? with
   |none=>rw[y] at q';cases q'
   |some w=>rw[y] at q';have:w=some n:=q';rw[this]
def EH{sub:Qw}{ns:Ns}{j i:Nat}{w:Option Addr}(q:sub[j]?=some (some i))(q2:ns[i]?=some w):(aW sub ns)[j]?=some w:=by unfold aW;rw[Nm,q];show some ((ns[i]?).bind id)=some w;rw[q2];rfl
structure Lnk(sub:Qw)(e ei:E3):Prop where
 inj:∀(j k:Nat) (i:Nat),sub[j]?=some (some i)->sub[k]?=some (some i)->j=k
 mu:∀(j:Nat) (v:Val),ei[j]?=some (.mu v)->∃(i:Nat) (s:Sl),sub[j]?=some (some i)/\e[i]?=some s/\s.mt=true
 mt:∀(j:Nat) (s:Sl),ei[j]?=some s->s.mt=true->∃v,s=.mu v
section
variable{K:W.Frag}{mg:Qt}{X Y N0:Addr->Prop}{ns h_:Ns}{e e2 ei:E3}{σ:St}{H H2:Hp}{sub:Qw}
theorem lE:∀(sub:Qw) (e2 e:E3),(aS sub e2 e).length=e.length
 | [],_,_=>rfl
 |_::_,[],_=>rfl
 |
  o::sub,s::e2,e=>by
  show (aS sub e2 (gg o s e)).length=_;rw[lE];unfold gg;split
  .split
   .rw[ND]
   .rfl
  .rfl
def Sat.back(S:Sat K mg X N0 ns e σ H)(lk:Lnk sub e ei)(a:Stp (aW sub ns) ei H h_ e2 H2)(hb:Bs K mg H2)
 (hY:∀n,Y n->(∃o,H2 n=some o)/\(X n\/H n=none)) (hXY:∀n,X n->Y n)
 (hc:∀(j:Nat) v n,e2[j]?=some (.mu v)->h_[j]?=some (some n)->∃o,H2 n=some o/\NotFz o/\Rc K mg (Oc Y ns) H2 o v):Sat K mg Y N0 ns (aS sub e2 e) σ H2/\Stp ns e H ns (aS sub e2 e) H2:=by
 have hM:∀n,Mt (aW sub ns) ei n->Mt ns e n:=λn ⟨j,s,z1,z2,z3⟩=>by obtain⟨v,rfl⟩:=lk.mt j s z2 z3;obtain⟨i,s',y1,y2,y3⟩:=lk.mu j v z2;obtain⟨i',y4,y5⟩:=cA z1;rw[y1] at y4;cases y4;exact⟨i,s',y5,y2,y3⟩
 have mv:Mov (Oc X ns) (Oc Y ns) H H2:=⟨a.le,λn o p q ht=>⟨⟨λz=>(by
  rcases (hY n z).2 with z |z
  .exact p.1 z
  .rw[q] at z;cases z),p.2⟩,a.keep n o q ht λz=>by obtain⟨j,s,z1,_⟩:=z;obtain⟨i,_,y⟩:=cA z1;exact p.2 (aT.mpr ⟨i,y⟩)⟩⟩
 have key:∀i:Nat,(∃(j:Nat) (v:Val) (s:Sl),sub[j]?=some (some i)/\e2[j]?=some (.mu v)/\e[i]?=some s/\s.mt=true/\(aS sub e2 e)[i]?=some (s.re v)/\h_[j]?=ns[i]?)\/((∀n,ns[i]?=some (some n)->¬ Mt (aW sub ns) ei n)/\(aS sub e2 e)[i]?=e[i]?):=λi=>by
  by_cases hx:∃(j:Nat) (v:Val),sub[j]?=some (some i)/\e2[j]?=some (.mu v)
  .obtain⟨j,v,q1,q2⟩:=hx;obtain⟨u,q3,q4⟩:=a.mu j v q2;obtain⟨i',s,y1,y2,y3⟩:=lk.mu j u q3;rw[q1] at y1;cases y1;refine .inl ⟨j,v,s,q1,q2,y2,y3,by rw[vv lk.inj q1 q2,y2];rfl,?_⟩;rw[q4];have hl:i<ns.length:=by rw[S.l2];exact (D_.mp y2).1
   rw[v_ hl];exact EH q1 (v_ hl)
  .refine .inr ⟨λn q ⟨j,s,z1,z2,z3⟩=>hx ?_,n0 λj v y1 y2=>hx ⟨j,v,y1,y2⟩⟩;obtain⟨v,rfl⟩:=lk.mt j s z2 z3;obtain⟨i',y4,y5⟩:=cA z1;have:i'=i:=S.inj i' i n y5 q;subst this;obtain⟨v',y6,_⟩:=a.mu' j v z2;exact⟨j,v',y4,y6⟩
 refine⟨⟨by rw[lE];exact S.l1,by rw[lE];exact S.l2,λx z=>S.lh x (a.dom x z),λn z=>(hY n z).1,S.inj,λi n q z=>?_,λi s q=>?_,hb⟩,⟨a.le,a.dom,λm o q ht hm=>a.keep m o q ht λz=>hm (hM m z),λ_ _ q=>.inl q,λi s q hl=>?_,λi s q hl=>?_,λi v q=>?_,λi v q=>?_⟩⟩
 .rcases (hY n z).2 with z |z
  .exact S.nx i n q z
  .obtain⟨_,_,_,_,_,_,_,q',_⟩:=S.own q;rw[q'] at z;cases z
 .rcases key i with ⟨j,v,s0,k1,k2,k3,k4,k5,k6⟩ |⟨k1,k2⟩
  .rw[k5] at q;cases q;have y:=S.sl i s0 k3;cases s0 with
   |ow u=>obtain⟨n,o,y1,y2,y3,_⟩:=y;obtain⟨o',z1,z2,z3⟩:=hc j v n k2 (by rw[k6];exact y1);exact⟨n,o',y1,y2,y3,z1,z2,z3⟩
   |mu u=>obtain⟨n,o,y1,y2,_⟩:=y;obtain⟨o',z1,z2,z3⟩:=hc j v n k2 (by rw[k6];exact y1);exact⟨n,o',y1,y2,z1,z2,z3⟩
   |_=>cases k4
  .rw[k2] at q;exact (S.sl i s q).mono mv λn o q1 q2 hf=>a.keep n o q2 hf.nt (k1 n q1)
 .rcases key i with ⟨j,v,s0,k1,k2,k3,k4,k5,k6⟩ |⟨k1,k2⟩
  .rw[k3] at q;cases q;cases s <;> first |cases hl;done |cases k4;done
  .rw[k2];exact⟨q,rfl⟩
 .rcases key i with ⟨j,v,s0,k1,k2,k3,k4,k5,k6⟩ |⟨k1,k2⟩
  .rw[k5] at q;cases q;cases s0 <;> first |cases hl;done |cases k4;done
  .rw[k2] at q;exact⟨q,rfl⟩
 .rcases key i with ⟨j,u,s0,k1,k2,k3,k4,k5,k6⟩ |⟨k1,k2⟩
  .rw[k5] at q;cases s0 with
   |mu w=>exact⟨w,k3,rfl⟩
   |ow w=>cases q
   |_=>cases k4
  .rw[k2] at q;exact⟨v,q,rfl⟩
 .rcases key i with ⟨j,u,s0,k1,k2,k3,k4,k5,k6⟩ |⟨k1,k2⟩
  .rw[k3] at q;cases q;exact⟨u,k5,rfl⟩
  .exact⟨v,by rw[k2];exact q,rfl⟩
end
noncomputable def inS:Sl->Sl
 |.ow v=>.mu v
 |.lo v=>.lm v
 |s=>s
noncomputable def bL (sub:Qw) (e:E3):E3:=sub.map λo=>match o with
 |none=>.no
 |some i=>match e[i]? with
  |some s=>inS s
  |none=>.no
noncomputable def lcV (g:MG3) (c:MT3) (F:ME3):List Val->List Val->E3->R3 (List Val)
 | [],acc,e=>.ok acc e
 |v::vs,acc,e=>if acc.length<16777216 then (match g v e with
  |none=>.stuck
  |some e1=>(c e1).bind λb e2=>if b=true then (F e2).bind λt e3=>(match cX e3 t with
   |some (e4,y)=>lcV g c F vs (acc++[y]) e4
   |none=>.stuck) else lcV g c F vs acc e2) else .stuck
noncomputable def vLC (I:MI3) (sub:Qw) (g:MG3) (c:MT3) (F:ME3) (e:E3):R3 Tm:=(I e).bind λp e1=>match lcV g c F p.1 [] (bL sub (lockO e1 p.2)) with
 |.ok ys e2=>if ys.length<=16777216 then .ok (.new (.lst ys)) (fB (aS sub e2 (lockO e1 p.2)) p.2) else .stuck
 |_=>.stuck
noncomputable def pLC (i:PIt) (sub:Qw) (hs:(sub.filterMap id).Nodup) (g:PGt) (c:PTs) (a:PEx):PEx:=⟨21,vLC i.G sub g.G c.G a.G⟩
def nK(sub:Qw):Prop:=∀(j k:Nat) (i:Nat),sub[j]?=some (some i)->sub[k]?=some (some i)->j=k
def yN(h:(sub.filterMap id).Nodup):nK sub:=by
 induction sub with
 |nil=>intro j k i q;simp at q
 |
  cons o sub ih=>
  have hsub:(sub.filterMap id).Nodup:=by
   cases o with
   |none=>simpa using h
   |some i=>rw[OJ] at h;simp at h;exact h.2
  have hno:∀(i k:Nat),o=some i->sub[k]?=some (some i)->False:=λi k z q=>by subst z;rw[OJ] at h;simp at h;exact h.1 (Oi q)
  intro j k i q1 q2;cases j with
  |
   zero=>
   cases k with
   |zero=>rfl
   |succ k=>exact (hno i k (by simpa using q1) (by simpa using q2)).elim
  |
   succ j=>
   cases k with
   |zero=>exact (hno i j (by simpa using q2) (by simpa using q1)).elim
   |succ k=>exact NC (· + 1) (ih hsub j k i (by simpa using q1) (by simpa using q2))
def Xin(X:Addr->Prop)(ns:Ns)(sub:Qw)(n:Addr):Prop:=X n\/(some n∈ns/\some n∉aW sub ns)
def sG{n:Addr}(q:some n∈aW sub ns):some n∈ns:=by obtain⟨j,q⟩:=aT.mp q;obtain⟨i,_,q2⟩:=cA q;exact aT.mpr ⟨i,q2⟩
def Ee{X:Addr->Prop}{H:Hp}:Mov (Oc X ns) (Oc (Xin X ns sub) (aW sub ns)) H H:=.of λn p=>⟨λz=>by
 rcases z with z |⟨z,_⟩
 .exact p.1 z
 .exact p.2 z,λz=>p.2 (sG z)⟩
def jF{sub:Qw}{e:E3}{j:Nat}{s:Sl}(q:(bL sub e)[j]?=some s):(sub[j]?=some none/\s=.no)\/(∃i,sub[j]?=some (some i)/\((e[i]?=none/\s=.no)\/∃t,e[i]?=some t/\s=inS t)):=by
 unfold bL at q;rw[Nm] at q;cases z:sub[j]? with
 |none=>rw[z] at q;cases q
 |
  some o=>
  rw[z] at q;cases o with
  |none=>cases q;exact .inl ⟨rfl,rfl⟩
  |
   some i=>
   refine .inr ⟨i,rfl,?_⟩;have q':=G_ q;dsimp only at q';cases y:e[i]? with
   |none=>rw[y] at q';exact .inl ⟨rfl,q'.symm⟩
   |some t=>rw[y] at q';exact .inr ⟨t,rfl,q'.symm⟩
section
variable{K:W.Frag}{mg:Qt}{X N0:Addr->Prop}{ns:Ns}{e:E3}{σ:St}{H:Hp}{sub:Qw}
def Sat.inner(S:Sat K mg X N0 ns e σ H)(hs:nK sub):Sat K mg (Xin X ns sub) N0 (aW sub ns) (bL sub e) (eW sub σ) H:=by
 refine⟨by unfold eW bL;rw[p_,p_],by unfold aW bL;rw[p_,p_],S.lh,λn z=>?_,λj k n q1 q2=>?_,λj n q z=>?_,λj s q=>?_,S.bs⟩
 .rcases z with z |⟨z,_⟩
  .exact S.xl n z
  .obtain⟨i,z⟩:=aT.mp z;obtain⟨_,_,o,_,_,_,_,q',_⟩:=S.own z;exact⟨o,q'⟩
 .obtain⟨i,y1,y2⟩:=cA q1;obtain⟨i',y3,y4⟩:=cA q2
  have:=S.inj i i' n y2 y4
  subst this;exact hs j k i y1 y3
 .rcases z with z |⟨_,z⟩
  .obtain⟨i,y1,y2⟩:=cA q;exact S.nx i n y2 z
  .exact z (aT.mpr ⟨j,q⟩)
 .have hj:∀{o},sub[j]?=some o->(aW sub ns)[j]?=some (o.bind λi=>(ns[i]?).bind id)/\(eW sub σ)[j]?=some (o.bind λi=>(σ[i]?).bind id):=λ{o} z=>by unfold aW eW;rw[Nm,Nm,z];exact⟨rfl,rfl⟩
  rcases jF q with ⟨z,rfl⟩ |⟨i,z,⟨y,rfl⟩ |⟨t,y,rfl⟩⟩
  .rw[(hj z).1];rfl
  .rw[(hj z).1];show some ((ns[i]?).bind id)=some none;have:ns[i]?=none:=by rw[Pt] at y ⊢;rw[S.l2];exact y
   rw[this];rfl
  .have k:=(S.sl i t y).mono (Ee (sub:=sub) (H:=H)) λ_ _ _ q _=>q;rw[(hj z).1,(hj z).2];show SlR K mg _ N0 (some ((ns[i]?).bind id)) (some ((σ[i]?).bind id)) H (inS t);have w1:∀x,ns[i]?=some x->some ((ns[i]?).bind id)=some x:=λx q=>by rw[q];rfl
   have w2:∀x,σ[i]?=some x->some ((σ[i]?).bind id)=some x:=λx q=>by rw[q];rfl
   cases t with
   |no=>rw[w1 _ k];rfl
   |sh v=>obtain⟨k1,x,k2,k3⟩:=k;rw[w1 _ k1,w2 _ k2];exact⟨rfl,x,rfl,k3⟩
   |ow v=>obtain⟨m,o,k1,k2,_,k3⟩:=k;rw[w1 _ k1,w2 _ k2];exact⟨m,o,rfl,rfl,k3⟩
   |lo v=>obtain⟨m,o,k1,k2,_,k3⟩:=k;rw[w1 _ k1,w2 _ k2];exact⟨m,o,rfl,rfl,k3⟩
   |mu v=>obtain⟨m,o,k1,k2,k3⟩:=k;rw[w1 _ k1,w2 _ k2];exact⟨m,o,rfl,rfl,k3⟩
   |lm v=>obtain⟨m,o,k1,k2,k3⟩:=k;rw[w1 _ k1,w2 _ k2];exact⟨m,o,rfl,rfl,k3⟩
end
def wC(hs:nK sub):Lnk sub e (bL sub e):=by
 refine⟨hs,λj v q=>?_,λj s q hm=>?_⟩
 .rcases jF q with ⟨_,z⟩ |⟨i,z,⟨_,y⟩ |⟨t,y,y2⟩⟩
  .cases z
  .cases y
  .refine⟨i,t,z,y,?_⟩;cases t <;> first |rfl |cases y2
 .rcases jF q with ⟨_,z⟩ |⟨i,z,⟨_,y⟩ |⟨t,y,y2⟩⟩
  .subst z;cases hm
  .subst y;cases hm
  .subst y2;cases t with
   |ow v=>exact⟨v,rfl⟩
   |mu v=>exact⟨v,rfl⟩
   |_=>cases hm
structure DTs(K:W.Frag)(mg:Qt)(X:Cx)(ES:St->XK)(es:List Expr)(F:PTs):Prop where
 ok:L2.PTs X es (rdT K mg ES F.G)
def Mov.trans{P P1 P2:Addr->Prop}{H H1 H2:Hp}(a:Mov P P1 H H1)(b:Mov P1 P2 H1 H2):Mov P P2 H H2:=⟨a.le.trans b.le,λn o p q ht=>by obtain⟨p1,q1⟩:=a.cl n o p q ht;exact b.cl n o p1 q1 ht⟩
section
variable{K:W.Frag}{mg:Qt}{X:Cx}{ES:St->XK}{a b o iter tg elt:Expr}{ifs:List Expr}{I:PIt}{g:PGt}{p:PEx}{t:PTs}{pos:Pos}{sub:Qw}
def cq:DTs K mg X ES [] qY:=⟨λpins s σ H Q i ⟨Y,N0,ns,e,S,p⟩=>F1 pins s σ H Q i (PG3.ret p S)⟩
def Ea{hsb:(sub.filterMap id).Nodup}(σ:St)(H:Hp)(Q:VK):rdE K mg ES (pLC I sub hsb g t p).G σ H Q->qu (rdI K mg ES I.G) sub (rdG K mg g.G) (rdT K mg (λ_=>E0) t.G) (rdE K mg (λ_=>E0) p.G) σ H Q:=λzz=>zz.el λY N0 L ns e S hl pp=>
 ⟨Y,
  N0,ns,e,S,PG3.imp pp S λw e1 ns1 H1 a1 S1 p1 J it hk=>by
  have hs':=yN hsb;have S2:=S1.lockO w.2;have S3:=S2.inner hs';try dsimp only at p1
  split at p1
  .rename_i ys
    e2 q
   split at p1
   .rename_i hy;have kp:∀{ns' e' H'},Stp (aW sub ns1) (bL sub (lockO e1 w.2)) H1 ns' e' H'->Kp Y ns1 w.2 H1 (Oc (Xin Y ns1 sub) ns') H':=λ{ns' e' H'} a=>⟨Ee.trans a.mov,λk n ob hk1 hk2 qm ht=>a.keep n ob qm ht λ⟨j,s,z1,z2,z3⟩=>by
     obtain⟨i,y1,y2⟩:=cA z1
     have:=S1.inj i k n y2 hk2
     subst this;obtain⟨s',w1,w2⟩:=hk i hk1;have hl:(lockO e1 w.2)[i]?=some (iH s'):=by rw[hk1];exact og w1
     rcases jF z2 with ⟨z,_⟩ |⟨i',z,y⟩
     .rw[y1] at z;cases z
     .rw[y1] at z;cases z;rcases y with ⟨y,_⟩ |⟨t,y,rfl⟩
      .rw[hl] at y;cases y
      .rw[hl] at y;cases y;cases s' <;> first |cases w2;done |cases z3;done⟩
    refine⟨λi m acc σ' H'=>m=w.1.length-i/\i<=w.1.length/\∃ns' e' av,Stp (aW sub ns1) (bL sub (lockO e1 w.2)) H1 ns' e' H'/\Sat K mg (Xin Y ns1 sub) N0 ns' e' σ' H'/\Rds K mg (Oc (Xin Y ns1 sub) ns') H' acc av/\lcV g.G t.G p.G (w.1.drop i) av e'=.ok ys e2,⟨_,rfl,NK _,_,_,[],.refl,S3,.nil,q⟩,?_⟩;rintro i m acc σ' H' ⟨rfl,hi,ns',e',av,a',S',ra,q'⟩;by_cases hlt:i<w.1.length
    .rw[Pq hlt] at q';unfold lcV at q';split at q'
     .rename_i hla;obtain⟨go,yl⟩:=(it _ _ (kp a')).1 i _ (v_ hlt);refine .inr ⟨go,by rw[ra.len];exact hla,λacc' σ2 H2=>i+1<=w.1.length/\∃ns' e' av,Stp (aW sub ns1) (bL sub (lockO e1 w.2)) H1 ns' e' H2/\Sat K mg (Xin Y ns1 sub) N0 ns' e' σ2 H2/\Rds K mg (Oc (Xin Y ns1 sub) ns') H2 acc' av/\lcV g.G t.G p.G (w.1.drop (i+1)) av e'=.ok ys e2,λacc' σ2 H2 n=>⟨_,by omega,rfl,n⟩,λx H2 y=>?_⟩;obtain⟨gr,rx⟩:=yl x H2 y;have a2:=a'.trans S3 (.gr gr);have S4:=S'.gr gr;have ra2:=ra.mono gr.mov;split at q'
      .cases q'
      .rename_i e3 qg;refine⟨_,N0,ns',e',_,e3,S4,rx,qg,λσ3 ns3 a3 S5=>⟨_,N0,ns3,e3,S5,?_⟩⟩;have a4:=a2.trans S3 a3;have ra3:=ra2.mono a3.mov;cases qc:t.G e3 with
       |stuck=>rw[qc] at q';cases q'
       |exc _ _=>rw[qc] at q';cases q'
       |
        ok b e4=>
        rw[qc] at q';intro H4 ns4 a5 S6;have a6:=a4.trans S3 a5;have ra4:=ra3.mono a5.mov;show if b=true then _ else _
        have q':(if b=true then (p.G e4).bind λtt e3=>(match cX e3 tt with
         |some (e4,y)=>lcV g.G t.G p.G (w.1.drop (i+1)) (av++[y]) e4
         |none=>.stuck) else lcV g.G t.G p.G (w.1.drop (i+1)) av e4)=.ok ys e2:=q'
        by_cases hb:b=true
        .rw[if_pos hb] at q' ⊢;refine⟨_,N0,λ_=>True,ns4,e4,S6,λ_ _=>trivial,?_⟩;cases qp:p.G e4 with
         |stuck=>rw[qp] at q';cases q'
         |exc _ _=>rw[qp] at q';cases q'
         |
          ok tt e5=>
          rw[qp] at q';intro H5 ns5 a7 S7 v rv;have q':(match cX e5 tt with
           |some (e4,y)=>lcV g.G t.G p.G (w.1.drop (i+1)) (av++[y]) e4
           |none=>.stuck)=.ok ys e2:=q'
          split at q'
          .rename_i e6 u qd;obtain⟨ns6,S8,a8,r8⟩:=fT S7 rv qd;exact⟨hlt,ns6,e6,_,(a6.trans S3 a7).trans S3 a8,S8,((ra4.mono a7.mov).mono a8.mov).append (.cons r8 .nil),q'⟩
          .cases q'
        .rw[if_neg hb] at q' ⊢;exact⟨hlt,ns4,e4,av,a6,S6,ra4,q'⟩
     .cases q'
    .have hi2:i=w.1.length:=by omega
     subst hi2;rw[List.drop_length] at q';cases q';have k3:∀n,Oc (Xin Y ns1 sub) ns' n->Oc Y ns1 n:=λn z=>⟨λy=>z.1 (.inl y),λy=>by
      by_cases w:some n∈aW sub ns1
      .obtain⟨j,w⟩:=aT.mp w;obtain⟨s,v,o,b1,b2,_⟩:=S3.own w;rcases b2 with b2 |b2
       .obtain⟨v',rfl⟩:=(wC (e:=lockO e1 _) hs').mt j s b1 b2;obtain⟨u,c1,c2⟩:=a'.mu' j v' b1;exact z.2 (aT.mpr ⟨j,by rw[c2];exact w⟩)
       .obtain⟨c1,c2⟩:=a'.lk j s b1 b2;exact z.2 (aT.mpr ⟨j,by rw[c2];exact w⟩)
      .exact z.1 (.inr ⟨y,w⟩)⟩
     obtain⟨S5,a5⟩:=S2.back (Y:=Y) (wC hs') a' S'.bs (λn z=>by
      obtain⟨ob,z'⟩:=S2.xl n z;exact⟨by
       cases qh:H' n with
       |none=>rw[a'.dom n qh] at z';cases z'
       |some o'=>exact⟨o',rfl⟩,.inl z⟩) (λ_ z=>z) λj v n q1 q2=>by
      obtain⟨s,u,o,b1,b2,b3,b4,b5,b6,b7⟩:=S'.own q2;rw[q1] at b1;cases b1;cases b3;exact⟨o,b5,b6,b7.mono (.of k3)⟩
     have d_:∀e'',Sat K mg Y N0 ns1 e'' σ H'->Stp ns1 e1 H1 ns1 e'' H'->PG3 K mg Y N0 ns1 e1 σ H1 (ES σ) (KE K mg Y N0 L σ Q) (.ok (.new (.lst ys)) e'')->∀D,H' D=none->Q (.ref D) (upd H' D (.lst acc)):=λe'' S6 a6 p6 D hD=>
      PG3.bv (b:=.new (.lst ys)) (p6.after S1 a6) S6 (λa z=>hl a (a1.dom a (a6.dom a z))) H' D _ .refl hD trivial (.lst (ra.mono (.of k3)))
     refine .inl ⟨(it _ _ (kp a')).2,by rw[ra.len];exact hy,?_⟩;cases hp:w.2 with
     |none=>rw[hp] at S5 a5 p1;exact d_ _ S5 a5 p1
     |some k=>rw[hp] at S5 a5 p1;obtain⟨s,w1,w2⟩:=hk k hp;exact d_ _ (S5.unlock k) (a5.unlock w1 w2) p1
   .exact p1.elim
  .exact p1.elim⟩
def g0{scope:Scope}(M:List Str)(kn:List (Str×NameKind))(N:List Str)(sub:Qw){hsb:(sub.filterMap id).Nodup}(hi:DI K mg X ES tg iter I)(hg:N.Nodup->∀cl C s₂ H fp,DG K mg (bR X N scope cl C s₂ H fp) tg g)(ht:N.Nodup->∀cl C s₂ H fp,DTs K mg (bR X N scope cl C s₂ H fp) (λ_=>E0) ifs t)(he:N.Nodup->∀cl C s₂ H fp,DE K mg (bR X N scope cl C s₂ H fp) (λ_=>E0) elt p)(hnd:N.Nodup:=by decide)(hc:X.calm=true:=by rfl)(hM:X.N=M:=by rfl)(hkn:X.env.scope.names=kn:=by rfl)(hsub:qw M scope.names sub N=true:=by decide)(hk:scope.kind=.function:=by rfl)(hnc:∀x∈scope.names,x.2 ≠ .cell:=by decide)(f_:∀x∈scope.names,x.2=.local->scope.names.lookup x.1=some .local:=by decide)(hfr:x9 kn scope.names=true:=by decide)(hsl:sub.length=N.length:=by rfl)(hs:∀x,foldedSetIterable iter X.env x=pure x:=by intro _;rfl):DE K mg X ES (.ListComp elt [⟨tg,iter,ifs,0⟩] scope pos) (pLC I sub hsb g t p):=
 ⟨PE.imp (IE hc hi.ok hk hnc f_ (by subst hkn;exact vF hfr) hsl (by subst hM;exact tE hsub) (λcl C s H f=>(hg hnd cl C s H f).ok) (λcl C s H f=>(ht hnd cl C s H f).ok) (λcl C s H f=>(he hnd cl C s H f).ok) hs) Ea⟩
def zSlc{ow:Bool}{px spos:Pos}{iT:Nat}{xT:Str}{scope:Scope}(hN:X.N.Nodup)(M:List Str)(kn:List (Str×NameKind))(N:List Str)(sub:Qw){hsb:(sub.filterMap id).Nodup}(hi:DI K mg X ES tg iter I)(hg:N.Nodup->∀cl C s₂ H fp,DG K mg (bR X N scope cl C s₂ H fp) tg g)(ht:N.Nodup->∀cl C s₂ H fp,DTs K mg (bR X N scope cl C s₂ H fp) (λ_=>E0) ifs t)(he:N.Nodup->∀cl C s₂ H fp,DE K mg (bR X N scope cl C s₂ H fp) (λ_=>E0) elt p)(hsw:swapsWith (.ListComp elt [⟨tg,iter,ifs,0⟩] scope pos) (some (.Name xT px)) spos.line X.env=pure true:=by rfl)(hnd:N.Nodup:=by decide)(hc:X.calm=true:=by rfl)(hix:X.N[iT]?=some xT:=by rfl)(hxl:Loc X.env.scope xT:=by first |exact Or.inl rfl |exact Or.inr rfl)(hM:X.N=M:=by rfl)(hkn:X.env.scope.names=kn:=by rfl)(hsub:qw M scope.names sub N=true:=by decide)(hk:scope.kind=.function:=by rfl)(hnc:∀x∈scope.names,x.2 ≠ .cell:=by decide)(f_:∀x∈scope.names,x.2=.local->scope.names.lookup x.1=some .local:=by decide)(hfr:x9 kn scope.names=true:=by decide)(hsl:sub.length=N.length:=by rfl)(hs:∀x,foldedSetIterable iter X.env x=pure x:=by intro _;rfl)(hf:X.fn xT=true\/X.env.scope.names.lookup xT=some .local:=by first |exact .inl rfl |exact .inr rfl |assumption):DS K mg X ES (.Assign [.Name xT px] (.ListComp elt [⟨tg,iter,ifs,0⟩] scope pos) spos) (aw ow iT (pLC I sub hsb g t p)):=
 ⟨PS.imp (JB hc hN hix hxl hi.ok hk hnc f_ (by subst hkn;exact vF hfr) hsl (by subst hM;exact tE hsub) (λcl C s H f=>(hg hnd cl C s H f).ok) (λcl C s H f=>(ht hnd cl C s H f).ok) (λcl C s H f=>(he hnd cl C s H f).ok) hsw hs hf) λD σ H q=>Ea σ H _ (zd D σ H q)⟩
end
inductive R3F where
 |ok (r:Rt) (mv:List Val) |exc (c:Str) (mv:List Val) |stuck
abbrev Fn3:=List Val->R3F
noncomputable def sl1 (b:Bool) (v:Val):Sl:=if b=true then .mu v else .sh v
noncomputable def sls (ms:List Bool) (vs:List Val):E3:=List.zipWith sl1 ms vs
noncomputable def aA:List Bool->List Val->E3
 |true::ms,v::vs=>.mu v::aA ms vs
 |true::ms,[]=>.no::aA ms []
 |false::ms,vs=>.no::aA ms vs
 | [],_=>[]
noncomputable def muV:List Bool->E3->Option (List Val)
 |true::ms,.mu v::e=>(muV ms e).map (v :: ·)
 |true::_,_=>none
 |false::ms,_::e=>muV ms e
 |false::_,[]=>none
 | [],_=>some []
noncomputable def fnV (ms:List Bool) (N:Nat) (F:MS3):Fn3:=λvs=>if vs.length=ms.length then (match F (sls ms vs++List.replicate (N-vs.length) .no) with
 |.nx e=>(match muV ms e with |some mv=>.ok (.val .non) mv |none=>.stuck)
 |.rt r e=>(match muV ms e with |some mv=>.ok r mv |none=>.stuck)
 |.exc c e=>(match muV ms e with |some mv=>.exc c mv |none=>.stuck)
 |_=>.stuck) else .stuck
def fq{ms:List Bool}{vs:List Val}{i:Nat}{s:Sl}(q:(sls ms vs)[i]?=some s):∃b v,ms[i]?=some b/\vs[i]?=some v/\s=sl1 b v:=by
 unfold sls at q;rw[OT] at q;cases h1:ms[i]? with
 |none=>rw[h1] at q;cases q
 |
  some b=>
  cases h2:vs[i]? with
  |none=>rw[h1,h2] at q;cases q
  |some v=>rw[h1,h2] at q;cases q;exact⟨b,v,rfl,rfl,rfl⟩
theorem ig:∀{ms:List Bool}{e:E3}{mv:List Val}{i:Nat}{s:Sl},muV ms e=some mv->(aA ms mv)[i]?=some s->(ms[i]?=some false/\s=.no)\/(ms[i]?=some true/\∃v,e[i]?=some (.mu v)/\s=.mu v)
 | [],_,_,_,_,_,q=>by unfold aA at q;simp at q
 |
  true::ms,.mu v::e,mv,i,s,q,q2=>by
  obtain⟨mv',z1,z2⟩:=Nq.mp (show (muV ms e).map (v :: ·)=some mv from q);subst z2;cases i with
  |zero=>
   right;have:Sl.mu v=s:=by simpa [aA] using q2
   subst this;exact⟨rfl,v,rfl,rfl⟩
  |
   succ i=>
   have:=ig (i:=i) (s:=s) z1 (by simpa [aA] using q2)
   simpa using this
 |true::ms,[],mv,i,s,q,q2=>by cases q
 |true::ms,.no::e,mv,i,s,q,q2=>by cases q
 |true::ms,.sh v::e,mv,i,s,q,q2=>by cases q
 |true::ms,.ow v::e,mv,i,s,q,q2=>by cases q
 |true::ms,.lo v::e,mv,i,s,q,q2=>by cases q
 |true::ms,.lm v::e,mv,i,s,q,q2=>by cases q
 |false::ms,[],mv,i,s,q,q2=>by cases q
 |
  false::ms,t::e,mv,i,s,q,q2=>by
  cases i with
  |zero=>
   left;have:Sl.no=s:=by simpa [aA] using q2
   exact⟨rfl,this.symm⟩
  |
   succ i=>
   have:=ig (i:=i) (s:=s) (show muV ms e=some mv from q) (by simpa [aA] using q2)
   simpa using this
theorem ox:∀{ms:List Bool}{e:E3}{mv:List Val}{i:Nat},muV ms e=some mv->ms[i]?=some true->∃v,e[i]?=some (.mu v)/\(aA ms mv)[i]?=some (.mu v)
 | [],_,_,i,_,q=>by simp at q
 |
  true::ms,.mu v::e,mv,i,q,q2=>by
  obtain⟨mv',z1,z2⟩:=Nq.mp (show (muV ms e).map (v :: ·)=some mv from q);subst z2;cases i with
  |zero=>exact⟨v,rfl,rfl⟩
  |succ i=>obtain⟨u,y1,y2⟩:=ox (i:=i) z1 (by simpa using q2);exact⟨u,by simpa using y1,by simpa [aA] using y2⟩
 |true::ms,[],mv,i,q,q2=>by cases q
 |true::ms,.no::e,mv,i,q,q2=>by cases q
 |true::ms,.sh v::e,mv,i,q,q2=>by cases q
 |true::ms,.ow v::e,mv,i,q,q2=>by cases q
 |true::ms,.lo v::e,mv,i,q,q2=>by cases q
 |true::ms,.lm v::e,mv,i,q,q2=>by cases q
 |false::ms,[],mv,i,q,q2=>by cases q
 |
  false::ms,t::e,mv,i,q,q2=>by
  cases i with
  |zero=>simp at q2
  |succ i=>obtain⟨u,y1,y2⟩:=ox (i:=i) (show muV ms e=some mv from q) (by simpa using q2);exact⟨u,by simpa using y1,by simpa [aA] using y2⟩
theorem hZ:∀{ms:List Bool}{mv:List Val},(aA ms mv).length=ms.length
 | [],_=>rfl
 |true::ms,v::mv=>by show (aA ms mv).length+1=ms.length+1;rw[hZ]
 |true::ms,[]=>by show (aA ms []).length+1=ms.length+1;rw[hZ]
 |false::ms,mv=>by show (aA ms mv).length+1=ms.length+1;rw[hZ]
noncomputable def iJ (i:Nat):List Tm->Bool
 |.bor j::ts=>(i==j) || iJ i ts
 |_::ts=>iJ i ts
 | []=>false
noncomputable def iU (i:Nat):List Bool->List Tm->Bool
 |true::ms,.bor j::ts=>(i==j) || iU i ms ts
 |_::ms,_::ts=>iU i ms ts
 |_,_=>false
noncomputable def okA (e:E3):List Bool->List Tm->Bool
 |true::ms,.bor i::ts=>((e[i]?).bind Sl.mv).isSome && !(iJ i ts)&&okA e ms ts
 |true::_,_::_=>false
 |false::ms,.bor i::ts=>!(iU i ms ts)&&okA e ms ts
 |false::ms,_::ts=>okA e ms ts
 | [],[]=>true
 |_,_=>false
noncomputable def nZ (b:Bool) (t:Tm):Option Nat:=match b,t with
 |true,.bor i=>some i
 |_,_=>none
noncomputable def aL (ms:List Bool) (ts:List Tm):List (Option Nat):=List.zipWith nZ ms ts
noncomputable def aJ (e:E3):List Bool->List Tm->List Nat
 |false::ms,.bor i::ts=>(match e[i]? with
  |some (.sh _)=>aJ e ms ts
  |_=>i::aJ e ms ts)
 |_::ms,_::ts=>aJ e ms ts
 |_,_=>[]
mutual
def flatV:Val->Bool
 |.tup xs=>flatVs xs
 |.lst _=>false
 |.kl _=>false
 |.dct _=>false
 |.set _=>false
 |_=>true
def flatVs:List Val->Bool
 | []=>true
 |v::vs=>flatV v&&flatVs vs
end
noncomputable def mE:List (Key×Val)->Bool
 | []=>true
 |(_,v)::vs=>flatV v&&mE vs
noncomputable def cG:Val->Bool
 |.lst xs=>flatVs xs
 |.dct xs=>mE xs
 |.set _=>true
 |_=>false
noncomputable def kM:Rt->Bool
 |.val v=>flatV v
 |.new v=>cG v
 |.par _=>true
 |.pr v u=>flatV v&&cG u
noncomputable def nT (e:E3):List Nat->Option E3
 | []=>some e
 |i::is=>match cX e (.bor i) with
  |some (e1,_)=>nT e1 is
  |none=>none
noncomputable def Rt.tm (ts:List Tm):Rt->Tm
 |.val v=>.val v
 |.new v=>.new v
 |.par i=>(ts[i]?).getD (.val .non)
 |.pr v u=>.val (.tup [v,u])
noncomputable def Dt (ms:List Bool) (G:Fn3) (A:MA3) (e:E3):R3 Tm:=(A e).bind λts e1=>match rss e1 ts with
 |none=>.stuck
 |some vs=>if okA e1 ms ts=true then (match G vs with
  |.stuck=>.stuck
  |.ok r mv=>if (aJ e1 ms ts).isEmpty || (kM r&&mv.all cG) then .ok (r.tm ts) (aS (aL ms ts) (aA ms mv) e1) else (match nT e1 (aJ e1 ms ts) with
   |some e2=>.ok (r.tm ts) (aS (aL ms ts) (aA ms mv) e2)
   |none=>.stuck)
  |.exc c mv=>if (aJ e1 ms ts).isEmpty || mv.all cG then .exc c (aS (aL ms ts) (aA ms mv) e1) else .stuck) else .stuck
section
variable{K:W.Frag}{mg:Qt}{P P':Addr->Prop}{H H':Hp}
def Rd.flat(l:LeH H H')(f:flatV v=true)(r:Rd K mg P H d v):Rd K mg P' H' d v:=
 @Rd.rec K mg P H (λd v _=>flatV v=true->Rd K mg P' H' d v) (λo v _=>flatV v=true->Rd K mg P' H' .non v) (λds vs _=>flatVs vs=true->Rds K mg P' H' ds vs) (λws us _=>True) (λ_=>.non) (λb _=>.bl b) (λi _=>.int i) (λx _=>.str x) (λn _=>.ty n) (λm _=>.glb m) (λm e _=>.exc m (l.ext _ _ e)) (λh _ ih f=>.tup (l.sqT h) (ih f)) (λ_ _ _ f=>absurd f B_) (λ_ _ r _ f=>by cases r <;> exact absurd f B_) (λ_ _ f=>absurd f B_) (λ_ _ f=>absurd f B_) (λ_ _ f=>absurd f B_) (λ_ _ f=>absurd f B_) (λ_=>.nil) (λ_ _ a b f=>.cons (a (u_ .. ▸ f).1) (b (u_ .. ▸ f).2)) trivial (λ_ _ _ _=>trivial) d v r f
def Rds.flat(l:LeH H H')(f:flatVs v=true)(r:Rds K mg P H ds v):Rds K mg P' H' ds v:=
 r.ind (M:=λds vs=>flatVs vs=true->Rds K mg P' H' ds vs) (λ_=>.nil) (λr _ ih f=>by rw[flatVs,u_] at f;exact .cons (Rd.flat l f.1 r) (ih f.2)) f
def Rk.flat(l:LeH H H')(f:mE v=true)(r:Rk K mg P H ds v):Rk K mg P' H' ds v:=
 r.ind (M:=λds vs=>mE vs=true->Rk K mg P' H' ds vs) (λ_=>.nil) (λr _ ih f=>by rw[mE,u_] at f;exact .cons (Rd.flat l f.1 r) (ih f.2)) f
def Rc.flat(l:LeH H H')(f:cG v=true)(r:Rc K mg P H o v):Rc K mg P' H' o v:=by
 cases r with
 |lst r=>exact .lst (Rds.flat l (by simpa [cG] using f) r)
 |fz r=>simp [cG] at f
 |dct r=>exact .dct (Rk.flat l (by simpa [cG] using f) r)
 |set xs nd=>exact .set xs nd
end
structure PFn where
 ms:List Bool
 G:Fn3
def nn(H:Hp)(a:Addr):Prop:=H a=none
def sp3(K:W.Frag)(mg:Qt)(f:PFn):Sp:=λvs H Q E=>∃Y ps us,us.length=f.ms.length/\Sat K mg Y (nn H) ps (sls f.ms us) (vs.map some) H/\match f.G us with
 |.ok r mv=>∀x H',Stp ps (sls f.ms us) H ps (aA f.ms mv) H'->RtR K mg Y (nn H) ps (aA f.ms mv) (vs.map some) H' x r->Q x H'
 |.exc c mv=>∀C H',Stp ps (sls f.ms us) H ps (aA f.ms mv) H'->Sat K mg Y (nn H) ps (aA f.ms mv) (vs.map some) H'->mg c=some (.ref C)->E (.ref C) none H'
 |.stuck=>False
noncomputable def fnP (ms:List Bool) (N:Nat) (c:PSt):PFn:=⟨ms,fnV ms N c.G⟩
section
variable{K:W.Frag}{mg:Qt}{X N0:Addr->Prop}{ps:Ns}{e:E3}{H H':Hp}{ms:List Bool}{us:List Val}{vs:List V}{k:Nat}
def FE(S:Sat K mg X N0 ps e σ H):Sat K mg X N0 (ps++List.replicate k none) (e++List.replicate k .no) (σ++List.replicate k none) H:=by
 have gns:∀{i n:Nat},(ps++List.replicate k (none:Option Addr))[i]?=some (some n)->ps[i]?=some (some n):=λ{i n} q=>by
  rw[P_] at q;split at q
  .exact q
  .rw[Om] at q;split at q <;> cases q
 refine⟨?_,?_,S.lh,S.xl,λi j n q1 q2=>S.inj i j n (gns q1) (gns q2),λi n q=>S.nx i n (gns q),λi s q=>?_,S.bs⟩
 .rw[H_,H_,OU,OU,S.l1]
 .rw[H_,H_,OU,OU,S.l2]
 .rw[P_] at q;split at q
  .rename_i hi;rw[NL (by rw[S.l2];exact hi),NL (by rw[S.l1];exact hi)];exact (S.sl i s q).mono (.of λn p=>⟨p.1,λz=>p.2 (by obtain⟨j,z⟩:=aT.mp z;exact aT.mpr ⟨j,gns z⟩)⟩) λ_ _ _ q _=>q
  .rename_i hi;rw[Om] at q;split at q
   .cases q;rw[OZ (by rw[S.l2];exact Nat.le_of_not_lt hi),Om,if_pos (by rw[S.l2];assumption)];rfl
   .cases q
def i5{Y:Addr->Prop}(hl:us.length=ms.length)(S:Sat K mg X N0 ps (sls ms us) σ H)(hXY:∀n,X n->Y n)(a:Stp (ps++List.replicate k none) (sls ms us++List.replicate k .no) H ns' e' H')(S2:Sat K mg Y N0 ns' e' σ' H')(qm:muV ms e'=some mv):
 Stp ps (sls ms us) H ps (aA ms mv) H'/\Sat K mg Y N0 ps (aA ms mv) σ H'/\∀n,Oc Y ns' n->Oc Y ps n:=by
 have lS:(sls ms us).length=ms.length:=by unfold sls;rw[OL];omega
 have ltS:∀{i:Nat},i<ms.length->i<(sls ms us).length:=λh=>by omega
 have ltP:∀{i:Nat},i<(sls ms us).length->i<ps.length:=λh=>S.l2.symm ▸ h;have kmu:∀{i:Nat},ms[i]?=some true->∃v u n o,e'[i]?=some (.mu v)/\(aA ms mv)[i]?=some (.mu v)/\(sls ms us)[i]?=some (.mu u)/\ns'[i]?=ps[i]?/\ps[i]?=some (some n)/\σ[i]?=some (some (.ref n))/\H' n=some o/\NotFz o/\Rc K mg (Oc Y ns') H' o v:=by intro i hi;obtain⟨v,y1,y2⟩:=ox qm hi;have hil:i<ms.length:=(D_.mp hi).1;obtain⟨u,y3,y4⟩:=a.mu i v y1;rw[NL (ltS hil)] at y3;rw[NL (ltP (ltS hil))] at y4;obtain⟨n,o,z1,z2,_⟩:=S.sl i _ y3;obtain⟨n',o',w1,w2,w3,w4,w5⟩:=S2.sl i _ y1;rw[y4,z1] at w1;cases w1;exact⟨v,u,n,o',y1,y2,y3,y4,z1,z2,w3,w4,w5⟩
 have kown:∀{i n:Nat},ps[i]?=some (some n)->ms[i]?=some true:=λ{i n} q=>by
  obtain⟨s,v,o,z1,z2,_⟩:=S.own q;obtain⟨b,u,y1,_,y2⟩:=fq z1;cases b with
  |true=>exact y1
  |false=>subst y2;rcases z2 with z2 |z2 <;> cases z2
 have koc:∀n,Oc Y ns' n->Oc Y ps n:=λn z=>⟨z.1,λy=>by obtain⟨i,y⟩:=aT.mp y;obtain⟨v,u,n',o,_,_,_,k1,k2,_⟩:=kmu (kown y);exact z.2 (aT.mpr ⟨i,by rw[k1];exact y⟩)⟩;refine⟨⟨a.le,a.dom,λm o q ht hm=>a.keep m o q ht λ⟨i,s,z1,z2,z3⟩=>hm ?_,λ_ _ q=>.inl q,λi s q hl'=>?_,λi s q hl'=>?_,λi v q=>?_,λi v q=>?_⟩,⟨?_,?_,λn z=>S.lh n (a.dom n z),S2.xl,S.inj,λi n q z=>?_,λi s q=>?_,S2.bs⟩,koc⟩
 .rw[P_] at z1;split at z1
  .rename_i hi;rw[NL (by rw[<- S.l2];exact hi)] at z2;exact⟨i,s,z1,z2,z3⟩
  .rw[Om] at z1;split at z1 <;> cases z1
 .obtain⟨b,u,_,_,y⟩:=fq q;subst y;cases b <;> cases hl'
 .rcases ig qm q with ⟨_,z⟩ |⟨_,v,_,z⟩ <;> subst z <;> cases hl'
 .rcases ig qm q with ⟨_,z⟩ |⟨z,_⟩
  .cases z
  .obtain⟨v',u,n,o,_,_,k1,_⟩:=kmu z;exact⟨u,k1,rfl⟩
 .obtain⟨b,u,y1,_,y2⟩:=fq q;cases b with
  |false=>cases y2
  |true=>obtain⟨v',u,n,o,_,k0,k1,_⟩:=kmu y1;exact⟨v',k0,rfl⟩
 .rw[S.l1,hZ];exact lS
 .rw[S.l2,hZ];exact lS
 .obtain⟨v,u,n',o,_,_,_,k1,k2,_⟩:=kmu (kown q);exact S2.nx i n (by rw[k1];exact q) z
 .rcases ig qm q with ⟨z,rfl⟩ |⟨z,v,z2,rfl⟩
  .have hil:i<ms.length:=(D_.mp z).1;have hi:i<(sls ms us).length:=ltS hil;obtain⟨b,u,y1,_,y2⟩:=fq (v_ hi);rw[z] at y1;cases y1;have k:=S.sl i _ (v_ hi);rw[y2] at k;exact k.1
  .obtain⟨v',u,n,o,k0,_,_,k1,k2,k3,k4,k5,k6⟩:=kmu z;rw[z2] at k0;cases k0;exact⟨n,o,k2,k3,k4,k5,k6.mono (.of koc)⟩
variable{P:Program}{w:World}{base:Heap}{fx:Str}{m_:Stmt}{n m:Nat}{pn N:List Str}{x:PSt}
def tW(sp:sp3 K mg (fnP ms m x) vs H Q E):vs.length=ms.length:=by obtain⟨Y,ps,us,hl,S,_⟩:=sp;have q:=S.l1;unfold sls at q;rw[p_,OL] at q;have hl':us.length=ms.length:=hl;have:(fnP ms m x).ms=ms:=rfl;rw[this] at q;omega
def rM{Q:VK}{E:XK}(sp:sp3 K mg (fnP ms N.length x) vs H Q E):rdS K mg (λ_=>E) x.G { nx:=λ_ H'=>Q .non H',rt:=Q } (gm N vs) H:=by
 have hv:=tW sp;obtain⟨Y,ps,us,hl,S0,p⟩:=sp;have hl:us.length=ms.length:=hl;have S0:Sat K mg Y (nn H) ps (sls ms us) (vs.map some) H:=S0;have S1:=FE (k:=N.length-vs.length) S0;refine⟨Y,nn H,_,_,S1,?_⟩;have p:match fnV ms N.length x.G us with
  |.ok r mv=>∀y H',Stp ps (sls ms us) H ps (aA ms mv) H'->RtR K mg Y (nn H) ps (aA ms mv) (vs.map some) H' y r->Q y H'
  |.exc c mv=>∀C H',Stp ps (sls ms us) H ps (aA ms mv) H'->Sat K mg Y (nn H) ps (aA ms mv) (vs.map some) H'->mg c=some (.ref C)->E (.ref C) none H'
  |.stuck=>False:=p
 unfold fnV at p;rw[if_pos hl] at p;have hvu:us.length=vs.length:=by omega
 rw[hvu] at p;cases q:x.G (sls ms us++List.replicate (N.length-vs.length) .no) with
 |stuck=>rw[q] at p;exact p.elim
 |bk _=>rw[q] at p;exact p.elim
 |ct _=>rw[q] at p;exact p.elim
 |
  nx e'=>
  rw[q] at p;intro H' σ' ns' a S2;try dsimp only at p
  cases qm:muV ms e' with
  |none=>rw[qm] at p;exact p.elim
  |some mv=>rw[qm] at p;obtain⟨a3,S3,koc⟩:=i5 hl S0 (λ_ z=>z) a S2 qm;exact p _ _ a3 ⟨S3,.non⟩
 |
  exc c e'=>
  rw[q] at p;intro H' σ' ns' C a S2 hC;try dsimp only at p
  cases qm:muV ms e' with
  |none=>rw[qm] at p;exact p.elim
  |some mv=>rw[qm] at p;obtain⟨a3,S3,koc⟩:=i5 hl S0 (λ_ z=>z) a S2 qm;exact p _ _ a3 S3 hC
 |
  rt r e'=>
  rw[q] at p;intro H' σ' ns' y a rr;try dsimp only at p
  cases qm:muV ms e' with
  |none=>rw[qm] at p;exact p.elim
  |
   some mv=>
   rw[qm] at p;cases r with
   |val v=>obtain⟨a3,S3,koc⟩:=i5 hl S0 (λ_ z=>z) a rr.1 qm;exact p _ _ a3 ⟨S3,rr.2.mono (.of koc)⟩
   |new v=>obtain⟨n,o,z1,z2,z3,z4,z5,z6,z7⟩:=rr;obtain⟨a3,S3,koc⟩:=i5 (Y:=Xn Y n) hl S0 (λ_ z=>.inl z) a z6 qm;exact p _ _ a3 ⟨n,o,z1,z2,z3,z4,z5,S3,z7.mono (.of koc)⟩
   |pr v u=>obtain⟨pp,d1,n,o,z0,z1,z2,z3,z4,z5,z6,z7,z8⟩:=rr;obtain⟨a3,S3,koc⟩:=i5 (Y:=Xn Y n) hl S0 (λ_ z=>.inl z) a z6 qm;exact p _ _ a3 ⟨pp,d1,n,o,z0,z1,z2,z3,z4,z5,S3,z7.mono (.of koc),z8.mono (.of koc)⟩
   |
    par i=>
    obtain⟨R1,R2,v,R3⟩:=rr;obtain⟨a3,S3,koc⟩:=i5 hl S0 (λ_ z=>z) a R1 qm;refine p _ _ a3 ⟨S3,?_,?_⟩;all_goals
     obtain⟨u,k1,k2⟩:=a.mu i v R3;have hi:i<(sls ms us).length:=by apply Decidable.byContradiction;intro hi;rw[OZ (Nat.le_of_not_lt hi),Om] at k1;split at k1 <;> cases k1
     rw[NL hi] at k1;rw[NL (by rw[S0.l2];exact hi)] at k2;obtain⟨m,o,w1,w2,_⟩:=S0.sl i _ k1
    .obtain⟨m',o',x1,x2,_⟩:=R1.sl i _ R3;rw[k2,w1] at x1;cases x1;rw[R2] at x2;cases x2;exact w2
    .obtain⟨v',y,_⟩:=a3.mu' i u k1;exact⟨v',y⟩
def okP(D:Def K mg fx m_)(S:FnScope N pn (aq m_))
 (hb:∀(kV doc pm:Value) (an:Option Addr) (cdv ct:Value) (us:List Value),us.length=pn.length->bindArgs (W.fnOf fx fx (cV m_) (bD m_) (aq m_) .none kV doc pm an cdv ct) ⟨us,[]⟩=pure (pn.zip us))
 (j_:N.Nodup->∀(f:Addr) (cdv:Value) (A:Around) (outer:List Env) (s:Shared) (H:Hp) (E:XK),Room k (A.deeper (envOfC fx (aq m_) s.heap.objs.size f cdv))->
  DSs K mg (eF (CX1 P w) P w K mg base N fx (aq m_) f cdv A outer s H E) (λ_=>E) (bD m_) x) (hn:ms.length=pn.length:=by rfl) (hm:N.length=m:=by rfl):Callee P w K mg base fx (k+1) pn (sp3 K mg (fnP ms m x)):=by
 subst hm;exact D.okR S hb (λvs H Q E sp=>by rw[<- hn];exact tW sp) λf cdv A outer s H vs Q E hr sp=>⟨_,(j_ S.nd f cdv A outer s H E hr).ok,rM sp⟩
end
theorem ou:∀{ts:List Tm}{k:Nat},ts[k]?=some (.bor i)->iJ i ts=true
 | [],_,q=>by simp at q
 |
  t::ts,0,q=>by
  have:t=.bor i:=by simpa using q
  subst this;simp [iJ]
 |
  t::ts,k+1,q=>by
  have:=ou (ts:=ts) (k:=k) (by simpa using q)
  cases t <;> simp [iJ,this]
theorem u7:∀{ms:List Bool}{ts:List Tm}{k:Nat},ms[k]?=some true->ts[k]?=some (.bor i)->iU i ms ts=true
 | [],_,_,q,_=>by simp at q
 |_::_,[],_,_,q=>by simp at q
 |
  b::ms,t::ts,0,q1,q=>by
  have:t=.bor i:=by simpa using q
  have:b=true:=by simpa using q1
  subst_vars;simp [iU]
 |
  b::ms,t::ts,k+1,q1,q=>by
  have:=u7 (ms:=ms) (ts:=ts) (k:=k) (by simpa using q1) (by simpa using q)
  cases b <;> cases t <;> simp [iU,this]
theorem kB:∀{ms:List Bool}{ts:List Tm}{k:Nat},okA e ms ts=true->ms[k]?=some true->∃i,ts[k]?=some (.bor i)/\∃u,(e[i]?).bind Sl.mv=some u
 | [],_,_,_,q=>by simp at q
 |b::ms,[],_,o,_=>by cases b <;> simp [okA] at o
 |
  b::ms,t::ts,0,o,q=>by
  have:b=true:=by simpa using q
  subst this;cases t with
  |bor i=>simp only[okA,u_] at o;exact⟨i,rfl,Oa.mp o.1.1⟩
  |_=>simp [okA] at o
 |
  b::ms,t::ts,k+1,o,q=>by
  have o':okA e ms ts=true:=by cases b <;> cases t <;> simp only[okA,u_] at o <;> first |exact o.2 |exact o |(simp at o;done)
  obtain⟨i,y⟩:=kB (k:=k) o' (by simpa using q);exact⟨i,by simpa using y⟩
theorem jd:∀{ms:List Bool}{ts:List Tm}{k j i:Nat},okA e ms ts=true->ms[k]?=some true->ts[k]?=some (.bor i)->ts[j]?=some (.bor i)->j=k
 | [],_,_,_,_,_,q,_,_=>by simp at q
 |b::ms,[],_,_,_,o,_,_,_=>by cases b <;> simp [okA] at o
 |b::ms,t::ts,0,0,i,o,q1,q2,q3=>rfl
 |
  b::ms,t::ts,0,j+1,i,o,q1,q2,q3=>by
  have h1:b=true:=by simpa using q1
  have h2:t=.bor i:=by simpa using q2
  subst h1 h2;simp only[okA,u_] at o
  have:=ou (i:=i) (ts:=ts) (k:=j) (by simpa using q3)
  rw[this] at o;simp at o
 |
  b::ms,t::ts,k+1,0,i,o,q1,q2,q3=>by
  have h2:t=.bor i:=by simpa using q3
  subst h2;have hm:=u7 (i:=i) (ms:=ms) (ts:=ts) (k:=k) (by simpa using q1) (by simpa using q2);have hb:=ou (i:=i) (ts:=ts) (k:=k) (by simpa using q2);cases b <;> simp [okA,hm,hb] at o
 |
  b::ms,t::ts,k+1,j+1,i,o,q1,q2,q3=>by
  have o':okA e ms ts=true:=by cases b <;> cases t <;> simp only[okA,u_] at o <;> first |exact o.2 |exact o |(simp at o;done)
  exact NC (· + 1) (jd (k:=k) (j:=j) (i:=i) o' (by simpa using q1) (by simpa using q2) (by simpa using q3))
theorem oD:∀{ms:List Bool}{ts:List Tm},okA e ms ts=true->ms.length=ts.length
 | [],[],_=>rfl
 | [],_::_,o=>by simp [okA] at o
 |b::ms,[],o=>by cases b <;> simp [okA] at o
 |
  b::ms,t::ts,o=>by
  have o':okA e ms ts=true:=by cases b <;> cases t <;> simp only[okA,u_] at o <;> first |exact o.2 |exact o |(simp at o;done)
  exact NC (· + 1) (oD o')
theorem lP:∀{ms:List Bool}{ts:List Tm}{k i:Nat},ms[k]?=some false->ts[k]?=some (.bor i)->(∀v,e[i]?≠some (.sh v))->i∈aJ e ms ts
 | [],_,_,_,q,_,_=>by simp at q
 |_::_,[],_,_,_,q,_=>by simp at q
 |
  b::ms,t::ts,0,i,q1,q2,hn=>by
  have h1:b=false:=by simpa using q1
  have h2:t=.bor i:=by simpa using q2
  subst h1 h2;unfold aJ;split
  .rename_i v q;exact absurd q (hn v)
  .exact s_ ..
 |
  b::ms,t::ts,k+1,i,q1,q2,hn=>by
  have ih:=lP (ms:=ms) (ts:=ts) (k:=k) (by simpa using q1) (by simpa using q2) hn;cases b <;> cases t <;> simp only[aJ] <;> first |exact ih |(split;exact ih;exact q_ _ ih)
def fh{ms:List Bool}{ts:List Tm}{k i:Nat}(q:(aL ms ts)[k]?=some (some i)):ms[k]?=some true/\ts[k]?=some (.bor i):=by
 unfold aL at q;rw[OT] at q;cases h1:ms[k]? with
 |none=>rw[h1] at q;cases q
 |
  some b=>
  cases h2:ts[k]? with
  |none=>rw[h1,h2] at q;cases q
  |some t=>rw[h1,h2] at q;have q':nZ b t=some i:=G_ q;cases b <;> cases t <;> first |(cases q';done) |(cases q';exact⟨rfl,rfl⟩)
def E5{ms:List Bool}{ts:List Tm}{k i:Nat}(q1:ms[k]?=some true)(q2:ts[k]?=some (.bor i)):(aL ms ts)[k]?=some (some i):=by unfold aL;rw[OT,q1,q2];rfl
theorem vM:∀{ts:List Tm}{vs:List Val}{k:Nat}{v:Val},rss e ts=some vs->vs[k]?=some v->∃t,ts[k]?=some t/\rs e t=some v
 | [],_,_,_,q,q2=>by cases q;simp at q2
 |
  t::ts,vs,k,v,q,q2=>by
  unfold rss at q;split at q
  .rename_i u us e1 e2;cases q;cases k with
   |zero=>
    have:u=v:=by simpa using q2
    subst this;exact⟨t,rfl,e1⟩
   |succ k=>obtain⟨t',y1,y2⟩:=vM (k:=k) e2 (by simpa using q2);exact⟨t',by simpa using y1,y2⟩
  .cases q
theorem oT:∀{ts:List Tm}{vs:List Val},rss e ts=some vs->vs.length=ts.length
 | [],_,q=>by cases q;rfl
 |
  t::ts,vs,q=>by
  unfold rss at q;split at q
  .rename_i u us e1 e2;cases q;exact NC (· + 1) (oT e2)
  .cases q
theorem jo:∀{ms:List Bool}{mv:List Val}{j:Nat}{v:Val},(aA ms mv)[j]?=some (.mu v)->v∈mv
 | [],_,_,_,q=>by simp [aA] at q
 |true::ms,u::mv,0,v,q=>by
  have:Sl.mu u=.mu v:=by simpa [aA] using q
  cases this;exact s_ ..
 |true::ms,u::mv,j+1,v,q=>q_ _ (jo (ms:=ms) (mv:=mv) (j:=j) (by simpa [aA] using q))
 |true::ms,[],0,v,q=>by simp [aA] at q
 |true::ms,[],j+1,v,q=>jo (ms:=ms) (mv:=[]) (j:=j) (by simpa [aA] using q)
 |false::ms,mv,0,v,q=>by simp [aA] at q
 |false::ms,mv,j+1,v,q=>jo (ms:=ms) (mv:=mv) (j:=j) (by simpa [aA] using q)
theorem lO:∀{ms:List Bool}{ts:List Tm}{i:Nat},i∈aJ e ms ts->∃k:Nat,ms[k]?=some false/\ts[k]?=some (.bor i)
 | [],_,_,q=>by simp [aJ] at q
 |_::_,[],_,q=>by simp [aJ] at q
 |
  b::ms,t::ts,i,q=>by
  have up:i∈aJ e ms ts->∃k:Nat,(b::ms)[k]?=some false/\(t::ts)[k]?=some (.bor i):=λz=>by obtain⟨k,y1,y2⟩:=lO z;exact⟨k+1,by simpa using y1,by simpa using y2⟩
  cases b <;> cases t <;> simp only[aJ] at q <;> first |exact up q |skip
  split at q
  .exact up q
  .rcases J_.mp q with rfl |q
   .exact⟨0,rfl,rfl⟩
   .exact up q
def F9(q:cX e (.bor i)=some (e1,v)):(∀j,j≠i->e1[j]?=e[j]?)/\e1[i]?=some (.sh v)/\(e[i]?).bind Sl.val=some v:=by
 unfold cX at q;dsimp only at q;split at q
 .rename_i u q1;cases q;exact⟨λ_ _=>rfl,q1,by rw[q1];rfl⟩
 .rename_i u q1;cases q;exact⟨λj z=>cE z,cW (D_.mp q1).1,by rw[q1];rfl⟩
 .cases q
theorem pj:∀{ms:List Bool}{ts:List Tm},(∀(k i:Nat),ms[k]?=some true->ts[k]?=some (.bor i)->e2[i]?=e[i]?)->okA e ms ts=true->okA e2 ms ts=true
 | [],[],_,o=>rfl
 | [],_::_,_,o=>by simp [okA] at o
 |b::ms,[],_,o=>by cases b <;> simp [okA] at o
 |
  b::ms,t::ts,hk,o=>by
  have o':okA e ms ts=true:=by cases b <;> cases t <;> simp only[okA,u_] at o <;> first |exact o.2 |exact o |(simp at o;done)
  have ih:=pj (λk i q1 q2=>hk (k+1) i (by simpa using q1) (by simpa using q2)) o';cases b with
  |false=>cases t <;> simp only[okA,u_] at o ⊢ <;> first |exact⟨o.1,ih⟩ |exact ih
  |
   true=>
   cases t with
   |bor i=>simp only[okA,u_] at o ⊢;rw[hk 0 i rfl rfl];exact⟨o.1,ih⟩
   |_=>simp [okA] at o
theorem uh:∀{ms:List Bool}{ts:List Tm},(∀(k i:Nat),ms[k]?=some false->ts[k]?=some (.bor i)->∃v,e[i]?=some (.sh v))->aJ e ms ts=[]
 | [],_,_=>by simp [aJ]
 |_::_,[],_=>by simp [aJ]
 |
  b::ms,t::ts,hk=>by
  have ih:=uh (λk i q1 q2=>hk (k+1) i (by simpa using q1) (by simpa using q2));cases b <;> cases t <;> simp only[aJ] <;> first |exact ih |skip
  rename_i i;obtain⟨v,q⟩:=hk 0 i rfl rfl;rw[q];exact ih
theorem pD(hv:∀i:Nat,(e2[i]?).bind Sl.val=(e[i]?).bind Sl.val):∀(ts:List Tm),rss e2 ts=rss e ts
 | []=>rfl
 |
  t::ts=>by
  unfold rss;rw[pD hv ts];have:rs e2 t=rs e t:=by
   cases t with
   |bor i=>exact hv i
   |_=>rfl
  rw[this]
def Cc(ok:okA e ms ts=true):Lnk (aL ms ts) e (sls ms vs):=by
 refine⟨λj k i q1 q2=>jd ok (fh q2).1 (fh q2).2 (fh q1).2,λj v q=>?_,λj s q hm=>?_⟩
 .obtain⟨b,u,q1,_,q2⟩:=fq q;cases b with
  |false=>cases q2
  |true=>obtain⟨i,y1,w,y2⟩:=kB ok q1;obtain⟨s,z1,z2⟩:=NF.mp y2;exact⟨i,s,E5 q1 y1,z1,by cases s <;> first |rfl |cases z2⟩
 .obtain⟨b,u,q1,_,q2⟩:=fq q;cases b with
  |false=>subst q2;cases hm
  |true=>exact⟨u,q2⟩
section
variable{K:W.Frag}{mg:Qt}{X N0 L:Addr->Prop}{ns:Ns}{e e2:E3}{σ:St}{H H':Hp}{ms:List Bool}{ts:List Tm}{ds:List V}{vs:List Val}{E:XK}{Q:VK}
theorem TsR.get:∀{ds:List V}{ts:List Tm}{k:Nat}{t:Tm},TsR K mg X ns σ H ds ts->ts[k]?=some t->∃d,ds[k]?=some d/\((∃v,t=.val v/\Rd K mg (Oc X ns) H d v)\/∃i,t=.bor i/\σ[i]?=some (some d))
 |_,_,_,_,.nil,q=>by simp at q
 |_,_,0,_,.val r rr,q=>by have:=(by simpa using q:Tm.val _=_);subst this;exact⟨_,rfl,.inl ⟨_,rfl,r⟩⟩
 |_,_,0,_,.bor r rr,q=>by have:=(by simpa using q:Tm.bor _=_);subst this;exact⟨_,rfl,.inr ⟨_,rfl,r⟩⟩
 |_,_,k+1,t,.val r rr,q=>by obtain⟨d,y⟩:=rr.get (k:=k) (by simpa using q);exact⟨d,by simpa using y⟩
 |_,_,k+1,t,.bor r rr,q=>by obtain⟨d,y⟩:=rr.get (k:=k) (by simpa using q);exact⟨d,by simpa using y⟩
def Xc(X:Addr->Prop)(ns:Ns)(e:E3)(ms:List Bool)(ts:List Tm)(n:Addr):Prop:=(X n\/some n∈ns)/\some n∉aW (aL ms ts) ns/\∀i∈aJ e ms ts,ns[i]?≠some (some n)
def mh(S:Sat K mg X N0 ns e σ H)(rt:TsR K mg X ns σ H ds ts)(qv:rss e ts=some vs)(ok:okA e ms ts=true):
 Sat K mg (Xc X ns e ms ts) (nn H) (aW (aL ms ts) ns) (sls ms vs) (ds.map some) H:=by
 have l1:=oD ok;have l2:=oT qv;have l3:=TsR.len rt;have hs:nK (aL ms ts):=λj k i q1 q2=>jd ok (fh q2).1 (fh q2).2 (fh q1).2;have mv:Mov (Oc X ns) (Oc (Xc X ns e ms ts) (aW (aL ms ts) ns)) H H:=.of λn p=>⟨λz=>by
  rcases z.1 with z |z
  .exact p.1 z
  .exact p.2 z,λz=>p.2 (sG z)⟩
 refine⟨?_,?_,λ_ z=>z,λn z=>?_,λj k n q1 q2=>?_,λj n q z=>z.2.1 (aT.mpr ⟨j,q⟩),λk s q=>?_,S.bs⟩
 .unfold sls;rw[p_,OL];omega
 .unfold aW aL sls;rw[p_,OL,OL];omega
 .rcases z.1 with z |z
  .exact S.xl n z
  .obtain⟨i,z⟩:=aT.mp z;obtain⟨_,_,o,_,_,_,_,q',_⟩:=S.own z;exact⟨o,q'⟩
 .obtain⟨i,y1,y2⟩:=cA q1;obtain⟨i',y3,y4⟩:=cA q2
  have:=S.inj i i' n y2 y4
  subst this;exact hs j k i y1 y3
 .obtain⟨b,v,q1,q2,rfl⟩:=fq q;obtain⟨t,q3,q4⟩:=vM qv q2;obtain⟨d,q5,q6⟩:=rt.get q3;have qd:(ds.map some)[k]?=some (some d):=by rw[Nm,q5];rfl
  rw[qd];have qn:(aW (aL ms ts) ns)[k]?=some ((nZ b t).bind λi=>(ns[i]?).bind id):=by unfold aW aL;rw[Nm,OT,q1,q3];rfl
  rw[qn];cases b with
  |
   true=>
   obtain⟨i,y1,u,y2⟩:=kB ok q1;rw[q3] at y1;cases y1;have q4':(e[i]?).bind Sl.val=some v:=q4;obtain⟨s,z1,z2⟩:=NF.mp y2;rw[z1] at q4';have hv:s.val=some v:=q4';have huv:u=v:=by cases s <;> first |cases z2;done |(cases z2;cases hv;rfl)
   subst huv;have hns:∃n,ns[i]?=some (some n):=by
    have y:=S.sl i s z1;cases s with
    |ow v=>obtain⟨n,o,y1,_⟩:=y;exact⟨n,y1⟩
    |mu v=>obtain⟨n,o,y1,_⟩:=y;exact⟨n,y1⟩
    |_=>cases z2
   obtain⟨n,hn⟩:=hns;obtain⟨n',o,k1,k0,k2,k3,k4,_⟩:=S.write z1 z2;rcases q6 with ⟨_,z,_⟩ |⟨i',z,q6⟩
   .cases z
   .cases z;rw[q6] at k1;cases k1;obtain⟨_,_,_,_,_,_,w,_⟩:=S.own hn;rw[q6] at w;cases w;exact⟨n,o,by show some ((ns[i]?).bind id)=_;rw[hn];rfl,rfl,k2,k3,k4.mono mv⟩
  |
   false=>
   refine⟨by cases t <;> rfl,d,rfl,?_⟩;rcases q6 with ⟨u,rfl,q6⟩ |⟨i,rfl,q6⟩
   .cases q4;exact q6.mono mv
   .obtain⟨s,z1,z2⟩:=NF.mp (show (e[i]?).bind Sl.val=some v from q4);have y:=S.sl i s z1;by_cases hsh:∃w,s=.sh w
    .obtain⟨w,rfl⟩:=hsh;cases z2;obtain⟨_,x,w1,w2⟩:=y;rw[q6] at w1;cases w1;exact w2.mono mv
    .have hl:=lP q1 q3 λw z=>hsh ⟨w,by rw[z1] at z;exact G_ z⟩;have:∃n o,ns[i]?=some (some n)/\σ[i]?=some (some (.ref n))/\H n=some o/\Rc K mg (Oc X ns) H o v:=by
      cases s with
      |no=>cases z2
      |sh w=>exact absurd ⟨w,rfl⟩ hsh
      |ow w=>cases z2;obtain⟨n,o,y1,y2,_,y3,_,y4⟩:=y;exact⟨n,o,y1,y2,y3,y4⟩
      |lo w=>cases z2;obtain⟨n,o,y1,y2,_,y3,_,y4⟩:=y;exact⟨n,o,y1,y2,y3,y4⟩
      |mu w=>cases z2;obtain⟨n,o,y1,y2,y3,_,y4⟩:=y;exact⟨n,o,y1,y2,y3,y4⟩
      |lm w=>cases z2;obtain⟨n,o,y1,y2,y3,_,y4⟩:=y;exact⟨n,o,y1,y2,y3,y4⟩
     obtain⟨n,o,w1,w2,w3,w4⟩:=this;rw[q6] at w2;cases w2;refine .cell ⟨λy=>y.2.2 i hl w1,λy=>?_⟩ w3 (w4.mono mv);obtain⟨j,y⟩:=aT.mp y;obtain⟨i',y1,y2⟩:=cA y;obtain⟨y3,y4⟩:=fh y1
     have:=S.inj i' i n y2 w1
     subst this
     have:=jd ok y3 y4 q3
     subst this;rw[q1] at y3;cases y3
theorem qW:∀{is:List Nat}{ns:Ns}{e e2:E3},Sat K mg X N0 ns e σ H->(∀i∈is,∃d,σ[i]?=some (some d))->nT e is=some e2->∃h_,Sat K mg X N0 h_ e2 σ H/\Stp ns e H h_ e2 H/\(∀i,i∉is->e2[i]?=e[i]?)/\(∀i∈is,∃v,e2[i]?=some (.sh v))/\∀i:Nat,(e2[i]?).bind Sl.val=(e[i]?).bind Sl.val
 | [],ns,e,e2,S,_,q=>by cases q;exact⟨ns,S,.refl,λ_ _=>rfl,(λ_ z=>by cases z),λ_=>rfl⟩
 |
  i::is,ns,e,e2,S,hd,q=>by
  unfold nT at q;split at q
  .rename_i e1 v q1;obtain⟨d,hd0⟩:=hd i (s_ ..);obtain⟨ns1,S1,a1,r1⟩:=fT (L:=X) (t:=.bor i) S hd0 q1;obtain⟨h_,S2,a2,k1,k2,k3⟩:=qW S1 (λj z=>hd j (q_ _ z)) q;obtain⟨y1,y2,y3⟩:=F9 q1;refine⟨h_,S2,a1.trans S a2,λj hj=>?_,λj hj=>?_,λj=>?_⟩
   .rw[J_,not_or] at hj;rw[k1 j hj.2,y1 j hj.1]
   .by_cases z:j∈is
    .exact k2 j z
    .rcases J_.mp hj with rfl |hj
     .exact⟨v,by rw[k1 j z];exact y2⟩
     .exact absurd hj z
   .rw[k3 j];by_cases z:j=i
    .subst z;rw[y2,y3];rfl
    .rw[y1 j z]
  .cases q
def uY(hl:aJ e ms ts=[])(z:¬ Xc X ns e ms ts n)(z2:some n∉aW (aL ms ts) ns):Oc X ns n:=
 ⟨λy=>z ⟨.inl y,z2,λi hi=>by rw[hl] at hi;cases hi⟩,λy=>z ⟨.inr y,z2,λi hi=>by rw[hl] at hi;cases hi⟩⟩
def l7{Y:Addr->Prop}(S:Sat K mg X N0 ns e σ H)(ok:okA e ms ts=true)(a:Stp (aW (aL ms ts) ns) (sls ms vs) H (aW (aL ms ts) ns) (aA ms mv) H')(hf:aJ e ms ts=[]\/mv.all cG=true)(hY:∀n,Y n->(∃o,H' n=some o)/\H n=none)(S3:Sat K mg (λn=>Xc X ns e ms ts n\/Y n) N1 (aW (aL ms ts) ns) (aA ms mv) (ds.map some) H'):
 Sat K mg (λn=>X n\/Y n) N0 ns (aS (aL ms ts) (aA ms mv) e) σ H'/\Stp ns e H ns (aS (aL ms ts) (aA ms mv) e) H'/\(aJ e ms ts=[]->∀m,Oc (λn=>Xc X ns e ms ts n\/Y n) (aW (aL ms ts) ns) m->Oc (λn=>X n\/Y n) ns m):=by
 have kk:aJ e ms ts=[]->∀m,Oc (λn=>Xc X ns e ms ts n\/Y n) (aW (aL ms ts) ns) m->Oc (λn=>X n\/Y n) ns m:=λhf m z=>by
  have:=uY hf (λy=>z.1 (.inl y)) z.2
  exact⟨λy=>by
   rcases y with y |y
   .exact this.1 y
   .exact z.1 (.inr y),this.2⟩
 obtain⟨S4,a4⟩:=S.back (Y:=λn=>X n\/Y n) (Cc (vs:=vs) ok) a S3.bs (λm z=>by
  rcases z with z |z
  .obtain⟨o,z'⟩:=S.xl m z;refine⟨?_,.inl z⟩;cases qh:H' m with
   |none=>rw[a.dom m qh] at z';cases z'
   |some o'=>exact⟨o',rfl⟩
  .exact⟨(hY m z).1,.inr (hY m z).2⟩) (λ_ z=>.inl z) λj w n' q1 q2=>by
  obtain⟨s,u,o,b1,b2,b3,b4,b5,b6,b7⟩:=S3.own q2;rw[q1] at b1;cases b1;cases b3;rcases hf with hf |hf
  .exact⟨o,b5,b6,b7.mono (.of (kk hf))⟩
  .exact⟨o,b5,b6,b7.flat .refl (NB.mp hf w (jo q1))⟩
 exact⟨S4,a4,kk⟩
def Sat.eqX{X Y:Addr->Prop}(S:Sat K mg X N0 ns e σ H)(h:∀n,X n ↔ Y n):Sat K mg Y N0 ns e σ H:=by have:X=Y:=funext λn=>propext (h n);exact this ▸ S
def oJ(S:Sat K mg X N0 ns e σ H)(ok:okA e ms ts=true)(a:Stp (aW (aL ms ts) ns) (sls ms vs) H (aW (aL ms ts) ns) (aA ms mv) H')(hf:aJ e ms ts=[]\/mv.all cG=true)(S3:Sat K mg (Xc X ns e ms ts) N1 (aW (aL ms ts) ns) (aA ms mv) (ds.map some) H'):
 Sat K mg X N0 ns (aS (aL ms ts) (aA ms mv) e) σ H'/\Stp ns e H ns (aS (aL ms ts) (aA ms mv) e) H'/\(aJ e ms ts=[]->∀m,Oc (Xc X ns e ms ts) (aW (aL ms ts) ns) m->Oc X ns m):=by
 obtain⟨S4,a4,_⟩:=l7 (Y:=λ_=>False) S ok a hf (λ_ z=>z.elim) (S3.eqX λn=>⟨.inl,λz=>z.elim id (·.elim)⟩);exact⟨S4.eqX λn=>⟨λz=>z.elim id (·.elim),.inl⟩,a4,λhf m z=>uY hf z.1 z.2⟩
def vT(S:Sat K mg X N0 ns e σ H)(hL:∀a,H a=none->L a)(rt:TsR K mg X ns σ H ds ts)(ok:okA e ms ts=true)(hf:aJ e ms ts=[]\/(kM r=true/\mv.all cG=true))(p:PG3 K mg X N0 ns e σ H E (KE K mg X N0 L σ Q) (.ok (r.tm ts) (aS (aL ms ts) (aA ms mv) e)))
 (a:Stp (aW (aL ms ts) ns) (sls ms vs) H (aW (aL ms ts) ns) (aA ms mv) H') (rr:RtR K mg (Xc X ns e ms ts) (nn H) (aW (aL ms ts) ns) (aA ms mv) (ds.map some) H' x r):Q x H':=by
 have hf2:aJ e ms ts=[]\/mv.all cG=true:=hf.imp id (·.2);cases r with
 |
  val v=>
  obtain⟨S3,rv⟩:=rr;obtain⟨S4,a4,kk⟩:=oJ S ok a hf2 S3;refine p _ _ a4 S4 x ?_;rcases hf with hf |hf
  .exact rv.mono (.of (kk hf))
  .exact rv.flat .refl hf.1
 |
  new v=>
  obtain⟨n,o,rfl,z2,z3,z4,z5,S3,z7⟩:=rr;obtain⟨S4,a4,kk⟩:=l7 (Y:=λm=>m=n) S ok a hf2 (λm z=>by subst z;exact⟨⟨o,z4⟩,z2⟩) S3;refine p _ _ a4 (S4.weak λ_ z=>.inl z) _ ⟨n,o,rfl,hL n z2,λy=>?_,z4,z5,S4,?_⟩
  .obtain⟨u,y⟩:=S.xl n y;rw[show H n=none from z2] at y;cases y
  .rcases hf with hf |hf
   .exact z7.mono (.of (kk hf))
   .exact z7.flat .refl hf.1
 |
  pr v u=>
  obtain⟨pp,d1,n,o,rfl,z1,z2,z3,z4,z5,S3,z6,z7⟩:=rr;obtain⟨S4,a4,kk⟩:=l7 (Y:=λm=>m=n) S ok a hf2 (λm z=>by subst z;exact⟨⟨o,z4⟩,z2⟩) S3;have on:Oc X ns n:=⟨λy=>(by
   obtain⟨u,y⟩:=S.xl n y;rw[show H n=none from z2] at y;cases y),λy=>by
   obtain⟨i,y⟩:=aT.mp y;exact S4.nx i n y (.inr rfl)⟩
  have wk:Mov (Oc (λm=>X m\/m=n) ns) (Oc X ns) H' H':=.of λm z=>⟨λc=>z.1 (.inl c),z.2⟩;refine p _ _ a4 (S4.weak λ_ z=>.inl z) _ (.tup z1 (.cons ?_ (.cons (.cell on z4 ?_) .nil)))
  .rcases hf with hf |hf
   .exact (z6.mono (.of (kk hf))).mono wk
   .exact z6.flat .refl (u_ _ _ ▸ hf.1).1
  .rcases hf with hf |hf
   .exact (z7.mono (.of (kk hf))).mono wk
   .exact z7.flat .refl (u_ _ _ ▸ hf.1).2
 |
  par i=>
  obtain⟨S3,w1,w,w2⟩:=rr;obtain⟨S4,a4,_⟩:=oJ S ok a hf2 S3;refine p _ _ a4 S4 x ?_;obtain⟨u,x1,_⟩:=a.mu i w w2;obtain⟨b,u',x2,_,x3⟩:=fq x1;cases b with
  |false=>cases x3
  |
   true=>
   obtain⟨k,y1,_⟩:=kB ok x2;obtain⟨d',y2,z⟩:=rt.get y1;have e1:(Rt.par i).tm ts=.bor k:=by show (ts[i]?).getD _=_;rw[y1];rfl
   rw[e1];rcases z with ⟨_,z,_⟩ |⟨j,z,z2⟩
   .cases z
   .cases z;rw[Nm,y2] at w1;cases w1;exact z2
theorem C8{f:PFn}(S:Sat K mg X N0 ns e σ H)(hL:∀a,H a=none->L a)(rt:TsR K mg X ns σ H ds ts)(p:PG3 K mg X N0 ns e σ H E (KE K mg X N0 L σ Q) (match rss e ts with
 |none=>.stuck
 |some vs=>if okA e f.ms ts=true then (match f.G vs with
  |.stuck=>.stuck
  |.ok r mv=>if (aJ e f.ms ts).isEmpty || (kM r&&mv.all cG) then .ok (r.tm ts) (aS (aL f.ms ts) (aA f.ms mv) e) else (match nT e (aJ e f.ms ts) with
   |some e2=>.ok (r.tm ts) (aS (aL f.ms ts) (aA f.ms mv) e2)
   |none=>.stuck)
  |.exc c mv=>if (aJ e f.ms ts).isEmpty || mv.all cG then .exc c (aS (aL f.ms ts) (aA f.ms mv) e) else .stuck) else .stuck)):sp3 K mg f ds H Q E:=by
 split at p
 .exact p.elim
 .rename_i vs
   qv
  split at p
  .rename_i ok;have a_:vs.length=f.ms.length:=by rw[oT qv,oD ok]
   split at p
   .exact p.elim
   .rename_i r mv q;split at p
    .rename_i hf;rw[O7,u_] at hf;exact⟨_,_,vs,a_,mh S rt qv ok,by rw[q];exact λx H' a rr=>vT S hL rt ok (hf.imp List.isEmpty_iff.mp id) p a rr⟩
    .split
      at p
     .rename_i e2 qd;obtain⟨h_,S2,a2,k1,k2,k3⟩:=qW S (λi hi=>by
       obtain⟨k,_,y⟩:=lO hi;obtain⟨d,_,z⟩:=rt.get y;rcases z with ⟨_,z,_⟩ |⟨j,z,z2⟩
       .cases z
       .cases z;exact⟨d,z2⟩) qd
      have ok2:okA e2 f.ms ts=true:=pj (λk i q1 q2=>k1 i λz=>by
       obtain⟨k',y1,y2⟩:=lO z
       have:=jd ok q1 q2 y2
       subst this;rw[q1] at y1;cases y1) ok
      have ln:aJ e2 f.ms ts=[]:=uh λk i q1 q2=>by
       by_cases z:i∈aJ e f.ms ts
       .exact k2 i z
       .rw[k1 i z];exact Classical.byContradiction λw=>z (lP q1 q2 λv y=>w ⟨v,y⟩)
      exact⟨_,_,vs,a_,mh S2 (rt.stp a2) (by rw[pD k3];exact qv) ok2,by rw[q];exact λx H' a rr=>vT S2 (λb z=>hL b z) (rt.stp a2) ok2 (.inl ln) (p.after S a2) a rr⟩
     .exact p.elim
   .rename_i c mv q;split at p
    .rename_i hf;rw[O7] at hf;refine⟨_,_,vs,a_,mh S rt qv ok,?_⟩;rw[q];intro C H' a S3 hC;obtain⟨S4,a4,_⟩:=oJ S ok a (hf.imp List.isEmpty_iff.mp id) S3;exact p _ _ C a4 S4 hC
    .exact p.elim
  .exact p.elim
end
noncomputable def ah (f:PFn) (a:PAs):PEx:=⟨22,Dt f.ms f.G a.G⟩
section
variable{K:W.Frag}{mg:Qt}{X:Cx}{ES:St->XK}{e:Expr}{es:List Expr}{A:PAs}{pos:Pos}{k:Nat}{ps:List Str}
def wA{f:PFn}(σ:St)(H:Hp)(Q:VK):rdE K mg ES (ah f A).G σ H Q->rdA K mg ES A.G σ H λvs H1=>sp3 K mg f vs H1 Q (ES σ):=λzz=>zz.el λY N0 L ns e S hl p=>
 ⟨Y,N0,ns,e,S,PG3.imp p S λts e1 ns1 H1 a1 S1 p1 xs r1=>C8 S1 (λa z=>hl a (a1.dom a z)) r1 p1⟩
def Bl{f:PFn}{x:Str}{p0:Pos}(C:Callee X.prog X.w X.K X.mg X.base x k ps (sp3 K mg f))(hr:Room k X.A)(hg:Gl X x)(hx:mV X ES)(ha:DA K mg X ES (e::es) A)
 (hdb:(x==("__debug__" : Str))=false) (he:starEach (e::es) X.env=(false,eval e X.env)::starEach es X.env) (hpl:(backTo pos (starEach es X.env)).any (·.1)=false):
 DE K mg X ES (.Call (.Name x p0) (e::es) [] pos) (ah f A):=by
 obtain⟨fa,fd,F',m,kp,bb,_⟩:=C.ex;refine⟨λpins s σ H Q I hh=>NV (nN I hg m ?_ hdb)⟩;refine W.callWith_K (h₀:=X.base) I.ok.mod.kin kp (NG (ha.ok pos pins s σ H _ I (wA σ H Q hh)) (λus s1 ⟨vs,H1,I1,r,q⟩=>⟨I1.kIn,?_⟩) λ_ _ z=>z) he hpl;have hl:(us++[]).length=ps.length:=by rw[Ny,<- r.length];exact F'.len _ _ _ _ q
 refine wpAny_call (Qf (F'.run X.A X.stack s1 H1 ⟨us,[]⟩ us vs Q (ES σ) hr I1.env0 (by simpa using bb s1 us I1.kIn hl) r q) λr s' hq=>?_);cases r with
 |error ex=>exact hx pins σ H1 s1 ex s' I1 hq
 |
  ok fl=>
  cases fl with
  |ret u=>exact I1.after hq
  |next=>exact False.elim hq
  |brk=>exact False.elim hq
  |cont=>exact False.elim hq
def Ek(hp:sW (CX1 X.prog X.w) X E):mV X (λ_=>E):=λpins σ H s e s' I h=>hp pins σ H s e s' I h
def Mc:mV X (λ_=>E0):=λpins σ H s e s' I h=>LR pins σ H s e s' I h
def zcF{f:PFn}{x:Str}{p0:Pos}{k j:Nat}{ps:List Str}(C:Callee X.prog X.w X.K X.mg X.base x j ps (sp3 K mg f))(hr:Room k X.A)(ha:DA K mg X ES (e::es) A)(hk:j<=k:=by omega)(hg:Gl X x:=by exact rfl)(hx:mV X ES:=by first |exact Ek Dx |exact Mc |assumption)(hdb:(x==("__debug__" : Str))=false:=by decide)(he:starEach (e::es) X.env=(false,eval e X.env)::starEach es X.env:=by rfl)(hpl:(backTo pos (starEach es X.env)).any (·.1)=false:=by rfl):DE K mg X ES (.Call (.Name x p0) (e::es) [] pos) (ah f A):=Bl C (hr.mono hk) hg hx ha hdb he hpl
end
noncomputable def aI (f:Int->Int->Val):Val->Val->Bv:=λx y=>match x,y with
 |.int i,.int j=>.val (f i j)
 |_,_=>.stuck
open Classical in
def aIc(C:Int->Int->Prop)(f:Int->Int->Val):Val->Val->Bv:=λx y=>match x,y with
 |.int i,.int j=>if C i j then .val (f i j) else .stuck
 |_,_=>.stuck
noncomputable def aCat:Val->Val->Bv:=λx y=>match x,y with
 |.lst xs,.lst ys=>if xs.length+ys.length<=16777216 then .new (.lst (xs++ys)) else .stuck
 |.tup xs,.tup ys=>if xs.length+ys.length<=16777216 then .val (.tup (xs++ys)) else .stuck
 |_,_=>.stuck
noncomputable def Bu:Val->Val->Bv:=λx y=>match x,y with
 |.int i,.int j=>.val (.int (i+j))
 |x,y=>aCat x y
noncomputable def aMin:=aI λi j=>.int (i-j)
def BQ:=aIc CMulA λi j=>.int (i*j)
def BN:=aIc CDivB λi j=>.int (i.fdiv j)
def AZ:=aIc (λ_ j=>j≠0) λi j=>.int (i.fmod j)
def BE:=aIc kh λi j=>.int (i^j.toNat)
def Cp:=aIc kh λi j=>.int (i*2^j.toNat)
noncomputable def aLt:=aI λi j=>.bl (decide (i<j))
noncomputable def aGt:=aI λi j=>.bl (decide (j<i))
noncomputable def aGe:=aI λi j=>.bl (decide (j<=i))
noncomputable def Be:Val->Bv:=λx=>match x with
 |.int i=>.val (.int (-i))
 |_=>.stuck
noncomputable def aIx:Val->Val->Bv:=λx y=>match x.items,y with
 |some xs,.int i=>(match atI xs i with
  |some v=>.val v
  |none=>.stuck)
 |_,_=>.stuck
mutual
def cF:Nat->Val->Option PyData
 |0,_=>none
 |_+1,.non=>some .none
 |_+1,.bl b=>some (.bool b)
 |_+1,.int i=>some (.int i)
 |_+1,.str x=>some (.str x)
 |k+1,.tup xs=>(d6 k xs).map .tuple
 |k+1,.lst xs=>(d6 k xs).map .list
 |_+1,_=>none
def d6:Nat->List Val->Option (List PyData)
 |_,[]=>some []
 |k,x::xs=>match cF k x,d6 k xs with
  |some a,some b=>some (a::b)
  |_,_=>none
end
noncomputable def ba (x y:Val):Option Bool:=match cF 164 x,cF 164 y with
 |some a,some b=>if shp a=true/\shp b=true then some (PyData.eqv a b) else none
 |_,_=>none
noncomputable def aEq (neg:Bool):Val->Val->Bv:=λx y=>match ba x y with
 |some b=>.val (.bl (if neg then !b else b))
 |none=>.stuck
noncomputable def mJ:Val->Bool
 |.non=>true
 |.bl _=>true
 |.int _=>true
 |.str _=>true
 |_=>false
noncomputable def uj:Val->V
 |.bl b=>.bl b
 |.int i=>.int i
 |.str x=>.str x
 |_=>.non
noncomputable def eq1 (x y:Val):Bool:=eqV (uj x) (uj y)
noncomputable def aIn (neg:Bool):Val->Val->Bv:=λx y=>match y.items with
 |some xs=>if mJ x=true/\xs.all mJ=true then .val (.bl (if neg then !(xs.any λd=>eq1 d x) else xs.any λd=>eq1 d x)) else .stuck
 |none=>.stuck
noncomputable def wY (neg:Bool):Val->Val->Bv:=λx y=>match x,y with
 |.non,.non=>.val (.bl (!neg))
 |_,.non=>.val (.bl neg)
 |_,_=>.stuck
noncomputable def AX:List Val->Bv:=λvs=>match vs with
 | [v]=>(match v.items with
  |some xs=>.val (.int xs.length)
  |none=>(match v with
   |.str z=>if z.length<=16777216 then .val (.int z.length) else .stuck
   |_=>.stuck))
 |_=>.stuck
noncomputable def Bz:List Val->Bv:=λvs=>match vs with
 | [.int i]=>.val (.int (if i<0 then -i else i))
 |_=>.stuck
noncomputable def xY:List Val->Bv:=λvs=>match vs with
 | [.int i,.int j]=>.val (.int (if j>i then j else i))
 |_=>.stuck
noncomputable def wW:List Val->Bv:=λvs=>match vs with
 | [.int i,.int j]=>.val (.int (if j<i then j else i))
 |_=>.stuck
noncomputable def jC:List Val->Option (List Bool)
 | []=>some []
 |.bl b::r=>(jC r).map (b :: ·)
 |_=>none
noncomputable def gn:List Val->Option (List Int)
 | []=>some []
 |.int b::r=>(gn r).map (b :: ·)
 |_=>none
noncomputable def Dp:List Val->Bv:=λvs=>match vs with
 | [.lst xs]=>(match jC xs with
  |some bs=>.val (.bl (bs.all id))
  |none=>.stuck)
 |_=>.stuck
noncomputable def BA:List Val->Bv:=λvs=>match vs with
 | [.lst xs]=>(match gn xs with
  |some bs=>.val (.int bs.sum)
  |none=>.stuck)
 |_=>.stuck
noncomputable def xk:List Val->Bv:=λvs=>match vs with
 | [v]=>(match v.items with
  |some xs=>.new (.lst xs)
  |none=>.stuck)
 |_=>.stuck
noncomputable def tI:List Val->Bv:=λvs=>match vs with
 | [v]=>(match v.items with
  |some xs=>.val (.tup xs)
  |none=>.stuck)
 |_=>.stuck
noncomputable def AU:List Val->Bv:=λvs=>match vs with
 | [.int i]=>.val (.int i)
 | [.bl b]=>.val (.int (if b then 1 else 0))
 |_=>.stuck
noncomputable def tyC:Val->Option Cl
 |.non=>some (.b "NoneType")
 |.bl _=>some (.b "bool")
 |.int _=>some (.b "int")
 |.str _=>some (.b "str")
 |.tup _=>some (.b "tuple")
 |.exc x=>some (.o x)
 |.lst _=>some (.b "list")
 |.dct _=>some (.b "dict")
 |_=>none
noncomputable def clV:Val->Option Cl
 |.ty n=>some (.b n)
 |.glb x=>some (.o x)
 |_=>none
noncomputable def rY:List Val->Option (List Cl)
 | []=>some []
 |v::vs=>match clV v,rY vs with
  |some c,some cs=>some (c::cs)
  |_,_=>none
noncomputable def MN:Val->Option (List Cl)
 |.tup cs=>rY cs
 |v=>(clV v).map ([·])
noncomputable def Bo (kt:jz):List Val->Bv:=λvs=>match vs with
 | [v,c]=>(match tyC v,MN c with
  |some t,some (c0::cr)=>(match gN kt t (c0::cr),kit kt t c0 with
   |some b,some _=>.val (.bl b)
   |_,_=>.stuck)
  |_,_=>.stuck)
 |_=>.stuck
noncomputable def iO (xs:List Val) (lo hi:Option Int):List Val:=(xs.drop (HT.sIx xs.length 0 lo)).take (HT.sIx xs.length xs.length hi-HT.sIx xs.length 0 lo)
noncomputable def aSl (x:Val) (lo hi:Option Int):Bv:=match x with
 |.tup xs=>if HT.sIx xs.length 0 lo=0/\HT.sIx xs.length xs.length hi=xs.length then .stuck else .val (.tup (iO xs lo hi))
 |.lst xs=>.new (.lst (iO xs lo hi))
 |.kl xs=>.new (.lst (iO xs lo hi))
 |.str z=>if z.length<=16777216 then .val (.str (Txt.slice z lo hi)) else .stuck
 |_=>.stuck
noncomputable def oF:Val->List Val->Option (Val×Val):=λu vs=>match u,vs with
 |.lst xs,[v]=>if xs.length<16777216 then some (.lst (xs++[v]),.non) else none
 |_,_=>none
noncomputable def tw:Val->List Val->Option (Val×Val):=λu vs=>match u,vs with
 |.lst xs,[]=>(match xs[xs.length-1]? with
  |some v=>some (.lst xs.dropLast,v)
  |none=>none)
 |_,_=>none
noncomputable def sL:Val->Val->Val->Option Val:=λu i v=>match u,i with
 |.lst xs,.int k=>(match ixN xs.length k with
  |some j=>some (.lst (xs.set j v))
  |none=>none)
 |_,_=>none
noncomputable def jI (d:Val):List Val->Option (List Bool)
 | []=>some []
 |x::r=>match ba x d,jI d r with
  |some b,some bs=>some (b::bs)
  |_,_=>none
noncomputable def iZ:Val->List Val->Bv:=λx vs=>match x,vs with
 |.lst xs,[d]=>(match jI d xs with
  |some bs=>if bs.idxOf true<bs.length then .val (.int (bs.idxOf true:Nat)) else .stuck
  |none=>.stuck)
 |_,_=>.stuck
noncomputable def a9:PO2:=⟨Bu⟩
noncomputable def eG:PO2:=⟨aMin⟩
def bB:PO2:=⟨BQ⟩
def jr:PO2:=⟨BN⟩
def bU:PO2:=⟨AZ⟩
def f6:PO2:=⟨BE⟩
def qX:PO2:=⟨Cp⟩
noncomputable def bLt:PO2:=⟨aLt⟩
noncomputable def bGt:PO2:=⟨aGt⟩
noncomputable def bGe:PO2:=⟨aGe⟩
noncomputable def bIx:PO2:=⟨aIx⟩
noncomputable def bEq:PO2:=⟨aEq false⟩
noncomputable def bNe:PO2:=⟨aEq true⟩
noncomputable def bIn:PO2:=⟨aIn false⟩
noncomputable def qU:PO2:=⟨aIn true⟩
noncomputable def bIs:PO2:=⟨wY false⟩
noncomputable def BP:PO2:=⟨wY true⟩
noncomputable def sq:PO2:=⟨aI λi j=>.int (i+j)⟩
noncomputable def CG:PU1:=⟨Be⟩
noncomputable def aR:PBf:=⟨AX⟩
noncomputable def eA:PBf:=⟨Bz⟩
noncomputable def sk:PBf:=⟨xY⟩
noncomputable def rG:PBf:=⟨wW⟩
noncomputable def qF:PBf:=⟨Dp⟩
noncomputable def cH:PBf:=⟨BA⟩
noncomputable def rJ:PBf:=⟨xk⟩
noncomputable def kG:PBf:=⟨tI⟩
noncomputable def qK:PBf:=⟨AU⟩
noncomputable def aX (kt:jz):PBf:=⟨Bo kt⟩
noncomputable def fg:PMm:=⟨oF⟩
noncomputable def qP:PMm:=⟨tw⟩
noncomputable def kO:PMv:=⟨iZ⟩
noncomputable def seL:PSe:=⟨sL⟩
section
variable{K:W.Frag}{mg:Qt}{P:Addr->Prop}{H:Hp}{Q:VK}{v:Val}{vs:List Val}{x:V}{ds:List V}{neg:Bool}
def bv(p:∀H1 x,Gr H H1->Rd K mg P H1 x v->Q x H1)(r:Rd K mg P H x v):Q x H:=p H x .refl r
def bvL(p:∀H1 a o,Gr H H1->H1 a=none->NotFz o->Rc K mg P H1 o (.lst vs)->Q (.ref a) (upd H1 a o))(r:Rds K mg P H ds vs):∀l,H l=none->Q (.ref l) (upd H l (.lst ds)):=λl hl=>p H l _ .refl hl trivial (.lst r)
def bvT(p:∀H1 x,Gr H H1->Rd K mg P H1 x (.tup vs)->Q x H1)(r:Rds K mg P H ds vs):∀l,H l=none->Q (.ref l) (upd H l (.tup ds)):=λl hl=>p _ _ (Gr.upd hl) (.tup (SqT.of aY) (r.mono (Gr.upd hl).mov))
def mO{f:Int->Int->V}{g:Int->Int->Val}(hr:∀i j P H,Rd K mg P H (f i j) (g i j)):OpD K mg (rI0 f) (aI g):=λP H x y v u Q rx ry p=>by
 unfold aI at p;split at p
 .obtain rfl:=rx.int;obtain rfl:=ry.int;exact⟨_,_,rfl,rfl,bv p (hr _ _ _ _)⟩
 .exact p.elim
def rH{f:Int->Int->V}{g:Int->Int->Val}{C:Int->Int->Prop}(hr:∀i j P H,Rd K mg P H (f i j) (g i j)):OpD K mg (rI C f) (aIc C g):=λP H x y v u Q rx ry p=>by
 unfold aIc at p;split at p
 .obtain rfl:=rx.int;obtain rfl:=ry.int;split at p
  .rename_i hc;exact⟨_,_,rfl,rfl,hc,bv p (hr _ _ _ _)⟩
  .exact p.elim
 .exact p.elim
def HC:OpD K mg (λx y H Q=>rI0 (λi j=>.int (i+j)) x y H Q\/(yh x y H Q\/(qT K x y H Q\/qS K x y H Q))) a9.G:=λP H x y v u Q rx ry p=>by
 replace p:BvP K mg P H Q (Bu v u):=p;unfold Bu at p;split at p
 .obtain rfl:=rx.int;obtain rfl:=ry.int;exact .inl ⟨_,_,rfl,rfl,bv p (.int _)⟩
 .right;unfold aCat at p;split at p
  .obtain⟨a,xs,rfl,e1,q1⟩:=rx.lst;obtain⟨b,ys,rfl,e2,q2⟩:=ry.lst;split at p
   .rename_i hl;exact .inl ⟨_,_,xs,ys,rfl,rfl,e1,e2,by rw[q1.len,q2.len];exact hl,bvL p (q1.append q2)⟩
   .exact p.elim
  .obtain⟨a,xs,rfl,e1,q1⟩:=rx.tup;obtain⟨b,ys,rfl,e2,q2⟩:=ry.tup;split at p
   .rename_i hl;cases q1 with
    |nil=>exact .inr (.inr ⟨_,_,_,rfl,rfl,e1,e2,bv p (.tup e2 q2)⟩)
    |cons r0 r1=>refine .inr (.inl ⟨_,_,_,_,rfl,rfl,e1,e2,(λz=>nomatch z),by rw[(Rds.cons r0 r1).len,q2.len];exact hl,λz=>?_,λ_=>bvT p ((Rds.cons r0 r1).append q2)⟩);subst z;cases q2;rw[Ny] at p;exact bv p (.tup e1 (.cons r0 r1))
   .exact p.elim
  .exact p.elim
def JQ:OpD K mg (rI0 λi j=>.int (i-j)) eG.G:=mO λ_ _ _ _=>.int _
def IJ:OpD K mg (rI CMulA λi j=>.int (i*j)) bB.G:=rH λ_ _ _ _=>.int _
def Ho:OpD K mg (rI CDivB λi j=>.int (i.fdiv j)) jr.G:=rH λ_ _ _ _=>.int _
def Kx:OpD K mg (rI (λ_ j=>j≠0) λi j=>.int (i.fmod j)) bU.G:=rH λ_ _ _ _=>.int _
def Je:OpD K mg (rI kh λi j=>.int (i^j.toNat)) f6.G:=rH λ_ _ _ _=>.int _
def JP:OpD K mg (rI kh λi j=>.int (i*2^j.toNat)) qX.G:=rH λ_ _ _ _=>.int _
def D1:OpD K mg (rI0 λi j=>.bl (decide (i<j))) bLt.G:=mO λ_ _ _ _=>.bl _
def DD:OpD K mg (rI0 λi j=>.bl (decide (j<i))) bGt.G:=mO λ_ _ _ _=>.bl _
def DC:OpD K mg (rI0 λi j=>.bl (decide (j<=i))) bGe.G:=mO λ_ _ _ _=>.bl _
def GZ:IpD K mg (ipI λi j=>i+j) sq.G:=mO λ_ _ _ _=>.int _
def JZ:UnD K mg (rU λi=>.int (-i)) CG.G:=λP H x v Q r p=>by
 replace p:BvP K mg P H Q (Be v):=p;unfold Be at p;split at p
 .obtain rfl:=r.int;exact⟨_,rfl,bv p (.int _)⟩
 .exact p.elim
def KS(r:Rds K mg P H ds vs)(e:atI vs i=some v):∃d,atI ds i=some d/\Rd K mg P H d v:=by
 unfold atI at e ⊢;rw[r.len];cases q:ixN vs.length i with
 |none=>rw[q] at e;cases e
 |some j=>rw[q] at e;exact r.get e
def M0:OpD K mg (λx y H Q=>Bc K x y H Q\/BJ K x y H Q) bIx.G:=λP H x y v u Q rx ry p=>by
 replace p:BvP K mg P H Q (aIx v u):=p;unfold aIx at p;split at p
 .rename_i xs i e1;obtain⟨a,ys,rfl,h,q⟩:=rx.items e1;obtain rfl:=ry.int;split at p
  .rename_i w e3;obtain⟨d,e4,q2⟩:=KS q e3;rcases h with h |h
   .exact .inl ⟨_,_,_,d,rfl,rfl,h,e4,bv p q2⟩
   .exact .inr ⟨_,_,_,d,rfl,rfl,h,e4,bv p q2⟩
  .exact p.elim
 .exact p.elim
def Dj{k:Nat}(hk:∀d v pd,Rd K mg P H d v->cF k v=some pd->Rep K H d pd){ps:List PyData}(r:Rds K mg P H ds vs):d6 k vs=some ps->Reps K H ds ps:=
 r.ind (M:=λds vs=>∀ps,d6 k vs=some ps->Reps K H ds ps) (λ_ q=>by unfold d6 at q;cases q;exact .nil) (λr _ ih ps q=>by
  unfold d6 at q;split at q
  .rename_i a b e1 e2;cases q;exact .cons (hk _ _ _ r e1) (ih _ e2)
  .cases q) ps
theorem jj:∀(k:Nat) (d:V) (v:Val) (pd:PyData),ShR K mg P H d v->cF k v=some pd->Rep K H d pd
 |0,_,_,_,_,q=>by unfold cF at q;cases q
 |
  k+1,d,v,pd,r,q=>by
  have ih:∀{ds:List V}{vs:List Val}{ps:List PyData},Rds K mg P H ds vs->d6 k vs=some ps->Reps K H ds ps:=λr=>Dj (λd v pd r q=>jj k d v pd (.inl r) q) r;cases v with
  |non=>obtain rfl:=r.non;simp only[cF] at q;cases q;exact .non
  |bl b=>obtain rfl:=r.bl;simp only[cF] at q;cases q;exact .bl b
  |int b=>obtain rfl:=r.int;simp only[cF] at q;cases q;exact .int b
  |str b=>obtain rfl:=r.str;simp only[cF] at q;cases q;exact .str b
  |tup xs=>obtain⟨a,ds,rfl,e,r2⟩:=r.tup;simp only[cF] at q;obtain⟨ps,q1,rfl⟩:=Nq.mp q;exact .tup e (ih r2 q1)
  |lst xs=>obtain⟨a,ds,rfl,e,r2⟩:=r.lstL;simp only[cF] at q;obtain⟨ps,q1,rfl⟩:=Nq.mp q;exact .lst e (ih r2 q1)
  |_=>simp only[cF] at q;cases q
def Ih{x y:V}{u:Val}{b:Bool}(r1:ShR K mg P H x v)(r2:ShR K mg P H y u)(q:ba v u=some b):∃a c,Rep K H x a/\Rep K H y c/\shp a=true/\shp c=true/\PyData.eqv a c=b:=by
 unfold ba at q;split at q
 .rename_i a c e1 e2;split at q
  .rename_i hs;cases q;exact⟨a,c,jj 164 _ _ _ r1 e1,jj 164 _ _ _ r2 e2,hs.1,hs.2,rfl⟩
  .cases q
 .cases q
def DK{x y:V}{u:Val}(r1:ShR K mg P H x v)(r2:ShR K mg P H y u)(p:BvP K mg P H Q (aEq neg v u)):∃a c,Rep K H x a/\Rep K H y c/\shp a=true/\shp c=true/\Q (.bl (if neg then !PyData.eqv a c else PyData.eqv a c)) H:=by
 unfold aEq at p;split at p
 .rename_i b q;obtain⟨a,c,h1,h2,h3,h4,rfl⟩:=Ih r1 r2 q;exact⟨a,c,h1,h2,h3,h4,bv p (.bl _)⟩
 .exact p.elim
def D3:OpD K mg (B0 K) bEq.G:=λP H x y v u Q rx ry p=>DK rx ry p
def MM:OpD K mg (C1 K) bNe.G:=λP H x y v u Q rx ry p=>DK rx ry p
def vh(r:ShR K mg P H x v)(f:mJ v=true):x=uj v/\L2.flatV x=true:=by
 cases v with
 |non=>obtain rfl:=r.non;exact⟨rfl,rfl⟩
 |bl b=>obtain rfl:=r.bl;exact⟨rfl,rfl⟩
 |int b=>obtain rfl:=r.int;exact⟨rfl,rfl⟩
 |str b=>obtain rfl:=r.str;exact⟨rfl,rfl⟩
 |_=>cases f
def Bn(y:Val)(r:Rds K mg P H ds vs):vs.all mJ=true->ds.all L2.flatV=true/\inV (uj y) ds=vs.any λd=>eq1 d y:=
 r.ind (M:=λds vs=>vs.all mJ=true->ds.all L2.flatV=true/\inV (uj y) ds=vs.any λd=>eq1 d y) (λ_=>⟨rfl,rfl⟩) λr _ ih f=>by rw[Qn,u_] at f;obtain⟨rfl,h2⟩:=vh (.inl r) f.1;obtain⟨h3,h4⟩:=ih f.2;refine⟨by rw[Qn,h2,h3];rfl,?_⟩;unfold inV at h4 ⊢;rw[Oe,Oe,h4];rfl
def DH:OpD K mg (rIn K neg) (aIn neg):=λP H x y v u Q rx ry p=>by
 unfold aIn at p;split at p
 .rename_i xs e;obtain⟨a,ys,rfl,h,q⟩:=ry.items e;split at p
  .rename_i hf;obtain⟨rfl,f2⟩:=vh rx hf.1;obtain⟨f3,f4⟩:=Bn v q hf.2;exact⟨a,ys,rfl,h,f2,f3,by rw[f4];exact bv p (.bl _)⟩
  .exact p.elim
 .exact p.elim
def M3:OpD K mg (rIn K false) bIn.G:=DH
def Kt:OpD K mg (rIn K true) qU.G:=DH
def Lm(rx:ShR K mg P H x v)(ry:ShR K mg P H y u)(p:BvP K mg P H Q (wY neg v u)):y=.non/\Q (.bl (if neg then !decide (x=.non) else decide (x=.non))) H:=by
 unfold wY at p;split at p
 .obtain rfl:=rx.non;obtain rfl:=ry.non;exact⟨rfl,by cases neg <;> exact bv p (.bl _)⟩
 .rename_i hn;obtain rfl:=ry.non;have:decide (x=V.non)=false:=by
   rw[OG];rintro rfl;rcases rx with r |⟨n,o,z,_⟩
   .cases r;exact hn rfl
   .cases z
  rw[this];exact⟨rfl,by cases neg <;> exact bv p (.bl _)⟩
 .exact p.elim
def He:OpD K mg (λx y H Q=>y=.non/\Q (.bl (!decide (x=.non))) H) BP.G:=λP H x y v u Q rx ry p=>Lm (neg:=true) rx ry p
def HQ:b9 K mg (λxs H Q=>(∃p ys,xs=[.ref p]/\(SqL K H p ys\/SqT K H p ys)/\Q (.int ys.length) H)\/(∃z,xs=[.str z]/\z.length<=sizeLine/\Q (.int z.length) H)) aR.G:=λP H xs vs Q r0 p=>by
 replace p:BvP K mg P H Q (AX vs):=p;unfold AX at p;split at p
 .obtain⟨d,rfl,r⟩:=dn r0;split at p
  .rename_i xs e;obtain⟨a,ys,rfl,h,q⟩:=r.items e;exact .inl ⟨_,_,rfl,h,by rw[q.len];exact bv p (.int _)⟩
  .split at p
   .obtain rfl:=r.str;split at p
    .rename_i hl;exact .inr ⟨_,rfl,hl,bv p (.int _)⟩
    .exact p.elim
   .exact p.elim
 .exact p.elim
def G0:b9 K mg (λxs H Q=>∃i,xs=[.int i]/\Q (.int (if i<0 then -i else i)) H) eA.G:=λP H xs vs Q r0 p=>by
 replace p:BvP K mg P H Q (Bz vs):=p;unfold Bz at p;split at p
 .obtain⟨d,rfl,r⟩:=dn r0;obtain rfl:=r.int;exact⟨_,rfl,bv p (.int _)⟩
 .exact p.elim
def EC:b9 K mg (λxs H Q=>∃i j,xs=[.int i,.int j]/\Q (.int (if j>i then j else i)) H) sk.G:=λP H xs vs Q r0 p=>by
 replace p:BvP K mg P H Q (xY vs):=p;unfold xY at p;split at p
 .obtain⟨d,d',rfl,r,r'⟩:=nE r0;obtain rfl:=r.int;obtain rfl:=r'.int;exact⟨_,_,rfl,bv p (.int _)⟩
 .exact p.elim
def EJ:b9 K mg (λxs H Q=>∃i j,xs=[.int i,.int j]/\Q (.int (if j<i then j else i)) H) rG.G:=λP H xs vs Q r0 p=>by
 replace p:BvP K mg P H Q (wW vs):=p;unfold wW at p;split at p
 .obtain⟨d,d',rfl,r,r'⟩:=nE r0;obtain rfl:=r.int;obtain rfl:=r'.int;exact⟨_,_,rfl,bv p (.int _)⟩
 .exact p.elim
def Mv{bs:List Bool}(r:Rds K mg P H ds vs):jC vs=some bs->ds=bs.map V.bl:=
 r.ind (M:=λds vs=>∀bs,jC vs=some bs->ds=bs.map V.bl) (λbs q=>by cases q;rfl) (λ{d v ds vs} r _ ih bs q=>by
  cases v with
  |bl b=>obtain rfl:=ShR.bl (.inl r);obtain⟨b',q1,rfl⟩:=Nq.mp (show (jC vs).map (b :: ·)=some bs from q);rw[ih _ q1];rfl
  |_=>cases q) bs
def tU{bs:List Int}(r:Rds K mg P H ds vs):gn vs=some bs->ds=bs.map V.int:=
 r.ind (M:=λds vs=>∀bs,gn vs=some bs->ds=bs.map V.int) (λbs q=>by cases q;rfl) (λ{d v ds vs} r _ ih bs q=>by
  cases v with
  |int b=>obtain rfl:=ShR.int (.inl r);obtain⟨b',q1,rfl⟩:=Nq.mp (show (gn vs).map (b :: ·)=some bs from q);rw[ih _ q1];rfl
  |_=>cases q) bs
def yE:b9 K mg (λxs H Q=>∃(a:Addr) (bs:List Bool),xs=[.ref a]/\SqL K H a (bs.map V.bl)/\Q (.bl (bs.all id)) H) qF.G:=λP H xs vs Q r0 p=>by
 replace p:BvP K mg P H Q (Dp vs):=p;unfold Dp at p;split at p
 .obtain⟨d,rfl,r⟩:=dn r0;obtain⟨a,ys,rfl,h,q⟩:=r.lstL;split at p
  .rename_i bs e;exact⟨a,bs,rfl,Mv q e ▸ h,bv p (.bl _)⟩
  .exact p.elim
 .exact p.elim
def zQ:b9 K mg (λxs H Q=>∃(a:Addr) (ns:List Int),xs=[.ref a]/\SqL K H a (ns.map V.int)/\Q (.int ns.sum) H) cH.G:=λP H xs vs Q r0 p=>by
 replace p:BvP K mg P H Q (BA vs):=p;unfold BA at p;split at p
 .obtain⟨d,rfl,r⟩:=dn r0;obtain⟨a,ys,rfl,h,q⟩:=r.lstL;split at p
  .rename_i bs e;exact⟨a,bs,rfl,tU q e ▸ h,bv p (.int _)⟩
  .exact p.elim
 .exact p.elim
def EL:b9 K mg (λxs H Q=>∃p ys,xs=[.ref p]/\(SqL K H p ys\/SqT K H p ys)/\∀l,H l=none->Q (.ref l) (upd H l (.lst ys))) rJ.G:=λP H xs vs Q r0 p=>by
 replace p:BvP K mg P H Q (xk vs):=p;unfold xk at p;split at p
 .obtain⟨d,rfl,r⟩:=dn r0;split at p
  .rename_i xs e;obtain⟨a,ys,rfl,h,q⟩:=r.items e;exact⟨_,_,rfl,h,bvL p q⟩
  .exact p.elim
 .exact p.elim
def BR:b9 K mg (λxs H Q=>∃p ys,xs=[.ref p]/\((SqL K H p ys/\∀l,H l=none->Q (.ref l) (upd H l (.tup ys)))\/(SqT K H p ys/\Q (.ref p) H))) kG.G:=λP H xs vs Q r0 p=>by
 replace p:BvP K mg P H Q (tI vs):=p;unfold tI at p;split at p
 .obtain⟨d,rfl,r⟩:=dn r0;split at p
  .rename_i xs e;obtain⟨a,ys,rfl,h,q⟩:=r.items e;rcases h with h |h
   .exact⟨_,_,rfl,.inl ⟨h,bvT p q⟩⟩
   .exact⟨_,_,rfl,.inr ⟨h,bv p (.tup h q)⟩⟩
  .exact p.elim
 .exact p.elim
def Gu:b9 K mg (λxs H Q=>(∃i,xs=[.int i]/\Q (.int i) H)\/∃k,xs=[.bl k]/\Q (.int (if k then 1 else 0)) H) qK.G:=λP H xs vs Q r0 p=>by
 replace p:BvP K mg P H Q (AU vs):=p;unfold AU at p;split at p
 .obtain⟨d,rfl,r⟩:=dn r0;obtain rfl:=r.int;exact .inl ⟨_,rfl,bv p (.int _)⟩
 .obtain⟨d,rfl,r⟩:=dn r0;obtain rfl:=r.bl;exact .inr ⟨_,rfl,bv p (.int _)⟩
 .exact p.elim
def MC{kt:jz}{t c:Cl}{b:Bool}(ok:KitsOk K mg kt)(r:ShR K mg P H x v)(q:tyC v=some t)(k:kit kt t c=some b):∃tv,TyX K H x tv/\ClV mg t tv:=by
 cases v with
 |non=>obtain rfl:=r.non;cases q;exact⟨_,.of .non,rfl⟩
 |bl b=>obtain rfl:=r.bl;cases q;exact⟨_,.of (.bl _),rfl⟩
 |int b=>obtain rfl:=r.int;cases q;exact⟨_,.of (.int _),rfl⟩
 |str b=>obtain rfl:=r.str;cases q;exact⟨_,.of (.str _),rfl⟩
 |exc b=>obtain⟨a,C,rfl,m,e⟩:=r.exc;cases q;exact⟨_,.exc e (ok.xc _ (oC k) _ _ rfl m),_,rfl,m⟩
 |tup b=>obtain⟨a,ds,rfl,h,_⟩:=r.tup;cases q;exact⟨_,.sqT h,rfl⟩
 |lst b=>obtain⟨a,ds,rfl,e,_⟩:=r.lst;cases q;exact⟨_,.of (.lst e),rfl⟩
 |dct b=>obtain⟨a,ds,rfl,e,_⟩:=r.dct;cases q;exact⟨_,.of (.dK e),rfl⟩
 |_=>cases q
def Dw{c:Cl}(r:ShR K mg P H x v)(q:clV v=some c):∃cv,gk x=some cv/\ClV mg c cv:=by
 cases v with
 |ty b=>obtain rfl:=r.ty;cases q;exact⟨_,rfl,rfl⟩
 |glb b=>obtain⟨a,rfl,m⟩:=r.glb;cases q;exact⟨_,rfl,_,rfl,m⟩
 |_=>cases q
def Hz{cs:List Cl}(r:Rds K mg P H ds vs):rY vs=some cs->∃cvs,ds.mapM gk=some cvs/\Paired (ClV mg) cs cvs:=
 r.ind (M:=λds vs=>∀cs,rY vs=some cs->∃cvs,ds.mapM gk=some cvs/\Paired (ClV mg) cs cvs) (λcs q=>by cases q;exact⟨[],rfl,.nil⟩) (λr _ ih cs q=>by
  unfold rY at q;split at q
  .rename_i c cs' e1 e2;cases q;obtain⟨cv,h1,h2⟩:=Dw (.inl r) e1;obtain⟨cvs,h3,h4⟩:=ih _ e2;refine⟨cv::cvs,?_,.cons h2 h4⟩;rw[List.mapM_cons,h1,h3];rfl
  .cases q) cs
def HD{kt:jz}(ok:KitsOk K mg kt):b9 K mg (λxs H Q=>(∃x c t v b,xs=[x,c]/\TyX K H x t/\gk c=some v/\W.kitOne K t v=some b/\Q (.bl b) H)\/
 (∃x tp cs t vs b,xs=[x,.ref tp]/\SqT K H tp cs/\TyX K H x t/\cs.mapM gk=some vs/\W.kitAny K t vs=some b/\Q (.bl b) H)) (aX kt).G:=λP H xs vs Q r0 p=>by
 replace p:BvP K mg P H Q (Bo kt vs):=p;unfold Bo at p;split at p
 .rename_i v c;obtain⟨d,d',rfl,r1,r2⟩:=nE r0;split at p
  .rename_i t c0 cr e1 e2;split at p
   .rename_i b b' e4 e5;obtain⟨tv,h1,h2⟩:=MC ok r1 e1 e5;by_cases ht:∃cs,c=.tup cs
    .obtain⟨cs,rfl⟩:=ht;obtain⟨a,es,rfl,h,q⟩:=r2.tup;obtain⟨cvs,h3,h4⟩:=Hz q e2;exact .inr ⟨_,_,_,tv,cvs,b,rfl,h,h1,h3,zO ok h2 h4 e4,bv p (.bl _)⟩
    .have e2':(clV c).map ([·])=some (c0::cr):=by
      cases c with
      |tup cs=>exact absurd ⟨cs,rfl⟩ ht
      |_=>exact e2
     obtain⟨cl,y1,y2⟩:=Nq.mp e2';cases y2;obtain⟨cv,h3,h4⟩:=Dw r2 y1;have:kit kt t c0=some b:=by
      unfold gN at e4;rw[e5] at e4 ⊢;cases b' with
      |true=>exact e4
      |false=>unfold gN at e4;exact e4
     exact .inl ⟨_,_,tv,cv,b,rfl,h1,h3,ok.one _ (oC this) _ _ h2 h4,bv p (.bl _)⟩
   .exact p.elim
  .exact p.elim
 .exact p.elim
def mC(r:Rc K mg P H o (.lst us)):∃vs,o=.lst vs/\Rds K mg P H vs us:=by cases r with |lst r=>exact⟨_,rfl,r⟩
def C0(r:Rds K mg P H ds [v]):∃d,ds=[d]/\Rd K mg P H d v:=by cases r with |cons r rr=>cases rr;exact⟨_,rfl,r⟩
def Aq:MmD K mg vo fg.G:=λP H n o u ds vs u' v Q np e hf r0 rs q k=>by
 replace q:oF u vs=some (u',v):=q;unfold oF at q;split at q
 .split at q
  .rename_i hl;cases q;obtain⟨xs,rfl,r⟩:=mC r0;obtain⟨d,rfl,rd⟩:=C0 rs;exact⟨n,xs,d,rfl,rfl,e,by rw[r.len];exact hl,k _ _ trivial (.lst (r.append (.cons rd .nil))) .non⟩
  .cases q
 .cases q
def HI:MmD K mg rPop qP.G:=λP H n o u ds vs u' v Q np e hf r0 rs q k=>by
 replace q:tw u vs=some (u',v):=q;unfold tw at q;split at q
 .split at q
  .rename_i w hw;cases q;obtain⟨xs,rfl,r⟩:=mC r0;cases rs;obtain⟨d,e2,rd⟩:=r.get hw;refine⟨n,xs,d,rfl,rfl,e,by rw[r.len];exact e2,k _ _ trivial (.lst ?_) rd⟩;rw[List.dropLast_eq_take,List.dropLast_eq_take,r.len];exact r.take _
  .cases q
 .cases q
def E8:Dn K mg Du seL.G:=λP H n o u di vi d v u' Q np e hf r0 ri rd q k=>by
 replace q:sL u vi v=some u':=q;unfold sL at q;split at q
 .split at q
  .rename_i j hj;cases q;obtain⟨xs,rfl,r⟩:=mC r0;obtain rfl:=ri.int;exact⟨n,xs,_,j,rfl,rfl,e,by rw[r.len];exact hj,k _ trivial (.lst (r.set rd j))⟩
  .cases q
 .cases q
def KG{y:V}{w:Val}{pd:PyData}(ry:Rep K H y pd)(es:cF 164 w=some pd){bs:List Bool}(r:Rds K mg P H ds vs):jI w vs=some bs->EqsR K H y pd ds bs:=
 r.ind
  (M:=λds vs=>∀bs,jI w vs=some bs->EqsR K H y pd ds bs) (λbs q=>by cases q;exact .nil) (λr _ ih bs q=>by
  unfold jI at q;split at q
  .rename_i b bs' e1 e2;cases q;unfold ba at e1;rw[es] at e1;split at e1
   .rename_i a c e3 e4;cases e4;split at e1
    .rename_i hs;cases e1;exact .cons (jj 164 _ _ _ (.inl r) e3) hs.1 (ih _ e2)
    .cases e1
   .cases e1
  .cases q) bs
theorem By{w:Val}:∀{vs:List Val}{bs:List Bool},jI w vs=some bs->vs=[]\/∃pd,cF 164 w=some pd/\shp pd=true
 | [],_,_=>.inl rfl
 |
  x::xs,bs,e=>by
  right;unfold jI at e;split at e
  .rename_i b bs' e1 e2;unfold ba at e1;split at e1
   .rename_i a c e3 e4;split at e1
    .rename_i hs;exact⟨c,e4,hs.2⟩
    .cases e1
   .cases e1
  .cases e
def Df:MtD K mg (oX K) kO.G:=λP H d v ds vs Q r hv rs p=>by
 replace p:BvP K mg P H Q (iZ v vs):=p;unfold iZ at p;split at p
 .obtain⟨a,xs,rfl,h,q⟩:=r.lstL;obtain⟨y,rfl,ry⟩:=dn rs;split at p
  .rename_i bs eb;split at p
   .rename_i hl;rcases By eb with rfl |⟨pd,h3,h4⟩
    .cases eb;exact absurd hl (by simp)
    .have r3:=jj 164 _ _ _ ry h3;exact⟨a,y,bs,rfl,rfl,⟨xs,pd,h,r3,h4,KG r3 h3 q eb⟩,hl,bv p (.int _)⟩
   .exact p.elim
  .exact p.elim
 .exact p.elim
end
abbrev MO3:=E3->R3 (Option Int)
noncomputable def Iv (e:E3):R3 (Option Int):=.ok none e
noncomputable def HM (F:ME3) (e:E3):R3 (Option Int):=(F e).bind λt e1=>match rs e1 t with
 |some (.int i)=>.ok (some i) e1
 |_=>.stuck
noncomputable def vSl (F:ME3) (L U:MO3) (e:E3):R3 Tm:=(F e).bind λt e1=>(L e1).bind λlo e2=>(U e2).bind λhi e3=>match rs e3 t.drop with
 |some v=>(aSl v lo hi).at e3
 |none=>.stuck
structure POp where
 t:Nat
 G:MO3
noncomputable def oN:POp:=⟨1,Iv⟩
noncomputable def oS (a:PEx):POp:=⟨2,HM a.G⟩
noncomputable def pSl (a:PEx) (l u:POp):PEx:=⟨23,vSl a.G l.G u.G⟩
noncomputable def vD0 (e:E3):R3 Tm:=.ok (.new (.dct [])) e
noncomputable def pD0:PEx:=⟨24,vD0⟩
def rdO(K:W.Frag)(mg:Qt)(ES:St->XK)(G:MO3):TO:=λσ H Q=>∃X N0 ns e,Sat K mg X N0 ns e σ H/\PG3 K mg X N0 ns e σ H (ES σ) (λo _ _ H'=>Q o H') (G e)
def rdO.el{K:W.Frag}{mg:Qt}{G:MO3}(h:rdO K mg ES G σ H Q){Z:Prop}(k:∀X N0 ns e,Sat K mg X N0 ns e σ H->PG3 K mg X N0 ns e σ H (ES σ) (λo _ _ H'=>Q o H') (G e)->Z):Z:=by obtain⟨X,N0,ns,e,S,p⟩:=h;exact k X N0 ns e S p
structure DO(K:W.Frag)(mg:Qt)(X:Cx)(ES:St->XK)(e:Option Expr)(F:POp):Prop where
 ok:PO X e (rdO K mg ES F.G)
section
variable{K:W.Frag}{mg:Qt}{X:Cx}{ES:St->XK}{e a:Expr}{p:PEx}{l u:POp}{lo hi:Option Expr}{pos p2:Pos}
def F7:DO K mg X ES none oN:=⟨PO.imp EB λσ H Q zz=>rdO.el zz λY N0 ns e S p=>PG3.ret p S⟩
def FT(he:DE K mg X ES e p):DO K mg X ES (some e) (oS p):=⟨PO.imp (F5 he.ok) λσ H Q zz=>rdO.el zz λY N0 ns e S p=>
 ⟨Y,
  N0,λ_=>True,ns,e,S,λ_ _=>trivial,PG3.imp p S λt e1 ns1 H1 a1 S1 p1 x r1=>by
  try dsimp only at p1
  split at p1
  .rename_i i q;obtain rfl:=(r1.sh S1 q).int;exact⟨_,rfl,p1.ret S1⟩
  .exact p1.elim⟩⟩
def Nd{P:Addr->Prop}{H:Hp}{Q:VK}{x:V}{v:Val}{lo hi:Option Int}(r:ShR K mg P H x v)(p:BvP K mg P H Q (aSl v lo hi)):(C2 K x lo hi H Q\/Cw K x lo hi H Q)\/Bg x lo hi H Q:=by
 have cut:∀{vs us},Rds K mg P H vs us->Rds K mg P H (kj vs lo hi) (iO us lo hi):=λr=>by unfold kj iO;rw[r.len];exact (r.drop _).take _
 unfold aSl at p;split at p
 .obtain⟨a,ds,rfl,h,q⟩:=r.tup;split at p
  .exact p.elim
  .rename_i hn;exact .inl (.inr ⟨_,_,rfl,h,by rw[q.len];exact hn,bvT p (cut q)⟩)
 .obtain⟨a,ds,rfl,h,q⟩:=r.lstL;exact .inl (.inl ⟨_,_,rfl,h,bvL p (cut q)⟩)
 .obtain⟨a,ds,rfl,h,q⟩:=r.kl;exact .inl (.inl ⟨_,_,rfl,h,bvL p (cut q)⟩)
 .obtain rfl:=r.str;split at p
  .rename_i hz;exact .inr ⟨_,rfl,hz,bv p (.str _)⟩
  .exact p.elim
 .exact p.elim
def CZ(hK:X.K=K)(he:DE K mg X ES e p)(hl:DO K mg X ES lo l)(hu:DO K mg X ES hi u):DE K mg X ES (.Subscript e (.Slice lo hi none p2) pos) (pSl p l u):=
 ⟨PE.imp (CC (slK hK) he.ok hl.ok hu.ok) λσ H Q zz=>zz.el λY N0 L ns e S hL p=>⟨Y,N0,L,ns,e,S,hL,PG3.imp p S λt e1 ns1 H1 a1 S1 p1 x rx=>⟨Y,N0,ns1,e1,S1,PG3.imp p1 S1 λlo e2 h_ H2 a2 S2 p2=>⟨Y,N0,h_,e2,S2,PG3.imp p2 S2 λhi e3 ns3 H3 a3 S3 p3=>by
  try dsimp only at p3
  split at p3
  .rename_i v q;exact Nd ((rx.drop (a2.trans S1 a3)).sh S3 q) (p3.bv S3 λa z=>hL a (a1.dom a (a2.dom a (a3.dom a z))))
  .exact p3.elim⟩⟩⟩⟩
def Lh:DE K mg X ES (.Dict [] [] pos) pD0:=⟨PE.imp CO λσ H Q ⟨Y,N0,L,ns,e,S,hl,p⟩ a ha=>PG3.bv (b:=.new (.dct [])) p S hl H a (.dK []) .refl ha trivial (.dct .nil)⟩
def Cn(hK:X.K=K)(ha:DE K mg X ES a p)(he:∀e_,isTrue a X.env e_=(do let v <- e_;standAt a.pos;holding [v] (truthy v)):=by intro _;rfl):DT K mg X ES a (qTr p):=by
 subst hK;exact
  ⟨PT.imp (BM ha.ok he) λσ H Q zz=>zz.el λY N0 ns e S p=>⟨Y,N0,λ_=>True,ns,e,S,λ_ _=>trivial,PG3.imp p S λt e1 ns1 H1 a1 S1 p1 x r1=>by
  try dsimp only at p1
  split at p1
  .rename_i b q;obtain⟨v,q1,q2⟩:=NF.mp q;have r:=r1.sh S1 q1;have k:=p1.ret S1;have items:∀{us:List Val},v.items=some us->some (!us.isEmpty)=some b->∃k,CI X.K x H1 k/\Q k H1:=λ{us} e e2=>by
    obtain⟨a,vs,rfl,hq,rr⟩:=r.items e;have ee:us.isEmpty=vs.isEmpty:=by cases rr <;> rfl
    cases e2;rw[ee] at k;rcases hq with hq |hq
    .exact⟨_,.inl ⟨vs,hq,rfl⟩,k⟩
    .exact⟨_,.inr (.inl ⟨vs,hq,rfl⟩),k⟩
   cases v with
   |non=>obtain rfl:=r.non;cases q2;exact⟨_,rfl,k⟩
   |bl b=>obtain rfl:=r.bl;cases q2;exact⟨_,rfl,k⟩
   |int b=>obtain rfl:=r.int;cases q2;exact⟨_,rfl,k⟩
   |tup us=>exact items rfl q2
   |lst us=>exact items rfl q2
   |kl us=>exact items rfl q2
   |_=>cases q2
  .exact p1.elim⟩⟩
end
theorem oh{K:W.Frag}{mg:Qt}{P:Addr->Prop}{H:Hp}:∀(ns:List Int),Rds K mg P H (ns.map V.int) (ns.map Val.int)
 | []=>.nil
 |_::r=>.cons (.int _) (oh r)
structure PFx(ms:List Bool) where
 G:Fn3
noncomputable def PFx.fn {ms:List Bool} (p:PFx ms):PFn:=⟨ms,p.G⟩
noncomputable def PFx.none (ms:List Bool) (N:Nat:=0):PFx ms:=⟨λ_=>.stuck⟩
noncomputable def PFx.of (ms:List Bool) (N:Nat) (c:PSt):PFx ms:=⟨fnV ms N c.G⟩
section
variable{K:W.Frag}{mg:Qt}{P:Program}{w:World}{base:Heap}{fx:Str}{m_:Stmt}{k m:Nat}{ps N:List Str}{ms:List Bool}{x:PSt}
def okX(D:Def K mg fx m_)(S:FnScope N ps (aq m_))
 (hb:∀(kV doc pm:Value) (an:Option Addr) (cdv ct:Value) (us:List Value),us.length=ps.length->bindArgs (W.fnOf fx fx (cV m_) (bD m_) (aq m_) .none kV doc pm an cdv ct) ⟨us,[]⟩=pure (ps.zip us))
 (j_:N.Nodup->∀(f:Addr) (cdv:Value) (A:Around) (outer:List Env) (s:Shared) (H:Hp) (E:XK),Room k (A.deeper (envOfC fx (aq m_) s.heap.objs.size f cdv))->
  DSs K mg (eF (CX1 P w) P w K mg base N fx (aq m_) f cdv A outer s H E) (λ_=>E) (bD m_) x) (hn:ms.length=ps.length:=by rfl) (hm:N.length=m:=by rfl):Callee P w K mg base fx (k+1) ps (sp3 K mg (PFx.of ms m x).fn):=okP D S hb j_ hn hm
def ok0(D:Def K mg fx m_)(S:FnScope N ps (aq m_))
 (hb:∀(kV doc pm:Value) (an:Option Addr) (cdv ct:Value) (us:List Value),us.length=ps.length->bindArgs (W.fnOf fx fx (cV m_) (bD m_) (aq m_) .none kV doc pm an cdv ct) ⟨us,[]⟩=pure (ps.zip us)) (hn:ms.length=ps.length:=by rfl):Callee P w K mg base fx (k+1) ps (sp3 K mg (PFx.none ms).fn):=
 (okP (x:=xNo) (ms:=ms) (m:=N.length) D S hb (λ_ _ _ _ _ _ _ _ _=>⟨λ_ _ _ _ _ _ ⟨_,_,_,_,_,p⟩=>p.elim⟩) hn).imp λ_ _ _ _ ⟨_,_,_,_,_,p⟩=>p.elim
end
section
variable{K:W.Frag}{mg:Qt}{X:Cx}{ES:St->XK}{e:Expr}{p:PEx}{pos:Pos}
def zsS{ow:Bool}(i:Nat){x:Str}{k_:Pos}(hN:X.N.Nodup)(he:DE K mg X ES e p)(hi:X.N[i]?=some x:=by exact rfl)(hx:Loc X.env.scope x:=by first |exact Or.inl rfl |exact Or.inr rfl)(hs:swapsWith e (some (.Name x k_)) pos.line X.env=pure false:=by rfl)(hf:X.fn x=true\/X.env.scope.names.lookup x=some .local:=by first |exact .inl rfl |exact .inr rfl |assumption):DS K mg X ES (.Assign [.Name x k_] e pos) (aw ow i p):=II hN hi hx he hs hf
def zgN(i:Nat){x:Str}(hN:X.N.Nodup)(hi:X.N[i]?=some x:=by exact rfl)(hx:Loc X.env.scope x:=by first |exact Or.inl rfl |exact Or.inr rfl)(hf:X.fn x=true\/X.env.scope.names.lookup x=some .local:=by first |exact .inl rfl |exact .inr rfl |assumption):DG K mg X (.Name x pos) (gtN i):=FU hN hi hx hf
end
section
variable(e:E3)
@[simp] theorem kP(a:α)(f:α->E3->R3 β):(R3.ok a e).bind f=f a e:=rfl
@[simp] theorem Mk(a:α)(f:α->E3->SR3):(R3.ok a e).toS f=f a e:=rfl
@[simp] theorem ML(f:E3->SR3):(SR3.nx e).then f=f e:=rfl
@[simp] theorem L6(r:Rt)(f:E3->SR3):(SR3.rt r e).then f=.rt r e:=rfl
@[simp] theorem MB(f:E3->SR3):(SR3.bk e).then f=.bk e:=rfl
@[simp] theorem Jd(c:Str)(f:E3->SR3):(SR3.exc c e).then f=.exc c e:=rfl
@[simp] theorem qI(f:E3->SR3):(SR3.nx e).loop f=f e:=rfl
@[simp] theorem KZ(f:E3->SR3):(SR3.ct e).loop f=f e:=rfl
@[simp] theorem K4(f:E3->SR3):(SR3.bk e).loop f=.nx e:=rfl
@[simp] theorem Li(r:Rt)(f:E3->SR3):(SR3.rt r e).loop f=.rt r e:=rfl
@[simp] theorem M6(r:SR3):r.unl none=r:=by cases r <;> rfl
@[simp] theorem Di:lockO e none=e:=rfl
@[simp] theorem xa:fB e none=e:=rfl
@[simp] theorem Kq(v:Val):(Bv.val v).at e=.ok (.val v) e:=rfl
@[simp] theorem IA(v:Val):(Bv.new v).at e=.ok (.new v) e:=rfl
@[simp] theorem Hu(v:Val):rs e (.val v)=some v:=rfl
@[simp] theorem HS(v:Val):rs e (.new v)=some v:=rfl
@[simp] theorem HZ(i:Nat):rs e (.bor i)=(e[i]?).bind Sl.val:=rfl
@[simp] theorem JY(v:Val):(Tm.val v).drop=.val v:=rfl
@[simp] theorem IS(v:Val):(Tm.new v).drop=.val v:=rfl
@[simp] theorem Hr(i:Nat):(Tm.bor i).drop=.bor i:=rfl
@[simp] theorem ER:rss e []=some []:=rfl
@[simp] theorem BW(t:Tm)(ts:List Tm):rss e (t::ts)=match rs e t,rss e ts with
 |some v,some vs=>some (v::vs)
 |_,_=>none:=rfl
@[simp] theorem HN(v:Val):cX e (.val v)=some (e,v):=rfl
@[simp] theorem GL(v:Val):cX e (.new v)=some (e,v):=rfl
@[simp] theorem zN:dem e []=some (e,[]):=rfl
@[simp] theorem F2(t:Tm)(ts:List Tm):dem e (t::ts)=match cX e t with
 |some (e1,v)=>match dem e1 ts with
  |some (e2,vs)=>some (e2,v::vs)
  |none=>none
 |none=>none:=rfl
@[simp] theorem Ke(b:Bool):bOf (some (.bl b))=some b:=rfl
@[simp] theorem LW(i:Nat):(af i).G e=match e[i]? with
 |some (.sh v)=>.ok (.val v) e
 |some .no=>.stuck
 |some _=>.ok (.bor i) e
 |none=>.stuck:=rfl
@[simp] theorem LH(i:Int):(ai i).G e=.ok (.val (.int i)) e:=rfl
@[simp] theorem v_bl(i:Bool):(pBl i).G e=.ok (.val (.bl i)) e:=rfl
@[simp] theorem MQ(i:Str):(bH i).G e=.ok (.val (.str i)) e:=rfl
@[simp] theorem K2:yi.G e=.ok (.val .non) e:=rfl
@[simp] theorem v_ty(i:String):(pTy i).G e=.ok (.val (.ty i)) e:=rfl
@[simp] theorem Lq(i:Str):(xA i).G e=.ok (.val (.glb i)) e:=rfl
@[simp] theorem v_un(o:PU1)(a:PEx):(pUn o a).G e=(a.G e).bind λt e1=>match rs e1 t with
 |some v=>(o.G v).at e1
 |none=>.stuck:=rfl
@[simp] theorem v_op(o:PO2)(a b:PEx):(pOp o a b).G e=(a.G e).bind λt1 e1=>(b.G e1).bind λt2 e2=>match rs e2 t1.drop,rs e2 t2 with
 |some v1,some v2=>(o.G v1 v2).at e2
 |_,_=>.stuck:=rfl
@[simp] theorem Na:ag.G e=.ok [] e:=rfl
@[simp] theorem Iu(a:PEx)(r:PAs):(aa a r).G e=(a.G e).bind λt e1=>(r.G e1).bind λts e2=>.ok (t.drop::ts) e2:=rfl
@[simp] theorem v_fn(o:PBf)(a:PAs):(pFn o a).G e=(a.G e).bind λts e1=>match rss e1 ts with
 |some vs=>(o.G vs).at e1
 |none=>.stuck:=rfl
@[simp] theorem KP(a:PAs):(bo a).G e=(a.G e).bind λts e1=>match dem e1 ts with
 |some (e2,vs)=>if vs.length<=16777216 then .ok (.val (.tup vs)) e2 else .stuck
 |none=>.stuck:=rfl
@[simp] theorem M7(a:PAs):(dW a).G e=(a.G e).bind λts e1=>match dem e1 ts with
 |some (e2,vs)=>if vs.length<=16777216 then .ok (.new (.lst vs)) e2 else .stuck
 |none=>.stuck:=rfl
@[simp] theorem Mm(a b:PEx):(hU a b).G e=(a.G e).bind λt e1=>match bOf (rs e1 t) with
 |some true=>b.G e1
 |some false=>.ok (.val (.bl false)) e1
 |none=>.stuck:=rfl
@[simp] theorem L9(a:PEx):(ud a).G e=(a.G e).bind λt e1=>match bOf (rs e1 t) with
 |some b=>.ok (.val (.bl (!b))) e1
 |none=>.stuck:=rfl
@[simp] theorem c_of(a:PEx):(qOf a).G e=(a.G e).bind λt e1=>match bOf (rs e1 t) with
 |some b=>.ok b e1
 |none=>.stuck:=rfl
@[simp] theorem c_tr(a:PEx):(qTr a).G e=(a.G e).bind λt e1=>match (rs e1 t).bind nS with
 |some b=>.ok b e1
 |none=>.stuck:=rfl
@[simp] theorem c_an(a b:PTs):(qAn a b).G e=(a.G e).bind λk e1=>if k=true then b.G e1 else .ok false e1:=rfl
@[simp] theorem c_o(a b:PTs):(qO a b).G e=(a.G e).bind λk e1=>if k=true then .ok true e1 else b.G e1:=rfl
@[simp] theorem c_no(a:PTs):(qNo a).G e=(a.G e).bind λk e1=>.ok (!k) e1:=rfl
@[simp] theorem x_nx:xNx.G e=.nx e:=rfl
@[simp] theorem x_bk:xBk.G e=.bk e:=rfl
@[simp] theorem GJ:xB.G e=.rt (.val .non) e:=rfl
@[simp] theorem Mb(a:PEx):(ak a).G e=(a.G e).toS om:=rfl
@[simp] theorem Gs(v:Val):om (.val v) e=.rt (.val v) e:=rfl
@[simp] theorem E7(v:Val):om (.new v) e=.rt (.new v) e:=rfl
@[simp] theorem FG(i:Nat):om (.bor i) e=match e[i]? with
 |some (.sh v)=>.rt (.val v) e
 |some (.ow v)=>.rt (.new v) (e.set i .no)
 |some (.mu _)=>.rt (.par i) e
 |_=>.stuck:=rfl
@[simp] theorem GP(a:PEx):(aK a).G e=(a.G e).toS λ_ e1=>.nx e1:=rfl
@[simp] theorem Ef(a b:PSt):(aj a b).G e=(a.G e).then b.G:=rfl
@[simp] theorem x_if(c:PTs)(a b:PSt):(xIf c a b).G e=(c.G e).toS λk e1=>if k=true then a.G e1 else b.G e1:=rfl
@[simp] theorem Md(o:Bool)(i:Nat)(a:PEx):(aw o i a).G e=(a.G e).toS (jD o i):=rfl
@[simp] theorem Ml:Sl.no.pl=true:=rfl
@[simp] theorem Mz(v:Val):(Sl.sh v).pl=true:=rfl
@[simp] theorem Gm(o:Bool)(i:Nat)(v:Val):jD o i (.val v) e=match e[i]? with
 |some s0=>if s0.pl=true then .nx (e.set i (.sh v)) else .stuck
 |none=>.stuck:=by unfold jD;rfl
@[simp] theorem CJ(i:Nat)(v:Val):jD true i (.new v) e=match e[i]? with
 |some s0=>if s0.pl=true then .nx (e.set i (.ow v)) else .stuck
 |none=>.stuck:=by unfold jD;rfl
@[simp] theorem BS(i:Nat)(v:Val):jD false i (.new v) e=match e[i]? with
 |some s0=>if s0.pl=true then .nx (e.set i (.sh v)) else .stuck
 |none=>.stuck:=by unfold jD;rfl
@[simp] theorem g_n(i:Nat)(v:Val):(gtN i).G v e=match e[i]? with
 |some s=>if s.pl=true then some (e.set i (.sh v)) else none
 |none=>none:=rfl
@[simp] theorem g_sn:bI.G [] e=some e:=rfl
@[simp] theorem g_sc(a:PGt)(b:PGs)(v:Val)(vs:List Val):(ay a b).G (v::vs) e=(a.G v e).bind λe1=>b.G vs e1:=rfl
@[simp] theorem g_t(n:Nat)(a:PGs)(vs:List Val):(gtT n a).G (.tup vs) e=if vs.length=n then a.G vs e else none:=rfl
@[simp] theorem JS(a:PEx)(g:PGt):(eX a g).G e=(a.G e).toS λt e1=>match cX e1 t with
 |some (e2,v)=>match g.G v e2 with
  |some e3=>.nx e3
  |none=>.stuck
 |none=>.stuck:=rfl
@[simp] theorem LY(i j:Nat)(a:PAs):(gF i j a).G e=(a.G e).toS λts e1=>match dem e1 ts with
 |some (e2,[v,u])=>match (pN i v e2).bind (pN j u) with
  |some e3=>.nx e3
  |none=>.stuck
 |_=>.stuck:=rfl
@[simp] theorem L8(i:Nat)(v:Val):pN i v e=match e[i]? with
 |some s=>if s.pl=true then some (e.set i (.sh v)) else none
 |none=>none:=rfl
@[simp] theorem KO(i:Nat)(o:PO2)(a:PEx):(rh i o a).G e=match e[i]? with
 |some (.sh x)=>(a.G e).toS λt e1=>match rs e1 t with
  |some y=>match o.G x y with
   |.val z=>match pN i z e1 with
    |some e2=>.nx e2
    |none=>.stuck
   |_=>.stuck
  |none=>.stuck
 |_=>.stuck:=rfl
@[simp] theorem E2(c:Str)(a:PAs):(eN c a).G e=(a.G e).toS λts e1=>if ts.length<=16777216 then .exc c e1 else .stuck:=rfl
@[simp] theorem LP(i:Nat)(w:PSe)(k a:PEx):(oq i w k a).G e=(a.G e).toS λt e1=>match (e1[i]?).bind Sl.mv with
 |none=>.stuck
 |some _=>(k.G e1).toS λt2 e2=>match rs e2 t2 with
  |none=>.stuck
  |some vi=>match cX e2 t.drop with
   |none=>.stuck
   |some (e3,v)=>match e3[i]? with
    |none=>.stuck
    |some s=>match s.mv with
     |none=>.stuck
     |some u=>match w.G u vi v with
      |some u'=>.nx (e3.set i (s.re u'))
      |none=>.stuck:=rfl
@[simp] theorem Me(v:Val):(Sl.ow v).mv=some v:=rfl
@[simp] theorem M4(v:Val):(Sl.mu v).mv=some v:=rfl
@[simp] theorem M5(v u:Val):(Sl.ow v).re u=.ow u:=rfl
@[simp] theorem Lk(v u:Val):(Sl.mu v).re u=.mu u:=rfl
@[simp] theorem Gy(v:Val):(Sl.ow v).val=some v:=rfl
@[simp] theorem GH(v:Val):(Sl.mu v).val=some v:=rfl
@[simp] theorem MX(i:Nat)(m:PMm)(a:PAs):(iN i m a).G e=match e[i]? with
 |some s=>if (s.mv.map fN)=some true then (a.G e).bind λts e1=>match dem e1 ts with
  |some (e2,vs)=>match e2[i]? with
   |some s2=>match s2.mv with
    |some u=>match m.G u vs with
     |some (u',v)=>.ok (.val v) (e2.set i (s2.re u'))
     |none=>.stuck
    |none=>.stuck
   |none=>.stuck
  |none=>.stuck else .stuck
 |none=>.stuck:=rfl
@[simp] theorem Kl(i:Nat)(m:PMm):(qG i m).G e=match e[i]? with
 |some s=>if (s.mv.map fN)=some true then (match s.mv with
  |some u=>match m.G u [] with
   |some (u',v)=>.ok (.val v) (e.set i (s.re u'))
   |none=>.stuck
  |none=>.stuck) else .stuck
 |none=>.stuck:=by
 show oI i m.G oH e=_;unfold oI;cases q:e[i]? with
 |none=>rfl
 |
  some s=>
  dsimp only;split
  .simp only[oH,kP,zN,sR,q];try rfl
  .rfl
@[simp] theorem Cj(xs:List Val):fN (.lst xs)=true:=rfl
@[simp] theorem JW(m:PMv)(a:PEx)(b:PAs):(xV m a b).G e=(a.G e).bind λt e1=>if (rs e1 t).map fN=some true then (b.G e1).bind λts e2=>(match rs e2 t.drop,rss e2 ts with
 |some v,some vs=>if fN v=true then (m.G v vs).at e2 else .stuck
 |_,_=>.stuck) else .stuck:=rfl
@[simp] theorem Mn(a:PEx):(cD a).G e=(a.G e).bind λt e1=>match gB t e1 with
 |some p=>.ok p e1
 |none=>.stuck:=rfl
@[simp] theorem MF(a:PAs):(kI a).G e=(a.G e).bind λts e1=>match ts with
 | [t]=>(match gB t e1 with
  |some p=>.ok (eL 0 p.1,p.2) e1
  |none=>.stuck)
 |_=>.stuck:=rfl
@[simp] theorem K7(a:PAs):(xC a).G e=(a.G e).bind λts e1=>match ts with
 | [t,u]=>(match gB t e1,gB u e1 with
  |some (xs,k),some (ys,none)=>.ok (List.zipWith (λx y=>.tup [x,y]) xs ys,k) e1
  |_,_=>.stuck)
 |_=>.stuck:=rfl
@[simp] theorem Ir(v:Val):gB (.val v) e=(gL v).map λxs=>(xs,none):=rfl
@[simp] theorem GY(v:Val):gB (.new v) e=(gL v).map λxs=>(xs,none):=rfl
@[simp] theorem Hv(xs:List Val):gL (.tup xs)=some xs:=rfl
@[simp] theorem GX(xs:List Val):gL (.lst xs)=some xs:=rfl
@[simp] theorem LX(a:PAs):(jB a).G e=(a.G e).bind λts e1=>match (rss e1 ts).bind jL with
 |some xs=>.ok (xs,none) e1
 |none=>.stuck:=rfl
@[simp] theorem LC(a:PAs):(wG a).G e=(a.G e).bind λts e1=>match (rss e1 ts).bind rE with
 |some xs=>.ok (xs,none) e1
 |none=>.stuck:=rfl
@[simp] theorem KN(i:PIt)(g:PGt)(b:PSt):(eZ i g b).G e=(i.G e).toS λp e1=>(cI g.G b.G p.1 (lockO e1 p.2)).unl p.2:=rfl
@[simp] theorem gO(g:MG3)(B:MS3):cI g B [] e=.nx e:=rfl
theorem dg(g:MG3)(B:MS3)(v:Val)(vs:List Val):cI g B (v::vs) e=match g v e with
 |some e1=>(B e1).loop (cI g B vs)
 |none=>.stuck:=rfl
def gA(c:PTs)(b:PSt):(xWh c b).G e=(c.G e).toS λk e1=>if k=true then (b.G e1).loop (xWh c b).G else .nx e1:=CB c.G b.G e
@[simp] theorem v_lc(i:PIt)(sub:Qw)(hs:(sub.filterMap id).Nodup)(g:PGt)(c:PTs)(a:PEx):(pLC i sub hs g c a).G e=(i.G e).bind λp e1=>match lcV g.G c.G a.G p.1 [] (bL sub (lockO e1 p.2)) with
 |.ok ys e2=>if ys.length<=16777216 then .ok (.new (.lst ys)) (fB (aS sub e2 (lockO e1 p.2)) p.2) else .stuck
 |_=>.stuck:=rfl
@[simp] theorem GB(f:PFn)(a:PAs):(ah f a).G e=(a.G e).bind λts e1=>match rss e1 ts with
 |none=>.stuck
 |some vs=>if okA e1 f.ms ts=true then (match f.G vs with
  |.stuck=>.stuck
  |.ok r mv=>if (aJ e1 f.ms ts).isEmpty || (kM r&&mv.all cG) then .ok (r.tm ts) (aS (aL f.ms ts) (aA f.ms mv) e1) else (match nT e1 (aJ e1 f.ms ts) with
   |some e2=>.ok (r.tm ts) (aS (aL f.ms ts) (aA f.ms mv) e2)
   |none=>.stuck)
  |.exc c mv=>if (aJ e1 f.ms ts).isEmpty || mv.all cG then .exc c (aS (aL f.ms ts) (aA f.ms mv) e1) else .stuck) else .stuck:=rfl
@[simp] theorem Ju(ts:List Tm)(v:Val):(Rt.val v).tm ts=.val v:=rfl
@[simp] theorem HU(ts:List Tm)(v:Val):(Rt.new v).tm ts=.new v:=rfl
@[simp] theorem o_n:oN.G e=.ok none e:=rfl
@[simp] theorem o_s(a:PEx):(oS a).G e=(a.G e).bind λt e1=>match rs e1 t with
 |some (.int i)=>.ok (some i) e1
 |_=>.stuck:=rfl
@[simp] theorem v_sl(a:PEx)(l u:POp):(pSl a l u).G e=(a.G e).bind λt e1=>(l.G e1).bind λlo e2=>(u.G e2).bind λhi e3=>match rs e3 t.drop with
 |some v=>(aSl v lo hi).at e3
 |none=>.stuck:=rfl
@[simp] theorem v_d0:pD0.G e=.ok (.new (.dct [])) e:=rfl
theorem aB(ms:List Bool)(N:Nat)(c:PSt)(vs:List Val):(fnP ms N c).G vs=if vs.length=ms.length then (match c.G (sls ms vs++List.replicate (N-vs.length) .no) with
 |.nx e=>(match muV ms e with |some mv=>.ok (.val .non) mv |none=>.stuck)
 |.rt r e=>(match muV ms e with |some mv=>.ok r mv |none=>.stuck)
 |.exc c e=>(match muV ms e with |some mv=>.exc c mv |none=>.stuck)
 |_=>.stuck) else .stuck:=rfl
theorem gq(ms:List Bool)(N:Nat)(c:PSt)(vs:List Val):(PFx.of ms N c).G vs=if vs.length=ms.length then (match c.G (sls ms vs++List.replicate (N-vs.length) .no) with
 |.nx e=>(match muV ms e with |some mv=>.ok (.val .non) mv |none=>.stuck)
 |.rt r e=>(match muV ms e with |some mv=>.ok r mv |none=>.stuck)
 |.exc c e=>(match muV ms e with |some mv=>.exc c mv |none=>.stuck)
 |_=>.stuck) else .stuck:=rfl
@[simp] theorem MU(p:PFx ms):p.fn.ms=ms:=rfl
@[simp] theorem fx_G(p:PFx ms)(vs:List Val):p.fn.G vs=p.G vs:=rfl
end
@[simp] theorem Nj(i j:Int):a9.G (.int i) (.int j)=.val (.int (i+j)):=rfl
@[simp] theorem KC(i j:Int):eG.G (.int i) (.int j)=.val (.int (i-j)):=rfl
@[simp] theorem k_lt(i j:Int):bLt.G (.int i) (.int j)=.val (.bl (decide (i<j))):=rfl
@[simp] theorem k_gt(i j:Int):bGt.G (.int i) (.int j)=.val (.bl (decide (j<i))):=rfl
@[simp] theorem k_ge(i j:Int):bGe.G (.int i) (.int j)=.val (.bl (decide (j<=i))):=rfl
@[simp] theorem Mq(i j:Int):sq.G (.int i) (.int j)=.val (.int (i+j)):=rfl
@[simp] theorem M9(i:Int):CG.G (.int i)=.val (.int (-i)):=rfl
def cC(c:CMulA i j):bB.G (.int i) (.int j)=.val (.int (i*j)):=by show BQ (.int i) (.int j)=_;unfold BQ aIc;dsimp only;rw[if_pos c]
def kR(c:CDivB i j):jr.G (.int i) (.int j)=.val (.int (i.fdiv j)):=by show BN (.int i) (.int j)=_;unfold BN aIc;dsimp only;rw[if_pos c]
def eU(c:j≠0):bU.G (.int i) (.int j)=.val (.int (i.fmod j)):=by show AZ (.int i) (.int j)=_;unfold AZ aIc;dsimp only;rw[if_pos c]
def qz(c:kh i j):f6.G (.int i) (.int j)=.val (.int (i^j.toNat)):=by show BE (.int i) (.int j)=_;unfold BE aIc;dsimp only;rw[if_pos c]
def Ng(c:kh i j):qX.G (.int i) (.int j)=.val (.int (i*2^j.toNat)):=by show Cp (.int i) (.int j)=_;unfold Cp aIc;dsimp only;rw[if_pos c]
@[simp] theorem k_ix(x:Val)(i:Int):bIx.G x (.int i)=match x.items with
 |some xs=>(match atI xs i with
  |some v=>.val v
  |none=>.stuck)
 |none=>.stuck:=by show aIx x (.int i)=_;unfold aIx;cases x.items <;> rfl
@[simp] theorem Jp(xs:List Val):(Val.tup xs).items=some xs:=rfl
@[simp] theorem Ie(xs:List Val):(Val.lst xs).items=some xs:=rfl
@[simp] theorem Mx(xs:List Val):(Val.kl xs).items=some xs:=rfl
@[simp] theorem k_eq(x y:Val):bEq.G x y=match ba x y with
 |some b=>.val (.bl b)
 |none=>.stuck:=by show aEq false x y=_;unfold aEq;cases ba x y <;> rfl
@[simp] theorem k_ne(x y:Val):bNe.G x y=match ba x y with
 |some b=>.val (.bl (!b))
 |none=>.stuck:=by show aEq true x y=_;unfold aEq;cases ba x y <;> rfl
@[simp] theorem DZ(x y:Int):ba (.int x) (.int y)=some (x==y):=rfl
def eq_str(hx:PyData.strOk x=true)(hy:PyData.strOk y=true):ba (.str x) (.str y)=some (x==y):=by unfold ba;show (if shp (.str x)=true/\shp (.str y)=true then _ else _)=_;rw[if_pos ⟨iI hx (NK _),iI hy (NK _)⟩];rfl
@[simp] theorem k_is(x:Val):bIs.G x .non=match x with
 |.non=>.val (.bl true)
 |_=>.val (.bl false):=by cases x <;> rfl
@[simp] theorem LD(x:Val):BP.G x .non=match x with
 |.non=>.val (.bl false)
 |_=>.val (.bl true):=by cases x <;> rfl
@[simp] theorem Nk(v:Val):aR.G [v]=match v.items with
 |some xs=>.val (.int xs.length)
 |none=>(match v with
  |.str z=>if z.length<=16777216 then .val (.int z.length) else .stuck
  |_=>.stuck):=rfl
@[simp] theorem MJ(i:Int):eA.G [.int i]=.val (.int (if i<0 then -i else i)):=rfl
@[simp] theorem Ln(i j:Int):sk.G [.int i,.int j]=.val (.int (if j>i then j else i)):=rfl
@[simp] theorem Nc(i j:Int):rG.G [.int i,.int j]=.val (.int (if j<i then j else i)):=rfl
@[simp] theorem Ll(xs:List Val):qF.G [.lst xs]=match jC xs with
 |some bs=>.val (.bl (bs.all id))
 |none=>.stuck:=rfl
@[simp] theorem MH(xs:List Val):cH.G [.lst xs]=match gn xs with
 |some bs=>.val (.int bs.sum)
 |none=>.stuck:=rfl
@[simp] theorem G5(v:Val):rJ.G [v]=match v.items with
 |some xs=>.new (.lst xs)
 |none=>.stuck:=rfl
@[simp] theorem FA(v:Val):kG.G [v]=match v.items with
 |some xs=>.val (.tup xs)
 |none=>.stuck:=rfl
@[simp] theorem HY(b:Bool):qK.G [.bl b]=.val (.int (if b then 1 else 0)):=rfl
@[simp] theorem Bf(xs:List Val)(v:Val):fg.G (.lst xs) [v]=if xs.length<16777216 then some (.lst (xs++[v]),.non) else none:=rfl
@[simp] theorem cm:∀(bs:List Int),gn (bs.map Val.int)=some bs
 | []=>rfl
 |b::r=>by show (gn (r.map Val.int)).map (b :: ·)=_;rw[cm r];rfl
def Jn(b:Bool)(ms:List Bool)(v:Val)(vs:List Val):sls (b::ms) (v::vs)=sl1 b v::sls ms vs:=rfl
def FO:sls [] []=[]:=rfl
def Mh(v:Val):sl1 true v=.mu v:=rfl
def K9(v:Val):sl1 false v=.sh v:=rfl
section
variable(e:E3)
def F8:okA e [] []=true:=rfl
def GV(i:Nat)(ms:List Bool)(ts:List Tm):okA e (true::ms) (.bor i::ts)=(((e[i]?).bind Sl.mv).isSome && !(iJ i ts)&&okA e ms ts):=rfl
def Ji(i:Nat)(ms:List Bool)(ts:List Tm):okA e (false::ms) (.bor i::ts)=(!(iU i ms ts)&&okA e ms ts):=rfl
def Kn(v:Val)(ms:List Bool)(ts:List Tm):okA e (false::ms) (.val v::ts)=okA e ms ts:=rfl
def Co(i:Nat):iJ i []=false:=rfl
def Ko(i:Nat)(v:Val)(ts:List Tm):iJ i (.val v::ts)=iJ i ts:=rfl
def B5(i:Nat):iU i [] []=false:=rfl
def Hc(i:Nat)(t:Tm)(ms:List Bool)(ts:List Tm):iU i (false::ms) (t::ts)=iU i ms ts:=by cases t <;> rfl
def AI:aJ e [] []=[]:=rfl
theorem Eo(i:Nat)(ms:List Bool)(ts:List Tm):aJ e (false::ms) (.bor i::ts)=match e[i]? with
 |some (.sh _)=>aJ e ms ts
 |_=>i::aJ e ms ts:=rfl
def Ey(v:Val)(ms:List Bool)(ts:List Tm):aJ e (false::ms) (.val v::ts)=aJ e ms ts:=rfl
def GK(t:Tm)(ms:List Bool)(ts:List Tm):aJ e (true::ms) (t::ts)=aJ e ms ts:=by cases t <;> rfl
end
def yk:aL [] []=[]:=rfl
def Fv(b:Bool)(t:Tm)(ms:List Bool)(ts:List Tm):aL (b::ms) (t::ts)=nZ b t::aL ms ts:=rfl
def FR(i:Nat):nZ true (.bor i)=some i:=rfl
def Ia(t:Tm):nZ false t=none:=by cases t <;> rfl
def B6(e:E3):aS [] [] e=e:=rfl
def Kh(o:Option Nat)(sub:Qw)(s:Sl)(i e:E3):aS (o::sub) (s::i) e=aS sub i (gg o s e):=rfl
theorem EV(i:Nat)(v:Val)(e:E3):gg (some i) (.mu v) e=match e[i]? with
 |some t=>e.set i (t.re v)
 |none=>e:=rfl
def IM(s:Sl)(e:E3):gg none s e=e:=rfl
def Dk(vs:List Val):aA [] vs=[]:=rfl
def Hy(ms:List Bool)(v:Val)(vs:List Val):aA (true::ms) (v::vs)=.mu v::aA ms vs:=rfl
def ID(ms:List Bool)(vs:List Val):aA (false::ms) vs=.no::aA ms vs:=by cases vs <;> rfl
def FX(e:E3):muV [] e=some []:=by cases e <;> rfl
def KQ(ms:List Bool)(v:Val)(e:E3):muV (true::ms) (.mu v::e)=(muV ms e).map (v :: ·):=rfl
def MY(ms:List Bool)(s:Sl)(e:E3):muV (false::ms) (s::e)=muV ms e:=by cases s <;> rfl
def Ad(v:Val):kM (.val v)=flatV v:=rfl
def yS(v:Val):kM (.new v)=cG v:=rfl
def ym(xs:List Val):cG (.lst xs)=flatVs xs:=rfl
def nJ:flatVs []=true:=by simp [flatVs]
def eP(v:Val)(vs:List Val):flatVs (v::vs)=(flatV v&&flatVs vs):=by simp [flatVs]
def AG(i:Int):flatV (.int i)=true:=by simp [flatV]
def CS(i:Bool):flatV (.bl i)=true:=by simp [flatV]
def zU(i:Str):flatV (.str i)=true:=by simp [flatV]
def yu:flatV .non=true:=by simp [flatV]
def ka(xs:List Val):flatV (.tup xs)=flatVs xs:=by simp [flatV]
def dq(h0:0<=i)(h:l[i.toNat]?=some x):atI l i=some x:=by have hl:=(D_.mp h).1;unfold atI ixN;rw[if_pos h0,if_pos (by omega)];exact h
def zx(h0:0<=i)(h:i.toNat<n):ixN n i=some i.toNat:=by unfold ixN;rw[if_pos h0,if_pos (by omega)]
section
variable(a b c d:α)(l:List α)
def ati0:atI (a::l) 0=some a:=dq (by decide) rfl
def ati1:atI (a::b::l) 1=some b:=dq (by decide) rfl
def ati2:atI (a::b::c::l) 2=some c:=dq (by decide) rfl
def ati3:atI (a::b::c::d::l) 3=some d:=dq (by decide) rfl
end
def ixn0(n:Nat):ixN (n+1) 0=some 0:=zx (i:=0) (by decide) (by show 0<n+_;omega)
def ixn1(n:Nat):ixN (n+2) 1=some 1:=zx (i:=1) (by decide) (by show 1<n+_;omega)
theorem xg(xs:List Val)(k:Int)(v:Val):seL.G (.lst xs) (.int k) v=match ixN xs.length k with
 |some j=>some (.lst (xs.set j v))
 |none=>none:=rfl
mutual
def vq:Val->Val->Bool
 |.non,.non=>true
 |.bl a,.bl b=>a==b
 |.bl a,.int j=>(if a then 1 else 0)==j
 |.int i,.bl b=>i==(if b then 1 else 0)
 |.int i,.int j=>i==j
 |.str x,.str y=>x==y
 |.tup xs,.tup ys=>vqs xs ys
 |.lst xs,.lst ys=>vqs xs ys
 |_,_=>false
def vqs:List Val->List Val->Bool
 | [],[]=>true
 |x::xs,y::ys=>vq x y&&vqs xs ys
 |_,_=>false
end
mutual
def wfV:Nat->Val->Bool
 |_,.non=>true
 |_,.bl _=>true
 |_,.int _=>true
 |_,.str x=>PyData.strOk x
 |k+1,.tup xs=>bZ k xs
 |k+1,.lst xs=>bZ k xs
 |_,_=>false
def bZ:Nat->List Val->Bool
 |_,[]=>true
 |k,x::xs=>wfV k x&&bZ k xs
end
mutual
def gD:Val->PyData
 |.bl b=>.bool b
 |.int i=>.int i
 |.str x=>.str x
 |.tup xs=>.tuple (d9 xs)
 |.lst xs=>.list (d9 xs)
 |_=>.none
def d9:List Val->List PyData
 | []=>[]
 |x::xs=>gD x::d9 xs
end
mutual
theorem oy:∀(k:Nat) (v:Val),wfV k v=true->(∀j,k<j->cF j v=some (gD v))/\(gD v).canLay0=true/\(gD v).depth<=k
 |k,.non,_=>⟨λj hj=>by cases j with |zero=>exact absurd hj (OV _) |succ j=>rfl,rfl,NK _⟩
 |k,.bl b,_=>⟨λj hj=>by cases j with |zero=>exact absurd hj (OV _) |succ j=>rfl,rfl,NK _⟩
 |k,.int b,_=>⟨λj hj=>by cases j with |zero=>exact absurd hj (OV _) |succ j=>rfl,rfl,NK _⟩
 |k,.str b,w=>⟨λj hj=>by cases j with |zero=>exact absurd hj (OV _) |succ j=>rfl,by cases k <;> exact w,NK _⟩
 |0,.tup xs,w=>absurd w B_
 |0,.lst xs,w=>absurd w B_
 |
  k+1,.tup xs,w=>by
  obtain⟨h1,h2,h3⟩:=lQ k xs w;exact⟨λj hj=>by cases j with |zero=>exact absurd hj (OV _) |succ j=>simp only[cF,gD,h1 j (Nat.lt_of_succ_lt_succ hj),Option.map_some],h2,by simpa [gD,PyData.depth] using h3⟩
 |
  k+1,.lst xs,w=>by
  obtain⟨h1,h2,h3⟩:=lQ k xs w;exact⟨λj hj=>by cases j with |zero=>exact absurd hj (OV _) |succ j=>simp only[cF,gD,h1 j (Nat.lt_of_succ_lt_succ hj),Option.map_some],h2,by simpa [gD,PyData.depth] using h3⟩
 |k,.ty _,w=>by cases k <;> exact absurd w B_
 |k,.glb _,w=>by cases k <;> exact absurd w B_
 |k,.exc _,w=>by cases k <;> exact absurd w B_
 |k,.kl _,w=>by cases k <;> exact absurd w B_
 |k,.dct _,w=>by cases k <;> exact absurd w B_
 |k,.set _,w=>by cases k <;> exact absurd w B_
theorem lQ:∀(k:Nat) (vs:List Val),bZ k vs=true->(∀j,k<j->d6 j vs=some (d9 vs))/\PyData.canLayAll0 (d9 vs)=true/\PyData.depthAll (d9 vs)<=k
 |k,[],_=>⟨λj hj=>by simp [d6,d9],rfl,NK _⟩
 |
  k,v::vs,w=>by
  have w':(wfV k v&&bZ k vs)=true:=w;rw[u_] at w';obtain⟨h1,h2,h3⟩:=oy k v w'.1;obtain⟨i1,i2,i3⟩:=lQ k vs w'.2;exact⟨λj hj=>by simp [d6,d9,h1 j hj,i1 j hj],by simp [d9,PyData.canLayAll0,h2,i2],Nat.max_le.mpr ⟨h3,i3⟩⟩
end
mutual
theorem AA:∀(k:Nat) (v u:Val),wfV k v=true->wfV k u=true->PyData.eqv (gD v) (gD u)=vq v u
 |
  k,v,u,hv,hu=>by
  cases v <;> first |(cases k <;> exact absurd hv B_) |skip
  all_goals (cases u <;> first |(cases k <;> exact absurd hu B_) |rfl |(cases k with |zero=>exact absurd hv B_ |succ k=>exact vb k _ _ hv hu))
theorem vb:∀(k:Nat) (v u:List Val),bZ k v=true->bZ k u=true->PyData.eqvAll (d9 v) (d9 u)=vqs v u
 |_,[],[],_,_=>rfl
 |_,[],_::_,_,_=>rfl
 |_,_::_,[],_,_=>rfl
 |
  k,x::xs,y::ys,hv,hu=>by
  have h1:(wfV k x&&bZ k xs)=true:=hv;have h2:(wfV k y&&bZ k ys)=true:=hu;rw[u_] at h1 h2;show (PyData.eqv (gD x) (gD y)&&PyData.eqvAll (d9 xs) (d9 ys))=(vq x y&&vqs xs ys);rw[AA k x y h1.1 h2.1,vb k xs ys h1.2 h2.2]
end
def zL(hk:k<=160)(hx:wfV k x=true)(hy:wfV k y=true):ba x y=some (vq x y):=by obtain⟨h1,h2,h3⟩:=oy k x hx;obtain⟨i1,i2,i3⟩:=oy k y hy;unfold ba;rw[h1 164 (by omega),i1 164 (by omega)];dsimp only;rw[if_pos ⟨iI h2 (by omega),iI i2 (by omega)⟩,AA k x y hx hy]
def yb(hx:wfV 60 x=true)(hy:wfV 60 y=true):ba x y=some (vq x y):=zL (by decide) hx hy
mutual
def lN:Val->Bool
 |.bl _=>false
 |.tup xs=>iu xs
 |.lst xs=>iu xs
 |.non=>true
 |.int _=>true
 |.str _=>true
 |_=>false
def iu:List Val->Bool
 | []=>true
 |x::xs=>lN x&&iu xs
end
mutual
theorem AR:∀(v u:Val),lN v=true->lN u=true->(vq v u=true ↔ v=u)
 |
  v,u,hv,hu=>by
  cases v <;> first |exact absurd hv B_ |skip
  all_goals (cases u <;> first |exact absurd hu B_ |exact⟨λz=>absurd z B_,λz=>nomatch z⟩ |(simp [vq];done) |skip)
  all_goals
   refine Iff.trans (vx _ _ hv hu) ?_;constructor
   .rintro rfl;rfl
   .intro z;cases z;rfl
theorem vx:∀(v u:List Val),iu v=true->iu u=true->(vqs v u=true ↔ v=u)
 | [],[],_,_=>⟨λ_=>rfl,λ_=>rfl⟩
 | [],_::_,_,_=>⟨λz=>absurd z B_,λz=>nomatch z⟩
 |_::_,[],_,_=>⟨λz=>absurd z B_,λz=>nomatch z⟩
 |
  x::xs,y::ys,hv,hu=>by
  have h1:(lN x&&iu xs)=true:=hv;have h2:(lN y&&iu ys)=true:=hu;rw[u_] at h1 h2;show (vq x y&&vqs xs ys)=true ↔ _;rw[u_,AR x y h1.1 h2.1,vx xs ys h1.2 h2.2,List.cons.injEq]
end
mutual
theorem kF:∀(k:Nat) (v:Val),wfV k v=true->vq v v=true
 |
  k,v,hv=>by
  cases v <;> first |(cases k <;> exact absurd hv B_) |rfl |exact Pj _ |(cases k with |zero=>exact absurd hv B_ |succ k=>exact tV k _ hv)
theorem tV:∀(k:Nat) (v:List Val),bZ k v=true->vqs v v=true
 |_,[],_=>rfl
 |
  k,x::xs,hv=>by
  have h1:(wfV k x&&bZ k xs)=true:=hv;rw[u_] at h1;show (vq x x&&vqs xs xs)=true;rw[kF k x h1.1,tV k xs h1.2];rfl
end
noncomputable def fV (q:Rat):Val:=.tup [.int q.num,.int q.den]
structure Bx where
 l:Rat
 t:Rat
 w:Rat
 h:Rat
structure Bx.Ok(b:Bx):Prop where
 w:0<b.w
 h:0<b.h
structure Bx.Sz(n:Nat)(b:Bx):Prop where
 l:L2.Sz n b.l
 t:L2.Sz n b.t
 w:L2.Sz n b.w
 h:L2.Sz n b.h
noncomputable def bV (b:Bx):Val:=.tup [fV b.l,fV b.t,fV b.w,fV b.h]
def GQ(e:fV p=fV q):p=q:=by unfold fV at e;simp only[Val.tup.injEq,List.cons.injEq,Val.int.injEq,Pc] at e;rw[eC p,eC q,e.1,e.2]
def xD(q:Rat)(k:Nat):wfV (k+1) (fV q)=true:=by simp [fV,wfV,bZ]
def Dv(q:Rat):lN (fV q)=true:=by simp [fV,lN,iu]
def Ls(b:Bx)(k:Nat):wfV (k+2) (bV b)=true:=by simp [bV,wfV,bZ,xD]
def Nb(p q:Rat):ba (fV p) (fV q)=some (decide (p=q)):=by rw[yb (xD p 59) (xD q 59)];congr 1;rw[P6,AR _ _ (Dv p) (Dv q),O1];exact⟨GQ,λz=>by rw[z]⟩
def KR(q:Rat):flatV (fV q)=true:=by simp [fV,flatV,flatVs]
def LN(b:Bx):flatV (bV b)=true:=by simp [bV,flatV,flatVs,KR]
noncomputable def knV:Val->Bool
 |.exc _=>false
 |v=>(tyC v).isSome
noncomputable def ik:Nat->Val->Bool
 |k+1,.tup xs=>xs.all (ik k)
 |_,v=>knV v
noncomputable def jE:Val->Bool
 |.int _=>true
 |_=>false
noncomputable def aO:Val->Bool
 |.tup [.int a,.int b]=>decide (1<=b)&&decide (Int.gcd a b=1)
 |_=>false
noncomputable def ju:Val->Bool
 |.tup (.int a::_)=>decide (0<a)
 |_=>false
noncomputable def er:Val->Bool
 |.tup [a,b,c,d]=>aO a&&(aO b&&(aO c&&(aO d&&(ju c&&ju d))))
 |_=>false
noncomputable def iD:Val->Bool
 |.int i=>decide (1<=i)
 |_=>false
noncomputable def fL:Val->Bool
 |.tup _=>true
 |_=>false
def Lj(h1:1<=b)(h2:Int.gcd a b=1):Val.tup [.int a,.int b]=fV ((a:Rat)/(b:Rat)):=by
 have hb:b≠0:=by omega
 have h:=nv (a:=a) hb;have s:=Fr.self (by omega) h2;unfold fV;rw[<- h.1,<- h.2,s.1,s.2]
def jx(q:Rat):aO (fV q)=true:=by
 show (decide (1<=(q.den:Int))&&decide (Int.gcd q.num q.den=1))=true
 have:=q.den_pos
 rw[I_ (by omega),I_ (vn q)];rfl
def zi(h:aO d=true):∃q,d=fV q:=by
 unfold aO at h;split at h
 .simp only[u_,O1] at h;exact⟨_,Lj h.1 h.2⟩
 .cases h
def u4(q:Rat):ju (fV q)=decide (0<q):=by show decide (0<q.num)=decide (0<q);rw[PY];exact ve
def sH(h:b.Ok):er (bV b)=true:=by show (aO (fV b.l)&&(aO (fV b.t)&&(aO (fV b.w)&&(aO (fV b.h)&&(ju (fV b.w)&&ju (fV b.h))))))=true;rw[jx,jx,jx,jx,u4,u4,I_ h.w,I_ h.h];rfl
def zX(b:Bx):ik 2 (bV b)=true:=by simp [bV,fV,ik,knV,tyC]
theorem oz(P:E3->Prop):∀(vs acc:List Val) (e:E3),P e->(∀v∈vs,∀e,P e->∃e1 t e2,g v e=some e1/\F e1=.ok t e2/\cX e2 t=some (e2,f v)/\P e2)->acc.length+vs.length<=16777216->∃e',P e'/\lcV g cY F vs acc e=.ok (acc++vs.map f) e'
 | [],acc,e,hp,_,_=>⟨e,hp,by simp [lcV]⟩
 |
  v::vs,acc,e,hp,hf,hl=>by
  obtain⟨e1,t,e2,q1,q2,q3,q4⟩:=hf v (s_ ..) e hp;obtain⟨e',p',q5⟩:=oz P vs (acc++[f v]) e2 q4 (λu hu=>hf u (q_ _ hu)) (by simp at hl ⊢;omega);refine⟨e',p',?_⟩;unfold lcV;rw[if_pos (by simp at hl;omega),q1];simp only[cY,kP,OW,q2,q3,q5];simp
theorem jk(f:α->Val):∀(l:List α) (k:Nat),eL k (l.map f)=(l.zipIdx k).map λp=>.tup [.int (p.2:Nat),f p.1]
 | [],k=>rfl
 |
  a::l,k=>by
  show Val.tup [.int (k:Nat),f a]::eL (k+1) (l.map f)=_;rw[jk f l (k+1),List.zipIdx_cons];rfl
def Es(l:List Val)(k:Nat):eL k l=(l.zipIdx k).map λp=>.tup [.int (p.2:Nat),p.1]:=by
 have:=jk id l k
 rwa [List.map_id] at this
noncomputable def rgV (k:Nat):List Val:=(List.range k).map λj=>Val.int (j:Nat)
def kz(h:k<1000000):jL [.int (k:Nat)]=some (rgV k):=by simp only[jL];rw[if_pos (⟨by omega,by omega⟩:RgB _),NJ];unfold lF rgV;simp only[Int.zero_add]
def uS(h0:0<=i)(h:i<1000000):jL [.int i]=some (rgV i.toNat):=by
 have:=kz (k:=i.toNat) (by omega)
 rwa [show ((i.toNat:Nat):Int)=i from by omega] at this
noncomputable def fdS {α:Type} (r:α->Rt) (e:E3):Option α->SR3
 |some a=>.rt (r a) e
 |none=>.nx e
def jv(r:α->Rt)(e:E3)(a:α):fdS r e (some a)=.rt (r a) e:=rfl
def ip(r:α->Rt)(e:E3):fdS r e none=.nx e:=rfl
theorem fC(f:α->Val)(p:α->Bool)(r:α->Rt)(P:E3->Prop):∀(l:List α) (e:E3),P e->(∀a∈l,∀e,P e->∃e1 e2,g (f a) e=some e1/\P e2/\((p a=true/\B e1=.rt (r a) e2)\/(p a=false/\(B e1=.nx e2\/B e1=.ct e2))))->∃e',P e'/\cI g B (l.map f) e=fdS r e' (l.find? p)
 | [],e,hp,_=>⟨e,hp,rfl⟩
 |
  a::l,e,hp,hf=>by
  obtain⟨e1,e2,q1,q2,q3⟩:=hf a (s_ ..) e hp;rw[x_,dg,q1];rcases q3 with ⟨c,q3⟩ |⟨c,q3⟩
  .exact⟨e2,q2,by rw[NP,c];simp only[q3,Li,fdS]⟩
  .obtain⟨e',p',q4⟩:=fC f p r P l e2 q2 λu hu=>hf u (q_ _ hu);refine⟨e',p',?_⟩;rw[NP,c];rcases q3 with q3 |q3 <;> simp only[q3,qI,KZ,q4]
theorem cQ(fv fw:α->Val)(P:E3->Prop):∀(l:List α) (acc:List Val) (e:E3),P e->(∀a∈l,∀e,P e->∃e1 t e2,g (fv a) e=some e1/\F e1=.ok t e2/\cX e2 t=some (e2,fw a)/\P e2)->acc.length+l.length<=16777216->∃e',P e'/\lcV g qY.G F (l.map fv) acc e=.ok (acc++l.map fw) e'
 | [],acc,e,hp,_,_=>⟨e,hp,by simp [lcV]⟩
 |
  v::vs,acc,e,hp,hf,hl=>by
  obtain⟨e1,t,e2,q1,q2,q3,q4⟩:=hf v (s_ ..) e hp;obtain⟨e',p',q5⟩:=cQ fv fw P vs (acc++[fw v]) e2 q4 (λu hu=>hf u (q_ _ hu)) (by simp at hl ⊢;omega);refine⟨e',p',?_⟩;rw[x_];unfold lcV;have cy:qY.G=cY:=rfl;rw[cy] at q5 ⊢;rw[if_pos (by simp at hl;omega),q1];simp only[cY,kP,OW,q2,q3,q5];simp
def Gz(v:Val):inS (.sh v)=.sh v:=rfl
mutual
theorem sf:∀(k:Nat) (v:Val),wfV k v=true->wfV (k+1) v=true
 |k,.non,_=>by simp [wfV]
 |k,.bl _,_=>by simp [wfV]
 |k,.int _,_=>by simp [wfV]
 |k,.str x,h=>by cases k <;> simpa [wfV] using h
 |0,.tup _,h=>by simp [wfV] at h
 |0,.lst _,h=>by simp [wfV] at h
 |
  k+1,.tup xs,h=>by
  have:=j4 k xs (by simpa [wfV] using h)
  simpa [wfV] using this
 |
  k+1,.lst xs,h=>by
  have:=j4 k xs (by simpa [wfV] using h)
  simpa [wfV] using this
 |k,.ty _,h=>by cases k <;> simp [wfV] at h
 |k,.glb _,h=>by cases k <;> simp [wfV] at h
 |k,.exc _,h=>by cases k <;> simp [wfV] at h
 |k,.kl _,h=>by cases k <;> simp [wfV] at h
 |k,.dct _,h=>by cases k <;> simp [wfV] at h
 |k,.set _,h=>by cases k <;> simp [wfV] at h
theorem j4:∀(k:Nat) (vs:List Val),bZ k vs=true->bZ (k+1) vs=true
 |k,[],_=>by simp [bZ]
 |
  k,v::vs,h=>by
  have h':wfV k v=true/\bZ k vs=true:=by simpa [bZ] using h
  simp only[bZ,sf k v h'.1,j4 k vs h'.2,Bool.and_self]
end
def JF(h:wfV k v=true)(l:k<=m):wfV m v=true:=by
 induction l with
 |refl=>exact h
 |step _ ih=>exact sf _ _ ih
def EN(i:Nat)(v:Val)(e:E3):gg (some i) (.sh v) e=e:=rfl
noncomputable def l8 (ms:List Bool) (r:SR3):R3F:=match r with
 |.nx e=>(match muV ms e with |some mv=>.ok (.val .non) mv |none=>.stuck)
 |.rt r e=>(match muV ms e with |some mv=>.ok r mv |none=>.stuck)
 |.exc c e=>(match muV ms e with |some mv=>.exc c mv |none=>.stuck)
 |_=>.stuck
def wV(h:vs.length=ms.length):(fnP ms N c).G vs=l8 ms (c.G (sls ms vs++List.replicate (N-vs.length) .no)):=by rw[aB,if_pos h];rfl
def IT(h:vs.length=ms.length):(PFx.of ms N c).G vs=l8 ms (c.G (sls ms vs++List.replicate (N-vs.length) .no)):=by rw[gq,if_pos h];rfl
def xu(ms:List Bool)(r:Rt)(e:E3):l8 ms (.rt r e)=match muV ms e with |some mv=>.ok r mv |none=>.stuck:=rfl
def aQ{Q:SR3->Prop}(I:E3->Prop){a b:PSt}{e:E3}(h1:∃e1,a.G e=.nx e1/\I e1)(h2:∀e1,I e1->Q (b.G e1)):Q ((aj a b).G e):=by obtain⟨e1,q,i⟩:=h1;rw[Ef,q];exact h2 e1 i
def iV(i:Int):Val.tup [.int i,.int 1]=fV (i:Rat):=rfl
def sm8(h:m.natAbs<1099511627776):Sm 8000 m:=Nn (show m.natAbs<2^40 from h) (N5 (by decide) (by decide))
def mD(h:m.natAbs<=2000000000000000000000000000000):Sm 101 m:=by unfold Sm;exact Ox h (by decide)
def gu{m:Int}(h:m.natAbs<=2000000000000000000000000000000):Sz 101 (m:Rat):=⟨mD h,mD (by show (1:Int).natAbs<=_;decide)⟩
def gW{a b:Int}(hb:b≠0)(h1:a.natAbs<=2000000000000000000000000000000)(h2:b.natAbs<=2000000000000000000000000000000):Sz 101 ((a:Rat)/(b:Rat)):=Sz.div hb (mD h1) (mD h2) 101 (t_ _) (t_ _)
def gc{m:Int}(h:0<m):(0:Rat)<(m:Rat):=Rat.intCast_pos.mpr h
def fW{a b:Int}(h1:0<a)(h2:0<b):(0:Rat)<(a:Rat)/(b:Rat):=by rw[Rat.div_def];exact Rat.mul_pos (gc h1) (Rat.inv_pos.mpr (gc h2))
structure Good(b:Bx):Prop where
 ok:b.Ok
 sz:b.Sz 101
def kE(h:m.natAbs<=2000000000000000000000000000000):Sm 8000 m:=(mD h).mono (by decide)
noncomputable def Jv (cs:List (Str×PFn)) (F:ME3) (A:MA3) (e:E3):R3 Tm:=(F e).bind λt e1=>match rs e1 t with
 |some (.glb x)=>(match cs.lookup x with
  |some p=>Dt p.ms p.G A e1
  |none=>.stuck)
 |_=>.stuck
noncomputable def mj (cs:List (Str×PFn)) (f:PEx) (a:PAs):PEx:=⟨25,Jv cs f.G a.G⟩
theorem FW(e:E3)(cs:List (Str×PFn))(f:PEx)(a:PAs):(mj cs f a).G e=(f.G e).bind λt e1=>match rs e1 t with
 |some (.glb x)=>(match cs.lookup x with
  |some p=>(ah p a).G e1
  |none=>.stuck)
 |_=>.stuck:=rfl
theorem nA{β:Type}{x:Str}{b:β}:∀{l:List (Str×β)},l.lookup x=some b->(x,b)∈l
 | [],h=>by simp at h
 |
  (y,c)::l,h=>by
  rw[Ov] at h;split at h
  .rename_i q
   have:=eq_of_beq q
   subst this;cases h;exact s_ ..
  .exact q_ _ (nA h)
section
variable{K:W.Frag}{mg:Qt}{X:Cx}{ES:St->XK}{e:Expr}{es:List Expr}{A:PAs}{pos:Pos}
def wI(K:W.Frag)(mg:Qt)(X:Cx)(cs:List (Str×PFn)):Prop:=∀c∈cs,∃k ps,Callee X.prog X.w X.K X.mg X.base c.1 k ps (sp3 K mg c.2)/\Room k X.A
def JT:wI K mg X []:=λ_ h=>nomatch h
def wq{f:PFn}{x:Str}{k:Nat}{ps:List Str}{cs:List (Str×PFn)}(C:Callee X.prog X.w X.K X.mg X.base x k ps (sp3 K mg f))(hr:Room k X.A)(h:wI K mg X cs):wI K mg X ((x,f)::cs):=λc hc=>by
 rcases J_.mp hc with rfl |hc
 .exact⟨k,ps,C,hr⟩
 .exact h c hc
def Br{ef:Expr}{cs:List (Str×PFn)}{p:PEx}(hc:wI K mg X cs)(hf:DE K mg X ES ef p)(hx:mV X ES)(ha:DA K mg X ES (e::es) A)(hm:X.mg=mg:=by rfl)
 (harm:eval (.Call ef (e::es) [] pos) X.env=(do callWith pos (<- eval ef X.env) [] (backTo pos (starEach (e::es) X.env)) (backToKw pos (keywordEach [] X.env))):=by rfl)
 (he:starEach (e::es) X.env=(false,eval e X.env)::starEach es X.env:=by rfl) (hpl:(backTo pos (starEach es X.env)).any (·.1)=false:=by rfl):DE K mg X ES (.Call ef (e::es) [] pos) (mj cs p A):=by
 subst hm;refine⟨λpins s σ H Q I ⟨Y,N0,L,ns,e,S,hl,p⟩=>?_⟩;rw[harm];refine o_ ?_;have rd
  : rdE K X.mg ES _ σ H (λv H1=>∃x c f,(x,c)∈cs/\v=.ref f/\X.mg x=some (.ref f)/\rdA K X.mg ES A.G σ H1 (λvs H2=>sp3 K X.mg c vs H2 Q (ES σ))):=
  ⟨Y,
   N0,L,ns,e,S,hl,PG3.imp p S λt e1 ns1 H1 a1 S1 p1 x r1=>by
   try dsimp only at p1
   split at p1
   .rename_i y q;split at p1
    .rename_i c q2;obtain⟨a,rfl,m⟩:=(r1.sh S1 q).glb;exact⟨y,c,a,nA q2,rfl,m,wA (f:=c) σ H1 Q ⟨Y,N0,L,ns1,e1,S1,λa z=>hl a (a1.dom a z),p1⟩⟩
    .exact p1.elim
   .exact p1.elim⟩
 refine NG (hf.ok pins s σ H _ I rd) (λu s1 ⟨v,H1,I1,rv,x,c,f,hmem,ev,m,ra⟩=>?_) λ_ _ z=>z;subst ev;obtain rfl:u=Value.ref f:=rv;obtain⟨k,ps,C,hr⟩:=hc (x,c) hmem;obtain⟨f',fd,F',m',kp,bb,_⟩:=C.ex;rw[m] at m';cases m';refine W.callWith_K (h₀:=X.base) I.ok.mod.kin kp (NG (ha.ok pos pins s1 σ H1 _ I1 ra) (λus s2 ⟨vs,H2,I2,r,q⟩=>⟨I2.kIn,?_⟩) λ_ _ z=>z) he hpl;have hl:(us++[]).length=ps.length:=by rw[Ny,<- r.length];exact F'.len _ _ _ _ q
 refine wpAny_call (Qf (F'.run X.A X.stack s2 H2 ⟨us,[]⟩ us vs Q (ES σ) hr I2.env0 (by simpa using bb s2 us I2.kIn hl) r q) λr s' hq=>?_);cases r with
 |error ex=>exact hx pins σ H2 s2 ex s' I2 hq
 |
  ok fl=>
  cases fl with
  |ret u=>exact I2.after hq
  |next=>exact False.elim hq
  |brk=>exact False.elim hq
  |cont=>exact False.elim hq
end
section
variable{K:W.Frag}{mg:Qt}{P:Addr->Prop}{H:Hp}{ws ws':List (Key×V)}{us us':List (Key×Val)}{k:Key}
def LJ(r:Rk K mg P H ws us):lkD us k=some v->∃d,lkD ws k=some d/\Rd K mg P H d v:=
 r.ind (M:=λws us=>lkD us k=some v->∃d,lkD ws k=some d/\Rd K mg P H d v) (λq=>by cases q) (λ{k2 d v2 ds vs} r _ ih q=>by
  unfold lkD at q ih ⊢;rw[NP] at q ⊢;dsimp only at q ⊢;by_cases hk:k2=k
  .rw[I_ hk] at q ⊢;cases q;exact⟨d,rfl,r⟩
  .rw[C_ hk] at q ⊢;exact ih q)
def Ep(r:Rk K mg P H ws us):us.map (·.1)=ws.map (·.1):=
 r.ind (M:=λws us=>us.map (·.1)=ws.map (·.1)) rfl λ_ _ ih=>by rw[x_,x_,ih]
def GW(r:Rk K mg P H ws us):ws.length=us.length:=
 r.ind (M:=λws us=>ws.length=us.length) rfl λ_ _ ih=>NC (· + 1) ih
def Iz(r:Rk K mg P H ws us)(q:Rk K mg P H ws' us'):Rk K mg P H (ws++ws') (us++us'):=
 r.ind (M:=λws us=>Rk K mg P H (ws++ws') (us++us')) q λr _ ih=>.cons r ih
def Ky(rd:Rd K mg P H d v)(r:Rk K mg P H ws us):Rk K mg P H (eY ws k d) (eY us k v):=by
 unfold eY;rw[BF (Ep r)];by_cases hc:(ws.any λkv=>decide (kv.1=k))=true
 .rw[if_pos hc,if_pos hc];exact r.ind (M:=λws us=>Rk K mg P H (ws.map λkv=>if kv.1=k then (kv.1,d) else kv) (us.map λkv=>if kv.1=k then (kv.1,v) else kv)) .nil (λ{k2 d2 v2 ds vs} r _ ih=>by
   rw[x_,x_];dsimp only;by_cases hk:k2=k
   .rw[if_pos hk,if_pos hk];exact .cons rd ih
   .rw[if_neg hk,if_neg hk];exact .cons r ih)
 .rw[if_neg hc,if_neg hc];exact Iz r (.cons rd .nil)
end
noncomputable def sD:Val->Val->Val->Option Val:=λo i v=>match o with
 |.dct kvs=>(match i with
  |.str k=>if kvs.length<16777216 then some (.dct (eY kvs (.inr k) v)) else none
  |_=>none)
 |_=>none
noncomputable def pU (n:Nat) (u:j6):MG3:=λv e=>match v with
 |.tup vs=>if vs.length=n then u vs e else none
 |.lst vs=>if vs.length=n then u vs e else none
 |_=>none
noncomputable def gtU (n:Nat) (a:PGs):PGt:=⟨3,pU n a.G⟩
section
variable{e:E3}
def g_uL(n:Nat)(a:PGs)(vs:List Val):(gtU n a).G (.lst vs) e=if vs.length=n then a.G vs e else none:=rfl
end
section
variable{K:W.Frag}{mg:Qt}{X:Cx}{es:List Expr}{gs:PGs}{pos:Pos}
def JC{k n:Nat}(hK:X.K=K)(hc:X.calm=true)(h:DGs K mg X es gs)(hn:(assignEach es X.env).length=n:=by rfl)(hst:(assignEach es X.env).findIdx? (·.1)=none:=by rfl):DG K mg X (.Tuple es k pos) (gtU n gs):=by
 subst hK;exact
  ⟨PG.imp (Gx hc h.ok hn hst) λv σ H Q zz=>zz.el λY N0 ns e u e' S r q k=>by
  replace q:pU n gs.G u e=some e':=q;unfold pU at q;split at q
  .split at q
   .rename_i hl;obtain⟨a,vs,rfl,z,rr⟩:=ShR.tup (.inl r);exact⟨a,vs,rfl,.inl z,by rw[rr.len];exact hl,Y,N0,ns,e,_,e',S,rr,q,k⟩
   .cases q
  .split at q
   .rename_i hl;obtain⟨a,vs,rfl,z,rr⟩:=ShR.lstL (.inl r);exact⟨a,vs,rfl,.inr z,by rw[rr.len];exact hl,Y,N0,ns,e,_,e',S,rr,q,k⟩
   .cases q
  .cases q⟩
end
theorem ar1{α:Type}{P:List α->Prop}(h:∀a,P [a]):∀us:List α,us.length=1->P us
 | [a],_=>h a
theorem ar2{α:Type}{P:List α->Prop}(h:∀a b,P [a,b]):∀us:List α,us.length=2->P us
 | [a,b],_=>h a b
theorem ar3{α:Type}{P:List α->Prop}(h:∀a b c,P [a,b,c]):∀us:List α,us.length=3->P us
 | [a,b,c],_=>h a b c
theorem ar4{α:Type}{P:List α->Prop}(h:∀a b c d,P [a,b,c,d]):∀us:List α,us.length=4->P us
 | [a,b,c,d],_=>h a b c d
section
variable{K:W.Frag}{mg:Qt}{P:Addr->Prop}{H:Hp}
theorem kC:∀l:List Nat,Rds K mg P H (l.map λi:Nat=>V.int (i:Nat)) (l.map λi:Nat=>Val.int (i:Nat))
 | []=>.nil
 |i::l=>.cons (.int _) (kC l)
end
noncomputable def Cb:List Val->Bv:=λvs=>match vs with
 | [.int j]=>if -(2^62)<=j/\j<=16777216 then .new (.lst (rgV j.toNat)) else .stuck
 |_=>.stuck
noncomputable def gJ:PBf:=⟨Cb⟩
def xH{j:Int}(h:-(2^62)<=j/\j<=16777216):gJ.G [.int j]=.new (.lst (rgV j.toNat)):=if_pos h
noncomputable def CY:List Val->Bv:=λvs=>match vs with
 | [.int j]=>if 0<=j/\j<=1000000 then .val (.tup (rgV j.toNat)) else .stuck
 |_=>.stuck
noncomputable def mS:PBf:=⟨CY⟩
def LL{j:Int}(h:0<=j/\j<=1000000):mS.G [.int j]=.val (.tup (rgV j.toNat)):=if_pos h
noncomputable def jP:List Val->Option (List (List Val))
 | []=>some []
 |.lst xs::vs=>(jP vs).map (xs :: ·)
 |_::_=>none
theorem pG:∀(xss:List (List Val)),jP (xss.map .lst)=some xss
 | []=>rfl
 |xs::xss=>by show (jP (xss.map .lst)).map _=_;rw[pG xss];rfl
noncomputable def nM:List Val->Bv:=λvs=>match vs with
 | [.lst us,.lst ys]=>match jP us with
  |some xss=>if xss≠[]/\ys.length+xss.flatten.length<=16777216 then .new (.lst (ys++xss.flatten)) else .stuck
  |none=>.stuck
 |_=>.stuck
noncomputable def si:PBf:=⟨nM⟩
def Iw(xss:List (List Val))(ys:List Val):si.G [.lst (xss.map .lst),.lst ys]=if xss≠[]/\ys.length+xss.flatten.length<=16777216 then .new (.lst (ys++xss.flatten)) else .stuck:=by show nM [.lst (xss.map .lst),.lst ys]=_;unfold nM;dsimp only;rw[pG]
noncomputable def uq (f:List Int->Int):List Val->Bv:=λvs=>match vs with
 | [.lst xs]=>(match gn xs with
  |some bs=>if bs≠[] then .val (.int (f bs)) else .stuck
  |none=>.stuck)
 |_=>.stuck
noncomputable def sP:PBf:=⟨uq mnI⟩
def MD{f:List Int->Int}{ns:List Int}(h:ns≠[]):uq f [.lst (ns.map .int)]=.val (.int (f ns)):=by unfold uq;dsimp only;rw[cm];exact if_pos h
def GN{ns:List Int}(h:ns≠[]):sP.G [.lst (ns.map .int)]=.val (.int (mnI ns)):=MD h
noncomputable def BU:Val->Val->Bv:=λx y=>match x,y with
 |.bl a,.bl b=>.val (.bl (a != b))
 |_,_=>.stuck
noncomputable def B8:PO2:=⟨BU⟩
noncomputable def MR (e:E3):R3 Tm:=.ok (.new (.set [])) e
noncomputable def xI:PEx:=⟨27,MR⟩
def Hi(e:E3):xI.G e=.ok (.new (.set [])) e:=rfl
noncomputable def Bi:Val->Val->Bv:=λx y=>match x,y with
 |.int i,.set xs=>.val (.bl (decide (i∈xs)))
 |_,_=>.stuck
noncomputable def AW:PO2:=⟨Bi⟩
def MZ(i:Int)(xs:List Int):AW.G (.int i) (.set xs)=.val (.bl (decide (i∈xs))):=rfl
noncomputable def wZ:List Val->Bv:=λvs=>match vs with
 | [.set xs]=>.val (.int (xs.length:Nat))
 |_=>.stuck
noncomputable def sC:PBf:=⟨wZ⟩
def HB(xs:List Int):sC.G [.set xs]=.val (.int (xs.length:Nat)):=rfl
noncomputable def BD:Val->Option (List Int)
 |.set xs=>some xs
 |_=>none
noncomputable def sF (i:Nat) (A:MA3) (e:E3):R3 Tm:=match e[i]? with
 |some s=>match s.mv.bind BD with
  |some _=>(A e).bind λts e1=>match dem e1 ts with
   |some (e2,[.int k])=>match e2[i]? with
    |some s2=>match s2.mv.bind BD with
     |some xs=>if xs.length<4000 then .ok (.val .non) (e2.set i (s2.re (.set (gh xs k)))) else .stuck
     |none=>.stuck
    |none=>.stuck
   |_=>.stuck
  |none=>.stuck
 |none=>.stuck
noncomputable def Dl (i:Nat) (a:PAs):PEx:=⟨28,sF i a.G⟩
def HV(e:E3)(i:Nat)(a:PAs):(Dl i a).G e=sF i a.G e:=rfl
noncomputable def uf:Val->Val->Bv:=λx y=>match x with
 |.dct kvs=>(match y with
  |.int k=>(match lkD kvs (.inl k) with
   |some v=>.val v
   |none=>.stuck)
  |_=>.stuck)
 |_=>.stuck
noncomputable def wK:PO2:=⟨uf⟩
def LZ(h:lkD kvs (.inl k)=some v):wK.G (.dct kvs) (.int k)=.val v:=by show uf (.dct kvs) (.int k)=_;unfold uf;dsimp only;rw[h]
noncomputable def sDI:Val->Val->Val->Option Val:=λo i v=>match o with
 |.dct kvs=>(match i with
  |.int k=>if kvs.length<16777216 then some (.dct (eY kvs (.inl k) v)) else none
  |_=>none)
 |_=>none
noncomputable def seI:PSe:=⟨sDI⟩
def J4(kvs:List (Key×Val))(k:Int)(v:Val):seI.G (.dct kvs) (.int k) v=if kvs.length<16777216 then some (.dct (eY kvs (.inl k) v)) else none:=rfl
noncomputable def mi:Val->List Val->Option (Val×Val):=λu vs=>match u,vs with
 |.lst xs,[.tup ys]=>if xs.length+ys.length<=16777216 then some (.lst (xs++ys),.non) else none
 |_,_=>none
noncomputable def gv:PMm:=⟨mi⟩
def ko(xs ys:List Val):gv.G (.lst xs) [.tup ys]=if xs.length+ys.length<=16777216 then some (.lst (xs++ys),.non) else none:=rfl
section
variable{K:W.Frag}{mg:Qt}{P:Addr->Prop}{H:Hp}
def Jl:b9 K mg rLrg gJ.G:=λP H xs vs Q r0 p=>by
 replace p:BvP K mg P H Q (Cb vs):=p;unfold Cb at p;split at p
 .obtain⟨d,rfl,r⟩:=dn r0;obtain rfl:=r.int;split at p
  .rename_i hb;exact⟨_,rfl,hb.1,hb.2,bvL p (kC _)⟩
  .exact p.elim
 .exact p.elim
def J6:b9 K mg rTrg mS.G:=λP H xs vs Q r0 p=>by
 replace p:BvP K mg P H Q (CY vs):=p;unfold CY at p;split at p
 .obtain⟨d,rfl,r⟩:=dn r0;obtain rfl:=r.int;split at p
  .rename_i hb;exact⟨_,rfl,hb.1,hb.2,bvT p (kC _)⟩
  .exact p.elim
 .exact p.elim
def CF{ds:List V}{vs:List Val}{xss:List (List Val)}(r:Rds K mg P H ds vs):jP vs=some xss->∃yss,Lsts H ds yss/\Rds K mg P H yss.flatten xss.flatten/\yss.length=xss.length:=
 r.ind (M:=λds vs=>∀xss,jP vs=some xss->∃yss,Lsts H ds yss/\Rds K mg P H yss.flatten xss.flatten/\yss.length=xss.length) (λxss e=>by cases e;exact⟨[],.nil,.nil,rfl⟩) (λ{d v ds vs} r _ ih xss e=>by
  cases v with
  |lst xs=>obtain⟨yss,e1,rfl⟩:=Nq.mp (show (jP vs).map (xs :: ·)=some xss from e);obtain⟨zss,g1,g2,g3⟩:=ih _ e1;obtain⟨a,es,rfl,g4,g5⟩:=ShR.lst (.inl r);exact⟨es::zss,.cons g4 g1,g5.append g2,NC (· + 1) g3⟩
  |_=>cases e) xss
def Fq:b9 K mg Dz si.G:=λP H xs vs Q r0 p=>by
 replace p:BvP K mg P H Q (nM vs):=p;unfold nM at p;split at p
 .obtain⟨d,d',rfl,r1,r2⟩:=nE r0;obtain⟨a,us,rfl,g1,g2⟩:=r1.lst;obtain⟨b,ys,rfl,g3,g4⟩:=r2.lst;split at p
  .rename_i xss q;split at p
   .rename_i hb;obtain⟨yss,g5,g6,g7⟩:=CF g2 q;refine⟨a,b,us,ys,yss,rfl,g1,g3,g5,λz=>hb.1 ?_,by rw[g4.len,g6.len];exact hb.2,bvL p (g4.append g6)⟩;rw[z] at g7;exact OF.mp g7.symm
   .exact p.elim
  .exact p.elim
 .exact p.elim
def Jf{f:List Int->Int}:b9 K mg (CN f K) (uq f):=λP H xs vs Q r0 p=>by
 unfold uq at p;split at p
 .obtain⟨d,rfl,r⟩:=dn r0;obtain⟨a,ys,rfl,h,q⟩:=r.lstL;split at p
  .rename_i bs e;split at p
   .rename_i hb;exact⟨a,bs,rfl,tU q e ▸ h,hb,bv p (.int _)⟩
   .exact p.elim
  .exact p.elim
 .exact p.elim
def Fh:b9 K mg (CN mnI K) sP.G:=Jf
def GD:OpD K mg rIsB B8.G:=λP H x y v u Q rx ry p=>by
 replace p:BvP K mg P H Q (BU v u):=p;unfold BU at p;split at p
 .obtain rfl:=rx.bl;obtain rfl:=ry.bl;exact⟨_,_,rfl,rfl,bv p (.bl _)⟩
 .exact p.elim
def Jw:OpD K mg yZ AW.G:=λP H x y v u Q rx ry p=>by
 replace p:BvP K mg P H Q (Bi v u):=p;unfold Bi at p;split at p
 .obtain rfl:=rx.int;obtain⟨a,rfl,_,e⟩:=ry.set;exact⟨_,_,_,_,rfl,rfl,e,bv p (.bl _)⟩
 .exact p.elim
def Fm:b9 K mg (λxs H Q=>∃a S n,xs=[.ref a]/\H a=some (.set S n)/\Q (.int (n:Nat)) H) sC.G:=λP H xs vs Q r0 p=>by
 replace p:BvP K mg P H Q (wZ vs):=p;unfold wZ at p;split at p
 .obtain⟨d,rfl,r⟩:=dn r0;obtain⟨a,rfl,_,e⟩:=r.set;exact⟨_,_,_,rfl,e,bv p (.int _)⟩
 .exact p.elim
def A7:Dn K mg DR seI.G:=λP H n o u di vi d v u' Q np e hf r0 ri rd q k=>by
 replace q:sDI u vi v=some u':=q;unfold sDI at q;split at q
 .split at q
  .split at q
   .rename_i hl;cases q;obtain rfl:=ri.int;cases r0 with
    |dct rk=>exact⟨n,_,rfl,DPut.k (k:=.inl _) e (by rw[GW rk];exact hl),k _ trivial (.dct (Ky rd rk))⟩
   .cases q
  .cases q
 .cases q
def xy:MmD K mg (tJ K) gv.G:=λP H n o u ds vs u' v Q np e hf r0 rs q k=>by
 replace q:mi u vs=some (u',v):=q;unfold mi at q;split at q
 .split at q
  .rename_i hl;cases q;obtain⟨xs,rfl,r⟩:=mC r0;obtain⟨d,rfl,rd⟩:=C0 rs;obtain⟨b,ys,rfl,e2,q5⟩:=ShR.tup (.inl rd);exact⟨n,b,xs,ys,rfl,rfl,e,e2,by rw[r.len,q5.len];exact hl,k _ _ trivial (.lst (r.append q5)) .non⟩
  .cases q
 .cases q
variable{X:Cx}{ES:St->XK}{e o a b:Expr}{es:List Expr}{p q:PEx}{A:PAs}{pos cpos apos q1 q2 p0 p1 p2:Pos}
def JJ(hc:X.calm=true)(hl:Gl X "list")(hml:mg "list"=none)(hg:Gl X "range")(hm:mg "range"=none)(ha:DA K mg X ES [a] A)(hk:X.mg=mg:=by rfl)(hs:starEach [a] X.env=[(false,eval a X.env)]:=by rfl)
 (hs1:starEach [.Call (.Name "range" p2) [a] [] q2] X.env=[(false,eval (.Call (.Name "range" p2) [a] [] q2) X.env)]:=by rfl):
 DE K mg X ES (.Call (.Name "list" p1) [.Call (.Name "range" p2) [a] [] q2] [] pos) (pFn gJ A):=by
 subst hk;exact⟨PE.imp (Jq hc hl hml hg hm ha.ok hs hs1) (qt Jl)⟩
def Ip(hc:X.calm=true)(hl:Gl X "tuple")(hml:mg "tuple"=none)(hg:Gl X "range")(hm:mg "range"=none)(ha:DA K mg X ES [a] A)(hk:X.mg=mg:=by rfl)(hs:starEach [a] X.env=[(false,eval a X.env)]:=by rfl)
 (hs1:starEach [.Call (.Name "range" p2) [a] [] q2] X.env=[(false,eval (.Call (.Name "range" p2) [a] [] q2) X.env)]:=by rfl):
 DE K mg X ES (.Call (.Name "tuple" p1) [.Call (.Name "range" p2) [a] [] q2] [] pos) (pFn mS A):=by
 subst hk;exact⟨PE.imp (I0 hc hl hml hg hm ha.ok hs hs1) (qt J6)⟩
def Gh(hg:Gl X x)(hm:mg x=none)(hv:bootBuiltins x=some (.type "set"))(hk:X.mg=mg:=by rfl)(hn:x ≠ "__name__":=by decide)(hdb:(x==("__debug__" : Str))=false:=by decide):DE K mg X ES (.Call (.Name x p0) [] [] pos) xI:=by
 subst hk;exact⟨PE.imp (xW yA hg hm hv hn hdb) λσ H Q zz=>zz.el λY N0 L ns e S hl p=>⟨rfl,λl hl'=>by
  have:=PG3.bv (b:=.new (.set [])) p S hl H l (.set (λi=>decide (i∈([]:List Int))) 0) .refl hl' trivial (.set [] List.nodup_nil)
  have e:(λ_:Int=>false)=λi:Int=>decide (i∈([]:List Int)):=by funext i;simp
  rw[e];exact this⟩⟩
def J7{xs:List Int}{i:Int}(nd:xs.Nodup):(gh xs i).Nodup/\HO.set (λk=>decide (k∈xs) || decide (k=i)) (if decide (i∈xs)=true then xs.length else xs.length+1)=.set (λk=>decide (k∈gh xs i)) (gh xs i).length:=by
 unfold gh;by_cases hi:i∈xs
 .rw[if_pos (I_ hi),if_pos hi];refine⟨nd,?_⟩;congr 1;funext k;by_cases hk:k∈xs
  .rw[I_ hk];rfl
  .rw[C_ hk,C_ (show ¬ k=i from λz=>hk (by rw[z];exact hi))];rfl
 .rw[if_neg (show ¬ decide (i∈xs)=true by rw[C_ hi];exact B_),if_neg hi];refine⟨O8.mpr ⟨hi,nd⟩,?_⟩;congr 1;funext k;rw[P6,O7,Oy,Oy,Oy,J_];exact Or.comm
def H9{j:Nat}(hK:X.K=K)(ho:DE K mg X ES o (af j))(ha:DA K mg X ES (e::es) A)
 (i_:attributeBase o "add" X.env (eval o X.env)=eval o X.env:=by rfl)
 (hfew:((backTo cpos (starEach (e::es) X.env)).all (λx=>!x.1)&&(backToKw cpos (keywordEach [] X.env)).all (λx=>x.1.isSome)
  && decide ((e::es).length+([]:List Keyword).length+(if ([]:List Keyword).isEmpty then 0 else 1)<30))=true:=by rfl)
 (j':(apos.endLine==cpos.line)=true:=by rfl) (hs:starEach (e::es) X.env=(false,eval e X.env)::starEach es X.env:=by rfl) (c_:(backTo cpos (starEach es X.env)).any (·.1)=false:=by rfl):
 DE K mg X ES (.Call (.Attribute o "add" apos) (e::es) [] cpos) (Dl j A):=by
 subst hK;exact
  ⟨PE.imp (xJ PySem.F.plainAttrs_set PySem.F.slot_set_add PySem.F.type_set_add AO ho.ok ha.ok i_ hfew j' hs c_) λσ H Q zz=>zz.el λY N0 L ns e S hl p=>⟨Y,N0,L,ns,e,S,hl,by
  replace p:PG3 X.K mg Y N0 ns e σ H (ES σ) (KE X.K mg Y N0 L σ Q) (sF j A.G e):=p;unfold sF at p;split at p
  .rename_i s0
    q0
   split at p
   .rename_i xs0 hz;obtain⟨u0,z1,z2⟩:=NF.mp hz;show PG3 X.K mg Y N0 ns e σ H (ES σ) _ (eJ j e);rw[tO q0 z1];intro H1 ns1 a1 S1 ov ro;have ty:tyV X.K "set" ov H1:=by
     have rs:=S1.bor (i:=j) (v:=u0) ro (by rw[q0];cases s0 <;> first |exact z1 |cases z1);cases u0 with
     |set ys=>obtain⟨a,rfl,_,h⟩:=rs.set;exact .inr (.inr (.inr ⟨rfl,_,_,h⟩))
     |_=>cases z2
    refine⟨ty,Y,N0,ns1,e,S1,PG3.imp (p.after S a1) S1 λts e1 h_ H2 a2 S2 p2 xs r2=>?_⟩;split at p2
    .rename_i e2 k q1;obtain⟨ns3,S3,a3,r3⟩:=jh S2 r2 q1;split at p2
     .rename_i s2 q2;split at p2
      .rename_i ys q3;split at p2
       .rename_i a_;obtain⟨u,y1,y2⟩:=NF.mp q3;obtain⟨n,ob,k1,k0,k2,k3,k4,k5⟩:=S3.write q2 y1;have ro':σ[j]?=some (some ov):=ro;rw[k1] at ro';cases ro';obtain⟨d,rfl,rd⟩:=C0 r3;obtain rfl:=ShR.int (.inl rd);cases u with
        |
         set zs=>
         cases y2;cases k4 with
         |set _ nd=>obtain⟨i1,i2⟩:=J7 (i:=k) nd;refine⟨n,k,_,_,rfl,rfl,k2,a_,?_⟩;rw[i2];obtain⟨mv,S4,a4⟩:=k5 (.set (λz=>decide (z∈gh ys k)) (gh ys k).length) (.set (gh ys k)) trivial (.set _ i1);exact p2 _ _ (a3.trans S2 a4) S4 _ .non
        |_=>cases y2
       .exact p2.elim
      .exact p2.elim
     .exact p2.elim
    .exact p2.elim
   .exact p.elim
  .exact p.elim⟩⟩
def Cu(hu:X.A.units+1<cLine)(ha:DE K mg X ES a p)(hb:DE K mg X ES b q)(hs:BZ b):DE K mg X ES (.Subscript a b pos) (pOp wK p q):=⟨PE.imp (Er hu ha.ok hb.ok hs) λσ H Q zz=>zz.el λY N0 L ns e S hl p=>
 ⟨Y,
  N0,L,ns,e,S,hl,PG3.imp p S λt1 e1 ns1 H1 a1 S1 p1 x r1=>⟨Y,N0,L,ns1,e1,S1,λa z=>hl a (a1.dom a z),PG3.imp p1 S1 λt2 e2 h_ H2 a2 S2 p2 y r2=>by
  try dsimp only at p2
  split at p2
  .rename_i v u q1 q2;replace p2:PG3 K mg Y N0 h_ e2 σ H2 (ES σ) (KE K mg Y N0 L σ Q) ((uf v u).at e2):=p2;unfold uf at p2;split at p2
   .split at p2
    .split at p2
     .rename_i q3;obtain⟨a,ws,rfl,h,rk⟩:=((r1.drop a2).sh S2 q1).dct;obtain rfl:=(r2.sh S2 q2).int;obtain⟨d,q4,rd⟩:=LJ rk q3;exact⟨a,d,rfl,q4 ▸ DGet.k (k:=.inl _) h,p2.ret S2 _ rd⟩
     .exact p2.elim
    .exact p2.elim
   .exact p2.elim
  .exact p2.elim⟩⟩⟩
end
open PySem PySem.Spec PyProof.Rows L2 PySem.W
noncomputable def adr (K:Frag) (x:Str):Addr:=match nsIn K mainGlobals x with
 |some (some (.ref a))=>a
 |_=>0
noncomputable def iM (K:Frag) (x:Str):Bool:=match nsIn K mainGlobals x with
 |some (some (.ref _))=>true
 |_=>false
noncomputable def rq (K:Frag) (x:Str):Bool:=match nsIn K mainGlobals x with
 |some none=>true
 |_=>false
noncomputable def xcB (K:Frag) (C:Addr):Bool:=(clsIn K C).isSome&&(findIn K (.ref C) "__getattribute__" == some (some (.builtin "BaseException.__getattribute__"))&&(findIn K (.ref C) "__getattr__" == some none&&(findIn K (.ref C) "__class__" == some (some (.builtin "object.__class__"))&&(specialIn K (.builtin "object.__class__") "__get__" == some (some (.builtin "getset_descriptor.__get__"))&&(takesIn K (.builtin "object.__class__")==some true&&(mroIn K C (.type "object")==some true&&mroIn K C (.type "BaseException")==some true))))))
noncomputable def hdB (K:Frag) (C:Addr):Bool:=typeIn K (.ref C)==some (.type "type")&&((clsIn K C).isSome&&mroIn K C (.type "BaseException")==some true)
noncomputable def clA (K:Frag):Cl->Value
 |.b n=>.type n
 |.o x=>.ref (adr K x)
noncomputable def B9 (K:Frag):Cl->Bool
 |.b _=>true
 |.o x=>iM K x
noncomputable def BI (K:Frag) (p:Cl×Cl×Bool):Bool:=kitOne K (clA K p.1) (clA K p.2.1)==some p.2.2&&(B9 K p.1&&B9 K p.2.1)
noncomputable def xkB (K:Frag):Cl->Bool
 |.b _=>true
 |.o x=>xcB K (adr K x)
noncomputable def wL:Val->Value->Bool
 |.int i,.int j _=>i==j
 |.str x,.str y _=>x==y
 |.non,.none=>true
 |.bl b,.bool c=>b==c
 |_,_=>false
noncomputable def dV:Val->V
 |.int i=>.int i
 |.str x=>.str x
 |.bl b=>.bl b
 |_=>.non
noncomputable def qE:List Val->List Value->Bool
 | [],[]=>true
 |d::ds,v::vs=>wL d v&&qE ds vs
 |_,_=>false
noncomputable def gcB (K:Frag) (x:Str):Val->Bool
 |.tup ds=>(match nsIn K mainGlobals x with
  |some (some (.ref a))=>(match K.lookup a with
   |some ⟨.type "tuple",_,.seq its _,_⟩=>decide (its.size<=1000)&&qE ds its.toList
   |_=>false)
  |_=>false)
 |d=>match nsIn K mainGlobals x with
  |some (some v)=>wL d v
  |_=>false
noncomputable def bFn:List String:=["abs", "all", "any", "isinstance", "len", "max", "min", "sorted", "sum"]
noncomputable def bTy:List String:=["bool", "dict", "int", "list", "set", "str", "tuple", "ValueError"]
noncomputable def bIt:List String:=["range", "zip", "enumerate"]
def Ib:(bFn.all λn=>bootBuiltins (Str.ofString n)==some (.builtin n))=true:=by decide
def Js:(bTy.all λn=>bootBuiltins (Str.ofString n)==some (.type n))=true:=by decide
def boF{n:String}(h:bFn.contains n=true):bootBuiltins (Str.ofString n)=some (.builtin n):=NA.mp (NB.mp Ib n (NS.mp h))
def boT{n:String}(h:bTy.contains n=true):bootBuiltins (Str.ofString n)=some (.type n):=NA.mp (NB.mp Js n (NS.mp h))
structure Tb where
 us:List Str
 rs:List Str
 hs:List (Str×List Str)
 kt:jz
 gs:List (Str×Val)
noncomputable def Tb.ok (b:Tb) (K:Frag):Bool:=(bFn++(bTy++bIt)).all (λn=>rq K (Str.ofString n))&&(b.us.all (iM K)&&(b.rs.all (λx=>excIn K (adr K x) n6 "ValueError.__new__" && iM K x)&&(b.hs.all (λp=>hdB K (adr K p.1)&&p.2.all λc=>mroIn K (adr K c) (.ref (adr K p.1))==some true&&iM K c)&&(b.kt.all (λp=>BI K p&&xkB K p.1)&&b.gs.all λp=>gcB K p.1 p.2))))
structure Tx(b:Tb)(K:Frag)(mg:Qt):Prop where
 n:∀{n:String},(bFn++(bTy++bIt)).contains n=true->mg (Str.ofString n)=none
 m:∀{x:Str},b.us.contains x=true->mg x=some (.ref (adr K x))
 x:∀{x:Str},b.rs.contains x=true->excIn K (adr K x) n6 "ValueError.__new__"=true
 h:∀{x:Str}{l:List Str},(x,l)∈b.hs->XHand K (adr K x)/\∀c∈l,∀Ce,mg c=some (.ref Ce)->mroIn K Ce (.ref (adr K x))=some true
 k:KitsOk K mg b.kt
 g:∀{x:Str}{d:Val},b.gs.lookup x=some d->GC K mg x d
section
variable{K:Frag}{h:Heap}{mg:Qt}{x:Str}(X:K.In h)(G:h.Ns mainGlobals mg)
include X G
def kH(e:iM K x=true):mg x=some (.ref (adr K x)):=by
 unfold iM at e;split at e
 .rename_i a q;unfold adr;rw[q];exact mg_of X G q
 .cases e
def xO(e:rq K x=true):mg x=none:=by
 unfold rq at e;split at e
 .rename_i q;exact mg_none_of X G q
 .cases e
omit X G in
def Mu{C:Addr}(e:xcB K C=true):XCls K C:=by simp only[xcB,u_,NA] at e;obtain⟨e1,e2,e3,e4,e5,e6,e7,e8⟩:=e;exact⟨e1,e2,e3,e4,e5,e6,e7,e8⟩
def Eb{c:Cl}{v:Value}(e:B9 K c=true)(q:ClV mg c v):v=clA K c:=by
 cases c with
 |b n=>exact q
 |o y=>obtain⟨a,rfl,m⟩:=q;rw[kH X G (show iM K y=true from e)] at m;cases m;rfl
omit X G in
def Ae{d:Val}{v:Value}(e:wL d v=true):RelV (dV d) v/\∀P H,Rd K mg P H (dV d) d:=by
 unfold wL at e;split at e
 .cases NA.mp e;exact⟨⟨_,rfl⟩,λ_ _=>.int _⟩
 .cases NA.mp e;exact⟨⟨_,rfl⟩,λ_ _=>.str _⟩
 .exact⟨rfl,λ_ _=>.non⟩
 .cases NA.mp e;exact⟨rfl,λ_ _=>.bl _⟩
 .cases e
omit X G in
theorem uW:∀{ds:List Val}{vs:List Value},qE ds vs=true->Vals (ds.map dV) vs/\∀P H,Rds K mg P H (ds.map dV) ds
 | [],[],_=>⟨.nil,λ_ _=>.nil⟩
 |
  d::ds,v::vs,e=>by
  rw[qE,u_] at e;obtain⟨a1,a2⟩:=Ae (K:=K) (mg:=mg) e.1;obtain⟨b1,b2⟩:=uW e.2;exact⟨.cons a1 b1,λP H=>.cons (a2 P H) (b2 P H)⟩
 | [],_::_,e=>nomatch e
 |_::_,[],e=>nomatch e
def Lv{d:Val}(e:gcB K x d=true):GC K mg x d:=by
 unfold gcB at e;split at e
 .rename_i ds;split at e
  .rename_i a q;split at e
   .rename_i dd its n sl l;rw[u_] at e;obtain⟨v1,v2⟩:=uW (K:=K) (mg:=mg) e.2;exact⟨_,.ref a,mg_of X G q,rfl,λP H=>.tup (.inr ⟨_,its,n,l,rfl,rfl,Nu (N9 e.1) (by decide),v1⟩) (v2 P H)⟩
   .cases e
  .cases e
 .split at e
  .rename_i v q;obtain⟨v1,v2⟩:=Ae (K:=K) (mg:=mg) e;exact⟨_,_,mg_of X G q,v1,v2⟩
  .cases e
omit X G in
theorem Al{d:Val}:∀{l:List (Str×Val)},l.lookup x=some d->(x,d)∈l
 | [],h=>nomatch h
 |
  (y,e)::l,h=>by
  rw[Ov] at h;split at h
  .rename_i q;cases h;rw[NA.mp q];exact s_
  .exact q_ _ (Al h)
def L4{b:Tb}(e:b.ok K=true):Tx b K mg:=by
 unfold Tb.ok at e;simp only[u_] at e;obtain⟨e1,e2,e3,e4,e5,e6⟩:=e;simp only[NB,u_] at e1 e2 e3 e4 e5 e6;refine⟨λh=>xO X G (e1 _ (NS.mp h)),λh=>kH X G (e2 _ (NS.mp h)),λh=>(e3 _ (NS.mp h)).1,λh=>?_,⟨λp hp t v h1 h2=>?_,λp hp x C e' m=>?_⟩,λh=>Lv X G (e6 _ (Al h))⟩
 .obtain⟨a1,a2⟩:=e4 _ h;refine⟨?_,λc hc Ce m=>?_⟩
  .simp only[hdB,u_,NA] at a1;exact⟨a1.1,a1.2.1,a1.2.2⟩
  .obtain⟨b1,b2⟩:=a2 c hc;rw[kH X G b2] at m;cases m;exact NA.mp b1
 .obtain⟨a1,_⟩:=e5 p hp;simp only[BI,u_,NA] at a1;rw[Eb X G a1.2.1 h1,Eb X G a1.2.2 h2];exact a1.1
 .obtain⟨a1,a2⟩:=e5 p hp;simp only[BI,u_,NA] at a1;have a3:=a1.2.1;rw[e'] at a2 a3;rw[kH X G (show iM K x=true from a3)] at m;cases m;exact Mu a2
end
def dNm(s:Stmt):Str:=match s with
 |.FunctionDef n ..=>n
 |_=>""
def AllD(K:Frag)(mg:Qt)(top:Nat->Stmt):List Nat->Prop
 | []=>True
 |i::l=>Def K mg (dNm (top i)) (top i)/\AllD K mg top l
theorem AllD.get{K:Frag}{mg:Qt}{top:Nat->Stmt}:∀{l:List Nat},AllD K mg top l->∀i,l.contains i=true->Def K mg (dNm (top i)) (top i)
 | [],_,i,h=>nomatch h
 |
  j::l,⟨a,b⟩,i,h=>by
  rcases J_.mp (NS.mp h) with rfl |h
  .exact a
  .exact b.get i (NS.mpr h)
def _root_.L2.Def.gl{K:Frag}{mg:Qt}{x:Str}{st:Stmt}(D:Def K mg x st):∃a,mg x=some (.ref a):=let ⟨f,_,_,m⟩:=D.ex;⟨f,m⟩
structure Ty(b:Tb)(top:Nat->Stmt)(ds:List Nat)(K:Frag)(mg:Qt):Prop extends Tx b K mg where
 d:AllD K mg top ds
noncomputable def scB (N P:List Str) (sc:Scope):Bool:=decide (sc.kind=.function)&&(!sc.isCoroutine&&(!sc.isGenerator&&(decide N.Nodup&&(decide (N.take P.length=P)&&(P.all (λx=>decide (sc.names.lookup x=some .local\/sc.names.lookup x=some .cell))&&sc.names.all λy=>decide (y.2 ≠ .free))))))
def ao{N P:List Str}{sc:Scope}(e:scB N P sc=true):FnScope N P sc:=by simp only[scB,u_,O1,NB,Pd] at e;obtain⟨e1,e2,e3,e4,e5,e6,e7⟩:=e;exact⟨e1,e2,e3,e4,e5,e6,e7⟩
def Bq(K:Frag)(mg:Qt)(x:Str):Prop:=x∈l9/\(∀y∈l9,y≠x->mg y=none)/\∀f oc od fd sl,mg x=some (.ref f)->K.lookup f=some ⟨oc,od,.func fd,sl⟩->∃c P,fd.code=.ref c/\codeHdIn K c P=true
noncomputable def xr (K:Frag) (a:Addr):Option (Addr×Addr):=match K.lookup a with
 |some ⟨_,_,.func fd,_⟩=>(match fd.code with
  |.ref c=>(match K.lookup c with
   |some ⟨_,_,.fields vs,_⟩=>(match (vs[11]?:Option Value) with
    |some (.ref P)=>if codeHdIn K c P=true then some (c,P) else none
    |_=>none)
   |_=>none)
  |_=>none)
 |_=>none
noncomputable def lamB (K:Frag) (x:Str):Bool:=l9.contains x&&(l9.all (λy=>y==x || rq K y)&&(iM K x&&(xr K (adr K x)).isSome))
noncomputable def L5 (K:Frag) (ts:List Addr):Bool:=l9.all λx=>rq K x || (iM K x&&(match xr K (adr K x) with
 |some (_,P)=>ts.contains P
 |none=>false))
noncomputable def DJ (K:Frag) (ts:List Addr):Bool:=ts.all λP=>(K.lookup P).isNone&&K.any λp=>codeHdIn K p.1 P
def wx{K:Frag}{a c P:Addr}(e:xr K a=some (c,P)):∃oc od fd sl,K.lookup a=some ⟨oc,od,.func fd,sl⟩/\fd.code=.ref c/\codeHdIn K c P=true:=by
 unfold xr at e;split at e
 .rename_i oc od fd sl h1;split at e
  .rename_i c' h2;split at e
   .split at e
    .split at e
     .rename_i h3;cases e;exact⟨_,_,fd,_,h1,h2,h3⟩
     .cases e
    .cases e
   .cases e
  .cases e
 .cases e
def J3{K:Frag}{c P P':Addr}(h:codeHdIn K c P=true)(h':codeHdIn K c P'=true):P=P':=by
 unfold codeHdIn at h h';split at h
 .rename_i vs hk;rw[hk] at h';simp only[u_] at h h';have a:=h.1.1.1.1.1;have b:=h'.1.1.1.1.1;split at a
  .rename_i x hx;rw[hx] at b;rw[NA] at a b;exact a.symm.trans b
  .cases a
 .cases h
section
variable{K:Frag}{h:Heap}{mg:Qt}(X:K.In h)(G:h.Ns mainGlobals mg)
include X G
def Kj{x:Str}(e:lamB K x=true):Bq K mg x:=by
 simp only[lamB,u_,NB,O7] at e;obtain⟨e1,e2,e3,e4⟩:=e;refine⟨NS.mp e1,λy hy hne=>?_,λf oc od fd sl m lk=>?_⟩
 .rcases e2 y hy with z |z
  .exact absurd (NA.mp z) hne
  .exact xO X G z
 .obtain⟨⟨c,P⟩,ec⟩:=Oa.mp e4;obtain⟨oc',od',fd',sl',l1,l2,l3⟩:=wx ec;have m':=kH X G e3;rw[m] at m';cases m';rw[lk] at l1;cases l1;exact⟨c,P,l2,l3⟩
def Hk{ts:List Addr}(e:L5 K ts=true)(P:Addr)(q:Str)(l:LamT K mg P q):P∈ts:=by
 obtain⟨x,f,oc,od,fd,sl,c,a1,a2,a3,a4,a5,a6,_⟩:=l;have z:=NB.mp e x a1;rw[O7] at z;rcases z with z |z
 .have:=xO X G z
  rw[a3] at this;cases this
 .rw[u_] at z;obtain⟨z1,z2⟩:=z;have m':=kH X G z1;rw[a3] at m';cases m';split at z2
  .rename_i c' P' ec;obtain⟨oc',od',fd',sl',l1,l2,l3⟩:=wx ec;rw[a4] at l1;cases l1;rw[a5] at l2;cases l2;rw[J3 a6 l3];exact NS.mp z2
  .cases z2
end
def Fp{K:Frag}{ts:List Addr}{h:Heap}(e:DJ K ts=true)(a:∀P∈ts,h.get? P=some (tabObj #[])):TabsOk K ts h:=by
 simp only[DJ,NB,u_,List.any_eq_true] at e;refine⟨a,λP hP=>?_,λP hP=>?_⟩
 .have:=(e P hP).1
  rw[Option.isNone_iff_eq_none] at this;exact this
 .obtain⟨p,_,q⟩:=(e P hP).2;exact⟨p.1,q⟩
structure TyL(b:Tb)(top:Nat->Stmt)(ds:List Nat)(K:Frag)(mg:Qt):Prop extends Ty b top ds K mg where
 l:Bq K mg "by_falling_weights"
section
variable{K:W.Frag}{mg:Qt}{P:Program}{w:World}{base:Heap}{fx:Str}{m_:Stmt}{k m:Nat}{ps N:List Str}{ms:List Bool}{x:PSt}
def okPL(D:Def K mg fx m_)(L:Bq K mg fx)(S:FnScope N ps (aq m_))
 (hb:∀(kV doc pm:Value) (an:Option Addr) (cdv ct:Value) (us:List Value),us.length=ps.length->bindArgs (W.fnOf fx fx (cV m_) (bD m_) (aq m_) .none kV doc pm an cdv ct) ⟨us,[]⟩=pure (ps.zip us))
 (j_:N.Nodup->∀(f:Addr) (A:Around) (outer:List Env) (s:Shared) (H:Hp) (E:XK) (c T:Addr),codeHdIn K c T=true->LamT K mg T (fx ++ ".<locals>." ++ "<lambda>")->Room k (A.deeper (envOfC fx (aq m_) s.heap.objs.size f (.ref c)))->
  DSs K mg (eF (CX1 P w) P w K mg base N fx (aq m_) f (.ref c) A outer s H E) (λ_=>E) (bD m_) x) (hn:ms.length=ps.length:=by rfl) (hm:N.length=m:=by rfl):Callee P w K mg base fx (k+1) ps (sp3 K mg (fnP ms m x)):=by
 subst hm;obtain⟨f,fd,Ff,mm⟩:=D.ex;have bd:=Ff.binds hb;have kp:=Ff.kp;obtain⟨oc,od,kV,doc,pm,an,cdv,ct,osl,rfl,lk,n_⟩:=Ff.ex;obtain⟨c,T,e1,e2⟩:=L.2.2 f _ _ _ _ mm lk;have e1:cdv=.ref c:=e1;subst e1;have LT:LamT K mg T (fx ++ ".<locals>." ++ "<lambda>"):=⟨fx,f,oc,od,_,osl,c,L.1,L.2.1,mm,lk,rfl,e2,rfl⟩;exact⟨f,_,D7 lk n_ S (λvs H Q E sp=>by rw[<- hn];exact tW sp) λA outer s H vs Q E hr sp=>⟨_,(j_ S.nd f A outer s H E c T e2 LT hr).ok,rM sp⟩,mm,kp,bd,oc,od,osl,lk⟩
end
noncomputable def jt:List Val->Bv:=λvs=>match vs with
 | [.int j,.lst us]=>match gn us with
  |some ws=>if j=(ws.length:Nat)/\ws.length<64 then .new (.lst ((aN ws).map λi:Nat=>.int (i:Nat))) else .stuck
  |none=>.stuck
 |_=>.stuck
noncomputable def um:PBf:=⟨jt⟩
def zG(ws:List Int)(h:ws.length<64):um.G [.int (ws.length:Nat),.lst (ws.map .int)]=.new (.lst ((aN ws).map λi:Nat=>.int (i:Nat))):=by show jt [.int (ws.length:Nat),.lst (ws.map .int)]=_;unfold jt;dsimp only;rw[cm];dsimp only;rw[if_pos ⟨rfl,h⟩]
section
variable{K:W.Frag}{mg:Qt}{Y N0:Addr->Prop}{ns:Ns}{e:E3}{σ:St}{H H2:Hp}{P:Addr}{q:Str}{ps:Array Value}{pos:Pos}
def K3(S:Sat K mg Y N0 ns e σ H)(g:wN H H2 P q ps pos)(hT:LamT K mg P q)(hP:H P=some (.tbl ps)):Sat K mg Y N0 ns e σ H2/\Stp ns e H ns e H2:=by
 rcases g with rfl |⟨c',hc,am,rfl⟩
 .exact⟨S,.refl⟩
 .have nPc:P≠c':=bM hP hc;have at_:∀b,b≠P->b≠c'->upd (upd H P (.tbl (ps++#[rawInt pos.line,rawInt pos.col,.ref c']))) c' (.ext (gd c' q)) b=H b:=λb n1 n2=>by rw[aC n2,aC n1]
  have atP:upd (upd H P (.tbl (ps++#[rawInt pos.line,rawInt pos.col,.ref c']))) c' (.ext (gd c' q)) P=some (.tbl (ps++#[rawInt pos.line,rawInt pos.col,.ref c'])):=by rw[aC nPc,aY]
  have nc:∀b u,H b=some u->b≠c':=λb u e=>bM e hc;have kp:∀b u,H b=some u->n9 u->upd (upd H P (.tbl (ps++#[rawInt pos.line,rawInt pos.col,.ref c']))) c' (.ext (gd c' q)) b=some u:=λb u e n=>by rw[at_ b (λz=>by rw[z,hP] at e;cases e;exact n _ rfl) (nc b _ e)];exact e
  have l:LeH H (upd (upd H P (.tbl (ps++#[rawInt pos.line,rawInt pos.col,.ref c']))) c' (.ext (gd c' q))):=⟨λb xs e=>kp b _ e λ_ z=>(nomatch z),λb o u e=>kp b _ e λ_ z=>(nomatch z),λb φ e=>kp b _ e λ_ z=>(nomatch z)⟩;have dom:∀a,upd (upd H P (.tbl (ps++#[rawInt pos.line,rawInt pos.col,.ref c']))) c' (.ext (gd c' q)) a=none->H a=none:=λa z=>by
   by_cases z1:a=c'
   .subst z1;exact hc
   .by_cases z2:a=P
    .subst z2;rw[atP] at z;cases z
    .rw[at_ a z2 z1] at z;exact z
  have mv:Mov (Oc Y ns) (Oc Y ns) H (upd (upd H P (.tbl (ps++#[rawInt pos.line,rawInt pos.col,.ref c']))) c' (.ext (gd c' q))):=⟨l,λa o p e n=>⟨p,kp a o e n⟩⟩;refine⟨⟨S.l1,S.l2,λa z=>S.lh a (dom a z),λa z=>?_,S.inj,S.nx,λi s qi=>(S.sl i s qi).mono mv λj o _ e f=>kp j o e f.nt,λP' q' l'=>?_⟩,⟨l,dom,λm o e n _=>kp m o e n,λ_ _ q=>.inl q,λ_ _ q _=>⟨q,rfl⟩,λ_ _ q _=>⟨q,rfl⟩,λ_ _ q=>⟨_,q,rfl⟩,λ_ _ q=>⟨_,q,rfl⟩⟩⟩
  .obtain⟨o,z⟩:=S.xl a z;cases y:upd (upd H P (.tbl (ps++#[rawInt pos.line,rawInt pos.col,.ref c']))) c' (.ext (gd c' q)) a with
   |none=>rw[dom a y] at z;cases z
   |some u=>exact⟨u,rfl⟩
  .obtain⟨⟨ps',t2,t3,t4⟩,bm⟩:=S.bs P' q' l';refine⟨?_,Dr bm l⟩;have eq:=hT.one l';by_cases z:P'=P
   .subst z;rw[hP] at t2;cases t2;refine⟨_,atP,?_,λk_ cv e=>?_⟩
    .rw[Array.toList_append];exact TriplesOk_snoc _ _ _ _ t3
    .rw[Array.toList_append] at e;rcases xQ _ t3 e with z |rfl
     .obtain⟨c,e1,e2⟩:=t4 k_ cv z;exact⟨c,e1,l.ext _ _ e2⟩
     .exact⟨c',rfl,by rw[aY,eq]⟩
   .exact⟨ps',by rw[at_ P' z (nc P' _ t2)];exact t2,t3,λk_ cv e=>by obtain⟨c,e1,e2⟩:=t4 k_ cv e;exact⟨c,e1,l.ext _ _ e2⟩⟩
variable{X:Cx}{ES:St->XK}{a:Expr}{p:PEx}{iW:Nat}{c:Addr}{q1 q2 q6 q7 q8 q9 p0 p1 p2 p3 p4 p5 p6:Pos}
def Fc(hc:X.calm=true)(hdp:X.A.depth<recursionLimit)(hl:Gl X "sorted")(hml:mg "sorted"=none)(hg:Gl X "range")(hm:mg "range"=none)(hN:X.N[iW]?=some "weights")(hv:X.env.scope.names.lookup ("weights" : Str)=some .cell)(n_:X.env.code=.ref c)(hh:W.codeHdIn K c P=true)(hT:LamT K mg P (X.env.qual ++ "<lambda>"))(ha:DE K mg X ES a p)(hK:X.K=K:=by rfl)(hk:X.mg=mg:=by rfl)(hs:starEach [a] X.env=[(false,eval a X.env)]:=by rfl):
 DE K mg X ES (.Call (.Name "sorted" q1) [.Call (.Name "range" q2) [a] [] q6] [⟨some "key",.Lambda (fF p0) (d8 p1 p2 p3 p4 p5 p6) bg q7,q8⟩] q9) (pFn um (aa p (aa (af iW) ag))):=by
 subst hK hk;refine⟨PE.imp (ET hc hdp hl hml hg hm (bE ha zK hs).ok hN hv n_ hh hs) λσ H Q zz=>zz.el λY N0 L ns e S hL p3=>⟨Y,N0,ns,e,S,?_⟩⟩;replace p3:PG3 X.K X.mg Y N0 ns e σ H (ES σ) (KE X.K X.mg Y N0 L σ Q) ((m9 p.G (m9 (eJ iW) oH) e).bind λts e1=>match rss e1 ts with
  |some vs=>(jt vs).at e1
  |none=>.stuck):=p3
 show PG3 X.K X.mg Y N0 ns e σ H (ES σ) _ (m9 p.G oH e);unfold m9 at p3 ⊢;cases q0:p.G e with
 |stuck=>rw[q0] at p3;exact p3.elim
 |exc c e'=>rw[q0] at p3;exact p3
 |
  ok t e1=>
  rw[q0] at p3;intro H1 ns1 a1 S1 vs rts;replace p3:PG3 X.K X.mg Y N0 ns e σ H (ES σ) (KE X.K X.mg Y N0 L σ Q) (((eJ iW e1).bind λt2 e2=>.ok (t.drop::[t2.drop]) e2).bind λts e1=>match rss e1 ts with
   |some vs=>(jt vs).at e1
   |none=>.stuck):=by
   refine Eq.mp ?_ p3;congr 1;show (R3.bind (R3.bind (R3.bind (eJ iW e1) _) _) _)=_;cases eJ iW e1 <;> rfl
  have d_:∀t2,eJ iW e1=.ok t2 e1->(∀v,rs e1 t2.drop=some v->∃d,σ[iW]?=some (some d)/\ShR X.K X.mg (Oc Y ns1) H1 d v)->xR X.K X.mg P (X.env.qual ++ "<lambda>") q7 σ[iW]? vs H1 Q:=λt2 e2 hd=>by
   rw[e2] at p3;replace p3:PG3 X.K X.mg Y N0 ns e σ H (ES σ) (KE X.K X.mg Y N0 L σ Q) (match rss e1 [t.drop,t2.drop] with
    |some vs=>(jt vs).at e1
    |none=>.stuck):=p3
   unfold rss at p3;split at p3
   .rename_i vs' hvs;split at hvs
    .rename_i v1 vr hv1 hvr;cases hvs;unfold rss at hvr;split at hvr
     .rename_i v2 vr2 hv2 hvr2;cases hvr;cases hvr2;obtain⟨d,sd,rd⟩:=hd v2 hv2;have r1:=TsR.sh (ts:=[t.drop]) (vs:=[v1]) S1 rts (by unfold rss;rw[hv1];rfl);obtain⟨x,rfl,rx⟩:=dn r1;unfold jt at p3;split at p3
      .rename_i j us he;cases he;split at p3
       .rename_i ws hws;split at p3
        .rename_i hb;obtain rfl:=rx.int;obtain⟨b,ds,rfl,h,qq⟩:=rd.lst;obtain rfl:=tU qq hws;obtain⟨⟨ps,t2,t3,t4⟩,bm⟩:=S1.bs P _ hT;refine⟨b,ws,ps,by rw[hb.1],sd,SqL.of h,hb.2,t2,t3,t4,bm,λH2 l g hl2=>?_⟩;obtain⟨S2,a2⟩:=K3 S1 g hT t2;exact PG3.bv (b:=.new (.lst ((aN ws).map λi:Nat=>.int (i:Nat)))) (p3.after S (a1.trans S a2)) S2 (λa z=>hL a (a1.dom a (a2.dom a z))) H2 l _ .refl hl2 trivial (.lst (kC _))
        .exact p3.elim
       .exact p3.elim
      .exact p3.elim
     .cases hvr
    .cases hvs
   .exact p3.elim
  unfold eJ at p3;cases q1:e1[iW]? with
  |none=>rw[q1] at p3;exact p3.elim
  |
   some s=>
   have fb:∀u,s.val=some u->(∀v,s ≠ .sh v)->xR X.K X.mg P (X.env.qual ++ "<lambda>") q7 σ[iW]? vs H1 Q:=λu hu hn=>d_ (.bor iW) (by
    unfold eJ;rw[q1];cases s <;> first |rfl |cases hu;done |exact absurd rfl (hn _)) λv hv=>by
    have y:=S1.sl iW s q1;have:∃x,σ[iW]?=some (some x):=by
     cases s with
     |no=>cases hu
     |sh v=>exact absurd rfl (hn v)
     |ow v=>obtain⟨m,_,_,y,_⟩:=y;exact⟨_,y⟩
     |lo v=>obtain⟨m,_,_,y,_⟩:=y;exact⟨_,y⟩
     |mu v=>obtain⟨m,_,_,y,_⟩:=y;exact⟨_,y⟩
     |lm v=>obtain⟨m,_,_,y,_⟩:=y;exact⟨_,y⟩
    obtain⟨x,hx⟩:=this;exact⟨x,hx,S1.bor hx hv⟩
   cases s with
   |no=>rw[q1] at p3;exact p3.elim
   |sh v=>exact d_ (.val v) (by unfold eJ;rw[q1]) λu hu=>by cases hu;obtain⟨_,x,e1,r⟩:=S1.sl iW _ q1;exact⟨x,e1,.inl r⟩
   |ow v=>exact fb v rfl λ_ z=>nomatch z
   |lo v=>exact fb v rfl λ_ z=>nomatch z
   |mu v=>exact fb v rfl λ_ z=>nomatch z
   |lm v=>exact fb v rfl λ_ z=>nomatch z
end
def MV{P:Program}{w:World}{K:W.Frag}{mg:Qt}{base:Heap}{x y:Str}{k:Nat}{ts:List Addr}(p:PFn)(C:Callee P w K mg base x k [y] (sp3 K mg p))(hT:∀P q,LamT K mg P q->P∈ts)(hm:p.ms=[false])(hG:∀ns:List Int,ns.length<=63->p.G [.kl (ns.map .int)]=.ok (.val (.bl true)) []):
 Callee P w K mg base x k [y] (spT K mg ts):=C.imp λvs H Q E ⟨a,ns,e,hO,hq,hl,ht,hB,q⟩=>by
 subst e;refine⟨λ_=>False,[none],[.kl (ns.map .int)],by rw[hm];rfl,?_,?_⟩
 .rw[hm];have rd:Rd K mg (Oc (λ_=>False) [none]) H (.ref a) (.kl (ns.map .int)):=by
   rcases hq with (hq |⟨o,hq⟩) |hq
   .rcases hO a with z |⟨o,xs,z⟩ |z <;> rw[hq] at z <;> cases z
   .exact .cell ⟨λz=>z,by simp⟩ hq (.fz (oh ns))
   .exact .kl hq (oh ns)
  refine⟨rfl,rfl,λ_ z=>z,λ_ z=>z.elim,λi j n q=>?_,λi n q z=>z,λi s q=>?_,λP q l=>⟨⟨#[],ht P (hT P q l),trivial,λpos cv z=>by cases z⟩,hB⟩⟩
  .cases i with
   |zero=>simp at q
   |succ i=>simp at q
  .cases i with
   |
    zero=>
    have:sl1 false (.kl (ns.map .int))=s:=by simpa [sls] using q
    subst this;exact⟨rfl,_,rfl,rd⟩
   |succ i=>simp [sls] at q
 .rw[hG ns hl];intro x H' _ rr;rw[ShR.bl (.inl rr.2)];exact q H'
def gw(xs:List Val)(n:Nat):iO xs none (some (n:Int))=xs.take n:=by
 unfold iO;rw[HT.sIx_none,HT.sIx_nat,List.drop_zero,Nat.sub_zero];by_cases h:n<=xs.length
 .rw[Nat.min_eq_left h]
 .rw[Nat.min_eq_right (by omega),N8 (t_ _),N8 (by omega)]
def ir(xs:List Val)(n:Nat):iO xs (some (n:Int)) none=xs.drop n:=by
 unfold iO;rw[HT.sIx_none,HT.sIx_nat];by_cases h:n<=xs.length
 .rw[Nat.min_eq_left h,N8 (by rw[N4];exact t_ _)]
 .rw[Nat.min_eq_right (by omega),List.drop_of_length_le (t_ _),List.drop_of_length_le (by omega),PM]
def fJ(xs:List Val)(lo hi:Option Int):aSl (.lst xs) lo hi=.new (.lst (iO xs lo hi)):=rfl
@[irreducible] def gtX(a:PGt):PGt:=a
def g_x(a:PGt)(v:Val)(e:E3):(gtX a).G v e=a.G v e:=by unfold gtX;rfl
def ZG.weak{K:W.Frag}{mg:Qt}{X:Cx}{e:PySem.Expr}{g:PGt}(h:DG K mg X e g):DG K mg X e (gtX g):=by unfold gtX;exact h
end L3
namespace Wb
open L2
noncomputable def lc (qs:List Rat) (c:Nat):Nat:=qs.foldl (λc q=>Nat.lcm c q.den) c
noncomputable def wh (L:Nat) (qs:List Rat):List Int:=qs.map λq=>q.num*((L/q.den:Nat):Int)
noncomputable def ws (qs:List Rat):List Int:=wh (lc qs 1) qs
end Wb
namespace L3
open PySem L2
noncomputable def eE (b:Bx):Rat:=if b.w<b.h then b.h/b.w else b.w/b.h
noncomputable def shL (s l:Rat) (W:Int):Int->List Int->List (Rat×Rat)
 |_,[]=>[]
 |a,w::ws=>(s+l*((a:Rat)/(W:Rat)),l*((w:Rat)/(W:Rat)))::shL s l W (a+w) ws
theorem jm(s l:Rat)(W:Int):∀(ws:List Int) (a:Int),(shL s l W a ws).length=ws.length
 | [],_=>rfl
 |w::ws,a=>by unfold shL;rw[E_,E_,jm s l W ws (a+w)]
noncomputable def aP (b:Bx) (way:Str) (ws:List Int):List Bx:=if way="across" then (shL b.l b.w ws.sum 0 ws).map λp=>⟨p.1,b.t,p.2,b.h⟩ else (shL b.t b.h ws.sum 0 ws).map λp=>⟨b.l,p.1,b.w,p.2⟩
theorem dD:∀{l:List Int},(∀w∈l,1<=w)->(l.length:Int)<=l.sum
 | [],_=>by simp
 |
  x::l,h=>by
  rw[Np,E_]
  have:=h x (s_ ..)
  have:=dD (l:=l) λw hw=>h w (q_ _ hw)
  omega
theorem uZ:∀(ws:List Int) (a:Int),0<=a->(∀w∈ws,1<=w)->a+ws.sum<=W->p∈shL s l W a ws->∃a' w:Int,0<=a'/\a'<=W/\1<=w/\w<=W/\p=(s+l*((a':Rat)/(W:Rat)),l*((w:Rat)/(W:Rat)))
 | [],_,_,_,_,h=>nomatch h
 |
  w::ws,a,ha,hw,hs,h=>by
  have h1:=hw w (s_ ..);have h2:=dD (l:=ws) λx hx=>hw x (q_ _ hx);rw[Np] at hs;unfold shL at h;rcases J_.mp h with rfl |h
  .exact⟨a,w,ha,by omega,h1,by omega,rfl⟩
  .exact uZ ws (a+w) (by omega) (λx hx=>hw x (q_ _ hx)) (by omega) h
noncomputable def liV (l:List Int):Val:=.lst (l.map .int)
noncomputable def wsAt (ws:List Int) (i:Int):Int:=ws.getD i.toNat 0
noncomputable def wt (ws l:List Int):Int:=(l.map (wsAt ws)).sum
noncomputable def mx (x y:Rat):Rat:=if x<y then y else x
open PySem PySem.Spec PyProof.Rows L2
inductive AT where
 |lf (k:Nat)
 |nd (w:Bool) (ts:List AT)
noncomputable def wy (w:Bool):Str:=if w=true then "across" else "down"
def AT.ind{P:AT->Prop}(h1:∀k,P (.lf k))(h2:∀w ts,(∀t∈ts,P t)->P (.nd w ts))(t:AT):P t:=
 @AT.rec P (λts=>∀t∈ts,P t) h1 (λw ts ih=>h2 w ts ih) (λt h=>nomatch h) (λt ts i1 i2 u hu=>by
  rcases J_.mp hu with rfl |hu
  .exact i1
  .exact i2 u hu) t
mutual
def AT.val(f:Nat->Val):AT->Val
 |.lf k=>f k
 |.nd w ts=>.tup [.str (wy w),.tup (AT.vals f ts)]
def AT.vals(f:Nat->Val):List AT->List Val
 | []=>[]
 |t::ts=>AT.val f t::AT.vals f ts
end
mutual
def AT.lvs:AT->List Nat
 |.lf k=>[k]
 |.nd _ ts=>AT.lvsL ts
def AT.lvsL:List AT->List Nat
 | []=>[]
 |t::ts=>AT.lvs t++AT.lvsL ts
end
mutual
def AT.dep:AT->Nat
 |.lf _=>1
 |.nd _ ts=>AT.depL ts+1
def AT.depL:List AT->Nat
 | []=>0
 |t::ts=>max (AT.dep t) (AT.depL ts)
end
mutual
def AT.pth(x:Nat):AT->Option (List Nat)
 |.lf k=>if k=x then some [] else none
 |.nd _ ts=>AT.pthL x 0 ts
def AT.pthL(x:Nat):Nat->List AT->Option (List Nat)
 |_,[]=>none
 |i,t::ts=>match AT.pth x t with
  |some q=>some (i::q)
  |none=>AT.pthL x (i+1) ts
end
mutual
def AT.ok:AT->Bool
 |.lf _=>true
 |.nd _ ts=>decide (2<=ts.length)&&AT.okL ts
def AT.okL:List AT->Bool
 | []=>true
 |t::ts=>AT.ok t&&AT.okL ts
end
theorem AT.vals_map(f:Nat->Val):∀ts,AT.vals f ts=ts.map (AT.val f)
 | []=>rfl
 |t::ts=>by rw[AT.vals,AT.vals_map f ts];rfl
theorem AT.lvsL_mem:∀{ts:List AT},x∈AT.lvsL ts ↔ ∃t∈ts,x∈t.lvs
 | []=>by simp [AT.lvsL]
 |t::ts=>by rw[AT.lvsL,OB,AT.lvsL_mem (ts:=ts)];simp
theorem AT.lvsL_flat:∀ts:List AT,AT.lvsL ts=(ts.map AT.lvs).flatten
 | []=>rfl
 |t::ts=>by rw[AT.lvsL,AT.lvsL_flat ts];rfl
theorem AT.depL_le:∀{ts:List AT},AT.depL ts<=m ↔ ∀t∈ts,t.dep<=m
 | []=>by simp [AT.depL]
 |t::ts=>by rw[AT.depL,Nat.max_le,AT.depL_le (ts:=ts)];simp
theorem AT.okL_mem:∀{ts:List AT},AT.okL ts=true ↔ ∀t∈ts,t.ok=true
 | []=>by simp [AT.okL]
 |t::ts=>by rw[AT.okL,u_,AT.okL_mem (ts:=ts)];simp
theorem AT.pthL_some:∀{ts:List AT}{i:Nat}{q:List Nat},AT.pthL x i ts=some q->∃k t r,ts[k]?=some t/\t.pth x=some r/\q=(i+k)::r/\∀(k':Nat) (t':AT),k'<k->ts[k']?=some t'->t'.pth x=none
 | [],i,q,h=>by rw[AT.pthL] at h;cases h
 |
  t::ts,i,q,h=>by
  rw[AT.pthL] at h;split at h
  .rename_i r e;cases h;exact⟨0,t,r,rfl,e,rfl,λk' t' hk=>absurd hk (by omega)⟩
  .rename_i e;obtain⟨k,u,r,h1,h2,h3,h4⟩:=AT.pthL_some h;refine⟨k+1,u,r,h1,h2,by rw[h3];congr 1;omega,λk' t' hk e'=>?_⟩;cases k' with
   |zero=>cases e';exact e
   |succ k'=>exact h4 k' t' (by omega) e'
theorem AT.pthL_none:∀{ts:List AT}{i:Nat},AT.pthL x i ts=none ↔ ∀t∈ts,t.pth x=none
 | [],i=>by simp [AT.pthL]
 |
  t::ts,i=>by
  rw[AT.pthL];cases e:t.pth x with
  |some q=>simp [e]
  |none=>simp [e,AT.pthL_none (ts:=ts)]
def AT.pth_mem(t:AT):t.pth x=none ↔ x∉t.lvs:=by
 induction t using AT.ind with
 |h1 k=>simp [AT.pth,AT.lvs,eq_comm]
 |
  h2 w ts ih=>
  rw[AT.pth,AT.lvs,AT.pthL_none,AT.lvsL_mem];constructor
  .rintro h ⟨t,ht,hx⟩;exact (ih t ht).mp (h t ht) hx
  .intro h t ht;exact (ih t ht).mpr λhx=>h ⟨t,ht,hx⟩
noncomputable def AT.at:List Nat->AT->Option Nat
 | [],.lf k=>some k
 |i::p,.nd _ ts=>match ts[i]? with
  |some t=>AT.at p t
  |none=>none
 |_,_=>none
def AT.pth_at(t:AT):∀p,t.pth x=some p->AT.at p t=some x:=by
 induction t using AT.ind with
 |
  h1 k=>
  intro p h;rw[AT.pth] at h;split at h
  .cases h;rename_i e;rw[<- e];rfl
  .cases h
 |h2 w ts ih=>intro p h;rw[AT.pth] at h;obtain⟨k,u,r,h1,h2,h3,_⟩:=AT.pthL_some h;subst h3;rw[Ph,AT.at,h1];exact ih u (Oi h1) r h2
noncomputable def wd (w b:Bool):Str:=if w=true then (if b=true then "left" else "right") else (if b=true then "above" else "below")
noncomputable def AT.rel:List Nat->List Nat->AT->Option Str
 |i::p,j::q,.nd w ts=>if i=j then (match ts[i]? with
  |some t=>AT.rel p q t
  |none=>none) else some (wd w (decide (i<j)))
 |_,_,_=>none
theorem AT.rel_some(hxy:x≠y):∀(p q:List Nat) (t:AT),AT.at p t=some x->AT.at q t=some y->∃u,AT.rel p q t=some u
 |
  [],q,.lf k,h1,h2=>by
  cases q with
  |nil=>rw[AT.at] at h1 h2;rw[G_ h1] at h2;exact absurd (G_ h2) hxy
  |cons j q=>simp [AT.at] at h2
 | [],q,.nd w ts,h1,h2=>by simp [AT.at] at h1
 |i::p,q,.lf k,h1,h2=>by simp [AT.at] at h1
 |i::p,[],.nd w ts,h1,h2=>by simp [AT.at] at h2
 |
  i::p,j::q,.nd w ts,h1,h2=>by
  rw[AT.rel];split
  .rename_i e;subst e;rw[AT.at] at h1 h2;split at h1
   .rename_i t e;rw[e] at h2;exact AT.rel_some hxy p q t h1 h2
   .cases h1
  .exact⟨_,rfl⟩
def fA{t:AT}(h:t.ok=true):1<=t.lvs.length:=by
 induction t using AT.ind with
 |h1 k=>simp [AT.lvs]
 |
  h2 w ts ih=>
  rw[AT.ok,u_] at h;cases ts with
  |nil=>exact absurd h.1 (by decide)
  |
   cons t ts=>
   have:=ih t (s_ ..) (AT.okL_mem.mp h.2 t (s_ ..))
   rw[AT.lvs,AT.lvsL,H_];omega
theorem gi{α β:Type}{f:α->List β}:∀{l:List α},(∀a∈l,1<=(f a).length)->l.length<=((l.map f).flatten).length
 | [],_=>t_ _
 |
  a::l,h=>by
  have h1:=h a (s_ ..);have h2:=gi (l:=l) λb hb=>h b (q_ _ hb);rw[x_,List.flatten_cons,H_,E_];omega
noncomputable def lfV:Val->Bool
 |.int _=>true
 |.str _=>true
 |_=>false
theorem kD:∀{vs:List Val},(∀v∈vs,wfV k v=true)->bZ k vs=true
 | [],_=>rfl
 |
  v::vs,h=>by
  show (wfV k v&&bZ k vs)=true;rw[h v (s_ ..),kD λu hu=>h u (q_ _ hu)];rfl
def nD(v:Val)(l:List Val):atI (v::l) 0=some v:=dq (by decide) rfl
noncomputable def itV (l:List Nat):Val:=.lst (l.map λk:Nat=>.int k)
structure TOk(t:AT)(l:List Nat):Prop where
 ok:t.ok=true
 mem:∀k,k∈t.lvs ↔ k∈l
 dep:t.dep<=l.length
 len:t.lvs.length=l.length
noncomputable def atV (t:AT):Val:=t.val λk=>.int (k:Nat)
mutual
def AT.cnt:AT->Nat
 |.lf _=>1
 |.nd _ ts=>AT.cntL ts+1
def AT.cntL:List AT->Nat
 | []=>0
 |t::ts=>AT.cnt t+AT.cntL ts
end
theorem AT.cntL_app:∀(a b:List AT),AT.cntL (a++b)=AT.cntL a+AT.cntL b
 | [],b=>by simp [AT.cntL]
 |t::a,b=>by rw[N_,AT.cntL,AT.cntL,AT.cntL_app a b];omega
theorem AT.lvsL_app:∀(a b:List AT),AT.lvsL (a++b)=AT.lvsL a++AT.lvsL b
 | [],b=>by simp [AT.lvsL]
 |t::a,b=>by rw[N_,AT.lvsL,AT.lvsL,AT.lvsL_app a b,O0]
def nF(xs:List Val)(x:Val):qP.G (.lst (xs++[x])) []=some (.lst xs,x):=by show tw (.lst (xs++[x])) []=_;unfold tw;dsimp only;rw[H_,P4,Nat.add_sub_cancel,OZ (t_ _),Nat.sub_self,List.dropLast_concat];rfl
theorem AT.cnt_le:∀{ts:List AT}{t:AT},t∈ts->t.cnt<=AT.cntL ts
 | [],t,h=>nomatch h
 |
  u::ts,t,h=>by
  rw[AT.cntL];rcases J_.mp h with rfl |h
  .omega
  .have:=AT.cnt_le h;omega
def AT.lvs_le(h:t∈ts):t.lvs.length<=(AT.lvsL ts).length:=by rw[AT.lvsL_flat];exact List.Sublist.length_le (List.sublist_flatten_of_mem (List.mem_map_of_mem (f:=AT.lvs) h))
noncomputable def wtA (ws:List Int) (l:List Nat):Int:=(l.map λk=>ws.getD k 0).sum
noncomputable def wtT (ws:List Int) (t:AT):Int:=wtA ws t.lvs
mutual
def AT.bx(ws:List Int):AT->Bx->List (Nat×Bx)
 |.lf k,b=>[(k,b)]
 |.nd w ts,b=>AT.bxL ws ts (aP b (wy w) (ts.map (wtT ws)))
def AT.bxL(ws:List Int):List AT->List Bx->List (Nat×Bx)
 |t::ts,b::bs=>AT.bx ws t b++AT.bxL ws ts bs
 |_,_=>[]
end
mutual
def AT.lay(ws:List Int)(n m:Nat):AT->Bx->Prop
 |.lf _,b=>b.Ok/\b.Sz n
 |.nd w ts,b=>b.Ok/\b.Sz n/\ts≠[]/\ts.length<=40/\(∀t∈ts,1<=wtT ws t)/\Sm m (ts.map (wtT ws)).sum/\AT.layL ws n m ts (aP b (wy w) (ts.map (wtT ws)))
def AT.layL(ws:List Int)(n m:Nat):List AT->List Bx->Prop
 |t::ts,b::bs=>AT.lay ws n m t b/\AT.layL ws n m ts bs
 |_,_=>True
end
noncomputable def cP (kvs:List (Key×Val)) (l:List (Nat×Bx)):List (Key×Val):=l.foldl (λkvs p=>eY kvs (.inl (p.1:Nat)) (bV p.2)) kvs
def Bk(kvs:List (Key×Val))(a b:List (Nat×Bx)):cP kvs (a++b)=cP (cP kvs a) b:=by unfold cP;rw[List.foldl_append]
def tf(h:a.Perm b):wtA ws a=wtA ws b:=by
 unfold wtA;induction h with
 |nil=>rfl
 |cons x _ ih=>rw[x_,x_,Np,Np,ih]
 |swap x y l=>simp only[x_,Np];omega
 |trans _ _ h1 h2=>rw[h1,h2]
theorem fK(ws:List Int):∀ts:List AT,wtA ws (AT.lvsL ts)=(ts.map (wtT ws)).sum
 | []=>rfl
 |
  t::ts=>by
  rw[AT.lvsL,x_,Np,<- fK ws ts];unfold wtT wtA;rw[NQ,Pw]
def A6(kvs:List (Key×Val))(k:Key)(v:Val):(eY kvs k v).length<=kvs.length+1:=by
 unfold eY;split
 .rw[p_];omega
 .rw[H_];exact t_ _
theorem tj:∀(l:List (Nat×Bx)) (kvs:List (Key×Val)),(cP kvs l).length<=kvs.length+l.length
 | [],kvs=>t_ _
 |
  p::l,kvs=>by
  have h1:=A6 kvs (.inl (p.1:Nat)) (bV p.2);have h2:=tj l (eY kvs (.inl (p.1:Nat)) (bV p.2));unfold cP at h2 ⊢;rw[List.foldl_cons,E_];omega
def AT.bx_fst(ws:List Int)(t:AT):∀b,(AT.bx ws t b).length<=t.lvs.length/\∀p∈AT.bx ws t b,p.1∈t.lvs:=by
 induction t using AT.ind with
 |h1 k=>intro b;simp [AT.bx,AT.lvs]
 |
  h2 w ts ih=>
  intro b;rw[AT.bx,AT.lvs];generalize aP b (wy w) (ts.map (wtT ws))=bs;induction ts generalizing bs with
  |nil=>simp [AT.bxL]
  |
   cons t ts ih2=>
   cases bs with
   |nil=>simp [AT.bxL]
   |
    cons b bs=>
    obtain⟨h1,h2⟩:=ih t (s_ ..) b;obtain⟨h3,h4⟩:=ih2 (λu hu=>ih u (q_ _ hu)) bs;rw[AT.bxL,AT.lvsL,H_,H_];refine⟨by omega,λp hp=>?_⟩;rcases OB.mp hp with hp |hp
    .exact Qb _ (h2 p hp)
    .exact Nw _ (h4 p hp)
def zo(kvs:List (Key×Val))(k k':Key)(v:Val):lkD (eY kvs k v) k'=if k=k' then some v else lkD kvs k':=by
 unfold eY;induction kvs with
 |
  nil=>
  rw[if_neg (by simp)];unfold lkD;by_cases h:k=k'
  .simp [h]
  .simp [h]
 |
  cons p kvs ih=>
  obtain⟨pk,pv⟩:=p;by_cases hp:pk=k
  .subst
    hp
   rw[if_pos (by simp)];by_cases h:pk=k'
   .subst h;simp [lkD]
   .rw[if_neg h];rw[if_neg h] at ih;simp only[x_,OW];unfold lkD;simp only[NP,C_ h];by_cases ha:(kvs.any λkv=>decide (kv.1=pk))=true
    .rw[if_pos ha] at ih;unfold lkD at ih;exact ih
    .have:(kvs.map λkv=>if kv.1=pk then (kv.1,v) else kv)=kvs:=by
      conv=>rhs;rw[<- List.map_id kvs]
      refine List.map_congr_left λq hq=>?_;rw[if_neg]
      .rfl
      .intro z;exact ha (List.any_eq_true.mpr ⟨q,hq,I_ z⟩)
     rw[this]
  .by_cases ha:(kvs.any λkv=>decide (kv.1=k))=true
   .rw[if_pos ha] at ih;rw[if_pos (by rw[Oe,ha,Bool.or_true])];simp only[x_,if_neg hp];by_cases h:pk=k'
    .subst h;rw[if_neg (λz=>hp z.symm)];simp [lkD]
    .unfold lkD at ih ⊢;simp only[NP,C_ h];exact ih
   .rw[if_neg ha] at ih;rw[if_neg (by rw[Oe,C_ hp,Bool.false_or];exact ha)];rw[N_];by_cases h:pk=k'
    .subst h;rw[if_neg (λz=>hp z.symm)];simp [lkD]
    .unfold lkD at ih ⊢;simp only[NP,C_ h];exact ih
noncomputable def bxO (l:List (Nat×Bx)) (k:Nat):Bx:=((l.find? λp=>p.1==k).map (·.2)).getD ⟨0,0,0,0⟩
theorem vB:∀(l:List (Nat×Bx)) (kvs:List (Key×Val)),(l.map (·.1)).Nodup->(k∈l.map (·.1)->lkD (cP kvs l) (.inl (k:Nat))=some (bV (bxO l k)))/\(k∉l.map (·.1)->lkD (cP kvs l) (.inl (k:Nat))=lkD kvs (.inl (k:Nat)))
 | [],kvs,_=>⟨(λh=>nomatch h),λ_=>rfl⟩
 |
  p::l,kvs,nd=>by
  rw[x_,O8] at nd;obtain⟨h1,h2⟩:=vB (k:=k) l (eY kvs (.inl (p.1:Nat)) (bV p.2)) nd.2;have e:cP kvs (p::l)=cP (eY kvs (.inl (p.1:Nat)) (bV p.2)) l:=rfl;rw[e];by_cases hp:p.1=k
  .have hk:k∉l.map (·.1):=hp ▸ nd.1;rw[h2 hk,zo,if_pos (by rw[hp])];refine⟨λ_=>?_,λz=>absurd (by rw[x_,hp];exact s_ ..) z⟩;unfold bxO;rw[NP];simp [hp]
  .have hk:k∈(p::l).map (·.1) ↔ k∈l.map (·.1):=by rw[x_,J_];exact⟨λz=>z.resolve_left (λy=>hp y.symm),.inr⟩
   have hb:bxO (p::l) k=bxO l k:=by unfold bxO;rw[List.find?_cons_of_neg (by simpa using hp)]
   rw[hk,hb];refine⟨h1,λz=>?_⟩;rw[h2 z,zo,if_neg];intro y;injection y with y;exact hp (Int.ofNat.inj y)
def zP(b:Bx)(way:Str)(ws:List Int):(aP b way ws).length=ws.length:=by unfold aP;split <;> rw[p_,jm]
def AT.bx_keys(ws:List Int)(t:AT):∀b,(AT.bx ws t b).map (·.1)=t.lvs:=by
 induction t using AT.ind with
 |h1 k=>intro b;rw[AT.bx,AT.lvs];rfl
 |
  h2 w ts ih=>
  intro b;rw[AT.bx,AT.lvs];have hl:(aP b (wy w) (ts.map (wtT ws))).length=ts.length:=by rw[zP,p_]
  generalize aP b (wy w) (ts.map (wtT ws))=bs at *;induction ts generalizing bs with
  |nil=>cases bs <;> rfl
  |
   cons t ts ih2=>
   cases bs with
   |nil=>exact nomatch hl
   |cons b bs=>rw[AT.bxL,AT.lvsL,NQ,ih t (s_ ..) b,ih2 (λu hu=>ih u (q_ _ hu)) bs (by simpa using hl)]
def AT.cnt_lvs(t:AT)(h:t.ok=true):t.cnt+1<=2*t.lvs.length:=by
 induction t using AT.ind with
 |h1 k=>simp [AT.cnt,AT.lvs]
 |
  h2 w ts ih=>
  rw[AT.ok,u_] at h;have hk:=AT.okL_mem.mp h.2;have h2:2<=ts.length:=N9 h.1;rw[AT.cnt,AT.lvs];have:∀ts:List AT,(∀t∈ts,t.cnt+1<=2*t.lvs.length)->AT.cntL ts+ts.length<=2*(AT.lvsL ts).length:=by
   intro ts;induction ts with
   |nil=>intro _;simp [AT.cntL,AT.lvsL]
   |cons t ts ih=>intro h;have h1:=h t (s_ ..);have h2:=ih λu hu=>h u (q_ _ hu);rw[AT.cntL,AT.lvsL,H_,E_];omega
  have:=this ts λt ht=>ih t ht (hk t ht)
  omega
structure Rp(D A B:Nat)(b:Bx):Prop where
 pos:0<D
 l:∃z:Int,b.l=(z:Rat)/((D:Int):Rat)/\z.natAbs<=A*D
 t:∃z:Int,b.t=(z:Rat)/((D:Int):Rat)/\z.natAbs<=A*D
 w:∃z:Int,b.w=(z:Rat)/((D:Int):Rat)/\0<z/\z<=B*D
 h:∃z:Int,b.h=(z:Rat)/((D:Int):Rat)/\0<z/\z<=B*D
def Mw(x y a D W:Rat)(h1:D≠0)(h2:W≠0):x/D+(y/D)*(a/W)=(x*W+y*a)/(D*W):=by grind
def LG(y a D W:Rat)(h1:D≠0)(h2:W≠0):(y/D)*(a/W)=(y*a)/(D*W):=by grind
def MW(y D W:Rat)(h1:D≠0)(h2:W≠0):y/D=(y*W)/(D*W):=by grind
def gp{z:Int}(h:z≠0):(z:Rat)≠0:=λe=>h (Rat.intCast_inj.mp e)
def Ds{x y a W:Int}{D A B:Nat}(hD:0<D)(hx:x.natAbs<=A*D)(hy:0<y/\y<=B*D)(ha:0<=a/\a<=W)(hW:0<W):∃z:Int,(x:Rat)/((D:Int):Rat)+((y:Rat)/((D:Int):Rat))*((a:Rat)/(W:Rat))=(z:Rat)/(((D*W.toNat:Nat):Int):Rat)/\z.natAbs<=(A+B)*(D*W.toNat):=by
 obtain⟨V,rfl⟩:∃V:Nat,W=V:=⟨W.toNat,by omega⟩;refine⟨x*V+y*a,?_,?_⟩
 .rw[Mw _ _ _ _ _ (gp (by omega)) (gp (by omega))];congr 1
  .rw[O9,NZ,NZ]
  .rw[NJ,OS,NZ]
 .rw[NJ];have h1:(x*(V:Int)).natAbs<=A*D*V:=by rw[N7];exact NO hx (t_ _)
  have h2:(y*a).natAbs<=B*D*V:=by
   rw[N7];refine NO ?_ (by omega)
   have:=hy.2
   omega
  have h3:=Int.natAbs_add_le (x*V) (y*a);rw[Nat.add_mul,<- PN,<- PN];omega
def Ed{y a W:Int}{D B:Nat}(hD:0<D)(hy:0<y/\y<=B*D)(ha:1<=a/\a<=W):∃z:Int,((y:Rat)/((D:Int):Rat))*((a:Rat)/(W:Rat))=(z:Rat)/(((D*W.toNat:Nat):Int):Rat)/\0<z/\z<=((B:Nat):Int)*((D*W.toNat:Nat):Int):=by
 obtain⟨V,rfl⟩:∃V:Nat,W=V:=⟨W.toNat,by omega⟩;refine⟨y*a,?_,Int.mul_pos hy.1 (by omega),?_⟩
 .rw[LG _ _ _ _ (gp (by omega)) (gp (by omega))];congr 1
  .rw[NZ]
  .rw[NJ,OS,NZ]
 .rw[NJ,OS,<- Od];exact Int.mul_le_mul hy.2 ha.2 (by omega) (Int.le_trans (Int.le_of_lt hy.1) hy.2)
def mU{y W:Int}{D:Nat}(hD:0<D)(hW:0<W):(y:Rat)/((D:Int):Rat)=((y*W:Int):Rat)/(((D*W.toNat:Nat):Int):Rat):=by obtain⟨V,rfl⟩:∃V:Nat,W=V:=⟨W.toNat,by omega⟩;rw[MW _ _ _ (gp (show ((D:Nat):Int)≠0 by omega)) (gp (show ((V:Nat):Int)≠0 by omega)),NZ,NJ,OS,NZ]
def zf{z W:Int}{D A B:Nat}(hz:z.natAbs<=A*D)(hW:0<W):(z*W).natAbs<=(A+B)*(D*W.toNat):=by rw[N7,<- PN];refine NO ?_ (by omega);rw[Nat.add_mul];omega
def zu{z W:Int}{D B:Nat}(hz:0<z/\z<=B*D)(hW:0<W):0<z*W/\z*W<=((B:Nat):Int)*((D*W.toNat:Nat):Int):=by refine⟨Int.mul_pos hz.1 hW,?_⟩;rw[OS,<- Od,Int.toNat_of_nonneg (by omega)];exact Int.mul_le_mul_of_nonneg_right hz.2 (by omega)
def Rp.parts{D A B:Nat}{b b':Bx}{way:Str}{ws:List Int}(r:Rp D A B b)(hw:∀w∈ws,1<=w)(h:b'∈aP b way ws):Rp (D*ws.sum.toNat) (A+B) B b':=by
 obtain⟨pos,⟨zl,el,bl⟩,⟨zt,et,bt⟩,⟨zw,ew,bw⟩,⟨zh,eh,bh⟩⟩:=r;have key:∀p:Rat×Rat,∀s l:Rat,p∈shL s l ws.sum 0 ws->0<ws.sum/\∃a' w:Int,0<=a'/\a'<=ws.sum/\1<=w/\w<=ws.sum/\p=(s+l*((a':Rat)/(ws.sum:Rat)),l*((w:Rat)/(ws.sum:Rat))):=λp s l hp=>by obtain⟨a',w,h1,h2,h3,h4,h5⟩:=uZ ws 0 (by omega) hw (by omega) hp;exact⟨by omega,a',w,h1,h2,h3,h4,h5⟩
 unfold aP at h;split at h
 .obtain⟨p,hp,rfl⟩:=Nv.mp h;obtain⟨hS,a',w,h1,h2,h3,h4,rfl⟩:=key p _ _ hp;have hV:0<D*ws.sum.toNat:=OA pos (by omega);refine⟨hV,?_,⟨zt*ws.sum,by show b.t=_;rw[et];exact mU pos hS,zf bt hS⟩,?_,⟨zh*ws.sum,by show b.h=_;rw[eh];exact mU pos hS,zu bh hS⟩⟩
  .show ∃z:Int,b.l+b.w*_=_/\_;rw[el,ew];exact Ds pos bl bw ⟨h1,h2⟩ hS
  .show ∃z:Int,b.w*_=_/\_;rw[ew];exact Ed pos bw ⟨h3,h4⟩
 .obtain⟨p,hp,rfl⟩:=Nv.mp h;obtain⟨hS,a',w,h1,h2,h3,h4,rfl⟩:=key p _ _ hp;have hV:0<D*ws.sum.toNat:=OA pos (by omega);refine⟨hV,⟨zl*ws.sum,by show b.l=_;rw[el];exact mU pos hS,zf bl hS⟩,?_,⟨zw*ws.sum,by show b.w=_;rw[ew];exact mU pos hS,zu bw hS⟩,?_⟩
  .show ∃z:Int,b.t+b.h*_=_/\_;rw[et,eh];exact Ds pos bt bh ⟨h1,h2⟩ hS
  .show ∃z:Int,b.h*_=_/\_;rw[eh];exact Ed pos bh ⟨h3,h4⟩
def Rp.ok{D A B:Nat}{b:Bx}(r:Rp D A B b):b.Ok:=by obtain⟨pos,_,_,⟨zw,ew,bw⟩,⟨zh,eh,bh⟩⟩:=r;exact⟨by rw[ew];exact fW bw.1 (by omega),by rw[eh];exact fW bh.1 (by omega)⟩
def Rp.sz{D A B n:Nat}{b:Bx}(r:Rp D A B b)(hA:A*D<2^n)(hB:B*D<2^n)(hD:D<2^n):b.Sz n:=by
 obtain⟨pos,⟨zl,el,bl⟩,⟨zt,et,bt⟩,⟨zw,ew,bw⟩,⟨zh,eh,bh⟩⟩:=r;have sD:Sm n ((D:Nat):Int):=by show ((D:Nat):Int).natAbs<2^n;omega
 have k:∀z:Int,z.natAbs<2^n->Sz n ((z:Rat)/((D:Int):Rat)):=λz hz=>Sz.div (by omega) hz sD n (t_ _) (t_ _);have hb:∀z:Int,0<z/\z<=B*D->z.natAbs<2^n:=λz hz=>by
  have h1:z<=((B*D:Nat):Int):=by rw[OS];exact hz.2
  omega
 exact⟨by rw[el];exact k zl (by omega),by rw[et];exact k zt (by omega),by rw[ew];exact k zw (hb zw bw),by rw[eh];exact k zh (hb zh bh)⟩
theorem gR{ws:List Int}:∀{l:List Nat},(∀k∈l,1<=ws.getD k 0)->(l.length:Int)<=wtA ws l
 | [],_=>by simp [wtA]
 |
  k::l,h=>by
  have h1:=h k (s_ ..);have h2:=gR (l:=l) λj hj=>h j (q_ _ hj);unfold wtA at h2 ⊢;rw[x_,Np,E_];omega
theorem wo{ws:List Int}{n m:Nat}:∀{ts:List AT}{bs:List Bx},(∀t∈ts,∀b∈bs,AT.lay ws n m t b)->AT.layL ws n m ts bs
 | [],_,_=>by rw[AT.layL];trivial;intro t ts b bs z;cases z
 |t::ts,[],_=>by rw[AT.layL];trivial;intro t ts b bs _ z;cases z
 |
  t::ts,b::bs,h=>by
  rw[AT.layL];exact⟨h t (s_ ..) b (s_ ..),wo λu hu c hc=>h u (q_ _ hu) c (q_ _ hc)⟩
def Rp.fine{n m B D A d:Nat}{b:Bx}(r:Rp D A B b)(hBA:B<=A)(hA:1<=A)(hq:(A+d*B)*(D*2^(m*d))<2^n):b.Ok/\b.Sz n:=by have hD1:1<=2^(m*d):=Nat.one_le_two_pow;have z1:A*D<=(A+d*B)*(D*2^(m*d)):=NO (by omega) (Nat.le_mul_of_pos_right _ hD1);have z2:D<=A*D:=Nat.le_mul_of_pos_left _ hA;have z3:B*D<=A*D:=OC _ hBA;exact⟨r.ok,r.sz (by omega) (by omega) (by omega)⟩
def Im{ws:List Int}{n m B:Nat}(t:AT):∀(b:Bx) (D A:Nat),Rp D A B b->B<=A->1<=A->(A+t.dep*B)*(D*2^(m*t.dep))<2^n->t.ok=true->(∀k∈t.lvs,1<=ws.getD k 0)->wtT ws t<2^m->t.lvs.length<=40->AT.lay ws n m t b:=by
 induction t using AT.ind with
 |h1 k=>intro b D A r hBA hA hn _ _ _ _;rw[AT.lay];exact r.fine hBA hA hn
 |
  h2 w ts ih=>
  intro b D A r hBA hA hn ho hw hm hl;have ho':=ho;rw[AT.ok,u_] at ho';have h2:2<=ts.length:=N9 ho'.1;have hk:=AT.okL_mem.mp ho'.2;rw[AT.lvs] at hw hl;have hws:∀t∈ts,∀k∈t.lvs,1<=ws.getD k 0:=λt ht k hk'=>hw k (AT.lvsL_mem.mpr ⟨t,ht,hk'⟩);have hone:∀t∈ts,1<=wtT ws t:=λt ht=>by have h1:=fA (hk t ht);have h2:=gR (hws t ht);unfold wtT;omega
  have hsum:wtT ws (.nd w ts)=(ts.map (wtT ws)).sum:=by unfold wtT;rw[AT.lvs];exact fK ws ts
  rw[hsum] at hm;have hpos:0<=(ts.map (wtT ws)).sum:=by
   rw[<- fK]
   have:=gR hw
   omega
  rw[AT.dep] at hn;generalize hq:AT.depL ts=q at *;have fn:=r.fine hBA hA hn;have tl:ts.length<=40:=by rw[AT.lvsL_flat] at hl;have:ts.length<=((ts.map AT.lvs).flatten).length:=gi λt ht=>fA (hk t ht);omega
  rw[AT.lay];refine⟨fn.1,fn.2,λz=>by rw[z] at h2;simp at h2,tl,hone,by
   show (ts.map (wtT ws)).sum.natAbs<2^m;have:(((ts.map (wtT ws)).sum.natAbs:Nat):Int)<((2^m:Nat):Int):=by
    rw[Int.natAbs_of_nonneg hpos]
    push_cast
    exact hm
   omega,wo λt ht c hc=>?_⟩
  have rp:=r.parts (λx hx=>by obtain⟨u,hu,rfl⟩:=Nv.mp hx;exact hone u hu) hc;have hdt:t.dep<=q:=by rw[<- hq];exact AT.depL_le.mp (t_ _) t ht
  have hS:(ts.map (wtT ws)).sum.toNat<=2^m:=by
   have:(((ts.map (wtT ws)).sum.toNat:Nat):Int)<((2^m:Nat):Int):=by
    rw[Int.toNat_of_nonneg hpos]
    push_cast
    exact hm
   omega
  refine ih t ht c _ (A+B) rp (by omega) (by omega) ?_ (hk t ht) (hws t ht) ?_ (by have:=AT.lvs_le ht;omega)
  .refine Ox (NO ?_ ?_) hn
   .have:t.dep*B<=q*B:=OC _ hdt;rw[Nat.add_mul,Nat.one_mul];omega
   .rw[PN];refine Oq _ ?_;have e:2^(m*(q+1))=2^m*2^(m*q):=by rw[<- ON];congr 1;rw[Nat.mul_add,Nat.mul_one,Nat.add_comm]
    rw[e];exact NO hS (N5 (by decide) (Oq _ hdt))
  .refine Int.lt_of_le_of_lt ?_ hm;have aux:∀us:List AT,(∀u∈us,0<=wtT ws u)->t∈us->wtT ws t<=(us.map (wtT ws)).sum:=by
    intro us;induction us with
    |nil=>intro _ h;exact nomatch h
    |
     cons u us ih=>
     intro h0 hm;have nn:∀us:List AT,(∀u∈us,0<=wtT ws u)->0<=(us.map (wtT ws)).sum:=by
      intro us;induction us with
      |nil=>intro _;simp
      |cons v us ih=>intro h;rw[x_,Np];have:=h v (s_ ..);have:=ih λu hu=>h u (q_ _ hu);omega
     rw[x_,Np];rcases J_.mp hm with rfl |hm
     .have:=nn us λu hu=>h0 u (q_ _ hu)
      omega
     .have h1:=ih (λu hu=>h0 u (q_ _ hu)) hm;have h2:=h0 u (s_ ..);omega
   exact aux ts (λu hu=>by have:=hone u hu;omega) ht
def Au{ws:List Int}{n m:Nat}(t:AT):∀b:Bx,AT.lay ws n m t b->∀p∈AT.bx ws t b,p.2.Ok/\p.2.Sz n:=by
 induction t using AT.ind with
 |h1 k=>intro b h p hp;rw[AT.bx] at hp;rw[NU.mp hp];rw[AT.lay] at h;exact h
 |
  h2 w ts ih=>
  intro b h p hp;rw[AT.bx] at hp;rw[AT.lay] at h;replace h:=h.2.2.2.2.2.2;generalize aP b (wy w) (ts.map (wtT ws))=bs at *;induction ts generalizing bs with
  |nil=>rw[AT.bxL] at hp;exact nomatch hp;intro _ _ _ _ z;cases z
  |
   cons t ts ih2=>
   cases bs with
   |nil=>rw[AT.bxL] at hp;exact nomatch hp;intro _ _ _ _ _ z;cases z
   |
    cons c cs=>
    rw[AT.bxL] at hp;rw[AT.layL] at h;rcases OB.mp hp with hp |hp
    .exact ih t (s_ ..) c h.1 p hp
    .exact ih2 (λu hu=>ih u (q_ _ hu)) cs hp h.2
noncomputable def gE (w:Bool):AT->List AT
 |.nd v us=>if v=w then us else [.nd v us]
 |t=>[t]
def fS(w v:Bool)(us:List AT):gE w (.nd v us)=if v=w then us else [.nd v us]:=rfl
def EO(w:Bool)(k:Nat):gE w (.lf k)=[.lf k]:=rfl
mutual
def AT.pln:AT->AT
 |.lf k=>.lf k
 |.nd w ts=>.nd w (AT.plnL w ts)
def AT.plnL(w:Bool):List AT->List AT
 | []=>[]
 |t::ts=>gE w (AT.pln t)++AT.plnL w ts
end
def wB(w:Bool)(t:AT):AT.lvsL (gE w t)=t.lvs:=by
 cases t with
 |lf k=>simp [gE,AT.lvsL,AT.lvs]
 |
  nd v us=>
  rw[fS];split
  .rw[AT.lvs]
  .simp [AT.lvsL,AT.lvs]
def AT.pln_lvs(t:AT):t.pln.lvs=t.lvs:=by
 induction t using AT.ind with
 |h1 k=>rfl
 |
  h2 w ts ih=>
  rw[AT.pln,AT.lvs,AT.lvs];induction ts with
  |nil=>rfl
  |cons t ts ih2=>rw[AT.plnL,AT.lvsL,AT.lvsL_app,wB,ih t (s_ ..),ih2 λu hu=>ih u (q_ _ hu)]
def IP{w:Bool}{t:AT}(h:t.ok=true):1<=(gE w t).length/\∀u∈gE w t,u.ok=true:=by
 cases t with
 |lf k=>exact⟨t_ _,λu hu=>by rw[NU.mp hu];rfl⟩
 |
  nd v us=>
  rw[fS];split
  .rw[AT.ok,u_] at h
   have:=N9 h.1
   exact⟨by omega,AT.okL_mem.mp h.2⟩
  .exact⟨t_ _,λu hu=>by rw[NU.mp hu];exact h⟩
def AT.pln_ok(t:AT)(h:t.ok=true):t.pln.ok=true:=by
 induction t using AT.ind with
 |h1 k=>rfl
 |
  h2 w ts ih=>
  rw[AT.ok,u_] at h;have hk:=AT.okL_mem.mp h.2;have h2:=N9 h.1;have key:∀ts:List AT,(∀t∈ts,t.pln.ok=true)->ts.length<=(AT.plnL w ts).length/\∀u∈AT.plnL w ts,u.ok=true:=by
   intro ts;induction ts with
   |nil=>intro _;exact⟨t_ _,λu hu=>by rw[AT.plnL] at hu;exact nomatch hu⟩
   |
    cons t ts ih2=>
    intro hh;obtain⟨a1,a2⟩:=IP (w:=w) (hh t (s_ ..));obtain⟨b1,b2⟩:=ih2 λu hu=>hh u (q_ _ hu);rw[AT.plnL,H_,E_];refine⟨by omega,λu hu=>?_⟩;rcases OB.mp hu with hu |hu
    .exact a2 u hu
    .exact b2 u hu
  obtain⟨a,b⟩:=key ts λt ht=>ih t ht (hk t ht);rw[AT.pln,AT.ok,u_];exact⟨I_ (by omega),AT.okL_mem.mpr b⟩
theorem sN:∀a b:List AT,AT.depL (a++b)=max (AT.depL a) (AT.depL b)
 | [],b=>by simp [AT.depL]
 |t::a,b=>by rw[N_,AT.depL,AT.depL,sN a b];omega
def Ew(w:Bool)(t:AT):AT.depL (gE w t)<=t.dep:=by
 cases t with
 |lf k=>simp [gE,AT.depL,AT.dep]
 |
  nd v us=>
  rw[fS];split
  .rw[AT.dep];omega
  .simp [AT.depL,AT.dep]
def AT.pln_dep(t:AT):t.pln.dep<=t.dep:=by
 induction t using AT.ind with
 |h1 k=>exact t_ _
 |
  h2 w ts ih=>
  rw[AT.pln,AT.dep,AT.dep];have:AT.depL (AT.plnL w ts)<=AT.depL ts:=by
   induction ts with
   |nil=>exact t_ _
   |cons t ts ih2=>have h1:=ih t (s_ ..);have h2:=ih2 λu hu=>ih u (q_ _ hu);have h3:=Ew w t.pln;rw[AT.plnL,sN,AT.depL];omega
  omega
noncomputable def aM (b:Bx) (w:Bool) (W a x:Int):Bx:=if w=true then ⟨b.l+b.w*((a:Rat)/(W:Rat)),b.t,b.w*((x:Rat)/(W:Rat)),b.h⟩ else ⟨b.l,b.t+b.h*((a:Rat)/(W:Rat)),b.w,b.h*((x:Rat)/(W:Rat))⟩
noncomputable def frm (b:Bx) (w:Bool) (W:Int):Int->List Int->List Bx
 |_,[]=>[]
 |a,x::xs=>aM b w W a x::frm b w W (a+x) xs
theorem kQ(b:Bx)(w:Bool)(W:Int):∀(xs:List Int) (a:Int),(frm b w W a xs).length=xs.length
 | [],_=>rfl
 |x::xs,a=>by rw[frm,E_,E_,kQ b w W xs]
def fj(b:Bx)(w:Bool)(xs:List Int):aP b (wy w) xs=frm b w xs.sum 0 xs:=by
 have key:∀(W:Int) (xs:List Int) (a:Int),(if wy w="across" then (shL b.l b.w W a xs).map λp=>(⟨p.1,b.t,p.2,b.h⟩:Bx) else (shL b.t b.h W a xs).map λp=>⟨b.l,p.1,b.w,p.2⟩)=frm b w W a xs:=by
  intro W xs;induction xs with
  |nil=>intro a;unfold shL frm;split <;> rfl
  |
   cons x xs ih=>
   intro a;rw[frm,<- ih,shL,shL];unfold aM;cases w with
   |true=>rw[if_pos (show wy true="across" from rfl),if_pos (show wy true="across" from rfl),if_pos rfl];rfl
   |
    false=>
    have hn:¬ (wy false="across"):=by decide
    rw[if_neg hn,if_neg hn,if_neg (by decide)];rfl
 exact key xs.sum xs 0
theorem vG(b:Bx)(w:Bool)(W:Int):∀(xs ys:List Int) (a:Int),frm b w W a (xs++ys)=frm b w W a xs++frm b w W (a+xs.sum) ys
 | [],ys,a=>by simp [frm]
 |x::xs,ys,a=>by rw[N_,frm,frm,N_,vG b w W xs ys,Np,Int.add_assoc]
def DY(s l a W c:Rat)(hW:W≠0):s+l*(a/W)+l*(c/W)=s+l*((a+c)/W):=by grind
def DP(l S W c:Rat)(hS:S≠0)(hW:W≠0):(l*(S/W))*(c/S)=l*(c/W):=by grind
def EZ(b:Bx)(w:Bool)(W a S c x:Int)(hS:S≠0)(hW:W≠0):aM (aM b w W a S) w S c x=aM b w W (a+c) x:=by
 have h1:=gp hS;have h2:=gp hW;unfold aM;cases w with
 |true=>simp only[OW,O9,DP _ _ _ _ h1 h2,DY _ _ _ _ _ h2]
 |false=>simp only[OM,NM,O9,DP _ _ _ _ h1 h2,DY _ _ _ _ _ h2]
theorem uU(b:Bx)(w:Bool)(W a S:Int)(hS:S≠0)(hW:W≠0):∀(xs:List Int) (c:Int),frm (aM b w W a S) w S c xs=frm b w W (a+c) xs
 | [],_=>rfl
 |x::xs,c=>by rw[frm,frm,EZ b w W a S c x hS hW,uU b w W a S hS hW xs,Int.add_assoc]
def vw(ws:List Int)(bs:List Bx):AT.bxL ws [] bs=[]:=by rw[AT.bxL];intro _ _ _ _ h;cases h
theorem vc(ws:List Int):∀(ts us:List AT) (bs cs:List Bx),ts.length=bs.length->AT.bxL ws (ts++us) (bs++cs)=AT.bxL ws ts bs++AT.bxL ws us cs
 | [],us,[],cs,_=>by rw[vw];rfl
 |
  t::ts,us,b::bs,cs,h=>by
  rw[N_,N_,AT.bxL,AT.bxL,vc ws ts us bs cs (by simpa using h),O0]
 | [],_,_::_,_,h=>nomatch h
 |_::_,_,[],_,h=>nomatch h
def v7(ws:List Int)(t:AT):wtT ws t.pln=wtT ws t:=by unfold wtT;rw[AT.pln_lvs]
def Ik(ws:List Int)(w:Bool)(t:AT):((gE w t).map (wtT ws)).sum=wtT ws t:=by rw[<- fK,wB];rfl
def AT.pln_bx{ws:List Int}(t:AT)(ho:t.ok=true)(hw:∀k∈t.lvs,1<=ws.getD k 0):∀b,AT.bx ws t.pln b=AT.bx ws t b:=by
 induction t using AT.ind with
 |h1 k=>intro b;rfl
 |
  h2 w ts ih=>
  intro b;rw[AT.ok,u_] at ho;have hk:=AT.okL_mem.mp ho.2;have h2:=N9 ho.1;rw[AT.lvs] at hw;have hone:∀t∈ts,1<=wtT ws t:=λt ht=>by have h1:=fA (hk t ht);have h2:=gR (ws:=ws) (l:=t.lvs) λk hk'=>hw k (AT.lvsL_mem.mpr ⟨t,ht,hk'⟩);unfold wtT;omega
  have ih':∀t∈ts,∀b,AT.bx ws t.pln b=AT.bx ws t b:=λt ht=>ih t ht (hk t ht) λk hk'=>hw k (AT.lvsL_mem.mpr ⟨t,ht,hk'⟩);have a_:=gR hw;have h1l:1<=(AT.lvsL ts).length:=by
   have:=gi (f:=AT.lvs) (l:=ts) λt ht=>fA (hk t ht)
   rw[AT.lvsL_flat];omega
  have hW:(ts.map (wtT ws)).sum≠0:=by rw[<- fK];omega
  have hS:((AT.plnL w ts).map (wtT ws)).sum=(ts.map (wtT ws)).sum:=by
   rw[<- fK,<- fK]
   have:=AT.pln_lvs (.nd w ts)
   rw[AT.pln,AT.lvs,AT.lvs] at this;rw[this]
  rw[AT.pln,AT.bx,AT.bx,fj,fj,hS];generalize (ts.map (wtT ws)).sum=W at *;have key:∀(ts:List AT) (a:Int),(∀t∈ts,1<=wtT ws t)->(∀t∈ts,∀b,AT.bx ws t.pln b=AT.bx ws t b)->AT.bxL ws (AT.plnL w ts) (frm b w W a ((AT.plnL w ts).map (wtT ws)))=AT.bxL ws ts (frm b w W a (ts.map (wtT ws))):=by
   intro ts;induction ts with
   |nil=>intro a _ _;rfl
   |
    cons t ts ih2=>
    intro a h1 h2;have e1:=ih2 (a+wtT ws t) (λu hu=>h1 u (q_ _ hu)) λu hu=>h2 u (q_ _ hu);have e2:=h2 t (s_ ..);have e3:=h1 t (s_ ..);rw[AT.plnL,NQ,vG,vc _ _ _ _ _ (by rw[kQ,p_]),Ik,v7,e1,x_,frm,AT.bxL];congr 1;rw[<- e2];have e4:=v7 ws t;generalize t.pln=p at *;have one:AT.bxL ws [p] (frm b w W a ([p].map (wtT ws)))=AT.bx ws p (aM b w W a (wtT ws t)):=by rw[x_,Nt,frm,frm,AT.bxL,e4,vw,Ny]
    cases p with
    |lf k=>exact one
    |
     nd v us=>
     rw[fS];split
     .rename_i e;subst e;have es:(us.map (wtT ws)).sum=wtT ws t:=by rw[<- fK,<- e4];unfold wtT;rw[AT.lvs]
      rw[AT.bx,fj,es,uU b v W a (wtT ws t) (by omega) hW,Int.add_zero]
     .exact one
  exact key ts 0 hone ih'
def TOk.pln{t:AT}{l:List Nat}(T:TOk t l):TOk t.pln l:=⟨t.pln_ok T.ok,λk=>by rw[AT.pln_lvs];exact T.mem k,Nu t.pln_dep T.dep,by rw[AT.pln_lvs];exact T.len⟩
def xX(w:Bool):PyData.strOk (wy w)=true:=by cases w <;> decide +kernel
def Gn{f:Nat->Val}(t:AT):∀d,t.dep<=d->(∀k∈t.lvs,wfV 0 (f k)=true)->wfV (2*d) (t.val f)=true:=by
 induction t using AT.ind with
 |h1 k=>intro d _ h;rw[AT.val];exact JF (h k (by rw[AT.lvs];exact s_ ..)) (NK _)
 |
  h2 w ts ih=>
  intro d hd h;rw[AT.dep] at hd;obtain⟨e,rfl⟩:∃e,d=e+1:=⟨d-1,by omega⟩;have hc:bZ (2*e) (AT.vals f ts)=true:=by rw[AT.vals_map];refine kD λv hv=>?_;obtain⟨t,ht,rfl⟩:=Nv.mp hv;exact ih t ht e (AT.depL_le.mp (show AT.depL ts<=e by omega) t ht) λk hk=>h k (by rw[AT.lvs];exact AT.lvsL_mem.mpr ⟨t,ht,hk⟩)
  rw[AT.val,show 2*(e+1)=2*e+1+1 from by omega];show (wfV (2*e+1) (.str (wy w))&&(bZ (2*e) (AT.vals f ts)&&true))=true;rw[hc,show wfV (2*e+1) (.str (wy w))=true from xX w];rfl
def Eu{f:Nat->Val}(t:AT)(hd:t.dep<=60)(h:∀k∈t.lvs,wfV 0 (f k)=true):ba (t.val f) (t.val f)=some true:=by
 have:=Gn (f:=f) t 60 hd h
 rw[zL (by decide) this this,kF _ _ this]
def AM(ws:List Int):((aN ws).map λk=>ws.getD k 0).Pairwise (· >= ·):=by rw[List.pairwise_map];refine List.Pairwise.imp (λ{i j} h=>?_) (cN ws).up;unfold bA kyF at h;rw[Oy] at h;show ws.getD j 0<=ws.getD i 0;have h:-(ws.getD i 0) < -(ws.getD j 0)\/(-(ws.getD i 0)=-(ws.getD j 0)/\((i:Nat):Int)<(j:Nat)):=h;omega
noncomputable def thN (xs:List Int):Nat->Nat->Nat
 |0,k=>k
 |f+1,k=>if 3*(xs.take k).sum<xs.sum then thN xs f (k+1) else k
noncomputable def jN (xs:List Int):Nat:=thN xs (xs.length-1) 1
theorem Az(xs:List Int):∀f k,k<=thN xs f k
 |0,k=>t_ _
 |
  f+1,k=>by
  rw[thN];split
  .have:=Az xs f (k+1);omega
  .exact t_ _
theorem zg(xs:List Int){m:Nat}(hm:¬ 3*(xs.take m).sum<xs.sum):∀f k,k<=m->thN xs f k<=m
 |0,k,h=>h
 |
  f+1,k,h=>by
  rw[thN];split
  .rename_i z;refine zg xs hm f (k+1) ?_;by_cases e:k=m
   .rw[e] at z;exact absurd z hm
   .omega
  .exact h
def Ci{xs:List Int}(h2:2<=xs.length)(hp:∀x∈xs,1<=x)(hd:xs.Pairwise (· >= ·)):1<=jN xs/\jN xs<xs.length:=by
 have key:¬ 3*(xs.take (xs.length-1)).sum<xs.sum:=by
  have e:xs.sum=(xs.take (xs.length-1)).sum+(xs.drop (xs.length-1)).sum:=by rw[<- Pw,NY]
  have d1:xs.drop (xs.length-1)=[xs[xs.length-1]]:=by rw[Pq (by omega),List.drop_eq_nil_of_le (by omega)]
  obtain⟨y,ys,ey⟩:∃y ys,xs.take (xs.length-1)=y::ys:=by
   cases z:xs.take (xs.length-1) with
   |
    nil=>
    have:=NC List.length z
    rw[NI,Nr] at this;omega
   |cons y ys=>exact⟨y,ys,rfl⟩
  have hy:y=xs[0]:=by
   have z:(xs.take (xs.length-1))[0]?=some y:=by rw[ey];rfl
   rw[List.getElem?_take_of_lt (by omega),v_ (by omega)] at z;exact (G_ z).symm
  have hge:xs[0] >= xs[xs.length-1]:=Oz.mp hd 0 (xs.length-1) (by omega) (by omega) (by omega);have hz:=hp xs[xs.length-1] (NW _);have hs:0<=ys.sum:=by
   have:=dD (l:=ys) λx hx=>hp x (Oj (i:=xs.length-1) (by rw[ey];exact q_ _ hx))
   omega
  rw[e,d1,ey,Np,Np,Qc];generalize xs[0]=x0 at *;generalize xs[xs.length-1]=xl at *;omega
 refine⟨Az xs _ 1,?_⟩
 have:=zg xs key (xs.length-1) 1 (by omega)
 unfold jN;omega
structure Bx.In(c b:Bx):Prop where
 l:b.l<=c.l
 r:c.l+c.w<=b.l+b.w
 t:b.t<=c.t
 u:c.t+c.h<=b.t+b.h
def Bx.In.refl(b:Bx):Bx.In b b:=⟨by grind,by grind,by grind,by grind⟩
def Bx.In.trans{a b c:Bx}(h:Bx.In a b)(k:Bx.In b c):Bx.In a c:=by obtain⟨a1,a2,a3,a4⟩:=h;obtain⟨b1,b2,b3,b4⟩:=k;exact⟨by grind,by grind,by grind,by grind⟩
def Cv{w a W:Rat}(hw:0<w)(hW:0<W)(ha:0<=a):0<=w*(a/W):=by rw[Rat.div_def];exact Rat.mul_nonneg (Rat.le_of_lt hw) (Rat.mul_nonneg ha (Rat.le_of_lt (Rat.inv_pos.mpr hW)))
def xh{w a x c W:Rat}(hw:0<w)(hW:0<W)(h:a+x<=c):w*(a/W)+w*(x/W)<=w*(c/W):=by
 have h1:=Cv (a:=c-(a+x)) hw hW (by grind);have e:w*((c-(a+x))/W)=w*(c/W)-(w*(a/W)+w*(x/W)):=by grind
 grind
def DX{w W:Rat}(hW:0<W):w*(W/W)=w:=by grind
def xF{a b:Int}(h:a<=b):(a:Rat)<=(b:Rat):=Rat.intCast_le_intCast.mpr h
def tP{a:Int}(h:0<a):(0:Rat)<(a:Rat):=Rat.intCast_pos.mpr h
def HW{b:Bx}{w:Bool}{W a x:Int}(hb:b.Ok)(ha:0<=a)(hx:0<x)(hs:a+x<=W):(aM b w W a x).Ok/\Bx.In (aM b w W a x) b:=by
 have hW:0<W:=by omega
 have p:(0:Rat)<(x:Rat)/(W:Rat):=fW hx hW;have hWr:=tP hW;have har:(0:Rat)<=(a:Rat):=by have:=xF ha;simpa using this
 have hsr:(a:Rat)+(x:Rat)<=(W:Rat):=by rw[<- O9];exact xF hs
 have w1:=Cv hb.w hWr har;have w2:=xh hb.w hWr hsr;have h1:=Cv hb.h hWr har;have h2:=xh hb.h hWr hsr;rw[DX hWr] at w2 h2;unfold aM;cases w with
 |
  true=>
  refine⟨⟨Rat.mul_pos hb.w p,hb.h⟩,?_,?_,?_,?_⟩
  .show b.l<=b.l+_;grind
  .show b.l+_+_<=b.l+b.w;grind
  .show b.t<=b.t;grind
  .show b.t+b.h<=b.t+b.h;grind
 |
  false=>
  refine⟨⟨hb.w,Rat.mul_pos hb.h p⟩,?_,?_,?_,?_⟩
  .show b.l<=b.l;grind
  .show b.l+b.w<=b.l+b.w;grind
  .show b.t<=b.t+_;grind
  .show b.t+_+_<=b.t+b.h;grind
theorem AJ{b:Bx}{w:Bool}{W:Int}:∀{xs:List Int}{i:Nat}{a:Int}{c:Bx},(frm b w W a xs)[i]?=some c->∃x,xs[i]?=some x/\c=aM b w W (a+(xs.take i).sum) x
 | [],i,a,c,h=>by rw[frm,Oo] at h;cases h
 |
  x::xs,0,a,c,h=>by
  rw[frm,List.getElem?_cons_zero] at h;cases h;exact⟨x,rfl,by rw[Ql,Qc,Int.add_zero]⟩
 |
  x::xs,i+1,a,c,h=>by
  rw[frm,N3] at h;obtain⟨y,h1,h2⟩:=AJ h;exact⟨y,by rw[N3];exact h1,by rw[h2,O5,Np,Int.add_assoc]⟩
theorem sj:∀{xs:List Int}{i:Nat}{x:Int},(∀y∈xs,1<=y)->xs[i]?=some x->0<=(xs.take i).sum/\(xs.take i).sum+x<=xs.sum
 | [],i,x,_,h=>by rw[Oo] at h;cases h
 |
  y::xs,0,x,hp,h=>by
  cases h
  have:=dD λz hz=>hp z (q_ _ hz)
  rw[Ql,Qc,Np];omega
 |
  y::xs,i+1,x,hp,h=>by
  rw[N3] at h;obtain⟨h1,h2⟩:=sj (λz hz=>hp z (q_ _ hz)) h
  have:=hp y (s_ ..)
  rw[O5,Np,Np];omega
theorem tY:∀{xs:List Int}{i j:Nat}{x y:Int},(∀y∈xs,1<=y)->xs[i]?=some x->xs[j]?=some y->i<j->(xs.take i).sum+x<=(xs.take j).sum
 | [],i,j,x,y,_,h,_,_=>by rw[Oo] at h;cases h
 |z::xs,i,0,x,y,_,_,_,h=>by omega
 |
  z::xs,0,j+1,x,y,hp,h,hj,_=>by
  cases h;rw[N3] at hj
  have:=(sj (λz hz=>hp z (q_ _ hz)) hj).1
  rw[Ql,Qc,O5,Np];omega
 |
  z::xs,i+1,j+1,x,y,hp,h,hj,hij=>by
  rw[N3] at h hj
  have:=tY (λz hz=>hp z (q_ _ hz)) h hj (by omega)
  rw[O5,Np,O5,Np];omega
def gz(w s:Bool)(c d:Bx):Prop:=if w=true then (if s=true then c.l+c.w<=d.l else d.l+d.w<=c.l) else (if s=true then c.t+c.h<=d.t else d.t+d.h<=c.t)
def vD{b:Bx}{w:Bool}{W a x e y:Int}(hb:b.Ok)(hW:0<W)(h:a+x<=e):gz w true (aM b w W a x) (aM b w W e y):=by
 have hWr:=tP hW;have hsr:(a:Rat)+(x:Rat)<=(e:Rat):=by rw[<- O9];exact xF h
 have w2:=xh hb.w hWr hsr;have h2:=xh hb.h hWr hsr;unfold gz aM;cases w with
 |true=>show b.l+_+_<=b.l+_;grind
 |false=>show b.t+_+_<=b.t+_;grind
def yw{w s:Bool}{c d c' d':Bx}(h:gz w s c d)(hc:Bx.In c' c)(hd:Bx.In d' d):gz w s c' d':=by obtain⟨a1,a2,a3,a4⟩:=hc;obtain⟨b1,b2,b3,b4⟩:=hd;unfold gz at h ⊢;cases w <;> cases s <;> simp only[OW,OM,NM] at h ⊢ <;> grind
def Bm{w s:Bool}{c d:Bx}(h:gz w s c d):gz w (!s) d c:=by unfold gz at h ⊢;cases w <;> cases s <;> exact h
noncomputable def AT.bxAt (ws:List Int):List Nat->AT->Bx->Option Bx
 | [],.lf _,b=>some b
 |i::p,.nd w ts,b=>match ts[i]?,(frm b w (ts.map (wtT ws)).sum 0 (ts.map (wtT ws)))[i]? with
  |some t,some c=>AT.bxAt ws p t c
  |_,_=>none
 |_,_,_=>none
def sY{ws:List Int}{t:AT}(ho:t.ok=true)(hw:∀k∈t.lvs,1<=ws.getD k 0):1<=wtT ws t:=by have h1:=fA ho;have h2:=gR (ws:=ws) (l:=t.lvs) hw;unfold wtT;omega
def kA{ws:List Int}{i:Nat}{p:List Nat}{w:Bool}{ts:List AT}{b d:Bx}(ho:AT.ok (.nd w ts)=true)(hw:∀k∈AT.lvs (.nd w ts),1<=ws.getD k 0)(hb:b.Ok)(h:AT.bxAt ws (i::p) (.nd w ts) b=some d):
 ∃t a,ts[i]?=some t/\t.ok=true/\(∀k∈t.lvs,1<=ws.getD k 0)/\a=((ts.map (wtT ws)).take i).sum/\0<=a/\a+wtT ws t<=wtT ws (.nd w ts)/\1<=wtT ws t/\(ts.map (wtT ws))[i]?=some (wtT ws t)/\(aM b w (wtT ws (.nd w ts)) a (wtT ws t)).Ok/\Bx.In (aM b w (wtT ws (.nd w ts)) a (wtT ws t)) b/\AT.bxAt ws p t (aM b w (wtT ws (.nd w ts)) a (wtT ws t))=some d:=by
 have es:wtT ws (.nd w ts)=(ts.map (wtT ws)).sum:=by unfold wtT;rw[AT.lvs];exact fK ws ts
 rw[AT.ok,u_] at ho;have hk:=AT.okL_mem.mp ho.2;rw[AT.lvs] at hw;have hws:∀t∈ts,∀k∈t.lvs,1<=ws.getD k 0:=λt ht k hk'=>hw k (AT.lvsL_mem.mpr ⟨t,ht,hk'⟩);have hone:∀x∈ts.map (wtT ws),1<=x:=λx hx=>by obtain⟨t,ht,rfl⟩:=Nv.mp hx;exact sY (hk t ht) (hws t ht)
 unfold AT.bxAt at h;split at h
 .rename_i t c e1 e2;obtain⟨x,h1,h2⟩:=AJ e2;have hm:=Oi e1;have ex:x=wtT ws t:=by rw[Nm,e1] at h1;exact (G_ h1).symm
  subst ex;obtain⟨p1,p2⟩:=sj hone h1;have p3:=sY (hk t hm) (hws t hm);rw[Int.zero_add] at h2;rw[<- es] at p2 h2;obtain⟨s1,s2⟩:=HW (w:=w) hb p1 (by omega:0<wtT ws t) p2;exact⟨t,_,e1,hk t hm,hws t hm,rfl,p1,p2,p3,h1,s1,s2,by rw[<- h2];exact h⟩
 .cases h
theorem ky{ws:List Int}:∀{p:List Nat}{t:AT}{b d:Bx},t.ok=true->(∀k∈t.lvs,1<=ws.getD k 0)->b.Ok->AT.bxAt ws p t b=some d->d.Ok/\Bx.In d b
 | [],.lf k,b,d,_,_,hb,h=>by unfold AT.bxAt at h;cases h;exact⟨hb,Bx.In.refl b⟩
 | [],.nd w ts,b,d,_,_,_,h=>by unfold AT.bxAt at h;cases h
 |i::p,.lf k,b,d,_,_,_,h=>by unfold AT.bxAt at h;cases h
 |
  i::p,.nd w ts,b,d,ho,hw,hb,h=>by
  obtain⟨t,a,h1,h2,h3,_,_,_,_,_,h4,h5,h6⟩:=kA ho hw hb h;obtain⟨k1,k2⟩:=ky h2 h3 h4 h6;exact⟨k1,k2.trans h5⟩
theorem oY{ws:List Int}:∀{p:List Nat}{t:AT}{b d:Bx}{k:Nat},t.ok=true->(∀k∈t.lvs,1<=ws.getD k 0)->b.Ok->AT.bxAt ws p t b=some d->AT.at p t=some k->d.w*d.h=b.w*b.h*(((ws.getD k 0:Int):Rat)/((wtT ws t:Int):Rat))
 |
  [],.lf k,b,d,j,_,hw,hb,h,hk=>by
  unfold AT.bxAt at h;cases h;unfold AT.at at hk;cases hk;have e:wtT ws (.lf k)=ws.getD k 0:=by unfold wtT wtA;rw[AT.lvs];simp
  have:=hw k (by rw[AT.lvs];exact s_ ..)
  rw[e,DX (tP (by omega))]
 | [],.nd w ts,b,d,_,_,_,_,h,_=>by unfold AT.bxAt at h;cases h
 |i::p,.lf k,b,d,_,_,_,_,h,_=>by unfold AT.bxAt at h;cases h
 |
  i::p,.nd w ts,b,d,k,ho,hw,hb,h,hk=>by
  obtain⟨t,a,h1,h2,h3,_,g1,g2,g3,_,h4,h5,h6⟩:=kA ho hw hb h;have hk':AT.at p t=some k:=by unfold AT.at at hk;rw[h1] at hk;exact hk
  rw[oY h2 h3 h4 h6 hk'];have n1:=gp (show wtT ws t≠0 by omega);have n2:=gp (show wtT ws (.nd w ts)≠0 by omega);generalize ((ws.getD k 0:Int):Rat)=v at *;unfold aM;generalize ((wtT ws t:Int):Rat)=x at *;generalize ((wtT ws (.nd w ts):Int):Rat)=W at *;cases w with
  |true=>show b.w*(x/W)*b.h*(v/x)=_;grind
  |false=>show b.w*(b.h*(x/W))*(v/x)=_;grind
theorem rV{ws:List Int}{u:Str}:∀{p q:List Nat}{t:AT}{b c d:Bx},t.ok=true->(∀k∈t.lvs,1<=ws.getD k 0)->b.Ok->AT.bxAt ws p t b=some c->AT.bxAt ws q t b=some d->AT.rel p q t=some u->∃w s,u=wd w s/\AT.rel q p t=some (wd w (!s))/\gz w s c d
 | [],q,t,b,c,d,_,_,_,_,_,h=>by rw[AT.rel] at h;cases h;intro _ _ _ _ _ _ z;cases z
 |i::p,[],t,b,c,d,_,_,_,_,_,h=>by rw[AT.rel] at h;cases h;intro _ _ _ _ _ _ _ z;cases z
 |i::p,j::q,.lf k,b,c,d,_,_,_,_,_,h=>by rw[AT.rel] at h;cases h;intro _ _ _ _ _ _ _ _ z;cases z
 |
  i::p,j::q,.nd w ts,b,c,d,ho,hw,hb,hc,hd,h=>by
  obtain⟨t,a,h1,h2,h3,ea,a1,a2,a3,a4,a5,a6,a7⟩:=kA ho hw hb hc;obtain⟨t',a',h1',h2',h3',ea',b1,b2,b3,b4,b5,b6,b7⟩:=kA ho hw hb hd;have hone:∀x∈ts.map (wtT ws),1<=x:=λx hx=>by obtain⟨u,hu,rfl⟩:=Nv.mp hx;rw[AT.ok,u_] at ho;rw[AT.lvs] at hw;exact sY (AT.okL_mem.mp ho.2 u hu) λk hk'=>hw k (AT.lvsL_mem.mpr ⟨u,hu,hk'⟩)
  unfold AT.rel at h ⊢;by_cases e:i=j
  .subst e;rw[if_pos rfl,h1] at h;rw[if_pos rfl,h1];rw[h1] at h1';cases h1';have:a=a':=by rw[ea,ea']
   subst this;exact rV h2 h3 a5 a7 b7 h
  .rw[if_neg e] at h;rw[if_neg (λz=>e z.symm)];cases h;have i1:=(ky h2 h3 a5 a7).2;have i2:=(ky h2' h3' b5 b7).2;by_cases hij:i<j
   .have o:=tY hone a4 b4 hij;rw[<- ea,<- ea'] at o;refine⟨w,true,by rw[I_ hij],by rw[C_ (by omega)];rfl,yw (vD hb (by omega) o) i1 i2⟩
   .have hji:j<i:=by omega
    have o:=tY hone b4 a4 hji;rw[<- ea,<- ea'] at o;refine⟨w,false,by rw[C_ hij],by rw[I_ hji];rfl,Bm (yw (vD hb (by omega) o) i2 i1)⟩
def vj{k:Nat}(a b:List (Nat×Bx)):bxO (a++b) k=if k∈a.map (·.1) then bxO a k else bxO b k:=by
 unfold bxO;rw[List.find?_append];by_cases h:k∈a.map (·.1)
 .rw[if_pos h];obtain⟨p,hp,e⟩:=Nv.mp h;have:(a.find? λp=>p.1==k).isSome=true:=List.find?_isSome.mpr ⟨p,hp,by simpa using e⟩;obtain⟨q,hq⟩:=Oa.mp this;rw[hq];rfl
 .rw[if_neg h];have:a.find? (λp=>p.1==k)=none:=OP.mpr λp hp z=>h (Nv.mpr ⟨p,hp,by simpa using z⟩);rw[this];rfl
theorem zy{ws:List Int}{x:Nat}{t:AT}{c:Bx}:∀{ts:List AT}{bs:List Bx}{i:Nat},ts[i]?=some t->bs[i]?=some c->(∀(j:Nat) (u:AT),j<i->ts[j]?=some u->x∉u.lvs)->x∈t.lvs->bxO (AT.bxL ws ts bs) x=bxO (AT.bx ws t c) x
 | [],bs,i,h,_,_,_=>by rw[Oo] at h;cases h
 |u::ts,[],i,_,h,_,_=>by rw[Oo] at h;cases h
 |
  u::ts,b::bs,0,h1,h2,_,hx=>by
  cases h1;cases h2;rw[AT.bxL,vj,if_pos (by rw[AT.bx_keys];exact hx)]
 |
  u::ts,b::bs,i+1,h1,h2,hn,hx=>by
  rw[N3] at h1 h2;rw[AT.bxL,vj,if_neg (by rw[AT.bx_keys];exact hn 0 u (by omega) rfl)];exact zy h1 h2 (λj v hj hv=>hn (j+1) v (by omega) (by rw[N3];exact hv)) hx
def FP{ws:List Int}{x:Nat}(t:AT):∀p b,t.pth x=some p->AT.bxAt ws p t b=some (bxO (AT.bx ws t b) x):=by
 induction t using AT.ind with
 |
  h1 k=>
  intro p b h;unfold AT.pth at h;split at h
  .rename_i e;cases h;subst e;unfold AT.bxAt;rw[AT.bx];simp [bxO]
  .cases h
 |
  h2 w ts ih=>
  intro p b h;unfold AT.pth at h;obtain⟨i,t,r,h1,h2,rfl,h4⟩:=AT.pthL_some h;have hm:=Oi h1;rw[Ph];have hi:=(D_.mp h1).1;have hf:i<(frm b w (ts.map (wtT ws)).sum 0 (ts.map (wtT ws))).length:=by rw[kQ,p_];exact hi
  have e2:=v_ hf;unfold AT.bxAt;rw[h1,e2];dsimp only;rw[ih t hm r _ h2,AT.bx,fj,zy h1 e2 (λj u hj hu=>(AT.pth_mem u).mp (h4 j u hj hu))];cases q:decide (x∈t.lvs) with
  |true=>exact N9 q
  |
   false=>
   have:=(AT.pth_mem t).mpr (of_decide_eq_false q)
   rw[h2] at this;cases this
end L3
namespace KK
open PySem PySem.Spec PyProof.Rows L2 L3
def top(i:Nat):Stmt:=PySem.Challenge.pw_weightrooms_k22_whole_each_rule_parts.main.body.getD i (.Pass ⟨0,0,0,0⟩)
noncomputable def bz:jz:=[((.b "NoneType"),(.b "bool"),false),((.b "bool"),(.b "bool"),true),((.b "int"),(.b "bool"),false),((.b "str"),(.b "bool"),false),((.b "tuple"),(.b "bool"),false),((.b "list"),(.b "bool"),false),((.b "dict"),(.b "bool"),false),((.b "NoneType"),(.b "int"),false),((.b "bool"),(.b "int"),true),((.b "int"),(.b "int"),true),((.b "str"),(.b "int"),false),((.b "tuple"),(.b "int"),false),((.b "list"),(.b "int"),false),((.b "dict"),(.b "int"),false),((.b "NoneType"),(.b "list"),false),((.b "bool"),(.b "list"),false),((.b "int"),(.b "list"),false),((.b "str"),(.b "list"),false),((.b "tuple"),(.b "list"),false),((.b "list"),(.b "list"),true),((.b "dict"),(.b "list"),false),((.b "NoneType"),(.b "str"),false),((.b "bool"),(.b "str"),false),((.b "int"),(.b "str"),false),((.b "str"),(.b "str"),true),((.b "tuple"),(.b "str"),false),((.b "list"),(.b "str"),false),((.b "dict"),(.b "str"),false),((.b "NoneType"),(.b "tuple"),false),((.b "bool"),(.b "tuple"),false),((.b "int"),(.b "tuple"),false),((.b "str"),(.b "tuple"),false),((.b "tuple"),(.b "tuple"),true),((.b "list"),(.b "tuple"),false),((.b "dict"),(.b "tuple"),false)]
noncomputable def jb:Val:=(.int 40)
noncomputable def vg:Val:=(.tup [(.str "across"),(.str "down"),(.str "halves"),(.str "rows"),(.str "greatest"),(.str "thirds")])
noncomputable def yJ:Val:=(.tup [(.str "across"),(.str "down")])
abbrev tb:Tb:=⟨["NoFraction", "NoBox", "NoWay", "NoWeights", "TooMany", "NoTree", "NoRule"],["NoFraction", "NoBox", "NoWay", "NoWeights", "TooMany", "NoTree", "NoRule"],[],bz,[("MOST_WEIGHTS",jb),("RULES",vg),("WAYS",yJ)]⟩
abbrev TT(K:W.Frag)(mg:Qt):Prop:=TyL tb top [10,11,12,13,14,15,16,17,18,22,23,24,25,26,27,28,29,30,31,32,33,34,36,37,38,39,40,41,42,44,45,46,47,48,49,50,51,54,55,56,57,58,59,60,61,62,64,65,66,67,68,70,71,72,73,74,75,76,77] K mg
section
variable{P:Program}{w:World}{K:W.Frag}{mg:Qt}{base:Heap}
def iA:PEx:=ng jb
def nz(e:E3):iA.G e=.ok (.val (.int 40)) e:=rfl
def lU:PEx:=ng vg
def CP(e:E3):lU.G e=.ok (.val (.tup [(.str "across"),(.str "down"),(.str "halves"),(.str "rows"),(.str "greatest"),(.str "thirds")])) e:=rfl
def vA:PEx:=ng yJ
def EM(e:E3):vA.G e=.ok (.val (.tup [(.str "across"),(.str "down")])) e:=rfl
def dI(s:String):Lean.TSyntax `term:=⟨Lean.mkIdent (s.replace "%" "").toName⟩
def dA(f:String)(a:Lean.TSyntax `term):Lean.TSyntax `term:=Lean.Syntax.mkApp (dI f) #[a]
def dF:List (Lean.TSyntax `tactic)->Lean.MacroM (Lean.TSyntax `tactic)
 | []=>`(tactic|fail)
 |a::l=>do `(tactic|first | $a:tactic | $(<- dF l):tactic)
def dL(f:String->Lean.MacroM (Lean.TSyntax `tactic)):List String->Lean.MacroM (List (Lean.TSyntax `tactic))
 | []=>pure []
 |s::l=>do return (<- f s)::(<- dL f l)
set_option hygiene false in
def dQ(ap:String->Lean.TSyntax `term)(s:String):Lean.MacroM (Lean.TSyntax `tactic):=match (s.splitOn ";").map ap with
 | [d,c,a,b]=>`(tactic|((case d=>with_reducible exact $d);(case c=>exact $c);(case a=>exact $a);(case b=>exact $b)))
 |d::c::_=>`(tactic|((case d=>with_reducible exact $d);(case c=>exact $c)))
 |_=>`(tactic|fail)
set_option hygiene false in
def dR(ap:String->Lean.TSyntax `term)(g:String):Lean.MacroM (Lean.TSyntax `tactic):=match g.splitOn ":" with
 | [r]=>`(tactic|refine $(ap r))
 |r::l=>do `(tactic|(refine' $(ap r);$(<- dF (<- dL (dQ ap) l)):tactic))
 | []=>`(tactic|fail)
set_option hygiene false in
local macro_rules | `('d')=>do
 let h <- `(?_)
 let u <- `(_)
 let R:=dI "rfl"
 let qA <- `(?a)
 let qB <- `(?b)
 let qC <- `(?c)
 let qD <- `(?d)
 let qp <- `((λ_ _=>rfl))
 let ap:=λ(s:String)=>let w:=s.splitOn " ";Lean.Syntax.mkApp (dI (w.getD 0 "")) (((w.getD 1 "").toList.map λc=>([('1',dI "hr.u100"),('8',dI "hr.u180"),('A',qA),('B',qB),('C',qC),('D',qD),('K',dI "T.k"),('_',u),('b',dA "%boT" R),('f',dA "%boF" R),('g',dA "T.g" R),('k',dA "T.n" R),('m',dA "T.m" R),('n',dI "nd"),('o',dI "%own1"),('p',qp),('r',R),('t',dI "T"),('u',dA "%Mj" (dI "hr")),('v',dA "%yM" u),('x',dA "T.x" R),('z',dI "%rz1")].lookup c).getD h).toArray)
 let rd:=λ(s:String)=>dL (dR ap) (s.splitOn "|")
 let e0 <- `(tactic|refine zcF (by $(<- dF (<- rd "%ih|rC t|sJ t|uK t|p9 t|sU t|nj t|oU t|sr t|j3 t|ml t|xU t|pY t|pM t|kW t|fP t|fQ t|wU t|p8 t|sV t|yD t|y0 t|wX t|mw t|uz t|tu t|nR t|ff t_|mM t|pH t|iE t|Cd t|yo t|lD t|oo t|ny t|eK t_|pO t|iR t|kU t|mB t|lM t|pV t|pZ t|uF t|iz t_|nY t|pI t|rD t|m5 t_|r9 t|uJ t|A0 t|yV t|mP t|gK t|oA t|AK t|iF t_")):tactic) hr ?_)
 let e3 <- `(tactic|exact JU rfl (by first |exact T.e rfl |exact (T.d.get 62 rfl).gl |exact (T.d.get 61 rfl).gl))
 `(by repeat' $(<- dF ((<- rd "%yM _|JG|zK|bE ??|az ??|dJ ?|zsS _n?|qN ???|eQ ?|JE ?|ub ?|J8|Ld|Fe|Jg ?")++[e0,e3]++(<- rd "%Mi CD??:M0;ixK r|Kr CD??:D3;eqDK r8:DC;Ej:DD;DN:D1;D9:Kt;Ja r:MM;neDK r8:Jw;Bh:GD;JX:He;FF|ia CDrkf?:HQ;KL r:G0;C7:EJ;yx r:EC;Ap r:zQ;pq rr:Fh;AQ rr:Fm;uL:HD K;Lc r|KU CD??:Kx;E4:HC;Kb r:Je;Ks:Ho;Ca:IJ;HG:JQ;Ki:JP;Hd|yI CDrkb?:Gu;yY:BR;ED r:EL;Jz r|J1 CD??:DD;DN:DC;Ej:D3;eqDK r8:M3;inK r:D1;D9|F4 rABCD??:Df;IL r1;PySem.F.slot_list_index;PySem.F.type_list_index|HR rABCDv?:Aq;zY;PySem.F.slot_list_append;PySem.F.type_list_append:xy;xP r;PySem.F.slot_list_extend;PySem.F.type_list_extend|Fl rABCDv:HI;JM;PySem.F.slot_list_pop;PySem.F.type_list_pop|Ni CD?:JZ;Ic|J2 n?CD:GZ;Kk|Ga ?v?CD:E8;A4:A7;BO u|ZG.weak ?|zt_w ?|H9 rv?|IZ ??|Lh|Cu u??p|L7 rg|JJ rrkrk?|GF|HP ?|Kc ?|Gh rkb|CZ r???|Ip rrkrk?|MK rkb|zgN _n|Hq rr?|JC rr?|CQ ??|FY|Fu rrk?|zq rk?|yH rk?|Hw r?|Hl rrk?|F7|FT ?|FJ ??|B7|Fi ?|Gw or???|HA n?|CT rzrmx?|Fz|Ck o??|sO ?|Cn r?|Kv ??|EX ?|LK ??|Jh ?"))):tactic)
def nH:PSt:=
 (aj (xIf (qOf (pOp bEq (pFn aR (aa (af 0) ag)) (ai 0))) (ak (dW (aa (ai 0) (aa (ai 0) (aa (af 1) ag))))) xNx)
  (ak (dW (aa (pOp bIx (af 0) (pOp bU (af 1) (pFn aR (aa (af 0) ag)))) (aa (ai 0) (aa (af 1) ag))))))
def dk:PFn:=fnP [false,false] 2 nH
def uA:dk.ms=[false,false]:=rfl
def rC(T:TT K mg):Callee P w K mg base "_law_feed" 1 ["_law_script", "_law_k"] (sp3 K mg dk):=okP (T.d.get 70 rfl) (ao (N:=["_law_script", "_law_k"]) (by decide)) (λ_ _ _ _ _ _=>ar2 λ_ _=>rfl) λnd _ _ _ _ _ _ _ hr=>'d'
def nI:PSt:=
 (aj (oq 0 seL (ai 1) (pOp a9 (pOp bIx (af 0) (ai 1)) (ai 1)))
  (aj (xIf (qOf (pOp bGe (pOp bIx (af 0) (ai 0)) (pOp f6 (ai 10) (ai 18)))) (aj (aw false 2 (pOp bU (pOp bIx (af 0) (ai 0)) (af 1)))
  (aj (oq 0 seL (ai 0) (pOp jr (pOp bIx (af 0) (ai 0)) (af 1)))
  (ak (af 2)))) xNx)
  (aj (aw false 3 (pOp a9 (pOp a9 (pOp bU (pOp bIx (af 0) (ai 0)) (ai 1000003)) (pOp bB (ai 7919) (pOp bIx (af 0) (ai 2)))) (pOp bB (ai 104729) (pOp bIx (af 0) (ai 1)))))
  (aj (aw false 3 (pOp bU (pOp bB (af 3) (ai 48271)) (ai 2147483647)))
  (ak (pOp bU (pOp bU (pOp bB (af 3) (pOp a9 (pOp bU (af 3) (ai 65521)) (pOp bIx (af 0) (ai 1)))) (ai 2147483629)) (af 1)))))))
def au:PFn:=fnP [true,false] 4 nI
def uH:au.ms=[true,false]:=rfl
def sJ(T:TT K mg):Callee P w K mg base "_law_next" 1 ["_law_feed_here", "_law_many"] (sp3 K mg au):=okP (T.d.get 71 rfl) (ao (N:=["_law_feed_here", "_law_many", "_law_digit", "_law_mixed"]) (by decide)) (λ_ _ _ _ _ _=>ar2 λ_ _=>rfl) λnd _ _ _ _ _ _ _ hr=>'d'
def gI:PSt:=
 (gF 2 3 (aa (af 3) (aa (pOp bU (af 2) (af 3)) ag)))
def o6:PSt:=
 (aj (gF 2 3 (aa (pFn eA (aa (af 0) ag)) (aa (pFn eA (aa (af 1) ag)) ag)))
  (aj (xWh (qOf (pOp bGt (af 3) (ai 0))) (gI))
  (aj (xIf (qOf (pOp bLt (af 1) (ai 0))) (aw false 2 (pOp eG (ai 0) (af 2))) xNx)
  (ak (bo (aa (pOp jr (af 0) (af 2)) (aa (pOp jr (af 1) (af 2)) ag)))))))
def cp:PFn:=fnP [false,false] 4 o6
def yf:cp.ms=[false,false]:=rfl
def uK(T:TT K mg):Callee P w K mg base "_law_low" 1 ["_law_top", "_law_bottom"] (sp3 K mg cp):=okP (T.d.get 73 rfl) (ao (N:=["_law_top", "_law_bottom", "_law_one", "_law_two"]) (by decide)) (λ_ _ _ _ _ _=>ar2 λ_ _=>rfl) λnd _ _ _ _ _ _ _ hr=>'d'
def ku:PSt:=
 (aw false 2 (pOp a9 (pOp bB (af 2) (pOp f6 (ai 10) (ai 6))) (ah au (aa (af 0) (aa (pOp f6 (ai 10) (ai 6)) ag)))))
def lu:PSt:=
 (aj (aw false 2 (ai 0))
  (aj (eZ (jB (aa (ai 6) ag)) (gtN 3) (ku))
  (ak (pOp eG (pOp bU (af 2) (pOp a9 (pOp bB (ai 2) (af 1)) (ai 1))) (af 1)))))
def br:PFn:=fnP [true,false] 4 lu
def tF:br.ms=[true,false]:=rfl
def p9(T:TT K mg):Callee P w K mg base "_law_great" 2 ["_law_feed_here", "_law_far"] (sp3 K mg br):=okP (T.d.get 72 rfl) (ao (N:=["_law_feed_here", "_law_far", "_law_number", "_law_k"]) (by decide)) (λ_ _ _ _ _ _=>ar2 λ_ _=>rfl) λnd _ _ _ _ _ _ _ hr=>'d'
def jK:PSt:=
 (aj (aw false 1 (ah au (aa (af 0) (aa (ai 6) ag))))
  (aj (gF 2 3 (aa (bo (aa (pOp eG (ah au (aa (af 0) (aa (ai 19) ag))) (ai 9)) (aa (ai 1) ag))) (aa (bo (aa (pOp eG (ah au (aa (af 0) (aa (ai 19) ag))) (ai 9)) (aa (ai 1) ag))) ag)))
  (aj (gF 4 5 (aa (bo (aa (pOp a9 (ai 1) (ah au (aa (af 0) (aa (ai 12) ag)))) (aa (ai 1) ag))) (aa (bo (aa (pOp a9 (ai 1) (ah au (aa (af 0) (aa (ai 12) ag)))) (aa (ai 1) ag))) ag)))
  (aj (xIf (qOf (pOp bEq (af 1) (ai 1))) (aw false 5 (af 4)) xNx)
  (aj (xIf (qOf (pOp bEq (af 1) (ai 2))) (aw false 4 (bo (aa (pOp a9 (ai 1) (ah au (aa (af 0) (aa (ai 99) ag)))) (aa (ai 1) ag)))) xNx)
  (aj (xIf (qOf (pOp bEq (af 1) (ai 3))) (aw false 5 (bo (aa (pOp a9 (ai 1) (ah au (aa (af 0) (aa (ai 99) ag)))) (aa (ai 1) ag)))) xNx)
  (aj (xIf (qOf (pOp bEq (af 1) (ai 4))) (aj (gF 2 3 (aa (ah cp (aa (pOp eG (ah au (aa (af 0) (aa (ai 199) ag))) (ai 99)) (aa (pOp a9 (ai 1) (ah au (aa (af 0) (aa (ai 30) ag)))) ag))) (aa (ah cp (aa (ah au (aa (af 0) (aa (ai 9) ag))) (aa (ai 7) ag))) ag)))
  (gF 4 5 (aa (ah cp (aa (pOp a9 (ai 1) (ah au (aa (af 0) (aa (ai 99) ag)))) (aa (pOp a9 (ai 1) (ah au (aa (af 0) (aa (ai 30) ag)))) ag))) (aa (ah cp (aa (pOp a9 (ai 1) (ah au (aa (af 0) (aa (ai 99) ag)))) (aa (ai 11) ag))) ag)))) xNx)
  (aj (xIf (qOf (pOp bEq (af 1) (ai 5))) (aj (aw false 6 (pOp eG (pOp f6 (ai 10) (ai 30)) (ai 1)))
  (aj (gF 2 3 (aa (ah cp (aa (ah br (aa (af 0) (aa (af 6) ag))) (aa (pOp a9 (ai 1) (pFn eA (aa (ah br (aa (af 0) (aa (pOp eG (af 6) (ai 1)) ag))) ag))) ag))) (aa (bo (aa (ah br (aa (af 0) (aa (af 6) ag))) (aa (ai 1) ag))) ag)))
  (gF 4 5 (aa (bo (aa (pOp a9 (ai 1) (pFn eA (aa (ah br (aa (af 0) (aa (pOp eG (af 6) (ai 1)) ag))) ag))) (aa (ai 1) ag))) (aa (ah cp (aa (pOp a9 (ai 1) (pFn eA (aa (ah br (aa (af 0) (aa (pOp eG (af 6) (ai 1)) ag))) ag))) (aa (af 6) ag))) ag))))) xNx)
  (ak (bo (aa (af 2) (aa (af 3) (aa (af 4) (aa (af 5) ag))))))))))))))
def fI:PFn:=fnP [true] 7 jK
def uB:fI.ms=[true]:=rfl
def sU(T:TT K mg):Callee P w K mg base "_law_room" 3 ["_law_feed_here"] (sp3 K mg fI):=okP (T.d.get 74 rfl) (ao (N:=["_law_feed_here", "_law_way", "_law_left", "_law_top", "_law_wide", "_law_high", "_law_far"]) (by decide)) (λ_ _ _ _ _ _=>ar1 λ_=>rfl) λnd _ _ _ _ _ _ _ hr=>'d'
def eB:PSt:=
 (aj (aw true 3 (ah dk (aa (af 0) (aa (pOp a9 (pOp a9 (af 1) (ai 1)) (af 9)) ag))))
  (aj (aw false 10 (pOp bIx (dW (aa (ai 1) (aa (pOp a9 (ai 1) (ah au (aa (af 3) (aa (ai 9) ag)))) (aa (pOp qX (ai 1) (pOp bU (af 9) (af 8))) (aa (pOp a9 (ai 1) (ah au (aa (af 3) (aa (ai 9) ag)))) (aa (ai 1) (aa (pOp a9 (ai 1) (ah au (aa (af 3) (aa (ai 3) ag)))) ag))))))) (af 6)))
  (aj (xIf (qAn (qOf (pOp bEq (af 6) (ai 3))) (qOf (pOp bEq (ah au (aa (af 3) (aa (ai 4) ag))) (ai 0)))) (aw false 10 (pOp a9 (pOp f6 (ai 10) (ai 29)) (ah au (aa (af 3) (aa (ai 100) ag))))) xNx)
  (aj (xIf (qOf (pOp bEq (af 6) (ai 4))) (aw false 10 (pOp a9 (ai 1) (pFn eA (aa (ah br (aa (af 3) (aa (pOp eG (pOp f6 (ai 10) (ai 30)) (ai 2)) ag))) ag)))) xNx)
  (aK (iN 7 fg (aa (af 10) ag)))))))
def gC:PSt:=
 (aj (aw true 3 (ah dk (aa (af 0) (aa (af 1) ag))))
  (aj (aw false 4 (pOp a9 (ai 1) (ah au (aa (af 3) (aa (pFn rG (aa (af 2) (aa (ai 7) ag))) ag)))))
  (aj (aw false 5 (ah au (aa (af 3) (aa (ai 6) ag))))
  (aj (xIf (qOf (pOp bLt (af 5) (ai 2))) (aw false 4 (pOp bIx (dW (aa (af 2) (aa (pFn sk (aa (ai 1) (aa (pOp jr (pOp bB (af 4) (af 2)) (ai 8)) ag))) ag))) (af 5))) xNx)
  (aj (aw false 6 (ah au (aa (af 3) (aa (ai 6) ag))))
  (aj (xIf (qOf (pOp bGt (af 4) (ai 9))) (aw false 6 (pOp bU (af 6) (ai 3))) xNx)
  (aj (aw true 7 (dW ag))
  (aj (aw false 8 (pOp bIx (dW (aa (ai 24) (aa (ai 4) ag))) (pFn qK (aa (pOp bGt (af 4) (ai 9)) ag))))
  (aj (eZ (jB (aa (af 4) ag)) (gtN 9) (eB))
  (ak (af 7)))))))))))
def dE:PFn:=fnP [false,false,false] 11 gC
def oR:dE.ms=[false,false,false]:=rfl
def nj(T:TT K mg):Callee P w K mg base "_law_weights" 3 ["_law_script", "_law_at", "_law_most"] (sp3 K mg dE):=okP (T.d.get 75 rfl) (ao (N:=["_law_script", "_law_at", "_law_most", "_law_feed_here", "_law_many", "_law_more", "_law_style", "_law_some", "_law_high", "_law_k", "_law_weight"]) (by decide)) (λ_ _ _ _ _ _=>ar3 λ_ _ _=>rfl) λnd _ _ _ _ _ _ _ hr=>'d'
def kd:PSt:=
 (xIf (qOf (pOp qU (af 0) lU)) (eN "NoRule" (aa (bH "this is no rule") ag)) xNx)
def c7:PFn:=fnP [false] 1 kd
def pR:c7.ms=[false]:=rfl
def oU(T:TT K mg):Callee P w K mg base "check_rule" 1 ["rule"] (sp3 K mg c7):=okP (T.d.get 54 rfl) (ao (N:=["rule"]) (by decide)) (λ_ _ _ _ _ _=>ar1 λ_=>rfl) λnd _ _ _ _ _ _ _ hr=>'d'
def jH:PSt:=
 (ak (hU (pFn (aX bz) (aa (af 0) (aa (pTy "int") ag))) (ud (pFn (aX bz) (aa (af 0) (aa (pTy "bool") ag))))))
def bP:PFn:=fnP [false] 1 jH
def uw:bP.ms=[false]:=rfl
def sr(T:TT K mg):Callee P w K mg base "is_whole" 1 ["thing"] (sp3 K mg bP):=okP (T.d.get 10 rfl) (ao (N:=["thing"]) (by decide)) (λ_ _ _ _ _ _=>ar1 λ_=>rfl) λnd _ _ _ _ _ _ _ hr=>'d'
def cU:PSt:=
 (gF 0 1 (aa (af 1) (aa (pOp bU (af 0) (af 1)) ag)))
def ij:PSt:=
 (aj (gF 0 1 (aa (pFn eA (aa (af 0) ag)) (aa (pFn eA (aa (af 1) ag)) ag)))
  (aj (xWh (qOf (pOp bNe (af 1) (ai 0))) (cU))
  (ak (af 0))))
def bK:PFn:=fnP [false,false] 2 ij
def kX:bK.ms=[false,false]:=rfl
def j3(T:TT K mg):Callee P w K mg base "common_divisor" 1 ["one", "other"] (sp3 K mg bK):=okP (T.d.get 11 rfl) (ao (N:=["one", "other"]) (by decide)) (λ_ _ _ _ _ _=>ar2 λ_ _=>rfl) λnd _ _ _ _ _ _ _ hr=>'d'
def jV:PSt:=
 (aj (xIf (qO (qNo (qOf (pFn (aX bz) (aa (af 0) (aa (pTy "tuple") ag))))) (qOf (pOp bNe (pFn aR (aa (af 0) ag)) (ai 2)))) (ak (pBl false)) xNx)
  (aj (eX (af 0) (gtX (gtT 2 (ay (gtN 1) (ay (gtN 2) bI)))))
  (aj (xIf (qO (qNo (qOf (ah bP (aa (af 1) ag)))) (qNo (qOf (ah bP (aa (af 2) ag))))) (ak (pBl false)) xNx)
  (ak (hU (pOp bGe (af 2) (ai 1)) (pOp bEq (ah bK (aa (af 1) (aa (af 2) ag))) (ai 1)))))))
def cK:PFn:=fnP [false] 3 jV
def oE:cK.ms=[false]:=rfl
def ml(T:TT K mg):Callee P w K mg base "is_fraction" 2 ["thing"] (sp3 K mg cK):=okP (T.d.get 12 rfl) (ao (N:=["thing", "top", "bottom"]) (by decide)) (λ_ _ _ _ _ _=>ar1 λ_=>rfl) λnd _ _ _ _ _ _ _ hr=>'d'
def rj:PSt:=
 (aj (xIf (qO (qNo (qOf (pFn (aX bz) (aa (af 0) (aa (pTy "tuple") ag))))) (qOf (pOp bNe (pFn aR (aa (af 0) ag)) (ai 4)))) (ak (pBl false)) xNx)
  (aj (xIf (qNo (qOf (pFn qF (aa (pLC (cD (af 0)) [none] (by decide) (gtN 0) qY (ah cK (aa (af 0) ag))) ag)))) (ak (pBl false)) xNx)
  (ak (hU (pOp bGt (pOp bIx (pOp bIx (af 0) (ai 2)) (ai 0)) (ai 0)) (pOp bGt (pOp bIx (pOp bIx (af 0) (ai 3)) (ai 0)) (ai 0))))))
def fZ:PFn:=fnP [false] 1 rj
def yp:fZ.ms=[false]:=rfl
def xU(T:TT K mg):Callee P w K mg base "is_box" 3 ["thing"] (sp3 K mg fZ):=okP (T.d.get 22 rfl) (ao (N:=["thing"]) (by decide)) (λ_ _ _ _ _ _=>ar1 λ_=>rfl) λnd _ _ _ _ _ _ _ hr=>(az 'd' (az (qN (sO (ub (ia (allK (K:=K) rfl rfl) yE rfl (T.n rfl) (by first |exact boF rfl |exact boT rfl) (bE (g0 ["thing"] (aq (top 22)).names ["part"] [none] 'd' (λnd _ _ _ _ _=>'d') (λ_ _ _ _ _ _=>cq) (λnd _ _ _ _ _=>'d')) 'd')))) 'd' 'd') 'd'))
def lq:PSt:=
 (xIf (qNo (qOf (ah fZ (aa (af 0) ag)))) (eN "NoBox" (aa (bH "this is no box") ag)) xNx)
def aG:PFn:=fnP [false] 1 lq
def tL:aG.ms=[false]:=rfl
def pY(T:TT K mg):Callee P w K mg base "check_box" 4 ["thing"] (sp3 K mg aG):=okP (T.d.get 23 rfl) (ao (N:=["thing"]) (by decide)) (λ_ _ _ _ _ _=>ar1 λ_=>rfl) λnd _ _ _ _ _ _ _ hr=>'d'
def kZ:PSt:=
 (ak (hU (ah bP (aa (af 0) ag)) (pOp bGe (af 0) (ai 1))))
def dH:PFn:=fnP [false] 1 kZ
def tN:dH.ms=[false]:=rfl
def pM(T:TT K mg):Callee P w K mg base "is_weight" 2 ["thing"] (sp3 K mg dH):=okP (T.d.get 27 rfl) (ao (N:=["thing"]) (by decide)) (λ_ _ _ _ _ _=>ar1 λ_=>rfl) λnd _ _ _ _ _ _ _ hr=>'d'
def iw:PSt:=
 (aj (xIf (qO (qNo (qOf (pFn (aX bz) (aa (af 0) (aa (pTy "list") ag))))) (qOf (pOp bEq (pFn aR (aa (af 0) ag)) (ai 0)))) (eN "NoWeights" (aa (bH "this is no list of weights") ag)) xNx)
  (aj (xIf (qNo (qOf (pFn qF (aa (pLC (cD (af 0)) [none] (by decide) (gtN 0) qY (ah dH (aa (af 0) ag))) ag)))) (eN "NoWeights" (aa (bH "a weight is a whole number from 1 on") ag)) xNx)
  (xIf (qOf (pOp bGt (pFn aR (aa (af 0) ag)) iA)) (eN "TooMany" (aa (bH "these are more weights than forty") ag)) xNx)))
def aD:PFn:=fnP [false] 1 iw
def l6:aD.ms=[false]:=rfl
def kW(T:TT K mg):Callee P w K mg base "check_weights" 3 ["thing"] (sp3 K mg aD):=okP (T.d.get 28 rfl) (ao (N:=["thing"]) (by decide)) (λ_ _ _ _ _ _=>ar1 λ_=>rfl) λnd _ _ _ _ _ _ _ hr=>(az 'd' (az (qN (sO (ub (ia (allK (K:=K) rfl rfl) yE rfl (T.n rfl) (by first |exact boF rfl |exact boT rfl) (bE (g0 ["thing"] (aq (top 28)).names ["weight"] [none] 'd' (λnd _ _ _ _ _=>'d') (λ_ _ _ _ _ _=>cq) (λnd _ _ _ _ _=>'d')) 'd')))) 'd' 'd') 'd'))
def gG:PSt:=
 (aj (aw false 1 (pLC (wG (aa (ai 1) (aa (pFn aR (aa (af 0) ag)) ag))) [none,some 0] (by decide) (gtN 0) qY (pFn eA (aa (pOp eG (pOp bB (ai 2) (pFn cH (aa (pSl (af 1) oN (oS (af 0))) ag))) (pFn cH (aa (af 1) ag))) ag))))
  (ak (pOp a9 (xV kO (af 1) (aa (pFn sP (aa (af 1) ag)) ag)) (ai 1))))
def bG:PFn:=fnP [false] 2 gG
def jX:bG.ms=[false]:=rfl
def fP(T:TT K mg):Callee P w K mg base "nearest_to_half" 1 ["weights"] (sp3 K mg bG):=okP (T.d.get 61 rfl) (ao (N:=["weights", "apart"]) (by decide)) (λ_ _ _ _ _ _=>ar1 λ_=>rfl) λnd _ _ _ _ _ _ _ hr=>(az (zSlc nd ["weights", "apart"] (aq (top 61)).names ["many", "weights"] [none,some 0] 'd' (λnd _ _ _ _ _=>'d') (λ_ _ _ _ _ _=>cq) (λnd _ _ _ _ _=>'d')) 'd')
def cM:PSt:=
 (rh 1 sq (ai 1))
def gH:PSt:=
 (aj (aw false 1 (ai 1))
  (aj (xWh (qOf (pOp bLt (pOp bB (ai 3) (pFn cH (aa (pSl (af 0) oN (oS (af 1))) ag))) (pFn cH (aa (af 0) ag)))) (cM))
  (ak (af 1))))
def bF:PFn:=fnP [false] 2 gH
def ki:bF.ms=[false]:=rfl
def fQ(T:TT K mg):Callee P w K mg base "fewest_to_third" 1 ["weights"] (sp3 K mg bF):=okP (T.d.get 62 rfl) (ao (N:=["weights", "many"]) (by decide)) (λ_ _ _ _ _ _=>ar1 λ_=>rfl) λnd _ _ _ _ _ _ _ hr=>'d'
def lL:PSt:=
 (ak (hU (pFn (aX bz) (aa (af 0) (aa (pTy "str") ag))) (pOp bIn (af 0) vA)))
def dZ:PFn:=fnP [false] 1 lL
def Ah:dZ.ms=[false]:=rfl
def wU(T:TT K mg):Callee P w K mg base "is_way" 1 ["thing"] (sp3 K mg dZ):=okP (T.d.get 24 rfl) (ao (N:=["thing"]) (by decide)) (λ_ _ _ _ _ _=>ar1 λ_=>rfl) λnd _ _ _ _ _ _ _ hr=>'d'
def k8:PSt:=
 (xIf (qNo (qOf (ah dZ (aa (af 0) ag)))) (eN "NoWay" (aa (bH "this is no way") ag)) xNx)
def eO:PFn:=fnP [false] 1 k8
def tS:eO.ms=[false]:=rfl
def p8(T:TT K mg):Callee P w K mg base "check_way" 2 ["way"] (sp3 K mg eO):=okP (T.d.get 25 rfl) (ao (N:=["way"]) (by decide)) (λ_ _ _ _ _ _=>ar1 λ_=>rfl) λnd _ _ _ _ _ _ _ hr=>'d'
def nu:PSt:=
 (aj (xIf (qOf (pOp bEq (af 1) (ai 0))) (eN "NoFraction" (aa (bH "a fraction has no bottom of 0") ag)) xNx)
  (aj (aw false 2 (ah bK (aa (af 0) (aa (af 1) ag))))
  (aj (xIf (qOf (pOp bLt (af 1) (ai 0))) (aw false 2 (pUn CG (af 2))) xNx)
  (ak (bo (aa (pOp jr (af 0) (af 2)) (aa (pOp jr (af 1) (af 2)) ag)))))))
def bO:PFn:=fnP [false,false] 3 nu
def uO:bO.ms=[false,false]:=rfl
def sV(T:TT K mg):Callee P w K mg base "fraction" 2 ["top", "bottom"] (sp3 K mg bO):=okP (T.d.get 13 rfl) (ao (N:=["top", "bottom", "divisor"]) (by decide)) (λ_ _ _ _ _ _=>ar2 λ_ _=>rfl) λnd _ _ _ _ _ _ _ hr=>'d'
def vk:PSt:=
 (ak (ah bO (aa (pOp a9 (pOp bB (pOp bIx (af 0) (ai 0)) (pOp bIx (af 1) (ai 1))) (pOp bB (pOp bIx (af 1) (ai 0)) (pOp bIx (af 0) (ai 1)))) (aa (pOp bB (pOp bIx (af 0) (ai 1)) (pOp bIx (af 1) (ai 1))) ag))))
def f9:PFn:=fnP [false,false] 2 vk
def Ct:f9.ms=[false,false]:=rfl
def yD(T:TT K mg):Callee P w K mg base "added" 3 ["one", "other"] (sp3 K mg f9):=okP (T.d.get 14 rfl) (ao (N:=["one", "other"]) (by decide)) (λ_ _ _ _ _ _=>ar2 λ_ _=>rfl) λnd _ _ _ _ _ _ _ hr=>'d'
def vy:PSt:=
 (ak (ah bO (aa (pOp bB (pOp bIx (af 0) (ai 0)) (pOp bIx (af 1) (ai 0))) (aa (pOp bB (pOp bIx (af 0) (ai 1)) (pOp bIx (af 1) (ai 1))) ag))))
def fu:PFn:=fnP [false,false] 2 vy
def CK:fu.ms=[false,false]:=rfl
def y0(T:TT K mg):Callee P w K mg base "times" 3 ["one", "other"] (sp3 K mg fu):=okP (T.d.get 15 rfl) (ao (N:=["one", "other"]) (by decide)) (λ_ _ _ _ _ _=>ar2 λ_ _=>rfl) λnd _ _ _ _ _ _ _ hr=>'d'
def iG:PSt:=
 (aj (aw false 7 (ah f9 (aa (af 0) (aa (ah fu (aa (af 1) (aa (ah bO (aa (af 4) (aa (af 3) ag))) ag))) ag))))
  (aj (aK (iN 5 fg (aa (bo (aa (af 7) (aa (ah fu (aa (af 1) (aa (ah bO (aa (af 6) (aa (af 3) ag))) ag))) ag))) ag)))
  (rh 4 sq (af 6))))
def rS:PSt:=
 (aj (aw false 3 (pFn cH (aa (af 2) ag)))
  (aj (aw false 4 (ai 0))
  (aj (aw true 5 (dW ag))
  (aj (eZ (cD (af 2)) (gtN 6) (iG))
  (ak (af 5))))))
def gf:PFn:=fnP [false,false,false] 8 rS
def zD:gf.ms=[false,false,false]:=rfl
def wX(T:TT K mg):Callee P w K mg base "shares" 4 ["start", "length", "weights"] (sp3 K mg gf):=okP (T.d.get 32 rfl) (ao (N:=["start", "length", "weights", "whole", "ahead", "found", "weight", "begin"]) (by decide)) (λ_ _ _ _ _ _=>ar3 λ_ _ _=>rfl) λnd _ _ _ _ _ _ _ hr=>'d'
def rz:PSt:=
 (aj (aK (ah aG (aa (af 0) ag)))
  (aj (aK (ah eO (aa (af 1) ag)))
  (aj (aK (ah aD (aa (af 2) ag)))
  (aj (eX (af 0) (gtX (gtT 4 (ay (gtN 3) (ay (gtN 4) (ay (gtN 5) (ay (gtN 6) bI)))))))
  (aj (xIf (qOf (pOp bEq (af 1) (bH "across"))) (ak (pLC (cD (ah gf (aa (af 3) (aa (af 5) (aa (af 2) ag))))) [none,none,some 4,some 6] (by decide) (gtT 2 (ay (gtN 0) (ay (gtN 1) bI))) qY (bo (aa (af 0) (aa (af 2) (aa (af 1) (aa (af 3) ag))))))) xNx)
  (ak (pLC (cD (ah gf (aa (af 4) (aa (af 6) (aa (af 2) ag))))) [none,none,some 3,some 5] (by decide) (gtT 2 (ay (gtN 0) (ay (gtN 1) bI))) qY (bo (aa (af 2) (aa (af 0) (aa (af 3) (aa (af 1) ag))))))))))))
def d0:PFn:=fnP [false,false,false] 7 rz
def Ak:d0.ms=[false,false,false]:=rfl
def mw(T:TT K mg):Callee P w K mg base "parted" 5 ["box", "way", "weights"] (sp3 K mg d0):=okP (T.d.get 33 rfl) (ao (N:=["box", "way", "weights", "left", "top", "wide", "high"]) (by decide)) (λ_ _ _ _ _ _=>ar3 λ_ _ _=>rfl) λnd _ _ _ _ _ _ _ hr=>(az 'd' (az 'd' (az 'd' (az 'd' (az (qN 'd' (dJ (eQ (g0 ["box", "way", "weights", "left", "top", "wide", "high"] (aq (top 33)).names ["begin", "length", "top", "high"] [none,none,some 4,some 6] 'd' (λnd _ _ _ _ _=>'d') (λ_ _ _ _ _ _=>cq) (λnd _ _ _ _ _=>'d')))) 'd') (dJ (eQ (g0 ["box", "way", "weights", "left", "top", "wide", "high"] (aq (top 33)).names ["begin", "length", "left", "wide"] [none,none,some 3,some 5] 'd' (λnd _ _ _ _ _=>'d') (λ_ _ _ _ _ _=>cq) (λnd _ _ _ _ _=>'d')))))))))
def pC:PSt:=
 (ak (pOp bLt (pOp bB (pOp bIx (af 0) (ai 0)) (pOp bIx (af 1) (ai 1))) (pOp bB (pOp bIx (af 1) (ai 0)) (pOp bIx (af 0) (ai 1)))))
def aZ:PFn:=fnP [false,false] 2 pC
def xx:aZ.ms=[false,false]:=rfl
def uz(T:TT K mg):Callee P w K mg base "is_less" 1 ["one", "other"] (sp3 K mg aZ):=okP (T.d.get 17 rfl) (ao (N:=["one", "other"]) (by decide)) (λ_ _ _ _ _ _=>ar2 λ_ _=>rfl) λnd _ _ _ _ _ _ _ hr=>'d'
def mr:PSt:=
 (aj (aK (ah aG (aa (af 0) ag)))
  (aj (xIf (qOf (ah aZ (aa (pOp bIx (af 0) (ai 2)) (aa (pOp bIx (af 0) (ai 3)) ag)))) (ak (bH "down")) xNx)
  (ak (bH "across"))))
def bN:PFn:=fnP [false] 1 mr
def uI:bN.ms=[false]:=rfl
def tu(T:TT K mg):Callee P w K mg base "long_way" 5 ["box"] (sp3 K mg bN):=okP (T.d.get 30 rfl) (ao (N:=["box"]) (by decide)) (λ_ _ _ _ _ _=>ar1 λ_=>rfl) λnd _ _ _ _ _ _ _ hr=>'d'
def jW:PSt:=
 (ak (ah d0 (aa (af 0) (aa (ah bN (aa (af 0) ag)) (aa (dW (aa (pFn cH (aa (pSl (af 1) oN (oS (af 2))) ag)) (aa (pFn cH (aa (pSl (af 1) (oS (af 2)) oN) ag)) ag))) ag)))))
def cz:PFn:=fnP [false,false,false] 3 jW
def pW:cz.ms=[false,false,false]:=rfl
def nR(T:TT K mg):Callee P w K mg base "cut_in_two" 6 ["room", "weights", "many"] (sp3 K mg cz):=okP (T.d.get 34 rfl) (ao (N:=["room", "weights", "many"]) (by decide)) (λ_ _ _ _ _ _=>ar3 λ_ _ _=>rfl) λnd _ _ _ _ _ _ _ hr=>'d'
def b0(s:PFx [false,false,false,false]):PSt:=
 (aj (xIf (qOf (pOp bEq (pFn aR (aa (af 1) ag)) (ai 1))) (ak (pOp bIx (af 1) (ai 0))) xNx)
  (aj (aw false 4 (mj [("nearest_to_half",bG),("fewest_to_third",bF)] (af 3) (aa (af 2) ag)))
  (aj (eX (ah cz (aa (af 0) (aa (af 2) (aa (af 4) ag)))) (gtX (gtU 2 (ay (gtN 5) (ay (gtN 6) bI)))))
  (aj (aw false 7 (ah s.fn (aa (af 5) (aa (pSl (af 1) oN (oS (af 4))) (aa (pSl (af 2) oN (oS (af 4))) (aa (af 3) ag))))))
  (aj (aw false 8 (ah s.fn (aa (af 6) (aa (pSl (af 1) (oS (af 4)) oN) (aa (pSl (af 2) (oS (af 4)) oN) (aa (af 3) ag))))))
  (ak (bo (aa (ah bN (aa (af 0) ag)) (aa (bo (aa (af 7) (aa (af 8) ag))) ag)))))))))
def aU:Nat->PFx [false,false,false,false]
 |0=>PFx.none [false,false,false,false]
 |n+1=>PFx.of [false,false,false,false] 9 (b0 (aU n))
theorem ff(T:TT K mg):∀n,Callee P w K mg base "tree_in_two" (8+n) ["room", "numbers", "weights", "how_many"] (sp3 K mg (aU n).fn)
 |0=>ok0 (T.d.get 60 rfl) (ao (N:=["room", "numbers", "weights", "how_many", "many", "first", "second", "ahead", "behind"]) (by decide)) (λ_ _ _ _ _ _=>ar4 λ_ _ _ _=>rfl)
 |
  n+1=>by
  have ih:=ff T n;show Callee _ _ _ _ _ _ _ _ (sp3 _ _ (PFx.of [false,false,false,false] 9 (b0 (aU n))).fn);exact okX (k:=8+n) (T.d.get 60 rfl) (ao (N:=["room", "numbers", "weights", "how_many", "many", "first", "second", "ahead", "behind"]) (by decide)) (λ_ _ _ _ _ _=>ar4 λ_ _ _ _=>rfl) λnd _ _ _ _ _ _ _ hr=>(az 'd' (az (zsS 4 nd (Br (wq (fP T) (hr.mono (by omega)) (wq (fQ T) (hr.mono (by omega)) JT)) 'd' (Ek Dx) 'd')) 'd'))
def jT:PSt:=
 (aj (aK (ah aG (aa (af 0) ag)))
  (aj (aK (ah aD (aa (af 1) ag)))
  (ak (ah (aU 42).fn (aa (af 0) (aa (pFn gJ (aa (pFn aR (aa (af 1) ag)) ag)) (aa (af 1) (aa (xA "nearest_to_half") ag))))))))
def bX:PFn:=fnP [false,false] 2 jT
def oG:bX.ms=[false,false]:=rfl
def mM(T:TT K mg):Callee P w K mg base "halves_tree" 51 ["room", "weights"] (sp3 K mg bX):=okP (T.d.get 58 rfl) (ao (N:=["room", "weights"]) (by decide)) (λ_ _ _ _ _ _=>ar2 λ_ _=>rfl) λnd _ _ _ _ _ _ _ hr=>'d'
def lj:PSt:=
 (aj (xIf (qOf (pOp bEq (af 0) (bH "across"))) (ak (bH "down")) xNx)
  (ak (bH "across")))
def dO:PFn:=fnP [false] 1 lj
def ui:dO.ms=[false]:=rfl
def pH(T:TT K mg):Callee P w K mg base "other_way" 1 ["way"] (sp3 K mg dO):=okP (T.d.get 26 rfl) (ao (N:=["way"]) (by decide)) (λ_ _ _ _ _ _=>ar1 λ_=>rfl) λnd _ _ _ _ _ _ _ hr=>'d'
def eg:PSt:=
 (xIf (qOf (ah aZ (aa (af 1) (aa (af 2) ag)))) (aw false 1 (af 2)) xNx)
def jS:PSt:=
 (aj (aw false 1 (pOp bIx (af 0) (ai 0)))
  (aj (eZ (cD (af 0)) (gtN 2) (eg))
  (ak (af 1))))
def du:PFn:=fnP [false] 3 jS
def oP:du.ms=[false]:=rfl
def iE(T:TT K mg):Callee P w K mg base "greatest_of" 2 ["fractions"] (sp3 K mg du):=okP (T.d.get 18 rfl) (ao (N:=["fractions", "found", "one"]) (by decide)) (λ_ _ _ _ _ _=>ar1 λ_=>rfl) λnd _ _ _ _ _ _ _ hr=>'d'
def zm:PSt:=
 (ak (ah bO (aa (pOp bB (pOp bIx (af 0) (ai 0)) (pOp bIx (af 1) (ai 1))) (aa (pOp bB (pOp bIx (af 0) (ai 1)) (pOp bIx (af 1) (ai 0))) ag))))
def iY:PFn:=fnP [false,false] 2 zm
def El:iY.ms=[false,false]:=rfl
def Cd(T:TT K mg):Callee P w K mg base "over" 3 ["one", "other"] (sp3 K mg iY):=okP (T.d.get 16 rfl) (ao (N:=["one", "other"]) (by decide)) (λ_ _ _ _ _ _=>ar2 λ_ _=>rfl) λnd _ _ _ _ _ _ _ hr=>'d'
def vU:PSt:=
 (aj (xIf (qOf (pOp bEq (ah bN (aa (af 0) ag)) (bH "across"))) (ak (ah iY (aa (pOp bIx (af 0) (ai 2)) (aa (pOp bIx (af 0) (ai 3)) ag)))) xNx)
  (ak (ah iY (aa (pOp bIx (af 0) (ai 3)) (aa (pOp bIx (af 0) (ai 2)) ag)))))
def i6:PFn:=fnP [false] 1 vU
def yo(T:TT K mg):Callee P w K mg base "shape" 6 ["box"] (sp3 K mg i6):=okP (T.d.get 31 rfl) (ao (N:=["box"]) (by decide)) (λ_ _ _ _ _ _=>ar1 λ_=>rfl) λnd _ _ _ _ _ _ _ hr=>'d'
def jl:PSt:=
 (aj (aw false 3 (af 0))
  (aj (xIf (qOf (pOp bLt (af 2) (pFn aR (aa (af 1) ag)))) (aw false 3 (pOp bIx (ah cz (aa (af 0) (aa (af 1) (aa (af 2) ag)))) (ai 0))) xNx)
  (aj (aw false 4 (ah d0 (aa (af 3) (aa (ah dO (aa (ah bN (aa (af 0) ag)) ag)) (aa (pSl (af 1) oN (oS (af 2))) ag)))))
  (ak (ah du (aa (pLC (cD (af 4)) [none] (by decide) (gtN 0) qY (ah i6 (aa (af 0) ag))) ag))))))
def cu:PFn:=fnP [false,false,false] 5 jl
def mK:cu.ms=[false,false,false]:=rfl
def lD(T:TT K mg):Callee P w K mg base "worst_of_row" 7 ["room", "weights", "many"] (sp3 K mg cu):=okP (T.d.get 42 rfl) (ao (N:=["room", "weights", "many", "part", "boxes"]) (by decide)) (λ_ _ _ _ _ _=>ar3 λ_ _ _=>rfl) λnd _ _ _ _ _ _ _ hr=>(az 'd' (az 'd' (az 'd' (dJ (eQ (zcF (iE T) hr (bE (g0 ["room", "weights", "many", "part", "boxes"] (aq (top 42)).names ["box"] [none] 'd' (λnd _ _ _ _ _=>'d') (λ_ _ _ _ _ _=>cq) (λnd _ _ _ _ _=>'d')) 'd')))))))
def dG:PSt:=
 (aj (aw false 4 (ah cu (aa (af 0) (aa (af 1) (aa (pOp a9 (af 2) (ai 1)) ag)))))
  (aj (xIf (qOf (ah aZ (aa (af 3) (aa (af 4) ag)))) xBk xNx)
  (aj (aw false 3 (af 4))
  (rh 2 sq (ai 1)))))
def kg:PSt:=
 (aj (aw false 2 (ai 1))
  (aj (aw false 3 (ah cu (aa (af 0) (aa (af 1) (aa (af 2) ag)))))
  (aj (xWh (qOf (pOp bLt (af 2) (pFn aR (aa (af 1) ag)))) (dG))
  (ak (af 2)))))
def dX:PFn:=fnP [false,false] 5 kg
def pQ:dX.ms=[false,false]:=rfl
def oo(T:TT K mg):Callee P w K mg base "row_length" 8 ["room", "weights"] (sp3 K mg dX):=okP (T.d.get 41 rfl) (ao (N:=["room", "weights", "many", "before", "behind"]) (by decide)) (λ_ _ _ _ _ _=>ar2 λ_ _=>rfl) λnd _ _ _ _ _ _ _ hr=>'d'
def jQ:PSt:=
 (aj (xIf (qOf (pOp bEq (pFn aR (aa (af 1) ag)) (ai 1))) (ak (pOp bIx (af 1) (ai 0))) xNx)
  (ak (bo (aa (ah dO (aa (ah bN (aa (af 0) ag)) ag)) (aa (pFn kG (aa (af 1) ag)) ag)))))
def dC:PFn:=fnP [false,false] 2 jQ
def oW:dC.ms=[false,false]:=rfl
def ny(T:TT K mg):Callee P w K mg base "tree_of_row" 6 ["room", "numbers"] (sp3 K mg dC):=okP (T.d.get 40 rfl) (ao (N:=["room", "numbers"]) (by decide)) (λ_ _ _ _ _ _=>ar2 λ_ _=>rfl) λnd _ _ _ _ _ _ _ hr=>'d'
def cx(s:PFx [false,false,false]):PSt:=
 (aj (aw false 3 (ah dX (aa (af 0) (aa (af 2) ag))))
  (aj (aw false 4 (ah dC (aa (af 0) (aa (pSl (af 1) oN (oS (af 3))) ag))))
  (aj (xIf (qOf (pOp bEq (af 3) (pFn aR (aa (af 1) ag)))) (ak (af 4)) xNx)
  (aj (aw false 5 (pOp bIx (ah cz (aa (af 0) (aa (af 2) (aa (af 3) ag)))) (ai 1)))
  (ak (bo (aa (ah bN (aa (af 0) ag)) (aa (bo (aa (af 4) (aa (ah s.fn (aa (af 5) (aa (pSl (af 1) (oS (af 3)) oN) (aa (pSl (af 2) (oS (af 3)) oN) ag)))) ag))) ag))))))))
def aV:Nat->PFx [false,false,false]
 |0=>PFx.none [false,false,false]
 |n+1=>PFx.of [false,false,false] 6 (cx (aV n))
theorem eK(T:TT K mg):∀n,Callee P w K mg base "tree_of_rows" (10+n) ["room", "numbers", "weights"] (sp3 K mg (aV n).fn)
 |0=>ok0 (T.d.get 39 rfl) (ao (N:=["room", "numbers", "weights", "many", "tree", "rest"]) (by decide)) (λ_ _ _ _ _ _=>ar3 λ_ _ _=>rfl)
 |
  n+1=>by
  have ih:=eK T n;show Callee _ _ _ _ _ _ _ _ (sp3 _ _ (PFx.of [false,false,false] 6 (cx (aV n))).fn);exact okX (k:=10+n) (T.d.get 39 rfl) (ao (N:=["room", "numbers", "weights", "many", "tree", "rest"]) (by decide)) (λ_ _ _ _ _ _=>ar3 λ_ _ _=>rfl) λnd _ _ _ _ _ _ _ hr=>'d'
def kY:PSt:=
 (aj (aK (ah aG (aa (af 0) ag)))
  (aj (aK (ah aD (aa (af 1) ag)))
  (ak (ah (aV 42).fn (aa (af 0) (aa (pFn gJ (aa (pFn aR (aa (af 1) ag)) ag)) (aa (af 1) ag)))))))
def cR:PFn:=fnP [false,false] 2 kY
def sM:cR.ms=[false,false]:=rfl
def pO(T:TT K mg):Callee P w K mg base "rows_tree" 53 ["room", "weights"] (sp3 K mg cR):=okP (T.d.get 36 rfl) (ao (N:=["room", "weights"]) (by decide)) (λ_ _ _ _ _ _=>ar2 λ_ _=>rfl) λnd _ _ _ _ _ _ _ hr=>'d'
def de:PSt:=
 (ak (pFn um (aa (pFn aR (aa (af 0) ag)) (aa (af 0) ag))))
def aH:PFn:=fnP [false] 1 de
def i4:aH.ms=[false]:=rfl
def iR(T:TT K mg):Callee P w K mg base "by_falling_weights" 1 ["weights"] (sp3 K mg aH):=okPL (T.d.get 38 rfl) T.l (ao (N:=["weights"]) (by decide)) (λ_ _ _ _ _ _=>ar1 λ_=>rfl) λnd _ _ _ _ _ _ _ _ e2 e3 hr=>(dJ (eQ (Fc rfl hr.depth rfl (T.n rfl) rfl (T.n rfl) rfl rfl rfl e2 e3 'd')))
def iC:PSt:=
 (aj (aK (ah aG (aa (af 0) ag)))
  (aj (aK (ah aD (aa (af 1) ag)))
  (aj (aw false 2 (ah aH (aa (af 1) ag)))
  (ak (ah (aV 42).fn (aa (af 0) (aa (af 2) (aa (pLC (cD (af 2)) [none,some 1] (by decide) (gtN 0) qY (pOp bIx (af 1) (af 0))) ag))))))))
def bu:PFn:=fnP [false,false] 3 iC
def lY:bu.ms=[false,false]:=rfl
def kU(T:TT K mg):Callee P w K mg base "greatest_tree" 53 ["room", "weights"] (sp3 K mg bu):=okP (T.d.get 37 rfl) (ao (N:=["room", "weights", "numbers"]) (by decide)) (λ_ _ _ _ _ _=>ar2 λ_ _=>rfl) λnd _ _ _ _ _ _ _ hr=>(az 'd' (az 'd' (az 'd' (dJ (eQ (zcF (eK T 42) hr (bE 'd' (bE 'd' (bE (g0 ["room", "weights", "numbers"] (aq (top 37)).names ["number", "weights"] [none,some 1] 'd' (λnd _ _ _ _ _=>'d') (λ_ _ _ _ _ _=>cq) (λnd _ _ _ _ _=>'d')) 'd')))))))))
def jU:PSt:=
 (aj (aK (ah aG (aa (af 0) ag)))
  (aj (aK (ah aD (aa (af 1) ag)))
  (aj (aw false 2 (ah aH (aa (af 1) ag)))
  (ak (ah (aU 42).fn (aa (af 0) (aa (af 2) (aa (pLC (cD (af 2)) [none,some 1] (by decide) (gtN 0) qY (pOp bIx (af 1) (af 0))) (aa (xA "fewest_to_third") ag)))))))))
def bY:PFn:=fnP [false,false] 3 jU
def oQ:bY.ms=[false,false]:=rfl
def mB(T:TT K mg):Callee P w K mg base "thirds_tree" 51 ["room", "weights"] (sp3 K mg bY):=okP (T.d.get 59 rfl) (ao (N:=["room", "weights", "numbers"]) (by decide)) (λ_ _ _ _ _ _=>ar2 λ_ _=>rfl) λnd _ _ _ _ _ _ _ hr=>(az 'd' (az 'd' (az 'd' (dJ (eQ (zcF (ff T 42) hr (bE 'd' (bE 'd' (bE (g0 ["room", "weights", "numbers"] (aq (top 59)).names ["number", "weights"] [none,some 1] 'd' (λnd _ _ _ _ _=>'d') (λ_ _ _ _ _ _=>cq) (λnd _ _ _ _ _=>'d')) 'd')))))))))
def jc:PSt:=
 (aj (aK (ah aG (aa (af 1) ag)))
  (aj (aK (ah aD (aa (af 2) ag)))
  (aj (xIf (qOf (pOp bEq (pFn aR (aa (af 2) ag)) (ai 1))) (ak (ai 0)) xNx)
  (ak (bo (aa (af 0) (aa (pFn mS (aa (pFn aR (aa (af 2) ag)) ag)) ag)))))))
def cZ:PFn:=fnP [false,false,false] 3 jc
def nC:cZ.ms=[false,false,false]:=rfl
def lM(T:TT K mg):Callee P w K mg base "side_by_side" 5 ["way", "room", "weights"] (sp3 K mg cZ):=okP (T.d.get 57 rfl) (ao (N:=["way", "room", "weights"]) (by decide)) (λ_ _ _ _ _ _=>ar3 λ_ _ _=>rfl) λnd _ _ _ _ _ _ _ hr=>'d'
def dM:PSt:=
 (aj (aK (ah c7 (aa (af 0) ag)))
  (aj (xIf (qOf (pOp bEq (af 0) (bH "halves"))) (ak (ah bX (aa (af 1) (aa (af 2) ag)))) xNx)
  (aj (xIf (qOf (pOp bEq (af 0) (bH "rows"))) (ak (ah cR (aa (af 1) (aa (af 2) ag)))) xNx)
  (aj (xIf (qOf (pOp bEq (af 0) (bH "greatest"))) (ak (ah bu (aa (af 1) (aa (af 2) ag)))) xNx)
  (aj (xIf (qOf (pOp bEq (af 0) (bH "thirds"))) (ak (ah bY (aa (af 1) (aa (af 2) ag)))) xNx)
  (ak (ah cZ (aa (af 0) (aa (af 1) (aa (af 2) ag))))))))))
def aE:PFn:=fnP [false,false,false] 3 dM
def sX:aE.ms=[false,false,false]:=rfl
def pV(T:TT K mg):Callee P w K mg base "rule_tree" 54 ["rule", "room", "weights"] (sp3 K mg aE):=okP (T.d.get 55 rfl) (ao (N:=["rule", "room", "weights"]) (by decide)) (λ_ _ _ _ _ _=>ar3 λ_ _ _=>rfl) λnd _ _ _ _ _ _ _ hr=>'d'
def iL:PSt:=
 (aj (xIf (qO (qNo (qOf (pFn (aX bz) (aa (af 0) (aa (pTy "tuple") ag))))) (qOf (pOp bNe (pFn aR (aa (af 0) ag)) (ai 2)))) (ak (pBl false)) xNx)
  (ak (hU (ah dZ (aa (pOp bIx (af 0) (ai 0)) ag)) (hU (pFn (aX bz) (aa (pOp bIx (af 0) (ai 1)) (aa (pTy "tuple") ag))) (pOp bGe (pFn aR (aa (pOp bIx (af 0) (ai 1)) ag)) (ai 2))))))
def cS:PFn:=fnP [false] 1 iL
def t9:cS.ms=[false]:=rfl
def pZ(T:TT K mg):Callee P w K mg base "is_branch" 2 ["thing"] (sp3 K mg cS):=okP (T.d.get 44 rfl) (ao (N:=["thing"]) (by decide)) (λ_ _ _ _ _ _=>ar1 λ_=>rfl) λnd _ _ _ _ _ _ _ hr=>'d'
def dm:PSt:=
 (aj (aw false 4 (qG 3 qP))
  (xIf (qOf (ah cS (aa (af 4) ag))) (aK (iN 3 gv (aa (pOp bIx (af 4) (ai 1)) ag))) (xIf (qO (qNo (qOf (ah bP (aa (af 4) ag)))) (qO (qOf (pOp bLt (af 4) (ai 0))) (qO (qOf (pOp bGe (af 4) (af 1))) (qOf (pOp AW (af 4) (af 2)))))) (ak (pBl false)) (aK (Dl 2 (aa (af 4) ag))))))
def o9:PSt:=
 (aj (aw true 2 xI)
  (aj (aw true 3 (dW (aa (af 0) ag)))
  (aj (xWh (qTr (af 3)) (dm))
  (ak (pOp bEq (pFn sC (aa (af 2) ag)) (af 1))))))
def fE:PFn:=fnP [false,false] 5 o9
def xq:fE.ms=[false,false]:=rfl
def uF(T:TT K mg):Callee P w K mg base "is_tree" 3 ["thing", "many"] (sp3 K mg fE):=okP (T.d.get 45 rfl) (ao (N:=["thing", "many", "seen", "waiting", "part"]) (by decide)) (λ_ _ _ _ _ _=>ar2 λ_ _=>rfl) λnd _ _ _ _ _ _ _ hr=>'d'
def c8(s:PFx [false]):PSt:=
 (aj (xIf (qNo (qOf (pFn (aX bz) (aa (af 0) (aa (pTy "tuple") ag))))) (ak (dW (aa (af 0) ag))) xNx)
  (ak (pFn si (aa (pLC (cD (pOp bIx (af 0) (ai 1))) [none] (by decide) (gtN 0) qY (ah s.fn (aa (af 0) ag))) (aa (dW ag) ag)))))
def bS:Nat->PFx [false]
 |0=>PFx.none [false]
 |n+1=>PFx.of [false] 1 (c8 (bS n))
theorem iz(T:TT K mg):∀n,Callee P w K mg base "_law_leaves" (2+n) ["_law_tree"] (sp3 K mg (bS n).fn)
 |0=>ok0 (T.d.get 76 rfl) (ao (N:=["_law_tree"]) (by decide)) (λ_ _ _ _ _ _=>ar1 λ_=>rfl)
 |
  n+1=>by
  have ih:=iz T n;show Callee _ _ _ _ _ _ _ _ (sp3 _ _ (PFx.of [false] 1 (c8 (bS n))).fn);exact okX (k:=2+n) (T.d.get 76 rfl) (ao (N:=["_law_tree"]) (by decide)) (λ_ _ _ _ _ _=>ar1 λ_=>rfl) λnd _ _ _ _ _ _ _ hr=>(az 'd' (dJ (eQ (ia (xt rfl) Fq rfl (T.n rfl) (by first |exact boF rfl |exact boT rfl) (bE (g0 ["_law_tree"] (aq (top 76)).names ["_law_one"] [none] 'd' (λnd _ _ _ _ _=>'d') (λ_ _ _ _ _ _=>cq) (λnd _ _ _ _ _=>'d')) 'd')))))
def j7:PSt:=
 (xIf (qNo (qOf (ah fE (aa (af 0) (aa (af 1) ag))))) (eN "NoTree" (aa (bH "this is no tree for the things") ag)) xNx)
def d5:PFn:=fnP [false,false] 2 j7
def pX:d5.ms=[false,false]:=rfl
def nY(T:TT K mg):Callee P w K mg base "check_tree" 4 ["thing", "many"] (sp3 K mg d5):=okP (T.d.get 46 rfl) (ao (N:=["thing", "many"]) (by decide)) (λ_ _ _ _ _ _=>ar2 λ_ _=>rfl) λnd _ _ _ _ _ _ _ hr=>'d'
def cB:PSt:=
 (aj (aw false 3 (qG 2 qP))
  (xIf (qOf (pFn (aX bz) (aa (af 3) (aa (pTy "tuple") ag)))) (aK (iN 2 gv (aa (pOp bIx (af 3) (ai 1)) ag))) (aK (iN 1 fg (aa (af 3) ag)))))
def lA:PSt:=
 (aj (aw true 1 (dW ag))
  (aj (aw true 2 (dW (aa (af 0) ag)))
  (aj (xWh (qTr (af 2)) (cB))
  (ak (af 1)))))
def dN:PFn:=fnP [false] 4 lA
def rZ:dN.ms=[false]:=rfl
def pI(T:TT K mg):Callee P w K mg base "things_in" 1 ["tree"] (sp3 K mg dN):=okP (T.d.get 47 rfl) (ao (N:=["tree", "found", "waiting", "part"]) (by decide)) (λ_ _ _ _ _ _=>ar1 λ_=>rfl) λnd _ _ _ _ _ _ _ hr=>'d'
def mz:PSt:=
 (aj (eX (af 2) (gtX (gtT 2 (ay (gtN 3) (ay (gtN 4) bI)))))
  (ak (ah d0 (aa (af 0) (aa (af 3) (aa (pLC (cD (af 4)) [none,some 1] (by decide) (gtN 0) qY (pFn cH (aa (pLC (cD (ah dN (aa (af 0) ag))) [none,some 1] (by decide) (gtN 0) qY (pOp bIx (af 1) (af 0))) ag))) ag))))))
def fH:PFn:=fnP [false,false,false] 5 mz
def uN:fH.ms=[false,false,false]:=rfl
def rD(T:TT K mg):Callee P w K mg base "parts_of" 6 ["room", "weights", "tree"] (sp3 K mg fH):=okP (T.d.get 50 rfl) (ao (N:=["room", "weights", "tree", "way", "trees"]) (by decide)) (λ_ _ _ _ _ _=>ar3 λ_ _ _=>rfl) λnd _ _ _ _ _ _ _ hr=>(az 'd' (dJ (eQ (zcF (mw T) hr (bE 'd' (bE 'd' (bE (g0 ["room", "weights", "tree", "way", "trees"] (aq (top 50)).names ["part", "weights"] [none,some 1] 'd' (λnd _ _ _ _ _=>'d') (λ_ _ _ _ _ _=>cq) (λnd _ _ _ _ _=>(ia (pq (K:=K) rfl rfl) zQ rfl (T.n rfl) (by first |exact boF rfl |exact boT rfl) (bE (g0 ["part", "weights"] [(PySem.Str.ofString ".0",PySem.NameKind.local),(PySem.Str.ofString "part",PySem.NameKind.local),(PySem.Str.ofString "sum",PySem.NameKind.globalImplicit),(PySem.Str.ofString "things_in",PySem.NameKind.globalImplicit),(PySem.Str.ofString "weights",PySem.NameKind.cell)] ["thing", "weights"] [none,some 1] 'd' (λnd _ _ _ _ _=>'d') (λ_ _ _ _ _ _=>cq) (λnd _ _ _ _ _=>'d')) 'd')))) 'd')))))))
def jJ(s:PFx [false,false,false,true]):PSt:=
 (aK (ah s.fn (aa (af 5) (aa (af 1) (aa (af 4) (aa (af 3) ag))))))
def gS(s:PFx [false,false,false,true]):PSt:=
 (aj (xIf (qNo (qOf (pFn (aX bz) (aa (af 2) (aa (pTy "tuple") ag))))) (aj (oq 3 seI (af 2) (af 0))
  xB) xNx)
  (eZ (xC (aa (pOp bIx (af 2) (ai 1)) (aa (ah fH (aa (af 0) (aa (af 1) (aa (af 2) ag)))) ag))) (gtX (gtT 2 (ay (gtN 4) (ay (gtN 5) bI)))) (jJ s)))
def dP:Nat->PFx [false,false,false,true]
 |0=>PFx.none [false,false,false,true]
 |n+1=>PFx.of [false,false,false,true] 6 (gS (dP n))
theorem m5(T:TT K mg):∀n,Callee P w K mg base "place" (8+n) ["room", "weights", "tree", "placed"] (sp3 K mg (dP n).fn)
 |0=>ok0 (T.d.get 49 rfl) (ao (N:=["room", "weights", "tree", "placed", "part", "box"]) (by decide)) (λ_ _ _ _ _ _=>ar4 λ_ _ _ _=>rfl)
 |
  n+1=>by
  have ih:=m5 T n;show Callee _ _ _ _ _ _ _ _ (sp3 _ _ (PFx.of [false,false,false,true] 6 (gS (dP n))).fn);exact okX (k:=8+n) (T.d.get 49 rfl) (ao (N:=["room", "weights", "tree", "placed", "part", "box"]) (by decide)) (λ_ _ _ _ _ _=>ar4 λ_ _ _ _=>rfl) λnd _ _ _ _ _ _ _ hr=>'d'
def mY:PSt:=
 (aj (aK (ah aG (aa (af 0) ag)))
  (aj (aK (ah aD (aa (af 1) ag)))
  (aj (aK (ah d5 (aa (af 2) (aa (pFn aR (aa (af 1) ag)) ag))))
  (aj (aw true 3 pD0)
  (aj (aK (ah (dP 42).fn (aa (af 0) (aa (af 1) (aa (af 2) (aa (af 3) ag))))))
  (ak (pLC (jB (aa (pFn aR (aa (af 1) ag)) ag)) [none,some 3] (by decide) (gtN 0) qY (pOp wK (af 1) (af 0)))))))))
def df:PFn:=fnP [false,false,false] 4 mY
def uE:df.ms=[false,false,false]:=rfl
def r9(T:TT K mg):Callee P w K mg base "boxes_by" 51 ["room", "weights", "tree"] (sp3 K mg df):=okP (T.d.get 48 rfl) (ao (N:=["room", "weights", "tree", "placed"]) (by decide)) (λ_ _ _ _ _ _=>ar3 λ_ _ _=>rfl) λnd _ _ _ _ _ _ _ hr=>(az 'd' (az 'd' (az 'd' (az 'd' (az 'd' (dJ (eQ (g0 ["room", "weights", "tree", "placed"] (aq (top 48)).names ["number", "placed"] [none,some 3] 'd' (λnd _ _ _ _ _=>'d') (λ_ _ _ _ _ _=>cq) (λnd _ _ _ _ _=>'d')))))))))
def ph:PSt:=
 (ak (ah df (aa (af 1) (aa (af 2) (aa (ah aE (aa (af 0) (aa (af 1) (aa (af 2) ag)))) ag)))))
def fG:PFn:=fnP [false,false,false] 3 ph
def xZ:fG.ms=[false,false,false]:=rfl
def uJ(T:TT K mg):Callee P w K mg base "by_rule" 55 ["rule", "room", "weights"] (sp3 K mg fG):=okP (T.d.get 56 rfl) (ao (N:=["rule", "room", "weights"]) (by decide)) (λ_ _ _ _ _ _=>ar3 λ_ _ _=>rfl) λnd _ _ _ _ _ _ _ hr=>'d'
def zA:PSt:=
 (aj (aK (ah aG (aa (af 0) ag)))
  (ak (ah fu (aa (pOp bIx (af 0) (ai 2)) (aa (pOp bIx (af 0) (ai 3)) ag)))))
def ja:PFn:=fnP [false] 1 zA
def En:ja.ms=[false]:=rfl
def A0(T:TT K mg):Callee P w K mg base "area" 5 ["box"] (sp3 K mg ja):=okP (T.d.get 29 rfl) (ao (N:=["box"]) (by decide)) (λ_ _ _ _ _ _=>ar1 λ_=>rfl) λnd _ _ _ _ _ _ _ hr=>'d'
def v9:PSt:=
 (aj (eX (af 0) (gtX (gtT 4 (ay (gtN 1) (ay (gtN 2) (ay (gtN 3) (ay (gtN 4) bI)))))))
  (ak (bo (aa (af 1) (aa (ah f9 (aa (af 1) (aa (af 3) ag))) (aa (af 2) (aa (ah f9 (aa (af 2) (aa (af 4) ag))) ag)))))))
def fD:PFn:=fnP [false] 5 v9
def BL:fD.ms=[false]:=rfl
def yV(T:TT K mg):Callee P w K mg base "walls" 4 ["box"] (sp3 K mg fD):=okP (T.d.get 65 rfl) (ao (N:=["box", "left", "top", "wide", "high"]) (by decide)) (λ_ _ _ _ _ _=>ar1 λ_=>rfl) λnd _ _ _ _ _ _ _ hr=>'d'
def jR:PSt:=
 (aj (eX (ah fD (aa (af 1) ag)) (gtX (gtT 4 (ay (gtN 2) (ay (gtN 3) (ay (gtN 4) (ay (gtN 5) bI)))))))
  (aj (eX (ah fD (aa (af 0) ag)) (gtX (gtT 4 (ay (gtN 6) (ay (gtN 7) (ay (gtN 8) (ay (gtN 9) bI)))))))
  (aj (xIf (qO (qOf (ah aZ (aa (af 2) (aa (af 6) ag)))) (qOf (ah aZ (aa (af 7) (aa (af 3) ag))))) (ak (pBl false)) xNx)
  (ak (hU (ud (ah aZ (aa (af 4) (aa (af 8) ag)))) (ud (ah aZ (aa (af 9) (aa (af 5) ag)))))))))
def dB:PFn:=fnP [false,false] 10 jR
def oB:dB.ms=[false,false]:=rfl
def mP(T:TT K mg):Callee P w K mg base "lies_within" 5 ["room", "box"] (sp3 K mg dB):=okP (T.d.get 66 rfl) (ao (N:=["room", "box", "left", "right", "top", "bottom", "begin", "end", "upper", "lower"]) (by decide)) (λ_ _ _ _ _ _=>ar2 λ_ _=>rfl) λnd _ _ _ _ _ _ _ hr=>'d'
def eD:PSt:=
 (aj (eX (af 0) (gtX (gtT 4 (ay (gtN 2) (ay (gtN 3) (ay (gtN 4) (ay (gtN 5) bI)))))))
  (aj (eX (af 1) (gtX (gtT 4 (ay (gtN 6) (ay (gtN 7) (ay (gtN 8) (ay (gtN 9) bI)))))))
  (aj (xIf (qO (qNo (qOf (ah aZ (aa (af 2) (aa (af 7) ag))))) (qNo (qOf (ah aZ (aa (af 6) (aa (af 3) ag)))))) (ak (pBl false)) xNx)
  (ak (hU (ah aZ (aa (af 4) (aa (af 9) ag))) (ah aZ (aa (af 8) (aa (af 5) ag))))))))
def bc:PFn:=fnP [false,false] 10 eD
def gY:bc.ms=[false,false]:=rfl
def gK(T:TT K mg):Callee P w K mg base "share_more_than_walls" 2 ["one", "other"] (sp3 K mg bc):=okP (T.d.get 67 rfl) (ao (N:=["one", "other", "left", "right", "top", "bottom", "begin", "end", "upper", "lower"]) (by decide)) (λ_ _ _ _ _ _=>ar2 λ_ _=>rfl) λnd _ _ _ _ _ _ _ hr=>'d'
def eV:PSt:=
 (xIf (qOf (ah bc (aa (pOp bIx (af 1) (af 4)) (aa (af 3) ag)))) (ak (bo (aa (bH "over") (aa (af 4) (aa (af 2) ag))))) xNx)
def eR:PSt:=
 (eZ (jB (aa (af 2) ag)) (gtN 4) (eV))
def kr:PSt:=
 (aj (aw false 1 (pLC (cD (af 0)) [none] (by decide) (gtN 0) qY (ah fD (aa (af 0) ag))))
  (aj (eZ (kI (aa (af 1) ag)) (gtX (gtT 2 (ay (gtN 2) (ay (gtN 3) bI)))) (eR))
  (ak yi)))
def d7:PFn:=fnP [false] 5 kr
def pL:d7.ms=[false]:=rfl
def oA(T:TT K mg):Callee P w K mg base "first_over" 5 ["boxes"] (sp3 K mg d7):=okP (T.d.get 68 rfl) (ao (N:=["boxes", "drawn", "at", "later", "ahead"]) (by decide)) (λ_ _ _ _ _ _=>ar1 λ_=>rfl) λnd _ _ _ _ _ _ _ hr=>(az (zSlc nd ["boxes", "drawn", "at", "later", "ahead"] (aq (top 68)).names ["box"] [none] 'd' (λnd _ _ _ _ _=>'d') (λ_ _ _ _ _ _=>cq) (λnd _ _ _ _ _=>'d')) 'd')
def lI:PSt:=
 (xIf (qNo (qOf (ah fZ (aa (af 4) ag)))) (ak (bo (aa (bH "box") (aa (af 3) ag)))) xNx)
def lB:PSt:=
 (xIf (qOf (pOp bNe (ah ja (aa (af 4) ag)) (ah fu (aa (ah ja (aa (af 0) ag)) (aa (ah bO (aa (pOp bIx (af 1) (af 3)) (aa (pFn cH (aa (af 1) ag)) ag))) ag))))) (ak (bo (aa (bH "area") (aa (af 3) ag)))) xNx)
def mf:PSt:=
 (xIf (qNo (qOf (ah dB (aa (af 0) (aa (af 4) ag))))) (ak (bo (aa (bH "out") (aa (af 3) ag)))) xNx)
def vQ:PSt:=
 (aj (aK (ah aG (aa (af 0) ag)))
  (aj (aK (ah aD (aa (af 1) ag)))
  (aj (xIf (qOf (pOp bNe (pFn aR (aa (af 2) ag)) (pFn aR (aa (af 1) ag)))) (ak (bo (aa (bH "count") ag))) xNx)
  (aj (eZ (kI (aa (af 2) ag)) (gtX (gtT 2 (ay (gtN 3) (ay (gtN 4) bI)))) (lI))
  (aj (eZ (kI (aa (af 2) ag)) (gtX (gtT 2 (ay (gtN 3) (ay (gtN 4) bI)))) (lB))
  (aj (eZ (kI (aa (af 2) ag)) (gtX (gtT 2 (ay (gtN 3) (ay (gtN 4) bI)))) (mf))
  (ak (ah d7 (aa (af 2) ag)))))))))
def gT:PFn:=fnP [false,false,false] 5 vQ
def Bj:gT.ms=[false,false,false]:=rfl
def AK(T:TT K mg):Callee P w K mg base "fault" 6 ["room", "weights", "boxes"] (sp3 K mg gT):=okP (T.d.get 64 rfl) (ao (N:=["room", "weights", "boxes", "at", "box"]) (by decide)) (λ_ _ _ _ _ _=>ar3 λ_ _ _=>rfl) λnd _ _ _ _ _ _ _ hr=>'d'
def eT(s:PFx [false]):PSt:=
 (aj (aw false 5 (ah s.fn (aa (af 4) ag)))
  (xIf (qAn (qOf (pFn (aX bz) (aa (af 5) (aa (pTy "tuple") ag)))) (qOf (pOp bEq (pOp bIx (af 5) (ai 0)) (af 1)))) (aK (iN 3 gv (aa (pOp bIx (af 5) (ai 1)) ag))) (aK (iN 3 fg (aa (af 5) ag)))))
def c9(s:PFx [false]):PSt:=
 (aj (xIf (qNo (qOf (pFn (aX bz) (aa (af 0) (aa (pTy "tuple") ag))))) (ak (af 0)) xNx)
  (aj (eX (af 0) (gtX (gtT 2 (ay (gtN 1) (ay (gtN 2) bI)))))
  (aj (aw true 3 (dW ag))
  (aj (eZ (cD (af 2)) (gtN 4) (eT s))
  (ak (bo (aa (af 1) (aa (pFn kG (aa (af 3) ag)) ag))))))))
def bp:Nat->PFx [false]
 |0=>PFx.none [false]
 |n+1=>PFx.of [false] 6 (c9 (bp n))
theorem iF(T:TT K mg):∀n,Callee P w K mg base "plain_form" (2+n) ["tree"] (sp3 K mg (bp n).fn)
 |0=>ok0 (T.d.get 51 rfl) (ao (N:=["tree", "way", "trees", "plain", "part", "inner"]) (by decide)) (λ_ _ _ _ _ _=>ar1 λ_=>rfl)
 |
  n+1=>by
  have ih:=iF T n;show Callee _ _ _ _ _ _ _ _ (sp3 _ _ (PFx.of [false] 6 (c9 (bp n))).fn);exact okX (k:=2+n) (T.d.get 51 rfl) (ao (N:=["tree", "way", "trees", "plain", "part", "inner"]) (by decide)) (λ_ _ _ _ _ _=>ar1 λ_=>rfl) λnd _ _ _ _ _ _ _ hr=>'d'
def mH:PSt:=
 (aj (aw false 6 (ah aE (aa (af 5) (aa (af 2) (aa (af 3) ag)))))
  (aj (xIf (qO (qOf (pOp B8 (ah fE (aa (af 6) (aa (pFn aR (aa (af 3) ag)) ag))) (pBl true))) (qOf (pOp bNe (ah aE (aa (af 5) (aa (af 2) (aa (pFn rJ (aa (af 3) ag)) ag)))) (af 6)))) (ak (pBl false)) xNx)
  (aj (xIf (qAn (qOf (pOp qU (af 5) (bo (aa (bH "greatest") (aa (bH "thirds") ag))))) (qOf (pOp bNe (ah (bS 42).fn (aa (af 6) ag)) (pFn gJ (aa (pFn aR (aa (af 3) ag)) ag))))) (ak (pBl false)) xNx)
  (aj (aw false 7 (ah fG (aa (af 5) (aa (af 2) (aa (af 3) ag)))))
  (xIf (qO (qOf (pOp BP (ah gT (aa (af 2) (aa (af 3) (aa (af 7) ag)))) yi)) (qOf (pOp bNe (ah df (aa (af 2) (aa (af 3) (aa (ah (bp 42).fn (aa (af 6) ag)) ag)))) (af 7)))) (ak (pBl false)) xNx)))))
def nB:PSt:=
 (aj (eZ (cD lU) (gtN 5) (mH))
  (aj (oq 3 seL (ai 0) (pOp a9 (ai 1) (pOp bU (pOp bIx (af 3) (pOp eG (pFn aR (aa (af 3) ag)) (ai 1))) (pOp f6 (ai 10) (ai 6)))))
  (xIf (qOf (pOp bLt (pFn aR (aa (af 3) ag)) (ai 40))) (aK (iN 3 fg (aa (pOp a9 (ai 1) (pFn aR (aa (af 3) ag))) ag))) xNx)))
def xM:PSt:=
 (aj (aw true 1 (ah dk (aa (af 0) (aa (ai 55) ag))))
  (aj (aw false 2 (ah fI (aa (af 1) ag)))
  (aj (aw true 3 (ah dE (aa (af 0) (aa (ai 0) (aa (pOp bIx (dW (aa (ai 9) (aa (ai 40) ag))) (pFn qK (aa (pOp bEq (ah au (aa (af 1) (aa (ai 6) ag))) (ai 0)) ag))) ag)))))
  (aj (eZ (jB (aa (ai 2) ag)) (gtN 4) (nB))
  (ak (pBl true))))))
def qR:PFn:=fnP [false] 8 xM
def EU(T:TT K mg):Callee P w K mg base "law" 56 ["_law_script"] (sp3 K mg qR):=okP (T.d.get 77 rfl) (ao (N:=["_law_script", "_law_feed_here", "_law_room_here", "_law_weights_here", "_law_turn", "_law_rule", "_law_tree", "_law_boxes"]) (by decide)) (λ_ _ _ _ _ _=>ar1 λ_=>rfl) λnd _ _ _ _ _ _ _ hr=>'d'
end
noncomputable def fdV (a b k:Int):Val:=.lst [.int a,.int b,.int k]
def Eh:f6.G (.int 10) (.int 18)=.val (.int (10^18)):=qz ⟨by decide,by decide,by decide⟩
def dY{a m:Int}(h:0<m):0<=a.fmod m/\a.fmod m<m:=⟨Int.fmod_nonneg_of_pos a h,Int.fmod_lt_of_pos a h⟩
set_option hygiene false in
local macro_rules | `(tactic|simp![$args,*])=>do
 let l <- ("% kP Mk ML L6 MB Jd qI K4 M6 Di xa Kq IA Hu HS HZ JY IS Hr ER BW HN GL zN F2 Ke LW LH v_bl MQ K2 v_ty Lq v_un v_op Na Iu v_fn KP M7 Mm L9 c_of c_tr c_an c_o c_no x_nx x_bk GJ Mb Gs E7 FG GP Ef x_if Md Ml Mz Gm CJ BS g_n g_sn g_sc g_t g_x JS LY L8 KO E2 LP Me M4 M5 Lk Gy GH MX Kl Cj JW Mn MF K7 Ir GY Hv GX LX LC KN gO v_lc GB Ju HU o_n o_s v_sl v_d0 MU fx_G Nj KC k_lt k_gt k_ge Mq M9 k_ix Jp Ie Mx k_eq k_ne DZ LD Nk MJ Ln Nc Ll MH G5 FA HY Bf cm List.getElem?_cons_zero List.getElem?_cons_succ List.set_cons_zero List.set_cons_succ List.length_cons List.length_nil List.length_set Option.bind_some Option.map_some Option.isSome_some if_true if_false Bool.not_true Bool.not_false Bool.and_true Bool.true_and Bool.and_false Bool.false_and Bool.or_true Bool.true_or Bool.or_false Nat.reduceLeDiff Nat.reduceLT Nat.reduceAdd Nat.reduceSub Nat.zero_add Nat.add_zero Nat.sub_self List.cons_append List.nil_append List.append_nil List.replicate reduceCtorEq decide_true decide_false Bool.false_eq_true List.all_cons List.all_nil List.isEmpty_nil List.isEmpty_cons List.map_cons List.map_nil Int.reduceBEq Int.reduceLT Int.reduceAdd Int.reduceSub Int.reduceMul Int.cast_ofNat_Int Jn FO GV Kn Ji F8 Co Ko B5 Hc AI Eo Ey GK Fv yk FR Ia B6 Kh EV IM Dk Hy ID FX KQ MY Mh K9 Ad yS ym nJ eP AG CS zU yu ka ati0 ati1 ati2 ati3 ixn0 ixn1 xg bL Gz EN FW List.lookup_cons List.lookup_nil g_uL uA uH yf tF uB oR pR uw kX oE yp tL tN l6 jX ki Ah tS uO Ct CK zD Ak xx uI pW oG ui oP El mK pQ oW sM i4 lY oQ nC sX t9 xq pX rZ uN uE xZ En BL oB gY pL Bj nz CP EM".splitOn " ").tail.mapM λs=>`(Lean.Parser.Tactic.simpLemma| $(Lean.mkIdent s.toName):term)
 `(tactic|simp only[$(l.toArray),*,$args,*])
def aF{a b k m:Int}(h0:0<m)(hm:Sm 8000 m):∃r a' b',au.G [fdV a b k,.int m]=.ok (.val (.int r)) [fdV a' b' k]/\0<=r/\r<m:=by
 unfold au;rw[aB];unfold nI fdV;have m0:m≠0:=by omega
 have d1:=λi=>eU (i:=i) m0;have d2:=λi=>kR (i:=i) (CDivB.of m0 hm);have ca:∀x:Int,CMulA 7919 x:=λx=>CMulA.left (by decide) (by decide);have cb:∀x:Int,CMulA 104729 x:=λx=>CMulA.left (by decide) (by decide);have cc:∀x:Int,CMulA x 48271:=λx=>CMulA.right (by decide) (by decide);have e1:bU.G (.int a) (.int 1000003)=.val (.int (a.fmod 1000003)):=eU (by decide);have e2:bB.G (.int 7919) (.int k)=.val (.int (7919*k)):=cC (ca k);have e3:=λx=>cC (cb x);have e4:=λx=>cC (cc x);have e5:∀x:Int,bU.G (.int x) (.int 2147483647)=.val (.int (x.fmod 2147483647)):=λx=>eU (by decide);have e6:∀x:Int,bU.G (.int x) (.int 65521)=.val (.int (x.fmod 65521)):=λx=>eU (by decide);have e7:∀x y:Int,bB.G (.int (x.fmod 2147483647)) (.int y)=.val (.int (x.fmod 2147483647*y)):=λx y=>cC (CMulA.left (by have:=(dY (a:=x) (m:=2147483647) (by decide)).1;omega) (by have:=(dY (a:=x) (m:=2147483647) (by decide)).2;omega));have e8:∀x:Int,bU.G (.int x) (.int 2147483629)=.val (.int (x.fmod 2147483629)):=λx=>eU (by decide);by_cases hc:(10^18:Int)<=a
 .have hc':decide ((10^18:Int)<=a)=true:=I_ hc;refine⟨a.fmod m,a.fdiv m,b+1,?_,dY h0⟩;simp![Eh,hc',d1,d2]
  done
 .have hc':decide ((10^18:Int)<=a)=false:=C_ hc;refine⟨Int.fmod (Int.fmod (Int.fmod ((Int.fmod a 1000003+7919*k+104729*(b+1))*48271) 2147483647*(Int.fmod (Int.fmod ((Int.fmod a 1000003+7919*k+104729*(b+1))*48271) 2147483647) 65521+(b+1))) 2147483629) m,a,b+1,?_,dY h0⟩;simp![Eh,hc',d1,e1,e2,e3,e4,e5,e6,e7,e8]
def kK(xs:List Val):(aX bz).G [.tup xs,.ty "tuple"]=.val (.bl true):=rfl
def yU(w:Bool):dZ.G [.str (wy w)]=.ok (.val (.bl true)) []:=by
 have i1:∀x:Str,(aX bz).G [.str x,.ty "str"]=.val (.bl true):=λ_=>rfl;have i2:bIn.G (.str (wy w)) (.tup [.str "across",.str "down"])=.val (.bl true):=by cases w <;> rfl
 unfold dZ;rw[aB];unfold lL;simp![i1,i2]
def Av{w:Bool}{ts:List Val}(h:2<=ts.length):cS.G [.tup [.str (wy w),.tup ts]]=.ok (.val (.bl true)) []:=by have e:=yU w;have i1:∀xs:List Val,(aX bz).G [.tup xs,.ty "tuple"]=.val (.bl true):=λ_=>rfl;have g:decide ((2:Int)<=(ts.length:Nat))=true:=I_ (by omega);unfold cS;rw[aB];unfold iL;simp![i1,e,nD,g]
def yz{a:Val}(h:lfV a=true):cS.G [a]=.ok (.val (.bl false)) []:=by
 have i1:(aX bz).G [a,.ty "tuple"]=.val (.bl false):=by cases a <;> first |rfl |(cases h;done)
 unfold cS;rw[aB];unfold iL;simp![i1]
def yW(k:Nat):bP.G [.int (k:Nat)]=.ok (.val (.bl true)) []:=by have i1:(aX bz).G [.int (k:Nat),.ty "int"]=.val (.bl true):=rfl;have i2:(aX bz).G [.int (k:Nat),.ty "bool"]=.val (.bl false):=rfl;unfold bP;rw[aB];unfold jH;simp![i1,i2]
theorem j5{n:Nat}(v:Val):∀(N:Nat) (st:List AT) (xs:List Int) (s4:Sl),AT.cntL st<=N->s4.pl=true->(∀t∈st,t.ok=true)->(∀k∈AT.lvsL st,k<n)->(AT.lvsL st).Nodup->(∀k∈AT.lvsL st,((k:Nat):Int)∉xs)->xs.length+(AT.lvsL st).length<=3000->AT.cntL st<=100000->
 ∃(ys:List Int) (s4':Sl),ys.length=xs.length+(AT.lvsL st).length/\(xWh (qTr (af 3)) dm).G [.sh v,.sh (.int (n:Nat)),.ow (.set xs),.ow (.lst (st.map atV)),s4]=.nx [.sh v,.sh (.int (n:Nat)),.ow (.set ys),.ow (.lst []),s4']
 |
  N,[],xs,s4,_,_,_,_,_,_,_,_=>⟨xs,s4,by simp [AT.lvsL],by
  rw[gA];simp![Nt,nS,List.isEmpty_nil]⟩
 |
  0,t::ts,xs,s4,h,_,_,_,_,_,_,_=>by
  rw[AT.cntL] at h;cases t <;> (rw[AT.cnt] at h;omega)
 |
  N+1,t0::ts0,xs,s4,hN,h4,ho,hn,nd,hx,hl,hc=>by
  obtain⟨st,t,hst⟩:∃st t,t0::ts0=st++[t]:=⟨(t0::ts0).dropLast,(t0::ts0).getLast (by simp),(List.dropLast_concat_getLast (by simp)).symm⟩;rw[hst] at hN ho hn nd hx hl hc ⊢;rw[AT.lvsL_app] at hn nd hx hl;rw[AT.lvsL_app];rw[AT.cntL_app] at hN hc;have hn0:((st++[t]).map atV).isEmpty=false:=by cases st <;> rfl
  have c1:(qTr (af 3)).G [.sh v,.sh (.int (n:Nat)),.ow (.set xs),.ow (.lst ((st++[t]).map atV)),s4]=.ok true [.sh v,.sh (.int (n:Nat)),.ow (.set xs),.ow (.lst ((st++[t]).map atV)),s4]:=by simp![nS,hn0,Bool.not_false]
  have hto:=ho t (by simp);rw[gA,c1];show ∃ys s4',_/\((dm.G _).loop _)=_;rw[NQ,x_,Nt];cases t with
  |
   lf k=>
   simp only[AT.lvsL,AT.lvs,Ny,H_,E_,Nr,AT.cntL,AT.cnt] at hn nd hx hl hN hc ⊢;have hk:=hn k (by simp);have hkx:=hx k (by simp);have nda:=List.nodup_append.mp nd;obtain⟨ys,s4',q1,q2⟩:=j5 (n:=n) v N st (gh xs (k:Nat)) (.sh (.int (k:Nat))) (by omega) rfl (λt ht=>ho t (by simp [ht])) (λj hj=>hn j (by simp [hj])) nda.1 (λj hj z=>by
    unfold gh at z;rw[if_neg hkx] at z;rcases J_.mp z with z |z
    .exact nda.2.2 j hj k (by simp) (Int.ofNat.inj z)
    .exact hx j (by simp [hj]) z) (by unfold gh;rw[if_neg hkx,E_];omega) (by omega)
   refine⟨ys,s4',by rw[q1];unfold gh;rw[if_neg hkx,E_];omega,?_⟩;have b1:=yz (a:=.int (k:Nat)) rfl;have w1:=yW k;have l0:decide (((k:Nat):Int)<0)=false:=C_ (by omega);have l1:decide (((n:Nat):Int)<=(k:Nat))=false:=C_ (by omega);have in1:decide (((k:Nat):Int)∈xs)=false:=C_ hkx;have av:atV (.lf k)=.int (k:Nat):=rfl;have xl:xs.length<4000:=by omega
   have bb:dm.G [.sh v,.sh (.int (n:Nat)),.ow (.set xs),.ow (.lst (st.map atV++[atV (.lf k)])),s4]=.nx [.sh v,.sh (.int (n:Nat)),.ow (.set (gh xs (k:Nat))),.ow (.lst (st.map atV)),.sh (.int (k:Nat))]:=by unfold dm;rw[av];simp![nF,h4,b1,w1,l0,l1,MZ,in1,HV,sF,BD,xl]
   rw[bb];exact q2
  |
   nd w ts=>
   have ho':=hto;rw[AT.ok,u_] at hto;have h2:2<=ts.length:=N9 hto.1;have hk:=AT.okL_mem.mp hto.2;simp only[AT.lvsL,AT.lvs,Ny,AT.cntL,AT.cnt] at hn nd hx hl hN hc ⊢;obtain⟨ys,s4',q1,q2⟩:=j5 (n:=n) v N (st++ts) xs (.sh (atV (.nd w ts))) (by rw[AT.cntL_app];omega) rfl (λt ht=>by
    rcases OB.mp ht with ht |ht
    .exact ho t (by simp [ht])
    .exact hk t ht) (by rw[AT.lvsL_app];exact hn) (by rw[AT.lvsL_app];exact nd) (by rw[AT.lvsL_app];exact hx) (by rw[AT.lvsL_app];exact hl) (by rw[AT.cntL_app];omega)
   rw[AT.lvsL_app] at q1;refine⟨ys,s4',q1,?_⟩;have av:atV (.nd w ts)=.tup [.str (wy w),.tup (ts.map atV)]:=by unfold atV;rw[AT.val,AT.vals_map]
   have b1:=Av (w:=w) (ts:=ts.map atV) (by rw[p_];exact h2);have le:∀l:List AT,l.length<=AT.cntL l:=by
    intro l;induction l with
    |nil=>exact t_ _
    |cons t l ih=>rw[AT.cntL,E_];cases t <;> (rw[AT.cnt];omega)
   have ll:(st.map atV).length+(ts.map atV).length<=16777216:=by
    have:=le st
    have:=le ts
    rw[p_,p_];omega
   rw[av] at q2 ⊢;rw[NQ] at q2;have bb:dm.G [.sh v,.sh (.int (n:Nat)),.ow (.set xs),.ow (.lst (st.map atV++[.tup [.str (wy w),.tup (ts.map atV)]])),s4]=.nx [.sh v,.sh (.int (n:Nat)),.ow (.set xs),.ow (.lst (st.map atV++ts.map atV)),.sh (.tup [.str (wy w),.tup (ts.map atV)])]:=by unfold dm;simp![nF,h4,b1,ko,ll]
   rw[bb];exact q2
def mX{t:AT}{n:Nat}(ho:t.ok=true)(hn:∀k∈t.lvs,k<n)(nd:t.lvs.Nodup)(hl:t.lvs.length=n)(h3:n<=3000)(hc:t.cnt<=100000):fE.G [atV t,.int (n:Nat)]=.ok (.val (.bl true)) []:=by
 have e1:AT.lvsL [t]=t.lvs:=by simp [AT.lvsL]
 have e2:AT.cntL [t]=t.cnt:=by simp [AT.cntL]
 obtain⟨ys,s4',q1,q2⟩:=j5 (n:=n) (atV t) (AT.cntL [t]) [t] [] .no (t_ _) rfl (λu hu=>by rw[NU] at hu;rw[hu];exact ho) (by rw[e1];exact hn) (by rw[e1];exact nd) (λk hk z=>nomatch z) (by rw[e1,hl];simp;exact h3) (by rw[e2];exact hc);rw[e1,hl,Nr,Ph] at q1;rw[x_,Nt] at q2;unfold fE;rw[aB];unfold o9;generalize atV t=tv at *;simp![Hi,q2,HB,q1,Pj]
def pK{t:AT}{n:Nat}(ho:t.ok=true)(hn:∀k∈t.lvs,k<n)(nd:t.lvs.Nodup)(hl:t.lvs.length=n)(h3:n<=3000)(hc:t.cnt<=100000):d5.G [atV t,.int (n:Nat)]=.ok (.val .non) []:=by have e:=mX ho hn nd hl h3 hc;unfold d5;rw[aB];unfold j7;generalize atV t=tv at *;simp![e]
def gU(a:Int):(if a<0 then -a else a)=((a.natAbs:Nat):Int):=by split <;> omega
theorem sS:∀(n one b_:Nat),b_<=n->(xWh (qOf (pOp bNe (af 1) (ai 0))) cU).G [.sh (.int (one:Nat)),.sh (.int (b_:Nat))]=.nx [.sh (.int (Nat.gcd one b_:Nat)),.sh (.int 0)]
 |
  n,one,0,_=>by
  rw[gA];simp![kP];rw[Nat.gcd_zero_right];try rfl
 |0,one,b_+1,hl=>absurd hl (by omega)
 |
  n+1,one,b_+1,hl=>by
  rw[gA];have e:((((b_+1:Nat):Int)==0))=false:=by rw[F_];omega
  have e1:bU.G (.int (one:Nat)) (.int ((b_+1:Nat):Int))=.val (.int (((one:Nat):Int).fmod ((b_+1:Nat):Int))):=eU (by omega);have e2:((one:Nat):Int).fmod ((b_+1:Nat):Int)=((one % (b_+1):Nat):Int):=by rw[Pm _ (by omega)];rfl
  have ih:=sS n (b_+1) (one % (b_+1)) (by have:=Nat.mod_lt one (show b_+1>0 by omega);omega);rw[Fr.euc] at ih;rw[e2] at e1;have bb:cU.G [.sh (.int (one:Nat)),.sh (.int ((b_+1:Nat):Int))]=.nx [.sh (.int ((b_+1:Nat):Int)),.sh (.int ((one % (b_+1):Nat):Int))]:=by unfold cU;simp![e1]
  simp![e,bb,ih]
def cT(a b:Int):bK.G [.int a,.int b]=.ok (.val (.int (Int.gcd a b:Nat))) []:=by
 unfold bK;rw[aB];unfold ij
 have:=sS b.natAbs a.natAbs b.natAbs (t_ _)
 simp![gU,this];rfl
def dS{a b:Int}(hb:b≠0)(hs:Sm 8000 b):bO.G [.int a,.int b]=.ok (.val (fV ((a:Rat)/(b:Rat)))) []:=by
 unfold bO;rw[aB];unfold nu;have e:(b==0)=false:=by rw[F_];exact hb
 have c:∀x,CDivB x (Fr.dv a b):=λx=>CDivB.of (Fr.dv_ne hb) (hs.of_le (by rw[Fr.dv_abs];exact Nat.le_of_dvd (by omega) (Nat.gcd_dvd_right a.natAbs b.natAbs)));have k1:=kR (c a);have k2:=kR (c b);have hh:=nv (a:=a) hb;have d_:Val.tup [.int (a.fdiv (Fr.dv a b)),.int (b.fdiv (Fr.dv a b))]=fV ((a:Rat)/(b:Rat)):=by unfold fV;rw[<- hh.1,<- hh.2];rfl
 by_cases hn:b<0
 .have hd:Fr.dv a b=-((Int.gcd a b:Nat):Int):=by unfold Fr.dv;rw[if_pos hn]
  rw[hd] at k1 k2 d_;simp![e,cT,I_ hn,k1,k2,d_]
 .have hd:Fr.dv a b=((Int.gcd a b:Nat):Int):=by unfold Fr.dv;rw[if_neg hn]
  rw[hd] at k1 k2 d_;simp![e,cT,C_ hn,k1,k2,d_]
def lG{p q:Rat}{n m:Nat}(hp:Sz n p)(hq:Sz m q)(h:n+m<=8000):f9.G [fV p,fV q]=.ok (.val (fV (p+q))) []:=by have c1:=cC (CMulA.of hp.top hq.bot (by omega) (by omega));have c2:=cC (CMulA.of hq.top hp.bot (by omega) (by omega));have c3:=cC (CMulA.of hp.bot hq.bot (by omega) (by omega));have fe:=dS (a:=p.num*q.den+q.num*p.den) (b:=p.den*q.den) (OR (b8 p) (b8 q)) ((hp.bot.mul hq.bot).mono h);rw[<- wm] at fe;unfold f9;rw[aB];unfold vk;rw[show fV p=.tup [.int p.num,.int p.den] from rfl,show fV q=.tup [.int q.num,.int q.den] from rfl];simp![c1,c2,c3,fe]
def jG{p q:Rat}{n m:Nat}(hp:Sz n p)(hq:Sz m q)(h:n+m<=8000):fu.G [fV p,fV q]=.ok (.val (fV (p*q))) []:=by have c1:=cC (CMulA.of hp.top hq.top (by omega) (by omega));have c2:=cC (CMulA.of hp.bot hq.bot (by omega) (by omega));have fe:=dS (a:=p.num*q.num) (b:=p.den*q.den) (OR (b8 p) (b8 q)) ((hp.bot.mul hq.bot).mono h);rw[<- wb] at fe;unfold fu;rw[aB];unfold vy;rw[show fV p=.tup [.int p.num,.int p.den] from rfl,show fV q=.tup [.int q.num,.int q.den] from rfl];simp![c1,c2,fe]
def bC{p q:Rat}{n m:Nat}(hp:Sz n p)(hq:Sz m q)(h1:n<=100000)(h2:m<=100000):aZ.G [fV p,fV q]=.ok (.val (.bl (decide (p<q)))) []:=by have c1:=cC (CMulA.of hp.top hq.bot h1 h2);have c2:=cC (CMulA.of hq.top hp.bot h2 h1);unfold aZ;rw[aB];unfold pC;rw[show fV p=.tup [.int p.num,.int p.den] from rfl,show fV q=.tup [.int q.num,.int q.den] from rfl];simp![c1,c2];rw[show decide (p.num*(q.den:Int)<q.num*(p.den:Int))=decide (p<q) from PY.mpr (Jo p q).symm]
def kJ{v:Val}(hk:knV v=true):(aX bz).G [v,.ty "tuple"]=.val (.bl (fL v)):=by cases v <;> first |rfl |cases hk
def iP{v:Val}(hk:knV v=true):bP.G [v]=.ok (.val (.bl (jE v))) []:=by unfold bP;rw[aB];unfold jH;cases v <;> first |rfl |cases hk
def rW(v:Val):fL v=false\/∃xs,v=.tup xs:=by cases v <;> first |exact .inr ⟨_,rfl⟩ |exact .inl rfl
def me(v:Val):jE v=false\/∃i,v=.int i:=by cases v <;> first |exact .inr ⟨_,rfl⟩ |exact .inl rfl
def Ly{v:Val}(h:fL v=false):aO v=false:=by cases v <;> first |rfl |cases h
def Mp{v:Val}(h:fL v=false):er v=false:=by cases v <;> first |rfl |cases h
def GR{a b:Val}(h:jE a=false):aO (.tup [a,b])=false:=by cases a <;> first |rfl |cases h
def Kg{i:Int}{b:Val}(h:jE b=false):aO (.tup [.int i,b])=false:=by cases b <;> first |rfl |cases h
def Lu{xs:List Val}(hl:xs.length≠2):aO (.tup xs)=false:=by
 unfold aO;split
 .rename_i e;injection e with e;subst e;exact absurd rfl hl
 .rfl
def Le{xs:List Val}(hl:xs.length≠4):er (.tup xs)=false:=by
 unfold er;split
 .rename_i e;injection e with e;subst e;exact absurd rfl hl
 .rfl
def Eg{k:Nat}{v:Val}(ha:ik k v=true)(h:fL v=false):knV v=true:=by
 cases v with
 |tup xs=>cases h
 |_=>cases k <;> exact ha
def nX{v:Val}(ha:ik 1 v=true):cK.G [v]=.ok (.val (.bl (aO v))) []:=by
 unfold cK;rw[aB];unfold jV;rcases rW v with ht |⟨xs,rfl⟩
 .have it:=kJ (Eg ha ht);rw[ht] at it;simp![it,Ly ht]
 have it:=kJ (v:=.tup xs) rfl;by_cases hl:xs.length=2
 .match xs,hl,ha with
  |
   [a,b],_,ha=>
   have ha':(knV a&&(knV b&&true))=true:=by simpa [ik] using ha
   simp only[u_] at ha';have w1:=iP ha'.1;have w2:=iP ha'.2.1;rcases me a with h1 |⟨i,rfl⟩
   .rw[h1] at w1;simp![it,fL,w1,GR h1]
   rcases me b with h2 |⟨j,rfl⟩
   .rw[h2] at w2;simp![it,fL,w1,jE,w2,Kg h2]
   have f:aO (.tup [.int i,.int j])=(decide (1<=j)&&decide (Int.gcd i j=1)):=rfl;have g:((((Int.gcd i j:Nat):Int)==1):Bool)=decide (Int.gcd i j=1):=by rw[P6,NA,O1];omega
   by_cases hj:1<=j
   .simp![it,fL,w1,w2,jE,cT,I_ hj,f,g]
   .simp![it,fL,w1,w2,jE,cT,C_ hj,f,g]
 .have e:(((xs.length:Nat):Int)==2)=false:=by rw[F_];omega
  simp![it,fL,e,Lu hl]
def kq{v:Val}(ha:ik 2 v=true):fZ.G [v]=.ok (.val (.bl (er v))) []:=by
 unfold fZ;rw[aB];unfold rj;rcases rW v with ht |⟨xs,rfl⟩
 .have it:=kJ (Eg ha ht);rw[ht] at it;simp![it,Mp ht]
 have it:=kJ (v:=.tup xs) rfl;by_cases hl:xs.length=4
 .match
   xs,hl,ha with
  |
   [a,b,c,d],_,ha=>
   have e1:er (.tup [a,b,c,d])=(aO a&&(aO b&&(aO c&&(aO d&&(ju c&&ju d))))):=rfl;have bl4:∀x y z w:Bool,jC [.bl x,.bl y,.bl z,.bl w]=some [x,y,z,w]:=λ_ _ _ _=>rfl;obtain⟨e',⟨s',rfl,_⟩,lc⟩:=oz (g:=(gtN 0).G) (F:=(ah cK (aa (af 0) ag)).G) (f:=λv=>.bl (aO v)) (λe=>∃s,e=[s]/\s.pl=true) [a,b,c,d] [] [.no] ⟨.no,rfl,rfl⟩ (by
    rintro v hv e ⟨s,rfl,hs⟩;have hv':ik 1 v=true:=NB.mp (by simpa [ik] using ha) v hv;refine⟨[.sh v],.val (.bl (aO v)),[.sh v],?_,?_,rfl,⟨_,rfl,rfl⟩⟩
    .simp![hs]
    .simp![nX hv']) (by simp)
   have cy:cY=qY.G:=rfl;rw[cy,NH] at lc;simp only[x_,Nt] at lc;cases hA:(aO a&&(aO b&&(aO c&&aO d))) with
   |
    true=>
    simp only[u_] at hA;obtain⟨p,rfl⟩:=zi hA.2.2.1;obtain⟨q,rfl⟩:=zi hA.2.2.2;rw[hA.1,hA.2.1,hA.2.2.1,hA.2.2.2] at e1 lc;have e2:er (.tup [a,b,fV p,fV q])=(decide (0<p.num)&&decide (0<q.num)):=by rw[e1];rfl
    rw[e2];have i1:(fV p).items=some [.int p.num,.int p.den]:=rfl;have i2:(fV q).items=some [.int q.num,.int q.den]:=rfl;by_cases hp:0<p.num
    .simp![it,fL,lc,bL,bl4,id,i1,i2,I_ hp]
    .simp![it,fL,lc,bL,bl4,id,i1,C_ hp]
   |
    false=>
    have e2:er (.tup [a,b,c,d])=false:=by rw[e1];revert hA;generalize aO a=a',aO b=b',aO c=c',aO d=d',(ju c&&ju d)=z;revert a' b' c' d' z;decide
    rw[e2];simp![it,fL,lc,bL,bl4,id,hA]
 .have e:(((xs.length:Nat):Int)==4)=false:=by rw[F_];omega
  simp![it,fL,e,Le hl]
def su{v:Val}(ha:ik 2 v=true):aG.G [v]=if er v=true then .ok (.val .non) [] else .exc "NoBox" []:=by
 unfold aG;rw[aB];unfold lq;cases h:er v with
 |true=>simp![kq ha,h]
 |false=>simp![kq ha,h]
def bj{b:Bx}(hb:b.Ok):aG.G [bV b]=.ok (.val .non) []:=by rw[su (zX b),sH hb];rfl
def K8{v:Val}(h:jE v=false):iD v=false:=by cases v <;> first |rfl |cases h
def C9(v:Val):fN v=false\/∃xs,v=.lst xs:=by cases v <;> first |exact .inr ⟨_,rfl⟩ |exact .inl rfl
def so{v:Val}(hk:knV v=true):dH.G [v]=.ok (.val (.bl (iD v))) []:=by
 have w:=iP hk;unfold dH;rw[aB];unfold kZ;rcases me v with h |⟨i,rfl⟩
 .rw[h] at w;simp![w,K8 h]
 .simp![w,jE];rfl
def uV{v:Val}(hk:knV v=true):(aX bz).G [v,.ty "list"]=.val (.bl (fN v)):=by cases v <;> first |rfl |cases hk
noncomputable def yc (v:Val):R3F:=match v with
 |.lst xs=>if xs=[] then .exc "NoWeights" [] else if xs.all iD=true then (if xs.length<=40 then .ok (.val .non) [] else .exc "TooMany" []) else .exc "NoWeights" []
 |_=>.exc "NoWeights" []
def Hg{v:Val}(h:fN v=false):yc v=.exc "NoWeights" []:=by cases v <;> first |rfl |cases h
noncomputable def uk:Val->Bool
 |.lst xs=>decide (xs.length<=1000)&&xs.all knV
 |v=>knV v
def F3{v:Val}(h:uk v=true)(hl:fN v=false):knV v=true:=by cases v <;> first |(cases hl;done) |exact h
theorem js(f:Val->Bool):∀xs:List Val,jC (xs.map λv=>.bl (f v))=some (xs.map f)
 | []=>rfl
 |x::xs=>by show (jC (xs.map λv=>.bl (f v))).map (f x :: ·)=_;rw[js f xs];rfl
def jy(f:Val->Bool)(xs:List Val):(xs.map f).all id=xs.all f:=by rw[List.all_map];rfl
def lH{v:Val}(ha:uk v=true):aD.G [v]=yc v:=by
 unfold aD;rw[aB];unfold iw;rcases C9 v with hv |⟨xs,rfl⟩
 .have il:=uV (F3 ha hv);rw[hv] at il;rw[Hg hv];simp![il]
 .have ha':xs.length<=1000/\xs.all knV=true:=by simpa [uk] using ha
  have il:=uV (v:=.lst xs) rfl;unfold yc;dsimp only;by_cases h0:xs=[]
  .subst h0;simp![il]
  .have e0:(((xs.length:Nat):Int)==0)=false:=by rw[F_];intro z;exact h0 (OF.mp (by omega))
   rw[if_neg h0];obtain⟨e',p',lc⟩:=oz (g:=(gtN 0).G) (F:=(ah dH (aa (af 0) ag)).G) (f:=λv=>.bl (iD v)) (λe=>∃s,e=[s]/\s.pl=true) xs [] [.no] ⟨.no,rfl,rfl⟩ (by
    rintro v hv e ⟨s,rfl,hs⟩;refine⟨[.sh v],.val (.bl (iD v)),[.sh v],?_,?_,rfl,⟨_,rfl,rfl⟩⟩
    .simp![hs]
    .simp![so (NB.mp ha'.2 v hv)]) (by simp;omega)
   obtain⟨s',rfl,_⟩:=p';have cy:cY=qY.G:=rfl;rw[cy,NH] at lc;have a_:(xs.map λv=>Val.bl (iD v)).length<=16777216:=by rw[p_];omega
   by_cases hw:xs.all iD=true
   .rw[if_pos hw];by_cases h40:xs.length<=40
    .have hd:decide ((40:Int)<((xs.length:Nat):Int))=false:=C_ (by omega);rw[if_pos h40];simp![il,e0,bL,lc,a_,js,jy,hw,hd]
    .have hd:decide ((40:Int)<((xs.length:Nat):Int))=true:=I_ (by omega);rw[if_neg h40];simp![il,e0,bL,lc,a_,js,jy,hw,hd]
   .have hw':xs.all iD=false:=Bool.eq_false_iff.mpr hw;rw[if_neg hw];simp![il,e0,bL,lc,a_,js,jy,hw']
def gx{ws:List Int}(h0:ws≠[])(h1:∀w∈ws,1<=w)(h2:ws.length<=40):aD.G [.lst (ws.map .int)]=.ok (.val .non) []:=by
 have ha:uk (.lst (ws.map .int))=true:=by simp only[uk,u_,O1,p_];exact⟨by omega,by rw[NB];intro v hv;obtain⟨w,_,rfl⟩:=Nv.mp hv;rfl⟩
 rw[lH ha];unfold yc;dsimp only;rw[if_neg (by intro z;exact h0 (List.map_eq_nil_iff.mp z)),if_pos (by rw[NB];intro v hv;obtain⟨w,hw,rfl⟩:=Nv.mp hv;exact I_ (h1 w hw)),if_pos (by rw[p_];exact h2)]
def uv:ba (.str "down") (.str "across")=some false:=by rw[L3.eq_str (by decide) (by decide)];exact NC some (by decide)
def sx:ba (.str "across") (.str "across")=some true:=by rw[L3.eq_str (by decide) (by decide)];exact NC some (by decide)
noncomputable def prV (p:Rat×Rat):Val:=.tup [fV p.1,fV p.2]
theorem uT{s l:Rat}{n m:Nat}{W:Int}{wv:Val}(hs:Sz n s)(hl:Sz n l)(hW:0<W)(mW:Sm m W)(h:n+n+m<=8000):∀(ws:List Int) (a:Int) (acc:List (Rat×Rat)) (s6 s7:Sl),s6.pl=true->s7.pl=true->0<=a->(∀w∈ws,0<=w)->a+ws.sum<=W->acc.length+ws.length<=16777216->∃s6' s7',cI (gtN 6).G iG.G (ws.map .int) [.sh (fV s),.sh (fV l),.sh wv,.sh (.int W),.sh (.int a),.ow (.lst (acc.map prV)),s6,s7]=.nx [.sh (fV s),.sh (fV l),.sh wv,.sh (.int W),.sh (.int (a+ws.sum)),.ow (.lst ((acc++shL s l W a ws).map prV)),s6',s7']
 | [],a,acc,s6,s7,h6,h7,ha,hw,hsum,a_=>⟨s6,s7,by rw[Nt,gO,Qc,Int.add_zero];unfold shL;rw[Ny]⟩
 |
  w::ws,a,acc,s6,s7,h6,h7,ha,hw,hsum,a_=>by
  have hw0:=hw w (s_ ..);have hws:0<=ws.sum:=by
   have:∀l:List Int,(∀w∈l,0<=w)->0<=l.sum:=by
    intro l;induction l with
    |nil=>intro _;simp
    |cons x l ih=>intro hx;rw[Np];have:=hx x (s_ ..);have:=ih λw hw=>hx w (q_ _ hw);omega
   exact this ws λx hx=>hw x (q_ _ hx)
  rw[Np] at hsum;rw[E_] at a_;have sa:Sm m a:=mW.of_le (by omega);have sw:Sm m w:=mW.of_le (by omega);have f1:=dS (a:=a) (b:=W) (by omega) (mW.mono (by omega));have f2:=dS (a:=w) (b:=W) (by omega) (mW.mono (by omega));have z1:Sz m ((a:Rat)/(W:Rat)):=Sz.div (by omega) sa mW m (t_ _) (t_ _);have z2:Sz m ((w:Rat)/(W:Rat)):=Sz.div (by omega) sw mW m (t_ _) (t_ _);have t1:=jG hl z1 (by omega);have t2:=jG hl z2 (by omega);have ad:=lG hs (hl.mul z1) (by omega);have ll:(acc.map prV).length<16777216:=by rw[p_];omega
  obtain⟨t6,t7,ih⟩:=uT (wv:=wv) hs hl hW mW h ws (a+w) (acc++[(s+l*((a:Rat)/(W:Rat)),l*((w:Rat)/(W:Rat)))]) (.sh (.int w)) (.sh (fV (s+l*((a:Rat)/(W:Rat))))) rfl rfl (by omega) (λx hx=>hw x (q_ _ hx)) (by omega) (by simp;omega);refine⟨t6,t7,?_⟩;have g1:(gtN 6).G (.int w) [.sh (fV s),.sh (fV l),.sh wv,.sh (.int W),.sh (.int a),.ow (.lst (acc.map prV)),s6,s7]=some [.sh (fV s),.sh (fV l),.sh wv,.sh (.int W),.sh (.int a),.ow (.lst (acc.map prV)),.sh (.int w),s7]:=by simp![h6]
  have b1:iG.G [.sh (fV s),.sh (fV l),.sh wv,.sh (.int W),.sh (.int a),.ow (.lst (acc.map prV)),.sh (.int w),s7]=.nx [.sh (fV s),.sh (fV l),.sh wv,.sh (.int W),.sh (.int (a+w)),.ow (.lst ((acc++[(s+l*((a:Rat)/(W:Rat)),l*((w:Rat)/(W:Rat)))]).map prV)),.sh (.int w),.sh (fV (s+l*((a:Rat)/(W:Rat))))]:=by unfold iG;rw[NQ];simp![h7,f1,f2,t1,t2,ad,ll,prV]
  rw[x_,dg,g1];simp only[b1,qI];rw[ih,Np];rw[show shL s l W a (w::ws)=(s+l*((a:Rat)/(W:Rat)),l*((w:Rat)/(W:Rat)))::shL s l W (a+w) ws from rfl,O0,show a+w+ws.sum=a+(w+ws.sum) by omega];rfl
def pb{s l:Rat}{n m:Nat}{ws:List Int}(hs:Sz n s)(hl:Sz n l)(hw:∀w∈ws,0<=w)(h0:0<ws.sum)(mW:Sm m ws.sum)(h:n+n+m<=8000)(a_:ws.length<=1000):gf.G [fV s,fV l,.lst (ws.map .int)]=.ok (.new (.lst ((shL s l ws.sum 0 ws).map prV))) []:=by obtain⟨s6,s7,lo⟩:=uT (wv:=.lst (ws.map .int)) hs hl h0 mW h ws 0 [] .no .no rfl rfl (by omega) hw (by omega) (by simp;omega);rw[NH,Nt] at lo;unfold gf;rw[aB];unfold rS;simp![lo]
def HH{way:Str}(hw:way="across" \/ way="down"):eO.G [.str way]=.ok (.val .non) []:=by
 have i1:∀x:Str,(aX bz).G [.str x,.ty "str"]=.val (.bl true):=λ_=>rfl;have i2:bIn.G (.str way) (.tup [.str "across",.str "down"])=.val (.bl true):=by rcases hw with rfl |rfl <;> rfl
 have e1:dZ.G [.str way]=.ok (.val (.bl true)) []:=by unfold dZ;rw[aB];unfold lL;simp![i1,i2]
 unfold eO;rw[aB];unfold k8;simp![e1]
def ke{b:Bx}{n m:Nat}{way:Str}{ws:List Int}(hb:b.Ok)(hs:b.Sz n)(hway:way="across" \/ way="down")(h0:ws≠[])(hw:∀w∈ws,1<=w)(mW:Sm m ws.sum)(h:n+n+m<=8000)(a_:ws.length<=40):d0.G [bV b,.str way,.lst (ws.map .int)]=.ok (.new (.lst ((aP b way ws).map bV))) []:=by
 have cw:=gx h0 hw a_;have cy:=HH hway;have sp:0<ws.sum:=by
  cases ws with
  |nil=>exact absurd rfl h0
  |
   cons x l=>
   rw[Np]
   have:=hw x (s_ ..)
   have:∀l:List Int,(∀w∈l,1<=w)->0<=l.sum:=by
    intro l;induction l with
    |nil=>intro _;simp
    |cons x l ih=>intro hx;rw[Np];have:=hx x (s_ ..);have:=ih λw hw=>hx w (q_ _ hw);omega
   have:=this l λx hx=>hw x (q_ _ hx)
   omega
 have cb:aG.G [.tup [fV b.l,fV b.t,fV b.w,fV b.h]]=.ok (.val .non) []:=bj hb;have sh1:=pb hs.l hs.w (λw z=>by have:=hw w z;omega) sp mW h (by omega);have sh2:=pb hs.t hs.h (λw z=>by have:=hw w z;omega) sp mW h (by omega);show d0.G [.tup [fV b.l,fV b.t,fV b.w,fV b.h],.str way,.lst (ws.map .int)]=_;unfold d0 aP;rw[aB];unfold rz;rcases hway with rfl |rfl
 .rw[if_pos (rfl:("across" : Str)="across")];have ln:=jm b.l b.w ws.sum ws 0;obtain⟨e',⟨s,t,rfl,_,_⟩,lc⟩:=cQ (g:=(gtT 2 (ay (gtN 0) (ay (gtN 1) bI))).G) (F:=(bo (aa (af 0) (aa (af 2) (aa (af 1) (aa (af 3) ag))))).G) prV (λp=>bV ⟨p.1,b.t,p.2,b.h⟩) (λe=>∃s t,e=[s,t,.sh (fV b.t),.sh (fV b.h)]/\s.pl=true/\t.pl=true) (shL b.l b.w ws.sum 0 ws) [] [.no,.no,.sh (fV b.t),.sh (fV b.h)] ⟨.no,.no,rfl,rfl,rfl⟩ (by
   rintro p hp e ⟨s,t,rfl,hs,ht⟩;refine⟨[.sh (fV p.1),.sh (fV p.2),.sh (fV b.t),.sh (fV b.h)],.val (bV ⟨p.1,b.t,p.2,b.h⟩),[.sh (fV p.1),.sh (fV p.2),.sh (fV b.t),.sh (fV b.h)],?_,?_,rfl,⟨_,_,rfl,rfl,rfl⟩⟩
   .simp![prV,hs,ht]
   .simp![bV]) (by rw[ln,Nr];omega)
  rw[NH] at lc;have ll:((shL b.l b.w ws.sum 0 ws).map λp=>bV ⟨p.1,b.t,p.2,b.h⟩).length<=16777216:=by rw[p_,ln];omega
  rw[NT,show (bV ∘ λp:Rat×Rat=>(⟨p.1,b.t,p.2,b.h⟩:Bx))=λp=>bV ⟨p.1,b.t,p.2,b.h⟩ from rfl];simp![cb,cy,cw,sx,sh1,lc,ll]
 .have hne:¬ (("down" : Str)="across"):=by decide
  rw[if_neg hne];have ln:=jm b.t b.h ws.sum ws 0;obtain⟨e',⟨s,t,rfl,_,_⟩,lc⟩:=cQ (g:=(gtT 2 (ay (gtN 0) (ay (gtN 1) bI))).G) (F:=(bo (aa (af 2) (aa (af 0) (aa (af 3) (aa (af 1) ag))))).G) prV (λp=>bV ⟨b.l,p.1,b.w,p.2⟩) (λe=>∃s t,e=[s,t,.sh (fV b.l),.sh (fV b.w)]/\s.pl=true/\t.pl=true) (shL b.t b.h ws.sum 0 ws) [] [.no,.no,.sh (fV b.l),.sh (fV b.w)] ⟨.no,.no,rfl,rfl,rfl⟩ (by
   rintro p hp e ⟨s,t,rfl,hs,ht⟩;refine⟨[.sh (fV p.1),.sh (fV p.2),.sh (fV b.l),.sh (fV b.w)],.val (bV ⟨b.l,p.1,b.w,p.2⟩),[.sh (fV p.1),.sh (fV p.2),.sh (fV b.l),.sh (fV b.w)],?_,?_,rfl,⟨_,_,rfl,rfl,rfl⟩⟩
   .simp![prV,hs,ht]
   .simp![bV]) (by rw[ln,Nr];omega)
  rw[NH] at lc;have ll:((shL b.t b.h ws.sum 0 ws).map λp=>bV ⟨b.l,p.1,b.w,p.2⟩).length<=16777216:=by rw[p_,ln];omega
  rw[NT,show (bV ∘ λp:Rat×Rat=>(⟨b.l,p.1,b.w,p.2⟩:Bx))=λp=>bV ⟨b.l,p.1,b.w,p.2⟩ from rfl];simp![cb,cy,cw,uv,sh2,lc,ll]
theorem iQ{f:Nat->Val}(v:Val):∀(N:Nat) (st:List AT) (acc:List Nat) (s3:Sl),AT.cntL st<=N->s3.pl=true->(∀k∈AT.lvsL st,lfV (f k)=true)->acc.length+AT.cntL st<=100000->
 ∃(l:List Nat) (s3':Sl),l.Perm (AT.lvsL st)/\(xWh (qTr (af 2)) cB).G [.sh v,.ow (.lst (acc.map f)),.ow (.lst (st.map (AT.val f))),s3]=.nx [.sh v,.ow (.lst ((acc++l).map f)),.ow (.lst []),s3']
 |
  N,[],acc,s3,_,_,_,_=>⟨[],s3,.nil,by
  rw[gA,Ny];simp![Nt,nS,List.isEmpty_nil]⟩
 |
  0,t::ts,acc,s3,h,_,_,_=>by
  rw[AT.cntL] at h;cases t <;> (rw[AT.cnt] at h;omega)
 |
  N+1,t0::ts0,acc,s3,hN,h3,hf,hl=>by
  obtain⟨st,t,hst⟩:∃st t,t0::ts0=st++[t]:=⟨(t0::ts0).dropLast,(t0::ts0).getLast (by simp),(List.dropLast_concat_getLast (by simp)).symm⟩;rw[hst] at hN hf hl ⊢;rw[AT.lvsL_app] at hf;rw[AT.lvsL_app];rw[AT.cntL_app] at hN hl;have hn0:((st++[t]).map (AT.val f)).isEmpty=false:=by cases st <;> rfl
  have c1:(qTr (af 2)).G [.sh v,.ow (.lst (acc.map f)),.ow (.lst ((st++[t]).map (AT.val f))),s3]=.ok true [.sh v,.ow (.lst (acc.map f)),.ow (.lst ((st++[t]).map (AT.val f))),s3]:=by simp![nS,hn0,Bool.not_false]
  rw[gA,c1];show ∃l s3',_/\((cB.G _).loop _)=_;rw[NQ,x_,Nt];cases t with
  |
   lf k=>
   simp only[AT.lvsL,AT.lvs,Ny,AT.cntL,AT.cnt] at hf hN hl ⊢;obtain⟨l,s3',q1,q2⟩:=iQ (f:=f) v N st (acc++[k]) (.sh (f k)) (by omega) rfl (λj hj=>hf j (by simp [hj])) (by rw[H_];simp only[E_,Nr];omega);refine⟨k::l,s3',((q1.cons k).trans (List.perm_append_comm (l₁:=[k]) (l₂:=AT.lvsL st))),?_⟩;have i1:(aX bz).G [f k,.ty "tuple"]=.val (.bl false):=by
    have:=hf k (by simp)
    generalize f k=a at *;cases a <;> first |rfl |(cases this;done)
   have al:(acc.map f).length<16777216:=by rw[p_];omega
   have bb:cB.G [.sh v,.ow (.lst (acc.map f)),.ow (.lst (st.map (AT.val f)++[AT.val f (.lf k)])),s3]=.nx [.sh v,.ow (.lst ((acc++[k]).map f)),.ow (.lst (st.map (AT.val f))),.sh (f k)]:=by unfold cB;rw[AT.val,NQ,x_,Nt];generalize f k=a at *;simp![nF,h3,i1,al]
   rw[bb,show acc++k::l=acc++[k]++l by simp];exact q2
  |
   nd w ts=>
   simp only[AT.lvsL,AT.lvs,Ny,AT.cntL,AT.cnt] at hf hN hl ⊢;obtain⟨l,s3',q1,q2⟩:=iQ (f:=f) v N (st++ts) acc (.sh (AT.val f (.nd w ts))) (by rw[AT.cntL_app];omega) rfl (by rw[AT.lvsL_app];exact hf) (by rw[AT.cntL_app];omega);rw[AT.lvsL_app] at q1;refine⟨l,s3',q1,?_⟩;have i1:∀xs:List Val,(aX bz).G [.tup xs,.ty "tuple"]=.val (.bl true):=λ_=>rfl;have le:∀l:List AT,l.length<=AT.cntL l:=by
    intro l;induction l with
    |nil=>exact t_ _
    |cons t l ih=>rw[AT.cntL,E_];cases t <;> (rw[AT.cnt];omega)
   have ll:(st.map (AT.val f)).length+(ts.map (AT.val f)).length<=16777216:=by
    have:=le st
    have:=le ts
    rw[p_,p_];omega
   rw[AT.val,AT.vals_map] at q2 ⊢;rw[NQ] at q2;have bb:cB.G [.sh v,.ow (.lst (acc.map f)),.ow (.lst (st.map (AT.val f)++[.tup [.str (wy w),.tup (ts.map (AT.val f))]])),s3]=.nx [.sh v,.ow (.lst (acc.map f)),.ow (.lst (st.map (AT.val f)++ts.map (AT.val f))),.sh (.tup [.str (wy w),.tup (ts.map (AT.val f))])]:=by unfold cB;simp![nF,h3,i1,nD,ko,ll]
   rw[bb];exact q2
def Aj{f:Nat->Val}{t:AT}(hf:∀k∈t.lvs,lfV (f k)=true)(hc:t.cnt<=100000):∃l:List Nat,l.Perm t.lvs/\dN.G [t.val f]=.ok (.new (.lst (l.map f))) []:=by
 have e1:AT.lvsL [t]=t.lvs:=by simp [AT.lvsL]
 have e2:AT.cntL [t]=t.cnt:=by simp [AT.cntL]
 obtain⟨l,s3',q1,q2⟩:=iQ (f:=f) (t.val f) (AT.cntL [t]) [t] [] .no (t_ _) rfl (by rw[e1];exact hf) (by rw[e2,Nr];omega);rw[e1] at q1;refine⟨l,q1,?_⟩;rw[x_,Nt,Nt,NH] at q2;unfold dN;rw[aB];unfold lA;generalize t.val f=tv at *;simp![q2]
def tQ{ws:List Int}{l:List Nat}(hl:l.length<=1000)(hi:∀k∈l,k<ws.length):∃s,lcV (gtN 0).G qY.G (pOp bIx (af 1) (af 0)).G (l.map λk:Nat=>.int k) [] [.no,.sh (liV ws)]=.ok ((l.map λk=>ws.getD k 0).map .int) [s,.sh (liV ws)]:=by
 obtain⟨e',⟨s,rfl,_⟩,lc⟩:=cQ (g:=(gtN 0).G) (F:=(pOp bIx (af 1) (af 0)).G) (λk:Nat=>Val.int k) (λk:Nat=>Val.int (ws.getD k 0)) (λe=>∃s:Sl,e=[s,.sh (liV ws)]/\s.pl=true) l [] [.no,.sh (liV ws)] ⟨.no,rfl,rfl⟩ (by
  rintro k hk _ ⟨s,rfl,hs⟩;have h1:=hi k hk;have a1:atI (ws.map Val.int) (k:Nat)=some (.int (ws.getD k 0)):=dq (by omega) (by rw[Nm];show (ws[k]?).map _=_;rw[K_,v_ h1];rfl);refine⟨[.sh (.int (k:Nat)),.sh (liV ws)],.val (.int (ws.getD k 0)),[.sh (.int (k:Nat)),.sh (liV ws)],?_,?_,rfl,_,rfl,rfl⟩
  .simp![hs]
  .unfold liV;simp![a1]) (by rw[Nr];omega)
 exact⟨s,by rw[NT];exact lc⟩
def uD{ws:List Int}{b:Bx}{w:Bool}{ts:List AT}{n m:Nat}(h:AT.lay ws n m (.nd w ts) b)(hnm:n+n+m<=8000)(hi:∀k∈AT.lvsL ts,k<ws.length)(hl:(AT.lvsL ts).length<=1000)(hc:AT.cntL ts<=100000):fH.G [bV b,liV ws,atV (.nd w ts)]=.ok (.new (.lst ((aP b (wy w) (ts.map (wtT ws))).map bV))) []:=by
 rw[AT.lay] at h;obtain⟨h1,h2,h3,h4,h5,h6,_⟩:=h;have ew:wy w="across" \/ wy w="down":=by cases w;exact .inr rfl;exact .inl rfl
 have pe:=ke h1 h2 ew (ws:=ts.map (wtT ws)) (by simpa using h3) (λx hx=>by obtain⟨t,ht,rfl⟩:=Nv.mp hx;exact h5 t ht) h6 hnm (by rw[p_];exact h4);have cle:∀t∈ts,t.cnt<=AT.cntL ts:=λt ht=>AT.cnt_le ht;have lle:∀t∈ts,t.lvs.length<=(AT.lvsL ts).length:=λt ht=>AT.lvs_le ht;obtain⟨e',⟨s,rfl,_⟩,lc⟩:=cQ (g:=(gtN 0).G) (F:=(pFn cH (aa (pLC (cD (ah dN (aa (af 0) ag))) [none,some 1] (by decide) (gtN 0) qY (pOp bIx (af 1) (af 0))) ag)).G) atV (λt=>Val.int (wtT ws t)) (λe=>∃s:Sl,e=[s,.sh (liV ws)]/\s.pl=true) ts [] [.no,.sh (liV ws)] ⟨.no,rfl,rfl⟩ (by
  rintro t ht _ ⟨s,rfl,hs⟩;obtain⟨l,lp,e1⟩:=Aj (f:=λk=>.int (k:Nat)) (t:=t) (λ_ _=>rfl) (by have:=cle t ht;omega);rw[show AT.val (λk=>Val.int (k:Nat)) t=atV t from rfl] at e1;obtain⟨s',lc⟩:=tQ (ws:=ws) (l:=l) (by rw[lp.length_eq];have:=lle t ht;omega) (λk hk=>hi k (AT.lvsL_mem.mpr ⟨t,ht,lp.mem_iff.mp hk⟩));have ll:((l.map λk=>ws.getD k 0).map Val.int).length<=16777216:=by rw[p_,p_,lp.length_eq];have:=lle t ht;omega
  have sm:(l.map λk=>ws.getD k 0).sum=wtT ws t:=tf lp;refine⟨[.sh (atV t),.sh (liV ws)],.val (.int (wtT ws t)),[.sh (atV t),.sh (liV ws)],?_,?_,rfl,_,rfl,rfl⟩
  .generalize atV t=tv at *;simp![hs]
  .rw[<- sm];generalize atV t=tv at *;generalize liV ws=wv at *;generalize (l.map λk:Nat=>Val.int (k:Nat))=LV at *;simp![e1,bL,inS,lc,ll]) (by rw[Nr];omega)
 have av:atV (.nd w ts)=.tup [.str (wy w),.tup (ts.map atV)]:=by unfold atV;rw[AT.val,AT.vals_map]
 have lm:ts.map (λt=>Val.int (wtT ws t))=(ts.map (wtT ws)).map .int:=by rw[NT];rfl
 have l2:((ts.map (wtT ws)).map Val.int).length<=16777216:=by rw[p_,p_];omega
 rw[NH,lm] at lc;rw[av];generalize (aP b (wy w) (ts.map (wtT ws))).map bV=PB at *;generalize (ts.map (wtT ws)).map Val.int=SV at *;generalize ts.map atV=TV at *;generalize liV ws=wv at *;generalize bV b=bv at *;unfold fH;rw[aB];unfold mz;simp![bL,inS,lc,l2,pe]
theorem mT{ws:List Int}{n m k:Nat}(rv tv:Val):∀(ts:List AT) (bs:List Bx) (kvs:List (Key×Val)) (s4 s5:Sl),s4.pl=true->s5.pl=true->ts.length=bs.length->(∀(t:AT) (b:Bx) (kvs:List (Key×Val)),t∈ts->AT.lay ws n m t b->kvs.length+t.lvs.length<=100000->(dP k).G [bV b,liV ws,atV t,.dct kvs]=.ok (.val .non) [.dct (cP kvs (AT.bx ws t b))])->AT.layL ws n m ts bs->kvs.length+(AT.lvsL ts).length<=100000->
 ∃s4' s5',cI (gtX (gtT 2 (ay (gtN 4) (ay (gtN 5) bI)))).G (jJ (dP k)).G (List.zipWith (λx y=>Val.tup [x,y]) (ts.map atV) (bs.map bV)) [.sh rv,.sh (liV ws),.sh tv,.mu (.dct kvs),s4,s5]=.nx [.sh rv,.sh (liV ws),.sh tv,.mu (.dct (cP kvs (AT.bxL ws ts bs))),s4',s5']
 | [],bs,kvs,s4,s5,_,_,_,_,_,_=>⟨s4,s5,by cases bs <;> rfl⟩
 |t::ts,[],kvs,s4,s5,_,_,h,_,_,_=>nomatch h
 |
  t::ts,b::bs,kvs,s4,s5,h4,h5,hl,hp,hy,hk=>by
  rw[AT.layL] at hy;rw[AT.lvsL,H_] at hk;have e1:=hp t b kvs (s_ ..) hy.1 (by omega);have a_:=tj (AT.bx ws t b) kvs;have hfst:=(AT.bx_fst ws t b).1;obtain⟨s4',s5',q⟩:=mT rv tv ts bs (cP kvs (AT.bx ws t b)) (.sh (atV t)) (.sh (bV b)) rfl rfl (by simpa using hl) (λu c kv hu=>hp u c kv (q_ _ hu)) hy.2 (by omega);refine⟨s4',s5',?_⟩;rw[AT.bxL,Bk,x_,x_,List.zipWith_cons_cons,dg];generalize cP kvs (AT.bx ws t b)=kvs1 at *;generalize atV t=av at *;generalize bV b=bv at *;generalize liV ws=wv at *;have g1:(gtX (gtT 2 (ay (gtN 4) (ay (gtN 5) bI)))).G (.tup [av,bv]) [.sh rv,.sh wv,.sh tv,.mu (.dct kvs),s4,s5]=some [.sh rv,.sh wv,.sh tv,.mu (.dct kvs),.sh av,.sh bv]:=by simp![h4,h5]
  have b1:(jJ (dP k)).G [.sh rv,.sh wv,.sh tv,.mu (.dct kvs),.sh av,.sh bv]=.nx [.sh rv,.sh wv,.sh tv,.mu (.dct kvs1),.sh av,.sh bv]:=by unfold jJ;simp![e1]
  rw[g1];dsimp only;rw[b1];exact q
def yg(b:Bx)(way:Str)(ws:List Int):(aP b way ws).length=ws.length:=by unfold aP;split <;> rw[p_,jm]
def Bw{ws:List Int}{n m:Nat}(hnm:n+n+m<=8000)(t:AT):∀(k:Nat) (b:Bx) (kvs:List (Key×Val)),t.dep<=k->AT.lay ws n m t b->(∀i∈t.lvs,i<ws.length)->t.lvs.length<=1000->t.cnt<=100000->kvs.length+t.lvs.length<=100000->(dP k).G [bV b,liV ws,atV t,.dct kvs]=.ok (.val .non) [.dct (cP kvs (AT.bx ws t b))]:=by
 induction t using AT.ind with
 |
  h1 x=>
  intro k b kvs hd _ _ _ _ hk;cases k with
  |zero=>simp [AT.dep] at hd
  |
   succ k=>
   have i1:(aX bz).G [.int (x:Nat),.ty "tuple"]=.val (.bl false):=rfl;have kl:kvs.length<16777216:=by omega
   have av:atV (.lf x)=.int (x:Nat):=rfl;have pe:cP kvs (AT.bx ws (.lf x) b)=eY kvs (.inl (x:Nat)) (bV b):=by rw[AT.bx];rfl
   show (PFx.of [false,false,false,true] 6 (gS (dP k))).G [bV b,liV ws,atV (.lf x),.dct kvs]=_;rw[gq,av,pe];unfold gS;generalize bV b=bv at *;generalize liV ws=wv at *;simp![i1,J4,kl]
 |
  h2 w ts ih=>
  intro k b kvs hd hy hi hl hc hk;cases k with
  |zero=>simp [AT.dep] at hd
  |
   succ k=>
   rw[AT.dep] at hd;rw[AT.lvs] at hi hl hk;rw[AT.cnt] at hc;have hd':=AT.depL_le.mp (show AT.depL ts<=k by omega);have pe:=uD hy hnm hi hl (by omega);have hy':=hy;rw[AT.lay] at hy';obtain⟨s4,s5,lo⟩:=mT (ws:=ws) (n:=n) (m:=m) (k:=k) (bV b) (atV (.nd w ts)) ts (aP b (wy w) (ts.map (wtT ws))) kvs .no .no rfl rfl (by rw[yg,p_]) (λt c kv ht hy2 hk2=>ih t ht k c kv (hd' t ht) hy2 (λi hi2=>hi i (AT.lvsL_mem.mpr ⟨t,ht,hi2⟩)) (by have:=AT.lvs_le ht;omega) (by have:=AT.cnt_le ht;omega) hk2) hy'.2.2.2.2.2.2 hk;have av:atV (.nd w ts)=.tup [.str (wy w),.tup (ts.map atV)]:=by unfold atV;rw[AT.val,AT.vals_map]
   have bxe:AT.bx ws (.nd w ts) b=AT.bxL ws ts (aP b (wy w) (ts.map (wtT ws))):=by rw[AT.bx]
   show (PFx.of [false,false,false,true] 6 (gS (dP k))).G [bV b,liV ws,atV (.nd w ts),.dct kvs]=_;rw[gq,bxe];unfold gS;rw[av] at pe lo ⊢;have i1:∀xs:List Val,(aX bz).G [.tup xs,.ty "tuple"]=.val (.bl true):=λ_=>rfl;generalize cP kvs (AT.bxL ws ts (aP b (wy w) (ts.map (wtT ws))))=kvs1 at *;generalize (aP b (wy w) (ts.map (wtT ws))).map bV=PB at *;generalize ts.map atV=TV at *;generalize bV b=bv at *;generalize liV ws=wv at *;simp![i1,nD,pe,lo]
def rN{ws:List Int}{n m:Nat}{b:Bx}{t:AT}(hnm:n+n+m<=8000)(hb:b.Ok)(h0:ws≠[])(hw:∀w∈ws,1<=w)(h40:ws.length<=40)(ho:t.ok=true)(hi:∀k,k∈t.lvs ↔ k<ws.length)(nd:t.lvs.Nodup)(hl:t.lvs.length=ws.length)(hd:t.dep<=42)(hy:AT.lay ws n m t b):df.G [bV b,liV ws,atV t]=.ok (.new (.lst ((List.range ws.length).map λk=>bV (bxO (AT.bx ws t b) k)))) []:=by
 have hc:=AT.cnt_lvs t ho;have cb:=bj hb;have cw:=gx h0 hw h40;have ct:=pK (n:=ws.length) ho (λk hk=>(hi k).mp hk) nd hl (by omega) (by omega);have pl:=Bw (ws:=ws) hnm t 42 b [] hd hy (λk hk=>(hi k).mp hk) (by omega) (by omega) (by rw[Nr];omega);have ll:((ws.map Val.int).length:Nat)=ws.length:=p_ ..;have rg:jL [.int (ws.length:Nat)]=some (rgV ws.length):=kz (by omega);have keys:=AT.bx_keys ws t b;obtain⟨e',⟨s,rfl,_⟩,lc⟩:=cQ (g:=(gtN 0).G) (F:=(pOp wK (af 1) (af 0)).G) (λk:Nat=>Val.int k) (λk:Nat=>bV (bxO (AT.bx ws t b) k)) (λe=>∃s:Sl,e=[s,.mu (.dct (cP [] (AT.bx ws t b)))]/\s.pl=true) (List.range ws.length) [] [.no,.mu (.dct (cP [] (AT.bx ws t b)))] ⟨.no,rfl,rfl⟩ (by
  rintro k hk _ ⟨s,rfl,hs⟩;rw[M_] at hk;have lk:=LZ ((vB (k:=k) (AT.bx ws t b) [] (by rw[keys];exact nd)).1 (by rw[keys];exact (hi k).mpr hk));generalize cP [] (AT.bx ws t b)=kv at *;generalize bV (bxO (AT.bx ws t b) k)=bv at *;refine⟨[.sh (.int (k:Nat)),.mu (.dct kv)],.val bv,[.sh (.int (k:Nat)),.mu (.dct kv)],?_,?_,rfl,_,rfl,rfl⟩
  .simp![hs]
  .simp![lk]) (by rw[Nr,w_];omega)
 have l2:((List.range ws.length).map λk=>bV (bxO (AT.bx ws t b) k)).length<=16777216:=by simp;omega
 rw[NH] at lc;rw[show (List.range ws.length).map (λk:Nat=>Val.int k)=rgV ws.length from rfl] at lc;generalize (List.range ws.length).map (λk=>bV (bxO (AT.bx ws t b) k))=RB at *;generalize cP [] (AT.bx ws t b)=kv at *;unfold liV at pl ⊢;generalize atV t=tv at *;generalize bV b=bv at *;unfold df;rw[aB];unfold mY;simp![cb,cw,ll,ct,pl,rg,bL,inS,lc,l2]
def nO{ns:List Int}{k:Int}(hk:0<=k):∃a,dk.G [.kl (ns.map .int),.int k]=.ok (.new (fdV a 0 k)) []:=by
 unfold dk;rw[aB];unfold nH fdV;by_cases h0:ns.length=0
 .have e:((((ns.map Val.int).length:Nat):Int)==0)=true:=by rw[NA,p_];omega
  exact⟨0,by simp![e]⟩
 .have e:((((ns.map Val.int).length:Nat):Int)==0)=false:=by rw[F_,p_];omega
  have e1:bU.G (.int k) (.int ((ns.map Val.int).length:Nat))=.val (.int (k.fmod ((ns.map Val.int).length:Nat))):=eU (by rw[p_];omega);have r:=dY (a:=k) (m:=((ns.map Val.int).length:Nat)) (by rw[p_];omega);rw[p_] at r e1;have hi:(k.fmod (ns.length:Nat)).toNat<ns.length:=by omega
  have at1:atI (ns.map Val.int) (k.fmod (ns.length:Nat))=some (.int ns[(k.fmod (ns.length:Nat)).toNat]):=dq r.1 (by rw[Nm,v_ hi];rfl);rw[p_] at e;exact⟨ns[(k.fmod (ns.length:Nat)).toNat],by simp![p_,e,e1,at1]⟩
def pow6:f6.G (.int 10) (.int 6)=.val (.int 1000000):=qz ⟨by decide,by decide,by decide⟩
def K6:jL [.int 6]=some [.int 0,.int 1,.int 2,.int 3,.int 4,.int 5]:=uS (i:=6) (by decide) (by decide)
def fR{a b k far:Int}(h0:0<=far)(hf:far.natAbs<=2000000000000000000000000000000):∃r a' b',br.G [fdV a b k,.int far]=.ok (.val (.int r)) [fdV a' b' k]/\-far<=r/\r<=far:=by obtain⟨r1,a1,b1,e1,_,_⟩:=aF (a:=a) (b:=b) (k:=k) (m:=1000000) (by decide) (sm8 (by decide));obtain⟨r2,a2,b2,e2,_,_⟩:=aF (a:=a1) (b:=b1) (k:=k) (m:=1000000) (by decide) (sm8 (by decide));obtain⟨r3,a3,b3,e3,_,_⟩:=aF (a:=a2) (b:=b2) (k:=k) (m:=1000000) (by decide) (sm8 (by decide));obtain⟨r4,a4,b4,e4,_,_⟩:=aF (a:=a3) (b:=b3) (k:=k) (m:=1000000) (by decide) (sm8 (by decide));obtain⟨r5,a5,b5,e5,_,_⟩:=aF (a:=a4) (b:=b4) (k:=k) (m:=1000000) (by decide) (sm8 (by decide));obtain⟨r6,a6,b6,e6,_,_⟩:=aF (a:=a5) (b:=b5) (k:=k) (m:=1000000) (by decide) (sm8 (by decide));have c6:∀x:Int,bB.G (.int x) (.int 1000000)=.val (.int (x*1000000)):=λx=>cC (CMulA.right (by decide) (by decide));have c2:bB.G (.int 2) (.int far)=.val (.int (2*far)):=cC (CMulA.left (by decide) (by decide));have c3:∀x:Int,bU.G (.int x) (.int (2*far+1))=.val (.int (x.fmod (2*far+1))):=λx=>eU (by omega);have fr:=dY (a:=(((((0*1000000+r1)*1000000+r2)*1000000+r3)*1000000+r4)*1000000+r5)*1000000+r6) (m:=2*far+1) (by omega);refine⟨((((((0*1000000+r1)*1000000+r2)*1000000+r3)*1000000+r4)*1000000+r5)*1000000+r6).fmod (2*far+1)-far,a6,b6,?_,by omega,by omega⟩;unfold br;rw[aB];unfold lu ku;unfold fdV at *;simp![K6,dg,pow6,c6,e1,e2,e3,e4,e5,e6,c2,c3,Int.reduceMul]
theorem rb(x y:Val):∀(n one b_:Nat),b_<=n->(xWh (qOf (pOp bGt (af 3) (ai 0))) gI).G [.sh x,.sh y,.sh (.int (one:Nat)),.sh (.int (b_:Nat))]=.nx [.sh x,.sh y,.sh (.int (Nat.gcd one b_:Nat)),.sh (.int 0)]
 |
  n,one,0,_=>by
  rw[gA];simp![Nat.gcd_zero_right,Int.natCast_zero,Int.lt_irrefl]
 |0,one,b_+1,hl=>absurd hl (by omega)
 |
  n+1,one,b_+1,hl=>by
  rw[gA];have e:decide ((0:Int)<((b_+1:Nat):Int))=true:=I_ (by omega);have e1:bU.G (.int (one:Nat)) (.int ((b_+1:Nat):Int))=.val (.int (((one:Nat):Int).fmod ((b_+1:Nat):Int))):=eU (by omega);have e2:((one:Nat):Int).fmod ((b_+1:Nat):Int)=((one % (b_+1):Nat):Int):=by rw[Pm _ (by omega)];rfl
  have ih:=rb x y n (b_+1) (one % (b_+1)) (by have:=Nat.mod_lt one (show b_+1>0 by omega);omega);rw[Fr.euc] at ih;rw[e2] at e1;have bb:gI.G [.sh x,.sh y,.sh (.int (one:Nat)),.sh (.int ((b_+1:Nat):Int))]=.nx [.sh x,.sh y,.sh (.int ((b_+1:Nat):Int)),.sh (.int ((one % (b_+1):Nat):Int))]:=by unfold gI;simp![e1]
  simp![e,bb,ih]
def jg{a b:Int}(hb:b≠0)(hs:Sm 8000 b):cp.G [.int a,.int b]=.ok (.val (fV ((a:Rat)/(b:Rat)))) []:=by
 unfold cp;rw[aB];unfold o6;have lo:=rb (.int a) (.int b) b.natAbs a.natAbs b.natAbs (t_ _);rw[show Nat.gcd a.natAbs b.natAbs=Int.gcd a b from rfl] at lo;have c:∀x,CDivB x (Fr.dv a b):=λx=>CDivB.of (Fr.dv_ne hb) (hs.of_le (by rw[Fr.dv_abs];exact Nat.le_of_dvd (by omega) (Nat.gcd_dvd_right a.natAbs b.natAbs)));have k1:=kR (c a);have k2:=kR (c b);have hh:=nv (a:=a) hb;have d_:Val.tup [.int (a.fdiv (Fr.dv a b)),.int (b.fdiv (Fr.dv a b))]=fV ((a:Rat)/(b:Rat)):=by unfold fV;rw[<- hh.1,<- hh.2];rfl
 by_cases hn:b<0
 .have hd:Fr.dv a b=0-((Int.gcd a b:Nat):Int):=by unfold Fr.dv;rw[if_pos hn];omega
  rw[hd] at k1 k2 d_;simp![gU,lo,I_ hn,k1,k2,d_]
 .have hd:Fr.dv a b=((Int.gcd a b:Nat):Int):=by unfold Fr.dv;rw[if_neg hn]
  rw[hd] at k1 k2 d_;simp![gU,lo,C_ hn,k1,k2,d_]
def p30:f6.G (.int 10) (.int 30)=.val (.int 1000000000000000000000000000000):=qz ⟨by decide,by decide,by decide⟩
def rmQ(k:Int)(r:SR3):Prop:=∃b a c,Good b/\l8 [true] r=.ok (.val (bV b)) [fdV a c k]
def rmI(k way:Int)(e:E3):Prop:=∃b x a c,Good b/\x.pl=true/\e=[.mu (fdV a c k),.sh (.int way),.sh (fV b.l),.sh (fV b.t),.sh (fV b.w),.sh (fV b.h),x]
def jn{r:Int}(h:0<=r):0<1+r:=by omega
def wJ{r:Int}(h:0<=r):1+r≠0:=by omega
def iK{r m:Int}(h0:0<=r)(h1:r<m)(hm:m<=1000):(1+r).natAbs<=2000000000000000000000000000000:=by omega
def qM{r m c:Int}(h0:0<=r)(h1:r<m)(hm:m<=1000)(hc:0<=c/\c<=1000):(r-c).natAbs<=2000000000000000000000000000000:=by omega
def nW{r far:Int}(h0:-far<=r)(h1:r<=far)(hf:far<=1000000000000000000000000000000):r.natAbs<=2000000000000000000000000000000/\(1+((r.natAbs:Nat):Int)).natAbs<=2000000000000000000000000000000:=by omega
def qH{r:Int}:0<1+((r.natAbs:Nat):Int):=by omega
def zJ{r:Int}(h:0<r):r≠0:=by omega
def FK(a c k:Int):∃b a' c',Good b/\fI.G [fdV a c k]=.ok (.val (bV b)) [fdV a' c' k]:=by
 unfold fI;rw[wV rfl];show rmQ k (jK.G [.mu (fdV a c k),.no,.no,.no,.no,.no,.no]);unfold jK;obtain⟨way,a1,c1,e1,hw0,hw1⟩:=aF (a:=a) (b:=c) (k:=k) (m:=6) (by decide) (sm8 (by decide));refine aQ (λe=>e=[.mu (fdV a1 c1 k),.sh (.int way),.no,.no,.no,.no,.no]) ⟨_,by simp![e1],rfl⟩ ?_;rintro _ rfl;obtain⟨l,a2,c2,e2,hl0,hl1⟩:=aF (a:=a1) (b:=c1) (k:=k) (m:=19) (by decide) (sm8 (by decide));obtain⟨t,a3,c3,e3,ht0,ht1⟩:=aF (a:=a2) (b:=c2) (k:=k) (m:=19) (by decide) (sm8 (by decide));refine aQ (λe=>e=[.mu (fdV a3 c3 k),.sh (.int way),.sh (fV ((l-9:Int):Rat)),.sh (fV ((t-9:Int):Rat)),.no,.no,.no]) ⟨_,by simp![e2,e3,iV],rfl⟩ ?_;rintro _ rfl;obtain⟨w,a4,c4,e4,hww0,hww1⟩:=aF (a:=a3) (b:=c3) (k:=k) (m:=12) (by decide) (sm8 (by decide));obtain⟨hh,a5,c5,e5,hh0,hh1⟩:=aF (a:=a4) (b:=c4) (k:=k) (m:=12) (by decide) (sm8 (by decide));refine aQ (rmI k way) ⟨[.mu (fdV a5 c5 k),.sh (.int way),.sh (fV ((l-9:Int):Rat)),.sh (fV ((t-9:Int):Rat)),.sh (fV ((1+w:Int):Rat)),.sh (fV ((1+hh:Int):Rat)),.no],by simp![e4,e5,iV],⟨_,_,_,_⟩,.no,a5,c5,⟨⟨gc (jn hww0),gc (jn hh0)⟩,⟨gu (qM hl0 hl1 (by decide) (by decide)),gu (qM ht0 ht1 (by decide) (by decide)),gu (iK hww0 hww1 (by decide)),gu (iK hh0 hh1 (by decide))⟩⟩,rfl,rfl⟩ ?_;rintro _ ⟨b,x,a,c,gb,hx,rfl⟩;refine aQ (rmI k way) ?_ ?_
 .by_cases hw:way=1
  .subst hw;exact⟨[.mu (fdV a c k),.sh (.int 1),.sh (fV b.l),.sh (fV b.t),.sh (fV b.w),.sh (fV b.w),x],by simp![kP],⟨b.l,b.t,b.w,b.w⟩,x,a,c,⟨⟨gb.ok.w,gb.ok.w⟩,⟨gb.sz.l,gb.sz.t,gb.sz.w,gb.sz.w⟩⟩,hx,rfl⟩
  .exact⟨_,by simp![F_.mpr hw],b,x,a,c,gb,hx,rfl⟩
 rintro _ ⟨b,x,a,c,gb,hx,rfl⟩;refine aQ (rmI k way) ?_ ?_
 .by_cases hw:way=2
  .subst hw;obtain⟨r,a1,c1,e1,h0,h1⟩:=aF (a:=a) (b:=c) (k:=k) (m:=99) (by decide) (sm8 (by decide));exact⟨[.mu (fdV a1 c1 k),.sh (.int 2),.sh (fV b.l),.sh (fV b.t),.sh (fV ((1+r:Int):Rat)),.sh (fV b.h),x],by simp![e1,iV],⟨b.l,b.t,((1+r:Int):Rat),b.h⟩,x,a1,c1,⟨⟨gc (jn h0),gb.ok.h⟩,⟨gb.sz.l,gb.sz.t,gu (iK h0 h1 (by decide)),gb.sz.h⟩⟩,hx,rfl⟩
  .exact⟨_,by simp![F_.mpr hw],b,x,a,c,gb,hx,rfl⟩
 rintro _ ⟨b,x,a,c,gb,hx,rfl⟩;refine aQ (rmI k way) ?_ ?_
 .by_cases hw:way=3
  .subst hw;obtain⟨r,a1,c1,e1,h0,h1⟩:=aF (a:=a) (b:=c) (k:=k) (m:=99) (by decide) (sm8 (by decide));exact⟨[.mu (fdV a1 c1 k),.sh (.int 3),.sh (fV b.l),.sh (fV b.t),.sh (fV b.w),.sh (fV ((1+r:Int):Rat)),x],by simp![e1,iV],⟨b.l,b.t,b.w,((1+r:Int):Rat)⟩,x,a1,c1,⟨⟨gb.ok.w,gc (jn h0)⟩,⟨gb.sz.l,gb.sz.t,gb.sz.w,gu (iK h0 h1 (by decide))⟩⟩,hx,rfl⟩
  .exact⟨_,by simp![F_.mpr hw],b,x,a,c,gb,hx,rfl⟩
 rintro _ ⟨b,x,a,c,gb,hx,rfl⟩;refine aQ (rmI k way) ?_ ?_
 .by_cases hw:way=4
  .subst hw;obtain⟨r1,a1,c1,e1,h10,h11⟩:=aF (a:=a) (b:=c) (k:=k) (m:=199) (by decide) (sm8 (by decide));obtain⟨r2,a2,c2,e2,h20,h21⟩:=aF (a:=a1) (b:=c1) (k:=k) (m:=30) (by decide) (sm8 (by decide));obtain⟨r3,a3,c3,e3,h30,h31⟩:=aF (a:=a2) (b:=c2) (k:=k) (m:=9) (by decide) (sm8 (by decide));obtain⟨r4,a4,c4,e4,h40,h41⟩:=aF (a:=a3) (b:=c3) (k:=k) (m:=99) (by decide) (sm8 (by decide));obtain⟨r5,a5,c5,e5,h50,h51⟩:=aF (a:=a4) (b:=c4) (k:=k) (m:=30) (by decide) (sm8 (by decide));obtain⟨r6,a6,c6,e6,h60,h61⟩:=aF (a:=a5) (b:=c5) (k:=k) (m:=99) (by decide) (sm8 (by decide));have l1:=jg (a:=r1-99) (b:=1+r2) (wJ h20) (kE (iK h20 h21 (by decide)));have l2:=jg (a:=r3) (b:=7) (by decide) (kE (by decide));have l3:=jg (a:=1+r4) (b:=1+r5) (wJ h50) (kE (iK h50 h51 (by decide)));have l4:=jg (a:=1+r6) (b:=11) (by decide) (kE (by decide));exact⟨[.mu (fdV a6 c6 k),.sh (.int 4),.sh (fV (((r1-99:Int):Rat)/((1+r2:Int):Rat))),.sh (fV (((r3:Int):Rat)/((7:Int):Rat))),.sh (fV (((1+r4:Int):Rat)/((1+r5:Int):Rat))),.sh (fV (((1+r6:Int):Rat)/((11:Int):Rat))),x],by simp![e1,e2,e3,e4,e5,e6,l1,l2,l3,l4],⟨_,_,_,_⟩,x,a6,c6,⟨⟨fW (jn h40) (jn h50),fW (jn h60) (by decide)⟩,⟨gW (wJ h20) (qM h10 h11 (by decide) (by decide)) (iK h20 h21 (by decide)),gW (by decide) (by have:=qM (c:=0) h30 h31 (by decide) (by decide);rw[Int.sub_zero] at this;exact this) (by decide),gW (wJ h50) (iK h40 h41 (by decide)) (iK h50 h51 (by decide)),gW (by decide) (iK h60 h61 (by decide)) (by decide)⟩⟩,hx,rfl⟩
  .exact⟨_,by simp![F_.mpr hw],b,x,a,c,gb,hx,rfl⟩
 rintro _ ⟨b,x,a,c,gb,hx,rfl⟩;refine aQ (rmI k way) ?_ ?_
 .by_cases hw:way=5
  .subst hw;obtain⟨r1,a1,c1,e1,h10,h11⟩:=fR (a:=a) (b:=c) (k:=k) (far:=999999999999999999999999999999) (by decide) (by decide);obtain⟨r2,a2,c2,e2,h20,h21⟩:=fR (a:=a1) (b:=c1) (k:=k) (far:=999999999999999999999999999998) (by decide) (by decide);obtain⟨r3,a3,c3,e3,h30,h31⟩:=fR (a:=a2) (b:=c2) (k:=k) (far:=999999999999999999999999999999) (by decide) (by decide);obtain⟨r4,a4,c4,e4,h40,h41⟩:=fR (a:=a3) (b:=c3) (k:=k) (far:=999999999999999999999999999998) (by decide) (by decide);obtain⟨r5,a5,c5,e5,h50,h51⟩:=fR (a:=a4) (b:=c4) (k:=k) (far:=999999999999999999999999999998) (by decide) (by decide);have n2:=gU r2;have n4:=gU r4;have n5:=gU r5;have l1:=jg (a:=r1) (b:=1+((r2.natAbs:Nat):Int)) (zJ qH) (kE (nW h20 h21 (by decide)).2);have l4:=jg (a:=1+((r5.natAbs:Nat):Int)) (b:=999999999999999999999999999999) (by decide) (kE (by decide));exact⟨[.mu (fdV a5 c5 k),.sh (.int 5),.sh (fV (((r1:Int):Rat)/((1+((r2.natAbs:Nat):Int):Int):Rat))),.sh (fV ((r3:Int):Rat)),.sh (fV ((1+((r4.natAbs:Nat):Int):Int):Rat)),.sh (fV (((1+((r5.natAbs:Nat):Int):Int):Rat)/((999999999999999999999999999999:Int):Rat))),.sh (.int 999999999999999999999999999999)],by simp![hx,p30,e1,e2,e3,e4,e5,n2,n4,n5,l1,l4,iV],⟨_,_,_,_⟩,_,a5,c5,⟨⟨gc qH,fW qH (by decide)⟩,⟨gW (zJ qH) (nW h10 h11 (by decide)).1 (nW h20 h21 (by decide)).2,gu (nW h30 h31 (by decide)).1,gu (nW h40 h41 (by decide)).2,gW (by decide) (nW h50 h51 (by decide)).2 (by decide)⟩⟩,rfl,rfl⟩
  .exact⟨_,by simp![F_.mpr hw],b,x,a,c,gb,hx,rfl⟩
 rintro _ ⟨b,x,a,c,gb,hx,rfl⟩;refine⟨b,a,c,gb,?_⟩;simp![xu,bV]
noncomputable def lwB (b:Bx):Bool:=!decide (b.w<b.h)
def dU{b:Bx}{n:Nat}(hb:b.Ok)(hs:b.Sz n)(h:n<=8000):bN.G [bV b]=.ok (.val (.str (wy (lwB b)))) []:=by
 have cb:=bj hb;have il:=bC hs.w hs.h (by omega) (by omega);have ib:(bV b).items=some [fV b.l,fV b.t,fV b.w,fV b.h]:=rfl;unfold bN lwB;rw[aB];unfold mr;by_cases hl:b.w<b.h
 .rw[I_ hl] at il ⊢;simp![cb,ib,il];rfl
 .rw[C_ hl] at il ⊢;simp![cb,ib,il];rfl
def Bd(m B:Nat)(b:Bx)(n:Nat):Prop:=∃D A,Rp D A B b/\B<=A/\1<=A/\(A+n*B)*(D*2^(m*n))<2^2000
def Bd.fine{m B n:Nat}{b:Bx}(h:Bd m B b n):b.Ok/\b.Sz 2000:=by obtain⟨D,A,r,hBA,hA,hq⟩:=h;exact r.fine hBA hA hq
def Bd.ok{m B n:Nat}{b:Bx}(h:Bd m B b n):b.Ok:=h.fine.1
def Bd.sz{m B n:Nat}{b:Bx}(h:Bd m B b n):b.Sz 2000:=h.fine.2
def Bd.part{m B n k:Nat}{b c:Bx}{way:Str}{ws:List Int}(h:Bd m B b n)(hw:∀w∈ws,1<=w)(hS:ws.sum<2^m)(hc:c∈aP b way ws)(hk:k<n):Bd m B c k:=by
 obtain⟨D,A,r,hBA,hA,hq⟩:=h;have hT:ws.sum.toNat<=2^m:=by
  have h4:((2^m:Nat):Int)=(2:Int)^m:=by push_cast;rfl
  rw[<- h4] at hS;generalize 2^m=X at hS ⊢;clear hq;omega
 refine⟨D*ws.sum.toNat,A+B,r.parts hw hc,by omega,by omega,Ox (NO ?_ ?_) hq⟩
 .have:(k+1)*B<=n*B:=OC _ hk;rw[Nat.add_mul,Nat.one_mul] at this;omega
 .rw[PN];refine Oq _ ?_;have e:2^m*2^(m*k)=2^(m*(k+1)):=by rw[<- ON];congr 1;rw[Nat.mul_add,Nat.mul_one,Nat.add_comm]
  exact Nu (OC _ hT) (by rw[e];exact N5 (by decide) (Oq _ hk))
def sQ(b:Bx)(w:Bool)(x y:Int):aP b (wy w) [x,y]=[aM b w (x+y) 0 x,aM b w (x+y) x y]:=by rw[fj];simp [frm]
def yt(w:Bool):wy w="across" \/ wy w="down":=by cases w;exact .inr rfl;exact .inl rfl
def zF{m:Nat}{S:Int}(h0:0<=S)(h:S<2^m):Sm m S:=by
 show S.natAbs<2^m;have h4:((2^m:Nat):Int)=(2:Int)^m:=by push_cast;rfl
 rw[<- h4] at h;omega
def jM{b:Bx}{xs:List Int}{m B n i:Nat}(hb:Bd m B b n)(hm:m<=104)(h1:1<=(xs.take i).sum)(h2:1<=(xs.drop i).sum)(hS:(xs.take i).sum+(xs.drop i).sum<2^m):cz.G [bV b,liV xs,.int (i:Nat)]=.ok (.new (.lst [bV (aM b (lwB b) ((xs.take i).sum+(xs.drop i).sum) 0 (xs.take i).sum),bV (aM b (lwB b) ((xs.take i).sum+(xs.drop i).sum) (xs.take i).sum (xs.drop i).sum)])) []:=by
 have lw:=dU hb.ok hb.sz (by decide);have pe:=ke (way:=wy (lwB b)) (ws:=[(xs.take i).sum,(xs.drop i).sum]) (m:=m) hb.ok hb.sz (yt _) (by simp) (λw hw=>by
  rcases J_.mp hw with rfl |hw
  .exact h1
  .rw[NU.mp hw];exact h2) (by
  rw[show [(xs.take i).sum,(xs.drop i).sum].sum=(xs.take i).sum+(xs.drop i).sum from by simp];exact zF (by omega) hS) (by omega) (by show 2<=40;decide)
 rw[sQ] at pe;simp only[x_,Nt] at pe;have ct:=gw (xs.map Val.int) i;have cd:=ir (xs.map Val.int) i;rw[<- Of] at ct;rw[<- OE] at cd;have m1:=cm (xs.take i);have m2:=cm (xs.drop i);unfold cz;rw[aB];unfold jW;unfold liV;generalize (xs.take i).map Val.int=w1 at *;generalize (xs.drop i).map Val.int=w2 at *;generalize xs.map Val.int=w3 at *;generalize bV (aM b (lwB b) ((xs.take i).sum+(xs.drop i).sum) 0 (xs.take i).sum)=b1 at *;generalize bV (aM b (lwB b) ((xs.take i).sum+(xs.drop i).sum) (xs.take i).sum (xs.drop i).sum)=b2 at *;generalize bV b=bv at *;generalize wy (lwB b)=yy at *;simp![lw,fJ,ct,cd,m1,m2,pe]
def rf{p q:Rat}(hq:q≠0):p/q=((p.num*q.den:Int):Rat)/((p.den*q.num:Int):Rat):=by
 have h1:=gZ (b8 p);have h2:=gZ (b8 q);have h3:q.num≠0:=λz=>hq (Qe.mp z);have h4:=gZ h3
 conv=>lhs;rw[eC p,eC q]
 rw[NZ,NZ];simp only[Rat.div_def,Rat.inv_mul_rev,Rat.inv_inv];rw[Rat.mul_assoc,Rat.mul_assoc,Rat.mul_comm (((p.den:Int):Rat))⁻¹,Rat.mul_assoc]
def vK{p q:Rat}{n m:Nat}(hp:Sz n p)(hq:Sz m q)(h0:0<q)(h:n+m<=8000):iY.G [fV p,fV q]=.ok (.val (fV (p/q))) []:=by
 have c1:=cC (CMulA.of hp.top hq.bot (by omega) (by omega));have c2:=cC (CMulA.of hp.bot hq.top (by omega) (by omega));have hq0:q≠0:=λz=>by rw[z] at h0;exact absurd h0 (by decide)
 have hn:q.num≠0:=λz=>hq0 (Qe.mp z);have fe:=dS (a:=p.num*q.den) (b:=p.den*q.num) (OR (b8 p) hn) ((hp.bot.mul hq.top).mono h);rw[<- rf hq0] at fe;unfold iY;rw[aB];unfold zm;rw[show fV p=.tup [.int p.num,.int p.den] from rfl,show fV q=.tup [.int q.num,.int q.den] from rfl];simp![c1,c2,fe]
def A8{b:Bx}{n:Nat}(hb:b.Ok)(hs:b.Sz n)(h:n+n<=8000):i6.G [bV b]=.ok (.val (fV (eE b))) []:=by
 have lw:=dU hb hs (by omega);have ib:(bV b).items=some [fV b.l,fV b.t,fV b.w,fV b.h]:=rfl;have o1:=vK hs.w hs.h hb.2 h;have o2:=vK hs.h hs.w hb.1 h;unfold i6 eE;rw[aB];unfold vU;by_cases hl:b.w<b.h
 .rw[show wy (lwB b)="down" from by unfold lwB;rw[I_ hl];rfl] at lw;rw[if_pos hl];simp![lw,ib,o1,o2,uv]
 .rw[show wy (lwB b)="across" from by unfold lwB;rw[C_ hl];rfl] at lw;rw[if_neg hl];simp![lw,ib,o1,o2,sx]
def Sz.over{p q:Rat}{n m:Nat}(hp:Sz n p)(hq:Sz m q)(h0:0<q):Sz (n+m) (p/q):=by
 have hq0:q≠0:=λz=>by rw[z] at h0;exact absurd h0 (by decide)
 have hn:q.num≠0:=λz=>hq0 (Qe.mp z);rw[rf hq0];exact Sz.div (OR (b8 p) hn) (hp.top.mul hq.bot) (hp.bot.mul hq.top) (n+m) (t_ _) (t_ _)
def JA{b:Bx}{n:Nat}(hb:b.Ok)(hs:b.Sz n):Sz (n+n) (eE b):=by
 unfold eE;split
 .exact Sz.over hs.h hs.w hb.1
 .exact Sz.over hs.w hs.h hb.2
noncomputable def inT (f:List Int->Nat) (ws:List Int):Nat->Bx->List Nat->AT
 |0,_,l=>.lf (l.headD 0)
 |N
  + 1,b,l=>if l.length=1 then .lf (l.headD 0) else
  .nd (lwB b) [inT f ws N (aM b (lwB b) (wtA ws l) 0 (wtA ws (l.take (f (l.map λk=>ws.getD k 0))))) (l.take (f (l.map λk=>ws.getD k 0))),
   inT f ws N (aM b (lwB b) (wtA ws l) (wtA ws (l.take (f (l.map λk=>ws.getD k 0)))) (wtA ws (l.drop (f (l.map λk=>ws.getD k 0))))) (l.drop (f (l.map λk=>ws.getD k 0)))]
structure HowM(f:List Int->Nat)(nm:Str)(D:List Int->Prop):Prop where
 tk:∀xs i,D xs->D (xs.take i)
 dr:∀xs i,D xs->D (xs.drop i)
 lt:∀xs:List Int,D xs->2<=xs.length->(∀w∈xs,1<=w)->1<=f xs/\f xs<xs.length
 ev:∀(xs:List Int) (bv lv:Val),D xs->2<=xs.length->xs.length<=40->(∀w∈xs,1<=w)->(aw false 4 (mj [("nearest_to_half",bG),("fewest_to_third",bF)] (af 3) (aa (af 2) ag))).G [.sh bv,.sh lv,.sh (liV xs),.sh (.glb nm),.no,.no,.no,.no,.no]=.nx [.sh bv,.sh lv,.sh (liV xs),.sh (.glb nm),.sh (.int (f xs:Nat)),.no,.no,.no,.no]
def Aw{l:List Nat}{i N n:Nat}(h0:l.length<=N+1)(h1:1<=i)(h2:i<l.length)(hl:l.length<=n):((l.take i).length<=N/\1<=(l.take i).length/\(l.take i).length<=n/\(l.take i).length<l.length)/\(l.drop i).length<=N/\1<=(l.drop i).length/\(l.drop i).length<=n/\(l.drop i).length<l.length:=by rw[NI,N4];omega
def wc{l:List Nat}{i:Nat}{w:Bool}{s t:AT}(h1:1<=i)(h2:i<l.length)(a:s.dep<=(l.take i).length)(b:t.dep<=(l.drop i).length):(AT.nd w [s,t]).dep<=l.length:=by rw[NI] at a;rw[N4] at b;rw[AT.dep,AT.depL,AT.depL,AT.depL];omega
def yR{n:Nat}{x:Int}(h:(n:Int)<=x)(h1:1<=n):1<=x:=by omega
def ttQ(v:Val)(r:SR3):Prop:=l8 [false,false,false,false] r=.ok (.val v) []
theorem mI{f:List Int->Nat}{nm:Str}{D:List Int->Prop}(H:HowM f nm D){ws:List Int}{m B:Nat}(hm:m<=104)(hS:∀l:List Nat,(∀k∈l,k<ws.length)->l.length<=ws.length->wtA ws l<2^m)(hw:∀w∈ws,1<=w)(hn:ws.length<=40):∀(N:Nat) (l:List Nat) (b:Bx),l.length<=N->1<=l.length->l.length<=ws.length->(∀k∈l,k<ws.length)->Bd m B b l.length->D (l.map λk=>ws.getD k 0)->
 (aU N).G [bV b,itV l,liV (l.map λk=>ws.getD k 0),.glb nm]=.ok (.val (atV (inT f ws N b l))) []/\(inT f ws N b l).ok=true/\(inT f ws N b l).lvs=l/\(inT f ws N b l).dep<=l.length
 |0,l,b,h0,h1,_,_,_,_=>by omega
 |
  N+1,l,b,h0,h1,hl,hi,hB,hD=>by
  by_cases hl1:l.length=1
  .obtain⟨k,rfl⟩:=Pa.mp hl1;have a0:atI [Val.int (k:Nat)] 0=some (.int (k:Nat)):=dq (by decide) rfl;have te:inT f ws (N+1) b [k]=.lf k:=by rw[inT];exact if_pos rfl
   rw[te];refine⟨?_,rfl,rfl,by simp [AT.dep]⟩;show (PFx.of [false,false,false,false] 9 (b0 (aU N))).G _=_;rw[gq,show atV (.lf k)=.int (k:Nat) from rfl,show itV [k]=.lst [.int (k:Nat)] from rfl];unfold b0;generalize bV b=bv;generalize liV _=wv;simp![a0]
  .have h2:2<=l.length:=by omega
   have hp:∀k∈l,1<=ws.getD k 0:=λj hj=>by rw[K_,v_ (hi j hj)];exact hw _ (NW _)
   have xl:(l.map λk=>ws.getD k 0).length=l.length:=p_ ..;have xp:∀w∈l.map λk=>ws.getD k 0,1<=w:=λw hw=>by obtain⟨j,hj,rfl⟩:=Nv.mp hw;exact hp j hj
   obtain⟨g1,g2⟩:=H.lt _ hD (by rw[xl];exact h2) xp;have ev:=H.ev (l.map λk=>ws.getD k 0) (bV b) (itV l) hD (by rw[xl];exact h2) (by rw[xl];exact Nu hl hn) xp;rw[inT,if_neg hl1];have ht:∀i,∀j∈l.take i,j∈l:=λi j hj=>Oj hj;have hd:∀i,∀j∈l.drop i,j∈l:=λi j hj=>O3 hj;have wt:∀i,((l.map λk=>ws.getD k 0).take i).sum=wtA ws (l.take i):=λi=>by unfold wtA;rw[Of]
   have wd:∀i,((l.map λk=>ws.getD k 0).drop i).sum=wtA ws (l.drop i):=λi=>by unfold wtA;rw[OE]
   generalize hh:f (l.map λk=>ws.getD k 0)=i at *;rw[xl] at g2;obtain⟨⟨t1,t2,t3,t4⟩,d1,d2,d3,d4⟩:=Aw h0 g1 g2 hl;have p1:=dD (l:=(l.take i).map λk=>ws.getD k 0) (λw hw=>by obtain⟨j,hj,rfl⟩:=Nv.mp hw;exact hp j (ht i j hj));have p2:=dD (l:=(l.drop i).map λk=>ws.getD k 0) (λw hw=>by obtain⟨j,hj,rfl⟩:=Nv.mp hw;exact hp j (hd i j hj));rw[p_] at p1 p2;replace p1:=yR p1 t2;replace p2:=yR p2 d2;have sp:wtA ws l=wtA ws (l.take i)+wtA ws (l.drop i):=by unfold wtA;rw[<- Pw,<- NQ,NY]
   rw[show ((l.take i).map λk=>ws.getD k 0).sum=wtA ws (l.take i) from rfl] at p1;rw[show ((l.drop i).map λk=>ws.getD k 0).sum=wtA ws (l.drop i) from rfl] at p2;have hs:=hS l hi hl;have ct2:=jM (xs:=l.map λk=>ws.getD k 0) (i:=i) hB hm (by rw[wt];exact p1) (by rw[wd];exact p2) (by rw[wt,wd,<- sp];exact hs);have mt:(l.map λk=>ws.getD k 0).take i=(l.take i).map λk=>ws.getD k 0:=by rw[Of]
   have md:(l.map λk=>ws.getD k 0).drop i=(l.drop i).map λk=>ws.getD k 0:=by rw[OE]
   rw[wt,wd,<- sp] at ct2;have pm:∀c∈[aM b (lwB b) (wtA ws l) 0 (wtA ws (l.take i)),aM b (lwB b) (wtA ws l) (wtA ws (l.take i)) (wtA ws (l.drop i))],∀k,k<l.length->Bd m B c k:=λc hc k hk=>hB.part (way:=wy (lwB b)) (ws:=[wtA ws (l.take i),wtA ws (l.drop i)]) (λw hw=>by
    rcases J_.mp hw with rfl |hw
    .exact p1
    .rw[NU.mp hw];exact p2) (by rw[show [wtA ws (l.take i),wtA ws (l.drop i)].sum=wtA ws l from by rw[sp];simp];exact hs) (by rw[sQ,<- sp];exact hc) hk
   obtain⟨a1,a3,a4,a5⟩:=mI H hm hS hw hn N (l.take i) _ t1 t2 t3 (λj hj=>hi j (ht i j hj)) (pm _ (s_ ..) _ t4) (by rw[<- mt];exact H.tk _ _ hD);obtain⟨b1,b3,b4,b5⟩:=mI H hm hS hw hn N (l.drop i) _ d1 d2 d3 (λj hj=>hi j (hd i j hj)) (pm _ (q_ _ (s_ ..)) _ d4) (by rw[<- md];exact H.dr _ _ hD);have lw:=dU hB.ok hB.sz (by decide);generalize inT f ws N (aM b (lwB b) (wtA ws l) 0 (wtA ws (l.take i))) (l.take i)=T1 at *;generalize inT f ws N (aM b (lwB b) (wtA ws l) (wtA ws (l.take i)) (wtA ws (l.drop i))) (l.drop i)=T2 at *;refine⟨?_,?_,?_,?_⟩
   .rw[show atV (.nd (lwB b) [T1,T2])=.tup [.str (wy (lwB b)),.tup [atV T1,atV T2]] from rfl];generalize aM b (lwB b) (wtA ws l) 0 (wtA ws (l.take i))=B1 at *;generalize aM b (lwB b) (wtA ws l) (wtA ws (l.take i)) (wtA ws (l.drop i))=B2 at *;have ctl:=gw (l.map λk:Nat=>Val.int k) i;have cdl:=ir (l.map λk:Nat=>Val.int k) i;rw[<- Of] at ctl;rw[<- OE] at cdl;have ctx:=gw ((l.map λk=>ws.getD k 0).map Val.int) i;have cdx:=ir ((l.map λk=>ws.getD k 0).map Val.int) i;rw[<- Of,mt] at ctx;rw[<- OE,md] at cdx;have n1:(((l.length:Nat):Int)==1)=false:=by rw[F_];omega
    have ll:((l.map λk:Nat=>Val.int k).length:Nat)=l.length:=p_ ..;show (PFx.of [false,false,false,false] 9 (b0 (aU N))).G _=_;rw[IT rfl];show ttQ _ ((b0 (aU N)).G [.sh (bV b),.sh (itV l),.sh (liV (l.map λk=>ws.getD k 0)),.sh (.glb nm),.no,.no,.no,.no,.no]);unfold b0;unfold itV at a1 b1 ev ⊢;unfold liV at a1 b1 ct2 ev ⊢;generalize bV b=bv at *;generalize bV B1=bv1 at *;generalize bV B2=bv2 at *;generalize atV T1=t1 at *;generalize atV T2=t2 at *;generalize wy (lwB b)=yy at *;generalize (l.take i).map (λk:Nat=>Val.int k)=l1 at *;generalize (l.drop i).map (λk:Nat=>Val.int k)=l2 at *;generalize ((l.take i).map λk=>ws.getD k 0).map Val.int=x1 at *;generalize ((l.drop i).map λk=>ws.getD k 0).map Val.int=x2 at *;generalize (l.map λk=>ws.getD k 0).map Val.int=x0 at *;generalize l.map (λk:Nat=>Val.int k)=l0 at *;refine aQ (λe=>e=[.sh bv,.sh (.lst l0),.sh (.lst x0),.sh (.glb nm),.no,.no,.no,.no,.no]) ⟨_,by simp![ll,n1],rfl⟩ ?_;rintro _ rfl;refine aQ (λe=>e=[.sh bv,.sh (.lst l0),.sh (.lst x0),.sh (.glb nm),.sh (.int (i:Nat)),.no,.no,.no,.no]) ⟨_,ev,rfl⟩ ?_;rintro _ rfl;unfold ttQ;simp![ct2,fJ,ctl,cdl,ctx,cdx,a1,b1,lw,xu]
   .rw[AT.ok,AT.okL,AT.okL,AT.okL,a3,b3];rfl
   .rw[AT.lvs,AT.lvsL,AT.lvsL,AT.lvsL,a4,b4,Ny,NY]
   .exact wc g1 g2 a5 b5
def p29:f6.G (.int 10) (.int 29)=.val (.int 100000000000000000000000000000):=qz ⟨by decide,by decide,by decide⟩
def Kd{r:Int}(h0:0<=r)(h1:r<24):∃z,1<=z/\z<=8388608/\qX.G (.int 1) (.int r)=.val (.int z):=by
 have c1:(1:Nat)<=2^r.toNat:=Nat.one_le_two_pow;have c2:2^r.toNat<=2^23:=N5 (by decide) (by omega);have e:(2:Int)^r.toNat=((2^r.toNat:Nat):Int):=by rw[Int.natCast_pow];rfl
 refine⟨1*2^r.toNat,?_,?_,Ng ⟨h0,by omega,by decide⟩⟩
 .rw[Int.one_mul,e];exact Int.ofNat_le.mpr c1
 .rw[Int.one_mul,e];exact Int.ofNat_le.mpr c2
def Fg{ns:List Int}{at_ most many more sty hg k:Int}{acc:List Int}{s9:Sl}(h9:s9.pl=true)(hk:0<=k/\k<=40)(hs:0<=sty/\sty<6)(hh:1<=hg/\hg<=24)(a c q:Int):
 ∃w a' c',1<=w/\w<=8388608/\(aw false 10 (pOp bIx (dW (aa (ai 1) (aa (pOp a9 (ai 1) (ah au (aa (af 3) (aa (ai 9) ag)))) (aa (pOp qX (ai 1) (pOp bU (af 9) (af 8))) (aa (pOp a9 (ai 1) (ah au (aa (af 3) (aa (ai 9) ag)))) (aa (ai 1) (aa (pOp a9 (ai 1) (ah au (aa (af 3) (aa (ai 3) ag)))) ag))))))) (af 6))).G [.sh (.kl (ns.map .int)),.sh (.int at_),.sh (.int most),.ow (fdV a c q),.sh (.int many),.sh (.int more),.sh (.int sty),.ow (.lst (acc.map .int)),.sh (.int hg),.sh (.int k),s9]=.nx [.sh (.kl (ns.map .int)),.sh (.int at_),.sh (.int most),.ow (fdV a' c' q),.sh (.int many),.sh (.int more),.sh (.int sty),.ow (.lst (acc.map .int)),.sh (.int hg),.sh (.int k),.sh (.int w)]:=by
 obtain⟨r1,a1,c1,e1,l1,u1⟩:=aF (a:=a) (b:=c) (k:=q) (m:=9) (by decide) (sm8 (by decide));obtain⟨r2,a2,c2,e2,l2,u2⟩:=aF (a:=a1) (b:=c1) (k:=q) (m:=9) (by decide) (sm8 (by decide));obtain⟨r3,a3,c3,e3,l3,u3⟩:=aF (a:=a2) (b:=c2) (k:=q) (m:=3) (by decide) (sm8 (by decide));have fm:=dY (a:=k) (m:=hg) (by omega);have km:=eU (i:=k) (j:=hg) (by omega);have sh:=Kd fm.1 (by omega);obtain⟨z,z1,z2,z3⟩:=sh;have hc:sty=0\/sty=1\/sty=2\/sty=3\/sty=4\/sty=5:=by omega
 have at6:∃w,1<=w/\w<=8388608/\atI [Val.int 1,.int (1+r1),.int z,.int (1+r2),.int 1,.int (1+r3)] sty=some (.int w):=by
  rcases hc with rfl |rfl |rfl |rfl |rfl |rfl
  .exact⟨1,by decide,by decide,rfl⟩
  .exact⟨1+r1,by omega,by omega,rfl⟩
  .exact⟨z,z1,z2,rfl⟩
  .exact⟨1+r2,by omega,by omega,rfl⟩
  .exact⟨1,by decide,by decide,rfl⟩
  .exact⟨1+r3,by omega,by omega,rfl⟩
 obtain⟨w,w1,w2,w3⟩:=at6;refine⟨w,a3,c3,w1,w2,?_⟩;simp![e1,e2,e3,km,z3,w3,h9]
def wtI(ns:List Int)(at_ most many more sty hg k:Int)(acc:List Int)(e:E3):Prop:=∃w a c q,1<=w/\w<=1000000000000000000000000000000/\(sty<3->w<=8388608)/\e=[.sh (.kl (ns.map .int)),.sh (.int at_),.sh (.int most),.ow (fdV a c q),.sh (.int many),.sh (.int more),.sh (.int sty),.ow (.lst (acc.map .int)),.sh (.int hg),.sh (.int k),.sh (.int w)]
def wtQ(ns:List Int)(at_ most many more sty hg k:Int)(acc:List Int)(r:SR3):Prop:=∃w s3,1<=w/\w<=1000000000000000000000000000000/\(sty<3->w<=8388608)/\s3.pl=true/\r=.nx [.sh (.kl (ns.map .int)),.sh (.int at_),.sh (.int most),s3,.sh (.int many),.sh (.int more),.sh (.int sty),.ow (.lst ((acc++[w]).map .int)),.sh (.int hg),.sh (.int k),.sh (.int w)]
def Fn{ns:List Int}{at_ most many more sty hg k:Int}{acc:List Int}{s3 s9:Sl}(h3:s3.pl=true)(h9:s9.pl=true)(ha:0<=at_)(hk:0<=k/\k<=40)(hs:0<=sty/\sty<6)(hh:1<=hg/\hg<=24)(hl:acc.length<=1000):
 wtQ ns at_ most many more sty hg k acc (eB.G [.sh (.kl (ns.map .int)),.sh (.int at_),.sh (.int most),s3,.sh (.int many),.sh (.int more),.sh (.int sty),.ow (.lst (acc.map .int)),.sh (.int hg),.sh (.int k),s9]):=by
 unfold eB;obtain⟨f,ef⟩:=nO (ns:=ns) (k:=at_+1+k) (by omega);refine aQ (λe=>e=[.sh (.kl (ns.map .int)),.sh (.int at_),.sh (.int most),.ow (fdV f 0 (at_+1+k)),.sh (.int many),.sh (.int more),.sh (.int sty),.ow (.lst (acc.map .int)),.sh (.int hg),.sh (.int k),s9]) ⟨_,by simp![ef,h3],rfl⟩ ?_;rintro _ rfl;refine aQ (wtI ns at_ most many more sty hg k acc) ?_ ?_
 .obtain⟨w,a,c,w1,w2,e⟩:=Fg (ns:=ns) (at_:=at_) (most:=most) (many:=many) (more:=more) (acc:=acc) h9 hk hs hh f 0 (at_+1+k);exact⟨_,e,w,a,c,_,w1,by omega,λ_=>w2,rfl⟩
 rintro _ ⟨w,a,c,q,w1,w2,w3,rfl⟩;refine aQ (wtI ns at_ most many more sty hg k acc) ?_ ?_
 .by_cases h:sty=3
  .subst h;obtain⟨r1,a1,c1,e1,l1,u1⟩:=aF (a:=a) (b:=c) (k:=q) (m:=4) (by decide) (sm8 (by decide));obtain⟨r2,a2,c2,e2,l2,u2⟩:=aF (a:=a1) (b:=c1) (k:=q) (m:=100) (by decide) (sm8 (by decide));by_cases hr:r1=0
   .subst hr;exact⟨[.sh (.kl (ns.map .int)),.sh (.int at_),.sh (.int most),.ow (fdV a2 c2 q),.sh (.int many),.sh (.int more),.sh (.int 3),.ow (.lst (acc.map .int)),.sh (.int hg),.sh (.int k),.sh (.int (100000000000000000000000000000+r2))],by simp![e1,e2,p29],_,_,_,_,by omega,by omega,λz=>absurd z (by decide),rfl⟩
   .exact⟨[.sh (.kl (ns.map .int)),.sh (.int at_),.sh (.int most),.ow (fdV a1 c1 q),.sh (.int many),.sh (.int more),.sh (.int 3),.ow (.lst (acc.map .int)),.sh (.int hg),.sh (.int k),.sh (.int w)],by simp![e1,F_.mpr hr],_,_,_,_,w1,w2,w3,rfl⟩
  .exact⟨_,by simp![F_.mpr h],w,a,c,q,w1,w2,w3,rfl⟩
 rintro _ ⟨w,a,c,q,w1,w2,w3,rfl⟩;refine aQ (wtI ns at_ most many more sty hg k acc) ?_ ?_
 .by_cases h:sty=4
  .subst h;obtain⟨r1,a1,c1,e1,l1,u1⟩:=fR (a:=a) (b:=c) (k:=q) (far:=999999999999999999999999999998) (by decide) (by decide);exact⟨[.sh (.kl (ns.map .int)),.sh (.int at_),.sh (.int most),.ow (fdV a1 c1 q),.sh (.int many),.sh (.int more),.sh (.int 4),.ow (.lst (acc.map .int)),.sh (.int hg),.sh (.int k),.sh (.int (1+if r1<0 then -r1 else r1))],by simp![e1,p30],_,_,_,_,by split <;> omega,by split <;> omega,λz=>absurd z (by decide),rfl⟩
  .exact⟨_,by simp![F_.mpr h],w,a,c,q,w1,w2,w3,rfl⟩
 rintro _ ⟨w,a,c,q,w1,w2,w3,rfl⟩;have ll:(acc.map Val.int).length<16777216:=by rw[p_];omega
 refine⟨w,.ow (fdV a c q),w1,w2,w3,rfl,?_⟩;rw[NQ,x_,Nt];simp![ll]
theorem vP{ns:List Int}{at_ most many more sty hg:Int}(ha:0<=at_)(hs:0<=sty/\sty<6)(hh:1<=hg/\hg<=24):∀(ks:List Nat) (acc:List Int) (s3 s8 s9:Sl),s3.pl=true->s8.pl=true->s9.pl=true->(∀k∈ks,k<=40)->acc.length+ks.length<=1000->
 ∃(ws:List Int) (s3' s8' s9':Sl),ws.length=ks.length/\(∀w∈ws,1<=w/\w<=1000000000000000000000000000000/\(sty<3->w<=8388608))/\cI (gtN 9).G eB.G (ks.map λk:Nat=>Val.int (k:Nat)) [.sh (.kl (ns.map .int)),.sh (.int at_),.sh (.int most),s3,.sh (.int many),.sh (.int more),.sh (.int sty),.ow (.lst (acc.map .int)),.sh (.int hg),s8,s9]=.nx [.sh (.kl (ns.map .int)),.sh (.int at_),.sh (.int most),s3',.sh (.int many),.sh (.int more),.sh (.int sty),.ow (.lst ((acc++ws).map .int)),.sh (.int hg),s8',s9']
 | [],acc,s3,s8,s9,_,_,_,_,_=>⟨[],s3,s8,s9,rfl,(λ_ h=>nomatch h),by rw[Nt,gO,Ny]⟩
 |
  k::ks,acc,s3,s8,s9,h3,h8,h9,hk,hl=>by
  rw[E_] at hl;obtain⟨w,t3,w1,w2,w3,p3,e⟩:=Fn (ns:=ns) (at_:=at_) (most:=most) (many:=many) (more:=more) (sty:=sty) (k:=(k:Nat)) (acc:=acc) h3 h9 ha ⟨by omega,by have:=hk k (s_ ..);omega⟩ hs hh (by omega);obtain⟨ws,s3',s8',s9',q1,q2,q3⟩:=vP (ns:=ns) (most:=most) (many:=many) (more:=more) ha hs hh ks (acc++[w]) t3 (.sh (.int (k:Nat))) (.sh (.int w)) p3 rfl rfl (λj hj=>hk j (q_ _ hj)) (by rw[H_];show acc.length+1+_<=_;omega);refine⟨w::ws,s3',s8',s9',by rw[E_,E_,q1],λx hx=>?_,?_⟩
  .rcases J_.mp hx with rfl |hx
   .exact⟨w1,w2,w3⟩
   .exact q2 x hx
  .have g1:(gtN 9).G (.int (k:Nat)) [.sh (.kl (ns.map .int)),.sh (.int at_),.sh (.int most),s3,.sh (.int many),.sh (.int more),.sh (.int sty),.ow (.lst (acc.map .int)),.sh (.int hg),s8,s9]=some [.sh (.kl (ns.map .int)),.sh (.int at_),.sh (.int most),s3,.sh (.int many),.sh (.int more),.sh (.int sty),.ow (.lst (acc.map .int)),.sh (.int hg),.sh (.int (k:Nat)),s9]:=by simp![h8]
   rw[x_,dg,g1];dsimp only;rw[e];show cI _ _ _ _=_;rw[q3,O0];rfl
def div8{x:Int}:jr.G (.int x) (.int 8)=.val (.int (x.fdiv 8)):=kR (CDivB.of (by decide) (sm8 (by decide)))
def wsQ(M:Int)(r:SR3):Prop:=∃ws:List Int,1<=ws.length/\(ws.length:Int)<=M/\(∀w∈ws,1<=w/\w<=1000000000000000000000000000000)/\(9<ws.length->∀w∈ws,w<=8388608)/\l8 [false,false,false] r=.ok (.new (liV ws)) []
def ws_a{x most M:Int}(h:x<=most)(h1:most<=M)(h7:7<=M):1<=(if x>1 then x else 1)/\(if x>1 then x else 1)<=M:=by split <;> omega
def ws_b{most:Int}(h1:1<=most)(h2:most<=40):0<(if (7:Int)<most then 7 else most)/\Sm 8000 (if (7:Int)<most then 7 else most):=by
 split
 .exact⟨by decide,sm8 (by decide)⟩
 .exact⟨by omega,sm8 (by omega)⟩
def ws_c{r most:Int}(h:r<if (7:Int)<most then 7 else most):1+r<=7:=by split at h <;> omega
def xE{ns:List Int}{at_ most:Int}(ha:0<=at_)(hm:1<=most/\most<=40):∃ws:List Int,1<=ws.length/\(ws.length:Int)<=max most 7/\(∀w∈ws,1<=w/\w<=1000000000000000000000000000000)/\(9<ws.length->∀w∈ws,w<=8388608)/\dE.G [.kl (ns.map .int),.int at_,.int most]=.ok (.new (liV ws)) []:=by
 have x1:most<=max most 7:=Int.le_max_left ..;have x7:(7:Int)<=max most 7:=Int.le_max_right ..;have x4:max most 7<=40:=Int.max_le.mpr ⟨hm.2,by decide⟩;generalize max most 7=M at *;unfold dE;rw[wV rfl];show wsQ M (gC.G [.sh (.kl (ns.map .int)),.sh (.int at_),.sh (.int most),.no,.no,.no,.no,.no,.no,.no,.no]);unfold gC;obtain⟨f,ef⟩:=nO (ns:=ns) (k:=at_) ha;refine aQ (λe=>e=[.sh (.kl (ns.map .int)),.sh (.int at_),.sh (.int most),.ow (fdV f 0 at_),.no,.no,.no,.no,.no,.no,.no]) ⟨_,by simp![ef],rfl⟩ ?_;rintro _ rfl;obtain⟨r1,a1,c1,e1,l1,u1⟩:=aF (a:=f) (b:=0) (k:=at_) (m:=if (7:Int)<most then 7 else most) (ws_b hm.1 hm.2).1 (ws_b hm.1 hm.2).2;refine aQ (λe=>e=[.sh (.kl (ns.map .int)),.sh (.int at_),.sh (.int most),.ow (fdV a1 c1 at_),.sh (.int (1+r1)),.no,.no,.no,.no,.no,.no]) ⟨_,by simp![e1],rfl⟩ ?_;rintro _ rfl;have b1:1+r1<=7:=ws_c u1;obtain⟨r2,a2,c2,e2,l2,u2⟩:=aF (a:=a1) (b:=c1) (k:=at_) (m:=6) (by decide) (sm8 (by decide));refine aQ (λe=>e=[.sh (.kl (ns.map .int)),.sh (.int at_),.sh (.int most),.ow (fdV a2 c2 at_),.sh (.int (1+r1)),.sh (.int r2),.no,.no,.no,.no,.no]) ⟨_,by simp![e2],rfl⟩ ?_;rintro _ rfl;refine aQ (λe=>∃many:Int,1<=many/\many<=M/\e=[.sh (.kl (ns.map .int)),.sh (.int at_),.sh (.int most),.ow (fdV a2 c2 at_),.sh (.int many),.sh (.int r2),.no,.no,.no,.no,.no]) ?_ ?_
 .have mm:=cC (i:=1+r1) (j:=most) (CMulA.of (sm8 (m:=1+r1) (by omega)) (sm8 (m:=most) (by omega)) (by decide) (by decide));by_cases h:r2<2
  .have dl:((1+r1)*most).fdiv 8<=most:=by rw[Int.fdiv_eq_ediv_of_nonneg _ (by decide)];have:(1+r1)*most<=7*most:=Int.mul_le_mul_of_nonneg_right b1 (by omega);omega
   have hc:r2=0\/r2=1:=by omega
   rcases hc with rfl |rfl
   .exact⟨_,by simp![mm,div8],most,hm.1,x1,rfl⟩
   .exact⟨_,by simp![mm,div8],(if ((1+r1)*most).fdiv 8>1 then ((1+r1)*most).fdiv 8 else 1),(ws_a dl x1 x7).1,(ws_a dl x1 x7).2,rfl⟩
  .exact⟨_,by simp![C_ h],1+r1,Int.le_add_of_nonneg_right l1,Int.le_trans b1 x7,rfl⟩
 rintro _ ⟨many,m1,m2,rfl⟩;obtain⟨r3,a3,c3,e3,l3,u3⟩:=aF (a:=a2) (b:=c2) (k:=at_) (m:=6) (by decide) (sm8 (by decide));refine aQ (λe=>e=[.sh (.kl (ns.map .int)),.sh (.int at_),.sh (.int most),.ow (fdV a3 c3 at_),.sh (.int many),.sh (.int r2),.sh (.int r3),.no,.no,.no,.no]) ⟨_,by simp![e3],rfl⟩ ?_;rintro _ rfl;refine aQ (λe=>∃sty:Int,0<=sty/\sty<6/\(9<many->sty<3)/\e=[.sh (.kl (ns.map .int)),.sh (.int at_),.sh (.int most),.ow (fdV a3 c3 at_),.sh (.int many),.sh (.int r2),.sh (.int sty),.no,.no,.no,.no]) ?_ ?_
 .have km:=eU (i:=r3) (j:=3) (by decide);have fm:=dY (a:=r3) (m:=3) (by decide);by_cases h:9<many
  .exact⟨_,by simp![I_ h,km],r3.fmod 3,fm.1,Int.lt_trans fm.2 (by decide),λ_=>fm.2,rfl⟩
  .exact⟨_,by simp![C_ h],r3,l3,u3,λz=>absurd z h,rfl⟩
 rintro _ ⟨sty,t0,t1,t2,rfl⟩;refine aQ (λe=>e=[.sh (.kl (ns.map .int)),.sh (.int at_),.sh (.int most),.ow (fdV a3 c3 at_),.sh (.int many),.sh (.int r2),.sh (.int sty),.ow (.lst []),.no,.no,.no]) ⟨_,by simp![Nr],rfl⟩ ?_;rintro _ rfl;refine aQ (λe=>∃hg:Int,1<=hg/\hg<=24/\e=[.sh (.kl (ns.map .int)),.sh (.int at_),.sh (.int most),.ow (fdV a3 c3 at_),.sh (.int many),.sh (.int r2),.sh (.int sty),.ow (.lst []),.sh (.int hg),.no,.no]) ?_ ?_
 .by_cases h:9<many
  .exact⟨_,by simp![I_ h],4,by decide,by decide,rfl⟩
  .exact⟨_,by simp![C_ h],24,by decide,by decide,rfl⟩
 rintro _ ⟨hg,g1,g2,rfl⟩;have rg:=uS (i:=many) (by omega) (by omega);obtain⟨ws,s3,s8,s9,q1,q2,q3⟩:=vP (ns:=ns) (at_:=at_) (most:=most) (many:=many) (more:=r2) (sty:=sty) (hg:=hg) ha ⟨t0,t1⟩ ⟨g1,g2⟩ (List.range many.toNat) [] (.ow (fdV a3 c3 at_)) .no .no rfl rfl rfl (λk hk=>by have:=M_.mp hk;omega) (by rw[Nr,w_];omega);rw[w_] at q1;rw[NH,Nt] at q3;unfold rgV at rg;refine⟨ws,by omega,by omega,λw hw=>⟨(q2 w hw).1,(q2 w hw).2.1⟩,λh w hw=>(q2 w hw).2.2 (t2 (by omega)),?_⟩;unfold liV;simp![rg,q3];rfl
theorem ma:∀(n:Nat) (l:List Nat),l.length=n->(∀i,i<n->i∈l)->l.Perm (List.range n)
 |0,l,h,_=>by rw[OF.mp h];exact List.Perm.refl _
 |
  n+1,l,h,hm=>by
  have h1:=hm n (by omega);have p:=List.perm_cons_erase h1;have q:=ma n (l.erase n) (by rw[List.length_erase_of_mem h1];omega) λi hi=>(List.mem_erase_of_ne (by omega)).mpr (hm i (by omega));rw[List.range_succ];exact p.trans ((q.cons n).trans (List.perm_append_singleton n _).symm)
def sZ{t:AT}{o:List Nat}{n:Nat}(T:TOk t o)(ho:∀i,i∈o ↔ i<n)(hl:o.length=n):t.lvs.Nodup:=
 (ma n t.lvs (by rw[T.len,hl]) λi hi=>(T.mem i).mpr ((ho i).mpr hi)).nodup_iff.mpr PR
def nL{q:Rat}{k D:Nat}(hs:Sz 101 q)(hD:D=q.den*k)(hk:0<k):∃z:Int,q=(z:Rat)/((D:Int):Rat)/\z.natAbs<=2^101*D/\(0<q->0<z/\z<=((2^101:Nat):Int)*(D:Int)):=by
 have dp:=q.den_pos;have hn:q.num.natAbs<2^101:=hs.1;have hz:(q.num*(k:Int)).natAbs<=2^101*D:=by rw[N7,Int.natAbs_natCast,hD];exact NO (by omega) (Nat.le_mul_of_pos_left _ dp)
 refine⟨q.num*(k:Int),?_,hz,λh=>⟨Int.mul_pos (ve.mpr h) (by omega),?_⟩⟩
 .have:=mU (y:=q.num) (W:=(k:Int)) dp (by omega)
  rw[NJ,<- hD] at this;rw[<- this];exact eC q
 .rw[<- OS];generalize q.num*(k:Int)=z at *;generalize 2^101*D=y at *;omega
def DF{b:Bx}(g:Good b):∃D,D<2^404/\Rp D (2^101) (2^101) b:=by
 have dl:=b.l.den_pos;have dt:=b.t.den_pos;have dw:=b.w.den_pos;have dh:=b.h.den_pos;have sz:∀q:Rat,Sz 101 q->q.den<=2^101:=λq h=>by have:(q.den:Int).natAbs<2^101:=h.2;omega
 have k1:=OA (OA dt dw) dh;have k2:=OA (OA dl dw) dh;have k3:=OA (OA dl dt) dh;have k4:=OA (OA dl dt) dw;refine⟨b.l.den*(b.t.den*b.w.den*b.h.den),?_,OA dl k1,?_,?_,?_,?_⟩
 .have a1:b.l.den<2^101:=by have:(b.l.den:Int).natAbs<2^101:=g.sz.l.2;omega
  have a2:=NO (NO (sz _ g.sz.t) (sz _ g.sz.w)) (sz _ g.sz.h)
  calc b.l.den*(b.t.den*b.w.den*b.h.den)<=b.l.den*(2^101*2^101*2^101):=Oq _ a2
   _<2^101*(2^101*2^101*2^101):=Nat.mul_lt_mul_of_pos_right a1 (by decide)
   _=2^404:=by rw[<- ON,<- ON,<- ON]
 .obtain⟨z,h1,h2,_⟩:=nL (D:=b.l.den*(b.t.den*b.w.den*b.h.den)) g.sz.l rfl k1;exact⟨z,h1,h2⟩
 .obtain⟨z,h1,h2,_⟩:=nL (D:=b.l.den*(b.t.den*b.w.den*b.h.den)) (k:=b.l.den*b.w.den*b.h.den) g.sz.t (by ac_rfl) k2;exact⟨z,h1,h2⟩
 .obtain⟨z,h1,_,h2⟩:=nL (D:=b.l.den*(b.t.den*b.w.den*b.h.den)) (k:=b.l.den*b.t.den*b.h.den) g.sz.w (by ac_rfl) k3;exact⟨z,h1,h2 g.ok.w⟩
 .obtain⟨z,h1,_,h2⟩:=nL (D:=b.l.den*(b.t.den*b.w.den*b.h.den)) (k:=b.l.den*b.t.den*b.w.den) g.sz.h (by ac_rfl) k4;exact⟨z,h1,h2 g.ok.h⟩
structure WOk(ws:List Int):Prop where
 pos:1<=ws.length
 len:ws.length<=40
 wt:∀w∈ws,1<=w/\w<=1000000000000000000000000000000
 few:10<ws.length->∀w∈ws,w<=8388608
theorem j9{ws:List Int}{M:Int}:∀{l:List Nat},(∀k∈l,ws.getD k 0<=M)->wtA ws l<=(l.length:Int)*M
 | [],_=>by simp [wtA]
 |
  k::l,h=>by
  have h1:=h k (s_ ..);have h2:=j9 (l:=l) λj hj=>h j (q_ _ hj);unfold wtA at h2 ⊢;rw[x_,Np,E_,Int.natCast_add,Int.add_mul];omega
def Dy{ws:List Int}{t:AT}{o:List Nat}{b:Bx}(g:Good b)(W:WOk ws)(T:TOk t o)(ho:∀i,i∈o ↔ i<ws.length)(hl:o.length=ws.length):(∀k∈t.lvs,1<=ws.getD k 0)/\∃D m,m<=104/\Rp D (2^101) (2^101) b/\(2^101+t.dep*2^101)*(D*2^(m*t.dep))<2^2000/\wtT ws t<2^m:=by
 obtain⟨D,hD,R⟩:=DF g;have hlt:∀k∈t.lvs,k<ws.length:=λk hk=>(ho k).mp ((T.mem k).mp hk);have hin:∀k∈t.lvs,ws.getD k 0∈ws:=λk hk=>by rw[K_,v_ (hlt k hk)];exact NW _
 have hd:=T.dep;have len:=T.len;have wl:=W.len;refine⟨λk hk=>(W.wt _ (hin k hk)).1,D,?_⟩;have key:∀m,m*t.dep<=1218->m<=104->wtT ws t<2^m->∃m,m<=104/\Rp D (2^101) (2^101) b/\(2^101+t.dep*2^101)*(D*2^(m*t.dep))<2^2000/\wtT ws t<2^m:=λm h1 h2 h3=>by
  refine⟨m,h2,R,?_,h3⟩;have a1:2^101+t.dep*2^101<=2^107:=by
   have h1:=OC (2^101) (show t.dep<=40 by omega);have h2:2^107=64*2^101:=by decide
   rw[h2];generalize 2^101=X at *;omega
  have a2:2^(m*t.dep)<=2^1218:=N5 (by decide) h1;have a3:=NO a1 (NO (O4 hD) a2);refine Ox a3 ?_;rw[<- ON,<- ON];exact Nat.pow_lt_pow_right (by decide) (by decide)
 by_cases h9:10<ws.length
 .refine key 29 (by omega) (by decide) ?_
  have:=j9 (M:=8388608) λk hk=>W.few h9 _ (hin k hk)
  unfold wtT;have:(2:Int)^29=536870912:=by decide
  omega
 .refine key 104 (by omega) (by decide) ?_
  have:=j9 (M:=1000000000000000000000000000000) λk hk=>(W.wt _ (hin k hk)).2
  unfold wtT;have:(2:Int)^104=20282409603651670423947251286016:=by decide
  omega
def qr{ws:List Int}{t:AT}{o:List Nat}{b:Bx}(g:Good b)(W:WOk ws)(T:TOk t o)(ho:∀i,i∈o ↔ i<ws.length)(hl:o.length=ws.length):∃m,m<=104/\AT.lay ws 2000 m t b:=by obtain⟨hw,D,m,h1,R,h2,h3⟩:=Dy g W T ho hl;have len:=T.len;have wl:=W.len;exact⟨m,h1,Im t b D (2^101) R (t_ _) (by decide) h2 T.ok hw h3 (by omega)⟩
theorem vO(m:Int):∀xs:List Int,jI (.int m) (xs.map .int)=some (xs.map (· == m))
 | []=>rfl
 |x::xs=>by rw[x_,jI,vO m xs,DZ];rfl
def yQ{xs:List Int}{m:Int}(h:m∈xs):(xs.map (· == m)).idxOf true<xs.length/\kO.G (.lst (xs.map .int)) [.int m]=.val (.int ((xs.map (· == m)).idxOf true:Nat)):=by have hm:true∈xs.map (· == m):=Nv.mpr ⟨m,h,Pj m⟩;have hl:=List.idxOf_lt_length_iff.mpr hm;refine⟨by rw[p_] at hl;exact hl,?_⟩;show iZ (.lst (xs.map .int)) [.int m]=_;unfold iZ;dsimp only;rw[vO];dsimp only;rw[if_pos hl]
noncomputable def apt (ws:List Int):List Int:=(List.range (ws.length-1)).map λi=>((2*(ws.take (i+1)).sum-ws.sum).natAbs:Int)
noncomputable def ie (ws:List Int):Nat:=((apt ws).map (· == mnI (apt ws))).idxOf true+1
def vd(ws:List Int):(apt ws).length=ws.length-1:=by unfold apt;rw[p_,w_]
def nV{ws:List Int}(h:2<=ws.length):apt ws≠[]/\1<=ie ws/\ie ws<ws.length/\kO.G (liV (apt ws)) [.int (mnI (apt ws))]=.val (.int ((ie ws-1:Nat):Int)):=by
 have hl:=vd ws;have h0:apt ws≠[]:=λz=>by rw[z] at hl;simp at hl;omega
 obtain⟨h1,h2⟩:=yQ (nU h0);refine⟨h0,by unfold ie;omega,by unfold ie;omega,?_⟩;unfold ie liV;rw[Nat.add_sub_cancel];exact h2
def Hm{ws:List Int}(hl:ws.length<=1000):∃s,lcV (gtN 0).G qY.G (pFn eA (aa (pOp eG (pOp bB (ai 2) (pFn cH (aa (pSl (af 1) oN (oS (af 0))) ag))) (pFn cH (aa (af 1) ag))) ag)).G (lF 1 (ws.length-1)) [] [.no,.sh (liV ws)]=.ok ((apt ws).map .int) [s,.sh (liV ws)]:=by
 obtain⟨e',⟨s,rfl,_⟩,lc⟩:=cQ (g:=(gtN 0).G) (F:=(pFn eA (aa (pOp eG (pOp bB (ai 2) (pFn cH (aa (pSl (af 1) oN (oS (af 0))) ag))) (pFn cH (aa (af 1) ag))) ag)).G) (λi:Nat=>Val.int (1+(i:Nat))) (λi:Nat=>Val.int ((2*(ws.take (i+1)).sum-ws.sum).natAbs:Int)) (λe=>∃s:Sl,e=[s,.sh (liV ws)]/\s.pl=true) (List.range (ws.length-1)) [] [.no,.sh (liV ws)] ⟨.no,rfl,rfl⟩ (by
  rintro i hi _ ⟨s,rfl,hs⟩;have ic:(1:Int)+(i:Nat)=((i+1:Nat):Int):=by omega
  have ct:=gw (ws.map Val.int) (i+1);rw[<- Of] at ct;have c2:bB.G (.int 2) (.int (ws.take (i+1)).sum)=.val (.int (2*(ws.take (i+1)).sum)):=cC (CMulA.left (by decide) (by decide));refine⟨[.sh (.int (1+(i:Nat))),.sh (liV ws)],.val (.int ((2*(ws.take (i+1)).sum-ws.sum).natAbs:Int)),[.sh (.int (1+(i:Nat))),.sh (liV ws)],?_,?_,rfl,_,rfl,rfl⟩
  .generalize liV ws=wv;simp![hs]
  .unfold liV;rw[ic];have m1:=cm ws;have m2:=cm (ws.take (i+1));have ab:∀x:Int,(if x<0 then -x else x)=(x.natAbs:Int):=λx=>by split <;> omega
   generalize ((ws.take (i+1)).map Val.int)=w1 at *;generalize ws.map Val.int=w2 at *;simp![fJ,ct,m1,m2,c2,ab]) (by rw[Nr,w_];omega)
 rw[NH] at lc;refine⟨s,lc.trans ?_⟩;unfold apt;rw[NT];rfl
def Jj{n:Nat}(h:n<=1000):rE [.int 1,.int (n:Nat)]=some (lF 1 (n-1)):=by have e:((n:Nat):Int)-1=((n:Int)-1):=rfl;rw[show rE [.int 1,.int (n:Nat)]=some (lF 1 (((n:Nat):Int)-1).toNat) from if_pos ⟨⟨by decide,by decide⟩,⟨by omega,by omega⟩⟩];congr 2;omega
def wM{ws:List Int}(h2:2<=ws.length)(hl:ws.length<=1000):bG.G [liV ws]=.ok (.val (.int (ie ws:Nat))) []:=by
 obtain⟨h0,h1,h3,ix⟩:=nV h2;obtain⟨s,lc⟩:=Hm hl;have mn:=GN h0;have rg:=Jj (n:=ws.length) hl;have ll:((ws.map Val.int).length:Nat)=ws.length:=p_ ..;have al:((apt ws).map Val.int).length<=16777216:=by rw[p_,vd];omega
 have e1:((ie ws-1:Nat):Int)+1=(ie ws:Nat):=by omega
 unfold bG;rw[aB];unfold gG;unfold liV at lc ix ⊢;rw[<- e1];generalize (apt ws).map Val.int=av at *;generalize ws.map Val.int=wv at *;simp![ll,rg,bL,inS,lc,al,mn,ix]
def BX{xs:List Int}{k:Nat}:bB.G (.int 3) (.int (xs.take k).sum)=.val (.int (3*(xs.take k).sum)):=cC (CMulA.left (by decide) (by decide))
theorem tM{xs:List Int}(hs:1<=xs.sum):∀f k,k+f=xs.length->(xWh (qOf (pOp bLt (pOp bB (ai 3) (pFn cH (aa (pSl (af 0) oN (oS (af 1))) ag))) (pFn cH (aa (af 0) ag)))) cM).G [.sh (liV xs),.sh (.int (k:Nat))]=.nx [.sh (liV xs),.sh (.int (thN xs f k:Nat))]
 |
  f,k,hf=>by
  have ct:=gw (xs.map Val.int) k;rw[<- Of] at ct;have m1:=cm xs;have m2:=cm (xs.take k);have fc:=BX (xs:=xs) (k:=k);rw[gA];by_cases hl:3*(xs.take k).sum<xs.sum
  .cases f with
   |zero=>rw[N8 (by omega)] at hl;omega
   |
    succ f=>
    have d1:=I_ hl;have ih:=tM hs f (k+1) (by omega);have k1:((k:Nat):Int)+1=((k+1:Nat):Int):=by omega
    have bb:cM.G [.sh (liV xs),.sh (.int (k:Nat))]=.nx [.sh (liV xs),.sh (.int ((k+1:Nat):Int))]:=by unfold cM;generalize liV xs=xv;simp![k1]
    rw[thN,if_pos hl];unfold liV at ih bb ⊢;generalize (xs.take k).map Val.int=w1 at *;generalize xs.map Val.int=w2 at *;simp![fJ,ct,m1,m2,fc,d1,bb,ih]
  .have d1:=C_ hl;have e:thN xs f k=k:=by
    cases f with
    |zero=>rfl
    |succ f=>rw[thN,if_neg hl]
   rw[e];unfold liV;generalize (xs.take k).map Val.int=w1 at *;generalize xs.map Val.int=w2 at *;simp![fJ,ct,m1,m2,fc,d1]
def zW{xs:List Int}(h1:1<=xs.length)(hs:1<=xs.sum):bF.G [liV xs]=.ok (.val (.int (jN xs:Nat))) []:=by have lo:=tM hs (xs.length-1) 1 (by omega);rw[show thN xs (xs.length-1) 1=jN xs from rfl,show ((1:Nat):Int)=1 from rfl] at lo;unfold bF;rw[aB];unfold gH;generalize liV xs=xv at *;simp![lo]
def rA:HowM ie "nearest_to_half" λ_=>True:=⟨λ_ _ _=>trivial,λ_ _ _=>trivial,λxs _ h2 _=>⟨(nV h2).2.1,(nV h2).2.2.1⟩,λxs bv lv _ h2 h40 hp=>by
 have ne:=wM h2 (by omega);have nq:(("nearest_to_half" : Str) == "nearest_to_half")=true:=by decide
 generalize liV xs=xv at *;simp![nq,ne]⟩
def zZ:HowM jN "fewest_to_third" λxs=>xs.Pairwise λx y=>y<=x:=⟨λ_ _ h=>h.sublist (List.take_sublist ..),λ_ _ h=>h.sublist (List.drop_sublist ..),λxs h h2 hp=>Ci h2 hp h,λxs bv lv _ h2 h40 hp=>by
 have sn:=dD hp;have ne:=zW (xs:=xs) (by omega) (by omega);have nq:(("nearest_to_half" : Str) == "fewest_to_third")=false:=by decide
 have nr:(("fewest_to_third" : Str) == "nearest_to_half")=false:=by decide
 have ns:(("fewest_to_third" : Str) == "fewest_to_third")=true:=by decide
 generalize liV xs=xv at *;simp![nq,nr,ns,ne]⟩
noncomputable def mxL:List Rat->Rat
 | []=>0
 |x::xs=>xs.foldl mx x
theorem Am{n:Nat}:∀(xs:List Rat) (a:Rat),Sz n a->(∀x∈xs,Sz n x)->Sz n (xs.foldl mx a)
 | [],a,h,_=>h
 |
  x::xs,a,h,hx=>by
  rw[List.foldl_cons];refine Am xs _ ?_ λy hy=>hx y (q_ _ hy);unfold mx;split
  .exact hx x (s_ ..)
  .exact h
theorem m6{n:Nat}(hn:n<=100000){v:Val}:∀(xs:List Rat) (a:Rat) (s:Sl),s.pl=true->Sz n a->(∀x∈xs,Sz n x)->∃s',cI (gtN 2).G eg.G (xs.map fV) [.sh v,.sh (fV a),s]=.nx [.sh v,.sh (fV (xs.foldl mx a)),s']
 | [],a,s,_,_,_=>⟨s,by rw[Nt,gO];rfl⟩
 |
  x::xs,a,s,hs,ha,hx=>by
  have hx0:=hx x (s_ ..);have il:=bC ha hx0 hn hn;have hm:Sz n (mx a x):=by
   unfold mx;split
   .exact hx0
   .exact ha
  obtain⟨s',ih⟩:=m6 hn (v:=v) xs (mx a x) (.sh (fV x)) rfl hm λy hy=>hx y (q_ _ hy);refine⟨s',?_⟩;have bb:eg.G [.sh v,.sh (fV a),.sh (fV x)]=.nx [.sh v,.sh (fV (mx a x)),.sh (fV x)]:=by
   unfold eg mx;by_cases hl:a<x
   .rw[I_ hl] at il;rw[if_pos hl];simp![il]
   .rw[C_ hl] at il;rw[if_neg hl];simp![il]
  have g1:(gtN 2).G (fV x) [.sh v,.sh (fV a),s]=some [.sh v,.sh (fV a),.sh (fV x)]:=by simp![hs]
  rw[x_,dg,g1];simp only[bb,qI];rw[ih];rfl
def uM{n:Nat}(hn:n<=100000){qs:List Rat}(h0:qs≠[])(hq:∀q∈qs,Sz n q):du.G [.lst (qs.map fV)]=.ok (.val (fV (mxL qs))) []:=by
 cases qs with
 |nil=>exact absurd rfl h0
 |
  cons q qs=>
  have hq0:=hq q (s_ ..);obtain⟨s',lo⟩:=m6 hn (v:=.lst ((q::qs).map fV)) (q::qs) q .no rfl hq0 hq;have e:(q::qs).foldl mx q=mxL (q::qs):=by rw[List.foldl_cons,show mx q q=q from if_neg Rat.lt_irrefl];rfl
  rw[e] at lo;have a0:atI ((q::qs).map fV) 0=some (fV q):=dq (by decide) rfl;generalize mxL (q::qs)=r at *;generalize (q::qs).map fV=qv at *;unfold du;rw[aB];unfold jS;simp![a0,lo]
def G9{P:PFn}{bs:List Bx}(h:∀c∈bs,P.G [bV c]=.ok (.val (fV (eE c))) [])(hm:P.ms=[false])(hl:bs.length<=1000):∃s,lcV (gtN 0).G qY.G (ah P (aa (af 0) ag)).G (bs.map bV) [] [.no]=.ok ((bs.map eE).map fV) [s]:=by
 obtain⟨e',⟨s,rfl,_⟩,lc⟩:=cQ (g:=(gtN 0).G) (F:=(ah P (aa (af 0) ag)).G) bV (λc=>fV (eE c)) (λe=>∃s:Sl,e=[s]/\s.pl=true) bs [] [.no] ⟨.no,rfl,rfl⟩ (by
  rintro c hc _ ⟨s,rfl,hs⟩;have hp:=h c hc;refine⟨[.sh (bV c)],.val (fV (eE c)),[.sh (bV c)],?_,?_,rfl,_,rfl,rfl⟩
  .simp![hs]
  .simp![hm,hp]) (by rw[Nr];omega)
 rw[NH] at lc;refine⟨s,?_⟩;rw[NT];exact lc
def sg(w:Bool):dO.G [.str (wy w)]=.ok (.val (.str (wy !w))) []:=by
 unfold dO;rw[aB];unfold lj;cases w
 .rw[show wy (!false)="across" from rfl,show wy false="down" from rfl];simp![uv]
 .rw[show wy (!true)="down" from rfl,show wy true="across" from rfl];simp![sx]
noncomputable def lJ (b:Bx) (xs:List Int) (k:Nat):Bx:=if k<xs.length then aM b (lwB b) ((xs.take k).sum+(xs.drop k).sum) 0 (xs.take k).sum else b
noncomputable def fi (b:Bx) (xs:List Int) (k:Nat):List Bx:=aP (lJ b xs k) (wy !lwB b) (xs.take k)
noncomputable def bW (b:Bx) (xs:List Int) (k:Nat):Rat:=mxL ((fi b xs k).map eE)
structure RwIn(m B:Nat)(b:Bx)(xs:List Int):Prop where
 hm:m<=104
 bd:Bd m B b xs.length
 pos:∀w∈xs,1<=w
 sum:xs.sum<2^m
 len:xs.length<=40
def RwIn.two{m B:Nat}{b:Bx}{xs:List Int}(h:RwIn m B b xs){k:Nat}(h1:1<=k)(h2:k<xs.length):1<=(xs.take k).sum/\1<=(xs.drop k).sum/\(xs.take k).sum+(xs.drop k).sum<2^m:=by
 have a1:=dD (l:=xs.take k) λw hw=>h.pos w (Oj hw);have a2:=dD (l:=xs.drop k) λw hw=>h.pos w (O3 hw);have a3:(xs.take k).sum+(xs.drop k).sum=xs.sum:=by rw[<- Pw,NY]
 rw[NI] at a1;rw[N4] at a2
 have:=h.sum
 refine⟨by omega,by omega,by rw[a3];exact this⟩
def RwIn.cut{m B:Nat}{b:Bx}{xs:List Int}(h:RwIn m B b xs){k:Nat}(h1:1<=k)(h2:k<xs.length){c:Bx}(hc:c∈[aM b (lwB b) ((xs.take k).sum+(xs.drop k).sum) 0 (xs.take k).sum,aM b (lwB b) ((xs.take k).sum+(xs.drop k).sum) (xs.take k).sum (xs.drop k).sum]){j:Nat}(hj:j<xs.length):Bd m B c j:=by
 obtain⟨a1,a2,a3⟩:=h.two h1 h2;exact
  h.bd.part (way:=wy (lwB b)) (ws:=[(xs.take k).sum,(xs.drop k).sum]) (λw hw=>by
  rcases J_.mp hw with rfl |hw
  .exact a1
  .rw[NU.mp hw];exact a2) (by rw[show [(xs.take k).sum,(xs.drop k).sum].sum=(xs.take k).sum+(xs.drop k).sum from by simp];exact a3) (by rw[sQ];exact hc) hj
def RwIn.row{m B:Nat}{b:Bx}{xs:List Int}(h:RwIn m B b xs){k:Nat}(h1:1<=k)(h2:k<=xs.length):∃j,1<=j/\Bd m B (lJ b xs k) j:=by
 unfold lJ;by_cases hk:k<xs.length
 .rw[if_pos hk];exact⟨k,h1,h.cut h1 hk (s_ ..) hk⟩
 .rw[if_neg hk];exact⟨xs.length,by omega,h.bd⟩
def RwIn.take{m B:Nat}{b:Bx}{xs:List Int}(h:RwIn m B b xs){k:Nat}:(xs.take k).sum<2^m:=by
 have a2:=dD (l:=xs.drop k) λw hw=>h.pos w (O3 hw);have a3:(xs.take k).sum+(xs.drop k).sum=xs.sum:=by rw[<- Pw,NY]
 have:=h.sum
 omega
def yL(b:Bx)(w:Bool)(xs:List Int):(aP b (wy w) xs).length=xs.length:=by rw[fj,kQ]
def RwIn.boxes{m B:Nat}{b:Bx}{xs:List Int}(h:RwIn m B b xs){k:Nat}(h1:1<=k)(h2:k<=xs.length):∀c∈fi b xs k,c.Ok/\c.Sz 2000:=λc hc=>by
 obtain⟨j,hj,hB⟩:=h.row h1 h2
 have:=hB.part (λw hw=>h.pos w (Oj hw)) h.take hc (show 0<j by omega)
 exact⟨this.ok,this.sz⟩
def RwIn.len'{m B:Nat}{b:Bx}{xs:List Int}(h:RwIn m B b xs){k:Nat}(h2:k<=xs.length):(fi b xs k).length=k:=by unfold fi;rw[yL,NI];omega
def RwIn.shp{m B:Nat}{b:Bx}{xs:List Int}(h:RwIn m B b xs){k:Nat}(h1:1<=k)(h2:k<=xs.length):(fi b xs k).map eE≠[]/\∀q∈(fi b xs k).map eE,Sz 4000 q:=by
 have:=h.len' h2
 refine⟨λz=>?_,λq hq=>?_⟩
 .have:=NC List.length z
  rw[p_,Nr] at this;omega
 .obtain⟨c,hc,rfl⟩:=Nv.mp hq;obtain⟨c1,c2⟩:=h.boxes h1 h2 c hc;exact JA c1 c2
def RwIn.wsz{m B:Nat}{b:Bx}{xs:List Int}(h:RwIn m B b xs){k:Nat}(h1:1<=k)(h2:k<=xs.length):Sz 4000 (bW b xs k):=by
 obtain⟨q1,q2⟩:=h.shp h1 h2;unfold bW;cases hq:(fi b xs k).map eE with
 |nil=>exact absurd hq q1
 |cons q qs=>rw[hq] at q2;exact Am qs q (q2 q (s_ ..)) λx hx=>q2 x (q_ _ hx)
def kx{m B:Nat}{b:Bx}{xs:List Int}(h:RwIn m B b xs){k:Nat}(h1:1<=k)(h2:k<=xs.length):cu.G [bV b,liV xs,.int (k:Nat)]=.ok (.val (fV (bW b xs k))) []:=by
 obtain⟨j,hj,hB⟩:=h.row h1 h2;have hm:=h.hm;have a_:=h.len;have lw:=dU h.bd.ok h.bd.sz (by decide);have ow:=sg (lwB b);have tl:(xs.take k).length=k:=by rw[NI];omega
 have tp:=dD (l:=xs.take k) λw hw=>h.pos w (Oj hw);have pe:=ke (way:=wy !lwB b) (ws:=xs.take k) (m:=m) hB.ok hB.sz (yt _) (λz=>by rw[z] at tl;simp at tl;omega) (λw hw=>h.pos w (Oj hw)) (zF (by omega) h.take) (by omega) (by omega);rw[show aP (lJ b xs k) (wy !lwB b) (xs.take k)=fi b xs k from rfl] at pe;have bl:=h.len' h2;obtain⟨s,lc⟩:=G9 (P:=i6) (bs:=fi b xs k) (λc hc=>A8 (h.boxes h1 h2 c hc).1 (h.boxes h1 h2 c hc).2 (by decide)) rfl (by omega);obtain⟨q1,q2⟩:=h.shp h1 h2;have ge:=uM (by decide) q1 q2;rw[show mxL ((fi b xs k).map eE)=bW b xs k from rfl] at ge;have sl:(((fi b xs k).map eE).map fV).length<=16777216:=by rw[p_,p_];omega
 have ct:=gw (xs.map Val.int) k;rw[<- Of] at ct;have lx:((xs.map Val.int).length:Nat)=xs.length:=p_ ..;unfold cu;rw[aB];unfold jl;by_cases hk:k<xs.length
 .obtain⟨a1,a2,a3⟩:=h.two h1 hk;have ct2:=jM h.bd hm a1 a2 a3;rw[show aM b (lwB b) ((xs.take k).sum+(xs.drop k).sum) 0 (xs.take k).sum=lJ b xs k from (if_pos hk).symm] at ct2;have c1:decide (((k:Nat):Int)<((xs.length:Nat):Int))=true:=I_ (by omega);unfold liV at ct2 ⊢;generalize bV (aM b (lwB b) ((xs.take k).sum+(xs.drop k).sum) (xs.take k).sum (xs.drop k).sum)=b2 at *;generalize bV (lJ b xs k)=b1 at *;generalize ((fi b xs k).map eE).map fV=sv at *;generalize (fi b xs k).map bV=bs at *;generalize (xs.take k).map Val.int=w1 at *;generalize xs.map Val.int=w3 at *;generalize bV b=bv at *;generalize wy (!lwB b)=y1 at *;generalize wy (lwB b)=yy at *;generalize bW b xs k=rr at *;simp![lx,c1,ct2,lw,ow,fJ,ct,pe,lc,sl,ge]
 .have c1:decide (((k:Nat):Int)<((xs.length:Nat):Int))=false:=C_ (by omega);rw[show lJ b xs k=b from if_neg hk] at pe;unfold liV;generalize ((fi b xs k).map eE).map fV=sv at *;generalize (fi b xs k).map bV=bs at *;generalize (xs.take k).map Val.int=w1 at *;generalize xs.map Val.int=w3 at *;generalize bV b=bv at *;generalize wy (!lwB b)=y1 at *;generalize wy (lwB b)=yy at *;generalize bW b xs k=rr at *;simp![lx,c1,lw,ow,fJ,ct,pe,lc,sl,ge]
noncomputable def iS (b:Bx) (xs:List Int):Nat->Nat->Nat
 |0,k=>k
 |f+1,k=>if k<xs.length then (if bW b xs k<bW b xs (k+1) then k else iS b xs f (k+1)) else k
theorem vE(b:Bx)(xs:List Int):∀f k,k<=xs.length->k<=iS b xs f k/\iS b xs f k<=xs.length
 |0,k,h=>⟨t_ _,h⟩
 |
  f+1,k,h=>by
  rw[iS];split
  .split
   .omega
   .have:=vE b xs f (k+1) (by omega)
    omega
  .omega
theorem tD{m B:Nat}{b:Bx}{xs:List Int}(h:RwIn m B b xs):∀(f k:Nat) (s:Sl),s.pl=true->xs.length<=k+f->1<=k->k<=xs.length->∃s3 s4,(xWh (qOf (pOp bLt (af 2) (pFn aR (aa (af 1) ag)))) dG).G [.sh (bV b),.sh (liV xs),.sh (.int (k:Nat)),.sh (fV (bW b xs k)),s]=.nx [.sh (bV b),.sh (liV xs),.sh (.int (iS b xs f k:Nat)),s3,s4]
 |
  f,k,s,hs,hf,h1,h2=>by
  have lx:((xs.map Val.int).length:Nat)=xs.length:=p_ ..;by_cases hk:k<xs.length
  .cases
    f with
   |zero=>omega
   |
    succ f=>
    have c1:decide (((k:Nat):Int)<((xs.length:Nat):Int))=true:=I_ (by omega);have k1:((k:Nat):Int)+1=((k+1:Nat):Int):=by omega
    have wr:=kx h (k:=k+1) (by omega) (by omega);have il:=bC (h.wsz h1 h2) (h.wsz (k:=k+1) (by omega) (by omega)) (by decide) (by decide);obtain⟨s3,s4,ih⟩:=tD h f (k+1) (.sh (fV (bW b xs (k+1)))) rfl (by omega) (by omega) (by omega);rw[iS,if_pos hk];by_cases hl:bW b xs k<bW b xs (k+1)
    .rw[if_pos hl];rw[I_ hl] at il;refine⟨.sh (fV (bW b xs k)),.sh (fV (bW b xs (k+1))),?_⟩;rw[gA];unfold dG;unfold liV at wr ⊢;generalize xs.map Val.int=w3 at *;generalize bV b=bv at *;generalize fV (bW b xs (k+1))=r1 at *;generalize fV (bW b xs k)=r0 at *;simp![hs,lx,c1,k1,wr,il]
    .rw[if_neg hl];rw[C_ hl] at il;refine⟨s3,s4,?_⟩;have bb:dG.G [.sh (bV b),.sh (liV xs),.sh (.int (k:Nat)),.sh (fV (bW b xs k)),s]=.nx [.sh (bV b),.sh (liV xs),.sh (.int ((k+1:Nat):Int)),.sh (fV (bW b xs (k+1))),.sh (fV (bW b xs (k+1)))]:=by unfold dG;generalize liV xs=w3 at *;generalize bV b=bv at *;generalize fV (bW b xs (k+1))=r1 at *;generalize fV (bW b xs k)=r0 at *;simp![hs,k1,wr,il]
     rw[gA];unfold liV at bb ih ⊢;generalize xs.map Val.int=w3 at *;generalize bV b=bv at *;generalize fV (bW b xs (k+1))=r1 at *;generalize fV (bW b xs k)=r0 at *;simp![lx,c1,bb,ih]
  .have c1:decide (((k:Nat):Int)<((xs.length:Nat):Int))=false:=C_ (by omega);refine⟨.sh (fV (bW b xs k)),s,?_⟩;have e:iS b xs f k=k:=by
    cases f with
    |zero=>rfl
    |succ f=>rw[iS,if_neg hk]
   rw[e,gA];unfold liV;generalize xs.map Val.int=w3 at *;simp![lx,c1]
noncomputable def row (b:Bx) (xs:List Int):Nat:=iS b xs xs.length 1
def AD{b:Bx}{xs:List Int}(h:1<=xs.length):1<=row b xs/\row b xs<=xs.length:=vE b xs _ 1 h
def pJ{m B:Nat}{b:Bx}{xs:List Int}(h:RwIn m B b xs)(h1:1<=xs.length):dX.G [bV b,liV xs]=.ok (.val (.int (row b xs:Nat))) []:=by have wr:=kx h (k:=1) (by omega) (by omega);obtain⟨s3,s4,lo⟩:=tD h xs.length 1 .no rfl (by omega) (by omega) (by omega);rw[show iS b xs xs.length 1=row b xs from rfl] at lo;unfold dX;rw[aB];unfold kg;rw[show ((1:Nat):Int)=1 from rfl] at wr lo;generalize liV xs=w3 at *;generalize bV b=bv at *;generalize fV (bW b xs 1)=r0 at *;simp![wr,lo]
noncomputable def fU (b:Bx) (l:List Nat):AT:=if l.length=1 then .lf (l.headD 0) else .nd (!lwB b) (l.map .lf)
def Ft(b:Bx)(l:List Nat):atV (.nd (!lwB b) (l.map .lf))=.tup [.str (wy !lwB b),.tup (l.map λk:Nat=>Val.int k)]:=by unfold atV;rw[AT.val,AT.vals_map,NT];rfl
def uG{b:Bx}{l:List Nat}{n:Nat}(hb:b.Ok)(hs:b.Sz n)(h:n<=8000)(hl:1<=l.length)(hl2:l.length<=1000):dC.G [bV b,itV l]=.ok (.val (atV (fU b l))) []:=by
 have lw:=dU hb hs h;have ow:=sg (lwB b);have ll:((l.map λk:Nat=>Val.int k).length:Nat)=l.length:=p_ ..;unfold dC fU;rw[aB];unfold jQ;by_cases h1:l.length=1
 .obtain⟨k,rfl⟩:=Pa.mp h1;have a0:atI [Val.int (k:Nat)] 0=some (.int (k:Nat)):=dq (by decide) rfl;rw[if_pos h1,show atV (.lf ([k].headD 0))=.int (k:Nat) from rfl,show itV [k]=.lst [.int (k:Nat)] from rfl];simp![a0]
 .have n1:(((l.length:Nat):Int)==1)=false:=by rw[F_];omega
  rw[if_neg h1,Ft];unfold itV;generalize wy (!lwB b)=y1 at *;generalize wy (lwB b)=yy at *;generalize (l.map λk:Nat=>Val.int k)=l0 at *;generalize bV b=bv at *;simp![ll,n1,lw,ow]
noncomputable def rwT (ws:List Int):Nat->Bx->List Nat->AT
 |0,_,l=>.lf (l.headD 0)
 |N+1,b,l=>if row b (l.map λk=>ws.getD k 0)=l.length then fU b l else .nd (lwB b) [fU b (l.take (row b (l.map λk=>ws.getD k 0))),rwT ws N (aM b (lwB b) (((l.map λk=>ws.getD k 0).take (row b (l.map λk=>ws.getD k 0))).sum+((l.map λk=>ws.getD k 0).drop (row b (l.map λk=>ws.getD k 0))).sum) ((l.map λk=>ws.getD k 0).take (row b (l.map λk=>ws.getD k 0))).sum ((l.map λk=>ws.getD k 0).drop (row b (l.map λk=>ws.getD k 0))).sum) (l.drop (row b (l.map λk=>ws.getD k 0)))]
theorem Ei:∀l:List Nat,AT.okL (l.map .lf)=true/\AT.lvsL (l.map .lf)=l/\AT.depL (l.map .lf)<=1
 | []=>⟨rfl,rfl,by decide⟩
 |
  k::l=>by
  obtain⟨a,b,c⟩:=Ei l;rw[x_];refine⟨?_,?_,?_⟩
  .rw[AT.okL,a];rfl
  .rw[AT.lvsL,b];rfl
  .rw[AT.depL,AT.dep];omega
def oO(b:Bx){l:List Nat}(hl:1<=l.length):(fU b l).ok=true/\(fU b l).lvs=l/\(fU b l).dep<=l.length/\(fU b l).dep<=2:=by
 unfold fU;by_cases h1:l.length=1
 .obtain⟨k,rfl⟩:=Pa.mp h1;rw[if_pos h1];exact⟨rfl,rfl,by simp [AT.dep],by simp [AT.dep]⟩
 .rw[if_neg h1];obtain⟨a1,a2,a3⟩:=Ei l;refine⟨?_,?_,?_,?_⟩
  .simp [AT.ok,a1];omega
  .rw[AT.lvs,a2]
  .rw[AT.dep];omega
  .rw[AT.dep];omega
def Mo{l:List Nat}{i:Nat}(hn:l.length<=40)(h1:1<=l.length)(h2:1<=i):1<=(l.take i).length/\(l.take i).length<=1000:=by rw[NI];omega
theorem nQ{ws:List Int}{m B:Nat}(hm:m<=104)(hS:∀l:List Nat,(∀k∈l,k<ws.length)->l.length<=ws.length->wtA ws l<2^m)(hw:∀w∈ws,1<=w)(hn:ws.length<=40):∀(N:Nat) (l:List Nat) (b:Bx),l.length<=N->1<=l.length->l.length<=ws.length->(∀k∈l,k<ws.length)->Bd m B b l.length->
 (aV N).G [bV b,itV l,liV (l.map λk=>ws.getD k 0)]=.ok (.val (atV (rwT ws N b l))) []/\(rwT ws N b l).ok=true/\(rwT ws N b l).lvs=l/\(rwT ws N b l).dep<=l.length
 |0,l,b,h0,h1,_,_,_=>by omega
 |
  N+1,l,b,h0,h1,hl,hi,hB=>by
  have hp:∀k∈l,1<=ws.getD k 0:=λj hj=>by rw[K_,v_ (hi j hj)];exact hw _ (NW _)
  have xl:(l.map λk=>ws.getD k 0).length=l.length:=p_ ..;have hR:RwIn m B b (l.map λk=>ws.getD k 0):=⟨hm,by rw[xl];exact hB,λw hw=>by obtain⟨k,hk,rfl⟩:=Nv.mp hw;exact hp k hk,hS l hi hl,by rw[xl];exact Nu hl hn⟩;obtain⟨r1,r2⟩:=AD (b:=b) (xs:=l.map λk=>ws.getD k 0) (by rw[xl];exact h1);have re:=pJ hR (by rw[xl];exact h1);have te:rwT ws (N+1) b l=_:=rwT.eq_2 ws b l N;rw[xl] at r2;have ll:((l.map λk:Nat=>Val.int k).length:Nat)=l.length:=p_ ..;have lw:=dU hB.ok hB.sz (by decide);have ctl:=gw (l.map λk:Nat=>Val.int k) (row b (l.map λk=>ws.getD k 0));have cdl:=ir (l.map λk:Nat=>Val.int k) (row b (l.map λk=>ws.getD k 0));rw[<- Of] at ctl;rw[<- OE] at cdl;have two:∀k,k<l.length->1<=k->_:=λk h1 h2=>hR.two (k:=k) h2 (by rw[xl];exact h1);have cut:∀k,k<l.length->1<=k->∀c,c∈_->∀j,j<l.length->Bd m B c j:=λk h1 h2 c hc j hj=>hR.cut (k:=k) h2 (by rw[xl];exact h1) hc (by rw[xl];exact hj);rw[te];generalize hi0:row b (l.map λk=>ws.getD k 0)=i at *;obtain⟨k1,k2⟩:=Mo (Nu hl hn) h1 r1;have tr:=uG (l:=l.take i) hB.ok hB.sz (by decide) k1 k2;obtain⟨o1,o2,o3,o4⟩:=oO b (l:=l.take i) k1;by_cases hk:i=l.length
  .rw[if_pos hk];have et:l.take i=l:=N8 (Nat.le_of_eq hk.symm);rw[et] at o1 o2 o3 o4 tr ctl;have q1:(((i:Nat):Int)==((l.length:Nat):Int))=true:=by rw[NA,hk]
   refine⟨?_,o1,o2,o3⟩
   .show (PFx.of [false,false,false] 6 (cx (aV N))).G _=_;rw[gq];unfold cx;unfold itV at tr ⊢;generalize atV (fU b l)=tv at *;generalize liV (l.map λk=>ws.getD k 0)=x0 at *;generalize (l.map λk:Nat=>Val.int k)=l0 at *;generalize bV b=bv at *;simp![re,fJ,ctl,tr,ll,q1]
  .rw[if_neg hk];have q1:(((i:Nat):Int)==((l.length:Nat):Int))=false:=by rw[F_];exact λz=>hk (Int.ofNat.inj z)
   have hi2:i<l.length:=Nat.lt_of_le_of_ne r2 hk;obtain⟨p1,p2,p3⟩:=two i hi2 r1;have pm:=cut i hi2 r1;have ct2:=jM hR.bd hm p1 p2 p3;have ctx:=gw ((l.map λk=>ws.getD k 0).map Val.int) i;have cdx:=ir ((l.map λk=>ws.getD k 0).map Val.int) i;rw[<- Of] at ctx;rw[<- OE] at cdx;obtain⟨_,d1,d2,d3,d4⟩:=Aw h0 r1 hi2 hl;obtain⟨b1,b3,b4,b5⟩:=nQ hm hS hw hn N (l.drop i) _ d1 d2 d3 (λj hj=>hi j (O3 hj)) (pm _ (q_ _ (s_ ..)) _ d4);rw[OE] at b1;generalize rwT ws N (aM b (lwB b) (((l.map λk=>ws.getD k 0).take i).sum+((l.map λk=>ws.getD k 0).drop i).sum) ((l.map λk=>ws.getD k 0).take i).sum ((l.map λk=>ws.getD k 0).drop i).sum) (l.drop i)=T2 at *;refine⟨?_,?_,?_,?_⟩
   .show (PFx.of [false,false,false] 6 (cx (aV N))).G _=_;rw[gq];unfold cx;rw[show atV (.nd (lwB b) [fU b (l.take i),T2])=.tup [.str (wy (lwB b)),.tup [atV (fU b (l.take i)),atV T2]] from rfl];generalize atV (fU b (l.take i))=tv at *;generalize atV T2=tv2 at *;generalize wy (lwB b)=yy at *;generalize bV (aM b (lwB b) _ 0 _)=B1 at *;generalize bV (aM b (lwB b) _ _ _)=B2 at *;unfold itV at tr b1 ⊢;unfold liV at re ct2 b1 ⊢;generalize ((l.map λk=>ws.getD k 0).take i).map Val.int=x1 at *;generalize ((l.map λk=>ws.getD k 0).drop i).map Val.int=x2 at *;generalize (l.map λk=>ws.getD k 0).map Val.int=x0 at *;generalize ((l.take i).map λk:Nat=>Val.int k)=l1 at *;generalize ((l.drop i).map λk:Nat=>Val.int k)=l2 at *;generalize (l.map λk:Nat=>Val.int k)=l0 at *;generalize bV b=bv at *;simp![re,fJ,ctl,tr,ll,q1,ct2,lw,cdl,cdx,b1]
   .simp [AT.ok,AT.okL,o1,b3]
   .rw[AT.lvs,AT.lvsL,AT.lvsL,AT.lvsL,o2,b4,Ny,NY]
   .exact wc r1 hi2 o3 b5
def Gf{ws:List Int}(hl:ws.length<64):aH.G [liV ws]=.ok (.new (itV (aN ws))) []:=by have kf:=zG ws hl;have ll:((ws.map Val.int).length:Nat)=ws.length:=p_ ..;unfold aH;rw[aB];unfold de;unfold liV itV;generalize (aN ws).map (λi:Nat=>Val.int (i:Nat))=fv at *;generalize ws.map Val.int=wv at *;simp![ll,kf]
def yX{ws:List Int}{b:Bx}{t:Val}(hb:b.Ok)(W:WOk ws)(h:(aU 42).G [bV b,itV (List.range ws.length),liV ws,.glb "nearest_to_half"]=.ok (.val t) []):bX.G [bV b,liV ws]=.ok (.val t) []:=by have wl:=W.len;have wp:=W.pos;have cb:=bj hb;have cw:=gx (ws:=ws) (by intro z;rw[z] at wp;exact absurd wp (by decide)) (λw hw=>(W.wt w hw).1) wl;have ll:((ws.map Val.int).length:Nat)=ws.length:=p_ ..;have lr:gJ.G [.int (ws.length:Nat)]=.new (itV (List.range ws.length)):=xH ⟨by omega,by omega⟩;unfold bX;rw[aB];unfold jT;unfold liV at h ⊢;generalize itV (List.range ws.length)=rv at *;generalize ws.map Val.int=wv at *;generalize bV b=bv at *;simp![cb,cw,ll,lr,h]
def FD{ws:List Int}{b:Bx}{t:Val}(hb:b.Ok)(W:WOk ws)(h:(aV 42).G [bV b,itV (List.range ws.length),liV ws]=.ok (.val t) []):cR.G [bV b,liV ws]=.ok (.val t) []:=by have wl:=W.len;have wp:=W.pos;have cb:=bj hb;have cw:=gx (ws:=ws) (by intro z;rw[z] at wp;exact absurd wp (by decide)) (λw hw=>(W.wt w hw).1) wl;have ll:((ws.map Val.int).length:Nat)=ws.length:=p_ ..;have lr:gJ.G [.int (ws.length:Nat)]=.new (itV (List.range ws.length)):=xH ⟨by omega,by omega⟩;unfold cR;rw[aB];unfold kY;unfold liV at h ⊢;generalize itV (List.range ws.length)=rv at *;generalize ws.map Val.int=wv at *;generalize bV b=bv at *;simp![cb,cw,ll,lr,h]
def Bt{ws:List Int}{b:Bx}{t:Val}(hb:b.Ok)(W:WOk ws)(h:(aV 42).G [bV b,itV (aN ws),liV ((aN ws).map λk=>ws.getD k 0)]=.ok (.val t) []):bu.G [bV b,liV ws]=.ok (.val t) []:=by
 have wl:=W.len;have wp:=W.pos;have cb:=bj hb;have cw:=gx (ws:=ws) (by intro z;rw[z] at wp;exact absurd wp (by decide)) (λw hw=>(W.wt w hw).1) wl;have bf:=Gf (ws:=ws) (by omega);have lf:(aN ws).length=ws.length:=by rw[(cN ws).perm.length_eq,w_]
 obtain⟨s,lc⟩:=tQ (ws:=ws) (l:=aN ws) (by omega) (λk hk=>M_.mp ((cN ws).perm.mem_iff.mp hk));have lz:(((aN ws).map λk=>ws.getD k 0).map Val.int).length<=16777216:=by rw[p_,p_];omega
 unfold bu;rw[aB];unfold iC;unfold itV at h bf;unfold liV at h lc bf ⊢;generalize ((aN ws).map λk=>ws.getD k 0).map Val.int=xv at *;generalize (aN ws).map (λi:Nat=>Val.int (i:Nat))=fv at *;generalize ws.map Val.int=wv at *;generalize bV b=bv at *;simp![cb,cw,bf,bL,inS,lc,lz,h]
def AL{ws:List Int}{b:Bx}{t:Val}(hb:b.Ok)(W:WOk ws)(h:(aU 42).G [bV b,itV (aN ws),liV ((aN ws).map λk=>ws.getD k 0),.glb "fewest_to_third"]=.ok (.val t) []):bY.G [bV b,liV ws]=.ok (.val t) []:=by
 have wl:=W.len;have wp:=W.pos;have cb:=bj hb;have cw:=gx (ws:=ws) (by intro z;rw[z] at wp;exact absurd wp (by decide)) (λw hw=>(W.wt w hw).1) wl;have kf:=zG ws (by omega);have lf:(aN ws).length=ws.length:=by rw[(cN ws).perm.length_eq,w_]
 obtain⟨s,lc⟩:=tQ (ws:=ws) (l:=aN ws) (by omega) (λk hk=>M_.mp ((cN ws).perm.mem_iff.mp hk));have ll:((ws.map Val.int).length:Nat)=ws.length:=p_ ..;have lz:(((aN ws).map λk=>ws.getD k 0).map Val.int).length<=16777216:=by rw[p_,p_];omega
 have bf:aH.G [liV ws]=.ok (.new (itV (aN ws))) []:=by unfold aH;rw[aB];unfold de;unfold liV itV;generalize (aN ws).map (λi:Nat=>Val.int (i:Nat))=fv at *;generalize ws.map Val.int=wv at *;simp![ll,kf]
 unfold bY;rw[aB];unfold jU;unfold itV at h bf;unfold liV at h lc bf ⊢;generalize ((aN ws).map λk=>ws.getD k 0).map Val.int=xv at *;generalize (aN ws).map (λi:Nat=>Val.int (i:Nat))=fv at *;generalize ws.map Val.int=wv at *;generalize bV b=bv at *;simp![cb,cw,bf,bL,inS,lc,lz,h]
def lW(ws:List Int):((List.range ws.length).map λk=>ws.getD k 0)=ws:=wz 0 ws
def oK{ws:List Int}{b:Bx}(g:Good b)(W:WOk ws):∃m,m<=104/\Bd m (2^101) b ws.length/\∀l:List Nat,(∀k∈l,k<ws.length)->l.length<=ws.length->wtA ws l<2^m:=by
 obtain⟨D,hD,R⟩:=DF g;have hin:∀k,k<ws.length->ws.getD k 0∈ws:=λk hk=>by rw[K_,v_ hk];exact NW _
 have wl:=W.len;have key:∀m,m*ws.length<=1218->Bd m (2^101) b ws.length:=λm h1=>by
  refine⟨D,2^101,R,t_ _,by decide,?_⟩;have a1:2^101+ws.length*2^101<=2^107:=by
   have h1:=OC (2^101) (show ws.length<=40 by omega);have h2:2^107=64*2^101:=by decide
   rw[h2];generalize 2^101=X at *;omega
  have a2:2^(m*ws.length)<=2^1218:=N5 (by decide) h1;refine Ox (NO a1 (NO (O4 hD) a2)) ?_;rw[<- ON,<- ON];exact Nat.pow_lt_pow_right (by decide) (by decide)
 by_cases h9:10<ws.length
 .refine⟨29,by decide,key 29 (by omega),λl hl hn=>?_⟩
  have:=j9 (M:=8388608) λk hk=>W.few h9 _ (hin k (hl k hk))
  have:(2:Int)^29=536870912:=by decide
  omega
 .refine⟨104,by decide,key 104 (by omega),λl hl hn=>?_⟩
  have:=j9 (M:=1000000000000000000000000000000) λk hk=>(W.wt _ (hin k (hl k hk))).2
  have:(2:Int)^104=20282409603651670423947251286016:=by decide
  omega
noncomputable def tH (b:Bx) (ws:List Int):AT:=inT ie ws 42 b (List.range ws.length)
noncomputable def tR (b:Bx) (ws:List Int):AT:=rwT ws 42 b (List.range ws.length)
noncomputable def tG (b:Bx) (ws:List Int):AT:=rwT ws 42 b (aN ws)
noncomputable def tT (b:Bx) (ws:List Int):AT:=inT jN ws 42 b (aN ws)
section
variable{ws:List Int}{b:Bx}
def kN{k:Nat}:k∈aN ws ↔ k<ws.length:=(cN ws).perm.mem_iff.trans M_
def sy:(aN ws).length=ws.length:=by rw[(cN ws).perm.length_eq,w_]
def mq{t:AT}{l:List Nat}(h1:t.ok=true)(h2:t.lvs=l)(h3:t.dep<=l.length)(hl:∀k,k∈l ↔ k<ws.length)(hn:l.length=ws.length):TOk t (List.range ws.length):=⟨h1,λk=>by rw[h2,hl,M_],by rw[w_];omega,by rw[h2,w_];exact hn⟩
def DV(g:Good b)(W:WOk ws):bX.G [bV b,liV ws]=.ok (.val (atV (tH b ws))) []/\TOk (tH b ws) (List.range ws.length):=by have wl:=W.len;have wp:=W.pos;obtain⟨m,hm,B,hS⟩:=oK g W;obtain⟨t1,t2,t3,t4⟩:=mI rA hm hS (λw hw=>(W.wt w hw).1) wl 42 (List.range ws.length) b (by rw[w_];omega) (by rw[w_];omega) (by rw[w_];omega) (λk hk=>M_.mp hk) (by rw[w_];exact B) trivial;rw[lW] at t1;exact⟨yX g.ok W t1,mq t2 t3 t4 (λk=>M_) w_⟩
def D4(g:Good b)(W:WOk ws):cR.G [bV b,liV ws]=.ok (.val (atV (tR b ws))) []/\TOk (tR b ws) (List.range ws.length):=by have wl:=W.len;have wp:=W.pos;obtain⟨m,hm,B,hS⟩:=oK g W;obtain⟨t1,t2,t3,t4⟩:=nQ (B:=2^101) hm hS (λw hw=>(W.wt w hw).1) wl 42 (List.range ws.length) b (by rw[w_];omega) (by rw[w_];omega) (by rw[w_];omega) (λk hk=>M_.mp hk) (by rw[w_];exact B);rw[lW] at t1;exact⟨FD g.ok W t1,mq t2 t3 t4 (λk=>M_) w_⟩
def DM(g:Good b)(W:WOk ws):bu.G [bV b,liV ws]=.ok (.val (atV (tG b ws))) []/\TOk (tG b ws) (List.range ws.length):=by have wl:=W.len;have wp:=W.pos;have fl:=sy (ws:=ws);obtain⟨m,hm,B,hS⟩:=oK g W;obtain⟨t1,t2,t3,t4⟩:=nQ (B:=2^101) hm hS (λw hw=>(W.wt w hw).1) wl 42 (aN ws) b (by omega) (by omega) (by omega) (λk hk=>kN.mp hk) (by rw[fl];exact B);exact⟨Bt g.ok W t1,mq t2 t3 t4 (λk=>kN) fl⟩
def D5(g:Good b)(W:WOk ws):bY.G [bV b,liV ws]=.ok (.val (atV (tT b ws))) []/\TOk (tT b ws) (List.range ws.length):=by have wl:=W.len;have wp:=W.pos;have fl:=sy (ws:=ws);obtain⟨m,hm,B,hS⟩:=oK g W;obtain⟨t1,t2,t3,t4⟩:=mI zZ hm hS (λw hw=>(W.wt w hw).1) wl 42 (aN ws) b (by omega) (by omega) (by omega) (λk hk=>kN.mp hk) (by rw[fl];exact B) (AM ws);exact⟨AL g.ok W t1,mq t2 t3 t4 (λk=>kN) fl⟩
end
def KH{ws:List Int}{b:Bx}{r:Str}{t:AT}(g:Good b)(W:WOk ws)(h:aE.G [.str r,bV b,liV ws]=.ok (.val (atV t)) [])(T:TOk t (List.range ws.length)):fG.G [.str r,bV b,liV ws]=.ok (.new (.lst ((List.range ws.length).map λk=>bV (bxO (AT.bx ws t b) k)))) []:=by have wp:=W.pos;have wl:=W.len;obtain⟨m,hm,hy⟩:=qr g W T (λi=>M_) w_;have be:=rN (by omega) g.ok (λz=>by rw[z] at wp;exact absurd wp (by decide)) (λx hx=>(W.wt x hx).1) wl T.ok (λk=>(T.mem k).trans M_) (sZ T (λi=>M_) w_) (by rw[T.len,w_]) (by have:=T.dep;rw[w_] at this;omega) hy;unfold fG;rw[aB];unfold ph;generalize (List.range ws.length).map (λk=>bV (bxO (AT.bx ws t b) k))=pv at *;generalize atV t=tv at *;generalize liV ws=wv at *;generalize bV b=bv at *;simp![h,be]
def gj{r:Str}(h:qU.G (.str r) (.tup [.str "across",.str "down",.str "halves",.str "rows",.str "greatest",.str "thirds"])=.val (.bl false)):c7.G [.str r]=.ok (.val .non) []:=by unfold c7;rw[aB];unfold kd;simp![h]
def JN{bv wv t:Val}(h:bX.G [bv,wv]=.ok (.val t) []):aE.G [.str "halves",bv,wv]=.ok (.val t) []:=by
 have ck:=gj (r:="halves") rfl;have e1:ba (.str "halves") (.str "halves")=some true:=by rw[L3.eq_str (by decide) (by decide)];exact NC some (by decide)
 unfold aE;rw[aB];unfold dM;simp![ck,e1,h]
def Jm{bv wv t:Val}(h:cR.G [bv,wv]=.ok (.val t) []):aE.G [.str "rows",bv,wv]=.ok (.val t) []:=by
 have ck:=gj (r:="rows") rfl;have e0:ba (.str "rows") (.str "halves")=some false:=by rw[L3.eq_str (by decide) (by decide)];exact NC some (by decide)
 have e1:ba (.str "rows") (.str "rows")=some true:=by rw[L3.eq_str (by decide) (by decide)];exact NC some (by decide)
 unfold aE;rw[aB];unfold dM;simp![ck,e0,e1,h]
def Jr{bv wv t:Val}(h:bu.G [bv,wv]=.ok (.val t) []):aE.G [.str "greatest",bv,wv]=.ok (.val t) []:=by
 have ck:=gj (r:="greatest") rfl;have e0:ba (.str "greatest") (.str "halves")=some false:=by rw[L3.eq_str (by decide) (by decide)];exact NC some (by decide)
 have e1:ba (.str "greatest") (.str "rows")=some false:=by rw[L3.eq_str (by decide) (by decide)];exact NC some (by decide)
 have e2:ba (.str "greatest") (.str "greatest")=some true:=by rw[L3.eq_str (by decide) (by decide)];exact NC some (by decide)
 unfold aE;rw[aB];unfold dM;simp![ck,e0,e1,e2,h]
def JV{bv wv t:Val}(h:bY.G [bv,wv]=.ok (.val t) []):aE.G [.str "thirds",bv,wv]=.ok (.val t) []:=by
 have ck:=gj (r:="thirds") rfl;have e0:ba (.str "thirds") (.str "halves")=some false:=by rw[L3.eq_str (by decide) (by decide)];exact NC some (by decide)
 have e1:ba (.str "thirds") (.str "rows")=some false:=by rw[L3.eq_str (by decide) (by decide)];exact NC some (by decide)
 have e2:ba (.str "thirds") (.str "greatest")=some false:=by rw[L3.eq_str (by decide) (by decide)];exact NC some (by decide)
 have e3:ba (.str "thirds") (.str "thirds")=some true:=by rw[L3.eq_str (by decide) (by decide)];exact NC some (by decide)
 unfold aE;rw[aB];unfold dM;simp![ck,e0,e1,e2,e3,h]
theorem oi{f:List Int->Nat}{nm:Str}{D:List Int->Prop}(H:HowM f nm D){ws:List Int}(hw:∀w∈ws,1<=w):∀(N:Nat) (l:List Nat) (b:Bx),l.length<=N->1<=l.length->(∀k∈l,k<ws.length)->D (l.map λk=>ws.getD k 0)->(inT f ws N b l).lvs=l
 |0,l,b,h0,h1,_,_=>by omega
 |
  N+1,l,b,h0,h1,hi,hD=>by
  rw[inT];by_cases hl:l.length=1
  .obtain⟨k,rfl⟩:=Pa.mp hl;rw[if_pos hl];rfl
  .rw[if_neg hl];have xl:(l.map λk=>ws.getD k 0).length=l.length:=p_ ..;obtain⟨g1,g2⟩:=H.lt _ hD (by omega) (λw hw'=>by obtain⟨j,hj,rfl⟩:=Nv.mp hw';rw[K_,v_ (hi j hj)];exact hw _ (NW _));have d1:=H.tk _ (f (l.map λk=>ws.getD k 0)) hD;have d2:=H.dr _ (f (l.map λk=>ws.getD k 0)) hD;rw[<- Of] at d1;rw[<- OE] at d2;generalize f (l.map λk=>ws.getD k 0)=i at *;rw[AT.lvs,AT.lvsL,AT.lvsL,AT.lvsL,oi H hw N (l.take i) _ (by rw[NI];omega) (by rw[NI];omega) (λk hk=>hi k (Oj hk)) d1,oi H hw N (l.drop i) _ (by rw[N4];omega) (by rw[N4];omega) (λk hk=>hi k (O3 hk)) d2,Ny,NY]
theorem vt{ws:List Int}:∀(N:Nat) (l:List Nat) (b:Bx),l.length<=N->1<=l.length->(rwT ws N b l).lvs=l
 |0,l,b,h0,h1=>by omega
 |
  N+1,l,b,h0,h1=>by
  have xl:(l.map λk=>ws.getD k 0).length=l.length:=p_ ..;obtain⟨r1,r2⟩:=AD (b:=b) (xs:=l.map λk=>ws.getD k 0) (by omega);rw[rwT];by_cases hl:row b (l.map λk=>ws.getD k 0)=l.length
  .rw[if_pos hl];exact (oO b h1).2.1
  .rw[if_neg hl];generalize row b (l.map λk=>ws.getD k 0)=i at *;rw[AT.lvs,AT.lvsL,AT.lvsL,AT.lvsL,(oO b (l:=l.take i) (by rw[NI];omega)).2.1,vt N (l.drop i) _ (by rw[N4];omega) (by rw[N4];omega),Ny,NY]
theorem jA:∀l:List Nat,AT.lvsL (l.map .lf)=l
 | []=>rfl
 |k::l=>by rw[x_,AT.lvsL,jA l,AT.lvs];rfl
theorem u9:∀l:List Nat,AT.okL (l.map .lf)=true
 | []=>rfl
 |k::l=>by rw[x_,AT.okL,u9 l,AT.ok];rfl
theorem rK:∀l:List Nat,AT.depL (l.map .lf)<=1
 | []=>by rw[Nt,AT.depL];omega
 |k::l=>by rw[x_,AT.depL,AT.dep];have:=rK l;omega
noncomputable def sbT (w:Bool) (n:Nat):AT:=if n=1 then .lf 0 else .nd w ((List.range n).map .lf)
def D6(w:Bool){n:Nat}(h:1<=n):TOk (sbT w n) (List.range n):=by
 unfold sbT;by_cases h1:n=1
 .rw[if_pos h1,h1];exact⟨rfl,λk=>Iff.rfl,t_ _,rfl⟩
 .rw[if_neg h1];refine⟨?_,λk=>by rw[AT.lvs,jA],?_,by rw[AT.lvs,jA]⟩
  .rw[AT.ok,u9,p_,w_,I_ (by omega)];rfl
  .rw[AT.dep,w_]
   have:=rK (List.range n)
   omega
def CV(w:Bool)(l:List Nat):atV (.nd w (l.map .lf))=.tup [.str (wy w),.tup (l.map λk:Nat=>Val.int k)]:=by unfold atV;rw[AT.val,AT.vals_map,NT];rfl
def Fd{ws:List Int}{b:Bx}(w:Bool)(hb:b.Ok)(W:WOk ws):cZ.G [.str (wy w),bV b,liV ws]=.ok (.val (atV (sbT w ws.length))) []:=by
 have wl:=W.len;have wp:=W.pos;have cb:=bj hb;have cw:=gx (ws:=ws) (by intro z;rw[z] at wp;exact absurd wp (by decide)) (λx hx=>(W.wt x hx).1) wl;have ll:((ws.map Val.int).length:Nat)=ws.length:=p_ ..;have kt:mS.G [.int (ws.length:Nat)]=.val (.tup ((List.range ws.length).map λk:Nat=>Val.int k)):=LL ⟨by omega,by omega⟩;unfold cZ sbT;rw[aB];unfold jc;unfold liV;by_cases h1:ws.length=1
 .have n1:(((ws.length:Nat):Int)==1)=true:=by rw[NA];omega
  rw[if_pos h1,show atV (.lf 0)=.int 0 from rfl];generalize ws.map Val.int=wv at *;generalize bV b=bv at *;generalize wy w=yy at *;simp![cb,cw,ll,n1]
 .have n1:(((ws.length:Nat):Int)==1)=false:=by rw[F_];omega
  rw[if_neg h1,CV];generalize ((List.range ws.length).map λk:Nat=>Val.int k)=rv at *;generalize ws.map Val.int=wv at *;generalize bV b=bv at *;generalize wy w=yy at *;simp![cb,cw,ll,n1,kt]
def w6(w:Bool){s:Str}(h:s∈(["halves", "rows", "greatest", "thirds"]:List Str)):ba (.str (wy w)) (.str s)=some false:=by simp only[J_,PU,PD] at h;rcases h with rfl |rfl |rfl |rfl <;> cases w <;> (rw[L3.eq_str (by decide) (by decide)];exact NC some (by decide))
def Hf(w:Bool):c7.G [.str (wy w)]=.ok (.val .non) []:=by
 cases w
 .exact gj rfl
 .exact gj rfl
def zE{ws:List Int}{b:Bx}(w:Bool)(hb:b.Ok)(W:WOk ws):aE.G [.str (wy w),bV b,liV ws]=.ok (.val (atV (sbT w ws.length))) []:=by have se:=Fd w hb W;have ck:=Hf w;have n1:=w6 w (s:="halves") (by simp);have n2:=w6 w (s:="rows") (by simp);have n3:=w6 w (s:="greatest") (by simp);have n4:=w6 w (s:="thirds") (by simp);unfold aE;rw[aB];unfold dM;generalize atV (sbT w ws.length)=tv at *;generalize liV ws=wv at *;generalize bV b=bv at *;generalize wy w=yy at *;simp![ck,n1,n2,n3,n4,se]
theorem vX{k:Nat}:∀{l:List (Nat×Bx)},k∈l.map (·.1)->∃p∈l,bxO l k=p.2
 | [],h=>nomatch h
 |
  p::l,h=>by
  unfold bxO;by_cases hp:p.1=k
  .exact⟨p,s_ ..,by rw[List.find?_cons_of_pos (by simpa using hp)];rfl⟩
  .rw[x_,J_] at h;obtain⟨q,hq,e⟩:=vX (l:=l) (h.resolve_left λz=>hp z.symm);refine⟨q,q_ _ hq,?_⟩;rw[List.find?_cons_of_neg (by simpa using hp)];exact e
noncomputable def bsO (ws:List Int) (t:AT) (b:Bx):List Bx:=(List.range ws.length).map λk=>bxO (AT.bx ws t b) k
def vY(ws:List Int)(t:AT)(b:Bx):((List.range ws.length).map λk=>bV (bxO (AT.bx ws t b) k))=(bsO ws t b).map bV:=by unfold bsO;rw[NT];rfl
def A3{ws:List Int}{t:AT}{b:Bx}(g:Good b)(W:WOk ws)(T:TOk t (List.range ws.length)):∀c∈bsO ws t b,c.Ok/\c.Sz 2000:=λc hc=>by obtain⟨k,hk,rfl⟩:=Nv.mp hc;obtain⟨m,hm,hy⟩:=qr g W T (λi=>M_) w_;obtain⟨p,hp,e⟩:=vX (l:=AT.bx ws t b) (k:=k) (by rw[AT.bx_keys];exact (T.mem k).mpr hk);rw[e];exact Au t b hy p hp
def E1(ws:List Int)(t:AT)(b:Bx):(bsO ws t b).length=ws.length:=by unfold bsO;rw[p_,w_]
def My{ws:List Int}{b:Bx}{r:Str}{t:AT}(g:Good b)(W:WOk ws)(h:aE.G [.str r,bV b,liV ws]=.ok (.val (atV t)) [])(T:TOk t (List.range ws.length)):fG.G [.str r,bV b,liV ws]=.ok (.new (.lst ((bsO ws t b).map bV))) []:=by rw[<- vY];exact KH g W h T
def Mg(bs:List Bx):ba (.lst (bs.map bV)) (.lst (bs.map bV))=some true:=by
 have:wfV 60 (.lst (bs.map bV))=true:=by show bZ 59 (bs.map bV)=true;exact kD λv hv=>by obtain⟨w,_,rfl⟩:=Nv.mp hv;exact Ls _ 57
 rw[yb this this,kF 60 _ this]
def vS{b:Bx}{n:Nat}(hb:b.Ok)(hs:b.Sz n)(h:n+n<=8000):ja.G [bV b]=.ok (.val (fV (b.w*b.h))) []:=by have c:=bj hb;have t:=jG hs.w hs.h h;unfold ja;rw[aB];unfold zA;rw[show bV b=.tup [fV b.l,fV b.t,fV b.w,fV b.h] from rfl] at *;simp![c,t]
structure Wl where
 l:Rat
 r:Rat
 t:Rat
 b:Rat
noncomputable def wlV (w:Wl):Val:=.tup [fV w.l,fV w.r,fV w.t,fV w.b]
noncomputable def wlB (b:Bx):Wl:=⟨b.l,b.l+b.w,b.t,b.t+b.h⟩
structure Wl.Sz(n:Nat)(w:Wl):Prop where
 l:L2.Sz n w.l
 r:L2.Sz n w.r
 t:L2.Sz n w.t
 b:L2.Sz n w.b
def rR{b:Bx}{n:Nat}(hs:b.Sz n):(wlB b).Sz (n+n+1):=⟨hs.l.mono (by omega),(hs.l.add hs.w).mono (by omega),hs.t.mono (by omega),(hs.t.add hs.h).mono (by omega)⟩
def lX{b:Bx}{n:Nat}(hs:b.Sz n)(h:n+n<=8000):fD.G [bV b]=.ok (.val (wlV (wlB b))) []:=by have a1:=lG hs.l hs.w h;have a2:=lG hs.t hs.h h;unfold fD;rw[aB];unfold v9;rw[show bV b=.tup [fV b.l,fV b.t,fV b.w,fV b.h] from rfl];simp![a1,a2];rfl
noncomputable def inB (a b:Wl):Bool:=!decide (b.l<a.l) && !decide (a.r<b.r)&&(!decide (b.t<a.t) && !decide (a.b<b.b))
def oM{a b:Bx}{n m:Nat}(ha:a.Sz n)(hb:b.Sz m)(h1:n+n<=8000)(h2:m+m<=8000):dB.G [bV a,bV b]=.ok (.val (.bl (inB (wlB a) (wlB b)))) []:=by have w1:=lX ha h1;have w2:=lX hb h2;have s1:=rR ha;have s2:=rR hb;generalize wlB a=A at *;generalize wlB b=B at *;have l1:=bC s2.l s1.l (by omega) (by omega);have l2:=bC s1.r s2.r (by omega) (by omega);have l3:=bC s2.t s1.t (by omega) (by omega);have l4:=bC s1.b s2.b (by omega) (by omega);unfold dB;rw[aB];unfold jR inB;rw[show wlV A=.tup [fV A.l,fV A.r,fV A.t,fV A.b] from rfl] at w1;rw[show wlV B=.tup [fV B.l,fV B.r,fV B.t,fV B.b] from rfl] at w2;by_cases c1:B.l<A.l <;> by_cases c2:A.r<B.r <;> by_cases c3:B.t<A.t <;> (simp only[c1,c2,c3,decide_true,decide_false] at l1 l2 l3;simp![w1,w2,l1,l2,l3,l4,c1,c2,c3])
noncomputable def ovB (a b:Wl):Bool:=decide (a.l<b.r)&&decide (b.l<a.r)&&(decide (a.t<b.b)&&decide (b.t<a.b))
def CL{a b:Wl}{n m:Nat}(ha:a.Sz n)(hb:b.Sz m)(h1:n<=100000)(h2:m<=100000):bc.G [wlV a,wlV b]=.ok (.val (.bl (ovB a b))) []:=by have l1:=bC ha.l hb.r h1 h2;have l2:=bC hb.l ha.r h2 h1;have l3:=bC ha.t hb.b h1 h2;have l4:=bC hb.t ha.b h2 h1;unfold bc;rw[aB];unfold eD ovB;rw[show wlV a=.tup [fV a.l,fV a.r,fV a.t,fV a.b] from rfl,show wlV b=.tup [fV b.l,fV b.r,fV b.t,fV b.b] from rfl];by_cases c1:a.l<b.r <;> by_cases c2:b.l<a.r <;> by_cases c3:a.t<b.b <;> (simp only[c1,c2,c3,decide_true,decide_false] at l1 l2 l3;simp![l1,l2,l3,l4,c1,c2,c3])
noncomputable def ovJ (D:List Wl) (w:Wl) (j:Nat):Bool:=match D[j]? with
 |some u=>ovB u w
 |none=>false
noncomputable def ovP (D:List Wl) (p:Wl×Nat):Bool:=((List.range p.2).find? (ovJ D p.1)).isSome
noncomputable def ovR (D:List Wl) (p:Wl×Nat):Val:=.tup [.str "over",.int (((List.range p.2).find? (ovJ D p.1)).getD 0:Nat),.int (p.2:Nat)]
noncomputable def qL (bs:List Bx):Val:=match ((bs.map wlB).zipIdx).find? (ovP (bs.map wlB)) with
 |some p=>ovR (bs.map wlB) p
 |none=>.non
def Gi{bs:List Val}{D:List Wl}{w:Wl}{i:Nat}{m:Nat}(hW:∀w∈D,w.Sz m)(hw:w∈D)(hi:i<D.length)(hm:m<=100000){s4:Sl}(h4:s4.pl=true):∃s4':Sl,s4'.pl=true/\cI (gtN 4).G eV.G (rgV i) [.sh (.lst bs),.sh (.lst (D.map wlV)),.sh (.int (i:Nat)),.sh (wlV w),s4]=fdS (λj:Nat=>.val (.tup [.str "over",.int (j:Nat),.int (i:Nat)])) [.sh (.lst bs),.sh (.lst (D.map wlV)),.sh (.int (i:Nat)),.sh (wlV w),s4'] ((List.range i).find? (ovJ D w)):=by
 obtain⟨e2,⟨s4',rfl,h4'⟩,fr⟩:=fC (g:=(gtN 4).G) (B:=eV.G) (λj:Nat=>Val.int (j:Nat)) (ovJ D w) (λj=>.val (.tup [.str "over",.int (j:Nat),.int (i:Nat)])) (λe=>∃s4,e=[.sh (.lst bs),.sh (.lst (D.map wlV)),.sh (.int (i:Nat)),.sh (wlV w),s4]/\s4.pl=true) (List.range i) [.sh (.lst bs),.sh (.lst (D.map wlV)),.sh (.int (i:Nat)),.sh (wlV w),s4] ⟨_,rfl,h4⟩ (by
  rintro j hj e ⟨s4,rfl,h4⟩;have hj:=M_.mp hj;have hjl:j<D.length:=by omega
  have ej:D[j]?=some D[j]:=v_ hjl;have at1:atI (D.map wlV) ((j:Nat):Int)=some (wlV D[j]):=dq (by omega) (by rw[NJ,Nm,ej];rfl);have sh:=CL (hW D[j] (NW hjl)) (hW w hw) hm hm;have oe:ovJ D w j=ovB D[j] w:=by unfold ovJ;rw[ej]
  refine⟨[.sh (.lst bs),.sh (.lst (D.map wlV)),.sh (.int (i:Nat)),.sh (wlV w),.sh (.int (j:Nat))],[.sh (.lst bs),.sh (.lst (D.map wlV)),.sh (.int (i:Nat)),.sh (wlV w),.sh (.int (j:Nat))],?_,⟨_,rfl,rfl⟩,?_⟩
  .simp![h4]
  .rw[oe];unfold eV;cases hc:ovB D[j] w with
   |true=>left;simp![at1,sh,hc,Pc]
   |false=>right;simp![at1,sh,hc,and_true,or_false,true_or])
 exact⟨s4',h4',fr⟩
def Cy{bs:List Val}{D:List Wl}{m:Nat}(hW:∀w∈D,w.Sz m)(hm:m<=100000)(hl:D.length<=1000):∃s2 s3 s4:Sl,cI (gtX (gtT 2 (ay (gtN 2) (ay (gtN 3) bI)))).G eR.G (eL 0 (D.map wlV)) [.sh (.lst bs),.sh (.lst (D.map wlV)),.no,.no,.no]=fdS (λp=>.val (ovR D p)) [.sh (.lst bs),.sh (.lst (D.map wlV)),s2,s3,s4] (D.zipIdx.find? (ovP D)):=by
 obtain⟨e2,⟨p2,p3,p4,rfl,h2,h3,h4⟩,fr⟩:=fC (g:=(gtX (gtT 2 (ay (gtN 2) (ay (gtN 3) bI)))).G) (B:=eR.G) (λp:Wl×Nat=>.tup [.int (p.2:Nat),wlV p.1]) (ovP D) (λp=>.val (ovR D p)) (λe=>∃s2 s3 s4,e=[.sh (.lst bs),.sh (.lst (D.map wlV)),s2,s3,s4]/\s2.pl=true/\s3.pl=true/\s4.pl=true) D.zipIdx [.sh (.lst bs),.sh (.lst (D.map wlV)),.no,.no,.no] ⟨_,_,_,rfl,rfl,rfl,rfl⟩ (by
  rintro⟨w,i⟩ hwi e ⟨s2,s3,s4,rfl,h2,h3,h4⟩;have hi:=List.mem_zipIdx hwi;obtain⟨s4',h4',fr⟩:=Gi (bs:=bs) (i:=i) hW (Ou hwi) (by omega) hm h4;have rg:=kz (k:=i) (by omega);refine⟨[.sh (.lst bs),.sh (.lst (D.map wlV)),.sh (.int (i:Nat)),.sh (wlV w),s4],[.sh (.lst bs),.sh (.lst (D.map wlV)),.sh (.int (i:Nat)),.sh (wlV w),s4'],?_,⟨_,_,_,rfl,rfl,rfl,h4'⟩,?_⟩
  .simp![h2,h3]
  .have op:ovP D (w,i)=((List.range i).find? (ovJ D w)).isSome:=rfl;have or:ovR D (w,i)=.tup [.str "over",.int (((List.range i).find? (ovJ D w)).getD 0:Nat),.int (i:Nat)]:=rfl;unfold eR;rw[op,or];cases hf:(List.range i).find? (ovJ D w) with
   |some j=>rw[hf,jv] at fr;left;simp![rg,fr,Option.getD_some,Pc]
   |none=>rw[hf,ip] at fr;right;simp![rg,fr,Option.isSome_none,and_true,or_false,true_or])
 refine⟨p2,p3,p4,?_⟩;rw[jk wlV D 0,fr]
def qb{bs:List Bx}{n:Nat}(hl:bs.length<=1000)(hs:∀b∈bs,b.Sz n)(h:n+n<=8000):d7.G [.lst (bs.map bV)]=.ok (.val (qL bs)) []:=by
 obtain⟨e',⟨s',rfl,hs'⟩,lc⟩:=cQ (g:=(gtN 0).G) (F:=(ah fD (aa (af 0) ag)).G) bV (λb=>wlV (wlB b)) (λe=>∃s,e=[s]/\s.pl=true) bs [] [.no] ⟨.no,rfl,rfl⟩ (by
  rintro b hb e ⟨s,rfl,hp⟩;refine⟨[.sh (bV b)],.val (wlV (wlB b)),[.sh (bV b)],?_,?_,rfl,⟨_,rfl,rfl⟩⟩
  .simp![hp]
  .simp![lX (hs b hb) h]) (by simp;omega)
 rw[NH] at lc;have hW:∀w∈bs.map wlB,w.Sz (n+n+1):=by intro w hw;obtain⟨b,hb,rfl⟩:=Nv.mp hw;exact rR (hs b hb)
 have hm:bs.map (λb=>wlV (wlB b))=(bs.map wlB).map wlV:=by rw[NT];rfl
 have a_:(bs.map λb=>wlV (wlB b)).length<=16777216:=by rw[p_];omega
 rw[hm] at lc a_;obtain⟨s2,s3,s4,fr⟩:=Cy (bs:=bs.map bV) hW (by omega) (by rw[p_];exact hl);unfold qL;generalize bs.map wlB=D at *;unfold d7;rw[aB];unfold kr;cases hf:D.zipIdx.find? (ovP D) with
 |some p=>rw[hf,jv] at fr;simp![bL,lc,a_,fr]
 |none=>rw[hf,ip] at fr;simp![bL,lc,a_,fr]
theorem mL:∀{ws:List Int},(∀w∈ws,1<=w)->(ws.length:Int)<=ws.sum
 | [],_=>by simp
 |
  w::ws,h=>by
  have h1:=h w (s_ ..);have h2:=mL (ws:=ws) λu hu=>h u (q_ _ hu);rw[Np,E_];omega
def wF{ws:List Int}(h:∀w∈ws,1<=w)(h0:ws≠[]):1<=ws.sum:=by
 have:=mL h
 have:ws.length≠0:=λz=>h0 (OF.mp z);omega
def ftE(r w b:Val)(e:E3):Prop:=∃s t:Sl,e=[.sh r,.sh w,.sh b,s,t]/\s.pl=true/\t.pl=true
def Ig{r w:Val}{bs:List Val}(ha:∀b∈bs,ik 2 b=true){e:E3}(he:ftE r w (.lst bs) e):∃e',ftE r w (.lst bs) e'/\cI (gtX (gtT 2 (ay (gtN 3) (ay (gtN 4) bI)))).G lI.G (eL 0 bs) e=fdS (λp=>.val (.tup [.str "box",.int (p.2:Nat)])) e' (bs.zipIdx.find? (λp=>!er p.1)):=by
 rw[Es];refine fC (λp:Val×Nat=>.tup [.int (p.2:Nat),p.1]) _ (λp=>.val (.tup [.str "box",.int (p.2:Nat)])) (ftE r w (.lst bs)) bs.zipIdx e he ?_;rintro⟨v,i⟩ hvi e ⟨s,t,rfl,hs,ht⟩;have ib:=kq (ha v (Ou hvi));refine⟨[.sh r,.sh w,.sh (.lst bs),.sh (.int (i:Nat)),.sh v],[.sh r,.sh w,.sh (.lst bs),.sh (.int (i:Nat)),.sh v],?_,⟨_,_,rfl,rfl,rfl⟩,?_⟩
 .simp![hs,ht]
 .unfold lI;dsimp only;cases hc:er v with
  |true=>right;simp![ib,hc,Pc,PD,true_or]
  |false=>left;simp![ib,hc,Pc]
noncomputable def arP (rm:Bx) (ws:List Int) (p:Bx×Nat):Bool:=match ws[p.2]? with
 |some w=>!decide (p.1.w*p.1.h=rm.w*rm.h*((w:Rat)/(ws.sum:Rat)))
 |none=>false
def Fj{rm:Bx}{ws:List Int}{bs:List Bx}{n m:Nat}(hr:rm.Ok)(hrs:rm.Sz n)(hb:∀b∈bs,b.Ok)(hbs:∀b∈bs,b.Sz n)(hw:∀w∈ws,1<=w)(hws:∀w∈ws,Sm m w)(hS:Sm m ws.sum)(hl:bs.length=ws.length)(h:n+n+m<=8000){e:E3}(he:ftE (bV rm) (.lst (ws.map .int)) (.lst (bs.map bV)) e):∃e',ftE (bV rm) (.lst (ws.map .int)) (.lst (bs.map bV)) e'/\cI (gtX (gtT 2 (ay (gtN 3) (ay (gtN 4) bI)))).G lB.G (eL 0 (bs.map bV)) e=fdS (λp=>.val (.tup [.str "area",.int (p.2:Nat)])) e' (bs.zipIdx.find? (arP rm ws)):=by
 rw[jk];refine fC (λp:Bx×Nat=>.tup [.int (p.2:Nat),bV p.1]) _ (λp=>.val (.tup [.str "area",.int (p.2:Nat)])) (ftE (bV rm) (.lst (ws.map .int)) (.lst (bs.map bV))) bs.zipIdx e he ?_;rintro⟨b,i⟩ hvi e ⟨s,t,rfl,hs,ht⟩;have hm:=Ou hvi;have hi:i<ws.length:=by have:=List.mem_zipIdx hvi;omega
 have ar:=vS (hb b hm) (hbs b hm) (by omega);have rr:=vS hr hrs (by omega);have ei:ws[i]?=some ws[i]:=v_ hi;have at1:atI (ws.map Val.int) ((i:Nat):Int)=some (.int ws[i]):=dq (by omega) (by rw[NJ,Nm,ei];rfl);have s0:ws.sum≠0:=by
  have:=wF hw (by intro z;rw[z] at hi;simp at hi)
  omega
 have fr:=dS (a:=ws[i]) s0 (hS.mono (by omega));have sz:=Sz.div s0 (hws ws[i] (NW hi)) hS m (t_ _) (t_ _);have tm:=jG (hrs.w.mul hrs.h) sz (by omega);have eq:=Nb (b.w*b.h) (rm.w*rm.h*((ws[i]:Rat)/(ws.sum:Rat)));have pe:arP rm ws (b,i)=!decide (b.w*b.h=rm.w*rm.h*((ws[i]:Rat)/(ws.sum:Rat))):=by unfold arP;dsimp only;rw[ei]
 refine⟨[.sh (bV rm),.sh (.lst (ws.map .int)),.sh (.lst (bs.map bV)),.sh (.int (i:Nat)),.sh (bV b)],[.sh (bV rm),.sh (.lst (ws.map .int)),.sh (.lst (bs.map bV)),.sh (.int (i:Nat)),.sh (bV b)],?_,⟨_,_,rfl,rfl,rfl⟩,?_⟩
 .simp![hs,ht]
 .rw[pe];unfold lB;by_cases hc:b.w*b.h=rm.w*rm.h*((ws[i]:Rat)/(ws.sum:Rat))
  .rw[I_ hc] at eq ⊢;right;simp![ar,rr,at1,fr,tm,eq,Pc,PD,true_or]
  .rw[C_ hc] at eq ⊢;left;simp![ar,rr,at1,fr,tm,eq,Pc]
noncomputable def oV (rm:Bx) (p:Bx×Nat):Bool:=!inB (wlB rm) (wlB p.1)
def GS{rm:Bx}{w:Val}{bs:List Bx}{n:Nat}(hrs:rm.Sz n)(hbs:∀b∈bs,b.Sz n)(h:n+n<=8000){e:E3}(he:ftE (bV rm) w (.lst (bs.map bV)) e):∃e',ftE (bV rm) w (.lst (bs.map bV)) e'/\cI (gtX (gtT 2 (ay (gtN 3) (ay (gtN 4) bI)))).G mf.G (eL 0 (bs.map bV)) e=fdS (λp=>.val (.tup [.str "out",.int (p.2:Nat)])) e' (bs.zipIdx.find? (oV rm)):=by
 rw[jk];refine fC (λp:Bx×Nat=>.tup [.int (p.2:Nat),bV p.1]) _ (λp=>.val (.tup [.str "out",.int (p.2:Nat)])) (ftE (bV rm) w (.lst (bs.map bV))) bs.zipIdx e he ?_;rintro⟨b,i⟩ hvi e ⟨s,t,rfl,hs,ht⟩;have lw:=oM hrs (hbs b (Ou hvi)) h h;refine⟨[.sh (bV rm),.sh w,.sh (.lst (bs.map bV)),.sh (.int (i:Nat)),.sh (bV b)],[.sh (bV rm),.sh w,.sh (.lst (bs.map bV)),.sh (.int (i:Nat)),.sh (bV b)],?_,⟨_,_,rfl,rfl,rfl⟩,?_⟩
 .simp![hs,ht]
 .have pe:oV rm (b,i)=!inB (wlB rm) (wlB b):=rfl;rw[pe];unfold mf;cases hc:inB (wlB rm) (wlB b) with
  |true=>right;simp![lw,hc,Pc,PD,true_or]
  |false=>left;simp![lw,hc,Pc]
noncomputable def jZ (rm:Bx) (ws:List Int) (bs:List Bx):Val:=match bs.zipIdx.find? (arP rm ws) with
 |some p=>.tup [.str "area",.int (p.2:Nat)]
 |none=>match bs.zipIdx.find? (oV rm) with
  |some p=>.tup [.str "out",.int (p.2:Nat)]
  |none=>qL bs
structure Wts(m:Nat)(ws:List Int):Prop where
 ne:ws≠[]
 pos:∀w∈ws,1<=w
 le:ws.length<=40
 sz:∀w∈ws,Sm m w
 sum:Sm m ws.sum
def Ba{rm:Bx}{ws:List Int}{n m:Nat}{bs:List Bx}(hr:rm.Ok)(hrs:rm.Sz n)(hw:Wts m ws)(hl:bs.length=ws.length)(hb:∀b∈bs,b.Ok)(hbs:∀b∈bs,b.Sz n)(h:n+n+m<=8000):gT.G [bV rm,.lst (ws.map .int),.lst (bs.map bV)]=.ok (.val (jZ rm ws bs)) []:=by
 have c:=bj hr;have k:=gx hw.ne hw.pos hw.le;have e:((((bs.map bV).length:Nat):Int)==((ws.map Val.int).length:Nat))=true:=by rw[NA,p_,p_];omega
 obtain⟨e1,he1,f1⟩:=Ig (r:=bV rm) (w:=.lst (ws.map .int)) (bs:=bs.map bV) (by intro v hv;obtain⟨b,_,rfl⟩:=Nv.mp hv;exact zX b) ⟨.no,.no,rfl,rfl,rfl⟩;rw[show (bs.map bV).zipIdx.find? (λp=>!er p.1)=none from by rw[OP];rintro⟨v,i⟩ hvi;obtain⟨b,hb',rfl⟩:=Nv.mp (Ou hvi);dsimp only;rw[sH (hb b hb')];decide] at f1;rw[ip] at f1;obtain⟨e2,he2,f2⟩:=Fj hr hrs hb hbs hw.pos hw.sz hw.sum hl h he1;obtain⟨s1,t1,rfl,hs1,ht1⟩:=he1;have fo:=qb (by have:=hw.le;omega) hbs (by omega);unfold jZ;unfold gT;rw[aB];unfold vQ;cases q2:bs.zipIdx.find? (arP rm ws) with
 |some p=>rw[q2,jv] at f2;obtain⟨s2,t2,rfl,_,_⟩:=he2;simp![c,k,e,f1,f2]
 |
  none=>
  rw[q2,ip] at f2;obtain⟨e3,he3,f3⟩:=GS hrs hbs (by omega) he2;obtain⟨s2,t2,rfl,_,_⟩:=he2;obtain⟨s3,t3,rfl,_,_⟩:=he3;cases q3:bs.zipIdx.find? (oV rm) with
  |some p=>rw[q3,jv] at f3;simp![c,k,e,f1,f2,f3]
  |none=>rw[q3,ip] at f3;simp![c,k,e,f1,f2,f3,fo]
def Mr(v w:Bool):ba (.str (wy v)) (.str (wy w))=some (v==w):=by rw[eq_str (xX v) (xX w)];cases v <;> cases w <;> decide +kernel
def jY(f:Nat->Val)(w:Bool)(ts:List AT):AT.val f (.nd w ts)=.tup [.str (wy w),.tup (ts.map (AT.val f))]:=by rw[AT.val,AT.vals_map]
def zr{a:Val}(h:lfV a=true):(aX bz).G [a,.ty "tuple"]=.val (.bl false):=by cases a <;> first |rfl |(cases h;done)
theorem mG{f:Nat->Val}{m:Nat}{w:Bool}(tv sv:Val):∀(ts acc:List AT) (s4 s5:Sl),s4.pl=true->s5.pl=true->(∀t∈ts,(bp m).G [t.val f]=.ok (.val (t.pln.val f)) []/\∀k∈t.pln.lvs,lfV (f k)=true)->acc.length+(AT.plnL w ts).length<=100000->
 ∃s4' s5',cI (gtN 4).G (eT (bp m)).G (ts.map (AT.val f)) [.sh tv,.sh (.str (wy w)),.sh sv,.ow (.lst (acc.map (AT.val f))),s4,s5]=.nx [.sh tv,.sh (.str (wy w)),.sh sv,.ow (.lst ((acc++AT.plnL w ts).map (AT.val f))),s4',s5']
 | [],acc,s4,s5,_,_,_,_=>⟨s4,s5,by rw[AT.plnL,Ny];rfl⟩
 |
  t::ts,acc,s4,s5,h4,h5,hp,hl=>by
  obtain⟨e1,lf⟩:=hp t (s_ ..);rw[AT.plnL,H_] at hl;obtain⟨s4',s5',q⟩:=mG (w:=w) tv sv ts (acc++gE w t.pln) (.sh (t.val f)) (.sh (t.pln.val f)) rfl rfl (λu hu=>hp u (q_ _ hu)) (by rw[H_];omega);refine⟨s4',s5',?_⟩;rw[AT.plnL,<- O0,x_,dg];have g1:(gtN 4).G (t.val f) [.sh tv,.sh (.str (wy w)),.sh sv,.ow (.lst (acc.map (AT.val f))),s4,s5]=some [.sh tv,.sh (.str (wy w)),.sh sv,.ow (.lst (acc.map (AT.val f))),.sh (t.val f),s5]:=by generalize t.val f=a at *;simp![h4]
  have b1
   : (eT (bp m)).G [.sh tv,.sh (.str (wy w)),.sh sv,.ow (.lst (acc.map (AT.val f))),.sh (t.val f),s5]=.nx [.sh tv,.sh (.str (wy w)),.sh sv,.ow (.lst ((acc++gE w t.pln).map (AT.val f))),.sh (t.val f),.sh (t.pln.val f)]:=by
   unfold eT;rw[NQ];have ll:(acc.map (AT.val f)).length<16777216:=by rw[p_];omega
   generalize t.val f=a at *;generalize t.pln=p at *;cases p with
   |lf k=>have i1:=zr (lf k (by rw[AT.lvs];exact s_ ..));rw[EO];rw[x_,Nt];rw[AT.val] at e1 ⊢;generalize f k=fk at *;generalize acc.map (AT.val f)=AC at *;simp![e1,i1,h5,ll]
   |
    nd v us=>
    rw[jY] at e1 ⊢;have we:=Mr v w;have l2:(acc.map (AT.val f)).length+(us.map (AT.val f)).length<=16777216\/v≠w:=by
     by_cases hv:v=w
     .left;rw[fS] at hl;rw[if_pos hv] at hl;rw[p_,p_];omega
     .exact .inr hv
    by_cases hv:v=w
    .subst hv;rw[Pj] at we;have l2:=l2.resolve_right (λz=>z rfl);rw[fS];rw[if_pos rfl];generalize acc.map (AT.val f)=AC at *;generalize us.map (AT.val f)=UV at *;simp![e1,kK,we,h5,ko,l2,nD]
    .rw[F_.mpr hv] at we;rw[fS];rw[if_neg hv,x_,Nt,jY];generalize acc.map (AT.val f)=AC at *;generalize us.map (AT.val f)=UV at *;simp![e1,kK,we,h5,ll,nD]
  rw[g1];dsimp only;rw[b1];exact q
def Cq{f:Nat->Val}(t:AT):∀m,t.dep<=m->t.ok=true->t.lvs.length<=1000->(∀k∈t.lvs,lfV (f k)=true)->(bp m).G [t.val f]=.ok (.val (t.pln.val f)) []:=by
 induction t using AT.ind with
 |
  h1 k=>
  intro m hm _ _ hf;have i1:=zr (hf k (by rw[AT.lvs];exact s_ ..));cases m with
  |zero=>simp [AT.dep] at hm
  |succ m=>show (PFx.of [false] 6 (c9 (bp m))).G [AT.val f (.lf k)]=_;rw[gq];unfold c9;rw[AT.pln,AT.val];generalize f k=fk at *;simp![i1]
 |
  h2 w ts ih=>
  intro m hm ho hl hf;cases m with
  |zero=>simp [AT.dep] at hm
  |
   succ m=>
   rw[AT.dep] at hm;have ho2:=AT.pln_ok _ ho;have hlv:=AT.pln_lvs (.nd w ts);have hd:=AT.depL_le.mp (show AT.depL ts<=m by omega);rw[AT.ok,u_] at ho;have hk:=AT.okL_mem.mp ho.2;rw[AT.lvs] at hl hf;rw[AT.pln] at ho2 hlv;rw[AT.ok,u_] at ho2;rw[AT.lvs,AT.lvs] at hlv;have ln:(AT.plnL w ts).length<=1000:=by
    have:=gi (f:=AT.lvs) (l:=AT.plnL w ts) λt ht=>fA (AT.okL_mem.mp ho2.2 t ht)
    rw[<- AT.lvsL_flat,hlv] at this;omega
   obtain⟨s4,s5,lo⟩:=mG (f:=f) (m:=m) (w:=w) (AT.val f (.nd w ts)) (.tup (ts.map (AT.val f))) ts [] .no .no rfl rfl (λt ht=>⟨ih t ht m (hd t ht) (hk t ht) (by have:=AT.lvs_le ht;omega) λk hk'=>hf k (AT.lvsL_mem.mpr ⟨t,ht,hk'⟩),λk hk'=>hf k (AT.lvsL_mem.mpr ⟨t,ht,by rw[<- AT.pln_lvs];exact hk'⟩)⟩) (by rw[Nr];omega);have l2:((AT.plnL w ts).map (AT.val f)).length<=16777216:=by rw[p_];omega
   rw[NH,Nt] at lo;show (PFx.of [false] 6 (c9 (bp m))).G [AT.val f (.nd w ts)]=_;rw[gq];unfold c9;rw[AT.pln,jY];rw[jY] at lo ⊢;generalize (AT.plnL w ts).map (AT.val f)=PV at *;generalize ts.map (AT.val f)=TV at *;simp![kK,lo,l2]
def EY{ws:List Int}{l:List Nat}(h:l.Perm (List.range ws.length)):wtA ws l=ws.sum:=by
 rw[tf h];unfold wtA;congr 1;refine List.ext_getElem? λi=>?_;rw[Nm];by_cases hi:i<ws.length
 .rw[OK hi,v_ hi];show some (ws.getD i 0)=_;rw[K_,v_ hi];rfl
 .rw[Ow (by rw[w_];omega),Ow (by omega)];rfl
structure TBx(ws:List Int)(t:AT)(b:Bx):Prop where
 ok:t.ok=true
 wt:∀k∈t.lvs,1<=ws.getD k 0
 bok:b.Ok
 mem:∀k,k∈t.lvs ↔ k<ws.length
 sum:wtT ws t=ws.sum
 sz:∀p∈AT.bx ws t b,p.2.Sz 2000
def TBx.pth{ws:List Int}{t:AT}{b:Bx}(T:TBx ws t b){k:Nat}(h:k<ws.length):∃p,t.pth k=some p/\AT.bxAt ws p t b=some (bxO (AT.bx ws t b) k)/\AT.at p t=some k:=by
 cases q:t.pth k with
 |some p=>exact⟨p,rfl,FP t p b q,AT.pth_at t p q⟩
 |none=>exact absurd ((T.mem k).mpr h) ((AT.pth_mem t).mp q)
def TBx.sep{ws:List Int}{t:AT}{b:Bx}(T:TBx ws t b){i j:Nat}(hi:i<ws.length)(hj:j<ws.length)(hij:i≠j):∃p q w s,t.pth i=some p/\t.pth j=some q/\p≠q/\AT.rel p q t=some (wd w s)/\AT.rel q p t=some (wd w (!s))/\gz w s (bxO (AT.bx ws t b) i) (bxO (AT.bx ws t b) j):=by obtain⟨p,p1,p2,p3⟩:=T.pth hi;obtain⟨q,q1,q2,q3⟩:=T.pth hj;obtain⟨u,hu⟩:=AT.rel_some hij p q t p3 q3;obtain⟨w,s,rfl,r2,sp⟩:=rV T.ok T.wt T.bok p2 q2 hu;refine⟨p,q,w,s,p1,q1,λz=>?_,hu,r2,sp⟩;rw[z,q3] at p3;exact hij (G_ p3).symm
def FZ{c d:Bx}{w s:Bool}(h:gz w s c d):ovB (wlB c) (wlB d)=false:=by
 unfold gz at h;unfold ovB wlB;dsimp only;rw[P0,P0,P0];cases w <;> cases s <;> simp only[OW,OM,NM] at h
 .exact .inr (.inl (C_ λz=>by grind))
 .exact .inr (.inr (C_ λz=>by grind))
 .exact .inl (.inl (C_ λz=>by grind))
 .exact .inl (.inr (C_ λz=>by grind))
def Ms{c b:Bx}(h:Bx.In c b):inB (wlB b) (wlB c)=true:=by obtain⟨h1,h2,h3,h4⟩:=h;unfold inB wlB;dsimp only;rw[C_ (by grind),C_ (by grind),C_ (by grind),C_ (by grind)];rfl
def TBx.ft{ws:List Int}{t:AT}{b:Bx}(T:TBx ws t b):jZ b ws ((List.range ws.length).map λk=>bxO (AT.bx ws t b) k)=.non:=by
 have at_:∀{c:Bx}{i:Nat},(c,i)∈((List.range ws.length).map λk=>bxO (AT.bx ws t b) k).zipIdx->i<ws.length/\c=bxO (AT.bx ws t b) i:=λ{c i} h=>by
  have:=List.mem_zipIdx_iff_getElem?.mp h
  dsimp only at this;rw[Nm] at this;by_cases hi:i<ws.length
  .rw[OK hi] at this;exact⟨hi,(G_ this).symm⟩
  .rw[Ow (by rw[w_];omega)] at this;cases this
 have f1:((List.range ws.length).map λk=>bxO (AT.bx ws t b) k).zipIdx.find? (arP b ws)=none:=by rw[OP];rintro⟨c,i⟩ h;obtain⟨hi,rfl⟩:=at_ h;obtain⟨p,p1,p2,p3⟩:=T.pth hi;have ar:=oY T.ok T.wt T.bok p2 p3;rw[T.sum] at ar;unfold arP;dsimp only;rw[v_ hi];dsimp only;rw[ar,K_,v_ hi,Option.getD_some,I_ rfl];decide
 have f2:((List.range ws.length).map λk=>bxO (AT.bx ws t b) k).zipIdx.find? (oV b)=none:=by rw[OP];rintro⟨c,i⟩ h;obtain⟨hi,rfl⟩:=at_ h;obtain⟨p,p1,p2,p3⟩:=T.pth hi;unfold oV;rw[Ms (ky T.ok T.wt T.bok p2).2];decide
 unfold jZ;rw[f1,f2];dsimp only;unfold qL;have f3:(((List.range ws.length).map λk=>bxO (AT.bx ws t b) k).map wlB).zipIdx.find? (ovP (((List.range ws.length).map λk=>bxO (AT.bx ws t b) k).map wlB))=none:=by
  rw[OP];rintro⟨c,i⟩ h;have q:=List.mem_zipIdx_iff_getElem?.mp h;dsimp only at q;rw[NT,Nm] at q;have hi:i<ws.length:=by
   by_cases hi:i<ws.length
   .exact hi
   .rw[Ow (by rw[w_];omega)] at q;cases q
  rw[OK hi] at q;have q:=(G_ q).symm;unfold ovP;dsimp only;rw[Bool.not_eq_true,Option.isSome_eq_false_iff,Option.isNone_iff_eq_none,OP];intro j hj;rw[M_] at hj;obtain⟨p,q',w,s,_,_,_,_,_,sp⟩:=T.sep (i:=j) (j:=i) (by omega) hi (by omega);unfold ovJ;rw[NT,Nm,OK (by omega)];dsimp only [Option.map_some];rw[q];show ¬ ovB (wlB _) (wlB _)=true;rw[FZ sp];decide
 rw[f3]
def G4{ws:List Int}{t:AT}{o:List Nat}{b:Bx}(g:Good b)(W:WOk ws)(T:TOk t o)(ho:∀i,i∈o ↔ i<ws.length)(hl:o.length=ws.length):TBx ws t b:=by obtain⟨hw,_⟩:=Dy g W T ho hl;obtain⟨m,hm,hy⟩:=qr g W T ho hl;have hp:=ma ws.length t.lvs (by rw[T.len,hl]) λi hi=>(T.mem i).mpr ((ho i).mpr hi);exact⟨T.ok,hw,g.ok,λk=>(T.mem k).trans (ho k),EY hp,λp hp=>(Au t b hy p hp).2⟩
def yB(t:AT):∀m,t.dep<=m->t.ok=true->t.lvs.length<=1000->(bS m).G [t.val λk=>.int (k:Nat)]=.ok (.new (.lst (t.lvs.map λk=>.int (k:Nat)))) []:=by
 induction t using AT.ind with
 |
  h1 k=>
  intro m hm _ _;cases m with
  |zero=>simp [AT.dep] at hm
  |succ m=>have i1:(aX bz).G [.int (k:Nat),.ty "tuple"]=.val (.bl false):=rfl;show (PFx.of [false] 1 (c8 (bS m))).G [AT.val _ (.lf k)]=_;rw[gq];unfold c8;rw[AT.val,AT.lvs];simp![i1,x_,Nt]
 |
  h2 w ts ih=>
  intro m hm ho hl;cases m with
  |zero=>simp [AT.dep] at hm
  |
   succ m=>
   rw[AT.dep] at hm;have hd:=AT.depL_le.mp (show AT.depL ts<=m by omega);rw[AT.ok,u_] at ho;have hne:ts≠[]:=λz=>by rw[z] at ho;exact absurd ho.1 (by decide)
   have hk:=AT.okL_mem.mp ho.2;rw[AT.lvs,AT.lvsL_flat] at hl;have hll:∀t∈ts,t.lvs.length<=1000:=λt ht=>by
    have:=List.Sublist.length_le (List.sublist_flatten_of_mem (List.mem_map_of_mem (f:=AT.lvs) ht))
    omega
   show (PFx.of [false] 1 (c8 (bS m))).G [AT.val _ (.nd w ts)]=_;rw[gq];unfold c8;rw[AT.val,AT.lvs,AT.vals_map,AT.lvsL_flat];obtain⟨e',⟨s,rfl,_⟩,lc⟩:=cQ (g:=(gtN 0).G) (F:=(ah (bS m).fn (aa (af 0) ag)).G) (AT.val λk=>.int (k:Nat)) (λt=>Val.lst (t.lvs.map λk=>.int (k:Nat))) (λe=>∃s:Sl,e=[s]/\s.pl=true) ts [] [.no] ⟨.no,rfl,rfl⟩ (by
    rintro t ht _ ⟨s,rfl,hs⟩
    have:=ih t ht m (hd t ht) (hk t ht) (hll t ht)
    generalize AT.val (λk=>Val.int (k:Nat)) t=tv at *;refine⟨[.sh tv],.new (.lst (t.lvs.map λk=>.int (k:Nat))),[.sh tv],?_,?_,rfl,_,rfl,rfl⟩
    .simp![hs]
    .simp![this]) (by
    rw[Nr,Ph];have:ts.length<=((ts.map AT.lvs).flatten).length:=gi λt ht=>fA (hk t ht);omega)
   have e2:ts.map (λt=>Val.lst (t.lvs.map λk=>.int (k:Nat)))=(ts.map λt=>t.lvs.map λk=>Val.int (k:Nat)).map .lst:=by rw[NT];rfl
   have hfl:(ts.map λt=>t.lvs.map λk=>Val.int (k:Nat)).flatten=(ts.map AT.lvs).flatten.map λk=>Val.int (k:Nat):=by rw[List.map_flatten,NT];rfl
   have sm:=Iw (ts.map λt=>t.lvs.map λk=>Val.int (k:Nat)) [];rw[<- e2,hfl,if_pos ⟨by simpa using hne,by rw[Nr,p_];omega⟩,NH] at sm;have ll:(ts.map (λt=>Val.lst (t.lvs.map λk=>.int (k:Nat)))).length<=16777216:=by rw[p_];have:ts.length<=((ts.map AT.lvs).flatten).length:=gi λt ht=>fA (hk t ht);omega
   rw[NH] at lc;simp![kK,bL,lc,ll,sm]
def Ab(w:Bool)(n:Nat):(sbT w n).lvs=List.range n:=by
 unfold sbT;by_cases h1:n=1
 .rw[if_pos h1,h1];rfl
 .rw[if_neg h1,AT.lvs,jA]
def D8(t:AT):L3.flatV (atV t)=true:=by
 unfold atV;induction t using AT.ind with
 |h1 k=>rw[AT.val];rfl
 |
  h2 w ts ih=>
  rw[jY,ka,eP,eP,nJ,ka];have:L3.flatVs (ts.map (AT.val λk:Nat=>Val.int k))=true:=by
   induction ts with
   |nil=>rfl
   |cons t ts ih2=>rw[x_,eP,ih t (s_ ..),ih2 λu hu=>ih u (q_ _ hu)];rfl
  rw[this];rfl
structure Rul(r:Str)(b:Bx)(ws:List Int)(t:AT):Prop where
 eq:aE.G [.str r,bV b,liV ws]=.ok (.val (atV t)) []
 ok:TOk t (List.range ws.length)
def Lr(l:List Nat):ba (itV l) (itV l)=some true:=by
 have:wfV 60 (itV l)=true:=by show bZ 59 (l.map λk:Nat=>Val.int k)=true;exact kD λv hv=>by obtain⟨w,_,rfl⟩:=Nv.mp hv;rfl
 rw[yb this this,kF 60 _ this]
def EW{b:Bx}{ws:List Int}(g:Good b)(W:WOk ws):b.Sz 2000:=by obtain⟨m,_,B,_⟩:=oK g W;exact B.sz
def IF{b:Bx}{ws:List Int}(g:Good b)(W:WOk ws):Wts 104 ws:=by
 obtain⟨m,hm,_,hS⟩:=oK g W;have h:=hS (List.range ws.length) (λk hk=>M_.mp hk) (by rw[w_];omega);unfold wtA at h;rw[lW] at h;have wp:=W.pos;have sn:=dD (l:=ws) λx hx=>(W.wt x hx).1;have p:(2:Int)^m<=2^104:=by exact_mod_cast N5 (by decide) hm
 refine⟨λz=>by rw[z] at wp;exact absurd wp (by decide),λw hw=>(W.wt w hw).1,W.len,λw hw=>?_,?_⟩
 .have h1:=W.wt w hw;have:(2:Nat)^104=20282409603651670423947251286016:=by decide
  unfold Sm;omega
 .have:(2:Int)^104=20282409603651670423947251286016:=by decide
  have:(2:Nat)^104=20282409603651670423947251286016:=by decide
  unfold Sm;omega
def Dm{b:Bx}{ws:List Int}{t:AT}(g:Good b)(W:WOk ws)(T:TOk t (List.range ws.length)):gT.G [bV b,liV ws,.lst ((bsO ws t b).map bV)]=.ok (.val .non) []:=by have X:=G4 g W T (λi=>M_) w_;have f:=A3 g W T;have e:=Ba (rm:=b) (ws:=ws) (n:=2000) (m:=104) (bs:=bsO ws t b) g.ok (EW g W) (IF g W) (E1 ..) (λc hc=>(f c hc).1) (λc hc=>(f c hc).2) (by decide);rw[show jZ b ws (bsO ws t b)=.non from X.ft] at e;exact e
def z9{b:Bx}{ws:List Int}{t:AT}(g:Good b)(W:WOk ws)(T:TOk t (List.range ws.length)):df.G [bV b,liV ws,atV t.pln]=.ok (.new (.lst ((bsO ws t b).map bV))) []:=by
 have wp:=W.pos;have wl:=W.len;have P:=T.pln;have hw:∀k∈t.lvs,1<=ws.getD k 0:=λk hk=>by rw[K_,v_ (M_.mp ((T.mem k).mp hk))];exact (W.wt _ (NW _)).1
 obtain⟨m,hm,hy⟩:=qr g W P (λi=>M_) w_;have be:=rN (by omega) g.ok (λz=>by rw[z] at wp;exact absurd wp (by decide)) (λx hx=>(W.wt x hx).1) wl P.ok (λk=>(P.mem k).trans M_) (sZ P (λi=>M_) w_) (by rw[P.len,w_]) (by have:=P.dep;rw[w_] at this;omega) hy;rw[AT.pln_bx t T.ok hw,vY] at be;exact be
def jf{r:Str}{b:Bx}{ws:List Int}{t:AT}{o:Bool}(g:Good b)(W:WOk ws)(R:Rul r b ws t)(hn:qU.G (.str r) (.tup [.str "greatest",.str "thirds"])=.val (.bl o))(ho:o=true->t.lvs=List.range ws.length){x0 x1 x4 x6 x7:Sl}(h6:x6.pl=true)(h7:x7.pl=true):mH.G [x0,x1,.sh (bV b),.ow (liV ws),x4,.sh (.str r),x6,x7]=.nx [x0,x1,.sh (bV b),.ow (liV ws),x4,.sh (.str r),.sh (atV t),.sh (.lst ((bsO ws t b).map bV))]:=by
 have T:=R.ok;have wl:=W.len;have wp:=W.pos;have e1:=R.eq;have td:=T.dep;have tl:=T.len;rw[w_] at td tl;have it:=mX (t:=t) (n:=ws.length) T.ok (λk hk=>M_.mp ((T.mem k).mp hk)) (sZ T (λi=>M_) w_) tl (by omega) (by have:=AT.cnt_lvs t T.ok;omega);have e2:=My g W e1 T;have e3:=Dm g W T;have e4:=z9 g W T;have e5:=Cq (f:=λk=>.int (k:Nat)) t 42 (by omega) T.ok (by omega) λk _=>rfl;have ee:=Eu (f:=λk=>.int (k:Nat)) t (by omega) λk _=>rfl;have e6:=Mg (bsO ws t b);have ll:((ws.map Val.int).length:Nat)=ws.length:=p_ ..;have lr:gJ.G [.int (ws.length:Nat)]=.new (itV (List.range ws.length)):=xH ⟨by omega,by omega⟩;have lv:=yB t 42 (by omega) T.ok (by omega);rw[show AT.val (λk=>Val.int (k:Nat)) t=atV t from rfl] at e5 ee lv;rw[show AT.val (λk=>Val.int (k:Nat)) t.pln=atV t.pln from rfl] at e5;have ei:=Lr (List.range ws.length);have fl:=D8 t;have nb:B8.G (.bl true) (.bl true)=.val (.bl false):=rfl;have fp:=D8 t.pln;have fb:L3.flatVs ((bsO ws t b).map bV)=true:=by
  generalize bsO ws t b=bs;induction bs with
  |nil=>rfl
  |cons c bs ih=>rw[x_,eP,LN,ih];rfl
 unfold mH;unfold liV at *;generalize (bsO ws t b).map bV=v1 at *;generalize atV t.pln=pv at *;generalize bV b=bv at *;cases o with
 |false=>generalize atV t=tv at *;generalize ws.map Val.int=wv at *;simp![e1,fl,fp,fb,nb,h6,h7,ll,it,ee,hn,e2,e3,e4,e5,e6]
 |true=>rw[ho rfl,show (Val.lst ((List.range ws.length).map λk=>Val.int (k:Nat)))=itV (List.range ws.length) from rfl] at lv;generalize itV (List.range ws.length)=rv at *;generalize atV t=tv at *;generalize ws.map Val.int=wv at *;simp![e1,fl,fp,fb,nb,h6,h7,ll,it,ee,hn,lv,lr,ei,e2,e3,e4,e5,e6]
def Mf{L:List Int}{i:Nat}{z:Int}(h:i<L.length)(hz:z=(i:Nat)):atI (L.map Val.int) z=some (.int (L.getD i 0)):=by subst hz;refine dq (by omega) ?_;rw[Nm];show (L[i]?).map _=_;rw[K_,v_ h];rfl
def HX{b:Bx}{ws:List Int}(g:Good b)(W:WOk ws){x0 x1 x4 x5 x6 x7:Sl}(h5:x5.pl=true)(h6:x6.pl=true)(h7:x7.pl=true):∃s6 s7:Sl,s6.pl=true/\s7.pl=true/\cI (gtN 5).G mH.G [.str "across",.str "down",.str "halves",.str "rows",.str "greatest",.str "thirds"] [x0,x1,.sh (bV b),.ow (liV ws),x4,x5,x6,x7]=.nx [x0,x1,.sh (bV b),.ow (liV ws),x4,.sh (.str "thirds"),s6,s7]:=by have wp:=W.pos;have wl:=W.len;have hw:∀w∈ws,1<=w:=λw h=>(W.wt w h).1;have rl:(List.range ws.length).length=ws.length:=w_;have k1:=λx6 x7 h6 h7=>jf (o:=true) (x0:=x0) (x1:=x1) (x4:=x4) (x6:=x6) (x7:=x7) g W ⟨zE true g.ok W,D6 true wp⟩ rfl (λ_=>Ab ..) h6 h7;have k2:=λx6 x7 h6 h7=>jf (o:=true) (x0:=x0) (x1:=x1) (x4:=x4) (x6:=x6) (x7:=x7) g W ⟨zE false g.ok W,D6 false wp⟩ rfl (λ_=>Ab ..) h6 h7;have k3:=λx6 x7 h6 h7=>jf (o:=true) (x0:=x0) (x1:=x1) (x4:=x4) (x6:=x6) (x7:=x7) g W ⟨JN (DV g W).1,(DV g W).2⟩ rfl (λ_=>oi rA hw 42 _ _ (by omega) (by omega) (λk hk=>M_.mp hk) trivial) h6 h7;have k4:=λx6 x7 h6 h7=>jf (o:=true) (x0:=x0) (x1:=x1) (x4:=x4) (x6:=x6) (x7:=x7) g W ⟨Jm (D4 g W).1,(D4 g W).2⟩ rfl (λ_=>vt 42 _ _ (by omega) (by omega)) h6 h7;have k5:=λx6 x7 h6 h7=>jf (o:=false) (x0:=x0) (x1:=x1) (x4:=x4) (x6:=x6) (x7:=x7) g W ⟨Jr (DM g W).1,(DM g W).2⟩ rfl (λz=>absurd z (by decide)) h6 h7;have k6:=λx6 x7 h6 h7=>jf (o:=false) (x0:=x0) (x1:=x1) (x4:=x4) (x6:=x6) (x7:=x7) g W ⟨JV (D5 g W).1,(D5 g W).2⟩ rfl (λz=>absurd z (by decide)) h6 h7;rw[show wy true="across" from rfl] at k1;rw[show wy false="down" from rfl] at k2;have k1:=k1 _ _ h6 h7;have k2:=k2 _ _ (show Sl.pl (.sh (atV (sbT true ws.length)))=true from rfl) (show Sl.pl (.sh (.lst ((bsO ws (sbT true ws.length) b).map bV)))=true from rfl);have k3:=k3 _ _ (show Sl.pl (.sh (atV (sbT false ws.length)))=true from rfl) (show Sl.pl (.sh (.lst ((bsO ws (sbT false ws.length) b).map bV)))=true from rfl);have k4:=k4 _ _ (show Sl.pl (.sh (atV (tH b ws)))=true from rfl) (show Sl.pl (.sh (.lst ((bsO ws (tH b ws) b).map bV)))=true from rfl);have k5:=k5 _ _ (show Sl.pl (.sh (atV (tR b ws)))=true from rfl) (show Sl.pl (.sh (.lst ((bsO ws (tR b ws) b).map bV)))=true from rfl);have k6:=k6 _ _ (show Sl.pl (.sh (atV (tG b ws)))=true from rfl) (show Sl.pl (.sh (.lst ((bsO ws (tG b ws) b).map bV)))=true from rfl);generalize (bsO ws (sbT true ws.length) b).map bV=v1 at *;generalize (bsO ws (sbT false ws.length) b).map bV=v2 at *;generalize (bsO ws (tH b ws) b).map bV=v3 at *;generalize (bsO ws (tR b ws) b).map bV=v4 at *;generalize (bsO ws (tG b ws) b).map bV=v5 at *;generalize (bsO ws (tT b ws) b).map bV=v6 at *;generalize atV (sbT true ws.length)=t1 at *;generalize atV (sbT false ws.length)=t2 at *;generalize atV (tH b ws)=t3 at *;generalize atV (tR b ws)=t4 at *;generalize atV (tG b ws)=t5 at *;generalize atV (tT b ws)=t6 at *;generalize liV ws=wv at *;generalize bV b=bv at *;refine⟨.sh t6,.sh (.lst v6),rfl,rfl,?_⟩;simp![dg,gO,h5,k1,k2,k3,k4,k5,k6]
noncomputable def wsN (ws:List Int):List Int:=if ws.length<40 then ws.set 0 (1+ws.getD (ws.length-1) 0 % 1000000)++[1+(ws.length:Int)] else ws.set 0 (1+ws.getD (ws.length-1) 0 % 1000000)
def Af{ws:List Int}{w:Int}(h:w∈wsN ws):w∈ws\/1<=w/\w<=1000000:=by
 have key:∀w,w∈ws.set 0 (1+ws.getD (ws.length-1) 0 % 1000000)->w∈ws\/1<=w/\w<=1000000:=λw hw=>by
  rcases Pu hw with z |z
  .exact .inl z
  .right;omega
 unfold wsN at h;split at h
 .rcases OB.mp h with h |h
  .exact key w h
  .rw[NU] at h;right;omega
 .exact key w h
def HF{ws:List Int}(W:WOk ws)(few:9<ws.length->∀w∈ws,w<=8388608):WOk (wsN ws):=by
 have wp:=W.pos;have wl:=W.len;have len:(wsN ws).length<=40/\1<=(wsN ws).length/\(wsN ws).length<=ws.length+1:=by
  unfold wsN;split
  .rw[H_,ND,P4];omega
  .rw[ND];omega
 refine⟨len.2.1,len.1,λw hw=>?_,λhl w hw=>?_⟩
 .rcases Af hw with z |z
  .exact W.wt w z
  .omega
 .rcases Af hw with z |z
  .exact few (by omega) w z
  .omega
def wg{b:Bx}{ws:List Int}(g:Good b)(W:WOk ws){x0 x1 x4 x5 x6 x7:Sl}(h5:x5.pl=true)(h6:x6.pl=true)(h7:x7.pl=true):∃s5 s6 s7:Sl,s5.pl=true/\s6.pl=true/\s7.pl=true/\nB.G [x0,x1,.sh (bV b),.ow (liV ws),x4,x5,x6,x7]=.nx [x0,x1,.sh (bV b),.ow (liV (wsN ws)),x4,s5,s6,s7]:=by
 have wp:=W.pos;have wl:=W.len;obtain⟨s6,s7,p6,p7,lo⟩:=HX (x0:=x0) (x1:=x1) (x4:=x4) g W h5 h6 h7;refine⟨.sh (.str "thirds"),s6,s7,rfl,p6,p7,?_⟩;have ll:((ws.map Val.int).length:Nat)=ws.length:=p_ ..;have a0:=Mf (L:=ws) (i:=ws.length-1) (z:=((ws.length:Nat):Int)-1) (by omega) (by omega);have pw:=pow6;have md:bU.G (.int (ws.getD (ws.length-1) 0)) (.int 1000000)=.val (.int (ws.getD (ws.length-1) 0 % 1000000)):=by rw[eU (by decide),Pm _ (by decide)]
 have ix:ixN ws.length 0=some 0:=by unfold ixN;rw[if_pos (by omega),if_pos (by omega)];rfl
 have st:(ws.map Val.int).set 0 (.int (1+ws.getD (ws.length-1) 0 % 1000000))=(ws.set 0 (1+ws.getD (ws.length-1) 0 % 1000000)).map Val.int:=by rw[List.map_set]
 have ls:((ws.set 0 (1+ws.getD (ws.length-1) 0 % 1000000)).map Val.int).length=ws.length:=by rw[p_,ND]
 unfold wsN;by_cases h40:ws.length<40
 .have l40:((ws.length:Nat):Int)<40:=by omega
  have lz:ws.length<16777216:=by omega
  rw[if_pos h40];unfold liV at *;rw[NQ,x_,Nt,<- st];rw[<- st] at ls;unfold nB;generalize (ws.map Val.int).set 0 (.int (1+ws.getD (ws.length-1) 0 % 1000000))=w2 at *;generalize hW:ws.map Val.int=wv at *;generalize bV b=bv at *;simp![lo,xg,ll,a0,pw,md,ix,ls,l40,lz];try simp_all
 .have l40:¬ ((ws.length:Nat):Int)<40:=by omega
  rw[if_neg h40];unfold liV at *;rw[<- st];rw[<- st] at ls;unfold nB;generalize bV b=bv at *;simp![lo,xg,ll,a0,pw,md,ix,ls,l40]
def IK{r:Int}:∃m:Int,1<=m/\m<=40/\atI [Val.int 9,.int 40] (if (r==0)=true then 1 else 0)=some (.int m):=by
 by_cases h:r=0
 .exact⟨40,by decide,by decide,by rw[h];exact dq (by decide) rfl⟩
 .have e:(r==0)=false:=by rw[F_];exact h
  exact⟨9,by decide,by decide,by rw[e];exact dq (by decide) rfl⟩
def lawQ(r:SR3):Prop:=l8 [false] r=.ok (.val (.bl true)) []
def JI(ns:List Int)(hl:ns.length<=63):qR.G [.kl (ns.map .int)]=.ok (.val (.bl true)) []:=by unfold qR;rw[wV rfl];show lawQ (xM.G [.sh (.kl (ns.map .int)),.no,.no,.no,.no,.no,.no,.no]);unfold xM;obtain⟨a,e0⟩:=nO (ns:=ns) (k:=55) (by omega);refine aQ (λe=>e=[.sh (.kl (ns.map .int)),.ow (fdV a 0 55),.no,.no,.no,.no,.no,.no]) ⟨_,by simp![e0],rfl⟩ ?_;rintro _ rfl;obtain⟨b,a1,c1,g,e1⟩:=FK a 0 55;refine aQ (λe=>e=[.sh (.kl (ns.map .int)),.ow (fdV a1 c1 55),.sh (bV b),.no,.no,.no,.no,.no]) ⟨_,by simp![e1],rfl⟩ ?_;rintro _ rfl;obtain⟨r,a2,c2,e2,_,_⟩:=aF (a:=a1) (b:=c1) (k:=55) (m:=6) (by decide) (sm8 (by decide));obtain⟨m,m1,m2,pm⟩:=IK (r:=r);obtain⟨ws,p1,p2,p3,p4,p5⟩:=xE (ns:=ns) (at_:=0) (most:=m) (by decide) ⟨m1,m2⟩;have W:WOk ws:=⟨p1,by omega,p3,λh=>p4 (by omega)⟩;refine aQ (λe=>e=[.sh (.kl (ns.map .int)),.ow (fdV a2 c2 55),.sh (bV b),.ow (liV ws),.no,.no,.no,.no]) ⟨_,by generalize liV ws=wv at *;generalize bV b=bv at *;generalize fdV a1 c1 55=f1 at *;generalize fdV a2 c2 55=f2 at *;simp![e2,pm,p5],rfl⟩ ?_;rintro _ rfl;have W2:=HF W λh=>p4 (by omega);obtain⟨s5,s6,s7,h5,h6,h7,t1⟩:=wg (x0:=.sh (.kl (ns.map .int))) (x1:=.ow (fdV a2 c2 55)) (x4:=.sh (.int 0)) (x5:=.no) (x6:=.no) (x7:=.no) g W rfl rfl rfl;obtain⟨r5,r6,r7,_,_,_,t2⟩:=wg (x0:=.sh (.kl (ns.map .int))) (x1:=.ow (fdV a2 c2 55)) (x4:=.sh (.int 1)) g W2 h5 h6 h7;have rg:jL [.int 2]=some [.int 0,.int 1]:=kz (k:=2) (by decide);generalize liV (wsN (wsN ws))=w3 at *;generalize liV (wsN ws)=w2 at *;generalize liV ws=wv at *;generalize bV b=bv at *;generalize fdV a2 c2 55=f2 at *;refine aQ (λe=>e=[.sh (.kl (ns.map .int)),.ow f2,.sh bv,.ow w3,.sh (.int 1),r5,r6,r7]) ⟨_,by simp![rg,dg,gO,t1,t2],rfl⟩ ?_;rintro _ rfl;unfold lawQ;simp![xu]
end KK
namespace PySem.W.Fast
def q__:=trivial
def tw10020653280075281221:=q__
def tw10064391232912543014:=q__
def tw101133847736647173:=q__
def tw10154654832053167435:=q__
def tw10168556276632694105:=q__
def tw10175131376169371266:=q__
def tw10227548347969126148:=q__
def tw10238701454600882887:=q__
def tw10240302103691541593:=q__
def tw10255015284977480452:=q__
def tw1025602074903867197:=q__
def tw10350969019567432901:=q__
def tw10359928555449961246:=q__
def tw10364297767237125758:=q__
def tw10399761892490989794:=q__
def tw10400058234489241290:=q__
def tw10457575479073376002:=q__
def tw10503529379555366314:=q__
def tw10612324531902984468:=q__
def tw10622735222043044018:=q__
def tw10706795333768916291:=q__
def tw10727274388667110790:=q__
def tw10745506635012154979:=q__
def tw10764009431255626193:=q__
def tw10833713177578173691:=q__
def tw10835461798650215664:=q__
def tw10845156388346356999:=q__
def tw10846626002565341007:=q__
def tw10877447019191134922:=q__
def tw10895895550470689680:=q__
def tw10966952978922725522:=q__
def tw10979045833777907377:=q__
def tw1104276182558788788:=q__
def tw11159447164934176491:=q__
def tw11230188738881921585:=q__
def tw11393047383404222544:=q__
def tw1140121436450516739:=q__
def tw11403766355092865129:=q__
def tw11428768303787982140:=q__
def tw11463325809345901522:=q__
def tw11471288404925819377:=q__
def tw11473556810573584649:=q__
def tw11494151180682757772:=q__
def tw1153021505339658912:=q__
def tw11558403778603476874:=q__
def tw11571489704967185869:=q__
def tw11585489395109148398:=q__
def tw11586883071300540201:=q__
def tw11614245422385970471:=q__
def tw11625415912857349725:=q__
def tw11679186644923621565:=q__
def tw11690915247528824639:=q__
def tw116971794296702850:=q__
def tw11708990359660535703:=q__
def tw11711010495922637631:=q__
def tw11727058985849523901:=q__
def tw11746446975408332484:=q__
def tw11757744674727824618:=q__
def tw11761298207004498770:=q__
def tw11761870237721731178:=q__
def tw1180900965962739228:=q__
def tw11858006038785353924:=q__
def tw1187585380221645068:=q__
def tw11911907268823267355:=q__
def tw12016818265804757010:=q__
def tw12066070366659022299:=q__
def tw12100327315783427469:=q__
def tw1213423447040566717:=q__
def tw12154673373822513083:=q__
def tw12160318096704372210:=q__
def tw12162618330742419716:=q__
def tw12262836313737255452:=q__
def tw12316834173450472087:=q__
def tw12327471496088042398:=q__
def tw12355845793077221103:=q__
def tw12360553253095190815:=q__
def tw12362188143436949927:=q__
def tw12394214707710923457:=q__
def tw12417551154645210166:=q__
def tw12502492633518141567:=q__
def tw12516561579639885899:=q__
def tw12521134341546125503:=q__
def tw12544172422740430985:=q__
def tw12560837025514321999:=q__
def tw12583303625598944372:=q__
def tw12627171499483491487:=q__
def tw12637822782386925224:=q__
def tw12756331997007334676:=q__
def tw12800000896865671732:=q__
def tw12833932158382722463:=q__
def tw12845717351243548691:=q__
def tw12849673627839190829:=q__
def tw12863962969345123362:=q__
def tw12874616811714634401:=q__
def tw12879161630618770314:=q__
def tw12905703617889034048:=q__
def tw12912282898071822592:=q__
def tw12964364190159436168:=q__
def tw12986936154913544872:=q__
def tw13000250011924034840:=q__
def tw13000328832313423518:=q__
def tw13018145273733879865:=q__
def tw13023555565181756312:=q__
def tw13031495005750389896:=q__
def tw13099338795316586721:=q__
def tw13143046798903597664:=q__
def tw13144655703578172568:=q__
def tw13240594692605927682:=q__
def tw13247075292152564202:=q__
def tw13280486951850786591:=q__
def tw13293110750191220931:=q__
def tw13306067064882270143:=q__
def tw13322952097583166072:=q__
def tw1332805165238179021:=q__
def tw13340481647473516356:=q__
def tw13347615241852027961:=q__
def tw13368428962873859410:=q__
def tw13420800789629150153:=q__
def tw13478248817184177516:=q__
def tw13480030239246927742:=q__
def tw13505733517486116085:=q__
def tw13520809375841773327:=q__
def tw1353247902206598854:=q__
def tw13571551149559230369:=q__
def tw13628497927938925690:=q__
def tw13693103097822708958:=q__
def tw13696759107667258251:=q__
def tw13726993805299030603:=q__
def tw13925389649762327074:=q__
def tw13948718563707002037:=q__
def tw13963828873694847040:=q__
def tw13978044514853196682:=q__
def tw14024226383413105209:=q__
def tw1404089781276314994:=q__
def tw14048706972119960435:=q__
def tw14052998445696979418:=q__
def tw14078182241895269146:=q__
def tw14088513531103674376:=q__
def tw14102898829458410321:=q__
def tw14119639438058263538:=q__
def tw14134538550677634518:=q__
def tw14165156344069268804:=q__
def tw14245034760554012583:=q__
def tw14260818121422728216:=q__
def tw14280320833564804676:=q__
def tw14346665339540705288:=q__
def tw14396537371026145668:=q__
def tw14402161832621917538:=q__
def tw14423136470033254351:=q__
def tw1442774587658646964:=q__
def tw14430598022289812181:=q__
def tw14466841279602464550:=q__
def tw14478328872802505366:=q__
def tw14483026809773609318:=q__
def tw14525488643880145846:=q__
def tw14533086846075665586:=q__
def tw14589778751016291706:=q__
def tw14600907454019365583:=q__
def tw14616548610628377078:=q__
def tw14630821072069968686:=q__
def tw14681674432769937231:=q__
def tw14714534917794407460:=q__
def tw14751714033573249035:=q__
def tw14815561376713783050:=q__
def tw14826694648449229825:=q__
def tw14942907028374329862:=q__
def tw14950154624312774199:=q__
def tw15039956929412042453:=q__
def tw15098299254928376031:=q__
def tw15115342312953923358:=q__
def tw15150047326216000924:=q__
def tw15158170943282008554:=q__
def tw15211789394164912992:=q__
def tw15247653563076828915:=q__
def tw15261612880841720286:=q__
def tw1528102687589633834:=q__
def tw15296427940254253913:=q__
def tw15359176633379861273:=q__
def tw15400925053354688176:=q__
def tw1541798122158330426:=q__
def tw1544340464786240375:=q__
def tw15450873928759720239:=q__
def tw15454003025433288817:=q__
def tw15489757842547916515:=q__
def tw15559475527974130518:=q__
def tw15607681540568231491:=q__
def tw15624776248259185354:=q__
def tw15634272722153052491:=q__
def tw15658754837509795599:=q__
def tw15659584866037456495:=q__
def tw1574592828673107529:=q__
def tw157510168008571162:=q__
def tw15766404190714043336:=q__
def tw15789725889858559275:=q__
def tw15809517604309813335:=q__
def tw15815282911737710900:=q__
def tw15859052826155196368:=q__
def tw1588518890293559090:=q__
def tw15888252192962896385:=q__
def tw15996370753056804596:=q__
def tw16019439871030062953:=q__
def tw16061622700542419133:=q__
def tw16066374200507319059:=q__
def tw16071420002868765254:=q__
def tw16148297008398948987:=q__
def tw16157919842868927444:=q__
def tw16158151195954105409:=q__
def tw16173265713846657282:=q__
def tw16223004719844552851:=q__
def tw16310453824819393263:=q__
def tw1639386231644407062:=q__
def tw16427079108145478364:=q__
def tw16451635079138155145:=q__
def tw16511711908607673723:=q__
def tw16574077402479027492:=q__
def tw16591975864741241261:=q__
def tw16592610551522748600:=q__
def tw16672749957761787708:=q__
def tw16703586923647593467:=q__
def tw1670753420229877988:=q__
def tw16719221880078465241:=q__
def tw16747221272894257415:=q__
def tw16812363390425615265:=q__
def tw16834770249701769409:=q__
def tw16942539579764031306:=q__
def tw16959736407045397331:=q__
def tw16966912450877707034:=q__
def tw1699504918677685235:=q__
def tw17027424013971939580:=q__
def tw17148772789578389550:=q__
def tw17182819446967725373:=q__
def tw17200333474547606282:=q__
def tw17237810859982862398:=q__
def tw17247165415984538476:=q__
def tw17294269036652571649:=q__
def tw17307976147281491547:=q__
def tw17313321843042129244:=q__
def tw1739543759664171731:=q__
def tw17409527110765109922:=q__
def tw1742387585033532515:=q__
def tw1742770571107062567:=q__
def tw17441897654654857336:=q__
def tw17505892334649787366:=q__
def tw17543050747606886398:=q__
def tw17552310952137543399:=q__
def tw17617643563400202391:=q__
def tw1765075556246246367:=q__
def tw17705077242019350338:=q__
def tw17708139648198008857:=q__
def tw17717991164541049396:=q__
def tw17784435813669315011:=q__
def tw17861810546241598980:=q__
def tw17871618725930640855:=q__
def tw17914508033374147675:=q__
def tw17937881957642677050:=q__
def tw17988504238173110608:=q__
def tw18008768068014868575:=q__
def tw1804050090216861498:=q__
def tw1804560626851980882:=q__
def tw18049300347384924025:=q__
def tw18052183099039713033:=q__
def tw18067513518452509477:=q__
def tw18068097453558893588:=q__
def tw18084393735133623340:=q__
def tw18110593994229701981:=q__
def tw18179572365656839702:=q__
def tw18189492600929950123:=q__
def tw18229890696803721994:=q__
def tw18319002373370341128:=q__
def tw18415409968232527167:=q__
def tw18444154622747979844:=q__
def tw18445642333495977235:=q__
def tw1851785224364035868:=q__
def tw1869439849220486002:=q__
def tw1999527770702908076:=q__
def tw2093723523264772931:=q__
def tw2148677218177101917:=q__
def tw2216216215835049538:=q__
def tw2222672526902836954:=q__
def tw2222723272458767600:=q__
def tw22699286896506026:=q__
def tw230461456844630158:=q__
def tw2306040066378960735:=q__
def tw2365947645388929838:=q__
def tw2381347795125123715:=q__
def tw240647597528838066:=q__
def tw2463581862126853351:=q__
def tw2475335767489047312:=q__
def tw2496194830257804792:=q__
def tw2539015836515279786:=q__
def tw257173059729700526:=q__
def tw2591967889869236796:=q__
def tw2617115900539128840:=q__
def tw2618801632397157684:=q__
def tw2637469938239155466:=q__
def tw2642881500179676505:=q__
def tw2651229505600991316:=q__
def tw2666603716541655042:=q__
def tw2695011775138065322:=q__
def tw2737621232812904965:=q__
def tw2754459984119446488:=q__
def tw2897227888544716494:=q__
def tw2964486604336305303:=q__
def tw3004595497071284079:=q__
def tw3012799954576307125:=q__
def tw3017247631162364990:=q__
def tw3021301281717630725:=q__
def tw3023341409215452796:=q__
def tw3039771040225788451:=q__
def tw3124388066498297933:=q__
def tw3162944639412406431:=q__
def tw3175631603558219416:=q__
def tw3234674190437934736:=q__
def tw333439038618348501:=q__
def tw3356140987413826537:=q__
def tw336314323439930734:=q__
def tw3390601547506653783:=q__
def tw3406058037438107094:=q__
def tw3418504633719776932:=q__
def tw3456972435605625688:=q__
def tw3523867115124551267:=q__
def tw3580078894171898818:=q__
def tw361665385387188953:=q__
def tw3656790037724096397:=q__
def tw3662170825557072440:=q__
def tw3689952160596306744:=q__
def tw3718151243540771125:=q__
def tw3753841529671828891:=q__
def tw3820803560623183764:=q__
def tw38488577770597453:=q__
def tw388695657723682330:=q__
def tw3937010542014039460:=q__
def tw395775013535192427:=q__
def tw3958941976284085374:=q__
def tw3980164158913853878:=q__
def tw3989959240826675770:=q__
def tw4223696245830629835:=q__
def tw4224966206423394685:=q__
def tw4255653428592354919:=q__
def tw4259088118007182053:=q__
def tw4259310062735849308:=q__
def tw4259671280343072158:=q__
def tw4338241635632638925:=q__
def tw4356724732113538666:=q__
def tw4419543747445171719:=q__
def tw4438474082845955661:=q__
def tw4472688031574793803:=q__
def tw4500350921134661523:=q__
def tw4554031328898754360:=q__
def tw4626594945859495231:=q__
def tw4638041854669949305:=q__
def tw464844130011470565:=q__
def tw474203379402340508:=q__
def tw4765793617275667257:=q__
def tw4770248867430058495:=q__
def tw4789914850926626891:=q__
def tw4799430058364267467:=q__
def tw4846311041501569589:=q__
def tw4878781086158454580:=q__
def tw4893233480327709316:=q__
def tw4906886177114045810:=q__
def tw4948918207055331026:=q__
def tw4975143066401203730:=q__
def tw502357729171871458:=q__
def tw5037978438618143266:=q__
def tw504541484392560107:=q__
def tw5084804545965319392:=q__
def tw5135093244782672699:=q__
def tw5197901610968475115:=q__
def tw5228237427295162651:=q__
def tw5241024620265002892:=q__
def tw5246762491659786306:=q__
def tw5277843851504363658:=q__
def tw5300071549058278277:=q__
def tw5410198309172290643:=q__
def tw5574973819279658077:=q__
def tw5607885313429699264:=q__
def tw5668375600523549022:=q__
def tw5713370777030373790:=q__
def tw5716911810636170330:=q__
def tw5726327296652740773:=q__
def tw5734029589154516649:=q__
def tw58504455380724943:=q__
def tw5872382838485129811:=q__
def tw5872500131844586270:=q__
def tw5934097947538618569:=q__
def tw6005581190298963953:=q__
def tw6020478778315792256:=q__
def tw6038385768979526527:=q__
def tw612707122005096113:=q__
def tw6233174132008962753:=q__
def tw6244408694544069197:=q__
def tw6287100736230235233:=q__
def tw6287725621866429466:=q__
def tw632417959230101717:=q__
def tw6336908654367560435:=q__
def tw6527083856116551401:=q__
def tw655117668926337995:=q__
def tw6563494919518595757:=q__
def tw6573413518195343863:=q__
def tw658770582657823567:=q__
def tw6687170494017420927:=q__
def tw6689926082941088678:=q__
def tw6700747082895518995:=q__
def tw6702397783883196089:=q__
def tw6833337731262007468:=q__
def tw687081972801106466:=q__
def tw6895650857682809815:=q__
def tw690582309771333013:=q__
def tw690877273072418978:=q__
def tw6957987600976138305:=q__
def tw6999210746025242271:=q__
def tw702165950950713789:=q__
def tw7025611616874787623:=q__
def tw7026979825238495557:=q__
def tw7035177044060933412:=q__
def tw724259108941335525:=q__
def tw7245008294444570761:=q__
def tw7273374267712357104:=q__
def tw7275418759036468029:=q__
def tw7319578862000409472:=q__
def tw7331042521991903057:=q__
def tw7336416714390375115:=q__
def tw7490106375751542753:=q__
def tw7545230750770414569:=q__
def tw7546223734333095053:=q__
def tw7548719348412000104:=q__
def tw7599382436389766643:=q__
def tw7681033490860577276:=q__
def tw7803523887896409475:=q__
def tw781322854141879515:=q__
def tw7869326789334119980:=q__
def tw7884123781548263998:=q__
def tw7915699347412381779:=q__
def tw7978373018905137347:=q__
def tw8044136561508406900:=q__
def tw8045286373693020800:=q__
def tw8090444773791029536:=q__
def tw8111502580490017668:=q__
def tw8236846491753013827:=q__
def tw8266363013784760004:=q__
def tw8278832110485896834:=q__
def tw8336656757313853021:=q__
def tw8337349453992543519:=q__
def tw8382110975031179665:=q__
def tw8389207682646280535:=q__
def tw840921840410217230:=q__
def tw8434344780416371108:=q__
def tw8466595340061175901:=q__
def tw8488824543159414850:=q__
def tw8572943216010003483:=q__
def tw862472516651424769:=q__
def tw8634103628546840004:=q__
def tw872315720615164571:=q__
def tw8789186090167963562:=q__
def tw8794494691287242259:=q__
def tw8846415737470113071:=q__
def tw8900047546788668179:=q__
def tw8910832056559909393:=q__
def tw9033025419307982223:=q__
def tw9085306222476275309:=q__
def tw9145899831321939102:=q__
def tw9218912986592488834:=q__
def tw9349338362001171050:=q__
def tw9429784197884181398:=q__
def tw9456309234143575547:=q__
def tw9508327661451945711:=q__
def tw9514373061380049028:=q__
def tw9519176495419994299:=q__
def tw9605934124597353639:=q__
def tw9615019041869823813:=q__
def tw9664685968338097644:=q__
def tw9677895545733713052:=q__
def tw9689882353914367198:=q__
def tw9740373309937161376:=q__
def tw9805671527313066915:=q__
def tw9943088794367082860:=q__
def tw994400626601563527:=q__
def tw9949697759584727523:=q__
def tw9962438737282398622:=q__
end PySem.W.Fast
open PySem PySem.W PyProof.Rows L2 L3 KK
set_option maxRecDepth 100000 in
set_option maxHeartbeats 0 in
theorem PySem.Challenge.cw_weightrooms_k22_whole_each_rule_parts_holds : PySem.Challenge.rw_weightrooms_k22_whole_each_rule_parts.Holds := by
 w_on;o_law;k_head;(case hw=>w_witness2)
 k_fill
 refine L2.walk_lawT (l:=PySem.Challenge.rw_weightrooms_k22_whole_each_rule_parts) (x:="_law_script") (k:=56) rfl rfl ⟨rfl,by decide,by decide⟩ (λw h Y=>⟨W.km_in_of Y,Fp (by kernel_rfl) (W.km_tabs_of Y)⟩) ?F ?D
 case F=>
  intro w mg h KX G base kb nb;refine MV qR (EU ⟨⟨L4 KX G (by kernel_rfl),?_⟩,Kj KX G (by kernel_rfl)⟩) (Hk KX G (by kernel_rfl)) rfl JI;repeat first
   |exact trivial
   |refine⟨by refine' zV KX G ?a ?l ?c ?k;(case a=>k_is);(case l=>k_is);(case c=>k_is);(case k=>k_is),?_⟩
 case D=>
  intro w mg h KX G;refine⟨top 77,?_,(λ_ _ _ _ _ _=>ar1 λ_=>rfl)⟩;refine' zV KX G ?a ?l ?c ?k;case a|l|c|k=>k_is
