import PyProof.Rows.All
import Wide.All
import OpenK.AllK
import Wide.FinOn
import Lean
import PyProof.EqAt
import PyProof.EqKinds
import PyProof.TupleCall
import PyProof.Rows.SumAny
import PyProof.EnumMake
import PyProof.Draws
import PyProof.ZipIter
import KE.KNestM
import PyProof.StrBlockH
import KE.KUnpack
import KE.KxIndex
import PyProof.SetRoads
import PyProof.SetNew
import PyProof.AutoSeq1
import KE.KRevSl
import PyProof.SeqI3
import PyProof.Rows.SortWalk
import PyProof.Rows.Range3
import KE.KSortTup
import KE.KLam
import PyProof.Rows.SetFrom
import PyProof.FactsAll.list_2
import PyProof.Rows.SortStr
import PyProof.Rows.StrRules
import PyProof.StrOps
import KE.KIntText
import PyProof.CallStr
import PyProof.StrWalks
import PyProof.Rows.StrNews2
import PyProof.ReprRoads
import PyProof.Rows.IntBool
import PySem.Challenge.RW_weightrooms_k21_rules_told_and_refused
local macro_rules|`(tactic|trivial)=>`(tactic|first|exact Or.inl rfl|exact Or.inr rfl)
local macro_rules|`(tactic|decide)=>`(tactic|decide +kernel)
set_option genSizeOf false
set_option genInjectivity false
set_option bootstrap.genMatcherCode false
noncomputable section
set_option Elab.async false
set_option linter.all false
def o_:=@PySem.wpAny_bind
def p_:=@List.length_map
def q_:=@List.mem_cons_of_mem
def r_:=@PySem.Heap.get?_push_of_some
def s_:=@List.mem_cons_self
def t_:=@Bool.and_eq_true
def u_:=@Nat.le_refl
def v_:=@PySem.wpAny_pure
def w_:=@Bool.false_ne_true
def x_:=@List.length_range
def y_:=@List.size_toArray
def z_:=@List.map_cons
def A_:=@PySem.Heap.lt_size
def B_:=@List.getElem?_eq_some_iff
def C_:=@List.getElem?_eq_getElem
def D_:=@decide_eq_false
def Em:=@PySem.Heap.get?_push_size
def E_:=@beq_eq_false_iff_ne
def F_:=@List.length_cons
def G_:=@List.mem_cons
def H_:=@decide_eq_true
def I_:=@Nat.lt_of_lt_of_le
def J_:=@Option.some.inj
def K_:=@List.all_eq_true
def L_:=@List.length_append
def MJ:=@List.mem_range
def MK:=@congrArg
def ML:=@Nat.ne_of_lt
def MM:=@List.getD_eq_getElem?_getD
def MN:=@Option.map_eq_some_iff
def MP:=@beq_self_eq_true
def MQ:=@List.getElem?_map
def MR:=@List.mem_map
def MU:=@PySem.wpAny_mono
def MV:=@Nat.le_trans
def MW:=@List.mem_append_right
def MX:=@beq_iff_eq
def MY:=@Option.bind_eq_some_iff
def MZ:=@PyProof.Rows.callWith_type1
def M0:=@List.length_nil
def M1:=@List.map_nil
def M3:=@List.sum_cons
def M4:=@List.length_set
def M5:=@List.getElem?_append_left
def M6:=@PySem.wpAny_Call_Name_kw
def M7:=@Nat.mul_le_mul
def M8:=@List.append_nil
def M9:=@List.nil_append
def M_:=@Array.length_toList
def Na:=@List.contains_iff_mem
def Nb:=@Int.toNat_natCast
def Nc:=@Nat.zero_le
def Nd:=@List.length_take
def Nf:=@List.find?_cons
def Ng:=@Rat.intCast_mul
def Nh:=@PySem.wpAny_field
def Ni:=@decide_eq_false_iff_not
def Nj:=@Nat.pow_le_pow_right
def Nk:=@Nat.lt_irrefl
def Nl:=@PySem.wpAny_holding
def Nm:=@Int.natAbs_mul
def Nn:=@List.take_of_length_le
def Np:=@decide_eq_true_eq
def Nq:=@PySem.wpAny_newObj_type
def Nr:=@List.map_append
def Nt:=@List.mem_singleton
def Nu:=@Option.isSome_iff_exists
def Nv:=@Int.mul_assoc
def Nw:=@List.any_cons
def Ny:=@List.getElem?_replicate
def Nz:=@PySem.wpAny_callSpecial?_slot
def NA:=@Nat.mul_le_mul_left
def NB:=@PySem.mem_of_lookup
def NC:=@List.map_take
def ND:=@List.lookup_cons
def NF:=@List.take_append_drop
def NG:=@Nat.lt_of_le_of_lt
def NH:=@decide_eq_true_iff
def NI:=@List.mem_or_eq_of_mem_set
def NJ:=@List.pairwise_iff_getElem
def NK:=@PyProof.Rows.slot_tuple_getitem
def NL:=@Nat.mul_pos
def NM:=@List.map_map
def NN:=@List.mem_of_mem_take
def NO:=@Nat.mul_le_mul_right
def NP:=@Bool.not_eq_true'
def NQ:=@List.map_drop
def NR:=@PySem.Heap.SameBut.update
def NS:=@List.filterMap_cons
def NT:=@List.length_zipWith
def NU:=@List.getElem_mem
def NV:=@PySem.wpAny_seqItems
def NW:=@Nat.pow_add
def NX:=@Bool.false_eq_true
def NY:=@PySem.Calls.spliced_cons
def NZ:=@PySem.wpAny_setField_rec
def N2:=@Int.natCast_mul
def N3:=@List.getElem?_zipWith
def N4:=@List.length_replicate
def N5:=@Nat.not_lt_zero
def N6:=@PySem.wpAny_passesOwn
def N7:=@PySem.F.slot_tuple_iterator_next
def N8:=@List.getElem?_append_right
def N9:=@of_decide_eq_true
def N_:=@PySem.wpAny_truthy_bool
def Oa:=@List.mem_of_mem_drop
def Od:=@if_true
def Oe:=@List.length_drop
def Of:=@PySem.wpAny_call_entry
def Og:=@PySem.wpAny_getItem_str_slice
def Oh:=@PySem.wpAny_standAt
def Oi:=@Bool.or_eq_true
def Oj:=@Int.mul_ne_zero
def Ol:=@List.mem_append
def Om:=@List.nodup_cons
def Oo:=@List.length_eq_one_iff
def Oq:=@PySem.Calls.spliced_nil
def Ot:=@Int.mul_left_comm
def Ou:=@Nat.le_of_lt
def Ov:=@Nat.ne_of_gt
def Ow:=@List.getElem?_set_ne
def Ox:=@List.mem_append_left
def Oy:=@List.mem_of_getElem?
def Oz:=@decide_eq_decide
def OA:=@PySem.wpAny_rule
def OB:=@PySem.Calls.Name_function_global
def OC:=@Int.eq_of_mul_eq_mul_right
def OD:=@Array.getElem?_eq_getElem
def OE:=@List.drop_eq_getElem_cons
def OF:=@List.forIn_cons
def OG:=@List.getElem?_eq_none_iff
def OH:=@List.of_mem_zip
def OI:=@List.sum_append
def OJ:=@PySem.wpAny_execs_nil
def OK:=@Int.mul_comm
def OL:=@Int.mul_right_comm
def OM:=@List.idxOf_lt_length_iff
def ON:=@PySem.F.args_tuple_add_2
def OO:=@if_false
def OP:=@PySem.Heap.size_push
def OQ:=@PySem.F.entry_tuple_add
def OR:=@PySem.F.plainAttrs_list
def OS:=@PySem.Heap.get?_update_other
def OT:=@List.getElem?_set_self
def OU:=@PySem.F.slot_tuple_add
def OV:=@List.all_cons
def OW:=@List.take_nil
def OX:=@Nat.mul_assoc
def OY:=@PySem.wpAny_attempt
def OZ:=@List.cons_append
def O0:=@List.nodup_range
def O1:=@List.not_mem_nil
def O2:=@Nat.le_add_right
def O3:=@List.length_singleton
def O4:=@Bool.eq_iff_iff
def O5:=@PySem.F.slot_zip_next
def O6:=@PySem.Heap.get?_none_of_le
def O7:=@List.foldl_cons
def O8:=@List.getElem?_append
def O9:=@Nat.lt_trans
def O_:=@Rat.num_eq_zero
def Pa:=@PySem.call_meets
def Pb:=@PySem.codeAny_builtin
def Pc:=@PySem.codeAny_mono
def Pd:=@PySem.post_val_or_str
def Pe:=@PySem.wpAny_loadName_local
def Pf:=@PySem.wpAny_updateSeq_pair
def Pg:=@List.map_eq_nil_iff
def Ph:=@List.mergeSort_perm
def Pj:=@List.forIn_nil
def Pk:=@List.drop_nil
def Pl:=@PySem.Paired.length
def Pm:=@PyProof.Rows.listUpdate_at
def Pn:=@PySem.rangeSize_one
def Po:=@PySem.wpAny_onRaise
set_option maxRecDepth 100000
namespace L2
open PySem PySem.Spec PyProof.Rows
abbrev _root_.Pp:=Str->Option Value
abbrev _root_.Pq:=List (Addr×Obj)
abbrev _root_.Pt:=Value->Shared->Prop
abbrev _root_.Pu:=List (Option Nat)
abbrev Key:=Sum Int Str
noncomputable def kX:Key->Value->Bool
 |.inl k,v=>Value.isInt k v
 |.inr x,v=>Value.isStrOf x v
noncomputable def keyH (w:World):Key->Int
 |.inl k=>hashInt k
 |.inr x=>hashStr w x
theorem bS:∀{k:Key}{v:Value},kX k v=true->(∃i t,k=Sum.inl i/\v=Value.int i t)\/(∃x t,k=Sum.inr x/\v=Value.str x t)
 |
  .inl i,v,h=>by
  obtain⟨t,e⟩:=Value.isInt_shape (k:=i) (v:=v) h;exact .inl ⟨i,t,rfl,e⟩
 |
  .inr x,v,h=>by
  obtain⟨t,e⟩:=Value.isStrOf_shape (x:=x) (v:=v) h;exact .inr ⟨x,t,rfl,e⟩
def zJ(i:Int)(t:Tok):kX (.inl i) (.int i t)=true:=by simp [kX,Value.isInt]
def yu(x:Str)(t:Tok):kX (.inr x) (.str x t)=true:=by simp [kX,Value.isStrOf]
def GR(a b:Int):decide ((Sum.inl a:Key)=Sum.inl b)=(a==b):=by
 by_cases e:a=b
 .subst e;simp
 .have h:¬ (Sum.inl a:Key)=Sum.inl b:=λq=>e (Sum.inl.inj q);rw[D_ h];exact (E_.mpr e).symm
def Iy(a b:Str):decide ((Sum.inr a:Key)=Sum.inr b)=decide (a=b):=by
 by_cases e:a=b
 .subst e;simp
 .have h:¬ (Sum.inr a:Key)=Sum.inr b:=λq=>e (Sum.inr.inj q);rw[D_ h,D_ e]
def Iu(a:Int)(b:Str):decide ((Sum.inl a:Key)=Sum.inr b)=false:=D_ (λq=>nomatch q)
def Js(a:Str)(b:Int):decide ((Sum.inr a:Key)=Sum.inl b)=false:=D_ (λq=>nomatch q)
noncomputable def b0 (prog:Program) (w:World):PySem.KeyKind prog w Key where
 is:=kX
 hash:=keyH w
 inj
  := λv a b ha hb=>by
  rcases bS ha with ⟨i,t,rfl,rfl⟩ |⟨x,t,rfl,rfl⟩
  .rcases bS hb with ⟨j,u,rfl,e⟩ |⟨y,u,rfl,e⟩
   .injection e with e1 _;rw[e1]
   .exact nomatch e
  .rcases bS hb with ⟨j,u,rfl,e⟩ |⟨y,u,rfl,e⟩
   .exact nomatch e
   .injection e with e1 _;rw[e1]
 byValue:=λk v h=>by rcases bS h with ⟨i,t,rfl,rfl⟩ |⟨x,t,rfl,rfl⟩ <;> rfl
 pyHash:=λhv h=>by
  rcases bS hv with ⟨i,t,rfl,rfl⟩ |⟨x,t,rfl,rfl⟩
  .exact wpAny_pyHash_int h
  .exact wpAny_pyHash_str h
 eqBool:=λhu hv h=>by
  rcases bS hu with ⟨i,t,rfl,rfl⟩ |⟨x,t,rfl,rfl⟩
  .rcases bS hv with ⟨j,u,rfl,rfl⟩ |⟨y,u,rfl,rfl⟩
   .rw[GR] at h;exact wpAny_eqBool_int h
   .rw[Iu] at h;exact SeqAt.EqAt.int_str i t y u _ _ _ _ h
  .rcases bS hv with ⟨j,u,rfl,rfl⟩ |⟨y,u,rfl,rfl⟩
   .rw[Js] at h;exact SeqAt.EqAt.str_int x t j u _ _ _ _ h
   .rw[Iy] at h;exact wpAny_eqBool_str h
 «strs»:=λk x t v h=>by
  rcases bS h with ⟨i,u,rfl,e⟩ |⟨y,u,rfl,e⟩
  .exact nomatch e
  .injection e with e1 _;subst e1;cases v <;> rfl
def uM(prog:Program)(w:World)(i:Int)(t:Tok):(b0 prog w).is (.inl i) (.int i t)=true:=zJ i t
def uC(prog:Program)(w:World)(x:Str)(t:Tok):(b0 prog w).is (.inr x) (.str x t)=true:=yu x t
inductive V where
 |non |bl (b:Bool) |int (i:Int) |str (x:Str) |byt (b:Array UInt8) |flt (b:UInt64) |ref (a:Addr) |ty (n:String)
 deriving DecidableEq
def RelV:V->Value->Prop
 |.non,u=>u=Value.none
 |.bl b,u=>u=Value.bool b
 |.int i,u=>∃t,u=Value.int i t
 |.str x,u=>∃t,u=Value.str x t
 |.byt b,u=>∃t,u=Value.bytes b t
 |.flt b,u=>∃t,u=Value.float b t
 |.ref a,u=>u=Value.ref a
 |.ty n,u=>u=Value.type n
abbrev Vals:List V->List Value->Prop:=Paired RelV
def Vals.length(r:Vals xs us):xs.length=us.length:=Pl r
def Vals.get{xs:List V}{us:List Value}{i:Nat}{x:V}(r:Vals xs us)(e:xs[i]?=some x):∃u,us[i]?=some u/\RelV x u:=by
 induction r generalizing i with
 |nil=>rw[List.getElem?_nil] at e;cases e
 |
  cons r t ih=>
  cases i with
  |zero=>cases e;exact⟨_,rfl,r⟩
  |succ i=>exact ih (i:=i) e
def Vals.set(r:RelV x u)(i:Nat)(q:Vals xs us):Vals (xs.set i x) (us.set i u):=by
 induction q generalizing i with
 |nil=>exact .nil
 |
  cons q t ih=>
  cases i with
  |zero=>exact .cons r t
  |succ i=>exact .cons q (ih i)
def Vals.append(r:Vals xs us)(s:Vals ys ws):Vals (xs++ys) (us++ws):=by
 induction r with
 |nil=>exact s
 |cons r t ih=>exact .cons r ih
def Vals.take(n:Nat)(r:Vals xs us):Vals (xs.take n) (us.take n):=by
 induction r generalizing n with
 |nil=>rw[OW,OW];exact .nil
 |
  cons r t ih=>
  cases n with
  |zero=>exact .nil
  |succ n=>exact .cons r (ih n)
def Vals.drop(n:Nat)(r:Vals xs us):Vals (xs.drop n) (us.drop n):=by
 induction r generalizing n with
 |nil=>rw[Pk,Pk];exact .nil
 |
  cons r t ih=>
  cases n with
  |zero=>exact .cons r t
  |succ n=>exact ih n
def RelO:Option V->Option Value->Prop
 |some v,some u=>RelV v u
 |none,none=>True
 |_,_=>False
def KV{κ:Type}:List (κ×V)->List (κ×Value)->Prop:=Paired λ(p:κ×V) (q:κ×Value)=>p.1=q.1/\RelV p.2 q.2
noncomputable def kV:Key->V
 |.inl i=>.int i
 |.inr x=>.str x
inductive HO where
 |lst (xs:List V)
 |tup (xs:List V)
 |dK (kvs:List (Key×V)) |dT (kvs:List (List Key×V))
 |set (S:Int->Bool) (n:Nat)
 |ins (C dx:Addr) (fs:List (Str×V))
 |own (x:Addr)
 |xd (fs:List (Str×V))
 |met (f x:Addr)
 |rng (lo hi:Int)
 |frz (o:Obj) (u:HO)
 |tbl (ps:Array Value)
 |ext (φ:Heap->Prop)
abbrev Hp:=Addr->Option HO
noncomputable def upd (H:Hp) (a:Addr) (o:HO):Hp:=λb=>if b=a then some o else H b
def bo:upd H a o a=some o:=by unfold upd;rw[if_pos rfl]
def aE(h:b≠a):upd H a o b=H b:=by unfold upd;rw[if_neg h]
def Kq{H:Hp}{a b:Addr}{o u:HO}(h:H a=some o)(h':H b=some u)(d:o≠u):a≠b:=by intro e;subst e;rw[h] at h';exact d (J_ h')
def bR{H:Hp}{a b:Addr}{o:HO}(h:H a=some o)(h':H b=none):a≠b:=by intro e;subst e;rw[h] at h';cases h'
section
variable(P:Program)(w:World)
def ObjOk(H:Hp)(h:Heap)(a:Addr):HO->Prop
 |.lst xs=>xs.length<=sizeLine/\∃(its:List Value) (n:Nat),Vals xs its/\h.get? a=some { cls:=.type "list",data:=.seq its.toArray n }
 |.tup xs=>xs.length<=sizeLine/\∃its:List Value,Vals xs its/\IsTup h a its.toArray
 |.dK kvs=>kvs.length<=sizeLine/\(a==sysModules)=false/\∃vs,KV kvs vs/\h.DictOf (b0 P w) a vs
 |.dT kvs=>kvs.length<=sizeLine/\(a==sysModules)=false/\∃xs:List (List Key×Addr×Value),
  Paired (λ(p:List Key×V) (q:List Key×Addr×Value)=>p.1=q.1/\H q.2.1=some (.tup (p.1.map kV))/\RelV p.2 q.2.2) kvs xs/\
  ∃o es ep,h.get? a=some o/\o.ExactDict/\o.data=.dict es ep/\es.toList=xs.map (entryOfKey (tupleKind (b0 P w)))/\(xs.map (·.1)).Nodup
 |.set S n=>h.SetOf (intKind P w) a S n
 |.ins C dx fs=>H dx=some (.own a)/\fs.length<=1000/\dx≠a/\h.get? a=some (W.instObj C dx)/\
  ∃mA,h.Ns1 dx mA/\(∀f,RelO (fs.lookup f) (mA f))/\PySem.Within mA (fs.map (·.1))
 |.own _=>∃o,h.get? a=some o
 |.xd fs=>∃mA,h.Ns1 a mA/\∀f,RelO (fs.lookup f) (mA f)
 |.rng lo hi=>∃t u v,h.get? a=some { cls:=.type "range",data:=.fields #[.int lo t,.int hi u,.int 1 v] }
 |.frz o u=>h.get? a=some o/\ObjOk H h a u
 |.tbl ps=>h.get? a=some { cls:=.none,data:=.fields ps }
 |.met f x=>h.get? a=some (W.methodObj (.ref f) (.ref x))
 |.ext φ=>φ h/\(∃o,h.get? a=some o)/\∀h1 h2:Heap,φ h1->(∀o,h1.get? a=some o->h2.get? a=some o)->φ h2
def HOk(H:Hp)(h:Heap):Prop:=∀a o,H a=some o->ObjOk P w H h a o
end
section
variable{P:Program}{w:World}{H H':Hp}{h h':Heap}{a:Addr}{o:HO}
def ObjOk.lt(x:ObjOk P w H h a o):a<h.objs.size:=by
 cases o with
 |lst xs=>obtain⟨_,_,_,_,e⟩:=x;exact A_ e
 |tup xs=>obtain⟨_,_,_,p⟩:=x;exact p.lt
 |dK kvs=>obtain⟨_,_,_,_,o,_,_,e,_⟩:=x;exact A_ e
 |dT kvs=>obtain⟨_,_,_,_,o,_,_,e,_⟩:=x;exact A_ e
 |set S n=>obtain⟨o,_,_,_,e,_⟩:=x;exact A_ e
 |ins C dx fs=>obtain⟨_,_,_,e,_⟩:=x;exact A_ e
 |own y=>obtain⟨_,e⟩:=x;exact A_ e
 |xd fs=>obtain⟨_,⟨_,_,_,e,_⟩,_⟩:=x;exact A_ e
 |rng lo hi=>obtain⟨_,_,_,e⟩:=x;exact A_ e
 |frz ob u=>obtain⟨e,_⟩:=x;exact A_ e
 |tbl ps=>exact A_ (show h.get? a=some _ from x)
 |met f y=>exact A_ (show h.get? a=some _ from x)
 |ext φ=>obtain⟨_,⟨_,e⟩,_⟩:=x;exact A_ e
def Paired.mapP(r:Paired F l₁ l₂)(f:∀a b,F a b->G a b):Paired G l₁ l₂:=by
 induction r with
 |nil=>exact .nil
 |cons r t ih=>exact .cons (f _ _ r) ih
def ObjOk.stay(x:ObjOk P w H h a o)(k:∀b u,(b=a\/H b=some (.own a))->h.get? b=some u->h'.get? b=some u)
 (ho:∀b,H b=some (.own a)->H' b=some (.own a)) (ht:∀b xs,H b=some (.tup xs)->H' b=some (.tup xs)):ObjOk P w H' h' a o:=by
 induction o with
 |lst xs=>obtain⟨z,its,n,r,e⟩:=x;exact⟨z,its,n,r,k _ _ (.inl rfl) e⟩
 |tup xs=>obtain⟨z,its,r,ob,e,c⟩:=x;exact⟨z,its,r,ob,k _ _ (.inl rfl) e,c⟩
 |dK kvs=>obtain⟨z,y,vs,r,ob,es,ep,e,c⟩:=x;exact⟨z,y,vs,r,ob,es,ep,k _ _ (.inl rfl) e,c⟩
 |dT kvs=>obtain⟨z,y,xs,r,ob,es,ep,e,c⟩:=x;exact⟨z,y,xs,Paired.mapP r λp q z=>⟨z.1,ht _ _ z.2.1,z.2.2⟩,ob,es,ep,k _ _ (.inl rfl) e,c⟩
 |set S n=>obtain⟨ob,es,ep,t,e,c⟩:=x;exact⟨ob,es,ep,t,k _ _ (.inl rfl) e,c⟩
 |ins C dx fs=>obtain⟨d,z,ne,e,mA,⟨od,es,ep,e2,c⟩,r⟩:=x;exact⟨ho _ d,z,ne,k _ _ (.inl rfl) e,mA,⟨od,es,ep,k _ _ (.inr d) e2,c⟩,r⟩
 |own y=>obtain⟨ob,e⟩:=x;exact⟨ob,k _ _ (.inl rfl) e⟩
 |xd fs=>obtain⟨mA,⟨od,es,ep,e,c⟩,r⟩:=x;exact⟨mA,⟨od,es,ep,k _ _ (.inl rfl) e,c⟩,r⟩
 |rng lo hi=>obtain⟨t,u,v,e⟩:=x;exact⟨t,u,v,k _ _ (.inl rfl) e⟩
 |frz ob u ih=>obtain⟨e,q⟩:=x;exact⟨k _ _ (.inl rfl) e,ih q⟩
 |tbl ps=>have e:h.get? a=some { cls:=.none,data:=.fields ps }:=x;show h'.get? a=some { cls:=.none,data:=.fields ps };exact k a _ (.inl rfl) e
 |met f y=>have e:h.get? a=some (W.methodObj (.ref f) (.ref y)):=x;show h'.get? a=some (W.methodObj (.ref f) (.ref y));exact k a _ (.inl rfl) e
 |ext φ=>obtain⟨p,⟨o,e⟩,st⟩:=x;exact⟨st _ _ p λo q=>k _ _ (.inl rfl) q,⟨o,k _ _ (.inl rfl) e⟩,st⟩
def HOk.lt(x:HOk P w H h)(e:H a=some o):a<h.objs.size:=(x a o e).lt
def HOk.fresh(x:HOk P w H h)(e:h.objs.size<=a):H a=none:=by
 cases q:H a with
 |none=>rfl
 |some u=>exact absurd (I_ (x.lt q) e) (Nk _)
def HOk.kept(x:HOk P w H h)(k:∀b u,h.get? b=some u->h'.get? b=some u):HOk P w H h':=λa o e=>
 (x a o e).stay (λb u _ q=>k b u q) (λ_ q=>q) λ_ _ q=>q
def HOk.laid(x:HOk P w H h)(k:∀b u,h.get? b=some u->h'.get? b=some u)(hp:h.objs.size<=a)(new:ObjOk P w (upd H a o) h' a o):HOk P w (upd H a o) h':=λb u e=>by
 have hn:=x.fresh hp;by_cases hb:b=a
 .subst hb;rw[bo] at e;cases e;exact new
 .rw[aE hb] at e;exact (x b u e).stay (λc v _ q=>k c v q) (λc q=>by rw[aE (bR q hn)];exact q) λc xs q=>by rw[aE (bR q hn)];exact q
end
def Rd(H:Hp)(a:Addr)(u:HO):Prop:=H a=some u\/∃o,H a=some (.frz o u)
def Rd.ok(r:Rd H a u)(x:HOk P w H h):ObjOk P w H h a u:=by
 rcases r with r |⟨o,r⟩
 .exact x a u r
 .obtain⟨_,q⟩:=x a _ r;exact q
def Mut:Option HO->Prop
 |some (.lst _)=>True
 |some (.dK _)=>True
 |some (.dT _)=>True
 |some (.set _ _)=>True
 |some (.ins _ _ _)=>True
 |some (.ext _)=>True
 |_=>False
section
variable{P:Program}{w:World}{H:Hp}{h h':Heap}{x e:Addr}{o':HO}
def HOk.write(ok:HOk P w H h)(mu:Mut (H x))(he:e=x\/H e=some (.own x))(k:∀b u,b≠e->h.get? b=some u->h'.get? b=some u)(heo:∃u,h'.get? e=some u)
 (new:ObjOk P w (upd H x o') h' x o'):HOk P w (upd H x o') h':=λb u q=>by
 have nown:∀c y,H c=some (.own y)->c≠x:=λc y r z=>by subst z;rw[r] at mu;exact mu
 have ntup:∀c xs,H c=some (.tup xs)->c≠x:=λc xs r z=>by subst z;rw[r] at mu;exact mu
 by_cases hb:b=x
 .subst hb;rw[bo] at q;cases q;exact new
 .rw[aE hb] at q;by_cases hbe:b=e
  .have q':H b=some (.own x):=by
    rcases he with z |z
    .exact absurd (hbe.trans z) hb
    .rw[hbe];exact z
   rw[q] at q';cases q';obtain⟨v,hv⟩:=heo;exact⟨v,by rw[hbe];exact hv⟩
  .refine (ok b u q).stay (λc v hc r=>k c v ?_ r) (λc r=>by rw[aE (nown c b r)];exact r) λc xs r=>by rw[aE (ntup c xs r)];exact r
   rcases hc with rfl |hc
   .exact hbe
   .rintro rfl;rcases he with z |z
    .exact nown c b hc z
    .rw[hc] at z;cases z;exact hb rfl
end
structure Un(fs ex:List Addr)(H H':Hp)(h h':Heap):Prop where
 keep:∀b o,h.get? b=some o->H b=none->b∉fs->b∉ex->h'.get? b=some o
 slot:∀b o,h.get? b=some o->H b=none->b∈fs->b∉ex->∃sl,h'.get? b=some { o with slots:=sl }
 free:∀b o,h.get? b=some o->H b=none->b∉ex->H' b=none
 there:∀b o,h.get? b=some o->b∉ex->∃o',h'.get? b=some o'
 tups:∀b xs,H b=some (.tup xs)->H' b=some (.tup xs)
 frzs:∀b o u,H b=some (.frz o u)->H' b=some (.frz o u)
 tbls:∀b ps,H b=some (.tbl ps)->∃more,H' b=some (.tbl (ps++more))
section
variable{fs ex:List Addr}{H H1:Hp}{h h1 h':Heap}{a x e:Addr}{o:HO}
def Un.any(u:Un fs ex H H1 h h1)(q:h.get? b=some ob)(n:H b=none)(hx:b∉ex):∃sl,h1.get? b=some { ob with slots:=sl }:=by
 by_cases hb:b∈fs
 .exact u.slot b ob q n hb hx
 .exact⟨ob.slots,u.keep b ob q n hb hx⟩
def Un.kept(k:∀b u,h.get? b=some u->h'.get? b=some u):Un fs ex H H h h':=
 ⟨λb ob q _ _ _=>k b ob q,λb ob q _ _ _=>⟨ob.slots,k b ob q⟩,λ_ _ _ n _=>n,λb ob q _=>⟨ob,k b ob q⟩,λ_ _ q=>q,λ_ _ _ q=>q,λ_ ps q=>⟨#[],by rw[q];simp⟩⟩
def Un.refl:Un fs ex H H h h:=Un.kept λ_ _ q=>q
def Un.laid(k:∀b u,h.get? b=some u->h'.get? b=some u)(hp:h.objs.size<=a)(hn:H a=none):Un fs ex H (upd H a o) h h' where
 keep:=λb u q _ _ _=>k b u q
 slot:=λb u q _ _ _=>⟨u.slots,k b u q⟩
 free:=λb u q n _=>by rw[aE (ML (I_ (A_ q) hp))];exact n
 there:=λb u q _=>⟨u,k b u q⟩
 tups:=λb xs q=>by rw[aE (bR q hn)];exact q
 frzs:=λb u xs q=>by rw[aE (bR q hn)];exact q
 tbls:=λb ps q=>⟨#[],by rw[aE (bR q hn),q];simp⟩
def Un.write(mu:Mut (H x))(he:e=x\/H e=some (.own x))(k:∀b u,b≠e->h.get? b=some u->h'.get? b=some u)(heo:∃u,h'.get? e=some u):Un fs ex H (upd H x o) h h':=by
 have hx:∀b,H b=none->b≠x:=λb n z=>by subst z;rw[n] at mu;exact mu
 have hb:∀b,H b=none->b≠e:=λb n z=>by
  subst z;rcases he with r |r
  .exact hx b n r
  .rw[n] at r;cases r
 have hm:∀b u,H b=some u->¬ Mut (some u)->b≠x:=λb u q nm z=>by subst z;rw[q] at mu;exact nm mu
 refine⟨λb u q n _ _=>k b u (hb b n) q,λb u q n _ _=>⟨u.slots,k b u (hb b n) q⟩,λb u q n _=>by rw[aE (hx b n)];exact n,λb u q _=>?_,
  λb xs q=>by rw[aE (hm b _ q λz=>z)];exact q,λb u xs q=>by rw[aE (hm b _ q λz=>z)];exact q,λb ps q=>⟨#[],by rw[aE (hm b _ q λz=>z),q];simp⟩⟩
 by_cases hbe:b=e
 .subst hbe;exact heo
 .exact⟨u,k b u hbe q⟩
end
noncomputable def trk (h:Heap) (H:Hp):List Addr:=(List.range h.objs.size).filter λa=>(H a).isSome
noncomputable def fC (h:Heap) (H:Hp):Heap:=W.hideAll h (trk h H)
def pI(h:Heap)(H:Hp):(fC h H).objs.size=h.objs.size:=W.hideAll_size _ _
def rH(e:h.get? b=some o)(n:H b=none):(fC h H).get? b=some o:=
 W.hideAll_get _ e λhm=>by have q:(H b).isSome=true:=(List.mem_filter.mp hm).2;rw[n] at q;simp at q
def vF(e:(fC h H).get? b=some o):h.get? b=some o/\H b=none:=by
 have e':h.get? b=some o:=W.of_hideAll (trk h H) e;refine⟨e',?_⟩;cases q:H b with
 |none=>rfl
 |some x=>have hm:b∈trk h H:=List.mem_filter.mpr ⟨MJ.mpr (A_ e'),by simp [q]⟩;have z:(fC h H).get? b=none:=W.hideAll_none (trk h H) hm;rw[z] at e;cases e
noncomputable def EM (g h:Heap) (L:Addr):List (Addr×Obj):=(List.range h.objs.size).filterMap λa=>if a=L\/(g.get? a).isSome=true then none else (h.get? a).map λo=>(a,o)
noncomputable def gp (g h:Heap) (L d:Addr):List (Addr×Obj):=(EM g h L).filter λp=>decide (p.1≠d)
structure Mod(K:W.Frag)(mg:Pp)(base:Heap):Prop where
 kin:K.In base
 glob:base.Ns mainGlobals mg
 blt:∃mb,base.Ns builtinsNs mb/\∀x:Str,x ≠ "__name__"->mb x=bootBuiltins x
 nolimit:base.NoLimit
structure Cx where
 prog:Program
 w:World
 K:W.Frag
 mg:Str->Option Value
 base:Heap
 A:Around
 N:List Str
 s₀:Shared
 H₀:Hp
 env:Env
 outer:List Env
 stack:List Env
 ex:List Addr
 fn:Str->Bool
 calm:Bool
 pn:List (Addr×Obj)
 xe:Value->Shared->Prop
noncomputable def frs (l:List Env):List Addr:=l.filterMap (·.frame)
abbrev Cx.fs(X:Cx):List Addr:=frs X.outer
def Vis(sc:Scope)(x:Str):Prop:=sc.names.lookup x=some .local\/sc.names.lookup x=some .cell\/sc.names.lookup x=some .free
def Loc(sc:Scope)(x:Str):Prop:=sc.names.lookup x=some .local\/sc.names.lookup x=some .cell
def AF(env:Env)(h:Heap)(m:Pp)(x:Str)(u:Value):Prop:=
 (env.kindOf x=some .local/\m x=some u)\/((env.kindOf x=some .cell\/env.kindOf x=some .free)/\∃c,env.cells.lookup x=some c/\h.IsCell c (some u))
structure Cx.Ok(X:Cx):Prop where
 mod:Mod X.K X.mg X.base
 kind:X.env.scope.kind=.function
 glob:X.env.globals=mainGlobals
 blt:X.env.builtins=builtinsNs
 above:X.s₀.heap.objs.size<=X.env.locals
 inj:∀x y c,X.env.cells.lookup x=some c->X.env.cells.lookup y=some c->x=y
 has:∀x,(X.env.kindOf x=some .cell\/X.env.kindOf x=some .free)->∃c,X.env.cells.lookup x=some c
 cab:∀x c,X.fn x=true->X.env.cells.lookup x=some c->X.s₀.heap.objs.size<=c
 hd:X.calm=true->X.A.handled=none
 frames:X.A.frames=some X.stack
 stk:X.stack=X.outer\/(X.stack=X.env::X.outer/\X.env.frame=some X.env.locals)
 exf:∀b∈X.ex,b≠X.env.locals/\∀x c,X.env.cells.lookup x=some c->c≠b
 bs:∀b o,X.base.get? b=some o->X.s₀.heap.get? b=some o/\X.H₀ b=none
 bsz:X.base.objs.size<=X.s₀.heap.objs.size
 noex:∀b o,X.base.get? b=some o->b∉X.ex
 exfs:∀b∈X.ex,b∉X.fs
 funs:X.s₀.heap.FunFrames X.base X.outer
 frf:∀b∈X.fs,X.H₀ b=none
structure Inv(X:Cx)(pins:Pq)(σ:List (Option V))(H:Hp)(s:Shared):Prop where
 ok:X.Ok
 os:s.os=X.s₀.os
 bare:AllBare s.gens
 base:Un X.fs X.ex X.H₀ H X.s₀.heap s.heap
 loc:∃m,s.heap.Ns X.env.locals m/\∀(i:Nat) (x:Str) (v:V),X.N[i]?=some x->σ[i]?=some (some v)->Vis X.env.scope x->∃u,RelV v u/\AF X.env s.heap m x u
 cell:∀x c,X.env.cells.lookup x=some c->∃v,s.heap.IsCell c v
 free:H X.env.locals=none
 freeC:∀x c,X.env.cells.lookup x=some c->H c=none
 pin:∀p∈X.pn++pins,s.heap.get? p.1=some p.2/\H p.1=none/\p.1≠X.env.locals/\p.1∉X.fs/\∀v,p.2.data ≠ .cell v
 hok:HOk X.prog X.w H s.heap
 len:σ.length=X.N.length
section
variable{X:Cx}{pins:Pq}{σ:List (Option V)}{H H':Hp}{s:Shared}{h':Heap}
def Cx.Ok.nofr(ok:X.Ok)(e:X.base.get? b=some o):b∉X.fs:=λhb=>by
 have:=(ok.funs.mem hb).1
 rw[e] at this;cases this
def Inv.bs(I:Inv X pins σ H s):∀b o,X.base.get? b=some o->s.heap.get? b=some o/\H b=none:=λb o e=>
 ⟨I.base.keep b o (I.ok.bs b o e).1 (I.ok.bs b o e).2 (I.ok.nofr e) (I.ok.noex b o e),I.base.free b o (I.ok.bs b o e).1 (I.ok.bs b o e).2 (I.ok.noex b o e)⟩
def Inv.bk(I:Inv X pins σ H s):∀b o,X.base.get? b=some o->s.heap.get? b=some o:=λb o e=>(I.bs b o e).1
def Inv.mod(I:Inv X pins σ H s):Mod X.K X.mg X.base:=I.ok.mod
def Inv.kIn(I:Inv X pins σ H s):X.K.In s.heap:=I.ok.mod.kin.keeps I.bk
def Inv.nolimit(I:Inv X pins σ H s):s.heap.NoLimit:=I.ok.mod.nolimit.keeps I.bk
def Inv.lt(I:Inv X pins σ H s):X.env.locals<s.heap.objs.size:=let ⟨_,hn,_⟩:=I.loc;hn.lt
def Inv.sz(I:Inv X pins σ H s):X.s₀.heap.objs.size<=s.heap.objs.size:=MV I.ok.above (Ou I.lt)
def Inv.nofs(I:Inv X pins σ H s)(h:s.heap.objs.size<=a):a∉X.fs:=λhb=>by obtain⟨_,o,ho,_⟩:=I.ok.funs.mem hb;exact absurd (I_ (A_ ho) (MV I.sz h)) (Nk _)
def Inv.cne(I:Inv X pins σ H s):∀x c,X.env.cells.lookup x=some c->c≠X.env.locals:=λx c e z=>by obtain⟨v,o,ho,hd⟩:=I.cell x c e;obtain⟨m,⟨o',es,ep,ho',hd',_⟩,_⟩:=I.loc;rw[z,ho'] at ho;cases ho;rw[hd'] at hd;cases hd
def Inv.funs(I:Inv X pins σ H s):s.heap.FunFrames X.base X.outer:=by
 have all:∀(l:List Env),(∀b∈frs l,b∈X.fs)->X.s₀.heap.FunFrames X.base l->s.heap.FunFrames X.base l:=by
  intro l;induction l with
  |nil=>intro _ _;trivial
  |cons env r ih=>intro hs hl;obtain⟨hk,⟨L,o,hf,hn,ho,hd⟩,hr⟩:=hl;have hL:L∈X.fs:=hs L (by unfold frs;rw[NS,hf];exact s_);obtain⟨sl,e⟩:=I.base.slot L o ho (I.ok.frf L hL) hL λz=>I.ok.exfs L z hL;exact⟨hk,⟨L,_,hf,hn,e,hd⟩,ih (λb hb=>hs b (by unfold frs;rw[NS,hf];exact q_ _ hb)) hr⟩
 exact all X.outer (λ_ hb=>hb) I.ok.funs
def Inv.stack(I:Inv X pins σ H s):s.heap.FunFrames X.base X.stack:=by
 rcases I.ok.stk with e |⟨e,hf⟩
 .rw[e];exact I.funs
 .rw[e];obtain⟨m,hn,_⟩:=I.loc;refine .cons (by rw[I.ok.kind];decide) hf hn ?_ I.funs;exact O6 (MV I.ok.bsz I.ok.above)
def Inv.stkSub(I:Inv X pins σ H s):∀b∈frs X.stack,b∈X.env.locals::X.fs:=λb hb=>by
 rcases I.ok.stk with e |⟨e,hf⟩
 .rw[e] at hb;exact q_ _ hb
 .rw[e] at hb;unfold frs at hb;rw[NS,hf] at hb;exact hb
def Inv.stkFree(I:Inv X pins σ H s):∀b∈frs X.stack,H b=none:=λb hb=>by
 rcases G_.mp (I.stkSub b hb) with e |hb
 .rw[e];exact I.free
 .obtain⟨_,o,ho,_⟩:=I.ok.funs.mem hb;exact I.base.free b o ho (I.ok.frf b hb) λz=>I.ok.exfs b z hb
def Inv.step{g':Array GenState}{t':Nat}{d':Drawn}{ch:List Addr}(I:Inv X pins σ H s)
 (hch:∀b∈ch,(b∈X.ex\/X.s₀.heap.objs.size<=b)/\b≠X.env.locals/\(∀x c,X.env.cells.lookup x=some c->c≠b)/\∀p∈X.pn++pins,p.1≠b)
 (keep:∀b o,b≠X.env.locals->b∉X.fs->b∉ch->s.heap.get? b=some o->H b=none->h'.get? b=some o)
 (slot:∀b o,b≠X.env.locals->b∈X.fs->b∉ch->s.heap.get? b=some o->H b=none->∃sl,h'.get? b=some { o with slots:=sl }) (free:∀b o,b∉ch->s.heap.get? b=some o->H b=none->H' b=none)
 (there:∀b o,b∉ch->s.heap.get? b=some o->∃o',h'.get? b=some o')
 (tups:∀b xs,H b=some (.tup xs)->H' b=some (.tup xs)) (frzs:∀b o u,H b=some (.frz o u)->H' b=some (.frz o u)) (tbls:∀b ps,H b=some (.tbl ps)->∃more,H' b=some (.tbl (ps++more)))
 (ns:∀m,s.heap.Ns X.env.locals m->h'.Ns X.env.locals m) (hok:HOk X.prog X.w H' h') (hg:AllBare g'):
 Inv X pins σ H' { s with heap:=h',gens:=g',drawn:=d',toks:=t' }:=by
 have neL:∀b o,X.s₀.heap.get? b=some o->b≠X.env.locals:=λb o e=>ML (I_ (A_ e) I.ok.above);have neC:∀b o,X.s₀.heap.get? b=some o->b∉X.ex->b∉ch:=λb o e hx hb=>by
  rcases (hch b hb).1 with z |z
  .exact hx z
  .exact absurd (I_ (A_ e) z) (Nk _)
 have cellK:∀x c,X.env.cells.lookup x=some c->∀v,s.heap.IsCell c v->h'.IsCell c v:=λx c e v ⟨o,ho,hd⟩=>by
  have nch:c∉ch:=λz=>(hch c z).2.2.1 x c e rfl;by_cases hc:c∈X.fs
  .obtain⟨sl,q⟩:=slot c o (I.cne x c e) hc nch ho (I.freeC x c e);exact⟨_,q,hd⟩
  .exact⟨o,keep c o (I.cne x c e) hc nch ho (I.freeC x c e),hd⟩
 refine⟨I.ok,I.os,hg,⟨λb o e n hb hx=>?_,λb o e n hb hx=>?_,λb o e n hx=>?_,λb o e hx=>?_,λb xs e=>tups b xs (I.base.tups b xs e),λb o xs e=>frzs b o xs (I.base.frzs b o xs e),λb ps e=>?_⟩,?_,λx c e=>?_,?_,λx c e=>?_,λp hp=>?_,hok,I.len⟩
 .exact keep b o (neL b o e) hb (neC b o e hx) (I.base.keep b o e n hb hx) (I.base.free b o e n hx)
 .obtain⟨sl,e1⟩:=I.base.slot b o e n hb hx;obtain⟨sl',e2⟩:=slot b _ (neL b o e) hb (neC b o e hx) e1 (I.base.free b o e n hx);exact⟨sl',e2⟩
 .obtain⟨o',e1⟩:=I.base.there b o e hx;exact free b o' (neC b o e hx) e1 (I.base.free b o e n hx)
 .obtain⟨o',e1⟩:=I.base.there b o e hx;exact there b o' (neC b o e hx) e1
 .obtain⟨m1,e1⟩:=I.base.tbls b ps e;obtain⟨m2,e2⟩:=tbls b _ e1;exact⟨m1++m2,by rw[e2,Array.append_assoc]⟩
 .obtain⟨m,hn,hl⟩:=I.loc;refine⟨m,ns m hn,λi x v e1 e2 e3=>?_⟩;obtain⟨u,r,l⟩:=hl i x v e1 e2 e3;refine⟨u,r,?_⟩;rcases l with l |⟨k,c,e,z⟩
  .exact .inl l
  .exact .inr ⟨k,c,e,cellK x c e _ z⟩
 .obtain⟨v,z⟩:=I.cell x c e;exact⟨v,cellK x c e v z⟩
 .obtain⟨m,⟨o,_,_,ho,_⟩,_⟩:=I.loc;exact free _ o (λz=>(hch _ z).2.1 rfl) ho I.free
 .obtain⟨v,o,ho,hd⟩:=I.cell x c e;exact free c o (λz=>(hch c z).2.2.1 x c e rfl) ho (I.freeC x c e)
 .obtain⟨e,n,ne,nf,d⟩:=I.pin p hp;have nch:p.1∉ch:=λz=>(hch p.1 z).2.2.2 p hp rfl;exact⟨keep p.1 p.2 ne nf nch e n,free p.1 p.2 nch e n,ne,nf,d⟩
def Inv.un{t':Nat}(I:Inv X pins σ H s)(u:Un X.fs [] H H' s.heap h')(hok:HOk X.prog X.w H' h'):Inv X pins σ H' { s with heap:=h',toks:=t' }:=by obtain⟨m,⟨o,es,ep,ho,r⟩,_⟩:=id I.loc;obtain⟨sl,hL⟩:=u.any ho I.free (by simp);exact I.step (g':=s.gens) (d':=s.drawn) (ch:=[]) (λ_ z=>nomatch z) (λb o _ hb _ e n=>u.keep b o e n hb (by simp)) (λb o _ hb _ e n=>u.slot b o e n hb (by simp)) (λb o _ e n=>u.free b o e n (by simp)) (λb o _ e=>u.there b o e (by simp)) u.tups u.frzs u.tbls (λm' hm=>by obtain⟨o',es',ep',ho',r'⟩:=hm;rw[ho] at ho';cases ho';exact⟨_,es',ep',hL,r'⟩) hok I.bare
def Inv.call{g':Array GenState}{t':Nat}{d':Drawn}{ch:List Addr}(I:Inv X pins σ H s)(u:Un (frs X.stack) ch H H' s.heap h')(hok:HOk X.prog X.w H' h')(hg:AllBare g')
 (hch:∀b∈ch,(b∈X.ex\/X.s₀.heap.objs.size<=b)/\b≠X.env.locals/\(∀x c,X.env.cells.lookup x=some c->c≠b)/\∀p∈X.pn++pins,p.1≠b):
 Inv X pins σ H' { s with heap:=h',gens:=g',drawn:=d',toks:=t' }:=by
 obtain⟨m,⟨o,es,ep,ho,r⟩,_⟩:=id I.loc;obtain⟨sl,hL⟩:=u.any ho I.free λz=>(hch _ z).2.1 rfl;exact I.step (ch:=ch) hch (λb o hL hb hc e n=>u.keep b o e n (λz=>(G_.mp (I.stkSub b z)).elim hL hb) hc) (λb o _ _ hc e n=>u.any e n hc) (λb o hc e n=>u.free b o e n hc) (λb o hc e=>u.there b o e hc) u.tups u.frzs u.tbls (λm' hm=>by obtain⟨o',es',ep',ho',r'⟩:=hm;rw[ho] at ho';cases ho';exact⟨_,es',ep',hL,r'⟩) hok hg
def Inv.turned{t':Nat}{it:Addr}(I:Inv X pins σ H s)(k:∀b o,b≠it->s.heap.get? b=some o->h'.get? b=some o)(hn:H it=none)(hL:it≠X.env.locals)
 (h1:it∈X.ex\/X.s₀.heap.objs.size<=it) (h2:∀x c,X.env.cells.lookup x=some c->c≠it) (h3:∀p∈X.pn++pins,p.1≠it):Inv X pins σ H { s with heap:=h',toks:=t' }:=by
 have nit:∀b u,H b=some u->b≠it:=λb u e z=>by rw[z,hn] at e;cases e
 refine I.step (g':=s.gens) (d':=s.drawn) (ch:=[it]) (λb hb=>?_) (λb o _ _ hc e _=>k b o (λz=>hc (by simp [z])) e) (λb o _ _ hc e _=>⟨o.slots,k b o (λz=>hc (by simp [z])) e⟩) (λ_ _ _ _ n=>n)
  (λb o hc e=>⟨o,k b o (λz=>hc (by simp [z])) e⟩) (λ_ _ e=>e) (λ_ _ _ e=>e) (λb ps e=>⟨#[],by rw[e];simp⟩) (λm hm=>?_) (λb u e=>?_) I.bare
 .have e:b=it:=by simpa using hb
  subst e;exact⟨h1,hL,h2,h3⟩
 .obtain⟨o,es,ep,ho,r⟩:=hm;exact⟨o,es,ep,k _ o (Ne.symm hL) ho,r⟩
 .refine (I.hok b u e).stay (λc v hc q=>k c v ?_ q) (λ_ q=>q) λ_ _ q=>q;rcases hc with z |z
  .rw[z];exact nit b u e
  .exact nit c _ z
def Inv.tok(I:Inv X pins σ H s)(t:Nat):Inv X pins σ H { s with toks:=t }:=I.un (h':=s.heap) (t':=t) Un.refl I.hok
def Inv.kept(I:Inv X pins σ H s)(k:∀b u,s.heap.get? b=some u->h'.get? b=some u):Inv X pins σ H { s with heap:=h',toks:=t' }:=I.un (Un.kept k) (I.hok.kept k)
def Inv.laid(I:Inv X pins σ H s)(k:∀b u,s.heap.get? b=some u->h'.get? b=some u)(hp:s.heap.objs.size<=a)(new:ObjOk X.prog X.w (upd H a o) h' a o):
 Inv X pins σ (upd H a o) { s with heap:=h',toks:=t' }:=I.un (Un.laid k hp (I.hok.fresh hp)) (I.hok.laid k hp new)
def Inv.write(I:Inv X pins σ H s)(mu:Mut (H x))(he:e=x\/H e=some (.own x))(k:∀b u,b≠e->s.heap.get? b=some u->h'.get? b=some u)(heo:∃u,h'.get? e=some u)
 (new:ObjOk X.prog X.w (upd H x o) h' x o):Inv X pins σ (upd H x o) { s with heap:=h',toks:=t' }:=I.un (Un.write mu he k heo) (I.hok.write mu he k heo new)
def Inv.pins_of(I:Inv X pins σ H s)(h:∀p∈pins',s.heap.get? p.1=some p.2/\H p.1=none/\p.1≠X.env.locals/\p.1∉X.fs/\∀v,p.2.data ≠ .cell v):Inv X pins' σ H s:=
 ⟨I.ok,I.os,I.bare,I.base,I.loc,I.cell,I.free,I.freeC,λp hp=>(Ol.mp hp).elim (λz=>I.pin p (Ox _ z)) (h p),I.hok,I.len⟩
def mG{N:List Str}(hN:N.Nodup){i j:Nat}{x:Str}(a:N[i]?=some x)(b:N[j]?=some x):i=j:=by obtain⟨h1,e1⟩:=B_.mp a;obtain⟨h2,e2⟩:=B_.mp b;exact (List.getElem_inj hN).mp (e1.trans e2.symm)
def ph(I:Inv X pins σ H s)(hN:X.N.Nodup)(hi:X.N[i]?=some x)(hx:Loc X.env.scope x)(r:RelV v u)
 (h:∀s',Inv X pins (σ.set i (some v)) H s'->(∃a,Heap.SameBut a s.heap s'.heap/\(a=X.env.locals\/X.env.cells.lookup x=some a))->Q () s') (hf:X.fn x=true\/X.env.scope.names.lookup x=some .local):wpAny M A (storeName X.env x u) Q E s:=by
 obtain⟨m,hn,hl⟩:=id I.loc;have hcls:(X.env.scope.kind == .class || (X.env.scope.kind == .module&&X.env.locals != X.env.globals))=false:=by rw[I.ok.kind];rfl
 have hiσ:i<σ.length:=by rw[I.len];exact (B_.mp hi).1
 have cne:=I.cne;have tracked:∀{a:Addr}{h':Heap},(∃o,s.heap.get? a=some o/\H a=none)->Heap.SameBut a s.heap h'->HOk X.prog X.w H h':=λ{a h'} ha hs b ob e=>by
  obtain⟨_,_,hfree⟩:=ha;refine (I.hok b ob e).stay (λc w' hc q=>(hs.2 c ?_).trans q) (λ_ q=>q) λ_ _ q=>q;rintro rfl;rcases hc with rfl |hc
  .rw[hfree] at e;cases e
  .rw[hfree] at hc;cases hc
 rcases hx with hk |hk
 .refine wpAny_storeName_local hk hn (λh' hn' hs=>?_) hcls;obtain⟨oL,_,_,hoL,_⟩:=id hn;refine h _ ⟨I.ok,I.os,I.bare,⟨λb o e n hb hx=>?_,λb o e n hb hx=>?_,I.base.free,λb o e hx=>?_,I.base.tups,I.base.frzs,I.base.tbls⟩,⟨_,hn',λj y v' e1 e2 e3=>?_⟩,λy c e=>?_,I.free,I.freeC,λp hp=>?_,tracked ⟨oL,hoL,I.free⟩ hs,by simpa using I.len⟩ ⟨_,hs,.inl rfl⟩
  .exact (hs.2 b (ML (I_ (A_ e) I.ok.above))).trans (I.base.keep b o e n hb hx)
  .obtain⟨sl,e1⟩:=I.base.slot b o e n hb hx;exact⟨sl,(hs.2 b (ML (I_ (A_ e) I.ok.above))).trans e1⟩
  .obtain⟨o',e1⟩:=I.base.there b o e hx;exact⟨o',(hs.2 b (ML (I_ (A_ e) I.ok.above))).trans e1⟩
  .by_cases hj:j=i
   .subst hj;rw[hi] at e1;cases e1;rw[OT hiσ] at e2;cases e2;exact⟨u,r,.inl ⟨hk,by simp⟩⟩
   .rw[Ow (Ne.symm hj)] at e2;obtain⟨u',r',q⟩:=hl j y v' e1 e2 e3;refine⟨u',r',?_⟩;rcases q with ⟨k,e⟩ |⟨k,c,e,z⟩
    .refine .inl ⟨k,?_⟩;have:y≠x:=λe=>hj (mG hN e1 (e ▸ hi));simp [this,e]
    .exact .inr ⟨k,c,e,z.sameBut hs (cne y c e)⟩
  .obtain⟨w',z⟩:=I.cell y c e;exact⟨w',z.sameBut hs (cne y c e)⟩
  .obtain⟨e,n,ne,nf,d⟩:=I.pin p hp;exact⟨(hs.2 p.1 ne).trans e,n,ne,nf,d⟩
 .have hfn:X.fn x=true:=by
   rcases hf with z |z
   .exact z
   .rw[z] at hk;cases hk
  obtain⟨c,hc⟩:=I.ok.has x (.inl hk);obtain⟨w',z⟩:=I.cell x c hc;refine wpAny_storeName_cell I.ok.kind hk hc z (λh' hc' hs=>?_);obtain⟨oc,hoc,hocd⟩:=id z;refine h { s with heap:=h' } ⟨I.ok,I.os,I.bare,⟨λb o e n hb hx=>?_,λb o e n hb hx=>?_,I.base.free,λb o e hx=>?_,I.base.tups,I.base.frzs,I.base.tbls⟩,⟨m,hn.sameBut hs (Ne.symm (cne x c hc)),λj y v' e1 e2 e3=>?_⟩,λy c' e=>?_,I.free,I.freeC,λp hp=>?_,tracked ⟨oc,hoc,I.freeC x c hc⟩ hs,by simpa using I.len⟩ ⟨c,hs,.inr hc⟩
  .exact (hs.2 b (ML (I_ (A_ e) (I.ok.cab x c hfn hc)))).trans (I.base.keep b o e n hb hx)
  .obtain⟨sl,e1⟩:=I.base.slot b o e n hb hx;exact⟨sl,(hs.2 b (ML (I_ (A_ e) (I.ok.cab x c hfn hc)))).trans e1⟩
  .obtain⟨o',e1⟩:=I.base.there b o e hx;exact⟨o',(hs.2 b (ML (I_ (A_ e) (I.ok.cab x c hfn hc)))).trans e1⟩
  .by_cases hj:j=i
   .subst hj;rw[hi] at e1;cases e1;rw[OT hiσ] at e2;cases e2;exact⟨u,r,.inr ⟨.inl hk,c,hc,hc'⟩⟩
   .rw[Ow (Ne.symm hj)] at e2;obtain⟨u',r',q⟩:=hl j y v' e1 e2 e3;refine⟨u',r',?_⟩;rcases q with q |⟨k,c',e,z'⟩
    .exact .inl q
    .refine .inr ⟨k,c',e,z'.sameBut hs ?_⟩;rintro rfl;exact hj (mG hN e1 (I.ok.inj _ _ _ e hc ▸ hi))
  .by_cases hcc:c'=c
   .subst hcc;exact⟨_,hc'⟩
   .obtain⟨w2,z2⟩:=I.cell y c' e;exact⟨w2,z2.sameBut hs hcc⟩
  .obtain⟨e,n,ne,nf,d⟩:=I.pin p hp;refine⟨(hs.2 p.1 ?_).trans e,n,ne,nf,d⟩;intro q;rw[q,hoc] at e;have q':oc=p.2:=J_ e;exact d w' (by rw[<- q'];exact hocd)
def fP(I:Inv X pins σ H s)(hN:X.N.Nodup)(hi:X.N[i]?=some x)(hx:Loc X.env.scope x)(r:RelV v u)
 (h:∀s',Inv X pins (σ.set i (some v)) H s'->Q () s') (hf:X.fn x=true\/X.env.scope.names.lookup x=some .local):wpAny M A (storeName X.env x u) Q E s:=
 ph I hN hi hx r (λs' I' _=>h s' I') hf
def Inv.call'(I:Inv X pins σ H s)(ho:s'.os=s.os)(u:Un (frs X.stack) ch H H' s.heap s'.heap)(hok:HOk X.prog X.w H' s'.heap)(hg:AllBare s'.gens)
 (hch:∀b∈ch,(b∈X.ex\/X.s₀.heap.objs.size<=b)/\b≠X.env.locals/\(∀x c,X.env.cells.lookup x=some c->c≠b)/\∀p∈X.pn++pins,p.1≠b):Inv X pins σ H' s':=by
 obtain⟨h',g',d',t',o'⟩:=s';have e:o'=s.os:=ho;subst e;exact I.call (g':=g') (t':=t') (d':=d') u hok hg hch
end
abbrev XK:=Value->Option Addr->Hp->Prop
abbrev St:=List (Option V)
abbrev VK:=V->Hp->Prop
abbrev TE:=St->Hp->VK->Prop
abbrev TT:=St->Hp->(Bool->Hp->Prop)->Prop
abbrev TA:=St->Hp->(List V->Hp->Prop)->Prop
structure Ends where
 nx:St->Hp->Prop
 rt:VK
 bk:St->Hp->Prop:=λ_ _=>False
 ct:St->Hp->Prop:=λ_ _=>False
abbrev TS:=Ends->St->Hp->Prop
def EP(X:Cx)(pins:Pq)(σ:St)(Q:VK)(u:Value)(s':Shared):Prop:=∃v H',Inv X pins σ H' s'/\RelV v u/\Q v H'
def TP(X:Cx)(pins:Pq)(σ:St)(Q:Bool->Hp->Prop)(b:Bool)(s':Shared):Prop:=∃H',Inv X pins σ H' s'/\Q b H'
def AP(X:Cx)(pins:Pq)(σ:St)(Q:List V->Hp->Prop)(us:List Value)(s':Shared):Prop:=∃vs H',Inv X pins σ H' s'/\Vals vs us/\Q vs H'
def SP(X:Cx)(pins:Pq)(D:Ends)(f:Flow)(s':Shared):Prop:=
 match f with
 |.next=>∃σ' H',Inv X pins σ' H' s'/\D.nx σ' H'
 |.brk=>∃σ' H',Inv X pins σ' H' s'/\D.bk σ' H'
 |.cont=>∃σ' H',Inv X pins σ' H' s'/\D.ct σ' H'
 |.ret u=>∃v σ' H',Inv X pins σ' H' s'/\RelV v u/\D.rt v H'
def exA{α:Type}{A B C:α->Hp->Prop}{Z:Prop}(h:∃v H',A v H'/\B v H'/\C v H')(k:∀v H',A v H'->B v H'->C v H'->Z):Z:=by obtain⟨v,H',a,b,c⟩:=h;exact k v H' a b c
def PE(X:Cx)(e:Expr)(t:TE):Prop:=
 ∀(pins:Pq) (s:Shared) (σ:St) (H:Hp) (Q:VK),Inv X pins σ H s->t σ H Q->wpAny (model X.prog X.w) X.A (eval e X.env) (EP X pins σ Q) X.xe s
def PT(X:Cx)(e:Expr)(t:TT):Prop:=
 ∀(pins:Pq) (s:Shared) (σ:St) (H:Hp) (Q:Bool->Hp->Prop),Inv X pins σ H s->t σ H Q->wpAny (model X.prog X.w) X.A (isTrue e X.env (eval e X.env)) (TP X pins σ Q) X.xe s
def PW(X:Cx)(e:Expr)(t:TT):Prop:=
 ∀(e_:Sem Value) (pins:Pq) (s:Shared) (σ:St) (H:Hp) (Q:Bool->Hp->Prop),Inv X pins σ H s->t σ H Q->wpAny (model X.prog X.w) X.A (isTrue e X.env e_) (TP X pins σ Q) X.xe s
def PW.pt(h:PW X e t):PT X e t:=h _
def PA(X:Cx)(es:List Expr)(t:TA):Prop:=
 ∀(pos:Pos) (pins:Pq) (s:Shared) (σ:St) (H:Hp) (Q:List V->Hp->Prop),Inv X pins σ H s->t σ H Q->wpAny (model X.prog X.w) X.A (spliced (backTo pos (starEach es X.env))) (AP X pins σ Q) X.xe s
def PS(X:Cx)(st:Stmt)(t:TS):Prop:=
 ∀(pins:Pq) (s:Shared) (σ:St) (H:Hp) (D:Ends),Inv X pins σ H s->t D σ H->wpAny (model X.prog X.w) X.A (exec st X.env) (SP X pins D) X.xe s
def PSs(X:Cx)(st:List Stmt)(t:TS):Prop:=
 ∀(pins:Pq) (s:Shared) (σ:St) (H:Hp) (D:Ends),Inv X pins σ H s->t D σ H->wpAny (model X.prog X.w) X.A (execs st X.env) (SP X pins D) X.xe s
def thn(h:wpAny M A t Q E s)(hQ:∀a s,Q a s->Q' a s):wpAny M A t Q' E s:=MU h hQ λ_ _ x=>x
section
variable{X:Cx}
def tVar(i:Nat):TE:=λσ H Q=>∃v,σ[i]?=some (some v)/\Q v H
def tC(v:V):TE:=λ_ H Q=>Q v H
def F9(hN:X.N[i]?=some x)(hv:Vis X.env.scope x)(hd:(x==("__debug__" : Str))=false)(k_:(x==("__classdict__" : Str))=false):PE X (.Name x pos) (tVar i):=by
 intro pins s σ H Q I h;obtain⟨v,e,h⟩:=h;obtain⟨m,hn,hl⟩:=I.loc;obtain⟨u,r,l⟩:=hl i x v hN e hv;have d_:EP X pins σ Q u s:=⟨v,H,I,r,h⟩;rcases l with ⟨hk,hm⟩ |⟨hk,c,hc,m_⟩
 .exact wpAny_Name (Pe I.ok.kind hk hn hm d_) hd
 .rcases hk with hk |hk
  .exact wpAny_Name (wpAny_loadName_cell I.ok.kind hk hc m_ d_) hd
  .exact wpAny_Name (wpAny_loadName_free I.ok.kind hk hc m_ d_ k_) hd
def HN{i j pos}:PE X (.Constant (.int i) j pos) (tC (.int i)):=λ_ _ _ H _ I h=>wpAny_Constant_int ⟨.int i,H,I.tok _,⟨_,rfl⟩,h⟩
def MD{b j pos}:PE X (.Constant (.bool b) j pos) (tC (.bl b)):=λ_ _ _ H _ I h=>Constant_bool ⟨.bl b,H,I,rfl,h⟩
def G8{j pos}:PE X (.Constant .none j pos) (tC .non):=λ_ _ _ H _ I h=>Constant_none ⟨.non,H,I,rfl,h⟩
def GY{x j pos}:PE X (.Constant (.str x) j pos) (tC (.str x)):=λ_ _ _ H _ I h=>Calls.Constant_str ⟨.str x,H,I.tok _,⟨_,rfl⟩,h⟩
def Gl(X:Cx)(x:Str):Prop:=X.env.kindOf x=some .globalImplicit
def oH(I:Inv X pins σ H s)(hg:Gl X x)(hm:X.mg x=some u)(h:Q u s)
 (hd:(x==("__debug__" : Str))=false):wpAny (model X.prog X.w) X.A (eval (.Name x pos) X.env) Q E s:=
 OB I.ok.kind hg (Calls.loadGlobal_global (by rw[I.ok.glob];exact I.mod.glob.keeps I.bk) hm h) hd
def cN(I:Inv X pins σ H s)(hg:Gl X x)(hm:X.mg x=none)(hv:bootBuiltins x=some u)(h:Q u s)
 (hn:x ≠ "__name__":=by decide) (hd:(x==("__debug__" : Str))=false:=by decide):wpAny (model X.prog X.w) X.A (eval (.Name x pos) X.env) Q E s:=by
 obtain⟨mb,h1,h2⟩:=I.mod.blt;exact OB I.ok.kind hg (Calls.loadGlobal_builtin (by rw[I.ok.glob];exact I.mod.glob.keeps I.bk) hm (by rw[I.ok.blt];exact h1.keeps I.bk) ((h2 x hn).trans hv) h) hd
def vU(hg:Gl X x)(hm:X.mg x=some u)(r:RelV v u)(hd:(x==("__debug__" : Str))=false):PE X (.Name x pos) (tC v):=
 λ_ _ _ H _ I h=>oH I hg hm ⟨v,H,I,r,h⟩ hd
def Fs(hg:Gl X x)(hm:X.mg x=none)(hv:bootBuiltins x=some u)(r:RelV v u)(hn:x ≠ "__name__")(hd:(x==("__debug__" : Str))=false):PE X (.Name x pos) (tC v):=
 λ_ _ _ H _ I h=>cN I hg hm hv ⟨v,H,I,r,h⟩ hn hd
variable{a b:Expr}{ta tb:TE}{pos:Pos}
def tB(t:TE):TT:=λσ H Q=>t σ H λx H1=>∃c,x=.bl c/\Q c H1
def GQ(h:PE X e t)(he:∀e_,isTrue e X.env e_=(do let v <- e_;standAt e.pos;holding [v] (truthy v))):PT X e (tB t):=by intro pins s σ H Q I hw;refine isTrue_plain (thn (h pins s σ H _ I hw) λv s1 zz=>exA zz λx H1 I1 r1 q1=>?_) (he _);obtain⟨d,rfl,q⟩:=q1;cases r1;exact N_ ⟨H1,I1,q⟩
variable{tA tB':TT}{gp:List Expr}
def tAnd(t u:TT):TT:=λσ H Q=>t σ H λc H1=>if c=true then u σ H1 Q else Q false H1
def tOr(t u:TT):TT:=λσ H Q=>t σ H λc H1=>if c=true then Q true H1 else u σ H1 Q
def tNot(t:TT):TT:=λσ H Q=>t σ H λc H1=>Q (!c) H1
def E9(ha:PT X a tA):PW X (.BoolOp .And [a] pos) tA:=by
 intro wh pins s σ H Q I h;refine isTrue_and (thn (ha pins s σ H Q I h) λc s1 e=>?_);cases c with
 |true=>exact isTrue_and_nil e
 |false=>exact e
def Ho(ha:PT X a tA):PW X (.BoolOp .Or [a] pos) tA:=by
 intro wh pins s σ H Q I h;refine isTrue_or (thn (ha pins s σ H Q I h) λc s1 e=>?_);cases c with
 |false=>exact isTrue_or_nil e
 |true=>exact e
def Gf(ha:PT X a tA)(hb:PW X (.BoolOp .And (b::gp) pos) tB'):PW X (.BoolOp .And (a::b::gp) pos) (tAnd tA tB'):=by
 intro wh pins s σ H Q I h;refine isTrue_and (thn (ha pins s σ H _ I h) λc s1 ⟨H1,I1,q1⟩=>?_);cases c with
 |true=>exact hb wh pins s1 σ H1 Q I1 q1
 |false=>exact⟨H1,I1,q1⟩
def LD(ha:PT X a tA)(hb:PW X (.BoolOp .Or (b::gp) pos) tB'):PW X (.BoolOp .Or (a::b::gp) pos) (tOr tA tB'):=by
 intro wh pins s σ H Q I h;refine isTrue_or (thn (ha pins s σ H _ I h) λc s1 ⟨H1,I1,q1⟩=>?_);cases c with
 |true=>exact⟨H1,I1,q1⟩
 |false=>exact hb wh pins s1 σ H1 Q I1 q1
def GG(ha:PT X a tA):PT X (.UnaryOp .Not a pos) (tNot tA):=by intro pins s σ H Q I h;exact isTrue_not (ha pins s σ H (λc H1=>Q (!c) H1) I h)
def L9(ta tb:TE):TE:=λσ H Q=>ta σ H λx H1=>∃c,x=.bl c/\if c=true then tb σ H1 Q else Q (.bl false) H1
def Mw(ta:TE):TE:=λσ H Q=>ta σ H λx H1=>∃c,x=.bl c/\Q (.bl (!c)) H1
def Jm{op}(h:PE X a t):PE X (.BoolOp op [a] pos) t:=λpins s σ H Q I hw=>BoolOp_one (h pins s σ H Q I hw)
def Iq(ha:PE X a ta)(hb:PE X (.BoolOp .And (b::gp) pos) tb):PE X (.BoolOp .And (a::b::gp) pos) (L9 ta tb):=by
 intro pins s σ H Q I h;refine BoolOp_and (thn (ha pins s σ H _ I h) λv s1 zz=>exA zz λx H1 I1 r1 q1=>?_);obtain⟨c,rfl,q1⟩:=q1;cases r1;refine N_ ?_;cases c with
 |true=>exact hb pins s1 σ H1 Q I1 q1
 |false=>exact⟨.bl false,H1,I1,rfl,q1⟩
def GX(ha:PE X a ta):PE X (.UnaryOp .Not a pos) (Mw ta):=by intro pins s σ H Q I h;refine UnaryOp_ (thn (ha pins s σ H _ I h) λv s1 zz=>exA zz λx H1 I1 r1 q1=>?_);obtain⟨c,rfl,q1⟩:=q1;cases r1;exact not_of (N_ ⟨.bl (!c),H1,I1,rfl,q1⟩)
def tIf(t:TT)(ta tb:TE):TE:=λσ H Q=>t σ H λc H1=>if c=true then ta σ H1 Q else tb σ H1 Q
def Cv(hc:PT X c tA)(ha:PE X a ta)(hb:PE X b tb):PE X (.IfExp c a b pos) (tIf tA ta tb):=by
 intro pins s σ H Q I h;refine wpAny_IfExp (thn (hc pins s σ H _ I h) λd s1 ⟨H1,I1,q1⟩=>?_);cases d with
 |true=>exact ha pins s1 σ H1 Q I1 q1
 |false=>exact hb pins s1 σ H1 Q I1 q1
end
def SqL(K:W.Frag)(H:Hp)(a:Addr)(xs:List V):Prop:=
 Rd H a (.lst xs)\/
  ∃(o:Obj) (its:Array Value) (n:Nat),K.lookup a=some o/\o.cls=.type "list" /\ o.dict=none/\o.data=.seq its n/\its.size<=sizeLine/\Vals xs its.toList
def SqT(K:W.Frag)(H:Hp)(a:Addr)(xs:List V):Prop:=
 Rd H a (.tup xs)\/
  ∃(o:Obj) (its:Array Value) (n:Nat),K.lookup a=some o/\o.cls=.type "tuple" /\ o.data=.seq its n/\its.size<=sizeLine/\Vals xs its.toList
noncomputable def absV:Value->Option V
 |.none=>some .non
 |.bool b=>some (.bl b)
 |.int i _=>some (.int i)
 |.str x _=>some (.str x)
 |.bytes b _=>some (.byt b)
 |.float b _=>some (.flt b)
 |.ref a=>some (.ref a)
 |.type n=>some (.ty n)
 |_=>none
def RelV.abs(r:RelV x u):absV u=some x:=by
 cases x with
 |non=>cases r;rfl
 |bl _=>cases r;rfl
 |int _=>obtain⟨t,rfl⟩:=r;rfl
 |str _=>obtain⟨t,rfl⟩:=r;rfl
 |byt _=>obtain⟨t,rfl⟩:=r;rfl
 |flt _=>obtain⟨t,rfl⟩:=r;rfl
 |ref _=>cases r;rfl
 |ty _=>cases r;rfl
def RelV.inj(r:RelV x u)(q:RelV y u):x=y:=J_ (r.abs.symm.trans q.abs)
def Vals.inj(r:Vals xs us)(q:Vals ys us):xs=ys:=by
 induction r generalizing ys with
 |nil=>cases q;rfl
 |
  cons r t ih=>
  cases q with
  |cons q t'=>rw[r.inj q,ih t']
section
variable{X:Cx}{pins:Pq}{σ:St}{H:Hp}{s:Shared}{a:Addr}{xs ys:List V}
def SqL.of{K:W.Frag}(h:H a=some (.lst xs)):SqL K H a xs:=.inl (.inl h)
def SqT.of{K:W.Frag}(h:H a=some (.tup xs)):SqT K H a xs:=.inl (.inl h)
def Inv.list(I:Inv X pins σ H s)(h:SqL X.K H a xs):∃its:List Value,Vals xs its/\PlainL s.heap a its.toArray/\xs.length<=sizeLine:=by
 rcases h with h |⟨o,its,n,hk,hc,hd,hs,hz,r⟩
 .obtain⟨z,its,n,r,e⟩:=h.ok I.hok;exact⟨its,r,⟨_,n,e,rfl,rfl,rfl⟩,z⟩
 .refine⟨its.toList,r,⟨o,n,I.kIn a o hk,hc,hd,by simpa using hs⟩,?_⟩;have e:=r.length;simp only[M_] at e;omega
def Inv.tuple(I:Inv X pins σ H s)(h:SqT X.K H a xs):∃its:List Value,Vals xs its/\IsTup s.heap a its.toArray/\xs.length<=sizeLine:=by
 rcases h with h |⟨o,its,n,hk,hc,hs,hz,r⟩
 .obtain⟨z,its,r,p⟩:=h.ok I.hok;exact⟨its,r,p,z⟩
 .refine⟨its.toList,r,⟨o,I.kIn a o hk,hc,n,by simpa using hs⟩,?_⟩;have e:=r.length;simp only[M_] at e;omega
def Inv.list_inj(I:Inv X pins σ H s)(h:SqL X.K H a xs)(h':SqL X.K H a ys):xs=ys:=by
 obtain⟨its,r,⟨o,n,e,_,_,d⟩,_⟩:=I.list h;obtain⟨its',r',⟨o',n',e',_,_,d'⟩,_⟩:=I.list h';rw[e] at e';cases e';rw[d] at d';injection d' with d1 _;have:its=its':=by simpa using MK Array.toList d1
 subst this;exact r.inj r'
def Inv.tuple_inj(I:Inv X pins σ H s)(h:SqT X.K H a xs)(h':SqT X.K H a ys):xs=ys:=by
 obtain⟨its,r,⟨o,e,_,n,d⟩,_⟩:=I.tuple h;obtain⟨its',r',⟨o',e',_,n',d'⟩,_⟩:=I.tuple h';rw[e] at e';cases e';rw[d] at d';injection d' with d1 _;have:its=its':=by simpa using MK Array.toList d1
 subst this;exact r.inj r'
end
section
variable{X:Cx}{st:Stmt}{gp:List Stmt}{t u:TS}{e:Expr}{te:TE}{pos:Pos}
def KR:TS:=λD σ H=>D.nx σ H
def tSeq(t u:TS):TS:=λD σ H=>t { D with nx:=u D } σ H
def EE:PSs X [] KR:=λ_ _ σ H _ I h=>OJ ⟨σ,H,I,h⟩
def Bh(h1:PS X st t)(h2:PSs X gp u):PSs X (st::gp) (tSeq t u):=by
 intro pins s σ H D I h;refine wpAny_execs_cons (thn (h1 pins s σ H { D with nx:=u D } I h) λf s1 q=>?_);cases f with
 |next=>obtain⟨σ',H',I',q⟩:=q;exact h2 pins s1 σ' H' D I' q
 |ret v=>exact q
 |brk=>exact q
 |cont=>exact q
def En(h1:PS X st t):PSs X [st] t:=by
 intro pins s σ H D I h;refine wpAny_execs_cons (thn (h1 pins s σ H D I h) λf s1 q=>?_);cases f with
 |next=>exact OJ q
 |ret v=>exact q
 |brk=>exact q
 |cont=>exact q
def Gi:TS:=λD σ H=>D.bk σ H
def C0:PS X (.Break pos) Gi:=λ_ _ σ H _ I h=>wpAny_Break ⟨σ,H,I,h⟩
def Inv.quiet(I:Inv X pins σ H s):interactive X.env=false:=by simp [interactive,I.ok.kind]
def Md(te:TE):TS:=λD σ H=>te σ H λ_ H1=>D.nx σ H1
def FN(he:PE X e te)(hs:swapsWith e none pos.line X.env=pure false):PS X (.Expr e pos) (Md te):=by intro pins s σ H D I h;exact wpAny_Expr_any (thn (he pins s σ H _ I h) λv s1 zz=>exA zz λx H1 I1 r1 q1=>⟨σ,H1,I1,q1⟩) I.quiet hs
def tRet(te:TE):TS:=λD σ H=>te σ H D.rt
def HY(he:PE X e te):PS X (.Return (some e) pos) (tRet te):=by intro pins s σ H D I h;exact wpAny_Return_some (thn (he pins s σ H _ I h) λv s1 zz=>exA zz λx H1 I1 r1 q1=>⟨x,σ,H1,I1,r1,q1⟩)
def Km:TS:=λD _ H=>D.rt .non H
def Ea:PS X (.Return none pos) Km:=λ_ _ σ H _ I h=>wpAny_Return_none ⟨.non,σ,H,I,rfl,h⟩
def tIfS(c:TT)(t u:TS):TS:=λD σ H=>c σ H λb H1=>if b=true then t D σ H1 else u D σ H1
def Lf(hc:PT X c tc)(ha:PSs X a t)(hb:PSs X b u):PS X (.If c a b pos) (tIfS tc t u):=by
 intro pins s σ H D I h;refine wpAny_If (thn (hc pins s σ H _ I h) λd s1 ⟨H1,I1,q1⟩=>?_);cases d with
 |true=>exact ha pins s1 σ H1 D I1 q1
 |false=>exact hb pins s1 σ H1 D I1 q1
end
abbrev TG:=V->St->Hp->(St->Hp->Prop)->Prop
abbrev TGs:=List V->St->Hp->(St->Hp->Prop)->Prop
def PG(X:Cx)(target:Expr)(t:TG):Prop:=
 ∀
  (pins:Pq) (s:Shared) (σ:St) (H:Hp) (v:V) (u:Value) (Q:St->Hp->Prop),Inv X pins σ H s->RelV v u->t v σ H Q->
  wpAny (model X.prog X.w) X.A (assign target X.env u) (λ_ s'=>∃σ' H',Inv X pins σ' H' s'/\Q σ' H') X.xe s
def PGs(X:Cx)(ts:List Expr)(t:TGs):Prop:=
 ∀
  (pins:Pq) (s:Shared) (σ:St) (H:Hp) (vs:List V) (us:List Value) (Q:St->Hp->Prop),Inv X pins σ H s->Vals vs us->t vs σ H Q->
  wpAny (model X.prog X.w) X.A (assignInOrder ((assignEach ts X.env).map (·.2)) us) (λ_ s'=>∃σ' H',Inv X pins σ' H' s'/\Q σ' H') X.xe s
abbrev sG:=V->V->V->Hp->(Hp->Prop)->Prop
def xD(X:Cx)(t:sG):Prop:=
 ∀
  (pins:Pq) (s:Shared) (σ:St) (H:Hp) (o i v:V) (ov iv u:Value) (Q:Hp->Prop),Inv X pins σ H s->RelV o ov->RelV i iv->RelV v u->t o i v H Q->
  wpAny (model X.prog X.w) X.A (setItem ov iv u) (λ_ s'=>∃H',Inv X pins σ H' s'/\Q H') X.xe s
abbrev TIp:=V->V->Hp->VK->Prop
def PIp(X:Cx)(op:Operator)(t:TIp):Prop:=
 ∀
  (pins:Pq) (s:Shared) (σ:St) (H:Hp) (x y:V) (v u:Value) (Q:VK),Inv X pins σ H s->RelV x v->RelV y u->t x y H Q->
  wpAny (model X.prog X.w) X.A (inplaceOp op v u) (EP X pins σ Q) X.xe s
section
variable{X:Cx}{pos:Pos}
def qK(i:Nat):TG:=λv σ H Q=>Q (σ.set i (some v)) H
def EG(hN:X.N.Nodup)(hi:X.N[i]?=some x)(hx:Loc X.env.scope x)(hf:X.fn x=true\/X.env.scope.names.lookup x=some .local):PG X (.Name x pos) (qK i):=by intro pins s σ H v u Q I r h;exact wpAny_assign_Name (fP I hN hi hx r (λs' I'=>⟨_,H,I',h⟩) hf)
def gNil:TGs:=λvs σ H Q=>vs=[]/\Q σ H
def K0(t:TG)(u:TGs):TGs:=λvs σ H Q=>∃v r,vs=v::r/\t v σ H λσ' H'=>u r σ' H' Q
def Fh:PGs X [] gNil:=by intro pins s σ H vs us Q I r h;obtain⟨e,h⟩:=h;subst e;cases r;exact assignInOrder_nil ⟨σ,H,I,h⟩
def BE(h1:PG X e t)(h2:PGs X es u)
 (hs:(assignEach (e::es) X.env).map (·.2)=assign e X.env::(assignEach es X.env).map (·.2)):PGs X (e::es) (K0 t u):=by
 intro pins s σ H vs us Q I r h;obtain⟨v,vr,e1,h⟩:=h;subst e1;cases r with
 |cons r rr=>rw[hs];refine assignInOrder_cons (thn (h1 pins s σ H _ _ _ I r h) λ_ s1 ⟨σ1,H1,I1,q1⟩=>?_);exact h2 pins s1 σ1 H1 _ _ Q I1 rr q1
def gTup(K:W.Frag)(n:Nat)(t:TGs):TG:=λv σ H Q=>∃a xs,v=.ref a/\SqT K H a xs/\xs.length=n/\t xs σ H Q
def yW(hc:X.calm=true)(h:PGs X es t)
 (hn:(assignEach es X.env).length=n) (hst:(assignEach es X.env).findIdx? (·.1)=none):PG X (.Tuple es k pos) (gTup X.K n t):=by
 intro pins s σ H v u Q I r hw;obtain⟨a,xs,e1,hq,hl,hw⟩:=hw;subst e1;cases r;obtain⟨its,rv,ht,hz⟩:=I.tuple hq;refine assign_Tuple_tuple (I.ok.hd hc) ht (by simp [hn,<- hl,rv.length]) hst λh' hx=>?_;have I1:Inv X pins σ H { s with heap:=h' }:=I.kept (t':=s.toks) λb o e=>hx b o (ML (A_ e)) e;exact h pins _ σ H xs _ Q I1 (by simpa using rv) hw
def gSub(to ti:TE)(t:sG):TG:=λv σ H Q=>to σ H λo H1=>ti σ H1 λi H2=>t o i v H2 λH3=>Q σ H3
def HM(ho:PE X o to)(hi:PE X i ti)(hs:xD X t)
 (ha:∀v,assign (.Subscript o i pos) X.env v=(do
  let ov <- holding [v] (eval o X.env)
  let iv <- holding [v,ov] (eval i X.env)
  standAt pos
  holding [v,ov,iv] (setItem ov iv v)
  release [v,ov,iv] [])):PG X (.Subscript o i pos) (gSub to ti t):=by
 intro pins s σ H v u Q I r h;rw[ha];refine o_ (Nl (thn (ho pins s σ H _ I h) λov s1 zz=>exA zz λx H1 I1 r1 q1=>?_));refine o_ (Nl (thn (hi pins s1 σ H1 _ I1 q1) λiv s2 zz=>exA zz λy H2 I2 r2 q2=>?_));refine o_ (Oh (o_ (Nl (thn (hs pins s2 σ H2 x y v ov iv u _ I2 r1 r2 r q2) λ_ s3 ⟨H3,I3,q3⟩=>?_))));exact wpAny_release ⟨σ,H3,I3,q3⟩
def xE(te:TE)(g:TG):TS:=λD σ H=>te σ H λx H1=>g x σ H1 D.nx
def zX(he:PE X e te)(hg:PG X tg g)(hs:swapsWithSole [tg] e pos.line X.env=pure false)(hw:swappedStores [tg] e X.env=pure none)
 (h1:(assignEach [tg] X.env).map (·.2)=[assign tg X.env]):PS X (.Assign [tg] e pos) (xE te g):=by
 intro pins s σ H D I h;refine wpAny_Assign_stores (thn (he pins s σ H _ I h) λv s1 zz=>exA zz λx H1 I1 r1 q1=>?_) hs hw;rw[h1];exact thn (hg pins s1 σ H1 x v _ I1 r1 q1) λ_ s2 q=>q
def Hq(hN:X.N.Nodup)(hi:X.N[i]?=some x)(hx:Loc X.env.scope x)(he:PE X e te)(hs:swapsWith e (some (.Name x l_)) pos.line X.env=pure false)(hf:X.fn x=true\/X.env.scope.names.lookup x=some .local):
 PS X (.Assign [.Name x l_] e pos) (xE te (qK i)):=by
 intro pins s σ H D I h;refine wpAny_Assign_Name (thn (he pins s σ H _ I h) λv s1 zz=>exA zz λy H1 I1 r1 q1=>?_) hs;exact fP I1 hN hi hx r1 (λs2 I2=>⟨_,H1,I2,q1⟩) hf
def tPar(i j:Nat)(ta:TA):TS:=λD σ H=>ta σ H λvs H1=>∃v w,vs=[v,w]/\D.nx ((σ.set i (some v)).set j (some w)) H1
def IX{kt k2 pt2}(hc:X.calm=true)(hN:X.N.Nodup)(hi:X.N[i]?=some x)(hj:X.N[j]?=some y)(hij:i≠j)
 (hx:X.env.scope.names.lookup x=some .local) (hy:X.env.scope.names.lookup y=some .local) (ha:PA X [a,b] ta)
 (hw:swappedStores [.Tuple [.Name x px,.Name y py] kt pt] (.Tuple [a,b] k2 pt2) X.env=pure (some [x,y]))
 (hs:swapsWithSole [.Tuple [.Name x px,.Name y py] kt pt] (.Tuple [a,b] k2 pt2) pos.line X.env=pure false):
 PS X (.Assign [.Tuple [.Name x px,.Name y py] kt pt] (.Tuple [a,b] k2 pt2) pos) (tPar i j ta):=by
 intro pins s σ H D I h;rw[exec_Assign_arm];refine o_ (Oh ?_);rw[hs];refine o_ (v_ ?_);rw[if_neg (by decide)];refine o_ (Tuple_ (thn (ha _ pins s σ H _ I h) λus s1 zz=>exA zz λvs H1 I1 r1 q1=>?_));obtain⟨v,w,e1,q1⟩:=q1;subst e1;obtain⟨u1,u2,rfl,rv,rw'⟩:∃u1 u2,us=[u1,u2]/\RelV v u1/\RelV w u2:=by
  cases r1 with
  |
   cons p q=>
   cases q with
   |cons p' q'=>cases q';exact⟨_,_,rfl,p,p'⟩
 refine Nq ?_ (by show 2<=sizeLine;decide);have I2:Inv X pins σ H1 { s1 with heap:=s1.heap.push { cls:=.type "tuple",data:=.seq [u1,u2].toArray } }:=I1.kept (t':=s1.toks) λb o e=>r_ _ e;rw[hw];refine o_ (v_ ?_);show wpAny (model X.prog X.w) X.A (do rule "assign.swapped-stores";let items <- unpackItems (.ref s1.heap.objs.size) 2 none;assignInOrder [λv=>bindName X.env y v,λv=>bindName X.env x v] items.reverse;pure Flow.next) _ _ _;refine o_ (OA (o_ (unpackItems_tuple (items:=#[u1,u2]) (I.ok.hd hc) (IsTup.new s1.heap _) λh' hx'=>?_)));have I3:=I2.kept (h':=h') (t':=s1.toks) λb o e=>hx' b o (ML (A_ e)) e;show wpAny _ _ (assignInOrder [λv=>bindName X.env y v,λv=>bindName X.env x v] [u2,u1] >>= λ_=>pure Flow.next) _ _ _;refine o_ (assignInOrder_cons (wpAny_bindName (fP I3 hN hj (.inl hy) rw' (λs2 I4=>?_) (.inr hy))));refine assignInOrder_cons (wpAny_bindName (fP I4 hN hi (.inl hx) rv (λs3 I5=>assignInOrder_nil (v_ ?_)) (.inr hx)));rw[List.set_comm _ _ (Ne.symm hij)] at I5;exact⟨_,H1,I5,q1⟩
def tAug(i:Nat)(te:TE)(ti:TIp):TS:=λD σ H=>∃x,σ[i]?=some (some x)/\te σ H λy H1=>ti x y H1 λz H2=>D.nx (σ.set i (some z)) H2
def G1(hN:X.N.Nodup)(hi:X.N[i]?=some x)(hx:Loc X.env.scope x)(he:PE X e te)(ho:PIp X op ti)(hf:X.fn x=true\/X.env.scope.names.lookup x=some .local):
 PS X (.AugAssign (.Name x l_) op e pos) (tAug i te ti):=by
 intro pins s σ H D I h;obtain⟨v,e1,h⟩:=h;obtain⟨m,hn,hl⟩:=I.loc;have vis:Vis X.env.scope x:=by rcases hx with k |k;exact .inl k;exact .inr (.inl k)
 obtain⟨u,r,l⟩:=hl i x v hi e1 vis;refine wpAny_AugAssign_Name ?_;have go:wpAny (model X.prog X.w) X.A (eval e X.env) (λw s₂=>wpAny (model X.prog X.w) X.A (inplaceOp op u w) (λr s₃=>wpAny (model X.prog X.w) X.A (storeName X.env x r) (λ_=>SP X pins D .next) X.xe s₃) X.xe s₂) X.xe s:=by refine thn (he pins s σ H _ I h) λw s1 zz=>exA zz λy H1 I1 r1 q1=>?_;refine thn (ho pins s1 σ H1 v y u w _ I1 r r1 q1) λz s2 zz=>exA zz λzv H2 I2 r2 q2=>?_;exact fP I2 hN hi hx r2 (λs3 I3=>⟨_,H2,I3,q2⟩) hf
 rcases l with ⟨hk,hm⟩ |⟨hk,c,hc,m_⟩
 .exact Pe I.ok.kind hk hn hm go
 .rcases hk with hk |hk
  .exact wpAny_loadName_cell I.ok.kind hk hc m_ go
  .rcases hx with k |k
   .have:X.env.scope.names.lookup x=some .free:=hk;rw[k] at this;cases this
   .have:X.env.scope.names.lookup x=some .free:=hk;rw[k] at this;cases this
def ipI(f:Int->Int->Int):TIp:=λx y H Q=>∃i j,x=.int i/\y=.int j/\Q (.int (f i j)) H
def Hf:PIp X .Add (ipI λi j=>i+j):=by intro pins s σ H x y v u Q I r1 r2 h;obtain⟨i,j,e1,e2,q⟩:=h;subst e1;subst e2;obtain⟨t,rfl⟩:=r1;obtain⟨t',rfl⟩:=r2;exact iadd_int ⟨.int _,H,I.tok _,⟨_,rfl⟩,q⟩
def JR(c:TT)(tb:TS):TS:=λD σ H=>∃W:Nat->St->Hp->Prop,(∃m,W m σ H)/\∀m σ H,W m σ H->
 c σ H λb H1=>if b=true then ∃N:St->Hp->Prop,(∀σ' H',N σ' H'->∃m',m'<m/\W m' σ' H')/\tb { D with nx:=N,ct:=N,bk:=D.nx } σ H1 else D.nx σ H1
def Ax(hp:PassesOwn (model X.prog X.w) X.A X.env X.xe)(hc:PT X c tc)(hb:PSs X body tb):PS X (.While c body [] pos) (JR tc tb):=by
 intro pins s σ H D I h;obtain⟨W,⟨m0,w0⟩,turn⟩:=h;refine wpAny_While (codeAny_whileLoop (λn s'=>∃σ' H',Inv X pins σ' H' s'/\W n σ' H') ?_ m0 ⟨σ,H,I,w0⟩);rintro n s1 ⟨σ1,H1,I1,w1⟩;refine N6 hp (thn (hc pins s1 σ1 H1 _ I1 (turn n σ1 H1 w1)) λb s2 ⟨H2,I2,q2⟩=>?_);cases b with
 |
  true=>
  obtain⟨N,hN,q2⟩:=q2;rw[if_pos rfl];refine N6 hp (thn (hb pins s2 σ1 H2 _ I2 q2) λf s3 q3=>?_);cases f with
  |next=>obtain⟨σ3,H3,I3,n3⟩:=q3;obtain⟨m',hm,w3⟩:=hN σ3 H3 n3;exact⟨m',hm,σ3,H3,I3,w3⟩
  |cont=>obtain⟨σ3,H3,I3,n3⟩:=q3;obtain⟨m',hm,w3⟩:=hN σ3 H3 n3;exact⟨m',hm,σ3,H3,I3,w3⟩
  |brk=>exact q3
  |ret v=>exact q3
 |false=>rw[if_neg w_];exact OJ ⟨σ1,H2,I2,q2⟩
end
structure It where
 go:Nat->Hp->Prop
 yld:Nat->Hp->V->Hp->Prop
 stop:Nat->Hp->Prop
def FpOk(X:Cx)(pins:Pq)(H:Hp)(b:Addr):Prop:=
 H b=none/\b≠X.env.locals/\b∉X.fs/\(b∈X.ex\/X.s₀.heap.objs.size<=b)/\(∀x c,X.env.cells.lookup x=some c->c≠b)/\∀p∈X.pn++pins,p.1≠b
def Inv.fpOk(I:Inv X pins σ H s)(hb:s.heap.objs.size<=b)(hn:H' b=none):FpOk X pins H' b:=by
 refine⟨hn,Ov (I_ I.lt hb),I.nofs hb,.inr (MV I.sz hb),λx c e z=>?_,λp hp z=>?_⟩
 .obtain⟨v,q⟩:=I.cell x c e;exact absurd (I_ q.lt (by rw[z];exact hb)) (Nk _)
 .exact absurd (I_ (A_ (I.pin p hp).1) (by rw[z];exact hb)) (Nk _)
structure Turn(P:Program)(w:World)(K:W.Frag)(tg:Expr)(J:It)(fp:List Addr)(it:Addr)(tn:Nat->Heap->Prop):Prop where
 mem:it∈fp
 obj:∀i h,tn i h->∀b∈fp,∃o,h.get? b=some o/\∀v,o.data ≠ .cell v
 keep:∀i h h',tn i h->(∀b∈fp,∀o,h.get? b=some o->h'.get? b=some o)->tn i h'
 item:∀(X:Cx),X.prog=P->X.w=w->X.K=K->X.calm=true->∀(i:Nat) (pins:Pq) (s:Shared) (σ:St) (H:Hp) (E:Pt),Inv X pins σ H s->(∀b∈fp,FpOk X pins H b)->tn i s.heap->J.go i H->
  wpAny (model P w) X.A (pyNext (.ref it)) (λr s1=>∃u,r=some u/\
   wpAny (model P w) X.A (letOwnedTupleGo tg (.ref it) u) (λ_ s2=>∃x H',Inv X pins σ H' s2/\RelV x u/\J.yld i H x H'/\tn (i+1) s2.heap/\∀b∈fp,H' b=none) E s1) E s
 done:∀(X:Cx),X.prog=P->X.w=w->X.K=K->X.calm=true->∀(i:Nat) (pins:Pq) (s:Shared) (σ:St) (H:Hp) (E:Pt),Inv X pins σ H s->(∀b∈fp,FpOk X pins H b)->tn i s.heap->J.stop i H->
  wpAny (model P w) X.A (pyNext (.ref it)) (λr s1=>r=none/\Inv X pins σ H s1) E s
 self:∀(A:Around) (i:Nat) (s:Shared) (Q:Pt) (E:Pt),tn i s.heap->Q (.ref it) s->wpAny (model P w) A (pyIter (.ref it)) Q E s
abbrev TI:=St->Hp->(It->Hp->Prop)->Prop
def PIE(X:Cx)(pins:Pq)(σ:St)(tg:Expr)(R:It->Hp->Prop)(itv:Value)(s2:Shared):Prop:=
 ∃(it:Addr) (fp:List Addr) (tn:Nat->Heap->Prop) (J:It) (H':Hp),itv=.ref it/\Inv X pins σ H' s2/\Turn X.prog X.w X.K tg J fp it tn/\tn 0 s2.heap/\(∀b∈fp,FpOk X pins H' b)/\R J H'
def PI(X:Cx)(tg iter:Expr)(wi:TI):Prop:=
 ∀
  (pins:Pq) (s:Shared) (σ:St) (H:Hp) (R:It->Hp->Prop),Inv X pins σ H s->wi σ H R->
  wpAny (model X.prog X.w) X.A (eval iter X.env) (λv s1=>wpAny (model X.prog X.w) X.A (pyIter v) (PIE X pins σ tg R) X.xe s1) X.xe s
def wU(ho:s.heap.get? it=some o)(hc:o.cls=.type n)(hd:o.data=.fields vs)
 (hn:["enumerate", "zip", "dict_itemiterator", "dict_reverseitemiterator", "odict_iterator", "itertools.zip_longest", "itertools.pairwise"].contains n=false) (hQ:Q () s):wpAny M A (letOwnedTupleGo tg (.ref it) u) Q E s:=by
 unfold letOwnedTupleGo;cases tg
  <;> first
  |exact v_ hQ
  |(cases u <;> first
   |exact v_ hQ
   |(
    refine o_ (wpAny_load ho ?_);rw[hc,hd];show wpAny M A (if (["enumerate", "zip", "dict_itemiterator", "dict_reverseitemiterator", "odict_iterator", "itertools.zip_longest", "itertools.pairwise"].contains n&&vs[0]?==some (rawInt _))=true then _ else _) Q E s;rw[if_neg (by intro h;rw[hn,Bool.false_and] at h;cases h)];exact v_ hQ))
noncomputable def Itl (K:W.Frag) (a:Addr):It:=
 ⟨λi H=>∃xs x,SqL K H a xs/\xs[i]?=some x,λi H x H'=>H'=H/\∀xs,SqL K H a xs->xs[i]?=some x,λi H=>∃xs,SqL K H a xs/\xs.length<=i⟩
noncomputable def Itt (K:W.Frag) (a:Addr):It:=
 ⟨λi H=>∃xs x,SqT K H a xs/\xs[i]?=some x,λi H x H'=>H'=H/\∀xs,SqT K H a xs->xs[i]?=some x,λi H=>∃xs,SqT K H a xs/\xs.length<=i⟩
noncomputable def Itr (lo:Int) (n:Nat):It:=⟨λi _=>i<n,λi H x H'=>H'=H/\x=.int (lo+i),λi _=>n<=i⟩
def ym{P:Program}{w:World}{K:W.Frag}{tg:Expr}(a it:Addr):Turn P w K tg (Itl K a) [it] it (λi h=>h.IsListIter it a i) where
 mem:=by simp
 obj:=λi h st b hb=>by
  have e:b=it:=by simpa using hb
  subst e;obtain⟨o,e,c,d⟩:=st;exact⟨o,e,λv z=>by rw[d] at z;cases z⟩
 keep:=λi h h' st k=>st.at λo e=>k it (by simp) o e
 item:=by intro X hP hw hK hc i pins s σ H E I hf st hg;subst hP hw hK;obtain⟨xs,x,hq,hx⟩:=hg;obtain⟨its,rv,p,hz⟩:=I.list hq;obtain⟨u,hu,ru⟩:=rv.get hx;obtain⟨f0,f1,f2,f3,f4,f5⟩:=hf it (by simp);refine wpAny_pyNext_list_item st p.isList (x:=u) (by simpa using hu) λh' st' sb=>?_;have I1:Inv X pins σ H { s with heap:=h' }:=I.turned (t':=s.toks) (λb o hb e=>(sb.2 b hb).trans e) f0 f1 f3 f4 f5;obtain⟨o,e,c,d⟩:=id st';exact⟨u,rfl,wU (s:={ s with heap:=h' }) e c d (by decide) ⟨x,H,I1,ru,⟨rfl,λys hy=>by rw[I.list_inj hy hq];exact hx⟩,st',λb hb=>(hf b hb).1⟩⟩
 done:=by intro X hP hw hK hc i pins s σ H E I hf st hg;subst hP hw hK;obtain⟨xs,hq,hx⟩:=hg;obtain⟨its,rv,p,hz⟩:=I.list hq;obtain⟨f0,f1,f2,f3,f4,f5⟩:=hf it (by simp);have hl:=rv.length;exact wpAny_pyNext_list_end (I.ok.hd hc) st p.isList (by simp;omega) λh' eb=>⟨rfl,I.turned (t':=s.toks) (λb o hb e=>eb b o hb e) f0 f1 f3 f4 f5⟩
 self:=λ_ _ _ _ _ st h=>wpAny_pyIter_listiter st h
def wM{P:Program}{w:World}{K:W.Frag}{tg:Expr}(a it:Addr):Turn P w K tg (Itt K a) [it] it (λi h=>h.IsTupleIter it a i) where
 mem:=by simp
 obj:=λi h st b hb=>by
  have e:b=it:=by simpa using hb
  subst e;obtain⟨o,e,c,d⟩:=st;exact⟨o,e,λv z=>by rw[d] at z;cases z⟩
 keep:=λi h h' st k=>st.at λo e=>k it (by simp) o e
 item:=by intro X hP hw hK hc i pins s σ H E I hf st hg;subst hP hw hK;obtain⟨xs,x,hq,hx⟩:=hg;obtain⟨its,rv,p,hz⟩:=I.tuple hq;obtain⟨u,hu,ru⟩:=rv.get hx;obtain⟨f0,f1,f2,f3,f4,f5⟩:=hf it (by simp);refine wpAny_pyNext_tuple_item st (show s.heap.IsTuple a its.toArray from p) (x:=u) (by simpa using hu) λh' st' sb=>?_;have I1:Inv X pins σ H { s with heap:=h' }:=I.turned (t':=s.toks) (λb o hb e=>(sb.2 b hb).trans e) f0 f1 f3 f4 f5;obtain⟨o,e,c,d⟩:=id st';exact⟨u,rfl,wU (s:={ s with heap:=h' }) e c d (by decide) ⟨x,H,I1,ru,⟨rfl,λys hy=>by rw[I.tuple_inj hy hq];exact hx⟩,st',λb hb=>(hf b hb).1⟩⟩
 done:=by intro X hP hw hK hc i pins s σ H E I hf st hg;subst hP hw hK;obtain⟨xs,hq,hx⟩:=hg;obtain⟨its,rv,p,hz⟩:=I.tuple hq;obtain⟨f0,f1,f2,f3,f4,f5⟩:=hf it (by simp);have hl:=rv.length;exact wpAny_pyNext_tuple_end (I.ok.hd hc) st (show s.heap.IsTuple a its.toArray from p) (by simp;omega) λh' eb=>⟨rfl,I.turned (t':=s.toks) (λb o hb e=>eb b o hb e) f0 f1 f3 f4 f5⟩
 self:=λ_ _ _ _ _ st h=>wpAny_pyIter_tupleiter st h
def xP{P:Program}{w:World}{K:W.Frag}{tg:Expr}(it:Addr)(lo:Int)(n:Nat):Turn P w K tg (Itr lo n) [it] it (λi h=>IsRangeIter h it (lo+(i:Nat)*1) ((n:Int)-(i:Nat)) 1) where
 mem:=by simp
 obj
  := λi h st b hb=>by
  have e:b=it:=by simpa using hb
  subst e;exact⟨_,st,λv z=>by have z':Data.fields _=Data.cell v:=z;cases z'⟩
 keep:=λi h h' st k=>k it (by simp) _ st
 item:=by intro X hP hw hK hc i pins s σ H E I hf st hg;subst hP hw hK;obtain⟨f0,f1,f2,f3,f4,f5⟩:=hf it (by simp);have W:=Walks.range (prog:=X.prog) (w:=X.w) (I.ok.hd hc) it lo 1 n;refine W.item i s _ _ hg st λv h' tk hv st' kk=>?_;obtain⟨t,rfl⟩:=hv;have I1:Inv X pins σ H { s with heap:=h',toks:=tk }:=I.turned (λb o hb e=>kk b o (by simpa using hb) e) f0 f1 f3 f4 f5;refine⟨_,rfl,wU (s:={ s with heap:=h',toks:=tk }) (n:="range_iterator") st' rfl rfl (by decide) ⟨.int (lo+i),H,I1,⟨t,?_⟩,⟨rfl,rfl⟩,st',λb hb=>(hf b hb).1⟩⟩;rw[Int.mul_one]
 done:=by intro X hP hw hK hc i pins s σ H E I hf st hg;subst hP hw hK;obtain⟨f0,f1,f2,f3,f4,f5⟩:=hf it (by simp);exact wpAny_pyNext_range_end (I.ok.hd hc) st (by have:n<=i:=hg;omega) λh' eb=>⟨rfl,I.turned (t':=s.toks) (λb o hb e=>eb b o hb e) f0 f1 f3 f4 f5⟩
 self:=λ_ _ _ _ _ st h=>wpAny_pyIter_rangeiter st h
section
variable{X:Cx}{tg:Expr}
def rn{pins:Pq}{σ:St}{H:Hp}{s:Shared}{R:It->Hp->Prop}{E:Pt}{lo hi:Int}{t u v:Tok}{tk:Nat}(I:Inv X pins σ H s)(h1:-(2^62)<=lo)(h2:lo<2^62)(h3:-(2^62)<=hi)(h4:hi<2^62)
 (q:R (Itr lo (hi-lo).toNat) H):wpAny (model X.prog X.w) X.A (pyIter (.ref s.heap.objs.size)) (PIE X pins σ tg R) E { s with heap:=s.heap.push { cls:=.type "range",data:=.fields #[.int lo t,.int hi u,.int 1 v] },toks:=tk }:=by
 refine wpAny_pyIter_range (IsRange.new ..) (small_one h1 h2 h3 h4) ?_;have I1:Inv X pins σ H { s with heap:=s.heap.push { cls:=.type "range",data:=.fields #[.int lo t,.int hi u,.int 1 v] },toks:=tk }:=I.kept λb o e=>r_ _ e;refine⟨(s.heap.push { cls:=.type "range",data:=.fields #[.int lo t,.int hi u,.int 1 v] }).objs.size,[(s.heap.push { cls:=.type "range",data:=.fields #[.int lo t,.int hi u,.int 1 v] }).objs.size],_,_,H,rfl,
  I1.kept (t':=tk) λb o e=>r_ _ e,xP _ lo (hi-lo).toNat,?_,λb hb=>?_,q⟩
 .have e1:lo+((0:Nat):Int)*1=lo:=by simp
  have e2:(((hi-lo).toNat:Nat):Int)-((0:Nat):Int)=Builtin.Range.rangeSize lo hi 1:=by rw[Pn];split <;> omega
  show IsRangeIter _ _ (lo+((0:Nat):Int)*1) ((((hi-lo).toNat:Nat):Int)-((0:Nat):Int)) 1;rw[e1,e2];exact Em _ rfl
 .have e:b=(s.heap.push { cls:=.type "range",data:=.fields #[.int lo t,.int hi u,.int 1 v] }).objs.size:=by simpa using hb
  subst e;exact I1.fpOk (u_ _) (I1.hok.fresh (u_ _))
def KG(ta:TA):TI:=λσ H R=>ta σ H λvs H1=>∃j:Int,vs=[.int j]/\-(2^62)<=j/\j<2^62/\R (Itr 0 j.toNat) H1
def Mx(ta:TA):TI:=λσ H R=>ta σ H λvs H1=>∃i j:Int,vs=[.int i,.int j]/\(-(2^62)<=i/\i<2^62/\-(2^62)<=j/\j<2^62)/\R (Itr i (j-i).toNat) H1
def Ab(hg:Gl X "range")(hm:X.mg "range"=none)(ha:PA X [a] ta)(hs:starEach [a] X.env=[(false,eval a X.env)]):PI X tg (.Call (.Name "range" p) [a] [] pos) (KG ta):=by
 intro pins s σ H R I h;refine Call_ (cN I hg hm boot_range (MZ (thn (ha pos pins s σ H _ I h) λus s1 zz=>exA zz λvs H1 I1 r1 q1=>?_) hs rfl));obtain⟨j,e,q1,q2,q⟩:=q1;subst e;cases r1 with
 |cons r rr=>cases rr;obtain⟨t,rfl⟩:=r;exact call_range_1 (rn I1 (by omega) (by omega) q1 q2 (by simpa using q))
def yb(hg:Gl X "range")(hm:X.mg "range"=none)(ha:PA X [a,b] ta)(hs:starEach [a,b] X.env=[(false,eval a X.env),(false,eval b X.env)])(hs2:starEach [b] X.env=[(false,eval b X.env)]):
 PI X tg (.Call (.Name "range" p) [a,b] [] pos) (Mx ta):=by
 intro pins s σ H R I h;refine Call_ (cN I hg hm boot_range (MZ (thn (ha pos pins s σ H _ I h) λus s1 zz=>exA zz λvs H1 I1 r1 q1=>?_) (by rw[hs,hs2]) (by rw[hs2];rfl)));obtain⟨i,j,e,⟨q1,q2,q3,q4⟩,q⟩:=q1;subst e;cases r1 with
 |
  cons r rr=>
  cases rr with
  |cons r' rr=>cases rr;obtain⟨t,rfl⟩:=r;obtain⟨t',rfl⟩:=r';exact call_range_2 (rn I1 q1 q2 q3 q4 q)
def tFor(wi:TI)(g:TG)(tb:TS):TS:=λD σ H=>wi σ H λJ H1=>∃W:Nat->Nat->St->Hp->Prop,(∃m,W 0 m σ H1)/\∀i m σ H,W i m σ H->
 (J.stop i H/\D.nx σ H)\/(J.go i H/\∃N:St->Hp->Prop,(∀σ' H',N σ' H'->∃m',m'<m/\W (i+1) m' σ' H')/\∀x H',J.yld i H x H'->g x σ H' λσ2 H2=>tb { D with nx:=N,ct:=N,bk:=D.nx } σ2 H2)
noncomputable def ka (fp:List Addr) (h:Heap):List (Addr×Obj):=fp.filterMap λb=>(h.get? b).map λo=>(b,o)
def gC(hb:b∈fp)(e:h.get? b=some o):(b,o)∈ka fp h:=List.mem_filterMap.mpr ⟨b,hb,by rw[e];rfl⟩
def Ah(hp:p∈ka fp h):p.1∈fp/\h.get? p.1=some p.2:=by
 obtain⟨b,hb,e⟩:=List.mem_filterMap.mp hp;cases q:h.get? b with
 |none=>rw[q] at e;cases e
 |some o=>rw[q] at e;have e':(b,o)=p:=J_ e;subst e';exact⟨hb,q⟩
def Inv.pinned(I:Inv X pins σ H s)(hf:∀b∈fp,FpOk X pins H b)(ho:∀b∈fp,∃o,s.heap.get? b=some o/\∀v,o.data ≠ .cell v):Inv X (pins++ka fp s.heap) σ H s:=
 I.pins_of λp hp=>(Ol.mp hp).elim (λz=>I.pin p (MW _ z)) λz=>by obtain⟨hb,e⟩:=Ah z;obtain⟨f0,f1,f2,_⟩:=hf p.1 hb;obtain⟨o,e',d⟩:=ho p.1 hb;rw[e] at e';cases e';exact⟨e,f0,f1,f2,d⟩
def Inv.unpinned(I:Inv X (pins++pl) σ H s):Inv X pins σ H s:=I.pins_of λp hp=>I.pin p (MW _ (Ox _ hp))
def Jb(hp:PassesOwn (model X.prog X.w) X.A X.env X.xe)(hc:X.calm=true)(hi:PI X tg iter wi)(hg:PG X tg g)(hb:PSs X body tb)
 (hs:∀x,foldedSetIterable iter X.env x=pure x):PS X (.For tg iter body [] pos) (tFor wi g tb):=by
 intro pins s σ H D I h;refine wpAny_For (thn (hi pins s σ H _ I h) λv s1 h1=>thn h1 λitv s2 h2=>?_) hs;obtain⟨it,fp,tn,J,H2,e,I2,T,st2,f2,W,⟨m0,w0⟩,turn⟩:=h2;subst e;have stat:∀{H':Hp},(∀b∈fp,H' b=none)->∀b∈fp,FpOk X pins H' b:=λhn b hb=>⟨hn b hb,(f2 b hb).2⟩;refine codeAny_forLoop_any (λn s'=>∃i σ' H',Inv X pins σ' H' s'/\tn i s'.heap/\(∀b∈fp,H' b=none)/\W i n σ' H') ?_ m0 ⟨0,σ,H2,I2,st2,λb hb=>(f2 b hb).1,w0⟩;rintro n s3 ⟨i,σ3,H3,I3,st3,fr3,w3⟩;rcases turn i n σ3 H3 w3 with ⟨stop,qn⟩ |⟨go,N,hN,step⟩
 .refine N6 hp (thn (T.done X rfl rfl rfl hc i pins s3 σ3 H3 X.xe I3 (stat fr3) st3 stop) λr s4 ⟨hr,I4⟩=>?_);subst hr;exact OJ ⟨σ3,H3,I4,qn⟩
 .refine N6 hp (thn (T.item X rfl rfl rfl hc i pins s3 σ3 H3 X.xe I3 (stat fr3) st3 go) λr s4 ⟨u,hr,h4⟩=>?_);subst hr;refine N6 hp (thn h4 λ_ s5 ⟨x,H5,I5,r5,y5,st5,fr5⟩=>?_);have I5':=I5.pinned (stat fr5) (T.obj _ _ st5);refine N6 hp (thn (hg _ s5 σ3 H5 x u _ I5' r5 (step x H5 y5)) λ_ s6 ⟨σ6,H6,I6,q6⟩=>?_);refine N6 hp (thn (hb _ s6 σ6 H6 _ I6 q6) λf s7 q7=>?_);have again:∀{σ7:St}{H7:Hp},Inv X (pins++ka fp s5.heap) σ7 H7 s7->N σ7 H7->∃m,m<n/\∃i σ' H',Inv X pins σ' H' s7/\tn i s7.heap/\(∀b∈fp,H' b=none)/\W i m σ' H':=λ{σ7 H7} I7 n7=>by obtain⟨m',hm,w7⟩:=hN σ7 H7 n7;refine⟨m',hm,i+1,σ7,H7,I7.unpinned,T.keep _ _ _ st5 λb hb o e=>(I7.pin (b,o) (MW _ (MW _ (gC hb e)))).1,λb hb=>?_,w7⟩;obtain⟨o,e,d⟩:=T.obj _ _ st5 b hb;exact (I7.pin (b,o) (MW _ (MW _ (gC hb e)))).2.1
  cases f with
  |next=>obtain⟨σ7,H7,I7,n7⟩:=q7;exact again I7 n7
  |cont=>obtain⟨σ7,H7,I7,n7⟩:=q7;exact again I7 n7
  |brk=>obtain⟨σ7,H7,I7,q7⟩:=q7;exact⟨σ7,H7,I7.unpinned,q7⟩
  |ret v=>obtain⟨x7,σ7,H7,I7,r7,q7⟩:=q7;exact⟨x7,σ7,H7,I7.unpinned,r7,q7⟩
end
abbrev R2:=V->V->Hp->VK->Prop
def OpR(X:Cx)(f:Value->Value->Sem Value)(r:R2):Prop:=
 ∀
  (pins:Pq) (s:Shared) (σ:St) (H:Hp) (x y:V) (v u:Value) (Q:VK),Inv X pins σ H s->RelV x v->RelV y u->r x y H Q->
  wpAny (model X.prog X.w) X.A (f v u) (EP X pins σ Q) X.xe s
def UnR(X:Cx)(f:Value->Sem Value)(r:V->Hp->VK->Prop):Prop:=
 ∀
  (pins:Pq) (s:Shared) (σ:St) (H:Hp) (x:V) (v:Value) (Q:VK),Inv X pins σ H s->RelV x v->r x H Q->
  wpAny (model X.prog X.w) X.A (f v) (EP X pins σ Q) X.xe s
def CallR(X:Cx)(f:Value)(r:List V->Hp->VK->Prop):Prop:=
 ∀
  (pins:Pq) (s:Shared) (σ:St) (H:Hp) (xs:List V) (us:List Value) (Q:VK),Inv X pins σ H s->Vals xs us->r xs H Q->
  wpAny (model X.prog X.w) X.A (call f us) (EP X pins σ Q) X.xe s
def TruR(X:Cx)(r:V->Hp->(Bool->Hp->Prop)->Prop):Prop:=
 ∀
  (pins:Pq) (s:Shared) (σ:St) (H:Hp) (x:V) (v:Value) (Q:Bool->Hp->Prop),Inv X pins σ H s->RelV x v->r x H Q->
  wpAny (model X.prog X.w) X.A (truthy v) (TP X pins σ Q) X.xe s
def tOp(r:R2)(ta tb:TE):TE:=λσ H Q=>ta σ H λx H1=>tb σ H1 λy H2=>r x y H2 Q
def tUn(r:V->Hp->VK->Prop)(ta:TE):TE:=λσ H Q=>ta σ H λx H1=>r x H1 Q
def rI(C:Int->Int->Prop)(g:Int->Int->V):R2:=λx y H Q=>∃i j,x=.int i/\y=.int j/\C i j/\Q (g i j) H
def rI0(g:Int->Int->V):R2:=λx y H Q=>∃i j,x=.int i/\y=.int j/\Q (g i j) H
def rU(g:Int->V):V->Hp->VK->Prop:=λx H Q=>∃i,x=.int i/\Q (g i) H
section
variable{X:Cx}{a b:Expr}{ta tb:TE}{pos:Pos}
def BL(ha:PE X a ta)(hb:PE X b tb){pins:Pq}{s:Shared}{σ:St}{H:Hp}{R:V->V->Hp->Prop}(I:Inv X pins σ H s)
 (h:ta σ H λx H1=>tb σ H1 λy H2=>R x y H2) {Q:Pt}{f:Value->Value->Sem Value}
 (hf:∀v u s2 x y H2,Inv X pins σ H2 s2->RelV x v->RelV y u->R x y H2->wpAny (model X.prog X.w) X.A (f v u) Q X.xe s2):
 wpAny (model X.prog X.w) X.A (eval a X.env) (λv s₁=>wpAny (model X.prog X.w) X.A (eval b X.env) (λu s₂=>wpAny (model X.prog X.w) X.A (f v u) Q X.xe s₂) X.xe s₁) X.xe s:=by
 refine thn (ha pins s σ H _ I h) λv s1 zz=>exA zz λx H1 I1 r1 q1=>?_;refine thn (hb pins s1 σ H1 _ I1 q1) λu s2 zz=>exA zz λy H2 I2 r2 q2=>?_;exact hf v u s2 x y H2 I2 r1 r2 q2
def K2(ho:OpR X (binaryOp op) r)(ha:PE X a ta)(hb:PE X b tb):PE X (.BinOp a op b pos) (tOp r ta tb):=by intro pins s σ H Q I h;exact wpAny_BinOp (BL ha hb I h λv u s2 x y H2 I2 rx ry q=>ho pins s2 σ H2 x y v u Q I2 rx ry q)
def L8(ho:UnR X (unaryOp op) r)(ha:PE X a ta):PE X (.UnaryOp op a pos) (tUn r ta):=by intro pins s σ H Q I h;exact UnaryOp_ (thn (ha pins s σ H _ I h) λv s1 zz=>exA zz λx H1 I1 r1 q1=>ho pins s1 σ H1 x v Q I1 r1 q1)
def opI{f:Value->Value->Sem Value}{C:Int->Int->Prop}{g:Int->Int->Int}
 (rule:∀(i j:Int) (t u:Tok) (s:Shared) (Q:Pt) (E:Pt),C i j->Q (.int (g i j) s.toks) { s with toks:=s.toks+1 }->wpAny (model X.prog X.w) X.A (f (.int i t) (.int j u)) Q E s):
 OpR X f (rI C λi j=>.int (g i j)):=by
 intro pins s σ H x y v u Q I rx ry h;obtain⟨i,j,rfl,rfl,hc,q⟩:=h;obtain⟨t,rfl⟩:=rx;obtain⟨t',rfl⟩:=ry;exact rule i j t t' s _ _ hc ⟨.int (g i j),H,I.tok _,⟨_,rfl⟩,q⟩
def opI0{f:Value->Value->Sem Value}{g:Int->Int->Int}
 (rule:∀(i j:Int) (t u:Tok) (s:Shared) (Q:Pt) (E:Pt),Q (.int (g i j) s.toks) { s with toks:=s.toks+1 }->wpAny (model X.prog X.w) X.A (f (.int i t) (.int j u)) Q E s):
 OpR X f (rI0 λi j=>.int (g i j)):=by
 intro pins s σ H x y v u Q I rx ry h;obtain⟨i,j,rfl,rfl,q⟩:=h;obtain⟨t,rfl⟩:=rx;obtain⟨t',rfl⟩:=ry;exact rule i j t t' s _ _ ⟨.int (g i j),H,I.tok _,⟨_,rfl⟩,q⟩
def Ay{f:Value->Value->Sem Value}{g:Int->Int->Bool}
 (rule:∀(i j:Int) (t u:Tok) (s:Shared) (Q:Pt) (E:Pt),Q (.bool (g i j)) s->wpAny (model X.prog X.w) X.A (f (.int i t) (.int j u)) Q E s):
 OpR X f (rI0 λi j=>.bl (g i j)):=by
 intro pins s σ H x y v u Q I rx ry h;obtain⟨i,j,rfl,rfl,q⟩:=h;obtain⟨t,rfl⟩:=rx;obtain⟨t',rfl⟩:=ry;exact rule i j t t' s _ _ ⟨.bl (g i j),H,I,rfl,q⟩
def wa(i j:Int):Prop:=0<=j/\j<=1000000/\i.natAbs<2^64
def CMul(i j:Int):Prop:=(-(2^64)<i/\i<2^64)\/(-(2^64)<j/\j<2^64)
def CMul.ok(h:CMul i j):IntMulOk i j:=by
 rcases h with ⟨h1,h2⟩ |⟨h1,h2⟩
 .exact .of_left (intBits_le_64 h1 h2)
 .exact .of_right (intBits_le_64 h1 h2)
def GO:OpR X (binaryOp .Add) (rI0 λi j=>.int (i+j)):=opI0 λ_ _ _ _ _ _ _ q=>add_int q
def HG:OpR X (binaryOp .Sub) (rI0 λi j=>.int (i-j)):=opI0 λ_ _ _ _ _ _ _ q=>sub_int q
def IJ:OpR X (binaryOp .Mult) (rI CMul λi j=>.int (i*j)):=opI λ_ _ _ _ _ _ _ hc q=>mul_int q hc.ok
def Fz:OpR X (binaryOp .Mod) (rI (λ_ j=>j≠0) λi j=>.int (i.fmod j)):=opI λ_ _ _ _ _ _ _ hc q=>mod_int' hc q
def Jx:OpR X (binaryOp .Pow) (rI wa λi j=>.int (i^j.toNat)):=opI λ_ _ _ _ _ _ _ hc q=>pow_int_small hc.1 hc.2.1 hc.2.2 q
def unI{f:Value->Sem Value}{g:Int->Int}
 (rule:∀(i:Int) (t:Tok) (s:Shared) (Q:Pt) (E:Pt),Q (.int (g i) s.toks) { s with toks:=s.toks+1 }->wpAny (model X.prog X.w) X.A (f (.int i t)) Q E s):
 UnR X f (rU λi=>.int (g i)):=by
 intro pins s σ H x v Q I rx h;obtain⟨i,rfl,q⟩:=h;obtain⟨t,rfl⟩:=rx;exact rule i t s _ _ ⟨.int (g i),H,I.tok _,⟨_,rfl⟩,q⟩
def JF:UnR X (unaryOp .USub) (rU λi=>.int (-i)):=unI λ_ _ _ _ _ q=>neg_int q
end
section
variable{X:Cx}{a b c:Expr}{ta tb:TE}{pos:Pos}
def tM(I:Inv X pins σ H s)(q:Q (.bl k) H)(e:k=k'):EP X pins σ Q (.bool k') s:=by subst e;exact⟨.bl k,H,I,rfl,q⟩
def DX:OpR X (compareOp .Lt) (rI0 λi j=>.bl (decide (i<j))):=Ay λ_ _ _ _ _ _ _ q=>lt_int q
def DD:OpR X (compareOp .Gt) (rI0 λi j=>.bl (decide (j<i))):=Ay λ_ _ _ _ _ _ _ q=>gt_int q
def DZ:OpR X (compareOp .GtE) (rI0 λi j=>.bl (decide (j<=i))):=Ay λ_ _ _ _ _ _ _ q=>ge_int q
def Hi:OpR X (compareOp .Is) (λx y H Q=>y=.non/\Q (.bl (decide (x=.non))) H):=by
 intro pins s σ H x y v u Q I rx ry h;obtain⟨rfl,q⟩:=h;cases ry;refine is_none_gen (tM I q ?_);cases x <;> first
  |(cases rx;rfl)
  |(obtain⟨t,rfl⟩:=rx;rfl)
def OpR.or(h:OpR X f r)(h':OpR X f r'):OpR X f (λx y H Q=>r x y H Q\/r' x y H Q):=by
 intro pins s σ H x y v u Q I rx ry q;rcases q with q |q
 .exact h pins s σ H x y v u Q I rx ry q
 .exact h' pins s σ H x y v u Q I rx ry q
def zB(b:Expr)(h:op ≠ .In:=by decide)(h2:op ≠ .NotIn:=by decide):behindInMarks op b=false:=by
 have e1:(op==CmpOp.In)=false:=by cases op <;> first |rfl |exact absurd rfl h
 have e2:(op==CmpOp.NotIn)=false:=by cases op <;> first |rfl |exact absurd rfl h2
 cases b <;> simp [behindInMarks,e1,e2]
def Fu(ho:OpR X (compareOp op) r)(ha:PE X a ta)(hb:PE X b tb)(hm:behindInMarks op b=false):PE X (.Compare a [op] [b] pos) (tOp r ta tb):=by intro pins s σ H Q I h;exact wpAny_Compare1 (BL ha hb I h λv u s2 x y H2 I2 rx ry q=>ho pins s2 σ H2 x y v u Q I2 rx ry q) hm
def Kw(t:TE):TT:=λσ H Q=>t σ H λx H'=>∃k,x=.bl k/\Q k H'
def Fd(ho:OpR X (compareOp op) r)(ha:PE X a ta)(hb:PE X b tb)(hm:behindInMarks op b=false):PT X (.Compare a [op] [b] pos) (Kw (tOp r ta tb)):=by
 intro pins s σ H Q I h;refine wpAny_isTrue_Compare1 (thn (ha pins s σ H _ I h) λv s1 zz=>exA zz λx H1 I1 r1 q1=>thn (hb pins s1 σ H1 _ I1 q1) λu s2 zz=>exA zz λy H2 I2 r2 q2=>
  thn (ho pins s2 σ H2 x y v u _ I2 r1 r2 q2) λc s3 ⟨z,H3,I3,r3,k,e,q3⟩=>?_) hm
 subst e;cases r3;exact N_ ⟨H3,I3,q3⟩
def Cd(K:W.Frag)(x:V)(H:Hp)(k:Bool):Prop:=
 match x with
 |.non=>k=false
 |.bl b=>k=b
 |.int i=>k=(i != 0)
 |.str y=>y.length<=sizeLine/\k=((y.length:Int) != 0)
 |.byt y=>y.size<=sizeLine/\k=((y.size:Int) != 0)
 |.ref p=>(∃xs,SqL K H p xs/\k=!xs.isEmpty)\/(∃xs,SqT K H p xs/\k=!xs.isEmpty)\/∃kvs,H p=some (.dK kvs)/\k=!kvs.isEmpty
 |_=>False
def wj(r:KV kvs vs):(!vs.isEmpty)=!kvs.isEmpty:=by cases r <;> rfl
def nh(r:Vals xs its):(!its.toArray.isEmpty)=!xs.isEmpty:=by cases r <;> simp
def gU:(sizeLine:Nat)<2^63:=by rw[sizeLine_eq];decide
def GJ:TruR X (λx H Q=>∃k,Cd X.K x H k/\Q k H):=by
 intro pins s σ H x v Q I rx h;obtain⟨k,e,q⟩:=h;have hl:=gU;have hs:sizeLine=16777216:=sizeLine_eq;cases x with
 |non=>cases rx;have e':k=false:=e;subst e';exact truthy_none ⟨H,I,q⟩
 |bl b=>cases rx;have e':k=b:=e;subst e';exact N_ ⟨H,I,q⟩
 |int i=>obtain⟨t,rfl⟩:=rx;have e':k=(i != 0):=e;subst e';exact PySem.P.truthy_int ⟨H,I,q⟩
 |str y=>obtain⟨t,rfl⟩:=rx;obtain⟨hy,e'⟩:y.length<=sizeLine/\k=((y.length:Int) != 0):=e;subst e';exact PySem.P.truthy_str (by omega) ⟨H,I.tok _,q⟩
 |byt y=>obtain⟨t,rfl⟩:=rx;obtain⟨hy,e'⟩:y.size<=sizeLine/\k=((y.size:Int) != 0):=e;subst e';exact W.truthy_bytes (by omega) ⟨H,I.tok _,q⟩
 |
  ref p=>
  cases rx;have e':(∃xs,SqL X.K H p xs/\k=!xs.isEmpty)\/(∃xs,SqT X.K H p xs/\k=!xs.isEmpty)\/∃kvs,H p=some (.dK kvs)/\k=!kvs.isEmpty:=e;rcases e' with ⟨xs,hx,e'⟩ |⟨xs,hx,e'⟩ |⟨kvs,hx,e'⟩
  .subst e';obtain⟨its,r,pl,hz⟩:=I.list hx;have a_:=r.length;exact wpAny_truthy_list pl.isList (by simp only[y_];omega) ⟨H,I.tok _,by rw[nh r];exact q⟩
  .subst e';obtain⟨its,r,pl,hz⟩:=I.tuple hx;have a_:=r.length;exact truthy_tuple pl (by simp only[y_];omega) ⟨H,I.tok _,by rw[nh r];exact q⟩
  .subst e';obtain⟨hz,hS,vs,r,m⟩:kvs.length<=sizeLine/\(p==sysModules)=false/\∃vs,KV kvs vs/\s.heap.DictOf (b0 X.prog X.w) p vs:=I.hok p _ hx;have a_:kvs.length=vs.length:=Pl r;exact wpAny_truthy_dict hS m (by omega) ⟨H,I.tok _,by rw[wj r];exact q⟩
 |_=>exact (show False from e).elim
def AW(ha:PE X a ta)(he:∀e_,isTrue a X.env e_=(do let v <- e_;standAt a.pos;holding [v] (truthy v))):
 PT X a (λσ H Q=>ta σ H λx H'=>∃k,Cd X.K x H' k/\Q k H'):=by
 intro pins s σ H Q I h;exact isTrue_plain (thn (ha pins s σ H _ I h) λv s1 zz=>exA zz λx H1 I1 r1 q1=>GJ pins s1 σ H1 x v Q I1 r1 q1) (he _)
def eS(r:Vals [x] us):∃u,us=[u]/\RelV x u:=by
 cases r with
 |cons r1 r2=>cases r2;exact⟨_,rfl,r1⟩
def qE(r:Vals [x,y] us):∃u w',us=[u,w']/\RelV x u/\RelV y w':=by
 cases r with
 |
  cons r1 r2=>
  cases r2 with
  |cons r3 r4=>cases r4;exact⟨_,_,rfl,r1,r3⟩
def Cu:CallR X (.builtin "abs") (λxs H Q=>∃i,xs=[.int i]/\Q (.int (if i<0 then -i else i)) H):=by intro pins s σ H xs us Q I r h;obtain⟨i,rfl,q⟩:=h;obtain⟨u,rfl,t,rfl⟩:=eS r;exact call_abs_int λu tk=>⟨.int (if i<0 then -i else i),H,I.tok _,⟨_,rfl⟩,q⟩
def zp(hc:X.calm=true):CallR X (.builtin "max") (λxs H Q=>∃i j,xs=[.int i,.int j]/\Q (.int (if j>i then j else i)) H):=by
 intro pins s σ H xs us Q I r h;obtain⟨i,j,rfl,q⟩:=h;obtain⟨u,w',rfl,⟨t,rfl⟩,⟨t',rfl⟩⟩:=qE r;refine max_two_ints (I.ok.hd hc) λh' tk k=>⟨_,H,I.kept k,?_,q⟩;by_cases hj:j>i
 .rw[if_pos hj,if_pos hj];exact⟨_,rfl⟩
 .rw[if_neg hj,if_neg hj];exact⟨_,rfl⟩
def zu(hc:X.calm=true):CallR X (.builtin "min") (λxs H Q=>∃i j,xs=[.int i,.int j]/\Q (.int (if j<i then j else i)) H):=by
 intro pins s σ H xs us Q I r h;obtain⟨i,j,rfl,q⟩:=h;obtain⟨u,w',rfl,⟨t,rfl⟩,⟨t',rfl⟩⟩:=qE r;refine min_two_ints (I.ok.hd hc) λh' tk k=>⟨_,H,I.kept k,?_,q⟩;by_cases hj:j<i
 .rw[if_pos hj,if_pos hj];exact⟨_,rfl⟩
 .rw[if_neg hj,if_neg hj];exact⟨_,rfl⟩
def zr:CallR X (.type "int") (λxs H Q=>(∃i,xs=[.int i]/\Q (.int i) H)\/∃k,xs=[.bl k]/\Q (.int (if k then 1 else 0)) H):=by
 intro pins s σ H xs us Q I r h;rcases h with ⟨i,rfl,q⟩ |⟨k,rfl,q⟩
 .obtain⟨u,rfl,t,rfl⟩:=eS r;exact call_int_int ⟨.int i,H,I,⟨_,rfl⟩,q⟩
 .obtain⟨u,rfl,r1⟩:=eS r;cases r1;exact call_int_bool ⟨.int (if k then 1 else 0),H,I.tok _,⟨_,rfl⟩,q⟩
end
structure ObjM(h:Heap)(x dx C:Addr)(mA:Pp):Prop where
 obj:h.get? x=some (W.instObj C dx)
 ns:h.Ns1 dx mA
 ne:dx≠x
def Ac{h:Heap}{dx:Addr}{mA:Pp}(n:h.Ns1 dx mA):∃od,h.get? dx=some od/\∀name,W.lookIn name od=some (mA name):=by
 obtain⟨o,es,ep,ho,hd,hk,_,hm⟩:=n;refine⟨o,ho,λname=>?_⟩;have e:=hm name;unfold nsFind findBy at e;rw[<- Array.find?_toList] at e;unfold W.lookIn;rw[hd];dsimp only;split
 .rename_i y q;rw[q] at e;exact MK some e
 .rename_i q;rw[q] at e;have a:es.toList.any (·.refKey)=false:=by rw[List.any_eq_false];intro y hy;obtain⟨z,t,hkey⟩:=hk y (Array.mem_toList_iff.mp hy);simp [DictEntry.refKey,hkey]
  have a':¬ es.toList.any (·.refKey)=true:=by rw[a];exact w_
  rw[if_neg a'];exact MK some e
def ObjM.look(I:ObjM h x dx C mA):∃od,W.InstAt h x (W.instObj C dx) C (some od)/\∀name,W.lookIn name od=some (mA name):=
 let ⟨od,ho,hl⟩:=Ac I.ns
 ⟨od,⟨I.obj,rfl,rfl,ho⟩,hl⟩
def RelO.some_of(r:RelO (some v) o):∃u,o=some u/\RelV v u:=by
 cases o with
 |none=>exact (show False from r).elim
 |some u=>exact⟨u,rfl,r⟩
section
variable{P:Program}{w:World}{H:Hp}{h:Heap}{a C dx:Addr}{fs:List (Str×V)}
def EB(hok:HOk P w H h)(e:H a=some (.ins C dx fs)):∃mA,ObjM h a dx C mA/\(∀f,RelO (fs.lookup f) (mA f))/\PySem.Within mA (fs.map (·.1))/\fs.length<=1000/\H dx=some (.own a):=by obtain⟨d,z,ne,ob,mA,n,r,q⟩:=(show ObjOk P w H h a (.ins C dx fs) from hok a _ e);exact⟨mA,⟨ob,n,ne⟩,r,q,z,d⟩
end
structure Cls(K:W.Frag)(C:Addr):Prop where
 pg:W.plainGet K C Str.empty=true
 hd:W.hasDictIn K C=true
 po:W.plainOver K C=true
 sa:W.findIn K (.ref C) "__setattr__"=some (some (.builtin "object.__setattr__"))
def Cls.get{K:W.Frag}{C:Addr}(c:Cls K C)(f:Str):W.plainGet K C f=true:=c.pg
section
variable{H:Hp}
inductive TyOf(K:W.Frag)(H:Hp):V->Value->Prop where
 |non:TyOf K H .non (.type "NoneType")
 |bl (x:Bool):TyOf K H (.bl x) (.type "bool")
 |int (i:Int):TyOf K H (.int i) (.type "int")
 |str (x:Str):TyOf K H (.str x) (.type "str")
 |flt (x:UInt64):TyOf K H (.flt x) (.type "float")
 |lst {a:Addr}{xs:List V} (e:H a=some (.lst xs)):TyOf K H (.ref a) (.type "list")
 |frz {a:Addr}{o:Obj}{xs:List V} (e:H a=some (.frz o (.lst xs))):TyOf K H (.ref a) (.type "list")
 |tup {a:Addr}{xs:List V} (e:H a=some (.tup xs)):TyOf K H (.ref a) (.type "tuple")
 |dK {a:Addr}{kvs:List (Key×V)} (e:H a=some (.dK kvs)):TyOf K H (.ref a) (.type "dict")
 |dT {a:Addr}{kvs:List (List Key×V)} (e:H a=some (.dT kvs)):TyOf K H (.ref a) (.type "dict")
 |ins {a C dx:Addr}{fs:List (Str×V)} (e:H a=some (.ins C dx fs)) (cl:Cls K C) (ha:W.findIn K (.ref C) "__class__"=some (some (.builtin "object.__class__")))
  (hn:W.specialIn K (.builtin "object.__class__") "__get__"=some (some (.builtin "getset_descriptor.__get__"))) (htk:W.takesIn K (.builtin "object.__class__")=some true)
  (hm:W.mroIn K C (.type "object")=some true):TyOf K H (.ref a) (.ref C)
end
structure Room(k:Nat)(A:Around):Prop where
 hd:A.handled=none
 dp:A.depth+3*k+5<recursionLimit
 un:A.units+16*k+200<cLine
 gd:A.guards=some []
def Room.mono(r:Room k A)(h:j<=k):Room j A:=⟨r.hd,by have:=r.dp;omega,by have:=r.un;omega,r.gd⟩
def Room.deeper(r:Room (k+1) A)(env:Env):Room k (A.deeper env):=
 ⟨r.hd,by have:=r.dp;show A.depth+1+3*k+5<_;omega,by have:=r.un;show A.units+3+16*k+200<_;omega,r.gd⟩
def Room.depth(r:Room k A):A.depth<recursionLimit:=by have:=r.dp;omega
def Room.units(r:Room k A):A.units+64<cLine:=by have:=r.un;omega
def tNil:TA:=λ_ H Q=>Q [] H
def KU(ta:TE)(tr:TA):TA:=λσ H Q=>ta σ H λx H1=>tr σ H1 λxs H2=>Q (x::xs) H2
section
variable{X:Cx}{e:Expr}{es:List Expr}{te:TE}{t:TA}{pos:Pos}
def J2:PA X [] tNil:=λ_ _ _ _ H Q I h=>Oq ⟨[],H,I,.nil,h⟩
def E4(ha:PE X e te)(hr:PA X es t)(hs:starEach (e::es) X.env=(false,eval e X.env)::starEach es X.env):PA X (e::es) (KU te t):=by intro pos pins s σ H Q I h;rw[hs];show wpAny _ _ (spliced ((false,eval e X.env)::backTo pos (starEach es X.env))) _ _ s;refine NY (thn (ha pins s σ H _ I h) λu s1 zz=>exA zz λx H1 I1 r1 q1=>?_);exact thn (hr pos pins s1 σ H1 _ I1 q1) λus s2 zz=>exA zz λxs H2 I2 r2 q2=>⟨x::xs,H2,I2,.cons r1 r2,q2⟩
def tTup(t:TA):TE:=λσ H Q=>t σ H λxs H1=>xs.length<=sizeLine/\∀p,H1 p=none->Q (.ref p) (upd H1 p (.tup xs))
def tLst(t:TA):TE:=λσ H Q=>t σ H λxs H1=>xs.length<=sizeLine/\∀p,H1 p=none->Q (.ref p) (upd H1 p (.lst xs))
def Jn{x1}(h:PA X es t):PE X (.Tuple es x1 pos) (tTup t):=by intro pins s σ H Q I hq;refine wpAny_Tuple_spliced (thn (h pos pins s σ H _ I hq) λus s1 ⟨xs,H1,I1,r,z,q⟩=>⟨by rw[<- r.length];exact z,?_⟩);have hf:H1 s1.heap.objs.size=none:=I1.hok.fresh (u_ _);refine⟨.ref s1.heap.objs.size,upd H1 s1.heap.objs.size (.tup xs),I1.laid (t':=s1.toks) (λb u e=>r_ _ e) (u_ _) ?_,rfl,q _ hf⟩;exact⟨z,us,r,⟨_,Em _ rfl,rfl,_,rfl⟩⟩
def Io(h:PA X es t):PE X (.List es pos) (tLst t):=by intro pins s σ H Q I hq;refine wpAny_List_spliced (thn (h pos pins s σ H _ I hq) λus s1 ⟨xs,H1,I1,r,z,q⟩=>⟨by rw[<- r.length];exact z,?_⟩);have hf:H1 s1.heap.objs.size=none:=I1.hok.fresh (u_ _);refine⟨.ref s1.heap.objs.size,upd H1 s1.heap.objs.size (.lst xs),I1.laid (t':=s1.toks) (λb u e=>r_ _ e) (u_ _) ?_,rfl,q _ hf⟩;exact⟨z,us,0,r,Em _ rfl⟩
end
abbrev Sp:=List V->Hp->VK->XK->Prop
abbrev CXT:=List Env->Hp->Shared->XK->Value->Shared->Prop
structure Env0(P:Program)(w:World)(K:W.Frag)(mg:Pp)(base:Heap)(A:Around)(outer:List Env)(s:Shared)(H:Hp):Prop where
 frames:A.frames=some outer
 mod:Mod K mg base
 bs:∀b o,base.get? b=some o->s.heap.get? b=some o/\H b=none
 bsz:base.objs.size<=s.heap.objs.size
 funs:s.heap.FunFrames base outer
 frf:∀b∈frs outer,H b=none
 hok:HOk P w H s.heap
 bare:AllBare s.gens
def CE(outer:List Env)(P:Program)(w:World)(H:Hp)(s:Shared)(Q:VK)(u:Value)(s':Shared):Prop:=
 ∃v H',s'.os=s.os/\AllBare s'.gens/\Un (frs outer) [] H H' s.heap s'.heap/\HOk P w H' s'.heap/\RelV v u/\Q v H'
def CR(CX:CXT)(outer:List Env)(P:Program)(w:World)(H:Hp)(s:Shared)(Q:VK)(E:XK)(r:Result)(s':Shared):Prop:=
 match r with
 |.ok (.ret u)=>CE outer P w H s Q u s'
 |.ok _=>False
 |.error e=>CX outer H s E e s'
structure FnOk(P:Program)(w:World)(K:W.Frag)(mg:Pp)(base:Heap)(CX:CXT)(k:Nat)(f:Addr)(fd:FuncData)(ps:List Str)(sp:Sp):Prop where
 len:∀vs H Q E,sp vs H Q E->vs.length=ps.length
 run:∀(A:Around) (outer:List Env) (s:Shared) (H:Hp) (args:Args) (us:List Value) (vs:List V) (Q:VK) (E:XK),Room k A->Env0 P w K mg base A outer s H->BindsTo s fd args (ps.zip us)->Vals vs us->sp vs H Q E->
  codeAny (model P w) A (.call (.ref f) args) (CR CX outer P w H s Q E) s
def FnOk.imp{P:Program}{w:World}{K:W.Frag}{mg:Pp}{base:Heap}{CX:CXT}{k:Nat}{f:Addr}{fd:FuncData}{ps:List Str}{sp sp':Sp}(F:FnOk P w K mg base CX k f fd ps sp)
 (h:∀vs H Q E,sp' vs H Q E->sp vs H Q E):FnOk P w K mg base CX k f fd ps sp':=
 ⟨λvs H Q E q=>F.len vs H Q E (h _ _ _ _ q),λA outer s H args us vs Q E hr he hb hv hs=>F.run A outer s H args us vs Q E hr he hb hv (h _ _ _ _ hs)⟩
section
variable{X:Cx}{pins:Pq}{σ:St}{H:Hp}{s s':Shared}
def Inv.env0(I:Inv X pins σ H s):Env0 X.prog X.w X.K X.mg X.base X.A X.stack s H:=
 ⟨I.ok.frames,I.ok.mod,I.bs,MV I.ok.bsz I.sz,I.stack,I.stkFree,I.hok,I.bare⟩
def Inv.after(I:Inv X pins σ H s)(h:CE X.stack X.prog X.w H s Q u s'):EP X pins σ Q u s':=by obtain⟨v,H',os,bare,un,hok,r,q⟩:=h;obtain⟨hh,g,d,t,os'⟩:=s';obtain rfl:os'=s.os:=os;exact⟨v,H',I.call (h':=hh) (g':=g) (d':=d) (t':=t) (ch:=[]) un hok bare (λb z=>absurd z (by simp)),r,q⟩
end
def Binds(K:W.Frag)(fd:FuncData)(ps:List Str)(ds:List Value):Prop:=
 ∀(s:Shared) (us:List Value),K.In s.heap->(us++ds).length=ps.length->BindsTo s fd ⟨us,[]⟩ (ps.zip (us++ds))
def Binds.all{K:W.Frag}{fd:FuncData}{ps:List Str}(h:∀us:List Value,us.length=ps.length->bindArgs fd ⟨us,[]⟩=pure (ps.zip us)):Binds K fd ps []:=λs us _ hl=>by rw[M8] at hl ⊢;exact .of_eq (h us hl)
def sM(CX:CXT)(X:Cx)(E:XK):Prop:=∀(pins:Pq) (σ:St) (H:Hp) (s:Shared) (e:Value) (s':Shared),Inv X pins σ H s->CX X.stack H s E e s'->X.xe e s'
structure FnScope(N P:List Str)(sc:Scope):Prop where
 kind:sc.kind=.function
 co:sc.isCoroutine=false
 gen:sc.isGenerator=false
 nd:N.Nodup
 pre:N.take P.length=P
 par:∀x∈P,sc.names.lookup x=some .local\/sc.names.lookup x=some .cell
 nofree:∀y∈sc.names,y.2 ≠ .free
theorem pq{kindOf:Str->Option NameKind}{x:Str}:∀{binds:List (Str×Value)}{m:Pp},(∀v,(x,v)∉binds)->bindL kindOf binds m x=m x
 | [],_,_=>rfl
 |
  (n,v)::r,m,h=>by
  unfold bindL;rw[pq λw hw=>h w (q_ _ hw)];split
  .have:x≠n:=by rintro rfl;exact h v s_
   simp [this]
  .rfl
theorem pE{kindOf:Str->Option NameKind}{x:Str}:∀{binds:List (Str×Value)}{m:Pp},(∀v,(x,v)∉binds)->bindC kindOf binds m x=m x
 | [],_,_=>rfl
 |
  (n,v)::r,m,h=>by
  unfold bindC;rw[pE λw hw=>h w (q_ _ hw)];split
  .rfl
  .have:x≠n:=by rintro rfl;exact h v s_
   simp [this]
theorem pA{kindOf:Str->Option NameKind}{x:Str}{v:Value}:∀{P:List Str}{vs:List Value}{i:Nat}{m:Pp},P.Nodup->P[i]?=some x->vs[i]?=some v->kindOf x=some .local->
 bindL kindOf (P.zip vs) m x=some v
 | [],_,_,_,_,h,_,_=>by simp at h
 |_::_,[],_,_,_,_,h,_=>by simp at h
 |
  p::P,w::vs,0,m,nd,h1,h2,hk=>by
  simp at h1 h2;subst h1;subst h2;show bindL kindOf ((p,w)::P.zip vs) m p=_;unfold bindL;rw[pq λv hv=>(Om.mp nd).1 (OH hv).1,if_pos hk];simp
 |
  p::P,w::vs,i+1,m,nd,h1,h2,hk=>by
  show bindL kindOf ((p,w)::P.zip vs) m x=_;unfold bindL;exact pA (i:=i) (Om.mp nd).2 (by simpa using h1) (by simpa using h2) hk
theorem pf{kindOf:Str->Option NameKind}{x:Str}{v:Value}:∀{P:List Str}{vs:List Value}{i:Nat}{m:Pp},P.Nodup->P[i]?=some x->vs[i]?=some v->kindOf x≠some .local->
 bindC kindOf (P.zip vs) m x=some v
 | [],_,_,_,_,h,_,_=>by simp at h
 |_::_,[],_,_,_,_,h,_=>by simp at h
 |
  p::P,w::vs,0,m,nd,h1,h2,hk=>by
  simp at h1 h2;subst h1;subst h2;show bindC kindOf ((p,w)::P.zip vs) m p=_;unfold bindC;rw[pE λv hv=>(Om.mp nd).1 (OH hv).1,if_neg hk];simp
 |
  p::P,w::vs,i+1,m,nd,h1,h2,hk=>by
  show bindC kindOf ((p,w)::P.zip vs) m x=_;unfold bindC;exact pf (i:=i) (Om.mp nd).2 (by simpa using h1) (by simpa using h2) hk
noncomputable def f6 (N:List Str) (vs:List V):St:=vs.map some++List.replicate (N.length-vs.length) none
noncomputable def eJ (CX:CXT) (P:Program) (w:World) (K:W.Frag) (mg:Pp) (base:Heap) (N:List Str) (qual:Str) (scope:Scope) (f:Addr) (cd:Value) (A:Around) (outer:List Env) (s:Shared) (H:Hp) (E:XK):Cx where
 prog:=P
 w:=w
 K:=K
 mg:=mg
 base:=base
 A:=A.deeper (envOfC qual scope s.heap.objs.size f cd)
 N:=N
 s₀:=s
 H₀:=H
 env:=envOfC qual scope s.heap.objs.size f cd
 outer:=outer
 stack:=envOfC qual scope s.heap.objs.size f cd::outer
 ex:=[]
 calm:=true
 fn:=λ_=>true
 pn:=[]
 xe:=λe s'=>wpAny (model P w) (A.deeper (envOfC qual scope s.heap.objs.size f cd)) (leaving (envOfC qual scope s.heap.objs.size f cd) e) (λ_ s''=>CX outer H s E e s'') (λe' s''=>CX outer H s E e' s'') s'
def si{sc:Scope}{n:Nat}{x:Str}(h:sc.names.lookup x=some .cell):∃c,(cellsFrom n sc.names []).lookup x=some c:=by have q:=W.cellsFrom_some sc.names n [] (.inl h);exact Nu.mp q
def z9{CX:CXT}{P:Program}{w:World}{K:W.Frag}{mg:Pp}{base:Heap}{N ps:List Str}{qual:Str}{scope:Scope}{f:Addr}{cd:Value}{A:Around}{outer:List Env}{s s1:Shared}{H:Hp}{E:XK}{us:List Value}{vs:List V}
 (S:FnScope N ps scope) (hd:A.handled=none) (e0:Env0 P w K mg base A outer s H) (hl:vs.length=ps.length) (r:Vals vs us)
 (x:InCallC s s.heap.objs.size (bindL (envOfC qual scope s.heap.objs.size f cd).kindOf (ps.zip us) λ_=>none) (cellsFrom (s.heap.objs.size+1) scope.names []) (bindC (envOfC qual scope s.heap.objs.size f cd).kindOf (ps.zip us) λ_=>none) s1):
 Inv (eJ CX P w K mg base N qual scope f cd A outer s H E) [] (f6 N vs) H s1:=by
 have hpl:ps.length<=N.length:=by have:=MK List.length S.pre;rw[Nd] at this;omega
 obtain⟨h1,tk,rfl,hk⟩:=x.done;have noA:∀b:Addr,b∉(eJ CX P w K mg base N qual scope f cd A outer s H E).ex:=λb z=>absurd (show b∈([]:List Addr) from z) (by simp);refine⟨⟨e0.mod,S.kind,rfl,rfl,u_ _,λy z c h1 h2=>?_,λy hy=>?_,λy c _ h=>?_,λ_=>hd,Around.frames_deeper e0.frames,.inr ⟨rfl,rfl⟩,λb z=>absurd z (noA b),e0.bs,e0.bsz,λb _ _=>noA b,λb z=>absurd z (noA b),e0.funs,e0.frf⟩,
  rfl,e0.bare,Un.kept hk,⟨_,x.toInCall.ns,λi y v h1 h2 h3=>?_⟩,λy c h=>⟨_,x.cell y c h⟩,e0.hok.fresh (u_ _),λy c h=>?_,λp hp=>absurd (show p∈([]:Pq) from hp) (by simp),e0.hok.kept hk,?_⟩
 .exact name_of_addr x.apart (NB h1) (NB h2)
 .have hy:scope.names.lookup y=some .cell\/scope.names.lookup y=some .free:=hy;rcases hy with hy |hy
  .exact si hy
  .exact absurd rfl (S.nofree _ (NB hy))
 .exact Ou (x.above y c (NB h))
 .have hi:i<vs.length:=by
   unfold f6 at h2;by_cases hi:i<vs.length
   .exact hi
   .rw[N8 (by simpa using hi)] at h2;rw[Ny] at h2;split at h2 <;> cases h2
  have ha:vs[i]?=some v:=by
   unfold f6 at h2;rw[M5 (by simpa using hi),MQ] at h2;cases e:vs[i]? with
   |none=>rw[e] at h2;cases h2
   |some a=>rw[e] at h2;cases h2;rfl
  obtain⟨u,hu,rv⟩:=r.get ha;have hp:ps[i]?=some y:=by rw[<- S.pre,List.getElem?_take_of_lt (by omega)];exact h1
  have ndP:ps.Nodup:=by rw[<- S.pre];exact S.nd.sublist (List.take_sublist _ _)
  refine⟨u,rv,?_⟩;rcases S.par y (Oy hp) with k |k
  .exact .inl ⟨k,pA ndP hp hu k⟩
  .obtain⟨c,e⟩:=si (n:=s.heap.objs.size+1) k;refine .inr ⟨.inl k,c,e,?_⟩;have q:=x.cell y c e;rw[pf ndP hp hu (by show scope.names.lookup y≠_;rw[k];decide)] at q;exact q
 .exact e0.hok.fresh (Ou (x.above y c (NB h)))
 .unfold f6;show _=N.length;rw[L_,p_,N4];omega
def Dr{CX:CXT}{P:Program}{w:World}{K:W.Frag}{mg:Pp}{base:Heap}{k:Nat}{f:Addr}{name qual:Str}{params:Arguments}{body:List Stmt}{scope:Scope}{dV kV doc pm cdv ct oc:Value}{an od:Option Addr}
 {osl:Array (Option Value)}{N ps:List Str}{sp:Sp} (lk:K.lookup f=some ⟨oc,od,.func (W.fnOf name qual params body scope dV kV doc pm an cdv ct),osl⟩) (k_:W.codeIn K cdv qual=true) (S:FnScope N ps scope)
 (len:∀vs H Q E,sp vs H Q E->vs.length=ps.length)
 (j_:∀(A:Around) (outer:List Env) (s:Shared) (H:Hp) (vs:List V) (Q:VK) (E:XK),Room k (A.deeper (envOfC qual scope s.heap.objs.size f cdv))->sp vs H Q E->
  ∃t,PSs (eJ CX P w K mg base N qual scope f cdv A outer s H E) body t/\t { nx:=λ_ H'=>Q .non H',rt:=Q } (f6 N vs) H):
 FnOk P w K mg base CX (k+1) f (W.fnOf name qual params body scope dV kV doc pm an cdv ct) ps sp:=by
 refine⟨len,λA outer s H args us vs Q E hr e0 hb r hsp=>?_⟩;have hl:=len _ _ _ _ hsp;have KX:K.In s.heap:=e0.mod.kin.keeps λb o e=>(e0.bs b o e).1;have lim:s.heap.NoLimit:=e0.mod.nolimit.keeps λb o e=>(e0.bs b o e).1;have hkind:∀y∈ps.zip us,scope.names.lookup y.1=some .local\/(scope.names.lookup y.1=some .cell/\((cellsFrom (s.heap.objs.size+1) scope.names []).lookup y.1).isSome=true):=λ⟨n,v⟩ hy=>by
  rcases S.par n (OH hy).1 with q |q
  .exact .inl q
  .exact .inr ⟨q,W.cellsFrom_some _ _ _ (.inl q)⟩
 refine codeAny_call_function hr.depth (KX _ _ lk) rfl S.co S.gen rfl (W.codeRec_of KX k_) (hb _ _ _ _ ?_);refine wpAny_newFunctionEnv_cells S.kind hkind λenv he s1 x=>?_;subst he;refine⟨lim.keeps x.toInCall.keep,codeAny_func ?_⟩;obtain⟨t,ht,hq⟩:=j_ A outer s H vs Q E (hr.deeper _) hsp;have I:Inv (eJ CX P w K mg base N qual scope f cdv A outer s H E) [] (f6 N vs) H s1:=z9 S hr.hd e0 hl r x;refine MU (ht [] s1 (f6 N vs) H _ I hq) (λfl s' hs=>?_) λe s' hs=>hs;have d_:∀{σ':St}{H':Hp}{v:V}{u:Value},Inv (eJ CX P w K mg base N qual scope f cdv A outer s H E) [] σ' H' s'->RelV v u->Q v H'->CE outer P w H s Q u s':=
  λ{σ' H' v u} J rv q=>⟨v,H',J.os,J.bare,J.base,J.hok,rv,q⟩
 cases fl with
 |ret u=>obtain⟨v,σ',H',J,rv,q⟩:=hs;exact d_ J rv q
 |next=>obtain⟨σ',H',J,q⟩:=hs;exact d_ (v:=V.non) (u:=Value.none) J rfl q
 |brk=>obtain⟨_,_,_,q⟩:=hs;exact False.elim q
 |cont=>obtain⟨_,_,_,q⟩:=hs;exact False.elim q
section
variable{X:Cx}{x:Str}{p pos:Pos}{e:Expr}{es:List Expr}{t:TA}{id T:String}{r:List V->Hp->VK->Prop}
def tCB(r:List V->Hp->VK->Prop)(t:TA):TE:=λσ H Q=>t σ H λvs H1=>r vs H1 Q
def BJ(hc:CallR X (.builtin id) r)(hg:Gl X x)(hm:X.mg x=none)(hv:bootBuiltins x=some (.builtin id))(ha:PA X (e::es) t)(hn:x ≠ "__name__")(hdb:(x==("__debug__" : Str))=false)
 (he:starEach (e::es) X.env=(false,eval e X.env)::starEach es X.env) (hpl:(backTo pos (starEach es X.env)).any (·.1)=false):PE X (.Call (.Name x p) (e::es) [] pos) (tCB r t):=by
 intro pins s σ H Q I h;refine M6 (cN I hg hm hv ?_ hn hdb);exact PyProof.Rows.callWith_builtin1 (thn (ha pos pins s σ H _ I h) λus s1 zz=>exA zz λvs H1 I1 r1 q1=>hc pins s1 σ H1 vs us Q I1 r1 q1) he hpl
def ye(hc:CallR X (.type T) r)(hg:Gl X x)(hm:X.mg x=none)(hv:bootBuiltins x=some (.type T))(ha:PA X (e::es) t)(hn:x ≠ "__name__")(hdb:(x==("__debug__" : Str))=false)
 (he:starEach (e::es) X.env=(false,eval e X.env)::starEach es X.env) (hpl:(backTo pos (starEach es X.env)).any (·.1)=false):PE X (.Call (.Name x p) (e::es) [] pos) (tCB r t):=by
 intro pins s σ H Q I h;refine M6 (cN I hg hm hv ?_ hn hdb);exact MZ (thn (ha pos pins s σ H _ I h) λus s1 zz=>exA zz λvs H1 I1 r1 q1=>hc pins s1 σ H1 vs us Q I1 r1 q1) he hpl
def v7(hc:CallR X (.type T) r)(hg:Gl X x)(hm:X.mg x=none)(hv:bootBuiltins x=some (.type T))(hn:x ≠ "__name__")(hdb:(x==("__debug__" : Str))=false):
 PE X (.Call (.Name x p) [] [] pos) (tCB r tNil):=by
 intro pins s σ H Q I h;refine M6 (cN I hg hm hv ?_ hn hdb);exact PyProof.Rows.callWith_type0 (hc pins s σ H [] [] Q I .nil h)
end
end L2
namespace HT
open PySem PyProof.Rows
section
variable{prog:Program}{w:World}{A:Around}{E:Pt}{s:Shared}
def cat_tup(ht:IsTup s.heap t vs.toArray)(hb:IsTup s.heap b ws.toArray)(hv:vs≠[])
 (h1:ws=[]->Q (.ref t) s) (h2:ws≠[]->Q (.ref s.heap.objs.size) { s with heap:=s.heap.push { cls:=.type "tuple",data:=.seq (vs++ws).toArray } })
 (hsz:vs.length+ws.length<=sizeLine):wpAny (model prog w) A (binaryOp .Add (.ref t) (.ref b)) Q E s:=by
 obtain⟨⟨cls,dd,data,sl⟩,ho,hc,n,hd⟩:=id ht;obtain⟨⟨cls2,dd2,data2,sl2⟩,ho2,hc2,n2,hd2⟩:=id hb;simp only at hc hd hc2 hd2;subst hc hd hc2 hd2;have e:vs.toArray++ws.toArray=(vs++ws).toArray:=by simp
 by_cases hw:ws=[]
 .exact concat_meets ⟨_,ho,rfl⟩ ⟨_,ho2,rfl⟩ noFill_tuple_add seq_tuple_add OU OQ (ON _ _)
   (tuple_addW1 t b vs.toArray ws.toArray n n2 dd dd2 sl sl2 (by simpa using hv) (by simp [hw])) ⟨ho,ho2,h1 hw⟩
 .refine concat_meets ⟨_,ho,rfl⟩ ⟨_,ho2,rfl⟩ noFill_tuple_add seq_tuple_add OU OQ (ON _ _)
   (tuple_addW2 t b vs.toArray ws.toArray n n2 dd dd2 sl sl2 (by simpa using hv) (by simpa using hw) (by rw[y_,y_];exact hsz)) ⟨ho,ho2,?_⟩
  rw[e];exact h2 hw
noncomputable def sIx (n d:Nat):Option Int->Nat
 |none=>d
 |some v=>if v<0 then (v+(n:Int)).toNat else min v.toNat n
def sIx_none(n d:Nat):sIx n d none=d:=rfl
def sIx_nat(n d k:Nat):sIx n d (some (k:Int))=min k n:=by show (if (k:Int)<0 then ((k:Int)+(n:Int)).toNat else min (k:Int).toNat n)=min k n;rw[if_neg (by omega),Nb]
def HQ(n d:Nat)(hd:d<=n)(o:Option Int):sIx n d o<=n:=by
 cases o with
 |none=>exact hd
 |
  some v=>
  show (if v<0 then (v+(n:Int)).toNat else min v.toNat n)<=n;by_cases hv:v<0
  .rw[if_pos hv];omega
  .rw[if_neg hv];exact Nat.min_le_right _ _
def u5(v:Int)(n d:Nat):(if v<0 then max (v+(n:Int)) 0 else min v (n:Int))=((sIx n d (some v):Nat):Int):=by
 show (if v<0 then max (v+(n:Int)) 0 else min v (n:Int))=(((if v<0 then (v+(n:Int)).toNat else min v.toNat n):Nat):Int);by_cases hv:v<0
 .simp only[if_pos hv];omega
 .simp only[if_neg hv];omega
def w6(lo hi:Option Int)(n:Nat):Builtin.Slice.sliceAdjust lo hi 1 (n:Int)=(((sIx n 0 lo:Nat):Int),((sIx n n hi:Nat):Int)):=by
 have h1:¬ ((1:Int)<0):=by omega
 unfold Builtin.Slice.sliceAdjust;simp only[h1,OO];refine Prod.ext ?_ ?_
 .cases lo with
  |none=>rfl
  |some v=>exact u5 v n 0
 .cases hi with
  |none=>rfl
  |some v=>exact u5 v n n
def v8(i j:Nat):Builtin.Slice.slicePlaces (i:Int) (j:Int) 1=j-i:=by
 unfold Builtin.Slice.slicePlaces;have h1:(1:Int)>0:=by omega
 simp only[h1,Od,Int.ediv_one];split <;> omega
def mM(p:IsPart v o)(h:Q o s):wpAny (model prog w) A (Builtin.Slice.slicePartIndex v) Q E s:=by
 cases p with
 |none=>exact slicePart_none h
 |int i t=>exact slicePart_int h
def iu{sl:Addr}{vl vu:Value}{lo hi:Option Int}{n:Nat}{Q:Int×Int×Nat->Shared->Prop}(hs:s.heap.IsSliceOf sl vl vu .none)(pl:IsPart vl lo)(pu:IsPart vu hi)
 (h:Q (((sIx n 0 lo:Nat):Int),1,sIx n n hi-sIx n 0 lo) s):wpAny (model prog w) A (Builtin.Slice.sliceApplied (.ref sl) (pure (n:Int))) Q E s:=by
 obtain⟨os,hos,hcs,hds⟩:=id hs;unfold Builtin.Slice.sliceApplied Builtin.Slice.sliceFields;refine o_ (o_ (Nh hos hds (x:=vl) rfl (o_ (Nh hos hds (x:=vu) rfl (o_ (Nh hos hds (x:=.none) rfl (v_ ?_)))))));refine o_ (slicePart_none ?_);show wpAny _ _ (if ((1:Int)==0)=true then _ else _) _ _ s;rw[if_neg (by decide)];refine o_ (mM pl (o_ (mM pu (o_ (v_ ?_)))));show wpAny _ _ (match Builtin.Slice.sliceAdjust lo hi 1 (n:Int) with |(lo,hi)=>pure (lo,(1:Int),Builtin.Slice.slicePlaces lo hi 1)) _ _ s;rw[w6 lo hi n];show wpAny _ _ (pure (((sIx n 0 lo:Nat):Int),(1:Int),Builtin.Slice.slicePlaces ((sIx n 0 lo:Nat):Int) ((sIx n n hi:Nat):Int) 1)) _ _ s;rw[v8];exact v_ h
def Ap(xs:Array Value)(i k:Nat):((List.range k).filterMap λ(m:Nat)=>xs[((i:Int)+(m:Int)*1).toNat]?).toArray=((xs.toList.drop i).take k).toArray:=by
 have e:(λ(m:Nat)=>xs[((i:Int)+(m:Int)*1).toNat]?)=λm=>xs[i+m]?:=by
  funext m;have:((i:Int)+(m:Int)*1).toNat=i+m:=by omega
  rw[this]
 rw[e]
 have:=pick_run xs i k
 rw[List.filterMap_map] at this;have e2:((λx=>xs[x]?) ∘ λx=>i+x)=λm=>xs[i+m]?:=rfl;rw[e2] at this;rw[this]
def getItem_tuple_cut{t sl:Addr}{items:Array Value}{vl vu:Value}{lo hi:Option Int}{Q:Pt}(ht:IsTup s.heap t items)(hs:s.heap.IsSliceOf sl vl vu .none)(pl:IsPart vl lo)(pu:IsPart vu hi)
 (hw:¬ (sIx items.size 0 lo=0/\sIx items.size items.size hi=items.size))
 (h:Q (.ref s.heap.objs.size) { s with heap:=s.heap.push { cls:=.type "tuple",data:=.seq ((items.toList.drop (sIx items.size 0 lo)).take (sIx items.size items.size hi-sIx items.size 0 lo)).toArray } })
 (hsz:items.size<=sizeLine):wpAny (model prog w) A (getItem (.ref t) (.ref sl)) Q E s:=by
 have htake:sizeOk (.seq ((items.toList.drop (sIx items.size 0 lo)).take (sIx items.size items.size hi-sIx items.size 0 lo)).toArray):=by show ((items.toList.drop (sIx items.size 0 lo)).take (sIx items.size items.size hi-sIx items.size 0 lo)).toArray.size<=sizeLine;rw[y_,Nd,Oe,M_];omega
 have hj:sIx items.size items.size hi<=items.size:=HQ _ _ (u_ _) hi;obtain⟨os,hos,hcs,hds⟩:=id hs;have hTs:s.TypeIs (.ref sl) "slice":=⟨os,hos,hcs⟩;unfold getItem;try with_reducible refine Nl ?_
 first |refine o_ (v_ ?_) |skip
 refine o_ (wpAny_sequenceKey ht.typeIs (by decide) ?_);refine o_ (Nz (name:=Str.ofString "__getitem__") ht.typeIs NK
  (Of NK ht.typeIs entry_tuple_getitem ?_ (args_tuple_getitem _ _)))
 show wpAny _ _ (Builtin.Tuple.tupleItemsOf (.ref t) >>= _) _ _ s;refine o_ (tupleItemsOf_ ht ?_);refine o_ (wpAny_typeOf hTs ?_);rw[if_pos (by decide)];refine o_ (iu hs pl pu ?_);have hno:¬ ((((sIx items.size 0 lo:Nat):Int)==0&&(1:Int)==1&&(sIx items.size items.size hi-sIx items.size 0 lo)==items.size)=true):=by intro q;rw[t_,t_] at q;have q1:((sIx items.size 0 lo:Nat):Int)=0:=eq_of_beq q.1.1;have q2:sIx items.size items.size hi-sIx items.size 0 lo=items.size:=eq_of_beq q.2;exact hw ⟨by omega,by omega⟩
 show wpAny _ _ (if (((sIx items.size 0 lo:Nat):Int)==0&&(1:Int)==1&&(sIx items.size items.size hi-sIx items.size 0 lo)==items.size)=true then _ else _) _ _ s;rw[if_neg hno,Ap];first
  |exact o_ (m:=Builtin.Tuple.tupleExact _) (Nq (v_ ⟨_,rfl,v_ h⟩) htake)
  |exact o_ (m:=Builtin.Tuple.tupleExact _) (Nq (o_ (v_ (v_ ⟨_,rfl,v_ h⟩))) htake)
  |exact o_ (o_ (m:=Builtin.Tuple.tupleExact _) (Nq (v_ (v_ ⟨_,rfl,v_ h⟩)) htake))
  |exact o_ (o_ (m:=Builtin.Tuple.tupleExact _) (Nq (v_ ⟨_,rfl,v_ h⟩) htake))
end
end HT
namespace L2
open PySem PySem.Spec PyProof.Rows
abbrev TO:=St->Hp->(Option Int->Hp->Prop)->Prop
def PO(X:Cx)(e:Option Expr)(t:TO):Prop:=
 ∀
  (pins:Pq) (s:Shared) (σ:St) (H:Hp) (Q:Option Int->Hp->Prop),Inv X pins σ H s->t σ H Q->
  wpAny (model X.prog X.w) X.A (evalPart e X.env) (λu s'=>∃o H',Inv X pins σ H' s'/\IsPart u o/\Q o H') X.xe s
def FZ:TO:=λ_ H Q=>Q none H
def Kg(t:TE):TO:=λσ H Q=>t σ H λx H1=>∃i,x=.int i/\Q (some i) H1
section
variable{X:Cx}{e:Expr}{te:TE}{lo hi:Option Expr}{tl th:TO}{pos p2:Pos}
def E6:PO X none FZ:=by intro pins s σ H Q I h;rw[evalPart_none];exact v_ ⟨none,H,I,.none,h⟩
def E7(h:PE X e te):PO X (some e) (Kg te):=by intro pins s σ H Q I hw;rw[evalPart_some];refine thn (h pins s σ H _ I hw) λu s1 zz=>exA zz λx H1 I1 r1 q1=>?_;obtain⟨i,rfl,q⟩:=q1;obtain⟨t,rfl⟩:=r1;exact⟨some i,H1,I1,.int i t,q⟩
def SlR(X:Cx)(r:V->Option Int->Option Int->Hp->VK->Prop):Prop:=
 ∀
  (pins:Pq) (s:Shared) (σ:St) (H:Hp) (x:V) (v vl vu:Value) (lo hi:Option Int) (sl:Addr) (Q:VK),Inv X pins σ H s->RelV x v->s.heap.IsSliceOf sl vl vu .none->IsPart vl lo->IsPart vu hi->r x lo hi H Q->
  ∃T id,typeLookup (.type T) "__getitem__"=pure (some (.builtin id))/\s.TypeIs v T/\wpAny (model X.prog X.w) X.A (getItem v (.ref sl)) (EP X pins σ Q) X.xe s
def SlR.or(h:SlR X r)(h':SlR X r'):SlR X (λx lo hi H Q=>r x lo hi H Q\/r' x lo hi H Q):=by
 intro pins s σ H x v vl vu lo hi sl Q I rx hs pl pu q;rcases q with q |q
 .exact h pins s σ H x v vl vu lo hi sl Q I rx hs pl pu q
 .exact h' pins s σ H x v vl vu lo hi sl Q I rx hs pl pu q
def tSl(r:V->Option Int->Option Int->Hp->VK->Prop)(te:TE)(tl th:TO):TE:=λσ H Q=>te σ H λx H1=>tl σ H1 λl H2=>th σ H2 λu H3=>r x l u H3 Q
def BR(hr:SlR X r)(he:PE X e te)(hl:PO X lo tl)(hu:PO X hi th):PE X (.Subscript e (.Slice lo hi none p2) pos) (tSl r te tl th):=by intro pins s σ H Q I h;refine Subscript_ (thn (he pins s σ H _ I h) λv s1 zz=>exA zz λx H1 I1 r1 q1=>?_);refine wpAny_Slice (thn (hl pins s1 σ H1 _ I1 q1) λvl s2 ⟨l,H2,I2,pl,q2⟩=>thn (hu pins s2 σ H2 _ I2 q2) λvu s3 ⟨u,H3,I3,pu,q3⟩=>?_);rw[evalPart_none];refine v_ ?_;have I4:Inv X pins σ H3 { s3 with heap:=s3.heap.push { cls:=.type "slice",data:=.fields #[vl,vu,.none] } }:=I3.kept (t':=s3.toks) λb ob q=>r_ _ q;obtain⟨T,id,hT,ht,hg⟩:=hr pins { s3 with heap:=s3.heap.push { cls:=.type "slice",data:=.fields #[vl,vu,.none] } } σ H3 x v vl vu l u s3.heap.objs.size Q I4 r1 (Heap.IsSliceOf.new ..) pl pu q3;show wpAny (model X.prog X.w) X.A (subscriptTail e (.Slice lo hi none p2) v (.ref s3.heap.objs.size)) (EP X pins σ Q) X.xe { s3 with heap:=s3.heap.push { cls:=.type "slice",data:=.fields #[vl,vu,.none] } };exact tail_any (ops:=[.ref s3.heap.objs.size,v]) ht hT hg (by with_unfolding_all rfl)
noncomputable def kd (xs:List V) (lo hi:Option Int):List V:=(xs.drop (HT.sIx xs.length 0 lo)).take (HT.sIx xs.length xs.length hi-HT.sIx xs.length 0 lo)
def lF(xs:List V)(lo hi:Option Int):(kd xs lo hi).length<=xs.length:=by unfold kd;rw[Nd,Oe];omega
def xC(K:W.Frag):V->Option Int->Option Int->Hp->VK->Prop:=λx lo hi H Q=>∃a xs,x=.ref a/\SqT K H a xs/\
 ¬ (HT.sIx xs.length 0 lo=0/\HT.sIx xs.length xs.length hi=xs.length)/\∀p,H p=none->Q (.ref p) (upd H p (.tup (kd xs lo hi)))
def IE:SlR X (xC X.K):=by
 intro pins s σ H x v vl vu lo hi sl Q I rx hs pl pu h;obtain⟨a,xs,rfl,hx,hw,q⟩:=h;cases rx;obtain⟨its,r,ht,hz⟩:=I.tuple hx;have a_:its.toArray.size=xs.length:=by rw[y_];exact r.length.symm
 refine⟨"tuple",_,PyProof.Rows.slot_tuple_getitem.lookup,ht.typeIs,?_⟩;refine HT.getItem_tuple_cut ht hs pl pu (by rw[a_];exact hw) ?_ (by rw[a_];exact hz);rw[a_];refine⟨.ref s.heap.objs.size,_,I.laid (t':=s.toks) (o:=.tup (kd xs lo hi)) (λb ob q=>r_ _ q) (u_ _) ?_,rfl,q _ (I.hok.fresh (u_ _))⟩;exact⟨MV (lF xs lo hi) hz,_,(r.drop (HT.sIx xs.length 0 lo)).take (HT.sIx xs.length xs.length hi-HT.sIx xs.length 0 lo),IsTup.new _ _⟩
def mL(K:W.Frag):R2:=λx y H Q=>∃a b xs ys,x=.ref a/\y=.ref b/\SqT K H a xs/\SqT K H b ys/\xs≠[]/\xs.length+ys.length<=sizeLine/\
 (ys=[]->Q (.ref a) H)/\(ys≠[]->∀p,H p=none->Q (.ref p) (upd H p (.tup (xs++ys))))
def Vals.nil_iff(r:Vals xs us):us=[] ↔ xs=[]:=by
 cases r with
 |nil=>simp
 |cons _ _=>simp
def Fl:OpR X (binaryOp .Add) (mL X.K):=by intro pins s σ H x y v u Q I rx ry h;obtain⟨a,b,xs,ys,rfl,rfl,ha,hb,hx,hz,q1,q2⟩:=h;cases rx;cases ry;obtain⟨its,r1,p1,_⟩:=I.tuple ha;obtain⟨its2,r2,p2,_⟩:=I.tuple hb;refine HT.cat_tup p1 p2 (λz=>hx (r1.nil_iff.mp z)) (λz=>⟨.ref a,H,I,rfl,q1 (r2.nil_iff.mp z)⟩) (λz=>?_) (by rw[<- r1.length,<- r2.length];exact hz);refine⟨.ref s.heap.objs.size,_,I.laid (t':=s.toks) (o:=.tup (xs++ys)) (λb ob q=>r_ _ q) (u_ _) ?_,rfl,q2 (λw=>z (r2.nil_iff.mpr w)) _ (I.hok.fresh (u_ _))⟩;exact⟨by rw[L_];exact hz,_,r1.append r2,IsTup.new _ _⟩
end
noncomputable def ixN (n:Nat) (i:Int):Option Nat:=if 0<=i then (if i<n then some i.toNat else none) else if -(n:Int)<=i then some (i+n).toNat else none
noncomputable def atI {α:Type} (xs:List α) (i:Int):Option α:=(ixN xs.length i).bind λj=>xs[j]?
def uR(h:ixN n i=some j):seqIndex? i n=some j/\j<n/\-(n:Int)<=i/\i<n:=by
 unfold ixN at h;by_cases h0:0<=i
 .rw[if_pos h0] at h;by_cases h1:i<n
  .rw[if_pos h1] at h;have e:i.toNat=j:=J_ h;exact⟨by rw[seqIndex_of h0 h1,e],by omega,by omega,h1⟩
  .rw[if_neg h1] at h;cases h
 .rw[if_neg h0] at h;by_cases h1:-(n:Int)<=i
  .rw[if_pos h1] at h;have e:(i+n).toNat=j:=J_ h;exact⟨by rw[seqIndex_neg (by omega) h1,e],by omega,h1,by omega⟩
  .rw[if_neg h1] at h;cases h
def vI(h:atI xs i=some v):∃j,seqIndex? i xs.length=some j/\xs[j]?=some v/\j<xs.length/\-(xs.length:Int)<=i/\i<xs.length:=by
 unfold atI at h;cases e:ixN xs.length i with
 |none=>rw[e] at h;cases h
 |some j=>rw[e] at h;obtain⟨h1,h2,h3,h4⟩:=uR e;exact⟨j,h1,h,h2,h3,h4⟩
def vZ(b:Expr):Prop:=∀o i,subscripted b false o i=operate [o,i] (getItem o i)
def IxR(X:Cx)(r:R2):Prop:=
 ∀
  (value slice:Expr) (pins:Pq) (s:Shared) (σ:St) (H:Hp) (x y:V) (v u:Value) (Q:VK),Inv X pins σ H s->RelV x v->RelV y u->r x y H Q->
  subscripted slice false v u=operate [v,u] (getItem v u)->wpAny (model X.prog X.w) X.A (subscriptTail value slice v u) (EP X pins σ Q) X.xe s
def MtR(X:Cx)(id:String)(r:V->List V->Hp->VK->Prop):Prop:=
 ∀
  (pins:Pq) (s:Shared) (σ:St) (H:Hp) (x:V) (xs:List V) (v:Value) (us:List Value) (Q:VK),Inv X pins σ H s->RelV x v->Vals xs us->r x xs H Q->
  wpAny (model X.prog X.w) X.A (call (.builtin id) (v::us)) (EP X pins σ Q) X.xe s
section
variable{X:Cx}{a b:Expr}{ta tb:TE}{pos:Pos}
def IxR.or(h:IxR X r)(h':IxR X r'):IxR X (λx y H Q=>r x y H Q\/r' x y H Q):=by
 intro value slice pins s σ H x y v u Q I rx ry q hs;rcases q with q |q
 .exact h value slice pins s σ H x y v u Q I rx ry q hs
 .exact h' value slice pins s σ H x y v u Q I rx ry q hs
def Kk(hr:IxR X r)(ha:PE X a ta)(hb:PE X b tb)(hs:vZ b):PE X (.Subscript a b pos) (tOp r ta tb):=by intro pins s σ H Q I h;exact Subscript_ (BL ha hb I h λv u s2 x y H2 I2 rx ry q=>hr a b pins s2 σ H2 x y v u Q I2 rx ry q (hs _ _))
def Bt(K:W.Frag):R2:=λx y H Q=>∃p xs i v,x=.ref p/\y=.int i/\SqL K H p xs/\atI xs i=some v/\Q v H
def Ao(K:W.Frag):R2:=λx y H Q=>∃p xs i v,x=.ref p/\y=.int i/\SqT K H p xs/\atI xs i=some v/\Q v H
def EO:IxR X (Bt X.K):=by
 intro value slice pins s σ H x y v u Q I rx ry h hs;obtain⟨p,xs,i,z,rfl,rfl,hq,he,q⟩:=h;cases rx;obtain⟨t,rfl⟩:=ry;obtain⟨its,r,pl,hz⟩:=I.list hq;obtain⟨j,h1,h2,h3,h4,h5⟩:=vI he;obtain⟨w,ew,rw'⟩:=r.get h2;have hl:=r.length;have hn:=gU;have d_:EP X pins σ Q w s:=⟨z,H,I,rw',q⟩;by_cases h0:0<=i
 .have hj:i.toNat=j:=by rw[seqIndex_of h0 h5] at h1;exact J_ h1
  exact item_listR pl.isList h0 (by omega) (by rw[hj];simpa using ew) d_ hs
 .have hj:(i+(its.toArray.size:Int)).toNat=j:=by rw[seqIndex_neg (by omega) h4] at h1;rw[y_,<- hl];exact J_ h1
  exact subscriptTail_builtinR (x:=w) pl.isList.typeIs slot_list_getitem.lookup
   (wpAny_getItem_list_neg (Q:=λr s'=>r=w/\EP X pins σ Q r s') pl.isList (by omega) (by rw[y_] <;> omega) (by omega) (by rw[hj];simpa using ew) ⟨rfl,d_⟩) hs
def F7:IxR X (Ao X.K):=by
 intro value slice pins s σ H x y v u Q I rx ry h hs;obtain⟨p,xs,i,z,rfl,rfl,hq,he,q⟩:=h;cases rx;obtain⟨t,rfl⟩:=ry;obtain⟨its,r,pl,hz⟩:=I.tuple hq;obtain⟨j,h1,h2,h3,h4,h5⟩:=vI he;obtain⟨w,ew,rw'⟩:=r.get h2;have hl:=r.length;have hn:=gU;have d_:EP X pins σ Q w s:=⟨z,H,I,rw',q⟩;exact subscriptTail_builtinR (x:=w) pl.typeIs slot_tuple_getitem.lookup
  (getItem_tuple (j:=j) (Q:=λr s'=>r=w/\EP X pins σ Q r s') pl (by omega) (by omega) (by rw[y_,<- hl];exact h1) (by simpa using ew) ⟨rfl,d_⟩) hs
def wZ(its:List Value)(n j:Nat)(u:Value):Obj.mapSeq (·.setIfInBounds j u) { cls:=.type "list",data:=.seq its.toArray n }={ cls:=.type "list",data:=.seq (its.set j u).toArray n }:=by simp [Obj.mapSeq]
def Inv.lst(I:Inv X pins σ H s)(h:H p=some (.lst xs)):
 ∃(its:List Value) (n:Nat),Vals xs its/\s.heap.get? p=some { cls:=.type "list",data:=.seq its.toArray n }/\xs.length<=sizeLine:=by
 obtain⟨z,its,n,r,e⟩:=I.hok p _ h;exact⟨its,n,r,e,z⟩
def Inv.lstUpd{pins:Pq}{σ:St}{H:Hp}{s:Shared}{p:Addr}{xs ys:List V}{its its':List Value}{n n':Nat}{f:Obj->Obj}(I:Inv X pins σ H s)(h:H p=some (.lst xs))
 (ho:s.heap.get? p=some { cls:=.type "list",data:=.seq its.toArray n }) (hf:f { cls:=.type "list",data:=.seq its.toArray n }={ cls:=.type "list",data:=.seq its'.toArray n' }) (r:Vals ys its') (hz:ys.length<=sizeLine) (t:Nat):
 Inv X pins σ (upd H p (.lst ys)) { s with heap:=s.heap.update p f,toks:=t }:=by
 have e:(s.heap.update p f).get? p=some { cls:=.type "list",data:=.seq its'.toArray n' }:=by rw[Heap.get?_update_self f ho (by rw[hf] <;> rfl),hf]
 refine I.write (x:=p) (e:=p) (by rw[h];trivial) (.inl rfl) (λb u hb q=>(OS _ _ (Ne.symm hb)).trans q) ⟨_,e⟩ ?_;exact⟨hz,its',n',r,e⟩
def DR:V->V->V->Hp->(Hp->Prop)->Prop:=λo i v H Q=>∃p xs k j,o=.ref p/\i=.int k/\H p=some (.lst xs)/\ixN xs.length k=some j/\Q (upd H p (.lst (xs.set j v)))
def Bp:xD X DR:=by
 intro pins s σ H o i v ov iv u Q I ro ri rv h;obtain⟨p,xs,k,j,rfl,rfl,hp,hj,q⟩:=h;cases ro;obtain⟨t,rfl⟩:=ri;obtain⟨its,n,r,ho,hz⟩:=I.lst hp;obtain⟨h1,h2,h3,h4⟩:=uR hj;have hl:=r.length;have hn:=gU;have I':Inv X pins σ (upd H p (.lst (xs.set j v))) { s with heap:=s.heap.update p (Obj.mapSeq (·.setIfInBounds j u)) }:=
  I.lstUpd hp ho (wZ its n j u) (r.set rv j) (by rw[M4];exact hz) s.toks
 by_cases h0:0<=k
 .have hk:k.toNat=j:=by rw[seqIndex_of h0 h4] at h1;exact J_ h1
  exact W.ki_setAt ho h0 (by omega) (by rw[y_,<- hl];exact h4) (by rw[hk];exact⟨_,I',q⟩)
 .have hk:(k+(its.toArray.size:Int)).toNat=j:=by rw[seqIndex_neg (by omega) h3] at h1;rw[y_,<- hl];exact J_ h1
  exact W.ki_setBack ho (by omega) (by rw[y_,<- hl];exact h3) (by omega) (by rw[hk];exact⟨_,I',q⟩)
def rW(lo hi:Option Int)(n:Nat):(sliceBounds lo hi none n).1=((HT.sIx n 0 lo:Nat):Int)/\(sliceBounds lo hi none n).2.1=((HT.sIx n n hi:Nat):Int)/\(sliceBounds lo hi none n).2.2=1:=by
 refine⟨?_,?_,rfl⟩
 .cases lo with
  |none=>simp [sliceBounds,HT.sIx]
  |
   some i=>
   simp only[sliceBounds,HT.sIx,Option.getD_none,show (1:Int)>0 by decide,Od];by_cases h:i<0
   .simp only[h,Od] <;> omega
   .simp only[h,OO] <;> omega
 .cases hi with
  |none=>simp [sliceBounds,HT.sIx]
  |
   some i=>
   simp only[sliceBounds,HT.sIx,Option.getD_none,show (1:Int)>0 by decide,Od];by_cases h:i<0
   .simp only[h,Od] <;> omega
   .simp only[h,OO] <;> omega
def pM(its:List Value)(lo hi:Option Int):slicePick its.toArray lo hi none=((its.drop (HT.sIx its.length 0 lo)).take (HT.sIx its.length its.length hi-HT.sIx its.length 0 lo)).toArray:=by obtain⟨h1,h2,h3⟩:=rW lo hi its.toArray.size;unfold slicePick;rw[h1,h2,h3];simp only[sliceRange_one,pick_run,y_] <;> rfl
def wz(K:W.Frag):V->Option Int->Option Int->Hp->VK->Prop:=λx lo hi H Q=>∃a xs,x=.ref a/\SqL K H a xs/\∀p,H p=none->Q (.ref p) (upd H p (.lst (kd xs lo hi)))
def EA:SlR X (wz X.K):=by intro pins s σ H x v vl vu lo hi sl Q I rx hs pl pu h;obtain⟨a,xs,rfl,hx,q⟩:=h;cases rx;obtain⟨its,r,ht,hz⟩:=I.list hx;have a_:=r.length;refine⟨"list",_,slot_list_getitem.lookup,ht.isList.typeIs,?_⟩;refine wpAny_getItem_list_slice ht.isList hs pl pu .none (by simp) ?_ (by rw[y_] <;> omega);rw[pM,<- a_];refine⟨.ref s.heap.objs.size,_,I.laid (t':=s.toks) (o:=.lst (kd xs lo hi)) (λb ob q=>r_ _ q) (u_ _) ?_,rfl,q _ (I.hok.fresh (u_ _))⟩;exact⟨MV (lF xs lo hi) hz,_,0,(r.drop (HT.sIx xs.length 0 lo)).take (HT.sIx xs.length xs.length hi-HT.sIx xs.length 0 lo),Em _ rfl⟩
noncomputable def flatV:V->Bool
 |.non=>true
 |.bl _=>true
 |.int _=>true
 |.str _=>true
 |_=>false
noncomputable def eqV:V->V->Bool
 |.non,.non=>true
 |.bl a,.bl b=>a==b
 |.bl a,.int b=>(if a then 1 else 0)==b
 |.int a,.bl b=>a==(if b then 1 else 0)
 |.int a,.int b=>a==b
 |.str a,.str b=>a==b
 |_,_=>false
def H9(ry:RelV y u)(rx:RelV x v)(fy:flatV y=true)(fx:flatV x=true):SeqAt.EqAt A s u v (eqV y x):=by
 cases y with
 |
  non=>
  cases ry;cases x with
  |non=>cases rx;exact SeqAt.EqAt.same _
  |bl b=>cases rx;exact SeqAt.EqAt.none_bool b
  |int b=>obtain⟨t,rfl⟩:=rx;exact SeqAt.EqAt.none_int b t
  |str b=>obtain⟨t,rfl⟩:=rx;exact SeqAt.EqAt.none_str b t
  |_=>exact absurd (show false=true from fx) w_
 |
  bl a=>
  cases ry;cases x with
  |non=>cases rx;exact SeqAt.EqAt.bool_none a
  |bl b=>cases rx;exact SeqAt.EqAt.bool_bool a b
  |int b=>obtain⟨t,rfl⟩:=rx;exact SeqAt.EqAt.bool_int a b t
  |str b=>obtain⟨t,rfl⟩:=rx;exact SeqAt.EqAt.bool_str a b t
  |_=>exact absurd (show false=true from fx) w_
 |
  int a=>
  obtain⟨t',rfl⟩:=ry;cases x with
  |non=>cases rx;exact SeqAt.EqAt.int_none a t'
  |bl b=>cases rx;exact SeqAt.EqAt.int_bool a t' b
  |int b=>obtain⟨t,rfl⟩:=rx;exact SeqAt.EqAt.int_int a t' b t
  |str b=>obtain⟨t,rfl⟩:=rx;exact SeqAt.EqAt.int_str a t' b t
  |_=>exact absurd (show false=true from fx) w_
 |
  str a=>
  obtain⟨t',rfl⟩:=ry;cases x with
  |non=>cases rx;exact SeqAt.EqAt.str_none a t'
  |bl b=>cases rx;exact SeqAt.EqAt.str_bool a t' b
  |int b=>obtain⟨t,rfl⟩:=rx;exact SeqAt.EqAt.str_int a t' b t
  |str b=>obtain⟨t,rfl⟩:=rx;exact SeqAt.EqAt.str_str a t' b t
  |_=>exact absurd (show false=true from fx) w_
 |_=>exact absurd (show false=true from fy) w_
noncomputable def eqU (x:V) (u:Value):Bool:=match u with
 |.none=>eqV .non x
 |.bool b=>eqV (.bl b) x
 |.int i _=>eqV (.int i) x
 |.str z _=>eqV (.str z) x
 |_=>false
def x8(r:RelV y u)(f:flatV y=true):eqU x u=eqV y x:=by
 cases y with
 |non=>cases r;rfl
 |bl b=>cases r;rfl
 |int i=>obtain⟨t,rfl⟩:=r;rfl
 |str z=>obtain⟨t,rfl⟩:=r;rfl
 |_=>exact absurd (show false=true from f) w_
theorem jh:∀{xs:List V}{us:List Value},Vals xs us->xs.all flatV=true->us.any (eqU x)=xs.any λy=>eqV y x
 |_,_,.nil,_=>rfl
 |
  y::xs,u::us,.cons r t,f=>by
  rw[OV,t_] at f;rw[Nw,Nw,x8 r f.1,jh t f.2]
theorem gY(rx:RelV x v)(fx:flatV x=true):∀{xs:List V}{us:List Value},Vals xs us->xs.all flatV=true->∀u∈us,SeqAt.EqAt A s u v (eqU x u)
 |_,_,.nil,_=>λu hu=>by cases hu
 |
  y::xs,u::us,.cons r t,f=>λu' hu=>by
  rw[OV,t_] at f;rcases G_.mp hu with rfl |hu
  .rw[x8 r f.1];exact H9 r rx f.1 fx
  .exact gY rx fx t f.2 u' hu
noncomputable def inV (x:V) (xs:List V):Bool:=xs.any λy=>eqV y x
def rIn(K:W.Frag)(neg:Bool):R2:=λx y H Q=>∃p xs,y=.ref p/\(SqL K H p xs\/SqT K H p xs)/\flatV x=true/\xs.all flatV=true/\Q (.bl (if neg then !inV x xs else inV x xs)) H
def xX:OpR X (compareOp .In) (rIn X.K false):=by
 intro pins s σ H x y v u Q I rx ry h;obtain⟨p,xs,rfl,hq,fx,fs,q⟩:=h;cases ry;rcases hq with hq |hq
 .obtain⟨its,r,pl,hz⟩:=I.list hq;refine SeqAt.in_listAt (eqU x) pl.isList (λw hw=>gY rx fx r fs w (by simpa using hw)) ⟨.bl _,H,I,rfl,?_⟩;rw[show its.toArray.any (eqU x)=its.any (eqU x) by simp,jh r fs];exact q
 .obtain⟨its,r,pl,hz⟩:=I.tuple hq;refine SeqAt.in_tupleAt (eqU x) pl (λw hw=>gY rx fx r fs w (by simpa using hw)) ⟨.bl _,H,I,rfl,?_⟩;rw[show its.toArray.any (eqU x)=its.any (eqU x) by simp,jh r fs];exact q
def tQ:OpR X (compareOp .NotIn) (rIn X.K true):=by
 intro pins s σ H x y v u Q I rx ry h;obtain⟨p,xs,rfl,hq,fx,fs,q⟩:=h;cases ry;rcases hq with hq |hq
 .obtain⟨its,r,pl,hz⟩:=I.list hq;refine SeqAt.notIn_listAt (eqU x) pl.isList (λw hw=>gY rx fx r fs w (by simpa using hw)) ⟨.bl _,H,I,rfl,?_⟩;rw[show its.toArray.any (eqU x)=its.any (eqU x) by simp,jh r fs];exact q
 .obtain⟨its,r,pl,hz⟩:=I.tuple hq;refine SeqAt.notIn_tupleAt (eqU x) pl (λw hw=>gY rx fx r fs w (by simpa using hw)) ⟨.bl _,H,I,rfl,?_⟩;rw[show its.toArray.any (eqU x)=its.any (eqU x) by simp,jh r fs];exact q
def qZ:CallR X (.builtin "len") (λxs H Q=>∃p ys,xs=[.ref p]/\(SqL X.K H p ys\/SqT X.K H p ys)/\Q (.int ys.length) H):=by
 intro pins s σ H xs us Q I r h;obtain⟨p,ys,rfl,hq,q⟩:=h;obtain⟨u,rfl,rx⟩:=eS r;cases rx;have hn:=gU;rcases hq with hq |hq
 .obtain⟨its,r',pl,hz⟩:=I.list hq;have a_:=r'.length;exact Calls.call_len_list pl.isList (by simp only[y_] <;> omega) ⟨.int ys.length,H,I.tok _,⟨s.toks+1,by rw[y_,a_]⟩,q⟩
 .obtain⟨its,r',pl,hz⟩:=I.tuple hq;have a_:=r'.length;exact len_tuple pl (by simp only[y_] <;> omega) ⟨.int ys.length,H,I.tok _,⟨s.toks+1,by rw[y_,a_]⟩,q⟩
def tY:CallR X (.builtin "len") (λxs H Q=>∃z,xs=[.str z]/\z.length<=sizeLine/\Q (.int z.length) H):=by intro pins s σ H xs us Q I r h;obtain⟨z,rfl,hz,q⟩:=h;obtain⟨u,rfl,t,rfl⟩:=eS r;have hn:=gU;exact len_str (by omega) ⟨.int z.length,H,I.tok _,⟨_,rfl⟩,q⟩
def CallR.or(h:CallR X f r)(h':CallR X f r'):CallR X f (λxs H Q=>r xs H Q\/r' xs H Q):=by
 intro pins s σ H xs us Q I rs q;rcases q with q |q
 .exact h pins s σ H xs us Q I rs q
 .exact h' pins s σ H xs us Q I rs q
def tW:CallR X (.type "list") (λxs H Q=>∃p ys,xs=[.ref p]/\(SqL X.K H p ys\/SqT X.K H p ys)/\∀l,H l=none->Q (.ref l) (upd H l (.lst ys))):=by
 intro pins s σ H xs us Q I r h;obtain⟨p,ys,rfl,hq,q⟩:=h;obtain⟨u,rfl,rx⟩:=eS r;cases rx;have d_:∀(its:List Value),Vals ys its->ys.length<=sizeLine->∀(h':Heap) (c':Nat),(∀b o',s.heap.get? b=some o'->h'.get? b=some o')->
  h'.get? s.heap.objs.size=some { cls:=.type "list",dict:=none,data:=.seq its.toArray c',slots:=#[] }->EP X pins σ Q (.ref s.heap.objs.size) { s with heap:=h' }:=λits r' hz h' c' kp e=>
  ⟨.ref s.heap.objs.size,_,I.laid (t':=s.toks) kp (u_ _) (show ObjOk X.prog X.w _ h' _ (.lst ys) from ⟨hz,its,c',r',e⟩),rfl,q _ (I.hok.fresh (u_ _))⟩
 rcases hq with hq |hq
 .obtain⟨its,r',pl,hz⟩:=I.list hq;have a_:=r'.length;obtain⟨o,ho,hc,n,hd⟩:=pl.isList;exact call_list_seq p (.inl rfl) ho hc hd (λh' c' kp e=>d_ its r' hz h' c' kp e) (by simp only[y_] <;> omega)
 .obtain⟨its,r',pl,hz⟩:=I.tuple hq;have a_:=r'.length;obtain⟨o,ho,hc,n,hd⟩:=pl;exact call_list_seq p (.inr rfl) ho hc hd (λh' c' kp e=>d_ its r' hz h' c' kp e) (by simp only[y_] <;> omega)
def pV:CallR X (.type "tuple") (λxs H Q=>∃p ys,xs=[.ref p]/\((SqL X.K H p ys/\∀l,H l=none->Q (.ref l) (upd H l (.tup ys)))\/(SqT X.K H p ys/\Q (.ref p) H))):=by
 intro pins s σ H xs us Q I r h;obtain⟨p,ys,rfl,h⟩:=h;obtain⟨u,rfl,rx⟩:=eS r;cases rx;rcases h with ⟨hq,q⟩ |⟨hq,q⟩
 .obtain⟨its,r',pl,hz⟩:=I.list hq;have a_:=r'.length;refine call_tuple_list pl.isList (λh' kp=>?_) (by simp only[y_] <;> omega);have I1:Inv X pins σ H { s with heap:=h' }:=I.kept (t':=s.toks) kp;have I2:Inv X pins σ (upd H h'.objs.size (.tup ys)) { s with heap:=h'.push { cls:=.type "tuple",data:=.seq its.toArray } }:=
   I1.laid (t':=s.toks) (λb o e=>r_ _ e) (u_ _) (show ObjOk X.prog X.w _ _ _ (.tup ys) from ⟨hz,its,r',IsTup.new _ _⟩)
  exact⟨.ref h'.objs.size,_,I2,rfl,q _ (I1.hok.fresh (u_ _))⟩
 .obtain⟨its,r',pl,hz⟩:=I.tuple hq;exact call_tuple_same pl ⟨.ref p,H,I,rfl,q⟩
def tyV(K:W.Frag)(T:String)(x:V)(H:Hp):Prop:=match x with
 |.str _=>T="str"
 |.int _=>T="int"
 |.ref p=>(T="list" /\ ∃xs,SqL K H p xs)\/(T="tuple" /\ ∃o,K.lookup p=some o/\o.cls=.type "tuple" /\ o.dict=none)\/
  (T="dict" /\ ((∃kvs,H p=some (.dK kvs))\/∃kvs,H p=some (.dT kvs)))\/(T="set" /\ ∃S n,H p=some (.set S n))
 |_=>False
def y0(I:Inv X pins σ H s)(r:RelV x v)(ty:tyV X.K T x H):
 s.TypeIs v T/\∀a,v=.ref a->∃ob,s.heap.get? a=some ob/\ob.dict=none:=by
 cases x with
 |str z=>obtain⟨t,rfl⟩:=r;cases (show T="str" from ty);exact⟨typeIs_str s z t,λ_ e=>nomatch e⟩
 |int i=>obtain⟨t,rfl⟩:=r;cases (show T="int" from ty);exact⟨typeIs_int s i t,λ_ e=>nomatch e⟩
 |
  ref p=>
  cases r;rcases ty with ⟨rfl,xs,hq⟩ |⟨rfl,o,hk,hc,hd⟩ |⟨rfl,hk⟩ |⟨rfl,S,n,hk⟩
  .obtain⟨its,_,pl,_⟩:=I.list hq;refine⟨pl.isList.typeIs,λa e=>?_⟩;cases e;obtain⟨o,n,e,c,hd,_⟩:=pl;exact⟨o,e,hd⟩
  .refine⟨⟨o,I.kIn p o hk,hc⟩,λa e=>?_⟩;cases e;exact⟨o,I.kIn _ o hk,hd⟩
  .have z:∃o,s.heap.get? p=some o/\o.ExactDict:=by
    rcases hk with ⟨kvs,hk⟩ |⟨kvs,hk⟩
    .obtain⟨_,_,_,_,o,_,_,e,ex,_⟩:=I.hok p _ hk;exact⟨o,e,ex⟩
    .obtain⟨_,_,_,_,o,_,_,e,ex,_⟩:=I.hok p _ hk;exact⟨o,e,ex⟩
   obtain⟨o,e,ex⟩:=z;refine⟨⟨o,e,ex.1⟩,λa e2=>?_⟩;cases e2;exact⟨o,e,ex.2.1⟩
  .obtain⟨o,_,_,_,e,ex,_⟩:=I.hok p _ hk;refine⟨⟨o,e,ex.1⟩,λa e2=>?_⟩;cases e2;exact⟨o,e,ex.2.1⟩
 |_=>exact False.elim ty
def tBM0(K:W.Frag)(T:String)(r:V->List V->Hp->VK->Prop)(to:TE):TE:=λσ H Q=>to σ H λx H1=>tyV K T x H1/\r x [] H1 Q
def tBM(K:W.Frag)(T:String)(r:V->List V->Hp->VK->Prop)(to:TE)(t:TA):TE:=λσ H Q=>to σ H λx H1=>tyV K T x H1/\t σ H1 λxs H2=>r x xs H2 Q
variable{o e:Expr}{es:List Expr}{to:TE}{t:TA}{name:Str}{apos cpos:Pos}{T id:String}{r:V->List V->Hp->VK->Prop}
def HU(pa:PlainAttrs T)(slot:Slot T name id)(hty:typeOf (.builtin id)=pure (.type "method_descriptor"))(hm:MtR X id r)(ho:PE X o to)
 (i_:attributeBase o name X.env (eval o X.env)=eval o X.env) (j':(apos.endLine==cpos.line)=true):PE X (.Call (.Attribute o name apos) [] [] cpos) (tBM0 X.K T r to):=by
 intro pins s σ H Q I h;refine wpAny_Call_method0_late i_ j' (thn (ho pins s σ H _ I h) λv s1 ⟨x,H1,I1,r1,ty,q1⟩=>?_);obtain⟨h1,h2⟩:=y0 I1 r1 ty;exact⟨T,id,pa,slot,hty,h1,h2,Calls.callWith_builtin rfl (PySem.evalArgs_none (hm pins s1 σ H1 x [] v [] Q I1 r1 .nil q1))⟩
def wC(pa:PlainAttrs T)(slot:Slot T name id)(hty:typeOf (.builtin id)=pure (.type "method_descriptor"))(hm:MtR X id r)(ho:PE X o to)(ha:PA X (e::es) t)
 (i_:attributeBase o name X.env (eval o X.env)=eval o X.env)
 (hfew:((backTo cpos (starEach (e::es) X.env)).all (λx=>!x.1)&&(backToKw cpos (keywordEach [] X.env)).all (λx=>x.1.isSome)
  && decide ((e::es).length+([]:List Keyword).length+(if ([]:List Keyword).isEmpty then 0 else 1)<30))=true)
 (j':(apos.endLine==cpos.line)=true) (hs:starEach (e::es) X.env=(false,eval e X.env)::starEach es X.env) (c_:(backTo cpos (starEach es X.env)).any (·.1)=false):
 PE X (.Call (.Attribute o name apos) (e::es) [] cpos) (tBM X.K T r to t):=by
 intro pins s σ H Q I h;refine wpAny_Call_method_late i_ hfew j' rfl (thn (ho pins s σ H _ I h) λv s1 ⟨x,H1,I1,r1,ty,q1⟩=>?_);obtain⟨h1,h2⟩:=y0 I1 r1 ty;refine⟨T,id,pa,slot,hty,h1,h2,?_⟩;have hA:=ha cpos pins s1 σ H1 _ I1 q1;rw[hs] at hA ⊢;refine Calls.callWith_builtin (by show (false || (backTo cpos (starEach es X.env)).any (·.1))=false;rw[c_] <;> rfl) (Calls.evalArgs_plain ?_);exact thn hA λus s2 zz=>exA zz λvs H2 I2 r2 q2=>hm pins s2 σ H2 x vs v us Q I2 r1 r2 q2
end
def MtM(X:Cx)(id:String)(r:V->List V->Hp->VK->Prop):Prop:=
 ∀
  (pins:Pq) (s:Shared) (σ:St) (H:Hp) (x:V) (xs:List V) (v:Value) (us:List Value) (Q:VK),Inv X pins σ H s->RelV x v->Vals xs us->r x xs H Q->
  wpAny (model X.prog X.w) X.A (call (.builtin id) (v::us)) (EP X pins σ Q) X.xe s
def Vals.one(r:Vals [x] us):∃u,us=[u]/\RelV x u:=by
 cases r with
 |cons r t=>cases t;exact⟨_,rfl,r⟩
theorem Vals.zero:∀{us:List Value},Vals [] us->us=[]
 |_,.nil=>rfl
def Vals.dropLast(h:Vals xs us):Vals xs.dropLast us.dropLast:=by
 induction h with
 |nil=>exact .nil
 |
  cons r t ih=>
  cases t with
  |nil=>exact .nil
  |cons q t'=>exact .cons r ih
def xq{α:Type}(l:List α):l.eraseIdx (l.length-1)=l.dropLast:=by
 induction l with
 |nil=>rfl
 |
  cons a r ih=>
  cases r with
  |nil=>rfl
  |
   cons b r=>
   have e:(a::b::r).length-1=((b::r).length-1)+1:=by have h1:(a::b::r).length=r.length+2:=rfl;have h2:(b::r).length=r.length+1:=rfl;omega
   rw[e,List.eraseIdx_cons_succ,ih];all_goals rfl
section
variable{X:Cx}{pins:Pq}{σ:St}{H:Hp}{s:Shared}{l:Addr}{xs ys:List V}
def Inv.lset{its its':List Value}{n:Nat}{f:Array Value->Array Value}{t':Nat}(I:Inv X pins σ H s)(hH:H l=some (.lst xs))
 (e:s.heap.get? l=some { cls:=.type "list",data:=.seq its.toArray n }) (hf:f its.toArray=its'.toArray) (hv:Vals ys its') (hz:ys.length<=sizeLine):
 Inv X pins σ (upd H l (.lst ys)) { s with heap:=s.heap.update l (Obj.mapSeq f),toks:=t' }:=by
 have q:=PySem.IsL.update e f;rw[hf] at q;refine I.write (x:=l) (e:=l) (by rw[hH];exact trivial) (.inl rfl) (λb' u hb hu=>(OS s.heap (Obj.mapSeq f) (Ne.symm hb)).trans hu) ⟨_,q⟩ ?_;exact⟨hz,its',_,hv,q⟩
def Inv.lnew(I:Inv X pins σ H s)(hv:Vals ys its)(hz:ys.length<=sizeLine):
 Inv X pins σ (upd H s.heap.objs.size (.lst ys)) { s with heap:=s.heap.push { cls:=.type "list",data:=.seq its.toArray },toks:=t' }:=
 I.laid (λ_ _ q=>r_ _ q) (u_ _) ⟨hz,its,0,hv,Em _ rfl⟩
def Inv.fresh(I:Inv X pins σ H s):H s.heap.objs.size=none:=I.hok.fresh (u_ _)
def Inv.lstM(I:Inv X pins σ H s)(hH:H l=some (.lst xs)):xs.length<=sizeLine/\∃(its:List Value) (n:Nat),Vals xs its/\xs.length=its.length/\s.heap.get? l=some { cls:=.type "list",data:=.seq its.toArray n }:=by obtain⟨z,its,n,r,e⟩:=I.hok l _ hH;exact⟨z,its,n,r,r.length,e⟩
def AU{n:Nat}(h:n<=sizeLine):Builtin.List.listTooLong n=false:=by unfold Builtin.List.listTooLong;exact D_ (by omega)
end
section
variable{X:Cx}
def uS:V->List V->Hp->VK->Prop:=λx vs H Q=>∃l xs y,x=.ref l/\vs=[y]/\H l=some (.lst xs)/\xs.length<sizeLine/\Q .non (upd H l (.lst (xs++[y])))
def zI:MtM X "list.append" uS:=by intro pins s σ H x vs v us Q I rx rv h;obtain⟨l,xs,y,rfl,rfl,hH,hz,q⟩:=h;cases rx;obtain⟨u,rfl,ru⟩:=rv.one;obtain⟨z,its,n,r,hl,e⟩:=I.lstM hH;refine Pa F.slot_list_append ⟨_,e,rfl⟩ F.entry_list_append (F.args_list_append_2 _ _) (PySem.list_append l its.toArray n u (by rw[y_];omega)) ⟨e,?_⟩;refine⟨.non,_,I.lset (its':=its++[u]) hH e (by simp) (r.append (.cons ru .nil)) ?_,rfl,q⟩;rw[L_,O3];omega
def rPop:V->List V->Hp->VK->Prop:=λx vs H Q=>∃l xs y,x=.ref l/\vs=[]/\H l=some (.lst xs)/\xs[xs.length-1]?=some y/\Q y (upd H l (.lst xs.dropLast))
def GD:MtM X "list.pop" rPop:=by
 intro pins s σ H x vs v us Q I rx rv h;obtain⟨l,xs,y,rfl,rfl,hH,hy,q⟩:=h;cases rx;have hus:=rv.zero;subst hus;obtain⟨z,its,n,r,hl,e⟩:=I.lstM hH;obtain⟨u,hu,ru⟩:=r.get hy;have hy':its.toArray[its.toArray.size-1]?=some u:=by show its.toArray[its.length-1]?=some u;rw[<- Array.getElem?_toList,<- hl];exact hu
 refine Pa F.slot_list_pop ⟨_,e,rfl⟩ F.entry_list_pop (F.args_list_pop_1 _) (MeetsSeq.list_pop_last l its.toArray n u hy' (by rw[y_];omega)) ⟨e,?_⟩;refine⟨y,_,I.lset (its':=its.dropLast) hH e ?_ r.dropLast ?_,ru,q⟩
 .show its.toArray.eraseIdxIfInBounds (its.toArray.size-1)=its.dropLast.toArray;rw[y_,List.eraseIdxIfInBounds_toArray,xq]
 .rw[List.length_dropLast];omega
def sf:R2:=λx y H Q=>∃l b xs zs,x=.ref l/\y=.ref b/\H l=some (.lst xs)/\H b=some (.lst zs)/\xs.length+zs.length<=sizeLine/\∀p,H p=none->Q (.ref p) (upd H p (.lst (xs++zs)))
def Jr:OpR X (binaryOp .Add) sf:=by
 intro pins s σ H x y v u Q I rx ry h;obtain⟨l,b,xs,zs,rfl,rfl,hH,hB,hz,q⟩:=h;cases rx;cases ry;obtain⟨z,its,n,r,hl,e⟩:=I.lstM hH;obtain⟨z2,its2,n2,r2,hl2,e2⟩:=I.lstM hB;refine PySem.P.add_list e e2 ?_ (by rw[y_,y_];omega);have ea:its.toArray++its2.toArray=(its++its2).toArray:=by simp
 rw[ea];exact⟨.ref _,_,I.lnew (t':=s.toks) (r.append r2) (by rw[L_];omega),rfl,q _ I.fresh⟩
end
section
set_option maxRecDepth 100000 in
end
end L2
namespace Att
open PySem PySem.W PySem.Calls PyProof.Rows
def nU:∀(ns:List Int) (vs:List Value),WellAll P h vs (ns.map WData.int)->IntsAre vs ns:=by
 intro ns;induction ns with
 |nil=>intro vs w;rw[M1] at w;cases w;exact .nil
 |
  cons n ns ih=>
  intro vs w;rw[z_] at w;cases w with
  |cons a b=>cases a;exact .cons _ _ (ih _ b)
def yE{l:OpenLaw}{n:Nat}(hn:l.most=some n){P:Params}{h:Heap}{args:List WData}{vals:List Value}
 (hpre:l.row.toRowW.claim.pre args=true) (hwl:WellAll P h vals args):
 ∃a vs ns,vals=[Value.ref a]/\args=[WData.list (ns.map WData.int)]/\h.get? a=some { cls:=.type "list",data:=.seq vs.toArray }/\IntsAre vs ns/\ns.length<=n:=by
 have hsh:WShape.hasAll [] args [.list .int]=true:=(pre_splitW hpre).1;have hc:l.pre.holds [] { args:=args }=true:=(pre_splitW hpre).2;obtain⟨d,r,rfl,h1,h2⟩:=hasAllW_cons hsh;obtain rfl:=hasAllW_nil h2;obtain⟨xs,rfl,h3⟩:=hasW_list h1;obtain⟨ns,rfl⟩:=items_int h3;have a_:ns.length<=n:=by
  unfold OpenLaw.pre at hc;have h4:(WTm.not (.lt (.lit (.int (n:Int))) (.len (.arg 0)))).holds [] { args:=[.list (ns.map .int)] }=true:=by have h4:=(holds_andW hc).1;rw[hn] at h4;exact h4
  have h5:=condW_of h4 (w_not (w_lt w_lit (w_len_list (w_arg rfl))));rw[p_] at h5;refine Nat.le_of_not_lt λq=>?_;have q':(n:Int)<((ns.length:Nat):Int):=by omega
  first
   |(rw[H_ q'] at h5;exact absurd h5 (by decide))
   |(simp at h5;omega)
 cases hwl with
 |
  cons w1 w2=>
  cases w2;cases w1 with
  |list ho hall=>exact⟨_,_,ns,rfl,rfl,ho,nU ns _ hall,a_⟩
def yj(l:OpenLaw)(args:List WData):l.row.toRowW.claim.post args (.bool true) args=true:=
 postW_of (r:=l.row.toRowW) (X:=(true==true))
  (show WShape.has [] (.bool true) .bool=true by first |rfl |decide |simp [WShape.has,WShape.arms,WShape.armsAll])
  (show (WTm.eq .res (.lit (.bool true))).value [] { args:=args,res:=some (.bool true),after:=args }=some (.bool (true==true)) from w_eq_bool (w_res rfl) w_lit) rfl
def attach_call{l:OpenLaw}{n:Nat}{q:Program}{loose:List Str}{XP:(Str->Option Value)->Heap->Prop}{YP:World->Heap->Prop}{d:DefRec}
 (hn:l.most=some n) (hdf:d.params.defaults=[])
 (call:∀(w:World) (s₀ s₁:Shared) (mg mb:Pp) (fa:Addr) (o:Obj) (pm cd doc:Value) (a:Addr) (vs:List Value) (ns:List Int),
  Ground q loose [] XP w s₀ mg mb s₁.heap->YP w s₁.heap->
  s₁.heap.get? fa=some o->o.data=.func (docDef d.name d.params d.body d.scope pm cd doc)->s₁.heap.CodeRec cd d.name->mg d.name=some (.ref fa)->
  s₁.heap.get? a=some { cls:=.type "list",data:=.seq vs.toArray }->IntsAre vs ns->ns.length<=n->s₁.gens=#[]->
  codeAny (model l.prog w) callerA (.call (.ref fa) ⟨[.ref a],[]⟩) (λr s'=>r=.ok (.ret (.bool true))/\OldK s₁.heap s'.heap/\s'.os=s₁.os/\AllBare s'.gens) s₁):
 WalkO q loose XP YP l.row.toRowW d [] (λf vs=>PySem.call f vs):=by
 intro w s₀ s₁ mg mb G Y fa o pm cd doc dV kV ho hd k_ hD hmg hg args vals as hpre hlay hrd hwl hlo;obtain rfl:dV=.none:=Dflts.none hD hdf;obtain rfl:kV=.none:=Dflts.noKw hD;obtain⟨a,vs,ns,rfl,rfl,hobj,hints,a_⟩:=yE hn hpre hwl;refine enter_call (Pc (call w s₀ s₁ mg mb fa o pm cd doc a vs ns G Y ho (fd_plain hd) k_ hmg hobj hints a_ hg) λr s' hq=>?_);obtain⟨rfl,h2,h3,h4⟩:=hq;exact⟨.inl ⟨.bool true,.bool true,[],rfl,λ_=>rfl,.bool true,yj l _,λ_=>⟨List.Pairwise.nil,λ_ hm=>(nomatch hm)⟩⟩,h2,h3,h4⟩
section
def uk(h:Heap):Heap:={ h with objs:=#[] }
def we(h:Heap)(b:Addr):(uk h).get? b=none:=by
 cases e:(uk h).get? b with
 |none=>rfl
 |some o=>exact absurd (A_ e) (N5 _)
def ledger(h:Heap)(L d:Addr):List (Addr×Obj):=(List.range h.objs.size).filterMap λa=>if a=L\/a=d then none else (h.get? a).map λo=>(a,o)
def fr_all(n:h.Ns L m):Fr (uk h) L h m:=
 ⟨n,λb o e=>(by rw[we] at e;cases e),Nc _⟩
end
end Att
namespace L2
open PySem PySem.Spec PyProof.Rows
theorem iH:∀{vs:List Value}{ns:List Int},IntsAre vs ns->Vals (ns.map V.int) vs
 |_,_,.nil=>.nil
 |_,_,.cons n t h=>.cons ⟨t,rfl⟩ (iH h)
def Br(H:Hp):Prop:=∀b,H b=none\/∃o xs,H b=some (.frz o (.lst xs))
def Bo{P:Program}{w:World}{K:W.Frag}{mg mb:Pp}{CX:CXT}{k:Nat}{fa a:Addr}{fd:FuncData}{x:Str}{sp:Sp}{s₁:Shared}{vs:List Value}{ns:List Int}
 (KX:K.In s₁.heap) (hns:s₁.heap.Ns mainGlobals mg) (hb:s₁.heap.Ns builtinsNs mb) (hbb:∀x:Str,x ≠ "__name__"->mb x=bootBuiltins x) (hlim:s₁.heap.NoLimit) (hg:s₁.gens=#[])
 (ha:s₁.heap.get? a=some { cls:=.type "list",data:=.seq vs.toArray }) (hi:IntsAre vs ns) (hl:ns.length<=sizeLine) (hr:Room k callerA)
 (F:∀base:Heap,K.In base->base.Ns mainGlobals mg->FnOk P w K mg base CX k fa fd [x] sp) (hbind:∀(s:Shared) (u:Value),BindsTo s fd ⟨[u],[]⟩ [(x,u)])
 (hsp:∀H:Hp,Br H->SqL K H a (ns.map V.int)->sp [.ref a] H (λv _=>v=.bl true) λ_ _ _=>False)
 (hCX:∀H e s',CX [] H s₁ (λ_ _ _=>False) e s'->False):
 codeAny (model P w) callerA (.call (.ref fa) ⟨[.ref a],[]⟩) (λr s'=>r=.ok (.ret (.bool true))/\OldK s₁.heap s'.heap/\s'.os=s₁.os/\AllBare s'.gens) s₁:=by
 have rv:=iH hi;have lenV:=hi.length;have core
  : ∀H:Hp,Br H->SqL K H a (ns.map V.int)->HOk P w H s₁.heap->(∀b,H b≠none->b=a)->(H a≠none->K.lookup a=none)->
  codeAny (model P w) callerA (.call (.ref fa) ⟨[.ref a],[]⟩) (λr s'=>r=.ok (.ret (.bool true))/\OldK s₁.heap s'.heap/\s'.os=s₁.os/\AllBare s'.gens) s₁:=by
  intro H hO hS hok hA hK;have base_of:∀{b:Addr}{o:Obj},s₁.heap.get? b=some o->H b=none->(fC s₁.heap H).get? b=some o:=λe n=>rH e n;have noA:∀{b:Addr}{o:Obj}{es:Array DictEntry}{ep:Nat},s₁.heap.get? b=some o->o.data=.dict es ep->H b=none:=λ{b o es ep} e d=>by
   cases q:H b with
   |none=>rfl
   |some u=>have e':b=a:=hA b (by rw[q];simp);subst e';rw[ha] at e;cases e;have d':Data.seq vs.toArray _=Data.dict es ep:=d;cases d'
  have nsK:∀{b:Addr}{m:Pp},s₁.heap.Ns b m->(fC s₁.heap H).Ns b m:=λ{b m} ⟨o,es,ep,e,d,r⟩=>⟨o,es,ep,base_of e (noA e d),d,r⟩;have hKb:K.In (fC s₁.heap H):=λb o e=>base_of (KX b o e) (by
   cases q:H b with
   |none=>rfl
   |some u=>have e':b=a:=hA b (by rw[q];simp);subst e';rw[hK (by rw[q];simp)] at e;cases e)
  have hM:Mod K mg (fC s₁.heap H):=⟨hKb,nsK hns,⟨mb,nsK hb,hbb⟩,let ⟨mc,h1,h2⟩:=hlim;⟨mc,nsK h1,h2⟩⟩;have e0:Env0 P w K mg (fC s₁.heap H) callerA [] s₁ H:=⟨rfl,hM,λb o e=>vF e,Nat.le_of_eq (pI _ _),trivial,λb hb=>absurd (show b∈([]:List Addr) from hb) (by simp),hok,.of_eq hg⟩;refine Pc ((F _ hKb (nsK hns)).run callerA [] s₁ H ⟨[.ref a],[]⟩ [.ref a] [.ref a] _ _ hr e0 (hbind s₁ (.ref a)) (.cons rfl .nil) (hsp H hO hS)) λr s' h=>?_;cases r with
  |error e=>exact (hCX H e s' h).elim
  |
   ok fl=>
   cases fl with
   |next=>exact False.elim h
   |brk=>exact False.elim h
   |cont=>exact False.elim h
   |
    ret u=>
    obtain⟨v,H',os,bare,un,hok',r',q⟩:=h;have q':v=.bl true:=q;subst q';obtain rfl:u=Value.bool true:=r';refine⟨rfl,OldK.of_keep λb o e=>?_,os,bare⟩;cases q:H b with
    |none=>exact un.keep b o e q (by intro z;exact absurd (show b∈([]:List Addr) from z) (by simp)) (by simp)
    |
     some u=>
     rcases hO b with z |⟨ob,xs,z⟩
     .rw[q] at z;cases z
     .have z2:=un.frzs b ob _ z;obtain⟨e1,_⟩:=hok b _ z;obtain⟨e2,_⟩:=hok' b _ z2;rw[e] at e1;cases e1;exact e2
 cases hk:K.lookup a with
 |some o=>have e:=KX a o hk;rw[ha] at e;cases e;refine core (λ_=>none) (λ_=>.inl rfl) (.inr ⟨_,vs.toArray,_,hk,rfl,rfl,rfl,by rw[y_,lenV];exact hl,by simpa using rv⟩) (λb u z=>by have z':(none:Option HO)=some u:=z;cases z') (λb z=>absurd rfl z) λz=>absurd rfl z
 |
  none=>
  refine core (λb=>if b=a then some (.frz { cls:=.type "list",data:=.seq vs.toArray } (.lst (ns.map V.int))) else none) (λb=>?_) (.inl (.inr ⟨{ cls:=.type "list",data:=.seq vs.toArray },if_pos rfl⟩)) (λb u z=>?_) (λb z=>?_) λ_=>hk
  .by_cases hb:b=a
   .exact .inr ⟨_,_,if_pos hb⟩
   .exact .inl (if_neg hb)
  .by_cases hb:b=a
   .have z':=(if_pos hb).symm.trans z;cases z';subst hb;exact⟨ha,by rw[p_];exact hl,vs,_,rv,ha⟩
   .have z':=(if_neg hb).symm.trans z;cases z'
  .by_cases hb:b=a
   .exact hb
   .exact absurd (if_neg hb) z
abbrev KOf{K:W.Frag}{h:Heap}(_:K.In h):W.Frag:=K
def MH{l:W.OpenLaw}{n k:Nat}{q:Program}{loose:List Str}{XP:(Str->Option Value)->Heap->Prop}{YP:World->Heap->Prop}{d:DefRec}{K:Params->W.Frag}{CX:World->CXT}{sp:World->Sp}{x:Str}
 (hn:l.most=some n) (hn2:n<=sizeLine) (hdf:d.params.defaults=[]) (hr:Room k callerA)
 (hY:∀(w:World) (h:Heap),YP w h->(K w.params).In h)
 (F:∀(w:World) (mg:Pp) (fa:Addr) (h:Heap),(K w.params).In h->h.Ns mainGlobals mg->mg d.name=some (.ref fa)->
  ∃
   fd:FuncData,(∀(s:Shared) (u:Value),BindsTo s fd ⟨[u],[]⟩ [(x,u)])/\
   ∀base:Heap,(K w.params).In base->base.Ns mainGlobals mg->FnOk l.prog w (K w.params) mg base (CX w) k fa fd [x] (sp w))
 (hsp:∀(w:World) (H:Hp) (a:Addr) (ns:List Int),ns.length<=n->Br H->SqL (K w.params) H a (ns.map V.int)->sp w [.ref a] H (λv _=>v=.bl true) λ_ _ _=>False)
 (hCX:∀(w:World) (H:Hp) (s:Shared) (e:Value) (s':Shared),CX w [] H s (λ_ _ _=>False) e s'->False):
 W.WalkO q loose XP YP l.row.toRowW d [] (λf vs=>PySem.call f vs):=by
 refine Att.attach_call hn hdf λw s₀ s₁ mg mb fa o pm cd doc a vs ns G Y ho hd k_ hmg hobj hints a_ hg=>?_;have KX:=hY w _ Y;obtain⟨fd,hb,hF⟩:=F w mg fa _ KX G.T.g hmg;exact Bo KX G.T.g G.T.b G.T.builtins G.T.nolimit hg hobj hints (MV a_ hn2) hr hF hb (λH hO hS=>hsp w H a ns a_ hO hS) λH e s'=>hCX w H s₁ e s'
noncomputable def dm (s:Stmt):Arguments:=match s with
 |.FunctionDef _ a _ _ _ _ _ _ _ _=>a
 |_=>{ posonlyargs:=[],args:=[],vararg:=none,kwonlyargs:=[],kw_defaults:=[],kwarg:=none,defaults:=[] }
noncomputable def bG (s:Stmt):List Stmt:=match s with
 |.FunctionDef _ _ b _ _ _ _ _ _ _=>b
 |_=>[]
noncomputable def ar (s:Stmt):Scope:=match s with
 |.FunctionDef _ _ _ _ _ _ sc _ _ _=>sc
 |_=>{ kind:=.function,names:=[],isGenerator:=false,isCoroutine:=false }
abbrev E0:XK:=λ_ _ _=>False
structure Fun(K:W.Frag)(x qual:Str)(st:Stmt)(f:Addr)(fd:FuncData):Prop where
 ex:∃(oc:Value) (od:Option Addr) (kV doc pm:Value) (an:Option Addr) (cdv ct:Value) (osl:Array (Option Value)),
  fd=W.fnOf x qual (dm st) (bG st) (ar st) .none kV doc pm an cdv ct/\K.lookup f=some ⟨oc,od,.func fd,osl⟩/\W.codeIn K cdv qual=true
 kp:W.keepIn K (.ref f)=true
section
variable{K:W.Frag}
def Fun.binds{x qual:Str}{st:Stmt}{f:Addr}{fd:FuncData}{ps:List Str}(F:Fun K x qual st f fd)
 (h:∀(kV doc pm:Value) (an:Option Addr) (cdv ct:Value) (us:List Value),us.length=ps.length->bindArgs (W.fnOf x qual (dm st) (bG st) (ar st) .none kV doc pm an cdv ct) ⟨us,[]⟩=pure (ps.zip us)):Binds K fd ps []:=by
 obtain⟨oc,od,kV,doc,pm,an,cdv,ct,osl,rfl,lk,k_⟩:=F.ex;exact .all (h kV doc pm an cdv ct)
def F6{x qual:Str}{st:Stmt}{f:Addr}{oc:Value}{od an:Option Addr}{osl:Array (Option Value)}{kV doc pm cdv ct:Value}(l:K.lookup f=some ⟨oc,od,.func (W.fnOf x qual (dm st) (bG st) (ar st) .none kV doc pm an cdv ct),osl⟩)
 (c:W.codeIn K cdv qual=true) (k:W.keepIn K (.ref f)=true):Fun K x qual st f (W.fnOf x qual (dm st) (bG st) (ar st) .none kV doc pm an cdv ct):=⟨⟨oc,od,kV,doc,pm,an,cdv,ct,osl,rfl,l,c⟩,k⟩
end
def LH(hr:Room k A):A.units+1<cLine:=NG (Nat.add_le_add_left (by decide:1<=64) _) hr.units
section
variable{X:Cx}{pins:Pq}{σ:St}{H:Hp}{s:Shared}
def Inv.track{a:Addr}{o:HO}(I:Inv X pins σ H s)(hn:H a=none)(h0:X.s₀.heap.get? a=none)(hL:a≠X.env.locals)(hc:∀x c,X.env.cells.lookup x=some c->c≠a)
 (hp:∀p∈X.pn++pins,p.1≠a) (new:ObjOk X.prog X.w (upd H a o) s.heap a o):Inv X pins σ (upd H a o) s:=by
 have ne:∀b u,H b=some u->b≠a:=λb u e z=>by rw[z,hn] at e;cases e
 have ne0:∀b u,X.s₀.heap.get? b=some u->b≠a:=λb u e z=>by rw[z,h0] at e;cases e
 refine⟨I.ok,I.os,I.bare,⟨I.base.keep,I.base.slot,λb u e n hx=>?_,I.base.there,λb xs e=>?_,λb u xs e=>?_,λb ps e=>?_⟩,I.loc,I.cell,?_,λx c e=>?_,λp hp'=>?_,λb u e=>?_,I.len⟩
 .rw[aE (ne0 b u e)];exact I.base.free b u e n hx
 .have q:=I.base.tups b xs e;rw[aE (ne _ _ q)];exact q
 .have q:=I.base.frzs b u xs e;rw[aE (ne _ _ q)];exact q
 .obtain⟨m,q⟩:=I.base.tbls b ps e;exact⟨m,by rw[aE (ne _ _ q)];exact q⟩
 .rw[aE (Ne.symm hL)];exact I.free
 .rw[aE (hc x c e)];exact I.freeC x c e
 .obtain⟨e,n,r⟩:=I.pin p hp';exact⟨e,by rw[aE (hp p hp')];exact n,r⟩
 .by_cases hb:b=a
  .subst hb;rw[bo] at e;cases e;exact new
  .rw[aE hb] at e;exact (I.hok b u e).stay (λc v _ q=>q) (λc q=>by rw[aE (ne _ _ q)];exact q) λc xs q=>by rw[aE (ne _ _ q)];exact q
end
theorem jD{env:Env}:∀{names:List (Str×NameKind)} (cs:List (Str×Addr)),(∀x∈names,x.2=.free->∃c,env.cells.lookup x.1=some c)->(∀x c,cs.lookup x=some c->env.cells.lookup x=some c)->
 ∃
  cl,(forIn names cs λ(x:Str×NameKind) (r:List (Str×Addr))=>if (x.2==NameKind.free)=true then do let a <- cellOf env x.1;pure (ForInStep.yield ((x.1,a)::r)) else pure (ForInStep.yield r):Sem (List (Str×Addr)))=pure cl/\
  (∀x c,cl.lookup x=some c->env.cells.lookup x=some c)/\(∀x c,cs.lookup x=some c->∃c',cl.lookup x=some c')/\∀x∈names,x.2=.free->∃c,cl.lookup x.1=some c
 | [],cs,_,h=>⟨cs,by simp,h,λx c e=>⟨c,e⟩,λ_ hx=>nomatch hx⟩
 |
  (n,k)::r,cs,hf,h=>by
  rw[OF];by_cases hk:k=.free
  .subst hk;obtain⟨c,hc⟩:=hf (n,.free) s_ rfl;have m_:cellOf env n=pure c:=by unfold cellOf;rw[hc]
   have h':∀x d,((n,c)::cs).lookup x=some d->env.cells.lookup x=some d:=λx d e=>by
    rw[ND] at e;cases q:x==n with
    |true=>rw[q] at e;cases e;rw[MX.mp q];exact hc
    |false=>rw[q] at e;exact h x d e
   obtain⟨cl,e1,e2,e3,e4⟩:=jD (env:=env) (names:=r) ((n,c)::cs) (λx hx=>hf x (q_ _ hx)) h';have top:∃c',cl.lookup n=some c':=e3 n c (by rw[ND];simp);refine⟨cl,?_,e2,λx d e=>?_,λx hx hfr=>?_⟩
   .simp only[MP,Od,m_];exact e1
   .by_cases q:x=n
    .rw[q];exact top
    .exact e3 x d (by rw[ND,(E_.mpr q:(x==n)=false)];exact e)
   .rcases G_.mp hx with rfl |hx
    .exact top
    .exact e4 x hx hfr
  .have hb:(k==NameKind.free)=false:=by simpa using hk
   obtain⟨cl,e1,e2,e3,e4⟩:=jD (env:=env) (names:=r) cs (λx hx=>hf x (q_ _ hx)) h;refine⟨cl,?_,e2,e3,λx hx hfr=>?_⟩
   .simp only[hb,NX,OO];exact e1
   .rcases G_.mp hx with rfl |hx
    .exact absurd hfr hk
    .exact e4 x hx hfr
def pL{env:Env}{scope:Scope}(hf:∀x∈scope.names,x.2=.free->∃c,env.cells.lookup x.1=some c):
 ∃cl,closureFor scope env=pure cl/\(∀x c,cl.lookup x=some c->env.cells.lookup x=some c)/\∀x∈scope.names,x.2=.free->∃c,cl.lookup x.1=some c:=by
 obtain⟨cl,e1,e2,_,e4⟩:=jD (env:=env) (names:=scope.names) [] hf (λx c e=>by simp at e);refine⟨cl,?_,e2,e4⟩;unfold closureFor;simp only[e1];rfl
noncomputable def bY (X:Cx) (N:List Str) (scope:Scope) (cl:List (Str×Addr)) (C:Addr) (s₂:Shared) (H:Hp) (fp:List Addr):Cx:=
 { X with N:=N,s₀:=s₂,H₀:=H,env:=compEnvC scope cl C X.env,outer:=X.stack,stack:=X.stack,ex:=fp,fn:=λ_=>false,pn:=[],xe:=λ_ _=>False }
noncomputable def eU (sub:Pu) (σ:St):St:=sub.map λo=>o.bind λi=>(σ[i]?).bind id
def LcW(J:It)(sub:Pu)(g:TG)(tc:TT)(te:TE)(σ:St)(H1:Hp)(Q:VK):Prop:=∃W:Nat->Nat->List V->St->Hp->Prop,(∃m,W 0 m [] (eU sub σ) H1)/\∀i m ys σ H,W i m ys σ H->
 (J.stop i H/\ys.length<=sizeLine/\∀D,H D=none->Q (.ref D) (upd H D (.lst ys)))\/
 (J.go i H/\ys.length<sizeLine/\∃Nx:List V->St->Hp->Prop,(∀ys' σ' H',Nx ys' σ' H'->∃m',m'<m/\W (i+1) m' ys' σ' H')/\
  ∀x H',J.yld i H x H'->g x σ H' λσ2 H2=>tc σ2 H2 λb H3=>if b=true then te σ2 H3 λy H4=>Nx (ys++[y]) σ2 H4 else Nx ys σ2 H3)
def qH(wi:TI)(sub:Pu)(g:TG)(tc:TT)(te:TE):TE:=λσ H Q=>wi σ H λJ H1=>LcW J sub g tc te σ H1 Q
section
variable{prog:Program}{w:World}{A:Around}{R:Result->Shared->Prop}{s:Shared}
def sA{elt target iter:Expr}{ifs:List Expr}{scope:Scope}{pos:Pos}{it acc:Value}{env:Env}(I:Nat->Shared->Prop)
 (turn
  : ∀n s,I n s->wpAny (model prog w) A (pyNext it) (λr s₁=>match r with
  |none=>R (.ok .next) s₁
  |some v=>wpAny (model prog w) A (letOwnedTupleGo target it v) (λ_ s₁'=>wpAny (model prog w) A (assign target env v) (λ_ s₂=>
   wpAny (model prog w) A (forIn ifs true λc r=>if r=true then do let ok <- isTrue c env (eval c env);pure (ForInStep.yield ok) else pure (ForInStep.yield r))
    (λok s₃=>if ok=true then wpAny (model prog w) A (eval elt env) (λx s₄=>wpAny (model prog w) A (call (.builtin "list.append") [acc,x]) (λ_ s₅=>∃m,m<n/\I m s₅) (λ_ _=>False) s₄) (λ_ _=>False) s₃
     else ∃m,m<n/\I m s₃) (λ_ _=>False) s₂) (λ_ _=>False) s₁') (λ_ _=>False) s₁) (λ_ _=>False) s)
 (n:Nat) (h:I n s):
 codeAny (model prog w) A (.compLoop (.ListComp elt [⟨target,iter,ifs,0⟩] scope pos) 0 it acc env) R s:=by
 refine codeAny_loop rfl I (λn s hI=>?_) n h;show wpAny _ _ ((compTurn (.ListComp elt [⟨target,iter,ifs,0⟩] scope pos) 0 it acc env).onRaise (λx=>do noteFrame x env;theTreesLotGoes x)) _ _ s;refine wpAny_noted ?_;rw[compTurn_list];refine MU (E:=λ_ _=>False) ?_ (λ_ _ q=>q) λ_ _ q=>q.elim;refine o_ (Oh (o_ (MU (turn n s hI) (λr s₁ h₁=>?_) λ_ _ h'=>h')));cases r with
 |none=>exact v_ h₁
 |
  some v=>
  refine o_ (MU h₁ (λ_ s₁' h₁'=>?_) λ_ _ h'=>h');refine o_ (MU h₁' (λ_ s₂ h₂=>?_) λ_ _ h'=>h');refine o_ (MU h₂ (λok s₃ h₃=>?_) λ_ _ h'=>h');cases ok with
  |true=>simp only[Od] at h₃ ⊢;refine o_ (o_ (MU h₃ (λx s₄ h₄=>?_) λ_ _ h'=>h'));refine o_ (MU h₄ (λ_ s₅ h₅=>?_) λ_ _ h'=>h');exact v_ (v_ ⟨rfl,h₅⟩)
  |
   false=>
   simp only[NX,OO] at h₃ ⊢;first
    |exact o_ (v_ (v_ ⟨rfl,h₃⟩))
    |exact v_ ⟨rfl,h₃⟩
end
section
variable{X:Cx}
def PTs(X:Cx)(ifs:List Expr)(t:TT):Prop:=
 ∀
  (pins:Pq) (s:Shared) (σ:St) (H:Hp) (Q:Bool->Hp->Prop),Inv X pins σ H s->t σ H Q->
  wpAny (model X.prog X.w) X.A (forIn ifs true λc r=>if r=true then do let ok <- isTrue c X.env (eval c X.env);pure (ForInStep.yield ok) else pure (ForInStep.yield r)) (TP X pins σ Q) X.xe s
def EU:PTs X [] (λ_ H Q=>Q true H):=λpins s σ H Q I h=>by rw[Pj];exact v_ ⟨H,I,h⟩
structure LcEnd(X:Cx)(pins:Pq)(σ:St)(Q:VK)(D C:Addr)(s4:Shared):Prop where
 ns:∃m,s4.heap.Ns C m
 dc:D<C
 fr:X.env.locals<D
 cell:∀x c,X.env.cells.lookup x=some c->c<D
 pin:∀p∈X.pn++pins,p.1<D
 sz:X.s₀.heap.objs.size<=D
 inv:∃H',H' C=none/\Q (.ref D) H'/\∀h',Heap.SameBut C s4.heap h'->Inv X pins σ H' { s4 with heap:=h' }
def u7{elt iter tg:Expr}{ifs:List Expr}{scope:Scope}{pos:Pos}{wi:TI}{g:TG}{tc:TT}{te:TE}{N:List Str}{sub:Pu}{use:Option (Value->Sem Unit)}{R:Pt}{pins:Pq}{s:Shared}{σ:St}{H:Hp}{Q:VK}{fpos:Pos}
 (hc:X.calm=true) (hi:PI X tg iter wi)
 (hk:scope.kind=.function) (hnc:∀x∈scope.names,x.2 ≠ .cell) (f_:∀x∈scope.names,x.2=.local->scope.names.lookup x.1=some .local)
 (hfr:∀x∈scope.names,x.2=.free->X.env.kindOf x.1=some .cell\/X.env.kindOf x.1=some .free)
 (hsl:sub.length=N.length) (hsub:∀(j i:Nat) (x:Str),sub[j]?=some (some i)->N[j]?=some x->X.N[i]?=some x/\scope.names.lookup x=some .free)
 (hg:∀cl C s₂ H fp,PG (bY X N scope cl C s₂ H fp) tg g) (ht:∀cl C s₂ H fp,PTs (bY X N scope cl C s₂ H fp) ifs tc) (he:∀cl C s₂ H fp,PE (bY X N scope cl C s₂ H fp) elt te)
 (hs:∀x,foldedSetIterable iter X.env x=pure x) (I:Inv X pins σ H s) (h:qH wi sub g tc te σ H Q)
 (d_:∀D C s4,LcEnd X pins σ Q D C s4->compPost (model X.prog X.w) X.A X.xe use R (.ref D) C (.ok .next) s4):
 wpAny (model X.prog X.w) X.A (comprehension (.ListComp elt [⟨tg,iter,ifs,0⟩] scope pos) scope X.env fpos (newList []) false (eval iter X.env) use) R X.xe s:=by
 obtain⟨cl,hclos,hcl,hclf⟩:=pL (env:=X.env) (scope:=scope) λx hx hf=>I.ok.has x.1 (hfr x hx hf);refine wpAny_comprehension_free rfl hs hclos hk f_ ?_;show wpAny _ _ (eval iter X.env) _ _ _;refine thn (hi pins s σ H _ I h) λv s1 h1=>thn h1 λitv s2 h2=>?_;obtain⟨it,fp,tn,J,H2,e,I2,T,st2,f2,W,⟨m0,w0⟩,turn⟩:=h2;subst e;refine Nq (wpAny_newFunctionEnv hnc (by intro y hy;simp at hy) (λh₁ hns₁ hsb₁=>?_) hk);dsimp only at hns₁ hsb₁ ⊢;generalize hH2:s2.heap.push { cls:=.type "list",dict:=none,data:=.seq ([]:List Value).toArray }=G2 at hns₁ hsb₁ ⊢;have hC:G2.objs.size=s2.heap.objs.size+1:=by rw[<- hH2,OP]
 have hDC:s2.heap.objs.size≠G2.objs.size:=by omega
 have below:∀b,b<s2.heap.objs.size->b≠G2.objs.size/\b≠s2.heap.objs.size:=λb hb=>⟨by omega,by omega⟩;have old:∀b o,s2.heap.get? b=some o->h₁.get? b=some o:=λb o e=>hsb₁.extBut b o (below b (A_ e)).1 (r_ _ (hH2 ▸ r_ _ e));have hD₁:h₁.get? s2.heap.objs.size=some { cls:=.type "list",dict:=none,data:=.seq ([]:List Value).toArray }:=hsb₁.extBut _ _ hDC (r_ _ (hH2 ▸ Em _ rfl));have fresh:∀a,s2.heap.objs.size<=a->s2.heap.get? a=none:=λa ha=>O6 ha;have cellOld:∀x c,cl.lookup x=some c->c<s2.heap.objs.size:=λx c e=>by obtain⟨v,z⟩:=I2.cell x c (hcl x c e);exact z.lt
 have fpOld:∀b∈fp,b<s2.heap.objs.size:=λb hb=>by obtain⟨o,e,_⟩:=T.obj _ _ st2 b hb;exact A_ e
 let Y:Cx:=bY X N scope cl G2.objs.size s2 H2 fp
 have okY:Y.Ok
  := by
  refine⟨I2.ok.mod,?_,I2.ok.glob,I2.ok.blt,?_,λx y c e1 e2=>I2.ok.inj x y c (hcl x c e1) (hcl y c e2),λx hx=>?_,λx c hfn _=>absurd hfn w_,I2.ok.hd,I2.ok.frames,.inl rfl,
   λb hb=>⟨?_,λx c e z=>?_⟩,I2.bs,MV I2.ok.bsz I2.sz,λb o e hb=>?_,λb hb hf=>?_,I2.stack,I2.stkFree⟩
  .show (relabel scope X.env).kind=.function;exact hk
  .show s2.heap.objs.size<=G2.objs.size;omega
  .have hx':(
    relabel scope X.env).names.lookup x=some .cell\/(relabel scope X.env).names.lookup x=some .free:=hx
   have:∃k,
    (x,k)∈scope.names/\k=.free:=by
    have gen:∀(names:List (Str×NameKind)),(∀y∈names,y.2 ≠ .cell)->∀kk,(kk=NameKind.cell\/kk=NameKind.free)->(names.map λ(n,k)=>if (k==NameKind.free&&X.env.scope.kind == .function&&X.env.kindOf n==some .cell) then (n,NameKind.cell) else (n,k)).lookup x=some kk->∃k,(x,k)∈names/\k=.free:=by
     intro names;induction names with
     |nil=>intro _ kk _ e;simp at e
     |
      cons y r ih=>
      intro hn kk hkk e;obtain⟨n,k⟩:=y;rw[z_,ND] at e;by_cases hkf:k=.free
      .subst hkf;by_cases hxn:x=n
       .exact⟨.free,by rw[hxn];exact s_,rfl⟩
       .have hb:(x==(if (NameKind.free==NameKind.free&&X.env.scope.kind == .function&&X.env.kindOf n==some .cell)=true then (n,NameKind.cell) else (n,NameKind.free)).1)=false:=by split <;> exact E_.mpr hxn
        rw[hb] at e;obtain⟨k',m,q⟩:=ih (λz hz=>hn z (q_ _ hz)) kk hkk e;exact⟨k',q_ _ m,q⟩
      .have hb0:(k==NameKind.free&&X.env.scope.kind == .function&&X.env.kindOf n==some .cell)=false:=by
        have:(k==NameKind.free)=false:=by simpa using hkf
        rw[this];rfl
       rw[hb0] at e;simp only[NX,OO] at e;cases q:x==n with
       |
        true=>
        rw[q] at e;have e':k=kk:=J_ e;subst e';rcases hkk with z |z
        .exact absurd z (hn (n,k) s_)
        .exact absurd z hkf
       |false=>rw[q] at e;obtain⟨k',m,q⟩:=ih (λz hz=>hn z (q_ _ hz)) kk hkk e;exact⟨k',q_ _ m,q⟩
    rcases hx' with z |z
    .exact gen scope.names hnc _ (.inl rfl) z
    .exact gen scope.names hnc _ (.inr rfl) z
   obtain⟨k,m,q⟩:=this;exact hclf (x,k) m q
  .show b≠G2.objs.size;exact (below b (fpOld b hb)).1
  .exact (f2 b hb).2.2.2.2.1 x c (hcl x c e) z
  .rcases (f2 b hb).2.2.2.1 with z |z
   .exact I2.ok.noex b o e z
   .exact absurd (I_ (A_ e) (MV I2.ok.bsz z)) (Nk _)
  .have hf':b∈frs X.stack:=hf;rcases G_.mp (I2.stkSub b hf') with z |z
   .exact (f2 b hb).2.1 z
   .exact (f2 b hb).2.2.1 z
 have startLoc
  : ∃m,h₁.Ns G2.objs.size m/\∀(i:Nat) (x:Str) (v:V),N[i]?=some x->(eU sub σ)[i]?=some (some v)->Vis (relabel scope X.env) x->∃u,RelV v u/\AF Y.env h₁ m x u:=by
  refine⟨_,hns₁,λj x v e1 e2 e3=>?_⟩;unfold eU at e2;rw[MQ] at e2;cases q:sub[j]? with
  |none=>rw[q] at e2;cases e2
  |
   some o=>
   rw[q] at e2;cases o with
   |none=>cases e2
   |
    some i=>
    obtain⟨hNi,hfree⟩:=hsub j i x q e1;have e2':(σ[i]?).bind id=some v:=J_ e2;have e2'':σ[i]?=some (some v):=by
     cases z:σ[i]? with
     |none=>rw[z] at e2';cases e2'
     |some y=>rw[z] at e2';rw[show y=some v from e2']
    obtain⟨m2,hn2,hl2⟩:=I2.loc;have hkx:=hfr (x,.free) (NB hfree) rfl;obtain⟨u,r,l⟩:=hl2 i x v hNi e2'' (by rcases hkx with z |z;exact .inr (.inl z);exact .inr (.inr z));refine⟨u,r,.inr ⟨?_,?_⟩⟩
    .rcases e3
      with z |z |z
     .exfalso;have gen:∀(names:List (Str×NameKind)),names.lookup x=some .free->(names.map λ(n,k)=>if (k==NameKind.free&&X.env.scope.kind == .function&&X.env.kindOf n==some .cell) then (n,NameKind.cell) else (n,k)).lookup x=some .local->False:=by
       intro names;induction names with
       |nil=>intro e _;simp at e
       |
        cons y r ih=>
        intro e1 e2;obtain⟨n,k⟩:=y;rw[ND] at e1;rw[z_,ND] at e2;by_cases hxn:x=n
        .have hb1:(x==n)=true:=MX.mpr hxn;rw[hb1] at e1;have:k=.free:=J_ e1;subst this;split at e2
         .rename_i hq;split at e2 <;> cases e2
         .rename_i hq;split at hq <;> (rw[hb1] at hq;cases hq)
        .have hb1:(x==n)=false:=E_.mpr hxn;rw[hb1] at e1;refine ih e1 ?_;split at e2
         .rename_i hq;split at hq <;> (rw[hb1] at hq;cases hq)
         .exact e2
      exact gen scope.names hfree z
     .exact .inl z
     .exact .inr z
    .obtain⟨c,hc'⟩:=hclf (x,.free) (NB hfree) rfl;refine⟨c,hc',?_⟩;rcases l with ⟨k,_⟩ |⟨_,c2,ec2,z⟩
     .rcases hkx with z |z <;> (rw[k] at z;cases z)
     .have:=hcl x c hc'
      rw[ec2] at this;cases this;obtain⟨oc,hoc,hd⟩:=z;exact⟨oc,old _ _ hoc,hd⟩
 have pinD:∀{σ':St}{H':Hp}{s':Shared}{pl:Pq}{o:Obj},Inv Y pl σ' H' s'->s'.heap.get? s2.heap.objs.size=some o->(∀v,o.data ≠ .cell v)->H' s2.heap.objs.size=none->Inv Y [(s2.heap.objs.size,o)] σ' H' s':=λ{σ' H' s' pl o} IY e d n=>
  IY.pins_of λp hp=>by
   have e':p=(s2.heap.objs.size,o):=by simpa using hp
   subst e';refine⟨e,n,?_,?_,d⟩
   .show s2.heap.objs.size≠G2.objs.size;omega
   .intro hf;have hf':s2.heap.objs.size∈frs X.stack:=hf;obtain⟨_,o',ho',_⟩:=I2.stack.mem hf';exact absurd (A_ ho') (Nk _)
 have fpY:∀{H':Hp}{pl:Pq},(∀b∈fp,H' b=none)->(∀p∈pl,p.1∉fp)->∀b∈fp,FpOk Y pl H' b:=λ{H' pl} hn hp b hb=>by
  refine⟨hn b hb,?_,?_,.inl hb,λx c e=>?_,λp hp'=>?_⟩
  .exact (okY.exf b hb).1
  .exact okY.exfs b hb
  .exact (okY.exf b hb).2 x c e
  .intro z;have hp'':p∈pl:=by simpa [Y,bY] using hp'
   exact hp p hp'' (by rw[z];exact hb)
 have hDfp:s2.heap.objs.size∉fp:=λz=>Nk _ (fpOld _ z);have loop
  : ∀s₃:Shared,s₃={ s2 with heap:=h₁,toks:=s2.toks+([]:List (Str×Value)).length }->
  codeAny (model X.prog X.w) X.A (.compLoop (.ListComp elt [⟨tg,iter,ifs,0⟩] scope pos) 0 (.ref it) (.ref s2.heap.objs.size) (compEnvC scope cl G2.objs.size X.env))
   (compPost (model X.prog X.w) X.A X.xe use R (.ref s2.heap.objs.size) G2.objs.size) s₃:=by
  rintro s₃ rfl;have IY0:Inv Y [(s2.heap.objs.size,{ cls:=.type "list",dict:=none,data:=.seq ([]:List Value).toArray })] (eU sub σ) H2 { s2 with heap:=h₁,toks:=s2.toks+([]:List (Str×Value)).length }:=by
   have J0:Inv Y [] (eU sub σ) H2 { s2 with heap:=h₁,toks:=s2.toks+([]:List (Str×Value)).length }:=by
    refine⟨okY,rfl,I2.bare,Un.kept old,startLoc,λx c e=>?_,I2.hok.fresh (by show s2.heap.objs.size<=G2.objs.size;omega),λx c e=>I2.freeC x c (hcl x c e),λp hp=>absurd (show p∈([]:Pq) from hp) (by simp),I2.hok.kept old,?_⟩
    .obtain⟨v,oc,hoc,hd⟩:=I2.cell x c (hcl x c e);exact⟨v,oc,old _ _ hoc,hd⟩
    .show (eU sub σ).length=N.length;unfold eU;rw[p_];exact hsl
   exact pinD J0 hD₁ (λv z=>by cases z) I2.fresh
  refine sA (λn s'=>∃(i:Nat) (ys:List V) (its:List Value) (k:Nat) (σ':St) (H':Hp),Inv Y [(s2.heap.objs.size,{ cls:=.type "list",dict:=none,data:=.seq its.toArray k })] σ' H' s'/\Vals ys its/\tn i s'.heap/\(∀b∈fp,H' b=none)/\W i n ys σ' H') ?_ m0
   ⟨0,[],[],0,eU sub σ,H2,IY0,.nil,T.keep _ _ _ st2 (λb hb o e=>old b o e),λb hb=>(f2 b hb).1,w0⟩
  rintro n s3 ⟨i,ys,its,k,σ3,H3,I3,rv,st3,fr3,w3⟩;have npl:∀(o:Obj),∀p∈[(s2.heap.objs.size,o)],p.1∉fp:=λo p hp=>by
   have e':p=(s2.heap.objs.size,o):=by simpa using hp
   subst e';exact hDfp
  rcases turn i n ys σ3 H3 w3 with ⟨stop,hz,qn⟩ |⟨go,hz,Nx,hNx,step⟩
  .refine MU (T.done Y rfl rfl rfl hc i _ s3 σ3 H3 (λ_ _=>False) I3 (fpY fr3 (npl _)) st3 stop) (λr s4 ⟨hr,I4⟩=>?_) λ_ _ z=>z;subst hr;obtain⟨m4,hn4,_⟩:=I4.loc;have hCfree:H3 G2.objs.size=none:=I4.free;have hD4:=I4.pin (s2.heap.objs.size,{ cls:=.type "list",dict:=none,data:=.seq its.toArray k }) (MW _ s_);have un4:Un (frs X.stack) fp H2 H3 s2.heap s4.heap:=I4.base;have ne2:∀b o,s2.heap.get? b=some o->b≠G2.objs.size:=λb o e=>(below b (A_ e)).1;have hDfree:H3 s2.heap.objs.size=none:=hD4.2.1;have sz0:X.s₀.heap.objs.size<=s2.heap.objs.size:=I2.sz;refine d_ s2.heap.objs.size G2.objs.size s4 ⟨⟨m4,hn4⟩,by rw[hC];exact Nat.lt_succ_self _,I2.lt,λx c e=>?_,λp hp=>A_ (I2.pin p hp).1,sz0,upd H3 s2.heap.objs.size (.lst ys),by rw[aE (Ne.symm hDC)];exact hCfree,qn _ hDfree,λh' hs'=>?_⟩
   .obtain⟨v,q⟩:=I2.cell x c e;exact q.lt
   have up:∀b o,b≠G2.objs.size->s4.heap.get? b=some o->h'.get? b=some o:=λb o hb e=>hs'.extBut b o hb e;have un5:Un (frs X.stack) fp H2 H3 s2.heap h':=by
    refine⟨λb o e n hb hx=>up b o (ne2 b o e) (un4.keep b o e n hb hx),λb o e n hb hx=>?_,un4.free,λb o e hx=>?_,un4.tups,un4.frzs,un4.tbls⟩
    .obtain⟨sl,q⟩:=un4.slot b o e n hb hx;exact⟨sl,up b _ (ne2 b o e) q⟩
    .obtain⟨o',q⟩:=un4.there b o e hx;exact⟨o',up b _ (ne2 b o e) q⟩
   have hok5:HOk X.prog X.w H3 h':=λb u e=>(I4.hok b u e).stay (λc v hcc q=>up c v (λz=>by
    rcases hcc with zz |zz
    .rw[zz] at z;rw[z,hCfree] at e;cases e
    .rw[z,hCfree] at zz;cases zz) q) (λ_ q=>q) λ_ _ q=>q
   have I5:Inv X pins σ H3 { s4 with heap:=h' }:=I2.call' (s':={ s4 with heap:=h' }) (ch:=fp) I4.os un5 hok5 I4.bare λb hb=>by obtain⟨_,g1,_,g3,g4,g5⟩:=f2 b hb;exact⟨g3,g1,g4,g5⟩
   refine I5.track (o:=.lst ys) hDfree (O6 sz0) (Ov I2.lt) (λx c e z=>?_) (λp hp z=>?_) ?_
   .obtain⟨v,q⟩:=I2.cell x c e;exact absurd q.lt (by rw[z];exact Nk _)
   .exact absurd (A_ (I2.pin p hp).1) (by rw[z];exact Nk _)
   .exact⟨hz,its,k,rv,up _ _ hDC hD4.1⟩
  .refine MU (T.item Y rfl rfl rfl hc i _ s3 σ3 H3 (λ_ _=>False) I3 (fpY fr3 (npl _)) st3 go) (λr s4 ⟨u,hr,h4⟩=>?_) λ_ _ z=>z;subst hr;refine MU h4 (λ_ s5 ⟨x,H5,I5,r5,y5,st5,fr5⟩=>?_) λ_ _ z=>z;have I5':=I5.pinned (fpY fr5 (npl _)) (T.obj _ _ st5);refine MU (hg cl G2.objs.size s2 H2 fp _ s5 σ3 H5 x u _ I5' r5 (step x H5 y5)) (λ_ s6 ⟨σ6,H6,I6,q6⟩=>?_) λ_ _ z=>z;refine MU (ht cl G2.objs.size s2 H2 fp _ s6 σ6 H6 _ I6 q6) (λok s7 ⟨H7,I7,q7⟩=>?_) λ_ _ z=>z;have back:∀{σ':St}{H':Hp}{s':Shared},Inv Y ([(s2.heap.objs.size,{ cls:=.type "list",dict:=none,data:=.seq its.toArray k })]++ka fp s5.heap) σ' H' s'->tn (i+1) s'.heap/\∀b∈fp,H' b=none:=λ{σ' H' s'} IB=>by refine⟨T.keep _ _ _ st5 λb hb o e=>(IB.pin (b,o) (MW _ (MW _ (gC hb e)))).1,λb hb=>?_⟩;obtain⟨o,e,d⟩:=T.obj _ _ st5 b hb;exact (IB.pin (b,o) (MW _ (MW _ (gC hb e)))).2.1
   cases ok with
   |false=>rw[if_neg w_] at q7;obtain⟨m',hm,w7⟩:=hNx _ _ _ q7;rw[if_neg w_];obtain⟨t7,f7⟩:=back I7;exact⟨m',hm,i+1,ys,its,k,σ6,H7,I7.unpinned,rv,t7,f7,w7⟩
   |
    true=>
    rw[if_pos rfl] at q7;rw[if_pos rfl];refine MU (he cl G2.objs.size s2 H2 fp _ s7 σ6 H7 _ I7 q7) (λy s8 zz=>exA zz λyv H8 I8 r8 q8=>?_) λ_ _ z=>z;obtain⟨m',hm,w8⟩:=hNx _ _ _ q8;obtain⟨t8,f8⟩:=back I8;have I9:=I8.unpinned;have hD9:=I9.pin (s2.heap.objs.size,{ cls:=.type "list",dict:=none,data:=.seq its.toArray k }) (MW _ s_);have e9:s8.heap.get? s2.heap.objs.size=some { cls:=.type "list",dict:=none,data:=.seq its.toArray k }:=hD9.1;have a_:=rv.length;refine Pa F.slot_list_append ⟨_,e9,rfl⟩ F.entry_list_append (F.args_list_append_2 _ _) (PySem.list_append _ its.toArray k y (by rw[y_];omega)) ⟨e9,?_⟩;have q9:=PySem.IsL.update e9 (λxs=>xs.push y);have ea:its.toArray.push y=(its++[y]).toArray:=by simp
    rw[ea] at q9;have k9:∀b o,b≠s2.heap.objs.size->s8.heap.get? b=some o->(s8.heap.update s2.heap.objs.size (Obj.mapSeq λxs=>xs.push y)).get? b=some o:=λb o hb e=>(OS _ _ (Ne.symm hb)).trans e;have I10:Inv Y [] σ6 H8 { s8 with heap:=s8.heap.update s2.heap.objs.size (Obj.mapSeq λxs=>xs.push y) }:=
     (I9.pins_of (pins':=[]) (λp hp=>nomatch hp)).turned (t':=s8.toks) k9 hD9.2.1 hD9.2.2.1 (.inr (u_ _)) (λx c e z=>absurd (cellOld x c e) (by rw[z];exact Nk _))
      (λp hp=>absurd (show p∈([]:Pq) from hp) (by simp))
    refine⟨m',hm,i+1,ys++[yv],its++[y],_,σ6,H8,pinD I10 q9 (λv z=>by cases z) hD9.2.1,rv.append (.cons r8 .nil),?_,f8,w8⟩;exact T.keep _ _ _ t8 λb hb o e=>k9 b o (λz=>hDfp (by rw[<- z];exact hb)) e
 exact codeAny_compStart_list (loop _ rfl) (T.self _ 0 _ _ _ (T.keep _ _ _ st2 λb hb o e=>old b o e) (loop _ rfl))
def Jo{elt iter tg:Expr}{ifs:List Expr}{scope:Scope}{pos:Pos}{wi:TI}{g:TG}{tc:TT}{te:TE}{N:List Str}{sub:Pu}
 (hc:X.calm=true) (hi:PI X tg iter wi)
 (hk:scope.kind=.function) (hnc:∀x∈scope.names,x.2 ≠ .cell) (f_:∀x∈scope.names,x.2=.local->scope.names.lookup x.1=some .local)
 (hfr:∀x∈scope.names,x.2=.free->X.env.kindOf x.1=some .cell\/X.env.kindOf x.1=some .free)
 (hsl:sub.length=N.length) (hsub:∀(j i:Nat) (x:Str),sub[j]?=some (some i)->N[j]?=some x->X.N[i]?=some x/\scope.names.lookup x=some .free)
 (hg:∀cl C s₂ H fp,PG (bY X N scope cl C s₂ H fp) tg g) (ht:∀cl C s₂ H fp,PTs (bY X N scope cl C s₂ H fp) ifs tc) (he:∀cl C s₂ H fp,PE (bY X N scope cl C s₂ H fp) elt te)
 (hs:∀x,foldedSetIterable iter X.env x=pure x):
 PE X (.ListComp elt [⟨tg,iter,ifs,0⟩] scope pos) (qH wi sub g tc te):=by
 intro pins s σ H Q I h;rw[eval_ListComp];refine u7 hc hi hk hnc f_ hfr hsl hsub hg ht he hs I h λD C s4 e=>?_;obtain⟨m,hm⟩:=e.ns;obtain⟨H',_,q,i⟩:=e.inv;exact⟨m,hm,λh' hs'=>⟨.ref D,H',i h' hs',rfl,q⟩⟩
noncomputable def qF (M:List Str) (names:List (Str×NameKind)) (sub:Pu) (N:List Str):Bool:=(sub.zip N).all λp=>match p.1 with
 |none=>true
 |some i=>M[i]?==some p.2&&names.lookup p.2==some .free
def tO{M:List Str}{names:List (Str×NameKind)}{sub:Pu}{N:List Str}(h:qF M names sub N=true)(j i:Nat)(x:Str)(h1:sub[j]?=some (some i))(h2:N[j]?=some x):
 M[i]?=some x/\names.lookup x=some .free:=by
 unfold qF at h;rw[K_] at h;have hm:(some i,x)∈sub.zip N:=by refine Oy (i:=j) ?_;rw[List.getElem?_zip_eq_some];exact⟨h1,h2⟩
 have q:=h _ hm;simp only[t_,MX] at q;exact q
noncomputable def wR (kn names:List (Str×NameKind)):Bool:=names.all λx=>x.2 != .free || kn.lookup x.1==some .cell || kn.lookup x.1==some .free
def vP{kn names:List (Str×NameKind)}(h:wR kn names=true):∀x∈names,x.2=.free->kn.lookup x.1=some .cell\/kn.lookup x.1=some .free:=λx hx hf=>by unfold wR at h;rw[K_] at h;have q:=h x hx;rw[hf] at q;simpa using q
end
open PySem PySem.Spec PyProof.Rows PySem.W PySem.Builtin PySem.Builtin.ObjectAttr PySem.Builtin.Getset_descriptor
structure XCls(K:W.Frag)(C:Addr):Prop where
 cls:(clsIn K C).isSome=true
 ga:findIn K (.ref C) "__getattribute__"=some (some (.builtin "BaseException.__getattribute__"))
 gt:findIn K (.ref C) "__getattr__"=some none
 at_:findIn K (.ref C) "__class__"=some (some (.builtin "object.__class__"))
 gs:specialIn K (.builtin "object.__class__") "__get__"=some (some (.builtin "getset_descriptor.__get__"))
 tk:takesIn K (.builtin "object.__class__")=some true
 mo:mroIn K C (.type "object")=some true
 mb:mroIn K C (.type "BaseException")=some true
section
variable{prog:Program}{w:World}{A:Around}{E:Pt}{K:W.Frag}{x C:Addr}{o:Obj}
def ik(hx:h.get? x=some o)(hc:o.cls=.ref C):Looks M h (typeOf (.ref x)) (.ref C):=hc ▸ (Looks.ld hx).andThen .now
def Cr(X:K.In h)(T:XCls K C):Looks M h (find (.ref x) (.ref C) "__class__") (.bind (.builtin "getset_descriptor.__get__") (.builtin "object.__class__")):=by have L1:=looks_findIn (M:=M) X T.at_;have L2:Looks M h (getOf (some (.builtin "object.__class__"))) (some (.builtin "getset_descriptor.__get__")):=looks_specialIn X T.gs;have L3:=looks_takesIn (M:=M) X T.tk;refine L1.andThen (L2.andThen ?_);exact (show Looks M h (dataDescriptor? (some (.builtin "object.__class__")) (some (.builtin "getset_descriptor.__get__"))) (some (.builtin "getset_descriptor.__get__",.builtin "object.__class__")) from L3.andThen .now).andThen (Looks.tag .now)
def p8(X:K.In s.heap)(hx:s.heap.get? x=some o)(hc:o.cls=.ref C)(T:XCls K C)
 (h:R (.ok (.ret (.ref C))) s):codeAny (model prog w) A (.call (.builtin "getset_descriptor.__get__") ⟨[.builtin "object.__class__",.ref x,tp],[]⟩) R s:=by
 obtain⟨hh,g,dr,t,os⟩:=s;have L0:=ik (M:=model prog w) hx hc;have L1:=looks_mroIn (M:=model prog w) X T.mo;refine codeAny_call_builtin KF.slot_gs.plain KF.entry_gs (KF.slot_gs.check _ _ _ _ _ _ _ _ KF.type_class (KF.args_gs _ _ _) ?_);unfold Builtin.«getset_descriptor.__get__» descrGet;rw[dga_obj];refine o_ (v_ ?_);unfold descrGetter descrCheckInstance descrNameAndClass isInstance;simp only[KF.owner_class];repeat lk
 refine⟨Code.quiet_builtin _ (by decide),Pb KF.entry_class ?_⟩;unfold Builtin.«object.__class__» shownTypeOf;repeat lk
 exact h
def zm(X:K.In s.heap)(hx:s.heap.get? x=some o)(hc:o.cls=.ref C)(T:XCls K C)(hq:Q () s):
 wpAny M A (checkBuiltinCall "BaseException.__getattribute__" ⟨[.ref x,nameV],[]⟩) Q E s:=by
 obtain⟨h,g,dr,t,os⟩:=s;have hk:builtinKind "BaseException.__getattribute__"=some .slot:=by decide
 have hsplit:splitId "BaseException.__getattribute__"=some ("BaseException", "__getattribute__"):=by decide
 have ha:=PySem.F.args_bexc_ga (.ref x) nameV;have L0:=ik (M:=M) hx hc;have LM:=looks_mroIn (M:=M) X T.mb;have LI:Looks M h (isInstance (.ref x) (.type "BaseException")) true:=L0.andThen LM;simp only[checkBuiltinCall,hk,hsplit];refine o_ ?_;refine LI.at ?_;repeat (first |wp_step)
 all_goals exact hq
def Ij(X:K.In s.heap)(hx:s.heap.get? x=some o)(hc:o.cls=.ref C)(T:XCls K C)(h:Q (some (.ref C)) { s with toks:=s.toks+1 }):
 wpAny (model prog w) A (getAttr? (.ref x) "__class__") Q E s:=by
 obtain⟨hh,g,d,t,os⟩:=s;have L0:=ik (M:=model prog w) hx hc;have L1:=looks_findIn (M:=model prog w) X T.ga;have L2:=looks_findIn (M:=model prog w) X T.gt;have LF:=Cr (M:=model prog w) (x:=x) X T;have f3:=PySem.F.excAttr_ValueError.ga.bind (.ref x);have hx2:(Value.builtin "BaseException.__getattribute__" == Value.builtin "object.__getattribute__")=false:=by decide
 unfold getAttr? getAttrBy? getAttrBy;refine o_ (wpAny_mkText (o_ (OY (Nl (o_ (L0.at (o_ (L1.at ?_))))))));dsimp only;rw[if_neg (by rw[hx2];simp)];unfold getAttrByItsOwn hookBefore;rw[if_pos (show onTheHeap (Value.ref C)=true from rfl)];refine o_ (L2.at ?_);unfold callGetattribute;refine o_ (OY (Nl ?_));rw[if_neg (by simp)];unfold boundAndCalled;refine o_ (wpAny_of_eq f3 ?_);refine wpAny_call (codeAny_call_builtin PySem.F.excAttr_ValueError.ga.plain PySem.F.entry_bexc_ga (zm X hx hc T ?_));unfold Builtin.«object.__getattribute__»;repeat (first |(refine o_ (L0.at ?_)) |(refine o_ (LF.at ?_)) |wp_step)
 refine p8 (s:=⟨hh,g,d,t+1,os⟩) X hx hc T ?_;repeat (first |exact h |wp_step)
def lP(x:Addr)(C:Addr)(h:Heap):Prop:=∃o vs,h.get? x=some o/\o.cls=.ref C/\o.data=.fields vs
def BQ(T:XCls K C):KitX K (.ref x) (.ref C) (lP x C) where
 ty:=λM h _ ⟨o,_,hx,hc,_⟩=>ik hx hc
 it:=λM h X _=>by
  obtain⟨cd,k_⟩:=Nu.mp T.cls;unfold clsIn at k_;split at k_
  .rename_i c' d' cd' sl' ho;intro A' Q' E' s' k q;unfold isType loadHead;exact o_ (wpAny_loadPart (k _ _ (X _ _ ho)) (v_ q))
  .cases k_
 ne:=λh tp dd its n sl X htp=>by
  obtain⟨cd,k_⟩:=Nu.mp T.cls;refine Bool.eq_false_iff.mpr λq=>?_;have e:C=tp:=Value.ref.inj (MX.mp q);subst e;unfold clsIn at k_;split at k_
  .rename_i c' d' cd' sl' ho;have z:=(X _ _ ho).symm.trans htp;cases z
  .cases k_
 ca:=λX ⟨o,_,hx,hc,_⟩ k=>Ij X hx hc T k
end
inductive TyX(K:W.Frag)(H:Hp):V->Value->Prop where
 |of {x:V}{t:Value} (h:TyOf K H x t):TyX K H x t
 |exc {a C:Addr} (e:H a=some (.ext (lP a C))) (T:XCls K C):TyX K H (.ref a) (.ref C)
 |sqT {a:Addr}{xs:List V} (h:SqT K H a xs):TyX K H (.ref a) (.type "tuple")
 |sqL {a:Addr}{xs:List V} (h:SqL K H a xs):TyX K H (.ref a) (.type "list")
section
variable{X:Cx}{pins:Pq}{σ:St}{H:Hp}{s:Shared}{c:Value}
def vo(I:Inv X pins σ H s)(rx:RelV x u)(ty:TyX X.K H x t):∃Hh:Heap->Prop,KitX X.K u t Hh/\Hh s.heap/\u ≠ .builtin "__main__.__loader__#opaque":=by
 cases ty with
 |exc ea T=>cases (show u=Value.ref _ from rx);exact⟨_,BQ T,(I.hok _ _ ea).1,λz=>nomatch z⟩
 |sqT h=>cases (show u=Value.ref _ from rx);obtain⟨its,rv,⟨o,e,c,_⟩,_⟩:=I.tuple h;exact⟨_,kitx_tuple,⟨o,e,c⟩,λz=>nomatch z⟩
 |sqL h=>cases (show u=Value.ref _ from rx);obtain⟨its,rv,⟨o,n,e,c,_⟩,_⟩:=I.list h;exact⟨_,kitx_list,⟨o,e,c⟩,λz=>nomatch z⟩
 |
  of ty=>
  cases ty with
  |non=>cases (show u=Value.none from rx);exact⟨_,kitx_none,True.intro,λz=>nomatch z⟩
  |bl y=>cases (show u=Value.bool y from rx);exact⟨_,kitx_bool,True.intro,λz=>nomatch z⟩
  |int i=>obtain⟨t,q⟩:=(show ∃t,u=Value.int i t from rx);cases q;exact⟨_,kitx_int,True.intro,λz=>nomatch z⟩
  |str y=>obtain⟨t,q⟩:=(show ∃t,u=Value.str y t from rx);cases q;exact⟨_,kitx_str,True.intro,λz=>nomatch z⟩
  |flt y=>obtain⟨t,q⟩:=(show ∃t,u=Value.float y t from rx);cases q;exact⟨_,kitx_float,True.intro,λz=>nomatch z⟩
  |@lst a xs ea=>cases (show u=Value.ref a from rx);obtain⟨_,_,n,_,h1⟩:=(show ObjOk X.prog X.w H s.heap a (.lst xs) from I.hok a _ ea);exact⟨_,kitx_list,⟨_,h1,rfl⟩,λz=>nomatch z⟩
  |@frz a ob xs ea=>cases (show u=Value.ref a from rx);obtain⟨_,_,_,n,_,h1⟩:=(show ObjOk X.prog X.w H s.heap a (.frz ob (.lst xs)) from I.hok a _ ea);exact⟨_,kitx_list,⟨_,h1,rfl⟩,λz=>nomatch z⟩
  |@tup a xs ea=>cases (show u=Value.ref a from rx);obtain⟨_,_,_,p⟩:=(show ObjOk X.prog X.w H s.heap a (.tup xs) from I.hok a _ ea);obtain⟨o,h1,h2,_⟩:=p;exact⟨_,kitx_tuple,⟨o,h1,h2⟩,λz=>nomatch z⟩
  |@dK a kvs ea=>cases (show u=Value.ref a from rx);obtain⟨_,_,vs,_,p⟩:=(show ObjOk X.prog X.w H s.heap a (.dK kvs) from I.hok a _ ea);obtain⟨o,es,ep,h1,h2,_⟩:=p;exact⟨_,kitx_dict,⟨o,h1,h2.1⟩,λz=>nomatch z⟩
  |@dT a kvs ea=>cases (show u=Value.ref a from rx);obtain⟨_,_,xs,_,o,es,ep,h1,h2,_⟩:=(show ObjOk X.prog X.w H s.heap a (.dT kvs) from I.hok a _ ea);exact⟨_,kitx_dict,⟨o,h1,h2.1⟩,λz=>nomatch z⟩
  |@ins a C dx fs ea cl ha hn htk hm=>cases (show u=Value.ref a from rx);obtain⟨mA,O,_⟩:=EB I.hok ea;obtain⟨od,J,_⟩:=O.look;exact⟨_,kitx_own (cl.get _) cl.hd ha hn htk hm,J,λz=>nomatch z⟩
end
section
variable{X:Cx}
noncomputable def fU:V->Option Value
 |.ref C=>some (.ref C)
 |.ty T=>some (.type T)
 |_=>none
def tF(h:fU c=some v)(r:RelV c u):u=v:=by
 cases c with
 |ref C=>cases r;exact J_ h
 |ty T=>cases r;exact J_ h
 |_=>cases h
theorem pJ:∀{cs:List V}{us vs:List Value},cs.mapM fU=some vs->Vals cs us->us=vs
 |
  [],_,vs,h,.nil=>by
  have h':some ([]:List Value)=some vs:=h;exact J_ h'
 |
  c::cs,_,vs,h,.cons r rr=>by
  rw[List.mapM_cons] at h;cases q:fU c with
  |none=>rw[q] at h;cases h
  |
   some v=>
   rw[q] at h;cases q2:cs.mapM fU with
   |none=>rw[q2] at h;cases h
   |some vs'=>rw[q2] at h;have h':some (v::vs')=some vs:=h;cases h';rw[tF q r,pJ q2 rr]
def CG:CallR X (.builtin "isinstance") (λxs H Q=>∃x c t v b,xs=[x,c]/\TyX X.K H x t/\fU c=some v/\kitOne X.K t v=some b/\Q (.bl b) H):=by intro pins s σ H xs us Q I r h;obtain⟨x,c,t,v,b,rfl,ty,hc,hk,q⟩:=h;obtain⟨u,w',rfl,rx,rc⟩:=qE r;obtain rfl:=tF hc rc;obtain⟨Hh,Z,p,hne⟩:=vo I rx ty;exact kia_one Z I.kIn p hk hne λtk=>⟨.bl b,H,I.tok _,rfl,q⟩
end
def ObjOk.there(x:ObjOk P w H h a o):∃u,h.get? a=some u:=by
 cases o with
 |lst xs=>obtain⟨_,_,_,_,e⟩:=x;exact⟨_,e⟩
 |tup xs=>obtain⟨_,_,_,ob,e,_⟩:=x;exact⟨_,e⟩
 |dK kvs=>obtain⟨_,_,_,_,o,_,_,e,_⟩:=x;exact⟨_,e⟩
 |dT kvs=>obtain⟨_,_,_,_,o,_,_,e,_⟩:=x;exact⟨_,e⟩
 |set S n=>obtain⟨o,_,_,_,e,_⟩:=x;exact⟨_,e⟩
 |ins C dx fs=>obtain⟨_,_,_,e,_⟩:=x;exact⟨_,e⟩
 |own y=>exact x
 |xd fs=>obtain⟨_,⟨_,_,_,e,_⟩,_⟩:=x;exact⟨_,e⟩
 |rng lo hi=>obtain⟨_,_,_,e⟩:=x;exact⟨_,e⟩
 |frz ob u=>obtain⟨e,_⟩:=x;exact⟨_,e⟩
 |tbl ps=>exact⟨_,show h.get? a=some _ from x⟩
 |met f y=>exact⟨_,show h.get? a=some _ from x⟩
 |ext φ=>obtain⟨_,e,_⟩:=x;exact e
structure Fly(P:Program)(w:World)(outer:List Env)(H:Hp)(h₀:Heap)(H':Hp)(ea:Addr)(cls:Value)(h:Heap)(B:Heap)(t:Addr):Prop where
 un:Un (frs outer) [] H H' h₀ h
 hok:HOk P w H' h
 fl:Heap.FlyingW B outer ea cls (.ref t) h
 old:∀b o,h₀.get? b=some o->b∉frs outer->∃o',B.get? b=some o'
 trk:∀b o,H' b=some o->∃o',B.get? b=some o'
def CX1(P:Program)(w:World):CXT:=λouter H s E e s'=>∃(ea t:Addr) (cls:Value) (H':Hp) (B:Heap),e=.ref ea/\s'.os=s.os/\AllBare s'.gens/\Fly P w outer H s.heap H' ea cls s'.heap B t/\E cls none H'
def rC(h:env.frame=some L):frs (env::outer)=L::frs outer:=by unfold frs;rw[NS,h]
section
variable{P:Program}{w:World}{outer:List Env}{H H':Hp}{h₀ h h' B:Heap}{ea t:Addr}{cls:Value}
def Fly.step(F:Fly P w outer H h₀ H' ea cls h B t)(fl':Heap.FlyingW B outer' ea cls (.ref t) h')(up:h.UpToSlots h'):
 Un (frs outer) [] H H' h₀ h'/\HOk P w H' h':=by
 have st:=F.fl.1;have same:∀b o,(∃o',B.get? b=some o')->h.get? b=some o->h'.get? b=some o:=λb o ⟨o',e⟩ q=>by have z:=st b o' e;rw[q] at z;cases z;exact fl'.1 b _ e
 have frame:∀b o,b∈frs outer->h.get? b=some o->∃sl,h'.get? b=some { o with slots:=sl }:=λb o hb q=>by obtain⟨_,o',ho',hd⟩:=F.fl.2.2.1.mem hb;rw[q] at ho';cases ho';exact up b o q hd
 refine⟨⟨λb o e n hb hx=>same b o (F.old b o e hb) (F.un.keep b o e n hb hx),λb o e n hb hx=>?_,F.un.free,λb o e hx=>?_,F.un.tups,F.un.frzs,F.un.tbls⟩,λa o e=>?_⟩
 .obtain⟨sl,q⟩:=F.un.slot b o e n hb hx;obtain⟨sl',q'⟩:=frame b _ hb q;exact⟨sl',q'⟩
 .obtain⟨o',q⟩:=F.un.there b o e hx;by_cases hb:b∈frs outer
  .obtain⟨sl,q'⟩:=frame b _ hb q;exact⟨_,q'⟩
  .exact⟨o',same b o' (F.old b o e hb) q⟩
 .refine (F.hok a o e).stay (λb u hb q=>same b u ?_ q) (λ_ q=>q) λ_ _ q=>q;rcases hb with z |z
  .rw[z];exact F.trk a o e
  .exact F.trk b _ z
end
structure Cx.Top(X:Cx):Prop where
 ex:X.ex=[]
 stk:X.stack=X.env::X.outer
 fr:X.env.frame=some X.env.locals
section
variable{X:Cx}{pins:Pq}{σ:St}{H:Hp}{s s':Shared}{E:XK}{e:Value}
def zR(T:X.Top)(hA:A.frames=some X.stack)(I:Inv X pins σ H s)(h:CX1 X.prog X.w X.stack H s E e s'):
 wpAny (model X.prog X.w) A (leaving X.env e) (λ_ s''=>CX1 X.prog X.w X.outer X.H₀ X.s₀ E e s'') E' s':=by
 obtain⟨ea,t,cls,H',B,rfl,os,bare,F,q⟩:=h;have F0:=F;rw[T.stk] at F;have hf:=rC (outer:=X.outer) T.fr;refine wpAny_leaves_onW (by rw[hA,T.stk]) T.fr F.fl λh'' fl'' up=>?_;obtain⟨un2,hok2⟩:=F.step fl'' up;have exn:∀b,b∉X.ex:=λb z=>by rw[T.ex] at z;cases z
 have neL:∀b o,X.s₀.heap.get? b=some o->b≠X.env.locals:=λb o e=>ML (I_ (A_ e) I.ok.above);have notin:∀b o,X.s₀.heap.get? b=some o->b∉frs X.outer->b∉frs (X.env::X.outer):=λb o e hb z=>by
  rw[hf] at z;rcases G_.mp z with z |z
  .exact neL b o e z
  .exact hb z
 refine⟨ea,t,cls,H',B,rfl,os.trans I.os,bare,⟨⟨λb o e n hb hx=>?_,λb o e n hb hx=>?_,λb o e n hx=>?_,λb o e hx=>?_,λb xs e=>un2.tups b xs (I.base.tups b xs e),λb o xs e=>un2.frzs b o xs (I.base.frzs b o xs e),λb ps e=>?_⟩,hok2,fl'',λb o e hb=>?_,F.trk⟩,q⟩
 .exact un2.keep b o (I.base.keep b o e n hb (exn b)) (I.base.free b o e n (exn b)) (notin b o e hb) (by simp)
 .obtain⟨sl,e1⟩:=I.base.slot b o e n hb (exn b);obtain⟨sl',e2⟩:=un2.slot b _ e1 (I.base.free b o e n (exn b)) (by rw[hf];exact q_ _ hb) (by simp);exact⟨sl',e2⟩
 .obtain⟨o',e1⟩:=I.base.there b o e (exn b);exact un2.free b o' e1 (I.base.free b o e n (exn b)) (by simp)
 .obtain⟨o',e1⟩:=I.base.there b o e (exn b);exact un2.there b o' e1 (by simp)
 .obtain⟨m1,e1⟩:=I.base.tbls b ps e;obtain⟨m2,e2⟩:=un2.tbls b _ e1;exact⟨m1++m2,by rw[e2,Array.append_assoc]⟩
 .obtain⟨o',e1⟩:=I.base.there b o e (exn b);exact F.old b o' e1 (notin b o e hb)
def A5(T:X.Top)(hA:A.frames=some X.stack)(I:Inv X pins σ H s)(hx:Heap.MadeExcOf s.heap h' ea cls args)(q:E cls none H):
 wpAny (model X.prog X.w) A (leaving X.env (.ref ea)) (λ_ s''=>CX1 X.prog X.w X.outer X.H₀ X.s₀ E (.ref ea) s'') E' { s with heap:=h' }:=by
 have hf:=rC (outer:=X.outer) T.fr;have stk:=I.stack;rw[T.stk] at stk;have hin:∀env∈(X.env::X.outer),∀b,env.frame=some b->b∈frs (X.env::X.outer):=λenv he b hb=>List.mem_filterMap.mpr ⟨env,he,hb⟩;refine wpAny_leaves_madeW (base:=W.hideAll s.heap (frs (X.env::X.outer))) (h:=s.heap) (by rw[hA,T.stk]) T.fr (λb o q=>W.of_hideAll _ q) (W.funFrames_hide stk hin) hx λh'' t fl tup tn up=>?_;have inB:∀b o,s.heap.get? b=some o->b∉frs (X.env::X.outer)->(W.hideAll s.heap (frs (X.env::X.outer))).get? b=some o:=λb o e hb=>W.hideAll_get _ e hb;have free:∀b∈frs (X.env::X.outer),H b=none:=λb hb=>I.stkFree b (by rw[T.stk];exact hb);have up2:s.heap.UpToSlots h'':=(Heap.UpToSlots.of_keeps hx.keeps).trans up;have exn:∀b,b∉X.ex:=λb z=>by rw[T.ex] at z;cases z
 have neL:∀b o,X.s₀.heap.get? b=some o->b≠X.env.locals:=λb o e=>ML (I_ (A_ e) I.ok.above);have notin:∀b o,X.s₀.heap.get? b=some o->b∉frs X.outer->b∉frs (X.env::X.outer):=λb o e hb z=>by
  rw[hf] at z;rcases G_.mp z with z |z
  .exact neL b o e z
  .exact hb z
 have trk:∀b o,H b=some o->∃o',(W.hideAll s.heap (frs (X.env::X.outer))).get? b=some o':=λb o e=>by obtain⟨u,hu⟩:=(I.hok b o e).there;exact⟨u,inB b u hu λz=>by rw[free b z] at e;cases e⟩
 refine⟨ea,t,cls,H,_,rfl,I.os,I.bare,⟨⟨λb o e n hb hx=>?_,λb o e n hb hx=>?_,λb o e n hx=>?_,λb o e hx=>?_,I.base.tups,I.base.frzs,I.base.tbls⟩,λa o e=>?_,fl,λb o e hb=>?_,trk⟩,q⟩
 .exact fl.1 b o (inB b o (I.base.keep b o e n hb (exn b)) (notin b o e hb))
 .obtain⟨sl,e1⟩:=I.base.slot b o e n hb (exn b);obtain⟨_,o',ho',hd⟩:=I.ok.funs.mem hb;rw[e] at ho';cases ho';obtain⟨sl',e2⟩:=up2 b _ e1 hd;exact⟨sl',e2⟩
 .exact I.base.free b o e n (exn b)
 .obtain⟨o',e1⟩:=I.base.there b o e (exn b);by_cases hb:b∈frs X.outer
  .obtain⟨_,o2,ho2,hd⟩:=I.funs.mem hb;rw[e1] at ho2;cases ho2;obtain⟨sl',e2⟩:=up2 b _ e1 hd;exact⟨_,e2⟩
  .exact⟨o',fl.1 b o' (inB b o' e1 (notin b o e hb))⟩
 .refine (I.hok a o e).stay (λb u hb q=>?_) (λ_ q=>q) λ_ _ q=>q;refine fl.1 b u (inB b u q λz=>?_);rcases hb with y |y
  .rw[y] at z;rw[free a z] at e;cases e
  .rw[free b z] at y;cases y
 .obtain⟨o',e1⟩:=I.base.there b o e (exn b);exact⟨o',inB b o' e1 (notin b o e hb)⟩
def rF{h6:Heap}{ea t:Addr}{C:Addr}{H':Hp}{B:Heap}{g':Shared}(T:X.Top)(I:Inv X pins σ H s)(F:Fly X.prog X.w X.stack H s.heap H' ea (.ref C) s'.heap B t)(os:s'.os=s.os)(bare:AllBare s'.gens)
 (fl6:Heap.FlyingW B X.stack ea (.ref C) (.ref t) h6) (up:s'.heap.UpToSlots h6):
 H' ea=none/\Inv X pins σ (upd H' ea (.ext (lP ea C))) { s' with heap:=h6 }:=by
 obtain⟨un2,hok2⟩:=F.step fl6 up;obtain⟨oe,vs,he,hc,hd,_⟩:=fl6.first;have hB:B.get? ea=none:=fl6.2.1;have hn:H' ea=none:=by
  cases q:H' ea with
  |none=>rfl
  |some o=>obtain⟨o',z⟩:=F.trk ea o q;rw[hB] at z;cases z
 have hnf:ea∉frs X.stack:=λz=>by obtain⟨_,o,ho,hdd⟩:=fl6.2.2.1.mem z;rw[he] at ho;cases ho;exact hdd vs hd
 have hs:s.heap.get? ea=none:=by
  cases q:s.heap.get? ea with
  |none=>rfl
  |some o=>obtain⟨o',z⟩:=F.old ea o q hnf;rw[hB] at z;cases z
 have I5:Inv X pins σ H' { s' with heap:=h6 }:=I.call' (s':={ s' with heap:=h6 }) (ch:=[]) os un2 hok2 bare λb hb=>nomatch hb;refine⟨hn,I5.track hn ?_ ?_ (λx c e z=>?_) (λp hp z=>?_) ⟨⟨oe,vs,he,hc,hd⟩,⟨oe,he⟩,λh1 h2 ⟨o1,v1,e1,r⟩ k=>⟨o1,v1,k o1 e1,r⟩⟩⟩
 .cases q:X.s₀.heap.get? ea with
  |none=>rfl
  |some o=>obtain⟨o',z⟩:=I.base.there ea o q (by rw[T.ex];simp);rw[hs] at z;cases z
 .intro z;obtain⟨m,⟨o,es,ep,ho,hdd,_⟩,_⟩:=I.loc;rw[<- z,hs] at ho;cases ho
 .obtain⟨v,o,ho,_⟩:=I.cell x c e;rw[z,hs] at ho;cases ho
 .have:=(I.pin p hp).1
  rw[z,hs] at this;cases this
end
section
variable{P:Program}{w:World}{K:W.Frag}{mg:Pp}{base:Heap}{N:List Str}{qual:Str}{scope:Scope}{f:Addr}{cd:Value}{A:Around}{outer:List Env}{s:Shared}{H:Hp}{E:XK}
def wq:(eJ (CX1 P w) P w K mg base N qual scope f cd A outer s H E).Top:=⟨rfl,rfl,rfl⟩
def DK:sM (CX1 P w) (eJ (CX1 P w) P w K mg base N qual scope f cd A outer s H E) E:=λpins σ H s e s' I h=>zR wq I.ok.frames I h
def Lg:sM (CX1 P w) X E0:=λpins σ H s e s' I ⟨_,_,_,_,_,_,_,_,_,q⟩=>q.elim
def own1:PassesOwn (model P w) (eJ (CX1 P w) P w K mg base N qual scope f cd A outer s H E).A (eJ (CX1 P w) P w K mg base N qual scope f cd A outer s H E).env (eJ (CX1 P w) P w K mg base N qual scope f cd A outer s H E).xe:=PassesOwn.leaving
def Rz(X:Cx)(E:XK):Prop:=∀(pins:Pq) (σ:St) (H:Hp) (s:Shared) (h':Heap) (ea:Addr) (cls:Value) (args:List Value),Inv X pins σ H s->Heap.MadeExcOf s.heap h' ea cls args->E cls none H->X.xe (.ref ea) { s with heap:=h' }
def rz1:Rz (eJ (CX1 P w) P w K mg base N qual scope f cd A outer s H E) E:=λpins σ H s h' ea cls args I hx q=>A5 wq I.ok.frames I hx q
def Fun.okR{x qual:Str}{st:Stmt}{f:Addr}{fd:FuncData}{N ps:List Str}{k:Nat}{sp:Sp}(F:Fun K x qual st f fd)(S:FnScope N ps (ar st))(len:∀vs H Q E,sp vs H Q E->vs.length=ps.length)
 (j_:∀(cdv:Value) (A:Around) (outer:List Env) (s:Shared) (H:Hp) (vs:List V) (Q:VK) (E:XK),Room k (A.deeper (envOfC qual (ar st) s.heap.objs.size f cdv))->sp vs H Q E->
  ∃t,PSs (eJ (CX1 P w) P w K mg base N qual (ar st) f cdv A outer s H E) (bG st) t/\t { nx:=λ_ H'=>Q .non H',rt:=Q } (f6 N vs) H):FnOk P w K mg base (CX1 P w) (k+1) f fd ps sp:=by
 obtain⟨oc,od,kV,doc,pm,an,cdv,ct,osl,rfl,lk,k_⟩:=F.ex;exact Dr lk k_ S len λA outer s H vs Q E hr hsp=>j_ cdv A outer s H vs Q E hr hsp
end
abbrev om:List Value:=[.type "ValueError",.type "Exception",.type "BaseException",.type "object"]
def yC{K:W.Frag}{h:Heap}{C:Addr}(X:K.In h)(q:W.excIn K C om "ValueError.__new__"=true):
 ∃bm N nm q' bs hdct sn sub ab col dd k0 k1 k2 k3 k5 mN,h.get? C=some (excClassObj nm q' C N bs bm hdct sn sub ab col dd k0 k1 k2 k3 k5 "ValueError.__new__")/\h.Ns N mN/\mN "__init__"=none/\OwnTail h om bm:=by
 unfold W.excIn at q;split at q
 .rename_i dd cd sl ho;split at q
  .rename_i C' bm k0 k1 k2 k3 n k5 hm hs;simp only[t_,MX,NP] at q;obtain⟨⟨⟨⟨⟨rfl,rfl⟩,hdel⟩,ht⟩,hok⟩,hni⟩:=q;obtain⟨nm,bs,mro,ns,qn,hd,sn,sub,ab,col,del⟩:=cd;dsimp only at hm hdel hok hni;subst hm hdel;have hsl:sl=#[k0,k1,k2,k3,some (.builtin "ValueError.__new__"),k5]:=by obtain⟨l⟩:=sl;simp only at hs;rw[hs]
   subst hsl;exact⟨bm,ns,nm,qn,bs,hd,sn,sub,ab,col,dd,k0,k1,k2,k3,k5,_,X _ _ ho,.of_isNs (W.isNs_of_in X hok),W.nsMap_none_of_in X hok hni,W.tail_of_in X ht⟩
  .cases q
 .cases q
section
variable{X:Cx}{x:Str}{C:Addr}{E:XK}{np cpos pos:Pos}{e₀:Expr}{es:List Expr}{ta:TA}
def HZ(C:Addr)(E:XK)(ta:TA):TS:=λ_ σ H=>ta σ H λvs H1=>vs.length<=sizeLine/\E (.ref C) none H1
def CF(hc:X.calm=true)(hR:Rz X E)(hg:Gl X x)(hm:X.mg x=some (.ref C))(hq:W.excIn X.K C om "ValueError.__new__"=true)(ha:PA X (e₀::es) ta)
 (he:starEach (e₀::es) X.env=(false,eval e₀ X.env)::starEach es X.env) (c_:(backTo cpos (starEach es X.env)).any (·.1)=false) (hd:(x==("__debug__" : Str))=false):
 PS X (.Raise (some (.Call (.Name x np) (e₀::es) [] cpos)) none pos) (HZ C E ta):=by
 intro pins s σ H D I h;obtain⟨bm,N,nm,q',bs,hdct,sn,sub,ab,col,dd,k0,k1,k2,k3,k5,mN,hC,hN,hni,T⟩:=yC I.ok.mod.kin hq;refine wpAny_Raise_call_subT (C:=C) (nm:=nm) (q:=q') (N:=N) (bs:=bs) (bm:=bm) (hdct:=hdct) (sn:=sn) (sub:=sub) (ab:=ab) (col:=col) (dd:=dd) (k0:=k0) (k1:=k1) (k2:=k2) (k3:=k3) (k5:=k5)
  PySem.F.excBase_ValueError (mN:=mN) (T.hasType PySem.F.excBase_ValueError.hasBase) (I.ok.hd hc) (by rw[he];show (false || (backTo cpos (starEach es X.env)).any (·.1))=false;rw[c_];rfl) hni (oH I hg hm ⟨rfl,?_⟩ hd)
 have hA:=ha cpos pins s σ H _ I h;rw[he] at hA ⊢;refine Calls.evalArgs_plain (thn hA λus s2 ⟨vs,H2,I2,r2,hz,q2⟩=>⟨rfl,by rw[<- r2.length];exact hz,I2.bk _ _ hC,hN.keeps I2.bk,T.keeps I2.bk,λh' e hm'=>?_⟩);exact hR pins σ H2 s2 h' e _ _ I2 hm' q2
end
abbrev XS:=St->XK
abbrev TEx:=St->Hp->VK->XK->Prop
abbrev TSx:=Ends->XS->St->Hp->Prop
def XP(X:Cx)(pins:Pq)(E:XS)(e:Value)(s':Shared):Prop:=∃σ1 H1 s1,Inv X pins σ1 H1 s1/\CX1 X.prog X.w X.stack H1 s1 (E σ1) e s'
def PSsx(X:Cx)(st:List Stmt)(t:TSx):Prop:=
 ∀(pins:Pq) (s:Shared) (σ:St) (H:Hp) (D:Ends) (E:XS),Inv X pins σ H s->t D E σ H->wpAny (model X.prog X.w) X.A (execs st X.env) (SP X pins D) (XP X pins E) s
noncomputable def jo (X:Cx) (ea:Addr):Cx:={ X with A:=X.A.mark (some (.ref ea)),calm:=false,xe:=λ_ _=>False }
section
variable{X:Cx}{pins:Pq}{σ:St}{H:Hp}{s:Shared}{ea:Addr}
def Inv.suite(I:Inv X pins σ H s):Inv (jo X ea) pins σ H s:=
 ⟨⟨I.ok.mod,I.ok.kind,I.ok.glob,I.ok.blt,I.ok.above,I.ok.inj,I.ok.has,I.ok.cab,λz=>absurd z w_,I.ok.frames,I.ok.stk,I.ok.exf,I.ok.bs,I.ok.bsz,I.ok.noex,I.ok.exfs,I.ok.funs,I.ok.frf⟩,I.os,I.bare,I.base,I.loc,I.cell,I.free,I.freeC,I.pin,I.hok,I.len⟩
def Inv.unsuite(ok:X.Ok)(I:Inv (jo X ea) pins σ H s):Inv X pins σ H s:=
 ⟨ok,I.os,I.bare,I.base,I.loc,I.cell,I.free,I.freeC,I.pin,I.hok,I.len⟩
def zV{M:Model}{A:Around}{E:Pt}{K:W.Frag}{C Ce:Addr}{o:Obj}{Q:Bool->Shared->Prop}(KX:K.In s.heap)(he:s.heap.get? ea=some o)(hc:o.cls=.ref Ce)
 (hty:W.typeIn K (.ref C)=some (.type "type")) (hcl:(W.clsIn K C).isSome=true) (hb:W.mroIn K C (.type "BaseException")=some true) (hm:W.mroIn K Ce (.ref C)=some true) (q:Q true s):
 wpAny M A (excMatches (.ref ea) (.ref C)) Q E s:=by
 obtain⟨h,g,d,tk,os⟩:=s;have L0:=ik (M:=M) he hc;have L1:=W.looks_typeIn (M:=M) KX hty;have L2:=W.looks_mroIn (M:=M) KX hb;have L3:=W.looks_mroIn (M:=M) KX hm;have L4:W.Looks M h (isType (.ref C)) true:=by
  obtain⟨cd,k_⟩:=Nu.mp hcl;unfold W.clsIn at k_;split at k_
  .rename_i c' d' cd' sl' ho;intro A' Q' E' s' k q;unfold isType loadHead;exact o_ (wpAny_loadPart (k _ _ (KX _ _ ho)) (v_ q))
  .cases k_
 have LT:W.Looks M h (isInstance (.ref C) (.type "tuple")) false:=L1.andThen (W.Looks.of_pure tc_notTuple);have LE:W.Looks M h (isExcClass (.ref C)) true:=by unfold isExcClass;exact L4.andThen L2
 unfold excMatches;refine o_ (LT.at ?_);rw[if_neg w_];refine o_ (v_ ?_);dsimp only;refine o_ ?_;rw[OF];refine o_ (o_ (LE.at ?_));simp only[Bool.not_true,NX,OO];refine v_ ?_;dsimp only;rw[Pj];refine v_ ?_;refine o_ (L0.at (o_ ?_));rw[OF];refine o_ (o_ (L3.at ?_));simp only[Od];exact v_ (v_ (v_ q))
def Inv.unbind(I:Inv X pins σ H s)(hN:X.N.Nodup)(hi:X.N[i]?=some n)(hl:X.env.kindOf n=some .local)
 (hm:∀(i:Nat) (x:Str) (v:V),X.N[i]?=some x->σ[i]?=some (some v)->Vis X.env.scope x->∃u,RelV v u/\AF X.env s.heap m x u) (hn:s.heap.Ns X.env.locals m)
 (hn':h'.Ns X.env.locals (λx=>if x=n then v else m x)) (hs:Heap.SameBut X.env.locals s.heap h'):Inv X pins (σ.set i none) H { s with heap:=h',toks:=tk }:=by
 have cne:=I.cne;have neL:∀b o,X.s₀.heap.get? b=some o->b≠X.env.locals:=λb o e=>ML (I_ (A_ e) I.ok.above);refine⟨I.ok,I.os,I.bare,⟨λb o e n hb hx=>?_,λb o e n hb hx=>?_,I.base.free,λb o e hx=>?_,I.base.tups,I.base.frzs,I.base.tbls⟩,⟨_,hn',λj y v' e1 e2 e3=>?_⟩,λy c e=>?_,I.free,I.freeC,λp hp=>?_,λb ob e=>?_,by simpa using I.len⟩
 .exact (hs.2 b (neL b o e)).trans (I.base.keep b o e n hb hx)
 .obtain⟨sl,e1⟩:=I.base.slot b o e n hb hx;exact⟨sl,(hs.2 b (neL b o e)).trans e1⟩
 .obtain⟨o',e1⟩:=I.base.there b o e hx;exact⟨o',(hs.2 b (neL b o e)).trans e1⟩
 .by_cases hj:j=i
  .subst hj;have hiσ:j<σ.length:=by rw[I.len];exact (B_.mp hi).1
   rw[OT hiσ] at e2;cases e2
  .rw[Ow (Ne.symm hj)] at e2;obtain⟨u',r',q⟩:=hm j y v' e1 e2 e3;refine⟨u',r',?_⟩;rcases q with ⟨k,e⟩ |⟨k,c,e,z⟩
   .refine .inl ⟨k,?_⟩;have:y≠n:=λe=>hj (mG hN e1 (e ▸ hi));simp [this,e]
   .exact .inr ⟨k,c,e,z.sameBut hs (cne y c e)⟩
 .obtain⟨w',z⟩:=I.cell y c e;exact⟨w',z.sameBut hs (cne y c e)⟩
 .obtain⟨e,n,ne,nf,d⟩:=I.pin p hp;exact⟨(hs.2 p.1 ne).trans e,n,ne,nf,d⟩
 .refine (I.hok b ob e).stay (λc w' hc q=>(hs.2 c ?_).trans q) (λ_ q=>q) λ_ _ q=>q;rintro rfl;rcases hc with z |hc
  .rw[<- z,I.free] at e;cases e
  .rw[I.free] at hc;cases hc
def CK(I:Inv X pins σ H s)(hg:Gl X x)(hm:X.mg x=some u)(h:Q u s)
 (hd:(x==("__debug__" : Str))=false):wpAny (model X.prog X.w) A (eval (.Name x pos) X.env) Q E s:=
 OB I.ok.kind hg (Calls.loadGlobal_global (by rw[I.ok.glob];exact I.mod.glob.keeps I.bk) hm h) hd
end
structure XHand(K:W.Frag)(C:Addr):Prop where
 ty:W.typeIn K (.ref C)=some (.type "type")
 cls:(W.clsIn K C).isSome=true
 mb:W.mroIn K C (.type "BaseException")=some true
noncomputable def D3 (i:Nat) (D:Ends):Ends:={ nx:=λσ H=>D.nx (σ.set i none) H,rt:=D.rt,bk:=λσ H=>D.bk (σ.set i none) H,ct:=λσ H=>D.ct (σ.set i none) H }
def tTry(K:W.Frag)(C:Addr)(i:Nat)(tb:TSx)(ts:TS):TS:=λD σ H=>
 tb D (λσ1 cls _ H1=>∃Ce,cls=.ref Ce/\W.mroIn K Ce (.ref C)=some true/\∀ea,H1 ea=none->ts (D3 i D) (σ1.set i (some (.ref ea))) (upd H1 ea (.ext (lP ea Ce)))) σ H
section
variable{X:Cx}{x n:Str}{C:Addr}{i:Nat}{body suite:List Stmt}{b₀:Stmt}{tb:TSx}{ts:TS}{np hpos pos:Pos}
def HR(T:X.Top)(hN:X.N.Nodup)(hi:X.N[i]?=some n)(hl:X.env.kindOf n=some .local)(hg:Gl X x)(hm:X.mg x=some (.ref C))(hh:XHand X.K C)(hb:PSsx X body tb)(hs:∀ea,PSs (jo X ea) (b₀::suite) ts)
 (hd:(x==("__debug__" : Str))=false):PS X (.Try body [.ExceptHandler (some (.Name x np)) (some n) (b₀::suite) hpos] [] [] pos) (tTry X.K C i tb ts):=by
 intro pins s σ H D I h;refine wpAny_Try_except (MU (hb pins s σ H D _ I h) (λf s1 q=>?_) λe s1 hx=>?_)
 .cases f with
  |next=>exact OJ q
  |ret v=>exact q
  |brk=>exact q
  |cont=>exact q
 .obtain⟨σ1,H1,s0,I1,ea,t,cls,H',B,rfl,os,bare,F,Ce,rfl,hme,q⟩:=hx;have F1:=F.fl;rw[T.stk] at F1;have hfr:X.A.frames=some (X.env::X.outer):=by rw[I1.ok.frames,T.stk]
  refine wpAny_looks_onW hfr T.fr F1 λh4 held4 up4=>?_;refine wpAny_landsW held4 λh5 fl5 up5=>?_;have fl5':=fl5;rw[<- T.stk] at fl5';obtain⟨hn5,I5⟩:=rF (g':=s1) T I1 F os bare fl5' (up4.trans up5);obtain⟨o5,he5,hc5⟩:=fl5.there;refine wpAny_handleBy_cons (codeAny_handlers_test (CK I5 hg hm ?_ hd)) (by intro q;cases q);refine zV I5.kIn he5 hc5 hh.ty hh.cls hh.mb hme ?_;refine codeAny_handlers_suite_as ?_;refine lands_againW fl5 λh6 fl6 up6=>?_;have fl6':=fl6;rw[<- T.stk] at fl6';obtain⟨hn6,I6⟩:=rF (g':=s1) T I1 F os bare fl6' ((up4.trans up5).trans up6);refine fP (v:=.ref ea) I6 hN hi (.inl hl) rfl (λs7 I7=>?_) (.inr hl);refine MU (hs ea pins s7 _ _ (D3 i D) I7.suite (q ea hn6)) (λf s8 h8=>?_) λ_ _ z=>False.elim z;have go:∀{σ8:St}{H8:Hp},Inv (jo X ea) pins σ8 H8 s8->(∀s9,Inv X pins (σ8.set i none) H8 s9->SP X pins D f s9)->
   wpAny (model X.prog X.w) X.A (do bindName X.env n .none;unbindBehindTheSuite X.env n hpos) (λ_ s9=>SP X pins D f s9) X.xe s8:=λ{σ8 H8} I8' k=>by
   have I8:=I8'.unsuite I.ok;obtain⟨m,hn,hm⟩:=I8.loc;exact wpAny_nameGoes_keeps hl hn (by rw[I8.ok.kind];rfl) λh' v hn' hs'=>k _ (I8.unbind hN hi hl hm hn hn' hs')
  cases f with
  |next=>obtain⟨σ8,H8,I8,q8⟩:=h8;exact go I8 λs9 I9=>⟨_,_,I9,q8⟩
  |brk=>obtain⟨σ8,H8,I8,q8⟩:=h8;exact go I8 λs9 I9=>⟨_,_,I9,q8⟩
  |cont=>obtain⟨σ8,H8,I8,q8⟩:=h8;exact go I8 λs9 I9=>⟨_,_,I9,q8⟩
  |ret u=>obtain⟨v,σ8,H8,I8,r8,q8⟩:=h8;exact go I8 λs9 I9=>⟨v,_,_,I9,r8,q8⟩
end
mutual
inductive Rep(K:W.Frag)(H:Hp):V->PyData->Prop where
 |non:Rep K H .non .none
 |bl (b:Bool):Rep K H (.bl b) (.bool b)
 |int (i:Int):Rep K H (.int i) (.int i)
 |str (x:Str):Rep K H (.str x) (.str x)
 |tup {a:Addr}{xs:List V}{ds:List PyData} (h:SqT K H a xs) (r:Reps K H xs ds):Rep K H (.ref a) (.tuple ds)
 |lst {a:Addr}{xs:List V}{ds:List PyData} (h:SqL K H a xs) (r:Reps K H xs ds):Rep K H (.ref a) (.list ds)
inductive Reps(K:W.Frag)(H:Hp):List V->List PyData->Prop where
 |nil:Reps K H [] []
 |cons {x:V}{d:PyData}{xs:List V}{ds:List PyData} (r:Rep K H x d) (rr:Reps K H xs ds):Reps K H (x::xs) (d::ds)
end
section
variable{X:Cx}{pins:Pq}{σ:St}{H:Hp}{s:Shared}{K:W.Frag}
def Rep.reads(I:Inv X pins σ H s)(r:Rep X.K H v d)(q:RelV v u):∃as,Reads s.heap u d as:=
 Rep.rec (motive_1:=λv d _=>∀u,RelV v u->∃as,Reads s.heap u d as) (motive_2:=λvs ds _=>∀us,Vals vs us->∃as,ReadsAll s.heap us ds as)
  (λu r=>by cases r;exact⟨_,.none⟩) (λb u r=>by cases r;exact⟨_,.bool b⟩) (λi u r=>by obtain⟨t,rfl⟩:=r;exact⟨_,.int i t⟩) (λx u r=>by obtain⟨t,rfl⟩:=r;exact⟨_,.str x t⟩)
  (λh _ ih u r=>by cases r;obtain⟨its,rv,⟨o,e,c,n,d⟩,_⟩:=I.tuple h;obtain⟨as,q⟩:=ih _ rv;exact⟨as,.tuple e c d (by simpa using q)⟩)
  (λh _ ih u r=>by cases r;obtain⟨its,rv,⟨o,n,e,c,_,d⟩,_⟩:=I.list h;obtain⟨as,q⟩:=ih _ rv;exact⟨_,.list e c d (by simpa using q)⟩)
  (λus r=>by cases r;exact⟨_,.nil⟩)
  (λ_ _ a b us q=>by
   cases q with
   |cons q1 q2=>obtain⟨as,h1⟩:=a _ q1;obtain⟨bs,h2⟩:=b _ q2;exact⟨_,.cons h1 h2⟩) r u q
end
section
variable{X:Cx}
noncomputable def shp (d:PyData):Bool:=d.canLay0&&decide (d.depth<=160)
def fN(h:shp d=true):d.canLay0=true:=(Bool.and_eq_true_iff.mp h).1
def mJ{A:Around}{d e:PyData}(h:shp d=true)(hu:A.units+180<cLine):A.units+min d.depth e.depth<cLine:=by have h1:d.depth<=160:=N9 (Bool.and_eq_true_iff.mp h).2;have h2:min d.depth e.depth<=d.depth:=Nat.min_le_left _ _;omega
def Bu(K:W.Frag):R2:=λx y H Q=>∃dx dy,Rep K H x dx/\Rep K H y dy/\shp dx=true/\shp dy=true/\Q (.bl (PyData.eqv dx dy)) H
def BU(K:W.Frag):R2:=λx y H Q=>∃dx dy,Rep K H x dx/\Rep K H y dy/\shp dx=true/\shp dy=true/\Q (.bl (!PyData.eqv dx dy)) H
def JI(hu:X.A.units+180<cLine):OpR X (compareOp .Eq) (Bu X.K):=by intro pins s σ H x y v u Q I rx ry h;obtain⟨dx,dy,r1,r2,h1,h2,q⟩:=h;obtain⟨as,q1⟩:=r1.reads I rx;obtain⟨bs,q2⟩:=r2.reads I ry;exact SeqAt.compareEq_reads q1 q2 (fN h1) (fN h2) (mJ h1 hu) (tM I q rfl)
def Hv(hu:X.A.units+180<cLine):OpR X (compareOp .NotEq) (BU X.K):=by intro pins s σ H x y v u Q I rx ry h;obtain⟨dx,dy,r1,r2,h1,h2,q⟩:=h;obtain⟨as,q1⟩:=r1.reads I rx;obtain⟨bs,q2⟩:=r2.reads I ry;exact SeqAt.compareNe_reads q1 q2 (fN h1) (fN h2) (mJ h1 hu) (tM I q rfl)
open PySem.Builtin.Int (intBits)
def CDivB(i j:Int):Prop:=j≠0/\intBits j<=8000
def C4(i j:Int):Prop:=intBits i<=100000/\intBits j<=100000
def By:OpR X (binaryOp .FloorDiv) (rI CDivB λi j=>.int (i.fdiv j)):=opI λi j _ _ _ _ _ hc q=>floordiv_int hc.1 q (.inl (PyProof.noPylong_of_log2 (by
 have h:=hc.2;have h0:=hc.1;unfold intBits at h;have hb:(j==0)=false:=by simpa using h0
 rw[hb] at h;simp only[NX,OO] at h;omega)))
def D8:OpR X (binaryOp .Mult) (rI C4 λi j=>.int (i*j)):=opI λi j _ _ _ _ _ hc q=>mul_int q (PySem.IntMulOk.of_le hc.1 hc.2 (by decide))
def zj(bs:List Bool):((List.range bs.length).all λi=>bs.getD i false)=bs.all id:=by
 rw[O4,K_,K_];constructor
 .intro h x hx;obtain⟨i,hi,rfl⟩:=List.mem_iff_getElem.mp hx
  have:=h i (MJ.mpr hi)
  simpa [MM,hi] using this
 .intro h i hi;have hi':=MJ.mp hi
  have:=h bs[i] (NU hi')
  simpa [MM,hi'] using this
def Bc(hc:X.calm=true):CallR X (.builtin "all") (λxs H Q=>∃(a:Addr) (bs:List Bool),xs=[.ref a]/\SqL X.K H a (bs.map V.bl)/\Q (.bl (bs.all id)) H):=by
 intro pins s σ H xs us Q I r h;obtain⟨a,bs,rfl,hq,q⟩:=h;obtain⟨u,rfl,ru⟩:=eS r;cases ru;obtain⟨its,rv,p,hz⟩:=I.list hq;have hl:=rv.length;rw[p_] at hl;have hlt:a<s.heap.objs.size:=by obtain⟨o,n,e,_⟩:=p;exact A_ e
 refine call_all_walk (wpAny_pyIter_list p.isList ?_);refine⟨s.heap.objs.size,_,_,_,_,_,λi=>bs.getD i false,rfl,Walks.list (A:=X.A.in1) (I.ok.hd hc) s.heap.objs.size a (ML hlt) its.toArray,⟨⟨_,Em _ rfl,rfl,rfl⟩,(p.keeps λb o e=>r_ _ e).isList⟩,λi v s' Q' E' hP hQ=>?_,λh' tk hk=>?_⟩
 .have hP':its[i]?=some v:=by simpa using hP
  have hi:i<bs.length:=by rw[hl];exact (B_.mp hP').1
  have hb:(bs.map V.bl)[i]?=some (V.bl bs[i]):=by simp [hi]
  obtain⟨u,hu,ru⟩:=rv.get hb;rw[hP'] at hu;cases hu;cases ru;refine N_ ?_;have e:bs.getD i false=bs[i]:=by simp [MM,hi]
  show Q' bs[i] s';rw[<- e];exact hQ
 .have e1:its.toArray.size=bs.length:=by rw[y_,hl]
  rw[e1,zj];have hn:H s.heap.objs.size=none:=I.fresh;have I1:Inv X pins σ H { s with heap:=s.heap.push { cls:=.type "list_iterator",dict:=none,data:=.fields #[.ref a,rawInt 0] } }:=I.kept (t':=s.toks) λb o e=>r_ _ e;refine⟨.bl _,H,?_,rfl,q⟩;refine I.kept (t':=tk) λb o e=>?_;have hne:b≠s.heap.objs.size:=ML (A_ e);exact hk b o (by simpa using hne) (r_ _ e)
end
structure Def(K:W.Frag)(mg:Pp)(x:Str)(st:Stmt):Prop where
 ex:∃f fd,Fun K x x st f fd/\mg x=some (.ref f)
def zo{K:W.Frag}{h:Heap}{mg:Pp}{x:Str}{st:Stmt}{f:Addr}{oc:Value}{od an:Option Addr}{osl:Array (Option Value)}{kV doc pm cdv ct:Value}(X:K.In h)(G:h.Ns mainGlobals mg)
 (a:W.nsIn K mainGlobals x=some (some (.ref f))) (l:K.lookup f=some ⟨oc,od,.func (W.fnOf x x (dm st) (bG st) (ar st) .none kV doc pm an cdv ct),osl⟩)
 (c:W.codeIn K cdv x=true) (k:W.keepIn K (.ref f)=true):Def K mg x st:=⟨f,_,F6 l c k,W.mg_of X G a⟩
def Fun.look{K:W.Frag}{x qual:Str}{st:Stmt}{f:Addr}{fd:FuncData}(F:Fun K x qual st f fd):∃oc od osl,K.lookup f=some ⟨oc,od,.func fd,osl⟩:=by obtain⟨oc,od,kV,doc,pm,an,cdv,ct,osl,rfl,lk,k_⟩:=F.ex;exact⟨oc,od,osl,lk⟩
structure Callee(P:Program)(w:World)(K:W.Frag)(mg:Pp)(base:Heap)(x:Str)(k:Nat)(ps:List Str)(sp:Sp):Prop where
 ex:∃f fd,FnOk P w K mg base (CX1 P w) k f fd ps sp/\mg x=some (.ref f)/\W.keepIn K (.ref f)=true/\Binds K fd ps []/\∃oc od osl,K.lookup f=some ⟨oc,od,.func fd,osl⟩
section
variable{P:Program}{w:World}{K:W.Frag}{mg:Pp}{base:Heap}{x:Str}{st:Stmt}{k:Nat}{ps N:List Str}{sp:Sp}
def Callee.imp(C:Callee P w K mg base x k ps sp)(h:∀vs H Q E,sp' vs H Q E->sp vs H Q E):Callee P w K mg base x k ps sp':=by obtain⟨f,fd,F,r⟩:=C.ex;exact⟨f,fd,F.imp h,r⟩
def Def.okR(D:Def K mg x st)(S:FnScope N ps (ar st))
 (hb:∀(kV doc pm:Value) (an:Option Addr) (cdv ct:Value) (us:List Value),us.length=ps.length->bindArgs (W.fnOf x x (dm st) (bG st) (ar st) .none kV doc pm an cdv ct) ⟨us,[]⟩=pure (ps.zip us))
 (len:∀vs H Q E,sp vs H Q E->vs.length=ps.length)
 (j_:∀(f:Addr) (cdv:Value) (A:Around) (outer:List Env) (s:Shared) (H:Hp) (vs:List V) (Q:VK) (E:XK),Room k (A.deeper (envOfC x (ar st) s.heap.objs.size f cdv))->sp vs H Q E->
  ∃t,PSs (eJ (CX1 P w) P w K mg base N x (ar st) f cdv A outer s H E) (bG st) t/\t { nx:=λ_ H'=>Q .non H',rt:=Q } (f6 N vs) H):Callee P w K mg base x (k+1) ps sp:=by
 obtain⟨f,fd,F,m⟩:=D.ex;exact⟨f,fd,F.okR S len (j_ f),m,F.kp,F.binds hb,F.look⟩
end
section
variable{X:Cx}{K:W.Frag}
def Bk(h:X.K=K)(hc:X.calm=true):CallR X (.builtin "all") (λxs H Q=>∃(a:Addr) (bs:List Bool),xs=[.ref a]/\SqL K H a (bs.map V.bl)/\Q (.bl (bs.all id)) H):=by subst h;exact Bc hc
def Room.u180(r:Room k A):A.units+180<cLine:=by have:=r.un;omega
def eqDK(h:X.K=K)(hu:X.A.units+180<cLine):OpR X (compareOp .Eq) (Bu K):=by subst h;exact JI hu
def neDK(h:X.K=K)(hu:X.A.units+180<cLine):OpR X (compareOp .NotEq) (BU K):=by subst h;exact Hv hu
def inK(h:X.K=K):OpR X (compareOp .In) (rIn K false):=by subst h;exact xX
def yz(h:X.K=K):OpR X (compareOp .NotIn) (rIn K true):=by subst h;exact tQ
end
section
variable{X:Cx}
def G4{elt iter tg:Expr}{ifs:List Expr}{scope:Scope}{pos:Pos}{wi:TI}{g:TG}{tc:TT}{te:TE}{N:List Str}{sub:Pu}{iT:Nat}{xT:Str}{px spos:Pos}
 (hc:X.calm=true) (hN:X.N.Nodup) (hix:X.N[iT]?=some xT) (hxl:Loc X.env.scope xT) (hi:PI X tg iter wi)
 (hk:scope.kind=.function) (hnc:∀x∈scope.names,x.2 ≠ .cell) (f_:∀x∈scope.names,x.2=.local->scope.names.lookup x.1=some .local)
 (hfr:∀x∈scope.names,x.2=.free->X.env.kindOf x.1=some .cell\/X.env.kindOf x.1=some .free)
 (hsl:sub.length=N.length) (hsub:∀(j i:Nat) (x:Str),sub[j]?=some (some i)->N[j]?=some x->X.N[i]?=some x/\scope.names.lookup x=some .free)
 (hg:∀cl C s₂ H fp,PG (bY X N scope cl C s₂ H fp) tg g) (ht:∀cl C s₂ H fp,PTs (bY X N scope cl C s₂ H fp) ifs tc) (he:∀cl C s₂ H fp,PE (bY X N scope cl C s₂ H fp) elt te)
 (hsw:swapsWith (.ListComp elt [⟨tg,iter,ifs,0⟩] scope pos) (some (.Name xT px)) spos.line X.env=pure true)
 (hs:∀x,foldedSetIterable iter X.env x=pure x) (hf:X.fn xT=true\/X.env.scope.names.lookup xT=some .local):
 PS X (.Assign [.Name xT px] (.ListComp elt [⟨tg,iter,ifs,0⟩] scope pos) spos) (xE (qH wi sub g tc te) (qK iT)):=by
 intro pins s σ H D0 I h;rw[exec_Assign_Name_used _ _ _ _ hsw];refine o_ (Oh (o_ ?_));show wpAny _ X.A (do let _ <- comprehension (.ListComp elt [⟨tg,iter,ifs,0⟩] scope pos) scope X.env _ (newList []) false (eval iter X.env) (some (assign (.Name xT px) X.env))) _ _ s;refine o_ (MU (u7 (use:=some (assign (.Name xT px) X.env)) (R:=λ_ s'=>SP X pins D0 .next s') hc hi hk hnc f_ hfr hsl hsub hg ht he hs I h λD C s4 e=>?_) (λ_ s' hq=>v_ (v_ hq)) λ_ _ e=>e);obtain⟨m,hm⟩:=e.ns;obtain⟨H',hC,q,i⟩:=e.inv;have dc:=e.dc;have fr:=e.fr;refine wpAny_assign_Name (ph (v:=.ref D) (i s4.heap ⟨rfl,λ_ _=>rfl⟩) hN hix hxl rfl (λs7 I7 ⟨a7,sb7,ha7⟩=>?_) hf);have ha:a7<D:=by
  rcases ha7 with z |z
  .rw[z];exact fr
  .exact e.cell xT a7 z
 refine⟨m,hm.sameBut sb7 (Ov (O9 ha dc)),λh8 hs8=>⟨_,_,I7.turned (it:=C) (t':=s7.toks) (λb o hb e=>hs8.extBut b o hb e) hC (Ov (O9 fr dc)) (.inr (MV e.sz (Ou dc))) (λx c q=>ML (O9 (e.cell x c q) dc)) (λp hp=>ML (O9 (e.pin p hp) dc)),q⟩⟩
end
theorem lq:∀{ns:List Int}{its:List Value},Vals (ns.map V.int) its->IntsAre its ns
 | [],_,h=>by cases h;exact .nil
 |
  i::r,_,h=>by
  cases h with
  |cons h1 h2=>obtain⟨t,rfl⟩:=h1;exact .cons i t (lq h2)
def pH{X:Cx}{K:W.Frag}(hK:X.K=K)(hc:X.calm=true):CallR X (.builtin "sum") (λxs H Q=>∃(a:Addr) (ns:List Int),xs=[.ref a]/\SqL K H a (ns.map V.int)/\Q (.int ns.sum) H):=by
 subst hK;intro pins s σ H xs us Q I r h;obtain⟨a,ns,rfl,hq,q⟩:=h;obtain⟨u,rfl,ru⟩:=eS r;cases ru;obtain⟨its,rv,p,hz⟩:=I.list hq;have hi:=lq rv;obtain⟨ys,hy⟩:=hi.allInts.items;have hn:numsOf its.toArray.toList=ns:=by rw[show its.toArray.toList=its from rfl,hi.numsOf]
 have pl:=p.isList;rw[hy] at pl hn;rw[nums_intItems] at hn;refine sum_intListG (I.ok.hd hc) pl λh' tk t' hk=>?_;rw[preSum_eq,Nn (by simp),hn];exact⟨.int ns.sum,H,I.kept (t':=tk) hk,⟨_,rfl⟩,q⟩
end L2
namespace Fr
noncomputable def dv (a b:Int):Int:=if b<0 then -((Int.gcd a b:Nat):Int) else ((Int.gcd a b:Nat):Int)
def T(a b:Int):Int:=a.fdiv (dv a b)
def B(a b:Int):Int:=b.fdiv (dv a b)
def rS(hb:b≠0):0<Int.gcd a b:=Int.gcd_pos_of_ne_zero_right a hb
def dv_ne(hb:b≠0):dv a b≠0:=by
 have:=rS (a:=a) hb
 unfold dv;split <;> omega
def B5(a b:Int):dv a b ∣ a:=by
 have h:((Int.gcd a b:Nat):Int) ∣ a:=Int.gcd_dvd_left a b;unfold dv;split
 .exact Int.neg_dvd.mpr h
 .exact h
def A6(a b:Int):dv a b ∣ b:=by
 have h:((Int.gcd a b:Nat):Int) ∣ b:=Int.gcd_dvd_right a b;unfold dv;split
 .exact Int.neg_dvd.mpr h
 .exact h
def uW{a d q:Int}(hd:d≠0)(h:a=d*q):a.fdiv d=q:=by rw[h,OK];exact Int.mul_fdiv_cancel q hd
def T_mul(hb:b≠0):T a b*dv a b=a:=by obtain⟨q,h⟩:=B5 a b;have:T a b=q:=uW (dv_ne hb) h;rw[this,OK];exact h.symm
def B_mul(hb:b≠0):B a b*dv a b=b:=by obtain⟨q,h⟩:=A6 a b;have:B a b=q:=uW (dv_ne hb) h;rw[this,OK];exact h.symm
def B_pos(hb:b≠0):0<B a b:=by
 have h:=B_mul (a:=a) hb;have hg:=rS (a:=a) hb;generalize hx:B a b=x at h ⊢;unfold dv at h;split at h
 .rename_i hneg;have h2:x*((Int.gcd a b:Nat):Int)=-b:=by rw[Int.mul_neg] at h;omega
  rcases Int.lt_or_le 0 x with z |z
  .exact z
  .have:x*((Int.gcd a b:Nat):Int)<=0:=Int.mul_nonpos_of_nonpos_of_nonneg z (by omega);omega
 .rename_i hpos;rcases Int.lt_or_le 0 x with z |z
  .exact z
  .have:x*((Int.gcd a b:Nat):Int)<=0:=Int.mul_nonpos_of_nonpos_of_nonneg z (by omega);omega
def cross(hb:b≠0):T a b*b=a*B a b:=by have h1:=T_mul (a:=a) hb;have h2:=B_mul (a:=a) hb;generalize T a b=x at *;generalize B a b=y at *;generalize dv a b=d at *;rw[<- h2,<- h1];rw[<- Nv,OL]
def dv_abs(a b:Int):(dv a b).natAbs=Int.gcd a b:=by unfold dv;split <;> simp
def low(hb:b≠0):Int.gcd (T a b) (B a b)=1:=by
 have h1:=T_mul (a:=a) hb;have h2:=B_mul (a:=a) hb;have hg:=rS (a:=a) hb;have e1:a.natAbs=(T a b).natAbs*Int.gcd a b:=by rw[<- dv_abs a b,<- Nm,h1]
 have e2:b.natAbs=(B a b).natAbs*Int.gcd a b:=by rw[<- dv_abs a b,<- Nm,h2]
 have e3:Int.gcd a b=Nat.gcd ((T a b).natAbs*Int.gcd a b) ((B a b).natAbs*Int.gcd a b):=by rw[<- e1,<- e2];rfl
 rw[Nat.gcd_mul_right] at e3;show Nat.gcd (T a b).natAbs (B a b).natAbs=1;generalize Nat.gcd (T a b).natAbs (B a b).natAbs=k at *;generalize Int.gcd a b=g at *;have:(1:Nat)*g=k*g:=by omega
 exact (Nat.eq_of_mul_eq_mul_right hg this).symm
def uniq(hy:0<y)(hy':0<y')(h:Int.gcd x y=1)(h':Int.gcd x' y'=1)(e:x*y'=x'*y):x=x'/\y=y':=by
 have c1:Nat.Coprime y.natAbs x.natAbs:=by rw[Nat.coprime_comm];exact h
 have c2:Nat.Coprime y'.natAbs x'.natAbs:=by rw[Nat.coprime_comm];exact h'
 have e1:x.natAbs*y'.natAbs=x'.natAbs*y.natAbs:=by rw[<- Nm,<- Nm,e]
 have d1:y.natAbs ∣ y'.natAbs:=c1.dvd_of_dvd_mul_left (by rw[e1];exact Nat.dvd_mul_left _ _);have d2:y'.natAbs ∣ y.natAbs:=c2.dvd_of_dvd_mul_left (by rw[<- e1];exact Nat.dvd_mul_left _ _);have ey:y.natAbs=y'.natAbs:=Nat.dvd_antisymm d1 d2;have ey':y=y':=by omega
 subst ey';exact⟨OC (by omega) e,rfl⟩
def same(hb:b≠0)(hd:d≠0)(e:a*d=c*b):T a b=T c d/\B a b=B c d:=by
 refine uniq (B_pos hb) (B_pos hd) (low hb) (low hd) ?_;have h1:=cross (a:=a) hb;have h2:=cross (a:=c) hd;have hbd:b*d≠0:=Oj hb hd;refine OC hbd ?_
 calc T a b*B c d*(b*d)=(T a b*b)*(B c d*d):=by rw[Nv,Ot (B c d) b d,<- Nv]
  _=(a*B a b)*(B c d*d):=by rw[h1]
  _=(a*d)*(B c d*B a b):=by rw[Nv a,Nv a,Ot (B a b),Ot d,OK (B a b) d]
  _=(c*b)*(B c d*B a b):=by rw[e]
  _=(c*B c d)*(B a b*b):=by rw[Nv c,Nv c,Ot b,OK b (B a b)]
  _=(T c d*d)*(B a b*b):=by rw[<- h2]
  _=T c d*B a b*(b*d):=by rw[Nv,Nv,Ot d,OK d b]
def self(hb:0<b)(h:Int.gcd a b=1):T a b=a/\B a b=b:=
 uniq (B_pos (by omega)) hb (low (by omega)) h (cross (by omega))
def euc(m n:Nat):Nat.gcd n (m % n)=Nat.gcd m n:=by rw[Nat.gcd_comm,<- Nat.gcd_rec,Nat.gcd_comm]
end Fr
set_option maxHeartbeats 1000000
namespace L2
open PySem PySem.Spec PyProof.Rows
def Inv.turnedL{X:Cx}{pins:Pq}{σ:St}{H:Hp}{s:Shared}{h':Heap}{t':Nat}{ch:List Addr}(I:Inv X pins σ H s)(k:∀b o,b∉ch->s.heap.get? b=some o->h'.get? b=some o)(hf:∀b∈ch,FpOk X pins H b):Inv X pins σ H { s with heap:=h',toks:=t' }:=by
 have away:∀b u,H b=some u->b∉ch:=λb u e z=>by have:=(hf b z).1;rw[e] at this;cases this
 refine I.step (g':=s.gens) (d':=s.drawn) (ch:=ch) (λb hb=>⟨(hf b hb).2.2.2.1,(hf b hb).2.1,(hf b hb).2.2.2.2.1,(hf b hb).2.2.2.2.2⟩) (λb o _ _ hc e _=>k b o hc e) (λb o _ _ hc e _=>⟨o.slots,k b o hc e⟩) (λ_ _ _ _ n=>n)
  (λb o hc e=>⟨o,k b o hc e⟩) (λ_ _ e=>e) (λ_ _ _ e=>e) (λb ps e=>⟨#[],by rw[e];simp⟩) (λm hm=>?_) (λb u e=>?_) I.bare
 .obtain⟨o,es,ep,ho,r⟩:=hm;exact⟨o,es,ep,k _ o (λz=>(hf _ z).2.1 rfl) ho,r⟩
 .refine (I.hok b u e).stay (λc v hc q=>k c v ?_ q) (λ_ q=>q) λ_ _ q=>q;rcases hc with z |z
  .rw[z];exact away b u e
  .exact away c _ z
def FpOk.up(f:FpOk X pins H b)(hn:b≠p):FpOk X pins (upd H p o) b:=⟨by rw[aE hn];exact f.1,f.2⟩
def xy(hj:s.heap.IsTupleIter j t n)(ht:s.heap.IsTuple t its)(hv:its[n]?=some v)
 (k:∀h',h'.IsTupleIter j t (n+1)->Heap.SameBut j s.heap h'->Q v { s with heap:=h' }):wpAny (model prog w) A (Builtin.SmallTypes.nextOf (.ref j)) Q E s:=by
 obtain⟨oj,ej,cj,dj⟩:=id hj;obtain⟨ot,et,_,m,dt⟩:=ht;unfold Builtin.SmallTypes.nextOf;refine o_ (Nz (name:=Str.ofString "__next__") hj.typeIs N7 (Of N7 hj.typeIs F.entry_tuple_iterator_next ?_ (F.args_tuple_iterator_next_1 _)));show wpAny _ _ (field (.ref j) 0 >>= _) _ _ s;refine o_ (Nh ej dj (x:=.ref t) rfl ?_);show wpAny _ _ (if (Value.ref t==Value.none)=true then _ else _) _ _ s;rw[if_neg (show ¬ ((Value.ref t==Value.none)=true) from w_)];show wpAny _ _ (field (.ref j) 1 >>= _) _ _ s;refine o_ (Nh ej dj (x:=.int n 0) rfl ?_);show wpAny _ _ (seqItems? (.ref t) >>= _) _ _ s;refine o_ (NV et dt ?_);simp only[Nb,hv];refine o_ (wpAny_setField ej dj (by simp) (v_ ⟨v,rfl,v_ (k _ ?_ (NR ..))⟩));exact⟨_,Heap.get?_update_self _ ej (Obj.isFreed_of_fields (Obj.data_mapFields dj _)),(Obj.cls_mapFields ..).trans cj,by rw[Obj.data_mapFields dj];simp [rawInt]⟩
def oB(hh:A.handled=none)(hj:s.heap.IsTupleIter j t n)(ht:s.heap.IsTuple t its)(hv:its[n]?=none)
 (k:∀h' e,Heap.ExtBut j s.heap h'->(∃o,h'.get? e=some o/\o.cls=.type "StopIteration")->E (.ref e) { s with heap:=h' }):wpAny (model prog w) A (Builtin.SmallTypes.nextOf (.ref j)) Q E s:=by
 obtain⟨oj,ej,cj,dj⟩:=id hj;obtain⟨ot,et,_,m,dt⟩:=ht;unfold Builtin.SmallTypes.nextOf;refine o_ (Nz (name:=Str.ofString "__next__") hj.typeIs N7 (Of N7 hj.typeIs F.entry_tuple_iterator_next ?_ (F.args_tuple_iterator_next_1 _)));show wpAny _ _ (field (.ref j) 0 >>= _) _ _ s;refine o_ (Nh ej dj (x:=.ref t) rfl ?_);show wpAny _ _ (if (Value.ref t==Value.none)=true then _ else _) _ _ s;rw[if_neg (show ¬ ((Value.ref t==Value.none)=true) from w_)];show wpAny _ _ (field (.ref j) 1 >>= _) _ _ s;refine o_ (Nh ej dj (x:=.int n 0) rfl ?_);show wpAny _ _ (seqItems? (.ref t) >>= _) _ _ s;refine o_ (NV et dt ?_);simp only[Nb,hv];refine o_ (OA (o_ (wpAny_setField ej dj (by simp) ?_)));show wpAny _ _ (newExc (.type "StopIteration") [] >>= _) _ _ _;refine o_ ?_;simp only[newExc,newTuple];refine o_ (Nq ?_ (by size_fits));refine o_ (m:=firstArgMember _ _) (wpAny_of_eq (a:=Value.none) (by first |rfl |(simp only[firstArgMember];rfl)) ?_);refine Nq ?_ (by size_fits);simp only[raiseNew];refine o_ (wpAny_handled ?_);first |rw[show A.in1.handled=none from hh] |rw[hh]
 refine o_ (v_ (wpAny_throw ?_));exact k _ _ (((NR ..).extBut.push _).push _) ⟨_,Em _ rfl,rfl⟩
def SqB(K:W.Frag)(b:Bool)(H:Hp)(a:Addr)(xs:List V):Prop:=match b with
 |true=>SqL K H a xs
 |false=>SqT K H a xs
def ItB(b:Bool)(h:Heap)(j a:Addr)(i:Nat):Prop:=match b with
 |true=>h.IsListIter j a i
 |false=>h.IsTupleIter j a i
def SqB.inj(I:Inv X pins σ H s)(x:SqB X.K b H a xs)(y:SqB X.K b H a ys):xs=ys:=by
 cases b with
 |true=>exact I.list_inj x y
 |false=>exact I.tuple_inj x y
def kH(z:ItB b h j a i):∃o,h.get? j=some o/\(∀v,o.data ≠ .cell v)/\o.cls=.type (if b then "list_iterator" else "tuple_iterator"):=by
 cases b with
 |true=>obtain⟨o,e,c,d⟩:=z;exact⟨o,e,(λv y=>by rw[d] at y;cases y),c⟩
 |false=>obtain⟨o,e,c,d⟩:=z;exact⟨o,e,(λv y=>by rw[d] at y;cases y),c⟩
def bP(z:ItB b h j a i)(k:∀o,h.get? j=some o->h'.get? j=some o):ItB b h' j a i:=by
 cases b with
 |true=>obtain⟨o,e,r⟩:=z;exact⟨o,k o e,r⟩
 |false=>obtain⟨o,e,r⟩:=z;exact⟨o,k o e,r⟩
def LsB(b:Bool)(h:Heap)(a:Addr)(its:Array Value):Prop:=match b with
 |true=>h.IsList a its
 |false=>h.IsTuple a its
def LsB.keep(z:LsB b h a its)(k:∀o,h.get? a=some o->h'.get? a=some o):LsB b h' a its:=by cases b <;> (obtain⟨o,e,r⟩:=z;exact⟨o,k o e,r⟩)
def w9(hj:ItB b s.heap j a n)(ht:LsB b s.heap a its)(hv:its[n]?=some v)
 (k:∀h',ItB b h' j a (n+1)->Heap.SameBut j s.heap h'->Q v { s with heap:=h' }):wpAny (model prog w) A (Builtin.SmallTypes.nextOf (.ref j)) Q E s:=by
 cases b with
 |true=>exact wpAny_nextOf_list_item hj ht hv k
 |false=>exact xy hj ht hv k
def pF(hh:A.handled=none)(hj:ItB b s.heap j a n)(ht:LsB b s.heap a its)(hv:its[n]?=none)
 (k:∀h' e,Heap.ExtBut j s.heap h'->(∃o,h'.get? e=some o/\o.cls=.type "StopIteration")->E (.ref e) { s with heap:=h' }):wpAny (model prog w) A (Builtin.SmallTypes.nextOf (.ref j)) Q E s:=by
 cases b with
 |true=>exact wpAny_nextOf_list_end hh hj ht hv k
 |false=>exact oB hh hj ht hv k
section
variable{prog:Program}{w:World}{A:Around}{E:Pt}{s:Shared}{b1 b2:Bool}{z p q j1 j2 a1 a2:Addr}{n:Nat}{xs ys:Array Value}{x y u v:Value}
def zipN{Q:Pt}(D:ZipApart z p q j1 j2 a1 a2)(hz:IsZip s.heap z p q .none)(hp:IsPair s.heap p (.ref j1) (.ref j2))(hq:IsPair s.heap q u v)
 (i1:ItB b1 s.heap j1 a1 n) (i2:ItB b2 s.heap j2 a2 n) (l1:LsB b1 s.heap a1 xs) (l2:LsB b2 s.heap a2 ys) (ex:xs[n]?=some x) (ey:ys[n]?=some y)
 (k:∀h',IsZip h' z p q (rawInt s.heap.objs.size)->IsPair h' q x y->ItB b1 h' j1 a1 (n+1)->ItB b2 h' j2 a2 (n+1)->IsPair h' s.heap.objs.size x y->(∀c o,c≠z->c≠q->c≠j1->c≠j2->s.heap.get? c=some o->h'.get? c=some o)->Q (.ref s.heap.objs.size) { s with heap:=h' }):
 wpAny (model prog w) A (Builtin.«zip.__next__» ⟨[.ref z],[]⟩) (λd_ s'=>∃v,d_=.done (.ret v)/\Q v s') E s:=by
 show wpAny _ _ (field (.ref z) 2 >>= _) _ _ _;refine o_ (Nh hz rfl (x:=.bool false) rfl ?_);show wpAny _ _ (field (.ref z) 3 >>= _) _ _ _;refine o_ (Nh hz rfl (x:=.ref p) rfl ?_);refine o_ (NV hp rfl ?_);show wpAny _ _ (Builtin.SmallTypes.ownedTupleIsFree (.ref z) >>= _) _ _ _;refine o_ ?_;unfold Builtin.SmallTypes.ownedTupleIsFree;refine o_ (Nh hz rfl (x:=.none) rfl (v_ ?_));simp only[Od];refine o_ (OA ?_);refine o_ (Nh hz rfl (x:=.ref q) rfl ?_);refine o_ (NZ hz (by simp) λg1 (y1:IsZip g1 z p q .ellipsis) t1=>?_);refine o_ ?_;simp only[List.zipIdx_cons,List.zipIdx_nil,OF,Pj];refine o_ (o_ (Po ?_));show wpAny _ _ (Builtin.SmallTypes.nextOf (.ref j1) >>= _) _ _ _;refine o_ (w9 (bP i1 λo e=>t1.extBut _ _ D.i1z e) (l1.keep λo e=>t1.extBut _ _ D.l1z e) ex λg2 m1 t2=>v_ ?_);have q2:IsPair g2 q u v:=t2.extBut _ _ D.TOi1 (t1.extBut _ _ D.TOz hq);refine o_ (NV q2 rfl ?_);refine o_ (Pf q2 λg3 (q3:IsPair g3 q x v) t3=>?_);refine o_ (wpAny_letGo (v_ ?_));refine o_ (o_ (Po ?_));show wpAny _ _ (Builtin.SmallTypes.nextOf (.ref j2) >>= _) _ _ _;refine o_ (w9 (bP i2 λo e=>t3.extBut _ _ D.TOi2.symm (t2.extBut _ _ D.i12.symm (t1.extBut _ _ D.i2z e))) (l2.keep λo e=>t3.extBut _ _ D.l2TO (t2.extBut _ _ D.l2i1 (t1.extBut _ _ D.l2z e))) ey λg4 m2 t4=>v_ ?_);have q4:IsPair g4 q x v:=t4.extBut _ _ D.TOi2 q3;refine o_ (NV q4 rfl ?_);refine o_ (Pf q4 λg5 (q5:IsPair g5 q x y) t5=>?_);refine o_ (wpAny_letGo (v_ (v_ ?_)));refine o_ (NV q5 rfl ?_);refine o_ (wpAny_newTuple ?_);have sz:g5.objs.size=s.heap.objs.size:=by rw[t5.1,t4.1,t3.1,t2.1,t1.1]
 have y5:IsZip g5 z p q .ellipsis:=t5.extBut _ _ D.TOz.symm (t4.extBut _ _ D.i2z.symm (t3.extBut _ _ D.TOz.symm (t2.extBut _ _ D.i1z.symm y1)));have all5:∀c o,c≠z->c≠q->c≠j1->c≠j2->s.heap.get? c=some o->g5.get? c=some o:=λc o c1 c2 c3 c4 e=>t5.extBut _ _ c2 (t4.extBut _ _ c4 (t3.extBut _ _ c2 (t2.extBut _ _ c3 (t1.extBut _ _ c1 e))));have n1:ItB b1 g5 j1 a1 (n+1):=bP m1 λo e=>t5.extBut _ _ D.TOi1.symm (t4.extBut _ _ D.i12 (t3.extBut _ _ D.TOi1.symm e));have n2:ItB b2 g5 j2 a2 (n+1):=bP m2 λo e=>t5.extBut _ _ D.TOi2.symm e;have zl:z<g5.objs.size:=A_ y5;show wpAny _ _ (Builtin.SmallTypes.ownedTupleHandOut (.ref z) (.ref g5.objs.size) >>= _) _ _ _;refine o_ ?_;unfold Builtin.SmallTypes.ownedTupleHandOut;have y6:IsZip (g5.push { cls:=.type "tuple",data:=.seq #[x,y] }) z p q .ellipsis:=r_ _ y5;refine o_ (NZ y6 (by simp) λg7 (y7:IsZip g7 z p q (rawInt g5.objs.size)) t7=>?_);refine NZ y7 (by simp) λg8 (y8:IsZip g8 z p q (rawInt g5.objs.size)) t8=>?_;have up:∀c o,c≠z->g5.get? c=some o->g8.get? c=some o:=λc o c1 e=>t8.extBut _ _ c1 (t7.extBut _ _ c1 (r_ _ e));have w8:IsPair g8 g5.objs.size x y:=t8.extBut _ _ (Ov zl) (t7.extBut _ _ (Ov zl) (Em _ rfl));rw[sz] at y8 w8;refine v_ ⟨_,rfl,?_⟩;show Q (.ref g5.objs.size) _;rw[sz];exact k g8 y8 (up _ _ D.TOz q5) (bP n1 λo e=>up _ o D.i1z e) (bP n2 λo e=>up _ o D.i2z e) w8 λc o c1 c2 c3 c4 e=>up c o c1 (all5 c o c1 c2 c3 c4 e)
def CB(hh:A.handled=none)(D:ZipApart z p q j1 j2 a1 a2)(hz:IsZip s.heap z p q .none)(hp:IsPair s.heap p (.ref j1) (.ref j2))(hq:IsPair s.heap q u v)
 (i1:ItB b1 s.heap j1 a1 n) (i2:ItB b2 s.heap j2 a2 n) (l1:LsB b1 s.heap a1 xs) (l2:LsB b2 s.heap a2 ys) (en:xs[n]?=none\/ys[n]?=none)
 (k:∀h' e,(∀c o,c≠z->c≠q->c≠j1->c≠j2->s.heap.get? c=some o->h'.get? c=some o)->(∃o,h'.get? e=some o/\o.cls=.type "StopIteration")->E (.ref e) { s with heap:=h' }):wpAny (model prog w) A (Builtin.«zip.__next__» ⟨[.ref z],[]⟩) Q E s:=by
 show wpAny _ _ (field (.ref z) 2 >>= _) _ _ _;refine o_ (Nh hz rfl (x:=.bool false) rfl ?_);show wpAny _ _ (field (.ref z) 3 >>= _) _ _ _;refine o_ (Nh hz rfl (x:=.ref p) rfl ?_);refine o_ (NV hp rfl ?_);show wpAny _ _ (Builtin.SmallTypes.ownedTupleIsFree (.ref z) >>= _) _ _ _;refine o_ ?_;unfold Builtin.SmallTypes.ownedTupleIsFree;refine o_ (Nh hz rfl (x:=.none) rfl (v_ ?_));simp only[Od];refine o_ (OA ?_);refine o_ (Nh hz rfl (x:=.ref q) rfl ?_);refine o_ (NZ hz (by simp) λg1 (y1:IsZip g1 z p q .ellipsis) t1=>?_);refine o_ ?_;simp only[List.zipIdx_cons,List.zipIdx_nil,OF,Pj];refine o_ (o_ (Po ?_));show wpAny _ _ (Builtin.SmallTypes.nextOf (.ref j1) >>= _) _ _ _;cases ex:xs[n]? with
 |
  none=>
  refine o_ (pF hh (bP i1 λo e=>t1.extBut _ _ D.i1z e) (l1.keep λo e=>t1.extBut _ _ D.l1z e) ex λg2 e t2 ⟨oe,he,ce⟩=>?_);have y2:IsZip g2 z p q .ellipsis:=t2 _ _ D.i1z.symm y1;have ez:e≠z:=λw=>by subst w;rw[y2] at he;cases he;simp at ce
  exact NZ y2 (by simp) λg3 _ t3=>k g3 e (λc o c1 _ c3 _ w=>t3.extBut _ _ c1 (t2 _ _ c3 (t1.extBut _ _ c1 w))) ⟨oe,t3.extBut _ _ ez he,ce⟩
 |
  some x=>
  have ey:ys[n]?=none:=en.resolve_left λw=>by rw[ex] at w;cases w
  refine o_ (w9 (bP i1 λo e=>t1.extBut _ _ D.i1z e) (l1.keep λo e=>t1.extBut _ _ D.l1z e) ex λg2 m1 t2=>v_ ?_);have q2:IsPair g2 q u v:=t2.extBut _ _ D.TOi1 (t1.extBut _ _ D.TOz hq);refine o_ (NV q2 rfl ?_);refine o_ (Pf q2 λg3 q3 t3=>?_);refine o_ (wpAny_letGo (v_ ?_));refine o_ (o_ (Po ?_));show wpAny _ _ (Builtin.SmallTypes.nextOf (.ref j2) >>= _) _ _ _;refine o_ (pF hh (bP i2 λo e=>t3.extBut _ _ D.TOi2.symm (t2.extBut _ _ D.i12.symm (t1.extBut _ _ D.i2z e))) (l2.keep λo e=>t3.extBut _ _ D.l2TO (t2.extBut _ _ D.l2i1 (t1.extBut _ _ D.l2z e))) ey λg4 e t4 ⟨oe,he,ce⟩=>?_);have y4:IsZip g4 z p q .ellipsis:=t4 _ _ D.i2z.symm (t3.extBut _ _ D.TOz.symm (t2.extBut _ _ D.i1z.symm y1));have ez:e≠z:=λw=>by subst w;rw[y4] at he;cases he;simp at ce
  exact NZ y4 (by simp) λg5 _ t5=>k g5 e (λc o c1 c2 c3 c4 w=>t5.extBut _ _ c1 (t4 _ _ c4 (t3.extBut _ _ c2 (t2.extBut _ _ c3 (t1.extBut _ _ c1 w))))) ⟨oe,t5.extBut _ _ ez he,ce⟩
end
noncomputable def Bw (b:Bool):String:=if b then "list_iterator" else "tuple_iterator"
def uV(h:LsB b s.heap a its)(k:Q (.ref s.heap.objs.size) { s with heap:=s.heap.push { cls:=.type (Bw b),data:=.fields #[.ref a,.int 0 0] } }):wpAny (model prog w) A (pyIter (.ref a)) Q E s:=by
 cases b with
 |true=>exact wpAny_pyIter_list h k
 |false=>exact wpAny_pyIter_tuple h k
abbrev zp1(h:Heap)(b:Bool)(a:Addr):Heap:=h.push { cls:=.type (Bw b),data:=.fields #[.ref a,.int 0 0] }
abbrev zp2(h:Heap)(b c:Bool)(a d:Addr):Heap:=zp1 (zp1 h b a) c d
abbrev zp3(h:Heap)(b c:Bool)(a d:Addr):Heap:=(zp2 h b c a d).push { cls:=.type "tuple",data:=.seq #[.ref h.objs.size,.ref (zp1 h b a).objs.size] }
abbrev zp4(h:Heap)(b c:Bool)(a d:Addr):Heap:=(zp3 h b c a d).push { cls:=.type "tuple",data:=.seq #[.none,.none] }
abbrev zp5(h:Heap)(b c:Bool)(a d:Addr):Heap:=(zp4 h b c a d).push { cls:=.type "zip",data:=.fields #[.none,.bool false,.bool false,.ref (zp2 h b c a d).objs.size,.ref (zp3 h b c a d).objs.size] }
def BS(b c:Bool)(a d:Addr)(xs ys:Array Value):Meets (Builtin.«zip.__new__» ⟨[.type "zip",.ref a,.ref d],[]⟩) (λ_ R s=>LsB b s.heap a xs/\LsB c s.heap d ys/\R (.ok (.ret (.ref (zp4 s.heap b c a d).objs.size))) { s with heap:=zp5 s.heap b c a d }):=
 .of_wp λprog w A R s h=>by
  obtain⟨hp,g,dr,tk,os⟩:=s;obtain⟨la,ld,h⟩:=h;have hsub:=sub_zip;have L1:LsB b (Shared.heap ⟨hp,g,dr,tk,os⟩) a xs:=la;have L2':LsB c (Shared.heap ⟨hp.push { cls:=.type (Bw b),data:=.fields #[.ref a,.int 0 0] },g,dr,tk,os⟩) d ys:=ld.keep λo e=>r_ _ e
  wp_walk using uV L1,uV L2'
  exact⟨_,rfl,h⟩
def yN(la:LsB b s.heap a xs)(ld:LsB c s.heap d ys)
 (k:∀h',IsZip h' (s.heap.objs.size+4) (s.heap.objs.size+2) (s.heap.objs.size+3) .none->IsPair h' (s.heap.objs.size+2) (.ref s.heap.objs.size) (.ref (s.heap.objs.size+1))->IsPair h' (s.heap.objs.size+3) .none .none->
  ItB b h' s.heap.objs.size a 0->ItB c h' (s.heap.objs.size+1) d 0->(∀c o,s.heap.get? c=some o->h'.get? c=some o)->Q (.ref (s.heap.objs.size+4)) { s with heap:=h' }):wpAny (model prog w) A (call (.type "zip") [.ref a,.ref d]) Q E s:=by
 refine callType_new F.called_zip (by decide) (F.typeCall_zip_2 _ _) (F.newCall_zip_2 _ _) (λobj=>F.args_object_init_3 obj _ _) F.entry_zip_new (BS b c a d xs ys) ⟨la,ld,?_⟩;have n1:(zp1 s.heap b a).objs.size=s.heap.objs.size+1:=OP ..;have n2:(zp2 s.heap b c a d).objs.size=s.heap.objs.size+2:=by rw[OP,n1]
 have n3:(zp3 s.heap b c a d).objs.size=s.heap.objs.size+3:=by rw[OP,n2]
 have n4:(zp4 s.heap b c a d).objs.size=s.heap.objs.size+4:=by rw[OP,n3]
 have up:=λ{h:Heap}{x:Addr}{o:Obj} (o':Obj) (e:h.get? x=some o)=>r_ o' e;have e5:(zp5 s.heap b c a d).get? (zp4 s.heap b c a d).objs.size=some _:=Em _ rfl;have e4:(zp5 s.heap b c a d).get? (zp3 s.heap b c a d).objs.size=some _:=up _ (Em _ rfl);have e3:(zp5 s.heap b c a d).get? (zp2 s.heap b c a d).objs.size=some _:=up _ (up _ (Em _ rfl));have e2:(zp5 s.heap b c a d).get? (zp1 s.heap b a).objs.size=some _:=up _ (up _ (up _ (Em _ rfl)));have e1:(zp5 s.heap b c a d).get? s.heap.objs.size=some _:=up _ (up _ (up _ (up _ (Em _ rfl))));show _/\_;rw[n2,n3,n4] at e5;rw[n1,n2] at e3;rw[n3] at e4;rw[n1] at e2;rw[n4];have i1:ItB b (zp5 s.heap b c a d) s.heap.objs.size a 0:=by cases b <;> exact⟨_,e1,rfl,rfl⟩
 have i2:ItB c (zp5 s.heap b c a d) (s.heap.objs.size+1) d 0:=by cases c <;> exact⟨_,e2,rfl,rfl⟩
 exact⟨⟨_,e5,rfl⟩,k _ e5 e3 e4 i1 i2 λx o e=>up _ (up _ (up _ (up _ (up _ e))))⟩
noncomputable def ItZ (K:W.Frag) (b c:Bool) (a d:Addr):It:=
 ⟨λi H=>∃xs ys x y,SqB K b H a xs/\SqB K c H d ys/\xs[i]?=some x/\ys[i]?=some y,
  λi H x H'=>∃p u v,x=.ref p/\H p=none/\H'=upd H p (.tup [u,v])/\(∀xs,SqB K b H a xs->xs[i]?=some u)/\∀ys,SqB K c H d ys->ys[i]?=some v,
  λi H=>∃xs ys,SqB K b H a xs/\SqB K c H d ys/\(xs[i]?=none\/ys[i]?=none)⟩
def ji(I:Inv X pins σ H s)(hq:SqB X.K b H a xs):∃its:List Value,Vals xs its/\LsB b s.heap a its.toArray:=by
 cases b with
 |true=>obtain⟨its,rv,p,_⟩:=I.list hq;exact⟨its,rv,p.isList⟩
 |false=>obtain⟨its,rv,p,_⟩:=I.tuple hq;exact⟨its,rv,p⟩
def AI{P:Program}{w:World}{K:W.Frag}{elts:List Expr}{x1:Nat}{tp:Pos}(b c:Bool)(a d z p q j1 j2:Addr)(D:ZipApart z p q j1 j2 a d):
 Turn P w K (.Tuple elts x1 tp) (ItZ K b c a d) [z,p,q,j1,j2] z (λi h=>IsZip h z p q .none/\IsPair h p (.ref j1) (.ref j2)/\(∃u v,IsPair h q u v)/\ItB b h j1 a i/\ItB c h j2 d i) where
 mem:=by simp
 obj:=λi h st e he=>by
  obtain⟨s1,s2,⟨u,v,s3⟩,s4,s5⟩:=st;obtain⟨o4,k4,l4,_⟩:=kH s4;obtain⟨o5,k5,l5,_⟩:=kH s5;simp only[G_,O1,or_false] at he;rcases he with rfl |rfl |rfl |rfl |rfl
  .exact⟨_,s1,λv y=>by cases y⟩
  .exact⟨_,s2,λv y=>by cases y⟩
  .exact⟨_,s3,λv y=>by cases y⟩
  .exact⟨o4,k4,l4⟩
  .exact⟨o5,k5,l5⟩
 keep:=λi h h' st k=>by obtain⟨s1,s2,⟨u,v,s3⟩,s4,s5⟩:=st;exact⟨k z (by simp) _ s1,k p (by simp) _ s2,⟨u,v,k q (by simp) _ s3⟩,bP s4 λo e=>k j1 (by simp) o e,bP s5 λo e=>k j2 (by simp) o e⟩
 item:=
  by
  intro X hP hw hK hc i pins s σ H E I hf st hg;subst hP hw hK;obtain⟨xs,ys,x,y,qx,qy,ex,ey⟩:=hg;obtain⟨s1,s2,⟨u,v,s3⟩,s4,s5⟩:=st;obtain⟨ix,rx,lx⟩:=ji I qx;obtain⟨iy,ry,ly⟩:=ji I qy;obtain⟨ux,hux,rux⟩:=rx.get ex;obtain⟨uy,huy,ruy⟩:=ry.get ey;have hTy:s.TypeIs (.ref z) "zip":=⟨_,s1,rfl⟩;have zl:=A_ s1;have pl:=A_ s2;have ql:=A_ s3;obtain⟨o4,k4,_,_⟩:=kH s4;obtain⟨o5,k5,_,_⟩:=kH s5;have j1l:=A_ k4;have j2l:=A_ k5;unfold pyNext;refine o_ (OY (Nz (name:=Str.ofString "__next__") hTy O5 (Of O5 hTy F.entry_zip_next (zipN D s1 s2 s3 s4 s5 lx ly (by simpa using hux) (by simpa using huy) λh' y1 y3 y4 y5 yT hk=>v_ ?_) (F.args_zip_next_1 _))));refine⟨_,rfl,wpAny_letOwnedTupleGo_zip (s:={ s with heap:=h' }) y1 λh2 z2 sb=>?_⟩;have sb':Heap.SameBut z h' h2:=sb;have hT:H s.heap.objs.size=none:=I.hok.fresh (u_ _);have I1:Inv X pins σ (upd H s.heap.objs.size (.tup [x,y])) { s with heap:=s.heap.push { cls:=.type "tuple",data:=.seq #[ux,uy] },toks:=s.toks }:=
   I.laid (t':=s.toks) (λc o q=>r_ _ q) (u_ _) ⟨by show 2<=sizeLine;decide,[ux,uy],.cons rux (.cons ruy .nil),⟨_,Em _ rfl,rfl,_,rfl⟩⟩
  have fp':∀e∈[z,p,q,j1,j2],FpOk X pins (upd H s.heap.objs.size (.tup [x,y])) e:=λe he=>by
   have:=hf e he
   simp only[G_,O1,or_false] at he;rcases he with rfl |rfl |rfl |rfl |rfl
   .exact this.up (ML zl)
   .exact this.up (ML pl)
   .exact this.up (ML ql)
   .exact this.up (ML j1l)
   .exact this.up (ML j2l)
  have I2:Inv X pins σ (upd H s.heap.objs.size (.tup [x,y])) { s with heap:=h2,toks:=s.toks }:=
   Inv.turnedL (s:={ s with heap:=s.heap.push { cls:=.type "tuple",data:=.seq #[ux,uy] },toks:=s.toks }) (ch:=[z,p,q,j1,j2]) (t':=s.toks) I1 (λe o he qe=>by
    have c1:e≠z:=λw=>he (by simp [w]);have c2:e≠q:=λw=>he (by simp [w]);have c3:e≠j1:=λw=>he (by simp [w]);have c4:e≠j2:=λw=>he (by simp [w]);rw[sb'.2 e c1];have q':(s.heap.push { cls:=.type "tuple",data:=.seq #[ux,uy] }).get? e=some o:=qe;by_cases w:e=s.heap.objs.size
    .subst w;rw[Em _ rfl] at q';cases q';exact yT
    .rw[Heap.get?_push_ne _ _ _ w] at q';exact hk e o c1 c2 c3 c4 q') fp'
  refine⟨.ref s.heap.objs.size,_,I2,rfl,⟨_,x,y,rfl,hT,rfl,λzs hz=>by rw[SqB.inj I hz qx];exact ex,λzs hz=>by rw[SqB.inj I hz qy];exact ey⟩,⟨z2,?_,⟨ux,uy,?_⟩,bP y4 λo e=>(sb'.2 j1 D.i1z).trans e,bP y5 λo e=>(sb'.2 j2 D.i2z).trans e⟩,λe he=>(fp' e he).1⟩
  .exact (sb'.2 p D.TIz).trans (hk p _ D.TIz D.TITO D.TIi1 D.TIi2 s2)
  .exact (sb'.2 q D.TOz).trans y3
 done:=by
  intro X hP hw hK hc i pins s σ H E I hf st hg;subst hP hw hK;obtain⟨xs,ys,qx,qy,en⟩:=hg;obtain⟨s1,s2,⟨u,v,s3⟩,s4,s5⟩:=st;obtain⟨ix,rx,lx⟩:=ji I qx;obtain⟨iy,ry,ly⟩:=ji I qy;have hTy:s.TypeIs (.ref z) "zip":=⟨_,s1,rfl⟩;have en':ix.toArray[i]?=none\/iy.toArray[i]?=none:=by
   rcases en with e |e
   .left;rw[OG] at e;simp;rw[<- rx.length];exact e
   .right;rw[OG] at e;simp;rw[<- ry.length];exact e
  unfold pyNext;refine o_ (OY (Nz (name:=Str.ofString "__next__") hTy O5 (Of O5 hTy F.entry_zip_next (CB (I.ok.hd hc) D s1 s2 s3 s4 s5 lx ly en' λh' e hk ⟨o,ho,co⟩=>?_) (F.args_zip_next_1 _))));refine o_ (wpAny_isInstance (T:="StopIteration") (b:=true) ⟨o,ho,co⟩ isSubtype_stop (v_ ⟨rfl,?_⟩));exact Inv.turnedL (ch:=[z,p,q,j1,j2]) (t':=s.toks) I (λe o he qe=>hk e o (λw=>he (by simp [w])) (λw=>he (by simp [w])) (λw=>he (by simp [w])) (λw=>he (by simp [w])) qe) hf
 self:=λ_ _ _ _ _ st h=>wpAny_pyIter_zip st.1 h
def yZ:bootBuiltins "zip"=some (.type "zip"):=by decide
def Hm(hg:Gl X "zip")(hm:X.mg "zip"=none)(ha:PA X [l,m] tl)(hs:starEach [l,m] X.env=[(false,eval l X.env),(false,eval m X.env)])(hs2:starEach [m] X.env=[(false,eval m X.env)]):
 PI X (.Tuple elts x1 tp) (.Call (.Name "zip" p) [l,m] [] pos) (λσ H R=>tl σ H λvs H1=>∃(b c:Bool) (a d:Addr) (xs ys:List V),vs=[.ref a,.ref d]/\SqB X.K b H1 a xs/\SqB X.K c H1 d ys/\R (ItZ X.K b c a d) H1):=by
 intro pins s σ H R I h;refine Call_ (cN I hg hm yZ (MZ (thn (ha pos pins s σ H _ I h) λus s1 zz=>exA zz λvs H1 I1 r1 q1=>?_) (by rw[hs,hs2]) (by rw[hs2];rfl)));obtain⟨b,c,a,d,xs,ys,e,qx,qy,q⟩:=q1;subst e;cases r1 with
 |
  cons r rr=>
  cases rr with
  |
   cons r' rr=>
   cases rr;cases r;cases r';obtain⟨ix,rx,lx⟩:=ji I1 qx;obtain⟨iy,ry,ly⟩:=ji I1 qy;have la:a<s1.heap.objs.size:=by cases b <;> (obtain⟨o,e,_⟩:=lx;exact A_ e)
   have ld:d<s1.heap.objs.size:=by cases c <;> (obtain⟨o,e,_⟩:=ly;exact A_ e)
   refine yN lx ly λh' y1 y2 y3 y4 y5 hk=>wpAny_pyIter_zip y1 ⟨s1.heap.objs.size+4,[s1.heap.objs.size+4,s1.heap.objs.size+2,s1.heap.objs.size+3,s1.heap.objs.size,s1.heap.objs.size+1],_,_,H1,rfl,I1.kept (t':=s1.toks) λc o z=>hk c o z,AI b c a d _ _ _ _ _ (W.ktu_apart _ _ _ la ld),⟨y1,y2,⟨_,_,y3⟩,y4,y5⟩,λe he=>?_,q⟩;have hge:s1.heap.objs.size<=e:=by
    simp only[G_,O1,or_false] at he;rcases he with rfl |rfl |rfl |rfl |rfl
    .exact O2 _ _
    .exact O2 _ _
    .exact O2 _ _
    .exact u_ _
    .exact O2 _ _
   exact I1.fpOk hge (I1.hok.fresh hge)
inductive D where
 |non |bl (b:Bool) |int (i:Int) |str (x:Str) |ty (n:String) |glb (x:Str) |exc (x:Str) |tup (xs:List D) |ref (n:Nat) |kl (xs:List D)
 deriving Inhabited
inductive Ob where
 |lst (xs:List D) |fz (xs:List D) |set (xs:List Int) |dct (kvs:List (Key×D)) |any
 deriving Inhabited
abbrev AH:=List Ob
abbrev AE:=List (Option D)
inductive R(α:Type) where
 |ok (a:α) (h:AH) |exc (c:Str) (h:AH) |stuck
inductive SR where
 |nx (ae:AE) (h:AH) |rt (d:D) (h:AH) |bk (ae:AE) (h:AH) |ct (ae:AE) (h:AH) |exc (c:Str) (ae:AE) (h:AH) |stuck
abbrev ME:=AE->AH->R D
abbrev MT:=AE->AH->R Bool
abbrev MA:=AE->AH->R (List D)
abbrev MS:=AE->AH->SR
section
variable(K:W.Frag)(mg:Pp)
def fQ(c:Addr)(q:Str):Heap->Prop:=λh=>h.CodeRec (.ref c) q
noncomputable def mh:List Str:=["by_falling_weights", "least_around"]
def LamT(P:Addr)(q:Str):Prop:=∃(x:Str) (f:Addr) (oc:Value) (od:Option Addr) (fd:FuncData) (sl:Array (Option Value)) (c:Addr),x∈mh/\(∀y∈mh,y≠x->mg y=none)/\mg x=some (.ref f)/\K.lookup f=some ⟨oc,od,.func fd,sl⟩/\fd.code=.ref c/\W.codeHdIn K c P=true/\q=fd.qualname ++ ".<locals>." ++ "<lambda>"
def bmP(o:Obj):Prop:=o.cls=.type "module" /\ o.dict=some builtinsNs/\o.data=.plain
def sJ(H:Hp):Prop:=∃b o,mg "__builtins__"=some (.ref b)/\b≠builtinsNs/\b≠mainGlobals/\bmP o/\(K.lookup b=some o\/∃u,H b=some (.frz o u))
end
section
variable{X:Cx}{e:Expr}{es:List Expr}{st:Stmt}{sts:List Stmt}
def PE.imp(h:PE X e t)(k:∀σ H Q,t' σ H Q->t σ H Q):PE X e t':=λpins s σ H Q I w=>h pins s σ H Q I (k σ H Q w)
def PT.imp(h:PT X e t)(k:∀σ H Q,t' σ H Q->t σ H Q):PT X e t':=λpins s σ H Q I w=>h pins s σ H Q I (k σ H Q w)
def PW.imp(h:PW X e t)(k:∀σ H Q,t' σ H Q->t σ H Q):PW X e t':=λwh pins s σ H Q I w=>h wh pins s σ H Q I (k σ H Q w)
def PA.imp(h:PA X es t)(k:∀σ H Q,t' σ H Q->t σ H Q):PA X es t':=λpos pins s σ H Q I w=>h pos pins s σ H Q I (k σ H Q w)
def PS.imp(h:PS X st t)(k:∀D σ H,t' D σ H->t D σ H):PS X st t':=λpins s σ H D I w=>h pins s σ H D I (k D σ H w)
def PSs.imp(h:PSs X sts t)(k:∀D σ H,t' D σ H->t D σ H):PSs X sts t':=λpins s σ H D I w=>h pins s σ H D I (k D σ H w)
def PG.imp(h:PG X e t)(k:∀v σ H Q,t' v σ H Q->t v σ H Q):PG X e t':=λpins s σ H v u Q I r w=>h pins s σ H v u Q I r (k v σ H Q w)
def PGs.imp(h:PGs X es t)(k:∀v σ H Q,t' v σ H Q->t v σ H Q):PGs X es t':=λpins s σ H v u Q I r w=>h pins s σ H v u Q I r (k v σ H Q w)
def PO.imp(h:PO X o t)(k:∀σ H Q,t' σ H Q->t σ H Q):PO X o t':=λpins s σ H Q I w=>h pins s σ H Q I (k σ H Q w)
end
abbrev MG:=D->AE->AH->R AE
abbrev MGs:=List D->AE->AH->R AE
noncomputable def g2 (f:Int->Int->R D) (x y:D):R D:=match x,y with
 |.int i,.int j=>f i j
 |_,_=>.stuck
section
variable{K:W.Frag}{X:Cx}
def nC(K:W.Frag):R2:=λx y H Q=>∃a b ys,x=.ref a/\y=.ref b/\SqT K H a []/\SqT K H b ys/\Q (.ref b) H
def EL:OpR X (binaryOp .Add) (nC X.K):=by
 intro pins s σ H x y v u Q I rx ry h;obtain⟨a,b,ys,rfl,rfl,ha,hb,q⟩:=h;cases rx;cases ry;obtain⟨its,r1,p1,_⟩:=I.tuple ha;obtain⟨its2,r2,p2,_⟩:=I.tuple hb;have e:its=[]:=r1.nil_iff.mpr rfl;subst e;obtain⟨⟨cls,dd,data,sl⟩,ho,hc,n,hd⟩:=id p1;obtain⟨⟨cls2,dd2,data2,sl2⟩,ho2,hc2,n2,hd2⟩:=id p2;simp only at hc hd hc2 hd2;subst hc hd hc2 hd2;exact concat_meets ⟨_,ho,rfl⟩ ⟨_,ho2,rfl⟩ noFill_tuple_add seq_tuple_add OU OQ (ON _ _)
  (tuple_addW0 _ _ _ _ n n2 dd dd2 sl sl2 rfl) ⟨ho,ho2,⟨.ref b,H,I,rfl,q⟩⟩
def ixK(h:X.K=K):IxR X (λx y H Q=>Bt K x y H Q\/Ao K x y H Q):=by subst h;exact EO.or F7
def catK(h:X.K=K):OpR X (binaryOp .Add) (λx y H Q=>sf x y H Q\/(mL K x y H Q\/nC K x y H Q)):=by subst h;exact Jr.or (Fl.or EL)
end
inductive AIt where
 |lst (n:Nat) (xs:List D) |tup (xs:List D) |rng (lo:Int) (k:Nat) |rgd (lo:Int) (k:Nat) |txt (x:Str) |enm (s:AIt) |zip (s t:AIt)
abbrev MI:=AE->AH->R AIt
section
variable{K:W.Frag}{X:Cx}{tg iter e a b:Expr}{I:MI}
def PI.imp(h:PI X tg iter t)(k:∀σ H Q,t' σ H Q->t σ H Q):PI X tg iter t':=λpins s σ H Q I w=>h pins s σ H Q I (k σ H Q w)
def Jt(hl:PE X l tl):PI X tg l (λσ H R=>tl σ H λx H1=>(∃a,x=.ref a/\(∃xs,SqL X.K H1 a xs)/\R (Itl X.K a) H1)\/(∃a,x=.ref a/\(∃xs,SqT X.K H1 a xs)/\R (Itt X.K a) H1)):=by
 intro pins s σ H R I h;refine thn (hl pins s σ H _ I h) λv s1 zz=>exA zz λx H1 I1 r1 q1=>?_;rcases q1 with ⟨a,e,⟨xs,hq⟩,q⟩ |⟨a,e,⟨xs,hq⟩,q⟩
 .subst e;cases r1;obtain⟨its,rv,p,hz⟩:=I1.list hq;refine wpAny_pyIter_list p.isList ?_;refine⟨s1.heap.objs.size,[s1.heap.objs.size],_,_,H1,rfl,I1.kept (t':=s1.toks) λb o e=>r_ _ e,ym a _,⟨_,Em _ rfl,rfl,rfl⟩,λb hb=>?_,q⟩;have e:b=s1.heap.objs.size:=by simpa using hb
  subst e;exact I1.fpOk (u_ _) (I1.hok.fresh (u_ _))
 .subst e;cases r1;obtain⟨its,rv,p,hz⟩:=I1.tuple hq;refine wpAny_pyIter_tuple (show s1.heap.IsTuple a its.toArray from p) ?_;refine⟨s1.heap.objs.size,[s1.heap.objs.size],_,_,H1,rfl,I1.kept (t':=s1.toks) λb o e=>r_ _ e,wM a _,⟨_,Em _ rfl,rfl,rfl⟩,λb hb=>?_,q⟩;have e:b=s1.heap.objs.size:=by simpa using hb
  subst e;exact I1.fpOk (u_ _) (I1.hok.fresh (u_ _))
end
section
variable{K:W.Frag}{X:Cx}
def Ll(h:X.K=K):CallR X (.builtin "len") (λxs H Q=>(∃p ys,xs=[.ref p]/\(SqL K H p ys\/SqT K H p ys)/\Q (.int ys.length) H)\/(∃z,xs=[.str z]/\z.length<=sizeLine/\Q (.int z.length) H)):=by subst h;exact qZ.or tY
def Hj(h:X.K=K):CallR X (.type "list") (λxs H Q=>∃p ys,xs=[.ref p]/\(SqL K H p ys\/SqT K H p ys)/\∀l,H l=none->Q (.ref l) (upd H l (.lst ys))):=by subst h;exact tW
def Fn(h:X.K=K):CallR X (.type "tuple") (λxs H Q=>∃p ys,xs=[.ref p]/\((SqL K H p ys/\∀l,H l=none->Q (.ref l) (upd H l (.tup ys)))\/(SqT K H p ys/\Q (.ref p) H))):=by subst h;exact pV
end
inductive Cl where
 |b (n:String) |o (x:Str)
 deriving DecidableEq
def ClV(mg:Pp):Cl->Value->Prop
 |.b n,v=>v=.type n
 |.o x,v=>∃a,v=.ref a/\mg x=some (.ref a)
abbrev jR:=List (Cl×Cl×Bool)
structure KitsOk(K:W.Frag)(mg:Pp)(kt:jR):Prop where
 one:∀p∈kt,∀t v,ClV mg p.1 t->ClV mg p.2.1 v->W.kitOne K t v=some p.2.2
 xc:∀p∈kt,∀x C,p.1=.o x->mg x=some (.ref C)->XCls K C
noncomputable def kit (kt:jR) (t c:Cl):Option Bool:=(kt.find? λp=>decide (p.1=t)&&decide (p.2.1=c)).map (·.2.2)
noncomputable def gO (kt:jR) (t:Cl):List Cl->Option Bool
 | []=>some false
 |c::r=>match kit kt t c with
  |some true=>some true
  |some false=>gO kt t r
  |none=>none
def nY(e:kit kt t c=some b):(t,c,b)∈kt:=by
 unfold kit at e;cases q:kt.find? (λp=>decide (p.1=t)&&decide (p.2.1=c)) with
 |none=>rw[q] at e;cases e
 |some p=>rw[q] at e;have h1:=List.find?_some q;have h2:=List.mem_of_find?_eq_some q;simp only[t_,Np] at h1;obtain⟨p1,p2,p3⟩:=p;have e3:p3=b:=J_ e;obtain⟨rfl,rfl⟩:=h1;subst e3;exact h2
section
variable{K:W.Frag}{mg:Pp}{X:Cx}{H:Hp}{h:AH}
def zD(ok:KitsOk K mg kt)(ht:ClV mg t tv):∀{cs:List Cl}{cvs:List Value}{b:Bool},Paired (ClV mg) cs cvs->gO kt t cs=some b->W.kitAny K tv cvs=some b:=by
 intro cs;induction cs with
 |nil=>intro cvs b r e;cases r;cases e;rfl
 |
  cons c cs ih=>
  intro cvs b r e;cases r with
  |
   cons r rr=>
   unfold gO at e;unfold W.kitAny;cases q:kit kt t c with
   |none=>rw[q] at e;cases e
   |
    some z=>
    rw[q] at e;rw[ok.one _ (nY q) _ _ ht r];cases z with
    |true=>exact e
    |false=>exact ih rr e
def yp:CallR X (.builtin "isinstance") (λxs H Q=>∃x tp cs t vs b,xs=[x,.ref tp]/\SqT X.K H tp cs/\TyX X.K H x t/\cs.mapM fU=some vs/\W.kitAny X.K t vs=some b/\Q (.bl b) H):=by intro pins s σ H xs us Q I r h;obtain⟨x,tp,cs,t,vs,b,rfl,ht,ty,hc,hk,q⟩:=h;obtain⟨u,w',rfl,rx,rc⟩:=qE r;cases rc;obtain⟨its,rv,⟨o,e,c,n,d⟩,_⟩:=I.tuple ht;obtain rfl:=pJ hc rv;obtain⟨Hh,Z,p,hne⟩:=vo I rx ty;obtain⟨oc,od,odt,osl⟩:=o;have c':oc=.type "tuple":=c;have d':odt=.seq its.toArray n:=d;subst c' d';exact W.kia_tup Z I.kIn p e hk hne λtk=>⟨.bl b,H,I.tok _,rfl,q⟩
def Ka(hK:X.K=K):CallR X (.builtin "isinstance") (λxs H Q=>(∃x c t v b,xs=[x,c]/\TyX K H x t/\fU c=some v/\W.kitOne K t v=some b/\Q (.bl b) H)\/
 (∃x tp cs t vs b,xs=[x,.ref tp]/\SqT K H tp cs/\TyX K H x t/\cs.mapM fU=some vs/\W.kitAny K t vs=some b/\Q (.bl b) H)):=by subst hK;exact CG.or yp
end
section
variable{K:W.Frag}{X:Cx}{H:Hp}{h:AH}
inductive EqsR(K:W.Frag)(H:Hp)(y:V)(pd:PyData):List V->List Bool->Prop where
 |nil:EqsR K H y pd [] []
 |cons {x:V}{px:PyData}{xs:List V}{bs:List Bool} (rx:Rep K H x px) (hx:shp px=true) (r:EqsR K H y pd xs bs):EqsR K H y pd (x::xs) (PyData.eqv px pd::bs)
def rEqs(K:W.Frag)(H:Hp)(l:Addr)(y:V)(bs:List Bool):Prop:=∃xs pd,SqL K H l xs/\Rep K H y pd/\shp pd=true/\EqsR K H y pd xs bs
def tI(I:Inv X pins σ H s)(hu:X.A.units+190<cLine)(ry:Rep X.K H y pd)(rv:RelV y v)(hy:shp pd=true):∃e:Value->Bool,∀{xs:List V}{bs:List Bool}{its:List Value},EqsR X.K H y pd xs bs->Vals xs its->its.map e=bs/\∀u∈its,SeqAt.EqAt X.A.in1 s u v (e u):=by
 classical
 obtain⟨as,q1⟩:=ry.reads I rv;refine⟨λu=>if q:∃d as,Reads s.heap u d as/\shp d=true then PyData.eqv q.choose pd else false,λ{xs bs its} r rr=>?_⟩;induction r generalizing its with
 |nil=>cases rr;exact⟨rfl,λu hu=>nomatch hu⟩
 |
  cons rx hx r ih=>
  rename_i x px xs bs;cases rr with
  |
   cons r1 rr=>
   rename_i u us;obtain⟨ih1,ih2⟩:=ih rr;obtain⟨as1,q2⟩:=rx.reads I r1;have hq:∃d as,Reads s.heap u d as/\shp d=true:=⟨px,as1,q2,hx⟩;have e1:(if q:∃d as,Reads s.heap u d as/\shp d=true then PyData.eqv q.choose pd else false)=PyData.eqv px pd:=by
    rw[dif_pos hq];obtain⟨as2,q3,hs3⟩:=hq.choose_spec
    have:=SeqAt.Reads.unique px hq.choose u _ _ (fN hx) q2 q3
    rw[<- this]
   refine⟨by rw[z_,ih1,e1],λw hw=>?_⟩;rcases G_.mp hw with rfl |hw
   .dsimp only;rw[e1];exact SeqAt.eqAt_reads px pd X.A.in1 s _ _ _ _ q2 q1 (fN hx) (fN hy) (mJ hx (by have:X.A.in1.units=X.A.units+1:=rfl;rw[this];omega))
   .exact ih2 w hw
def n0(K:W.Frag):V->List V->Hp->VK->Prop:=λx vs H Q=>∃l y bs,x=.ref l/\vs=[y]/\rEqs K H l y bs/\bs.idxOf true<bs.length/\Q (.int (bs.idxOf true:Nat)) H
def oR(K:W.Frag):V->List V->Hp->VK->Prop:=λx vs H Q=>∃l y bs,x=.ref l/\vs=[y]/\rEqs K H l y bs/\Q (.int (bs.count true:Nat)) H
def EqsR.len(r:EqsR K H y pd xs bs):xs.length=bs.length:=by
 induction r with
 |nil=>rfl
 |cons _ _ _ ih=>rw[F_,F_,ih]
def CZ(hu:X.A.units+190<cLine):MtM X "list.index" (n0 X.K):=by
 intro pins s σ H x vs v us Q I rx rv h;obtain⟨l,y,bs,rfl,rfl,⟨xs,pd,hq,ry,hy,re⟩,hi,q⟩:=h;cases rx;obtain⟨u,rfl,ru⟩:=rv.one;obtain⟨e,he⟩:=tI I hu ry ru hy;obtain⟨its,r,⟨o,n,eo,hc,hd,hs⟩,hz⟩:=I.list hq;obtain⟨m1,m2⟩:=he re r;have a_:=r.length;have hbl:=re.len;have hn:=gU;have hj:bs.idxOf true<its.toArray.size:=by rw[y_];omega
 have eo':s.heap.get? l=some { cls:=.type "list",dict:=o.dict,data:=.seq its.toArray n,slots:=o.slots }:=by rw[eo];obtain⟨oc,od,odt,osl⟩:=o;have h1:oc=.type "list":=hc;have h2:odt=.seq its.toArray n:=hs;subst h1 h2;rfl
 have em:∀(m:Nat) (hm:m<its.toArray.size),bs[m]?=some (e its.toArray[m]):=λm hm=>by
  rw[<- m1,MQ];have:its[m]?=some its.toArray[m]:=by rw[C_ (by simpa using hm)];rfl
  rw[this];rfl
 refine Pa PySem.F.slot_list_index ⟨_,eo',rfl⟩ PySem.F.entry_list_index (PySem.F.args_list_index_2 _ _)
  (SeqAt.list_indexAt l its.toArray n o.dict o.slots u e (bs.idxOf true) hj (by omega) ?_ ?_) ⟨eo',λw hw=>m2 w (by simpa using hw),?_⟩
 .have:=em _ hj
  rw[C_ hi,List.getElem_idxOf] at this;exact (J_ this).symm
 .intro m
   hm hlt
  have:=em m hm
  have hb:m<bs.length:=by omega
  rw[C_ hb] at this;have h3
   : bs[m]≠true:=λz=>by
   have h4:bs.idxOf true<=m:=by
    have:=OM (l:=bs) (a:=true)
    rcases Nat.lt_or_ge m (bs.idxOf true) with z' |z'
    .exact absurd z (by have h5:=List.not_of_lt_findIdx (xs:=bs) (p:=(· == true)) (i:=m) z';simpa using h5)
    .exact z'
   omega
  have h4:e its.toArray[m]=bs[m]:=(J_ this).symm;rw[h4];exact Bool.eq_false_iff.mpr h3
 .exact⟨.int _,H,I.tok _,⟨_,rfl⟩,q⟩
def BW(hu:X.A.units+190<cLine):MtM X "list.count" (oR X.K):=by
 intro pins s σ H x vs v us Q I rx rv h;obtain⟨l,y,bs,rfl,rfl,⟨xs,pd,hq,ry,hy,re⟩,q⟩:=h;cases rx;obtain⟨u,rfl,ru⟩:=rv.one;obtain⟨e,he⟩:=tI I hu ry ru hy;obtain⟨its,r,⟨o,n,eo,hc,hd,hs⟩,hz⟩:=I.list hq;obtain⟨m1,m2⟩:=he re r;have eo':s.heap.get? l=some { cls:=.type "list",dict:=o.dict,data:=.seq its.toArray n,slots:=o.slots }:=by rw[eo];obtain⟨oc,od,odt,osl⟩:=o;have h1:oc=.type "list":=hc;have h2:odt=.seq its.toArray n:=hs;subst h1 h2;rfl
 refine Pa PySem.F.slot_list_count ⟨_,eo',rfl⟩ PySem.F.entry_list_count (PySem.F.args_list_count_2 _ _)
  (SeqAt.list_countAt l its.toArray n o.dict o.slots u e) ⟨eo',λw hw=>m2 w (by simpa using hw),?_⟩
 have ec:its.countP e=bs.count true:=by rw[<- m1,List.count,List.countP_map];congr 1;funext w;simp
 have ec':its.toArray.toList.countP e=bs.count true:=ec;rw[ec'];exact⟨.int _,H,I.tok _,⟨_,rfl⟩,q⟩
def Hc(h:X.K=K)(hu:X.A.units+190<cLine):MtM X "list.index" (n0 K):=by subst h;exact CZ hu
def G0(h:X.K=K)(hu:X.A.units+190<cLine):MtM X "list.count" (oR K):=by subst h;exact BW hu
def Room.u100(r:Room k A):A.units+190<cLine:=by have:=r.un;omega
end
abbrev MO:=AE->AH->R (Option Int)
section
variable{K:W.Frag}{X:Cx}{F:ME}{lo hi:Option Expr}
def xH:V->Option Int->Option Int->Hp->VK->Prop:=λx lo hi H Q=>∃z,x=.str z/\z.length<=16777216/\Q (.str (Txt.slice z lo hi)) H
def JU:SlR X xH:=by
 intro pins s σ H x v vl vu lo hi sl Q I rx hs pl pu h;obtain⟨z,rfl,hz,q⟩:=h;obtain⟨t,rfl⟩:=rx;refine⟨"str",_,PySem.F.slot_str_getitem.lookup,typeIs_str _ _ _,?_⟩;have key:∀t' k,EP X pins σ Q (.str (Txt.slice z lo hi) t') { s with toks:=k }:=λt' k=>⟨.str (Txt.slice z lo hi),H,I.tok _,⟨_,rfl⟩,q⟩;cases pl <;> cases pu
 .exact Og (l:=none) (u:=none) (st:=none) hs rfl (Pd ⟨MV (Txt.slice_le z _ _) hz,λt' k=>key t' k⟩)
 .exact Og (l:=none) (u:=some (_,_)) (st:=none) hs rfl (Pd ⟨MV (Txt.slice_le z _ _) hz,λt' k=>key t' k⟩)
 .exact Og (l:=some (_,_)) (u:=none) (st:=none) hs rfl (Pd ⟨MV (Txt.slice_le z _ _) hz,λt' k=>key t' k⟩)
 .exact Og (l:=some (_,_)) (u:=some (_,_)) (st:=none) hs rfl (Pd ⟨MV (Txt.slice_le z _ _) hz,λt' k=>key t' k⟩)
def slK(h:X.K=K):SlR X (λx lo hi H Q=>(wz K x lo hi H Q\/xC K x lo hi H Q)\/xH x lo hi H Q):=by subst h;exact (EA.or IE).or JU
end
abbrev cxT(X:Cx)(pn:Pq)(xe:Pt):Cx:={ X with pn:=pn,xe:=xe }
section
variable{X:Cx}{pins pins2 pn:Pq}{σ:St}{H:Hp}{s:Shared}{xe:Pt}
def Inv.toT(I:Inv X pins σ H s):Inv (cxT X (X.pn++pins) xe) [] σ H s:=
 ⟨⟨I.ok.mod,I.ok.kind,I.ok.glob,I.ok.blt,I.ok.above,I.ok.inj,I.ok.has,I.ok.cab,I.ok.hd,I.ok.frames,I.ok.stk,I.ok.exf,I.ok.bs,I.ok.bsz,I.ok.noex,I.ok.exfs,I.ok.funs,I.ok.frf⟩,I.os,I.bare,I.base,I.loc,I.cell,I.free,I.freeC,λp hp=>I.pin p (by simpa using hp),I.hok,I.len⟩
def Inv.ofT(I:Inv (cxT X (X.pn++pins) xe) pins2 σ H s):Inv X pins σ H s:=
 ⟨⟨I.ok.mod,I.ok.kind,I.ok.glob,I.ok.blt,I.ok.above,I.ok.inj,I.ok.has,I.ok.cab,I.ok.hd,I.ok.frames,I.ok.stk,I.ok.exf,I.ok.bs,I.ok.bsz,I.ok.noex,I.ok.exfs,I.ok.funs,I.ok.frf⟩,I.os,I.bare,I.base,I.loc,I.cell,I.free,I.freeC,λp hp=>I.pin p (Ox _ hp),I.hok,I.len⟩
end
def CMulA(i j:Int):Prop:=C4 i j\/CMul i j
section
variable{K:W.Frag}{X:Cx}
def JQ(h:X.K=K):OpR X (binaryOp .Add) (λx y H Q=>rI0 (λi j=>.int (i+j)) x y H Q\/(sf x y H Q\/(mL K x y H Q\/nC K x y H Q))):=GO.or (catK h)
def IW:OpR X (binaryOp .Mult) (rI CMulA λi j=>.int (i*j)):=by
 intro pins s σ H x y v u Q I rx ry h;obtain⟨i,j,e1,e2,hc,q⟩:=h;rcases hc with hc |hc
 .exact D8 pins s σ H x y v u Q I rx ry ⟨i,j,e1,e2,hc,q⟩
 .exact IJ pins s σ H x y v u Q I rx ry ⟨i,j,e1,e2,hc,q⟩
end
def iJ(h1:pd.canLay0=true)(h2:pd.depth<=160):shp pd=true:=by unfold shp;rw[h1,H_ h2];rfl
def Sm(n:Nat)(x:Int):Prop:=x.natAbs<2^n
def Sm.mono(h:Sm n x)(l:n<=m):Sm m x:=I_ h (Nj (by omega) l)
def Sm.mul(h:Sm n x)(k:Sm m y):Sm (n+m) (x*y):=by unfold Sm at *;rw[Nm,NW];exact Nat.mul_lt_mul'' h k
def Sm.bits(h:Sm n x):Builtin.Int.intBits x<=n:=intBits_le_iff.mpr h
def Sm.of_le(h:Sm n y)(l:x.natAbs<=y.natAbs):Sm n x:=NG l h
def CMulA.of(h:Sm n x)(k:Sm m y)(hn:n<=100000)(hm:m<=100000):CMulA x y:=.inl ⟨MV h.bits hn,MV k.bits hm⟩
def CMulA.left(h:-(2^64)<x)(k:x<2^64):CMulA x y:=.inr (.inl ⟨h,k⟩)
def CMulA.right(h:-(2^64)<y)(k:y<2^64):CMulA x y:=.inr (.inr ⟨h,k⟩)
def CDivB.of(h0:y≠0)(h:Sm 8000 y):CDivB x y:=⟨h0,h.bits⟩
structure Sz(n:Nat)(q:Rat):Prop where
 top:Sm n q.num
 bot:Sm n (q.den:Int)
def zq{a b:Int}(hb:b≠0):((a:Rat)/(b:Rat)).num*b=a*((a:Rat)/(b:Rat)).den:=by
 have h2:=Rat.num_divInt_den ((a:Rat)/(b:Rat));have h3:Rat.divInt ((a:Rat)/(b:Rat)).num (((a:Rat)/(b:Rat)).den:Int)=Rat.divInt a b:=by rw[h2,Rat.divInt_eq_div]
 exact (Rat.divInt_eq_divInt_iff (by have:=((a:Rat)/(b:Rat)).den_nz;omega) hb).mp h3
def uT(q:Rat):Int.gcd q.num q.den=1:=by
 have:=q.reduced
 exact this
def nA(hb:b≠0):Fr.T a b=((a:Rat)/(b:Rat)).num/\Fr.B a b=(((a:Rat)/(b:Rat)).den:Int):=by
 refine Fr.uniq (Fr.B_pos hb) (by have:=((a:Rat)/(b:Rat)).den_pos;omega) (Fr.low hb) (uT _) ?_;have h1:=Fr.cross (a:=a) hb;have h2:=zq (a:=a) hb;generalize ((a:Rat)/(b:Rat)).num=n at *;generalize (((a:Rat)/(b:Rat)).den:Int)=d at *;generalize Fr.T a b=x at *;generalize Fr.B a b=y at *;have h3:(x*d)*b=(n*y)*b:=by
  calc x*d*b=(x*b)*d:=by rw[OL]
   _=a*y*d:=by rw[h1]
   _=(a*d)*y:=by rw[OL]
   _=n*b*y:=by rw[h2]
   _=n*y*b:=by rw[OL]
 exact OC hb h3
def xO{a b:Int}(hb:b≠0):((a:Rat)/(b:Rat)).num.natAbs<=a.natAbs:=by
 have h:=(nA (a:=a) hb).1;rw[<- h];have h1:=Fr.T_mul (a:=a) hb;have h2:=Fr.dv_ne (a:=a) hb;have h3:(Fr.T a b).natAbs*(Fr.dv a b).natAbs=a.natAbs:=by rw[<- Nm,h1]
 have h4:1<=(Fr.dv a b).natAbs:=by omega
 calc (Fr.T a b).natAbs=(Fr.T a b).natAbs*1:=by omega
  _<=(Fr.T a b).natAbs*(Fr.dv a b).natAbs:=NA _ h4
  _=a.natAbs:=h3
def xi{a b:Int}(hb:b≠0):((((a:Rat)/(b:Rat)).den:Int)).natAbs<=b.natAbs:=by
 have h:=(nA (a:=a) hb).2;rw[<- h];have h1:=Fr.B_mul (a:=a) hb;have h2:=Fr.dv_ne (a:=a) hb;have h3:(Fr.B a b).natAbs*(Fr.dv a b).natAbs=b.natAbs:=by rw[<- Nm,h1]
 have h4:1<=(Fr.dv a b).natAbs:=by omega
 calc (Fr.B a b).natAbs=(Fr.B a b).natAbs*1:=by omega
  _<=(Fr.B a b).natAbs*(Fr.dv a b).natAbs:=NA _ h4
  _=b.natAbs:=h3
def Sz.div(hb:b≠0)(ha:Sm n a)(hb':Sm m b)(k:Nat)(h1:n<=k)(h2:m<=k):Sz k ((a:Rat)/(b:Rat)):=
 ⟨(ha.of_le (xO hb)).mono h1,(hb'.of_le (xi hb)).mono h2⟩
def cR(q:Rat):(q.den:Int)≠0:=by have:=q.den_nz;omega
def eF(q:Rat):q=(q.num:Rat)/((q.den:Int):Rat):=by
 have:=Rat.num_divInt_den q
 rw[Rat.divInt_eq_div] at this;exact this.symm
def iA{b:Int}(h:b≠0):(b:Rat)≠0:=by intro z;exact h (by exact_mod_cast z)
def Fc(p q:Rat):p+q=((p.num*q.den+q.num*p.den:Int):Rat)/((p.den*q.den:Int):Rat):=by
 have h1:=iA (cR p);have h2:=iA (cR q)
 conv=>lhs;rw[eF p,eF q]
 simp only[Rat.intCast_add,Ng];grind
def va(p q:Rat):p*q=((p.num*q.num:Int):Rat)/((p.den*q.den:Int):Rat):=by
 have h1:=iA (cR p);have h2:=iA (cR q)
 conv=>lhs;rw[eF p,eF q]
 simp only[Ng];grind
def Sz.mul(hp:Sz n p)(hq:Sz m q):Sz (n+m) (p*q):=by rw[va];exact Sz.div (by have:=cR p;have:=cR q;exact Oj ‹_› ‹_›) (hp.top.mul hq.top) (hp.bot.mul hq.bot) _ (by omega) (by omega)
def vT{q:Rat}:0<q.num ↔ 0<q:=by
 have h1:=Rat.num_nonneg (q:=q);have h2:=O_ (q:=q);constructor
 .intro h;refine Rat.lt_of_le_of_ne (h1.mp (by omega)) λz=>?_
  have:=h2.mpr z.symm
  omega
 .intro h;have h3:=h1.mpr (Rat.le_of_lt h);have h4:q.num≠0:=λz=>(Rat.ne_of_lt h) (h2.mp z).symm;omega
def JS(p q:Rat):p<q ↔ p.num*q.den<q.num*p.den:=Rat.lt_iff p q
def Cs{P:Program}{w:World}{H:Hp}(h:Heap)(hb:sysModules<h.objs.size):ObjOk P w H (h.push { cls:=.type "dict",data:=.dict #[] }) h.objs.size (.dK []):=
 ⟨Nc _,E_.mpr (Ne.symm (ML hb)),[],.nil,Heap.DictOf.new h⟩
def Inv.big{X:Cx}{pins:Pq}{σ:St}{H:Hp}{s:Shared}(I:Inv X pins σ H s):sysModules<s.heap.objs.size:=by have h:mainGlobals<s.heap.objs.size:=(I.mod.glob.keeps I.bk).lt;exact O9 (by decide) h
def Ju:TE:=λ_ H Q=>∀p,H p=none->Q (.ref p) (upd H p (.dK []))
section
variable{X:Cx}{pos:Pos}
def BF:PE X (.Dict [] [] pos) Ju:=λpins s σ H Q I h=>
 wpAny_Dict_empty ⟨.ref s.heap.objs.size,_,I.laid (a:=s.heap.objs.size) (o:=.dK []) (t':=s.toks) (λ_ _ q=>r_ _ q) (u_ _) (Cs s.heap I.big),rfl,h _ (I.hok.fresh (u_ _))⟩
end
variable{K:W.Frag}{mg:Pp}
section
variable{κ:Type}[DecidableEq κ]
noncomputable def hX (kvs:List (κ×V)) (k:κ):Option V:=(kvs.find? λkv=>decide (kv.1=k)).map (·.2)
noncomputable def ir (kvs:List (κ×V)) (k:κ) (v:V):List (κ×V):=
 if (kvs.any λkv=>decide (kv.1=k))=true then kvs.map (λkv=>if kv.1=k then (kv.1,v) else kv) else kvs++[(k,v)]
def ml{p:κ×V}{r:List (κ×V)}{k:κ}(e:p.1=k):hX (p::r) k=some p.2:=by simp [hX,Nf,e]
def mq{p:κ×V}{r:List (κ×V)}{k:κ}(e:¬ p.1=k):hX (p::r) k=hX r k:=by simp [hX,Nf,e]
theorem sI(k:κ):∀kvs:List (κ×V),(kvs.any λkv=>decide (kv.1=k))=(hX kvs k).isSome
 | []=>rfl
 |
  p::r=>by
  rw[Nw];by_cases e:p.1=k
  .simp only[ml e,H_ e,Bool.true_or,Option.isSome_some]
  .rw[mq e,D_ e,Bool.false_or];exact sI k r
def lJ(kvs:List (κ×V))(k:κ)(v:V):(ir kvs k v).length<=kvs.length+1:=by
 unfold ir;split
 .rw[p_];omega
 .rw[L_,F_,M0];omega
def RelO.isSome_eq(r:RelO o u):o.isSome=u.isSome:=by
 cases o with
 |none=>cases u with
  |none=>rfl
  |some _=>exact (show False from r).elim
 |some _=>cases u with
  |none=>exact (show False from r).elim
  |some _=>rfl
def KV.val(r:KV kvs vs)(k:κ):RelO (hX kvs k) (valueAt vs k):=by
 unfold KV at r;induction r with
 |nil=>exact True.intro
 |
  @cons p q ps qs h t ih=>
  obtain⟨h1,h2⟩:=h;by_cases e:p.1=k
  .have e':q.1=k:=h1.symm.trans e;have b:valueAt (q::qs) k=some q.2:=by simp [valueAt,Nf,e']
   rw[ml e,b];exact h2
  .have e':¬ q.1=k:=λz=>e (h1.trans z);have b:valueAt (q::qs) k=valueAt qs k:=by simp [valueAt,Nf,e']
   rw[mq e,b];exact ih
def KV.any(r:KV kvs vs)(k:κ):(kvs.any λkv=>decide (kv.1=k))=vs.any λkv=>decide (kv.1=k):=by
 unfold KV at r;induction r with
 |nil=>rfl
 |cons h t ih=>rw[Nw,Nw,ih,h.1]
def KV.repl(r:KV kvs vs)(k:κ)(ry:RelV y u):
 KV (kvs.map λkv=>if kv.1=k then (kv.1,y) else kv) (vs.map λkv=>if kv.1=k then (kv.1,u) else kv):=by
 unfold KV at r ⊢;induction r with
 |nil=>exact .nil
 |
  @cons p q ps qs h t ih=>
  rw[z_,z_];refine .cons ?_ ih;obtain⟨h1,h2⟩:=h;by_cases e:p.1=k
  .rw[if_pos e,if_pos (h1.symm.trans e)];exact⟨h1,ry⟩
  .rw[if_neg e,if_neg (λz=>e (h1.trans z))];exact⟨h1,h2⟩
def KV.put(r:KV kvs vs)(k:κ)(ry:RelV y u):KV (ir kvs k y) (stored vs k u):=by
 unfold ir stored;rw[r.any k];by_cases e:(vs.any λkv=>decide (kv.1=k))=true
 .rw[if_pos e,if_pos e];exact r.repl k ry
 .rw[if_neg e,if_neg e];exact Paired.snoc r ⟨rfl,ry⟩
def KV.length(r:KV kvs vs):kvs.length=vs.length:=Pl r
end
def wA(r:RelV (kV k) u):(b0 P w).is k u=true:=by
 cases k with
 |inl i=>obtain⟨t,e⟩:=(show ∃t,u=Value.int i t from r);subst e;exact uM P w i t
 |inr x=>obtain⟨t,e⟩:=(show ∃t,u=Value.str x t from r);subst e;exact uC P w x t
theorem pb:∀{ks:List Key}{us:List Value},Vals (ks.map kV) us->ItemsAre (b0 P w) ks us
 | [],_,r=>by rw[M1] at r;cases r;exact .nil
 |
  k::ks,_,r=>by
  rw[z_] at r;cases r with
  |cons h t=>exact .cons (wA h) (pb t)
abbrev KT(H:Hp):List (List Key×V)->List (List Key×Addr×Value)->Prop:=Paired λp q=>p.1=q.1/\H q.2.1=some (.tup (p.1.map kV))/\RelV p.2 q.2.2
def KT.val(r:KT H kvs xs)(k:List Key):RelO (hX kvs k) ((atKey xs k).map (·.2)):=by
 induction r with
 |nil=>exact True.intro
 |
  @cons p q ps qs h t ih=>
  obtain⟨h1,_,h2⟩:=h;by_cases e:p.1=k
  .have e':q.1=k:=h1.symm.trans e;have b:atKey (q::qs) k=some q.2:=by simp [atKey,Nf,e']
   rw[ml e,b];exact h2
  .have e':¬ q.1=k:=λz=>e (h1.trans z);have b:atKey (q::qs) k=atKey qs k:=by simp [atKey,Nf,e']
   rw[mq e,b];exact ih
def KT.repl(r:KT H kvs xs)(k:List Key)(ry:RelV y u):
 KT H (kvs.map λkv=>if kv.1=k then (kv.1,y) else kv) (xs.map (putAt k u)):=by
 induction r with
 |nil=>exact .nil
 |
  @cons p q ps qs h t ih=>
  rw[z_,z_];refine .cons ?_ ih;obtain⟨h1,h2,h3⟩:=h;unfold putAt;by_cases e:p.1=k
  .rw[if_pos e,if_pos (h1.symm.trans e)];exact⟨h1,h2,ry⟩
  .rw[if_neg e,if_neg (λz=>e (h1.trans z))];exact⟨h1,h2,h3⟩
def KT.put(r:KT H kvs xs)(k:List Key)(hb:H b=some (.tup (k.map kV)))(ry:RelV y u):
 KT H (ir kvs k y) (storedH xs k b u):=by
 have e:(kvs.any λkv=>decide (kv.1=k))=(atKey xs k).isSome:=by rw[sI,(r.val k).isSome_eq,Option.isSome_map]
 unfold ir storedH;rw[e];by_cases q:(atKey xs k).isSome=true
 .rw[if_pos q,if_pos q];exact r.repl k ry
 .rw[if_neg q,if_neg q];exact Paired.snoc r ⟨rfl,hb,ry⟩
def KT.keeps(r:KT H kvs xs)(ht:∀b ys,H b=some (.tup ys)->H' b=some (.tup ys)):KT H' kvs xs:=
 Paired.mapP r λ_ _ z=>⟨z.1,ht _ _ z.2.1,z.2.2⟩
section
variable{P:Program}{w:World}{H:Hp}{h:Heap}{a:Addr}
def DB(ok:HOk P w H h)(e:Rd H a u):ObjOk P w H h a u:=e.ok ok
def xb(ok:HOk P w H h)(e:Rd H a (.dK kvs)):kvs.length<=sizeLine/\(a==sysModules)=false/\∃vs,KV kvs vs/\h.DictOf (b0 P w) a vs:=
 show ObjOk P w H h a (.dK kvs) from DB ok e
def KZ(ok:HOk P w H h)(e:H a=some (.dK kvs)):kvs.length<=sizeLine/\(a==sysModules)=false/\∃vs,KV kvs vs/\h.DictOf (b0 P w) a vs:=xb ok (.inl e)
def sQ(ok:HOk P w H h)(e:H a=some (.tup (ks.map kV))):(tupleKind (b0 P w)).is h ks a:=by obtain⟨_,its,r,o,h1,h2,n,h3⟩:=(show ObjOk P w H h a (.tup (ks.map kV)) from ok a _ e);exact⟨o,its.toArray,n,h1,h2,h3,by simpa using pb r⟩
def wH(ok:HOk P w H h)(e:Rd H a (.dT kvs)):kvs.length<=sizeLine/\(a==sysModules)=false/\
 ∃xs,KT H kvs xs/\h.DictOfH (tupleKind (b0 P w)) a xs:=by
 obtain⟨z,y,xs,r,o,es,ep,h1,h2,h3,h4,h5⟩:=(show ObjOk P w H h a (.dT kvs) from DB ok e);refine⟨z,y,xs,r,o,es,ep,h1,h2,h3,h4,λx hx=>?_,h5⟩;have all:∀{l:List (List Key×V)}{m:List (List Key×Addr×Value)},KT H l m->∀x∈m,(tupleKind (b0 P w)).is h x.1 x.2.1:=by
  intro l m q;induction q with
  |nil=>intro x hx;exact nomatch hx
  |
   @cons p q ps qs hq t ih=>
   intro x hx;rcases G_.mp hx with e |hx
   .subst e;exact sQ ok (by rw[<- hq.1];exact hq.2.1)
   .exact ih x hx
 exact all r x hx
def K9(ok:HOk P w H h)(e:H a=some (.dT kvs)):kvs.length<=sizeLine/\(a==sysModules)=false/\
 ∃xs,KT H kvs xs/\h.DictOfH (tupleKind (b0 P w)) a xs:=wH ok (.inl e)
end
def DGet(H:Hp)(a:Addr)(y:V)(r:Option V):Prop:=
 (∃kvs k,Rd H a (.dK kvs)/\y=kV k/\r=hX kvs k)\/∃kvs k b,Rd H a (.dT kvs)/\y=.ref b/\H b=some (.tup (k.map kV))/\r=hX kvs k
def DPut(H:Hp)(a:Addr)(y v:V)(H':Hp):Prop:=
 (∃kvs k,H a=some (.dK kvs)/\y=kV k/\kvs.length<sizeLine/\H'=upd H a (.dK (ir kvs k v)))\/
 ∃kvs k b,H a=some (.dT kvs)/\y=.ref b/\H b=some (.tup (k.map kV))/\kvs.length<sizeLine/\H'=upd H a (.dT (ir kvs k v))
def DGet.k{H:Hp}{a:Addr}{kvs:List (Key×V)}{k:Key}(e:H a=some (.dK kvs)):DGet H a (kV k) (hX kvs k):=.inl ⟨kvs,k,.inl e,rfl,rfl⟩
def DPut.k{H:Hp}{a:Addr}{kvs:List (Key×V)}{k:Key}{v:V}(e:H a=some (.dK kvs))(hl:kvs.length<sizeLine):DPut H a (kV k) v (upd H a (.dK (ir kvs k v))):=.inl ⟨kvs,k,e,rfl,hl,rfl⟩
section
variable{X:Cx}{pins:Pq}{σ:St}{H:Hp}{s:Shared}{a:Addr}{y v:V}{u r:Value}{o:Option V}{A:Around}{E:Pt}
def yO(hu:A.units+1<cLine)(I:Inv X pins σ H s)(g:DGet H a y (some v))(ry:RelV y u)(h:∀w' s',Inv X pins σ H s'->RelV v w'->Q w' s'):
 wpAny (model X.prog X.w) A (getItem (.ref a) u) Q E s:=by
 rcases g with ⟨kvs,k,e,ey,l⟩ |⟨kvs,k,b,e,ey,eb,l⟩
 .subst ey;obtain⟨z,hd,vs,rel,dd⟩:=xb I.hok e;obtain⟨w',hw,rw'⟩:=RelO.some_of (v:=v) (o:=valueAt vs k) (by rw[l];exact rel.val k);exact wpAny_getItem_of (wA ry) dd.mapOf hw (h w' _ (I.tok _) rw')
 .subst ey;cases (show u=Value.ref b from ry);obtain⟨z,hd,xs,rel,dd⟩:=wH I.hok e;obtain⟨w',hw,rw'⟩:=RelO.some_of (v:=v) (o:=(atKey xs k).map (·.2)) (by rw[l];exact rel.val k);obtain⟨p,hp,hp2⟩:=MN.mp hw;refine wpAny_getItem_heap (tupleKind_room_in1 hu) (sQ I.hok eb) dd hp ?_;rw[hp2];exact h w' _ (I.tok _) rw'
def vp(I:Inv X pins σ H s)(mu:Mut (H a))(hs:Heap.SameBut a s.heap h')(he:∃q,h'.get? a=some q)(new:ObjOk X.prog X.w (upd H a ob) h' a ob):
 Inv X pins σ (upd H a ob) { s with heap:=h',toks:=t' }:=
 I.write (x:=a) (e:=a) mu (.inl rfl) (λb q hb z=>(hs.2 b hb).trans z) he new
def Jq(z:kvs.length<=sizeLine)(hd:(a==sysModules)=false)(rel:KV kvs vs)(dd:h'.DictOf (b0 P w) a vs):
 ObjOk P w H' h' a (.dK kvs):=⟨z,hd,vs,rel,dd⟩
def zS(hu:A.units+1<cLine)(I:Inv X pins σ H s)(g:DPut H a y v H')(ry:RelV y u)(rv:RelV v r)(h:∀s',Inv X pins σ H' s'->Q () s'):
 wpAny (model X.prog X.w) A (setItem (.ref a) u r) Q E s:=by
 rcases g with ⟨kvs,k,e,ey,l,eH⟩ |⟨kvs,k,b,e,ey,eb,l,eH⟩
 .subst ey eH;obtain⟨z,hd,vs,rel,dd⟩:=KZ I.hok e;have hz:vs.length<=sizeLine:=by rw[<- rel.length];exact z
  have hl:(ir kvs k v).length<=sizeLine:=by have:=lJ kvs k v;omega
  refine wpAny_setItem_pairs (hsz:=hz) (wA ry) dd λh' dd' hs=>h _ ?_;have he:∃q,h'.get? a=some q:=let ⟨q,_,_,hq,_⟩:=dd';⟨q,hq⟩;exact vp I (by rw[e];exact True.intro) hs he (Jq hl hd (rel.put k rv) dd')
 .subst ey eH;cases (show u=Value.ref b from ry);obtain⟨z,hd,xs,rel,dd⟩:=K9 I.hok e;have hz:xs.length<=sizeLine:=by rw[<- Pl rel];exact z
  have hl:(ir kvs k v).length<=sizeLine:=by have:=lJ kvs k v;omega
  refine wpAny_setItem_heap (hsz:=hz) (tupleKind_room_in1 hu) (sQ I.hok eb) dd λh' dd' hs=>h _ ?_;obtain⟨q,es,ep,hq,h2,h3,h4,_,h5⟩:=dd';refine vp I (by rw[e];exact True.intro) hs ⟨q,hq⟩ ⟨hl,hd,_,(rel.put k eb rv).keeps λc ys ec=>?_,q,es,ep,hq,h2,h3,h4,h5⟩;rw[aE (Kq ec e (λz=>nomatch z))];exact ec
end
def A4(i:Expr):Prop:=∀ov iv,subscripted i false ov iv=operate [ov,iv] (getItem ov iv)
def E2{prog:Program}{w:World}{A:Around}{E:Pt}{s:Shared}{env:Env}{value slice:Expr}{pos:Pos}{T id:String}{Q:Pt}
 (hl:typeLookup (.type T) "__getitem__"=pure (some (.builtin id))) (hs:A4 slice)
 (h:wpAny (model prog w) A (eval value env) (λo s₁=>wpAny (model prog w) A (eval slice env) (λi s₂=>s₂.TypeIs o T/\wpAny (model prog w) A (getItem o i) Q E s₂) E s₁) E s):
 wpAny (model prog w) A (eval (.Subscript value slice pos) env) Q E s:=by
 refine Subscript_ (MU h (λo s₁ h₁=>MU h₁ (λi s₂ h₂=>?_) λ_ _ x=>x) λ_ _ x=>x);obtain⟨hT,h₂⟩:=h₂;unfold subscriptTail;refine o_ ?_;rw[getitemInPython_of_ne hT.not_modules];refine o_ (wpAny_specialOf hT hl ?_);have d_:wpAny (model prog w) A (subscripted slice false o i) (λr s₃=>wpAny (model prog w) A (letTemporaryGo value o r >>= λ_=>pure r) Q E s₃) E s₂:=by rw[hs o i];exact wpAny_operating (MU h₂ (λr s₃ h₃=>o_ (wpAny_letTemporaryGo (v_ h₃))) λ_ _ x=>x)
 first
  |exact v_ (o_ d_)
  |exact o_ (v_ (o_ d_))
  |exact o_ d_
def uA(I:Inv X pins σ H s)(g:DGet H a y o):s.TypeIs (.ref a) "dict":=by
 rcases g with ⟨kvs,k,e,_,_⟩ |⟨kvs,k,b,e,_,_,_⟩
 .obtain⟨_,_,vs,_,dd⟩:=xb I.hok e;exact dd.typeIs
 .obtain⟨_,_,xs,_,dd⟩:=wH I.hok e;exact dd.typeIs
def K4(td ty:TE):TE:=λσ H Q=>td σ H λx H1=>ty σ H1 λy H2=>∃a v,x=.ref a/\DGet H2 a y (some v)/\Q v H2
section
variable{X:Cx}{o i:Expr}{pos:Pos}{td ty:TE}
def E5(hu:X.A.units+1<cLine)(ho:PE X o td)(hi:PE X i ty)(hs:A4 i):PE X (.Subscript o i pos) (K4 td ty):=by intro pins s σ H Q I h;refine E2 PySem.F.slot_dict_getitem.lookup hs (thn (ho pins s σ H _ I h) λu s1 zz=>exA zz λx H1 I1 rx q1=>thn (hi pins s1 σ H1 _ I1 q1) λiv s2 ⟨y,H2,I2,ry,a,v,ex,g,q2⟩=>?_);subst ex;obtain rfl:u=Value.ref a:=rx;exact⟨uA I2 g,yO hu I2 g ry λw' s3 I3 rw'=>⟨v,H2,I3,rw',q2⟩⟩
end
section
variable[DecidableEq κ]
noncomputable def lkD (kvs:List (κ×α)) (k:κ):Option α:=(kvs.find? λkv=>decide (kv.1=k)).map (·.2)
noncomputable def ff (kvs:List (κ×α)) (k:κ) (v:α):List (κ×α):=if (kvs.any λkv=>decide (kv.1=k))=true then kvs.map λkv=>if kv.1=k then (kv.1,v) else kv else kvs++[(k,v)]
end
section
variable{H:Hp}
def Av[DecidableEq κ]:∀{kvs:List (κ×α)}{ws:List (κ×β)},ws.map (·.1)=kvs.map (·.1)->(ws.any λkv=>decide (kv.1=k))=kvs.any λkv=>decide (kv.1=k):=by
 intro kvs;induction kvs with
 |
  nil=>
  intro ws e;cases ws with
  |nil=>rfl
  |cons _ _=>cases e
 |
  cons p kvs ih=>
  intro ws e;cases ws with
  |nil=>cases e
  |cons w ws=>rw[z_,z_] at e;injection e with e1 e2;rw[Nw,Nw,ih e2,e1]
def DV:sG:=λo i v H Q=>∃a H4,o=.ref a/\DPut H a i v H4/\Q H4
variable{X:Cx}{a:Expr}
def A2(hu:X.A.units+1<cLine):xD X DV:=λpins s σ H o i v ov iv u Q I ro ri rv ⟨a,H4,eo,g,q⟩=>by subst eo;obtain rfl:ov=Value.ref a:=ro;exact zS hu I g ri rv λs4 I4=>⟨H4,I4,q⟩
end
open PySem PySem.Spec PySem.Calls PyProof.Rows
section
variable{X:Cx}{K:W.Frag}{es:List Expr}{pos:Pos}
def gUnp(K:W.Frag)(n:Nat)(t:TGs):TG:=λv σ H Q=>∃a xs,v=.ref a/\(SqT K H a xs\/SqL K H a xs)/\xs.length=n/\t xs σ H Q
def Gz{k:Nat}{t:TGs}{n:Nat}(hc:X.calm=true)(h:PGs X es t)
 (hn:(assignEach es X.env).length=n) (hst:(assignEach es X.env).findIdx? (·.1)=none):PG X (.Tuple es k pos) (gUnp X.K n t):=by
 intro pins s σ H v u Q I r hw;obtain⟨a,xs,e1,hq,hl,hw⟩:=hw;rcases hq with hq |hq
 .exact yW hc h hn hst pins s σ H v u Q I r ⟨a,xs,e1,hq,hl,hw⟩
 .subst e1;cases r;obtain⟨its,rv,⟨o,m,ho,oc,od,os⟩,hz⟩:=I.list hq;have ht:s.heap.IsList a its.toArray:=⟨o,ho,oc,m,os⟩;rw[assign_Tuple];refine o_ (Oh ?_);unfold unpack;rw[hst,hn,show n=its.toArray.size by simp [<- hl,rv.length]];refine o_ (Nl (W.kun_itemsOf (I.ok.hd hc) ht λh' hx=>?_));have I1:Inv X pins σ H { s with heap:=h' }:=I.kept (t':=s.toks) λb o e=>hx b o (ML (A_ e)) e;exact h pins _ σ H xs _ Q I1 (by simpa using rv) hw
end
section
variable{X:Cx}{mg:Pp}{a:Expr}{pos q2 p1 p2:Pos}
noncomputable def je (j:Int):List V:=(List.range j.toNat).map λi=>V.int ((i:Nat):Int)
def rLrg:List V->Hp->VK->Prop:=λxs H Q=>∃j:Int,xs=[.int j]/\-(2^62)<=j/\j<=16777216/\∀l,H l=none->Q (.ref l) (upd H l (.lst (je j)))
theorem uY:∀(n:Nat) (f:Nat->Int) (is:List Nat) (ys:List Value),CarriedAll ys (is.map λi=>PyData.int (f i))->Vals (is.map λi=>V.int (f i)) ys
 |n,f,[],ys,h=>by cases h;exact .nil
 |
  n,f,i::is,ys,h=>by
  cases h with
  |cons c r=>cases c;exact .cons ⟨_,rfl⟩ (uY n f is _ r)
def HB(hc:X.calm=true)(hl:Gl X "list")(hml:X.mg "list"=none)(hg:Gl X "range")(hm:X.mg "range"=none)(ha:PA X [a] ta)(hs:starEach [a] X.env=[(false,eval a X.env)])
 (hs1:starEach [.Call (.Name "range" p2) [a] [] q2] X.env=[(false,eval (.Call (.Name "range" p2) [a] [] q2) X.env)]):
 PE X (.Call (.Name "list" p1) [.Call (.Name "range" p2) [a] [] q2] [] pos) (tCB rLrg ta):=by
 intro pins s σ H Q I h;refine M6 (cN I hl hml (show bootBuiltins "list"=some (.type "list") from rfl) ?_ (by decide) (by decide));refine MZ ?_ hs1 rfl;rw[hs1];show wpAny _ _ (spliced ((false,eval (.Call (.Name "range" p2) [a] [] q2) X.env)::[])) _ _ s;refine NY ?_;refine M6 (cN I hg hm (show bootBuiltins "range"=some (.type "range") from rfl) ?_ (by decide) (by decide));refine MZ (thn (ha q2 pins s σ H _ I h) λus s1 zz=>exA zz λvs H1 I1 r1 q1=>?_) hs rfl;obtain⟨j,e,h1,h2,q⟩:=q1;subst e;cases r1 with
 |
  cons r rr=>
  cases rr;obtain⟨t,rfl⟩:=r;refine call_range_1 (Oq ?_);have I2:Inv X pins σ H1 { s1 with heap:=s1.heap.push { cls:=.type "range",data:=.fields #[.int 0 s1.toks,.int j t,.int 1 (s1.toks+1)] },toks:=s1.toks+1+1 }:=I1.kept λb o e=>r_ _ e;obtain⟨m,hns,_⟩:=I2.loc;refine list_rangeD (I.ok.hd hc) (Att.fr_all hns) (news:=[]) (λp hp=>nomatch hp) (IsRange.new ..) (small_one (by omega) (by omega) (by omega) (by omega)) (n:=j.toNat) (by rw[Pn];split <;> omega) (by omega) ?_;intro h' tk ys hf hn hk _ _ ⟨⟨c,hpl⟩,_⟩ hcar;have rv:Vals (je j) ys:=uY 0 (λi=>((i:Nat):Int)) (List.range j.toNat) ys (by
   unfold rangeInts at hcar;rw[NM] at hcar;have e:((λi=>PyData.int i) ∘ λ(i:Nat)=>(0:Int)+(i:Int)*1)=λi:Nat=>PyData.int (i:Int):=by funext i;simp
   rw[show (PyData.int ∘ λ(i:Nat)=>(0:Int)+(i:Int)*1)=λi:Nat=>PyData.int (i:Int) from e] at hcar;exact hcar)
  have hz:(je j).length<=sizeLine:=by unfold je;rw[p_,x_];have:sizeLine=16777216:=rfl;omega
  exact⟨.ref _,_,I2.laid (t':=tk) hk (u_ _) (show ObjOk X.prog X.w _ h' _ (.lst (je j)) from ⟨hz,ys,c,rv,hpl⟩),rfl,q _ (I2.hok.fresh (u_ _))⟩
end
section
variable{X:Cx}
def KN:List V->Hp->VK->Prop:=λxs H Q=>xs=[]/\∀l,H l=none->Q (.ref l) (upd H l (.set (λ_=>false) 0))
def yo:R2:=λx y H Q=>∃i a S n,x=.int i/\y=.ref a/\H a=some (.set S n)/\Q (.bl (S i)) H
def CI:OpR X (compareOp .In) yo:=by intro pins s σ H x y v u Q I rx ry h;obtain⟨i,a,S,n,rfl,rfl,hH,q⟩:=h;obtain⟨t,rfl⟩:=rx;cases ry;have hS:s.heap.SetOf (intKind X.prog X.w) a S n:=I.hok a _ hH;exact wpAny_inSet_of (intKind_is _ _ i t) rfl hS ⟨.bl (S i),H,I.tok _,rfl,q⟩
def E1:V->List V->Hp->VK->Prop:=λx vs H Q=>∃a i S n,x=.ref a/\vs=[.int i]/\H a=some (.set S n)/\n<4000/\Q .non (upd H a (.set (λk=>S k || decide (k=i)) (if S i then n else n+1)))
def Ae:MtM X "set.add" E1:=by intro pins s σ H x vs v us Q I rx rv h;obtain⟨a,i,S,n,rfl,rfl,hH,hn,q⟩:=h;cases rx;obtain⟨u,rfl,ru⟩:=rv.one;obtain⟨t,rfl⟩:=ru;have hS:s.heap.SetOf (intKind X.prog X.w) a S n:=I.hok a _ hH;refine call_set_add (intKind_is _ _ i t) rfl hS (by unfold scanBound;omega) λh' sb hS'=>?_;refine⟨.non,_,I.write (x:=a) (e:=a) (by rw[hH];exact trivial) (.inl rfl) (λb o hb e=>(sb.2 b hb).trans e) ?_ (show ObjOk X.prog X.w _ h' a (.set (λk=>S k || decide (k=i)) (if S i then n else n+1)) from hS'),rfl,q⟩;obtain⟨o,_,_,_,e,_⟩:=hS';exact⟨o,e⟩
def uN:CallR X (.builtin "len") (λxs H Q=>∃a S n,xs=[.ref a]/\H a=some (.set S n)/\Q (.int (n:Nat)) H):=by intro pins s σ H xs us Q I r h;obtain⟨a,S,n,rfl,hH,q⟩:=h;obtain⟨u,rfl,ru⟩:=eS r;cases ru;have hS:s.heap.SetOf (intKind X.prog X.w) a S n:=I.hok a _ hH;obtain⟨o,es,ep,t,e,hex,hd,_,_,hb,hf,rfl⟩:=hS;refine call_len_set e hex hd hf (by unfold scanBound at hb;omega) ⟨.int (es.size:Nat),H,I.tok _,⟨_,rfl⟩,q⟩
def zY:CallR X (.type "set") KN:=by intro pins s σ H xs us Q I r h;obtain⟨rfl,q⟩:=h;cases r;refine call_set_0 λled=>?_;refine⟨.ref s.heap.objs.size,_,I.laid (t':=s.toks) (λb o e=>r_ _ e) (u_ _) (show ObjOk X.prog X.w _ _ _ (.set (λ_=>false) 0) from ?_),rfl,q _ (I.hok.fresh (u_ _))⟩;obtain⟨h1,es,ep,tt,h2,h3,h4,h5,h6⟩:=setObjOf_fresh (knd:=intKind X.prog X.w) led;exact⟨_,es,ep,tt,Em _ rfl,h1,h2,h3,h4,by rw[h5];decide,h6,h5⟩
end
section
noncomputable def fL (xs:List Int) (i:Int):List Int:=if i∈xs then xs else i::xs
end
section
variable{X:Cx}{K:W.Frag}
def rB(K:W.Frag):V->List V->Hp->VK->Prop:=λx vs H Q=>∃l b xs zs,x=.ref l/\vs=[.ref b]/\H l=some (.lst xs)/\SqT K H b zs/\xs.length+zs.length<=sizeLine/\Q .non (upd H l (.lst (xs++zs)))
def ER(l:Addr)(xs:Array Value)(n:Nat)(b:Addr)(ys:Array Value)(n2:Nat)(dd:Option Addr)(ss:Array (Option Value))(z0:¬(!xs.isEmpty&&Builtin.List.listTooLong (xs.size+ys.size))=true)(z1:xs.size<=sizeLine)(z2:xs.size+ys.size<=sizeLine+1):
 Meets (Builtin.«list.extend» ⟨[.ref l,.ref b],[]⟩) (λ_ R s=>s.heap.get? l=some { cls:=.type "list",dict:=none,data:=.seq xs n,slots:=#[] }/\s.heap.get? b=some { cls:=.type "tuple",dict:=dd,data:=.seq ys n2,slots:=ss }/\R (.ok (.ret Value.none)) { s with heap:=s.heap.update l (Obj.mapSeq λx=>x++ys),toks:=s.toks }):=
 .of_wp λprog w A R s h=>by
  obtain⟨hp,g,d,tk,os⟩:=s;obtain⟨el,eb,h⟩:=h;have e1:=PySem.AutoSeq1.idx_int;have e2:=PySem.F.sub_tuple_tuple;have e3:=PySem.F.sub_list_list;have e4:=PySem.F.sub_tuple_list;have e5:=PySem.F.sub_list_tuple;have zz:(xs++ys).size<=sizeLine+1:=by rw[Array.size_append];exact z2
  wp_walk using (wpAny_updateSeq el rfl (hz:=z1) (_hz':=zz)),wpAny_loadPart' el,wpAny_loadPart' eb
  exact⟨_,rfl,h⟩
def wK(hK:X.K=K):MtM X "list.extend" (rB K):=by
 subst hK;intro pins s σ H x vs v us Q I rx rv h;obtain⟨l,b,xs,zs,rfl,rfl,hH,hB,hz,q⟩:=h;cases rx;obtain⟨u,rfl,ru⟩:=rv.one;cases ru;obtain⟨z,its,n,r,hl,e⟩:=I.lstM hH;obtain⟨its2,r2,⟨⟨oc,od,oda,os⟩,e2,ec,n2,ed⟩,z2⟩:=I.tuple hB;dsimp only at ec ed;subst ec ed;have hl2:=r2.length;have hsz:its.toArray.size+its2.toArray.size<=sizeLine:=by rw[y_,y_];omega
 have hlong:¬ (!its.toArray.isEmpty&&Builtin.List.listTooLong (its.toArray.size+its2.toArray.size))=true:=by rw[AU hsz,Bool.and_false];exact w_
 refine Pa PySem.F.slot_list_extend ⟨_,e,rfl⟩ PySem.F.entry_list_extend (PySem.F.args_list_extend_2 _ _)
  (ER l its.toArray n b its2.toArray n2 od os hlong (by rw[y_];omega) (by omega)) ⟨e,e2,?_⟩
 refine⟨.non,_,I.lset (its':=its++its2) hH e (by simp) (r.append r2) ?_,rfl,q⟩;rw[L_];omega
end
noncomputable def mnI:List Int->Int
 | []=>0
 | [x]=>x
 |x::y::r=>if mnI (y::r)<x then mnI (y::r) else x
theorem kK:∀{l:List Int},l≠[]->mnI l∈l
 | [x],_=>by simp [mnI]
 |
  x::y::r,_=>by
  have:=kK (l:=y::r) (by simp)
  rw[mnI];split
  .exact q_ _ this
  .exact s_ ..
theorem ze:∀{l:List Int}{a:Int},a∈l->mnI l<=a
 | [x],a,h=>by rw[Nt] at h;rw[h];exact Int.le_refl _
 |
  x::y::r,a,h=>by
  rw[mnI];rcases G_.mp h with rfl |h
  .split <;> omega
  .have:=ze (l:=y::r) h
   split <;> omega
section
variable{X:Cx}{K:W.Frag}
def BY(f:List Int->Int)(K:W.Frag):List V->Hp->VK->Prop:=λxs H Q=>∃(a:Addr) (ns:List Int),xs=[.ref a]/\SqL K H a (ns.map V.int)/\ns≠[]/\Q (.int (f ns)) H
def zO(hK:X.K=K)(hc:X.calm=true):CallR X (.builtin "min") (BY mnI K):=by
 subst hK;intro pins s σ H xs us Q I r h;obtain⟨a,ns,rfl,hq,hne,q⟩:=h;obtain⟨u,rfl,ru⟩:=eS r;cases ru;obtain⟨its,rv,p,hz⟩:=I.list hq;have hi:=lq rv;obtain⟨ys,hy⟩:=hi.allInts.items;have hn:numsOf its.toArray.toList=ns:=by rw[show its.toArray.toList=its from rfl,hi.numsOf]
 have pl:=p.isList;rw[hy] at pl hn;rw[nums_intItems] at hn;have hsz:0<ys.size:=by
  have:ns.length=ys.size:=by rw[<- hn,p_,M_]
  have:=List.length_pos_iff.mpr hne
  omega
 refine min_intList (I.ok.hd hc) pl hsz λv h' tk hv hk=>?_;obtain⟨t,rfl⟩:=intItems_at hv;obtain⟨h1,h2⟩:=argBest_lt (numAt ys) (ys.size-1);have m1:numAt ys (argBest (λi j=>decide (numAt ys i<numAt ys j)) (ys.size-1))∈ns:=by rw[<- hn,numAt_eq];exact getD_mem (by rw[p_,M_];omega)
 have m2:∀b∈ns,numAt ys (argBest (λi j=>decide (numAt ys i<numAt ys j)) (ys.size-1))<=b:=λb hb=>by rw[<- hn] at hb;obtain⟨j,hj,rfl⟩:=mem_getD hb;rw[p_,M_] at hj;rw[<- numAt_eq];exact h2 j (by omega)
 have e:numAt ys (argBest (λi j=>decide (numAt ys i<numAt ys j)) (ys.size-1))=mnI ns:=Int.le_antisymm (m2 _ (kK hne)) (ze m1);rw[e];exact⟨.int (mnI ns),H,I.kept (t':=tk) hk,⟨_,rfl⟩,q⟩
end
noncomputable def srI (ns:List Int):List Int:=ns.mergeSort
def F5{a b:List Int}(p:a.Perm b)(h:a.Pairwise (·<=·))(k:b.Pairwise (·<=·)):a=b:=p.eq_of_pairwise (λx y _ _ h1 h2=>by omega) h k
def jP(ns:List Int):(srI ns).Perm ns:=Ph ..
def IV(ns:List Int):(srI ns).Pairwise (·<=·):=by
 have:=List.pairwise_mergeSort (le:=λa b:Int=>decide (a<=b)) (λa b c=>by simp;omega) (λa b=>by simp;omega) ns
 simpa [srI] using this
def HE{a b:List Int}(p:a.Perm b)(s:a.Pairwise (·<=·)):a=srI b:=F5 (p.trans (jP b).symm) s (IV b)
open PySem PySem.W PyProof.Rows
structure LtO(lt:Nat->Nat->Bool)(N:Nat):Prop where
 irr:∀i,lt i i=false
 tr:∀i j k,lt i j=true->lt j k=true->lt i k=true
 tot:∀i j,i<N->j<N->i≠j->lt i j=true\/lt j i=true
abbrev Ask:=Nat->Nat->(Bool->Shared->Prop)->Shared->Prop
def Ans(cmp:Ask)(lt:Nat->Nat->Bool)(N:Nat)(s:Shared):Prop:=∀i j C,i<N->j<N->C (lt i j) s->cmp i j C s
structure PmO(N:Nat)(p:Array Nat):Prop where
 sz:p.size=N
 lt:∀i,i<N->p.getD i 0<N
 ne:∀i j,i<j->j<N->p.getD i 0≠p.getD j 0
def UpTo(lt:Nat->Nat->Bool)(p:Array Nat)(k:Nat):Prop:=∀i j,i<j->j<k->lt (p.getD i 0) (p.getD j 0)=true
def DnTo(lt:Nat->Nat->Bool)(p:Array Nat)(k:Nat):Prop:=∀i j,i<j->j<k->lt (p.getD j 0) (p.getD i 0)=true
def eQ(p:Array Nat)(i:Nat):p.getD i 0=(p[i]?).getD 0:=by rw[Array.getD_eq_getD_getElem?]
def PmO.of{N:Nat}{p:Array Nat}(h:p.toList.Perm (List.range N)):PmO N p:=by
 have hl:p.size=N:=by rw[<- M_,h.length_eq,x_]
 have nd:p.toList.Nodup:=h.nodup_iff.mpr O0;have e:∀i (hi:i<N),p.getD i 0=p.toList[i]'(by rw[M_,hl];exact hi):=λi hi=>by rw[eQ,OD (by rw[hl];exact hi)];simp
 refine⟨hl,λi hi=>?_,λi j hij hj=>?_⟩
 .rw[e i hi];exact MJ.mp (h.mem_iff.mp (NU _))
 .rw[e i (by omega),e j hj];exact NJ.mp nd i j _ _ hij
variable{lt:Nat->Nat->Bool}{N:Nat}{cmp:Ask}{s:Shared}
def LtO.flip(O:LtO lt N){p:Array Nat}(P:PmO N p){i j:Nat}(hij:i<j)(hj:j<N)(h:lt (p.getD j 0) (p.getD i 0)=false):lt (p.getD i 0) (p.getD j 0)=true:=by
 rcases O.tot _ _ (P.lt i (by omega)) (P.lt j hj) (P.ne i j hij hj) with z |z
 .exact z
 .rw[h] at z;cases z
def UpTo.more(O:LtO lt N){p:Array Nat}{n:Nat}(h:UpTo lt p n)(hn:1<=n)(e:lt (p.getD (n-1) 0) (p.getD n 0)=true):UpTo lt p (n+1):=λi j hij hj=>by
 by_cases hj':j<n
 .exact h i j hij hj'
 .obtain rfl:j=n:=by omega
  by_cases hi:i=j-1
  .rw[hi];exact e
  .exact O.tr _ _ _ (h i (j-1) (by omega) (by omega)) e
def DnTo.more(O:LtO lt N){p:Array Nat}{n:Nat}(h:DnTo lt p n)(hn:1<=n)(e:lt (p.getD n 0) (p.getD (n-1) 0)=true):DnTo lt p (n+1):=λi j hij hj=>by
 by_cases hj':j<n
 .exact h i j hij hj'
 .obtain rfl:j=n:=by omega
  by_cases hi:i=j-1
  .rw[hi];exact e
  .exact O.tr _ _ _ e (h i (j-1) (by omega) (by omega))
theorem qQ(O:LtO lt N)(C:Ans cmp lt N s){p:Array Nat}(P:PmO N p){Q:Nat->Shared->Prop}:∀(f n:Nat),n+f=N->1<=n->UpTo lt p n->(∀m,n<=m->m<=N->UpTo lt p m->(m=N\/lt (p.getD m 0) (p.getD (m-1) 0)=true)->Q m s)->(kas_asc p f n).kasWp cmp Q s
 |0,n,hf,h1,hu,hq=>hq n (u_ _) (by omega) hu (.inl (by omega))
 |
  f+1,n,hf,h1,hu,hq=>by
  refine C _ _ _ (P.lt n (by omega)) (P.lt (n-1) (by omega)) ?_;cases z:lt (p.getD n 0) (p.getD (n-1) 0) with
  |true=>exact hq n (u_ _) (by omega) hu (.inr z)
  |false=>exact qQ O C P f (n+1) (by omega) (by omega) (hu.more O h1 (O.flip P (by omega) (by omega) z)) λm a b=>hq m (by omega) b
theorem vN(O:LtO lt N)(C:Ans cmp lt N s){p:Array Nat}(P:PmO N p){Q:Array Nat×Nat×Nat->Shared->Prop}:∀(f n:Nat),n+f=N->1<=n->DnTo lt p n->(∀m,n<=m->m<=N->DnTo lt p m->Q (p,m,0) s)->(kas_desc f p n 0).kasWp cmp Q s
 |0,n,hf,h1,hu,hq=>hq n (u_ _) (by omega) hu
 |
  f+1,n,hf,h1,hu,hq=>by
  refine C _ _ _ (P.lt n (by omega)) (P.lt (n-1) (by omega)) ?_;cases z:lt (p.getD n 0) (p.getD (n-1) 0) with
  |true=>exact vN O C P f (n+1) (by omega) (by omega) (hu.more O h1 z) λm a b=>hq m (by omega) b
  |false=>refine C _ _ _ (P.lt (n-1) (by omega)) (P.lt n (by omega)) ?_;rw[O.flip P (by omega) (by omega) z];exact hq n (u_ _) (by omega) hu
def zM{p:Array Nat}{n k:Nat}(hn:n<=p.size):(kas_rev p 0 n).getD k 0=if k<n then p.getD (n-1-k) 0 else p.getD k 0:=by
 have e:=getElem?_mirror_all (xs:=p) (i:=0) hn k;unfold kas_rev;rw[eQ,e];by_cases h:k<n
 .rw[if_pos ⟨Nc _,h⟩,if_pos h,eQ];congr 2;omega
 .rw[if_neg (λz=>h z.2),if_neg h,eQ]
def Cm(O:LtO lt N)(C:Ans cmp lt N s){p:Array Nat}(P:p.toList.Perm (List.range N)){Q:Nat×Array Nat->Shared->Prop}{n:Nat}(h1:1<=n)(hn:n<=N)(hd:DnTo lt p n)(hq:∀m p',p'.toList.Perm (List.range N)->1<=m->m<=N->UpTo lt p' m->Q (m,p') s):(kas_tail3 n N p).kasWp cmp Q s:=by have P':(kas_rev p 0 n).toList.Perm (List.range N):=(Array.perm_iff_toList_perm.mp (mirror_perm _ _ _ _)).trans P;have sz:=(PmO.of P).sz;unfold kas_tail3;rw[KasT.kasWp_bind];refine qQ O C (PmO.of P') (N-n) n (by omega) h1 (λi j hij hj=>?_) λm a b c _=>hq m _ P' (by omega) b c;rw[zM (by omega),zM (by omega),if_pos (by omega),if_pos (by omega)];exact hd _ _ (by omega) (by omega)
def Cb(O:LtO lt N)(C:Ans cmp lt N s){p:Array Nat}(P:p.toList.Perm (List.range N))(hN:1<=N){Q:Nat×Array Nat->Shared->Prop}(hq:∀m p',p'.toList.Perm (List.range N)->1<=m->m<=N->UpTo lt p' m->Q (m,p') s):(kas_count N p).kasWp cmp Q s:=by
 unfold kas_count;rw[KasT.kasWp_bind];refine qQ O C (PmO.of P) (N-1) 1 (by omega) (u_ _) (λi j hij hj=>by omega) λm a b c d=>?_;by_cases hm:m=N
 .rw[if_pos (by rw[MX];exact hm)];exact hq m p P a b c
 .rw[if_neg (by rw[MX];exact hm)];by_cases h1:m>1
  .rw[if_pos h1];refine C _ _ _ ((PmO.of P).lt 0 (by omega)) ((PmO.of P).lt (m-1) (by omega)) ?_;rw[c 0 (m-1) (by omega) (by omega)];exact hq m p P a b c
  .rw[if_neg h1];obtain rfl:m=1:=by omega
   have z:=d.resolve_left hm;unfold kas_descPart;rw[KasT.kasWp_bind];refine vN O C (PmO.of P) (N-2) 2 (by omega) (by omega) (λi j hij hj=>?_) λm' a' b' c'=>?_
   .obtain rfl:i=0:=by omega
    obtain rfl:j=1:=by omega
    exact z
   .dsimp only;rw[if_neg (by omega)];exact Cm O C P (by omega) b' c' hq
theorem ud(O:LtO lt N)(C:Ans cmp lt N s){p:Array Nat}(P:PmO N p){k:Nat}(hk:k<N){Q:Nat->Shared->Prop}(hu:UpTo lt p k):∀(f l r:Nat),l<=r->r<=k->r-l<=f->(∀i,i<l->lt (p.getD i 0) (p.getD k 0)=true)->(∀i,r<=i->i<k->lt (p.getD k 0) (p.getD i 0)=true)->(∀m,m<=k->(∀i,i<m->lt (p.getD i 0) (p.getD k 0)=true)->(∀i,m<=i->i<k->lt (p.getD k 0) (p.getD i 0)=true)->Q m s)->(kas_place p k f l r).kasWp cmp Q s
 |0,l,r,h1,h2,h3,h4,h5,hq=>hq l (by omega) h4 λi hi=>h5 i (by omega)
 |
  f+1,l,r,h1,h2,h3,h4,h5,hq=>by
  unfold kas_place;by_cases h:l >= r
  .rw[if_pos h];exact hq l (by omega) h4 λi hi=>h5 i (by omega)
  .rw[if_neg h];refine C _ _ _ (P.lt k hk) (P.lt _ (by omega)) ?_;cases z:lt (p.getD k 0) (p.getD ((l+r)/2) 0) with
   |
    true=>
    refine ud O C P hk hu f l ((l+r)/2) (by omega) (by omega) (by omega) h4 (λi hi hik=>?_) hq;by_cases hr:i=(l+r)/2
    .rw[hr];exact z
    .exact O.tr _ _ _ z (hu _ _ (by omega) hik)
   |
    false=>
    refine ud O C P hk hu f ((l+r)/2+1) r (by omega) h2 (by omega) (λi hi=>?_) h5 hq;have y:=O.flip P (show (l+r)/2<k by omega) hk z;by_cases hr:i=(l+r)/2
    .rw[hr];exact y
    .exact O.tr _ _ _ (hu _ _ (by omega) (by omega)) y
def zU{p:Array Nat}{k l t:Nat}(hk:k<p.size)(hl:l<=k):(bubble p k (k-l)).getD t 0=if t=l then p.getD k 0 else if l<t/\t<=k then p.getD (t-1) 0 else p.getD t 0:=by
 have e:=getElem?_bubble hk (k-l) (by omega) t;rw[show k-(k-l)=l by omega] at e;rw[eQ,e];by_cases h:t=l
 .rw[if_pos h,if_pos h,eQ]
 .rw[if_neg h,if_neg h];by_cases h':l<t/\t<=k
  .rw[if_pos h',if_pos h',eQ]
  .rw[if_neg h',if_neg h',eQ]
theorem yM(O:LtO lt N)(C:Ans cmp lt N s){Q:Array Nat->Shared->Prop}(hq:∀p,p.toList.Perm (List.range N)->UpTo lt p N->Q p s):∀(f:Nat) (p:Array Nat) (k:Nat),p.toList.Perm (List.range N)->k+f=N->1<=k->UpTo lt p k->(kas_bin f p k).kasWp cmp Q s
 |
  0,p,k,P,hf,h1,hu=>by
  obtain rfl:k=N:=by omega
  exact hq p P hu
 |
  f+1,p,k,P,hf,h1,hu=>by
  have sz:=(PmO.of P).sz;unfold kas_bin;rw[KasT.kasWp_bind];refine ud O C (PmO.of P) (by omega) hu k 0 k (by omega) (u_ _) (by omega) (λi hi=>by omega) (λi h1 h2=>by omega) λm hm ha hb=>?_;refine yM O C hq f _ (k+1) ((Array.perm_iff_toList_perm.mp (bubble_perm _ _ _)).trans P) (by omega) (by omega) λi j hij hj=>?_;rw[zU (by omega) hm,zU (by omega) hm];by_cases i1:i=m
  .rw[if_pos i1];rw[if_neg (by omega),if_pos (by omega)];exact hb _ (by omega) (by omega)
  .rw[if_neg i1];by_cases j1:j=m
   .rw[if_pos j1,if_neg (by omega)];exact ha i (by omega)
   .rw[if_neg j1];by_cases i2:m<i
    .rw[if_pos (by omega),if_pos (by omega)];exact hu _ _ (by omega) (by omega)
    .rw[if_neg (by omega)];by_cases j2:m<j
     .rw[if_pos (by omega)];exact hu _ _ (by omega) (by omega)
     .rw[if_neg (by omega)];exact hu _ _ (by omega) (by omega)
def Ej(O:LtO lt N)(C:Ans cmp lt N s)(hN:1<=N){Q:Array Nat->Shared->Prop}(hq:∀p,p.toList.Perm (List.range N)->UpTo lt p N->Q p s):(kas_sort N).kasWp cmp Q s:=by
 unfold kas_sort;rw[KasT.kasWp_bind];refine Cb O C (by simp) hN λm p P h1 h2 hu=>?_;dsimp only;by_cases h:m<N
 .rw[if_pos h,show max m 1=m by omega];exact yM O C hq _ _ _ P (by omega) h1 hu
 .rw[if_neg h];obtain rfl:m=N:=by omega
  exact hq p P hu
def Dv(H:Hp):Prop:=∀b,H b=none\/(∃o xs,H b=some (.frz o xs))\/H b=some (.tbl #[])
structure TabsOk(K:W.Frag)(ts:List Addr)(h:Heap):Prop where
 at_:∀P∈ts,h.get? P=some (W.tabObj #[])
 no:∀P∈ts,K.lookup P=none
 cd:∀P∈ts,∃c,W.codeHdIn K c P=true
def spT(K:W.Frag)(mg:Pp)(ts:List Addr):Sp:=λvs H Q _=>∃(a:Addr) (ns:List Int),vs=[.ref a]/\Dv H/\SqL K H a (ns.map V.int)/\ns.length<=63/\(∀P∈ts,H P=some (.tbl #[]))/\sJ K mg H/\∀H',Q (.bl true) H'
def Ks{Pr:Program}{w:World}{K:W.Frag}{mg mb:Pp}{k:Nat}{fa a:Addr}{fd:FuncData}{x:Str}{s1:Shared}{vs:List Value}{ns:List Int}{ts:List Addr}
 (KX:K.In s1.heap) (hns:s1.heap.Ns mainGlobals mg) (hb:s1.heap.Ns builtinsNs mb) (hbb:∀y:Str,y ≠ "__name__"->mb y=bootBuiltins y) (hlim:s1.heap.NoLimit) (hg:s1.gens=#[]) (TO:TabsOk K ts s1.heap) (hbm:∃bm ob,mg "__builtins__"=some (.ref bm)/\bm≠builtinsNs/\s1.heap.get? bm=some ob/\ob.cls=.type "module" /\ ob.dict=some builtinsNs/\ob.data=.plain)
 (ha:s1.heap.get? a=some { cls:=.type "list",data:=.seq vs.toArray }) (hi:IntsAre vs ns) (hl:ns.length<=63) (hr:Room k callerA)
 (F:∀base:Heap,K.In base->base.Ns mainGlobals mg->FnOk Pr w K mg base (CX1 Pr w) k fa fd [x] (spT K mg ts)) (hbind:∀(s:Shared) (u:Value),BindsTo s fd ⟨[u],[]⟩ [(x,u)]):
 codeAny (model Pr w) callerA (.call (.ref fa) ⟨[.ref a],[]⟩) (λr s'=>r=.ok (.ret (.bool true))/\OldK s1.heap s'.heap/\s'.os=s1.os/\AllBare s'.gens) s1:=by
 have rv:=iH hi;have hz:ns.length<=sizeLine:=MV hl (by decide);have ant:a∉ts:=λz=>by
  have:=TO.at_ a z
  rw[ha] at this;cases this
 obtain⟨bm,ob,b1,b2,b3,b4,b5,b6⟩:=hbm;have bmG:bm≠mainGlobals:=λz=>by obtain⟨o,es,ep,e,dd,_⟩:=hns;rw[z,e] at b3;cases b3;rw[dd] at b6;cases b6
 have bmt:bm∉ts:=λz=>by
  have:=TO.at_ bm z
  rw[b3] at this;cases this;cases b6
 have bma:bm≠a:=λz=>by rw[z,ha] at b3;cases b3;cases b6
 have go
  : ∀Hs:Option HO,(Hs=none\/∃o xs,Hs=some (.frz o (.lst xs)))->(∀u,Hs=some u->ObjOk Pr w (λ_=>none) s1.heap a u)->(Hs≠none->K.lookup a=none)->(∀H:Hp,H a=Hs->SqL K H a (ns.map V.int))->
  codeAny (model Pr w) callerA (.call (.ref fa) ⟨[.ref a],[]⟩) (λr s'=>r=.ok (.ret (.bool true))/\OldK s1.heap s'.heap/\s'.os=s1.os/\AllBare s'.gens) s1:=by
  intro Hs h1 h2 h3 h4;obtain⟨H,eH⟩:∃H:Hp,H=λb=>if b=a then Hs else if b∈ts then some (.tbl #[]) else if b=bm/\K.lookup bm=none then some (.frz ob (.ext λ_=>True)) else none:=⟨_,rfl⟩
  have Ha:H a=Hs:=by rw[eH];exact if_pos rfl
  have Ht:∀P∈ts,H P=some (.tbl #[]):=λP hP=>by rw[eH];show (if P=a then _ else _)=_;rw[if_neg (λz=>ant (by rw[<- z];exact hP)),if_pos hP]
  have Hb:K.lookup bm=none->H bm=some (.frz ob (.ext λ_=>True)):=λq=>by rw[eH];show (if bm=a then _ else _)=_;rw[if_neg bma,if_neg bmt,if_pos ⟨rfl,q⟩]
  have Hn
   : ∀b,H b≠none->(b=a/\Hs≠none)\/b∈ts\/(b=bm/\K.lookup bm=none):=λb n=>by
   by_cases q:b=a
   .exact .inl ⟨q,by rw[<- Ha,<- q];exact n⟩
   .by_cases q2:b∈ts
    .exact .inr (.inl q2)
    .by_cases q3:b=bm/\K.lookup bm=none
     .exact .inr (.inr q3)
     .refine absurd ?_ n;rw[eH];show (if b=a then _ else _)=_;rw[if_neg q,if_neg q2,if_neg q3]
  have hO:Dv H:=λb=>by
   by_cases n:H b=none
   .exact .inl n
   .rcases Hn b n with ⟨e,n2⟩ |e |⟨e,y⟩
    .rw[e,Ha];rcases h1 with z |⟨o,xs,z⟩
     .exact absurd z n2
     .exact .inr (.inl ⟨_,_,z⟩)
    .exact .inr (.inr (Ht b e))
    .rw[e];exact .inr (.inl ⟨_,_,Hb y⟩)
  have hok:HOk Pr w H s1.heap:=λb u e=>by
   rcases Hn b (by rw[e];simp) with ⟨z,n2⟩ |z |⟨z,y⟩
   .subst z;rw[Ha] at e;have q:=h2 u e;rcases h1 with y |⟨o,xs,y⟩
    .exact absurd y n2
    .rw[e] at y;cases y;exact q
   .have y:=Ht b z;rw[e] at y;cases y;exact TO.at_ b z
   .subst z;rw[Hb y] at e;cases e;exact⟨b3,trivial,⟨ob,b3⟩,λ_ _ _ _=>trivial⟩
  have keep:∀{b:Addr}{o:Obj},s1.heap.get? b=some o->H b=none->(fC s1.heap H).get? b=some o:=λe n=>rH e n;have noD:∀{b:Addr}{o:Obj}{es:Array DictEntry}{ep:Nat},s1.heap.get? b=some o->o.data=.dict es ep->H b=none:=λ{b o es ep} e dd=>by
   by_cases n:H b=none
   .exact n
   .rcases Hn b n with ⟨z,_⟩ |z |⟨z,_⟩
    .subst z;rw[ha] at e;cases e;cases dd
    .rw[TO.at_ b z] at e;cases e;cases dd
    .subst z;rw[b3] at e;cases e;rw[b6] at dd;cases dd
  have nsK:∀{b:Addr}{m:Pp},s1.heap.Ns b m->(fC s1.heap H).Ns b m:=λ{b m} ⟨o,es,ep,e,dd,r⟩=>⟨o,es,ep,keep e (noD e dd),dd,r⟩;have kb:K.In (fC s1.heap H):=λb o e=>keep (KX b o e) (by
   by_cases n:H b=none
   .exact n
   .rcases Hn b n with ⟨z,y⟩ |z |⟨z,y⟩
    .subst z
     have:=h3 y
     rw[e] at this;cases this
    .have:=TO.no b z
     rw[e] at this;cases this
    .subst z;rw[e] at y;cases y)
  have hM:Mod K mg (fC s1.heap H):=⟨kb,nsK hns,⟨mb,nsK hb,hbb⟩,let ⟨mc,q1,q2⟩:=hlim;⟨mc,nsK q1,q2⟩⟩;have e0:Env0 Pr w K mg (fC s1.heap H) callerA [] s1 H:=⟨rfl,hM,λb o e=>vF e,Nat.le_of_eq (pI _ _),trivial,λb z=>absurd (show b∈([]:List Addr) from z) (by simp),hok,.of_eq hg⟩;refine Pc ((F _ kb (nsK hns)).run callerA [] s1 H ⟨[.ref a],[]⟩ [.ref a] [.ref a] (λv _=>v=.bl true) (λ_ _ _=>False) hr e0 (hbind s1 (.ref a)) (.cons rfl .nil) ⟨a,ns,rfl,hO,h4 H Ha,hl,Ht,?bm,λ_=>rfl⟩) λr s' h=>?_
  case bm=>
   refine⟨bm,ob,b1,b2,bmG,⟨b4,b5,b6⟩,?_⟩;cases q:K.lookup bm with
   |none=>exact .inr ⟨_,Hb q⟩
   |
    some o=>
    have:=KX bm o q
    rw[b3] at this;cases this;exact .inl rfl
  cases r with
  |error e=>obtain⟨_,_,_,_,_,_,_,z⟩:=h;exact z.2.2.elim
  |
   ok fl=>
   cases fl with
   |next=>exact False.elim h
   |brk=>exact False.elim h
   |cont=>exact False.elim h
   |
    ret u=>
    obtain⟨v,H',os,bare,un,hok',r',q⟩:=h;have q':v=.bl true:=q;subst q';obtain rfl:u=Value.bool true:=r';refine⟨rfl,⟨λb o e=>?_,λb o e=>?_⟩,os,bare⟩
    .by_cases n:H b=none
     .exact .inl (un.keep b o e n (λz=>absurd (show b∈([]:List Addr) from z) (by simp)) (by simp))
     .have fz:∀ob xs,H b=some (.frz ob xs)->asItWas s1.heap s'.heap b o:=λob xs y=>by have y2:=un.frzs b ob _ y;obtain⟨e1,_⟩:=hok b _ y;obtain⟨e2,_⟩:=hok' b _ y2;rw[e] at e1;cases e1;exact .inl e2
      rcases Hn b n with ⟨z,n2⟩ |z |⟨z,y⟩
      .rcases h1 with y |⟨ob,xs,y⟩
       .exact absurd y n2
       .exact fz _ _ (by rw[z,Ha];exact y)
      .obtain⟨more,y⟩:=un.tbls b #[] (Ht b z);obtain⟨c,hc⟩:=TO.cd b z;have tab:=(W.codeHd_of_K KX hc).tab (TO.at_ b z);have e2:=TO.at_ b z;rw[e] at e2;cases e2;exact .inr (.inl ⟨tab.isCodeTable,rfl,#[],more,rfl,hok' b _ y⟩)
      .exact fz _ _ (by rw[z];exact Hb y)
    .exact un.there b o e (by simp)
 cases hk:K.lookup a with
 |some o=>have e:=KX a o hk;rw[ha] at e;cases e;exact go none (.inl rfl) (λu z=>nomatch z) (λz=>absurd rfl z) λH _=>.inr ⟨_,vs.toArray,_,hk,rfl,rfl,rfl,by rw[y_,hi.length];exact hz,by simpa using rv⟩
 |none=>exact go (some (.frz { cls:=.type "list",data:=.seq vs.toArray } (.lst (ns.map V.int)))) (.inr ⟨_,_,rfl⟩) (λu z=>by cases z;exact⟨ha,by rw[p_];exact hz,vs,_,rv,ha⟩) (λ_=>hk) λH e=>.inl (.inr ⟨_,e⟩)
def walk_lawT{l:W.OpenLaw}{q:Program}{loose:List Str}{XP:(Str->Option Value)->Heap->Prop}{YP:World->Heap->Prop}{d:DefRec}{K:Params->W.Frag}{x:Str}{k:Nat}{ts:List Addr}(hn:l.most=some 63)(hdf:d.params.defaults=[])(hr:Room k callerA)
 (hY:∀(w:World) (h:Heap),YP w h->(K w.params).In h/\TabsOk (K w.params) ts h)
 (F:∀(w:World) (mg:Pp) (h:Heap),(K w.params).In h->h.Ns mainGlobals mg->∀base:Heap,(K w.params).In base->base.Ns mainGlobals mg->Callee l.prog w (K w.params) mg base d.name k [x] (spT (K w.params) mg ts))
 (Dd:∀(w:World) (mg:Pp) (h:Heap),(K w.params).In h->h.Ns mainGlobals mg->∃st,Def (K w.params) mg d.name st/\∀(kV doc pm:Value) (an:Option Addr) (cdv ct:Value) (us:List Value),us.length=1->bindArgs (W.fnOf d.name d.name (dm st) (bG st) (ar st) .none kV doc pm an cdv ct) ⟨us,[]⟩=pure ([x].zip us)):
 W.WalkO q loose XP YP l.row.toRowW d [] (λf vs=>PySem.call f vs):=by
 refine Att.attach_call hn hdf λw s0 s1 mg mb fa o pm cd doc a vs ns G Y ho hd k_ hmg hobj hints a_ hg=>?_;obtain⟨KX,TO⟩:=hY w _ Y;obtain⟨st,De,hbind⟩:=Dd w mg _ KX G.T.g;obtain⟨f,fd,Ff,m⟩:=De.ex;have e:=hmg.symm.trans m;cases e;obtain⟨oc,od,kV,doc',pm',an,cdv,ct,osl,rfl,lk,hcd'⟩:=Ff.ex;refine Ks KX G.T.g G.T.b G.T.builtins G.T.nolimit hg TO G.T.bmain hobj hints a_ hr (λbase kb nb=>?_) (λs u=>.of_eq (hbind kV doc' pm' an cdv ct [u] rfl));obtain⟨f',fd',F',m',kp',b',oc',od',osl',lk'⟩:=(F w mg _ KX G.T.g base kb nb).ex;rw[m] at m';cases m';rw[lk] at lk';cases lk';exact F'
noncomputable def bB (x y:Int×Int):Bool:=decide (x.1<y.1\/(x.1=y.1/\x.2<y.2))
def su(x:Int×Int):bB x x=false:=by unfold bB;rw[Ni];omega
def u3{x y z:Int×Int}(h1:bB x y=true)(h2:bB y z=true):bB x z=true:=by unfold bB at *;rw[NH] at *;omega
def rJ{x y:Int×Int}(h:x≠y):bB x y=true\/bB y x=true:=by unfold bB;rw[NH,NH];have:¬ (x.1=y.1/\x.2=y.2):=λz=>h (Prod.ext z.1 z.2);omega
def u6{α:Type}(d:α)(ks:List α):((List.range ks.length).map λi=>ks.getD i d)=ks:=List.ext_getElem (by simp) λi _ h=>by simp [h]
def yc{x y:Int×Int}(h1:bB x y=true):bB y x=false:=by
 cases z:bB y x with
 |false=>rfl
 |true=>have:=u3 h1 z;rw[su] at this;cases this
def Ey{α:Type}{k:α->Int×Int}{a b:List α}(h:a.Pairwise λx y=>bB (k x) (k y)=true)(h':b.Pairwise λx y=>bB (k x) (k y)=true)(p:a.Perm b):a=b:=p.eq_of_pairwise (λx y _ _ h1 h2=>by rw[yc h1] at h2;cases h2) h h'
def Mm{α:Type}(k:α->Int×Int)(hk:∀{x y},k x=k y->x=y){l:List α}(nd:l.Nodup):(l.mergeSort λx y=>!bB (k y) (k x)).Pairwise λx y=>bB (k x) (k y)=true:=by
 have srt:=List.pairwise_mergeSort (le:=λx y:α=>!bB (k y) (k x)) (λa b c h1 h2=>by
  simp only[bB,NP,Ni] at *;omega) (λa b=>by
  simp only[bB,Oi,NP,Ni];omega) l
 refine List.Pairwise.imp (λ{a b} h=>?_) (List.Pairwise.and ((Ph ..).nodup_iff.mpr nd) srt)
 have:=h.2
 simp only[NP] at this;exact (rJ λy=>h.1 (hk y)).resolve_right (by rw[this];exact Bool.noConfusion)
noncomputable def ltP (ks:List (Int×Int)) (i j:Nat):Bool:=bB (ks.getD i (0,0)) (ks.getD j (0,0))
def Ia{ks:List (Int×Int)}(nd:ks.Nodup):LtO (ltP ks) ks.length where
 irr:=λi=>su _
 tr:=λi j k h1 h2=>u3 h1 h2
 tot:=λi j hi hj hne=>by
  refine rJ ?_;rw[MM,MM,C_ hi,C_ hj];show ks[i]≠ks[j];rcases Nat.lt_or_gt_of_ne hne with z |z
  .exact NJ.mp nd i j hi hj z
  .exact λy=>NJ.mp nd j i hj hi z y.symm
def EI{ks:List (Int×Int)}{n:Nat}{p:Array Nat}(h1:p.toList.Perm (List.range n))(h2:UpTo (ltP ks) p n):p.toList.Pairwise λi j=>bB (ks.getD i (0,0)) (ks.getD j (0,0))=true:=by
 have sz:=(PmO.of h1).sz;rw[NJ];intro i j hi hj hij;rw[M_] at hi hj
 have:=h2 i j hij (by omega)
 rw[eQ,eQ,OD hi,OD hj] at this;exact this
def TupAt(h:Heap)(v:Value)(x:Int×Int):Prop:=∃(a:Addr) (e:Nat) (dd:Option Addr) (sl:Array (Option Value)) (t1 t2:Tok),v=.ref a/\h.get? a=some { cls:=.type "tuple",dict:=dd,data:=.seq #[.int x.1 t1,.int x.2 t2] e,slots:=sl }
def TupAt.keep{h h':Heap}{v:Value}{x:Int×Int}{b:Addr}(t:TupAt h v x)(hb:∃o,h.get? b=some o/\o.cls=.type "list")(k:∀c o,c≠b->h.get? c=some o->h'.get? c=some o):TupAt h' v x:=by obtain⟨a,e,dd,sl,t1,t2,rfl,ha⟩:=t;obtain⟨o,ho,hc⟩:=hb;exact⟨a,e,dd,sl,t1,t2,rfl,k a _ (λz=>by rw[z,ho] at ha;cases ha;injection hc with hc;exact absurd hc (by decide)) ha⟩
def TupAt.mono{h h':Heap}{v:Value}{x:Int×Int}(t:TupAt h v x)(k:∀c o,h.get? c=some o->h'.get? c=some o):TupAt h' v x:=by obtain⟨a,e,dd,sl,t1,t2,rfl,ha⟩:=t;exact⟨a,e,dd,sl,t1,t2,rfl,k a _ ha⟩
section
variable{prog:Program}{w:World}{A:Around}{E:Pt}{s:Shared}
def EN{v u:Value}{x y:Int×Int}{Q:Bool->Shared->Prop}(hv:TupAt s.heap v x)(hu:TupAt s.heap u y)(h:Q (bB x y) s):wpAny (model prog w) A (keyLt' (tuples' true) v u) Q E s:=by
 obtain⟨a,e,dd,sl,t1,t2,rfl,ha⟩:=hv;obtain⟨b,e',dd',sl',t3,t4,rfl,hb⟩:=hu;refine kat_lt ha rfl hb rfl ?_;show KatLex prog w A true false Q [(.int x.1 t1,.int y.1 t3),(.int x.2 t2,.int y.2 t4)] 0 s;refine kat_cons (wpAny_eqBool_int ?_);by_cases h1:x.1=y.1
 .rw[show (x.1==y.1)=true from MX.mpr h1];refine kat_yes (kat_cons (wpAny_eqBool_int ?_));by_cases h2:x.2=y.2
  .rw[show (x.2==y.2)=true from MX.mpr h2];refine kat_yes (kat_nil ?_);rw[show bB x y=false from by unfold bB;rw[Ni];omega] at h;exact h
  .rw[show (x.2==y.2)=false from E_.mpr h2];refine kat_no (kat_one _ _ (lt_int ?_));rw[show bB x y=decide (x.2<y.2) from Oz.mpr (by omega)] at h;exact h
 .rw[show (x.1==y.1)=false from E_.mpr h1];refine kat_no (oneLt_int ?_);rw[show bB x y=decide (x.1<y.1) from Oz.mpr (by omega)] at h;exact h
def TupsAt(h:Heap):List Value->List (Int×Int)->Prop
 | [],[]=>True
 |v::vs,x::xs=>TupAt h v x/\TupsAt h vs xs
 |_,_=>False
theorem TupsAt.len{h:Heap}:∀{vs:List Value}{xs:List (Int×Int)},TupsAt h vs xs->vs.length=xs.length
 | [],[],_=>rfl
 | [],_::_,t=>t.elim
 |_::_,[],t=>t.elim
 |_::_,_::_,t=>by rw[F_,F_,t.2.len]
theorem TupsAt.get{h:Heap}:∀{vs:List Value}{xs:List (Int×Int)} (i:Nat),TupsAt h vs xs->i<xs.length->TupAt h (vs.getD i Value.none) (xs.getD i (0,0))
 | [],[],i,_,hi=>absurd hi (by simp)
 | [],_::_,i,t,_=>t.elim
 |_::_,[],i,t,_=>t.elim
 |_::_,_::_,0,t,_=>t.1
 |_::vs,_::xs,i+1,t,hi=>TupsAt.get (vs:=vs) (xs:=xs) i t.2 (by simpa using hi)
theorem TupsAt.imp{h h':Heap}(k:∀v x,TupAt h v x->TupAt h' v x):∀{vs:List Value}{xs:List (Int×Int)},TupsAt h vs xs->TupsAt h' vs xs
 | [],[],_=>trivial
 | [],_::_,t=>t.elim
 |_::_,[],t=>t.elim
 |_::_,_::_,t=>⟨k _ _ t.1,t.2.imp k⟩
theorem TupsAt.snoc{h:Heap}{v:Value}{x:Int×Int}(tv:TupAt h v x):∀{vs:List Value}{xs:List (Int×Int)},TupsAt h vs xs->TupsAt h (vs++[v]) (xs++[x])
 | [],[],_=>⟨tv,trivial⟩
 | [],_::_,t=>t.elim
 |_::_,[],t=>t.elim
 |_::_,_::_,t=>⟨t.1,t.2.snoc tv⟩
theorem TupsAt.kat{h:Heap}:∀{vs:List Value}{xs:List (Int×Int)},TupsAt h vs xs->∃fs,KatTups h vs fs/\fs.length=xs.length/\∀f∈fs,∃i t,f=Value.int i t
 | [],[],_=>⟨[],trivial,rfl,λf z=>nomatch z⟩
 | [],_::_,t=>t.elim
 |_::_,[],t=>t.elim
 |
  _::_,x::_,t=>by
  obtain⟨fs,k,l,q⟩:=t.2.kat;obtain⟨a,e,dd,sl,t1,t2,rfl,ha⟩:=t.1;refine⟨.int x.1 t1::fs,⟨⟨a,_,_,_,rfl,ha,rfl,rfl,rfl⟩,k⟩,by rw[F_,F_,l],λf hf=>?_⟩;rcases G_.mp hf with rfl |hf
  .exact⟨_,_,rfl⟩
  .exact q f hf
def wV{vs:List Value}{xs:List (Int×Int)}{Q:SortKind->Shared->Prop}(t:TupsAt s.heap vs xs)(h2:2<=xs.length)(h:Q (tuples' true) s):wpAny (model prog w) A (keyKind' vs.toArray) Q E s:=by obtain⟨fs,k,l,q⟩:=t.kat;refine kat_kind (T:=.type "int") k (by omega) (λf hf=>?_) (by decide) h;obtain⟨i,t,rfl⟩:=q f hf;exact .now
def xV{vs:List Value}{xs:List (Int×Int)}(t:TupsAt s.heap vs xs):Ans (kas_ask prog w A (tuples' true) vs) (ltP xs) xs.length s:=λi j C hi hj c=>EN (t.get i hi) (t.get j hj) c
def AO{β:Type}{vs ks:List Value}{xs:List (Int×Int)}{k:Unit×SortSt->Sem β}{P:β->Shared->Prop}(hkl:ks.length=vs.length)(h64:vs.length<64)(T:TupsAt s.heap ks xs)(nd:xs.Nodup)(h:∀(p:Array Nat) st',p.toList.Perm (List.range vs.length)->UpTo (ltP xs) p vs.length->(arrOf st').map (λp:Keyed=>p.2)=List.toArray (p.toList.map λi=>vs.getD i Value.none)->failedOf st'=none->wpAny (model prog w) A (k ((),st')) P E s):
 wpAny (model prog w) A (let f:=λκ=>(if vs.toArray.size<2 then pure () else sortRuns').run (SortSt.mk' κ (ks.toArray.zip vs.toArray) #[] 7 none) >>= k;if vs.toArray.size<2 then pure general' >>= f else keyKind' ks.toArray >>= f) P E s:=by
 dsimp only;have kl:=T.len;by_cases h2:vs.toArray.size<2
 .rw[if_pos h2,if_pos h2];rw[y_] at h2;refine o_ <| v_ ?_;rw[StateT.run_pure];refine o_ <| v_ (h (List.toArray (List.range vs.length)) _ (.refl _) (λi j hij hj=>by omega) ?_ rfl);show (ks.toArray.zip vs.toArray).map (λp:Keyed=>p.2)=List.toArray ((List.range vs.length).map _);rw[u6];apply Array.toList_inj.mp;rw[Array.toList_map,ksk_zip];exact List.map_snd_zip (by simp [hkl])
 .rw[if_neg h2,if_neg h2];rw[y_] at h2;refine o_ <| wV T (by omega) ?_;have an:=xV (prog:=prog) (w:=w) (A:=A) T;have O:=Ia nd;rw[<- kl,hkl] at an O;have run:=kat_run (prog:=prog) (w:=w) (A:=A) (E:=E) (κ:=tuples' true) (s:=s) (Q:=λst' s'=>s'=s/\wpAny (model prog w) A (k ((),st')) P E s) (G:=λp s'=>s'=s/\p.toList.Perm (List.range vs.length)/\UpTo (ltP xs) p vs.length) hkl (by omega) h64
   (λp st' s' a1 a2 a3 a4=>⟨a4.1,h p st' a4.2.1 a4.2.2 (kat_snds hkl a2) a3⟩) (Ej O an (by omega) λp p1 p2=>⟨rfl,p1,p2⟩)
  refine o_ <| MU run ?_ λ_ _ z=>z;rintro⟨⟨⟩,st'⟩ _ ⟨rfl,z⟩;exact z
end
set_option maxHeartbeats 4000000
section
variable{prog:Program}{w:World}{A:Around}{E:Pt}{s:Shared}
def B0{a kS:Addr}{st:SortSt}{out ks:List Value}{e e1:Nat}{P:PySem.Fin->Shared->Prop}(hk:s.heap.get? kS=some (seqObj "list" (List.toArray ks) e))(ha:s.heap.get? a=some (seqObj "list" #[] e1))(hne:kS≠a)(hout:(arrOf st).map (λp:Keyed=>p.2)=List.toArray out)(hf:failedOf st=none)(hz:out.length<64)(hkz:ks.length<64)
 (h:∀h' c,(∀b o,b≠kS->b≠a->s.heap.get? b=some o->h'.get? b=some o)->h'.get? a=some (seqObj "list" out.toArray c)->P (.done (.ret .none)) { s with heap:=h' }):wpAny (model prog w) A (ksk_tail a false e1 (.ref kS) st) P E s:=by
 have u1:=NR s.heap kS (Obj.mapSeq λ_=>(#[]:Array Value));have a1:=(u1.2 a hne.symm).trans ha;have u2:=NR (s.heap.update kS (Obj.mapSeq λ_=>(#[]:Array Value))) a (Obj.mapSeq λ_=>(arrOf st).map (·.2));obtain⟨c,hc⟩:∃c,((s.heap.update kS (Obj.mapSeq λ_=>(#[]:Array Value))).update a (Obj.mapSeq λ_=>(arrOf st).map (·.2))).get? a=some (seqObj "list" ((arrOf st).map (·.2)) c):=⟨_,get?_update_seq a1 λ_=>(arrOf st).map (·.2)⟩;have zs:((arrOf st).map (·.2)).size<64:=by rw[hout];exact hz
 have big:sizeLine=16777216:=rfl;unfold ksk_tail;try dsimp only
 refine o_ <| Pm hk rfl ?_ (by rw[y_];omega) (Nc _);refine o_ <| wpAny_letGo ?_;refine o_ <| seqEpoch_at a1 rfl ?_;refine o_ <| Pm a1 rfl ?_ (Nc _) (by show ((arrOf st).map (·.2)).size<=_;omega);rw[hf];simp only[bne_self_eq_false,NX,OO];exact v_ (h _ c (λb o n1 n2 z=>(u2.2 b n2).trans ((u1.2 b n1).trans z)) (hc.trans (by rw[hout])))
def Fy{a kS:Addr}{vs ks:List Value}{xs:List (Int×Int)}{e e1:Nat}{P:PySem.Fin->Shared->Prop}(hl:xs.length=vs.length)(h64:vs.length<64)(T:TupsAt s.heap ks xs)(nd:xs.Nodup)(hk:s.heap.get? kS=some (seqObj "list" (List.toArray ks) e))(ha:s.heap.get? a=some (seqObj "list" #[] e1))(hne:kS≠a)
 (h:∀(p:Array Nat) h' c,p.toList.Perm (List.range vs.length)->UpTo (ltP xs) p vs.length->(∀b o,b≠kS->b≠a->s.heap.get? b=some o->h'.get? b=some o)->h'.get? a=some (seqObj "list" (p.toList.map λi=>vs.getD i Value.none).toArray c)->P (.done (.ret .none)) { s with heap:=h' }):
 wpAny (model prog w) A (ksk_end a false vs.toArray e1 (.ref kS) ks.toArray) P E s:=by
 have hkl:ks.length=vs.length:=by rw[T.len,hl]
 unfold ksk_end;try dsimp only
 refine AO hkl h64 T nd λp st' p1 p2 out hf=>?_;exact B0 hk ha hne out hf (by rw[p_,p1.length_eq,x_];exact h64) (by omega) λh' c k z=>h p h' c p1 p2 k z
def BK{a:Addr}{f:Value}{vs:List Value}{n:Nat}{xs:List (Int×Int)}{P:PySem.Fin->Shared->Prop}(ho:s.heap.get? a=some (seqObj "list" vs.toArray n))(h64:vs.length<64)(hx:xs.length=vs.length)(nd:xs.Nodup)
 (hc:∀(i:Nat) (v:Value) (x:Int×Int) (h':Heap) (tk:Nat),vs[i]?=some v->xs[i]?=some x->(∀b o,b≠a->s.heap.get? b=some o->h'.get? b=some o)->wpAny (model prog w) A (call f [v]) (λk s2=>∃h2 tk2,s2={ s with heap:=h2,toks:=tk2 }/\(∀b o,h'.get? b=some o->h2.get? b=some o)/\TupAt h2 k x) (λ_ _=>False) { s with heap:=h',toks:=tk })
 (h:∀(p:Array Nat) h' c tk,p.toList.Perm (List.range vs.length)->UpTo (ltP xs) p vs.length->(∀b o,b≠a->s.heap.get? b=some o->h'.get? b=some o)->h'.get? a=some (seqObj "list" (p.toList.map λi=>vs.getD i Value.none).toArray c)->P (.done (.ret .none)) { s with heap:=h',toks:=tk }):
 wpAny (model prog w) A (ksk_tree a f false) P E s:=by
 have lt:=A_ ho;have u1:=NR s.heap a (Obj.mapSeq λ_=>(#[]:Array Value));obtain⟨e1,a1⟩:∃e1,(s.heap.update a (Obj.mapSeq λ_=>(#[]:Array Value))).get? a=some (seqObj "list" #[] e1):=⟨_,get?_update_seq ho λ_=>#[]⟩;have big:sizeLine=16777216:=rfl;unfold ksk_tree;refine o_ <| listItems_at ho rfl ?_;refine o_ <| Pm ho rfl ?_ (by rw[y_];omega) (Nc _);refine o_ <| seqEpoch_at a1 rfl ?_;refine o_ <| wpAny_newTuple ?_ (by show vs.length<=_;omega);refine o_ <| wpAny_newList ?_ (Nc _);refine Nl ?_;obtain⟨h3,e3⟩:∃h3,h3=((s.heap.update a (Obj.mapSeq λ_=>(#[]:Array Value))).push (seqObj "tuple" vs.toArray 0)).push (seqObj "list" #[] 0):=⟨_,rfl⟩;obtain⟨kS,ek⟩:∃kS,kS=((s.heap.update a (Obj.mapSeq λ_=>(#[]:Array Value))).push (seqObj "tuple" vs.toArray 0)).objs.size:=⟨_,rfl⟩;have hk0:h3.get? kS=some (seqObj "list" #[] 0):=by rw[e3,ek];exact Em _ rfl
 have ha0:h3.get? a=some (seqObj "list" #[] e1):=by rw[e3];exact r_ _ (r_ _ a1)
 have hlt:a<kS:=by rw[ek,size_push',Heap.size_update];exact Nat.lt_succ_of_lt lt
 have k0:∀b o,b≠a->s.heap.get? b=some o->b≠kS/\h3.get? b=some o:=λb o n z=>⟨λy=>by
  have:=A_ z
  rw[y,ek,size_push',Heap.size_update] at this;exact Nk _ (Nat.lt_of_succ_lt this),by rw[e3];exact r_ _ (r_ _ ((u1.2 b n).trans z))⟩
 show wpAny (model prog w) A (ksk_rest a f false vs.toArray e1 (.ref ((s.heap.update a (Obj.mapSeq λ_=>(#[]:Array Value))).push (seqObj "tuple" vs.toArray 0)).objs.size)) P E { s with heap:=((s.heap.update a (Obj.mapSeq λ_=>(#[]:Array Value))).push (seqObj "tuple" vs.toArray 0)).push (seqObj "list" #[] 0) };rw[<- e3,<- ek];clear e3 ek;unfold ksk_rest;refine o_ <| OA ?_;rw[List.forIn_toArray];refine o_ <| ksk_fold (λi s'=>∃h' tk ks e,s'={ s with heap:=h',toks:=tk }/\(∀b o,b≠kS->h3.get? b=some o->h'.get? b=some o)/\h'.get? kS=some (seqObj "list" (List.toArray ks) e)/\TupsAt h' ks (xs.take i)/\i<=vs.length) vs 0 _ ⟨h3,s.toks,[],0,rfl,λb o _ z=>z,hk0,by rw[List.take_zero];trivial,Nc _⟩ (λj v s' hv I=>?_) λs' I=>?_
 .rw[Nat.zero_add] at I ⊢;obtain⟨h',tk,ks,e,rfl,k,hk,T,hi⟩:=I;have hj:j<vs.length:=(B_.mp hv).1;have ex:xs[j]?=some (xs[j]'(by omega)):=C_ (by omega);have tl:=T.len;rw[Nd] at tl;refine o_ <| OY <| MU (hc j v _ h' tk hv ex λb o n z=>k b o (k0 b o n z).1 (k0 b o n z).2) (λkv s2 hq=>?_) λ_ _ z=>z.elim;obtain⟨h2,tk2,rfl,k2,tp⟩:=hq;have hk2:=k2 kS _ hk;have u2:=NR h2 kS (Obj.mapSeq (·.push kv));obtain⟨c2,hc2⟩:∃c2,(h2.update kS (Obj.mapSeq (·.push kv))).get? kS=some (seqObj "list" (List.toArray (ks++[kv])) c2):=⟨_,by rw[<- List.push_toArray];exact get?_update_seq hk2 (·.push kv)⟩;try dsimp only
  refine o_ <| Pm hk2 rfl ?_ (by rw[y_];omega) (by rw[Array.size_push,y_];omega);refine v_ ⟨rfl,_,tk2,ks++[kv],c2,rfl,λb o n z=>(u2.2 b n).trans (k2 b o (k b o n z)),hc2,?_,by omega⟩;have kp:∀v x,TupAt h2 v x->TupAt (h2.update kS (Obj.mapSeq (·.push kv))) v x:=λv x t=>t.keep (b:=kS) ⟨_,hk2,rfl⟩ λc o n z=>(u2.2 c n).trans z;rw[List.take_succ,ex];exact TupsAt.snoc (kp _ _ tp) ((T.imp λv x t=>t.mono k2).imp kp)
 .rw[Nat.zero_add] at I;obtain⟨h',tk,ks,e,rfl,k,hk,T,hi⟩:=I;rw[Nn (by omega)] at T;try dsimp only
  refine o_ <| listItems_at hk rfl ?_;exact Fy hx h64 T nd hk (k a _ (ML hlt) ha0) (Ov hlt) λp h2 c p1 p2 k2 z=>h p h2 c tk p1 p2 (λb o n y=>k2 b o (k0 b o n y).1 n (k b o (k0 b o n y).1 (k0 b o n y).2)) z
def FO{S r:Addr}{j:Int}{t u v:Tok}{n:Nat}{R:Result->Shared->Prop}(hh:A.handled=none)(hr:IsRange s.heap r 0 j 1 t u v)(g_:Builtin.Range.small 0 j 1=true)(hn:Builtin.Range.rangeSize 0 j 1=n)(a_:n<=2^24)(hS:s.heap.get? S=some (seqObj "list" #[] 0))
 (h:∀h' tk acc c,(∀b o,b≠S->s.heap.get? b=some o->h'.get? b=some o)->h'.get? S=some (seqObj "list" acc c)->ItemsOf (λi v=>∃t,v=.int (0+i*1) t) acc n->R (.ok (.ret (.ref S))) { s with heap:=h',toks:=tk }):codeAny (model prog w) A (.builtin "list.__iadd__" ⟨[.ref S,.ref r],[]⟩) R s:=by
 refine Pb entry_list_iadd' ?_;show wpAny (model prog w) A.in1 (Builtin.List.listExtendWith (.ref S) (.ref r) (.ref S)) _ _ s;exact wpAny_extend_range hh hr g_ hn a_ S _ 0 hS h
def m5{r:Addr}{j:Int}{t u v:Tok}{n:Nat}{Q:List Value->Shared->Prop}(hh:A.handled=none)(hr:IsRange s.heap r 0 j 1 t u v)(g_:Builtin.Range.small 0 j 1=true)(hn:Builtin.Range.rangeSize 0 j 1=n)(a_:n<=2^24)
 (h:∀h' tk (vs:List Value),s.heap.objs.size<=h'.objs.size->(∀b o,s.heap.get? b=some o->h'.get? b=some o)->vs.length=n->(∀(i:Nat) x,vs[i]?=some x->∃t,x=.int (i:Nat) t)->Q vs { s with heap:=h',toks:=tk }):wpAny (model prog w) A (collect (.ref r)) Q E s:=by
 unfold collect;refine o_ <| wpAny_runValue <| Pb entry_proto_collect' ?_;show wpAny _ _ (do again (.builtin "list.__iadd__" ⟨[<- newList [],.ref r],[]⟩)) _ _ s;have hS:(s.heap.push (seqObj "list" #[] 0)).get? s.heap.objs.size=some (seqObj "list" #[] 0):=Em _ rfl;refine o_ <| wpAny_newList <| v_ ⟨Code.quiet_builtin _ (by decide),FO (s:={ s with heap:=s.heap.push (seqObj "list" #[] 0) }) hh (r_ _ hr) g_ hn a_ hS λh' tk acc c k z it=>?_⟩;show wpAny (model prog w) A (do
  let o <- load s.heap.objs.size
  match o.data with
  |.seq xs _=>pure xs.toList
  |_=>unsupported "internal:collect") Q E { s with heap:=h',toks:=tk }
 refine o_ <| wpAny_load z ?_;refine v_ (h h' tk acc.toList (Ou (A_ z)) (λb o y=>k b o (ML (A_ y)) (r_ _ y)) (by rw[M_];exact it.1) λi x y=>?_);obtain⟨t,e⟩:=it.2 i x (by simpa using y);exact⟨t,by rw[e];congr 1;omega⟩
end
abbrev fj(p:Pos):Arguments:=⟨[],[⟨"number",none,p⟩],none,[],[],none,[]⟩
abbrev bq:Scope:={ kind:=.function,names:=[("number",.local),("weights",.free)],isGenerator:=false,isCoroutine:=false,more:=[] }
abbrev eE(p1 p2 p3 p4 p5 p6:Pos):Expr:=.Tuple [.UnaryOp .USub (.Subscript (.Name "weights" p1) (.Name "number" p2) p3) p4,.Name "number" p5] 0 p6
section
variable{prog:Program}{w:World}{A:Around}{s:Shared}
def Ez{f c' cell a:Addr}{q:Str}{pm ctv:Value}{its:Array Value}{ws:List Int}{p0 p1 p2 p3 p4 p5 p6:Pos}{i:Nat}{t:Tok}
 (hroom:A.depth<recursionLimit) (ho:s.heap.get? f=some (kla_obj "<lambda>" q (fj p0) (eE p1 p2 p3 p4 p5 p6) bq [("weights",cell)] pm c' ctv)) (k_:s.heap.CodeRec (.ref c') q) (hlim:s.heap.NoLimit) (m_:s.heap.IsCell cell (some (.ref a))) (hl:s.heap.IsList a its) (hw:Vals (ws.map V.int) its.toList) (hi:i<ws.length) (hz:ws.length<64):
 wpAny (model prog w) A (call (.ref f) [.int (i:Nat) t]) (λk s2=>∃h2 tk2,s2={ s with heap:=h2,toks:=tk2 }/\(∀b o,s.heap.get? b=some o->h2.get? b=some o)/\TupAt h2 k (-(ws.getD i 0),(i:Nat))) (λ_ _=>False) s:=by
 refine wpAny_call ?_;refine kla_callFunE hroom ho rfl rfl rfl rfl k_ ?_;rw[show bindArgs (kla_fn "<lambda>" q (fj p0) (eE p1 p2 p3 p4 p5 p6) bq [("weights",cell)] pm (.ref c') ctv) ⟨[Value.int (i:Nat) t],[]⟩=(pure [(("number" : Str),Value.int (i:Nat) t)]:Sem (List (Str×Value))) from by with_unfolding_all rfl];refine v_ (wpAny_newFunctionEnv (show ∀x∈bq.names,x.2 ≠ .cell by decide) (by intro y hy;rw[Nt] at hy;subst hy;rfl) (λh1 hns hsb=>⟨hlim.fresh _ hsb,?_⟩) rfl);show codeAny _ _ (.expr (eE p1 p2 p3 p4 p5 p6) (envX q bq s.heap.objs.size f (.ref c') [("weights",cell)])) _ _;have k1:∀b o,s.heap.get? b=some o->h1.get? b=some o:=λb o e=>hsb.extBut b o (ML (A_ e)) (r_ _ e);have hc1:h1.IsCell cell (some (.ref a)):=by obtain⟨o,e,d⟩:=m_;exact⟨o,k1 _ _ e,d⟩
 have hl1:h1.IsList a its:=by obtain⟨o,e,d⟩:=hl;exact⟨o,k1 _ _ e,d⟩
 refine kla_codeExpr ?_;refine wpAny_Tuple_spliced ?_;obtain⟨u,eu,ru⟩:=hw.get (i:=i) (x:=V.int (ws.getD i 0)) (by rw[MQ,C_ hi,MM,C_ hi];rfl);obtain⟨tx,rfl⟩:=ru;have ei:its[((i:Nat):Int).toNat]?=some (.int (ws.getD i 0) tx):=by rw[Nb,<- Array.getElem?_toList];exact eu
 have nm:∀(pp:Pos) (s':Shared) (Q:Pt) (E':Pt),s'.heap=h1->Q (.int (i:Nat) t) s'->wpAny (model prog w) (A.deeper (envX q bq s.heap.objs.size f (.ref c') [("weights",cell)])) (eval (.Name "number" pp) (envX q bq s.heap.objs.size f (.ref c') [("weights",cell)])) Q E' s':=λpp s' Q E' e hq=>
  wpAny_Name (Pe rfl rfl (by rw[e];exact hns) rfl hq) (by decide)
 show wpAny _ _ (spliced ((false,eval (.UnaryOp .USub (.Subscript (.Name "weights" p1) (.Name "number" p2) p3) p4) (envX q bq s.heap.objs.size f (.ref c') [("weights",cell)]))::backTo p6 (starEach [.Name "number" p5] (envX q bq s.heap.objs.size f (.ref c') [("weights",cell)])))) _ _ _;refine NY ?_;refine UnaryOp_ ?_;refine Subscript_ ?_;refine wpAny_Name (wpAny_loadName_free rfl rfl rfl hc1 ?_) (by decide);refine nm p2 _ _ _ rfl ?_;refine item_listR hl1 (by omega) (by omega) ei ?_;refine neg_int ?_;show wpAny _ _ (spliced ((false,eval (.Name "number" p5) (envX q bq s.heap.objs.size f (.ref c') [("weights",cell)]))::[])) _ _ _;refine NY ?_;refine nm p5 _ _ _ rfl ?_;refine Oq ?_;refine⟨show 2<=sizeLine by decide,_,_,rfl,λb o e=>r_ _ (k1 b o e),h1.objs.size,0,none,#[],_,t,rfl,Em _ rfl⟩
end
section
variable{prog:Program}{w:World}{A:Around}{E:Pt}{s:Shared}
def wY{r f:Addr}{j:Int}{t u v:Tok}{n:Nat}{xs:List (Int×Int)}{Q:Pt}(hh:A.handled=none)(hr:IsRange s.heap r 0 j 1 t u v)(g_:Builtin.Range.small 0 j 1=true)(hn:Builtin.Range.rangeSize 0 j 1=n)(h64:n<64)(hx:xs.length=n)(nd:xs.Nodup)
 (hc:∀(i:Nat) (x:Int×Int) (tt:Tok) (h':Heap) (tk:Nat),xs[i]?=some x->(∀b o,s.heap.get? b=some o->h'.get? b=some o)->wpAny (model prog w) A.in1.in1 (call (.ref f) [.int (i:Nat) tt]) (λk s2=>∃h2 tk2,s2={ s with heap:=h2,toks:=tk2 }/\(∀b o,h'.get? b=some o->h2.get? b=some o)/\TupAt h2 k x) (λ_ _=>False) { s with heap:=h',toks:=tk })
 (h:∀(p:Array Nat) (h':Heap) (D:Addr) (c tk:Nat) (out:List Value),p.toList.Perm (List.range n)->UpTo (ltP xs) p n->s.heap.objs.size<=D->(∀b o,s.heap.get? b=some o->h'.get? b=some o)->h'.get? D=some (seqObj "list" out.toArray c)->Vals (p.toList.map λi:Nat=>V.int (i:Nat)) out->Q (.ref D) { s with heap:=h',toks:=tk }):
 wpAny (model prog w) A (call (.builtin "sorted") [.ref r] [(Str.ofString "key",.ref f)]) Q E s:=by
 refine call_function_entry_kw kind_sorted plain_sorted entry_sorted (ksk_s1 _ _) ?_;unfold Builtin.«sorted»;refine o_ (m:=checkCount "sorted" 1 1 _) <| v_ ?_;refine o_ <| m5 (A:=A.in1) hh hr g_ hn (by omega) λh1 tk1 vs sz k1 lv iv=>?_;have big:sizeLine=16777216:=rfl;refine o_ <| wpAny_newList ?_ (by omega);have hoL:(h1.push (seqObj "list" vs.toArray 0)).get? h1.objs.size=some (seqObj "list" vs.toArray 0):=Em _ rfl;have kL:∀b o,s.heap.get? b=some o->b≠h1.objs.size/\(h1.push (seqObj "list" vs.toArray 0)).get? b=some o:=λb o e=>⟨ML (A_ (k1 b o e)),r_ _ (k1 b o e)⟩;refine o_ <| Nl <| wpAny_call_entry_kw slot_list_sort ⟨_,hoL,rfl⟩ entry_list_sort ?body (ksk_l1 _ _)
 case body=>
  show wpAny (model prog w) A.in1.in1 (Builtin.«list.sort» ⟨[.ref h1.objs.size],[(Str.ofString "key",.ref f)]⟩) _ _ { s with heap:=h1.push (seqObj "list" vs.toArray 0),toks:=tk1 };rw[ksk_t1];refine BK (s:={ s with heap:=h1.push (seqObj "list" vs.toArray 0),toks:=tk1 }) (xs:=xs) hoL (by omega) (by omega) nd (λi v x h' tk e1 e2 k=>?_) λp h' c tk p1 p2 k z=>?_
  .obtain⟨tt,rfl⟩:=iv i v e1;exact hc i x tt h' tk e2 λb o e=>k b o (kL b o e).1 (kL b o e).2
  .rw[lv] at p1 p2;refine⟨_,rfl,v_ ⟨_,rfl,h p h' h1.objs.size c tk _ p1 p2 sz (λb o e=>k b o (kL b o e).1 (kL b o e).2) z ?_⟩⟩;have all:∀i∈p.toList,i<n:=λi hi=>MJ.mp (p1.mem_iff.mp hi);clear z p1 p2;generalize p.toList=l at all;induction l with
   |nil=>exact .nil
   |cons i l ih=>refine .cons ?_ (ih λk hk=>all k (q_ _ hk));have hi:=all i (s_ ..);obtain⟨tt,e⟩:=iv i (vs.getD i Value.none) (by rw[MM,C_ (by omega)];rfl);exact⟨tt,e⟩
end
section
variable{X:Cx}{pins:Pq}{σ:St}{H:Hp}{s:Shared}{h':Heap}
def Inv.tabled{P c':Addr}{q:Str}{ps more:Array Value}{t':Nat}(I:Inv X pins σ H s)(hP:H P=some (.tbl ps))(hx:Heap.ExtBut P s.heap h')(hc:s.heap.objs.size<=c')(hrec:h'.CodeRec (.ref c') q)(htab:h'.get? P=some (tabObj (ps++more))):
 Inv X pins σ (upd (upd H P (.tbl (ps++more))) c' (.ext (fQ c' q))) { s with heap:=h',toks:=t' }:=by
 have hcn:H c'=none:=I.hok.fresh hc;have nPc:P≠c':=bR hP hcn;have at_:∀b,b≠P->b≠c'->upd (upd H P (.tbl (ps++more))) c' (.ext (fQ c' q)) b=H b:=λb n1 n2=>by rw[aE n2,aE n1]
 have atP:upd (upd H P (.tbl (ps++more))) c' (.ext (fQ c' q)) P=some (.tbl (ps++more)):=by rw[aE nPc,bo]
 have nP:∀b,H b=none->b≠P:=λb n z=>by rw[z,hP] at n;cases n
 have ol:∀b o,s.heap.get? b=some o->b≠c':=λb o e=>ML (I_ (A_ e) hc);have tr:∀b u,H b=some u->b≠c':=λb u e=>bR e hcn;refine I.un ⟨λb o e n _ _=>hx b o (nP b n) e,λb o e n _ _=>⟨o.slots,hx b o (nP b n) e⟩,λb o e n _=>by rw[at_ b (nP b n) (ol b o e)];exact n,λb o e _=>?_,λb ys e=>?_,λb o u e=>?_,λb qs e=>?_⟩ λb u e=>?_
 .by_cases z:b=P
  .exact⟨_,by rw[z];exact htab⟩
  .exact⟨o,hx b o z e⟩
 .rw[at_ b (λz=>by rw[z,hP] at e;cases e) (tr b _ e)];exact e
 .rw[at_ b (λz=>by rw[z,hP] at e;cases e) (tr b _ e)];exact e
 .by_cases z:b=P
  .subst z;rw[hP] at e;cases e;exact⟨more,atP⟩
  .exact⟨#[],by rw[at_ b z (tr b _ e),e];simp⟩
 .by_cases z:b=c'
  .subst z;rw[bo] at e;cases e;obtain⟨c,o,vs,t,e1,e2,e3⟩:=hrec;cases e1;refine⟨⟨_,o,vs,t,rfl,e2,e3⟩,⟨o,e2⟩,λh1 h2 q1 k=>?_⟩;obtain⟨c,o,vs,t,e1,e2,e3⟩:=q1;cases e1;exact⟨_,o,vs,t,rfl,k o e2,e3⟩
  .by_cases y:b=P
   .subst y;rw[atP] at e;cases e;exact htab
   .rw[at_ b y z] at e;refine (I.hok b u e).stay (λc v hc' r=>hx c v ?_ r) (λc r=>?_) λc ys r=>?_
    .rcases hc' with rfl |r
     .exact y
     .intro z';rw[z',hP] at r;cases r
    .rw[at_ c (λz'=>by rw[z',hP] at r;cases r) (tr c _ r)];exact r
    .rw[at_ c (λz'=>by rw[z',hP] at r;cases r) (tr c _ r)];exact r
end
noncomputable def kyF (ws:List Int) (i:Nat):Int×Int:=(-(ws.getD i 0),(i:Int))
noncomputable def jW (ws:List Int):List (Int×Int):=(List.range ws.length).map (kyF ws)
noncomputable def aQ (ws:List Int):List Nat:=(List.range ws.length).mergeSort λi j=>!bB (kyF ws j) (kyF ws i)
structure FallO(ws:List Int)(l:List Nat):Prop where
 perm:l.Perm (List.range ws.length)
 up:l.Pairwise λi j=>bB (kyF ws i) (kyF ws j)=true
def vB{ws:List Int}{i j:Nat}(h:kyF ws i=kyF ws j):i=j:=by
 have:=MK Prod.snd h
 have:((i:Nat):Int)=(j:Nat):=this;omega
def Et(ws:List Int):(jW ws).Nodup:=by unfold jW;refine List.pairwise_map.mpr (List.Pairwise.imp (λ{a b} h z=>h (vB z)) O0)
def de(ws:List Int):FallO ws (aQ ws):=⟨Ph ..,Mm (kyF ws) vB O0⟩
def FallO.eq{ws:List Int}{l:List Nat}(h:FallO ws l):l=aQ ws:=Ey h.up (de ws).up (h.perm.trans (de ws).perm.symm)
def Fo{ws:List Int}{p:Array Nat}(h1:p.toList.Perm (List.range ws.length))(h2:UpTo (ltP (jW ws)) p ws.length):p.toList=aQ ws:=by
 refine FallO.eq ⟨h1,List.Pairwise.imp_of_mem (λ{i j} hi hj h=>?_) (EI h1 h2)⟩;have g:∀k∈p.toList,(jW ws).getD k (0,0)=kyF ws k:=λk hk=>by unfold jW;rw[MM,MQ,List.getElem?_range (MJ.mp (h1.mem_iff.mp hk))];rfl
 rw[g i hi,g j hj] at h;exact h
section
variable{X:Cx}{iW:Nat}{ta:TA}{c P:Addr}{a:Expr}{q1 q2 q6 q7 q8 q9 p0 p1 p2 p3 p4 p5 p6:Pos}
def wL(H H2:Hp)(P:Addr)(q:Str)(ps:Array Value)(pos:Pos):Prop:=H2=H\/∃c',H c'=none/\codeAmong pos ps.toList=none/\H2=upd (upd H P (.tbl (ps++#[rawInt pos.line,rawInt pos.col,.ref c']))) c' (.ext (fQ c' q))
def v5(K:W.Frag)(mg:Pp)(P:Addr)(q:Str)(pos:Pos)(vW:Option (Option V)):List V->Hp->VK->Prop:=λvs H Q=>∃(b:Addr) (ws:List Int) (ps:Array Value),vs=[.int (ws.length:Nat)]/\vW=some (some (.ref b))/\SqL K H b (ws.map V.int)/\ws.length<64/\H P=some (.tbl ps)/\TriplesOk ps.toList/\(∀ps' cv,codeAmong ps' ps.toList=some cv->∃c,cv=.ref c/\H c=some (.ext (fQ c q)))/\sJ K mg H/\
 ∀H2 l,wL H H2 P q ps pos->H2 l=none->Q (.ref l) (upd H2 l (.lst ((aQ ws).map λi:Nat=>V.int (i:Nat))))
def Kj(K:W.Frag)(mg:Pp)(iW:Nat)(P:Addr)(q:Str)(pos:Pos)(ta:TA):TE:=λσ H Q=>ta σ H λvs H1=>v5 K mg P q pos σ[iW]? vs H1 Q
def Eb(hc:X.calm=true)(hdp:X.A.depth<recursionLimit)(hl:Gl X "sorted")(hml:X.mg "sorted"=none)(hg:Gl X "range")(hm:X.mg "range"=none)(ha:PA X [a] ta)(hN:X.N[iW]?=some "weights")(hv:X.env.scope.names.lookup ("weights" : Str)=some .cell)(k_:X.env.code=.ref c)(hh:codeHdIn X.K c P=true)(hs:starEach [a] X.env=[(false,eval a X.env)]:=by rfl):
 PE X (.Call (.Name "sorted" q1) [.Call (.Name "range" q2) [a] [] q6] [⟨some "key",.Lambda (fj p0) (eE p1 p2 p3 p4 p5 p6) bq q7,q8⟩] q9) (Kj X.K X.mg iW P (X.env.qual ++ "<lambda>") q7 ta):=by
 intro pins s σ H Q I h;refine M6 (cN I hl hml (show bootBuiltins "sorted"=some (.builtin "sorted") from rfl) ?_ (by decide) (by decide));refine callWith_kw ?_ rfl rfl rfl rfl;show wpAny _ _ (spliced ((false,eval (.Call (.Name "range" q2) [a] [] q6) X.env)::[])) _ _ s;refine NY ?_;refine M6 (cN I hg hm (show bootBuiltins "range"=some (.type "range") from rfl) ?_ (by decide) (by decide));refine MZ (thn (ha q6 pins s σ H _ I h) λus s1 zz=>exA zz λvs H1 I1 r1 z1=>?_) hs rfl;obtain⟨b,ws,ps,e,ew,hq,hn,hP,htr,hcs,hB,q⟩:=z1;subst e;cases r1 with
 |
  cons r rr=>
  cases rr;obtain⟨t,rfl⟩:=r;refine call_range_1 (Oq ?_);have I2:Inv X pins σ H1 { s1 with heap:=s1.heap.push { cls:=.type "range",data:=.fields #[.int 0 s1.toks,.int (ws.length:Nat) t,.int 1 (s1.toks+1)] },toks:=s1.toks+1+1 }:=I1.kept λb o e=>r_ _ e;have hr2:IsRange (s1.heap.push { cls:=.type "range",data:=.fields #[.int 0 s1.toks,.int (ws.length:Nat) t,.int 1 (s1.toks+1)] }) s1.heap.objs.size 0 (ws.length:Nat) 1 s1.toks t (s1.toks+1):=IsRange.new ..;generalize s1.heap.push { cls:=.type "range",data:=.fields #[.int 0 s1.toks,.int (ws.length:Nat) t,.int 1 (s1.toks+1)] }=h2 at I2 hr2 ⊢;generalize s1.heap.objs.size=r at hr2 ⊢;have hk:X.env.kindOf "weights"=some .cell:=hv;obtain⟨m,hns,hloc⟩:=I2.loc;obtain⟨u,ru,lk⟩:=hloc iW "weights" (.ref b) hN ew (.inr (.inl hv));obtain rfl:u=.ref b:=ru;obtain⟨cell,ec,m_⟩:∃cell,X.env.cells.lookup ("weights" : Str)=some cell/\h2.IsCell cell (some (.ref b)):=by
   rcases lk with ⟨z,_⟩ |⟨_,cl,z1,z2⟩
   .rw[hk] at z;cases z
   .exact⟨cl,z1,z2⟩
  have clo:closureFor bq X.env=(pure [(("weights" : Str),cell)]:Sem (List (Str×Addr))):=by simp [closureFor,cellOf,ec]
  obtain⟨its,rv,pl,hz⟩:=I2.list hq;have d_:∀(H2:Hp) (s3:Shared) (f c':Addr) (pm ctv:Value),wL H1 H2 P (X.env.qual ++ "<lambda>") ps q7->Inv X pins σ H2 s3->(∀b o,b≠P->h2.get? b=some o->s3.heap.get? b=some o)->s3.heap.get? f=some (kla_obj "<lambda>" (X.env.qual ++ "<lambda>") (fj p0) (eE p1 p2 p3 p4 p5 p6) bq [("weights",cell)] pm c' ctv)->s3.heap.CodeRec (.ref c') (X.env.qual ++ "<lambda>")->
   wpAny (model X.prog X.w) X.A (call (.builtin "sorted") [.ref r] [(Str.ofString "key",.ref f)]) (EP X pins σ Q) X.xe s3:=by
   intro H2 s3 f c' pm ctv G3 I3 k3 hf hrec;have nP:∀{b:Addr}{o:Obj},h2.get? b=some o->o.cls ≠ .none->b≠P:=λ{b o} e n z=>by have:h2.get? P=some { cls:=.none,data:=.fields ps }:=I2.hok P _ hP;rw[z,this] at e;cases e;exact n rfl
   have hr3:IsRange s3.heap r 0 (ws.length:Nat) 1 s1.toks t (s1.toks+1):=k3 _ _ (nP hr2 (λz=>nomatch z)) hr2;refine wY (n:=ws.length) (xs:=jW ws) (I.ok.hd hc) hr3 (small_one (by omega) (by omega) (by omega) (by omega)) (by rw[Pn];split <;> omega) hn (by unfold jW;rw[p_,x_]) (Et ws) (λi x tt h' tk ex k=>?_) λp h' D c tk out pp up sz k z vz=>?_
   .have hi:i<ws.length:=by
     have:=(B_.mp ex).1
     unfold jW at this;rw[p_,x_] at this;exact this
    obtain rfl:x=(-(ws.getD i 0),((i:Nat):Int)):=by unfold jW at ex;rw[MQ,List.getElem?_range hi] at ex;cases ex;rfl
    have hcell':h'.IsCell cell (some (.ref b)):=by obtain⟨o,e1,e2⟩:=m_;refine⟨o,k _ _ (k3 _ _ (λz=>?_) e1),e2⟩;have:h2.get? P=some { cls:=.none,data:=.fields ps }:=I2.hok P _ hP;rw[z,this] at e1;cases e1;cases e2
    have hl':h'.IsList b its.toArray:=by obtain⟨o,e1,e2⟩:=pl.isList;exact⟨o,k _ _ (k3 _ _ (nP e1 (by rw[e2.1];intro z;cases z)) e1),e2⟩
    exact Ez (s:={ s3 with heap:=h',toks:=tk }) hdp (k _ _ hf) (by obtain⟨c2,o,vs,tq,e1,e2,e3⟩:=hrec;exact⟨c2,o,vs,tq,e1,k _ _ e2,e3⟩) (I3.nolimit.keeps k) hcell' hl' (by simpa using rv) hi hn
   .rw[Fo pp up] at vz;have big:sizeLine=16777216:=rfl;have ln:((aQ ws).map λi:Nat=>V.int (i:Nat)).length<=sizeLine:=by rw[p_,(de ws).perm.length_eq,x_];omega
    exact⟨.ref D,_,I3.laid (t':=tk) k sz (show ObjOk X.prog X.w _ h' _ (.lst _) from ⟨ln,out,c,vz,z⟩),rfl,q H2 D G3 (I3.hok.fresh sz)⟩
  have tabP:h2.get? P=some { cls:=.none,data:=.fields ps }:=I2.hok P _ hP;have glb:h2.Ns mainGlobals X.mg:=I2.mod.glob.keeps I2.bk;have gP:mainGlobals≠P:=λz=>by obtain⟨o,es,ep,e,d,_⟩:=glb;rw[z,tabP] at e;cases e;cases d
  have bAt:h2.BuiltinsAt X.mg P:=by
   obtain⟨bm,o,y1,y2,y3,⟨y4,y5,y6⟩,y7⟩:=hB;have y8:h2.get? bm=some o:=by
    rcases y7 with z |⟨u,z⟩
    .exact I2.kIn bm o z
    .exact (I2.hok bm _ z).1
   exact⟨bm,o,y1,y2,y3,(λz=>by rw[z,tabP] at y8;cases y8;cases y6),y8,y4,y5,y6⟩
  have CH:=codeHd_of_K I2.kIn hh;have lam:wpAny (model X.prog X.w) X.A (eval (.Lambda (fj p0) (eE p1 p2 p3 p4 p5 p6) bq q7) X.env) (λv s3=>∃f,v=.ref f/\wpAny (model X.prog X.w) X.A (call (.builtin "sorted") [.ref r] [(Str.ofString "key",.ref f)]) (EP X pins σ Q) X.xe s3) X.xe { s1 with heap:=h2,toks:=s1.toks+1+1 }:=by
   refine kla_eval rfl ?_;cases am:codeAmong q7 ps.toList with
   |
    none=>
    refine kla_makeFunction (mg:=X.mg) clo I.ok.glob glb k_ CH tabP htr am gP bAt λc' ctv h' tk hx hge hlt hrec htb=>?_;have hrec':(h'.push (kla_obj "<lambda>" (X.env.qual ++ "<lambda>") (fj p0) (eE p1 p2 p3 p4 p5 p6) bq [("weights",cell)] ((X.mg "__name__").getD .none) c' ctv)).CodeRec (.ref c') (X.env.qual ++ "<lambda>"):=by obtain⟨c2,o,vs,tq,e1,e2,e3⟩:=hrec;exact⟨c2,o,vs,tq,e1,r_ _ e2,e3⟩
    exact⟨_,rfl,d_ _ _ _ c' _ ctv (.inr ⟨c',I2.hok.fresh hge,am,rfl⟩) (I2.tabled (t':=tk) hP (λb o n e=>r_ _ (hx b o n e)) hge hrec' (r_ _ htb)) (λb o n e=>r_ _ (hx b o n e)) (Em _ rfl) hrec'⟩
   |some cv=>obtain⟨c',rfl,hc'⟩:=hcs q7 cv am;refine kla_makeFunctionHit (mg:=X.mg) clo I.ok.glob glb k_ CH tabP htr am bAt λctv h' tk k hsz=>?_;obtain⟨c2,o,vs,tq,e1,e2,e3⟩:h2.CodeRec (.ref c') (X.env.qual ++ "<lambda>"):=(I2.hok c' _ hc').1;exact⟨_,rfl,d_ _ _ _ c' _ ctv (.inl rfl) (I2.kept (t':=tk) λb o e=>r_ _ (k b o e)) (λb o n e=>r_ _ (k b o e)) (Em _ rfl) ⟨c2,o,vs,tq,e1,r_ _ (k _ _ e2),e3⟩⟩
  show wpAny _ _ (do
   let v <- (do let v <- eval (.Lambda (fj p0) (eE p1 p2 p3 p4 p5 p6) bq q7) X.env;standAt q9;pure v)
   return v::(<- holding [v] (evalAll []))) _ _ _
  refine o_ <| o_ <| MU lam (λv s3 hv3=>?_) λ_ _ z=>z;obtain⟨f,rfl,hv3⟩:=hv3;exact o_ (Oh (v_ (o_ (Nl (v_ (v_ hv3))))))
end
section
variable{K:W.Frag}{mg:Pp}{h:AH}
def LamT.one{P P':Addr}{q q':Str}(a:LamT K mg P q)(b:LamT K mg P' q'):q=q':=by
 obtain⟨x,f,oc,od,fd,sl,c,a1,a2,a3,a4,a5,a6,rfl⟩:=a;obtain⟨y,f',oc',od',fd',sl',c',b1,b2,b3,b4,b5,b6,rfl⟩:=b;have e:x=y:=by
  by_cases z:x=y
  .exact z
  .have:=a2 y b1 λw=>z w.symm
   rw[b3] at this;cases this
 subst e;rw[a3] at b3;cases b3;rw[a4] at b4;cases b4;rfl
def wc{pos:Pos}{a b:Int}{c cv:Value}(l:List Value)(h:TriplesOk l)(e:codeAmong pos (l++[rawInt a,rawInt b,c])=some cv):codeAmong pos l=some cv\/cv=c:=by
 fun_induction TriplesOk l with
 |
  case1=>
  simp only[M9,codeAmong,rawInt] at e;split at e
  .cases e;exact .inr rfl
  .cases e
 |
  case2 a' t b' u x gp ih=>
  simp only[OZ,codeAmong] at e ⊢;split at e
  .rename_i z;rw[if_pos z];exact .inl e
  .rename_i z;rw[if_neg z];exact ih h e
 |case3 l h1 h2=>exact h.elim
end
section
variable{X:Cx}{K:W.Frag}{mg:Pp}{a:Expr}{ta:TA}{q1 q8 q9 pc:Pos}{kc:Nat}
def yI(K:W.Frag):List V->Hp->VK->Prop:=λxs H Q=>∃b ns,xs=[.ref b]/\SqL K H b (ns.map V.int)/\ns.length<64/\∀l,H l=none->Q (.ref l) (upd H l (.lst ((srI ns).reverse.map V.int)))
def FC(hl:Gl X "sorted")(hml:X.mg "sorted"=none)(ha:PA X [a] ta)(hs:starEach [a] X.env=[(false,eval a X.env)]):
 PE X (.Call (.Name "sorted" q1) [a] [⟨some "reverse",.Constant (.bool true) kc pc,q8⟩] q9) (tCB (yI X.K) ta):=by
 intro pins s σ H Q I h;refine M6 (cN I hl hml (show bootBuiltins "sorted"=some (.builtin "sorted") from rfl) ?_ (by decide) (by decide));refine callWith_kw (thn (ha q9 pins s σ H _ I h) λus s1 zz=>exA zz λvs H1 I1 r1 z1=>?_) (by rw[hs];rfl) (by rw[hs];rfl) rfl rfl;obtain⟨b,ns,rfl,hq,hz,q⟩:=z1;obtain⟨u,rfl,ru⟩:=eS r1;cases ru;show wpAny _ _ (do
  let v <- (do let v <- eval (.Constant (.bool true) kc pc) X.env;standAt q9;pure v)
  return v::(<- holding [v] (evalAll []))) _ _ _
 refine o_ <| o_ <| Constant_bool ?_;refine o_ (Oh (v_ (o_ (Nl (v_ (v_ ?_))))));obtain⟨its,rv,pl,_⟩:=I1.list hq;have len:its.length=ns.length:=by rw[<- rv.length,p_]
 refine sorted_ints_rev pl.isList (lq rv) (by omega) λout ns' a1 a2 a3=>?_;obtain⟨m',he⟩:=sortedAll_at s1.heap its out;have en:ns'=(srI ns).reverse:=by have:ns'.reverse=srI ns:=HE ((List.reverse_perm _).trans a2) (List.pairwise_reverse.mpr a3);rw[<- this,List.reverse_reverse]
 subst en;have rv':=iH a1;have l2:(srI ns).length=ns.length:=(jP ns).length_eq;have fr:s1.heap.objs.size<=s1.heap.objs.size+1:=Nat.le_succ _;have big:sizeLine=16777216:=rfl;exact⟨.ref (s1.heap.objs.size+1),_,I1.laid (t':=s1.toks) (λb o z=>sortedAll_old z) fr (show ObjOk X.prog X.w _ _ _ (.lst ((srI ns).reverse.map V.int)) from ⟨by rw[p_,List.length_reverse];omega,_,m',rv',he⟩),rfl,q _ (I1.hok.fresh fr)⟩
end
section
variable{prog:Program}{w:World}{A:Around}{E:Pt}{s:Shared}
def Be{r:Addr}{j:Int}{t u v:Tok}{n:Nat}{Q:Pt}(hh:A.handled=none)(hr:IsRange s.heap r 0 j 1 t u v)(g_:Builtin.Range.small 0 j 1=true)(hn:Builtin.Range.rangeSize 0 j 1=n)(a_:n<=2^24)
 (h:∀(h':Heap) (tk:Nat) (vs:List Value),s.heap.objs.size<=h'.objs.size->(∀b o,s.heap.get? b=some o->h'.get? b=some o)->vs.length=n->(∀(i:Nat) x,vs[i]?=some x->∃t,x=.int (i:Nat) t)->Q (.ref h'.objs.size) { s with heap:=h'.push { cls:=.type "tuple",data:=.seq vs.toArray },toks:=tk }):
 codeAny (model prog w) A (.call (.builtin "tuple.__new__") ⟨[.type "tuple",.ref r],[]⟩) (wants Q E) s:=by
 refine codeAny_of_tree ?_;show wpAny _ A.in1 (do checkBuiltinCall "tuple.__new__" ⟨[.type "tuple",.ref r],[]⟩;again (.builtin "tuple.__new__" ⟨[.type "tuple",.ref r],[]⟩)) _ _ s;refine o_ <| wpAny_of_eq (F.newCall_tuple_1 _) <| v_ ⟨plainId_quiet F.plain_tuple_new _,Pb F.entry_tuple_new ?_⟩;rw[Around.under_plainId F.plain_tuple_new _];have hsub:=sub_tuple_self;have hinit:=init_tuple_lookup;have hmh:=madeHere_tuple;have hTI:s.TypeIs (.ref r) "range":=⟨_,hr,rfl⟩
 wp_walk using wpAny_typeOf hTI,m5 (A:=A.in1) hh hr g_ hn a_
 intro h' tk vs sz k lv iv;show wpAny _ _ (Builtin.Tuple.tupleExact vs.toArray >>= λv=>ret v) _ _ _;unfold Builtin.Tuple.tupleExact;have big:sizeLine=16777216:=rfl;refine o_ <| Nq ?_ (by show vs.length<=_;omega);exact v_ (h h' tk vs sz k lv iv)
def Cq{r:Addr}{j:Int}{t u v:Tok}{n:Nat}{Q:Pt}(hh:A.handled=none)(hr:IsRange s.heap r 0 j 1 t u v)(g_:Builtin.Range.small 0 j 1=true)(hn:Builtin.Range.rangeSize 0 j 1=n)(a_:n<=2^24)
 (h:∀(h':Heap) (tk:Nat) (vs:List Value),s.heap.objs.size<=h'.objs.size->(∀b o,s.heap.get? b=some o->h'.get? b=some o)->vs.length=n->(∀(i:Nat) x,vs[i]?=some x->∃t,x=.int (i:Nat) t)->Q (.ref h'.objs.size) { s with heap:=h'.push { cls:=.type "tuple",data:=.seq vs.toArray },toks:=tk }):
 wpAny (model prog w) A (call (.type "tuple") [.ref r]) Q E s:=by
 refine callType_codes (Q₁:=λobj s₁=>s₁.TypeIs obj "tuple" /\ Q obj s₁) F.called_tuple (F.typeCall_tuple_1 _) F.entry_object_init (Be hh hr g_ hn a_ λh' tk vs sz k lv iv=>⟨⟨_,Em _ rfl,rfl⟩,h h' tk vs sz k lv iv⟩) λobj s₁ h₁=>?_;exact⟨h₁.1,F.args_object_init_2 obj _,object_init_meets F.called_tuple.init.lookup F.called_tuple.made (by decide) prog w A.in1 _ s₁ ⟨h₁.1,rfl,h₁.2⟩⟩
end
section
variable{X:Cx}{mg:Pp}{a:Expr}{ta:TA}{pos q2 p1 p2:Pos}
def rTrg:List V->Hp->VK->Prop:=λxs H Q=>∃j:Int,xs=[.int j]/\0<=j/\j<=1000000/\∀l,H l=none->Q (.ref l) (upd H l (.tup (je j)))
theorem sV:∀{vs:List Value} (i0:Nat),(∀(i:Nat) x,vs[i]?=some x->∃t,x=.int ((i0+i:Nat):Int) t)->Vals ((List.range' i0 vs.length).map λi:Nat=>V.int (i:Nat)) vs
 | [],_,_=>.nil
 |
  v::vs,i0,h=>by
  rw[F_,List.range'_succ,z_];refine .cons ?_ (sV (i0+1) λi x e=>?_)
  .obtain⟨t,e⟩:=h 0 v rfl;exact⟨t,by rw[e];rfl⟩
  .obtain⟨t,e'⟩:=h (i+1) x (by simpa using e);exact⟨t,by rw[e'];congr 1;omega⟩
def IM(hc:X.calm=true)(hl:Gl X "tuple")(hml:X.mg "tuple"=none)(hg:Gl X "range")(hm:X.mg "range"=none)(ha:PA X [a] ta)(hs:starEach [a] X.env=[(false,eval a X.env)])
 (hs1:starEach [.Call (.Name "range" p2) [a] [] q2] X.env=[(false,eval (.Call (.Name "range" p2) [a] [] q2) X.env)]):
 PE X (.Call (.Name "tuple" p1) [.Call (.Name "range" p2) [a] [] q2] [] pos) (tCB rTrg ta):=by
 intro pins s σ H Q I h;refine M6 (cN I hl hml (show bootBuiltins "tuple"=some (.type "tuple") from rfl) ?_ (by decide) (by decide));refine MZ ?_ hs1 rfl;rw[hs1];show wpAny _ _ (spliced ((false,eval (.Call (.Name "range" p2) [a] [] q2) X.env)::[])) _ _ s;refine NY ?_;refine M6 (cN I hg hm (show bootBuiltins "range"=some (.type "range") from rfl) ?_ (by decide) (by decide));refine MZ (thn (ha q2 pins s σ H _ I h) λus s1 zz=>exA zz λvs H1 I1 r1 z1=>?_) hs rfl;obtain⟨j,e,h1,h2,q⟩:=z1;subst e;cases r1 with
 |
  cons r rr=>
  cases rr;obtain⟨t,rfl⟩:=r;refine call_range_1 (Oq ?_);have I2:Inv X pins σ H1 { s1 with heap:=s1.heap.push { cls:=.type "range",data:=.fields #[.int 0 s1.toks,.int j t,.int 1 (s1.toks+1)] },toks:=s1.toks+1+1 }:=I1.kept λb o e=>r_ _ e;refine Cq (I.ok.hd hc) (IsRange.new ..) (small_one (by omega) (by omega) (by omega) (by omega)) (n:=j.toNat) (by rw[Pn];split <;> omega) (by omega) λh' tk vs sz k lv iv=>?_;have rv:Vals (je j) vs:=by
   have:=sV (vs:=vs) 0 λi x e=>by obtain⟨t,e'⟩:=iv i x e;exact⟨t,by rw[e'];congr 1;omega⟩
   rw[lv,<- List.range_eq_range'] at this;exact this
  have hz:(je j).length<=sizeLine:=by unfold je;rw[p_,x_];have:sizeLine=16777216:=rfl;omega
  exact⟨.ref _,_,I2.laid (t':=tk) (a:=h'.objs.size) (λb o e=>r_ _ (k b o e)) sz (show ObjOk X.prog X.w _ _ _ (.tup (je j)) from ⟨hz,vs,rv,⟨_,Em _ rfl,rfl,_,rfl⟩⟩),rfl,q _ (I2.hok.fresh sz)⟩
end
noncomputable def ltS (x y:Str):Bool:=decide (x.cps.toList<y.cps.toList)
end L2
namespace HT
open PySem PySem.Spec PyProof.Rows
section
variable{prog:Program}{w:World}{A:Around}{E:Pt}{s:Shared}
def getItem_tuple_whole{t sl:Addr}{items:Array Value}{vl vu:Value}{lo hi:Option Int}{Q:Pt}(ht:IsTup s.heap t items)(hs:s.heap.IsSliceOf sl vl vu .none)(pl:IsPart vl lo)(pu:IsPart vu hi)
 (hw:sIx items.size 0 lo=0/\sIx items.size items.size hi=items.size) (h:Q (.ref t) s):wpAny (model prog w) A (getItem (.ref t) (.ref sl)) Q E s:=by
 obtain⟨os,hos,hcs,hds⟩:=id hs;have hTs:s.TypeIs (.ref sl) "slice":=⟨os,hos,hcs⟩;unfold getItem;try with_reducible refine Nl ?_
 first |refine o_ (v_ ?_) |skip
 refine o_ (wpAny_sequenceKey ht.typeIs (by decide) ?_);refine o_ (Nz (name:=Str.ofString "__getitem__") ht.typeIs NK
  (Of NK ht.typeIs entry_tuple_getitem ?_ (args_tuple_getitem _ _)))
 show wpAny _ _ (Builtin.Tuple.tupleItemsOf (.ref t) >>= _) _ _ s;refine o_ (tupleItemsOf_ ht ?_);refine o_ (wpAny_typeOf hTs ?_);rw[if_pos (by decide)];refine o_ (iu hs pl pu ?_);have hyes:(((sIx items.size 0 lo:Nat):Int)==0&&(1:Int)==1&&(sIx items.size items.size hi-sIx items.size 0 lo)==items.size)=true:=by rw[hw.1,hw.2];simp
 show wpAny _ _ (if (((sIx items.size 0 lo:Nat):Int)==0&&(1:Int)==1&&(sIx items.size items.size hi-sIx items.size 0 lo)==items.size)=true then _ else _) _ _ s;rw[if_pos hyes];refine o_ (m:=Builtin.Tuple.tupleIsExact _) (o_ (wpAny_typeOf ht.typeIs (v_ ?_)));rw[if_pos (by decide)];first
  |exact OA (v_ ⟨_,rfl,v_ h⟩)
  |exact o_ (OA (v_ ⟨_,rfl,v_ h⟩))
  |exact o_ (OA (v_ (v_ ⟨_,rfl,v_ h⟩)))
end
end HT
namespace L2
open PySem PySem.Spec PyProof.Rows
section
variable{X:Cx}{K:W.Frag}
def Cf(K:W.Frag):V->Option Int->Option Int->Hp->VK->Prop:=λx lo hi H Q=>∃a xs,x=.ref a/\SqT K H a xs/\(HT.sIx xs.length 0 lo=0/\HT.sIx xs.length xs.length hi=xs.length)/\Q (.ref a) H
def BD:SlR X (Cf X.K):=by
 intro pins s σ H x v vl vu lo hi sl Q I rx hs pl pu h;obtain⟨a,xs,rfl,hx,hw,q⟩:=h;cases rx;obtain⟨its,r,ht,hz⟩:=I.tuple hx;have a_:its.toArray.size=xs.length:=by rw[y_];exact r.length.symm
 refine⟨"tuple",_,PyProof.Rows.slot_tuple_getitem.lookup,ht.typeIs,?_⟩;exact HT.getItem_tuple_whole ht hs pl pu (by rw[a_];exact hw) ⟨.ref a,H,I,rfl,q⟩
def slKW(h:X.K=K):SlR X (λx lo hi H Q=>((wz K x lo hi H Q\/xC K x lo hi H Q)\/xH x lo hi H Q)\/Cf K x lo hi H Q):=by subst h;exact (slK rfl).or BD
def xN:R2:=λx y H Q=>∃(b:Bool) (i:Int),x=.bl b/\y=.int i/\Q (.int ((if b=true then (1:Int) else 0)+i)) H
def FR:OpR X (binaryOp .Add) xN:=by intro pins s σ H x y v u Q I rx ry h;obtain⟨b,i,rfl,rfl,q⟩:=h;cases rx;obtain⟨t,rfl⟩:=ry;exact PySem.IntBool.add_bool_int ⟨.int _,H,I.tok _,⟨_,rfl⟩,q⟩
def FV(h:X.K=K):OpR X (binaryOp .Add) (λx y H Q=>(rI0 (λi j=>.int (i+j)) x y H Q\/(sf x y H Q\/(mL K x y H Q\/nC K x y H Q)))\/xN x y H Q):=(JQ h).or FR
end
end L2
namespace L3
open PySem PySem.Spec PyProof.Rows L2
set_option genInjectivity true in
inductive Val where
 |non |bl (b:Bool) |int (i:Int) |str (x:Str) |ty (n:String) |glb (x:Str) |exc (x:Str)
 |tup (xs:List Val) |lst (xs:List Val) |kl (xs:List Val) |dct (kvs:List (Key×Val)) |set (xs:List Int)
 deriving Inhabited
abbrev St:=L2.St
structure LeH(H H':Hp):Prop where
 tup:∀b xs,H b=some (.tup xs)->H' b=some (.tup xs)
 frz:∀b o u,H b=some (.frz o u)->H' b=some (.frz o u)
 ext:∀b φ,H b=some (.ext φ)->H' b=some (.ext φ)
def LeH.refl:LeH H H:=⟨λ_ _ e=>e,λ_ _ _ e=>e,λ_ _ e=>e⟩
def LeH.trans(a:LeH H H1)(b:LeH H1 H2):LeH H H2:=⟨λx y e=>b.tup x y (a.tup x y e),λx y z e=>b.frz x y z (a.frz x y z e),λx y e=>b.ext x y (a.ext x y e)⟩
def Gr(H H':Hp):Prop:=∀a o,H a=some o->H' a=some o
def Gr.le(g:Gr H H'):LeH H H':=⟨λ_ _=>g _ _,λ_ _ _=>g _ _,λ_ _=>g _ _⟩
def Gr.refl:Gr H H:=λ_ _ e=>e
def Gr.upd(h:H p=none):Gr H (upd H p u):=λa o e=>by rw[aE (bR e h)];exact e
def Gr.none(g:Gr H H')(h:H' a=none):H a=none:=by
 cases q:H a with
 |none=>rfl
 |some o=>rw[g a o q] at h;cases h
def LeH.sqT{K:W.Frag}(l:LeH H H')(q:SqT K H a xs):SqT K H' a xs:=by
 rcases q with (q |⟨o,q⟩) |q
 .exact .inl (.inl (l.tup _ _ q))
 .exact .inl (.inr ⟨o,l.frz _ _ _ q⟩)
 .exact .inr q
section
variable(K:W.Frag)(mg:Pp)
def KlR(a:Addr)(vs:List V):Prop:=∃(o:Obj) (its:Array Value) (n:Nat),K.lookup a=some o/\o.cls=.type "list" /\ o.dict=none/\o.data=.seq its n/\its.size<=sizeLine/\Vals vs its.toList
mutual
inductive Rd(P:Addr->Prop)(H:Hp):V->Val->Prop where
 |non:Rd P H .non .non
 |bl (b:Bool):Rd P H (.bl b) (.bl b)
 |int (i:Int):Rd P H (.int i) (.int i)
 |str (x:Str):Rd P H (.str x) (.str x)
 |ty (n:String):Rd P H (.ty n) (.ty n)
 |glb {x:Str}{a:Addr} (m:mg x=some (.ref a)):Rd P H (.ref a) (.glb x)
 |exc {x:Str}{a C:Addr} (m:mg x=some (.ref C)) (e:H a=some (.ext (lP a C))):Rd P H (.ref a) (.exc x)
 |tup {p:Addr}{vs:List V}{us:List Val} (h:SqT K H p vs) (r:Rds P H vs us):Rd P H (.ref p) (.tup us)
 |kl {a:Addr}{vs:List V}{us:List Val} (h:KlR K a vs) (r:Rds P H vs us):Rd P H (.ref a) (.kl us)
 |cell {a:Addr}{o:HO}{v:Val} (p:P a) (e:H a=some o) (r:Rc P H o v):Rd P H (.ref a) v
inductive Rc(P:Addr->Prop)(H:Hp):HO->Val->Prop where
 |lst {vs:List V}{us:List Val} (r:Rds P H vs us):Rc P H (.lst vs) (.lst us)
 |fz {o:Obj}{vs:List V}{us:List Val} (r:Rds P H vs us):Rc P H (.frz o (.lst vs)) (.kl us)
 |dct {ws:List (Key×V)}{us:List (Key×Val)} (r:Rk P H ws us):Rc P H (.dK ws) (.dct us)
 |set (xs:List Int) (nd:xs.Nodup):Rc P H (.set (λi=>decide (i∈xs)) xs.length) (.set xs)
inductive Rds(P:Addr->Prop)(H:Hp):List V->List Val->Prop where
 |nil:Rds P H [] []
 |cons {d:V}{v:Val}{ds:List V}{vs:List Val} (r:Rd P H d v) (rr:Rds P H ds vs):Rds P H (d::ds) (v::vs)
inductive Rk(P:Addr->Prop)(H:Hp):List (Key×V)->List (Key×Val)->Prop where
 |nil:Rk P H [] []
 |cons {k:Key}{d:V}{v:Val}{ds:List (Key×V)}{vs:List (Key×Val)} (r:Rd P H d v) (rr:Rk P H ds vs):Rk P H ((k,d)::ds) ((k,v)::vs)
end
end
def oD(o:HO):Prop:=∀ps,o ≠ .tbl ps
structure Mov(P P':Addr->Prop)(H H':Hp):Prop where
 le:LeH H H'
 cl:∀a o,P a->H a=some o->oD o->P' a/\H' a=some o
def Gr.mov(g:Gr H H'):Mov P P H H':=⟨g.le,λa o p e _=>⟨p,g a o e⟩⟩
def Mov.of(h:∀a,P a->P' a):Mov P P' H H:=⟨.refl,λa o p e _=>⟨h a p,e⟩⟩
section
variable{K:W.Frag}{mg:Pp}{P P':Addr->Prop}{H H':Hp}
def Rc.nt(r:Rc K mg P H o v):oD o:=by cases r <;> exact λ_ z=>nomatch z
def Rd.mono(m:Mov P P' H H')(r:Rd K mg P H d v):Rd K mg P' H' d v:=@Rd.rec K mg P H (λd v _=>Rd K mg P' H' d v) (λo v _=>Rc K mg P' H' o v) (λds vs _=>Rds K mg P' H' ds vs) (λws us _=>Rk K mg P' H' ws us) .non (λb=>.bl b) (λi=>.int i) (λx=>.str x) (λn=>.ty n) (λe=>.glb e) (λq e=>.exc q (m.le.ext _ _ e)) (λh _ ih=>.tup (m.le.sqT h) ih) (λh _ ih=>.kl h ih) (λp e r ih=>.cell (m.cl _ _ p e r.nt).1 (m.cl _ _ p e r.nt).2 ih) (λ_ ih=>.lst ih) (λ_ ih=>.fz ih) (λ_ ih=>.dct ih) (λxs nd=>.set xs nd) .nil (λ_ _ a b=>.cons a b) .nil (λ_ _ a b=>.cons a b) d v r
def Rds.ind{M:List V->List Val->Prop}(h0:M [] [])(h1:∀{d v ds vs},Rd K mg P H d v->Rds K mg P H ds vs->M ds vs->M (d::ds) (v::vs)){ds:List V}{vs:List Val}(r:Rds K mg P H ds vs):M ds vs:=by
 induction ds generalizing vs with
 |nil=>cases r;exact h0
 |
  cons d ds ih=>
  cases r with
  |cons r rr=>exact h1 r rr (ih rr)
def Rk.ind{M:List (Key×V)->List (Key×Val)->Prop}(h0:M [] [])(h1:∀{k d v ds vs},Rd K mg P H d v->Rk K mg P H ds vs->M ds vs->M ((k,d)::ds) ((k,v)::vs)){ds:List (Key×V)}{vs:List (Key×Val)}(r:Rk K mg P H ds vs):M ds vs:=by
 induction ds generalizing vs with
 |nil=>cases r;exact h0
 |
  cons d ds ih=>
  cases r with
  |cons r rr=>exact h1 r rr (ih rr)
def Rds.mono(m:Mov P P' H H'){d:List V}{v:List Val}(r:Rds K mg P H d v):Rds K mg P' H' d v:=r.ind .nil λr _ ih=>.cons (r.mono m) ih
def Rk.mono(m:Mov P P' H H'){d:List (Key×V)}{v:List (Key×Val)}(r:Rk K mg P H d v):Rk K mg P' H' d v:=r.ind .nil λr _ ih=>.cons (r.mono m) ih
def Rc.mono(m:Mov P P' H H')(r:Rc K mg P H d v):Rc K mg P' H' d v:=by
 cases r with
 |lst r=>exact .lst (r.mono m)
 |fz r=>exact .fz (r.mono m)
 |dct r=>exact .dct (r.mono m)
 |set xs nd=>exact .set xs nd
def Rds.len{ds:List V}{vs:List Val}(r:Rds K mg P H ds vs):ds.length=vs.length:=r.ind (M:=λds vs=>ds.length=vs.length) rfl λ_ _ ih=>MK (· + 1) ih
def Rds.get{ds:List V}{vs:List Val}{i:Nat}{v:Val}(r:Rds K mg P H ds vs)(e:vs[i]?=some v):∃d,ds[i]?=some d/\Rd K mg P H d v:=
 r.ind (M:=λds vs=>∀i,vs[i]?=some v->∃d,ds[i]?=some d/\Rd K mg P H d v) (λ_ e=>by rw[List.getElem?_nil] at e;cases e) (λr _ ih i e=>match i,e with
  |0,e=>by cases e;exact⟨_,rfl,r⟩
  |i+1,e=>ih i e) i e
def Rds.append{ds es:List V}{vs ws:List Val}(r:Rds K mg P H ds vs)(q:Rds K mg P H es ws):Rds K mg P H (ds++es) (vs++ws):=r.ind (M:=λds vs=>Rds K mg P H (ds++es) (vs++ws)) q λr _ ih=>.cons r ih
def Rds.take{ds:List V}{vs:List Val}(n:Nat)(r:Rds K mg P H ds vs):Rds K mg P H (ds.take n) (vs.take n):=
 r.ind (M:=λds vs=>∀n:Nat,Rds K mg P H (ds.take n) (vs.take n)) (λn=>by rw[OW,OW];exact .nil) (λr _ ih n=>by cases n with |zero=>exact .nil |succ n=>exact .cons r (ih n)) n
def Rds.drop{ds:List V}{vs:List Val}(n:Nat)(r:Rds K mg P H ds vs):Rds K mg P H (ds.drop n) (vs.drop n):=
 r.ind (M:=λds vs=>∀n:Nat,Rds K mg P H (ds.drop n) (vs.drop n)) (λn=>by rw[Pk,Pk];exact .nil) (λr rr ih n=>by cases n with |zero=>exact .cons r rr |succ n=>exact ih n) n
def Rds.set{d:V}{v:Val}(r:Rd K mg P H d v){ds:List V}{vs:List Val}(i:Nat)(q:Rds K mg P H ds vs):Rds K mg P H (ds.set i d) (vs.set i v):=
 q.ind (M:=λds vs=>∀i:Nat,Rds K mg P H (ds.set i d) (vs.set i v)) (λ_=>.nil) (λq qq ih i=>by cases i with |zero=>exact .cons r qq |succ i=>exact .cons q (ih i)) i
def ShR(K:W.Frag)(mg:Pp)(P:Addr->Prop)(H:Hp)(d:V)(v:Val):Prop:=Rd K mg P H d v\/∃a o,d=.ref a/\H a=some o/\Rc K mg P H o v
inductive ShRs(K:W.Frag)(mg:Pp)(P:Addr->Prop)(H:Hp):List V->List Val->Prop where
 |nil:ShRs K mg P H [] []
 |cons {d:V}{v:Val}{ds:List V}{vs:List Val} (r:ShR K mg P H d v) (rr:ShRs K mg P H ds vs):ShRs K mg P H (d::ds) (v::vs)
def ShR.mono(m:Mov P P' H H')(g:Gr H H')(r:ShR K mg P H d v):ShR K mg P' H' d v:=by
 rcases r with r |⟨a,o,rfl,e,r⟩
 .exact .inl (r.mono m)
 .exact .inr ⟨a,o,rfl,g a o e,r.mono m⟩
def ShR.int(r:ShR K mg P H d (.int i)):d=.int i:=by
 rcases r with r |⟨n,o,rfl,e,r⟩
 .cases r with
  |int=>rfl
  |cell p e r=>cases r
 .cases r
def ShR.str(r:ShR K mg P H d (.str i)):d=.str i:=by
 rcases r with r |⟨n,o,rfl,e,r⟩
 .cases r with
  |str=>rfl
  |cell p e r=>cases r
 .cases r
def ShR.bl(r:ShR K mg P H d (.bl i)):d=.bl i:=by
 rcases r with r |⟨n,o,rfl,e,r⟩
 .cases r with
  |bl=>rfl
  |cell p e r=>cases r
 .cases r
def ShR.non(r:ShR K mg P H d .non):d=.non:=by
 rcases r with r |⟨n,o,rfl,e,r⟩
 .cases r with
  |non=>rfl
  |cell p e r=>cases r
 .cases r
def ShR.exc(r:ShR K mg P H d (.exc x)):∃a C,d=.ref a/\mg x=some (.ref C)/\H a=some (.ext (lP a C)):=by
 rcases r with r |⟨n,o,rfl,e,r⟩
 .cases r with
  |exc m e=>exact⟨_,_,rfl,m,e⟩
  |cell p e r=>cases r
 .cases r
def ShR.ty(r:ShR K mg P H d (.ty x)):d=.ty x:=by
 rcases r with r |⟨n,o,rfl,e,r⟩
 .cases r with
  |ty=>rfl
  |cell p e r=>cases r
 .cases r
def ShR.glb(r:ShR K mg P H d (.glb x)):∃a,d=.ref a/\mg x=some (.ref a):=by
 rcases r with r |⟨n,o,rfl,e,r⟩
 .cases r with
  |glb m=>exact⟨_,rfl,m⟩
  |cell p e r=>cases r
 .cases r
def ShR.tup(r:ShR K mg P H d (.tup us)):∃p vs,d=.ref p/\SqT K H p vs/\Rds K mg P H vs us:=by
 rcases r with r |⟨n,o,rfl,e,r⟩
 .cases r with
  |tup h r=>exact⟨_,_,rfl,h,r⟩
  |cell p e r=>cases r
 .cases r
def ShR.lst(r:ShR K mg P H d (.lst us)):∃a vs,d=.ref a/\H a=some (.lst vs)/\Rds K mg P H vs us:=by
 rcases r with r |⟨n,o,rfl,e,r⟩
 .cases r with
  |cell p e r=>cases r with |lst r=>exact⟨_,_,rfl,e,r⟩
 .cases r with |lst r=>exact⟨_,_,rfl,e,r⟩
def ShR.set(r:ShR K mg P H d (.set xs)):∃a,d=.ref a/\xs.Nodup/\H a=some (.set (λi=>decide (i∈xs)) xs.length):=by
 rcases r with r |⟨n,o,rfl,e,r⟩
 .cases r with
  |cell p e r=>cases r with |set _ nd=>exact⟨_,rfl,nd,e⟩
 .cases r with |set _ nd=>exact⟨_,rfl,nd,e⟩
def ShR.dct(r:ShR K mg P H d (.dct us)):∃a ws,d=.ref a/\H a=some (.dK ws)/\Rk K mg P H ws us:=by
 rcases r with r |⟨n,o,rfl,e,r⟩
 .cases r with
  |cell p e r=>cases r with |dct r=>exact⟨_,_,rfl,e,r⟩
 .cases r with |dct r=>exact⟨_,_,rfl,e,r⟩
def ShR.kl(r:ShR K mg P H d (.kl us)):∃a vs,d=.ref a/\SqL K H a vs/\Rds K mg P H vs us:=by
 rcases r with r |⟨n,o,rfl,e,r⟩
 .cases r with
  |kl h r=>exact⟨_,_,rfl,.inr h,r⟩
  |cell p e r=>cases r with |fz r=>exact⟨_,_,rfl,.inl (.inr ⟨_,e⟩),r⟩
 .cases r with |fz r=>exact⟨_,_,rfl,.inl (.inr ⟨_,e⟩),r⟩
def ShR.lstL(r:ShR K mg P H d (.lst us)):∃a vs,d=.ref a/\SqL K H a vs/\Rds K mg P H vs us:=by obtain⟨a,vs,e,h,q⟩:=r.lst;exact⟨a,vs,e,SqL.of h,q⟩
end
noncomputable def Val.items:Val->Option (List Val)
 |.tup xs=>some xs
 |.lst xs=>some xs
 |.kl xs=>some xs
 |_=>none
def ShR.items{K:W.Frag}{mg:Pp}{P:Addr->Prop}{H:Hp}{d:V}{v:Val}{us:List Val}(r:ShR K mg P H d v)(e:v.items=some us):∃a vs,d=.ref a/\(SqL K H a vs\/SqT K H a vs)/\Rds K mg P H vs us:=by
 cases v with
 |tup xs=>cases e;obtain⟨a,vs,h1,h2,h3⟩:=r.tup;exact⟨a,vs,h1,.inr h2,h3⟩
 |lst xs=>cases e;obtain⟨a,vs,h1,h2,h3⟩:=r.lstL;exact⟨a,vs,h1,.inl h2,h3⟩
 |kl xs=>cases e;obtain⟨a,vs,h1,h2,h3⟩:=r.kl;exact⟨a,vs,h1,.inl h2,h3⟩
 |_=>cases e
inductive Sl where
 |no |sh (v:Val) |ow (v:Val) |mu (v:Val) |lo (v:Val) |lm (v:Val)
 deriving Inhabited
abbrev E3:=List Sl
noncomputable def Sl.val:Sl->Option Val
 |.no=>none
 |.sh v=>some v
 |.ow v=>some v
 |.mu v=>some v
 |.lo v=>some v
 |.lm v=>some v
noncomputable def Sl.mt:Sl->Bool
 |.ow _=>true
 |.mu _=>true
 |_=>false
noncomputable def Sl.lk:Sl->Bool
 |.lo _=>true
 |.lm _=>true
 |_=>false
abbrev Ns:=List (Option Addr)
def Oc(X:Addr->Prop)(ns:Ns)(n:Addr):Prop:=¬ X n/\some n∉ns
def NotFz:HO->Prop
 |.lst _=>True
 |.dK _=>True
 |.set _ _=>True
 |_=>False
def TbQ(H:Hp)(P:Addr)(q:Str):Prop:=∃ps:Array Value,H P=some (.tbl ps)/\TriplesOk ps.toList/\∀pos cv,codeAmong pos ps.toList=some cv->∃c,cv=.ref c/\H c=some (.ext (fQ c q))
section
variable(K:W.Frag)(mg:Pp)
def Bs(H:Hp):Prop:=∀P q,LamT K mg P q->TbQ H P q/\sJ K mg H
def SlR(P:Addr->Prop)(N0:Addr->Prop)(n:Option (Option Addr))(d:Option (Option V))(H:Hp):Sl->Prop
 |.no=>n=some none
 |.sh v=>n=some none/\∃x,d=some (some x)/\Rd K mg P H x v
 |.ow v=>∃m o,n=some (some m)/\d=some (some (.ref m))/\N0 m/\H m=some o/\NotFz o/\Rc K mg P H o v
 |.lo v=>∃m o,n=some (some m)/\d=some (some (.ref m))/\N0 m/\H m=some o/\NotFz o/\Rc K mg P H o v
 |.mu v=>∃m o,n=some (some m)/\d=some (some (.ref m))/\H m=some o/\NotFz o/\Rc K mg P H o v
 |.lm v=>∃m o,n=some (some m)/\d=some (some (.ref m))/\H m=some o/\NotFz o/\Rc K mg P H o v
structure Sat(X:Addr->Prop)(N0:Addr->Prop)(ns:Ns)(e:E3)(σ:St)(H:Hp):Prop where
 l1:σ.length=e.length
 l2:ns.length=e.length
 lh:∀a,H a=none->N0 a
 xl:∀a,X a->∃o,H a=some o
 inj:∀(i j:Nat) (n:Addr),ns[i]?=some (some n)->ns[j]?=some (some n)->i=j
 nx:∀(i:Nat) (n:Addr),ns[i]?=some (some n)->¬ X n
 sl:∀(i:Nat) (s:Sl),e[i]?=some s->SlR K mg (Oc X ns) N0 (ns[i]?) (σ[i]?) H s
 bs:Bs K mg H
end
def Mt(ns:Ns)(e:E3)(n:Addr):Prop:=∃(i:Nat) (s:Sl),ns[i]?=some (some n)/\e[i]?=some s/\s.mt=true
structure Stp(ns:Ns)(e:E3)(H:Hp)(ns':Ns)(e':E3)(H':Hp):Prop where
 le:LeH H H'
 dom:∀a,H' a=none->H a=none
 keep:∀(m:Addr) (o:HO),H m=some o->oD o->¬ Mt ns e m->H' m=some o
 nw:∀(i:Nat) (n:Addr),ns'[i]?=some (some n)->ns[i]?=some (some n)\/H n=none
 lk:∀(i:Nat) (s:Sl),e[i]?=some s->s.lk=true->e'[i]?=some s/\ns'[i]?=ns[i]?
 lk':∀(i:Nat) (s:Sl),e'[i]?=some s->s.lk=true->e[i]?=some s/\ns'[i]?=ns[i]?
 mu:∀(i:Nat) (v:Val),e'[i]?=some (.mu v)->∃u,e[i]?=some (.mu u)/\ns'[i]?=ns[i]?
 mu':∀(i:Nat) (u:Val),e[i]?=some (.mu u)->∃v,e'[i]?=some (.mu v)/\ns'[i]?=ns[i]?
section
variable{K:W.Frag}{mg:Pp}{X Y N0 P P':Addr->Prop}{ns ns1 h_:Ns}{e e1 e2:E3}{σ:St}{H H' H1 H2:Hp}
def NotFz.nt(h:NotFz o):oD o:=λps z=>by subst z;exact h
def NotFz.no(h:NotFz o):(∀xs,o ≠ .tup xs)/\(∀x y,o ≠ .frz x y)/\(∀φ,o ≠ .ext φ)/\∀ps,o ≠ .tbl ps:=
 ⟨λ_ z=>by subst z;exact h,λ_ _ z=>by subst z;exact h,λ_ z=>by subst z;exact h,λ_ z=>by subst z;exact h⟩
def LeH.wr(q:H a=some u)(hf:NotFz u):LeH H (upd H a o):=by
 have n:∀b w,H b=some w->w≠u->upd H a o b=some w:=λb w e z=>by rw[aE λy=>?_];exact e;subst y;rw[q] at e;exact z (J_ e).symm
 exact⟨λb xs e=>n b _ e λz=>hf.no.1 _ z.symm,λb x y e=>n b _ e λz=>hf.no.2.1 _ _ z.symm,λb φ e=>n b _ e λz=>hf.no.2.2.1 _ z.symm⟩
def DM(b:sJ K mg H)(l:LeH H H'):sJ K mg H':=by
 obtain⟨x,o,h1,h2,h3,h4,h5⟩:=b;refine⟨x,o,h1,h2,h3,h4,?_⟩;rcases h5 with z |⟨u,z⟩
 .exact .inl z
 .exact .inr ⟨u,l.frz _ _ _ z⟩
def Bs.of(b:Bs K mg H)(l:LeH H H')(t:∀a ps,H a=some (.tbl ps)->H' a=some (.tbl ps)):Bs K mg H':=λP q h=>by obtain⟨⟨ps,h1,h2,h3⟩,m⟩:=b P q h;exact⟨⟨ps,t _ _ h1,h2,λpos cv z=>by obtain⟨c,y1,y2⟩:=h3 pos cv z;exact⟨c,y1,l.ext _ _ y2⟩⟩,DM m l⟩
def Bs.gr(b:Bs K mg H)(g:Gr H H'):Bs K mg H':=b.of g.le λa _=>g a _
def Bs.wr(b:Bs K mg H)(q:H a=some u)(hf:NotFz u):Bs K mg (upd H a o):=b.of (LeH.wr q hf) λc ps e=>by rw[aE λy=>?_];exact e;subst y;rw[q] at e;exact hf.no.2.2.2 _ (J_ e)
def aY{n:Addr}:some n∈ns ↔ ∃i:Nat,ns[i]?=some (some n):=by
 constructor
 .intro m;exact List.getElem?_of_mem m
 .rintro⟨i,e⟩;exact Oy e
def Sat.own(S:Sat K mg X N0 ns e σ H){i:Nat}{n:Addr}(q:ns[i]?=some (some n)):∃s v o,e[i]?=some s/\(s.mt=true\/s.lk=true)/\s.val=some v/\σ[i]?=some (some (.ref n))/\H n=some o/\NotFz o/\Rc K mg (Oc X ns) H o v:=by
 have hi:i<e.length:=by rw[<- S.l2];exact (B_.mp q).1
 have hs:=S.sl i e[i] (C_ hi);refine⟨e[i],?_⟩;have he:=C_ hi;generalize e[i]=s at *;rw[q] at hs;cases s with
 |no=>cases hs
 |sh v=>cases hs.1
 |ow v=>obtain⟨m,o,e1,e2,_,e3,e4,e5⟩:=hs;cases e1;exact⟨v,o,he,.inl rfl,rfl,e2,e3,e4,e5⟩
 |lo v=>obtain⟨m,o,e1,e2,_,e3,e4,e5⟩:=hs;cases e1;exact⟨v,o,he,.inr rfl,rfl,e2,e3,e4,e5⟩
 |mu v=>obtain⟨m,o,e1,e2,e3,e4,e5⟩:=hs;cases e1;exact⟨v,o,he,.inl rfl,rfl,e2,e3,e4,e5⟩
 |lm v=>obtain⟨m,o,e1,e2,e3,e4,e5⟩:=hs;cases e1;exact⟨v,o,he,.inr rfl,rfl,e2,e3,e4,e5⟩
def Stp.gr(g:Gr H H'):Stp ns e H ns e H':=⟨g.le,λ_=>g.none,λ_ _ q _ _=>g _ _ q,λ_ _ q=>.inl q,λ_ _ q _=>⟨q,rfl⟩,λ_ _ q _=>⟨q,rfl⟩,λ_ _ q=>⟨_,q,rfl⟩,λ_ _ q=>⟨_,q,rfl⟩⟩
def Stp.refl:Stp ns e H ns e H:=.gr .refl
def Stp.trans(S:Sat K mg X N0 ns e σ H)(a:Stp ns e H ns1 e1 H1)(b:Stp ns1 e1 H1 h_ e2 H2):Stp ns e H h_ e2 H2:=by
 refine⟨a.le.trans b.le,λx z=>a.dom x (b.dom x z),λm o q ht hm=>?_,λi n q=>?_,λi s q hl=>?_,λi s q hl=>?_,λi v q=>?_,λi v q=>?_⟩
 .refine b.keep m o (a.keep m o q ht hm) ht λ⟨i,s,z1,z2,z3⟩=>hm ?_;rcases a.nw i m z1 with z |z
  .obtain⟨s0,v,o',q1,q2,_⟩:=S.own z;rcases q2 with q2 |q2
   .exact⟨i,s0,z,q1,q2⟩
   .have:=(a.lk i s0 q1 q2).1
    rw[z2] at this;cases this;exfalso;cases s <;> first |cases z3;done |cases q2;done
  .rw[q] at z;cases z
 .rcases b.nw i n q with z |z
  .exact a.nw i n z
  .exact .inr (a.dom n z)
 .obtain⟨q1,q2⟩:=a.lk i s q hl;obtain⟨q3,q4⟩:=b.lk i s q1 hl;exact⟨q3,q4.trans q2⟩
 .obtain⟨q1,q2⟩:=b.lk' i s q hl;obtain⟨q3,q4⟩:=a.lk' i s q1 hl;exact⟨q3,q2.trans q4⟩
 .obtain⟨u,q1,q2⟩:=b.mu i v q;obtain⟨u',q3,q4⟩:=a.mu i u q1;exact⟨u',q3,q2.trans q4⟩
 .obtain⟨u,q1,q2⟩:=a.mu' i v q;obtain⟨u',q3,q4⟩:=b.mu' i u q1;exact⟨u',q3,q4.trans q2⟩
def Stp.mov(a:Stp ns e H ns1 e1 H1):Mov (Oc X ns) (Oc X ns1) H H1:=⟨a.le,λn o p q ht=>by
 have hm:¬ Mt ns e n:=λ⟨i,s,z,_⟩=>p.2 (aY.mpr ⟨i,z⟩);refine⟨⟨p.1,λz=>?_⟩,a.keep n o q ht hm⟩;obtain⟨i,z⟩:=aY.mp z;rcases a.nw i n z with z |z
 .exact p.2 (aY.mpr ⟨i,z⟩)
 .rw[q] at z;cases z⟩
def SlR.mono(m:Mov P P' H H')(k:∀j o,n=some (some j)->H j=some o->NotFz o->H' j=some o)(r:SlR K mg P N0 n d H s):SlR K mg P' N0 n d H' s:=by
 cases s with
 |no=>exact r
 |sh v=>obtain⟨q,x,q1,q2⟩:=r;exact⟨q,x,q1,q2.mono m⟩
 |ow v=>obtain⟨j,o,q1,q2,q3,q4,q5,q6⟩:=r;exact⟨j,o,q1,q2,q3,k j o q1 q4 q5,q5,q6.mono m⟩
 |lo v=>obtain⟨j,o,q1,q2,q3,q4,q5,q6⟩:=r;exact⟨j,o,q1,q2,q3,k j o q1 q4 q5,q5,q6.mono m⟩
 |mu v=>obtain⟨j,o,q1,q2,q4,q5,q6⟩:=r;exact⟨j,o,q1,q2,k j o q1 q4 q5,q5,q6.mono m⟩
 |lm v=>obtain⟨j,o,q1,q2,q4,q5,q6⟩:=r;exact⟨j,o,q1,q2,k j o q1 q4 q5,q5,q6.mono m⟩
def Xn(X:Addr->Prop)(n:Addr):Addr->Prop:=λm=>X m\/m=n
def Sat.gr(S:Sat K mg X N0 ns e σ H)(g:Gr H H'):Sat K mg X N0 ns e σ H':=
 ⟨S.l1,S.l2,λa z=>S.lh a (g.none z),λa z=>by obtain⟨o,q⟩:=S.xl a z;exact⟨o,g a o q⟩,S.inj,S.nx,λi s q=>(S.sl i s q).mono g.mov λj o _ q _=>g j o q,S.bs.gr g⟩
def Sat.grow(S:Sat K mg X N0 ns e σ H)(g:Gr H H')(hp:H p=none)(q:H' p=some o):Sat K mg (Xn X p) N0 ns e σ H':=by
 have S':=S.gr g;have np:∀b u,H b=some u->b≠p:=λb u y z=>by subst z;rw[hp] at y;cases y
 refine⟨S.l1,S.l2,S'.lh,λa z=>?_,S.inj,λi n q' z=>?_,λi s q=>(S.sl i s q).mono ⟨g.le,λa o p q _=>⟨⟨λz=>?_,p.2⟩,g a o q⟩⟩ λj o _ q _=>g j o q,S'.bs⟩
 .rcases z with z |rfl
  .exact S'.xl a z
  .exact⟨o,q⟩
 .rcases z with z |rfl
  .exact S.nx i n q' z
  .obtain⟨_,_,_,_,_,_,_,y,_⟩:=S.own q';exact np _ _ y rfl
 .rcases z with z |z
  .exact p.1 z
  .exact np _ _ q z
def Sat.weak(S:Sat K mg Y N0 ns e σ H)(hx:∀n,X n->Y n):Sat K mg X N0 ns e σ H:=
 ⟨S.l1,S.l2,S.lh,λn z=>S.xl n (hx n z),S.inj,λi n q z=>S.nx i n q (hx n z),λi s q=>(S.sl i s q).mono (.of λn p=>⟨λz=>p.1 (hx n z),p.2⟩) λ_ _ _ q _=>q,S.bs⟩
end
section
variable{K:W.Frag}{mg:Pp}{X N0:Addr->Prop}{ns ns0:Ns}{e e0:E3}{σ:St}{H Hs:Hp}
def bK{α:Type}{l:List α}{i j:Nat}{a b:α}(hi:i<l.length)(q:(l.set i a)[j]?=some b):(j=i/\b=a)\/(j≠i/\l[j]?=some b):=by
 rw[List.getElem?_set] at q;by_cases z:i=j
 .subst z;rw[if_pos rfl,if_pos hi] at q;exact .inl ⟨rfl,(J_ q).symm⟩
 .rw[if_neg z] at q;exact .inr ⟨λy=>z y.symm,q⟩
def du{α:Type}{l:List α}{i:Nat}{a:α}(hi:i<l.length):(l.set i a)[i]?=some a:=by rw[List.getElem?_set,if_pos rfl,if_pos hi]
def cK{α:Type}{l:List α}{i j:Nat}{a:α}(hi:j≠i):(l.set i a)[j]?=l[j]?:=by rw[Ow (λy=>hi y.symm)]
def fW{n:Addr}(p:Oc X ns n):Oc X (ns.set i none) n:=⟨p.1,λz=>by
 rcases NI z with z |z
 .exact p.2 z
 .cases z⟩
def Sat.putN(S:Sat K mg X N0 ns e σ H)(hi:i<e.length)(q:SlR K mg (Oc X (ns.set i none)) N0 (some none) (some d) H s):Sat K mg X N0 (ns.set i none) (e.set i s) (σ.set i d) H:=by
 have hn:i<ns.length:=by rw[S.l2];exact hi
 have ha:i<σ.length:=by rw[S.l1];exact hi
 refine⟨by rw[M4,M4];exact S.l1,by rw[M4,M4];exact S.l2,S.lh,S.xl,λj k n q1 q2=>?_,λj n q1=>?_,λj s' q1=>?_,S.bs⟩
 .rcases bK hn q1 with ⟨_,z⟩ |⟨_,z⟩
  .cases z
  rcases bK hn q2 with ⟨_,y⟩ |⟨_,y⟩
  .cases y
  exact S.inj j k n z y
 .rcases bK hn q1 with ⟨_,z⟩ |⟨_,z⟩
  .cases z
  exact S.nx j n z
 .rcases bK hi q1 with ⟨rfl,rfl⟩ |⟨z,q2⟩
  .rw[du hn,du ha];exact q
  .rw[cK z,cK z];exact (S.sl j s' q2).mono (.of λn p=>fW p) λ_ _ _ q _=>q
def Sat.putN'(S:Sat K mg X N0 ns e σ H)(hi:i<e.length)(q:SlR K mg (Oc X (ns.set i none)) N0 (some none) (σ[i]?) H s):Sat K mg X N0 (ns.set i none) (e.set i s) σ H:=by
 have ha:i<σ.length:=by rw[S.l1];exact hi
 have:=S.putN hi (s:=s) (d:=σ[i]) (by rw[C_ ha] at q;exact q)
 rw[List.set_getElem_self] at this;exact this
def Sat.putO(S:Sat K mg (Xn X n) N0 ns e σ H)(hx:¬ X n)(hi:i<e.length)(hn0:N0 n)(eo:H n=some o)(hf:NotFz o)(r:Rc K mg (Oc (Xn X n) ns) H o v):Sat K mg X N0 (ns.set i (some n)) (e.set i (.ow v)) (σ.set i (some (.ref n))) H:=by
 have hn:i<ns.length:=by rw[S.l2];exact hi
 have ha:i<σ.length:=by rw[S.l1];exact hi
 have nn:∀j:Nat,ns[j]?≠some (some n):=λj q=>S.nx j n q (.inr rfl);have mv:Mov (Oc (Xn X n) ns) (Oc X (ns.set i (some n))) H H:=.of λm p=>⟨λz=>p.1 (.inl z),λz=>by
  rcases NI z with z |z
  .exact p.2 z
  .cases z;exact p.1 (.inr rfl)⟩
 refine⟨by rw[M4,M4];exact S.l1,by rw[M4,M4];exact S.l2,S.lh,λm z=>S.xl m (.inl z),λj k m q1 q2=>?_,λj m q1 z=>?_,λj s' q1=>?_,S.bs⟩
 .rcases bK hn q1 with ⟨z1,z⟩ |⟨z1,z⟩ <;> rcases bK hn q2 with ⟨y1,y⟩ |⟨y1,y⟩
  .rw[z1,y1]
  .cases z;exact absurd y (nn k)
  .cases y;exact absurd z (nn j)
  .exact S.inj j k m z y
 .rcases bK hn q1 with ⟨_,y⟩ |⟨_,y⟩
  .cases y;exact hx z
  .exact S.nx j m y (.inl z)
 .rcases bK hi q1 with ⟨rfl,rfl⟩ |⟨z,q2⟩
  .rw[du hn,du ha];exact⟨n,o,rfl,rfl,hn0,eo,hf,r.mono mv⟩
  .rw[cK z,cK z];exact (S.sl j s' q2).mono mv λ_ _ _ q _=>q
noncomputable def Sl.pl:Sl->Bool
 |.no=>true
 |.sh _=>true
 |.ow _=>true
 |_=>false
def Stp.put(A:Stp ns0 e0 Hs ns e H)(hi:i<e.length)(hx:∀n,x=some n->Hs n=none)(q0:e[i]?=some s0)(p0:s0.pl=true)(p:s.pl=true)(l2:ns.length=e.length):Stp ns0 e0 Hs (ns.set i x) (e.set i s) H:=by
 have hn:i<ns.length:=by rw[l2];exact hi
 refine⟨A.le,A.dom,A.keep,λj n q=>?_,λj s' q hl=>?_,λj s' q hl=>?_,λj v q=>?_,λj v q=>?_⟩
 .rcases bK hn q with ⟨_,z⟩ |⟨_,z⟩
  .exact .inr (hx n z.symm)
  .exact A.nw j n z
 .obtain⟨q1,q2⟩:=A.lk j s' q hl;have z:j≠i:=λz=>by subst z;rw[q0] at q1;cases q1;cases s0 <;> first |cases p0;done |cases hl;done
  rw[cK z,cK z];exact⟨q1,q2⟩
 .rcases bK hi q with ⟨_,z⟩ |⟨z,q1⟩
  .subst z;cases s' <;> first |cases p;done |cases hl;done
  .rw[cK z];exact A.lk' j s' q1 hl
 .rcases bK hi q with ⟨_,z⟩ |⟨z,q1⟩
  .subst z;cases p
  .rw[cK z];exact A.mu j v q1
 .obtain⟨u,q1,q2⟩:=A.mu' j v q;have z:j≠i:=λz=>by subst z;rw[q0] at q1;cases q1;cases p0
  exact⟨u,by rw[cK z];exact q1,by rw[cK z];exact q2⟩
end
inductive Tm where
 |val (v:Val) |new (v:Val) |bor (i:Nat)
inductive R3(α:Type) where
 |ok (a:α) (e:E3) |exc (c:Str) (e:E3) |stuck
noncomputable def R3.bind {α β:Type} (r:R3 α) (f:α->E3->R3 β):R3 β:=match r with
 |.ok a e=>f a e
 |.exc c e=>.exc c e
 |.stuck=>.stuck
abbrev ME3:=E3->R3 Tm
abbrev MT3:=E3->R3 Bool
abbrev MA3:=E3->R3 (List Tm)
section
variable(K:W.Frag)(mg:Pp)
def PG3{α:Type}(X N0:Addr->Prop)(ns:Ns)(e:E3)(σ:St)(H:Hp)(E:XK)(k:α->E3->Ns->Hp->Prop):R3 α->Prop
 |.ok t e'=>∀H' ns',Stp ns e H ns' e' H'->Sat K mg X N0 ns' e' σ H'->k t e' ns' H'
 |.exc c e'=>∀H' ns' C,Stp ns e H ns' e' H'->Sat K mg X N0 ns' e' σ H'->mg c=some (.ref C)->E (.ref C) none H'
 |.stuck=>False
def relE(X N0 L:Addr->Prop)(σ:St)(ns:Ns)(e:E3)(H:Hp)(d:V):Tm->Prop
 |.val v=>Rd K mg (Oc X ns) H d v
 |.new v=>∃n o,d=.ref n/\L n/\¬ X n/\H n=some o/\NotFz o/\Sat K mg (Xn X n) N0 ns e σ H/\Rc K mg (Oc (Xn X n) ns) H o v
 |.bor i=>σ[i]?=some (some d)
inductive TsR(X:Addr->Prop)(ns:Ns)(σ:St)(H:Hp):List V->List Tm->Prop where
 |nil:TsR X ns σ H [] []
 |val {d:V}{v:Val}{ds:List V}{ts:List Tm} (r:Rd K mg (Oc X ns) H d v) (rr:TsR X ns σ H ds ts):TsR X ns σ H (d::ds) (.val v::ts)
 |bor {d:V}{i:Nat}{ds:List V}{ts:List Tm} (q:σ[i]?=some (some d)) (rr:TsR X ns σ H ds ts):TsR X ns σ H (d::ds) (.bor i::ts)
abbrev KE(X N0 L:Addr->Prop)(σ:St)(Q:VK):Tm->E3->Ns->Hp->Prop:=λt e' ns' H'=>∀v,relE K mg X N0 L σ ns' e' H' v t->Q v H'
abbrev KA(X:Addr->Prop)(σ:St)(Q:List V->Hp->Prop):List Tm->E3->Ns->Hp->Prop:=λts _ ns' H'=>∀vs,TsR K mg X ns' σ H' vs ts->Q vs H'
abbrev KT(Q:Bool->Hp->Prop):Bool->E3->Ns->Hp->Prop:=λb _ _ H'=>Q b H'
def rdE(ES:St->XK)(G:ME3):TE:=λσ H Q=>∃X N0 L ns e,Sat K mg X N0 ns e σ H/\(∀a,H a=none->L a)/\PG3 K mg X N0 ns e σ H (ES σ) (KE K mg X N0 L σ Q) (G e)
def rdT(ES:St->XK)(G:MT3):TT:=λσ H Q=>∃X N0 ns e,Sat K mg X N0 ns e σ H/\PG3 K mg X N0 ns e σ H (ES σ) (KT Q) (G e)
def rdA(ES:St->XK)(G:MA3):TA:=λσ H Q=>∃X N0 ns e,Sat K mg X N0 ns e σ H/\PG3 K mg X N0 ns e σ H (ES σ) (KA K mg X σ Q) (G e)
end
section
variable{K:W.Frag}{mg:Pp}{ES:St->XK}{σ:St}{H:Hp}{Z:Prop}
def rdE.el{G:ME3}(h:rdE K mg ES G σ H Q)(k:∀X N0 L ns e,Sat K mg X N0 ns e σ H->(∀a,H a=none->L a)->PG3 K mg X N0 ns e σ H (ES σ) (KE K mg X N0 L σ Q) (G e)->Z):Z:=by obtain⟨X,N0,L,ns,e,S,hl,p⟩:=h;exact k X N0 L ns e S hl p
def rdT.el{G:MT3}(h:rdT K mg ES G σ H Q)(k:∀X N0 ns e,Sat K mg X N0 ns e σ H->PG3 K mg X N0 ns e σ H (ES σ) (KT Q) (G e)->Z):Z:=by obtain⟨X,N0,ns,e,S,p⟩:=h;exact k X N0 ns e S p
def rdA.el{G:MA3}(h:rdA K mg ES G σ H Q)(k:∀X N0 ns e,Sat K mg X N0 ns e σ H->PG3 K mg X N0 ns e σ H (ES σ) (KA K mg X σ Q) (G e)->Z):Z:=by obtain⟨X,N0,ns,e,S,p⟩:=h;exact k X N0 ns e S p
end
noncomputable def rs (e:E3):Tm->Option Val
 |.val v=>some v
 |.new v=>some v
 |.bor i=>(e[i]?).bind Sl.val
noncomputable def Tm.drop:Tm->Tm
 |.new v=>.val v
 |t=>t
noncomputable def rss (e:E3):List Tm->Option (List Val)
 | []=>some []
 |t::ts=>match rs e t,rss e ts with
  |some v,some vs=>some (v::vs)
  |_,_=>none
section
variable{K:W.Frag}{mg:Pp}{X N0 L:Addr->Prop}{ns ns':Ns}{e e':E3}{σ:St}{H H':Hp}{E:XK}
def PG3.ret{α:Type}{k:α->E3->Ns->Hp->Prop}{t:α}(p:PG3 K mg X N0 ns e σ H E k (.ok t e))(S:Sat K mg X N0 ns e σ H):k t e ns H:=p H ns .refl S
def PG3.after{α:Type}{r:R3 α}{k:α->E3->Ns->Hp->Prop}(p:PG3 K mg X N0 ns e σ H E k r)(S:Sat K mg X N0 ns e σ H)(a:Stp ns e H ns' e' H'):PG3 K mg X N0 ns' e' σ H' E k r:=by
 cases r with
 |stuck=>exact p
 |exc c e2=>exact λH2 h_ C b S2 m=>p H2 h_ C (a.trans S b) S2 m
 |ok t2 e2=>exact λH2 h_ b S2=>p H2 h_ (a.trans S b) S2
def PG3.imp{α β:Type}{r:R3 α}{f:α->E3->R3 β}{k:β->E3->Ns->Hp->Prop}{k':α->E3->Ns->Hp->Prop}(p:PG3 K mg X N0 ns e σ H E k (r.bind f))(S:Sat K mg X N0 ns e σ H)
 (i:∀t e1 ns1 H1,Stp ns e H ns1 e1 H1->Sat K mg X N0 ns1 e1 σ H1->PG3 K mg X N0 ns1 e1 σ H1 E k (f t e1)->k' t e1 ns1 H1):PG3 K mg X N0 ns e σ H E k' r:=by
 cases r with
 |stuck=>exact p
 |exc c e'=>exact p
 |ok t e1=>intro H1 ns1 a S1;exact i t e1 ns1 H1 a S1 (PG3.after (show PG3 K mg X N0 ns e σ H E k (f t e1) from p) S a)
def TsR.stp(a:Stp ns e H ns' e' H')(r:TsR K mg X ns σ H ds ts):TsR K mg X ns' σ H' ds ts:=by
 induction r with
 |nil=>exact .nil
 |val r _ ih=>exact .val (r.mono a.mov) ih
 |bor q _ ih=>exact .bor q ih
def Sat.bor(S:Sat K mg X N0 ns e σ H){i:Nat}{d:V}{v:Val}(q:σ[i]?=some (some d))(r:(e[i]?).bind Sl.val=some v):ShR K mg (Oc X ns) H d v:=by
 cases z:e[i]? with
 |none=>rw[z] at r;cases r
 |
  some s=>
  rw[z] at r;have y:=S.sl i s z;rw[q] at y;have r':s.val=some v:=r;cases s with
  |no=>cases r'
  |sh u=>cases r';obtain⟨_,x,e1,e2⟩:=y;cases e1;exact .inl e2
  |ow u=>cases r';obtain⟨m,o,_,e2,_,e3,_,e4⟩:=y;cases e2;exact .inr ⟨m,o,rfl,e3,e4⟩
  |lo u=>cases r';obtain⟨m,o,_,e2,_,e3,_,e4⟩:=y;cases e2;exact .inr ⟨m,o,rfl,e3,e4⟩
  |mu u=>cases r';obtain⟨m,o,_,e2,e3,_,e4⟩:=y;cases e2;exact .inr ⟨m,o,rfl,e3,e4⟩
  |lm u=>cases r';obtain⟨m,o,_,e2,e3,_,e4⟩:=y;cases e2;exact .inr ⟨m,o,rfl,e3,e4⟩
def relE.new(r:relE K mg X N0 L σ ns e H d (.new v)):Rd K mg (Oc X ns) H d v:=by obtain⟨n,o,rfl,_,hx,eo,_,S,rc⟩:=r;exact .cell ⟨hx,λz=>by obtain⟨i,z⟩:=aY.mp z;exact S.nx i n z (.inr rfl)⟩ eo (rc.mono (.of λm p=>⟨λz=>p.1 (.inl z),p.2⟩))
def relE.sh{d:V}{t:Tm}{v:Val}(S:Sat K mg X N0 ns e σ H)(r:relE K mg X N0 L σ ns e H d t)(q:rs e t=some v):ShR K mg (Oc X ns) H d v:=by
 cases t with
 |val u=>cases q;exact .inl r
 |new u=>cases q;exact .inl r.new
 |bor i=>exact S.bor r q
def relE.drop(r:relE K mg X N0 L σ ns e H d t)(a:Stp ns e H ns' e' H'):relE K mg X N0 L σ ns' e' H' d t.drop:=by
 cases t with
 |val u=>exact Rd.mono a.mov r
 |new u=>exact Rd.mono a.mov r.new
 |bor i=>exact r
def TsR.sh{ds:List V}{ts:List Tm}{vs:List Val}(S:Sat K mg X N0 ns e σ H)(r:TsR K mg X ns σ H ds ts)(q:rss e ts=some vs):ShRs K mg (Oc X ns) H ds vs:=by
 induction r generalizing vs with
 |nil=>cases q;exact .nil
 |
  val r _ ih=>
  unfold rss at q;split at q
  .rename_i e1 e2;cases q;cases e1;exact .cons (.inl r) (ih e2)
  .cases q
 |
  bor q' _ ih=>
  unfold rss at q;split at q
  .rename_i e1 e2;cases q;exact .cons (S.bor q' e1) (ih e2)
  .cases q
end
inductive Bv where
 |val (v:Val) |new (v:Val) |stuck
noncomputable def Bv.at (b:Bv) (e:E3):R3 Tm:=match b with
 |.val v=>.ok (.val v) e
 |.new v=>.ok (.new v) e
 |.stuck=>.stuck
def BvP(K:W.Frag)(mg:Pp)(P:Addr->Prop)(H:Hp)(Q:VK):Bv->Prop
 |.val v=>∀H1 x,Gr H H1->Rd K mg P H1 x v->Q x H1
 |.new v=>∀H1 a o,Gr H H1->H1 a=none->NotFz o->Rc K mg P H1 o v->Q (.ref a) (upd H1 a o)
 |.stuck=>False
section
variable{K:W.Frag}{mg:Pp}{X N0 L:Addr->Prop}{ns:Ns}{e:E3}{σ:St}{H:Hp}{E:XK}{Q:VK}
def PG3.bv(p:PG3 K mg X N0 ns e σ H E (KE K mg X N0 L σ Q) (b.at e))(S:Sat K mg X N0 ns e σ H)(hl:∀a,H a=none->L a):BvP K mg (Oc X ns) H Q b:=by
 cases b with
 |stuck=>exact p
 |val v=>exact λH1 x g r=>p H1 ns (.gr g) (S.gr g) x r
 |
  new v=>
  intro H1 a o g ha hf r;have g2:Gr H (upd H1 a o):=λc u q=>Gr.upd ha c u (g c u q);have S':=S.grow g2 (g.none ha) bo;refine p _ ns (.gr g2) (S.gr g2) _ ⟨a,o,rfl,hl a (g.none ha),λz=>?_,bo,hf,S',r.mono ⟨(Gr.upd ha).le,λc u q z _=>⟨⟨λy=>?_,q.2⟩,Gr.upd ha c u z⟩⟩⟩
  .obtain⟨u,q⟩:=S.xl a z;rw[g.none ha] at q;cases q
  .rcases y with y |rfl
   .exact q.1 y
   .rw[ha] at z;cases z
end
section
variable(K:W.Frag)(mg:Pp)
def UnD(r:V->Hp->VK->Prop)(g:Val->Bv):Prop:=∀P H x v Q,ShR K mg P H x v->BvP K mg P H Q (g v)->r x H Q
def OpD(r:R2)(g:Val->Val->Bv):Prop:=∀P H x y v u Q,ShR K mg P H x v->ShR K mg P H y u->BvP K mg P H Q (g v u)->r x y H Q
def cA(r:List V->Hp->VK->Prop)(g:List Val->Bv):Prop:=∀P H xs vs Q,ShRs K mg P H xs vs->BvP K mg P H Q (g vs)->r xs H Q
end
noncomputable def eL (i:Nat) (e:E3):R3 Tm:=match e[i]? with
 |some (.sh v)=>.ok (.val v) e
 |some .no=>.stuck
 |some _=>.ok (.bor i) e
 |none=>.stuck
noncomputable def vC (v:Val) (e:E3):R3 Tm:=.ok (.val v) e
noncomputable def vUn (g:Val->Bv) (F:ME3) (e:E3):R3 Tm:=(F e).bind λt e1=>match rs e1 t with
 |some v=>(g v).at e1
 |none=>.stuck
noncomputable def vOp (g:Val->Val->Bv) (F G:ME3) (e:E3):R3 Tm:=(F e).bind λt1 e1=>(G e1).bind λt2 e2=>match rs e2 t1.drop,rs e2 t2 with
 |some v1,some v2=>(g v1 v2).at e2
 |_,_=>.stuck
noncomputable def oi (e:E3):R3 (List Tm):=.ok [] e
noncomputable def nI (F:ME3) (A:MA3) (e:E3):R3 (List Tm):=(F e).bind λt e1=>(A e1).bind λts e2=>.ok (t.drop::ts) e2
noncomputable def vFn (g:List Val->Bv) (A:MA3) (e:E3):R3 Tm:=(A e).bind λts e1=>match rss e1 ts with
 |some vs=>(g vs).at e1
 |none=>.stuck
noncomputable def df (e:E3):Tm->Option (E3×Val)
 |.val v=>some (e,v)
 |.new v=>some (e,v)
 |.bor i=>match e[i]? with
  |some (.sh v)=>some (e,v)
  |some (.ow v)=>some (e.set i (.sh v),v)
  |_=>none
noncomputable def dem (e:E3):List Tm->Option (E3×List Val)
 | []=>some (e,[])
 |t::ts=>match df e t with
  |some (e1,v)=>match dem e1 ts with
   |some (e2,vs)=>some (e2,v::vs)
   |none=>none
  |none=>none
noncomputable def vTup (A:MA3) (e:E3):R3 Tm:=(A e).bind λts e1=>match dem e1 ts with
 |some (e2,vs)=>if vs.length<=16777216 then .ok (.val (.tup vs)) e2 else .stuck
 |none=>.stuck
noncomputable def vLst (A:MA3) (e:E3):R3 Tm:=(A e).bind λts e1=>match dem e1 ts with
 |some (e2,vs)=>if vs.length<=16777216 then .ok (.new (.lst vs)) e2 else .stuck
 |none=>.stuck
noncomputable def bOf:Option Val->Option Bool
 |some (.bl b)=>some b
 |_=>none
noncomputable def vAnd (F G:ME3) (e:E3):R3 Tm:=(F e).bind λt e1=>match bOf (rs e1 t) with
 |some true=>G e1
 |some false=>.ok (.val (.bl false)) e1
 |none=>.stuck
noncomputable def vNot (F:ME3) (e:E3):R3 Tm:=(F e).bind λt e1=>match bOf (rs e1 t) with
 |some b=>.ok (.val (.bl (!b))) e1
 |none=>.stuck
noncomputable def vIf (c:MT3) (F G:ME3) (e:E3):R3 Tm:=(c e).bind λb e1=>if b=true then F e1 else G e1
noncomputable def cOf (F:ME3) (e:E3):R3 Bool:=(F e).bind λt e1=>match bOf (rs e1 t) with
 |some b=>.ok b e1
 |none=>.stuck
noncomputable def cAn (c d:MT3) (e:E3):R3 Bool:=(c e).bind λb e1=>if b=true then d e1 else .ok false e1
noncomputable def cO (c d:MT3) (e:E3):R3 Bool:=(c e).bind λb e1=>if b=true then .ok true e1 else d e1
noncomputable def cNo (c:MT3) (e:E3):R3 Bool:=(c e).bind λb e1=>.ok (!b) e1
noncomputable def cY (e:E3):R3 Bool:=.ok true e
noncomputable def lO:Val->Option Bool
 |.non=>some false
 |.bl b=>some b
 |.int i=>some (i != 0)
 |.tup xs=>some (!xs.isEmpty)
 |.lst xs=>some (!xs.isEmpty)
 |.kl xs=>some (!xs.isEmpty)
 |_=>none
noncomputable def cTr (F:ME3) (e:E3):R3 Bool:=(F e).bind λt e1=>match (rs e1 t).bind lO with
 |some b=>.ok b e1
 |none=>.stuck
section
variable{K:W.Frag}{mg:Pp}{X N0 L:Addr->Prop}{ns:Ns}{e:E3}{σ:St}{H:Hp}
def JV(S:Sat K mg X N0 ns e σ H)(q:e[i]?=some (.ow v)):∃n,σ[i]?=some (some (.ref n))/\Sat K mg X N0 (ns.set i none) (e.set i (.sh v)) σ H/\Stp ns e H (ns.set i none) (e.set i (.sh v)) H/\Rd K mg (Oc X (ns.set i none)) H (.ref n) v:=by
 obtain⟨n,o,q1,q2,_,q3,_,q4⟩:=S.sl i _ q;have hi:=(B_.mp q).1;have hn:i<ns.length:=by rw[S.l2];exact hi
 have r:Rd K mg (Oc X (ns.set i none)) H (.ref n) v:=.cell ⟨S.nx i n q1,λz=>by
  obtain⟨j,z⟩:=aY.mp z;rcases bK hn z with ⟨_,y⟩ |⟨y,z⟩
  .cases y
  .exact y (S.inj j i n z q1)⟩ q3 (q4.mono (.of λm p=>fW p))
 exact⟨n,q2,S.putN' hi ⟨rfl,_,q2,r⟩,Stp.refl.put (x:=none) hi (λ_ z=>by cases z) q rfl rfl S.l2,r⟩
def fM{d:V}{t:Tm}{v:Val}{e':E3}(S:Sat K mg X N0 ns e σ H)(r:relE K mg X N0 L σ ns e H d t)(q:df e t=some (e',v)):∃ns',Sat K mg X N0 ns' e' σ H/\Stp ns e H ns' e' H/\Rd K mg (Oc X ns') H d v:=by
 cases t with
 |val u=>cases q;exact⟨ns,S,.refl,r⟩
 |new u=>cases q;exact⟨ns,S,.refl,r.new⟩
 |
  bor i=>
  unfold df at q;dsimp only at q;have r':σ[i]?=some (some d):=r;split at q
  .rename_i u q1;cases q;obtain⟨_,x,e1,e2⟩:=S.sl i _ q1;rw[r'] at e1;cases e1;exact⟨ns,S,.refl,e2⟩
  .rename_i u q1;cases q;obtain⟨n,e1,S',a',e2⟩:=JV S q1;rw[r'] at e1;cases e1;exact⟨_,S',a',e2⟩
  .cases q
def js:∀{ds:List V}{vs:List Val}{ns:Ns}{e e':E3},Sat K mg X N0 ns e σ H->TsR K mg X ns σ H ds ts->dem e ts=some (e',vs)->∃ns',Sat K mg X N0 ns' e' σ H/\Stp ns e H ns' e' H/\Rds K mg (Oc X ns') H ds vs:=by
 induction ts with
 |nil=>intro ds vs ns e e' S r q;cases r;cases q;exact⟨ns,S,.refl,.nil⟩
 |
  cons t ts ih=>
  intro ds vs ns e e' S r q;unfold dem at q;split at q
  .rename_i e1 v q1;split at q
   .rename_i e2 vs' q2;cases q;have hr:∃d ds',ds=d::ds'/\relE K mg X N0 X σ ns e H d t/\TsR K mg X ns σ H ds' ts:=by
     cases r with
     |val r rr=>exact⟨_,_,rfl,r,rr⟩
     |bor r rr=>exact⟨_,_,rfl,r,rr⟩
    obtain⟨d,ds',rfl,hr⟩:=hr;obtain⟨ns1,S1,a1,r1⟩:=fM S hr.1 q1;obtain⟨h_,S2,a2,r2⟩:=ih S1 (hr.2.stp a1) q2;exact⟨h_,S2,a1.trans S a2,.cons (r1.mono a2.mov) r2⟩
   .cases q
  .cases q
end
structure PEx where
 t:Nat
 G:ME3
structure PTs where
 t:Nat
 G:MT3
structure PAs where
 t:Nat
 G:MA3
structure PO2 where
 G:Val->Val->Bv
structure PU1 where
 G:Val->Bv
structure PBf where
 G:List Val->Bv
noncomputable def af (i:Nat):PEx:=⟨1,eL i⟩
noncomputable def ah (i:Int):PEx:=⟨2,vC (.int i)⟩
noncomputable def pBl (i:Bool):PEx:=⟨3,vC (.bl i)⟩
noncomputable def aU (i:Str):PEx:=⟨4,vC (.str i)⟩
noncomputable def kq:PEx:=⟨5,vC .non⟩
noncomputable def pTy (i:String):PEx:=⟨6,vC (.ty i)⟩
noncomputable def dD (i:Str):PEx:=⟨7,vC (.glb i)⟩
noncomputable def m3 (v:Val):PEx:=⟨8,vC v⟩
noncomputable def pUn (o:PU1) (a:PEx):PEx:=⟨9,vUn o.G a.G⟩
noncomputable def pOp (o:PO2) (a b:PEx):PEx:=⟨10,vOp o.G a.G b.G⟩
noncomputable def ag:PAs:=⟨1,oi⟩
noncomputable def aa (a:PEx) (r:PAs):PAs:=⟨2,nI a.G r.G⟩
noncomputable def pFn (o:PBf) (a:PAs):PEx:=⟨11,vFn o.G a.G⟩
noncomputable def bz (a:PAs):PEx:=⟨12,vTup a.G⟩
noncomputable def b8 (a:PAs):PEx:=⟨13,vLst a.G⟩
noncomputable def fA (a b:PEx):PEx:=⟨14,vAnd a.G b.G⟩
noncomputable def sZ (a:PEx):PEx:=⟨16,vNot a.G⟩
noncomputable def pIf (c:PTs) (a b:PEx):PEx:=⟨17,vIf c.G a.G b.G⟩
noncomputable def qOf (a:PEx):PTs:=⟨1,cOf a.G⟩
noncomputable def qTr (a:PEx):PTs:=⟨2,cTr a.G⟩
noncomputable def qAn (a b:PTs):PTs:=⟨3,cAn a.G b.G⟩
noncomputable def qO (a b:PTs):PTs:=⟨4,cO a.G b.G⟩
noncomputable def qNo (a:PTs):PTs:=⟨5,cNo a.G⟩
noncomputable def qY:PTs:=⟨6,cY⟩
section
variable(K:W.Frag)(mg:Pp)(X:Cx)(ES:St->XK)
structure DE(e:Expr)(F:PEx):Prop where
 ok:PE X e (rdE K mg ES F.G)
structure DT(e:Expr)(F:PTs):Prop where
 ok:PT X e (rdT K mg ES F.G)
structure DW(e:Expr)(F:PTs):Prop where
 ok:PW X e (rdT K mg ES F.G)
structure DA(es:List Expr)(F:PAs):Prop where
 ok:PA X es (rdA K mg ES F.G)
end
structure GC(K:W.Frag)(mg:Pp)(x:Str)(d:Val):Prop where
 ex:∃u v,mg x=some u/\RelV v u/\∀P H,Rd K mg P H v d
section
variable{K:W.Frag}{mg:Pp}{X:Cx}{ES:St->XK}{e a b c:Expr}{es:List Expr}{F G p q:PEx}{A:PAs}{t u:PTs}{pos:Pos}{k:PO2}
def zb(i:Nat){x:Str}(hN:X.N[i]?=some x:=by rfl)(hv:Vis X.env.scope x:=by first |exact Or.inl rfl |exact Or.inr (Or.inl rfl) |exact Or.inr (Or.inr rfl))(hd:(x==("__debug__" : Str))=false:=by decide)(k_:(x==("__classdict__" : Str))=false:=by decide):DE K mg X ES (.Name x pos) (af i):=
 ⟨PE.imp (F9 hN hv hd k_) λσ H Q zz=>zz.el λY N0 L ns e S hl p=>by
  have p:PG3 K mg Y N0 ns e σ H (ES σ) (KE K mg Y N0 L σ Q) (eL i e):=p;unfold eL at p;split at p
  .rename_i v q;obtain⟨_,x,e1,r⟩:=S.sl i _ q;exact⟨x,e1,p.ret S x r⟩
  .exact p.elim
  .rename_i s h1 h2 q;have y:=S.sl i s q;have:∃x,σ[i]?=some (some x):=by
    cases s with
    |no=>exact absurd rfl h2
    |sh v=>exact absurd rfl (h1 v)
    |ow v=>obtain⟨m,_,_,y,_⟩:=y;exact⟨_,y⟩
    |lo v=>obtain⟨m,_,_,y,_⟩:=y;exact⟨_,y⟩
    |mu v=>obtain⟨m,_,_,y,_⟩:=y;exact⟨_,y⟩
    |lm v=>obtain⟨m,_,_,y,_⟩:=y;exact⟨_,y⟩
   obtain⟨x,e1⟩:=this;exact⟨x,e1,p.ret S x e1⟩
  .exact p.elim⟩
def l9{v:V}{d:Val}{tg:Nat}(hp:PE X e (tC v))(r:∀P H,Rd K mg P H v d):DE K mg X ES e ⟨tg,vC d⟩:=⟨PE.imp hp λσ H Q zz=>zz.el λY N0 L ns e S hl p=>PG3.ret p S v (r _ _)⟩
def Ih:DE K mg X ES (.Constant (.int i) j pos) (ah i):=l9 HN λ_ _=>.int i
def Kn:DE K mg X ES (.Constant (.bool i) j pos) (pBl i):=l9 MD λ_ _=>.bl i
def Gu:DE K mg X ES (.Constant .none j pos) kq:=l9 G8 λ_ _=>.non
def Ge:DE K mg X ES (.Constant (.str x) j pos) (aU x):=l9 GY λ_ _=>.str x
def Ib{x:Str}(hg:Gl X x)(ha:∃a,mg x=some (.ref a))(hm:X.mg=mg:=by rfl)(hd:(x==("__debug__" : Str))=false:=by decide):DE K mg X ES (.Name x pos) (dD x):=by subst hm;obtain⟨a,ha⟩:=ha;exact l9 (vU hg ha (v:=.ref a) rfl hd) λ_ _=>.glb ha
def K8{x:Str}{d:Val}(hg:Gl X x)(ha:GC K mg x d)(hm:X.mg=mg:=by rfl)(hd:(x==("__debug__" : Str))=false:=by decide):DE K mg X ES (.Name x pos) (m3 d):=by subst hm;obtain⟨u,v,h1,h2,h3⟩:=ha.ex;exact l9 (vU hg h1 h2 hd) h3
def Ml{x:Str}{n:String}(hg:Gl X x)(hm:mg x=none)(hv:bootBuiltins x=some (.type n))(he:X.mg=mg:=by rfl)(hn:x ≠ "__name__":=by decide)(hd:(x==("__debug__" : Str))=false:=by decide):DE K mg X ES (.Name x pos) (pTy n):=by subst he;exact l9 (Fs hg hm hv (v:=.ty n) rfl hn hd) λ_ _=>.ty n
def qz(hd:OpD K mg r k.G)(σ:St)(H:Hp)(Q:VK):rdE K mg ES (pOp k F G).G σ H Q->tOp r (rdE K mg ES F.G) (rdE K mg ES G.G) σ H Q:=λzz=>zz.el λY N0 L ns e S hl p=>
 ⟨Y,
  N0,L,ns,e,S,hl,PG3.imp p S λt1 e1 ns1 H1 a1 S1 p1 x r1=>⟨Y,N0,L,ns1,e1,S1,λa z=>hl a (a1.dom a z),PG3.imp p1 S1 λt2 e2 h_ H2 a2 S2 p2 y r2=>by
  try dsimp only at p2
  split at p2
  .rename_i v u q1 q2;exact hd _ _ _ _ _ _ _ ((r1.drop a2).sh S2 q1) (r2.sh S2 q2) (p2.bv S2 λa z=>hl a (a1.dom a (a2.dom a z)))
  .exact p2.elim⟩⟩
def LR(ho:OpR X (binaryOp op) r)(hd:OpD K mg r k.G)(ha:DE K mg X ES a p)(hb:DE K mg X ES b q):DE K mg X ES (.BinOp a op b pos) (pOp k p q):=⟨PE.imp (K2 ho ha.ok hb.ok) (qz hd)⟩
def Ly(hr:IxR X r)(hd:OpD K mg r k.G)(ha:DE K mg X ES a p)(hb:DE K mg X ES b q)(hs:vZ b:=by exact λ_ _=>rfl):DE K mg X ES (.Subscript a b pos) (pOp k p q):=⟨PE.imp (Kk hr ha.ok hb.ok hs) (qz hd)⟩
def Il(ho:OpR X (compareOp op) r)(hd:OpD K mg r k.G)(ha:DE K mg X ES a p)(hb:DE K mg X ES b q)(hm:behindInMarks op b=false:=by first |exact zB _ |with_unfolding_all rfl):DE K mg X ES (.Compare a [op] [b] pos) (pOp k p q):=⟨PE.imp (Fu ho ha.ok hb.ok hm) (qz hd)⟩
def nB{Y N0 L:Addr->Prop}{b:Bool}(S1:Sat K mg Y N0 ns1 e1 σ H1)(r1:relE K mg Y N0 L σ ns1 e1 H1 d1 t1)(q:bOf (rs e1 t1)=some b):d1=.bl b:=by
 unfold bOf at q;split at q
 .rename_i b' q';cases q;exact (r1.sh S1 q').bl
 .cases q
def vV(σ:St)(H:Hp)(Q:Bool->Hp->Prop):rdT K mg ES (qOf F).G σ H Q->rdE K mg ES F.G σ H λx H'=>∃k,x=.bl k/\Q k H':=λzz=>zz.el λY N0 ns e S p=>
 ⟨Y,
  N0,λ_=>True,ns,e,S,λ_ _=>trivial,PG3.imp p S λt1 e1 ns1 H1 a1 S1 p1 x r1=>by
  try dsimp only at p1
  split at p1
  .rename_i b q;exact⟨b,nB S1 r1 q,p1.ret S1⟩
  .exact p1.elim⟩
def Ik(ho:OpR X (compareOp op) r)(hd:OpD K mg r k.G)(ha:DE K mg X ES a p)(hb:DE K mg X ES b q)(hm:behindInMarks op b=false:=by first |exact zB _ |with_unfolding_all rfl):DT K mg X ES (.Compare a [op] [b] pos) (qOf (pOp k p q)):=
 ⟨PT.imp (Fd ho ha.ok hb.ok hm) λσ H Q z=>qz hd σ H _ (vV σ H Q z)⟩
def rX(ha:DE K mg X ES a p)(he:∀e_,isTrue a X.env e_=(do let v <- e_;standAt a.pos;holding [v] (truthy v)):=by intro _;rfl):DT K mg X ES a (qOf p):=⟨PT.imp (GQ ha.ok he) λσ H Q z=>vV σ H Q z⟩
def rQ(ha:DT K mg X ES a t):DT K mg X ES (.UnaryOp .Not a pos) (qNo t):=⟨PT.imp (GG ha.ok) λσ H Q zz=>zz.el λY N0 ns e S p=>⟨Y,N0,ns,e,S,PG3.imp p S λb e1 ns1 H1 a1 S1 p1=>p1.ret S1⟩⟩
def EJ(ha:DT K mg X ES a t):DW K mg X ES (.BoolOp .And [a] pos) t:=⟨E9 ha.ok⟩
def HH(ha:DT K mg X ES a t):DW K mg X ES (.BoolOp .Or [a] pos) t:=⟨Ho ha.ok⟩
def He(ha:DT K mg X ES a t)(hb:DW K mg X ES (.BoolOp .And (b::es) pos) u):DW K mg X ES (.BoolOp .And (a::b::es) pos) (qAn t u):=⟨PW.imp (Gf ha.ok hb.ok) λσ H Q zz=>zz.el λY N0 ns e S p=>
 ⟨Y,N0,ns,e,S,PG3.imp p S λb e1 ns1 H1 a1 S1 p1=>by
  cases b with
  |true=>exact⟨Y,N0,ns1,e1,S1,p1⟩
  |false=>exact p1.ret S1⟩⟩
def Ke(ha:DT K mg X ES a t)(hb:DW K mg X ES (.BoolOp .Or (b::es) pos) u):DW K mg X ES (.BoolOp .Or (a::b::es) pos) (qO t u):=⟨PW.imp (LD ha.ok hb.ok) λσ H Q zz=>zz.el λY N0 ns e S p=>
 ⟨Y,N0,ns,e,S,PG3.imp p S λb e1 ns1 H1 a1 S1 p1=>by
  cases b with
  |true=>exact p1.ret S1
  |false=>exact⟨Y,N0,ns1,e1,S1,p1⟩⟩⟩
def ZW.dt(h:DW K mg X ES a t):DT K mg X ES a t:=⟨h.ok.pt⟩
def zt_w{op}(h:DW K mg X ES (.BoolOp op es pos) t):DT K mg X ES (.BoolOp op es pos) t:=ZW.dt h
def JN{op}(h:DE K mg X ES a p):DE K mg X ES (.BoolOp op [a] pos) p:=⟨Jm h.ok⟩
def JD(ha:DE K mg X ES a p)(hb:DE K mg X ES (.BoolOp .And (b::es) pos) q):DE K mg X ES (.BoolOp .And (a::b::es) pos) (fA p q):=⟨PE.imp (Iq ha.ok hb.ok) λσ H Q zz=>zz.el λY N0 L ns e S hl p=>
 ⟨Y,N0,L,ns,e,S,hl,PG3.imp p S λt e1 ns1 H1 a1 S1 p1 x r1=>by
  try dsimp only at p1
  split at p1
  .rename_i z;exact⟨true,nB S1 r1 z,Y,N0,L,ns1,e1,S1,λa z=>hl a (a1.dom a z),p1⟩
  .rename_i z;exact⟨false,nB S1 r1 z,p1.ret S1 _ (.bl false)⟩
  .exact p1.elim⟩⟩
def HW(ha:DE K mg X ES a p):DE K mg X ES (.UnaryOp .Not a pos) (sZ p):=⟨PE.imp (GX ha.ok) λσ H Q zz=>zz.el λY N0 L ns e S hl p=>
 ⟨Y,N0,L,ns,e,S,hl,PG3.imp p S λt e1 ns1 H1 a1 S1 p1 x r1=>by
  try dsimp only at p1
  split at p1
  .rename_i z;exact⟨_,nB S1 r1 z,p1.ret S1 _ (.bl _)⟩
  .exact p1.elim⟩⟩
def Mo(hc:DT K mg X ES c t)(ha:DE K mg X ES a p)(hb:DE K mg X ES b q):DE K mg X ES (.IfExp c a b pos) (pIf t p q):=⟨PE.imp (Cv hc.ok ha.ok hb.ok) λσ H Q zz=>zz.el λY N0 L ns e S hl p=>
 ⟨Y,N0,ns,e,S,PG3.imp p S λb e1 ns1 H1 a1 S1 p1=>by
  cases b with
  |true=>exact⟨Y,N0,L,ns1,e1,S1,λa z=>hl a (a1.dom a z),p1⟩
  |false=>exact⟨Y,N0,L,ns1,e1,S1,λa z=>hl a (a1.dom a z),p1⟩⟩⟩
def KQ{k:PU1}(ho:UnR X (unaryOp op) r)(hd:UnD K mg r k.G)(ha:DE K mg X ES a p):DE K mg X ES (.UnaryOp op a pos) (pUn k p):=⟨PE.imp (L8 ho ha.ok) λσ H Q zz=>zz.el λY N0 L ns e S hl p=>
 ⟨Y,N0,L,ns,e,S,hl,PG3.imp p S λt e1 ns1 H1 a1 S1 p1 x r1=>by
  try dsimp only at p1
  split at p1
  .rename_i v z;exact hd _ _ _ _ _ (r1.sh S1 z) (p1.bv S1 λa z=>hl a (a1.dom a z))
  .exact p1.elim⟩⟩
def yf:DA K mg X ES [] ag:=⟨PA.imp J2 λσ H Q zz=>zz.el λY N0 ns e S p=>PG3.ret p S _ .nil⟩
def bD(ha:DE K mg X ES e p)(hr:DA K mg X ES es A)(hs:starEach (e::es) X.env=(false,eval e X.env)::starEach es X.env:=by rfl):DA K mg X ES (e::es) (aa p A):=⟨PA.imp (E4 ha.ok hr.ok hs) λσ H Q zz=>zz.el λY N0 ns e S p=>
 ⟨Y,N0,λ_=>True,ns,e,S,λ_ _=>trivial,PG3.imp p S λt e1 ns1 H1 a1 S1 p1 x r1=>⟨Y,N0,ns1,e1,S1,PG3.imp p1 S1 λts e2 h_ H2 a2 S2 p2 xs r2=>p2.ret S2 _ (by
  have r3:=r1.drop a2;generalize hg:t.drop=t' at *;cases t' with
  |val v=>exact .val r3 r2
  |new v=>cases t <;> cases hg
  |bor i=>exact .bor r3 r2)⟩⟩⟩
def GN{x1}(h:DA K mg X ES es A):DE K mg X ES (.Tuple es x1 pos) (bz A):=⟨PE.imp (Jn h.ok) λσ H Q zz=>zz.el λY N0 L ns e S hl p=>
 ⟨Y,
  N0,ns,e,S,PG3.imp p S λts e1 ns1 H1 a1 S1 p1 xs r1=>by
  try dsimp only at p1
  split at p1
  .rename_i e2 vs q;split at p1
   .rename_i hv;obtain⟨h_,S2,a2,r2⟩:=js S1 r1 q;exact⟨by rw[r2.len];exact hv,λp hp=>p1 _ h_ (a2.trans S1 (.gr (Gr.upd hp))) (S2.gr (Gr.upd hp)) _ (.tup (SqT.of bo) (r2.mono (Gr.upd hp).mov))⟩
   .exact p1.elim
  .exact p1.elim⟩⟩
def Jy(h:DA K mg X ES es A):DE K mg X ES (.List es pos) (b8 A):=⟨PE.imp (Io h.ok) λσ H Q zz=>zz.el λY N0 L ns e S hl p=>
 ⟨Y,
  N0,ns,e,S,PG3.imp p S λts e1 ns1 H1 a1 S1 p1 xs r1=>by
  try dsimp only at p1
  split at p1
  .rename_i e2 vs q;split at p1
   .rename_i hv;obtain⟨h_,S2,a2,r2⟩:=js S1 r1 q;refine⟨by rw[r2.len];exact hv,λp hp=>PG3.bv (b:=.new (.lst vs)) (e:=e2) (X:=Y) (N0:=N0) (L:=L) (E:=ES σ) (λH' ns' a' S'=>p1 H' ns' (a2.trans S1 a') S') S2 (λa z=>hl a (a1.dom a z)) H1 p _ .refl hp trivial (.lst r2)⟩
   .exact p1.elim
  .exact p1.elim⟩⟩
def ni{g:PBf}(hd:cA K mg r g.G)(σ:St)(H:Hp)(Q:VK):rdE K mg ES (pFn g A).G σ H Q->tCB r (rdA K mg ES A.G) σ H Q:=λzz=>zz.el λY N0 L ns e S hl p=>
 ⟨Y,
  N0,ns,e,S,PG3.imp p S λts e1 ns1 H1 a1 S1 p1 xs r1=>by
  try dsimp only at p1
  split at p1
  .rename_i vs q;exact hd _ _ _ _ _ (r1.sh S1 q) (p1.bv S1 λa z=>hl a (a1.dom a z))
  .exact p1.elim⟩
def hU{id:String}{r:List V->Hp->VK->Prop}{k:PBf}{x:Str}{p0:Pos}(hc:CallR X (.builtin id) r)(hd:cA K mg r k.G)(hg:Gl X x)(hm:mg x=none)(hv:bootBuiltins x=some (.builtin id))(ha:DA K mg X ES (e::es) A)(hk:X.mg=mg:=by rfl)(hn:x ≠ "__name__":=by decide)(hdb:(x==("__debug__" : Str))=false:=by decide)
 (he:starEach (e::es) X.env=(false,eval e X.env)::starEach es X.env:=by rfl) (hpl:(backTo pos (starEach es X.env)).any (·.1)=false:=by rfl):DE K mg X ES (.Call (.Name x p0) (e::es) [] pos) (pFn k A):=by
 subst hk;exact⟨PE.imp (BJ hc hg hm hv ha.ok hn hdb he hpl) (ni hd)⟩
def zE{id:String}{r:List V->Hp->VK->Prop}{k:PBf}{x:Str}{p0:Pos}(hc:CallR X (.type id) r)(hd:cA K mg r k.G)(hg:Gl X x)(hm:mg x=none)(hv:bootBuiltins x=some (.type id))(ha:DA K mg X ES (e::es) A)(hk:X.mg=mg:=by rfl)(hn:x ≠ "__name__":=by decide)(hdb:(x==("__debug__" : Str))=false:=by decide)
 (he:starEach (e::es) X.env=(false,eval e X.env)::starEach es X.env:=by rfl) (hpl:(backTo pos (starEach es X.env)).any (·.1)=false:=by rfl):DE K mg X ES (.Call (.Name x p0) (e::es) [] pos) (pFn k A):=by
 subst hk;exact⟨PE.imp (ye hc hg hm hv ha.ok hn hdb he hpl) (ni hd)⟩
end
inductive Rt where
 |val (v:Val) |new (v:Val) |par (i:Nat) |pr (v u:Val)
inductive SR3 where
 |nx (e:E3) |rt (r:Rt) (e:E3) |bk (e:E3) |ct (e:E3) |exc (c:Str) (e:E3) |stuck
abbrev MS3:=E3->SR3
section
variable(K:W.Frag)(mg:Pp)
def RtR(X N0:Addr->Prop)(ns:Ns)(e:E3)(σ:St)(H:Hp)(d:V):Rt->Prop
 |.val v=>Sat K mg X N0 ns e σ H/\Rd K mg (Oc X ns) H d v
 |.new v=>∃n o,d=.ref n/\N0 n/\¬ X n/\H n=some o/\NotFz o/\Sat K mg (Xn X n) N0 ns e σ H/\Rc K mg (Oc (Xn X n) ns) H o v
 |.par i=>Sat K mg X N0 ns e σ H/\σ[i]?=some (some d)/\∃v,e[i]?=some (.mu v)
 |.pr v u=>∃p d1 n o,d=.ref p/\SqT K H p [d1,.ref n]/\N0 n/\¬ X n/\H n=some o/\NotFz o/\Sat K mg (Xn X n) N0 ns e σ H/\Rd K mg (Oc (Xn X n) ns) H d1 v/\Rc K mg (Oc (Xn X n) ns) H o u
def PS3(X N0:Addr->Prop)(ns:Ns)(e:E3)(H:Hp)(D:Ends)(ES:St->XK):SR3->Prop
 |.nx e'=>∀H' σ' ns',Stp ns e H ns' e' H'->Sat K mg X N0 ns' e' σ' H'->D.nx σ' H'
 |.bk e'=>∀H' σ' ns',Stp ns e H ns' e' H'->Sat K mg X N0 ns' e' σ' H'->D.bk σ' H'
 |.ct e'=>∀H' σ' ns',Stp ns e H ns' e' H'->Sat K mg X N0 ns' e' σ' H'->D.ct σ' H'
 |.rt r e'=>∀H' σ' ns' x,Stp ns e H ns' e' H'->RtR K mg X N0 ns' e' σ' H' x r->D.rt x H'
 |.exc c e'=>∀H' σ' ns' C,Stp ns e H ns' e' H'->Sat K mg X N0 ns' e' σ' H'->mg c=some (.ref C)->ES σ' (.ref C) none H'
 |.stuck=>False
def rdS(ES:St->XK)(G:MS3):TS:=λD σ H=>∃X N0 ns e,Sat K mg X N0 ns e σ H/\PS3 K mg X N0 ns e H D ES (G e)
end
def rdS.el{K:W.Frag}{mg:Pp}{ES:St->XK}{σ:St}{H:Hp}{Z:Prop}{G:MS3}{D:Ends}(h:rdS K mg ES G D σ H)(k:∀X N0 ns e,Sat K mg X N0 ns e σ H->PS3 K mg X N0 ns e H D ES (G e)->Z):Z:=by obtain⟨X,N0,ns,e,S,p⟩:=h;exact k X N0 ns e S p
noncomputable def R3.toS {α:Type} (r:R3 α) (f:α->E3->SR3):SR3:=match r with
 |.ok a e=>f a e
 |.exc c e=>.exc c e
 |.stuck=>.stuck
noncomputable def SR3.then (r:SR3) (f:E3->SR3):SR3:=match r with
 |.nx e=>f e
 |r=>r
noncomputable def wSeq (F G:MS3) (e:E3):SR3:=(F e).then G
noncomputable def wIf (c:MT3) (F G:MS3) (e:E3):SR3:=(c e).toS λb e1=>if b=true then F e1 else G e1
noncomputable def n6 (t:Tm) (e:E3):SR3:=match t with
 |.val v=>.rt (.val v) e
 |.new v=>.rt (.new v) e
 |.bor i=>match e[i]? with
  |some (.sh v)=>.rt (.val v) e
  |some (.ow v)=>.rt (.new v) (e.set i .no)
  |some (.mu _)=>.rt (.par i) e
  |_=>.stuck
noncomputable def jK (o:Bool) (i:Nat) (t:Tm) (e:E3):SR3:=match e[i]? with
 |some s0=>if s0.pl=true then (match t with
  |.val v=>.nx (e.set i (.sh v))
  |.new v=>.nx (e.set i (if o=true then .ow v else .sh v))
  |.bor j=>match df e (.bor j) with
   |some (e2,v)=>.nx (e2.set i (.sh v))
   |none=>.stuck) else .stuck
 |none=>.stuck
abbrev MG3:=Val->E3->Option E3
abbrev kA:=List Val->E3->Option E3
noncomputable def pN (i:Nat):MG3:=λv e=>match e[i]? with
 |some s=>if s.pl=true then some (e.set i (.sh v)) else none
 |none=>none
noncomputable def psN:kA:=λvs e=>match vs with
 | []=>some e
 |_=>none
noncomputable def psC (g:MG3) (u:kA):kA:=λvs e=>match vs with
 |v::r=>(g v e).bind λe1=>u r e1
 | []=>none
noncomputable def pT (n:Nat) (u:kA):MG3:=λv e=>match v with
 |.tup vs=>if vs.length=n then u vs e else none
 |_=>none
noncomputable def Mv (F:ME3) (g:MG3) (e:E3):SR3:=(F e).toS λt e1=>match df e1 t with
 |some (e2,v)=>match g v e2 with
  |some e3=>.nx e3
  |none=>.stuck
 |none=>.stuck
noncomputable def wPar (i j:Nat) (A:MA3) (e:E3):SR3:=(A e).toS λts e1=>match dem e1 ts with
 |some (e2,[v,u])=>match (pN i v e2).bind (pN j u) with
  |some e3=>.nx e3
  |none=>.stuck
 |_=>.stuck
noncomputable def AL (i:Nat) (g:Val->Val->Bv) (F:ME3) (e:E3):SR3:=match e[i]? with
 |some (.sh x)=>(F e).toS λt e1=>match rs e1 t with
  |some y=>match g x y with
   |.val z=>match pN i z e1 with
    |some e2=>.nx e2
    |none=>.stuck
   |_=>.stuck
  |none=>.stuck
 |_=>.stuck
noncomputable def Ie (c:Str) (A:MA3) (e:E3):SR3:=(A e).toS λts e1=>if ts.length<=16777216 then .exc c e1 else .stuck
structure PSt where
 t:Nat
 G:MS3
structure PGt where
 t:Nat
 G:MG3
structure PGs where
 t:Nat
 G:kA
noncomputable def xNx:PSt:=⟨1,.nx⟩
noncomputable def xBk:PSt:=⟨2,.bk⟩
noncomputable def xu:PSt:=⟨4,.rt (.val .non)⟩
noncomputable def ak (a:PEx):PSt:=⟨5,λe=>(a.G e).toS n6⟩
noncomputable def aP (a:PEx):PSt:=⟨6,λe=>(a.G e).toS λ_ e1=>.nx e1⟩
noncomputable def aj (a b:PSt):PSt:=⟨7,wSeq a.G b.G⟩
noncomputable def xIf (c:PTs) (a b:PSt):PSt:=⟨8,wIf c.G a.G b.G⟩
noncomputable def ay (o:Bool) (i:Nat) (a:PEx):PSt:=⟨9,λe=>(a.G e).toS (jK o i)⟩
noncomputable def gtN (i:Nat):PGt:=⟨1,pN i⟩
noncomputable def eM:PGs:=⟨1,psN⟩
noncomputable def br (a:PGt) (b:PGs):PGs:=⟨2,psC a.G b.G⟩
noncomputable def gtT (n:Nat) (a:PGs):PGt:=⟨2,pT n a.G⟩
noncomputable def lg (a:PEx) (g:PGt):PSt:=⟨10,Mv a.G g.G⟩
noncomputable def gm (i j:Nat) (a:PAs):PSt:=⟨11,wPar i j a.G⟩
noncomputable def tE (i:Nat) (o:PO2) (a:PEx):PSt:=⟨12,AL i o.G a.G⟩
noncomputable def eP (c:Str) (a:PAs):PSt:=⟨13,Ie c a.G⟩
noncomputable def xNo:PSt:=⟨14,λ_=>.stuck⟩
section
variable{K:W.Frag}{mg:Pp}{X N0:Addr->Prop}{ns ns1:Ns}{e e1:E3}{σ:St}{H H1:Hp}{De:Ends}{ES:St->XK}
def PS3.after(p:PS3 K mg X N0 ns e H De ES r)(S:Sat K mg X N0 ns e σ H)(a:Stp ns e H ns1 e1 H1):PS3 K mg X N0 ns1 e1 H1 De ES r:=by
 cases r with
 |stuck=>exact p
 |nx e'=>exact λH' σ' ns' b S'=>p H' σ' ns' (a.trans S b) S'
 |bk e'=>exact λH' σ' ns' b S'=>p H' σ' ns' (a.trans S b) S'
 |ct e'=>exact λH' σ' ns' b S'=>p H' σ' ns' (a.trans S b) S'
 |exc c e'=>exact λH' σ' ns' C b S'=>p H' σ' ns' C (a.trans S b) S'
 |rt r e'=>exact λH' σ' ns' x b S'=>p H' σ' ns' x (a.trans S b) S'
def PS3.toS{α:Type}{r:R3 α}{f:α->E3->SR3}{k:α->E3->Ns->Hp->Prop}(p:PS3 K mg X N0 ns e H De ES (r.toS f))(S:Sat K mg X N0 ns e σ H)
 (i:∀t e1 ns1 H1,Stp ns e H ns1 e1 H1->Sat K mg X N0 ns1 e1 σ H1->PS3 K mg X N0 ns e H De ES (f t e1)->k t e1 ns1 H1):PG3 K mg X N0 ns e σ H (ES σ) k r:=by
 cases r with
 |stuck=>exact p
 |exc c e'=>exact λH' ns' C a S' m=>p H' σ ns' C a S' m
 |ok t e'=>exact λH' ns' a S'=>i t e' ns' H' a S' p
def PS3.then{r:SR3}{f:E3->SR3}{N:St->Hp->Prop}(p:PS3 K mg X N0 ns e H De ES (r.then f))(S:Sat K mg X N0 ns e σ H)
 (i:∀e1 ns1 σ1 H1,Stp ns e H ns1 e1 H1->Sat K mg X N0 ns1 e1 σ1 H1->PS3 K mg X N0 ns1 e1 H1 De ES (f e1)->N σ1 H1):PS3 K mg X N0 ns e H { De with nx:=N } ES r:=by
 cases r with
 |nx e'=>exact λH' σ' ns' a S'=>i e' ns' σ' H' a S' (PS3.after p S a)
 |stuck=>exact p
 |bk e'=>exact p
 |ct e'=>exact p
 |exc c e'=>exact p
 |rt r e'=>exact p
def PS3.nx(p:PS3 K mg X N0 ns e H De ES (.nx e))(S:Sat K mg X N0 ns e σ H):De.nx σ H:=p H σ ns .refl S
def nO{d:V}{v:Val}{e':E3}(S:Sat K mg X N0 ns e σ H)(r:Rd K mg (Oc X ns) H d v)(q:pN i v e=some e'):Sat K mg X N0 (ns.set i none) e' (σ.set i (some d)) H/\Stp ns e H (ns.set i none) e' H:=by
 unfold pN at q;split at q
 .rename_i s q0;split at q
  .rename_i p0;cases q;have hi:=(B_.mp q0).1;exact⟨S.putN hi ⟨rfl,d,rfl,Rd.mono (.of λm p=>fW p) r⟩,Stp.refl.put (x:=none) (s:=.sh v) hi (λ_ z=>by cases z) q0 p0 rfl S.l2⟩
  .cases q
 .cases q
end
section
variable(K:W.Frag)(mg:Pp)(X:Cx)(ES:St->XK)
structure DS(st:Stmt)(F:PSt):Prop where
 ok:PS X st (rdS K mg ES F.G)
structure DSs(st:List Stmt)(F:PSt):Prop where
 ok:PSs X st (rdS K mg ES F.G)
def rdG(g:MG3):TG:=λv σ H Q=>∃Y N0 ns e u e',Sat K mg Y N0 ns e σ H/\Rd K mg (Oc Y ns) H v u/\g u e=some e'/\∀σ' ns',Stp ns e H ns' e' H->Sat K mg Y N0 ns' e' σ' H->Q σ' H
def rdGs(g:kA):TGs:=λvs σ H Q=>∃Y N0 ns e us e',Sat K mg Y N0 ns e σ H/\Rds K mg (Oc Y ns) H vs us/\g us e=some e'/\∀σ' ns',Stp ns e H ns' e' H->Sat K mg Y N0 ns' e' σ' H->Q σ' H
def rdG.el{K:W.Frag}{mg:Pp}{g:MG3}(h:rdG K mg g v σ H Q){Z:Prop}(k:∀Y N0 ns e u e',Sat K mg Y N0 ns e σ H->Rd K mg (Oc Y ns) H v u->g u e=some e'->(∀σ' ns',Stp ns e H ns' e' H->Sat K mg Y N0 ns' e' σ' H->Q σ' H)->Z):Z:=by obtain⟨Y,N0,ns,e,u,e',S,r,q,p⟩:=h;exact k Y N0 ns e u e' S r q p
def rdGs.el{K:W.Frag}{mg:Pp}{g:kA}(h:rdGs K mg g v σ H Q){Z:Prop}(k:∀Y N0 ns e us e',Sat K mg Y N0 ns e σ H->Rds K mg (Oc Y ns) H v us->g us e=some e'->(∀σ' ns',Stp ns e H ns' e' H->Sat K mg Y N0 ns' e' σ' H->Q σ' H)->Z):Z:=by obtain⟨Y,N0,ns,e,u,e',S,r,q,p⟩:=h;exact k Y N0 ns e u e' S r q p
structure DG(e:Expr)(g:PGt):Prop where
 ok:PG X e (rdG K mg g.G)
structure DGs(es:List Expr)(g:PGs):Prop where
 ok:L2.PGs X es (rdGs K mg g.G)
def iC:Prop:=∀(pins:Pq) (σ:St) (H:Hp) (s:Shared) (e:Value) (s':Shared),Inv X pins σ H s->CX1 X.prog X.w X.stack H s (ES σ) e s'->X.xe e s'
end
section
variable{K:W.Frag}{mg:Pp}{X:Cx}{ES:St->XK}{e a b c o i:Expr}{es:List Expr}{st:Stmt}{sts sts':List Stmt}{p q:PEx}{A:PAs}{t:PTs}{x y:PSt}{g:PGt}{gs:PGs}{pos:Pos}
def F3:DSs K mg X ES [] xNx:=⟨PSs.imp EE λD σ H zz=>zz.el λY N0 ns e S p=>PS3.nx p S⟩
def cE(h1:DS K mg X ES st x):DSs K mg X ES [st] x:=⟨En h1.ok⟩
def az(h1:DS K mg X ES st x)(h2:DSs K mg X ES sts y):DSs K mg X ES (st::sts) (aj x y):=⟨PSs.imp (Bh h1.ok h2.ok) λD σ H zz=>zz.el λY N0 ns e S p=>
 ⟨Y,N0,ns,e,S,PS3.then p S λe1 ns1 σ1 H1 a1 S1 p1=>⟨Y,N0,ns1,e1,S1,p1⟩⟩⟩
def An:DS K mg X ES (.Break pos) xBk:=⟨PS.imp C0 λD σ H zz=>zz.el λY N0 ns e S p=>p H σ ns .refl S⟩
def D9:DS K mg X ES (.Return none pos) xu:=⟨PS.imp Ea λD σ H zz=>zz.el λY N0 ns e S p=>p H σ ns _ .refl ⟨S,.non⟩⟩
def oV(he:DE K mg X ES e p)(hs:swapsWith e none pos.line X.env=pure false:=by rfl):DS K mg X ES (.Expr e pos) (aP p):=⟨PS.imp (FN he.ok hs) λD σ H zz=>zz.el λY N0 ns e S p=>
 ⟨Y,N0,λ_=>True,ns,e,S,λ_ _=>trivial,PS3.toS p S λt e1 ns1 H1 a1 S1 p1 x r1=>p1 H1 σ ns1 a1 S1⟩⟩
def nT(hc:DT K mg X ES c t)(ha:DSs K mg X ES sts x)(hb:DSs K mg X ES sts' y):DS K mg X ES (.If c sts sts' pos) (xIf t x y):=⟨PS.imp (Lf hc.ok ha.ok hb.ok) λD σ H zz=>zz.el λY N0 ns e S p=>
 ⟨Y,N0,ns,e,S,PS3.toS p S λb e1 ns1 H1 a1 S1 p1=>by
  cases b with
  |true=>exact⟨Y,N0,ns1,e1,S1,PS3.after p1 S a1⟩
  |false=>exact⟨Y,N0,ns1,e1,S1,PS3.after p1 S a1⟩⟩⟩
def eR(he:DE K mg X ES e p):DS K mg X ES (.Return (some e) pos) (ak p):=⟨PS.imp (HY he.ok) λD σ H zz=>zz.el λY N0 ns e S p=>
 ⟨Y,
  N0,N0,ns,e,S,S.lh,PS3.toS p S λt e1 ns1 H1 a1 S1 p1 x r1=>by
  cases t with
  |val v=>exact p1 H1 σ ns1 x a1 ⟨S1,r1⟩
  |new v=>exact p1 H1 σ ns1 x a1 r1
  |
   bor i=>
   have r':σ[i]?=some (some x):=r1;unfold n6 at p1;try dsimp only at p1
   split at p1
   .rename_i v q;obtain⟨_,x',e1',e2⟩:=S1.sl i _ q;rw[r'] at e1';cases e1';exact p1 H1 σ ns1 x a1 ⟨S1,e2⟩
   .rename_i v q;obtain⟨n,o,q1,q2,q3,q4,q5,q6⟩:=S1.sl i _ q;rw[r'] at q2;cases q2;have hi:=(B_.mp q).1;have hn:i<ns1.length:=by rw[S1.l2];exact hi
    have mv:Mov (Oc Y ns1) (Oc (Xn Y n) (ns1.set i none)) H1 H1:=.of λm p=>⟨λz=>by
     rcases z with z |rfl
     .exact p.1 z
     .exact p.2 (aY.mpr ⟨i,q1⟩),(fW p).2⟩
    have S2:=S1.putN' hi (s:=.no) rfl;refine p1 H1 σ (ns1.set i none) _ (a1.put (x:=none) hi (λ_ z=>by cases z) q rfl rfl S1.l2) ⟨n,o,rfl,q3,S1.nx i n q1,q4,q5,⟨S2.l1,S2.l2,S2.lh,λm z=>?_,S2.inj,λj m qj z=>?_,λj s qj=>?_,S2.bs⟩,q6.mono mv⟩
    .rcases z with z |rfl
     .exact S2.xl m z
     .exact⟨_,q4⟩
    .rcases z with z |rfl
     .exact S2.nx j m qj z
     .rcases bK hn qj with ⟨_,y⟩ |⟨y,z⟩
      .cases y
      .exact y (S1.inj j i _ z q1)
    .rcases bK hi qj with ⟨rfl,rfl⟩ |⟨z,qj'⟩
     .rw[du hn];rfl
     .rw[cK z];exact (S1.sl j s qj').mono mv λ_ _ _ q _=>q
   .rename_i v q;exact p1 H1 σ ns1 x a1 ⟨S1,r',v,q⟩
   .exact p1.elim⟩⟩
def yV{ow:Bool}{i:Nat}(D:Ends)(σ:St)(H:Hp):rdS K mg ES (ay ow i p).G D σ H->xE (rdE K mg ES p.G) (qK i) D σ H:=λzz=>zz.el λY N0 ns e S p=>
 ⟨Y,
  N0,λa=>H a=none,ns,e,S,λ_ z=>z,PS3.toS p S λt e1 ns1 H1 a1 S1 p1 d r1=>by
  unfold jK at p1;split at p1
  .rename_i s0 q0;split at p1
   .rename_i p0;have hi:=(B_.mp q0).1;cases t with
    |val v=>exact p1 H1 _ _ (a1.put (x:=none) (s:=.sh v) hi (λ_ z=>by cases z) q0 p0 rfl S1.l2) (S1.putN hi ⟨rfl,d,rfl,Rd.mono (.of λm p=>fW p) r1⟩)
    |
     new v=>
     cases ow with
     |true=>obtain⟨n,ob,rfl,q1,q2,q3,q4,q5,q6⟩:=r1;exact p1 H1 _ _ (a1.put (x:=some n) (s:=.ow v) hi (λm z=>by cases z;exact q1) q0 p0 rfl S1.l2) (Sat.putO q5 q2 hi (S.lh n q1) q3 q4 q6)
     |false=>exact p1 H1 _ _ (a1.put (x:=none) (s:=.sh v) hi (λ_ z=>by cases z) q0 p0 rfl S1.l2) (S1.putN hi ⟨rfl,d,rfl,Rd.mono (.of λm p=>fW p) r1.new⟩)
    |
     bor j=>
     try dsimp only at p1
     split at p1
     .rename_i e2 v q2;obtain⟨h_,S2,a2,r2⟩:=fM S1 r1 q2;have hq:∃s2,e2[i]?=some s2/\s2.pl=true:=by
       unfold df at q2;dsimp only at q2;split at q2
       .cases q2;exact⟨s0,q0,p0⟩
       .rename_i u q3;cases q2;by_cases z:i=j
        .subst z;exact⟨_,du hi,rfl⟩
        .exact⟨s0,by rw[cK z];exact q0,p0⟩
       .cases q2
      obtain⟨s2,hq1,hq2⟩:=hq;have hi2:=(B_.mp hq1).1;exact p1 H1 _ _ ((a1.trans S a2).put (x:=none) (s:=.sh v) hi2 (λ_ z=>by cases z) hq1 hq2 rfl S2.l2) (S2.putN hi2 ⟨rfl,d,rfl,Rd.mono (.of λm p=>fW p) r2⟩)
     .exact p1.elim
   .exact p1.elim
  .exact p1.elim⟩
def Im{ow:Bool}{i:Nat}{x:Str}{l_:Pos}(hN:X.N.Nodup)(hi:X.N[i]?=some x)(hx:Loc X.env.scope x)(he:DE K mg X ES e p)(hs:swapsWith e (some (.Name x l_)) pos.line X.env=pure false)(hf:X.fn x=true\/X.env.scope.names.lookup x=some .local):
 DS K mg X ES (.Assign [.Name x l_] e pos) (ay ow i p):=⟨PS.imp (Hq hN hi hx he.ok hs hf) yV⟩
def El{i:Nat}{x:Str}(hN:X.N.Nodup)(hi:X.N[i]?=some x)(hx:Loc X.env.scope x)(hf:X.fn x=true\/X.env.scope.names.lookup x=some .local):DG K mg X (.Name x pos) (gtN i):=
 ⟨PG.imp (EG hN hi hx hf) λv σ H Q zz=>zz.el λY N0 ns e u e' S r q k=>by obtain⟨S',a⟩:=nO S r q;exact k _ _ a S'⟩
def Es:DGs K mg X [] eM:=⟨PGs.imp Fh λvs σ H Q zz=>zz.el λY N0 ns e us e' S r q k=>by
 cases r with
 |nil=>cases q;exact⟨rfl,k _ _ .refl S⟩
 |cons _ _=>cases q⟩
def Bn(h1:DG K mg X e g)(h2:DGs K mg X es gs)(hs:(assignEach (e::es) X.env).map (·.2)=assign e X.env::(assignEach es X.env).map (·.2):=by rfl):DGs K mg X (e::es) (br g gs):=
 ⟨PGs.imp (BE h1.ok h2.ok hs) λvs σ H Q zz=>zz.el λY N0 ns e us e' S r q k=>by
  cases r with
  |nil=>cases q
  |cons r rr=>obtain⟨e1,q1,q2⟩:=MY.mp q;exact⟨_,_,rfl,Y,N0,ns,e,_,e1,S,r,q1,λσ1 ns1 a1 S1=>⟨Y,N0,ns1,e1,_,e',S1,rr.mono a1.mov,q2,λσ2 h_ a2 S2=>k σ2 h_ (a1.trans S a2) S2⟩⟩⟩
def HS(hK:X.K=K)(hc:X.calm=true)(h:DGs K mg X es gs)(hn:(assignEach es X.env).length=n:=by rfl)(hst:(assignEach es X.env).findIdx? (·.1)=none:=by rfl):DG K mg X (.Tuple es k pos) (gtT n gs):=by
 subst hK;exact
  ⟨PG.imp (yW hc h.ok hn hst) λv σ H Q zz=>zz.el λY N0 ns e u e' S r q k=>by
  have q:pT n gs.G u e=some e':=q;unfold pT at q;split at q
  .split at q
   .rename_i hl;obtain⟨a,vs,rfl,z,rr⟩:=ShR.tup (.inl r);exact⟨a,vs,rfl,z,by rw[rr.len];exact hl,Y,N0,ns,e,_,e',S,rr,q,k⟩
   .cases q
  .cases q⟩
def Eu(he:DE K mg X ES e p)(hg:DG K mg X a g)(hs:swapsWithSole [a] e pos.line X.env=pure false:=by rfl)(hw:swappedStores [a] e X.env=pure none:=by rfl)(h1:(assignEach [a] X.env).map (·.2)=[assign a X.env]:=by rfl):DS K mg X ES (.Assign [a] e pos) (lg p g):=
 ⟨PS.imp (zX he.ok hg.ok hs hw h1) λD σ H zz=>zz.el λY N0 ns e S p=>⟨Y,N0,λ_=>True,ns,e,S,λ_ _=>trivial,PS3.toS p S λt e1 ns1 H1 a1 S1 p1 x r1=>by
  try dsimp only at p1
  split at p1
  .rename_i e2 v q;obtain⟨h_,S2,a2,r2⟩:=fM S1 r1 q;split at p1
   .rename_i e3 q3;exact⟨Y,N0,h_,e2,v,e3,S2,r2,q3,λσ' ns' a3 S3=>p1 H1 σ' ns' ((a1.trans S a2).trans S a3) S3⟩
   .exact p1.elim
  .exact p1.elim⟩⟩
def IL{i j:Nat}{x y:Str}{px py pt:Pos}{kt k2 pt2}(hN:X.N.Nodup)(ha:DA K mg X ES [a,b] A)(hc:X.calm=true:=by rfl)(hi:X.N[i]?=some x:=by rfl)(hj:X.N[j]?=some y:=by rfl)(hij:i≠j:=by decide)(hx:X.env.scope.names.lookup x=some .local:=by rfl)(hy:X.env.scope.names.lookup y=some .local:=by rfl)(hw:swappedStores [.Tuple [.Name x px,.Name y py] kt pt] (.Tuple [a,b] k2 pt2) X.env=pure (some [x,y]):=by rfl)(hs:swapsWithSole [.Tuple [.Name x px,.Name y py] kt pt] (.Tuple [a,b] k2 pt2) pos.line X.env=pure false:=by rfl):DS K mg X ES (.Assign [.Tuple [.Name x px,.Name y py] kt pt] (.Tuple [a,b] k2 pt2) pos) (gm i j A):=
 ⟨PS.imp
  (IX hc hN hi hj hij hx hy ha.ok hw hs) λD σ H zz=>zz.el λY N0 ns e S p=>⟨Y,N0,ns,e,S,PS3.toS p S λts e1 ns1 H1 a1 S1 p1 xs r1=>by
  try dsimp only at p1
  split at p1
  .rename_i e2 v u q;obtain⟨h_,S2,a2,r2⟩:=js S1 r1 q;split at p1
   .rename_i e3 q3;obtain⟨e4,q4,q5⟩:=MY.mp q3;cases r2 with
    |
     cons r rr=>
     cases rr with
     |cons r' rr=>cases rr;obtain⟨S3,a3⟩:=nO S2 r q4;obtain⟨S4,a4⟩:=nO S3 (r'.mono a3.mov) q5;exact⟨_,_,rfl,p1 H1 _ _ (((a1.trans S a2).trans S a3).trans S a4) S4⟩
   .exact p1.elim
  .exact p1.elim⟩⟩
def IpD(K:W.Frag)(mg:Pp)(r:TIp)(g:Val->Val->Bv):Prop:=∀P H x y v u Q,ShR K mg P H x v->ShR K mg P H y u->BvP K mg P H Q (g v u)->r x y H Q
def Jf{i:Nat}{x:Str}{op:Operator}{ti:TIp}{l_:Pos}{k:PO2}(hN:X.N.Nodup)(he:DE K mg X ES e p)(ho:PIp X op ti)(hd:IpD K mg ti k.G)(hi:X.N[i]?=some x:=by rfl)(hx:Loc X.env.scope x:=by first |exact Or.inl rfl |exact Or.inr rfl)(hf:X.fn x=true\/X.env.scope.names.lookup x=some .local:=by first |exact .inl rfl |exact .inr rfl |assumption):DS K mg X ES (.AugAssign (.Name x l_) op e pos) (tE i k p):=
 ⟨PS.imp
  (G1 hN hi hx he.ok ho hf) λD σ H zz=>zz.el λY N0 ns e S p=>by
  have p:PS3 K mg Y N0 ns e H D ES (AL i k.G _ e):=p;unfold AL at p;split at p
  .rename_i v q0;obtain⟨_,dx,e1,r0⟩:=S.sl i _ q0;refine⟨dx,e1,Y,N0,λ_=>True,ns,e,S,λ_ _=>trivial,PS3.toS p S λt e1 ns1 H1 a1 S1 p1 y r1=>?_⟩;try dsimp only at p1
   split at p1
   .rename_i u q1;refine hd _ _ _ _ _ _ _ (.inl (r0.mono a1.mov)) (r1.sh S1 q1) ?_;split at p1
    .rename_i z q2;rw[q2];split at p1
     .rename_i e2 q3;intro H2 dz g2 r2;obtain⟨S3,a3⟩:=nO (S1.gr g2) r2 q3;exact p1 H2 _ _ ((a1.trans S (.gr g2)).trans S a3) S3
     .exact p1.elim
    .exact p1.elim
   .exact p1.elim
  .exact p.elim⟩
def TsR.len{Y:Addr->Prop}(r:TsR K mg Y ns σ H ds ts):ds.length=ts.length:=by
 induction r with
 |nil=>rfl
 |val _ _ ih=>rw[F_,F_,ih]
 |bor _ _ ih=>rw[F_,F_,ih]
def CO{x:Str}{C:Addr}{E:XK}{np cpos:Pos}(hc:X.calm=true)(hR:Rz X E)(hg:Gl X x)(hm:mg x=some (.ref C))(hq:W.excIn X.K C om "ValueError.__new__"=true)(ha:DA K mg X (λ_=>E) (e::es) A)(hk:X.mg=mg:=by rfl)(he:starEach (e::es) X.env=(false,eval e X.env)::starEach es X.env:=by rfl)(c_:(backTo cpos (starEach es X.env)).any (·.1)=false:=by rfl)(hd:(x==("__debug__" : Str))=false:=by decide):DS K mg X (λ_=>E) (.Raise (some (.Call (.Name x np) (e::es) [] cpos)) none pos) (eP x A):=by
 subst hk;exact⟨PS.imp (CF hc hR hg hm hq ha.ok he c_ hd) λD σ H zz=>zz.el λY N0 ns e S p=>⟨Y,N0,ns,e,S,PS3.toS p S λts e1 ns1 H1 a1 S1 p1 xs r1=>by
  try dsimp only at p1
  split at p1
  .rename_i hl;exact⟨by rw[r1.len];exact hl,p1 H1 σ ns1 C a1 S1 hm⟩
  .exact p1.elim⟩⟩
end
noncomputable def Sl.re (s:Sl) (u:Val):Sl:=match s with
 |.ow _=>.ow u
 |.mu _=>.mu u
 |s=>s
noncomputable def Sl.mv:Sl->Option Val
 |.ow v=>some v
 |.mu v=>some v
 |_=>none
section
variable{K:W.Frag}{mg:Pp}{X N0:Addr->Prop}{ns:Ns}{e:E3}{σ:St}{H:Hp}
def Sat.write(S:Sat K mg X N0 ns e σ H)(q:e[i]?=some s)(hm:s.mv=some u):∃n o,σ[i]?=some (some (.ref n))/\ns[i]?=some (some n)/\H n=some o/\NotFz o/\Rc K mg (Oc X ns) H o u/\
 ∀o' u',NotFz o'->Rc K mg (Oc X ns) H o' u'->Mov (Oc X ns) (Oc X ns) H (upd H n o')/\Sat K mg X N0 ns (e.set i (s.re u')) σ (upd H n o')/\Stp ns e H ns (e.set i (s.re u')) (upd H n o'):=by
 have hi:=(B_.mp q).1;have key:∃n o,ns[i]?=some (some n)/\σ[i]?=some (some (.ref n))/\H n=some o/\NotFz o/\Rc K mg (Oc X ns) H o u/\s.mt=true/\(∀o' u',NotFz o'->Rc K mg (Oc X ns) (upd H n o') o' u'->SlR K mg (Oc X ns) N0 (some (some n)) (some (some (.ref n))) (upd H n o') (s.re u')):=by
  have y:=S.sl i s q;cases s with
  |ow v=>cases hm;obtain⟨n,o,q1,q2,q3,q4,q5,q6⟩:=y;exact⟨n,o,q1,q2,q4,q5,q6,rfl,λo' u' hf r=>⟨n,o',rfl,rfl,q3,bo,hf,r⟩⟩
  |mu v=>cases hm;obtain⟨n,o,q1,q2,q4,q5,q6⟩:=y;exact⟨n,o,q1,q2,q4,q5,q6,rfl,λo' u' hf r=>⟨n,o',rfl,rfl,bo,hf,r⟩⟩
  |_=>cases hm
 obtain⟨n,o,k1,k2,k3,k4,k5,k6,k7⟩:=key;refine⟨n,o,k2,k1,k3,k4,k5,λo' u' hf r=>?_⟩;have up:∀m,m≠n->upd H n o' m=H m:=λm z=>aE z;have mv:Mov (Oc X ns) (Oc X ns) H (upd H n o'):=⟨LeH.wr k3 k4,λm ob p q' _=>⟨p,by rw[up m λz=>p.2 (aY.mpr ⟨i,by rw[z];exact k1⟩)];exact q'⟩⟩;have dom:∀a,upd H n o' a=none->H a=none:=λa z=>by rw[up a λy=>by subst y;rw[bo] at z;cases z] at z;exact z
 refine⟨mv,⟨by rw[M4];exact S.l1,by rw[M4];exact S.l2,λa z=>S.lh a (dom a z),λm z=>?_,S.inj,S.nx,λj s' qj=>?_,S.bs.wr k3 k4⟩,?_⟩
 .by_cases y:m=n
  .subst y;exact⟨o',bo⟩
  .rw[up m y];exact S.xl m z
 .rcases bK hi qj with ⟨rfl,rfl⟩ |⟨z,qj'⟩
  .rw[k1,k2];exact k7 o' u' hf (r.mono mv)
  .refine (S.sl j s' qj').mono mv λm ob qm qo _=>?_;rw[up m λy=>by subst y;exact z (S.inj j i m qm k1)];exact qo
 .refine⟨mv.le,dom,λm ob qm _ hM=>?_,λ_ _ q=>.inl q,λj s' qj hl=>?_,λj s' qj hl=>?_,λj v qj=>?_,λj v qj=>?_⟩
  .rw[up m λy=>by subst y;exact hM ⟨i,s,k1,q,k6⟩];exact qm
  .have z:j≠i:=λz=>by subst z;rw[q] at qj;cases qj;cases s <;> first |cases hl;done |cases k6;done
   rw[cK z];exact⟨qj,rfl⟩
  .rcases bK hi qj with ⟨_,y⟩ |⟨z,qj'⟩
   .subst y;cases s <;> first |cases hl;done |cases k6;done
   .exact⟨qj',rfl⟩
  .rcases bK hi qj with ⟨rfl,y⟩ |⟨z,qj'⟩
   .cases s with
    |mu w=>exact⟨w,q,rfl⟩
    |ow w=>cases y
    |_=>cases k6
   .exact⟨v,qj',rfl⟩
  .by_cases z:j=i
   .subst z;rw[q] at qj;cases qj;exact⟨u',du hi,rfl⟩
   .exact⟨v,by rw[cK z];exact qj,rfl⟩
end
noncomputable def wSet (i:Nat) (G:ME3) (F:ME3) (w:Val->Val->Val->Option Val) (e:E3):SR3:=(F e).toS λt e1=>match (e1[i]?).bind Sl.mv with
 |none=>.stuck
 |some _=>(G e1).toS λt2 e2=>match rs e2 t2 with
  |none=>.stuck
  |some vi=>match df e2 t.drop with
   |none=>.stuck
   |some (e3,v)=>match e3[i]? with
    |none=>.stuck
    |some s=>match s.mv with
     |none=>.stuck
     |some u=>match w u vi v with
      |some u'=>.nx (e3.set i (s.re u'))
      |none=>.stuck
noncomputable def d0:Val->Bool
 |.lst _=>true
 |_=>false
noncomputable def rK (i:Nat) (m:Val->List Val->Option (Val×Val)) (vs:List Val) (e2:E3):R3 Tm:=match e2[i]? with
 |some s2=>match s2.mv with
  |some u=>match m u vs with
   |some (u',v)=>.ok (.val v) (e2.set i (s2.re u'))
   |none=>.stuck
  |none=>.stuck
 |none=>.stuck
noncomputable def oT (i:Nat) (m:Val->List Val->Option (Val×Val)) (A:MA3) (e:E3):R3 Tm:=match e[i]? with
 |some s=>if (s.mv.map d0)=some true then (A e).bind λts e1=>match dem e1 ts with
  |some (e2,vs)=>rK i m vs e2
  |none=>.stuck else .stuck
 |none=>.stuck
noncomputable def KJ (m:Val->List Val->Bv) (F:ME3) (A:MA3) (e:E3):R3 Tm:=(F e).bind λt e1=>if (rs e1 t).map d0=some true then (A e1).bind λts e2=>(match rs e2 t.drop,rss e2 ts with
 |some v,some vs=>if d0 v=true then (m v vs).at e2 else .stuck
 |_,_=>.stuck) else .stuck
structure PSe where
 G:Val->Val->Val->Option Val
structure PMm where
 G:Val->List Val->Option (Val×Val)
structure PMv where
 G:Val->List Val->Bv
noncomputable def ox (i:Nat) (w:PSe) (k a:PEx):PSt:=⟨15,wSet i k.G a.G w.G⟩
noncomputable def mB (i:Nat) (m:PMm) (a:PAs):PEx:=⟨18,oT i m.G a.G⟩
noncomputable def qw (i:Nat) (m:PMm):PEx:=⟨19,oT i m.G oi⟩
noncomputable def kM (m:PMv) (a:PEx) (b:PAs):PEx:=⟨20,KJ m.G a.G b.G⟩
section
variable(K:W.Frag)(mg:Pp)
def Cy(r:sG)(w:Val->Val->Val->Option Val):Prop:=∀P H n o u di vi d v u' Q,¬ P n->H n=some o->NotFz o->Rc K mg P H o u->ShR K mg P H di vi->Rd K mg P H d v->w u vi v=some u'->(∀o',NotFz o'->Rc K mg P H o' u'->Q (upd H n o'))->r (.ref n) di d H Q
def MmD(r:V->List V->Hp->VK->Prop)(m:Val->List Val->Option (Val×Val)):Prop:=∀P H n o u ds vs u' v Q,¬ P n->H n=some o->NotFz o->Rc K mg P H o u->Rds K mg P H ds vs->m u vs=some (u',v)->(∀o' y,NotFz o'->Rc K mg P H o' u'->Rd K mg P H y v->Q y (upd H n o'))->r (.ref n) ds H Q
def MtD(r:V->List V->Hp->VK->Prop)(m:Val->List Val->Bv):Prop:=∀P H d v ds vs Q,ShR K mg P H d v->d0 v=true->ShRs K mg P H ds vs->BvP K mg P H Q (m v vs)->r d ds H Q
end
section
variable{K:W.Frag}{mg:Pp}{X:Cx}{ES:St->XK}{e o i:Expr}{es:List Expr}{p q:PEx}{A:PAs}{pos p1:Pos}
def ug{j:Nat}{e:E3}{s:Sl}{u:Val}(q:e[j]?=some s)(h:s.mv=some u):eL j e=.ok (.bor j) e:=by unfold eL;rw[q];cases s <;> first |rfl |cases h
def EX{w:PSe}{r:sG}(he:DE K mg X ES e p)(ho:DE K mg X ES o (af j))(hi:DE K mg X ES i q)(hs':xD X r)(hd:Cy K mg r w.G)(hs:swapsWithSole [.Subscript o i p1] e pos.line X.env=pure false:=by rfl)(hw:swappedStores [.Subscript o i p1] e X.env=pure none:=by rfl)(h1:(assignEach [.Subscript o i p1] X.env).map (·.2)=[assign (.Subscript o i p1) X.env]:=by rfl)
 (ha:∀v,assign (.Subscript o i p1) X.env v=(do
  let ov <- holding [v] (eval o X.env)
  let iv <- holding [v,ov] (eval i X.env)
  standAt p1
  holding [v,ov,iv] (setItem ov iv v)
  release [v,ov,iv] []):=by intro _;rfl):DS K mg X ES (.Assign [.Subscript o i p1] e pos) (ox j w q p):=
 ⟨PS.imp
  (zX he.ok (HM ho.ok hi.ok hs' ha) hs hw h1) λD σ H zz=>zz.el λY N0 ns e S p=>⟨Y,N0,λ_=>True,ns,e,S,λ_ _=>trivial,PS3.toS p S λt e1 ns1 H1 a1 S1 p1 x r1=>by
  try dsimp only at p1
  split at p1
  .exact p1.elim
  .rename_i u0 qm;obtain⟨s0,y1,y2⟩:=MY.mp qm;refine⟨Y,N0,λ_=>True,ns1,e1,S1,λ_ _=>trivial,?_⟩;show PG3 K mg Y N0 ns1 e1 σ H1 (ES σ) _ (eL j e1);rw[ug y1 y2];intro H2 h_ a2 S2 ov ro;refine⟨Y,N0,λ_=>True,h_,e1,S2,λ_ _=>trivial,PS3.toS (PS3.after p1 S (a1.trans S a2)) S2 λt2 e2 ns3 H3 a3 S3 p3 iv r3=>?_⟩;try dsimp only at p3
   split at p3
   .exact p3.elim
   .rename_i vi qi;split at p3
    .exact p3.elim
    .rename_i e3 v qd;obtain⟨ns4,S4,a4,r4⟩:=fM S3 (r1.drop (a2.trans S1 a3)) qd;split at p3
     .exact p3.elim
     .rename_i s q3;split at p3
      .exact p3.elim
      .rename_i u q4;split at p3
       .rename_i u' q5;obtain⟨n,ob,k1,k0,k2,k3,k4,k5⟩:=S4.write q3 q4;have ro':σ[j]?=some (some ov):=ro;rw[k1] at ro';cases ro';refine hd (Oc Y ns4) _ _ _ _ _ _ _ _ _ _ (λz=>z.2 (aY.mpr ⟨j,k0⟩)) k2 k3 k4 ((r3.sh S3 qi).mono a4.mov .refl) r4 q5 λo' f' rc'=>?_;obtain⟨_,S5,a5⟩:=k5 o' u' f' rc';exact p3 _ _ _ ((a3.trans S2 a4).trans S2 a5) S5
       .exact p3.elim⟩⟩
def Dw{P:Addr->Prop}(r:ShR K mg P H d v)(q:d0 v=true):tyV K "list" d H:=by
 cases v with
 |lst xs=>obtain⟨a,vs,rfl,h,_⟩:=r.lstL;exact .inl ⟨rfl,vs,h⟩
 |_=>cases q
def vx{Y N0 L:Addr->Prop}{ns:Ns}{e2:E3}{σ:St}{H:Hp}{k:PMm}{r:V->List V->Hp->VK->Prop}{vs:List Val}{E:XK}{Q:VK}(hd:MmD K mg r k.G)(S:Sat K mg Y N0 ns e2 σ H)(ro:σ[j]?=some (some ov))(rx:Rds K mg (Oc Y ns) H xs vs)(p:PG3 K mg Y N0 ns e2 σ H E (KE K mg Y N0 L σ Q) (rK j k.G vs e2)):r ov xs H Q:=by
 unfold rK at p;split at p
 .rename_i s2 q2;split at p
  .rename_i u q3;split at p
   .rename_i u' v q4;obtain⟨n,ob,k1,k0,k2,k3,k4,k5⟩:=S.write q2 q3;rw[k1] at ro;cases ro;refine hd (Oc Y ns) _ _ _ _ _ _ _ _ _ (λz=>z.2 (aY.mpr ⟨j,k0⟩)) k2 k3 k4 rx q4 λo' y f' rc' ry=>?_;obtain⟨mv,S4,a4⟩:=k5 o' u' f' rc';exact p _ _ a4 S4 _ (ry.mono mv)
   .exact p.elim
  .exact p.elim
 .exact p.elim
theorem vj{Y N0 L:Addr->Prop}{ns:Ns}{e:E3}{σ:St}{H:Hp}{m:Val->List Val->Option (Val×Val)}{A:MA3}{E:XK}{Q:VK}{R:V->Hp->Prop}(S:Sat K mg Y N0 ns e σ H)(p:PG3 K mg Y N0 ns e σ H E (KE K mg Y N0 L σ Q) (oT j m A e))
 (i:∀ov ns1 H1,Stp ns e H ns1 e H1->Sat K mg Y N0 ns1 e σ H1->σ[j]?=some (some ov)->tyV K "list" ov H1->PG3 K mg Y N0 ns1 e σ H1 E (KE K mg Y N0 L σ Q) ((A e).bind λts e1=>match dem e1 ts with
 |some (e2,vs)=>rK j m vs e2
 |none=>.stuck)->R ov H1):PG3 K mg Y N0 ns e σ H E (KE K mg Y N0 L σ R) (eL j e):=by
 unfold oT at p;split at p
 .rename_i s0 q0;split at p
  .rename_i hz;obtain⟨u0,z1,z2⟩:=MN.mp hz;rw[ug q0 z1];exact λH1 ns1 a1 S1 ov ro=>i ov ns1 H1 a1 S1 ro (Dw (v:=u0) (S1.bor ro (by rw[q0];cases s0 <;> first |exact z1 |cases z1)) z2) (p.after S a1)
  .exact p.elim
 .exact p.elim
def JK{j:Nat}{name:Str}{id:String}{apos cpos:Pos}{r:V->List V->Hp->VK->Prop}{k:PMm}(hK:X.K=K)(slot:Slot "list" name id)(hty:typeOf (.builtin id)=pure (.type "method_descriptor"))(hm:MtM X id r)(hd:MmD K mg r k.G)(ho:DE K mg X ES o (af j))(ha:DA K mg X ES (e::es) A)(i_:attributeBase o name X.env (eval o X.env)=eval o X.env:=by rfl)(hfew:((backTo cpos (starEach (e::es) X.env)).all (λx=>!x.1)&&(backToKw cpos (keywordEach [] X.env)).all (λx=>x.1.isSome)&&decide ((e::es).length+([]:List Keyword).length+(if ([]:List Keyword).isEmpty then 0 else 1)<30))=true:=by rfl)(j':(apos.endLine==cpos.line)=true:=by rfl)(hs:starEach (e::es) X.env=(false,eval e X.env)::starEach es X.env:=by rfl)(c_:(backTo cpos (starEach es X.env)).any (·.1)=false:=by rfl):DE K mg X ES (.Call (.Attribute o name apos) (e::es) [] cpos) (mB j k A):=by
 subst hK;exact
  ⟨PE.imp (wC OR slot hty hm ho.ok ha.ok i_ hfew j' hs c_) λσ H Q zz=>zz.el λY N0 L ns e S hl p=>
  ⟨Y,
   N0,L,ns,e,S,hl,vj S p λov ns1 H1 a1 S1 ro ty p1=>⟨ty,Y,N0,ns1,e,S1,PG3.imp p1 S1 λts e1 h_ H2 a2 S2 p2 xs r2=>by
   try dsimp only at p2
   split at p2
   .rename_i e2 vs q1;obtain⟨ns3,S3,a3,r3⟩:=js S2 r2 q1;exact vx hd S3 ro r3 (p2.after S2 a3)
   .exact p2.elim⟩⟩⟩
def D5{j:Nat}{name:Str}{id:String}{apos cpos:Pos}{r:V->List V->Hp->VK->Prop}{k:PMm}(hK:X.K=K)(slot:Slot "list" name id)(hty:typeOf (.builtin id)=pure (.type "method_descriptor"))(hm:MtM X id r)(hd:MmD K mg r k.G)(ho:DE K mg X ES o (af j))(i_:attributeBase o name X.env (eval o X.env)=eval o X.env:=by rfl)(j':(apos.endLine==cpos.line)=true:=by rfl):DE K mg X ES (.Call (.Attribute o name apos) [] [] cpos) (qw j k):=by
 subst hK;exact⟨PE.imp (HU OR slot hty hm ho.ok i_ j') λσ H Q zz=>zz.el λY N0 L ns e S hl p=>
  ⟨Y,N0,L,ns,e,S,hl,vj S p λov ns1 H1 a1 S1 ro ty p1=>⟨ty,vx hd S1 ro .nil p1⟩⟩⟩
def FI{name:Str}{id:String}{apos cpos:Pos}{r:V->List V->Hp->VK->Prop}{k:PMv}(hK:X.K=K)(slot:Slot "list" name id)(hty:typeOf (.builtin id)=pure (.type "method_descriptor"))(hm:MtM X id r)(hd:MtD K mg r k.G)(ho:DE K mg X ES o p)(ha:DA K mg X ES (e::es) A)(i_:attributeBase o name X.env (eval o X.env)=eval o X.env:=by rfl)(hfew:((backTo cpos (starEach (e::es) X.env)).all (λx=>!x.1)&&(backToKw cpos (keywordEach [] X.env)).all (λx=>x.1.isSome)&&decide ((e::es).length+([]:List Keyword).length+(if ([]:List Keyword).isEmpty then 0 else 1)<30))=true:=by rfl)(j':(apos.endLine==cpos.line)=true:=by rfl)(hs:starEach (e::es) X.env=(false,eval e X.env)::starEach es X.env:=by rfl)(c_:(backTo cpos (starEach es X.env)).any (·.1)=false:=by rfl):DE K mg X ES (.Call (.Attribute o name apos) (e::es) [] cpos) (kM k p A):=by
 subst hK;exact
  ⟨PE.imp (wC OR slot hty hm ho.ok ha.ok i_ hfew j' hs c_) λσ H Q zz=>zz.el λY N0 L ns e S hl p=>
  ⟨Y,
   N0,L,ns,e,S,hl,PG3.imp p S λt e1 ns1 H1 a1 S1 p1 x r1=>by
   try dsimp only at p1
   split at p1
   .rename_i hq;obtain⟨v0,z1,z2⟩:=MN.mp hq;refine⟨Dw (r1.sh S1 z1) z2,Y,N0,ns1,e1,S1,PG3.imp p1 S1 λts e2 h_ H2 a2 S2 p2 xs r2=>?_⟩;try dsimp only at p2
    split at p2
    .rename_i v vs q1 q2;split at p2
     .rename_i hv;exact hd _ _ _ _ _ _ _ ((r1.drop a2).sh S2 q1) hv (r2.sh S2 q2) (p2.bv S2 λa z=>hl a (a1.dom a (a2.dom a z)))
     .exact p2.elim
    .exact p2.elim
   .exact p1.elim⟩⟩
end
noncomputable def iD:Sl->Sl
 |.ow v=>.lo v
 |.mu v=>.lm v
 |s=>s
noncomputable def ju:Sl->Sl
 |.lo v=>.ow v
 |.lm v=>.mu v
 |s=>s
noncomputable def lock (e:E3) (k:Nat):E3:=match e[k]? with
 |some s=>e.set k (iD s)
 |none=>e
noncomputable def unlock (e:E3) (k:Nat):E3:=match e[k]? with
 |some s=>e.set k (ju s)
 |none=>e
noncomputable def lockO (e:E3):Option Nat->E3
 |some k=>lock e k
 |none=>e
noncomputable def fh (e:E3):Option Nat->E3
 |some k=>unlock e k
 |none=>e
section
variable{K:W.Frag}{mg:Pp}{X N0:Addr->Prop}{ns ns':Ns}{e e':E3}{σ:St}{H H':Hp}
def SlR.lock(r:SlR K mg P N0 n d H s):SlR K mg P N0 n d H (iD s):=by cases s <;> exact r
def SlR.unlock(r:SlR K mg P N0 n d H s):SlR K mg P N0 n d H (ju s):=by cases s <;> exact r
def Sat.setS(S:Sat K mg X N0 ns e σ H)(q:e[k]?=some s)(f:Sl->Sl)(hf:SlR K mg (Oc X ns) N0 (ns[k]?) (σ[k]?) H s->SlR K mg (Oc X ns) N0 (ns[k]?) (σ[k]?) H (f s)):Sat K mg X N0 ns (e.set k (f s)) σ H:=by
 have hi:=(B_.mp q).1;refine⟨by rw[M4];exact S.l1,by rw[M4];exact S.l2,S.lh,S.xl,S.inj,S.nx,λj s' qj=>?_,S.bs⟩;rcases bK hi qj with ⟨rfl,rfl⟩ |⟨z,qj'⟩
 .exact hf (S.sl j s q)
 .exact S.sl j s' qj'
def Sat.lock(S:Sat K mg X N0 ns e σ H)(k:Nat):Sat K mg X N0 ns (lock e k) σ H:=by
 unfold L3.lock;split
 .rename_i s q;exact S.setS q iD SlR.lock
 .exact S
def Sat.unlock(S:Sat K mg X N0 ns e σ H)(k:Nat):Sat K mg X N0 ns (unlock e k) σ H:=by
 unfold L3.unlock;split
 .rename_i s q;exact S.setS q ju SlR.unlock
 .exact S
def Sat.lockO(S:Sat K mg X N0 ns e σ H)(k:Option Nat):Sat K mg X N0 ns (lockO e k) σ H:=by
 cases k with
 |none=>exact S
 |some k=>exact S.lock k
def jr(z:j≠k):(lock e k)[j]?=e[j]?:=by
 unfold lock;split
 .rw[cK z]
 .rfl
def gh(z:j≠k):(unlock e k)[j]?=e[j]?:=by
 unfold unlock;split
 .rw[cK z]
 .rfl
def oh(q:e[k]?=some s):(lock e k)[k]?=some (iD s):=by unfold lock;rw[q];exact du (B_.mp q).1
def iG(q:e[k]?=some s):(unlock e k)[k]?=some (ju s):=by unfold unlock;rw[q];exact du (B_.mp q).1
def Stp.unlock(q:e[k]?=some s)(hs:s.mt=true)(a:Stp ns (L3.lock e k) H ns' e' H'):Stp ns e H ns' (L3.unlock e' k) H':=by
 have hl:(iD s).lk=true:=by cases s <;> first |rfl |cases hs
 have hu:ju (iD s)=s:=by cases s <;> first |rfl |cases hs
 obtain⟨qk,nk⟩:=a.lk k _ (oh q) hl;refine⟨a.le,a.dom,λm o qm ht hM=>a.keep m o qm ht λ⟨j,s',z1,z2,z3⟩=>hM ?_,a.nw,λj s' qj hj=>?_,λj s' qj hj=>?_,λj v qj=>?_,λj v qj=>?_⟩
 .by_cases z:j=k
  .subst z;exact⟨j,s,z1,q,hs⟩
  .rw[jr z] at z2;exact⟨j,s',z1,z2,z3⟩
 .have z:j≠k:=λz=>by subst z;rw[q] at qj;cases qj;cases s <;> first |cases hs;done |cases hj;done
  rw[gh z];exact a.lk j s' (by rw[jr z];exact qj) hj
 .have z:j≠k:=λz=>by subst z;rw[iG qk,hu] at qj;cases qj;cases s <;> first |cases hs;done |cases hj;done
  rw[gh z] at qj;obtain⟨y1,y2⟩:=a.lk' j s' qj hj;rw[jr z] at y1;exact⟨y1,y2⟩
 .by_cases z:j=k
  .subst z;rw[iG qk,hu] at qj;cases qj;exact⟨v,q,nk⟩
  .rw[gh z] at qj;obtain⟨u,y1,y2⟩:=a.mu j v qj;rw[jr z] at y1;exact⟨u,y1,y2⟩
 .by_cases z:j=k
  .subst z;rw[q] at qj;cases qj;exact⟨v,by rw[iG qk,hu],nk⟩
  .obtain⟨u,y1,y2⟩:=a.mu' j v (by rw[jr z];exact qj);exact⟨u,by rw[gh z];exact y1,y2⟩
end
abbrev MI3:=E3->R3 (List Val×Option Nat)
noncomputable def gG:Val->Option (List Val)
 |.tup xs=>some xs
 |.lst xs=>some xs
 |_=>none
noncomputable def i8 (t:Tm) (e:E3):Option (List Val×Option Nat):=match t with
 |.val v=>(gG v).map λxs=>(xs,none)
 |.new v=>(gG v).map λxs=>(xs,none)
 |.bor k=>match e[k]? with
  |some (.sh v)=>(gG v).map λxs=>(xs,none)
  |some (.ow (.lst xs))=>some (xs,some k)
  |some (.mu (.lst xs))=>some (xs,some k)
  |_=>none
noncomputable def Lq (F:ME3) (e:E3):R3 (List Val×Option Nat):=(F e).bind λt e1=>match i8 t e1 with
 |some p=>.ok p e1
 |none=>.stuck
noncomputable def Le (A:MA3) (e:E3):R3 (List Val×Option Nat):=(A e).bind λts e1=>match ts with
 | [t,u]=>(match i8 t e1,i8 u e1 with
  |some (xs,k),some (ys,none)=>.ok (List.zipWith (λx y=>.tup [x,y]) xs ys,k) e1
  |_,_=>.stuck)
 |_=>.stuck
noncomputable def my (lo:Int) (k:Nat):List Val:=(List.range k).map λi=>Val.int (lo+(i:Nat))
structure RgB(j:Int):Prop where
 lo:-(2^62)<=j
 hi:j<2^62
def ja:List Val->Option (List Val)
 | [.int j]=>@ite _ (RgB j) (Classical.propDecidable _) (some (my 0 j.toNat)) none
 |_=>none
def sC:List Val->Option (List Val)
 | [.int i,.int j]=>@ite _ (RgB i/\RgB j) (Classical.propDecidable _) (some (my i (j-i).toNat)) none
 |_=>none
noncomputable def viRg (f:List Val->Option (List Val)) (A:MA3) (e:E3):R3 (List Val×Option Nat):=(A e).bind λts e1=>match (rss e1 ts).bind f with
 |some xs=>.ok (xs,none) e1
 |none=>.stuck
noncomputable def SR3.loop (r:SR3) (f:E3->SR3):SR3:=match r with
 |.nx e=>f e
 |.ct e=>f e
 |.bk e=>.nx e
 |.rt d e=>.rt d e
 |.exc c e=>.exc c e
 |.stuck=>.stuck
noncomputable def fg (g:MG3) (B:MS3):List Val->MS3
 | [],e=>.nx e
 |v::vs,e=>match g v e with
  |some e1=>(B e1).loop (fg g B vs)
  |none=>.stuck
noncomputable def SR3.unl (k:Option Nat) (r:SR3):SR3:=match r with
 |.nx e=>.nx (fh e k)
 |.ct e=>.ct (fh e k)
 |.bk e=>.bk (fh e k)
 |.rt d e=>.rt d (fh e k)
 |.exc c e=>.exc c (fh e k)
 |.stuck=>.stuck
noncomputable def wFor (I:MI3) (g:MG3) (B:MS3) (e:E3):SR3:=(I e).toS λp e1=>(fg g B p.1 (lockO e1 p.2)).unl p.2
noncomputable def whV (c:MT3) (B:MS3):Nat->MS3
 |0,_=>.stuck
 |k+1,e=>(c e).toS λb e1=>if b=true then (B e1).loop (whV c B k) else .nx e1
open Classical in
def wWh(c:MT3)(B:MS3):MS3:=λe=>if q:∃k,whV c B k e ≠ .stuck then whV c B q.choose e else .stuck
theorem mE{c:MT3}{B:MS3}:∀{k:Nat}{e:E3},whV c B k e ≠ .stuck->whV c B (k+1) e=whV c B k e
 |0,_,q=>absurd rfl q
 |
  k+1,e,q=>by
  have e1:whV c B (k+2) e=(c e).toS λb e1=>if b=true then (B e1).loop (whV c B (k+1)) else .nx e1:=rfl
  have e2:whV c B (k+1) e=(c e).toS λb e1=>if b=true then (B e1).loop (whV c B k) else .nx e1:=rfl
  rw[e2] at q;rw[e1,e2];cases r:c e with
  |exc _ _=>rfl
  |stuck=>rfl
  |
   ok b h1=>
   rw[r] at q;cases b with
   |false=>rfl
   |
    true=>
    have q':(B h1).loop (whV c B k) ≠ .stuck:=q;show (B h1).loop (whV c B (k+1))=(B h1).loop (whV c B k);cases s:B h1 with
    |nx a2=>rw[s] at q';exact mE q'
    |ct a2=>rw[s] at q';exact mE q'
    |_=>rfl
def zG{c:MT3}{B:MS3}{k j:Nat}{e:E3}(q:whV c B k e ≠ .stuck)(hj:k<=j):whV c B j e=whV c B k e:=by
 induction hj with
 |refl=>rfl
 |step _ ih=>rw[mE (by rw[ih];exact q),ih]
def mX{c:MT3}{B:MS3}{k:Nat}{e:E3}(q:whV c B k e ≠ .stuck):wWh c B e=whV c B k e:=by
 have hq:∃k,whV c B k e ≠ .stuck:=⟨k,q⟩;unfold wWh;rw[dif_pos hq];rcases Nat.le_total hq.choose k with z |z
 .exact (zG hq.choose_spec z).symm
 .exact zG q z
def CJ(c:MT3)(B:MS3)(e:E3):wWh c B e=(c e).toS λb e1=>if b=true then (B e1).loop (wWh c B) else .nx e1:=by
 by_cases q:∃k,whV c B k e ≠ .stuck
 .obtain⟨k,q⟩:=q;rw[mX q];cases k with
  |zero=>exact absurd rfl q
  |
   succ k=>
   have e2:whV c B (k+1) e=(c e).toS λb e1=>if b=true then (B e1).loop (whV c B k) else .nx e1:=rfl
   rw[e2] at q ⊢;cases r:c e with
   |exc _ _=>rfl
   |stuck=>rfl
   |
    ok b h1=>
    rw[r] at q;cases b with
    |false=>rfl
    |
     true=>
     have q':(B h1).loop (whV c B k) ≠ .stuck:=q;show (B h1).loop (whV c B k)=(B h1).loop (wWh c B);cases s:B h1 with
     |nx a2=>rw[s] at q';exact (mX q').symm
     |ct a2=>rw[s] at q';exact (mX q').symm
     |_=>rfl
 .have e0:wWh c B e=.stuck:=by unfold wWh;rw[dif_neg q]
  rw[e0];have hs:∀k,whV c B (k+1) e=.stuck:=λk=>Classical.byContradiction λz=>q ⟨_,z⟩;cases r:c e with
  |stuck=>rfl
  |
   exc c' h'=>
   have:=hs 0
   unfold whV at this;rw[r] at this;cases this
  |
   ok b h1=>
   cases b with
   |
    false=>
    have:=hs 0
    unfold whV at this;rw[r] at this;cases this
   |
    true=>
    have h2:∀k,(B h1).loop (whV c B k)=.stuck:=λk=>by
     have:=hs k
     unfold whV at this;rw[r] at this;exact this
    show SR3.stuck=(B h1).loop (wWh c B);have lim:∀a2,(∀k,whV c B k a2=.stuck)->wWh c B a2=.stuck:=λa2 z=>by unfold wWh;rw[dif_neg (λ⟨k,y⟩=>y (z k))]
    cases s:B h1 with
    |nx a2=>rw[s] at h2;exact (lim a2 h2).symm
    |ct a2=>rw[s] at h2;exact (lim a2 h2).symm
    |stuck=>rfl
    |_=>have:=h2 0;rw[s] at this;cases this
structure PIt where
 t:Nat
 G:MI3
noncomputable def cU (a:PEx):PIt:=⟨1,Lq a.G⟩
def iM(a:PAs):PIt:=⟨2,viRg ja a.G⟩
def wB(a:PAs):PIt:=⟨3,viRg sC a.G⟩
noncomputable def qM (a:PAs):PIt:=⟨5,Le a.G⟩
noncomputable def gX (i:PIt) (g:PGt) (b:PSt):PSt:=⟨16,wFor i.G g.G b.G⟩
def xWh(c:PTs)(b:PSt):PSt:=⟨17,wWh c.G b.G⟩
section
variable(K:W.Frag)(mg:Pp)
structure Kp(X:Addr->Prop)(ns:Ns)(k:Option Nat)(H0:Hp)(P:Addr->Prop)(H:Hp):Prop where
 mov:Mov (Oc X ns) P H0 H
 lk:∀(j:Nat) (a:Addr) (o:HO),k=some j->ns[j]?=some (some a)->H0 a=some o->oD o->H a=some o
def Kp.refl:Kp X ns k H (Oc X ns) H:=⟨.of λ_ z=>z,λ_ _ _ _ _ q _=>q⟩
def ItS(X:Addr->Prop)(ns:Ns)(k:Option Nat)(H0:Hp)(J:It)(us:List Val):Prop:=∀P H,Kp X ns k H0 P H->(∀(i:Nat) v,us[i]?=some v->J.go i H/\∀x H',J.yld i H x H'->Gr H H'/\Rd K mg P H' x v)/\J.stop us.length H
def iS(X:Addr->Prop)(ns:Ns)(k:Option Nat)(H0:Hp)(b:Bool)(a:Addr)(us:List Val):Prop:=∀P H,Kp X ns k H0 P H->∃vs,SqB K b H a vs/\Rds K mg P H vs us
def rdI(ES:St->XK)(I:MI3):TI:=λσ H R=>∃X N0 ns e,Sat K mg X N0 ns e σ H/\PG3 K mg X N0 ns e σ H (ES σ) (λp e' ns' H'=>∀J,ItS K mg X ns' p.2 H' J p.1->(∀k,p.2=some k->∃s,e'[k]?=some s/\s.mt=true)->R J H') (I e)
def rdI.el{K:W.Frag}{mg:Pp}{I:MI3}{R:It->Hp->Prop}(h:rdI K mg ES I σ H R){Z:Prop}(k:∀X N0 ns e,Sat K mg X N0 ns e σ H->PG3 K mg X N0 ns e σ H (ES σ) (λp e' ns' H'=>∀J,ItS K mg X ns' p.2 H' J p.1->(∀k,p.2=some k->∃s,e'[k]?=some s/\s.mt=true)->R J H') (I e)->Z):Z:=by obtain⟨X,N0,ns,e,S,p⟩:=h;exact k X N0 ns e S p
structure DI(X:Cx)(ES:St->XK)(tg iter:Expr)(F:PIt):Prop where
 ok:PI X tg iter (rdI K mg ES F.G)
end
noncomputable def ItA (K:W.Frag) (b:Bool) (a:Addr):It:=match b with
 |true=>Itl K a
 |false=>Itt K a
section
variable{K:W.Frag}{mg:Pp}{X N0 L:Addr->Prop}{ns ns1 ns':Ns}{e e1 e':E3}{σ:St}{H H1 H':Hp}{De:Ends}{ES:St->XK}
def FP{x:V}{v:Val}(r:Rd K mg (Oc X ns) H x v)(q:gG v=some us):∃b a,x=.ref a/\∀k,iS K mg X ns k H b a us:=by
 cases v with
 |tup ys=>cases q;obtain⟨a,vs,rfl,h,rr⟩:=ShR.tup (.inl r);exact⟨false,a,rfl,λ_ P H' st=>⟨vs,st.mov.le.sqT h,rr.mono st.mov⟩⟩
 |
  lst ys=>
  cases q;cases r with
  |cell p eo rc=>cases rc with |lst rr=>exact⟨true,_,rfl,λ_ P H' st=>⟨_,SqL.of (st.mov.cl _ _ p eo (λ_ z=>nomatch z)).2,rr.mono st.mov⟩⟩
 |_=>cases q
def qT{x:V}{t:Tm}{p:List Val×Option Nat}(S:Sat K mg X N0 ns e σ H)(r:relE K mg X N0 L σ ns e H x t)(q:i8 t e=some p):∃b a,x=.ref a/\iS K mg X ns p.2 H b a p.1/\(p.2=none->∀k,iS K mg X ns k H b a p.1)/\∀k:Nat,p.2=some k->∃s,e[k]?=some s/\s.mt=true:=by
 have fv:∀{v us},Rd K mg (Oc X ns) H x v->gG v=some us->∃b a,x=.ref a/\iS K mg X ns none H b a us/\((none:Option Nat)=none->∀k,iS K mg X ns k H b a us)/\∀k:Nat,none=some k->∃s,e[k]?=some s/\s.mt=true:=λr q=>by obtain⟨b,a,h1,h2⟩:=FP r q;exact⟨b,a,h1,h2 _,λ_=>h2,λ_ z=>nomatch z⟩
 cases t with
 |val v=>obtain⟨xs,q1,rfl⟩:=MN.mp q;exact fv r q1
 |new v=>obtain⟨xs,q1,rfl⟩:=MN.mp q;exact fv r.new q1
 |
  bor k=>
  have r':σ[k]?=some (some x):=r;have own:∀{s xs},e[k]?=some s->s.mv=some (.lst xs)->∃b a,x=.ref a/\iS K mg X ns (some k) H b a xs/\(some k=none->∀k,iS K mg X ns k H b a xs)/\∀j:Nat,some k=some j->∃s,e[j]?=some s/\s.mt=true:=λ{s xs} q qm=>by
   obtain⟨n,o,k1,k0,k2,k3,k4,_⟩:=S.write q qm;rw[r'] at k1;cases k1;have hm:s.mt=true:=by cases s <;> first |rfl |cases qm
   refine⟨true,n,rfl,λP H' st=>?_,λz=>(nomatch z),λj z=>by cases z;exact⟨s,q,hm⟩⟩;cases k4 with
   |lst rr=>exact⟨_,SqL.of (st.lk k n _ rfl k0 k2 λ_ z=>nomatch z),rr.mono st.mov⟩
  unfold i8 at q;dsimp only at q;split at q
  .rename_i v qs;obtain⟨_,x',e2,r2⟩:=S.sl k _ qs;rw[r'] at e2;cases e2;obtain⟨xs,q1,rfl⟩:=MN.mp q;exact fv r2 q1
  .rename_i xs qs;cases q;exact own qs rfl
  .rename_i xs qs;cases q;exact own qs rfl
  .cases q
def ItS.seq(s:iS K mg X ns k H b a us):ItS K mg X ns k H (ItA K b a) us:=λP H' st=>by
 obtain⟨vs,h,r⟩:=s P H' st;cases b with
 |true=>refine⟨λi v q=>?_,vs,h,by rw[r.len];exact u_ _⟩;obtain⟨x,ex,rx⟩:=r.get q;exact⟨⟨vs,x,h,ex⟩,λy H2 ⟨e1,z⟩=>by subst e1;have:=(z vs h).symm.trans ex;cases this;exact⟨.refl,rx⟩⟩
 |false=>refine⟨λi v q=>?_,vs,h,by rw[r.len];exact u_ _⟩;obtain⟨x,ex,rx⟩:=r.get q;exact⟨⟨vs,x,h,ex⟩,λy H2 ⟨e1,z⟩=>by subst e1;have:=(z vs h).symm.trans ex;cases this;exact⟨.refl,rx⟩⟩
def ItS.zip(s:iS K mg X ns k H b a us)(t:iS K mg X ns k H c d ws):ItS K mg X ns k H (ItZ K b c a d) (List.zipWith (λx y=>.tup [x,y]) us ws):=λP H' st=>by
 obtain⟨vs,h,r⟩:=s P H' st;obtain⟨xs,h',r'⟩:=t P H' st;refine⟨λi v q=>?_,vs,xs,h,h',?_⟩
 .rw[N3] at q;cases k1:us[i]? with
  |none=>rw[k1] at q;cases q
  |
   some u=>
   cases k2:ws[i]? with
   |none=>rw[k1,k2] at q;cases q
   |
    some w=>
    rw[k1,k2] at q;cases q;obtain⟨x,ex,rx⟩:=r.get k1;obtain⟨x',ex',rx'⟩:=r'.get k2;refine⟨⟨vs,xs,x,x',h,h',ex,ex'⟩,λy H2 ⟨p,f,f',e1,hp,e2,hf,hf'⟩=>?_⟩;subst e1 e2
    have:=(hf vs h).symm.trans ex
    cases this
    have:=(hf' xs h').symm.trans ex'
    cases this;exact⟨.upd hp,.tup (SqT.of bo) (.cons (rx.mono (Gr.upd hp).mov) (.cons (rx'.mono (Gr.upd hp).mov) .nil))⟩
 .rw[NT,<- r.len,<- r'.len];rcases Nat.le_total vs.length xs.length with z |z
  .left;rw[Nat.min_eq_left z];exact List.getElem?_eq_none (u_ _)
  .right;rw[Nat.min_eq_right z];exact List.getElem?_eq_none (u_ _)
def ItS.nums{f:Nat->Int}{k:Nat}{J:It}(h1:∀i H,i<k->J.go i H/\∀x H',J.yld i H x H'->H'=H/\x=V.int (f i))(h2:∀H,J.stop k H):ItS K mg X ns kk H J ((List.range k).map λi=>Val.int (f i)):=λP H' st=>by refine⟨λi v q=>?_,by rw[p_,x_];exact h2 _⟩;rw[MQ] at q;obtain⟨j,hj,rfl⟩:=MN.mp q;obtain⟨hj1,hj2⟩:=B_.mp hj;rw[List.getElem_range] at hj2;subst hj2;rw[x_] at hj1;obtain⟨g,y⟩:=h1 i H' hj1;exact⟨g,λx H2 z=>by obtain⟨rfl,rfl⟩:=y x H2 z;exact⟨.refl,.int _⟩⟩
def ItS.rng(lo:Int)(k:Nat):ItS K mg X ns kk H (Itr lo k) (my lo k):=ItS.nums (λi H hi=>⟨hi,λx H' z=>z⟩) λH=>u_ _
def Df{k:Option Nat}(S:Sat K mg X N0 ns e σ H)(hk:∀j:Nat,k=some j->∃s,e[j]?=some s/\s.mt=true)(a:Stp ns (lockO e k) H ns' e' H'):Kp X ns k H (Oc X ns') H':=⟨a.mov,λj n o hj hn q ht=>by
 subst hj;refine a.keep n o q ht λ⟨i,s,z1,z2,z3⟩=>?_
 have:=S.inj i j n z1 hn
 subst this;obtain⟨s',y1,y2⟩:=hk i rfl;have:(lockO e (some i))[i]?=some (iD s'):=oh y1;rw[this] at z2;cases z2;cases s' <;> first |cases y2;done |cases z3;done⟩
def PS3.unl{k:Option Nat}{r:SR3}(hk:∀j:Nat,k=some j->∃s,e[j]?=some s/\s.mt=true)(p:PS3 K mg X N0 ns e H De ES (r.unl k)):PS3 K mg X N0 ns (lockO e k) H De ES r:=by
 cases k with
 |none=>cases r <;> exact p
 |
  some j=>
  obtain⟨s,y1,y2⟩:=hk j rfl;cases r with
  |stuck=>exact p
  |nx e'=>exact λH' σ' ns' a S=>p H' σ' ns' (a.unlock y1 y2) (S.unlock j)
  |bk e'=>exact λH' σ' ns' a S=>p H' σ' ns' (a.unlock y1 y2) (S.unlock j)
  |ct e'=>exact λH' σ' ns' a S=>p H' σ' ns' (a.unlock y1 y2) (S.unlock j)
  |exc c e'=>exact λH' σ' ns' C a S=>p H' σ' ns' C (a.unlock y1 y2) (S.unlock j)
  |
   rt r e'=>
   refine λH' σ' ns' x a q2=>p H' σ' ns' x (a.unlock y1 y2) ?_;cases r with
   |val v=>exact⟨q2.1.unlock j,q2.2⟩
   |new v=>obtain⟨n,o,z1,z2,z3,z4,z5,z6,z7⟩:=q2;exact⟨n,o,z1,z2,z3,z4,z5,z6.unlock j,z7⟩
   |
    par i=>
    obtain⟨z1,z2,v,z3⟩:=q2;refine⟨z1.unlock j,z2,v,?_⟩;by_cases z:i=j
    .subst z;exact iG z3
    .exact (gh z).trans z3
   |pr v u=>obtain⟨p,d1,n,o,z1,z2,z3,z4,z5,z6,z7,z8⟩:=q2;exact⟨p,d1,n,o,z1,z2,z3,z4,z5,z6,z7.unlock j,z8⟩
def PS3.toB{α:Type}{r:R3 α}{f:α->E3->SR3}{k:α->E3->Ns->Hp->Prop}{ns0:Ns}{e0:E3}{σ0:St}{H0:Hp}(p:PS3 K mg X N0 ns0 e0 H0 De ES (r.toS f))(S0:Sat K mg X N0 ns0 e0 σ0 H0)(a0:Stp ns0 e0 H0 ns e H)
 (i:∀t e1 ns1 H1,Stp ns0 e0 H0 ns1 e1 H1->Sat K mg X N0 ns1 e1 σ H1->PS3 K mg X N0 ns0 e0 H0 De ES (f t e1)->k t e1 ns1 H1):PG3 K mg X N0 ns e σ H (ES σ) k r:=by
 cases r with
 |stuck=>exact p
 |exc c e'=>exact λH' ns' C a S' m=>p H' σ ns' C (a0.trans S0 a) S' m
 |ok t e'=>exact λH' ns' a S'=>i t e' ns' H' (a0.trans S0 a) S' p
def PS3.loop{ns0:Ns}{e0:E3}{σ0:St}{H0:Hp}{r:SR3}{f:E3->SR3}{N:St->Hp->Prop}(p:PS3 K mg X N0 ns0 e0 H0 De ES (r.loop f))(S0:Sat K mg X N0 ns0 e0 σ0 H0)(a0:Stp ns0 e0 H0 ns e H)
 (i:∀e1 ns1 σ1 H1,Stp ns0 e0 H0 ns1 e1 H1->Sat K mg X N0 ns1 e1 σ1 H1->PS3 K mg X N0 ns0 e0 H0 De ES (f e1)->N σ1 H1):PS3 K mg X N0 ns e H { De with nx:=N,ct:=N,bk:=De.nx } ES r:=by
 cases r with
 |nx e'=>exact λH' σ' ns' b S'=>i e' ns' σ' H' (a0.trans S0 b) S' p
 |ct e'=>exact λH' σ' ns' b S'=>i e' ns' σ' H' (a0.trans S0 b) S' p
 |bk e'=>exact λH' σ' ns' b S'=>p H' σ' ns' (a0.trans S0 b) S'
 |exc c e'=>exact λH' σ' ns' C b S'=>p H' σ' ns' C (a0.trans S0 b) S'
 |rt r e'=>exact λH' σ' ns' x b S'=>p H' σ' ns' x (a0.trans S0 b) S'
 |stuck=>exact p
end
section
variable{K:W.Frag}{mg:Pp}{X:Cx}{ES:St->XK}{e a b c tg iter:Expr}{elts:List Expr}{sts:List Stmt}{p:PEx}{A:PAs}{t:PTs}{x:PSt}{g:PGt}{I:PIt}{pos p0 tp:Pos}
def G6(hK:X.K=K)(he:DE K mg X ES e p):DI K mg X ES tg e (cU p):=by
 subst hK;exact⟨PI.imp (Jt he.ok) λσ H R zz=>rdI.el zz λY N0 ns e S q=>⟨Y,N0,λ_=>True,ns,e,S,λ_ _=>trivial,PG3.imp q S λt e1 ns1 H1 a1 S1 p1 x r1=>by
  try dsimp only at p1
  split at p1
  .rename_i w z;obtain⟨b,a,rfl,s,_,hk⟩:=qT S1 r1 z;have k:=p1.ret S1 _ (ItS.seq s) hk;obtain⟨vs,hv,_⟩:=s _ _ .refl;cases b with
   |true=>exact .inl ⟨a,rfl,⟨vs,hv⟩,k⟩
   |false=>exact .inr ⟨a,rfl,⟨vs,hv⟩,k⟩
  .exact p1.elim⟩⟩
def tsr1{Y:Addr->Prop}{ns:Ns}{σ:St}{H:Hp}{xs:List V}{t:Tm}(N0 L:Addr->Prop)(e:E3)(r:TsR K mg Y ns σ H xs [t]):∃x,xs=[x]/\relE K mg Y N0 L σ ns e H x t:=by
 cases r with
 |val r rr=>cases rr;exact⟨_,rfl,r⟩
 |bor r rr=>cases rr;exact⟨_,rfl,r⟩
def tsr2{Y:Addr->Prop}{ns:Ns}{σ:St}{H:Hp}{xs:List V}{t u:Tm}(N0 L:Addr->Prop)(e:E3)(r:TsR K mg Y ns σ H xs [t,u]):∃x y,xs=[x,y]/\relE K mg Y N0 L σ ns e H x t/\relE K mg Y N0 L σ ns e H y u:=by
 cases r with
 |val r rr=>obtain⟨y,rfl,r'⟩:=tsr1 N0 L e rr;exact⟨_,_,rfl,r,r'⟩
 |bor r rr=>obtain⟨y,rfl,r'⟩:=tsr1 N0 L e rr;exact⟨_,_,rfl,r,r'⟩
def IZ(hK:X.K=K)(hg:Gl X "zip")(hm:mg "zip"=none)(ha:DA K mg X ES [a,b] A)(hk:X.mg=mg:=by rfl)(hs:starEach [a,b] X.env=[(false,eval a X.env),(false,eval b X.env)]:=by rfl)(hs2:starEach [b] X.env=[(false,eval b X.env)]:=by rfl):DI K mg X ES (.Tuple elts x1 tp) (.Call (.Name "zip" p0) [a,b] [] pos) (qM A):=by
 subst hk hK;exact
  ⟨PI.imp (Hm hg hm ha.ok hs hs2) λσ H R zz=>rdI.el zz λY N0 ns e S q=>⟨Y,N0,ns,e,S,PG3.imp q S λts e1 ns1 H1 a1 S1 p1 xs r1=>by
  try dsimp only at p1
  split at p1
  .rename_i t u;obtain⟨x,y,rfl,r,r'⟩:=tsr2 N0 N0 e1 r1;split at p1
   .rename_i us k ws z z';obtain⟨b,a,rfl,s,_,hk⟩:=qT S1 r z;obtain⟨c,d,rfl,_,s',_⟩:=qT S1 r' z';have s2:=s' rfl k;obtain⟨vs,hv,_⟩:=s _ _ .refl;obtain⟨vs',hv',_⟩:=s2 _ _ .refl;exact⟨b,c,a,d,vs,vs',rfl,hv,hv',p1.ret S1 _ (ItS.zip s s2) hk⟩
   .exact p1.elim
  .exact p1.elim⟩⟩
def cQ{P:Addr->Prop}(r:ShRs K mg P H xs [v]):∃x,xs=[x]/\ShR K mg P H x v:=by cases r with |cons r rr=>cases rr;exact⟨_,rfl,r⟩
def qt{P:Addr->Prop}(r:ShRs K mg P H xs [v,u]):∃x y,xs=[x,y]/\ShR K mg P H x v/\ShR K mg P H y u:=by cases r with |cons r rr=>cases rr with |cons r' rr=>cases rr;exact⟨_,_,rfl,r,r'⟩
def yH(hg:Gl X "range")(hm:mg "range"=none)(ha:DA K mg X ES [a] A)(hk:X.mg=mg:=by rfl)(hs:starEach [a] X.env=[(false,eval a X.env)]:=by rfl):DI K mg X ES tg (.Call (.Name "range" p0) [a] [] pos) (iM A):=by
 subst hk;exact
  ⟨PI.imp (Ab hg hm ha.ok hs) λσ H R zz=>rdI.el zz λY N0 ns e S q=>⟨Y,N0,ns,e,S,PG3.imp q S λts e1 ns1 H1 a1 S1 p1 xs r1=>by
  try dsimp only at p1
  split at p1
  .rename_i us z;obtain⟨vs,z1,z2⟩:=MY.mp z;have rr:=r1.sh S1 z1;unfold ja at z2;split at z2
   .split at z2
    .rename_i hb;cases z2;obtain⟨x,rfl,r⟩:=cQ rr;obtain rfl:=r.int;exact⟨_,rfl,hb.lo,hb.hi,p1.ret S1 _ (ItS.rng _ _) λ_ z=>nomatch z⟩
    .cases z2
   .cases z2
  .exact p1.elim⟩⟩
def yG(hg:Gl X "range")(hm:mg "range"=none)(ha:DA K mg X ES [a,b] A)(hk:X.mg=mg:=by rfl)(hs:starEach [a,b] X.env=[(false,eval a X.env),(false,eval b X.env)]:=by rfl)(hs2:starEach [b] X.env=[(false,eval b X.env)]:=by rfl):DI K mg X ES tg (.Call (.Name "range" p0) [a,b] [] pos) (wB A):=by
 subst hk;exact
  ⟨PI.imp (yb hg hm ha.ok hs hs2) λσ H R zz=>rdI.el zz λY N0 ns e S q=>⟨Y,N0,ns,e,S,PG3.imp q S λts e1 ns1 H1 a1 S1 p1 xs r1=>by
  try dsimp only at p1
  split at p1
  .rename_i us z;obtain⟨vs,z1,z2⟩:=MY.mp z;have rr:=r1.sh S1 z1;unfold sC at z2;split at z2
   .split at z2
    .rename_i hb;cases z2;obtain⟨x,y,rfl,r,r'⟩:=qt rr;obtain rfl:=r.int;obtain rfl:=r'.int;exact⟨_,_,rfl,⟨hb.1.lo,hb.1.hi,hb.2.lo,hb.2.hi⟩,p1.ret S1 _ (ItS.rng _ _) λ_ z=>nomatch z⟩
    .cases z2
   .cases z2
  .exact p1.elim⟩⟩
def Hx(hp:PassesOwn (model X.prog X.w) X.A X.env X.xe)(hc:X.calm=true)(hi:DI K mg X ES tg iter I)(hg:DG K mg X tg g)(hb:DSs K mg X ES sts x)(hs:∀x,foldedSetIterable iter X.env x=pure x:=by intro _;rfl):DS K mg X ES (.For tg iter sts [] pos) (gX I g x):=
 ⟨PS.imp (Jb hp hc hi.ok hg.ok hb.ok hs) λD σ H zz=>zz.el λY N0 ns e S p=>⟨Y,N0,ns,e,S,PS3.toS p S λw e1 ns1 H1 a1 S1 p1 J it hk=>by
  have p2:=PS3.unl hk (PS3.after p1 S a1);have S2:=S1.lockO w.2;refine⟨λi m σ' H'=>m=w.1.length-i/\i<=w.1.length/\∃ns' e',Stp ns1 (lockO e1 w.2) H1 ns' e' H'/\Sat K mg Y N0 ns' e' σ' H'/\PS3 K mg Y N0 ns1 (lockO e1 w.2) H1 D ES (fg g.G x.G (w.1.drop i) e'),⟨_,rfl,Nc _,ns1,_,.refl,S2,p2⟩,?_⟩;rintro i m σ' H' ⟨rfl,hi,ns',e',a',S',p'⟩;by_cases hl:i=w.1.length
  .subst hl;rw[List.drop_length] at p';exact .inl ⟨(it _ _ (Df S1 hk a')).2,p' H' σ' ns' a' S'⟩
  .have hl':i<w.1.length:=by omega
   rw[OE hl'] at p';unfold fg at p';obtain⟨go,yl⟩:=(it _ _ (Df S1 hk a')).1 i _ (C_ hl');split at p'
   .rename_i e2 q;refine .inr ⟨go,λσ2 H2=>i+1<=w.1.length/\∃ns' e',Stp ns1 (lockO e1 w.2) H1 ns' e' H2/\Sat K mg Y N0 ns' e' σ2 H2/\PS3 K mg Y N0 ns1 (lockO e1 w.2) H1 D ES (fg g.G x.G (w.1.drop (i+1)) e'),λσ2 H2 n=>⟨_,by omega,rfl,n⟩,λv H2 y=>?_⟩;obtain⟨gr,r⟩:=yl v H2 y;have a2:=a'.trans S2 (.gr gr);exact⟨Y,N0,ns',e',_,e2,S'.gr gr,r,q,λσ3 ns3 a3 S3=>⟨Y,N0,ns3,e2,S3,PS3.loop p' S2 (a2.trans S2 a3) λe4 ns4 σ4 H4 a4 S4 p4=>⟨hl',ns4,e4,a4,S4,p4⟩⟩⟩
   .exact p'.elim⟩⟩
def Bz(hp:PassesOwn (model X.prog X.w) X.A X.env X.xe)(hc:DT K mg X ES c t)(hb:DSs K mg X ES sts x):DS K mg X ES (.While c sts [] pos) (xWh t x):=
 ⟨PS.imp (Ax hp hc.ok hb.ok) λD σ H zz=>zz.el λY N0 ns e S p=>by
  have p:PS3 K mg Y N0 ns e H D ES (wWh t.G x.G e):=p;by_cases q:∃k,whV t.G x.G k e ≠ .stuck
  .obtain⟨k,q⟩:=q;rw[mX q] at p;refine⟨λm σ' H'=>∃ns' e',Stp ns e H ns' e' H'/\Sat K mg Y N0 ns' e' σ' H'/\PS3 K mg Y N0 ns e H D ES (whV t.G x.G m e'),⟨k,ns,e,.refl,S,p⟩,?_⟩;rintro m σ' H' ⟨ns',e',a',S',p'⟩;cases m with
   |zero=>exact p'.elim
   |
    succ m=>
    have p2:PS3 K mg Y N0 ns e H D ES ((t.G e').toS λb e1=>if b=true then (x.G e1).loop (whV t.G x.G m) else .nx e1):=p';refine⟨Y,N0,ns',e',S',PS3.toB p2 S a' λb e1 ns1 H1 a2 S1 p1=>?_⟩;cases b with
    |true=>exact⟨λσ2 H2=>∃ns' e',Stp ns e H ns' e' H2/\Sat K mg Y N0 ns' e' σ2 H2/\PS3 K mg Y N0 ns e H D ES (whV t.G x.G m e'),λσ2 H2 n=>⟨m,Nat.lt_succ_self _,n⟩,Y,N0,ns1,e1,S1,PS3.loop p1 S a2 λe4 ns4 σ4 H4 a4 S4 p4=>⟨ns4,e4,a4,S4,p4⟩⟩
    |false=>exact p1 _ _ _ a2 S1
  .unfold wWh at p;rw[dif_neg q] at p;exact p.elim⟩
end
noncomputable def fX (o:Option Nat) (s:Sl) (e:E3):E3:=match o,s with
 |some i,.mu v=>(match e[i]? with
  |some t=>e.set i (t.re v)
  |none=>e)
 |_,_=>e
noncomputable def aX:List (Option Nat)->E3->E3->E3
 |o::sub,s::inner,e=>aX sub inner (fX o s e)
 |_,_,e=>e
def vt(hn:∀v,o=some i->s=.mu v->False):(fX o s e)[i]?=e[i]?:=by
 unfold fX;split
 .rename_i i' v;split
  .rename_i t q;by_cases z:i=i'
   .subst z;exact (hn v rfl rfl).elim
   .rw[cK z]
  .rfl
 .rfl
theorem o6:∀{sub:Pu}{e2 e:E3}{i:Nat},(∀(j:Nat) v,sub[j]?=some (some i)->e2[j]?=some (.mu v)->False)->(aX sub e2 e)[i]?=e[i]?
 | [],_,_,_,_=>rfl
 |_::_,[],_,_,_=>rfl
 |
  o::sub,s::e2,e,i,hn=>by
  show (aX sub e2 (fX o s e))[i]?=_;rw[o6 (λj v q1 q2=>hn (j+1) v (by simpa using q1) (by simpa using q2))];exact vt λv z1 z2=>hn 0 v (by rw[z1];rfl) (by rw[z2];rfl)
theorem vH:∀{sub:Pu}{e2 e:E3}{i j:Nat}{v:Val},(∀(j k:Nat) i,sub[j]?=some (some i)->sub[k]?=some (some i)->j=k)->sub[j]?=some (some i)->e2[j]?=some (.mu v)->(aX sub e2 e)[i]?=(e[i]?).map (Sl.re · v)
 | [],_,_,_,j,_,_,q,_=>by simp at q
 |_::_,[],_,_,j,_,_,_,q=>by simp at q
 |
  o::sub,s::e2,e,i,0,v,hj,q1,q2=>by
  have z1:o=some i:=by simpa using q1
  have z2:s=.mu v:=by simpa using q2
  subst z1 z2;show (aX sub e2 (fX (some i) (.mu v) e))[i]?=_;rw[o6 (λk u y1 _=>by have:=hj 0 (k+1) i rfl (by simpa using y1);omega)];unfold fX;dsimp only;split
  .rename_i t q;rw[du (B_.mp q).1,q];rfl
  .rename_i q;rw[q];rfl
 |
  o::sub,s::e2,e,i,j+1,v,hj,q1,q2=>by
  show (aX sub e2 (fX o s e))[i]?=_;have q1':sub[j]?=some (some i):=by simpa using q1
  rw[vH (λa b c y1 y2=>by have:=hj (a+1) (b+1) c (by simpa using y1) (by simpa using y2);omega) q1' (by simpa using q2)];rw[vt λv z1 _=>by have:=hj 0 (j+1) i (by rw[z1];rfl) q1;omega]
noncomputable def bg (sub:Pu) (ns:Ns):Ns:=sub.map λo=>o.bind λi=>(ns[i]?).bind id
def cF{sub:Pu}{ns:Ns}{j:Nat}{n:Addr}(q:(bg sub ns)[j]?=some (some n)):∃i,sub[j]?=some (some i)/\ns[i]?=some (some n):=by
 unfold bg at q;rw[MQ] at q;cases z:sub[j]? with
 |none=>rw[z] at q;cases q
 |
  some o=>
  rw[z] at q;cases o with
  |none=>cases q
  |
   some i=>
   refine⟨i,rfl,?_⟩;have q':(ns[i]?).bind id=some n:=J_ q;cases y:ns[i]? with
   |none=>rw[y] at q';cases q'
   |some w=>rw[y] at q';have:w=some n:=q';rw[this]
def EZ{sub:Pu}{ns:Ns}{j i:Nat}{w:Option Addr}(q:sub[j]?=some (some i))(q2:ns[i]?=some w):(bg sub ns)[j]?=some w:=by unfold bg;rw[MQ,q];show some ((ns[i]?).bind id)=some w;rw[q2];rfl
structure Lnk(sub:Pu)(e ei:E3):Prop where
 inj:∀(j k:Nat) (i:Nat),sub[j]?=some (some i)->sub[k]?=some (some i)->j=k
 mu:∀(j:Nat) (v:Val),ei[j]?=some (.mu v)->∃(i:Nat) (s:Sl),sub[j]?=some (some i)/\e[i]?=some s/\s.mt=true
 mt:∀(j:Nat) (s:Sl),ei[j]?=some s->s.mt=true->∃v,s=.mu v
section
variable{K:W.Frag}{mg:Pp}{X Y N0:Addr->Prop}{ns h_:Ns}{e e2 ei:E3}{σ:St}{H H2:Hp}{sub:Pu}
theorem mH:∀(sub:Pu) (e2 e:E3),(aX sub e2 e).length=e.length
 | [],_,_=>rfl
 |_::_,[],_=>rfl
 |
  o::sub,s::e2,e=>by
  show (aX sub e2 (fX o s e)).length=_;rw[mH];unfold fX;split
  .split
   .rw[M4]
   .rfl
  .rfl
def Sat.back(S:Sat K mg X N0 ns e σ H)(lk:Lnk sub e ei)(a:Stp (bg sub ns) ei H h_ e2 H2)(hb:Bs K mg H2)
 (hY:∀n,Y n->(∃o,H2 n=some o)/\(X n\/H n=none)) (hXY:∀n,X n->Y n)
 (hc:∀(j:Nat) v n,e2[j]?=some (.mu v)->h_[j]?=some (some n)->∃o,H2 n=some o/\NotFz o/\Rc K mg (Oc Y ns) H2 o v):Sat K mg Y N0 ns (aX sub e2 e) σ H2/\Stp ns e H ns (aX sub e2 e) H2:=by
 have hM:∀n,Mt (bg sub ns) ei n->Mt ns e n:=λn ⟨j,s,z1,z2,z3⟩=>by obtain⟨v,rfl⟩:=lk.mt j s z2 z3;obtain⟨i,s',y1,y2,y3⟩:=lk.mu j v z2;obtain⟨i',y4,y5⟩:=cF z1;rw[y1] at y4;cases y4;exact⟨i,s',y5,y2,y3⟩
 have mv:Mov (Oc X ns) (Oc Y ns) H H2:=⟨a.le,λn o p q ht=>⟨⟨λz=>(by
  rcases (hY n z).2 with z |z
  .exact p.1 z
  .rw[q] at z;cases z),p.2⟩,a.keep n o q ht λz=>by obtain⟨j,s,z1,_⟩:=z;obtain⟨i,_,y⟩:=cF z1;exact p.2 (aY.mpr ⟨i,y⟩)⟩⟩
 have key:∀i:Nat,(∃(j:Nat) (v:Val) (s:Sl),sub[j]?=some (some i)/\e2[j]?=some (.mu v)/\e[i]?=some s/\s.mt=true/\(aX sub e2 e)[i]?=some (s.re v)/\h_[j]?=ns[i]?)\/((∀n,ns[i]?=some (some n)->¬ Mt (bg sub ns) ei n)/\(aX sub e2 e)[i]?=e[i]?):=λi=>by
  by_cases hx:∃(j:Nat) (v:Val),sub[j]?=some (some i)/\e2[j]?=some (.mu v)
  .obtain⟨j,v,q1,q2⟩:=hx;obtain⟨u,q3,q4⟩:=a.mu j v q2;obtain⟨i',s,y1,y2,y3⟩:=lk.mu j u q3;rw[q1] at y1;cases y1;refine .inl ⟨j,v,s,q1,q2,y2,y3,by rw[vH lk.inj q1 q2,y2];rfl,?_⟩;rw[q4];have hl:i<ns.length:=by rw[S.l2];exact (B_.mp y2).1
   rw[C_ hl];exact EZ q1 (C_ hl)
  .refine .inr ⟨λn q ⟨j,s,z1,z2,z3⟩=>hx ?_,o6 λj v y1 y2=>hx ⟨j,v,y1,y2⟩⟩;obtain⟨v,rfl⟩:=lk.mt j s z2 z3;obtain⟨i',y4,y5⟩:=cF z1;have:i'=i:=S.inj i' i n y5 q;subst this;obtain⟨v',y6,_⟩:=a.mu' j v z2;exact⟨j,v',y4,y6⟩
 refine⟨⟨by rw[mH];exact S.l1,by rw[mH];exact S.l2,λx z=>S.lh x (a.dom x z),λn z=>(hY n z).1,S.inj,λi n q z=>?_,λi s q=>?_,hb⟩,⟨a.le,a.dom,λm o q ht hm=>a.keep m o q ht λz=>hm (hM m z),λ_ _ q=>.inl q,λi s q hl=>?_,λi s q hl=>?_,λi v q=>?_,λi v q=>?_⟩⟩
 .rcases (hY n z).2 with z |z
  .exact S.nx i n q z
  .obtain⟨_,_,_,_,_,_,_,q',_⟩:=S.own q;rw[q'] at z;cases z
 .rcases key i with ⟨j,v,s0,k1,k2,k3,k4,k5,k6⟩ |⟨k1,k2⟩
  .rw[k5] at q;cases q;have y:=S.sl i s0 k3;cases s0 with
   |ow u=>obtain⟨n,o,y1,y2,y3,_⟩:=y;obtain⟨o',z1,z2,z3⟩:=hc j v n k2 (by rw[k6];exact y1);exact⟨n,o',y1,y2,y3,z1,z2,z3⟩
   |mu u=>obtain⟨n,o,y1,y2,_⟩:=y;obtain⟨o',z1,z2,z3⟩:=hc j v n k2 (by rw[k6];exact y1);exact⟨n,o',y1,y2,z1,z2,z3⟩
   |_=>cases k4
  .rw[k2] at q;exact (S.sl i s q).mono mv λn o q1 q2 hf=>a.keep n o q2 hf.nt (k1 n q1)
 .rcases key i with ⟨j,v,s0,k1,k2,k3,k4,k5,k6⟩ |⟨k1,k2⟩
  .rw[k3] at q;cases q;cases s <;> first |cases hl;done |cases k4;done
  .rw[k2];exact⟨q,rfl⟩
 .rcases key i with ⟨j,v,s0,k1,k2,k3,k4,k5,k6⟩ |⟨k1,k2⟩
  .rw[k5] at q;cases q;cases s0 <;> first |cases hl;done |cases k4;done
  .rw[k2] at q;exact⟨q,rfl⟩
 .rcases key i with ⟨j,u,s0,k1,k2,k3,k4,k5,k6⟩ |⟨k1,k2⟩
  .rw[k5] at q;cases s0 with
   |mu w=>exact⟨w,k3,rfl⟩
   |ow w=>cases q
   |_=>cases k4
  .rw[k2] at q;exact⟨v,q,rfl⟩
 .rcases key i with ⟨j,u,s0,k1,k2,k3,k4,k5,k6⟩ |⟨k1,k2⟩
  .rw[k3] at q;cases q;exact⟨u,k5,rfl⟩
  .exact⟨v,by rw[k2];exact q,rfl⟩
end
noncomputable def inS:Sl->Sl
 |.ow v=>.mu v
 |.lo v=>.lm v
 |s=>s
noncomputable def cm (sub:Pu) (e:E3):E3:=sub.map λo=>match o with
 |none=>.no
 |some i=>match e[i]? with
  |some s=>inS s
  |none=>.no
noncomputable def lcV (g:MG3) (c:MT3) (F:ME3):List Val->List Val->E3->R3 (List Val)
 | [],acc,e=>.ok acc e
 |v::vs,acc,e=>if acc.length<16777216 then (match g v e with
  |none=>.stuck
  |some e1=>(c e1).bind λb e2=>if b=true then (F e2).bind λt e3=>(match df e3 t with
   |some (e4,y)=>lcV g c F vs (acc++[y]) e4
   |none=>.stuck) else lcV g c F vs acc e2) else .stuck
noncomputable def vLC (I:MI3) (sub:Pu) (g:MG3) (c:MT3) (F:ME3) (e:E3):R3 Tm:=(I e).bind λp e1=>match lcV g c F p.1 [] (cm sub (lockO e1 p.2)) with
 |.ok ys e2=>if ys.length<=16777216 then .ok (.new (.lst ys)) (fh (aX sub e2 (lockO e1 p.2)) p.2) else .stuck
 |_=>.stuck
noncomputable def pLC (i:PIt) (sub:Pu) (hs:(sub.filterMap id).Nodup) (g:PGt) (c:PTs) (a:PEx):PEx:=⟨21,vLC i.G sub g.G c.G a.G⟩
def ng(sub:Pu):Prop:=∀(j k:Nat) (i:Nat),sub[j]?=some (some i)->sub[k]?=some (some i)->j=k
def yR(h:(sub.filterMap id).Nodup):ng sub:=by
 induction sub with
 |nil=>intro j k i q;simp at q
 |
  cons o sub ih=>
  have hsub:(sub.filterMap id).Nodup:=by
   cases o with
   |none=>simpa using h
   |some i=>rw[NS] at h;simp at h;exact h.2
  have hno:∀(i k:Nat),o=some i->sub[k]?=some (some i)->False:=λi k z q=>by subst z;rw[NS] at h;simp at h;exact h.1 (Oy q)
  intro j k i q1 q2;cases j with
  |
   zero=>
   cases k with
   |zero=>rfl
   |succ k=>exact (hno i k (by simpa using q1) (by simpa using q2)).elim
  |
   succ j=>
   cases k with
   |zero=>exact (hno i j (by simpa using q2) (by simpa using q1)).elim
   |succ k=>exact MK (· + 1) (ih hsub j k i (by simpa using q1) (by simpa using q2))
def Xin(X:Addr->Prop)(ns:Ns)(sub:Pu)(n:Addr):Prop:=X n\/(some n∈ns/\some n∉bg sub ns)
def ub{n:Addr}(q:some n∈bg sub ns):some n∈ns:=by obtain⟨j,q⟩:=aY.mp q;obtain⟨i,_,q2⟩:=cF q;exact aY.mpr ⟨i,q2⟩
def DF{X:Addr->Prop}{H:Hp}:Mov (Oc X ns) (Oc (Xin X ns sub) (bg sub ns)) H H:=.of λn p=>⟨λz=>by
 rcases z with z |⟨z,_⟩
 .exact p.1 z
 .exact p.2 z,λz=>p.2 (ub z)⟩
def jG{sub:Pu}{e:E3}{j:Nat}{s:Sl}(q:(cm sub e)[j]?=some s):(sub[j]?=some none/\s=.no)\/(∃i,sub[j]?=some (some i)/\((e[i]?=none/\s=.no)\/∃t,e[i]?=some t/\s=inS t)):=by
 unfold cm at q;rw[MQ] at q;cases z:sub[j]? with
 |none=>rw[z] at q;cases q
 |
  some o=>
  rw[z] at q;cases o with
  |none=>cases q;exact .inl ⟨rfl,rfl⟩
  |
   some i=>
   refine .inr ⟨i,rfl,?_⟩;have q':=J_ q;dsimp only at q';cases y:e[i]? with
   |none=>rw[y] at q';exact .inl ⟨rfl,q'.symm⟩
   |some t=>rw[y] at q';exact .inr ⟨t,rfl,q'.symm⟩
section
variable{K:W.Frag}{mg:Pp}{X N0:Addr->Prop}{ns:Ns}{e:E3}{σ:St}{H:Hp}{sub:Pu}
def Sat.inner(S:Sat K mg X N0 ns e σ H)(hs:ng sub):Sat K mg (Xin X ns sub) N0 (bg sub ns) (cm sub e) (eU sub σ) H:=by
 refine⟨by unfold eU cm;rw[p_,p_],by unfold bg cm;rw[p_,p_],S.lh,λn z=>?_,λj k n q1 q2=>?_,λj n q z=>?_,λj s q=>?_,S.bs⟩
 .rcases z with z |⟨z,_⟩
  .exact S.xl n z
  .obtain⟨i,z⟩:=aY.mp z;obtain⟨_,_,o,_,_,_,_,q',_⟩:=S.own z;exact⟨o,q'⟩
 .obtain⟨i,y1,y2⟩:=cF q1;obtain⟨i',y3,y4⟩:=cF q2
  have:=S.inj i i' n y2 y4
  subst this;exact hs j k i y1 y3
 .rcases z with z |⟨_,z⟩
  .obtain⟨i,y1,y2⟩:=cF q;exact S.nx i n y2 z
  .exact z (aY.mpr ⟨j,q⟩)
 .have hj:∀{o},sub[j]?=some o->(bg sub ns)[j]?=some (o.bind λi=>(ns[i]?).bind id)/\(eU sub σ)[j]?=some (o.bind λi=>(σ[i]?).bind id):=λ{o} z=>by unfold bg eU;rw[MQ,MQ,z];exact⟨rfl,rfl⟩
  rcases jG q with ⟨z,rfl⟩ |⟨i,z,⟨y,rfl⟩ |⟨t,y,rfl⟩⟩
  .rw[(hj z).1];rfl
  .rw[(hj z).1];show some ((ns[i]?).bind id)=some none;have:ns[i]?=none:=by rw[OG] at y ⊢;rw[S.l2];exact y
   rw[this];rfl
  .have k:=(S.sl i t y).mono (DF (sub:=sub) (H:=H)) λ_ _ _ q _=>q;rw[(hj z).1,(hj z).2];show SlR K mg _ N0 (some ((ns[i]?).bind id)) (some ((σ[i]?).bind id)) H (inS t);have w1:∀x,ns[i]?=some x->some ((ns[i]?).bind id)=some x:=λx q=>by rw[q];rfl
   have w2:∀x,σ[i]?=some x->some ((σ[i]?).bind id)=some x:=λx q=>by rw[q];rfl
   cases t with
   |no=>rw[w1 _ k];rfl
   |sh v=>obtain⟨k1,x,k2,k3⟩:=k;rw[w1 _ k1,w2 _ k2];exact⟨rfl,x,rfl,k3⟩
   |ow v=>obtain⟨m,o,k1,k2,_,k3⟩:=k;rw[w1 _ k1,w2 _ k2];exact⟨m,o,rfl,rfl,k3⟩
   |lo v=>obtain⟨m,o,k1,k2,_,k3⟩:=k;rw[w1 _ k1,w2 _ k2];exact⟨m,o,rfl,rfl,k3⟩
   |mu v=>obtain⟨m,o,k1,k2,k3⟩:=k;rw[w1 _ k1,w2 _ k2];exact⟨m,o,rfl,rfl,k3⟩
   |lm v=>obtain⟨m,o,k1,k2,k3⟩:=k;rw[w1 _ k1,w2 _ k2];exact⟨m,o,rfl,rfl,k3⟩
end
def vg(hs:ng sub):Lnk sub e (cm sub e):=by
 refine⟨hs,λj v q=>?_,λj s q hm=>?_⟩
 .rcases jG q with ⟨_,z⟩ |⟨i,z,⟨_,y⟩ |⟨t,y,y2⟩⟩
  .cases z
  .cases y
  .refine⟨i,t,z,y,?_⟩;cases t <;> first |rfl |cases y2
 .rcases jG q with ⟨_,z⟩ |⟨i,z,⟨_,y⟩ |⟨t,y,y2⟩⟩
  .subst z;cases hm
  .subst y;cases hm
  .subst y2;cases t with
   |ow v=>exact⟨v,rfl⟩
   |mu v=>exact⟨v,rfl⟩
   |_=>cases hm
structure DTs(K:W.Frag)(mg:Pp)(X:Cx)(ES:St->XK)(es:List Expr)(F:PTs):Prop where
 ok:L2.PTs X es (rdT K mg ES F.G)
def Mov.trans{P P1 P2:Addr->Prop}{H H1 H2:Hp}(a:Mov P P1 H H1)(b:Mov P1 P2 H1 H2):Mov P P2 H H2:=⟨a.le.trans b.le,λn o p q ht=>by obtain⟨p1,q1⟩:=a.cl n o p q ht;exact b.cl n o p1 q1 ht⟩
section
variable{K:W.Frag}{mg:Pp}{X:Cx}{ES:St->XK}{a b o iter tg elt:Expr}{ifs:List Expr}{I:PIt}{g:PGt}{p:PEx}{t:PTs}{pos:Pos}{sub:Pu}
def bZ:DTs K mg X ES [] qY:=⟨λpins s σ H Q i ⟨Y,N0,ns,e,S,p⟩=>EU pins s σ H Q i (PG3.ret p S)⟩
def DN{hsb:(sub.filterMap id).Nodup}(σ:St)(H:Hp)(Q:VK):rdE K mg ES (pLC I sub hsb g t p).G σ H Q->qH (rdI K mg ES I.G) sub (rdG K mg g.G) (rdT K mg (λ_=>E0) t.G) (rdE K mg (λ_=>E0) p.G) σ H Q:=λzz=>zz.el λY N0 L ns e S hl pp=>
 ⟨Y,
  N0,ns,e,S,PG3.imp pp S λw e1 ns1 H1 a1 S1 p1 J it hk=>by
  have hs':=yR hsb;have S2:=S1.lockO w.2;have S3:=S2.inner hs';try dsimp only at p1
  split at p1
  .rename_i ys
    e2 q
   split at p1
   .rename_i hy;have kp:∀{ns' e' H'},Stp (bg sub ns1) (cm sub (lockO e1 w.2)) H1 ns' e' H'->Kp Y ns1 w.2 H1 (Oc (Xin Y ns1 sub) ns') H':=λ{ns' e' H'} a=>⟨DF.trans a.mov,λk n ob hk1 hk2 qm ht=>a.keep n ob qm ht λ⟨j,s,z1,z2,z3⟩=>by
     obtain⟨i,y1,y2⟩:=cF z1
     have:=S1.inj i k n y2 hk2
     subst this;obtain⟨s',w1,w2⟩:=hk i hk1;have hl:(lockO e1 w.2)[i]?=some (iD s'):=by rw[hk1];exact oh w1
     rcases jG z2 with ⟨z,_⟩ |⟨i',z,y⟩
     .rw[y1] at z;cases z
     .rw[y1] at z;cases z;rcases y with ⟨y,_⟩ |⟨t,y,rfl⟩
      .rw[hl] at y;cases y
      .rw[hl] at y;cases y;cases s' <;> first |cases w2;done |cases z3;done⟩
    refine⟨λi m acc σ' H'=>m=w.1.length-i/\i<=w.1.length/\∃ns' e' av,Stp (bg sub ns1) (cm sub (lockO e1 w.2)) H1 ns' e' H'/\Sat K mg (Xin Y ns1 sub) N0 ns' e' σ' H'/\Rds K mg (Oc (Xin Y ns1 sub) ns') H' acc av/\lcV g.G t.G p.G (w.1.drop i) av e'=.ok ys e2,⟨_,rfl,Nc _,_,_,[],.refl,S3,.nil,q⟩,?_⟩;rintro i m acc σ' H' ⟨rfl,hi,ns',e',av,a',S',ra,q'⟩;by_cases hlt:i<w.1.length
    .rw[OE hlt] at q';unfold lcV at q';split at q'
     .rename_i hla;obtain⟨go,yl⟩:=(it _ _ (kp a')).1 i _ (C_ hlt);refine .inr ⟨go,by rw[ra.len];exact hla,λacc' σ2 H2=>i+1<=w.1.length/\∃ns' e' av,Stp (bg sub ns1) (cm sub (lockO e1 w.2)) H1 ns' e' H2/\Sat K mg (Xin Y ns1 sub) N0 ns' e' σ2 H2/\Rds K mg (Oc (Xin Y ns1 sub) ns') H2 acc' av/\lcV g.G t.G p.G (w.1.drop (i+1)) av e'=.ok ys e2,λacc' σ2 H2 n=>⟨_,by omega,rfl,n⟩,λx H2 y=>?_⟩;obtain⟨gr,rx⟩:=yl x H2 y;have a2:=a'.trans S3 (.gr gr);have S4:=S'.gr gr;have ra2:=ra.mono gr.mov;split at q'
      .cases q'
      .rename_i e3 qg;refine⟨_,N0,ns',e',_,e3,S4,rx,qg,λσ3 ns3 a3 S5=>⟨_,N0,ns3,e3,S5,?_⟩⟩;have a4:=a2.trans S3 a3;have ra3:=ra2.mono a3.mov;cases qc:t.G e3 with
       |stuck=>rw[qc] at q';cases q'
       |exc _ _=>rw[qc] at q';cases q'
       |
        ok b e4=>
        rw[qc] at q';intro H4 ns4 a5 S6;have a6:=a4.trans S3 a5;have ra4:=ra3.mono a5.mov;show if b=true then _ else _
        have q':(if b=true then (p.G e4).bind λtt e3=>(match df e3 tt with
         |some (e4,y)=>lcV g.G t.G p.G (w.1.drop (i+1)) (av++[y]) e4
         |none=>.stuck) else lcV g.G t.G p.G (w.1.drop (i+1)) av e4)=.ok ys e2:=q'
        by_cases hb:b=true
        .rw[if_pos hb] at q' ⊢;refine⟨_,N0,λ_=>True,ns4,e4,S6,λ_ _=>trivial,?_⟩;cases qp:p.G e4 with
         |stuck=>rw[qp] at q';cases q'
         |exc _ _=>rw[qp] at q';cases q'
         |
          ok tt e5=>
          rw[qp] at q';intro H5 ns5 a7 S7 v rv;have q':(match df e5 tt with
           |some (e4,y)=>lcV g.G t.G p.G (w.1.drop (i+1)) (av++[y]) e4
           |none=>.stuck)=.ok ys e2:=q'
          split at q'
          .rename_i e6 u qd;obtain⟨ns6,S8,a8,r8⟩:=fM S7 rv qd;exact⟨hlt,ns6,e6,_,(a6.trans S3 a7).trans S3 a8,S8,((ra4.mono a7.mov).mono a8.mov).append (.cons r8 .nil),q'⟩
          .cases q'
        .rw[if_neg hb] at q' ⊢;exact⟨hlt,ns4,e4,av,a6,S6,ra4,q'⟩
     .cases q'
    .have hi2:i=w.1.length:=by omega
     subst hi2;rw[List.drop_length] at q';cases q';have k3:∀n,Oc (Xin Y ns1 sub) ns' n->Oc Y ns1 n:=λn z=>⟨λy=>z.1 (.inl y),λy=>by
      by_cases w:some n∈bg sub ns1
      .obtain⟨j,w⟩:=aY.mp w;obtain⟨s,v,o,b1,b2,_⟩:=S3.own w;rcases b2 with b2 |b2
       .obtain⟨v',rfl⟩:=(vg (e:=lockO e1 _) hs').mt j s b1 b2;obtain⟨u,c1,c2⟩:=a'.mu' j v' b1;exact z.2 (aY.mpr ⟨j,by rw[c2];exact w⟩)
       .obtain⟨c1,c2⟩:=a'.lk j s b1 b2;exact z.2 (aY.mpr ⟨j,by rw[c2];exact w⟩)
      .exact z.1 (.inr ⟨y,w⟩)⟩
     obtain⟨S5,a5⟩:=S2.back (Y:=Y) (vg hs') a' S'.bs (λn z=>by
      obtain⟨ob,z'⟩:=S2.xl n z;exact⟨by
       cases qh:H' n with
       |none=>rw[a'.dom n qh] at z';cases z'
       |some o'=>exact⟨o',rfl⟩,.inl z⟩) (λ_ z=>z) λj v n q1 q2=>by
      obtain⟨s,u,o,b1,b2,b3,b4,b5,b6,b7⟩:=S'.own q2;rw[q1] at b1;cases b1;cases b3;exact⟨o,b5,b6,b7.mono (.of k3)⟩
     have d_:∀e'',Sat K mg Y N0 ns1 e'' σ H'->Stp ns1 e1 H1 ns1 e'' H'->PG3 K mg Y N0 ns1 e1 σ H1 (ES σ) (KE K mg Y N0 L σ Q) (.ok (.new (.lst ys)) e'')->∀D,H' D=none->Q (.ref D) (upd H' D (.lst acc)):=λe'' S6 a6 p6 D hD=>
      PG3.bv (b:=.new (.lst ys)) (p6.after S1 a6) S6 (λa z=>hl a (a1.dom a (a6.dom a z))) H' D _ .refl hD trivial (.lst (ra.mono (.of k3)))
     refine .inl ⟨(it _ _ (kp a')).2,by rw[ra.len];exact hy,?_⟩;cases hp:w.2 with
     |none=>rw[hp] at S5 a5 p1;exact d_ _ S5 a5 p1
     |some k=>rw[hp] at S5 a5 p1;obtain⟨s,w1,w2⟩:=hk k hp;exact d_ _ (S5.unlock k) (a5.unlock w1 w2) p1
   .exact p1.elim
  .exact p1.elim⟩
def hZ{scope:Scope}(M:List Str)(kn:List (Str×NameKind))(N:List Str)(sub:Pu){hsb:(sub.filterMap id).Nodup}(hi:DI K mg X ES tg iter I)(hg:N.Nodup->∀cl C s₂ H fp,DG K mg (bY X N scope cl C s₂ H fp) tg g)(ht:N.Nodup->∀cl C s₂ H fp,DTs K mg (bY X N scope cl C s₂ H fp) (λ_=>E0) ifs t)(he:N.Nodup->∀cl C s₂ H fp,DE K mg (bY X N scope cl C s₂ H fp) (λ_=>E0) elt p)(hnd:N.Nodup:=by decide)(hc:X.calm=true:=by rfl)(hM:X.N=M:=by rfl)(hkn:X.env.scope.names=kn:=by rfl)(hsub:qF M scope.names sub N=true:=by decide)(hk:scope.kind=.function:=by rfl)(hnc:∀x∈scope.names,x.2 ≠ .cell:=by decide)(f_:∀x∈scope.names,x.2=.local->scope.names.lookup x.1=some .local:=by decide)(hfr:wR kn scope.names=true:=by decide)(hsl:sub.length=N.length:=by rfl)(hs:∀x,foldedSetIterable iter X.env x=pure x:=by intro _;rfl):DE K mg X ES (.ListComp elt [⟨tg,iter,ifs,0⟩] scope pos) (pLC I sub hsb g t p):=
 ⟨PE.imp (Jo hc hi.ok hk hnc f_ (by subst hkn;exact vP hfr) hsl (by subst hM;exact tO hsub) (λcl C s H f=>(hg hnd cl C s H f).ok) (λcl C s H f=>(ht hnd cl C s H f).ok) (λcl C s H f=>(he hnd cl C s H f).ok) hs) DN⟩
def Bl{ow:Bool}{px spos:Pos}{iT:Nat}{xT:Str}{scope:Scope}(hN:X.N.Nodup)(M:List Str)(kn:List (Str×NameKind))(N:List Str)(sub:Pu){hsb:(sub.filterMap id).Nodup}(hi:DI K mg X ES tg iter I)(hg:N.Nodup->∀cl C s₂ H fp,DG K mg (bY X N scope cl C s₂ H fp) tg g)(ht:N.Nodup->∀cl C s₂ H fp,DTs K mg (bY X N scope cl C s₂ H fp) (λ_=>E0) ifs t)(he:N.Nodup->∀cl C s₂ H fp,DE K mg (bY X N scope cl C s₂ H fp) (λ_=>E0) elt p)(hsw:swapsWith (.ListComp elt [⟨tg,iter,ifs,0⟩] scope pos) (some (.Name xT px)) spos.line X.env=pure true:=by rfl)(hnd:N.Nodup:=by decide)(hc:X.calm=true:=by rfl)(hix:X.N[iT]?=some xT:=by rfl)(hxl:Loc X.env.scope xT:=by first |exact Or.inl rfl |exact Or.inr rfl)(hM:X.N=M:=by rfl)(hkn:X.env.scope.names=kn:=by rfl)(hsub:qF M scope.names sub N=true:=by decide)(hk:scope.kind=.function:=by rfl)(hnc:∀x∈scope.names,x.2 ≠ .cell:=by decide)(f_:∀x∈scope.names,x.2=.local->scope.names.lookup x.1=some .local:=by decide)(hfr:wR kn scope.names=true:=by decide)(hsl:sub.length=N.length:=by rfl)(hs:∀x,foldedSetIterable iter X.env x=pure x:=by intro _;rfl)(hf:X.fn xT=true\/X.env.scope.names.lookup xT=some .local:=by first |exact .inl rfl |exact .inr rfl |assumption):DS K mg X ES (.Assign [.Name xT px] (.ListComp elt [⟨tg,iter,ifs,0⟩] scope pos) spos) (ay ow iT (pLC I sub hsb g t p)):=
 ⟨PS.imp (G4 hc hN hix hxl hi.ok hk hnc f_ (by subst hkn;exact vP hfr) hsl (by subst hM;exact tO hsub) (λcl C s H f=>(hg hnd cl C s H f).ok) (λcl C s H f=>(ht hnd cl C s H f).ok) (λcl C s H f=>(he hnd cl C s H f).ok) hsw hs hf) λD σ H q=>DN σ H _ (yV D σ H q)⟩
end
inductive R3F where
 |ok (r:Rt) (mv:List Val) |exc (c:Str) (mv:List Val) |stuck
abbrev Fn3:=List Val->R3F
noncomputable def sl1 (b:Bool) (v:Val):Sl:=if b=true then .mu v else .sh v
noncomputable def sls (ms:List Bool) (vs:List Val):E3:=List.zipWith sl1 ms vs
noncomputable def aC:List Bool->List Val->E3
 |true::ms,v::vs=>.mu v::aC ms vs
 |true::ms,[]=>.no::aC ms []
 |false::ms,vs=>.no::aC ms vs
 | [],_=>[]
noncomputable def muV:List Bool->E3->Option (List Val)
 |true::ms,.mu v::e=>(muV ms e).map (v :: ·)
 |true::_,_=>none
 |false::ms,_::e=>muV ms e
 |false::_,[]=>none
 | [],_=>some []
noncomputable def fnV (ms:List Bool) (N:Nat) (F:MS3):Fn3:=λvs=>if vs.length=ms.length then (match F (sls ms vs++List.replicate (N-vs.length) .no) with
 |.nx e=>(match muV ms e with |some mv=>.ok (.val .non) mv |none=>.stuck)
 |.rt r e=>(match muV ms e with |some mv=>.ok r mv |none=>.stuck)
 |.exc c e=>(match muV ms e with |some mv=>.exc c mv |none=>.stuck)
 |_=>.stuck) else .stuck
def fi{ms:List Bool}{vs:List Val}{i:Nat}{s:Sl}(q:(sls ms vs)[i]?=some s):∃b v,ms[i]?=some b/\vs[i]?=some v/\s=sl1 b v:=by
 unfold sls at q;rw[N3] at q;cases h1:ms[i]? with
 |none=>rw[h1] at q;cases q
 |
  some b=>
  cases h2:vs[i]? with
  |none=>rw[h1,h2] at q;cases q
  |some v=>rw[h1,h2] at q;cases q;exact⟨b,v,rfl,rfl,rfl⟩
theorem ij:∀{ms:List Bool}{e:E3}{mv:List Val}{i:Nat}{s:Sl},muV ms e=some mv->(aC ms mv)[i]?=some s->(ms[i]?=some false/\s=.no)\/(ms[i]?=some true/\∃v,e[i]?=some (.mu v)/\s=.mu v)
 | [],_,_,_,_,_,q=>by unfold aC at q;simp at q
 |
  true::ms,.mu v::e,mv,i,s,q,q2=>by
  obtain⟨mv',z1,z2⟩:=MN.mp (show (muV ms e).map (v :: ·)=some mv from q);subst z2;cases i with
  |zero=>
   right;have:Sl.mu v=s:=by simpa [aC] using q2
   subst this;exact⟨rfl,v,rfl,rfl⟩
  |
   succ i=>
   have:=ij (i:=i) (s:=s) z1 (by simpa [aC] using q2)
   simpa using this
 |true::ms,[],mv,i,s,q,q2=>by cases q
 |true::ms,.no::e,mv,i,s,q,q2=>by cases q
 |true::ms,.sh v::e,mv,i,s,q,q2=>by cases q
 |true::ms,.ow v::e,mv,i,s,q,q2=>by cases q
 |true::ms,.lo v::e,mv,i,s,q,q2=>by cases q
 |true::ms,.lm v::e,mv,i,s,q,q2=>by cases q
 |false::ms,[],mv,i,s,q,q2=>by cases q
 |
  false::ms,t::e,mv,i,s,q,q2=>by
  cases i with
  |zero=>
   left;have:Sl.no=s:=by simpa [aC] using q2
   exact⟨rfl,this.symm⟩
  |
   succ i=>
   have:=ij (i:=i) (s:=s) (show muV ms e=some mv from q) (by simpa [aC] using q2)
   simpa using this
theorem oy:∀{ms:List Bool}{e:E3}{mv:List Val}{i:Nat},muV ms e=some mv->ms[i]?=some true->∃v,e[i]?=some (.mu v)/\(aC ms mv)[i]?=some (.mu v)
 | [],_,_,i,_,q=>by simp at q
 |
  true::ms,.mu v::e,mv,i,q,q2=>by
  obtain⟨mv',z1,z2⟩:=MN.mp (show (muV ms e).map (v :: ·)=some mv from q);subst z2;cases i with
  |zero=>exact⟨v,rfl,rfl⟩
  |succ i=>obtain⟨u,y1,y2⟩:=oy (i:=i) z1 (by simpa using q2);exact⟨u,by simpa using y1,by simpa [aC] using y2⟩
 |true::ms,[],mv,i,q,q2=>by cases q
 |true::ms,.no::e,mv,i,q,q2=>by cases q
 |true::ms,.sh v::e,mv,i,q,q2=>by cases q
 |true::ms,.ow v::e,mv,i,q,q2=>by cases q
 |true::ms,.lo v::e,mv,i,q,q2=>by cases q
 |true::ms,.lm v::e,mv,i,q,q2=>by cases q
 |false::ms,[],mv,i,q,q2=>by cases q
 |
  false::ms,t::e,mv,i,q,q2=>by
  cases i with
  |zero=>simp at q2
  |succ i=>obtain⟨u,y1,y2⟩:=oy (i:=i) (show muV ms e=some mv from q) (by simpa using q2);exact⟨u,by simpa using y1,by simpa [aC] using y2⟩
theorem ia:∀{ms:List Bool}{mv:List Val},(aC ms mv).length=ms.length
 | [],_=>rfl
 |true::ms,v::mv=>by show (aC ms mv).length+1=ms.length+1;rw[ia]
 |true::ms,[]=>by show (aC ms []).length+1=ms.length+1;rw[ia]
 |false::ms,mv=>by show (aC ms mv).length+1=ms.length+1;rw[ia]
noncomputable def i6 (i:Nat):List Tm->Bool
 |.bor j::ts=>(i==j) || i6 i ts
 |_::ts=>i6 i ts
 | []=>false
noncomputable def j9 (i:Nat):List Bool->List Tm->Bool
 |true::ms,.bor j::ts=>(i==j) || j9 i ms ts
 |_::ms,_::ts=>j9 i ms ts
 |_,_=>false
noncomputable def okA (e:E3):List Bool->List Tm->Bool
 |true::ms,.bor i::ts=>((e[i]?).bind Sl.mv).isSome && !(i6 i ts)&&okA e ms ts
 |true::_,_::_=>false
 |false::ms,.bor i::ts=>!(j9 i ms ts)&&okA e ms ts
 |false::ms,_::ts=>okA e ms ts
 | [],[]=>true
 |_,_=>false
noncomputable def oX (b:Bool) (t:Tm):Option Nat:=match b,t with
 |true,.bor i=>some i
 |_,_=>none
noncomputable def aO (ms:List Bool) (ts:List Tm):List (Option Nat):=List.zipWith oX ms ts
noncomputable def aN (e:E3):List Bool->List Tm->List Nat
 |false::ms,.bor i::ts=>(match e[i]? with
  |some (.sh _)=>aN e ms ts
  |_=>i::aN e ms ts)
 |_::ms,_::ts=>aN e ms ts
 |_,_=>[]
mutual
def flatV:Val->Bool
 |.tup xs=>cV xs
 |.lst _=>false
 |.kl _=>false
 |.dct _=>false
 |.set _=>false
 |_=>true
def cV:List Val->Bool
 | []=>true
 |v::vs=>flatV v&&cV vs
end
noncomputable def nj:List (Key×Val)->Bool
 | []=>true
 |(_,v)::vs=>flatV v&&nj vs
noncomputable def cI:Val->Bool
 |.lst xs=>cV xs
 |.dct xs=>nj xs
 |.set _=>true
 |_=>false
noncomputable def kZ:Rt->Bool
 |.val v=>flatV v
 |.new v=>cI v
 |.par _=>true
 |.pr v u=>flatV v&&cI u
noncomputable def oq (e:E3):List Nat->Option E3
 | []=>some e
 |i::is=>match df e (.bor i) with
  |some (e1,_)=>oq e1 is
  |none=>none
noncomputable def Rt.tm (ts:List Tm):Rt->Tm
 |.val v=>.val v
 |.new v=>.new v
 |.par i=>(ts[i]?).getD (.val .non)
 |.pr v u=>.val (.tup [v,u])
noncomputable def Dg (ms:List Bool) (G:Fn3) (A:MA3) (e:E3):R3 Tm:=(A e).bind λts e1=>match rss e1 ts with
 |none=>.stuck
 |some vs=>if okA e1 ms ts=true then (match G vs with
  |.stuck=>.stuck
  |.ok r mv=>if (aN e1 ms ts).isEmpty || (kZ r&&mv.all cI) then .ok (r.tm ts) (aX (aO ms ts) (aC ms mv) e1) else (match oq e1 (aN e1 ms ts) with
   |some e2=>.ok (r.tm ts) (aX (aO ms ts) (aC ms mv) e2)
   |none=>.stuck)
  |.exc c mv=>if (aN e1 ms ts).isEmpty || mv.all cI then .exc c (aX (aO ms ts) (aC ms mv) e1) else .stuck) else .stuck
section
variable{K:W.Frag}{mg:Pp}{P P':Addr->Prop}{H H':Hp}
def Rd.flat(l:LeH H H')(f:flatV v=true)(r:Rd K mg P H d v):Rd K mg P' H' d v:=
 @Rd.rec K mg P H (λd v _=>flatV v=true->Rd K mg P' H' d v) (λo v _=>flatV v=true->Rd K mg P' H' .non v) (λds vs _=>cV vs=true->Rds K mg P' H' ds vs) (λws us _=>True) (λ_=>.non) (λb _=>.bl b) (λi _=>.int i) (λx _=>.str x) (λn _=>.ty n) (λm _=>.glb m) (λm e _=>.exc m (l.ext _ _ e)) (λh _ ih f=>.tup (l.sqT h) (ih f)) (λ_ _ _ f=>absurd f w_) (λ_ _ r _ f=>by cases r <;> exact absurd f w_) (λ_ _ f=>absurd f w_) (λ_ _ f=>absurd f w_) (λ_ _ f=>absurd f w_) (λ_ _ f=>absurd f w_) (λ_=>.nil) (λ_ _ a b f=>.cons (a (t_ .. ▸ f).1) (b (t_ .. ▸ f).2)) trivial (λ_ _ _ _=>trivial) d v r f
def Rds.flat(l:LeH H H')(f:cV v=true)(r:Rds K mg P H ds v):Rds K mg P' H' ds v:=
 r.ind (M:=λds vs=>cV vs=true->Rds K mg P' H' ds vs) (λ_=>.nil) (λr _ ih f=>by rw[cV,t_] at f;exact .cons (Rd.flat l f.1 r) (ih f.2)) f
def Rk.flat(l:LeH H H')(f:nj v=true)(r:Rk K mg P H ds v):Rk K mg P' H' ds v:=
 r.ind (M:=λds vs=>nj vs=true->Rk K mg P' H' ds vs) (λ_=>.nil) (λr _ ih f=>by rw[nj,t_] at f;exact .cons (Rd.flat l f.1 r) (ih f.2)) f
def Rc.flat(l:LeH H H')(f:cI v=true)(r:Rc K mg P H o v):Rc K mg P' H' o v:=by
 cases r with
 |lst r=>exact .lst (Rds.flat l (by simpa [cI] using f) r)
 |fz r=>simp [cI] at f
 |dct r=>exact .dct (Rk.flat l (by simpa [cI] using f) r)
 |set xs nd=>exact .set xs nd
end
structure PFn where
 ms:List Bool
 G:Fn3
def nn(H:Hp)(a:Addr):Prop:=H a=none
def sp3(K:W.Frag)(mg:Pp)(f:PFn):Sp:=λvs H Q E=>∃Y ps us,us.length=f.ms.length/\Sat K mg Y (nn H) ps (sls f.ms us) (vs.map some) H/\match f.G us with
 |.ok r mv=>∀x H',Stp ps (sls f.ms us) H ps (aC f.ms mv) H'->RtR K mg Y (nn H) ps (aC f.ms mv) (vs.map some) H' x r->Q x H'
 |.exc c mv=>∀C H',Stp ps (sls f.ms us) H ps (aC f.ms mv) H'->Sat K mg Y (nn H) ps (aC f.ms mv) (vs.map some) H'->mg c=some (.ref C)->E (.ref C) none H'
 |.stuck=>False
noncomputable def fnP (ms:List Bool) (N:Nat) (c:PSt):PFn:=⟨ms,fnV ms N c.G⟩
section
variable{K:W.Frag}{mg:Pp}{X N0:Addr->Prop}{ps:Ns}{e:E3}{H H':Hp}{ms:List Bool}{us:List Val}{vs:List V}{k:Nat}
def Ef(S:Sat K mg X N0 ps e σ H):Sat K mg X N0 (ps++List.replicate k none) (e++List.replicate k .no) (σ++List.replicate k none) H:=by
 have gns:∀{i n:Nat},(ps++List.replicate k (none:Option Addr))[i]?=some (some n)->ps[i]?=some (some n):=λ{i n} q=>by
  rw[O8] at q;split at q
  .exact q
  .rw[Ny] at q;split at q <;> cases q
 refine⟨?_,?_,S.lh,S.xl,λi j n q1 q2=>S.inj i j n (gns q1) (gns q2),λi n q=>S.nx i n (gns q),λi s q=>?_,S.bs⟩
 .rw[L_,L_,N4,N4,S.l1]
 .rw[L_,L_,N4,N4,S.l2]
 .rw[O8] at q;split at q
  .rename_i hi;rw[M5 (by rw[S.l2];exact hi),M5 (by rw[S.l1];exact hi)];exact (S.sl i s q).mono (.of λn p=>⟨p.1,λz=>p.2 (by obtain⟨j,z⟩:=aY.mp z;exact aY.mpr ⟨j,gns z⟩)⟩) λ_ _ _ q _=>q
  .rename_i hi;rw[Ny] at q;split at q
   .cases q;rw[N8 (by rw[S.l2];exact Nat.le_of_not_lt hi),Ny,if_pos (by rw[S.l2];assumption)];rfl
   .cases q
def jl{Y:Addr->Prop}(hl:us.length=ms.length)(S:Sat K mg X N0 ps (sls ms us) σ H)(hXY:∀n,X n->Y n)(a:Stp (ps++List.replicate k none) (sls ms us++List.replicate k .no) H ns' e' H')(S2:Sat K mg Y N0 ns' e' σ' H')(qm:muV ms e'=some mv):
 Stp ps (sls ms us) H ps (aC ms mv) H'/\Sat K mg Y N0 ps (aC ms mv) σ H'/\∀n,Oc Y ns' n->Oc Y ps n:=by
 have lS:(sls ms us).length=ms.length:=by unfold sls;rw[NT];omega
 have ltS:∀{i:Nat},i<ms.length->i<(sls ms us).length:=λh=>by omega
 have ltP:∀{i:Nat},i<(sls ms us).length->i<ps.length:=λh=>S.l2.symm ▸ h;have kmu:∀{i:Nat},ms[i]?=some true->∃v u n o,e'[i]?=some (.mu v)/\(aC ms mv)[i]?=some (.mu v)/\(sls ms us)[i]?=some (.mu u)/\ns'[i]?=ps[i]?/\ps[i]?=some (some n)/\σ[i]?=some (some (.ref n))/\H' n=some o/\NotFz o/\Rc K mg (Oc Y ns') H' o v:=by intro i hi;obtain⟨v,y1,y2⟩:=oy qm hi;have hil:i<ms.length:=(B_.mp hi).1;obtain⟨u,y3,y4⟩:=a.mu i v y1;rw[M5 (ltS hil)] at y3;rw[M5 (ltP (ltS hil))] at y4;obtain⟨n,o,z1,z2,_⟩:=S.sl i _ y3;obtain⟨n',o',w1,w2,w3,w4,w5⟩:=S2.sl i _ y1;rw[y4,z1] at w1;cases w1;exact⟨v,u,n,o',y1,y2,y3,y4,z1,z2,w3,w4,w5⟩
 have kown:∀{i n:Nat},ps[i]?=some (some n)->ms[i]?=some true:=λ{i n} q=>by
  obtain⟨s,v,o,z1,z2,_⟩:=S.own q;obtain⟨b,u,y1,_,y2⟩:=fi z1;cases b with
  |true=>exact y1
  |false=>subst y2;rcases z2 with z2 |z2 <;> cases z2
 have koc:∀n,Oc Y ns' n->Oc Y ps n:=λn z=>⟨z.1,λy=>by obtain⟨i,y⟩:=aY.mp y;obtain⟨v,u,n',o,_,_,_,k1,k2,_⟩:=kmu (kown y);exact z.2 (aY.mpr ⟨i,by rw[k1];exact y⟩)⟩;refine⟨⟨a.le,a.dom,λm o q ht hm=>a.keep m o q ht λ⟨i,s,z1,z2,z3⟩=>hm ?_,λ_ _ q=>.inl q,λi s q hl'=>?_,λi s q hl'=>?_,λi v q=>?_,λi v q=>?_⟩,⟨?_,?_,λn z=>S.lh n (a.dom n z),S2.xl,S.inj,λi n q z=>?_,λi s q=>?_,S2.bs⟩,koc⟩
 .rw[O8] at z1;split at z1
  .rename_i hi;rw[M5 (by rw[<- S.l2];exact hi)] at z2;exact⟨i,s,z1,z2,z3⟩
  .rw[Ny] at z1;split at z1 <;> cases z1
 .obtain⟨b,u,_,_,y⟩:=fi q;subst y;cases b <;> cases hl'
 .rcases ij qm q with ⟨_,z⟩ |⟨_,v,_,z⟩ <;> subst z <;> cases hl'
 .rcases ij qm q with ⟨_,z⟩ |⟨z,_⟩
  .cases z
  .obtain⟨v',u,n,o,_,_,k1,_⟩:=kmu z;exact⟨u,k1,rfl⟩
 .obtain⟨b,u,y1,_,y2⟩:=fi q;cases b with
  |false=>cases y2
  |true=>obtain⟨v',u,n,o,_,k0,k1,_⟩:=kmu y1;exact⟨v',k0,rfl⟩
 .rw[S.l1,ia];exact lS
 .rw[S.l2,ia];exact lS
 .obtain⟨v,u,n',o,_,_,_,k1,k2,_⟩:=kmu (kown q);exact S2.nx i n (by rw[k1];exact q) z
 .rcases ij qm q with ⟨z,rfl⟩ |⟨z,v,z2,rfl⟩
  .have hil:i<ms.length:=(B_.mp z).1;have hi:i<(sls ms us).length:=ltS hil;obtain⟨b,u,y1,_,y2⟩:=fi (C_ hi);rw[z] at y1;cases y1;have k:=S.sl i _ (C_ hi);rw[y2] at k;exact k.1
  .obtain⟨v',u,n,o,k0,_,_,k1,k2,k3,k4,k5,k6⟩:=kmu z;rw[z2] at k0;cases k0;exact⟨n,o,k2,k3,k4,k5,k6.mono (.of koc)⟩
variable{P:Program}{w:World}{base:Heap}{fx:Str}{n_:Stmt}{n m:Nat}{pn N:List Str}{x:PSt}
def rP(sp:sp3 K mg (fnP ms m x) vs H Q E):vs.length=ms.length:=by obtain⟨Y,ps,us,hl,S,_⟩:=sp;have q:=S.l1;unfold sls at q;rw[p_,NT] at q;have hl':us.length=ms.length:=hl;have:(fnP ms m x).ms=ms:=rfl;rw[this] at q;omega
def tL{Q:VK}{E:XK}(sp:sp3 K mg (fnP ms N.length x) vs H Q E):rdS K mg (λ_=>E) x.G { nx:=λ_ H'=>Q .non H',rt:=Q } (f6 N vs) H:=by
 have hv:=rP sp;obtain⟨Y,ps,us,hl,S0,p⟩:=sp;have hl:us.length=ms.length:=hl;have S0:Sat K mg Y (nn H) ps (sls ms us) (vs.map some) H:=S0;have S1:=Ef (k:=N.length-vs.length) S0;refine⟨Y,nn H,_,_,S1,?_⟩;have p:match fnV ms N.length x.G us with
  |.ok r mv=>∀y H',Stp ps (sls ms us) H ps (aC ms mv) H'->RtR K mg Y (nn H) ps (aC ms mv) (vs.map some) H' y r->Q y H'
  |.exc c mv=>∀C H',Stp ps (sls ms us) H ps (aC ms mv) H'->Sat K mg Y (nn H) ps (aC ms mv) (vs.map some) H'->mg c=some (.ref C)->E (.ref C) none H'
  |.stuck=>False:=p
 unfold fnV at p;rw[if_pos hl] at p;have hvu:us.length=vs.length:=by omega
 rw[hvu] at p;cases q:x.G (sls ms us++List.replicate (N.length-vs.length) .no) with
 |stuck=>rw[q] at p;exact p.elim
 |bk _=>rw[q] at p;exact p.elim
 |ct _=>rw[q] at p;exact p.elim
 |
  nx e'=>
  rw[q] at p;intro H' σ' ns' a S2;try dsimp only at p
  cases qm:muV ms e' with
  |none=>rw[qm] at p;exact p.elim
  |some mv=>rw[qm] at p;obtain⟨a3,S3,koc⟩:=jl hl S0 (λ_ z=>z) a S2 qm;exact p _ _ a3 ⟨S3,.non⟩
 |
  exc c e'=>
  rw[q] at p;intro H' σ' ns' C a S2 hC;try dsimp only at p
  cases qm:muV ms e' with
  |none=>rw[qm] at p;exact p.elim
  |some mv=>rw[qm] at p;obtain⟨a3,S3,koc⟩:=jl hl S0 (λ_ z=>z) a S2 qm;exact p _ _ a3 S3 hC
 |
  rt r e'=>
  rw[q] at p;intro H' σ' ns' y a rr;try dsimp only at p
  cases qm:muV ms e' with
  |none=>rw[qm] at p;exact p.elim
  |
   some mv=>
   rw[qm] at p;cases r with
   |val v=>obtain⟨a3,S3,koc⟩:=jl hl S0 (λ_ z=>z) a rr.1 qm;exact p _ _ a3 ⟨S3,rr.2.mono (.of koc)⟩
   |new v=>obtain⟨n,o,z1,z2,z3,z4,z5,z6,z7⟩:=rr;obtain⟨a3,S3,koc⟩:=jl (Y:=Xn Y n) hl S0 (λ_ z=>.inl z) a z6 qm;exact p _ _ a3 ⟨n,o,z1,z2,z3,z4,z5,S3,z7.mono (.of koc)⟩
   |pr v u=>obtain⟨pp,d1,n,o,z0,z1,z2,z3,z4,z5,z6,z7,z8⟩:=rr;obtain⟨a3,S3,koc⟩:=jl (Y:=Xn Y n) hl S0 (λ_ z=>.inl z) a z6 qm;exact p _ _ a3 ⟨pp,d1,n,o,z0,z1,z2,z3,z4,z5,S3,z7.mono (.of koc),z8.mono (.of koc)⟩
   |
    par i=>
    obtain⟨R1,R2,v,R3⟩:=rr;obtain⟨a3,S3,koc⟩:=jl hl S0 (λ_ z=>z) a R1 qm;refine p _ _ a3 ⟨S3,?_,?_⟩;all_goals
     obtain⟨u,k1,k2⟩:=a.mu i v R3;have hi:i<(sls ms us).length:=by apply Decidable.byContradiction;intro hi;rw[N8 (Nat.le_of_not_lt hi),Ny] at k1;split at k1 <;> cases k1
     rw[M5 hi] at k1;rw[M5 (by rw[S0.l2];exact hi)] at k2;obtain⟨m,o,w1,w2,_⟩:=S0.sl i _ k1
    .obtain⟨m',o',x1,x2,_⟩:=R1.sl i _ R3;rw[k2,w1] at x1;cases x1;rw[R2] at x2;cases x2;exact w2
    .obtain⟨v',y,_⟩:=a3.mu' i u k1;exact⟨v',y⟩
def okP(D:Def K mg fx n_)(S:FnScope N pn (ar n_))
 (hb:∀(kV doc pm:Value) (an:Option Addr) (cdv ct:Value) (us:List Value),us.length=pn.length->bindArgs (W.fnOf fx fx (dm n_) (bG n_) (ar n_) .none kV doc pm an cdv ct) ⟨us,[]⟩=pure (pn.zip us))
 (j_:N.Nodup->∀(f:Addr) (cdv:Value) (A:Around) (outer:List Env) (s:Shared) (H:Hp) (E:XK),Room k (A.deeper (envOfC fx (ar n_) s.heap.objs.size f cdv))->
  DSs K mg (eJ (CX1 P w) P w K mg base N fx (ar n_) f cdv A outer s H E) (λ_=>E) (bG n_) x) (hn:ms.length=pn.length:=by rfl) (hm:N.length=m:=by rfl):Callee P w K mg base fx (k+1) pn (sp3 K mg (fnP ms m x)):=by
 subst hm;exact D.okR S hb (λvs H Q E sp=>by rw[<- hn];exact rP sp) λf cdv A outer s H vs Q E hr sp=>⟨_,(j_ S.nd f cdv A outer s H E hr).ok,tL sp⟩
end
theorem o7:∀{ts:List Tm}{k:Nat},ts[k]?=some (.bor i)->i6 i ts=true
 | [],_,q=>by simp at q
 |
  t::ts,0,q=>by
  have:t=.bor i:=by simpa using q
  subst this;simp [i6]
 |
  t::ts,k+1,q=>by
  have:=o7 (ts:=ts) (k:=k) (by simpa using q)
  cases t <;> simp [i6,this]
theorem vY:∀{ms:List Bool}{ts:List Tm}{k:Nat},ms[k]?=some true->ts[k]?=some (.bor i)->j9 i ms ts=true
 | [],_,_,q,_=>by simp at q
 |_::_,[],_,_,q=>by simp at q
 |
  b::ms,t::ts,0,q1,q=>by
  have:t=.bor i:=by simpa using q
  have:b=true:=by simpa using q1
  subst_vars;simp [j9]
 |
  b::ms,t::ts,k+1,q1,q=>by
  have:=vY (ms:=ms) (ts:=ts) (k:=k) (by simpa using q1) (by simpa using q)
  cases b <;> cases t <;> simp [j9,this]
theorem lB:∀{ms:List Bool}{ts:List Tm}{k:Nat},okA e ms ts=true->ms[k]?=some true->∃i,ts[k]?=some (.bor i)/\∃u,(e[i]?).bind Sl.mv=some u
 | [],_,_,_,q=>by simp at q
 |b::ms,[],_,o,_=>by cases b <;> simp [okA] at o
 |
  b::ms,t::ts,0,o,q=>by
  have:b=true:=by simpa using q
  subst this;cases t with
  |bor i=>simp only[okA,t_] at o;exact⟨i,rfl,Nu.mp o.1.1⟩
  |_=>simp [okA] at o
 |
  b::ms,t::ts,k+1,o,q=>by
  have o':okA e ms ts=true:=by cases b <;> cases t <;> simp only[okA,t_] at o <;> first |exact o.2 |exact o |(simp at o;done)
  obtain⟨i,y⟩:=lB (k:=k) o' (by simpa using q);exact⟨i,by simpa using y⟩
theorem jz:∀{ms:List Bool}{ts:List Tm}{k j i:Nat},okA e ms ts=true->ms[k]?=some true->ts[k]?=some (.bor i)->ts[j]?=some (.bor i)->j=k
 | [],_,_,_,_,_,q,_,_=>by simp at q
 |b::ms,[],_,_,_,o,_,_,_=>by cases b <;> simp [okA] at o
 |b::ms,t::ts,0,0,i,o,q1,q2,q3=>rfl
 |
  b::ms,t::ts,0,j+1,i,o,q1,q2,q3=>by
  have h1:b=true:=by simpa using q1
  have h2:t=.bor i:=by simpa using q2
  subst h1 h2;simp only[okA,t_] at o
  have:=o7 (i:=i) (ts:=ts) (k:=j) (by simpa using q3)
  rw[this] at o;simp at o
 |
  b::ms,t::ts,k+1,0,i,o,q1,q2,q3=>by
  have h2:t=.bor i:=by simpa using q3
  subst h2;have hm:=vY (i:=i) (ms:=ms) (ts:=ts) (k:=k) (by simpa using q1) (by simpa using q2);have hb:=o7 (i:=i) (ts:=ts) (k:=k) (by simpa using q2);cases b <;> simp [okA,hm,hb] at o
 |
  b::ms,t::ts,k+1,j+1,i,o,q1,q2,q3=>by
  have o':okA e ms ts=true:=by cases b <;> cases t <;> simp only[okA,t_] at o <;> first |exact o.2 |exact o |(simp at o;done)
  exact MK (· + 1) (jz (k:=k) (j:=j) (i:=i) o' (by simpa using q1) (by simpa using q2) (by simpa using q3))
theorem oM:∀{ms:List Bool}{ts:List Tm},okA e ms ts=true->ms.length=ts.length
 | [],[],_=>rfl
 | [],_::_,o=>by simp [okA] at o
 |b::ms,[],o=>by cases b <;> simp [okA] at o
 |
  b::ms,t::ts,o=>by
  have o':okA e ms ts=true:=by cases b <;> cases t <;> simp only[okA,t_] at o <;> first |exact o.2 |exact o |(simp at o;done)
  exact MK (· + 1) (oM o')
theorem lT:∀{ms:List Bool}{ts:List Tm}{k i:Nat},ms[k]?=some false->ts[k]?=some (.bor i)->(∀v,e[i]?≠some (.sh v))->i∈aN e ms ts
 | [],_,_,_,q,_,_=>by simp at q
 |_::_,[],_,_,_,q,_=>by simp at q
 |
  b::ms,t::ts,0,i,q1,q2,hn=>by
  have h1:b=false:=by simpa using q1
  have h2:t=.bor i:=by simpa using q2
  subst h1 h2;unfold aN;split
  .rename_i v q;exact absurd q (hn v)
  .exact s_ ..
 |
  b::ms,t::ts,k+1,i,q1,q2,hn=>by
  have ih:=lT (ms:=ms) (ts:=ts) (k:=k) (by simpa using q1) (by simpa using q2) hn;cases b <;> cases t <;> simp only[aN] <;> first |exact ih |(split;exact ih;exact q_ _ ih)
def eZ{ms:List Bool}{ts:List Tm}{k i:Nat}(q:(aO ms ts)[k]?=some (some i)):ms[k]?=some true/\ts[k]?=some (.bor i):=by
 unfold aO at q;rw[N3] at q;cases h1:ms[k]? with
 |none=>rw[h1] at q;cases q
 |
  some b=>
  cases h2:ts[k]? with
  |none=>rw[h1,h2] at q;cases q
  |some t=>rw[h1,h2] at q;have q':oX b t=some i:=J_ q;cases b <;> cases t <;> first |(cases q';done) |(cases q';exact⟨rfl,rfl⟩)
def FG{ms:List Bool}{ts:List Tm}{k i:Nat}(q1:ms[k]?=some true)(q2:ts[k]?=some (.bor i)):(aO ms ts)[k]?=some (some i):=by unfold aO;rw[N3,q1,q2];rfl
theorem uO:∀{ts:List Tm}{vs:List Val}{k:Nat}{v:Val},rss e ts=some vs->vs[k]?=some v->∃t,ts[k]?=some t/\rs e t=some v
 | [],_,_,_,q,q2=>by cases q;simp at q2
 |
  t::ts,vs,k,v,q,q2=>by
  unfold rss at q;split at q
  .rename_i u us e1 e2;cases q;cases k with
   |zero=>
    have:u=v:=by simpa using q2
    subst this;exact⟨t,rfl,e1⟩
   |succ k=>obtain⟨t',y1,y2⟩:=uO (k:=k) e2 (by simpa using q2);exact⟨t',by simpa using y1,y2⟩
  .cases q
theorem oa:∀{ts:List Tm}{vs:List Val},rss e ts=some vs->vs.length=ts.length
 | [],_,q=>by cases q;rfl
 |
  t::ts,vs,q=>by
  unfold rss at q;split at q
  .rename_i u us e1 e2;cases q;exact MK (· + 1) (oa e2)
  .cases q
theorem jH:∀{ms:List Bool}{mv:List Val}{j:Nat}{v:Val},(aC ms mv)[j]?=some (.mu v)->v∈mv
 | [],_,_,_,q=>by simp [aC] at q
 |true::ms,u::mv,0,v,q=>by
  have:Sl.mu u=.mu v:=by simpa [aC] using q
  cases this;exact s_ ..
 |true::ms,u::mv,j+1,v,q=>q_ _ (jH (ms:=ms) (mv:=mv) (j:=j) (by simpa [aC] using q))
 |true::ms,[],0,v,q=>by simp [aC] at q
 |true::ms,[],j+1,v,q=>jH (ms:=ms) (mv:=[]) (j:=j) (by simpa [aC] using q)
 |false::ms,mv,0,v,q=>by simp [aC] at q
 |false::ms,mv,j+1,v,q=>jH (ms:=ms) (mv:=mv) (j:=j) (by simpa [aC] using q)
theorem l8:∀{ms:List Bool}{ts:List Tm}{i:Nat},i∈aN e ms ts->∃k:Nat,ms[k]?=some false/\ts[k]?=some (.bor i)
 | [],_,_,q=>by simp [aN] at q
 |_::_,[],_,q=>by simp [aN] at q
 |
  b::ms,t::ts,i,q=>by
  have up:i∈aN e ms ts->∃k:Nat,(b::ms)[k]?=some false/\(t::ts)[k]?=some (.bor i):=λz=>by obtain⟨k,y1,y2⟩:=l8 z;exact⟨k+1,by simpa using y1,by simpa using y2⟩
  cases b <;> cases t <;> simp only[aN] at q <;> first |exact up q |skip
  split at q
  .exact up q
  .rcases G_.mp q with rfl |q
   .exact⟨0,rfl,rfl⟩
   .exact up q
def ET(q:df e (.bor i)=some (e1,v)):(∀j,j≠i->e1[j]?=e[j]?)/\e1[i]?=some (.sh v)/\(e[i]?).bind Sl.val=some v:=by
 unfold df at q;dsimp only at q;split at q
 .rename_i u q1;cases q;exact⟨λ_ _=>rfl,q1,by rw[q1];rfl⟩
 .rename_i u q1;cases q;exact⟨λj z=>cK z,du (B_.mp q1).1,by rw[q1];rfl⟩
 .cases q
theorem pC:∀{ms:List Bool}{ts:List Tm},(∀(k i:Nat),ms[k]?=some true->ts[k]?=some (.bor i)->e2[i]?=e[i]?)->okA e ms ts=true->okA e2 ms ts=true
 | [],[],_,o=>rfl
 | [],_::_,_,o=>by simp [okA] at o
 |b::ms,[],_,o=>by cases b <;> simp [okA] at o
 |
  b::ms,t::ts,hk,o=>by
  have o':okA e ms ts=true:=by cases b <;> cases t <;> simp only[okA,t_] at o <;> first |exact o.2 |exact o |(simp at o;done)
  have ih:=pC (λk i q1 q2=>hk (k+1) i (by simpa using q1) (by simpa using q2)) o';cases b with
  |false=>cases t <;> simp only[okA,t_] at o ⊢ <;> first |exact⟨o.1,ih⟩ |exact ih
  |
   true=>
   cases t with
   |bor i=>simp only[okA,t_] at o ⊢;rw[hk 0 i rfl rfl];exact⟨o.1,ih⟩
   |_=>simp [okA] at o
theorem sx:∀{ms:List Bool}{ts:List Tm},(∀(k i:Nat),ms[k]?=some false->ts[k]?=some (.bor i)->∃v,e[i]?=some (.sh v))->aN e ms ts=[]
 | [],_,_=>by simp [aN]
 |_::_,[],_=>by simp [aN]
 |
  b::ms,t::ts,hk=>by
  have ih:=sx (λk i q1 q2=>hk (k+1) i (by simpa using q1) (by simpa using q2));cases b <;> cases t <;> simp only[aN] <;> first |exact ih |skip
  rename_i i;obtain⟨v,q⟩:=hk 0 i rfl rfl;rw[q];exact ih
theorem pj(hv:∀i:Nat,(e2[i]?).bind Sl.val=(e[i]?).bind Sl.val):∀(ts:List Tm),rss e2 ts=rss e ts
 | []=>rfl
 |
  t::ts=>by
  unfold rss;rw[pj hv ts];have:rs e2 t=rs e t:=by
   cases t with
   |bor i=>exact hv i
   |_=>rfl
  rw[this]
def A9(ok:okA e ms ts=true):Lnk (aO ms ts) e (sls ms vs):=by
 refine⟨λj k i q1 q2=>jz ok (eZ q2).1 (eZ q2).2 (eZ q1).2,λj v q=>?_,λj s q hm=>?_⟩
 .obtain⟨b,u,q1,_,q2⟩:=fi q;cases b with
  |false=>cases q2
  |true=>obtain⟨i,y1,w,y2⟩:=lB ok q1;obtain⟨s,z1,z2⟩:=MY.mp y2;exact⟨i,s,FG q1 y1,z1,by cases s <;> first |rfl |cases z2⟩
 .obtain⟨b,u,q1,_,q2⟩:=fi q;cases b with
  |false=>subst q2;cases hm
  |true=>exact⟨u,q2⟩
section
variable{K:W.Frag}{mg:Pp}{X N0 L:Addr->Prop}{ns:Ns}{e e2:E3}{σ:St}{H H':Hp}{ms:List Bool}{ts:List Tm}{ds:List V}{vs:List Val}{E:XK}{Q:VK}
theorem TsR.get:∀{ds:List V}{ts:List Tm}{k:Nat}{t:Tm},TsR K mg X ns σ H ds ts->ts[k]?=some t->∃d,ds[k]?=some d/\((∃v,t=.val v/\Rd K mg (Oc X ns) H d v)\/∃i,t=.bor i/\σ[i]?=some (some d))
 |_,_,_,_,.nil,q=>by simp at q
 |_,_,0,_,.val r rr,q=>by have:=(by simpa using q:Tm.val _=_);subst this;exact⟨_,rfl,.inl ⟨_,rfl,r⟩⟩
 |_,_,0,_,.bor r rr,q=>by have:=(by simpa using q:Tm.bor _=_);subst this;exact⟨_,rfl,.inr ⟨_,rfl,r⟩⟩
 |_,_,k+1,t,.val r rr,q=>by obtain⟨d,y⟩:=rr.get (k:=k) (by simpa using q);exact⟨d,by simpa using y⟩
 |_,_,k+1,t,.bor r rr,q=>by obtain⟨d,y⟩:=rr.get (k:=k) (by simpa using q);exact⟨d,by simpa using y⟩
def Xc(X:Addr->Prop)(ns:Ns)(e:E3)(ms:List Bool)(ts:List Tm)(n:Addr):Prop:=(X n\/some n∈ns)/\some n∉bg (aO ms ts) ns/\∀i∈aN e ms ts,ns[i]?≠some (some n)
def lV(S:Sat K mg X N0 ns e σ H)(rt:TsR K mg X ns σ H ds ts)(qv:rss e ts=some vs)(ok:okA e ms ts=true):
 Sat K mg (Xc X ns e ms ts) (nn H) (bg (aO ms ts) ns) (sls ms vs) (ds.map some) H:=by
 have l1:=oM ok;have l2:=oa qv;have l3:=TsR.len rt;have hs:ng (aO ms ts):=λj k i q1 q2=>jz ok (eZ q2).1 (eZ q2).2 (eZ q1).2;have mv:Mov (Oc X ns) (Oc (Xc X ns e ms ts) (bg (aO ms ts) ns)) H H:=.of λn p=>⟨λz=>by
  rcases z.1 with z |z
  .exact p.1 z
  .exact p.2 z,λz=>p.2 (ub z)⟩
 refine⟨?_,?_,λ_ z=>z,λn z=>?_,λj k n q1 q2=>?_,λj n q z=>z.2.1 (aY.mpr ⟨j,q⟩),λk s q=>?_,S.bs⟩
 .unfold sls;rw[p_,NT];omega
 .unfold bg aO sls;rw[p_,NT,NT];omega
 .rcases z.1 with z |z
  .exact S.xl n z
  .obtain⟨i,z⟩:=aY.mp z;obtain⟨_,_,o,_,_,_,_,q',_⟩:=S.own z;exact⟨o,q'⟩
 .obtain⟨i,y1,y2⟩:=cF q1;obtain⟨i',y3,y4⟩:=cF q2
  have:=S.inj i i' n y2 y4
  subst this;exact hs j k i y1 y3
 .obtain⟨b,v,q1,q2,rfl⟩:=fi q;obtain⟨t,q3,q4⟩:=uO qv q2;obtain⟨d,q5,q6⟩:=rt.get q3;have qd:(ds.map some)[k]?=some (some d):=by rw[MQ,q5];rfl
  rw[qd];have qn:(bg (aO ms ts) ns)[k]?=some ((oX b t).bind λi=>(ns[i]?).bind id):=by unfold bg aO;rw[MQ,N3,q1,q3];rfl
  rw[qn];cases b with
  |
   true=>
   obtain⟨i,y1,u,y2⟩:=lB ok q1;rw[q3] at y1;cases y1;have q4':(e[i]?).bind Sl.val=some v:=q4;obtain⟨s,z1,z2⟩:=MY.mp y2;rw[z1] at q4';have hv:s.val=some v:=q4';have huv:u=v:=by cases s <;> first |cases z2;done |(cases z2;cases hv;rfl)
   subst huv;have hns:∃n,ns[i]?=some (some n):=by
    have y:=S.sl i s z1;cases s with
    |ow v=>obtain⟨n,o,y1,_⟩:=y;exact⟨n,y1⟩
    |mu v=>obtain⟨n,o,y1,_⟩:=y;exact⟨n,y1⟩
    |_=>cases z2
   obtain⟨n,hn⟩:=hns;obtain⟨n',o,k1,k0,k2,k3,k4,_⟩:=S.write z1 z2;rcases q6 with ⟨_,z,_⟩ |⟨i',z,q6⟩
   .cases z
   .cases z;rw[q6] at k1;cases k1;obtain⟨_,_,_,_,_,_,w,_⟩:=S.own hn;rw[q6] at w;cases w;exact⟨n,o,by show some ((ns[i]?).bind id)=_;rw[hn];rfl,rfl,k2,k3,k4.mono mv⟩
  |
   false=>
   refine⟨by cases t <;> rfl,d,rfl,?_⟩;rcases q6 with ⟨u,rfl,q6⟩ |⟨i,rfl,q6⟩
   .cases q4;exact q6.mono mv
   .obtain⟨s,z1,z2⟩:=MY.mp (show (e[i]?).bind Sl.val=some v from q4);have y:=S.sl i s z1;by_cases hsh:∃w,s=.sh w
    .obtain⟨w,rfl⟩:=hsh;cases z2;obtain⟨_,x,w1,w2⟩:=y;rw[q6] at w1;cases w1;exact w2.mono mv
    .have hl:=lT q1 q3 λw z=>hsh ⟨w,by rw[z1] at z;exact J_ z⟩;have:∃n o,ns[i]?=some (some n)/\σ[i]?=some (some (.ref n))/\H n=some o/\Rc K mg (Oc X ns) H o v:=by
      cases s with
      |no=>cases z2
      |sh w=>exact absurd ⟨w,rfl⟩ hsh
      |ow w=>cases z2;obtain⟨n,o,y1,y2,_,y3,_,y4⟩:=y;exact⟨n,o,y1,y2,y3,y4⟩
      |lo w=>cases z2;obtain⟨n,o,y1,y2,_,y3,_,y4⟩:=y;exact⟨n,o,y1,y2,y3,y4⟩
      |mu w=>cases z2;obtain⟨n,o,y1,y2,y3,_,y4⟩:=y;exact⟨n,o,y1,y2,y3,y4⟩
      |lm w=>cases z2;obtain⟨n,o,y1,y2,y3,_,y4⟩:=y;exact⟨n,o,y1,y2,y3,y4⟩
     obtain⟨n,o,w1,w2,w3,w4⟩:=this;rw[q6] at w2;cases w2;refine .cell ⟨λy=>y.2.2 i hl w1,λy=>?_⟩ w3 (w4.mono mv);obtain⟨j,y⟩:=aY.mp y;obtain⟨i',y1,y2⟩:=cF y;obtain⟨y3,y4⟩:=eZ y1
     have:=S.inj i' i n y2 w1
     subst this
     have:=jz ok y3 y4 q3
     subst this;rw[q1] at y3;cases y3
theorem rq:∀{is:List Nat}{ns:Ns}{e e2:E3},Sat K mg X N0 ns e σ H->(∀i∈is,∃d,σ[i]?=some (some d))->oq e is=some e2->∃h_,Sat K mg X N0 h_ e2 σ H/\Stp ns e H h_ e2 H/\(∀i,i∉is->e2[i]?=e[i]?)/\(∀i∈is,∃v,e2[i]?=some (.sh v))/\∀i:Nat,(e2[i]?).bind Sl.val=(e[i]?).bind Sl.val
 | [],ns,e,e2,S,_,q=>by cases q;exact⟨ns,S,.refl,λ_ _=>rfl,(λ_ z=>by cases z),λ_=>rfl⟩
 |
  i::is,ns,e,e2,S,hd,q=>by
  unfold oq at q;split at q
  .rename_i e1 v q1;obtain⟨d,hd0⟩:=hd i (s_ ..);obtain⟨ns1,S1,a1,r1⟩:=fM (L:=X) (t:=.bor i) S hd0 q1;obtain⟨h_,S2,a2,k1,k2,k3⟩:=rq S1 (λj z=>hd j (q_ _ z)) q;obtain⟨y1,y2,y3⟩:=ET q1;refine⟨h_,S2,a1.trans S a2,λj hj=>?_,λj hj=>?_,λj=>?_⟩
   .rw[G_,not_or] at hj;rw[k1 j hj.2,y1 j hj.1]
   .by_cases z:j∈is
    .exact k2 j z
    .rcases G_.mp hj with rfl |hj
     .exact⟨v,by rw[k1 j z];exact y2⟩
     .exact absurd hj z
   .rw[k3 j];by_cases z:j=i
    .subst z;rw[y2,y3];rfl
    .rw[y1 j z]
  .cases q
def u4(hl:aN e ms ts=[])(z:¬ Xc X ns e ms ts n)(z2:some n∉bg (aO ms ts) ns):Oc X ns n:=
 ⟨λy=>z ⟨.inl y,z2,λi hi=>by rw[hl] at hi;cases hi⟩,λy=>z ⟨.inr y,z2,λi hi=>by rw[hl] at hi;cases hi⟩⟩
def mI{Y:Addr->Prop}(S:Sat K mg X N0 ns e σ H)(ok:okA e ms ts=true)(a:Stp (bg (aO ms ts) ns) (sls ms vs) H (bg (aO ms ts) ns) (aC ms mv) H')(hf:aN e ms ts=[]\/mv.all cI=true)(hY:∀n,Y n->(∃o,H' n=some o)/\H n=none)(S3:Sat K mg (λn=>Xc X ns e ms ts n\/Y n) N1 (bg (aO ms ts) ns) (aC ms mv) (ds.map some) H'):
 Sat K mg (λn=>X n\/Y n) N0 ns (aX (aO ms ts) (aC ms mv) e) σ H'/\Stp ns e H ns (aX (aO ms ts) (aC ms mv) e) H'/\(aN e ms ts=[]->∀m,Oc (λn=>Xc X ns e ms ts n\/Y n) (bg (aO ms ts) ns) m->Oc (λn=>X n\/Y n) ns m):=by
 have kk:aN e ms ts=[]->∀m,Oc (λn=>Xc X ns e ms ts n\/Y n) (bg (aO ms ts) ns) m->Oc (λn=>X n\/Y n) ns m:=λhf m z=>by
  have:=u4 hf (λy=>z.1 (.inl y)) z.2
  exact⟨λy=>by
   rcases y with y |y
   .exact this.1 y
   .exact z.1 (.inr y),this.2⟩
 obtain⟨S4,a4⟩:=S.back (Y:=λn=>X n\/Y n) (A9 (vs:=vs) ok) a S3.bs (λm z=>by
  rcases z with z |z
  .obtain⟨o,z'⟩:=S.xl m z;refine⟨?_,.inl z⟩;cases qh:H' m with
   |none=>rw[a.dom m qh] at z';cases z'
   |some o'=>exact⟨o',rfl⟩
  .exact⟨(hY m z).1,.inr (hY m z).2⟩) (λ_ z=>.inl z) λj w n' q1 q2=>by
  obtain⟨s,u,o,b1,b2,b3,b4,b5,b6,b7⟩:=S3.own q2;rw[q1] at b1;cases b1;cases b3;rcases hf with hf |hf
  .exact⟨o,b5,b6,b7.mono (.of (kk hf))⟩
  .exact⟨o,b5,b6,b7.flat .refl (K_.mp hf w (jH q1))⟩
 exact⟨S4,a4,kk⟩
def Sat.eqX{X Y:Addr->Prop}(S:Sat K mg X N0 ns e σ H)(h:∀n,X n ↔ Y n):Sat K mg Y N0 ns e σ H:=by have:X=Y:=funext λn=>propext (h n);exact this ▸ S
def oF(S:Sat K mg X N0 ns e σ H)(ok:okA e ms ts=true)(a:Stp (bg (aO ms ts) ns) (sls ms vs) H (bg (aO ms ts) ns) (aC ms mv) H')(hf:aN e ms ts=[]\/mv.all cI=true)(S3:Sat K mg (Xc X ns e ms ts) N1 (bg (aO ms ts) ns) (aC ms mv) (ds.map some) H'):
 Sat K mg X N0 ns (aX (aO ms ts) (aC ms mv) e) σ H'/\Stp ns e H ns (aX (aO ms ts) (aC ms mv) e) H'/\(aN e ms ts=[]->∀m,Oc (Xc X ns e ms ts) (bg (aO ms ts) ns) m->Oc X ns m):=by
 obtain⟨S4,a4,_⟩:=mI (Y:=λ_=>False) S ok a hf (λ_ z=>z.elim) (S3.eqX λn=>⟨.inl,λz=>z.elim id (·.elim)⟩);exact⟨S4.eqX λn=>⟨λz=>z.elim id (·.elim),.inl⟩,a4,λhf m z=>u4 hf z.1 z.2⟩
def vn(S:Sat K mg X N0 ns e σ H)(hL:∀a,H a=none->L a)(rt:TsR K mg X ns σ H ds ts)(ok:okA e ms ts=true)(hf:aN e ms ts=[]\/(kZ r=true/\mv.all cI=true))(p:PG3 K mg X N0 ns e σ H E (KE K mg X N0 L σ Q) (.ok (r.tm ts) (aX (aO ms ts) (aC ms mv) e)))
 (a:Stp (bg (aO ms ts) ns) (sls ms vs) H (bg (aO ms ts) ns) (aC ms mv) H') (rr:RtR K mg (Xc X ns e ms ts) (nn H) (bg (aO ms ts) ns) (aC ms mv) (ds.map some) H' x r):Q x H':=by
 have hf2:aN e ms ts=[]\/mv.all cI=true:=hf.imp id (·.2);cases r with
 |
  val v=>
  obtain⟨S3,rv⟩:=rr;obtain⟨S4,a4,kk⟩:=oF S ok a hf2 S3;refine p _ _ a4 S4 x ?_;rcases hf with hf |hf
  .exact rv.mono (.of (kk hf))
  .exact rv.flat .refl hf.1
 |
  new v=>
  obtain⟨n,o,rfl,z2,z3,z4,z5,S3,z7⟩:=rr;obtain⟨S4,a4,kk⟩:=mI (Y:=λm=>m=n) S ok a hf2 (λm z=>by subst z;exact⟨⟨o,z4⟩,z2⟩) S3;refine p _ _ a4 (S4.weak λ_ z=>.inl z) _ ⟨n,o,rfl,hL n z2,λy=>?_,z4,z5,S4,?_⟩
  .obtain⟨u,y⟩:=S.xl n y;rw[show H n=none from z2] at y;cases y
  .rcases hf with hf |hf
   .exact z7.mono (.of (kk hf))
   .exact z7.flat .refl hf.1
 |
  pr v u=>
  obtain⟨pp,d1,n,o,rfl,z1,z2,z3,z4,z5,S3,z6,z7⟩:=rr;obtain⟨S4,a4,kk⟩:=mI (Y:=λm=>m=n) S ok a hf2 (λm z=>by subst z;exact⟨⟨o,z4⟩,z2⟩) S3;have on:Oc X ns n:=⟨λy=>(by
   obtain⟨u,y⟩:=S.xl n y;rw[show H n=none from z2] at y;cases y),λy=>by
   obtain⟨i,y⟩:=aY.mp y;exact S4.nx i n y (.inr rfl)⟩
  have wk:Mov (Oc (λm=>X m\/m=n) ns) (Oc X ns) H' H':=.of λm z=>⟨λc=>z.1 (.inl c),z.2⟩;refine p _ _ a4 (S4.weak λ_ z=>.inl z) _ (.tup z1 (.cons ?_ (.cons (.cell on z4 ?_) .nil)))
  .rcases hf with hf |hf
   .exact (z6.mono (.of (kk hf))).mono wk
   .exact z6.flat .refl (t_ _ _ ▸ hf.1).1
  .rcases hf with hf |hf
   .exact (z7.mono (.of (kk hf))).mono wk
   .exact z7.flat .refl (t_ _ _ ▸ hf.1).2
 |
  par i=>
  obtain⟨S3,w1,w,w2⟩:=rr;obtain⟨S4,a4,_⟩:=oF S ok a hf2 S3;refine p _ _ a4 S4 x ?_;obtain⟨u,x1,_⟩:=a.mu i w w2;obtain⟨b,u',x2,_,x3⟩:=fi x1;cases b with
  |false=>cases x3
  |
   true=>
   obtain⟨k,y1,_⟩:=lB ok x2;obtain⟨d',y2,z⟩:=rt.get y1;have e1:(Rt.par i).tm ts=.bor k:=by show (ts[i]?).getD _=_;rw[y1];rfl
   rw[e1];rcases z with ⟨_,z,_⟩ |⟨j,z,z2⟩
   .cases z
   .cases z;rw[MQ,y2] at w1;cases w1;exact z2
theorem Aq{f:PFn}(S:Sat K mg X N0 ns e σ H)(hL:∀a,H a=none->L a)(rt:TsR K mg X ns σ H ds ts)(p:PG3 K mg X N0 ns e σ H E (KE K mg X N0 L σ Q) (match rss e ts with
 |none=>.stuck
 |some vs=>if okA e f.ms ts=true then (match f.G vs with
  |.stuck=>.stuck
  |.ok r mv=>if (aN e f.ms ts).isEmpty || (kZ r&&mv.all cI) then .ok (r.tm ts) (aX (aO f.ms ts) (aC f.ms mv) e) else (match oq e (aN e f.ms ts) with
   |some e2=>.ok (r.tm ts) (aX (aO f.ms ts) (aC f.ms mv) e2)
   |none=>.stuck)
  |.exc c mv=>if (aN e f.ms ts).isEmpty || mv.all cI then .exc c (aX (aO f.ms ts) (aC f.ms mv) e) else .stuck) else .stuck)):sp3 K mg f ds H Q E:=by
 split at p
 .exact p.elim
 .rename_i vs
   qv
  split at p
  .rename_i ok;have a_:vs.length=f.ms.length:=by rw[oa qv,oM ok]
   split at p
   .exact p.elim
   .rename_i r mv q;split at p
    .rename_i hf;rw[Oi,t_] at hf;exact⟨_,_,vs,a_,lV S rt qv ok,by rw[q];exact λx H' a rr=>vn S hL rt ok (hf.imp List.isEmpty_iff.mp id) p a rr⟩
    .split
      at p
     .rename_i e2 qd;obtain⟨h_,S2,a2,k1,k2,k3⟩:=rq S (λi hi=>by
       obtain⟨k,_,y⟩:=l8 hi;obtain⟨d,_,z⟩:=rt.get y;rcases z with ⟨_,z,_⟩ |⟨j,z,z2⟩
       .cases z
       .cases z;exact⟨d,z2⟩) qd
      have ok2:okA e2 f.ms ts=true:=pC (λk i q1 q2=>k1 i λz=>by
       obtain⟨k',y1,y2⟩:=l8 z
       have:=jz ok q1 q2 y2
       subst this;rw[q1] at y1;cases y1) ok
      have ln:aN e2 f.ms ts=[]:=sx λk i q1 q2=>by
       by_cases z:i∈aN e f.ms ts
       .exact k2 i z
       .rw[k1 i z];exact Classical.byContradiction λw=>z (lT q1 q2 λv y=>w ⟨v,y⟩)
      exact⟨_,_,vs,a_,lV S2 (rt.stp a2) (by rw[pj k3];exact qv) ok2,by rw[q];exact λx H' a rr=>vn S2 (λb z=>hL b z) (rt.stp a2) ok2 (.inl ln) (p.after S a2) a rr⟩
     .exact p.elim
   .rename_i c mv q;split at p
    .rename_i hf;rw[Oi] at hf;refine⟨_,_,vs,a_,lV S rt qv ok,?_⟩;rw[q];intro C H' a S3 hC;obtain⟨S4,a4,_⟩:=oF S ok a (hf.imp List.isEmpty_iff.mp id) S3;exact p _ _ C a4 S4 hC
    .exact p.elim
  .exact p.elim
end
noncomputable def ai (f:PFn) (a:PAs):PEx:=⟨22,Dg f.ms f.G a.G⟩
section
variable{K:W.Frag}{mg:Pp}{X:Cx}{ES:St->XK}{e:Expr}{es:List Expr}{A:PAs}{pos:Pos}{k:Nat}{ps:List Str}
def vS{f:PFn}(σ:St)(H:Hp)(Q:VK):rdE K mg ES (ai f A).G σ H Q->rdA K mg ES A.G σ H λvs H1=>sp3 K mg f vs H1 Q (ES σ):=λzz=>zz.el λY N0 L ns e S hl p=>
 ⟨Y,N0,ns,e,S,PG3.imp p S λts e1 ns1 H1 a1 S1 p1 xs r1=>Aq S1 (λa z=>hl a (a1.dom a z)) r1 p1⟩
def BG{f:PFn}{x:Str}{p0:Pos}(C:Callee X.prog X.w X.K X.mg X.base x k ps (sp3 K mg f))(hr:Room k X.A)(hg:Gl X x)(hx:iC X ES)(ha:DA K mg X ES (e::es) A)
 (hdb:(x==("__debug__" : Str))=false) (he:starEach (e::es) X.env=(false,eval e X.env)::starEach es X.env) (hpl:(backTo pos (starEach es X.env)).any (·.1)=false):
 DE K mg X ES (.Call (.Name x p0) (e::es) [] pos) (ai f A):=by
 obtain⟨fa,fd,F',m,kp,bb,_⟩:=C.ex;refine⟨λpins s σ H Q I hh=>M6 (oH I hg m ?_ hdb)⟩;refine W.callWith_K (h₀:=X.base) I.ok.mod.kin kp (MU (ha.ok pos pins s σ H _ I (vS σ H Q hh)) (λus s1 ⟨vs,H1,I1,r,q⟩=>⟨I1.kIn,?_⟩) λ_ _ z=>z) he hpl;have hl:(us++[]).length=ps.length:=by rw[M8,<- r.length];exact F'.len _ _ _ _ q
 refine wpAny_call (Pc (F'.run X.A X.stack s1 H1 ⟨us,[]⟩ us vs Q (ES σ) hr I1.env0 (by simpa using bb s1 us I1.kIn hl) r q) λr s' hq=>?_);cases r with
 |error ex=>exact hx pins σ H1 s1 ex s' I1 hq
 |
  ok fl=>
  cases fl with
  |ret u=>exact I1.after hq
  |next=>exact False.elim hq
  |brk=>exact False.elim hq
  |cont=>exact False.elim hq
def DP(hp:sM (CX1 X.prog X.w) X E):iC X (λ_=>E):=λpins σ H s e s' I h=>hp pins σ H s e s' I h
def Lp:iC X (λ_=>E0):=λpins σ H s e s' I h=>Lg pins σ H s e s' I h
def zcF{f:PFn}{x:Str}{p0:Pos}{k j:Nat}{ps:List Str}(C:Callee X.prog X.w X.K X.mg X.base x j ps (sp3 K mg f))(hr:Room k X.A)(ha:DA K mg X ES (e::es) A)(hk:j<=k:=by omega)(hg:Gl X x:=by exact rfl)(hx:iC X ES:=by first |exact DP DK |exact Lp |assumption)(hdb:(x==("__debug__" : Str))=false:=by decide)(he:starEach (e::es) X.env=(false,eval e X.env)::starEach es X.env:=by rfl)(hpl:(backTo pos (starEach es X.env)).any (·.1)=false:=by rfl):DE K mg X ES (.Call (.Name x p0) (e::es) [] pos) (ai f A):=BG C (hr.mono hk) hg hx ha hdb he hpl
end
noncomputable def aI (f:Int->Int->Val):Val->Val->Bv:=λx y=>match x,y with
 |.int i,.int j=>.val (f i j)
 |_,_=>.stuck
open Classical in
def aIc(C:Int->Int->Prop)(f:Int->Int->Val):Val->Val->Bv:=λx y=>match x,y with
 |.int i,.int j=>if C i j then .val (f i j) else .stuck
 |_,_=>.stuck
noncomputable def aCat:Val->Val->Bv:=λx y=>match x,y with
 |.lst xs,.lst ys=>if xs.length+ys.length<=16777216 then .new (.lst (xs++ys)) else .stuck
 |.tup xs,.tup ys=>if xs.length+ys.length<=16777216 then .val (.tup (xs++ys)) else .stuck
 |_,_=>.stuck
noncomputable def CA:Val->Val->Bv:=λx y=>match x,y with
 |.int i,.int j=>.val (.int (i+j))
 |.bl b,.int i=>.val (.int ((if b=true then (1:Int) else 0)+i))
 |x,y=>aCat x y
noncomputable def aMin:=aI λi j=>.int (i-j)
def AR:=aIc CMulA λi j=>.int (i*j)
def AN:=aIc CDivB λi j=>.int (i.fdiv j)
def Bi:=aIc (λ_ j=>j≠0) λi j=>.int (i.fmod j)
def B9:=aIc wa λi j=>.int (i^j.toNat)
noncomputable def aLt:=aI λi j=>.bl (decide (i<j))
noncomputable def aGt:=aI λi j=>.bl (decide (j<i))
noncomputable def aGe:=aI λi j=>.bl (decide (j<=i))
noncomputable def AK:Val->Bv:=λx=>match x with
 |.int i=>.val (.int (-i))
 |_=>.stuck
noncomputable def aIx:Val->Val->Bv:=λx y=>match x.items,y with
 |some xs,.int i=>(match atI xs i with
  |some v=>.val v
  |none=>.stuck)
 |_,_=>.stuck
mutual
def cx:Nat->Val->Option PyData
 |0,_=>none
 |_+1,.non=>some .none
 |_+1,.bl b=>some (.bool b)
 |_+1,.int i=>some (.int i)
 |_+1,.str x=>some (.str x)
 |k+1,.tup xs=>(d9 k xs).map .tuple
 |k+1,.lst xs=>(d9 k xs).map .list
 |_+1,_=>none
def d9:Nat->List Val->Option (List PyData)
 |_,[]=>some []
 |k,x::xs=>match cx k x,d9 k xs with
  |some a,some b=>some (a::b)
  |_,_=>none
end
noncomputable def aG (x y:Val):Option Bool:=match cx 164 x,cx 164 y with
 |some a,some b=>if shp a=true/\shp b=true then some (PyData.eqv a b) else none
 |_,_=>none
noncomputable def aEq (neg:Bool):Val->Val->Bv:=λx y=>match aG x y with
 |some b=>.val (.bl (if neg then !b else b))
 |none=>.stuck
noncomputable def nV:Val->Bool
 |.non=>true
 |.bl _=>true
 |.int _=>true
 |.str _=>true
 |_=>false
noncomputable def uc:Val->V
 |.bl b=>.bl b
 |.int i=>.int i
 |.str x=>.str x
 |_=>.non
noncomputable def eq1 (x y:Val):Bool:=eqV (uc x) (uc y)
noncomputable def aIn (neg:Bool):Val->Val->Bv:=λx y=>match y.items with
 |some xs=>if nV x=true/\xs.all nV=true then .val (.bl (if neg then !(xs.any λd=>eq1 d x) else xs.any λd=>eq1 d x)) else .stuck
 |none=>.stuck
noncomputable def AG (neg:Bool):Val->Val->Bv:=λx y=>match x,y with
 |.non,.non=>.val (.bl (!neg))
 |_,.non=>.val (.bl neg)
 |_,_=>.stuck
noncomputable def Co:List Val->Bv:=λvs=>match vs with
 | [v]=>(match v.items with
  |some xs=>.val (.int xs.length)
  |none=>(match v with
   |.str z=>if z.length<=16777216 then .val (.int z.length) else .stuck
   |_=>.stuck))
 |_=>.stuck
noncomputable def Cg:List Val->Bv:=λvs=>match vs with
 | [.int i]=>.val (.int (if i<0 then -i else i))
 |_=>.stuck
noncomputable def wJ:List Val->Bv:=λvs=>match vs with
 | [.int i,.int j]=>.val (.int (if j>i then j else i))
 |_=>.stuck
noncomputable def xI:List Val->Bv:=λvs=>match vs with
 | [.int i,.int j]=>.val (.int (if j<i then j else i))
 |_=>.stuck
noncomputable def jB:List Val->Option (List Bool)
 | []=>some []
 |.bl b::r=>(jB r).map (b :: ·)
 |_=>none
noncomputable def fE:List Val->Option (List Int)
 | []=>some []
 |.int b::r=>(fE r).map (b :: ·)
 |_=>none
noncomputable def B7:List Val->Bv:=λvs=>match vs with
 | [.lst xs]=>(match jB xs with
  |some bs=>.val (.bl (bs.all id))
  |none=>.stuck)
 |_=>.stuck
noncomputable def BI:List Val->Bv:=λvs=>match vs with
 | [.lst xs]=>(match fE xs with
  |some bs=>.val (.int bs.sum)
  |none=>.stuck)
 |_=>.stuck
noncomputable def xK:List Val->Bv:=λvs=>match vs with
 | [v]=>(match v.items with
  |some xs=>.new (.lst xs)
  |none=>.stuck)
 |_=>.stuck
noncomputable def rD:List Val->Bv:=λvs=>match vs with
 | [v]=>(match v.items with
  |some xs=>.val (.tup xs)
  |none=>.stuck)
 |_=>.stuck
noncomputable def Cn:List Val->Bv:=λvs=>match vs with
 | [.int i]=>.val (.int i)
 | [.bl b]=>.val (.int (if b then 1 else 0))
 |_=>.stuck
noncomputable def tyC:Val->Option Cl
 |.non=>some (.b "NoneType")
 |.bl _=>some (.b "bool")
 |.int _=>some (.b "int")
 |.str _=>some (.b "str")
 |.tup _=>some (.b "tuple")
 |.exc x=>some (.o x)
 |.lst _=>some (.b "list")
 |.dct _=>some (.b "dict")
 |_=>none
noncomputable def clV:Val->Option Cl
 |.ty n=>some (.b n)
 |.glb x=>some (.o x)
 |_=>none
noncomputable def sT:List Val->Option (List Cl)
 | []=>some []
 |v::vs=>match clV v,sT vs with
  |some c,some cs=>some (c::cs)
  |_,_=>none
noncomputable def Kv:Val->Option (List Cl)
 |.tup cs=>sT cs
 |v=>(clV v).map ([·])
noncomputable def A7 (kt:jR):List Val->Bv:=λvs=>match vs with
 | [v,c]=>(match tyC v,Kv c with
  |some t,some (c0::cr)=>(match gO kt t (c0::cr),kit kt t c0 with
   |some b,some _=>.val (.bl b)
   |_,_=>.stuck)
  |_,_=>.stuck)
 |_=>.stuck
noncomputable def gQ (xs:List Val) (lo hi:Option Int):List Val:=(xs.drop (HT.sIx xs.length 0 lo)).take (HT.sIx xs.length xs.length hi-HT.sIx xs.length 0 lo)
noncomputable def aSl (x:Val) (lo hi:Option Int):Bv:=match x with
 |.tup xs=>if HT.sIx xs.length 0 lo=0/\HT.sIx xs.length xs.length hi=xs.length then .val (.tup xs) else .val (.tup (gQ xs lo hi))
 |.lst xs=>.new (.lst (gQ xs lo hi))
 |.kl xs=>.new (.lst (gQ xs lo hi))
 |.str z=>if z.length<=16777216 then .val (.str (Txt.slice z lo hi)) else .stuck
 |_=>.stuck
noncomputable def oZ:Val->List Val->Option (Val×Val):=λu vs=>match u,vs with
 |.lst xs,[v]=>if xs.length<16777216 then some (.lst (xs++[v]),.non) else none
 |_,_=>none
noncomputable def sj:Val->List Val->Option (Val×Val):=λu vs=>match u,vs with
 |.lst xs,[]=>(match xs[xs.length-1]? with
  |some v=>some (.lst xs.dropLast,v)
  |none=>none)
 |_,_=>none
noncomputable def sL:Val->Val->Val->Option Val:=λu i v=>match u,i with
 |.lst xs,.int k=>(match ixN xs.length k with
  |some j=>some (.lst (xs.set j v))
  |none=>none)
 |_,_=>none
noncomputable def gj (d:Val):List Val->Option (List Bool)
 | []=>some []
 |x::r=>match aG x d,gj d r with
  |some b,some bs=>some (b::bs)
  |_,_=>none
noncomputable def fO:Val->List Val->Bv:=λx vs=>match x,vs with
 |.lst xs,[d]=>(match gj d xs with
  |some bs=>if bs.idxOf true<bs.length then .val (.int (bs.idxOf true:Nat)) else .stuck
  |none=>.stuck)
 |_,_=>.stuck
noncomputable def oC:Val->List Val->Bv:=λx vs=>match x,vs with
 |.lst xs,[d]=>if ((cx 164 d).map shp)=some true then (match gj d xs with
  |some bs=>.val (.int (bs.count true:Nat))
  |none=>.stuck) else .stuck
 |_,_=>.stuck
noncomputable def bA:PO2:=⟨CA⟩
noncomputable def d7:PO2:=⟨aMin⟩
def bJ:PO2:=⟨AR⟩
def mD:PO2:=⟨AN⟩
def dq:PO2:=⟨Bi⟩
def jJ:PO2:=⟨B9⟩
noncomputable def bLt:PO2:=⟨aLt⟩
noncomputable def bGt:PO2:=⟨aGt⟩
noncomputable def bGe:PO2:=⟨aGe⟩
noncomputable def bIx:PO2:=⟨aIx⟩
noncomputable def bEq:PO2:=⟨aEq false⟩
noncomputable def bNe:PO2:=⟨aEq true⟩
noncomputable def bIn:PO2:=⟨aIn false⟩
noncomputable def lY:PO2:=⟨aIn true⟩
noncomputable def bIs:PO2:=⟨AG false⟩
noncomputable def tU:PO2:=⟨aI λi j=>.int (i+j)⟩
noncomputable def BX:PU1:=⟨AK⟩
noncomputable def bj:PBf:=⟨Co⟩
noncomputable def eT:PBf:=⟨Cg⟩
noncomputable def tP:PBf:=⟨wJ⟩
noncomputable def ue:PBf:=⟨xI⟩
noncomputable def nR:PBf:=⟨B7⟩
noncomputable def cJ:PBf:=⟨BI⟩
noncomputable def rZ:PBf:=⟨xK⟩
noncomputable def kW:PBf:=⟨rD⟩
noncomputable def xQ:PBf:=⟨Cn⟩
noncomputable def aw (kt:jR):PBf:=⟨A7 kt⟩
noncomputable def hE:PMm:=⟨oZ⟩
noncomputable def qN:PMm:=⟨sj⟩
noncomputable def cL:PMv:=⟨fO⟩
noncomputable def fS:PMv:=⟨oC⟩
noncomputable def seL:PSe:=⟨sL⟩
section
variable{K:W.Frag}{mg:Pp}{P:Addr->Prop}{H:Hp}{Q:VK}{v:Val}{vs:List Val}{x:V}{ds:List V}{neg:Bool}
def bv(p:∀H1 x,Gr H H1->Rd K mg P H1 x v->Q x H1)(r:Rd K mg P H x v):Q x H:=p H x .refl r
def bvL(p:∀H1 a o,Gr H H1->H1 a=none->NotFz o->Rc K mg P H1 o (.lst vs)->Q (.ref a) (upd H1 a o))(r:Rds K mg P H ds vs):∀l,H l=none->Q (.ref l) (upd H l (.lst ds)):=λl hl=>p H l _ .refl hl trivial (.lst r)
def bvT(p:∀H1 x,Gr H H1->Rd K mg P H1 x (.tup vs)->Q x H1)(r:Rds K mg P H ds vs):∀l,H l=none->Q (.ref l) (upd H l (.tup ds)):=λl hl=>p _ _ (Gr.upd hl) (.tup (SqT.of bo) (r.mono (Gr.upd hl).mov))
def nv{f:Int->Int->V}{g:Int->Int->Val}(hr:∀i j P H,Rd K mg P H (f i j) (g i j)):OpD K mg (rI0 f) (aI g):=λP H x y v u Q rx ry p=>by
 unfold aI at p;split at p
 .obtain rfl:=rx.int;obtain rfl:=ry.int;exact⟨_,_,rfl,rfl,bv p (hr _ _ _ _)⟩
 .exact p.elim
def wg{f:Int->Int->V}{g:Int->Int->Val}{C:Int->Int->Prop}(hr:∀i j P H,Rd K mg P H (f i j) (g i j)):OpD K mg (rI C f) (aIc C g):=λP H x y v u Q rx ry p=>by
 unfold aIc at p;split at p
 .obtain rfl:=rx.int;obtain rfl:=ry.int;split at p
  .rename_i hc;exact⟨_,_,rfl,rfl,hc,bv p (hr _ _ _ _)⟩
  .exact p.elim
 .exact p.elim
def JA:OpD K mg (λx y H Q=>(rI0 (λi j=>.int (i+j)) x y H Q\/(sf x y H Q\/(mL K x y H Q\/nC K x y H Q)))\/xN x y H Q) bA.G:=λP H x y v u Q rx ry p=>by
 replace p:BvP K mg P H Q (CA v u):=p;unfold CA at p;split at p
 .obtain rfl:=rx.int;obtain rfl:=ry.int;exact .inl (.inl ⟨_,_,rfl,rfl,bv p (.int _)⟩)
 .obtain rfl:=rx.bl;obtain rfl:=ry.int;exact .inr ⟨_,_,rfl,rfl,bv p (.int _)⟩
 .left;right;unfold aCat at p;split at p
  .obtain⟨a,xs,rfl,e1,q1⟩:=rx.lst;obtain⟨b,ys,rfl,e2,q2⟩:=ry.lst;split at p
   .rename_i hl;exact .inl ⟨_,_,xs,ys,rfl,rfl,e1,e2,by rw[q1.len,q2.len];exact hl,bvL p (q1.append q2)⟩
   .exact p.elim
  .obtain⟨a,xs,rfl,e1,q1⟩:=rx.tup;obtain⟨b,ys,rfl,e2,q2⟩:=ry.tup;split at p
   .rename_i hl;cases q1 with
    |nil=>exact .inr (.inr ⟨_,_,_,rfl,rfl,e1,e2,bv p (.tup e2 q2)⟩)
    |cons r0 r1=>refine .inr (.inl ⟨_,_,_,_,rfl,rfl,e1,e2,(λz=>nomatch z),by rw[(Rds.cons r0 r1).len,q2.len];exact hl,λz=>?_,λ_=>bvT p ((Rds.cons r0 r1).append q2)⟩);subst z;cases q2;rw[M8] at p;exact bv p (.tup e1 (.cons r0 r1))
   .exact p.elim
  .exact p.elim
def J5:OpD K mg (rI0 λi j=>.int (i-j)) d7.G:=nv λ_ _ _ _=>.int _
def Jk:OpD K mg (rI CMulA λi j=>.int (i*j)) bJ.G:=wg λ_ _ _ _=>.int _
def J4:OpD K mg (rI CDivB λi j=>.int (i.fdiv j)) mD.G:=wg λ_ _ _ _=>.int _
def Gv:OpD K mg (rI (λ_ j=>j≠0) λi j=>.int (i.fmod j)) dq.G:=wg λ_ _ _ _=>.int _
def JE:OpD K mg (rI wa λi j=>.int (i^j.toNat)) jJ.G:=wg λ_ _ _ _=>.int _
def DC:OpD K mg (rI0 λi j=>.bl (decide (i<j))) bLt.G:=nv λ_ _ _ _=>.bl _
def Di:OpD K mg (rI0 λi j=>.bl (decide (j<i))) bGt.G:=nv λ_ _ _ _=>.bl _
def DH:OpD K mg (rI0 λi j=>.bl (decide (j<=i))) bGe.G:=nv λ_ _ _ _=>.bl _
def HA:IpD K mg (ipI λi j=>i+j) tU.G:=nv λ_ _ _ _=>.int _
def JL:UnD K mg (rU λi=>.int (-i)) BX.G:=λP H x v Q r p=>by
 replace p:BvP K mg P H Q (AK v):=p;unfold AK at p;split at p
 .obtain rfl:=r.int;exact⟨_,rfl,bv p (.int _)⟩
 .exact p.elim
def K5(r:Rds K mg P H ds vs)(e:atI vs i=some v):∃d,atI ds i=some d/\Rd K mg P H d v:=by
 unfold atI at e ⊢;rw[r.len];cases q:ixN vs.length i with
 |none=>rw[q] at e;cases e
 |some j=>rw[q] at e;exact r.get e
def KW:OpD K mg (λx y H Q=>Bt K x y H Q\/Ao K x y H Q) bIx.G:=λP H x y v u Q rx ry p=>by
 replace p:BvP K mg P H Q (aIx v u):=p;unfold aIx at p;split at p
 .rename_i xs i e1;obtain⟨a,ys,rfl,h,q⟩:=rx.items e1;obtain rfl:=ry.int;split at p
  .rename_i w e3;obtain⟨d,e4,q2⟩:=K5 q e3;rcases h with h |h
   .exact .inl ⟨_,_,_,d,rfl,rfl,h,e4,bv p q2⟩
   .exact .inr ⟨_,_,_,d,rfl,rfl,h,e4,bv p q2⟩
  .exact p.elim
 .exact p.elim
def AV{k:Nat}(hk:∀d v pd,Rd K mg P H d v->cx k v=some pd->Rep K H d pd){ps:List PyData}(r:Rds K mg P H ds vs):d9 k vs=some ps->Reps K H ds ps:=
 r.ind (M:=λds vs=>∀ps,d9 k vs=some ps->Reps K H ds ps) (λ_ q=>by unfold d9 at q;cases q;exact .nil) (λr _ ih ps q=>by
  unfold d9 at q;split at q
  .rename_i a b e1 e2;cases q;exact .cons (hk _ _ _ r e1) (ih _ e2)
  .cases q) ps
theorem gJ:∀(k:Nat) (d:V) (v:Val) (pd:PyData),ShR K mg P H d v->cx k v=some pd->Rep K H d pd
 |0,_,_,_,_,q=>by unfold cx at q;cases q
 |
  k+1,d,v,pd,r,q=>by
  have ih:∀{ds:List V}{vs:List Val}{ps:List PyData},Rds K mg P H ds vs->d9 k vs=some ps->Reps K H ds ps:=λr=>AV (λd v pd r q=>gJ k d v pd (.inl r) q) r;cases v with
  |non=>obtain rfl:=r.non;simp only[cx] at q;cases q;exact .non
  |bl b=>obtain rfl:=r.bl;simp only[cx] at q;cases q;exact .bl b
  |int b=>obtain rfl:=r.int;simp only[cx] at q;cases q;exact .int b
  |str b=>obtain rfl:=r.str;simp only[cx] at q;cases q;exact .str b
  |tup xs=>obtain⟨a,ds,rfl,e,r2⟩:=r.tup;simp only[cx] at q;obtain⟨ps,q1,rfl⟩:=MN.mp q;exact .tup e (ih r2 q1)
  |lst xs=>obtain⟨a,ds,rfl,e,r2⟩:=r.lstL;simp only[cx] at q;obtain⟨ps,q1,rfl⟩:=MN.mp q;exact .lst e (ih r2 q1)
  |_=>simp only[cx] at q;cases q
def GU{x y:V}{u:Val}{b:Bool}(r1:ShR K mg P H x v)(r2:ShR K mg P H y u)(q:aG v u=some b):∃a c,Rep K H x a/\Rep K H y c/\shp a=true/\shp c=true/\PyData.eqv a c=b:=by
 unfold aG at q;split at q
 .rename_i a c e1 e2;split at q
  .rename_i hs;cases q;exact⟨a,c,gJ 164 _ _ _ r1 e1,gJ 164 _ _ _ r2 e2,hs.1,hs.2,rfl⟩
  .cases q
 .cases q
def Dk{x y:V}{u:Val}(r1:ShR K mg P H x v)(r2:ShR K mg P H y u)(p:BvP K mg P H Q (aEq neg v u)):∃a c,Rep K H x a/\Rep K H y c/\shp a=true/\shp c=true/\Q (.bl (if neg then !PyData.eqv a c else PyData.eqv a c)) H:=by
 unfold aEq at p;split at p
 .rename_i b q;obtain⟨a,c,h1,h2,h3,h4,rfl⟩:=GU r1 r2 q;exact⟨a,c,h1,h2,h3,h4,bv p (.bl _)⟩
 .exact p.elim
def Dy:OpD K mg (Bu K) bEq.G:=λP H x y v u Q rx ry p=>Dk rx ry p
def Lz:OpD K mg (BU K) bNe.G:=λP H x y v u Q rx ry p=>Dk rx ry p
def vG(r:ShR K mg P H x v)(f:nV v=true):x=uc v/\L2.flatV x=true:=by
 cases v with
 |non=>obtain rfl:=r.non;exact⟨rfl,rfl⟩
 |bl b=>obtain rfl:=r.bl;exact⟨rfl,rfl⟩
 |int b=>obtain rfl:=r.int;exact⟨rfl,rfl⟩
 |str b=>obtain rfl:=r.str;exact⟨rfl,rfl⟩
 |_=>cases f
def A0(y:Val)(r:Rds K mg P H ds vs):vs.all nV=true->ds.all L2.flatV=true/\inV (uc y) ds=vs.any λd=>eq1 d y:=
 r.ind (M:=λds vs=>vs.all nV=true->ds.all L2.flatV=true/\inV (uc y) ds=vs.any λd=>eq1 d y) (λ_=>⟨rfl,rfl⟩) λr _ ih f=>by rw[OV,t_] at f;obtain⟨rfl,h2⟩:=vG (.inl r) f.1;obtain⟨h3,h4⟩:=ih f.2;refine⟨by rw[OV,h2,h3];rfl,?_⟩;unfold inV at h4 ⊢;rw[Nw,Nw,h4];rfl
def Ds:OpD K mg (rIn K neg) (aIn neg):=λP H x y v u Q rx ry p=>by
 unfold aIn at p;split at p
 .rename_i xs e;obtain⟨a,ys,rfl,h,q⟩:=ry.items e;split at p
  .rename_i hf;obtain⟨rfl,f2⟩:=vG rx hf.1;obtain⟨f3,f4⟩:=A0 v q hf.2;exact⟨a,ys,rfl,h,f2,f3,by rw[f4];exact bv p (.bl _)⟩
  .exact p.elim
 .exact p.elim
def C8:OpD K mg (rIn K false) bIn.G:=Ds
def yd:OpD K mg (rIn K true) lY.G:=Ds
def Lx(rx:ShR K mg P H x v)(ry:ShR K mg P H y u)(p:BvP K mg P H Q (AG neg v u)):y=.non/\Q (.bl (if neg then !decide (x=.non) else decide (x=.non))) H:=by
 unfold AG at p;split at p
 .obtain rfl:=rx.non;obtain rfl:=ry.non;exact⟨rfl,by cases neg <;> exact bv p (.bl _)⟩
 .rename_i hn;obtain rfl:=ry.non;have:decide (x=V.non)=false:=by
   rw[Ni];rintro rfl;rcases rx with r |⟨n,o,z,_⟩
   .cases r;exact hn rfl
   .cases z
  rw[this];exact⟨rfl,by cases neg <;> exact bv p (.bl _)⟩
 .exact p.elim
def LB:OpD K mg (λx y H Q=>y=.non/\Q (.bl (decide (x=.non))) H) bIs.G:=λP H x y v u Q rx ry p=>Lx (neg:=false) rx ry p
def JC:cA K mg (λxs H Q=>(∃p ys,xs=[.ref p]/\(SqL K H p ys\/SqT K H p ys)/\Q (.int ys.length) H)\/(∃z,xs=[.str z]/\z.length<=sizeLine/\Q (.int z.length) H)) bj.G:=λP H xs vs Q r0 p=>by
 replace p:BvP K mg P H Q (Co vs):=p;unfold Co at p;split at p
 .obtain⟨d,rfl,r⟩:=cQ r0;split at p
  .rename_i xs e;obtain⟨a,ys,rfl,h,q⟩:=r.items e;exact .inl ⟨_,_,rfl,h,by rw[q.len];exact bv p (.int _)⟩
  .split at p
   .obtain rfl:=r.str;split at p
    .rename_i hl;exact .inr ⟨_,rfl,hl,bv p (.int _)⟩
    .exact p.elim
   .exact p.elim
 .exact p.elim
def Gq:cA K mg (λxs H Q=>∃i,xs=[.int i]/\Q (.int (if i<0 then -i else i)) H) eT.G:=λP H xs vs Q r0 p=>by
 replace p:BvP K mg P H Q (Cg vs):=p;unfold Cg at p;split at p
 .obtain⟨d,rfl,r⟩:=cQ r0;obtain rfl:=r.int;exact⟨_,rfl,bv p (.int _)⟩
 .exact p.elim
def Fv:cA K mg (λxs H Q=>∃i j,xs=[.int i,.int j]/\Q (.int (if j>i then j else i)) H) tP.G:=λP H xs vs Q r0 p=>by
 replace p:BvP K mg P H Q (wJ vs):=p;unfold wJ at p;split at p
 .obtain⟨d,d',rfl,r,r'⟩:=qt r0;obtain rfl:=r.int;obtain rfl:=r'.int;exact⟨_,_,rfl,bv p (.int _)⟩
 .exact p.elim
def Fx:cA K mg (λxs H Q=>∃i j,xs=[.int i,.int j]/\Q (.int (if j<i then j else i)) H) ue.G:=λP H xs vs Q r0 p=>by
 replace p:BvP K mg P H Q (xI vs):=p;unfold xI at p;split at p
 .obtain⟨d,d',rfl,r,r'⟩:=qt r0;obtain rfl:=r.int;obtain rfl:=r'.int;exact⟨_,_,rfl,bv p (.int _)⟩
 .exact p.elim
def Mu{bs:List Bool}(r:Rds K mg P H ds vs):jB vs=some bs->ds=bs.map V.bl:=
 r.ind (M:=λds vs=>∀bs,jB vs=some bs->ds=bs.map V.bl) (λbs q=>by cases q;rfl) (λ{d v ds vs} r _ ih bs q=>by
  cases v with
  |bl b=>obtain rfl:=ShR.bl (.inl r);obtain⟨b',q1,rfl⟩:=MN.mp (show (jB vs).map (b :: ·)=some bs from q);rw[ih _ q1];rfl
  |_=>cases q) bs
def m7{bs:List Int}(r:Rds K mg P H ds vs):fE vs=some bs->ds=bs.map V.int:=
 r.ind (M:=λds vs=>∀bs,fE vs=some bs->ds=bs.map V.int) (λbs q=>by cases q;rfl) (λ{d v ds vs} r _ ih bs q=>by
  cases v with
  |int b=>obtain rfl:=ShR.int (.inl r);obtain⟨b',q1,rfl⟩:=MN.mp (show (fE vs).map (b :: ·)=some bs from q);rw[ih _ q1];rfl
  |_=>cases q) bs
def sP:cA K mg (λxs H Q=>∃(a:Addr) (bs:List Bool),xs=[.ref a]/\SqL K H a (bs.map V.bl)/\Q (.bl (bs.all id)) H) nR.G:=λP H xs vs Q r0 p=>by
 replace p:BvP K mg P H Q (B7 vs):=p;unfold B7 at p;split at p
 .obtain⟨d,rfl,r⟩:=cQ r0;obtain⟨a,ys,rfl,h,q⟩:=r.lstL;split at p
  .rename_i bs e;exact⟨a,bs,rfl,Mu q e ▸ h,bv p (.bl _)⟩
  .exact p.elim
 .exact p.elim
def zy:cA K mg (λxs H Q=>∃(a:Addr) (ns:List Int),xs=[.ref a]/\SqL K H a (ns.map V.int)/\Q (.int ns.sum) H) cJ.G:=λP H xs vs Q r0 p=>by
 replace p:BvP K mg P H Q (BI vs):=p;unfold BI at p;split at p
 .obtain⟨d,rfl,r⟩:=cQ r0;obtain⟨a,ys,rfl,h,q⟩:=r.lstL;split at p
  .rename_i bs e;exact⟨a,bs,rfl,m7 q e ▸ h,bv p (.int _)⟩
  .exact p.elim
 .exact p.elim
def ED:cA K mg (λxs H Q=>∃p ys,xs=[.ref p]/\(SqL K H p ys\/SqT K H p ys)/\∀l,H l=none->Q (.ref l) (upd H l (.lst ys))) rZ.G:=λP H xs vs Q r0 p=>by
 replace p:BvP K mg P H Q (xK vs):=p;unfold xK at p;split at p
 .obtain⟨d,rfl,r⟩:=cQ r0;split at p
  .rename_i xs e;obtain⟨a,ys,rfl,h,q⟩:=r.items e;exact⟨_,_,rfl,h,bvL p q⟩
  .exact p.elim
 .exact p.elim
def CV:cA K mg (λxs H Q=>∃p ys,xs=[.ref p]/\((SqL K H p ys/\∀l,H l=none->Q (.ref l) (upd H l (.tup ys)))\/(SqT K H p ys/\Q (.ref p) H))) kW.G:=λP H xs vs Q r0 p=>by
 replace p:BvP K mg P H Q (rD vs):=p;unfold rD at p;split at p
 .obtain⟨d,rfl,r⟩:=cQ r0;split at p
  .rename_i xs e;obtain⟨a,ys,rfl,h,q⟩:=r.items e;rcases h with h |h
   .exact⟨_,_,rfl,.inl ⟨h,bvT p q⟩⟩
   .exact⟨_,_,rfl,.inr ⟨h,bv p (.tup h q)⟩⟩
  .exact p.elim
 .exact p.elim
def Gs:cA K mg (λxs H Q=>(∃i,xs=[.int i]/\Q (.int i) H)\/∃k,xs=[.bl k]/\Q (.int (if k then 1 else 0)) H) xQ.G:=λP H xs vs Q r0 p=>by
 replace p:BvP K mg P H Q (Cn vs):=p;unfold Cn at p;split at p
 .obtain⟨d,rfl,r⟩:=cQ r0;obtain rfl:=r.int;exact .inl ⟨_,rfl,bv p (.int _)⟩
 .obtain⟨d,rfl,r⟩:=cQ r0;obtain rfl:=r.bl;exact .inr ⟨_,rfl,bv p (.int _)⟩
 .exact p.elim
def Mb{kt:jR}{t c:Cl}{b:Bool}(ok:KitsOk K mg kt)(r:ShR K mg P H x v)(q:tyC v=some t)(k:kit kt t c=some b):∃tv,TyX K H x tv/\ClV mg t tv:=by
 cases v with
 |non=>obtain rfl:=r.non;cases q;exact⟨_,.of .non,rfl⟩
 |bl b=>obtain rfl:=r.bl;cases q;exact⟨_,.of (.bl _),rfl⟩
 |int b=>obtain rfl:=r.int;cases q;exact⟨_,.of (.int _),rfl⟩
 |str b=>obtain rfl:=r.str;cases q;exact⟨_,.of (.str _),rfl⟩
 |exc b=>obtain⟨a,C,rfl,m,e⟩:=r.exc;cases q;exact⟨_,.exc e (ok.xc _ (nY k) _ _ rfl m),_,rfl,m⟩
 |tup b=>obtain⟨a,ds,rfl,h,_⟩:=r.tup;cases q;exact⟨_,.sqT h,rfl⟩
 |lst b=>obtain⟨a,ds,rfl,e,_⟩:=r.lst;cases q;exact⟨_,.of (.lst e),rfl⟩
 |dct b=>obtain⟨a,ds,rfl,e,_⟩:=r.dct;cases q;exact⟨_,.of (.dK e),rfl⟩
 |_=>cases q
def DJ{c:Cl}(r:ShR K mg P H x v)(q:clV v=some c):∃cv,fU x=some cv/\ClV mg c cv:=by
 cases v with
 |ty b=>obtain rfl:=r.ty;cases q;exact⟨_,rfl,rfl⟩
 |glb b=>obtain⟨a,rfl,m⟩:=r.glb;cases q;exact⟨_,rfl,_,rfl,m⟩
 |_=>cases q
def Ii{cs:List Cl}(r:Rds K mg P H ds vs):sT vs=some cs->∃cvs,ds.mapM fU=some cvs/\Paired (ClV mg) cs cvs:=
 r.ind (M:=λds vs=>∀cs,sT vs=some cs->∃cvs,ds.mapM fU=some cvs/\Paired (ClV mg) cs cvs) (λcs q=>by cases q;exact⟨[],rfl,.nil⟩) (λr _ ih cs q=>by
  unfold sT at q;split at q
  .rename_i c cs' e1 e2;cases q;obtain⟨cv,h1,h2⟩:=DJ (.inl r) e1;obtain⟨cvs,h3,h4⟩:=ih _ e2;refine⟨cv::cvs,?_,.cons h2 h4⟩;rw[List.mapM_cons,h1,h3];rfl
  .cases q) cs
def HP{kt:jR}(ok:KitsOk K mg kt):cA K mg (λxs H Q=>(∃x c t v b,xs=[x,c]/\TyX K H x t/\fU c=some v/\W.kitOne K t v=some b/\Q (.bl b) H)\/
 (∃x tp cs t vs b,xs=[x,.ref tp]/\SqT K H tp cs/\TyX K H x t/\cs.mapM fU=some vs/\W.kitAny K t vs=some b/\Q (.bl b) H)) (aw kt).G:=λP H xs vs Q r0 p=>by
 replace p:BvP K mg P H Q (A7 kt vs):=p;unfold A7 at p;split at p
 .rename_i v c;obtain⟨d,d',rfl,r1,r2⟩:=qt r0;split at p
  .rename_i t c0 cr e1 e2;split at p
   .rename_i b b' e4 e5;obtain⟨tv,h1,h2⟩:=Mb ok r1 e1 e5;by_cases ht:∃cs,c=.tup cs
    .obtain⟨cs,rfl⟩:=ht;obtain⟨a,es,rfl,h,q⟩:=r2.tup;obtain⟨cvs,h3,h4⟩:=Ii q e2;exact .inr ⟨_,_,_,tv,cvs,b,rfl,h,h1,h3,zD ok h2 h4 e4,bv p (.bl _)⟩
    .have e2':(clV c).map ([·])=some (c0::cr):=by
      cases c with
      |tup cs=>exact absurd ⟨cs,rfl⟩ ht
      |_=>exact e2
     obtain⟨cl,y1,y2⟩:=MN.mp e2';cases y2;obtain⟨cv,h3,h4⟩:=DJ r2 y1;have:kit kt t c0=some b:=by
      unfold gO at e4;rw[e5] at e4 ⊢;cases b' with
      |true=>exact e4
      |false=>unfold gO at e4;exact e4
     exact .inl ⟨_,_,tv,cv,b,rfl,h1,h3,ok.one _ (nY this) _ _ h2 h4,bv p (.bl _)⟩
   .exact p.elim
  .exact p.elim
 .exact p.elim
def nD(r:Rc K mg P H o (.lst us)):∃vs,o=.lst vs/\Rds K mg P H vs us:=by cases r with |lst r=>exact⟨_,rfl,r⟩
def Au(r:Rds K mg P H ds [v]):∃d,ds=[d]/\Rd K mg P H d v:=by cases r with |cons r rr=>cases rr;exact⟨_,rfl,r⟩
def zi:MmD K mg uS hE.G:=λP H n o u ds vs u' v Q np e hf r0 rs q k=>by
 replace q:oZ u vs=some (u',v):=q;unfold oZ at q;split at q
 .split at q
  .rename_i hl;cases q;obtain⟨xs,rfl,r⟩:=nD r0;obtain⟨d,rfl,rd⟩:=Au rs;exact⟨n,xs,d,rfl,rfl,e,by rw[r.len];exact hl,k _ _ trivial (.lst (r.append (.cons rd .nil))) .non⟩
  .cases q
 .cases q
def Jg:MmD K mg rPop qN.G:=λP H n o u ds vs u' v Q np e hf r0 rs q k=>by
 replace q:sj u vs=some (u',v):=q;unfold sj at q;split at q
 .split at q
  .rename_i w hw;cases q;obtain⟨xs,rfl,r⟩:=nD r0;cases rs;obtain⟨d,e2,rd⟩:=r.get hw;refine⟨n,xs,d,rfl,rfl,e,by rw[r.len];exact e2,k _ _ trivial (.lst ?_) rd⟩;rw[List.dropLast_eq_take,List.dropLast_eq_take,r.len];exact r.take _
  .cases q
 .cases q
def Eg:Cy K mg DR seL.G:=λP H n o u di vi d v u' Q np e hf r0 ri rd q k=>by
 replace q:sL u vi v=some u':=q;unfold sL at q;split at q
 .split at q
  .rename_i j hj;cases q;obtain⟨xs,rfl,r⟩:=nD r0;obtain rfl:=ri.int;exact⟨n,xs,_,j,rfl,rfl,e,by rw[r.len];exact hj,k _ trivial (.lst (r.set rd j))⟩
  .cases q
 .cases q
def C7{y:V}{w:Val}{pd:PyData}(ry:Rep K H y pd)(es:cx 164 w=some pd){bs:List Bool}(r:Rds K mg P H ds vs):gj w vs=some bs->EqsR K H y pd ds bs:=
 r.ind
  (M:=λds vs=>∀bs,gj w vs=some bs->EqsR K H y pd ds bs) (λbs q=>by cases q;exact .nil) (λr _ ih bs q=>by
  unfold gj at q;split at q
  .rename_i b bs' e1 e2;cases q;unfold aG at e1;rw[es] at e1;split at e1
   .rename_i a c e3 e4;cases e4;split at e1
    .rename_i hs;cases e1;exact .cons (gJ 164 _ _ _ (.inl r) e3) hs.1 (ih _ e2)
    .cases e1
   .cases e1
  .cases q) bs
theorem A3{w:Val}:∀{vs:List Val}{bs:List Bool},gj w vs=some bs->vs=[]\/∃pd,cx 164 w=some pd/\shp pd=true
 | [],_,_=>.inl rfl
 |
  x::xs,bs,e=>by
  right;unfold gj at e;split at e
  .rename_i b bs' e1 e2;unfold aG at e1;split at e1
   .rename_i a c e3 e4;split at e1
    .rename_i hs;exact⟨c,e4,hs.2⟩
    .cases e1
   .cases e1
  .cases e
def AA:MtD K mg (n0 K) cL.G:=λP H d v ds vs Q r hv rs p=>by
 replace p:BvP K mg P H Q (fO v vs):=p;unfold fO at p;split at p
 .obtain⟨a,xs,rfl,h,q⟩:=r.lstL;obtain⟨y,rfl,ry⟩:=cQ rs;split at p
  .rename_i bs eb;split at p
   .rename_i hl;rcases A3 eb with rfl |⟨pd,h3,h4⟩
    .cases eb;exact absurd hl (by simp)
    .have r3:=gJ 164 _ _ _ ry h3;exact⟨a,y,bs,rfl,rfl,⟨xs,pd,h,r3,h4,C7 r3 h3 q eb⟩,hl,bv p (.int _)⟩
   .exact p.elim
  .exact p.elim
 .exact p.elim
def yF:MtD K mg (oR K) fS.G:=λP H d v ds vs Q r hv rs p=>by
 replace p:BvP K mg P H Q (oC v vs):=p;unfold oC at p;split at p
 .obtain⟨a,xs,rfl,h,q⟩:=r.lstL;obtain⟨y,rfl,ry⟩:=cQ rs;split at p
  .rename_i hs;obtain⟨pd,s1,s2⟩:=MN.mp hs;have r3:=gJ 164 _ _ _ ry s1;split at p
   .rename_i bs eb;exact⟨a,y,bs,rfl,rfl,⟨xs,pd,h,r3,s2,C7 r3 s1 q eb⟩,bv p (.int _)⟩
   .exact p.elim
  .exact p.elim
 .exact p.elim
end
abbrev MO3:=E3->R3 (Option Int)
noncomputable def IC (e:E3):R3 (Option Int):=.ok none e
noncomputable def Hg (F:ME3) (e:E3):R3 (Option Int):=(F e).bind λt e1=>match rs e1 t with
 |some (.int i)=>.ok (some i) e1
 |_=>.stuck
noncomputable def vSl (F:ME3) (L U:MO3) (e:E3):R3 Tm:=(F e).bind λt e1=>(L e1).bind λlo e2=>(U e2).bind λhi e3=>match rs e3 t.drop with
 |some v=>(aSl v lo hi).at e3
 |none=>.stuck
structure POp where
 t:Nat
 G:MO3
noncomputable def oN:POp:=⟨1,IC⟩
noncomputable def oS (a:PEx):POp:=⟨2,Hg a.G⟩
noncomputable def pSl (a:PEx) (l u:POp):PEx:=⟨23,vSl a.G l.G u.G⟩
noncomputable def vD0 (e:E3):R3 Tm:=.ok (.new (.dct [])) e
noncomputable def pD0:PEx:=⟨24,vD0⟩
def rdO(K:W.Frag)(mg:Pp)(ES:St->XK)(G:MO3):TO:=λσ H Q=>∃X N0 ns e,Sat K mg X N0 ns e σ H/\PG3 K mg X N0 ns e σ H (ES σ) (λo _ _ H'=>Q o H') (G e)
def rdO.el{K:W.Frag}{mg:Pp}{G:MO3}(h:rdO K mg ES G σ H Q){Z:Prop}(k:∀X N0 ns e,Sat K mg X N0 ns e σ H->PG3 K mg X N0 ns e σ H (ES σ) (λo _ _ H'=>Q o H') (G e)->Z):Z:=by obtain⟨X,N0,ns,e,S,p⟩:=h;exact k X N0 ns e S p
structure DO(K:W.Frag)(mg:Pp)(X:Cx)(ES:St->XK)(e:Option Expr)(F:POp):Prop where
 ok:PO X e (rdO K mg ES F.G)
section
variable{K:W.Frag}{mg:Pp}{X:Cx}{ES:St->XK}{e a:Expr}{p:PEx}{l u:POp}{lo hi:Option Expr}{pos p2:Pos}
def D7:DO K mg X ES none oN:=⟨PO.imp E6 λσ H Q zz=>rdO.el zz λY N0 ns e S p=>PG3.ret p S⟩
def D6(he:DE K mg X ES e p):DO K mg X ES (some e) (oS p):=⟨PO.imp (E7 he.ok) λσ H Q zz=>rdO.el zz λY N0 ns e S p=>
 ⟨Y,
  N0,λ_=>True,ns,e,S,λ_ _=>trivial,PG3.imp p S λt e1 ns1 H1 a1 S1 p1 x r1=>by
  try dsimp only at p1
  split at p1
  .rename_i i q;obtain rfl:=(r1.sh S1 q).int;exact⟨_,rfl,p1.ret S1⟩
  .exact p1.elim⟩⟩
def Mz{P:Addr->Prop}{H:Hp}{Q:VK}{x:V}{v:Val}{lo hi:Option Int}(r:ShR K mg P H x v)(p:BvP K mg P H Q (aSl v lo hi)):((wz K x lo hi H Q\/xC K x lo hi H Q)\/xH x lo hi H Q)\/Cf K x lo hi H Q:=by
 have cut:∀{vs us},Rds K mg P H vs us->Rds K mg P H (kd vs lo hi) (gQ us lo hi):=λr=>by unfold kd gQ;rw[r.len];exact (r.drop _).take _
 unfold aSl at p;split at p
 .obtain⟨a,ds,rfl,h,q⟩:=r.tup;split at p
  .rename_i hn;exact .inr ⟨_,_,rfl,h,by rw[q.len];exact hn,bv p (.tup h q)⟩
  .rename_i hn;exact .inl (.inl (.inr ⟨_,_,rfl,h,by rw[q.len];exact hn,bvT p (cut q)⟩))
 .obtain⟨a,ds,rfl,h,q⟩:=r.lstL;exact .inl (.inl (.inl ⟨_,_,rfl,h,bvL p (cut q)⟩))
 .obtain⟨a,ds,rfl,h,q⟩:=r.kl;exact .inl (.inl (.inl ⟨_,_,rfl,h,bvL p (cut q)⟩))
 .obtain rfl:=r.str;split at p
  .rename_i hz;exact .inl (.inr ⟨_,rfl,hz,bv p (.str _)⟩)
  .exact p.elim
 .exact p.elim
def Bg(hK:X.K=K)(he:DE K mg X ES e p)(hl:DO K mg X ES lo l)(hu:DO K mg X ES hi u):DE K mg X ES (.Subscript e (.Slice lo hi none p2) pos) (pSl p l u):=
 ⟨PE.imp (BR (slKW hK) he.ok hl.ok hu.ok) λσ H Q zz=>zz.el λY N0 L ns e S hL p=>⟨Y,N0,L,ns,e,S,hL,PG3.imp p S λt e1 ns1 H1 a1 S1 p1 x rx=>⟨Y,N0,ns1,e1,S1,PG3.imp p1 S1 λlo e2 h_ H2 a2 S2 p2=>⟨Y,N0,h_,e2,S2,PG3.imp p2 S2 λhi e3 ns3 H3 a3 S3 p3=>by
  try dsimp only at p3
  split at p3
  .rename_i v q;exact Mz ((rx.drop (a2.trans S1 a3)).sh S3 q) (p3.bv S3 λa z=>hL a (a1.dom a (a2.dom a (a3.dom a z))))
  .exact p3.elim⟩⟩⟩⟩
def Ms:DE K mg X ES (.Dict [] [] pos) pD0:=⟨PE.imp BF λσ H Q ⟨Y,N0,L,ns,e,S,hl,p⟩ a ha=>PG3.bv (b:=.new (.dct [])) p S hl H a (.dK []) .refl ha trivial (.dct .nil)⟩
def BM(hK:X.K=K)(ha:DE K mg X ES a p)(he:∀e_,isTrue a X.env e_=(do let v <- e_;standAt a.pos;holding [v] (truthy v)):=by intro _;rfl):DT K mg X ES a (qTr p):=by
 subst hK;exact
  ⟨PT.imp (AW ha.ok he) λσ H Q zz=>zz.el λY N0 ns e S p=>⟨Y,N0,λ_=>True,ns,e,S,λ_ _=>trivial,PG3.imp p S λt e1 ns1 H1 a1 S1 p1 x r1=>by
  try dsimp only at p1
  split at p1
  .rename_i b q;obtain⟨v,q1,q2⟩:=MY.mp q;have r:=r1.sh S1 q1;have k:=p1.ret S1;have items:∀{us:List Val},v.items=some us->some (!us.isEmpty)=some b->∃k,Cd X.K x H1 k/\Q k H1:=λ{us} e e2=>by
    obtain⟨a,vs,rfl,hq,rr⟩:=r.items e;have ee:us.isEmpty=vs.isEmpty:=by cases rr <;> rfl
    cases e2;rw[ee] at k;rcases hq with hq |hq
    .exact⟨_,.inl ⟨vs,hq,rfl⟩,k⟩
    .exact⟨_,.inr (.inl ⟨vs,hq,rfl⟩),k⟩
   cases v with
   |non=>obtain rfl:=r.non;cases q2;exact⟨_,rfl,k⟩
   |bl b=>obtain rfl:=r.bl;cases q2;exact⟨_,rfl,k⟩
   |int b=>obtain rfl:=r.int;cases q2;exact⟨_,rfl,k⟩
   |tup us=>exact items rfl q2
   |lst us=>exact items rfl q2
   |kl us=>exact items rfl q2
   |_=>cases q2
  .exact p1.elim⟩⟩
end
noncomputable def unS (i:Nat) (k:E3->SR3) (e:E3):SR3:=match e[i]? with
 |some s=>if s.pl=true then k (e.set i .no) else .stuck
 |none=>.stuck
noncomputable def dX (mro:List Str) (i:Nat) (B U:MS3) (e:E3):SR3:=match B e with
 |
  .exc c e1=>if c∈mro then match e1[i]? with
   |
    some s0=>if s0.pl=true then match U (e1.set i (.sh (.exc c))) with
     |.nx e2=>unS i .nx e2
     |.bk e2=>unS i .bk e2
     |.ct e2=>unS i .ct e2
     |.rt d e2=>.rt d e2
     |_=>.stuck
    else .stuck
   |none=>.stuck
  else .stuck
 |r=>r
noncomputable def Aw (mro:List Str) (i:Nat) (b u:PSt):PSt:=⟨18,dX mro i b.G u.G⟩
section
variable{K:W.Frag}{mg:Pp}{X:Cx}{ES:St->XK}{cn n:Str}{C:Addr}{i:Nat}{body suite:List Stmt}{b₀:Stmt}{x y:PSt}{np hpos pos:Pos}{mro:List Str}
def EK(hb:∀(pn:Pq) (xe:Pt) (ES':St->XK),iC (cxT X pn xe) ES'->DSs K mg (cxT X pn xe) ES' body x):PSsx X body (λDe E σ H=>rdS K mg E x.G De σ H):=by
 intro pins s σ H De E I hh
 let xe:Value->Shared->Prop:=λe s'=>∃pins2 σ1 H1 s1,Inv (cxT X (X.pn++pins) (λ_ _=>False)) pins2 σ1 H1 s1/\CX1 X.prog X.w X.stack H1 s1 (E σ1) e s'
 have hx:iC (cxT X (X.pn++pins) xe) E:=λpins2 σ1 H1 s1 e s' I1 q=>⟨pins2,σ1,H1,s1,⟨⟨I1.ok.mod,I1.ok.kind,I1.ok.glob,I1.ok.blt,I1.ok.above,I1.ok.inj,I1.ok.has,I1.ok.cab,I1.ok.hd,I1.ok.frames,I1.ok.stk,I1.ok.exf,I1.ok.bs,I1.ok.bsz,I1.ok.noex,I1.ok.exfs,I1.ok.funs,I1.ok.frf⟩,I1.os,I1.bare,I1.base,I1.loc,I1.cell,I1.free,I1.freeC,I1.pin,I1.hok,I1.len⟩,q⟩;refine MU ((hb (X.pn++pins) xe E hx).ok [] s σ H De I.toT hh) (λf s' q=>?_) λe s' q=>?_
 .cases f with
  |next=>obtain⟨σ1,H1,I1,q1⟩:=q;exact⟨σ1,H1,I1.ofT,q1⟩
  |brk=>obtain⟨σ1,H1,I1,q1⟩:=q;exact⟨σ1,H1,I1.ofT,q1⟩
  |cont=>obtain⟨σ1,H1,I1,q1⟩:=q;exact⟨σ1,H1,I1.ofT,q1⟩
  |ret u=>obtain⟨v,σ1,H1,I1,r1,q1⟩:=q;exact⟨v,σ1,H1,I1.ofT,r1,q1⟩
 .obtain⟨pins2,σ1,H1,s1,I1,q1⟩:=q;exact⟨σ1,H1,s1,I1.ofT,q1⟩
def sW{Y N0:Addr->Prop}{ns ns':Ns}{e e2:E3}{σ:St}{H H':Hp}{De:Ends}{k:E3->SR3}{R:St->Hp->Prop}(hk:∀e',PS3 K mg Y N0 ns e H De ES (k e')->∀H' σ' ns',Stp ns e H ns' e' H'->Sat K mg Y N0 ns' e' σ' H'->R σ' H')(p:PS3 K mg Y N0 ns e H De ES (unS i k e2))(a:Stp ns e H ns' e2 H')(S:Sat K mg Y N0 ns' e2 σ H'):R (σ.set i none) H':=by
 unfold unS at p;split at p
 .rename_i s q;split at p
  .rename_i hp;have hi:=(B_.mp q).1;exact hk _ p H' _ _ (a.put (x:=none) (s:=.no) hi (λ_ z=>by cases z) q hp rfl S.l2) (S.putN hi rfl)
  .exact p.elim
 .exact p.elim
def JZ(T:X.Top)(hN:X.N.Nodup)(hi:X.N[i]?=some n)(hl:X.env.kindOf n=some .local)(hg:Gl X cn)(hm:mg cn=some (.ref C))(hh:XHand K C)(hmro:∀c∈mro,∀Ce,mg c=some (.ref Ce)->W.mroIn K Ce (.ref C)=some true)
 (hb:∀(pn:Pq) (xe:Pt) (ES':St->XK),iC (cxT X pn xe) ES'->DSs K mg (cxT X pn xe) ES' body x) (hs:∀ea,DSs K mg (jo X ea) (λ_=>E0) (b₀::suite) y)
 (hK:X.K=K:=by rfl) (hk:X.mg=mg:=by rfl) (hd:(cn==("__debug__" : Str))=false:=by decide):DS K mg X ES (.Try body [.ExceptHandler (some (.Name cn np)) (some n) (b₀::suite) hpos] [] [] pos) (Aw mro i x y):=by
 subst hK hk;refine⟨PS.imp (HR T hN hi hl hg hm hh (EK hb) (λea=>(hs ea).ok) hd) λDe σ H zz=>zz.el λY N0 ns e S p=>⟨Y,N0,ns,e,S,?_⟩⟩;replace p:PS3 X.K X.mg Y N0 ns e H De ES (dX mro i x.G y.G e):=p;unfold dX at p;cases q:x.G e with
 |nx e1=>rw[q] at p;exact p
 |rt d e1=>rw[q] at p;exact p
 |bk e1=>rw[q] at p;exact p
 |ct e1=>rw[q] at p;exact p
 |stuck=>rw[q] at p;exact p
 |
  exc c e1=>
  rw[q] at p;dsimp only at p;split at p
  .rename_i hc;split at p
   .rename_i s0 q0;split at p
    .rename_i p0;intro H1 σ1 ns1 Ce a1 S1 mc;refine⟨Ce,rfl,hmro c hc Ce mc,λea hn=>?_⟩;have hi':=(B_.mp q0).1;have g:=Gr.upd (u:=.ext (lP ea Ce)) hn;have S2:=(S1.gr g).putN (s:=.sh (.exc c)) (d:=some (.ref ea)) hi' ⟨rfl,_,rfl,.exc mc bo⟩;have a2:=(a1.trans S (.gr g)).put (x:=none) (s:=.sh (.exc c)) hi' (λ_ z=>by cases z) q0 p0 rfl S1.l2;refine⟨Y,N0,_,_,S2,?_⟩;cases q2:y.G (e1.set i (.sh (.exc c))) with
     |nx e2=>rw[q2] at p;exact λH' σ' ns' b S'=>sW (De:=De) (ES:=ES) (e:=e) (k:=.nx) (R:=De.nx) (λe' p=>p) p (a2.trans S b) S'
     |bk e2=>rw[q2] at p;exact λH' σ' ns' b S'=>sW (De:=De) (ES:=ES) (e:=e) (k:=.bk) (R:=De.bk) (λe' p=>p) p (a2.trans S b) S'
     |ct e2=>rw[q2] at p;exact λH' σ' ns' b S'=>sW (De:=De) (ES:=ES) (e:=e) (k:=.ct) (R:=De.ct) (λe' p=>p) p (a2.trans S b) S'
     |rt d e2=>rw[q2] at p;exact λH' σ' ns' x b S'=>p H' σ' ns' x (a2.trans S b) S'
     |exc c2 e2=>rw[q2] at p;exact p.elim
     |stuck=>rw[q2] at p;exact p.elim
    .exact p.elim
   .exact p.elim
  .exact p.elim
end
theorem lC{K:W.Frag}{mg:Pp}{P:Addr->Prop}{H:Hp}:∀(ns:List Int),Rds K mg P H (ns.map V.int) (ns.map Val.int)
 | []=>.nil
 |_::r=>.cons (.int _) (lC r)
structure PFx(ms:List Bool) where
 G:Fn3
noncomputable def PFx.fn {ms:List Bool} (p:PFx ms):PFn:=⟨ms,p.G⟩
noncomputable def PFx.none (ms:List Bool) (N:Nat:=0):PFx ms:=⟨λ_=>.stuck⟩
noncomputable def PFx.of (ms:List Bool) (N:Nat) (c:PSt):PFx ms:=⟨fnV ms N c.G⟩
section
variable{K:W.Frag}{mg:Pp}{P:Program}{w:World}{base:Heap}{fx:Str}{n_:Stmt}{k m:Nat}{ps N:List Str}{ms:List Bool}{x:PSt}
def okX(D:Def K mg fx n_)(S:FnScope N ps (ar n_))
 (hb:∀(kV doc pm:Value) (an:Option Addr) (cdv ct:Value) (us:List Value),us.length=ps.length->bindArgs (W.fnOf fx fx (dm n_) (bG n_) (ar n_) .none kV doc pm an cdv ct) ⟨us,[]⟩=pure (ps.zip us))
 (j_:N.Nodup->∀(f:Addr) (cdv:Value) (A:Around) (outer:List Env) (s:Shared) (H:Hp) (E:XK),Room k (A.deeper (envOfC fx (ar n_) s.heap.objs.size f cdv))->
  DSs K mg (eJ (CX1 P w) P w K mg base N fx (ar n_) f cdv A outer s H E) (λ_=>E) (bG n_) x) (hn:ms.length=ps.length:=by rfl) (hm:N.length=m:=by rfl):Callee P w K mg base fx (k+1) ps (sp3 K mg (PFx.of ms m x).fn):=okP D S hb j_ hn hm
def ok0(D:Def K mg fx n_)(S:FnScope N ps (ar n_))
 (hb:∀(kV doc pm:Value) (an:Option Addr) (cdv ct:Value) (us:List Value),us.length=ps.length->bindArgs (W.fnOf fx fx (dm n_) (bG n_) (ar n_) .none kV doc pm an cdv ct) ⟨us,[]⟩=pure (ps.zip us)) (hn:ms.length=ps.length:=by rfl):Callee P w K mg base fx (k+1) ps (sp3 K mg (PFx.none ms).fn):=
 (okP (x:=xNo) (ms:=ms) (m:=N.length) D S hb (λ_ _ _ _ _ _ _ _ _=>⟨λ_ _ _ _ _ _ ⟨_,_,_,_,_,p⟩=>p.elim⟩) hn).imp λ_ _ _ _ ⟨_,_,_,_,_,p⟩=>p.elim
end
section
variable{K:W.Frag}{mg:Pp}{X:Cx}{ES:St->XK}{e:Expr}{p:PEx}{pos:Pos}
def zsS{ow:Bool}(i:Nat){x:Str}{l_:Pos}(hN:X.N.Nodup)(he:DE K mg X ES e p)(hi:X.N[i]?=some x:=by exact rfl)(hx:Loc X.env.scope x:=by first |exact Or.inl rfl |exact Or.inr rfl)(hs:swapsWith e (some (.Name x l_)) pos.line X.env=pure false:=by rfl)(hf:X.fn x=true\/X.env.scope.names.lookup x=some .local:=by first |exact .inl rfl |exact .inr rfl |assumption):DS K mg X ES (.Assign [.Name x l_] e pos) (ay ow i p):=Im hN hi hx he hs hf
def zgN(i:Nat){x:Str}(hN:X.N.Nodup)(hi:X.N[i]?=some x:=by exact rfl)(hx:Loc X.env.scope x:=by first |exact Or.inl rfl |exact Or.inr rfl)(hf:X.fn x=true\/X.env.scope.names.lookup x=some .local:=by first |exact .inl rfl |exact .inr rfl |assumption):DG K mg X (.Name x pos) (gtN i):=El hN hi hx hf
end
section
variable(e:E3)
@[simp] theorem fZ(a:α)(f:α->E3->R3 β):(R3.ok a e).bind f=f a e:=rfl
@[simp] theorem IQ(c:Str)(f:α->E3->R3 β):(R3.exc c e:R3 α).bind f=.exc c e:=rfl
@[simp] theorem Ln(a:α)(f:α->E3->SR3):(R3.ok a e).toS f=f a e:=rfl
@[simp] theorem Hd(c:Str)(f:α->E3->SR3):(R3.exc c e:R3 α).toS f=.exc c e:=rfl
@[simp] theorem Lo(f:E3->SR3):(SR3.nx e).then f=f e:=rfl
@[simp] theorem LA(r:Rt)(f:E3->SR3):(SR3.rt r e).then f=.rt r e:=rfl
@[simp] theorem Mf(f:E3->SR3):(SR3.bk e).then f=.bk e:=rfl
@[simp] theorem Gy(c:Str)(f:E3->SR3):(SR3.exc c e).then f=.exc c e:=rfl
@[simp] theorem mU(f:E3->SR3):(SR3.nx e).loop f=f e:=rfl
@[simp] theorem Lh(f:E3->SR3):(SR3.ct e).loop f=f e:=rfl
@[simp] theorem Lm(f:E3->SR3):(SR3.bk e).loop f=.nx e:=rfl
@[simp] theorem KL(r:SR3):r.unl none=r:=by cases r <;> rfl
@[simp] theorem Ci:lockO e none=e:=rfl
@[simp] theorem wN:fh e none=e:=rfl
@[simp] theorem Hz(v:Val):(Bv.val v).at e=.ok (.val v) e:=rfl
@[simp] theorem G9(v:Val):(Bv.new v).at e=.ok (.new v) e:=rfl
@[simp] theorem Jc(v:Val):rs e (.val v)=some v:=rfl
@[simp] theorem Gm(v:Val):rs e (.new v)=some v:=rfl
@[simp] theorem JX(i:Nat):rs e (.bor i)=(e[i]?).bind Sl.val:=rfl
@[simp] theorem JP(v:Val):(Tm.val v).drop=.val v:=rfl
@[simp] theorem Ip(v:Val):(Tm.new v).drop=.val v:=rfl
@[simp] theorem JM(i:Nat):(Tm.bor i).drop=.bor i:=rfl
@[simp] theorem Eo:rss e []=some []:=rfl
@[simp] theorem Cw(t:Tm)(ts:List Tm):rss e (t::ts)=match rs e t,rss e ts with
 |some v,some vs=>some (v::vs)
 |_,_=>none:=rfl
@[simp] theorem Ja(v:Val):df e (.val v)=some (e,v):=rfl
@[simp] theorem Je(v:Val):df e (.new v)=some (e,v):=rfl
@[simp] theorem zN:dem e []=some (e,[]):=rfl
@[simp] theorem F2(t:Tm)(ts:List Tm):dem e (t::ts)=match df e t with
 |some (e1,v)=>match dem e1 ts with
  |some (e2,vs)=>some (e2,v::vs)
  |none=>none
 |none=>none:=rfl
@[simp] theorem HV(b:Bool):bOf (some (.bl b))=some b:=rfl
@[simp] theorem LK(i:Nat):(af i).G e=match e[i]? with
 |some (.sh v)=>.ok (.val v) e
 |some .no=>.stuck
 |some _=>.ok (.bor i) e
 |none=>.stuck:=rfl
@[simp] theorem Me(i:Int):(ah i).G e=.ok (.val (.int i)) e:=rfl
@[simp] theorem v_bl(i:Bool):(pBl i).G e=.ok (.val (.bl i)) e:=rfl
@[simp] theorem K6(i:Str):(aU i).G e=.ok (.val (.str i)) e:=rfl
@[simp] theorem My:kq.G e=.ok (.val .non) e:=rfl
@[simp] theorem v_ty(i:String):(pTy i).G e=.ok (.val (.ty i)) e:=rfl
@[simp] theorem Lk(i:Str):(dD i).G e=.ok (.val (.glb i)) e:=rfl
@[simp] theorem v_un(o:PU1)(a:PEx):(pUn o a).G e=(a.G e).bind λt e1=>match rs e1 t with
 |some v=>(o.G v).at e1
 |none=>.stuck:=rfl
@[simp] theorem v_op(o:PO2)(a b:PEx):(pOp o a b).G e=(a.G e).bind λt1 e1=>(b.G e1).bind λt2 e2=>match rs e2 t1.drop,rs e2 t2 with
 |some v1,some v2=>(o.G v1 v2).at e2
 |_,_=>.stuck:=rfl
@[simp] theorem LQ:ag.G e=.ok [] e:=rfl
@[simp] theorem Hu(a:PEx)(r:PAs):(aa a r).G e=(a.G e).bind λt e1=>(r.G e1).bind λts e2=>.ok (t.drop::ts) e2:=rfl
@[simp] theorem v_fn(o:PBf)(a:PAs):(pFn o a).G e=(a.G e).bind λts e1=>match rss e1 ts with
 |some vs=>(o.G vs).at e1
 |none=>.stuck:=rfl
@[simp] theorem Lv(a:PAs):(bz a).G e=(a.G e).bind λts e1=>match dem e1 ts with
 |some (e2,vs)=>if vs.length<=16777216 then .ok (.val (.tup vs)) e2 else .stuck
 |none=>.stuck:=rfl
@[simp] theorem Mg(a:PAs):(b8 a).G e=(a.G e).bind λts e1=>match dem e1 ts with
 |some (e2,vs)=>if vs.length<=16777216 then .ok (.new (.lst vs)) e2 else .stuck
 |none=>.stuck:=rfl
@[simp] theorem Kz(a b:PEx):(fA a b).G e=(a.G e).bind λt e1=>match bOf (rs e1 t) with
 |some true=>b.G e1
 |some false=>.ok (.val (.bl false)) e1
 |none=>.stuck:=rfl
@[simp] theorem LJ(a:PEx):(sZ a).G e=(a.G e).bind λt e1=>match bOf (rs e1 t) with
 |some b=>.ok (.val (.bl (!b))) e1
 |none=>.stuck:=rfl
@[simp] theorem v_if(c:PTs)(a b:PEx):(pIf c a b).G e=(c.G e).bind λk e1=>if k=true then a.G e1 else b.G e1:=rfl
@[simp] theorem c_of(a:PEx):(qOf a).G e=(a.G e).bind λt e1=>match bOf (rs e1 t) with
 |some b=>.ok b e1
 |none=>.stuck:=rfl
@[simp] theorem c_tr(a:PEx):(qTr a).G e=(a.G e).bind λt e1=>match (rs e1 t).bind lO with
 |some b=>.ok b e1
 |none=>.stuck:=rfl
@[simp] theorem c_an(a b:PTs):(qAn a b).G e=(a.G e).bind λk e1=>if k=true then b.G e1 else .ok false e1:=rfl
@[simp] theorem c_o(a b:PTs):(qO a b).G e=(a.G e).bind λk e1=>if k=true then .ok true e1 else b.G e1:=rfl
@[simp] theorem c_no(a:PTs):(qNo a).G e=(a.G e).bind λk e1=>.ok (!k) e1:=rfl
@[simp] theorem x_nx:xNx.G e=.nx e:=rfl
@[simp] theorem x_bk:xBk.G e=.bk e:=rfl
@[simp] theorem JT:xu.G e=.rt (.val .non) e:=rfl
@[simp] theorem Lr(a:PEx):(ak a).G e=(a.G e).toS n6:=rfl
@[simp] theorem Ei(v:Val):n6 (.val v) e=.rt (.val v) e:=rfl
@[simp] theorem Ew(v:Val):n6 (.new v) e=.rt (.new v) e:=rfl
@[simp] theorem F4(i:Nat):n6 (.bor i) e=match e[i]? with
 |some (.sh v)=>.rt (.val v) e
 |some (.ow v)=>.rt (.new v) (e.set i .no)
 |some (.mu _)=>.rt (.par i) e
 |_=>.stuck:=rfl
@[simp] theorem Gb(a:PEx):(aP a).G e=(a.G e).toS λ_ e1=>.nx e1:=rfl
@[simp] theorem Dp(a b:PSt):(aj a b).G e=(a.G e).then b.G:=rfl
@[simp] theorem x_if(c:PTs)(a b:PSt):(xIf c a b).G e=(c.G e).toS λk e1=>if k=true then a.G e1 else b.G e1:=rfl
@[simp] theorem KO(o:Bool)(i:Nat)(a:PEx):(ay o i a).G e=(a.G e).toS (jK o i):=rfl
@[simp] theorem K3:Sl.no.pl=true:=rfl
@[simp] theorem KP(v:Val):(Sl.sh v).pl=true:=rfl
@[simp] theorem Fg(o:Bool)(i:Nat)(v:Val):jK o i (.val v) e=match e[i]? with
 |some s0=>if s0.pl=true then .nx (e.set i (.sh v)) else .stuck
 |none=>.stuck:=by unfold jK;rfl
@[simp] theorem CL(i:Nat)(v:Val):jK true i (.new v) e=match e[i]? with
 |some s0=>if s0.pl=true then .nx (e.set i (.ow v)) else .stuck
 |none=>.stuck:=by unfold jK;rfl
@[simp] theorem AZ(i:Nat)(v:Val):jK false i (.new v) e=match e[i]? with
 |some s0=>if s0.pl=true then .nx (e.set i (.sh v)) else .stuck
 |none=>.stuck:=by unfold jK;rfl
@[simp] theorem g_n(i:Nat)(v:Val):(gtN i).G v e=match e[i]? with
 |some s=>if s.pl=true then some (e.set i (.sh v)) else none
 |none=>none:=rfl
@[simp] theorem g_sn:eM.G [] e=some e:=rfl
@[simp] theorem g_sc(a:PGt)(b:PGs)(v:Val)(vs:List Val):(br a b).G (v::vs) e=(a.G v e).bind λe1=>b.G vs e1:=rfl
@[simp] theorem g_t(n:Nat)(a:PGs)(vs:List Val):(gtT n a).G (.tup vs) e=if vs.length=n then a.G vs e else none:=rfl
@[simp] theorem IU(a:PEx)(g:PGt):(lg a g).G e=(a.G e).toS λt e1=>match df e1 t with
 |some (e2,v)=>match g.G v e2 with
  |some e3=>.nx e3
  |none=>.stuck
 |none=>.stuck:=rfl
@[simp] theorem LW(i j:Nat)(a:PAs):(gm i j a).G e=(a.G e).toS λts e1=>match dem e1 ts with
 |some (e2,[v,u])=>match (pN i v e2).bind (pN j u) with
  |some e3=>.nx e3
  |none=>.stuck
 |_=>.stuck:=rfl
@[simp] theorem LO(i:Nat)(v:Val):pN i v e=match e[i]? with
 |some s=>if s.pl=true then some (e.set i (.sh v)) else none
 |none=>none:=rfl
@[simp] theorem MF(i:Nat)(o:PO2)(a:PEx):(tE i o a).G e=match e[i]? with
 |some (.sh x)=>(a.G e).toS λt e1=>match rs e1 t with
  |some y=>match o.G x y with
   |.val z=>match pN i z e1 with
    |some e2=>.nx e2
    |none=>.stuck
   |_=>.stuck
  |none=>.stuck
 |_=>.stuck:=rfl
@[simp] theorem FQ(c:Str)(a:PAs):(eP c a).G e=(a.G e).toS λts e1=>if ts.length<=16777216 then .exc c e1 else .stuck:=rfl
@[simp] theorem Lu(i:Nat)(w:PSe)(k a:PEx):(ox i w k a).G e=(a.G e).toS λt e1=>match (e1[i]?).bind Sl.mv with
 |none=>.stuck
 |some _=>(k.G e1).toS λt2 e2=>match rs e2 t2 with
  |none=>.stuck
  |some vi=>match df e2 t.drop with
   |none=>.stuck
   |some (e3,v)=>match e3[i]? with
    |none=>.stuck
    |some s=>match s.mv with
     |none=>.stuck
     |some u=>match w.G u vi v with
      |some u'=>.nx (e3.set i (s.re u'))
      |none=>.stuck:=rfl
@[simp] theorem Kt(v:Val):(Sl.ow v).mv=some v:=rfl
@[simp] theorem Ku(v:Val):(Sl.mu v).mv=some v:=rfl
@[simp] theorem LC(v u:Val):(Sl.ow v).re u=.ow u:=rfl
@[simp] theorem LX(v u:Val):(Sl.mu v).re u=.mu u:=rfl
@[simp] theorem IT(v:Val):(Sl.ow v).val=some v:=rfl
@[simp] theorem GV(v:Val):(Sl.mu v).val=some v:=rfl
@[simp] theorem Mh(mro:List Str)(i:Nat)(b u:PSt):(Aw mro i b u).G e=dX mro i b.G u.G e:=rfl
@[simp] theorem KH(i:Nat)(m:PMm)(a:PAs):(mB i m a).G e=match e[i]? with
 |some s=>if (s.mv.map d0)=some true then (a.G e).bind λts e1=>match dem e1 ts with
  |some (e2,vs)=>match e2[i]? with
   |some s2=>match s2.mv with
    |some u=>match m.G u vs with
     |some (u',v)=>.ok (.val v) (e2.set i (s2.re u'))
     |none=>.stuck
    |none=>.stuck
   |none=>.stuck
  |none=>.stuck else .stuck
 |none=>.stuck:=rfl
@[simp] theorem Jp(i:Nat)(m:PMm):(qw i m).G e=match e[i]? with
 |some s=>if (s.mv.map d0)=some true then (match s.mv with
  |some u=>match m.G u [] with
   |some (u',v)=>.ok (.val v) (e.set i (s.re u'))
   |none=>.stuck
  |none=>.stuck) else .stuck
 |none=>.stuck:=by
 show oT i m.G oi e=_;unfold oT;cases q:e[i]? with
 |none=>rfl
 |
  some s=>
  dsimp only;split
  .simp only[oi,fZ,zN,rK,q];try rfl
  .rfl
@[simp] theorem sE(xs:List Val):d0 (.lst xs)=true:=rfl
@[simp] theorem HX(m:PMv)(a:PEx)(b:PAs):(kM m a b).G e=(a.G e).bind λt e1=>if (rs e1 t).map d0=some true then (b.G e1).bind λts e2=>(match rs e2 t.drop,rss e2 ts with
 |some v,some vs=>if d0 v=true then (m.G v vs).at e2 else .stuck
 |_,_=>.stuck) else .stuck:=rfl
@[simp] theorem Li(a:PEx):(cU a).G e=(a.G e).bind λt e1=>match i8 t e1 with
 |some p=>.ok p e1
 |none=>.stuck:=rfl
@[simp] theorem Ko(a:PAs):(qM a).G e=(a.G e).bind λts e1=>match ts with
 | [t,u]=>(match i8 t e1,i8 u e1 with
  |some (xs,k),some (ys,none)=>.ok (List.zipWith (λx y=>.tup [x,y]) xs ys,k) e1
  |_,_=>.stuck)
 |_=>.stuck:=rfl
@[simp] theorem Jl(v:Val):i8 (.val v) e=(gG v).map λxs=>(xs,none):=rfl
@[simp] theorem JH(v:Val):i8 (.new v) e=(gG v).map λxs=>(xs,none):=rfl
@[simp] theorem Jv(xs:List Val):gG (.tup xs)=some xs:=rfl
@[simp] theorem Gg(xs:List Val):gG (.lst xs)=some xs:=rfl
@[simp] theorem Kh(a:PAs):(iM a).G e=(a.G e).bind λts e1=>match (rss e1 ts).bind ja with
 |some xs=>.ok (xs,none) e1
 |none=>.stuck:=rfl
@[simp] theorem MC(a:PAs):(wB a).G e=(a.G e).bind λts e1=>match (rss e1 ts).bind sC with
 |some xs=>.ok (xs,none) e1
 |none=>.stuck:=rfl
@[simp] theorem Mn(i:PIt)(g:PGt)(b:PSt):(gX i g b).G e=(i.G e).toS λp e1=>(fg g.G b.G p.1 (lockO e1 p.2)).unl p.2:=rfl
@[simp] theorem lu(g:MG3)(B:MS3):fg g B [] e=.nx e:=rfl
theorem eW(g:MG3)(B:MS3)(v:Val)(vs:List Val):fg g B (v::vs) e=match g v e with
 |some e1=>(B e1).loop (fg g B vs)
 |none=>.stuck:=rfl
def gw(c:PTs)(b:PSt):(xWh c b).G e=(c.G e).toS λk e1=>if k=true then (b.G e1).loop (xWh c b).G else .nx e1:=CJ c.G b.G e
@[simp] theorem v_lc(i:PIt)(sub:Pu)(hs:(sub.filterMap id).Nodup)(g:PGt)(c:PTs)(a:PEx):(pLC i sub hs g c a).G e=(i.G e).bind λp e1=>match lcV g.G c.G a.G p.1 [] (cm sub (lockO e1 p.2)) with
 |.ok ys e2=>if ys.length<=16777216 then .ok (.new (.lst ys)) (fh (aX sub e2 (lockO e1 p.2)) p.2) else .stuck
 |_=>.stuck:=rfl
@[simp] theorem JB(f:PFn)(a:PAs):(ai f a).G e=(a.G e).bind λts e1=>match rss e1 ts with
 |none=>.stuck
 |some vs=>if okA e1 f.ms ts=true then (match f.G vs with
  |.stuck=>.stuck
  |.ok r mv=>if (aN e1 f.ms ts).isEmpty || (kZ r&&mv.all cI) then .ok (r.tm ts) (aX (aO f.ms ts) (aC f.ms mv) e1) else (match oq e1 (aN e1 f.ms ts) with
   |some e2=>.ok (r.tm ts) (aX (aO f.ms ts) (aC f.ms mv) e2)
   |none=>.stuck)
  |.exc c mv=>if (aN e1 f.ms ts).isEmpty || mv.all cI then .exc c (aX (aO f.ms ts) (aC f.ms mv) e1) else .stuck) else .stuck:=rfl
@[simp] theorem G5(ts:List Tm)(v:Val):(Rt.val v).tm ts=.val v:=rfl
@[simp] theorem Gh(ts:List Tm)(v:Val):(Rt.new v).tm ts=.new v:=rfl
@[simp] theorem o_n:oN.G e=.ok none e:=rfl
@[simp] theorem o_s(a:PEx):(oS a).G e=(a.G e).bind λt e1=>match rs e1 t with
 |some (.int i)=>.ok (some i) e1
 |_=>.stuck:=rfl
@[simp] theorem v_sl(a:PEx)(l u:POp):(pSl a l u).G e=(a.G e).bind λt e1=>(l.G e1).bind λlo e2=>(u.G e2).bind λhi e3=>match rs e3 t.drop with
 |some v=>(aSl v lo hi).at e3
 |none=>.stuck:=rfl
@[simp] theorem v_d0:pD0.G e=.ok (.new (.dct [])) e:=rfl
theorem au(ms:List Bool)(N:Nat)(c:PSt)(vs:List Val):(fnP ms N c).G vs=if vs.length=ms.length then (match c.G (sls ms vs++List.replicate (N-vs.length) .no) with
 |.nx e=>(match muV ms e with |some mv=>.ok (.val .non) mv |none=>.stuck)
 |.rt r e=>(match muV ms e with |some mv=>.ok r mv |none=>.stuck)
 |.exc c e=>(match muV ms e with |some mv=>.exc c mv |none=>.stuck)
 |_=>.stuck) else .stuck:=rfl
theorem kQ(ms:List Bool)(N:Nat)(c:PSt)(vs:List Val):(PFx.of ms N c).G vs=if vs.length=ms.length then (match c.G (sls ms vs++List.replicate (N-vs.length) .no) with
 |.nx e=>(match muV ms e with |some mv=>.ok (.val .non) mv |none=>.stuck)
 |.rt r e=>(match muV ms e with |some mv=>.ok r mv |none=>.stuck)
 |.exc c e=>(match muV ms e with |some mv=>.exc c mv |none=>.stuck)
 |_=>.stuck) else .stuck:=rfl
@[simp] theorem KS(p:PFx ms):p.fn.ms=ms:=rfl
@[simp] theorem fx_G(p:PFx ms)(vs:List Val):p.fn.G vs=p.G vs:=rfl
end
@[simp] theorem K1(i j:Int):bA.G (.int i) (.int j)=.val (.int (i+j)):=rfl
@[simp] theorem Mq(i j:Int):d7.G (.int i) (.int j)=.val (.int (i-j)):=rfl
@[simp] theorem k_lt(i j:Int):bLt.G (.int i) (.int j)=.val (.bl (decide (i<j))):=rfl
@[simp] theorem k_gt(i j:Int):bGt.G (.int i) (.int j)=.val (.bl (decide (j<i))):=rfl
@[simp] theorem k_ge(i j:Int):bGe.G (.int i) (.int j)=.val (.bl (decide (j<=i))):=rfl
@[simp] theorem Mc(i j:Int):tU.G (.int i) (.int j)=.val (.int (i+j)):=rfl
@[simp] theorem Mi(i:Int):BX.G (.int i)=.val (.int (-i)):=rfl
def cT(c:CMulA i j):bJ.G (.int i) (.int j)=.val (.int (i*j)):=by show AR (.int i) (.int j)=_;unfold AR aIc;dsimp only;rw[if_pos c]
def nL(c:CDivB i j):mD.G (.int i) (.int j)=.val (.int (i.fdiv j)):=by show AN (.int i) (.int j)=_;unfold AN aIc;dsimp only;rw[if_pos c]
def gI(c:j≠0):dq.G (.int i) (.int j)=.val (.int (i.fmod j)):=by show Bi (.int i) (.int j)=_;unfold Bi aIc;dsimp only;rw[if_pos c]
def v9(c:wa i j):jJ.G (.int i) (.int j)=.val (.int (i^j.toNat)):=by show B9 (.int i) (.int j)=_;unfold B9 aIc;dsimp only;rw[if_pos c]
@[simp] theorem k_ix(x:Val)(i:Int):bIx.G x (.int i)=match x.items with
 |some xs=>(match atI xs i with
  |some v=>.val v
  |none=>.stuck)
 |none=>.stuck:=by show aIx x (.int i)=_;unfold aIx;cases x.items <;> rfl
@[simp] theorem GA(xs:List Val):(Val.tup xs).items=some xs:=rfl
@[simp] theorem IH(xs:List Val):(Val.lst xs).items=some xs:=rfl
@[simp] theorem La(xs:List Val):(Val.kl xs).items=some xs:=rfl
@[simp] theorem k_eq(x y:Val):bEq.G x y=match aG x y with
 |some b=>.val (.bl b)
 |none=>.stuck:=by show aEq false x y=_;unfold aEq;cases aG x y <;> rfl
@[simp] theorem k_ne(x y:Val):bNe.G x y=match aG x y with
 |some b=>.val (.bl (!b))
 |none=>.stuck:=by show aEq true x y=_;unfold aEq;cases aG x y <;> rfl
@[simp] theorem Dt(x y:Int):aG (.int x) (.int y)=some (x==y):=rfl
def eq_str(hx:PyData.strOk x=true)(hy:PyData.strOk y=true):aG (.str x) (.str y)=some (x==y):=by unfold aG;show (if shp (.str x)=true/\shp (.str y)=true then _ else _)=_;rw[if_pos ⟨iJ hx (Nc _),iJ hy (Nc _)⟩];rfl
@[simp] theorem k_is(x:Val):bIs.G x .non=match x with
 |.non=>.val (.bl true)
 |_=>.val (.bl false):=by cases x <;> rfl
@[simp] theorem L7(v:Val):bj.G [v]=match v.items with
 |some xs=>.val (.int xs.length)
 |none=>(match v with
  |.str z=>if z.length<=16777216 then .val (.int z.length) else .stuck
  |_=>.stuck):=rfl
@[simp] theorem Mp(i:Int):eT.G [.int i]=.val (.int (if i<0 then -i else i)):=rfl
@[simp] theorem Kf(i j:Int):tP.G [.int i,.int j]=.val (.int (if j>i then j else i)):=rfl
@[simp] theorem LS(i j:Int):ue.G [.int i,.int j]=.val (.int (if j<i then j else i)):=rfl
@[simp] theorem Lj(xs:List Val):nR.G [.lst xs]=match jB xs with
 |some bs=>.val (.bl (bs.all id))
 |none=>.stuck:=rfl
@[simp] theorem Mk(xs:List Val):cJ.G [.lst xs]=match fE xs with
 |some bs=>.val (.int bs.sum)
 |none=>.stuck:=rfl
@[simp] theorem Eh(v:Val):kW.G [v]=match v.items with
 |some xs=>.val (.tup xs)
 |none=>.stuck:=rfl
@[simp] theorem IP(b:Bool):xQ.G [.bl b]=.val (.int (if b then 1 else 0)):=rfl
@[simp] theorem B6(xs:List Val)(v:Val):hE.G (.lst xs) [v]=if xs.length<16777216 then some (.lst (xs++[v]),.non) else none:=rfl
@[simp] theorem bH:∀(bs:List Int),fE (bs.map Val.int)=some bs
 | []=>rfl
 |b::r=>by show (fE (r.map Val.int)).map (b :: ·)=_;rw[bH r];rfl
def Ig(b:Bool)(ms:List Bool)(v:Val)(vs:List Val):sls (b::ms) (v::vs)=sl1 b v::sls ms vs:=rfl
def EC:sls [] []=[]:=rfl
def Kr(v:Val):sl1 true v=.mu v:=rfl
def KI(v:Val):sl1 false v=.sh v:=rfl
section
variable(e:E3)
def E8:okA e [] []=true:=rfl
def I0(i:Nat)(ms:List Bool)(ts:List Tm):okA e (true::ms) (.bor i::ts)=(((e[i]?).bind Sl.mv).isSome && !(i6 i ts)&&okA e ms ts):=rfl
def Hy(i:Nat)(ms:List Bool)(ts:List Tm):okA e (false::ms) (.bor i::ts)=(!(j9 i ms ts)&&okA e ms ts):=rfl
def JO(v:Val)(ms:List Bool)(ts:List Tm):okA e (false::ms) (.val v::ts)=okA e ms ts:=rfl
def BB(i:Nat):i6 i []=false:=rfl
def Hw(i:Nat)(v:Val)(ts:List Tm):i6 i (.val v::ts)=i6 i ts:=rfl
def BC(i:Nat):j9 i [] []=false:=rfl
def yJ:aN e [] []=[]:=rfl
theorem Ec(i:Nat)(ms:List Bool)(ts:List Tm):aN e (false::ms) (.bor i::ts)=match e[i]? with
 |some (.sh _)=>aN e ms ts
 |_=>i::aN e ms ts:=rfl
def FD(v:Val)(ms:List Bool)(ts:List Tm):aN e (false::ms) (.val v::ts)=aN e ms ts:=rfl
def J1(t:Tm)(ms:List Bool)(ts:List Tm):aN e (true::ms) (t::ts)=aN e ms ts:=by cases t <;> rfl
end
def yD:aO [] []=[]:=rfl
def Ee(b:Bool)(t:Tm)(ms:List Bool)(ts:List Tm):aO (b::ms) (t::ts)=oX b t::aO ms ts:=rfl
def Fm(i:Nat):oX true (.bor i)=some i:=rfl
def J6(t:Tm):oX false t=none:=by cases t <;> rfl
def Cp(e:E3):aX [] [] e=e:=rfl
def HD(o:Option Nat)(sub:Pu)(s:Sl)(i e:E3):aX (o::sub) (s::i) e=aX sub i (fX o s e):=rfl
theorem Ed(i:Nat)(v:Val)(e:E3):fX (some i) (.mu v) e=match e[i]? with
 |some t=>e.set i (t.re v)
 |none=>e:=rfl
def G7(s:Sl)(e:E3):fX none s e=e:=rfl
def AM(vs:List Val):aC [] vs=[]:=rfl
def F8(ms:List Bool)(v:Val)(vs:List Val):aC (true::ms) (v::vs)=.mu v::aC ms vs:=rfl
def Gj(ms:List Bool)(vs:List Val):aC (false::ms) vs=.no::aC ms vs:=by cases vs <;> rfl
def EY(e:E3):muV [] e=some []:=by cases e <;> rfl
def L6(ms:List Bool)(v:Val)(e:E3):muV (true::ms) (.mu v::e)=(muV ms e).map (v :: ·):=rfl
def Kb(ms:List Bool)(s:Sl)(e:E3):muV (false::ms) (s::e)=muV ms e:=by cases s <;> rfl
def yk(v:Val):kZ (.val v)=flatV v:=rfl
def y9(v:Val):kZ (.new v)=cI v:=rfl
def xU(xs:List Val):cI (.lst xs)=cV xs:=rfl
def wI:cV []=true:=by simp [cV]
def uH(v:Val)(vs:List Val):cV (v::vs)=(flatV v&&cV vs):=by simp [cV]
def zc(i:Int):flatV (.int i)=true:=by simp [flatV]
def CM(i:Bool):flatV (.bl i)=true:=by simp [flatV]
def zf(i:Str):flatV (.str i)=true:=by simp [flatV]
def xZ:flatV .non=true:=by simp [flatV]
def Af(xs:List Val):flatV (.tup xs)=cV xs:=by simp [flatV]
def dY(h0:0<=i)(h:l[i.toNat]?=some x):atI l i=some x:=by have hl:=(B_.mp h).1;unfold atI ixN;rw[if_pos h0,if_pos (by omega)];exact h
def nN(h0:0<=i)(h:i.toNat<n):ixN n i=some i.toNat:=by unfold ixN;rw[if_pos h0,if_pos (by omega)]
section
variable(a b c d e f g:α)(l:List α)
def mr:atI (a::l) 0=some a:=dY (by decide) rfl
def mz:atI (a::b::l) 1=some b:=dY (by decide) rfl
def oE:atI (a::b::c::l) 2=some c:=dY (by decide) rfl
def n8:atI (a::b::c::d::l) 3=some d:=dY (by decide) rfl
def Bb:atI (a::b::c::d::e::l) 4=some e:=dY (by decide) rfl
def ati5:atI (a::b::c::d::e::f::l) 5=some f:=dY (by decide) rfl
def ati6:atI (a::b::c::d::e::f::g::l) 6=some g:=dY (by decide) rfl
end
def ixn0(n:Nat):ixN (n+1) 0=some 0:=nN (i:=0) (by decide) (by show 0<n+_;omega)
def ixn1(n:Nat):ixN (n+2) 1=some 1:=nN (i:=1) (by decide) (by show 1<n+_;omega)
theorem LN(xs:List Val)(k:Int)(v:Val):seL.G (.lst xs) (.int k) v=match ixN xs.length k with
 |some j=>some (.lst (xs.set j v))
 |none=>none:=rfl
mutual
def vq:Val->Val->Bool
 |.non,.non=>true
 |.bl a,.bl b=>a==b
 |.bl a,.int j=>(if a then 1 else 0)==j
 |.int i,.bl b=>i==(if b then 1 else 0)
 |.int i,.int j=>i==j
 |.str x,.str y=>x==y
 |.tup xs,.tup ys=>vqs xs ys
 |.lst xs,.lst ys=>vqs xs ys
 |_,_=>false
def vqs:List Val->List Val->Bool
 | [],[]=>true
 |x::xs,y::ys=>vq x y&&vqs xs ys
 |_,_=>false
end
mutual
def wfV:Nat->Val->Bool
 |_,.non=>true
 |_,.bl _=>true
 |_,.int _=>true
 |_,.str x=>PyData.strOk x
 |k+1,.tup xs=>bM k xs
 |k+1,.lst xs=>bM k xs
 |_,_=>false
def bM:Nat->List Val->Bool
 |_,[]=>true
 |k,x::xs=>wfV k x&&bM k xs
end
mutual
def gk:Val->PyData
 |.bl b=>.bool b
 |.int i=>.int i
 |.str x=>.str x
 |.tup xs=>.tuple (eI xs)
 |.lst xs=>.list (eI xs)
 |_=>.none
def eI:List Val->List PyData
 | []=>[]
 |x::xs=>gk x::eI xs
end
mutual
theorem n9:∀(k:Nat) (v:Val),wfV k v=true->(∀j,k<j->cx j v=some (gk v))/\(gk v).canLay0=true/\(gk v).depth<=k
 |k,.non,_=>⟨λj hj=>by cases j with |zero=>exact absurd hj (N5 _) |succ j=>rfl,rfl,Nc _⟩
 |k,.bl b,_=>⟨λj hj=>by cases j with |zero=>exact absurd hj (N5 _) |succ j=>rfl,rfl,Nc _⟩
 |k,.int b,_=>⟨λj hj=>by cases j with |zero=>exact absurd hj (N5 _) |succ j=>rfl,rfl,Nc _⟩
 |k,.str b,w=>⟨λj hj=>by cases j with |zero=>exact absurd hj (N5 _) |succ j=>rfl,by cases k <;> exact w,Nc _⟩
 |0,.tup xs,w=>absurd w w_
 |0,.lst xs,w=>absurd w w_
 |
  k+1,.tup xs,w=>by
  obtain⟨h1,h2,h3⟩:=lR k xs w;exact⟨λj hj=>by cases j with |zero=>exact absurd hj (N5 _) |succ j=>simp only[cx,gk,h1 j (Nat.lt_of_succ_lt_succ hj),Option.map_some],h2,by simpa [gk,PyData.depth] using h3⟩
 |
  k+1,.lst xs,w=>by
  obtain⟨h1,h2,h3⟩:=lR k xs w;exact⟨λj hj=>by cases j with |zero=>exact absurd hj (N5 _) |succ j=>simp only[cx,gk,h1 j (Nat.lt_of_succ_lt_succ hj),Option.map_some],h2,by simpa [gk,PyData.depth] using h3⟩
 |k,.ty _,w=>by cases k <;> exact absurd w w_
 |k,.glb _,w=>by cases k <;> exact absurd w w_
 |k,.exc _,w=>by cases k <;> exact absurd w w_
 |k,.kl _,w=>by cases k <;> exact absurd w w_
 |k,.dct _,w=>by cases k <;> exact absurd w w_
 |k,.set _,w=>by cases k <;> exact absurd w w_
theorem lR:∀(k:Nat) (vs:List Val),bM k vs=true->(∀j,k<j->d9 j vs=some (eI vs))/\PyData.canLayAll0 (eI vs)=true/\PyData.depthAll (eI vs)<=k
 |k,[],_=>⟨λj hj=>by simp [d9,eI],rfl,Nc _⟩
 |
  k,v::vs,w=>by
  have w':(wfV k v&&bM k vs)=true:=w;rw[t_] at w';obtain⟨h1,h2,h3⟩:=n9 k v w'.1;obtain⟨i1,i2,i3⟩:=lR k vs w'.2;exact⟨λj hj=>by simp [d9,eI,h1 j hj,i1 j hj],by simp [eI,PyData.canLayAll0,h2,i2],Nat.max_le.mpr ⟨h3,i3⟩⟩
end
mutual
theorem Ai:∀(k:Nat) (v u:Val),wfV k v=true->wfV k u=true->PyData.eqv (gk v) (gk u)=vq v u
 |
  k,v,u,hv,hu=>by
  cases v <;> first |(cases k <;> exact absurd hv w_) |skip
  all_goals (cases u <;> first |(cases k <;> exact absurd hu w_) |rfl |(cases k with |zero=>exact absurd hv w_ |succ k=>exact vE k _ _ hv hu))
theorem vE:∀(k:Nat) (v u:List Val),bM k v=true->bM k u=true->PyData.eqvAll (eI v) (eI u)=vqs v u
 |_,[],[],_,_=>rfl
 |_,[],_::_,_,_=>rfl
 |_,_::_,[],_,_=>rfl
 |
  k,x::xs,y::ys,hv,hu=>by
  have h1:(wfV k x&&bM k xs)=true:=hv;have h2:(wfV k y&&bM k ys)=true:=hu;rw[t_] at h1 h2;show (PyData.eqv (gk x) (gk y)&&PyData.eqvAll (eI xs) (eI ys))=(vq x y&&vqs xs ys);rw[Ai k x y h1.1 h2.1,vE k xs ys h1.2 h2.2]
end
def J3(hk:k<=160)(hx:wfV k x=true)(hy:wfV k y=true):aG x y=some (vq x y):=by obtain⟨h1,h2,h3⟩:=n9 k x hx;obtain⟨i1,i2,i3⟩:=n9 k y hy;unfold aG;rw[h1 164 (by omega),i1 164 (by omega)];dsimp only;rw[if_pos ⟨iJ h2 (by omega),iJ i2 (by omega)⟩,Ai k x y hx hy]
def lb(hx:wfV 60 x=true)(hy:wfV 60 y=true):aG x y=some (vq x y):=J3 (by decide) hx hy
mutual
def mF:Val->Bool
 |.bl _=>false
 |.tup xs=>iI xs
 |.lst xs=>iI xs
 |.non=>true
 |.int _=>true
 |.str _=>true
 |_=>false
def iI:List Val->Bool
 | []=>true
 |x::xs=>mF x&&iI xs
end
mutual
theorem za:∀(v u:Val),mF v=true->mF u=true->(vq v u=true ↔ v=u)
 |
  v,u,hv,hu=>by
  cases v <;> first |exact absurd hv w_ |skip
  all_goals (cases u <;> first |exact absurd hu w_ |exact⟨λz=>absurd z w_,λz=>nomatch z⟩ |(simp [vq];done) |skip)
  all_goals
   refine Iff.trans (vM _ _ hv hu) ?_;constructor
   .rintro rfl;rfl
   .intro z;cases z;rfl
theorem vM:∀(v u:List Val),iI v=true->iI u=true->(vqs v u=true ↔ v=u)
 | [],[],_,_=>⟨λ_=>rfl,λ_=>rfl⟩
 | [],_::_,_,_=>⟨λz=>absurd z w_,λz=>nomatch z⟩
 |_::_,[],_,_=>⟨λz=>absurd z w_,λz=>nomatch z⟩
 |
  x::xs,y::ys,hv,hu=>by
  have h1:(mF x&&iI xs)=true:=hv;have h2:(mF y&&iI ys)=true:=hu;rw[t_] at h1 h2;show (vq x y&&vqs xs ys)=true ↔ _;rw[t_,za x y h1.1 h2.1,vM xs ys h1.2 h2.2,List.cons.injEq]
end
mutual
theorem jm:∀(k:Nat) (v:Val),wfV k v=true->vq v v=true
 |
  k,v,hv=>by
  cases v <;> first |(cases k <;> exact absurd hv w_) |rfl |exact MP _ |(cases k with |zero=>exact absurd hv w_ |succ k=>exact tf k _ hv)
theorem tf:∀(k:Nat) (v:List Val),bM k v=true->vqs v v=true
 |_,[],_=>rfl
 |
  k,x::xs,hv=>by
  have h1:(wfV k x&&bM k xs)=true:=hv;rw[t_] at h1;show (vq x x&&vqs xs xs)=true;rw[jm k x h1.1,tf k xs h1.2];rfl
end
noncomputable def fV (q:Rat):Val:=.tup [.int q.num,.int q.den]
structure Bx where
 l:Rat
 t:Rat
 w:Rat
 h:Rat
structure Bx.Ok(b:Bx):Prop where
 w:0<b.w
 h:0<b.h
structure Bx.Sz(n:Nat)(b:Bx):Prop where
 l:L2.Sz n b.l
 t:L2.Sz n b.t
 w:L2.Sz n b.w
 h:L2.Sz n b.h
noncomputable def bV (b:Bx):Val:=.tup [fV b.l,fV b.t,fV b.w,fV b.h]
def Jw(e:fV p=fV q):p=q:=by unfold fV at e;simp only[Val.tup.injEq,List.cons.injEq,Val.int.injEq,and_true] at e;rw[eF p,eF q,e.1,e.2]
def xg(q:Rat)(k:Nat):wfV (k+1) (fV q)=true:=by simp [fV,wfV,bM]
def DL(q:Rat):mF (fV q)=true:=by simp [fV,mF,iI]
def Dq(b:Bx)(k:Nat):wfV (k+2) (bV b)=true:=by simp [bV,wfV,bM,xg]
def MB(p q:Rat):aG (fV p) (fV q)=some (decide (p=q)):=by rw[lb (xg p 59) (xg q 59)];congr 1;rw[O4,za _ _ (DL p) (DL q),Np];exact⟨Jw,λz=>by rw[z]⟩
noncomputable def knV:Val->Bool
 |.exc _=>false
 |v=>(tyC v).isSome
noncomputable def gv:Nat->Val->Bool
 |k+1,.tup xs=>xs.all (gv k)
 |_,v=>knV v
noncomputable def gW:Val->Bool
 |.int _=>true
 |_=>false
noncomputable def aL:Val->Bool
 |.tup [.int a,.int b]=>decide (1<=b)&&decide (Int.gcd a b=1)
 |_=>false
noncomputable def gi:Val->Bool
 |.tup (.int a::_)=>decide (0<a)
 |_=>false
noncomputable def eG:Val->Bool
 |.tup [a,b,c,d]=>aL a&&(aL b&&(aL c&&(aL d&&(gi c&&gi d))))
 |_=>false
noncomputable def eD:Val->Bool
 |.int i=>decide (1<=i)
 |_=>false
noncomputable def ft:Val->Bool
 |.tup _=>true
 |_=>false
def KD(h1:1<=b)(h2:Int.gcd a b=1):Val.tup [.int a,.int b]=fV ((a:Rat)/(b:Rat)):=by
 have hb:b≠0:=by omega
 have h:=nA (a:=a) hb;have s:=Fr.self (by omega) h2;unfold fV;rw[<- h.1,<- h.2,s.1,s.2]
def jU(q:Rat):aL (fV q)=true:=by
 show (decide (1<=(q.den:Int))&&decide (Int.gcd q.num q.den=1))=true
 have:=q.den_pos
 rw[H_ (by omega),H_ (uT q)];rfl
def zF(h:aL d=true):∃q,d=fV q:=by
 unfold aL at h;split at h
 .simp only[t_,Np] at h;exact⟨_,KD h.1 h.2⟩
 .cases h
def vJ(q:Rat):gi (fV q)=decide (0<q):=by show decide (0<q.num)=decide (0<q);rw[Oz];exact vT
def Ck(h:b.Ok):eG (bV b)=true:=by show (aL (fV b.l)&&(aL (fV b.t)&&(aL (fV b.w)&&(aL (fV b.h)&&(gi (fV b.w)&&gi (fV b.h))))))=true;rw[jU,jU,jU,jU,vJ,vJ,H_ h.w,H_ h.h];rfl
def Jd(b:Bx):gv 2 (bV b)=true:=by simp [bV,fV,gv,knV,tyC]
theorem kN(P:E3->Prop):∀(vs acc:List Val) (e:E3),P e->(∀v∈vs,∀e,P e->∃e1 t e2,g v e=some e1/\F e1=.ok t e2/\df e2 t=some (e2,f v)/\P e2)->acc.length+vs.length<=16777216->∃e',P e'/\lcV g cY F vs acc e=.ok (acc++vs.map f) e'
 | [],acc,e,hp,_,_=>⟨e,hp,by simp [lcV]⟩
 |
  v::vs,acc,e,hp,hf,hl=>by
  obtain⟨e1,t,e2,q1,q2,q3,q4⟩:=hf v (s_ ..) e hp;obtain⟨e',p',q5⟩:=kN P vs (acc++[f v]) e2 q4 (λu hu=>hf u (q_ _ hu)) (by simp at hl ⊢;omega);refine⟨e',p',?_⟩;unfold lcV;rw[if_pos (by simp at hl;omega),q1];simp only[cY,fZ,Od,q2,q3,q5];simp
theorem mj(P:E3->Prop):∀(vs:List Val) (e:E3),P e->(∀v∈vs,∀e,P e->∃e1 e2,g v e=some e1/\(B e1=.nx e2\/B e1=.ct e2)/\P e2)->∃e',P e'/\fg g B vs e=.nx e'
 | [],e,hp,_=>⟨e,hp,rfl⟩
 |
  v::vs,e,hp,hf=>by
  obtain⟨e1,e2,q1,q2,q3⟩:=hf v (s_ ..) e hp;obtain⟨e',p',q4⟩:=mj P vs e2 q3 λu hu=>hf u (q_ _ hu);refine⟨e',p',?_⟩;rw[eW,q1];rcases q2 with q2 |q2 <;> simp only[q2,mU,Lh,q4]
noncomputable def rgV (k:Nat):List Val:=(List.range k).map λj=>Val.int (j:Nat)
def vm(h:k<1000000):ja [.int (k:Nat)]=some (rgV k):=by simp only[ja];rw[if_pos (⟨by omega,by omega⟩:RgB _),Nb];unfold my rgV;simp only[Int.zero_add]
def kT(h0:0<=i)(h:i<1000000):ja [.int i]=some (rgV i.toNat):=by
 have:=vm (k:=i.toNat) (by omega)
 rwa [show ((i.toNat:Nat):Int)=i from by omega] at this
theorem eA(fv fw:α->Val)(P:E3->Prop):∀(l:List α) (acc:List Val) (e:E3),P e->(∀a∈l,∀e,P e->∃e1 t e2,g (fv a) e=some e1/\F e1=.ok t e2/\df e2 t=some (e2,fw a)/\P e2)->acc.length+l.length<=16777216->∃e',P e'/\lcV g qY.G F (l.map fv) acc e=.ok (acc++l.map fw) e'
 | [],acc,e,hp,_,_=>⟨e,hp,by simp [lcV]⟩
 |
  v::vs,acc,e,hp,hf,hl=>by
  obtain⟨e1,t,e2,q1,q2,q3,q4⟩:=hf v (s_ ..) e hp;obtain⟨e',p',q5⟩:=eA fv fw P vs (acc++[fw v]) e2 q4 (λu hu=>hf u (q_ _ hu)) (by simp at hl ⊢;omega);refine⟨e',p',?_⟩;rw[z_];unfold lcV;have cy:qY.G=cY:=rfl;rw[cy] at q5 ⊢;rw[if_pos (by simp at hl;omega),q1];simp only[cY,fZ,Od,q2,q3,q5];simp
theorem pD(fw:β->Val)(R:β->Prop)(P:E3->Prop):∀(vs acc:List Val) (e:E3),P e->(∀v∈vs,∀e,P e->∃e1 t e2 b,g v e=some e1/\F e1=.ok t e2/\df e2 t=some (e2,fw b)/\P e2/\R b)->acc.length+vs.length<=16777216->∃(e':E3) (bs:List β),P e'/\bs.length=vs.length/\(∀b∈bs,R b)/\lcV g qY.G F vs acc e=.ok (acc++bs.map fw) e'
 | [],acc,e,hp,_,_=>⟨e,[],hp,rfl,(λ_ h=>nomatch h),by simp [lcV]⟩
 |
  v::vs,acc,e,hp,hf,hl=>by
  obtain⟨e1,t,e2,b,q1,q2,q3,q4,q5⟩:=hf v (s_ ..) e hp;obtain⟨e',bs,p',a_,hR,q6⟩:=pD fw R P vs (acc++[fw b]) e2 q4 (λu hu=>hf u (q_ _ hu)) (by simp at hl ⊢;omega);refine⟨e',b::bs,p',by simp [a_],?_,?_⟩
  .intro u hu;rcases G_.mp hu with rfl |hu
   .exact q5
   .exact hR u hu
  .unfold lcV;have cy:qY.G=cY:=rfl;rw[cy] at q6 ⊢;rw[if_pos (by simp at hl;omega),q1];simp only[cY,fZ,Od,q2,q3,q6];simp
def yK(v:Val):inS (.mu v)=.mu v:=rfl
def Ic(v:Val):inS (.sh v)=.sh v:=rfl
theorem fR(k:Nat):∀xs:List Val,bM k xs=xs.all (wfV k)
 | []=>by simp [bM]
 |x::xs=>by simp [bM,fR k xs]
mutual
theorem tV:∀(k:Nat) (v:Val),wfV k v=true->wfV (k+1) v=true
 |k,.non,_=>by simp [wfV]
 |k,.bl _,_=>by simp [wfV]
 |k,.int _,_=>by simp [wfV]
 |k,.str x,h=>by cases k <;> simpa [wfV] using h
 |0,.tup _,h=>by simp [wfV] at h
 |0,.lst _,h=>by simp [wfV] at h
 |
  k+1,.tup xs,h=>by
  have:=kj k xs (by simpa [wfV] using h)
  simpa [wfV] using this
 |
  k+1,.lst xs,h=>by
  have:=kj k xs (by simpa [wfV] using h)
  simpa [wfV] using this
 |k,.ty _,h=>by cases k <;> simp [wfV] at h
 |k,.glb _,h=>by cases k <;> simp [wfV] at h
 |k,.exc _,h=>by cases k <;> simp [wfV] at h
 |k,.kl _,h=>by cases k <;> simp [wfV] at h
 |k,.dct _,h=>by cases k <;> simp [wfV] at h
 |k,.set _,h=>by cases k <;> simp [wfV] at h
theorem kj:∀(k:Nat) (vs:List Val),bM k vs=true->bM (k+1) vs=true
 |k,[],_=>by simp [bM]
 |
  k,v::vs,h=>by
  have h':wfV k v=true/\bM k vs=true:=by simpa [bM] using h
  simp only[bM,tV k v h'.1,kj k vs h'.2,Bool.and_self]
end
def IK(h:wfV k v=true)(l:k<=m):wfV m v=true:=by
 induction l with
 |refl=>exact h
 |step _ ih=>exact tV _ _ ih
def FA(hw:wfV k (.lst xs)=true)(hk:k<=60):aG (.lst xs) (.lst [])=some (decide (xs=[])):=by rw[lb (IK hw hk) (by simp [wfV,bM])];cases xs <;> rfl
def D4(i:Nat)(v:Val)(e:E3):fX (some i) (.sh v) e=e:=rfl
def Jj(b:Bool):lO (.bl b)=some b:=rfl
noncomputable def mi (ms:List Bool) (r:SR3):R3F:=match r with
 |.nx e=>(match muV ms e with |some mv=>.ok (.val .non) mv |none=>.stuck)
 |.rt r e=>(match muV ms e with |some mv=>.ok r mv |none=>.stuck)
 |.exc c e=>(match muV ms e with |some mv=>.exc c mv |none=>.stuck)
 |_=>.stuck
def wF(h:vs.length=ms.length):(fnP ms N c).G vs=mi ms (c.G (sls ms vs++List.replicate (N-vs.length) .no)):=by rw[au,if_pos h];rfl
def Hk(h:vs.length=ms.length):(PFx.of ms N c).G vs=mi ms (c.G (sls ms vs++List.replicate (N-vs.length) .no)):=by rw[kQ,if_pos h];rfl
def gE(ms:List Bool)(r:Rt)(e:E3):mi ms (.rt r e)=match muV ms e with |some mv=>.ok r mv |none=>.stuck:=rfl
def aW{Q:SR3->Prop}(I:E3->Prop){a b:PSt}{e:E3}(h1:∃e1,a.G e=.nx e1/\I e1)(h2:∀e1,I e1->Q (b.G e1)):Q ((aj a b).G e):=by obtain⟨e1,q,i⟩:=h1;rw[Dp,q];exact h2 e1 i
def iV(i:Int):Val.tup [.int i,.int 1]=fV (i:Rat):=rfl
def sm8(h:m.natAbs<1099511627776):Sm 8000 m:=I_ (show m.natAbs<2^40 from h) (Nj (by decide) (by decide))
def m6(h:m.natAbs<=2000000000000000000000000000000):Sm 101 m:=by unfold Sm;exact NG h (by decide)
def gc{m:Int}(h:m.natAbs<=2000000000000000000000000000000):Sz 101 (m:Rat):=⟨m6 h,m6 (by show (1:Int).natAbs<=_;decide)⟩
def gM{a b:Int}(hb:b≠0)(h1:a.natAbs<=2000000000000000000000000000000)(h2:b.natAbs<=2000000000000000000000000000000):Sz 101 ((a:Rat)/(b:Rat)):=Sz.div hb (m6 h1) (m6 h2) 101 (u_ _) (u_ _)
def fH{m:Int}(h:0<m):(0:Rat)<(m:Rat):=Rat.intCast_pos.mpr h
def ie{a b:Int}(h1:0<a)(h2:0<b):(0:Rat)<(a:Rat)/(b:Rat):=by rw[Rat.div_def];exact Rat.mul_pos (fH h1) (Rat.inv_pos.mpr (fH h2))
structure Good(b:Bx):Prop where
 ok:b.Ok
 sz:b.Sz 101
def lj(h:m.natAbs<=2000000000000000000000000000000):Sm 8000 m:=(m6 h).mono (by decide)
noncomputable def GZ (cs:List (Str×PFn)) (F:ME3) (A:MA3) (e:E3):R3 Tm:=(F e).bind λt e1=>match rs e1 t with
 |some (.glb x)=>(match cs.lookup x with
  |some p=>Dg p.ms p.G A e1
  |none=>.stuck)
 |_=>.stuck
noncomputable def jv (cs:List (Str×PFn)) (f:PEx) (a:PAs):PEx:=⟨25,GZ cs f.G a.G⟩
theorem EH(e:E3)(cs:List (Str×PFn))(f:PEx)(a:PAs):(jv cs f a).G e=(f.G e).bind λt e1=>match rs e1 t with
 |some (.glb x)=>(match cs.lookup x with
  |some p=>(ai p a).G e1
  |none=>.stuck)
 |_=>.stuck:=rfl
theorem nS{β:Type}{x:Str}{b:β}:∀{l:List (Str×β)},l.lookup x=some b->(x,b)∈l
 | [],h=>by simp at h
 |
  (y,c)::l,h=>by
  rw[ND] at h;split at h
  .rename_i q
   have:=eq_of_beq q
   subst this;cases h;exact s_ ..
  .exact q_ _ (nS h)
section
variable{K:W.Frag}{mg:Pp}{X:Cx}{ES:St->XK}{e:Expr}{es:List Expr}{A:PAs}{pos:Pos}
def xA(K:W.Frag)(mg:Pp)(X:Cx)(cs:List (Str×PFn)):Prop:=∀c∈cs,∃k ps,Callee X.prog X.w X.K X.mg X.base c.1 k ps (sp3 K mg c.2)/\Room k X.A
def sY:xA K mg X []:=λ_ h=>nomatch h
def eB{f:PFn}{x:Str}{k:Nat}{ps:List Str}{cs:List (Str×PFn)}(C:Callee X.prog X.w X.K X.mg X.base x k ps (sp3 K mg f))(hr:Room k X.A)(h:xA K mg X cs):xA K mg X ((x,f)::cs):=λc hc=>by
 rcases G_.mp hc with rfl |hc
 .exact⟨k,ps,C,hr⟩
 .exact h c hc
def lZ{ef:Expr}{cs:List (Str×PFn)}{p:PEx}(hc:xA K mg X cs)(hf:DE K mg X ES ef p)(hx:iC X ES)(ha:DA K mg X ES (e::es) A)(hm:X.mg=mg:=by rfl)
 (harm:eval (.Call ef (e::es) [] pos) X.env=(do callWith pos (<- eval ef X.env) [] (backTo pos (starEach (e::es) X.env)) (backToKw pos (keywordEach [] X.env))):=by rfl)
 (he:starEach (e::es) X.env=(false,eval e X.env)::starEach es X.env:=by rfl) (hpl:(backTo pos (starEach es X.env)).any (·.1)=false:=by rfl):DE K mg X ES (.Call ef (e::es) [] pos) (jv cs p A):=by
 subst hm;refine⟨λpins s σ H Q I ⟨Y,N0,L,ns,e,S,hl,p⟩=>?_⟩;rw[harm];refine o_ ?_;have rd
  : rdE K X.mg ES _ σ H (λv H1=>∃x c f,(x,c)∈cs/\v=.ref f/\X.mg x=some (.ref f)/\rdA K X.mg ES A.G σ H1 (λvs H2=>sp3 K X.mg c vs H2 Q (ES σ))):=
  ⟨Y,
   N0,L,ns,e,S,hl,PG3.imp p S λt e1 ns1 H1 a1 S1 p1 x r1=>by
   try dsimp only at p1
   split at p1
   .rename_i y q;split at p1
    .rename_i c q2;obtain⟨a,rfl,m⟩:=(r1.sh S1 q).glb;exact⟨y,c,a,nS q2,rfl,m,vS (f:=c) σ H1 Q ⟨Y,N0,L,ns1,e1,S1,λa z=>hl a (a1.dom a z),p1⟩⟩
    .exact p1.elim
   .exact p1.elim⟩
 refine MU (hf.ok pins s σ H _ I rd) (λu s1 ⟨v,H1,I1,rv,x,c,f,hmem,ev,m,ra⟩=>?_) λ_ _ z=>z;subst ev;obtain rfl:u=Value.ref f:=rv;obtain⟨k,ps,C,hr⟩:=hc (x,c) hmem;obtain⟨f',fd,F',m',kp,bb,_⟩:=C.ex;rw[m] at m';cases m';refine W.callWith_K (h₀:=X.base) I.ok.mod.kin kp (MU (ha.ok pos pins s1 σ H1 _ I1 ra) (λus s2 ⟨vs,H2,I2,r,q⟩=>⟨I2.kIn,?_⟩) λ_ _ z=>z) he hpl;have hl:(us++[]).length=ps.length:=by rw[M8,<- r.length];exact F'.len _ _ _ _ q
 refine wpAny_call (Pc (F'.run X.A X.stack s2 H2 ⟨us,[]⟩ us vs Q (ES σ) hr I2.env0 (by simpa using bb s2 us I2.kIn hl) r q) λr s' hq=>?_);cases r with
 |error ex=>exact hx pins σ H2 s2 ex s' I2 hq
 |
  ok fl=>
  cases fl with
  |ret u=>exact I2.after hq
  |next=>exact False.elim hq
  |brk=>exact False.elim hq
  |cont=>exact False.elim hq
end
def Ga(xs ys:List Val):bA.G (.lst xs) (.lst ys)=if xs.length+ys.length<=16777216 then .new (.lst (xs++ys)) else .stuck:=rfl
section
variable{K:W.Frag}{mg:Pp}{P:Addr->Prop}{H:Hp}{ws ws':List (Key×V)}{us us':List (Key×Val)}{k:Key}
def Mj(r:Rk K mg P H ws us):lkD us k=some v->∃d,lkD ws k=some d/\Rd K mg P H d v:=
 r.ind (M:=λws us=>lkD us k=some v->∃d,lkD ws k=some d/\Rd K mg P H d v) (λq=>by cases q) (λ{k2 d v2 ds vs} r _ ih q=>by
  unfold lkD at q ih ⊢;rw[Nf] at q ⊢;dsimp only at q ⊢;by_cases hk:k2=k
  .rw[H_ hk] at q ⊢;cases q;exact⟨d,rfl,r⟩
  .rw[D_ hk] at q ⊢;exact ih q)
def FW(r:Rk K mg P H ws us):us.map (·.1)=ws.map (·.1):=
 r.ind (M:=λws us=>us.map (·.1)=ws.map (·.1)) rfl λ_ _ ih=>by rw[z_,z_,ih]
def GH(r:Rk K mg P H ws us):ws.length=us.length:=
 r.ind (M:=λws us=>ws.length=us.length) rfl λ_ _ ih=>MK (· + 1) ih
def JW(r:Rk K mg P H ws us)(q:Rk K mg P H ws' us'):Rk K mg P H (ws++ws') (us++us'):=
 r.ind (M:=λws us=>Rk K mg P H (ws++ws') (us++us')) q λr _ ih=>.cons r ih
def HL(rd:Rd K mg P H d v)(r:Rk K mg P H ws us):Rk K mg P H (ff ws k d) (ff us k v):=by
 unfold ff;rw[Av (FW r)];by_cases hc:(ws.any λkv=>decide (kv.1=k))=true
 .rw[if_pos hc,if_pos hc];exact r.ind (M:=λws us=>Rk K mg P H (ws.map λkv=>if kv.1=k then (kv.1,d) else kv) (us.map λkv=>if kv.1=k then (kv.1,v) else kv)) .nil (λ{k2 d2 v2 ds vs} r _ ih=>by
   rw[z_,z_];dsimp only;by_cases hk:k2=k
   .rw[if_pos hk,if_pos hk];exact .cons rd ih
   .rw[if_neg hk,if_neg hk];exact .cons r ih)
 .rw[if_neg hc,if_neg hc];exact JW r (.cons rd .nil)
end
noncomputable def sD:Val->Val->Val->Option Val:=λo i v=>match o with
 |.dct kvs=>(match i with
  |.str k=>if kvs.length<16777216 then some (.dct (ff kvs (.inr k) v)) else none
  |_=>none)
 |_=>none
noncomputable def pU (n:Nat) (u:kA):MG3:=λv e=>match v with
 |.tup vs=>if vs.length=n then u vs e else none
 |.lst vs=>if vs.length=n then u vs e else none
 |_=>none
noncomputable def gtU (n:Nat) (a:PGs):PGt:=⟨3,pU n a.G⟩
section
variable{e:E3}
def g_uL(n:Nat)(a:PGs)(vs:List Val):(gtU n a).G (.lst vs) e=if vs.length=n then a.G vs e else none:=rfl
end
section
variable{K:W.Frag}{mg:Pp}{X:Cx}{es:List Expr}{gs:PGs}{pos:Pos}
def HC{k n:Nat}(hK:X.K=K)(hc:X.calm=true)(h:DGs K mg X es gs)(hn:(assignEach es X.env).length=n:=by rfl)(hst:(assignEach es X.env).findIdx? (·.1)=none:=by rfl):DG K mg X (.Tuple es k pos) (gtU n gs):=by
 subst hK;exact
  ⟨PG.imp (Gz hc h.ok hn hst) λv σ H Q zz=>zz.el λY N0 ns e u e' S r q k=>by
  replace q:pU n gs.G u e=some e':=q;unfold pU at q;split at q
  .split at q
   .rename_i hl;obtain⟨a,vs,rfl,z,rr⟩:=ShR.tup (.inl r);exact⟨a,vs,rfl,.inl z,by rw[rr.len];exact hl,Y,N0,ns,e,_,e',S,rr,q,k⟩
   .cases q
  .split at q
   .rename_i hl;obtain⟨a,vs,rfl,z,rr⟩:=ShR.lstL (.inl r);exact⟨a,vs,rfl,.inr z,by rw[rr.len];exact hl,Y,N0,ns,e,_,e',S,rr,q,k⟩
   .cases q
  .cases q⟩
end
theorem ar1{α:Type}{P:List α->Prop}(h:∀a,P [a]):∀us:List α,us.length=1->P us
 | [a],_=>h a
theorem ar2{α:Type}{P:List α->Prop}(h:∀a b,P [a,b]):∀us:List α,us.length=2->P us
 | [a,b],_=>h a b
theorem ar3{α:Type}{P:List α->Prop}(h:∀a b c,P [a,b,c]):∀us:List α,us.length=3->P us
 | [a,b,c],_=>h a b c
theorem ar4{α:Type}{P:List α->Prop}(h:∀a b c d,P [a,b,c,d]):∀us:List α,us.length=4->P us
 | [a,b,c,d],_=>h a b c d
section
variable{K:W.Frag}{mg:Pp}{P:Addr->Prop}{H:Hp}
theorem lA:∀l:List Nat,Rds K mg P H (l.map λi:Nat=>V.int (i:Nat)) (l.map λi:Nat=>Val.int (i:Nat))
 | []=>.nil
 |i::l=>.cons (.int _) (lA l)
end
noncomputable def CW:List Val->Bv:=λvs=>match vs with
 | [.int j]=>if -(2^62)<=j/\j<=16777216 then .new (.lst (rgV j.toNat)) else .stuck
 |_=>.stuck
noncomputable def jX:PBf:=⟨CW⟩
def DQ{j:Int}(h:-(2^62)<=j/\j<=16777216):jX.G [.int j]=.new (.lst (rgV j.toNat)):=if_pos h
noncomputable def CU:List Val->Bv:=λvs=>match vs with
 | [.int j]=>if 0<=j/\j<=1000000 then .val (.tup (rgV j.toNat)) else .stuck
 |_=>.stuck
noncomputable def jE:PBf:=⟨CU⟩
def D2{j:Int}(h:0<=j/\j<=1000000):jE.G [.int j]=.val (.tup (rgV j.toNat)):=if_pos h
noncomputable def ku:List Val->Bv:=λvs=>match vs with
 | [.lst us]=>match fE us with
  |some ns=>if ns.length<64 then .new (.lst ((srI ns).reverse.map .int)) else .stuck
  |none=>.stuck
 |_=>.stuck
noncomputable def kO:PBf:=⟨ku⟩
def Fp(ns:List Int)(h:ns.length<64):kO.G [.lst (ns.map .int)]=.new (.lst ((srI ns).reverse.map .int)):=by show ku [.lst (ns.map .int)]=_;unfold ku;dsimp only;rw[bH];dsimp only;rw[if_pos h]
noncomputable def rV (f:List Int->Int):List Val->Bv:=λvs=>match vs with
 | [.lst xs]=>(match fE xs with
  |some bs=>if bs≠[] then .val (.int (f bs)) else .stuck
  |none=>.stuck)
 |_=>.stuck
noncomputable def mP:PBf:=⟨rV mnI⟩
def Mr{f:List Int->Int}{ns:List Int}(h:ns≠[]):rV f [.lst (ns.map .int)]=.val (.int (f ns)):=by unfold rV;dsimp only;rw[bH];exact if_pos h
def Ad{ns:List Int}(h:ns≠[]):mP.G [.lst (ns.map .int)]=.val (.int (mnI ns)):=Mr h
noncomputable def Lb (e:E3):R3 Tm:=.ok (.new (.set [])) e
noncomputable def xt:PEx:=⟨27,Lb⟩
def IA(e:E3):xt.G e=.ok (.new (.set [])) e:=rfl
noncomputable def Cj:Val->Val->Bv:=λx y=>match x,y with
 |.int i,.set xs=>.val (.bl (decide (i∈xs)))
 |_,_=>.stuck
noncomputable def Bf:PO2:=⟨Cj⟩
def L5(i:Int)(xs:List Int):Bf.G (.int i) (.set xs)=.val (.bl (decide (i∈xs))):=rfl
noncomputable def xR:List Val->Bv:=λvs=>match vs with
 | [.set xs]=>.val (.int (xs.length:Nat))
 |_=>.stuck
noncomputable def rh:PBf:=⟨xR⟩
def Ir(xs:List Int):rh.G [.set xs]=.val (.int (xs.length:Nat)):=rfl
noncomputable def A1:Val->Option (List Int)
 |.set xs=>some xs
 |_=>none
noncomputable def tS (i:Nat) (A:MA3) (e:E3):R3 Tm:=match e[i]? with
 |some s=>match s.mv.bind A1 with
  |some _=>(A e).bind λts e1=>match dem e1 ts with
   |some (e2,[.int k])=>match e2[i]? with
    |some s2=>match s2.mv.bind A1 with
     |some xs=>if xs.length<4000 then .ok (.val .non) (e2.set i (s2.re (.set (fL xs k)))) else .stuck
     |none=>.stuck
    |none=>.stuck
   |_=>.stuck
  |none=>.stuck
 |none=>.stuck
noncomputable def Bq (i:Nat) (a:PAs):PEx:=⟨28,tS i a.G⟩
def Jz(e:E3)(i:Nat)(a:PAs):(Bq i a).G e=tS i a.G e:=rfl
noncomputable def qU:Val->Val->Bv:=λx y=>match x with
 |.dct kvs=>(match y with
  |.int k=>(match lkD kvs (.inl k) with
   |some v=>.val v
   |none=>.stuck)
  |_=>.stuck)
 |_=>.stuck
noncomputable def xr:PO2:=⟨qU⟩
def KC(h:lkD kvs (.inl k)=some v):xr.G (.dct kvs) (.int k)=.val v:=by show qU (.dct kvs) (.int k)=_;unfold qU;dsimp only;rw[h]
noncomputable def sDI:Val->Val->Val->Option Val:=λo i v=>match o with
 |.dct kvs=>(match i with
  |.int k=>if kvs.length<16777216 then some (.dct (ff kvs (.inl k) v)) else none
  |_=>none)
 |_=>none
noncomputable def seI:PSe:=⟨sDI⟩
def Hr(kvs:List (Key×Val))(k:Int)(v:Val):seI.G (.dct kvs) (.int k) v=if kvs.length<16777216 then some (.dct (ff kvs (.inl k) v)) else none:=rfl
noncomputable def me:Val->List Val->Option (Val×Val):=λu vs=>match u,vs with
 |.lst xs,[.tup ys]=>if xs.length+ys.length<=16777216 then some (.lst (xs++ys),.non) else none
 |_,_=>none
noncomputable def iQ:PMm:=⟨me⟩
def pK(xs ys:List Val):iQ.G (.lst xs) [.tup ys]=if xs.length+ys.length<=16777216 then some (.lst (xs++ys),.non) else none:=rfl
section
variable{K:W.Frag}{mg:Pp}{P:Addr->Prop}{H:Hp}
def GW:cA K mg rLrg jX.G:=λP H xs vs Q r0 p=>by
 replace p:BvP K mg P H Q (CW vs):=p;unfold CW at p;split at p
 .obtain⟨d,rfl,r⟩:=cQ r0;obtain rfl:=r.int;split at p
  .rename_i hb;exact⟨_,rfl,hb.1,hb.2,bvL p (lA _)⟩
  .exact p.elim
 .exact p.elim
def GL:cA K mg rTrg jE.G:=λP H xs vs Q r0 p=>by
 replace p:BvP K mg P H Q (CU vs):=p;unfold CU at p;split at p
 .obtain⟨d,rfl,r⟩:=cQ r0;obtain rfl:=r.int;split at p
  .rename_i hb;exact⟨_,rfl,hb.1,hb.2,bvT p (lA _)⟩
  .exact p.elim
 .exact p.elim
def C1:cA K mg (yI K) kO.G:=λP H xs vs Q r0 p=>by
 replace p:BvP K mg P H Q (ku vs):=p;unfold ku at p;split at p
 .obtain⟨d,rfl,r⟩:=cQ r0;obtain⟨a,ys,rfl,h,q⟩:=r.lstL;split at p
  .rename_i bs e;split at p
   .rename_i hb;exact⟨a,bs,rfl,m7 q e ▸ h,hb,bvL p (lC _)⟩
   .exact p.elim
  .exact p.elim
 .exact p.elim
def HJ{f:List Int->Int}:cA K mg (BY f K) (rV f):=λP H xs vs Q r0 p=>by
 unfold rV at p;split at p
 .obtain⟨d,rfl,r⟩:=cQ r0;obtain⟨a,ys,rfl,h,q⟩:=r.lstL;split at p
  .rename_i bs e;split at p
   .rename_i hb;exact⟨a,bs,rfl,m7 q e ▸ h,hb,bv p (.int _)⟩
   .exact p.elim
  .exact p.elim
 .exact p.elim
def EW:cA K mg (BY mnI K) mP.G:=HJ
def Gw:OpD K mg yo Bf.G:=λP H x y v u Q rx ry p=>by
 replace p:BvP K mg P H Q (Cj v u):=p;unfold Cj at p;split at p
 .obtain rfl:=rx.int;obtain⟨a,rfl,_,e⟩:=ry.set;exact⟨_,_,_,_,rfl,rfl,e,bv p (.bl _)⟩
 .exact p.elim
def FK:cA K mg (λxs H Q=>∃a S n,xs=[.ref a]/\H a=some (.set S n)/\Q (.int (n:Nat)) H) rh.G:=λP H xs vs Q r0 p=>by
 replace p:BvP K mg P H Q (xR vs):=p;unfold xR at p;split at p
 .obtain⟨d,rfl,r⟩:=cQ r0;obtain⟨a,rfl,_,e⟩:=r.set;exact⟨_,_,_,rfl,e,bv p (.int _)⟩
 .exact p.elim
def Bm:Cy K mg DV seI.G:=λP H n o u di vi d v u' Q np e hf r0 ri rd q k=>by
 replace q:sDI u vi v=some u':=q;unfold sDI at q;split at q
 .split at q
  .split at q
   .rename_i hl;cases q;obtain rfl:=ri.int;cases r0 with
    |dct rk=>exact⟨n,_,rfl,DPut.k (k:=.inl _) e (by rw[GH rk];exact hl),k _ trivial (.dct (HL rd rk))⟩
   .cases q
  .cases q
 .cases q
def xf:MmD K mg (rB K) iQ.G:=λP H n o u ds vs u' v Q np e hf r0 rs q k=>by
 replace q:me u vs=some (u',v):=q;unfold me at q;split at q
 .split at q
  .rename_i hl;cases q;obtain⟨xs,rfl,r⟩:=nD r0;obtain⟨d,rfl,rd⟩:=Au rs;obtain⟨b,ys,rfl,e2,q5⟩:=ShR.tup (.inl rd);exact⟨n,b,xs,ys,rfl,rfl,e,e2,by rw[r.len,q5.len];exact hl,k _ _ trivial (.lst (r.append q5)) .non⟩
  .cases q
 .cases q
variable{X:Cx}{ES:St->XK}{e o a b:Expr}{es:List Expr}{p q:PEx}{A:PAs}{pos cpos apos q1 q2 q8 q9 p0 p1 p2 pc:Pos}{kc:Nat}
def HK(hc:X.calm=true)(hl:Gl X "list")(hml:mg "list"=none)(hg:Gl X "range")(hm:mg "range"=none)(ha:DA K mg X ES [a] A)(hk:X.mg=mg:=by rfl)(hs:starEach [a] X.env=[(false,eval a X.env)]:=by rfl)
 (hs1:starEach [.Call (.Name "range" p2) [a] [] q2] X.env=[(false,eval (.Call (.Name "range" p2) [a] [] q2) X.env)]:=by rfl):
 DE K mg X ES (.Call (.Name "list" p1) [.Call (.Name "range" p2) [a] [] q2] [] pos) (pFn jX A):=by
 subst hk;exact⟨PE.imp (HB hc hl hml hg hm ha.ok hs hs1) (ni GW)⟩
def JY(hc:X.calm=true)(hl:Gl X "tuple")(hml:mg "tuple"=none)(hg:Gl X "range")(hm:mg "range"=none)(ha:DA K mg X ES [a] A)(hk:X.mg=mg:=by rfl)(hs:starEach [a] X.env=[(false,eval a X.env)]:=by rfl)
 (hs1:starEach [.Call (.Name "range" p2) [a] [] q2] X.env=[(false,eval (.Call (.Name "range" p2) [a] [] q2) X.env)]:=by rfl):
 DE K mg X ES (.Call (.Name "tuple" p1) [.Call (.Name "range" p2) [a] [] q2] [] pos) (pFn jE A):=by
 subst hk;exact⟨PE.imp (IM hc hl hml hg hm ha.ok hs hs1) (ni GL)⟩
def FX(hl:Gl X "sorted")(hml:mg "sorted"=none)(ha:DA K mg X ES [a] A)(hK:X.K=K:=by rfl)(hk:X.mg=mg:=by rfl)(hs:starEach [a] X.env=[(false,eval a X.env)]:=by rfl):
 DE K mg X ES (.Call (.Name "sorted" q1) [a] [⟨some "reverse",.Constant (.bool true) kc pc,q8⟩] q9) (pFn kO A):=by
 subst hK hk;exact⟨PE.imp (FC hl hml ha.ok hs) (ni C1)⟩
def Fb(hg:Gl X x)(hm:mg x=none)(hv:bootBuiltins x=some (.type "set"))(hk:X.mg=mg:=by rfl)(hn:x ≠ "__name__":=by decide)(hdb:(x==("__debug__" : Str))=false:=by decide):DE K mg X ES (.Call (.Name x p0) [] [] pos) xt:=by
 subst hk;exact⟨PE.imp (v7 zY hg hm hv hn hdb) λσ H Q zz=>zz.el λY N0 L ns e S hl p=>⟨rfl,λl hl'=>by
  have:=PG3.bv (b:=.new (.set [])) p S hl H l (.set (λi=>decide (i∈([]:List Int))) 0) .refl hl' trivial (.set [] List.nodup_nil)
  have e:(λ_:Int=>false)=λi:Int=>decide (i∈([]:List Int)):=by funext i;simp
  rw[e];exact this⟩⟩
def Iw{xs:List Int}{i:Int}(nd:xs.Nodup):(fL xs i).Nodup/\HO.set (λk=>decide (k∈xs) || decide (k=i)) (if decide (i∈xs)=true then xs.length else xs.length+1)=.set (λk=>decide (k∈fL xs i)) (fL xs i).length:=by
 unfold fL;by_cases hi:i∈xs
 .rw[if_pos (H_ hi),if_pos hi];refine⟨nd,?_⟩;congr 1;funext k;by_cases hk:k∈xs
  .rw[H_ hk];rfl
  .rw[D_ hk,D_ (show ¬ k=i from λz=>hk (by rw[z];exact hi))];rfl
 .rw[if_neg (show ¬ decide (i∈xs)=true by rw[D_ hi];exact w_),if_neg hi];refine⟨Om.mpr ⟨hi,nd⟩,?_⟩;congr 1;funext k;rw[O4,Oi,NH,NH,NH,G_];exact Or.comm
def Ji{j:Nat}(hK:X.K=K)(ho:DE K mg X ES o (af j))(ha:DA K mg X ES (e::es) A)
 (i_:attributeBase o "add" X.env (eval o X.env)=eval o X.env:=by rfl)
 (hfew:((backTo cpos (starEach (e::es) X.env)).all (λx=>!x.1)&&(backToKw cpos (keywordEach [] X.env)).all (λx=>x.1.isSome)
  && decide ((e::es).length+([]:List Keyword).length+(if ([]:List Keyword).isEmpty then 0 else 1)<30))=true:=by rfl)
 (j':(apos.endLine==cpos.line)=true:=by rfl) (hs:starEach (e::es) X.env=(false,eval e X.env)::starEach es X.env:=by rfl) (c_:(backTo cpos (starEach es X.env)).any (·.1)=false:=by rfl):
 DE K mg X ES (.Call (.Attribute o "add" apos) (e::es) [] cpos) (Bq j A):=by
 subst hK;exact
  ⟨PE.imp (wC PySem.F.plainAttrs_set PySem.F.slot_set_add PySem.F.type_set_add Ae ho.ok ha.ok i_ hfew j' hs c_) λσ H Q zz=>zz.el λY N0 L ns e S hl p=>⟨Y,N0,L,ns,e,S,hl,by
  replace p:PG3 X.K mg Y N0 ns e σ H (ES σ) (KE X.K mg Y N0 L σ Q) (tS j A.G e):=p;unfold tS at p;split at p
  .rename_i s0
    q0
   split at p
   .rename_i xs0 hz;obtain⟨u0,z1,z2⟩:=MY.mp hz;show PG3 X.K mg Y N0 ns e σ H (ES σ) _ (eL j e);rw[ug q0 z1];intro H1 ns1 a1 S1 ov ro;have ty:tyV X.K "set" ov H1:=by
     have rs:=S1.bor (i:=j) (v:=u0) ro (by rw[q0];cases s0 <;> first |exact z1 |cases z1);cases u0 with
     |set ys=>obtain⟨a,rfl,_,h⟩:=rs.set;exact .inr (.inr (.inr ⟨rfl,_,_,h⟩))
     |_=>cases z2
    refine⟨ty,Y,N0,ns1,e,S1,PG3.imp (p.after S a1) S1 λts e1 h_ H2 a2 S2 p2 xs r2=>?_⟩;split at p2
    .rename_i e2 k q1;obtain⟨ns3,S3,a3,r3⟩:=js S2 r2 q1;split at p2
     .rename_i s2 q2;split at p2
      .rename_i ys q3;split at p2
       .rename_i a_;obtain⟨u,y1,y2⟩:=MY.mp q3;obtain⟨n,ob,k1,k0,k2,k3,k4,k5⟩:=S3.write q2 y1;have ro':σ[j]?=some (some ov):=ro;rw[k1] at ro';cases ro';obtain⟨d,rfl,rd⟩:=Au r3;obtain rfl:=ShR.int (.inl rd);cases u with
        |
         set zs=>
         cases y2;cases k4 with
         |set _ nd=>obtain⟨i1,i2⟩:=Iw (i:=k) nd;refine⟨n,k,_,_,rfl,rfl,k2,a_,?_⟩;rw[i2];obtain⟨mv,S4,a4⟩:=k5 (.set (λz=>decide (z∈fL ys k)) (fL ys k).length) (.set (fL ys k)) trivial (.set _ i1);exact p2 _ _ (a3.trans S2 a4) S4 _ .non
        |_=>cases y2
       .exact p2.elim
      .exact p2.elim
     .exact p2.elim
    .exact p2.elim
   .exact p.elim
  .exact p.elim⟩⟩
def B3(hu:X.A.units+1<cLine)(ha:DE K mg X ES a p)(hb:DE K mg X ES b q)(hs:A4 b):DE K mg X ES (.Subscript a b pos) (pOp xr p q):=⟨PE.imp (E5 hu ha.ok hb.ok hs) λσ H Q zz=>zz.el λY N0 L ns e S hl p=>
 ⟨Y,
  N0,L,ns,e,S,hl,PG3.imp p S λt1 e1 ns1 H1 a1 S1 p1 x r1=>⟨Y,N0,L,ns1,e1,S1,λa z=>hl a (a1.dom a z),PG3.imp p1 S1 λt2 e2 h_ H2 a2 S2 p2 y r2=>by
  try dsimp only at p2
  split at p2
  .rename_i v u q1 q2;replace p2:PG3 K mg Y N0 h_ e2 σ H2 (ES σ) (KE K mg Y N0 L σ Q) ((qU v u).at e2):=p2;unfold qU at p2;split at p2
   .split at p2
    .split at p2
     .rename_i q3;obtain⟨a,ws,rfl,h,rk⟩:=((r1.drop a2).sh S2 q1).dct;obtain rfl:=(r2.sh S2 q2).int;obtain⟨d,q4,rd⟩:=Mj rk q3;exact⟨a,d,rfl,q4 ▸ DGet.k (k:=.inl _) h,p2.ret S2 _ rd⟩
     .exact p2.elim
    .exact p2.elim
   .exact p2.elim
  .exact p2.elim⟩⟩⟩
end
open PySem PySem.Spec PyProof.Rows L2 PySem.W
noncomputable def adr (K:Frag) (x:Str):Addr:=match nsIn K mainGlobals x with
 |some (some (.ref a))=>a
 |_=>0
noncomputable def jd (K:Frag) (x:Str):Bool:=match nsIn K mainGlobals x with
 |some (some (.ref _))=>true
 |_=>false
noncomputable def rT (K:Frag) (x:Str):Bool:=match nsIn K mainGlobals x with
 |some none=>true
 |_=>false
noncomputable def xcB (K:Frag) (C:Addr):Bool:=(clsIn K C).isSome&&(findIn K (.ref C) "__getattribute__" == some (some (.builtin "BaseException.__getattribute__"))&&(findIn K (.ref C) "__getattr__" == some none&&(findIn K (.ref C) "__class__" == some (some (.builtin "object.__class__"))&&(specialIn K (.builtin "object.__class__") "__get__" == some (some (.builtin "getset_descriptor.__get__"))&&(takesIn K (.builtin "object.__class__")==some true&&(mroIn K C (.type "object")==some true&&mroIn K C (.type "BaseException")==some true))))))
noncomputable def hdB (K:Frag) (C:Addr):Bool:=typeIn K (.ref C)==some (.type "type")&&((clsIn K C).isSome&&mroIn K C (.type "BaseException")==some true)
noncomputable def clA (K:Frag):Cl->Value
 |.b n=>.type n
 |.o x=>.ref (adr K x)
noncomputable def A8 (K:Frag):Cl->Bool
 |.b _=>true
 |.o x=>jd K x
noncomputable def B8 (K:Frag) (p:Cl×Cl×Bool):Bool:=kitOne K (clA K p.1) (clA K p.2.1)==some p.2.2&&(A8 K p.1&&A8 K p.2.1)
noncomputable def xkB (K:Frag):Cl->Bool
 |.b _=>true
 |.o x=>xcB K (adr K x)
noncomputable def xj:Val->Value->Bool
 |.int i,.int j _=>i==j
 |.str x,.str y _=>x==y
 |.non,.none=>true
 |.bl b,.bool c=>b==c
 |_,_=>false
noncomputable def dV:Val->V
 |.int i=>.int i
 |.str x=>.str x
 |.bl b=>.bl b
 |_=>.non
noncomputable def qG:List Val->List Value->Bool
 | [],[]=>true
 |d::ds,v::vs=>xj d v&&qG ds vs
 |_,_=>false
noncomputable def gcB (K:Frag) (x:Str):Val->Bool
 |.tup ds=>(match nsIn K mainGlobals x with
  |some (some (.ref a))=>(match K.lookup a with
   |some ⟨.type "tuple",_,.seq its _,_⟩=>decide (its.size<=1000)&&qG ds its.toList
   |_=>false)
  |_=>false)
 |d=>match nsIn K mainGlobals x with
  |some (some v)=>xj d v
  |_=>false
noncomputable def bFn:List String:=["abs", "all", "any", "isinstance", "len", "max", "min", "sorted", "sum"]
noncomputable def bTy:List String:=["bool", "dict", "int", "list", "set", "str", "tuple", "ValueError"]
noncomputable def bIt:List String:=["range", "zip", "enumerate"]
def IF:(bFn.all λn=>bootBuiltins (Str.ofString n)==some (.builtin n))=true:=by decide
def Gd:(bTy.all λn=>bootBuiltins (Str.ofString n)==some (.type n))=true:=by decide
def boF{n:String}(h:bFn.contains n=true):bootBuiltins (Str.ofString n)=some (.builtin n):=MX.mp (K_.mp IF n (Na.mp h))
def boT{n:String}(h:bTy.contains n=true):bootBuiltins (Str.ofString n)=some (.type n):=MX.mp (K_.mp Gd n (Na.mp h))
structure Tb where
 us:List Str
 rs:List Str
 hs:List (Str×List Str)
 kt:jR
 gs:List (Str×Val)
noncomputable def Tb.ok (b:Tb) (K:Frag):Bool:=(bFn++(bTy++bIt)).all (λn=>rT K (Str.ofString n))&&(b.us.all (jd K)&&(b.rs.all (λx=>excIn K (adr K x) om "ValueError.__new__" && jd K x)&&(b.hs.all (λp=>hdB K (adr K p.1)&&p.2.all λc=>mroIn K (adr K c) (.ref (adr K p.1))==some true&&jd K c)&&(b.kt.all (λp=>B8 K p&&xkB K p.1)&&b.gs.all λp=>gcB K p.1 p.2))))
structure Tx(b:Tb)(K:Frag)(mg:Pp):Prop where
 n:∀{n:String},(bFn++(bTy++bIt)).contains n=true->mg (Str.ofString n)=none
 m:∀{x:Str},b.us.contains x=true->mg x=some (.ref (adr K x))
 x:∀{x:Str},b.rs.contains x=true->excIn K (adr K x) om "ValueError.__new__"=true
 h:∀{x:Str}{l:List Str},(x,l)∈b.hs->XHand K (adr K x)/\∀c∈l,∀Ce,mg c=some (.ref Ce)->mroIn K Ce (.ref (adr K x))=some true
 k:KitsOk K mg b.kt
 g:∀{x:Str}{d:Val},b.gs.lookup x=some d->GC K mg x d
section
variable{K:Frag}{h:Heap}{mg:Pp}{x:Str}(X:K.In h)(G:h.Ns mainGlobals mg)
include X G
def kR(e:jd K x=true):mg x=some (.ref (adr K x)):=by
 unfold jd at e;split at e
 .rename_i a q;unfold adr;rw[q];exact mg_of X G q
 .cases e
def wX(e:rT K x=true):mg x=none:=by
 unfold rT at e;split at e
 .rename_i q;exact mg_none_of X G q
 .cases e
omit X G in
def Kd{C:Addr}(e:xcB K C=true):XCls K C:=by simp only[xcB,t_,MX] at e;obtain⟨e1,e2,e3,e4,e5,e6,e7,e8⟩:=e;exact⟨e1,e2,e3,e4,e5,e6,e7,e8⟩
def C3{c:Cl}{v:Value}(e:A8 K c=true)(q:ClV mg c v):v=clA K c:=by
 cases c with
 |b n=>exact q
 |o y=>obtain⟨a,rfl,m⟩:=q;rw[kR X G (show jd K y=true from e)] at m;cases m;rfl
omit X G in
def yB{d:Val}{v:Value}(e:xj d v=true):RelV (dV d) v/\∀P H,Rd K mg P H (dV d) d:=by
 unfold xj at e;split at e
 .cases MX.mp e;exact⟨⟨_,rfl⟩,λ_ _=>.int _⟩
 .cases MX.mp e;exact⟨⟨_,rfl⟩,λ_ _=>.str _⟩
 .exact⟨rfl,λ_ _=>.non⟩
 .cases MX.mp e;exact⟨rfl,λ_ _=>.bl _⟩
 .cases e
omit X G in
theorem vy:∀{ds:List Val}{vs:List Value},qG ds vs=true->Vals (ds.map dV) vs/\∀P H,Rds K mg P H (ds.map dV) ds
 | [],[],_=>⟨.nil,λ_ _=>.nil⟩
 |
  d::ds,v::vs,e=>by
  rw[qG,t_] at e;obtain⟨a1,a2⟩:=yB (K:=K) (mg:=mg) e.1;obtain⟨b1,b2⟩:=vy e.2;exact⟨.cons a1 b1,λP H=>.cons (a2 P H) (b2 P H)⟩
 | [],_::_,e=>nomatch e
 |_::_,[],e=>nomatch e
def LP{d:Val}(e:gcB K x d=true):GC K mg x d:=by
 unfold gcB at e;split at e
 .rename_i ds;split at e
  .rename_i a q;split at e
   .rename_i dd its n sl l;rw[t_] at e;obtain⟨v1,v2⟩:=vy (K:=K) (mg:=mg) e.2;exact⟨_,.ref a,mg_of X G q,rfl,λP H=>.tup (.inr ⟨_,its,n,l,rfl,rfl,MV (N9 e.1) (by decide),v1⟩) (v2 P H)⟩
   .cases e
  .cases e
 .split at e
  .rename_i v q;obtain⟨v1,v2⟩:=yB (K:=K) (mg:=mg) e;exact⟨_,_,mg_of X G q,v1,v2⟩
  .cases e
omit X G in
theorem zx{d:Val}:∀{l:List (Str×Val)},l.lookup x=some d->(x,d)∈l
 | [],h=>nomatch h
 |
  (y,e)::l,h=>by
  rw[ND] at h;split at h
  .rename_i q;cases h;rw[MX.mp q];exact s_
  .exact q_ _ (zx h)
def Ld{b:Tb}(e:b.ok K=true):Tx b K mg:=by
 unfold Tb.ok at e;simp only[t_] at e;obtain⟨e1,e2,e3,e4,e5,e6⟩:=e;simp only[K_,t_] at e1 e2 e3 e4 e5 e6;refine⟨λh=>wX X G (e1 _ (Na.mp h)),λh=>kR X G (e2 _ (Na.mp h)),λh=>(e3 _ (Na.mp h)).1,λh=>?_,⟨λp hp t v h1 h2=>?_,λp hp x C e' m=>?_⟩,λh=>LP X G (e6 _ (zx h))⟩
 .obtain⟨a1,a2⟩:=e4 _ h;refine⟨?_,λc hc Ce m=>?_⟩
  .simp only[hdB,t_,MX] at a1;exact⟨a1.1,a1.2.1,a1.2.2⟩
  .obtain⟨b1,b2⟩:=a2 c hc;rw[kR X G b2] at m;cases m;exact MX.mp b1
 .obtain⟨a1,_⟩:=e5 p hp;simp only[B8,t_,MX] at a1;rw[C3 X G a1.2.1 h1,C3 X G a1.2.2 h2];exact a1.1
 .obtain⟨a1,a2⟩:=e5 p hp;simp only[B8,t_,MX] at a1;have a3:=a1.2.1;rw[e'] at a2 a3;rw[kR X G (show jd K x=true from a3)] at m;cases m;exact Kd a2
end
def dNm(s:Stmt):Str:=match s with
 |.FunctionDef n ..=>n
 |_=>""
def AllD(K:Frag)(mg:Pp)(top:Nat->Stmt):List Nat->Prop
 | []=>True
 |i::l=>Def K mg (dNm (top i)) (top i)/\AllD K mg top l
theorem AllD.get{K:Frag}{mg:Pp}{top:Nat->Stmt}:∀{l:List Nat},AllD K mg top l->∀i,l.contains i=true->Def K mg (dNm (top i)) (top i)
 | [],_,i,h=>nomatch h
 |
  j::l,⟨a,b⟩,i,h=>by
  rcases G_.mp (Na.mp h) with rfl |h
  .exact a
  .exact b.get i (Na.mpr h)
def _root_.L2.Def.gl{K:Frag}{mg:Pp}{x:Str}{st:Stmt}(D:Def K mg x st):∃a,mg x=some (.ref a):=let ⟨f,_,_,m⟩:=D.ex;⟨f,m⟩
def Tx.e{b:Tb}{K:Frag}{mg:Pp}{x:Str}(T:Tx b K mg)(h:b.us.contains x=true):∃a,mg x=some (.ref a):=⟨_,T.m h⟩
structure Ty(b:Tb)(top:Nat->Stmt)(ds:List Nat)(K:Frag)(mg:Pp):Prop extends Tx b K mg where
 d:AllD K mg top ds
noncomputable def scB (N P:List Str) (sc:Scope):Bool:=decide (sc.kind=.function)&&(!sc.isCoroutine&&(!sc.isGenerator&&(decide N.Nodup&&(decide (N.take P.length=P)&&(P.all (λx=>decide (sc.names.lookup x=some .local\/sc.names.lookup x=some .cell))&&sc.names.all λy=>decide (y.2 ≠ .free))))))
def ax{N P:List Str}{sc:Scope}(e:scB N P sc=true):FnScope N P sc:=by simp only[scB,t_,Np,K_,NP] at e;obtain⟨e1,e2,e3,e4,e5,e6,e7⟩:=e;exact⟨e1,e2,e3,e4,e5,e6,e7⟩
def AB(K:Frag)(mg:Pp)(x:Str):Prop:=x∈mh/\(∀y∈mh,y≠x->mg y=none)/\∀f oc od fd sl,mg x=some (.ref f)->K.lookup f=some ⟨oc,od,.func fd,sl⟩->∃c P,fd.code=.ref c/\codeHdIn K c P=true
noncomputable def xk (K:Frag) (a:Addr):Option (Addr×Addr):=match K.lookup a with
 |some ⟨_,_,.func fd,_⟩=>(match fd.code with
  |.ref c=>(match K.lookup c with
   |some ⟨_,_,.fields vs,_⟩=>(match (vs[11]?:Option Value) with
    |some (.ref P)=>if codeHdIn K c P=true then some (c,P) else none
    |_=>none)
   |_=>none)
  |_=>none)
 |_=>none
noncomputable def lamB (K:Frag) (x:Str):Bool:=mh.contains x&&(mh.all (λy=>y==x || rT K y)&&(jd K x&&(xk K (adr K x)).isSome))
noncomputable def Ls (K:Frag) (ts:List Addr):Bool:=mh.all λx=>rT K x || (jd K x&&(match xk K (adr K x) with
 |some (_,P)=>ts.contains P
 |none=>false))
noncomputable def Dm (K:Frag) (ts:List Addr):Bool:=ts.all λP=>(K.lookup P).isNone&&K.any λp=>codeHdIn K p.1 P
def ve{K:Frag}{a c P:Addr}(e:xk K a=some (c,P)):∃oc od fd sl,K.lookup a=some ⟨oc,od,.func fd,sl⟩/\fd.code=.ref c/\codeHdIn K c P=true:=by
 unfold xk at e;split at e
 .rename_i oc od fd sl h1;split at e
  .rename_i c' h2;split at e
   .split at e
    .split at e
     .rename_i h3;cases e;exact⟨_,_,fd,_,h1,h2,h3⟩
     .cases e
    .cases e
   .cases e
  .cases e
 .cases e
def Gn{K:Frag}{c P P':Addr}(h:codeHdIn K c P=true)(h':codeHdIn K c P'=true):P=P':=by
 unfold codeHdIn at h h';split at h
 .rename_i vs hk;rw[hk] at h';simp only[t_] at h h';have a:=h.1.1.1.1.1;have b:=h'.1.1.1.1.1;split at a
  .rename_i x hx;rw[hx] at b;rw[MX] at a b;exact a.symm.trans b
  .cases a
 .cases h
section
variable{K:Frag}{h:Heap}{mg:Pp}(X:K.In h)(G:h.Ns mainGlobals mg)
include X G
def GS{x:Str}(e:lamB K x=true):AB K mg x:=by
 simp only[lamB,t_,K_,Oi] at e;obtain⟨e1,e2,e3,e4⟩:=e;refine⟨Na.mp e1,λy hy hne=>?_,λf oc od fd sl m lk=>?_⟩
 .rcases e2 y hy with z |z
  .exact absurd (MX.mp z) hne
  .exact wX X G z
 .obtain⟨⟨c,P⟩,ec⟩:=Nu.mp e4;obtain⟨oc',od',fd',sl',l1,l2,l3⟩:=ve ec;have m':=kR X G e3;rw[m] at m';cases m';rw[lk] at l1;cases l1;exact⟨c,P,l2,l3⟩
def Gx{ts:List Addr}(e:Ls K ts=true)(P:Addr)(q:Str)(l:LamT K mg P q):P∈ts:=by
 obtain⟨x,f,oc,od,fd,sl,c,a1,a2,a3,a4,a5,a6,_⟩:=l;have z:=K_.mp e x a1;rw[Oi] at z;rcases z with z |z
 .have:=wX X G z
  rw[a3] at this;cases this
 .rw[t_] at z;obtain⟨z1,z2⟩:=z;have m':=kR X G z1;rw[a3] at m';cases m';split at z2
  .rename_i c' P' ec;obtain⟨oc',od',fd',sl',l1,l2,l3⟩:=ve ec;rw[a4] at l1;cases l1;rw[a5] at l2;cases l2;rw[Gn a6 l3];exact Na.mp z2
  .cases z2
end
def Ep{K:Frag}{ts:List Addr}{h:Heap}(e:Dm K ts=true)(a:∀P∈ts,h.get? P=some (tabObj #[])):TabsOk K ts h:=by
 simp only[Dm,K_,t_,List.any_eq_true] at e;refine⟨a,λP hP=>?_,λP hP=>?_⟩
 .have:=(e P hP).1
  rw[Option.isNone_iff_eq_none] at this;exact this
 .obtain⟨p,_,q⟩:=(e P hP).2;exact⟨p.1,q⟩
structure TyL(b:Tb)(top:Nat->Stmt)(ds:List Nat)(K:Frag)(mg:Pp):Prop extends Ty b top ds K mg where
 l:AB K mg "by_falling_weights"
section
variable{K:W.Frag}{mg:Pp}{P:Program}{w:World}{base:Heap}{fx:Str}{n_:Stmt}{k m:Nat}{ps N:List Str}{ms:List Bool}{x:PSt}
def okPL(D:Def K mg fx n_)(L:AB K mg fx)(S:FnScope N ps (ar n_))
 (hb:∀(kV doc pm:Value) (an:Option Addr) (cdv ct:Value) (us:List Value),us.length=ps.length->bindArgs (W.fnOf fx fx (dm n_) (bG n_) (ar n_) .none kV doc pm an cdv ct) ⟨us,[]⟩=pure (ps.zip us))
 (j_:N.Nodup->∀(f:Addr) (A:Around) (outer:List Env) (s:Shared) (H:Hp) (E:XK) (c T:Addr),codeHdIn K c T=true->LamT K mg T (fx ++ ".<locals>." ++ "<lambda>")->Room k (A.deeper (envOfC fx (ar n_) s.heap.objs.size f (.ref c)))->
  DSs K mg (eJ (CX1 P w) P w K mg base N fx (ar n_) f (.ref c) A outer s H E) (λ_=>E) (bG n_) x) (hn:ms.length=ps.length:=by rfl) (hm:N.length=m:=by rfl):Callee P w K mg base fx (k+1) ps (sp3 K mg (fnP ms m x)):=by
 subst hm;obtain⟨f,fd,Ff,mm⟩:=D.ex;have bd:=Ff.binds hb;have kp:=Ff.kp;obtain⟨oc,od,kV,doc,pm,an,cdv,ct,osl,rfl,lk,k_⟩:=Ff.ex;obtain⟨c,T,e1,e2⟩:=L.2.2 f _ _ _ _ mm lk;have e1:cdv=.ref c:=e1;subst e1;have LT:LamT K mg T (fx ++ ".<locals>." ++ "<lambda>"):=⟨fx,f,oc,od,_,osl,c,L.1,L.2.1,mm,lk,rfl,e2,rfl⟩;exact⟨f,_,Dr lk k_ S (λvs H Q E sp=>by rw[<- hn];exact rP sp) λA outer s H vs Q E hr sp=>⟨_,(j_ S.nd f A outer s H E c T e2 LT hr).ok,tL sp⟩,mm,kp,bd,oc,od,osl,lk⟩
end
noncomputable def jS:List Val->Bv:=λvs=>match vs with
 | [.int j,.lst us]=>match fE us with
  |some ws=>if j=(ws.length:Nat)/\ws.length<64 then .new (.lst ((aQ ws).map λi:Nat=>.int (i:Nat))) else .stuck
  |none=>.stuck
 |_=>.stuck
noncomputable def rj:PBf:=⟨jS⟩
def Ak(ws:List Int)(h:ws.length<64):rj.G [.int (ws.length:Nat),.lst (ws.map .int)]=.new (.lst ((aQ ws).map λi:Nat=>.int (i:Nat))):=by show jS [.int (ws.length:Nat),.lst (ws.map .int)]=_;unfold jS;dsimp only;rw[bH];dsimp only;rw[if_pos ⟨rfl,h⟩]
section
variable{K:W.Frag}{mg:Pp}{Y N0:Addr->Prop}{ns:Ns}{e:E3}{σ:St}{H H2:Hp}{P:Addr}{q:Str}{ps:Array Value}{pos:Pos}
def Lw(S:Sat K mg Y N0 ns e σ H)(g:wL H H2 P q ps pos)(hT:LamT K mg P q)(hP:H P=some (.tbl ps)):Sat K mg Y N0 ns e σ H2/\Stp ns e H ns e H2:=by
 rcases g with rfl |⟨c',hc,am,rfl⟩
 .exact⟨S,.refl⟩
 .have nPc:P≠c':=bR hP hc;have at_:∀b,b≠P->b≠c'->upd (upd H P (.tbl (ps++#[rawInt pos.line,rawInt pos.col,.ref c']))) c' (.ext (fQ c' q)) b=H b:=λb n1 n2=>by rw[aE n2,aE n1]
  have atP:upd (upd H P (.tbl (ps++#[rawInt pos.line,rawInt pos.col,.ref c']))) c' (.ext (fQ c' q)) P=some (.tbl (ps++#[rawInt pos.line,rawInt pos.col,.ref c'])):=by rw[aE nPc,bo]
  have nc:∀b u,H b=some u->b≠c':=λb u e=>bR e hc;have kp:∀b u,H b=some u->oD u->upd (upd H P (.tbl (ps++#[rawInt pos.line,rawInt pos.col,.ref c']))) c' (.ext (fQ c' q)) b=some u:=λb u e n=>by rw[at_ b (λz=>by rw[z,hP] at e;cases e;exact n _ rfl) (nc b _ e)];exact e
  have l:LeH H (upd (upd H P (.tbl (ps++#[rawInt pos.line,rawInt pos.col,.ref c']))) c' (.ext (fQ c' q))):=⟨λb xs e=>kp b _ e λ_ z=>(nomatch z),λb o u e=>kp b _ e λ_ z=>(nomatch z),λb φ e=>kp b _ e λ_ z=>(nomatch z)⟩;have dom:∀a,upd (upd H P (.tbl (ps++#[rawInt pos.line,rawInt pos.col,.ref c']))) c' (.ext (fQ c' q)) a=none->H a=none:=λa z=>by
   by_cases z1:a=c'
   .subst z1;exact hc
   .by_cases z2:a=P
    .subst z2;rw[atP] at z;cases z
    .rw[at_ a z2 z1] at z;exact z
  have mv:Mov (Oc Y ns) (Oc Y ns) H (upd (upd H P (.tbl (ps++#[rawInt pos.line,rawInt pos.col,.ref c']))) c' (.ext (fQ c' q))):=⟨l,λa o p e n=>⟨p,kp a o e n⟩⟩;refine⟨⟨S.l1,S.l2,λa z=>S.lh a (dom a z),λa z=>?_,S.inj,S.nx,λi s qi=>(S.sl i s qi).mono mv λj o _ e f=>kp j o e f.nt,λP' q' l'=>?_⟩,⟨l,dom,λm o e n _=>kp m o e n,λ_ _ q=>.inl q,λ_ _ q _=>⟨q,rfl⟩,λ_ _ q _=>⟨q,rfl⟩,λ_ _ q=>⟨_,q,rfl⟩,λ_ _ q=>⟨_,q,rfl⟩⟩⟩
  .obtain⟨o,z⟩:=S.xl a z;cases y:upd (upd H P (.tbl (ps++#[rawInt pos.line,rawInt pos.col,.ref c']))) c' (.ext (fQ c' q)) a with
   |none=>rw[dom a y] at z;cases z
   |some u=>exact⟨u,rfl⟩
  .obtain⟨⟨ps',t2,t3,t4⟩,bm⟩:=S.bs P' q' l';refine⟨?_,DM bm l⟩;have eq:=hT.one l';by_cases z:P'=P
   .subst z;rw[hP] at t2;cases t2;refine⟨_,atP,?_,λl_ cv e=>?_⟩
    .rw[Array.toList_append];exact TriplesOk_snoc _ _ _ _ t3
    .rw[Array.toList_append] at e;rcases wc _ t3 e with z |rfl
     .obtain⟨c,e1,e2⟩:=t4 l_ cv z;exact⟨c,e1,l.ext _ _ e2⟩
     .exact⟨c',rfl,by rw[bo,eq]⟩
   .exact⟨ps',by rw[at_ P' z (nc P' _ t2)];exact t2,t3,λl_ cv e=>by obtain⟨c,e1,e2⟩:=t4 l_ cv e;exact⟨c,e1,l.ext _ _ e2⟩⟩
variable{X:Cx}{ES:St->XK}{a:Expr}{p:PEx}{iW:Nat}{c:Addr}{q1 q2 q6 q7 q8 q9 p0 p1 p2 p3 p4 p5 p6:Pos}
def FU(hc:X.calm=true)(hdp:X.A.depth<recursionLimit)(hl:Gl X "sorted")(hml:mg "sorted"=none)(hg:Gl X "range")(hm:mg "range"=none)(hN:X.N[iW]?=some "weights")(hv:X.env.scope.names.lookup ("weights" : Str)=some .cell)(k_:X.env.code=.ref c)(hh:W.codeHdIn K c P=true)(hT:LamT K mg P (X.env.qual ++ "<lambda>"))(ha:DE K mg X ES a p)(hK:X.K=K:=by rfl)(hk:X.mg=mg:=by rfl)(hs:starEach [a] X.env=[(false,eval a X.env)]:=by rfl):
 DE K mg X ES (.Call (.Name "sorted" q1) [.Call (.Name "range" q2) [a] [] q6] [⟨some "key",.Lambda (fj p0) (eE p1 p2 p3 p4 p5 p6) bq q7,q8⟩] q9) (pFn rj (aa p (aa (af iW) ag))):=by
 subst hK hk;refine⟨PE.imp (Eb hc hdp hl hml hg hm (bD ha yf hs).ok hN hv k_ hh hs) λσ H Q zz=>zz.el λY N0 L ns e S hL p3=>⟨Y,N0,ns,e,S,?_⟩⟩;replace p3:PG3 X.K X.mg Y N0 ns e σ H (ES σ) (KE X.K X.mg Y N0 L σ Q) ((nI p.G (nI (eL iW) oi) e).bind λts e1=>match rss e1 ts with
  |some vs=>(jS vs).at e1
  |none=>.stuck):=p3
 show PG3 X.K X.mg Y N0 ns e σ H (ES σ) _ (nI p.G oi e);unfold nI at p3 ⊢;cases q0:p.G e with
 |stuck=>rw[q0] at p3;exact p3.elim
 |exc c e'=>rw[q0] at p3;exact p3
 |
  ok t e1=>
  rw[q0] at p3;intro H1 ns1 a1 S1 vs rts;replace p3:PG3 X.K X.mg Y N0 ns e σ H (ES σ) (KE X.K X.mg Y N0 L σ Q) (((eL iW e1).bind λt2 e2=>.ok (t.drop::[t2.drop]) e2).bind λts e1=>match rss e1 ts with
   |some vs=>(jS vs).at e1
   |none=>.stuck):=by
   refine Eq.mp ?_ p3;congr 1;show (R3.bind (R3.bind (R3.bind (eL iW e1) _) _) _)=_;cases eL iW e1 <;> rfl
  have d_:∀t2,eL iW e1=.ok t2 e1->(∀v,rs e1 t2.drop=some v->∃d,σ[iW]?=some (some d)/\ShR X.K X.mg (Oc Y ns1) H1 d v)->v5 X.K X.mg P (X.env.qual ++ "<lambda>") q7 σ[iW]? vs H1 Q:=λt2 e2 hd=>by
   rw[e2] at p3;replace p3:PG3 X.K X.mg Y N0 ns e σ H (ES σ) (KE X.K X.mg Y N0 L σ Q) (match rss e1 [t.drop,t2.drop] with
    |some vs=>(jS vs).at e1
    |none=>.stuck):=p3
   unfold rss at p3;split at p3
   .rename_i vs' hvs;split at hvs
    .rename_i v1 vr hv1 hvr;cases hvs;unfold rss at hvr;split at hvr
     .rename_i v2 vr2 hv2 hvr2;cases hvr;cases hvr2;obtain⟨d,sd,rd⟩:=hd v2 hv2;have r1:=TsR.sh (ts:=[t.drop]) (vs:=[v1]) S1 rts (by unfold rss;rw[hv1];rfl);obtain⟨x,rfl,rx⟩:=cQ r1;unfold jS at p3;split at p3
      .rename_i j us he;cases he;split at p3
       .rename_i ws hws;split at p3
        .rename_i hb;obtain rfl:=rx.int;obtain⟨b,ds,rfl,h,qq⟩:=rd.lst;obtain rfl:=m7 qq hws;obtain⟨⟨ps,t2,t3,t4⟩,bm⟩:=S1.bs P _ hT;refine⟨b,ws,ps,by rw[hb.1],sd,SqL.of h,hb.2,t2,t3,t4,bm,λH2 l g hl2=>?_⟩;obtain⟨S2,a2⟩:=Lw S1 g hT t2;exact PG3.bv (b:=.new (.lst ((aQ ws).map λi:Nat=>.int (i:Nat)))) (p3.after S (a1.trans S a2)) S2 (λa z=>hL a (a1.dom a (a2.dom a z))) H2 l _ .refl hl2 trivial (.lst (lA _))
        .exact p3.elim
       .exact p3.elim
      .exact p3.elim
     .cases hvr
    .cases hvs
   .exact p3.elim
  unfold eL at p3;cases q1:e1[iW]? with
  |none=>rw[q1] at p3;exact p3.elim
  |
   some s=>
   have fb:∀u,s.val=some u->(∀v,s ≠ .sh v)->v5 X.K X.mg P (X.env.qual ++ "<lambda>") q7 σ[iW]? vs H1 Q:=λu hu hn=>d_ (.bor iW) (by
    unfold eL;rw[q1];cases s <;> first |rfl |cases hu;done |exact absurd rfl (hn _)) λv hv=>by
    have y:=S1.sl iW s q1;have:∃x,σ[iW]?=some (some x):=by
     cases s with
     |no=>cases hu
     |sh v=>exact absurd rfl (hn v)
     |ow v=>obtain⟨m,_,_,y,_⟩:=y;exact⟨_,y⟩
     |lo v=>obtain⟨m,_,_,y,_⟩:=y;exact⟨_,y⟩
     |mu v=>obtain⟨m,_,_,y,_⟩:=y;exact⟨_,y⟩
     |lm v=>obtain⟨m,_,_,y,_⟩:=y;exact⟨_,y⟩
    obtain⟨x,hx⟩:=this;exact⟨x,hx,S1.bor hx hv⟩
   cases s with
   |no=>rw[q1] at p3;exact p3.elim
   |sh v=>exact d_ (.val v) (by unfold eL;rw[q1]) λu hu=>by cases hu;obtain⟨_,x,e1,r⟩:=S1.sl iW _ q1;exact⟨x,e1,.inl r⟩
   |ow v=>exact fb v rfl λ_ z=>nomatch z
   |lo v=>exact fb v rfl λ_ z=>nomatch z
   |mu v=>exact fb v rfl λ_ z=>nomatch z
   |lm v=>exact fb v rfl λ_ z=>nomatch z
end
def Kl{P:Program}{w:World}{K:W.Frag}{mg:Pp}{base:Heap}{x y:Str}{k:Nat}{ts:List Addr}(p:PFn)(C:Callee P w K mg base x k [y] (sp3 K mg p))(hT:∀P q,LamT K mg P q->P∈ts)(hm:p.ms=[false])(hG:∀ns:List Int,ns.length<=63->p.G [.kl (ns.map .int)]=.ok (.val (.bl true)) []):
 Callee P w K mg base x k [y] (spT K mg ts):=C.imp λvs H Q E ⟨a,ns,e,hO,hq,hl,ht,hB,q⟩=>by
 subst e;refine⟨λ_=>False,[none],[.kl (ns.map .int)],by rw[hm];rfl,?_,?_⟩
 .rw[hm];have rd:Rd K mg (Oc (λ_=>False) [none]) H (.ref a) (.kl (ns.map .int)):=by
   rcases hq with (hq |⟨o,hq⟩) |hq
   .rcases hO a with z |⟨o,xs,z⟩ |z <;> rw[hq] at z <;> cases z
   .exact .cell ⟨λz=>z,by simp⟩ hq (.fz (lC ns))
   .exact .kl hq (lC ns)
  refine⟨rfl,rfl,λ_ z=>z,λ_ z=>z.elim,λi j n q=>?_,λi n q z=>z,λi s q=>?_,λP q l=>⟨⟨#[],ht P (hT P q l),trivial,λpos cv z=>by cases z⟩,hB⟩⟩
  .cases i with
   |zero=>simp at q
   |succ i=>simp at q
  .cases i with
   |
    zero=>
    have:sl1 false (.kl (ns.map .int))=s:=by simpa [sls] using q
    subst this;exact⟨rfl,_,rfl,rd⟩
   |succ i=>simp [sls] at q
 .rw[hG ns hl];intro x H' _ rr;rw[ShR.bl (.inl rr.2)];exact q H'
def gf(xs:List Val)(n:Nat):gQ xs none (some (n:Int))=xs.take n:=by
 unfold gQ;rw[HT.sIx_none,HT.sIx_nat,List.drop_zero,Nat.sub_zero];by_cases h:n<=xs.length
 .rw[Nat.min_eq_left h]
 .rw[Nat.min_eq_right (by omega),Nn (u_ _),Nn (by omega)]
def fY(xs:List Val)(n:Nat):gQ xs (some (n:Int)) none=xs.drop n:=by
 unfold gQ;rw[HT.sIx_none,HT.sIx_nat];by_cases h:n<=xs.length
 .rw[Nat.min_eq_left h,Nn (by rw[Oe];exact u_ _)]
 .rw[Nat.min_eq_right (by omega),List.drop_of_length_le (u_ _),List.drop_of_length_le (by omega),OW]
def eN(xs:List Val)(lo hi:Option Int):aSl (.lst xs) lo hi=.new (.lst (gQ xs lo hi)):=rfl
@[irreducible] def gtX(a:PGt):PGt:=a
def g_x(a:PGt)(v:Val)(e:E3):(gtX a).G v e=a.G v e:=by unfold gtX;rfl
def ZG.weak{K:W.Frag}{mg:Pp}{X:Cx}{e:PySem.Expr}{g:PGt}(h:DG K mg X e g):DG K mg X e (gtX g):=by unfold gtX;exact h
end L3
namespace Wb
open L2
noncomputable def lc (qs:List Rat) (c:Nat):Nat:=qs.foldl (λc q=>Nat.lcm c q.den) c
noncomputable def wh (L:Nat) (qs:List Rat):List Int:=qs.map λq=>q.num*((L/q.den:Nat):Int)
noncomputable def ws (qs:List Rat):List Int:=wh (lc qs 1) qs
end Wb
namespace L3
open PySem L2
noncomputable def aV (b:Bx):Rat:=if b.w<b.h then b.h/b.w else b.w/b.h
noncomputable def shL (s l:Rat) (W:Int):Int->List Int->List (Rat×Rat)
 |_,[]=>[]
 |a,w::ws=>(s+l*((a:Rat)/(W:Rat)),l*((w:Rat)/(W:Rat)))::shL s l W (a+w) ws
theorem jg(s l:Rat)(W:Int):∀(ws:List Int) (a:Int),(shL s l W a ws).length=ws.length
 | [],_=>rfl
 |w::ws,a=>by unfold shL;rw[F_,F_,jg s l W ws (a+w)]
noncomputable def aA (b:Bx) (way:Str) (ws:List Int):List Bx:=if way="across" then (shL b.l b.w ws.sum 0 ws).map λp=>⟨p.1,b.t,p.2,b.h⟩ else (shL b.t b.h ws.sum 0 ws).map λp=>⟨b.l,p.1,b.w,p.2⟩
theorem dJ:∀{l:List Int},(∀w∈l,1<=w)->(l.length:Int)<=l.sum
 | [],_=>by simp
 |
  x::l,h=>by
  rw[M3,F_]
  have:=h x (s_ ..)
  have:=dJ (l:=l) λw hw=>h w (q_ _ hw)
  omega
theorem u9:∀(ws:List Int) (a:Int),0<=a->(∀w∈ws,1<=w)->a+ws.sum<=W->p∈shL s l W a ws->∃a' w:Int,0<=a'/\a'<=W/\1<=w/\w<=W/\p=(s+l*((a':Rat)/(W:Rat)),l*((w:Rat)/(W:Rat)))
 | [],_,_,_,_,h=>nomatch h
 |
  w::ws,a,ha,hw,hs,h=>by
  have h1:=hw w (s_ ..);have h2:=dJ (l:=ws) λx hx=>hw x (q_ _ hx);rw[M3] at hs;unfold shL at h;rcases G_.mp h with rfl |h
  .exact⟨a,w,ha,by omega,h1,by omega,rfl⟩
  .exact u9 ws (a+w) (by omega) (λx hx=>hw x (q_ _ hx)) (by omega) h
noncomputable def liV (l:List Int):Val:=.lst (l.map .int)
noncomputable def wsAt (ws:List Int) (i:Int):Int:=ws.getD i.toNat 0
noncomputable def wt (ws l:List Int):Int:=(l.map (wsAt ws)).sum
noncomputable def mx (x y:Rat):Rat:=if x<y then y else x
open PySem PySem.Spec PyProof.Rows L2
inductive AT where
 |lf (k:Nat)
 |nd (w:Bool) (ts:List AT)
noncomputable def wy (w:Bool):Str:=if w=true then "across" else "down"
def AT.ind{P:AT->Prop}(h1:∀k,P (.lf k))(h2:∀w ts,(∀t∈ts,P t)->P (.nd w ts))(t:AT):P t:=
 @AT.rec P (λts=>∀t∈ts,P t) h1 (λw ts ih=>h2 w ts ih) (λt h=>nomatch h) (λt ts i1 i2 u hu=>by
  rcases G_.mp hu with rfl |hu
  .exact i1
  .exact i2 u hu) t
mutual
def AT.val(f:Nat->Val):AT->Val
 |.lf k=>f k
 |.nd w ts=>.tup [.str (wy w),.tup (AT.vals f ts)]
def AT.vals(f:Nat->Val):List AT->List Val
 | []=>[]
 |t::ts=>AT.val f t::AT.vals f ts
end
mutual
def AT.lvs:AT->List Nat
 |.lf k=>[k]
 |.nd _ ts=>AT.lvsL ts
def AT.lvsL:List AT->List Nat
 | []=>[]
 |t::ts=>AT.lvs t++AT.lvsL ts
end
mutual
def AT.dep:AT->Nat
 |.lf _=>1
 |.nd _ ts=>AT.depL ts+1
def AT.depL:List AT->Nat
 | []=>0
 |t::ts=>max (AT.dep t) (AT.depL ts)
end
mutual
def AT.ok:AT->Bool
 |.lf _=>true
 |.nd _ ts=>decide (2<=ts.length)&&AT.okL ts
def AT.okL:List AT->Bool
 | []=>true
 |t::ts=>AT.ok t&&AT.okL ts
end
theorem AT.vals_map(f:Nat->Val):∀ts,AT.vals f ts=ts.map (AT.val f)
 | []=>rfl
 |t::ts=>by rw[AT.vals,AT.vals_map f ts];rfl
theorem AT.lvsL_mem:∀{ts:List AT},x∈AT.lvsL ts ↔ ∃t∈ts,x∈t.lvs
 | []=>by simp [AT.lvsL]
 |t::ts=>by rw[AT.lvsL,Ol,AT.lvsL_mem (ts:=ts)];simp
theorem AT.lvsL_flat:∀ts:List AT,AT.lvsL ts=(ts.map AT.lvs).flatten
 | []=>rfl
 |t::ts=>by rw[AT.lvsL,AT.lvsL_flat ts];rfl
theorem AT.depL_le:∀{ts:List AT},AT.depL ts<=m ↔ ∀t∈ts,t.dep<=m
 | []=>by simp [AT.depL]
 |t::ts=>by rw[AT.depL,Nat.max_le,AT.depL_le (ts:=ts)];simp
theorem AT.okL_mem:∀{ts:List AT},AT.okL ts=true ↔ ∀t∈ts,t.ok=true
 | []=>by simp [AT.okL]
 |t::ts=>by rw[AT.okL,t_,AT.okL_mem (ts:=ts)];simp
noncomputable def wd (w b:Bool):Str:=if w=true then (if b=true then "left" else "right") else (if b=true then "above" else "below")
def uX{t:AT}(h:t.ok=true):1<=t.lvs.length:=by
 induction t using AT.ind with
 |h1 k=>simp [AT.lvs]
 |
  h2 w ts ih=>
  rw[AT.ok,t_] at h;cases ts with
  |nil=>exact absurd h.1 (by decide)
  |
   cons t ts=>
   have:=ih t (s_ ..) (AT.okL_mem.mp h.2 t (s_ ..))
   rw[AT.lvs,AT.lvsL,L_];omega
theorem tj{α β:Type}{f:α->List β}:∀{l:List α},(∀a∈l,1<=(f a).length)->l.length<=((l.map f).flatten).length
 | [],_=>u_ _
 |
  a::l,h=>by
  have h1:=h a (s_ ..);have h2:=tj (l:=l) λb hb=>h b (q_ _ hb);rw[z_,List.flatten_cons,L_,F_];omega
noncomputable def lfV:Val->Bool
 |.int _=>true
 |.str _=>true
 |_=>false
theorem vd:∀{vs:List Val},(∀v∈vs,wfV k v=true)->bM k vs=true
 | [],_=>rfl
 |
  v::vs,h=>by
  show (wfV k v&&bM k vs)=true;rw[h v (s_ ..),vd λu hu=>h u (q_ _ hu)];rfl
def xm(v:Val)(l:List Val):atI (v::l) 0=some v:=dY (by decide) rfl
noncomputable def inB (x:Nat) (t:AT):Bool:=decide (x∈t.lvs)
noncomputable def itV (l:List Nat):Val:=.lst (l.map λk:Nat=>.int k)
structure TOk(t:AT)(l:List Nat):Prop where
 ok:t.ok=true
 mem:∀k,k∈t.lvs ↔ k∈l
 dep:t.dep<=l.length
 len:t.lvs.length=l.length
noncomputable def atV (t:AT):Val:=t.val λk=>.int (k:Nat)
mutual
def AT.cnt:AT->Nat
 |.lf _=>1
 |.nd _ ts=>AT.cntL ts+1
def AT.cntL:List AT->Nat
 | []=>0
 |t::ts=>AT.cnt t+AT.cntL ts
end
theorem AT.cntL_app:∀(a b:List AT),AT.cntL (a++b)=AT.cntL a+AT.cntL b
 | [],b=>by simp [AT.cntL]
 |t::a,b=>by rw[OZ,AT.cntL,AT.cntL,AT.cntL_app a b];omega
theorem AT.lvsL_app:∀(a b:List AT),AT.lvsL (a++b)=AT.lvsL a++AT.lvsL b
 | [],b=>by simp [AT.lvsL]
 |t::a,b=>by rw[OZ,AT.lvsL,AT.lvsL,AT.lvsL_app a b,List.append_assoc]
def mK(xs:List Val)(x:Val):qN.G (.lst (xs++[x])) []=some (.lst xs,x):=by show sj (.lst (xs++[x])) []=_;unfold sj;dsimp only;rw[L_,O3,Nat.add_sub_cancel,N8 (u_ _),Nat.sub_self,List.dropLast_concat];rfl
theorem AT.cnt_le:∀{ts:List AT}{t:AT},t∈ts->t.cnt<=AT.cntL ts
 | [],t,h=>nomatch h
 |
  u::ts,t,h=>by
  rw[AT.cntL];rcases G_.mp h with rfl |h
  .omega
  .have:=AT.cnt_le h;omega
def AT.lvs_le(h:t∈ts):t.lvs.length<=(AT.lvsL ts).length:=by rw[AT.lvsL_flat];exact List.Sublist.length_le (List.sublist_flatten_of_mem (List.mem_map_of_mem (f:=AT.lvs) h))
noncomputable def wtA (ws:List Int) (l:List Nat):Int:=(l.map λk=>ws.getD k 0).sum
noncomputable def wtT (ws:List Int) (t:AT):Int:=wtA ws t.lvs
mutual
def AT.bx(ws:List Int):AT->Bx->List (Nat×Bx)
 |.lf k,b=>[(k,b)]
 |.nd w ts,b=>AT.bxL ws ts (aA b (wy w) (ts.map (wtT ws)))
def AT.bxL(ws:List Int):List AT->List Bx->List (Nat×Bx)
 |t::ts,b::bs=>AT.bx ws t b++AT.bxL ws ts bs
 |_,_=>[]
end
mutual
def AT.lay(ws:List Int)(n m:Nat):AT->Bx->Prop
 |.lf _,b=>b.Ok/\b.Sz n
 |.nd w ts,b=>b.Ok/\b.Sz n/\ts≠[]/\ts.length<=40/\(∀t∈ts,1<=wtT ws t)/\Sm m (ts.map (wtT ws)).sum/\AT.layL ws n m ts (aA b (wy w) (ts.map (wtT ws)))
def AT.layL(ws:List Int)(n m:Nat):List AT->List Bx->Prop
 |t::ts,b::bs=>AT.lay ws n m t b/\AT.layL ws n m ts bs
 |_,_=>True
end
noncomputable def da (kvs:List (Key×Val)) (l:List (Nat×Bx)):List (Key×Val):=l.foldl (λkvs p=>ff kvs (.inl (p.1:Nat)) (bV p.2)) kvs
def BZ(kvs:List (Key×Val))(a b:List (Nat×Bx)):da kvs (a++b)=da (da kvs a) b:=by unfold da;rw[List.foldl_append]
def AX(h:a.Perm b):wtA ws a=wtA ws b:=by
 unfold wtA;induction h with
 |nil=>rfl
 |cons x _ ih=>rw[z_,z_,M3,M3,ih]
 |swap x y l=>simp only[z_,M3];omega
 |trans _ _ h1 h2=>rw[h1,h2]
theorem tK(ws:List Int):∀ts:List AT,wtA ws (AT.lvsL ts)=(ts.map (wtT ws)).sum
 | []=>rfl
 |
  t::ts=>by
  rw[AT.lvsL,z_,M3,<- tK ws ts];unfold wtT wtA;rw[Nr,OI]
def Ba(kvs:List (Key×Val))(k:Key)(v:Val):(ff kvs k v).length<=kvs.length+1:=by
 unfold ff;split
 .rw[p_];omega
 .rw[L_];exact u_ _
theorem qX:∀(l:List (Nat×Bx)) (kvs:List (Key×Val)),(da kvs l).length<=kvs.length+l.length
 | [],kvs=>u_ _
 |
  p::l,kvs=>by
  have h1:=Ba kvs (.inl (p.1:Nat)) (bV p.2);have h2:=qX l (ff kvs (.inl (p.1:Nat)) (bV p.2));unfold da at h2 ⊢;rw[O7,F_];omega
def AT.bx_fst(ws:List Int)(t:AT):∀b,(AT.bx ws t b).length<=t.lvs.length/\∀p∈AT.bx ws t b,p.1∈t.lvs:=by
 induction t using AT.ind with
 |h1 k=>intro b;simp [AT.bx,AT.lvs]
 |
  h2 w ts ih=>
  intro b;rw[AT.bx,AT.lvs];generalize aA b (wy w) (ts.map (wtT ws))=bs;induction ts generalizing bs with
  |nil=>simp [AT.bxL]
  |
   cons t ts ih2=>
   cases bs with
   |nil=>simp [AT.bxL]
   |
    cons b bs=>
    obtain⟨h1,h2⟩:=ih t (s_ ..) b;obtain⟨h3,h4⟩:=ih2 (λu hu=>ih u (q_ _ hu)) bs;rw[AT.bxL,AT.lvsL,L_,L_];refine⟨by omega,λp hp=>?_⟩;rcases Ol.mp hp with hp |hp
    .exact Ox _ (h2 p hp)
    .exact MW _ (h4 p hp)
def yx(kvs:List (Key×Val))(k k':Key)(v:Val):lkD (ff kvs k v) k'=if k=k' then some v else lkD kvs k':=by
 unfold ff;induction kvs with
 |
  nil=>
  rw[if_neg (by simp)];unfold lkD;by_cases h:k=k'
  .simp [h]
  .simp [h]
 |
  cons p kvs ih=>
  obtain⟨pk,pv⟩:=p;by_cases hp:pk=k
  .subst
    hp
   rw[if_pos (by simp)];by_cases h:pk=k'
   .subst h;simp [lkD]
   .rw[if_neg h];rw[if_neg h] at ih;simp only[z_,Od];unfold lkD;simp only[Nf,D_ h];by_cases ha:(kvs.any λkv=>decide (kv.1=pk))=true
    .rw[if_pos ha] at ih;unfold lkD at ih;exact ih
    .have:(kvs.map λkv=>if kv.1=pk then (kv.1,v) else kv)=kvs:=by
      conv=>rhs;rw[<- List.map_id kvs]
      refine List.map_congr_left λq hq=>?_;rw[if_neg]
      .rfl
      .intro z;exact ha (List.any_eq_true.mpr ⟨q,hq,H_ z⟩)
     rw[this]
  .by_cases ha:(kvs.any λkv=>decide (kv.1=k))=true
   .rw[if_pos ha] at ih;rw[if_pos (by rw[Nw,ha,Bool.or_true])];simp only[z_,if_neg hp];by_cases h:pk=k'
    .subst h;rw[if_neg (λz=>hp z.symm)];simp [lkD]
    .unfold lkD at ih ⊢;simp only[Nf,D_ h];exact ih
   .rw[if_neg ha] at ih;rw[if_neg (by rw[Nw,D_ hp,Bool.false_or];exact ha)];rw[OZ];by_cases h:pk=k'
    .subst h;rw[if_neg (λz=>hp z.symm)];simp [lkD]
    .unfold lkD at ih ⊢;simp only[Nf,D_ h];exact ih
noncomputable def bxO (l:List (Nat×Bx)) (k:Nat):Bx:=((l.find? λp=>p.1==k).map (·.2)).getD ⟨0,0,0,0⟩
theorem vc:∀(l:List (Nat×Bx)) (kvs:List (Key×Val)),(l.map (·.1)).Nodup->(k∈l.map (·.1)->lkD (da kvs l) (.inl (k:Nat))=some (bV (bxO l k)))/\(k∉l.map (·.1)->lkD (da kvs l) (.inl (k:Nat))=lkD kvs (.inl (k:Nat)))
 | [],kvs,_=>⟨(λh=>nomatch h),λ_=>rfl⟩
 |
  p::l,kvs,nd=>by
  rw[z_,Om] at nd;obtain⟨h1,h2⟩:=vc (k:=k) l (ff kvs (.inl (p.1:Nat)) (bV p.2)) nd.2;have e:da kvs (p::l)=da (ff kvs (.inl (p.1:Nat)) (bV p.2)) l:=rfl;rw[e];by_cases hp:p.1=k
  .have hk:k∉l.map (·.1):=hp ▸ nd.1;rw[h2 hk,yx,if_pos (by rw[hp])];refine⟨λ_=>?_,λz=>absurd (by rw[z_,hp];exact s_ ..) z⟩;unfold bxO;rw[Nf];simp [hp]
  .have hk:k∈(p::l).map (·.1) ↔ k∈l.map (·.1):=by rw[z_,G_];exact⟨λz=>z.resolve_left (λy=>hp y.symm),.inr⟩
   have hb:bxO (p::l) k=bxO l k:=by unfold bxO;rw[List.find?_cons_of_neg (by simpa using hp)]
   rw[hk,hb];refine⟨h1,λz=>?_⟩;rw[h2 z,yx,if_neg];intro y;injection y with y;exact hp (Int.ofNat.inj y)
def kD(b:Bx)(way:Str)(ws:List Int):(aA b way ws).length=ws.length:=by unfold aA;split <;> rw[p_,jg]
def AT.bx_keys(ws:List Int)(t:AT):∀b,(AT.bx ws t b).map (·.1)=t.lvs:=by
 induction t using AT.ind with
 |h1 k=>intro b;rw[AT.bx,AT.lvs];rfl
 |
  h2 w ts ih=>
  intro b;rw[AT.bx,AT.lvs];have hl:(aA b (wy w) (ts.map (wtT ws))).length=ts.length:=by rw[kD,p_]
  generalize aA b (wy w) (ts.map (wtT ws))=bs at *;induction ts generalizing bs with
  |nil=>cases bs <;> rfl
  |
   cons t ts ih2=>
   cases bs with
   |nil=>exact nomatch hl
   |cons b bs=>rw[AT.bxL,AT.lvsL,Nr,ih t (s_ ..) b,ih2 (λu hu=>ih u (q_ _ hu)) bs (by simpa using hl)]
def AT.cnt_lvs(t:AT)(h:t.ok=true):t.cnt+1<=2*t.lvs.length:=by
 induction t using AT.ind with
 |h1 k=>simp [AT.cnt,AT.lvs]
 |
  h2 w ts ih=>
  rw[AT.ok,t_] at h;have hk:=AT.okL_mem.mp h.2;have h2:2<=ts.length:=N9 h.1;rw[AT.cnt,AT.lvs];have:∀ts:List AT,(∀t∈ts,t.cnt+1<=2*t.lvs.length)->AT.cntL ts+ts.length<=2*(AT.lvsL ts).length:=by
   intro ts;induction ts with
   |nil=>intro _;simp [AT.cntL,AT.lvsL]
   |cons t ts ih=>intro h;have h1:=h t (s_ ..);have h2:=ih λu hu=>h u (q_ _ hu);rw[AT.cntL,AT.lvsL,L_,F_];omega
  have:=this ts λt ht=>ih t ht (hk t ht)
  omega
structure Rp(D A B:Nat)(b:Bx):Prop where
 pos:0<D
 l:∃z:Int,b.l=(z:Rat)/((D:Int):Rat)/\z.natAbs<=A*D
 t:∃z:Int,b.t=(z:Rat)/((D:Int):Rat)/\z.natAbs<=A*D
 w:∃z:Int,b.w=(z:Rat)/((D:Int):Rat)/\0<z/\z<=B*D
 h:∃z:Int,b.h=(z:Rat)/((D:Int):Rat)/\0<z/\z<=B*D
def Ki(x y a D W:Rat)(h1:D≠0)(h2:W≠0):x/D+(y/D)*(a/W)=(x*W+y*a)/(D*W):=by grind
def J7(y a D W:Rat)(h1:D≠0)(h2:W≠0):(y/D)*(a/W)=(y*a)/(D*W):=by grind
def KY(y D W:Rat)(h1:D≠0)(h2:W≠0):y/D=(y*W)/(D*W):=by grind
def kP{z:Int}(h:z≠0):(z:Rat)≠0:=λe=>h (Rat.intCast_inj.mp e)
def C6{x y a W:Int}{D A B:Nat}(hD:0<D)(hx:x.natAbs<=A*D)(hy:0<y/\y<=B*D)(ha:0<=a/\a<=W)(hW:0<W):∃z:Int,(x:Rat)/((D:Int):Rat)+((y:Rat)/((D:Int):Rat))*((a:Rat)/(W:Rat))=(z:Rat)/(((D*W.toNat:Nat):Int):Rat)/\z.natAbs<=(A+B)*(D*W.toNat):=by
 obtain⟨V,rfl⟩:∃V:Nat,W=V:=⟨W.toNat,by omega⟩;refine⟨x*V+y*a,?_,?_⟩
 .rw[Ki _ _ _ _ _ (kP (by omega)) (kP (by omega))];congr 1
  .rw[Rat.intCast_add,Ng,Ng]
  .rw[Nb,N2,Ng]
 .rw[Nb];have h1:(x*(V:Int)).natAbs<=A*D*V:=by rw[Nm];exact M7 hx (u_ _)
  have h2:(y*a).natAbs<=B*D*V:=by
   rw[Nm];refine M7 ?_ (by omega)
   have:=hy.2
   omega
  have h3:=Int.natAbs_add_le (x*V) (y*a);rw[Nat.add_mul,<- OX,<- OX];omega
def Dl{y a W:Int}{D B:Nat}(hD:0<D)(hy:0<y/\y<=B*D)(ha:1<=a/\a<=W):∃z:Int,((y:Rat)/((D:Int):Rat))*((a:Rat)/(W:Rat))=(z:Rat)/(((D*W.toNat:Nat):Int):Rat)/\0<z/\z<=((B:Nat):Int)*((D*W.toNat:Nat):Int):=by
 obtain⟨V,rfl⟩:∃V:Nat,W=V:=⟨W.toNat,by omega⟩;refine⟨y*a,?_,Int.mul_pos hy.1 (by omega),?_⟩
 .rw[J7 _ _ _ _ (kP (by omega)) (kP (by omega))];congr 1
  .rw[Ng]
  .rw[Nb,N2,Ng]
 .rw[Nb,N2,<- Nv];exact Int.mul_le_mul hy.2 ha.2 (by omega) (Int.le_trans (Int.le_of_lt hy.1) hy.2)
def mV{y W:Int}{D:Nat}(hD:0<D)(hW:0<W):(y:Rat)/((D:Int):Rat)=((y*W:Int):Rat)/(((D*W.toNat:Nat):Int):Rat):=by obtain⟨V,rfl⟩:∃V:Nat,W=V:=⟨W.toNat,by omega⟩;rw[KY _ _ _ (kP (show ((D:Nat):Int)≠0 by omega)) (kP (show ((V:Nat):Int)≠0 by omega)),Ng,Nb,N2,Ng]
def yh{z W:Int}{D A B:Nat}(hz:z.natAbs<=A*D)(hW:0<W):(z*W).natAbs<=(A+B)*(D*W.toNat):=by rw[Nm,<- OX];refine M7 ?_ (by omega);rw[Nat.add_mul];omega
def zk{z W:Int}{D B:Nat}(hz:0<z/\z<=B*D)(hW:0<W):0<z*W/\z*W<=((B:Nat):Int)*((D*W.toNat:Nat):Int):=by refine⟨Int.mul_pos hz.1 hW,?_⟩;rw[N2,<- Nv,Int.toNat_of_nonneg (by omega)];exact Int.mul_le_mul_of_nonneg_right hz.2 (by omega)
def Rp.parts{D A B:Nat}{b b':Bx}{way:Str}{ws:List Int}(r:Rp D A B b)(hw:∀w∈ws,1<=w)(h:b'∈aA b way ws):Rp (D*ws.sum.toNat) (A+B) B b':=by
 obtain⟨pos,⟨zl,el,bl⟩,⟨zt,et,bt⟩,⟨zw,ew,bw⟩,⟨zh,eh,bh⟩⟩:=r;have key:∀p:Rat×Rat,∀s l:Rat,p∈shL s l ws.sum 0 ws->0<ws.sum/\∃a' w:Int,0<=a'/\a'<=ws.sum/\1<=w/\w<=ws.sum/\p=(s+l*((a':Rat)/(ws.sum:Rat)),l*((w:Rat)/(ws.sum:Rat))):=λp s l hp=>by obtain⟨a',w,h1,h2,h3,h4,h5⟩:=u9 ws 0 (by omega) hw (by omega) hp;exact⟨by omega,a',w,h1,h2,h3,h4,h5⟩
 unfold aA at h;split at h
 .obtain⟨p,hp,rfl⟩:=MR.mp h;obtain⟨hS,a',w,h1,h2,h3,h4,rfl⟩:=key p _ _ hp;have hV:0<D*ws.sum.toNat:=NL pos (by omega);refine⟨hV,?_,⟨zt*ws.sum,by show b.t=_;rw[et];exact mV pos hS,yh bt hS⟩,?_,⟨zh*ws.sum,by show b.h=_;rw[eh];exact mV pos hS,zk bh hS⟩⟩
  .show ∃z:Int,b.l+b.w*_=_/\_;rw[el,ew];exact C6 pos bl bw ⟨h1,h2⟩ hS
  .show ∃z:Int,b.w*_=_/\_;rw[ew];exact Dl pos bw ⟨h3,h4⟩
 .obtain⟨p,hp,rfl⟩:=MR.mp h;obtain⟨hS,a',w,h1,h2,h3,h4,rfl⟩:=key p _ _ hp;have hV:0<D*ws.sum.toNat:=NL pos (by omega);refine⟨hV,⟨zl*ws.sum,by show b.l=_;rw[el];exact mV pos hS,yh bl hS⟩,?_,⟨zw*ws.sum,by show b.w=_;rw[ew];exact mV pos hS,zk bw hS⟩,?_⟩
  .show ∃z:Int,b.t+b.h*_=_/\_;rw[et,eh];exact C6 pos bt bh ⟨h1,h2⟩ hS
  .show ∃z:Int,b.h*_=_/\_;rw[eh];exact Dl pos bh ⟨h3,h4⟩
def Rp.ok{D A B:Nat}{b:Bx}(r:Rp D A B b):b.Ok:=by obtain⟨pos,_,_,⟨zw,ew,bw⟩,⟨zh,eh,bh⟩⟩:=r;exact⟨by rw[ew];exact ie bw.1 (by omega),by rw[eh];exact ie bh.1 (by omega)⟩
def Rp.sz{D A B n:Nat}{b:Bx}(r:Rp D A B b)(hA:A*D<2^n)(hB:B*D<2^n)(hD:D<2^n):b.Sz n:=by
 obtain⟨pos,⟨zl,el,bl⟩,⟨zt,et,bt⟩,⟨zw,ew,bw⟩,⟨zh,eh,bh⟩⟩:=r;have sD:Sm n ((D:Nat):Int):=by show ((D:Nat):Int).natAbs<2^n;omega
 have k:∀z:Int,z.natAbs<2^n->Sz n ((z:Rat)/((D:Int):Rat)):=λz hz=>Sz.div (by omega) hz sD n (u_ _) (u_ _);have hb:∀z:Int,0<z/\z<=B*D->z.natAbs<2^n:=λz hz=>by
  have h1:z<=((B*D:Nat):Int):=by rw[N2];exact hz.2
  omega
 exact⟨by rw[el];exact k zl (by omega),by rw[et];exact k zt (by omega),by rw[ew];exact k zw (hb zw bw),by rw[eh];exact k zh (hb zh bh)⟩
theorem oQ{ws:List Int}:∀{l:List Nat},(∀k∈l,1<=ws.getD k 0)->(l.length:Int)<=wtA ws l
 | [],_=>by simp [wtA]
 |
  k::l,h=>by
  have h1:=h k (s_ ..);have h2:=oQ (l:=l) λj hj=>h j (q_ _ hj);unfold wtA at h2 ⊢;rw[z_,M3,F_];omega
theorem vf{ws:List Int}{n m:Nat}:∀{ts:List AT}{bs:List Bx},(∀t∈ts,∀b∈bs,AT.lay ws n m t b)->AT.layL ws n m ts bs
 | [],_,_=>by rw[AT.layL];trivial;intro t ts b bs z;cases z
 |t::ts,[],_=>by rw[AT.layL];trivial;intro t ts b bs _ z;cases z
 |
  t::ts,b::bs,h=>by
  rw[AT.layL];exact⟨h t (s_ ..) b (s_ ..),vf λu hu c hc=>h u (q_ _ hu) c (q_ _ hc)⟩
def Rp.fine{n m B D A d:Nat}{b:Bx}(r:Rp D A B b)(hBA:B<=A)(hA:1<=A)(hq:(A+d*B)*(D*2^(m*d))<2^n):b.Ok/\b.Sz n:=by have hD1:1<=2^(m*d):=Nat.one_le_two_pow;have z1:A*D<=(A+d*B)*(D*2^(m*d)):=M7 (by omega) (Nat.le_mul_of_pos_right _ hD1);have z2:D<=A*D:=Nat.le_mul_of_pos_left _ hA;have z3:B*D<=A*D:=NO _ hBA;exact⟨r.ok,r.sz (by omega) (by omega) (by omega)⟩
def Iz{ws:List Int}{n m B:Nat}(t:AT):∀(b:Bx) (D A:Nat),Rp D A B b->B<=A->1<=A->(A+t.dep*B)*(D*2^(m*t.dep))<2^n->t.ok=true->(∀k∈t.lvs,1<=ws.getD k 0)->wtT ws t<2^m->t.lvs.length<=40->AT.lay ws n m t b:=by
 induction t using AT.ind with
 |h1 k=>intro b D A r hBA hA hn _ _ _ _;rw[AT.lay];exact r.fine hBA hA hn
 |
  h2 w ts ih=>
  intro b D A r hBA hA hn ho hw hm hl;have ho':=ho;rw[AT.ok,t_] at ho';have h2:2<=ts.length:=N9 ho'.1;have hk:=AT.okL_mem.mp ho'.2;rw[AT.lvs] at hw hl;have hws:∀t∈ts,∀k∈t.lvs,1<=ws.getD k 0:=λt ht k hk'=>hw k (AT.lvsL_mem.mpr ⟨t,ht,hk'⟩);have hone:∀t∈ts,1<=wtT ws t:=λt ht=>by have h1:=uX (hk t ht);have h2:=oQ (hws t ht);unfold wtT;omega
  have hsum:wtT ws (.nd w ts)=(ts.map (wtT ws)).sum:=by unfold wtT;rw[AT.lvs];exact tK ws ts
  rw[hsum] at hm;have hpos:0<=(ts.map (wtT ws)).sum:=by
   rw[<- tK]
   have:=oQ hw
   omega
  rw[AT.dep] at hn;generalize hq:AT.depL ts=q at *;have fn:=r.fine hBA hA hn;have tl:ts.length<=40:=by rw[AT.lvsL_flat] at hl;have:ts.length<=((ts.map AT.lvs).flatten).length:=tj λt ht=>uX (hk t ht);omega
  rw[AT.lay];refine⟨fn.1,fn.2,λz=>by rw[z] at h2;simp at h2,tl,hone,by
   show (ts.map (wtT ws)).sum.natAbs<2^m;have:(((ts.map (wtT ws)).sum.natAbs:Nat):Int)<((2^m:Nat):Int):=by
    rw[Int.natAbs_of_nonneg hpos]
    push_cast
    exact hm
   omega,vf λt ht c hc=>?_⟩
  have rp:=r.parts (λx hx=>by obtain⟨u,hu,rfl⟩:=MR.mp hx;exact hone u hu) hc;have hdt:t.dep<=q:=by rw[<- hq];exact AT.depL_le.mp (u_ _) t ht
  have hS:(ts.map (wtT ws)).sum.toNat<=2^m:=by
   have:(((ts.map (wtT ws)).sum.toNat:Nat):Int)<((2^m:Nat):Int):=by
    rw[Int.toNat_of_nonneg hpos]
    push_cast
    exact hm
   omega
  refine ih t ht c _ (A+B) rp (by omega) (by omega) ?_ (hk t ht) (hws t ht) ?_ (by have:=AT.lvs_le ht;omega)
  .refine NG (M7 ?_ ?_) hn
   .have:t.dep*B<=q*B:=NO _ hdt;rw[Nat.add_mul,Nat.one_mul];omega
   .rw[OX];refine NA _ ?_;have e:2^(m*(q+1))=2^m*2^(m*q):=by rw[<- NW];congr 1;rw[Nat.mul_add,Nat.mul_one,Nat.add_comm]
    rw[e];exact M7 hS (Nj (by decide) (NA _ hdt))
  .refine Int.lt_of_le_of_lt ?_ hm;have aux:∀us:List AT,(∀u∈us,0<=wtT ws u)->t∈us->wtT ws t<=(us.map (wtT ws)).sum:=by
    intro us;induction us with
    |nil=>intro _ h;exact nomatch h
    |
     cons u us ih=>
     intro h0 hm;have nn:∀us:List AT,(∀u∈us,0<=wtT ws u)->0<=(us.map (wtT ws)).sum:=by
      intro us;induction us with
      |nil=>intro _;simp
      |cons v us ih=>intro h;rw[z_,M3];have:=h v (s_ ..);have:=ih λu hu=>h u (q_ _ hu);omega
     rw[z_,M3];rcases G_.mp hm with rfl |hm
     .have:=nn us λu hu=>h0 u (q_ _ hu)
      omega
     .have h1:=ih (λu hu=>h0 u (q_ _ hu)) hm;have h2:=h0 u (s_ ..);omega
   exact aux ts (λu hu=>by have:=hone u hu;omega) ht
noncomputable def bX (b:Bx) (w:Bool) (W a x:Int):Bx:=if w=true then ⟨b.l+b.w*((a:Rat)/(W:Rat)),b.t,b.w*((x:Rat)/(W:Rat)),b.h⟩ else ⟨b.l,b.t+b.h*((a:Rat)/(W:Rat)),b.w,b.h*((x:Rat)/(W:Rat))⟩
noncomputable def frm (b:Bx) (w:Bool) (W:Int):Int->List Int->List Bx
 |_,[]=>[]
 |a,x::xs=>bX b w W a x::frm b w W (a+x) xs
theorem vk(b:Bx)(w:Bool)(W:Int):∀(xs:List Int) (a:Int),(frm b w W a xs).length=xs.length
 | [],_=>rfl
 |x::xs,a=>by rw[frm,F_,F_,vk b w W xs]
def j8(b:Bx)(w:Bool)(xs:List Int):aA b (wy w) xs=frm b w xs.sum 0 xs:=by
 have key:∀(W:Int) (xs:List Int) (a:Int),(if wy w="across" then (shL b.l b.w W a xs).map λp=>(⟨p.1,b.t,p.2,b.h⟩:Bx) else (shL b.t b.h W a xs).map λp=>⟨b.l,p.1,b.w,p.2⟩)=frm b w W a xs:=by
  intro W xs;induction xs with
  |nil=>intro a;unfold shL frm;split <;> rfl
  |
   cons x xs ih=>
   intro a;rw[frm,<- ih,shL,shL];unfold bX;cases w with
   |true=>rw[if_pos (show wy true="across" from rfl),if_pos (show wy true="across" from rfl),if_pos rfl];rfl
   |
    false=>
    have hn:¬ (wy false="across"):=by decide
    rw[if_neg hn,if_neg hn,if_neg (by decide)];rfl
 exact key xs.sum xs 0
def x9(ws:List Int):((aQ ws).map λk=>ws.getD k 0).Pairwise (· >= ·):=by rw[List.pairwise_map];refine List.Pairwise.imp (λ{i j} h=>?_) (de ws).up;unfold bB kyF at h;rw[NH] at h;show ws.getD j 0<=ws.getD i 0;have h:-(ws.getD i 0) < -(ws.getD j 0)\/(-(ws.getD i 0)=-(ws.getD j 0)/\((i:Nat):Int)<(j:Nat)):=h;omega
noncomputable def thN (xs:List Int):Nat->Nat->Nat
 |0,k=>k
 |f+1,k=>if 3*(xs.take k).sum<xs.sum then thN xs f (k+1) else k
noncomputable def jF (xs:List Int):Nat:=thN xs (xs.length-1) 1
theorem yU(xs:List Int):∀f k,k<=thN xs f k
 |0,k=>u_ _
 |
  f+1,k=>by
  rw[thN];split
  .have:=yU xs f (k+1);omega
  .exact u_ _
theorem Ag(xs:List Int){m:Nat}(hm:¬ 3*(xs.take m).sum<xs.sum):∀f k,k<=m->thN xs f k<=m
 |0,k,h=>h
 |
  f+1,k,h=>by
  rw[thN];split
  .rename_i z;refine Ag xs hm f (k+1) ?_;by_cases e:k=m
   .rw[e] at z;exact absurd z hm
   .omega
  .exact h
def AS{xs:List Int}(h2:2<=xs.length)(hp:∀x∈xs,1<=x)(hd:xs.Pairwise (· >= ·)):1<=jF xs/\jF xs<xs.length:=by
 have key:¬ 3*(xs.take (xs.length-1)).sum<xs.sum:=by
  have e:xs.sum=(xs.take (xs.length-1)).sum+(xs.drop (xs.length-1)).sum:=by rw[<- OI,NF]
  have d1:xs.drop (xs.length-1)=[xs[xs.length-1]]:=by rw[OE (by omega),List.drop_eq_nil_of_le (by omega)]
  obtain⟨y,ys,ey⟩:∃y ys,xs.take (xs.length-1)=y::ys:=by
   cases z:xs.take (xs.length-1) with
   |
    nil=>
    have:=MK List.length z
    rw[Nd,M0] at this;omega
   |cons y ys=>exact⟨y,ys,rfl⟩
  have hy:y=xs[0]:=by
   have z:(xs.take (xs.length-1))[0]?=some y:=by rw[ey];rfl
   rw[List.getElem?_take_of_lt (by omega),C_ (by omega)] at z;exact (J_ z).symm
  have hge:xs[0] >= xs[xs.length-1]:=NJ.mp hd 0 (xs.length-1) (by omega) (by omega) (by omega);have hz:=hp xs[xs.length-1] (NU _);have hs:0<=ys.sum:=by
   have:=dJ (l:=ys) λx hx=>hp x (NN (i:=xs.length-1) (by rw[ey];exact q_ _ hx))
   omega
  rw[e,d1,ey,M3,M3,List.sum_nil];generalize xs[0]=x0 at *;generalize xs[xs.length-1]=xl at *;omega
 refine⟨yU xs _ 1,?_⟩
 have:=Ag xs key (xs.length-1) 1 (by omega)
 unfold jF;omega
end L3
namespace KK
open PySem PySem.Spec PyProof.Rows L2 L3
def top(i:Nat):Stmt:=PySem.Challenge.pw_weightrooms_k21_rules_told_and_refused.main.body.getD i (.Pass ⟨0,0,0,0⟩)
noncomputable def aB:jR:=[((.b "NoneType"),(.o "NoBox"),false),((.o "NoFraction"),(.o "NoBox"),false),((.o "NoBox"),(.o "NoBox"),true),((.o "NoWay"),(.o "NoBox"),false),((.o "NoWeights"),(.o "NoBox"),false),((.o "TooMany"),(.o "NoBox"),false),((.o "NoTree"),(.o "NoBox"),false),((.o "NoRule"),(.o "NoBox"),false),((.b "NoneType"),(.o "NoFraction"),false),((.o "NoFraction"),(.o "NoFraction"),true),((.o "NoBox"),(.o "NoFraction"),false),((.o "NoWay"),(.o "NoFraction"),false),((.o "NoWeights"),(.o "NoFraction"),false),((.o "TooMany"),(.o "NoFraction"),false),((.o "NoTree"),(.o "NoFraction"),false),((.o "NoRule"),(.o "NoFraction"),false),((.b "NoneType"),(.o "NoRule"),false),((.o "NoFraction"),(.o "NoRule"),false),((.o "NoBox"),(.o "NoRule"),false),((.o "NoWay"),(.o "NoRule"),false),((.o "NoWeights"),(.o "NoRule"),false),((.o "TooMany"),(.o "NoRule"),false),((.o "NoTree"),(.o "NoRule"),false),((.o "NoRule"),(.o "NoRule"),true),((.b "NoneType"),(.o "NoText"),false),((.o "NoFraction"),(.o "NoText"),false),((.o "NoBox"),(.o "NoText"),false),((.o "NoWay"),(.o "NoText"),false),((.o "NoWeights"),(.o "NoText"),false),((.o "TooMany"),(.o "NoText"),false),((.o "NoTree"),(.o "NoText"),false),((.o "NoRule"),(.o "NoText"),false),((.b "NoneType"),(.o "NoTree"),false),((.o "NoFraction"),(.o "NoTree"),false),((.o "NoBox"),(.o "NoTree"),false),((.o "NoWay"),(.o "NoTree"),false),((.o "NoWeights"),(.o "NoTree"),false),((.o "TooMany"),(.o "NoTree"),false),((.o "NoTree"),(.o "NoTree"),true),((.o "NoRule"),(.o "NoTree"),false),((.b "NoneType"),(.o "NoWay"),false),((.o "NoFraction"),(.o "NoWay"),false),((.o "NoBox"),(.o "NoWay"),false),((.o "NoWay"),(.o "NoWay"),true),((.o "NoWeights"),(.o "NoWay"),false),((.o "TooMany"),(.o "NoWay"),false),((.o "NoTree"),(.o "NoWay"),false),((.o "NoRule"),(.o "NoWay"),false),((.b "NoneType"),(.o "NoWeights"),false),((.o "NoFraction"),(.o "NoWeights"),false),((.o "NoBox"),(.o "NoWeights"),false),((.o "NoWay"),(.o "NoWeights"),false),((.o "NoWeights"),(.o "NoWeights"),true),((.o "TooMany"),(.o "NoWeights"),false),((.o "NoTree"),(.o "NoWeights"),false),((.o "NoRule"),(.o "NoWeights"),false),((.b "NoneType"),(.o "TooMany"),false),((.o "NoFraction"),(.o "TooMany"),false),((.o "NoBox"),(.o "TooMany"),false),((.o "NoWay"),(.o "TooMany"),false),((.o "NoWeights"),(.o "TooMany"),false),((.o "TooMany"),(.o "TooMany"),true),((.o "NoTree"),(.o "TooMany"),false),((.o "NoRule"),(.o "TooMany"),false),((.b "NoneType"),(.b "bool"),false),((.b "bool"),(.b "bool"),true),((.b "int"),(.b "bool"),false),((.b "str"),(.b "bool"),false),((.b "tuple"),(.b "bool"),false),((.b "list"),(.b "bool"),false),((.b "dict"),(.b "bool"),false),((.b "NoneType"),(.b "int"),false),((.b "bool"),(.b "int"),true),((.b "int"),(.b "int"),true),((.b "str"),(.b "int"),false),((.b "tuple"),(.b "int"),false),((.b "list"),(.b "int"),false),((.b "dict"),(.b "int"),false),((.b "NoneType"),(.b "list"),false),((.b "bool"),(.b "list"),false),((.b "int"),(.b "list"),false),((.b "str"),(.b "list"),false),((.b "tuple"),(.b "list"),false),((.b "list"),(.b "list"),true),((.b "dict"),(.b "list"),false),((.b "NoneType"),(.b "str"),false),((.b "bool"),(.b "str"),false),((.b "int"),(.b "str"),false),((.b "str"),(.b "str"),true),((.b "tuple"),(.b "str"),false),((.b "list"),(.b "str"),false),((.b "dict"),(.b "str"),false),((.b "NoneType"),(.b "tuple"),false),((.b "bool"),(.b "tuple"),false),((.b "int"),(.b "tuple"),false),((.b "str"),(.b "tuple"),false),((.b "tuple"),(.b "tuple"),true),((.b "list"),(.b "tuple"),false),((.b "dict"),(.b "tuple"),false)]
noncomputable def gq:List Str:=["NoFraction", "NoBox", "NoWay", "NoWeights", "TooMany", "NoTree", "NoRule"]
noncomputable def jk:Val:=(.int 40)
noncomputable def vv:Val:=(.tup [(.str "across"),(.str "down"),(.str "halves"),(.str "rows"),(.str "greatest"),(.str "thirds")])
noncomputable def Aa:Val:=(.tup [(.str "across"),(.str "down")])
abbrev tb:Tb:=⟨["RoomError", "NoFraction", "NoBox", "NoWay", "NoWeights", "TooMany", "NoTree", "NoRule", "NoText"],["NoFraction", "NoBox", "NoWay", "NoWeights", "TooMany", "NoTree", "NoRule"],[("RoomError",gq)],aB,[("MOST_WEIGHTS",jk),("RULES",vv),("WAYS",Aa)]⟩
abbrev TT(K:W.Frag)(mg:Pp):Prop:=TyL tb top [11,12,13,14,15,16,17,18,19,23,24,25,26,27,28,29,30,31,32,33,34,36,37,38,39,40,41,42,44,45,46,47,48,49,50,53,54,55,56,57,58,59,60,61,63,64,65,67,68,69,70,71,72,73,74,75,76] K mg
section
variable{P:Program}{w:World}{K:W.Frag}{mg:Pp}{base:Heap}
def iN:PEx:=m3 jk
def mR(e:E3):iN.G e=.ok (.val (.int 40)) e:=rfl
def eV:PEx:=m3 vv
def Az(e:E3):eV.G e=.ok (.val (.tup [(.str "across"),(.str "down"),(.str "halves"),(.str "rows"),(.str "greatest"),(.str "thirds")])) e:=rfl
def ou:PEx:=m3 Aa
def FJ(e:E3):ou.G e=.ok (.val (.tup [(.str "across"),(.str "down")])) e:=rfl
def dI(s:String):Lean.TSyntax `term:=⟨Lean.mkIdent (s.replace "%" "").toName⟩
def dA(f:String)(a:Lean.TSyntax `term):Lean.TSyntax `term:=Lean.Syntax.mkApp (dI f) #[a]
def dF:List (Lean.TSyntax `tactic)->Lean.MacroM (Lean.TSyntax `tactic)
 | []=>`(tactic|fail)
 |a::l=>do `(tactic|first | $a:tactic | $(<- dF l):tactic)
def dL(f:String->Lean.MacroM (Lean.TSyntax `tactic)):List String->Lean.MacroM (List (Lean.TSyntax `tactic))
 | []=>pure []
 |s::l=>do return (<- f s)::(<- dL f l)
set_option hygiene false in
def dQ(ap:String->Lean.TSyntax `term)(s:String):Lean.MacroM (Lean.TSyntax `tactic):=match (s.splitOn ";").map ap with
 | [d,c,a,b]=>`(tactic|((case d=>with_reducible exact $d);(case c=>exact $c);(case a=>exact $a);(case b=>exact $b)))
 |d::c::_=>`(tactic|((case d=>with_reducible exact $d);(case c=>exact $c)))
 |_=>`(tactic|fail)
set_option hygiene false in
def dR(ap:String->Lean.TSyntax `term)(g:String):Lean.MacroM (Lean.TSyntax `tactic):=match g.splitOn ":" with
 | [r]=>`(tactic|refine $(ap r))
 |r::l=>do `(tactic|(refine' $(ap r);$(<- dF (<- dL (dQ ap) l)):tactic))
 | []=>`(tactic|fail)
set_option hygiene false in
local macro_rules | `('d')=>do
 let h <- `(?_)
 let u <- `(_)
 let R:=dI "rfl"
 let qA <- `(?a)
 let qB <- `(?b)
 let qC <- `(?c)
 let qD <- `(?d)
 let qp <- `((λ_ _=>rfl))
 let ap:=λ(s:String)=>let w:=s.splitOn " ";Lean.Syntax.mkApp (dI (w.getD 0 "")) (((w.getD 1 "").toList.map λc=>([('1',dI "hr.u100"),('8',dI "hr.u180"),('A',qA),('B',qB),('C',qC),('D',qD),('K',dI "T.k"),('_',u),('b',dA "%boT" R),('f',dA "%boF" R),('g',dA "T.g" R),('k',dA "T.n" R),('m',dA "T.m" R),('n',dI "nd"),('o',dI "%own1"),('p',qp),('r',R),('t',dI "T"),('u',dA "%LH" (dI "hr")),('v',dA "%zb" u),('x',dA "T.x" R),('z',dI "%rz1")].lookup c).getD h).toArray)
 let rd:=λ(s:String)=>dL (dR ap) (s.splitOn "|")
 let e0 <- `(tactic|refine zcF (by $(<- dF (<- rd "%ih|rL t|rf t|um t|pW t|uj t|tw t|rz t|oo t|qR t|j7 t|ny t|xx t|p7 t|pS t|lD t|fG t|fF t|xh t|p9 t|sg t|yw t|yQ t|wu t|mS t|uq t|ui t|oP t|eX t_|iO t|pP t|iF t|BP t|zL t|lX t|nZ t|nX t|eK t_|jY t|jc t|gB t|iE t|mC t|jZ t|qf t|uw t|oY t|pZ t|sH t|nK t_|uf t|lG t|j5 t|zP t|ke t|qb t|oO t")):tactic) hr ?_)
 let e3 <- `(tactic|exact Ib rfl (by first |exact T.e rfl |exact (T.d.get 64 rfl).gl |exact (T.d.get 55 rfl).gl |exact (T.d.get 61 rfl).gl |exact (T.d.get 37 rfl).gl |exact (T.d.get 57 rfl).gl |exact (T.d.get 60 rfl).gl |exact (T.d.get 36 rfl).gl |exact (T.d.get 54 rfl).gl |exact (T.d.get 58 rfl).gl))
 `(by repeat' $(<- dF ((<- rd "%zb _|Ih|yf|bD ??|az ??|cE ?|zsS _n?|nT ???|eR ?|GN ?|rX ?|Ge|Kn|F3|Jy ?")++[e0,e3]++(<- rd "%Ly CD??:KW;ixK r|Ik CD??:Dy;eqDK r8:DH;DZ:Di;DD:DC;DX:yd;yz r:Lz;neDK r8:Gw;CI:C8;inK r|hU CDrkf?:JC;Ll r:Gq;Cu:zy;pH rr:EW;zO rr:FK;uN:Fx;zu r:Fv;zp r:HP K;Ka r|LR CD??:Gv;Fz:JA;FV r:JE;Jx:J4;By:Jk;IW:J5;HG|zE CDrkb?:CV;Fn r:ED;Hj r:Gs;zr|Il CD??:Di;DD:DH;DZ:Dy;eqDK r8:C8;inK r:DC;DX:LB;Hi:yd;yz r|FI rABCD??:AA;Hc r1;PySem.F.slot_list_index;PySem.F.type_list_index:yF;G0 r1;PySem.F.slot_list_count;PySem.F.type_list_count|JK rABCDv?:zi;zI;PySem.F.slot_list_append;PySem.F.type_list_append:xf;wK r;PySem.F.slot_list_extend;PySem.F.type_list_extend|D5 rABCDv:Jg;GD;PySem.F.slot_list_pop;PySem.F.type_list_pop|KQ CD?:JL;JF|Jf n?CD:HA;Hf|EX ?v?CD:Eg;Bp:Bm;A2 u|ZG.weak ?|zt_w ?|Ji rv?|JD ??|Ms|B3 u??p|K8 rg|Mo ???|HK rrkrk?|Gu|HW ?|JN ?|Fb rkb|Bg r???|FX rk?|JY rrkrk?|Ml rkb|zgN _n|HS rr?|HC rr?|Bn ??|Es|yH rk?|yG rk?|G6 r?|IZ rrk?|D7|D6 ?|Eu ??|An|oV ?|Hx or???|IL n?|CO rzrmx?|D9|Bz o??|rQ ?|BM r?|He ??|EJ ?|Ke ??|HH ?"))):tactic)
def nF:PSt:=
 (aj (xIf (qOf (pOp bEq (pFn bj (aa (af 0) ag)) (ah 0))) (ak (b8 (aa (ah 0) (aa (ah 0) (aa (af 1) ag))))) xNx)
  (ak (b8 (aa (pOp bIx (af 0) (pOp dq (af 1) (pFn bj (aa (af 0) ag)))) (aa (ah 0) (aa (af 1) ag))))))
def fD:PFn:=fnP [false,false] 2 nF
def uG:fD.ms=[false,false]:=rfl
def rL(T:TT K mg):Callee P w K mg base "_law_feed" 1 ["_law_script", "_law_k"] (sp3 K mg fD):=okP (T.d.get 67 rfl) (ax (N:=["_law_script", "_law_k"]) (by decide)) (λ_ _ _ _ _ _=>ar2 λ_ _=>rfl) λnd _ _ _ _ _ _ _ hr=>'d'
def mY:PSt:=
 (aj (ox 0 seL (ah 1) (pOp bA (pOp bIx (af 0) (ah 1)) (ah 1)))
  (aj (xIf (qOf (pOp bGe (pOp bIx (af 0) (ah 0)) (pOp jJ (ah 10) (ah 18)))) (aj (ay false 2 (pOp dq (pOp bIx (af 0) (ah 0)) (af 1)))
  (aj (ox 0 seL (ah 0) (pOp mD (pOp bIx (af 0) (ah 0)) (af 1)))
  (ak (af 2)))) xNx)
  (aj (ay false 3 (pOp bA (pOp bA (pOp dq (pOp bIx (af 0) (ah 0)) (ah 1000003)) (pOp bJ (ah 7919) (pOp bIx (af 0) (ah 2)))) (pOp bJ (ah 104729) (pOp bIx (af 0) (ah 1)))))
  (aj (ay false 3 (pOp dq (pOp bJ (af 3) (ah 48271)) (ah 2147483647)))
  (ak (pOp dq (pOp dq (pOp bJ (af 3) (pOp bA (pOp dq (af 3) (ah 65521)) (pOp bIx (af 0) (ah 1)))) (ah 2147483629)) (af 1)))))))
def ao:PFn:=fnP [true,false] 4 mY
def uo:ao.ms=[true,false]:=rfl
def rf(T:TT K mg):Callee P w K mg base "_law_next" 1 ["_law_feed_here", "_law_many"] (sp3 K mg ao):=okP (T.d.get 68 rfl) (ax (N:=["_law_feed_here", "_law_many", "_law_digit", "_law_mixed"]) (by decide)) (λ_ _ _ _ _ _=>ar2 λ_ _=>rfl) λnd _ _ _ _ _ _ _ hr=>'d'
def gH:PSt:=
 (gm 2 3 (aa (af 3) (aa (pOp dq (af 2) (af 3)) ag)))
def pG:PSt:=
 (aj (gm 2 3 (aa (pFn eT (aa (af 0) ag)) (aa (pFn eT (aa (af 1) ag)) ag)))
  (aj (xWh (qOf (pOp bGt (af 3) (ah 0))) (gH))
  (aj (xIf (qOf (pOp bLt (af 1) (ah 0))) (ay false 2 (pOp d7 (ah 0) (af 2))) xNx)
  (ak (bz (aa (pOp mD (af 0) (af 2)) (aa (pOp mD (af 1) (af 2)) ag)))))))
def cB:PFn:=fnP [false,false] 4 pG
def wx:cB.ms=[false,false]:=rfl
def um(T:TT K mg):Callee P w K mg base "_law_low" 1 ["_law_top", "_law_bottom"] (sp3 K mg cB):=okP (T.d.get 70 rfl) (ax (N:=["_law_top", "_law_bottom", "_law_one", "_law_two"]) (by decide)) (λ_ _ _ _ _ _=>ar2 λ_ _=>rfl) λnd _ _ _ _ _ _ _ hr=>'d'
def ki:PSt:=
 (ay false 2 (pOp bA (pOp bJ (af 2) (pOp jJ (ah 10) (ah 6))) (ai ao (aa (af 0) (aa (pOp jJ (ah 10) (ah 6)) ag)))))
def lK:PSt:=
 (aj (ay false 2 (ah 0))
  (aj (gX (iM (aa (ah 6) ag)) (gtN 3) (ki))
  (ak (pOp d7 (pOp dq (af 2) (pOp bA (pOp bJ (ah 2) (af 1)) (ah 1))) (af 1)))))
def bU:PFn:=fnP [true,false] 4 lK
def rY:bU.ms=[true,false]:=rfl
def pW(T:TT K mg):Callee P w K mg base "_law_great" 2 ["_law_feed_here", "_law_far"] (sp3 K mg bU):=okP (T.d.get 69 rfl) (ax (N:=["_law_feed_here", "_law_far", "_law_number", "_law_k"]) (by decide)) (λ_ _ _ _ _ _=>ar2 λ_ _=>rfl) λnd _ _ _ _ _ _ _ hr=>'d'
def jV:PSt:=
 (aj (ay false 1 (ai ao (aa (af 0) (aa (ah 6) ag))))
  (aj (gm 2 3 (aa (bz (aa (pOp d7 (ai ao (aa (af 0) (aa (ah 19) ag))) (ah 9)) (aa (ah 1) ag))) (aa (bz (aa (pOp d7 (ai ao (aa (af 0) (aa (ah 19) ag))) (ah 9)) (aa (ah 1) ag))) ag)))
  (aj (gm 4 5 (aa (bz (aa (pOp bA (ah 1) (ai ao (aa (af 0) (aa (ah 12) ag)))) (aa (ah 1) ag))) (aa (bz (aa (pOp bA (ah 1) (ai ao (aa (af 0) (aa (ah 12) ag)))) (aa (ah 1) ag))) ag)))
  (aj (xIf (qOf (pOp bEq (af 1) (ah 1))) (ay false 5 (af 4)) xNx)
  (aj (xIf (qOf (pOp bEq (af 1) (ah 2))) (ay false 4 (bz (aa (pOp bA (ah 1) (ai ao (aa (af 0) (aa (ah 99) ag)))) (aa (ah 1) ag)))) xNx)
  (aj (xIf (qOf (pOp bEq (af 1) (ah 3))) (ay false 5 (bz (aa (pOp bA (ah 1) (ai ao (aa (af 0) (aa (ah 99) ag)))) (aa (ah 1) ag)))) xNx)
  (aj (xIf (qOf (pOp bEq (af 1) (ah 4))) (aj (gm 2 3 (aa (ai cB (aa (pOp d7 (ai ao (aa (af 0) (aa (ah 199) ag))) (ah 99)) (aa (pOp bA (ah 1) (ai ao (aa (af 0) (aa (ah 30) ag)))) ag))) (aa (ai cB (aa (ai ao (aa (af 0) (aa (ah 9) ag))) (aa (ah 7) ag))) ag)))
  (gm 4 5 (aa (ai cB (aa (pOp bA (ah 1) (ai ao (aa (af 0) (aa (ah 99) ag)))) (aa (pOp bA (ah 1) (ai ao (aa (af 0) (aa (ah 30) ag)))) ag))) (aa (ai cB (aa (pOp bA (ah 1) (ai ao (aa (af 0) (aa (ah 99) ag)))) (aa (ah 11) ag))) ag)))) xNx)
  (aj (xIf (qOf (pOp bEq (af 1) (ah 5))) (aj (ay false 6 (pOp d7 (pOp jJ (ah 10) (ah 30)) (ah 1)))
  (aj (gm 2 3 (aa (ai cB (aa (ai bU (aa (af 0) (aa (af 6) ag))) (aa (pOp bA (ah 1) (pFn eT (aa (ai bU (aa (af 0) (aa (pOp d7 (af 6) (ah 1)) ag))) ag))) ag))) (aa (bz (aa (ai bU (aa (af 0) (aa (af 6) ag))) (aa (ah 1) ag))) ag)))
  (gm 4 5 (aa (bz (aa (pOp bA (ah 1) (pFn eT (aa (ai bU (aa (af 0) (aa (pOp d7 (af 6) (ah 1)) ag))) ag))) (aa (ah 1) ag))) (aa (ai cB (aa (pOp bA (ah 1) (pFn eT (aa (ai bU (aa (af 0) (aa (pOp d7 (af 6) (ah 1)) ag))) ag))) (aa (af 6) ag))) ag))))) xNx)
  (ak (bz (aa (af 2) (aa (af 3) (aa (af 4) (aa (af 5) ag))))))))))))))
def fk:PFn:=fnP [true] 7 jV
def uu:fk.ms=[true]:=rfl
def uj(T:TT K mg):Callee P w K mg base "_law_room" 3 ["_law_feed_here"] (sp3 K mg fk):=okP (T.d.get 71 rfl) (ax (N:=["_law_feed_here", "_law_way", "_law_left", "_law_top", "_law_wide", "_law_high", "_law_far"]) (by decide)) (λ_ _ _ _ _ _=>ar1 λ_=>rfl) λnd _ _ _ _ _ _ _ hr=>'d'
def jC:PSt:=
 (aj (ay false 1 (pOp bIx (b8 (aa (pOp bA (ah 1) (ai ao (aa (af 0) (aa (ah 9) ag)))) (aa (ah 40) (aa (ah 41) ag)))) (ai ao (aa (af 0) (aa (ah 3) ag)))))
  (aj (ay true 2 (pLC (iM (aa (af 1) ag)) [none,some 0] (by decide) (gtN 0) qY (pOp bA (ah 1) (ai ao (aa (af 1) (aa (ah 99) ag))))))
  (aj (xIf (qOf (pOp bEq (ai ao (aa (af 0) (aa (ah 4) ag))) (ah 0))) (ox 2 seL (pOp bIx (b8 (aa (ai ao (aa (af 0) (aa (af 1) ag))) (aa (pOp d7 (af 1) (ah 1)) ag))) (ai ao (aa (af 0) (aa (ah 2) ag)))) (pOp bIx (b8 (aa (ah 0) (aa (pOp d7 (ah 0) (ah 5)) (aa (pBl true) (aa (aU "3") (aa kq ag)))))) (ai ao (aa (af 0) (aa (ah 5) ag))))) xNx)
  (aj (xIf (qOf (pOp bEq (ai ao (aa (af 0) (aa (ah 9) ag))) (ah 0))) (ak (pOp bIx (b8 (aa (b8 ag) (aa kq (aa (pFn kW (aa (af 2) ag)) (aa (aU "12") ag))))) (ai ao (aa (af 0) (aa (ah 4) ag))))) xNx)
  (ak (af 2))))))
def fq:PFn:=fnP [true] 3 jC
def uD:fq.ms=[true]:=rfl
def tw(T:TT K mg):Callee P w K mg base "_law_list" 2 ["_law_feed_here"] (sp3 K mg fq):=okP (T.d.get 72 rfl) (ax (N:=["_law_feed_here", "_law_many", "_law_some"]) (by decide)) (λ_ _ _ _ _ _=>ar1 λ_=>rfl) λnd _ _ _ _ _ _ _ hr=>(az 'd' (az (Bl nd ["_law_feed_here", "_law_many", "_law_some"] (ar (top 72)).names ["_law_k", "_law_feed_here"] [none,some 0] 'd' (λnd _ _ _ _ _=>'d') (λ_ _ _ _ _ _=>bZ) (λnd _ _ _ _ _=>'d')) 'd'))
def nQ:PSt:=
 (aj (xIf (qO (qNo (qOf (pFn (aw aB) (aa (af 0) (aa (pTy "list") ag))))) (qOf (pOp bEq (af 0) (b8 ag)))) (ak (pBl false)) xNx)
  (ak (pFn nR (aa (pLC (cU (af 0)) [none] (by decide) (gtN 0) qY (fA (pFn (aw aB) (aa (af 0) (aa (pTy "int") ag))) (fA (sZ (pFn (aw aB) (aa (af 0) (aa (pTy "bool") ag)))) (pOp bGt (af 0) (ah 0))))) ag))))
def fB:PFn:=fnP [false] 1 nQ
def uz:fB.ms=[false]:=rfl
def rz(T:TT K mg):Callee P w K mg base "_law_good" 1 ["_law_thing"] (sp3 K mg fB):=okP (T.d.get 73 rfl) (ax (N:=["_law_thing"]) (by decide)) (λ_ _ _ _ _ _=>ar1 λ_=>rfl) λnd _ _ _ _ _ _ _ hr=>(az 'd' (cE (eR (hU (Bk (K:=K) rfl rfl) sP rfl (T.n rfl) (by first |exact boF rfl |exact boT rfl) (bD (hZ ["_law_thing"] (ar (top 73)).names ["_law_one"] [none] 'd' (λnd _ _ _ _ _=>'d') (λ_ _ _ _ _ _=>bZ) (λnd _ _ _ _ _=>'d')) 'd')))))
def gT:PSt:=
 (xIf (qOf (pOp lY (af 0) eV)) (eP "NoRule" (aa (aU "this is no rule") ag)) xNx)
def bu:PFn:=fnP [false] 1 gT
def pQ:bu.ms=[false]:=rfl
def oo(T:TT K mg):Callee P w K mg base "check_rule" 1 ["rule"] (sp3 K mg bu):=okP (T.d.get 53 rfl) (ax (N:=["rule"]) (by decide)) (λ_ _ _ _ _ _=>ar1 λ_=>rfl) λnd _ _ _ _ _ _ _ hr=>'d'
def jN:PSt:=
 (ak (fA (pFn (aw aB) (aa (af 0) (aa (pTy "int") ag))) (sZ (pFn (aw aB) (aa (af 0) (aa (pTy "bool") ag))))))
def bW:PFn:=fnP [false] 1 jN
def ur:bW.ms=[false]:=rfl
def qR(T:TT K mg):Callee P w K mg base "is_whole" 1 ["thing"] (sp3 K mg bW):=okP (T.d.get 11 rfl) (ax (N:=["thing"]) (by decide)) (λ_ _ _ _ _ _=>ar1 λ_=>rfl) λnd _ _ _ _ _ _ _ hr=>'d'
def dg:PSt:=
 (gm 0 1 (aa (af 1) (aa (pOp dq (af 0) (af 1)) ag)))
def iz:PSt:=
 (aj (gm 0 1 (aa (pFn eT (aa (af 0) ag)) (aa (pFn eT (aa (af 1) ag)) ag)))
  (aj (xWh (qOf (pOp bNe (af 1) (ah 0))) (dg))
  (ak (af 0))))
def bO:PFn:=fnP [false,false] 2 iz
def lE:bO.ms=[false,false]:=rfl
def j7(T:TT K mg):Callee P w K mg base "common_divisor" 1 ["one", "other"] (sp3 K mg bO):=okP (T.d.get 12 rfl) (ax (N:=["one", "other"]) (by decide)) (λ_ _ _ _ _ _=>ar2 λ_ _=>rfl) λnd _ _ _ _ _ _ _ hr=>'d'
def j0:PSt:=
 (aj (xIf (qO (qNo (qOf (pFn (aw aB) (aa (af 0) (aa (pTy "tuple") ag))))) (qOf (pOp bNe (pFn bj (aa (af 0) ag)) (ah 2)))) (ak (pBl false)) xNx)
  (aj (lg (af 0) (gtX (gtT 2 (br (gtN 1) (br (gtN 2) eM)))))
  (aj (xIf (qO (qNo (qOf (ai bW (aa (af 1) ag)))) (qNo (qOf (ai bW (aa (af 2) ag))))) (ak (pBl false)) xNx)
  (ak (fA (pOp bGe (af 2) (ah 1)) (pOp bEq (ai bO (aa (af 1) (aa (af 2) ag))) (ah 1)))))))
def cM:PFn:=fnP [false] 3 j0
def o8:cM.ms=[false]:=rfl
def ny(T:TT K mg):Callee P w K mg base "is_fraction" 2 ["thing"] (sp3 K mg cM):=okP (T.d.get 13 rfl) (ax (N:=["thing", "top", "bottom"]) (by decide)) (λ_ _ _ _ _ _=>ar1 λ_=>rfl) λnd _ _ _ _ _ _ _ hr=>'d'
def rR:PSt:=
 (aj (xIf (qO (qNo (qOf (pFn (aw aB) (aa (af 0) (aa (pTy "tuple") ag))))) (qOf (pOp bNe (pFn bj (aa (af 0) ag)) (ah 4)))) (ak (pBl false)) xNx)
  (aj (xIf (qNo (qOf (pFn nR (aa (pLC (cU (af 0)) [none] (by decide) (gtN 0) qY (ai cM (aa (af 0) ag))) ag)))) (ak (pBl false)) xNx)
  (ak (fA (pOp bGt (pOp bIx (pOp bIx (af 0) (ah 2)) (ah 0)) (ah 0)) (pOp bGt (pOp bIx (pOp bIx (af 0) (ah 3)) (ah 0)) (ah 0))))))
def iB:PFn:=fnP [false] 1 rR
def zA:iB.ms=[false]:=rfl
def xx(T:TT K mg):Callee P w K mg base "is_box" 3 ["thing"] (sp3 K mg iB):=okP (T.d.get 23 rfl) (ax (N:=["thing"]) (by decide)) (λ_ _ _ _ _ _=>ar1 λ_=>rfl) λnd _ _ _ _ _ _ _ hr=>(az 'd' (az (nT (rQ (rX (hU (Bk (K:=K) rfl rfl) sP rfl (T.n rfl) (by first |exact boF rfl |exact boT rfl) (bD (hZ ["thing"] (ar (top 23)).names ["part"] [none] 'd' (λnd _ _ _ _ _=>'d') (λ_ _ _ _ _ _=>bZ) (λnd _ _ _ _ _=>'d')) 'd')))) 'd' 'd') 'd'))
def lM:PSt:=
 (xIf (qNo (qOf (ai iB (aa (af 0) ag)))) (eP "NoBox" (aa (aU "this is no box") ag)) xNx)
def aH:PFn:=fnP [false] 1 lM
def tu:aH.ms=[false]:=rfl
def p7(T:TT K mg):Callee P w K mg base "check_box" 4 ["thing"] (sp3 K mg aH):=okP (T.d.get 24 rfl) (ax (N:=["thing"]) (by decide)) (λ_ _ _ _ _ _=>ar1 λ_=>rfl) λnd _ _ _ _ _ _ _ hr=>'d'
def lN:PSt:=
 (ak (fA (ai bW (aa (af 0) ag)) (pOp bGe (af 0) (ah 1))))
def dO:PFn:=fnP [false] 1 lN
def rE:dO.ms=[false]:=rfl
def pS(T:TT K mg):Callee P w K mg base "is_weight" 2 ["thing"] (sp3 K mg dO):=okP (T.d.get 28 rfl) (ax (N:=["thing"]) (by decide)) (λ_ _ _ _ _ _=>ar1 λ_=>rfl) λnd _ _ _ _ _ _ _ hr=>'d'
def iL:PSt:=
 (aj (xIf (qO (qNo (qOf (pFn (aw aB) (aa (af 0) (aa (pTy "list") ag))))) (qOf (pOp bEq (pFn bj (aa (af 0) ag)) (ah 0)))) (eP "NoWeights" (aa (aU "this is no list of weights") ag)) xNx)
  (aj (xIf (qNo (qOf (pFn nR (aa (pLC (cU (af 0)) [none] (by decide) (gtN 0) qY (ai dO (aa (af 0) ag))) ag)))) (eP "NoWeights" (aa (aU "a weight is a whole number from 1 on") ag)) xNx)
  (xIf (qOf (pOp bGt (pFn bj (aa (af 0) ag)) iN)) (eP "TooMany" (aa (aU "these are more weights than forty") ag)) xNx)))
def aF:PFn:=fnP [false] 1 iL
def lQ:aF.ms=[false]:=rfl
def lD(T:TT K mg):Callee P w K mg base "check_weights" 3 ["thing"] (sp3 K mg aF):=okP (T.d.get 29 rfl) (ax (N:=["thing"]) (by decide)) (λ_ _ _ _ _ _=>ar1 λ_=>rfl) λnd _ _ _ _ _ _ _ hr=>(az 'd' (az (nT (rQ (rX (hU (Bk (K:=K) rfl rfl) sP rfl (T.n rfl) (by first |exact boF rfl |exact boT rfl) (bD (hZ ["thing"] (ar (top 29)).names ["weight"] [none] 'd' (λnd _ _ _ _ _=>'d') (λ_ _ _ _ _ _=>bZ) (λnd _ _ _ _ _=>'d')) 'd')))) 'd' 'd') 'd'))
def gy:PSt:=
 (aj (ay false 1 (pLC (wB (aa (ah 1) (aa (pFn bj (aa (af 0) ag)) ag))) [none,some 0] (by decide) (gtN 0) qY (pFn eT (aa (pOp d7 (pOp bJ (ah 2) (pFn cJ (aa (pSl (af 1) oN (oS (af 0))) ag))) (pFn cJ (aa (af 1) ag))) ag))))
  (ak (pOp bA (kM cL (af 1) (aa (pFn mP (aa (af 1) ag)) ag)) (ah 1))))
def bF:PFn:=fnP [false] 2 gy
def kC:bF.ms=[false]:=rfl
def fG(T:TT K mg):Callee P w K mg base "nearest_to_half" 1 ["weights"] (sp3 K mg bF):=okP (T.d.get 60 rfl) (ax (N:=["weights", "apart"]) (by decide)) (λ_ _ _ _ _ _=>ar1 λ_=>rfl) λnd _ _ _ _ _ _ _ hr=>(az (Bl nd ["weights", "apart"] (ar (top 60)).names ["many", "weights"] [none,some 0] 'd' (λnd _ _ _ _ _=>'d') (λ_ _ _ _ _ _=>bZ) (λnd _ _ _ _ _=>'d')) 'd')
def cS:PSt:=
 (tE 1 tU (ah 1))
def gA:PSt:=
 (aj (ay false 1 (ah 1))
  (aj (xWh (qOf (pOp bLt (pOp bJ (ah 3) (pFn cJ (aa (pSl (af 0) oN (oS (af 1))) ag))) (pFn cJ (aa (af 0) ag)))) (cS))
  (ak (af 1))))
def bE:PFn:=fnP [false] 2 gA
def j6:bE.ms=[false]:=rfl
def fF(T:TT K mg):Callee P w K mg base "fewest_to_third" 1 ["weights"] (sp3 K mg bE):=okP (T.d.get 61 rfl) (ax (N:=["weights", "many"]) (by decide)) (λ_ _ _ _ _ _=>ar1 λ_=>rfl) λnd _ _ _ _ _ _ _ hr=>'d'
def l6:PSt:=
 (ak (fA (pFn (aw aB) (aa (af 0) (aa (pTy "str") ag))) (pOp bIn (af 0) ou)))
def d8:PFn:=fnP [false] 1 l6
def yP:d8.ms=[false]:=rfl
def xh(T:TT K mg):Callee P w K mg base "is_way" 1 ["thing"] (sp3 K mg d8):=okP (T.d.get 25 rfl) (ax (N:=["thing"]) (by decide)) (λ_ _ _ _ _ _=>ar1 λ_=>rfl) λnd _ _ _ _ _ _ _ hr=>'d'
def lH:PSt:=
 (xIf (qNo (qOf (ai d8 (aa (af 0) ag)))) (eP "NoWay" (aa (aU "this is no way") ag)) xNx)
def eO:PFn:=fnP [false] 1 lH
def sN:eO.ms=[false]:=rfl
def p9(T:TT K mg):Callee P w K mg base "check_way" 2 ["way"] (sp3 K mg eO):=okP (T.d.get 26 rfl) (ax (N:=["way"]) (by decide)) (λ_ _ _ _ _ _=>ar1 λ_=>rfl) λnd _ _ _ _ _ _ _ hr=>'d'
def nG:PSt:=
 (aj (xIf (qOf (pOp bEq (af 1) (ah 0))) (eP "NoFraction" (aa (aU "a fraction has no bottom of 0") ag)) xNx)
  (aj (ay false 2 (ai bO (aa (af 0) (aa (af 1) ag))))
  (aj (xIf (qOf (pOp bLt (af 1) (ah 0))) (ay false 2 (pUn BX (af 2))) xNx)
  (ak (bz (aa (pOp mD (af 0) (af 2)) (aa (pOp mD (af 1) (af 2)) ag)))))))
def bC:PFn:=fnP [false,false] 3 nG
def uK:bC.ms=[false,false]:=rfl
def sg(T:TT K mg):Callee P w K mg base "fraction" 2 ["top", "bottom"] (sp3 K mg bC):=okP (T.d.get 14 rfl) (ax (N:=["top", "bottom", "divisor"]) (by decide)) (λ_ _ _ _ _ _=>ar2 λ_ _=>rfl) λnd _ _ _ _ _ _ _ hr=>'d'
def vA:PSt:=
 (ak (ai bC (aa (pOp bA (pOp bJ (pOp bIx (af 0) (ah 0)) (pOp bIx (af 1) (ah 1))) (pOp bJ (pOp bIx (af 1) (ah 0)) (pOp bIx (af 0) (ah 1)))) (aa (pOp bJ (pOp bIx (af 0) (ah 1)) (pOp bIx (af 1) (ah 1))) ag))))
def jA:PFn:=fnP [false,false] 2 vA
def CP:jA.ms=[false,false]:=rfl
def yw(T:TT K mg):Callee P w K mg base "added" 3 ["one", "other"] (sp3 K mg jA):=okP (T.d.get 15 rfl) (ax (N:=["one", "other"]) (by decide)) (λ_ _ _ _ _ _=>ar2 λ_ _=>rfl) λnd _ _ _ _ _ _ _ hr=>'d'
def uZ:PSt:=
 (ak (ai bC (aa (pOp bJ (pOp bIx (af 0) (ah 0)) (pOp bIx (af 1) (ah 0))) (aa (pOp bJ (pOp bIx (af 0) (ah 1)) (pOp bIx (af 1) (ah 1))) ag))))
def gL:PFn:=fnP [false,false] 2 uZ
def AJ:gL.ms=[false,false]:=rfl
def yQ(T:TT K mg):Callee P w K mg base "times" 3 ["one", "other"] (sp3 K mg gL):=okP (T.d.get 16 rfl) (ax (N:=["one", "other"]) (by decide)) (λ_ _ _ _ _ _=>ar2 λ_ _=>rfl) λnd _ _ _ _ _ _ _ hr=>'d'
def iK:PSt:=
 (aj (ay false 7 (ai jA (aa (af 0) (aa (ai gL (aa (af 1) (aa (ai bC (aa (af 4) (aa (af 3) ag))) ag))) ag))))
  (aj (aP (mB 5 hE (aa (bz (aa (af 7) (aa (ai gL (aa (af 1) (aa (ai bC (aa (af 6) (aa (af 3) ag))) ag))) ag))) ag)))
  (tE 4 tU (af 6))))
def tN:PSt:=
 (aj (ay false 3 (pFn cJ (aa (af 2) ag)))
  (aj (ay false 4 (ah 0))
  (aj (ay true 5 (b8 ag))
  (aj (gX (cU (af 2)) (gtN 6) (iK))
  (ak (af 5))))))
def fT:PFn:=fnP [false,false,false] 8 tN
def yS:fT.ms=[false,false,false]:=rfl
def wu(T:TT K mg):Callee P w K mg base "shares" 4 ["start", "length", "weights"] (sp3 K mg fT):=okP (T.d.get 32 rfl) (ax (N:=["start", "length", "weights", "whole", "ahead", "found", "weight", "begin"]) (by decide)) (λ_ _ _ _ _ _=>ar3 λ_ _ _=>rfl) λnd _ _ _ _ _ _ _ hr=>'d'
def sF:PSt:=
 (aj (aP (ai aH (aa (af 0) ag)))
  (aj (aP (ai eO (aa (af 1) ag)))
  (aj (aP (ai aF (aa (af 2) ag)))
  (aj (lg (af 0) (gtX (gtT 4 (br (gtN 3) (br (gtN 4) (br (gtN 5) (br (gtN 6) eM)))))))
  (aj (xIf (qOf (pOp bEq (af 1) (aU "across"))) (ak (pLC (cU (ai fT (aa (af 3) (aa (af 5) (aa (af 2) ag))))) [none,none,some 4,some 6] (by decide) (gtT 2 (br (gtN 0) (br (gtN 1) eM))) qY (bz (aa (af 0) (aa (af 2) (aa (af 1) (aa (af 3) ag))))))) xNx)
  (ak (pLC (cU (ai fT (aa (af 4) (aa (af 6) (aa (af 2) ag))))) [none,none,some 3,some 5] (by decide) (gtT 2 (br (gtN 0) (br (gtN 1) eM))) qY (bz (aa (af 2) (aa (af 0) (aa (af 3) (aa (af 1) ag))))))))))))
def cW:PFn:=fnP [false,false,false] 7 sF
def zg:cW.ms=[false,false,false]:=rfl
def mS(T:TT K mg):Callee P w K mg base "parted" 5 ["box", "way", "weights"] (sp3 K mg cW):=okP (T.d.get 33 rfl) (ax (N:=["box", "way", "weights", "left", "top", "wide", "high"]) (by decide)) (λ_ _ _ _ _ _=>ar3 λ_ _ _=>rfl) λnd _ _ _ _ _ _ _ hr=>(az 'd' (az 'd' (az 'd' (az 'd' (az (nT 'd' (cE (eR (hZ ["box", "way", "weights", "left", "top", "wide", "high"] (ar (top 33)).names ["begin", "length", "top", "high"] [none,none,some 4,some 6] 'd' (λnd _ _ _ _ _=>'d') (λ_ _ _ _ _ _=>bZ) (λnd _ _ _ _ _=>'d')))) 'd') (cE (eR (hZ ["box", "way", "weights", "left", "top", "wide", "high"] (ar (top 33)).names ["begin", "length", "left", "wide"] [none,none,some 3,some 5] 'd' (λnd _ _ _ _ _=>'d') (λ_ _ _ _ _ _=>bZ) (λnd _ _ _ _ _=>'d')))))))))
def pw:PSt:=
 (ak (pOp bLt (pOp bJ (pOp bIx (af 0) (ah 0)) (pOp bIx (af 1) (ah 1))) (pOp bJ (pOp bIx (af 1) (ah 0)) (pOp bIx (af 0) (ah 1)))))
def eg:PFn:=fnP [false,false] 2 pw
def wG:eg.ms=[false,false]:=rfl
def uq(T:TT K mg):Callee P w K mg base "is_less" 1 ["one", "other"] (sp3 K mg eg):=okP (T.d.get 18 rfl) (ax (N:=["one", "other"]) (by decide)) (λ_ _ _ _ _ _=>ar2 λ_ _=>rfl) λnd _ _ _ _ _ _ _ hr=>'d'
def mT:PSt:=
 (aj (aP (ai aH (aa (af 0) ag)))
  (aj (xIf (qOf (ai eg (aa (pOp bIx (af 0) (ah 2)) (aa (pOp bIx (af 0) (ah 3)) ag)))) (ak (aU "down")) xNx)
  (ak (aU "across"))))
def bQ:PFn:=fnP [false] 1 mT
def uE:bQ.ms=[false]:=rfl
def ui(T:TT K mg):Callee P w K mg base "long_way" 5 ["box"] (sp3 K mg bQ):=okP (T.d.get 30 rfl) (ax (N:=["box"]) (by decide)) (λ_ _ _ _ _ _=>ar1 λ_=>rfl) λnd _ _ _ _ _ _ _ hr=>'d'
def kh:PSt:=
 (ak (ai cW (aa (af 0) (aa (ai bQ (aa (af 0) ag)) (aa (b8 (aa (pFn cJ (aa (pSl (af 1) oN (oS (af 2))) ag)) (aa (pFn cJ (aa (pSl (af 1) (oS (af 2)) oN) ag)) ag))) ag)))))
def cH:PFn:=fnP [false,false,false] 3 kh
def pO:cH.ms=[false,false,false]:=rfl
def oP(T:TT K mg):Callee P w K mg base "cut_in_two" 6 ["room", "weights", "many"] (sp3 K mg cH):=okP (T.d.get 34 rfl) (ax (N:=["room", "weights", "many"]) (by decide)) (λ_ _ _ _ _ _=>ar3 λ_ _ _=>rfl) λnd _ _ _ _ _ _ _ hr=>'d'
def cq(s:PFx [false,false,false,false]):PSt:=
 (aj (xIf (qOf (pOp bEq (pFn bj (aa (af 1) ag)) (ah 1))) (ak (pOp bIx (af 1) (ah 0))) xNx)
  (aj (ay false 4 (jv [("nearest_to_half",bF),("fewest_to_third",bE)] (af 3) (aa (af 2) ag)))
  (aj (lg (ai cH (aa (af 0) (aa (af 2) (aa (af 4) ag)))) (gtX (gtU 2 (br (gtN 5) (br (gtN 6) eM)))))
  (aj (ay false 7 (ai s.fn (aa (af 5) (aa (pSl (af 1) oN (oS (af 4))) (aa (pSl (af 2) oN (oS (af 4))) (aa (af 3) ag))))))
  (aj (ay false 8 (ai s.fn (aa (af 6) (aa (pSl (af 1) (oS (af 4)) oN) (aa (pSl (af 2) (oS (af 4)) oN) (aa (af 3) ag))))))
  (ak (bz (aa (ai bQ (aa (af 0) ag)) (aa (bz (aa (af 7) (aa (af 8) ag))) ag)))))))))
def aZ:Nat->PFx [false,false,false,false]
 |0=>PFx.none [false,false,false,false]
 |n+1=>PFx.of [false,false,false,false] 9 (cq (aZ n))
theorem eX(T:TT K mg):∀n,Callee P w K mg base "tree_in_two" (8+n) ["room", "numbers", "weights", "how_many"] (sp3 K mg (aZ n).fn)
 |0=>ok0 (T.d.get 59 rfl) (ax (N:=["room", "numbers", "weights", "how_many", "many", "first", "second", "ahead", "behind"]) (by decide)) (λ_ _ _ _ _ _=>ar4 λ_ _ _ _=>rfl)
 |
  n+1=>by
  have ih:=eX T n;show Callee _ _ _ _ _ _ _ _ (sp3 _ _ (PFx.of [false,false,false,false] 9 (cq (aZ n))).fn);exact okX (k:=8+n) (T.d.get 59 rfl) (ax (N:=["room", "numbers", "weights", "how_many", "many", "first", "second", "ahead", "behind"]) (by decide)) (λ_ _ _ _ _ _=>ar4 λ_ _ _ _=>rfl) λnd _ _ _ _ _ _ _ hr=>(az 'd' (az (zsS 4 nd (lZ (eB (fG T) (hr.mono (by omega)) (eB (fF T) (hr.mono (by omega)) sY)) 'd' (DP DK) 'd')) 'd'))
def gu:PSt:=
 (aj (aP (ai aH (aa (af 0) ag)))
  (aj (aP (ai aF (aa (af 1) ag)))
  (ak (ai (aZ 42).fn (aa (af 0) (aa (pFn jX (aa (pFn bj (aa (af 1) ag)) ag)) (aa (af 1) (aa (dD "nearest_to_half") ag))))))))
def aR:PFn:=fnP [false,false] 2 gu
def oK:aR.ms=[false,false]:=rfl
def iO(T:TT K mg):Callee P w K mg base "halves_tree" 51 ["room", "weights"] (sp3 K mg aR):=okP (T.d.get 57 rfl) (ax (N:=["room", "weights"]) (by decide)) (λ_ _ _ _ _ _=>ar2 λ_ _=>rfl) λnd _ _ _ _ _ _ _ hr=>'d'
def lL:PSt:=
 (aj (xIf (qOf (pOp bEq (af 0) (aU "across"))) (ak (aU "down")) xNx)
  (ak (aU "across")))
def dS:PFn:=fnP [false] 1 lL
def r9:dS.ms=[false]:=rfl
def pP(T:TT K mg):Callee P w K mg base "other_way" 1 ["way"] (sp3 K mg dS):=okP (T.d.get 27 rfl) (ax (N:=["way"]) (by decide)) (λ_ _ _ _ _ _=>ar1 λ_=>rfl) λnd _ _ _ _ _ _ _ hr=>'d'
def eC:PSt:=
 (xIf (qOf (ai eg (aa (af 1) (aa (af 2) ag)))) (ay false 1 (af 2)) xNx)
def j3:PSt:=
 (aj (ay false 1 (pOp bIx (af 0) (ah 0)))
  (aj (gX (cU (af 0)) (gtN 2) (eC))
  (ak (af 1))))
def bI:PFn:=fnP [false] 3 j3
def oz:bI.ms=[false]:=rfl
def iF(T:TT K mg):Callee P w K mg base "greatest_of" 2 ["fractions"] (sp3 K mg bI):=okP (T.d.get 19 rfl) (ax (N:=["fractions", "found", "one"]) (by decide)) (λ_ _ _ _ _ _=>ar1 λ_=>rfl) λnd _ _ _ _ _ _ _ hr=>'d'
def xY:PSt:=
 (ak (ai bC (aa (pOp bJ (pOp bIx (af 0) (ah 0)) (pOp bIx (af 1) (ah 1))) (aa (pOp bJ (pOp bIx (af 0) (ah 1)) (pOp bIx (af 1) (ah 0))) ag))))
def jq:PFn:=fnP [false,false] 2 xY
def EF:jq.ms=[false,false]:=rfl
def BP(T:TT K mg):Callee P w K mg base "over" 3 ["one", "other"] (sp3 K mg jq):=okP (T.d.get 17 rfl) (ax (N:=["one", "other"]) (by decide)) (λ_ _ _ _ _ _=>ar2 λ_ _=>rfl) λnd _ _ _ _ _ _ _ hr=>'d'
def vQ:PSt:=
 (aj (xIf (qOf (pOp bEq (ai bQ (aa (af 0) ag)) (aU "across"))) (ak (ai jq (aa (pOp bIx (af 0) (ah 2)) (aa (pOp bIx (af 0) (ah 3)) ag)))) xNx)
  (ak (ai jq (aa (pOp bIx (af 0) (ah 3)) (aa (pOp bIx (af 0) (ah 2)) ag)))))
def dU:PFn:=fnP [false] 1 vQ
def Ct:dU.ms=[false]:=rfl
def zL(T:TT K mg):Callee P w K mg base "shape" 6 ["box"] (sp3 K mg dU):=okP (T.d.get 31 rfl) (ax (N:=["box"]) (by decide)) (λ_ _ _ _ _ _=>ar1 λ_=>rfl) λnd _ _ _ _ _ _ _ hr=>'d'
def jx:PSt:=
 (aj (ay false 3 (af 0))
  (aj (xIf (qOf (pOp bLt (af 2) (pFn bj (aa (af 1) ag)))) (ay false 3 (pOp bIx (ai cH (aa (af 0) (aa (af 1) (aa (af 2) ag)))) (ah 0))) xNx)
  (aj (ay false 4 (ai cW (aa (af 3) (aa (ai dS (aa (ai bQ (aa (af 0) ag)) ag)) (aa (pSl (af 1) oN (oS (af 2))) ag)))))
  (ak (ai bI (aa (pLC (cU (af 4)) [none] (by decide) (gtN 0) qY (ai dU (aa (af 0) ag))) ag))))))
def cC:PFn:=fnP [false,false,false] 5 jx
def m8:cC.ms=[false,false,false]:=rfl
def lX(T:TT K mg):Callee P w K mg base "worst_of_row" 7 ["room", "weights", "many"] (sp3 K mg cC):=okP (T.d.get 42 rfl) (ax (N:=["room", "weights", "many", "part", "boxes"]) (by decide)) (λ_ _ _ _ _ _=>ar3 λ_ _ _=>rfl) λnd _ _ _ _ _ _ _ hr=>(az 'd' (az 'd' (az 'd' (cE (eR (zcF (iF T) hr (bD (hZ ["room", "weights", "many", "part", "boxes"] (ar (top 42)).names ["box"] [none] 'd' (λnd _ _ _ _ _=>'d') (λ_ _ _ _ _ _=>bZ) (λnd _ _ _ _ _=>'d')) 'd')))))))
def dG:PSt:=
 (aj (ay false 4 (ai cC (aa (af 0) (aa (af 1) (aa (pOp bA (af 2) (ah 1)) ag)))))
  (aj (xIf (qOf (ai eg (aa (af 3) (aa (af 4) ag)))) xBk xNx)
  (aj (ay false 3 (af 4))
  (tE 2 tU (ah 1)))))
def km:PSt:=
 (aj (ay false 2 (ah 1))
  (aj (ay false 3 (ai cC (aa (af 0) (aa (af 1) (aa (af 2) ag)))))
  (aj (xWh (qOf (pOp bLt (af 2) (pFn bj (aa (af 1) ag)))) (dG))
  (ak (af 2)))))
def d5:PFn:=fnP [false,false] 5 km
def qr:d5.ms=[false,false]:=rfl
def nZ(T:TT K mg):Callee P w K mg base "row_length" 8 ["room", "weights"] (sp3 K mg d5):=okP (T.d.get 41 rfl) (ax (N:=["room", "weights", "many", "before", "behind"]) (by decide)) (λ_ _ _ _ _ _=>ar2 λ_ _=>rfl) λnd _ _ _ _ _ _ _ hr=>'d'
def j4:PSt:=
 (aj (xIf (qOf (pOp bEq (pFn bj (aa (af 1) ag)) (ah 1))) (ak (pOp bIx (af 1) (ah 0))) xNx)
  (ak (bz (aa (ai dS (aa (ai bQ (aa (af 0) ag)) ag)) (aa (pFn kW (aa (af 1) ag)) ag)))))
def dH:PFn:=fnP [false,false] 2 j4
def oA:dH.ms=[false,false]:=rfl
def nX(T:TT K mg):Callee P w K mg base "tree_of_row" 6 ["room", "numbers"] (sp3 K mg dH):=okP (T.d.get 40 rfl) (ax (N:=["room", "numbers"]) (by decide)) (λ_ _ _ _ _ _=>ar2 λ_ _=>rfl) λnd _ _ _ _ _ _ _ hr=>'d'
def cD(s:PFx [false,false,false]):PSt:=
 (aj (ay false 3 (ai d5 (aa (af 0) (aa (af 2) ag))))
  (aj (ay false 4 (ai dH (aa (af 0) (aa (pSl (af 1) oN (oS (af 3))) ag))))
  (aj (xIf (qOf (pOp bEq (af 3) (pFn bj (aa (af 1) ag)))) (ak (af 4)) xNx)
  (aj (ay false 5 (pOp bIx (ai cH (aa (af 0) (aa (af 2) (aa (af 3) ag)))) (ah 1)))
  (ak (bz (aa (ai bQ (aa (af 0) ag)) (aa (bz (aa (af 4) (aa (ai s.fn (aa (af 5) (aa (pSl (af 1) (oS (af 3)) oN) (aa (pSl (af 2) (oS (af 3)) oN) ag)))) ag))) ag))))))))
def ba:Nat->PFx [false,false,false]
 |0=>PFx.none [false,false,false]
 |n+1=>PFx.of [false,false,false] 6 (cD (ba n))
theorem eK(T:TT K mg):∀n,Callee P w K mg base "tree_of_rows" (10+n) ["room", "numbers", "weights"] (sp3 K mg (ba n).fn)
 |0=>ok0 (T.d.get 39 rfl) (ax (N:=["room", "numbers", "weights", "many", "tree", "rest"]) (by decide)) (λ_ _ _ _ _ _=>ar3 λ_ _ _=>rfl)
 |
  n+1=>by
  have ih:=eK T n;show Callee _ _ _ _ _ _ _ _ (sp3 _ _ (PFx.of [false,false,false] 6 (cD (ba n))).fn);exact okX (k:=10+n) (T.d.get 39 rfl) (ax (N:=["room", "numbers", "weights", "many", "tree", "rest"]) (by decide)) (λ_ _ _ _ _ _=>ar3 λ_ _ _=>rfl) λnd _ _ _ _ _ _ _ hr=>'d'
def iX:PSt:=
 (aj (aP (ai aH (aa (af 0) ag)))
  (aj (aP (ai aF (aa (af 1) ag)))
  (ak (ai (ba 42).fn (aa (af 0) (aa (pFn jX (aa (pFn bj (aa (af 1) ag)) ag)) (aa (af 1) ag)))))))
def bp:PFn:=fnP [false,false] 2 iX
def tJ:bp.ms=[false,false]:=rfl
def jY(T:TT K mg):Callee P w K mg base "rows_tree" 53 ["room", "weights"] (sp3 K mg bp):=okP (T.d.get 36 rfl) (ax (N:=["room", "weights"]) (by decide)) (λ_ _ _ _ _ _=>ar2 λ_ _=>rfl) λnd _ _ _ _ _ _ _ hr=>'d'
def dB:PSt:=
 (ak (pFn rj (aa (pFn bj (aa (af 0) ag)) (aa (af 0) ag))))
def aM:PFn:=fnP [false] 1 dB
def jf:aM.ms=[false]:=rfl
def jc(T:TT K mg):Callee P w K mg base "by_falling_weights" 1 ["weights"] (sp3 K mg aM):=okPL (T.d.get 38 rfl) T.l (ax (N:=["weights"]) (by decide)) (λ_ _ _ _ _ _=>ar1 λ_=>rfl) λnd _ _ _ _ _ _ _ _ e2 e3 hr=>(cE (eR (FU rfl hr.depth rfl (T.n rfl) rfl (T.n rfl) rfl rfl rfl e2 e3 'd')))
def fm:PSt:=
 (aj (aP (ai aH (aa (af 0) ag)))
  (aj (aP (ai aF (aa (af 1) ag)))
  (aj (ay false 2 (ai aM (aa (af 1) ag)))
  (ak (ai (ba 42).fn (aa (af 0) (aa (af 2) (aa (pLC (cU (af 2)) [none,some 1] (by decide) (gtN 0) qY (pOp bIx (af 1) (af 0))) ag))))))))
def aJ:PFn:=fnP [false,false] 3 fm
def lU:aJ.ms=[false,false]:=rfl
def gB(T:TT K mg):Callee P w K mg base "greatest_tree" 53 ["room", "weights"] (sp3 K mg aJ):=okP (T.d.get 37 rfl) (ax (N:=["room", "weights", "numbers"]) (by decide)) (λ_ _ _ _ _ _=>ar2 λ_ _=>rfl) λnd _ _ _ _ _ _ _ hr=>(az 'd' (az 'd' (az 'd' (cE (eR (zcF (eK T 42) hr (bD 'd' (bD 'd' (bD (hZ ["room", "weights", "numbers"] (ar (top 37)).names ["number", "weights"] [none,some 1] 'd' (λnd _ _ _ _ _=>'d') (λ_ _ _ _ _ _=>bZ) (λnd _ _ _ _ _=>'d')) 'd')))))))))
def gx:PSt:=
 (aj (aP (ai aH (aa (af 0) ag)))
  (aj (aP (ai aF (aa (af 1) ag)))
  (aj (ay false 2 (ai aM (aa (af 1) ag)))
  (ak (ai (aZ 42).fn (aa (af 0) (aa (af 2) (aa (pLC (cU (af 2)) [none,some 1] (by decide) (gtN 0) qY (pOp bIx (af 1) (af 0))) (aa (dD "fewest_to_third") ag)))))))))
def aS:PFn:=fnP [false,false] 3 gx
def oI:aS.ms=[false,false]:=rfl
def iE(T:TT K mg):Callee P w K mg base "thirds_tree" 51 ["room", "weights"] (sp3 K mg aS):=okP (T.d.get 58 rfl) (ax (N:=["room", "weights", "numbers"]) (by decide)) (λ_ _ _ _ _ _=>ar2 λ_ _=>rfl) λnd _ _ _ _ _ _ _ hr=>(az 'd' (az 'd' (az 'd' (cE (eR (zcF (eX T 42) hr (bD 'd' (bD 'd' (bD (hZ ["room", "weights", "numbers"] (ar (top 58)).names ["number", "weights"] [none,some 1] 'd' (λnd _ _ _ _ _=>'d') (λ_ _ _ _ _ _=>bZ) (λnd _ _ _ _ _=>'d')) 'd')))))))))
def fJ:PSt:=
 (aj (aP (ai aH (aa (af 1) ag)))
  (aj (aP (ai aF (aa (af 2) ag)))
  (aj (xIf (qOf (pOp bEq (pFn bj (aa (af 2) ag)) (ah 1))) (ak (ah 0)) xNx)
  (ak (bz (aa (af 0) (aa (pFn jE (aa (pFn bj (aa (af 2) ag)) ag)) ag)))))))
def bL:PFn:=fnP [false,false,false] 3 fJ
def mO:bL.ms=[false,false,false]:=rfl
def mC(T:TT K mg):Callee P w K mg base "side_by_side" 5 ["way", "room", "weights"] (sp3 K mg bL):=okP (T.d.get 56 rfl) (ax (N:=["way", "room", "weights"]) (by decide)) (λ_ _ _ _ _ _=>ar3 λ_ _ _=>rfl) λnd _ _ _ _ _ _ _ hr=>'d'
def bT:PSt:=
 (aj (aP (ai bu (aa (af 0) ag)))
  (aj (xIf (qOf (pOp bEq (af 0) (aU "halves"))) (ak (ai aR (aa (af 1) (aa (af 2) ag)))) xNx)
  (aj (xIf (qOf (pOp bEq (af 0) (aU "rows"))) (ak (ai bp (aa (af 1) (aa (af 2) ag)))) xNx)
  (aj (xIf (qOf (pOp bEq (af 0) (aU "greatest"))) (ak (ai aJ (aa (af 1) (aa (af 2) ag)))) xNx)
  (aj (xIf (qOf (pOp bEq (af 0) (aU "thirds"))) (ak (ai aS (aa (af 1) (aa (af 2) ag)))) xNx)
  (ak (ai bL (aa (af 0) (aa (af 1) (aa (af 2) ag))))))))))
def aq:PFn:=fnP [false,false,false] 3 bT
def sX:aq.ms=[false,false,false]:=rfl
def jZ(T:TT K mg):Callee P w K mg base "rule_tree" 54 ["rule", "room", "weights"] (sp3 K mg aq):=okP (T.d.get 54 rfl) (ax (N:=["rule", "room", "weights"]) (by decide)) (λ_ _ _ _ _ _=>ar3 λ_ _ _=>rfl) λnd _ _ _ _ _ _ _ hr=>'d'
def iZ:PSt:=
 (aj (xIf (qO (qNo (qOf (pFn (aw aB) (aa (af 0) (aa (pTy "tuple") ag))))) (qOf (pOp bNe (pFn bj (aa (af 0) ag)) (ah 2)))) (ak (pBl false)) xNx)
  (ak (fA (ai d8 (aa (pOp bIx (af 0) (ah 0)) ag)) (fA (pFn (aw aB) (aa (pOp bIx (af 0) (ah 1)) (aa (pTy "tuple") ag))) (pOp bGe (pFn bj (aa (pOp bIx (af 0) (ah 1)) ag)) (ah 2))))))
def cZ:PFn:=fnP [false] 1 iZ
def tD:cZ.ms=[false]:=rfl
def qf(T:TT K mg):Callee P w K mg base "is_branch" 2 ["thing"] (sp3 K mg cZ):=okP (T.d.get 44 rfl) (ax (N:=["thing"]) (by decide)) (λ_ _ _ _ _ _=>ar1 λ_=>rfl) λnd _ _ _ _ _ _ _ hr=>'d'
def dE:PSt:=
 (aj (ay false 4 (qw 3 qN))
  (xIf (qOf (ai cZ (aa (af 4) ag))) (aP (mB 3 iQ (aa (pOp bIx (af 4) (ah 1)) ag))) (xIf (qO (qNo (qOf (ai bW (aa (af 4) ag)))) (qO (qOf (pOp bLt (af 4) (ah 0))) (qO (qOf (pOp bGe (af 4) (af 1))) (qOf (pOp Bf (af 4) (af 2)))))) (ak (pBl false)) (aP (Bq 2 (aa (af 4) ag))))))
def pB:PSt:=
 (aj (ay true 2 xt)
  (aj (ay true 3 (b8 (aa (af 0) ag)))
  (aj (xWh (qTr (af 3)) (dE))
  (ak (pOp bEq (pFn rh (aa (af 2) ag)) (af 1))))))
def gg:PFn:=fnP [false,false] 5 pB
def xn:gg.ms=[false,false]:=rfl
def uw(T:TT K mg):Callee P w K mg base "is_tree" 3 ["thing", "many"] (sp3 K mg gg):=okP (T.d.get 45 rfl) (ax (N:=["thing", "many", "seen", "waiting", "part"]) (by decide)) (λ_ _ _ _ _ _=>ar2 λ_ _=>rfl) λnd _ _ _ _ _ _ _ hr=>'d'
def kG:PSt:=
 (xIf (qNo (qOf (ai gg (aa (af 0) (aa (af 1) ag))))) (eP "NoTree" (aa (aU "this is no tree for the things") ag)) xNx)
def d6:PFn:=fnP [false,false] 2 kG
def qa:d6.ms=[false,false]:=rfl
def oY(T:TT K mg):Callee P w K mg base "check_tree" 4 ["thing", "many"] (sp3 K mg d6):=okP (T.d.get 46 rfl) (ax (N:=["thing", "many"]) (by decide)) (λ_ _ _ _ _ _=>ar2 λ_ _=>rfl) λnd _ _ _ _ _ _ _ hr=>'d'
def cG:PSt:=
 (aj (ay false 3 (qw 2 qN))
  (xIf (qOf (pFn (aw aB) (aa (af 3) (aa (pTy "tuple") ag)))) (aP (mB 2 iQ (aa (pOp bIx (af 3) (ah 1)) ag))) (aP (mB 1 hE (aa (af 3) ag)))))
def lI:PSt:=
 (aj (ay true 1 (b8 ag))
  (aj (ay true 2 (b8 (aa (af 0) ag)))
  (aj (xWh (qTr (af 2)) (cG))
  (ak (af 1)))))
def dP:PFn:=fnP [false] 4 lI
def qV:dP.ms=[false]:=rfl
def pZ(T:TT K mg):Callee P w K mg base "things_in" 1 ["tree"] (sp3 K mg dP):=okP (T.d.get 47 rfl) (ax (N:=["tree", "found", "waiting", "part"]) (by decide)) (λ_ _ _ _ _ _=>ar1 λ_=>rfl) λnd _ _ _ _ _ _ _ hr=>'d'
def nu:PSt:=
 (aj (lg (af 2) (gtX (gtT 2 (br (gtN 3) (br (gtN 4) eM)))))
  (ak (ai cW (aa (af 0) (aa (af 3) (aa (pLC (cU (af 4)) [none,some 1] (by decide) (gtN 0) qY (pFn cJ (aa (pLC (cU (ai dP (aa (af 0) ag))) [none,some 1] (by decide) (gtN 0) qY (pOp bIx (af 1) (af 0))) ag))) ag))))))
def fo:PFn:=fnP [false,false,false] 5 nu
def uF:fo.ms=[false,false,false]:=rfl
def sH(T:TT K mg):Callee P w K mg base "parts_of" 6 ["room", "weights", "tree"] (sp3 K mg fo):=okP (T.d.get 50 rfl) (ax (N:=["room", "weights", "tree", "way", "trees"]) (by decide)) (λ_ _ _ _ _ _=>ar3 λ_ _ _=>rfl) λnd _ _ _ _ _ _ _ hr=>(az 'd' (cE (eR (zcF (mS T) hr (bD 'd' (bD 'd' (bD (hZ ["room", "weights", "tree", "way", "trees"] (ar (top 50)).names ["part", "weights"] [none,some 1] 'd' (λnd _ _ _ _ _=>'d') (λ_ _ _ _ _ _=>bZ) (λnd _ _ _ _ _=>(hU (pH (K:=K) rfl rfl) zy rfl (T.n rfl) (by first |exact boF rfl |exact boT rfl) (bD (hZ ["part", "weights"] [(PySem.Str.ofString ".0",PySem.NameKind.local),(PySem.Str.ofString "part",PySem.NameKind.local),(PySem.Str.ofString "sum",PySem.NameKind.globalImplicit),(PySem.Str.ofString "things_in",PySem.NameKind.globalImplicit),(PySem.Str.ofString "weights",PySem.NameKind.cell)] ["thing", "weights"] [none,some 1] 'd' (λnd _ _ _ _ _=>'d') (λ_ _ _ _ _ _=>bZ) (λnd _ _ _ _ _=>'d')) 'd')))) 'd')))))))
def jO(s:PFx [false,false,false,true]):PSt:=
 (aP (ai s.fn (aa (af 5) (aa (af 1) (aa (af 4) (aa (af 3) ag))))))
def gK(s:PFx [false,false,false,true]):PSt:=
 (aj (xIf (qNo (qOf (pFn (aw aB) (aa (af 2) (aa (pTy "tuple") ag))))) (aj (ox 3 seI (af 2) (af 0))
  xu) xNx)
  (gX (qM (aa (pOp bIx (af 2) (ah 1)) (aa (ai fo (aa (af 0) (aa (af 1) (aa (af 2) ag)))) ag))) (gtX (gtT 2 (br (gtN 4) (br (gtN 5) eM)))) (jO s)))
def dM:Nat->PFx [false,false,false,true]
 |0=>PFx.none [false,false,false,true]
 |n+1=>PFx.of [false,false,false,true] 6 (gK (dM n))
theorem nK(T:TT K mg):∀n,Callee P w K mg base "place" (8+n) ["room", "weights", "tree", "placed"] (sp3 K mg (dM n).fn)
 |0=>ok0 (T.d.get 49 rfl) (ax (N:=["room", "weights", "tree", "placed", "part", "box"]) (by decide)) (λ_ _ _ _ _ _=>ar4 λ_ _ _ _=>rfl)
 |
  n+1=>by
  have ih:=nK T n;show Callee _ _ _ _ _ _ _ _ (sp3 _ _ (PFx.of [false,false,false,true] 6 (gK (dM n))).fn);exact okX (k:=8+n) (T.d.get 49 rfl) (ax (N:=["room", "weights", "tree", "placed", "part", "box"]) (by decide)) (λ_ _ _ _ _ _=>ar4 λ_ _ _ _=>rfl) λnd _ _ _ _ _ _ _ hr=>'d'
def mZ:PSt:=
 (aj (aP (ai aH (aa (af 0) ag)))
  (aj (aP (ai aF (aa (af 1) ag)))
  (aj (aP (ai d6 (aa (af 2) (aa (pFn bj (aa (af 1) ag)) ag))))
  (aj (ay true 3 pD0)
  (aj (aP (ai (dM 42).fn (aa (af 0) (aa (af 1) (aa (af 2) (aa (af 3) ag))))))
  (ak (pLC (iM (aa (pFn bj (aa (af 1) ag)) ag)) [none,some 3] (by decide) (gtN 0) qY (pOp xr (af 1) (af 0)))))))))
def cz:PFn:=fnP [false,false,false] 4 mZ
def uI:cz.ms=[false,false,false]:=rfl
def uf(T:TT K mg):Callee P w K mg base "boxes_by" 51 ["room", "weights", "tree"] (sp3 K mg cz):=okP (T.d.get 48 rfl) (ax (N:=["room", "weights", "tree", "placed"]) (by decide)) (λ_ _ _ _ _ _=>ar3 λ_ _ _=>rfl) λnd _ _ _ _ _ _ _ hr=>(az 'd' (az 'd' (az 'd' (az 'd' (az 'd' (cE (eR (hZ ["room", "weights", "tree", "placed"] (ar (top 48)).names ["number", "placed"] [none,some 3] 'd' (λnd _ _ _ _ _=>'d') (λ_ _ _ _ _ _=>bZ) (λnd _ _ _ _ _=>'d')))))))))
def iR:PSt:=
 (ak (ai cz (aa (af 1) (aa (af 2) (aa (ai aq (aa (af 0) (aa (af 1) (aa (af 2) ag)))) ag)))))
def bc:PFn:=fnP [false,false,false] 3 iR
def wm:bc.ms=[false,false,false]:=rfl
def lG(T:TT K mg):Callee P w K mg base "by_rule" 55 ["rule", "room", "weights"] (sp3 K mg bc):=okP (T.d.get 55 rfl) (ax (N:=["rule", "room", "weights"]) (by decide)) (λ_ _ _ _ _ _=>ar3 λ_ _ _=>rfl) λnd _ _ _ _ _ _ _ hr=>'d'
def cP:PSt:=
 (aP (mB 3 hE (aa (ai bC (aa (pOp bA (af 4) (af 5)) (aa (af 5) ag))) ag)))
def gz:PSt:=
 (aj (ay false 2 (pFn kO (aa (af 1) ag)))
  (aj (ay true 3 (b8 (aa (ai dU (aa (af 0) ag)) (aa (bz (aa (ah 3) (aa (ah 1) ag))) ag))))
  (aj (gX (qM (aa (af 2) (aa (pSl (af 2) (oS (ah 1)) oN) ag))) (gtX (gtT 2 (br (gtN 4) (br (gtN 5) eM)))) (cP))
  (ak (ai bI (aa (af 3) ag))))))
def cu:PFn:=fnP [false,false] 6 gz
def kz:cu.ms=[false,false]:=rfl
def j5(T:TT K mg):Callee P w K mg base "bound_of_thirds" 7 ["room", "weights"] (sp3 K mg cu):=okP (T.d.get 65 rfl) (ax (N:=["room", "weights", "falling", "found", "greater", "lesser"]) (by decide)) (λ_ _ _ _ _ _=>ar2 λ_ _=>rfl) λnd _ _ _ _ _ _ _ hr=>'d'
def v3:PSt:=
 (aj (ay false 1 (pLC (cU (af 0)) [none] (by decide) (gtN 0) qY (ai dU (aa (af 0) ag))))
  (aj (ay false 2 (ai bI (aa (af 1) ag)))
  (ak (bz (aa (af 2) (aa (kM cL (af 1) (aa (af 2) ag)) ag))))))
def jw:PFn:=fnP [false] 3 v3
def BV:jw.ms=[false]:=rfl
def zP(T:TT K mg):Callee P w K mg base "worst" 7 ["boxes"] (sp3 K mg jw):=okP (T.d.get 63 rfl) (ax (N:=["boxes", "shapes", "greatest"]) (by decide)) (λ_ _ _ _ _ _=>ar1 λ_=>rfl) λnd _ _ _ _ _ _ _ hr=>(az (Bl nd ["boxes", "shapes", "greatest"] (ar (top 63)).names ["box"] [none] 'd' (λnd _ _ _ _ _=>'d') (λ_ _ _ _ _ _=>bZ) (λnd _ _ _ _ _=>'d')) 'd')
def dC:PSt:=
 (aj (aP (ai bu (aa (af 0) ag)))
  (aj (aP (ai aH (aa (af 1) ag)))
  (aj (aP (ai aF (aa (af 2) ag)))
  (aj (xIf (qOf (pOp bEq (af 0) (aU "thirds"))) (ak (ai cu (aa (af 1) (aa (af 2) ag)))) xNx)
  (aj (xIf (qOf (pOp bEq (af 0) (aU "halves"))) (ak (ai bI (aa (b8 (aa (ai dU (aa (af 1) ag)) (aa (ai bC (aa (pFn cJ (aa (af 2) ag)) (aa (pFn mP (aa (af 2) ag)) ag))) ag))) ag))) xNx)
  (aj (xIf (qOf (pOp bIn (af 0) ou)) (ak (pOp bIx (ai jw (aa (ai bc (aa (af 0) (aa (af 1) (aa (af 2) ag)))) ag)) (ah 0))) xNx)
  (ak kq)))))))
def aK:PFn:=fnP [false,false,false] 3 dC
def uB:aK.ms=[false,false,false]:=rfl
def ke(T:TT K mg):Callee P w K mg base "bound_of" 56 ["rule", "room", "weights"] (sp3 K mg aK):=okP (T.d.get 64 rfl) (ax (N:=["rule", "room", "weights"]) (by decide)) (λ_ _ _ _ _ _=>ar3 λ_ _ _=>rfl) λnd _ _ _ _ _ _ _ hr=>'d'
def iY:PSt:=
 (aj (ay false 4 kq)
  (aj (Aw gq 5 (xIf (qOf (pOp bLt (af 0) (ah 3))) (aP (jv [("rule_tree",aq),("by_rule",bc),("bound_of",aK)] (pOp bIx (b8 (aa (dD "rule_tree") (aa (dD "by_rule") (aa (dD "bound_of") ag)))) (af 0)) (aa (af 1) (aa (af 2) (aa (af 3) ag))))) (aP (jv [("halves_tree",aR),("thirds_tree",aS),("rows_tree",bp),("greatest_tree",aJ)] (pOp bIx (b8 (aa (dD "halves_tree") (aa (dD "thirds_tree") (aa (dD "rows_tree") (aa (dD "greatest_tree") ag))))) (pOp d7 (af 0) (ah 3))) (aa (af 2) (aa (af 3) ag))))) (ay false 4 (af 5)))
  (aj (ay false 6 (b8 (aa (pFn (aw aB) (aa (af 4) (aa (dD "NoRule") ag))) (aa (pFn (aw aB) (aa (af 4) (aa (dD "NoBox") ag))) (aa (pFn (aw aB) (aa (af 4) (aa (dD "NoWeights") ag))) ag)))))
  (aj (ay false 6 (pOp bA (af 6) (b8 (aa (pFn (aw aB) (aa (af 4) (aa (dD "TooMany") ag))) (aa (pOp bIs (af 4) kq) ag)))))
  (aj (xIf (qO (qOf (pOp bNe (kM fS (af 6) (aa (pBl true) ag)) (ah 1))) (qOf (pFn (aw aB) (aa (af 4) (aa (bz (aa (dD "NoFraction") (aa (dD "NoText") (aa (dD "NoTree") (aa (dD "NoWay") ag))))) ag))))) (ak (ah 9)) xNx)
  (ak (kM cL (af 6) (aa (pBl true) ag))))))))
def dW:PFn:=fnP [false,false,false,false] 7 iY
def so:dW.ms=[false,false,false,false]:=rfl
def qb(T:TT K mg):Callee P w K mg base "_law_class" 57 ["_law_way", "_law_rule", "_law_room_here", "_law_weights"] (sp3 K mg dW):=okP (T.d.get 74 rfl) (ax (N:=["_law_way", "_law_rule", "_law_room_here", "_law_weights", "_law_caught", "e", "_law_some"]) (by decide)) (λ_ _ _ _ _ _=>ar4 λ_ _ _ _=>rfl) λnd _ _ _ _ _ _ _ hr=>(az 'd' (az (JZ (i:=5) wq nd rfl rfl rfl (T.m rfl) (T.h (.head _)).1 (T.h (.head _)).2 (λ_ _ _ hx=>(cE (nT 'd' (cE (oV (lZ (eB (jZ T) (hr.mono (by omega)) (eB (lG T) (hr.mono (by omega)) (eB (ke T) (hr.mono (by omega)) sY))) 'd' hx 'd'))) (cE (oV (lZ (eB (iO T) (hr.mono (by omega)) (eB (iE T) (hr.mono (by omega)) (eB (jY T) (hr.mono (by omega)) (eB (gB T) (hr.mono (by omega)) sY)))) 'd' hx 'd')))))) (λ_=>'d')) 'd'))
def gn:PSt:=
 (aj (ay false 3 (pIf (qOf (pOp bEq (pFn bj (aa (af 1) ag)) (ah 1))) (ah 0) (bz (aa (af 2) (aa (pFn jE (aa (pFn bj (aa (af 1) ag)) ag)) ag)))))
  (xIf (qO (qOf (pOp bNe (ai aq (aa (af 2) (aa (af 0) (aa (af 1) ag)))) (af 3))) (qOf (pOp bNe (ai bc (aa (af 2) (aa (af 0) (aa (af 1) ag)))) (ai cW (aa (af 0) (aa (af 2) (aa (af 1) ag))))))) (ak (pBl false)) xNx))
def kE:PSt:=
 (aj (gX (cU (b8 (aa (aU "across") (aa (aU "down") ag)))) (gtN 2) (gn))
  (ak (pBl true)))
def dn:PFn:=fnP [false,false] 4 kE
def pX:dn.ms=[false,false]:=rfl
def oO(T:TT K mg):Callee P w K mg base "_law_strips" 56 ["_law_room_here", "_law_weights"] (sp3 K mg dn):=okP (T.d.get 75 rfl) (ax (N:=["_law_room_here", "_law_weights", "_law_way", "_law_due"]) (by decide)) (λ_ _ _ _ _ _=>ar2 λ_ _=>rfl) λnd _ _ _ _ _ _ _ hr=>'d'
def jt:PSt:=
 (xIf (qOf (pOp bNe (ai dW (aa (af 8) (aa (af 6) (aa (af 3) (aa (af 5) ag))))) (pOp bIx (b8 (aa (af 7) (aa (ah 0) ag))) (pFn xQ (aa (fA (pOp lY (af 6) eV) (pOp bLt (af 8) (ah 3))) ag))))) (ak (pBl false)) xNx)
def nE:PSt:=
 (aj (ay true 2 (ai fD (aa (af 0) (aa (af 1) ag))))
  (aj (ay false 3 (ai fk (aa (af 2) ag)))
  (aj (ay false 4 (pOp bGt (ai ao (aa (af 2) (aa (ah 4) ag))) (ah 0)))
  (aj (xIf (qNo (qTr (af 4))) (ay false 3 (pOp bIx (b8 (aa (pSl (af 3) oN (oS (ah 3))) (aa (pFn rZ (aa (af 3) ag)) (aa kq (aa (pOp bA (pSl (af 3) oN (oS (ah 3))) (bz (aa (bz (aa (ah 0) (aa (ah 1) ag))) ag))) ag))))) (ai ao (aa (af 2) (aa (ah 4) ag))))) xNx)
  (aj (ay false 5 (ai fq (aa (af 2) ag)))
  (aj (ay false 6 (pOp bIx eV (ai ao (aa (af 2) (aa (ah 6) ag)))))
  (aj (xIf (qOf (pOp bEq (ai ao (aa (af 2) (aa (ah 4) ag))) (ah 0))) (ay false 6 (pOp bIx (b8 (aa (aU "") (aa (aU "Rows") (aa (aU "half") (aa (aU "rows ") (aa (aU "third") (aa (aU "up") (aa (aU "greatests") ag)))))))) (ai ao (aa (af 2) (aa (ah 7) ag))))) xNx)
  (aj (ay false 7 (ah 4))
  (aj (xIf (qNo (qTr (af 4))) (ay false 7 (ah 1)) (xIf (qNo (qOf (ai fB (aa (af 5) ag)))) (ay false 7 (ah 2)) (xIf (qOf (pOp bGt (pFn bj (aa (af 5) ag)) (ah 40))) (ay false 7 (ah 3)) xNx)))
  (aj (gX (iM (aa (ah 7) ag)) (gtN 8) (jt))
  (aj (xIf (qAn (qOf (pOp bEq (af 7) (ah 4))) (qNo (qOf (ai dn (aa (af 3) (aa (af 5) ag)))))) (ak (pBl false)) xNx)
  (xIf (qAn (qOf (pOp bEq (af 7) (ah 4))) (qOf (pOp bIn (af 6) eV))) (aj (ay false 9 (ai aq (aa (af 6) (aa (af 3) (aa (af 5) ag)))))
  (xIf (qOf (pOp bNe (ai bc (aa (af 6) (aa (af 3) (aa (af 5) ag)))) (ai cz (aa (af 3) (aa (af 5) (aa (af 9) ag)))))) (ak (pBl false)) xNx)) xNx))))))))))))
def Dz:PSt:=
 (aj (xIf (qOf (pOp bNe eV (bz (aa (aU "across") (aa (aU "down") (aa (aU "halves") (aa (aU "rows") (aa (aU "greatest") (aa (aU "thirds") ag))))))))) (ak (pBl false)) xNx)
  (aj (gX (iM (aa (pFn tP (aa (ah 1) (aa (pFn ue (aa (ah 10) (aa (pFn bj (aa (af 0) ag)) ag))) ag))) ag)) (gtN 1) (nE))
  (ak (pBl true))))
def qJ:PFn:=fnP [false] 10 Dz
def Fe(T:TT K mg):Callee P w K mg base "law" 58 ["_law_script"] (sp3 K mg qJ):=okP (T.d.get 76 rfl) (ax (N:=["_law_script", "_law_k", "_law_feed_here", "_law_room_here", "_law_is_right", "_law_weights", "_law_rule", "_law_due", "_law_way", "_law_tree"]) (by decide)) (λ_ _ _ _ _ _=>ar1 λ_=>rfl) λnd _ _ _ _ _ _ _ hr=>'d'
end
noncomputable def fdV (a b k:Int):Val:=.lst [.int a,.int b,.int k]
def C9:jJ.G (.int 10) (.int 18)=.val (.int (10^18)):=v9 ⟨by decide,by decide,by decide⟩
def fI{a m:Int}(h:0<m):0<=a.fmod m/\a.fmod m<m:=⟨Int.fmod_nonneg_of_pos a h,Int.fmod_lt_of_pos a h⟩
set_option hygiene false in
local macro_rules | `(tactic|simp![$args,*])=>do
 let l <- ("% fZ IQ Ln Hd Lo LA Mf Gy mU Lm KL Ci wN Hz G9 Jc Gm JX JP Ip JM Eo Cw Ja Je zN F2 HV LK Me v_bl K6 My v_ty Lk v_un v_op LQ Hu v_fn Lv Mg Kz LJ v_if c_of c_tr c_an c_o c_no x_nx x_bk JT Lr Ei Ew F4 Gb Dp x_if KO K3 KP Fg CL AZ g_n g_sn g_sc g_t g_x IU LW LO MF FQ Lu Kt Ku LC LX IT GV Mh KH Jp sE HX Li Ko Jl JH Jv Gg Kh MC Mn lu v_lc JB G5 Gh o_n o_s v_sl v_d0 KS fx_G K1 Mq k_lt k_gt k_ge Mc Mi k_ix GA IH La k_eq k_ne Dt k_is L7 Mp Kf LS Lj Mk Eh IP B6 bH List.getElem?_cons_zero List.getElem?_cons_succ List.set_cons_zero List.set_cons_succ List.length_cons List.length_nil List.length_set Option.bind_some Option.map_some Option.isSome_some if_true if_false Bool.not_true Bool.not_false Bool.and_true Bool.true_and Bool.and_false Bool.false_and Bool.or_true Bool.true_or Bool.or_false Nat.reduceLeDiff Nat.reduceLT Nat.reduceAdd Nat.reduceSub Nat.zero_add Nat.add_zero Nat.sub_self List.cons_append List.nil_append List.append_nil List.replicate reduceCtorEq decide_true decide_false Bool.false_eq_true List.all_cons List.all_nil List.isEmpty_nil List.isEmpty_cons List.map_cons List.map_nil Int.reduceBEq Int.reduceLT Int.reduceAdd Int.reduceSub Int.reduceMul Int.cast_ofNat_Int Ig EC I0 JO Hy E8 BB Hw BC yJ Ec FD J1 Ee yD Fm J6 Cp HD Ed G7 AM F8 Gj EY L6 Kb Kr KI yk y9 xU wI uH zc CM zf xZ Af mr mz oE n8 ixn0 ixn1 LN cm yK Ic Int.reduceNeg D4 Jj EH List.lookup_cons List.lookup_nil Ga g_uL uG uo wx rY uu uD uz pQ ur lE o8 zA tu rE lQ kC j6 yP sN uK CP AJ yS zg wG uE pO oK r9 oz EF Ct m8 qr oA tJ jf lU oI mO sX tD xn qa qV uF uI wm kz BV uB so pX mR Az FJ".splitOn " ").tail.mapM λs=>`(Lean.Parser.Tactic.simpLemma| $(Lean.mkIdent s.toName):term)
 `(tactic|simp only[$(l.toArray),*,$args,*])
def aD{a b k m:Int}(h0:0<m)(hm:Sm 8000 m):∃r a' b',ao.G [fdV a b k,.int m]=.ok (.val (.int r)) [fdV a' b' k]/\0<=r/\r<m:=by
 unfold ao;rw[au];unfold mY fdV;have m0:m≠0:=by omega
 have d1:=λi=>gI (i:=i) m0;have d2:=λi=>nL (i:=i) (CDivB.of m0 hm);have ca:∀x:Int,CMulA 7919 x:=λx=>CMulA.left (by decide) (by decide);have cb:∀x:Int,CMulA 104729 x:=λx=>CMulA.left (by decide) (by decide);have cc:∀x:Int,CMulA x 48271:=λx=>CMulA.right (by decide) (by decide);have e1:dq.G (.int a) (.int 1000003)=.val (.int (a.fmod 1000003)):=gI (by decide);have e2:bJ.G (.int 7919) (.int k)=.val (.int (7919*k)):=cT (ca k);have e3:=λx=>cT (cb x);have e4:=λx=>cT (cc x);have e5:∀x:Int,dq.G (.int x) (.int 2147483647)=.val (.int (x.fmod 2147483647)):=λx=>gI (by decide);have e6:∀x:Int,dq.G (.int x) (.int 65521)=.val (.int (x.fmod 65521)):=λx=>gI (by decide);have e7:∀x y:Int,bJ.G (.int (x.fmod 2147483647)) (.int y)=.val (.int (x.fmod 2147483647*y)):=λx y=>cT (CMulA.left (by have:=(fI (a:=x) (m:=2147483647) (by decide)).1;omega) (by have:=(fI (a:=x) (m:=2147483647) (by decide)).2;omega));have e8:∀x:Int,dq.G (.int x) (.int 2147483629)=.val (.int (x.fmod 2147483629)):=λx=>gI (by decide);by_cases hc:(10^18:Int)<=a
 .have hc':decide ((10^18:Int)<=a)=true:=H_ hc;refine⟨a.fmod m,a.fdiv m,b+1,?_,fI h0⟩;simp![C9,hc',d1,d2]
  done
 .have hc':decide ((10^18:Int)<=a)=false:=D_ hc;refine⟨Int.fmod (Int.fmod (Int.fmod ((Int.fmod a 1000003+7919*k+104729*(b+1))*48271) 2147483647*(Int.fmod (Int.fmod ((Int.fmod a 1000003+7919*k+104729*(b+1))*48271) 2147483647) 65521+(b+1))) 2147483629) m,a,b+1,?_,fI h0⟩;simp![C9,hc',d1,e1,e2,e3,e4,e5,e6,e7,e8]
def x5(w:Bool):d8.G [.str (wy w)]=.ok (.val (.bl true)) []:=by
 have i1:∀x:Str,(aw aB).G [.str x,.ty "str"]=.val (.bl true):=λ_=>rfl;have i2:bIn.G (.str (wy w)) (.tup [.str "across",.str "down"])=.val (.bl true):=by cases w <;> rfl
 unfold d8;rw[au];unfold l6;simp![i1,i2]
def zW{w:Bool}{ts:List Val}(h:2<=ts.length):cZ.G [.tup [.str (wy w),.tup ts]]=.ok (.val (.bl true)) []:=by have e:=x5 w;have i1:∀xs:List Val,(aw aB).G [.tup xs,.ty "tuple"]=.val (.bl true):=λ_=>rfl;have g:decide ((2:Int)<=(ts.length:Nat))=true:=H_ (by omega);unfold cZ;rw[au];unfold iZ;simp![i1,e,xm,g]
def yg{a:Val}(h:lfV a=true):cZ.G [a]=.ok (.val (.bl false)) []:=by
 have i1:(aw aB).G [a,.ty "tuple"]=.val (.bl false):=by cases a <;> first |rfl |(cases h;done)
 unfold cZ;rw[au];unfold iZ;simp![i1]
def ya(k:Nat):bW.G [.int (k:Nat)]=.ok (.val (.bl true)) []:=by have i1:(aw aB).G [.int (k:Nat),.ty "int"]=.val (.bl true):=rfl;have i2:(aw aB).G [.int (k:Nat),.ty "bool"]=.val (.bl false):=rfl;unfold bW;rw[au];unfold jN;simp![i1,i2]
theorem kx{n:Nat}(v:Val):∀(N:Nat) (st:List AT) (xs:List Int) (s4:Sl),AT.cntL st<=N->s4.pl=true->(∀t∈st,t.ok=true)->(∀k∈AT.lvsL st,k<n)->(AT.lvsL st).Nodup->(∀k∈AT.lvsL st,((k:Nat):Int)∉xs)->xs.length+(AT.lvsL st).length<=3000->AT.cntL st<=100000->
 ∃(ys:List Int) (s4':Sl),ys.length=xs.length+(AT.lvsL st).length/\(xWh (qTr (af 3)) dE).G [.sh v,.sh (.int (n:Nat)),.ow (.set xs),.ow (.lst (st.map atV)),s4]=.nx [.sh v,.sh (.int (n:Nat)),.ow (.set ys),.ow (.lst []),s4']
 |
  N,[],xs,s4,_,_,_,_,_,_,_,_=>⟨xs,s4,by simp [AT.lvsL],by
  rw[gw];simp![M1,lO,List.isEmpty_nil]⟩
 |
  0,t::ts,xs,s4,h,_,_,_,_,_,_,_=>by
  rw[AT.cntL] at h;cases t <;> (rw[AT.cnt] at h;omega)
 |
  N+1,t0::ts0,xs,s4,hN,h4,ho,hn,nd,hx,hl,hc=>by
  obtain⟨st,t,hst⟩:∃st t,t0::ts0=st++[t]:=⟨(t0::ts0).dropLast,(t0::ts0).getLast (by simp),(List.dropLast_concat_getLast (by simp)).symm⟩;rw[hst] at hN ho hn nd hx hl hc ⊢;rw[AT.lvsL_app] at hn nd hx hl;rw[AT.lvsL_app];rw[AT.cntL_app] at hN hc;have hn0:((st++[t]).map atV).isEmpty=false:=by cases st <;> rfl
  have c1:(qTr (af 3)).G [.sh v,.sh (.int (n:Nat)),.ow (.set xs),.ow (.lst ((st++[t]).map atV)),s4]=.ok true [.sh v,.sh (.int (n:Nat)),.ow (.set xs),.ow (.lst ((st++[t]).map atV)),s4]:=by simp![lO,hn0,Bool.not_false]
  have hto:=ho t (by simp);rw[gw,c1];show ∃ys s4',_/\((dE.G _).loop _)=_;rw[Nr,z_,M1];cases t with
  |
   lf k=>
   simp only[AT.lvsL,AT.lvs,M8,L_,F_,M0,AT.cntL,AT.cnt] at hn nd hx hl hN hc ⊢;have hk:=hn k (by simp);have hkx:=hx k (by simp);have nda:=List.nodup_append.mp nd;obtain⟨ys,s4',q1,q2⟩:=kx (n:=n) v N st (fL xs (k:Nat)) (.sh (.int (k:Nat))) (by omega) rfl (λt ht=>ho t (by simp [ht])) (λj hj=>hn j (by simp [hj])) nda.1 (λj hj z=>by
    unfold fL at z;rw[if_neg hkx] at z;rcases G_.mp z with z |z
    .exact nda.2.2 j hj k (by simp) (Int.ofNat.inj z)
    .exact hx j (by simp [hj]) z) (by unfold fL;rw[if_neg hkx,F_];omega) (by omega)
   refine⟨ys,s4',by rw[q1];unfold fL;rw[if_neg hkx,F_];omega,?_⟩;have b1:=yg (a:=.int (k:Nat)) rfl;have w1:=ya k;have l0:decide (((k:Nat):Int)<0)=false:=D_ (by omega);have l1:decide (((n:Nat):Int)<=(k:Nat))=false:=D_ (by omega);have in1:decide (((k:Nat):Int)∈xs)=false:=D_ hkx;have av:atV (.lf k)=.int (k:Nat):=rfl;have xl:xs.length<4000:=by omega
   have bb:dE.G [.sh v,.sh (.int (n:Nat)),.ow (.set xs),.ow (.lst (st.map atV++[atV (.lf k)])),s4]=.nx [.sh v,.sh (.int (n:Nat)),.ow (.set (fL xs (k:Nat))),.ow (.lst (st.map atV)),.sh (.int (k:Nat))]:=by unfold dE;rw[av];simp![mK,h4,b1,w1,l0,l1,L5,in1,Jz,tS,A1,xl]
   rw[bb];exact q2
  |
   nd w ts=>
   have ho':=hto;rw[AT.ok,t_] at hto;have h2:2<=ts.length:=N9 hto.1;have hk:=AT.okL_mem.mp hto.2;simp only[AT.lvsL,AT.lvs,M8,AT.cntL,AT.cnt] at hn nd hx hl hN hc ⊢;obtain⟨ys,s4',q1,q2⟩:=kx (n:=n) v N (st++ts) xs (.sh (atV (.nd w ts))) (by rw[AT.cntL_app];omega) rfl (λt ht=>by
    rcases Ol.mp ht with ht |ht
    .exact ho t (by simp [ht])
    .exact hk t ht) (by rw[AT.lvsL_app];exact hn) (by rw[AT.lvsL_app];exact nd) (by rw[AT.lvsL_app];exact hx) (by rw[AT.lvsL_app];exact hl) (by rw[AT.cntL_app];omega)
   rw[AT.lvsL_app] at q1;refine⟨ys,s4',q1,?_⟩;have av:atV (.nd w ts)=.tup [.str (wy w),.tup (ts.map atV)]:=by unfold atV;rw[AT.val,AT.vals_map]
   have b1:=zW (w:=w) (ts:=ts.map atV) (by rw[p_];exact h2);have le:∀l:List AT,l.length<=AT.cntL l:=by
    intro l;induction l with
    |nil=>exact u_ _
    |cons t l ih=>rw[AT.cntL,F_];cases t <;> (rw[AT.cnt];omega)
   have ll:(st.map atV).length+(ts.map atV).length<=16777216:=by
    have:=le st
    have:=le ts
    rw[p_,p_];omega
   rw[av] at q2 ⊢;rw[Nr] at q2;have bb:dE.G [.sh v,.sh (.int (n:Nat)),.ow (.set xs),.ow (.lst (st.map atV++[.tup [.str (wy w),.tup (ts.map atV)]])),s4]=.nx [.sh v,.sh (.int (n:Nat)),.ow (.set xs),.ow (.lst (st.map atV++ts.map atV)),.sh (.tup [.str (wy w),.tup (ts.map atV)])]:=by unfold dE;simp![mK,h4,b1,pK,ll]
   rw[bb];exact q2
def xB{t:AT}{n:Nat}(ho:t.ok=true)(hn:∀k∈t.lvs,k<n)(nd:t.lvs.Nodup)(hl:t.lvs.length=n)(h3:n<=3000)(hc:t.cnt<=100000):gg.G [atV t,.int (n:Nat)]=.ok (.val (.bl true)) []:=by
 have e1:AT.lvsL [t]=t.lvs:=by simp [AT.lvsL]
 have e2:AT.cntL [t]=t.cnt:=by simp [AT.cntL]
 obtain⟨ys,s4',q1,q2⟩:=kx (n:=n) (atV t) (AT.cntL [t]) [t] [] .no (u_ _) rfl (λu hu=>by rw[Nt] at hu;rw[hu];exact ho) (by rw[e1];exact hn) (by rw[e1];exact nd) (λk hk z=>nomatch z) (by rw[e1,hl];simp;exact h3) (by rw[e2];exact hc);rw[e1,hl,M0,Nat.zero_add] at q1;rw[z_,M1] at q2;unfold gg;rw[au];unfold pB;generalize atV t=tv at *;simp![IA,q2,Ir,q1,MP]
def pY{t:AT}{n:Nat}(ho:t.ok=true)(hn:∀k∈t.lvs,k<n)(nd:t.lvs.Nodup)(hl:t.lvs.length=n)(h3:n<=3000)(hc:t.cnt<=100000):d6.G [atV t,.int (n:Nat)]=.ok (.val .non) []:=by have e:=xB ho hn nd hl h3 hc;unfold d6;rw[au];unfold kG;generalize atV t=tv at *;simp![e]
def gN(a:Int):(if a<0 then -a else a)=((a.natAbs:Nat):Int):=by split <;> omega
theorem rN:∀(n one b_:Nat),b_<=n->(xWh (qOf (pOp bNe (af 1) (ah 0))) dg).G [.sh (.int (one:Nat)),.sh (.int (b_:Nat))]=.nx [.sh (.int (Nat.gcd one b_:Nat)),.sh (.int 0)]
 |
  n,one,0,_=>by
  rw[gw];simp![fZ];rw[Nat.gcd_zero_right];try rfl
 |0,one,b_+1,hl=>absurd hl (by omega)
 |
  n+1,one,b_+1,hl=>by
  rw[gw];have e:((((b_+1:Nat):Int)==0))=false:=by rw[E_];omega
  have e1:dq.G (.int (one:Nat)) (.int ((b_+1:Nat):Int))=.val (.int (((one:Nat):Int).fmod ((b_+1:Nat):Int))):=gI (by omega);have e2:((one:Nat):Int).fmod ((b_+1:Nat):Int)=((one % (b_+1):Nat):Int):=by rw[Int.fmod_eq_emod_of_nonneg _ (by omega)];rfl
  have ih:=rN n (b_+1) (one % (b_+1)) (by have:=Nat.mod_lt one (show b_+1>0 by omega);omega);rw[Fr.euc] at ih;rw[e2] at e1;have bb:dg.G [.sh (.int (one:Nat)),.sh (.int ((b_+1:Nat):Int))]=.nx [.sh (.int ((b_+1:Nat):Int)),.sh (.int ((one % (b_+1):Nat):Int))]:=by unfold dg;simp![e1]
  simp![e,bb,ih]
def dk(a b:Int):bO.G [.int a,.int b]=.ok (.val (.int (Int.gcd a b:Nat))) []:=by
 unfold bO;rw[au];unfold iz
 have:=rN b.natAbs a.natAbs b.natAbs (u_ _)
 simp![gN,this];rfl
def cX{a b:Int}(hb:b≠0)(hs:Sm 8000 b):bC.G [.int a,.int b]=.ok (.val (fV ((a:Rat)/(b:Rat)))) []:=by
 unfold bC;rw[au];unfold nG;have e:(b==0)=false:=by rw[E_];exact hb
 have c:∀x,CDivB x (Fr.dv a b):=λx=>CDivB.of (Fr.dv_ne hb) (hs.of_le (by rw[Fr.dv_abs];exact Nat.le_of_dvd (by omega) (Nat.gcd_dvd_right a.natAbs b.natAbs)));have k1:=nL (c a);have k2:=nL (c b);have hh:=nA (a:=a) hb;have d_:Val.tup [.int (a.fdiv (Fr.dv a b)),.int (b.fdiv (Fr.dv a b))]=fV ((a:Rat)/(b:Rat)):=by unfold fV;rw[<- hh.1,<- hh.2];rfl
 by_cases hn:b<0
 .have hd:Fr.dv a b=-((Int.gcd a b:Nat):Int):=by unfold Fr.dv;rw[if_pos hn]
  rw[hd] at k1 k2 d_;simp![e,dk,H_ hn,k1,k2,d_]
 .have hd:Fr.dv a b=((Int.gcd a b:Nat):Int):=by unfold Fr.dv;rw[if_neg hn]
  rw[hd] at k1 k2 d_;simp![e,dk,D_ hn,k1,k2,d_]
def AY{p q:Rat}{n m:Nat}(hp:Sz n p)(hq:Sz m q)(h:n+m<=8000):jA.G [fV p,fV q]=.ok (.val (fV (p+q))) []:=by have c1:=cT (CMulA.of hp.top hq.bot (by omega) (by omega));have c2:=cT (CMulA.of hq.top hp.bot (by omega) (by omega));have c3:=cT (CMulA.of hp.bot hq.bot (by omega) (by omega));have fe:=cX (a:=p.num*q.den+q.num*p.den) (b:=p.den*q.den) (Oj (cR p) (cR q)) ((hp.bot.mul hq.bot).mono h);rw[<- Fc] at fe;unfold jA;rw[au];unfold vA;rw[show fV p=.tup [.int p.num,.int p.den] from rfl,show fV q=.tup [.int q.num,.int q.den] from rfl];simp![c1,c2,c3,fe]
def uh{p q:Rat}{n m:Nat}(hp:Sz n p)(hq:Sz m q)(h:n+m<=8000):gL.G [fV p,fV q]=.ok (.val (fV (p*q))) []:=by have c1:=cT (CMulA.of hp.top hq.top (by omega) (by omega));have c2:=cT (CMulA.of hp.bot hq.bot (by omega) (by omega));have fe:=cX (a:=p.num*q.num) (b:=p.den*q.den) (Oj (cR p) (cR q)) ((hp.bot.mul hq.bot).mono h);rw[<- va] at fe;unfold gL;rw[au];unfold uZ;rw[show fV p=.tup [.int p.num,.int p.den] from rfl,show fV q=.tup [.int q.num,.int q.den] from rfl];simp![c1,c2,fe]
def jM{p q:Rat}{n m:Nat}(hp:Sz n p)(hq:Sz m q)(h1:n<=100000)(h2:m<=100000):eg.G [fV p,fV q]=.ok (.val (.bl (decide (p<q)))) []:=by have c1:=cT (CMulA.of hp.top hq.bot h1 h2);have c2:=cT (CMulA.of hq.top hp.bot h2 h1);unfold eg;rw[au];unfold pw;rw[show fV p=.tup [.int p.num,.int p.den] from rfl,show fV q=.tup [.int q.num,.int q.den] from rfl];simp![c1,c2];rw[show decide (p.num*(q.den:Int)<q.num*(p.den:Int))=decide (p<q) from Oz.mpr (JS p q).symm]
def kY{v:Val}(hk:knV v=true):(aw aB).G [v,.ty "tuple"]=.val (.bl (ft v)):=by cases v <;> first |rfl |cases hk
def jb{v:Val}(hk:knV v=true):bW.G [v]=.ok (.val (.bl (gW v))) []:=by unfold bW;rw[au];unfold jN;cases v <;> first |rfl |cases hk
def sS(v:Val):ft v=false\/∃xs,v=.tup xs:=by cases v <;> first |exact .inr ⟨_,rfl⟩ |exact .inl rfl
def ig(v:Val):gW v=false\/∃i,v=.int i:=by cases v <;> first |exact .inr ⟨_,rfl⟩ |exact .inl rfl
def J8{v:Val}(h:ft v=false):aL v=false:=by cases v <;> first |rfl |cases h
def J9{v:Val}(h:ft v=false):eG v=false:=by cases v <;> first |rfl |cases h
def II{a b:Val}(h:gW a=false):aL (.tup [a,b])=false:=by cases a <;> first |rfl |cases h
def GB{i:Int}{b:Val}(h:gW b=false):aL (.tup [.int i,b])=false:=by cases b <;> first |rfl |cases h
def Ky{xs:List Val}(hl:xs.length≠2):aL (.tup xs)=false:=by
 unfold aL;split
 .rename_i e;injection e with e;subst e;exact absurd rfl hl
 .rfl
def LL{xs:List Val}(hl:xs.length≠4):eG (.tup xs)=false:=by
 unfold eG;split
 .rename_i e;injection e with e;subst e;exact absurd rfl hl
 .rfl
def Dn{k:Nat}{v:Val}(ha:gv k v=true)(h:ft v=false):knV v=true:=by
 cases v with
 |tup xs=>cases h
 |_=>cases k <;> exact ha
def og{v:Val}(ha:gv 1 v=true):cM.G [v]=.ok (.val (.bl (aL v))) []:=by
 unfold cM;rw[au];unfold j0;rcases sS v with ht |⟨xs,rfl⟩
 .have it:=kY (Dn ha ht);rw[ht] at it;simp![it,J8 ht]
 have it:=kY (v:=.tup xs) rfl;by_cases hl:xs.length=2
 .match xs,hl,ha with
  |
   [a,b],_,ha=>
   have ha':(knV a&&(knV b&&true))=true:=by simpa [gv] using ha
   simp only[t_] at ha';have w1:=jb ha'.1;have w2:=jb ha'.2.1;rcases ig a with h1 |⟨i,rfl⟩
   .rw[h1] at w1;simp![it,ft,w1,II h1]
   rcases ig b with h2 |⟨j,rfl⟩
   .rw[h2] at w2;simp![it,ft,w1,gW,w2,GB h2]
   have f:aL (.tup [.int i,.int j])=(decide (1<=j)&&decide (Int.gcd i j=1)):=rfl;have g:((((Int.gcd i j:Nat):Int)==1):Bool)=decide (Int.gcd i j=1):=by rw[O4,MX,Np];omega
   by_cases hj:1<=j
   .simp![it,ft,w1,w2,gW,dk,H_ hj,f,g]
   .simp![it,ft,w1,w2,gW,dk,D_ hj,f,g]
 .have e:(((xs.length:Nat):Int)==2)=false:=by rw[E_];omega
  simp![it,ft,e,Ky hl]
def o9{v:Val}(ha:gv 2 v=true):iB.G [v]=.ok (.val (.bl (eG v))) []:=by
 unfold iB;rw[au];unfold rR;rcases sS v with ht |⟨xs,rfl⟩
 .have it:=kY (Dn ha ht);rw[ht] at it;simp![it,J9 ht]
 have it:=kY (v:=.tup xs) rfl;by_cases hl:xs.length=4
 .match
   xs,hl,ha with
  |
   [a,b,c,d],_,ha=>
   have e1:eG (.tup [a,b,c,d])=(aL a&&(aL b&&(aL c&&(aL d&&(gi c&&gi d))))):=rfl;have bl4:∀x y z w:Bool,jB [.bl x,.bl y,.bl z,.bl w]=some [x,y,z,w]:=λ_ _ _ _=>rfl;obtain⟨e',⟨s',rfl,_⟩,lc⟩:=kN (g:=(gtN 0).G) (F:=(ai cM (aa (af 0) ag)).G) (f:=λv=>.bl (aL v)) (λe=>∃s,e=[s]/\s.pl=true) [a,b,c,d] [] [.no] ⟨.no,rfl,rfl⟩ (by
    rintro v hv e ⟨s,rfl,hs⟩;have hv':gv 1 v=true:=K_.mp (by simpa [gv] using ha) v hv;refine⟨[.sh v],.val (.bl (aL v)),[.sh v],?_,?_,rfl,⟨_,rfl,rfl⟩⟩
    .simp![hs]
    .simp![og hv']) (by simp)
   have cy:cY=qY.G:=rfl;rw[cy,M9] at lc;simp only[z_,M1] at lc;cases hA:(aL a&&(aL b&&(aL c&&aL d))) with
   |
    true=>
    simp only[t_] at hA;obtain⟨p,rfl⟩:=zF hA.2.2.1;obtain⟨q,rfl⟩:=zF hA.2.2.2;rw[hA.1,hA.2.1,hA.2.2.1,hA.2.2.2] at e1 lc;have e2:eG (.tup [a,b,fV p,fV q])=(decide (0<p.num)&&decide (0<q.num)):=by rw[e1];rfl
    rw[e2];have i1:(fV p).items=some [.int p.num,.int p.den]:=rfl;have i2:(fV q).items=some [.int q.num,.int q.den]:=rfl;by_cases hp:0<p.num
    .simp![it,ft,lc,cm,bl4,id,i1,i2,H_ hp]
    .simp![it,ft,lc,cm,bl4,id,i1,D_ hp]
   |
    false=>
    have e2:eG (.tup [a,b,c,d])=false:=by rw[e1];revert hA;generalize aL a=a',aL b=b',aL c=c',aL d=d',(gi c&&gi d)=z;revert a' b' c' d' z;decide
    rw[e2];simp![it,ft,lc,cm,bl4,id,hA]
 .have e:(((xs.length:Nat):Int)==4)=false:=by rw[E_];omega
  simp![it,ft,e,LL hl]
def kF{v:Val}(ha:gv 2 v=true):aH.G [v]=if eG v=true then .ok (.val .non) [] else .exc "NoBox" []:=by
 unfold aH;rw[au];unfold lM;cases h:eG v with
 |true=>simp![o9 ha,h]
 |false=>simp![o9 ha,h]
def aT{b:Bx}(hb:b.Ok):aH.G [bV b]=.ok (.val .non) []:=by rw[kF (Jd b),Ck hb];rfl
def xa{v:Val}(h:gW v=false):eD v=false:=by cases v <;> first |rfl |cases h
def Cz(v:Val):d0 v=false\/∃xs,v=.lst xs:=by cases v <;> first |exact .inr ⟨_,rfl⟩ |exact .inl rfl
def sU{v:Val}(hk:knV v=true):dO.G [v]=.ok (.val (.bl (eD v))) []:=by
 have w:=jb hk;unfold dO;rw[au];unfold lN;rcases ig v with h |⟨i,rfl⟩
 .rw[h] at w;simp![w,xa h]
 .simp![w,gW];rfl
def kI{v:Val}(hk:knV v=true):(aw aB).G [v,.ty "list"]=.val (.bl (d0 v)):=by cases v <;> first |rfl |cases hk
noncomputable def ko (v:Val):R3F:=match v with
 |.lst xs=>if xs=[] then .exc "NoWeights" [] else if xs.all eD=true then (if xs.length<=40 then .ok (.val .non) [] else .exc "TooMany" []) else .exc "NoWeights" []
 |_=>.exc "NoWeights" []
def HI{v:Val}(h:d0 v=false):ko v=.exc "NoWeights" []:=by cases v <;> first |rfl |cases h
noncomputable def iq:Val->Bool
 |.lst xs=>decide (xs.length<=1000)&&xs.all knV
 |v=>knV v
def uU{v:Val}(h:iq v=true)(hl:d0 v=false):knV v=true:=by cases v <;> first |(cases hl;done) |exact h
theorem ip(f:Val->Bool):∀xs:List Val,jB (xs.map λv=>.bl (f v))=some (xs.map f)
 | []=>rfl
 |x::xs=>by show (jB (xs.map λv=>.bl (f v))).map (f x :: ·)=_;rw[ip f xs];rfl
def gF(f:Val->Bool)(xs:List Val):(xs.map f).all id=xs.all f:=by rw[List.all_map];rfl
def gR{v:Val}(ha:iq v=true):aF.G [v]=ko v:=by
 unfold aF;rw[au];unfold iL;rcases Cz v with hv |⟨xs,rfl⟩
 .have il:=kI (uU ha hv);rw[hv] at il;rw[HI hv];simp![il]
 .have ha':xs.length<=1000/\xs.all knV=true:=by simpa [iq] using ha
  have il:=kI (v:=.lst xs) rfl;unfold ko;dsimp only;by_cases h0:xs=[]
  .subst h0;simp![il]
  .have e0:(((xs.length:Nat):Int)==0)=false:=by rw[E_];intro z;exact h0 (List.length_eq_zero_iff.mp (by omega))
   rw[if_neg h0];obtain⟨e',p',lc⟩:=kN (g:=(gtN 0).G) (F:=(ai dO (aa (af 0) ag)).G) (f:=λv=>.bl (eD v)) (λe=>∃s,e=[s]/\s.pl=true) xs [] [.no] ⟨.no,rfl,rfl⟩ (by
    rintro v hv e ⟨s,rfl,hs⟩;refine⟨[.sh v],.val (.bl (eD v)),[.sh v],?_,?_,rfl,⟨_,rfl,rfl⟩⟩
    .simp![hs]
    .simp![sU (K_.mp ha'.2 v hv)]) (by simp;omega)
   obtain⟨s',rfl,_⟩:=p';have cy:cY=qY.G:=rfl;rw[cy,M9] at lc;have a_:(xs.map λv=>Val.bl (eD v)).length<=16777216:=by rw[p_];omega
   by_cases hw:xs.all eD=true
   .rw[if_pos hw];by_cases h40:xs.length<=40
    .have hd:decide ((40:Int)<((xs.length:Nat):Int))=false:=D_ (by omega);rw[if_pos h40];simp![il,e0,cm,lc,a_,ip,gF,hw,hd]
    .have hd:decide ((40:Int)<((xs.length:Nat):Int))=true:=H_ (by omega);rw[if_neg h40];simp![il,e0,cm,lc,a_,ip,gF,hw,hd]
   .have hw':xs.all eD=false:=Bool.eq_false_iff.mpr hw;rw[if_neg hw];simp![il,e0,cm,lc,a_,ip,gF,hw']
def dZ{ws:List Int}(h0:ws≠[])(h1:∀w∈ws,1<=w)(h2:ws.length<=40):aF.G [.lst (ws.map .int)]=.ok (.val .non) []:=by
 have ha:iq (.lst (ws.map .int))=true:=by simp only[iq,t_,Np,p_];exact⟨by omega,by rw[K_];intro v hv;obtain⟨w,_,rfl⟩:=MR.mp hv;rfl⟩
 rw[gR ha];unfold ko;dsimp only;rw[if_neg (by intro z;exact h0 (Pg.mp z)),if_pos (by rw[K_];intro v hv;obtain⟨w,hw,rfl⟩:=MR.mp hv;exact H_ (h1 w hw)),if_pos (by rw[p_];exact h2)]
def rb:aG (.str "down") (.str "across")=some false:=by rw[L3.eq_str (by decide) (by decide)];exact MK some (by decide)
def sr:aG (.str "across") (.str "across")=some true:=by rw[L3.eq_str (by decide) (by decide)];exact MK some (by decide)
noncomputable def prV (p:Rat×Rat):Val:=.tup [fV p.1,fV p.2]
theorem vL{s l:Rat}{n m:Nat}{W:Int}{wv:Val}(hs:Sz n s)(hl:Sz n l)(hW:0<W)(mW:Sm m W)(h:n+n+m<=8000):∀(ws:List Int) (a:Int) (acc:List (Rat×Rat)) (s6 s7:Sl),s6.pl=true->s7.pl=true->0<=a->(∀w∈ws,0<=w)->a+ws.sum<=W->acc.length+ws.length<=16777216->∃s6' s7',fg (gtN 6).G iK.G (ws.map .int) [.sh (fV s),.sh (fV l),.sh wv,.sh (.int W),.sh (.int a),.ow (.lst (acc.map prV)),s6,s7]=.nx [.sh (fV s),.sh (fV l),.sh wv,.sh (.int W),.sh (.int (a+ws.sum)),.ow (.lst ((acc++shL s l W a ws).map prV)),s6',s7']
 | [],a,acc,s6,s7,h6,h7,ha,hw,hsum,a_=>⟨s6,s7,by rw[M1,lu,List.sum_nil,Int.add_zero];unfold shL;rw[M8]⟩
 |
  w::ws,a,acc,s6,s7,h6,h7,ha,hw,hsum,a_=>by
  have hw0:=hw w (s_ ..);have hws:0<=ws.sum:=by
   have:∀l:List Int,(∀w∈l,0<=w)->0<=l.sum:=by
    intro l;induction l with
    |nil=>intro _;simp
    |cons x l ih=>intro hx;rw[M3];have:=hx x (s_ ..);have:=ih λw hw=>hx w (q_ _ hw);omega
   exact this ws λx hx=>hw x (q_ _ hx)
  rw[M3] at hsum;rw[F_] at a_;have sa:Sm m a:=mW.of_le (by omega);have sw:Sm m w:=mW.of_le (by omega);have f1:=cX (a:=a) (b:=W) (by omega) (mW.mono (by omega));have f2:=cX (a:=w) (b:=W) (by omega) (mW.mono (by omega));have z1:Sz m ((a:Rat)/(W:Rat)):=Sz.div (by omega) sa mW m (u_ _) (u_ _);have z2:Sz m ((w:Rat)/(W:Rat)):=Sz.div (by omega) sw mW m (u_ _) (u_ _);have t1:=uh hl z1 (by omega);have t2:=uh hl z2 (by omega);have ad:=AY hs (hl.mul z1) (by omega);have ll:(acc.map prV).length<16777216:=by rw[p_];omega
  obtain⟨t6,t7,ih⟩:=vL (wv:=wv) hs hl hW mW h ws (a+w) (acc++[(s+l*((a:Rat)/(W:Rat)),l*((w:Rat)/(W:Rat)))]) (.sh (.int w)) (.sh (fV (s+l*((a:Rat)/(W:Rat))))) rfl rfl (by omega) (λx hx=>hw x (q_ _ hx)) (by omega) (by simp;omega);refine⟨t6,t7,?_⟩;have g1:(gtN 6).G (.int w) [.sh (fV s),.sh (fV l),.sh wv,.sh (.int W),.sh (.int a),.ow (.lst (acc.map prV)),s6,s7]=some [.sh (fV s),.sh (fV l),.sh wv,.sh (.int W),.sh (.int a),.ow (.lst (acc.map prV)),.sh (.int w),s7]:=by simp![h6]
  have b1:iK.G [.sh (fV s),.sh (fV l),.sh wv,.sh (.int W),.sh (.int a),.ow (.lst (acc.map prV)),.sh (.int w),s7]=.nx [.sh (fV s),.sh (fV l),.sh wv,.sh (.int W),.sh (.int (a+w)),.ow (.lst ((acc++[(s+l*((a:Rat)/(W:Rat)),l*((w:Rat)/(W:Rat)))]).map prV)),.sh (.int w),.sh (fV (s+l*((a:Rat)/(W:Rat))))]:=by unfold iK;rw[Nr];simp![h7,f1,f2,t1,t2,ad,ll,prV]
  rw[z_,eW,g1];simp only[b1,mU];rw[ih,M3];rw[show shL s l W a (w::ws)=(s+l*((a:Rat)/(W:Rat)),l*((w:Rat)/(W:Rat)))::shL s l W (a+w) ws from rfl,List.append_assoc,show a+w+ws.sum=a+(w+ws.sum) by omega];rfl
def pz{s l:Rat}{n m:Nat}{ws:List Int}(hs:Sz n s)(hl:Sz n l)(hw:∀w∈ws,0<=w)(h0:0<ws.sum)(mW:Sm m ws.sum)(h:n+n+m<=8000)(a_:ws.length<=1000):fT.G [fV s,fV l,.lst (ws.map .int)]=.ok (.new (.lst ((shL s l ws.sum 0 ws).map prV))) []:=by obtain⟨s6,s7,lo⟩:=vL (wv:=.lst (ws.map .int)) hs hl h0 mW h ws 0 [] .no .no rfl rfl (by omega) hw (by omega) (by simp;omega);rw[M9,M1] at lo;unfold fT;rw[au];unfold tN;simp![lo]
def GI{way:Str}(hw:way="across" \/ way="down"):eO.G [.str way]=.ok (.val .non) []:=by
 have i1:∀x:Str,(aw aB).G [.str x,.ty "str"]=.val (.bl true):=λ_=>rfl;have i2:bIn.G (.str way) (.tup [.str "across",.str "down"])=.val (.bl true):=by rcases hw with rfl |rfl <;> rfl
 have e1:d8.G [.str way]=.ok (.val (.bl true)) []:=by unfold d8;rw[au];unfold l6;simp![i1,i2]
 unfold eO;rw[au];unfold lH;simp![e1]
def iP{b:Bx}{n m:Nat}{way:Str}{ws:List Int}(hb:b.Ok)(hs:b.Sz n)(hway:way="across" \/ way="down")(h0:ws≠[])(hw:∀w∈ws,1<=w)(mW:Sm m ws.sum)(h:n+n+m<=8000)(a_:ws.length<=40):cW.G [bV b,.str way,.lst (ws.map .int)]=.ok (.new (.lst ((aA b way ws).map bV))) []:=by
 have cw:=dZ h0 hw a_;have cy:=GI hway;have sp:0<ws.sum:=by
  cases ws with
  |nil=>exact absurd rfl h0
  |
   cons x l=>
   rw[M3]
   have:=hw x (s_ ..)
   have:∀l:List Int,(∀w∈l,1<=w)->0<=l.sum:=by
    intro l;induction l with
    |nil=>intro _;simp
    |cons x l ih=>intro hx;rw[M3];have:=hx x (s_ ..);have:=ih λw hw=>hx w (q_ _ hw);omega
   have:=this l λx hx=>hw x (q_ _ hx)
   omega
 have cb:aH.G [.tup [fV b.l,fV b.t,fV b.w,fV b.h]]=.ok (.val .non) []:=aT hb;have sh1:=pz hs.l hs.w (λw z=>by have:=hw w z;omega) sp mW h (by omega);have sh2:=pz hs.t hs.h (λw z=>by have:=hw w z;omega) sp mW h (by omega);show cW.G [.tup [fV b.l,fV b.t,fV b.w,fV b.h],.str way,.lst (ws.map .int)]=_;unfold cW aA;rw[au];unfold sF;rcases hway with rfl |rfl
 .rw[if_pos (rfl:("across" : Str)="across")];have ln:=jg b.l b.w ws.sum ws 0;obtain⟨e',⟨s,t,rfl,_,_⟩,lc⟩:=eA (g:=(gtT 2 (br (gtN 0) (br (gtN 1) eM))).G) (F:=(bz (aa (af 0) (aa (af 2) (aa (af 1) (aa (af 3) ag))))).G) prV (λp=>bV ⟨p.1,b.t,p.2,b.h⟩) (λe=>∃s t,e=[s,t,.sh (fV b.t),.sh (fV b.h)]/\s.pl=true/\t.pl=true) (shL b.l b.w ws.sum 0 ws) [] [.no,.no,.sh (fV b.t),.sh (fV b.h)] ⟨.no,.no,rfl,rfl,rfl⟩ (by
   rintro p hp e ⟨s,t,rfl,hs,ht⟩;refine⟨[.sh (fV p.1),.sh (fV p.2),.sh (fV b.t),.sh (fV b.h)],.val (bV ⟨p.1,b.t,p.2,b.h⟩),[.sh (fV p.1),.sh (fV p.2),.sh (fV b.t),.sh (fV b.h)],?_,?_,rfl,⟨_,_,rfl,rfl,rfl⟩⟩
   .simp![prV,hs,ht]
   .simp![bV]) (by rw[ln,M0];omega)
  rw[M9] at lc;have ll:((shL b.l b.w ws.sum 0 ws).map λp=>bV ⟨p.1,b.t,p.2,b.h⟩).length<=16777216:=by rw[p_,ln];omega
  rw[NM,show (bV ∘ λp:Rat×Rat=>(⟨p.1,b.t,p.2,b.h⟩:Bx))=λp=>bV ⟨p.1,b.t,p.2,b.h⟩ from rfl];simp![cb,cy,cw,sr,sh1,lc,ll]
 .have hne:¬ (("down" : Str)="across"):=by decide
  rw[if_neg hne];have ln:=jg b.t b.h ws.sum ws 0;obtain⟨e',⟨s,t,rfl,_,_⟩,lc⟩:=eA (g:=(gtT 2 (br (gtN 0) (br (gtN 1) eM))).G) (F:=(bz (aa (af 2) (aa (af 0) (aa (af 3) (aa (af 1) ag))))).G) prV (λp=>bV ⟨b.l,p.1,b.w,p.2⟩) (λe=>∃s t,e=[s,t,.sh (fV b.l),.sh (fV b.w)]/\s.pl=true/\t.pl=true) (shL b.t b.h ws.sum 0 ws) [] [.no,.no,.sh (fV b.l),.sh (fV b.w)] ⟨.no,.no,rfl,rfl,rfl⟩ (by
   rintro p hp e ⟨s,t,rfl,hs,ht⟩;refine⟨[.sh (fV p.1),.sh (fV p.2),.sh (fV b.l),.sh (fV b.w)],.val (bV ⟨b.l,p.1,b.w,p.2⟩),[.sh (fV p.1),.sh (fV p.2),.sh (fV b.l),.sh (fV b.w)],?_,?_,rfl,⟨_,_,rfl,rfl,rfl⟩⟩
   .simp![prV,hs,ht]
   .simp![bV]) (by rw[ln,M0];omega)
  rw[M9] at lc;have ll:((shL b.t b.h ws.sum 0 ws).map λp=>bV ⟨b.l,p.1,b.w,p.2⟩).length<=16777216:=by rw[p_,ln];omega
  rw[NM,show (bV ∘ λp:Rat×Rat=>(⟨b.l,p.1,b.w,p.2⟩:Bx))=λp=>bV ⟨b.l,p.1,b.w,p.2⟩ from rfl];simp![cb,cy,cw,rb,sh2,lc,ll]
theorem iU{f:Nat->Val}(v:Val):∀(N:Nat) (st:List AT) (acc:List Nat) (s3:Sl),AT.cntL st<=N->s3.pl=true->(∀k∈AT.lvsL st,lfV (f k)=true)->acc.length+AT.cntL st<=100000->
 ∃(l:List Nat) (s3':Sl),l.Perm (AT.lvsL st)/\(xWh (qTr (af 2)) cG).G [.sh v,.ow (.lst (acc.map f)),.ow (.lst (st.map (AT.val f))),s3]=.nx [.sh v,.ow (.lst ((acc++l).map f)),.ow (.lst []),s3']
 |
  N,[],acc,s3,_,_,_,_=>⟨[],s3,.nil,by
  rw[gw,M8];simp![M1,lO,List.isEmpty_nil]⟩
 |
  0,t::ts,acc,s3,h,_,_,_=>by
  rw[AT.cntL] at h;cases t <;> (rw[AT.cnt] at h;omega)
 |
  N+1,t0::ts0,acc,s3,hN,h3,hf,hl=>by
  obtain⟨st,t,hst⟩:∃st t,t0::ts0=st++[t]:=⟨(t0::ts0).dropLast,(t0::ts0).getLast (by simp),(List.dropLast_concat_getLast (by simp)).symm⟩;rw[hst] at hN hf hl ⊢;rw[AT.lvsL_app] at hf;rw[AT.lvsL_app];rw[AT.cntL_app] at hN hl;have hn0:((st++[t]).map (AT.val f)).isEmpty=false:=by cases st <;> rfl
  have c1:(qTr (af 2)).G [.sh v,.ow (.lst (acc.map f)),.ow (.lst ((st++[t]).map (AT.val f))),s3]=.ok true [.sh v,.ow (.lst (acc.map f)),.ow (.lst ((st++[t]).map (AT.val f))),s3]:=by simp![lO,hn0,Bool.not_false]
  rw[gw,c1];show ∃l s3',_/\((cG.G _).loop _)=_;rw[Nr,z_,M1];cases t with
  |
   lf k=>
   simp only[AT.lvsL,AT.lvs,M8,AT.cntL,AT.cnt] at hf hN hl ⊢;obtain⟨l,s3',q1,q2⟩:=iU (f:=f) v N st (acc++[k]) (.sh (f k)) (by omega) rfl (λj hj=>hf j (by simp [hj])) (by rw[L_];simp only[F_,M0];omega);refine⟨k::l,s3',((q1.cons k).trans (List.perm_append_comm (l₁:=[k]) (l₂:=AT.lvsL st))),?_⟩;have i1:(aw aB).G [f k,.ty "tuple"]=.val (.bl false):=by
    have:=hf k (by simp)
    generalize f k=a at *;cases a <;> first |rfl |(cases this;done)
   have al:(acc.map f).length<16777216:=by rw[p_];omega
   have bb:cG.G [.sh v,.ow (.lst (acc.map f)),.ow (.lst (st.map (AT.val f)++[AT.val f (.lf k)])),s3]=.nx [.sh v,.ow (.lst ((acc++[k]).map f)),.ow (.lst (st.map (AT.val f))),.sh (f k)]:=by unfold cG;rw[AT.val,Nr,z_,M1];generalize f k=a at *;simp![mK,h3,i1,al]
   rw[bb,show acc++k::l=acc++[k]++l by simp];exact q2
  |
   nd w ts=>
   simp only[AT.lvsL,AT.lvs,M8,AT.cntL,AT.cnt] at hf hN hl ⊢;obtain⟨l,s3',q1,q2⟩:=iU (f:=f) v N (st++ts) acc (.sh (AT.val f (.nd w ts))) (by rw[AT.cntL_app];omega) rfl (by rw[AT.lvsL_app];exact hf) (by rw[AT.cntL_app];omega);rw[AT.lvsL_app] at q1;refine⟨l,s3',q1,?_⟩;have i1:∀xs:List Val,(aw aB).G [.tup xs,.ty "tuple"]=.val (.bl true):=λ_=>rfl;have le:∀l:List AT,l.length<=AT.cntL l:=by
    intro l;induction l with
    |nil=>exact u_ _
    |cons t l ih=>rw[AT.cntL,F_];cases t <;> (rw[AT.cnt];omega)
   have ll:(st.map (AT.val f)).length+(ts.map (AT.val f)).length<=16777216:=by
    have:=le st
    have:=le ts
    rw[p_,p_];omega
   rw[AT.val,AT.vals_map] at q2 ⊢;rw[Nr] at q2;have bb:cG.G [.sh v,.ow (.lst (acc.map f)),.ow (.lst (st.map (AT.val f)++[.tup [.str (wy w),.tup (ts.map (AT.val f))]])),s3]=.nx [.sh v,.ow (.lst (acc.map f)),.ow (.lst (st.map (AT.val f)++ts.map (AT.val f))),.sh (.tup [.str (wy w),.tup (ts.map (AT.val f))])]:=by unfold cG;simp![mK,h3,i1,xm,pK,ll]
   rw[bb];exact q2
def zH{f:Nat->Val}{t:AT}(hf:∀k∈t.lvs,lfV (f k)=true)(hc:t.cnt<=100000):∃l:List Nat,l.Perm t.lvs/\dP.G [t.val f]=.ok (.new (.lst (l.map f))) []:=by
 have e1:AT.lvsL [t]=t.lvs:=by simp [AT.lvsL]
 have e2:AT.cntL [t]=t.cnt:=by simp [AT.cntL]
 obtain⟨l,s3',q1,q2⟩:=iU (f:=f) (t.val f) (AT.cntL [t]) [t] [] .no (u_ _) rfl (by rw[e1];exact hf) (by rw[e2,M0];omega);rw[e1] at q1;refine⟨l,q1,?_⟩;rw[z_,M1,M1,M9] at q2;unfold dP;rw[au];unfold lI;generalize t.val f=tv at *;simp![q2]
def tX{ws:List Int}{l:List Nat}(hl:l.length<=1000)(hi:∀k∈l,k<ws.length):∃s,lcV (gtN 0).G qY.G (pOp bIx (af 1) (af 0)).G (l.map λk:Nat=>.int k) [] [.no,.sh (liV ws)]=.ok ((l.map λk=>ws.getD k 0).map .int) [s,.sh (liV ws)]:=by
 obtain⟨e',⟨s,rfl,_⟩,lc⟩:=eA (g:=(gtN 0).G) (F:=(pOp bIx (af 1) (af 0)).G) (λk:Nat=>Val.int k) (λk:Nat=>Val.int (ws.getD k 0)) (λe=>∃s:Sl,e=[s,.sh (liV ws)]/\s.pl=true) l [] [.no,.sh (liV ws)] ⟨.no,rfl,rfl⟩ (by
  rintro k hk _ ⟨s,rfl,hs⟩;have h1:=hi k hk;have a1:atI (ws.map Val.int) (k:Nat)=some (.int (ws.getD k 0)):=dY (by omega) (by rw[MQ];show (ws[k]?).map _=_;rw[MM,C_ h1];rfl);refine⟨[.sh (.int (k:Nat)),.sh (liV ws)],.val (.int (ws.getD k 0)),[.sh (.int (k:Nat)),.sh (liV ws)],?_,?_,rfl,_,rfl,rfl⟩
  .simp![hs]
  .unfold liV;simp![a1]) (by rw[M0];omega)
 exact⟨s,by rw[NM];exact lc⟩
def uJ{ws:List Int}{b:Bx}{w:Bool}{ts:List AT}{n m:Nat}(h:AT.lay ws n m (.nd w ts) b)(hnm:n+n+m<=8000)(hi:∀k∈AT.lvsL ts,k<ws.length)(hl:(AT.lvsL ts).length<=1000)(hc:AT.cntL ts<=100000):fo.G [bV b,liV ws,atV (.nd w ts)]=.ok (.new (.lst ((aA b (wy w) (ts.map (wtT ws))).map bV))) []:=by
 rw[AT.lay] at h;obtain⟨h1,h2,h3,h4,h5,h6,_⟩:=h;have ew:wy w="across" \/ wy w="down":=by cases w;exact .inr rfl;exact .inl rfl
 have pe:=iP h1 h2 ew (ws:=ts.map (wtT ws)) (by simpa using h3) (λx hx=>by obtain⟨t,ht,rfl⟩:=MR.mp hx;exact h5 t ht) h6 hnm (by rw[p_];exact h4);have cle:∀t∈ts,t.cnt<=AT.cntL ts:=λt ht=>AT.cnt_le ht;have lle:∀t∈ts,t.lvs.length<=(AT.lvsL ts).length:=λt ht=>AT.lvs_le ht;obtain⟨e',⟨s,rfl,_⟩,lc⟩:=eA (g:=(gtN 0).G) (F:=(pFn cJ (aa (pLC (cU (ai dP (aa (af 0) ag))) [none,some 1] (by decide) (gtN 0) qY (pOp bIx (af 1) (af 0))) ag)).G) atV (λt=>Val.int (wtT ws t)) (λe=>∃s:Sl,e=[s,.sh (liV ws)]/\s.pl=true) ts [] [.no,.sh (liV ws)] ⟨.no,rfl,rfl⟩ (by
  rintro t ht _ ⟨s,rfl,hs⟩;obtain⟨l,lp,e1⟩:=zH (f:=λk=>.int (k:Nat)) (t:=t) (λ_ _=>rfl) (by have:=cle t ht;omega);rw[show AT.val (λk=>Val.int (k:Nat)) t=atV t from rfl] at e1;obtain⟨s',lc⟩:=tX (ws:=ws) (l:=l) (by rw[lp.length_eq];have:=lle t ht;omega) (λk hk=>hi k (AT.lvsL_mem.mpr ⟨t,ht,lp.mem_iff.mp hk⟩));have ll:((l.map λk=>ws.getD k 0).map Val.int).length<=16777216:=by rw[p_,p_,lp.length_eq];have:=lle t ht;omega
  have sm:(l.map λk=>ws.getD k 0).sum=wtT ws t:=AX lp;refine⟨[.sh (atV t),.sh (liV ws)],.val (.int (wtT ws t)),[.sh (atV t),.sh (liV ws)],?_,?_,rfl,_,rfl,rfl⟩
  .generalize atV t=tv at *;simp![hs]
  .rw[<- sm];generalize atV t=tv at *;generalize liV ws=wv at *;generalize (l.map λk:Nat=>Val.int (k:Nat))=LV at *;simp![e1,cm,inS,lc,ll]) (by rw[M0];omega)
 have av:atV (.nd w ts)=.tup [.str (wy w),.tup (ts.map atV)]:=by unfold atV;rw[AT.val,AT.vals_map]
 have lm:ts.map (λt=>Val.int (wtT ws t))=(ts.map (wtT ws)).map .int:=by rw[NM];rfl
 have l2:((ts.map (wtT ws)).map Val.int).length<=16777216:=by rw[p_,p_];omega
 rw[M9,lm] at lc;rw[av];generalize (aA b (wy w) (ts.map (wtT ws))).map bV=PB at *;generalize (ts.map (wtT ws)).map Val.int=SV at *;generalize ts.map atV=TV at *;generalize liV ws=wv at *;generalize bV b=bv at *;unfold fo;rw[au];unfold nu;simp![cm,inS,lc,l2,pe]
theorem nH{ws:List Int}{n m k:Nat}(rv tv:Val):∀(ts:List AT) (bs:List Bx) (kvs:List (Key×Val)) (s4 s5:Sl),s4.pl=true->s5.pl=true->ts.length=bs.length->(∀(t:AT) (b:Bx) (kvs:List (Key×Val)),t∈ts->AT.lay ws n m t b->kvs.length+t.lvs.length<=100000->(dM k).G [bV b,liV ws,atV t,.dct kvs]=.ok (.val .non) [.dct (da kvs (AT.bx ws t b))])->AT.layL ws n m ts bs->kvs.length+(AT.lvsL ts).length<=100000->
 ∃s4' s5',fg (gtX (gtT 2 (br (gtN 4) (br (gtN 5) eM)))).G (jO (dM k)).G (List.zipWith (λx y=>Val.tup [x,y]) (ts.map atV) (bs.map bV)) [.sh rv,.sh (liV ws),.sh tv,.mu (.dct kvs),s4,s5]=.nx [.sh rv,.sh (liV ws),.sh tv,.mu (.dct (da kvs (AT.bxL ws ts bs))),s4',s5']
 | [],bs,kvs,s4,s5,_,_,_,_,_,_=>⟨s4,s5,by cases bs <;> rfl⟩
 |t::ts,[],kvs,s4,s5,_,_,h,_,_,_=>nomatch h
 |
  t::ts,b::bs,kvs,s4,s5,h4,h5,hl,hp,hy,hk=>by
  rw[AT.layL] at hy;rw[AT.lvsL,L_] at hk;have e1:=hp t b kvs (s_ ..) hy.1 (by omega);have a_:=qX (AT.bx ws t b) kvs;have hfst:=(AT.bx_fst ws t b).1;obtain⟨s4',s5',q⟩:=nH rv tv ts bs (da kvs (AT.bx ws t b)) (.sh (atV t)) (.sh (bV b)) rfl rfl (by simpa using hl) (λu c kv hu=>hp u c kv (q_ _ hu)) hy.2 (by omega);refine⟨s4',s5',?_⟩;rw[AT.bxL,BZ,z_,z_,List.zipWith_cons_cons,eW];generalize da kvs (AT.bx ws t b)=kvs1 at *;generalize atV t=av at *;generalize bV b=bv at *;generalize liV ws=wv at *;have g1:(gtX (gtT 2 (br (gtN 4) (br (gtN 5) eM)))).G (.tup [av,bv]) [.sh rv,.sh wv,.sh tv,.mu (.dct kvs),s4,s5]=some [.sh rv,.sh wv,.sh tv,.mu (.dct kvs),.sh av,.sh bv]:=by simp![h4,h5]
  have b1:(jO (dM k)).G [.sh rv,.sh wv,.sh tv,.mu (.dct kvs),.sh av,.sh bv]=.nx [.sh rv,.sh wv,.sh tv,.mu (.dct kvs1),.sh av,.sh bv]:=by unfold jO;simp![e1]
  rw[g1];dsimp only;rw[b1];exact q
def xw(b:Bx)(way:Str)(ws:List Int):(aA b way ws).length=ws.length:=by unfold aA;split <;> rw[p_,jg]
def AQ{ws:List Int}{n m:Nat}(hnm:n+n+m<=8000)(t:AT):∀(k:Nat) (b:Bx) (kvs:List (Key×Val)),t.dep<=k->AT.lay ws n m t b->(∀i∈t.lvs,i<ws.length)->t.lvs.length<=1000->t.cnt<=100000->kvs.length+t.lvs.length<=100000->(dM k).G [bV b,liV ws,atV t,.dct kvs]=.ok (.val .non) [.dct (da kvs (AT.bx ws t b))]:=by
 induction t using AT.ind with
 |
  h1 x=>
  intro k b kvs hd _ _ _ _ hk;cases k with
  |zero=>simp [AT.dep] at hd
  |
   succ k=>
   have i1:(aw aB).G [.int (x:Nat),.ty "tuple"]=.val (.bl false):=rfl;have kl:kvs.length<16777216:=by omega
   have av:atV (.lf x)=.int (x:Nat):=rfl;have pe:da kvs (AT.bx ws (.lf x) b)=ff kvs (.inl (x:Nat)) (bV b):=by rw[AT.bx];rfl
   show (PFx.of [false,false,false,true] 6 (gK (dM k))).G [bV b,liV ws,atV (.lf x),.dct kvs]=_;rw[kQ,av,pe];unfold gK;generalize bV b=bv at *;generalize liV ws=wv at *;simp![i1,Hr,kl]
 |
  h2 w ts ih=>
  intro k b kvs hd hy hi hl hc hk;cases k with
  |zero=>simp [AT.dep] at hd
  |
   succ k=>
   rw[AT.dep] at hd;rw[AT.lvs] at hi hl hk;rw[AT.cnt] at hc;have hd':=AT.depL_le.mp (show AT.depL ts<=k by omega);have pe:=uJ hy hnm hi hl (by omega);have hy':=hy;rw[AT.lay] at hy';obtain⟨s4,s5,lo⟩:=nH (ws:=ws) (n:=n) (m:=m) (k:=k) (bV b) (atV (.nd w ts)) ts (aA b (wy w) (ts.map (wtT ws))) kvs .no .no rfl rfl (by rw[xw,p_]) (λt c kv ht hy2 hk2=>ih t ht k c kv (hd' t ht) hy2 (λi hi2=>hi i (AT.lvsL_mem.mpr ⟨t,ht,hi2⟩)) (by have:=AT.lvs_le ht;omega) (by have:=AT.cnt_le ht;omega) hk2) hy'.2.2.2.2.2.2 hk;have av:atV (.nd w ts)=.tup [.str (wy w),.tup (ts.map atV)]:=by unfold atV;rw[AT.val,AT.vals_map]
   have bxe:AT.bx ws (.nd w ts) b=AT.bxL ws ts (aA b (wy w) (ts.map (wtT ws))):=by rw[AT.bx]
   show (PFx.of [false,false,false,true] 6 (gK (dM k))).G [bV b,liV ws,atV (.nd w ts),.dct kvs]=_;rw[kQ,bxe];unfold gK;rw[av] at pe lo ⊢;have i1:∀xs:List Val,(aw aB).G [.tup xs,.ty "tuple"]=.val (.bl true):=λ_=>rfl;generalize da kvs (AT.bxL ws ts (aA b (wy w) (ts.map (wtT ws))))=kvs1 at *;generalize (aA b (wy w) (ts.map (wtT ws))).map bV=PB at *;generalize ts.map atV=TV at *;generalize bV b=bv at *;generalize liV ws=wv at *;simp![i1,xm,pe,lo]
def mw{ws:List Int}{n m:Nat}{b:Bx}{t:AT}(hnm:n+n+m<=8000)(hb:b.Ok)(h0:ws≠[])(hw:∀w∈ws,1<=w)(h40:ws.length<=40)(ho:t.ok=true)(hi:∀k,k∈t.lvs ↔ k<ws.length)(nd:t.lvs.Nodup)(hl:t.lvs.length=ws.length)(hd:t.dep<=42)(hy:AT.lay ws n m t b):cz.G [bV b,liV ws,atV t]=.ok (.new (.lst ((List.range ws.length).map λk=>bV (bxO (AT.bx ws t b) k)))) []:=by
 have hc:=AT.cnt_lvs t ho;have cb:=aT hb;have cw:=dZ h0 hw h40;have ct:=pY (n:=ws.length) ho (λk hk=>(hi k).mp hk) nd hl (by omega) (by omega);have pl:=AQ (ws:=ws) hnm t 42 b [] hd hy (λk hk=>(hi k).mp hk) (by omega) (by omega) (by rw[M0];omega);have ll:((ws.map Val.int).length:Nat)=ws.length:=p_ ..;have rg:ja [.int (ws.length:Nat)]=some (rgV ws.length):=vm (by omega);have keys:=AT.bx_keys ws t b;obtain⟨e',⟨s,rfl,_⟩,lc⟩:=eA (g:=(gtN 0).G) (F:=(pOp xr (af 1) (af 0)).G) (λk:Nat=>Val.int k) (λk:Nat=>bV (bxO (AT.bx ws t b) k)) (λe=>∃s:Sl,e=[s,.mu (.dct (da [] (AT.bx ws t b)))]/\s.pl=true) (List.range ws.length) [] [.no,.mu (.dct (da [] (AT.bx ws t b)))] ⟨.no,rfl,rfl⟩ (by
  rintro k hk _ ⟨s,rfl,hs⟩;rw[MJ] at hk;have lk:=KC ((vc (k:=k) (AT.bx ws t b) [] (by rw[keys];exact nd)).1 (by rw[keys];exact (hi k).mpr hk));generalize da [] (AT.bx ws t b)=kv at *;generalize bV (bxO (AT.bx ws t b) k)=bv at *;refine⟨[.sh (.int (k:Nat)),.mu (.dct kv)],.val bv,[.sh (.int (k:Nat)),.mu (.dct kv)],?_,?_,rfl,_,rfl,rfl⟩
  .simp![hs]
  .simp![lk]) (by rw[M0,x_];omega)
 have l2:((List.range ws.length).map λk=>bV (bxO (AT.bx ws t b) k)).length<=16777216:=by simp;omega
 rw[M9] at lc;rw[show (List.range ws.length).map (λk:Nat=>Val.int k)=rgV ws.length from rfl] at lc;generalize (List.range ws.length).map (λk=>bV (bxO (AT.bx ws t b) k))=RB at *;generalize da [] (AT.bx ws t b)=kv at *;unfold liV at pl ⊢;generalize atV t=tv at *;generalize bV b=bv at *;unfold cz;rw[au];unfold mZ;simp![cb,cw,ll,ct,pl,rg,cm,inS,lc,l2]
def Ek{ns:List Int}{k:Int}(hk:0<=k):∃a,fD.G [.kl (ns.map .int),.int k]=.ok (.new (fdV a 0 k)) []:=by
 unfold fD;rw[au];unfold nF fdV;by_cases h0:ns.length=0
 .have e:((((ns.map Val.int).length:Nat):Int)==0)=true:=by rw[MX,p_];omega
  exact⟨0,by simp![e]⟩
 .have e:((((ns.map Val.int).length:Nat):Int)==0)=false:=by rw[E_,p_];omega
  have e1:dq.G (.int k) (.int ((ns.map Val.int).length:Nat))=.val (.int (k.fmod ((ns.map Val.int).length:Nat))):=gI (by rw[p_];omega);have r:=fI (a:=k) (m:=((ns.map Val.int).length:Nat)) (by rw[p_];omega);rw[p_] at r e1;have hi:(k.fmod (ns.length:Nat)).toNat<ns.length:=by omega
  have at1:atI (ns.map Val.int) (k.fmod (ns.length:Nat))=some (.int ns[(k.fmod (ns.length:Nat)).toNat]):=dY r.1 (by rw[MQ,C_ hi];rfl);rw[p_] at e;exact⟨ns[(k.fmod (ns.length:Nat)).toNat],by simp![p_,e,e1,at1]⟩
def pow6:jJ.G (.int 10) (.int 6)=.val (.int 1000000):=v9 ⟨by decide,by decide,by decide⟩
def Kc:ja [.int 6]=some [.int 0,.int 1,.int 2,.int 3,.int 4,.int 5]:=kT (i:=6) (by decide) (by decide)
def hJ{a b k far:Int}(h0:0<=far)(hf:far.natAbs<=2000000000000000000000000000000):∃r a' b',bU.G [fdV a b k,.int far]=.ok (.val (.int r)) [fdV a' b' k]/\-far<=r/\r<=far:=by obtain⟨r1,a1,b1,e1,_,_⟩:=aD (a:=a) (b:=b) (k:=k) (m:=1000000) (by decide) (sm8 (by decide));obtain⟨r2,a2,b2,e2,_,_⟩:=aD (a:=a1) (b:=b1) (k:=k) (m:=1000000) (by decide) (sm8 (by decide));obtain⟨r3,a3,b3,e3,_,_⟩:=aD (a:=a2) (b:=b2) (k:=k) (m:=1000000) (by decide) (sm8 (by decide));obtain⟨r4,a4,b4,e4,_,_⟩:=aD (a:=a3) (b:=b3) (k:=k) (m:=1000000) (by decide) (sm8 (by decide));obtain⟨r5,a5,b5,e5,_,_⟩:=aD (a:=a4) (b:=b4) (k:=k) (m:=1000000) (by decide) (sm8 (by decide));obtain⟨r6,a6,b6,e6,_,_⟩:=aD (a:=a5) (b:=b5) (k:=k) (m:=1000000) (by decide) (sm8 (by decide));have c6:∀x:Int,bJ.G (.int x) (.int 1000000)=.val (.int (x*1000000)):=λx=>cT (CMulA.right (by decide) (by decide));have c2:bJ.G (.int 2) (.int far)=.val (.int (2*far)):=cT (CMulA.left (by decide) (by decide));have c3:∀x:Int,dq.G (.int x) (.int (2*far+1))=.val (.int (x.fmod (2*far+1))):=λx=>gI (by omega);have fr:=fI (a:=(((((0*1000000+r1)*1000000+r2)*1000000+r3)*1000000+r4)*1000000+r5)*1000000+r6) (m:=2*far+1) (by omega);refine⟨((((((0*1000000+r1)*1000000+r2)*1000000+r3)*1000000+r4)*1000000+r5)*1000000+r6).fmod (2*far+1)-far,a6,b6,?_,by omega,by omega⟩;unfold bU;rw[au];unfold lK ki;unfold fdV at *;simp![Kc,eW,pow6,c6,e1,e2,e3,e4,e5,e6,c2,c3,Int.reduceMul]
theorem rM(x y:Val):∀(n one b_:Nat),b_<=n->(xWh (qOf (pOp bGt (af 3) (ah 0))) gH).G [.sh x,.sh y,.sh (.int (one:Nat)),.sh (.int (b_:Nat))]=.nx [.sh x,.sh y,.sh (.int (Nat.gcd one b_:Nat)),.sh (.int 0)]
 |
  n,one,0,_=>by
  rw[gw];simp![Nat.gcd_zero_right,Int.natCast_zero,Int.lt_irrefl]
 |0,one,b_+1,hl=>absurd hl (by omega)
 |
  n+1,one,b_+1,hl=>by
  rw[gw];have e:decide ((0:Int)<((b_+1:Nat):Int))=true:=H_ (by omega);have e1:dq.G (.int (one:Nat)) (.int ((b_+1:Nat):Int))=.val (.int (((one:Nat):Int).fmod ((b_+1:Nat):Int))):=gI (by omega);have e2:((one:Nat):Int).fmod ((b_+1:Nat):Int)=((one % (b_+1):Nat):Int):=by rw[Int.fmod_eq_emod_of_nonneg _ (by omega)];rfl
  have ih:=rM x y n (b_+1) (one % (b_+1)) (by have:=Nat.mod_lt one (show b_+1>0 by omega);omega);rw[Fr.euc] at ih;rw[e2] at e1;have bb:gH.G [.sh x,.sh y,.sh (.int (one:Nat)),.sh (.int ((b_+1:Nat):Int))]=.nx [.sh x,.sh y,.sh (.int ((b_+1:Nat):Int)),.sh (.int ((one % (b_+1):Nat):Int))]:=by unfold gH;simp![e1]
  simp![e,bb,ih]
def jy{a b:Int}(hb:b≠0)(hs:Sm 8000 b):cB.G [.int a,.int b]=.ok (.val (fV ((a:Rat)/(b:Rat)))) []:=by
 unfold cB;rw[au];unfold pG;have lo:=rM (.int a) (.int b) b.natAbs a.natAbs b.natAbs (u_ _);rw[show Nat.gcd a.natAbs b.natAbs=Int.gcd a b from rfl] at lo;have c:∀x,CDivB x (Fr.dv a b):=λx=>CDivB.of (Fr.dv_ne hb) (hs.of_le (by rw[Fr.dv_abs];exact Nat.le_of_dvd (by omega) (Nat.gcd_dvd_right a.natAbs b.natAbs)));have k1:=nL (c a);have k2:=nL (c b);have hh:=nA (a:=a) hb;have d_:Val.tup [.int (a.fdiv (Fr.dv a b)),.int (b.fdiv (Fr.dv a b))]=fV ((a:Rat)/(b:Rat)):=by unfold fV;rw[<- hh.1,<- hh.2];rfl
 by_cases hn:b<0
 .have hd:Fr.dv a b=0-((Int.gcd a b:Nat):Int):=by unfold Fr.dv;rw[if_pos hn];omega
  rw[hd] at k1 k2 d_;simp![gN,lo,H_ hn,k1,k2,d_]
 .have hd:Fr.dv a b=((Int.gcd a b:Nat):Int):=by unfold Fr.dv;rw[if_neg hn]
  rw[hd] at k1 k2 d_;simp![gN,lo,D_ hn,k1,k2,d_]
def p30:jJ.G (.int 10) (.int 30)=.val (.int 1000000000000000000000000000000):=v9 ⟨by decide,by decide,by decide⟩
def rmQ(k:Int)(r:SR3):Prop:=∃b a c,Good b/\mi [true] r=.ok (.val (bV b)) [fdV a c k]
def rmI(k way:Int)(e:E3):Prop:=∃b x a c,Good b/\x.pl=true/\e=[.mu (fdV a c k),.sh (.int way),.sh (fV b.l),.sh (fV b.t),.sh (fV b.w),.sh (fV b.h),x]
def jI{r:Int}(h:0<=r):0<1+r:=by omega
def wD{r:Int}(h:0<=r):1+r≠0:=by omega
def i9{r m:Int}(h0:0<=r)(h1:r<m)(hm:m<=1000):(1+r).natAbs<=2000000000000000000000000000000:=by omega
def qI{r m c:Int}(h0:0<=r)(h1:r<m)(hm:m<=1000)(hc:0<=c/\c<=1000):(r-c).natAbs<=2000000000000000000000000000000:=by omega
def oU{r far:Int}(h0:-far<=r)(h1:r<=far)(hf:far<=1000000000000000000000000000000):r.natAbs<=2000000000000000000000000000000/\(1+((r.natAbs:Nat):Int)).natAbs<=2000000000000000000000000000000:=by omega
def qu{r:Int}:0<1+((r.natAbs:Nat):Int):=by omega
def zK{r:Int}(h:0<r):r≠0:=by omega
def EV(a c k:Int):∃b a' c',Good b/\fk.G [fdV a c k]=.ok (.val (bV b)) [fdV a' c' k]:=by
 unfold fk;rw[wF rfl];show rmQ k (jV.G [.mu (fdV a c k),.no,.no,.no,.no,.no,.no]);unfold jV;obtain⟨way,a1,c1,e1,hw0,hw1⟩:=aD (a:=a) (b:=c) (k:=k) (m:=6) (by decide) (sm8 (by decide));refine aW (λe=>e=[.mu (fdV a1 c1 k),.sh (.int way),.no,.no,.no,.no,.no]) ⟨_,by simp![e1],rfl⟩ ?_;rintro _ rfl;obtain⟨l,a2,c2,e2,hl0,hl1⟩:=aD (a:=a1) (b:=c1) (k:=k) (m:=19) (by decide) (sm8 (by decide));obtain⟨t,a3,c3,e3,ht0,ht1⟩:=aD (a:=a2) (b:=c2) (k:=k) (m:=19) (by decide) (sm8 (by decide));refine aW (λe=>e=[.mu (fdV a3 c3 k),.sh (.int way),.sh (fV ((l-9:Int):Rat)),.sh (fV ((t-9:Int):Rat)),.no,.no,.no]) ⟨_,by simp![e2,e3,iV],rfl⟩ ?_;rintro _ rfl;obtain⟨w,a4,c4,e4,hww0,hww1⟩:=aD (a:=a3) (b:=c3) (k:=k) (m:=12) (by decide) (sm8 (by decide));obtain⟨hh,a5,c5,e5,hh0,hh1⟩:=aD (a:=a4) (b:=c4) (k:=k) (m:=12) (by decide) (sm8 (by decide));refine aW (rmI k way) ⟨[.mu (fdV a5 c5 k),.sh (.int way),.sh (fV ((l-9:Int):Rat)),.sh (fV ((t-9:Int):Rat)),.sh (fV ((1+w:Int):Rat)),.sh (fV ((1+hh:Int):Rat)),.no],by simp![e4,e5,iV],⟨_,_,_,_⟩,.no,a5,c5,⟨⟨fH (jI hww0),fH (jI hh0)⟩,⟨gc (qI hl0 hl1 (by decide) (by decide)),gc (qI ht0 ht1 (by decide) (by decide)),gc (i9 hww0 hww1 (by decide)),gc (i9 hh0 hh1 (by decide))⟩⟩,rfl,rfl⟩ ?_;rintro _ ⟨b,x,a,c,gb,hx,rfl⟩;refine aW (rmI k way) ?_ ?_
 .by_cases hw:way=1
  .subst hw;exact⟨[.mu (fdV a c k),.sh (.int 1),.sh (fV b.l),.sh (fV b.t),.sh (fV b.w),.sh (fV b.w),x],by simp![fZ],⟨b.l,b.t,b.w,b.w⟩,x,a,c,⟨⟨gb.ok.w,gb.ok.w⟩,⟨gb.sz.l,gb.sz.t,gb.sz.w,gb.sz.w⟩⟩,hx,rfl⟩
  .exact⟨_,by simp![E_.mpr hw],b,x,a,c,gb,hx,rfl⟩
 rintro _ ⟨b,x,a,c,gb,hx,rfl⟩;refine aW (rmI k way) ?_ ?_
 .by_cases hw:way=2
  .subst hw;obtain⟨r,a1,c1,e1,h0,h1⟩:=aD (a:=a) (b:=c) (k:=k) (m:=99) (by decide) (sm8 (by decide));exact⟨[.mu (fdV a1 c1 k),.sh (.int 2),.sh (fV b.l),.sh (fV b.t),.sh (fV ((1+r:Int):Rat)),.sh (fV b.h),x],by simp![e1,iV],⟨b.l,b.t,((1+r:Int):Rat),b.h⟩,x,a1,c1,⟨⟨fH (jI h0),gb.ok.h⟩,⟨gb.sz.l,gb.sz.t,gc (i9 h0 h1 (by decide)),gb.sz.h⟩⟩,hx,rfl⟩
  .exact⟨_,by simp![E_.mpr hw],b,x,a,c,gb,hx,rfl⟩
 rintro _ ⟨b,x,a,c,gb,hx,rfl⟩;refine aW (rmI k way) ?_ ?_
 .by_cases hw:way=3
  .subst hw;obtain⟨r,a1,c1,e1,h0,h1⟩:=aD (a:=a) (b:=c) (k:=k) (m:=99) (by decide) (sm8 (by decide));exact⟨[.mu (fdV a1 c1 k),.sh (.int 3),.sh (fV b.l),.sh (fV b.t),.sh (fV b.w),.sh (fV ((1+r:Int):Rat)),x],by simp![e1,iV],⟨b.l,b.t,b.w,((1+r:Int):Rat)⟩,x,a1,c1,⟨⟨gb.ok.w,fH (jI h0)⟩,⟨gb.sz.l,gb.sz.t,gb.sz.w,gc (i9 h0 h1 (by decide))⟩⟩,hx,rfl⟩
  .exact⟨_,by simp![E_.mpr hw],b,x,a,c,gb,hx,rfl⟩
 rintro _ ⟨b,x,a,c,gb,hx,rfl⟩;refine aW (rmI k way) ?_ ?_
 .by_cases hw:way=4
  .subst hw;obtain⟨r1,a1,c1,e1,h10,h11⟩:=aD (a:=a) (b:=c) (k:=k) (m:=199) (by decide) (sm8 (by decide));obtain⟨r2,a2,c2,e2,h20,h21⟩:=aD (a:=a1) (b:=c1) (k:=k) (m:=30) (by decide) (sm8 (by decide));obtain⟨r3,a3,c3,e3,h30,h31⟩:=aD (a:=a2) (b:=c2) (k:=k) (m:=9) (by decide) (sm8 (by decide));obtain⟨r4,a4,c4,e4,h40,h41⟩:=aD (a:=a3) (b:=c3) (k:=k) (m:=99) (by decide) (sm8 (by decide));obtain⟨r5,a5,c5,e5,h50,h51⟩:=aD (a:=a4) (b:=c4) (k:=k) (m:=30) (by decide) (sm8 (by decide));obtain⟨r6,a6,c6,e6,h60,h61⟩:=aD (a:=a5) (b:=c5) (k:=k) (m:=99) (by decide) (sm8 (by decide));have l1:=jy (a:=r1-99) (b:=1+r2) (wD h20) (lj (i9 h20 h21 (by decide)));have l2:=jy (a:=r3) (b:=7) (by decide) (lj (by decide));have l3:=jy (a:=1+r4) (b:=1+r5) (wD h50) (lj (i9 h50 h51 (by decide)));have l4:=jy (a:=1+r6) (b:=11) (by decide) (lj (by decide));exact⟨[.mu (fdV a6 c6 k),.sh (.int 4),.sh (fV (((r1-99:Int):Rat)/((1+r2:Int):Rat))),.sh (fV (((r3:Int):Rat)/((7:Int):Rat))),.sh (fV (((1+r4:Int):Rat)/((1+r5:Int):Rat))),.sh (fV (((1+r6:Int):Rat)/((11:Int):Rat))),x],by simp![e1,e2,e3,e4,e5,e6,l1,l2,l3,l4],⟨_,_,_,_⟩,x,a6,c6,⟨⟨ie (jI h40) (jI h50),ie (jI h60) (by decide)⟩,⟨gM (wD h20) (qI h10 h11 (by decide) (by decide)) (i9 h20 h21 (by decide)),gM (by decide) (by have:=qI (c:=0) h30 h31 (by decide) (by decide);rw[Int.sub_zero] at this;exact this) (by decide),gM (wD h50) (i9 h40 h41 (by decide)) (i9 h50 h51 (by decide)),gM (by decide) (i9 h60 h61 (by decide)) (by decide)⟩⟩,hx,rfl⟩
  .exact⟨_,by simp![E_.mpr hw],b,x,a,c,gb,hx,rfl⟩
 rintro _ ⟨b,x,a,c,gb,hx,rfl⟩;refine aW (rmI k way) ?_ ?_
 .by_cases hw:way=5
  .subst hw;obtain⟨r1,a1,c1,e1,h10,h11⟩:=hJ (a:=a) (b:=c) (k:=k) (far:=999999999999999999999999999999) (by decide) (by decide);obtain⟨r2,a2,c2,e2,h20,h21⟩:=hJ (a:=a1) (b:=c1) (k:=k) (far:=999999999999999999999999999998) (by decide) (by decide);obtain⟨r3,a3,c3,e3,h30,h31⟩:=hJ (a:=a2) (b:=c2) (k:=k) (far:=999999999999999999999999999999) (by decide) (by decide);obtain⟨r4,a4,c4,e4,h40,h41⟩:=hJ (a:=a3) (b:=c3) (k:=k) (far:=999999999999999999999999999998) (by decide) (by decide);obtain⟨r5,a5,c5,e5,h50,h51⟩:=hJ (a:=a4) (b:=c4) (k:=k) (far:=999999999999999999999999999998) (by decide) (by decide);have n2:=gN r2;have n4:=gN r4;have n5:=gN r5;have l1:=jy (a:=r1) (b:=1+((r2.natAbs:Nat):Int)) (zK qu) (lj (oU h20 h21 (by decide)).2);have l4:=jy (a:=1+((r5.natAbs:Nat):Int)) (b:=999999999999999999999999999999) (by decide) (lj (by decide));exact⟨[.mu (fdV a5 c5 k),.sh (.int 5),.sh (fV (((r1:Int):Rat)/((1+((r2.natAbs:Nat):Int):Int):Rat))),.sh (fV ((r3:Int):Rat)),.sh (fV ((1+((r4.natAbs:Nat):Int):Int):Rat)),.sh (fV (((1+((r5.natAbs:Nat):Int):Int):Rat)/((999999999999999999999999999999:Int):Rat))),.sh (.int 999999999999999999999999999999)],by simp![hx,p30,e1,e2,e3,e4,e5,n2,n4,n5,l1,l4,iV],⟨_,_,_,_⟩,_,a5,c5,⟨⟨fH qu,ie qu (by decide)⟩,⟨gM (zK qu) (oU h10 h11 (by decide)).1 (oU h20 h21 (by decide)).2,gc (oU h30 h31 (by decide)).1,gc (oU h40 h41 (by decide)).2,gM (by decide) (oU h50 h51 (by decide)).2 (by decide)⟩⟩,rfl,rfl⟩
  .exact⟨_,by simp![E_.mpr hw],b,x,a,c,gb,hx,rfl⟩
 rintro _ ⟨b,x,a,c,gb,hx,rfl⟩;refine⟨b,a,c,gb,?_⟩;simp![gE,bV]
noncomputable def lwB (b:Bx):Bool:=!decide (b.w<b.h)
def dN{b:Bx}{n:Nat}(hb:b.Ok)(hs:b.Sz n)(h:n<=8000):bQ.G [bV b]=.ok (.val (.str (wy (lwB b)))) []:=by
 have cb:=aT hb;have il:=jM hs.w hs.h (by omega) (by omega);have ib:(bV b).items=some [fV b.l,fV b.t,fV b.w,fV b.h]:=rfl;unfold bQ lwB;rw[au];unfold mT;by_cases hl:b.w<b.h
 .rw[H_ hl] at il ⊢;simp![cb,ib,il];rfl
 .rw[D_ hl] at il ⊢;simp![cb,ib,il];rfl
def Bd(m B:Nat)(b:Bx)(n:Nat):Prop:=∃D A,Rp D A B b/\B<=A/\1<=A/\(A+n*B)*(D*2^(m*n))<2^2000
def Bd.fine{m B n:Nat}{b:Bx}(h:Bd m B b n):b.Ok/\b.Sz 2000:=by obtain⟨D,A,r,hBA,hA,hq⟩:=h;exact r.fine hBA hA hq
def Bd.ok{m B n:Nat}{b:Bx}(h:Bd m B b n):b.Ok:=h.fine.1
def Bd.sz{m B n:Nat}{b:Bx}(h:Bd m B b n):b.Sz 2000:=h.fine.2
def Bd.part{m B n k:Nat}{b c:Bx}{way:Str}{ws:List Int}(h:Bd m B b n)(hw:∀w∈ws,1<=w)(hS:ws.sum<2^m)(hc:c∈aA b way ws)(hk:k<n):Bd m B c k:=by
 obtain⟨D,A,r,hBA,hA,hq⟩:=h;have hT:ws.sum.toNat<=2^m:=by
  have h4:((2^m:Nat):Int)=(2:Int)^m:=by push_cast;rfl
  rw[<- h4] at hS;generalize 2^m=X at hS ⊢;clear hq;omega
 refine⟨D*ws.sum.toNat,A+B,r.parts hw hc,by omega,by omega,NG (M7 ?_ ?_) hq⟩
 .have:(k+1)*B<=n*B:=NO _ hk;rw[Nat.add_mul,Nat.one_mul] at this;omega
 .rw[OX];refine NA _ ?_;have e:2^m*2^(m*k)=2^(m*(k+1)):=by rw[<- NW];congr 1;rw[Nat.mul_add,Nat.mul_one,Nat.add_comm]
  exact MV (NO _ hT) (by rw[e];exact Nj (by decide) (NA _ hk))
def rO(b:Bx)(w:Bool)(x y:Int):aA b (wy w) [x,y]=[bX b w (x+y) 0 x,bX b w (x+y) x y]:=by rw[j8];simp [frm]
def Aj(w:Bool):wy w="across" \/ wy w="down":=by cases w;exact .inr rfl;exact .inl rfl
def ky{m:Nat}{S:Int}(h0:0<=S)(h:S<2^m):Sm m S:=by
 show S.natAbs<2^m;have h4:((2^m:Nat):Int)=(2:Int)^m:=by push_cast;rfl
 rw[<- h4] at h;omega
def jL{b:Bx}{xs:List Int}{m B n i:Nat}(hb:Bd m B b n)(hm:m<=104)(h1:1<=(xs.take i).sum)(h2:1<=(xs.drop i).sum)(hS:(xs.take i).sum+(xs.drop i).sum<2^m):cH.G [bV b,liV xs,.int (i:Nat)]=.ok (.new (.lst [bV (bX b (lwB b) ((xs.take i).sum+(xs.drop i).sum) 0 (xs.take i).sum),bV (bX b (lwB b) ((xs.take i).sum+(xs.drop i).sum) (xs.take i).sum (xs.drop i).sum)])) []:=by
 have lw:=dN hb.ok hb.sz (by decide);have pe:=iP (way:=wy (lwB b)) (ws:=[(xs.take i).sum,(xs.drop i).sum]) (m:=m) hb.ok hb.sz (Aj _) (by simp) (λw hw=>by
  rcases G_.mp hw with rfl |hw
  .exact h1
  .rw[Nt.mp hw];exact h2) (by
  rw[show [(xs.take i).sum,(xs.drop i).sum].sum=(xs.take i).sum+(xs.drop i).sum from by simp];exact ky (by omega) hS) (by omega) (by show 2<=40;decide)
 rw[rO] at pe;simp only[z_,M1] at pe;have ct:=gf (xs.map Val.int) i;have cd:=fY (xs.map Val.int) i;rw[<- NC] at ct;rw[<- NQ] at cd;have m1:=bH (xs.take i);have m2:=bH (xs.drop i);unfold cH;rw[au];unfold kh;unfold liV;generalize (xs.take i).map Val.int=w1 at *;generalize (xs.drop i).map Val.int=w2 at *;generalize xs.map Val.int=w3 at *;generalize bV (bX b (lwB b) ((xs.take i).sum+(xs.drop i).sum) 0 (xs.take i).sum)=b1 at *;generalize bV (bX b (lwB b) ((xs.take i).sum+(xs.drop i).sum) (xs.take i).sum (xs.drop i).sum)=b2 at *;generalize bV b=bv at *;generalize wy (lwB b)=yy at *;simp![lw,eN,ct,cd,m1,m2,pe]
def sR{p q:Rat}(hq:q≠0):p/q=((p.num*q.den:Int):Rat)/((p.den*q.num:Int):Rat):=by
 have h1:=iA (cR p);have h2:=iA (cR q);have h3:q.num≠0:=λz=>hq (O_.mp z);have h4:=iA h3
 conv=>lhs;rw[eF p,eF q]
 rw[Ng,Ng];simp only[Rat.div_def,Rat.inv_mul_rev,Rat.inv_inv];rw[Rat.mul_assoc,Rat.mul_assoc,Rat.mul_comm (((p.den:Int):Rat))⁻¹,Rat.mul_assoc]
def vw{p q:Rat}{n m:Nat}(hp:Sz n p)(hq:Sz m q)(h0:0<q)(h:n+m<=8000):jq.G [fV p,fV q]=.ok (.val (fV (p/q))) []:=by
 have c1:=cT (CMulA.of hp.top hq.bot (by omega) (by omega));have c2:=cT (CMulA.of hp.bot hq.top (by omega) (by omega));have hq0:q≠0:=λz=>by rw[z] at h0;exact absurd h0 (by decide)
 have hn:q.num≠0:=λz=>hq0 (O_.mp z);have fe:=cX (a:=p.num*q.den) (b:=p.den*q.num) (Oj (cR p) hn) ((hp.bot.mul hq.top).mono h);rw[<- sR hq0] at fe;unfold jq;rw[au];unfold xY;rw[show fV p=.tup [.int p.num,.int p.den] from rfl,show fV q=.tup [.int q.num,.int q.den] from rfl];simp![c1,c2,fe]
def jQ{b:Bx}{n:Nat}(hb:b.Ok)(hs:b.Sz n)(h:n+n<=8000):dU.G [bV b]=.ok (.val (fV (aV b))) []:=by
 have lw:=dN hb hs (by omega);have ib:(bV b).items=some [fV b.l,fV b.t,fV b.w,fV b.h]:=rfl;have o1:=vw hs.w hs.h hb.2 h;have o2:=vw hs.h hs.w hb.1 h;unfold dU aV;rw[au];unfold vQ;by_cases hl:b.w<b.h
 .rw[show wy (lwB b)="down" from by unfold lwB;rw[H_ hl];rfl] at lw;rw[if_pos hl];simp![lw,ib,o1,o2,rb]
 .rw[show wy (lwB b)="across" from by unfold lwB;rw[D_ hl];rfl] at lw;rw[if_neg hl];simp![lw,ib,o1,o2,sr]
def Sz.over{p q:Rat}{n m:Nat}(hp:Sz n p)(hq:Sz m q)(h0:0<q):Sz (n+m) (p/q):=by
 have hq0:q≠0:=λz=>by rw[z] at h0;exact absurd h0 (by decide)
 have hn:q.num≠0:=λz=>hq0 (O_.mp z);rw[sR hq0];exact Sz.div (Oj (cR p) hn) (hp.top.mul hq.bot) (hp.bot.mul hq.top) (n+m) (u_ _) (u_ _)
def kB{b:Bx}{n:Nat}(hb:b.Ok)(hs:b.Sz n):Sz (n+n) (aV b):=by
 unfold aV;split
 .exact Sz.over hs.h hs.w hb.1
 .exact Sz.over hs.w hs.h hb.2
noncomputable def inT (f:List Int->Nat) (ws:List Int):Nat->Bx->List Nat->AT
 |0,_,l=>.lf (l.headD 0)
 |N
  + 1,b,l=>if l.length=1 then .lf (l.headD 0) else
  .nd (lwB b) [inT f ws N (bX b (lwB b) (wtA ws l) 0 (wtA ws (l.take (f (l.map λk=>ws.getD k 0))))) (l.take (f (l.map λk=>ws.getD k 0))),
   inT f ws N (bX b (lwB b) (wtA ws l) (wtA ws (l.take (f (l.map λk=>ws.getD k 0)))) (wtA ws (l.drop (f (l.map λk=>ws.getD k 0))))) (l.drop (f (l.map λk=>ws.getD k 0)))]
structure HowM(f:List Int->Nat)(nm:Str)(D:List Int->Prop):Prop where
 tk:∀xs i,D xs->D (xs.take i)
 dr:∀xs i,D xs->D (xs.drop i)
 lt:∀xs:List Int,D xs->2<=xs.length->(∀w∈xs,1<=w)->1<=f xs/\f xs<xs.length
 ev:∀(xs:List Int) (bv lv:Val),D xs->2<=xs.length->xs.length<=40->(∀w∈xs,1<=w)->(ay false 4 (jv [("nearest_to_half",bF),("fewest_to_third",bE)] (af 3) (aa (af 2) ag))).G [.sh bv,.sh lv,.sh (liV xs),.sh (.glb nm),.no,.no,.no,.no,.no]=.nx [.sh bv,.sh lv,.sh (liV xs),.sh (.glb nm),.sh (.int (f xs:Nat)),.no,.no,.no,.no]
def zZ{l:List Nat}{i N n:Nat}(h0:l.length<=N+1)(h1:1<=i)(h2:i<l.length)(hl:l.length<=n):((l.take i).length<=N/\1<=(l.take i).length/\(l.take i).length<=n/\(l.take i).length<l.length)/\(l.drop i).length<=N/\1<=(l.drop i).length/\(l.drop i).length<=n/\(l.drop i).length<l.length:=by rw[Nd,Oe];omega
def vR{l:List Nat}{i:Nat}{w:Bool}{s t:AT}(h1:1<=i)(h2:i<l.length)(a:s.dep<=(l.take i).length)(b:t.dep<=(l.drop i).length):(AT.nd w [s,t]).dep<=l.length:=by rw[Nd] at a;rw[Oe] at b;rw[AT.dep,AT.depL,AT.depL,AT.depL];omega
def Al{n:Nat}{x:Int}(h:(n:Int)<=x)(h1:1<=n):1<=x:=by omega
def ttQ(v:Val)(r:SR3):Prop:=mi [false,false,false,false] r=.ok (.val v) []
theorem nz{f:List Int->Nat}{nm:Str}{D:List Int->Prop}(H:HowM f nm D){ws:List Int}{m B:Nat}(hm:m<=104)(hS:∀l:List Nat,(∀k∈l,k<ws.length)->l.length<=ws.length->wtA ws l<2^m)(hw:∀w∈ws,1<=w)(hn:ws.length<=40):∀(N:Nat) (l:List Nat) (b:Bx),l.length<=N->1<=l.length->l.length<=ws.length->(∀k∈l,k<ws.length)->Bd m B b l.length->D (l.map λk=>ws.getD k 0)->
 (aZ N).G [bV b,itV l,liV (l.map λk=>ws.getD k 0),.glb nm]=.ok (.val (atV (inT f ws N b l))) []/\(inT f ws N b l).ok=true/\(inT f ws N b l).lvs=l/\(inT f ws N b l).dep<=l.length
 |0,l,b,h0,h1,_,_,_,_=>by omega
 |
  N+1,l,b,h0,h1,hl,hi,hB,hD=>by
  by_cases hl1:l.length=1
  .obtain⟨k,rfl⟩:=Oo.mp hl1;have a0:atI [Val.int (k:Nat)] 0=some (.int (k:Nat)):=dY (by decide) rfl;have te:inT f ws (N+1) b [k]=.lf k:=by rw[inT];exact if_pos rfl
   rw[te];refine⟨?_,rfl,rfl,by simp [AT.dep]⟩;show (PFx.of [false,false,false,false] 9 (cq (aZ N))).G _=_;rw[kQ,show atV (.lf k)=.int (k:Nat) from rfl,show itV [k]=.lst [.int (k:Nat)] from rfl];unfold cq;generalize bV b=bv;generalize liV _=wv;simp![a0]
  .have h2:2<=l.length:=by omega
   have hp:∀k∈l,1<=ws.getD k 0:=λj hj=>by rw[MM,C_ (hi j hj)];exact hw _ (NU _)
   have xl:(l.map λk=>ws.getD k 0).length=l.length:=p_ ..;have xp:∀w∈l.map λk=>ws.getD k 0,1<=w:=λw hw=>by obtain⟨j,hj,rfl⟩:=MR.mp hw;exact hp j hj
   obtain⟨g1,g2⟩:=H.lt _ hD (by rw[xl];exact h2) xp;have ev:=H.ev (l.map λk=>ws.getD k 0) (bV b) (itV l) hD (by rw[xl];exact h2) (by rw[xl];exact MV hl hn) xp;rw[inT,if_neg hl1];have ht:∀i,∀j∈l.take i,j∈l:=λi j hj=>NN hj;have hd:∀i,∀j∈l.drop i,j∈l:=λi j hj=>Oa hj;have wt:∀i,((l.map λk=>ws.getD k 0).take i).sum=wtA ws (l.take i):=λi=>by unfold wtA;rw[NC]
   have wd:∀i,((l.map λk=>ws.getD k 0).drop i).sum=wtA ws (l.drop i):=λi=>by unfold wtA;rw[NQ]
   generalize hh:f (l.map λk=>ws.getD k 0)=i at *;rw[xl] at g2;obtain⟨⟨t1,t2,t3,t4⟩,d1,d2,d3,d4⟩:=zZ h0 g1 g2 hl;have p1:=dJ (l:=(l.take i).map λk=>ws.getD k 0) (λw hw=>by obtain⟨j,hj,rfl⟩:=MR.mp hw;exact hp j (ht i j hj));have p2:=dJ (l:=(l.drop i).map λk=>ws.getD k 0) (λw hw=>by obtain⟨j,hj,rfl⟩:=MR.mp hw;exact hp j (hd i j hj));rw[p_] at p1 p2;replace p1:=Al p1 t2;replace p2:=Al p2 d2;have sp:wtA ws l=wtA ws (l.take i)+wtA ws (l.drop i):=by unfold wtA;rw[<- OI,<- Nr,NF]
   rw[show ((l.take i).map λk=>ws.getD k 0).sum=wtA ws (l.take i) from rfl] at p1;rw[show ((l.drop i).map λk=>ws.getD k 0).sum=wtA ws (l.drop i) from rfl] at p2;have hs:=hS l hi hl;have ct2:=jL (xs:=l.map λk=>ws.getD k 0) (i:=i) hB hm (by rw[wt];exact p1) (by rw[wd];exact p2) (by rw[wt,wd,<- sp];exact hs);have mt:(l.map λk=>ws.getD k 0).take i=(l.take i).map λk=>ws.getD k 0:=by rw[NC]
   have md:(l.map λk=>ws.getD k 0).drop i=(l.drop i).map λk=>ws.getD k 0:=by rw[NQ]
   rw[wt,wd,<- sp] at ct2;have pm:∀c∈[bX b (lwB b) (wtA ws l) 0 (wtA ws (l.take i)),bX b (lwB b) (wtA ws l) (wtA ws (l.take i)) (wtA ws (l.drop i))],∀k,k<l.length->Bd m B c k:=λc hc k hk=>hB.part (way:=wy (lwB b)) (ws:=[wtA ws (l.take i),wtA ws (l.drop i)]) (λw hw=>by
    rcases G_.mp hw with rfl |hw
    .exact p1
    .rw[Nt.mp hw];exact p2) (by rw[show [wtA ws (l.take i),wtA ws (l.drop i)].sum=wtA ws l from by rw[sp];simp];exact hs) (by rw[rO,<- sp];exact hc) hk
   obtain⟨a1,a3,a4,a5⟩:=nz H hm hS hw hn N (l.take i) _ t1 t2 t3 (λj hj=>hi j (ht i j hj)) (pm _ (s_ ..) _ t4) (by rw[<- mt];exact H.tk _ _ hD);obtain⟨b1,b3,b4,b5⟩:=nz H hm hS hw hn N (l.drop i) _ d1 d2 d3 (λj hj=>hi j (hd i j hj)) (pm _ (q_ _ (s_ ..)) _ d4) (by rw[<- md];exact H.dr _ _ hD);have lw:=dN hB.ok hB.sz (by decide);generalize inT f ws N (bX b (lwB b) (wtA ws l) 0 (wtA ws (l.take i))) (l.take i)=T1 at *;generalize inT f ws N (bX b (lwB b) (wtA ws l) (wtA ws (l.take i)) (wtA ws (l.drop i))) (l.drop i)=T2 at *;refine⟨?_,?_,?_,?_⟩
   .rw[show atV (.nd (lwB b) [T1,T2])=.tup [.str (wy (lwB b)),.tup [atV T1,atV T2]] from rfl];generalize bX b (lwB b) (wtA ws l) 0 (wtA ws (l.take i))=B1 at *;generalize bX b (lwB b) (wtA ws l) (wtA ws (l.take i)) (wtA ws (l.drop i))=B2 at *;have ctl:=gf (l.map λk:Nat=>Val.int k) i;have cdl:=fY (l.map λk:Nat=>Val.int k) i;rw[<- NC] at ctl;rw[<- NQ] at cdl;have ctx:=gf ((l.map λk=>ws.getD k 0).map Val.int) i;have cdx:=fY ((l.map λk=>ws.getD k 0).map Val.int) i;rw[<- NC,mt] at ctx;rw[<- NQ,md] at cdx;have n1:(((l.length:Nat):Int)==1)=false:=by rw[E_];omega
    have ll:((l.map λk:Nat=>Val.int k).length:Nat)=l.length:=p_ ..;show (PFx.of [false,false,false,false] 9 (cq (aZ N))).G _=_;rw[Hk rfl];show ttQ _ ((cq (aZ N)).G [.sh (bV b),.sh (itV l),.sh (liV (l.map λk=>ws.getD k 0)),.sh (.glb nm),.no,.no,.no,.no,.no]);unfold cq;unfold itV at a1 b1 ev ⊢;unfold liV at a1 b1 ct2 ev ⊢;generalize bV b=bv at *;generalize bV B1=bv1 at *;generalize bV B2=bv2 at *;generalize atV T1=t1 at *;generalize atV T2=t2 at *;generalize wy (lwB b)=yy at *;generalize (l.take i).map (λk:Nat=>Val.int k)=l1 at *;generalize (l.drop i).map (λk:Nat=>Val.int k)=l2 at *;generalize ((l.take i).map λk=>ws.getD k 0).map Val.int=x1 at *;generalize ((l.drop i).map λk=>ws.getD k 0).map Val.int=x2 at *;generalize (l.map λk=>ws.getD k 0).map Val.int=x0 at *;generalize l.map (λk:Nat=>Val.int k)=l0 at *;refine aW (λe=>e=[.sh bv,.sh (.lst l0),.sh (.lst x0),.sh (.glb nm),.no,.no,.no,.no,.no]) ⟨_,by simp![ll,n1],rfl⟩ ?_;rintro _ rfl;refine aW (λe=>e=[.sh bv,.sh (.lst l0),.sh (.lst x0),.sh (.glb nm),.sh (.int (i:Nat)),.no,.no,.no,.no]) ⟨_,ev,rfl⟩ ?_;rintro _ rfl;unfold ttQ;simp![ct2,eN,ctl,cdl,ctx,cdx,a1,b1,lw,gE]
   .rw[AT.ok,AT.okL,AT.okL,AT.okL,a3,b3];rfl
   .rw[AT.lvs,AT.lvsL,AT.lvsL,AT.lvsL,a4,b4,M8,NF]
   .exact vR g1 g2 a5 b5
theorem ua:∀(n:Nat) (l:List Nat),l.length=n->(∀i,i<n->i∈l)->l.Perm (List.range n)
 |0,l,h,_=>by rw[List.length_eq_zero_iff.mp h];exact List.Perm.refl _
 |
  n+1,l,h,hm=>by
  have h1:=hm n (by omega);have p:=List.perm_cons_erase h1;have q:=ua n (l.erase n) (by rw[List.length_erase_of_mem h1];omega) λi hi=>(List.mem_erase_of_ne (by omega)).mpr (hm i (by omega));rw[List.range_succ];exact p.trans ((q.cons n).trans (List.perm_append_singleton n _).symm)
def qP{t:AT}{o:List Nat}{n:Nat}(T:TOk t o)(ho:∀i,i∈o ↔ i<n)(hl:o.length=n):t.lvs.Nodup:=
 (ua n t.lvs (by rw[T.len,hl]) λi hi=>(T.mem i).mpr ((ho i).mpr hi)).nodup_iff.mpr O0
def nW{q:Rat}{k D:Nat}(hs:Sz 101 q)(hD:D=q.den*k)(hk:0<k):∃z:Int,q=(z:Rat)/((D:Int):Rat)/\z.natAbs<=2^101*D/\(0<q->0<z/\z<=((2^101:Nat):Int)*(D:Int)):=by
 have dp:=q.den_pos;have hn:q.num.natAbs<2^101:=hs.1;have hz:(q.num*(k:Int)).natAbs<=2^101*D:=by rw[Nm,Int.natAbs_natCast,hD];exact M7 (by omega) (Nat.le_mul_of_pos_left _ dp)
 refine⟨q.num*(k:Int),?_,hz,λh=>⟨Int.mul_pos (vT.mpr h) (by omega),?_⟩⟩
 .have:=mV (y:=q.num) (W:=(k:Int)) dp (by omega)
  rw[Nb,<- hD] at this;rw[<- this];exact eF q
 .rw[<- N2];generalize q.num*(k:Int)=z at *;generalize 2^101*D=y at *;omega
def Dj{b:Bx}(g:Good b):∃D,D<2^404/\Rp D (2^101) (2^101) b:=by
 have dl:=b.l.den_pos;have dt:=b.t.den_pos;have dw:=b.w.den_pos;have dh:=b.h.den_pos;have sz:∀q:Rat,Sz 101 q->q.den<=2^101:=λq h=>by have:(q.den:Int).natAbs<2^101:=h.2;omega
 have k1:=NL (NL dt dw) dh;have k2:=NL (NL dl dw) dh;have k3:=NL (NL dl dt) dh;have k4:=NL (NL dl dt) dw;refine⟨b.l.den*(b.t.den*b.w.den*b.h.den),?_,NL dl k1,?_,?_,?_,?_⟩
 .have a1:b.l.den<2^101:=by have:(b.l.den:Int).natAbs<2^101:=g.sz.l.2;omega
  have a2:=M7 (M7 (sz _ g.sz.t) (sz _ g.sz.w)) (sz _ g.sz.h)
  calc b.l.den*(b.t.den*b.w.den*b.h.den)<=b.l.den*(2^101*2^101*2^101):=NA _ a2
   _<2^101*(2^101*2^101*2^101):=Nat.mul_lt_mul_of_pos_right a1 (by decide)
   _=2^404:=by rw[<- NW,<- NW,<- NW]
 .obtain⟨z,h1,h2,_⟩:=nW (D:=b.l.den*(b.t.den*b.w.den*b.h.den)) g.sz.l rfl k1;exact⟨z,h1,h2⟩
 .obtain⟨z,h1,h2,_⟩:=nW (D:=b.l.den*(b.t.den*b.w.den*b.h.den)) (k:=b.l.den*b.w.den*b.h.den) g.sz.t (by ac_rfl) k2;exact⟨z,h1,h2⟩
 .obtain⟨z,h1,_,h2⟩:=nW (D:=b.l.den*(b.t.den*b.w.den*b.h.den)) (k:=b.l.den*b.t.den*b.h.den) g.sz.w (by ac_rfl) k3;exact⟨z,h1,h2 g.ok.w⟩
 .obtain⟨z,h1,_,h2⟩:=nW (D:=b.l.den*(b.t.den*b.w.den*b.h.den)) (k:=b.l.den*b.t.den*b.w.den) g.sz.h (by ac_rfl) k4;exact⟨z,h1,h2 g.ok.h⟩
structure WOk(ws:List Int):Prop where
 pos:1<=ws.length
 len:ws.length<=40
 wt:∀w∈ws,1<=w/\w<=1000000000000000000000000000000
 few:10<ws.length->∀w∈ws,w<=8388608
theorem kr{ws:List Int}{M:Int}:∀{l:List Nat},(∀k∈l,ws.getD k 0<=M)->wtA ws l<=(l.length:Int)*M
 | [],_=>by simp [wtA]
 |
  k::l,h=>by
  have h1:=h k (s_ ..);have h2:=kr (l:=l) λj hj=>h j (q_ _ hj);unfold wtA at h2 ⊢;rw[z_,M3,F_,Int.natCast_add,Int.add_mul];omega
def LZ{ws:List Int}{t:AT}{o:List Nat}{b:Bx}(g:Good b)(W:WOk ws)(T:TOk t o)(ho:∀i,i∈o ↔ i<ws.length)(hl:o.length=ws.length):(∀k∈t.lvs,1<=ws.getD k 0)/\∃D m,m<=104/\Rp D (2^101) (2^101) b/\(2^101+t.dep*2^101)*(D*2^(m*t.dep))<2^2000/\wtT ws t<2^m:=by
 obtain⟨D,hD,R⟩:=Dj g;have hlt:∀k∈t.lvs,k<ws.length:=λk hk=>(ho k).mp ((T.mem k).mp hk);have hin:∀k∈t.lvs,ws.getD k 0∈ws:=λk hk=>by rw[MM,C_ (hlt k hk)];exact NU _
 have hd:=T.dep;have len:=T.len;have wl:=W.len;refine⟨λk hk=>(W.wt _ (hin k hk)).1,D,?_⟩;have key:∀m,m*t.dep<=1218->m<=104->wtT ws t<2^m->∃m,m<=104/\Rp D (2^101) (2^101) b/\(2^101+t.dep*2^101)*(D*2^(m*t.dep))<2^2000/\wtT ws t<2^m:=λm h1 h2 h3=>by
  refine⟨m,h2,R,?_,h3⟩;have a1:2^101+t.dep*2^101<=2^107:=by
   have h1:=NO (2^101) (show t.dep<=40 by omega);have h2:2^107=64*2^101:=by decide
   rw[h2];generalize 2^101=X at *;omega
  have a2:2^(m*t.dep)<=2^1218:=Nj (by decide) h1;have a3:=M7 a1 (M7 (Ou hD) a2);refine NG a3 ?_;rw[<- NW,<- NW];exact Nat.pow_lt_pow_right (by decide) (by decide)
 by_cases h9:10<ws.length
 .refine key 29 (by omega) (by decide) ?_
  have:=kr (M:=8388608) λk hk=>W.few h9 _ (hin k hk)
  unfold wtT;have:(2:Int)^29=536870912:=by decide
  omega
 .refine key 104 (by omega) (by decide) ?_
  have:=kr (M:=1000000000000000000000000000000) λk hk=>(W.wt _ (hin k hk)).2
  unfold wtT;have:(2:Int)^104=20282409603651670423947251286016:=by decide
  omega
def xo{ws:List Int}{t:AT}{o:List Nat}{b:Bx}(g:Good b)(W:WOk ws)(T:TOk t o)(ho:∀i,i∈o ↔ i<ws.length)(hl:o.length=ws.length):∃m,m<=104/\AT.lay ws 2000 m t b:=by obtain⟨hw,D,m,h1,R,h2,h3⟩:=LZ g W T ho hl;have len:=T.len;have wl:=W.len;exact⟨m,h1,Iz t b D (2^101) R (u_ _) (by decide) h2 T.ok hw h3 (by omega)⟩
def Lc(l:List Nat)(f:Nat->Bx):aG (.lst (l.map λk=>bV (f k))) (.lst (l.map λk=>bV (f k)))=some true:=by
 have:wfV 60 (.lst (l.map λk=>bV (f k)))=true:=by show bM 59 (l.map λk=>bV (f k))=true;exact vd λv hv=>by obtain⟨w,_,rfl⟩:=MR.mp hv;exact Dq _ 57
 rw[lb this this,jm 60 _ this]
theorem vO(m:Int):∀xs:List Int,gj (.int m) (xs.map .int)=some (xs.map (· == m))
 | []=>rfl
 |x::xs=>by rw[z_,gj,vO m xs,Dt];rfl
def yn{xs:List Int}{m:Int}(h:m∈xs):(xs.map (· == m)).idxOf true<xs.length/\cL.G (.lst (xs.map .int)) [.int m]=.val (.int ((xs.map (· == m)).idxOf true:Nat)):=by have hm:true∈xs.map (· == m):=MR.mpr ⟨m,h,MP m⟩;have hl:=OM.mpr hm;refine⟨by rw[p_] at hl;exact hl,?_⟩;show fO (.lst (xs.map .int)) [.int m]=_;unfold fO;dsimp only;rw[vO];dsimp only;rw[if_pos hl]
noncomputable def apt (ws:List Int):List Int:=(List.range (ws.length-1)).map λi=>((2*(ws.take (i+1)).sum-ws.sum).natAbs:Int)
noncomputable def gZ (ws:List Int):Nat:=((apt ws).map (· == mnI (apt ws))).idxOf true+1
def vb(ws:List Int):(apt ws).length=ws.length-1:=by unfold apt;rw[p_,x_]
def oW{ws:List Int}(h:2<=ws.length):apt ws≠[]/\1<=gZ ws/\gZ ws<ws.length/\cL.G (liV (apt ws)) [.int (mnI (apt ws))]=.val (.int ((gZ ws-1:Nat):Int)):=by
 have hl:=vb ws;have h0:apt ws≠[]:=λz=>by rw[z] at hl;simp at hl;omega
 obtain⟨h1,h2⟩:=yn (kK h0);refine⟨h0,by unfold gZ;omega,by unfold gZ;omega,?_⟩;unfold gZ liV;rw[Nat.add_sub_cancel];exact h2
def GF{ws:List Int}(hl:ws.length<=1000):∃s,lcV (gtN 0).G qY.G (pFn eT (aa (pOp d7 (pOp bJ (ah 2) (pFn cJ (aa (pSl (af 1) oN (oS (af 0))) ag))) (pFn cJ (aa (af 1) ag))) ag)).G (my 1 (ws.length-1)) [] [.no,.sh (liV ws)]=.ok ((apt ws).map .int) [s,.sh (liV ws)]:=by
 obtain⟨e',⟨s,rfl,_⟩,lc⟩:=eA (g:=(gtN 0).G) (F:=(pFn eT (aa (pOp d7 (pOp bJ (ah 2) (pFn cJ (aa (pSl (af 1) oN (oS (af 0))) ag))) (pFn cJ (aa (af 1) ag))) ag)).G) (λi:Nat=>Val.int (1+(i:Nat))) (λi:Nat=>Val.int ((2*(ws.take (i+1)).sum-ws.sum).natAbs:Int)) (λe=>∃s:Sl,e=[s,.sh (liV ws)]/\s.pl=true) (List.range (ws.length-1)) [] [.no,.sh (liV ws)] ⟨.no,rfl,rfl⟩ (by
  rintro i hi _ ⟨s,rfl,hs⟩;have ic:(1:Int)+(i:Nat)=((i+1:Nat):Int):=by omega
  have ct:=gf (ws.map Val.int) (i+1);rw[<- NC] at ct;have c2:bJ.G (.int 2) (.int (ws.take (i+1)).sum)=.val (.int (2*(ws.take (i+1)).sum)):=cT (CMulA.left (by decide) (by decide));refine⟨[.sh (.int (1+(i:Nat))),.sh (liV ws)],.val (.int ((2*(ws.take (i+1)).sum-ws.sum).natAbs:Int)),[.sh (.int (1+(i:Nat))),.sh (liV ws)],?_,?_,rfl,_,rfl,rfl⟩
  .generalize liV ws=wv;simp![hs]
  .unfold liV;rw[ic];have m1:=bH ws;have m2:=bH (ws.take (i+1));have ab:∀x:Int,(if x<0 then -x else x)=(x.natAbs:Int):=λx=>by split <;> omega
   generalize ((ws.take (i+1)).map Val.int)=w1 at *;generalize ws.map Val.int=w2 at *;simp![eN,ct,m1,m2,c2,ab]) (by rw[M0,x_];omega)
 rw[M9] at lc;refine⟨s,lc.trans ?_⟩;unfold apt;rw[NM];rfl
def Gp{n:Nat}(h:n<=1000):sC [.int 1,.int (n:Nat)]=some (my 1 (n-1)):=by have e:((n:Nat):Int)-1=((n:Int)-1):=rfl;rw[show sC [.int 1,.int (n:Nat)]=some (my 1 (((n:Nat):Int)-1).toNat) from if_pos ⟨⟨by decide,by decide⟩,⟨by omega,by omega⟩⟩];congr 2;omega
def wW{ws:List Int}(h2:2<=ws.length)(hl:ws.length<=1000):bF.G [liV ws]=.ok (.val (.int (gZ ws:Nat))) []:=by
 obtain⟨h0,h1,h3,ix⟩:=oW h2;obtain⟨s,lc⟩:=GF hl;have mn:=Ad h0;have rg:=Gp (n:=ws.length) hl;have ll:((ws.map Val.int).length:Nat)=ws.length:=p_ ..;have al:((apt ws).map Val.int).length<=16777216:=by rw[p_,vb];omega
 have e1:((gZ ws-1:Nat):Int)+1=(gZ ws:Nat):=by omega
 unfold bF;rw[au];unfold gy;unfold liV at lc ix ⊢;rw[<- e1];generalize (apt ws).map Val.int=av at *;generalize ws.map Val.int=wv at *;simp![ll,rg,cm,inS,lc,al,mn,ix]
def CS{xs:List Int}{k:Nat}:bJ.G (.int 3) (.int (xs.take k).sum)=.val (.int (3*(xs.take k).sum)):=cT (CMulA.left (by decide) (by decide))
theorem qW{xs:List Int}(hs:1<=xs.sum):∀f k,k+f=xs.length->(xWh (qOf (pOp bLt (pOp bJ (ah 3) (pFn cJ (aa (pSl (af 0) oN (oS (af 1))) ag))) (pFn cJ (aa (af 0) ag)))) cS).G [.sh (liV xs),.sh (.int (k:Nat))]=.nx [.sh (liV xs),.sh (.int (thN xs f k:Nat))]
 |
  f,k,hf=>by
  have ct:=gf (xs.map Val.int) k;rw[<- NC] at ct;have m1:=bH xs;have m2:=bH (xs.take k);have fc:=CS (xs:=xs) (k:=k);rw[gw];by_cases hl:3*(xs.take k).sum<xs.sum
  .cases f with
   |zero=>rw[Nn (by omega)] at hl;omega
   |
    succ f=>
    have d1:=H_ hl;have ih:=qW hs f (k+1) (by omega);have k1:((k:Nat):Int)+1=((k+1:Nat):Int):=by omega
    have bb:cS.G [.sh (liV xs),.sh (.int (k:Nat))]=.nx [.sh (liV xs),.sh (.int ((k+1:Nat):Int))]:=by unfold cS;generalize liV xs=xv;simp![k1]
    rw[thN,if_pos hl];unfold liV at ih bb ⊢;generalize (xs.take k).map Val.int=w1 at *;generalize xs.map Val.int=w2 at *;simp![eN,ct,m1,m2,fc,d1,bb,ih]
  .have d1:=D_ hl;have e:thN xs f k=k:=by
    cases f with
    |zero=>rfl
    |succ f=>rw[thN,if_neg hl]
   rw[e];unfold liV;generalize (xs.take k).map Val.int=w1 at *;generalize xs.map Val.int=w2 at *;simp![eN,ct,m1,m2,fc,d1]
def yi{xs:List Int}(h1:1<=xs.length)(hs:1<=xs.sum):bE.G [liV xs]=.ok (.val (.int (jF xs:Nat))) []:=by have lo:=qW hs (xs.length-1) 1 (by omega);rw[show thN xs (xs.length-1) 1=jF xs from rfl,show ((1:Nat):Int)=1 from rfl] at lo;unfold bE;rw[au];unfold gA;generalize liV xs=xv at *;simp![lo]
def Am:HowM gZ "nearest_to_half" λ_=>True:=⟨λ_ _ _=>trivial,λ_ _ _=>trivial,λxs _ h2 _=>⟨(oW h2).2.1,(oW h2).2.2.1⟩,λxs bv lv _ h2 h40 hp=>by
 have ne:=wW h2 (by omega);have nq:(("nearest_to_half" : Str) == "nearest_to_half")=true:=by decide
 generalize liV xs=xv at *;simp![nq,ne]⟩
def yq:HowM jF "fewest_to_third" λxs=>xs.Pairwise λx y=>y<=x:=⟨λ_ _ h=>h.sublist (List.take_sublist ..),λ_ _ h=>h.sublist (List.drop_sublist ..),λxs h h2 hp=>AS h2 hp h,λxs bv lv _ h2 h40 hp=>by
 have sn:=dJ hp;have ne:=yi (xs:=xs) (by omega) (by omega);have nq:(("nearest_to_half" : Str) == "fewest_to_third")=false:=by decide
 have nr:(("fewest_to_third" : Str) == "nearest_to_half")=false:=by decide
 have ns:(("fewest_to_third" : Str) == "fewest_to_third")=true:=by decide
 generalize liV xs=xv at *;simp![nq,nr,ns,ne]⟩
noncomputable def mxL:List Rat->Rat
 | []=>0
 |x::xs=>xs.foldl mx x
theorem yt{n:Nat}:∀(xs:List Rat) (a:Rat),Sz n a->(∀x∈xs,Sz n x)->Sz n (xs.foldl mx a)
 | [],a,h,_=>h
 |
  x::xs,a,h,hx=>by
  rw[O7];refine yt xs _ ?_ λy hy=>hx y (q_ _ hy);unfold mx;split
  .exact hx x (s_ ..)
  .exact h
theorem nJ{n:Nat}(hn:n<=100000){v:Val}:∀(xs:List Rat) (a:Rat) (s:Sl),s.pl=true->Sz n a->(∀x∈xs,Sz n x)->∃s',fg (gtN 2).G eC.G (xs.map fV) [.sh v,.sh (fV a),s]=.nx [.sh v,.sh (fV (xs.foldl mx a)),s']
 | [],a,s,_,_,_=>⟨s,by rw[M1,lu];rfl⟩
 |
  x::xs,a,s,hs,ha,hx=>by
  have hx0:=hx x (s_ ..);have il:=jM ha hx0 hn hn;have hm:Sz n (mx a x):=by
   unfold mx;split
   .exact hx0
   .exact ha
  obtain⟨s',ih⟩:=nJ hn (v:=v) xs (mx a x) (.sh (fV x)) rfl hm λy hy=>hx y (q_ _ hy);refine⟨s',?_⟩;have bb:eC.G [.sh v,.sh (fV a),.sh (fV x)]=.nx [.sh v,.sh (fV (mx a x)),.sh (fV x)]:=by
   unfold eC mx;by_cases hl:a<x
   .rw[H_ hl] at il;rw[if_pos hl];simp![il]
   .rw[D_ hl] at il;rw[if_neg hl];simp![il]
  have g1:(gtN 2).G (fV x) [.sh v,.sh (fV a),s]=some [.sh v,.sh (fV a),.sh (fV x)]:=by simp![hs]
  rw[z_,eW,g1];simp only[bb,mU];rw[ih];rfl
def f9{n:Nat}(hn:n<=100000){qs:List Rat}(h0:qs≠[])(hq:∀q∈qs,Sz n q):bI.G [.lst (qs.map fV)]=.ok (.val (fV (mxL qs))) []:=by
 cases qs with
 |nil=>exact absurd rfl h0
 |
  cons q qs=>
  have hq0:=hq q (s_ ..);obtain⟨s',lo⟩:=nJ hn (v:=.lst ((q::qs).map fV)) (q::qs) q .no rfl hq0 hq;have e:(q::qs).foldl mx q=mxL (q::qs):=by rw[O7,show mx q q=q from if_neg Rat.lt_irrefl];rfl
  rw[e] at lo;have a0:atI ((q::qs).map fV) 0=some (fV q):=dY (by decide) rfl;generalize mxL (q::qs)=r at *;generalize (q::qs).map fV=qv at *;unfold bI;rw[au];unfold j3;simp![a0,lo]
def yL{P:PFn}{bs:List Bx}(h:∀c∈bs,P.G [bV c]=.ok (.val (fV (aV c))) [])(hm:P.ms=[false])(hl:bs.length<=1000):∃s,lcV (gtN 0).G qY.G (ai P (aa (af 0) ag)).G (bs.map bV) [] [.no]=.ok ((bs.map aV).map fV) [s]:=by
 obtain⟨e',⟨s,rfl,_⟩,lc⟩:=eA (g:=(gtN 0).G) (F:=(ai P (aa (af 0) ag)).G) bV (λc=>fV (aV c)) (λe=>∃s:Sl,e=[s]/\s.pl=true) bs [] [.no] ⟨.no,rfl,rfl⟩ (by
  rintro c hc _ ⟨s,rfl,hs⟩;have hp:=h c hc;refine⟨[.sh (bV c)],.val (fV (aV c)),[.sh (bV c)],?_,?_,rfl,_,rfl,rfl⟩
  .simp![hs]
  .simp![hm,hp]) (by rw[M0];omega)
 rw[M9] at lc;refine⟨s,?_⟩;rw[NM];exact lc
def sk(w:Bool):dS.G [.str (wy w)]=.ok (.val (.str (wy !w))) []:=by
 unfold dS;rw[au];unfold lL;cases w
 .rw[show wy (!false)="across" from rfl,show wy false="down" from rfl];simp![rb]
 .rw[show wy (!true)="down" from rfl,show wy true="across" from rfl];simp![sr]
noncomputable def mf (b:Bx) (xs:List Int) (k:Nat):Bx:=if k<xs.length then bX b (lwB b) ((xs.take k).sum+(xs.drop k).sum) 0 (xs.take k).sum else b
noncomputable def eY (b:Bx) (xs:List Int) (k:Nat):List Bx:=aA (mf b xs k) (wy !lwB b) (xs.take k)
noncomputable def cp (b:Bx) (xs:List Int) (k:Nat):Rat:=mxL ((eY b xs k).map aV)
structure RwIn(m B:Nat)(b:Bx)(xs:List Int):Prop where
 hm:m<=104
 bd:Bd m B b xs.length
 pos:∀w∈xs,1<=w
 sum:xs.sum<2^m
 len:xs.length<=40
def RwIn.two{m B:Nat}{b:Bx}{xs:List Int}(h:RwIn m B b xs){k:Nat}(h1:1<=k)(h2:k<xs.length):1<=(xs.take k).sum/\1<=(xs.drop k).sum/\(xs.take k).sum+(xs.drop k).sum<2^m:=by
 have a1:=dJ (l:=xs.take k) λw hw=>h.pos w (NN hw);have a2:=dJ (l:=xs.drop k) λw hw=>h.pos w (Oa hw);have a3:(xs.take k).sum+(xs.drop k).sum=xs.sum:=by rw[<- OI,NF]
 rw[Nd] at a1;rw[Oe] at a2
 have:=h.sum
 refine⟨by omega,by omega,by rw[a3];exact this⟩
def RwIn.cut{m B:Nat}{b:Bx}{xs:List Int}(h:RwIn m B b xs){k:Nat}(h1:1<=k)(h2:k<xs.length){c:Bx}(hc:c∈[bX b (lwB b) ((xs.take k).sum+(xs.drop k).sum) 0 (xs.take k).sum,bX b (lwB b) ((xs.take k).sum+(xs.drop k).sum) (xs.take k).sum (xs.drop k).sum]){j:Nat}(hj:j<xs.length):Bd m B c j:=by
 obtain⟨a1,a2,a3⟩:=h.two h1 h2;exact
  h.bd.part (way:=wy (lwB b)) (ws:=[(xs.take k).sum,(xs.drop k).sum]) (λw hw=>by
  rcases G_.mp hw with rfl |hw
  .exact a1
  .rw[Nt.mp hw];exact a2) (by rw[show [(xs.take k).sum,(xs.drop k).sum].sum=(xs.take k).sum+(xs.drop k).sum from by simp];exact a3) (by rw[rO];exact hc) hj
def RwIn.row{m B:Nat}{b:Bx}{xs:List Int}(h:RwIn m B b xs){k:Nat}(h1:1<=k)(h2:k<=xs.length):∃j,1<=j/\Bd m B (mf b xs k) j:=by
 unfold mf;by_cases hk:k<xs.length
 .rw[if_pos hk];exact⟨k,h1,h.cut h1 hk (s_ ..) hk⟩
 .rw[if_neg hk];exact⟨xs.length,by omega,h.bd⟩
def RwIn.take{m B:Nat}{b:Bx}{xs:List Int}(h:RwIn m B b xs){k:Nat}:(xs.take k).sum<2^m:=by
 have a2:=dJ (l:=xs.drop k) λw hw=>h.pos w (Oa hw);have a3:(xs.take k).sum+(xs.drop k).sum=xs.sum:=by rw[<- OI,NF]
 have:=h.sum
 omega
def yX(b:Bx)(w:Bool)(xs:List Int):(aA b (wy w) xs).length=xs.length:=by rw[j8,vk]
def RwIn.boxes{m B:Nat}{b:Bx}{xs:List Int}(h:RwIn m B b xs){k:Nat}(h1:1<=k)(h2:k<=xs.length):∀c∈eY b xs k,c.Ok/\c.Sz 2000:=λc hc=>by
 obtain⟨j,hj,hB⟩:=h.row h1 h2
 have:=hB.part (λw hw=>h.pos w (NN hw)) h.take hc (show 0<j by omega)
 exact⟨this.ok,this.sz⟩
def RwIn.len'{m B:Nat}{b:Bx}{xs:List Int}(h:RwIn m B b xs){k:Nat}(h2:k<=xs.length):(eY b xs k).length=k:=by unfold eY;rw[yX,Nd];omega
def RwIn.shp{m B:Nat}{b:Bx}{xs:List Int}(h:RwIn m B b xs){k:Nat}(h1:1<=k)(h2:k<=xs.length):(eY b xs k).map aV≠[]/\∀q∈(eY b xs k).map aV,Sz 4000 q:=by
 have:=h.len' h2
 refine⟨λz=>?_,λq hq=>?_⟩
 .have:=MK List.length z
  rw[p_,M0] at this;omega
 .obtain⟨c,hc,rfl⟩:=MR.mp hq;obtain⟨c1,c2⟩:=h.boxes h1 h2 c hc;exact kB c1 c2
def RwIn.wsz{m B:Nat}{b:Bx}{xs:List Int}(h:RwIn m B b xs){k:Nat}(h1:1<=k)(h2:k<=xs.length):Sz 4000 (cp b xs k):=by
 obtain⟨q1,q2⟩:=h.shp h1 h2;unfold cp;cases hq:(eY b xs k).map aV with
 |nil=>exact absurd hq q1
 |cons q qs=>rw[hq] at q2;exact yt qs q (q2 q (s_ ..)) λx hx=>q2 x (q_ _ hx)
def kg{m B:Nat}{b:Bx}{xs:List Int}(h:RwIn m B b xs){k:Nat}(h1:1<=k)(h2:k<=xs.length):cC.G [bV b,liV xs,.int (k:Nat)]=.ok (.val (fV (cp b xs k))) []:=by
 obtain⟨j,hj,hB⟩:=h.row h1 h2;have hm:=h.hm;have a_:=h.len;have lw:=dN h.bd.ok h.bd.sz (by decide);have ow:=sk (lwB b);have tl:(xs.take k).length=k:=by rw[Nd];omega
 have tp:=dJ (l:=xs.take k) λw hw=>h.pos w (NN hw);have pe:=iP (way:=wy !lwB b) (ws:=xs.take k) (m:=m) hB.ok hB.sz (Aj _) (λz=>by rw[z] at tl;simp at tl;omega) (λw hw=>h.pos w (NN hw)) (ky (by omega) h.take) (by omega) (by omega);rw[show aA (mf b xs k) (wy !lwB b) (xs.take k)=eY b xs k from rfl] at pe;have bl:=h.len' h2;obtain⟨s,lc⟩:=yL (P:=dU) (bs:=eY b xs k) (λc hc=>jQ (h.boxes h1 h2 c hc).1 (h.boxes h1 h2 c hc).2 (by decide)) rfl (by omega);obtain⟨q1,q2⟩:=h.shp h1 h2;have ge:=f9 (by decide) q1 q2;rw[show mxL ((eY b xs k).map aV)=cp b xs k from rfl] at ge;have sl:(((eY b xs k).map aV).map fV).length<=16777216:=by rw[p_,p_];omega
 have ct:=gf (xs.map Val.int) k;rw[<- NC] at ct;have lx:((xs.map Val.int).length:Nat)=xs.length:=p_ ..;unfold cC;rw[au];unfold jx;by_cases hk:k<xs.length
 .obtain⟨a1,a2,a3⟩:=h.two h1 hk;have ct2:=jL h.bd hm a1 a2 a3;rw[show bX b (lwB b) ((xs.take k).sum+(xs.drop k).sum) 0 (xs.take k).sum=mf b xs k from (if_pos hk).symm] at ct2;have c1:decide (((k:Nat):Int)<((xs.length:Nat):Int))=true:=H_ (by omega);unfold liV at ct2 ⊢;generalize bV (bX b (lwB b) ((xs.take k).sum+(xs.drop k).sum) (xs.take k).sum (xs.drop k).sum)=b2 at *;generalize bV (mf b xs k)=b1 at *;generalize ((eY b xs k).map aV).map fV=sv at *;generalize (eY b xs k).map bV=bs at *;generalize (xs.take k).map Val.int=w1 at *;generalize xs.map Val.int=w3 at *;generalize bV b=bv at *;generalize wy (!lwB b)=y1 at *;generalize wy (lwB b)=yy at *;generalize cp b xs k=rr at *;simp![lx,c1,ct2,lw,ow,eN,ct,pe,lc,sl,ge]
 .have c1:decide (((k:Nat):Int)<((xs.length:Nat):Int))=false:=D_ (by omega);rw[show mf b xs k=b from if_neg hk] at pe;unfold liV;generalize ((eY b xs k).map aV).map fV=sv at *;generalize (eY b xs k).map bV=bs at *;generalize (xs.take k).map Val.int=w1 at *;generalize xs.map Val.int=w3 at *;generalize bV b=bv at *;generalize wy (!lwB b)=y1 at *;generalize wy (lwB b)=yy at *;generalize cp b xs k=rr at *;simp![lx,c1,lw,ow,eN,ct,pe,lc,sl,ge]
noncomputable def i7 (b:Bx) (xs:List Int):Nat->Nat->Nat
 |0,k=>k
 |f+1,k=>if k<xs.length then (if cp b xs k<cp b xs (k+1) then k else i7 b xs f (k+1)) else k
theorem uP(b:Bx)(xs:List Int):∀f k,k<=xs.length->k<=i7 b xs f k/\i7 b xs f k<=xs.length
 |0,k,h=>⟨u_ _,h⟩
 |
  f+1,k,h=>by
  rw[i7];split
  .split
   .omega
   .have:=uP b xs f (k+1) (by omega)
    omega
  .omega
theorem rA{m B:Nat}{b:Bx}{xs:List Int}(h:RwIn m B b xs):∀(f k:Nat) (s:Sl),s.pl=true->xs.length<=k+f->1<=k->k<=xs.length->∃s3 s4,(xWh (qOf (pOp bLt (af 2) (pFn bj (aa (af 1) ag)))) dG).G [.sh (bV b),.sh (liV xs),.sh (.int (k:Nat)),.sh (fV (cp b xs k)),s]=.nx [.sh (bV b),.sh (liV xs),.sh (.int (i7 b xs f k:Nat)),s3,s4]
 |
  f,k,s,hs,hf,h1,h2=>by
  have lx:((xs.map Val.int).length:Nat)=xs.length:=p_ ..;by_cases hk:k<xs.length
  .cases
    f with
   |zero=>omega
   |
    succ f=>
    have c1:decide (((k:Nat):Int)<((xs.length:Nat):Int))=true:=H_ (by omega);have k1:((k:Nat):Int)+1=((k+1:Nat):Int):=by omega
    have wr:=kg h (k:=k+1) (by omega) (by omega);have il:=jM (h.wsz h1 h2) (h.wsz (k:=k+1) (by omega) (by omega)) (by decide) (by decide);obtain⟨s3,s4,ih⟩:=rA h f (k+1) (.sh (fV (cp b xs (k+1)))) rfl (by omega) (by omega) (by omega);rw[i7,if_pos hk];by_cases hl:cp b xs k<cp b xs (k+1)
    .rw[if_pos hl];rw[H_ hl] at il;refine⟨.sh (fV (cp b xs k)),.sh (fV (cp b xs (k+1))),?_⟩;rw[gw];unfold dG;unfold liV at wr ⊢;generalize xs.map Val.int=w3 at *;generalize bV b=bv at *;generalize fV (cp b xs (k+1))=r1 at *;generalize fV (cp b xs k)=r0 at *;simp![hs,lx,c1,k1,wr,il]
    .rw[if_neg hl];rw[D_ hl] at il;refine⟨s3,s4,?_⟩;have bb:dG.G [.sh (bV b),.sh (liV xs),.sh (.int (k:Nat)),.sh (fV (cp b xs k)),s]=.nx [.sh (bV b),.sh (liV xs),.sh (.int ((k+1:Nat):Int)),.sh (fV (cp b xs (k+1))),.sh (fV (cp b xs (k+1)))]:=by unfold dG;generalize liV xs=w3 at *;generalize bV b=bv at *;generalize fV (cp b xs (k+1))=r1 at *;generalize fV (cp b xs k)=r0 at *;simp![hs,k1,wr,il]
     rw[gw];unfold liV at bb ih ⊢;generalize xs.map Val.int=w3 at *;generalize bV b=bv at *;generalize fV (cp b xs (k+1))=r1 at *;generalize fV (cp b xs k)=r0 at *;simp![lx,c1,bb,ih]
  .have c1:decide (((k:Nat):Int)<((xs.length:Nat):Int))=false:=D_ (by omega);refine⟨.sh (fV (cp b xs k)),s,?_⟩;have e:i7 b xs f k=k:=by
    cases f with
    |zero=>rfl
    |succ f=>rw[i7,if_neg hk]
   rw[e,gw];unfold liV;generalize xs.map Val.int=w3 at *;simp![lx,c1]
noncomputable def row (b:Bx) (xs:List Int):Nat:=i7 b xs xs.length 1
def IS{b:Bx}{xs:List Int}(h:1<=xs.length):1<=row b xs/\row b xs<=xs.length:=uP b xs _ 1 h
def pR{m B:Nat}{b:Bx}{xs:List Int}(h:RwIn m B b xs)(h1:1<=xs.length):d5.G [bV b,liV xs]=.ok (.val (.int (row b xs:Nat))) []:=by have wr:=kg h (k:=1) (by omega) (by omega);obtain⟨s3,s4,lo⟩:=rA h xs.length 1 .no rfl (by omega) (by omega) (by omega);rw[show i7 b xs xs.length 1=row b xs from rfl] at lo;unfold d5;rw[au];unfold km;rw[show ((1:Nat):Int)=1 from rfl] at wr lo;generalize liV xs=w3 at *;generalize bV b=bv at *;generalize fV (cp b xs 1)=r0 at *;simp![wr,lo]
noncomputable def fK (b:Bx) (l:List Nat):AT:=if l.length=1 then .lf (l.headD 0) else .nd (!lwB b) (l.map .lf)
def FF(b:Bx)(l:List Nat):atV (.nd (!lwB b) (l.map .lf))=.tup [.str (wy !lwB b),.tup (l.map λk:Nat=>Val.int k)]:=by unfold atV;rw[AT.val,AT.vals_map,NM];rfl
def uL{b:Bx}{l:List Nat}{n:Nat}(hb:b.Ok)(hs:b.Sz n)(h:n<=8000)(hl:1<=l.length)(hl2:l.length<=1000):dH.G [bV b,itV l]=.ok (.val (atV (fK b l))) []:=by
 have lw:=dN hb hs h;have ow:=sk (lwB b);have ll:((l.map λk:Nat=>Val.int k).length:Nat)=l.length:=p_ ..;unfold dH fK;rw[au];unfold j4;by_cases h1:l.length=1
 .obtain⟨k,rfl⟩:=Oo.mp h1;have a0:atI [Val.int (k:Nat)] 0=some (.int (k:Nat)):=dY (by decide) rfl;rw[if_pos h1,show atV (.lf ([k].headD 0))=.int (k:Nat) from rfl,show itV [k]=.lst [.int (k:Nat)] from rfl];simp![a0]
 .have n1:(((l.length:Nat):Int)==1)=false:=by rw[E_];omega
  rw[if_neg h1,FF];unfold itV;generalize wy (!lwB b)=y1 at *;generalize wy (lwB b)=yy at *;generalize (l.map λk:Nat=>Val.int k)=l0 at *;generalize bV b=bv at *;simp![ll,n1,lw,ow]
noncomputable def rwT (ws:List Int):Nat->Bx->List Nat->AT
 |0,_,l=>.lf (l.headD 0)
 |N+1,b,l=>if row b (l.map λk=>ws.getD k 0)=l.length then fK b l else .nd (lwB b) [fK b (l.take (row b (l.map λk=>ws.getD k 0))),rwT ws N (bX b (lwB b) (((l.map λk=>ws.getD k 0).take (row b (l.map λk=>ws.getD k 0))).sum+((l.map λk=>ws.getD k 0).drop (row b (l.map λk=>ws.getD k 0))).sum) ((l.map λk=>ws.getD k 0).take (row b (l.map λk=>ws.getD k 0))).sum ((l.map λk=>ws.getD k 0).drop (row b (l.map λk=>ws.getD k 0))).sum) (l.drop (row b (l.map λk=>ws.getD k 0)))]
theorem D1:∀l:List Nat,AT.okL (l.map .lf)=true/\AT.lvsL (l.map .lf)=l/\AT.depL (l.map .lf)<=1
 | []=>⟨rfl,rfl,by decide⟩
 |
  k::l=>by
  obtain⟨a,b,c⟩:=D1 l;rw[z_];refine⟨?_,?_,?_⟩
  .rw[AT.okL,a];rfl
  .rw[AT.lvsL,b];rfl
  .rw[AT.depL,AT.dep];omega
def FH(b:Bx){l:List Nat}(hl:1<=l.length):(fK b l).ok=true/\(fK b l).lvs=l/\(fK b l).dep<=l.length/\(fK b l).dep<=2:=by
 unfold fK;by_cases h1:l.length=1
 .obtain⟨k,rfl⟩:=Oo.mp h1;rw[if_pos h1];exact⟨rfl,rfl,by simp [AT.dep],by simp [AT.dep]⟩
 .rw[if_neg h1];obtain⟨a1,a2,a3⟩:=D1 l;refine⟨?_,?_,?_,?_⟩
  .simp [AT.ok,a1];omega
  .rw[AT.lvs,a2]
  .rw[AT.dep];omega
  .rw[AT.dep];omega
def LU{l:List Nat}{i:Nat}(hn:l.length<=40)(h1:1<=l.length)(h2:1<=i):1<=(l.take i).length/\(l.take i).length<=1000:=by rw[Nd];omega
theorem oG{ws:List Int}{m B:Nat}(hm:m<=104)(hS:∀l:List Nat,(∀k∈l,k<ws.length)->l.length<=ws.length->wtA ws l<2^m)(hw:∀w∈ws,1<=w)(hn:ws.length<=40):∀(N:Nat) (l:List Nat) (b:Bx),l.length<=N->1<=l.length->l.length<=ws.length->(∀k∈l,k<ws.length)->Bd m B b l.length->
 (ba N).G [bV b,itV l,liV (l.map λk=>ws.getD k 0)]=.ok (.val (atV (rwT ws N b l))) []/\(rwT ws N b l).ok=true/\(rwT ws N b l).lvs=l/\(rwT ws N b l).dep<=l.length
 |0,l,b,h0,h1,_,_,_=>by omega
 |
  N+1,l,b,h0,h1,hl,hi,hB=>by
  have hp:∀k∈l,1<=ws.getD k 0:=λj hj=>by rw[MM,C_ (hi j hj)];exact hw _ (NU _)
  have xl:(l.map λk=>ws.getD k 0).length=l.length:=p_ ..;have hR:RwIn m B b (l.map λk=>ws.getD k 0):=⟨hm,by rw[xl];exact hB,λw hw=>by obtain⟨k,hk,rfl⟩:=MR.mp hw;exact hp k hk,hS l hi hl,by rw[xl];exact MV hl hn⟩;obtain⟨r1,r2⟩:=IS (b:=b) (xs:=l.map λk=>ws.getD k 0) (by rw[xl];exact h1);have re:=pR hR (by rw[xl];exact h1);have te:rwT ws (N+1) b l=_:=rwT.eq_2 ws b l N;rw[xl] at r2;have ll:((l.map λk:Nat=>Val.int k).length:Nat)=l.length:=p_ ..;have lw:=dN hB.ok hB.sz (by decide);have ctl:=gf (l.map λk:Nat=>Val.int k) (row b (l.map λk=>ws.getD k 0));have cdl:=fY (l.map λk:Nat=>Val.int k) (row b (l.map λk=>ws.getD k 0));rw[<- NC] at ctl;rw[<- NQ] at cdl;have two:∀k,k<l.length->1<=k->_:=λk h1 h2=>hR.two (k:=k) h2 (by rw[xl];exact h1);have cut:∀k,k<l.length->1<=k->∀c,c∈_->∀j,j<l.length->Bd m B c j:=λk h1 h2 c hc j hj=>hR.cut (k:=k) h2 (by rw[xl];exact h1) hc (by rw[xl];exact hj);rw[te];generalize hi0:row b (l.map λk=>ws.getD k 0)=i at *;obtain⟨k1,k2⟩:=LU (MV hl hn) h1 r1;have tr:=uL (l:=l.take i) hB.ok hB.sz (by decide) k1 k2;obtain⟨o1,o2,o3,o4⟩:=FH b (l:=l.take i) k1;by_cases hk:i=l.length
  .rw[if_pos hk];have et:l.take i=l:=Nn (Nat.le_of_eq hk.symm);rw[et] at o1 o2 o3 o4 tr ctl;have q1:(((i:Nat):Int)==((l.length:Nat):Int))=true:=by rw[MX,hk]
   refine⟨?_,o1,o2,o3⟩
   .show (PFx.of [false,false,false] 6 (cD (ba N))).G _=_;rw[kQ];unfold cD;unfold itV at tr ⊢;generalize atV (fK b l)=tv at *;generalize liV (l.map λk=>ws.getD k 0)=x0 at *;generalize (l.map λk:Nat=>Val.int k)=l0 at *;generalize bV b=bv at *;simp![re,eN,ctl,tr,ll,q1]
  .rw[if_neg hk];have q1:(((i:Nat):Int)==((l.length:Nat):Int))=false:=by rw[E_];exact λz=>hk (Int.ofNat.inj z)
   have hi2:i<l.length:=Nat.lt_of_le_of_ne r2 hk;obtain⟨p1,p2,p3⟩:=two i hi2 r1;have pm:=cut i hi2 r1;have ct2:=jL hR.bd hm p1 p2 p3;have ctx:=gf ((l.map λk=>ws.getD k 0).map Val.int) i;have cdx:=fY ((l.map λk=>ws.getD k 0).map Val.int) i;rw[<- NC] at ctx;rw[<- NQ] at cdx;obtain⟨_,d1,d2,d3,d4⟩:=zZ h0 r1 hi2 hl;obtain⟨b1,b3,b4,b5⟩:=oG hm hS hw hn N (l.drop i) _ d1 d2 d3 (λj hj=>hi j (Oa hj)) (pm _ (q_ _ (s_ ..)) _ d4);rw[NQ] at b1;generalize rwT ws N (bX b (lwB b) (((l.map λk=>ws.getD k 0).take i).sum+((l.map λk=>ws.getD k 0).drop i).sum) ((l.map λk=>ws.getD k 0).take i).sum ((l.map λk=>ws.getD k 0).drop i).sum) (l.drop i)=T2 at *;refine⟨?_,?_,?_,?_⟩
   .show (PFx.of [false,false,false] 6 (cD (ba N))).G _=_;rw[kQ];unfold cD;rw[show atV (.nd (lwB b) [fK b (l.take i),T2])=.tup [.str (wy (lwB b)),.tup [atV (fK b (l.take i)),atV T2]] from rfl];generalize atV (fK b (l.take i))=tv at *;generalize atV T2=tv2 at *;generalize wy (lwB b)=yy at *;generalize bV (bX b (lwB b) _ 0 _)=B1 at *;generalize bV (bX b (lwB b) _ _ _)=B2 at *;unfold itV at tr b1 ⊢;unfold liV at re ct2 b1 ⊢;generalize ((l.map λk=>ws.getD k 0).take i).map Val.int=x1 at *;generalize ((l.map λk=>ws.getD k 0).drop i).map Val.int=x2 at *;generalize (l.map λk=>ws.getD k 0).map Val.int=x0 at *;generalize ((l.take i).map λk:Nat=>Val.int k)=l1 at *;generalize ((l.drop i).map λk:Nat=>Val.int k)=l2 at *;generalize (l.map λk:Nat=>Val.int k)=l0 at *;generalize bV b=bv at *;simp![re,eN,ctl,tr,ll,q1,ct2,lw,cdl,cdx,b1]
   .simp [AT.ok,AT.okL,o1,b3]
   .rw[AT.lvs,AT.lvsL,AT.lvsL,AT.lvsL,o2,b4,M8,NF]
   .exact vR r1 hi2 o3 b5
def Ft{ws:List Int}(hl:ws.length<64):aM.G [liV ws]=.ok (.new (itV (aQ ws))) []:=by have kf:=Ak ws hl;have ll:((ws.map Val.int).length:Nat)=ws.length:=p_ ..;unfold aM;rw[au];unfold dB;unfold liV itV;generalize (aQ ws).map (λi:Nat=>Val.int (i:Nat))=fv at *;generalize ws.map Val.int=wv at *;simp![ll,kf]
def yA{ws:List Int}{b:Bx}{t:Val}(hb:b.Ok)(W:WOk ws)(h:(aZ 42).G [bV b,itV (List.range ws.length),liV ws,.glb "nearest_to_half"]=.ok (.val t) []):aR.G [bV b,liV ws]=.ok (.val t) []:=by have wl:=W.len;have wp:=W.pos;have cb:=aT hb;have cw:=dZ (ws:=ws) (by intro z;rw[z] at wp;exact absurd wp (by decide)) (λw hw=>(W.wt w hw).1) wl;have ll:((ws.map Val.int).length:Nat)=ws.length:=p_ ..;have lr:jX.G [.int (ws.length:Nat)]=.new (itV (List.range ws.length)):=DQ ⟨by omega,by omega⟩;unfold aR;rw[au];unfold gu;unfold liV at h ⊢;generalize itV (List.range ws.length)=rv at *;generalize ws.map Val.int=wv at *;generalize bV b=bv at *;simp![cb,cw,ll,lr,h]
def Fq{ws:List Int}{b:Bx}{t:Val}(hb:b.Ok)(W:WOk ws)(h:(ba 42).G [bV b,itV (List.range ws.length),liV ws]=.ok (.val t) []):bp.G [bV b,liV ws]=.ok (.val t) []:=by have wl:=W.len;have wp:=W.pos;have cb:=aT hb;have cw:=dZ (ws:=ws) (by intro z;rw[z] at wp;exact absurd wp (by decide)) (λw hw=>(W.wt w hw).1) wl;have ll:((ws.map Val.int).length:Nat)=ws.length:=p_ ..;have lr:jX.G [.int (ws.length:Nat)]=.new (itV (List.range ws.length)):=DQ ⟨by omega,by omega⟩;unfold bp;rw[au];unfold iX;unfold liV at h ⊢;generalize itV (List.range ws.length)=rv at *;generalize ws.map Val.int=wv at *;generalize bV b=bv at *;simp![cb,cw,ll,lr,h]
def CT{ws:List Int}{b:Bx}{t:Val}(hb:b.Ok)(W:WOk ws)(h:(ba 42).G [bV b,itV (aQ ws),liV ((aQ ws).map λk=>ws.getD k 0)]=.ok (.val t) []):aJ.G [bV b,liV ws]=.ok (.val t) []:=by
 have wl:=W.len;have wp:=W.pos;have cb:=aT hb;have cw:=dZ (ws:=ws) (by intro z;rw[z] at wp;exact absurd wp (by decide)) (λw hw=>(W.wt w hw).1) wl;have bf:=Ft (ws:=ws) (by omega);have lf:(aQ ws).length=ws.length:=by rw[(de ws).perm.length_eq,x_]
 obtain⟨s,lc⟩:=tX (ws:=ws) (l:=aQ ws) (by omega) (λk hk=>MJ.mp ((de ws).perm.mem_iff.mp hk));have lz:(((aQ ws).map λk=>ws.getD k 0).map Val.int).length<=16777216:=by rw[p_,p_];omega
 unfold aJ;rw[au];unfold fm;unfold itV at h bf;unfold liV at h lc bf ⊢;generalize ((aQ ws).map λk=>ws.getD k 0).map Val.int=xv at *;generalize (aQ ws).map (λi:Nat=>Val.int (i:Nat))=fv at *;generalize ws.map Val.int=wv at *;generalize bV b=bv at *;simp![cb,cw,bf,cm,inS,lc,lz,h]
def yY{ws:List Int}{b:Bx}{t:Val}(hb:b.Ok)(W:WOk ws)(h:(aZ 42).G [bV b,itV (aQ ws),liV ((aQ ws).map λk=>ws.getD k 0),.glb "fewest_to_third"]=.ok (.val t) []):aS.G [bV b,liV ws]=.ok (.val t) []:=by
 have wl:=W.len;have wp:=W.pos;have cb:=aT hb;have cw:=dZ (ws:=ws) (by intro z;rw[z] at wp;exact absurd wp (by decide)) (λw hw=>(W.wt w hw).1) wl;have kf:=Ak ws (by omega);have lf:(aQ ws).length=ws.length:=by rw[(de ws).perm.length_eq,x_]
 obtain⟨s,lc⟩:=tX (ws:=ws) (l:=aQ ws) (by omega) (λk hk=>MJ.mp ((de ws).perm.mem_iff.mp hk));have ll:((ws.map Val.int).length:Nat)=ws.length:=p_ ..;have lz:(((aQ ws).map λk=>ws.getD k 0).map Val.int).length<=16777216:=by rw[p_,p_];omega
 have bf:aM.G [liV ws]=.ok (.new (itV (aQ ws))) []:=by unfold aM;rw[au];unfold dB;unfold liV itV;generalize (aQ ws).map (λi:Nat=>Val.int (i:Nat))=fv at *;generalize ws.map Val.int=wv at *;simp![ll,kf]
 unfold aS;rw[au];unfold gx;unfold itV at h bf;unfold liV at h lc bf ⊢;generalize ((aQ ws).map λk=>ws.getD k 0).map Val.int=xv at *;generalize (aQ ws).map (λi:Nat=>Val.int (i:Nat))=fv at *;generalize ws.map Val.int=wv at *;generalize bV b=bv at *;simp![cb,cw,bf,cm,inS,lc,lz,h]
def jT(ws:List Int):((List.range ws.length).map λk=>ws.getD k 0)=ws:=u6 0 ws
def oJ{ws:List Int}{b:Bx}(g:Good b)(W:WOk ws):∃m,m<=104/\Bd m (2^101) b ws.length/\∀l:List Nat,(∀k∈l,k<ws.length)->l.length<=ws.length->wtA ws l<2^m:=by
 obtain⟨D,hD,R⟩:=Dj g;have hin:∀k,k<ws.length->ws.getD k 0∈ws:=λk hk=>by rw[MM,C_ hk];exact NU _
 have wl:=W.len;have key:∀m,m*ws.length<=1218->Bd m (2^101) b ws.length:=λm h1=>by
  refine⟨D,2^101,R,u_ _,by decide,?_⟩;have a1:2^101+ws.length*2^101<=2^107:=by
   have h1:=NO (2^101) (show ws.length<=40 by omega);have h2:2^107=64*2^101:=by decide
   rw[h2];generalize 2^101=X at *;omega
  have a2:2^(m*ws.length)<=2^1218:=Nj (by decide) h1;refine NG (M7 a1 (M7 (Ou hD) a2)) ?_;rw[<- NW,<- NW];exact Nat.pow_lt_pow_right (by decide) (by decide)
 by_cases h9:10<ws.length
 .refine⟨29,by decide,key 29 (by omega),λl hl hn=>?_⟩
  have:=kr (M:=8388608) λk hk=>W.few h9 _ (hin k (hl k hk))
  have:(2:Int)^29=536870912:=by decide
  omega
 .refine⟨104,by decide,key 104 (by omega),λl hl hn=>?_⟩
  have:=kr (M:=1000000000000000000000000000000) λk hk=>(W.wt _ (hin k (hl k hk))).2
  have:(2:Int)^104=20282409603651670423947251286016:=by decide
  omega
noncomputable def tH (b:Bx) (ws:List Int):AT:=inT gZ ws 42 b (List.range ws.length)
noncomputable def tR (b:Bx) (ws:List Int):AT:=rwT ws 42 b (List.range ws.length)
noncomputable def tG (b:Bx) (ws:List Int):AT:=rwT ws 42 b (aQ ws)
noncomputable def tT (b:Bx) (ws:List Int):AT:=inT jF ws 42 b (aQ ws)
section
variable{ws:List Int}{b:Bx}
def kJ{k:Nat}:k∈aQ ws ↔ k<ws.length:=(de ws).perm.mem_iff.trans MJ
def rG:(aQ ws).length=ws.length:=by rw[(de ws).perm.length_eq,x_]
def nM{t:AT}{l:List Nat}(h1:t.ok=true)(h2:t.lvs=l)(h3:t.dep<=l.length)(hl:∀k,k∈l ↔ k<ws.length)(hn:l.length=ws.length):TOk t (List.range ws.length):=⟨h1,λk=>by rw[h2,hl,MJ],by rw[x_];omega,by rw[h2,x_];exact hn⟩
def xF(g:Good b)(W:WOk ws):aR.G [bV b,liV ws]=.ok (.val (atV (tH b ws))) []/\TOk (tH b ws) (List.range ws.length):=by have wl:=W.len;have wp:=W.pos;obtain⟨m,hm,B,hS⟩:=oJ g W;obtain⟨t1,t2,t3,t4⟩:=nz Am hm hS (λw hw=>(W.wt w hw).1) wl 42 (List.range ws.length) b (by rw[x_];omega) (by rw[x_];omega) (by rw[x_];omega) (λk hk=>MJ.mp hk) (by rw[x_];exact B) trivial;rw[jT] at t1;exact⟨yA g.ok W t1,nM t2 t3 t4 (λk=>MJ) x_⟩
def xM(g:Good b)(W:WOk ws):bp.G [bV b,liV ws]=.ok (.val (atV (tR b ws))) []/\TOk (tR b ws) (List.range ws.length):=by have wl:=W.len;have wp:=W.pos;obtain⟨m,hm,B,hS⟩:=oJ g W;obtain⟨t1,t2,t3,t4⟩:=oG (B:=2^101) hm hS (λw hw=>(W.wt w hw).1) wl 42 (List.range ws.length) b (by rw[x_];omega) (by rw[x_];omega) (by rw[x_];omega) (λk hk=>MJ.mp hk) (by rw[x_];exact B);rw[jT] at t1;exact⟨Fq g.ok W t1,nM t2 t3 t4 (λk=>MJ) x_⟩
def wb(g:Good b)(W:WOk ws):aJ.G [bV b,liV ws]=.ok (.val (atV (tG b ws))) []/\TOk (tG b ws) (List.range ws.length):=by have wl:=W.len;have wp:=W.pos;have fl:=rG (ws:=ws);obtain⟨m,hm,B,hS⟩:=oJ g W;obtain⟨t1,t2,t3,t4⟩:=oG (B:=2^101) hm hS (λw hw=>(W.wt w hw).1) wl 42 (aQ ws) b (by omega) (by omega) (by omega) (λk hk=>kJ.mp hk) (by rw[fl];exact B);exact⟨CT g.ok W t1,nM t2 t3 t4 (λk=>kJ) fl⟩
def xJ(g:Good b)(W:WOk ws):aS.G [bV b,liV ws]=.ok (.val (atV (tT b ws))) []/\TOk (tT b ws) (List.range ws.length):=by have wl:=W.len;have wp:=W.pos;have fl:=rG (ws:=ws);obtain⟨m,hm,B,hS⟩:=oJ g W;obtain⟨t1,t2,t3,t4⟩:=nz yq hm hS (λw hw=>(W.wt w hw).1) wl 42 (aQ ws) b (by omega) (by omega) (by omega) (λk hk=>kJ.mp hk) (by rw[fl];exact B) (x9 ws);exact⟨yY g.ok W t1,nM t2 t3 t4 (λk=>kJ) fl⟩
end
def Dh{ws:List Int}{b:Bx}{r:Str}{t:AT}(g:Good b)(W:WOk ws)(h:aq.G [.str r,bV b,liV ws]=.ok (.val (atV t)) [])(T:TOk t (List.range ws.length)):bc.G [.str r,bV b,liV ws]=.ok (.new (.lst ((List.range ws.length).map λk=>bV (bxO (AT.bx ws t b) k)))) []:=by have wp:=W.pos;have wl:=W.len;obtain⟨m,hm,hy⟩:=xo g W T (λi=>MJ) x_;have be:=mw (by omega) g.ok (λz=>by rw[z] at wp;exact absurd wp (by decide)) (λx hx=>(W.wt x hx).1) wl T.ok (λk=>(T.mem k).trans MJ) (qP T (λi=>MJ) x_) (by rw[T.len,x_]) (by have:=T.dep;rw[x_] at this;omega) hy;unfold bc;rw[au];unfold iR;generalize (List.range ws.length).map (λk=>bV (bxO (AT.bx ws t b) k))=pv at *;generalize atV t=tv at *;generalize liV ws=wv at *;generalize bV b=bv at *;simp![h,be]
def bN{r:Str}(h:lY.G (.str r) (.tup [.str "across",.str "down",.str "halves",.str "rows",.str "greatest",.str "thirds"])=.val (.bl false)):bu.G [.str r]=.ok (.val .non) []:=by unfold bu;rw[au];unfold gT;simp![h]
def Gk{bv wv t:Val}(h:aR.G [bv,wv]=.ok (.val t) []):aq.G [.str "halves",bv,wv]=.ok (.val t) []:=by
 have ck:=bN (r:="halves") rfl;have e1:aG (.str "halves") (.str "halves")=some true:=by rw[L3.eq_str (by decide) (by decide)];exact MK some (by decide)
 unfold aq;rw[au];unfold bT;simp![ck,e1,h]
def HF{bv wv t:Val}(h:bp.G [bv,wv]=.ok (.val t) []):aq.G [.str "rows",bv,wv]=.ok (.val t) []:=by
 have ck:=bN (r:="rows") rfl;have e0:aG (.str "rows") (.str "halves")=some false:=by rw[L3.eq_str (by decide) (by decide)];exact MK some (by decide)
 have e1:aG (.str "rows") (.str "rows")=some true:=by rw[L3.eq_str (by decide) (by decide)];exact MK some (by decide)
 unfold aq;rw[au];unfold bT;simp![ck,e0,e1,h]
def Jh{bv wv t:Val}(h:aJ.G [bv,wv]=.ok (.val t) []):aq.G [.str "greatest",bv,wv]=.ok (.val t) []:=by
 have ck:=bN (r:="greatest") rfl;have e0:aG (.str "greatest") (.str "halves")=some false:=by rw[L3.eq_str (by decide) (by decide)];exact MK some (by decide)
 have e1:aG (.str "greatest") (.str "rows")=some false:=by rw[L3.eq_str (by decide) (by decide)];exact MK some (by decide)
 have e2:aG (.str "greatest") (.str "greatest")=some true:=by rw[L3.eq_str (by decide) (by decide)];exact MK some (by decide)
 unfold aq;rw[au];unfold bT;simp![ck,e0,e1,e2,h]
def GK{bv wv t:Val}(h:aS.G [bv,wv]=.ok (.val t) []):aq.G [.str "thirds",bv,wv]=.ok (.val t) []:=by
 have ck:=bN (r:="thirds") rfl;have e0:aG (.str "thirds") (.str "halves")=some false:=by rw[L3.eq_str (by decide) (by decide)];exact MK some (by decide)
 have e1:aG (.str "thirds") (.str "rows")=some false:=by rw[L3.eq_str (by decide) (by decide)];exact MK some (by decide)
 have e2:aG (.str "thirds") (.str "greatest")=some false:=by rw[L3.eq_str (by decide) (by decide)];exact MK some (by decide)
 have e3:aG (.str "thirds") (.str "thirds")=some true:=by rw[L3.eq_str (by decide) (by decide)];exact MK some (by decide)
 unfold aq;rw[au];unfold bT;simp![ck,e0,e1,e2,e3,h]
theorem lW:∀l:List Nat,AT.lvsL (l.map .lf)=l
 | []=>rfl
 |k::l=>by rw[z_,AT.lvsL,lW l,AT.lvs];rfl
theorem vK:∀l:List Nat,AT.okL (l.map .lf)=true
 | []=>rfl
 |k::l=>by rw[z_,AT.okL,vK l,AT.ok];rfl
theorem sO:∀l:List Nat,AT.depL (l.map .lf)<=1
 | []=>by rw[M1,AT.depL];omega
 |k::l=>by rw[z_,AT.depL,AT.dep];have:=sO l;omega
theorem uQ(ws:List Int):∀(l:List Nat) (bs:List Bx),AT.bxL ws (l.map .lf) bs=l.zip bs
 | [],bs=>by rw[M1,AT.bxL];rfl;exact λ_ _ _ _ z=>nomatch z
 |k::l,[]=>by rw[z_,AT.bxL];rfl;exact λ_ _ _ _ _ z=>nomatch z
 |k::l,b::bs=>by rw[z_,AT.bxL,uQ ws l bs,AT.bx];rfl
theorem vX:∀(bs:List Bx) (a i:Nat) (c:Bx),bs[i]?=some c->bxO ((List.range' a bs.length).zip bs) (a+i)=c
 | [],a,i,c,h=>by simp at h
 |
  b::bs,a,i,c,h=>by
  rw[F_,List.range'_succ,List.zip_cons_cons];unfold bxO;cases i with
  |zero=>rw[List.find?_cons_of_pos (by simp)];simpa using h
  |
   succ i=>
   rw[List.find?_cons_of_neg (by simp)]
   have:=vX bs (a+1) i c (by simpa using h)
   unfold bxO at this;rw[show a+(i+1)=a+1+i by omega];exact this
def wQ{bs:List Bx}{n:Nat}(h:bs.length=n):((List.range n).map λk=>bV (bxO ((List.range n).zip bs) k))=bs.map bV:=by
 subst h;refine List.ext_getElem (by simp) λi h1 h2=>?_;rw[p_] at h2;rw[List.getElem_map,List.getElem_map,List.getElem_range];congr 1
 have:=vX bs 0 i (bs[i]) (C_ h2)
 rw[Nat.zero_add,<- List.range_eq_range'] at this;exact this
noncomputable def sbT (w:Bool) (n:Nat):AT:=if n=1 then .lf 0 else .nd w ((List.range n).map .lf)
def DY(w:Bool){n:Nat}(h:1<=n):TOk (sbT w n) (List.range n):=by
 unfold sbT;by_cases h1:n=1
 .rw[if_pos h1,h1];exact⟨rfl,λk=>Iff.rfl,u_ _,rfl⟩
 .rw[if_neg h1];refine⟨?_,λk=>by rw[AT.lvs,lW],?_,by rw[AT.lvs,lW]⟩
  .rw[AT.ok,vK,p_,x_,H_ (by omega)];rfl
  .rw[AT.dep,x_]
   have:=sO (List.range n)
   omega
def CC(b:Bx)(w:Bool){x:Int}(h:1<=x):aA b (wy w) [x]=[b]:=by
 rw[j8];have hx:(x:Rat)≠0:=λz=>by
  have:x=0:=by exact_mod_cast z
  omega
 have e:(x:Rat)/(x:Rat)=1:=by rw[Rat.div_def];exact Rat.mul_inv_cancel _ hx
 have e0:((0:Int):Rat)/(x:Rat)=0:=by rw[Rat.div_def];exact Rat.zero_mul _
 simp only[M3,List.sum_nil,Int.add_zero,frm,bX,e,e0,Rat.mul_zero,Rat.mul_one,Rat.add_zero];cases w <;> rfl
def K7{ws:List Int}(b:Bx)(w:Bool)(h:1<=ws.length)(hw:∀x∈ws,1<=x):((List.range ws.length).map λk=>bV (bxO (AT.bx ws (sbT w ws.length) b) k))=(aA b (wy w) ws).map bV:=by
 unfold sbT;by_cases h1:ws.length=1
 .rw[if_pos h1,AT.bx,h1];obtain⟨x,rfl⟩:=Oo.mp h1;rw[CC b w (hw x (s_ ..))];rfl
 .rw[if_neg h1,AT.bx,NM];have e:(List.range ws.length).map (wtT ws ∘ AT.lf)=ws:=by
   have:=jT ws
   refine Eq.trans (List.map_congr_left λk _=>?_) this;show wtA ws (AT.lvs (.lf k))=_;rw[AT.lvs];simp [wtA]
  rw[e,uQ];exact wQ (kD ..)
def CY{ws:List Int}{b:Bx}(w:Bool)(g:Good b)(W:WOk ws):cz.G [bV b,liV ws,atV (sbT w ws.length)]=.ok (.new (.lst ((aA b (wy w) ws).map bV))) []:=by have wp:=W.pos;have wl:=W.len;have T:=DY w wp;obtain⟨m,hm,hy⟩:=xo g W T (λi=>MJ) x_;have be:=mw (by omega) g.ok (λz=>by rw[z] at wp;exact absurd wp (by decide)) (λx hx=>(W.wt x hx).1) wl T.ok (λk=>(T.mem k).trans MJ) (qP T (λi=>MJ) x_) (by rw[T.len,x_]) (by have:=T.dep;rw[x_] at this;omega) hy;rw[K7 b w wp λx hx=>(W.wt x hx).1] at be;exact be
def l7(w:Bool)(l:List Nat):atV (.nd w (l.map .lf))=.tup [.str (wy w),.tup (l.map λk:Nat=>Val.int k)]:=by unfold atV;rw[AT.val,AT.vals_map,NM];rfl
def vh{ws:List Int}{b:Bx}(w:Bool)(hb:b.Ok)(W:WOk ws):bL.G [.str (wy w),bV b,liV ws]=.ok (.val (atV (sbT w ws.length))) []:=by
 have wl:=W.len;have wp:=W.pos;have cb:=aT hb;have cw:=dZ (ws:=ws) (by intro z;rw[z] at wp;exact absurd wp (by decide)) (λx hx=>(W.wt x hx).1) wl;have ll:((ws.map Val.int).length:Nat)=ws.length:=p_ ..;have kt:jE.G [.int (ws.length:Nat)]=.val (.tup ((List.range ws.length).map λk:Nat=>Val.int k)):=D2 ⟨by omega,by omega⟩;unfold bL sbT;rw[au];unfold fJ;unfold liV;by_cases h1:ws.length=1
 .have n1:(((ws.length:Nat):Int)==1)=true:=by rw[MX];omega
  rw[if_pos h1,show atV (.lf 0)=.int 0 from rfl];generalize ws.map Val.int=wv at *;generalize bV b=bv at *;generalize wy w=yy at *;simp![cb,cw,ll,n1]
 .have n1:(((ws.length:Nat):Int)==1)=false:=by rw[E_];omega
  rw[if_neg h1,l7];generalize ((List.range ws.length).map λk:Nat=>Val.int k)=rv at *;generalize ws.map Val.int=wv at *;generalize bV b=bv at *;generalize wy w=yy at *;simp![cb,cw,ll,n1,kt]
def fu(w:Bool){s:Str}(h:s∈(["halves", "rows", "greatest", "thirds"]:List Str)):aG (.str (wy w)) (.str s)=some false:=by simp only[G_,O1,or_false] at h;rcases h with rfl |rfl |rfl |rfl <;> cases w <;> (rw[L3.eq_str (by decide) (by decide)];exact MK some (by decide))
def m9(w:Bool):bu.G [.str (wy w)]=.ok (.val .non) []:=by
 cases w
 .exact bN rfl
 .exact bN rfl
def zT{ws:List Int}{b:Bx}(w:Bool)(hb:b.Ok)(W:WOk ws):aq.G [.str (wy w),bV b,liV ws]=.ok (.val (atV (sbT w ws.length))) []:=by have se:=vh w hb W;have ck:=m9 w;have n1:=fu w (s:="halves") (by simp);have n2:=fu w (s:="rows") (by simp);have n3:=fu w (s:="greatest") (by simp);have n4:=fu w (s:="thirds") (by simp);unfold aq;rw[au];unfold bT;generalize atV (sbT w ws.length)=tv at *;generalize liV ws=wv at *;generalize bV b=bv at *;generalize wy w=yy at *;simp![ck,n1,n2,n3,n4,se]
theorem C2:∀(xs:List Rat) (a:Rat),a<=xs.foldl mx a/\(∀x∈xs,x<=xs.foldl mx a)/\(xs.foldl mx a=a\/xs.foldl mx a∈xs)
 | [],a=>⟨Rat.le_refl,λ_ h=>(nomatch h),.inl rfl⟩
 |
  x::xs,a=>by
  obtain⟨h1,h2,h3⟩:=C2 xs (mx a x);rw[O7];have ha:a<=mx a x:=by unfold mx;split;grind;exact Rat.le_refl
  have hx:x<=mx a x:=by unfold mx;split;exact Rat.le_refl;grind
  refine⟨Rat.le_trans ha h1,λy hy=>?_,?_⟩
  .rcases G_.mp hy with rfl |hy
   .exact Rat.le_trans hx h1
   .exact h2 y hy
  .rcases h3 with h3 |h3
   .rw[h3];unfold mx;split
    .exact .inr (s_ ..)
    .exact .inl rfl
   .exact .inr (q_ _ h3)
def JJ{p:List Rat}(h:p≠[]):mxL p∈p/\∀x∈p,x<=mxL p:=by
 cases p with
 |nil=>exact absurd rfl h
 |
  cons a xs=>
  obtain⟨h1,h2,h3⟩:=C2 xs a;refine⟨?_,λx hx=>?_⟩
  .show xs.foldl mx a∈_;rcases h3 with h3 |h3
   .rw[h3];exact s_ ..
   .exact q_ _ h3
  .rcases G_.mp hx with rfl |hx
   .exact h1
   .exact h2 x hx
theorem zQ(q:Rat):∀qs:List Rat,gj (fV q) (qs.map fV)=some (qs.map λp=>decide (p=q))
 | []=>rfl
 |x::xs=>by rw[z_,gj,zQ q xs,MB];rfl
def BO{qs:List Rat}{q:Rat}(h:q∈qs):∃i:Int,cL.G (.lst (qs.map fV)) [fV q]=.val (.int i):=by have hm:true∈qs.map λp=>decide (p=q):=MR.mpr ⟨q,h,H_ rfl⟩;have hl:=OM.mpr hm;refine⟨((qs.map λp=>decide (p=q)).idxOf true:Nat),?_⟩;show fO (.lst (qs.map fV)) [fV q]=_;unfold fO;dsimp only;rw[zQ];dsimp only;rw[if_pos hl]
def AD{bs:List Bx}(h0:bs≠[])(hb:∀c∈bs,c.Ok/\c.Sz 2000)(hl:bs.length<=1000):∃i:Int,jw.G [.lst (bs.map bV)]=.ok (.val (.tup [fV (mxL (bs.map aV)),.int i])) []:=by
 have q1:bs.map aV≠[]:=λz=>h0 (Pg.mp z);have q2:∀q∈bs.map aV,Sz 4000 q:=λq hq=>by obtain⟨c,hc,rfl⟩:=MR.mp hq;exact kB (hb c hc).1 (hb c hc).2
 obtain⟨s,lc⟩:=yL (P:=dU) (bs:=bs) (λc hc=>jQ (hb c hc).1 (hb c hc).2 (by decide)) rfl hl;have ge:=f9 (by decide) q1 q2;obtain⟨i,ix⟩:=BO (JJ q1).1;refine⟨i,?_⟩;have sl:((bs.map aV).map fV).length<=16777216:=by rw[p_,p_];omega
 unfold jw;rw[au];unfold v3;generalize (bs.map aV).map fV=sv at *;generalize mxL (bs.map aV)=r at *;generalize bs.map bV=bv at *;simp![lc,sl,ge,ix]
noncomputable def thQ (p:Int×Int):Rat:=((p.1+p.2:Int):Rat)/((p.2:Int):Rat)
theorem vD{rv wv fv:Val}:∀(ps:List (Int×Int)) (acc:List Rat) (s4 s5:Sl),s4.pl=true->s5.pl=true->(∀p∈ps,1<=p.2/\Sm 104 p.2)->acc.length+ps.length<=1000->∃s4' s5',fg (gtX (gtT 2 (br (gtN 4) (br (gtN 5) eM)))).G cP.G (ps.map λp=>.tup [.int p.1,.int p.2]) [.sh rv,.sh wv,.sh fv,.ow (.lst (acc.map fV)),s4,s5]=.nx [.sh rv,.sh wv,.sh fv,.ow (.lst ((acc++ps.map thQ).map fV)),s4',s5']
 | [],acc,s4,s5,_,_,_,_=>⟨s4,s5,by rw[M1,M1,lu,M8]⟩
 |
  p::ps,acc,s4,s5,h4,h5,hp,hl=>by
  obtain⟨p1,p2⟩:=hp p (s_ ..);rw[F_] at hl;have fe:=cX (a:=p.1+p.2) (b:=p.2) (by omega) (p2.mono (by decide));rw[show ((p.1+p.2:Int):Rat)/((p.2:Int):Rat)=thQ p from rfl] at fe;have ll:(acc.map fV).length<16777216:=by rw[p_];omega
  obtain⟨t4,t5,ih⟩:=vD (rv:=rv) (wv:=wv) (fv:=fv) ps (acc++[thQ p]) (.sh (.int p.1)) (.sh (.int p.2)) rfl rfl (λx hx=>hp x (q_ _ hx)) (by rw[L_,O3];omega);refine⟨t4,t5,?_⟩;have g1:(gtX (gtT 2 (br (gtN 4) (br (gtN 5) eM)))).G (.tup [.int p.1,.int p.2]) [.sh rv,.sh wv,.sh fv,.ow (.lst (acc.map fV)),s4,s5]=some [.sh rv,.sh wv,.sh fv,.ow (.lst (acc.map fV)),.sh (.int p.1),.sh (.int p.2)]:=by simp![h4,h5]
  have bb:cP.G [.sh rv,.sh wv,.sh fv,.ow (.lst (acc.map fV)),.sh (.int p.1),.sh (.int p.2)]=.nx [.sh rv,.sh wv,.sh fv,.ow (.lst ((acc++[thQ p]).map fV)),.sh (.int p.1),.sh (.int p.2)]:=by unfold cP;rw[Nr,show [thQ p].map fV=[fV (thQ p)] from rfl];generalize fV (thQ p)=tq at *;generalize acc.map fV=av at *;simp![fe,ll]
  rw[z_,eW,g1];simp only[bb,mU];rw[ih,z_,List.append_assoc];rfl
noncomputable def thL (L:List Int):List (Int×Int):=L.zip (L.drop 1)
def Hl(L:List Int):List.zipWith (λx y=>Val.tup [x,y]) (L.map .int) ((L.map .int).drop 1)=(thL L).map λp=>.tup [.int p.1,.int p.2]:=by unfold thL;rw[<- NQ,List.zipWith_map,List.map_zip_eq_zipWith];rfl
def zd{L:List Int}{p:Int×Int}(h:p∈thL L):p.1∈L/\p.2∈L:=⟨(OH h).1,Oa (OH h).2⟩
def ID(L:List Int):(thL L).length<=L.length:=by unfold thL;rw[List.length_zip];omega
structure W1(ws:List Int):Prop where
 pos:1<=ws.length
 len:ws.length<=40
 wt:∀w∈ws,1<=w/\w<=1000000000000000000000000000000
def sm30{w:Int}(h:0<=w)(h2:w<=2000000000000000000000000000000):Sm 104 w:=by
 refine ky h ?_;have e:(2:Int)^104=20282409603651670423947251286016:=by decide
 omega
def W1.sm{ws:List Int}(W:W1 ws){w:Int}(h:w∈ws):Sm 104 w:=sm30 (by have:=W.wt w h;omega) (by have:=W.wt w h;omega)
def Ma{ws:List Int}(W:W1 ws){p:Int×Int}(h1:p.1∈ws)(h2:p.2∈ws):Sz 4000 (thQ p):=by have a1:=W.wt _ h1;have a2:=W.wt _ h2;exact Sz.div (by omega) (sm30 (by omega) (by omega)) (W.sm h2) 4000 (by decide) (by decide)
noncomputable def bTh (b:Bx) (ws:List Int):Rat:=mxL ([aV b,3]++(thL (srI ws).reverse).map thQ)
def IG{b:Bx}{ws:List Int}{l:List (Int×Int)}(hb:b.Ok)(hs:b.Sz 2000)(W:W1 ws)(hl:∀p∈l,p.1∈ws/\p.2∈ws):[aV b,3]++l.map thQ≠[]/\∀q∈[aV b,3]++l.map thQ,Sz 4000 q:=by
 refine⟨by simp,λq hq=>?_⟩;rcases Ol.mp hq with h |h
 .rcases G_.mp h with rfl |h
  .exact kB hb hs
  .rw[Nt.mp h];exact⟨by show (3:Rat).num.natAbs<_;exact I_ (show 3<2^2 by decide) (Nj (by decide) (by decide)),by show (3:Rat).den<_;exact I_ (show 1<2^2 by decide) (Nj (by decide) (by decide))⟩
 .obtain⟨p,hp,rfl⟩:=MR.mp h;exact Ma W (hl p hp).1 (hl p hp).2
def rm{b:Bx}{ws:List Int}(hb:b.Ok)(hs:b.Sz 2000)(W:W1 ws):cu.G [bV b,liV ws]=.ok (.val (fV (bTh b ws))) []:=by
 have wl:=W.len;have ks:=Fp ws (by omega);have sh:=jQ hb hs (by decide);have hin:∀x,x∈(srI ws).reverse->x∈ws:=λx hx=>(jP ws).mem_iff.mp (List.mem_reverse.mp hx);have rl:(srI ws).reverse.length=ws.length:=by rw[List.length_reverse,(jP ws).length_eq]
 have tl:=ID (srI ws).reverse;have hl:∀p∈thL (srI ws).reverse,p.1∈ws/\p.2∈ws:=λp hp=>⟨hin _ (zd hp).1,hin _ (zd hp).2⟩;obtain⟨s4,s5,lo⟩:=vD (rv:=bV b) (wv:=liV ws) (fv:=liV (srI ws).reverse) (thL (srI ws).reverse) [aV b,3] .no .no rfl rfl (λp hp=>⟨(W.wt _ (hl p hp).2).1,W.sm (hl p hp).2⟩) (by show 2+_<=_;omega);obtain⟨q1,q2⟩:=IG (l:=thL (srI ws).reverse) hb hs W hl;have ge:=f9 (by decide) q1 q2;rw[show mxL ([aV b,3]++(thL (srI ws).reverse).map thQ)=bTh b ws from rfl] at ge;have zt:=Hl (srI ws).reverse;have fl:L3.flatV (fV (bTh b ws))=true:=rfl;have cf:gQ ((srI ws).reverse.map Val.int) (some 1) none=((srI ws).reverse.map Val.int).drop 1:=fY _ 1;rw[show ([aV b,3]:List Rat).map fV=[fV (aV b),.tup [.int 3,.int 1]] from rfl] at lo;unfold cu;rw[au];unfold gz;unfold liV at *;generalize ([aV b,3]++(thL (srI ws).reverse).map thQ).map fV=sv at *;generalize (thL (srI ws).reverse).map (λp=>Val.tup [.int p.1,.int p.2])=zv at *;generalize (srI ws).reverse.map Val.int=fv at *;generalize ws.map Val.int=wv at *;generalize bTh b ws=r at *;generalize fV (aV b)=sq at *;generalize bV b=bv at *;simp![ks,sh,eN,cf,zt,lo,ge,fl]
def Dc{ws:List Int}{b:Bx}(w:Bool)(g:Good b)(W:WOk ws):bc.G [.str (wy w),bV b,liV ws]=.ok (.new (.lst ((aA b (wy w) ws).map bV))) []:=by
 have se:=vh w g.ok W;have bb:=CY w g W;have ck:=m9 w;have n1:=fu w (s:="halves") (by simp);have n2:=fu w (s:="rows") (by simp);have n3:=fu w (s:="greatest") (by simp);have n4:=fu w (s:="thirds") (by simp);have rt:aq.G [.str (wy w),bV b,liV ws]=.ok (.val (atV (sbT w ws.length))) []:=by unfold aq;rw[au];unfold bT;generalize atV (sbT w ws.length)=tv at *;generalize liV ws=wv at *;generalize bV b=bv at *;generalize wy w=yy at *;simp![ck,n1,n2,n3,n4,se]
 unfold bc;rw[au];unfold iR;generalize (aA b (wy w) ws).map bV=pv at *;generalize atV (sbT w ws.length)=tv at *;generalize liV ws=wv at *;generalize bV b=bv at *;generalize wy w=yy at *;simp![rt,bb]
noncomputable def bWy (w:Bool) (b:Bx) (ws:List Int):Rat:=mxL ((aA b (wy w) ws).map aV)
noncomputable def bHv (b:Bx) (ws:List Int):Rat:=mxL [aV b,((ws.sum:Int):Rat)/((mnI ws:Int):Rat)]
def WOk.one{ws:List Int}(W:WOk ws):W1 ws:=⟨W.pos,W.len,W.wt⟩
def WOk.ne{ws:List Int}(W:WOk ws):ws≠[]:=λz=>by
 have:=W.pos
 rw[z] at this;exact absurd this (by decide)
def kU{b:Bx}{ws:List Int}(g:Good b)(W:WOk ws):b.Sz 2000:=by obtain⟨m,_,B,_⟩:=oJ g W;exact B.sz
def sy{ws:List Int}{b:Bx}(g:Good b)(W:WOk ws):∃m,m<=104/\Bd m (2^101) b ws.length/\ws.sum<2^m/\(ws.length:Int)<=ws.sum:=by obtain⟨m,hm,B,h⟩:=oJ g W;have e:=h (List.range ws.length) (λk hk=>MJ.mp hk) (by rw[x_];exact u_ _);unfold wtA at e;rw[jT] at e;exact⟨m,hm,B,e,dJ λw hw=>(W.wt w hw).1⟩
def Fj{ws:List Int}{b:Bx}(w:Bool)(g:Good b)(W:WOk ws):(aA b (wy w) ws≠[]/\∀c∈aA b (wy w) ws,c.Ok/\c.Sz 2000)/\(aA b (wy w) ws).length<=1000/\(aA b (wy w) ws).map aV≠[]/\∀q∈(aA b (wy w) ws).map aV,Sz 4000 q:=by
 obtain⟨m,hm,B,h,_⟩:=sy g W;have wp:=W.pos;have wl:=W.len;have pl:=kD b (wy w) ws;have h0:aA b (wy w) ws≠[]:=λz=>by rw[z,M0] at pl;omega
 have h1:∀c∈aA b (wy w) ws,c.Ok/\c.Sz 2000:=λc hc=>by
  have:=B.part (λx hx=>(W.wt x hx).1) h hc (show 0<ws.length by omega)
  exact⟨this.ok,this.sz⟩
 refine⟨⟨h0,h1⟩,by omega,λz=>h0 (Pg.mp z),λq hq=>?_⟩;obtain⟨c,hc,rfl⟩:=MR.mp hq;exact kB (h1 c hc).1 (h1 c hc).2
def Kx{ws:List Int}{b:Bx}(g:Good b)(W:WOk ws):([aV b,((ws.sum:Int):Rat)/((mnI ws:Int):Rat)]≠[])/\(∀q∈[aV b,((ws.sum:Int):Rat)/((mnI ws:Int):Rat)],Sz 4000 q)/\mnI ws≠0/\Sm 8000 (mnI ws):=by
 obtain⟨m,hm,B,h,hp⟩:=sy g W;have hi:=kK W.ne;have h1:=(W.wt _ hi).1;have s1:=W.one.sm hi;refine⟨by simp,λq hq=>?_,by omega,s1.mono (by decide)⟩;rcases G_.mp hq with rfl |hq
 .exact kB g.ok (kU g W)
 .rw[Nt.mp hq];exact Sz.div (by omega) (ky (by omega) h) s1 4000 (by omega) (by decide)
section
variable{ws:List Int}{b:Bx}(g:Good b)(W:WOk ws)
def CD(g:Good b)(W:WOk ws):aK.G [.str "thirds",bV b,liV ws]=.ok (.val (fV (bTh b ws))) []:=by
 have cr:=bN (r:="thirds") rfl;have cb:=aT g.ok;have cw:=dZ W.ne (λx hx=>(W.wt x hx).1) W.len;have tb:=rm g.ok (kU g W) W.one;have e1:aG (.str "thirds") (.str "thirds")=some true:=by rw[L3.eq_str (by decide) (by decide)];exact MK some (by decide)
 unfold aK;rw[au];unfold dC;unfold liV at *;generalize bTh b ws=r at *;generalize ws.map Val.int=wv at *;generalize bV b=bv at *;simp![cr,cb,cw,e1,tb]
def As(g:Good b)(W:WOk ws):aK.G [.str "halves",bV b,liV ws]=.ok (.val (fV (bHv b ws))) []:=by
 have cr:=bN (r:="halves") rfl;have cb:=aT g.ok;have cw:=dZ W.ne (λx hx=>(W.wt x hx).1) W.len;have sh:=jQ g.ok (kU g W) (by decide);obtain⟨q1,q2,q3,q4⟩:=Kx g W;have fe:=cX (a:=ws.sum) q3 q4;have ge:=f9 (by decide) q1 q2;rw[show mxL [aV b,((ws.sum:Int):Rat)/((mnI ws:Int):Rat)]=bHv b ws from rfl] at ge;have mn:=Ad W.ne;have m1:=bH ws;have e0:aG (.str "halves") (.str "thirds")=some false:=by rw[L3.eq_str (by decide) (by decide)];exact MK some (by decide)
 have e1:aG (.str "halves") (.str "halves")=some true:=by rw[L3.eq_str (by decide) (by decide)];exact MK some (by decide)
 have fl:L3.flatV (fV (bHv b ws))=true:=rfl;simp only[z_,M1] at ge;unfold aK;rw[au];unfold dC;unfold liV at *;generalize bHv b ws=r at *;generalize fV (((ws.sum:Int):Rat)/((mnI ws:Int):Rat))=hq at *;generalize fV (aV b)=sq at *;generalize ws.map Val.int=wv at *;generalize bV b=bv at *;simp![cr,cb,cw,e0,e1,sh,m1,mn,fe,ge,fl]
def BN(w:Bool)(g:Good b)(W:WOk ws):aK.G [.str (wy w),bV b,liV ws]=.ok (.val (fV (bWy w b ws))) []:=by
 have cr:=m9 w;have cb:=aT g.ok;have cw:=dZ W.ne (λx hx=>(W.wt x hx).1) W.len;obtain⟨⟨p0,p1⟩,p2,_⟩:=Fj w g W;obtain⟨i,wo⟩:=AD p0 p1 p2;rw[show mxL ((aA b (wy w) ws).map aV)=bWy w b ws from rfl] at wo;have be:=Dc w g W;have n1:=fu w (s:="halves") (by simp);have n4:=fu w (s:="thirds") (by simp);have iw:bIn.G (.str (wy w)) (.tup [.str "across",.str "down"])=.val (.bl true):=by cases w <;> rfl
 have a0:atI [fV (bWy w b ws),Val.int i] 0=some (fV (bWy w b ws)):=dY (by decide) rfl;unfold aK;rw[au];unfold dC;unfold liV at *;generalize fV (bWy w b ws)=r at *;generalize (aA b (wy w) ws).map bV=pv at *;generalize ws.map Val.int=wv at *;generalize bV b=bv at *;generalize wy w=yy at *;simp![cr,cb,cw,n4,n1,iw,be,wo,a0]
def qS{r:Str}(h1:lY.G (.str r) (.tup [.str "across",.str "down",.str "halves",.str "rows",.str "greatest",.str "thirds"])=.val (.bl false))(h2:aG (.str r) (.str "thirds")=some false)(h3:aG (.str r) (.str "halves")=some false)(h4:bIn.G (.str r) (.tup [.str "across",.str "down"])=.val (.bl false))(g:Good b)(W:WOk ws):aK.G [.str r,bV b,liV ws]=.ok (.val .non) []:=by have cr:=bN h1;have cb:=aT g.ok;have cw:=dZ W.ne (λx hx=>(W.wt x hx).1) W.len;unfold aK;rw[au];unfold dC;unfold liV at *;generalize ws.map Val.int=wv at *;generalize bV b=bv at *;simp![cr,cb,cw,h2,h3,h4]
end
structure WtL(v:Val):Prop where
 ask:iq v=true
 sz:∀xs,v=.lst xs->∀x∈xs,∀i,x=.int i->i.natAbs<=1000
 wf:d0 v=true->wfV 5 v=true
def tZ{v:Val}(hk:iq v=true)(hn:d0 v=false):WtL v:=⟨hk,(λxs e=>by subst e;cases hn),λz=>by rw[hn] at z;cases z⟩
def Bj{ws:List Int}(hl:ws.length<=41)(h:∀w∈ws,1<=w/\w<=99):WtL (.lst (ws.map .int)):=by
 refine⟨?_,?_,λ_=>?_⟩
 .simp only[iq,t_,Np,p_];refine⟨by omega,?_⟩;rw[K_];intro v hv;obtain⟨w,_,rfl⟩:=MR.mp hv;rfl
 .intro xs e x hx i hi;cases e;subst hi;obtain⟨w,hw,e⟩:=MR.mp hx;cases e
  have:=h i hw
  omega
 .rw[wfV,fR,K_];intro v hv;obtain⟨w,_,rfl⟩:=MR.mp hv;rfl
def Ex{xs:List Val}(h:WtL (.lst xs))(j:Nat){v:Val}(hk:knV v=true)(hv:∀i,v=.int i->i.natAbs<=1000)(hw:wfV 4 v=true):WtL (.lst (xs.set j v)):=by
 have ha:=h.ask;simp only[iq,t_,Np] at ha;refine⟨?_,?_,λ_=>?_⟩
 .simp only[iq,t_,Np,M4];refine⟨ha.1,?_⟩;rw[K_];intro u hu;rcases NI hu with hu |rfl
  .exact K_.mp ha.2 u hu
  .exact hk
 .intro ys e x hx i hi;cases e;rcases NI hx with hx |rfl
  .exact h.sz xs rfl x hx i hi
  .exact hv i hi
 .have hf:=h.wf rfl;rw[wfV,fR,K_] at hf ⊢;intro u hu;rcases NI hu with hu |rfl
  .exact hf u hu
  .exact hw
def liQ(k:Int)(r:SR3):Prop:=∃rt v a c,WtL v/\(rt=.val v\/rt=.new v)/\mi [true] r=.ok rt [fdV a c k]
def GP{i:Int}(h0:0<=i)(h1:i<3):i=0\/i=1\/i=2:=by omega
def Er(a c k:Int):∃rt v a' c',WtL v/\(rt=.val v\/rt=.new v)/\fq.G [fdV a c k]=.ok rt [fdV a' c' k]:=by
 unfold fq;rw[wF rfl];show liQ k (jC.G [.mu (fdV a c k),.no,.no]);unfold jC;obtain⟨m,a1,c1,e1,h10,h11⟩:=aD (a:=a) (b:=c) (k:=k) (m:=9) (by decide) (sm8 (by decide));obtain⟨j,a2,c2,e2,h20,h21⟩:=aD (a:=a1) (b:=c1) (k:=k) (m:=3) (by decide) (sm8 (by decide));refine aW (λe=>∃n:Int,1<=n/\n<=41/\e=[.mu (fdV a2 c2 k),.sh (.int n),.no]) ?_ ?_
 .rcases GP h20 h21 with rfl |rfl |rfl
  .exact⟨_,by simp![e1,e2],1+m,by omega,by omega,rfl⟩
  .exact⟨_,by simp![e1,e2],40,by omega,by omega,rfl⟩
  .exact⟨_,by simp![e1,e2],41,by omega,by omega,rfl⟩
 rintro _ ⟨n,hn1,hn2,rfl⟩;have rg:=kT (i:=n) (by omega) (by omega);refine aW (λe=>∃a c xs,xs.length=n.toNat/\WtL (.lst xs)/\e=[.mu (fdV a c k),.sh (.int n),.ow (.lst xs)]) ?_ ?_
 .obtain⟨e',ws,⟨s,a3,c3,rfl,hs⟩,a_,hR,lc⟩:=pD (g:=(gtN 0).G) (F:=(pOp bA (ah 1) (ai ao (aa (af 1) (aa (ah 99) ag)))).G) Val.int (λw=>1<=w/\w<=99) (λe=>∃s a c,e=[s,.mu (fdV a c k)]/\s.pl=true) (rgV n.toNat) [] [.no,.mu (fdV a2 c2 k)] ⟨_,_,_,rfl,rfl⟩ (by
   rintro v hv e ⟨s,a,c,rfl,hs⟩;obtain⟨r,a1,c1,e1,h0,h1⟩:=aD (a:=a) (b:=c) (k:=k) (m:=99) (by decide) (sm8 (by decide));refine⟨[.sh v,.mu (fdV a c k)],.val (.int (1+r)),[.sh v,.mu (fdV a1 c1 k)],1+r,?_,?_,rfl,⟨_,_,_,rfl,rfl⟩,by omega,by omega⟩
   .simp![hs]
   .simp![e1]) (by simp [rgV];omega)
  have hl:ws.length=n.toNat:=by rw[a_];simp [rgV]
  have hlm:(ws.map Val.int).length<=16777216:=by rw[p_];omega
  rw[M9] at lc;refine⟨[.mu (fdV a3 c3 k),.sh (.int n),.ow (.lst (ws.map .int))],?_,a3,c3,_,by rw[p_];exact hl,Bj (by omega) hR,rfl⟩;simp![rg,cm,yK,lc,hlm]
 rintro _ ⟨a,c,xs,hxl,hxs,rfl⟩;obtain⟨b4,a3,c3,e3,h30,h31⟩:=aD (a:=a) (b:=c) (k:=k) (m:=4) (by decide) (sm8 (by decide));refine aW (λe=>∃a c xs,WtL (.lst xs)/\e=[.mu (fdV a c k),.sh (.int n),.ow (.lst xs)]) ?_ ?_
 .by_cases hw:b4=0
  .subst hw;obtain⟨q,a4,c4,e4,h50,h51⟩:=aD (a:=a3) (b:=c3) (k:=k) (m:=5) (by omega) (sm8 (by omega));obtain⟨p,a5,c5,e5,h40,h41⟩:=aD (a:=a4) (b:=c4) (k:=k) (m:=n) (by omega) (sm8 (by omega));obtain⟨way,a6,c6,e6,h60,h61⟩:=aD (a:=a5) (b:=c5) (k:=k) (m:=2) (by omega) (sm8 (by omega));have i1:ixN xs.length p=some p.toNat:=nN h40 (by omega);have i2:ixN xs.length (n-1)=some (n-1).toNat:=nN (by omega) (by omega);obtain⟨v,ev,hv,hvw,hvi⟩:∃v,atI [Val.int 0,.int (-5),.bl true,.str "3",.non] q=some v/\knV v=true/\wfV 4 v=true/\∀i,v=.int i->i.natAbs<=1000:=by
    rcases (show q=0\/q=1\/q=2\/q=3\/q=4 by omega) with rfl |rfl |rfl |rfl |rfl
    .exact⟨_,mr ..,rfl,rfl,by intro i hi;cases hi;decide⟩
    .exact⟨_,mz ..,rfl,rfl,by intro i hi;cases hi;decide⟩
    .exact⟨_,oE ..,rfl,rfl,by intro i hi;cases hi⟩
    .exact⟨_,n8 ..,rfl,by decide,by intro i hi;cases hi⟩
    .exact⟨_,Bb ..,rfl,rfl,by intro i hi;cases hi⟩
   obtain⟨j,jn,ej,ejn⟩:∃j jn,atI [Val.int p,Val.int (n-1)] way=some (Val.int j)/\ixN xs.length j=some jn:=by
    rcases (show way=0\/way=1 by omega) with rfl |rfl
    .exact⟨_,_,mr ..,i1⟩
    .exact⟨_,_,mz ..,i2⟩
   exact⟨_,by simp![e3,e4,e5,e6,ev,ej,ejn],a6,c6,_,Ex hxs jn hv hvi hvw,rfl⟩
  .exact⟨_,by simp![e3,E_.mpr hw],a3,c3,xs,hxs,rfl⟩
 rintro _ ⟨a,c,xs,hxs,rfl⟩;obtain⟨b9,a3,c3,e3,h30,h31⟩:=aD (a:=a) (b:=c) (k:=k) (m:=9) (by decide) (sm8 (by decide));by_cases hw:b9=0
 .subst hw;obtain⟨q,a4,c4,e4,h50,h51⟩:=aD (a:=a3) (b:=c3) (k:=k) (m:=4) (by omega) (sm8 (by omega));obtain⟨v,ev,hv⟩:∃v,atI [Val.lst [],.non,.tup xs,.str "12"] q=some v/\WtL v:=by
   rcases (show q=0\/q=1\/q=2\/q=3 by omega) with rfl |rfl |rfl |rfl
   .exact⟨_,mr ..,⟨rfl,(by intro ys e x hx;cases e;cases hx),λ_=>rfl⟩⟩
   .exact⟨_,mz ..,tZ rfl rfl⟩
   .exact⟨_,oE ..,tZ rfl rfl⟩
   .exact⟨_,n8 ..,tZ rfl rfl⟩
  refine⟨.val v,v,a4,c4,hv,.inl rfl,?_⟩;simp![e3,e4,ev,gE]
 .refine⟨.new (.lst xs),.lst xs,a3,c3,hxs,.inr rfl,?_⟩;simp![e3,E_.mpr hw,gE]
noncomputable def qL:Val->Bool
 |.bl _=>true
 |_=>false
noncomputable def gD:Val->Bool
 |.lst xs=>!decide (xs=[])&&xs.all eD
 |_=>false
def Fi{v:Val}(hk:knV v=true):(aw aB).G [v,.ty "int"]=.val (.bl (gW v || qL v)):=by cases v <;> first |rfl |cases hk
def BH{v:Val}(hk:knV v=true):(aw aB).G [v,.ty "bool"]=.val (.bl (qL v)):=by cases v <;> first |rfl |cases hk
def FT{v:Val}(h:WtL v):fB.G [v]=.ok (.val (.bl (gD v))) []:=by
 unfold fB;rw[au];unfold nQ;cases hL:d0 v with
 |
  false=>
  have hk:=uU h.ask hL;have il:=kI hk;rw[hL] at il;have:gD v=false:=by cases v <;> first |rfl |cases hL
  simp![il,this]
 |
  true=>
  cases v with
  |
   lst xs=>
   have ha':xs.length<=1000/\xs.all knV=true:=by simpa [iq] using h.ask
   have il:=kI (v:=.lst xs) rfl;have en:=FA (h.wf rfl) (by decide);by_cases h0:xs=[]
   .subst h0;simp![il,en,gD]
   .obtain⟨e',⟨s',rfl,_⟩,lc⟩:=kN (g:=(gtN 0).G) (F:=(fA (pFn (aw aB) (aa (af 0) (aa (pTy "int") ag))) (fA (sZ (pFn (aw aB) (aa (af 0) (aa (pTy "bool") ag)))) (pOp bGt (af 0) (ah 0)))).G) (f:=λv=>.bl (eD v)) (λe=>∃s,e=[s]/\s.pl=true) xs [] [.no] ⟨.no,rfl,rfl⟩ (by
     rintro v hv e ⟨s,rfl,hs⟩;have hk:=K_.mp ha'.2 v hv;have i1:=Fi hk;have i2:=BH hk;refine⟨[.sh v],.val (.bl (eD v)),[.sh v],?_,?_,rfl,⟨_,rfl,rfl⟩⟩
     .simp![hs]
     .rcases ig v with h |⟨i,rfl⟩
      .rw[h] at i1;cases h2:qL v <;> (rw[h2] at i1 i2;simp![i1,i2,xa h])
      .have e:decide (0<i)=decide (1<=i):=Oz.mpr (by omega);simp![i1,i2,gW,qL,eD,e]) (by simp;omega)
    have cy:cY=qY.G:=rfl;rw[cy,M9] at lc;have a_:(xs.map λv=>Val.bl (eD v)).length<=16777216:=by rw[p_];omega
    rw[D_ h0] at en;simp![il,en,lc,a_,ip,gF,gD,sE];rw[D_ h0];rfl
  |_=>cases hL
def FE{v:Val}(h:WtL v)(g:gD v=true):∃ws:List Int,v=liV ws/\ws≠[]/\∀w∈ws,1<=w/\w<=1000:=by
 cases v with
 |
  lst xs=>
  simp only[gD,t_,NP,Ni] at g;obtain⟨g0,g1⟩:=g;have key:∀l:List Val,(∀x∈l,x∈xs)->∃ws:List Int,l=ws.map .int/\∀w∈ws,1<=w/\w<=1000:=by
   intro l;induction l with
   |nil=>exact λ_=>⟨[],rfl,λ_ h=>nomatch h⟩
   |
    cons x l ih=>
    intro hl;obtain⟨ws,rfl,hws⟩:=ih λy hy=>hl y (q_ _ hy);have hx:=hl x (s_ ..);have hg:=K_.mp g1 x hx;rcases ig x with hi |⟨i,rfl⟩
    .rw[xa hi] at hg;cases hg
    .have h1:1<=i:=N9 hg;have h2:=h.sz xs rfl _ hx i rfl;refine⟨i::ws,rfl,λw hw=>?_⟩;rcases G_.mp hw with rfl |hw
     .omega
     .exact hws w hw
  obtain⟨ws,rfl,hws⟩:=key xs λ_ h=>h;exact⟨ws,rfl,λz=>g0 (by rw[z];rfl),hws⟩
 |_=>cases g
def oc(R:R3F):Option Str->Prop
 |some c=>R=.exc c []
 |none=>∃rt,R=.ok rt []
noncomputable def ocV:Option Str->Val
 |some c=>.exc c
 |none=>.non
def clQ(d:Int)(r:SR3):Prop:=mi [false,false,false,false] r=.ok (.val (.int d)) []
def lkn:(("by_rule" : Str)==("rule_tree" : Str))=false/\(("bound_of" : Str)==("rule_tree" : Str))=false/\(("bound_of" : Str)==("by_rule" : Str))=false/\(("thirds_tree" : Str)==("halves_tree" : Str))=false/\(("rows_tree" : Str)==("halves_tree" : Str))=false/\(("rows_tree" : Str)==("thirds_tree" : Str))=false/\(("greatest_tree" : Str)==("halves_tree" : Str))=false/\(("greatest_tree" : Str)==("thirds_tree" : Str))=false/\(("greatest_tree" : Str)==("rows_tree" : Str))=false:=by decide
def ma{way d:Int}{ru:Str}{r w:Val}{c:Option Str}(hc:c=some ("NoRule" : Str)/\d=0\/c=some ("NoBox" : Str)/\d=1\/c=some ("NoWeights" : Str)/\d=2\/c=some ("TooMany" : Str)/\d=3\/c=none/\d=4)
 (hw:way=0/\oc (aq.G [.str ru,r,w]) c\/way=1/\oc (bc.G [.str ru,r,w]) c\/way=2/\oc (aK.G [.str ru,r,w]) c\/way=3/\oc (aR.G [r,w]) c\/way=4/\oc (aS.G [r,w]) c\/way=5/\oc (bp.G [r,w]) c\/way=6/\oc (aJ.G [r,w]) c):dW.G [.int way,.str ru,r,w]=.ok (.val (.int d)) []:=by
 unfold dW;rw[wF rfl];show clQ d (iY.G [.sh (.int way),.sh (.str ru),.sh r,.sh w,.no,.no,.no]);unfold iY;refine aW (λe=>e=[.sh (.int way),.sh (.str ru),.sh r,.sh w,.sh .non,.no,.no]) ⟨_,by simp![fZ],rfl⟩ ?_;rintro _ rfl;obtain⟨k1,k2,k3,k4,k5,k6,k7,k8,k9⟩:=lkn;refine aW (λe=>e=[.sh (.int way),.sh (.str ru),.sh r,.sh w,.sh (ocV c),.no,.no]) ?_ ?_
 .cases c with
  |
   none=>
   clear hc;rcases hw with ⟨rfl,rt,e⟩ |⟨rfl,rt,e⟩ |⟨rfl,rt,e⟩ |⟨rfl,rt,e⟩ |⟨rfl,rt,e⟩ |⟨rfl,rt,e⟩ |⟨rfl,rt,e⟩
   .exact⟨_,by simp![dX,MP,k1,k2,k3,k4,k5,k6,k7,k8,k9,e,ocV],rfl⟩
   .exact⟨_,by simp![dX,MP,k1,k2,k3,k4,k5,k6,k7,k8,k9,e,ocV],rfl⟩
   .exact⟨_,by simp![dX,MP,k1,k2,k3,k4,k5,k6,k7,k8,k9,e,ocV],rfl⟩
   .exact⟨_,by simp![dX,MP,k1,k2,k3,k4,k5,k6,k7,k8,k9,e,ocV],rfl⟩
   .exact⟨_,by simp![dX,MP,k1,k2,k3,k4,k5,k6,k7,k8,k9,e,ocV],rfl⟩
   .exact⟨_,by simp![dX,MP,k1,k2,k3,k4,k5,k6,k7,k8,k9,e,ocV],rfl⟩
   .exact⟨_,by simp![dX,MP,k1,k2,k3,k4,k5,k6,k7,k8,k9,e,ocV],rfl⟩
  |
   some c=>
   have m:c∈gq:=by rcases hc with ⟨h,_⟩ |⟨h,_⟩ |⟨h,_⟩ |⟨h,_⟩ |⟨h,_⟩ <;> first |(cases h;decide +kernel) |cases h
   clear hc;rcases hw with ⟨rfl,e⟩ |⟨rfl,e⟩ |⟨rfl,e⟩ |⟨rfl,e⟩ |⟨rfl,e⟩ |⟨rfl,e⟩ |⟨rfl,e⟩ <;> unfold oc at e
   .exact⟨_,by simp![dX,MP,k1,k2,k3,k4,k5,k6,k7,k8,k9,e,m,ocV];rfl,rfl⟩
   .exact⟨_,by simp![dX,MP,k1,k2,k3,k4,k5,k6,k7,k8,k9,e,m,ocV];rfl,rfl⟩
   .exact⟨_,by simp![dX,MP,k1,k2,k3,k4,k5,k6,k7,k8,k9,e,m,ocV];rfl,rfl⟩
   .exact⟨_,by simp![dX,MP,k1,k2,k3,k4,k5,k6,k7,k8,k9,e,m,ocV];rfl,rfl⟩
   .exact⟨_,by simp![dX,MP,k1,k2,k3,k4,k5,k6,k7,k8,k9,e,m,ocV];rfl,rfl⟩
   .exact⟨_,by simp![dX,MP,k1,k2,k3,k4,k5,k6,k7,k8,k9,e,m,ocV];rfl,rfl⟩
   .exact⟨_,by simp![dX,MP,k1,k2,k3,k4,k5,k6,k7,k8,k9,e,m,ocV];rfl,rfl⟩
 rintro _ rfl;clear hw;unfold clQ;rcases hc with ⟨rfl,rfl⟩ |⟨rfl,rfl⟩ |⟨rfl,rfl⟩ |⟨rfl,rfl⟩ |⟨rfl,rfl⟩
 .rw[show ocV (some ("NoRule" : Str))=.exc "NoRule" from rfl];have i1:(aw aB).G [.exc "NoRule",.glb "NoRule"]=.val (.bl true):=rfl;have i2:(aw aB).G [.exc "NoRule",.glb "NoBox"]=.val (.bl false):=rfl;have i3:(aw aB).G [.exc "NoRule",.glb "NoWeights"]=.val (.bl false):=rfl;have i4:(aw aB).G [.exc "NoRule",.glb "TooMany"]=.val (.bl false):=rfl;have i5:(aw aB).G [.exc "NoRule",.tup [.glb "NoFraction",.glb "NoText",.glb "NoTree",.glb "NoWay"]]=.val (.bl false):=rfl;have ct:fS.G (.lst [.bl true,.bl false,.bl false,.bl false,.bl false]) [.bl true]=.val (.int 1):=rfl;have ix:cL.G (.lst [.bl true,.bl false,.bl false,.bl false,.bl false]) [.bl true]=.val (.int 0):=rfl;simp![i1,i2,i3,i4,i5,ct,ix,gE]
 .rw[show ocV (some ("NoBox" : Str))=.exc "NoBox" from rfl];have i1:(aw aB).G [.exc "NoBox",.glb "NoRule"]=.val (.bl false):=rfl;have i2:(aw aB).G [.exc "NoBox",.glb "NoBox"]=.val (.bl true):=rfl;have i3:(aw aB).G [.exc "NoBox",.glb "NoWeights"]=.val (.bl false):=rfl;have i4:(aw aB).G [.exc "NoBox",.glb "TooMany"]=.val (.bl false):=rfl;have i5:(aw aB).G [.exc "NoBox",.tup [.glb "NoFraction",.glb "NoText",.glb "NoTree",.glb "NoWay"]]=.val (.bl false):=rfl;have ct:fS.G (.lst [.bl false,.bl true,.bl false,.bl false,.bl false]) [.bl true]=.val (.int 1):=rfl;have ix:cL.G (.lst [.bl false,.bl true,.bl false,.bl false,.bl false]) [.bl true]=.val (.int 1):=rfl;simp![i1,i2,i3,i4,i5,ct,ix,gE]
 .rw[show ocV (some ("NoWeights" : Str))=.exc "NoWeights" from rfl];have i1:(aw aB).G [.exc "NoWeights",.glb "NoRule"]=.val (.bl false):=rfl;have i2:(aw aB).G [.exc "NoWeights",.glb "NoBox"]=.val (.bl false):=rfl;have i3:(aw aB).G [.exc "NoWeights",.glb "NoWeights"]=.val (.bl true):=rfl;have i4:(aw aB).G [.exc "NoWeights",.glb "TooMany"]=.val (.bl false):=rfl;have i5:(aw aB).G [.exc "NoWeights",.tup [.glb "NoFraction",.glb "NoText",.glb "NoTree",.glb "NoWay"]]=.val (.bl false):=rfl;have ct:fS.G (.lst [.bl false,.bl false,.bl true,.bl false,.bl false]) [.bl true]=.val (.int 1):=rfl;have ix:cL.G (.lst [.bl false,.bl false,.bl true,.bl false,.bl false]) [.bl true]=.val (.int 2):=rfl;simp![i1,i2,i3,i4,i5,ct,ix,gE]
 .rw[show ocV (some ("TooMany" : Str))=.exc "TooMany" from rfl];have i1:(aw aB).G [.exc "TooMany",.glb "NoRule"]=.val (.bl false):=rfl;have i2:(aw aB).G [.exc "TooMany",.glb "NoBox"]=.val (.bl false):=rfl;have i3:(aw aB).G [.exc "TooMany",.glb "NoWeights"]=.val (.bl false):=rfl;have i4:(aw aB).G [.exc "TooMany",.glb "TooMany"]=.val (.bl true):=rfl;have i5:(aw aB).G [.exc "TooMany",.tup [.glb "NoFraction",.glb "NoText",.glb "NoTree",.glb "NoWay"]]=.val (.bl false):=rfl;have ct:fS.G (.lst [.bl false,.bl false,.bl false,.bl true,.bl false]) [.bl true]=.val (.int 1):=rfl;have ix:cL.G (.lst [.bl false,.bl false,.bl false,.bl true,.bl false]) [.bl true]=.val (.int 3):=rfl;simp![i1,i2,i3,i4,i5,ct,ix,gE]
 .rw[show ocV none=.non from rfl];have i1:(aw aB).G [.non,.glb "NoRule"]=.val (.bl false):=rfl;have i2:(aw aB).G [.non,.glb "NoBox"]=.val (.bl false):=rfl;have i3:(aw aB).G [.non,.glb "NoWeights"]=.val (.bl false):=rfl;have i4:(aw aB).G [.non,.glb "TooMany"]=.val (.bl false):=rfl;have i5:(aw aB).G [.non,.tup [.glb "NoFraction",.glb "NoText",.glb "NoTree",.glb "NoWay"]]=.val (.bl false):=rfl;have ct:fS.G (.lst [.bl false,.bl false,.bl false,.bl false,.bl true]) [.bl true]=.val (.int 1):=rfl;have ix:cL.G (.lst [.bl false,.bl false,.bl false,.bl false,.bl true]) [.bl true]=.val (.int 4):=rfl;simp![i1,i2,i3,i4,i5,ct,ix,gE]
def Bad(r w:Val)(c:Str):Prop:=aH.G [r]=.exc c []\/(aH.G [r]=.ok (.val .non) []/\aF.G [w]=.exc c [])
noncomputable def jj:Val:=.tup [.str "across",.str "down",.str "halves",.str "rows",.str "greatest",.str "thirds"]
def DU{r w:Val}{c:Str}(h:Bad r w c):aR.G [r,w]=.exc c []:=by
 unfold aR;rw[au];unfold gu;rcases h with e |⟨e1,e2⟩
 .simp![e]
 .simp![e1,e2]
def Dx{r w:Val}{c:Str}(h:Bad r w c):aS.G [r,w]=.exc c []:=by
 unfold aS;rw[au];unfold gx;rcases h with e |⟨e1,e2⟩
 .simp![e]
 .simp![e1,e2]
def Du{r w:Val}{c:Str}(h:Bad r w c):bp.G [r,w]=.exc c []:=by
 unfold bp;rw[au];unfold iX;rcases h with e |⟨e1,e2⟩
 .simp![e]
 .simp![e1,e2]
def C5{r w:Val}{c:Str}(h:Bad r w c):aJ.G [r,w]=.exc c []:=by
 unfold aJ;rw[au];unfold fm;rcases h with e |⟨e1,e2⟩
 .simp![e]
 .simp![e1,e2]
def LY{y r w:Val}{c:Str}(h:Bad r w c):bL.G [y,r,w]=.exc c []:=by
 unfold bL;rw[au];unfold fJ;rcases h with e |⟨e1,e2⟩
 .simp![e]
 .simp![e1,e2]
def gS(s:Str):Prop:=(∃w,s=wy w)\/s="halves" \/ s="rows" \/ s="greatest" \/ s="thirds"
def zC{s:Str}(h:gS s):bu.G [.str s]=.ok (.val .non) []:=by
 rcases h with ⟨w,rfl⟩ |rfl |rfl |rfl |rfl
 .exact m9 w
 .exact bN rfl
 .exact bN rfl
 .exact bN rfl
 .exact bN rfl
def B4{s:Str}{r w:Val}{c:Str}(hs:gS s)(h:Bad r w c):aq.G [.str s,r,w]=.exc c []:=by
 have ck:=zC hs;unfold aq;rw[au];unfold bT;rcases hs with ⟨w',rfl⟩ |rfl |rfl |rfl |rfl
 .have e:=LY (y:=.str (wy w')) h;have n1:=fu w' (s:="halves") (by simp);have n2:=fu w' (s:="rows") (by simp);have n3:=fu w' (s:="greatest") (by simp);have n4:=fu w' (s:="thirds") (by simp);generalize wy w'=yy at *;simp![ck,n1,n2,n3,n4,e]
 .have e:=DU h;have e1:aG (.str "halves") (.str "halves")=some true:=by rw[L3.eq_str (by decide) (by decide)];exact MK some (by decide)
  simp![ck,e1,e]
 .have e:=Du h;have e0:aG (.str "rows") (.str "halves")=some false:=by rw[L3.eq_str (by decide) (by decide)];exact MK some (by decide)
  have e1:aG (.str "rows") (.str "rows")=some true:=by rw[L3.eq_str (by decide) (by decide)];exact MK some (by decide)
  simp![ck,e0,e1,e]
 .have e:=C5 h;have e0:aG (.str "greatest") (.str "halves")=some false:=by rw[L3.eq_str (by decide) (by decide)];exact MK some (by decide)
  have e1:aG (.str "greatest") (.str "rows")=some false:=by rw[L3.eq_str (by decide) (by decide)];exact MK some (by decide)
  have e2:aG (.str "greatest") (.str "greatest")=some true:=by rw[L3.eq_str (by decide) (by decide)];exact MK some (by decide)
  simp![ck,e0,e1,e2,e]
 .have e:=Dx h;have e0:aG (.str "thirds") (.str "halves")=some false:=by rw[L3.eq_str (by decide) (by decide)];exact MK some (by decide)
  have e1:aG (.str "thirds") (.str "rows")=some false:=by rw[L3.eq_str (by decide) (by decide)];exact MK some (by decide)
  have e2:aG (.str "thirds") (.str "greatest")=some false:=by rw[L3.eq_str (by decide) (by decide)];exact MK some (by decide)
  have e3:aG (.str "thirds") (.str "thirds")=some true:=by rw[L3.eq_str (by decide) (by decide)];exact MK some (by decide)
  simp![ck,e0,e1,e2,e3,e]
def xW{s:Str}{r w:Val}{c:Str}(e:aq.G [.str s,r,w]=.exc c []):bc.G [.str s,r,w]=.exc c []:=by unfold bc;rw[au];unfold iR;simp![e]
def yr{s:Str}{r w:Val}{c:Str}(hs:gS s)(h:Bad r w c):aK.G [.str s,r,w]=.exc c []:=by
 have ck:=zC hs;unfold aK;rw[au];unfold dC;rcases h with e |⟨e1,e2⟩
 .simp![ck,e]
 .simp![ck,e1,e2]
def Fw{s:Str}{r w:Val}(h:lY.G (.str s) jj=.val (.bl true)):aq.G [.str s,r,w]=.exc "NoRule" []/\bc.G [.str s,r,w]=.exc "NoRule" []/\aK.G [.str s,r,w]=.exc "NoRule" []:=by
 have ck:bu.G [.str s]=.exc "NoRule" []:=by unfold jj at h;unfold bu;rw[au];unfold gT;simp![h]
 have e1:aq.G [.str s,r,w]=.exc "NoRule" []:=by unfold aq;rw[au];unfold bT;simp![ck]
 refine⟨e1,xW e1,?_⟩;unfold aK;rw[au];unfold dC;simp![ck]
structure Rul(r:Str)(b:Bx)(ws:List Int)(t:AT):Prop where
 eq:aq.G [.str r,bV b,liV ws]=.ok (.val (atV t)) []
 ok:TOk t (List.range ws.length)
def x6{s:Str}{b:Bx}{ws:List Int}(hs:gS s)(g:Good b)(W:WOk ws):∃t,Rul s b ws t:=by
 rcases hs with ⟨w,rfl⟩ |rfl |rfl |rfl |rfl
 .exact⟨_,zT w g.ok W,DY w W.pos⟩
 .exact⟨_,Gk (xF g W).1,(xF g W).2⟩
 .exact⟨_,HF (xM g W).1,(xM g W).2⟩
 .exact⟨_,Jh (wb g W).1,(wb g W).2⟩
 .exact⟨_,GK (xJ g W).1,(xJ g W).2⟩
def xG{s:Str}{b:Bx}{ws:List Int}(hs:gS s)(g:Good b)(W:WOk ws):∃rt,aK.G [.str s,bV b,liV ws]=.ok rt []:=by
 rcases hs with ⟨w,rfl⟩ |rfl |rfl |rfl |rfl
 .exact⟨_,BN w g W⟩
 .exact⟨_,As g W⟩
 .exact⟨_,qS rfl (by rw[L3.eq_str (by decide) (by decide)];exact MK some (by decide)) (by rw[L3.eq_str (by decide) (by decide)];exact MK some (by decide)) rfl g W⟩
 .exact⟨_,qS rfl (by rw[L3.eq_str (by decide) (by decide)];exact MK some (by decide)) (by rw[L3.eq_str (by decide) (by decide)];exact MK some (by decide)) rfl g W⟩
 .exact⟨_,CD g W⟩
def uv{b:Bx}{ws:List Int}(w:Bool)(g:Good b)(W:WOk ws):cW.G [bV b,.str (wy w),liV ws]=.ok (.new (.lst ((aA b (wy w) ws).map bV))) []:=by obtain⟨m,hm,B,h,_⟩:=sy g W;exact iP g.ok (kU g W) (by cases w;exact .inr rfl;exact .inl rfl) W.ne (λx hx=>(W.wt x hx).1) (ky (by have:=dJ (l:=ws) λw hw=>(W.wt w hw).1;omega) h) (by omega) W.len
def Iv(l:List Bx):aG (.lst (l.map bV)) (.lst (l.map bV))=some true:=by
 have:wfV 60 (.lst (l.map bV))=true:=by rw[wfV,fR,K_];intro v hv;obtain⟨b,_,rfl⟩:=MR.mp hv;exact Dq b 57
 rw[lb this this,jm 60 _ this]
def LG(w:Bool)(n:Nat):aG (atV (sbT w n)) (atV (sbT w n))=some true:=by
 have:wfV 60 (atV (sbT w n))=true:=by
  unfold sbT;split
  .rfl
  .rw[l7];have h1:wfV 59 (.tup ((List.range n).map λk:Nat=>Val.int k))=true:=by rw[wfV,fR,K_];intro v hv;obtain⟨k,_,rfl⟩:=MR.mp hv;rfl
   have h2:wfV 59 (.str (wy w))=true:=by cases w <;> (simp only[wfV];decide +kernel)
   rw[wfV,fR];simp only[OV,List.all_nil,h1,h2,Bool.and_self]
 rw[lb this this,jm 60 _ this]
def mQ{b:Bx}{ws:List Int}(w:Bool)(g:Good b)(W:WOk ws){s3:Sl}(h3:s3.pl=true):gn.G [.sh (bV b),.sh (liV ws),.sh (.str (wy w)),s3]=.nx [.sh (bV b),.sh (liV ws),.sh (.str (wy w)),.sh (atV (sbT w ws.length))]:=by
 have wl:=W.len;have wp:=W.pos;have e1:=zT w g.ok W;have e2:=Dc w g W;have e3:=uv w g W;have q1:=LG w ws.length;have q2:=Iv (aA b (wy w) ws);have ll:((ws.map Val.int).length:Nat)=ws.length:=p_ ..;have kt:jE.G [.int (ws.length:Nat)]=.val (.tup ((List.range ws.length).map λk:Nat=>Val.int k)):=D2 ⟨by omega,by omega⟩;have tt:(true != true)=false:=rfl;unfold gn;generalize (aA b (wy w) ws).map bV=pv at *;unfold liV at *;by_cases h1:ws.length=1
 .have n1:(((ws.length:Nat):Int)==1)=true:=by rw[MX];omega
  have es:atV (sbT w ws.length)=.int 0:=by unfold sbT;rw[if_pos h1];rfl
  rw[es] at e1 q1 ⊢;generalize ws.map Val.int=wv at *;generalize bV b=bv at *;generalize wy w=yy at *;simp![ll,n1,h3,e1,e2,e3,q1,q2]
 .have n1:(((ws.length:Nat):Int)==1)=false:=by rw[E_];omega
  have es:atV (sbT w ws.length)=.tup [.str (wy w),.tup ((List.range ws.length).map λk:Nat=>Val.int k)]:=by unfold sbT;rw[if_neg h1,l7]
  rw[es] at e1 q1 ⊢;generalize ((List.range ws.length).map λk:Nat=>Val.int k)=rv at *;generalize ws.map Val.int=wv at *;generalize bV b=bv at *;generalize wy w=yy at *;simp![ll,n1,kt,h3,e1,e2,e3,q1,q2]
def x4{b:Bx}{ws:List Int}(g:Good b)(W:WOk ws):dn.G [bV b,liV ws]=.ok (.val (.bl true)) []:=by have e1:=mQ (s3:=.no) true g W rfl;have e2:=mQ (s3:=.sh (atV (sbT true ws.length))) false g W rfl;have y1:wy true="across":=rfl;have y2:wy false="down":=rfl;rw[y1] at e1;rw[y2] at e2;generalize atV (sbT true ws.length)=t1 at *;generalize atV (sbT false ws.length)=t2 at *;unfold dn;rw[au];unfold kE;generalize liV ws=wv at *;generalize bV b=bv at *;simp![eW,e1,e2]
def wO{ws:List Int}{b:Bx}{t:AT}(g:Good b)(W:WOk ws)(T:TOk t (List.range ws.length)):cz.G [bV b,liV ws,atV t]=.ok (.new (.lst ((List.range ws.length).map λk=>bV (bxO (AT.bx ws t b) k)))) []:=by have wp:=W.pos;have wl:=W.len;obtain⟨m,hm,hy⟩:=xo g W T (λi=>MJ) x_;exact mw (by omega) g.ok (λz=>by rw[z] at wp;exact absurd wp (by decide)) (λx hx=>(W.wt x hx).1) wl T.ok (λk=>(T.mem k).trans MJ) (qP T (λi=>MJ) x_) (by rw[T.len,x_]) (by have:=T.dep;rw[x_] at this;omega) hy
def Due(r w:Val)(d:Int)(c:Option Str):Prop:=(d=4/\c=none/\∃b ws,r=bV b/\w=liV ws/\Good b/\WOk ws)\/∃cs,c=some cs/\Bad r w cs/\(cs="NoBox" /\ d=1\/cs="NoWeights" /\ d=2\/cs="TooMany" /\ d=3)
def Rl(s:Str)(nr:Bool):Prop:=lY.G (.str s) jj=.val (.bl nr)/\bIn.G (.str s) jj=.val (.bl (!nr))/\(nr=false->gS s)
def Due.hc{r w:Val}{d:Int}{c:Option Str}(h:Due r w d c):c=some ("NoRule" : Str)/\d=0\/c=some ("NoBox" : Str)/\d=1\/c=some ("NoWeights" : Str)/\d=2\/c=some ("TooMany" : Str)/\d=3\/c=none/\d=4:=by
 rcases h with ⟨h1,h2,_⟩ |⟨cs,h1,_,h2⟩
 .exact .inr (.inr (.inr (.inr ⟨h2,h1⟩)))
 .rcases h2 with ⟨rfl,h⟩ |⟨rfl,h⟩ |⟨rfl,h⟩
  .exact .inr (.inl ⟨h1,h⟩)
  .exact .inr (.inr (.inl ⟨h1,h⟩))
  .exact .inr (.inr (.inr (.inl ⟨h1,h⟩)))
def BA{r w:Val}{d:Int}{c:Option Str}(h:Due r w d c):oc (aR.G [r,w]) c/\oc (aS.G [r,w]) c/\oc (bp.G [r,w]) c/\oc (aJ.G [r,w]) c:=by
 rcases h with ⟨_,rfl,b,ws,rfl,rfl,g,W⟩ |⟨cs,rfl,hb,_⟩
 .exact⟨⟨_,(xF g W).1⟩,⟨_,(xJ g W).1⟩,⟨_,(xM g W).1⟩,⟨_,(wb g W).1⟩⟩
 .exact⟨DU hb,Dx hb,Du hb,C5 hb⟩
def xS{r w:Val}{d:Int}{c:Option Str}{s:Str}(h:Due r w d c)(hs:gS s):oc (aq.G [.str s,r,w]) c/\oc (bc.G [.str s,r,w]) c/\oc (aK.G [.str s,r,w]) c:=by
 rcases h with ⟨_,rfl,b,ws,rfl,rfl,g,W⟩ |⟨cs,rfl,hb,_⟩
 .obtain⟨t,R⟩:=x6 hs g W;exact⟨⟨_,R.eq⟩,⟨_,Dh g W R.eq R.ok⟩,xG hs g W⟩
 .have e:=B4 hs hb;exact⟨e,xW e,yr hs hb⟩
def FL{r w:Val}{d:Int}{c:Option Str}{s:Str}{nr:Bool}(h:Due r w d c)(hr:Rl s nr){way:Int}(w0:0<=way)(w1:way<7):dW.G [.int way,.str s,r,w]=.ok (.val (.int (if nr=true/\way<3 then 0 else d))) []:=by
 obtain⟨a1,a2,a3,a4⟩:=BA h;by_cases h3:way<3
 .cases nr with
  |
   true=>
   rw[if_pos ⟨rfl,h3⟩];obtain⟨b1,b2,b3⟩:=Fw (r:=r) (w:=w) hr.1;refine ma (c:=some ("NoRule" : Str)) (.inl ⟨rfl,rfl⟩) ?_;rcases (show way=0\/way=1\/way=2 by omega) with rfl |rfl |rfl
   .exact .inl ⟨rfl,b1⟩
   .exact .inr (.inl ⟨rfl,b2⟩)
   .exact .inr (.inr (.inl ⟨rfl,b3⟩))
  |
   false=>
   rw[if_neg (λz=>w_ z.1)];obtain⟨b1,b2,b3⟩:=xS h (hr.2.2 rfl);refine ma h.hc ?_;rcases (show way=0\/way=1\/way=2 by omega) with rfl |rfl |rfl
   .exact .inl ⟨rfl,b1⟩
   .exact .inr (.inl ⟨rfl,b2⟩)
   .exact .inr (.inr (.inl ⟨rfl,b3⟩))
 .rw[if_neg (λz=>h3 z.2)];refine ma h.hc ?_;rcases (show way=3\/way=4\/way=5\/way=6 by omega) with rfl |rfl |rfl |rfl
  .exact .inr (.inr (.inr (.inl ⟨rfl,a1⟩)))
  .exact .inr (.inr (.inr (.inr (.inl ⟨rfl,a2⟩))))
  .exact .inr (.inr (.inr (.inr (.inr (.inl ⟨rfl,a3⟩)))))
  .exact .inr (.inr (.inr (.inr (.inr (.inr ⟨rfl,a4⟩)))))
def Cc{r w:Val}{d:Int}{c:Option Str}{s:Str}{nr:Bool}(h:Due r w d c)(hr:Rl s nr){way:Int}(w0:0<=way)(w1:way<7){s0 s1 s2 s4 s9:Sl}:jt.G [s0,s1,s2,.sh r,s4,.sh w,.sh (.str s),.sh (.int d),.sh (.int way),s9]=.nx [s0,s1,s2,.sh r,s4,.sh w,.sh (.str s),.sh (.int d),.sh (.int way),s9]:=by
 have e:=FL h hr w0 w1;have n:=hr.1;unfold jj at n;have bb:∀i:Int,(i==i)=true:=λi=>MP i;unfold jt;clear h hr;by_cases h3:way<3
 .have d3:=H_ h3;cases nr with
  |true=>rw[if_pos ⟨rfl,h3⟩] at e;simp![n,d3,e,bb]
  |false=>rw[if_neg (λz=>w_ z.1)] at e;simp![n,d3,e,bb]
 .have d3:=D_ h3;rw[if_neg (λz=>h3 z.2)] at e;cases nr with
  |true=>simp![n,d3,e,bb]
  |false=>simp![n,d3,e,bb]
def CQ{r w:Val}{d:Int}{c:Option Str}{s:Str}{nr:Bool}(h:Due r w d c)(hr:Rl s nr){s0 s1 s2 s4 s8 s9:Sl}(h8:s8.pl=true):∃t8:Sl,t8.pl=true/\fg (gtN 8).G jt.G (rgV 7) [s0,s1,s2,.sh r,s4,.sh w,.sh (.str s),.sh (.int d),s8,s9]=.nx [s0,s1,s2,.sh r,s4,.sh w,.sh (.str s),.sh (.int d),t8,s9]:=by obtain⟨e',⟨t8,ht,rfl⟩,fr⟩:=mj (g:=(gtN 8).G) (B:=jt.G) (λe=>∃t8:Sl,t8.pl=true/\e=[s0,s1,s2,.sh r,s4,.sh w,.sh (.str s),.sh (.int d),t8,s9]) (rgV 7) [s0,s1,s2,.sh r,s4,.sh w,.sh (.str s),.sh (.int d),s8,s9] ⟨s8,h8,rfl⟩ (by rintro v hv e ⟨t8,ht,rfl⟩;obtain⟨j,hj,rfl⟩:=MR.mp hv;rw[MJ] at hj;refine⟨[s0,s1,s2,.sh r,s4,.sh w,.sh (.str s),.sh (.int d),.sh (.int (j:Nat)),s9],_,?_,.inl (Cc h hr (by omega) (by omega)),.sh (.int (j:Nat)),rfl,rfl⟩;simp![ht]);exact⟨t8,ht,fr⟩
def CN{q:Int}(h0:0<=q)(h1:q<6):∃s,atI [Val.str "across",.str "down",.str "halves",.str "rows",.str "greatest",.str "thirds"] q=some (.str s)/\Rl s false:=by
 rcases (show q=0\/q=1\/q=2\/q=3\/q=4\/q=5 by omega) with rfl |rfl |rfl |rfl |rfl |rfl
 .exact⟨_,mr ..,rfl,rfl,λ_=>.inl ⟨true,rfl⟩⟩
 .exact⟨_,mz ..,rfl,rfl,λ_=>.inl ⟨false,rfl⟩⟩
 .exact⟨_,oE ..,rfl,rfl,λ_=>.inr (.inl rfl)⟩
 .exact⟨_,n8 ..,rfl,rfl,λ_=>.inr (.inr (.inl rfl))⟩
 .exact⟨_,Bb ..,rfl,rfl,λ_=>.inr (.inr (.inr (.inl rfl)))⟩
 .exact⟨_,ati5 ..,rfl,rfl,λ_=>.inr (.inr (.inr (.inr rfl)))⟩
def Ar{q:Int}(h0:0<=q)(h1:q<7):∃s,atI [Val.str "",.str "Rows",.str "half",.str "rows ",.str "third",.str "up",.str "greatests"] q=some (.str s)/\Rl s true:=by
 rcases (show q=0\/q=1\/q=2\/q=3\/q=4\/q=5\/q=6 by omega) with rfl |rfl |rfl |rfl |rfl |rfl |rfl
 .exact⟨_,mr ..,rfl,rfl,λz=>absurd z (by decide)⟩
 .exact⟨_,mz ..,rfl,rfl,λz=>absurd z (by decide)⟩
 .exact⟨_,oE ..,rfl,rfl,λz=>absurd z (by decide)⟩
 .exact⟨_,n8 ..,rfl,rfl,λz=>absurd z (by decide)⟩
 .exact⟨_,Bb ..,rfl,rfl,λz=>absurd z (by decide)⟩
 .exact⟨_,ati5 ..,rfl,rfl,λz=>absurd z (by decide)⟩
 .exact⟨_,ati6 ..,rfl,rfl,λz=>absurd z (by decide)⟩
def bdQ(ns:List Int)(k:Int)(r:SR3):Prop:=∃s2 s3 s4 s5 s6 s7 s8 s9:Sl,(s2.pl=true/\s3.pl=true/\s4.pl=true/\s5.pl=true/\s6.pl=true/\s7.pl=true/\s8.pl=true/\s9.pl=true)/\r=.nx [.sh (.kl (ns.map .int)),.sh (.int k),s2,s3,s4,s5,s6,s7,s8,s9]
def sl3(b:Bx):aSl (bV b) none (some 3)=.val (.tup [fV b.l,fV b.t,fV b.w]):=rfl
def Ca{ns:List Int}{k:Int}{r w R:Val}{d:Int}{c:Option Str}{s:Str}{nr:Bool}(h:Due r w d c)(hr:Rl s nr){s2 s8 s9:Sl}(h2:s2.pl=true)(h8:s8.pl=true)(h9:s9.pl=true):bdQ ns k ((aj (gX (iM (aa (ah 7) ag)) (gtN 8) (jt))
 (aj (xIf (qAn (qOf (pOp bEq (af 7) (ah 4))) (qNo (qOf (ai dn (aa (af 3) (aa (af 5) ag)))))) (ak (pBl false)) xNx)
 (xIf (qAn (qOf (pOp bEq (af 7) (ah 4))) (qOf (pOp bIn (af 6) eV))) (aj (ay false 9 (ai aq (aa (af 6) (aa (af 3) (aa (af 5) ag)))))
 (xIf (qOf (pOp bNe (ai bc (aa (af 6) (aa (af 3) (aa (af 5) ag)))) (ai cz (aa (af 3) (aa (af 5) (aa (af 9) ag)))))) (ak (pBl false)) xNx)) xNx))).G [.sh (.kl (ns.map .int)),.sh (.int k),s2,.sh r,.sh R,.sh w,.sh (.str s),.sh (.int d),s8,s9]):=by
 obtain⟨t8,ht8,fr⟩:=CQ (s0:=.sh (.kl (ns.map .int))) (s1:=.sh (.int k)) (s2:=s2) (s4:=.sh R) (s9:=s9) h hr h8;have rg:ja [.int 7]=some (rgV 7):=kT (i:=7) (by decide) (by decide);refine aW (λe=>e=[.sh (.kl (ns.map .int)),.sh (.int k),s2,.sh r,.sh R,.sh w,.sh (.str s),.sh (.int d),t8,s9]) ⟨_,by simp![rg,fr],rfl⟩ ?_;rintro _ rfl;have n:=hr.2.1;unfold jj at n;rcases h with ⟨rfl,rfl,b,ws,rfl,rfl,g,W⟩ |⟨cs,rfl,hb,hd⟩
 .have st:=x4 g W;refine aW (λe=>e=[.sh (.kl (ns.map .int)),.sh (.int k),s2,.sh (bV b),.sh R,.sh (liV ws),.sh (.str s),.sh (.int 4),t8,s9]) ⟨_,by generalize bV b=bv at *;generalize liV ws=wv at *;simp![st],rfl⟩ ?_;rintro _ rfl;cases nr with
  |true=>refine⟨s2,.sh (bV b),.sh R,.sh (liV ws),.sh (.str s),.sh (.int 4),t8,s9,⟨h2,rfl,rfl,rfl,rfl,rfl,ht8,h9⟩,?_⟩;generalize bV b=bv at *;generalize liV ws=wv at *;simp![n]
  |false=>obtain⟨t,Ru⟩:=x6 (hr.2.2 rfl) g W;have e1:=Ru.eq;have e2:=Dh g W Ru.eq Ru.ok;have e3:=wO g W Ru.ok;have q:=Lc (List.range ws.length) λk=>bxO (AT.bx ws t b) k;refine⟨s2,.sh (bV b),.sh R,.sh (liV ws),.sh (.str s),.sh (.int 4),t8,.sh (atV t),⟨h2,rfl,rfl,rfl,rfl,rfl,ht8,rfl⟩,?_⟩;generalize ((List.range ws.length).map λk=>bV (bxO (AT.bx ws t b) k))=pv at *;generalize atV t=tv at *;generalize bV b=bv at *;generalize liV ws=wv at *;simp![n,h9,e1,e2,e3,q]
 .have d4:(d==4)=false:=by rw[E_];rcases hd with ⟨_,rfl⟩ |⟨_,rfl⟩ |⟨_,rfl⟩ <;> decide
  refine⟨s2,.sh r,.sh R,.sh w,.sh (.str s),.sh (.int d),t8,s9,⟨h2,rfl,rfl,rfl,rfl,rfl,ht8,h9⟩,?_⟩;simp![d4]
def FY{ns:List Int}{k:Int}(hk:0<=k){s2 s3 s4 s5 s6 s7 s8 s9:Sl}(h2:s2.pl=true)(h3:s3.pl=true)(h4:s4.pl=true)(h5:s5.pl=true)(h6:s6.pl=true)(h7:s7.pl=true)(h8:s8.pl=true)(h9:s9.pl=true):bdQ ns k (nE.G [.sh (.kl (ns.map .int)),.sh (.int k),s2,s3,s4,s5,s6,s7,s8,s9]):=by
 unfold nE;obtain⟨a0,fe⟩:=Ek (ns:=ns) hk;refine aW (λe=>e=[.sh (.kl (ns.map .int)),.sh (.int k),.ow (fdV a0 0 k),s3,s4,s5,s6,s7,s8,s9]) ⟨_,by simp![fe,h2],rfl⟩ ?_;rintro _ rfl;obtain⟨b,a1,c1,gb,er⟩:=EV a0 0 k;refine aW (λe=>e=[.sh (.kl (ns.map .int)),.sh (.int k),.ow (fdV a1 c1 k),.sh (bV b),s4,s5,s6,s7,s8,s9]) ⟨_,by simp![er,h3],rfl⟩ ?_;rintro _ rfl;obtain⟨n,a3,c3,e3,h30,h31⟩:=aD (a:=a1) (b:=c1) (k:=k) (m:=4) (by decide) (sm8 (by decide));refine aW (λe=>e=[.sh (.kl (ns.map .int)),.sh (.int k),.ow (fdV a3 c3 k),.sh (bV b),.sh (.bl (decide (0<n))),s5,s6,s7,s8,s9]) ⟨_,by simp![e3,h4],rfl⟩ ?_;rintro _ rfl;generalize hR:decide (0<n)=R;refine aW (λe=>∃r a c,(R=true/\r=bV b\/R=false/\gv 2 r=true/\eG r=false)/\e=[.sh (.kl (ns.map .int)),.sh (.int k),.ow (fdV a c k),.sh r,.sh (.bl R),s5,s6,s7,s8,s9]) ?_ ?_
 .cases
   R with
  |true=>exact⟨_,by simp![fZ],bV b,a3,c3,.inl ⟨rfl,rfl⟩,rfl⟩
  |
   false=>
   obtain⟨q,a4,c4,e4,h40,h41⟩:=aD (a:=a3) (b:=c3) (k:=k) (m:=4) (by decide) (sm8 (by decide));have ls:rZ.G [bV b]=.new (.lst [fV b.l,fV b.t,fV b.w,fV b.h]):=rfl;have ad1:bA.G (.tup [fV b.l,fV b.t,fV b.w]) (.tup [.tup [.int 0,.int 1]])=.val (.tup [fV b.l,fV b.t,fV b.w,.tup [.int 0,.int 1]]):=rfl;obtain⟨u,eu,hu⟩:∃u,atI [.tup [fV b.l,fV b.t,fV b.w],.lst [fV b.l,fV b.t,fV b.w,fV b.h],.non,.tup [fV b.l,fV b.t,fV b.w,.tup [.int 0,.int 1]]] q=some u/\gv 2 u=true/\eG u=false:=by
    have z2:∀x y z w,gi w=false->eG (.tup [x,y,z,w])=false:=λx y z w h=>by show (aL x&&(aL y&&(aL z&&(aL w&&(gi z&&gi w)))))=false;rw[h];simp
    rcases (show q=0\/q=1\/q=2\/q=3 by omega) with rfl |rfl |rfl |rfl
    .exact⟨_,mr ..,rfl,rfl⟩
    .exact⟨_,mz ..,rfl,rfl⟩
    .exact⟨_,oE ..,rfl,rfl⟩
    .exact⟨_,n8 ..,rfl,z2 _ _ _ _ (by decide)⟩
   exact⟨_,by simp![ls,ad1,sl3,e4,eu],u,a4,c4,.inr ⟨rfl,hu⟩,rfl⟩
 rintro _ ⟨r,a4,c4,hr,rfl⟩;obtain⟨rt,w,a5,c5,hw,hrt,e5⟩:=Er a4 c4 k;refine aW (λe=>e=[.sh (.kl (ns.map .int)),.sh (.int k),.ow (fdV a5 c5 k),.sh r,.sh (.bl R),.sh w,s6,s7,s8,s9]) ?_ ?_
 .rcases hrt with rfl |rfl
  .exact⟨_,by simp![e5,h5],rfl⟩
  .exact⟨_,by simp![e5,h5],rfl⟩
 rintro _ rfl;obtain⟨q,a6,c6,e6,h60,h61⟩:=aD (a:=a5) (b:=c5) (k:=k) (m:=6) (by decide) (sm8 (by decide));obtain⟨s1,es1,hs1⟩:=CN h60 h61;refine aW (λe=>e=[.sh (.kl (ns.map .int)),.sh (.int k),.ow (fdV a6 c6 k),.sh r,.sh (.bl R),.sh w,.sh (.str s1),s7,s8,s9]) ⟨_,by simp![e6,es1,h6],rfl⟩ ?_;rintro _ rfl;obtain⟨q4,a7,c7,e7,h70,h71⟩:=aD (a:=a6) (b:=c6) (k:=k) (m:=4) (by decide) (sm8 (by decide));refine aW (λe=>∃s nr a c,Rl s nr/\e=[.sh (.kl (ns.map .int)),.sh (.int k),.ow (fdV a c k),.sh r,.sh (.bl R),.sh w,.sh (.str s),s7,s8,s9]) ?_ ?_
 .by_cases hq:q4=0
  .subst hq;obtain⟨q7,a8,c8,e8,h80,h81⟩:=aD (a:=a7) (b:=c7) (k:=k) (m:=7) (by decide) (sm8 (by decide));obtain⟨s2,es2,hs2⟩:=Ar h80 h81;exact⟨_,by simp![e7,e8,es2],s2,true,a8,c8,hs2,rfl⟩
  .exact⟨_,by simp![e7,E_.mpr hq],s1,false,a7,c7,hs1,rfl⟩
 rintro _ ⟨s,nr,a9,c9,hRl,rfl⟩;refine aW (λe=>e=[.sh (.kl (ns.map .int)),.sh (.int k),.ow (fdV a9 c9 k),.sh r,.sh (.bl R),.sh w,.sh (.str s),.sh (.int 4),s8,s9]) ⟨_,by simp![h7],rfl⟩ ?_;rintro _ rfl;have gd:=FT hw;refine aW (λe=>∃d c,Due r w d c/\e=[.sh (.kl (ns.map .int)),.sh (.int k),.ow (fdV a9 c9 k),.sh r,.sh (.bl R),.sh w,.sh (.str s),.sh (.int d),s8,s9]) ?_ ?_
 .rcases hr
   with ⟨rfl,rfl⟩ |⟨rfl,ha,hb⟩
  .have cb
    := aT gb.ok
   have cw:=gR hw.ask;cases hg:gD w with
   |
    false=>
    have hc:ko w=.exc "NoWeights" []:=by
     unfold ko;split
     .rename_i xs;by_cases h0:xs=[]
      .rw[if_pos h0]
      .rw[if_neg h0,if_neg];intro z;simp [gD,z,h0] at hg
     .rfl
    rw[hg] at gd;rw[hc] at cw;exact⟨_,by simp![gd],2,some ("NoWeights" : Str),.inr ⟨_,rfl,.inr ⟨cb,cw⟩,.inr (.inl ⟨rfl,rfl⟩)⟩,rfl⟩
   |
    true=>
    rw[hg] at gd;obtain⟨ws,rfl,hne,hws⟩:=FE hw hg;have ll:((ws.map Val.int).length:Nat)=ws.length:=p_ ..;by_cases hl:ws.length<=40
    .have hd:decide ((40:Int)<((ws.length:Nat):Int))=false:=D_ (by omega);have W:WOk ws:=⟨List.length_pos_iff.mpr hne,hl,λw h=>⟨(hws w h).1,by have:=(hws w h).2;omega⟩,λ_ w h=>by have:=(hws w h).2;omega⟩;refine⟨_,?_,4,none,.inl ⟨rfl,rfl,b,ws,rfl,rfl,gb,W⟩,rfl⟩;unfold liV at gd ⊢;generalize bV b=bv at *;simp![gd,ll,hd]
    .have hd:decide ((40:Int)<((ws.length:Nat):Int))=true:=H_ (by omega);have hc:ko (liV ws)=.exc "TooMany" []:=by unfold liV at hg ⊢;simp only[gD,t_,NP,Ni] at hg;unfold ko;dsimp only;rw[if_neg hg.1,if_pos hg.2,if_neg (by rw[p_];omega)]
     rw[hc] at cw;refine⟨_,?_,3,some ("TooMany" : Str),.inr ⟨_,rfl,.inr ⟨cb,cw⟩,.inr (.inr ⟨rfl,rfl⟩)⟩,rfl⟩;unfold liV at gd ⊢;generalize bV b=bv at *;simp![gd,ll,hd]
  .have cb:=kF ha;rw[hb] at cb;exact⟨_,by simp![fZ],1,some ("NoBox" : Str),.inr ⟨_,rfl,.inl cb,.inl ⟨rfl,rfl⟩⟩,rfl⟩
 rintro _ ⟨d,c,hD,rfl⟩;exact Ca hD hRl rfl h8 h9
def JG(ns:List Int)(hl:ns.length<=63):qJ.G [.kl (ns.map .int)]=.ok (.val (.bl true)) []:=by
 have eqr:aG (.tup [.str "across",.str "down",.str "halves",.str "rows",.str "greatest",.str "thirds"]) (.tup [.str "across",.str "down",.str "halves",.str "rows",.str "greatest",.str "thirds"])=some true:=by
  have w:wfV 60 (.tup [.str "across",.str "down",.str "halves",.str "rows",.str "greatest",.str "thirds"])=true:=by simp only[wfV,bM];decide +kernel
  rw[lb w w,jm 60 _ w]
 have tt:(true != true)=false:=rfl;unfold qJ;rw[au];unfold Dz;have rg:∃m:Nat,ja [.int (if (if (((ns.map Val.int).length:Nat):Int)<10 then (((ns.map Val.int).length:Nat):Int) else 10)>1 then (if (((ns.map Val.int).length:Nat):Int)<10 then (((ns.map Val.int).length:Nat):Int) else 10) else 1)]=some (rgV m):=by refine⟨_,kT ?_ ?_⟩ <;> (split <;> split <;> omega)
 obtain⟨m,rg⟩:=rg;obtain⟨e',⟨s1,s2,s3,s4,s5,s6,s7,s8,s9,rfl,_⟩,fr⟩:=mj (g:=(gtN 1).G) (B:=nE.G) (λe=>∃s1 s2 s3 s4 s5 s6 s7 s8 s9:Sl,e=[.sh (.kl (ns.map .int)),s1,s2,s3,s4,s5,s6,s7,s8,s9]/\s1.pl=true/\s2.pl=true/\s3.pl=true/\s4.pl=true/\s5.pl=true/\s6.pl=true/\s7.pl=true/\s8.pl=true/\s9.pl=true) (rgV m) [.sh (.kl (ns.map .int)),.no,.no,.no,.no,.no,.no,.no,.no,.no] ⟨_,_,_,_,_,_,_,_,_,rfl,rfl,rfl,rfl,rfl,rfl,rfl,rfl,rfl,rfl⟩ (by rintro v hv e ⟨s1,s2,s3,s4,s5,s6,s7,s8,s9,rfl,h1,h2,h3,h4,h5,h6,h7,h8,h9⟩;obtain⟨j,_,rfl⟩:=MR.mp hv;obtain⟨t2,t3,t4,t5,t6,t7,t8,t9,⟨g2,g3,g4,g5,g6,g7,g8,g9⟩,q⟩:=FY (ns:=ns) (k:=(j:Nat)) (by omega) h2 h3 h4 h5 h6 h7 h8 h9;refine⟨_,_,?_,.inl q,.sh (.int (j:Nat)),t2,t3,t4,t5,t6,t7,t8,t9,rfl,rfl,g2,g3,g4,g5,g6,g7,g8,g9⟩;simp![h1]);simp![eqr,tt,rg,fr]
end KK
namespace PySem.W.Fast
def q__:=trivial
def tw10049234281260395348:=q__
def tw10165469966533344230:=q__
def tw10180352917798497776:=q__
def tw10199452105130372490:=q__
def tw10230369288852449872:=q__
def tw10234099495613459633:=q__
def tw10249622163898969905:=q__
def tw10305442404529019564:=q__
def tw10361552933249429787:=q__
def tw10386503989521419749:=q__
def tw10447493632611392163:=q__
def tw10590781868046149585:=q__
def tw10596027909661608283:=q__
def tw10612118162098480496:=q__
def tw10631123236364834830:=q__
def tw10632431943164258910:=q__
def tw10634587038904523211:=q__
def tw10646546498485379858:=q__
def tw10677557216846655026:=q__
def tw1069001905177154754:=q__
def tw10700600107810258531:=q__
def tw10772325232825061474:=q__
def tw1079340800854820660:=q__
def tw10868235590742231937:=q__
def tw10924942029278044622:=q__
def tw11141872700746250991:=q__
def tw11197998450964251738:=q__
def tw11208503937822135240:=q__
def tw11220112066183600167:=q__
def tw11227309717484723709:=q__
def tw11278224723115147488:=q__
def tw1131519442775638395:=q__
def tw11320203675536108910:=q__
def tw11354558008044771054:=q__
def tw1142401374175770431:=q__
def tw11461012110302156959:=q__
def tw11495350191367530147:=q__
def tw1149991001571964038:=q__
def tw11500529218213058575:=q__
def tw11508428604016185645:=q__
def tw11532415504726986412:=q__
def tw11551998385178325113:=q__
def tw11556319554666149960:=q__
def tw11561151707398488533:=q__
def tw11570859143309906096:=q__
def tw11614918384582766414:=q__
def tw11688387380098047717:=q__
def tw11708510894255500483:=q__
def tw11708546989286792404:=q__
def tw11762141906918888133:=q__
def tw11768147761757477752:=q__
def tw11822992718780255468:=q__
def tw11833258831003651829:=q__
def tw11842962344694748078:=q__
def tw1185152290810218171:=q__
def tw11862788679423316782:=q__
def tw11925716414477310174:=q__
def tw12052046874986056455:=q__
def tw12058355393224309266:=q__
def tw12165034139548445390:=q__
def tw12229775498569714626:=q__
def tw12306851413159486988:=q__
def tw12323264467952118826:=q__
def tw12350077705334212049:=q__
def tw12388406111191094940:=q__
def tw12395484502952911715:=q__
def tw12424968731205922208:=q__
def tw12432419464318070120:=q__
def tw12460876030705991887:=q__
def tw12480141058147776005:=q__
def tw1249962265252485923:=q__
def tw12509053803892104258:=q__
def tw12524161834608646197:=q__
def tw12573945989070250716:=q__
def tw127441452532741689:=q__
def tw12784187965331014997:=q__
def tw12806231564921555918:=q__
def tw12877453745376664876:=q__
def tw12878490024746243734:=q__
def tw12960317991130683016:=q__
def tw12976141171199078448:=q__
def tw13034839893688823910:=q__
def tw13043913141221815747:=q__
def tw13060421905602890454:=q__
def tw13108630485038785895:=q__
def tw1311198953910008212:=q__
def tw13124161604549090206:=q__
def tw1313249209326618396:=q__
def tw13158142042102734045:=q__
def tw13197557365572755051:=q__
def tw13206825373002044781:=q__
def tw13215615071940593376:=q__
def tw13240220872544473487:=q__
def tw13261384875538803337:=q__
def tw13295170827410611895:=q__
def tw13299514381359927035:=q__
def tw13300731691698083720:=q__
def tw1335923595873311641:=q__
def tw13383888902313124654:=q__
def tw13389593186517534741:=q__
def tw13423205850858281927:=q__
def tw13526859119562228408:=q__
def tw13571464249911986328:=q__
def tw13573703845596963612:=q__
def tw13654420186324745388:=q__
def tw13671862637826994886:=q__
def tw13708656173832012165:=q__
def tw1372622181117381511:=q__
def tw13738311982090824255:=q__
def tw13747399960975819651:=q__
def tw13778885911684812922:=q__
def tw13780732971359955061:=q__
def tw13790763712717313053:=q__
def tw13852877105727602034:=q__
def tw13855670959714248181:=q__
def tw13864724178499497545:=q__
def tw13871275250436413007:=q__
def tw13873406048993544020:=q__
def tw13889880186830783747:=q__
def tw1390035635946224099:=q__
def tw13999598413878788503:=q__
def tw14000071068930219361:=q__
def tw14065592696509578814:=q__
def tw14171082640752090219:=q__
def tw14198166050908240879:=q__
def tw14278456598660897099:=q__
def tw14301790907831596079:=q__
def tw14305816641960485014:=q__
def tw14514173409204620868:=q__
def tw14546591459466948403:=q__
def tw14554556505274819654:=q__
def tw14587376205946548508:=q__
def tw14632609079970747430:=q__
def tw14693009089963597541:=q__
def tw14737435078325125794:=q__
def tw14755280472320833882:=q__
def tw14757985438048035310:=q__
def tw14806825022563064375:=q__
def tw14833959773521958107:=q__
def tw14864404910181408147:=q__
def tw14875008686626690988:=q__
def tw14875448341249795162:=q__
def tw14900269089970431171:=q__
def tw149112529227198432:=q__
def tw14977335749795066003:=q__
def tw14996477928336899172:=q__
def tw15017030322839557202:=q__
def tw15043904822054780859:=q__
def tw15045230497420922794:=q__
def tw1515056819304603868:=q__
def tw15223824391305273903:=q__
def tw15225092446204140859:=q__
def tw15227929315468658515:=q__
def tw15240689299283260651:=q__
def tw15327921733970124325:=q__
def tw15418069526864694101:=q__
def tw15421180835252101543:=q__
def tw15437341741031523053:=q__
def tw15534618783723951372:=q__
def tw15536323379115431723:=q__
def tw15567035637830213599:=q__
def tw15573095545411662379:=q__
def tw15585560393165863583:=q__
def tw1562260632016511345:=q__
def tw15654911401494210099:=q__
def tw1566334050750367805:=q__
def tw15692759548022763466:=q__
def tw15729154431902015920:=q__
def tw15789631599598891271:=q__
def tw15804081840149329786:=q__
def tw15824211983776960542:=q__
def tw15847398068872450115:=q__
def tw15865308295658199768:=q__
def tw15896113641588643792:=q__
def tw15921340063777774781:=q__
def tw15965819345129409743:=q__
def tw15967662538781951694:=q__
def tw16078289033802101248:=q__
def tw16079148644432673276:=q__
def tw16188165706282226733:=q__
def tw16199433050300921118:=q__
def tw16210869482759239644:=q__
def tw16270418543517514354:=q__
def tw16286256034186939867:=q__
def tw16293358945844796123:=q__
def tw163217003792744360:=q__
def tw16333690375139650021:=q__
def tw16478973453879286940:=q__
def tw16627274391454493625:=q__
def tw16630056649010750218:=q__
def tw16755812182339866977:=q__
def tw16816611228817179470:=q__
def tw16833829695000689012:=q__
def tw16969174891744329968:=q__
def tw16993690022097296526:=q__
def tw17047759806940134388:=q__
def tw17059102282127762788:=q__
def tw17068558905142958737:=q__
def tw17087474578624217110:=q__
def tw17120778163414355157:=q__
def tw1712209851374961637:=q__
def tw17125458772101007637:=q__
def tw17142037507704690569:=q__
def tw17144228089059517883:=q__
def tw17167278141881357461:=q__
def tw17170901805326598174:=q__
def tw1717543691619913703:=q__
def tw1722042770991829061:=q__
def tw17374809827138620196:=q__
def tw17505295652243066540:=q__
def tw17542373430052011091:=q__
def tw17577542065167330620:=q__
def tw17601363098988655994:=q__
def tw17640943239141602966:=q__
def tw17670034782095660298:=q__
def tw17682595462384763121:=q__
def tw17712967806511771887:=q__
def tw1774243972307075861:=q__
def tw17811109264245711679:=q__
def tw17902753537348213592:=q__
def tw17960196862039534096:=q__
def tw18042432432003968405:=q__
def tw1836249122125816446:=q__
def tw18413354415365117492:=q__
def tw1859450985255539984:=q__
def tw1861409441211665192:=q__
def tw1921020082367252077:=q__
def tw1940819385813065293:=q__
def tw2013698799200520438:=q__
def tw2024881877746216743:=q__
def tw2037487343721524072:=q__
def tw2056595433304427839:=q__
def tw2130808532084268203:=q__
def tw2151932206475049997:=q__
def tw2179068484801467942:=q__
def tw2189870665098677526:=q__
def tw2252452070457557210:=q__
def tw2283728295731275056:=q__
def tw2363539312902903257:=q__
def tw2390863975225808579:=q__
def tw2391455393697769261:=q__
def tw2433207411238643346:=q__
def tw2523450120446827262:=q__
def tw2527051616939471386:=q__
def tw2532906170810486891:=q__
def tw2541201643717091934:=q__
def tw2548946692169205079:=q__
def tw2567077478696074490:=q__
def tw2574135875760640357:=q__
def tw258358281424276633:=q__
def tw2601785646572690790:=q__
def tw2638859026228677007:=q__
def tw2658271365506696604:=q__
def tw2679265748506108225:=q__
def tw2690326256639695509:=q__
def tw2764809818514883266:=q__
def tw2796251276254803043:=q__
def tw2821955875615549463:=q__
def tw2824245701011729214:=q__
def tw283656184036431167:=q__
def tw284166119365245196:=q__
def tw2900842703037395050:=q__
def tw2941774506599951611:=q__
def tw2964786284010554970:=q__
def tw2991722356597532827:=q__
def tw299316007216604387:=q__
def tw3040546729596033999:=q__
def tw3083469746404254049:=q__
def tw3086892687294405381:=q__
def tw3101183877016001037:=q__
def tw3111358886309128059:=q__
def tw3134677811308095999:=q__
def tw321228062581402110:=q__
def tw3234757611585911397:=q__
def tw3303957745901540165:=q__
def tw3340029247992452825:=q__
def tw3345836757274807572:=q__
def tw3366972386169103931:=q__
def tw3373558172483302043:=q__
def tw3387472165923499235:=q__
def tw3449384046673929329:=q__
def tw3449694118205012270:=q__
def tw3478440683699170807:=q__
def tw3669956041163033167:=q__
def tw3708782380963484810:=q__
def tw3762513268406054002:=q__
def tw3785767552328497706:=q__
def tw3841173352890932912:=q__
def tw3869591676163370548:=q__
def tw3921560109551349430:=q__
def tw3936823268300527268:=q__
def tw3959172965087715303:=q__
def tw3976507121424978059:=q__
def tw398538240773446940:=q__
def tw4056680281292922076:=q__
def tw4093878253039639682:=q__
def tw4132186073181086003:=q__
def tw4146300989095802479:=q__
def tw4164304914890303821:=q__
def tw4178006870352703097:=q__
def tw4242716428758827196:=q__
def tw4245033392476750205:=q__
def tw4249860088175615518:=q__
def tw431007141984423563:=q__
def tw4340404395935464324:=q__
def tw4359812052254875217:=q__
def tw4369157840973809295:=q__
def tw437747226357881091:=q__
def tw4399694247913040960:=q__
def tw4400430960843771723:=q__
def tw440106521938240542:=q__
def tw442362547356077245:=q__
def tw4440463901402997514:=q__
def tw4475491457758170845:=q__
def tw4476476936089949870:=q__
def tw451276605780402712:=q__
def tw4656843822049381899:=q__
def tw4719558309761202284:=q__
def tw4731072110196487970:=q__
def tw4742596208665997657:=q__
def tw4771959843161145229:=q__
def tw4869372102049453038:=q__
def tw493767688214554717:=q__
def tw4947353220001458522:=q__
def tw4957927149589952426:=q__
def tw5008601087777270479:=q__
def tw5018955001291228519:=q__
def tw5021281353027487395:=q__
def tw5032533140269795008:=q__
def tw50344873564614603:=q__
def tw5129277410091268580:=q__
def tw5238236085203459638:=q__
def tw5239471925785974531:=q__
def tw5289107423316632631:=q__
def tw5323858222913657423:=q__
def tw5421572667718683857:=q__
def tw5439573897169176767:=q__
def tw5465901599594699131:=q__
def tw5477202390610769350:=q__
def tw5521890342623057552:=q__
def tw5564406273634104680:=q__
def tw562662673768664208:=q__
def tw5664920175608555209:=q__
def tw5716670439333531447:=q__
def tw5720975778696797121:=q__
def tw5798848122327349771:=q__
def tw5803801955738693427:=q__
def tw5812308430613818666:=q__
def tw5814916024943605594:=q__
def tw5815507997055588861:=q__
def tw592681163079752436:=q__
def tw5942221859936671730:=q__
def tw5951535970486405544:=q__
def tw596877141097542270:=q__
def tw5972215929095971603:=q__
def tw5980783490352788211:=q__
def tw6000727034005055643:=q__
def tw601698847258366892:=q__
def tw6033598004415992003:=q__
def tw6070884292460111605:=q__
def tw6071149519336510373:=q__
def tw6122366082710092305:=q__
def tw6145612286956198861:=q__
def tw6184622126928128928:=q__
def tw6228753478440426483:=q__
def tw6237248339900262420:=q__
def tw6269794066895289412:=q__
def tw6278127429652561534:=q__
def tw6352469326582431473:=q__
def tw6360667620833965829:=q__
def tw6436194852751849377:=q__
def tw6445178037219909222:=q__
def tw6445859763117454889:=q__
def tw6516100427147192651:=q__
def tw653386331987366362:=q__
def tw6534553831201250092:=q__
def tw6562094432546368546:=q__
def tw6578649058347586050:=q__
def tw6626372177367620969:=q__
def tw6637104245389216827:=q__
def tw6667215995378613972:=q__
def tw6680255229469241941:=q__
def tw6692215442755952396:=q__
def tw6697854923302571977:=q__
def tw6707057976978414269:=q__
def tw6734548608824688082:=q__
def tw6736665445471085883:=q__
def tw6746071630537846721:=q__
def tw677929366493012138:=q__
def tw6790789436656149689:=q__
def tw6835829588223192270:=q__
def tw6882037804599979049:=q__
def tw6947359802186724451:=q__
def tw6997346166697757391:=q__
def tw7030468624899293451:=q__
def tw7082050307197670420:=q__
def tw7109898753844554545:=q__
def tw7118754568502344533:=q__
def tw7204921696661733814:=q__
def tw7221582158193493440:=q__
def tw7243414061064940326:=q__
def tw7270224793496126801:=q__
def tw7299727470428856915:=q__
def tw7304978547166761230:=q__
def tw7614485403558688995:=q__
def tw7626120135212771614:=q__
def tw7628456957776004373:=q__
def tw763414619271975971:=q__
def tw7640368407318530418:=q__
def tw7651141513528567217:=q__
def tw7666735148005549395:=q__
def tw7754232626261870280:=q__
def tw7791263658741042971:=q__
def tw7829656135210562116:=q__
def tw7833527629498477284:=q__
def tw7837696147031965627:=q__
def tw7888794944663950488:=q__
def tw7890451538200375380:=q__
def tw7934977280726416718:=q__
def tw7964736053731970650:=q__
def tw7971842053184585450:=q__
def tw8005839438320558233:=q__
def tw8005906340061807376:=q__
def tw8007522205478223217:=q__
def tw8031532597108109065:=q__
def tw8083372670621265456:=q__
def tw8110199692368878926:=q__
def tw8221814564318346197:=q__
def tw8242413268222894118:=q__
def tw8286549878075191776:=q__
def tw8314520525207954637:=q__
def tw8347541132319318154:=q__
def tw8350640281766408829:=q__
def tw8357414729047269120:=q__
def tw8404214518976826356:=q__
def tw8492376314445104922:=q__
def tw8587236606920536883:=q__
def tw8602850633332273762:=q__
def tw8688004960293600589:=q__
def tw8705914159766632606:=q__
def tw8799599155389934249:=q__
def tw8806225755687236722:=q__
def tw8836208479149964718:=q__
def tw8839779163285274779:=q__
def tw8851061989401775912:=q__
def tw8877794868652561760:=q__
def tw8951370451455004658:=q__
def tw8957828647423873301:=q__
def tw8957960318229482878:=q__
def tw8969884838479804684:=q__
def tw9050779708162016796:=q__
def tw9054224990646303482:=q__
def tw9109303569239104008:=q__
def tw9209344985019394348:=q__
def tw9263983432010137431:=q__
def tw9274636855388029304:=q__
def tw9293598930406730146:=q__
def tw9296813615378673608:=q__
def tw9301662585234732242:=q__
def tw9305675710245615713:=q__
def tw9308328219612516856:=q__
def tw9321233031617684181:=q__
def tw9323548394380092969:=q__
def tw9351192054245389561:=q__
def tw9360286622022292938:=q__
def tw9414852402654388148:=q__
def tw949272912894221135:=q__
def tw9499242706413504061:=q__
def tw9519794565653112229:=q__
def tw9545641755989313635:=q__
def tw954875715936702722:=q__
def tw9574557839293228907:=q__
def tw9617846423587450525:=q__
def tw9618213897484502138:=q__
def tw971340173524279842:=q__
def tw9745816619153679235:=q__
def tw9869052279561788943:=q__
def tw9917374228974167626:=q__
def tw9918555854986504163:=q__
def tw9932449605950753492:=q__
def tw9987494134306910904:=q__
end PySem.W.Fast
open PySem PySem.W PyProof.Rows L2 L3 KK
set_option maxRecDepth 100000 in
set_option maxHeartbeats 0 in
theorem PySem.Challenge.cw_weightrooms_k21_rules_told_and_refused_holds : PySem.Challenge.rw_weightrooms_k21_rules_told_and_refused.Holds := by
 w_on;o_law;k_head;(case hw=>w_witness2)
 k_fill
 refine L2.walk_lawT (l:=PySem.Challenge.rw_weightrooms_k21_rules_told_and_refused) (x:="_law_script") (k:=58) rfl rfl ⟨rfl,by decide,by decide,rfl⟩ (λw h Y=>⟨W.km_in_of Y,Ep (by kernel_rfl) (W.km_tabs_of Y)⟩) ?F ?D
 case F=>
  intro w mg h KX G base kb nb;refine Kl qJ (Fe ⟨⟨Ld KX G (by kernel_rfl),?_⟩,GS KX G (by kernel_rfl)⟩) (Gx KX G (by kernel_rfl)) rfl JG;repeat first
   |exact trivial
   |refine⟨by refine' zo KX G ?a ?l ?c ?k;(case a=>k_is);(case l=>k_is);(case c=>k_is);(case k=>k_is),?_⟩
 case D=>
  intro w mg h KX G;refine⟨top 76,?_,(λ_ _ _ _ _ _=>ar1 λ_=>rfl)⟩;refine' zo KX G ?a ?l ?c ?k;case a|l|c|k=>k_is
