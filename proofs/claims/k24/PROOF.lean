import PyProof.Rows.All
import Wide.All
import OpenK.AllK
import Wide.FinOn
import Lean
import PyProof.EqAt
import PyProof.EqKinds
import PyProof.TupleCall
import PyProof.Rows.SumAny
import PyProof.EnumMake
import PyProof.Draws
import PyProof.ZipIter
import KE.KNestM
import PyProof.StrBlockH
import KE.KUnpack
import KE.KxIndex
import PyProof.SetRoads
import PyProof.SetNew
import PyProof.AutoSeq1
import KE.KRevSl
import PyProof.SeqI3
import PyProof.Rows.SortWalk
import PyProof.Rows.Range3
import KE.KSortTup
import KE.KLam
import PyProof.Rows.SetFrom
import PyProof.FactsAll.list_2
import PyProof.Rows.SortStr
import PyProof.Rows.StrRules
import PyProof.StrOps
import KE.KIntText
import PyProof.CallStr
import PyProof.StrWalks
import PyProof.Rows.StrNews2
import PySem.Challenge.RW_weightrooms_k24_whole_rooms_moved_and_gr
local macro_rules|`(tactic|trivial)=>`(tactic|first|exact Or.inl rfl|exact Or.inr rfl)
local macro_rules|`(tactic|decide)=>`(tactic|decide +kernel)
set_option genSizeOf false
set_option genInjectivity false
set_option bootstrap.genMatcherCode false
noncomputable section
set_option Elab.async false
set_option linter.all false
def o_:=@PySem.wpAny_bind
def p_:=@List.length_map
def q_:=@List.mem_cons_of_mem
def r_:=@List.mem_cons_self
def s_:=@PySem.Heap.get?_push_of_some
def t_:=@List.map_cons
def u_:=@Nat.le_refl
def v_:=@Bool.and_eq_true
def w_:=@List.length_range
def x_:=@Bool.false_ne_true
def y_:=@List.size_toArray
def z_:=@PySem.wpAny_pure
def A_:=@PySem.Heap.lt_size
def B_:=@List.getElem?_eq_getElem
def C_:=@List.getElem?_eq_some_iff
def D_:=@List.length_cons
def Em:=@decide_eq_false
def E_:=@beq_eq_false_iff_ne
def F_:=@PySem.Heap.get?_push_size
def G_:=@List.mem_cons
def H_:=@decide_eq_true
def I_:=@Nat.lt_of_lt_of_le
def J_:=@Option.some.inj
def K_:=@List.length_append
def L_:=@List.getD_eq_getElem?_getD
def M_:=@List.mem_range
def Nn:=@Nat.ne_of_lt
def Np:=@Option.map_eq_some_iff
def Nq:=@List.getElem?_map
def Nr:=@List.length_nil
def Nt:=@List.map_nil
def Nu:=@List.map_map
def Nv:=@List.mem_map
def Nw:=@Nat.le_trans
def Ny:=@List.mem_append_right
def Nz:=@congrArg
def NA:=@List.sum_cons
def NB:=@beq_iff_eq
def NC:=@List.all_eq_true
def ND:=@Option.bind_eq_some_iff
def NF:=@PySem.wpAny_mono
def NG:=@Array.length_toList
def NH:=@PyProof.Rows.callWith_type1
def NI:=@Nat.pow_le_pow_right
def NJ:=@List.append_nil
def NK:=@List.length_set
def NL:=@List.getElem?_append_left
def NM:=@Nat.zero_le
def NN:=@PySem.wpAny_Call_Name_kw
def NO:=@Nat.mul_le_mul
def NP:=@List.nil_append
def NQ:=@Rat.intCast_mul
def NR:=@List.map_congr_left
def NS:=@List.contains_iff_mem
def NT:=@Int.toNat_natCast
def NU:=@List.map_append
def NV:=@List.length_take
def NW:=@Int.mul_assoc
def NX:=@Int.natAbs_mul
def NY:=@List.find?_cons
def NZ:=@PySem.wpAny_field
def N2:=@List.mem_singleton
def N3:=@Nat.lt_irrefl
def N4:=@List.take_of_length_le
def N5:=@PySem.wpAny_newObj_type
def N6:=@decide_eq_true_iff
def N7:=@List.any_cons
def N8:=@List.map_take
def N9:=@PySem.wpAny_holding
def N_:=@List.getElem?_replicate
def Oa:=@Nat.mul_le_mul_left
def Od:=@PySem.mem_of_lookup
def Oe:=@List.map_drop
def Of:=@List.lookup_cons
def Og:=@List.take_append_drop
def Oh:=@Nat.lt_of_le_of_lt
def Oi:=@List.pairwise_iff_getElem
def Oj:=@Nat.mul_pos
def Ol:=@Int.mul_le_mul_of_nonneg_right
def Om:=@Int.mul_ne_zero
def Oo:=@Int.natCast_mul
def Oq:=@List.mem_of_mem_take
def Ot:=@Nat.mul_le_mul_right
def Ou:=@Option.isSome_iff_exists
def Ov:=@PySem.wpAny_callSpecial?_slot
def Ow:=@PySem.Heap.SameBut.update
def Ox:=@List.filterMap_cons
def Oy:=@List.length_zipWith
def Oz:=@List.getElem_mem
def OA:=@PySem.wpAny_seqItems
def OB:=@List.find?_cons_of_neg
def OC:=@Nat.pow_add
def OD:=@PySem.Calls.spliced_cons
def OE:=@PySem.wpAny_setField_rec
def OF:=@List.getElem?_zipWith
def OG:=@List.length_replicate
def OH:=@List.mem_append
def OI:=@Nat.not_lt_zero
def OJ:=@PySem.wpAny_passesOwn
def OK:=@PySem.F.slot_tuple_iterator_next
def OL:=@Int.eq_of_mul_eq_mul_right
def OM:=@List.getElem?_append_right
def ON:=@decide_eq_true_eq
def OO:=@PySem.wpAny_truthy_bool
def OP:=@List.mem_of_mem_drop
def OQ:=@List.length_drop
def OR:=@beq_self_eq_true
def OS:=@decide_eq_false_iff_not
def OT:=@PySem.wpAny_getItem_str_slice
def OU:=@PySem.wpAny_standAt
def OV:=@Bool.false_eq_true
def OW:=@Bool.or_eq_true
def OX:=@List.nodup_cons
def OY:=@List.find?_cons_of_pos
def OZ:=@List.length_eq_one_iff
def O0:=@Rat.div_def
def O1:=@Bool.not_eq_true'
def O2:=@PySem.Calls.spliced_nil
def O3:=@Int.mul_left_comm
def O4:=@of_decide_eq_true
def O5:=@Nat.le_of_lt
def O6:=@Nat.ne_of_gt
def O7:=@if_true
def O8:=@List.mem_of_getElem?
def O9:=@decide_eq_decide
def O_:=@PySem.wpAny_call_entry
def Pa:=@List.map_eq_nil_iff
def Pb:=@List.mem_map_of_mem
def Pc:=@Array.getElem?_eq_getElem
def Pd:=@List.drop_eq_getElem_cons
def Pe:=@List.getElem?_eq_none_iff
def Pf:=@List.of_mem_zip
def Pg:=@List.sum_append
def Ph:=@Int.mul_comm
def Pj:=@Int.mul_right_comm
def Pk:=@List.idxOf_lt_length_iff
def Pl:=@PySem.F.args_tuple_add_2
def Pm:=@PySem.Heap.size_push
def Pn:=@PySem.F.entry_tuple_add
def Po:=@PySem.F.plainAttrs_list
def Pp:=@List.append_assoc
def Pq:=@PySem.Heap.get?_update_other
def Pt:=@Int.add_mul
def Pu:=@PySem.F.slot_tuple_add
def Pw:=@List.take_nil
def Px:=@Nat.mul_assoc
def Py:=@PySem.wpAny_attempt
def Pz:=@List.cons_append
def PC:=@List.nodup_range
def PD:=@List.not_mem_nil
def PF:=@Nat.le_add_right
def PH:=@if_false
def PJ:=@List.length_singleton
def PK:=@Bool.eq_iff_iff
def PL:=@PySem.F.slot_zip_next
def PM:=@PySem.Heap.get?_none_of_le
def PN:=@List.foldl_cons
def PQ:=@List.getElem?_append
def PR:=@List.getElem?_set_ne
def PU:=@List.mem_append_left
def PV:=@Nat.lt_trans
def PX:=@Rat.num_eq_zero
def PY:=@PySem.codeAny_builtin
def PZ:=@PySem.codeAny_mono
def P0:=@PySem.post_val_or_str
def P4:=@PySem.wpAny_execs_nil
def P5:=@PySem.wpAny_loadName_local
def P6:=@PySem.wpAny_updateSeq_pair
def P7:=@List.mergeSort_perm
def P8:=@List.all_cons
def P9:=@List.drop_nil
def P_:=@PySem.Paired.length
def Qa:=@PyProof.Rows.listUpdate_at
def Qb:=@PySem.rangeSize_one
def Qc:=@PySem.wpAny_onRaise
set_option maxRecDepth 100000
namespace L2
open PySem PySem.Spec PyProof.Rows
abbrev _root_.Qd:=Str->Option Value
abbrev _root_.Qe:=List (Addr×Obj)
abbrev _root_.Qf:=Value->Shared->Prop
abbrev _root_.Qg:=List (Option Nat)
abbrev Key:=Sum Int Str
noncomputable def kO:Key->Value->Bool
 |.inl k,v=>Value.isInt k v
 |.inr x,v=>Value.isStrOf x v
noncomputable def keyH (w:World):Key->Int
 |.inl k=>hashInt k
 |.inr x=>hashStr w x
theorem bR:∀{k:Key}{v:Value},kO k v=true->(∃i t,k=Sum.inl i/\v=Value.int i t)\/(∃x t,k=Sum.inr x/\v=Value.str x t)
 |
  .inl i,v,h=>by
  obtain⟨t,e⟩:=Value.isInt_shape (k:=i) (v:=v) h;exact .inl ⟨i,t,rfl,e⟩
 |
  .inr x,v,h=>by
  obtain⟨t,e⟩:=Value.isStrOf_shape (x:=x) (v:=v) h;exact .inr ⟨x,t,rfl,e⟩
def zW(i:Int)(t:Tok):kO (.inl i) (.int i t)=true:=by simp [kO,Value.isInt]
def zX(x:Str)(t:Tok):kO (.inr x) (.str x t)=true:=by simp [kO,Value.isStrOf]
def G7(a b:Int):decide ((Sum.inl a:Key)=Sum.inl b)=(a==b):=by
 by_cases e:a=b
 .subst e;simp
 .have h:¬ (Sum.inl a:Key)=Sum.inl b:=λq=>e (Sum.inl.inj q);rw[Em h];exact (E_.mpr e).symm
def Ie(a b:Str):decide ((Sum.inr a:Key)=Sum.inr b)=decide (a=b):=by
 by_cases e:a=b
 .subst e;simp
 .have h:¬ (Sum.inr a:Key)=Sum.inr b:=λq=>e (Sum.inr.inj q);rw[Em h,Em e]
def GP(a:Int)(b:Str):decide ((Sum.inl a:Key)=Sum.inr b)=false:=Em (λq=>nomatch q)
def Hk(a:Str)(b:Int):decide ((Sum.inr a:Key)=Sum.inl b)=false:=Em (λq=>nomatch q)
noncomputable def bY (prog:Program) (w:World):PySem.KeyKind prog w Key where
 is:=kO
 hash:=keyH w
 inj
  := λv a b ha hb=>by
  rcases bR ha with ⟨i,t,rfl,rfl⟩ |⟨x,t,rfl,rfl⟩
  .rcases bR hb with ⟨j,u,rfl,e⟩ |⟨y,u,rfl,e⟩
   .injection e with e1 _;rw[e1]
   .exact nomatch e
  .rcases bR hb with ⟨j,u,rfl,e⟩ |⟨y,u,rfl,e⟩
   .exact nomatch e
   .injection e with e1 _;rw[e1]
 byValue:=λk v h=>by rcases bR h with ⟨i,t,rfl,rfl⟩ |⟨x,t,rfl,rfl⟩ <;> rfl
 pyHash:=λhv h=>by
  rcases bR hv with ⟨i,t,rfl,rfl⟩ |⟨x,t,rfl,rfl⟩
  .exact wpAny_pyHash_int h
  .exact wpAny_pyHash_str h
 eqBool:=λhu hv h=>by
  rcases bR hu with ⟨i,t,rfl,rfl⟩ |⟨x,t,rfl,rfl⟩
  .rcases bR hv with ⟨j,u,rfl,rfl⟩ |⟨y,u,rfl,rfl⟩
   .rw[G7] at h;exact wpAny_eqBool_int h
   .rw[GP] at h;exact SeqAt.EqAt.int_str i t y u _ _ _ _ h
  .rcases bR hv with ⟨j,u,rfl,rfl⟩ |⟨y,u,rfl,rfl⟩
   .rw[Hk] at h;exact SeqAt.EqAt.str_int x t j u _ _ _ _ h
   .rw[Ie] at h;exact wpAny_eqBool_str h
 «strs»:=λk x t v h=>by
  rcases bR h with ⟨i,u,rfl,e⟩ |⟨y,u,rfl,e⟩
  .exact nomatch e
  .injection e with e1 _;subst e1;cases v <;> rfl
def uU(prog:Program)(w:World)(i:Int)(t:Tok):(bY prog w).is (.inl i) (.int i t)=true:=zW i t
def uS(prog:Program)(w:World)(x:Str)(t:Tok):(bY prog w).is (.inr x) (.str x t)=true:=zX x t
inductive V where
 |non |bl (b:Bool) |int (i:Int) |str (x:Str) |byt (b:Array UInt8) |flt (b:UInt64) |ref (a:Addr) |ty (n:String)
 deriving DecidableEq
def RelV:V->Value->Prop
 |.non,u=>u=Value.none
 |.bl b,u=>u=Value.bool b
 |.int i,u=>∃t,u=Value.int i t
 |.str x,u=>∃t,u=Value.str x t
 |.byt b,u=>∃t,u=Value.bytes b t
 |.flt b,u=>∃t,u=Value.float b t
 |.ref a,u=>u=Value.ref a
 |.ty n,u=>u=Value.type n
abbrev Vals:List V->List Value->Prop:=Paired RelV
def Vals.length(r:Vals xs us):xs.length=us.length:=P_ r
def Vals.get{xs:List V}{us:List Value}{i:Nat}{x:V}(r:Vals xs us)(e:xs[i]?=some x):∃u,us[i]?=some u/\RelV x u:=by
 induction r generalizing i with
 |nil=>rw[List.getElem?_nil] at e;cases e
 |
  cons r t ih=>
  cases i with
  |zero=>cases e;exact⟨_,rfl,r⟩
  |succ i=>exact ih (i:=i) e
def Vals.set(r:RelV x u)(i:Nat)(q:Vals xs us):Vals (xs.set i x) (us.set i u):=by
 induction q generalizing i with
 |nil=>exact .nil
 |
  cons q t ih=>
  cases i with
  |zero=>exact .cons r t
  |succ i=>exact .cons q (ih i)
def Vals.append(r:Vals xs us)(s:Vals ys ws):Vals (xs++ys) (us++ws):=by
 induction r with
 |nil=>exact s
 |cons r t ih=>exact .cons r ih
def Vals.take(n:Nat)(r:Vals xs us):Vals (xs.take n) (us.take n):=by
 induction r generalizing n with
 |nil=>rw[Pw,Pw];exact .nil
 |
  cons r t ih=>
  cases n with
  |zero=>exact .nil
  |succ n=>exact .cons r (ih n)
def Vals.drop(n:Nat)(r:Vals xs us):Vals (xs.drop n) (us.drop n):=by
 induction r generalizing n with
 |nil=>rw[P9,P9];exact .nil
 |
  cons r t ih=>
  cases n with
  |zero=>exact .cons r t
  |succ n=>exact ih n
def RelO:Option V->Option Value->Prop
 |some v,some u=>RelV v u
 |none,none=>True
 |_,_=>False
def KV{κ:Type}:List (κ×V)->List (κ×Value)->Prop:=Paired λ(p:κ×V) (q:κ×Value)=>p.1=q.1/\RelV p.2 q.2
noncomputable def kV:Key->V
 |.inl i=>.int i
 |.inr x=>.str x
inductive HO where
 |lst (xs:List V)
 |tup (xs:List V)
 |dK (kvs:List (Key×V)) |dT (kvs:List (List Key×V))
 |set (S:Int->Bool) (n:Nat)
 |ins (C dx:Addr) (fs:List (Str×V))
 |own (x:Addr)
 |xd (fs:List (Str×V))
 |met (f x:Addr)
 |rng (lo hi:Int)
 |frz (o:Obj) (u:HO)
 |tbl (ps:Array Value)
 |ext (φ:Heap->Prop)
abbrev Hp:=Addr->Option HO
noncomputable def upd (H:Hp) (a:Addr) (o:HO):Hp:=λb=>if b=a then some o else H b
def bc:upd H a o a=some o:=by unfold upd;rw[if_pos rfl]
def aB(h:b≠a):upd H a o b=H b:=by unfold upd;rw[if_neg h]
def K0{H:Hp}{a b:Addr}{o u:HO}(h:H a=some o)(h':H b=some u)(d:o≠u):a≠b:=by intro e;subst e;rw[h] at h';exact d (J_ h')
def bS{H:Hp}{a b:Addr}{o:HO}(h:H a=some o)(h':H b=none):a≠b:=by intro e;subst e;rw[h] at h';cases h'
section
variable(P:Program)(w:World)
def ObjOk(H:Hp)(h:Heap)(a:Addr):HO->Prop
 |.lst xs=>xs.length<=sizeLine/\∃(its:List Value) (n:Nat),Vals xs its/\h.get? a=some { cls:=.type "list",data:=.seq its.toArray n }
 |.tup xs=>xs.length<=sizeLine/\∃its:List Value,Vals xs its/\IsTup h a its.toArray
 |.dK kvs=>kvs.length<=sizeLine/\(a==sysModules)=false/\∃vs,KV kvs vs/\h.DictOf (bY P w) a vs
 |.dT kvs=>kvs.length<=sizeLine/\(a==sysModules)=false/\∃xs:List (List Key×Addr×Value),
  Paired (λ(p:List Key×V) (q:List Key×Addr×Value)=>p.1=q.1/\H q.2.1=some (.tup (p.1.map kV))/\RelV p.2 q.2.2) kvs xs/\
  ∃o es ep,h.get? a=some o/\o.ExactDict/\o.data=.dict es ep/\es.toList=xs.map (entryOfKey (tupleKind (bY P w)))/\(xs.map (·.1)).Nodup
 |.set S n=>h.SetOf (intKind P w) a S n
 |.ins C dx fs=>H dx=some (.own a)/\fs.length<=1000/\dx≠a/\h.get? a=some (W.instObj C dx)/\
  ∃mA,h.Ns1 dx mA/\(∀f,RelO (fs.lookup f) (mA f))/\PySem.Within mA (fs.map (·.1))
 |.own _=>∃o,h.get? a=some o
 |.xd fs=>∃mA,h.Ns1 a mA/\∀f,RelO (fs.lookup f) (mA f)
 |.rng lo hi=>∃t u v,h.get? a=some { cls:=.type "range",data:=.fields #[.int lo t,.int hi u,.int 1 v] }
 |.frz o u=>h.get? a=some o/\ObjOk H h a u
 |.tbl ps=>h.get? a=some { cls:=.none,data:=.fields ps }
 |.met f x=>h.get? a=some (W.methodObj (.ref f) (.ref x))
 |.ext φ=>φ h/\(∃o,h.get? a=some o)/\∀h1 h2:Heap,φ h1->(∀o,h1.get? a=some o->h2.get? a=some o)->φ h2
def HOk(H:Hp)(h:Heap):Prop:=∀a o,H a=some o->ObjOk P w H h a o
end
section
variable{P:Program}{w:World}{H H':Hp}{h h':Heap}{a:Addr}{o:HO}
def ObjOk.lt(x:ObjOk P w H h a o):a<h.objs.size:=by
 cases o with
 |lst xs=>obtain⟨_,_,_,_,e⟩:=x;exact A_ e
 |tup xs=>obtain⟨_,_,_,p⟩:=x;exact p.lt
 |dK kvs=>obtain⟨_,_,_,_,o,_,_,e,_⟩:=x;exact A_ e
 |dT kvs=>obtain⟨_,_,_,_,o,_,_,e,_⟩:=x;exact A_ e
 |set S n=>obtain⟨o,_,_,_,e,_⟩:=x;exact A_ e
 |ins C dx fs=>obtain⟨_,_,_,e,_⟩:=x;exact A_ e
 |own y=>obtain⟨_,e⟩:=x;exact A_ e
 |xd fs=>obtain⟨_,⟨_,_,_,e,_⟩,_⟩:=x;exact A_ e
 |rng lo hi=>obtain⟨_,_,_,e⟩:=x;exact A_ e
 |frz ob u=>obtain⟨e,_⟩:=x;exact A_ e
 |tbl ps=>exact A_ (show h.get? a=some _ from x)
 |met f y=>exact A_ (show h.get? a=some _ from x)
 |ext φ=>obtain⟨_,⟨_,e⟩,_⟩:=x;exact A_ e
def Paired.mapP(r:Paired F l₁ l₂)(f:∀a b,F a b->G a b):Paired G l₁ l₂:=by
 induction r with
 |nil=>exact .nil
 |cons r t ih=>exact .cons (f _ _ r) ih
def ObjOk.stay(x:ObjOk P w H h a o)(k:∀b u,(b=a\/H b=some (.own a))->h.get? b=some u->h'.get? b=some u)
 (ho:∀b,H b=some (.own a)->H' b=some (.own a)) (ht:∀b xs,H b=some (.tup xs)->H' b=some (.tup xs)):ObjOk P w H' h' a o:=by
 induction o with
 |lst xs=>obtain⟨z,its,n,r,e⟩:=x;exact⟨z,its,n,r,k _ _ (.inl rfl) e⟩
 |tup xs=>obtain⟨z,its,r,ob,e,c⟩:=x;exact⟨z,its,r,ob,k _ _ (.inl rfl) e,c⟩
 |dK kvs=>obtain⟨z,y,vs,r,ob,es,ep,e,c⟩:=x;exact⟨z,y,vs,r,ob,es,ep,k _ _ (.inl rfl) e,c⟩
 |dT kvs=>obtain⟨z,y,xs,r,ob,es,ep,e,c⟩:=x;exact⟨z,y,xs,Paired.mapP r λp q z=>⟨z.1,ht _ _ z.2.1,z.2.2⟩,ob,es,ep,k _ _ (.inl rfl) e,c⟩
 |set S n=>obtain⟨ob,es,ep,t,e,c⟩:=x;exact⟨ob,es,ep,t,k _ _ (.inl rfl) e,c⟩
 |ins C dx fs=>obtain⟨d,z,ne,e,mA,⟨od,es,ep,e2,c⟩,r⟩:=x;exact⟨ho _ d,z,ne,k _ _ (.inl rfl) e,mA,⟨od,es,ep,k _ _ (.inr d) e2,c⟩,r⟩
 |own y=>obtain⟨ob,e⟩:=x;exact⟨ob,k _ _ (.inl rfl) e⟩
 |xd fs=>obtain⟨mA,⟨od,es,ep,e,c⟩,r⟩:=x;exact⟨mA,⟨od,es,ep,k _ _ (.inl rfl) e,c⟩,r⟩
 |rng lo hi=>obtain⟨t,u,v,e⟩:=x;exact⟨t,u,v,k _ _ (.inl rfl) e⟩
 |frz ob u ih=>obtain⟨e,q⟩:=x;exact⟨k _ _ (.inl rfl) e,ih q⟩
 |tbl ps=>have e:h.get? a=some { cls:=.none,data:=.fields ps }:=x;show h'.get? a=some { cls:=.none,data:=.fields ps };exact k a _ (.inl rfl) e
 |met f y=>have e:h.get? a=some (W.methodObj (.ref f) (.ref y)):=x;show h'.get? a=some (W.methodObj (.ref f) (.ref y));exact k a _ (.inl rfl) e
 |ext φ=>obtain⟨p,⟨o,e⟩,st⟩:=x;exact⟨st _ _ p λo q=>k _ _ (.inl rfl) q,⟨o,k _ _ (.inl rfl) e⟩,st⟩
def HOk.lt(x:HOk P w H h)(e:H a=some o):a<h.objs.size:=(x a o e).lt
def HOk.fresh(x:HOk P w H h)(e:h.objs.size<=a):H a=none:=by
 cases q:H a with
 |none=>rfl
 |some u=>exact absurd (I_ (x.lt q) e) (N3 _)
def HOk.kept(x:HOk P w H h)(k:∀b u,h.get? b=some u->h'.get? b=some u):HOk P w H h':=λa o e=>
 (x a o e).stay (λb u _ q=>k b u q) (λ_ q=>q) λ_ _ q=>q
def HOk.laid(x:HOk P w H h)(k:∀b u,h.get? b=some u->h'.get? b=some u)(hp:h.objs.size<=a)(new:ObjOk P w (upd H a o) h' a o):HOk P w (upd H a o) h':=λb u e=>by
 have hn:=x.fresh hp;by_cases hb:b=a
 .subst hb;rw[bc] at e;cases e;exact new
 .rw[aB hb] at e;exact (x b u e).stay (λc v _ q=>k c v q) (λc q=>by rw[aB (bS q hn)];exact q) λc xs q=>by rw[aB (bS q hn)];exact q
end
def Rd(H:Hp)(a:Addr)(u:HO):Prop:=H a=some u\/∃o,H a=some (.frz o u)
def Rd.ok(r:Rd H a u)(x:HOk P w H h):ObjOk P w H h a u:=by
 rcases r with r |⟨o,r⟩
 .exact x a u r
 .obtain⟨_,q⟩:=x a _ r;exact q
def Mut:Option HO->Prop
 |some (.lst _)=>True
 |some (.dK _)=>True
 |some (.dT _)=>True
 |some (.set _ _)=>True
 |some (.ins _ _ _)=>True
 |some (.ext _)=>True
 |_=>False
section
variable{P:Program}{w:World}{H:Hp}{h h':Heap}{x e:Addr}{o':HO}
def HOk.write(ok:HOk P w H h)(mu:Mut (H x))(he:e=x\/H e=some (.own x))(k:∀b u,b≠e->h.get? b=some u->h'.get? b=some u)(heo:∃u,h'.get? e=some u)
 (new:ObjOk P w (upd H x o') h' x o'):HOk P w (upd H x o') h':=λb u q=>by
 have nown:∀c y,H c=some (.own y)->c≠x:=λc y r z=>by subst z;rw[r] at mu;exact mu
 have ntup:∀c xs,H c=some (.tup xs)->c≠x:=λc xs r z=>by subst z;rw[r] at mu;exact mu
 by_cases hb:b=x
 .subst hb;rw[bc] at q;cases q;exact new
 .rw[aB hb] at q;by_cases hbe:b=e
  .have q':H b=some (.own x):=by
    rcases he with z |z
    .exact absurd (hbe.trans z) hb
    .rw[hbe];exact z
   rw[q] at q';cases q';obtain⟨v,hv⟩:=heo;exact⟨v,by rw[hbe];exact hv⟩
  .refine (ok b u q).stay (λc v hc r=>k c v ?_ r) (λc r=>by rw[aB (nown c b r)];exact r) λc xs r=>by rw[aB (ntup c xs r)];exact r
   rcases hc with rfl |hc
   .exact hbe
   .rintro rfl;rcases he with z |z
    .exact nown c b hc z
    .rw[hc] at z;cases z;exact hb rfl
end
structure Un(fs ex:List Addr)(H H':Hp)(h h':Heap):Prop where
 keep:∀b o,h.get? b=some o->H b=none->b∉fs->b∉ex->h'.get? b=some o
 slot:∀b o,h.get? b=some o->H b=none->b∈fs->b∉ex->∃sl,h'.get? b=some { o with slots:=sl }
 free:∀b o,h.get? b=some o->H b=none->b∉ex->H' b=none
 there:∀b o,h.get? b=some o->b∉ex->∃o',h'.get? b=some o'
 tups:∀b xs,H b=some (.tup xs)->H' b=some (.tup xs)
 frzs:∀b o u,H b=some (.frz o u)->H' b=some (.frz o u)
 tbls:∀b ps,H b=some (.tbl ps)->∃more,H' b=some (.tbl (ps++more))
section
variable{fs ex:List Addr}{H H1:Hp}{h h1 h':Heap}{a x e:Addr}{o:HO}
def Un.any(u:Un fs ex H H1 h h1)(q:h.get? b=some ob)(n:H b=none)(hx:b∉ex):∃sl,h1.get? b=some { ob with slots:=sl }:=by
 by_cases hb:b∈fs
 .exact u.slot b ob q n hb hx
 .exact⟨ob.slots,u.keep b ob q n hb hx⟩
def Un.kept(k:∀b u,h.get? b=some u->h'.get? b=some u):Un fs ex H H h h':=
 ⟨λb ob q _ _ _=>k b ob q,λb ob q _ _ _=>⟨ob.slots,k b ob q⟩,λ_ _ _ n _=>n,λb ob q _=>⟨ob,k b ob q⟩,λ_ _ q=>q,λ_ _ _ q=>q,λ_ ps q=>⟨#[],by rw[q];simp⟩⟩
def Un.refl:Un fs ex H H h h:=Un.kept λ_ _ q=>q
def Un.laid(k:∀b u,h.get? b=some u->h'.get? b=some u)(hp:h.objs.size<=a)(hn:H a=none):Un fs ex H (upd H a o) h h' where
 keep:=λb u q _ _ _=>k b u q
 slot:=λb u q _ _ _=>⟨u.slots,k b u q⟩
 free:=λb u q n _=>by rw[aB (Nn (I_ (A_ q) hp))];exact n
 there:=λb u q _=>⟨u,k b u q⟩
 tups:=λb xs q=>by rw[aB (bS q hn)];exact q
 frzs:=λb u xs q=>by rw[aB (bS q hn)];exact q
 tbls:=λb ps q=>⟨#[],by rw[aB (bS q hn),q];simp⟩
def Un.write(mu:Mut (H x))(he:e=x\/H e=some (.own x))(k:∀b u,b≠e->h.get? b=some u->h'.get? b=some u)(heo:∃u,h'.get? e=some u):Un fs ex H (upd H x o) h h':=by
 have hx:∀b,H b=none->b≠x:=λb n z=>by subst z;rw[n] at mu;exact mu
 have hb:∀b,H b=none->b≠e:=λb n z=>by
  subst z;rcases he with r |r
  .exact hx b n r
  .rw[n] at r;cases r
 have hm:∀b u,H b=some u->¬ Mut (some u)->b≠x:=λb u q nm z=>by subst z;rw[q] at mu;exact nm mu
 refine⟨λb u q n _ _=>k b u (hb b n) q,λb u q n _ _=>⟨u.slots,k b u (hb b n) q⟩,λb u q n _=>by rw[aB (hx b n)];exact n,λb u q _=>?_,
  λb xs q=>by rw[aB (hm b _ q λz=>z)];exact q,λb u xs q=>by rw[aB (hm b _ q λz=>z)];exact q,λb ps q=>⟨#[],by rw[aB (hm b _ q λz=>z),q];simp⟩⟩
 by_cases hbe:b=e
 .subst hbe;exact heo
 .exact⟨u,k b u hbe q⟩
end
noncomputable def trk (h:Heap) (H:Hp):List Addr:=(List.range h.objs.size).filter λa=>(H a).isSome
noncomputable def fP (h:Heap) (H:Hp):Heap:=W.hideAll h (trk h H)
def pB(h:Heap)(H:Hp):(fP h H).objs.size=h.objs.size:=W.hideAll_size _ _
def tK(e:h.get? b=some o)(n:H b=none):(fP h H).get? b=some o:=
 W.hideAll_get _ e λhm=>by have q:(H b).isSome=true:=(List.mem_filter.mp hm).2;rw[n] at q;simp at q
def vA(e:(fP h H).get? b=some o):h.get? b=some o/\H b=none:=by
 have e':h.get? b=some o:=W.of_hideAll (trk h H) e;refine⟨e',?_⟩;cases q:H b with
 |none=>rfl
 |some x=>have hm:b∈trk h H:=List.mem_filter.mpr ⟨M_.mpr (A_ e'),by simp [q]⟩;have z:(fP h H).get? b=none:=W.hideAll_none (trk h H) hm;rw[z] at e;cases e
noncomputable def FA (g h:Heap) (L:Addr):List (Addr×Obj):=(List.range h.objs.size).filterMap λa=>if a=L\/(g.get? a).isSome=true then none else (h.get? a).map λo=>(a,o)
noncomputable def gC (g h:Heap) (L d:Addr):List (Addr×Obj):=(FA g h L).filter λp=>decide (p.1≠d)
structure Mod(K:W.Frag)(mg:Qd)(base:Heap):Prop where
 kin:K.In base
 glob:base.Ns mainGlobals mg
 blt:∃mb,base.Ns builtinsNs mb/\∀x:Str,x ≠ "__name__"->mb x=bootBuiltins x
 nolimit:base.NoLimit
structure Cx where
 prog:Program
 w:World
 K:W.Frag
 mg:Str->Option Value
 base:Heap
 A:Around
 N:List Str
 s₀:Shared
 H₀:Hp
 env:Env
 outer:List Env
 stack:List Env
 ex:List Addr
 fn:Str->Bool
 calm:Bool
 pn:List (Addr×Obj)
 xe:Value->Shared->Prop
noncomputable def frs (l:List Env):List Addr:=l.filterMap (·.frame)
abbrev Cx.fs(X:Cx):List Addr:=frs X.outer
def Vis(sc:Scope)(x:Str):Prop:=sc.names.lookup x=some .local\/sc.names.lookup x=some .cell\/sc.names.lookup x=some .free
def Loc(sc:Scope)(x:Str):Prop:=sc.names.lookup x=some .local\/sc.names.lookup x=some .cell
def Look(env:Env)(h:Heap)(m:Qd)(x:Str)(u:Value):Prop:=
 (env.kindOf x=some .local/\m x=some u)\/((env.kindOf x=some .cell\/env.kindOf x=some .free)/\∃c,env.cells.lookup x=some c/\h.IsCell c (some u))
structure Cx.Ok(X:Cx):Prop where
 mod:Mod X.K X.mg X.base
 kind:X.env.scope.kind=.function
 glob:X.env.globals=mainGlobals
 blt:X.env.builtins=builtinsNs
 above:X.s₀.heap.objs.size<=X.env.locals
 inj:∀x y c,X.env.cells.lookup x=some c->X.env.cells.lookup y=some c->x=y
 has:∀x,(X.env.kindOf x=some .cell\/X.env.kindOf x=some .free)->∃c,X.env.cells.lookup x=some c
 cab:∀x c,X.fn x=true->X.env.cells.lookup x=some c->X.s₀.heap.objs.size<=c
 hd:X.calm=true->X.A.handled=none
 frames:X.A.frames=some X.stack
 stk:X.stack=X.outer\/(X.stack=X.env::X.outer/\X.env.frame=some X.env.locals)
 exf:∀b∈X.ex,b≠X.env.locals/\∀x c,X.env.cells.lookup x=some c->c≠b
 bs:∀b o,X.base.get? b=some o->X.s₀.heap.get? b=some o/\X.H₀ b=none
 bsz:X.base.objs.size<=X.s₀.heap.objs.size
 noex:∀b o,X.base.get? b=some o->b∉X.ex
 exfs:∀b∈X.ex,b∉X.fs
 funs:X.s₀.heap.FunFrames X.base X.outer
 frf:∀b∈X.fs,X.H₀ b=none
structure Inv(X:Cx)(pins:Qe)(σ:List (Option V))(H:Hp)(s:Shared):Prop where
 ok:X.Ok
 os:s.os=X.s₀.os
 bare:AllBare s.gens
 base:Un X.fs X.ex X.H₀ H X.s₀.heap s.heap
 loc:∃m,s.heap.Ns X.env.locals m/\∀(i:Nat) (x:Str) (v:V),X.N[i]?=some x->σ[i]?=some (some v)->Vis X.env.scope x->∃u,RelV v u/\Look X.env s.heap m x u
 cell:∀x c,X.env.cells.lookup x=some c->∃v,s.heap.IsCell c v
 free:H X.env.locals=none
 freeC:∀x c,X.env.cells.lookup x=some c->H c=none
 pin:∀p∈X.pn++pins,s.heap.get? p.1=some p.2/\H p.1=none/\p.1≠X.env.locals/\p.1∉X.fs/\∀v,p.2.data ≠ .cell v
 hok:HOk X.prog X.w H s.heap
 len:σ.length=X.N.length
section
variable{X:Cx}{pins:Qe}{σ:List (Option V)}{H H':Hp}{s:Shared}{h':Heap}
def Cx.Ok.nofr(ok:X.Ok)(e:X.base.get? b=some o):b∉X.fs:=λhb=>by
 have:=(ok.funs.mem hb).1
 rw[e] at this;cases this
def Inv.bs(I:Inv X pins σ H s):∀b o,X.base.get? b=some o->s.heap.get? b=some o/\H b=none:=λb o e=>
 ⟨I.base.keep b o (I.ok.bs b o e).1 (I.ok.bs b o e).2 (I.ok.nofr e) (I.ok.noex b o e),I.base.free b o (I.ok.bs b o e).1 (I.ok.bs b o e).2 (I.ok.noex b o e)⟩
def Inv.bk(I:Inv X pins σ H s):∀b o,X.base.get? b=some o->s.heap.get? b=some o:=λb o e=>(I.bs b o e).1
def Inv.mod(I:Inv X pins σ H s):Mod X.K X.mg X.base:=I.ok.mod
def Inv.kIn(I:Inv X pins σ H s):X.K.In s.heap:=I.ok.mod.kin.keeps I.bk
def Inv.nolimit(I:Inv X pins σ H s):s.heap.NoLimit:=I.ok.mod.nolimit.keeps I.bk
def Inv.lt(I:Inv X pins σ H s):X.env.locals<s.heap.objs.size:=let ⟨_,hn,_⟩:=I.loc;hn.lt
def Inv.sz(I:Inv X pins σ H s):X.s₀.heap.objs.size<=s.heap.objs.size:=Nw I.ok.above (O5 I.lt)
def Inv.nofs(I:Inv X pins σ H s)(h:s.heap.objs.size<=a):a∉X.fs:=λhb=>by obtain⟨_,o,ho,_⟩:=I.ok.funs.mem hb;exact absurd (I_ (A_ ho) (Nw I.sz h)) (N3 _)
def Inv.cne(I:Inv X pins σ H s):∀x c,X.env.cells.lookup x=some c->c≠X.env.locals:=λx c e z=>by obtain⟨v,o,ho,hd⟩:=I.cell x c e;obtain⟨m,⟨o',es,ep,ho',hd',_⟩,_⟩:=I.loc;rw[z,ho'] at ho;cases ho;rw[hd'] at hd;cases hd
def Inv.funs(I:Inv X pins σ H s):s.heap.FunFrames X.base X.outer:=by
 have all:∀(l:List Env),(∀b∈frs l,b∈X.fs)->X.s₀.heap.FunFrames X.base l->s.heap.FunFrames X.base l:=by
  intro l;induction l with
  |nil=>intro _ _;trivial
  |cons env r ih=>intro hs hl;obtain⟨hk,⟨L,o,hf,hn,ho,hd⟩,hr⟩:=hl;have hL:L∈X.fs:=hs L (by unfold frs;rw[Ox,hf];exact r_);obtain⟨sl,e⟩:=I.base.slot L o ho (I.ok.frf L hL) hL λz=>I.ok.exfs L z hL;exact⟨hk,⟨L,_,hf,hn,e,hd⟩,ih (λb hb=>hs b (by unfold frs;rw[Ox,hf];exact q_ _ hb)) hr⟩
 exact all X.outer (λ_ hb=>hb) I.ok.funs
def Inv.stack(I:Inv X pins σ H s):s.heap.FunFrames X.base X.stack:=by
 rcases I.ok.stk with e |⟨e,hf⟩
 .rw[e];exact I.funs
 .rw[e];obtain⟨m,hn,_⟩:=I.loc;refine .cons (by rw[I.ok.kind];decide) hf hn ?_ I.funs;exact PM (Nw I.ok.bsz I.ok.above)
def Inv.stkSub(I:Inv X pins σ H s):∀b∈frs X.stack,b∈X.env.locals::X.fs:=λb hb=>by
 rcases I.ok.stk with e |⟨e,hf⟩
 .rw[e] at hb;exact q_ _ hb
 .rw[e] at hb;unfold frs at hb;rw[Ox,hf] at hb;exact hb
def Inv.stkFree(I:Inv X pins σ H s):∀b∈frs X.stack,H b=none:=λb hb=>by
 rcases G_.mp (I.stkSub b hb) with e |hb
 .rw[e];exact I.free
 .obtain⟨_,o,ho,_⟩:=I.ok.funs.mem hb;exact I.base.free b o ho (I.ok.frf b hb) λz=>I.ok.exfs b z hb
def Inv.step{g':Array GenState}{t':Nat}{d':Drawn}{ch:List Addr}(I:Inv X pins σ H s)
 (hch:∀b∈ch,(b∈X.ex\/X.s₀.heap.objs.size<=b)/\b≠X.env.locals/\(∀x c,X.env.cells.lookup x=some c->c≠b)/\∀p∈X.pn++pins,p.1≠b)
 (keep:∀b o,b≠X.env.locals->b∉X.fs->b∉ch->s.heap.get? b=some o->H b=none->h'.get? b=some o)
 (slot:∀b o,b≠X.env.locals->b∈X.fs->b∉ch->s.heap.get? b=some o->H b=none->∃sl,h'.get? b=some { o with slots:=sl }) (free:∀b o,b∉ch->s.heap.get? b=some o->H b=none->H' b=none)
 (there:∀b o,b∉ch->s.heap.get? b=some o->∃o',h'.get? b=some o')
 (tups:∀b xs,H b=some (.tup xs)->H' b=some (.tup xs)) (frzs:∀b o u,H b=some (.frz o u)->H' b=some (.frz o u)) (tbls:∀b ps,H b=some (.tbl ps)->∃more,H' b=some (.tbl (ps++more)))
 (ns:∀m,s.heap.Ns X.env.locals m->h'.Ns X.env.locals m) (hok:HOk X.prog X.w H' h') (hg:AllBare g'):
 Inv X pins σ H' { s with heap:=h',gens:=g',drawn:=d',toks:=t' }:=by
 have neL:∀b o,X.s₀.heap.get? b=some o->b≠X.env.locals:=λb o e=>Nn (I_ (A_ e) I.ok.above);have neC:∀b o,X.s₀.heap.get? b=some o->b∉X.ex->b∉ch:=λb o e hx hb=>by
  rcases (hch b hb).1 with z |z
  .exact hx z
  .exact absurd (I_ (A_ e) z) (N3 _)
 have cellK:∀x c,X.env.cells.lookup x=some c->∀v,s.heap.IsCell c v->h'.IsCell c v:=λx c e v ⟨o,ho,hd⟩=>by
  have nch:c∉ch:=λz=>(hch c z).2.2.1 x c e rfl;by_cases hc:c∈X.fs
  .obtain⟨sl,q⟩:=slot c o (I.cne x c e) hc nch ho (I.freeC x c e);exact⟨_,q,hd⟩
  .exact⟨o,keep c o (I.cne x c e) hc nch ho (I.freeC x c e),hd⟩
 refine⟨I.ok,I.os,hg,⟨λb o e n hb hx=>?_,λb o e n hb hx=>?_,λb o e n hx=>?_,λb o e hx=>?_,λb xs e=>tups b xs (I.base.tups b xs e),λb o xs e=>frzs b o xs (I.base.frzs b o xs e),λb ps e=>?_⟩,?_,λx c e=>?_,?_,λx c e=>?_,λp hp=>?_,hok,I.len⟩
 .exact keep b o (neL b o e) hb (neC b o e hx) (I.base.keep b o e n hb hx) (I.base.free b o e n hx)
 .obtain⟨sl,e1⟩:=I.base.slot b o e n hb hx;obtain⟨sl',e2⟩:=slot b _ (neL b o e) hb (neC b o e hx) e1 (I.base.free b o e n hx);exact⟨sl',e2⟩
 .obtain⟨o',e1⟩:=I.base.there b o e hx;exact free b o' (neC b o e hx) e1 (I.base.free b o e n hx)
 .obtain⟨o',e1⟩:=I.base.there b o e hx;exact there b o' (neC b o e hx) e1
 .obtain⟨m1,e1⟩:=I.base.tbls b ps e;obtain⟨m2,e2⟩:=tbls b _ e1;exact⟨m1++m2,by rw[e2,Array.append_assoc]⟩
 .obtain⟨m,hn,hl⟩:=I.loc;refine⟨m,ns m hn,λi x v e1 e2 e3=>?_⟩;obtain⟨u,r,l⟩:=hl i x v e1 e2 e3;refine⟨u,r,?_⟩;rcases l with l |⟨k,c,e,z⟩
  .exact .inl l
  .exact .inr ⟨k,c,e,cellK x c e _ z⟩
 .obtain⟨v,z⟩:=I.cell x c e;exact⟨v,cellK x c e v z⟩
 .obtain⟨m,⟨o,_,_,ho,_⟩,_⟩:=I.loc;exact free _ o (λz=>(hch _ z).2.1 rfl) ho I.free
 .obtain⟨v,o,ho,hd⟩:=I.cell x c e;exact free c o (λz=>(hch c z).2.2.1 x c e rfl) ho (I.freeC x c e)
 .obtain⟨e,n,ne,nf,d⟩:=I.pin p hp;have nch:p.1∉ch:=λz=>(hch p.1 z).2.2.2 p hp rfl;exact⟨keep p.1 p.2 ne nf nch e n,free p.1 p.2 nch e n,ne,nf,d⟩
def Inv.un{t':Nat}(I:Inv X pins σ H s)(u:Un X.fs [] H H' s.heap h')(hok:HOk X.prog X.w H' h'):Inv X pins σ H' { s with heap:=h',toks:=t' }:=by obtain⟨m,⟨o,es,ep,ho,r⟩,_⟩:=id I.loc;obtain⟨sl,hL⟩:=u.any ho I.free (by simp);exact I.step (g':=s.gens) (d':=s.drawn) (ch:=[]) (λ_ z=>nomatch z) (λb o _ hb _ e n=>u.keep b o e n hb (by simp)) (λb o _ hb _ e n=>u.slot b o e n hb (by simp)) (λb o _ e n=>u.free b o e n (by simp)) (λb o _ e=>u.there b o e (by simp)) u.tups u.frzs u.tbls (λm' hm=>by obtain⟨o',es',ep',ho',r'⟩:=hm;rw[ho] at ho';cases ho';exact⟨_,es',ep',hL,r'⟩) hok I.bare
def Inv.call{g':Array GenState}{t':Nat}{d':Drawn}{ch:List Addr}(I:Inv X pins σ H s)(u:Un (frs X.stack) ch H H' s.heap h')(hok:HOk X.prog X.w H' h')(hg:AllBare g')
 (hch:∀b∈ch,(b∈X.ex\/X.s₀.heap.objs.size<=b)/\b≠X.env.locals/\(∀x c,X.env.cells.lookup x=some c->c≠b)/\∀p∈X.pn++pins,p.1≠b):
 Inv X pins σ H' { s with heap:=h',gens:=g',drawn:=d',toks:=t' }:=by
 obtain⟨m,⟨o,es,ep,ho,r⟩,_⟩:=id I.loc;obtain⟨sl,hL⟩:=u.any ho I.free λz=>(hch _ z).2.1 rfl;exact I.step (ch:=ch) hch (λb o hL hb hc e n=>u.keep b o e n (λz=>(G_.mp (I.stkSub b z)).elim hL hb) hc) (λb o _ _ hc e n=>u.any e n hc) (λb o hc e n=>u.free b o e n hc) (λb o hc e=>u.there b o e hc) u.tups u.frzs u.tbls (λm' hm=>by obtain⟨o',es',ep',ho',r'⟩:=hm;rw[ho] at ho';cases ho';exact⟨_,es',ep',hL,r'⟩) hok hg
def Inv.turned{t':Nat}{it:Addr}(I:Inv X pins σ H s)(k:∀b o,b≠it->s.heap.get? b=some o->h'.get? b=some o)(hn:H it=none)(hL:it≠X.env.locals)
 (h1:it∈X.ex\/X.s₀.heap.objs.size<=it) (h2:∀x c,X.env.cells.lookup x=some c->c≠it) (h3:∀p∈X.pn++pins,p.1≠it):Inv X pins σ H { s with heap:=h',toks:=t' }:=by
 have nit:∀b u,H b=some u->b≠it:=λb u e z=>by rw[z,hn] at e;cases e
 refine I.step (g':=s.gens) (d':=s.drawn) (ch:=[it]) (λb hb=>?_) (λb o _ _ hc e _=>k b o (λz=>hc (by simp [z])) e) (λb o _ _ hc e _=>⟨o.slots,k b o (λz=>hc (by simp [z])) e⟩) (λ_ _ _ _ n=>n)
  (λb o hc e=>⟨o,k b o (λz=>hc (by simp [z])) e⟩) (λ_ _ e=>e) (λ_ _ _ e=>e) (λb ps e=>⟨#[],by rw[e];simp⟩) (λm hm=>?_) (λb u e=>?_) I.bare
 .have e:b=it:=by simpa using hb
  subst e;exact⟨h1,hL,h2,h3⟩
 .obtain⟨o,es,ep,ho,r⟩:=hm;exact⟨o,es,ep,k _ o (Ne.symm hL) ho,r⟩
 .refine (I.hok b u e).stay (λc v hc q=>k c v ?_ q) (λ_ q=>q) λ_ _ q=>q;rcases hc with z |z
  .rw[z];exact nit b u e
  .exact nit c _ z
def Inv.tok(I:Inv X pins σ H s)(t:Nat):Inv X pins σ H { s with toks:=t }:=I.un (h':=s.heap) (t':=t) Un.refl I.hok
def Inv.kept(I:Inv X pins σ H s)(k:∀b u,s.heap.get? b=some u->h'.get? b=some u):Inv X pins σ H { s with heap:=h',toks:=t' }:=I.un (Un.kept k) (I.hok.kept k)
def Inv.laid(I:Inv X pins σ H s)(k:∀b u,s.heap.get? b=some u->h'.get? b=some u)(hp:s.heap.objs.size<=a)(new:ObjOk X.prog X.w (upd H a o) h' a o):
 Inv X pins σ (upd H a o) { s with heap:=h',toks:=t' }:=I.un (Un.laid k hp (I.hok.fresh hp)) (I.hok.laid k hp new)
def Inv.write(I:Inv X pins σ H s)(mu:Mut (H x))(he:e=x\/H e=some (.own x))(k:∀b u,b≠e->s.heap.get? b=some u->h'.get? b=some u)(heo:∃u,h'.get? e=some u)
 (new:ObjOk X.prog X.w (upd H x o) h' x o):Inv X pins σ (upd H x o) { s with heap:=h',toks:=t' }:=I.un (Un.write mu he k heo) (I.hok.write mu he k heo new)
def Inv.pins_of(I:Inv X pins σ H s)(h:∀p∈pins',s.heap.get? p.1=some p.2/\H p.1=none/\p.1≠X.env.locals/\p.1∉X.fs/\∀v,p.2.data ≠ .cell v):Inv X pins' σ H s:=
 ⟨I.ok,I.os,I.bare,I.base,I.loc,I.cell,I.free,I.freeC,λp hp=>(OH.mp hp).elim (λz=>I.pin p (PU _ z)) (h p),I.hok,I.len⟩
def tj{N:List Str}(hN:N.Nodup){i j:Nat}{x:Str}(a:N[i]?=some x)(b:N[j]?=some x):i=j:=by obtain⟨h1,e1⟩:=C_.mp a;obtain⟨h2,e2⟩:=C_.mp b;exact (List.getElem_inj hN).mp (e1.trans e2.symm)
def o9(I:Inv X pins σ H s)(hN:X.N.Nodup)(hi:X.N[i]?=some x)(hx:Loc X.env.scope x)(r:RelV v u)
 (h:∀s',Inv X pins (σ.set i (some v)) H s'->(∃a,Heap.SameBut a s.heap s'.heap/\(a=X.env.locals\/X.env.cells.lookup x=some a))->Q () s') (hf:X.fn x=true\/X.env.scope.names.lookup x=some .local):wpAny M A (storeName X.env x u) Q E s:=by
 obtain⟨m,hn,hl⟩:=id I.loc;have hcls:(X.env.scope.kind == .class || (X.env.scope.kind == .module&&X.env.locals != X.env.globals))=false:=by rw[I.ok.kind];rfl
 have hiσ:i<σ.length:=by rw[I.len];exact (C_.mp hi).1
 have cne:=I.cne;have tracked:∀{a:Addr}{h':Heap},(∃o,s.heap.get? a=some o/\H a=none)->Heap.SameBut a s.heap h'->HOk X.prog X.w H h':=λ{a h'} ha hs b ob e=>by
  obtain⟨_,_,hfree⟩:=ha;refine (I.hok b ob e).stay (λc w' hc q=>(hs.2 c ?_).trans q) (λ_ q=>q) λ_ _ q=>q;rintro rfl;rcases hc with rfl |hc
  .rw[hfree] at e;cases e
  .rw[hfree] at hc;cases hc
 rcases hx with hk |hk
 .refine wpAny_storeName_local hk hn (λh' hn' hs=>?_) hcls;obtain⟨oL,_,_,hoL,_⟩:=id hn;refine h _ ⟨I.ok,I.os,I.bare,⟨λb o e n hb hx=>?_,λb o e n hb hx=>?_,I.base.free,λb o e hx=>?_,I.base.tups,I.base.frzs,I.base.tbls⟩,⟨_,hn',λj y v' e1 e2 e3=>?_⟩,λy c e=>?_,I.free,I.freeC,λp hp=>?_,tracked ⟨oL,hoL,I.free⟩ hs,by simpa using I.len⟩ ⟨_,hs,.inl rfl⟩
  .exact (hs.2 b (Nn (I_ (A_ e) I.ok.above))).trans (I.base.keep b o e n hb hx)
  .obtain⟨sl,e1⟩:=I.base.slot b o e n hb hx;exact⟨sl,(hs.2 b (Nn (I_ (A_ e) I.ok.above))).trans e1⟩
  .obtain⟨o',e1⟩:=I.base.there b o e hx;exact⟨o',(hs.2 b (Nn (I_ (A_ e) I.ok.above))).trans e1⟩
  .by_cases hj:j=i
   .subst hj;rw[hi] at e1;cases e1;rw[List.getElem?_set_self hiσ] at e2;cases e2;exact⟨u,r,.inl ⟨hk,by simp⟩⟩
   .rw[PR (Ne.symm hj)] at e2;obtain⟨u',r',q⟩:=hl j y v' e1 e2 e3;refine⟨u',r',?_⟩;rcases q with ⟨k,e⟩ |⟨k,c,e,z⟩
    .refine .inl ⟨k,?_⟩;have:y≠x:=λe=>hj (tj hN e1 (e ▸ hi));simp [this,e]
    .exact .inr ⟨k,c,e,z.sameBut hs (cne y c e)⟩
  .obtain⟨w',z⟩:=I.cell y c e;exact⟨w',z.sameBut hs (cne y c e)⟩
  .obtain⟨e,n,ne,nf,d⟩:=I.pin p hp;exact⟨(hs.2 p.1 ne).trans e,n,ne,nf,d⟩
 .have hfn:X.fn x=true:=by
   rcases hf with z |z
   .exact z
   .rw[z] at hk;cases hk
  obtain⟨c,hc⟩:=I.ok.has x (.inl hk);obtain⟨w',z⟩:=I.cell x c hc;refine wpAny_storeName_cell I.ok.kind hk hc z (λh' hc' hs=>?_);obtain⟨oc,hoc,hocd⟩:=id z;refine h { s with heap:=h' } ⟨I.ok,I.os,I.bare,⟨λb o e n hb hx=>?_,λb o e n hb hx=>?_,I.base.free,λb o e hx=>?_,I.base.tups,I.base.frzs,I.base.tbls⟩,⟨m,hn.sameBut hs (Ne.symm (cne x c hc)),λj y v' e1 e2 e3=>?_⟩,λy c' e=>?_,I.free,I.freeC,λp hp=>?_,tracked ⟨oc,hoc,I.freeC x c hc⟩ hs,by simpa using I.len⟩ ⟨c,hs,.inr hc⟩
  .exact (hs.2 b (Nn (I_ (A_ e) (I.ok.cab x c hfn hc)))).trans (I.base.keep b o e n hb hx)
  .obtain⟨sl,e1⟩:=I.base.slot b o e n hb hx;exact⟨sl,(hs.2 b (Nn (I_ (A_ e) (I.ok.cab x c hfn hc)))).trans e1⟩
  .obtain⟨o',e1⟩:=I.base.there b o e hx;exact⟨o',(hs.2 b (Nn (I_ (A_ e) (I.ok.cab x c hfn hc)))).trans e1⟩
  .by_cases hj:j=i
   .subst hj;rw[hi] at e1;cases e1;rw[List.getElem?_set_self hiσ] at e2;cases e2;exact⟨u,r,.inr ⟨.inl hk,c,hc,hc'⟩⟩
   .rw[PR (Ne.symm hj)] at e2;obtain⟨u',r',q⟩:=hl j y v' e1 e2 e3;refine⟨u',r',?_⟩;rcases q with q |⟨k,c',e,z'⟩
    .exact .inl q
    .refine .inr ⟨k,c',e,z'.sameBut hs ?_⟩;rintro rfl;exact hj (tj hN e1 (I.ok.inj _ _ _ e hc ▸ hi))
  .by_cases hcc:c'=c
   .subst hcc;exact⟨_,hc'⟩
   .obtain⟨w2,z2⟩:=I.cell y c' e;exact⟨w2,z2.sameBut hs hcc⟩
  .obtain⟨e,n,ne,nf,d⟩:=I.pin p hp;refine⟨(hs.2 p.1 ?_).trans e,n,ne,nf,d⟩;intro q;rw[q,hoc] at e;have q':oc=p.2:=J_ e;exact d w' (by rw[<- q'];exact hocd)
def gX(I:Inv X pins σ H s)(hN:X.N.Nodup)(hi:X.N[i]?=some x)(hx:Loc X.env.scope x)(r:RelV v u)
 (h:∀s',Inv X pins (σ.set i (some v)) H s'->Q () s') (hf:X.fn x=true\/X.env.scope.names.lookup x=some .local):wpAny M A (storeName X.env x u) Q E s:=
 o9 I hN hi hx r (λs' I' _=>h s' I') hf
def Inv.call'(I:Inv X pins σ H s)(ho:s'.os=s.os)(u:Un (frs X.stack) ch H H' s.heap s'.heap)(hok:HOk X.prog X.w H' s'.heap)(hg:AllBare s'.gens)
 (hch:∀b∈ch,(b∈X.ex\/X.s₀.heap.objs.size<=b)/\b≠X.env.locals/\(∀x c,X.env.cells.lookup x=some c->c≠b)/\∀p∈X.pn++pins,p.1≠b):Inv X pins σ H' s':=by
 obtain⟨h',g',d',t',o'⟩:=s';have e:o'=s.os:=ho;subst e;exact I.call (g':=g') (t':=t') (d':=d') u hok hg hch
end
abbrev XK:=Value->Option Addr->Hp->Prop
abbrev St:=List (Option V)
abbrev VK:=V->Hp->Prop
abbrev TE:=St->Hp->VK->Prop
abbrev TT:=St->Hp->(Bool->Hp->Prop)->Prop
abbrev TA:=St->Hp->(List V->Hp->Prop)->Prop
structure Ends where
 nx:St->Hp->Prop
 rt:VK
 bk:St->Hp->Prop:=λ_ _=>False
 ct:St->Hp->Prop:=λ_ _=>False
abbrev TS:=Ends->St->Hp->Prop
def EP(X:Cx)(pins:Qe)(σ:St)(Q:VK)(u:Value)(s':Shared):Prop:=∃v H',Inv X pins σ H' s'/\RelV v u/\Q v H'
def TP(X:Cx)(pins:Qe)(σ:St)(Q:Bool->Hp->Prop)(b:Bool)(s':Shared):Prop:=∃H',Inv X pins σ H' s'/\Q b H'
def AP(X:Cx)(pins:Qe)(σ:St)(Q:List V->Hp->Prop)(us:List Value)(s':Shared):Prop:=∃vs H',Inv X pins σ H' s'/\Vals vs us/\Q vs H'
def SP(X:Cx)(pins:Qe)(D:Ends)(f:Flow)(s':Shared):Prop:=
 match f with
 |.next=>∃σ' H',Inv X pins σ' H' s'/\D.nx σ' H'
 |.brk=>∃σ' H',Inv X pins σ' H' s'/\D.bk σ' H'
 |.cont=>∃σ' H',Inv X pins σ' H' s'/\D.ct σ' H'
 |.ret u=>∃v σ' H',Inv X pins σ' H' s'/\RelV v u/\D.rt v H'
def exA{α:Type}{A B C:α->Hp->Prop}{Z:Prop}(h:∃v H',A v H'/\B v H'/\C v H')(k:∀v H',A v H'->B v H'->C v H'->Z):Z:=by obtain⟨v,H',a,b,c⟩:=h;exact k v H' a b c
def PE(X:Cx)(e:Expr)(t:TE):Prop:=
 ∀(pins:Qe) (s:Shared) (σ:St) (H:Hp) (Q:VK),Inv X pins σ H s->t σ H Q->wpAny (model X.prog X.w) X.A (eval e X.env) (EP X pins σ Q) X.xe s
def PT(X:Cx)(e:Expr)(t:TT):Prop:=
 ∀(pins:Qe) (s:Shared) (σ:St) (H:Hp) (Q:Bool->Hp->Prop),Inv X pins σ H s->t σ H Q->wpAny (model X.prog X.w) X.A (isTrue e X.env (eval e X.env)) (TP X pins σ Q) X.xe s
def PW(X:Cx)(e:Expr)(t:TT):Prop:=
 ∀(e_:Sem Value) (pins:Qe) (s:Shared) (σ:St) (H:Hp) (Q:Bool->Hp->Prop),Inv X pins σ H s->t σ H Q->wpAny (model X.prog X.w) X.A (isTrue e X.env e_) (TP X pins σ Q) X.xe s
def PW.pt(h:PW X e t):PT X e t:=h _
def PA(X:Cx)(es:List Expr)(t:TA):Prop:=
 ∀(pos:Pos) (pins:Qe) (s:Shared) (σ:St) (H:Hp) (Q:List V->Hp->Prop),Inv X pins σ H s->t σ H Q->wpAny (model X.prog X.w) X.A (spliced (backTo pos (starEach es X.env))) (AP X pins σ Q) X.xe s
def PS(X:Cx)(st:Stmt)(t:TS):Prop:=
 ∀(pins:Qe) (s:Shared) (σ:St) (H:Hp) (D:Ends),Inv X pins σ H s->t D σ H->wpAny (model X.prog X.w) X.A (exec st X.env) (SP X pins D) X.xe s
def PSs(X:Cx)(st:List Stmt)(t:TS):Prop:=
 ∀(pins:Qe) (s:Shared) (σ:St) (H:Hp) (D:Ends),Inv X pins σ H s->t D σ H->wpAny (model X.prog X.w) X.A (execs st X.env) (SP X pins D) X.xe s
def thn(h:wpAny M A t Q E s)(hQ:∀a s,Q a s->Q' a s):wpAny M A t Q' E s:=NF h hQ λ_ _ x=>x
section
variable{X:Cx}
def tVar(i:Nat):TE:=λσ H Q=>∃v,σ[i]?=some (some v)/\Q v H
def tC(v:V):TE:=λ_ H Q=>Q v H
def JS(hN:X.N[i]?=some x)(hv:Vis X.env.scope x)(hd:(x==("__debug__" : Str))=false)(n_:(x==("__classdict__" : Str))=false):PE X (.Name x pos) (tVar i):=by
 intro pins s σ H Q I h;obtain⟨v,e,h⟩:=h;obtain⟨m,hn,hl⟩:=I.loc;obtain⟨u,r,l⟩:=hl i x v hN e hv;have d_:EP X pins σ Q u s:=⟨v,H,I,r,h⟩;rcases l with ⟨hk,hm⟩ |⟨hk,c,hc,l_⟩
 .exact wpAny_Name (P5 I.ok.kind hk hn hm d_) hd
 .rcases hk with hk |hk
  .exact wpAny_Name (wpAny_loadName_cell I.ok.kind hk hc l_ d_) hd
  .exact wpAny_Name (wpAny_loadName_free I.ok.kind hk hc l_ d_ n_) hd
def JC{i j pos}:PE X (.Constant (.int i) j pos) (tC (.int i)):=λ_ _ _ H _ I h=>wpAny_Constant_int ⟨.int i,H,I.tok _,⟨_,rfl⟩,h⟩
def M5{b j pos}:PE X (.Constant (.bool b) j pos) (tC (.bl b)):=λ_ _ _ H _ I h=>Constant_bool ⟨.bl b,H,I,rfl,h⟩
def JK{j pos}:PE X (.Constant .none j pos) (tC .non):=λ_ _ _ H _ I h=>Constant_none ⟨.non,H,I,rfl,h⟩
def JG{x j pos}:PE X (.Constant (.str x) j pos) (tC (.str x)):=λ_ _ _ H _ I h=>Calls.Constant_str ⟨.str x,H,I.tok _,⟨_,rfl⟩,h⟩
def Gl(X:Cx)(x:Str):Prop:=X.env.kindOf x=some .globalImplicit
def oA(I:Inv X pins σ H s)(hg:Gl X x)(hm:X.mg x=some u)(h:Q u s)
 (hd:(x==("__debug__" : Str))=false):wpAny (model X.prog X.w) X.A (eval (.Name x pos) X.env) Q E s:=
 Calls.Name_function_global I.ok.kind hg (Calls.loadGlobal_global (by rw[I.ok.glob];exact I.mod.glob.keeps I.bk) hm h) hd
def cR(I:Inv X pins σ H s)(hg:Gl X x)(hm:X.mg x=none)(hv:bootBuiltins x=some u)(h:Q u s)
 (hn:x ≠ "__name__":=by decide) (hd:(x==("__debug__" : Str))=false:=by decide):wpAny (model X.prog X.w) X.A (eval (.Name x pos) X.env) Q E s:=by
 obtain⟨mb,h1,h2⟩:=I.mod.blt;exact Calls.Name_function_global I.ok.kind hg (Calls.loadGlobal_builtin (by rw[I.ok.glob];exact I.mod.glob.keeps I.bk) hm (by rw[I.ok.blt];exact h1.keeps I.bk) ((h2 x hn).trans hv) h) hd
def vc(hg:Gl X x)(hm:X.mg x=some u)(r:RelV v u)(hd:(x==("__debug__" : Str))=false):PE X (.Name x pos) (tC v):=
 λ_ _ _ H _ I h=>oA I hg hm ⟨v,H,I,r,h⟩ hd
def Fw(hg:Gl X x)(hm:X.mg x=none)(hv:bootBuiltins x=some u)(r:RelV v u)(hn:x ≠ "__name__")(hd:(x==("__debug__" : Str))=false):PE X (.Name x pos) (tC v):=
 λ_ _ _ H _ I h=>cR I hg hm hv ⟨v,H,I,r,h⟩ hn hd
variable{a b:Expr}{ta tb:TE}{pos:Pos}
def tB(t:TE):TT:=λσ H Q=>t σ H λx H1=>∃c,x=.bl c/\Q c H1
def Jt(h:PE X e t)(he:∀e_,isTrue e X.env e_=(do let v <- e_;standAt e.pos;holding [v] (truthy v))):PT X e (tB t):=by intro pins s σ H Q I hw;refine isTrue_plain (thn (h pins s σ H _ I hw) λv s1 zz=>exA zz λx H1 I1 r1 q1=>?_) (he _);obtain⟨d,rfl,q⟩:=q1;cases r1;exact OO ⟨H1,I1,q⟩
variable{tA tB':TT}{gC:List Expr}
def tAnd(t u:TT):TT:=λσ H Q=>t σ H λc H1=>if c=true then u σ H1 Q else Q false H1
def tOr(t u:TT):TT:=λσ H Q=>t σ H λc H1=>if c=true then Q true H1 else u σ H1 Q
def tNot(t:TT):TT:=λσ H Q=>t σ H λc H1=>Q (!c) H1
def FT(ha:PT X a tA):PW X (.BoolOp .And [a] pos) tA:=by
 intro wh pins s σ H Q I h;refine isTrue_and (thn (ha pins s σ H Q I h) λc s1 e=>?_);cases c with
 |true=>exact isTrue_and_nil e
 |false=>exact e
def JB(ha:PT X a tA):PW X (.BoolOp .Or [a] pos) tA:=by
 intro wh pins s σ H Q I h;refine isTrue_or (thn (ha pins s σ H Q I h) λc s1 e=>?_);cases c with
 |false=>exact isTrue_or_nil e
 |true=>exact e
def Hv(ha:PT X a tA)(hb:PW X (.BoolOp .And (b::gC) pos) tB'):PW X (.BoolOp .And (a::b::gC) pos) (tAnd tA tB'):=by
 intro wh pins s σ H Q I h;refine isTrue_and (thn (ha pins s σ H _ I h) λc s1 ⟨H1,I1,q1⟩=>?_);cases c with
 |true=>exact hb wh pins s1 σ H1 Q I1 q1
 |false=>exact⟨H1,I1,q1⟩
def Lh(ha:PT X a tA)(hb:PW X (.BoolOp .Or (b::gC) pos) tB'):PW X (.BoolOp .Or (a::b::gC) pos) (tOr tA tB'):=by
 intro wh pins s σ H Q I h;refine isTrue_or (thn (ha pins s σ H _ I h) λc s1 ⟨H1,I1,q1⟩=>?_);cases c with
 |true=>exact⟨H1,I1,q1⟩
 |false=>exact hb wh pins s1 σ H1 Q I1 q1
def Ja(ha:PT X a tA):PT X (.UnaryOp .Not a pos) (tNot tA):=by intro pins s σ H Q I h;exact isTrue_not (ha pins s σ H (λc H1=>Q (!c) H1) I h)
def Lg(ta tb:TE):TE:=λσ H Q=>ta σ H λx H1=>∃c,x=.bl c/\if c=true then tb σ H1 Q else Q (.bl false) H1
def Lj(ta:TE):TE:=λσ H Q=>ta σ H λx H1=>∃c,x=.bl c/\Q (.bl (!c)) H1
def Ih{op}(h:PE X a t):PE X (.BoolOp op [a] pos) t:=λpins s σ H Q I hw=>BoolOp_one (h pins s σ H Q I hw)
def HK(ha:PE X a ta)(hb:PE X (.BoolOp .And (b::gC) pos) tb):PE X (.BoolOp .And (a::b::gC) pos) (Lg ta tb):=by
 intro pins s σ H Q I h;refine BoolOp_and (thn (ha pins s σ H _ I h) λv s1 zz=>exA zz λx H1 I1 r1 q1=>?_);obtain⟨c,rfl,q1⟩:=q1;cases r1;refine OO ?_;cases c with
 |true=>exact hb pins s1 σ H1 Q I1 q1
 |false=>exact⟨.bl false,H1,I1,rfl,q1⟩
def J3(ha:PE X a ta):PE X (.UnaryOp .Not a pos) (Lj ta):=by intro pins s σ H Q I h;refine UnaryOp_ (thn (ha pins s σ H _ I h) λv s1 zz=>exA zz λx H1 I1 r1 q1=>?_);obtain⟨c,rfl,q1⟩:=q1;cases r1;exact not_of (OO ⟨.bl (!c),H1,I1,rfl,q1⟩)
end
def SqL(K:W.Frag)(H:Hp)(a:Addr)(xs:List V):Prop:=
 Rd H a (.lst xs)\/
  ∃(o:Obj) (its:Array Value) (n:Nat),K.lookup a=some o/\o.cls=.type "list" /\ o.dict=none/\o.data=.seq its n/\its.size<=sizeLine/\Vals xs its.toList
def SqT(K:W.Frag)(H:Hp)(a:Addr)(xs:List V):Prop:=
 Rd H a (.tup xs)\/
  ∃(o:Obj) (its:Array Value) (n:Nat),K.lookup a=some o/\o.cls=.type "tuple" /\ o.data=.seq its n/\its.size<=sizeLine/\Vals xs its.toList
noncomputable def absV:Value->Option V
 |.none=>some .non
 |.bool b=>some (.bl b)
 |.int i _=>some (.int i)
 |.str x _=>some (.str x)
 |.bytes b _=>some (.byt b)
 |.float b _=>some (.flt b)
 |.ref a=>some (.ref a)
 |.type n=>some (.ty n)
 |_=>none
def RelV.abs(r:RelV x u):absV u=some x:=by
 cases x with
 |non=>cases r;rfl
 |bl _=>cases r;rfl
 |int _=>obtain⟨t,rfl⟩:=r;rfl
 |str _=>obtain⟨t,rfl⟩:=r;rfl
 |byt _=>obtain⟨t,rfl⟩:=r;rfl
 |flt _=>obtain⟨t,rfl⟩:=r;rfl
 |ref _=>cases r;rfl
 |ty _=>cases r;rfl
def RelV.inj(r:RelV x u)(q:RelV y u):x=y:=J_ (r.abs.symm.trans q.abs)
def Vals.inj(r:Vals xs us)(q:Vals ys us):xs=ys:=by
 induction r generalizing ys with
 |nil=>cases q;rfl
 |
  cons r t ih=>
  cases q with
  |cons q t'=>rw[r.inj q,ih t']
section
variable{X:Cx}{pins:Qe}{σ:St}{H:Hp}{s:Shared}{a:Addr}{xs ys:List V}
def SqL.of{K:W.Frag}(h:H a=some (.lst xs)):SqL K H a xs:=.inl (.inl h)
def SqT.of{K:W.Frag}(h:H a=some (.tup xs)):SqT K H a xs:=.inl (.inl h)
def Inv.list(I:Inv X pins σ H s)(h:SqL X.K H a xs):∃its:List Value,Vals xs its/\PlainL s.heap a its.toArray/\xs.length<=sizeLine:=by
 rcases h with h |⟨o,its,n,hk,hc,hd,hs,hz,r⟩
 .obtain⟨z,its,n,r,e⟩:=h.ok I.hok;exact⟨its,r,⟨_,n,e,rfl,rfl,rfl⟩,z⟩
 .refine⟨its.toList,r,⟨o,n,I.kIn a o hk,hc,hd,by simpa using hs⟩,?_⟩;have e:=r.length;simp only[NG] at e;omega
def Inv.tuple(I:Inv X pins σ H s)(h:SqT X.K H a xs):∃its:List Value,Vals xs its/\IsTup s.heap a its.toArray/\xs.length<=sizeLine:=by
 rcases h with h |⟨o,its,n,hk,hc,hs,hz,r⟩
 .obtain⟨z,its,r,p⟩:=h.ok I.hok;exact⟨its,r,p,z⟩
 .refine⟨its.toList,r,⟨o,I.kIn a o hk,hc,n,by simpa using hs⟩,?_⟩;have e:=r.length;simp only[NG] at e;omega
def Inv.list_inj(I:Inv X pins σ H s)(h:SqL X.K H a xs)(h':SqL X.K H a ys):xs=ys:=by
 obtain⟨its,r,⟨o,n,e,_,_,d⟩,_⟩:=I.list h;obtain⟨its',r',⟨o',n',e',_,_,d'⟩,_⟩:=I.list h';rw[e] at e';cases e';rw[d] at d';injection d' with d1 _;have:its=its':=by simpa using Nz Array.toList d1
 subst this;exact r.inj r'
def Inv.tuple_inj(I:Inv X pins σ H s)(h:SqT X.K H a xs)(h':SqT X.K H a ys):xs=ys:=by
 obtain⟨its,r,⟨o,e,_,n,d⟩,_⟩:=I.tuple h;obtain⟨its',r',⟨o',e',_,n',d'⟩,_⟩:=I.tuple h';rw[e] at e';cases e';rw[d] at d';injection d' with d1 _;have:its=its':=by simpa using Nz Array.toList d1
 subst this;exact r.inj r'
end
section
variable{X:Cx}{st:Stmt}{gC:List Stmt}{t u:TS}{e:Expr}{te:TE}{pos:Pos}
def Ma:TS:=λD σ H=>D.nx σ H
def tSeq(t u:TS):TS:=λD σ H=>t { D with nx:=u D } σ H
def Fm:PSs X [] Ma:=λ_ _ σ H _ I h=>P4 ⟨σ,H,I,h⟩
def B8(h1:PS X st t)(h2:PSs X gC u):PSs X (st::gC) (tSeq t u):=by
 intro pins s σ H D I h;refine wpAny_execs_cons (thn (h1 pins s σ H { D with nx:=u D } I h) λf s1 q=>?_);cases f with
 |next=>obtain⟨σ',H',I',q⟩:=q;exact h2 pins s1 σ' H' D I' q
 |ret v=>exact q
 |brk=>exact q
 |cont=>exact q
def EX(h1:PS X st t):PSs X [st] t:=by
 intro pins s σ H D I h;refine wpAny_execs_cons (thn (h1 pins s σ H D I h) λf s1 q=>?_);cases f with
 |next=>exact P4 q
 |ret v=>exact q
 |brk=>exact q
 |cont=>exact q
def JE:TS:=λD σ H=>D.bk σ H
def Dy:PS X (.Break pos) JE:=λ_ _ σ H _ I h=>wpAny_Break ⟨σ,H,I,h⟩
def Inv.quiet(I:Inv X pins σ H s):interactive X.env=false:=by simp [interactive,I.ok.kind]
def KZ(te:TE):TS:=λD σ H=>te σ H λ_ H1=>D.nx σ H1
def Fb(he:PE X e te)(hs:swapsWith e none pos.line X.env=pure false):PS X (.Expr e pos) (KZ te):=by intro pins s σ H D I h;exact wpAny_Expr_any (thn (he pins s σ H _ I h) λv s1 zz=>exA zz λx H1 I1 r1 q1=>⟨σ,H1,I1,q1⟩) I.quiet hs
def tRet(te:TE):TS:=λD σ H=>te σ H D.rt
def Iv(he:PE X e te):PS X (.Return (some e) pos) (tRet te):=by intro pins s σ H D I h;exact wpAny_Return_some (thn (he pins s σ H _ I h) λv s1 zz=>exA zz λx H1 I1 r1 q1=>⟨x,σ,H1,I1,r1,q1⟩)
def L6:TS:=λD _ H=>D.rt .non H
def EH:PS X (.Return none pos) L6:=λ_ _ σ H _ I h=>wpAny_Return_none ⟨.non,σ,H,I,rfl,h⟩
def tIfS(c:TT)(t u:TS):TS:=λD σ H=>c σ H λb H1=>if b=true then t D σ H1 else u D σ H1
def K9(hc:PT X c tc)(ha:PSs X a t)(hb:PSs X b u):PS X (.If c a b pos) (tIfS tc t u):=by
 intro pins s σ H D I h;refine wpAny_If (thn (hc pins s σ H _ I h) λd s1 ⟨H1,I1,q1⟩=>?_);cases d with
 |true=>exact ha pins s1 σ H1 D I1 q1
 |false=>exact hb pins s1 σ H1 D I1 q1
end
abbrev TG:=V->St->Hp->(St->Hp->Prop)->Prop
abbrev TGs:=List V->St->Hp->(St->Hp->Prop)->Prop
def PG(X:Cx)(target:Expr)(t:TG):Prop:=
 ∀
  (pins:Qe) (s:Shared) (σ:St) (H:Hp) (v:V) (u:Value) (Q:St->Hp->Prop),Inv X pins σ H s->RelV v u->t v σ H Q->
  wpAny (model X.prog X.w) X.A (assign target X.env u) (λ_ s'=>∃σ' H',Inv X pins σ' H' s'/\Q σ' H') X.xe s
def PGs(X:Cx)(ts:List Expr)(t:TGs):Prop:=
 ∀
  (pins:Qe) (s:Shared) (σ:St) (H:Hp) (vs:List V) (us:List Value) (Q:St->Hp->Prop),Inv X pins σ H s->Vals vs us->t vs σ H Q->
  wpAny (model X.prog X.w) X.A (assignInOrder ((assignEach ts X.env).map (·.2)) us) (λ_ s'=>∃σ' H',Inv X pins σ' H' s'/\Q σ' H') X.xe s
abbrev tP:=V->V->V->Hp->(Hp->Prop)->Prop
def xP(X:Cx)(t:tP):Prop:=
 ∀
  (pins:Qe) (s:Shared) (σ:St) (H:Hp) (o i v:V) (ov iv u:Value) (Q:Hp->Prop),Inv X pins σ H s->RelV o ov->RelV i iv->RelV v u->t o i v H Q->
  wpAny (model X.prog X.w) X.A (setItem ov iv u) (λ_ s'=>∃H',Inv X pins σ H' s'/\Q H') X.xe s
abbrev TIp:=V->V->Hp->VK->Prop
def PIp(X:Cx)(op:Operator)(t:TIp):Prop:=
 ∀
  (pins:Qe) (s:Shared) (σ:St) (H:Hp) (x y:V) (v u:Value) (Q:VK),Inv X pins σ H s->RelV x v->RelV y u->t x y H Q->
  wpAny (model X.prog X.w) X.A (inplaceOp op v u) (EP X pins σ Q) X.xe s
section
variable{X:Cx}{pos:Pos}
def qr(i:Nat):TG:=λv σ H Q=>Q (σ.set i (some v)) H
def F2(hN:X.N.Nodup)(hi:X.N[i]?=some x)(hx:Loc X.env.scope x)(hf:X.fn x=true\/X.env.scope.names.lookup x=some .local):PG X (.Name x pos) (qr i):=by intro pins s σ H v u Q I r h;exact wpAny_assign_Name (gX I hN hi hx r (λs' I'=>⟨_,H,I',h⟩) hf)
def gNil:TGs:=λvs σ H Q=>vs=[]/\Q σ H
def Mf(t:TG)(u:TGs):TGs:=λvs σ H Q=>∃v r,vs=v::r/\t v σ H λσ' H'=>u r σ' H' Q
def FV:PGs X [] gNil:=by intro pins s σ H vs us Q I r h;obtain⟨e,h⟩:=h;subst e;cases r;exact assignInOrder_nil ⟨σ,H,I,h⟩
def CN(h1:PG X e t)(h2:PGs X es u)
 (hs:(assignEach (e::es) X.env).map (·.2)=assign e X.env::(assignEach es X.env).map (·.2)):PGs X (e::es) (Mf t u):=by
 intro pins s σ H vs us Q I r h;obtain⟨v,vr,e1,h⟩:=h;subst e1;cases r with
 |cons r rr=>rw[hs];refine assignInOrder_cons (thn (h1 pins s σ H _ _ _ I r h) λ_ s1 ⟨σ1,H1,I1,q1⟩=>?_);exact h2 pins s1 σ1 H1 _ _ Q I1 rr q1
def gTup(K:W.Frag)(n:Nat)(t:TGs):TG:=λv σ H Q=>∃a xs,v=.ref a/\SqT K H a xs/\xs.length=n/\t xs σ H Q
def zS(hc:X.calm=true)(h:PGs X es t)
 (hn:(assignEach es X.env).length=n) (hst:(assignEach es X.env).findIdx? (·.1)=none):PG X (.Tuple es k pos) (gTup X.K n t):=by
 intro pins s σ H v u Q I r hw;obtain⟨a,xs,e1,hq,hl,hw⟩:=hw;subst e1;cases r;obtain⟨its,rv,ht,hz⟩:=I.tuple hq;refine assign_Tuple_tuple (I.ok.hd hc) ht (by simp [hn,<- hl,rv.length]) hst λh' hx=>?_;have I1:Inv X pins σ H { s with heap:=h' }:=I.kept (t':=s.toks) λb o e=>hx b o (Nn (A_ e)) e;exact h pins _ σ H xs _ Q I1 (by simpa using rv) hw
def gSub(to ti:TE)(t:tP):TG:=λv σ H Q=>to σ H λo H1=>ti σ H1 λi H2=>t o i v H2 λH3=>Q σ H3
def JA(ho:PE X o to)(hi:PE X i ti)(hs:xP X t)
 (ha:∀v,assign (.Subscript o i pos) X.env v=(do
  let ov <- holding [v] (eval o X.env)
  let iv <- holding [v,ov] (eval i X.env)
  standAt pos
  holding [v,ov,iv] (setItem ov iv v)
  release [v,ov,iv] [])):PG X (.Subscript o i pos) (gSub to ti t):=by
 intro pins s σ H v u Q I r h;rw[ha];refine o_ (N9 (thn (ho pins s σ H _ I h) λov s1 zz=>exA zz λx H1 I1 r1 q1=>?_));refine o_ (N9 (thn (hi pins s1 σ H1 _ I1 q1) λiv s2 zz=>exA zz λy H2 I2 r2 q2=>?_));refine o_ (OU (o_ (N9 (thn (hs pins s2 σ H2 x y v ov iv u _ I2 r1 r2 r q2) λ_ s3 ⟨H3,I3,q3⟩=>?_))));exact wpAny_release ⟨σ,H3,I3,q3⟩
def yp(te:TE)(g:TG):TS:=λD σ H=>te σ H λx H1=>g x σ H1 D.nx
def AR(he:PE X e te)(hg:PG X tg g)(hs:swapsWithSole [tg] e pos.line X.env=pure false)(hw:swappedStores [tg] e X.env=pure none)
 (h1:(assignEach [tg] X.env).map (·.2)=[assign tg X.env]):PS X (.Assign [tg] e pos) (yp te g):=by
 intro pins s σ H D I h;refine wpAny_Assign_stores (thn (he pins s σ H _ I h) λv s1 zz=>exA zz λx H1 I1 r1 q1=>?_) hs hw;rw[h1];exact thn (hg pins s1 σ H1 x v _ I1 r1 q1) λ_ s2 q=>q
def J8(hN:X.N.Nodup)(hi:X.N[i]?=some x)(hx:Loc X.env.scope x)(he:PE X e te)(hs:swapsWith e (some (.Name x k_)) pos.line X.env=pure false)(hf:X.fn x=true\/X.env.scope.names.lookup x=some .local):
 PS X (.Assign [.Name x k_] e pos) (yp te (qr i)):=by
 intro pins s σ H D I h;refine wpAny_Assign_Name (thn (he pins s σ H _ I h) λv s1 zz=>exA zz λy H1 I1 r1 q1=>?_) hs;exact gX I1 hN hi hx r1 (λs2 I2=>⟨_,H1,I2,q1⟩) hf
def tPar(i j:Nat)(ta:TA):TS:=λD σ H=>ta σ H λvs H1=>∃v w,vs=[v,w]/\D.nx ((σ.set i (some v)).set j (some w)) H1
def IL{kt k2 pt2}(hc:X.calm=true)(hN:X.N.Nodup)(hi:X.N[i]?=some x)(hj:X.N[j]?=some y)(hij:i≠j)
 (hx:X.env.scope.names.lookup x=some .local) (hy:X.env.scope.names.lookup y=some .local) (ha:PA X [a,b] ta)
 (hw:swappedStores [.Tuple [.Name x px,.Name y py] kt pt] (.Tuple [a,b] k2 pt2) X.env=pure (some [x,y]))
 (hs:swapsWithSole [.Tuple [.Name x px,.Name y py] kt pt] (.Tuple [a,b] k2 pt2) pos.line X.env=pure false):
 PS X (.Assign [.Tuple [.Name x px,.Name y py] kt pt] (.Tuple [a,b] k2 pt2) pos) (tPar i j ta):=by
 intro pins s σ H D I h;rw[exec_Assign_arm];refine o_ (OU ?_);rw[hs];refine o_ (z_ ?_);rw[if_neg (by decide)];refine o_ (Tuple_ (thn (ha _ pins s σ H _ I h) λus s1 zz=>exA zz λvs H1 I1 r1 q1=>?_));obtain⟨v,w,e1,q1⟩:=q1;subst e1;obtain⟨u1,u2,rfl,rv,rw'⟩:∃u1 u2,us=[u1,u2]/\RelV v u1/\RelV w u2:=by
  cases r1 with
  |
   cons p q=>
   cases q with
   |cons p' q'=>cases q';exact⟨_,_,rfl,p,p'⟩
 refine N5 ?_ (by show 2<=sizeLine;decide);have I2:Inv X pins σ H1 { s1 with heap:=s1.heap.push { cls:=.type "tuple",data:=.seq [u1,u2].toArray } }:=I1.kept (t':=s1.toks) λb o e=>s_ _ e;rw[hw];refine o_ (z_ ?_);show wpAny (model X.prog X.w) X.A (do rule "assign.swapped-stores";let items <- unpackItems (.ref s1.heap.objs.size) 2 none;assignInOrder [λv=>bindName X.env y v,λv=>bindName X.env x v] items.reverse;pure Flow.next) _ _ _;refine o_ (wpAny_rule (o_ (unpackItems_tuple (items:=#[u1,u2]) (I.ok.hd hc) (IsTup.new s1.heap _) λh' hx'=>?_)));have I3:=I2.kept (h':=h') (t':=s1.toks) λb o e=>hx' b o (Nn (A_ e)) e;show wpAny _ _ (assignInOrder [λv=>bindName X.env y v,λv=>bindName X.env x v] [u2,u1] >>= λ_=>pure Flow.next) _ _ _;refine o_ (assignInOrder_cons (wpAny_bindName (gX I3 hN hj (.inl hy) rw' (λs2 I4=>?_) (.inr hy))));refine assignInOrder_cons (wpAny_bindName (gX I4 hN hi (.inl hx) rv (λs3 I5=>assignInOrder_nil (z_ ?_)) (.inr hx)));rw[List.set_comm _ _ (Ne.symm hij)] at I5;exact⟨_,H1,I5,q1⟩
def tAug(i:Nat)(te:TE)(ti:TIp):TS:=λD σ H=>∃x,σ[i]?=some (some x)/\te σ H λy H1=>ti x y H1 λz H2=>D.nx (σ.set i (some z)) H2
def GO(hN:X.N.Nodup)(hi:X.N[i]?=some x)(hx:Loc X.env.scope x)(he:PE X e te)(ho:PIp X op ti)(hf:X.fn x=true\/X.env.scope.names.lookup x=some .local):
 PS X (.AugAssign (.Name x k_) op e pos) (tAug i te ti):=by
 intro pins s σ H D I h;obtain⟨v,e1,h⟩:=h;obtain⟨m,hn,hl⟩:=I.loc;have vis:Vis X.env.scope x:=by rcases hx with k |k;exact .inl k;exact .inr (.inl k)
 obtain⟨u,r,l⟩:=hl i x v hi e1 vis;refine wpAny_AugAssign_Name ?_;have go:wpAny (model X.prog X.w) X.A (eval e X.env) (λw s₂=>wpAny (model X.prog X.w) X.A (inplaceOp op u w) (λr s₃=>wpAny (model X.prog X.w) X.A (storeName X.env x r) (λ_=>SP X pins D .next) X.xe s₃) X.xe s₂) X.xe s:=by refine thn (he pins s σ H _ I h) λw s1 zz=>exA zz λy H1 I1 r1 q1=>?_;refine thn (ho pins s1 σ H1 v y u w _ I1 r r1 q1) λz s2 zz=>exA zz λzv H2 I2 r2 q2=>?_;exact gX I2 hN hi hx r2 (λs3 I3=>⟨_,H2,I3,q2⟩) hf
 rcases l with ⟨hk,hm⟩ |⟨hk,c,hc,l_⟩
 .exact P5 I.ok.kind hk hn hm go
 .rcases hk with hk |hk
  .exact wpAny_loadName_cell I.ok.kind hk hc l_ go
  .rcases hx with k |k
   .have:X.env.scope.names.lookup x=some .free:=hk;rw[k] at this;cases this
   .have:X.env.scope.names.lookup x=some .free:=hk;rw[k] at this;cases this
def ipI(f:Int->Int->Int):TIp:=λx y H Q=>∃i j,x=.int i/\y=.int j/\Q (.int (f i j)) H
def J5:PIp X .Add (ipI λi j=>i+j):=by intro pins s σ H x y v u Q I r1 r2 h;obtain⟨i,j,e1,e2,q⟩:=h;subst e1;subst e2;obtain⟨t,rfl⟩:=r1;obtain⟨t',rfl⟩:=r2;exact iadd_int ⟨.int _,H,I.tok _,⟨_,rfl⟩,q⟩
def KG(c:TT)(tb:TS):TS:=λD σ H=>∃W:Nat->St->Hp->Prop,(∃m,W m σ H)/\∀m σ H,W m σ H->
 c σ H λb H1=>if b=true then ∃N:St->Hp->Prop,(∀σ' H',N σ' H'->∃m',m'<m/\W m' σ' H')/\tb { D with nx:=N,ct:=N,bk:=D.nx } σ H1 else D.nx σ H1
def CP(hp:PassesOwn (model X.prog X.w) X.A X.env X.xe)(hc:PT X c tc)(hb:PSs X body tb):PS X (.While c body [] pos) (KG tc tb):=by
 intro pins s σ H D I h;obtain⟨W,⟨m0,w0⟩,turn⟩:=h;refine wpAny_While (codeAny_whileLoop (λn s'=>∃σ' H',Inv X pins σ' H' s'/\W n σ' H') ?_ m0 ⟨σ,H,I,w0⟩);rintro n s1 ⟨σ1,H1,I1,w1⟩;refine OJ hp (thn (hc pins s1 σ1 H1 _ I1 (turn n σ1 H1 w1)) λb s2 ⟨H2,I2,q2⟩=>?_);cases b with
 |
  true=>
  obtain⟨N,hN,q2⟩:=q2;rw[if_pos rfl];refine OJ hp (thn (hb pins s2 σ1 H2 _ I2 q2) λf s3 q3=>?_);cases f with
  |next=>obtain⟨σ3,H3,I3,n3⟩:=q3;obtain⟨m',hm,w3⟩:=hN σ3 H3 n3;exact⟨m',hm,σ3,H3,I3,w3⟩
  |cont=>obtain⟨σ3,H3,I3,n3⟩:=q3;obtain⟨m',hm,w3⟩:=hN σ3 H3 n3;exact⟨m',hm,σ3,H3,I3,w3⟩
  |brk=>exact q3
  |ret v=>exact q3
 |false=>rw[if_neg x_];exact P4 ⟨σ1,H2,I2,q2⟩
end
structure It where
 go:Nat->Hp->Prop
 yld:Nat->Hp->V->Hp->Prop
 stop:Nat->Hp->Prop
def FpOk(X:Cx)(pins:Qe)(H:Hp)(b:Addr):Prop:=
 H b=none/\b≠X.env.locals/\b∉X.fs/\(b∈X.ex\/X.s₀.heap.objs.size<=b)/\(∀x c,X.env.cells.lookup x=some c->c≠b)/\∀p∈X.pn++pins,p.1≠b
def Inv.fpOk(I:Inv X pins σ H s)(hb:s.heap.objs.size<=b)(hn:H' b=none):FpOk X pins H' b:=by
 refine⟨hn,O6 (I_ I.lt hb),I.nofs hb,.inr (Nw I.sz hb),λx c e z=>?_,λp hp z=>?_⟩
 .obtain⟨v,q⟩:=I.cell x c e;exact absurd (I_ q.lt (by rw[z];exact hb)) (N3 _)
 .exact absurd (I_ (A_ (I.pin p hp).1) (by rw[z];exact hb)) (N3 _)
structure Turn(P:Program)(w:World)(K:W.Frag)(tg:Expr)(J:It)(fp:List Addr)(it:Addr)(tn:Nat->Heap->Prop):Prop where
 mem:it∈fp
 obj:∀i h,tn i h->∀b∈fp,∃o,h.get? b=some o/\∀v,o.data ≠ .cell v
 keep:∀i h h',tn i h->(∀b∈fp,∀o,h.get? b=some o->h'.get? b=some o)->tn i h'
 item:∀(X:Cx),X.prog=P->X.w=w->X.K=K->X.calm=true->∀(i:Nat) (pins:Qe) (s:Shared) (σ:St) (H:Hp) (E:Qf),Inv X pins σ H s->(∀b∈fp,FpOk X pins H b)->tn i s.heap->J.go i H->
  wpAny (model P w) X.A (pyNext (.ref it)) (λr s1=>∃u,r=some u/\
   wpAny (model P w) X.A (letOwnedTupleGo tg (.ref it) u) (λ_ s2=>∃x H',Inv X pins σ H' s2/\RelV x u/\J.yld i H x H'/\tn (i+1) s2.heap/\∀b∈fp,H' b=none) E s1) E s
 done:∀(X:Cx),X.prog=P->X.w=w->X.K=K->X.calm=true->∀(i:Nat) (pins:Qe) (s:Shared) (σ:St) (H:Hp) (E:Qf),Inv X pins σ H s->(∀b∈fp,FpOk X pins H b)->tn i s.heap->J.stop i H->
  wpAny (model P w) X.A (pyNext (.ref it)) (λr s1=>r=none/\Inv X pins σ H s1) E s
 self:∀(A:Around) (i:Nat) (s:Shared) (Q:Qf) (E:Qf),tn i s.heap->Q (.ref it) s->wpAny (model P w) A (pyIter (.ref it)) Q E s
abbrev TI:=St->Hp->(It->Hp->Prop)->Prop
def PIE(X:Cx)(pins:Qe)(σ:St)(tg:Expr)(R:It->Hp->Prop)(itv:Value)(s2:Shared):Prop:=
 ∃(it:Addr) (fp:List Addr) (tn:Nat->Heap->Prop) (J:It) (H':Hp),itv=.ref it/\Inv X pins σ H' s2/\Turn X.prog X.w X.K tg J fp it tn/\tn 0 s2.heap/\(∀b∈fp,FpOk X pins H' b)/\R J H'
def PI(X:Cx)(tg iter:Expr)(wi:TI):Prop:=
 ∀
  (pins:Qe) (s:Shared) (σ:St) (H:Hp) (R:It->Hp->Prop),Inv X pins σ H s->wi σ H R->
  wpAny (model X.prog X.w) X.A (eval iter X.env) (λv s1=>wpAny (model X.prog X.w) X.A (pyIter v) (PIE X pins σ tg R) X.xe s1) X.xe s
def xC(ho:s.heap.get? it=some o)(hc:o.cls=.type n)(hd:o.data=.fields vs)
 (hn:["enumerate", "zip", "dict_itemiterator", "dict_reverseitemiterator", "odict_iterator", "itertools.zip_longest", "itertools.pairwise"].contains n=false) (hQ:Q () s):wpAny M A (letOwnedTupleGo tg (.ref it) u) Q E s:=by
 unfold letOwnedTupleGo;cases tg
  <;> first
  |exact z_ hQ
  |(cases u <;> first
   |exact z_ hQ
   |(
    refine o_ (wpAny_load ho ?_);rw[hc,hd];show wpAny M A (if (["enumerate", "zip", "dict_itemiterator", "dict_reverseitemiterator", "odict_iterator", "itertools.zip_longest", "itertools.pairwise"].contains n&&vs[0]?==some (rawInt _))=true then _ else _) Q E s;rw[if_neg (by intro h;rw[hn,Bool.false_and] at h;cases h)];exact z_ hQ))
noncomputable def Itl (K:W.Frag) (a:Addr):It:=
 ⟨λi H=>∃xs x,SqL K H a xs/\xs[i]?=some x,λi H x H'=>H'=H/\∀xs,SqL K H a xs->xs[i]?=some x,λi H=>∃xs,SqL K H a xs/\xs.length<=i⟩
noncomputable def Itt (K:W.Frag) (a:Addr):It:=
 ⟨λi H=>∃xs x,SqT K H a xs/\xs[i]?=some x,λi H x H'=>H'=H/\∀xs,SqT K H a xs->xs[i]?=some x,λi H=>∃xs,SqT K H a xs/\xs.length<=i⟩
noncomputable def Itr (lo:Int) (n:Nat):It:=⟨λi _=>i<n,λi H x H'=>H'=H/\x=.int (lo+i),λi _=>n<=i⟩
def zD{P:Program}{w:World}{K:W.Frag}{tg:Expr}(a it:Addr):Turn P w K tg (Itl K a) [it] it (λi h=>h.IsListIter it a i) where
 mem:=by simp
 obj:=λi h st b hb=>by
  have e:b=it:=by simpa using hb
  subst e;obtain⟨o,e,c,d⟩:=st;exact⟨o,e,λv z=>by rw[d] at z;cases z⟩
 keep:=λi h h' st k=>st.at λo e=>k it (by simp) o e
 item:=by intro X hP hw hK hc i pins s σ H E I hf st hg;subst hP hw hK;obtain⟨xs,x,hq,hx⟩:=hg;obtain⟨its,rv,p,hz⟩:=I.list hq;obtain⟨u,hu,ru⟩:=rv.get hx;obtain⟨f0,f1,f2,f3,f4,f5⟩:=hf it (by simp);refine wpAny_pyNext_list_item st p.isList (x:=u) (by simpa using hu) λh' st' sb=>?_;have I1:Inv X pins σ H { s with heap:=h' }:=I.turned (t':=s.toks) (λb o hb e=>(sb.2 b hb).trans e) f0 f1 f3 f4 f5;obtain⟨o,e,c,d⟩:=id st';exact⟨u,rfl,xC (s:={ s with heap:=h' }) e c d (by decide) ⟨x,H,I1,ru,⟨rfl,λys hy=>by rw[I.list_inj hy hq];exact hx⟩,st',λb hb=>(hf b hb).1⟩⟩
 done:=by intro X hP hw hK hc i pins s σ H E I hf st hg;subst hP hw hK;obtain⟨xs,hq,hx⟩:=hg;obtain⟨its,rv,p,hz⟩:=I.list hq;obtain⟨f0,f1,f2,f3,f4,f5⟩:=hf it (by simp);have hl:=rv.length;exact wpAny_pyNext_list_end (I.ok.hd hc) st p.isList (by simp;omega) λh' eb=>⟨rfl,I.turned (t':=s.toks) (λb o hb e=>eb b o hb e) f0 f1 f3 f4 f5⟩
 self:=λ_ _ _ _ _ st h=>wpAny_pyIter_listiter st h
def yu{P:Program}{w:World}{K:W.Frag}{tg:Expr}(a it:Addr):Turn P w K tg (Itt K a) [it] it (λi h=>h.IsTupleIter it a i) where
 mem:=by simp
 obj:=λi h st b hb=>by
  have e:b=it:=by simpa using hb
  subst e;obtain⟨o,e,c,d⟩:=st;exact⟨o,e,λv z=>by rw[d] at z;cases z⟩
 keep:=λi h h' st k=>st.at λo e=>k it (by simp) o e
 item:=by intro X hP hw hK hc i pins s σ H E I hf st hg;subst hP hw hK;obtain⟨xs,x,hq,hx⟩:=hg;obtain⟨its,rv,p,hz⟩:=I.tuple hq;obtain⟨u,hu,ru⟩:=rv.get hx;obtain⟨f0,f1,f2,f3,f4,f5⟩:=hf it (by simp);refine wpAny_pyNext_tuple_item st (show s.heap.IsTuple a its.toArray from p) (x:=u) (by simpa using hu) λh' st' sb=>?_;have I1:Inv X pins σ H { s with heap:=h' }:=I.turned (t':=s.toks) (λb o hb e=>(sb.2 b hb).trans e) f0 f1 f3 f4 f5;obtain⟨o,e,c,d⟩:=id st';exact⟨u,rfl,xC (s:={ s with heap:=h' }) e c d (by decide) ⟨x,H,I1,ru,⟨rfl,λys hy=>by rw[I.tuple_inj hy hq];exact hx⟩,st',λb hb=>(hf b hb).1⟩⟩
 done:=by intro X hP hw hK hc i pins s σ H E I hf st hg;subst hP hw hK;obtain⟨xs,hq,hx⟩:=hg;obtain⟨its,rv,p,hz⟩:=I.tuple hq;obtain⟨f0,f1,f2,f3,f4,f5⟩:=hf it (by simp);have hl:=rv.length;exact wpAny_pyNext_tuple_end (I.ok.hd hc) st (show s.heap.IsTuple a its.toArray from p) (by simp;omega) λh' eb=>⟨rfl,I.turned (t':=s.toks) (λb o hb e=>eb b o hb e) f0 f1 f3 f4 f5⟩
 self:=λ_ _ _ _ _ st h=>wpAny_pyIter_tupleiter st h
def xg{P:Program}{w:World}{K:W.Frag}{tg:Expr}(it:Addr)(lo:Int)(n:Nat):Turn P w K tg (Itr lo n) [it] it (λi h=>IsRangeIter h it (lo+(i:Nat)*1) ((n:Int)-(i:Nat)) 1) where
 mem:=by simp
 obj
  := λi h st b hb=>by
  have e:b=it:=by simpa using hb
  subst e;exact⟨_,st,λv z=>by have z':Data.fields _=Data.cell v:=z;cases z'⟩
 keep:=λi h h' st k=>k it (by simp) _ st
 item:=by intro X hP hw hK hc i pins s σ H E I hf st hg;subst hP hw hK;obtain⟨f0,f1,f2,f3,f4,f5⟩:=hf it (by simp);have W:=Walks.range (prog:=X.prog) (w:=X.w) (I.ok.hd hc) it lo 1 n;refine W.item i s _ _ hg st λv h' tk hv st' kk=>?_;obtain⟨t,rfl⟩:=hv;have I1:Inv X pins σ H { s with heap:=h',toks:=tk }:=I.turned (λb o hb e=>kk b o (by simpa using hb) e) f0 f1 f3 f4 f5;refine⟨_,rfl,xC (s:={ s with heap:=h',toks:=tk }) (n:="range_iterator") st' rfl rfl (by decide) ⟨.int (lo+i),H,I1,⟨t,?_⟩,⟨rfl,rfl⟩,st',λb hb=>(hf b hb).1⟩⟩;rw[Int.mul_one]
 done:=by intro X hP hw hK hc i pins s σ H E I hf st hg;subst hP hw hK;obtain⟨f0,f1,f2,f3,f4,f5⟩:=hf it (by simp);exact wpAny_pyNext_range_end (I.ok.hd hc) st (by have:n<=i:=hg;omega) λh' eb=>⟨rfl,I.turned (t':=s.toks) (λb o hb e=>eb b o hb e) f0 f1 f3 f4 f5⟩
 self:=λ_ _ _ _ _ st h=>wpAny_pyIter_rangeiter st h
section
variable{X:Cx}{tg:Expr}
def uq{pins:Qe}{σ:St}{H:Hp}{s:Shared}{R:It->Hp->Prop}{E:Qf}{lo hi:Int}{t u v:Tok}{tk:Nat}(I:Inv X pins σ H s)(h1:-(2^62)<=lo)(h2:lo<2^62)(h3:-(2^62)<=hi)(h4:hi<2^62)
 (q:R (Itr lo (hi-lo).toNat) H):wpAny (model X.prog X.w) X.A (pyIter (.ref s.heap.objs.size)) (PIE X pins σ tg R) E { s with heap:=s.heap.push { cls:=.type "range",data:=.fields #[.int lo t,.int hi u,.int 1 v] },toks:=tk }:=by
 refine wpAny_pyIter_range (IsRange.new ..) (small_one h1 h2 h3 h4) ?_;have I1:Inv X pins σ H { s with heap:=s.heap.push { cls:=.type "range",data:=.fields #[.int lo t,.int hi u,.int 1 v] },toks:=tk }:=I.kept λb o e=>s_ _ e;refine⟨(s.heap.push { cls:=.type "range",data:=.fields #[.int lo t,.int hi u,.int 1 v] }).objs.size,[(s.heap.push { cls:=.type "range",data:=.fields #[.int lo t,.int hi u,.int 1 v] }).objs.size],_,_,H,rfl,
  I1.kept (t':=tk) λb o e=>s_ _ e,xg _ lo (hi-lo).toNat,?_,λb hb=>?_,q⟩
 .have e1:lo+((0:Nat):Int)*1=lo:=by simp
  have e2:(((hi-lo).toNat:Nat):Int)-((0:Nat):Int)=Builtin.Range.rangeSize lo hi 1:=by rw[Qb];split <;> omega
  show IsRangeIter _ _ (lo+((0:Nat):Int)*1) ((((hi-lo).toNat:Nat):Int)-((0:Nat):Int)) 1;rw[e1,e2];exact F_ _ rfl
 .have e:b=(s.heap.push { cls:=.type "range",data:=.fields #[.int lo t,.int hi u,.int 1 v] }).objs.size:=by simpa using hb
  subst e;exact I1.fpOk (u_ _) (I1.hok.fresh (u_ _))
def LY(ta:TA):TI:=λσ H R=>ta σ H λvs H1=>∃j:Int,vs=[.int j]/\-(2^62)<=j/\j<2^62/\R (Itr 0 j.toNat) H1
def MD(ta:TA):TI:=λσ H R=>ta σ H λvs H1=>∃i j:Int,vs=[.int i,.int j]/\(-(2^62)<=i/\i<2^62/\-(2^62)<=j/\j<2^62)/\R (Itr i (j-i).toNat) H1
def zU(hg:Gl X "range")(hm:X.mg "range"=none)(ha:PA X [a] ta)(hs:starEach [a] X.env=[(false,eval a X.env)]):PI X tg (.Call (.Name "range" p) [a] [] pos) (LY ta):=by
 intro pins s σ H R I h;refine Call_ (cR I hg hm boot_range (NH (thn (ha pos pins s σ H _ I h) λus s1 zz=>exA zz λvs H1 I1 r1 q1=>?_) hs rfl));obtain⟨j,e,q1,q2,q⟩:=q1;subst e;cases r1 with
 |cons r rr=>cases rr;obtain⟨t,rfl⟩:=r;exact call_range_1 (uq I1 (by omega) (by omega) q1 q2 (by simpa using q))
def zx(hg:Gl X "range")(hm:X.mg "range"=none)(ha:PA X [a,b] ta)(hs:starEach [a,b] X.env=[(false,eval a X.env),(false,eval b X.env)])(hs2:starEach [b] X.env=[(false,eval b X.env)]):
 PI X tg (.Call (.Name "range" p) [a,b] [] pos) (MD ta):=by
 intro pins s σ H R I h;refine Call_ (cR I hg hm boot_range (NH (thn (ha pos pins s σ H _ I h) λus s1 zz=>exA zz λvs H1 I1 r1 q1=>?_) (by rw[hs,hs2]) (by rw[hs2];rfl)));obtain⟨i,j,e,⟨q1,q2,q3,q4⟩,q⟩:=q1;subst e;cases r1 with
 |
  cons r rr=>
  cases rr with
  |cons r' rr=>cases rr;obtain⟨t,rfl⟩:=r;obtain⟨t',rfl⟩:=r';exact call_range_2 (uq I1 q1 q2 q3 q4 q)
def tFor(wi:TI)(g:TG)(tb:TS):TS:=λD σ H=>wi σ H λJ H1=>∃W:Nat->Nat->St->Hp->Prop,(∃m,W 0 m σ H1)/\∀i m σ H,W i m σ H->
 (J.stop i H/\D.nx σ H)\/(J.go i H/\∃N:St->Hp->Prop,(∀σ' H',N σ' H'->∃m',m'<m/\W (i+1) m' σ' H')/\∀x H',J.yld i H x H'->g x σ H' λσ2 H2=>tb { D with nx:=N,ct:=N,bk:=D.nx } σ2 H2)
noncomputable def kd (fp:List Addr) (h:Heap):List (Addr×Obj):=fp.filterMap λb=>(h.get? b).map λo=>(b,o)
def gM(hb:b∈fp)(e:h.get? b=some o):(b,o)∈kd fp h:=List.mem_filterMap.mpr ⟨b,hb,by rw[e];rfl⟩
def Aw(hp:p∈kd fp h):p.1∈fp/\h.get? p.1=some p.2:=by
 obtain⟨b,hb,e⟩:=List.mem_filterMap.mp hp;cases q:h.get? b with
 |none=>rw[q] at e;cases e
 |some o=>rw[q] at e;have e':(b,o)=p:=J_ e;subst e';exact⟨hb,q⟩
def Inv.pinned(I:Inv X pins σ H s)(hf:∀b∈fp,FpOk X pins H b)(ho:∀b∈fp,∃o,s.heap.get? b=some o/\∀v,o.data ≠ .cell v):Inv X (pins++kd fp s.heap) σ H s:=
 I.pins_of λp hp=>(OH.mp hp).elim (λz=>I.pin p (Ny _ z)) λz=>by obtain⟨hb,e⟩:=Aw z;obtain⟨f0,f1,f2,_⟩:=hf p.1 hb;obtain⟨o,e',d⟩:=ho p.1 hb;rw[e] at e';cases e';exact⟨e,f0,f1,f2,d⟩
def Inv.unpinned(I:Inv X (pins++pl) σ H s):Inv X pins σ H s:=I.pins_of λp hp=>I.pin p (Ny _ (PU _ hp))
def HC(hp:PassesOwn (model X.prog X.w) X.A X.env X.xe)(hc:X.calm=true)(hi:PI X tg iter wi)(hg:PG X tg g)(hb:PSs X body tb)
 (hs:∀x,foldedSetIterable iter X.env x=pure x):PS X (.For tg iter body [] pos) (tFor wi g tb):=by
 intro pins s σ H D I h;refine wpAny_For (thn (hi pins s σ H _ I h) λv s1 h1=>thn h1 λitv s2 h2=>?_) hs;obtain⟨it,fp,tn,J,H2,e,I2,T,st2,f2,W,⟨m0,w0⟩,turn⟩:=h2;subst e;have stat:∀{H':Hp},(∀b∈fp,H' b=none)->∀b∈fp,FpOk X pins H' b:=λhn b hb=>⟨hn b hb,(f2 b hb).2⟩;refine codeAny_forLoop_any (λn s'=>∃i σ' H',Inv X pins σ' H' s'/\tn i s'.heap/\(∀b∈fp,H' b=none)/\W i n σ' H') ?_ m0 ⟨0,σ,H2,I2,st2,λb hb=>(f2 b hb).1,w0⟩;rintro n s3 ⟨i,σ3,H3,I3,st3,fr3,w3⟩;rcases turn i n σ3 H3 w3 with ⟨stop,qn⟩ |⟨go,N,hN,step⟩
 .refine OJ hp (thn (T.done X rfl rfl rfl hc i pins s3 σ3 H3 X.xe I3 (stat fr3) st3 stop) λr s4 ⟨hr,I4⟩=>?_);subst hr;exact P4 ⟨σ3,H3,I4,qn⟩
 .refine OJ hp (thn (T.item X rfl rfl rfl hc i pins s3 σ3 H3 X.xe I3 (stat fr3) st3 go) λr s4 ⟨u,hr,h4⟩=>?_);subst hr;refine OJ hp (thn h4 λ_ s5 ⟨x,H5,I5,r5,y5,st5,fr5⟩=>?_);have I5':=I5.pinned (stat fr5) (T.obj _ _ st5);refine OJ hp (thn (hg _ s5 σ3 H5 x u _ I5' r5 (step x H5 y5)) λ_ s6 ⟨σ6,H6,I6,q6⟩=>?_);refine OJ hp (thn (hb _ s6 σ6 H6 _ I6 q6) λf s7 q7=>?_);have again:∀{σ7:St}{H7:Hp},Inv X (pins++kd fp s5.heap) σ7 H7 s7->N σ7 H7->∃m,m<n/\∃i σ' H',Inv X pins σ' H' s7/\tn i s7.heap/\(∀b∈fp,H' b=none)/\W i m σ' H':=λ{σ7 H7} I7 n7=>by obtain⟨m',hm,w7⟩:=hN σ7 H7 n7;refine⟨m',hm,i+1,σ7,H7,I7.unpinned,T.keep _ _ _ st5 λb hb o e=>(I7.pin (b,o) (Ny _ (Ny _ (gM hb e)))).1,λb hb=>?_,w7⟩;obtain⟨o,e,d⟩:=T.obj _ _ st5 b hb;exact (I7.pin (b,o) (Ny _ (Ny _ (gM hb e)))).2.1
  cases f with
  |next=>obtain⟨σ7,H7,I7,n7⟩:=q7;exact again I7 n7
  |cont=>obtain⟨σ7,H7,I7,n7⟩:=q7;exact again I7 n7
  |brk=>obtain⟨σ7,H7,I7,q7⟩:=q7;exact⟨σ7,H7,I7.unpinned,q7⟩
  |ret v=>obtain⟨x7,σ7,H7,I7,r7,q7⟩:=q7;exact⟨x7,σ7,H7,I7.unpinned,r7,q7⟩
end
abbrev R2:=V->V->Hp->VK->Prop
def OpR(X:Cx)(f:Value->Value->Sem Value)(r:R2):Prop:=
 ∀
  (pins:Qe) (s:Shared) (σ:St) (H:Hp) (x y:V) (v u:Value) (Q:VK),Inv X pins σ H s->RelV x v->RelV y u->r x y H Q->
  wpAny (model X.prog X.w) X.A (f v u) (EP X pins σ Q) X.xe s
def UnR(X:Cx)(f:Value->Sem Value)(r:V->Hp->VK->Prop):Prop:=
 ∀
  (pins:Qe) (s:Shared) (σ:St) (H:Hp) (x:V) (v:Value) (Q:VK),Inv X pins σ H s->RelV x v->r x H Q->
  wpAny (model X.prog X.w) X.A (f v) (EP X pins σ Q) X.xe s
def CallR(X:Cx)(f:Value)(r:List V->Hp->VK->Prop):Prop:=
 ∀
  (pins:Qe) (s:Shared) (σ:St) (H:Hp) (xs:List V) (us:List Value) (Q:VK),Inv X pins σ H s->Vals xs us->r xs H Q->
  wpAny (model X.prog X.w) X.A (call f us) (EP X pins σ Q) X.xe s
def TruR(X:Cx)(r:V->Hp->(Bool->Hp->Prop)->Prop):Prop:=
 ∀
  (pins:Qe) (s:Shared) (σ:St) (H:Hp) (x:V) (v:Value) (Q:Bool->Hp->Prop),Inv X pins σ H s->RelV x v->r x H Q->
  wpAny (model X.prog X.w) X.A (truthy v) (TP X pins σ Q) X.xe s
def tOp(r:R2)(ta tb:TE):TE:=λσ H Q=>ta σ H λx H1=>tb σ H1 λy H2=>r x y H2 Q
def tUn(r:V->Hp->VK->Prop)(ta:TE):TE:=λσ H Q=>ta σ H λx H1=>r x H1 Q
def rI(C:Int->Int->Prop)(g:Int->Int->V):R2:=λx y H Q=>∃i j,x=.int i/\y=.int j/\C i j/\Q (g i j) H
def rI0(g:Int->Int->V):R2:=λx y H Q=>∃i j,x=.int i/\y=.int j/\Q (g i j) H
def rU(g:Int->V):V->Hp->VK->Prop:=λx H Q=>∃i,x=.int i/\Q (g i) H
section
variable{X:Cx}{a b:Expr}{ta tb:TE}{pos:Pos}
def CF(ha:PE X a ta)(hb:PE X b tb){pins:Qe}{s:Shared}{σ:St}{H:Hp}{R:V->V->Hp->Prop}(I:Inv X pins σ H s)
 (h:ta σ H λx H1=>tb σ H1 λy H2=>R x y H2) {Q:Qf}{f:Value->Value->Sem Value}
 (hf:∀v u s2 x y H2,Inv X pins σ H2 s2->RelV x v->RelV y u->R x y H2->wpAny (model X.prog X.w) X.A (f v u) Q X.xe s2):
 wpAny (model X.prog X.w) X.A (eval a X.env) (λv s₁=>wpAny (model X.prog X.w) X.A (eval b X.env) (λu s₂=>wpAny (model X.prog X.w) X.A (f v u) Q X.xe s₂) X.xe s₁) X.xe s:=by
 refine thn (ha pins s σ H _ I h) λv s1 zz=>exA zz λx H1 I1 r1 q1=>?_;refine thn (hb pins s1 σ H1 _ I1 q1) λu s2 zz=>exA zz λy H2 I2 r2 q2=>?_;exact hf v u s2 x y H2 I2 r1 r2 q2
def Mx(ho:OpR X (binaryOp op) r)(ha:PE X a ta)(hb:PE X b tb):PE X (.BinOp a op b pos) (tOp r ta tb):=by intro pins s σ H Q I h;exact wpAny_BinOp (CF ha hb I h λv u s2 x y H2 I2 rx ry q=>ho pins s2 σ H2 x y v u Q I2 rx ry q)
def M1(ho:UnR X (unaryOp op) r)(ha:PE X a ta):PE X (.UnaryOp op a pos) (tUn r ta):=by intro pins s σ H Q I h;exact UnaryOp_ (thn (ha pins s σ H _ I h) λv s1 zz=>exA zz λx H1 I1 r1 q1=>ho pins s1 σ H1 x v Q I1 r1 q1)
def opI{f:Value->Value->Sem Value}{C:Int->Int->Prop}{g:Int->Int->Int}
 (rule:∀(i j:Int) (t u:Tok) (s:Shared) (Q:Qf) (E:Qf),C i j->Q (.int (g i j) s.toks) { s with toks:=s.toks+1 }->wpAny (model X.prog X.w) X.A (f (.int i t) (.int j u)) Q E s):
 OpR X f (rI C λi j=>.int (g i j)):=by
 intro pins s σ H x y v u Q I rx ry h;obtain⟨i,j,rfl,rfl,hc,q⟩:=h;obtain⟨t,rfl⟩:=rx;obtain⟨t',rfl⟩:=ry;exact rule i j t t' s _ _ hc ⟨.int (g i j),H,I.tok _,⟨_,rfl⟩,q⟩
def opI0{f:Value->Value->Sem Value}{g:Int->Int->Int}
 (rule:∀(i j:Int) (t u:Tok) (s:Shared) (Q:Qf) (E:Qf),Q (.int (g i j) s.toks) { s with toks:=s.toks+1 }->wpAny (model X.prog X.w) X.A (f (.int i t) (.int j u)) Q E s):
 OpR X f (rI0 λi j=>.int (g i j)):=by
 intro pins s σ H x y v u Q I rx ry h;obtain⟨i,j,rfl,rfl,q⟩:=h;obtain⟨t,rfl⟩:=rx;obtain⟨t',rfl⟩:=ry;exact rule i j t t' s _ _ ⟨.int (g i j),H,I.tok _,⟨_,rfl⟩,q⟩
def Ba{f:Value->Value->Sem Value}{g:Int->Int->Bool}
 (rule:∀(i j:Int) (t u:Tok) (s:Shared) (Q:Qf) (E:Qf),Q (.bool (g i j)) s->wpAny (model X.prog X.w) X.A (f (.int i t) (.int j u)) Q E s):
 OpR X f (rI0 λi j=>.bl (g i j)):=by
 intro pins s σ H x y v u Q I rx ry h;obtain⟨i,j,rfl,rfl,q⟩:=h;obtain⟨t,rfl⟩:=rx;obtain⟨t',rfl⟩:=ry;exact rule i j t t' s _ _ ⟨.bl (g i j),H,I,rfl,q⟩
def j6(i j:Int):Prop:=0<=j/\j<=1000000/\i.natAbs<2^64
def CMul(i j:Int):Prop:=(-(2^64)<i/\i<2^64)\/(-(2^64)<j/\j<2^64)
def CMul.ok(h:CMul i j):IntMulOk i j:=by
 rcases h with ⟨h1,h2⟩ |⟨h1,h2⟩
 .exact .of_left (intBits_le_64 h1 h2)
 .exact .of_right (intBits_le_64 h1 h2)
def Hx:OpR X (binaryOp .Add) (rI0 λi j=>.int (i+j)):=opI0 λ_ _ _ _ _ _ _ q=>add_int q
def Ij:OpR X (binaryOp .Sub) (rI0 λi j=>.int (i-j)):=opI0 λ_ _ _ _ _ _ _ q=>sub_int q
def Hm:OpR X (binaryOp .Mult) (rI CMul λi j=>.int (i*j)):=opI λ_ _ _ _ _ _ _ hc q=>mul_int q hc.ok
def Gv:OpR X (binaryOp .Mod) (rI (λ_ j=>j≠0) λi j=>.int (i.fmod j)):=opI λ_ _ _ _ _ _ _ hc q=>mod_int' hc q
def G8:OpR X (binaryOp .Pow) (rI j6 λi j=>.int (i^j.toNat)):=opI λ_ _ _ _ _ _ _ hc q=>pow_int_small hc.1 hc.2.1 hc.2.2 q
def Ke:OpR X (binaryOp .LShift) (rI j6 λi j=>.int (i*2^j.toNat)):=opI λ_ _ _ _ _ _ _ hc q=>lshift_int_small hc.1 hc.2.1 hc.2.2 q
def unI{f:Value->Sem Value}{g:Int->Int}
 (rule:∀(i:Int) (t:Tok) (s:Shared) (Q:Qf) (E:Qf),Q (.int (g i) s.toks) { s with toks:=s.toks+1 }->wpAny (model X.prog X.w) X.A (f (.int i t)) Q E s):
 UnR X f (rU λi=>.int (g i)):=by
 intro pins s σ H x v Q I rx h;obtain⟨i,rfl,q⟩:=h;obtain⟨t,rfl⟩:=rx;exact rule i t s _ _ ⟨.int (g i),H,I.tok _,⟨_,rfl⟩,q⟩
def Kb:UnR X (unaryOp .USub) (rU λi=>.int (-i)):=unI λ_ _ _ _ _ q=>neg_int q
end
section
variable{X:Cx}{a b c:Expr}{ta tb:TE}{pos:Pos}
def zk(I:Inv X pins σ H s)(q:Q (.bl k) H)(e:k=k'):EP X pins σ Q (.bool k') s:=by subst e;exact⟨.bl k,H,I,rfl,q⟩
def Ee:OpR X (compareOp .Lt) (rI0 λi j=>.bl (decide (i<j))):=Ba λ_ _ _ _ _ _ _ q=>lt_int q
def yj:OpR X (compareOp .Gt) (rI0 λi j=>.bl (decide (j<i))):=Ba λ_ _ _ _ _ _ _ q=>gt_int q
def Ec:OpR X (compareOp .GtE) (rI0 λi j=>.bl (decide (j<=i))):=Ba λ_ _ _ _ _ _ _ q=>ge_int q
def OpR.or(h:OpR X f r)(h':OpR X f r'):OpR X f (λx y H Q=>r x y H Q\/r' x y H Q):=by
 intro pins s σ H x y v u Q I rx ry q;rcases q with q |q
 .exact h pins s σ H x y v u Q I rx ry q
 .exact h' pins s σ H x y v u Q I rx ry q
def tM(b:Expr)(h:op ≠ .In:=by decide)(h2:op ≠ .NotIn:=by decide):behindInMarks op b=false:=by
 have e1:(op==CmpOp.In)=false:=by cases op <;> first |rfl |exact absurd rfl h
 have e2:(op==CmpOp.NotIn)=false:=by cases op <;> first |rfl |exact absurd rfl h2
 cases b <;> simp [behindInMarks,e1,e2]
def Gu(ho:OpR X (compareOp op) r)(ha:PE X a ta)(hb:PE X b tb)(hm:behindInMarks op b=false):PE X (.Compare a [op] [b] pos) (tOp r ta tb):=by intro pins s σ H Q I h;exact wpAny_Compare1 (CF ha hb I h λv u s2 x y H2 I2 rx ry q=>ho pins s2 σ H2 x y v u Q I2 rx ry q) hm
def LG(t:TE):TT:=λσ H Q=>t σ H λx H'=>∃k,x=.bl k/\Q k H'
def F6(ho:OpR X (compareOp op) r)(ha:PE X a ta)(hb:PE X b tb)(hm:behindInMarks op b=false):PT X (.Compare a [op] [b] pos) (LG (tOp r ta tb)):=by
 intro pins s σ H Q I h;refine wpAny_isTrue_Compare1 (thn (ha pins s σ H _ I h) λv s1 zz=>exA zz λx H1 I1 r1 q1=>thn (hb pins s1 σ H1 _ I1 q1) λu s2 zz=>exA zz λy H2 I2 r2 q2=>
  thn (ho pins s2 σ H2 x y v u _ I2 r1 r2 q2) λc s3 ⟨z,H3,I3,r3,k,e,q3⟩=>?_) hm
 subst e;cases r3;exact OO ⟨H3,I3,q3⟩
def BG(K:W.Frag)(x:V)(H:Hp)(k:Bool):Prop:=
 match x with
 |.non=>k=false
 |.bl b=>k=b
 |.int i=>k=(i != 0)
 |.str y=>y.length<=sizeLine/\k=((y.length:Int) != 0)
 |.byt y=>y.size<=sizeLine/\k=((y.size:Int) != 0)
 |.ref p=>(∃xs,SqL K H p xs/\k=!xs.isEmpty)\/(∃xs,SqT K H p xs/\k=!xs.isEmpty)\/∃kvs,H p=some (.dK kvs)/\k=!kvs.isEmpty
 |_=>False
def xn(r:KV kvs vs):(!vs.isEmpty)=!kvs.isEmpty:=by cases r <;> rfl
def mj(r:Vals xs its):(!its.toArray.isEmpty)=!xs.isEmpty:=by cases r <;> simp
def hX:(sizeLine:Nat)<2^63:=by rw[sizeLine_eq];decide
def GY:TruR X (λx H Q=>∃k,BG X.K x H k/\Q k H):=by
 intro pins s σ H x v Q I rx h;obtain⟨k,e,q⟩:=h;have hl:=hX;have hs:sizeLine=16777216:=sizeLine_eq;cases x with
 |non=>cases rx;have e':k=false:=e;subst e';exact truthy_none ⟨H,I,q⟩
 |bl b=>cases rx;have e':k=b:=e;subst e';exact OO ⟨H,I,q⟩
 |int i=>obtain⟨t,rfl⟩:=rx;have e':k=(i != 0):=e;subst e';exact PySem.P.truthy_int ⟨H,I,q⟩
 |str y=>obtain⟨t,rfl⟩:=rx;obtain⟨hy,e'⟩:y.length<=sizeLine/\k=((y.length:Int) != 0):=e;subst e';exact PySem.P.truthy_str (by omega) ⟨H,I.tok _,q⟩
 |byt y=>obtain⟨t,rfl⟩:=rx;obtain⟨hy,e'⟩:y.size<=sizeLine/\k=((y.size:Int) != 0):=e;subst e';exact W.truthy_bytes (by omega) ⟨H,I.tok _,q⟩
 |
  ref p=>
  cases rx;have e':(∃xs,SqL X.K H p xs/\k=!xs.isEmpty)\/(∃xs,SqT X.K H p xs/\k=!xs.isEmpty)\/∃kvs,H p=some (.dK kvs)/\k=!kvs.isEmpty:=e;rcases e' with ⟨xs,hx,e'⟩ |⟨xs,hx,e'⟩ |⟨kvs,hx,e'⟩
  .subst e';obtain⟨its,r,pl,hz⟩:=I.list hx;have a_:=r.length;exact wpAny_truthy_list pl.isList (by simp only[y_];omega) ⟨H,I.tok _,by rw[mj r];exact q⟩
  .subst e';obtain⟨its,r,pl,hz⟩:=I.tuple hx;have a_:=r.length;exact truthy_tuple pl (by simp only[y_];omega) ⟨H,I.tok _,by rw[mj r];exact q⟩
  .subst e';obtain⟨hz,hS,vs,r,m⟩:kvs.length<=sizeLine/\(p==sysModules)=false/\∃vs,KV kvs vs/\s.heap.DictOf (bY X.prog X.w) p vs:=I.hok p _ hx;have a_:kvs.length=vs.length:=P_ r;exact wpAny_truthy_dict hS m (by omega) ⟨H,I.tok _,by rw[xn r];exact q⟩
 |_=>exact (show False from e).elim
def Cc(ha:PE X a ta)(he:∀e_,isTrue a X.env e_=(do let v <- e_;standAt a.pos;holding [v] (truthy v))):
 PT X a (λσ H Q=>ta σ H λx H'=>∃k,BG X.K x H' k/\Q k H'):=by
 intro pins s σ H Q I h;exact isTrue_plain (thn (ha pins s σ H _ I h) λv s1 zz=>exA zz λx H1 I1 r1 q1=>GY pins s1 σ H1 x v Q I1 r1 q1) (he _)
def eO(r:Vals [x] us):∃u,us=[u]/\RelV x u:=by
 cases r with
 |cons r1 r2=>cases r2;exact⟨_,rfl,r1⟩
def qu(r:Vals [x,y] us):∃u w',us=[u,w']/\RelV x u/\RelV y w':=by
 cases r with
 |
  cons r1 r2=>
  cases r2 with
  |cons r3 r4=>cases r4;exact⟨_,_,rfl,r1,r3⟩
def Bu:CallR X (.builtin "abs") (λxs H Q=>∃i,xs=[.int i]/\Q (.int (if i<0 then -i else i)) H):=by intro pins s σ H xs us Q I r h;obtain⟨i,rfl,q⟩:=h;obtain⟨u,rfl,t,rfl⟩:=eO r;exact call_abs_int λu tk=>⟨.int (if i<0 then -i else i),H,I.tok _,⟨_,rfl⟩,q⟩
def zB(hc:X.calm=true):CallR X (.builtin "max") (λxs H Q=>∃i j,xs=[.int i,.int j]/\Q (.int (if j>i then j else i)) H):=by
 intro pins s σ H xs us Q I r h;obtain⟨i,j,rfl,q⟩:=h;obtain⟨u,w',rfl,⟨t,rfl⟩,⟨t',rfl⟩⟩:=qu r;refine max_two_ints (I.ok.hd hc) λh' tk k=>⟨_,H,I.kept k,?_,q⟩;by_cases hj:j>i
 .rw[if_pos hj,if_pos hj];exact⟨_,rfl⟩
 .rw[if_neg hj,if_neg hj];exact⟨_,rfl⟩
def AZ(hc:X.calm=true):CallR X (.builtin "min") (λxs H Q=>∃i j,xs=[.int i,.int j]/\Q (.int (if j<i then j else i)) H):=by
 intro pins s σ H xs us Q I r h;obtain⟨i,j,rfl,q⟩:=h;obtain⟨u,w',rfl,⟨t,rfl⟩,⟨t',rfl⟩⟩:=qu r;refine min_two_ints (I.ok.hd hc) λh' tk k=>⟨_,H,I.kept k,?_,q⟩;by_cases hj:j<i
 .rw[if_pos hj,if_pos hj];exact⟨_,rfl⟩
 .rw[if_neg hj,if_neg hj];exact⟨_,rfl⟩
def zM:CallR X (.type "int") (λxs H Q=>(∃i,xs=[.int i]/\Q (.int i) H)\/∃k,xs=[.bl k]/\Q (.int (if k then 1 else 0)) H):=by
 intro pins s σ H xs us Q I r h;rcases h with ⟨i,rfl,q⟩ |⟨k,rfl,q⟩
 .obtain⟨u,rfl,t,rfl⟩:=eO r;exact call_int_int ⟨.int i,H,I,⟨_,rfl⟩,q⟩
 .obtain⟨u,rfl,r1⟩:=eO r;cases r1;exact call_int_bool ⟨.int (if k then 1 else 0),H,I.tok _,⟨_,rfl⟩,q⟩
end
structure ObjM(h:Heap)(x dx C:Addr)(mA:Qd):Prop where
 obj:h.get? x=some (W.instObj C dx)
 ns:h.Ns1 dx mA
 ne:dx≠x
def Ai{h:Heap}{dx:Addr}{mA:Qd}(n:h.Ns1 dx mA):∃od,h.get? dx=some od/\∀name,W.lookIn name od=some (mA name):=by
 obtain⟨o,es,ep,ho,hd,hk,_,hm⟩:=n;refine⟨o,ho,λname=>?_⟩;have e:=hm name;unfold nsFind findBy at e;rw[<- Array.find?_toList] at e;unfold W.lookIn;rw[hd];dsimp only;split
 .rename_i y q;rw[q] at e;exact Nz some e
 .rename_i q;rw[q] at e;have a:es.toList.any (·.refKey)=false:=by rw[List.any_eq_false];intro y hy;obtain⟨z,t,hkey⟩:=hk y (Array.mem_toList_iff.mp hy);simp [DictEntry.refKey,hkey]
  have a':¬ es.toList.any (·.refKey)=true:=by rw[a];exact x_
  rw[if_neg a'];exact Nz some e
def ObjM.look(I:ObjM h x dx C mA):∃od,W.InstAt h x (W.instObj C dx) C (some od)/\∀name,W.lookIn name od=some (mA name):=
 let ⟨od,ho,hl⟩:=Ai I.ns
 ⟨od,⟨I.obj,rfl,rfl,ho⟩,hl⟩
def RelO.some_of(r:RelO (some v) o):∃u,o=some u/\RelV v u:=by
 cases o with
 |none=>exact (show False from r).elim
 |some u=>exact⟨u,rfl,r⟩
section
variable{P:Program}{w:World}{H:Hp}{h:Heap}{a C dx:Addr}{fs:List (Str×V)}
def Gi(hok:HOk P w H h)(e:H a=some (.ins C dx fs)):∃mA,ObjM h a dx C mA/\(∀f,RelO (fs.lookup f) (mA f))/\PySem.Within mA (fs.map (·.1))/\fs.length<=1000/\H dx=some (.own a):=by obtain⟨d,z,ne,ob,mA,n,r,q⟩:=(show ObjOk P w H h a (.ins C dx fs) from hok a _ e);exact⟨mA,⟨ob,n,ne⟩,r,q,z,d⟩
end
structure Cls(K:W.Frag)(C:Addr):Prop where
 pg:W.plainGet K C Str.empty=true
 hd:W.hasDictIn K C=true
 po:W.plainOver K C=true
 sa:W.findIn K (.ref C) "__setattr__"=some (some (.builtin "object.__setattr__"))
def Cls.get{K:W.Frag}{C:Addr}(c:Cls K C)(f:Str):W.plainGet K C f=true:=c.pg
section
variable{H:Hp}
inductive TyOf(K:W.Frag)(H:Hp):V->Value->Prop where
 |non:TyOf K H .non (.type "NoneType")
 |bl (x:Bool):TyOf K H (.bl x) (.type "bool")
 |int (i:Int):TyOf K H (.int i) (.type "int")
 |str (x:Str):TyOf K H (.str x) (.type "str")
 |flt (x:UInt64):TyOf K H (.flt x) (.type "float")
 |lst {a:Addr}{xs:List V} (e:H a=some (.lst xs)):TyOf K H (.ref a) (.type "list")
 |frz {a:Addr}{o:Obj}{xs:List V} (e:H a=some (.frz o (.lst xs))):TyOf K H (.ref a) (.type "list")
 |tup {a:Addr}{xs:List V} (e:H a=some (.tup xs)):TyOf K H (.ref a) (.type "tuple")
 |dK {a:Addr}{kvs:List (Key×V)} (e:H a=some (.dK kvs)):TyOf K H (.ref a) (.type "dict")
 |dT {a:Addr}{kvs:List (List Key×V)} (e:H a=some (.dT kvs)):TyOf K H (.ref a) (.type "dict")
 |ins {a C dx:Addr}{fs:List (Str×V)} (e:H a=some (.ins C dx fs)) (cl:Cls K C) (ha:W.findIn K (.ref C) "__class__"=some (some (.builtin "object.__class__")))
  (hn:W.specialIn K (.builtin "object.__class__") "__get__"=some (some (.builtin "getset_descriptor.__get__"))) (htk:W.takesIn K (.builtin "object.__class__")=some true)
  (hm:W.mroIn K C (.type "object")=some true):TyOf K H (.ref a) (.ref C)
end
structure Room(k:Nat)(A:Around):Prop where
 hd:A.handled=none
 dp:A.depth+3*k+5<recursionLimit
 un:A.units+16*k+200<cLine
def Room.mono(r:Room k A)(h:j<=k):Room j A:=⟨r.hd,by have:=r.dp;omega,by have:=r.un;omega⟩
def Room.deeper(r:Room (k+1) A)(env:Env):Room k (A.deeper env):=
 ⟨r.hd,by have:=r.dp;show A.depth+1+3*k+5<_;omega,by have:=r.un;show A.units+3+16*k+200<_;omega⟩
def Room.depth(r:Room k A):A.depth<recursionLimit:=by have:=r.dp;omega
def Room.units(r:Room k A):A.units+64<cLine:=by have:=r.un;omega
def tNil:TA:=λ_ H Q=>Q [] H
def LH(ta:TE)(tr:TA):TA:=λσ H Q=>ta σ H λx H1=>tr σ H1 λxs H2=>Q (x::xs) H2
section
variable{X:Cx}{e:Expr}{es:List Expr}{te:TE}{t:TA}{pos:Pos}
def JZ:PA X [] tNil:=λ_ _ _ _ H Q I h=>O2 ⟨[],H,I,.nil,h⟩
def Gw(ha:PE X e te)(hr:PA X es t)(hs:starEach (e::es) X.env=(false,eval e X.env)::starEach es X.env):PA X (e::es) (LH te t):=by intro pos pins s σ H Q I h;rw[hs];show wpAny _ _ (spliced ((false,eval e X.env)::backTo pos (starEach es X.env))) _ _ s;refine OD (thn (ha pins s σ H _ I h) λu s1 zz=>exA zz λx H1 I1 r1 q1=>?_);exact thn (hr pos pins s1 σ H1 _ I1 q1) λus s2 zz=>exA zz λxs H2 I2 r2 q2=>⟨x::xs,H2,I2,.cons r1 r2,q2⟩
def tTup(t:TA):TE:=λσ H Q=>t σ H λxs H1=>xs.length<=sizeLine/\∀p,H1 p=none->Q (.ref p) (upd H1 p (.tup xs))
def tLst(t:TA):TE:=λσ H Q=>t σ H λxs H1=>xs.length<=sizeLine/\∀p,H1 p=none->Q (.ref p) (upd H1 p (.lst xs))
def Kl{x1}(h:PA X es t):PE X (.Tuple es x1 pos) (tTup t):=by intro pins s σ H Q I hq;refine wpAny_Tuple_spliced (thn (h pos pins s σ H _ I hq) λus s1 ⟨xs,H1,I1,r,z,q⟩=>⟨by rw[<- r.length];exact z,?_⟩);have hf:H1 s1.heap.objs.size=none:=I1.hok.fresh (u_ _);refine⟨.ref s1.heap.objs.size,upd H1 s1.heap.objs.size (.tup xs),I1.laid (t':=s1.toks) (λb u e=>s_ _ e) (u_ _) ?_,rfl,q _ hf⟩;exact⟨z,us,r,⟨_,F_ _ rfl,rfl,_,rfl⟩⟩
def Kg(h:PA X es t):PE X (.List es pos) (tLst t):=by intro pins s σ H Q I hq;refine wpAny_List_spliced (thn (h pos pins s σ H _ I hq) λus s1 ⟨xs,H1,I1,r,z,q⟩=>⟨by rw[<- r.length];exact z,?_⟩);have hf:H1 s1.heap.objs.size=none:=I1.hok.fresh (u_ _);refine⟨.ref s1.heap.objs.size,upd H1 s1.heap.objs.size (.lst xs),I1.laid (t':=s1.toks) (λb u e=>s_ _ e) (u_ _) ?_,rfl,q _ hf⟩;exact⟨z,us,0,r,F_ _ rfl⟩
end
abbrev Sp:=List V->Hp->VK->XK->Prop
abbrev CXT:=List Env->Hp->Shared->XK->Value->Shared->Prop
structure Env0(P:Program)(w:World)(K:W.Frag)(mg:Qd)(base:Heap)(A:Around)(outer:List Env)(s:Shared)(H:Hp):Prop where
 frames:A.frames=some outer
 mod:Mod K mg base
 bs:∀b o,base.get? b=some o->s.heap.get? b=some o/\H b=none
 bsz:base.objs.size<=s.heap.objs.size
 funs:s.heap.FunFrames base outer
 frf:∀b∈frs outer,H b=none
 hok:HOk P w H s.heap
 bare:AllBare s.gens
def CE(outer:List Env)(P:Program)(w:World)(H:Hp)(s:Shared)(Q:VK)(u:Value)(s':Shared):Prop:=
 ∃v H',s'.os=s.os/\AllBare s'.gens/\Un (frs outer) [] H H' s.heap s'.heap/\HOk P w H' s'.heap/\RelV v u/\Q v H'
def CR(CX:CXT)(outer:List Env)(P:Program)(w:World)(H:Hp)(s:Shared)(Q:VK)(E:XK)(r:Result)(s':Shared):Prop:=
 match r with
 |.ok (.ret u)=>CE outer P w H s Q u s'
 |.ok _=>False
 |.error e=>CX outer H s E e s'
structure FnOk(P:Program)(w:World)(K:W.Frag)(mg:Qd)(base:Heap)(CX:CXT)(k:Nat)(f:Addr)(fd:FuncData)(ps:List Str)(sp:Sp):Prop where
 len:∀vs H Q E,sp vs H Q E->vs.length=ps.length
 run:∀(A:Around) (outer:List Env) (s:Shared) (H:Hp) (args:Args) (us:List Value) (vs:List V) (Q:VK) (E:XK),Room k A->Env0 P w K mg base A outer s H->BindsTo s fd args (ps.zip us)->Vals vs us->sp vs H Q E->
  codeAny (model P w) A (.call (.ref f) args) (CR CX outer P w H s Q E) s
def FnOk.imp{P:Program}{w:World}{K:W.Frag}{mg:Qd}{base:Heap}{CX:CXT}{k:Nat}{f:Addr}{fd:FuncData}{ps:List Str}{sp sp':Sp}(F:FnOk P w K mg base CX k f fd ps sp)
 (h:∀vs H Q E,sp' vs H Q E->sp vs H Q E):FnOk P w K mg base CX k f fd ps sp':=
 ⟨λvs H Q E q=>F.len vs H Q E (h _ _ _ _ q),λA outer s H args us vs Q E hr he hb hv hs=>F.run A outer s H args us vs Q E hr he hb hv (h _ _ _ _ hs)⟩
section
variable{X:Cx}{pins:Qe}{σ:St}{H:Hp}{s s':Shared}
def Inv.env0(I:Inv X pins σ H s):Env0 X.prog X.w X.K X.mg X.base X.A X.stack s H:=
 ⟨I.ok.frames,I.ok.mod,I.bs,Nw I.ok.bsz I.sz,I.stack,I.stkFree,I.hok,I.bare⟩
def Inv.after(I:Inv X pins σ H s)(h:CE X.stack X.prog X.w H s Q u s'):EP X pins σ Q u s':=by obtain⟨v,H',os,bare,un,hok,r,q⟩:=h;obtain⟨hh,g,d,t,os'⟩:=s';obtain rfl:os'=s.os:=os;exact⟨v,H',I.call (h':=hh) (g':=g) (d':=d) (t':=t) (ch:=[]) un hok bare (λb z=>absurd z (by simp)),r,q⟩
end
def Binds(K:W.Frag)(fd:FuncData)(ps:List Str)(ds:List Value):Prop:=
 ∀(s:Shared) (us:List Value),K.In s.heap->(us++ds).length=ps.length->BindsTo s fd ⟨us,[]⟩ (ps.zip (us++ds))
def Binds.all{K:W.Frag}{fd:FuncData}{ps:List Str}(h:∀us:List Value,us.length=ps.length->bindArgs fd ⟨us,[]⟩=pure (ps.zip us)):Binds K fd ps []:=λs us _ hl=>by rw[NJ] at hl ⊢;exact .of_eq (h us hl)
def tN(CX:CXT)(X:Cx)(E:XK):Prop:=∀(pins:Qe) (σ:St) (H:Hp) (s:Shared) (e:Value) (s':Shared),Inv X pins σ H s->CX X.stack H s E e s'->X.xe e s'
structure FnScope(N P:List Str)(sc:Scope):Prop where
 kind:sc.kind=.function
 co:sc.isCoroutine=false
 gen:sc.isGenerator=false
 nd:N.Nodup
 pre:N.take P.length=P
 par:∀x∈P,sc.names.lookup x=some .local\/sc.names.lookup x=some .cell
 nofree:∀y∈sc.names,y.2 ≠ .free
theorem pD{kindOf:Str->Option NameKind}{x:Str}:∀{binds:List (Str×Value)}{m:Qd},(∀v,(x,v)∉binds)->bindL kindOf binds m x=m x
 | [],_,_=>rfl
 |
  (n,v)::r,m,h=>by
  unfold bindL;rw[pD λw hw=>h w (q_ _ hw)];split
  .have:x≠n:=by rintro rfl;exact h v r_
   simp [this]
  .rfl
theorem pE{kindOf:Str->Option NameKind}{x:Str}:∀{binds:List (Str×Value)}{m:Qd},(∀v,(x,v)∉binds)->bindC kindOf binds m x=m x
 | [],_,_=>rfl
 |
  (n,v)::r,m,h=>by
  unfold bindC;rw[pE λw hw=>h w (q_ _ hw)];split
  .rfl
  .have:x≠n:=by rintro rfl;exact h v r_
   simp [this]
theorem pb{kindOf:Str->Option NameKind}{x:Str}{v:Value}:∀{P:List Str}{vs:List Value}{i:Nat}{m:Qd},P.Nodup->P[i]?=some x->vs[i]?=some v->kindOf x=some .local->
 bindL kindOf (P.zip vs) m x=some v
 | [],_,_,_,_,h,_,_=>by simp at h
 |_::_,[],_,_,_,_,h,_=>by simp at h
 |
  p::P,w::vs,0,m,nd,h1,h2,hk=>by
  simp at h1 h2;subst h1;subst h2;show bindL kindOf ((p,w)::P.zip vs) m p=_;unfold bindL;rw[pD λv hv=>(OX.mp nd).1 (Pf hv).1,if_pos hk];simp
 |
  p::P,w::vs,i+1,m,nd,h1,h2,hk=>by
  show bindL kindOf ((p,w)::P.zip vs) m x=_;unfold bindL;exact pb (i:=i) (OX.mp nd).2 (by simpa using h1) (by simpa using h2) hk
theorem pq{kindOf:Str->Option NameKind}{x:Str}{v:Value}:∀{P:List Str}{vs:List Value}{i:Nat}{m:Qd},P.Nodup->P[i]?=some x->vs[i]?=some v->kindOf x≠some .local->
 bindC kindOf (P.zip vs) m x=some v
 | [],_,_,_,_,h,_,_=>by simp at h
 |_::_,[],_,_,_,_,h,_=>by simp at h
 |
  p::P,w::vs,0,m,nd,h1,h2,hk=>by
  simp at h1 h2;subst h1;subst h2;show bindC kindOf ((p,w)::P.zip vs) m p=_;unfold bindC;rw[pE λv hv=>(OX.mp nd).1 (Pf hv).1,if_neg hk];simp
 |
  p::P,w::vs,i+1,m,nd,h1,h2,hk=>by
  show bindC kindOf ((p,w)::P.zip vs) m x=_;unfold bindC;exact pq (i:=i) (OX.mp nd).2 (by simpa using h1) (by simpa using h2) hk
noncomputable def gv (N:List Str) (vs:List V):St:=vs.map some++List.replicate (N.length-vs.length) none
noncomputable def eR (CX:CXT) (P:Program) (w:World) (K:W.Frag) (mg:Qd) (base:Heap) (N:List Str) (qual:Str) (scope:Scope) (f:Addr) (cd:Value) (A:Around) (outer:List Env) (s:Shared) (H:Hp) (E:XK):Cx where
 prog:=P
 w:=w
 K:=K
 mg:=mg
 base:=base
 A:=A.deeper (envOfC qual scope s.heap.objs.size f cd)
 N:=N
 s₀:=s
 H₀:=H
 env:=envOfC qual scope s.heap.objs.size f cd
 outer:=outer
 stack:=envOfC qual scope s.heap.objs.size f cd::outer
 ex:=[]
 calm:=true
 fn:=λ_=>true
 pn:=[]
 xe:=λe s'=>wpAny (model P w) (A.deeper (envOfC qual scope s.heap.objs.size f cd)) (leaving (envOfC qual scope s.heap.objs.size f cd) e) (λ_ s''=>CX outer H s E e s'') (λe' s''=>CX outer H s E e' s'') s'
def tu{sc:Scope}{n:Nat}{x:Str}(h:sc.names.lookup x=some .cell):∃c,(cellsFrom n sc.names []).lookup x=some c:=by have q:=W.cellsFrom_some sc.names n [] (.inl h);exact Ou.mp q
def Av{CX:CXT}{P:Program}{w:World}{K:W.Frag}{mg:Qd}{base:Heap}{N ps:List Str}{qual:Str}{scope:Scope}{f:Addr}{cd:Value}{A:Around}{outer:List Env}{s s1:Shared}{H:Hp}{E:XK}{us:List Value}{vs:List V}
 (S:FnScope N ps scope) (hd:A.handled=none) (e0:Env0 P w K mg base A outer s H) (hl:vs.length=ps.length) (r:Vals vs us)
 (x:InCallC s s.heap.objs.size (bindL (envOfC qual scope s.heap.objs.size f cd).kindOf (ps.zip us) λ_=>none) (cellsFrom (s.heap.objs.size+1) scope.names []) (bindC (envOfC qual scope s.heap.objs.size f cd).kindOf (ps.zip us) λ_=>none) s1):
 Inv (eR CX P w K mg base N qual scope f cd A outer s H E) [] (gv N vs) H s1:=by
 have hpl:ps.length<=N.length:=by have:=Nz List.length S.pre;rw[NV] at this;omega
 obtain⟨h1,tk,rfl,hk⟩:=x.done;have noA:∀b:Addr,b∉(eR CX P w K mg base N qual scope f cd A outer s H E).ex:=λb z=>absurd (show b∈([]:List Addr) from z) (by simp);refine⟨⟨e0.mod,S.kind,rfl,rfl,u_ _,λy z c h1 h2=>?_,λy hy=>?_,λy c _ h=>?_,λ_=>hd,Around.frames_deeper e0.frames,.inr ⟨rfl,rfl⟩,λb z=>absurd z (noA b),e0.bs,e0.bsz,λb _ _=>noA b,λb z=>absurd z (noA b),e0.funs,e0.frf⟩,
  rfl,e0.bare,Un.kept hk,⟨_,x.toInCall.ns,λi y v h1 h2 h3=>?_⟩,λy c h=>⟨_,x.cell y c h⟩,e0.hok.fresh (u_ _),λy c h=>?_,λp hp=>absurd (show p∈([]:Qe) from hp) (by simp),e0.hok.kept hk,?_⟩
 .exact name_of_addr x.apart (Od h1) (Od h2)
 .have hy:scope.names.lookup y=some .cell\/scope.names.lookup y=some .free:=hy;rcases hy with hy |hy
  .exact tu hy
  .exact absurd rfl (S.nofree _ (Od hy))
 .exact O5 (x.above y c (Od h))
 .have hi:i<vs.length:=by
   unfold gv at h2;by_cases hi:i<vs.length
   .exact hi
   .rw[OM (by simpa using hi)] at h2;rw[N_] at h2;split at h2 <;> cases h2
  have ha:vs[i]?=some v:=by
   unfold gv at h2;rw[NL (by simpa using hi),Nq] at h2;cases e:vs[i]? with
   |none=>rw[e] at h2;cases h2
   |some a=>rw[e] at h2;cases h2;rfl
  obtain⟨u,hu,rv⟩:=r.get ha;have hp:ps[i]?=some y:=by rw[<- S.pre,List.getElem?_take_of_lt (by omega)];exact h1
  have ndP:ps.Nodup:=by rw[<- S.pre];exact S.nd.sublist (List.take_sublist _ _)
  refine⟨u,rv,?_⟩;rcases S.par y (O8 hp) with k |k
  .exact .inl ⟨k,pb ndP hp hu k⟩
  .obtain⟨c,e⟩:=tu (n:=s.heap.objs.size+1) k;refine .inr ⟨.inl k,c,e,?_⟩;have q:=x.cell y c e;rw[pq ndP hp hu (by show scope.names.lookup y≠_;rw[k];decide)] at q;exact q
 .exact e0.hok.fresh (O5 (x.above y c (Od h)))
 .unfold gv;show _=N.length;rw[K_,p_,OG];omega
def DU{CX:CXT}{P:Program}{w:World}{K:W.Frag}{mg:Qd}{base:Heap}{k:Nat}{f:Addr}{name qual:Str}{params:Arguments}{body:List Stmt}{scope:Scope}{dV kV doc pm cdv ct oc:Value}{an od:Option Addr}
 {osl:Array (Option Value)}{N ps:List Str}{sp:Sp} (lk:K.lookup f=some ⟨oc,od,.func (W.fnOf name qual params body scope dV kV doc pm an cdv ct),osl⟩) (n_:W.codeIn K cdv qual=true) (S:FnScope N ps scope)
 (len:∀vs H Q E,sp vs H Q E->vs.length=ps.length)
 (j_:∀(A:Around) (outer:List Env) (s:Shared) (H:Hp) (vs:List V) (Q:VK) (E:XK),Room k (A.deeper (envOfC qual scope s.heap.objs.size f cdv))->sp vs H Q E->
  ∃t,PSs (eR CX P w K mg base N qual scope f cdv A outer s H E) body t/\t { nx:=λ_ H'=>Q .non H',rt:=Q } (gv N vs) H):
 FnOk P w K mg base CX (k+1) f (W.fnOf name qual params body scope dV kV doc pm an cdv ct) ps sp:=by
 refine⟨len,λA outer s H args us vs Q E hr e0 hb r hsp=>?_⟩;have hl:=len _ _ _ _ hsp;have KX:K.In s.heap:=e0.mod.kin.keeps λb o e=>(e0.bs b o e).1;have lim:s.heap.NoLimit:=e0.mod.nolimit.keeps λb o e=>(e0.bs b o e).1;have hkind:∀y∈ps.zip us,scope.names.lookup y.1=some .local\/(scope.names.lookup y.1=some .cell/\((cellsFrom (s.heap.objs.size+1) scope.names []).lookup y.1).isSome=true):=λ⟨n,v⟩ hy=>by
  rcases S.par n (Pf hy).1 with q |q
  .exact .inl q
  .exact .inr ⟨q,W.cellsFrom_some _ _ _ (.inl q)⟩
 refine codeAny_call_function hr.depth (KX _ _ lk) rfl S.co S.gen rfl (W.codeRec_of KX n_) (hb _ _ _ _ ?_);refine wpAny_newFunctionEnv_cells S.kind hkind λenv he s1 x=>?_;subst he;refine⟨lim.keeps x.toInCall.keep,codeAny_func ?_⟩;obtain⟨t,ht,hq⟩:=j_ A outer s H vs Q E (hr.deeper _) hsp;have I:Inv (eR CX P w K mg base N qual scope f cdv A outer s H E) [] (gv N vs) H s1:=Av S hr.hd e0 hl r x;refine NF (ht [] s1 (gv N vs) H _ I hq) (λfl s' hs=>?_) λe s' hs=>hs;have d_:∀{σ':St}{H':Hp}{v:V}{u:Value},Inv (eR CX P w K mg base N qual scope f cdv A outer s H E) [] σ' H' s'->RelV v u->Q v H'->CE outer P w H s Q u s':=
  λ{σ' H' v u} J rv q=>⟨v,H',J.os,J.bare,J.base,J.hok,rv,q⟩
 cases fl with
 |ret u=>obtain⟨v,σ',H',J,rv,q⟩:=hs;exact d_ J rv q
 |next=>obtain⟨σ',H',J,q⟩:=hs;exact d_ (v:=V.non) (u:=Value.none) J rfl q
 |brk=>obtain⟨_,_,_,q⟩:=hs;exact False.elim q
 |cont=>obtain⟨_,_,_,q⟩:=hs;exact False.elim q
section
variable{X:Cx}{x:Str}{p pos:Pos}{e:Expr}{es:List Expr}{t:TA}{id T:String}{r:List V->Hp->VK->Prop}
def tCB(r:List V->Hp->VK->Prop)(t:TA):TE:=λσ H Q=>t σ H λvs H1=>r vs H1 Q
def DF(hc:CallR X (.builtin id) r)(hg:Gl X x)(hm:X.mg x=none)(hv:bootBuiltins x=some (.builtin id))(ha:PA X (e::es) t)(hn:x ≠ "__name__")(hdb:(x==("__debug__" : Str))=false)
 (he:starEach (e::es) X.env=(false,eval e X.env)::starEach es X.env) (hpl:(backTo pos (starEach es X.env)).any (·.1)=false):PE X (.Call (.Name x p) (e::es) [] pos) (tCB r t):=by
 intro pins s σ H Q I h;refine NN (cR I hg hm hv ?_ hn hdb);exact PyProof.Rows.callWith_builtin1 (thn (ha pos pins s σ H _ I h) λus s1 zz=>exA zz λvs H1 I1 r1 q1=>hc pins s1 σ H1 vs us Q I1 r1 q1) he hpl
def zb(hc:CallR X (.type T) r)(hg:Gl X x)(hm:X.mg x=none)(hv:bootBuiltins x=some (.type T))(ha:PA X (e::es) t)(hn:x ≠ "__name__")(hdb:(x==("__debug__" : Str))=false)
 (he:starEach (e::es) X.env=(false,eval e X.env)::starEach es X.env) (hpl:(backTo pos (starEach es X.env)).any (·.1)=false):PE X (.Call (.Name x p) (e::es) [] pos) (tCB r t):=by
 intro pins s σ H Q I h;refine NN (cR I hg hm hv ?_ hn hdb);exact NH (thn (ha pos pins s σ H _ I h) λus s1 zz=>exA zz λvs H1 I1 r1 q1=>hc pins s1 σ H1 vs us Q I1 r1 q1) he hpl
def xB(hc:CallR X (.type T) r)(hg:Gl X x)(hm:X.mg x=none)(hv:bootBuiltins x=some (.type T))(hn:x ≠ "__name__")(hdb:(x==("__debug__" : Str))=false):
 PE X (.Call (.Name x p) [] [] pos) (tCB r tNil):=by
 intro pins s σ H Q I h;refine NN (cR I hg hm hv ?_ hn hdb);exact PyProof.Rows.callWith_type0 (hc pins s σ H [] [] Q I .nil h)
end
end L2
namespace HT
open PySem PyProof.Rows
section
variable{prog:Program}{w:World}{A:Around}{E:Qf}{s:Shared}
def cat_tup(ht:IsTup s.heap t vs.toArray)(hb:IsTup s.heap b ws.toArray)(hv:vs≠[])
 (h1:ws=[]->Q (.ref t) s) (h2:ws≠[]->Q (.ref s.heap.objs.size) { s with heap:=s.heap.push { cls:=.type "tuple",data:=.seq (vs++ws).toArray } })
 (hsz:vs.length+ws.length<=sizeLine):wpAny (model prog w) A (binaryOp .Add (.ref t) (.ref b)) Q E s:=by
 obtain⟨⟨cls,dd,data,sl⟩,ho,hc,n,hd⟩:=id ht;obtain⟨⟨cls2,dd2,data2,sl2⟩,ho2,hc2,n2,hd2⟩:=id hb;simp only at hc hd hc2 hd2;subst hc hd hc2 hd2;have e:vs.toArray++ws.toArray=(vs++ws).toArray:=by simp
 by_cases hw:ws=[]
 .exact concat_meets ⟨_,ho,rfl⟩ ⟨_,ho2,rfl⟩ noFill_tuple_add seq_tuple_add Pu Pn (Pl _ _)
   (tuple_addW1 t b vs.toArray ws.toArray n n2 dd dd2 sl sl2 (by simpa using hv) (by simp [hw])) ⟨ho,ho2,h1 hw⟩
 .refine concat_meets ⟨_,ho,rfl⟩ ⟨_,ho2,rfl⟩ noFill_tuple_add seq_tuple_add Pu Pn (Pl _ _)
   (tuple_addW2 t b vs.toArray ws.toArray n n2 dd dd2 sl sl2 (by simpa using hv) (by simpa using hw) (by rw[y_,y_];exact hsz)) ⟨ho,ho2,?_⟩
  rw[e];exact h2 hw
noncomputable def sIx (n d:Nat):Option Int->Nat
 |none=>d
 |some v=>if v<0 then (v+(n:Int)).toNat else min v.toNat n
def sIx_none(n d:Nat):sIx n d none=d:=rfl
def sIx_nat(n d k:Nat):sIx n d (some (k:Int))=min k n:=by show (if (k:Int)<0 then ((k:Int)+(n:Int)).toNat else min (k:Int).toNat n)=min k n;rw[if_neg (by omega),NT]
def HA(n d:Nat)(hd:d<=n)(o:Option Int):sIx n d o<=n:=by
 cases o with
 |none=>exact hd
 |
  some v=>
  show (if v<0 then (v+(n:Int)).toNat else min v.toNat n)<=n;by_cases hv:v<0
  .rw[if_pos hv];omega
  .rw[if_neg hv];exact Nat.min_le_right _ _
def wm(v:Int)(n d:Nat):(if v<0 then max (v+(n:Int)) 0 else min v (n:Int))=((sIx n d (some v):Nat):Int):=by
 show (if v<0 then max (v+(n:Int)) 0 else min v (n:Int))=(((if v<0 then (v+(n:Int)).toNat else min v.toNat n):Nat):Int);by_cases hv:v<0
 .simp only[if_pos hv];omega
 .simp only[if_neg hv];omega
def xA(lo hi:Option Int)(n:Nat):Builtin.Slice.sliceAdjust lo hi 1 (n:Int)=(((sIx n 0 lo:Nat):Int),((sIx n n hi:Nat):Int)):=by
 have h1:¬ ((1:Int)<0):=by omega
 unfold Builtin.Slice.sliceAdjust;simp only[h1,PH];refine Prod.ext ?_ ?_
 .cases lo with
  |none=>rfl
  |some v=>exact wm v n 0
 .cases hi with
  |none=>rfl
  |some v=>exact wm v n n
def xm(i j:Nat):Builtin.Slice.slicePlaces (i:Int) (j:Int) 1=j-i:=by
 unfold Builtin.Slice.slicePlaces;have h1:(1:Int)>0:=by omega
 simp only[h1,O7,Int.ediv_one];split <;> omega
def nE(p:IsPart v o)(h:Q o s):wpAny (model prog w) A (Builtin.Slice.slicePartIndex v) Q E s:=by
 cases p with
 |none=>exact slicePart_none h
 |int i t=>exact slicePart_int h
def lC{sl:Addr}{vl vu:Value}{lo hi:Option Int}{n:Nat}{Q:Int×Int×Nat->Shared->Prop}(hs:s.heap.IsSliceOf sl vl vu .none)(pl:IsPart vl lo)(pu:IsPart vu hi)
 (h:Q (((sIx n 0 lo:Nat):Int),1,sIx n n hi-sIx n 0 lo) s):wpAny (model prog w) A (Builtin.Slice.sliceApplied (.ref sl) (pure (n:Int))) Q E s:=by
 obtain⟨os,hos,hcs,hds⟩:=id hs;unfold Builtin.Slice.sliceApplied Builtin.Slice.sliceFields;refine o_ (o_ (NZ hos hds (x:=vl) rfl (o_ (NZ hos hds (x:=vu) rfl (o_ (NZ hos hds (x:=.none) rfl (z_ ?_)))))));refine o_ (slicePart_none ?_);show wpAny _ _ (if ((1:Int)==0)=true then _ else _) _ _ s;rw[if_neg (by decide)];refine o_ (nE pl (o_ (nE pu (o_ (z_ ?_)))));show wpAny _ _ (match Builtin.Slice.sliceAdjust lo hi 1 (n:Int) with |(lo,hi)=>pure (lo,(1:Int),Builtin.Slice.slicePlaces lo hi 1)) _ _ s;rw[xA lo hi n];show wpAny _ _ (pure (((sIx n 0 lo:Nat):Int),(1:Int),Builtin.Slice.slicePlaces ((sIx n 0 lo:Nat):Int) ((sIx n n hi:Nat):Int) 1)) _ _ s;rw[xm];exact z_ h
def Dn(xs:Array Value)(i k:Nat):((List.range k).filterMap λ(m:Nat)=>xs[((i:Int)+(m:Int)*1).toNat]?).toArray=((xs.toList.drop i).take k).toArray:=by
 have e:(λ(m:Nat)=>xs[((i:Int)+(m:Int)*1).toNat]?)=λm=>xs[i+m]?:=by
  funext m;have:((i:Int)+(m:Int)*1).toNat=i+m:=by omega
  rw[this]
 rw[e]
 have:=pick_run xs i k
 rw[List.filterMap_map] at this;have e2:((λx=>xs[x]?) ∘ λx=>i+x)=λm=>xs[i+m]?:=rfl;rw[e2] at this;rw[this]
def getItem_tuple_cut{t sl:Addr}{items:Array Value}{vl vu:Value}{lo hi:Option Int}{Q:Qf}(ht:IsTup s.heap t items)(hs:s.heap.IsSliceOf sl vl vu .none)(pl:IsPart vl lo)(pu:IsPart vu hi)
 (hw:¬ (sIx items.size 0 lo=0/\sIx items.size items.size hi=items.size))
 (h:Q (.ref s.heap.objs.size) { s with heap:=s.heap.push { cls:=.type "tuple",data:=.seq ((items.toList.drop (sIx items.size 0 lo)).take (sIx items.size items.size hi-sIx items.size 0 lo)).toArray } })
 (hsz:items.size<=sizeLine):wpAny (model prog w) A (getItem (.ref t) (.ref sl)) Q E s:=by
 have htake:sizeOk (.seq ((items.toList.drop (sIx items.size 0 lo)).take (sIx items.size items.size hi-sIx items.size 0 lo)).toArray):=by show ((items.toList.drop (sIx items.size 0 lo)).take (sIx items.size items.size hi-sIx items.size 0 lo)).toArray.size<=sizeLine;rw[y_,NV,OQ,NG];omega
 have hj:sIx items.size items.size hi<=items.size:=HA _ _ (u_ _) hi;obtain⟨os,hos,hcs,hds⟩:=id hs;have hTs:s.TypeIs (.ref sl) "slice":=⟨os,hos,hcs⟩;unfold getItem;try with_reducible refine N9 ?_
 first |refine o_ (z_ ?_) |skip
 refine o_ (wpAny_sequenceKey ht.typeIs (by decide) ?_);refine o_ (Ov (name:=Str.ofString "__getitem__") ht.typeIs PyProof.Rows.slot_tuple_getitem
  (O_ PyProof.Rows.slot_tuple_getitem ht.typeIs entry_tuple_getitem ?_ (args_tuple_getitem _ _)))
 show wpAny _ _ (Builtin.Tuple.tupleItemsOf (.ref t) >>= _) _ _ s;refine o_ (tupleItemsOf_ ht ?_);refine o_ (wpAny_typeOf hTs ?_);rw[if_pos (by decide)];refine o_ (lC hs pl pu ?_);have hno:¬ ((((sIx items.size 0 lo:Nat):Int)==0&&(1:Int)==1&&(sIx items.size items.size hi-sIx items.size 0 lo)==items.size)=true):=by intro q;rw[v_,v_] at q;have q1:((sIx items.size 0 lo:Nat):Int)=0:=eq_of_beq q.1.1;have q2:sIx items.size items.size hi-sIx items.size 0 lo=items.size:=eq_of_beq q.2;exact hw ⟨by omega,by omega⟩
 show wpAny _ _ (if (((sIx items.size 0 lo:Nat):Int)==0&&(1:Int)==1&&(sIx items.size items.size hi-sIx items.size 0 lo)==items.size)=true then _ else _) _ _ s;rw[if_neg hno,Dn];first
  |exact o_ (m:=Builtin.Tuple.tupleExact _) (N5 (z_ ⟨_,rfl,z_ h⟩) htake)
  |exact o_ (m:=Builtin.Tuple.tupleExact _) (N5 (o_ (z_ (z_ ⟨_,rfl,z_ h⟩))) htake)
  |exact o_ (o_ (m:=Builtin.Tuple.tupleExact _) (N5 (z_ (z_ ⟨_,rfl,z_ h⟩)) htake))
  |exact o_ (o_ (m:=Builtin.Tuple.tupleExact _) (N5 (z_ ⟨_,rfl,z_ h⟩) htake))
end
end HT
namespace L2
open PySem PySem.Spec PyProof.Rows
abbrev TO:=St->Hp->(Option Int->Hp->Prop)->Prop
def PO(X:Cx)(e:Option Expr)(t:TO):Prop:=
 ∀
  (pins:Qe) (s:Shared) (σ:St) (H:Hp) (Q:Option Int->Hp->Prop),Inv X pins σ H s->t σ H Q->
  wpAny (model X.prog X.w) X.A (evalPart e X.env) (λu s'=>∃o H',Inv X pins σ H' s'/\IsPart u o/\Q o H') X.xe s
def Fj:TO:=λ_ H Q=>Q none H
def Mi(t:TE):TO:=λσ H Q=>t σ H λx H1=>∃i,x=.int i/\Q (some i) H1
section
variable{X:Cx}{e:Expr}{te:TE}{lo hi:Option Expr}{tl th:TO}{pos p2:Pos}
def FP:PO X none Fj:=by intro pins s σ H Q I h;rw[evalPart_none];exact z_ ⟨none,H,I,.none,h⟩
def Gn(h:PE X e te):PO X (some e) (Mi te):=by intro pins s σ H Q I hw;rw[evalPart_some];refine thn (h pins s σ H _ I hw) λu s1 zz=>exA zz λx H1 I1 r1 q1=>?_;obtain⟨i,rfl,q⟩:=q1;obtain⟨t,rfl⟩:=r1;exact⟨some i,H1,I1,.int i t,q⟩
def SlR(X:Cx)(r:V->Option Int->Option Int->Hp->VK->Prop):Prop:=
 ∀
  (pins:Qe) (s:Shared) (σ:St) (H:Hp) (x:V) (v vl vu:Value) (lo hi:Option Int) (sl:Addr) (Q:VK),Inv X pins σ H s->RelV x v->s.heap.IsSliceOf sl vl vu .none->IsPart vl lo->IsPart vu hi->r x lo hi H Q->
  ∃T id,typeLookup (.type T) "__getitem__"=pure (some (.builtin id))/\s.TypeIs v T/\wpAny (model X.prog X.w) X.A (getItem v (.ref sl)) (EP X pins σ Q) X.xe s
def SlR.or(h:SlR X r)(h':SlR X r'):SlR X (λx lo hi H Q=>r x lo hi H Q\/r' x lo hi H Q):=by
 intro pins s σ H x v vl vu lo hi sl Q I rx hs pl pu q;rcases q with q |q
 .exact h pins s σ H x v vl vu lo hi sl Q I rx hs pl pu q
 .exact h' pins s σ H x v vl vu lo hi sl Q I rx hs pl pu q
def tSl(r:V->Option Int->Option Int->Hp->VK->Prop)(te:TE)(tl th:TO):TE:=λσ H Q=>te σ H λx H1=>tl σ H1 λl H2=>th σ H2 λu H3=>r x l u H3 Q
def Cj(hr:SlR X r)(he:PE X e te)(hl:PO X lo tl)(hu:PO X hi th):PE X (.Subscript e (.Slice lo hi none p2) pos) (tSl r te tl th):=by intro pins s σ H Q I h;refine Subscript_ (thn (he pins s σ H _ I h) λv s1 zz=>exA zz λx H1 I1 r1 q1=>?_);refine wpAny_Slice (thn (hl pins s1 σ H1 _ I1 q1) λvl s2 ⟨l,H2,I2,pl,q2⟩=>thn (hu pins s2 σ H2 _ I2 q2) λvu s3 ⟨u,H3,I3,pu,q3⟩=>?_);rw[evalPart_none];refine z_ ?_;have I4:Inv X pins σ H3 { s3 with heap:=s3.heap.push { cls:=.type "slice",data:=.fields #[vl,vu,.none] } }:=I3.kept (t':=s3.toks) λb ob q=>s_ _ q;obtain⟨T,id,hT,ht,hg⟩:=hr pins { s3 with heap:=s3.heap.push { cls:=.type "slice",data:=.fields #[vl,vu,.none] } } σ H3 x v vl vu l u s3.heap.objs.size Q I4 r1 (Heap.IsSliceOf.new ..) pl pu q3;show wpAny (model X.prog X.w) X.A (subscriptTail e (.Slice lo hi none p2) v (.ref s3.heap.objs.size)) (EP X pins σ Q) X.xe { s3 with heap:=s3.heap.push { cls:=.type "slice",data:=.fields #[vl,vu,.none] } };exact tail_any (ops:=[.ref s3.heap.objs.size,v]) ht hT hg (by with_unfolding_all rfl)
noncomputable def jR (xs:List V) (lo hi:Option Int):List V:=(xs.drop (HT.sIx xs.length 0 lo)).take (HT.sIx xs.length xs.length hi-HT.sIx xs.length 0 lo)
def lq(xs:List V)(lo hi:Option Int):(jR xs lo hi).length<=xs.length:=by unfold jR;rw[NV,OQ];omega
def C9(K:W.Frag):V->Option Int->Option Int->Hp->VK->Prop:=λx lo hi H Q=>∃a xs,x=.ref a/\SqT K H a xs/\
 ¬ (HT.sIx xs.length 0 lo=0/\HT.sIx xs.length xs.length hi=xs.length)/\∀p,H p=none->Q (.ref p) (upd H p (.tup (jR xs lo hi)))
def G6:SlR X (C9 X.K):=by
 intro pins s σ H x v vl vu lo hi sl Q I rx hs pl pu h;obtain⟨a,xs,rfl,hx,hw,q⟩:=h;cases rx;obtain⟨its,r,ht,hz⟩:=I.tuple hx;have a_:its.toArray.size=xs.length:=by rw[y_];exact r.length.symm
 refine⟨"tuple",_,PyProof.Rows.slot_tuple_getitem.lookup,ht.typeIs,?_⟩;refine HT.getItem_tuple_cut ht hs pl pu (by rw[a_];exact hw) ?_ (by rw[a_];exact hz);rw[a_];refine⟨.ref s.heap.objs.size,_,I.laid (t':=s.toks) (o:=.tup (jR xs lo hi)) (λb ob q=>s_ _ q) (u_ _) ?_,rfl,q _ (I.hok.fresh (u_ _))⟩;exact⟨Nw (lq xs lo hi) hz,_,(r.drop (HT.sIx xs.length 0 lo)).take (HT.sIx xs.length xs.length hi-HT.sIx xs.length 0 lo),IsTup.new _ _⟩
def qP(K:W.Frag):R2:=λx y H Q=>∃a b xs ys,x=.ref a/\y=.ref b/\SqT K H a xs/\SqT K H b ys/\xs≠[]/\xs.length+ys.length<=sizeLine/\
 (ys=[]->Q (.ref a) H)/\(ys≠[]->∀p,H p=none->Q (.ref p) (upd H p (.tup (xs++ys))))
def Vals.nil_iff(r:Vals xs us):us=[] ↔ xs=[]:=by
 cases r with
 |nil=>simp
 |cons _ _=>simp
def Fh:OpR X (binaryOp .Add) (qP X.K):=by intro pins s σ H x y v u Q I rx ry h;obtain⟨a,b,xs,ys,rfl,rfl,ha,hb,hx,hz,q1,q2⟩:=h;cases rx;cases ry;obtain⟨its,r1,p1,_⟩:=I.tuple ha;obtain⟨its2,r2,p2,_⟩:=I.tuple hb;refine HT.cat_tup p1 p2 (λz=>hx (r1.nil_iff.mp z)) (λz=>⟨.ref a,H,I,rfl,q1 (r2.nil_iff.mp z)⟩) (λz=>?_) (by rw[<- r1.length,<- r2.length];exact hz);refine⟨.ref s.heap.objs.size,_,I.laid (t':=s.toks) (o:=.tup (xs++ys)) (λb ob q=>s_ _ q) (u_ _) ?_,rfl,q2 (λw=>z (r2.nil_iff.mpr w)) _ (I.hok.fresh (u_ _))⟩;exact⟨by rw[K_];exact hz,_,r1.append r2,IsTup.new _ _⟩
end
noncomputable def ixN (n:Nat) (i:Int):Option Nat:=if 0<=i then (if i<n then some i.toNat else none) else if -(n:Int)<=i then some (i+n).toNat else none
noncomputable def atI {α:Type} (xs:List α) (i:Int):Option α:=(ixN xs.length i).bind λj=>xs[j]?
def wK(h:ixN n i=some j):seqIndex? i n=some j/\j<n/\-(n:Int)<=i/\i<n:=by
 unfold ixN at h;by_cases h0:0<=i
 .rw[if_pos h0] at h;by_cases h1:i<n
  .rw[if_pos h1] at h;have e:i.toNat=j:=J_ h;exact⟨by rw[seqIndex_of h0 h1,e],by omega,by omega,h1⟩
  .rw[if_neg h1] at h;cases h
 .rw[if_neg h0] at h;by_cases h1:-(n:Int)<=i
  .rw[if_pos h1] at h;have e:(i+n).toNat=j:=J_ h;exact⟨by rw[seqIndex_neg (by omega) h1,e],by omega,h1,by omega⟩
  .rw[if_neg h1] at h;cases h
def vt(h:atI xs i=some v):∃j,seqIndex? i xs.length=some j/\xs[j]?=some v/\j<xs.length/\-(xs.length:Int)<=i/\i<xs.length:=by
 unfold atI at h;cases e:ixN xs.length i with
 |none=>rw[e] at h;cases h
 |some j=>rw[e] at h;obtain⟨h1,h2,h3,h4⟩:=wK e;exact⟨j,h1,h,h2,h3,h4⟩
def ve(b:Expr):Prop:=∀o i,subscripted b false o i=operate [o,i] (getItem o i)
def IxR(X:Cx)(r:R2):Prop:=
 ∀
  (value slice:Expr) (pins:Qe) (s:Shared) (σ:St) (H:Hp) (x y:V) (v u:Value) (Q:VK),Inv X pins σ H s->RelV x v->RelV y u->r x y H Q->
  subscripted slice false v u=operate [v,u] (getItem v u)->wpAny (model X.prog X.w) X.A (subscriptTail value slice v u) (EP X pins σ Q) X.xe s
def MtR(X:Cx)(id:String)(r:V->List V->Hp->VK->Prop):Prop:=
 ∀
  (pins:Qe) (s:Shared) (σ:St) (H:Hp) (x:V) (xs:List V) (v:Value) (us:List Value) (Q:VK),Inv X pins σ H s->RelV x v->Vals xs us->r x xs H Q->
  wpAny (model X.prog X.w) X.A (call (.builtin id) (v::us)) (EP X pins σ Q) X.xe s
section
variable{X:Cx}{a b:Expr}{ta tb:TE}{pos:Pos}
def IxR.or(h:IxR X r)(h':IxR X r'):IxR X (λx y H Q=>r x y H Q\/r' x y H Q):=by
 intro value slice pins s σ H x y v u Q I rx ry q hs;rcases q with q |q
 .exact h value slice pins s σ H x y v u Q I rx ry q hs
 .exact h' value slice pins s σ H x y v u Q I rx ry q hs
def Mc(hr:IxR X r)(ha:PE X a ta)(hb:PE X b tb)(hs:ve b):PE X (.Subscript a b pos) (tOp r ta tb):=by intro pins s σ H Q I h;exact Subscript_ (CF ha hb I h λv u s2 x y H2 I2 rx ry q=>hr a b pins s2 σ H2 x y v u Q I2 rx ry q (hs _ _))
def C5(K:W.Frag):R2:=λx y H Q=>∃p xs i v,x=.ref p/\y=.int i/\SqL K H p xs/\atI xs i=some v/\Q v H
def CQ(K:W.Frag):R2:=λx y H Q=>∃p xs i v,x=.ref p/\y=.int i/\SqT K H p xs/\atI xs i=some v/\Q v H
def FK:IxR X (C5 X.K):=by
 intro value slice pins s σ H x y v u Q I rx ry h hs;obtain⟨p,xs,i,z,rfl,rfl,hq,he,q⟩:=h;cases rx;obtain⟨t,rfl⟩:=ry;obtain⟨its,r,pl,hz⟩:=I.list hq;obtain⟨j,h1,h2,h3,h4,h5⟩:=vt he;obtain⟨w,ew,rw'⟩:=r.get h2;have hl:=r.length;have hn:=hX;have d_:EP X pins σ Q w s:=⟨z,H,I,rw',q⟩;by_cases h0:0<=i
 .have hj:i.toNat=j:=by rw[seqIndex_of h0 h5] at h1;exact J_ h1
  exact item_listR pl.isList h0 (by omega) (by rw[hj];simpa using ew) d_ hs
 .have hj:(i+(its.toArray.size:Int)).toNat=j:=by rw[seqIndex_neg (by omega) h4] at h1;rw[y_,<- hl];exact J_ h1
  exact subscriptTail_builtinR (x:=w) pl.isList.typeIs slot_list_getitem.lookup
   (wpAny_getItem_list_neg (Q:=λr s'=>r=w/\EP X pins σ Q r s') pl.isList (by omega) (by rw[y_] <;> omega) (by omega) (by rw[hj];simpa using ew) ⟨rfl,d_⟩) hs
def Kv:IxR X (CQ X.K):=by
 intro value slice pins s σ H x y v u Q I rx ry h hs;obtain⟨p,xs,i,z,rfl,rfl,hq,he,q⟩:=h;cases rx;obtain⟨t,rfl⟩:=ry;obtain⟨its,r,pl,hz⟩:=I.tuple hq;obtain⟨j,h1,h2,h3,h4,h5⟩:=vt he;obtain⟨w,ew,rw'⟩:=r.get h2;have hl:=r.length;have hn:=hX;have d_:EP X pins σ Q w s:=⟨z,H,I,rw',q⟩;exact subscriptTail_builtinR (x:=w) pl.typeIs slot_tuple_getitem.lookup
  (getItem_tuple (j:=j) (Q:=λr s'=>r=w/\EP X pins σ Q r s') pl (by omega) (by omega) (by rw[y_,<- hl];exact h1) (by simpa using ew) ⟨rfl,d_⟩) hs
def yt(its:List Value)(n j:Nat)(u:Value):Obj.mapSeq (·.setIfInBounds j u) { cls:=.type "list",data:=.seq its.toArray n }={ cls:=.type "list",data:=.seq (its.set j u).toArray n }:=by simp [Obj.mapSeq]
def Inv.lst(I:Inv X pins σ H s)(h:H p=some (.lst xs)):
 ∃(its:List Value) (n:Nat),Vals xs its/\s.heap.get? p=some { cls:=.type "list",data:=.seq its.toArray n }/\xs.length<=sizeLine:=by
 obtain⟨z,its,n,r,e⟩:=I.hok p _ h;exact⟨its,n,r,e,z⟩
def Inv.lstUpd{pins:Qe}{σ:St}{H:Hp}{s:Shared}{p:Addr}{xs ys:List V}{its its':List Value}{n n':Nat}{f:Obj->Obj}(I:Inv X pins σ H s)(h:H p=some (.lst xs))
 (ho:s.heap.get? p=some { cls:=.type "list",data:=.seq its.toArray n }) (hf:f { cls:=.type "list",data:=.seq its.toArray n }={ cls:=.type "list",data:=.seq its'.toArray n' }) (r:Vals ys its') (hz:ys.length<=sizeLine) (t:Nat):
 Inv X pins σ (upd H p (.lst ys)) { s with heap:=s.heap.update p f,toks:=t }:=by
 have e:(s.heap.update p f).get? p=some { cls:=.type "list",data:=.seq its'.toArray n' }:=by rw[Heap.get?_update_self f ho (by rw[hf] <;> rfl),hf]
 refine I.write (x:=p) (e:=p) (by rw[h];trivial) (.inl rfl) (λb u hb q=>(Pq _ _ (Ne.symm hb)).trans q) ⟨_,e⟩ ?_;exact⟨hz,its',n',r,e⟩
def Ep:V->V->V->Hp->(Hp->Prop)->Prop:=λo i v H Q=>∃p xs k j,o=.ref p/\i=.int k/\H p=some (.lst xs)/\ixN xs.length k=some j/\Q (upd H p (.lst (xs.set j v)))
def Bc:xP X Ep:=by
 intro pins s σ H o i v ov iv u Q I ro ri rv h;obtain⟨p,xs,k,j,rfl,rfl,hp,hj,q⟩:=h;cases ro;obtain⟨t,rfl⟩:=ri;obtain⟨its,n,r,ho,hz⟩:=I.lst hp;obtain⟨h1,h2,h3,h4⟩:=wK hj;have hl:=r.length;have hn:=hX;have I':Inv X pins σ (upd H p (.lst (xs.set j v))) { s with heap:=s.heap.update p (Obj.mapSeq (·.setIfInBounds j u)) }:=
  I.lstUpd hp ho (yt its n j u) (r.set rv j) (by rw[NK];exact hz) s.toks
 by_cases h0:0<=k
 .have hk:k.toNat=j:=by rw[seqIndex_of h0 h4] at h1;exact J_ h1
  exact W.ki_setAt ho h0 (by omega) (by rw[y_,<- hl];exact h4) (by rw[hk];exact⟨_,I',q⟩)
 .have hk:(k+(its.toArray.size:Int)).toNat=j:=by rw[seqIndex_neg (by omega) h3] at h1;rw[y_,<- hl];exact J_ h1
  exact W.ki_setBack ho (by omega) (by rw[y_,<- hl];exact h3) (by omega) (by rw[hk];exact⟨_,I',q⟩)
def rF(lo hi:Option Int)(n:Nat):(sliceBounds lo hi none n).1=((HT.sIx n 0 lo:Nat):Int)/\(sliceBounds lo hi none n).2.1=((HT.sIx n n hi:Nat):Int)/\(sliceBounds lo hi none n).2.2=1:=by
 refine⟨?_,?_,rfl⟩
 .cases lo with
  |none=>simp [sliceBounds,HT.sIx]
  |
   some i=>
   simp only[sliceBounds,HT.sIx,Option.getD_none,show (1:Int)>0 by decide,O7];by_cases h:i<0
   .simp only[h,O7] <;> omega
   .simp only[h,PH] <;> omega
 .cases hi with
  |none=>simp [sliceBounds,HT.sIx]
  |
   some i=>
   simp only[sliceBounds,HT.sIx,Option.getD_none,show (1:Int)>0 by decide,O7];by_cases h:i<0
   .simp only[h,O7] <;> omega
   .simp only[h,PH] <;> omega
def pO(its:List Value)(lo hi:Option Int):slicePick its.toArray lo hi none=((its.drop (HT.sIx its.length 0 lo)).take (HT.sIx its.length its.length hi-HT.sIx its.length 0 lo)).toArray:=by obtain⟨h1,h2,h3⟩:=rF lo hi its.toArray.size;unfold slicePick;rw[h1,h2,h3];simp only[sliceRange_one,pick_run,y_] <;> rfl
def B9(K:W.Frag):V->Option Int->Option Int->Hp->VK->Prop:=λx lo hi H Q=>∃a xs,x=.ref a/\SqL K H a xs/\∀p,H p=none->Q (.ref p) (upd H p (.lst (jR xs lo hi)))
def EZ:SlR X (B9 X.K):=by intro pins s σ H x v vl vu lo hi sl Q I rx hs pl pu h;obtain⟨a,xs,rfl,hx,q⟩:=h;cases rx;obtain⟨its,r,ht,hz⟩:=I.list hx;have a_:=r.length;refine⟨"list",_,slot_list_getitem.lookup,ht.isList.typeIs,?_⟩;refine wpAny_getItem_list_slice ht.isList hs pl pu .none (by simp) ?_ (by rw[y_] <;> omega);rw[pO,<- a_];refine⟨.ref s.heap.objs.size,_,I.laid (t':=s.toks) (o:=.lst (jR xs lo hi)) (λb ob q=>s_ _ q) (u_ _) ?_,rfl,q _ (I.hok.fresh (u_ _))⟩;exact⟨Nw (lq xs lo hi) hz,_,0,(r.drop (HT.sIx xs.length 0 lo)).take (HT.sIx xs.length xs.length hi-HT.sIx xs.length 0 lo),F_ _ rfl⟩
noncomputable def flatV:V->Bool
 |.non=>true
 |.bl _=>true
 |.int _=>true
 |.str _=>true
 |_=>false
noncomputable def eqV:V->V->Bool
 |.non,.non=>true
 |.bl a,.bl b=>a==b
 |.bl a,.int b=>(if a then 1 else 0)==b
 |.int a,.bl b=>a==(if b then 1 else 0)
 |.int a,.int b=>a==b
 |.str a,.str b=>a==b
 |_,_=>false
def GA(ry:RelV y u)(rx:RelV x v)(fy:flatV y=true)(fx:flatV x=true):SeqAt.EqAt A s u v (eqV y x):=by
 cases y with
 |
  non=>
  cases ry;cases x with
  |non=>cases rx;exact SeqAt.EqAt.same _
  |bl b=>cases rx;exact SeqAt.EqAt.none_bool b
  |int b=>obtain⟨t,rfl⟩:=rx;exact SeqAt.EqAt.none_int b t
  |str b=>obtain⟨t,rfl⟩:=rx;exact SeqAt.EqAt.none_str b t
  |_=>exact absurd (show false=true from fx) x_
 |
  bl a=>
  cases ry;cases x with
  |non=>cases rx;exact SeqAt.EqAt.bool_none a
  |bl b=>cases rx;exact SeqAt.EqAt.bool_bool a b
  |int b=>obtain⟨t,rfl⟩:=rx;exact SeqAt.EqAt.bool_int a b t
  |str b=>obtain⟨t,rfl⟩:=rx;exact SeqAt.EqAt.bool_str a b t
  |_=>exact absurd (show false=true from fx) x_
 |
  int a=>
  obtain⟨t',rfl⟩:=ry;cases x with
  |non=>cases rx;exact SeqAt.EqAt.int_none a t'
  |bl b=>cases rx;exact SeqAt.EqAt.int_bool a t' b
  |int b=>obtain⟨t,rfl⟩:=rx;exact SeqAt.EqAt.int_int a t' b t
  |str b=>obtain⟨t,rfl⟩:=rx;exact SeqAt.EqAt.int_str a t' b t
  |_=>exact absurd (show false=true from fx) x_
 |
  str a=>
  obtain⟨t',rfl⟩:=ry;cases x with
  |non=>cases rx;exact SeqAt.EqAt.str_none a t'
  |bl b=>cases rx;exact SeqAt.EqAt.str_bool a t' b
  |int b=>obtain⟨t,rfl⟩:=rx;exact SeqAt.EqAt.str_int a t' b t
  |str b=>obtain⟨t,rfl⟩:=rx;exact SeqAt.EqAt.str_str a t' b t
  |_=>exact absurd (show false=true from fx) x_
 |_=>exact absurd (show false=true from fy) x_
noncomputable def eqU (x:V) (u:Value):Bool:=match u with
 |.none=>eqV .non x
 |.bool b=>eqV (.bl b) x
 |.int i _=>eqV (.int i) x
 |.str z _=>eqV (.str z) x
 |_=>false
def As(r:RelV y u)(f:flatV y=true):eqU x u=eqV y x:=by
 cases y with
 |non=>cases r;rfl
 |bl b=>cases r;rfl
 |int i=>obtain⟨t,rfl⟩:=r;rfl
 |str z=>obtain⟨t,rfl⟩:=r;rfl
 |_=>exact absurd (show false=true from f) x_
theorem ja:∀{xs:List V}{us:List Value},Vals xs us->xs.all flatV=true->us.any (eqU x)=xs.any λy=>eqV y x
 |_,_,.nil,_=>rfl
 |
  y::xs,u::us,.cons r t,f=>by
  rw[P8,v_] at f;rw[N7,N7,As r f.1,ja t f.2]
theorem gZ(rx:RelV x v)(fx:flatV x=true):∀{xs:List V}{us:List Value},Vals xs us->xs.all flatV=true->∀u∈us,SeqAt.EqAt A s u v (eqU x u)
 |_,_,.nil,_=>λu hu=>by cases hu
 |
  y::xs,u::us,.cons r t,f=>λu' hu=>by
  rw[P8,v_] at f;rcases G_.mp hu with rfl |hu
  .rw[As r f.1];exact GA r rx f.1 fx
  .exact gZ rx fx t f.2 u' hu
noncomputable def inV (x:V) (xs:List V):Bool:=xs.any λy=>eqV y x
def rIn(K:W.Frag)(neg:Bool):R2:=λx y H Q=>∃p xs,y=.ref p/\(SqL K H p xs\/SqT K H p xs)/\flatV x=true/\xs.all flatV=true/\Q (.bl (if neg then !inV x xs else inV x xs)) H
def yO:OpR X (compareOp .In) (rIn X.K false):=by
 intro pins s σ H x y v u Q I rx ry h;obtain⟨p,xs,rfl,hq,fx,fs,q⟩:=h;cases ry;rcases hq with hq |hq
 .obtain⟨its,r,pl,hz⟩:=I.list hq;refine SeqAt.in_listAt (eqU x) pl.isList (λw hw=>gZ rx fx r fs w (by simpa using hw)) ⟨.bl _,H,I,rfl,?_⟩;rw[show its.toArray.any (eqU x)=its.any (eqU x) by simp,ja r fs];exact q
 .obtain⟨its,r,pl,hz⟩:=I.tuple hq;refine SeqAt.in_tupleAt (eqU x) pl (λw hw=>gZ rx fx r fs w (by simpa using hw)) ⟨.bl _,H,I,rfl,?_⟩;rw[show its.toArray.any (eqU x)=its.any (eqU x) by simp,ja r fs];exact q
def rT:OpR X (compareOp .NotIn) (rIn X.K true):=by
 intro pins s σ H x y v u Q I rx ry h;obtain⟨p,xs,rfl,hq,fx,fs,q⟩:=h;cases ry;rcases hq with hq |hq
 .obtain⟨its,r,pl,hz⟩:=I.list hq;refine SeqAt.notIn_listAt (eqU x) pl.isList (λw hw=>gZ rx fx r fs w (by simpa using hw)) ⟨.bl _,H,I,rfl,?_⟩;rw[show its.toArray.any (eqU x)=its.any (eqU x) by simp,ja r fs];exact q
 .obtain⟨its,r,pl,hz⟩:=I.tuple hq;refine SeqAt.notIn_tupleAt (eqU x) pl (λw hw=>gZ rx fx r fs w (by simpa using hw)) ⟨.bl _,H,I,rfl,?_⟩;rw[show its.toArray.any (eqU x)=its.any (eqU x) by simp,ja r fs];exact q
def rZ:CallR X (.builtin "len") (λxs H Q=>∃p ys,xs=[.ref p]/\(SqL X.K H p ys\/SqT X.K H p ys)/\Q (.int ys.length) H):=by
 intro pins s σ H xs us Q I r h;obtain⟨p,ys,rfl,hq,q⟩:=h;obtain⟨u,rfl,rx⟩:=eO r;cases rx;have hn:=hX;rcases hq with hq |hq
 .obtain⟨its,r',pl,hz⟩:=I.list hq;have a_:=r'.length;exact Calls.call_len_list pl.isList (by simp only[y_] <;> omega) ⟨.int ys.length,H,I.tok _,⟨s.toks+1,by rw[y_,a_]⟩,q⟩
 .obtain⟨its,r',pl,hz⟩:=I.tuple hq;have a_:=r'.length;exact len_tuple pl (by simp only[y_] <;> omega) ⟨.int ys.length,H,I.tok _,⟨s.toks+1,by rw[y_,a_]⟩,q⟩
def rD:CallR X (.builtin "len") (λxs H Q=>∃z,xs=[.str z]/\z.length<=sizeLine/\Q (.int z.length) H):=by intro pins s σ H xs us Q I r h;obtain⟨z,rfl,hz,q⟩:=h;obtain⟨u,rfl,t,rfl⟩:=eO r;have hn:=hX;exact len_str (by omega) ⟨.int z.length,H,I.tok _,⟨_,rfl⟩,q⟩
def CallR.or(h:CallR X f r)(h':CallR X f r'):CallR X f (λxs H Q=>r xs H Q\/r' xs H Q):=by
 intro pins s σ H xs us Q I rs q;rcases q with q |q
 .exact h pins s σ H xs us Q I rs q
 .exact h' pins s σ H xs us Q I rs q
def uC:CallR X (.type "list") (λxs H Q=>∃p ys,xs=[.ref p]/\(SqL X.K H p ys\/SqT X.K H p ys)/\∀l,H l=none->Q (.ref l) (upd H l (.lst ys))):=by
 intro pins s σ H xs us Q I r h;obtain⟨p,ys,rfl,hq,q⟩:=h;obtain⟨u,rfl,rx⟩:=eO r;cases rx;have d_:∀(its:List Value),Vals ys its->ys.length<=sizeLine->∀(h':Heap) (c':Nat),(∀b o',s.heap.get? b=some o'->h'.get? b=some o')->
  h'.get? s.heap.objs.size=some { cls:=.type "list",dict:=none,data:=.seq its.toArray c',slots:=#[] }->EP X pins σ Q (.ref s.heap.objs.size) { s with heap:=h' }:=λits r' hz h' c' kp e=>
  ⟨.ref s.heap.objs.size,_,I.laid (t':=s.toks) kp (u_ _) (show ObjOk X.prog X.w _ h' _ (.lst ys) from ⟨hz,its,c',r',e⟩),rfl,q _ (I.hok.fresh (u_ _))⟩
 rcases hq with hq |hq
 .obtain⟨its,r',pl,hz⟩:=I.list hq;have a_:=r'.length;obtain⟨o,ho,hc,n,hd⟩:=pl.isList;exact call_list_seq p (.inl rfl) ho hc hd (λh' c' kp e=>d_ its r' hz h' c' kp e) (by simp only[y_] <;> omega)
 .obtain⟨its,r',pl,hz⟩:=I.tuple hq;have a_:=r'.length;obtain⟨o,ho,hc,n,hd⟩:=pl;exact call_list_seq p (.inr rfl) ho hc hd (λh' c' kp e=>d_ its r' hz h' c' kp e) (by simp only[y_] <;> omega)
def pX:CallR X (.type "tuple") (λxs H Q=>∃p ys,xs=[.ref p]/\((SqL X.K H p ys/\∀l,H l=none->Q (.ref l) (upd H l (.tup ys)))\/(SqT X.K H p ys/\Q (.ref p) H))):=by
 intro pins s σ H xs us Q I r h;obtain⟨p,ys,rfl,h⟩:=h;obtain⟨u,rfl,rx⟩:=eO r;cases rx;rcases h with ⟨hq,q⟩ |⟨hq,q⟩
 .obtain⟨its,r',pl,hz⟩:=I.list hq;have a_:=r'.length;refine call_tuple_list pl.isList (λh' kp=>?_) (by simp only[y_] <;> omega);have I1:Inv X pins σ H { s with heap:=h' }:=I.kept (t':=s.toks) kp;have I2:Inv X pins σ (upd H h'.objs.size (.tup ys)) { s with heap:=h'.push { cls:=.type "tuple",data:=.seq its.toArray } }:=
   I1.laid (t':=s.toks) (λb o e=>s_ _ e) (u_ _) (show ObjOk X.prog X.w _ _ _ (.tup ys) from ⟨hz,its,r',IsTup.new _ _⟩)
  exact⟨.ref h'.objs.size,_,I2,rfl,q _ (I1.hok.fresh (u_ _))⟩
 .obtain⟨its,r',pl,hz⟩:=I.tuple hq;exact call_tuple_same pl ⟨.ref p,H,I,rfl,q⟩
def tyV(K:W.Frag)(T:String)(x:V)(H:Hp):Prop:=match x with
 |.str _=>T="str"
 |.int _=>T="int"
 |.ref p=>(T="list" /\ ∃xs,SqL K H p xs)\/(T="tuple" /\ ∃o,K.lookup p=some o/\o.cls=.type "tuple" /\ o.dict=none)\/
  (T="dict" /\ ((∃kvs,H p=some (.dK kvs))\/∃kvs,H p=some (.dT kvs)))\/(T="set" /\ ∃S n,H p=some (.set S n))
 |_=>False
def zg(I:Inv X pins σ H s)(r:RelV x v)(ty:tyV X.K T x H):
 s.TypeIs v T/\∀a,v=.ref a->∃ob,s.heap.get? a=some ob/\ob.dict=none:=by
 cases x with
 |str z=>obtain⟨t,rfl⟩:=r;cases (show T="str" from ty);exact⟨typeIs_str s z t,λ_ e=>nomatch e⟩
 |int i=>obtain⟨t,rfl⟩:=r;cases (show T="int" from ty);exact⟨typeIs_int s i t,λ_ e=>nomatch e⟩
 |
  ref p=>
  cases r;rcases ty with ⟨rfl,xs,hq⟩ |⟨rfl,o,hk,hc,hd⟩ |⟨rfl,hk⟩ |⟨rfl,S,n,hk⟩
  .obtain⟨its,_,pl,_⟩:=I.list hq;refine⟨pl.isList.typeIs,λa e=>?_⟩;cases e;obtain⟨o,n,e,c,hd,_⟩:=pl;exact⟨o,e,hd⟩
  .refine⟨⟨o,I.kIn p o hk,hc⟩,λa e=>?_⟩;cases e;exact⟨o,I.kIn _ o hk,hd⟩
  .have z:∃o,s.heap.get? p=some o/\o.ExactDict:=by
    rcases hk with ⟨kvs,hk⟩ |⟨kvs,hk⟩
    .obtain⟨_,_,_,_,o,_,_,e,ex,_⟩:=I.hok p _ hk;exact⟨o,e,ex⟩
    .obtain⟨_,_,_,_,o,_,_,e,ex,_⟩:=I.hok p _ hk;exact⟨o,e,ex⟩
   obtain⟨o,e,ex⟩:=z;refine⟨⟨o,e,ex.1⟩,λa e2=>?_⟩;cases e2;exact⟨o,e,ex.2.1⟩
  .obtain⟨o,_,_,_,e,ex,_⟩:=I.hok p _ hk;refine⟨⟨o,e,ex.1⟩,λa e2=>?_⟩;cases e2;exact⟨o,e,ex.2.1⟩
 |_=>exact False.elim ty
def tBM0(K:W.Frag)(T:String)(r:V->List V->Hp->VK->Prop)(to:TE):TE:=λσ H Q=>to σ H λx H1=>tyV K T x H1/\r x [] H1 Q
def tBM(K:W.Frag)(T:String)(r:V->List V->Hp->VK->Prop)(to:TE)(t:TA):TE:=λσ H Q=>to σ H λx H1=>tyV K T x H1/\t σ H1 λxs H2=>r x xs H2 Q
variable{o e:Expr}{es:List Expr}{to:TE}{t:TA}{name:Str}{apos cpos:Pos}{T id:String}{r:V->List V->Hp->VK->Prop}
def JN(pa:PlainAttrs T)(slot:Slot T name id)(hty:typeOf (.builtin id)=pure (.type "method_descriptor"))(hm:MtR X id r)(ho:PE X o to)
 (i_:attributeBase o name X.env (eval o X.env)=eval o X.env) (j':(apos.endLine==cpos.line)=true):PE X (.Call (.Attribute o name apos) [] [] cpos) (tBM0 X.K T r to):=by
 intro pins s σ H Q I h;refine wpAny_Call_method0_late i_ j' (thn (ho pins s σ H _ I h) λv s1 ⟨x,H1,I1,r1,ty,q1⟩=>?_);obtain⟨h1,h2⟩:=zg I1 r1 ty;exact⟨T,id,pa,slot,hty,h1,h2,Calls.callWith_builtin rfl (PySem.evalArgs_none (hm pins s1 σ H1 x [] v [] Q I1 r1 .nil q1))⟩
def yx(pa:PlainAttrs T)(slot:Slot T name id)(hty:typeOf (.builtin id)=pure (.type "method_descriptor"))(hm:MtR X id r)(ho:PE X o to)(ha:PA X (e::es) t)
 (i_:attributeBase o name X.env (eval o X.env)=eval o X.env)
 (hfew:((backTo cpos (starEach (e::es) X.env)).all (λx=>!x.1)&&(backToKw cpos (keywordEach [] X.env)).all (λx=>x.1.isSome)
  && decide ((e::es).length+([]:List Keyword).length+(if ([]:List Keyword).isEmpty then 0 else 1)<30))=true)
 (j':(apos.endLine==cpos.line)=true) (hs:starEach (e::es) X.env=(false,eval e X.env)::starEach es X.env) (c_:(backTo cpos (starEach es X.env)).any (·.1)=false):
 PE X (.Call (.Attribute o name apos) (e::es) [] cpos) (tBM X.K T r to t):=by
 intro pins s σ H Q I h;refine wpAny_Call_method_late i_ hfew j' rfl (thn (ho pins s σ H _ I h) λv s1 ⟨x,H1,I1,r1,ty,q1⟩=>?_);obtain⟨h1,h2⟩:=zg I1 r1 ty;refine⟨T,id,pa,slot,hty,h1,h2,?_⟩;have hA:=ha cpos pins s1 σ H1 _ I1 q1;rw[hs] at hA ⊢;refine Calls.callWith_builtin (by show (false || (backTo cpos (starEach es X.env)).any (·.1))=false;rw[c_] <;> rfl) (Calls.evalArgs_plain ?_);exact thn hA λus s2 zz=>exA zz λvs H2 I2 r2 q2=>hm pins s2 σ H2 x vs v us Q I2 r1 r2 q2
end
def MtM(X:Cx)(id:String)(r:V->List V->Hp->VK->Prop):Prop:=
 ∀
  (pins:Qe) (s:Shared) (σ:St) (H:Hp) (x:V) (xs:List V) (v:Value) (us:List Value) (Q:VK),Inv X pins σ H s->RelV x v->Vals xs us->r x xs H Q->
  wpAny (model X.prog X.w) X.A (call (.builtin id) (v::us)) (EP X pins σ Q) X.xe s
def Vals.one(r:Vals [x] us):∃u,us=[u]/\RelV x u:=by
 cases r with
 |cons r t=>cases t;exact⟨_,rfl,r⟩
theorem Vals.zero:∀{us:List Value},Vals [] us->us=[]
 |_,.nil=>rfl
def Vals.dropLast(h:Vals xs us):Vals xs.dropLast us.dropLast:=by
 induction h with
 |nil=>exact .nil
 |
  cons r t ih=>
  cases t with
  |nil=>exact .nil
  |cons q t'=>exact .cons r ih
def ym{α:Type}(l:List α):l.eraseIdx (l.length-1)=l.dropLast:=by
 induction l with
 |nil=>rfl
 |
  cons a r ih=>
  cases r with
  |nil=>rfl
  |
   cons b r=>
   have e:(a::b::r).length-1=((b::r).length-1)+1:=by have h1:(a::b::r).length=r.length+2:=rfl;have h2:(b::r).length=r.length+1:=rfl;omega
   rw[e,List.eraseIdx_cons_succ,ih];all_goals rfl
section
variable{X:Cx}{pins:Qe}{σ:St}{H:Hp}{s:Shared}{l:Addr}{xs ys:List V}
def Inv.lset{its its':List Value}{n:Nat}{f:Array Value->Array Value}{t':Nat}(I:Inv X pins σ H s)(hH:H l=some (.lst xs))
 (e:s.heap.get? l=some { cls:=.type "list",data:=.seq its.toArray n }) (hf:f its.toArray=its'.toArray) (hv:Vals ys its') (hz:ys.length<=sizeLine):
 Inv X pins σ (upd H l (.lst ys)) { s with heap:=s.heap.update l (Obj.mapSeq f),toks:=t' }:=by
 have q:=PySem.IsL.update e f;rw[hf] at q;refine I.write (x:=l) (e:=l) (by rw[hH];exact trivial) (.inl rfl) (λb' u hb hu=>(Pq s.heap (Obj.mapSeq f) (Ne.symm hb)).trans hu) ⟨_,q⟩ ?_;exact⟨hz,its',_,hv,q⟩
def Inv.lnew(I:Inv X pins σ H s)(hv:Vals ys its)(hz:ys.length<=sizeLine):
 Inv X pins σ (upd H s.heap.objs.size (.lst ys)) { s with heap:=s.heap.push { cls:=.type "list",data:=.seq its.toArray },toks:=t' }:=
 I.laid (λ_ _ q=>s_ _ q) (u_ _) ⟨hz,its,0,hv,F_ _ rfl⟩
def Inv.fresh(I:Inv X pins σ H s):H s.heap.objs.size=none:=I.hok.fresh (u_ _)
def Inv.lstM(I:Inv X pins σ H s)(hH:H l=some (.lst xs)):xs.length<=sizeLine/\∃(its:List Value) (n:Nat),Vals xs its/\xs.length=its.length/\s.heap.get? l=some { cls:=.type "list",data:=.seq its.toArray n }:=by obtain⟨z,its,n,r,e⟩:=I.hok l _ hH;exact⟨z,its,n,r,r.length,e⟩
def Bw{n:Nat}(h:n<=sizeLine):Builtin.List.listTooLong n=false:=by unfold Builtin.List.listTooLong;exact Em (by omega)
end
section
variable{X:Cx}
def wc:V->List V->Hp->VK->Prop:=λx vs H Q=>∃l xs y,x=.ref l/\vs=[y]/\H l=some (.lst xs)/\xs.length<sizeLine/\Q .non (upd H l (.lst (xs++[y])))
def yN:MtM X "list.append" wc:=by intro pins s σ H x vs v us Q I rx rv h;obtain⟨l,xs,y,rfl,rfl,hH,hz,q⟩:=h;cases rx;obtain⟨u,rfl,ru⟩:=rv.one;obtain⟨z,its,n,r,hl,e⟩:=I.lstM hH;refine call_meets F.slot_list_append ⟨_,e,rfl⟩ F.entry_list_append (F.args_list_append_2 _ _) (PySem.list_append l its.toArray n u (by rw[y_];omega)) ⟨e,?_⟩;refine⟨.non,_,I.lset (its':=its++[u]) hH e (by simp) (r.append (.cons ru .nil)) ?_,rfl,q⟩;rw[K_,PJ];omega
def rPop:V->List V->Hp->VK->Prop:=λx vs H Q=>∃l xs y,x=.ref l/\vs=[]/\H l=some (.lst xs)/\xs[xs.length-1]?=some y/\Q y (upd H l (.lst xs.dropLast))
def HP:MtM X "list.pop" rPop:=by
 intro pins s σ H x vs v us Q I rx rv h;obtain⟨l,xs,y,rfl,rfl,hH,hy,q⟩:=h;cases rx;have hus:=rv.zero;subst hus;obtain⟨z,its,n,r,hl,e⟩:=I.lstM hH;obtain⟨u,hu,ru⟩:=r.get hy;have hy':its.toArray[its.toArray.size-1]?=some u:=by show its.toArray[its.length-1]?=some u;rw[<- Array.getElem?_toList,<- hl];exact hu
 refine call_meets F.slot_list_pop ⟨_,e,rfl⟩ F.entry_list_pop (F.args_list_pop_1 _) (MeetsSeq.list_pop_last l its.toArray n u hy' (by rw[y_];omega)) ⟨e,?_⟩;refine⟨y,_,I.lset (its':=its.dropLast) hH e ?_ r.dropLast ?_,ru,q⟩
 .show its.toArray.eraseIdxIfInBounds (its.toArray.size-1)=its.dropLast.toArray;rw[y_,List.eraseIdxIfInBounds_toArray,ym]
 .rw[List.length_dropLast];omega
def xx:R2:=λx y H Q=>∃l b xs zs,x=.ref l/\y=.ref b/\H l=some (.lst xs)/\H b=some (.lst zs)/\xs.length+zs.length<=sizeLine/\∀p,H p=none->Q (.ref p) (upd H p (.lst (xs++zs)))
def J2:OpR X (binaryOp .Add) xx:=by
 intro pins s σ H x y v u Q I rx ry h;obtain⟨l,b,xs,zs,rfl,rfl,hH,hB,hz,q⟩:=h;cases rx;cases ry;obtain⟨z,its,n,r,hl,e⟩:=I.lstM hH;obtain⟨z2,its2,n2,r2,hl2,e2⟩:=I.lstM hB;refine PySem.P.add_list e e2 ?_ (by rw[y_,y_];omega);have ea:its.toArray++its2.toArray=(its++its2).toArray:=by simp
 rw[ea];exact⟨.ref _,_,I.lnew (t':=s.toks) (r.append r2) (by rw[K_];omega),rfl,q _ I.fresh⟩
end
section
set_option maxRecDepth 100000 in
end
end L2
namespace Att
open PySem PySem.W PySem.Calls PyProof.Rows
def ny:∀(ns:List Int) (vs:List Value),WellAll P h vs (ns.map WData.int)->IntsAre vs ns:=by
 intro ns;induction ns with
 |nil=>intro vs w;rw[Nt] at w;cases w;exact .nil
 |
  cons n ns ih=>
  intro vs w;rw[t_] at w;cases w with
  |cons a b=>cases a;exact .cons _ _ (ih _ b)
def zI{l:OpenLaw}{n:Nat}(hn:l.most=some n){P:Params}{h:Heap}{args:List WData}{vals:List Value}
 (hpre:l.row.toRowW.claim.pre args=true) (hwl:WellAll P h vals args):
 ∃a vs ns,vals=[Value.ref a]/\args=[WData.list (ns.map WData.int)]/\h.get? a=some { cls:=.type "list",data:=.seq vs.toArray }/\IntsAre vs ns/\ns.length<=n:=by
 have hsh:WShape.hasAll [] args [.list .int]=true:=(pre_splitW hpre).1;have hc:l.pre.holds [] { args:=args }=true:=(pre_splitW hpre).2;obtain⟨d,r,rfl,h1,h2⟩:=hasAllW_cons hsh;obtain rfl:=hasAllW_nil h2;obtain⟨xs,rfl,h3⟩:=hasW_list h1;obtain⟨ns,rfl⟩:=items_int h3;have a_:ns.length<=n:=by
  unfold OpenLaw.pre at hc;have h4:(WTm.not (.lt (.lit (.int (n:Int))) (.len (.arg 0)))).holds [] { args:=[.list (ns.map .int)] }=true:=by have h4:=(holds_andW hc).1;rw[hn] at h4;exact h4
  have h5:=condW_of h4 (w_not (w_lt w_lit (w_len_list (w_arg rfl))));rw[p_] at h5;refine Nat.le_of_not_lt λq=>?_;have q':(n:Int)<((ns.length:Nat):Int):=by omega
  first
   |(rw[H_ q'] at h5;exact absurd h5 (by decide))
   |(simp at h5;omega)
 cases hwl with
 |
  cons w1 w2=>
  cases w2;cases w1 with
  |list ho hall=>exact⟨_,_,ns,rfl,rfl,ho,ny ns _ hall,a_⟩
def Az(l:OpenLaw)(args:List WData):l.row.toRowW.claim.post args (.bool true) args=true:=
 postW_of (r:=l.row.toRowW) (X:=(true==true))
  (show WShape.has [] (.bool true) .bool=true by first |rfl |decide |simp [WShape.has,WShape.arms,WShape.armsAll])
  (show (WTm.eq .res (.lit (.bool true))).value [] { args:=args,res:=some (.bool true),after:=args }=some (.bool (true==true)) from w_eq_bool (w_res rfl) w_lit) rfl
def attach_call{l:OpenLaw}{n:Nat}{q:Program}{loose:List Str}{XP:(Str->Option Value)->Heap->Prop}{YP:World->Heap->Prop}{d:DefRec}
 (hn:l.most=some n) (hdf:d.params.defaults=[])
 (call:∀(w:World) (s₀ s₁:Shared) (mg mb:Qd) (fa:Addr) (o:Obj) (pm cd doc:Value) (a:Addr) (vs:List Value) (ns:List Int),
  Ground q loose [] XP w s₀ mg mb s₁.heap->YP w s₁.heap->
  s₁.heap.get? fa=some o->o.data=.func (docDef d.name d.params d.body d.scope pm cd doc)->s₁.heap.CodeRec cd d.name->mg d.name=some (.ref fa)->
  s₁.heap.get? a=some { cls:=.type "list",data:=.seq vs.toArray }->IntsAre vs ns->ns.length<=n->s₁.gens=#[]->
  codeAny (model l.prog w) callerA (.call (.ref fa) ⟨[.ref a],[]⟩) (λr s'=>r=.ok (.ret (.bool true))/\OldK s₁.heap s'.heap/\s'.os=s₁.os/\AllBare s'.gens) s₁):
 WalkO q loose XP YP l.row.toRowW d [] (λf vs=>PySem.call f vs):=by
 intro w s₀ s₁ mg mb G Y fa o pm cd doc dV kV ho hd n_ hD hmg hg args vals as hpre hlay hrd hwl hlo;obtain rfl:dV=.none:=Dflts.none hD hdf;obtain rfl:kV=.none:=Dflts.noKw hD;obtain⟨a,vs,ns,rfl,rfl,hobj,hints,a_⟩:=zI hn hpre hwl;refine enter_call (PZ (call w s₀ s₁ mg mb fa o pm cd doc a vs ns G Y ho (fd_plain hd) n_ hmg hobj hints a_ hg) λr s' hq=>?_);obtain⟨rfl,h2,h3,h4⟩:=hq;exact⟨.inl ⟨.bool true,.bool true,[],rfl,λ_=>rfl,.bool true,Az l _,λ_=>⟨List.Pairwise.nil,λ_ hm=>(nomatch hm)⟩⟩,h2,h3,h4⟩
section
def rm(h:Heap):Heap:={ h with objs:=#[] }
def xb(h:Heap)(b:Addr):(rm h).get? b=none:=by
 cases e:(rm h).get? b with
 |none=>rfl
 |some o=>exact absurd (A_ e) (OI _)
def ledger(h:Heap)(L d:Addr):List (Addr×Obj):=(List.range h.objs.size).filterMap λa=>if a=L\/a=d then none else (h.get? a).map λo=>(a,o)
def fr_all(n:h.Ns L m):Fr (rm h) L h m:=
 ⟨n,λb o e=>(by rw[xb] at e;cases e),NM _⟩
end
end Att
namespace L2
open PySem PySem.Spec PyProof.Rows
theorem iB:∀{vs:List Value}{ns:List Int},IntsAre vs ns->Vals (ns.map V.int) vs
 |_,_,.nil=>.nil
 |_,_,.cons n t h=>.cons ⟨t,rfl⟩ (iB h)
def Cn(H:Hp):Prop:=∀b,H b=none\/∃o xs,H b=some (.frz o (.lst xs))
def Bt{P:Program}{w:World}{K:W.Frag}{mg mb:Qd}{CX:CXT}{k:Nat}{fa a:Addr}{fd:FuncData}{x:Str}{sp:Sp}{s₁:Shared}{vs:List Value}{ns:List Int}
 (KX:K.In s₁.heap) (hns:s₁.heap.Ns mainGlobals mg) (hb:s₁.heap.Ns builtinsNs mb) (hbb:∀x:Str,x ≠ "__name__"->mb x=bootBuiltins x) (hlim:s₁.heap.NoLimit) (hg:s₁.gens=#[])
 (ha:s₁.heap.get? a=some { cls:=.type "list",data:=.seq vs.toArray }) (hi:IntsAre vs ns) (hl:ns.length<=sizeLine) (hr:Room k callerA)
 (F:∀base:Heap,K.In base->base.Ns mainGlobals mg->FnOk P w K mg base CX k fa fd [x] sp) (hbind:∀(s:Shared) (u:Value),BindsTo s fd ⟨[u],[]⟩ [(x,u)])
 (hsp:∀H:Hp,Cn H->SqL K H a (ns.map V.int)->sp [.ref a] H (λv _=>v=.bl true) λ_ _ _=>False)
 (hCX:∀H e s',CX [] H s₁ (λ_ _ _=>False) e s'->False):
 codeAny (model P w) callerA (.call (.ref fa) ⟨[.ref a],[]⟩) (λr s'=>r=.ok (.ret (.bool true))/\OldK s₁.heap s'.heap/\s'.os=s₁.os/\AllBare s'.gens) s₁:=by
 have rv:=iB hi;have lenV:=hi.length;have core
  : ∀H:Hp,Cn H->SqL K H a (ns.map V.int)->HOk P w H s₁.heap->(∀b,H b≠none->b=a)->(H a≠none->K.lookup a=none)->
  codeAny (model P w) callerA (.call (.ref fa) ⟨[.ref a],[]⟩) (λr s'=>r=.ok (.ret (.bool true))/\OldK s₁.heap s'.heap/\s'.os=s₁.os/\AllBare s'.gens) s₁:=by
  intro H hO hS hok hA hK;have base_of:∀{b:Addr}{o:Obj},s₁.heap.get? b=some o->H b=none->(fP s₁.heap H).get? b=some o:=λe n=>tK e n;have noA:∀{b:Addr}{o:Obj}{es:Array DictEntry}{ep:Nat},s₁.heap.get? b=some o->o.data=.dict es ep->H b=none:=λ{b o es ep} e d=>by
   cases q:H b with
   |none=>rfl
   |some u=>have e':b=a:=hA b (by rw[q];simp);subst e';rw[ha] at e;cases e;have d':Data.seq vs.toArray _=Data.dict es ep:=d;cases d'
  have nsK:∀{b:Addr}{m:Qd},s₁.heap.Ns b m->(fP s₁.heap H).Ns b m:=λ{b m} ⟨o,es,ep,e,d,r⟩=>⟨o,es,ep,base_of e (noA e d),d,r⟩;have hKb:K.In (fP s₁.heap H):=λb o e=>base_of (KX b o e) (by
   cases q:H b with
   |none=>rfl
   |some u=>have e':b=a:=hA b (by rw[q];simp);subst e';rw[hK (by rw[q];simp)] at e;cases e)
  have hM:Mod K mg (fP s₁.heap H):=⟨hKb,nsK hns,⟨mb,nsK hb,hbb⟩,let ⟨mc,h1,h2⟩:=hlim;⟨mc,nsK h1,h2⟩⟩;have e0:Env0 P w K mg (fP s₁.heap H) callerA [] s₁ H:=⟨rfl,hM,λb o e=>vA e,Nat.le_of_eq (pB _ _),trivial,λb hb=>absurd (show b∈([]:List Addr) from hb) (by simp),hok,.of_eq hg⟩;refine PZ ((F _ hKb (nsK hns)).run callerA [] s₁ H ⟨[.ref a],[]⟩ [.ref a] [.ref a] _ _ hr e0 (hbind s₁ (.ref a)) (.cons rfl .nil) (hsp H hO hS)) λr s' h=>?_;cases r with
  |error e=>exact (hCX H e s' h).elim
  |
   ok fl=>
   cases fl with
   |next=>exact False.elim h
   |brk=>exact False.elim h
   |cont=>exact False.elim h
   |
    ret u=>
    obtain⟨v,H',os,bare,un,hok',r',q⟩:=h;have q':v=.bl true:=q;subst q';obtain rfl:u=Value.bool true:=r';refine⟨rfl,OldK.of_keep λb o e=>?_,os,bare⟩;cases q:H b with
    |none=>exact un.keep b o e q (by intro z;exact absurd (show b∈([]:List Addr) from z) (by simp)) (by simp)
    |
     some u=>
     rcases hO b with z |⟨ob,xs,z⟩
     .rw[q] at z;cases z
     .have z2:=un.frzs b ob _ z;obtain⟨e1,_⟩:=hok b _ z;obtain⟨e2,_⟩:=hok' b _ z2;rw[e] at e1;cases e1;exact e2
 cases hk:K.lookup a with
 |some o=>have e:=KX a o hk;rw[ha] at e;cases e;refine core (λ_=>none) (λ_=>.inl rfl) (.inr ⟨_,vs.toArray,_,hk,rfl,rfl,rfl,by rw[y_,lenV];exact hl,by simpa using rv⟩) (λb u z=>by have z':(none:Option HO)=some u:=z;cases z') (λb z=>absurd rfl z) λz=>absurd rfl z
 |
  none=>
  refine core (λb=>if b=a then some (.frz { cls:=.type "list",data:=.seq vs.toArray } (.lst (ns.map V.int))) else none) (λb=>?_) (.inl (.inr ⟨{ cls:=.type "list",data:=.seq vs.toArray },if_pos rfl⟩)) (λb u z=>?_) (λb z=>?_) λ_=>hk
  .by_cases hb:b=a
   .exact .inr ⟨_,_,if_pos hb⟩
   .exact .inl (if_neg hb)
  .by_cases hb:b=a
   .have z':=(if_pos hb).symm.trans z;cases z';subst hb;exact⟨ha,by rw[p_];exact hl,vs,_,rv,ha⟩
   .have z':=(if_neg hb).symm.trans z;cases z'
  .by_cases hb:b=a
   .exact hb
   .exact absurd (if_neg hb) z
abbrev KOf{K:W.Frag}{h:Heap}(_:K.In h):W.Frag:=K
def Nm{l:W.OpenLaw}{n k:Nat}{q:Program}{loose:List Str}{XP:(Str->Option Value)->Heap->Prop}{YP:World->Heap->Prop}{d:DefRec}{K:Params->W.Frag}{CX:World->CXT}{sp:World->Sp}{x:Str}
 (hn:l.most=some n) (hn2:n<=sizeLine) (hdf:d.params.defaults=[]) (hr:Room k callerA)
 (hY:∀(w:World) (h:Heap),YP w h->(K w.params).In h)
 (F:∀(w:World) (mg:Qd) (fa:Addr) (h:Heap),(K w.params).In h->h.Ns mainGlobals mg->mg d.name=some (.ref fa)->
  ∃
   fd:FuncData,(∀(s:Shared) (u:Value),BindsTo s fd ⟨[u],[]⟩ [(x,u)])/\
   ∀base:Heap,(K w.params).In base->base.Ns mainGlobals mg->FnOk l.prog w (K w.params) mg base (CX w) k fa fd [x] (sp w))
 (hsp:∀(w:World) (H:Hp) (a:Addr) (ns:List Int),ns.length<=n->Cn H->SqL (K w.params) H a (ns.map V.int)->sp w [.ref a] H (λv _=>v=.bl true) λ_ _ _=>False)
 (hCX:∀(w:World) (H:Hp) (s:Shared) (e:Value) (s':Shared),CX w [] H s (λ_ _ _=>False) e s'->False):
 W.WalkO q loose XP YP l.row.toRowW d [] (λf vs=>PySem.call f vs):=by
 refine Att.attach_call hn hdf λw s₀ s₁ mg mb fa o pm cd doc a vs ns G Y ho hd n_ hmg hobj hints a_ hg=>?_;have KX:=hY w _ Y;obtain⟨fd,hb,hF⟩:=F w mg fa _ KX G.T.g hmg;exact Bt KX G.T.g G.T.b G.T.builtins G.T.nolimit hg hobj hints (Nw a_ hn2) hr hF hb (λH hO hS=>hsp w H a ns a_ hO hS) λH e s'=>hCX w H s₁ e s'
noncomputable def dC (s:Stmt):Arguments:=match s with
 |.FunctionDef _ a _ _ _ _ _ _ _ _=>a
 |_=>{ posonlyargs:=[],args:=[],vararg:=none,kwonlyargs:=[],kw_defaults:=[],kwarg:=none,defaults:=[] }
noncomputable def bH (s:Stmt):List Stmt:=match s with
 |.FunctionDef _ _ b _ _ _ _ _ _ _=>b
 |_=>[]
noncomputable def ar (s:Stmt):Scope:=match s with
 |.FunctionDef _ _ _ _ _ _ sc _ _ _=>sc
 |_=>{ kind:=.function,names:=[],isGenerator:=false,isCoroutine:=false }
abbrev E0:XK:=λ_ _ _=>False
structure Fun(K:W.Frag)(x qual:Str)(st:Stmt)(f:Addr)(fd:FuncData):Prop where
 ex:∃(oc:Value) (od:Option Addr) (kV doc pm:Value) (an:Option Addr) (cdv ct:Value) (osl:Array (Option Value)),
  fd=W.fnOf x qual (dC st) (bH st) (ar st) .none kV doc pm an cdv ct/\K.lookup f=some ⟨oc,od,.func fd,osl⟩/\W.codeIn K cdv qual=true
 kp:W.keepIn K (.ref f)=true
section
variable{K:W.Frag}
def Fun.binds{x qual:Str}{st:Stmt}{f:Addr}{fd:FuncData}{ps:List Str}(F:Fun K x qual st f fd)
 (h:∀(kV doc pm:Value) (an:Option Addr) (cdv ct:Value) (us:List Value),us.length=ps.length->bindArgs (W.fnOf x qual (dC st) (bH st) (ar st) .none kV doc pm an cdv ct) ⟨us,[]⟩=pure (ps.zip us)):Binds K fd ps []:=by
 obtain⟨oc,od,kV,doc,pm,an,cdv,ct,osl,rfl,lk,n_⟩:=F.ex;exact .all (h kV doc pm an cdv ct)
def IC{x qual:Str}{st:Stmt}{f:Addr}{oc:Value}{od an:Option Addr}{osl:Array (Option Value)}{kV doc pm cdv ct:Value}(l:K.lookup f=some ⟨oc,od,.func (W.fnOf x qual (dC st) (bH st) (ar st) .none kV doc pm an cdv ct),osl⟩)
 (c:W.codeIn K cdv qual=true) (k:W.keepIn K (.ref f)=true):Fun K x qual st f (W.fnOf x qual (dC st) (bH st) (ar st) .none kV doc pm an cdv ct):=⟨⟨oc,od,kV,doc,pm,an,cdv,ct,osl,rfl,l,c⟩,k⟩
end
def Mw(hr:Room k A):A.units+1<cLine:=Oh (Nat.add_le_add_left (by decide:1<=64) _) hr.units
section
variable{X:Cx}{pins:Qe}{σ:St}{H:Hp}{s:Shared}
def Inv.track{a:Addr}{o:HO}(I:Inv X pins σ H s)(hn:H a=none)(h0:X.s₀.heap.get? a=none)(hL:a≠X.env.locals)(hc:∀x c,X.env.cells.lookup x=some c->c≠a)
 (hp:∀p∈X.pn++pins,p.1≠a) (new:ObjOk X.prog X.w (upd H a o) s.heap a o):Inv X pins σ (upd H a o) s:=by
 have ne:∀b u,H b=some u->b≠a:=λb u e z=>by rw[z,hn] at e;cases e
 have ne0:∀b u,X.s₀.heap.get? b=some u->b≠a:=λb u e z=>by rw[z,h0] at e;cases e
 refine⟨I.ok,I.os,I.bare,⟨I.base.keep,I.base.slot,λb u e n hx=>?_,I.base.there,λb xs e=>?_,λb u xs e=>?_,λb ps e=>?_⟩,I.loc,I.cell,?_,λx c e=>?_,λp hp'=>?_,λb u e=>?_,I.len⟩
 .rw[aB (ne0 b u e)];exact I.base.free b u e n hx
 .have q:=I.base.tups b xs e;rw[aB (ne _ _ q)];exact q
 .have q:=I.base.frzs b u xs e;rw[aB (ne _ _ q)];exact q
 .obtain⟨m,q⟩:=I.base.tbls b ps e;exact⟨m,by rw[aB (ne _ _ q)];exact q⟩
 .rw[aB (Ne.symm hL)];exact I.free
 .rw[aB (hc x c e)];exact I.freeC x c e
 .obtain⟨e,n,r⟩:=I.pin p hp';exact⟨e,by rw[aB (hp p hp')];exact n,r⟩
 .by_cases hb:b=a
  .subst hb;rw[bc] at e;cases e;exact new
  .rw[aB hb] at e;exact (I.hok b u e).stay (λc v _ q=>q) (λc q=>by rw[aB (ne _ _ q)];exact q) λc xs q=>by rw[aB (ne _ _ q)];exact q
end
theorem jy{env:Env}:∀{names:List (Str×NameKind)} (cs:List (Str×Addr)),(∀x∈names,x.2=.free->∃c,env.cells.lookup x.1=some c)->(∀x c,cs.lookup x=some c->env.cells.lookup x=some c)->
 ∃
  cl,(forIn names cs λ(x:Str×NameKind) (r:List (Str×Addr))=>if (x.2==NameKind.free)=true then do let a <- cellOf env x.1;pure (ForInStep.yield ((x.1,a)::r)) else pure (ForInStep.yield r):Sem (List (Str×Addr)))=pure cl/\
  (∀x c,cl.lookup x=some c->env.cells.lookup x=some c)/\(∀x c,cs.lookup x=some c->∃c',cl.lookup x=some c')/\∀x∈names,x.2=.free->∃c,cl.lookup x.1=some c
 | [],cs,_,h=>⟨cs,by simp,h,λx c e=>⟨c,e⟩,λ_ hx=>nomatch hx⟩
 |
  (n,k)::r,cs,hf,h=>by
  rw[List.forIn_cons];by_cases hk:k=.free
  .subst hk;obtain⟨c,hc⟩:=hf (n,.free) r_ rfl;have l_:cellOf env n=pure c:=by unfold cellOf;rw[hc]
   have h':∀x d,((n,c)::cs).lookup x=some d->env.cells.lookup x=some d:=λx d e=>by
    rw[Of] at e;cases q:x==n with
    |true=>rw[q] at e;cases e;rw[NB.mp q];exact hc
    |false=>rw[q] at e;exact h x d e
   obtain⟨cl,e1,e2,e3,e4⟩:=jy (env:=env) (names:=r) ((n,c)::cs) (λx hx=>hf x (q_ _ hx)) h';have top:∃c',cl.lookup n=some c':=e3 n c (by rw[Of];simp);refine⟨cl,?_,e2,λx d e=>?_,λx hx hfr=>?_⟩
   .simp only[OR,O7,l_];exact e1
   .by_cases q:x=n
    .rw[q];exact top
    .exact e3 x d (by rw[Of,(E_.mpr q:(x==n)=false)];exact e)
   .rcases G_.mp hx with rfl |hx
    .exact top
    .exact e4 x hx hfr
  .have hb:(k==NameKind.free)=false:=by simpa using hk
   obtain⟨cl,e1,e2,e3,e4⟩:=jy (env:=env) (names:=r) cs (λx hx=>hf x (q_ _ hx)) h;refine⟨cl,?_,e2,e3,λx hx hfr=>?_⟩
   .simp only[hb,OV,PH];exact e1
   .rcases G_.mp hx with rfl |hx
    .exact absurd hfr hk
    .exact e4 x hx hfr
def pV{env:Env}{scope:Scope}(hf:∀x∈scope.names,x.2=.free->∃c,env.cells.lookup x.1=some c):
 ∃cl,closureFor scope env=pure cl/\(∀x c,cl.lookup x=some c->env.cells.lookup x=some c)/\∀x∈scope.names,x.2=.free->∃c,cl.lookup x.1=some c:=by
 obtain⟨cl,e1,e2,_,e4⟩:=jy (env:=env) (names:=scope.names) [] hf (λx c e=>by simp at e);refine⟨cl,?_,e2,e4⟩;unfold closureFor;simp only[e1];rfl
noncomputable def bT (X:Cx) (N:List Str) (scope:Scope) (cl:List (Str×Addr)) (C:Addr) (s₂:Shared) (H:Hp) (fp:List Addr):Cx:=
 { X with N:=N,s₀:=s₂,H₀:=H,env:=compEnvC scope cl C X.env,outer:=X.stack,stack:=X.stack,ex:=fp,fn:=λ_=>false,pn:=[],xe:=λ_ _=>False }
noncomputable def fk (sub:Qg) (σ:St):St:=sub.map λo=>o.bind λi=>(σ[i]?).bind id
def LcW(J:It)(sub:Qg)(g:TG)(tc:TT)(te:TE)(σ:St)(H1:Hp)(Q:VK):Prop:=∃W:Nat->Nat->List V->St->Hp->Prop,(∃m,W 0 m [] (fk sub σ) H1)/\∀i m ys σ H,W i m ys σ H->
 (J.stop i H/\ys.length<=sizeLine/\∀D,H D=none->Q (.ref D) (upd H D (.lst ys)))\/
 (J.go i H/\ys.length<sizeLine/\∃Nx:List V->St->Hp->Prop,(∀ys' σ' H',Nx ys' σ' H'->∃m',m'<m/\W (i+1) m' ys' σ' H')/\
  ∀x H',J.yld i H x H'->g x σ H' λσ2 H2=>tc σ2 H2 λb H3=>if b=true then te σ2 H3 λy H4=>Nx (ys++[y]) σ2 H4 else Nx ys σ2 H3)
def qt(wi:TI)(sub:Qg)(g:TG)(tc:TT)(te:TE):TE:=λσ H Q=>wi σ H λJ H1=>LcW J sub g tc te σ H1 Q
section
variable{prog:Program}{w:World}{A:Around}{R:Result->Shared->Prop}{s:Shared}
def sf{elt target iter:Expr}{ifs:List Expr}{scope:Scope}{pos:Pos}{it acc:Value}{env:Env}(I:Nat->Shared->Prop)
 (turn
  : ∀n s,I n s->wpAny (model prog w) A (pyNext it) (λr s₁=>match r with
  |none=>R (.ok .next) s₁
  |some v=>wpAny (model prog w) A (letOwnedTupleGo target it v) (λ_ s₁'=>wpAny (model prog w) A (assign target env v) (λ_ s₂=>
   wpAny (model prog w) A (forIn ifs true λc r=>if r=true then do let ok <- isTrue c env (eval c env);pure (ForInStep.yield ok) else pure (ForInStep.yield r))
    (λok s₃=>if ok=true then wpAny (model prog w) A (eval elt env) (λx s₄=>wpAny (model prog w) A (call (.builtin "list.append") [acc,x]) (λ_ s₅=>∃m,m<n/\I m s₅) (λ_ _=>False) s₄) (λ_ _=>False) s₃
     else ∃m,m<n/\I m s₃) (λ_ _=>False) s₂) (λ_ _=>False) s₁') (λ_ _=>False) s₁) (λ_ _=>False) s)
 (n:Nat) (h:I n s):
 codeAny (model prog w) A (.compLoop (.ListComp elt [⟨target,iter,ifs,0⟩] scope pos) 0 it acc env) R s:=by
 refine codeAny_loop rfl I (λn s hI=>?_) n h;show wpAny _ _ ((compTurn (.ListComp elt [⟨target,iter,ifs,0⟩] scope pos) 0 it acc env).onRaise (λx=>do noteFrame x env;theTreesLotGoes x)) _ _ s;refine wpAny_noted ?_;rw[compTurn_list];refine NF (E:=λ_ _=>False) ?_ (λ_ _ q=>q) λ_ _ q=>q.elim;refine o_ (OU (o_ (NF (turn n s hI) (λr s₁ h₁=>?_) λ_ _ h'=>h')));cases r with
 |none=>exact z_ h₁
 |
  some v=>
  refine o_ (NF h₁ (λ_ s₁' h₁'=>?_) λ_ _ h'=>h');refine o_ (NF h₁' (λ_ s₂ h₂=>?_) λ_ _ h'=>h');refine o_ (NF h₂ (λok s₃ h₃=>?_) λ_ _ h'=>h');cases ok with
  |true=>simp only[O7] at h₃ ⊢;refine o_ (o_ (NF h₃ (λx s₄ h₄=>?_) λ_ _ h'=>h'));refine o_ (NF h₄ (λ_ s₅ h₅=>?_) λ_ _ h'=>h');exact z_ (z_ ⟨rfl,h₅⟩)
  |
   false=>
   simp only[OV,PH] at h₃ ⊢;first
    |exact o_ (z_ (z_ ⟨rfl,h₃⟩))
    |exact z_ ⟨rfl,h₃⟩
end
section
variable{X:Cx}
def PTs(X:Cx)(ifs:List Expr)(t:TT):Prop:=
 ∀
  (pins:Qe) (s:Shared) (σ:St) (H:Hp) (Q:Bool->Hp->Prop),Inv X pins σ H s->t σ H Q->
  wpAny (model X.prog X.w) X.A (forIn ifs true λc r=>if r=true then do let ok <- isTrue c X.env (eval c X.env);pure (ForInStep.yield ok) else pure (ForInStep.yield r)) (TP X pins σ Q) X.xe s
def EC:PTs X [] (λ_ H Q=>Q true H):=λpins s σ H Q I h=>by rw[List.forIn_nil];exact z_ ⟨H,I,h⟩
structure LcEnd(X:Cx)(pins:Qe)(σ:St)(Q:VK)(D C:Addr)(s4:Shared):Prop where
 ns:∃m,s4.heap.Ns C m
 dc:D<C
 fr:X.env.locals<D
 cell:∀x c,X.env.cells.lookup x=some c->c<D
 pin:∀p∈X.pn++pins,p.1<D
 sz:X.s₀.heap.objs.size<=D
 inv:∃H',H' C=none/\Q (.ref D) H'/\∀h',Heap.SameBut C s4.heap h'->Inv X pins σ H' { s4 with heap:=h' }
def vN{elt iter tg:Expr}{ifs:List Expr}{scope:Scope}{pos:Pos}{wi:TI}{g:TG}{tc:TT}{te:TE}{N:List Str}{sub:Qg}{use:Option (Value->Sem Unit)}{R:Qf}{pins:Qe}{s:Shared}{σ:St}{H:Hp}{Q:VK}{fpos:Pos}
 (hc:X.calm=true) (hi:PI X tg iter wi)
 (hk:scope.kind=.function) (hnc:∀x∈scope.names,x.2 ≠ .cell) (f_:∀x∈scope.names,x.2=.local->scope.names.lookup x.1=some .local)
 (hfr:∀x∈scope.names,x.2=.free->X.env.kindOf x.1=some .cell\/X.env.kindOf x.1=some .free)
 (hsl:sub.length=N.length) (hsub:∀(j i:Nat) (x:Str),sub[j]?=some (some i)->N[j]?=some x->X.N[i]?=some x/\scope.names.lookup x=some .free)
 (hg:∀cl C s₂ H fp,PG (bT X N scope cl C s₂ H fp) tg g) (ht:∀cl C s₂ H fp,PTs (bT X N scope cl C s₂ H fp) ifs tc) (he:∀cl C s₂ H fp,PE (bT X N scope cl C s₂ H fp) elt te)
 (hs:∀x,foldedSetIterable iter X.env x=pure x) (I:Inv X pins σ H s) (h:qt wi sub g tc te σ H Q)
 (d_:∀D C s4,LcEnd X pins σ Q D C s4->compPost (model X.prog X.w) X.A X.xe use R (.ref D) C (.ok .next) s4):
 wpAny (model X.prog X.w) X.A (comprehension (.ListComp elt [⟨tg,iter,ifs,0⟩] scope pos) scope X.env fpos (newList []) false (eval iter X.env) use) R X.xe s:=by
 obtain⟨cl,hclos,hcl,hclf⟩:=pV (env:=X.env) (scope:=scope) λx hx hf=>I.ok.has x.1 (hfr x hx hf);refine wpAny_comprehension_free rfl hs hclos hk f_ ?_;show wpAny _ _ (eval iter X.env) _ _ _;refine thn (hi pins s σ H _ I h) λv s1 h1=>thn h1 λitv s2 h2=>?_;obtain⟨it,fp,tn,J,H2,e,I2,T,st2,f2,W,⟨m0,w0⟩,turn⟩:=h2;subst e;refine N5 (wpAny_newFunctionEnv hnc (by intro y hy;simp at hy) (λh₁ hns₁ hsb₁=>?_) hk);dsimp only at hns₁ hsb₁ ⊢;generalize hH2:s2.heap.push { cls:=.type "list",dict:=none,data:=.seq ([]:List Value).toArray }=G2 at hns₁ hsb₁ ⊢;have hC:G2.objs.size=s2.heap.objs.size+1:=by rw[<- hH2,Pm]
 have hDC:s2.heap.objs.size≠G2.objs.size:=by omega
 have below:∀b,b<s2.heap.objs.size->b≠G2.objs.size/\b≠s2.heap.objs.size:=λb hb=>⟨by omega,by omega⟩;have old:∀b o,s2.heap.get? b=some o->h₁.get? b=some o:=λb o e=>hsb₁.extBut b o (below b (A_ e)).1 (s_ _ (hH2 ▸ s_ _ e));have hD₁:h₁.get? s2.heap.objs.size=some { cls:=.type "list",dict:=none,data:=.seq ([]:List Value).toArray }:=hsb₁.extBut _ _ hDC (s_ _ (hH2 ▸ F_ _ rfl));have fresh:∀a,s2.heap.objs.size<=a->s2.heap.get? a=none:=λa ha=>PM ha;have cellOld:∀x c,cl.lookup x=some c->c<s2.heap.objs.size:=λx c e=>by obtain⟨v,z⟩:=I2.cell x c (hcl x c e);exact z.lt
 have fpOld:∀b∈fp,b<s2.heap.objs.size:=λb hb=>by obtain⟨o,e,_⟩:=T.obj _ _ st2 b hb;exact A_ e
 let Y:Cx:=bT X N scope cl G2.objs.size s2 H2 fp
 have okY:Y.Ok
  := by
  refine⟨I2.ok.mod,?_,I2.ok.glob,I2.ok.blt,?_,λx y c e1 e2=>I2.ok.inj x y c (hcl x c e1) (hcl y c e2),λx hx=>?_,λx c hfn _=>absurd hfn x_,I2.ok.hd,I2.ok.frames,.inl rfl,
   λb hb=>⟨?_,λx c e z=>?_⟩,I2.bs,Nw I2.ok.bsz I2.sz,λb o e hb=>?_,λb hb hf=>?_,I2.stack,I2.stkFree⟩
  .show (relabel scope X.env).kind=.function;exact hk
  .show s2.heap.objs.size<=G2.objs.size;omega
  .have hx':(
    relabel scope X.env).names.lookup x=some .cell\/(relabel scope X.env).names.lookup x=some .free:=hx
   have:∃k,
    (x,k)∈scope.names/\k=.free:=by
    have gen:∀(names:List (Str×NameKind)),(∀y∈names,y.2 ≠ .cell)->∀kk,(kk=NameKind.cell\/kk=NameKind.free)->(names.map λ(n,k)=>if (k==NameKind.free&&X.env.scope.kind == .function&&X.env.kindOf n==some .cell) then (n,NameKind.cell) else (n,k)).lookup x=some kk->∃k,(x,k)∈names/\k=.free:=by
     intro names;induction names with
     |nil=>intro _ kk _ e;simp at e
     |
      cons y r ih=>
      intro hn kk hkk e;obtain⟨n,k⟩:=y;rw[t_,Of] at e;by_cases hkf:k=.free
      .subst hkf;by_cases hxn:x=n
       .exact⟨.free,by rw[hxn];exact r_,rfl⟩
       .have hb:(x==(if (NameKind.free==NameKind.free&&X.env.scope.kind == .function&&X.env.kindOf n==some .cell)=true then (n,NameKind.cell) else (n,NameKind.free)).1)=false:=by split <;> exact E_.mpr hxn
        rw[hb] at e;obtain⟨k',m,q⟩:=ih (λz hz=>hn z (q_ _ hz)) kk hkk e;exact⟨k',q_ _ m,q⟩
      .have hb0:(k==NameKind.free&&X.env.scope.kind == .function&&X.env.kindOf n==some .cell)=false:=by
        have:(k==NameKind.free)=false:=by simpa using hkf
        rw[this];rfl
       rw[hb0] at e;simp only[OV,PH] at e;cases q:x==n with
       |
        true=>
        rw[q] at e;have e':k=kk:=J_ e;subst e';rcases hkk with z |z
        .exact absurd z (hn (n,k) r_)
        .exact absurd z hkf
       |false=>rw[q] at e;obtain⟨k',m,q⟩:=ih (λz hz=>hn z (q_ _ hz)) kk hkk e;exact⟨k',q_ _ m,q⟩
    rcases hx' with z |z
    .exact gen scope.names hnc _ (.inl rfl) z
    .exact gen scope.names hnc _ (.inr rfl) z
   obtain⟨k,m,q⟩:=this;exact hclf (x,k) m q
  .show b≠G2.objs.size;exact (below b (fpOld b hb)).1
  .exact (f2 b hb).2.2.2.2.1 x c (hcl x c e) z
  .rcases (f2 b hb).2.2.2.1 with z |z
   .exact I2.ok.noex b o e z
   .exact absurd (I_ (A_ e) (Nw I2.ok.bsz z)) (N3 _)
  .have hf':b∈frs X.stack:=hf;rcases G_.mp (I2.stkSub b hf') with z |z
   .exact (f2 b hb).2.1 z
   .exact (f2 b hb).2.2.1 z
 have startLoc
  : ∃m,h₁.Ns G2.objs.size m/\∀(i:Nat) (x:Str) (v:V),N[i]?=some x->(fk sub σ)[i]?=some (some v)->Vis (relabel scope X.env) x->∃u,RelV v u/\Look Y.env h₁ m x u:=by
  refine⟨_,hns₁,λj x v e1 e2 e3=>?_⟩;unfold fk at e2;rw[Nq] at e2;cases q:sub[j]? with
  |none=>rw[q] at e2;cases e2
  |
   some o=>
   rw[q] at e2;cases o with
   |none=>cases e2
   |
    some i=>
    obtain⟨hNi,hfree⟩:=hsub j i x q e1;have e2':(σ[i]?).bind id=some v:=J_ e2;have e2'':σ[i]?=some (some v):=by
     cases z:σ[i]? with
     |none=>rw[z] at e2';cases e2'
     |some y=>rw[z] at e2';rw[show y=some v from e2']
    obtain⟨m2,hn2,hl2⟩:=I2.loc;have hkx:=hfr (x,.free) (Od hfree) rfl;obtain⟨u,r,l⟩:=hl2 i x v hNi e2'' (by rcases hkx with z |z;exact .inr (.inl z);exact .inr (.inr z));refine⟨u,r,.inr ⟨?_,?_⟩⟩
    .rcases e3
      with z |z |z
     .exfalso;have gen:∀(names:List (Str×NameKind)),names.lookup x=some .free->(names.map λ(n,k)=>if (k==NameKind.free&&X.env.scope.kind == .function&&X.env.kindOf n==some .cell) then (n,NameKind.cell) else (n,k)).lookup x=some .local->False:=by
       intro names;induction names with
       |nil=>intro e _;simp at e
       |
        cons y r ih=>
        intro e1 e2;obtain⟨n,k⟩:=y;rw[Of] at e1;rw[t_,Of] at e2;by_cases hxn:x=n
        .have hb1:(x==n)=true:=NB.mpr hxn;rw[hb1] at e1;have:k=.free:=J_ e1;subst this;split at e2
         .rename_i hq;split at e2 <;> cases e2
         .rename_i hq;split at hq <;> (rw[hb1] at hq;cases hq)
        .have hb1:(x==n)=false:=E_.mpr hxn;rw[hb1] at e1;refine ih e1 ?_;split at e2
         .rename_i hq;split at hq <;> (rw[hb1] at hq;cases hq)
         .exact e2
      exact gen scope.names hfree z
     .exact .inl z
     .exact .inr z
    .obtain⟨c,hc'⟩:=hclf (x,.free) (Od hfree) rfl;refine⟨c,hc',?_⟩;rcases l with ⟨k,_⟩ |⟨_,c2,ec2,z⟩
     .rcases hkx with z |z <;> (rw[k] at z;cases z)
     .have:=hcl x c hc'
      rw[ec2] at this;cases this;obtain⟨oc,hoc,hd⟩:=z;exact⟨oc,old _ _ hoc,hd⟩
 have pinD:∀{σ':St}{H':Hp}{s':Shared}{pl:Qe}{o:Obj},Inv Y pl σ' H' s'->s'.heap.get? s2.heap.objs.size=some o->(∀v,o.data ≠ .cell v)->H' s2.heap.objs.size=none->Inv Y [(s2.heap.objs.size,o)] σ' H' s':=λ{σ' H' s' pl o} IY e d n=>
  IY.pins_of λp hp=>by
   have e':p=(s2.heap.objs.size,o):=by simpa using hp
   subst e';refine⟨e,n,?_,?_,d⟩
   .show s2.heap.objs.size≠G2.objs.size;omega
   .intro hf;have hf':s2.heap.objs.size∈frs X.stack:=hf;obtain⟨_,o',ho',_⟩:=I2.stack.mem hf';exact absurd (A_ ho') (N3 _)
 have fpY:∀{H':Hp}{pl:Qe},(∀b∈fp,H' b=none)->(∀p∈pl,p.1∉fp)->∀b∈fp,FpOk Y pl H' b:=λ{H' pl} hn hp b hb=>by
  refine⟨hn b hb,?_,?_,.inl hb,λx c e=>?_,λp hp'=>?_⟩
  .exact (okY.exf b hb).1
  .exact okY.exfs b hb
  .exact (okY.exf b hb).2 x c e
  .intro z;have hp'':p∈pl:=by simpa [Y,bT] using hp'
   exact hp p hp'' (by rw[z];exact hb)
 have hDfp:s2.heap.objs.size∉fp:=λz=>N3 _ (fpOld _ z);have loop
  : ∀s₃:Shared,s₃={ s2 with heap:=h₁,toks:=s2.toks+([]:List (Str×Value)).length }->
  codeAny (model X.prog X.w) X.A (.compLoop (.ListComp elt [⟨tg,iter,ifs,0⟩] scope pos) 0 (.ref it) (.ref s2.heap.objs.size) (compEnvC scope cl G2.objs.size X.env))
   (compPost (model X.prog X.w) X.A X.xe use R (.ref s2.heap.objs.size) G2.objs.size) s₃:=by
  rintro s₃ rfl;have IY0:Inv Y [(s2.heap.objs.size,{ cls:=.type "list",dict:=none,data:=.seq ([]:List Value).toArray })] (fk sub σ) H2 { s2 with heap:=h₁,toks:=s2.toks+([]:List (Str×Value)).length }:=by
   have J0:Inv Y [] (fk sub σ) H2 { s2 with heap:=h₁,toks:=s2.toks+([]:List (Str×Value)).length }:=by
    refine⟨okY,rfl,I2.bare,Un.kept old,startLoc,λx c e=>?_,I2.hok.fresh (by show s2.heap.objs.size<=G2.objs.size;omega),λx c e=>I2.freeC x c (hcl x c e),λp hp=>absurd (show p∈([]:Qe) from hp) (by simp),I2.hok.kept old,?_⟩
    .obtain⟨v,oc,hoc,hd⟩:=I2.cell x c (hcl x c e);exact⟨v,oc,old _ _ hoc,hd⟩
    .show (fk sub σ).length=N.length;unfold fk;rw[p_];exact hsl
   exact pinD J0 hD₁ (λv z=>by cases z) I2.fresh
  refine sf (λn s'=>∃(i:Nat) (ys:List V) (its:List Value) (k:Nat) (σ':St) (H':Hp),Inv Y [(s2.heap.objs.size,{ cls:=.type "list",dict:=none,data:=.seq its.toArray k })] σ' H' s'/\Vals ys its/\tn i s'.heap/\(∀b∈fp,H' b=none)/\W i n ys σ' H') ?_ m0
   ⟨0,[],[],0,fk sub σ,H2,IY0,.nil,T.keep _ _ _ st2 (λb hb o e=>old b o e),λb hb=>(f2 b hb).1,w0⟩
  rintro n s3 ⟨i,ys,its,k,σ3,H3,I3,rv,st3,fr3,w3⟩;have npl:∀(o:Obj),∀p∈[(s2.heap.objs.size,o)],p.1∉fp:=λo p hp=>by
   have e':p=(s2.heap.objs.size,o):=by simpa using hp
   subst e';exact hDfp
  rcases turn i n ys σ3 H3 w3 with ⟨stop,hz,qn⟩ |⟨go,hz,Nx,hNx,step⟩
  .refine NF (T.done Y rfl rfl rfl hc i _ s3 σ3 H3 (λ_ _=>False) I3 (fpY fr3 (npl _)) st3 stop) (λr s4 ⟨hr,I4⟩=>?_) λ_ _ z=>z;subst hr;obtain⟨m4,hn4,_⟩:=I4.loc;have hCfree:H3 G2.objs.size=none:=I4.free;have hD4:=I4.pin (s2.heap.objs.size,{ cls:=.type "list",dict:=none,data:=.seq its.toArray k }) (Ny _ r_);have un4:Un (frs X.stack) fp H2 H3 s2.heap s4.heap:=I4.base;have ne2:∀b o,s2.heap.get? b=some o->b≠G2.objs.size:=λb o e=>(below b (A_ e)).1;have hDfree:H3 s2.heap.objs.size=none:=hD4.2.1;have sz0:X.s₀.heap.objs.size<=s2.heap.objs.size:=I2.sz;refine d_ s2.heap.objs.size G2.objs.size s4 ⟨⟨m4,hn4⟩,by rw[hC];exact Nat.lt_succ_self _,I2.lt,λx c e=>?_,λp hp=>A_ (I2.pin p hp).1,sz0,upd H3 s2.heap.objs.size (.lst ys),by rw[aB (Ne.symm hDC)];exact hCfree,qn _ hDfree,λh' hs'=>?_⟩
   .obtain⟨v,q⟩:=I2.cell x c e;exact q.lt
   have up:∀b o,b≠G2.objs.size->s4.heap.get? b=some o->h'.get? b=some o:=λb o hb e=>hs'.extBut b o hb e;have un5:Un (frs X.stack) fp H2 H3 s2.heap h':=by
    refine⟨λb o e n hb hx=>up b o (ne2 b o e) (un4.keep b o e n hb hx),λb o e n hb hx=>?_,un4.free,λb o e hx=>?_,un4.tups,un4.frzs,un4.tbls⟩
    .obtain⟨sl,q⟩:=un4.slot b o e n hb hx;exact⟨sl,up b _ (ne2 b o e) q⟩
    .obtain⟨o',q⟩:=un4.there b o e hx;exact⟨o',up b _ (ne2 b o e) q⟩
   have hok5:HOk X.prog X.w H3 h':=λb u e=>(I4.hok b u e).stay (λc v hcc q=>up c v (λz=>by
    rcases hcc with zz |zz
    .rw[zz] at z;rw[z,hCfree] at e;cases e
    .rw[z,hCfree] at zz;cases zz) q) (λ_ q=>q) λ_ _ q=>q
   have I5:Inv X pins σ H3 { s4 with heap:=h' }:=I2.call' (s':={ s4 with heap:=h' }) (ch:=fp) I4.os un5 hok5 I4.bare λb hb=>by obtain⟨_,g1,_,g3,g4,g5⟩:=f2 b hb;exact⟨g3,g1,g4,g5⟩
   refine I5.track (o:=.lst ys) hDfree (PM sz0) (O6 I2.lt) (λx c e z=>?_) (λp hp z=>?_) ?_
   .obtain⟨v,q⟩:=I2.cell x c e;exact absurd q.lt (by rw[z];exact N3 _)
   .exact absurd (A_ (I2.pin p hp).1) (by rw[z];exact N3 _)
   .exact⟨hz,its,k,rv,up _ _ hDC hD4.1⟩
  .refine NF (T.item Y rfl rfl rfl hc i _ s3 σ3 H3 (λ_ _=>False) I3 (fpY fr3 (npl _)) st3 go) (λr s4 ⟨u,hr,h4⟩=>?_) λ_ _ z=>z;subst hr;refine NF h4 (λ_ s5 ⟨x,H5,I5,r5,y5,st5,fr5⟩=>?_) λ_ _ z=>z;have I5':=I5.pinned (fpY fr5 (npl _)) (T.obj _ _ st5);refine NF (hg cl G2.objs.size s2 H2 fp _ s5 σ3 H5 x u _ I5' r5 (step x H5 y5)) (λ_ s6 ⟨σ6,H6,I6,q6⟩=>?_) λ_ _ z=>z;refine NF (ht cl G2.objs.size s2 H2 fp _ s6 σ6 H6 _ I6 q6) (λok s7 ⟨H7,I7,q7⟩=>?_) λ_ _ z=>z;have back:∀{σ':St}{H':Hp}{s':Shared},Inv Y ([(s2.heap.objs.size,{ cls:=.type "list",dict:=none,data:=.seq its.toArray k })]++kd fp s5.heap) σ' H' s'->tn (i+1) s'.heap/\∀b∈fp,H' b=none:=λ{σ' H' s'} IB=>by refine⟨T.keep _ _ _ st5 λb hb o e=>(IB.pin (b,o) (Ny _ (Ny _ (gM hb e)))).1,λb hb=>?_⟩;obtain⟨o,e,d⟩:=T.obj _ _ st5 b hb;exact (IB.pin (b,o) (Ny _ (Ny _ (gM hb e)))).2.1
   cases ok with
   |false=>rw[if_neg x_] at q7;obtain⟨m',hm,w7⟩:=hNx _ _ _ q7;rw[if_neg x_];obtain⟨t7,f7⟩:=back I7;exact⟨m',hm,i+1,ys,its,k,σ6,H7,I7.unpinned,rv,t7,f7,w7⟩
   |
    true=>
    rw[if_pos rfl] at q7;rw[if_pos rfl];refine NF (he cl G2.objs.size s2 H2 fp _ s7 σ6 H7 _ I7 q7) (λy s8 zz=>exA zz λyv H8 I8 r8 q8=>?_) λ_ _ z=>z;obtain⟨m',hm,w8⟩:=hNx _ _ _ q8;obtain⟨t8,f8⟩:=back I8;have I9:=I8.unpinned;have hD9:=I9.pin (s2.heap.objs.size,{ cls:=.type "list",dict:=none,data:=.seq its.toArray k }) (Ny _ r_);have e9:s8.heap.get? s2.heap.objs.size=some { cls:=.type "list",dict:=none,data:=.seq its.toArray k }:=hD9.1;have a_:=rv.length;refine call_meets F.slot_list_append ⟨_,e9,rfl⟩ F.entry_list_append (F.args_list_append_2 _ _) (PySem.list_append _ its.toArray k y (by rw[y_];omega)) ⟨e9,?_⟩;have q9:=PySem.IsL.update e9 (λxs=>xs.push y);have ea:its.toArray.push y=(its++[y]).toArray:=by simp
    rw[ea] at q9;have k9:∀b o,b≠s2.heap.objs.size->s8.heap.get? b=some o->(s8.heap.update s2.heap.objs.size (Obj.mapSeq λxs=>xs.push y)).get? b=some o:=λb o hb e=>(Pq _ _ (Ne.symm hb)).trans e;have I10:Inv Y [] σ6 H8 { s8 with heap:=s8.heap.update s2.heap.objs.size (Obj.mapSeq λxs=>xs.push y) }:=
     (I9.pins_of (pins':=[]) (λp hp=>nomatch hp)).turned (t':=s8.toks) k9 hD9.2.1 hD9.2.2.1 (.inr (u_ _)) (λx c e z=>absurd (cellOld x c e) (by rw[z];exact N3 _))
      (λp hp=>absurd (show p∈([]:Qe) from hp) (by simp))
    refine⟨m',hm,i+1,ys++[yv],its++[y],_,σ6,H8,pinD I10 q9 (λv z=>by cases z) hD9.2.1,rv.append (.cons r8 .nil),?_,f8,w8⟩;exact T.keep _ _ _ t8 λb hb o e=>k9 b o (λz=>hDfp (by rw[<- z];exact hb)) e
 exact codeAny_compStart_list (loop _ rfl) (T.self _ 0 _ _ _ (T.keep _ _ _ st2 λb hb o e=>old b o e) (loop _ rfl))
def JL{elt iter tg:Expr}{ifs:List Expr}{scope:Scope}{pos:Pos}{wi:TI}{g:TG}{tc:TT}{te:TE}{N:List Str}{sub:Qg}
 (hc:X.calm=true) (hi:PI X tg iter wi)
 (hk:scope.kind=.function) (hnc:∀x∈scope.names,x.2 ≠ .cell) (f_:∀x∈scope.names,x.2=.local->scope.names.lookup x.1=some .local)
 (hfr:∀x∈scope.names,x.2=.free->X.env.kindOf x.1=some .cell\/X.env.kindOf x.1=some .free)
 (hsl:sub.length=N.length) (hsub:∀(j i:Nat) (x:Str),sub[j]?=some (some i)->N[j]?=some x->X.N[i]?=some x/\scope.names.lookup x=some .free)
 (hg:∀cl C s₂ H fp,PG (bT X N scope cl C s₂ H fp) tg g) (ht:∀cl C s₂ H fp,PTs (bT X N scope cl C s₂ H fp) ifs tc) (he:∀cl C s₂ H fp,PE (bT X N scope cl C s₂ H fp) elt te)
 (hs:∀x,foldedSetIterable iter X.env x=pure x):
 PE X (.ListComp elt [⟨tg,iter,ifs,0⟩] scope pos) (qt wi sub g tc te):=by
 intro pins s σ H Q I h;rw[eval_ListComp];refine vN hc hi hk hnc f_ hfr hsl hsub hg ht he hs I h λD C s4 e=>?_;obtain⟨m,hm⟩:=e.ns;obtain⟨H',_,q,i⟩:=e.inv;exact⟨m,hm,λh' hs'=>⟨.ref D,H',i h' hs',rfl,q⟩⟩
noncomputable def qM (M:List Str) (names:List (Str×NameKind)) (sub:Qg) (N:List Str):Bool:=(sub.zip N).all λp=>match p.1 with
 |none=>true
 |some i=>M[i]?==some p.2&&names.lookup p.2==some .free
def ur{M:List Str}{names:List (Str×NameKind)}{sub:Qg}{N:List Str}(h:qM M names sub N=true)(j i:Nat)(x:Str)(h1:sub[j]?=some (some i))(h2:N[j]?=some x):
 M[i]?=some x/\names.lookup x=some .free:=by
 unfold qM at h;rw[NC] at h;have hm:(some i,x)∈sub.zip N:=by refine O8 (i:=j) ?_;rw[List.getElem?_zip_eq_some];exact⟨h1,h2⟩
 have q:=h _ hm;simp only[v_,NB] at q;exact q
noncomputable def xa (kn names:List (Str×NameKind)):Bool:=names.all λx=>x.2 != .free || kn.lookup x.1==some .cell || kn.lookup x.1==some .free
def wa{kn names:List (Str×NameKind)}(h:xa kn names=true):∀x∈names,x.2=.free->kn.lookup x.1=some .cell\/kn.lookup x.1=some .free:=λx hx hf=>by unfold xa at h;rw[NC] at h;have q:=h x hx;rw[hf] at q;simpa using q
end
open PySem PySem.Spec PyProof.Rows PySem.W PySem.Builtin PySem.Builtin.ObjectAttr PySem.Builtin.Getset_descriptor
structure XCls(K:W.Frag)(C:Addr):Prop where
 cls:(clsIn K C).isSome=true
 ga:findIn K (.ref C) "__getattribute__"=some (some (.builtin "BaseException.__getattribute__"))
 gt:findIn K (.ref C) "__getattr__"=some none
 at_:findIn K (.ref C) "__class__"=some (some (.builtin "object.__class__"))
 gs:specialIn K (.builtin "object.__class__") "__get__"=some (some (.builtin "getset_descriptor.__get__"))
 tk:takesIn K (.builtin "object.__class__")=some true
 mo:mroIn K C (.type "object")=some true
 mb:mroIn K C (.type "BaseException")=some true
section
variable{prog:Program}{w:World}{A:Around}{E:Qf}{K:W.Frag}{x C:Addr}{o:Obj}
def jt(hx:h.get? x=some o)(hc:o.cls=.ref C):Looks M h (typeOf (.ref x)) (.ref C):=hc ▸ (Looks.ld hx).andThen .now
def CA(X:K.In h)(T:XCls K C):Looks M h (find (.ref x) (.ref C) "__class__") (.bind (.builtin "getset_descriptor.__get__") (.builtin "object.__class__")):=by have L1:=looks_findIn (M:=M) X T.at_;have L2:Looks M h (getOf (some (.builtin "object.__class__"))) (some (.builtin "getset_descriptor.__get__")):=looks_specialIn X T.gs;have L3:=looks_takesIn (M:=M) X T.tk;refine L1.andThen (L2.andThen ?_);exact (show Looks M h (dataDescriptor? (some (.builtin "object.__class__")) (some (.builtin "getset_descriptor.__get__"))) (some (.builtin "getset_descriptor.__get__",.builtin "object.__class__")) from L3.andThen .now).andThen (Looks.tag .now)
def pS(X:K.In s.heap)(hx:s.heap.get? x=some o)(hc:o.cls=.ref C)(T:XCls K C)
 (h:R (.ok (.ret (.ref C))) s):codeAny (model prog w) A (.call (.builtin "getset_descriptor.__get__") ⟨[.builtin "object.__class__",.ref x,tp],[]⟩) R s:=by
 obtain⟨hh,g,dr,t,os⟩:=s;have L0:=jt (M:=model prog w) hx hc;have L1:=looks_mroIn (M:=model prog w) X T.mo;refine codeAny_call_builtin KF.slot_gs.plain KF.entry_gs (KF.slot_gs.check _ _ _ _ _ _ _ _ KF.type_class (KF.args_gs _ _ _) ?_);unfold Builtin.«getset_descriptor.__get__» descrGet;rw[dga_obj];refine o_ (z_ ?_);unfold descrGetter descrCheckInstance descrNameAndClass isInstance;simp only[KF.owner_class];repeat lk
 refine⟨Code.quiet_builtin _ (by decide),PY KF.entry_class ?_⟩;unfold Builtin.«object.__class__» shownTypeOf;repeat lk
 exact h
def yL(X:K.In s.heap)(hx:s.heap.get? x=some o)(hc:o.cls=.ref C)(T:XCls K C)(hq:Q () s):
 wpAny M A (checkBuiltinCall "BaseException.__getattribute__" ⟨[.ref x,nameV],[]⟩) Q E s:=by
 obtain⟨h,g,dr,t,os⟩:=s;have hk:builtinKind "BaseException.__getattribute__"=some .slot:=by decide
 have hsplit:splitId "BaseException.__getattribute__"=some ("BaseException", "__getattribute__"):=by decide
 have ha:=PySem.F.args_bexc_ga (.ref x) nameV;have L0:=jt (M:=M) hx hc;have LM:=looks_mroIn (M:=M) X T.mb;have LI:Looks M h (isInstance (.ref x) (.type "BaseException")) true:=L0.andThen LM;simp only[checkBuiltinCall,hk,hsplit];refine o_ ?_;refine LI.at ?_;repeat (first |wp_step)
 all_goals exact hq
def JR(X:K.In s.heap)(hx:s.heap.get? x=some o)(hc:o.cls=.ref C)(T:XCls K C)(h:Q (some (.ref C)) { s with toks:=s.toks+1 }):
 wpAny (model prog w) A (getAttr? (.ref x) "__class__") Q E s:=by
 obtain⟨hh,g,d,t,os⟩:=s;have L0:=jt (M:=model prog w) hx hc;have L1:=looks_findIn (M:=model prog w) X T.ga;have L2:=looks_findIn (M:=model prog w) X T.gt;have LF:=CA (M:=model prog w) (x:=x) X T;have f3:=PySem.F.excAttr_ValueError.ga.bind (.ref x);have hx2:(Value.builtin "BaseException.__getattribute__" == Value.builtin "object.__getattribute__")=false:=by decide
 unfold getAttr? getAttrBy? getAttrBy;refine o_ (wpAny_mkText (o_ (Py (N9 (o_ (L0.at (o_ (L1.at ?_))))))));dsimp only;rw[if_neg (by rw[hx2];simp)];unfold getAttrByItsOwn hookBefore;rw[if_pos (show onTheHeap (Value.ref C)=true from rfl)];refine o_ (L2.at ?_);unfold callGetattribute;refine o_ (Py (N9 ?_));rw[if_neg (by simp)];unfold boundAndCalled;refine o_ (wpAny_of_eq f3 ?_);refine wpAny_call (codeAny_call_builtin PySem.F.excAttr_ValueError.ga.plain PySem.F.entry_bexc_ga (yL X hx hc T ?_));unfold Builtin.«object.__getattribute__»;repeat (first |(refine o_ (L0.at ?_)) |(refine o_ (LF.at ?_)) |wp_step)
 refine pS (s:=⟨hh,g,d,t+1,os⟩) X hx hc T ?_;repeat (first |exact h |wp_step)
def ye(x:Addr)(C:Addr)(h:Heap):Prop:=∃o vs,h.get? x=some o/\o.cls=.ref C/\o.data=.fields vs
def Dt(T:XCls K C):KitX K (.ref x) (.ref C) (ye x C) where
 ty:=λM h _ ⟨o,_,hx,hc,_⟩=>jt hx hc
 it:=λM h X _=>by
  obtain⟨cd,n_⟩:=Ou.mp T.cls;unfold clsIn at n_;split at n_
  .rename_i c' d' cd' sl' ho;intro A' Q' E' s' k q;unfold isType loadHead;exact o_ (wpAny_loadPart (k _ _ (X _ _ ho)) (z_ q))
  .cases n_
 ne:=λh tp dd its n sl X htp=>by
  obtain⟨cd,n_⟩:=Ou.mp T.cls;refine Bool.eq_false_iff.mpr λq=>?_;have e:C=tp:=Value.ref.inj (NB.mp q);subst e;unfold clsIn at n_;split at n_
  .rename_i c' d' cd' sl' ho;have z:=(X _ _ ho).symm.trans htp;cases z
  .cases n_
 ca:=λX ⟨o,_,hx,hc,_⟩ k=>JR X hx hc T k
end
inductive TyX(K:W.Frag)(H:Hp):V->Value->Prop where
 |of {x:V}{t:Value} (h:TyOf K H x t):TyX K H x t
 |exc {a C:Addr} (e:H a=some (.ext (ye a C))) (T:XCls K C):TyX K H (.ref a) (.ref C)
 |sqT {a:Addr}{xs:List V} (h:SqT K H a xs):TyX K H (.ref a) (.type "tuple")
 |sqL {a:Addr}{xs:List V} (h:SqL K H a xs):TyX K H (.ref a) (.type "list")
section
variable{X:Cx}{pins:Qe}{σ:St}{H:Hp}{s:Shared}{c:Value}
def vm(I:Inv X pins σ H s)(rx:RelV x u)(ty:TyX X.K H x t):∃Hh:Heap->Prop,KitX X.K u t Hh/\Hh s.heap/\u ≠ .builtin "__main__.__loader__#opaque":=by
 cases ty with
 |exc ea T=>cases (show u=Value.ref _ from rx);exact⟨_,Dt T,(I.hok _ _ ea).1,λz=>nomatch z⟩
 |sqT h=>cases (show u=Value.ref _ from rx);obtain⟨its,rv,⟨o,e,c,_⟩,_⟩:=I.tuple h;exact⟨_,kitx_tuple,⟨o,e,c⟩,λz=>nomatch z⟩
 |sqL h=>cases (show u=Value.ref _ from rx);obtain⟨its,rv,⟨o,n,e,c,_⟩,_⟩:=I.list h;exact⟨_,kitx_list,⟨o,e,c⟩,λz=>nomatch z⟩
 |
  of ty=>
  cases ty with
  |non=>cases (show u=Value.none from rx);exact⟨_,kitx_none,True.intro,λz=>nomatch z⟩
  |bl y=>cases (show u=Value.bool y from rx);exact⟨_,kitx_bool,True.intro,λz=>nomatch z⟩
  |int i=>obtain⟨t,q⟩:=(show ∃t,u=Value.int i t from rx);cases q;exact⟨_,kitx_int,True.intro,λz=>nomatch z⟩
  |str y=>obtain⟨t,q⟩:=(show ∃t,u=Value.str y t from rx);cases q;exact⟨_,kitx_str,True.intro,λz=>nomatch z⟩
  |flt y=>obtain⟨t,q⟩:=(show ∃t,u=Value.float y t from rx);cases q;exact⟨_,kitx_float,True.intro,λz=>nomatch z⟩
  |@lst a xs ea=>cases (show u=Value.ref a from rx);obtain⟨_,_,n,_,h1⟩:=(show ObjOk X.prog X.w H s.heap a (.lst xs) from I.hok a _ ea);exact⟨_,kitx_list,⟨_,h1,rfl⟩,λz=>nomatch z⟩
  |@frz a ob xs ea=>cases (show u=Value.ref a from rx);obtain⟨_,_,_,n,_,h1⟩:=(show ObjOk X.prog X.w H s.heap a (.frz ob (.lst xs)) from I.hok a _ ea);exact⟨_,kitx_list,⟨_,h1,rfl⟩,λz=>nomatch z⟩
  |@tup a xs ea=>cases (show u=Value.ref a from rx);obtain⟨_,_,_,p⟩:=(show ObjOk X.prog X.w H s.heap a (.tup xs) from I.hok a _ ea);obtain⟨o,h1,h2,_⟩:=p;exact⟨_,kitx_tuple,⟨o,h1,h2⟩,λz=>nomatch z⟩
  |@dK a kvs ea=>cases (show u=Value.ref a from rx);obtain⟨_,_,vs,_,p⟩:=(show ObjOk X.prog X.w H s.heap a (.dK kvs) from I.hok a _ ea);obtain⟨o,es,ep,h1,h2,_⟩:=p;exact⟨_,kitx_dict,⟨o,h1,h2.1⟩,λz=>nomatch z⟩
  |@dT a kvs ea=>cases (show u=Value.ref a from rx);obtain⟨_,_,xs,_,o,es,ep,h1,h2,_⟩:=(show ObjOk X.prog X.w H s.heap a (.dT kvs) from I.hok a _ ea);exact⟨_,kitx_dict,⟨o,h1,h2.1⟩,λz=>nomatch z⟩
  |@ins a C dx fs ea cl ha hn htk hm=>cases (show u=Value.ref a from rx);obtain⟨mA,O,_⟩:=Gi I.hok ea;obtain⟨od,J,_⟩:=O.look;exact⟨_,kitx_own (cl.get _) cl.hd ha hn htk hm,J,λz=>nomatch z⟩
end
section
variable{X:Cx}
noncomputable def gd:V->Option Value
 |.ref C=>some (.ref C)
 |.ty T=>some (.type T)
 |_=>none
def tF(h:gd c=some v)(r:RelV c u):u=v:=by
 cases c with
 |ref C=>cases r;exact J_ h
 |ty T=>cases r;exact J_ h
 |_=>cases h
theorem o8:∀{cs:List V}{us vs:List Value},cs.mapM gd=some vs->Vals cs us->us=vs
 |
  [],_,vs,h,.nil=>by
  have h':some ([]:List Value)=some vs:=h;exact J_ h'
 |
  c::cs,_,vs,h,.cons r rr=>by
  rw[List.mapM_cons] at h;cases q:gd c with
  |none=>rw[q] at h;cases h
  |
   some v=>
   rw[q] at h;cases q2:cs.mapM gd with
   |none=>rw[q2] at h;cases h
   |some vs'=>rw[q2] at h;have h':some (v::vs')=some vs:=h;cases h';rw[tF q r,o8 q2 rr]
def BV:CallR X (.builtin "isinstance") (λxs H Q=>∃x c t v b,xs=[x,c]/\TyX X.K H x t/\gd c=some v/\kitOne X.K t v=some b/\Q (.bl b) H):=by intro pins s σ H xs us Q I r h;obtain⟨x,c,t,v,b,rfl,ty,hc,hk,q⟩:=h;obtain⟨u,w',rfl,rx,rc⟩:=qu r;obtain rfl:=tF hc rc;obtain⟨Hh,Z,p,hne⟩:=vm I rx ty;exact kia_one Z I.kIn p hk hne λtk=>⟨.bl b,H,I.tok _,rfl,q⟩
end
def ObjOk.there(x:ObjOk P w H h a o):∃u,h.get? a=some u:=by
 cases o with
 |lst xs=>obtain⟨_,_,_,_,e⟩:=x;exact⟨_,e⟩
 |tup xs=>obtain⟨_,_,_,ob,e,_⟩:=x;exact⟨_,e⟩
 |dK kvs=>obtain⟨_,_,_,_,o,_,_,e,_⟩:=x;exact⟨_,e⟩
 |dT kvs=>obtain⟨_,_,_,_,o,_,_,e,_⟩:=x;exact⟨_,e⟩
 |set S n=>obtain⟨o,_,_,_,e,_⟩:=x;exact⟨_,e⟩
 |ins C dx fs=>obtain⟨_,_,_,e,_⟩:=x;exact⟨_,e⟩
 |own y=>exact x
 |xd fs=>obtain⟨_,⟨_,_,_,e,_⟩,_⟩:=x;exact⟨_,e⟩
 |rng lo hi=>obtain⟨_,_,_,e⟩:=x;exact⟨_,e⟩
 |frz ob u=>obtain⟨e,_⟩:=x;exact⟨_,e⟩
 |tbl ps=>exact⟨_,show h.get? a=some _ from x⟩
 |met f y=>exact⟨_,show h.get? a=some _ from x⟩
 |ext φ=>obtain⟨_,e,_⟩:=x;exact e
structure Fly(P:Program)(w:World)(outer:List Env)(H:Hp)(h₀:Heap)(H':Hp)(ea:Addr)(cls:Value)(h:Heap)(B:Heap)(t:Addr):Prop where
 un:Un (frs outer) [] H H' h₀ h
 hok:HOk P w H' h
 fl:Heap.FlyingW B outer ea cls (.ref t) h
 old:∀b o,h₀.get? b=some o->b∉frs outer->∃o',B.get? b=some o'
 trk:∀b o,H' b=some o->∃o',B.get? b=some o'
def CX1(P:Program)(w:World):CXT:=λouter H s E e s'=>∃(ea t:Addr) (cls:Value) (H':Hp) (B:Heap),e=.ref ea/\s'.os=s.os/\AllBare s'.gens/\Fly P w outer H s.heap H' ea cls s'.heap B t/\E cls none H'
def sj(h:env.frame=some L):frs (env::outer)=L::frs outer:=by unfold frs;rw[Ox,h]
section
variable{P:Program}{w:World}{outer:List Env}{H H':Hp}{h₀ h h' B:Heap}{ea t:Addr}{cls:Value}
def Fly.step(F:Fly P w outer H h₀ H' ea cls h B t)(fl':Heap.FlyingW B outer' ea cls (.ref t) h')(up:h.UpToSlots h'):
 Un (frs outer) [] H H' h₀ h'/\HOk P w H' h':=by
 have st:=F.fl.1;have same:∀b o,(∃o',B.get? b=some o')->h.get? b=some o->h'.get? b=some o:=λb o ⟨o',e⟩ q=>by have z:=st b o' e;rw[q] at z;cases z;exact fl'.1 b _ e
 have frame:∀b o,b∈frs outer->h.get? b=some o->∃sl,h'.get? b=some { o with slots:=sl }:=λb o hb q=>by obtain⟨_,o',ho',hd⟩:=F.fl.2.2.1.mem hb;rw[q] at ho';cases ho';exact up b o q hd
 refine⟨⟨λb o e n hb hx=>same b o (F.old b o e hb) (F.un.keep b o e n hb hx),λb o e n hb hx=>?_,F.un.free,λb o e hx=>?_,F.un.tups,F.un.frzs,F.un.tbls⟩,λa o e=>?_⟩
 .obtain⟨sl,q⟩:=F.un.slot b o e n hb hx;obtain⟨sl',q'⟩:=frame b _ hb q;exact⟨sl',q'⟩
 .obtain⟨o',q⟩:=F.un.there b o e hx;by_cases hb:b∈frs outer
  .obtain⟨sl,q'⟩:=frame b _ hb q;exact⟨_,q'⟩
  .exact⟨o',same b o' (F.old b o e hb) q⟩
 .refine (F.hok a o e).stay (λb u hb q=>same b u ?_ q) (λ_ q=>q) λ_ _ q=>q;rcases hb with z |z
  .rw[z];exact F.trk a o e
  .exact F.trk b _ z
end
structure Cx.Top(X:Cx):Prop where
 ex:X.ex=[]
 stk:X.stack=X.env::X.outer
 fr:X.env.frame=some X.env.locals
section
variable{X:Cx}{pins:Qe}{σ:St}{H:Hp}{s s':Shared}{E:XK}{e:Value}
def zZ(T:X.Top)(hA:A.frames=some X.stack)(I:Inv X pins σ H s)(h:CX1 X.prog X.w X.stack H s E e s'):
 wpAny (model X.prog X.w) A (leaving X.env e) (λ_ s''=>CX1 X.prog X.w X.outer X.H₀ X.s₀ E e s'') E' s':=by
 obtain⟨ea,t,cls,H',B,rfl,os,bare,F,q⟩:=h;have F0:=F;rw[T.stk] at F;have hf:=sj (outer:=X.outer) T.fr;refine wpAny_leaves_onW (by rw[hA,T.stk]) T.fr F.fl λh'' fl'' up=>?_;obtain⟨un2,hok2⟩:=F.step fl'' up;have exn:∀b,b∉X.ex:=λb z=>by rw[T.ex] at z;cases z
 have neL:∀b o,X.s₀.heap.get? b=some o->b≠X.env.locals:=λb o e=>Nn (I_ (A_ e) I.ok.above);have notin:∀b o,X.s₀.heap.get? b=some o->b∉frs X.outer->b∉frs (X.env::X.outer):=λb o e hb z=>by
  rw[hf] at z;rcases G_.mp z with z |z
  .exact neL b o e z
  .exact hb z
 refine⟨ea,t,cls,H',B,rfl,os.trans I.os,bare,⟨⟨λb o e n hb hx=>?_,λb o e n hb hx=>?_,λb o e n hx=>?_,λb o e hx=>?_,λb xs e=>un2.tups b xs (I.base.tups b xs e),λb o xs e=>un2.frzs b o xs (I.base.frzs b o xs e),λb ps e=>?_⟩,hok2,fl'',λb o e hb=>?_,F.trk⟩,q⟩
 .exact un2.keep b o (I.base.keep b o e n hb (exn b)) (I.base.free b o e n (exn b)) (notin b o e hb) (by simp)
 .obtain⟨sl,e1⟩:=I.base.slot b o e n hb (exn b);obtain⟨sl',e2⟩:=un2.slot b _ e1 (I.base.free b o e n (exn b)) (by rw[hf];exact q_ _ hb) (by simp);exact⟨sl',e2⟩
 .obtain⟨o',e1⟩:=I.base.there b o e (exn b);exact un2.free b o' e1 (I.base.free b o e n (exn b)) (by simp)
 .obtain⟨o',e1⟩:=I.base.there b o e (exn b);exact un2.there b o' e1 (by simp)
 .obtain⟨m1,e1⟩:=I.base.tbls b ps e;obtain⟨m2,e2⟩:=un2.tbls b _ e1;exact⟨m1++m2,by rw[e2,Array.append_assoc]⟩
 .obtain⟨o',e1⟩:=I.base.there b o e (exn b);exact F.old b o' e1 (notin b o e hb)
def BW(T:X.Top)(hA:A.frames=some X.stack)(I:Inv X pins σ H s)(hx:Heap.MadeExcOf s.heap h' ea cls args)(q:E cls none H):
 wpAny (model X.prog X.w) A (leaving X.env (.ref ea)) (λ_ s''=>CX1 X.prog X.w X.outer X.H₀ X.s₀ E (.ref ea) s'') E' { s with heap:=h' }:=by
 have hf:=sj (outer:=X.outer) T.fr;have stk:=I.stack;rw[T.stk] at stk;have hin:∀env∈(X.env::X.outer),∀b,env.frame=some b->b∈frs (X.env::X.outer):=λenv he b hb=>List.mem_filterMap.mpr ⟨env,he,hb⟩;refine wpAny_leaves_madeW (base:=W.hideAll s.heap (frs (X.env::X.outer))) (h:=s.heap) (by rw[hA,T.stk]) T.fr (λb o q=>W.of_hideAll _ q) (W.funFrames_hide stk hin) hx λh'' t fl tup tn up=>?_;have inB:∀b o,s.heap.get? b=some o->b∉frs (X.env::X.outer)->(W.hideAll s.heap (frs (X.env::X.outer))).get? b=some o:=λb o e hb=>W.hideAll_get _ e hb;have free:∀b∈frs (X.env::X.outer),H b=none:=λb hb=>I.stkFree b (by rw[T.stk];exact hb);have up2:s.heap.UpToSlots h'':=(Heap.UpToSlots.of_keeps hx.keeps).trans up;have exn:∀b,b∉X.ex:=λb z=>by rw[T.ex] at z;cases z
 have neL:∀b o,X.s₀.heap.get? b=some o->b≠X.env.locals:=λb o e=>Nn (I_ (A_ e) I.ok.above);have notin:∀b o,X.s₀.heap.get? b=some o->b∉frs X.outer->b∉frs (X.env::X.outer):=λb o e hb z=>by
  rw[hf] at z;rcases G_.mp z with z |z
  .exact neL b o e z
  .exact hb z
 have trk:∀b o,H b=some o->∃o',(W.hideAll s.heap (frs (X.env::X.outer))).get? b=some o':=λb o e=>by obtain⟨u,hu⟩:=(I.hok b o e).there;exact⟨u,inB b u hu λz=>by rw[free b z] at e;cases e⟩
 refine⟨ea,t,cls,H,_,rfl,I.os,I.bare,⟨⟨λb o e n hb hx=>?_,λb o e n hb hx=>?_,λb o e n hx=>?_,λb o e hx=>?_,I.base.tups,I.base.frzs,I.base.tbls⟩,λa o e=>?_,fl,λb o e hb=>?_,trk⟩,q⟩
 .exact fl.1 b o (inB b o (I.base.keep b o e n hb (exn b)) (notin b o e hb))
 .obtain⟨sl,e1⟩:=I.base.slot b o e n hb (exn b);obtain⟨_,o',ho',hd⟩:=I.ok.funs.mem hb;rw[e] at ho';cases ho';obtain⟨sl',e2⟩:=up2 b _ e1 hd;exact⟨sl',e2⟩
 .exact I.base.free b o e n (exn b)
 .obtain⟨o',e1⟩:=I.base.there b o e (exn b);by_cases hb:b∈frs X.outer
  .obtain⟨_,o2,ho2,hd⟩:=I.funs.mem hb;rw[e1] at ho2;cases ho2;obtain⟨sl',e2⟩:=up2 b _ e1 hd;exact⟨_,e2⟩
  .exact⟨o',fl.1 b o' (inB b o' e1 (notin b o e hb))⟩
 .refine (I.hok a o e).stay (λb u hb q=>?_) (λ_ q=>q) λ_ _ q=>q;refine fl.1 b u (inB b u q λz=>?_);rcases hb with y |y
  .rw[y] at z;rw[free a z] at e;cases e
  .rw[free b z] at y;cases y
 .obtain⟨o',e1⟩:=I.base.there b o e (exn b);exact⟨o',inB b o' e1 (notin b o e hb)⟩
end
section
variable{P:Program}{w:World}{K:W.Frag}{mg:Qd}{base:Heap}{N:List Str}{qual:Str}{scope:Scope}{f:Addr}{cd:Value}{A:Around}{outer:List Env}{s:Shared}{H:Hp}{E:XK}
def Ex:(eR (CX1 P w) P w K mg base N qual scope f cd A outer s H E).Top:=⟨rfl,rfl,rfl⟩
def Eh:tN (CX1 P w) (eR (CX1 P w) P w K mg base N qual scope f cd A outer s H E) E:=λpins σ H s e s' I h=>zZ Ex I.ok.frames I h
def KS:tN (CX1 P w) X E0:=λpins σ H s e s' I ⟨_,_,_,_,_,_,_,_,_,q⟩=>q.elim
def own1:PassesOwn (model P w) (eR (CX1 P w) P w K mg base N qual scope f cd A outer s H E).A (eR (CX1 P w) P w K mg base N qual scope f cd A outer s H E).env (eR (CX1 P w) P w K mg base N qual scope f cd A outer s H E).xe:=PassesOwn.leaving
def Rz(X:Cx)(E:XK):Prop:=∀(pins:Qe) (σ:St) (H:Hp) (s:Shared) (h':Heap) (ea:Addr) (cls:Value) (args:List Value),Inv X pins σ H s->Heap.MadeExcOf s.heap h' ea cls args->E cls none H->X.xe (.ref ea) { s with heap:=h' }
def rz1:Rz (eR (CX1 P w) P w K mg base N qual scope f cd A outer s H E) E:=λpins σ H s h' ea cls args I hx q=>BW Ex I.ok.frames I hx q
def Fun.okR{x qual:Str}{st:Stmt}{f:Addr}{fd:FuncData}{N ps:List Str}{k:Nat}{sp:Sp}(F:Fun K x qual st f fd)(S:FnScope N ps (ar st))(len:∀vs H Q E,sp vs H Q E->vs.length=ps.length)
 (j_:∀(cdv:Value) (A:Around) (outer:List Env) (s:Shared) (H:Hp) (vs:List V) (Q:VK) (E:XK),Room k (A.deeper (envOfC qual (ar st) s.heap.objs.size f cdv))->sp vs H Q E->
  ∃t,PSs (eR (CX1 P w) P w K mg base N qual (ar st) f cdv A outer s H E) (bH st) t/\t { nx:=λ_ H'=>Q .non H',rt:=Q } (gv N vs) H):FnOk P w K mg base (CX1 P w) (k+1) f fd ps sp:=by
 obtain⟨oc,od,kV,doc,pm,an,cdv,ct,osl,rfl,lk,n_⟩:=F.ex;exact DU lk n_ S len λA outer s H vs Q E hr hsp=>j_ cdv A outer s H vs Q E hr hsp
end
abbrev n9:List Value:=[.type "ValueError",.type "Exception",.type "BaseException",.type "object"]
def A7{K:W.Frag}{h:Heap}{C:Addr}(X:K.In h)(q:W.excIn K C n9 "ValueError.__new__"=true):
 ∃bm N nm q' bs hdct sn sub ab col dd k0 k1 k2 k3 k5 mN,h.get? C=some (excClassObj nm q' C N bs bm hdct sn sub ab col dd k0 k1 k2 k3 k5 "ValueError.__new__")/\h.Ns N mN/\mN "__init__"=none/\OwnTail h n9 bm:=by
 unfold W.excIn at q;split at q
 .rename_i dd cd sl ho;split at q
  .rename_i C' bm k0 k1 k2 k3 n k5 hm hs;simp only[v_,NB,O1] at q;obtain⟨⟨⟨⟨⟨rfl,rfl⟩,hdel⟩,ht⟩,hok⟩,hni⟩:=q;obtain⟨nm,bs,mro,ns,qn,hd,sn,sub,ab,col,del⟩:=cd;dsimp only at hm hdel hok hni;subst hm hdel;have hsl:sl=#[k0,k1,k2,k3,some (.builtin "ValueError.__new__"),k5]:=by obtain⟨l⟩:=sl;simp only at hs;rw[hs]
   subst hsl;exact⟨bm,ns,nm,qn,bs,hd,sn,sub,ab,col,dd,k0,k1,k2,k3,k5,_,X _ _ ho,.of_isNs (W.isNs_of_in X hok),W.nsMap_none_of_in X hok hni,W.tail_of_in X ht⟩
  .cases q
 .cases q
section
variable{X:Cx}{x:Str}{C:Addr}{E:XK}{np cpos pos:Pos}{e₀:Expr}{es:List Expr}{ta:TA}
def Jx(C:Addr)(E:XK)(ta:TA):TS:=λ_ σ H=>ta σ H λvs H1=>vs.length<=sizeLine/\E (.ref C) none H1
def Cp(hc:X.calm=true)(hR:Rz X E)(hg:Gl X x)(hm:X.mg x=some (.ref C))(hq:W.excIn X.K C n9 "ValueError.__new__"=true)(ha:PA X (e₀::es) ta)
 (he:starEach (e₀::es) X.env=(false,eval e₀ X.env)::starEach es X.env) (c_:(backTo cpos (starEach es X.env)).any (·.1)=false) (hd:(x==("__debug__" : Str))=false):
 PS X (.Raise (some (.Call (.Name x np) (e₀::es) [] cpos)) none pos) (Jx C E ta):=by
 intro pins s σ H D I h;obtain⟨bm,N,nm,q',bs,hdct,sn,sub,ab,col,dd,k0,k1,k2,k3,k5,mN,hC,hN,hni,T⟩:=A7 I.ok.mod.kin hq;refine wpAny_Raise_call_subT (C:=C) (nm:=nm) (q:=q') (N:=N) (bs:=bs) (bm:=bm) (hdct:=hdct) (sn:=sn) (sub:=sub) (ab:=ab) (col:=col) (dd:=dd) (k0:=k0) (k1:=k1) (k2:=k2) (k3:=k3) (k5:=k5)
  PySem.F.excBase_ValueError (mN:=mN) (T.hasType PySem.F.excBase_ValueError.hasBase) (I.ok.hd hc) (by rw[he];show (false || (backTo cpos (starEach es X.env)).any (·.1))=false;rw[c_];rfl) hni (oA I hg hm ⟨rfl,?_⟩ hd)
 have hA:=ha cpos pins s σ H _ I h;rw[he] at hA ⊢;refine Calls.evalArgs_plain (thn hA λus s2 ⟨vs,H2,I2,r2,hz,q2⟩=>⟨rfl,by rw[<- r2.length];exact hz,I2.bk _ _ hC,hN.keeps I2.bk,T.keeps I2.bk,λh' e hm'=>?_⟩);exact hR pins σ H2 s2 h' e _ _ I2 hm' q2
end
abbrev XS:=St->XK
abbrev TEx:=St->Hp->VK->XK->Prop
abbrev TSx:=Ends->XS->St->Hp->Prop
def XP(X:Cx)(pins:Qe)(E:XS)(e:Value)(s':Shared):Prop:=∃σ1 H1 s1,Inv X pins σ1 H1 s1/\CX1 X.prog X.w X.stack H1 s1 (E σ1) e s'
structure XHand(K:W.Frag)(C:Addr):Prop where
 ty:W.typeIn K (.ref C)=some (.type "type")
 cls:(W.clsIn K C).isSome=true
 mb:W.mroIn K C (.type "BaseException")=some true
mutual
inductive Rep(K:W.Frag)(H:Hp):V->PyData->Prop where
 |non:Rep K H .non .none
 |bl (b:Bool):Rep K H (.bl b) (.bool b)
 |int (i:Int):Rep K H (.int i) (.int i)
 |str (x:Str):Rep K H (.str x) (.str x)
 |tup {a:Addr}{xs:List V}{ds:List PyData} (h:SqT K H a xs) (r:Reps K H xs ds):Rep K H (.ref a) (.tuple ds)
 |lst {a:Addr}{xs:List V}{ds:List PyData} (h:SqL K H a xs) (r:Reps K H xs ds):Rep K H (.ref a) (.list ds)
inductive Reps(K:W.Frag)(H:Hp):List V->List PyData->Prop where
 |nil:Reps K H [] []
 |cons {x:V}{d:PyData}{xs:List V}{ds:List PyData} (r:Rep K H x d) (rr:Reps K H xs ds):Reps K H (x::xs) (d::ds)
end
section
variable{X:Cx}{pins:Qe}{σ:St}{H:Hp}{s:Shared}{K:W.Frag}
def Rep.reads(I:Inv X pins σ H s)(r:Rep X.K H v d)(q:RelV v u):∃as,Reads s.heap u d as:=
 Rep.rec (motive_1:=λv d _=>∀u,RelV v u->∃as,Reads s.heap u d as) (motive_2:=λvs ds _=>∀us,Vals vs us->∃as,ReadsAll s.heap us ds as)
  (λu r=>by cases r;exact⟨_,.none⟩) (λb u r=>by cases r;exact⟨_,.bool b⟩) (λi u r=>by obtain⟨t,rfl⟩:=r;exact⟨_,.int i t⟩) (λx u r=>by obtain⟨t,rfl⟩:=r;exact⟨_,.str x t⟩)
  (λh _ ih u r=>by cases r;obtain⟨its,rv,⟨o,e,c,n,d⟩,_⟩:=I.tuple h;obtain⟨as,q⟩:=ih _ rv;exact⟨as,.tuple e c d (by simpa using q)⟩)
  (λh _ ih u r=>by cases r;obtain⟨its,rv,⟨o,n,e,c,_,d⟩,_⟩:=I.list h;obtain⟨as,q⟩:=ih _ rv;exact⟨_,.list e c d (by simpa using q)⟩)
  (λus r=>by cases r;exact⟨_,.nil⟩)
  (λ_ _ a b us q=>by
   cases q with
   |cons q1 q2=>obtain⟨as,h1⟩:=a _ q1;obtain⟨bs,h2⟩:=b _ q2;exact⟨_,.cons h1 h2⟩) r u q
end
section
variable{X:Cx}
noncomputable def shp (d:PyData):Bool:=d.canLay0&&decide (d.depth<=160)
def gn(h:shp d=true):d.canLay0=true:=(Bool.and_eq_true_iff.mp h).1
def lO{A:Around}{d e:PyData}(h:shp d=true)(hu:A.units+180<cLine):A.units+min d.depth e.depth<cLine:=by have h1:d.depth<=160:=O4 (Bool.and_eq_true_iff.mp h).2;have h2:min d.depth e.depth<=d.depth:=Nat.min_le_left _ _;omega
def Co(K:W.Frag):R2:=λx y H Q=>∃dx dy,Rep K H x dx/\Rep K H y dy/\shp dx=true/\shp dy=true/\Q (.bl (PyData.eqv dx dy)) H
def Bo(K:W.Frag):R2:=λx y H Q=>∃dx dy,Rep K H x dx/\Rep K H y dy/\shp dx=true/\shp dy=true/\Q (.bl (!PyData.eqv dx dy)) H
def GW(hu:X.A.units+180<cLine):OpR X (compareOp .Eq) (Co X.K):=by intro pins s σ H x y v u Q I rx ry h;obtain⟨dx,dy,r1,r2,h1,h2,q⟩:=h;obtain⟨as,q1⟩:=r1.reads I rx;obtain⟨bs,q2⟩:=r2.reads I ry;exact SeqAt.compareEq_reads q1 q2 (gn h1) (gn h2) (lO h1 hu) (zk I q rfl)
def Hc(hu:X.A.units+180<cLine):OpR X (compareOp .NotEq) (Bo X.K):=by intro pins s σ H x y v u Q I rx ry h;obtain⟨dx,dy,r1,r2,h1,h2,q⟩:=h;obtain⟨as,q1⟩:=r1.reads I rx;obtain⟨bs,q2⟩:=r2.reads I ry;exact SeqAt.compareNe_reads q1 q2 (gn h1) (gn h2) (lO h1 hu) (zk I q rfl)
open PySem.Builtin.Int (intBits)
def CDivB(i j:Int):Prop:=j≠0/\intBits j<=8000
def Ef(i j:Int):Prop:=intBits i<=100000/\intBits j<=100000
def CK:OpR X (binaryOp .FloorDiv) (rI CDivB λi j=>.int (i.fdiv j)):=opI λi j _ _ _ _ _ hc q=>floordiv_int hc.1 q (.inl (PyProof.noPylong_of_log2 (by
 have h:=hc.2;have h0:=hc.1;unfold intBits at h;have hb:(j==0)=false:=by simpa using h0
 rw[hb] at h;simp only[OV,PH] at h;omega)))
def E2:OpR X (binaryOp .Mult) (rI Ef λi j=>.int (i*j)):=opI λi j _ _ _ _ _ hc q=>mul_int q (PySem.IntMulOk.of_le hc.1 hc.2 (by decide))
def AF(bs:List Bool):((List.range bs.length).all λi=>bs.getD i false)=bs.all id:=by
 rw[PK,NC,NC];constructor
 .intro h x hx;obtain⟨i,hi,rfl⟩:=List.mem_iff_getElem.mp hx
  have:=h i (M_.mpr hi)
  simpa [L_,hi] using this
 .intro h i hi;have hi':=M_.mp hi
  have:=h bs[i] (Oz hi')
  simpa [L_,hi'] using this
def Dq(hc:X.calm=true):CallR X (.builtin "all") (λxs H Q=>∃(a:Addr) (bs:List Bool),xs=[.ref a]/\SqL X.K H a (bs.map V.bl)/\Q (.bl (bs.all id)) H):=by
 intro pins s σ H xs us Q I r h;obtain⟨a,bs,rfl,hq,q⟩:=h;obtain⟨u,rfl,ru⟩:=eO r;cases ru;obtain⟨its,rv,p,hz⟩:=I.list hq;have hl:=rv.length;rw[p_] at hl;have hlt:a<s.heap.objs.size:=by obtain⟨o,n,e,_⟩:=p;exact A_ e
 refine call_all_walk (wpAny_pyIter_list p.isList ?_);refine⟨s.heap.objs.size,_,_,_,_,_,λi=>bs.getD i false,rfl,Walks.list (A:=X.A.in1) (I.ok.hd hc) s.heap.objs.size a (Nn hlt) its.toArray,⟨⟨_,F_ _ rfl,rfl,rfl⟩,(p.keeps λb o e=>s_ _ e).isList⟩,λi v s' Q' E' hP hQ=>?_,λh' tk hk=>?_⟩
 .have hP':its[i]?=some v:=by simpa using hP
  have hi:i<bs.length:=by rw[hl];exact (C_.mp hP').1
  have hb:(bs.map V.bl)[i]?=some (V.bl bs[i]):=by simp [hi]
  obtain⟨u,hu,ru⟩:=rv.get hb;rw[hP'] at hu;cases hu;cases ru;refine OO ?_;have e:bs.getD i false=bs[i]:=by simp [L_,hi]
  show Q' bs[i] s';rw[<- e];exact hQ
 .have e1:its.toArray.size=bs.length:=by rw[y_,hl]
  rw[e1,AF];have hn:H s.heap.objs.size=none:=I.fresh;have I1:Inv X pins σ H { s with heap:=s.heap.push { cls:=.type "list_iterator",dict:=none,data:=.fields #[.ref a,rawInt 0] } }:=I.kept (t':=s.toks) λb o e=>s_ _ e;refine⟨.bl _,H,?_,rfl,q⟩;refine I.kept (t':=tk) λb o e=>?_;have hne:b≠s.heap.objs.size:=Nn (A_ e);exact hk b o (by simpa using hne) (s_ _ e)
end
structure Def(K:W.Frag)(mg:Qd)(x:Str)(st:Stmt):Prop where
 ex:∃f fd,Fun K x x st f fd/\mg x=some (.ref f)
def AW{K:W.Frag}{h:Heap}{mg:Qd}{x:Str}{st:Stmt}{f:Addr}{oc:Value}{od an:Option Addr}{osl:Array (Option Value)}{kV doc pm cdv ct:Value}(X:K.In h)(G:h.Ns mainGlobals mg)
 (a:W.nsIn K mainGlobals x=some (some (.ref f))) (l:K.lookup f=some ⟨oc,od,.func (W.fnOf x x (dC st) (bH st) (ar st) .none kV doc pm an cdv ct),osl⟩)
 (c:W.codeIn K cdv x=true) (k:W.keepIn K (.ref f)=true):Def K mg x st:=⟨f,_,IC l c k,W.mg_of X G a⟩
def Fun.look{K:W.Frag}{x qual:Str}{st:Stmt}{f:Addr}{fd:FuncData}(F:Fun K x qual st f fd):∃oc od osl,K.lookup f=some ⟨oc,od,.func fd,osl⟩:=by obtain⟨oc,od,kV,doc,pm,an,cdv,ct,osl,rfl,lk,n_⟩:=F.ex;exact⟨oc,od,osl,lk⟩
structure Callee(P:Program)(w:World)(K:W.Frag)(mg:Qd)(base:Heap)(x:Str)(k:Nat)(ps:List Str)(sp:Sp):Prop where
 ex:∃f fd,FnOk P w K mg base (CX1 P w) k f fd ps sp/\mg x=some (.ref f)/\W.keepIn K (.ref f)=true/\Binds K fd ps []/\∃oc od osl,K.lookup f=some ⟨oc,od,.func fd,osl⟩
section
variable{P:Program}{w:World}{K:W.Frag}{mg:Qd}{base:Heap}{x:Str}{st:Stmt}{k:Nat}{ps N:List Str}{sp:Sp}
def Callee.imp(C:Callee P w K mg base x k ps sp)(h:∀vs H Q E,sp' vs H Q E->sp vs H Q E):Callee P w K mg base x k ps sp':=by obtain⟨f,fd,F,r⟩:=C.ex;exact⟨f,fd,F.imp h,r⟩
def Def.okR(D:Def K mg x st)(S:FnScope N ps (ar st))
 (hb:∀(kV doc pm:Value) (an:Option Addr) (cdv ct:Value) (us:List Value),us.length=ps.length->bindArgs (W.fnOf x x (dC st) (bH st) (ar st) .none kV doc pm an cdv ct) ⟨us,[]⟩=pure (ps.zip us))
 (len:∀vs H Q E,sp vs H Q E->vs.length=ps.length)
 (j_:∀(f:Addr) (cdv:Value) (A:Around) (outer:List Env) (s:Shared) (H:Hp) (vs:List V) (Q:VK) (E:XK),Room k (A.deeper (envOfC x (ar st) s.heap.objs.size f cdv))->sp vs H Q E->
  ∃t,PSs (eR (CX1 P w) P w K mg base N x (ar st) f cdv A outer s H E) (bH st) t/\t { nx:=λ_ H'=>Q .non H',rt:=Q } (gv N vs) H):Callee P w K mg base x (k+1) ps sp:=by
 obtain⟨f,fd,F,m⟩:=D.ex;exact⟨f,fd,F.okR S len (j_ f),m,F.kp,F.binds hb,F.look⟩
end
section
variable{X:Cx}{K:W.Frag}
def allK(h:X.K=K)(hc:X.calm=true):CallR X (.builtin "all") (λxs H Q=>∃(a:Addr) (bs:List Bool),xs=[.ref a]/\SqL K H a (bs.map V.bl)/\Q (.bl (bs.all id)) H):=by subst h;exact Dq hc
def Room.u180(r:Room k A):A.units+180<cLine:=by have:=r.un;omega
def eqDK(h:X.K=K)(hu:X.A.units+180<cLine):OpR X (compareOp .Eq) (Co K):=by subst h;exact GW hu
def neDK(h:X.K=K)(hu:X.A.units+180<cLine):OpR X (compareOp .NotEq) (Bo K):=by subst h;exact Hc hu
def inK(h:X.K=K):OpR X (compareOp .In) (rIn K false):=by subst h;exact yO
def HH(h:X.K=K):OpR X (compareOp .NotIn) (rIn K true):=by subst h;exact rT
end
section
variable{X:Cx}
def Il{elt iter tg:Expr}{ifs:List Expr}{scope:Scope}{pos:Pos}{wi:TI}{g:TG}{tc:TT}{te:TE}{N:List Str}{sub:Qg}{iT:Nat}{xT:Str}{px spos:Pos}
 (hc:X.calm=true) (hN:X.N.Nodup) (hix:X.N[iT]?=some xT) (hxl:Loc X.env.scope xT) (hi:PI X tg iter wi)
 (hk:scope.kind=.function) (hnc:∀x∈scope.names,x.2 ≠ .cell) (f_:∀x∈scope.names,x.2=.local->scope.names.lookup x.1=some .local)
 (hfr:∀x∈scope.names,x.2=.free->X.env.kindOf x.1=some .cell\/X.env.kindOf x.1=some .free)
 (hsl:sub.length=N.length) (hsub:∀(j i:Nat) (x:Str),sub[j]?=some (some i)->N[j]?=some x->X.N[i]?=some x/\scope.names.lookup x=some .free)
 (hg:∀cl C s₂ H fp,PG (bT X N scope cl C s₂ H fp) tg g) (ht:∀cl C s₂ H fp,PTs (bT X N scope cl C s₂ H fp) ifs tc) (he:∀cl C s₂ H fp,PE (bT X N scope cl C s₂ H fp) elt te)
 (hsw:swapsWith (.ListComp elt [⟨tg,iter,ifs,0⟩] scope pos) (some (.Name xT px)) spos.line X.env=pure true)
 (hs:∀x,foldedSetIterable iter X.env x=pure x) (hf:X.fn xT=true\/X.env.scope.names.lookup xT=some .local):
 PS X (.Assign [.Name xT px] (.ListComp elt [⟨tg,iter,ifs,0⟩] scope pos) spos) (yp (qt wi sub g tc te) (qr iT)):=by
 intro pins s σ H D0 I h;rw[exec_Assign_Name_used _ _ _ _ hsw];refine o_ (OU (o_ ?_));show wpAny _ X.A (do let _ <- comprehension (.ListComp elt [⟨tg,iter,ifs,0⟩] scope pos) scope X.env _ (newList []) false (eval iter X.env) (some (assign (.Name xT px) X.env))) _ _ s;refine o_ (NF (vN (use:=some (assign (.Name xT px) X.env)) (R:=λ_ s'=>SP X pins D0 .next s') hc hi hk hnc f_ hfr hsl hsub hg ht he hs I h λD C s4 e=>?_) (λ_ s' hq=>z_ (z_ hq)) λ_ _ e=>e);obtain⟨m,hm⟩:=e.ns;obtain⟨H',hC,q,i⟩:=e.inv;have dc:=e.dc;have fr:=e.fr;refine wpAny_assign_Name (o9 (v:=.ref D) (i s4.heap ⟨rfl,λ_ _=>rfl⟩) hN hix hxl rfl (λs7 I7 ⟨a7,sb7,ha7⟩=>?_) hf);have ha:a7<D:=by
  rcases ha7 with z |z
  .rw[z];exact fr
  .exact e.cell xT a7 z
 refine⟨m,hm.sameBut sb7 (O6 (PV ha dc)),λh8 hs8=>⟨_,_,I7.turned (it:=C) (t':=s7.toks) (λb o hb e=>hs8.extBut b o hb e) hC (O6 (PV fr dc)) (.inr (Nw e.sz (O5 dc))) (λx c q=>Nn (PV (e.cell x c q) dc)) (λp hp=>Nn (PV (e.pin p hp) dc)),q⟩⟩
end
theorem iQ:∀{ns:List Int}{its:List Value},Vals (ns.map V.int) its->IntsAre its ns
 | [],_,h=>by cases h;exact .nil
 |
  i::r,_,h=>by
  cases h with
  |cons h1 h2=>obtain⟨t,rfl⟩:=h1;exact .cons i t (iQ h2)
def pA{X:Cx}{K:W.Frag}(hK:X.K=K)(hc:X.calm=true):CallR X (.builtin "sum") (λxs H Q=>∃(a:Addr) (ns:List Int),xs=[.ref a]/\SqL K H a (ns.map V.int)/\Q (.int ns.sum) H):=by
 subst hK;intro pins s σ H xs us Q I r h;obtain⟨a,ns,rfl,hq,q⟩:=h;obtain⟨u,rfl,ru⟩:=eO r;cases ru;obtain⟨its,rv,p,hz⟩:=I.list hq;have hi:=iQ rv;obtain⟨ys,hy⟩:=hi.allInts.items;have hn:numsOf its.toArray.toList=ns:=by rw[show its.toArray.toList=its from rfl,hi.numsOf]
 have pl:=p.isList;rw[hy] at pl hn;rw[nums_intItems] at hn;refine sum_intListG (I.ok.hd hc) pl λh' tk t' hk=>?_;rw[preSum_eq,N4 (by simp),hn];exact⟨.int ns.sum,H,I.kept (t':=tk) hk,⟨_,rfl⟩,q⟩
end L2
namespace Fr
noncomputable def dv (a b:Int):Int:=if b<0 then -((Int.gcd a b:Nat):Int) else ((Int.gcd a b:Nat):Int)
def T(a b:Int):Int:=a.fdiv (dv a b)
def B(a b:Int):Int:=b.fdiv (dv a b)
def rL(hb:b≠0):0<Int.gcd a b:=Int.gcd_pos_of_ne_zero_right a hb
def dv_ne(hb:b≠0):dv a b≠0:=by
 have:=rL (a:=a) hb
 unfold dv;split <;> omega
def BS(a b:Int):dv a b ∣ a:=by
 have h:((Int.gcd a b:Nat):Int) ∣ a:=Int.gcd_dvd_left a b;unfold dv;split
 .exact Int.neg_dvd.mpr h
 .exact h
def C2(a b:Int):dv a b ∣ b:=by
 have h:((Int.gcd a b:Nat):Int) ∣ b:=Int.gcd_dvd_right a b;unfold dv;split
 .exact Int.neg_dvd.mpr h
 .exact h
def vM{a d q:Int}(hd:d≠0)(h:a=d*q):a.fdiv d=q:=by rw[h,Ph];exact Int.mul_fdiv_cancel q hd
def T_mul(hb:b≠0):T a b*dv a b=a:=by obtain⟨q,h⟩:=BS a b;have:T a b=q:=vM (dv_ne hb) h;rw[this,Ph];exact h.symm
def B_mul(hb:b≠0):B a b*dv a b=b:=by obtain⟨q,h⟩:=C2 a b;have:B a b=q:=vM (dv_ne hb) h;rw[this,Ph];exact h.symm
def B_pos(hb:b≠0):0<B a b:=by
 have h:=B_mul (a:=a) hb;have hg:=rL (a:=a) hb;generalize hx:B a b=x at h ⊢;unfold dv at h;split at h
 .rename_i hneg;have h2:x*((Int.gcd a b:Nat):Int)=-b:=by rw[Int.mul_neg] at h;omega
  rcases Int.lt_or_le 0 x with z |z
  .exact z
  .have:x*((Int.gcd a b:Nat):Int)<=0:=Int.mul_nonpos_of_nonpos_of_nonneg z (by omega);omega
 .rename_i hpos;rcases Int.lt_or_le 0 x with z |z
  .exact z
  .have:x*((Int.gcd a b:Nat):Int)<=0:=Int.mul_nonpos_of_nonpos_of_nonneg z (by omega);omega
def cross(hb:b≠0):T a b*b=a*B a b:=by have h1:=T_mul (a:=a) hb;have h2:=B_mul (a:=a) hb;generalize T a b=x at *;generalize B a b=y at *;generalize dv a b=d at *;rw[<- h2,<- h1];rw[<- NW,Pj]
def dv_abs(a b:Int):(dv a b).natAbs=Int.gcd a b:=by unfold dv;split <;> simp
def low(hb:b≠0):Int.gcd (T a b) (B a b)=1:=by
 have h1:=T_mul (a:=a) hb;have h2:=B_mul (a:=a) hb;have hg:=rL (a:=a) hb;have e1:a.natAbs=(T a b).natAbs*Int.gcd a b:=by rw[<- dv_abs a b,<- NX,h1]
 have e2:b.natAbs=(B a b).natAbs*Int.gcd a b:=by rw[<- dv_abs a b,<- NX,h2]
 have e3:Int.gcd a b=Nat.gcd ((T a b).natAbs*Int.gcd a b) ((B a b).natAbs*Int.gcd a b):=by rw[<- e1,<- e2];rfl
 rw[Nat.gcd_mul_right] at e3;show Nat.gcd (T a b).natAbs (B a b).natAbs=1;generalize Nat.gcd (T a b).natAbs (B a b).natAbs=k at *;generalize Int.gcd a b=g at *;have:(1:Nat)*g=k*g:=by omega
 exact (Nat.eq_of_mul_eq_mul_right hg this).symm
def uniq(hy:0<y)(hy':0<y')(h:Int.gcd x y=1)(h':Int.gcd x' y'=1)(e:x*y'=x'*y):x=x'/\y=y':=by
 have c1:Nat.Coprime y.natAbs x.natAbs:=by rw[Nat.coprime_comm];exact h
 have c2:Nat.Coprime y'.natAbs x'.natAbs:=by rw[Nat.coprime_comm];exact h'
 have e1:x.natAbs*y'.natAbs=x'.natAbs*y.natAbs:=by rw[<- NX,<- NX,e]
 have d1:y.natAbs ∣ y'.natAbs:=c1.dvd_of_dvd_mul_left (by rw[e1];exact Nat.dvd_mul_left _ _);have d2:y'.natAbs ∣ y.natAbs:=c2.dvd_of_dvd_mul_left (by rw[<- e1];exact Nat.dvd_mul_left _ _);have ey:y.natAbs=y'.natAbs:=Nat.dvd_antisymm d1 d2;have ey':y=y':=by omega
 subst ey';exact⟨OL (by omega) e,rfl⟩
def same(hb:b≠0)(hd:d≠0)(e:a*d=c*b):T a b=T c d/\B a b=B c d:=by
 refine uniq (B_pos hb) (B_pos hd) (low hb) (low hd) ?_;have h1:=cross (a:=a) hb;have h2:=cross (a:=c) hd;have hbd:b*d≠0:=Om hb hd;refine OL hbd ?_
 calc T a b*B c d*(b*d)=(T a b*b)*(B c d*d):=by rw[NW,O3 (B c d) b d,<- NW]
  _=(a*B a b)*(B c d*d):=by rw[h1]
  _=(a*d)*(B c d*B a b):=by rw[NW a,NW a,O3 (B a b),O3 d,Ph (B a b) d]
  _=(c*b)*(B c d*B a b):=by rw[e]
  _=(c*B c d)*(B a b*b):=by rw[NW c,NW c,O3 b,Ph b (B a b)]
  _=(T c d*d)*(B a b*b):=by rw[<- h2]
  _=T c d*B a b*(b*d):=by rw[NW,NW,O3 d,Ph d b]
def self(hb:0<b)(h:Int.gcd a b=1):T a b=a/\B a b=b:=
 uniq (B_pos (by omega)) hb (low (by omega)) h (cross (by omega))
def euc(m n:Nat):Nat.gcd n (m % n)=Nat.gcd m n:=by rw[Nat.gcd_comm,<- Nat.gcd_rec,Nat.gcd_comm]
end Fr
set_option maxHeartbeats 1000000
namespace L2
open PySem PySem.Spec PyProof.Rows
def Inv.turnedL{X:Cx}{pins:Qe}{σ:St}{H:Hp}{s:Shared}{h':Heap}{t':Nat}{ch:List Addr}(I:Inv X pins σ H s)(k:∀b o,b∉ch->s.heap.get? b=some o->h'.get? b=some o)(hf:∀b∈ch,FpOk X pins H b):Inv X pins σ H { s with heap:=h',toks:=t' }:=by
 have away:∀b u,H b=some u->b∉ch:=λb u e z=>by have:=(hf b z).1;rw[e] at this;cases this
 refine I.step (g':=s.gens) (d':=s.drawn) (ch:=ch) (λb hb=>⟨(hf b hb).2.2.2.1,(hf b hb).2.1,(hf b hb).2.2.2.2.1,(hf b hb).2.2.2.2.2⟩) (λb o _ _ hc e _=>k b o hc e) (λb o _ _ hc e _=>⟨o.slots,k b o hc e⟩) (λ_ _ _ _ n=>n)
  (λb o hc e=>⟨o,k b o hc e⟩) (λ_ _ e=>e) (λ_ _ _ e=>e) (λb ps e=>⟨#[],by rw[e];simp⟩) (λm hm=>?_) (λb u e=>?_) I.bare
 .obtain⟨o,es,ep,ho,r⟩:=hm;exact⟨o,es,ep,k _ o (λz=>(hf _ z).2.1 rfl) ho,r⟩
 .refine (I.hok b u e).stay (λc v hc q=>k c v ?_ q) (λ_ q=>q) λ_ _ q=>q;rcases hc with z |z
  .rw[z];exact away b u e
  .exact away c _ z
def FpOk.up(f:FpOk X pins H b)(hn:b≠p):FpOk X pins (upd H p o) b:=⟨by rw[aB hn];exact f.1,f.2⟩
def yi(hj:s.heap.IsTupleIter j t n)(ht:s.heap.IsTuple t its)(hv:its[n]?=some v)
 (k:∀h',h'.IsTupleIter j t (n+1)->Heap.SameBut j s.heap h'->Q v { s with heap:=h' }):wpAny (model prog w) A (Builtin.SmallTypes.nextOf (.ref j)) Q E s:=by
 obtain⟨oj,ej,cj,dj⟩:=id hj;obtain⟨ot,et,_,m,dt⟩:=ht;unfold Builtin.SmallTypes.nextOf;refine o_ (Ov (name:=Str.ofString "__next__") hj.typeIs OK (O_ OK hj.typeIs F.entry_tuple_iterator_next ?_ (F.args_tuple_iterator_next_1 _)));show wpAny _ _ (field (.ref j) 0 >>= _) _ _ s;refine o_ (NZ ej dj (x:=.ref t) rfl ?_);show wpAny _ _ (if (Value.ref t==Value.none)=true then _ else _) _ _ s;rw[if_neg (show ¬ ((Value.ref t==Value.none)=true) from x_)];show wpAny _ _ (field (.ref j) 1 >>= _) _ _ s;refine o_ (NZ ej dj (x:=.int n 0) rfl ?_);show wpAny _ _ (seqItems? (.ref t) >>= _) _ _ s;refine o_ (OA et dt ?_);simp only[NT,hv];refine o_ (wpAny_setField ej dj (by simp) (z_ ⟨v,rfl,z_ (k _ ?_ (Ow ..))⟩));exact⟨_,Heap.get?_update_self _ ej (Obj.isFreed_of_fields (Obj.data_mapFields dj _)),(Obj.cls_mapFields ..).trans cj,by rw[Obj.data_mapFields dj];simp [rawInt]⟩
def og(hh:A.handled=none)(hj:s.heap.IsTupleIter j t n)(ht:s.heap.IsTuple t its)(hv:its[n]?=none)
 (k:∀h' e,Heap.ExtBut j s.heap h'->(∃o,h'.get? e=some o/\o.cls=.type "StopIteration")->E (.ref e) { s with heap:=h' }):wpAny (model prog w) A (Builtin.SmallTypes.nextOf (.ref j)) Q E s:=by
 obtain⟨oj,ej,cj,dj⟩:=id hj;obtain⟨ot,et,_,m,dt⟩:=ht;unfold Builtin.SmallTypes.nextOf;refine o_ (Ov (name:=Str.ofString "__next__") hj.typeIs OK (O_ OK hj.typeIs F.entry_tuple_iterator_next ?_ (F.args_tuple_iterator_next_1 _)));show wpAny _ _ (field (.ref j) 0 >>= _) _ _ s;refine o_ (NZ ej dj (x:=.ref t) rfl ?_);show wpAny _ _ (if (Value.ref t==Value.none)=true then _ else _) _ _ s;rw[if_neg (show ¬ ((Value.ref t==Value.none)=true) from x_)];show wpAny _ _ (field (.ref j) 1 >>= _) _ _ s;refine o_ (NZ ej dj (x:=.int n 0) rfl ?_);show wpAny _ _ (seqItems? (.ref t) >>= _) _ _ s;refine o_ (OA et dt ?_);simp only[NT,hv];refine o_ (wpAny_rule (o_ (wpAny_setField ej dj (by simp) ?_)));show wpAny _ _ (newExc (.type "StopIteration") [] >>= _) _ _ _;refine o_ ?_;simp only[newExc,newTuple];refine o_ (N5 ?_ (by size_fits));refine o_ (m:=firstArgMember _ _) (wpAny_of_eq (a:=Value.none) (by first |rfl |(simp only[firstArgMember];rfl)) ?_);refine N5 ?_ (by size_fits);simp only[raiseNew];refine o_ (wpAny_handled ?_);first |rw[show A.in1.handled=none from hh] |rw[hh]
 refine o_ (z_ (wpAny_throw ?_));exact k _ _ (((Ow ..).extBut.push _).push _) ⟨_,F_ _ rfl,rfl⟩
def SqB(K:W.Frag)(b:Bool)(H:Hp)(a:Addr)(xs:List V):Prop:=match b with
 |true=>SqL K H a xs
 |false=>SqT K H a xs
def ItB(b:Bool)(h:Heap)(j a:Addr)(i:Nat):Prop:=match b with
 |true=>h.IsListIter j a i
 |false=>h.IsTupleIter j a i
def SqB.inj(I:Inv X pins σ H s)(x:SqB X.K b H a xs)(y:SqB X.K b H a ys):xs=ys:=by
 cases b with
 |true=>exact I.list_inj x y
 |false=>exact I.tuple_inj x y
def kB(z:ItB b h j a i):∃o,h.get? j=some o/\(∀v,o.data ≠ .cell v)/\o.cls=.type (if b then "list_iterator" else "tuple_iterator"):=by
 cases b with
 |true=>obtain⟨o,e,c,d⟩:=z;exact⟨o,e,(λv y=>by rw[d] at y;cases y),c⟩
 |false=>obtain⟨o,e,c,d⟩:=z;exact⟨o,e,(λv y=>by rw[d] at y;cases y),c⟩
def bN(z:ItB b h j a i)(k:∀o,h.get? j=some o->h'.get? j=some o):ItB b h' j a i:=by
 cases b with
 |true=>obtain⟨o,e,r⟩:=z;exact⟨o,k o e,r⟩
 |false=>obtain⟨o,e,r⟩:=z;exact⟨o,k o e,r⟩
def LsB(b:Bool)(h:Heap)(a:Addr)(its:Array Value):Prop:=match b with
 |true=>h.IsList a its
 |false=>h.IsTuple a its
def LsB.keep(z:LsB b h a its)(k:∀o,h.get? a=some o->h'.get? a=some o):LsB b h' a its:=by cases b <;> (obtain⟨o,e,r⟩:=z;exact⟨o,k o e,r⟩)
def xw(hj:ItB b s.heap j a n)(ht:LsB b s.heap a its)(hv:its[n]?=some v)
 (k:∀h',ItB b h' j a (n+1)->Heap.SameBut j s.heap h'->Q v { s with heap:=h' }):wpAny (model prog w) A (Builtin.SmallTypes.nextOf (.ref j)) Q E s:=by
 cases b with
 |true=>exact wpAny_nextOf_list_item hj ht hv k
 |false=>exact yi hj ht hv k
def oZ(hh:A.handled=none)(hj:ItB b s.heap j a n)(ht:LsB b s.heap a its)(hv:its[n]?=none)
 (k:∀h' e,Heap.ExtBut j s.heap h'->(∃o,h'.get? e=some o/\o.cls=.type "StopIteration")->E (.ref e) { s with heap:=h' }):wpAny (model prog w) A (Builtin.SmallTypes.nextOf (.ref j)) Q E s:=by
 cases b with
 |true=>exact wpAny_nextOf_list_end hh hj ht hv k
 |false=>exact og hh hj ht hv k
section
variable{prog:Program}{w:World}{A:Around}{E:Qf}{s:Shared}{b1 b2:Bool}{z p q j1 j2 a1 a2:Addr}{n:Nat}{xs ys:Array Value}{x y u v:Value}
def zipN{Q:Qf}(D:ZipApart z p q j1 j2 a1 a2)(hz:IsZip s.heap z p q .none)(hp:IsPair s.heap p (.ref j1) (.ref j2))(hq:IsPair s.heap q u v)
 (i1:ItB b1 s.heap j1 a1 n) (i2:ItB b2 s.heap j2 a2 n) (l1:LsB b1 s.heap a1 xs) (l2:LsB b2 s.heap a2 ys) (ex:xs[n]?=some x) (ey:ys[n]?=some y)
 (k:∀h',IsZip h' z p q (rawInt s.heap.objs.size)->IsPair h' q x y->ItB b1 h' j1 a1 (n+1)->ItB b2 h' j2 a2 (n+1)->IsPair h' s.heap.objs.size x y->(∀c o,c≠z->c≠q->c≠j1->c≠j2->s.heap.get? c=some o->h'.get? c=some o)->Q (.ref s.heap.objs.size) { s with heap:=h' }):
 wpAny (model prog w) A (Builtin.«zip.__next__» ⟨[.ref z],[]⟩) (λd_ s'=>∃v,d_=.done (.ret v)/\Q v s') E s:=by
 show wpAny _ _ (field (.ref z) 2 >>= _) _ _ _;refine o_ (NZ hz rfl (x:=.bool false) rfl ?_);show wpAny _ _ (field (.ref z) 3 >>= _) _ _ _;refine o_ (NZ hz rfl (x:=.ref p) rfl ?_);refine o_ (OA hp rfl ?_);show wpAny _ _ (Builtin.SmallTypes.ownedTupleIsFree (.ref z) >>= _) _ _ _;refine o_ ?_;unfold Builtin.SmallTypes.ownedTupleIsFree;refine o_ (NZ hz rfl (x:=.none) rfl (z_ ?_));simp only[O7];refine o_ (wpAny_rule ?_);refine o_ (NZ hz rfl (x:=.ref q) rfl ?_);refine o_ (OE hz (by simp) λg1 (y1:IsZip g1 z p q .ellipsis) t1=>?_);refine o_ ?_;simp only[List.zipIdx_cons,List.zipIdx_nil,List.forIn_cons,List.forIn_nil];refine o_ (o_ (Qc ?_));show wpAny _ _ (Builtin.SmallTypes.nextOf (.ref j1) >>= _) _ _ _;refine o_ (xw (bN i1 λo e=>t1.extBut _ _ D.i1z e) (l1.keep λo e=>t1.extBut _ _ D.l1z e) ex λg2 m1 t2=>z_ ?_);have q2:IsPair g2 q u v:=t2.extBut _ _ D.TOi1 (t1.extBut _ _ D.TOz hq);refine o_ (OA q2 rfl ?_);refine o_ (P6 q2 λg3 (q3:IsPair g3 q x v) t3=>?_);refine o_ (wpAny_letGo (z_ ?_));refine o_ (o_ (Qc ?_));show wpAny _ _ (Builtin.SmallTypes.nextOf (.ref j2) >>= _) _ _ _;refine o_ (xw (bN i2 λo e=>t3.extBut _ _ D.TOi2.symm (t2.extBut _ _ D.i12.symm (t1.extBut _ _ D.i2z e))) (l2.keep λo e=>t3.extBut _ _ D.l2TO (t2.extBut _ _ D.l2i1 (t1.extBut _ _ D.l2z e))) ey λg4 m2 t4=>z_ ?_);have q4:IsPair g4 q x v:=t4.extBut _ _ D.TOi2 q3;refine o_ (OA q4 rfl ?_);refine o_ (P6 q4 λg5 (q5:IsPair g5 q x y) t5=>?_);refine o_ (wpAny_letGo (z_ (z_ ?_)));refine o_ (OA q5 rfl ?_);refine o_ (wpAny_newTuple ?_);have sz:g5.objs.size=s.heap.objs.size:=by rw[t5.1,t4.1,t3.1,t2.1,t1.1]
 have y5:IsZip g5 z p q .ellipsis:=t5.extBut _ _ D.TOz.symm (t4.extBut _ _ D.i2z.symm (t3.extBut _ _ D.TOz.symm (t2.extBut _ _ D.i1z.symm y1)));have all5:∀c o,c≠z->c≠q->c≠j1->c≠j2->s.heap.get? c=some o->g5.get? c=some o:=λc o c1 c2 c3 c4 e=>t5.extBut _ _ c2 (t4.extBut _ _ c4 (t3.extBut _ _ c2 (t2.extBut _ _ c3 (t1.extBut _ _ c1 e))));have n1:ItB b1 g5 j1 a1 (n+1):=bN m1 λo e=>t5.extBut _ _ D.TOi1.symm (t4.extBut _ _ D.i12 (t3.extBut _ _ D.TOi1.symm e));have n2:ItB b2 g5 j2 a2 (n+1):=bN m2 λo e=>t5.extBut _ _ D.TOi2.symm e;have zl:z<g5.objs.size:=A_ y5;show wpAny _ _ (Builtin.SmallTypes.ownedTupleHandOut (.ref z) (.ref g5.objs.size) >>= _) _ _ _;refine o_ ?_;unfold Builtin.SmallTypes.ownedTupleHandOut;have y6:IsZip (g5.push { cls:=.type "tuple",data:=.seq #[x,y] }) z p q .ellipsis:=s_ _ y5;refine o_ (OE y6 (by simp) λg7 (y7:IsZip g7 z p q (rawInt g5.objs.size)) t7=>?_);refine OE y7 (by simp) λg8 (y8:IsZip g8 z p q (rawInt g5.objs.size)) t8=>?_;have up:∀c o,c≠z->g5.get? c=some o->g8.get? c=some o:=λc o c1 e=>t8.extBut _ _ c1 (t7.extBut _ _ c1 (s_ _ e));have w8:IsPair g8 g5.objs.size x y:=t8.extBut _ _ (O6 zl) (t7.extBut _ _ (O6 zl) (F_ _ rfl));rw[sz] at y8 w8;refine z_ ⟨_,rfl,?_⟩;show Q (.ref g5.objs.size) _;rw[sz];exact k g8 y8 (up _ _ D.TOz q5) (bN n1 λo e=>up _ o D.i1z e) (bN n2 λo e=>up _ o D.i2z e) w8 λc o c1 c2 c3 c4 e=>up c o c1 (all5 c o c1 c2 c3 c4 e)
def B7(hh:A.handled=none)(D:ZipApart z p q j1 j2 a1 a2)(hz:IsZip s.heap z p q .none)(hp:IsPair s.heap p (.ref j1) (.ref j2))(hq:IsPair s.heap q u v)
 (i1:ItB b1 s.heap j1 a1 n) (i2:ItB b2 s.heap j2 a2 n) (l1:LsB b1 s.heap a1 xs) (l2:LsB b2 s.heap a2 ys) (en:xs[n]?=none\/ys[n]?=none)
 (k:∀h' e,(∀c o,c≠z->c≠q->c≠j1->c≠j2->s.heap.get? c=some o->h'.get? c=some o)->(∃o,h'.get? e=some o/\o.cls=.type "StopIteration")->E (.ref e) { s with heap:=h' }):wpAny (model prog w) A (Builtin.«zip.__next__» ⟨[.ref z],[]⟩) Q E s:=by
 show wpAny _ _ (field (.ref z) 2 >>= _) _ _ _;refine o_ (NZ hz rfl (x:=.bool false) rfl ?_);show wpAny _ _ (field (.ref z) 3 >>= _) _ _ _;refine o_ (NZ hz rfl (x:=.ref p) rfl ?_);refine o_ (OA hp rfl ?_);show wpAny _ _ (Builtin.SmallTypes.ownedTupleIsFree (.ref z) >>= _) _ _ _;refine o_ ?_;unfold Builtin.SmallTypes.ownedTupleIsFree;refine o_ (NZ hz rfl (x:=.none) rfl (z_ ?_));simp only[O7];refine o_ (wpAny_rule ?_);refine o_ (NZ hz rfl (x:=.ref q) rfl ?_);refine o_ (OE hz (by simp) λg1 (y1:IsZip g1 z p q .ellipsis) t1=>?_);refine o_ ?_;simp only[List.zipIdx_cons,List.zipIdx_nil,List.forIn_cons,List.forIn_nil];refine o_ (o_ (Qc ?_));show wpAny _ _ (Builtin.SmallTypes.nextOf (.ref j1) >>= _) _ _ _;cases ex:xs[n]? with
 |
  none=>
  refine o_ (oZ hh (bN i1 λo e=>t1.extBut _ _ D.i1z e) (l1.keep λo e=>t1.extBut _ _ D.l1z e) ex λg2 e t2 ⟨oe,he,ce⟩=>?_);have y2:IsZip g2 z p q .ellipsis:=t2 _ _ D.i1z.symm y1;have ez:e≠z:=λw=>by subst w;rw[y2] at he;cases he;simp at ce
  exact OE y2 (by simp) λg3 _ t3=>k g3 e (λc o c1 _ c3 _ w=>t3.extBut _ _ c1 (t2 _ _ c3 (t1.extBut _ _ c1 w))) ⟨oe,t3.extBut _ _ ez he,ce⟩
 |
  some x=>
  have ey:ys[n]?=none:=en.resolve_left λw=>by rw[ex] at w;cases w
  refine o_ (xw (bN i1 λo e=>t1.extBut _ _ D.i1z e) (l1.keep λo e=>t1.extBut _ _ D.l1z e) ex λg2 m1 t2=>z_ ?_);have q2:IsPair g2 q u v:=t2.extBut _ _ D.TOi1 (t1.extBut _ _ D.TOz hq);refine o_ (OA q2 rfl ?_);refine o_ (P6 q2 λg3 q3 t3=>?_);refine o_ (wpAny_letGo (z_ ?_));refine o_ (o_ (Qc ?_));show wpAny _ _ (Builtin.SmallTypes.nextOf (.ref j2) >>= _) _ _ _;refine o_ (oZ hh (bN i2 λo e=>t3.extBut _ _ D.TOi2.symm (t2.extBut _ _ D.i12.symm (t1.extBut _ _ D.i2z e))) (l2.keep λo e=>t3.extBut _ _ D.l2TO (t2.extBut _ _ D.l2i1 (t1.extBut _ _ D.l2z e))) ey λg4 e t4 ⟨oe,he,ce⟩=>?_);have y4:IsZip g4 z p q .ellipsis:=t4 _ _ D.i2z.symm (t3.extBut _ _ D.TOz.symm (t2.extBut _ _ D.i1z.symm y1));have ez:e≠z:=λw=>by subst w;rw[y4] at he;cases he;simp at ce
  exact OE y4 (by simp) λg5 _ t5=>k g5 e (λc o c1 c2 c3 c4 w=>t5.extBut _ _ c1 (t4 _ _ c4 (t3.extBut _ _ c2 (t2.extBut _ _ c3 (t1.extBut _ _ c1 w))))) ⟨oe,t5.extBut _ _ ez he,ce⟩
end
noncomputable def Br (b:Bool):String:=if b then "list_iterator" else "tuple_iterator"
def wC(h:LsB b s.heap a its)(k:Q (.ref s.heap.objs.size) { s with heap:=s.heap.push { cls:=.type (Br b),data:=.fields #[.ref a,.int 0 0] } }):wpAny (model prog w) A (pyIter (.ref a)) Q E s:=by
 cases b with
 |true=>exact wpAny_pyIter_list h k
 |false=>exact wpAny_pyIter_tuple h k
abbrev zp1(h:Heap)(b:Bool)(a:Addr):Heap:=h.push { cls:=.type (Br b),data:=.fields #[.ref a,.int 0 0] }
abbrev zp2(h:Heap)(b c:Bool)(a d:Addr):Heap:=zp1 (zp1 h b a) c d
abbrev zp3(h:Heap)(b c:Bool)(a d:Addr):Heap:=(zp2 h b c a d).push { cls:=.type "tuple",data:=.seq #[.ref h.objs.size,.ref (zp1 h b a).objs.size] }
abbrev zp4(h:Heap)(b c:Bool)(a d:Addr):Heap:=(zp3 h b c a d).push { cls:=.type "tuple",data:=.seq #[.none,.none] }
abbrev zp5(h:Heap)(b c:Bool)(a d:Addr):Heap:=(zp4 h b c a d).push { cls:=.type "zip",data:=.fields #[.none,.bool false,.bool false,.ref (zp2 h b c a d).objs.size,.ref (zp3 h b c a d).objs.size] }
def Cs(b c:Bool)(a d:Addr)(xs ys:Array Value):Meets (Builtin.«zip.__new__» ⟨[.type "zip",.ref a,.ref d],[]⟩) (λ_ R s=>LsB b s.heap a xs/\LsB c s.heap d ys/\R (.ok (.ret (.ref (zp4 s.heap b c a d).objs.size))) { s with heap:=zp5 s.heap b c a d }):=
 .of_wp λprog w A R s h=>by
  obtain⟨hp,g,dr,tk,os⟩:=s;obtain⟨la,ld,h⟩:=h;have hsub:=sub_zip;have L1:LsB b (Shared.heap ⟨hp,g,dr,tk,os⟩) a xs:=la;have L2':LsB c (Shared.heap ⟨hp.push { cls:=.type (Br b),data:=.fields #[.ref a,.int 0 0] },g,dr,tk,os⟩) d ys:=ld.keep λo e=>s_ _ e
  wp_walk using wC L1,wC L2'
  exact⟨_,rfl,h⟩
def zp(la:LsB b s.heap a xs)(ld:LsB c s.heap d ys)
 (k:∀h',IsZip h' (s.heap.objs.size+4) (s.heap.objs.size+2) (s.heap.objs.size+3) .none->IsPair h' (s.heap.objs.size+2) (.ref s.heap.objs.size) (.ref (s.heap.objs.size+1))->IsPair h' (s.heap.objs.size+3) .none .none->
  ItB b h' s.heap.objs.size a 0->ItB c h' (s.heap.objs.size+1) d 0->(∀c o,s.heap.get? c=some o->h'.get? c=some o)->Q (.ref (s.heap.objs.size+4)) { s with heap:=h' }):wpAny (model prog w) A (call (.type "zip") [.ref a,.ref d]) Q E s:=by
 refine callType_new F.called_zip (by decide) (F.typeCall_zip_2 _ _) (F.newCall_zip_2 _ _) (λobj=>F.args_object_init_3 obj _ _) F.entry_zip_new (Cs b c a d xs ys) ⟨la,ld,?_⟩;have n1:(zp1 s.heap b a).objs.size=s.heap.objs.size+1:=Pm ..;have n2:(zp2 s.heap b c a d).objs.size=s.heap.objs.size+2:=by rw[Pm,n1]
 have n3:(zp3 s.heap b c a d).objs.size=s.heap.objs.size+3:=by rw[Pm,n2]
 have n4:(zp4 s.heap b c a d).objs.size=s.heap.objs.size+4:=by rw[Pm,n3]
 have up:=λ{h:Heap}{x:Addr}{o:Obj} (o':Obj) (e:h.get? x=some o)=>s_ o' e;have e5:(zp5 s.heap b c a d).get? (zp4 s.heap b c a d).objs.size=some _:=F_ _ rfl;have e4:(zp5 s.heap b c a d).get? (zp3 s.heap b c a d).objs.size=some _:=up _ (F_ _ rfl);have e3:(zp5 s.heap b c a d).get? (zp2 s.heap b c a d).objs.size=some _:=up _ (up _ (F_ _ rfl));have e2:(zp5 s.heap b c a d).get? (zp1 s.heap b a).objs.size=some _:=up _ (up _ (up _ (F_ _ rfl)));have e1:(zp5 s.heap b c a d).get? s.heap.objs.size=some _:=up _ (up _ (up _ (up _ (F_ _ rfl))));show _/\_;rw[n2,n3,n4] at e5;rw[n1,n2] at e3;rw[n3] at e4;rw[n1] at e2;rw[n4];have i1:ItB b (zp5 s.heap b c a d) s.heap.objs.size a 0:=by cases b <;> exact⟨_,e1,rfl,rfl⟩
 have i2:ItB c (zp5 s.heap b c a d) (s.heap.objs.size+1) d 0:=by cases c <;> exact⟨_,e2,rfl,rfl⟩
 exact⟨⟨_,e5,rfl⟩,k _ e5 e3 e4 i1 i2 λx o e=>up _ (up _ (up _ (up _ (up _ e))))⟩
noncomputable def ItZ (K:W.Frag) (b c:Bool) (a d:Addr):It:=
 ⟨λi H=>∃xs ys x y,SqB K b H a xs/\SqB K c H d ys/\xs[i]?=some x/\ys[i]?=some y,
  λi H x H'=>∃p u v,x=.ref p/\H p=none/\H'=upd H p (.tup [u,v])/\(∀xs,SqB K b H a xs->xs[i]?=some u)/\∀ys,SqB K c H d ys->ys[i]?=some v,
  λi H=>∃xs ys,SqB K b H a xs/\SqB K c H d ys/\(xs[i]?=none\/ys[i]?=none)⟩
def jd(I:Inv X pins σ H s)(hq:SqB X.K b H a xs):∃its:List Value,Vals xs its/\LsB b s.heap a its.toArray:=by
 cases b with
 |true=>obtain⟨its,rv,p,_⟩:=I.list hq;exact⟨its,rv,p.isList⟩
 |false=>obtain⟨its,rv,p,_⟩:=I.tuple hq;exact⟨its,rv,p⟩
def Bh{P:Program}{w:World}{K:W.Frag}{elts:List Expr}{x1:Nat}{tp:Pos}(b c:Bool)(a d z p q j1 j2:Addr)(D:ZipApart z p q j1 j2 a d):
 Turn P w K (.Tuple elts x1 tp) (ItZ K b c a d) [z,p,q,j1,j2] z (λi h=>IsZip h z p q .none/\IsPair h p (.ref j1) (.ref j2)/\(∃u v,IsPair h q u v)/\ItB b h j1 a i/\ItB c h j2 d i) where
 mem:=by simp
 obj:=λi h st e he=>by
  obtain⟨s1,s2,⟨u,v,s3⟩,s4,s5⟩:=st;obtain⟨o4,k4,l4,_⟩:=kB s4;obtain⟨o5,k5,l5,_⟩:=kB s5;simp only[G_,PD,or_false] at he;rcases he with rfl |rfl |rfl |rfl |rfl
  .exact⟨_,s1,λv y=>by cases y⟩
  .exact⟨_,s2,λv y=>by cases y⟩
  .exact⟨_,s3,λv y=>by cases y⟩
  .exact⟨o4,k4,l4⟩
  .exact⟨o5,k5,l5⟩
 keep:=λi h h' st k=>by obtain⟨s1,s2,⟨u,v,s3⟩,s4,s5⟩:=st;exact⟨k z (by simp) _ s1,k p (by simp) _ s2,⟨u,v,k q (by simp) _ s3⟩,bN s4 λo e=>k j1 (by simp) o e,bN s5 λo e=>k j2 (by simp) o e⟩
 item:=
  by
  intro X hP hw hK hc i pins s σ H E I hf st hg;subst hP hw hK;obtain⟨xs,ys,x,y,qx,qy,ex,ey⟩:=hg;obtain⟨s1,s2,⟨u,v,s3⟩,s4,s5⟩:=st;obtain⟨ix,rx,lx⟩:=jd I qx;obtain⟨iy,ry,ly⟩:=jd I qy;obtain⟨ux,hux,rux⟩:=rx.get ex;obtain⟨uy,huy,ruy⟩:=ry.get ey;have hTy:s.TypeIs (.ref z) "zip":=⟨_,s1,rfl⟩;have zl:=A_ s1;have pl:=A_ s2;have ql:=A_ s3;obtain⟨o4,k4,_,_⟩:=kB s4;obtain⟨o5,k5,_,_⟩:=kB s5;have j1l:=A_ k4;have j2l:=A_ k5;unfold pyNext;refine o_ (Py (Ov (name:=Str.ofString "__next__") hTy PL (O_ PL hTy F.entry_zip_next (zipN D s1 s2 s3 s4 s5 lx ly (by simpa using hux) (by simpa using huy) λh' y1 y3 y4 y5 yT hk=>z_ ?_) (F.args_zip_next_1 _))));refine⟨_,rfl,wpAny_letOwnedTupleGo_zip (s:={ s with heap:=h' }) y1 λh2 z2 sb=>?_⟩;have sb':Heap.SameBut z h' h2:=sb;have hT:H s.heap.objs.size=none:=I.hok.fresh (u_ _);have I1:Inv X pins σ (upd H s.heap.objs.size (.tup [x,y])) { s with heap:=s.heap.push { cls:=.type "tuple",data:=.seq #[ux,uy] },toks:=s.toks }:=
   I.laid (t':=s.toks) (λc o q=>s_ _ q) (u_ _) ⟨by show 2<=sizeLine;decide,[ux,uy],.cons rux (.cons ruy .nil),⟨_,F_ _ rfl,rfl,_,rfl⟩⟩
  have fp':∀e∈[z,p,q,j1,j2],FpOk X pins (upd H s.heap.objs.size (.tup [x,y])) e:=λe he=>by
   have:=hf e he
   simp only[G_,PD,or_false] at he;rcases he with rfl |rfl |rfl |rfl |rfl
   .exact this.up (Nn zl)
   .exact this.up (Nn pl)
   .exact this.up (Nn ql)
   .exact this.up (Nn j1l)
   .exact this.up (Nn j2l)
  have I2:Inv X pins σ (upd H s.heap.objs.size (.tup [x,y])) { s with heap:=h2,toks:=s.toks }:=
   Inv.turnedL (s:={ s with heap:=s.heap.push { cls:=.type "tuple",data:=.seq #[ux,uy] },toks:=s.toks }) (ch:=[z,p,q,j1,j2]) (t':=s.toks) I1 (λe o he qe=>by
    have c1:e≠z:=λw=>he (by simp [w]);have c2:e≠q:=λw=>he (by simp [w]);have c3:e≠j1:=λw=>he (by simp [w]);have c4:e≠j2:=λw=>he (by simp [w]);rw[sb'.2 e c1];have q':(s.heap.push { cls:=.type "tuple",data:=.seq #[ux,uy] }).get? e=some o:=qe;by_cases w:e=s.heap.objs.size
    .subst w;rw[F_ _ rfl] at q';cases q';exact yT
    .rw[Heap.get?_push_ne _ _ _ w] at q';exact hk e o c1 c2 c3 c4 q') fp'
  refine⟨.ref s.heap.objs.size,_,I2,rfl,⟨_,x,y,rfl,hT,rfl,λzs hz=>by rw[SqB.inj I hz qx];exact ex,λzs hz=>by rw[SqB.inj I hz qy];exact ey⟩,⟨z2,?_,⟨ux,uy,?_⟩,bN y4 λo e=>(sb'.2 j1 D.i1z).trans e,bN y5 λo e=>(sb'.2 j2 D.i2z).trans e⟩,λe he=>(fp' e he).1⟩
  .exact (sb'.2 p D.TIz).trans (hk p _ D.TIz D.TITO D.TIi1 D.TIi2 s2)
  .exact (sb'.2 q D.TOz).trans y3
 done:=by
  intro X hP hw hK hc i pins s σ H E I hf st hg;subst hP hw hK;obtain⟨xs,ys,qx,qy,en⟩:=hg;obtain⟨s1,s2,⟨u,v,s3⟩,s4,s5⟩:=st;obtain⟨ix,rx,lx⟩:=jd I qx;obtain⟨iy,ry,ly⟩:=jd I qy;have hTy:s.TypeIs (.ref z) "zip":=⟨_,s1,rfl⟩;have en':ix.toArray[i]?=none\/iy.toArray[i]?=none:=by
   rcases en with e |e
   .left;rw[Pe] at e;simp;rw[<- rx.length];exact e
   .right;rw[Pe] at e;simp;rw[<- ry.length];exact e
  unfold pyNext;refine o_ (Py (Ov (name:=Str.ofString "__next__") hTy PL (O_ PL hTy F.entry_zip_next (B7 (I.ok.hd hc) D s1 s2 s3 s4 s5 lx ly en' λh' e hk ⟨o,ho,co⟩=>?_) (F.args_zip_next_1 _))));refine o_ (wpAny_isInstance (T:="StopIteration") (b:=true) ⟨o,ho,co⟩ isSubtype_stop (z_ ⟨rfl,?_⟩));exact Inv.turnedL (ch:=[z,p,q,j1,j2]) (t':=s.toks) I (λe o he qe=>hk e o (λw=>he (by simp [w])) (λw=>he (by simp [w])) (λw=>he (by simp [w])) (λw=>he (by simp [w])) qe) hf
 self:=λ_ _ _ _ _ st h=>wpAny_pyIter_zip st.1 h
def AN:bootBuiltins "zip"=some (.type "zip"):=by decide
def HV(hg:Gl X "zip")(hm:X.mg "zip"=none)(ha:PA X [l,m] tl)(hs:starEach [l,m] X.env=[(false,eval l X.env),(false,eval m X.env)])(hs2:starEach [m] X.env=[(false,eval m X.env)]):
 PI X (.Tuple elts x1 tp) (.Call (.Name "zip" p) [l,m] [] pos) (λσ H R=>tl σ H λvs H1=>∃(b c:Bool) (a d:Addr) (xs ys:List V),vs=[.ref a,.ref d]/\SqB X.K b H1 a xs/\SqB X.K c H1 d ys/\R (ItZ X.K b c a d) H1):=by
 intro pins s σ H R I h;refine Call_ (cR I hg hm AN (NH (thn (ha pos pins s σ H _ I h) λus s1 zz=>exA zz λvs H1 I1 r1 q1=>?_) (by rw[hs,hs2]) (by rw[hs2];rfl)));obtain⟨b,c,a,d,xs,ys,e,qx,qy,q⟩:=q1;subst e;cases r1 with
 |
  cons r rr=>
  cases rr with
  |
   cons r' rr=>
   cases rr;cases r;cases r';obtain⟨ix,rx,lx⟩:=jd I1 qx;obtain⟨iy,ry,ly⟩:=jd I1 qy;have la:a<s1.heap.objs.size:=by cases b <;> (obtain⟨o,e,_⟩:=lx;exact A_ e)
   have ld:d<s1.heap.objs.size:=by cases c <;> (obtain⟨o,e,_⟩:=ly;exact A_ e)
   refine zp lx ly λh' y1 y2 y3 y4 y5 hk=>wpAny_pyIter_zip y1 ⟨s1.heap.objs.size+4,[s1.heap.objs.size+4,s1.heap.objs.size+2,s1.heap.objs.size+3,s1.heap.objs.size,s1.heap.objs.size+1],_,_,H1,rfl,I1.kept (t':=s1.toks) λc o z=>hk c o z,Bh b c a d _ _ _ _ _ (W.ktu_apart _ _ _ la ld),⟨y1,y2,⟨_,_,y3⟩,y4,y5⟩,λe he=>?_,q⟩;have hge:s1.heap.objs.size<=e:=by
    simp only[G_,PD,or_false] at he;rcases he with rfl |rfl |rfl |rfl |rfl
    .exact PF _ _
    .exact PF _ _
    .exact PF _ _
    .exact u_ _
    .exact PF _ _
   exact I1.fpOk hge (I1.hok.fresh hge)
inductive D where
 |non |bl (b:Bool) |int (i:Int) |str (x:Str) |ty (n:String) |glb (x:Str) |exc (x:Str) |tup (xs:List D) |ref (n:Nat) |kl (xs:List D)
 deriving Inhabited
inductive Ob where
 |lst (xs:List D) |fz (xs:List D) |set (xs:List Int) |dct (kvs:List (Key×D)) |any
 deriving Inhabited
abbrev AH:=List Ob
abbrev AE:=List (Option D)
inductive R(α:Type) where
 |ok (a:α) (h:AH) |exc (c:Str) (h:AH) |stuck
inductive SR where
 |nx (ae:AE) (h:AH) |rt (d:D) (h:AH) |bk (ae:AE) (h:AH) |ct (ae:AE) (h:AH) |exc (c:Str) (ae:AE) (h:AH) |stuck
abbrev ME:=AE->AH->R D
abbrev MT:=AE->AH->R Bool
abbrev MA:=AE->AH->R (List D)
abbrev MS:=AE->AH->SR
section
variable(K:W.Frag)(mg:Qd)
def fW(c:Addr)(q:Str):Heap->Prop:=λh=>h.CodeRec (.ref c) q
noncomputable def lM:List Str:=["by_falling_weights", "least_around"]
def LamT(P:Addr)(q:Str):Prop:=∃(x:Str) (f:Addr) (oc:Value) (od:Option Addr) (fd:FuncData) (sl:Array (Option Value)) (c:Addr),x∈lM/\(∀y∈lM,y≠x->mg y=none)/\mg x=some (.ref f)/\K.lookup f=some ⟨oc,od,.func fd,sl⟩/\fd.code=.ref c/\W.codeHdIn K c P=true/\q=fd.qualname ++ ".<locals>." ++ "<lambda>"
def bmP(o:Obj):Prop:=o.cls=.type "module" /\ o.dict=some builtinsNs/\o.data=.plain
def sP(H:Hp):Prop:=∃b o,mg "__builtins__"=some (.ref b)/\b≠builtinsNs/\b≠mainGlobals/\bmP o/\(K.lookup b=some o\/∃u,H b=some (.frz o u))
end
section
variable{X:Cx}{e:Expr}{es:List Expr}{st:Stmt}{sts:List Stmt}
def PE.imp(h:PE X e t)(k:∀σ H Q,t' σ H Q->t σ H Q):PE X e t':=λpins s σ H Q I w=>h pins s σ H Q I (k σ H Q w)
def PT.imp(h:PT X e t)(k:∀σ H Q,t' σ H Q->t σ H Q):PT X e t':=λpins s σ H Q I w=>h pins s σ H Q I (k σ H Q w)
def PW.imp(h:PW X e t)(k:∀σ H Q,t' σ H Q->t σ H Q):PW X e t':=λwh pins s σ H Q I w=>h wh pins s σ H Q I (k σ H Q w)
def PA.imp(h:PA X es t)(k:∀σ H Q,t' σ H Q->t σ H Q):PA X es t':=λpos pins s σ H Q I w=>h pos pins s σ H Q I (k σ H Q w)
def PS.imp(h:PS X st t)(k:∀D σ H,t' D σ H->t D σ H):PS X st t':=λpins s σ H D I w=>h pins s σ H D I (k D σ H w)
def PSs.imp(h:PSs X sts t)(k:∀D σ H,t' D σ H->t D σ H):PSs X sts t':=λpins s σ H D I w=>h pins s σ H D I (k D σ H w)
def PG.imp(h:PG X e t)(k:∀v σ H Q,t' v σ H Q->t v σ H Q):PG X e t':=λpins s σ H v u Q I r w=>h pins s σ H v u Q I r (k v σ H Q w)
def PGs.imp(h:PGs X es t)(k:∀v σ H Q,t' v σ H Q->t v σ H Q):PGs X es t':=λpins s σ H v u Q I r w=>h pins s σ H v u Q I r (k v σ H Q w)
def PO.imp(h:PO X o t)(k:∀σ H Q,t' σ H Q->t σ H Q):PO X o t':=λpins s σ H Q I w=>h pins s σ H Q I (k σ H Q w)
end
abbrev MG:=D->AE->AH->R AE
abbrev MGs:=List D->AE->AH->R AE
noncomputable def g2 (f:Int->Int->R D) (x y:D):R D:=match x,y with
 |.int i,.int j=>f i j
 |_,_=>.stuck
section
variable{K:W.Frag}{X:Cx}
def qJ(K:W.Frag):R2:=λx y H Q=>∃a b ys,x=.ref a/\y=.ref b/\SqT K H a []/\SqT K H b ys/\Q (.ref b) H
def FQ:OpR X (binaryOp .Add) (qJ X.K):=by
 intro pins s σ H x y v u Q I rx ry h;obtain⟨a,b,ys,rfl,rfl,ha,hb,q⟩:=h;cases rx;cases ry;obtain⟨its,r1,p1,_⟩:=I.tuple ha;obtain⟨its2,r2,p2,_⟩:=I.tuple hb;have e:its=[]:=r1.nil_iff.mpr rfl;subst e;obtain⟨⟨cls,dd,data,sl⟩,ho,hc,n,hd⟩:=id p1;obtain⟨⟨cls2,dd2,data2,sl2⟩,ho2,hc2,n2,hd2⟩:=id p2;simp only at hc hd hc2 hd2;subst hc hd hc2 hd2;exact concat_meets ⟨_,ho,rfl⟩ ⟨_,ho2,rfl⟩ noFill_tuple_add seq_tuple_add Pu Pn (Pl _ _)
  (tuple_addW0 _ _ _ _ n n2 dd dd2 sl sl2 rfl) ⟨ho,ho2,⟨.ref b,H,I,rfl,q⟩⟩
def ixK(h:X.K=K):IxR X (λx y H Q=>C5 K x y H Q\/CQ K x y H Q):=by subst h;exact FK.or Kv
def catK(h:X.K=K):OpR X (binaryOp .Add) (λx y H Q=>xx x y H Q\/(qP K x y H Q\/qJ K x y H Q)):=by subst h;exact J2.or (Fh.or FQ)
end
inductive AIt where
 |lst (n:Nat) (xs:List D) |tup (xs:List D) |rng (lo:Int) (k:Nat) |rgd (lo:Int) (k:Nat) |txt (x:Str) |enm (s:AIt) |zip (s t:AIt)
abbrev MI:=AE->AH->R AIt
section
variable{K:W.Frag}{X:Cx}{tg iter e a b:Expr}{I:MI}
def PI.imp(h:PI X tg iter t)(k:∀σ H Q,t' σ H Q->t σ H Q):PI X tg iter t':=λpins s σ H Q I w=>h pins s σ H Q I (k σ H Q w)
def Hj(hl:PE X l tl):PI X tg l (λσ H R=>tl σ H λx H1=>(∃a,x=.ref a/\(∃xs,SqL X.K H1 a xs)/\R (Itl X.K a) H1)\/(∃a,x=.ref a/\(∃xs,SqT X.K H1 a xs)/\R (Itt X.K a) H1)):=by
 intro pins s σ H R I h;refine thn (hl pins s σ H _ I h) λv s1 zz=>exA zz λx H1 I1 r1 q1=>?_;rcases q1 with ⟨a,e,⟨xs,hq⟩,q⟩ |⟨a,e,⟨xs,hq⟩,q⟩
 .subst e;cases r1;obtain⟨its,rv,p,hz⟩:=I1.list hq;refine wpAny_pyIter_list p.isList ?_;refine⟨s1.heap.objs.size,[s1.heap.objs.size],_,_,H1,rfl,I1.kept (t':=s1.toks) λb o e=>s_ _ e,zD a _,⟨_,F_ _ rfl,rfl,rfl⟩,λb hb=>?_,q⟩;have e:b=s1.heap.objs.size:=by simpa using hb
  subst e;exact I1.fpOk (u_ _) (I1.hok.fresh (u_ _))
 .subst e;cases r1;obtain⟨its,rv,p,hz⟩:=I1.tuple hq;refine wpAny_pyIter_tuple (show s1.heap.IsTuple a its.toArray from p) ?_;refine⟨s1.heap.objs.size,[s1.heap.objs.size],_,_,H1,rfl,I1.kept (t':=s1.toks) λb o e=>s_ _ e,yu a _,⟨_,F_ _ rfl,rfl,rfl⟩,λb hb=>?_,q⟩;have e:b=s1.heap.objs.size:=by simpa using hb
  subst e;exact I1.fpOk (u_ _) (I1.hok.fresh (u_ _))
end
section
variable{K:W.Frag}{X:Cx}
def MW(h:X.K=K):CallR X (.builtin "len") (λxs H Q=>(∃p ys,xs=[.ref p]/\(SqL K H p ys\/SqT K H p ys)/\Q (.int ys.length) H)\/(∃z,xs=[.str z]/\z.length<=sizeLine/\Q (.int z.length) H)):=by subst h;exact rZ.or rD
def GQ(h:X.K=K):CallR X (.type "list") (λxs H Q=>∃p ys,xs=[.ref p]/\(SqL K H p ys\/SqT K H p ys)/\∀l,H l=none->Q (.ref l) (upd H l (.lst ys))):=by subst h;exact uC
def Fp(h:X.K=K):CallR X (.type "tuple") (λxs H Q=>∃p ys,xs=[.ref p]/\((SqL K H p ys/\∀l,H l=none->Q (.ref l) (upd H l (.tup ys)))\/(SqT K H p ys/\Q (.ref p) H))):=by subst h;exact pX
end
inductive Cl where
 |b (n:String) |o (x:Str)
 deriving DecidableEq
def ClV(mg:Qd):Cl->Value->Prop
 |.b n,v=>v=.type n
 |.o x,v=>∃a,v=.ref a/\mg x=some (.ref a)
abbrev jv:=List (Cl×Cl×Bool)
structure KitsOk(K:W.Frag)(mg:Qd)(kt:jv):Prop where
 one:∀p∈kt,∀t v,ClV mg p.1 t->ClV mg p.2.1 v->W.kitOne K t v=some p.2.2
 xc:∀p∈kt,∀x C,p.1=.o x->mg x=some (.ref C)->XCls K C
noncomputable def kit (kt:jv) (t c:Cl):Option Bool:=(kt.find? λp=>decide (p.1=t)&&decide (p.2.1=c)).map (·.2.2)
noncomputable def gS (kt:jv) (t:Cl):List Cl->Option Bool
 | []=>some false
 |c::r=>match kit kt t c with
  |some true=>some true
  |some false=>gS kt t r
  |none=>none
def nV(e:kit kt t c=some b):(t,c,b)∈kt:=by
 unfold kit at e;cases q:kt.find? (λp=>decide (p.1=t)&&decide (p.2.1=c)) with
 |none=>rw[q] at e;cases e
 |some p=>rw[q] at e;have h1:=List.find?_some q;have h2:=List.mem_of_find?_eq_some q;simp only[v_,ON] at h1;obtain⟨p1,p2,p3⟩:=p;have e3:p3=b:=J_ e;obtain⟨rfl,rfl⟩:=h1;subst e3;exact h2
section
variable{K:W.Frag}{mg:Qd}{X:Cx}{H:Hp}{h:AH}
def zf(ok:KitsOk K mg kt)(ht:ClV mg t tv):∀{cs:List Cl}{cvs:List Value}{b:Bool},Paired (ClV mg) cs cvs->gS kt t cs=some b->W.kitAny K tv cvs=some b:=by
 intro cs;induction cs with
 |nil=>intro cvs b r e;cases r;cases e;rfl
 |
  cons c cs ih=>
  intro cvs b r e;cases r with
  |
   cons r rr=>
   unfold gS at e;unfold W.kitAny;cases q:kit kt t c with
   |none=>rw[q] at e;cases e
   |
    some z=>
    rw[q] at e;rw[ok.one _ (nV q) _ _ ht r];cases z with
    |true=>exact e
    |false=>exact ih rr e
def yJ:CallR X (.builtin "isinstance") (λxs H Q=>∃x tp cs t vs b,xs=[x,.ref tp]/\SqT X.K H tp cs/\TyX X.K H x t/\cs.mapM gd=some vs/\W.kitAny X.K t vs=some b/\Q (.bl b) H):=by intro pins s σ H xs us Q I r h;obtain⟨x,tp,cs,t,vs,b,rfl,ht,ty,hc,hk,q⟩:=h;obtain⟨u,w',rfl,rx,rc⟩:=qu r;cases rc;obtain⟨its,rv,⟨o,e,c,n,d⟩,_⟩:=I.tuple ht;obtain rfl:=o8 hc rv;obtain⟨Hh,Z,p,hne⟩:=vm I rx ty;obtain⟨oc,od,odt,osl⟩:=o;have c':oc=.type "tuple":=c;have d':odt=.seq its.toArray n:=d;subst c' d';exact W.kia_tup Z I.kIn p e hk hne λtk=>⟨.bl b,H,I.tok _,rfl,q⟩
def LA(hK:X.K=K):CallR X (.builtin "isinstance") (λxs H Q=>(∃x c t v b,xs=[x,c]/\TyX K H x t/\gd c=some v/\W.kitOne K t v=some b/\Q (.bl b) H)\/
 (∃x tp cs t vs b,xs=[x,.ref tp]/\SqT K H tp cs/\TyX K H x t/\cs.mapM gd=some vs/\W.kitAny K t vs=some b/\Q (.bl b) H)):=by subst hK;exact BV.or yJ
end
section
variable{K:W.Frag}{X:Cx}{H:Hp}{h:AH}
inductive EqsR(K:W.Frag)(H:Hp)(y:V)(pd:PyData):List V->List Bool->Prop where
 |nil:EqsR K H y pd [] []
 |cons {x:V}{px:PyData}{xs:List V}{bs:List Bool} (rx:Rep K H x px) (hx:shp px=true) (r:EqsR K H y pd xs bs):EqsR K H y pd (x::xs) (PyData.eqv px pd::bs)
def rEqs(K:W.Frag)(H:Hp)(l:Addr)(y:V)(bs:List Bool):Prop:=∃xs pd,SqL K H l xs/\Rep K H y pd/\shp pd=true/\EqsR K H y pd xs bs
def Bi(I:Inv X pins σ H s)(hu:X.A.units+190<cLine)(ry:Rep X.K H y pd)(rv:RelV y v)(hy:shp pd=true):∃e:Value->Bool,∀{xs:List V}{bs:List Bool}{its:List Value},EqsR X.K H y pd xs bs->Vals xs its->its.map e=bs/\∀u∈its,SeqAt.EqAt X.A.in1 s u v (e u):=by
 classical
 obtain⟨as,q1⟩:=ry.reads I rv;refine⟨λu=>if q:∃d as,Reads s.heap u d as/\shp d=true then PyData.eqv q.choose pd else false,λ{xs bs its} r rr=>?_⟩;induction r generalizing its with
 |nil=>cases rr;exact⟨rfl,λu hu=>nomatch hu⟩
 |
  cons rx hx r ih=>
  rename_i x px xs bs;cases rr with
  |
   cons r1 rr=>
   rename_i u us;obtain⟨ih1,ih2⟩:=ih rr;obtain⟨as1,q2⟩:=rx.reads I r1;have hq:∃d as,Reads s.heap u d as/\shp d=true:=⟨px,as1,q2,hx⟩;have e1:(if q:∃d as,Reads s.heap u d as/\shp d=true then PyData.eqv q.choose pd else false)=PyData.eqv px pd:=by
    rw[dif_pos hq];obtain⟨as2,q3,hs3⟩:=hq.choose_spec
    have:=SeqAt.Reads.unique px hq.choose u _ _ (gn hx) q2 q3
    rw[<- this]
   refine⟨by rw[t_,ih1,e1],λw hw=>?_⟩;rcases G_.mp hw with rfl |hw
   .dsimp only;rw[e1];exact SeqAt.eqAt_reads px pd X.A.in1 s _ _ _ _ q2 q1 (gn hx) (gn hy) (lO hx (by have:X.A.in1.units=X.A.units+1:=rfl;rw[this];omega))
   .exact ih2 w hw
def oC(K:W.Frag):V->List V->Hp->VK->Prop:=λx vs H Q=>∃l y bs,x=.ref l/\vs=[y]/\rEqs K H l y bs/\bs.idxOf true<bs.length/\Q (.int (bs.idxOf true:Nat)) H
def EqsR.len(r:EqsR K H y pd xs bs):xs.length=bs.length:=by
 induction r with
 |nil=>rfl
 |cons _ _ _ ih=>rw[D_,D_,ih]
def DC(hu:X.A.units+190<cLine):MtM X "list.index" (oC X.K):=by
 intro pins s σ H x vs v us Q I rx rv h;obtain⟨l,y,bs,rfl,rfl,⟨xs,pd,hq,ry,hy,re⟩,hi,q⟩:=h;cases rx;obtain⟨u,rfl,ru⟩:=rv.one;obtain⟨e,he⟩:=Bi I hu ry ru hy;obtain⟨its,r,⟨o,n,eo,hc,hd,hs⟩,hz⟩:=I.list hq;obtain⟨m1,m2⟩:=he re r;have a_:=r.length;have hbl:=re.len;have hn:=hX;have hj:bs.idxOf true<its.toArray.size:=by rw[y_];omega
 have eo':s.heap.get? l=some { cls:=.type "list",dict:=o.dict,data:=.seq its.toArray n,slots:=o.slots }:=by rw[eo];obtain⟨oc,od,odt,osl⟩:=o;have h1:oc=.type "list":=hc;have h2:odt=.seq its.toArray n:=hs;subst h1 h2;rfl
 have em:∀(m:Nat) (hm:m<its.toArray.size),bs[m]?=some (e its.toArray[m]):=λm hm=>by
  rw[<- m1,Nq];have:its[m]?=some its.toArray[m]:=by rw[B_ (by simpa using hm)];rfl
  rw[this];rfl
 refine call_meets PySem.F.slot_list_index ⟨_,eo',rfl⟩ PySem.F.entry_list_index (PySem.F.args_list_index_2 _ _)
  (SeqAt.list_indexAt l its.toArray n o.dict o.slots u e (bs.idxOf true) hj (by omega) ?_ ?_) ⟨eo',λw hw=>m2 w (by simpa using hw),?_⟩
 .have:=em _ hj
  rw[B_ hi,List.getElem_idxOf] at this;exact (J_ this).symm
 .intro m
   hm hlt
  have:=em m hm
  have hb:m<bs.length:=by omega
  rw[B_ hb] at this;have h3
   : bs[m]≠true:=λz=>by
   have h4:bs.idxOf true<=m:=by
    have:=Pk (l:=bs) (a:=true)
    rcases Nat.lt_or_ge m (bs.idxOf true) with z' |z'
    .exact absurd z (by have h5:=List.not_of_lt_findIdx (xs:=bs) (p:=(· == true)) (i:=m) z';simpa using h5)
    .exact z'
   omega
  have h4:e its.toArray[m]=bs[m]:=(J_ this).symm;rw[h4];exact Bool.eq_false_iff.mpr h3
 .exact⟨.int _,H,I.tok _,⟨_,rfl⟩,q⟩
def IJ(h:X.K=K)(hu:X.A.units+190<cLine):MtM X "list.index" (oC K):=by subst h;exact DC hu
def Room.u100(r:Room k A):A.units+190<cLine:=by have:=r.un;omega
end
abbrev MO:=AE->AH->R (Option Int)
section
variable{K:W.Frag}{X:Cx}{F:ME}{lo hi:Option Expr}
def BI:V->Option Int->Option Int->Hp->VK->Prop:=λx lo hi H Q=>∃z,x=.str z/\z.length<=16777216/\Q (.str (Txt.slice z lo hi)) H
def JO:SlR X BI:=by
 intro pins s σ H x v vl vu lo hi sl Q I rx hs pl pu h;obtain⟨z,rfl,hz,q⟩:=h;obtain⟨t,rfl⟩:=rx;refine⟨"str",_,PySem.F.slot_str_getitem.lookup,typeIs_str _ _ _,?_⟩;have key:∀t' k,EP X pins σ Q (.str (Txt.slice z lo hi) t') { s with toks:=k }:=λt' k=>⟨.str (Txt.slice z lo hi),H,I.tok _,⟨_,rfl⟩,q⟩;cases pl <;> cases pu
 .exact OT (l:=none) (u:=none) (st:=none) hs rfl (P0 ⟨Nw (Txt.slice_le z _ _) hz,λt' k=>key t' k⟩)
 .exact OT (l:=none) (u:=some (_,_)) (st:=none) hs rfl (P0 ⟨Nw (Txt.slice_le z _ _) hz,λt' k=>key t' k⟩)
 .exact OT (l:=some (_,_)) (u:=none) (st:=none) hs rfl (P0 ⟨Nw (Txt.slice_le z _ _) hz,λt' k=>key t' k⟩)
 .exact OT (l:=some (_,_)) (u:=some (_,_)) (st:=none) hs rfl (P0 ⟨Nw (Txt.slice_le z _ _) hz,λt' k=>key t' k⟩)
def slK(h:X.K=K):SlR X (λx lo hi H Q=>(B9 K x lo hi H Q\/C9 K x lo hi H Q)\/BI x lo hi H Q):=by subst h;exact (EZ.or G6).or JO
end
def CMulA(i j:Int):Prop:=Ef i j\/CMul i j
section
variable{K:W.Frag}{X:Cx}
def AS(h:X.K=K):OpR X (binaryOp .Add) (λx y H Q=>rI0 (λi j=>.int (i+j)) x y H Q\/(xx x y H Q\/(qP K x y H Q\/qJ K x y H Q))):=Hx.or (catK h)
def IH:OpR X (binaryOp .Mult) (rI CMulA λi j=>.int (i*j)):=by
 intro pins s σ H x y v u Q I rx ry h;obtain⟨i,j,e1,e2,hc,q⟩:=h;rcases hc with hc |hc
 .exact E2 pins s σ H x y v u Q I rx ry ⟨i,j,e1,e2,hc,q⟩
 .exact Hm pins s σ H x y v u Q I rx ry ⟨i,j,e1,e2,hc,q⟩
end
def ij(h1:pd.canLay0=true)(h2:pd.depth<=160):shp pd=true:=by unfold shp;rw[h1,H_ h2];rfl
def Sm(n:Nat)(x:Int):Prop:=x.natAbs<2^n
def Sm.mono(h:Sm n x)(l:n<=m):Sm m x:=I_ h (NI (by omega) l)
def Sm.mul(h:Sm n x)(k:Sm m y):Sm (n+m) (x*y):=by unfold Sm at *;rw[NX,OC];exact Nat.mul_lt_mul'' h k
def Sm.add'(h:Sm n x)(k:Sm n y):Sm (n+1) (x+y):=by
 unfold Sm at *;have h3:2^(n+1)=2^n+2^n:=by rw[Nat.pow_succ];omega
 have h4:(x+y).natAbs<=x.natAbs+y.natAbs:=Int.natAbs_add_le x y;omega
def Sm.bits(h:Sm n x):Builtin.Int.intBits x<=n:=intBits_le_iff.mpr h
def Sm.of_le(h:Sm n y)(l:x.natAbs<=y.natAbs):Sm n x:=Oh l h
def CMulA.of(h:Sm n x)(k:Sm m y)(hn:n<=100000)(hm:m<=100000):CMulA x y:=.inl ⟨Nw h.bits hn,Nw k.bits hm⟩
def CMulA.left(h:-(2^64)<x)(k:x<2^64):CMulA x y:=.inr (.inl ⟨h,k⟩)
def CMulA.right(h:-(2^64)<y)(k:y<2^64):CMulA x y:=.inr (.inr ⟨h,k⟩)
def CDivB.of(h0:y≠0)(h:Sm 8000 y):CDivB x y:=⟨h0,h.bits⟩
structure Sz(n:Nat)(q:Rat):Prop where
 top:Sm n q.num
 bot:Sm n (q.den:Int)
def Sz.mono(h:Sz n q)(l:n<=m):Sz m q:=⟨h.top.mono l,h.bot.mono l⟩
def yR{a b:Int}(hb:b≠0):((a:Rat)/(b:Rat)).num*b=a*((a:Rat)/(b:Rat)).den:=by
 have h2:=Rat.num_divInt_den ((a:Rat)/(b:Rat));have h3:Rat.divInt ((a:Rat)/(b:Rat)).num (((a:Rat)/(b:Rat)).den:Int)=Rat.divInt a b:=by rw[h2,Rat.divInt_eq_div]
 exact (Rat.divInt_eq_divInt_iff (by have:=((a:Rat)/(b:Rat)).den_nz;omega) hb).mp h3
def vL(q:Rat):Int.gcd q.num q.den=1:=by
 have:=q.reduced
 exact this
def mB(hb:b≠0):Fr.T a b=((a:Rat)/(b:Rat)).num/\Fr.B a b=(((a:Rat)/(b:Rat)).den:Int):=by
 refine Fr.uniq (Fr.B_pos hb) (by have:=((a:Rat)/(b:Rat)).den_pos;omega) (Fr.low hb) (vL _) ?_;have h1:=Fr.cross (a:=a) hb;have h2:=yR (a:=a) hb;generalize ((a:Rat)/(b:Rat)).num=n at *;generalize (((a:Rat)/(b:Rat)).den:Int)=d at *;generalize Fr.T a b=x at *;generalize Fr.B a b=y at *;have h3:(x*d)*b=(n*y)*b:=by
  calc x*d*b=(x*b)*d:=by rw[Pj]
   _=a*y*d:=by rw[h1]
   _=(a*d)*y:=by rw[Pj]
   _=n*b*y:=by rw[h2]
   _=n*y*b:=by rw[Pj]
 exact OL hb h3
def xE{a b:Int}(hb:b≠0):((a:Rat)/(b:Rat)).num.natAbs<=a.natAbs:=by
 have h:=(mB (a:=a) hb).1;rw[<- h];have h1:=Fr.T_mul (a:=a) hb;have h2:=Fr.dv_ne (a:=a) hb;have h3:(Fr.T a b).natAbs*(Fr.dv a b).natAbs=a.natAbs:=by rw[<- NX,h1]
 have h4:1<=(Fr.dv a b).natAbs:=by omega
 calc (Fr.T a b).natAbs=(Fr.T a b).natAbs*1:=by omega
  _<=(Fr.T a b).natAbs*(Fr.dv a b).natAbs:=Oa _ h4
  _=a.natAbs:=h3
def yo{a b:Int}(hb:b≠0):((((a:Rat)/(b:Rat)).den:Int)).natAbs<=b.natAbs:=by
 have h:=(mB (a:=a) hb).2;rw[<- h];have h1:=Fr.B_mul (a:=a) hb;have h2:=Fr.dv_ne (a:=a) hb;have h3:(Fr.B a b).natAbs*(Fr.dv a b).natAbs=b.natAbs:=by rw[<- NX,h1]
 have h4:1<=(Fr.dv a b).natAbs:=by omega
 calc (Fr.B a b).natAbs=(Fr.B a b).natAbs*1:=by omega
  _<=(Fr.B a b).natAbs*(Fr.dv a b).natAbs:=Oa _ h4
  _=b.natAbs:=h3
def Sz.div(hb:b≠0)(ha:Sm n a)(hb':Sm m b)(k:Nat)(h1:n<=k)(h2:m<=k):Sz k ((a:Rat)/(b:Rat)):=
 ⟨(ha.of_le (xE hb)).mono h1,(hb'.of_le (yo hb)).mono h2⟩
def bM(q:Rat):(q.den:Int)≠0:=by have:=q.den_nz;omega
def eP(q:Rat):q=(q.num:Rat)/((q.den:Int):Rat):=by
 have:=Rat.num_divInt_den q
 rw[Rat.divInt_eq_div] at this;exact this.symm
def g0{b:Int}(h:b≠0):(b:Rat)≠0:=by intro z;exact h (by exact_mod_cast z)
def nZ(p q:Rat):p+q=((p.num*q.den+q.num*p.den:Int):Rat)/((p.den*q.den:Int):Rat):=by
 have h1:=g0 (bM p);have h2:=g0 (bM q)
 conv=>lhs;rw[eP p,eP q]
 simp only[Rat.intCast_add,NQ];grind
def nM(p q:Rat):p*q=((p.num*q.num:Int):Rat)/((p.den*q.den:Int):Rat):=by
 have h1:=g0 (bM p);have h2:=g0 (bM q)
 conv=>lhs;rw[eP p,eP q]
 simp only[NQ];grind
def Sz.add(hp:Sz n p)(hq:Sz m q):Sz (n+m+1) (p+q):=by rw[nZ];have h1:=(hp.top.mul hq.bot);have h2:=(hq.top.mul hp.bot);exact Sz.div (by have:=bM p;have:=bM q;exact Om ‹_› ‹_›) (h1.add' (by rw[Nat.add_comm n m];exact h2)) (hp.bot.mul hq.bot) _ (by omega) (by omega)
def Sz.mul(hp:Sz n p)(hq:Sz m q):Sz (n+m) (p*q):=by rw[nM];exact Sz.div (by have:=bM p;have:=bM q;exact Om ‹_› ‹_›) (hp.top.mul hq.top) (hp.bot.mul hq.bot) _ (by omega) (by omega)
def vj{q:Rat}:0<q.num ↔ 0<q:=by
 have h1:=Rat.num_nonneg (q:=q);have h2:=PX (q:=q);constructor
 .intro h;refine Rat.lt_of_le_of_ne (h1.mp (by omega)) λz=>?_
  have:=h2.mpr z.symm
  omega
 .intro h;have h3:=h1.mpr (Rat.le_of_lt h);have h4:q.num≠0:=λz=>(Rat.ne_of_lt h) (h2.mp z).symm;omega
def Hu(p q:Rat):p<q ↔ p.num*q.den<q.num*p.den:=Rat.lt_iff p q
def Cv{P:Program}{w:World}{H:Hp}(h:Heap)(hb:sysModules<h.objs.size):ObjOk P w H (h.push { cls:=.type "dict",data:=.dict #[] }) h.objs.size (.dK []):=
 ⟨NM _,E_.mpr (Ne.symm (Nn hb)),[],.nil,Heap.DictOf.new h⟩
def Inv.big{X:Cx}{pins:Qe}{σ:St}{H:Hp}{s:Shared}(I:Inv X pins σ H s):sysModules<s.heap.objs.size:=by have h:mainGlobals<s.heap.objs.size:=(I.mod.glob.keeps I.bk).lt;exact PV (by decide) h
def Kr:TE:=λ_ H Q=>∀p,H p=none->Q (.ref p) (upd H p (.dK []))
section
variable{X:Cx}{pos:Pos}
def CU:PE X (.Dict [] [] pos) Kr:=λpins s σ H Q I h=>
 wpAny_Dict_empty ⟨.ref s.heap.objs.size,_,I.laid (a:=s.heap.objs.size) (o:=.dK []) (t':=s.toks) (λ_ _ q=>s_ _ q) (u_ _) (Cv s.heap I.big),rfl,h _ (I.hok.fresh (u_ _))⟩
end
variable{K:W.Frag}{mg:Qd}
section
variable{κ:Type}[DecidableEq κ]
noncomputable def hJ (kvs:List (κ×V)) (k:κ):Option V:=(kvs.find? λkv=>decide (kv.1=k)).map (·.2)
noncomputable def hU (kvs:List (κ×V)) (k:κ) (v:V):List (κ×V):=
 if (kvs.any λkv=>decide (kv.1=k))=true then kvs.map (λkv=>if kv.1=k then (kv.1,v) else kv) else kvs++[(k,v)]
def lD{p:κ×V}{r:List (κ×V)}{k:κ}(e:p.1=k):hJ (p::r) k=some p.2:=by simp [hJ,NY,e]
def lI{p:κ×V}{r:List (κ×V)}{k:κ}(e:¬ p.1=k):hJ (p::r) k=hJ r k:=by simp [hJ,NY,e]
theorem qR(k:κ):∀kvs:List (κ×V),(kvs.any λkv=>decide (kv.1=k))=(hJ kvs k).isSome
 | []=>rfl
 |
  p::r=>by
  rw[N7];by_cases e:p.1=k
  .simp only[lD e,H_ e,Bool.true_or,Option.isSome_some]
  .rw[lI e,Em e,Bool.false_or];exact qR k r
def k8(kvs:List (κ×V))(k:κ)(v:V):(hU kvs k v).length<=kvs.length+1:=by
 unfold hU;split
 .rw[p_];omega
 .rw[K_,D_,Nr];omega
def RelO.isSome_eq(r:RelO o u):o.isSome=u.isSome:=by
 cases o with
 |none=>cases u with
  |none=>rfl
  |some _=>exact (show False from r).elim
 |some _=>cases u with
  |none=>exact (show False from r).elim
  |some _=>rfl
def KV.val(r:KV kvs vs)(k:κ):RelO (hJ kvs k) (valueAt vs k):=by
 unfold KV at r;induction r with
 |nil=>exact True.intro
 |
  @cons p q ps qs h t ih=>
  obtain⟨h1,h2⟩:=h;by_cases e:p.1=k
  .have e':q.1=k:=h1.symm.trans e;have b:valueAt (q::qs) k=some q.2:=by simp [valueAt,NY,e']
   rw[lD e,b];exact h2
  .have e':¬ q.1=k:=λz=>e (h1.trans z);have b:valueAt (q::qs) k=valueAt qs k:=by simp [valueAt,NY,e']
   rw[lI e,b];exact ih
def KV.any(r:KV kvs vs)(k:κ):(kvs.any λkv=>decide (kv.1=k))=vs.any λkv=>decide (kv.1=k):=by
 unfold KV at r;induction r with
 |nil=>rfl
 |cons h t ih=>rw[N7,N7,ih,h.1]
def KV.repl(r:KV kvs vs)(k:κ)(ry:RelV y u):
 KV (kvs.map λkv=>if kv.1=k then (kv.1,y) else kv) (vs.map λkv=>if kv.1=k then (kv.1,u) else kv):=by
 unfold KV at r ⊢;induction r with
 |nil=>exact .nil
 |
  @cons p q ps qs h t ih=>
  rw[t_,t_];refine .cons ?_ ih;obtain⟨h1,h2⟩:=h;by_cases e:p.1=k
  .rw[if_pos e,if_pos (h1.symm.trans e)];exact⟨h1,ry⟩
  .rw[if_neg e,if_neg (λz=>e (h1.trans z))];exact⟨h1,h2⟩
def KV.put(r:KV kvs vs)(k:κ)(ry:RelV y u):KV (hU kvs k y) (stored vs k u):=by
 unfold hU stored;rw[r.any k];by_cases e:(vs.any λkv=>decide (kv.1=k))=true
 .rw[if_pos e,if_pos e];exact r.repl k ry
 .rw[if_neg e,if_neg e];exact Paired.snoc r ⟨rfl,ry⟩
def KV.length(r:KV kvs vs):kvs.length=vs.length:=P_ r
end
def xr(r:RelV (kV k) u):(bY P w).is k u=true:=by
 cases k with
 |inl i=>obtain⟨t,e⟩:=(show ∃t,u=Value.int i t from r);subst e;exact uU P w i t
 |inr x=>obtain⟨t,e⟩:=(show ∃t,u=Value.str x t from r);subst e;exact uS P w x t
theorem pf:∀{ks:List Key}{us:List Value},Vals (ks.map kV) us->ItemsAre (bY P w) ks us
 | [],_,r=>by rw[Nt] at r;cases r;exact .nil
 |
  k::ks,_,r=>by
  rw[t_] at r;cases r with
  |cons h t=>exact .cons (xr h) (pf t)
abbrev KT(H:Hp):List (List Key×V)->List (List Key×Addr×Value)->Prop:=Paired λp q=>p.1=q.1/\H q.2.1=some (.tup (p.1.map kV))/\RelV p.2 q.2.2
def KT.val(r:KT H kvs xs)(k:List Key):RelO (hJ kvs k) ((atKey xs k).map (·.2)):=by
 induction r with
 |nil=>exact True.intro
 |
  @cons p q ps qs h t ih=>
  obtain⟨h1,_,h2⟩:=h;by_cases e:p.1=k
  .have e':q.1=k:=h1.symm.trans e;have b:atKey (q::qs) k=some q.2:=by simp [atKey,NY,e']
   rw[lD e,b];exact h2
  .have e':¬ q.1=k:=λz=>e (h1.trans z);have b:atKey (q::qs) k=atKey qs k:=by simp [atKey,NY,e']
   rw[lI e,b];exact ih
def KT.repl(r:KT H kvs xs)(k:List Key)(ry:RelV y u):
 KT H (kvs.map λkv=>if kv.1=k then (kv.1,y) else kv) (xs.map (putAt k u)):=by
 induction r with
 |nil=>exact .nil
 |
  @cons p q ps qs h t ih=>
  rw[t_,t_];refine .cons ?_ ih;obtain⟨h1,h2,h3⟩:=h;unfold putAt;by_cases e:p.1=k
  .rw[if_pos e,if_pos (h1.symm.trans e)];exact⟨h1,h2,ry⟩
  .rw[if_neg e,if_neg (λz=>e (h1.trans z))];exact⟨h1,h2,h3⟩
def KT.put(r:KT H kvs xs)(k:List Key)(hb:H b=some (.tup (k.map kV)))(ry:RelV y u):
 KT H (hU kvs k y) (storedH xs k b u):=by
 have e:(kvs.any λkv=>decide (kv.1=k))=(atKey xs k).isSome:=by rw[qR,(r.val k).isSome_eq,Option.isSome_map]
 unfold hU storedH;rw[e];by_cases q:(atKey xs k).isSome=true
 .rw[if_pos q,if_pos q];exact r.repl k ry
 .rw[if_neg q,if_neg q];exact Paired.snoc r ⟨rfl,hb,ry⟩
def KT.keeps(r:KT H kvs xs)(ht:∀b ys,H b=some (.tup ys)->H' b=some (.tup ys)):KT H' kvs xs:=
 Paired.mapP r λ_ _ z=>⟨z.1,ht _ _ z.2.1,z.2.2⟩
section
variable{P:Program}{w:World}{H:Hp}{h:Heap}{a:Addr}
def Eo(ok:HOk P w H h)(e:Rd H a u):ObjOk P w H h a u:=e.ok ok
def ya(ok:HOk P w H h)(e:Rd H a (.dK kvs)):kvs.length<=sizeLine/\(a==sysModules)=false/\∃vs,KV kvs vs/\h.DictOf (bY P w) a vs:=
 show ObjOk P w H h a (.dK kvs) from Eo ok e
def L5(ok:HOk P w H h)(e:H a=some (.dK kvs)):kvs.length<=sizeLine/\(a==sysModules)=false/\∃vs,KV kvs vs/\h.DictOf (bY P w) a vs:=ya ok (.inl e)
def rH(ok:HOk P w H h)(e:H a=some (.tup (ks.map kV))):(tupleKind (bY P w)).is h ks a:=by obtain⟨_,its,r,o,h1,h2,n,h3⟩:=(show ObjOk P w H h a (.tup (ks.map kV)) from ok a _ e);exact⟨o,its.toArray,n,h1,h2,h3,by simpa using pf r⟩
def yf(ok:HOk P w H h)(e:Rd H a (.dT kvs)):kvs.length<=sizeLine/\(a==sysModules)=false/\
 ∃xs,KT H kvs xs/\h.DictOfH (tupleKind (bY P w)) a xs:=by
 obtain⟨z,y,xs,r,o,es,ep,h1,h2,h3,h4,h5⟩:=(show ObjOk P w H h a (.dT kvs) from Eo ok e);refine⟨z,y,xs,r,o,es,ep,h1,h2,h3,h4,λx hx=>?_,h5⟩;have all:∀{l:List (List Key×V)}{m:List (List Key×Addr×Value)},KT H l m->∀x∈m,(tupleKind (bY P w)).is h x.1 x.2.1:=by
  intro l m q;induction q with
  |nil=>intro x hx;exact nomatch hx
  |
   @cons p q ps qs hq t ih=>
   intro x hx;rcases G_.mp hx with e |hx
   .subst e;exact rH ok (by rw[<- hq.1];exact hq.2.1)
   .exact ih x hx
 exact all r x hx
def MV(ok:HOk P w H h)(e:H a=some (.dT kvs)):kvs.length<=sizeLine/\(a==sysModules)=false/\
 ∃xs,KT H kvs xs/\h.DictOfH (tupleKind (bY P w)) a xs:=yf ok (.inl e)
end
def DGet(H:Hp)(a:Addr)(y:V)(r:Option V):Prop:=
 (∃kvs k,Rd H a (.dK kvs)/\y=kV k/\r=hJ kvs k)\/∃kvs k b,Rd H a (.dT kvs)/\y=.ref b/\H b=some (.tup (k.map kV))/\r=hJ kvs k
def DPut(H:Hp)(a:Addr)(y v:V)(H':Hp):Prop:=
 (∃kvs k,H a=some (.dK kvs)/\y=kV k/\kvs.length<sizeLine/\H'=upd H a (.dK (hU kvs k v)))\/
 ∃kvs k b,H a=some (.dT kvs)/\y=.ref b/\H b=some (.tup (k.map kV))/\kvs.length<sizeLine/\H'=upd H a (.dT (hU kvs k v))
def DGet.k{H:Hp}{a:Addr}{kvs:List (Key×V)}{k:Key}(e:H a=some (.dK kvs)):DGet H a (kV k) (hJ kvs k):=.inl ⟨kvs,k,.inl e,rfl,rfl⟩
def DPut.k{H:Hp}{a:Addr}{kvs:List (Key×V)}{k:Key}{v:V}(e:H a=some (.dK kvs))(hl:kvs.length<sizeLine):DPut H a (kV k) v (upd H a (.dK (hU kvs k v))):=.inl ⟨kvs,k,e,rfl,hl,rfl⟩
section
variable{X:Cx}{pins:Qe}{σ:St}{H:Hp}{s:Shared}{a:Addr}{y v:V}{u r:Value}{o:Option V}{A:Around}{E:Qf}
def yI(hu:A.units+1<cLine)(I:Inv X pins σ H s)(g:DGet H a y (some v))(ry:RelV y u)(h:∀w' s',Inv X pins σ H s'->RelV v w'->Q w' s'):
 wpAny (model X.prog X.w) A (getItem (.ref a) u) Q E s:=by
 rcases g with ⟨kvs,k,e,ey,l⟩ |⟨kvs,k,b,e,ey,eb,l⟩
 .subst ey;obtain⟨z,hd,vs,rel,dd⟩:=ya I.hok e;obtain⟨w',hw,rw'⟩:=RelO.some_of (v:=v) (o:=valueAt vs k) (by rw[l];exact rel.val k);exact wpAny_getItem_of (xr ry) dd.mapOf hw (h w' _ (I.tok _) rw')
 .subst ey;cases (show u=Value.ref b from ry);obtain⟨z,hd,xs,rel,dd⟩:=yf I.hok e;obtain⟨w',hw,rw'⟩:=RelO.some_of (v:=v) (o:=(atKey xs k).map (·.2)) (by rw[l];exact rel.val k);obtain⟨p,hp,hp2⟩:=Np.mp hw;refine wpAny_getItem_heap (tupleKind_room_in1 hu) (rH I.hok eb) dd hp ?_;rw[hp2];exact h w' _ (I.tok _) rw'
def vR(I:Inv X pins σ H s)(mu:Mut (H a))(hs:Heap.SameBut a s.heap h')(he:∃q,h'.get? a=some q)(new:ObjOk X.prog X.w (upd H a ob) h' a ob):
 Inv X pins σ (upd H a ob) { s with heap:=h',toks:=t' }:=
 I.write (x:=a) (e:=a) mu (.inl rfl) (λb q hb z=>(hs.2 b hb).trans z) he new
def IF(z:kvs.length<=sizeLine)(hd:(a==sysModules)=false)(rel:KV kvs vs)(dd:h'.DictOf (bY P w) a vs):
 ObjOk P w H' h' a (.dK kvs):=⟨z,hd,vs,rel,dd⟩
def zQ(hu:A.units+1<cLine)(I:Inv X pins σ H s)(g:DPut H a y v H')(ry:RelV y u)(rv:RelV v r)(h:∀s',Inv X pins σ H' s'->Q () s'):
 wpAny (model X.prog X.w) A (setItem (.ref a) u r) Q E s:=by
 rcases g with ⟨kvs,k,e,ey,l,eH⟩ |⟨kvs,k,b,e,ey,eb,l,eH⟩
 .subst ey eH;obtain⟨z,hd,vs,rel,dd⟩:=L5 I.hok e;have hz:vs.length<=sizeLine:=by rw[<- rel.length];exact z
  have hl:(hU kvs k v).length<=sizeLine:=by have:=k8 kvs k v;omega
  refine wpAny_setItem_pairs (hsz:=hz) (xr ry) dd λh' dd' hs=>h _ ?_;have he:∃q,h'.get? a=some q:=let ⟨q,_,_,hq,_⟩:=dd';⟨q,hq⟩;exact vR I (by rw[e];exact True.intro) hs he (IF hl hd (rel.put k rv) dd')
 .subst ey eH;cases (show u=Value.ref b from ry);obtain⟨z,hd,xs,rel,dd⟩:=MV I.hok e;have hz:xs.length<=sizeLine:=by rw[<- P_ rel];exact z
  have hl:(hU kvs k v).length<=sizeLine:=by have:=k8 kvs k v;omega
  refine wpAny_setItem_heap (hsz:=hz) (tupleKind_room_in1 hu) (rH I.hok eb) dd λh' dd' hs=>h _ ?_;obtain⟨q,es,ep,hq,h2,h3,h4,_,h5⟩:=dd';refine vR I (by rw[e];exact True.intro) hs ⟨q,hq⟩ ⟨hl,hd,_,(rel.put k eb rv).keeps λc ys ec=>?_,q,es,ep,hq,h2,h3,h4,h5⟩;rw[aB (K0 ec e (λz=>nomatch z))];exact ec
end
def CW(i:Expr):Prop:=∀ov iv,subscripted i false ov iv=operate [ov,iv] (getItem ov iv)
def ER{prog:Program}{w:World}{A:Around}{E:Qf}{s:Shared}{env:Env}{value slice:Expr}{pos:Pos}{T id:String}{Q:Qf}
 (hl:typeLookup (.type T) "__getitem__"=pure (some (.builtin id))) (hs:CW slice)
 (h:wpAny (model prog w) A (eval value env) (λo s₁=>wpAny (model prog w) A (eval slice env) (λi s₂=>s₂.TypeIs o T/\wpAny (model prog w) A (getItem o i) Q E s₂) E s₁) E s):
 wpAny (model prog w) A (eval (.Subscript value slice pos) env) Q E s:=by
 refine Subscript_ (NF h (λo s₁ h₁=>NF h₁ (λi s₂ h₂=>?_) λ_ _ x=>x) λ_ _ x=>x);obtain⟨hT,h₂⟩:=h₂;unfold subscriptTail;refine o_ ?_;rw[getitemInPython_of_ne hT.not_modules];refine o_ (wpAny_specialOf hT hl ?_);have d_:wpAny (model prog w) A (subscripted slice false o i) (λr s₃=>wpAny (model prog w) A (letTemporaryGo value o r >>= λ_=>pure r) Q E s₃) E s₂:=by rw[hs o i];exact wpAny_operating (NF h₂ (λr s₃ h₃=>o_ (wpAny_letTemporaryGo (z_ h₃))) λ_ _ x=>x)
 first
  |exact z_ (o_ d_)
  |exact o_ (z_ (o_ d_))
  |exact o_ d_
def uP(I:Inv X pins σ H s)(g:DGet H a y o):s.TypeIs (.ref a) "dict":=by
 rcases g with ⟨kvs,k,e,_,_⟩ |⟨kvs,k,b,e,_,_,_⟩
 .obtain⟨_,_,vs,_,dd⟩:=ya I.hok e;exact dd.typeIs
 .obtain⟨_,_,xs,_,dd⟩:=yf I.hok e;exact dd.typeIs
def MM(td ty:TE):TE:=λσ H Q=>td σ H λx H1=>ty σ H1 λy H2=>∃a v,x=.ref a/\DGet H2 a y (some v)/\Q v H2
section
variable{X:Cx}{o i:Expr}{pos:Pos}{td ty:TE}
def Fo(hu:X.A.units+1<cLine)(ho:PE X o td)(hi:PE X i ty)(hs:CW i):PE X (.Subscript o i pos) (MM td ty):=by intro pins s σ H Q I h;refine ER PySem.F.slot_dict_getitem.lookup hs (thn (ho pins s σ H _ I h) λu s1 zz=>exA zz λx H1 I1 rx q1=>thn (hi pins s1 σ H1 _ I1 q1) λiv s2 ⟨y,H2,I2,ry,a,v,ex,g,q2⟩=>?_);subst ex;obtain rfl:u=Value.ref a:=rx;exact⟨uP I2 g,yI hu I2 g ry λw' s3 I3 rw'=>⟨v,H2,I3,rw',q2⟩⟩
end
section
variable[DecidableEq κ]
noncomputable def lkD (kvs:List (κ×α)) (k:κ):Option α:=(kvs.find? λkv=>decide (kv.1=k)).map (·.2)
noncomputable def fq (kvs:List (κ×α)) (k:κ) (v:α):List (κ×α):=if (kvs.any λkv=>decide (kv.1=k))=true then kvs.map λkv=>if kv.1=k then (kv.1,v) else kv else kvs++[(k,v)]
end
section
variable{H:Hp}
def CZ[DecidableEq κ]:∀{kvs:List (κ×α)}{ws:List (κ×β)},ws.map (·.1)=kvs.map (·.1)->(ws.any λkv=>decide (kv.1=k))=kvs.any λkv=>decide (kv.1=k):=by
 intro kvs;induction kvs with
 |
  nil=>
  intro ws e;cases ws with
  |nil=>rfl
  |cons _ _=>cases e
 |
  cons p kvs ih=>
  intro ws e;cases ws with
  |nil=>cases e
  |cons w ws=>rw[t_,t_] at e;injection e with e1 e2;rw[N7,N7,ih e2,e1]
def Et:tP:=λo i v H Q=>∃a H4,o=.ref a/\DPut H a i v H4/\Q H4
variable{X:Cx}{a:Expr}
def BC(hu:X.A.units+1<cLine):xP X Et:=λpins s σ H o i v ov iv u Q I ro ri rv ⟨a,H4,eo,g,q⟩=>by subst eo;obtain rfl:ov=Value.ref a:=ro;exact zQ hu I g ri rv λs4 I4=>⟨H4,I4,q⟩
end
open PySem PySem.Spec PySem.Calls PyProof.Rows
section
variable{X:Cx}{K:W.Frag}{es:List Expr}{pos:Pos}
def gUnp(K:W.Frag)(n:Nat)(t:TGs):TG:=λv σ H Q=>∃a xs,v=.ref a/\(SqT K H a xs\/SqL K H a xs)/\xs.length=n/\t xs σ H Q
def IQ{k:Nat}{t:TGs}{n:Nat}(hc:X.calm=true)(h:PGs X es t)
 (hn:(assignEach es X.env).length=n) (hst:(assignEach es X.env).findIdx? (·.1)=none):PG X (.Tuple es k pos) (gUnp X.K n t):=by
 intro pins s σ H v u Q I r hw;obtain⟨a,xs,e1,hq,hl,hw⟩:=hw;rcases hq with hq |hq
 .exact zS hc h hn hst pins s σ H v u Q I r ⟨a,xs,e1,hq,hl,hw⟩
 .subst e1;cases r;obtain⟨its,rv,⟨o,m,ho,oc,od,os⟩,hz⟩:=I.list hq;have ht:s.heap.IsList a its.toArray:=⟨o,ho,oc,m,os⟩;rw[assign_Tuple];refine o_ (OU ?_);unfold unpack;rw[hst,hn,show n=its.toArray.size by simp [<- hl,rv.length]];refine o_ (N9 (W.kun_itemsOf (I.ok.hd hc) ht λh' hx=>?_));have I1:Inv X pins σ H { s with heap:=h' }:=I.kept (t':=s.toks) λb o e=>hx b o (Nn (A_ e)) e;exact h pins _ σ H xs _ Q I1 (by simpa using rv) hw
end
section
variable{X:Cx}{mg:Qd}{a:Expr}{pos q2 p1 p2:Pos}
noncomputable def iK (j:Int):List V:=(List.range j.toNat).map λi=>V.int ((i:Nat):Int)
def rLrg:List V->Hp->VK->Prop:=λxs H Q=>∃j:Int,xs=[.int j]/\-(2^62)<=j/\j<=16777216/\∀l,H l=none->Q (.ref l) (upd H l (.lst (iK j)))
theorem va:∀(n:Nat) (f:Nat->Int) (is:List Nat) (ys:List Value),CarriedAll ys (is.map λi=>PyData.int (f i))->Vals (is.map λi=>V.int (f i)) ys
 |n,f,[],ys,h=>by cases h;exact .nil
 |
  n,f,i::is,ys,h=>by
  cases h with
  |cons c r=>cases c;exact .cons ⟨_,rfl⟩ (va n f is _ r)
def Jq(hc:X.calm=true)(hl:Gl X "list")(hml:X.mg "list"=none)(hg:Gl X "range")(hm:X.mg "range"=none)(ha:PA X [a] ta)(hs:starEach [a] X.env=[(false,eval a X.env)])
 (hs1:starEach [.Call (.Name "range" p2) [a] [] q2] X.env=[(false,eval (.Call (.Name "range" p2) [a] [] q2) X.env)]):
 PE X (.Call (.Name "list" p1) [.Call (.Name "range" p2) [a] [] q2] [] pos) (tCB rLrg ta):=by
 intro pins s σ H Q I h;refine NN (cR I hl hml (show bootBuiltins "list"=some (.type "list") from rfl) ?_ (by decide) (by decide));refine NH ?_ hs1 rfl;rw[hs1];show wpAny _ _ (spliced ((false,eval (.Call (.Name "range" p2) [a] [] q2) X.env)::[])) _ _ s;refine OD ?_;refine NN (cR I hg hm (show bootBuiltins "range"=some (.type "range") from rfl) ?_ (by decide) (by decide));refine NH (thn (ha q2 pins s σ H _ I h) λus s1 zz=>exA zz λvs H1 I1 r1 q1=>?_) hs rfl;obtain⟨j,e,h1,h2,q⟩:=q1;subst e;cases r1 with
 |
  cons r rr=>
  cases rr;obtain⟨t,rfl⟩:=r;refine call_range_1 (O2 ?_);have I2:Inv X pins σ H1 { s1 with heap:=s1.heap.push { cls:=.type "range",data:=.fields #[.int 0 s1.toks,.int j t,.int 1 (s1.toks+1)] },toks:=s1.toks+1+1 }:=I1.kept λb o e=>s_ _ e;obtain⟨m,hns,_⟩:=I2.loc;refine list_rangeD (I.ok.hd hc) (Att.fr_all hns) (news:=[]) (λp hp=>nomatch hp) (IsRange.new ..) (small_one (by omega) (by omega) (by omega) (by omega)) (n:=j.toNat) (by rw[Qb];split <;> omega) (by omega) ?_;intro h' tk ys hf hn hk _ _ ⟨⟨c,hpl⟩,_⟩ hcar;have rv:Vals (iK j) ys:=va 0 (λi=>((i:Nat):Int)) (List.range j.toNat) ys (by
   unfold rangeInts at hcar;rw[Nu] at hcar;have e:((λi=>PyData.int i) ∘ λ(i:Nat)=>(0:Int)+(i:Int)*1)=λi:Nat=>PyData.int (i:Int):=by funext i;simp
   rw[show (PyData.int ∘ λ(i:Nat)=>(0:Int)+(i:Int)*1)=λi:Nat=>PyData.int (i:Int) from e] at hcar;exact hcar)
  have hz:(iK j).length<=sizeLine:=by unfold iK;rw[p_,w_];have:sizeLine=16777216:=rfl;omega
  exact⟨.ref _,_,I2.laid (t':=tk) hk (u_ _) (show ObjOk X.prog X.w _ h' _ (.lst (iK j)) from ⟨hz,ys,c,rv,hpl⟩),rfl,q _ (I2.hok.fresh (u_ _))⟩
end
section
variable{X:Cx}
def Me:List V->Hp->VK->Prop:=λxs H Q=>xs=[]/\∀l,H l=none->Q (.ref l) (upd H l (.set (λ_=>false) 0))
def AI:R2:=λx y H Q=>∃i a S n,x=.int i/\y=.ref a/\H a=some (.set S n)/\Q (.bl (S i)) H
def BM:OpR X (compareOp .In) AI:=by intro pins s σ H x y v u Q I rx ry h;obtain⟨i,a,S,n,rfl,rfl,hH,q⟩:=h;obtain⟨t,rfl⟩:=rx;cases ry;have hS:s.heap.SetOf (intKind X.prog X.w) a S n:=I.hok a _ hH;exact wpAny_inSet_of (intKind_is _ _ i t) rfl hS ⟨.bl (S i),H,I.tok _,rfl,q⟩
def Fq:V->List V->Hp->VK->Prop:=λx vs H Q=>∃a i S n,x=.ref a/\vs=[.int i]/\H a=some (.set S n)/\n<4000/\Q .non (upd H a (.set (λk=>S k || decide (k=i)) (if S i then n else n+1)))
def Aq:MtM X "set.add" Fq:=by intro pins s σ H x vs v us Q I rx rv h;obtain⟨a,i,S,n,rfl,rfl,hH,hn,q⟩:=h;cases rx;obtain⟨u,rfl,ru⟩:=rv.one;obtain⟨t,rfl⟩:=ru;have hS:s.heap.SetOf (intKind X.prog X.w) a S n:=I.hok a _ hH;refine call_set_add (intKind_is _ _ i t) rfl hS (by unfold scanBound;omega) λh' sb hS'=>?_;refine⟨.non,_,I.write (x:=a) (e:=a) (by rw[hH];exact trivial) (.inl rfl) (λb o hb e=>(sb.2 b hb).trans e) ?_ (show ObjOk X.prog X.w _ h' a (.set (λk=>S k || decide (k=i)) (if S i then n else n+1)) from hS'),rfl,q⟩;obtain⟨o,_,_,_,e,_⟩:=hS';exact⟨o,e⟩
def uJ:CallR X (.builtin "len") (λxs H Q=>∃a S n,xs=[.ref a]/\H a=some (.set S n)/\Q (.int (n:Nat)) H):=by intro pins s σ H xs us Q I r h;obtain⟨a,S,n,rfl,hH,q⟩:=h;obtain⟨u,rfl,ru⟩:=eO r;cases ru;have hS:s.heap.SetOf (intKind X.prog X.w) a S n:=I.hok a _ hH;obtain⟨o,es,ep,t,e,hex,hd,_,_,hb,hf,rfl⟩:=hS;refine call_len_set e hex hd hf (by unfold scanBound at hb;omega) ⟨.int (es.size:Nat),H,I.tok _,⟨_,rfl⟩,q⟩
def zK:CallR X (.type "set") Me:=by intro pins s σ H xs us Q I r h;obtain⟨rfl,q⟩:=h;cases r;refine call_set_0 λled=>?_;refine⟨.ref s.heap.objs.size,_,I.laid (t':=s.toks) (λb o e=>s_ _ e) (u_ _) (show ObjOk X.prog X.w _ _ _ (.set (λ_=>false) 0) from ?_),rfl,q _ (I.hok.fresh (u_ _))⟩;obtain⟨h1,es,ep,tt,h2,h3,h4,h5,h6⟩:=setObjOf_fresh (knd:=intKind X.prog X.w) led;exact⟨_,es,ep,tt,F_ _ rfl,h1,h2,h3,h4,by rw[h5];decide,h6,h5⟩
end
section
noncomputable def gm (xs:List Int) (i:Int):List Int:=if i∈xs then xs else i::xs
end
section
variable{X:Cx}{K:W.Frag}
def qS(K:W.Frag):V->List V->Hp->VK->Prop:=λx vs H Q=>∃l b xs zs,x=.ref l/\vs=[.ref b]/\H l=some (.lst xs)/\SqT K H b zs/\xs.length+zs.length<=sizeLine/\Q .non (upd H l (.lst (xs++zs)))
def Gj(l:Addr)(xs:Array Value)(n:Nat)(b:Addr)(ys:Array Value)(n2:Nat)(dd:Option Addr)(ss:Array (Option Value))(z0:¬(!xs.isEmpty&&Builtin.List.listTooLong (xs.size+ys.size))=true)(z1:xs.size<=sizeLine)(z2:xs.size+ys.size<=sizeLine+1):
 Meets (Builtin.«list.extend» ⟨[.ref l,.ref b],[]⟩) (λ_ R s=>s.heap.get? l=some { cls:=.type "list",dict:=none,data:=.seq xs n,slots:=#[] }/\s.heap.get? b=some { cls:=.type "tuple",dict:=dd,data:=.seq ys n2,slots:=ss }/\R (.ok (.ret Value.none)) { s with heap:=s.heap.update l (Obj.mapSeq λx=>x++ys),toks:=s.toks }):=
 .of_wp λprog w A R s h=>by
  obtain⟨hp,g,d,tk,os⟩:=s;obtain⟨el,eb,h⟩:=h;have e1:=PySem.AutoSeq1.idx_int;have e2:=PySem.F.sub_tuple_tuple;have e3:=PySem.F.sub_list_list;have e4:=PySem.F.sub_tuple_list;have e5:=PySem.F.sub_list_tuple;have zz:(xs++ys).size<=sizeLine+1:=by rw[Array.size_append];exact z2
  wp_walk using (wpAny_updateSeq el rfl (hz:=z1) (_hz':=zz)),wpAny_loadPart' el,wpAny_loadPart' eb
  exact⟨_,rfl,h⟩
def xR(hK:X.K=K):MtM X "list.extend" (qS K):=by
 subst hK;intro pins s σ H x vs v us Q I rx rv h;obtain⟨l,b,xs,zs,rfl,rfl,hH,hB,hz,q⟩:=h;cases rx;obtain⟨u,rfl,ru⟩:=rv.one;cases ru;obtain⟨z,its,n,r,hl,e⟩:=I.lstM hH;obtain⟨its2,r2,⟨⟨oc,od,oda,os⟩,e2,ec,n2,ed⟩,z2⟩:=I.tuple hB;dsimp only at ec ed;subst ec ed;have hl2:=r2.length;have hsz:its.toArray.size+its2.toArray.size<=sizeLine:=by rw[y_,y_];omega
 have hlong:¬ (!its.toArray.isEmpty&&Builtin.List.listTooLong (its.toArray.size+its2.toArray.size))=true:=by rw[Bw hsz,Bool.and_false];exact x_
 refine call_meets PySem.F.slot_list_extend ⟨_,e,rfl⟩ PySem.F.entry_list_extend (PySem.F.args_list_extend_2 _ _)
  (Gj l its.toArray n b its2.toArray n2 od os hlong (by rw[y_];omega) (by omega)) ⟨e,e2,?_⟩
 refine⟨.non,_,I.lset (its':=its++its2) hH e (by simp) (r.append r2) ?_,rfl,q⟩;rw[K_];omega
end
noncomputable def mnI:List Int->Int
 | []=>0
 | [x]=>x
 |x::y::r=>if mnI (y::r)<x then mnI (y::r) else x
theorem fZ:∀{l:List Int},l≠[]->mnI l∈l
 | [x],_=>by simp [mnI]
 |
  x::y::r,_=>by
  have:=fZ (l:=y::r) (by simp)
  rw[mnI];split
  .exact q_ _ this
  .exact r_ ..
theorem ke:∀{l:List Int}{a:Int},a∈l->mnI l<=a
 | [x],a,h=>by rw[N2] at h;rw[h];exact Int.le_refl _
 |
  x::y::r,a,h=>by
  rw[mnI];rcases G_.mp h with rfl |h
  .split <;> omega
  .have:=ke (l:=y::r) h
   split <;> omega
noncomputable def mxI (l:List Int):Int:=- mnI (l.map λx=>-x)
def E6{l:List Int}(h:l≠[]):mxI l∈l:=by
 have:=fZ (l:=l.map λx=>-x) (by simpa using h)
 obtain⟨x,hx,e⟩:=Nv.mp this;unfold mxI;rw[<- e,Int.neg_neg];exact hx
def sJ{l:List Int}{a:Int}(h:a∈l):a<=mxI l:=by
 have:=ke (l:=l.map λx=>-x) (a:=-a) (Pb (f:=λx=>-x) h)
 unfold mxI;omega
section
variable{X:Cx}{K:W.Frag}
def qW(f:List Int->Int)(K:W.Frag):List V->Hp->VK->Prop:=λxs H Q=>∃(a:Addr) (ns:List Int),xs=[.ref a]/\SqL K H a (ns.map V.int)/\ns≠[]/\Q (.int (f ns)) H
def AX(hK:X.K=K)(hc:X.calm=true):CallR X (.builtin "min") (qW mnI K):=by
 subst hK;intro pins s σ H xs us Q I r h;obtain⟨a,ns,rfl,hq,hne,q⟩:=h;obtain⟨u,rfl,ru⟩:=eO r;cases ru;obtain⟨its,rv,p,hz⟩:=I.list hq;have hi:=iQ rv;obtain⟨ys,hy⟩:=hi.allInts.items;have hn:numsOf its.toArray.toList=ns:=by rw[show its.toArray.toList=its from rfl,hi.numsOf]
 have pl:=p.isList;rw[hy] at pl hn;rw[nums_intItems] at hn;have hsz:0<ys.size:=by
  have:ns.length=ys.size:=by rw[<- hn,p_,NG]
  have:=List.length_pos_iff.mpr hne
  omega
 refine min_intList (I.ok.hd hc) pl hsz λv h' tk hv hk=>?_;obtain⟨t,rfl⟩:=intItems_at hv;obtain⟨h1,h2⟩:=argBest_lt (numAt ys) (ys.size-1);have m1:numAt ys (argBest (λi j=>decide (numAt ys i<numAt ys j)) (ys.size-1))∈ns:=by rw[<- hn,numAt_eq];exact getD_mem (by rw[p_,NG];omega)
 have m2:∀b∈ns,numAt ys (argBest (λi j=>decide (numAt ys i<numAt ys j)) (ys.size-1))<=b:=λb hb=>by rw[<- hn] at hb;obtain⟨j,hj,rfl⟩:=mem_getD hb;rw[p_,NG] at hj;rw[<- numAt_eq];exact h2 j (by omega)
 have e:numAt ys (argBest (λi j=>decide (numAt ys i<numAt ys j)) (ys.size-1))=mnI ns:=Int.le_antisymm (m2 _ (fZ hne)) (ke m1);rw[e];exact⟨.int (mnI ns),H,I.kept (t':=tk) hk,⟨_,rfl⟩,q⟩
def pj(hK:X.K=K)(hc:X.calm=true):CallR X (.builtin "max") (qW mxI K):=by
 subst hK;intro pins s σ H xs us Q I r h;obtain⟨a,ns,rfl,hq,hne,q⟩:=h;obtain⟨u,rfl,ru⟩:=eO r;cases ru;obtain⟨its,rv,p,hz⟩:=I.list hq;have hi:=iQ rv;obtain⟨ys,hy⟩:=hi.allInts.items;have hn:numsOf its.toArray.toList=ns:=by rw[show its.toArray.toList=its from rfl,hi.numsOf]
 have pl:=p.isList;rw[hy] at pl hn;rw[nums_intItems] at hn;have hsz:0<ys.size:=by
  have:ns.length=ys.size:=by rw[<- hn,p_,NG]
  have:=List.length_pos_iff.mpr hne
  omega
 refine max_intList (I.ok.hd hc) pl hsz λv h' tk hv hk=>?_;obtain⟨t,rfl⟩:=intItems_at hv;obtain⟨h1,h2⟩:=argBest_gt (numAt ys) (ys.size-1);have m1:numAt ys (argBest (λi j=>decide (numAt ys i>numAt ys j)) (ys.size-1))∈ns:=by rw[<- hn,numAt_eq];exact getD_mem (by rw[p_,NG];omega)
 have m2:∀b∈ns,b<=numAt ys (argBest (λi j=>decide (numAt ys i>numAt ys j)) (ys.size-1)):=λb hb=>by rw[<- hn] at hb;obtain⟨j,hj,rfl⟩:=mem_getD hb;rw[p_,NG] at hj;rw[<- numAt_eq];exact h2 j (by omega)
 have e:numAt ys (argBest (λi j=>decide (numAt ys i>numAt ys j)) (ys.size-1))=mxI ns:=Int.le_antisymm (sJ m1) (m2 _ (E6 hne));rw[e];exact⟨.int (mxI ns),H,I.kept (t':=tk) hk,⟨_,rfl⟩,q⟩
end
noncomputable def srI (ns:List Int):List Int:=ns.mergeSort
def uZ{a b:List Int}(p:a.Perm b)(h:a.Pairwise (·<=·))(k:b.Pairwise (·<=·)):a=b:=p.eq_of_pairwise (λx y _ _ h1 h2=>by omega) h k
def fT(ns:List Int):(srI ns).Perm ns:=P7 ..
def tJ(ns:List Int):(srI ns).Pairwise (·<=·):=by
 have:=List.pairwise_mergeSort (le:=λa b:Int=>decide (a<=b)) (λa b c=>by simp;omega) (λa b=>by simp;omega) ns
 simpa [srI] using this
def HN{a b:List Int}(p:a.Perm b)(s:a.Pairwise (·<=·)):a=srI b:=uZ (p.trans (fT b).symm) s (tJ b)
open PySem PySem.W PyProof.Rows
structure LtO(lt:Nat->Nat->Bool)(N:Nat):Prop where
 irr:∀i,lt i i=false
 tr:∀i j k,lt i j=true->lt j k=true->lt i k=true
 tot:∀i j,i<N->j<N->i≠j->lt i j=true\/lt j i=true
abbrev Ask:=Nat->Nat->(Bool->Shared->Prop)->Shared->Prop
def Ans(cmp:Ask)(lt:Nat->Nat->Bool)(N:Nat)(s:Shared):Prop:=∀i j C,i<N->j<N->C (lt i j) s->cmp i j C s
structure PmO(N:Nat)(p:Array Nat):Prop where
 sz:p.size=N
 lt:∀i,i<N->p.getD i 0<N
 ne:∀i j,i<j->j<N->p.getD i 0≠p.getD j 0
def UpTo(lt:Nat->Nat->Bool)(p:Array Nat)(k:Nat):Prop:=∀i j,i<j->j<k->lt (p.getD i 0) (p.getD j 0)=true
def DnTo(lt:Nat->Nat->Bool)(p:Array Nat)(k:Nat):Prop:=∀i j,i<j->j<k->lt (p.getD j 0) (p.getD i 0)=true
def eZ(p:Array Nat)(i:Nat):p.getD i 0=(p[i]?).getD 0:=by rw[Array.getD_eq_getD_getElem?]
def PmO.of{N:Nat}{p:Array Nat}(h:p.toList.Perm (List.range N)):PmO N p:=by
 have hl:p.size=N:=by rw[<- NG,h.length_eq,w_]
 have nd:p.toList.Nodup:=h.nodup_iff.mpr PC;have e:∀i (hi:i<N),p.getD i 0=p.toList[i]'(by rw[NG,hl];exact hi):=λi hi=>by rw[eZ,Pc (by rw[hl];exact hi)];simp
 refine⟨hl,λi hi=>?_,λi j hij hj=>?_⟩
 .rw[e i hi];exact M_.mp (h.mem_iff.mp (Oz _))
 .rw[e i (by omega),e j hj];exact Oi.mp nd i j _ _ hij
variable{lt:Nat->Nat->Bool}{N:Nat}{cmp:Ask}{s:Shared}
def LtO.flip(O:LtO lt N){p:Array Nat}(P:PmO N p){i j:Nat}(hij:i<j)(hj:j<N)(h:lt (p.getD j 0) (p.getD i 0)=false):lt (p.getD i 0) (p.getD j 0)=true:=by
 rcases O.tot _ _ (P.lt i (by omega)) (P.lt j hj) (P.ne i j hij hj) with z |z
 .exact z
 .rw[h] at z;cases z
def UpTo.more(O:LtO lt N){p:Array Nat}{n:Nat}(h:UpTo lt p n)(hn:1<=n)(e:lt (p.getD (n-1) 0) (p.getD n 0)=true):UpTo lt p (n+1):=λi j hij hj=>by
 by_cases hj':j<n
 .exact h i j hij hj'
 .obtain rfl:j=n:=by omega
  by_cases hi:i=j-1
  .rw[hi];exact e
  .exact O.tr _ _ _ (h i (j-1) (by omega) (by omega)) e
def DnTo.more(O:LtO lt N){p:Array Nat}{n:Nat}(h:DnTo lt p n)(hn:1<=n)(e:lt (p.getD n 0) (p.getD (n-1) 0)=true):DnTo lt p (n+1):=λi j hij hj=>by
 by_cases hj':j<n
 .exact h i j hij hj'
 .obtain rfl:j=n:=by omega
  by_cases hi:i=j-1
  .rw[hi];exact e
  .exact O.tr _ _ _ e (h i (j-1) (by omega) (by omega))
theorem uA(O:LtO lt N)(C:Ans cmp lt N s){p:Array Nat}(P:PmO N p){Q:Nat->Shared->Prop}:∀(f n:Nat),n+f=N->1<=n->UpTo lt p n->(∀m,n<=m->m<=N->UpTo lt p m->(m=N\/lt (p.getD m 0) (p.getD (m-1) 0)=true)->Q m s)->(kas_asc p f n).kasWp cmp Q s
 |0,n,hf,h1,hu,hq=>hq n (u_ _) (by omega) hu (.inl (by omega))
 |
  f+1,n,hf,h1,hu,hq=>by
  refine C _ _ _ (P.lt n (by omega)) (P.lt (n-1) (by omega)) ?_;cases z:lt (p.getD n 0) (p.getD (n-1) 0) with
  |true=>exact hq n (u_ _) (by omega) hu (.inr z)
  |false=>exact uA O C P f (n+1) (by omega) (by omega) (hu.more O h1 (O.flip P (by omega) (by omega) z)) λm a b=>hq m (by omega) b
theorem wN(O:LtO lt N)(C:Ans cmp lt N s){p:Array Nat}(P:PmO N p){Q:Array Nat×Nat×Nat->Shared->Prop}:∀(f n:Nat),n+f=N->1<=n->DnTo lt p n->(∀m,n<=m->m<=N->DnTo lt p m->Q (p,m,0) s)->(kas_desc f p n 0).kasWp cmp Q s
 |0,n,hf,h1,hu,hq=>hq n (u_ _) (by omega) hu
 |
  f+1,n,hf,h1,hu,hq=>by
  refine C _ _ _ (P.lt n (by omega)) (P.lt (n-1) (by omega)) ?_;cases z:lt (p.getD n 0) (p.getD (n-1) 0) with
  |true=>exact wN O C P f (n+1) (by omega) (by omega) (hu.more O h1 z) λm a b=>hq m (by omega) b
  |false=>refine C _ _ _ (P.lt (n-1) (by omega)) (P.lt n (by omega)) ?_;rw[O.flip P (by omega) (by omega) z];exact hq n (u_ _) (by omega) hu
def zG{p:Array Nat}{n k:Nat}(hn:n<=p.size):(kas_rev p 0 n).getD k 0=if k<n then p.getD (n-1-k) 0 else p.getD k 0:=by
 have e:=getElem?_mirror_all (xs:=p) (i:=0) hn k;unfold kas_rev;rw[eZ,e];by_cases h:k<n
 .rw[if_pos ⟨NM _,h⟩,if_pos h,eZ];congr 2;omega
 .rw[if_neg (λz=>h z.2),if_neg h,eZ]
def CJ(O:LtO lt N)(C:Ans cmp lt N s){p:Array Nat}(P:p.toList.Perm (List.range N)){Q:Nat×Array Nat->Shared->Prop}{n:Nat}(h1:1<=n)(hn:n<=N)(hd:DnTo lt p n)(hq:∀m p',p'.toList.Perm (List.range N)->1<=m->m<=N->UpTo lt p' m->Q (m,p') s):(kas_tail3 n N p).kasWp cmp Q s:=by have P':(kas_rev p 0 n).toList.Perm (List.range N):=(Array.perm_iff_toList_perm.mp (mirror_perm _ _ _ _)).trans P;have sz:=(PmO.of P).sz;unfold kas_tail3;rw[KasT.kasWp_bind];refine uA O C (PmO.of P') (N-n) n (by omega) h1 (λi j hij hj=>?_) λm a b c _=>hq m _ P' (by omega) b c;rw[zG (by omega),zG (by omega),if_pos (by omega),if_pos (by omega)];exact hd _ _ (by omega) (by omega)
def C1(O:LtO lt N)(C:Ans cmp lt N s){p:Array Nat}(P:p.toList.Perm (List.range N))(hN:1<=N){Q:Nat×Array Nat->Shared->Prop}(hq:∀m p',p'.toList.Perm (List.range N)->1<=m->m<=N->UpTo lt p' m->Q (m,p') s):(kas_count N p).kasWp cmp Q s:=by
 unfold kas_count;rw[KasT.kasWp_bind];refine uA O C (PmO.of P) (N-1) 1 (by omega) (u_ _) (λi j hij hj=>by omega) λm a b c d=>?_;by_cases hm:m=N
 .rw[if_pos (by rw[NB];exact hm)];exact hq m p P a b c
 .rw[if_neg (by rw[NB];exact hm)];by_cases h1:m>1
  .rw[if_pos h1];refine C _ _ _ ((PmO.of P).lt 0 (by omega)) ((PmO.of P).lt (m-1) (by omega)) ?_;rw[c 0 (m-1) (by omega) (by omega)];exact hq m p P a b c
  .rw[if_neg h1];obtain rfl:m=1:=by omega
   have z:=d.resolve_left hm;unfold kas_descPart;rw[KasT.kasWp_bind];refine wN O C (PmO.of P) (N-2) 2 (by omega) (by omega) (λi j hij hj=>?_) λm' a' b' c'=>?_
   .obtain rfl:i=0:=by omega
    obtain rfl:j=1:=by omega
    exact z
   .dsimp only;rw[if_neg (by omega)];exact CJ O C P (by omega) b' c' hq
theorem uz(O:LtO lt N)(C:Ans cmp lt N s){p:Array Nat}(P:PmO N p){k:Nat}(hk:k<N){Q:Nat->Shared->Prop}(hu:UpTo lt p k):∀(f l r:Nat),l<=r->r<=k->r-l<=f->(∀i,i<l->lt (p.getD i 0) (p.getD k 0)=true)->(∀i,r<=i->i<k->lt (p.getD k 0) (p.getD i 0)=true)->(∀m,m<=k->(∀i,i<m->lt (p.getD i 0) (p.getD k 0)=true)->(∀i,m<=i->i<k->lt (p.getD k 0) (p.getD i 0)=true)->Q m s)->(kas_place p k f l r).kasWp cmp Q s
 |0,l,r,h1,h2,h3,h4,h5,hq=>hq l (by omega) h4 λi hi=>h5 i (by omega)
 |
  f+1,l,r,h1,h2,h3,h4,h5,hq=>by
  unfold kas_place;by_cases h:l >= r
  .rw[if_pos h];exact hq l (by omega) h4 λi hi=>h5 i (by omega)
  .rw[if_neg h];refine C _ _ _ (P.lt k hk) (P.lt _ (by omega)) ?_;cases z:lt (p.getD k 0) (p.getD ((l+r)/2) 0) with
   |
    true=>
    refine uz O C P hk hu f l ((l+r)/2) (by omega) (by omega) (by omega) h4 (λi hi hik=>?_) hq;by_cases hr:i=(l+r)/2
    .rw[hr];exact z
    .exact O.tr _ _ _ z (hu _ _ (by omega) hik)
   |
    false=>
    refine uz O C P hk hu f ((l+r)/2+1) r (by omega) h2 (by omega) (λi hi=>?_) h5 hq;have y:=O.flip P (show (l+r)/2<k by omega) hk z;by_cases hr:i=(l+r)/2
    .rw[hr];exact y
    .exact O.tr _ _ _ (hu _ _ (by omega) (by omega)) y
def Au{p:Array Nat}{k l t:Nat}(hk:k<p.size)(hl:l<=k):(bubble p k (k-l)).getD t 0=if t=l then p.getD k 0 else if l<t/\t<=k then p.getD (t-1) 0 else p.getD t 0:=by
 have e:=getElem?_bubble hk (k-l) (by omega) t;rw[show k-(k-l)=l by omega] at e;rw[eZ,e];by_cases h:t=l
 .rw[if_pos h,if_pos h,eZ]
 .rw[if_neg h,if_neg h];by_cases h':l<t/\t<=k
  .rw[if_pos h',if_pos h',eZ]
  .rw[if_neg h',if_neg h',eZ]
theorem zN(O:LtO lt N)(C:Ans cmp lt N s){Q:Array Nat->Shared->Prop}(hq:∀p,p.toList.Perm (List.range N)->UpTo lt p N->Q p s):∀(f:Nat) (p:Array Nat) (k:Nat),p.toList.Perm (List.range N)->k+f=N->1<=k->UpTo lt p k->(kas_bin f p k).kasWp cmp Q s
 |
  0,p,k,P,hf,h1,hu=>by
  obtain rfl:k=N:=by omega
  exact hq p P hu
 |
  f+1,p,k,P,hf,h1,hu=>by
  have sz:=(PmO.of P).sz;unfold kas_bin;rw[KasT.kasWp_bind];refine uz O C (PmO.of P) (by omega) hu k 0 k (by omega) (u_ _) (by omega) (λi hi=>by omega) (λi h1 h2=>by omega) λm hm ha hb=>?_;refine zN O C hq f _ (k+1) ((Array.perm_iff_toList_perm.mp (bubble_perm _ _ _)).trans P) (by omega) (by omega) λi j hij hj=>?_;rw[Au (by omega) hm,Au (by omega) hm];by_cases i1:i=m
  .rw[if_pos i1];rw[if_neg (by omega),if_pos (by omega)];exact hb _ (by omega) (by omega)
  .rw[if_neg i1];by_cases j1:j=m
   .rw[if_pos j1,if_neg (by omega)];exact ha i (by omega)
   .rw[if_neg j1];by_cases i2:m<i
    .rw[if_pos (by omega),if_pos (by omega)];exact hu _ _ (by omega) (by omega)
    .rw[if_neg (by omega)];by_cases j2:m<j
     .rw[if_pos (by omega)];exact hu _ _ (by omega) (by omega)
     .rw[if_neg (by omega)];exact hu _ _ (by omega) (by omega)
def Gf(O:LtO lt N)(C:Ans cmp lt N s)(hN:1<=N){Q:Array Nat->Shared->Prop}(hq:∀p,p.toList.Perm (List.range N)->UpTo lt p N->Q p s):(kas_sort N).kasWp cmp Q s:=by
 unfold kas_sort;rw[KasT.kasWp_bind];refine C1 O C (by simp) hN λm p P h1 h2 hu=>?_;dsimp only;by_cases h:m<N
 .rw[if_pos h,show max m 1=m by omega];exact zN O C hq _ _ _ P (by omega) h1 hu
 .rw[if_neg h];obtain rfl:m=N:=by omega
  exact hq p P hu
def D2(H:Hp):Prop:=∀b,H b=none\/(∃o xs,H b=some (.frz o xs))\/H b=some (.tbl #[])
structure TabsOk(K:W.Frag)(ts:List Addr)(h:Heap):Prop where
 at_:∀P∈ts,h.get? P=some (W.tabObj #[])
 no:∀P∈ts,K.lookup P=none
 cd:∀P∈ts,∃c,W.codeHdIn K c P=true
def spT(K:W.Frag)(mg:Qd)(ts:List Addr):Sp:=λvs H Q _=>∃(a:Addr) (ns:List Int),vs=[.ref a]/\D2 H/\SqL K H a (ns.map V.int)/\ns.length<=63/\(∀P∈ts,H P=some (.tbl #[]))/\sP K mg H/\∀H',Q (.bl true) H'
def Lb{Pr:Program}{w:World}{K:W.Frag}{mg mb:Qd}{k:Nat}{fa a:Addr}{fd:FuncData}{x:Str}{s1:Shared}{vs:List Value}{ns:List Int}{ts:List Addr}
 (KX:K.In s1.heap) (hns:s1.heap.Ns mainGlobals mg) (hb:s1.heap.Ns builtinsNs mb) (hbb:∀y:Str,y ≠ "__name__"->mb y=bootBuiltins y) (hlim:s1.heap.NoLimit) (hg:s1.gens=#[]) (TO:TabsOk K ts s1.heap) (hbm:∃bm ob,mg "__builtins__"=some (.ref bm)/\bm≠builtinsNs/\s1.heap.get? bm=some ob/\ob.cls=.type "module" /\ ob.dict=some builtinsNs/\ob.data=.plain)
 (ha:s1.heap.get? a=some { cls:=.type "list",data:=.seq vs.toArray }) (hi:IntsAre vs ns) (hl:ns.length<=63) (hr:Room k callerA)
 (F:∀base:Heap,K.In base->base.Ns mainGlobals mg->FnOk Pr w K mg base (CX1 Pr w) k fa fd [x] (spT K mg ts)) (hbind:∀(s:Shared) (u:Value),BindsTo s fd ⟨[u],[]⟩ [(x,u)]):
 codeAny (model Pr w) callerA (.call (.ref fa) ⟨[.ref a],[]⟩) (λr s'=>r=.ok (.ret (.bool true))/\OldK s1.heap s'.heap/\s'.os=s1.os/\AllBare s'.gens) s1:=by
 have rv:=iB hi;have hz:ns.length<=sizeLine:=Nw hl (by decide);have ant:a∉ts:=λz=>by
  have:=TO.at_ a z
  rw[ha] at this;cases this
 obtain⟨bm,ob,b1,b2,b3,b4,b5,b6⟩:=hbm;have bmG:bm≠mainGlobals:=λz=>by obtain⟨o,es,ep,e,dd,_⟩:=hns;rw[z,e] at b3;cases b3;rw[dd] at b6;cases b6
 have bmt:bm∉ts:=λz=>by
  have:=TO.at_ bm z
  rw[b3] at this;cases this;cases b6
 have bma:bm≠a:=λz=>by rw[z,ha] at b3;cases b3;cases b6
 have go
  : ∀Hs:Option HO,(Hs=none\/∃o xs,Hs=some (.frz o (.lst xs)))->(∀u,Hs=some u->ObjOk Pr w (λ_=>none) s1.heap a u)->(Hs≠none->K.lookup a=none)->(∀H:Hp,H a=Hs->SqL K H a (ns.map V.int))->
  codeAny (model Pr w) callerA (.call (.ref fa) ⟨[.ref a],[]⟩) (λr s'=>r=.ok (.ret (.bool true))/\OldK s1.heap s'.heap/\s'.os=s1.os/\AllBare s'.gens) s1:=by
  intro Hs h1 h2 h3 h4;obtain⟨H,eH⟩:∃H:Hp,H=λb=>if b=a then Hs else if b∈ts then some (.tbl #[]) else if b=bm/\K.lookup bm=none then some (.frz ob (.ext λ_=>True)) else none:=⟨_,rfl⟩
  have Ha:H a=Hs:=by rw[eH];exact if_pos rfl
  have Ht:∀P∈ts,H P=some (.tbl #[]):=λP hP=>by rw[eH];show (if P=a then _ else _)=_;rw[if_neg (λz=>ant (by rw[<- z];exact hP)),if_pos hP]
  have Hb:K.lookup bm=none->H bm=some (.frz ob (.ext λ_=>True)):=λq=>by rw[eH];show (if bm=a then _ else _)=_;rw[if_neg bma,if_neg bmt,if_pos ⟨rfl,q⟩]
  have Hn
   : ∀b,H b≠none->(b=a/\Hs≠none)\/b∈ts\/(b=bm/\K.lookup bm=none):=λb n=>by
   by_cases q:b=a
   .exact .inl ⟨q,by rw[<- Ha,<- q];exact n⟩
   .by_cases q2:b∈ts
    .exact .inr (.inl q2)
    .by_cases q3:b=bm/\K.lookup bm=none
     .exact .inr (.inr q3)
     .refine absurd ?_ n;rw[eH];show (if b=a then _ else _)=_;rw[if_neg q,if_neg q2,if_neg q3]
  have hO:D2 H:=λb=>by
   by_cases n:H b=none
   .exact .inl n
   .rcases Hn b n with ⟨e,n2⟩ |e |⟨e,y⟩
    .rw[e,Ha];rcases h1 with z |⟨o,xs,z⟩
     .exact absurd z n2
     .exact .inr (.inl ⟨_,_,z⟩)
    .exact .inr (.inr (Ht b e))
    .rw[e];exact .inr (.inl ⟨_,_,Hb y⟩)
  have hok:HOk Pr w H s1.heap:=λb u e=>by
   rcases Hn b (by rw[e];simp) with ⟨z,n2⟩ |z |⟨z,y⟩
   .subst z;rw[Ha] at e;have q:=h2 u e;rcases h1 with y |⟨o,xs,y⟩
    .exact absurd y n2
    .rw[e] at y;cases y;exact q
   .have y:=Ht b z;rw[e] at y;cases y;exact TO.at_ b z
   .subst z;rw[Hb y] at e;cases e;exact⟨b3,trivial,⟨ob,b3⟩,λ_ _ _ _=>trivial⟩
  have keep:∀{b:Addr}{o:Obj},s1.heap.get? b=some o->H b=none->(fP s1.heap H).get? b=some o:=λe n=>tK e n;have noD:∀{b:Addr}{o:Obj}{es:Array DictEntry}{ep:Nat},s1.heap.get? b=some o->o.data=.dict es ep->H b=none:=λ{b o es ep} e dd=>by
   by_cases n:H b=none
   .exact n
   .rcases Hn b n with ⟨z,_⟩ |z |⟨z,_⟩
    .subst z;rw[ha] at e;cases e;cases dd
    .rw[TO.at_ b z] at e;cases e;cases dd
    .subst z;rw[b3] at e;cases e;rw[b6] at dd;cases dd
  have nsK:∀{b:Addr}{m:Qd},s1.heap.Ns b m->(fP s1.heap H).Ns b m:=λ{b m} ⟨o,es,ep,e,dd,r⟩=>⟨o,es,ep,keep e (noD e dd),dd,r⟩;have kb:K.In (fP s1.heap H):=λb o e=>keep (KX b o e) (by
   by_cases n:H b=none
   .exact n
   .rcases Hn b n with ⟨z,y⟩ |z |⟨z,y⟩
    .subst z
     have:=h3 y
     rw[e] at this;cases this
    .have:=TO.no b z
     rw[e] at this;cases this
    .subst z;rw[e] at y;cases y)
  have hM:Mod K mg (fP s1.heap H):=⟨kb,nsK hns,⟨mb,nsK hb,hbb⟩,let ⟨mc,q1,q2⟩:=hlim;⟨mc,nsK q1,q2⟩⟩;have e0:Env0 Pr w K mg (fP s1.heap H) callerA [] s1 H:=⟨rfl,hM,λb o e=>vA e,Nat.le_of_eq (pB _ _),trivial,λb z=>absurd (show b∈([]:List Addr) from z) (by simp),hok,.of_eq hg⟩;refine PZ ((F _ kb (nsK hns)).run callerA [] s1 H ⟨[.ref a],[]⟩ [.ref a] [.ref a] (λv _=>v=.bl true) (λ_ _ _=>False) hr e0 (hbind s1 (.ref a)) (.cons rfl .nil) ⟨a,ns,rfl,hO,h4 H Ha,hl,Ht,?bm,λ_=>rfl⟩) λr s' h=>?_
  case bm=>
   refine⟨bm,ob,b1,b2,bmG,⟨b4,b5,b6⟩,?_⟩;cases q:K.lookup bm with
   |none=>exact .inr ⟨_,Hb q⟩
   |
    some o=>
    have:=KX bm o q
    rw[b3] at this;cases this;exact .inl rfl
  cases r with
  |error e=>obtain⟨_,_,_,_,_,_,_,z⟩:=h;exact z.2.2.elim
  |
   ok fl=>
   cases fl with
   |next=>exact False.elim h
   |brk=>exact False.elim h
   |cont=>exact False.elim h
   |
    ret u=>
    obtain⟨v,H',os,bare,un,hok',r',q⟩:=h;have q':v=.bl true:=q;subst q';obtain rfl:u=Value.bool true:=r';refine⟨rfl,⟨λb o e=>?_,λb o e=>?_⟩,os,bare⟩
    .by_cases n:H b=none
     .exact .inl (un.keep b o e n (λz=>absurd (show b∈([]:List Addr) from z) (by simp)) (by simp))
     .have fz:∀ob xs,H b=some (.frz ob xs)->asItWas s1.heap s'.heap b o:=λob xs y=>by have y2:=un.frzs b ob _ y;obtain⟨e1,_⟩:=hok b _ y;obtain⟨e2,_⟩:=hok' b _ y2;rw[e] at e1;cases e1;exact .inl e2
      rcases Hn b n with ⟨z,n2⟩ |z |⟨z,y⟩
      .rcases h1 with y |⟨ob,xs,y⟩
       .exact absurd y n2
       .exact fz _ _ (by rw[z,Ha];exact y)
      .obtain⟨more,y⟩:=un.tbls b #[] (Ht b z);obtain⟨c,hc⟩:=TO.cd b z;have tab:=(W.codeHd_of_K KX hc).tab (TO.at_ b z);have e2:=TO.at_ b z;rw[e] at e2;cases e2;exact .inr (.inl ⟨tab.isCodeTable,rfl,#[],more,rfl,hok' b _ y⟩)
      .exact fz _ _ (by rw[z];exact Hb y)
    .exact un.there b o e (by simp)
 cases hk:K.lookup a with
 |some o=>have e:=KX a o hk;rw[ha] at e;cases e;exact go none (.inl rfl) (λu z=>nomatch z) (λz=>absurd rfl z) λH _=>.inr ⟨_,vs.toArray,_,hk,rfl,rfl,rfl,by rw[y_,hi.length];exact hz,by simpa using rv⟩
 |none=>exact go (some (.frz { cls:=.type "list",data:=.seq vs.toArray } (.lst (ns.map V.int)))) (.inr ⟨_,_,rfl⟩) (λu z=>by cases z;exact⟨ha,by rw[p_];exact hz,vs,_,rv,ha⟩) (λ_=>hk) λH e=>.inl (.inr ⟨_,e⟩)
def walk_lawT{l:W.OpenLaw}{q:Program}{loose:List Str}{XP:(Str->Option Value)->Heap->Prop}{YP:World->Heap->Prop}{d:DefRec}{K:Params->W.Frag}{x:Str}{k:Nat}{ts:List Addr}(hn:l.most=some 63)(hdf:d.params.defaults=[])(hr:Room k callerA)
 (hY:∀(w:World) (h:Heap),YP w h->(K w.params).In h/\TabsOk (K w.params) ts h)
 (F:∀(w:World) (mg:Qd) (h:Heap),(K w.params).In h->h.Ns mainGlobals mg->∀base:Heap,(K w.params).In base->base.Ns mainGlobals mg->Callee l.prog w (K w.params) mg base d.name k [x] (spT (K w.params) mg ts))
 (Dd:∀(w:World) (mg:Qd) (h:Heap),(K w.params).In h->h.Ns mainGlobals mg->∃st,Def (K w.params) mg d.name st/\∀(kV doc pm:Value) (an:Option Addr) (cdv ct:Value) (us:List Value),us.length=1->bindArgs (W.fnOf d.name d.name (dC st) (bH st) (ar st) .none kV doc pm an cdv ct) ⟨us,[]⟩=pure ([x].zip us)):
 W.WalkO q loose XP YP l.row.toRowW d [] (λf vs=>PySem.call f vs):=by
 refine Att.attach_call hn hdf λw s0 s1 mg mb fa o pm cd doc a vs ns G Y ho hd n_ hmg hobj hints a_ hg=>?_;obtain⟨KX,TO⟩:=hY w _ Y;obtain⟨st,De,hbind⟩:=Dd w mg _ KX G.T.g;obtain⟨f,fd,Ff,m⟩:=De.ex;have e:=hmg.symm.trans m;cases e;obtain⟨oc,od,kV,doc',pm',an,cdv,ct,osl,rfl,lk,hcd'⟩:=Ff.ex;refine Lb KX G.T.g G.T.b G.T.builtins G.T.nolimit hg TO G.T.bmain hobj hints a_ hr (λbase kb nb=>?_) (λs u=>.of_eq (hbind kV doc' pm' an cdv ct [u] rfl));obtain⟨f',fd',F',m',kp',b',oc',od',osl',lk'⟩:=(F w mg _ KX G.T.g base kb nb).ex;rw[m] at m';cases m';rw[lk] at lk';cases lk';exact F'
noncomputable def bC (x y:Int×Int):Bool:=decide (x.1<y.1\/(x.1=y.1/\x.2<y.2))
def tU(x:Int×Int):bC x x=false:=by unfold bC;rw[OS];omega
def wH{x y z:Int×Int}(h1:bC x y=true)(h2:bC y z=true):bC x z=true:=by unfold bC at *;rw[N6] at *;omega
def sU{x y:Int×Int}(h:x≠y):bC x y=true\/bC y x=true:=by unfold bC;rw[N6,N6];have:¬ (x.1=y.1/\x.2=y.2):=λz=>h (Prod.ext z.1 z.2);omega
def vy{α:Type}(d:α)(ks:List α):((List.range ks.length).map λi=>ks.getD i d)=ks:=List.ext_getElem (by simp) λi _ h=>by simp [h]
def yY{x y:Int×Int}(h1:bC x y=true):bC y x=false:=by
 cases z:bC y x with
 |false=>rfl
 |true=>have:=wH h1 z;rw[tU] at this;cases this
def FF{α:Type}{k:α->Int×Int}{a b:List α}(h:a.Pairwise λx y=>bC (k x) (k y)=true)(h':b.Pairwise λx y=>bC (k x) (k y)=true)(p:a.Perm b):a=b:=p.eq_of_pairwise (λx y _ _ h1 h2=>by rw[yY h1] at h2;cases h2) h h'
def Lr{α:Type}(k:α->Int×Int)(hk:∀{x y},k x=k y->x=y){l:List α}(nd:l.Nodup):(l.mergeSort λx y=>!bC (k y) (k x)).Pairwise λx y=>bC (k x) (k y)=true:=by
 have srt:=List.pairwise_mergeSort (le:=λx y:α=>!bC (k y) (k x)) (λa b c h1 h2=>by
  simp only[bC,O1,OS] at *;omega) (λa b=>by
  simp only[bC,OW,O1,OS];omega) l
 refine List.Pairwise.imp (λ{a b} h=>?_) (List.Pairwise.and ((P7 ..).nodup_iff.mpr nd) srt)
 have:=h.2
 simp only[O1] at this;exact (sU λy=>h.1 (hk y)).resolve_right (by rw[this];exact Bool.noConfusion)
noncomputable def ltP (ks:List (Int×Int)) (i j:Nat):Bool:=bC (ks.getD i (0,0)) (ks.getD j (0,0))
def Ko{ks:List (Int×Int)}(nd:ks.Nodup):LtO (ltP ks) ks.length where
 irr:=λi=>tU _
 tr:=λi j k h1 h2=>wH h1 h2
 tot:=λi j hi hj hne=>by
  refine sU ?_;rw[L_,L_,B_ hi,B_ hj];show ks[i]≠ks[j];rcases Nat.lt_or_gt_of_ne hne with z |z
  .exact Oi.mp nd i j hi hj z
  .exact λy=>Oi.mp nd j i hj hi z y.symm
def Ge{ks:List (Int×Int)}{n:Nat}{p:Array Nat}(h1:p.toList.Perm (List.range n))(h2:UpTo (ltP ks) p n):p.toList.Pairwise λi j=>bC (ks.getD i (0,0)) (ks.getD j (0,0))=true:=by
 have sz:=(PmO.of h1).sz;rw[Oi];intro i j hi hj hij;rw[NG] at hi hj
 have:=h2 i j hij (by omega)
 rw[eZ,eZ,Pc hi,Pc hj] at this;exact this
def TupAt(h:Heap)(v:Value)(x:Int×Int):Prop:=∃(a:Addr) (e:Nat) (dd:Option Addr) (sl:Array (Option Value)) (t1 t2:Tok),v=.ref a/\h.get? a=some { cls:=.type "tuple",dict:=dd,data:=.seq #[.int x.1 t1,.int x.2 t2] e,slots:=sl }
def TupAt.keep{h h':Heap}{v:Value}{x:Int×Int}{b:Addr}(t:TupAt h v x)(hb:∃o,h.get? b=some o/\o.cls=.type "list")(k:∀c o,c≠b->h.get? c=some o->h'.get? c=some o):TupAt h' v x:=by obtain⟨a,e,dd,sl,t1,t2,rfl,ha⟩:=t;obtain⟨o,ho,hc⟩:=hb;exact⟨a,e,dd,sl,t1,t2,rfl,k a _ (λz=>by rw[z,ho] at ha;cases ha;injection hc with hc;exact absurd hc (by decide)) ha⟩
def TupAt.mono{h h':Heap}{v:Value}{x:Int×Int}(t:TupAt h v x)(k:∀c o,h.get? c=some o->h'.get? c=some o):TupAt h' v x:=by obtain⟨a,e,dd,sl,t1,t2,rfl,ha⟩:=t;exact⟨a,e,dd,sl,t1,t2,rfl,k a _ ha⟩
section
variable{prog:Program}{w:World}{A:Around}{E:Qf}{s:Shared}
def FI{v u:Value}{x y:Int×Int}{Q:Bool->Shared->Prop}(hv:TupAt s.heap v x)(hu:TupAt s.heap u y)(h:Q (bC x y) s):wpAny (model prog w) A (keyLt' (tuples' true) v u) Q E s:=by
 obtain⟨a,e,dd,sl,t1,t2,rfl,ha⟩:=hv;obtain⟨b,e',dd',sl',t3,t4,rfl,hb⟩:=hu;refine kat_lt ha rfl hb rfl ?_;show KatLex prog w A true false Q [(.int x.1 t1,.int y.1 t3),(.int x.2 t2,.int y.2 t4)] 0 s;refine kat_cons (wpAny_eqBool_int ?_);by_cases h1:x.1=y.1
 .rw[show (x.1==y.1)=true from NB.mpr h1];refine kat_yes (kat_cons (wpAny_eqBool_int ?_));by_cases h2:x.2=y.2
  .rw[show (x.2==y.2)=true from NB.mpr h2];refine kat_yes (kat_nil ?_);rw[show bC x y=false from by unfold bC;rw[OS];omega] at h;exact h
  .rw[show (x.2==y.2)=false from E_.mpr h2];refine kat_no (kat_one _ _ (lt_int ?_));rw[show bC x y=decide (x.2<y.2) from O9.mpr (by omega)] at h;exact h
 .rw[show (x.1==y.1)=false from E_.mpr h1];refine kat_no (oneLt_int ?_);rw[show bC x y=decide (x.1<y.1) from O9.mpr (by omega)] at h;exact h
def TupsAt(h:Heap):List Value->List (Int×Int)->Prop
 | [],[]=>True
 |v::vs,x::xs=>TupAt h v x/\TupsAt h vs xs
 |_,_=>False
theorem TupsAt.len{h:Heap}:∀{vs:List Value}{xs:List (Int×Int)},TupsAt h vs xs->vs.length=xs.length
 | [],[],_=>rfl
 | [],_::_,t=>t.elim
 |_::_,[],t=>t.elim
 |_::_,_::_,t=>by rw[D_,D_,t.2.len]
theorem TupsAt.get{h:Heap}:∀{vs:List Value}{xs:List (Int×Int)} (i:Nat),TupsAt h vs xs->i<xs.length->TupAt h (vs.getD i Value.none) (xs.getD i (0,0))
 | [],[],i,_,hi=>absurd hi (by simp)
 | [],_::_,i,t,_=>t.elim
 |_::_,[],i,t,_=>t.elim
 |_::_,_::_,0,t,_=>t.1
 |_::vs,_::xs,i+1,t,hi=>TupsAt.get (vs:=vs) (xs:=xs) i t.2 (by simpa using hi)
theorem TupsAt.imp{h h':Heap}(k:∀v x,TupAt h v x->TupAt h' v x):∀{vs:List Value}{xs:List (Int×Int)},TupsAt h vs xs->TupsAt h' vs xs
 | [],[],_=>trivial
 | [],_::_,t=>t.elim
 |_::_,[],t=>t.elim
 |_::_,_::_,t=>⟨k _ _ t.1,t.2.imp k⟩
theorem TupsAt.snoc{h:Heap}{v:Value}{x:Int×Int}(tv:TupAt h v x):∀{vs:List Value}{xs:List (Int×Int)},TupsAt h vs xs->TupsAt h (vs++[v]) (xs++[x])
 | [],[],_=>⟨tv,trivial⟩
 | [],_::_,t=>t.elim
 |_::_,[],t=>t.elim
 |_::_,_::_,t=>⟨t.1,t.2.snoc tv⟩
theorem TupsAt.kat{h:Heap}:∀{vs:List Value}{xs:List (Int×Int)},TupsAt h vs xs->∃fs,KatTups h vs fs/\fs.length=xs.length/\∀f∈fs,∃i t,f=Value.int i t
 | [],[],_=>⟨[],trivial,rfl,λf z=>nomatch z⟩
 | [],_::_,t=>t.elim
 |_::_,[],t=>t.elim
 |
  _::_,x::_,t=>by
  obtain⟨fs,k,l,q⟩:=t.2.kat;obtain⟨a,e,dd,sl,t1,t2,rfl,ha⟩:=t.1;refine⟨.int x.1 t1::fs,⟨⟨a,_,_,_,rfl,ha,rfl,rfl,rfl⟩,k⟩,by rw[D_,D_,l],λf hf=>?_⟩;rcases G_.mp hf with rfl |hf
  .exact⟨_,_,rfl⟩
  .exact q f hf
def w9{vs:List Value}{xs:List (Int×Int)}{Q:SortKind->Shared->Prop}(t:TupsAt s.heap vs xs)(h2:2<=xs.length)(h:Q (tuples' true) s):wpAny (model prog w) A (keyKind' vs.toArray) Q E s:=by obtain⟨fs,k,l,q⟩:=t.kat;refine kat_kind (T:=.type "int") k (by omega) (λf hf=>?_) (by decide) h;obtain⟨i,t,rfl⟩:=q f hf;exact .now
def An{vs:List Value}{xs:List (Int×Int)}(t:TupsAt s.heap vs xs):Ans (kas_ask prog w A (tuples' true) vs) (ltP xs) xs.length s:=λi j C hi hj c=>FI (t.get i hi) (t.get j hj) c
def Dg{β:Type}{vs ks:List Value}{xs:List (Int×Int)}{k:Unit×SortSt->Sem β}{P:β->Shared->Prop}(hkl:ks.length=vs.length)(h64:vs.length<64)(T:TupsAt s.heap ks xs)(nd:xs.Nodup)(h:∀(p:Array Nat) st',p.toList.Perm (List.range vs.length)->UpTo (ltP xs) p vs.length->(arrOf st').map (λp:Keyed=>p.2)=List.toArray (p.toList.map λi=>vs.getD i Value.none)->failedOf st'=none->wpAny (model prog w) A (k ((),st')) P E s):
 wpAny (model prog w) A (let f:=λκ=>(if vs.toArray.size<2 then pure () else sortRuns').run (SortSt.mk' κ (ks.toArray.zip vs.toArray) #[] 7 none) >>= k;if vs.toArray.size<2 then pure general' >>= f else keyKind' ks.toArray >>= f) P E s:=by
 dsimp only;have kl:=T.len;by_cases h2:vs.toArray.size<2
 .rw[if_pos h2,if_pos h2];rw[y_] at h2;refine o_ <| z_ ?_;rw[StateT.run_pure];refine o_ <| z_ (h (List.toArray (List.range vs.length)) _ (.refl _) (λi j hij hj=>by omega) ?_ rfl);show (ks.toArray.zip vs.toArray).map (λp:Keyed=>p.2)=List.toArray ((List.range vs.length).map _);rw[vy];apply Array.toList_inj.mp;rw[Array.toList_map,ksk_zip];exact List.map_snd_zip (by simp [hkl])
 .rw[if_neg h2,if_neg h2];rw[y_] at h2;refine o_ <| w9 T (by omega) ?_;have an:=An (prog:=prog) (w:=w) (A:=A) T;have O:=Ko nd;rw[<- kl,hkl] at an O;have run:=kat_run (prog:=prog) (w:=w) (A:=A) (E:=E) (κ:=tuples' true) (s:=s) (Q:=λst' s'=>s'=s/\wpAny (model prog w) A (k ((),st')) P E s) (G:=λp s'=>s'=s/\p.toList.Perm (List.range vs.length)/\UpTo (ltP xs) p vs.length) hkl (by omega) h64
   (λp st' s' a1 a2 a3 a4=>⟨a4.1,h p st' a4.2.1 a4.2.2 (kat_snds hkl a2) a3⟩) (Gf O an (by omega) λp p1 p2=>⟨rfl,p1,p2⟩)
  refine o_ <| NF run ?_ λ_ _ z=>z;rintro⟨⟨⟩,st'⟩ _ ⟨rfl,z⟩;exact z
end
set_option maxHeartbeats 4000000
section
variable{prog:Program}{w:World}{A:Around}{E:Qf}{s:Shared}
def C6{a kS:Addr}{st:SortSt}{out ks:List Value}{e e1:Nat}{P:PySem.Fin->Shared->Prop}(hk:s.heap.get? kS=some (seqObj "list" (List.toArray ks) e))(ha:s.heap.get? a=some (seqObj "list" #[] e1))(hne:kS≠a)(hout:(arrOf st).map (λp:Keyed=>p.2)=List.toArray out)(hf:failedOf st=none)(hz:out.length<64)(hkz:ks.length<64)
 (h:∀h' c,(∀b o,b≠kS->b≠a->s.heap.get? b=some o->h'.get? b=some o)->h'.get? a=some (seqObj "list" out.toArray c)->P (.done (.ret .none)) { s with heap:=h' }):wpAny (model prog w) A (ksk_tail a false e1 (.ref kS) st) P E s:=by
 have u1:=Ow s.heap kS (Obj.mapSeq λ_=>(#[]:Array Value));have a1:=(u1.2 a hne.symm).trans ha;have u2:=Ow (s.heap.update kS (Obj.mapSeq λ_=>(#[]:Array Value))) a (Obj.mapSeq λ_=>(arrOf st).map (·.2));obtain⟨c,hc⟩:∃c,((s.heap.update kS (Obj.mapSeq λ_=>(#[]:Array Value))).update a (Obj.mapSeq λ_=>(arrOf st).map (·.2))).get? a=some (seqObj "list" ((arrOf st).map (·.2)) c):=⟨_,get?_update_seq a1 λ_=>(arrOf st).map (·.2)⟩;have zs:((arrOf st).map (·.2)).size<64:=by rw[hout];exact hz
 have big:sizeLine=16777216:=rfl;unfold ksk_tail;try dsimp only
 refine o_ <| Qa hk rfl ?_ (by rw[y_];omega) (NM _);refine o_ <| wpAny_letGo ?_;refine o_ <| seqEpoch_at a1 rfl ?_;refine o_ <| Qa a1 rfl ?_ (NM _) (by show ((arrOf st).map (·.2)).size<=_;omega);rw[hf];simp only[bne_self_eq_false,OV,PH];exact z_ (h _ c (λb o n1 n2 z=>(u2.2 b n2).trans ((u1.2 b n1).trans z)) (hc.trans (by rw[hout])))
def FZ{a kS:Addr}{vs ks:List Value}{xs:List (Int×Int)}{e e1:Nat}{P:PySem.Fin->Shared->Prop}(hl:xs.length=vs.length)(h64:vs.length<64)(T:TupsAt s.heap ks xs)(nd:xs.Nodup)(hk:s.heap.get? kS=some (seqObj "list" (List.toArray ks) e))(ha:s.heap.get? a=some (seqObj "list" #[] e1))(hne:kS≠a)
 (h:∀(p:Array Nat) h' c,p.toList.Perm (List.range vs.length)->UpTo (ltP xs) p vs.length->(∀b o,b≠kS->b≠a->s.heap.get? b=some o->h'.get? b=some o)->h'.get? a=some (seqObj "list" (p.toList.map λi=>vs.getD i Value.none).toArray c)->P (.done (.ret .none)) { s with heap:=h' }):
 wpAny (model prog w) A (ksk_end a false vs.toArray e1 (.ref kS) ks.toArray) P E s:=by
 have hkl:ks.length=vs.length:=by rw[T.len,hl]
 unfold ksk_end;try dsimp only
 refine Dg hkl h64 T nd λp st' p1 p2 out hf=>?_;exact C6 hk ha hne out hf (by rw[p_,p1.length_eq,w_];exact h64) (by omega) λh' c k z=>h p h' c p1 p2 k z
def Bf{a:Addr}{f:Value}{vs:List Value}{n:Nat}{xs:List (Int×Int)}{P:PySem.Fin->Shared->Prop}(ho:s.heap.get? a=some (seqObj "list" vs.toArray n))(h64:vs.length<64)(hx:xs.length=vs.length)(nd:xs.Nodup)
 (hc:∀(i:Nat) (v:Value) (x:Int×Int) (h':Heap) (tk:Nat),vs[i]?=some v->xs[i]?=some x->(∀b o,b≠a->s.heap.get? b=some o->h'.get? b=some o)->wpAny (model prog w) A (call f [v]) (λk s2=>∃h2 tk2,s2={ s with heap:=h2,toks:=tk2 }/\(∀b o,h'.get? b=some o->h2.get? b=some o)/\TupAt h2 k x) (λ_ _=>False) { s with heap:=h',toks:=tk })
 (h:∀(p:Array Nat) h' c tk,p.toList.Perm (List.range vs.length)->UpTo (ltP xs) p vs.length->(∀b o,b≠a->s.heap.get? b=some o->h'.get? b=some o)->h'.get? a=some (seqObj "list" (p.toList.map λi=>vs.getD i Value.none).toArray c)->P (.done (.ret .none)) { s with heap:=h',toks:=tk }):
 wpAny (model prog w) A (ksk_tree a f false) P E s:=by
 have lt:=A_ ho;have u1:=Ow s.heap a (Obj.mapSeq λ_=>(#[]:Array Value));obtain⟨e1,a1⟩:∃e1,(s.heap.update a (Obj.mapSeq λ_=>(#[]:Array Value))).get? a=some (seqObj "list" #[] e1):=⟨_,get?_update_seq ho λ_=>#[]⟩;have big:sizeLine=16777216:=rfl;unfold ksk_tree;refine o_ <| listItems_at ho rfl ?_;refine o_ <| Qa ho rfl ?_ (by rw[y_];omega) (NM _);refine o_ <| seqEpoch_at a1 rfl ?_;refine o_ <| wpAny_newTuple ?_ (by show vs.length<=_;omega);refine o_ <| wpAny_newList ?_ (NM _);refine N9 ?_;obtain⟨h3,e3⟩:∃h3,h3=((s.heap.update a (Obj.mapSeq λ_=>(#[]:Array Value))).push (seqObj "tuple" vs.toArray 0)).push (seqObj "list" #[] 0):=⟨_,rfl⟩;obtain⟨kS,ek⟩:∃kS,kS=((s.heap.update a (Obj.mapSeq λ_=>(#[]:Array Value))).push (seqObj "tuple" vs.toArray 0)).objs.size:=⟨_,rfl⟩;have hk0:h3.get? kS=some (seqObj "list" #[] 0):=by rw[e3,ek];exact F_ _ rfl
 have ha0:h3.get? a=some (seqObj "list" #[] e1):=by rw[e3];exact s_ _ (s_ _ a1)
 have hlt:a<kS:=by rw[ek,size_push',Heap.size_update];exact Nat.lt_succ_of_lt lt
 have k0:∀b o,b≠a->s.heap.get? b=some o->b≠kS/\h3.get? b=some o:=λb o n z=>⟨λy=>by
  have:=A_ z
  rw[y,ek,size_push',Heap.size_update] at this;exact N3 _ (Nat.lt_of_succ_lt this),by rw[e3];exact s_ _ (s_ _ ((u1.2 b n).trans z))⟩
 show wpAny (model prog w) A (ksk_rest a f false vs.toArray e1 (.ref ((s.heap.update a (Obj.mapSeq λ_=>(#[]:Array Value))).push (seqObj "tuple" vs.toArray 0)).objs.size)) P E { s with heap:=((s.heap.update a (Obj.mapSeq λ_=>(#[]:Array Value))).push (seqObj "tuple" vs.toArray 0)).push (seqObj "list" #[] 0) };rw[<- e3,<- ek];clear e3 ek;unfold ksk_rest;refine o_ <| wpAny_rule ?_;rw[List.forIn_toArray];refine o_ <| ksk_fold (λi s'=>∃h' tk ks e,s'={ s with heap:=h',toks:=tk }/\(∀b o,b≠kS->h3.get? b=some o->h'.get? b=some o)/\h'.get? kS=some (seqObj "list" (List.toArray ks) e)/\TupsAt h' ks (xs.take i)/\i<=vs.length) vs 0 _ ⟨h3,s.toks,[],0,rfl,λb o _ z=>z,hk0,by rw[List.take_zero];trivial,NM _⟩ (λj v s' hv I=>?_) λs' I=>?_
 .rw[Nat.zero_add] at I ⊢;obtain⟨h',tk,ks,e,rfl,k,hk,T,hi⟩:=I;have hj:j<vs.length:=(C_.mp hv).1;have ex:xs[j]?=some (xs[j]'(by omega)):=B_ (by omega);have tl:=T.len;rw[NV] at tl;refine o_ <| Py <| NF (hc j v _ h' tk hv ex λb o n z=>k b o (k0 b o n z).1 (k0 b o n z).2) (λkv s2 hq=>?_) λ_ _ z=>z.elim;obtain⟨h2,tk2,rfl,k2,tp⟩:=hq;have hk2:=k2 kS _ hk;have u2:=Ow h2 kS (Obj.mapSeq (·.push kv));obtain⟨c2,hc2⟩:∃c2,(h2.update kS (Obj.mapSeq (·.push kv))).get? kS=some (seqObj "list" (List.toArray (ks++[kv])) c2):=⟨_,by rw[<- List.push_toArray];exact get?_update_seq hk2 (·.push kv)⟩;try dsimp only
  refine o_ <| Qa hk2 rfl ?_ (by rw[y_];omega) (by rw[Array.size_push,y_];omega);refine z_ ⟨rfl,_,tk2,ks++[kv],c2,rfl,λb o n z=>(u2.2 b n).trans (k2 b o (k b o n z)),hc2,?_,by omega⟩;have kp:∀v x,TupAt h2 v x->TupAt (h2.update kS (Obj.mapSeq (·.push kv))) v x:=λv x t=>t.keep (b:=kS) ⟨_,hk2,rfl⟩ λc o n z=>(u2.2 c n).trans z;rw[List.take_succ,ex];exact TupsAt.snoc (kp _ _ tp) ((T.imp λv x t=>t.mono k2).imp kp)
 .rw[Nat.zero_add] at I;obtain⟨h',tk,ks,e,rfl,k,hk,T,hi⟩:=I;rw[N4 (by omega)] at T;try dsimp only
  refine o_ <| listItems_at hk rfl ?_;exact FZ hx h64 T nd hk (k a _ (Nn hlt) ha0) (O6 hlt) λp h2 c p1 p2 k2 z=>h p h2 c tk p1 p2 (λb o n y=>k2 b o (k0 b o n y).1 n (k b o (k0 b o n y).1 (k0 b o n y).2)) z
def FO{S r:Addr}{j:Int}{t u v:Tok}{n:Nat}{R:Result->Shared->Prop}(hh:A.handled=none)(hr:IsRange s.heap r 0 j 1 t u v)(g_:Builtin.Range.small 0 j 1=true)(hn:Builtin.Range.rangeSize 0 j 1=n)(a_:n<=2^24)(hS:s.heap.get? S=some (seqObj "list" #[] 0))
 (h:∀h' tk acc c,(∀b o,b≠S->s.heap.get? b=some o->h'.get? b=some o)->h'.get? S=some (seqObj "list" acc c)->ItemsOf (λi v=>∃t,v=.int (0+i*1) t) acc n->R (.ok (.ret (.ref S))) { s with heap:=h',toks:=tk }):codeAny (model prog w) A (.builtin "list.__iadd__" ⟨[.ref S,.ref r],[]⟩) R s:=by
 refine PY entry_list_iadd' ?_;show wpAny (model prog w) A.in1 (Builtin.List.listExtendWith (.ref S) (.ref r) (.ref S)) _ _ s;exact wpAny_extend_range hh hr g_ hn a_ S _ 0 hS h
def mO{r:Addr}{j:Int}{t u v:Tok}{n:Nat}{Q:List Value->Shared->Prop}(hh:A.handled=none)(hr:IsRange s.heap r 0 j 1 t u v)(g_:Builtin.Range.small 0 j 1=true)(hn:Builtin.Range.rangeSize 0 j 1=n)(a_:n<=2^24)
 (h:∀h' tk (vs:List Value),s.heap.objs.size<=h'.objs.size->(∀b o,s.heap.get? b=some o->h'.get? b=some o)->vs.length=n->(∀(i:Nat) x,vs[i]?=some x->∃t,x=.int (i:Nat) t)->Q vs { s with heap:=h',toks:=tk }):wpAny (model prog w) A (collect (.ref r)) Q E s:=by
 unfold collect;refine o_ <| wpAny_runValue <| PY entry_proto_collect' ?_;show wpAny _ _ (do again (.builtin "list.__iadd__" ⟨[<- newList [],.ref r],[]⟩)) _ _ s;have hS:(s.heap.push (seqObj "list" #[] 0)).get? s.heap.objs.size=some (seqObj "list" #[] 0):=F_ _ rfl;refine o_ <| wpAny_newList <| z_ ⟨Code.quiet_builtin _ (by decide),FO (s:={ s with heap:=s.heap.push (seqObj "list" #[] 0) }) hh (s_ _ hr) g_ hn a_ hS λh' tk acc c k z it=>?_⟩;show wpAny (model prog w) A (do
  let o <- load s.heap.objs.size
  match o.data with
  |.seq xs _=>pure xs.toList
  |_=>unsupported "internal:collect") Q E { s with heap:=h',toks:=tk }
 refine o_ <| wpAny_load z ?_;refine z_ (h h' tk acc.toList (O5 (A_ z)) (λb o y=>k b o (Nn (A_ y)) (s_ _ y)) (by rw[NG];exact it.1) λi x y=>?_);obtain⟨t,e⟩:=it.2 i x (by simpa using y);exact⟨t,by rw[e];congr 1;omega⟩
end
abbrev fC(p:Pos):Arguments:=⟨[],[⟨"number",none,p⟩],none,[],[],none,[]⟩
abbrev bg:Scope:={ kind:=.function,names:=[("number",.local),("weights",.free)],isGenerator:=false,isCoroutine:=false,more:=[] }
abbrev eN(p1 p2 p3 p4 p5 p6:Pos):Expr:=.Tuple [.UnaryOp .USub (.Subscript (.Name "weights" p1) (.Name "number" p2) p3) p4,.Name "number" p5] 0 p6
section
variable{prog:Program}{w:World}{A:Around}{s:Shared}
def FH{f c' cell a:Addr}{q:Str}{pm ctv:Value}{its:Array Value}{ws:List Int}{p0 p1 p2 p3 p4 p5 p6:Pos}{i:Nat}{t:Tok}
 (hroom:A.depth<recursionLimit) (ho:s.heap.get? f=some (kla_obj "<lambda>" q (fC p0) (eN p1 p2 p3 p4 p5 p6) bg [("weights",cell)] pm c' ctv)) (n_:s.heap.CodeRec (.ref c') q) (hlim:s.heap.NoLimit) (l_:s.heap.IsCell cell (some (.ref a))) (hl:s.heap.IsList a its) (hw:Vals (ws.map V.int) its.toList) (hi:i<ws.length) (hz:ws.length<64):
 wpAny (model prog w) A (call (.ref f) [.int (i:Nat) t]) (λk s2=>∃h2 tk2,s2={ s with heap:=h2,toks:=tk2 }/\(∀b o,s.heap.get? b=some o->h2.get? b=some o)/\TupAt h2 k (-(ws.getD i 0),(i:Nat))) (λ_ _=>False) s:=by
 refine wpAny_call ?_;refine kla_callFunE hroom ho rfl rfl rfl rfl n_ ?_;rw[show bindArgs (kla_fn "<lambda>" q (fC p0) (eN p1 p2 p3 p4 p5 p6) bg [("weights",cell)] pm (.ref c') ctv) ⟨[Value.int (i:Nat) t],[]⟩=(pure [(("number" : Str),Value.int (i:Nat) t)]:Sem (List (Str×Value))) from by with_unfolding_all rfl];refine z_ (wpAny_newFunctionEnv (show ∀x∈bg.names,x.2 ≠ .cell by decide) (by intro y hy;rw[N2] at hy;subst hy;rfl) (λh1 hns hsb=>⟨hlim.fresh _ hsb,?_⟩) rfl);show codeAny _ _ (.expr (eN p1 p2 p3 p4 p5 p6) (envX q bg s.heap.objs.size f (.ref c') [("weights",cell)])) _ _;have k1:∀b o,s.heap.get? b=some o->h1.get? b=some o:=λb o e=>hsb.extBut b o (Nn (A_ e)) (s_ _ e);have hc1:h1.IsCell cell (some (.ref a)):=by obtain⟨o,e,d⟩:=l_;exact⟨o,k1 _ _ e,d⟩
 have hl1:h1.IsList a its:=by obtain⟨o,e,d⟩:=hl;exact⟨o,k1 _ _ e,d⟩
 refine kla_codeExpr ?_;refine wpAny_Tuple_spliced ?_;obtain⟨u,eu,ru⟩:=hw.get (i:=i) (x:=V.int (ws.getD i 0)) (by rw[Nq,B_ hi,L_,B_ hi];rfl);obtain⟨tx,rfl⟩:=ru;have ei:its[((i:Nat):Int).toNat]?=some (.int (ws.getD i 0) tx):=by rw[NT,<- Array.getElem?_toList];exact eu
 have nm:∀(pp:Pos) (s':Shared) (Q:Qf) (E':Qf),s'.heap=h1->Q (.int (i:Nat) t) s'->wpAny (model prog w) (A.deeper (envX q bg s.heap.objs.size f (.ref c') [("weights",cell)])) (eval (.Name "number" pp) (envX q bg s.heap.objs.size f (.ref c') [("weights",cell)])) Q E' s':=λpp s' Q E' e hq=>
  wpAny_Name (P5 rfl rfl (by rw[e];exact hns) rfl hq) (by decide)
 show wpAny _ _ (spliced ((false,eval (.UnaryOp .USub (.Subscript (.Name "weights" p1) (.Name "number" p2) p3) p4) (envX q bg s.heap.objs.size f (.ref c') [("weights",cell)]))::backTo p6 (starEach [.Name "number" p5] (envX q bg s.heap.objs.size f (.ref c') [("weights",cell)])))) _ _ _;refine OD ?_;refine UnaryOp_ ?_;refine Subscript_ ?_;refine wpAny_Name (wpAny_loadName_free rfl rfl rfl hc1 ?_) (by decide);refine nm p2 _ _ _ rfl ?_;refine item_listR hl1 (by omega) (by omega) ei ?_;refine neg_int ?_;show wpAny _ _ (spliced ((false,eval (.Name "number" p5) (envX q bg s.heap.objs.size f (.ref c') [("weights",cell)]))::[])) _ _ _;refine OD ?_;refine nm p5 _ _ _ rfl ?_;refine O2 ?_;refine⟨show 2<=sizeLine by decide,_,_,rfl,λb o e=>s_ _ (k1 b o e),h1.objs.size,0,none,#[],_,t,rfl,F_ _ rfl⟩
end
section
variable{prog:Program}{w:World}{A:Around}{E:Qf}{s:Shared}
def xi{r f:Addr}{j:Int}{t u v:Tok}{n:Nat}{xs:List (Int×Int)}{Q:Qf}(hh:A.handled=none)(hr:IsRange s.heap r 0 j 1 t u v)(g_:Builtin.Range.small 0 j 1=true)(hn:Builtin.Range.rangeSize 0 j 1=n)(h64:n<64)(hx:xs.length=n)(nd:xs.Nodup)
 (hc:∀(i:Nat) (x:Int×Int) (tt:Tok) (h':Heap) (tk:Nat),xs[i]?=some x->(∀b o,s.heap.get? b=some o->h'.get? b=some o)->wpAny (model prog w) A.in1.in1 (call (.ref f) [.int (i:Nat) tt]) (λk s2=>∃h2 tk2,s2={ s with heap:=h2,toks:=tk2 }/\(∀b o,h'.get? b=some o->h2.get? b=some o)/\TupAt h2 k x) (λ_ _=>False) { s with heap:=h',toks:=tk })
 (h:∀(p:Array Nat) (h':Heap) (D:Addr) (c tk:Nat) (out:List Value),p.toList.Perm (List.range n)->UpTo (ltP xs) p n->s.heap.objs.size<=D->(∀b o,s.heap.get? b=some o->h'.get? b=some o)->h'.get? D=some (seqObj "list" out.toArray c)->Vals (p.toList.map λi:Nat=>V.int (i:Nat)) out->Q (.ref D) { s with heap:=h',toks:=tk }):
 wpAny (model prog w) A (call (.builtin "sorted") [.ref r] [(Str.ofString "key",.ref f)]) Q E s:=by
 refine call_function_entry_kw kind_sorted plain_sorted entry_sorted (ksk_s1 _ _) ?_;unfold Builtin.«sorted»;refine o_ (m:=checkCount "sorted" 1 1 _) <| z_ ?_;refine o_ <| mO (A:=A.in1) hh hr g_ hn (by omega) λh1 tk1 vs sz k1 lv iv=>?_;have big:sizeLine=16777216:=rfl;refine o_ <| wpAny_newList ?_ (by omega);have hoL:(h1.push (seqObj "list" vs.toArray 0)).get? h1.objs.size=some (seqObj "list" vs.toArray 0):=F_ _ rfl;have kL:∀b o,s.heap.get? b=some o->b≠h1.objs.size/\(h1.push (seqObj "list" vs.toArray 0)).get? b=some o:=λb o e=>⟨Nn (A_ (k1 b o e)),s_ _ (k1 b o e)⟩;refine o_ <| N9 <| wpAny_call_entry_kw slot_list_sort ⟨_,hoL,rfl⟩ entry_list_sort ?body (ksk_l1 _ _)
 case body=>
  show wpAny (model prog w) A.in1.in1 (Builtin.«list.sort» ⟨[.ref h1.objs.size],[(Str.ofString "key",.ref f)]⟩) _ _ { s with heap:=h1.push (seqObj "list" vs.toArray 0),toks:=tk1 };rw[ksk_t1];refine Bf (s:={ s with heap:=h1.push (seqObj "list" vs.toArray 0),toks:=tk1 }) (xs:=xs) hoL (by omega) (by omega) nd (λi v x h' tk e1 e2 k=>?_) λp h' c tk p1 p2 k z=>?_
  .obtain⟨tt,rfl⟩:=iv i v e1;exact hc i x tt h' tk e2 λb o e=>k b o (kL b o e).1 (kL b o e).2
  .rw[lv] at p1 p2;refine⟨_,rfl,z_ ⟨_,rfl,h p h' h1.objs.size c tk _ p1 p2 sz (λb o e=>k b o (kL b o e).1 (kL b o e).2) z ?_⟩⟩;have all:∀i∈p.toList,i<n:=λi hi=>M_.mp (p1.mem_iff.mp hi);clear z p1 p2;generalize p.toList=l at all;induction l with
   |nil=>exact .nil
   |cons i l ih=>refine .cons ?_ (ih λk hk=>all k (q_ _ hk));have hi:=all i (r_ ..);obtain⟨tt,e⟩:=iv i (vs.getD i Value.none) (by rw[L_,B_ (by omega)];rfl);exact⟨tt,e⟩
end
section
variable{X:Cx}{pins:Qe}{σ:St}{H:Hp}{s:Shared}{h':Heap}
def Inv.tabled{P c':Addr}{q:Str}{ps more:Array Value}{t':Nat}(I:Inv X pins σ H s)(hP:H P=some (.tbl ps))(hx:Heap.ExtBut P s.heap h')(hc:s.heap.objs.size<=c')(hrec:h'.CodeRec (.ref c') q)(htab:h'.get? P=some (tabObj (ps++more))):
 Inv X pins σ (upd (upd H P (.tbl (ps++more))) c' (.ext (fW c' q))) { s with heap:=h',toks:=t' }:=by
 have hcn:H c'=none:=I.hok.fresh hc;have nPc:P≠c':=bS hP hcn;have at_:∀b,b≠P->b≠c'->upd (upd H P (.tbl (ps++more))) c' (.ext (fW c' q)) b=H b:=λb n1 n2=>by rw[aB n2,aB n1]
 have atP:upd (upd H P (.tbl (ps++more))) c' (.ext (fW c' q)) P=some (.tbl (ps++more)):=by rw[aB nPc,bc]
 have nP:∀b,H b=none->b≠P:=λb n z=>by rw[z,hP] at n;cases n
 have ol:∀b o,s.heap.get? b=some o->b≠c':=λb o e=>Nn (I_ (A_ e) hc);have tr:∀b u,H b=some u->b≠c':=λb u e=>bS e hcn;refine I.un ⟨λb o e n _ _=>hx b o (nP b n) e,λb o e n _ _=>⟨o.slots,hx b o (nP b n) e⟩,λb o e n _=>by rw[at_ b (nP b n) (ol b o e)];exact n,λb o e _=>?_,λb ys e=>?_,λb o u e=>?_,λb qs e=>?_⟩ λb u e=>?_
 .by_cases z:b=P
  .exact⟨_,by rw[z];exact htab⟩
  .exact⟨o,hx b o z e⟩
 .rw[at_ b (λz=>by rw[z,hP] at e;cases e) (tr b _ e)];exact e
 .rw[at_ b (λz=>by rw[z,hP] at e;cases e) (tr b _ e)];exact e
 .by_cases z:b=P
  .subst z;rw[hP] at e;cases e;exact⟨more,atP⟩
  .exact⟨#[],by rw[at_ b z (tr b _ e),e];simp⟩
 .by_cases z:b=c'
  .subst z;rw[bc] at e;cases e;obtain⟨c,o,vs,t,e1,e2,e3⟩:=hrec;cases e1;refine⟨⟨_,o,vs,t,rfl,e2,e3⟩,⟨o,e2⟩,λh1 h2 q1 k=>?_⟩;obtain⟨c,o,vs,t,e1,e2,e3⟩:=q1;cases e1;exact⟨_,o,vs,t,rfl,k o e2,e3⟩
  .by_cases y:b=P
   .subst y;rw[atP] at e;cases e;exact htab
   .rw[at_ b y z] at e;refine (I.hok b u e).stay (λc v hc' r=>hx c v ?_ r) (λc r=>?_) λc ys r=>?_
    .rcases hc' with rfl |r
     .exact y
     .intro z';rw[z',hP] at r;cases r
    .rw[at_ c (λz'=>by rw[z',hP] at r;cases r) (tr c _ r)];exact r
    .rw[at_ c (λz'=>by rw[z',hP] at r;cases r) (tr c _ r)];exact r
end
noncomputable def kyF (ws:List Int) (i:Nat):Int×Int:=(-(ws.getD i 0),(i:Int))
noncomputable def jx (ws:List Int):List (Int×Int):=(List.range ws.length).map (kyF ws)
noncomputable def aJ (ws:List Int):List Nat:=(List.range ws.length).mergeSort λi j=>!bC (kyF ws j) (kyF ws i)
structure FallO(ws:List Int)(l:List Nat):Prop where
 perm:l.Perm (List.range ws.length)
 up:l.Pairwise λi j=>bC (kyF ws i) (kyF ws j)=true
def vv{ws:List Int}{i j:Nat}(h:kyF ws i=kyF ws j):i=j:=by
 have:=Nz Prod.snd h
 have:((i:Nat):Int)=(j:Nat):=this;omega
def Gs(ws:List Int):(jx ws).Nodup:=by unfold jx;refine List.pairwise_map.mpr (List.Pairwise.imp (λ{a b} h z=>h (vv z)) PC)
def b0(ws:List Int):FallO ws (aJ ws):=⟨P7 ..,Lr (kyF ws) vv PC⟩
def FallO.eq{ws:List Int}{l:List Nat}(h:FallO ws l):l=aJ ws:=FF h.up (b0 ws).up (h.perm.trans (b0 ws).perm.symm)
def E9{ws:List Int}{p:Array Nat}(h1:p.toList.Perm (List.range ws.length))(h2:UpTo (ltP (jx ws)) p ws.length):p.toList=aJ ws:=by
 refine FallO.eq ⟨h1,List.Pairwise.imp_of_mem (λ{i j} hi hj h=>?_) (Ge h1 h2)⟩;have g:∀k∈p.toList,(jx ws).getD k (0,0)=kyF ws k:=λk hk=>by unfold jx;rw[L_,Nq,List.getElem?_range (M_.mp (h1.mem_iff.mp hk))];rfl
 rw[g i hi,g j hj] at h;exact h
section
variable{X:Cx}{iW:Nat}{ta:TA}{c P:Addr}{a:Expr}{q1 q2 q6 q7 q8 q9 p0 p1 p2 p3 p4 p5 p6:Pos}
def yd(H H2:Hp)(P:Addr)(q:Str)(ps:Array Value)(pos:Pos):Prop:=H2=H\/∃c',H c'=none/\codeAmong pos ps.toList=none/\H2=upd (upd H P (.tbl (ps++#[rawInt pos.line,rawInt pos.col,.ref c']))) c' (.ext (fW c' q))
def yz(K:W.Frag)(mg:Qd)(P:Addr)(q:Str)(pos:Pos)(vW:Option (Option V)):List V->Hp->VK->Prop:=λvs H Q=>∃(b:Addr) (ws:List Int) (ps:Array Value),vs=[.int (ws.length:Nat)]/\vW=some (some (.ref b))/\SqL K H b (ws.map V.int)/\ws.length<64/\H P=some (.tbl ps)/\TriplesOk ps.toList/\(∀ps' cv,codeAmong ps' ps.toList=some cv->∃c,cv=.ref c/\H c=some (.ext (fW c q)))/\sP K mg H/\
 ∀H2 l,yd H H2 P q ps pos->H2 l=none->Q (.ref l) (upd H2 l (.lst ((aJ ws).map λi:Nat=>V.int (i:Nat))))
def Mr(K:W.Frag)(mg:Qd)(iW:Nat)(P:Addr)(q:Str)(pos:Pos)(ta:TA):TE:=λσ H Q=>ta σ H λvs H1=>yz K mg P q pos σ[iW]? vs H1 Q
def FL(hc:X.calm=true)(hdp:X.A.depth<recursionLimit)(hl:Gl X "sorted")(hml:X.mg "sorted"=none)(hg:Gl X "range")(hm:X.mg "range"=none)(ha:PA X [a] ta)(hN:X.N[iW]?=some "weights")(hv:X.env.scope.names.lookup ("weights" : Str)=some .cell)(n_:X.env.code=.ref c)(hh:codeHdIn X.K c P=true)(hs:starEach [a] X.env=[(false,eval a X.env)]:=by rfl):
 PE X (.Call (.Name "sorted" q1) [.Call (.Name "range" q2) [a] [] q6] [⟨some "key",.Lambda (fC p0) (eN p1 p2 p3 p4 p5 p6) bg q7,q8⟩] q9) (Mr X.K X.mg iW P (X.env.qual ++ "<lambda>") q7 ta):=by
 intro pins s σ H Q I h;refine NN (cR I hl hml (show bootBuiltins "sorted"=some (.builtin "sorted") from rfl) ?_ (by decide) (by decide));refine callWith_kw ?_ rfl rfl rfl rfl;show wpAny _ _ (spliced ((false,eval (.Call (.Name "range" q2) [a] [] q6) X.env)::[])) _ _ s;refine OD ?_;refine NN (cR I hg hm (show bootBuiltins "range"=some (.type "range") from rfl) ?_ (by decide) (by decide));refine NH (thn (ha q6 pins s σ H _ I h) λus s1 zz=>exA zz λvs H1 I1 r1 z1=>?_) hs rfl;obtain⟨b,ws,ps,e,ew,hq,hn,hP,htr,hcs,hB,q⟩:=z1;subst e;cases r1 with
 |
  cons r rr=>
  cases rr;obtain⟨t,rfl⟩:=r;refine call_range_1 (O2 ?_);have I2:Inv X pins σ H1 { s1 with heap:=s1.heap.push { cls:=.type "range",data:=.fields #[.int 0 s1.toks,.int (ws.length:Nat) t,.int 1 (s1.toks+1)] },toks:=s1.toks+1+1 }:=I1.kept λb o e=>s_ _ e;have hr2:IsRange (s1.heap.push { cls:=.type "range",data:=.fields #[.int 0 s1.toks,.int (ws.length:Nat) t,.int 1 (s1.toks+1)] }) s1.heap.objs.size 0 (ws.length:Nat) 1 s1.toks t (s1.toks+1):=IsRange.new ..;generalize s1.heap.push { cls:=.type "range",data:=.fields #[.int 0 s1.toks,.int (ws.length:Nat) t,.int 1 (s1.toks+1)] }=h2 at I2 hr2 ⊢;generalize s1.heap.objs.size=r at hr2 ⊢;have hk:X.env.kindOf "weights"=some .cell:=hv;obtain⟨m,hns,hloc⟩:=I2.loc;obtain⟨u,ru,lk⟩:=hloc iW "weights" (.ref b) hN ew (.inr (.inl hv));obtain rfl:u=.ref b:=ru;obtain⟨cell,ec,l_⟩:∃cell,X.env.cells.lookup ("weights" : Str)=some cell/\h2.IsCell cell (some (.ref b)):=by
   rcases lk with ⟨z,_⟩ |⟨_,cl,z1,z2⟩
   .rw[hk] at z;cases z
   .exact⟨cl,z1,z2⟩
  have clo:closureFor bg X.env=(pure [(("weights" : Str),cell)]:Sem (List (Str×Addr))):=by simp [closureFor,cellOf,ec]
  obtain⟨its,rv,pl,hz⟩:=I2.list hq;have d_:∀(H2:Hp) (s3:Shared) (f c':Addr) (pm ctv:Value),yd H1 H2 P (X.env.qual ++ "<lambda>") ps q7->Inv X pins σ H2 s3->(∀b o,b≠P->h2.get? b=some o->s3.heap.get? b=some o)->s3.heap.get? f=some (kla_obj "<lambda>" (X.env.qual ++ "<lambda>") (fC p0) (eN p1 p2 p3 p4 p5 p6) bg [("weights",cell)] pm c' ctv)->s3.heap.CodeRec (.ref c') (X.env.qual ++ "<lambda>")->
   wpAny (model X.prog X.w) X.A (call (.builtin "sorted") [.ref r] [(Str.ofString "key",.ref f)]) (EP X pins σ Q) X.xe s3:=by
   intro H2 s3 f c' pm ctv G3 I3 k3 hf hrec;have nP:∀{b:Addr}{o:Obj},h2.get? b=some o->o.cls ≠ .none->b≠P:=λ{b o} e n z=>by have:h2.get? P=some { cls:=.none,data:=.fields ps }:=I2.hok P _ hP;rw[z,this] at e;cases e;exact n rfl
   have hr3:IsRange s3.heap r 0 (ws.length:Nat) 1 s1.toks t (s1.toks+1):=k3 _ _ (nP hr2 (λz=>nomatch z)) hr2;refine xi (n:=ws.length) (xs:=jx ws) (I.ok.hd hc) hr3 (small_one (by omega) (by omega) (by omega) (by omega)) (by rw[Qb];split <;> omega) hn (by unfold jx;rw[p_,w_]) (Gs ws) (λi x tt h' tk ex k=>?_) λp h' D c tk out pp up sz k z vz=>?_
   .have hi:i<ws.length:=by
     have:=(C_.mp ex).1
     unfold jx at this;rw[p_,w_] at this;exact this
    obtain rfl:x=(-(ws.getD i 0),((i:Nat):Int)):=by unfold jx at ex;rw[Nq,List.getElem?_range hi] at ex;cases ex;rfl
    have hcell':h'.IsCell cell (some (.ref b)):=by obtain⟨o,e1,e2⟩:=l_;refine⟨o,k _ _ (k3 _ _ (λz=>?_) e1),e2⟩;have:h2.get? P=some { cls:=.none,data:=.fields ps }:=I2.hok P _ hP;rw[z,this] at e1;cases e1;cases e2
    have hl':h'.IsList b its.toArray:=by obtain⟨o,e1,e2⟩:=pl.isList;exact⟨o,k _ _ (k3 _ _ (nP e1 (by rw[e2.1];intro z;cases z)) e1),e2⟩
    exact FH (s:={ s3 with heap:=h',toks:=tk }) hdp (k _ _ hf) (by obtain⟨c2,o,vs,tq,e1,e2,e3⟩:=hrec;exact⟨c2,o,vs,tq,e1,k _ _ e2,e3⟩) (I3.nolimit.keeps k) hcell' hl' (by simpa using rv) hi hn
   .rw[E9 pp up] at vz;have big:sizeLine=16777216:=rfl;have ln:((aJ ws).map λi:Nat=>V.int (i:Nat)).length<=sizeLine:=by rw[p_,(b0 ws).perm.length_eq,w_];omega
    exact⟨.ref D,_,I3.laid (t':=tk) k sz (show ObjOk X.prog X.w _ h' _ (.lst _) from ⟨ln,out,c,vz,z⟩),rfl,q H2 D G3 (I3.hok.fresh sz)⟩
  have tabP:h2.get? P=some { cls:=.none,data:=.fields ps }:=I2.hok P _ hP;have glb:h2.Ns mainGlobals X.mg:=I2.mod.glob.keeps I2.bk;have gP:mainGlobals≠P:=λz=>by obtain⟨o,es,ep,e,d,_⟩:=glb;rw[z,tabP] at e;cases e;cases d
  have bAt:h2.BuiltinsAt X.mg P:=by
   obtain⟨bm,o,y1,y2,y3,⟨y4,y5,y6⟩,y7⟩:=hB;have y8:h2.get? bm=some o:=by
    rcases y7 with z |⟨u,z⟩
    .exact I2.kIn bm o z
    .exact (I2.hok bm _ z).1
   exact⟨bm,o,y1,y2,y3,(λz=>by rw[z,tabP] at y8;cases y8;cases y6),y8,y4,y5,y6⟩
  have CH:=codeHd_of_K I2.kIn hh;have lam:wpAny (model X.prog X.w) X.A (eval (.Lambda (fC p0) (eN p1 p2 p3 p4 p5 p6) bg q7) X.env) (λv s3=>∃f,v=.ref f/\wpAny (model X.prog X.w) X.A (call (.builtin "sorted") [.ref r] [(Str.ofString "key",.ref f)]) (EP X pins σ Q) X.xe s3) X.xe { s1 with heap:=h2,toks:=s1.toks+1+1 }:=by
   refine kla_eval rfl ?_;cases am:codeAmong q7 ps.toList with
   |
    none=>
    refine kla_makeFunction (mg:=X.mg) clo I.ok.glob glb n_ CH tabP htr am gP bAt λc' ctv h' tk hx hge hlt hrec htb=>?_;have hrec':(h'.push (kla_obj "<lambda>" (X.env.qual ++ "<lambda>") (fC p0) (eN p1 p2 p3 p4 p5 p6) bg [("weights",cell)] ((X.mg "__name__").getD .none) c' ctv)).CodeRec (.ref c') (X.env.qual ++ "<lambda>"):=by obtain⟨c2,o,vs,tq,e1,e2,e3⟩:=hrec;exact⟨c2,o,vs,tq,e1,s_ _ e2,e3⟩
    exact⟨_,rfl,d_ _ _ _ c' _ ctv (.inr ⟨c',I2.hok.fresh hge,am,rfl⟩) (I2.tabled (t':=tk) hP (λb o n e=>s_ _ (hx b o n e)) hge hrec' (s_ _ htb)) (λb o n e=>s_ _ (hx b o n e)) (F_ _ rfl) hrec'⟩
   |some cv=>obtain⟨c',rfl,hc'⟩:=hcs q7 cv am;refine kla_makeFunctionHit (mg:=X.mg) clo I.ok.glob glb n_ CH tabP htr am bAt λctv h' tk k hsz=>?_;obtain⟨c2,o,vs,tq,e1,e2,e3⟩:h2.CodeRec (.ref c') (X.env.qual ++ "<lambda>"):=(I2.hok c' _ hc').1;exact⟨_,rfl,d_ _ _ _ c' _ ctv (.inl rfl) (I2.kept (t':=tk) λb o e=>s_ _ (k b o e)) (λb o n e=>s_ _ (k b o e)) (F_ _ rfl) ⟨c2,o,vs,tq,e1,s_ _ (k _ _ e2),e3⟩⟩
  show wpAny _ _ (do
   let v <- (do let v <- eval (.Lambda (fC p0) (eN p1 p2 p3 p4 p5 p6) bg q7) X.env;standAt q9;pure v)
   return v::(<- holding [v] (evalAll []))) _ _ _
  refine o_ <| o_ <| NF lam (λv s3 hv3=>?_) λ_ _ z=>z;obtain⟨f,rfl,hv3⟩:=hv3;exact o_ (OU (z_ (o_ (N9 (z_ (z_ hv3))))))
end
section
variable{K:W.Frag}{mg:Qd}{h:AH}
def LamT.one{P P':Addr}{q q':Str}(a:LamT K mg P q)(b:LamT K mg P' q'):q=q':=by
 obtain⟨x,f,oc,od,fd,sl,c,a1,a2,a3,a4,a5,a6,rfl⟩:=a;obtain⟨y,f',oc',od',fd',sl',c',b1,b2,b3,b4,b5,b6,rfl⟩:=b;have e:x=y:=by
  by_cases z:x=y
  .exact z
  .have:=a2 y b1 λw=>z w.symm
   rw[b3] at this;cases this
 subst e;rw[a3] at b3;cases b3;rw[a4] at b4;cases b4;rfl
def wZ{pos:Pos}{a b:Int}{c cv:Value}(l:List Value)(h:TriplesOk l)(e:codeAmong pos (l++[rawInt a,rawInt b,c])=some cv):codeAmong pos l=some cv\/cv=c:=by
 fun_induction TriplesOk l with
 |
  case1=>
  simp only[NP,codeAmong,rawInt] at e;split at e
  .cases e;exact .inr rfl
  .cases e
 |
  case2 a' t b' u x gC ih=>
  simp only[Pz,codeAmong] at e ⊢;split at e
  .rename_i z;rw[if_pos z];exact .inl e
  .rename_i z;rw[if_neg z];exact ih h e
 |case3 l h1 h2=>exact h.elim
end
section
variable{X:Cx}{K:W.Frag}{mg:Qd}{a:Expr}{ta:TA}{q1 q8 q9 pc:Pos}{kc:Nat}
def AG(K:W.Frag):List V->Hp->VK->Prop:=λxs H Q=>∃b ns,xs=[.ref b]/\SqL K H b (ns.map V.int)/\ns.length<64/\∀l,H l=none->Q (.ref l) (upd H l (.lst ((srI ns).reverse.map V.int)))
def EL(hl:Gl X "sorted")(hml:X.mg "sorted"=none)(ha:PA X [a] ta)(hs:starEach [a] X.env=[(false,eval a X.env)]):
 PE X (.Call (.Name "sorted" q1) [a] [⟨some "reverse",.Constant (.bool true) kc pc,q8⟩] q9) (tCB (AG X.K) ta):=by
 intro pins s σ H Q I h;refine NN (cR I hl hml (show bootBuiltins "sorted"=some (.builtin "sorted") from rfl) ?_ (by decide) (by decide));refine callWith_kw (thn (ha q9 pins s σ H _ I h) λus s1 zz=>exA zz λvs H1 I1 r1 z1=>?_) (by rw[hs];rfl) (by rw[hs];rfl) rfl rfl;obtain⟨b,ns,rfl,hq,hz,q⟩:=z1;obtain⟨u,rfl,ru⟩:=eO r1;cases ru;show wpAny _ _ (do
  let v <- (do let v <- eval (.Constant (.bool true) kc pc) X.env;standAt q9;pure v)
  return v::(<- holding [v] (evalAll []))) _ _ _
 refine o_ <| o_ <| Constant_bool ?_;refine o_ (OU (z_ (o_ (N9 (z_ (z_ ?_))))));obtain⟨its,rv,pl,_⟩:=I1.list hq;have len:its.length=ns.length:=by rw[<- rv.length,p_]
 refine sorted_ints_rev pl.isList (iQ rv) (by omega) λout ns' a1 a2 a3=>?_;obtain⟨m',he⟩:=sortedAll_at s1.heap its out;have en:ns'=(srI ns).reverse:=by have:ns'.reverse=srI ns:=HN ((List.reverse_perm _).trans a2) (List.pairwise_reverse.mpr a3);rw[<- this,List.reverse_reverse]
 subst en;have rv':=iB a1;have l2:(srI ns).length=ns.length:=(fT ns).length_eq;have fr:s1.heap.objs.size<=s1.heap.objs.size+1:=Nat.le_succ _;have big:sizeLine=16777216:=rfl;exact⟨.ref (s1.heap.objs.size+1),_,I1.laid (t':=s1.toks) (λb o z=>sortedAll_old z) fr (show ObjOk X.prog X.w _ _ _ (.lst ((srI ns).reverse.map V.int)) from ⟨by rw[p_,List.length_reverse];omega,_,m',rv',he⟩),rfl,q _ (I1.hok.fresh fr)⟩
end
section
variable{prog:Program}{w:World}{A:Around}{E:Qf}{s:Shared}
def Cm{r:Addr}{j:Int}{t u v:Tok}{n:Nat}{Q:Qf}(hh:A.handled=none)(hr:IsRange s.heap r 0 j 1 t u v)(g_:Builtin.Range.small 0 j 1=true)(hn:Builtin.Range.rangeSize 0 j 1=n)(a_:n<=2^24)
 (h:∀(h':Heap) (tk:Nat) (vs:List Value),s.heap.objs.size<=h'.objs.size->(∀b o,s.heap.get? b=some o->h'.get? b=some o)->vs.length=n->(∀(i:Nat) x,vs[i]?=some x->∃t,x=.int (i:Nat) t)->Q (.ref h'.objs.size) { s with heap:=h'.push { cls:=.type "tuple",data:=.seq vs.toArray },toks:=tk }):
 codeAny (model prog w) A (.call (.builtin "tuple.__new__") ⟨[.type "tuple",.ref r],[]⟩) (wants Q E) s:=by
 refine codeAny_of_tree ?_;show wpAny _ A.in1 (do checkBuiltinCall "tuple.__new__" ⟨[.type "tuple",.ref r],[]⟩;again (.builtin "tuple.__new__" ⟨[.type "tuple",.ref r],[]⟩)) _ _ s;refine o_ <| wpAny_of_eq (F.newCall_tuple_1 _) <| z_ ⟨plainId_quiet F.plain_tuple_new _,PY F.entry_tuple_new ?_⟩;rw[Around.under_plainId F.plain_tuple_new _];have hsub:=sub_tuple_self;have hinit:=init_tuple_lookup;have hmh:=madeHere_tuple;have hTI:s.TypeIs (.ref r) "range":=⟨_,hr,rfl⟩
 wp_walk using wpAny_typeOf hTI,mO (A:=A.in1) hh hr g_ hn a_
 intro h' tk vs sz k lv iv;show wpAny _ _ (Builtin.Tuple.tupleExact vs.toArray >>= λv=>ret v) _ _ _;unfold Builtin.Tuple.tupleExact;have big:sizeLine=16777216:=rfl;refine o_ <| N5 ?_ (by show vs.length<=_;omega);exact z_ (h h' tk vs sz k lv iv)
def BA{r:Addr}{j:Int}{t u v:Tok}{n:Nat}{Q:Qf}(hh:A.handled=none)(hr:IsRange s.heap r 0 j 1 t u v)(g_:Builtin.Range.small 0 j 1=true)(hn:Builtin.Range.rangeSize 0 j 1=n)(a_:n<=2^24)
 (h:∀(h':Heap) (tk:Nat) (vs:List Value),s.heap.objs.size<=h'.objs.size->(∀b o,s.heap.get? b=some o->h'.get? b=some o)->vs.length=n->(∀(i:Nat) x,vs[i]?=some x->∃t,x=.int (i:Nat) t)->Q (.ref h'.objs.size) { s with heap:=h'.push { cls:=.type "tuple",data:=.seq vs.toArray },toks:=tk }):
 wpAny (model prog w) A (call (.type "tuple") [.ref r]) Q E s:=by
 refine callType_codes (Q₁:=λobj s₁=>s₁.TypeIs obj "tuple" /\ Q obj s₁) F.called_tuple (F.typeCall_tuple_1 _) F.entry_object_init (Cm hh hr g_ hn a_ λh' tk vs sz k lv iv=>⟨⟨_,F_ _ rfl,rfl⟩,h h' tk vs sz k lv iv⟩) λobj s₁ h₁=>?_;exact⟨h₁.1,F.args_object_init_2 obj _,object_init_meets F.called_tuple.init.lookup F.called_tuple.made (by decide) prog w A.in1 _ s₁ ⟨h₁.1,rfl,h₁.2⟩⟩
end
section
variable{X:Cx}{mg:Qd}{a:Expr}{ta:TA}{pos q2 p1 p2:Pos}
def rTrg:List V->Hp->VK->Prop:=λxs H Q=>∃j:Int,xs=[.int j]/\0<=j/\j<=1000000/\∀l,H l=none->Q (.ref l) (upd H l (.tup (iK j)))
theorem ub:∀{vs:List Value} (i0:Nat),(∀(i:Nat) x,vs[i]?=some x->∃t,x=.int ((i0+i:Nat):Int) t)->Vals ((List.range' i0 vs.length).map λi:Nat=>V.int (i:Nat)) vs
 | [],_,_=>.nil
 |
  v::vs,i0,h=>by
  rw[D_,List.range'_succ,t_];refine .cons ?_ (ub (i0+1) λi x e=>?_)
  .obtain⟨t,e⟩:=h 0 v rfl;exact⟨t,by rw[e];rfl⟩
  .obtain⟨t,e'⟩:=h (i+1) x (by simpa using e);exact⟨t,by rw[e'];congr 1;omega⟩
def Hw(hc:X.calm=true)(hl:Gl X "tuple")(hml:X.mg "tuple"=none)(hg:Gl X "range")(hm:X.mg "range"=none)(ha:PA X [a] ta)(hs:starEach [a] X.env=[(false,eval a X.env)])
 (hs1:starEach [.Call (.Name "range" p2) [a] [] q2] X.env=[(false,eval (.Call (.Name "range" p2) [a] [] q2) X.env)]):
 PE X (.Call (.Name "tuple" p1) [.Call (.Name "range" p2) [a] [] q2] [] pos) (tCB rTrg ta):=by
 intro pins s σ H Q I h;refine NN (cR I hl hml (show bootBuiltins "tuple"=some (.type "tuple") from rfl) ?_ (by decide) (by decide));refine NH ?_ hs1 rfl;rw[hs1];show wpAny _ _ (spliced ((false,eval (.Call (.Name "range" p2) [a] [] q2) X.env)::[])) _ _ s;refine OD ?_;refine NN (cR I hg hm (show bootBuiltins "range"=some (.type "range") from rfl) ?_ (by decide) (by decide));refine NH (thn (ha q2 pins s σ H _ I h) λus s1 zz=>exA zz λvs H1 I1 r1 z1=>?_) hs rfl;obtain⟨j,e,h1,h2,q⟩:=z1;subst e;cases r1 with
 |
  cons r rr=>
  cases rr;obtain⟨t,rfl⟩:=r;refine call_range_1 (O2 ?_);have I2:Inv X pins σ H1 { s1 with heap:=s1.heap.push { cls:=.type "range",data:=.fields #[.int 0 s1.toks,.int j t,.int 1 (s1.toks+1)] },toks:=s1.toks+1+1 }:=I1.kept λb o e=>s_ _ e;refine BA (I.ok.hd hc) (IsRange.new ..) (small_one (by omega) (by omega) (by omega) (by omega)) (n:=j.toNat) (by rw[Qb];split <;> omega) (by omega) λh' tk vs sz k lv iv=>?_;have rv:Vals (iK j) vs:=by
   have:=ub (vs:=vs) 0 λi x e=>by obtain⟨t,e'⟩:=iv i x e;exact⟨t,by rw[e'];congr 1;omega⟩
   rw[lv,<- List.range_eq_range'] at this;exact this
  have hz:(iK j).length<=sizeLine:=by unfold iK;rw[p_,w_];have:sizeLine=16777216:=rfl;omega
  exact⟨.ref _,_,I2.laid (t':=tk) (a:=h'.objs.size) (λb o e=>s_ _ (k b o e)) sz (show ObjOk X.prog X.w _ _ _ (.tup (iK j)) from ⟨hz,vs,rv,⟨_,F_ _ rfl,rfl,_,rfl⟩⟩),rfl,q _ (I2.hok.fresh sz)⟩
end
noncomputable def ltS (x y:Str):Bool:=decide (x.cps.toList<y.cps.toList)
end L2
namespace L3
open PySem PySem.Spec PyProof.Rows L2
set_option genInjectivity true in
inductive Val where
 |non |bl (b:Bool) |int (i:Int) |str (x:Str) |ty (n:String) |glb (x:Str) |exc (x:Str)
 |tup (xs:List Val) |lst (xs:List Val) |kl (xs:List Val) |dct (kvs:List (Key×Val)) |set (xs:List Int)
 deriving Inhabited
abbrev St:=L2.St
structure LeH(H H':Hp):Prop where
 tup:∀b xs,H b=some (.tup xs)->H' b=some (.tup xs)
 frz:∀b o u,H b=some (.frz o u)->H' b=some (.frz o u)
 ext:∀b φ,H b=some (.ext φ)->H' b=some (.ext φ)
def LeH.refl:LeH H H:=⟨λ_ _ e=>e,λ_ _ _ e=>e,λ_ _ e=>e⟩
def LeH.trans(a:LeH H H1)(b:LeH H1 H2):LeH H H2:=⟨λx y e=>b.tup x y (a.tup x y e),λx y z e=>b.frz x y z (a.frz x y z e),λx y e=>b.ext x y (a.ext x y e)⟩
def Gr(H H':Hp):Prop:=∀a o,H a=some o->H' a=some o
def Gr.le(g:Gr H H'):LeH H H':=⟨λ_ _=>g _ _,λ_ _ _=>g _ _,λ_ _=>g _ _⟩
def Gr.refl:Gr H H:=λ_ _ e=>e
def Gr.upd(h:H p=none):Gr H (upd H p u):=λa o e=>by rw[aB (bS e h)];exact e
def Gr.none(g:Gr H H')(h:H' a=none):H a=none:=by
 cases q:H a with
 |none=>rfl
 |some o=>rw[g a o q] at h;cases h
def LeH.sqT{K:W.Frag}(l:LeH H H')(q:SqT K H a xs):SqT K H' a xs:=by
 rcases q with (q |⟨o,q⟩) |q
 .exact .inl (.inl (l.tup _ _ q))
 .exact .inl (.inr ⟨o,l.frz _ _ _ q⟩)
 .exact .inr q
section
variable(K:W.Frag)(mg:Qd)
def KlR(a:Addr)(vs:List V):Prop:=∃(o:Obj) (its:Array Value) (n:Nat),K.lookup a=some o/\o.cls=.type "list" /\ o.dict=none/\o.data=.seq its n/\its.size<=sizeLine/\Vals vs its.toList
mutual
inductive Rd(P:Addr->Prop)(H:Hp):V->Val->Prop where
 |non:Rd P H .non .non
 |bl (b:Bool):Rd P H (.bl b) (.bl b)
 |int (i:Int):Rd P H (.int i) (.int i)
 |str (x:Str):Rd P H (.str x) (.str x)
 |ty (n:String):Rd P H (.ty n) (.ty n)
 |glb {x:Str}{a:Addr} (m:mg x=some (.ref a)):Rd P H (.ref a) (.glb x)
 |exc {x:Str}{a C:Addr} (m:mg x=some (.ref C)) (e:H a=some (.ext (ye a C))):Rd P H (.ref a) (.exc x)
 |tup {p:Addr}{vs:List V}{us:List Val} (h:SqT K H p vs) (r:Rds P H vs us):Rd P H (.ref p) (.tup us)
 |kl {a:Addr}{vs:List V}{us:List Val} (h:KlR K a vs) (r:Rds P H vs us):Rd P H (.ref a) (.kl us)
 |cell {a:Addr}{o:HO}{v:Val} (p:P a) (e:H a=some o) (r:Rc P H o v):Rd P H (.ref a) v
inductive Rc(P:Addr->Prop)(H:Hp):HO->Val->Prop where
 |lst {vs:List V}{us:List Val} (r:Rds P H vs us):Rc P H (.lst vs) (.lst us)
 |fz {o:Obj}{vs:List V}{us:List Val} (r:Rds P H vs us):Rc P H (.frz o (.lst vs)) (.kl us)
 |dct {ws:List (Key×V)}{us:List (Key×Val)} (r:Rk P H ws us):Rc P H (.dK ws) (.dct us)
 |set (xs:List Int) (nd:xs.Nodup):Rc P H (.set (λi=>decide (i∈xs)) xs.length) (.set xs)
inductive Rds(P:Addr->Prop)(H:Hp):List V->List Val->Prop where
 |nil:Rds P H [] []
 |cons {d:V}{v:Val}{ds:List V}{vs:List Val} (r:Rd P H d v) (rr:Rds P H ds vs):Rds P H (d::ds) (v::vs)
inductive Rk(P:Addr->Prop)(H:Hp):List (Key×V)->List (Key×Val)->Prop where
 |nil:Rk P H [] []
 |cons {k:Key}{d:V}{v:Val}{ds:List (Key×V)}{vs:List (Key×Val)} (r:Rd P H d v) (rr:Rk P H ds vs):Rk P H ((k,d)::ds) ((k,v)::vs)
end
end
def oz(o:HO):Prop:=∀ps,o ≠ .tbl ps
structure Mov(P P':Addr->Prop)(H H':Hp):Prop where
 le:LeH H H'
 cl:∀a o,P a->H a=some o->oz o->P' a/\H' a=some o
def Gr.mov(g:Gr H H'):Mov P P H H':=⟨g.le,λa o p e _=>⟨p,g a o e⟩⟩
def Mov.of(h:∀a,P a->P' a):Mov P P' H H:=⟨.refl,λa o p e _=>⟨h a p,e⟩⟩
section
variable{K:W.Frag}{mg:Qd}{P P':Addr->Prop}{H H':Hp}
def Rc.nt(r:Rc K mg P H o v):oz o:=by cases r <;> exact λ_ z=>nomatch z
def Rd.mono(m:Mov P P' H H')(r:Rd K mg P H d v):Rd K mg P' H' d v:=@Rd.rec K mg P H (λd v _=>Rd K mg P' H' d v) (λo v _=>Rc K mg P' H' o v) (λds vs _=>Rds K mg P' H' ds vs) (λws us _=>Rk K mg P' H' ws us) .non (λb=>.bl b) (λi=>.int i) (λx=>.str x) (λn=>.ty n) (λe=>.glb e) (λq e=>.exc q (m.le.ext _ _ e)) (λh _ ih=>.tup (m.le.sqT h) ih) (λh _ ih=>.kl h ih) (λp e r ih=>.cell (m.cl _ _ p e r.nt).1 (m.cl _ _ p e r.nt).2 ih) (λ_ ih=>.lst ih) (λ_ ih=>.fz ih) (λ_ ih=>.dct ih) (λxs nd=>.set xs nd) .nil (λ_ _ a b=>.cons a b) .nil (λ_ _ a b=>.cons a b) d v r
def Rds.ind{M:List V->List Val->Prop}(h0:M [] [])(h1:∀{d v ds vs},Rd K mg P H d v->Rds K mg P H ds vs->M ds vs->M (d::ds) (v::vs)){ds:List V}{vs:List Val}(r:Rds K mg P H ds vs):M ds vs:=by
 induction ds generalizing vs with
 |nil=>cases r;exact h0
 |
  cons d ds ih=>
  cases r with
  |cons r rr=>exact h1 r rr (ih rr)
def Rk.ind{M:List (Key×V)->List (Key×Val)->Prop}(h0:M [] [])(h1:∀{k d v ds vs},Rd K mg P H d v->Rk K mg P H ds vs->M ds vs->M ((k,d)::ds) ((k,v)::vs)){ds:List (Key×V)}{vs:List (Key×Val)}(r:Rk K mg P H ds vs):M ds vs:=by
 induction ds generalizing vs with
 |nil=>cases r;exact h0
 |
  cons d ds ih=>
  cases r with
  |cons r rr=>exact h1 r rr (ih rr)
def Rds.mono(m:Mov P P' H H'){d:List V}{v:List Val}(r:Rds K mg P H d v):Rds K mg P' H' d v:=r.ind .nil λr _ ih=>.cons (r.mono m) ih
def Rk.mono(m:Mov P P' H H'){d:List (Key×V)}{v:List (Key×Val)}(r:Rk K mg P H d v):Rk K mg P' H' d v:=r.ind .nil λr _ ih=>.cons (r.mono m) ih
def Rc.mono(m:Mov P P' H H')(r:Rc K mg P H d v):Rc K mg P' H' d v:=by
 cases r with
 |lst r=>exact .lst (r.mono m)
 |fz r=>exact .fz (r.mono m)
 |dct r=>exact .dct (r.mono m)
 |set xs nd=>exact .set xs nd
def Rds.len{ds:List V}{vs:List Val}(r:Rds K mg P H ds vs):ds.length=vs.length:=r.ind (M:=λds vs=>ds.length=vs.length) rfl λ_ _ ih=>Nz (· + 1) ih
def Rds.get{ds:List V}{vs:List Val}{i:Nat}{v:Val}(r:Rds K mg P H ds vs)(e:vs[i]?=some v):∃d,ds[i]?=some d/\Rd K mg P H d v:=
 r.ind (M:=λds vs=>∀i,vs[i]?=some v->∃d,ds[i]?=some d/\Rd K mg P H d v) (λ_ e=>by rw[List.getElem?_nil] at e;cases e) (λr _ ih i e=>match i,e with
  |0,e=>by cases e;exact⟨_,rfl,r⟩
  |i+1,e=>ih i e) i e
def Rds.append{ds es:List V}{vs ws:List Val}(r:Rds K mg P H ds vs)(q:Rds K mg P H es ws):Rds K mg P H (ds++es) (vs++ws):=r.ind (M:=λds vs=>Rds K mg P H (ds++es) (vs++ws)) q λr _ ih=>.cons r ih
def Rds.take{ds:List V}{vs:List Val}(n:Nat)(r:Rds K mg P H ds vs):Rds K mg P H (ds.take n) (vs.take n):=
 r.ind (M:=λds vs=>∀n:Nat,Rds K mg P H (ds.take n) (vs.take n)) (λn=>by rw[Pw,Pw];exact .nil) (λr _ ih n=>by cases n with |zero=>exact .nil |succ n=>exact .cons r (ih n)) n
def Rds.drop{ds:List V}{vs:List Val}(n:Nat)(r:Rds K mg P H ds vs):Rds K mg P H (ds.drop n) (vs.drop n):=
 r.ind (M:=λds vs=>∀n:Nat,Rds K mg P H (ds.drop n) (vs.drop n)) (λn=>by rw[P9,P9];exact .nil) (λr rr ih n=>by cases n with |zero=>exact .cons r rr |succ n=>exact ih n) n
def Rds.set{d:V}{v:Val}(r:Rd K mg P H d v){ds:List V}{vs:List Val}(i:Nat)(q:Rds K mg P H ds vs):Rds K mg P H (ds.set i d) (vs.set i v):=
 q.ind (M:=λds vs=>∀i:Nat,Rds K mg P H (ds.set i d) (vs.set i v)) (λ_=>.nil) (λq qq ih i=>by cases i with |zero=>exact .cons r qq |succ i=>exact .cons q (ih i)) i
def ShR(K:W.Frag)(mg:Qd)(P:Addr->Prop)(H:Hp)(d:V)(v:Val):Prop:=Rd K mg P H d v\/∃a o,d=.ref a/\H a=some o/\Rc K mg P H o v
inductive ShRs(K:W.Frag)(mg:Qd)(P:Addr->Prop)(H:Hp):List V->List Val->Prop where
 |nil:ShRs K mg P H [] []
 |cons {d:V}{v:Val}{ds:List V}{vs:List Val} (r:ShR K mg P H d v) (rr:ShRs K mg P H ds vs):ShRs K mg P H (d::ds) (v::vs)
def ShR.mono(m:Mov P P' H H')(g:Gr H H')(r:ShR K mg P H d v):ShR K mg P' H' d v:=by
 rcases r with r |⟨a,o,rfl,e,r⟩
 .exact .inl (r.mono m)
 .exact .inr ⟨a,o,rfl,g a o e,r.mono m⟩
def ShR.int(r:ShR K mg P H d (.int i)):d=.int i:=by
 rcases r with r |⟨n,o,rfl,e,r⟩
 .cases r with
  |int=>rfl
  |cell p e r=>cases r
 .cases r
def ShR.str(r:ShR K mg P H d (.str i)):d=.str i:=by
 rcases r with r |⟨n,o,rfl,e,r⟩
 .cases r with
  |str=>rfl
  |cell p e r=>cases r
 .cases r
def ShR.bl(r:ShR K mg P H d (.bl i)):d=.bl i:=by
 rcases r with r |⟨n,o,rfl,e,r⟩
 .cases r with
  |bl=>rfl
  |cell p e r=>cases r
 .cases r
def ShR.non(r:ShR K mg P H d .non):d=.non:=by
 rcases r with r |⟨n,o,rfl,e,r⟩
 .cases r with
  |non=>rfl
  |cell p e r=>cases r
 .cases r
def ShR.exc(r:ShR K mg P H d (.exc x)):∃a C,d=.ref a/\mg x=some (.ref C)/\H a=some (.ext (ye a C)):=by
 rcases r with r |⟨n,o,rfl,e,r⟩
 .cases r with
  |exc m e=>exact⟨_,_,rfl,m,e⟩
  |cell p e r=>cases r
 .cases r
def ShR.ty(r:ShR K mg P H d (.ty x)):d=.ty x:=by
 rcases r with r |⟨n,o,rfl,e,r⟩
 .cases r with
  |ty=>rfl
  |cell p e r=>cases r
 .cases r
def ShR.glb(r:ShR K mg P H d (.glb x)):∃a,d=.ref a/\mg x=some (.ref a):=by
 rcases r with r |⟨n,o,rfl,e,r⟩
 .cases r with
  |glb m=>exact⟨_,rfl,m⟩
  |cell p e r=>cases r
 .cases r
def ShR.tup(r:ShR K mg P H d (.tup us)):∃p vs,d=.ref p/\SqT K H p vs/\Rds K mg P H vs us:=by
 rcases r with r |⟨n,o,rfl,e,r⟩
 .cases r with
  |tup h r=>exact⟨_,_,rfl,h,r⟩
  |cell p e r=>cases r
 .cases r
def ShR.lst(r:ShR K mg P H d (.lst us)):∃a vs,d=.ref a/\H a=some (.lst vs)/\Rds K mg P H vs us:=by
 rcases r with r |⟨n,o,rfl,e,r⟩
 .cases r with
  |cell p e r=>cases r with |lst r=>exact⟨_,_,rfl,e,r⟩
 .cases r with |lst r=>exact⟨_,_,rfl,e,r⟩
def ShR.set(r:ShR K mg P H d (.set xs)):∃a,d=.ref a/\xs.Nodup/\H a=some (.set (λi=>decide (i∈xs)) xs.length):=by
 rcases r with r |⟨n,o,rfl,e,r⟩
 .cases r with
  |cell p e r=>cases r with |set _ nd=>exact⟨_,rfl,nd,e⟩
 .cases r with |set _ nd=>exact⟨_,rfl,nd,e⟩
def ShR.dct(r:ShR K mg P H d (.dct us)):∃a ws,d=.ref a/\H a=some (.dK ws)/\Rk K mg P H ws us:=by
 rcases r with r |⟨n,o,rfl,e,r⟩
 .cases r with
  |cell p e r=>cases r with |dct r=>exact⟨_,_,rfl,e,r⟩
 .cases r with |dct r=>exact⟨_,_,rfl,e,r⟩
def ShR.kl(r:ShR K mg P H d (.kl us)):∃a vs,d=.ref a/\SqL K H a vs/\Rds K mg P H vs us:=by
 rcases r with r |⟨n,o,rfl,e,r⟩
 .cases r with
  |kl h r=>exact⟨_,_,rfl,.inr h,r⟩
  |cell p e r=>cases r with |fz r=>exact⟨_,_,rfl,.inl (.inr ⟨_,e⟩),r⟩
 .cases r with |fz r=>exact⟨_,_,rfl,.inl (.inr ⟨_,e⟩),r⟩
def ShR.lstL(r:ShR K mg P H d (.lst us)):∃a vs,d=.ref a/\SqL K H a vs/\Rds K mg P H vs us:=by obtain⟨a,vs,e,h,q⟩:=r.lst;exact⟨a,vs,e,SqL.of h,q⟩
end
noncomputable def Val.items:Val->Option (List Val)
 |.tup xs=>some xs
 |.lst xs=>some xs
 |.kl xs=>some xs
 |_=>none
def ShR.items{K:W.Frag}{mg:Qd}{P:Addr->Prop}{H:Hp}{d:V}{v:Val}{us:List Val}(r:ShR K mg P H d v)(e:v.items=some us):∃a vs,d=.ref a/\(SqL K H a vs\/SqT K H a vs)/\Rds K mg P H vs us:=by
 cases v with
 |tup xs=>cases e;obtain⟨a,vs,h1,h2,h3⟩:=r.tup;exact⟨a,vs,h1,.inr h2,h3⟩
 |lst xs=>cases e;obtain⟨a,vs,h1,h2,h3⟩:=r.lstL;exact⟨a,vs,h1,.inl h2,h3⟩
 |kl xs=>cases e;obtain⟨a,vs,h1,h2,h3⟩:=r.kl;exact⟨a,vs,h1,.inl h2,h3⟩
 |_=>cases e
inductive Sl where
 |no |sh (v:Val) |ow (v:Val) |mu (v:Val) |lo (v:Val) |lm (v:Val)
 deriving Inhabited
abbrev E3:=List Sl
noncomputable def Sl.val:Sl->Option Val
 |.no=>none
 |.sh v=>some v
 |.ow v=>some v
 |.mu v=>some v
 |.lo v=>some v
 |.lm v=>some v
noncomputable def Sl.mt:Sl->Bool
 |.ow _=>true
 |.mu _=>true
 |_=>false
noncomputable def Sl.lk:Sl->Bool
 |.lo _=>true
 |.lm _=>true
 |_=>false
abbrev Ns:=List (Option Addr)
def Oc(X:Addr->Prop)(ns:Ns)(n:Addr):Prop:=¬ X n/\some n∉ns
def NotFz:HO->Prop
 |.lst _=>True
 |.dK _=>True
 |.set _ _=>True
 |_=>False
def TbQ(H:Hp)(P:Addr)(q:Str):Prop:=∃ps:Array Value,H P=some (.tbl ps)/\TriplesOk ps.toList/\∀pos cv,codeAmong pos ps.toList=some cv->∃c,cv=.ref c/\H c=some (.ext (fW c q))
section
variable(K:W.Frag)(mg:Qd)
def Bs(H:Hp):Prop:=∀P q,LamT K mg P q->TbQ H P q/\sP K mg H
def SlR(P:Addr->Prop)(N0:Addr->Prop)(n:Option (Option Addr))(d:Option (Option V))(H:Hp):Sl->Prop
 |.no=>n=some none
 |.sh v=>n=some none/\∃x,d=some (some x)/\Rd K mg P H x v
 |.ow v=>∃m o,n=some (some m)/\d=some (some (.ref m))/\N0 m/\H m=some o/\NotFz o/\Rc K mg P H o v
 |.lo v=>∃m o,n=some (some m)/\d=some (some (.ref m))/\N0 m/\H m=some o/\NotFz o/\Rc K mg P H o v
 |.mu v=>∃m o,n=some (some m)/\d=some (some (.ref m))/\H m=some o/\NotFz o/\Rc K mg P H o v
 |.lm v=>∃m o,n=some (some m)/\d=some (some (.ref m))/\H m=some o/\NotFz o/\Rc K mg P H o v
structure Sat(X:Addr->Prop)(N0:Addr->Prop)(ns:Ns)(e:E3)(σ:St)(H:Hp):Prop where
 l1:σ.length=e.length
 l2:ns.length=e.length
 lh:∀a,H a=none->N0 a
 xl:∀a,X a->∃o,H a=some o
 inj:∀(i j:Nat) (n:Addr),ns[i]?=some (some n)->ns[j]?=some (some n)->i=j
 nx:∀(i:Nat) (n:Addr),ns[i]?=some (some n)->¬ X n
 sl:∀(i:Nat) (s:Sl),e[i]?=some s->SlR K mg (Oc X ns) N0 (ns[i]?) (σ[i]?) H s
 bs:Bs K mg H
end
def Mt(ns:Ns)(e:E3)(n:Addr):Prop:=∃(i:Nat) (s:Sl),ns[i]?=some (some n)/\e[i]?=some s/\s.mt=true
structure Stp(ns:Ns)(e:E3)(H:Hp)(ns':Ns)(e':E3)(H':Hp):Prop where
 le:LeH H H'
 dom:∀a,H' a=none->H a=none
 keep:∀(m:Addr) (o:HO),H m=some o->oz o->¬ Mt ns e m->H' m=some o
 nw:∀(i:Nat) (n:Addr),ns'[i]?=some (some n)->ns[i]?=some (some n)\/H n=none
 lk:∀(i:Nat) (s:Sl),e[i]?=some s->s.lk=true->e'[i]?=some s/\ns'[i]?=ns[i]?
 lk':∀(i:Nat) (s:Sl),e'[i]?=some s->s.lk=true->e[i]?=some s/\ns'[i]?=ns[i]?
 mu:∀(i:Nat) (v:Val),e'[i]?=some (.mu v)->∃u,e[i]?=some (.mu u)/\ns'[i]?=ns[i]?
 mu':∀(i:Nat) (u:Val),e[i]?=some (.mu u)->∃v,e'[i]?=some (.mu v)/\ns'[i]?=ns[i]?
section
variable{K:W.Frag}{mg:Qd}{X Y N0 P P':Addr->Prop}{ns ns1 h_:Ns}{e e1 e2:E3}{σ:St}{H H' H1 H2:Hp}
def NotFz.nt(h:NotFz o):oz o:=λps z=>by subst z;exact h
def NotFz.no(h:NotFz o):(∀xs,o ≠ .tup xs)/\(∀x y,o ≠ .frz x y)/\(∀φ,o ≠ .ext φ)/\∀ps,o ≠ .tbl ps:=
 ⟨λ_ z=>by subst z;exact h,λ_ _ z=>by subst z;exact h,λ_ z=>by subst z;exact h,λ_ z=>by subst z;exact h⟩
def LeH.wr(q:H a=some u)(hf:NotFz u):LeH H (upd H a o):=by
 have n:∀b w,H b=some w->w≠u->upd H a o b=some w:=λb w e z=>by rw[aB λy=>?_];exact e;subst y;rw[q] at e;exact z (J_ e).symm
 exact⟨λb xs e=>n b _ e λz=>hf.no.1 _ z.symm,λb x y e=>n b _ e λz=>hf.no.2.1 _ _ z.symm,λb φ e=>n b _ e λz=>hf.no.2.2.1 _ z.symm⟩
def DY(b:sP K mg H)(l:LeH H H'):sP K mg H':=by
 obtain⟨x,o,h1,h2,h3,h4,h5⟩:=b;refine⟨x,o,h1,h2,h3,h4,?_⟩;rcases h5 with z |⟨u,z⟩
 .exact .inl z
 .exact .inr ⟨u,l.frz _ _ _ z⟩
def Bs.of(b:Bs K mg H)(l:LeH H H')(t:∀a ps,H a=some (.tbl ps)->H' a=some (.tbl ps)):Bs K mg H':=λP q h=>by obtain⟨⟨ps,h1,h2,h3⟩,m⟩:=b P q h;exact⟨⟨ps,t _ _ h1,h2,λpos cv z=>by obtain⟨c,y1,y2⟩:=h3 pos cv z;exact⟨c,y1,l.ext _ _ y2⟩⟩,DY m l⟩
def Bs.gr(b:Bs K mg H)(g:Gr H H'):Bs K mg H':=b.of g.le λa _=>g a _
def Bs.wr(b:Bs K mg H)(q:H a=some u)(hf:NotFz u):Bs K mg (upd H a o):=b.of (LeH.wr q hf) λc ps e=>by rw[aB λy=>?_];exact e;subst y;rw[q] at e;exact hf.no.2.2.2 _ (J_ e)
def aT{n:Addr}:some n∈ns ↔ ∃i:Nat,ns[i]?=some (some n):=by
 constructor
 .intro m;exact List.getElem?_of_mem m
 .rintro⟨i,e⟩;exact O8 e
def Sat.own(S:Sat K mg X N0 ns e σ H){i:Nat}{n:Addr}(q:ns[i]?=some (some n)):∃s v o,e[i]?=some s/\(s.mt=true\/s.lk=true)/\s.val=some v/\σ[i]?=some (some (.ref n))/\H n=some o/\NotFz o/\Rc K mg (Oc X ns) H o v:=by
 have hi:i<e.length:=by rw[<- S.l2];exact (C_.mp q).1
 have hs:=S.sl i e[i] (B_ hi);refine⟨e[i],?_⟩;have he:=B_ hi;generalize e[i]=s at *;rw[q] at hs;cases s with
 |no=>cases hs
 |sh v=>cases hs.1
 |ow v=>obtain⟨m,o,e1,e2,_,e3,e4,e5⟩:=hs;cases e1;exact⟨v,o,he,.inl rfl,rfl,e2,e3,e4,e5⟩
 |lo v=>obtain⟨m,o,e1,e2,_,e3,e4,e5⟩:=hs;cases e1;exact⟨v,o,he,.inr rfl,rfl,e2,e3,e4,e5⟩
 |mu v=>obtain⟨m,o,e1,e2,e3,e4,e5⟩:=hs;cases e1;exact⟨v,o,he,.inl rfl,rfl,e2,e3,e4,e5⟩
 |lm v=>obtain⟨m,o,e1,e2,e3,e4,e5⟩:=hs;cases e1;exact⟨v,o,he,.inr rfl,rfl,e2,e3,e4,e5⟩
def Stp.gr(g:Gr H H'):Stp ns e H ns e H':=⟨g.le,λ_=>g.none,λ_ _ q _ _=>g _ _ q,λ_ _ q=>.inl q,λ_ _ q _=>⟨q,rfl⟩,λ_ _ q _=>⟨q,rfl⟩,λ_ _ q=>⟨_,q,rfl⟩,λ_ _ q=>⟨_,q,rfl⟩⟩
def Stp.refl:Stp ns e H ns e H:=.gr .refl
def Stp.trans(S:Sat K mg X N0 ns e σ H)(a:Stp ns e H ns1 e1 H1)(b:Stp ns1 e1 H1 h_ e2 H2):Stp ns e H h_ e2 H2:=by
 refine⟨a.le.trans b.le,λx z=>a.dom x (b.dom x z),λm o q ht hm=>?_,λi n q=>?_,λi s q hl=>?_,λi s q hl=>?_,λi v q=>?_,λi v q=>?_⟩
 .refine b.keep m o (a.keep m o q ht hm) ht λ⟨i,s,z1,z2,z3⟩=>hm ?_;rcases a.nw i m z1 with z |z
  .obtain⟨s0,v,o',q1,q2,_⟩:=S.own z;rcases q2 with q2 |q2
   .exact⟨i,s0,z,q1,q2⟩
   .have:=(a.lk i s0 q1 q2).1
    rw[z2] at this;cases this;exfalso;cases s <;> first |cases z3;done |cases q2;done
  .rw[q] at z;cases z
 .rcases b.nw i n q with z |z
  .exact a.nw i n z
  .exact .inr (a.dom n z)
 .obtain⟨q1,q2⟩:=a.lk i s q hl;obtain⟨q3,q4⟩:=b.lk i s q1 hl;exact⟨q3,q4.trans q2⟩
 .obtain⟨q1,q2⟩:=b.lk' i s q hl;obtain⟨q3,q4⟩:=a.lk' i s q1 hl;exact⟨q3,q2.trans q4⟩
 .obtain⟨u,q1,q2⟩:=b.mu i v q;obtain⟨u',q3,q4⟩:=a.mu i u q1;exact⟨u',q3,q2.trans q4⟩
 .obtain⟨u,q1,q2⟩:=a.mu' i v q;obtain⟨u',q3,q4⟩:=b.mu' i u q1;exact⟨u',q3,q4.trans q2⟩
def Stp.mov(a:Stp ns e H ns1 e1 H1):Mov (Oc X ns) (Oc X ns1) H H1:=⟨a.le,λn o p q ht=>by
 have hm:¬ Mt ns e n:=λ⟨i,s,z,_⟩=>p.2 (aT.mpr ⟨i,z⟩);refine⟨⟨p.1,λz=>?_⟩,a.keep n o q ht hm⟩;obtain⟨i,z⟩:=aT.mp z;rcases a.nw i n z with z |z
 .exact p.2 (aT.mpr ⟨i,z⟩)
 .rw[q] at z;cases z⟩
def SlR.mono(m:Mov P P' H H')(k:∀j o,n=some (some j)->H j=some o->NotFz o->H' j=some o)(r:SlR K mg P N0 n d H s):SlR K mg P' N0 n d H' s:=by
 cases s with
 |no=>exact r
 |sh v=>obtain⟨q,x,q1,q2⟩:=r;exact⟨q,x,q1,q2.mono m⟩
 |ow v=>obtain⟨j,o,q1,q2,q3,q4,q5,q6⟩:=r;exact⟨j,o,q1,q2,q3,k j o q1 q4 q5,q5,q6.mono m⟩
 |lo v=>obtain⟨j,o,q1,q2,q3,q4,q5,q6⟩:=r;exact⟨j,o,q1,q2,q3,k j o q1 q4 q5,q5,q6.mono m⟩
 |mu v=>obtain⟨j,o,q1,q2,q4,q5,q6⟩:=r;exact⟨j,o,q1,q2,k j o q1 q4 q5,q5,q6.mono m⟩
 |lm v=>obtain⟨j,o,q1,q2,q4,q5,q6⟩:=r;exact⟨j,o,q1,q2,k j o q1 q4 q5,q5,q6.mono m⟩
def Xn(X:Addr->Prop)(n:Addr):Addr->Prop:=λm=>X m\/m=n
def Sat.gr(S:Sat K mg X N0 ns e σ H)(g:Gr H H'):Sat K mg X N0 ns e σ H':=
 ⟨S.l1,S.l2,λa z=>S.lh a (g.none z),λa z=>by obtain⟨o,q⟩:=S.xl a z;exact⟨o,g a o q⟩,S.inj,S.nx,λi s q=>(S.sl i s q).mono g.mov λj o _ q _=>g j o q,S.bs.gr g⟩
def Sat.grow(S:Sat K mg X N0 ns e σ H)(g:Gr H H')(hp:H p=none)(q:H' p=some o):Sat K mg (Xn X p) N0 ns e σ H':=by
 have S':=S.gr g;have np:∀b u,H b=some u->b≠p:=λb u y z=>by subst z;rw[hp] at y;cases y
 refine⟨S.l1,S.l2,S'.lh,λa z=>?_,S.inj,λi n q' z=>?_,λi s q=>(S.sl i s q).mono ⟨g.le,λa o p q _=>⟨⟨λz=>?_,p.2⟩,g a o q⟩⟩ λj o _ q _=>g j o q,S'.bs⟩
 .rcases z with z |rfl
  .exact S'.xl a z
  .exact⟨o,q⟩
 .rcases z with z |rfl
  .exact S.nx i n q' z
  .obtain⟨_,_,_,_,_,_,_,y,_⟩:=S.own q';exact np _ _ y rfl
 .rcases z with z |z
  .exact p.1 z
  .exact np _ _ q z
def Sat.weak(S:Sat K mg Y N0 ns e σ H)(hx:∀n,X n->Y n):Sat K mg X N0 ns e σ H:=
 ⟨S.l1,S.l2,S.lh,λn z=>S.xl n (hx n z),S.inj,λi n q z=>S.nx i n q (hx n z),λi s q=>(S.sl i s q).mono (.of λn p=>⟨λz=>p.1 (hx n z),p.2⟩) λ_ _ _ q _=>q,S.bs⟩
end
section
variable{K:W.Frag}{mg:Qd}{X N0:Addr->Prop}{ns ns0:Ns}{e e0:E3}{σ:St}{H Hs:Hp}
def bL{α:Type}{l:List α}{i j:Nat}{a b:α}(hi:i<l.length)(q:(l.set i a)[j]?=some b):(j=i/\b=a)\/(j≠i/\l[j]?=some b):=by
 rw[List.getElem?_set] at q;by_cases z:i=j
 .subst z;rw[if_pos rfl,if_pos hi] at q;exact .inl ⟨rfl,(J_ q).symm⟩
 .rw[if_neg z] at q;exact .inr ⟨λy=>z y.symm,q⟩
def dB{α:Type}{l:List α}{i:Nat}{a:α}(hi:i<l.length):(l.set i a)[i]?=some a:=by rw[List.getElem?_set,if_pos rfl,if_pos hi]
def cM{α:Type}{l:List α}{i j:Nat}{a:α}(hi:j≠i):(l.set i a)[j]?=l[j]?:=by rw[PR (λy=>hi y.symm)]
def gj{n:Addr}(p:Oc X ns n):Oc X (ns.set i none) n:=⟨p.1,λz=>by
 rcases List.mem_or_eq_of_mem_set z with z |z
 .exact p.2 z
 .cases z⟩
def Sat.putN(S:Sat K mg X N0 ns e σ H)(hi:i<e.length)(q:SlR K mg (Oc X (ns.set i none)) N0 (some none) (some d) H s):Sat K mg X N0 (ns.set i none) (e.set i s) (σ.set i d) H:=by
 have hn:i<ns.length:=by rw[S.l2];exact hi
 have ha:i<σ.length:=by rw[S.l1];exact hi
 refine⟨by rw[NK,NK];exact S.l1,by rw[NK,NK];exact S.l2,S.lh,S.xl,λj k n q1 q2=>?_,λj n q1=>?_,λj s' q1=>?_,S.bs⟩
 .rcases bL hn q1 with ⟨_,z⟩ |⟨_,z⟩
  .cases z
  rcases bL hn q2 with ⟨_,y⟩ |⟨_,y⟩
  .cases y
  exact S.inj j k n z y
 .rcases bL hn q1 with ⟨_,z⟩ |⟨_,z⟩
  .cases z
  exact S.nx j n z
 .rcases bL hi q1 with ⟨rfl,rfl⟩ |⟨z,q2⟩
  .rw[dB hn,dB ha];exact q
  .rw[cM z,cM z];exact (S.sl j s' q2).mono (.of λn p=>gj p) λ_ _ _ q _=>q
def Sat.putN'(S:Sat K mg X N0 ns e σ H)(hi:i<e.length)(q:SlR K mg (Oc X (ns.set i none)) N0 (some none) (σ[i]?) H s):Sat K mg X N0 (ns.set i none) (e.set i s) σ H:=by
 have ha:i<σ.length:=by rw[S.l1];exact hi
 have:=S.putN hi (s:=s) (d:=σ[i]) (by rw[B_ ha] at q;exact q)
 rw[List.set_getElem_self] at this;exact this
def Sat.putO(S:Sat K mg (Xn X n) N0 ns e σ H)(hx:¬ X n)(hi:i<e.length)(hn0:N0 n)(eo:H n=some o)(hf:NotFz o)(r:Rc K mg (Oc (Xn X n) ns) H o v):Sat K mg X N0 (ns.set i (some n)) (e.set i (.ow v)) (σ.set i (some (.ref n))) H:=by
 have hn:i<ns.length:=by rw[S.l2];exact hi
 have ha:i<σ.length:=by rw[S.l1];exact hi
 have nn:∀j:Nat,ns[j]?≠some (some n):=λj q=>S.nx j n q (.inr rfl);have mv:Mov (Oc (Xn X n) ns) (Oc X (ns.set i (some n))) H H:=.of λm p=>⟨λz=>p.1 (.inl z),λz=>by
  rcases List.mem_or_eq_of_mem_set z with z |z
  .exact p.2 z
  .cases z;exact p.1 (.inr rfl)⟩
 refine⟨by rw[NK,NK];exact S.l1,by rw[NK,NK];exact S.l2,S.lh,λm z=>S.xl m (.inl z),λj k m q1 q2=>?_,λj m q1 z=>?_,λj s' q1=>?_,S.bs⟩
 .rcases bL hn q1 with ⟨z1,z⟩ |⟨z1,z⟩ <;> rcases bL hn q2 with ⟨y1,y⟩ |⟨y1,y⟩
  .rw[z1,y1]
  .cases z;exact absurd y (nn k)
  .cases y;exact absurd z (nn j)
  .exact S.inj j k m z y
 .rcases bL hn q1 with ⟨_,y⟩ |⟨_,y⟩
  .cases y;exact hx z
  .exact S.nx j m y (.inl z)
 .rcases bL hi q1 with ⟨rfl,rfl⟩ |⟨z,q2⟩
  .rw[dB hn,dB ha];exact⟨n,o,rfl,rfl,hn0,eo,hf,r.mono mv⟩
  .rw[cM z,cM z];exact (S.sl j s' q2).mono mv λ_ _ _ q _=>q
noncomputable def Sl.pl:Sl->Bool
 |.no=>true
 |.sh _=>true
 |.ow _=>true
 |_=>false
def Stp.put(A:Stp ns0 e0 Hs ns e H)(hi:i<e.length)(hx:∀n,x=some n->Hs n=none)(q0:e[i]?=some s0)(p0:s0.pl=true)(p:s.pl=true)(l2:ns.length=e.length):Stp ns0 e0 Hs (ns.set i x) (e.set i s) H:=by
 have hn:i<ns.length:=by rw[l2];exact hi
 refine⟨A.le,A.dom,A.keep,λj n q=>?_,λj s' q hl=>?_,λj s' q hl=>?_,λj v q=>?_,λj v q=>?_⟩
 .rcases bL hn q with ⟨_,z⟩ |⟨_,z⟩
  .exact .inr (hx n z.symm)
  .exact A.nw j n z
 .obtain⟨q1,q2⟩:=A.lk j s' q hl;have z:j≠i:=λz=>by subst z;rw[q0] at q1;cases q1;cases s0 <;> first |cases p0;done |cases hl;done
  rw[cM z,cM z];exact⟨q1,q2⟩
 .rcases bL hi q with ⟨_,z⟩ |⟨z,q1⟩
  .subst z;cases s' <;> first |cases p;done |cases hl;done
  .rw[cM z];exact A.lk' j s' q1 hl
 .rcases bL hi q with ⟨_,z⟩ |⟨z,q1⟩
  .subst z;cases p
  .rw[cM z];exact A.mu j v q1
 .obtain⟨u,q1,q2⟩:=A.mu' j v q;have z:j≠i:=λz=>by subst z;rw[q0] at q1;cases q1;cases p0
  exact⟨u,by rw[cM z];exact q1,by rw[cM z];exact q2⟩
end
inductive Tm where
 |val (v:Val) |new (v:Val) |bor (i:Nat)
inductive R3(α:Type) where
 |ok (a:α) (e:E3) |exc (c:Str) (e:E3) |stuck
noncomputable def R3.bind {α β:Type} (r:R3 α) (f:α->E3->R3 β):R3 β:=match r with
 |.ok a e=>f a e
 |.exc c e=>.exc c e
 |.stuck=>.stuck
abbrev ME3:=E3->R3 Tm
abbrev MT3:=E3->R3 Bool
abbrev MA3:=E3->R3 (List Tm)
section
variable(K:W.Frag)(mg:Qd)
def PG3{α:Type}(X N0:Addr->Prop)(ns:Ns)(e:E3)(σ:St)(H:Hp)(E:XK)(k:α->E3->Ns->Hp->Prop):R3 α->Prop
 |.ok t e'=>∀H' ns',Stp ns e H ns' e' H'->Sat K mg X N0 ns' e' σ H'->k t e' ns' H'
 |.exc c e'=>∀H' ns' C,Stp ns e H ns' e' H'->Sat K mg X N0 ns' e' σ H'->mg c=some (.ref C)->E (.ref C) none H'
 |.stuck=>False
def relE(X N0 L:Addr->Prop)(σ:St)(ns:Ns)(e:E3)(H:Hp)(d:V):Tm->Prop
 |.val v=>Rd K mg (Oc X ns) H d v
 |.new v=>∃n o,d=.ref n/\L n/\¬ X n/\H n=some o/\NotFz o/\Sat K mg (Xn X n) N0 ns e σ H/\Rc K mg (Oc (Xn X n) ns) H o v
 |.bor i=>σ[i]?=some (some d)
inductive TsR(X:Addr->Prop)(ns:Ns)(σ:St)(H:Hp):List V->List Tm->Prop where
 |nil:TsR X ns σ H [] []
 |val {d:V}{v:Val}{ds:List V}{ts:List Tm} (r:Rd K mg (Oc X ns) H d v) (rr:TsR X ns σ H ds ts):TsR X ns σ H (d::ds) (.val v::ts)
 |bor {d:V}{i:Nat}{ds:List V}{ts:List Tm} (q:σ[i]?=some (some d)) (rr:TsR X ns σ H ds ts):TsR X ns σ H (d::ds) (.bor i::ts)
abbrev KE(X N0 L:Addr->Prop)(σ:St)(Q:VK):Tm->E3->Ns->Hp->Prop:=λt e' ns' H'=>∀v,relE K mg X N0 L σ ns' e' H' v t->Q v H'
abbrev KA(X:Addr->Prop)(σ:St)(Q:List V->Hp->Prop):List Tm->E3->Ns->Hp->Prop:=λts _ ns' H'=>∀vs,TsR K mg X ns' σ H' vs ts->Q vs H'
abbrev KT(Q:Bool->Hp->Prop):Bool->E3->Ns->Hp->Prop:=λb _ _ H'=>Q b H'
def rdE(ES:St->XK)(G:ME3):TE:=λσ H Q=>∃X N0 L ns e,Sat K mg X N0 ns e σ H/\(∀a,H a=none->L a)/\PG3 K mg X N0 ns e σ H (ES σ) (KE K mg X N0 L σ Q) (G e)
def rdT(ES:St->XK)(G:MT3):TT:=λσ H Q=>∃X N0 ns e,Sat K mg X N0 ns e σ H/\PG3 K mg X N0 ns e σ H (ES σ) (KT Q) (G e)
def rdA(ES:St->XK)(G:MA3):TA:=λσ H Q=>∃X N0 ns e,Sat K mg X N0 ns e σ H/\PG3 K mg X N0 ns e σ H (ES σ) (KA K mg X σ Q) (G e)
end
section
variable{K:W.Frag}{mg:Qd}{ES:St->XK}{σ:St}{H:Hp}{Z:Prop}
def rdE.el{G:ME3}(h:rdE K mg ES G σ H Q)(k:∀X N0 L ns e,Sat K mg X N0 ns e σ H->(∀a,H a=none->L a)->PG3 K mg X N0 ns e σ H (ES σ) (KE K mg X N0 L σ Q) (G e)->Z):Z:=by obtain⟨X,N0,L,ns,e,S,hl,p⟩:=h;exact k X N0 L ns e S hl p
def rdT.el{G:MT3}(h:rdT K mg ES G σ H Q)(k:∀X N0 ns e,Sat K mg X N0 ns e σ H->PG3 K mg X N0 ns e σ H (ES σ) (KT Q) (G e)->Z):Z:=by obtain⟨X,N0,ns,e,S,p⟩:=h;exact k X N0 ns e S p
def rdA.el{G:MA3}(h:rdA K mg ES G σ H Q)(k:∀X N0 ns e,Sat K mg X N0 ns e σ H->PG3 K mg X N0 ns e σ H (ES σ) (KA K mg X σ Q) (G e)->Z):Z:=by obtain⟨X,N0,ns,e,S,p⟩:=h;exact k X N0 ns e S p
end
noncomputable def rs (e:E3):Tm->Option Val
 |.val v=>some v
 |.new v=>some v
 |.bor i=>(e[i]?).bind Sl.val
noncomputable def Tm.drop:Tm->Tm
 |.new v=>.val v
 |t=>t
noncomputable def rss (e:E3):List Tm->Option (List Val)
 | []=>some []
 |t::ts=>match rs e t,rss e ts with
  |some v,some vs=>some (v::vs)
  |_,_=>none
section
variable{K:W.Frag}{mg:Qd}{X N0 L:Addr->Prop}{ns ns':Ns}{e e':E3}{σ:St}{H H':Hp}{E:XK}
def PG3.ret{α:Type}{k:α->E3->Ns->Hp->Prop}{t:α}(p:PG3 K mg X N0 ns e σ H E k (.ok t e))(S:Sat K mg X N0 ns e σ H):k t e ns H:=p H ns .refl S
def PG3.after{α:Type}{r:R3 α}{k:α->E3->Ns->Hp->Prop}(p:PG3 K mg X N0 ns e σ H E k r)(S:Sat K mg X N0 ns e σ H)(a:Stp ns e H ns' e' H'):PG3 K mg X N0 ns' e' σ H' E k r:=by
 cases r with
 |stuck=>exact p
 |exc c e2=>exact λH2 h_ C b S2 m=>p H2 h_ C (a.trans S b) S2 m
 |ok t2 e2=>exact λH2 h_ b S2=>p H2 h_ (a.trans S b) S2
def PG3.imp{α β:Type}{r:R3 α}{f:α->E3->R3 β}{k:β->E3->Ns->Hp->Prop}{k':α->E3->Ns->Hp->Prop}(p:PG3 K mg X N0 ns e σ H E k (r.bind f))(S:Sat K mg X N0 ns e σ H)
 (i:∀t e1 ns1 H1,Stp ns e H ns1 e1 H1->Sat K mg X N0 ns1 e1 σ H1->PG3 K mg X N0 ns1 e1 σ H1 E k (f t e1)->k' t e1 ns1 H1):PG3 K mg X N0 ns e σ H E k' r:=by
 cases r with
 |stuck=>exact p
 |exc c e'=>exact p
 |ok t e1=>intro H1 ns1 a S1;exact i t e1 ns1 H1 a S1 (PG3.after (show PG3 K mg X N0 ns e σ H E k (f t e1) from p) S a)
def TsR.stp(a:Stp ns e H ns' e' H')(r:TsR K mg X ns σ H ds ts):TsR K mg X ns' σ H' ds ts:=by
 induction r with
 |nil=>exact .nil
 |val r _ ih=>exact .val (r.mono a.mov) ih
 |bor q _ ih=>exact .bor q ih
def Sat.bor(S:Sat K mg X N0 ns e σ H){i:Nat}{d:V}{v:Val}(q:σ[i]?=some (some d))(r:(e[i]?).bind Sl.val=some v):ShR K mg (Oc X ns) H d v:=by
 cases z:e[i]? with
 |none=>rw[z] at r;cases r
 |
  some s=>
  rw[z] at r;have y:=S.sl i s z;rw[q] at y;have r':s.val=some v:=r;cases s with
  |no=>cases r'
  |sh u=>cases r';obtain⟨_,x,e1,e2⟩:=y;cases e1;exact .inl e2
  |ow u=>cases r';obtain⟨m,o,_,e2,_,e3,_,e4⟩:=y;cases e2;exact .inr ⟨m,o,rfl,e3,e4⟩
  |lo u=>cases r';obtain⟨m,o,_,e2,_,e3,_,e4⟩:=y;cases e2;exact .inr ⟨m,o,rfl,e3,e4⟩
  |mu u=>cases r';obtain⟨m,o,_,e2,e3,_,e4⟩:=y;cases e2;exact .inr ⟨m,o,rfl,e3,e4⟩
  |lm u=>cases r';obtain⟨m,o,_,e2,e3,_,e4⟩:=y;cases e2;exact .inr ⟨m,o,rfl,e3,e4⟩
def relE.new(r:relE K mg X N0 L σ ns e H d (.new v)):Rd K mg (Oc X ns) H d v:=by obtain⟨n,o,rfl,_,hx,eo,_,S,rc⟩:=r;exact .cell ⟨hx,λz=>by obtain⟨i,z⟩:=aT.mp z;exact S.nx i n z (.inr rfl)⟩ eo (rc.mono (.of λm p=>⟨λz=>p.1 (.inl z),p.2⟩))
def relE.sh{d:V}{t:Tm}{v:Val}(S:Sat K mg X N0 ns e σ H)(r:relE K mg X N0 L σ ns e H d t)(q:rs e t=some v):ShR K mg (Oc X ns) H d v:=by
 cases t with
 |val u=>cases q;exact .inl r
 |new u=>cases q;exact .inl r.new
 |bor i=>exact S.bor r q
def relE.drop(r:relE K mg X N0 L σ ns e H d t)(a:Stp ns e H ns' e' H'):relE K mg X N0 L σ ns' e' H' d t.drop:=by
 cases t with
 |val u=>exact Rd.mono a.mov r
 |new u=>exact Rd.mono a.mov r.new
 |bor i=>exact r
def TsR.sh{ds:List V}{ts:List Tm}{vs:List Val}(S:Sat K mg X N0 ns e σ H)(r:TsR K mg X ns σ H ds ts)(q:rss e ts=some vs):ShRs K mg (Oc X ns) H ds vs:=by
 induction r generalizing vs with
 |nil=>cases q;exact .nil
 |
  val r _ ih=>
  unfold rss at q;split at q
  .rename_i e1 e2;cases q;cases e1;exact .cons (.inl r) (ih e2)
  .cases q
 |
  bor q' _ ih=>
  unfold rss at q;split at q
  .rename_i e1 e2;cases q;exact .cons (S.bor q' e1) (ih e2)
  .cases q
end
inductive Bv where
 |val (v:Val) |new (v:Val) |stuck
noncomputable def Bv.at (b:Bv) (e:E3):R3 Tm:=match b with
 |.val v=>.ok (.val v) e
 |.new v=>.ok (.new v) e
 |.stuck=>.stuck
def BvP(K:W.Frag)(mg:Qd)(P:Addr->Prop)(H:Hp)(Q:VK):Bv->Prop
 |.val v=>∀H1 x,Gr H H1->Rd K mg P H1 x v->Q x H1
 |.new v=>∀H1 a o,Gr H H1->H1 a=none->NotFz o->Rc K mg P H1 o v->Q (.ref a) (upd H1 a o)
 |.stuck=>False
section
variable{K:W.Frag}{mg:Qd}{X N0 L:Addr->Prop}{ns:Ns}{e:E3}{σ:St}{H:Hp}{E:XK}{Q:VK}
def PG3.bv(p:PG3 K mg X N0 ns e σ H E (KE K mg X N0 L σ Q) (b.at e))(S:Sat K mg X N0 ns e σ H)(hl:∀a,H a=none->L a):BvP K mg (Oc X ns) H Q b:=by
 cases b with
 |stuck=>exact p
 |val v=>exact λH1 x g r=>p H1 ns (.gr g) (S.gr g) x r
 |
  new v=>
  intro H1 a o g ha hf r;have g2:Gr H (upd H1 a o):=λc u q=>Gr.upd ha c u (g c u q);have S':=S.grow g2 (g.none ha) bc;refine p _ ns (.gr g2) (S.gr g2) _ ⟨a,o,rfl,hl a (g.none ha),λz=>?_,bc,hf,S',r.mono ⟨(Gr.upd ha).le,λc u q z _=>⟨⟨λy=>?_,q.2⟩,Gr.upd ha c u z⟩⟩⟩
  .obtain⟨u,q⟩:=S.xl a z;rw[g.none ha] at q;cases q
  .rcases y with y |rfl
   .exact q.1 y
   .rw[ha] at z;cases z
end
section
variable(K:W.Frag)(mg:Qd)
def UnD(r:V->Hp->VK->Prop)(g:Val->Bv):Prop:=∀P H x v Q,ShR K mg P H x v->BvP K mg P H Q (g v)->r x H Q
def OpD(r:R2)(g:Val->Val->Bv):Prop:=∀P H x y v u Q,ShR K mg P H x v->ShR K mg P H y u->BvP K mg P H Q (g v u)->r x y H Q
def bW(r:List V->Hp->VK->Prop)(g:List Val->Bv):Prop:=∀P H xs vs Q,ShRs K mg P H xs vs->BvP K mg P H Q (g vs)->r xs H Q
end
noncomputable def eT (i:Nat) (e:E3):R3 Tm:=match e[i]? with
 |some (.sh v)=>.ok (.val v) e
 |some .no=>.stuck
 |some _=>.ok (.bor i) e
 |none=>.stuck
noncomputable def vC (v:Val) (e:E3):R3 Tm:=.ok (.val v) e
noncomputable def vUn (g:Val->Bv) (F:ME3) (e:E3):R3 Tm:=(F e).bind λt e1=>match rs e1 t with
 |some v=>(g v).at e1
 |none=>.stuck
noncomputable def vOp (g:Val->Val->Bv) (F G:ME3) (e:E3):R3 Tm:=(F e).bind λt1 e1=>(G e1).bind λt2 e2=>match rs e2 t1.drop,rs e2 t2 with
 |some v1,some v2=>(g v1 v2).at e2
 |_,_=>.stuck
noncomputable def oy (e:E3):R3 (List Tm):=.ok [] e
noncomputable def mK (F:ME3) (A:MA3) (e:E3):R3 (List Tm):=(F e).bind λt e1=>(A e1).bind λts e2=>.ok (t.drop::ts) e2
noncomputable def vFn (g:List Val->Bv) (A:MA3) (e:E3):R3 Tm:=(A e).bind λts e1=>match rss e1 ts with
 |some vs=>(g vs).at e1
 |none=>.stuck
noncomputable def dg (e:E3):Tm->Option (E3×Val)
 |.val v=>some (e,v)
 |.new v=>some (e,v)
 |.bor i=>match e[i]? with
  |some (.sh v)=>some (e,v)
  |some (.ow v)=>some (e.set i (.sh v),v)
  |_=>none
noncomputable def dem (e:E3):List Tm->Option (E3×List Val)
 | []=>some (e,[])
 |t::ts=>match dg e t with
  |some (e1,v)=>match dem e1 ts with
   |some (e2,vs)=>some (e2,v::vs)
   |none=>none
  |none=>none
noncomputable def vTup (A:MA3) (e:E3):R3 Tm:=(A e).bind λts e1=>match dem e1 ts with
 |some (e2,vs)=>if vs.length<=16777216 then .ok (.val (.tup vs)) e2 else .stuck
 |none=>.stuck
noncomputable def vLst (A:MA3) (e:E3):R3 Tm:=(A e).bind λts e1=>match dem e1 ts with
 |some (e2,vs)=>if vs.length<=16777216 then .ok (.new (.lst vs)) e2 else .stuck
 |none=>.stuck
noncomputable def bOf:Option Val->Option Bool
 |some (.bl b)=>some b
 |_=>none
noncomputable def vAnd (F G:ME3) (e:E3):R3 Tm:=(F e).bind λt e1=>match bOf (rs e1 t) with
 |some true=>G e1
 |some false=>.ok (.val (.bl false)) e1
 |none=>.stuck
noncomputable def vNot (F:ME3) (e:E3):R3 Tm:=(F e).bind λt e1=>match bOf (rs e1 t) with
 |some b=>.ok (.val (.bl (!b))) e1
 |none=>.stuck
noncomputable def cOf (F:ME3) (e:E3):R3 Bool:=(F e).bind λt e1=>match bOf (rs e1 t) with
 |some b=>.ok b e1
 |none=>.stuck
noncomputable def cAn (c d:MT3) (e:E3):R3 Bool:=(c e).bind λb e1=>if b=true then d e1 else .ok false e1
noncomputable def cO (c d:MT3) (e:E3):R3 Bool:=(c e).bind λb e1=>if b=true then .ok true e1 else d e1
noncomputable def cNo (c:MT3) (e:E3):R3 Bool:=(c e).bind λb e1=>.ok (!b) e1
noncomputable def cY (e:E3):R3 Bool:=.ok true e
noncomputable def oT:Val->Option Bool
 |.non=>some false
 |.bl b=>some b
 |.int i=>some (i != 0)
 |.tup xs=>some (!xs.isEmpty)
 |.lst xs=>some (!xs.isEmpty)
 |.kl xs=>some (!xs.isEmpty)
 |_=>none
noncomputable def cTr (F:ME3) (e:E3):R3 Bool:=(F e).bind λt e1=>match (rs e1 t).bind oT with
 |some b=>.ok b e1
 |none=>.stuck
section
variable{K:W.Frag}{mg:Qd}{X N0 L:Addr->Prop}{ns:Ns}{e:E3}{σ:St}{H:Hp}
def IV(S:Sat K mg X N0 ns e σ H)(q:e[i]?=some (.ow v)):∃n,σ[i]?=some (some (.ref n))/\Sat K mg X N0 (ns.set i none) (e.set i (.sh v)) σ H/\Stp ns e H (ns.set i none) (e.set i (.sh v)) H/\Rd K mg (Oc X (ns.set i none)) H (.ref n) v:=by
 obtain⟨n,o,q1,q2,_,q3,_,q4⟩:=S.sl i _ q;have hi:=(C_.mp q).1;have hn:i<ns.length:=by rw[S.l2];exact hi
 have r:Rd K mg (Oc X (ns.set i none)) H (.ref n) v:=.cell ⟨S.nx i n q1,λz=>by
  obtain⟨j,z⟩:=aT.mp z;rcases bL hn z with ⟨_,y⟩ |⟨y,z⟩
  .cases y
  .exact y (S.inj j i n z q1)⟩ q3 (q4.mono (.of λm p=>gj p))
 exact⟨n,q2,S.putN' hi ⟨rfl,_,q2,r⟩,Stp.refl.put (x:=none) hi (λ_ z=>by cases z) q rfl rfl S.l2,r⟩
def gg{d:V}{t:Tm}{v:Val}{e':E3}(S:Sat K mg X N0 ns e σ H)(r:relE K mg X N0 L σ ns e H d t)(q:dg e t=some (e',v)):∃ns',Sat K mg X N0 ns' e' σ H/\Stp ns e H ns' e' H/\Rd K mg (Oc X ns') H d v:=by
 cases t with
 |val u=>cases q;exact⟨ns,S,.refl,r⟩
 |new u=>cases q;exact⟨ns,S,.refl,r.new⟩
 |
  bor i=>
  unfold dg at q;dsimp only at q;have r':σ[i]?=some (some d):=r;split at q
  .rename_i u q1;cases q;obtain⟨_,x,e1,e2⟩:=S.sl i _ q1;rw[r'] at e1;cases e1;exact⟨ns,S,.refl,e2⟩
  .rename_i u q1;cases q;obtain⟨n,e1,S',a',e2⟩:=IV S q1;rw[r'] at e1;cases e1;exact⟨_,S',a',e2⟩
  .cases q
def i6:∀{ds:List V}{vs:List Val}{ns:Ns}{e e':E3},Sat K mg X N0 ns e σ H->TsR K mg X ns σ H ds ts->dem e ts=some (e',vs)->∃ns',Sat K mg X N0 ns' e' σ H/\Stp ns e H ns' e' H/\Rds K mg (Oc X ns') H ds vs:=by
 induction ts with
 |nil=>intro ds vs ns e e' S r q;cases r;cases q;exact⟨ns,S,.refl,.nil⟩
 |
  cons t ts ih=>
  intro ds vs ns e e' S r q;unfold dem at q;split at q
  .rename_i e1 v q1;split at q
   .rename_i e2 vs' q2;cases q;have hr:∃d ds',ds=d::ds'/\relE K mg X N0 X σ ns e H d t/\TsR K mg X ns σ H ds' ts:=by
     cases r with
     |val r rr=>exact⟨_,_,rfl,r,rr⟩
     |bor r rr=>exact⟨_,_,rfl,r,rr⟩
    obtain⟨d,ds',rfl,hr⟩:=hr;obtain⟨ns1,S1,a1,r1⟩:=gg S hr.1 q1;obtain⟨h_,S2,a2,r2⟩:=ih S1 (hr.2.stp a1) q2;exact⟨h_,S2,a1.trans S a2,.cons (r1.mono a2.mov) r2⟩
   .cases q
  .cases q
end
structure PEx where
 t:Nat
 G:ME3
structure PTs where
 t:Nat
 G:MT3
structure PAs where
 t:Nat
 G:MA3
structure PO2 where
 G:Val->Val->Bv
structure PU1 where
 G:Val->Bv
structure PBf where
 G:List Val->Bv
noncomputable def af (i:Nat):PEx:=⟨1,eT i⟩
noncomputable def ah (i:Int):PEx:=⟨2,vC (.int i)⟩
noncomputable def pBl (i:Bool):PEx:=⟨3,vC (.bl i)⟩
noncomputable def cG (i:Str):PEx:=⟨4,vC (.str i)⟩
noncomputable def Dl:PEx:=⟨5,vC .non⟩
noncomputable def pTy (i:String):PEx:=⟨6,vC (.ty i)⟩
noncomputable def xN (i:Str):PEx:=⟨7,vC (.glb i)⟩
noncomputable def mS (v:Val):PEx:=⟨8,vC v⟩
noncomputable def pUn (o:PU1) (a:PEx):PEx:=⟨9,vUn o.G a.G⟩
noncomputable def pOp (o:PO2) (a b:PEx):PEx:=⟨10,vOp o.G a.G b.G⟩
noncomputable def ag:PAs:=⟨1,oy⟩
noncomputable def aa (a:PEx) (r:PAs):PAs:=⟨2,mK a.G r.G⟩
noncomputable def pFn (o:PBf) (a:PAs):PEx:=⟨11,vFn o.G a.G⟩
noncomputable def ba (a:PAs):PEx:=⟨12,vTup a.G⟩
noncomputable def cU (a:PAs):PEx:=⟨13,vLst a.G⟩
noncomputable def jA (a b:PEx):PEx:=⟨14,vAnd a.G b.G⟩
noncomputable def CL (a:PEx):PEx:=⟨16,vNot a.G⟩
noncomputable def qOf (a:PEx):PTs:=⟨1,cOf a.G⟩
noncomputable def qTr (a:PEx):PTs:=⟨2,cTr a.G⟩
noncomputable def qAn (a b:PTs):PTs:=⟨3,cAn a.G b.G⟩
noncomputable def qO (a b:PTs):PTs:=⟨4,cO a.G b.G⟩
noncomputable def qNo (a:PTs):PTs:=⟨5,cNo a.G⟩
noncomputable def qY:PTs:=⟨6,cY⟩
section
variable(K:W.Frag)(mg:Qd)(X:Cx)(ES:St->XK)
structure DE(e:Expr)(F:PEx):Prop where
 ok:PE X e (rdE K mg ES F.G)
structure DT(e:Expr)(F:PTs):Prop where
 ok:PT X e (rdT K mg ES F.G)
structure DW(e:Expr)(F:PTs):Prop where
 ok:PW X e (rdT K mg ES F.G)
structure DA(es:List Expr)(F:PAs):Prop where
 ok:PA X es (rdA K mg ES F.G)
end
structure GC(K:W.Frag)(mg:Qd)(x:Str)(d:Val):Prop where
 ex:∃u v,mg x=some u/\RelV v u/\∀P H,Rd K mg P H v d
section
variable{K:W.Frag}{mg:Qd}{X:Cx}{ES:St->XK}{e a b:Expr}{es:List Expr}{F G p q:PEx}{A:PAs}{t u:PTs}{pos:Pos}{k:PO2}
def Ae(i:Nat){x:Str}(hN:X.N[i]?=some x:=by rfl)(hv:Vis X.env.scope x:=by first |exact Or.inl rfl |exact Or.inr (Or.inl rfl) |exact Or.inr (Or.inr rfl))(hd:(x==("__debug__" : Str))=false:=by decide)(n_:(x==("__classdict__" : Str))=false:=by decide):DE K mg X ES (.Name x pos) (af i):=
 ⟨PE.imp (JS hN hv hd n_) λσ H Q zz=>zz.el λY N0 L ns e S hl p=>by
  have p:PG3 K mg Y N0 ns e σ H (ES σ) (KE K mg Y N0 L σ Q) (eT i e):=p;unfold eT at p;split at p
  .rename_i v q;obtain⟨_,x,e1,r⟩:=S.sl i _ q;exact⟨x,e1,p.ret S x r⟩
  .exact p.elim
  .rename_i s h1 h2 q;have y:=S.sl i s q;have:∃x,σ[i]?=some (some x):=by
    cases s with
    |no=>exact absurd rfl h2
    |sh v=>exact absurd rfl (h1 v)
    |ow v=>obtain⟨m,_,_,y,_⟩:=y;exact⟨_,y⟩
    |lo v=>obtain⟨m,_,_,y,_⟩:=y;exact⟨_,y⟩
    |mu v=>obtain⟨m,_,_,y,_⟩:=y;exact⟨_,y⟩
    |lm v=>obtain⟨m,_,_,y,_⟩:=y;exact⟨_,y⟩
   obtain⟨x,e1⟩:=this;exact⟨x,e1,p.ret S x e1⟩
  .exact p.elim⟩
def lB{v:V}{d:Val}{tg:Nat}(hp:PE X e (tC v))(r:∀P H,Rd K mg P H v d):DE K mg X ES e ⟨tg,vC d⟩:=⟨PE.imp hp λσ H Q zz=>zz.el λY N0 L ns e S hl p=>PG3.ret p S v (r _ _)⟩
def H9:DE K mg X ES (.Constant (.int i) j pos) (ah i):=lB JC λ_ _=>.int i
def M0:DE K mg X ES (.Constant (.bool i) j pos) (pBl i):=lB M5 λ_ _=>.bl i
def GG:DE K mg X ES (.Constant .none j pos) Dl:=lB JK λ_ _=>.non
def Jb:DE K mg X ES (.Constant (.str x) j pos) (cG x):=lB JG λ_ _=>.str x
def Jc{x:Str}(hg:Gl X x)(ha:∃a,mg x=some (.ref a))(hm:X.mg=mg:=by rfl)(hd:(x==("__debug__" : Str))=false:=by decide):DE K mg X ES (.Name x pos) (xN x):=by subst hm;obtain⟨a,ha⟩:=ha;exact lB (vc hg ha (v:=.ref a) rfl hd) λ_ _=>.glb ha
def My{x:Str}{d:Val}(hg:Gl X x)(ha:GC K mg x d)(hm:X.mg=mg:=by rfl)(hd:(x==("__debug__" : Str))=false:=by decide):DE K mg X ES (.Name x pos) (mS d):=by subst hm;obtain⟨u,v,h1,h2,h3⟩:=ha.ex;exact lB (vc hg h1 h2 hd) h3
def LO{x:Str}{n:String}(hg:Gl X x)(hm:mg x=none)(hv:bootBuiltins x=some (.type n))(he:X.mg=mg:=by rfl)(hn:x ≠ "__name__":=by decide)(hd:(x==("__debug__" : Str))=false:=by decide):DE K mg X ES (.Name x pos) (pTy n):=by subst he;exact lB (Fw hg hm hv (v:=.ty n) rfl hn hd) λ_ _=>.ty n
def qF(hd:OpD K mg r k.G)(σ:St)(H:Hp)(Q:VK):rdE K mg ES (pOp k F G).G σ H Q->tOp r (rdE K mg ES F.G) (rdE K mg ES G.G) σ H Q:=λzz=>zz.el λY N0 L ns e S hl p=>
 ⟨Y,
  N0,L,ns,e,S,hl,PG3.imp p S λt1 e1 ns1 H1 a1 S1 p1 x r1=>⟨Y,N0,L,ns1,e1,S1,λa z=>hl a (a1.dom a z),PG3.imp p1 S1 λt2 e2 h_ H2 a2 S2 p2 y r2=>by
  try dsimp only at p2
  split at p2
  .rename_i v u q1 q2;exact hd _ _ _ _ _ _ _ ((r1.drop a2).sh S2 q1) (r2.sh S2 q2) (p2.bv S2 λa z=>hl a (a1.dom a (a2.dom a z)))
  .exact p2.elim⟩⟩
def Es(ho:OpR X (binaryOp op) r)(hd:OpD K mg r k.G)(ha:DE K mg X ES a p)(hb:DE K mg X ES b q):DE K mg X ES (.BinOp a op b pos) (pOp k p q):=⟨PE.imp (Mx ho ha.ok hb.ok) (qF hd)⟩
def LX(hr:IxR X r)(hd:OpD K mg r k.G)(ha:DE K mg X ES a p)(hb:DE K mg X ES b q)(hs:ve b:=by exact λ_ _=>rfl):DE K mg X ES (.Subscript a b pos) (pOp k p q):=⟨PE.imp (Mc hr ha.ok hb.ok hs) (qF hd)⟩
def IT(ho:OpR X (compareOp op) r)(hd:OpD K mg r k.G)(ha:DE K mg X ES a p)(hb:DE K mg X ES b q)(hm:behindInMarks op b=false:=by first |exact tM _ |with_unfolding_all rfl):DE K mg X ES (.Compare a [op] [b] pos) (pOp k p q):=⟨PE.imp (Gu ho ha.ok hb.ok hm) (qF hd)⟩
def mD{Y N0 L:Addr->Prop}{b:Bool}(S1:Sat K mg Y N0 ns1 e1 σ H1)(r1:relE K mg Y N0 L σ ns1 e1 H1 d1 t1)(q:bOf (rs e1 t1)=some b):d1=.bl b:=by
 unfold bOf at q;split at q
 .rename_i b' q';cases q;exact (r1.sh S1 q').bl
 .cases q
def vH(σ:St)(H:Hp)(Q:Bool->Hp->Prop):rdT K mg ES (qOf F).G σ H Q->rdE K mg ES F.G σ H λx H'=>∃k,x=.bl k/\Q k H':=λzz=>zz.el λY N0 ns e S p=>
 ⟨Y,
  N0,λ_=>True,ns,e,S,λ_ _=>trivial,PG3.imp p S λt1 e1 ns1 H1 a1 S1 p1 x r1=>by
  try dsimp only at p1
  split at p1
  .rename_i b q;exact⟨b,mD S1 r1 q,p1.ret S1⟩
  .exact p1.elim⟩
def zd(ho:OpR X (compareOp op) r)(hd:OpD K mg r k.G)(ha:DE K mg X ES a p)(hb:DE K mg X ES b q)(hm:behindInMarks op b=false:=by first |exact tM _ |with_unfolding_all rfl):DT K mg X ES (.Compare a [op] [b] pos) (qOf (pOp k p q)):=
 ⟨PT.imp (F6 ho ha.ok hb.ok hm) λσ H Q z=>qF hd σ H _ (vH σ H Q z)⟩
def uw(ha:DE K mg X ES a p)(he:∀e_,isTrue a X.env e_=(do let v <- e_;standAt a.pos;holding [v] (truthy v)):=by intro _;rfl):DT K mg X ES a (qOf p):=⟨PT.imp (Jt ha.ok he) λσ H Q z=>vH σ H Q z⟩
def rW(ha:DT K mg X ES a t):DT K mg X ES (.UnaryOp .Not a pos) (qNo t):=⟨PT.imp (Ja ha.ok) λσ H Q zz=>zz.el λY N0 ns e S p=>⟨Y,N0,ns,e,S,PG3.imp p S λb e1 ns1 H1 a1 S1 p1=>p1.ret S1⟩⟩
def F8(ha:DT K mg X ES a t):DW K mg X ES (.BoolOp .And [a] pos) t:=⟨FT ha.ok⟩
def Ii(ha:DT K mg X ES a t):DW K mg X ES (.BoolOp .Or [a] pos) t:=⟨JB ha.ok⟩
def Ky(ha:DT K mg X ES a t)(hb:DW K mg X ES (.BoolOp .And (b::es) pos) u):DW K mg X ES (.BoolOp .And (a::b::es) pos) (qAn t u):=⟨PW.imp (Hv ha.ok hb.ok) λσ H Q zz=>zz.el λY N0 ns e S p=>
 ⟨Y,N0,ns,e,S,PG3.imp p S λb e1 ns1 H1 a1 S1 p1=>by
  cases b with
  |true=>exact⟨Y,N0,ns1,e1,S1,p1⟩
  |false=>exact p1.ret S1⟩⟩
def MZ(ha:DT K mg X ES a t)(hb:DW K mg X ES (.BoolOp .Or (b::es) pos) u):DW K mg X ES (.BoolOp .Or (a::b::es) pos) (qO t u):=⟨PW.imp (Lh ha.ok hb.ok) λσ H Q zz=>zz.el λY N0 ns e S p=>
 ⟨Y,N0,ns,e,S,PG3.imp p S λb e1 ns1 H1 a1 S1 p1=>by
  cases b with
  |true=>exact p1.ret S1
  |false=>exact⟨Y,N0,ns1,e1,S1,p1⟩⟩⟩
def ZW.dt(h:DW K mg X ES a t):DT K mg X ES a t:=⟨h.ok.pt⟩
def zt_w{op}(h:DW K mg X ES (.BoolOp op es pos) t):DT K mg X ES (.BoolOp op es pos) t:=ZW.dt h
def Hi{op}(h:DE K mg X ES a p):DE K mg X ES (.BoolOp op [a] pos) p:=⟨Ih h.ok⟩
def Hz(ha:DE K mg X ES a p)(hb:DE K mg X ES (.BoolOp .And (b::es) pos) q):DE K mg X ES (.BoolOp .And (a::b::es) pos) (jA p q):=⟨PE.imp (HK ha.ok hb.ok) λσ H Q zz=>zz.el λY N0 L ns e S hl p=>
 ⟨Y,N0,L,ns,e,S,hl,PG3.imp p S λt e1 ns1 H1 a1 S1 p1 x r1=>by
  try dsimp only at p1
  split at p1
  .rename_i z;exact⟨true,mD S1 r1 z,Y,N0,L,ns1,e1,S1,λa z=>hl a (a1.dom a z),p1⟩
  .rename_i z;exact⟨false,mD S1 r1 z,p1.ret S1 _ (.bl false)⟩
  .exact p1.elim⟩⟩
def GH(ha:DE K mg X ES a p):DE K mg X ES (.UnaryOp .Not a pos) (CL p):=⟨PE.imp (J3 ha.ok) λσ H Q zz=>zz.el λY N0 L ns e S hl p=>
 ⟨Y,N0,L,ns,e,S,hl,PG3.imp p S λt e1 ns1 H1 a1 S1 p1 x r1=>by
  try dsimp only at p1
  split at p1
  .rename_i z;exact⟨_,mD S1 r1 z,p1.ret S1 _ (.bl _)⟩
  .exact p1.elim⟩⟩
def M8{k:PU1}(ho:UnR X (unaryOp op) r)(hd:UnD K mg r k.G)(ha:DE K mg X ES a p):DE K mg X ES (.UnaryOp op a pos) (pUn k p):=⟨PE.imp (M1 ho ha.ok) λσ H Q zz=>zz.el λY N0 L ns e S hl p=>
 ⟨Y,N0,L,ns,e,S,hl,PG3.imp p S λt e1 ns1 H1 a1 S1 p1 x r1=>by
  try dsimp only at p1
  split at p1
  .rename_i v z;exact hd _ _ _ _ _ (r1.sh S1 z) (p1.bv S1 λa z=>hl a (a1.dom a z))
  .exact p1.elim⟩⟩
def Ap:DA K mg X ES [] ag:=⟨PA.imp JZ λσ H Q zz=>zz.el λY N0 ns e S p=>PG3.ret p S _ .nil⟩
def br(ha:DE K mg X ES e p)(hr:DA K mg X ES es A)(hs:starEach (e::es) X.env=(false,eval e X.env)::starEach es X.env:=by rfl):DA K mg X ES (e::es) (aa p A):=⟨PA.imp (Gw ha.ok hr.ok hs) λσ H Q zz=>zz.el λY N0 ns e S p=>
 ⟨Y,N0,λ_=>True,ns,e,S,λ_ _=>trivial,PG3.imp p S λt e1 ns1 H1 a1 S1 p1 x r1=>⟨Y,N0,ns1,e1,S1,PG3.imp p1 S1 λts e2 h_ H2 a2 S2 p2 xs r2=>p2.ret S2 _ (by
  have r3:=r1.drop a2;generalize hg:t.drop=t' at *;cases t' with
  |val v=>exact .val r3 r2
  |new v=>cases t <;> cases hg
  |bor i=>exact .bor r3 r2)⟩⟩⟩
def J9{x1}(h:DA K mg X ES es A):DE K mg X ES (.Tuple es x1 pos) (ba A):=⟨PE.imp (Kl h.ok) λσ H Q zz=>zz.el λY N0 L ns e S hl p=>
 ⟨Y,
  N0,ns,e,S,PG3.imp p S λts e1 ns1 H1 a1 S1 p1 xs r1=>by
  try dsimp only at p1
  split at p1
  .rename_i e2 vs q;split at p1
   .rename_i hv;obtain⟨h_,S2,a2,r2⟩:=i6 S1 r1 q;exact⟨by rw[r2.len];exact hv,λp hp=>p1 _ h_ (a2.trans S1 (.gr (Gr.upd hp))) (S2.gr (Gr.upd hp)) _ (.tup (SqT.of bc) (r2.mono (Gr.upd hp).mov))⟩
   .exact p1.elim
  .exact p1.elim⟩⟩
def Ig(h:DA K mg X ES es A):DE K mg X ES (.List es pos) (cU A):=⟨PE.imp (Kg h.ok) λσ H Q zz=>zz.el λY N0 L ns e S hl p=>
 ⟨Y,
  N0,ns,e,S,PG3.imp p S λts e1 ns1 H1 a1 S1 p1 xs r1=>by
  try dsimp only at p1
  split at p1
  .rename_i e2 vs q;split at p1
   .rename_i hv;obtain⟨h_,S2,a2,r2⟩:=i6 S1 r1 q;refine⟨by rw[r2.len];exact hv,λp hp=>PG3.bv (b:=.new (.lst vs)) (e:=e2) (X:=Y) (N0:=N0) (L:=L) (E:=ES σ) (λH' ns' a' S'=>p1 H' ns' (a2.trans S1 a') S') S2 (λa z=>hl a (a1.dom a z)) H1 p _ .refl hp trivial (.lst r2)⟩
   .exact p1.elim
  .exact p1.elim⟩⟩
def mI{g:PBf}(hd:bW K mg r g.G)(σ:St)(H:Hp)(Q:VK):rdE K mg ES (pFn g A).G σ H Q->tCB r (rdA K mg ES A.G) σ H Q:=λzz=>zz.el λY N0 L ns e S hl p=>
 ⟨Y,
  N0,ns,e,S,PG3.imp p S λts e1 ns1 H1 a1 S1 p1 xs r1=>by
  try dsimp only at p1
  split at p1
  .rename_i vs q;exact hd _ _ _ _ _ (r1.sh S1 q) (p1.bv S1 λa z=>hl a (a1.dom a z))
  .exact p1.elim⟩
def hZ{id:String}{r:List V->Hp->VK->Prop}{k:PBf}{x:Str}{p0:Pos}(hc:CallR X (.builtin id) r)(hd:bW K mg r k.G)(hg:Gl X x)(hm:mg x=none)(hv:bootBuiltins x=some (.builtin id))(ha:DA K mg X ES (e::es) A)(hk:X.mg=mg:=by rfl)(hn:x ≠ "__name__":=by decide)(hdb:(x==("__debug__" : Str))=false:=by decide)
 (he:starEach (e::es) X.env=(false,eval e X.env)::starEach es X.env:=by rfl) (hpl:(backTo pos (starEach es X.env)).any (·.1)=false:=by rfl):DE K mg X ES (.Call (.Name x p0) (e::es) [] pos) (pFn k A):=by
 subst hk;exact⟨PE.imp (DF hc hg hm hv ha.ok hn hdb he hpl) (mI hd)⟩
def zF{id:String}{r:List V->Hp->VK->Prop}{k:PBf}{x:Str}{p0:Pos}(hc:CallR X (.type id) r)(hd:bW K mg r k.G)(hg:Gl X x)(hm:mg x=none)(hv:bootBuiltins x=some (.type id))(ha:DA K mg X ES (e::es) A)(hk:X.mg=mg:=by rfl)(hn:x ≠ "__name__":=by decide)(hdb:(x==("__debug__" : Str))=false:=by decide)
 (he:starEach (e::es) X.env=(false,eval e X.env)::starEach es X.env:=by rfl) (hpl:(backTo pos (starEach es X.env)).any (·.1)=false:=by rfl):DE K mg X ES (.Call (.Name x p0) (e::es) [] pos) (pFn k A):=by
 subst hk;exact⟨PE.imp (zb hc hg hm hv ha.ok hn hdb he hpl) (mI hd)⟩
end
inductive Rt where
 |val (v:Val) |new (v:Val) |par (i:Nat) |pr (v u:Val)
inductive SR3 where
 |nx (e:E3) |rt (r:Rt) (e:E3) |bk (e:E3) |ct (e:E3) |exc (c:Str) (e:E3) |stuck
abbrev MS3:=E3->SR3
section
variable(K:W.Frag)(mg:Qd)
def RtR(X N0:Addr->Prop)(ns:Ns)(e:E3)(σ:St)(H:Hp)(d:V):Rt->Prop
 |.val v=>Sat K mg X N0 ns e σ H/\Rd K mg (Oc X ns) H d v
 |.new v=>∃n o,d=.ref n/\N0 n/\¬ X n/\H n=some o/\NotFz o/\Sat K mg (Xn X n) N0 ns e σ H/\Rc K mg (Oc (Xn X n) ns) H o v
 |.par i=>Sat K mg X N0 ns e σ H/\σ[i]?=some (some d)/\∃v,e[i]?=some (.mu v)
 |.pr v u=>∃p d1 n o,d=.ref p/\SqT K H p [d1,.ref n]/\N0 n/\¬ X n/\H n=some o/\NotFz o/\Sat K mg (Xn X n) N0 ns e σ H/\Rd K mg (Oc (Xn X n) ns) H d1 v/\Rc K mg (Oc (Xn X n) ns) H o u
def PS3(X N0:Addr->Prop)(ns:Ns)(e:E3)(H:Hp)(D:Ends)(ES:St->XK):SR3->Prop
 |.nx e'=>∀H' σ' ns',Stp ns e H ns' e' H'->Sat K mg X N0 ns' e' σ' H'->D.nx σ' H'
 |.bk e'=>∀H' σ' ns',Stp ns e H ns' e' H'->Sat K mg X N0 ns' e' σ' H'->D.bk σ' H'
 |.ct e'=>∀H' σ' ns',Stp ns e H ns' e' H'->Sat K mg X N0 ns' e' σ' H'->D.ct σ' H'
 |.rt r e'=>∀H' σ' ns' x,Stp ns e H ns' e' H'->RtR K mg X N0 ns' e' σ' H' x r->D.rt x H'
 |.exc c e'=>∀H' σ' ns' C,Stp ns e H ns' e' H'->Sat K mg X N0 ns' e' σ' H'->mg c=some (.ref C)->ES σ' (.ref C) none H'
 |.stuck=>False
def rdS(ES:St->XK)(G:MS3):TS:=λD σ H=>∃X N0 ns e,Sat K mg X N0 ns e σ H/\PS3 K mg X N0 ns e H D ES (G e)
end
def rdS.el{K:W.Frag}{mg:Qd}{ES:St->XK}{σ:St}{H:Hp}{Z:Prop}{G:MS3}{D:Ends}(h:rdS K mg ES G D σ H)(k:∀X N0 ns e,Sat K mg X N0 ns e σ H->PS3 K mg X N0 ns e H D ES (G e)->Z):Z:=by obtain⟨X,N0,ns,e,S,p⟩:=h;exact k X N0 ns e S p
noncomputable def R3.toS {α:Type} (r:R3 α) (f:α->E3->SR3):SR3:=match r with
 |.ok a e=>f a e
 |.exc c e=>.exc c e
 |.stuck=>.stuck
noncomputable def SR3.then (r:SR3) (f:E3->SR3):SR3:=match r with
 |.nx e=>f e
 |r=>r
noncomputable def wSeq (F G:MS3) (e:E3):SR3:=(F e).then G
noncomputable def wIf (c:MT3) (F G:MS3) (e:E3):SR3:=(c e).toS λb e1=>if b=true then F e1 else G e1
noncomputable def nU (t:Tm) (e:E3):SR3:=match t with
 |.val v=>.rt (.val v) e
 |.new v=>.rt (.new v) e
 |.bor i=>match e[i]? with
  |some (.sh v)=>.rt (.val v) e
  |some (.ow v)=>.rt (.new v) (e.set i .no)
  |some (.mu _)=>.rt (.par i) e
  |_=>.stuck
noncomputable def jq (o:Bool) (i:Nat) (t:Tm) (e:E3):SR3:=match e[i]? with
 |some s0=>if s0.pl=true then (match t with
  |.val v=>.nx (e.set i (.sh v))
  |.new v=>.nx (e.set i (if o=true then .ow v else .sh v))
  |.bor j=>match dg e (.bor j) with
   |some (e2,v)=>.nx (e2.set i (.sh v))
   |none=>.stuck) else .stuck
 |none=>.stuck
abbrev MG3:=Val->E3->Option E3
abbrev j4:=List Val->E3->Option E3
noncomputable def pN (i:Nat):MG3:=λv e=>match e[i]? with
 |some s=>if s.pl=true then some (e.set i (.sh v)) else none
 |none=>none
noncomputable def psN:j4:=λvs e=>match vs with
 | []=>some e
 |_=>none
noncomputable def psC (g:MG3) (u:j4):j4:=λvs e=>match vs with
 |v::r=>(g v e).bind λe1=>u r e1
 | []=>none
noncomputable def pT (n:Nat) (u:j4):MG3:=λv e=>match v with
 |.tup vs=>if vs.length=n then u vs e else none
 |_=>none
noncomputable def M4 (F:ME3) (g:MG3) (e:E3):SR3:=(F e).toS λt e1=>match dg e1 t with
 |some (e2,v)=>match g v e2 with
  |some e3=>.nx e3
  |none=>.stuck
 |none=>.stuck
noncomputable def wPar (i j:Nat) (A:MA3) (e:E3):SR3:=(A e).toS λts e1=>match dem e1 ts with
 |some (e2,[v,u])=>match (pN i v e2).bind (pN j u) with
  |some e3=>.nx e3
  |none=>.stuck
 |_=>.stuck
noncomputable def Ck (i:Nat) (g:Val->Val->Bv) (F:ME3) (e:E3):SR3:=match e[i]? with
 |some (.sh x)=>(F e).toS λt e1=>match rs e1 t with
  |some y=>match g x y with
   |.val z=>match pN i z e1 with
    |some e2=>.nx e2
    |none=>.stuck
   |_=>.stuck
  |none=>.stuck
 |_=>.stuck
noncomputable def HD (c:Str) (A:MA3) (e:E3):SR3:=(A e).toS λts e1=>if ts.length<=16777216 then .exc c e1 else .stuck
structure PSt where
 t:Nat
 G:MS3
structure PGt where
 t:Nat
 G:MG3
structure PGs where
 t:Nat
 G:j4
noncomputable def xNx:PSt:=⟨1,.nx⟩
noncomputable def xBk:PSt:=⟨2,.bk⟩
noncomputable def xJ:PSt:=⟨4,.rt (.val .non)⟩
noncomputable def aq (a:PEx):PSt:=⟨5,λe=>(a.G e).toS nU⟩
noncomputable def aK (a:PEx):PSt:=⟨6,λe=>(a.G e).toS λ_ e1=>.nx e1⟩
noncomputable def aj (a b:PSt):PSt:=⟨7,wSeq a.G b.G⟩
noncomputable def xIf (c:PTs) (a b:PSt):PSt:=⟨8,wIf c.G a.G b.G⟩
noncomputable def aw (o:Bool) (i:Nat) (a:PEx):PSt:=⟨9,λe=>(a.G e).toS (jq o i)⟩
noncomputable def gtN (i:Nat):PGt:=⟨1,pN i⟩
noncomputable def dO:PGs:=⟨1,psN⟩
noncomputable def aV (a:PGt) (b:PGs):PGs:=⟨2,psC a.G b.G⟩
noncomputable def gtT (n:Nat) (a:PGs):PGt:=⟨2,pT n a.G⟩
noncomputable def kQ (a:PEx) (g:PGt):PSt:=⟨10,M4 a.G g.G⟩
noncomputable def fU (i j:Nat) (a:PAs):PSt:=⟨11,wPar i j a.G⟩
noncomputable def sX (i:Nat) (o:PO2) (a:PEx):PSt:=⟨12,Ck i o.G a.G⟩
noncomputable def fh (c:Str) (a:PAs):PSt:=⟨13,HD c a.G⟩
noncomputable def xNo:PSt:=⟨14,λ_=>.stuck⟩
section
variable{K:W.Frag}{mg:Qd}{X N0:Addr->Prop}{ns ns1:Ns}{e e1:E3}{σ:St}{H H1:Hp}{De:Ends}{ES:St->XK}
def PS3.after(p:PS3 K mg X N0 ns e H De ES r)(S:Sat K mg X N0 ns e σ H)(a:Stp ns e H ns1 e1 H1):PS3 K mg X N0 ns1 e1 H1 De ES r:=by
 cases r with
 |stuck=>exact p
 |nx e'=>exact λH' σ' ns' b S'=>p H' σ' ns' (a.trans S b) S'
 |bk e'=>exact λH' σ' ns' b S'=>p H' σ' ns' (a.trans S b) S'
 |ct e'=>exact λH' σ' ns' b S'=>p H' σ' ns' (a.trans S b) S'
 |exc c e'=>exact λH' σ' ns' C b S'=>p H' σ' ns' C (a.trans S b) S'
 |rt r e'=>exact λH' σ' ns' x b S'=>p H' σ' ns' x (a.trans S b) S'
def PS3.toS{α:Type}{r:R3 α}{f:α->E3->SR3}{k:α->E3->Ns->Hp->Prop}(p:PS3 K mg X N0 ns e H De ES (r.toS f))(S:Sat K mg X N0 ns e σ H)
 (i:∀t e1 ns1 H1,Stp ns e H ns1 e1 H1->Sat K mg X N0 ns1 e1 σ H1->PS3 K mg X N0 ns e H De ES (f t e1)->k t e1 ns1 H1):PG3 K mg X N0 ns e σ H (ES σ) k r:=by
 cases r with
 |stuck=>exact p
 |exc c e'=>exact λH' ns' C a S' m=>p H' σ ns' C a S' m
 |ok t e'=>exact λH' ns' a S'=>i t e' ns' H' a S' p
def PS3.then{r:SR3}{f:E3->SR3}{N:St->Hp->Prop}(p:PS3 K mg X N0 ns e H De ES (r.then f))(S:Sat K mg X N0 ns e σ H)
 (i:∀e1 ns1 σ1 H1,Stp ns e H ns1 e1 H1->Sat K mg X N0 ns1 e1 σ1 H1->PS3 K mg X N0 ns1 e1 H1 De ES (f e1)->N σ1 H1):PS3 K mg X N0 ns e H { De with nx:=N } ES r:=by
 cases r with
 |nx e'=>exact λH' σ' ns' a S'=>i e' ns' σ' H' a S' (PS3.after p S a)
 |stuck=>exact p
 |bk e'=>exact p
 |ct e'=>exact p
 |exc c e'=>exact p
 |rt r e'=>exact p
def PS3.nx(p:PS3 K mg X N0 ns e H De ES (.nx e))(S:Sat K mg X N0 ns e σ H):De.nx σ H:=p H σ ns .refl S
def nJ{d:V}{v:Val}{e':E3}(S:Sat K mg X N0 ns e σ H)(r:Rd K mg (Oc X ns) H d v)(q:pN i v e=some e'):Sat K mg X N0 (ns.set i none) e' (σ.set i (some d)) H/\Stp ns e H (ns.set i none) e' H:=by
 unfold pN at q;split at q
 .rename_i s q0;split at q
  .rename_i p0;cases q;have hi:=(C_.mp q0).1;exact⟨S.putN hi ⟨rfl,d,rfl,Rd.mono (.of λm p=>gj p) r⟩,Stp.refl.put (x:=none) (s:=.sh v) hi (λ_ z=>by cases z) q0 p0 rfl S.l2⟩
  .cases q
 .cases q
end
section
variable(K:W.Frag)(mg:Qd)(X:Cx)(ES:St->XK)
structure DS(st:Stmt)(F:PSt):Prop where
 ok:PS X st (rdS K mg ES F.G)
structure DSs(st:List Stmt)(F:PSt):Prop where
 ok:PSs X st (rdS K mg ES F.G)
def rdG(g:MG3):TG:=λv σ H Q=>∃Y N0 ns e u e',Sat K mg Y N0 ns e σ H/\Rd K mg (Oc Y ns) H v u/\g u e=some e'/\∀σ' ns',Stp ns e H ns' e' H->Sat K mg Y N0 ns' e' σ' H->Q σ' H
def rdGs(g:j4):TGs:=λvs σ H Q=>∃Y N0 ns e us e',Sat K mg Y N0 ns e σ H/\Rds K mg (Oc Y ns) H vs us/\g us e=some e'/\∀σ' ns',Stp ns e H ns' e' H->Sat K mg Y N0 ns' e' σ' H->Q σ' H
def rdG.el{K:W.Frag}{mg:Qd}{g:MG3}(h:rdG K mg g v σ H Q){Z:Prop}(k:∀Y N0 ns e u e',Sat K mg Y N0 ns e σ H->Rd K mg (Oc Y ns) H v u->g u e=some e'->(∀σ' ns',Stp ns e H ns' e' H->Sat K mg Y N0 ns' e' σ' H->Q σ' H)->Z):Z:=by obtain⟨Y,N0,ns,e,u,e',S,r,q,p⟩:=h;exact k Y N0 ns e u e' S r q p
def rdGs.el{K:W.Frag}{mg:Qd}{g:j4}(h:rdGs K mg g v σ H Q){Z:Prop}(k:∀Y N0 ns e us e',Sat K mg Y N0 ns e σ H->Rds K mg (Oc Y ns) H v us->g us e=some e'->(∀σ' ns',Stp ns e H ns' e' H->Sat K mg Y N0 ns' e' σ' H->Q σ' H)->Z):Z:=by obtain⟨Y,N0,ns,e,u,e',S,r,q,p⟩:=h;exact k Y N0 ns e u e' S r q p
structure DG(e:Expr)(g:PGt):Prop where
 ok:PG X e (rdG K mg g.G)
structure DGs(es:List Expr)(g:PGs):Prop where
 ok:L2.PGs X es (rdGs K mg g.G)
def mV:Prop:=∀(pins:Qe) (σ:St) (H:Hp) (s:Shared) (e:Value) (s':Shared),Inv X pins σ H s->CX1 X.prog X.w X.stack H s (ES σ) e s'->X.xe e s'
end
section
variable{K:W.Frag}{mg:Qd}{X:Cx}{ES:St->XK}{e a b c o i:Expr}{es:List Expr}{st:Stmt}{sts sts':List Stmt}{p q:PEx}{A:PAs}{t:PTs}{x y:PSt}{g:PGt}{gs:PGs}{pos:Pos}
def FC:DSs K mg X ES [] xNx:=⟨PSs.imp Fm λD σ H zz=>zz.el λY N0 ns e S p=>PS3.nx p S⟩
def du(h1:DS K mg X ES st x):DSs K mg X ES [st] x:=⟨EX h1.ok⟩
def ao(h1:DS K mg X ES st x)(h2:DSs K mg X ES sts y):DSs K mg X ES (st::sts) (aj x y):=⟨PSs.imp (B8 h1.ok h2.ok) λD σ H zz=>zz.el λY N0 ns e S p=>
 ⟨Y,N0,ns,e,S,PS3.then p S λe1 ns1 σ1 H1 a1 S1 p1=>⟨Y,N0,ns1,e1,S1,p1⟩⟩⟩
def Dr:DS K mg X ES (.Break pos) xBk:=⟨PS.imp Dy λD σ H zz=>zz.el λY N0 ns e S p=>p H σ ns .refl S⟩
def Gp:DS K mg X ES (.Return none pos) xJ:=⟨PS.imp EH λD σ H zz=>zz.el λY N0 ns e S p=>p H σ ns _ .refl ⟨S,.non⟩⟩
def Gq(he:DE K mg X ES e p)(hs:swapsWith e none pos.line X.env=pure false:=by rfl):DS K mg X ES (.Expr e pos) (aK p):=⟨PS.imp (Fb he.ok hs) λD σ H zz=>zz.el λY N0 ns e S p=>
 ⟨Y,N0,λ_=>True,ns,e,S,λ_ _=>trivial,PS3.toS p S λt e1 ns1 H1 a1 S1 p1 x r1=>p1 H1 σ ns1 a1 S1⟩⟩
def kD(hc:DT K mg X ES c t)(ha:DSs K mg X ES sts x)(hb:DSs K mg X ES sts' y):DS K mg X ES (.If c sts sts' pos) (xIf t x y):=⟨PS.imp (K9 hc.ok ha.ok hb.ok) λD σ H zz=>zz.el λY N0 ns e S p=>
 ⟨Y,N0,ns,e,S,PS3.toS p S λb e1 ns1 H1 a1 S1 p1=>by
  cases b with
  |true=>exact⟨Y,N0,ns1,e1,S1,PS3.after p1 S a1⟩
  |false=>exact⟨Y,N0,ns1,e1,S1,PS3.after p1 S a1⟩⟩⟩
def eX(he:DE K mg X ES e p):DS K mg X ES (.Return (some e) pos) (aq p):=⟨PS.imp (Iv he.ok) λD σ H zz=>zz.el λY N0 ns e S p=>
 ⟨Y,
  N0,N0,ns,e,S,S.lh,PS3.toS p S λt e1 ns1 H1 a1 S1 p1 x r1=>by
  cases t with
  |val v=>exact p1 H1 σ ns1 x a1 ⟨S1,r1⟩
  |new v=>exact p1 H1 σ ns1 x a1 r1
  |
   bor i=>
   have r':σ[i]?=some (some x):=r1;unfold nU at p1;try dsimp only at p1
   split at p1
   .rename_i v q;obtain⟨_,x',e1',e2⟩:=S1.sl i _ q;rw[r'] at e1';cases e1';exact p1 H1 σ ns1 x a1 ⟨S1,e2⟩
   .rename_i v q;obtain⟨n,o,q1,q2,q3,q4,q5,q6⟩:=S1.sl i _ q;rw[r'] at q2;cases q2;have hi:=(C_.mp q).1;have hn:i<ns1.length:=by rw[S1.l2];exact hi
    have mv:Mov (Oc Y ns1) (Oc (Xn Y n) (ns1.set i none)) H1 H1:=.of λm p=>⟨λz=>by
     rcases z with z |rfl
     .exact p.1 z
     .exact p.2 (aT.mpr ⟨i,q1⟩),(gj p).2⟩
    have S2:=S1.putN' hi (s:=.no) rfl;refine p1 H1 σ (ns1.set i none) _ (a1.put (x:=none) hi (λ_ z=>by cases z) q rfl rfl S1.l2) ⟨n,o,rfl,q3,S1.nx i n q1,q4,q5,⟨S2.l1,S2.l2,S2.lh,λm z=>?_,S2.inj,λj m qj z=>?_,λj s qj=>?_,S2.bs⟩,q6.mono mv⟩
    .rcases z with z |rfl
     .exact S2.xl m z
     .exact⟨_,q4⟩
    .rcases z with z |rfl
     .exact S2.nx j m qj z
     .rcases bL hn qj with ⟨_,y⟩ |⟨y,z⟩
      .cases y
      .exact y (S1.inj j i _ z q1)
    .rcases bL hi qj with ⟨rfl,rfl⟩ |⟨z,qj'⟩
     .rw[dB hn];rfl
     .rw[cM z];exact (S1.sl j s qj').mono mv λ_ _ _ q _=>q
   .rename_i v q;exact p1 H1 σ ns1 x a1 ⟨S1,r',v,q⟩
   .exact p1.elim⟩⟩
def A9{ow:Bool}{i:Nat}(D:Ends)(σ:St)(H:Hp):rdS K mg ES (aw ow i p).G D σ H->yp (rdE K mg ES p.G) (qr i) D σ H:=λzz=>zz.el λY N0 ns e S p=>
 ⟨Y,
  N0,λa=>H a=none,ns,e,S,λ_ z=>z,PS3.toS p S λt e1 ns1 H1 a1 S1 p1 d r1=>by
  unfold jq at p1;split at p1
  .rename_i s0 q0;split at p1
   .rename_i p0;have hi:=(C_.mp q0).1;cases t with
    |val v=>exact p1 H1 _ _ (a1.put (x:=none) (s:=.sh v) hi (λ_ z=>by cases z) q0 p0 rfl S1.l2) (S1.putN hi ⟨rfl,d,rfl,Rd.mono (.of λm p=>gj p) r1⟩)
    |
     new v=>
     cases ow with
     |true=>obtain⟨n,ob,rfl,q1,q2,q3,q4,q5,q6⟩:=r1;exact p1 H1 _ _ (a1.put (x:=some n) (s:=.ow v) hi (λm z=>by cases z;exact q1) q0 p0 rfl S1.l2) (Sat.putO q5 q2 hi (S.lh n q1) q3 q4 q6)
     |false=>exact p1 H1 _ _ (a1.put (x:=none) (s:=.sh v) hi (λ_ z=>by cases z) q0 p0 rfl S1.l2) (S1.putN hi ⟨rfl,d,rfl,Rd.mono (.of λm p=>gj p) r1.new⟩)
    |
     bor j=>
     try dsimp only at p1
     split at p1
     .rename_i e2 v q2;obtain⟨h_,S2,a2,r2⟩:=gg S1 r1 q2;have hq:∃s2,e2[i]?=some s2/\s2.pl=true:=by
       unfold dg at q2;dsimp only at q2;split at q2
       .cases q2;exact⟨s0,q0,p0⟩
       .rename_i u q3;cases q2;by_cases z:i=j
        .subst z;exact⟨_,dB hi,rfl⟩
        .exact⟨s0,by rw[cM z];exact q0,p0⟩
       .cases q2
      obtain⟨s2,hq1,hq2⟩:=hq;have hi2:=(C_.mp hq1).1;exact p1 H1 _ _ ((a1.trans S a2).put (x:=none) (s:=.sh v) hi2 (λ_ z=>by cases z) hq1 hq2 rfl S2.l2) (S2.putN hi2 ⟨rfl,d,rfl,Rd.mono (.of λm p=>gj p) r2⟩)
     .exact p1.elim
   .exact p1.elim
  .exact p1.elim⟩
def HU{ow:Bool}{i:Nat}{x:Str}{k_:Pos}(hN:X.N.Nodup)(hi:X.N[i]?=some x)(hx:Loc X.env.scope x)(he:DE K mg X ES e p)(hs:swapsWith e (some (.Name x k_)) pos.line X.env=pure false)(hf:X.fn x=true\/X.env.scope.names.lookup x=some .local):
 DS K mg X ES (.Assign [.Name x k_] e pos) (aw ow i p):=⟨PS.imp (J8 hN hi hx he.ok hs hf) A9⟩
def EG{i:Nat}{x:Str}(hN:X.N.Nodup)(hi:X.N[i]?=some x)(hx:Loc X.env.scope x)(hf:X.fn x=true\/X.env.scope.names.lookup x=some .local):DG K mg X (.Name x pos) (gtN i):=
 ⟨PG.imp (F2 hN hi hx hf) λv σ H Q zz=>zz.el λY N0 ns e u e' S r q k=>by obtain⟨S',a⟩:=nJ S r q;exact k _ _ a S'⟩
def EB:DGs K mg X [] dO:=⟨PGs.imp FV λvs σ H Q zz=>zz.el λY N0 ns e us e' S r q k=>by
 cases r with
 |nil=>cases q;exact⟨rfl,k _ _ .refl S⟩
 |cons _ _=>cases q⟩
def BJ(h1:DG K mg X e g)(h2:DGs K mg X es gs)(hs:(assignEach (e::es) X.env).map (·.2)=assign e X.env::(assignEach es X.env).map (·.2):=by rfl):DGs K mg X (e::es) (aV g gs):=
 ⟨PGs.imp (CN h1.ok h2.ok hs) λvs σ H Q zz=>zz.el λY N0 ns e us e' S r q k=>by
  cases r with
  |nil=>cases q
  |cons r rr=>obtain⟨e1,q1,q2⟩:=ND.mp q;exact⟨_,_,rfl,Y,N0,ns,e,_,e1,S,r,q1,λσ1 ns1 a1 S1=>⟨Y,N0,ns1,e1,_,e',S1,rr.mono a1.mov,q2,λσ2 h_ a2 S2=>k σ2 h_ (a1.trans S a2) S2⟩⟩⟩
def Iq(hK:X.K=K)(hc:X.calm=true)(h:DGs K mg X es gs)(hn:(assignEach es X.env).length=n:=by rfl)(hst:(assignEach es X.env).findIdx? (·.1)=none:=by rfl):DG K mg X (.Tuple es k pos) (gtT n gs):=by
 subst hK;exact
  ⟨PG.imp (zS hc h.ok hn hst) λv σ H Q zz=>zz.el λY N0 ns e u e' S r q k=>by
  have q:pT n gs.G u e=some e':=q;unfold pT at q;split at q
  .split at q
   .rename_i hl;obtain⟨a,vs,rfl,z,rr⟩:=ShR.tup (.inl r);exact⟨a,vs,rfl,z,by rw[rr.len];exact hl,Y,N0,ns,e,_,e',S,rr,q,k⟩
   .cases q
  .cases q⟩
def E7(he:DE K mg X ES e p)(hg:DG K mg X a g)(hs:swapsWithSole [a] e pos.line X.env=pure false:=by rfl)(hw:swappedStores [a] e X.env=pure none:=by rfl)(h1:(assignEach [a] X.env).map (·.2)=[assign a X.env]:=by rfl):DS K mg X ES (.Assign [a] e pos) (kQ p g):=
 ⟨PS.imp (AR he.ok hg.ok hs hw h1) λD σ H zz=>zz.el λY N0 ns e S p=>⟨Y,N0,λ_=>True,ns,e,S,λ_ _=>trivial,PS3.toS p S λt e1 ns1 H1 a1 S1 p1 x r1=>by
  try dsimp only at p1
  split at p1
  .rename_i e2 v q;obtain⟨h_,S2,a2,r2⟩:=gg S1 r1 q;split at p1
   .rename_i e3 q3;exact⟨Y,N0,h_,e2,v,e3,S2,r2,q3,λσ' ns' a3 S3=>p1 H1 σ' ns' ((a1.trans S a2).trans S a3) S3⟩
   .exact p1.elim
  .exact p1.elim⟩⟩
def GU{i j:Nat}{x y:Str}{px py pt:Pos}{kt k2 pt2}(hN:X.N.Nodup)(ha:DA K mg X ES [a,b] A)(hc:X.calm=true:=by rfl)(hi:X.N[i]?=some x:=by rfl)(hj:X.N[j]?=some y:=by rfl)(hij:i≠j:=by decide)(hx:X.env.scope.names.lookup x=some .local:=by rfl)(hy:X.env.scope.names.lookup y=some .local:=by rfl)(hw:swappedStores [.Tuple [.Name x px,.Name y py] kt pt] (.Tuple [a,b] k2 pt2) X.env=pure (some [x,y]):=by rfl)(hs:swapsWithSole [.Tuple [.Name x px,.Name y py] kt pt] (.Tuple [a,b] k2 pt2) pos.line X.env=pure false:=by rfl):DS K mg X ES (.Assign [.Tuple [.Name x px,.Name y py] kt pt] (.Tuple [a,b] k2 pt2) pos) (fU i j A):=
 ⟨PS.imp
  (IL hc hN hi hj hij hx hy ha.ok hw hs) λD σ H zz=>zz.el λY N0 ns e S p=>⟨Y,N0,ns,e,S,PS3.toS p S λts e1 ns1 H1 a1 S1 p1 xs r1=>by
  try dsimp only at p1
  split at p1
  .rename_i e2 v u q;obtain⟨h_,S2,a2,r2⟩:=i6 S1 r1 q;split at p1
   .rename_i e3 q3;obtain⟨e4,q4,q5⟩:=ND.mp q3;cases r2 with
    |
     cons r rr=>
     cases rr with
     |cons r' rr=>cases rr;obtain⟨S3,a3⟩:=nJ S2 r q4;obtain⟨S4,a4⟩:=nJ S3 (r'.mono a3.mov) q5;exact⟨_,_,rfl,p1 H1 _ _ (((a1.trans S a2).trans S a3).trans S a4) S4⟩
   .exact p1.elim
  .exact p1.elim⟩⟩
def IpD(K:W.Frag)(mg:Qd)(r:TIp)(g:Val->Val->Bv):Prop:=∀P H x y v u Q,ShR K mg P H x v->ShR K mg P H y u->BvP K mg P H Q (g v u)->r x y H Q
def KC{i:Nat}{x:Str}{op:Operator}{ti:TIp}{k_:Pos}{k:PO2}(hN:X.N.Nodup)(he:DE K mg X ES e p)(ho:PIp X op ti)(hd:IpD K mg ti k.G)(hi:X.N[i]?=some x:=by rfl)(hx:Loc X.env.scope x:=by first |exact Or.inl rfl |exact Or.inr rfl)(hf:X.fn x=true\/X.env.scope.names.lookup x=some .local:=by first |exact .inl rfl |exact .inr rfl |assumption):DS K mg X ES (.AugAssign (.Name x k_) op e pos) (sX i k p):=
 ⟨PS.imp
  (GO hN hi hx he.ok ho hf) λD σ H zz=>zz.el λY N0 ns e S p=>by
  have p:PS3 K mg Y N0 ns e H D ES (Ck i k.G _ e):=p;unfold Ck at p;split at p
  .rename_i v q0;obtain⟨_,dx,e1,r0⟩:=S.sl i _ q0;refine⟨dx,e1,Y,N0,λ_=>True,ns,e,S,λ_ _=>trivial,PS3.toS p S λt e1 ns1 H1 a1 S1 p1 y r1=>?_⟩;try dsimp only at p1
   split at p1
   .rename_i u q1;refine hd _ _ _ _ _ _ _ (.inl (r0.mono a1.mov)) (r1.sh S1 q1) ?_;split at p1
    .rename_i z q2;rw[q2];split at p1
     .rename_i e2 q3;intro H2 dz g2 r2;obtain⟨S3,a3⟩:=nJ (S1.gr g2) r2 q3;exact p1 H2 _ _ ((a1.trans S (.gr g2)).trans S a3) S3
     .exact p1.elim
    .exact p1.elim
   .exact p1.elim
  .exact p.elim⟩
def TsR.len{Y:Addr->Prop}(r:TsR K mg Y ns σ H ds ts):ds.length=ts.length:=by
 induction r with
 |nil=>rfl
 |val _ _ ih=>rw[D_,D_,ih]
 |bor _ _ ih=>rw[D_,D_,ih]
def Bj{x:Str}{C:Addr}{E:XK}{np cpos:Pos}(hc:X.calm=true)(hR:Rz X E)(hg:Gl X x)(hm:mg x=some (.ref C))(hq:W.excIn X.K C n9 "ValueError.__new__"=true)(ha:DA K mg X (λ_=>E) (e::es) A)(hk:X.mg=mg:=by rfl)(he:starEach (e::es) X.env=(false,eval e X.env)::starEach es X.env:=by rfl)(c_:(backTo cpos (starEach es X.env)).any (·.1)=false:=by rfl)(hd:(x==("__debug__" : Str))=false:=by decide):DS K mg X (λ_=>E) (.Raise (some (.Call (.Name x np) (e::es) [] cpos)) none pos) (fh x A):=by
 subst hk;exact⟨PS.imp (Cp hc hR hg hm hq ha.ok he c_ hd) λD σ H zz=>zz.el λY N0 ns e S p=>⟨Y,N0,ns,e,S,PS3.toS p S λts e1 ns1 H1 a1 S1 p1 xs r1=>by
  try dsimp only at p1
  split at p1
  .rename_i hl;exact⟨by rw[r1.len];exact hl,p1 H1 σ ns1 C a1 S1 hm⟩
  .exact p1.elim⟩⟩
end
noncomputable def Sl.re (s:Sl) (u:Val):Sl:=match s with
 |.ow _=>.ow u
 |.mu _=>.mu u
 |s=>s
noncomputable def Sl.mv:Sl->Option Val
 |.ow v=>some v
 |.mu v=>some v
 |_=>none
section
variable{K:W.Frag}{mg:Qd}{X N0:Addr->Prop}{ns:Ns}{e:E3}{σ:St}{H:Hp}
def Sat.write(S:Sat K mg X N0 ns e σ H)(q:e[i]?=some s)(hm:s.mv=some u):∃n o,σ[i]?=some (some (.ref n))/\ns[i]?=some (some n)/\H n=some o/\NotFz o/\Rc K mg (Oc X ns) H o u/\
 ∀o' u',NotFz o'->Rc K mg (Oc X ns) H o' u'->Mov (Oc X ns) (Oc X ns) H (upd H n o')/\Sat K mg X N0 ns (e.set i (s.re u')) σ (upd H n o')/\Stp ns e H ns (e.set i (s.re u')) (upd H n o'):=by
 have hi:=(C_.mp q).1;have key:∃n o,ns[i]?=some (some n)/\σ[i]?=some (some (.ref n))/\H n=some o/\NotFz o/\Rc K mg (Oc X ns) H o u/\s.mt=true/\(∀o' u',NotFz o'->Rc K mg (Oc X ns) (upd H n o') o' u'->SlR K mg (Oc X ns) N0 (some (some n)) (some (some (.ref n))) (upd H n o') (s.re u')):=by
  have y:=S.sl i s q;cases s with
  |ow v=>cases hm;obtain⟨n,o,q1,q2,q3,q4,q5,q6⟩:=y;exact⟨n,o,q1,q2,q4,q5,q6,rfl,λo' u' hf r=>⟨n,o',rfl,rfl,q3,bc,hf,r⟩⟩
  |mu v=>cases hm;obtain⟨n,o,q1,q2,q4,q5,q6⟩:=y;exact⟨n,o,q1,q2,q4,q5,q6,rfl,λo' u' hf r=>⟨n,o',rfl,rfl,bc,hf,r⟩⟩
  |_=>cases hm
 obtain⟨n,o,k1,k2,k3,k4,k5,k6,k7⟩:=key;refine⟨n,o,k2,k1,k3,k4,k5,λo' u' hf r=>?_⟩;have up:∀m,m≠n->upd H n o' m=H m:=λm z=>aB z;have mv:Mov (Oc X ns) (Oc X ns) H (upd H n o'):=⟨LeH.wr k3 k4,λm ob p q' _=>⟨p,by rw[up m λz=>p.2 (aT.mpr ⟨i,by rw[z];exact k1⟩)];exact q'⟩⟩;have dom:∀a,upd H n o' a=none->H a=none:=λa z=>by rw[up a λy=>by subst y;rw[bc] at z;cases z] at z;exact z
 refine⟨mv,⟨by rw[NK];exact S.l1,by rw[NK];exact S.l2,λa z=>S.lh a (dom a z),λm z=>?_,S.inj,S.nx,λj s' qj=>?_,S.bs.wr k3 k4⟩,?_⟩
 .by_cases y:m=n
  .subst y;exact⟨o',bc⟩
  .rw[up m y];exact S.xl m z
 .rcases bL hi qj with ⟨rfl,rfl⟩ |⟨z,qj'⟩
  .rw[k1,k2];exact k7 o' u' hf (r.mono mv)
  .refine (S.sl j s' qj').mono mv λm ob qm qo _=>?_;rw[up m λy=>by subst y;exact z (S.inj j i m qm k1)];exact qo
 .refine⟨mv.le,dom,λm ob qm _ hM=>?_,λ_ _ q=>.inl q,λj s' qj hl=>?_,λj s' qj hl=>?_,λj v qj=>?_,λj v qj=>?_⟩
  .rw[up m λy=>by subst y;exact hM ⟨i,s,k1,q,k6⟩];exact qm
  .have z:j≠i:=λz=>by subst z;rw[q] at qj;cases qj;cases s <;> first |cases hl;done |cases k6;done
   rw[cM z];exact⟨qj,rfl⟩
  .rcases bL hi qj with ⟨_,y⟩ |⟨z,qj'⟩
   .subst y;cases s <;> first |cases hl;done |cases k6;done
   .exact⟨qj',rfl⟩
  .rcases bL hi qj with ⟨rfl,y⟩ |⟨z,qj'⟩
   .cases s with
    |mu w=>exact⟨w,q,rfl⟩
    |ow w=>cases y
    |_=>cases k6
   .exact⟨v,qj',rfl⟩
  .by_cases z:j=i
   .subst z;rw[q] at qj;cases qj;exact⟨u',dB hi,rfl⟩
   .exact⟨v,by rw[cM z];exact qj,rfl⟩
end
noncomputable def wSet (i:Nat) (G:ME3) (F:ME3) (w:Val->Val->Val->Option Val) (e:E3):SR3:=(F e).toS λt e1=>match (e1[i]?).bind Sl.mv with
 |none=>.stuck
 |some _=>(G e1).toS λt2 e2=>match rs e2 t2 with
  |none=>.stuck
  |some vi=>match dg e2 t.drop with
   |none=>.stuck
   |some (e3,v)=>match e3[i]? with
    |none=>.stuck
    |some s=>match s.mv with
     |none=>.stuck
     |some u=>match w u vi v with
      |some u'=>.nx (e3.set i (s.re u'))
      |none=>.stuck
noncomputable def fF:Val->Bool
 |.lst _=>true
 |_=>false
noncomputable def rh (i:Nat) (m:Val->List Val->Option (Val×Val)) (vs:List Val) (e2:E3):R3 Tm:=match e2[i]? with
 |some s2=>match s2.mv with
  |some u=>match m u vs with
   |some (u',v)=>.ok (.val v) (e2.set i (s2.re u'))
   |none=>.stuck
  |none=>.stuck
 |none=>.stuck
noncomputable def oD (i:Nat) (m:Val->List Val->Option (Val×Val)) (A:MA3) (e:E3):R3 Tm:=match e[i]? with
 |some s=>if (s.mv.map fF)=some true then (A e).bind λts e1=>match dem e1 ts with
  |some (e2,vs)=>rh i m vs e2
  |none=>.stuck else .stuck
 |none=>.stuck
noncomputable def K6 (m:Val->List Val->Bv) (F:ME3) (A:MA3) (e:E3):R3 Tm:=(F e).bind λt e1=>if (rs e1 t).map fF=some true then (A e1).bind λts e2=>(match rs e2 t.drop,rss e2 ts with
 |some v,some vs=>if fF v=true then (m v vs).at e2 else .stuck
 |_,_=>.stuck) else .stuck
structure PSe where
 G:Val->Val->Val->Option Val
structure PMm where
 G:Val->List Val->Option (Val×Val)
structure PMv where
 G:Val->List Val->Bv
noncomputable def tZ (i:Nat) (w:PSe) (k a:PEx):PSt:=⟨15,wSet i k.G a.G w.G⟩
noncomputable def kq (i:Nat) (m:PMm) (a:PAs):PEx:=⟨18,oD i m.G a.G⟩
noncomputable def qf (i:Nat) (m:PMm):PEx:=⟨19,oD i m.G oy⟩
noncomputable def qG (m:PMv) (a:PEx) (b:PAs):PEx:=⟨20,K6 m.G a.G b.G⟩
section
variable(K:W.Frag)(mg:Qd)
def CC(r:tP)(w:Val->Val->Val->Option Val):Prop:=∀P H n o u di vi d v u' Q,¬ P n->H n=some o->NotFz o->Rc K mg P H o u->ShR K mg P H di vi->Rd K mg P H d v->w u vi v=some u'->(∀o',NotFz o'->Rc K mg P H o' u'->Q (upd H n o'))->r (.ref n) di d H Q
def MmD(r:V->List V->Hp->VK->Prop)(m:Val->List Val->Option (Val×Val)):Prop:=∀P H n o u ds vs u' v Q,¬ P n->H n=some o->NotFz o->Rc K mg P H o u->Rds K mg P H ds vs->m u vs=some (u',v)->(∀o' y,NotFz o'->Rc K mg P H o' u'->Rd K mg P H y v->Q y (upd H n o'))->r (.ref n) ds H Q
def MtD(r:V->List V->Hp->VK->Prop)(m:Val->List Val->Bv):Prop:=∀P H d v ds vs Q,ShR K mg P H d v->fF v=true->ShRs K mg P H ds vs->BvP K mg P H Q (m v vs)->r d ds H Q
end
section
variable{K:W.Frag}{mg:Qd}{X:Cx}{ES:St->XK}{e o i:Expr}{es:List Expr}{p q:PEx}{A:PAs}{pos p1:Pos}
def r9{j:Nat}{e:E3}{s:Sl}{u:Val}(q:e[j]?=some s)(h:s.mv=some u):eT j e=.ok (.bor j) e:=by unfold eT;rw[q];cases s <;> first |rfl |cases h
def EF{w:PSe}{r:tP}(he:DE K mg X ES e p)(ho:DE K mg X ES o (af j))(hi:DE K mg X ES i q)(hs':xP X r)(hd:CC K mg r w.G)(hs:swapsWithSole [.Subscript o i p1] e pos.line X.env=pure false:=by rfl)(hw:swappedStores [.Subscript o i p1] e X.env=pure none:=by rfl)(h1:(assignEach [.Subscript o i p1] X.env).map (·.2)=[assign (.Subscript o i p1) X.env]:=by rfl)
 (ha:∀v,assign (.Subscript o i p1) X.env v=(do
  let ov <- holding [v] (eval o X.env)
  let iv <- holding [v,ov] (eval i X.env)
  standAt p1
  holding [v,ov,iv] (setItem ov iv v)
  release [v,ov,iv] []):=by intro _;rfl):DS K mg X ES (.Assign [.Subscript o i p1] e pos) (tZ j w q p):=
 ⟨PS.imp
  (AR he.ok (JA ho.ok hi.ok hs' ha) hs hw h1) λD σ H zz=>zz.el λY N0 ns e S p=>⟨Y,N0,λ_=>True,ns,e,S,λ_ _=>trivial,PS3.toS p S λt e1 ns1 H1 a1 S1 p1 x r1=>by
  try dsimp only at p1
  split at p1
  .exact p1.elim
  .rename_i u0 qm;obtain⟨s0,y1,y2⟩:=ND.mp qm;refine⟨Y,N0,λ_=>True,ns1,e1,S1,λ_ _=>trivial,?_⟩;show PG3 K mg Y N0 ns1 e1 σ H1 (ES σ) _ (eT j e1);rw[r9 y1 y2];intro H2 h_ a2 S2 ov ro;refine⟨Y,N0,λ_=>True,h_,e1,S2,λ_ _=>trivial,PS3.toS (PS3.after p1 S (a1.trans S a2)) S2 λt2 e2 ns3 H3 a3 S3 p3 iv r3=>?_⟩;try dsimp only at p3
   split at p3
   .exact p3.elim
   .rename_i vi qi;split at p3
    .exact p3.elim
    .rename_i e3 v qd;obtain⟨ns4,S4,a4,r4⟩:=gg S3 (r1.drop (a2.trans S1 a3)) qd;split at p3
     .exact p3.elim
     .rename_i s q3;split at p3
      .exact p3.elim
      .rename_i u q4;split at p3
       .rename_i u' q5;obtain⟨n,ob,k1,k0,k2,k3,k4,k5⟩:=S4.write q3 q4;have ro':σ[j]?=some (some ov):=ro;rw[k1] at ro';cases ro';refine hd (Oc Y ns4) _ _ _ _ _ _ _ _ _ _ (λz=>z.2 (aT.mpr ⟨j,k0⟩)) k2 k3 k4 ((r3.sh S3 qi).mono a4.mov .refl) r4 q5 λo' f' rc'=>?_;obtain⟨_,S5,a5⟩:=k5 o' u' f' rc';exact p3 _ _ _ ((a3.trans S2 a4).trans S2 a5) S5
       .exact p3.elim⟩⟩
def DV{P:Addr->Prop}(r:ShR K mg P H d v)(q:fF v=true):tyV K "list" d H:=by
 cases v with
 |lst xs=>obtain⟨a,vs,rfl,h,_⟩:=r.lstL;exact .inl ⟨rfl,vs,h⟩
 |_=>cases q
def wF{Y N0 L:Addr->Prop}{ns:Ns}{e2:E3}{σ:St}{H:Hp}{k:PMm}{r:V->List V->Hp->VK->Prop}{vs:List Val}{E:XK}{Q:VK}(hd:MmD K mg r k.G)(S:Sat K mg Y N0 ns e2 σ H)(ro:σ[j]?=some (some ov))(rx:Rds K mg (Oc Y ns) H xs vs)(p:PG3 K mg Y N0 ns e2 σ H E (KE K mg Y N0 L σ Q) (rh j k.G vs e2)):r ov xs H Q:=by
 unfold rh at p;split at p
 .rename_i s2 q2;split at p
  .rename_i u q3;split at p
   .rename_i u' v q4;obtain⟨n,ob,k1,k0,k2,k3,k4,k5⟩:=S.write q2 q3;rw[k1] at ro;cases ro;refine hd (Oc Y ns) _ _ _ _ _ _ _ _ _ (λz=>z.2 (aT.mpr ⟨j,k0⟩)) k2 k3 k4 rx q4 λo' y f' rc' ry=>?_;obtain⟨mv,S4,a4⟩:=k5 o' u' f' rc';exact p _ _ a4 S4 _ (ry.mono mv)
   .exact p.elim
  .exact p.elim
 .exact p.elim
theorem wz{Y N0 L:Addr->Prop}{ns:Ns}{e:E3}{σ:St}{H:Hp}{m:Val->List Val->Option (Val×Val)}{A:MA3}{E:XK}{Q:VK}{R:V->Hp->Prop}(S:Sat K mg Y N0 ns e σ H)(p:PG3 K mg Y N0 ns e σ H E (KE K mg Y N0 L σ Q) (oD j m A e))
 (i:∀ov ns1 H1,Stp ns e H ns1 e H1->Sat K mg Y N0 ns1 e σ H1->σ[j]?=some (some ov)->tyV K "list" ov H1->PG3 K mg Y N0 ns1 e σ H1 E (KE K mg Y N0 L σ Q) ((A e).bind λts e1=>match dem e1 ts with
 |some (e2,vs)=>rh j m vs e2
 |none=>.stuck)->R ov H1):PG3 K mg Y N0 ns e σ H E (KE K mg Y N0 L σ R) (eT j e):=by
 unfold oD at p;split at p
 .rename_i s0 q0;split at p
  .rename_i hz;obtain⟨u0,z1,z2⟩:=Np.mp hz;rw[r9 q0 z1];exact λH1 ns1 a1 S1 ov ro=>i ov ns1 H1 a1 S1 ro (DV (v:=u0) (S1.bor ro (by rw[q0];cases s0 <;> first |exact z1 |cases z1)) z2) (p.after S a1)
  .exact p.elim
 .exact p.elim
def IW{j:Nat}{name:Str}{id:String}{apos cpos:Pos}{r:V->List V->Hp->VK->Prop}{k:PMm}(hK:X.K=K)(slot:Slot "list" name id)(hty:typeOf (.builtin id)=pure (.type "method_descriptor"))(hm:MtM X id r)(hd:MmD K mg r k.G)(ho:DE K mg X ES o (af j))(ha:DA K mg X ES (e::es) A)(i_:attributeBase o name X.env (eval o X.env)=eval o X.env:=by rfl)(hfew:((backTo cpos (starEach (e::es) X.env)).all (λx=>!x.1)&&(backToKw cpos (keywordEach [] X.env)).all (λx=>x.1.isSome)&&decide ((e::es).length+([]:List Keyword).length+(if ([]:List Keyword).isEmpty then 0 else 1)<30))=true:=by rfl)(j':(apos.endLine==cpos.line)=true:=by rfl)(hs:starEach (e::es) X.env=(false,eval e X.env)::starEach es X.env:=by rfl)(c_:(backTo cpos (starEach es X.env)).any (·.1)=false:=by rfl):DE K mg X ES (.Call (.Attribute o name apos) (e::es) [] cpos) (kq j k A):=by
 subst hK;exact
  ⟨PE.imp (yx Po slot hty hm ho.ok ha.ok i_ hfew j' hs c_) λσ H Q zz=>zz.el λY N0 L ns e S hl p=>
  ⟨Y,
   N0,L,ns,e,S,hl,wz S p λov ns1 H1 a1 S1 ro ty p1=>⟨ty,Y,N0,ns1,e,S1,PG3.imp p1 S1 λts e1 h_ H2 a2 S2 p2 xs r2=>by
   try dsimp only at p2
   split at p2
   .rename_i e2 vs q1;obtain⟨ns3,S3,a3,r3⟩:=i6 S2 r2 q1;exact wF hd S3 ro r3 (p2.after S2 a3)
   .exact p2.elim⟩⟩⟩
def F3{j:Nat}{name:Str}{id:String}{apos cpos:Pos}{r:V->List V->Hp->VK->Prop}{k:PMm}(hK:X.K=K)(slot:Slot "list" name id)(hty:typeOf (.builtin id)=pure (.type "method_descriptor"))(hm:MtM X id r)(hd:MmD K mg r k.G)(ho:DE K mg X ES o (af j))(i_:attributeBase o name X.env (eval o X.env)=eval o X.env:=by rfl)(j':(apos.endLine==cpos.line)=true:=by rfl):DE K mg X ES (.Call (.Attribute o name apos) [] [] cpos) (qf j k):=by
 subst hK;exact⟨PE.imp (JN Po slot hty hm ho.ok i_ j') λσ H Q zz=>zz.el λY N0 L ns e S hl p=>
  ⟨Y,N0,L,ns,e,S,hl,wz S p λov ns1 H1 a1 S1 ro ty p1=>⟨ty,wF hd S1 ro .nil p1⟩⟩⟩
def F4{name:Str}{id:String}{apos cpos:Pos}{r:V->List V->Hp->VK->Prop}{k:PMv}(hK:X.K=K)(slot:Slot "list" name id)(hty:typeOf (.builtin id)=pure (.type "method_descriptor"))(hm:MtM X id r)(hd:MtD K mg r k.G)(ho:DE K mg X ES o p)(ha:DA K mg X ES (e::es) A)(i_:attributeBase o name X.env (eval o X.env)=eval o X.env:=by rfl)(hfew:((backTo cpos (starEach (e::es) X.env)).all (λx=>!x.1)&&(backToKw cpos (keywordEach [] X.env)).all (λx=>x.1.isSome)&&decide ((e::es).length+([]:List Keyword).length+(if ([]:List Keyword).isEmpty then 0 else 1)<30))=true:=by rfl)(j':(apos.endLine==cpos.line)=true:=by rfl)(hs:starEach (e::es) X.env=(false,eval e X.env)::starEach es X.env:=by rfl)(c_:(backTo cpos (starEach es X.env)).any (·.1)=false:=by rfl):DE K mg X ES (.Call (.Attribute o name apos) (e::es) [] cpos) (qG k p A):=by
 subst hK;exact
  ⟨PE.imp (yx Po slot hty hm ho.ok ha.ok i_ hfew j' hs c_) λσ H Q zz=>zz.el λY N0 L ns e S hl p=>
  ⟨Y,
   N0,L,ns,e,S,hl,PG3.imp p S λt e1 ns1 H1 a1 S1 p1 x r1=>by
   try dsimp only at p1
   split at p1
   .rename_i hq;obtain⟨v0,z1,z2⟩:=Np.mp hq;refine⟨DV (r1.sh S1 z1) z2,Y,N0,ns1,e1,S1,PG3.imp p1 S1 λts e2 h_ H2 a2 S2 p2 xs r2=>?_⟩;try dsimp only at p2
    split at p2
    .rename_i v vs q1 q2;split at p2
     .rename_i hv;exact hd _ _ _ _ _ _ _ ((r1.drop a2).sh S2 q1) hv (r2.sh S2 q2) (p2.bv S2 λa z=>hl a (a1.dom a (a2.dom a z)))
     .exact p2.elim
    .exact p2.elim
   .exact p1.elim⟩⟩
end
noncomputable def iq:Sl->Sl
 |.ow v=>.lo v
 |.mu v=>.lm v
 |s=>s
noncomputable def jc:Sl->Sl
 |.lo v=>.ow v
 |.lm v=>.mu v
 |s=>s
noncomputable def lock (e:E3) (k:Nat):E3:=match e[k]? with
 |some s=>e.set k (iq s)
 |none=>e
noncomputable def unlock (e:E3) (k:Nat):E3:=match e[k]? with
 |some s=>e.set k (jc s)
 |none=>e
noncomputable def lockO (e:E3):Option Nat->E3
 |some k=>lock e k
 |none=>e
noncomputable def fE (e:E3):Option Nat->E3
 |some k=>unlock e k
 |none=>e
section
variable{K:W.Frag}{mg:Qd}{X N0:Addr->Prop}{ns ns':Ns}{e e':E3}{σ:St}{H H':Hp}
def SlR.lock(r:SlR K mg P N0 n d H s):SlR K mg P N0 n d H (iq s):=by cases s <;> exact r
def SlR.unlock(r:SlR K mg P N0 n d H s):SlR K mg P N0 n d H (jc s):=by cases s <;> exact r
def Sat.setS(S:Sat K mg X N0 ns e σ H)(q:e[k]?=some s)(f:Sl->Sl)(hf:SlR K mg (Oc X ns) N0 (ns[k]?) (σ[k]?) H s->SlR K mg (Oc X ns) N0 (ns[k]?) (σ[k]?) H (f s)):Sat K mg X N0 ns (e.set k (f s)) σ H:=by
 have hi:=(C_.mp q).1;refine⟨by rw[NK];exact S.l1,by rw[NK];exact S.l2,S.lh,S.xl,S.inj,S.nx,λj s' qj=>?_,S.bs⟩;rcases bL hi qj with ⟨rfl,rfl⟩ |⟨z,qj'⟩
 .exact hf (S.sl j s q)
 .exact S.sl j s' qj'
def Sat.lock(S:Sat K mg X N0 ns e σ H)(k:Nat):Sat K mg X N0 ns (lock e k) σ H:=by
 unfold L3.lock;split
 .rename_i s q;exact S.setS q iq SlR.lock
 .exact S
def Sat.unlock(S:Sat K mg X N0 ns e σ H)(k:Nat):Sat K mg X N0 ns (unlock e k) σ H:=by
 unfold L3.unlock;split
 .rename_i s q;exact S.setS q jc SlR.unlock
 .exact S
def Sat.lockO(S:Sat K mg X N0 ns e σ H)(k:Option Nat):Sat K mg X N0 ns (lockO e k) σ H:=by
 cases k with
 |none=>exact S
 |some k=>exact S.lock k
def i9(z:j≠k):(lock e k)[j]?=e[j]?:=by
 unfold lock;split
 .rw[cM z]
 .rfl
def gw(z:j≠k):(unlock e k)[j]?=e[j]?:=by
 unfold unlock;split
 .rw[cM z]
 .rfl
def oH(q:e[k]?=some s):(lock e k)[k]?=some (iq s):=by unfold lock;rw[q];exact dB (C_.mp q).1
def iz(q:e[k]?=some s):(unlock e k)[k]?=some (jc s):=by unfold unlock;rw[q];exact dB (C_.mp q).1
def Stp.unlock(q:e[k]?=some s)(hs:s.mt=true)(a:Stp ns (L3.lock e k) H ns' e' H'):Stp ns e H ns' (L3.unlock e' k) H':=by
 have hl:(iq s).lk=true:=by cases s <;> first |rfl |cases hs
 have hu:jc (iq s)=s:=by cases s <;> first |rfl |cases hs
 obtain⟨qk,nk⟩:=a.lk k _ (oH q) hl;refine⟨a.le,a.dom,λm o qm ht hM=>a.keep m o qm ht λ⟨j,s',z1,z2,z3⟩=>hM ?_,a.nw,λj s' qj hj=>?_,λj s' qj hj=>?_,λj v qj=>?_,λj v qj=>?_⟩
 .by_cases z:j=k
  .subst z;exact⟨j,s,z1,q,hs⟩
  .rw[i9 z] at z2;exact⟨j,s',z1,z2,z3⟩
 .have z:j≠k:=λz=>by subst z;rw[q] at qj;cases qj;cases s <;> first |cases hs;done |cases hj;done
  rw[gw z];exact a.lk j s' (by rw[i9 z];exact qj) hj
 .have z:j≠k:=λz=>by subst z;rw[iz qk,hu] at qj;cases qj;cases s <;> first |cases hs;done |cases hj;done
  rw[gw z] at qj;obtain⟨y1,y2⟩:=a.lk' j s' qj hj;rw[i9 z] at y1;exact⟨y1,y2⟩
 .by_cases z:j=k
  .subst z;rw[iz qk,hu] at qj;cases qj;exact⟨v,q,nk⟩
  .rw[gw z] at qj;obtain⟨u,y1,y2⟩:=a.mu j v qj;rw[i9 z] at y1;exact⟨u,y1,y2⟩
 .by_cases z:j=k
  .subst z;rw[q] at qj;cases qj;exact⟨v,by rw[iz qk,hu],nk⟩
  .obtain⟨u,y1,y2⟩:=a.mu' j v (by rw[i9 z];exact qj);exact⟨u,by rw[gw z];exact y1,y2⟩
end
abbrev MI3:=E3->R3 (List Val×Option Nat)
noncomputable def gN:Val->Option (List Val)
 |.tup xs=>some xs
 |.lst xs=>some xs
 |_=>none
noncomputable def iI (t:Tm) (e:E3):Option (List Val×Option Nat):=match t with
 |.val v=>(gN v).map λxs=>(xs,none)
 |.new v=>(gN v).map λxs=>(xs,none)
 |.bor k=>match e[k]? with
  |some (.sh v)=>(gN v).map λxs=>(xs,none)
  |some (.ow (.lst xs))=>some (xs,some k)
  |some (.mu (.lst xs))=>some (xs,some k)
  |_=>none
noncomputable def K3 (F:ME3) (e:E3):R3 (List Val×Option Nat):=(F e).bind λt e1=>match iI t e1 with
 |some p=>.ok p e1
 |none=>.stuck
noncomputable def Lq (A:MA3) (e:E3):R3 (List Val×Option Nat):=(A e).bind λts e1=>match ts with
 | [t,u]=>(match iI t e1,iI u e1 with
  |some (xs,k),some (ys,none)=>.ok (List.zipWith (λx y=>.tup [x,y]) xs ys,k) e1
  |_,_=>.stuck)
 |_=>.stuck
noncomputable def lW (lo:Int) (k:Nat):List Val:=(List.range k).map λi=>Val.int (lo+(i:Nat))
structure RgB(j:Int):Prop where
 lo:-(2^62)<=j
 hi:j<2^62
def jz:List Val->Option (List Val)
 | [.int j]=>@ite _ (RgB j) (Classical.propDecidable _) (some (lW 0 j.toNat)) none
 |_=>none
def tE:List Val->Option (List Val)
 | [.int i,.int j]=>@ite _ (RgB i/\RgB j) (Classical.propDecidable _) (some (lW i (j-i).toNat)) none
 |_=>none
noncomputable def viRg (f:List Val->Option (List Val)) (A:MA3) (e:E3):R3 (List Val×Option Nat):=(A e).bind λts e1=>match (rss e1 ts).bind f with
 |some xs=>.ok (xs,none) e1
 |none=>.stuck
noncomputable def SR3.loop (r:SR3) (f:E3->SR3):SR3:=match r with
 |.nx e=>f e
 |.ct e=>f e
 |.bk e=>.nx e
 |.rt d e=>.rt d e
 |.exc c e=>.exc c e
 |.stuck=>.stuck
noncomputable def eB (g:MG3) (B:MS3):List Val->MS3
 | [],e=>.nx e
 |v::vs,e=>match g v e with
  |some e1=>(B e1).loop (eB g B vs)
  |none=>.stuck
noncomputable def SR3.unl (k:Option Nat) (r:SR3):SR3:=match r with
 |.nx e=>.nx (fE e k)
 |.ct e=>.ct (fE e k)
 |.bk e=>.bk (fE e k)
 |.rt d e=>.rt d (fE e k)
 |.exc c e=>.exc c (fE e k)
 |.stuck=>.stuck
noncomputable def wFor (I:MI3) (g:MG3) (B:MS3) (e:E3):SR3:=(I e).toS λp e1=>(eB g B p.1 (lockO e1 p.2)).unl p.2
noncomputable def whV (c:MT3) (B:MS3):Nat->MS3
 |0,_=>.stuck
 |k+1,e=>(c e).toS λb e1=>if b=true then (B e1).loop (whV c B k) else .nx e1
open Classical in
def wWh(c:MT3)(B:MS3):MS3:=λe=>if q:∃k,whV c B k e ≠ .stuck then whV c B q.choose e else .stuck
theorem lU{c:MT3}{B:MS3}:∀{k:Nat}{e:E3},whV c B k e ≠ .stuck->whV c B (k+1) e=whV c B k e
 |0,_,q=>absurd rfl q
 |
  k+1,e,q=>by
  have e1:whV c B (k+2) e=(c e).toS λb e1=>if b=true then (B e1).loop (whV c B (k+1)) else .nx e1:=rfl
  have e2:whV c B (k+1) e=(c e).toS λb e1=>if b=true then (B e1).loop (whV c B k) else .nx e1:=rfl
  rw[e2] at q;rw[e1,e2];cases r:c e with
  |exc _ _=>rfl
  |stuck=>rfl
  |
   ok b h1=>
   rw[r] at q;cases b with
   |false=>rfl
   |
    true=>
    have q':(B h1).loop (whV c B k) ≠ .stuck:=q;show (B h1).loop (whV c B (k+1))=(B h1).loop (whV c B k);cases s:B h1 with
    |nx a2=>rw[s] at q';exact lU q'
    |ct a2=>rw[s] at q';exact lU q'
    |_=>rfl
def y9{c:MT3}{B:MS3}{k j:Nat}{e:E3}(q:whV c B k e ≠ .stuck)(hj:k<=j):whV c B j e=whV c B k e:=by
 induction hj with
 |refl=>rfl
 |step _ ih=>rw[lU (by rw[ih];exact q),ih]
def mQ{c:MT3}{B:MS3}{k:Nat}{e:E3}(q:whV c B k e ≠ .stuck):wWh c B e=whV c B k e:=by
 have hq:∃k,whV c B k e ≠ .stuck:=⟨k,q⟩;unfold wWh;rw[dif_pos hq];rcases Nat.le_total hq.choose k with z |z
 .exact (y9 hq.choose_spec z).symm
 .exact y9 q z
def B3(c:MT3)(B:MS3)(e:E3):wWh c B e=(c e).toS λb e1=>if b=true then (B e1).loop (wWh c B) else .nx e1:=by
 by_cases q:∃k,whV c B k e ≠ .stuck
 .obtain⟨k,q⟩:=q;rw[mQ q];cases k with
  |zero=>exact absurd rfl q
  |
   succ k=>
   have e2:whV c B (k+1) e=(c e).toS λb e1=>if b=true then (B e1).loop (whV c B k) else .nx e1:=rfl
   rw[e2] at q ⊢;cases r:c e with
   |exc _ _=>rfl
   |stuck=>rfl
   |
    ok b h1=>
    rw[r] at q;cases b with
    |false=>rfl
    |
     true=>
     have q':(B h1).loop (whV c B k) ≠ .stuck:=q;show (B h1).loop (whV c B k)=(B h1).loop (wWh c B);cases s:B h1 with
     |nx a2=>rw[s] at q';exact (mQ q').symm
     |ct a2=>rw[s] at q';exact (mQ q').symm
     |_=>rfl
 .have e0:wWh c B e=.stuck:=by unfold wWh;rw[dif_neg q]
  rw[e0];have hs:∀k,whV c B (k+1) e=.stuck:=λk=>Classical.byContradiction λz=>q ⟨_,z⟩;cases r:c e with
  |stuck=>rfl
  |
   exc c' h'=>
   have:=hs 0
   unfold whV at this;rw[r] at this;cases this
  |
   ok b h1=>
   cases b with
   |
    false=>
    have:=hs 0
    unfold whV at this;rw[r] at this;cases this
   |
    true=>
    have h2:∀k,(B h1).loop (whV c B k)=.stuck:=λk=>by
     have:=hs k
     unfold whV at this;rw[r] at this;exact this
    show SR3.stuck=(B h1).loop (wWh c B);have lim:∀a2,(∀k,whV c B k a2=.stuck)->wWh c B a2=.stuck:=λa2 z=>by unfold wWh;rw[dif_neg (λ⟨k,y⟩=>y (z k))]
    cases s:B h1 with
    |nx a2=>rw[s] at h2;exact (lim a2 h2).symm
    |ct a2=>rw[s] at h2;exact (lim a2 h2).symm
    |stuck=>rfl
    |_=>have:=h2 0;rw[s] at this;cases this
structure PIt where
 t:Nat
 G:MI3
noncomputable def cq (a:PEx):PIt:=⟨1,K3 a.G⟩
def kI(a:PAs):PIt:=⟨2,viRg jz a.G⟩
def yA(a:PAs):PIt:=⟨3,viRg tE a.G⟩
noncomputable def m3 (a:PAs):PIt:=⟨5,Lq a.G⟩
noncomputable def hE (i:PIt) (g:PGt) (b:PSt):PSt:=⟨16,wFor i.G g.G b.G⟩
def xWh(c:PTs)(b:PSt):PSt:=⟨17,wWh c.G b.G⟩
section
variable(K:W.Frag)(mg:Qd)
structure Kp(X:Addr->Prop)(ns:Ns)(k:Option Nat)(H0:Hp)(P:Addr->Prop)(H:Hp):Prop where
 mov:Mov (Oc X ns) P H0 H
 lk:∀(j:Nat) (a:Addr) (o:HO),k=some j->ns[j]?=some (some a)->H0 a=some o->oz o->H a=some o
def Kp.refl:Kp X ns k H (Oc X ns) H:=⟨.of λ_ z=>z,λ_ _ _ _ _ q _=>q⟩
def ItS(X:Addr->Prop)(ns:Ns)(k:Option Nat)(H0:Hp)(J:It)(us:List Val):Prop:=∀P H,Kp X ns k H0 P H->(∀(i:Nat) v,us[i]?=some v->J.go i H/\∀x H',J.yld i H x H'->Gr H H'/\Rd K mg P H' x v)/\J.stop us.length H
def iH(X:Addr->Prop)(ns:Ns)(k:Option Nat)(H0:Hp)(b:Bool)(a:Addr)(us:List Val):Prop:=∀P H,Kp X ns k H0 P H->∃vs,SqB K b H a vs/\Rds K mg P H vs us
def rdI(ES:St->XK)(I:MI3):TI:=λσ H R=>∃X N0 ns e,Sat K mg X N0 ns e σ H/\PG3 K mg X N0 ns e σ H (ES σ) (λp e' ns' H'=>∀J,ItS K mg X ns' p.2 H' J p.1->(∀k,p.2=some k->∃s,e'[k]?=some s/\s.mt=true)->R J H') (I e)
def rdI.el{K:W.Frag}{mg:Qd}{I:MI3}{R:It->Hp->Prop}(h:rdI K mg ES I σ H R){Z:Prop}(k:∀X N0 ns e,Sat K mg X N0 ns e σ H->PG3 K mg X N0 ns e σ H (ES σ) (λp e' ns' H'=>∀J,ItS K mg X ns' p.2 H' J p.1->(∀k,p.2=some k->∃s,e'[k]?=some s/\s.mt=true)->R J H') (I e)->Z):Z:=by obtain⟨X,N0,ns,e,S,p⟩:=h;exact k X N0 ns e S p
structure DI(X:Cx)(ES:St->XK)(tg iter:Expr)(F:PIt):Prop where
 ok:PI X tg iter (rdI K mg ES F.G)
end
noncomputable def ItA (K:W.Frag) (b:Bool) (a:Addr):It:=match b with
 |true=>Itl K a
 |false=>Itt K a
section
variable{K:W.Frag}{mg:Qd}{X N0 L:Addr->Prop}{ns ns1 ns':Ns}{e e1 e':E3}{σ:St}{H H1 H':Hp}{De:Ends}{ES:St->XK}
def EJ{x:V}{v:Val}(r:Rd K mg (Oc X ns) H x v)(q:gN v=some us):∃b a,x=.ref a/\∀k,iH K mg X ns k H b a us:=by
 cases v with
 |tup ys=>cases q;obtain⟨a,vs,rfl,h,rr⟩:=ShR.tup (.inl r);exact⟨false,a,rfl,λ_ P H' st=>⟨vs,st.mov.le.sqT h,rr.mono st.mov⟩⟩
 |
  lst ys=>
  cases q;cases r with
  |cell p eo rc=>cases rc with |lst rr=>exact⟨true,_,rfl,λ_ P H' st=>⟨_,SqL.of (st.mov.cl _ _ p eo (λ_ z=>nomatch z)).2,rr.mono st.mov⟩⟩
 |_=>cases q
def rO{x:V}{t:Tm}{p:List Val×Option Nat}(S:Sat K mg X N0 ns e σ H)(r:relE K mg X N0 L σ ns e H x t)(q:iI t e=some p):∃b a,x=.ref a/\iH K mg X ns p.2 H b a p.1/\(p.2=none->∀k,iH K mg X ns k H b a p.1)/\∀k:Nat,p.2=some k->∃s,e[k]?=some s/\s.mt=true:=by
 have fv:∀{v us},Rd K mg (Oc X ns) H x v->gN v=some us->∃b a,x=.ref a/\iH K mg X ns none H b a us/\((none:Option Nat)=none->∀k,iH K mg X ns k H b a us)/\∀k:Nat,none=some k->∃s,e[k]?=some s/\s.mt=true:=λr q=>by obtain⟨b,a,h1,h2⟩:=EJ r q;exact⟨b,a,h1,h2 _,λ_=>h2,λ_ z=>nomatch z⟩
 cases t with
 |val v=>obtain⟨xs,q1,rfl⟩:=Np.mp q;exact fv r q1
 |new v=>obtain⟨xs,q1,rfl⟩:=Np.mp q;exact fv r.new q1
 |
  bor k=>
  have r':σ[k]?=some (some x):=r;have own:∀{s xs},e[k]?=some s->s.mv=some (.lst xs)->∃b a,x=.ref a/\iH K mg X ns (some k) H b a xs/\(some k=none->∀k,iH K mg X ns k H b a xs)/\∀j:Nat,some k=some j->∃s,e[j]?=some s/\s.mt=true:=λ{s xs} q qm=>by
   obtain⟨n,o,k1,k0,k2,k3,k4,_⟩:=S.write q qm;rw[r'] at k1;cases k1;have hm:s.mt=true:=by cases s <;> first |rfl |cases qm
   refine⟨true,n,rfl,λP H' st=>?_,λz=>(nomatch z),λj z=>by cases z;exact⟨s,q,hm⟩⟩;cases k4 with
   |lst rr=>exact⟨_,SqL.of (st.lk k n _ rfl k0 k2 λ_ z=>nomatch z),rr.mono st.mov⟩
  unfold iI at q;dsimp only at q;split at q
  .rename_i v qs;obtain⟨_,x',e2,r2⟩:=S.sl k _ qs;rw[r'] at e2;cases e2;obtain⟨xs,q1,rfl⟩:=Np.mp q;exact fv r2 q1
  .rename_i xs qs;cases q;exact own qs rfl
  .rename_i xs qs;cases q;exact own qs rfl
  .cases q
def ItS.seq(s:iH K mg X ns k H b a us):ItS K mg X ns k H (ItA K b a) us:=λP H' st=>by
 obtain⟨vs,h,r⟩:=s P H' st;cases b with
 |true=>refine⟨λi v q=>?_,vs,h,by rw[r.len];exact u_ _⟩;obtain⟨x,ex,rx⟩:=r.get q;exact⟨⟨vs,x,h,ex⟩,λy H2 ⟨e1,z⟩=>by subst e1;have:=(z vs h).symm.trans ex;cases this;exact⟨.refl,rx⟩⟩
 |false=>refine⟨λi v q=>?_,vs,h,by rw[r.len];exact u_ _⟩;obtain⟨x,ex,rx⟩:=r.get q;exact⟨⟨vs,x,h,ex⟩,λy H2 ⟨e1,z⟩=>by subst e1;have:=(z vs h).symm.trans ex;cases this;exact⟨.refl,rx⟩⟩
def ItS.zip(s:iH K mg X ns k H b a us)(t:iH K mg X ns k H c d ws):ItS K mg X ns k H (ItZ K b c a d) (List.zipWith (λx y=>.tup [x,y]) us ws):=λP H' st=>by
 obtain⟨vs,h,r⟩:=s P H' st;obtain⟨xs,h',r'⟩:=t P H' st;refine⟨λi v q=>?_,vs,xs,h,h',?_⟩
 .rw[OF] at q;cases k1:us[i]? with
  |none=>rw[k1] at q;cases q
  |
   some u=>
   cases k2:ws[i]? with
   |none=>rw[k1,k2] at q;cases q
   |
    some w=>
    rw[k1,k2] at q;cases q;obtain⟨x,ex,rx⟩:=r.get k1;obtain⟨x',ex',rx'⟩:=r'.get k2;refine⟨⟨vs,xs,x,x',h,h',ex,ex'⟩,λy H2 ⟨p,f,f',e1,hp,e2,hf,hf'⟩=>?_⟩;subst e1 e2
    have:=(hf vs h).symm.trans ex
    cases this
    have:=(hf' xs h').symm.trans ex'
    cases this;exact⟨.upd hp,.tup (SqT.of bc) (.cons (rx.mono (Gr.upd hp).mov) (.cons (rx'.mono (Gr.upd hp).mov) .nil))⟩
 .rw[Oy,<- r.len,<- r'.len];rcases Nat.le_total vs.length xs.length with z |z
  .left;rw[Nat.min_eq_left z];exact List.getElem?_eq_none (u_ _)
  .right;rw[Nat.min_eq_right z];exact List.getElem?_eq_none (u_ _)
def ItS.nums{f:Nat->Int}{k:Nat}{J:It}(h1:∀i H,i<k->J.go i H/\∀x H',J.yld i H x H'->H'=H/\x=V.int (f i))(h2:∀H,J.stop k H):ItS K mg X ns kk H J ((List.range k).map λi=>Val.int (f i)):=λP H' st=>by refine⟨λi v q=>?_,by rw[p_,w_];exact h2 _⟩;rw[Nq] at q;obtain⟨j,hj,rfl⟩:=Np.mp q;obtain⟨hj1,hj2⟩:=C_.mp hj;rw[List.getElem_range] at hj2;subst hj2;rw[w_] at hj1;obtain⟨g,y⟩:=h1 i H' hj1;exact⟨g,λx H2 z=>by obtain⟨rfl,rfl⟩:=y x H2 z;exact⟨.refl,.int _⟩⟩
def ItS.rng(lo:Int)(k:Nat):ItS K mg X ns kk H (Itr lo k) (lW lo k):=ItS.nums (λi H hi=>⟨hi,λx H' z=>z⟩) λH=>u_ _
def Ek{k:Option Nat}(S:Sat K mg X N0 ns e σ H)(hk:∀j:Nat,k=some j->∃s,e[j]?=some s/\s.mt=true)(a:Stp ns (lockO e k) H ns' e' H'):Kp X ns k H (Oc X ns') H':=⟨a.mov,λj n o hj hn q ht=>by
 subst hj;refine a.keep n o q ht λ⟨i,s,z1,z2,z3⟩=>?_
 have:=S.inj i j n z1 hn
 subst this;obtain⟨s',y1,y2⟩:=hk i rfl;have:(lockO e (some i))[i]?=some (iq s'):=oH y1;rw[this] at z2;cases z2;cases s' <;> first |cases y2;done |cases z3;done⟩
def PS3.unl{k:Option Nat}{r:SR3}(hk:∀j:Nat,k=some j->∃s,e[j]?=some s/\s.mt=true)(p:PS3 K mg X N0 ns e H De ES (r.unl k)):PS3 K mg X N0 ns (lockO e k) H De ES r:=by
 cases k with
 |none=>cases r <;> exact p
 |
  some j=>
  obtain⟨s,y1,y2⟩:=hk j rfl;cases r with
  |stuck=>exact p
  |nx e'=>exact λH' σ' ns' a S=>p H' σ' ns' (a.unlock y1 y2) (S.unlock j)
  |bk e'=>exact λH' σ' ns' a S=>p H' σ' ns' (a.unlock y1 y2) (S.unlock j)
  |ct e'=>exact λH' σ' ns' a S=>p H' σ' ns' (a.unlock y1 y2) (S.unlock j)
  |exc c e'=>exact λH' σ' ns' C a S=>p H' σ' ns' C (a.unlock y1 y2) (S.unlock j)
  |
   rt r e'=>
   refine λH' σ' ns' x a q2=>p H' σ' ns' x (a.unlock y1 y2) ?_;cases r with
   |val v=>exact⟨q2.1.unlock j,q2.2⟩
   |new v=>obtain⟨n,o,z1,z2,z3,z4,z5,z6,z7⟩:=q2;exact⟨n,o,z1,z2,z3,z4,z5,z6.unlock j,z7⟩
   |
    par i=>
    obtain⟨z1,z2,v,z3⟩:=q2;refine⟨z1.unlock j,z2,v,?_⟩;by_cases z:i=j
    .subst z;exact iz z3
    .exact (gw z).trans z3
   |pr v u=>obtain⟨p,d1,n,o,z1,z2,z3,z4,z5,z6,z7,z8⟩:=q2;exact⟨p,d1,n,o,z1,z2,z3,z4,z5,z6,z7.unlock j,z8⟩
def PS3.toB{α:Type}{r:R3 α}{f:α->E3->SR3}{k:α->E3->Ns->Hp->Prop}{ns0:Ns}{e0:E3}{σ0:St}{H0:Hp}(p:PS3 K mg X N0 ns0 e0 H0 De ES (r.toS f))(S0:Sat K mg X N0 ns0 e0 σ0 H0)(a0:Stp ns0 e0 H0 ns e H)
 (i:∀t e1 ns1 H1,Stp ns0 e0 H0 ns1 e1 H1->Sat K mg X N0 ns1 e1 σ H1->PS3 K mg X N0 ns0 e0 H0 De ES (f t e1)->k t e1 ns1 H1):PG3 K mg X N0 ns e σ H (ES σ) k r:=by
 cases r with
 |stuck=>exact p
 |exc c e'=>exact λH' ns' C a S' m=>p H' σ ns' C (a0.trans S0 a) S' m
 |ok t e'=>exact λH' ns' a S'=>i t e' ns' H' (a0.trans S0 a) S' p
def PS3.loop{ns0:Ns}{e0:E3}{σ0:St}{H0:Hp}{r:SR3}{f:E3->SR3}{N:St->Hp->Prop}(p:PS3 K mg X N0 ns0 e0 H0 De ES (r.loop f))(S0:Sat K mg X N0 ns0 e0 σ0 H0)(a0:Stp ns0 e0 H0 ns e H)
 (i:∀e1 ns1 σ1 H1,Stp ns0 e0 H0 ns1 e1 H1->Sat K mg X N0 ns1 e1 σ1 H1->PS3 K mg X N0 ns0 e0 H0 De ES (f e1)->N σ1 H1):PS3 K mg X N0 ns e H { De with nx:=N,ct:=N,bk:=De.nx } ES r:=by
 cases r with
 |nx e'=>exact λH' σ' ns' b S'=>i e' ns' σ' H' (a0.trans S0 b) S' p
 |ct e'=>exact λH' σ' ns' b S'=>i e' ns' σ' H' (a0.trans S0 b) S' p
 |bk e'=>exact λH' σ' ns' b S'=>p H' σ' ns' (a0.trans S0 b) S'
 |exc c e'=>exact λH' σ' ns' C b S'=>p H' σ' ns' C (a0.trans S0 b) S'
 |rt r e'=>exact λH' σ' ns' x b S'=>p H' σ' ns' x (a0.trans S0 b) S'
 |stuck=>exact p
end
section
variable{K:W.Frag}{mg:Qd}{X:Cx}{ES:St->XK}{e a b c tg iter:Expr}{elts:List Expr}{sts:List Stmt}{p:PEx}{A:PAs}{t:PTs}{x:PSt}{g:PGt}{I:PIt}{pos p0 tp:Pos}
def Hg(hK:X.K=K)(he:DE K mg X ES e p):DI K mg X ES tg e (cq p):=by
 subst hK;exact⟨PI.imp (Hj he.ok) λσ H R zz=>rdI.el zz λY N0 ns e S q=>⟨Y,N0,λ_=>True,ns,e,S,λ_ _=>trivial,PG3.imp q S λt e1 ns1 H1 a1 S1 p1 x r1=>by
  try dsimp only at p1
  split at p1
  .rename_i w z;obtain⟨b,a,rfl,s,_,hk⟩:=rO S1 r1 z;have k:=p1.ret S1 _ (ItS.seq s) hk;obtain⟨vs,hv,_⟩:=s _ _ .refl;cases b with
   |true=>exact .inl ⟨a,rfl,⟨vs,hv⟩,k⟩
   |false=>exact .inr ⟨a,rfl,⟨vs,hv⟩,k⟩
  .exact p1.elim⟩⟩
def tsr1{Y:Addr->Prop}{ns:Ns}{σ:St}{H:Hp}{xs:List V}{t:Tm}(N0 L:Addr->Prop)(e:E3)(r:TsR K mg Y ns σ H xs [t]):∃x,xs=[x]/\relE K mg Y N0 L σ ns e H x t:=by
 cases r with
 |val r rr=>cases rr;exact⟨_,rfl,r⟩
 |bor r rr=>cases rr;exact⟨_,rfl,r⟩
def tsr2{Y:Addr->Prop}{ns:Ns}{σ:St}{H:Hp}{xs:List V}{t u:Tm}(N0 L:Addr->Prop)(e:E3)(r:TsR K mg Y ns σ H xs [t,u]):∃x y,xs=[x,y]/\relE K mg Y N0 L σ ns e H x t/\relE K mg Y N0 L σ ns e H y u:=by
 cases r with
 |val r rr=>obtain⟨y,rfl,r'⟩:=tsr1 N0 L e rr;exact⟨_,_,rfl,r,r'⟩
 |bor r rr=>obtain⟨y,rfl,r'⟩:=tsr1 N0 L e rr;exact⟨_,_,rfl,r,r'⟩
def GK(hK:X.K=K)(hg:Gl X "zip")(hm:mg "zip"=none)(ha:DA K mg X ES [a,b] A)(hk:X.mg=mg:=by rfl)(hs:starEach [a,b] X.env=[(false,eval a X.env),(false,eval b X.env)]:=by rfl)(hs2:starEach [b] X.env=[(false,eval b X.env)]:=by rfl):DI K mg X ES (.Tuple elts x1 tp) (.Call (.Name "zip" p0) [a,b] [] pos) (m3 A):=by
 subst hk hK;exact
  ⟨PI.imp (HV hg hm ha.ok hs hs2) λσ H R zz=>rdI.el zz λY N0 ns e S q=>⟨Y,N0,ns,e,S,PG3.imp q S λts e1 ns1 H1 a1 S1 p1 xs r1=>by
  try dsimp only at p1
  split at p1
  .rename_i t u;obtain⟨x,y,rfl,r,r'⟩:=tsr2 N0 N0 e1 r1;split at p1
   .rename_i us k ws z z';obtain⟨b,a,rfl,s,_,hk⟩:=rO S1 r z;obtain⟨c,d,rfl,_,s',_⟩:=rO S1 r' z';have s2:=s' rfl k;obtain⟨vs,hv,_⟩:=s _ _ .refl;obtain⟨vs',hv',_⟩:=s2 _ _ .refl;exact⟨b,c,a,d,vs,vs',rfl,hv,hv',p1.ret S1 _ (ItS.zip s s2) hk⟩
   .exact p1.elim
  .exact p1.elim⟩⟩
def cZ{P:Addr->Prop}(r:ShRs K mg P H xs [v]):∃x,xs=[x]/\ShR K mg P H x v:=by cases r with |cons r rr=>cases rr;exact⟨_,rfl,r⟩
def qH{P:Addr->Prop}(r:ShRs K mg P H xs [v,u]):∃x y,xs=[x,y]/\ShR K mg P H x v/\ShR K mg P H y u:=by cases r with |cons r rr=>cases rr with |cons r' rr=>cases rr;exact⟨_,_,rfl,r,r'⟩
def Ah(hg:Gl X "range")(hm:mg "range"=none)(ha:DA K mg X ES [a] A)(hk:X.mg=mg:=by rfl)(hs:starEach [a] X.env=[(false,eval a X.env)]:=by rfl):DI K mg X ES tg (.Call (.Name "range" p0) [a] [] pos) (kI A):=by
 subst hk;exact
  ⟨PI.imp (zU hg hm ha.ok hs) λσ H R zz=>rdI.el zz λY N0 ns e S q=>⟨Y,N0,ns,e,S,PG3.imp q S λts e1 ns1 H1 a1 S1 p1 xs r1=>by
  try dsimp only at p1
  split at p1
  .rename_i us z;obtain⟨vs,z1,z2⟩:=ND.mp z;have rr:=r1.sh S1 z1;unfold jz at z2;split at z2
   .split at z2
    .rename_i hb;cases z2;obtain⟨x,rfl,r⟩:=cZ rr;obtain rfl:=r.int;exact⟨_,rfl,hb.lo,hb.hi,p1.ret S1 _ (ItS.rng _ _) λ_ z=>nomatch z⟩
    .cases z2
   .cases z2
  .exact p1.elim⟩⟩
def y0(hg:Gl X "range")(hm:mg "range"=none)(ha:DA K mg X ES [a,b] A)(hk:X.mg=mg:=by rfl)(hs:starEach [a,b] X.env=[(false,eval a X.env),(false,eval b X.env)]:=by rfl)(hs2:starEach [b] X.env=[(false,eval b X.env)]:=by rfl):DI K mg X ES tg (.Call (.Name "range" p0) [a,b] [] pos) (yA A):=by
 subst hk;exact
  ⟨PI.imp (zx hg hm ha.ok hs hs2) λσ H R zz=>rdI.el zz λY N0 ns e S q=>⟨Y,N0,ns,e,S,PG3.imp q S λts e1 ns1 H1 a1 S1 p1 xs r1=>by
  try dsimp only at p1
  split at p1
  .rename_i us z;obtain⟨vs,z1,z2⟩:=ND.mp z;have rr:=r1.sh S1 z1;unfold tE at z2;split at z2
   .split at z2
    .rename_i hb;cases z2;obtain⟨x,y,rfl,r,r'⟩:=qH rr;obtain rfl:=r.int;obtain rfl:=r'.int;exact⟨_,_,rfl,⟨hb.1.lo,hb.1.hi,hb.2.lo,hb.2.hi⟩,p1.ret S1 _ (ItS.rng _ _) λ_ z=>nomatch z⟩
    .cases z2
   .cases z2
  .exact p1.elim⟩⟩
def Ks(hp:PassesOwn (model X.prog X.w) X.A X.env X.xe)(hc:X.calm=true)(hi:DI K mg X ES tg iter I)(hg:DG K mg X tg g)(hb:DSs K mg X ES sts x)(hs:∀x,foldedSetIterable iter X.env x=pure x:=by intro _;rfl):DS K mg X ES (.For tg iter sts [] pos) (hE I g x):=
 ⟨PS.imp (HC hp hc hi.ok hg.ok hb.ok hs) λD σ H zz=>zz.el λY N0 ns e S p=>⟨Y,N0,ns,e,S,PS3.toS p S λw e1 ns1 H1 a1 S1 p1 J it hk=>by
  have p2:=PS3.unl hk (PS3.after p1 S a1);have S2:=S1.lockO w.2;refine⟨λi m σ' H'=>m=w.1.length-i/\i<=w.1.length/\∃ns' e',Stp ns1 (lockO e1 w.2) H1 ns' e' H'/\Sat K mg Y N0 ns' e' σ' H'/\PS3 K mg Y N0 ns1 (lockO e1 w.2) H1 D ES (eB g.G x.G (w.1.drop i) e'),⟨_,rfl,NM _,ns1,_,.refl,S2,p2⟩,?_⟩;rintro i m σ' H' ⟨rfl,hi,ns',e',a',S',p'⟩;by_cases hl:i=w.1.length
  .subst hl;rw[List.drop_length] at p';exact .inl ⟨(it _ _ (Ek S1 hk a')).2,p' H' σ' ns' a' S'⟩
  .have hl':i<w.1.length:=by omega
   rw[Pd hl'] at p';unfold eB at p';obtain⟨go,yl⟩:=(it _ _ (Ek S1 hk a')).1 i _ (B_ hl');split at p'
   .rename_i e2 q;refine .inr ⟨go,λσ2 H2=>i+1<=w.1.length/\∃ns' e',Stp ns1 (lockO e1 w.2) H1 ns' e' H2/\Sat K mg Y N0 ns' e' σ2 H2/\PS3 K mg Y N0 ns1 (lockO e1 w.2) H1 D ES (eB g.G x.G (w.1.drop (i+1)) e'),λσ2 H2 n=>⟨_,by omega,rfl,n⟩,λv H2 y=>?_⟩;obtain⟨gr,r⟩:=yl v H2 y;have a2:=a'.trans S2 (.gr gr);exact⟨Y,N0,ns',e',_,e2,S'.gr gr,r,q,λσ3 ns3 a3 S3=>⟨Y,N0,ns3,e2,S3,PS3.loop p' S2 (a2.trans S2 a3) λe4 ns4 σ4 H4 a4 S4 p4=>⟨hl',ns4,e4,a4,S4,p4⟩⟩⟩
   .exact p'.elim⟩⟩
def BH(hp:PassesOwn (model X.prog X.w) X.A X.env X.xe)(hc:DT K mg X ES c t)(hb:DSs K mg X ES sts x):DS K mg X ES (.While c sts [] pos) (xWh t x):=
 ⟨PS.imp (CP hp hc.ok hb.ok) λD σ H zz=>zz.el λY N0 ns e S p=>by
  have p:PS3 K mg Y N0 ns e H D ES (wWh t.G x.G e):=p;by_cases q:∃k,whV t.G x.G k e ≠ .stuck
  .obtain⟨k,q⟩:=q;rw[mQ q] at p;refine⟨λm σ' H'=>∃ns' e',Stp ns e H ns' e' H'/\Sat K mg Y N0 ns' e' σ' H'/\PS3 K mg Y N0 ns e H D ES (whV t.G x.G m e'),⟨k,ns,e,.refl,S,p⟩,?_⟩;rintro m σ' H' ⟨ns',e',a',S',p'⟩;cases m with
   |zero=>exact p'.elim
   |
    succ m=>
    have p2:PS3 K mg Y N0 ns e H D ES ((t.G e').toS λb e1=>if b=true then (x.G e1).loop (whV t.G x.G m) else .nx e1):=p';refine⟨Y,N0,ns',e',S',PS3.toB p2 S a' λb e1 ns1 H1 a2 S1 p1=>?_⟩;cases b with
    |true=>exact⟨λσ2 H2=>∃ns' e',Stp ns e H ns' e' H2/\Sat K mg Y N0 ns' e' σ2 H2/\PS3 K mg Y N0 ns e H D ES (whV t.G x.G m e'),λσ2 H2 n=>⟨m,Nat.lt_succ_self _,n⟩,Y,N0,ns1,e1,S1,PS3.loop p1 S a2 λe4 ns4 σ4 H4 a4 S4 p4=>⟨ns4,e4,a4,S4,p4⟩⟩
    |false=>exact p1 _ _ _ a2 S1
  .unfold wWh at p;rw[dif_neg q] at p;exact p.elim⟩
end
noncomputable def gh (o:Option Nat) (s:Sl) (e:E3):E3:=match o,s with
 |some i,.mu v=>(match e[i]? with
  |some t=>e.set i (t.re v)
  |none=>e)
 |_,_=>e
noncomputable def aS:List (Option Nat)->E3->E3->E3
 |o::sub,s::inner,e=>aS sub inner (gh o s e)
 |_,_,e=>e
def wq(hn:∀v,o=some i->s=.mu v->False):(gh o s e)[i]?=e[i]?:=by
 unfold gh;split
 .rename_i i' v;split
  .rename_i t q;by_cases z:i=i'
   .subst z;exact (hn v rfl rfl).elim
   .rw[cM z]
  .rfl
 .rfl
theorem oK:∀{sub:Qg}{e2 e:E3}{i:Nat},(∀(j:Nat) v,sub[j]?=some (some i)->e2[j]?=some (.mu v)->False)->(aS sub e2 e)[i]?=e[i]?
 | [],_,_,_,_=>rfl
 |_::_,[],_,_,_=>rfl
 |
  o::sub,s::e2,e,i,hn=>by
  show (aS sub e2 (gh o s e))[i]?=_;rw[oK (λj v q1 q2=>hn (j+1) v (by simpa using q1) (by simpa using q2))];exact wq λv z1 z2=>hn 0 v (by rw[z1];rfl) (by rw[z2];rfl)
theorem vb:∀{sub:Qg}{e2 e:E3}{i j:Nat}{v:Val},(∀(j k:Nat) i,sub[j]?=some (some i)->sub[k]?=some (some i)->j=k)->sub[j]?=some (some i)->e2[j]?=some (.mu v)->(aS sub e2 e)[i]?=(e[i]?).map (Sl.re · v)
 | [],_,_,_,j,_,_,q,_=>by simp at q
 |_::_,[],_,_,j,_,_,_,q=>by simp at q
 |
  o::sub,s::e2,e,i,0,v,hj,q1,q2=>by
  have z1:o=some i:=by simpa using q1
  have z2:s=.mu v:=by simpa using q2
  subst z1 z2;show (aS sub e2 (gh (some i) (.mu v) e))[i]?=_;rw[oK (λk u y1 _=>by have:=hj 0 (k+1) i rfl (by simpa using y1);omega)];unfold gh;dsimp only;split
  .rename_i t q;rw[dB (C_.mp q).1,q];rfl
  .rename_i q;rw[q];rfl
 |
  o::sub,s::e2,e,i,j+1,v,hj,q1,q2=>by
  show (aS sub e2 (gh o s e))[i]?=_;have q1':sub[j]?=some (some i):=by simpa using q1
  rw[vb (λa b c y1 y2=>by have:=hj (a+1) (b+1) c (by simpa using y1) (by simpa using y2);omega) q1' (by simpa using q2)];rw[wq λv z1 _=>by have:=hj 0 (j+1) i (by rw[z1];rfl) q1;omega]
noncomputable def aX (sub:Qg) (ns:Ns):Ns:=sub.map λo=>o.bind λi=>(ns[i]?).bind id
def cF{sub:Qg}{ns:Ns}{j:Nat}{n:Addr}(q:(aX sub ns)[j]?=some (some n)):∃i,sub[j]?=some (some i)/\ns[i]?=some (some n):=by
 unfold aX at q;rw[Nq] at q;cases z:sub[j]? with
 |none=>rw[z] at q;cases q
 |
  some o=>
  rw[z] at q;cases o with
  |none=>cases q
  |
   some i=>
   refine⟨i,rfl,?_⟩;have q':(ns[i]?).bind id=some n:=J_ q;cases y:ns[i]? with
   |none=>rw[y] at q';cases q'
   |some w=>rw[y] at q';have:w=some n:=q';rw[this]
def Gd{sub:Qg}{ns:Ns}{j i:Nat}{w:Option Addr}(q:sub[j]?=some (some i))(q2:ns[i]?=some w):(aX sub ns)[j]?=some w:=by unfold aX;rw[Nq,q];show some ((ns[i]?).bind id)=some w;rw[q2];rfl
structure Lnk(sub:Qg)(e ei:E3):Prop where
 inj:∀(j k:Nat) (i:Nat),sub[j]?=some (some i)->sub[k]?=some (some i)->j=k
 mu:∀(j:Nat) (v:Val),ei[j]?=some (.mu v)->∃(i:Nat) (s:Sl),sub[j]?=some (some i)/\e[i]?=some s/\s.mt=true
 mt:∀(j:Nat) (s:Sl),ei[j]?=some s->s.mt=true->∃v,s=.mu v
section
variable{K:W.Frag}{mg:Qd}{X Y N0:Addr->Prop}{ns h_:Ns}{e e2 ei:E3}{σ:St}{H H2:Hp}{sub:Qg}
theorem ma:∀(sub:Qg) (e2 e:E3),(aS sub e2 e).length=e.length
 | [],_,_=>rfl
 |_::_,[],_=>rfl
 |
  o::sub,s::e2,e=>by
  show (aS sub e2 (gh o s e)).length=_;rw[ma];unfold gh;split
  .split
   .rw[NK]
   .rfl
  .rfl
def Sat.back(S:Sat K mg X N0 ns e σ H)(lk:Lnk sub e ei)(a:Stp (aX sub ns) ei H h_ e2 H2)(hb:Bs K mg H2)
 (hY:∀n,Y n->(∃o,H2 n=some o)/\(X n\/H n=none)) (hXY:∀n,X n->Y n)
 (hc:∀(j:Nat) v n,e2[j]?=some (.mu v)->h_[j]?=some (some n)->∃o,H2 n=some o/\NotFz o/\Rc K mg (Oc Y ns) H2 o v):Sat K mg Y N0 ns (aS sub e2 e) σ H2/\Stp ns e H ns (aS sub e2 e) H2:=by
 have hM:∀n,Mt (aX sub ns) ei n->Mt ns e n:=λn ⟨j,s,z1,z2,z3⟩=>by obtain⟨v,rfl⟩:=lk.mt j s z2 z3;obtain⟨i,s',y1,y2,y3⟩:=lk.mu j v z2;obtain⟨i',y4,y5⟩:=cF z1;rw[y1] at y4;cases y4;exact⟨i,s',y5,y2,y3⟩
 have mv:Mov (Oc X ns) (Oc Y ns) H H2:=⟨a.le,λn o p q ht=>⟨⟨λz=>(by
  rcases (hY n z).2 with z |z
  .exact p.1 z
  .rw[q] at z;cases z),p.2⟩,a.keep n o q ht λz=>by obtain⟨j,s,z1,_⟩:=z;obtain⟨i,_,y⟩:=cF z1;exact p.2 (aT.mpr ⟨i,y⟩)⟩⟩
 have key:∀i:Nat,(∃(j:Nat) (v:Val) (s:Sl),sub[j]?=some (some i)/\e2[j]?=some (.mu v)/\e[i]?=some s/\s.mt=true/\(aS sub e2 e)[i]?=some (s.re v)/\h_[j]?=ns[i]?)\/((∀n,ns[i]?=some (some n)->¬ Mt (aX sub ns) ei n)/\(aS sub e2 e)[i]?=e[i]?):=λi=>by
  by_cases hx:∃(j:Nat) (v:Val),sub[j]?=some (some i)/\e2[j]?=some (.mu v)
  .obtain⟨j,v,q1,q2⟩:=hx;obtain⟨u,q3,q4⟩:=a.mu j v q2;obtain⟨i',s,y1,y2,y3⟩:=lk.mu j u q3;rw[q1] at y1;cases y1;refine .inl ⟨j,v,s,q1,q2,y2,y3,by rw[vb lk.inj q1 q2,y2];rfl,?_⟩;rw[q4];have hl:i<ns.length:=by rw[S.l2];exact (C_.mp y2).1
   rw[B_ hl];exact Gd q1 (B_ hl)
  .refine .inr ⟨λn q ⟨j,s,z1,z2,z3⟩=>hx ?_,oK λj v y1 y2=>hx ⟨j,v,y1,y2⟩⟩;obtain⟨v,rfl⟩:=lk.mt j s z2 z3;obtain⟨i',y4,y5⟩:=cF z1;have:i'=i:=S.inj i' i n y5 q;subst this;obtain⟨v',y6,_⟩:=a.mu' j v z2;exact⟨j,v',y4,y6⟩
 refine⟨⟨by rw[ma];exact S.l1,by rw[ma];exact S.l2,λx z=>S.lh x (a.dom x z),λn z=>(hY n z).1,S.inj,λi n q z=>?_,λi s q=>?_,hb⟩,⟨a.le,a.dom,λm o q ht hm=>a.keep m o q ht λz=>hm (hM m z),λ_ _ q=>.inl q,λi s q hl=>?_,λi s q hl=>?_,λi v q=>?_,λi v q=>?_⟩⟩
 .rcases (hY n z).2 with z |z
  .exact S.nx i n q z
  .obtain⟨_,_,_,_,_,_,_,q',_⟩:=S.own q;rw[q'] at z;cases z
 .rcases key i with ⟨j,v,s0,k1,k2,k3,k4,k5,k6⟩ |⟨k1,k2⟩
  .rw[k5] at q;cases q;have y:=S.sl i s0 k3;cases s0 with
   |ow u=>obtain⟨n,o,y1,y2,y3,_⟩:=y;obtain⟨o',z1,z2,z3⟩:=hc j v n k2 (by rw[k6];exact y1);exact⟨n,o',y1,y2,y3,z1,z2,z3⟩
   |mu u=>obtain⟨n,o,y1,y2,_⟩:=y;obtain⟨o',z1,z2,z3⟩:=hc j v n k2 (by rw[k6];exact y1);exact⟨n,o',y1,y2,z1,z2,z3⟩
   |_=>cases k4
  .rw[k2] at q;exact (S.sl i s q).mono mv λn o q1 q2 hf=>a.keep n o q2 hf.nt (k1 n q1)
 .rcases key i with ⟨j,v,s0,k1,k2,k3,k4,k5,k6⟩ |⟨k1,k2⟩
  .rw[k3] at q;cases q;cases s <;> first |cases hl;done |cases k4;done
  .rw[k2];exact⟨q,rfl⟩
 .rcases key i with ⟨j,v,s0,k1,k2,k3,k4,k5,k6⟩ |⟨k1,k2⟩
  .rw[k5] at q;cases q;cases s0 <;> first |cases hl;done |cases k4;done
  .rw[k2] at q;exact⟨q,rfl⟩
 .rcases key i with ⟨j,u,s0,k1,k2,k3,k4,k5,k6⟩ |⟨k1,k2⟩
  .rw[k5] at q;cases s0 with
   |mu w=>exact⟨w,k3,rfl⟩
   |ow w=>cases q
   |_=>cases k4
  .rw[k2] at q;exact⟨v,q,rfl⟩
 .rcases key i with ⟨j,u,s0,k1,k2,k3,k4,k5,k6⟩ |⟨k1,k2⟩
  .rw[k3] at q;cases q;exact⟨u,k5,rfl⟩
  .exact⟨v,by rw[k2];exact q,rfl⟩
end
noncomputable def inS:Sl->Sl
 |.ow v=>.mu v
 |.lo v=>.lm v
 |s=>s
noncomputable def cu (sub:Qg) (e:E3):E3:=sub.map λo=>match o with
 |none=>.no
 |some i=>match e[i]? with
  |some s=>inS s
  |none=>.no
noncomputable def lcV (g:MG3) (c:MT3) (F:ME3):List Val->List Val->E3->R3 (List Val)
 | [],acc,e=>.ok acc e
 |v::vs,acc,e=>if acc.length<16777216 then (match g v e with
  |none=>.stuck
  |some e1=>(c e1).bind λb e2=>if b=true then (F e2).bind λt e3=>(match dg e3 t with
   |some (e4,y)=>lcV g c F vs (acc++[y]) e4
   |none=>.stuck) else lcV g c F vs acc e2) else .stuck
noncomputable def vLC (I:MI3) (sub:Qg) (g:MG3) (c:MT3) (F:ME3) (e:E3):R3 Tm:=(I e).bind λp e1=>match lcV g c F p.1 [] (cu sub (lockO e1 p.2)) with
 |.ok ys e2=>if ys.length<=16777216 then .ok (.new (.lst ys)) (fE (aS sub e2 (lockO e1 p.2)) p.2) else .stuck
 |_=>.stuck
noncomputable def pLC (i:PIt) (sub:Qg) (hs:(sub.filterMap id).Nodup) (g:PGt) (c:PTs) (a:PEx):PEx:=⟨21,vLC i.G sub g.G c.G a.G⟩
def m5(sub:Qg):Prop:=∀(j k:Nat) (i:Nat),sub[j]?=some (some i)->sub[k]?=some (some i)->j=k
def zP(h:(sub.filterMap id).Nodup):m5 sub:=by
 induction sub with
 |nil=>intro j k i q;simp at q
 |
  cons o sub ih=>
  have hsub:(sub.filterMap id).Nodup:=by
   cases o with
   |none=>simpa using h
   |some i=>rw[Ox] at h;simp at h;exact h.2
  have hno:∀(i k:Nat),o=some i->sub[k]?=some (some i)->False:=λi k z q=>by subst z;rw[Ox] at h;simp at h;exact h.1 (O8 q)
  intro j k i q1 q2;cases j with
  |
   zero=>
   cases k with
   |zero=>rfl
   |succ k=>exact (hno i k (by simpa using q1) (by simpa using q2)).elim
  |
   succ j=>
   cases k with
   |zero=>exact (hno i j (by simpa using q2) (by simpa using q1)).elim
   |succ k=>exact Nz (· + 1) (ih hsub j k i (by simpa using q1) (by simpa using q2))
def Xin(X:Addr->Prop)(ns:Ns)(sub:Qg)(n:Addr):Prop:=X n\/(some n∈ns/\some n∉aX sub ns)
def sY{n:Addr}(q:some n∈aX sub ns):some n∈ns:=by obtain⟨j,q⟩:=aT.mp q;obtain⟨i,_,q2⟩:=cF q;exact aT.mpr ⟨i,q2⟩
def DQ{X:Addr->Prop}{H:Hp}:Mov (Oc X ns) (Oc (Xin X ns sub) (aX sub ns)) H H:=.of λn p=>⟨λz=>by
 rcases z with z |⟨z,_⟩
 .exact p.1 z
 .exact p.2 z,λz=>p.2 (sY z)⟩
def jw{sub:Qg}{e:E3}{j:Nat}{s:Sl}(q:(cu sub e)[j]?=some s):(sub[j]?=some none/\s=.no)\/(∃i,sub[j]?=some (some i)/\((e[i]?=none/\s=.no)\/∃t,e[i]?=some t/\s=inS t)):=by
 unfold cu at q;rw[Nq] at q;cases z:sub[j]? with
 |none=>rw[z] at q;cases q
 |
  some o=>
  rw[z] at q;cases o with
  |none=>cases q;exact .inl ⟨rfl,rfl⟩
  |
   some i=>
   refine .inr ⟨i,rfl,?_⟩;have q':=J_ q;dsimp only at q';cases y:e[i]? with
   |none=>rw[y] at q';exact .inl ⟨rfl,q'.symm⟩
   |some t=>rw[y] at q';exact .inr ⟨t,rfl,q'.symm⟩
section
variable{K:W.Frag}{mg:Qd}{X N0:Addr->Prop}{ns:Ns}{e:E3}{σ:St}{H:Hp}{sub:Qg}
def Sat.inner(S:Sat K mg X N0 ns e σ H)(hs:m5 sub):Sat K mg (Xin X ns sub) N0 (aX sub ns) (cu sub e) (fk sub σ) H:=by
 refine⟨by unfold fk cu;rw[p_,p_],by unfold aX cu;rw[p_,p_],S.lh,λn z=>?_,λj k n q1 q2=>?_,λj n q z=>?_,λj s q=>?_,S.bs⟩
 .rcases z with z |⟨z,_⟩
  .exact S.xl n z
  .obtain⟨i,z⟩:=aT.mp z;obtain⟨_,_,o,_,_,_,_,q',_⟩:=S.own z;exact⟨o,q'⟩
 .obtain⟨i,y1,y2⟩:=cF q1;obtain⟨i',y3,y4⟩:=cF q2
  have:=S.inj i i' n y2 y4
  subst this;exact hs j k i y1 y3
 .rcases z with z |⟨_,z⟩
  .obtain⟨i,y1,y2⟩:=cF q;exact S.nx i n y2 z
  .exact z (aT.mpr ⟨j,q⟩)
 .have hj:∀{o},sub[j]?=some o->(aX sub ns)[j]?=some (o.bind λi=>(ns[i]?).bind id)/\(fk sub σ)[j]?=some (o.bind λi=>(σ[i]?).bind id):=λ{o} z=>by unfold aX fk;rw[Nq,Nq,z];exact⟨rfl,rfl⟩
  rcases jw q with ⟨z,rfl⟩ |⟨i,z,⟨y,rfl⟩ |⟨t,y,rfl⟩⟩
  .rw[(hj z).1];rfl
  .rw[(hj z).1];show some ((ns[i]?).bind id)=some none;have:ns[i]?=none:=by rw[Pe] at y ⊢;rw[S.l2];exact y
   rw[this];rfl
  .have k:=(S.sl i t y).mono (DQ (sub:=sub) (H:=H)) λ_ _ _ q _=>q;rw[(hj z).1,(hj z).2];show SlR K mg _ N0 (some ((ns[i]?).bind id)) (some ((σ[i]?).bind id)) H (inS t);have w1:∀x,ns[i]?=some x->some ((ns[i]?).bind id)=some x:=λx q=>by rw[q];rfl
   have w2:∀x,σ[i]?=some x->some ((σ[i]?).bind id)=some x:=λx q=>by rw[q];rfl
   cases t with
   |no=>rw[w1 _ k];rfl
   |sh v=>obtain⟨k1,x,k2,k3⟩:=k;rw[w1 _ k1,w2 _ k2];exact⟨rfl,x,rfl,k3⟩
   |ow v=>obtain⟨m,o,k1,k2,_,k3⟩:=k;rw[w1 _ k1,w2 _ k2];exact⟨m,o,rfl,rfl,k3⟩
   |lo v=>obtain⟨m,o,k1,k2,_,k3⟩:=k;rw[w1 _ k1,w2 _ k2];exact⟨m,o,rfl,rfl,k3⟩
   |mu v=>obtain⟨m,o,k1,k2,k3⟩:=k;rw[w1 _ k1,w2 _ k2];exact⟨m,o,rfl,rfl,k3⟩
   |lm v=>obtain⟨m,o,k1,k2,k3⟩:=k;rw[w1 _ k1,w2 _ k2];exact⟨m,o,rfl,rfl,k3⟩
end
def u9(hs:m5 sub):Lnk sub e (cu sub e):=by
 refine⟨hs,λj v q=>?_,λj s q hm=>?_⟩
 .rcases jw q with ⟨_,z⟩ |⟨i,z,⟨_,y⟩ |⟨t,y,y2⟩⟩
  .cases z
  .cases y
  .refine⟨i,t,z,y,?_⟩;cases t <;> first |rfl |cases y2
 .rcases jw q with ⟨_,z⟩ |⟨i,z,⟨_,y⟩ |⟨t,y,y2⟩⟩
  .subst z;cases hm
  .subst y;cases hm
  .subst y2;cases t with
   |ow v=>exact⟨v,rfl⟩
   |mu v=>exact⟨v,rfl⟩
   |_=>cases hm
structure DTs(K:W.Frag)(mg:Qd)(X:Cx)(ES:St->XK)(es:List Expr)(F:PTs):Prop where
 ok:L2.PTs X es (rdT K mg ES F.G)
def Mov.trans{P P1 P2:Addr->Prop}{H H1 H2:Hp}(a:Mov P P1 H H1)(b:Mov P1 P2 H1 H2):Mov P P2 H H2:=⟨a.le.trans b.le,λn o p q ht=>by obtain⟨p1,q1⟩:=a.cl n o p q ht;exact b.cl n o p1 q1 ht⟩
section
variable{K:W.Frag}{mg:Qd}{X:Cx}{ES:St->XK}{a b o iter tg elt:Expr}{ifs:List Expr}{I:PIt}{g:PGt}{p:PEx}{t:PTs}{pos:Pos}{sub:Qg}
def bO:DTs K mg X ES [] qY:=⟨λpins s σ H Q i ⟨Y,N0,ns,e,S,p⟩=>EC pins s σ H Q i (PG3.ret p S)⟩
def Er{hsb:(sub.filterMap id).Nodup}(σ:St)(H:Hp)(Q:VK):rdE K mg ES (pLC I sub hsb g t p).G σ H Q->qt (rdI K mg ES I.G) sub (rdG K mg g.G) (rdT K mg (λ_=>E0) t.G) (rdE K mg (λ_=>E0) p.G) σ H Q:=λzz=>zz.el λY N0 L ns e S hl pp=>
 ⟨Y,
  N0,ns,e,S,PG3.imp pp S λw e1 ns1 H1 a1 S1 p1 J it hk=>by
  have hs':=zP hsb;have S2:=S1.lockO w.2;have S3:=S2.inner hs';try dsimp only at p1
  split at p1
  .rename_i ys
    e2 q
   split at p1
   .rename_i hy;have kp:∀{ns' e' H'},Stp (aX sub ns1) (cu sub (lockO e1 w.2)) H1 ns' e' H'->Kp Y ns1 w.2 H1 (Oc (Xin Y ns1 sub) ns') H':=λ{ns' e' H'} a=>⟨DQ.trans a.mov,λk n ob hk1 hk2 qm ht=>a.keep n ob qm ht λ⟨j,s,z1,z2,z3⟩=>by
     obtain⟨i,y1,y2⟩:=cF z1
     have:=S1.inj i k n y2 hk2
     subst this;obtain⟨s',w1,w2⟩:=hk i hk1;have hl:(lockO e1 w.2)[i]?=some (iq s'):=by rw[hk1];exact oH w1
     rcases jw z2 with ⟨z,_⟩ |⟨i',z,y⟩
     .rw[y1] at z;cases z
     .rw[y1] at z;cases z;rcases y with ⟨y,_⟩ |⟨t,y,rfl⟩
      .rw[hl] at y;cases y
      .rw[hl] at y;cases y;cases s' <;> first |cases w2;done |cases z3;done⟩
    refine⟨λi m acc σ' H'=>m=w.1.length-i/\i<=w.1.length/\∃ns' e' av,Stp (aX sub ns1) (cu sub (lockO e1 w.2)) H1 ns' e' H'/\Sat K mg (Xin Y ns1 sub) N0 ns' e' σ' H'/\Rds K mg (Oc (Xin Y ns1 sub) ns') H' acc av/\lcV g.G t.G p.G (w.1.drop i) av e'=.ok ys e2,⟨_,rfl,NM _,_,_,[],.refl,S3,.nil,q⟩,?_⟩;rintro i m acc σ' H' ⟨rfl,hi,ns',e',av,a',S',ra,q'⟩;by_cases hlt:i<w.1.length
    .rw[Pd hlt] at q';unfold lcV at q';split at q'
     .rename_i hla;obtain⟨go,yl⟩:=(it _ _ (kp a')).1 i _ (B_ hlt);refine .inr ⟨go,by rw[ra.len];exact hla,λacc' σ2 H2=>i+1<=w.1.length/\∃ns' e' av,Stp (aX sub ns1) (cu sub (lockO e1 w.2)) H1 ns' e' H2/\Sat K mg (Xin Y ns1 sub) N0 ns' e' σ2 H2/\Rds K mg (Oc (Xin Y ns1 sub) ns') H2 acc' av/\lcV g.G t.G p.G (w.1.drop (i+1)) av e'=.ok ys e2,λacc' σ2 H2 n=>⟨_,by omega,rfl,n⟩,λx H2 y=>?_⟩;obtain⟨gr,rx⟩:=yl x H2 y;have a2:=a'.trans S3 (.gr gr);have S4:=S'.gr gr;have ra2:=ra.mono gr.mov;split at q'
      .cases q'
      .rename_i e3 qg;refine⟨_,N0,ns',e',_,e3,S4,rx,qg,λσ3 ns3 a3 S5=>⟨_,N0,ns3,e3,S5,?_⟩⟩;have a4:=a2.trans S3 a3;have ra3:=ra2.mono a3.mov;cases qc:t.G e3 with
       |stuck=>rw[qc] at q';cases q'
       |exc _ _=>rw[qc] at q';cases q'
       |
        ok b e4=>
        rw[qc] at q';intro H4 ns4 a5 S6;have a6:=a4.trans S3 a5;have ra4:=ra3.mono a5.mov;show if b=true then _ else _
        have q':(if b=true then (p.G e4).bind λtt e3=>(match dg e3 tt with
         |some (e4,y)=>lcV g.G t.G p.G (w.1.drop (i+1)) (av++[y]) e4
         |none=>.stuck) else lcV g.G t.G p.G (w.1.drop (i+1)) av e4)=.ok ys e2:=q'
        by_cases hb:b=true
        .rw[if_pos hb] at q' ⊢;refine⟨_,N0,λ_=>True,ns4,e4,S6,λ_ _=>trivial,?_⟩;cases qp:p.G e4 with
         |stuck=>rw[qp] at q';cases q'
         |exc _ _=>rw[qp] at q';cases q'
         |
          ok tt e5=>
          rw[qp] at q';intro H5 ns5 a7 S7 v rv;have q':(match dg e5 tt with
           |some (e4,y)=>lcV g.G t.G p.G (w.1.drop (i+1)) (av++[y]) e4
           |none=>.stuck)=.ok ys e2:=q'
          split at q'
          .rename_i e6 u qd;obtain⟨ns6,S8,a8,r8⟩:=gg S7 rv qd;exact⟨hlt,ns6,e6,_,(a6.trans S3 a7).trans S3 a8,S8,((ra4.mono a7.mov).mono a8.mov).append (.cons r8 .nil),q'⟩
          .cases q'
        .rw[if_neg hb] at q' ⊢;exact⟨hlt,ns4,e4,av,a6,S6,ra4,q'⟩
     .cases q'
    .have hi2:i=w.1.length:=by omega
     subst hi2;rw[List.drop_length] at q';cases q';have k3:∀n,Oc (Xin Y ns1 sub) ns' n->Oc Y ns1 n:=λn z=>⟨λy=>z.1 (.inl y),λy=>by
      by_cases w:some n∈aX sub ns1
      .obtain⟨j,w⟩:=aT.mp w;obtain⟨s,v,o,b1,b2,_⟩:=S3.own w;rcases b2 with b2 |b2
       .obtain⟨v',rfl⟩:=(u9 (e:=lockO e1 _) hs').mt j s b1 b2;obtain⟨u,c1,c2⟩:=a'.mu' j v' b1;exact z.2 (aT.mpr ⟨j,by rw[c2];exact w⟩)
       .obtain⟨c1,c2⟩:=a'.lk j s b1 b2;exact z.2 (aT.mpr ⟨j,by rw[c2];exact w⟩)
      .exact z.1 (.inr ⟨y,w⟩)⟩
     obtain⟨S5,a5⟩:=S2.back (Y:=Y) (u9 hs') a' S'.bs (λn z=>by
      obtain⟨ob,z'⟩:=S2.xl n z;exact⟨by
       cases qh:H' n with
       |none=>rw[a'.dom n qh] at z';cases z'
       |some o'=>exact⟨o',rfl⟩,.inl z⟩) (λ_ z=>z) λj v n q1 q2=>by
      obtain⟨s,u,o,b1,b2,b3,b4,b5,b6,b7⟩:=S'.own q2;rw[q1] at b1;cases b1;cases b3;exact⟨o,b5,b6,b7.mono (.of k3)⟩
     have d_:∀e'',Sat K mg Y N0 ns1 e'' σ H'->Stp ns1 e1 H1 ns1 e'' H'->PG3 K mg Y N0 ns1 e1 σ H1 (ES σ) (KE K mg Y N0 L σ Q) (.ok (.new (.lst ys)) e'')->∀D,H' D=none->Q (.ref D) (upd H' D (.lst acc)):=λe'' S6 a6 p6 D hD=>
      PG3.bv (b:=.new (.lst ys)) (p6.after S1 a6) S6 (λa z=>hl a (a1.dom a (a6.dom a z))) H' D _ .refl hD trivial (.lst (ra.mono (.of k3)))
     refine .inl ⟨(it _ _ (kp a')).2,by rw[ra.len];exact hy,?_⟩;cases hp:w.2 with
     |none=>rw[hp] at S5 a5 p1;exact d_ _ S5 a5 p1
     |some k=>rw[hp] at S5 a5 p1;obtain⟨s,w1,w2⟩:=hk k hp;exact d_ _ (S5.unlock k) (a5.unlock w1 w2) p1
   .exact p1.elim
  .exact p1.elim⟩
def gF{scope:Scope}(M:List Str)(kn:List (Str×NameKind))(N:List Str)(sub:Qg){hsb:(sub.filterMap id).Nodup}(hi:DI K mg X ES tg iter I)(hg:N.Nodup->∀cl C s₂ H fp,DG K mg (bT X N scope cl C s₂ H fp) tg g)(ht:N.Nodup->∀cl C s₂ H fp,DTs K mg (bT X N scope cl C s₂ H fp) (λ_=>E0) ifs t)(he:N.Nodup->∀cl C s₂ H fp,DE K mg (bT X N scope cl C s₂ H fp) (λ_=>E0) elt p)(hnd:N.Nodup:=by decide)(hc:X.calm=true:=by rfl)(hM:X.N=M:=by rfl)(hkn:X.env.scope.names=kn:=by rfl)(hsub:qM M scope.names sub N=true:=by decide)(hk:scope.kind=.function:=by rfl)(hnc:∀x∈scope.names,x.2 ≠ .cell:=by decide)(f_:∀x∈scope.names,x.2=.local->scope.names.lookup x.1=some .local:=by decide)(hfr:xa kn scope.names=true:=by decide)(hsl:sub.length=N.length:=by rfl)(hs:∀x,foldedSetIterable iter X.env x=pure x:=by intro _;rfl):DE K mg X ES (.ListComp elt [⟨tg,iter,ifs,0⟩] scope pos) (pLC I sub hsb g t p):=
 ⟨PE.imp (JL hc hi.ok hk hnc f_ (by subst hkn;exact wa hfr) hsl (by subst hM;exact ur hsub) (λcl C s H f=>(hg hnd cl C s H f).ok) (λcl C s H f=>(ht hnd cl C s H f).ok) (λcl C s H f=>(he hnd cl C s H f).ok) hs) Er⟩
def BX{ow:Bool}{px spos:Pos}{iT:Nat}{xT:Str}{scope:Scope}(hN:X.N.Nodup)(M:List Str)(kn:List (Str×NameKind))(N:List Str)(sub:Qg){hsb:(sub.filterMap id).Nodup}(hi:DI K mg X ES tg iter I)(hg:N.Nodup->∀cl C s₂ H fp,DG K mg (bT X N scope cl C s₂ H fp) tg g)(ht:N.Nodup->∀cl C s₂ H fp,DTs K mg (bT X N scope cl C s₂ H fp) (λ_=>E0) ifs t)(he:N.Nodup->∀cl C s₂ H fp,DE K mg (bT X N scope cl C s₂ H fp) (λ_=>E0) elt p)(hsw:swapsWith (.ListComp elt [⟨tg,iter,ifs,0⟩] scope pos) (some (.Name xT px)) spos.line X.env=pure true:=by rfl)(hnd:N.Nodup:=by decide)(hc:X.calm=true:=by rfl)(hix:X.N[iT]?=some xT:=by rfl)(hxl:Loc X.env.scope xT:=by first |exact Or.inl rfl |exact Or.inr rfl)(hM:X.N=M:=by rfl)(hkn:X.env.scope.names=kn:=by rfl)(hsub:qM M scope.names sub N=true:=by decide)(hk:scope.kind=.function:=by rfl)(hnc:∀x∈scope.names,x.2 ≠ .cell:=by decide)(f_:∀x∈scope.names,x.2=.local->scope.names.lookup x.1=some .local:=by decide)(hfr:xa kn scope.names=true:=by decide)(hsl:sub.length=N.length:=by rfl)(hs:∀x,foldedSetIterable iter X.env x=pure x:=by intro _;rfl)(hf:X.fn xT=true\/X.env.scope.names.lookup xT=some .local:=by first |exact .inl rfl |exact .inr rfl |assumption):DS K mg X ES (.Assign [.Name xT px] (.ListComp elt [⟨tg,iter,ifs,0⟩] scope pos) spos) (aw ow iT (pLC I sub hsb g t p)):=
 ⟨PS.imp (Il hc hN hix hxl hi.ok hk hnc f_ (by subst hkn;exact wa hfr) hsl (by subst hM;exact ur hsub) (λcl C s H f=>(hg hnd cl C s H f).ok) (λcl C s H f=>(ht hnd cl C s H f).ok) (λcl C s H f=>(he hnd cl C s H f).ok) hsw hs hf) λD σ H q=>Er σ H _ (A9 D σ H q)⟩
end
inductive R3F where
 |ok (r:Rt) (mv:List Val) |exc (c:Str) (mv:List Val) |stuck
abbrev Fn3:=List Val->R3F
noncomputable def sl1 (b:Bool) (v:Val):Sl:=if b=true then .mu v else .sh v
noncomputable def sls (ms:List Bool) (vs:List Val):E3:=List.zipWith sl1 ms vs
noncomputable def aA:List Bool->List Val->E3
 |true::ms,v::vs=>.mu v::aA ms vs
 |true::ms,[]=>.no::aA ms []
 |false::ms,vs=>.no::aA ms vs
 | [],_=>[]
noncomputable def muV:List Bool->E3->Option (List Val)
 |true::ms,.mu v::e=>(muV ms e).map (v :: ·)
 |true::_,_=>none
 |false::ms,_::e=>muV ms e
 |false::_,[]=>none
 | [],_=>some []
noncomputable def fnV (ms:List Bool) (N:Nat) (F:MS3):Fn3:=λvs=>if vs.length=ms.length then (match F (sls ms vs++List.replicate (N-vs.length) .no) with
 |.nx e=>(match muV ms e with |some mv=>.ok (.val .non) mv |none=>.stuck)
 |.rt r e=>(match muV ms e with |some mv=>.ok r mv |none=>.stuck)
 |.exc c e=>(match muV ms e with |some mv=>.exc c mv |none=>.stuck)
 |_=>.stuck) else .stuck
def fB{ms:List Bool}{vs:List Val}{i:Nat}{s:Sl}(q:(sls ms vs)[i]?=some s):∃b v,ms[i]?=some b/\vs[i]?=some v/\s=sl1 b v:=by
 unfold sls at q;rw[OF] at q;cases h1:ms[i]? with
 |none=>rw[h1] at q;cases q
 |
  some b=>
  cases h2:vs[i]? with
  |none=>rw[h1,h2] at q;cases q
  |some v=>rw[h1,h2] at q;cases q;exact⟨b,v,rfl,rfl,rfl⟩
theorem ie:∀{ms:List Bool}{e:E3}{mv:List Val}{i:Nat}{s:Sl},muV ms e=some mv->(aA ms mv)[i]?=some s->(ms[i]?=some false/\s=.no)\/(ms[i]?=some true/\∃v,e[i]?=some (.mu v)/\s=.mu v)
 | [],_,_,_,_,_,q=>by unfold aA at q;simp at q
 |
  true::ms,.mu v::e,mv,i,s,q,q2=>by
  obtain⟨mv',z1,z2⟩:=Np.mp (show (muV ms e).map (v :: ·)=some mv from q);subst z2;cases i with
  |zero=>
   right;have:Sl.mu v=s:=by simpa [aA] using q2
   subst this;exact⟨rfl,v,rfl,rfl⟩
  |
   succ i=>
   have:=ie (i:=i) (s:=s) z1 (by simpa [aA] using q2)
   simpa using this
 |true::ms,[],mv,i,s,q,q2=>by cases q
 |true::ms,.no::e,mv,i,s,q,q2=>by cases q
 |true::ms,.sh v::e,mv,i,s,q,q2=>by cases q
 |true::ms,.ow v::e,mv,i,s,q,q2=>by cases q
 |true::ms,.lo v::e,mv,i,s,q,q2=>by cases q
 |true::ms,.lm v::e,mv,i,s,q,q2=>by cases q
 |false::ms,[],mv,i,s,q,q2=>by cases q
 |
  false::ms,t::e,mv,i,s,q,q2=>by
  cases i with
  |zero=>
   left;have:Sl.no=s:=by simpa [aA] using q2
   exact⟨rfl,this.symm⟩
  |
   succ i=>
   have:=ie (i:=i) (s:=s) (show muV ms e=some mv from q) (by simpa [aA] using q2)
   simpa using this
theorem oJ:∀{ms:List Bool}{e:E3}{mv:List Val}{i:Nat},muV ms e=some mv->ms[i]?=some true->∃v,e[i]?=some (.mu v)/\(aA ms mv)[i]?=some (.mu v)
 | [],_,_,i,_,q=>by simp at q
 |
  true::ms,.mu v::e,mv,i,q,q2=>by
  obtain⟨mv',z1,z2⟩:=Np.mp (show (muV ms e).map (v :: ·)=some mv from q);subst z2;cases i with
  |zero=>exact⟨v,rfl,rfl⟩
  |succ i=>obtain⟨u,y1,y2⟩:=oJ (i:=i) z1 (by simpa using q2);exact⟨u,by simpa using y1,by simpa [aA] using y2⟩
 |true::ms,[],mv,i,q,q2=>by cases q
 |true::ms,.no::e,mv,i,q,q2=>by cases q
 |true::ms,.sh v::e,mv,i,q,q2=>by cases q
 |true::ms,.ow v::e,mv,i,q,q2=>by cases q
 |true::ms,.lo v::e,mv,i,q,q2=>by cases q
 |true::ms,.lm v::e,mv,i,q,q2=>by cases q
 |false::ms,[],mv,i,q,q2=>by cases q
 |
  false::ms,t::e,mv,i,q,q2=>by
  cases i with
  |zero=>simp at q2
  |succ i=>obtain⟨u,y1,y2⟩:=oJ (i:=i) (show muV ms e=some mv from q) (by simpa using q2);exact⟨u,by simpa using y1,by simpa [aA] using y2⟩
theorem ia:∀{ms:List Bool}{mv:List Val},(aA ms mv).length=ms.length
 | [],_=>rfl
 |true::ms,v::mv=>by show (aA ms mv).length+1=ms.length+1;rw[ia]
 |true::ms,[]=>by show (aA ms []).length+1=ms.length+1;rw[ia]
 |false::ms,mv=>by show (aA ms mv).length+1=ms.length+1;rw[ia]
noncomputable def iP (i:Nat):List Tm->Bool
 |.bor j::ts=>(i==j) || iP i ts
 |_::ts=>iP i ts
 | []=>false
noncomputable def jX (i:Nat):List Bool->List Tm->Bool
 |true::ms,.bor j::ts=>(i==j) || jX i ms ts
 |_::ms,_::ts=>jX i ms ts
 |_,_=>false
noncomputable def okA (e:E3):List Bool->List Tm->Bool
 |true::ms,.bor i::ts=>((e[i]?).bind Sl.mv).isSome && !(iP i ts)&&okA e ms ts
 |true::_,_::_=>false
 |false::ms,.bor i::ts=>!(jX i ms ts)&&okA e ms ts
 |false::ms,_::ts=>okA e ms ts
 | [],[]=>true
 |_,_=>false
noncomputable def oO (b:Bool) (t:Tm):Option Nat:=match b,t with
 |true,.bor i=>some i
 |_,_=>none
noncomputable def aP (ms:List Bool) (ts:List Tm):List (Option Nat):=List.zipWith oO ms ts
noncomputable def aO (e:E3):List Bool->List Tm->List Nat
 |false::ms,.bor i::ts=>(match e[i]? with
  |some (.sh _)=>aO e ms ts
  |_=>i::aO e ms ts)
 |_::ms,_::ts=>aO e ms ts
 |_,_=>[]
mutual
def flatV:Val->Bool
 |.tup xs=>flatVs xs
 |.lst _=>false
 |.kl _=>false
 |.dct _=>false
 |.set _=>false
 |_=>true
def flatVs:List Val->Bool
 | []=>true
 |v::vs=>flatV v&&flatVs vs
end
noncomputable def mh:List (Key×Val)->Bool
 | []=>true
 |(_,v)::vs=>flatV v&&mh vs
noncomputable def cN:Val->Bool
 |.lst xs=>flatVs xs
 |.dct xs=>mh xs
 |.set _=>true
 |_=>false
noncomputable def kM:Rt->Bool
 |.val v=>flatV v
 |.new v=>cN v
 |.par _=>true
 |.pr v u=>flatV v&&cN u
noncomputable def nO (e:E3):List Nat->Option E3
 | []=>some e
 |i::is=>match dg e (.bor i) with
  |some (e1,_)=>nO e1 is
  |none=>none
noncomputable def Rt.tm (ts:List Tm):Rt->Tm
 |.val v=>.val v
 |.new v=>.new v
 |.par i=>(ts[i]?).getD (.val .non)
 |.pr v u=>.val (.tup [v,u])
noncomputable def D3 (ms:List Bool) (G:Fn3) (A:MA3) (e:E3):R3 Tm:=(A e).bind λts e1=>match rss e1 ts with
 |none=>.stuck
 |some vs=>if okA e1 ms ts=true then (match G vs with
  |.stuck=>.stuck
  |.ok r mv=>if (aO e1 ms ts).isEmpty || (kM r&&mv.all cN) then .ok (r.tm ts) (aS (aP ms ts) (aA ms mv) e1) else (match nO e1 (aO e1 ms ts) with
   |some e2=>.ok (r.tm ts) (aS (aP ms ts) (aA ms mv) e2)
   |none=>.stuck)
  |.exc c mv=>if (aO e1 ms ts).isEmpty || mv.all cN then .exc c (aS (aP ms ts) (aA ms mv) e1) else .stuck) else .stuck
section
variable{K:W.Frag}{mg:Qd}{P P':Addr->Prop}{H H':Hp}
def Rd.flat(l:LeH H H')(f:flatV v=true)(r:Rd K mg P H d v):Rd K mg P' H' d v:=
 @Rd.rec K mg P H (λd v _=>flatV v=true->Rd K mg P' H' d v) (λo v _=>flatV v=true->Rd K mg P' H' .non v) (λds vs _=>flatVs vs=true->Rds K mg P' H' ds vs) (λws us _=>True) (λ_=>.non) (λb _=>.bl b) (λi _=>.int i) (λx _=>.str x) (λn _=>.ty n) (λm _=>.glb m) (λm e _=>.exc m (l.ext _ _ e)) (λh _ ih f=>.tup (l.sqT h) (ih f)) (λ_ _ _ f=>absurd f x_) (λ_ _ r _ f=>by cases r <;> exact absurd f x_) (λ_ _ f=>absurd f x_) (λ_ _ f=>absurd f x_) (λ_ _ f=>absurd f x_) (λ_ _ f=>absurd f x_) (λ_=>.nil) (λ_ _ a b f=>.cons (a (v_ .. ▸ f).1) (b (v_ .. ▸ f).2)) trivial (λ_ _ _ _=>trivial) d v r f
def Rds.flat(l:LeH H H')(f:flatVs v=true)(r:Rds K mg P H ds v):Rds K mg P' H' ds v:=
 r.ind (M:=λds vs=>flatVs vs=true->Rds K mg P' H' ds vs) (λ_=>.nil) (λr _ ih f=>by rw[flatVs,v_] at f;exact .cons (Rd.flat l f.1 r) (ih f.2)) f
def Rk.flat(l:LeH H H')(f:mh v=true)(r:Rk K mg P H ds v):Rk K mg P' H' ds v:=
 r.ind (M:=λds vs=>mh vs=true->Rk K mg P' H' ds vs) (λ_=>.nil) (λr _ ih f=>by rw[mh,v_] at f;exact .cons (Rd.flat l f.1 r) (ih f.2)) f
def Rc.flat(l:LeH H H')(f:cN v=true)(r:Rc K mg P H o v):Rc K mg P' H' o v:=by
 cases r with
 |lst r=>exact .lst (Rds.flat l (by simpa [cN] using f) r)
 |fz r=>simp [cN] at f
 |dct r=>exact .dct (Rk.flat l (by simpa [cN] using f) r)
 |set xs nd=>exact .set xs nd
end
structure PFn where
 ms:List Bool
 G:Fn3
def nn(H:Hp)(a:Addr):Prop:=H a=none
def sp3(K:W.Frag)(mg:Qd)(f:PFn):Sp:=λvs H Q E=>∃Y ps us,us.length=f.ms.length/\Sat K mg Y (nn H) ps (sls f.ms us) (vs.map some) H/\match f.G us with
 |.ok r mv=>∀x H',Stp ps (sls f.ms us) H ps (aA f.ms mv) H'->RtR K mg Y (nn H) ps (aA f.ms mv) (vs.map some) H' x r->Q x H'
 |.exc c mv=>∀C H',Stp ps (sls f.ms us) H ps (aA f.ms mv) H'->Sat K mg Y (nn H) ps (aA f.ms mv) (vs.map some) H'->mg c=some (.ref C)->E (.ref C) none H'
 |.stuck=>False
noncomputable def fnP (ms:List Bool) (N:Nat) (c:PSt):PFn:=⟨ms,fnV ms N c.G⟩
section
variable{K:W.Frag}{mg:Qd}{X N0:Addr->Prop}{ps:Ns}{e:E3}{H H':Hp}{ms:List Bool}{us:List Val}{vs:List V}{k:Nat}
def Fi(S:Sat K mg X N0 ps e σ H):Sat K mg X N0 (ps++List.replicate k none) (e++List.replicate k .no) (σ++List.replicate k none) H:=by
 have gns:∀{i n:Nat},(ps++List.replicate k (none:Option Addr))[i]?=some (some n)->ps[i]?=some (some n):=λ{i n} q=>by
  rw[PQ] at q;split at q
  .exact q
  .rw[N_] at q;split at q <;> cases q
 refine⟨?_,?_,S.lh,S.xl,λi j n q1 q2=>S.inj i j n (gns q1) (gns q2),λi n q=>S.nx i n (gns q),λi s q=>?_,S.bs⟩
 .rw[K_,K_,OG,OG,S.l1]
 .rw[K_,K_,OG,OG,S.l2]
 .rw[PQ] at q;split at q
  .rename_i hi;rw[NL (by rw[S.l2];exact hi),NL (by rw[S.l1];exact hi)];exact (S.sl i s q).mono (.of λn p=>⟨p.1,λz=>p.2 (by obtain⟨j,z⟩:=aT.mp z;exact aT.mpr ⟨j,gns z⟩)⟩) λ_ _ _ q _=>q
  .rename_i hi;rw[N_] at q;split at q
   .cases q;rw[OM (by rw[S.l2];exact Nat.le_of_not_lt hi),N_,if_pos (by rw[S.l2];assumption)];rfl
   .cases q
def jh{Y:Addr->Prop}(hl:us.length=ms.length)(S:Sat K mg X N0 ps (sls ms us) σ H)(hXY:∀n,X n->Y n)(a:Stp (ps++List.replicate k none) (sls ms us++List.replicate k .no) H ns' e' H')(S2:Sat K mg Y N0 ns' e' σ' H')(qm:muV ms e'=some mv):
 Stp ps (sls ms us) H ps (aA ms mv) H'/\Sat K mg Y N0 ps (aA ms mv) σ H'/\∀n,Oc Y ns' n->Oc Y ps n:=by
 have lS:(sls ms us).length=ms.length:=by unfold sls;rw[Oy];omega
 have ltS:∀{i:Nat},i<ms.length->i<(sls ms us).length:=λh=>by omega
 have ltP:∀{i:Nat},i<(sls ms us).length->i<ps.length:=λh=>S.l2.symm ▸ h;have kmu:∀{i:Nat},ms[i]?=some true->∃v u n o,e'[i]?=some (.mu v)/\(aA ms mv)[i]?=some (.mu v)/\(sls ms us)[i]?=some (.mu u)/\ns'[i]?=ps[i]?/\ps[i]?=some (some n)/\σ[i]?=some (some (.ref n))/\H' n=some o/\NotFz o/\Rc K mg (Oc Y ns') H' o v:=by intro i hi;obtain⟨v,y1,y2⟩:=oJ qm hi;have hil:i<ms.length:=(C_.mp hi).1;obtain⟨u,y3,y4⟩:=a.mu i v y1;rw[NL (ltS hil)] at y3;rw[NL (ltP (ltS hil))] at y4;obtain⟨n,o,z1,z2,_⟩:=S.sl i _ y3;obtain⟨n',o',w1,w2,w3,w4,w5⟩:=S2.sl i _ y1;rw[y4,z1] at w1;cases w1;exact⟨v,u,n,o',y1,y2,y3,y4,z1,z2,w3,w4,w5⟩
 have kown:∀{i n:Nat},ps[i]?=some (some n)->ms[i]?=some true:=λ{i n} q=>by
  obtain⟨s,v,o,z1,z2,_⟩:=S.own q;obtain⟨b,u,y1,_,y2⟩:=fB z1;cases b with
  |true=>exact y1
  |false=>subst y2;rcases z2 with z2 |z2 <;> cases z2
 have koc:∀n,Oc Y ns' n->Oc Y ps n:=λn z=>⟨z.1,λy=>by obtain⟨i,y⟩:=aT.mp y;obtain⟨v,u,n',o,_,_,_,k1,k2,_⟩:=kmu (kown y);exact z.2 (aT.mpr ⟨i,by rw[k1];exact y⟩)⟩;refine⟨⟨a.le,a.dom,λm o q ht hm=>a.keep m o q ht λ⟨i,s,z1,z2,z3⟩=>hm ?_,λ_ _ q=>.inl q,λi s q hl'=>?_,λi s q hl'=>?_,λi v q=>?_,λi v q=>?_⟩,⟨?_,?_,λn z=>S.lh n (a.dom n z),S2.xl,S.inj,λi n q z=>?_,λi s q=>?_,S2.bs⟩,koc⟩
 .rw[PQ] at z1;split at z1
  .rename_i hi;rw[NL (by rw[<- S.l2];exact hi)] at z2;exact⟨i,s,z1,z2,z3⟩
  .rw[N_] at z1;split at z1 <;> cases z1
 .obtain⟨b,u,_,_,y⟩:=fB q;subst y;cases b <;> cases hl'
 .rcases ie qm q with ⟨_,z⟩ |⟨_,v,_,z⟩ <;> subst z <;> cases hl'
 .rcases ie qm q with ⟨_,z⟩ |⟨z,_⟩
  .cases z
  .obtain⟨v',u,n,o,_,_,k1,_⟩:=kmu z;exact⟨u,k1,rfl⟩
 .obtain⟨b,u,y1,_,y2⟩:=fB q;cases b with
  |false=>cases y2
  |true=>obtain⟨v',u,n,o,_,k0,k1,_⟩:=kmu y1;exact⟨v',k0,rfl⟩
 .rw[S.l1,ia];exact lS
 .rw[S.l2,ia];exact lS
 .obtain⟨v,u,n',o,_,_,_,k1,k2,_⟩:=kmu (kown q);exact S2.nx i n (by rw[k1];exact q) z
 .rcases ie qm q with ⟨z,rfl⟩ |⟨z,v,z2,rfl⟩
  .have hil:i<ms.length:=(C_.mp z).1;have hi:i<(sls ms us).length:=ltS hil;obtain⟨b,u,y1,_,y2⟩:=fB (B_ hi);rw[z] at y1;cases y1;have k:=S.sl i _ (B_ hi);rw[y2] at k;exact k.1
  .obtain⟨v',u,n,o,k0,_,_,k1,k2,k3,k4,k5,k6⟩:=kmu z;rw[z2] at k0;cases k0;exact⟨n,o,k2,k3,k4,k5,k6.mono (.of koc)⟩
variable{P:Program}{w:World}{base:Heap}{fx:Str}{m_:Stmt}{n m:Nat}{pn N:List Str}{x:PSt}
def rP(sp:sp3 K mg (fnP ms m x) vs H Q E):vs.length=ms.length:=by obtain⟨Y,ps,us,hl,S,_⟩:=sp;have q:=S.l1;unfold sls at q;rw[p_,Oy] at q;have hl':us.length=ms.length:=hl;have:(fnP ms m x).ms=ms:=rfl;rw[this] at q;omega
def qX{Q:VK}{E:XK}(sp:sp3 K mg (fnP ms N.length x) vs H Q E):rdS K mg (λ_=>E) x.G { nx:=λ_ H'=>Q .non H',rt:=Q } (gv N vs) H:=by
 have hv:=rP sp;obtain⟨Y,ps,us,hl,S0,p⟩:=sp;have hl:us.length=ms.length:=hl;have S0:Sat K mg Y (nn H) ps (sls ms us) (vs.map some) H:=S0;have S1:=Fi (k:=N.length-vs.length) S0;refine⟨Y,nn H,_,_,S1,?_⟩;have p:match fnV ms N.length x.G us with
  |.ok r mv=>∀y H',Stp ps (sls ms us) H ps (aA ms mv) H'->RtR K mg Y (nn H) ps (aA ms mv) (vs.map some) H' y r->Q y H'
  |.exc c mv=>∀C H',Stp ps (sls ms us) H ps (aA ms mv) H'->Sat K mg Y (nn H) ps (aA ms mv) (vs.map some) H'->mg c=some (.ref C)->E (.ref C) none H'
  |.stuck=>False:=p
 unfold fnV at p;rw[if_pos hl] at p;have hvu:us.length=vs.length:=by omega
 rw[hvu] at p;cases q:x.G (sls ms us++List.replicate (N.length-vs.length) .no) with
 |stuck=>rw[q] at p;exact p.elim
 |bk _=>rw[q] at p;exact p.elim
 |ct _=>rw[q] at p;exact p.elim
 |
  nx e'=>
  rw[q] at p;intro H' σ' ns' a S2;try dsimp only at p
  cases qm:muV ms e' with
  |none=>rw[qm] at p;exact p.elim
  |some mv=>rw[qm] at p;obtain⟨a3,S3,koc⟩:=jh hl S0 (λ_ z=>z) a S2 qm;exact p _ _ a3 ⟨S3,.non⟩
 |
  exc c e'=>
  rw[q] at p;intro H' σ' ns' C a S2 hC;try dsimp only at p
  cases qm:muV ms e' with
  |none=>rw[qm] at p;exact p.elim
  |some mv=>rw[qm] at p;obtain⟨a3,S3,koc⟩:=jh hl S0 (λ_ z=>z) a S2 qm;exact p _ _ a3 S3 hC
 |
  rt r e'=>
  rw[q] at p;intro H' σ' ns' y a rr;try dsimp only at p
  cases qm:muV ms e' with
  |none=>rw[qm] at p;exact p.elim
  |
   some mv=>
   rw[qm] at p;cases r with
   |val v=>obtain⟨a3,S3,koc⟩:=jh hl S0 (λ_ z=>z) a rr.1 qm;exact p _ _ a3 ⟨S3,rr.2.mono (.of koc)⟩
   |new v=>obtain⟨n,o,z1,z2,z3,z4,z5,z6,z7⟩:=rr;obtain⟨a3,S3,koc⟩:=jh (Y:=Xn Y n) hl S0 (λ_ z=>.inl z) a z6 qm;exact p _ _ a3 ⟨n,o,z1,z2,z3,z4,z5,S3,z7.mono (.of koc)⟩
   |pr v u=>obtain⟨pp,d1,n,o,z0,z1,z2,z3,z4,z5,z6,z7,z8⟩:=rr;obtain⟨a3,S3,koc⟩:=jh (Y:=Xn Y n) hl S0 (λ_ z=>.inl z) a z6 qm;exact p _ _ a3 ⟨pp,d1,n,o,z0,z1,z2,z3,z4,z5,S3,z7.mono (.of koc),z8.mono (.of koc)⟩
   |
    par i=>
    obtain⟨R1,R2,v,R3⟩:=rr;obtain⟨a3,S3,koc⟩:=jh hl S0 (λ_ z=>z) a R1 qm;refine p _ _ a3 ⟨S3,?_,?_⟩;all_goals
     obtain⟨u,k1,k2⟩:=a.mu i v R3;have hi:i<(sls ms us).length:=by apply Decidable.byContradiction;intro hi;rw[OM (Nat.le_of_not_lt hi),N_] at k1;split at k1 <;> cases k1
     rw[NL hi] at k1;rw[NL (by rw[S0.l2];exact hi)] at k2;obtain⟨m,o,w1,w2,_⟩:=S0.sl i _ k1
    .obtain⟨m',o',x1,x2,_⟩:=R1.sl i _ R3;rw[k2,w1] at x1;cases x1;rw[R2] at x2;cases x2;exact w2
    .obtain⟨v',y,_⟩:=a3.mu' i u k1;exact⟨v',y⟩
def okP(D:Def K mg fx m_)(S:FnScope N pn (ar m_))
 (hb:∀(kV doc pm:Value) (an:Option Addr) (cdv ct:Value) (us:List Value),us.length=pn.length->bindArgs (W.fnOf fx fx (dC m_) (bH m_) (ar m_) .none kV doc pm an cdv ct) ⟨us,[]⟩=pure (pn.zip us))
 (j_:N.Nodup->∀(f:Addr) (cdv:Value) (A:Around) (outer:List Env) (s:Shared) (H:Hp) (E:XK),Room k (A.deeper (envOfC fx (ar m_) s.heap.objs.size f cdv))->
  DSs K mg (eR (CX1 P w) P w K mg base N fx (ar m_) f cdv A outer s H E) (λ_=>E) (bH m_) x) (hn:ms.length=pn.length:=by rfl) (hm:N.length=m:=by rfl):Callee P w K mg base fx (k+1) pn (sp3 K mg (fnP ms m x)):=by
 subst hm;exact D.okR S hb (λvs H Q E sp=>by rw[<- hn];exact rP sp) λf cdv A outer s H vs Q E hr sp=>⟨_,(j_ S.nd f cdv A outer s H E hr).ok,qX sp⟩
end
theorem n8:∀{ts:List Tm}{k:Nat},ts[k]?=some (.bor i)->iP i ts=true
 | [],_,q=>by simp at q
 |
  t::ts,0,q=>by
  have:t=.bor i:=by simpa using q
  subst this;simp [iP]
 |
  t::ts,k+1,q=>by
  have:=n8 (ts:=ts) (k:=k) (by simpa using q)
  cases t <;> simp [iP,this]
theorem vg:∀{ms:List Bool}{ts:List Tm}{k:Nat},ms[k]?=some true->ts[k]?=some (.bor i)->jX i ms ts=true
 | [],_,_,q,_=>by simp at q
 |_::_,[],_,_,q=>by simp at q
 |
  b::ms,t::ts,0,q1,q=>by
  have:t=.bor i:=by simpa using q
  have:b=true:=by simpa using q1
  subst_vars;simp [jX]
 |
  b::ms,t::ts,k+1,q1,q=>by
  have:=vg (ms:=ms) (ts:=ts) (k:=k) (by simpa using q1) (by simpa using q)
  cases b <;> cases t <;> simp [jX,this]
theorem kC:∀{ms:List Bool}{ts:List Tm}{k:Nat},okA e ms ts=true->ms[k]?=some true->∃i,ts[k]?=some (.bor i)/\∃u,(e[i]?).bind Sl.mv=some u
 | [],_,_,_,q=>by simp at q
 |b::ms,[],_,o,_=>by cases b <;> simp [okA] at o
 |
  b::ms,t::ts,0,o,q=>by
  have:b=true:=by simpa using q
  subst this;cases t with
  |bor i=>simp only[okA,v_] at o;exact⟨i,rfl,Ou.mp o.1.1⟩
  |_=>simp [okA] at o
 |
  b::ms,t::ts,k+1,o,q=>by
  have o':okA e ms ts=true:=by cases b <;> cases t <;> simp only[okA,v_] at o <;> first |exact o.2 |exact o |(simp at o;done)
  obtain⟨i,y⟩:=kC (k:=k) o' (by simpa using q);exact⟨i,by simpa using y⟩
theorem iU:∀{ms:List Bool}{ts:List Tm}{k j i:Nat},okA e ms ts=true->ms[k]?=some true->ts[k]?=some (.bor i)->ts[j]?=some (.bor i)->j=k
 | [],_,_,_,_,_,q,_,_=>by simp at q
 |b::ms,[],_,_,_,o,_,_,_=>by cases b <;> simp [okA] at o
 |b::ms,t::ts,0,0,i,o,q1,q2,q3=>rfl
 |
  b::ms,t::ts,0,j+1,i,o,q1,q2,q3=>by
  have h1:b=true:=by simpa using q1
  have h2:t=.bor i:=by simpa using q2
  subst h1 h2;simp only[okA,v_] at o
  have:=n8 (i:=i) (ts:=ts) (k:=j) (by simpa using q3)
  rw[this] at o;simp at o
 |
  b::ms,t::ts,k+1,0,i,o,q1,q2,q3=>by
  have h2:t=.bor i:=by simpa using q3
  subst h2;have hm:=vg (i:=i) (ms:=ms) (ts:=ts) (k:=k) (by simpa using q1) (by simpa using q2);have hb:=n8 (i:=i) (ts:=ts) (k:=k) (by simpa using q2);cases b <;> simp [okA,hm,hb] at o
 |
  b::ms,t::ts,k+1,j+1,i,o,q1,q2,q3=>by
  have o':okA e ms ts=true:=by cases b <;> cases t <;> simp only[okA,v_] at o <;> first |exact o.2 |exact o |(simp at o;done)
  exact Nz (· + 1) (iU (k:=k) (j:=j) (i:=i) o' (by simpa using q1) (by simpa using q2) (by simpa using q3))
theorem oa:∀{ms:List Bool}{ts:List Tm},okA e ms ts=true->ms.length=ts.length
 | [],[],_=>rfl
 | [],_::_,o=>by simp [okA] at o
 |b::ms,[],o=>by cases b <;> simp [okA] at o
 |
  b::ms,t::ts,o=>by
  have o':okA e ms ts=true:=by cases b <;> cases t <;> simp only[okA,v_] at o <;> first |exact o.2 |exact o |(simp at o;done)
  exact Nz (· + 1) (oa o')
theorem lE:∀{ms:List Bool}{ts:List Tm}{k i:Nat},ms[k]?=some false->ts[k]?=some (.bor i)->(∀v,e[i]?≠some (.sh v))->i∈aO e ms ts
 | [],_,_,_,q,_,_=>by simp at q
 |_::_,[],_,_,_,q,_=>by simp at q
 |
  b::ms,t::ts,0,i,q1,q2,hn=>by
  have h1:b=false:=by simpa using q1
  have h2:t=.bor i:=by simpa using q2
  subst h1 h2;unfold aO;split
  .rename_i v q;exact absurd q (hn v)
  .exact r_ ..
 |
  b::ms,t::ts,k+1,i,q1,q2,hn=>by
  have ih:=lE (ms:=ms) (ts:=ts) (k:=k) (by simpa using q1) (by simpa using q2) hn;cases b <;> cases t <;> simp only[aO] <;> first |exact ih |(split;exact ih;exact q_ _ ih)
def fA{ms:List Bool}{ts:List Tm}{k i:Nat}(q:(aP ms ts)[k]?=some (some i)):ms[k]?=some true/\ts[k]?=some (.bor i):=by
 unfold aP at q;rw[OF] at q;cases h1:ms[k]? with
 |none=>rw[h1] at q;cases q
 |
  some b=>
  cases h2:ts[k]? with
  |none=>rw[h1,h2] at q;cases q
  |some t=>rw[h1,h2] at q;have q':oO b t=some i:=J_ q;cases b <;> cases t <;> first |(cases q';done) |(cases q';exact⟨rfl,rfl⟩)
def Fv{ms:List Bool}{ts:List Tm}{k i:Nat}(q1:ms[k]?=some true)(q2:ts[k]?=some (.bor i)):(aP ms ts)[k]?=some (some i):=by unfold aP;rw[OF,q1,q2];rfl
theorem vU:∀{ts:List Tm}{vs:List Val}{k:Nat}{v:Val},rss e ts=some vs->vs[k]?=some v->∃t,ts[k]?=some t/\rs e t=some v
 | [],_,_,_,q,q2=>by cases q;simp at q2
 |
  t::ts,vs,k,v,q,q2=>by
  unfold rss at q;split at q
  .rename_i u us e1 e2;cases q;cases k with
   |zero=>
    have:u=v:=by simpa using q2
    subst this;exact⟨t,rfl,e1⟩
   |succ k=>obtain⟨t',y1,y2⟩:=vU (k:=k) e2 (by simpa using q2);exact⟨t',by simpa using y1,y2⟩
  .cases q
theorem oR:∀{ts:List Tm}{vs:List Val},rss e ts=some vs->vs.length=ts.length
 | [],_,q=>by cases q;rfl
 |
  t::ts,vs,q=>by
  unfold rss at q;split at q
  .rename_i u us e1 e2;cases q;exact Nz (· + 1) (oR e2)
  .cases q
theorem js:∀{ms:List Bool}{mv:List Val}{j:Nat}{v:Val},(aA ms mv)[j]?=some (.mu v)->v∈mv
 | [],_,_,_,q=>by simp [aA] at q
 |true::ms,u::mv,0,v,q=>by
  have:Sl.mu u=.mu v:=by simpa [aA] using q
  cases this;exact r_ ..
 |true::ms,u::mv,j+1,v,q=>q_ _ (js (ms:=ms) (mv:=mv) (j:=j) (by simpa [aA] using q))
 |true::ms,[],0,v,q=>by simp [aA] at q
 |true::ms,[],j+1,v,q=>js (ms:=ms) (mv:=[]) (j:=j) (by simpa [aA] using q)
 |false::ms,mv,0,v,q=>by simp [aA] at q
 |false::ms,mv,j+1,v,q=>js (ms:=ms) (mv:=mv) (j:=j) (by simpa [aA] using q)
theorem lF:∀{ms:List Bool}{ts:List Tm}{i:Nat},i∈aO e ms ts->∃k:Nat,ms[k]?=some false/\ts[k]?=some (.bor i)
 | [],_,_,q=>by simp [aO] at q
 |_::_,[],_,q=>by simp [aO] at q
 |
  b::ms,t::ts,i,q=>by
  have up:i∈aO e ms ts->∃k:Nat,(b::ms)[k]?=some false/\(t::ts)[k]?=some (.bor i):=λz=>by obtain⟨k,y1,y2⟩:=lF z;exact⟨k+1,by simpa using y1,by simpa using y2⟩
  cases b <;> cases t <;> simp only[aO] at q <;> first |exact up q |skip
  split at q
  .exact up q
  .rcases G_.mp q with rfl |q
   .exact⟨0,rfl,rfl⟩
   .exact up q
def Ft(q:dg e (.bor i)=some (e1,v)):(∀j,j≠i->e1[j]?=e[j]?)/\e1[i]?=some (.sh v)/\(e[i]?).bind Sl.val=some v:=by
 unfold dg at q;dsimp only at q;split at q
 .rename_i u q1;cases q;exact⟨λ_ _=>rfl,q1,by rw[q1];rfl⟩
 .rename_i u q1;cases q;exact⟨λj z=>cM z,dB (C_.mp q1).1,by rw[q1];rfl⟩
 .cases q
theorem o6:∀{ms:List Bool}{ts:List Tm},(∀(k i:Nat),ms[k]?=some true->ts[k]?=some (.bor i)->e2[i]?=e[i]?)->okA e ms ts=true->okA e2 ms ts=true
 | [],[],_,o=>rfl
 | [],_::_,_,o=>by simp [okA] at o
 |b::ms,[],_,o=>by cases b <;> simp [okA] at o
 |
  b::ms,t::ts,hk,o=>by
  have o':okA e ms ts=true:=by cases b <;> cases t <;> simp only[okA,v_] at o <;> first |exact o.2 |exact o |(simp at o;done)
  have ih:=o6 (λk i q1 q2=>hk (k+1) i (by simpa using q1) (by simpa using q2)) o';cases b with
  |false=>cases t <;> simp only[okA,v_] at o ⊢ <;> first |exact⟨o.1,ih⟩ |exact ih
  |
   true=>
   cases t with
   |bor i=>simp only[okA,v_] at o ⊢;rw[hk 0 i rfl rfl];exact⟨o.1,ih⟩
   |_=>simp [okA] at o
theorem sg:∀{ms:List Bool}{ts:List Tm},(∀(k i:Nat),ms[k]?=some false->ts[k]?=some (.bor i)->∃v,e[i]?=some (.sh v))->aO e ms ts=[]
 | [],_,_=>by simp [aO]
 |_::_,[],_=>by simp [aO]
 |
  b::ms,t::ts,hk=>by
  have ih:=sg (λk i q1 q2=>hk (k+1) i (by simpa using q1) (by simpa using q2));cases b <;> cases t <;> simp only[aO] <;> first |exact ih |skip
  rename_i i;obtain⟨v,q⟩:=hk 0 i rfl rfl;rw[q];exact ih
theorem pw(hv:∀i:Nat,(e2[i]?).bind Sl.val=(e[i]?).bind Sl.val):∀(ts:List Tm),rss e2 ts=rss e ts
 | []=>rfl
 |
  t::ts=>by
  unfold rss;rw[pw hv ts];have:rs e2 t=rs e t:=by
   cases t with
   |bor i=>exact hv i
   |_=>rfl
  rw[this]
def Dv(ok:okA e ms ts=true):Lnk (aP ms ts) e (sls ms vs):=by
 refine⟨λj k i q1 q2=>iU ok (fA q2).1 (fA q2).2 (fA q1).2,λj v q=>?_,λj s q hm=>?_⟩
 .obtain⟨b,u,q1,_,q2⟩:=fB q;cases b with
  |false=>cases q2
  |true=>obtain⟨i,y1,w,y2⟩:=kC ok q1;obtain⟨s,z1,z2⟩:=ND.mp y2;exact⟨i,s,Fv q1 y1,z1,by cases s <;> first |rfl |cases z2⟩
 .obtain⟨b,u,q1,_,q2⟩:=fB q;cases b with
  |false=>subst q2;cases hm
  |true=>exact⟨u,q2⟩
section
variable{K:W.Frag}{mg:Qd}{X N0 L:Addr->Prop}{ns:Ns}{e e2:E3}{σ:St}{H H':Hp}{ms:List Bool}{ts:List Tm}{ds:List V}{vs:List Val}{E:XK}{Q:VK}
theorem TsR.get:∀{ds:List V}{ts:List Tm}{k:Nat}{t:Tm},TsR K mg X ns σ H ds ts->ts[k]?=some t->∃d,ds[k]?=some d/\((∃v,t=.val v/\Rd K mg (Oc X ns) H d v)\/∃i,t=.bor i/\σ[i]?=some (some d))
 |_,_,_,_,.nil,q=>by simp at q
 |_,_,0,_,.val r rr,q=>by have:=(by simpa using q:Tm.val _=_);subst this;exact⟨_,rfl,.inl ⟨_,rfl,r⟩⟩
 |_,_,0,_,.bor r rr,q=>by have:=(by simpa using q:Tm.bor _=_);subst this;exact⟨_,rfl,.inr ⟨_,rfl,r⟩⟩
 |_,_,k+1,t,.val r rr,q=>by obtain⟨d,y⟩:=rr.get (k:=k) (by simpa using q);exact⟨d,by simpa using y⟩
 |_,_,k+1,t,.bor r rr,q=>by obtain⟨d,y⟩:=rr.get (k:=k) (by simpa using q);exact⟨d,by simpa using y⟩
def Xc(X:Addr->Prop)(ns:Ns)(e:E3)(ms:List Bool)(ts:List Tm)(n:Addr):Prop:=(X n\/some n∈ns)/\some n∉aX (aP ms ts) ns/\∀i∈aO e ms ts,ns[i]?≠some (some n)
def lL(S:Sat K mg X N0 ns e σ H)(rt:TsR K mg X ns σ H ds ts)(qv:rss e ts=some vs)(ok:okA e ms ts=true):
 Sat K mg (Xc X ns e ms ts) (nn H) (aX (aP ms ts) ns) (sls ms vs) (ds.map some) H:=by
 have l1:=oa ok;have l2:=oR qv;have l3:=TsR.len rt;have hs:m5 (aP ms ts):=λj k i q1 q2=>iU ok (fA q2).1 (fA q2).2 (fA q1).2;have mv:Mov (Oc X ns) (Oc (Xc X ns e ms ts) (aX (aP ms ts) ns)) H H:=.of λn p=>⟨λz=>by
  rcases z.1 with z |z
  .exact p.1 z
  .exact p.2 z,λz=>p.2 (sY z)⟩
 refine⟨?_,?_,λ_ z=>z,λn z=>?_,λj k n q1 q2=>?_,λj n q z=>z.2.1 (aT.mpr ⟨j,q⟩),λk s q=>?_,S.bs⟩
 .unfold sls;rw[p_,Oy];omega
 .unfold aX aP sls;rw[p_,Oy,Oy];omega
 .rcases z.1 with z |z
  .exact S.xl n z
  .obtain⟨i,z⟩:=aT.mp z;obtain⟨_,_,o,_,_,_,_,q',_⟩:=S.own z;exact⟨o,q'⟩
 .obtain⟨i,y1,y2⟩:=cF q1;obtain⟨i',y3,y4⟩:=cF q2
  have:=S.inj i i' n y2 y4
  subst this;exact hs j k i y1 y3
 .obtain⟨b,v,q1,q2,rfl⟩:=fB q;obtain⟨t,q3,q4⟩:=vU qv q2;obtain⟨d,q5,q6⟩:=rt.get q3;have qd:(ds.map some)[k]?=some (some d):=by rw[Nq,q5];rfl
  rw[qd];have qn:(aX (aP ms ts) ns)[k]?=some ((oO b t).bind λi=>(ns[i]?).bind id):=by unfold aX aP;rw[Nq,OF,q1,q3];rfl
  rw[qn];cases b with
  |
   true=>
   obtain⟨i,y1,u,y2⟩:=kC ok q1;rw[q3] at y1;cases y1;have q4':(e[i]?).bind Sl.val=some v:=q4;obtain⟨s,z1,z2⟩:=ND.mp y2;rw[z1] at q4';have hv:s.val=some v:=q4';have huv:u=v:=by cases s <;> first |cases z2;done |(cases z2;cases hv;rfl)
   subst huv;have hns:∃n,ns[i]?=some (some n):=by
    have y:=S.sl i s z1;cases s with
    |ow v=>obtain⟨n,o,y1,_⟩:=y;exact⟨n,y1⟩
    |mu v=>obtain⟨n,o,y1,_⟩:=y;exact⟨n,y1⟩
    |_=>cases z2
   obtain⟨n,hn⟩:=hns;obtain⟨n',o,k1,k0,k2,k3,k4,_⟩:=S.write z1 z2;rcases q6 with ⟨_,z,_⟩ |⟨i',z,q6⟩
   .cases z
   .cases z;rw[q6] at k1;cases k1;obtain⟨_,_,_,_,_,_,w,_⟩:=S.own hn;rw[q6] at w;cases w;exact⟨n,o,by show some ((ns[i]?).bind id)=_;rw[hn];rfl,rfl,k2,k3,k4.mono mv⟩
  |
   false=>
   refine⟨by cases t <;> rfl,d,rfl,?_⟩;rcases q6 with ⟨u,rfl,q6⟩ |⟨i,rfl,q6⟩
   .cases q4;exact q6.mono mv
   .obtain⟨s,z1,z2⟩:=ND.mp (show (e[i]?).bind Sl.val=some v from q4);have y:=S.sl i s z1;by_cases hsh:∃w,s=.sh w
    .obtain⟨w,rfl⟩:=hsh;cases z2;obtain⟨_,x,w1,w2⟩:=y;rw[q6] at w1;cases w1;exact w2.mono mv
    .have hl:=lE q1 q3 λw z=>hsh ⟨w,by rw[z1] at z;exact J_ z⟩;have:∃n o,ns[i]?=some (some n)/\σ[i]?=some (some (.ref n))/\H n=some o/\Rc K mg (Oc X ns) H o v:=by
      cases s with
      |no=>cases z2
      |sh w=>exact absurd ⟨w,rfl⟩ hsh
      |ow w=>cases z2;obtain⟨n,o,y1,y2,_,y3,_,y4⟩:=y;exact⟨n,o,y1,y2,y3,y4⟩
      |lo w=>cases z2;obtain⟨n,o,y1,y2,_,y3,_,y4⟩:=y;exact⟨n,o,y1,y2,y3,y4⟩
      |mu w=>cases z2;obtain⟨n,o,y1,y2,y3,_,y4⟩:=y;exact⟨n,o,y1,y2,y3,y4⟩
      |lm w=>cases z2;obtain⟨n,o,y1,y2,y3,_,y4⟩:=y;exact⟨n,o,y1,y2,y3,y4⟩
     obtain⟨n,o,w1,w2,w3,w4⟩:=this;rw[q6] at w2;cases w2;refine .cell ⟨λy=>y.2.2 i hl w1,λy=>?_⟩ w3 (w4.mono mv);obtain⟨j,y⟩:=aT.mp y;obtain⟨i',y1,y2⟩:=cF y;obtain⟨y3,y4⟩:=fA y1
     have:=S.inj i' i n y2 w1
     subst this
     have:=iU ok y3 y4 q3
     subst this;rw[q1] at y3;cases y3
theorem sA:∀{is:List Nat}{ns:Ns}{e e2:E3},Sat K mg X N0 ns e σ H->(∀i∈is,∃d,σ[i]?=some (some d))->nO e is=some e2->∃h_,Sat K mg X N0 h_ e2 σ H/\Stp ns e H h_ e2 H/\(∀i,i∉is->e2[i]?=e[i]?)/\(∀i∈is,∃v,e2[i]?=some (.sh v))/\∀i:Nat,(e2[i]?).bind Sl.val=(e[i]?).bind Sl.val
 | [],ns,e,e2,S,_,q=>by cases q;exact⟨ns,S,.refl,λ_ _=>rfl,(λ_ z=>by cases z),λ_=>rfl⟩
 |
  i::is,ns,e,e2,S,hd,q=>by
  unfold nO at q;split at q
  .rename_i e1 v q1;obtain⟨d,hd0⟩:=hd i (r_ ..);obtain⟨ns1,S1,a1,r1⟩:=gg (L:=X) (t:=.bor i) S hd0 q1;obtain⟨h_,S2,a2,k1,k2,k3⟩:=sA S1 (λj z=>hd j (q_ _ z)) q;obtain⟨y1,y2,y3⟩:=Ft q1;refine⟨h_,S2,a1.trans S a2,λj hj=>?_,λj hj=>?_,λj=>?_⟩
   .rw[G_,not_or] at hj;rw[k1 j hj.2,y1 j hj.1]
   .by_cases z:j∈is
    .exact k2 j z
    .rcases G_.mp hj with rfl |hj
     .exact⟨v,by rw[k1 j z];exact y2⟩
     .exact absurd hj z
   .rw[k3 j];by_cases z:j=i
    .subst z;rw[y2,y3];rfl
    .rw[y1 j z]
  .cases q
def wD(hl:aO e ms ts=[])(z:¬ Xc X ns e ms ts n)(z2:some n∉aX (aP ms ts) ns):Oc X ns n:=
 ⟨λy=>z ⟨.inl y,z2,λi hi=>by rw[hl] at hi;cases hi⟩,λy=>z ⟨.inr y,z2,λi hi=>by rw[hl] at hi;cases hi⟩⟩
def lV{Y:Addr->Prop}(S:Sat K mg X N0 ns e σ H)(ok:okA e ms ts=true)(a:Stp (aX (aP ms ts) ns) (sls ms vs) H (aX (aP ms ts) ns) (aA ms mv) H')(hf:aO e ms ts=[]\/mv.all cN=true)(hY:∀n,Y n->(∃o,H' n=some o)/\H n=none)(S3:Sat K mg (λn=>Xc X ns e ms ts n\/Y n) N1 (aX (aP ms ts) ns) (aA ms mv) (ds.map some) H'):
 Sat K mg (λn=>X n\/Y n) N0 ns (aS (aP ms ts) (aA ms mv) e) σ H'/\Stp ns e H ns (aS (aP ms ts) (aA ms mv) e) H'/\(aO e ms ts=[]->∀m,Oc (λn=>Xc X ns e ms ts n\/Y n) (aX (aP ms ts) ns) m->Oc (λn=>X n\/Y n) ns m):=by
 have kk:aO e ms ts=[]->∀m,Oc (λn=>Xc X ns e ms ts n\/Y n) (aX (aP ms ts) ns) m->Oc (λn=>X n\/Y n) ns m:=λhf m z=>by
  have:=wD hf (λy=>z.1 (.inl y)) z.2
  exact⟨λy=>by
   rcases y with y |y
   .exact this.1 y
   .exact z.1 (.inr y),this.2⟩
 obtain⟨S4,a4⟩:=S.back (Y:=λn=>X n\/Y n) (Dv (vs:=vs) ok) a S3.bs (λm z=>by
  rcases z with z |z
  .obtain⟨o,z'⟩:=S.xl m z;refine⟨?_,.inl z⟩;cases qh:H' m with
   |none=>rw[a.dom m qh] at z';cases z'
   |some o'=>exact⟨o',rfl⟩
  .exact⟨(hY m z).1,.inr (hY m z).2⟩) (λ_ z=>.inl z) λj w n' q1 q2=>by
  obtain⟨s,u,o,b1,b2,b3,b4,b5,b6,b7⟩:=S3.own q2;rw[q1] at b1;cases b1;cases b3;rcases hf with hf |hf
  .exact⟨o,b5,b6,b7.mono (.of (kk hf))⟩
  .exact⟨o,b5,b6,b7.flat .refl (NC.mp hf w (js q1))⟩
 exact⟨S4,a4,kk⟩
def Sat.eqX{X Y:Addr->Prop}(S:Sat K mg X N0 ns e σ H)(h:∀n,X n ↔ Y n):Sat K mg Y N0 ns e σ H:=by have:X=Y:=funext λn=>propext (h n);exact this ▸ S
def nR(S:Sat K mg X N0 ns e σ H)(ok:okA e ms ts=true)(a:Stp (aX (aP ms ts) ns) (sls ms vs) H (aX (aP ms ts) ns) (aA ms mv) H')(hf:aO e ms ts=[]\/mv.all cN=true)(S3:Sat K mg (Xc X ns e ms ts) N1 (aX (aP ms ts) ns) (aA ms mv) (ds.map some) H'):
 Sat K mg X N0 ns (aS (aP ms ts) (aA ms mv) e) σ H'/\Stp ns e H ns (aS (aP ms ts) (aA ms mv) e) H'/\(aO e ms ts=[]->∀m,Oc (Xc X ns e ms ts) (aX (aP ms ts) ns) m->Oc X ns m):=by
 obtain⟨S4,a4,_⟩:=lV (Y:=λ_=>False) S ok a hf (λ_ z=>z.elim) (S3.eqX λn=>⟨.inl,λz=>z.elim id (·.elim)⟩);exact⟨S4.eqX λn=>⟨λz=>z.elim id (·.elim),.inl⟩,a4,λhf m z=>wD hf z.1 z.2⟩
def vZ(S:Sat K mg X N0 ns e σ H)(hL:∀a,H a=none->L a)(rt:TsR K mg X ns σ H ds ts)(ok:okA e ms ts=true)(hf:aO e ms ts=[]\/(kM r=true/\mv.all cN=true))(p:PG3 K mg X N0 ns e σ H E (KE K mg X N0 L σ Q) (.ok (r.tm ts) (aS (aP ms ts) (aA ms mv) e)))
 (a:Stp (aX (aP ms ts) ns) (sls ms vs) H (aX (aP ms ts) ns) (aA ms mv) H') (rr:RtR K mg (Xc X ns e ms ts) (nn H) (aX (aP ms ts) ns) (aA ms mv) (ds.map some) H' x r):Q x H':=by
 have hf2:aO e ms ts=[]\/mv.all cN=true:=hf.imp id (·.2);cases r with
 |
  val v=>
  obtain⟨S3,rv⟩:=rr;obtain⟨S4,a4,kk⟩:=nR S ok a hf2 S3;refine p _ _ a4 S4 x ?_;rcases hf with hf |hf
  .exact rv.mono (.of (kk hf))
  .exact rv.flat .refl hf.1
 |
  new v=>
  obtain⟨n,o,rfl,z2,z3,z4,z5,S3,z7⟩:=rr;obtain⟨S4,a4,kk⟩:=lV (Y:=λm=>m=n) S ok a hf2 (λm z=>by subst z;exact⟨⟨o,z4⟩,z2⟩) S3;refine p _ _ a4 (S4.weak λ_ z=>.inl z) _ ⟨n,o,rfl,hL n z2,λy=>?_,z4,z5,S4,?_⟩
  .obtain⟨u,y⟩:=S.xl n y;rw[show H n=none from z2] at y;cases y
  .rcases hf with hf |hf
   .exact z7.mono (.of (kk hf))
   .exact z7.flat .refl hf.1
 |
  pr v u=>
  obtain⟨pp,d1,n,o,rfl,z1,z2,z3,z4,z5,S3,z6,z7⟩:=rr;obtain⟨S4,a4,kk⟩:=lV (Y:=λm=>m=n) S ok a hf2 (λm z=>by subst z;exact⟨⟨o,z4⟩,z2⟩) S3;have on:Oc X ns n:=⟨λy=>(by
   obtain⟨u,y⟩:=S.xl n y;rw[show H n=none from z2] at y;cases y),λy=>by
   obtain⟨i,y⟩:=aT.mp y;exact S4.nx i n y (.inr rfl)⟩
  have wk:Mov (Oc (λm=>X m\/m=n) ns) (Oc X ns) H' H':=.of λm z=>⟨λc=>z.1 (.inl c),z.2⟩;refine p _ _ a4 (S4.weak λ_ z=>.inl z) _ (.tup z1 (.cons ?_ (.cons (.cell on z4 ?_) .nil)))
  .rcases hf with hf |hf
   .exact (z6.mono (.of (kk hf))).mono wk
   .exact z6.flat .refl (v_ _ _ ▸ hf.1).1
  .rcases hf with hf |hf
   .exact (z7.mono (.of (kk hf))).mono wk
   .exact z7.flat .refl (v_ _ _ ▸ hf.1).2
 |
  par i=>
  obtain⟨S3,w1,w,w2⟩:=rr;obtain⟨S4,a4,_⟩:=nR S ok a hf2 S3;refine p _ _ a4 S4 x ?_;obtain⟨u,x1,_⟩:=a.mu i w w2;obtain⟨b,u',x2,_,x3⟩:=fB x1;cases b with
  |false=>cases x3
  |
   true=>
   obtain⟨k,y1,_⟩:=kC ok x2;obtain⟨d',y2,z⟩:=rt.get y1;have e1:(Rt.par i).tm ts=.bor k:=by show (ts[i]?).getD _=_;rw[y1];rfl
   rw[e1];rcases z with ⟨_,z,_⟩ |⟨j,z,z2⟩
   .cases z
   .cases z;rw[Nq,y2] at w1;cases w1;exact z2
theorem Ci{f:PFn}(S:Sat K mg X N0 ns e σ H)(hL:∀a,H a=none->L a)(rt:TsR K mg X ns σ H ds ts)(p:PG3 K mg X N0 ns e σ H E (KE K mg X N0 L σ Q) (match rss e ts with
 |none=>.stuck
 |some vs=>if okA e f.ms ts=true then (match f.G vs with
  |.stuck=>.stuck
  |.ok r mv=>if (aO e f.ms ts).isEmpty || (kM r&&mv.all cN) then .ok (r.tm ts) (aS (aP f.ms ts) (aA f.ms mv) e) else (match nO e (aO e f.ms ts) with
   |some e2=>.ok (r.tm ts) (aS (aP f.ms ts) (aA f.ms mv) e2)
   |none=>.stuck)
  |.exc c mv=>if (aO e f.ms ts).isEmpty || mv.all cN then .exc c (aS (aP f.ms ts) (aA f.ms mv) e) else .stuck) else .stuck)):sp3 K mg f ds H Q E:=by
 split at p
 .exact p.elim
 .rename_i vs
   qv
  split at p
  .rename_i ok;have a_:vs.length=f.ms.length:=by rw[oR qv,oa ok]
   split at p
   .exact p.elim
   .rename_i r mv q;split at p
    .rename_i hf;rw[OW,v_] at hf;exact⟨_,_,vs,a_,lL S rt qv ok,by rw[q];exact λx H' a rr=>vZ S hL rt ok (hf.imp List.isEmpty_iff.mp id) p a rr⟩
    .split
      at p
     .rename_i e2 qd;obtain⟨h_,S2,a2,k1,k2,k3⟩:=sA S (λi hi=>by
       obtain⟨k,_,y⟩:=lF hi;obtain⟨d,_,z⟩:=rt.get y;rcases z with ⟨_,z,_⟩ |⟨j,z,z2⟩
       .cases z
       .cases z;exact⟨d,z2⟩) qd
      have ok2:okA e2 f.ms ts=true:=o6 (λk i q1 q2=>k1 i λz=>by
       obtain⟨k',y1,y2⟩:=lF z
       have:=iU ok q1 q2 y2
       subst this;rw[q1] at y1;cases y1) ok
      have ln:aO e2 f.ms ts=[]:=sg λk i q1 q2=>by
       by_cases z:i∈aO e f.ms ts
       .exact k2 i z
       .rw[k1 i z];exact Classical.byContradiction λw=>z (lE q1 q2 λv y=>w ⟨v,y⟩)
      exact⟨_,_,vs,a_,lL S2 (rt.stp a2) (by rw[pw k3];exact qv) ok2,by rw[q];exact λx H' a rr=>vZ S2 (λb z=>hL b z) (rt.stp a2) ok2 (.inl ln) (p.after S a2) a rr⟩
     .exact p.elim
   .rename_i c mv q;split at p
    .rename_i hf;rw[OW] at hf;refine⟨_,_,vs,a_,lL S rt qv ok,?_⟩;rw[q];intro C H' a S3 hC;obtain⟨S4,a4,_⟩:=nR S ok a (hf.imp List.isEmpty_iff.mp id) S3;exact p _ _ C a4 S4 hC
    .exact p.elim
  .exact p.elim
end
noncomputable def ai (f:PFn) (a:PAs):PEx:=⟨22,D3 f.ms f.G a.G⟩
section
variable{K:W.Frag}{mg:Qd}{X:Cx}{ES:St->XK}{e:Expr}{es:List Expr}{A:PAs}{pos:Pos}{k:Nat}{ps:List Str}
def vV{f:PFn}(σ:St)(H:Hp)(Q:VK):rdE K mg ES (ai f A).G σ H Q->rdA K mg ES A.G σ H λvs H1=>sp3 K mg f vs H1 Q (ES σ):=λzz=>zz.el λY N0 L ns e S hl p=>
 ⟨Y,N0,ns,e,S,PG3.imp p S λts e1 ns1 H1 a1 S1 p1 xs r1=>Ci S1 (λa z=>hl a (a1.dom a z)) r1 p1⟩
def CM{f:PFn}{x:Str}{p0:Pos}(C:Callee X.prog X.w X.K X.mg X.base x k ps (sp3 K mg f))(hr:Room k X.A)(hg:Gl X x)(hx:mV X ES)(ha:DA K mg X ES (e::es) A)
 (hdb:(x==("__debug__" : Str))=false) (he:starEach (e::es) X.env=(false,eval e X.env)::starEach es X.env) (hpl:(backTo pos (starEach es X.env)).any (·.1)=false):
 DE K mg X ES (.Call (.Name x p0) (e::es) [] pos) (ai f A):=by
 obtain⟨fa,fd,F',m,kp,bb,_⟩:=C.ex;refine⟨λpins s σ H Q I hh=>NN (oA I hg m ?_ hdb)⟩;refine W.callWith_K (h₀:=X.base) I.ok.mod.kin kp (NF (ha.ok pos pins s σ H _ I (vV σ H Q hh)) (λus s1 ⟨vs,H1,I1,r,q⟩=>⟨I1.kIn,?_⟩) λ_ _ z=>z) he hpl;have hl:(us++[]).length=ps.length:=by rw[NJ,<- r.length];exact F'.len _ _ _ _ q
 refine wpAny_call (PZ (F'.run X.A X.stack s1 H1 ⟨us,[]⟩ us vs Q (ES σ) hr I1.env0 (by simpa using bb s1 us I1.kIn hl) r q) λr s' hq=>?_);cases r with
 |error ex=>exact hx pins σ H1 s1 ex s' I1 hq
 |
  ok fl=>
  cases fl with
  |ret u=>exact I1.after hq
  |next=>exact False.elim hq
  |brk=>exact False.elim hq
  |cont=>exact False.elim hq
def Ei(hp:tN (CX1 X.prog X.w) X E):mV X (λ_=>E):=λpins σ H s e s' I h=>hp pins σ H s e s' I h
def LB:mV X (λ_=>E0):=λpins σ H s e s' I h=>KS pins σ H s e s' I h
def zcF{f:PFn}{x:Str}{p0:Pos}{k j:Nat}{ps:List Str}(C:Callee X.prog X.w X.K X.mg X.base x j ps (sp3 K mg f))(hr:Room k X.A)(ha:DA K mg X ES (e::es) A)(hk:j<=k:=by omega)(hg:Gl X x:=by exact rfl)(hx:mV X ES:=by first |exact Ei Eh |exact LB |assumption)(hdb:(x==("__debug__" : Str))=false:=by decide)(he:starEach (e::es) X.env=(false,eval e X.env)::starEach es X.env:=by rfl)(hpl:(backTo pos (starEach es X.env)).any (·.1)=false:=by rfl):DE K mg X ES (.Call (.Name x p0) (e::es) [] pos) (ai f A):=CM C (hr.mono hk) hg hx ha hdb he hpl
end
noncomputable def aI (f:Int->Int->Val):Val->Val->Bv:=λx y=>match x,y with
 |.int i,.int j=>.val (f i j)
 |_,_=>.stuck
open Classical in
def aIc(C:Int->Int->Prop)(f:Int->Int->Val):Val->Val->Bv:=λx y=>match x,y with
 |.int i,.int j=>if C i j then .val (f i j) else .stuck
 |_,_=>.stuck
noncomputable def aCat:Val->Val->Bv:=λx y=>match x,y with
 |.lst xs,.lst ys=>if xs.length+ys.length<=16777216 then .new (.lst (xs++ys)) else .stuck
 |.tup xs,.tup ys=>if xs.length+ys.length<=16777216 then .val (.tup (xs++ys)) else .stuck
 |_,_=>.stuck
noncomputable def CI:Val->Val->Bv:=λx y=>match x,y with
 |.int i,.int j=>.val (.int (i+j))
 |x,y=>aCat x y
noncomputable def aMin:=aI λi j=>.int (i-j)
def BE:=aIc CMulA λi j=>.int (i*j)
def Cg:=aIc CDivB λi j=>.int (i.fdiv j)
def Dc:=aIc (λ_ j=>j≠0) λi j=>.int (i.fmod j)
def C0:=aIc j6 λi j=>.int (i^j.toNat)
def C8:=aIc j6 λi j=>.int (i*2^j.toNat)
noncomputable def aLt:=aI λi j=>.bl (decide (i<j))
noncomputable def aGt:=aI λi j=>.bl (decide (j<i))
noncomputable def aGe:=aI λi j=>.bl (decide (j<=i))
noncomputable def C4:Val->Bv:=λx=>match x with
 |.int i=>.val (.int (-i))
 |_=>.stuck
noncomputable def aIx:Val->Val->Bv:=λx y=>match x.items,y with
 |some xs,.int i=>(match atI xs i with
  |some v=>.val v
  |none=>.stuck)
 |_,_=>.stuck
mutual
def cL:Nat->Val->Option PyData
 |0,_=>none
 |_+1,.non=>some .none
 |_+1,.bl b=>some (.bool b)
 |_+1,.int i=>some (.int i)
 |_+1,.str x=>some (.str x)
 |k+1,.tup xs=>(eD k xs).map .tuple
 |k+1,.lst xs=>(eD k xs).map .list
 |_+1,_=>none
def eD:Nat->List Val->Option (List PyData)
 |_,[]=>some []
 |k,x::xs=>match cL k x,eD k xs with
  |some a,some b=>some (a::b)
  |_,_=>none
end
noncomputable def aL (x y:Val):Option Bool:=match cL 164 x,cL 164 y with
 |some a,some b=>if shp a=true/\shp b=true then some (PyData.eqv a b) else none
 |_,_=>none
noncomputable def aEq (neg:Bool):Val->Val->Bv:=λx y=>match aL x y with
 |some b=>.val (.bl (if neg then !b else b))
 |none=>.stuck
noncomputable def nF:Val->Bool
 |.non=>true
 |.bl _=>true
 |.int _=>true
 |.str _=>true
 |_=>false
noncomputable def ua:Val->V
 |.bl b=>.bl b
 |.int i=>.int i
 |.str x=>.str x
 |_=>.non
noncomputable def eq1 (x y:Val):Bool:=eqV (ua x) (ua y)
noncomputable def aIn (neg:Bool):Val->Val->Bv:=λx y=>match y.items with
 |some xs=>if nF x=true/\xs.all nF=true then .val (.bl (if neg then !(xs.any λd=>eq1 d x) else xs.any λd=>eq1 d x)) else .stuck
 |none=>.stuck
noncomputable def aIsN (neg:Bool):Val->Val->Bv:=λx y=>match x,y with
 |.non,.non=>.val (.bl (!neg))
 |_,.non=>.val (.bl neg)
 |_,_=>.stuck
noncomputable def CO:List Val->Bv:=λvs=>match vs with
 | [v]=>(match v.items with
  |some xs=>.val (.int xs.length)
  |none=>(match v with
   |.str z=>if z.length<=16777216 then .val (.int z.length) else .stuck
   |_=>.stuck))
 |_=>.stuck
noncomputable def Cd:List Val->Bv:=λvs=>match vs with
 | [.int i]=>.val (.int (if i<0 then -i else i))
 |_=>.stuck
noncomputable def yq:List Val->Bv:=λvs=>match vs with
 | [.int i,.int j]=>.val (.int (if j>i then j else i))
 |_=>.stuck
noncomputable def xu:List Val->Bv:=λvs=>match vs with
 | [.int i,.int j]=>.val (.int (if j<i then j else i))
 |_=>.stuck
noncomputable def jH:List Val->Option (List Bool)
 | []=>some []
 |.bl b::r=>(jH r).map (b :: ·)
 |_=>none
noncomputable def fJ:List Val->Option (List Int)
 | []=>some []
 |.int b::r=>(fJ r).map (b :: ·)
 |_=>none
noncomputable def Cf:List Val->Bv:=λvs=>match vs with
 | [.lst xs]=>(match jH xs with
  |some bs=>.val (.bl (bs.all id))
  |none=>.stuck)
 |_=>.stuck
noncomputable def Cz:List Val->Bv:=λvs=>match vs with
 | [.lst xs]=>(match fJ xs with
  |some bs=>.val (.int bs.sum)
  |none=>.stuck)
 |_=>.stuck
noncomputable def w6:List Val->Bv:=λvs=>match vs with
 | [v]=>(match v.items with
  |some xs=>.new (.lst xs)
  |none=>.stuck)
 |_=>.stuck
noncomputable def rQ:List Val->Bv:=λvs=>match vs with
 | [v]=>(match v.items with
  |some xs=>.val (.tup xs)
  |none=>.stuck)
 |_=>.stuck
noncomputable def Bm:List Val->Bv:=λvs=>match vs with
 | [.int i]=>.val (.int i)
 | [.bl b]=>.val (.int (if b then 1 else 0))
 |_=>.stuck
noncomputable def tyC:Val->Option Cl
 |.non=>some (.b "NoneType")
 |.bl _=>some (.b "bool")
 |.int _=>some (.b "int")
 |.str _=>some (.b "str")
 |.tup _=>some (.b "tuple")
 |.exc x=>some (.o x)
 |.lst _=>some (.b "list")
 |.dct _=>some (.b "dict")
 |_=>none
noncomputable def clV:Val->Option Cl
 |.ty n=>some (.b n)
 |.glb x=>some (.o x)
 |_=>none
noncomputable def uu:List Val->Option (List Cl)
 | []=>some []
 |v::vs=>match clV v,uu vs with
  |some c,some cs=>some (c::cs)
  |_,_=>none
noncomputable def Nh:Val->Option (List Cl)
 |.tup cs=>uu cs
 |v=>(clV v).map ([·])
noncomputable def Bg (kt:jv):List Val->Bv:=λvs=>match vs with
 | [v,c]=>(match tyC v,Nh c with
  |some t,some (c0::cr)=>(match gS kt t (c0::cr),kit kt t c0 with
   |some b,some _=>.val (.bl b)
   |_,_=>.stuck)
  |_,_=>.stuck)
 |_=>.stuck
noncomputable def g9 (xs:List Val) (lo hi:Option Int):List Val:=(xs.drop (HT.sIx xs.length 0 lo)).take (HT.sIx xs.length xs.length hi-HT.sIx xs.length 0 lo)
noncomputable def aSl (x:Val) (lo hi:Option Int):Bv:=match x with
 |.tup xs=>if HT.sIx xs.length 0 lo=0/\HT.sIx xs.length xs.length hi=xs.length then .stuck else .val (.tup (g9 xs lo hi))
 |.lst xs=>.new (.lst (g9 xs lo hi))
 |.kl xs=>.new (.lst (g9 xs lo hi))
 |.str z=>if z.length<=16777216 then .val (.str (Txt.slice z lo hi)) else .stuck
 |_=>.stuck
noncomputable def oU:Val->List Val->Option (Val×Val):=λu vs=>match u,vs with
 |.lst xs,[v]=>if xs.length<16777216 then some (.lst (xs++[v]),.non) else none
 |_,_=>none
noncomputable def uk:Val->List Val->Option (Val×Val):=λu vs=>match u,vs with
 |.lst xs,[]=>(match xs[xs.length-1]? with
  |some v=>some (.lst xs.dropLast,v)
  |none=>none)
 |_,_=>none
noncomputable def sL:Val->Val->Val->Option Val:=λu i v=>match u,i with
 |.lst xs,.int k=>(match ixN xs.length k with
  |some j=>some (.lst (xs.set j v))
  |none=>none)
 |_,_=>none
noncomputable def gW (d:Val):List Val->Option (List Bool)
 | []=>some []
 |x::r=>match aL x d,gW d r with
  |some b,some bs=>some (b::bs)
  |_,_=>none
noncomputable def gk:Val->List Val->Bv:=λx vs=>match x,vs with
 |.lst xs,[d]=>(match gW d xs with
  |some bs=>if bs.idxOf true<bs.length then .val (.int (bs.idxOf true:Nat)) else .stuck
  |none=>.stuck)
 |_,_=>.stuck
noncomputable def aH:PO2:=⟨CI⟩
noncomputable def d8:PO2:=⟨aMin⟩
def aY:PO2:=⟨BE⟩
def jB:PO2:=⟨Cg⟩
def cH:PO2:=⟨Dc⟩
def eA:PO2:=⟨C0⟩
def rA:PO2:=⟨C8⟩
noncomputable def bLt:PO2:=⟨aLt⟩
noncomputable def bGt:PO2:=⟨aGt⟩
noncomputable def bGe:PO2:=⟨aGe⟩
noncomputable def bIx:PO2:=⟨aIx⟩
noncomputable def bEq:PO2:=⟨aEq false⟩
noncomputable def bNe:PO2:=⟨aEq true⟩
noncomputable def bIn:PO2:=⟨aIn false⟩
noncomputable def xo:PO2:=⟨aIn true⟩
noncomputable def bIs:PO2:=⟨aIsN false⟩
noncomputable def uf:PO2:=⟨aI λi j=>.int (i+j)⟩
noncomputable def By:PU1:=⟨C4⟩
noncomputable def bB:PBf:=⟨CO⟩
noncomputable def c9:PBf:=⟨Cd⟩
noncomputable def tS:PBf:=⟨yq⟩
noncomputable def ud:PBf:=⟨xu⟩
noncomputable def qK:PBf:=⟨Cf⟩
noncomputable def bX:PBf:=⟨Cz⟩
noncomputable def rj:PBf:=⟨w6⟩
noncomputable def oh:PBf:=⟨rQ⟩
noncomputable def qI:PBf:=⟨Bm⟩
noncomputable def bA (kt:jv):PBf:=⟨Bg kt⟩
noncomputable def gf:PMm:=⟨oU⟩
noncomputable def qE:PMm:=⟨uk⟩
noncomputable def gR:PMv:=⟨gk⟩
noncomputable def seL:PSe:=⟨sL⟩
section
variable{K:W.Frag}{mg:Qd}{P:Addr->Prop}{H:Hp}{Q:VK}{v:Val}{vs:List Val}{x:V}{ds:List V}{neg:Bool}
def bv(p:∀H1 x,Gr H H1->Rd K mg P H1 x v->Q x H1)(r:Rd K mg P H x v):Q x H:=p H x .refl r
def bvL(p:∀H1 a o,Gr H H1->H1 a=none->NotFz o->Rc K mg P H1 o (.lst vs)->Q (.ref a) (upd H1 a o))(r:Rds K mg P H ds vs):∀l,H l=none->Q (.ref l) (upd H l (.lst ds)):=λl hl=>p H l _ .refl hl trivial (.lst r)
def bvT(p:∀H1 x,Gr H H1->Rd K mg P H1 x (.tup vs)->Q x H1)(r:Rds K mg P H ds vs):∀l,H l=none->Q (.ref l) (upd H l (.tup ds)):=λl hl=>p _ _ (Gr.upd hl) (.tup (SqT.of bc) (r.mono (Gr.upd hl).mov))
def mF{f:Int->Int->V}{g:Int->Int->Val}(hr:∀i j P H,Rd K mg P H (f i j) (g i j)):OpD K mg (rI0 f) (aI g):=λP H x y v u Q rx ry p=>by
 unfold aI at p;split at p
 .obtain rfl:=rx.int;obtain rfl:=ry.int;exact⟨_,_,rfl,rfl,bv p (hr _ _ _ _)⟩
 .exact p.elim
def su{f:Int->Int->V}{g:Int->Int->Val}{C:Int->Int->Prop}(hr:∀i j P H,Rd K mg P H (f i j) (g i j)):OpD K mg (rI C f) (aIc C g):=λP H x y v u Q rx ry p=>by
 unfold aIc at p;split at p
 .obtain rfl:=rx.int;obtain rfl:=ry.int;split at p
  .rename_i hc;exact⟨_,_,rfl,rfl,hc,bv p (hr _ _ _ _)⟩
  .exact p.elim
 .exact p.elim
def zy:OpD K mg (λx y H Q=>rI0 (λi j=>.int (i+j)) x y H Q\/(xx x y H Q\/(qP K x y H Q\/qJ K x y H Q))) aH.G:=λP H x y v u Q rx ry p=>by
 replace p:BvP K mg P H Q (CI v u):=p;unfold CI at p;split at p
 .obtain rfl:=rx.int;obtain rfl:=ry.int;exact .inl ⟨_,_,rfl,rfl,bv p (.int _)⟩
 .right;unfold aCat at p;split at p
  .obtain⟨a,xs,rfl,e1,q1⟩:=rx.lst;obtain⟨b,ys,rfl,e2,q2⟩:=ry.lst;split at p
   .rename_i hl;exact .inl ⟨_,_,xs,ys,rfl,rfl,e1,e2,by rw[q1.len,q2.len];exact hl,bvL p (q1.append q2)⟩
   .exact p.elim
  .obtain⟨a,xs,rfl,e1,q1⟩:=rx.tup;obtain⟨b,ys,rfl,e2,q2⟩:=ry.tup;split at p
   .rename_i hl;cases q1 with
    |nil=>exact .inr (.inr ⟨_,_,_,rfl,rfl,e1,e2,bv p (.tup e2 q2)⟩)
    |cons r0 r1=>refine .inr (.inl ⟨_,_,_,_,rfl,rfl,e1,e2,(λz=>nomatch z),by rw[(Rds.cons r0 r1).len,q2.len];exact hl,λz=>?_,λ_=>bvT p ((Rds.cons r0 r1).append q2)⟩);subst z;cases q2;rw[NJ] at p;exact bv p (.tup e1 (.cons r0 r1))
   .exact p.elim
  .exact p.elim
def IX:OpD K mg (rI0 λi j=>.int (i-j)) d8.G:=mF λ_ _ _ _=>.int _
def Jw:OpD K mg (rI CMulA λi j=>.int (i*j)) aY.G:=su λ_ _ _ _=>.int _
def JH:OpD K mg (rI CDivB λi j=>.int (i.fdiv j)) jB.G:=su λ_ _ _ _=>.int _
def HZ:OpD K mg (rI (λ_ j=>j≠0) λi j=>.int (i.fmod j)) cH.G:=su λ_ _ _ _=>.int _
def Kw:OpD K mg (rI j6 λi j=>.int (i^j.toNat)) eA.G:=su λ_ _ _ _=>.int _
def Kn:OpD K mg (rI j6 λi j=>.int (i*2^j.toNat)) rA.G:=su λ_ _ _ _=>.int _
def Ew:OpD K mg (rI0 λi j=>.bl (decide (i<j))) bLt.G:=mF λ_ _ _ _=>.bl _
def xW:OpD K mg (rI0 λi j=>.bl (decide (j<i))) bGt.G:=mF λ_ _ _ _=>.bl _
def DJ:OpD K mg (rI0 λi j=>.bl (decide (j<=i))) bGe.G:=mF λ_ _ _ _=>.bl _
def Iz:IpD K mg (ipI λi j=>i+j) uf.G:=mF λ_ _ _ _=>.int _
def GR:UnD K mg (rU λi=>.int (-i)) By.G:=λP H x v Q r p=>by
 replace p:BvP K mg P H Q (C4 v):=p;unfold C4 at p;split at p
 .obtain rfl:=r.int;exact⟨_,rfl,bv p (.int _)⟩
 .exact p.elim
def Lo(r:Rds K mg P H ds vs)(e:atI vs i=some v):∃d,atI ds i=some d/\Rd K mg P H d v:=by
 unfold atI at e ⊢;rw[r.len];cases q:ixN vs.length i with
 |none=>rw[q] at e;cases e
 |some j=>rw[q] at e;exact r.get e
def Nd:OpD K mg (λx y H Q=>C5 K x y H Q\/CQ K x y H Q) bIx.G:=λP H x y v u Q rx ry p=>by
 replace p:BvP K mg P H Q (aIx v u):=p;unfold aIx at p;split at p
 .rename_i xs i e1;obtain⟨a,ys,rfl,h,q⟩:=rx.items e1;obtain rfl:=ry.int;split at p
  .rename_i w e3;obtain⟨d,e4,q2⟩:=Lo q e3;rcases h with h |h
   .exact .inl ⟨_,_,_,d,rfl,rfl,h,e4,bv p q2⟩
   .exact .inr ⟨_,_,_,d,rfl,rfl,h,e4,bv p q2⟩
  .exact p.elim
 .exact p.elim
def Dk{k:Nat}(hk:∀d v pd,Rd K mg P H d v->cL k v=some pd->Rep K H d pd){ps:List PyData}(r:Rds K mg P H ds vs):eD k vs=some ps->Reps K H ds ps:=
 r.ind (M:=λds vs=>∀ps,eD k vs=some ps->Reps K H ds ps) (λ_ q=>by unfold eD at q;cases q;exact .nil) (λr _ ih ps q=>by
  unfold eD at q;split at q
  .rename_i a b e1 e2;cases q;exact .cons (hk _ _ _ r e1) (ih _ e2)
  .cases q) ps
theorem iZ:∀(k:Nat) (d:V) (v:Val) (pd:PyData),ShR K mg P H d v->cL k v=some pd->Rep K H d pd
 |0,_,_,_,_,q=>by unfold cL at q;cases q
 |
  k+1,d,v,pd,r,q=>by
  have ih:∀{ds:List V}{vs:List Val}{ps:List PyData},Rds K mg P H ds vs->eD k vs=some ps->Reps K H ds ps:=λr=>Dk (λd v pd r q=>iZ k d v pd (.inl r) q) r;cases v with
  |non=>obtain rfl:=r.non;simp only[cL] at q;cases q;exact .non
  |bl b=>obtain rfl:=r.bl;simp only[cL] at q;cases q;exact .bl b
  |int b=>obtain rfl:=r.int;simp only[cL] at q;cases q;exact .int b
  |str b=>obtain rfl:=r.str;simp only[cL] at q;cases q;exact .str b
  |tup xs=>obtain⟨a,ds,rfl,e,r2⟩:=r.tup;simp only[cL] at q;obtain⟨ps,q1,rfl⟩:=Np.mp q;exact .tup e (ih r2 q1)
  |lst xs=>obtain⟨a,ds,rfl,e,r2⟩:=r.lstL;simp only[cL] at q;obtain⟨ps,q1,rfl⟩:=Np.mp q;exact .lst e (ih r2 q1)
  |_=>simp only[cL] at q;cases q
def HW{x y:V}{u:Val}{b:Bool}(r1:ShR K mg P H x v)(r2:ShR K mg P H y u)(q:aL v u=some b):∃a c,Rep K H x a/\Rep K H y c/\shp a=true/\shp c=true/\PyData.eqv a c=b:=by
 unfold aL at q;split at q
 .rename_i a c e1 e2;split at q
  .rename_i hs;cases q;exact⟨a,c,iZ 164 _ _ _ r1 e1,iZ 164 _ _ _ r2 e2,hs.1,hs.2,rfl⟩
  .cases q
 .cases q
def Ez{x y:V}{u:Val}(r1:ShR K mg P H x v)(r2:ShR K mg P H y u)(p:BvP K mg P H Q (aEq neg v u)):∃a c,Rep K H x a/\Rep K H y c/\shp a=true/\shp c=true/\Q (.bl (if neg then !PyData.eqv a c else PyData.eqv a c)) H:=by
 unfold aEq at p;split at p
 .rename_i b q;obtain⟨a,c,h1,h2,h3,h4,rfl⟩:=HW r1 r2 q;exact⟨a,c,h1,h2,h3,h4,bv p (.bl _)⟩
 .exact p.elim
def DX:OpD K mg (Co K) bEq.G:=λP H x y v u Q rx ry p=>Ez rx ry p
def Mz:OpD K mg (Bo K) bNe.G:=λP H x y v u Q rx ry p=>Ez rx ry p
def vP(r:ShR K mg P H x v)(f:nF v=true):x=ua v/\L2.flatV x=true:=by
 cases v with
 |non=>obtain rfl:=r.non;exact⟨rfl,rfl⟩
 |bl b=>obtain rfl:=r.bl;exact⟨rfl,rfl⟩
 |int b=>obtain rfl:=r.int;exact⟨rfl,rfl⟩
 |str b=>obtain rfl:=r.str;exact⟨rfl,rfl⟩
 |_=>cases f
def Cu(y:Val)(r:Rds K mg P H ds vs):vs.all nF=true->ds.all L2.flatV=true/\inV (ua y) ds=vs.any λd=>eq1 d y:=
 r.ind (M:=λds vs=>vs.all nF=true->ds.all L2.flatV=true/\inV (ua y) ds=vs.any λd=>eq1 d y) (λ_=>⟨rfl,rfl⟩) λr _ ih f=>by rw[P8,v_] at f;obtain⟨rfl,h2⟩:=vP (.inl r) f.1;obtain⟨h3,h4⟩:=ih f.2;refine⟨by rw[P8,h2,h3];rfl,?_⟩;unfold inV at h4 ⊢;rw[N7,N7,h4];rfl
def D8:OpD K mg (rIn K neg) (aIn neg):=λP H x y v u Q rx ry p=>by
 unfold aIn at p;split at p
 .rename_i xs e;obtain⟨a,ys,rfl,h,q⟩:=ry.items e;split at p
  .rename_i hf;obtain⟨rfl,f2⟩:=vP rx hf.1;obtain⟨f3,f4⟩:=Cu v q hf.2;exact⟨a,ys,rfl,h,f2,f3,by rw[f4];exact bv p (.bl _)⟩
  .exact p.elim
 .exact p.elim
def D1:OpD K mg (rIn K false) bIn.G:=D8
def Kc:OpD K mg (rIn K true) xo.G:=D8
def JW:bW K mg (λxs H Q=>(∃p ys,xs=[.ref p]/\(SqL K H p ys\/SqT K H p ys)/\Q (.int ys.length) H)\/(∃z,xs=[.str z]/\z.length<=sizeLine/\Q (.int z.length) H)) bB.G:=λP H xs vs Q r0 p=>by
 replace p:BvP K mg P H Q (CO vs):=p;unfold CO at p;split at p
 .obtain⟨d,rfl,r⟩:=cZ r0;split at p
  .rename_i xs e;obtain⟨a,ys,rfl,h,q⟩:=r.items e;exact .inl ⟨_,_,rfl,h,by rw[q.len];exact bv p (.int _)⟩
  .split at p
   .obtain rfl:=r.str;split at p
    .rename_i hl;exact .inr ⟨_,rfl,hl,bv p (.int _)⟩
    .exact p.elim
   .exact p.elim
 .exact p.elim
def GL:bW K mg (λxs H Q=>∃i,xs=[.int i]/\Q (.int (if i<0 then -i else i)) H) c9.G:=λP H xs vs Q r0 p=>by
 replace p:BvP K mg P H Q (Cd vs):=p;unfold Cd at p;split at p
 .obtain⟨d,rfl,r⟩:=cZ r0;obtain rfl:=r.int;exact⟨_,rfl,bv p (.int _)⟩
 .exact p.elim
def FN:bW K mg (λxs H Q=>∃i j,xs=[.int i,.int j]/\Q (.int (if j>i then j else i)) H) tS.G:=λP H xs vs Q r0 p=>by
 replace p:BvP K mg P H Q (yq vs):=p;unfold yq at p;split at p
 .obtain⟨d,d',rfl,r,r'⟩:=qH r0;obtain rfl:=r.int;obtain rfl:=r'.int;exact⟨_,_,rfl,bv p (.int _)⟩
 .exact p.elim
def Fe:bW K mg (λxs H Q=>∃i j,xs=[.int i,.int j]/\Q (.int (if j<i then j else i)) H) ud.G:=λP H xs vs Q r0 p=>by
 replace p:BvP K mg P H Q (xu vs):=p;unfold xu at p;split at p
 .obtain⟨d,d',rfl,r,r'⟩:=qH r0;obtain rfl:=r.int;obtain rfl:=r'.int;exact⟨_,_,rfl,bv p (.int _)⟩
 .exact p.elim
def Lv{bs:List Bool}(r:Rds K mg P H ds vs):jH vs=some bs->ds=bs.map V.bl:=
 r.ind (M:=λds vs=>∀bs,jH vs=some bs->ds=bs.map V.bl) (λbs q=>by cases q;rfl) (λ{d v ds vs} r _ ih bs q=>by
  cases v with
  |bl b=>obtain rfl:=ShR.bl (.inl r);obtain⟨b',q1,rfl⟩:=Np.mp (show (jH vs).map (b :: ·)=some bs from q);rw[ih _ q1];rfl
  |_=>cases q) bs
def mz{bs:List Int}(r:Rds K mg P H ds vs):fJ vs=some bs->ds=bs.map V.int:=
 r.ind (M:=λds vs=>∀bs,fJ vs=some bs->ds=bs.map V.int) (λbs q=>by cases q;rfl) (λ{d v ds vs} r _ ih bs q=>by
  cases v with
  |int b=>obtain rfl:=ShR.int (.inl r);obtain⟨b',q1,rfl⟩:=Np.mp (show (fJ vs).map (b :: ·)=some bs from q);rw[ih _ q1];rfl
  |_=>cases q) bs
def zu:bW K mg (λxs H Q=>∃(a:Addr) (bs:List Bool),xs=[.ref a]/\SqL K H a (bs.map V.bl)/\Q (.bl (bs.all id)) H) qK.G:=λP H xs vs Q r0 p=>by
 replace p:BvP K mg P H Q (Cf vs):=p;unfold Cf at p;split at p
 .obtain⟨d,rfl,r⟩:=cZ r0;obtain⟨a,ys,rfl,h,q⟩:=r.lstL;split at p
  .rename_i bs e;exact⟨a,bs,rfl,Lv q e ▸ h,bv p (.bl _)⟩
  .exact p.elim
 .exact p.elim
def yQ:bW K mg (λxs H Q=>∃(a:Addr) (ns:List Int),xs=[.ref a]/\SqL K H a (ns.map V.int)/\Q (.int ns.sum) H) bX.G:=λP H xs vs Q r0 p=>by
 replace p:BvP K mg P H Q (Cz vs):=p;unfold Cz at p;split at p
 .obtain⟨d,rfl,r⟩:=cZ r0;obtain⟨a,ys,rfl,h,q⟩:=r.lstL;split at p
  .rename_i bs e;exact⟨a,bs,rfl,mz q e ▸ h,bv p (.int _)⟩
  .exact p.elim
 .exact p.elim
def Fx:bW K mg (λxs H Q=>∃p ys,xs=[.ref p]/\(SqL K H p ys\/SqT K H p ys)/\∀l,H l=none->Q (.ref l) (upd H l (.lst ys))) rj.G:=λP H xs vs Q r0 p=>by
 replace p:BvP K mg P H Q (w6 vs):=p;unfold w6 at p;split at p
 .obtain⟨d,rfl,r⟩:=cZ r0;split at p
  .rename_i xs e;obtain⟨a,ys,rfl,h,q⟩:=r.items e;exact⟨_,_,rfl,h,bvL p q⟩
  .exact p.elim
 .exact p.elim
def CT:bW K mg (λxs H Q=>∃p ys,xs=[.ref p]/\((SqL K H p ys/\∀l,H l=none->Q (.ref l) (upd H l (.tup ys)))\/(SqT K H p ys/\Q (.ref p) H))) oh.G:=λP H xs vs Q r0 p=>by
 replace p:BvP K mg P H Q (rQ vs):=p;unfold rQ at p;split at p
 .obtain⟨d,rfl,r⟩:=cZ r0;split at p
  .rename_i xs e;obtain⟨a,ys,rfl,h,q⟩:=r.items e;rcases h with h |h
   .exact⟨_,_,rfl,.inl ⟨h,bvT p q⟩⟩
   .exact⟨_,_,rfl,.inr ⟨h,bv p (.tup h q)⟩⟩
  .exact p.elim
 .exact p.elim
def GS:bW K mg (λxs H Q=>(∃i,xs=[.int i]/\Q (.int i) H)\/∃k,xs=[.bl k]/\Q (.int (if k then 1 else 0)) H) qI.G:=λP H xs vs Q r0 p=>by
 replace p:BvP K mg P H Q (Bm vs):=p;unfold Bm at p;split at p
 .obtain⟨d,rfl,r⟩:=cZ r0;obtain rfl:=r.int;exact .inl ⟨_,rfl,bv p (.int _)⟩
 .obtain⟨d,rfl,r⟩:=cZ r0;obtain rfl:=r.bl;exact .inr ⟨_,rfl,bv p (.int _)⟩
 .exact p.elim
def MQ{kt:jv}{t c:Cl}{b:Bool}(ok:KitsOk K mg kt)(r:ShR K mg P H x v)(q:tyC v=some t)(k:kit kt t c=some b):∃tv,TyX K H x tv/\ClV mg t tv:=by
 cases v with
 |non=>obtain rfl:=r.non;cases q;exact⟨_,.of .non,rfl⟩
 |bl b=>obtain rfl:=r.bl;cases q;exact⟨_,.of (.bl _),rfl⟩
 |int b=>obtain rfl:=r.int;cases q;exact⟨_,.of (.int _),rfl⟩
 |str b=>obtain rfl:=r.str;cases q;exact⟨_,.of (.str _),rfl⟩
 |exc b=>obtain⟨a,C,rfl,m,e⟩:=r.exc;cases q;exact⟨_,.exc e (ok.xc _ (nV k) _ _ rfl m),_,rfl,m⟩
 |tup b=>obtain⟨a,ds,rfl,h,_⟩:=r.tup;cases q;exact⟨_,.sqT h,rfl⟩
 |lst b=>obtain⟨a,ds,rfl,e,_⟩:=r.lst;cases q;exact⟨_,.of (.lst e),rfl⟩
 |dct b=>obtain⟨a,ds,rfl,e,_⟩:=r.dct;cases q;exact⟨_,.of (.dK e),rfl⟩
 |_=>cases q
def D6{c:Cl}(r:ShR K mg P H x v)(q:clV v=some c):∃cv,gd x=some cv/\ClV mg c cv:=by
 cases v with
 |ty b=>obtain rfl:=r.ty;cases q;exact⟨_,rfl,rfl⟩
 |glb b=>obtain⟨a,rfl,m⟩:=r.glb;cases q;exact⟨_,rfl,_,rfl,m⟩
 |_=>cases q
def GX{cs:List Cl}(r:Rds K mg P H ds vs):uu vs=some cs->∃cvs,ds.mapM gd=some cvs/\Paired (ClV mg) cs cvs:=
 r.ind (M:=λds vs=>∀cs,uu vs=some cs->∃cvs,ds.mapM gd=some cvs/\Paired (ClV mg) cs cvs) (λcs q=>by cases q;exact⟨[],rfl,.nil⟩) (λr _ ih cs q=>by
  unfold uu at q;split at q
  .rename_i c cs' e1 e2;cases q;obtain⟨cv,h1,h2⟩:=D6 (.inl r) e1;obtain⟨cvs,h3,h4⟩:=ih _ e2;refine⟨cv::cvs,?_,.cons h2 h4⟩;rw[List.mapM_cons,h1,h3];rfl
  .cases q) cs
def I0{kt:jv}(ok:KitsOk K mg kt):bW K mg (λxs H Q=>(∃x c t v b,xs=[x,c]/\TyX K H x t/\gd c=some v/\W.kitOne K t v=some b/\Q (.bl b) H)\/
 (∃x tp cs t vs b,xs=[x,.ref tp]/\SqT K H tp cs/\TyX K H x t/\cs.mapM gd=some vs/\W.kitAny K t vs=some b/\Q (.bl b) H)) (bA kt).G:=λP H xs vs Q r0 p=>by
 replace p:BvP K mg P H Q (Bg kt vs):=p;unfold Bg at p;split at p
 .rename_i v c;obtain⟨d,d',rfl,r1,r2⟩:=qH r0;split at p
  .rename_i t c0 cr e1 e2;split at p
   .rename_i b b' e4 e5;obtain⟨tv,h1,h2⟩:=MQ ok r1 e1 e5;by_cases ht:∃cs,c=.tup cs
    .obtain⟨cs,rfl⟩:=ht;obtain⟨a,es,rfl,h,q⟩:=r2.tup;obtain⟨cvs,h3,h4⟩:=GX q e2;exact .inr ⟨_,_,_,tv,cvs,b,rfl,h,h1,h3,zf ok h2 h4 e4,bv p (.bl _)⟩
    .have e2':(clV c).map ([·])=some (c0::cr):=by
      cases c with
      |tup cs=>exact absurd ⟨cs,rfl⟩ ht
      |_=>exact e2
     obtain⟨cl,y1,y2⟩:=Np.mp e2';cases y2;obtain⟨cv,h3,h4⟩:=D6 r2 y1;have:kit kt t c0=some b:=by
      unfold gS at e4;rw[e5] at e4 ⊢;cases b' with
      |true=>exact e4
      |false=>unfold gS at e4;exact e4
     exact .inl ⟨_,_,tv,cv,b,rfl,h1,h3,ok.one _ (nV this) _ _ h2 h4,bv p (.bl _)⟩
   .exact p.elim
  .exact p.elim
 .exact p.elim
def nh(r:Rc K mg P H o (.lst us)):∃vs,o=.lst vs/\Rds K mg P H vs us:=by cases r with |lst r=>exact⟨_,rfl,r⟩
def Bp(r:Rds K mg P H ds [v]):∃d,ds=[d]/\Rd K mg P H d v:=by cases r with |cons r rr=>cases rr;exact⟨_,rfl,r⟩
def A6:MmD K mg wc gf.G:=λP H n o u ds vs u' v Q np e hf r0 rs q k=>by
 replace q:oU u vs=some (u',v):=q;unfold oU at q;split at q
 .split at q
  .rename_i hl;cases q;obtain⟨xs,rfl,r⟩:=nh r0;obtain⟨d,rfl,rd⟩:=Bp rs;exact⟨n,xs,d,rfl,rfl,e,by rw[r.len];exact hl,k _ _ trivial (.lst (r.append (.cons rd .nil))) .non⟩
  .cases q
 .cases q
def Jy:MmD K mg rPop qE.G:=λP H n o u ds vs u' v Q np e hf r0 rs q k=>by
 replace q:uk u vs=some (u',v):=q;unfold uk at q;split at q
 .split at q
  .rename_i w hw;cases q;obtain⟨xs,rfl,r⟩:=nh r0;cases rs;obtain⟨d,e2,rd⟩:=r.get hw;refine⟨n,xs,d,rfl,rfl,e,by rw[r.len];exact e2,k _ _ trivial (.lst ?_) rd⟩;rw[List.dropLast_eq_take,List.dropLast_eq_take,r.len];exact r.take _
  .cases q
 .cases q
def Gh:CC K mg Ep seL.G:=λP H n o u di vi d v u' Q np e hf r0 ri rd q k=>by
 replace q:sL u vi v=some u':=q;unfold sL at q;split at q
 .split at q
  .rename_i j hj;cases q;obtain⟨xs,rfl,r⟩:=nh r0;obtain rfl:=ri.int;exact⟨n,xs,_,j,rfl,rfl,e,by rw[r.len];exact hj,k _ trivial (.lst (r.set rd j))⟩
  .cases q
 .cases q
def L8{y:V}{w:Val}{pd:PyData}(ry:Rep K H y pd)(es:cL 164 w=some pd){bs:List Bool}(r:Rds K mg P H ds vs):gW w vs=some bs->EqsR K H y pd ds bs:=
 r.ind
  (M:=λds vs=>∀bs,gW w vs=some bs->EqsR K H y pd ds bs) (λbs q=>by cases q;exact .nil) (λr _ ih bs q=>by
  unfold gW at q;split at q
  .rename_i b bs' e1 e2;cases q;unfold aL at e1;rw[es] at e1;split at e1
   .rename_i a c e3 e4;cases e4;split at e1
    .rename_i hs;cases e1;exact .cons (iZ 164 _ _ _ (.inl r) e3) hs.1 (ih _ e2)
    .cases e1
   .cases e1
  .cases q) bs
theorem DD{w:Val}:∀{vs:List Val}{bs:List Bool},gW w vs=some bs->vs=[]\/∃pd,cL 164 w=some pd/\shp pd=true
 | [],_,_=>.inl rfl
 |
  x::xs,bs,e=>by
  right;unfold gW at e;split at e
  .rename_i b bs' e1 e2;unfold aL at e1;split at e1
   .rename_i a c e3 e4;split at e1
    .rename_i hs;exact⟨c,e4,hs.2⟩
    .cases e1
   .cases e1
  .cases e
def Cy:MtD K mg (oC K) gR.G:=λP H d v ds vs Q r hv rs p=>by
 replace p:BvP K mg P H Q (gk v vs):=p;unfold gk at p;split at p
 .obtain⟨a,xs,rfl,h,q⟩:=r.lstL;obtain⟨y,rfl,ry⟩:=cZ rs;split at p
  .rename_i bs eb;split at p
   .rename_i hl;rcases DD eb with rfl |⟨pd,h3,h4⟩
    .cases eb;exact absurd hl (by simp)
    .have r3:=iZ 164 _ _ _ ry h3;exact⟨a,y,bs,rfl,rfl,⟨xs,pd,h,r3,h4,L8 r3 h3 q eb⟩,hl,bv p (.int _)⟩
   .exact p.elim
  .exact p.elim
 .exact p.elim
end
abbrev MO3:=E3->R3 (Option Int)
noncomputable def He (e:E3):R3 (Option Int):=.ok none e
noncomputable def HE (F:ME3) (e:E3):R3 (Option Int):=(F e).bind λt e1=>match rs e1 t with
 |some (.int i)=>.ok (some i) e1
 |_=>.stuck
noncomputable def vSl (F:ME3) (L U:MO3) (e:E3):R3 Tm:=(F e).bind λt e1=>(L e1).bind λlo e2=>(U e2).bind λhi e3=>match rs e3 t.drop with
 |some v=>(aSl v lo hi).at e3
 |none=>.stuck
structure POp where
 t:Nat
 G:MO3
noncomputable def oN:POp:=⟨1,He⟩
noncomputable def oS (a:PEx):POp:=⟨2,HE a.G⟩
noncomputable def pSl (a:PEx) (l u:POp):PEx:=⟨23,vSl a.G l.G u.G⟩
noncomputable def vD0 (e:E3):R3 Tm:=.ok (.new (.dct [])) e
noncomputable def pD0:PEx:=⟨24,vD0⟩
def rdO(K:W.Frag)(mg:Qd)(ES:St->XK)(G:MO3):TO:=λσ H Q=>∃X N0 ns e,Sat K mg X N0 ns e σ H/\PG3 K mg X N0 ns e σ H (ES σ) (λo _ _ H'=>Q o H') (G e)
def rdO.el{K:W.Frag}{mg:Qd}{G:MO3}(h:rdO K mg ES G σ H Q){Z:Prop}(k:∀X N0 ns e,Sat K mg X N0 ns e σ H->PG3 K mg X N0 ns e σ H (ES σ) (λo _ _ H'=>Q o H') (G e)->Z):Z:=by obtain⟨X,N0,ns,e,S,p⟩:=h;exact k X N0 ns e S p
structure DO(K:W.Frag)(mg:Qd)(X:Cx)(ES:St->XK)(e:Option Expr)(F:POp):Prop where
 ok:PO X e (rdO K mg ES F.G)
section
variable{K:W.Frag}{mg:Qd}{X:Cx}{ES:St->XK}{e a:Expr}{p:PEx}{l u:POp}{lo hi:Option Expr}{pos p2:Pos}
def F1:DO K mg X ES none oN:=⟨PO.imp FP λσ H Q zz=>rdO.el zz λY N0 ns e S p=>PG3.ret p S⟩
def E1(he:DE K mg X ES e p):DO K mg X ES (some e) (oS p):=⟨PO.imp (Gn he.ok) λσ H Q zz=>rdO.el zz λY N0 ns e S p=>
 ⟨Y,
  N0,λ_=>True,ns,e,S,λ_ _=>trivial,PG3.imp p S λt e1 ns1 H1 a1 S1 p1 x r1=>by
  try dsimp only at p1
  split at p1
  .rename_i i q;obtain rfl:=(r1.sh S1 q).int;exact⟨_,rfl,p1.ret S1⟩
  .exact p1.elim⟩⟩
def Lm{P:Addr->Prop}{H:Hp}{Q:VK}{x:V}{v:Val}{lo hi:Option Int}(r:ShR K mg P H x v)(p:BvP K mg P H Q (aSl v lo hi)):(B9 K x lo hi H Q\/C9 K x lo hi H Q)\/BI x lo hi H Q:=by
 have cut:∀{vs us},Rds K mg P H vs us->Rds K mg P H (jR vs lo hi) (g9 us lo hi):=λr=>by unfold jR g9;rw[r.len];exact (r.drop _).take _
 unfold aSl at p;split at p
 .obtain⟨a,ds,rfl,h,q⟩:=r.tup;split at p
  .exact p.elim
  .rename_i hn;exact .inl (.inr ⟨_,_,rfl,h,by rw[q.len];exact hn,bvT p (cut q)⟩)
 .obtain⟨a,ds,rfl,h,q⟩:=r.lstL;exact .inl (.inl ⟨_,_,rfl,h,bvL p (cut q)⟩)
 .obtain⟨a,ds,rfl,h,q⟩:=r.kl;exact .inl (.inl ⟨_,_,rfl,h,bvL p (cut q)⟩)
 .obtain rfl:=r.str;split at p
  .rename_i hz;exact .inr ⟨_,rfl,hz,bv p (.str _)⟩
  .exact p.elim
 .exact p.elim
def BL(hK:X.K=K)(he:DE K mg X ES e p)(hl:DO K mg X ES lo l)(hu:DO K mg X ES hi u):DE K mg X ES (.Subscript e (.Slice lo hi none p2) pos) (pSl p l u):=
 ⟨PE.imp (Cj (slK hK) he.ok hl.ok hu.ok) λσ H Q zz=>zz.el λY N0 L ns e S hL p=>⟨Y,N0,L,ns,e,S,hL,PG3.imp p S λt e1 ns1 H1 a1 S1 p1 x rx=>⟨Y,N0,ns1,e1,S1,PG3.imp p1 S1 λlo e2 h_ H2 a2 S2 p2=>⟨Y,N0,h_,e2,S2,PG3.imp p2 S2 λhi e3 ns3 H3 a3 S3 p3=>by
  try dsimp only at p3
  split at p3
  .rename_i v q;exact Lm ((rx.drop (a2.trans S1 a3)).sh S3 q) (p3.bv S3 λa z=>hL a (a1.dom a (a2.dom a (a3.dom a z))))
  .exact p3.elim⟩⟩⟩⟩
def Nf:DE K mg X ES (.Dict [] [] pos) pD0:=⟨PE.imp CU λσ H Q ⟨Y,N0,L,ns,e,S,hl,p⟩ a ha=>PG3.bv (b:=.new (.dct [])) p S hl H a (.dK []) .refl ha trivial (.dct .nil)⟩
def Dm(hK:X.K=K)(ha:DE K mg X ES a p)(he:∀e_,isTrue a X.env e_=(do let v <- e_;standAt a.pos;holding [v] (truthy v)):=by intro _;rfl):DT K mg X ES a (qTr p):=by
 subst hK;exact
  ⟨PT.imp (Cc ha.ok he) λσ H Q zz=>zz.el λY N0 ns e S p=>⟨Y,N0,λ_=>True,ns,e,S,λ_ _=>trivial,PG3.imp p S λt e1 ns1 H1 a1 S1 p1 x r1=>by
  try dsimp only at p1
  split at p1
  .rename_i b q;obtain⟨v,q1,q2⟩:=ND.mp q;have r:=r1.sh S1 q1;have k:=p1.ret S1;have items:∀{us:List Val},v.items=some us->some (!us.isEmpty)=some b->∃k,BG X.K x H1 k/\Q k H1:=λ{us} e e2=>by
    obtain⟨a,vs,rfl,hq,rr⟩:=r.items e;have ee:us.isEmpty=vs.isEmpty:=by cases rr <;> rfl
    cases e2;rw[ee] at k;rcases hq with hq |hq
    .exact⟨_,.inl ⟨vs,hq,rfl⟩,k⟩
    .exact⟨_,.inr (.inl ⟨vs,hq,rfl⟩),k⟩
   cases v with
   |non=>obtain rfl:=r.non;cases q2;exact⟨_,rfl,k⟩
   |bl b=>obtain rfl:=r.bl;cases q2;exact⟨_,rfl,k⟩
   |int b=>obtain rfl:=r.int;cases q2;exact⟨_,rfl,k⟩
   |tup us=>exact items rfl q2
   |lst us=>exact items rfl q2
   |kl us=>exact items rfl q2
   |_=>cases q2
  .exact p1.elim⟩⟩
end
theorem kz{K:W.Frag}{mg:Qd}{P:Addr->Prop}{H:Hp}:∀(ns:List Int),Rds K mg P H (ns.map V.int) (ns.map Val.int)
 | []=>.nil
 |_::r=>.cons (.int _) (kz r)
structure PFx(ms:List Bool) where
 G:Fn3
noncomputable def PFx.fn {ms:List Bool} (p:PFx ms):PFn:=⟨ms,p.G⟩
noncomputable def PFx.none (ms:List Bool) (N:Nat:=0):PFx ms:=⟨λ_=>.stuck⟩
noncomputable def PFx.of (ms:List Bool) (N:Nat) (c:PSt):PFx ms:=⟨fnV ms N c.G⟩
section
variable{K:W.Frag}{mg:Qd}{P:Program}{w:World}{base:Heap}{fx:Str}{m_:Stmt}{k m:Nat}{ps N:List Str}{ms:List Bool}{x:PSt}
def okX(D:Def K mg fx m_)(S:FnScope N ps (ar m_))
 (hb:∀(kV doc pm:Value) (an:Option Addr) (cdv ct:Value) (us:List Value),us.length=ps.length->bindArgs (W.fnOf fx fx (dC m_) (bH m_) (ar m_) .none kV doc pm an cdv ct) ⟨us,[]⟩=pure (ps.zip us))
 (j_:N.Nodup->∀(f:Addr) (cdv:Value) (A:Around) (outer:List Env) (s:Shared) (H:Hp) (E:XK),Room k (A.deeper (envOfC fx (ar m_) s.heap.objs.size f cdv))->
  DSs K mg (eR (CX1 P w) P w K mg base N fx (ar m_) f cdv A outer s H E) (λ_=>E) (bH m_) x) (hn:ms.length=ps.length:=by rfl) (hm:N.length=m:=by rfl):Callee P w K mg base fx (k+1) ps (sp3 K mg (PFx.of ms m x).fn):=okP D S hb j_ hn hm
def ok0(D:Def K mg fx m_)(S:FnScope N ps (ar m_))
 (hb:∀(kV doc pm:Value) (an:Option Addr) (cdv ct:Value) (us:List Value),us.length=ps.length->bindArgs (W.fnOf fx fx (dC m_) (bH m_) (ar m_) .none kV doc pm an cdv ct) ⟨us,[]⟩=pure (ps.zip us)) (hn:ms.length=ps.length:=by rfl):Callee P w K mg base fx (k+1) ps (sp3 K mg (PFx.none ms).fn):=
 (okP (x:=xNo) (ms:=ms) (m:=N.length) D S hb (λ_ _ _ _ _ _ _ _ _=>⟨λ_ _ _ _ _ _ ⟨_,_,_,_,_,p⟩=>p.elim⟩) hn).imp λ_ _ _ _ ⟨_,_,_,_,_,p⟩=>p.elim
end
section
variable{K:W.Frag}{mg:Qd}{X:Cx}{ES:St->XK}{e:Expr}{p:PEx}{pos:Pos}
def zsS{ow:Bool}(i:Nat){x:Str}{k_:Pos}(hN:X.N.Nodup)(he:DE K mg X ES e p)(hi:X.N[i]?=some x:=by exact rfl)(hx:Loc X.env.scope x:=by first |exact Or.inl rfl |exact Or.inr rfl)(hs:swapsWith e (some (.Name x k_)) pos.line X.env=pure false:=by rfl)(hf:X.fn x=true\/X.env.scope.names.lookup x=some .local:=by first |exact .inl rfl |exact .inr rfl |assumption):DS K mg X ES (.Assign [.Name x k_] e pos) (aw ow i p):=HU hN hi hx he hs hf
def zgN(i:Nat){x:Str}(hN:X.N.Nodup)(hi:X.N[i]?=some x:=by exact rfl)(hx:Loc X.env.scope x:=by first |exact Or.inl rfl |exact Or.inr rfl)(hf:X.fn x=true\/X.env.scope.names.lookup x=some .local:=by first |exact .inl rfl |exact .inr rfl |assumption):DG K mg X (.Name x pos) (gtN i):=EG hN hi hx hf
end
section
variable(e:E3)
@[simp] theorem jC(a:α)(f:α->E3->R3 β):(R3.ok a e).bind f=f a e:=rfl
@[simp] theorem MK(a:α)(f:α->E3->SR3):(R3.ok a e).toS f=f a e:=rfl
@[simp] theorem Lk(f:E3->SR3):(SR3.nx e).then f=f e:=rfl
@[simp] theorem LC(r:Rt)(f:E3->SR3):(SR3.rt r e).then f=.rt r e:=rfl
@[simp] theorem K7(f:E3->SR3):(SR3.bk e).then f=.bk e:=rfl
@[simp] theorem GB(c:Str)(f:E3->SR3):(SR3.exc c e).then f=.exc c e:=rfl
@[simp] theorem qw(f:E3->SR3):(SR3.nx e).loop f=f e:=rfl
@[simp] theorem MH(f:E3->SR3):(SR3.bk e).loop f=.nx e:=rfl
@[simp] theorem K5(r:SR3):r.unl none=r:=by cases r <;> rfl
@[simp] theorem Dh:lockO e none=e:=rfl
@[simp] theorem xK:fE e none=e:=rfl
@[simp] theorem Ku(v:Val):(Bv.val v).at e=.ok (.val v) e:=rfl
@[simp] theorem Kj(v:Val):(Bv.new v).at e=.ok (.new v) e:=rfl
@[simp] theorem Jd(v:Val):rs e (.val v)=some v:=rfl
@[simp] theorem HX(v:Val):rs e (.new v)=some v:=rfl
@[simp] theorem Jv(i:Nat):rs e (.bor i)=(e[i]?).bind Sl.val:=rfl
@[simp] theorem KJ(v:Val):(Tm.val v).drop=.val v:=rfl
@[simp] theorem Js(v:Val):(Tm.new v).drop=.val v:=rfl
@[simp] theorem HL(i:Nat):(Tm.bor i).drop=.bor i:=rfl
@[simp] theorem F7:rss e []=some []:=rfl
@[simp] theorem Be(t:Tm)(ts:List Tm):rss e (t::ts)=match rs e t,rss e ts with
 |some v,some vs=>some (v::vs)
 |_,_=>none:=rfl
@[simp] theorem Jh(v:Val):dg e (.val v)=some (e,v):=rfl
@[simp] theorem J6(v:Val):dg e (.new v)=some (e,v):=rfl
@[simp] theorem Ar:dem e []=some (e,[]):=rfl
@[simp] theorem F9(t:Tm)(ts:List Tm):dem e (t::ts)=match dg e t with
 |some (e1,v)=>match dem e1 ts with
  |some (e2,vs)=>some (e2,v::vs)
  |none=>none
 |none=>none:=rfl
@[simp] theorem KH(b:Bool):bOf (some (.bl b))=some b:=rfl
@[simp] theorem LP(i:Nat):(af i).G e=match e[i]? with
 |some (.sh v)=>.ok (.val v) e
 |some .no=>.stuck
 |some _=>.ok (.bor i) e
 |none=>.stuck:=rfl
@[simp] theorem MN(i:Int):(ah i).G e=.ok (.val (.int i)) e:=rfl
@[simp] theorem v_bl(i:Bool):(pBl i).G e=.ok (.val (.bl i)) e:=rfl
@[simp] theorem MX(i:Str):(cG i).G e=.ok (.val (.str i)) e:=rfl
@[simp] theorem Ls:Dl.G e=.ok (.val .non) e:=rfl
@[simp] theorem v_ty(i:String):(pTy i).G e=.ok (.val (.ty i)) e:=rfl
@[simp] theorem Lx(i:Str):(xN i).G e=.ok (.val (.glb i)) e:=rfl
@[simp] theorem v_un(o:PU1)(a:PEx):(pUn o a).G e=(a.G e).bind λt e1=>match rs e1 t with
 |some v=>(o.G v).at e1
 |none=>.stuck:=rfl
@[simp] theorem v_op(o:PO2)(a b:PEx):(pOp o a b).G e=(a.G e).bind λt1 e1=>(b.G e1).bind λt2 e2=>match rs e2 t1.drop,rs e2 t2 with
 |some v1,some v2=>(o.G v1 v2).at e2
 |_,_=>.stuck:=rfl
@[simp] theorem LL:ag.G e=.ok [] e:=rfl
@[simp] theorem Ia(a:PEx)(r:PAs):(aa a r).G e=(a.G e).bind λt e1=>(r.G e1).bind λts e2=>.ok (t.drop::ts) e2:=rfl
@[simp] theorem v_fn(o:PBf)(a:PAs):(pFn o a).G e=(a.G e).bind λts e1=>match rss e1 ts with
 |some vs=>(o.G vs).at e1
 |none=>.stuck:=rfl
@[simp] theorem Li(a:PAs):(ba a).G e=(a.G e).bind λts e1=>match dem e1 ts with
 |some (e2,vs)=>if vs.length<=16777216 then .ok (.val (.tup vs)) e2 else .stuck
 |none=>.stuck:=rfl
@[simp] theorem LS(a:PAs):(cU a).G e=(a.G e).bind λts e1=>match dem e1 ts with
 |some (e2,vs)=>if vs.length<=16777216 then .ok (.new (.lst vs)) e2 else .stuck
 |none=>.stuck:=rfl
@[simp] theorem Mv(a b:PEx):(jA a b).G e=(a.G e).bind λt e1=>match bOf (rs e1 t) with
 |some true=>b.G e1
 |some false=>.ok (.val (.bl false)) e1
 |none=>.stuck:=rfl
@[simp] theorem Mj(a:PEx):(CL a).G e=(a.G e).bind λt e1=>match bOf (rs e1 t) with
 |some b=>.ok (.val (.bl (!b))) e1
 |none=>.stuck:=rfl
@[simp] theorem c_of(a:PEx):(qOf a).G e=(a.G e).bind λt e1=>match bOf (rs e1 t) with
 |some b=>.ok b e1
 |none=>.stuck:=rfl
@[simp] theorem c_tr(a:PEx):(qTr a).G e=(a.G e).bind λt e1=>match (rs e1 t).bind oT with
 |some b=>.ok b e1
 |none=>.stuck:=rfl
@[simp] theorem c_an(a b:PTs):(qAn a b).G e=(a.G e).bind λk e1=>if k=true then b.G e1 else .ok false e1:=rfl
@[simp] theorem c_o(a b:PTs):(qO a b).G e=(a.G e).bind λk e1=>if k=true then .ok true e1 else b.G e1:=rfl
@[simp] theorem c_no(a:PTs):(qNo a).G e=(a.G e).bind λk e1=>.ok (!k) e1:=rfl
@[simp] theorem x_nx:xNx.G e=.nx e:=rfl
@[simp] theorem x_bk:xBk.G e=.bk e:=rfl
@[simp] theorem Kq:xJ.G e=.rt (.val .non) e:=rfl
@[simp] theorem Ng(a:PEx):(aq a).G e=(a.G e).toS nU:=rfl
@[simp] theorem Gg(v:Val):nU (.val v) e=.rt (.val v) e:=rfl
@[simp] theorem FU(v:Val):nU (.new v) e=.rt (.new v) e:=rfl
@[simp] theorem F5(i:Nat):nU (.bor i) e=match e[i]? with
 |some (.sh v)=>.rt (.val v) e
 |some (.ow v)=>.rt (.new v) (e.set i .no)
 |some (.mu _)=>.rt (.par i) e
 |_=>.stuck:=rfl
@[simp] theorem Ka(a:PEx):(aK a).G e=(a.G e).toS λ_ e1=>.nx e1:=rfl
@[simp] theorem DK(a b:PSt):(aj a b).G e=(a.G e).then b.G:=rfl
@[simp] theorem x_if(c:PTs)(a b:PSt):(xIf c a b).G e=(c.G e).toS λk e1=>if k=true then a.G e1 else b.G e1:=rfl
@[simp] theorem Nl(o:Bool)(i:Nat)(a:PEx):(aw o i a).G e=(a.G e).toS (jq o i):=rfl
@[simp] theorem KU:Sl.no.pl=true:=rfl
@[simp] theorem Ld(v:Val):(Sl.sh v).pl=true:=rfl
@[simp] theorem FW(o:Bool)(i:Nat)(v:Val):jq o i (.val v) e=match e[i]? with
 |some s0=>if s0.pl=true then .nx (e.set i (.sh v)) else .stuck
 |none=>.stuck:=by unfold jq;rfl
@[simp] theorem C7(i:Nat)(v:Val):jq true i (.new v) e=match e[i]? with
 |some s0=>if s0.pl=true then .nx (e.set i (.ow v)) else .stuck
 |none=>.stuck:=by unfold jq;rfl
@[simp] theorem Ca(i:Nat)(v:Val):jq false i (.new v) e=match e[i]? with
 |some s0=>if s0.pl=true then .nx (e.set i (.sh v)) else .stuck
 |none=>.stuck:=by unfold jq;rfl
@[simp] theorem g_n(i:Nat)(v:Val):(gtN i).G v e=match e[i]? with
 |some s=>if s.pl=true then some (e.set i (.sh v)) else none
 |none=>none:=rfl
@[simp] theorem g_sn:dO.G [] e=some e:=rfl
@[simp] theorem g_sc(a:PGt)(b:PGs)(v:Val)(vs:List Val):(aV a b).G (v::vs) e=(a.G v e).bind λe1=>b.G vs e1:=rfl
@[simp] theorem g_t(n:Nat)(a:PGs)(vs:List Val):(gtT n a).G (.tup vs) e=if vs.length=n then a.G vs e else none:=rfl
@[simp] theorem HG(a:PEx)(g:PGt):(kQ a g).G e=(a.G e).toS λt e1=>match dg e1 t with
 |some (e2,v)=>match g.G v e2 with
  |some e3=>.nx e3
  |none=>.stuck
 |none=>.stuck:=rfl
@[simp] theorem La(i j:Nat)(a:PAs):(fU i j a).G e=(a.G e).toS λts e1=>match dem e1 ts with
 |some (e2,[v,u])=>match (pN i v e2).bind (pN j u) with
  |some e3=>.nx e3
  |none=>.stuck
 |_=>.stuck:=rfl
@[simp] theorem Nk(i:Nat)(v:Val):pN i v e=match e[i]? with
 |some s=>if s.pl=true then some (e.set i (.sh v)) else none
 |none=>none:=rfl
@[simp] theorem Nc(i:Nat)(o:PO2)(a:PEx):(sX i o a).G e=match e[i]? with
 |some (.sh x)=>(a.G e).toS λt e1=>match rs e1 t with
  |some y=>match o.G x y with
   |.val z=>match pN i z e1 with
    |some e2=>.nx e2
    |none=>.stuck
   |_=>.stuck
  |none=>.stuck
 |_=>.stuck:=rfl
@[simp] theorem Gm(c:Str)(a:PAs):(fh c a).G e=(a.G e).toS λts e1=>if ts.length<=16777216 then .exc c e1 else .stuck:=rfl
@[simp] theorem K8(i:Nat)(w:PSe)(k a:PEx):(tZ i w k a).G e=(a.G e).toS λt e1=>match (e1[i]?).bind Sl.mv with
 |none=>.stuck
 |some _=>(k.G e1).toS λt2 e2=>match rs e2 t2 with
  |none=>.stuck
  |some vi=>match dg e2 t.drop with
   |none=>.stuck
   |some (e3,v)=>match e3[i]? with
    |none=>.stuck
    |some s=>match s.mv with
     |none=>.stuck
     |some u=>match w.G u vi v with
      |some u'=>.nx (e3.set i (s.re u'))
      |none=>.stuck:=rfl
@[simp] theorem Mq(v:Val):(Sl.ow v).mv=some v:=rfl
@[simp] theorem M7(v:Val):(Sl.mu v).mv=some v:=rfl
@[simp] theorem LK(v u:Val):(Sl.ow v).re u=.ow u:=rfl
@[simp] theorem KN(v u:Val):(Sl.mu v).re u=.mu u:=rfl
@[simp] theorem Ib(v:Val):(Sl.ow v).val=some v:=rfl
@[simp] theorem Hq(v:Val):(Sl.mu v).val=some v:=rfl
@[simp] theorem Mg(i:Nat)(m:PMm)(a:PAs):(kq i m a).G e=match e[i]? with
 |some s=>if (s.mv.map fF)=some true then (a.G e).bind λts e1=>match dem e1 ts with
  |some (e2,vs)=>match e2[i]? with
   |some s2=>match s2.mv with
    |some u=>match m.G u vs with
     |some (u',v)=>.ok (.val v) (e2.set i (s2.re u'))
     |none=>.stuck
    |none=>.stuck
   |none=>.stuck
  |none=>.stuck else .stuck
 |none=>.stuck:=rfl
@[simp] theorem IS(i:Nat)(m:PMm):(qf i m).G e=match e[i]? with
 |some s=>if (s.mv.map fF)=some true then (match s.mv with
  |some u=>match m.G u [] with
   |some (u',v)=>.ok (.val v) (e.set i (s.re u'))
   |none=>.stuck
  |none=>.stuck) else .stuck
 |none=>.stuck:=by
 show oD i m.G oy e=_;unfold oD;cases q:e[i]? with
 |none=>rfl
 |
  some s=>
  dsimp only;split
  .simp only[oy,jC,Ar,rh,q];try rfl
  .rfl
@[simp] theorem Bq(xs:List Val):fF (.lst xs)=true:=rfl
@[simp] theorem HB(m:PMv)(a:PEx)(b:PAs):(qG m a b).G e=(a.G e).bind λt e1=>if (rs e1 t).map fF=some true then (b.G e1).bind λts e2=>(match rs e2 t.drop,rss e2 ts with
 |some v,some vs=>if fF v=true then (m.G v vs).at e2 else .stuck
 |_,_=>.stuck) else .stuck:=rfl
@[simp] theorem Nj(a:PEx):(cq a).G e=(a.G e).bind λt e1=>match iI t e1 with
 |some p=>.ok p e1
 |none=>.stuck:=rfl
@[simp] theorem MB(a:PAs):(m3 a).G e=(a.G e).bind λts e1=>match ts with
 | [t,u]=>(match iI t e1,iI u e1 with
  |some (xs,k),some (ys,none)=>.ok (List.zipWith (λx y=>.tup [x,y]) xs ys,k) e1
  |_,_=>.stuck)
 |_=>.stuck:=rfl
@[simp] theorem Ir(v:Val):iI (.val v) e=(gN v).map λxs=>(xs,none):=rfl
@[simp] theorem Ic(v:Val):iI (.new v) e=(gN v).map λxs=>(xs,none):=rfl
@[simp] theorem J1(xs:List Val):gN (.tup xs)=some xs:=rfl
@[simp] theorem JM(xs:List Val):gN (.lst xs)=some xs:=rfl
@[simp] theorem LZ(a:PAs):(kI a).G e=(a.G e).bind λts e1=>match (rss e1 ts).bind jz with
 |some xs=>.ok (xs,none) e1
 |none=>.stuck:=rfl
@[simp] theorem Mk(a:PAs):(yA a).G e=(a.G e).bind λts e1=>match (rss e1 ts).bind tE with
 |some xs=>.ok (xs,none) e1
 |none=>.stuck:=rfl
@[simp] theorem Lc(i:PIt)(g:PGt)(b:PSt):(hE i g b).G e=(i.G e).toS λp e1=>(eB g.G b.G p.1 (lockO e1 p.2)).unl p.2:=rfl
@[simp] theorem fD(g:MG3)(B:MS3):eB g B [] e=.nx e:=rfl
theorem dG(g:MG3)(B:MS3)(v:Val)(vs:List Val):eB g B (v::vs) e=match g v e with
 |some e1=>(B e1).loop (eB g B vs)
 |none=>.stuck:=rfl
def gD(c:PTs)(b:PSt):(xWh c b).G e=(c.G e).toS λk e1=>if k=true then (b.G e1).loop (xWh c b).G else .nx e1:=B3 c.G b.G e
@[simp] theorem v_lc(i:PIt)(sub:Qg)(hs:(sub.filterMap id).Nodup)(g:PGt)(c:PTs)(a:PEx):(pLC i sub hs g c a).G e=(i.G e).bind λp e1=>match lcV g.G c.G a.G p.1 [] (cu sub (lockO e1 p.2)) with
 |.ok ys e2=>if ys.length<=16777216 then .ok (.new (.lst ys)) (fE (aS sub e2 (lockO e1 p.2)) p.2) else .stuck
 |_=>.stuck:=rfl
@[simp] theorem IM(f:PFn)(a:PAs):(ai f a).G e=(a.G e).bind λts e1=>match rss e1 ts with
 |none=>.stuck
 |some vs=>if okA e1 f.ms ts=true then (match f.G vs with
  |.stuck=>.stuck
  |.ok r mv=>if (aO e1 f.ms ts).isEmpty || (kM r&&mv.all cN) then .ok (r.tm ts) (aS (aP f.ms ts) (aA f.ms mv) e1) else (match nO e1 (aO e1 f.ms ts) with
   |some e2=>.ok (r.tm ts) (aS (aP f.ms ts) (aA f.ms mv) e2)
   |none=>.stuck)
  |.exc c mv=>if (aO e1 f.ms ts).isEmpty || mv.all cN then .exc c (aS (aP f.ms ts) (aA f.ms mv) e1) else .stuck) else .stuck:=rfl
@[simp] theorem Kx(ts:List Tm)(v:Val):(Rt.val v).tm ts=.val v:=rfl
@[simp] theorem JY(ts:List Tm)(v:Val):(Rt.new v).tm ts=.new v:=rfl
@[simp] theorem o_n:oN.G e=.ok none e:=rfl
@[simp] theorem o_s(a:PEx):(oS a).G e=(a.G e).bind λt e1=>match rs e1 t with
 |some (.int i)=>.ok (some i) e1
 |_=>.stuck:=rfl
@[simp] theorem v_sl(a:PEx)(l u:POp):(pSl a l u).G e=(a.G e).bind λt e1=>(l.G e1).bind λlo e2=>(u.G e2).bind λhi e3=>match rs e3 t.drop with
 |some v=>(aSl v lo hi).at e3
 |none=>.stuck:=rfl
@[simp] theorem v_d0:pD0.G e=.ok (.new (.dct [])) e:=rfl
theorem ax(ms:List Bool)(N:Nat)(c:PSt)(vs:List Val):(fnP ms N c).G vs=if vs.length=ms.length then (match c.G (sls ms vs++List.replicate (N-vs.length) .no) with
 |.nx e=>(match muV ms e with |some mv=>.ok (.val .non) mv |none=>.stuck)
 |.rt r e=>(match muV ms e with |some mv=>.ok r mv |none=>.stuck)
 |.exc c e=>(match muV ms e with |some mv=>.exc c mv |none=>.stuck)
 |_=>.stuck) else .stuck:=rfl
theorem kK(ms:List Bool)(N:Nat)(c:PSt)(vs:List Val):(PFx.of ms N c).G vs=if vs.length=ms.length then (match c.G (sls ms vs++List.replicate (N-vs.length) .no) with
 |.nx e=>(match muV ms e with |some mv=>.ok (.val .non) mv |none=>.stuck)
 |.rt r e=>(match muV ms e with |some mv=>.ok r mv |none=>.stuck)
 |.exc c e=>(match muV ms e with |some mv=>.exc c mv |none=>.stuck)
 |_=>.stuck) else .stuck:=rfl
@[simp] theorem Lp(p:PFx ms):p.fn.ms=ms:=rfl
@[simp] theorem fx_G(p:PFx ms)(vs:List Val):p.fn.G vs=p.G vs:=rfl
end
@[simp] theorem Ln(i j:Int):aH.G (.int i) (.int j)=.val (.int (i+j)):=rfl
@[simp] theorem MP(i j:Int):d8.G (.int i) (.int j)=.val (.int (i-j)):=rfl
@[simp] theorem k_lt(i j:Int):bLt.G (.int i) (.int j)=.val (.bl (decide (i<j))):=rfl
@[simp] theorem k_gt(i j:Int):bGt.G (.int i) (.int j)=.val (.bl (decide (j<i))):=rfl
@[simp] theorem k_ge(i j:Int):bGe.G (.int i) (.int j)=.val (.bl (decide (j<=i))):=rfl
@[simp] theorem M9(i j:Int):uf.G (.int i) (.int j)=.val (.int (i+j)):=rfl
@[simp] theorem Ll(i:Int):By.G (.int i)=.val (.int (-i)):=rfl
def bz(c:CMulA i j):aY.G (.int i) (.int j)=.val (.int (i*j)):=by show BE (.int i) (.int j)=_;unfold BE aIc;dsimp only;rw[if_pos c]
def kE(c:CDivB i j):jB.G (.int i) (.int j)=.val (.int (i.fdiv j)):=by show Cg (.int i) (.int j)=_;unfold Cg aIc;dsimp only;rw[if_pos c]
def fN(c:j≠0):cH.G (.int i) (.int j)=.val (.int (i.fmod j)):=by show Dc (.int i) (.int j)=_;unfold Dc aIc;dsimp only;rw[if_pos c]
def kP(c:j6 i j):eA.G (.int i) (.int j)=.val (.int (i^j.toNat)):=by show C0 (.int i) (.int j)=_;unfold C0 aIc;dsimp only;rw[if_pos c]
def MY(c:j6 i j):rA.G (.int i) (.int j)=.val (.int (i*2^j.toNat)):=by show C8 (.int i) (.int j)=_;unfold C8 aIc;dsimp only;rw[if_pos c]
@[simp] theorem k_ix(x:Val)(i:Int):bIx.G x (.int i)=match x.items with
 |some xs=>(match atI xs i with
  |some v=>.val v
  |none=>.stuck)
 |none=>.stuck:=by show aIx x (.int i)=_;unfold aIx;cases x.items <;> rfl
@[simp] theorem Ju(xs:List Val):(Val.tup xs).items=some xs:=rfl
@[simp] theorem Hd(xs:List Val):(Val.lst xs).items=some xs:=rfl
@[simp] theorem Lu(xs:List Val):(Val.kl xs).items=some xs:=rfl
@[simp] theorem k_eq(x y:Val):bEq.G x y=match aL x y with
 |some b=>.val (.bl b)
 |none=>.stuck:=by show aEq false x y=_;unfold aEq;cases aL x y <;> rfl
@[simp] theorem k_ne(x y:Val):bNe.G x y=match aL x y with
 |some b=>.val (.bl (!b))
 |none=>.stuck:=by show aEq true x y=_;unfold aEq;cases aL x y <;> rfl
@[simp] theorem DL(x y:Int):aL (.int x) (.int y)=some (x==y):=rfl
def eq_str(hx:PyData.strOk x=true)(hy:PyData.strOk y=true):aL (.str x) (.str y)=some (x==y):=by unfold aL;show (if shp (.str x)=true/\shp (.str y)=true then _ else _)=_;rw[if_pos ⟨ij hx (NM _),ij hy (NM _)⟩];rfl
@[simp] theorem k_is(x:Val):bIs.G x .non=match x with
 |.non=>.val (.bl true)
 |_=>.val (.bl false):=by cases x <;> rfl
@[simp] theorem Md(v:Val):bB.G [v]=match v.items with
 |some xs=>.val (.int xs.length)
 |none=>(match v with
  |.str z=>if z.length<=16777216 then .val (.int z.length) else .stuck
  |_=>.stuck):=rfl
@[simp] theorem KO(i:Int):c9.G [.int i]=.val (.int (if i<0 then -i else i)):=rfl
@[simp] theorem MR(i j:Int):tS.G [.int i,.int j]=.val (.int (if j>i then j else i)):=rfl
@[simp] theorem L7(i j:Int):ud.G [.int i,.int j]=.val (.int (if j<i then j else i)):=rfl
@[simp] theorem Mm(xs:List Val):qK.G [.lst xs]=match jH xs with
 |some bs=>.val (.bl (bs.all id))
 |none=>.stuck:=rfl
@[simp] theorem LR(xs:List Val):bX.G [.lst xs]=match fJ xs with
 |some bs=>.val (.int bs.sum)
 |none=>.stuck:=rfl
@[simp] theorem Iy(v:Val):rj.G [v]=match v.items with
 |some xs=>.new (.lst xs)
 |none=>.stuck:=rfl
@[simp] theorem Gx(v:Val):oh.G [v]=match v.items with
 |some xs=>.val (.tup xs)
 |none=>.stuck:=rfl
@[simp] theorem JQ(b:Bool):qI.G [.bl b]=.val (.int (if b then 1 else 0)):=rfl
@[simp] theorem B0(xs:List Val)(v:Val):gf.G (.lst xs) [v]=if xs.length<16777216 then some (.lst (xs++[v]),.non) else none:=rfl
@[simp] theorem bu:∀(bs:List Int),fJ (bs.map Val.int)=some bs
 | []=>rfl
 |b::r=>by show (fJ (r.map Val.int)).map (b :: ·)=_;rw[bu r];rfl
def Jk(b:Bool)(ms:List Bool)(v:Val)(vs:List Val):sls (b::ms) (v::vs)=sl1 b v::sls ms vs:=rfl
def Gz:sls [] []=[]:=rfl
def Ly(v:Val):sl1 true v=.mu v:=rfl
def M6(v:Val):sl1 false v=.sh v:=rfl
section
variable(e:E3)
def EW:okA e [] []=true:=rfl
def Iw(i:Nat)(ms:List Bool)(ts:List Tm):okA e (true::ms) (.bor i::ts)=(((e[i]?).bind Sl.mv).isSome && !(iP i ts)&&okA e ms ts):=rfl
def G9(i:Nat)(ms:List Bool)(ts:List Tm):okA e (false::ms) (.bor i::ts)=(!(jX i ms ts)&&okA e ms ts):=rfl
def JF(v:Val)(ms:List Bool)(ts:List Tm):okA e (false::ms) (.val v::ts)=okA e ms ts:=rfl
def BY(i:Nat):iP i []=false:=rfl
def IP(i:Nat)(v:Val)(ts:List Tm):iP i (.val v::ts)=iP i ts:=rfl
def Dw(i:Nat):jX i [] []=false:=rfl
def AK:aO e [] []=[]:=rfl
theorem EI(i:Nat)(ms:List Bool)(ts:List Tm):aO e (false::ms) (.bor i::ts)=match e[i]? with
 |some (.sh _)=>aO e ms ts
 |_=>i::aO e ms ts:=rfl
def FY(v:Val)(ms:List Bool)(ts:List Tm):aO e (false::ms) (.val v::ts)=aO e ms ts:=rfl
def KI(t:Tm)(ms:List Bool)(ts:List Tm):aO e (true::ms) (t::ts)=aO e ms ts:=by cases t <;> rfl
end
def ze:aP [] []=[]:=rfl
def Fg(b:Bool)(t:Tm)(ms:List Bool)(ts:List Tm):aP (b::ms) (t::ts)=oO b t::aP ms ts:=rfl
def EY(i:Nat):oO true (.bor i)=some i:=rfl
def II(t:Tm):oO false t=none:=by cases t <;> rfl
def Dz(e:E3):aS [] [] e=e:=rfl
def HJ(o:Option Nat)(sub:Qg)(s:Sl)(i e:E3):aS (o::sub) (s::i) e=aS sub i (gh o s e):=rfl
theorem FJ(i:Nat)(v:Val)(e:E3):gh (some i) (.mu v) e=match e[i]? with
 |some t=>e.set i (t.re v)
 |none=>e:=rfl
def HM(s:Sl)(e:E3):gh none s e=e:=rfl
def Cb(vs:List Val):aA [] vs=[]:=rfl
def Jl(ms:List Bool)(v:Val)(vs:List Val):aA (true::ms) (v::vs)=.mu v::aA ms vs:=rfl
def GF(ms:List Bool)(vs:List Val):aA (false::ms) vs=.no::aA ms vs:=by cases vs <;> rfl
def FX(e:E3):muV [] e=some []:=by cases e <;> rfl
def ML(ms:List Bool)(v:Val)(e:E3):muV (true::ms) (.mu v::e)=(muV ms e).map (v :: ·):=rfl
def Ml(ms:List Bool)(s:Sl)(e:E3):muV (false::ms) (s::e)=muV ms e:=by cases s <;> rfl
def zj(v:Val):kM (.val v)=flatV v:=rfl
def yS(v:Val):kM (.new v)=cN v:=rfl
def zY(xs:List Val):cN (.lst xs)=flatVs xs:=rfl
def nG:flatVs []=true:=by simp [flatVs]
def gp(v:Val)(vs:List Val):flatVs (v::vs)=(flatV v&&flatVs vs):=by simp [flatVs]
def A3(i:Int):flatV (.int i)=true:=by simp [flatV]
def Cq(i:Bool):flatV (.bl i)=true:=by simp [flatV]
def Ab(i:Str):flatV (.str i)=true:=by simp [flatV]
def yF:flatV .non=true:=by simp [flatV]
def kg(xs:List Val):flatV (.tup xs)=flatVs xs:=by simp [flatV]
def aR(h0:0<=i)(h:l[i.toNat]?=some x):atI l i=some x:=by have hl:=(C_.mp h).1;unfold atI ixN;rw[if_pos h0,if_pos (by omega)];exact h
def A5(h0:0<=i)(h:i.toNat<n):ixN n i=some i.toNat:=by unfold ixN;rw[if_pos h0,if_pos (by omega)]
section
variable(a b c d:α)(l:List α)
def ati0:atI (a::l) 0=some a:=aR (by decide) rfl
def ati1:atI (a::b::l) 1=some b:=aR (by decide) rfl
def ati2:atI (a::b::c::l) 2=some c:=aR (by decide) rfl
def ati3:atI (a::b::c::d::l) 3=some d:=aR (by decide) rfl
end
def ixn0(n:Nat):ixN (n+1) 0=some 0:=A5 (i:=0) (by decide) (by show 0<n+_;omega)
def ixn1(n:Nat):ixN (n+2) 1=some 1:=A5 (i:=1) (by decide) (by show 1<n+_;omega)
theorem MC(xs:List Val)(k:Int)(v:Val):seL.G (.lst xs) (.int k) v=match ixN xs.length k with
 |some j=>some (.lst (xs.set j v))
 |none=>none:=rfl
mutual
def vq:Val->Val->Bool
 |.non,.non=>true
 |.bl a,.bl b=>a==b
 |.bl a,.int j=>(if a then 1 else 0)==j
 |.int i,.bl b=>i==(if b then 1 else 0)
 |.int i,.int j=>i==j
 |.str x,.str y=>x==y
 |.tup xs,.tup ys=>vqs xs ys
 |.lst xs,.lst ys=>vqs xs ys
 |_,_=>false
def vqs:List Val->List Val->Bool
 | [],[]=>true
 |x::xs,y::ys=>vq x y&&vqs xs ys
 |_,_=>false
end
mutual
def wfV:Nat->Val->Bool
 |_,.non=>true
 |_,.bl _=>true
 |_,.int _=>true
 |_,.str x=>PyData.strOk x
 |k+1,.tup xs=>cP k xs
 |k+1,.lst xs=>cP k xs
 |_,_=>false
def cP:Nat->List Val->Bool
 |_,[]=>true
 |k,x::xs=>wfV k x&&cP k xs
end
mutual
def gE:Val->PyData
 |.bl b=>.bool b
 |.int i=>.int i
 |.str x=>.str x
 |.tup xs=>.tuple (eM xs)
 |.lst xs=>.list (eM xs)
 |_=>.none
def eM:List Val->List PyData
 | []=>[]
 |x::xs=>gE x::eM xs
end
mutual
theorem n6:∀(k:Nat) (v:Val),wfV k v=true->(∀j,k<j->cL j v=some (gE v))/\(gE v).canLay0=true/\(gE v).depth<=k
 |k,.non,_=>⟨λj hj=>by cases j with |zero=>exact absurd hj (OI _) |succ j=>rfl,rfl,NM _⟩
 |k,.bl b,_=>⟨λj hj=>by cases j with |zero=>exact absurd hj (OI _) |succ j=>rfl,rfl,NM _⟩
 |k,.int b,_=>⟨λj hj=>by cases j with |zero=>exact absurd hj (OI _) |succ j=>rfl,rfl,NM _⟩
 |k,.str b,w=>⟨λj hj=>by cases j with |zero=>exact absurd hj (OI _) |succ j=>rfl,by cases k <;> exact w,NM _⟩
 |0,.tup xs,w=>absurd w x_
 |0,.lst xs,w=>absurd w x_
 |
  k+1,.tup xs,w=>by
  obtain⟨h1,h2,h3⟩:=me k xs w;exact⟨λj hj=>by cases j with |zero=>exact absurd hj (OI _) |succ j=>simp only[cL,gE,h1 j (Nat.lt_of_succ_lt_succ hj),Option.map_some],h2,by simpa [gE,PyData.depth] using h3⟩
 |
  k+1,.lst xs,w=>by
  obtain⟨h1,h2,h3⟩:=me k xs w;exact⟨λj hj=>by cases j with |zero=>exact absurd hj (OI _) |succ j=>simp only[cL,gE,h1 j (Nat.lt_of_succ_lt_succ hj),Option.map_some],h2,by simpa [gE,PyData.depth] using h3⟩
 |k,.ty _,w=>by cases k <;> exact absurd w x_
 |k,.glb _,w=>by cases k <;> exact absurd w x_
 |k,.exc _,w=>by cases k <;> exact absurd w x_
 |k,.kl _,w=>by cases k <;> exact absurd w x_
 |k,.dct _,w=>by cases k <;> exact absurd w x_
 |k,.set _,w=>by cases k <;> exact absurd w x_
theorem me:∀(k:Nat) (vs:List Val),cP k vs=true->(∀j,k<j->eD j vs=some (eM vs))/\PyData.canLayAll0 (eM vs)=true/\PyData.depthAll (eM vs)<=k
 |k,[],_=>⟨λj hj=>by simp [eD,eM],rfl,NM _⟩
 |
  k,v::vs,w=>by
  have w':(wfV k v&&cP k vs)=true:=w;rw[v_] at w';obtain⟨h1,h2,h3⟩:=n6 k v w'.1;obtain⟨i1,i2,i3⟩:=me k vs w'.2;exact⟨λj hj=>by simp [eD,eM,h1 j hj,i1 j hj],by simp [eM,PyData.canLayAll0,h2,i2],Nat.max_le.mpr ⟨h3,i3⟩⟩
end
mutual
theorem zR:∀(k:Nat) (v u:Val),wfV k v=true->wfV k u=true->PyData.eqv (gE v) (gE u)=vq v u
 |
  k,v,u,hv,hu=>by
  cases v <;> first |(cases k <;> exact absurd hv x_) |skip
  all_goals (cases u <;> first |(cases k <;> exact absurd hu x_) |rfl |(cases k with |zero=>exact absurd hv x_ |succ k=>exact vE k _ _ hv hu))
theorem vE:∀(k:Nat) (v u:List Val),cP k v=true->cP k u=true->PyData.eqvAll (eM v) (eM u)=vqs v u
 |_,[],[],_,_=>rfl
 |_,[],_::_,_,_=>rfl
 |_,_::_,[],_,_=>rfl
 |
  k,x::xs,y::ys,hv,hu=>by
  have h1:(wfV k x&&cP k xs)=true:=hv;have h2:(wfV k y&&cP k ys)=true:=hu;rw[v_] at h1 h2;show (PyData.eqv (gE x) (gE y)&&PyData.eqvAll (eM xs) (eM ys))=(vq x y&&vqs xs ys);rw[zR k x y h1.1 h2.1,vE k xs ys h1.2 h2.2]
end
def A4(hk:k<=160)(hx:wfV k x=true)(hy:wfV k y=true):aL x y=some (vq x y):=by obtain⟨h1,h2,h3⟩:=n6 k x hx;obtain⟨i1,i2,i3⟩:=n6 k y hy;unfold aL;rw[h1 164 (by omega),i1 164 (by omega)];dsimp only;rw[if_pos ⟨ij h2 (by omega),ij i2 (by omega)⟩,zR k x y hx hy]
def LJ(hx:wfV 60 x=true)(hy:wfV 60 y=true):aL x y=some (vq x y):=A4 (by decide) hx hy
mutual
def lH:Val->Bool
 |.bl _=>false
 |.tup xs=>iC xs
 |.lst xs=>iC xs
 |.non=>true
 |.int _=>true
 |.str _=>true
 |_=>false
def iC:List Val->Bool
 | []=>true
 |x::xs=>lH x&&iC xs
end
mutual
theorem za:∀(v u:Val),lH v=true->lH u=true->(vq v u=true ↔ v=u)
 |
  v,u,hv,hu=>by
  cases v <;> first |exact absurd hv x_ |skip
  all_goals (cases u <;> first |exact absurd hu x_ |exact⟨λz=>absurd z x_,λz=>nomatch z⟩ |(simp [vq];done) |skip)
  all_goals
   refine Iff.trans (wL _ _ hv hu) ?_;constructor
   .rintro rfl;rfl
   .intro z;cases z;rfl
theorem wL:∀(v u:List Val),iC v=true->iC u=true->(vqs v u=true ↔ v=u)
 | [],[],_,_=>⟨λ_=>rfl,λ_=>rfl⟩
 | [],_::_,_,_=>⟨λz=>absurd z x_,λz=>nomatch z⟩
 |_::_,[],_,_=>⟨λz=>absurd z x_,λz=>nomatch z⟩
 |
  x::xs,y::ys,hv,hu=>by
  have h1:(lH x&&iC xs)=true:=hv;have h2:(lH y&&iC ys)=true:=hu;rw[v_] at h1 h2;show (vq x y&&vqs xs ys)=true ↔ _;rw[v_,za x y h1.1 h2.1,wL xs ys h1.2 h2.2,List.cons.injEq]
end
mutual
theorem vX:∀(k:Nat) (v:Val),wfV k v=true->vq v v=true
 |
  k,v,hv=>by
  cases v <;> first |(cases k <;> exact absurd hv x_) |rfl |exact OR _ |(cases k with |zero=>exact absurd hv x_ |succ k=>exact sW k _ hv)
theorem sW:∀(k:Nat) (v:List Val),cP k v=true->vqs v v=true
 |_,[],_=>rfl
 |
  k,x::xs,hv=>by
  have h1:(wfV k x&&cP k xs)=true:=hv;rw[v_] at h1;show (vq x x&&vqs xs xs)=true;rw[vX k x h1.1,sW k xs h1.2];rfl
end
noncomputable def fV (q:Rat):Val:=.tup [.int q.num,.int q.den]
structure Bx where
 l:Rat
 t:Rat
 w:Rat
 h:Rat
structure Bx.Ok(b:Bx):Prop where
 w:0<b.w
 h:0<b.h
structure Bx.Sz(n:Nat)(b:Bx):Prop where
 l:L2.Sz n b.l
 t:L2.Sz n b.t
 w:L2.Sz n b.w
 h:L2.Sz n b.h
noncomputable def bV (b:Bx):Val:=.tup [fV b.l,fV b.t,fV b.w,fV b.h]
def JX(e:fV p=fV q):p=q:=by unfold fV at e;simp only[Val.tup.injEq,List.cons.injEq,Val.int.injEq,and_true] at e;rw[eP p,eP q,e.1,e.2]
def Ea(q:Rat)(k:Nat):wfV (k+1) (fV q)=true:=by simp [fV,wfV,cP]
def DN(q:Rat):lH (fV q)=true:=by simp [fV,lH,iC]
def D4(p q:Rat):aL (fV p) (fV q)=some (decide (p=q)):=by rw[LJ (Ea p 59) (Ea q 59)];congr 1;rw[PK,za _ _ (DN p) (DN q),ON];exact⟨JX,λz=>by rw[z]⟩
noncomputable def knV:Val->Bool
 |.exc _=>false
 |v=>(tyC v).isSome
noncomputable def iN:Nat->Val->Bool
 |k+1,.tup xs=>xs.all (iN k)
 |_,v=>knV v
noncomputable def ji:Val->Bool
 |.int _=>true
 |_=>false
noncomputable def aQ:Val->Bool
 |.tup [.int a,.int b]=>decide (1<=b)&&decide (Int.gcd a b=1)
 |_=>false
noncomputable def jo:Val->Bool
 |.tup (.int a::_)=>decide (0<a)
 |_=>false
noncomputable def gq:Val->Bool
 |.tup [a,b,c,d]=>aQ a&&(aQ b&&(aQ c&&(aQ d&&(jo c&&jo d))))
 |_=>false
noncomputable def iu:Val->Bool
 |.int i=>decide (1<=i)
 |_=>false
noncomputable def fI:Val->Bool
 |.tup _=>true
 |_=>false
def LN(h1:1<=b)(h2:Int.gcd a b=1):Val.tup [.int a,.int b]=fV ((a:Rat)/(b:Rat)):=by
 have hb:b≠0:=by omega
 have h:=mB (a:=a) hb;have s:=Fr.self (by omega) h2;unfold fV;rw[<- h.1,<- h.2,s.1,s.2]
def jm(q:Rat):aQ (fV q)=true:=by
 show (decide (1<=(q.den:Int))&&decide (Int.gcd q.num q.den=1))=true
 have:=q.den_pos
 rw[H_ (by omega),H_ (vL q)];rfl
def yB(h:aQ d=true):∃q,d=fV q:=by
 unfold aQ at h;split at h
 .simp only[v_,ON] at h;exact⟨_,LN h.1 h.2⟩
 .cases h
def vI(q:Rat):jo (fV q)=decide (0<q):=by show decide (0<q.num)=decide (0<q);rw[O9];exact vj
def CS(h:b.Ok):gq (bV b)=true:=by show (aQ (fV b.l)&&(aQ (fV b.t)&&(aQ (fV b.w)&&(aQ (fV b.h)&&(jo (fV b.w)&&jo (fV b.h))))))=true;rw[jm,jm,jm,jm,vI,vI,H_ h.w,H_ h.h];rfl
def Ik(b:Bx):iN 2 (bV b)=true:=by simp [bV,fV,iN,knV,tyC]
theorem oM(P:E3->Prop):∀(vs acc:List Val) (e:E3),P e->(∀v∈vs,∀e,P e->∃e1 t e2,g v e=some e1/\F e1=.ok t e2/\dg e2 t=some (e2,f v)/\P e2)->acc.length+vs.length<=16777216->∃e',P e'/\lcV g cY F vs acc e=.ok (acc++vs.map f) e'
 | [],acc,e,hp,_,_=>⟨e,hp,by simp [lcV]⟩
 |
  v::vs,acc,e,hp,hf,hl=>by
  obtain⟨e1,t,e2,q1,q2,q3,q4⟩:=hf v (r_ ..) e hp;obtain⟨e',p',q5⟩:=oM P vs (acc++[f v]) e2 q4 (λu hu=>hf u (q_ _ hu)) (by simp at hl ⊢;omega);refine⟨e',p',?_⟩;unfold lcV;rw[if_pos (by simp at hl;omega),q1];simp only[cY,jC,O7,q2,q3,q5];simp
noncomputable def rgV (k:Nat):List Val:=(List.range k).map λj=>Val.int (j:Nat)
def oP(h:k<1000000):jz [.int (k:Nat)]=some (rgV k):=by simp only[jz];rw[if_pos (⟨by omega,by omega⟩:RgB _),NT];unfold lW rgV;simp only[Int.zero_add]
def wb(h0:0<=i)(h:i<1000000):jz [.int i]=some (rgV i.toNat):=by
 have:=oP (k:=i.toNat) (by omega)
 rwa [show ((i.toNat:Nat):Int)=i from by omega] at this
theorem cJ(fv fw:α->Val)(P:E3->Prop):∀(l:List α) (acc:List Val) (e:E3),P e->(∀a∈l,∀e,P e->∃e1 t e2,g (fv a) e=some e1/\F e1=.ok t e2/\dg e2 t=some (e2,fw a)/\P e2)->acc.length+l.length<=16777216->∃e',P e'/\lcV g qY.G F (l.map fv) acc e=.ok (acc++l.map fw) e'
 | [],acc,e,hp,_,_=>⟨e,hp,by simp [lcV]⟩
 |
  v::vs,acc,e,hp,hf,hl=>by
  obtain⟨e1,t,e2,q1,q2,q3,q4⟩:=hf v (r_ ..) e hp;obtain⟨e',p',q5⟩:=cJ fv fw P vs (acc++[fw v]) e2 q4 (λu hu=>hf u (q_ _ hu)) (by simp at hl ⊢;omega);refine⟨e',p',?_⟩;rw[t_];unfold lcV;have cy:qY.G=cY:=rfl;rw[cy] at q5 ⊢;rw[if_pos (by simp at hl;omega),q1];simp only[cY,jC,O7,q2,q3,q5];simp
def Ip(v:Val):inS (.sh v)=.sh v:=rfl
mutual
theorem rG:∀(k:Nat) (v:Val),wfV k v=true->wfV (k+1) v=true
 |k,.non,_=>by simp [wfV]
 |k,.bl _,_=>by simp [wfV]
 |k,.int _,_=>by simp [wfV]
 |k,.str x,h=>by cases k <;> simpa [wfV] using h
 |0,.tup _,h=>by simp [wfV] at h
 |0,.lst _,h=>by simp [wfV] at h
 |
  k+1,.tup xs,h=>by
  have:=jY k xs (by simpa [wfV] using h)
  simpa [wfV] using this
 |
  k+1,.lst xs,h=>by
  have:=jY k xs (by simpa [wfV] using h)
  simpa [wfV] using this
 |k,.ty _,h=>by cases k <;> simp [wfV] at h
 |k,.glb _,h=>by cases k <;> simp [wfV] at h
 |k,.exc _,h=>by cases k <;> simp [wfV] at h
 |k,.kl _,h=>by cases k <;> simp [wfV] at h
 |k,.dct _,h=>by cases k <;> simp [wfV] at h
 |k,.set _,h=>by cases k <;> simp [wfV] at h
theorem jY:∀(k:Nat) (vs:List Val),cP k vs=true->cP (k+1) vs=true
 |k,[],_=>by simp [cP]
 |
  k,v::vs,h=>by
  have h':wfV k v=true/\cP k vs=true:=by simpa [cP] using h
  simp only[cP,rG k v h'.1,jY k vs h'.2,Bool.and_self]
end
def JV(h:wfV k v=true)(l:k<=m):wfV m v=true:=by
 induction l with
 |refl=>exact h
 |step _ ih=>exact rG _ _ ih
def Fc(i:Nat)(v:Val)(e:E3):gh (some i) (.sh v) e=e:=rfl
noncomputable def lN (ms:List Bool) (r:SR3):R3F:=match r with
 |.nx e=>(match muV ms e with |some mv=>.ok (.val .non) mv |none=>.stuck)
 |.rt r e=>(match muV ms e with |some mv=>.ok r mv |none=>.stuck)
 |.exc c e=>(match muV ms e with |some mv=>.exc c mv |none=>.stuck)
 |_=>.stuck
def wX(h:vs.length=ms.length):(fnP ms N c).G vs=lN ms (c.G (sls ms vs++List.replicate (N-vs.length) .no)):=by rw[ax,if_pos h];rfl
def Im(h:vs.length=ms.length):(PFx.of ms N c).G vs=lN ms (c.G (sls ms vs++List.replicate (N-vs.length) .no)):=by rw[kK,if_pos h];rfl
def xQ(ms:List Bool)(r:Rt)(e:E3):lN ms (.rt r e)=match muV ms e with |some mv=>.ok r mv |none=>.stuck:=rfl
def aE{Q:SR3->Prop}(I:E3->Prop){a b:PSt}{e:E3}(h1:∃e1,a.G e=.nx e1/\I e1)(h2:∀e1,I e1->Q (b.G e1)):Q ((aj a b).G e):=by obtain⟨e1,q,i⟩:=h1;rw[DK,q];exact h2 e1 i
def iV(i:Int):Val.tup [.int i,.int 1]=fV (i:Rat):=rfl
def sm8(h:m.natAbs<1099511627776):Sm 8000 m:=I_ (show m.natAbs<2^40 from h) (NI (by decide) (by decide))
def mP(h:m.natAbs<=2000000000000000000000000000000):Sm 101 m:=by unfold Sm;exact Oh h (by decide)
def gz{m:Int}(h:m.natAbs<=2000000000000000000000000000000):Sz 101 (m:Rat):=⟨mP h,mP (by show (1:Int).natAbs<=_;decide)⟩
def gQ{a b:Int}(hb:b≠0)(h1:a.natAbs<=2000000000000000000000000000000)(h2:b.natAbs<=2000000000000000000000000000000):Sz 101 ((a:Rat)/(b:Rat)):=Sz.div hb (mP h1) (mP h2) 101 (u_ _) (u_ _)
def fY{m:Int}(h:0<m):(0:Rat)<(m:Rat):=Rat.intCast_pos.mpr h
def gi{a b:Int}(h1:0<a)(h2:0<b):(0:Rat)<(a:Rat)/(b:Rat):=by rw[O0];exact Rat.mul_pos (fY h1) (Rat.inv_pos.mpr (fY h2))
structure Good(b:Bx):Prop where
 ok:b.Ok
 sz:b.Sz 101
def kN(h:m.natAbs<=2000000000000000000000000000000):Sm 8000 m:=(mP h).mono (by decide)
noncomputable def G5 (cs:List (Str×PFn)) (F:ME3) (A:MA3) (e:E3):R3 Tm:=(F e).bind λt e1=>match rs e1 t with
 |some (.glb x)=>(match cs.lookup x with
  |some p=>D3 p.ms p.G A e1
  |none=>.stuck)
 |_=>.stuck
noncomputable def mw (cs:List (Str×PFn)) (f:PEx) (a:PAs):PEx:=⟨25,G5 cs f.G a.G⟩
theorem Fn(e:E3)(cs:List (Str×PFn))(f:PEx)(a:PAs):(mw cs f a).G e=(f.G e).bind λt e1=>match rs e1 t with
 |some (.glb x)=>(match cs.lookup x with
  |some p=>(ai p a).G e1
  |none=>.stuck)
 |_=>.stuck:=rfl
theorem nj{β:Type}{x:Str}{b:β}:∀{l:List (Str×β)},l.lookup x=some b->(x,b)∈l
 | [],h=>by simp at h
 |
  (y,c)::l,h=>by
  rw[Of] at h;split at h
  .rename_i q
   have:=eq_of_beq q
   subst this;cases h;exact r_ ..
  .exact q_ _ (nj h)
section
variable{K:W.Frag}{mg:Qd}{X:Cx}{ES:St->XK}{e:Expr}{es:List Expr}{A:PAs}{pos:Pos}
def xt(K:W.Frag)(mg:Qd)(X:Cx)(cs:List (Str×PFn)):Prop:=∀c∈cs,∃k ps,Callee X.prog X.w X.K X.mg X.base c.1 k ps (sp3 K mg c.2)/\Room k X.A
def Kd:xt K mg X []:=λ_ h=>nomatch h
def vY{f:PFn}{x:Str}{k:Nat}{ps:List Str}{cs:List (Str×PFn)}(C:Callee X.prog X.w X.K X.mg X.base x k ps (sp3 K mg f))(hr:Room k X.A)(h:xt K mg X cs):xt K mg X ((x,f)::cs):=λc hc=>by
 rcases G_.mp hc with rfl |hc
 .exact⟨k,ps,C,hr⟩
 .exact h c hc
def Df{ef:Expr}{cs:List (Str×PFn)}{p:PEx}(hc:xt K mg X cs)(hf:DE K mg X ES ef p)(hx:mV X ES)(ha:DA K mg X ES (e::es) A)(hm:X.mg=mg:=by rfl)
 (harm:eval (.Call ef (e::es) [] pos) X.env=(do callWith pos (<- eval ef X.env) [] (backTo pos (starEach (e::es) X.env)) (backToKw pos (keywordEach [] X.env))):=by rfl)
 (he:starEach (e::es) X.env=(false,eval e X.env)::starEach es X.env:=by rfl) (hpl:(backTo pos (starEach es X.env)).any (·.1)=false:=by rfl):DE K mg X ES (.Call ef (e::es) [] pos) (mw cs p A):=by
 subst hm;refine⟨λpins s σ H Q I ⟨Y,N0,L,ns,e,S,hl,p⟩=>?_⟩;rw[harm];refine o_ ?_;have rd
  : rdE K X.mg ES _ σ H (λv H1=>∃x c f,(x,c)∈cs/\v=.ref f/\X.mg x=some (.ref f)/\rdA K X.mg ES A.G σ H1 (λvs H2=>sp3 K X.mg c vs H2 Q (ES σ))):=
  ⟨Y,
   N0,L,ns,e,S,hl,PG3.imp p S λt e1 ns1 H1 a1 S1 p1 x r1=>by
   try dsimp only at p1
   split at p1
   .rename_i y q;split at p1
    .rename_i c q2;obtain⟨a,rfl,m⟩:=(r1.sh S1 q).glb;exact⟨y,c,a,nj q2,rfl,m,vV (f:=c) σ H1 Q ⟨Y,N0,L,ns1,e1,S1,λa z=>hl a (a1.dom a z),p1⟩⟩
    .exact p1.elim
   .exact p1.elim⟩
 refine NF (hf.ok pins s σ H _ I rd) (λu s1 ⟨v,H1,I1,rv,x,c,f,hmem,ev,m,ra⟩=>?_) λ_ _ z=>z;subst ev;obtain rfl:u=Value.ref f:=rv;obtain⟨k,ps,C,hr⟩:=hc (x,c) hmem;obtain⟨f',fd,F',m',kp,bb,_⟩:=C.ex;rw[m] at m';cases m';refine W.callWith_K (h₀:=X.base) I.ok.mod.kin kp (NF (ha.ok pos pins s1 σ H1 _ I1 ra) (λus s2 ⟨vs,H2,I2,r,q⟩=>⟨I2.kIn,?_⟩) λ_ _ z=>z) he hpl;have hl:(us++[]).length=ps.length:=by rw[NJ,<- r.length];exact F'.len _ _ _ _ q
 refine wpAny_call (PZ (F'.run X.A X.stack s2 H2 ⟨us,[]⟩ us vs Q (ES σ) hr I2.env0 (by simpa using bb s2 us I2.kIn hl) r q) λr s' hq=>?_);cases r with
 |error ex=>exact hx pins σ H2 s2 ex s' I2 hq
 |
  ok fl=>
  cases fl with
  |ret u=>exact I2.after hq
  |next=>exact False.elim hq
  |brk=>exact False.elim hq
  |cont=>exact False.elim hq
end
def Kh(xs ys:List Val):aH.G (.lst xs) (.lst ys)=if xs.length+ys.length<=16777216 then .new (.lst (xs++ys)) else .stuck:=rfl
section
variable{K:W.Frag}{mg:Qd}{P:Addr->Prop}{H:Hp}{ws ws':List (Key×V)}{us us':List (Key×Val)}{k:Key}
def Lw(r:Rk K mg P H ws us):lkD us k=some v->∃d,lkD ws k=some d/\Rd K mg P H d v:=
 r.ind (M:=λws us=>lkD us k=some v->∃d,lkD ws k=some d/\Rd K mg P H d v) (λq=>by cases q) (λ{k2 d v2 ds vs} r _ ih q=>by
  unfold lkD at q ih ⊢;rw[NY] at q ⊢;dsimp only at q ⊢;by_cases hk:k2=k
  .rw[H_ hk] at q ⊢;cases q;exact⟨d,rfl,r⟩
  .rw[Em hk] at q ⊢;exact ih q)
def EK(r:Rk K mg P H ws us):us.map (·.1)=ws.map (·.1):=
 r.ind (M:=λws us=>us.map (·.1)=ws.map (·.1)) rfl λ_ _ ih=>by rw[t_,t_,ih]
def IG(r:Rk K mg P H ws us):ws.length=us.length:=
 r.ind (M:=λws us=>ws.length=us.length) rfl λ_ _ ih=>Nz (· + 1) ih
def Ji(r:Rk K mg P H ws us)(q:Rk K mg P H ws' us'):Rk K mg P H (ws++ws') (us++us'):=
 r.ind (M:=λws us=>Rk K mg P H (ws++ws') (us++us')) q λr _ ih=>.cons r ih
def Jo(rd:Rd K mg P H d v)(r:Rk K mg P H ws us):Rk K mg P H (fq ws k d) (fq us k v):=by
 unfold fq;rw[CZ (EK r)];by_cases hc:(ws.any λkv=>decide (kv.1=k))=true
 .rw[if_pos hc,if_pos hc];exact r.ind (M:=λws us=>Rk K mg P H (ws.map λkv=>if kv.1=k then (kv.1,d) else kv) (us.map λkv=>if kv.1=k then (kv.1,v) else kv)) .nil (λ{k2 d2 v2 ds vs} r _ ih=>by
   rw[t_,t_];dsimp only;by_cases hk:k2=k
   .rw[if_pos hk,if_pos hk];exact .cons rd ih
   .rw[if_neg hk,if_neg hk];exact .cons r ih)
 .rw[if_neg hc,if_neg hc];exact Ji r (.cons rd .nil)
end
noncomputable def sD:Val->Val->Val->Option Val:=λo i v=>match o with
 |.dct kvs=>(match i with
  |.str k=>if kvs.length<16777216 then some (.dct (fq kvs (.inr k) v)) else none
  |_=>none)
 |_=>none
noncomputable def pU (n:Nat) (u:j4):MG3:=λv e=>match v with
 |.tup vs=>if vs.length=n then u vs e else none
 |.lst vs=>if vs.length=n then u vs e else none
 |_=>none
noncomputable def gtU (n:Nat) (a:PGs):PGt:=⟨3,pU n a.G⟩
section
variable{e:E3}
def g_uL(n:Nat)(a:PGs)(vs:List Val):(gtU n a).G (.lst vs) e=if vs.length=n then a.G vs e else none:=rfl
end
section
variable{K:W.Frag}{mg:Qd}{X:Cx}{es:List Expr}{gs:PGs}{pos:Pos}
def Ho{k n:Nat}(hK:X.K=K)(hc:X.calm=true)(h:DGs K mg X es gs)(hn:(assignEach es X.env).length=n:=by rfl)(hst:(assignEach es X.env).findIdx? (·.1)=none:=by rfl):DG K mg X (.Tuple es k pos) (gtU n gs):=by
 subst hK;exact
  ⟨PG.imp (IQ hc h.ok hn hst) λv σ H Q zz=>zz.el λY N0 ns e u e' S r q k=>by
  replace q:pU n gs.G u e=some e':=q;unfold pU at q;split at q
  .split at q
   .rename_i hl;obtain⟨a,vs,rfl,z,rr⟩:=ShR.tup (.inl r);exact⟨a,vs,rfl,.inl z,by rw[rr.len];exact hl,Y,N0,ns,e,_,e',S,rr,q,k⟩
   .cases q
  .split at q
   .rename_i hl;obtain⟨a,vs,rfl,z,rr⟩:=ShR.lstL (.inl r);exact⟨a,vs,rfl,.inr z,by rw[rr.len];exact hl,Y,N0,ns,e,_,e',S,rr,q,k⟩
   .cases q
  .cases q⟩
end
theorem ar1{α:Type}{P:List α->Prop}(h:∀a,P [a]):∀us:List α,us.length=1->P us
 | [a],_=>h a
theorem ar2{α:Type}{P:List α->Prop}(h:∀a b,P [a,b]):∀us:List α,us.length=2->P us
 | [a,b],_=>h a b
theorem ar3{α:Type}{P:List α->Prop}(h:∀a b c,P [a,b,c]):∀us:List α,us.length=3->P us
 | [a,b,c],_=>h a b c
theorem ar4{α:Type}{P:List α->Prop}(h:∀a b c d,P [a,b,c,d]):∀us:List α,us.length=4->P us
 | [a,b,c,d],_=>h a b c d
section
variable{K:W.Frag}{mg:Qd}{P:Addr->Prop}{H:Hp}
theorem kF:∀l:List Nat,Rds K mg P H (l.map λi:Nat=>V.int (i:Nat)) (l.map λi:Nat=>Val.int (i:Nat))
 | []=>.nil
 |i::l=>.cons (.int _) (kF l)
end
noncomputable def Ds:List Val->Bv:=λvs=>match vs with
 | [.int j]=>if -(2^62)<=j/\j<=16777216 then .new (.lst (rgV j.toNat)) else .stuck
 |_=>.stuck
noncomputable def jG:PBf:=⟨Ds⟩
def DP{j:Int}(h:-(2^62)<=j/\j<=16777216):jG.G [.int j]=.new (.lst (rgV j.toNat)):=if_pos h
noncomputable def CG:List Val->Bv:=λvs=>match vs with
 | [.int j]=>if 0<=j/\j<=1000000 then .val (.tup (rgV j.toNat)) else .stuck
 |_=>.stuck
noncomputable def mq:PBf:=⟨CG⟩
def K4{j:Int}(h:0<=j/\j<=1000000):mq.G [.int j]=.val (.tup (rgV j.toNat)):=if_pos h
noncomputable def jZ:List Val->Bv:=λvs=>match vs with
 | [.lst us]=>match fJ us with
  |some ns=>if ns.length<64 then .new (.lst ((srI ns).reverse.map .int)) else .stuck
  |none=>.stuck
 |_=>.stuck
noncomputable def kG:PBf:=⟨jZ⟩
def E5(ns:List Int)(h:ns.length<64):kG.G [.lst (ns.map .int)]=.new (.lst ((srI ns).reverse.map .int)):=by show jZ [.lst (ns.map .int)]=_;unfold jZ;dsimp only;rw[bu];dsimp only;rw[if_pos h]
noncomputable def oW (f:List Int->Int):List Val->Bv:=λvs=>match vs with
 | [.lst xs]=>(match fJ xs with
  |some bs=>if bs≠[] then .val (.int (f bs)) else .stuck
  |none=>.stuck)
 |_=>.stuck
noncomputable def nK:PBf:=⟨oW mnI⟩
noncomputable def kr:PBf:=⟨oW mxI⟩
def Eu{f:List Int->Int}{ns:List Int}(h:ns≠[]):oW f [.lst (ns.map .int)]=.val (.int (f ns)):=by unfold oW;dsimp only;rw[bu];exact if_pos h
def Ay{ns:List Int}(h:ns≠[]):nK.G [.lst (ns.map .int)]=.val (.int (mnI ns)):=Eu h
def zL{ns:List Int}(h:ns≠[]):kr.G [.lst (ns.map .int)]=.val (.int (mxI ns)):=Eu h
noncomputable def Lf (e:E3):R3 Tm:=.ok (.new (.set [])) e
noncomputable def yh:PEx:=⟨27,Lf⟩
def HR(e:E3):yh.G e=.ok (.new (.set [])) e:=rfl
noncomputable def B4:Val->Val->Bv:=λx y=>match x,y with
 |.int i,.set xs=>.val (.bl (decide (i∈xs)))
 |_,_=>.stuck
noncomputable def DB:PO2:=⟨B4⟩
def KW(i:Int)(xs:List Int):DB.G (.int i) (.set xs)=.val (.bl (decide (i∈xs))):=rfl
noncomputable def xH:List Val->Bv:=λvs=>match vs with
 | [.set xs]=>.val (.int (xs.length:Nat))
 |_=>.stuck
noncomputable def sM:PBf:=⟨xH⟩
def GN(xs:List Int):sM.G [.set xs]=.val (.int (xs.length:Nat)):=rfl
noncomputable def Cr:Val->Option (List Int)
 |.set xs=>some xs
 |_=>none
noncomputable def rM (i:Nat) (A:MA3) (e:E3):R3 Tm:=match e[i]? with
 |some s=>match s.mv.bind Cr with
  |some _=>(A e).bind λts e1=>match dem e1 ts with
   |some (e2,[.int k])=>match e2[i]? with
    |some s2=>match s2.mv.bind Cr with
     |some xs=>if xs.length<4000 then .ok (.val .non) (e2.set i (s2.re (.set (gm xs k)))) else .stuck
     |none=>.stuck
    |none=>.stuck
   |_=>.stuck
  |none=>.stuck
 |none=>.stuck
noncomputable def Cw (i:Nat) (a:PAs):PEx:=⟨28,rM i a.G⟩
def JP(e:E3)(i:Nat)(a:PAs):(Cw i a).G e=rM i a.G e:=rfl
noncomputable def ug:Val->Val->Bv:=λx y=>match x with
 |.dct kvs=>(match y with
  |.int k=>(match lkD kvs (.inl k) with
   |some v=>.val v
   |none=>.stuck)
  |_=>.stuck)
 |_=>.stuck
noncomputable def wW:PO2:=⟨ug⟩
def Mb(h:lkD kvs (.inl k)=some v):wW.G (.dct kvs) (.int k)=.val v:=by show ug (.dct kvs) (.int k)=_;unfold ug;dsimp only;rw[h]
noncomputable def sDI:Val->Val->Val->Option Val:=λo i v=>match o with
 |.dct kvs=>(match i with
  |.int k=>if kvs.length<16777216 then some (.dct (fq kvs (.inl k) v)) else none
  |_=>none)
 |_=>none
noncomputable def seI:PSe:=⟨sDI⟩
def Iu(kvs:List (Key×Val))(k:Int)(v:Val):seI.G (.dct kvs) (.int k) v=if kvs.length<16777216 then some (.dct (fq kvs (.inl k) v)) else none:=rfl
noncomputable def lR:Val->List Val->Option (Val×Val):=λu vs=>match u,vs with
 |.lst xs,[.tup ys]=>if xs.length+ys.length<=16777216 then some (.lst (xs++ys),.non) else none
 |_,_=>none
noncomputable def ik:PMm:=⟨lR⟩
def pG(xs ys:List Val):ik.G (.lst xs) [.tup ys]=if xs.length+ys.length<=16777216 then some (.lst (xs++ys),.non) else none:=rfl
section
variable{K:W.Frag}{mg:Qd}{P:Addr->Prop}{H:Hp}
def JJ:bW K mg rLrg jG.G:=λP H xs vs Q r0 p=>by
 replace p:BvP K mg P H Q (Ds vs):=p;unfold Ds at p;split at p
 .obtain⟨d,rfl,r⟩:=cZ r0;obtain rfl:=r.int;split at p
  .rename_i hb;exact⟨_,rfl,hb.1,hb.2,bvL p (kF _)⟩
  .exact p.elim
 .exact p.elim
def Ki:bW K mg rTrg mq.G:=λP H xs vs Q r0 p=>by
 replace p:BvP K mg P H Q (CG vs):=p;unfold CG at p;split at p
 .obtain⟨d,rfl,r⟩:=cZ r0;obtain rfl:=r.int;split at p
  .rename_i hb;exact⟨_,rfl,hb.1,hb.2,bvT p (kF _)⟩
  .exact p.elim
 .exact p.elim
def Bn:bW K mg (AG K) kG.G:=λP H xs vs Q r0 p=>by
 replace p:BvP K mg P H Q (jZ vs):=p;unfold jZ at p;split at p
 .obtain⟨d,rfl,r⟩:=cZ r0;obtain⟨a,ys,rfl,h,q⟩:=r.lstL;split at p
  .rename_i bs e;split at p
   .rename_i hb;exact⟨a,bs,rfl,mz q e ▸ h,hb,bvL p (kz _)⟩
   .exact p.elim
  .exact p.elim
 .exact p.elim
def z9{f:List Int->Int}:bW K mg (qW f K) (oW f):=λP H xs vs Q r0 p=>by
 unfold oW at p;split at p
 .obtain⟨d,rfl,r⟩:=cZ r0;obtain⟨a,ys,rfl,h,q⟩:=r.lstL;split at p
  .rename_i bs e;split at p
   .rename_i hb;exact⟨a,bs,rfl,mz q e ▸ h,hb,bv p (.int _)⟩
   .exact p.elim
  .exact p.elim
 .exact p.elim
def Fs:bW K mg (qW mnI K) nK.G:=z9
def vO:bW K mg (qW mxI K) kr.G:=z9
def G1:OpD K mg AI DB.G:=λP H x y v u Q rx ry p=>by
 replace p:BvP K mg P H Q (B4 v u):=p;unfold B4 at p;split at p
 .obtain rfl:=rx.int;obtain⟨a,rfl,_,e⟩:=ry.set;exact⟨_,_,_,_,rfl,rfl,e,bv p (.bl _)⟩
 .exact p.elim
def E8:bW K mg (λxs H Q=>∃a S n,xs=[.ref a]/\H a=some (.set S n)/\Q (.int (n:Nat)) H) sM.G:=λP H xs vs Q r0 p=>by
 replace p:BvP K mg P H Q (xH vs):=p;unfold xH at p;split at p
 .obtain⟨d,rfl,r⟩:=cZ r0;obtain⟨a,rfl,_,e⟩:=r.set;exact⟨_,_,_,rfl,e,bv p (.int _)⟩
 .exact p.elim
def BK:CC K mg Et seI.G:=λP H n o u di vi d v u' Q np e hf r0 ri rd q k=>by
 replace q:sDI u vi v=some u':=q;unfold sDI at q;split at q
 .split at q
  .split at q
   .rename_i hl;cases q;obtain rfl:=ri.int;cases r0 with
    |dct rk=>exact⟨n,_,rfl,DPut.k (k:=.inl _) e (by rw[IG rk];exact hl),k _ trivial (.dct (Jo rd rk))⟩
   .cases q
  .cases q
 .cases q
def xh:MmD K mg (qS K) ik.G:=λP H n o u ds vs u' v Q np e hf r0 rs q k=>by
 replace q:lR u vs=some (u',v):=q;unfold lR at q;split at q
 .split at q
  .rename_i hl;cases q;obtain⟨xs,rfl,r⟩:=nh r0;obtain⟨d,rfl,rd⟩:=Bp rs;obtain⟨b,ys,rfl,e2,q5⟩:=ShR.tup (.inl rd);exact⟨n,b,xs,ys,rfl,rfl,e,e2,by rw[r.len,q5.len];exact hl,k _ _ trivial (.lst (r.append q5)) .non⟩
  .cases q
 .cases q
variable{X:Cx}{ES:St->XK}{e o a b:Expr}{es:List Expr}{p q:PEx}{A:PAs}{pos cpos apos q1 q2 q8 q9 p0 p1 p2 pc:Pos}{kc:Nat}
def Hf(hc:X.calm=true)(hl:Gl X "list")(hml:mg "list"=none)(hg:Gl X "range")(hm:mg "range"=none)(ha:DA K mg X ES [a] A)(hk:X.mg=mg:=by rfl)(hs:starEach [a] X.env=[(false,eval a X.env)]:=by rfl)
 (hs1:starEach [.Call (.Name "range" p2) [a] [] q2] X.env=[(false,eval (.Call (.Name "range" p2) [a] [] q2) X.env)]:=by rfl):
 DE K mg X ES (.Call (.Name "list" p1) [.Call (.Name "range" p2) [a] [] q2] [] pos) (pFn jG A):=by
 subst hk;exact⟨PE.imp (Jq hc hl hml hg hm ha.ok hs hs1) (mI JJ)⟩
def J7(hc:X.calm=true)(hl:Gl X "tuple")(hml:mg "tuple"=none)(hg:Gl X "range")(hm:mg "range"=none)(ha:DA K mg X ES [a] A)(hk:X.mg=mg:=by rfl)(hs:starEach [a] X.env=[(false,eval a X.env)]:=by rfl)
 (hs1:starEach [.Call (.Name "range" p2) [a] [] q2] X.env=[(false,eval (.Call (.Name "range" p2) [a] [] q2) X.env)]:=by rfl):
 DE K mg X ES (.Call (.Name "tuple" p1) [.Call (.Name "range" p2) [a] [] q2] [] pos) (pFn mq A):=by
 subst hk;exact⟨PE.imp (Hw hc hl hml hg hm ha.ok hs hs1) (mI Ki)⟩
def FG(hl:Gl X "sorted")(hml:mg "sorted"=none)(ha:DA K mg X ES [a] A)(hK:X.K=K:=by rfl)(hk:X.mg=mg:=by rfl)(hs:starEach [a] X.env=[(false,eval a X.env)]:=by rfl):
 DE K mg X ES (.Call (.Name "sorted" q1) [a] [⟨some "reverse",.Constant (.bool true) kc pc,q8⟩] q9) (pFn kG A):=by
 subst hK hk;exact⟨PE.imp (EL hl hml ha.ok hs) (mI Bn)⟩
def FD(hg:Gl X x)(hm:mg x=none)(hv:bootBuiltins x=some (.type "set"))(hk:X.mg=mg:=by rfl)(hn:x ≠ "__name__":=by decide)(hdb:(x==("__debug__" : Str))=false:=by decide):DE K mg X ES (.Call (.Name x p0) [] [] pos) yh:=by
 subst hk;exact⟨PE.imp (xB zK hg hm hv hn hdb) λσ H Q zz=>zz.el λY N0 L ns e S hl p=>⟨rfl,λl hl'=>by
  have:=PG3.bv (b:=.new (.set [])) p S hl H l (.set (λi=>decide (i∈([]:List Int))) 0) .refl hl' trivial (.set [] List.nodup_nil)
  have e:(λ_:Int=>false)=λi:Int=>decide (i∈([]:List Int)):=by funext i;simp
  rw[e];exact this⟩⟩
def Jp{xs:List Int}{i:Int}(nd:xs.Nodup):(gm xs i).Nodup/\HO.set (λk=>decide (k∈xs) || decide (k=i)) (if decide (i∈xs)=true then xs.length else xs.length+1)=.set (λk=>decide (k∈gm xs i)) (gm xs i).length:=by
 unfold gm;by_cases hi:i∈xs
 .rw[if_pos (H_ hi),if_pos hi];refine⟨nd,?_⟩;congr 1;funext k;by_cases hk:k∈xs
  .rw[H_ hk];rfl
  .rw[Em hk,Em (show ¬ k=i from λz=>hk (by rw[z];exact hi))];rfl
 .rw[if_neg (show ¬ decide (i∈xs)=true by rw[Em hi];exact x_),if_neg hi];refine⟨OX.mpr ⟨hi,nd⟩,?_⟩;congr 1;funext k;rw[PK,OW,N6,N6,N6,G_];exact Or.comm
def Kz{j:Nat}(hK:X.K=K)(ho:DE K mg X ES o (af j))(ha:DA K mg X ES (e::es) A)
 (i_:attributeBase o "add" X.env (eval o X.env)=eval o X.env:=by rfl)
 (hfew:((backTo cpos (starEach (e::es) X.env)).all (λx=>!x.1)&&(backToKw cpos (keywordEach [] X.env)).all (λx=>x.1.isSome)
  && decide ((e::es).length+([]:List Keyword).length+(if ([]:List Keyword).isEmpty then 0 else 1)<30))=true:=by rfl)
 (j':(apos.endLine==cpos.line)=true:=by rfl) (hs:starEach (e::es) X.env=(false,eval e X.env)::starEach es X.env:=by rfl) (c_:(backTo cpos (starEach es X.env)).any (·.1)=false:=by rfl):
 DE K mg X ES (.Call (.Attribute o "add" apos) (e::es) [] cpos) (Cw j A):=by
 subst hK;exact
  ⟨PE.imp (yx PySem.F.plainAttrs_set PySem.F.slot_set_add PySem.F.type_set_add Aq ho.ok ha.ok i_ hfew j' hs c_) λσ H Q zz=>zz.el λY N0 L ns e S hl p=>⟨Y,N0,L,ns,e,S,hl,by
  replace p:PG3 X.K mg Y N0 ns e σ H (ES σ) (KE X.K mg Y N0 L σ Q) (rM j A.G e):=p;unfold rM at p;split at p
  .rename_i s0
    q0
   split at p
   .rename_i xs0 hz;obtain⟨u0,z1,z2⟩:=ND.mp hz;show PG3 X.K mg Y N0 ns e σ H (ES σ) _ (eT j e);rw[r9 q0 z1];intro H1 ns1 a1 S1 ov ro;have ty:tyV X.K "set" ov H1:=by
     have rs:=S1.bor (i:=j) (v:=u0) ro (by rw[q0];cases s0 <;> first |exact z1 |cases z1);cases u0 with
     |set ys=>obtain⟨a,rfl,_,h⟩:=rs.set;exact .inr (.inr (.inr ⟨rfl,_,_,h⟩))
     |_=>cases z2
    refine⟨ty,Y,N0,ns1,e,S1,PG3.imp (p.after S a1) S1 λts e1 h_ H2 a2 S2 p2 xs r2=>?_⟩;split at p2
    .rename_i e2 k q1;obtain⟨ns3,S3,a3,r3⟩:=i6 S2 r2 q1;split at p2
     .rename_i s2 q2;split at p2
      .rename_i ys q3;split at p2
       .rename_i a_;obtain⟨u,y1,y2⟩:=ND.mp q3;obtain⟨n,ob,k1,k0,k2,k3,k4,k5⟩:=S3.write q2 y1;have ro':σ[j]?=some (some ov):=ro;rw[k1] at ro';cases ro';obtain⟨d,rfl,rd⟩:=Bp r3;obtain rfl:=ShR.int (.inl rd);cases u with
        |
         set zs=>
         cases y2;cases k4 with
         |set _ nd=>obtain⟨i1,i2⟩:=Jp (i:=k) nd;refine⟨n,k,_,_,rfl,rfl,k2,a_,?_⟩;rw[i2];obtain⟨mv,S4,a4⟩:=k5 (.set (λz=>decide (z∈gm ys k)) (gm ys k).length) (.set (gm ys k)) trivial (.set _ i1);exact p2 _ _ (a3.trans S2 a4) S4 _ .non
        |_=>cases y2
       .exact p2.elim
      .exact p2.elim
     .exact p2.elim
    .exact p2.elim
   .exact p.elim
  .exact p.elim⟩⟩
def BQ(hu:X.A.units+1<cLine)(ha:DE K mg X ES a p)(hb:DE K mg X ES b q)(hs:CW b):DE K mg X ES (.Subscript a b pos) (pOp wW p q):=⟨PE.imp (Fo hu ha.ok hb.ok hs) λσ H Q zz=>zz.el λY N0 L ns e S hl p=>
 ⟨Y,
  N0,L,ns,e,S,hl,PG3.imp p S λt1 e1 ns1 H1 a1 S1 p1 x r1=>⟨Y,N0,L,ns1,e1,S1,λa z=>hl a (a1.dom a z),PG3.imp p1 S1 λt2 e2 h_ H2 a2 S2 p2 y r2=>by
  try dsimp only at p2
  split at p2
  .rename_i v u q1 q2;replace p2:PG3 K mg Y N0 h_ e2 σ H2 (ES σ) (KE K mg Y N0 L σ Q) ((ug v u).at e2):=p2;unfold ug at p2;split at p2
   .split at p2
    .split at p2
     .rename_i q3;obtain⟨a,ws,rfl,h,rk⟩:=((r1.drop a2).sh S2 q1).dct;obtain rfl:=(r2.sh S2 q2).int;obtain⟨d,q4,rd⟩:=Lw rk q3;exact⟨a,d,rfl,q4 ▸ DGet.k (k:=.inl _) h,p2.ret S2 _ rd⟩
     .exact p2.elim
    .exact p2.elim
   .exact p2.elim
  .exact p2.elim⟩⟩⟩
end
open PySem PySem.Spec PyProof.Rows L2 PySem.W
noncomputable def adr (K:Frag) (x:Str):Addr:=match nsIn K mainGlobals x with
 |some (some (.ref a))=>a
 |_=>0
noncomputable def iJ (K:Frag) (x:Str):Bool:=match nsIn K mainGlobals x with
 |some (some (.ref _))=>true
 |_=>false
noncomputable def uB (K:Frag) (x:Str):Bool:=match nsIn K mainGlobals x with
 |some none=>true
 |_=>false
noncomputable def xcB (K:Frag) (C:Addr):Bool:=(clsIn K C).isSome&&(findIn K (.ref C) "__getattribute__" == some (some (.builtin "BaseException.__getattribute__"))&&(findIn K (.ref C) "__getattr__" == some none&&(findIn K (.ref C) "__class__" == some (some (.builtin "object.__class__"))&&(specialIn K (.builtin "object.__class__") "__get__" == some (some (.builtin "getset_descriptor.__get__"))&&(takesIn K (.builtin "object.__class__")==some true&&(mroIn K C (.type "object")==some true&&mroIn K C (.type "BaseException")==some true))))))
noncomputable def hdB (K:Frag) (C:Addr):Bool:=typeIn K (.ref C)==some (.type "type")&&((clsIn K C).isSome&&mroIn K C (.type "BaseException")==some true)
noncomputable def clA (K:Frag):Cl->Value
 |.b n=>.type n
 |.o x=>.ref (adr K x)
noncomputable def BZ (K:Frag):Cl->Bool
 |.b _=>true
 |.o x=>iJ K x
noncomputable def BP (K:Frag) (p:Cl×Cl×Bool):Bool:=kitOne K (clA K p.1) (clA K p.2.1)==some p.2.2&&(BZ K p.1&&BZ K p.2.1)
noncomputable def xkB (K:Frag):Cl->Bool
 |.b _=>true
 |.o x=>xcB K (adr K x)
noncomputable def xS:Val->Value->Bool
 |.int i,.int j _=>i==j
 |.str x,.str y _=>x==y
 |.non,.none=>true
 |.bl b,.bool c=>b==c
 |_,_=>false
noncomputable def dV:Val->V
 |.int i=>.int i
 |.str x=>.str x
 |.bl b=>.bl b
 |_=>.non
noncomputable def qQ:List Val->List Value->Bool
 | [],[]=>true
 |d::ds,v::vs=>xS d v&&qQ ds vs
 |_,_=>false
noncomputable def gcB (K:Frag) (x:Str):Val->Bool
 |.tup ds=>(match nsIn K mainGlobals x with
  |some (some (.ref a))=>(match K.lookup a with
   |some ⟨.type "tuple",_,.seq its _,_⟩=>decide (its.size<=1000)&&qQ ds its.toList
   |_=>false)
  |_=>false)
 |d=>match nsIn K mainGlobals x with
  |some (some v)=>xS d v
  |_=>false
noncomputable def bFn:List String:=["abs", "all", "any", "isinstance", "len", "max", "min", "sorted", "sum"]
noncomputable def bTy:List String:=["bool", "dict", "int", "list", "set", "str", "tuple", "ValueError"]
noncomputable def bIt:List String:=["range", "zip", "enumerate"]
def GJ:(bFn.all λn=>bootBuiltins (Str.ofString n)==some (.builtin n))=true:=by decide
def J4:(bTy.all λn=>bootBuiltins (Str.ofString n)==some (.type n))=true:=by decide
def boF{n:String}(h:bFn.contains n=true):bootBuiltins (Str.ofString n)=some (.builtin n):=NB.mp (NC.mp GJ n (NS.mp h))
def boT{n:String}(h:bTy.contains n=true):bootBuiltins (Str.ofString n)=some (.type n):=NB.mp (NC.mp J4 n (NS.mp h))
structure Tb where
 us:List Str
 rs:List Str
 hs:List (Str×List Str)
 kt:jv
 gs:List (Str×Val)
noncomputable def Tb.ok (b:Tb) (K:Frag):Bool:=(bFn++(bTy++bIt)).all (λn=>uB K (Str.ofString n))&&(b.us.all (iJ K)&&(b.rs.all (λx=>excIn K (adr K x) n9 "ValueError.__new__" && iJ K x)&&(b.hs.all (λp=>hdB K (adr K p.1)&&p.2.all λc=>mroIn K (adr K c) (.ref (adr K p.1))==some true&&iJ K c)&&(b.kt.all (λp=>BP K p&&xkB K p.1)&&b.gs.all λp=>gcB K p.1 p.2))))
structure Tx(b:Tb)(K:Frag)(mg:Qd):Prop where
 n:∀{n:String},(bFn++(bTy++bIt)).contains n=true->mg (Str.ofString n)=none
 m:∀{x:Str},b.us.contains x=true->mg x=some (.ref (adr K x))
 x:∀{x:Str},b.rs.contains x=true->excIn K (adr K x) n9 "ValueError.__new__"=true
 h:∀{x:Str}{l:List Str},(x,l)∈b.hs->XHand K (adr K x)/\∀c∈l,∀Ce,mg c=some (.ref Ce)->mroIn K Ce (.ref (adr K x))=some true
 k:KitsOk K mg b.kt
 g:∀{x:Str}{d:Val},b.gs.lookup x=some d->GC K mg x d
section
variable{K:Frag}{h:Heap}{mg:Qd}{x:Str}(X:K.In h)(G:h.Ns mainGlobals mg)
include X G
def kJ(e:iJ K x=true):mg x=some (.ref (adr K x)):=by
 unfold iJ at e;split at e
 .rename_i a q;unfold adr;rw[q];exact mg_of X G q
 .cases e
def xM(e:uB K x=true):mg x=none:=by
 unfold uB at e;split at e
 .rename_i q;exact mg_none_of X G q
 .cases e
omit X G in
def Le{C:Addr}(e:xcB K C=true):XCls K C:=by simp only[xcB,v_,NB] at e;obtain⟨e1,e2,e3,e4,e5,e6,e7,e8⟩:=e;exact⟨e1,e2,e3,e4,e5,e6,e7,e8⟩
def En{c:Cl}{v:Value}(e:BZ K c=true)(q:ClV mg c v):v=clA K c:=by
 cases c with
 |b n=>exact q
 |o y=>obtain⟨a,rfl,m⟩:=q;rw[kJ X G (show iJ K y=true from e)] at m;cases m;rfl
omit X G in
def zH{d:Val}{v:Value}(e:xS d v=true):RelV (dV d) v/\∀P H,Rd K mg P H (dV d) d:=by
 unfold xS at e;split at e
 .cases NB.mp e;exact⟨⟨_,rfl⟩,λ_ _=>.int _⟩
 .cases NB.mp e;exact⟨⟨_,rfl⟩,λ_ _=>.str _⟩
 .exact⟨rfl,λ_ _=>.non⟩
 .cases NB.mp e;exact⟨rfl,λ_ _=>.bl _⟩
 .cases e
omit X G in
theorem wA:∀{ds:List Val}{vs:List Value},qQ ds vs=true->Vals (ds.map dV) vs/\∀P H,Rds K mg P H (ds.map dV) ds
 | [],[],_=>⟨.nil,λ_ _=>.nil⟩
 |
  d::ds,v::vs,e=>by
  rw[qQ,v_] at e;obtain⟨a1,a2⟩:=zH (K:=K) (mg:=mg) e.1;obtain⟨b1,b2⟩:=wA e.2;exact⟨.cons a1 b1,λP H=>.cons (a2 P H) (b2 P H)⟩
 | [],_::_,e=>nomatch e
 |_::_,[],e=>nomatch e
def K1{d:Val}(e:gcB K x d=true):GC K mg x d:=by
 unfold gcB at e;split at e
 .rename_i ds;split at e
  .rename_i a q;split at e
   .rename_i dd its n sl l;rw[v_] at e;obtain⟨v1,v2⟩:=wA (K:=K) (mg:=mg) e.2;exact⟨_,.ref a,mg_of X G q,rfl,λP H=>.tup (.inr ⟨_,its,n,l,rfl,rfl,Nw (O4 e.1) (by decide),v1⟩) (v2 P H)⟩
   .cases e
  .cases e
 .split at e
  .rename_i v q;obtain⟨v1,v2⟩:=zH (K:=K) (mg:=mg) e;exact⟨_,_,mg_of X G q,v1,v2⟩
  .cases e
omit X G in
theorem zV{d:Val}:∀{l:List (Str×Val)},l.lookup x=some d->(x,d)∈l
 | [],h=>nomatch h
 |
  (y,e)::l,h=>by
  rw[Of] at h;split at h
  .rename_i q;cases h;rw[NB.mp q];exact r_
  .exact q_ _ (zV h)
def Na{b:Tb}(e:b.ok K=true):Tx b K mg:=by
 unfold Tb.ok at e;simp only[v_] at e;obtain⟨e1,e2,e3,e4,e5,e6⟩:=e;simp only[NC,v_] at e1 e2 e3 e4 e5 e6;refine⟨λh=>xM X G (e1 _ (NS.mp h)),λh=>kJ X G (e2 _ (NS.mp h)),λh=>(e3 _ (NS.mp h)).1,λh=>?_,⟨λp hp t v h1 h2=>?_,λp hp x C e' m=>?_⟩,λh=>K1 X G (e6 _ (zV h))⟩
 .obtain⟨a1,a2⟩:=e4 _ h;refine⟨?_,λc hc Ce m=>?_⟩
  .simp only[hdB,v_,NB] at a1;exact⟨a1.1,a1.2.1,a1.2.2⟩
  .obtain⟨b1,b2⟩:=a2 c hc;rw[kJ X G b2] at m;cases m;exact NB.mp b1
 .obtain⟨a1,_⟩:=e5 p hp;simp only[BP,v_,NB] at a1;rw[En X G a1.2.1 h1,En X G a1.2.2 h2];exact a1.1
 .obtain⟨a1,a2⟩:=e5 p hp;simp only[BP,v_,NB] at a1;have a3:=a1.2.1;rw[e'] at a2 a3;rw[kJ X G (show iJ K x=true from a3)] at m;cases m;exact Le a2
end
def dNm(s:Stmt):Str:=match s with
 |.FunctionDef n ..=>n
 |_=>""
def AllD(K:Frag)(mg:Qd)(top:Nat->Stmt):List Nat->Prop
 | []=>True
 |i::l=>Def K mg (dNm (top i)) (top i)/\AllD K mg top l
theorem AllD.get{K:Frag}{mg:Qd}{top:Nat->Stmt}:∀{l:List Nat},AllD K mg top l->∀i,l.contains i=true->Def K mg (dNm (top i)) (top i)
 | [],_,i,h=>nomatch h
 |
  j::l,⟨a,b⟩,i,h=>by
  rcases G_.mp (NS.mp h) with rfl |h
  .exact a
  .exact b.get i (NS.mpr h)
def _root_.L2.Def.gl{K:Frag}{mg:Qd}{x:Str}{st:Stmt}(D:Def K mg x st):∃a,mg x=some (.ref a):=let ⟨f,_,_,m⟩:=D.ex;⟨f,m⟩
structure Ty(b:Tb)(top:Nat->Stmt)(ds:List Nat)(K:Frag)(mg:Qd):Prop extends Tx b K mg where
 d:AllD K mg top ds
noncomputable def scB (N P:List Str) (sc:Scope):Bool:=decide (sc.kind=.function)&&(!sc.isCoroutine&&(!sc.isGenerator&&(decide N.Nodup&&(decide (N.take P.length=P)&&(P.all (λx=>decide (sc.names.lookup x=some .local\/sc.names.lookup x=some .cell))&&sc.names.all λy=>decide (y.2 ≠ .free))))))
def au{N P:List Str}{sc:Scope}(e:scB N P sc=true):FnScope N P sc:=by simp only[scB,v_,ON,NC,O1] at e;obtain⟨e1,e2,e3,e4,e5,e6,e7⟩:=e;exact⟨e1,e2,e3,e4,e5,e6,e7⟩
def BU(K:Frag)(mg:Qd)(x:Str):Prop:=x∈lM/\(∀y∈lM,y≠x->mg y=none)/\∀f oc od fd sl,mg x=some (.ref f)->K.lookup f=some ⟨oc,od,.func fd,sl⟩->∃c P,fd.code=.ref c/\codeHdIn K c P=true
noncomputable def wY (K:Frag) (a:Addr):Option (Addr×Addr):=match K.lookup a with
 |some ⟨_,_,.func fd,_⟩=>(match fd.code with
  |.ref c=>(match K.lookup c with
   |some ⟨_,_,.fields vs,_⟩=>(match (vs[11]?:Option Value) with
    |some (.ref P)=>if codeHdIn K c P=true then some (c,P) else none
    |_=>none)
   |_=>none)
  |_=>none)
 |_=>none
noncomputable def lamB (K:Frag) (x:Str):Bool:=lM.contains x&&(lM.all (λy=>y==x || uB K y)&&(iJ K x&&(wY K (adr K x)).isSome))
noncomputable def LQ (K:Frag) (ts:List Addr):Bool:=lM.all λx=>uB K x || (iJ K x&&(match wY K (adr K x) with
 |some (_,P)=>ts.contains P
 |none=>false))
noncomputable def El (K:Frag) (ts:List Addr):Bool:=ts.all λP=>(K.lookup P).isNone&&K.any λp=>codeHdIn K p.1 P
def wJ{K:Frag}{a c P:Addr}(e:wY K a=some (c,P)):∃oc od fd sl,K.lookup a=some ⟨oc,od,.func fd,sl⟩/\fd.code=.ref c/\codeHdIn K c P=true:=by
 unfold wY at e;split at e
 .rename_i oc od fd sl h1;split at e
  .rename_i c' h2;split at e
   .split at e
    .split at e
     .rename_i h3;cases e;exact⟨_,_,fd,_,h1,h2,h3⟩
     .cases e
    .cases e
   .cases e
  .cases e
 .cases e
def G0{K:Frag}{c P P':Addr}(h:codeHdIn K c P=true)(h':codeHdIn K c P'=true):P=P':=by
 unfold codeHdIn at h h';split at h
 .rename_i vs hk;rw[hk] at h';simp only[v_] at h h';have a:=h.1.1.1.1.1;have b:=h'.1.1.1.1.1;split at a
  .rename_i x hx;rw[hx] at b;rw[NB] at a b;exact a.symm.trans b
  .cases a
 .cases h
section
variable{K:Frag}{h:Heap}{mg:Qd}(X:K.In h)(G:h.Ns mainGlobals mg)
include X G
def HI{x:Str}(e:lamB K x=true):BU K mg x:=by
 simp only[lamB,v_,NC,OW] at e;obtain⟨e1,e2,e3,e4⟩:=e;refine⟨NS.mp e1,λy hy hne=>?_,λf oc od fd sl m lk=>?_⟩
 .rcases e2 y hy with z |z
  .exact absurd (NB.mp z) hne
  .exact xM X G z
 .obtain⟨⟨c,P⟩,ec⟩:=Ou.mp e4;obtain⟨oc',od',fd',sl',l1,l2,l3⟩:=wJ ec;have m':=kJ X G e3;rw[m] at m';cases m';rw[lk] at l1;cases l1;exact⟨c,P,l2,l3⟩
def IU{ts:List Addr}(e:LQ K ts=true)(P:Addr)(q:Str)(l:LamT K mg P q):P∈ts:=by
 obtain⟨x,f,oc,od,fd,sl,c,a1,a2,a3,a4,a5,a6,_⟩:=l;have z:=NC.mp e x a1;rw[OW] at z;rcases z with z |z
 .have:=xM X G z
  rw[a3] at this;cases this
 .rw[v_] at z;obtain⟨z1,z2⟩:=z;have m':=kJ X G z1;rw[a3] at m';cases m';split at z2
  .rename_i c' P' ec;obtain⟨oc',od',fd',sl',l1,l2,l3⟩:=wJ ec;rw[a4] at l1;cases l1;rw[a5] at l2;cases l2;rw[G0 a6 l3];exact NS.mp z2
  .cases z2
end
def ED{K:Frag}{ts:List Addr}{h:Heap}(e:El K ts=true)(a:∀P∈ts,h.get? P=some (tabObj #[])):TabsOk K ts h:=by
 simp only[El,NC,v_,List.any_eq_true] at e;refine⟨a,λP hP=>?_,λP hP=>?_⟩
 .have:=(e P hP).1
  rw[Option.isNone_iff_eq_none] at this;exact this
 .obtain⟨p,_,q⟩:=(e P hP).2;exact⟨p.1,q⟩
structure TyL(b:Tb)(top:Nat->Stmt)(ds:List Nat)(K:Frag)(mg:Qd):Prop extends Ty b top ds K mg where
 l:BU K mg "by_falling_weights"
section
variable{K:W.Frag}{mg:Qd}{P:Program}{w:World}{base:Heap}{fx:Str}{m_:Stmt}{k m:Nat}{ps N:List Str}{ms:List Bool}{x:PSt}
def okPL(D:Def K mg fx m_)(L:BU K mg fx)(S:FnScope N ps (ar m_))
 (hb:∀(kV doc pm:Value) (an:Option Addr) (cdv ct:Value) (us:List Value),us.length=ps.length->bindArgs (W.fnOf fx fx (dC m_) (bH m_) (ar m_) .none kV doc pm an cdv ct) ⟨us,[]⟩=pure (ps.zip us))
 (j_:N.Nodup->∀(f:Addr) (A:Around) (outer:List Env) (s:Shared) (H:Hp) (E:XK) (c T:Addr),codeHdIn K c T=true->LamT K mg T (fx ++ ".<locals>." ++ "<lambda>")->Room k (A.deeper (envOfC fx (ar m_) s.heap.objs.size f (.ref c)))->
  DSs K mg (eR (CX1 P w) P w K mg base N fx (ar m_) f (.ref c) A outer s H E) (λ_=>E) (bH m_) x) (hn:ms.length=ps.length:=by rfl) (hm:N.length=m:=by rfl):Callee P w K mg base fx (k+1) ps (sp3 K mg (fnP ms m x)):=by
 subst hm;obtain⟨f,fd,Ff,mm⟩:=D.ex;have bd:=Ff.binds hb;have kp:=Ff.kp;obtain⟨oc,od,kV,doc,pm,an,cdv,ct,osl,rfl,lk,n_⟩:=Ff.ex;obtain⟨c,T,e1,e2⟩:=L.2.2 f _ _ _ _ mm lk;have e1:cdv=.ref c:=e1;subst e1;have LT:LamT K mg T (fx ++ ".<locals>." ++ "<lambda>"):=⟨fx,f,oc,od,_,osl,c,L.1,L.2.1,mm,lk,rfl,e2,rfl⟩;exact⟨f,_,DU lk n_ S (λvs H Q E sp=>by rw[<- hn];exact rP sp) λA outer s H vs Q E hr sp=>⟨_,(j_ S.nd f A outer s H E c T e2 LT hr).ok,qX sp⟩,mm,kp,bd,oc,od,osl,lk⟩
end
noncomputable def jk:List Val->Bv:=λvs=>match vs with
 | [.int j,.lst us]=>match fJ us with
  |some ws=>if j=(ws.length:Nat)/\ws.length<64 then .new (.lst ((aJ ws).map λi:Nat=>.int (i:Nat))) else .stuck
  |none=>.stuck
 |_=>.stuck
noncomputable def rB:PBf:=⟨jk⟩
def Ag(ws:List Int)(h:ws.length<64):rB.G [.int (ws.length:Nat),.lst (ws.map .int)]=.new (.lst ((aJ ws).map λi:Nat=>.int (i:Nat))):=by show jk [.int (ws.length:Nat),.lst (ws.map .int)]=_;unfold jk;dsimp only;rw[bu];dsimp only;rw[if_pos ⟨rfl,h⟩]
section
variable{K:W.Frag}{mg:Qd}{Y N0:Addr->Prop}{ns:Ns}{e:E3}{σ:St}{H H2:Hp}{P:Addr}{q:Str}{ps:Array Value}{pos:Pos}
def LD(S:Sat K mg Y N0 ns e σ H)(g:yd H H2 P q ps pos)(hT:LamT K mg P q)(hP:H P=some (.tbl ps)):Sat K mg Y N0 ns e σ H2/\Stp ns e H ns e H2:=by
 rcases g with rfl |⟨c',hc,am,rfl⟩
 .exact⟨S,.refl⟩
 .have nPc:P≠c':=bS hP hc;have at_:∀b,b≠P->b≠c'->upd (upd H P (.tbl (ps++#[rawInt pos.line,rawInt pos.col,.ref c']))) c' (.ext (fW c' q)) b=H b:=λb n1 n2=>by rw[aB n2,aB n1]
  have atP:upd (upd H P (.tbl (ps++#[rawInt pos.line,rawInt pos.col,.ref c']))) c' (.ext (fW c' q)) P=some (.tbl (ps++#[rawInt pos.line,rawInt pos.col,.ref c'])):=by rw[aB nPc,bc]
  have nc:∀b u,H b=some u->b≠c':=λb u e=>bS e hc;have kp:∀b u,H b=some u->oz u->upd (upd H P (.tbl (ps++#[rawInt pos.line,rawInt pos.col,.ref c']))) c' (.ext (fW c' q)) b=some u:=λb u e n=>by rw[at_ b (λz=>by rw[z,hP] at e;cases e;exact n _ rfl) (nc b _ e)];exact e
  have l:LeH H (upd (upd H P (.tbl (ps++#[rawInt pos.line,rawInt pos.col,.ref c']))) c' (.ext (fW c' q))):=⟨λb xs e=>kp b _ e λ_ z=>(nomatch z),λb o u e=>kp b _ e λ_ z=>(nomatch z),λb φ e=>kp b _ e λ_ z=>(nomatch z)⟩;have dom:∀a,upd (upd H P (.tbl (ps++#[rawInt pos.line,rawInt pos.col,.ref c']))) c' (.ext (fW c' q)) a=none->H a=none:=λa z=>by
   by_cases z1:a=c'
   .subst z1;exact hc
   .by_cases z2:a=P
    .subst z2;rw[atP] at z;cases z
    .rw[at_ a z2 z1] at z;exact z
  have mv:Mov (Oc Y ns) (Oc Y ns) H (upd (upd H P (.tbl (ps++#[rawInt pos.line,rawInt pos.col,.ref c']))) c' (.ext (fW c' q))):=⟨l,λa o p e n=>⟨p,kp a o e n⟩⟩;refine⟨⟨S.l1,S.l2,λa z=>S.lh a (dom a z),λa z=>?_,S.inj,S.nx,λi s qi=>(S.sl i s qi).mono mv λj o _ e f=>kp j o e f.nt,λP' q' l'=>?_⟩,⟨l,dom,λm o e n _=>kp m o e n,λ_ _ q=>.inl q,λ_ _ q _=>⟨q,rfl⟩,λ_ _ q _=>⟨q,rfl⟩,λ_ _ q=>⟨_,q,rfl⟩,λ_ _ q=>⟨_,q,rfl⟩⟩⟩
  .obtain⟨o,z⟩:=S.xl a z;cases y:upd (upd H P (.tbl (ps++#[rawInt pos.line,rawInt pos.col,.ref c']))) c' (.ext (fW c' q)) a with
   |none=>rw[dom a y] at z;cases z
   |some u=>exact⟨u,rfl⟩
  .obtain⟨⟨ps',t2,t3,t4⟩,bm⟩:=S.bs P' q' l';refine⟨?_,DY bm l⟩;have eq:=hT.one l';by_cases z:P'=P
   .subst z;rw[hP] at t2;cases t2;refine⟨_,atP,?_,λk_ cv e=>?_⟩
    .rw[Array.toList_append];exact TriplesOk_snoc _ _ _ _ t3
    .rw[Array.toList_append] at e;rcases wZ _ t3 e with z |rfl
     .obtain⟨c,e1,e2⟩:=t4 k_ cv z;exact⟨c,e1,l.ext _ _ e2⟩
     .exact⟨c',rfl,by rw[bc,eq]⟩
   .exact⟨ps',by rw[at_ P' z (nc P' _ t2)];exact t2,t3,λk_ cv e=>by obtain⟨c,e1,e2⟩:=t4 k_ cv e;exact⟨c,e1,l.ext _ _ e2⟩⟩
variable{X:Cx}{ES:St->XK}{a:Expr}{p:PEx}{iW:Nat}{c:Addr}{q1 q2 q6 q7 q8 q9 p0 p1 p2 p3 p4 p5 p6:Pos}
def EM(hc:X.calm=true)(hdp:X.A.depth<recursionLimit)(hl:Gl X "sorted")(hml:mg "sorted"=none)(hg:Gl X "range")(hm:mg "range"=none)(hN:X.N[iW]?=some "weights")(hv:X.env.scope.names.lookup ("weights" : Str)=some .cell)(n_:X.env.code=.ref c)(hh:W.codeHdIn K c P=true)(hT:LamT K mg P (X.env.qual ++ "<lambda>"))(ha:DE K mg X ES a p)(hK:X.K=K:=by rfl)(hk:X.mg=mg:=by rfl)(hs:starEach [a] X.env=[(false,eval a X.env)]:=by rfl):
 DE K mg X ES (.Call (.Name "sorted" q1) [.Call (.Name "range" q2) [a] [] q6] [⟨some "key",.Lambda (fC p0) (eN p1 p2 p3 p4 p5 p6) bg q7,q8⟩] q9) (pFn rB (aa p (aa (af iW) ag))):=by
 subst hK hk;refine⟨PE.imp (FL hc hdp hl hml hg hm (br ha Ap hs).ok hN hv n_ hh hs) λσ H Q zz=>zz.el λY N0 L ns e S hL p3=>⟨Y,N0,ns,e,S,?_⟩⟩;replace p3:PG3 X.K X.mg Y N0 ns e σ H (ES σ) (KE X.K X.mg Y N0 L σ Q) ((mK p.G (mK (eT iW) oy) e).bind λts e1=>match rss e1 ts with
  |some vs=>(jk vs).at e1
  |none=>.stuck):=p3
 show PG3 X.K X.mg Y N0 ns e σ H (ES σ) _ (mK p.G oy e);unfold mK at p3 ⊢;cases q0:p.G e with
 |stuck=>rw[q0] at p3;exact p3.elim
 |exc c e'=>rw[q0] at p3;exact p3
 |
  ok t e1=>
  rw[q0] at p3;intro H1 ns1 a1 S1 vs rts;replace p3:PG3 X.K X.mg Y N0 ns e σ H (ES σ) (KE X.K X.mg Y N0 L σ Q) (((eT iW e1).bind λt2 e2=>.ok (t.drop::[t2.drop]) e2).bind λts e1=>match rss e1 ts with
   |some vs=>(jk vs).at e1
   |none=>.stuck):=by
   refine Eq.mp ?_ p3;congr 1;show (R3.bind (R3.bind (R3.bind (eT iW e1) _) _) _)=_;cases eT iW e1 <;> rfl
  have d_:∀t2,eT iW e1=.ok t2 e1->(∀v,rs e1 t2.drop=some v->∃d,σ[iW]?=some (some d)/\ShR X.K X.mg (Oc Y ns1) H1 d v)->yz X.K X.mg P (X.env.qual ++ "<lambda>") q7 σ[iW]? vs H1 Q:=λt2 e2 hd=>by
   rw[e2] at p3;replace p3:PG3 X.K X.mg Y N0 ns e σ H (ES σ) (KE X.K X.mg Y N0 L σ Q) (match rss e1 [t.drop,t2.drop] with
    |some vs=>(jk vs).at e1
    |none=>.stuck):=p3
   unfold rss at p3;split at p3
   .rename_i vs' hvs;split at hvs
    .rename_i v1 vr hv1 hvr;cases hvs;unfold rss at hvr;split at hvr
     .rename_i v2 vr2 hv2 hvr2;cases hvr;cases hvr2;obtain⟨d,sd,rd⟩:=hd v2 hv2;have r1:=TsR.sh (ts:=[t.drop]) (vs:=[v1]) S1 rts (by unfold rss;rw[hv1];rfl);obtain⟨x,rfl,rx⟩:=cZ r1;unfold jk at p3;split at p3
      .rename_i j us he;cases he;split at p3
       .rename_i ws hws;split at p3
        .rename_i hb;obtain rfl:=rx.int;obtain⟨b,ds,rfl,h,qq⟩:=rd.lst;obtain rfl:=mz qq hws;obtain⟨⟨ps,t2,t3,t4⟩,bm⟩:=S1.bs P _ hT;refine⟨b,ws,ps,by rw[hb.1],sd,SqL.of h,hb.2,t2,t3,t4,bm,λH2 l g hl2=>?_⟩;obtain⟨S2,a2⟩:=LD S1 g hT t2;exact PG3.bv (b:=.new (.lst ((aJ ws).map λi:Nat=>.int (i:Nat)))) (p3.after S (a1.trans S a2)) S2 (λa z=>hL a (a1.dom a (a2.dom a z))) H2 l _ .refl hl2 trivial (.lst (kF _))
        .exact p3.elim
       .exact p3.elim
      .exact p3.elim
     .cases hvr
    .cases hvs
   .exact p3.elim
  unfold eT at p3;cases q1:e1[iW]? with
  |none=>rw[q1] at p3;exact p3.elim
  |
   some s=>
   have fb:∀u,s.val=some u->(∀v,s ≠ .sh v)->yz X.K X.mg P (X.env.qual ++ "<lambda>") q7 σ[iW]? vs H1 Q:=λu hu hn=>d_ (.bor iW) (by
    unfold eT;rw[q1];cases s <;> first |rfl |cases hu;done |exact absurd rfl (hn _)) λv hv=>by
    have y:=S1.sl iW s q1;have:∃x,σ[iW]?=some (some x):=by
     cases s with
     |no=>cases hu
     |sh v=>exact absurd rfl (hn v)
     |ow v=>obtain⟨m,_,_,y,_⟩:=y;exact⟨_,y⟩
     |lo v=>obtain⟨m,_,_,y,_⟩:=y;exact⟨_,y⟩
     |mu v=>obtain⟨m,_,_,y,_⟩:=y;exact⟨_,y⟩
     |lm v=>obtain⟨m,_,_,y,_⟩:=y;exact⟨_,y⟩
    obtain⟨x,hx⟩:=this;exact⟨x,hx,S1.bor hx hv⟩
   cases s with
   |no=>rw[q1] at p3;exact p3.elim
   |sh v=>exact d_ (.val v) (by unfold eT;rw[q1]) λu hu=>by cases hu;obtain⟨_,x,e1,r⟩:=S1.sl iW _ q1;exact⟨x,e1,.inl r⟩
   |ow v=>exact fb v rfl λ_ z=>nomatch z
   |lo v=>exact fb v rfl λ_ z=>nomatch z
   |mu v=>exact fb v rfl λ_ z=>nomatch z
   |lm v=>exact fb v rfl λ_ z=>nomatch z
end
def KR{P:Program}{w:World}{K:W.Frag}{mg:Qd}{base:Heap}{x y:Str}{k:Nat}{ts:List Addr}(p:PFn)(C:Callee P w K mg base x k [y] (sp3 K mg p))(hT:∀P q,LamT K mg P q->P∈ts)(hm:p.ms=[false])(hG:∀ns:List Int,ns.length<=63->p.G [.kl (ns.map .int)]=.ok (.val (.bl true)) []):
 Callee P w K mg base x k [y] (spT K mg ts):=C.imp λvs H Q E ⟨a,ns,e,hO,hq,hl,ht,hB,q⟩=>by
 subst e;refine⟨λ_=>False,[none],[.kl (ns.map .int)],by rw[hm];rfl,?_,?_⟩
 .rw[hm];have rd:Rd K mg (Oc (λ_=>False) [none]) H (.ref a) (.kl (ns.map .int)):=by
   rcases hq with (hq |⟨o,hq⟩) |hq
   .rcases hO a with z |⟨o,xs,z⟩ |z <;> rw[hq] at z <;> cases z
   .exact .cell ⟨λz=>z,by simp⟩ hq (.fz (kz ns))
   .exact .kl hq (kz ns)
  refine⟨rfl,rfl,λ_ z=>z,λ_ z=>z.elim,λi j n q=>?_,λi n q z=>z,λi s q=>?_,λP q l=>⟨⟨#[],ht P (hT P q l),trivial,λpos cv z=>by cases z⟩,hB⟩⟩
  .cases i with
   |zero=>simp at q
   |succ i=>simp at q
  .cases i with
   |
    zero=>
    have:sl1 false (.kl (ns.map .int))=s:=by simpa [sls] using q
    subst this;exact⟨rfl,_,rfl,rd⟩
   |succ i=>simp [sls] at q
 .rw[hG ns hl];intro x H' _ rr;rw[ShR.bl (.inl rr.2)];exact q H'
def gx(xs:List Val)(n:Nat):g9 xs none (some (n:Int))=xs.take n:=by
 unfold g9;rw[HT.sIx_none,HT.sIx_nat,List.drop_zero,Nat.sub_zero];by_cases h:n<=xs.length
 .rw[Nat.min_eq_left h]
 .rw[Nat.min_eq_right (by omega),N4 (u_ _),N4 (by omega)]
def f9(xs:List Val)(n:Nat):g9 xs (some (n:Int)) none=xs.drop n:=by
 unfold g9;rw[HT.sIx_none,HT.sIx_nat];by_cases h:n<=xs.length
 .rw[Nat.min_eq_left h,N4 (by rw[OQ];exact u_ _)]
 .rw[Nat.min_eq_right (by omega),List.drop_of_length_le (u_ _),List.drop_of_length_le (by omega),Pw]
def fj(xs:List Val)(lo hi:Option Int):aSl (.lst xs) lo hi=.new (.lst (g9 xs lo hi)):=rfl
@[irreducible] def gtX(a:PGt):PGt:=a
def g_x(a:PGt)(v:Val)(e:E3):(gtX a).G v e=a.G v e:=by unfold gtX;rfl
def ZG.weak{K:W.Frag}{mg:Qd}{X:Cx}{e:PySem.Expr}{g:PGt}(h:DG K mg X e g):DG K mg X e (gtX g):=by unfold gtX;exact h
end L3
namespace Wb
open L2
noncomputable def lc (qs:List Rat) (c:Nat):Nat:=qs.foldl (λc q=>Nat.lcm c q.den) c
noncomputable def wh (L:Nat) (qs:List Rat):List Int:=qs.map λq=>q.num*((L/q.den:Nat):Int)
noncomputable def ws (qs:List Rat):List Int:=wh (lc qs 1) qs
end Wb
namespace L3
open PySem L2
noncomputable def aG (b:Bx):Rat:=if b.w<b.h then b.h/b.w else b.w/b.h
noncomputable def shL (s l:Rat) (W:Int):Int->List Int->List (Rat×Rat)
 |_,[]=>[]
 |a,w::ws=>(s+l*((a:Rat)/(W:Rat)),l*((w:Rat)/(W:Rat)))::shL s l W (a+w) ws
theorem iR(s l:Rat)(W:Int):∀(ws:List Int) (a:Int),(shL s l W a ws).length=ws.length
 | [],_=>rfl
 |w::ws,a=>by unfold shL;rw[D_,D_,iR s l W ws (a+w)]
noncomputable def ay (b:Bx) (way:Str) (ws:List Int):List Bx:=if way="across" then (shL b.l b.w ws.sum 0 ws).map λp=>⟨p.1,b.t,p.2,b.h⟩ else (shL b.t b.h ws.sum 0 ws).map λp=>⟨b.l,p.1,b.w,p.2⟩
theorem er:∀{l:List Int},(∀w∈l,1<=w)->(l.length:Int)<=l.sum
 | [],_=>by simp
 |
  x::l,h=>by
  rw[NA,D_]
  have:=h x (r_ ..)
  have:=er (l:=l) λw hw=>h w (q_ _ hw)
  omega
theorem wO:∀(ws:List Int) (a:Int),0<=a->(∀w∈ws,1<=w)->a+ws.sum<=W->p∈shL s l W a ws->∃a' w:Int,0<=a'/\a'<=W/\1<=w/\w<=W/\p=(s+l*((a':Rat)/(W:Rat)),l*((w:Rat)/(W:Rat)))
 | [],_,_,_,_,h=>nomatch h
 |
  w::ws,a,ha,hw,hs,h=>by
  have h1:=hw w (r_ ..);have h2:=er (l:=ws) λx hx=>hw x (q_ _ hx);rw[NA] at hs;unfold shL at h;rcases G_.mp h with rfl |h
  .exact⟨a,w,ha,by omega,h1,by omega,rfl⟩
  .exact wO ws (a+w) (by omega) (λx hx=>hw x (q_ _ hx)) (by omega) h
noncomputable def liV (l:List Int):Val:=.lst (l.map .int)
noncomputable def wsAt (ws:List Int) (i:Int):Int:=ws.getD i.toNat 0
noncomputable def wt (ws l:List Int):Int:=(l.map (wsAt ws)).sum
noncomputable def mx (x y:Rat):Rat:=if x<y then y else x
open PySem PySem.Spec PyProof.Rows L2
inductive AT where
 |lf (k:Nat)
 |nd (w:Bool) (ts:List AT)
noncomputable def wy (w:Bool):Str:=if w=true then "across" else "down"
def AT.ind{P:AT->Prop}(h1:∀k,P (.lf k))(h2:∀w ts,(∀t∈ts,P t)->P (.nd w ts))(t:AT):P t:=
 @AT.rec P (λts=>∀t∈ts,P t) h1 (λw ts ih=>h2 w ts ih) (λt h=>nomatch h) (λt ts i1 i2 u hu=>by
  rcases G_.mp hu with rfl |hu
  .exact i1
  .exact i2 u hu) t
mutual
def AT.val(f:Nat->Val):AT->Val
 |.lf k=>f k
 |.nd w ts=>.tup [.str (wy w),.tup (AT.vals f ts)]
def AT.vals(f:Nat->Val):List AT->List Val
 | []=>[]
 |t::ts=>AT.val f t::AT.vals f ts
end
mutual
def AT.lvs:AT->List Nat
 |.lf k=>[k]
 |.nd _ ts=>AT.lvsL ts
def AT.lvsL:List AT->List Nat
 | []=>[]
 |t::ts=>AT.lvs t++AT.lvsL ts
end
mutual
def AT.dep:AT->Nat
 |.lf _=>1
 |.nd _ ts=>AT.depL ts+1
def AT.depL:List AT->Nat
 | []=>0
 |t::ts=>max (AT.dep t) (AT.depL ts)
end
mutual
def AT.ok:AT->Bool
 |.lf _=>true
 |.nd _ ts=>decide (2<=ts.length)&&AT.okL ts
def AT.okL:List AT->Bool
 | []=>true
 |t::ts=>AT.ok t&&AT.okL ts
end
theorem AT.vals_map(f:Nat->Val):∀ts,AT.vals f ts=ts.map (AT.val f)
 | []=>rfl
 |t::ts=>by rw[AT.vals,AT.vals_map f ts];rfl
theorem AT.lvsL_mem:∀{ts:List AT},x∈AT.lvsL ts ↔ ∃t∈ts,x∈t.lvs
 | []=>by simp [AT.lvsL]
 |t::ts=>by rw[AT.lvsL,OH,AT.lvsL_mem (ts:=ts)];simp
theorem AT.lvsL_flat:∀ts:List AT,AT.lvsL ts=(ts.map AT.lvs).flatten
 | []=>rfl
 |t::ts=>by rw[AT.lvsL,AT.lvsL_flat ts];rfl
theorem AT.depL_le:∀{ts:List AT},AT.depL ts<=m ↔ ∀t∈ts,t.dep<=m
 | []=>by simp [AT.depL]
 |t::ts=>by rw[AT.depL,Nat.max_le,AT.depL_le (ts:=ts)];simp
theorem AT.okL_mem:∀{ts:List AT},AT.okL ts=true ↔ ∀t∈ts,t.ok=true
 | []=>by simp [AT.okL]
 |t::ts=>by rw[AT.okL,v_,AT.okL_mem (ts:=ts)];simp
noncomputable def wd (w b:Bool):Str:=if w=true then (if b=true then "left" else "right") else (if b=true then "above" else "below")
def vn{t:AT}(h:t.ok=true):1<=t.lvs.length:=by
 induction t using AT.ind with
 |h1 k=>simp [AT.lvs]
 |
  h2 w ts ih=>
  rw[AT.ok,v_] at h;cases ts with
  |nil=>exact absurd h.1 (by decide)
  |
   cons t ts=>
   have:=ih t (r_ ..) (AT.okL_mem.mp h.2 t (r_ ..))
   rw[AT.lvs,AT.lvsL,K_];omega
theorem rY{α β:Type}{f:α->List β}:∀{l:List α},(∀a∈l,1<=(f a).length)->l.length<=((l.map f).flatten).length
 | [],_=>u_ _
 |
  a::l,h=>by
  have h1:=h a (r_ ..);have h2:=rY (l:=l) λb hb=>h b (q_ _ hb);rw[t_,List.flatten_cons,K_,D_];omega
noncomputable def lfV:Val->Bool
 |.int _=>true
 |.str _=>true
 |_=>false
theorem vS:∀{vs:List Val},(∀v∈vs,wfV k v=true)->cP k vs=true
 | [],_=>rfl
 |
  v::vs,h=>by
  show (wfV k v&&cP k vs)=true;rw[h v (r_ ..),vS λu hu=>h u (q_ _ hu)];rfl
def yb(v:Val)(l:List Val):atI (v::l) 0=some v:=aR (by decide) rfl
noncomputable def inB (x:Nat) (t:AT):Bool:=decide (x∈t.lvs)
noncomputable def itV (l:List Nat):Val:=.lst (l.map λk:Nat=>.int k)
structure TOk(t:AT)(l:List Nat):Prop where
 ok:t.ok=true
 mem:∀k,k∈t.lvs ↔ k∈l
 dep:t.dep<=l.length
 len:t.lvs.length=l.length
noncomputable def atV (t:AT):Val:=t.val λk=>.int (k:Nat)
mutual
def AT.cnt:AT->Nat
 |.lf _=>1
 |.nd _ ts=>AT.cntL ts+1
def AT.cntL:List AT->Nat
 | []=>0
 |t::ts=>AT.cnt t+AT.cntL ts
end
theorem AT.cntL_app:∀(a b:List AT),AT.cntL (a++b)=AT.cntL a+AT.cntL b
 | [],b=>by simp [AT.cntL]
 |t::a,b=>by rw[Pz,AT.cntL,AT.cntL,AT.cntL_app a b];omega
theorem AT.lvsL_app:∀(a b:List AT),AT.lvsL (a++b)=AT.lvsL a++AT.lvsL b
 | [],b=>by simp [AT.lvsL]
 |t::a,b=>by rw[Pz,AT.lvsL,AT.lvsL,AT.lvsL_app a b,Pp]
def mE(xs:List Val)(x:Val):qE.G (.lst (xs++[x])) []=some (.lst xs,x):=by show uk (.lst (xs++[x])) []=_;unfold uk;dsimp only;rw[K_,PJ,Nat.add_sub_cancel,OM (u_ _),Nat.sub_self,List.dropLast_concat];rfl
theorem AT.cnt_le:∀{ts:List AT}{t:AT},t∈ts->t.cnt<=AT.cntL ts
 | [],t,h=>nomatch h
 |
  u::ts,t,h=>by
  rw[AT.cntL];rcases G_.mp h with rfl |h
  .omega
  .have:=AT.cnt_le h;omega
def AT.lvs_le(h:t∈ts):t.lvs.length<=(AT.lvsL ts).length:=by rw[AT.lvsL_flat];exact List.Sublist.length_le (List.sublist_flatten_of_mem (Pb (f:=AT.lvs) h))
noncomputable def wtA (ws:List Int) (l:List Nat):Int:=(l.map λk=>ws.getD k 0).sum
noncomputable def wtT (ws:List Int) (t:AT):Int:=wtA ws t.lvs
mutual
def AT.bx(ws:List Int):AT->Bx->List (Nat×Bx)
 |.lf k,b=>[(k,b)]
 |.nd w ts,b=>AT.bxL ws ts (ay b (wy w) (ts.map (wtT ws)))
def AT.bxL(ws:List Int):List AT->List Bx->List (Nat×Bx)
 |t::ts,b::bs=>AT.bx ws t b++AT.bxL ws ts bs
 |_,_=>[]
end
mutual
def AT.lay(ws:List Int)(n m:Nat):AT->Bx->Prop
 |.lf _,b=>b.Ok/\b.Sz n
 |.nd w ts,b=>b.Ok/\b.Sz n/\ts≠[]/\ts.length<=40/\(∀t∈ts,1<=wtT ws t)/\Sm m (ts.map (wtT ws)).sum/\AT.layL ws n m ts (ay b (wy w) (ts.map (wtT ws)))
def AT.layL(ws:List Int)(n m:Nat):List AT->List Bx->Prop
 |t::ts,b::bs=>AT.lay ws n m t b/\AT.layL ws n m ts bs
 |_,_=>True
end
noncomputable def cV (kvs:List (Key×Val)) (l:List (Nat×Bx)):List (Key×Val):=l.foldl (λkvs p=>fq kvs (.inl (p.1:Nat)) (bV p.2)) kvs
def Dj(kvs:List (Key×Val))(a b:List (Nat×Bx)):cV kvs (a++b)=cV (cV kvs a) b:=by unfold cV;rw[List.foldl_append]
def C3(h:a.Perm b):wtA ws a=wtA ws b:=by
 unfold wtA;induction h with
 |nil=>rfl
 |cons x _ ih=>rw[t_,t_,NA,NA,ih]
 |swap x y l=>simp only[t_,NA];omega
 |trans _ _ h1 h2=>rw[h1,h2]
theorem sR(ws:List Int):∀ts:List AT,wtA ws (AT.lvsL ts)=(ts.map (wtT ws)).sum
 | []=>rfl
 |
  t::ts=>by
  rw[AT.lvsL,t_,NA,<- sR ws ts];unfold wtT wtA;rw[NU,Pg]
def Bz(kvs:List (Key×Val))(k:Key)(v:Val):(fq kvs k v).length<=kvs.length+1:=by
 unfold fq;split
 .rw[p_];omega
 .rw[K_];exact u_ _
theorem sE:∀(l:List (Nat×Bx)) (kvs:List (Key×Val)),(cV kvs l).length<=kvs.length+l.length
 | [],kvs=>u_ _
 |
  p::l,kvs=>by
  have h1:=Bz kvs (.inl (p.1:Nat)) (bV p.2);have h2:=sE l (fq kvs (.inl (p.1:Nat)) (bV p.2));unfold cV at h2 ⊢;rw[PN,D_];omega
def AT.bx_fst(ws:List Int)(t:AT):∀b,(AT.bx ws t b).length<=t.lvs.length/\∀p∈AT.bx ws t b,p.1∈t.lvs:=by
 induction t using AT.ind with
 |h1 k=>intro b;simp [AT.bx,AT.lvs]
 |
  h2 w ts ih=>
  intro b;rw[AT.bx,AT.lvs];generalize ay b (wy w) (ts.map (wtT ws))=bs;induction ts generalizing bs with
  |nil=>simp [AT.bxL]
  |
   cons t ts ih2=>
   cases bs with
   |nil=>simp [AT.bxL]
   |
    cons b bs=>
    obtain⟨h1,h2⟩:=ih t (r_ ..) b;obtain⟨h3,h4⟩:=ih2 (λu hu=>ih u (q_ _ hu)) bs;rw[AT.bxL,AT.lvsL,K_,K_];refine⟨by omega,λp hp=>?_⟩;rcases OH.mp hp with hp |hp
    .exact PU _ (h2 p hp)
    .exact Ny _ (h4 p hp)
def zJ(kvs:List (Key×Val))(k k':Key)(v:Val):lkD (fq kvs k v) k'=if k=k' then some v else lkD kvs k':=by
 unfold fq;induction kvs with
 |
  nil=>
  rw[if_neg (by simp)];unfold lkD;by_cases h:k=k'
  .simp [h]
  .simp [h]
 |
  cons p kvs ih=>
  obtain⟨pk,pv⟩:=p;by_cases hp:pk=k
  .subst
    hp
   rw[if_pos (by simp)];by_cases h:pk=k'
   .subst h;simp [lkD]
   .rw[if_neg h];rw[if_neg h] at ih;simp only[t_,O7];unfold lkD;simp only[NY,Em h];by_cases ha:(kvs.any λkv=>decide (kv.1=pk))=true
    .rw[if_pos ha] at ih;unfold lkD at ih;exact ih
    .have:(kvs.map λkv=>if kv.1=pk then (kv.1,v) else kv)=kvs:=by
      conv=>rhs;rw[<- List.map_id kvs]
      refine NR λq hq=>?_;rw[if_neg]
      .rfl
      .intro z;exact ha (List.any_eq_true.mpr ⟨q,hq,H_ z⟩)
     rw[this]
  .by_cases ha:(kvs.any λkv=>decide (kv.1=k))=true
   .rw[if_pos ha] at ih;rw[if_pos (by rw[N7,ha,Bool.or_true])];simp only[t_,if_neg hp];by_cases h:pk=k'
    .subst h;rw[if_neg (λz=>hp z.symm)];simp [lkD]
    .unfold lkD at ih ⊢;simp only[NY,Em h];exact ih
   .rw[if_neg ha] at ih;rw[if_neg (by rw[N7,Em hp,Bool.false_or];exact ha)];rw[Pz];by_cases h:pk=k'
    .subst h;rw[if_neg (λz=>hp z.symm)];simp [lkD]
    .unfold lkD at ih ⊢;simp only[NY,Em h];exact ih
noncomputable def bxO (l:List (Nat×Bx)) (k:Nat):Bx:=((l.find? λp=>p.1==k).map (·.2)).getD ⟨0,0,0,0⟩
theorem wB:∀(l:List (Nat×Bx)) (kvs:List (Key×Val)),(l.map (·.1)).Nodup->(k∈l.map (·.1)->lkD (cV kvs l) (.inl (k:Nat))=some (bV (bxO l k)))/\(k∉l.map (·.1)->lkD (cV kvs l) (.inl (k:Nat))=lkD kvs (.inl (k:Nat)))
 | [],kvs,_=>⟨(λh=>nomatch h),λ_=>rfl⟩
 |
  p::l,kvs,nd=>by
  rw[t_,OX] at nd;obtain⟨h1,h2⟩:=wB (k:=k) l (fq kvs (.inl (p.1:Nat)) (bV p.2)) nd.2;have e:cV kvs (p::l)=cV (fq kvs (.inl (p.1:Nat)) (bV p.2)) l:=rfl;rw[e];by_cases hp:p.1=k
  .have hk:k∉l.map (·.1):=hp ▸ nd.1;rw[h2 hk,zJ,if_pos (by rw[hp])];refine⟨λ_=>?_,λz=>absurd (by rw[t_,hp];exact r_ ..) z⟩;unfold bxO;rw[NY];simp [hp]
  .have hk:k∈(p::l).map (·.1) ↔ k∈l.map (·.1):=by rw[t_,G_];exact⟨λz=>z.resolve_left (λy=>hp y.symm),.inr⟩
   have hb:bxO (p::l) k=bxO l k:=by unfold bxO;rw[OB (by simpa using hp)]
   rw[hk,hb];refine⟨h1,λz=>?_⟩;rw[h2 z,zJ,if_neg];intro y;injection y with y;exact hp (Int.ofNat.inj y)
def jV(b:Bx)(way:Str)(ws:List Int):(ay b way ws).length=ws.length:=by unfold ay;split <;> rw[p_,iR]
def AT.bx_keys(ws:List Int)(t:AT):∀b,(AT.bx ws t b).map (·.1)=t.lvs:=by
 induction t using AT.ind with
 |h1 k=>intro b;rw[AT.bx,AT.lvs];rfl
 |
  h2 w ts ih=>
  intro b;rw[AT.bx,AT.lvs];have hl:(ay b (wy w) (ts.map (wtT ws))).length=ts.length:=by rw[jV,p_]
  generalize ay b (wy w) (ts.map (wtT ws))=bs at *;induction ts generalizing bs with
  |nil=>cases bs <;> rfl
  |
   cons t ts ih2=>
   cases bs with
   |nil=>exact nomatch hl
   |cons b bs=>rw[AT.bxL,AT.lvsL,NU,ih t (r_ ..) b,ih2 (λu hu=>ih u (q_ _ hu)) bs (by simpa using hl)]
def AT.cnt_lvs(t:AT)(h:t.ok=true):t.cnt+1<=2*t.lvs.length:=by
 induction t using AT.ind with
 |h1 k=>simp [AT.cnt,AT.lvs]
 |
  h2 w ts ih=>
  rw[AT.ok,v_] at h;have hk:=AT.okL_mem.mp h.2;have h2:2<=ts.length:=O4 h.1;rw[AT.cnt,AT.lvs];have:∀ts:List AT,(∀t∈ts,t.cnt+1<=2*t.lvs.length)->AT.cntL ts+ts.length<=2*(AT.lvsL ts).length:=by
   intro ts;induction ts with
   |nil=>intro _;simp [AT.cntL,AT.lvsL]
   |cons t ts ih=>intro h;have h1:=h t (r_ ..);have h2:=ih λu hu=>h u (q_ _ hu);rw[AT.cntL,AT.lvsL,K_,D_];omega
  have:=this ts λt ht=>ih t ht (hk t ht)
  omega
structure Rp(D A B:Nat)(b:Bx):Prop where
 pos:0<D
 l:∃z:Int,b.l=(z:Rat)/((D:Int):Rat)/\z.natAbs<=A*D
 t:∃z:Int,b.t=(z:Rat)/((D:Int):Rat)/\z.natAbs<=A*D
 w:∃z:Int,b.w=(z:Rat)/((D:Int):Rat)/\0<z/\z<=B*D
 h:∃z:Int,b.h=(z:Rat)/((D:Int):Rat)/\0<z/\z<=B*D
def Mp(x y a D W:Rat)(h1:D≠0)(h2:W≠0):x/D+(y/D)*(a/W)=(x*W+y*a)/(D*W):=by grind
def KP(y a D W:Rat)(h1:D≠0)(h2:W≠0):(y/D)*(a/W)=(y*a)/(D*W):=by grind
def KQ(y D W:Rat)(h1:D≠0)(h2:W≠0):y/D=(y*W)/(D*W):=by grind
def ky{z:Int}(h:z≠0):(z:Rat)≠0:=λe=>h (Rat.intCast_inj.mp e)
def DM{x y a W:Int}{D A B:Nat}(hD:0<D)(hx:x.natAbs<=A*D)(hy:0<y/\y<=B*D)(ha:0<=a/\a<=W)(hW:0<W):∃z:Int,(x:Rat)/((D:Int):Rat)+((y:Rat)/((D:Int):Rat))*((a:Rat)/(W:Rat))=(z:Rat)/(((D*W.toNat:Nat):Int):Rat)/\z.natAbs<=(A+B)*(D*W.toNat):=by
 obtain⟨V,rfl⟩:∃V:Nat,W=V:=⟨W.toNat,by omega⟩;refine⟨x*V+y*a,?_,?_⟩
 .rw[Mp _ _ _ _ _ (ky (by omega)) (ky (by omega))];congr 1
  .rw[Rat.intCast_add,NQ,NQ]
  .rw[NT,Oo,NQ]
 .rw[NT];have h1:(x*(V:Int)).natAbs<=A*D*V:=by rw[NX];exact NO hx (u_ _)
  have h2:(y*a).natAbs<=B*D*V:=by
   rw[NX];refine NO ?_ (by omega)
   have:=hy.2
   omega
  have h3:=Int.natAbs_add_le (x*V) (y*a);rw[Nat.add_mul,<- Px,<- Px];omega
def DR{y a W:Int}{D B:Nat}(hD:0<D)(hy:0<y/\y<=B*D)(ha:1<=a/\a<=W):∃z:Int,((y:Rat)/((D:Int):Rat))*((a:Rat)/(W:Rat))=(z:Rat)/(((D*W.toNat:Nat):Int):Rat)/\0<z/\z<=((B:Nat):Int)*((D*W.toNat:Nat):Int):=by
 obtain⟨V,rfl⟩:∃V:Nat,W=V:=⟨W.toNat,by omega⟩;refine⟨y*a,?_,Int.mul_pos hy.1 (by omega),?_⟩
 .rw[KP _ _ _ _ (ky (by omega)) (ky (by omega))];congr 1
  .rw[NQ]
  .rw[NT,Oo,NQ]
 .rw[NT,Oo,<- NW];exact Int.mul_le_mul hy.2 ha.2 (by omega) (Int.le_trans (Int.le_of_lt hy.1) hy.2)
def nA{y W:Int}{D:Nat}(hD:0<D)(hW:0<W):(y:Rat)/((D:Int):Rat)=((y*W:Int):Rat)/(((D*W.toNat:Nat):Int):Rat):=by obtain⟨V,rfl⟩:∃V:Nat,W=V:=⟨W.toNat,by omega⟩;rw[KQ _ _ _ (ky (show ((D:Nat):Int)≠0 by omega)) (ky (show ((V:Nat):Int)≠0 by omega)),NQ,NT,Oo,NQ]
def AL{z W:Int}{D A B:Nat}(hz:z.natAbs<=A*D)(hW:0<W):(z*W).natAbs<=(A+B)*(D*W.toNat):=by rw[NX,<- Px];refine NO ?_ (by omega);rw[Nat.add_mul];omega
def AA{z W:Int}{D B:Nat}(hz:0<z/\z<=B*D)(hW:0<W):0<z*W/\z*W<=((B:Nat):Int)*((D*W.toNat:Nat):Int):=by refine⟨Int.mul_pos hz.1 hW,?_⟩;rw[Oo,<- NW,Int.toNat_of_nonneg (by omega)];exact Ol hz.2 (by omega)
def Rp.parts{D A B:Nat}{b b':Bx}{way:Str}{ws:List Int}(r:Rp D A B b)(hw:∀w∈ws,1<=w)(h:b'∈ay b way ws):Rp (D*ws.sum.toNat) (A+B) B b':=by
 obtain⟨pos,⟨zl,el,bl⟩,⟨zt,et,bt⟩,⟨zw,ew,bw⟩,⟨zh,eh,bh⟩⟩:=r;have key:∀p:Rat×Rat,∀s l:Rat,p∈shL s l ws.sum 0 ws->0<ws.sum/\∃a' w:Int,0<=a'/\a'<=ws.sum/\1<=w/\w<=ws.sum/\p=(s+l*((a':Rat)/(ws.sum:Rat)),l*((w:Rat)/(ws.sum:Rat))):=λp s l hp=>by obtain⟨a',w,h1,h2,h3,h4,h5⟩:=wO ws 0 (by omega) hw (by omega) hp;exact⟨by omega,a',w,h1,h2,h3,h4,h5⟩
 unfold ay at h;split at h
 .obtain⟨p,hp,rfl⟩:=Nv.mp h;obtain⟨hS,a',w,h1,h2,h3,h4,rfl⟩:=key p _ _ hp;have hV:0<D*ws.sum.toNat:=Oj pos (by omega);refine⟨hV,?_,⟨zt*ws.sum,by show b.t=_;rw[et];exact nA pos hS,AL bt hS⟩,?_,⟨zh*ws.sum,by show b.h=_;rw[eh];exact nA pos hS,AA bh hS⟩⟩
  .show ∃z:Int,b.l+b.w*_=_/\_;rw[el,ew];exact DM pos bl bw ⟨h1,h2⟩ hS
  .show ∃z:Int,b.w*_=_/\_;rw[ew];exact DR pos bw ⟨h3,h4⟩
 .obtain⟨p,hp,rfl⟩:=Nv.mp h;obtain⟨hS,a',w,h1,h2,h3,h4,rfl⟩:=key p _ _ hp;have hV:0<D*ws.sum.toNat:=Oj pos (by omega);refine⟨hV,⟨zl*ws.sum,by show b.l=_;rw[el];exact nA pos hS,AL bl hS⟩,?_,⟨zw*ws.sum,by show b.w=_;rw[ew];exact nA pos hS,AA bw hS⟩,?_⟩
  .show ∃z:Int,b.t+b.h*_=_/\_;rw[et,eh];exact DM pos bt bh ⟨h1,h2⟩ hS
  .show ∃z:Int,b.h*_=_/\_;rw[eh];exact DR pos bh ⟨h3,h4⟩
def Rp.ok{D A B:Nat}{b:Bx}(r:Rp D A B b):b.Ok:=by obtain⟨pos,_,_,⟨zw,ew,bw⟩,⟨zh,eh,bh⟩⟩:=r;exact⟨by rw[ew];exact gi bw.1 (by omega),by rw[eh];exact gi bh.1 (by omega)⟩
def Rp.sz{D A B n:Nat}{b:Bx}(r:Rp D A B b)(hA:A*D<2^n)(hB:B*D<2^n)(hD:D<2^n):b.Sz n:=by
 obtain⟨pos,⟨zl,el,bl⟩,⟨zt,et,bt⟩,⟨zw,ew,bw⟩,⟨zh,eh,bh⟩⟩:=r;have sD:Sm n ((D:Nat):Int):=by show ((D:Nat):Int).natAbs<2^n;omega
 have k:∀z:Int,z.natAbs<2^n->Sz n ((z:Rat)/((D:Int):Rat)):=λz hz=>Sz.div (by omega) hz sD n (u_ _) (u_ _);have hb:∀z:Int,0<z/\z<=B*D->z.natAbs<2^n:=λz hz=>by
  have h1:z<=((B*D:Nat):Int):=by rw[Oo];exact hz.2
  omega
 exact⟨by rw[el];exact k zl (by omega),by rw[et];exact k zt (by omega),by rw[ew];exact k zw (hb zw bw),by rw[eh];exact k zh (hb zh bh)⟩
theorem oV{ws:List Int}:∀{l:List Nat},(∀k∈l,1<=ws.getD k 0)->(l.length:Int)<=wtA ws l
 | [],_=>by simp [wtA]
 |
  k::l,h=>by
  have h1:=h k (r_ ..);have h2:=oV (l:=l) λj hj=>h j (q_ _ hj);unfold wtA at h2 ⊢;rw[t_,NA,D_];omega
theorem vF{ws:List Int}{n m:Nat}:∀{ts:List AT}{bs:List Bx},(∀t∈ts,∀b∈bs,AT.lay ws n m t b)->AT.layL ws n m ts bs
 | [],_,_=>by rw[AT.layL];trivial;intro t ts b bs z;cases z
 |t::ts,[],_=>by rw[AT.layL];trivial;intro t ts b bs _ z;cases z
 |
  t::ts,b::bs,h=>by
  rw[AT.layL];exact⟨h t (r_ ..) b (r_ ..),vF λu hu c hc=>h u (q_ _ hu) c (q_ _ hc)⟩
def Rp.fine{n m B D A d:Nat}{b:Bx}(r:Rp D A B b)(hBA:B<=A)(hA:1<=A)(hq:(A+d*B)*(D*2^(m*d))<2^n):b.Ok/\b.Sz n:=by have hD1:1<=2^(m*d):=Nat.one_le_two_pow;have z1:A*D<=(A+d*B)*(D*2^(m*d)):=NO (by omega) (Nat.le_mul_of_pos_right _ hD1);have z2:D<=A*D:=Nat.le_mul_of_pos_left _ hA;have z3:B*D<=A*D:=Ot _ hBA;exact⟨r.ok,r.sz (by omega) (by omega) (by omega)⟩
def Io{ws:List Int}{n m B:Nat}(t:AT):∀(b:Bx) (D A:Nat),Rp D A B b->B<=A->1<=A->(A+t.dep*B)*(D*2^(m*t.dep))<2^n->t.ok=true->(∀k∈t.lvs,1<=ws.getD k 0)->wtT ws t<2^m->t.lvs.length<=40->AT.lay ws n m t b:=by
 induction t using AT.ind with
 |h1 k=>intro b D A r hBA hA hn _ _ _ _;rw[AT.lay];exact r.fine hBA hA hn
 |
  h2 w ts ih=>
  intro b D A r hBA hA hn ho hw hm hl;have ho':=ho;rw[AT.ok,v_] at ho';have h2:2<=ts.length:=O4 ho'.1;have hk:=AT.okL_mem.mp ho'.2;rw[AT.lvs] at hw hl;have hws:∀t∈ts,∀k∈t.lvs,1<=ws.getD k 0:=λt ht k hk'=>hw k (AT.lvsL_mem.mpr ⟨t,ht,hk'⟩);have hone:∀t∈ts,1<=wtT ws t:=λt ht=>by have h1:=vn (hk t ht);have h2:=oV (hws t ht);unfold wtT;omega
  have hsum:wtT ws (.nd w ts)=(ts.map (wtT ws)).sum:=by unfold wtT;rw[AT.lvs];exact sR ws ts
  rw[hsum] at hm;have hpos:0<=(ts.map (wtT ws)).sum:=by
   rw[<- sR]
   have:=oV hw
   omega
  rw[AT.dep] at hn;generalize hq:AT.depL ts=q at *;have fn:=r.fine hBA hA hn;have tl:ts.length<=40:=by rw[AT.lvsL_flat] at hl;have:ts.length<=((ts.map AT.lvs).flatten).length:=rY λt ht=>vn (hk t ht);omega
  rw[AT.lay];refine⟨fn.1,fn.2,λz=>by rw[z] at h2;simp at h2,tl,hone,by
   show (ts.map (wtT ws)).sum.natAbs<2^m;have:(((ts.map (wtT ws)).sum.natAbs:Nat):Int)<((2^m:Nat):Int):=by
    rw[Int.natAbs_of_nonneg hpos]
    push_cast
    exact hm
   omega,vF λt ht c hc=>?_⟩
  have rp:=r.parts (λx hx=>by obtain⟨u,hu,rfl⟩:=Nv.mp hx;exact hone u hu) hc;have hdt:t.dep<=q:=by rw[<- hq];exact AT.depL_le.mp (u_ _) t ht
  have hS:(ts.map (wtT ws)).sum.toNat<=2^m:=by
   have:(((ts.map (wtT ws)).sum.toNat:Nat):Int)<((2^m:Nat):Int):=by
    rw[Int.toNat_of_nonneg hpos]
    push_cast
    exact hm
   omega
  refine ih t ht c _ (A+B) rp (by omega) (by omega) ?_ (hk t ht) (hws t ht) ?_ (by have:=AT.lvs_le ht;omega)
  .refine Oh (NO ?_ ?_) hn
   .have:t.dep*B<=q*B:=Ot _ hdt;rw[Nat.add_mul,Nat.one_mul];omega
   .rw[Px];refine Oa _ ?_;have e:2^(m*(q+1))=2^m*2^(m*q):=by rw[<- OC];congr 1;rw[Nat.mul_add,Nat.mul_one,Nat.add_comm]
    rw[e];exact NO hS (NI (by decide) (Oa _ hdt))
  .refine Int.lt_of_le_of_lt ?_ hm;have aux:∀us:List AT,(∀u∈us,0<=wtT ws u)->t∈us->wtT ws t<=(us.map (wtT ws)).sum:=by
    intro us;induction us with
    |nil=>intro _ h;exact nomatch h
    |
     cons u us ih=>
     intro h0 hm;have nn:∀us:List AT,(∀u∈us,0<=wtT ws u)->0<=(us.map (wtT ws)).sum:=by
      intro us;induction us with
      |nil=>intro _;simp
      |cons v us ih=>intro h;rw[t_,NA];have:=h v (r_ ..);have:=ih λu hu=>h u (q_ _ hu);omega
     rw[t_,NA];rcases G_.mp hm with rfl |hm
     .have:=nn us λu hu=>h0 u (q_ _ hu)
      omega
     .have h1:=ih (λu hu=>h0 u (q_ _ hu)) hm;have h2:=h0 u (r_ ..);omega
   exact aux ts (λu hu=>by have:=hone u hu;omega) ht
def Hl{ws:List Int}{n m:Nat}(t:AT):∀b:Bx,AT.lay ws n m t b->∀p∈AT.bx ws t b,p.2.Ok/\p.2.Sz n:=by
 induction t using AT.ind with
 |h1 k=>intro b h p hp;rw[AT.bx] at hp;rw[N2.mp hp];rw[AT.lay] at h;exact h
 |
  h2 w ts ih=>
  intro b h p hp;rw[AT.bx] at hp;rw[AT.lay] at h;replace h:=h.2.2.2.2.2.2;generalize ay b (wy w) (ts.map (wtT ws))=bs at *;induction ts generalizing bs with
  |nil=>rw[AT.bxL] at hp;exact nomatch hp;intro _ _ _ _ z;cases z
  |
   cons t ts ih2=>
   cases bs with
   |nil=>rw[AT.bxL] at hp;exact nomatch hp;intro _ _ _ _ _ z;cases z
   |
    cons c cs=>
    rw[AT.bxL] at hp;rw[AT.layL] at h;rcases OH.mp hp with hp |hp
    .exact ih t (r_ ..) c h.1 p hp
    .exact ih2 (λu hu=>ih u (q_ _ hu)) cs hp h.2
noncomputable def bF (b:Bx) (w:Bool) (W a x:Int):Bx:=if w=true then ⟨b.l+b.w*((a:Rat)/(W:Rat)),b.t,b.w*((x:Rat)/(W:Rat)),b.h⟩ else ⟨b.l,b.t+b.h*((a:Rat)/(W:Rat)),b.w,b.h*((x:Rat)/(W:Rat))⟩
noncomputable def frm (b:Bx) (w:Bool) (W:Int):Int->List Int->List Bx
 |_,[]=>[]
 |a,x::xs=>bF b w W a x::frm b w W (a+x) xs
theorem vB(b:Bx)(w:Bool)(W:Int):∀(xs:List Int) (a:Int),(frm b w W a xs).length=xs.length
 | [],_=>rfl
 |x::xs,a=>by rw[frm,D_,D_,vB b w W xs]
def gA(b:Bx)(w:Bool)(xs:List Int):ay b (wy w) xs=frm b w xs.sum 0 xs:=by
 have key:∀(W:Int) (xs:List Int) (a:Int),(if wy w="across" then (shL b.l b.w W a xs).map λp=>(⟨p.1,b.t,p.2,b.h⟩:Bx) else (shL b.t b.h W a xs).map λp=>⟨b.l,p.1,b.w,p.2⟩)=frm b w W a xs:=by
  intro W xs;induction xs with
  |nil=>intro a;unfold shL frm;split <;> rfl
  |
   cons x xs ih=>
   intro a;rw[frm,<- ih,shL,shL];unfold bF;cases w with
   |true=>rw[if_pos (show wy true="across" from rfl),if_pos (show wy true="across" from rfl),if_pos rfl];rfl
   |
    false=>
    have hn:¬ (wy false="across"):=by decide
    rw[if_neg hn,if_neg hn,if_neg (by decide)];rfl
 exact key xs.sum xs 0
def K2(w:Bool):PyData.strOk (wy w)=true:=by cases w <;> decide +kernel
def EU{f:Nat->Val}(t:AT):∀d,t.dep<=d->(∀k∈t.lvs,wfV 0 (f k)=true)->wfV (2*d) (t.val f)=true:=by
 induction t using AT.ind with
 |h1 k=>intro d _ h;rw[AT.val];exact JV (h k (by rw[AT.lvs];exact r_ ..)) (NM _)
 |
  h2 w ts ih=>
  intro d hd h;rw[AT.dep] at hd;obtain⟨e,rfl⟩:∃e,d=e+1:=⟨d-1,by omega⟩;have hc:cP (2*e) (AT.vals f ts)=true:=by rw[AT.vals_map];refine vS λv hv=>?_;obtain⟨t,ht,rfl⟩:=Nv.mp hv;exact ih t ht e (AT.depL_le.mp (show AT.depL ts<=e by omega) t ht) λk hk=>h k (by rw[AT.lvs];exact AT.lvsL_mem.mpr ⟨t,ht,hk⟩)
  rw[AT.val,show 2*(e+1)=2*e+1+1 from by omega];show (wfV (2*e+1) (.str (wy w))&&(cP (2*e) (AT.vals f ts)&&true))=true;rw[hc,show wfV (2*e+1) (.str (wy w))=true from K2 w];rfl
def Gk{f:Nat->Val}(t:AT)(hd:t.dep<=60)(h:∀k∈t.lvs,wfV 0 (f k)=true):aL (t.val f) (t.val f)=some true:=by
 have:=EU (f:=f) t 60 hd h
 rw[A4 (by decide) this this,vX _ _ this]
def AB(ws:List Int):((aJ ws).map λk=>ws.getD k 0).Pairwise (· >= ·):=by rw[List.pairwise_map];refine List.Pairwise.imp (λ{i j} h=>?_) (b0 ws).up;unfold bC kyF at h;rw[N6] at h;show ws.getD j 0<=ws.getD i 0;have h:-(ws.getD i 0) < -(ws.getD j 0)\/(-(ws.getD i 0)=-(ws.getD j 0)/\((i:Nat):Int)<(j:Nat)):=h;omega
noncomputable def thN (xs:List Int):Nat->Nat->Nat
 |0,k=>k
 |f+1,k=>if 3*(xs.take k).sum<xs.sum then thN xs f (k+1) else k
noncomputable def gu (xs:List Int):Nat:=thN xs (xs.length-1) 1
theorem yM(xs:List Int):∀f k,k<=thN xs f k
 |0,k=>u_ _
 |
  f+1,k=>by
  rw[thN];split
  .have:=yM xs f (k+1);omega
  .exact u_ _
theorem zc(xs:List Int){m:Nat}(hm:¬ 3*(xs.take m).sum<xs.sum):∀f k,k<=m->thN xs f k<=m
 |0,k,h=>h
 |
  f+1,k,h=>by
  rw[thN];split
  .rename_i z;refine zc xs hm f (k+1) ?_;by_cases e:k=m
   .rw[e] at z;exact absurd z hm
   .omega
  .exact h
def B6{xs:List Int}(h2:2<=xs.length)(hp:∀x∈xs,1<=x)(hd:xs.Pairwise (· >= ·)):1<=gu xs/\gu xs<xs.length:=by
 have key:¬ 3*(xs.take (xs.length-1)).sum<xs.sum:=by
  have e:xs.sum=(xs.take (xs.length-1)).sum+(xs.drop (xs.length-1)).sum:=by rw[<- Pg,Og]
  have d1:xs.drop (xs.length-1)=[xs[xs.length-1]]:=by rw[Pd (by omega),List.drop_eq_nil_of_le (by omega)]
  obtain⟨y,ys,ey⟩:∃y ys,xs.take (xs.length-1)=y::ys:=by
   cases z:xs.take (xs.length-1) with
   |
    nil=>
    have:=Nz List.length z
    rw[NV,Nr] at this;omega
   |cons y ys=>exact⟨y,ys,rfl⟩
  have hy:y=xs[0]:=by
   have z:(xs.take (xs.length-1))[0]?=some y:=by rw[ey];rfl
   rw[List.getElem?_take_of_lt (by omega),B_ (by omega)] at z;exact (J_ z).symm
  have hge:xs[0] >= xs[xs.length-1]:=Oi.mp hd 0 (xs.length-1) (by omega) (by omega) (by omega);have hz:=hp xs[xs.length-1] (Oz _);have hs:0<=ys.sum:=by
   have:=er (l:=ys) λx hx=>hp x (Oq (i:=xs.length-1) (by rw[ey];exact q_ _ hx))
   omega
  rw[e,d1,ey,NA,NA,List.sum_nil];generalize xs[0]=x0 at *;generalize xs[xs.length-1]=xl at *;omega
 refine⟨yM xs _ 1,?_⟩
 have:=zc xs key (xs.length-1) 1 (by omega)
 unfold gu;omega
end L3
namespace KK
open PySem PySem.Spec PyProof.Rows L2 L3
def top(i:Nat):Stmt:=PySem.Challenge.pw_weightrooms_k24_whole_rooms_moved_and_gr.main.body.getD i (.Pass ⟨0,0,0,0⟩)
noncomputable def cp:jv:=[((.b "NoneType"),(.b "bool"),false),((.b "bool"),(.b "bool"),true),((.b "int"),(.b "bool"),false),((.b "str"),(.b "bool"),false),((.b "tuple"),(.b "bool"),false),((.b "list"),(.b "bool"),false),((.b "dict"),(.b "bool"),false),((.b "NoneType"),(.b "int"),false),((.b "bool"),(.b "int"),true),((.b "int"),(.b "int"),true),((.b "str"),(.b "int"),false),((.b "tuple"),(.b "int"),false),((.b "list"),(.b "int"),false),((.b "dict"),(.b "int"),false),((.b "NoneType"),(.b "list"),false),((.b "bool"),(.b "list"),false),((.b "int"),(.b "list"),false),((.b "str"),(.b "list"),false),((.b "tuple"),(.b "list"),false),((.b "list"),(.b "list"),true),((.b "dict"),(.b "list"),false),((.b "NoneType"),(.b "str"),false),((.b "bool"),(.b "str"),false),((.b "int"),(.b "str"),false),((.b "str"),(.b "str"),true),((.b "tuple"),(.b "str"),false),((.b "list"),(.b "str"),false),((.b "dict"),(.b "str"),false),((.b "NoneType"),(.b "tuple"),false),((.b "bool"),(.b "tuple"),false),((.b "int"),(.b "tuple"),false),((.b "str"),(.b "tuple"),false),((.b "tuple"),(.b "tuple"),true),((.b "list"),(.b "tuple"),false),((.b "dict"),(.b "tuple"),false)]
noncomputable def iS:Val:=(.int 40)
noncomputable def vx:Val:=(.tup [(.str "across"),(.str "down"),(.str "halves"),(.str "rows"),(.str "greatest"),(.str "thirds")])
noncomputable def yG:Val:=(.tup [(.str "across"),(.str "down")])
abbrev tb:Tb:=⟨["NoFraction", "NoBox", "NoWay", "NoWeights", "TooMany", "NoTree", "NoRule"],["NoFraction", "NoBox", "NoWay", "NoWeights", "TooMany", "NoTree", "NoRule"],[],cp,[("MOST_WEIGHTS",iS),("RULES",vx),("WAYS",yG)]⟩
abbrev TT(K:W.Frag)(mg:Qd):Prop:=TyL tb top [10,11,12,13,14,15,16,17,18,22,23,24,25,26,27,28,29,30,31,32,33,34,35,37,38,39,40,41,42,43,45,46,47,48,49,50,51,54,55,56,57,58,59,60,61,62,64,65,66,67,68,70,71,72,73,74,75,76,78,79] K mg
section
variable{P:Program}{w:World}{K:W.Frag}{mg:Qd}{base:Heap}
def ir:PEx:=mS iS
def mf(e:E3):ir.G e=.ok (.val (.int 40)) e:=rfl
def lQ:PEx:=mS vx
def DH(e:E3):lQ.G e=.ok (.val (.tup [(.str "across"),(.str "down"),(.str "halves"),(.str "rows"),(.str "greatest"),(.str "thirds")])) e:=rfl
def oQ:PEx:=mS yG
def EA(e:E3):oQ.G e=.ok (.val (.tup [(.str "across"),(.str "down")])) e:=rfl
def dI(s:String):Lean.TSyntax `term:=⟨Lean.mkIdent (s.replace "%" "").toName⟩
def dA(f:String)(a:Lean.TSyntax `term):Lean.TSyntax `term:=Lean.Syntax.mkApp (dI f) #[a]
def dF:List (Lean.TSyntax `tactic)->Lean.MacroM (Lean.TSyntax `tactic)
 | []=>`(tactic|fail)
 |a::l=>do `(tactic|first | $a:tactic | $(<- dF l):tactic)
def dL(f:String->Lean.MacroM (Lean.TSyntax `tactic)):List String->Lean.MacroM (List (Lean.TSyntax `tactic))
 | []=>pure []
 |s::l=>do return (<- f s)::(<- dL f l)
set_option hygiene false in
def dQ(ap:String->Lean.TSyntax `term)(s:String):Lean.MacroM (Lean.TSyntax `tactic):=match (s.splitOn ";").map ap with
 | [d,c,a,b]=>`(tactic|((case d=>with_reducible exact $d);(case c=>exact $c);(case a=>exact $a);(case b=>exact $b)))
 |d::c::_=>`(tactic|((case d=>with_reducible exact $d);(case c=>exact $c)))
 |_=>`(tactic|fail)
set_option hygiene false in
def dR(ap:String->Lean.TSyntax `term)(g:String):Lean.MacroM (Lean.TSyntax `tactic):=match g.splitOn ":" with
 | [r]=>`(tactic|refine $(ap r))
 |r::l=>do `(tactic|(refine' $(ap r);$(<- dF (<- dL (dQ ap) l)):tactic))
 | []=>`(tactic|fail)
set_option hygiene false in
local macro_rules | `('d')=>do
 let h <- `(?_)
 let u <- `(_)
 let R:=dI "rfl"
 let qA <- `(?a)
 let qB <- `(?b)
 let qC <- `(?c)
 let qD <- `(?d)
 let qp <- `((λ_ _=>rfl))
 let ap:=λ(s:String)=>let w:=s.splitOn " ";Lean.Syntax.mkApp (dI (w.getD 0 "")) (((w.getD 1 "").toList.map λc=>([('1',dI "hr.u100"),('8',dI "hr.u180"),('A',qA),('B',qB),('C',qC),('D',qD),('K',dI "T.k"),('_',u),('b',dA "%boT" R),('f',dA "%boF" R),('g',dA "T.g" R),('k',dA "T.n" R),('m',dA "T.m" R),('n',dI "nd"),('o',dI "%own1"),('p',qp),('r',R),('t',dI "T"),('u',dA "%Mw" (dI "hr")),('v',dA "%Ae" u),('x',dA "T.x" R),('z',dI "%rz1")].lookup c).getD h).toArray)
 let rd:=λ(s:String)=>dL (dR ap) (s.splitOn "|")
 let e0 <- `(tactic|refine zcF (by $(<- dF (<- rd "%ih|rb t|tY t|uD t|pP t|tW t|nH t|uQ t|qT t|nv t|j8 t|my t|yg t|pI t|xG t|qa t|pW t|kR t|uI t|fG t|rJ t|yD t|rX t|CB t|zO t|ui t|tV t|oB t|fR t|fQ t|xZ t|pM t|AV t|yc t|nu t|oG t|fu t_|nC t|pK t|lP t|om t|mC t|eU t_|pL t|iM t|kU t|mi t|lX t|p7 t|jO t|AO t|p8 t|uH t|oX t|pH t|rq t|nI t_|sZ t|uX t|sF t")):tactic) hr ?_)
 let e3 <- `(tactic|exact Jc rfl (by first |exact T.e rfl |exact (T.d.get 62 rfl).gl |exact (T.d.get 61 rfl).gl))
 `(by repeat' $(<- dF ((<- rd "%Ae _|H9|Ap|br ??|ao ??|du ?|zsS _n?|kD ???|eX ?|J9 ?|uw ?|Jb|M0|FC|Ig ?")++[e0,e3]++(<- rd "%LX CD??:Nd;ixK r|zd CD??:DX;eqDK r8:DJ;Ec:xW;yj:Ew;Ee:Mz;neDK r8:Kc;HH r:G1;BM:D1;inK r|hZ CDrkf?:JW;MW r:GL;Bu:Fe;AZ r:FN;zB r:yQ;pA rr:Fs;AX rr:E8;uJ:vO;pj rr:I0 K;LA r|Es CD??:HZ;Gv:zy;AS r:Kw;G8:JH;CK:Jw;IH:IX;Ij:Kn;Ke|zF CDrkb?:GS;zM:CT;Fp r:Fx;GQ r|IT CD??:xW;yj:DJ;Ec:DX;eqDK r8:Ew;Ee:D1;inK r|F4 rABCD??:Cy;IJ r1;PySem.F.slot_list_index;PySem.F.type_list_index|IW rABCDv?:A6;yN;PySem.F.slot_list_append;PySem.F.type_list_append:xh;xR r;PySem.F.slot_list_extend;PySem.F.type_list_extend|F3 rABCDv:Jy;HP;PySem.F.slot_list_pop;PySem.F.type_list_pop|M8 CD?:GR;Kb|KC n?CD:Iz;J5|EF ?v?CD:Gh;Bc:BK;BC u|ZG.weak ?|zt_w ?|Kz rv?|Hz ??|Nf|BQ u??p|My rg|Hf rrkrk?|GG|GH ?|Hi ?|FD rkb|BL r???|FG rk?|J7 rrkrk?|LO rkb|zgN _n|Iq rr?|Ho rr?|BJ ??|EB|Ah rk?|y0 rk?|Hg r?|GK rrk?|F1|E1 ?|E7 ??|Dr|Gq ?|Ks or???|GU n?|Bj rzrmx?|Gp|BH o??|rW ?|Dm r?|Ky ??|F8 ?|MZ ??|Ii ?"))):tactic)
def mZ:PSt:=
 (aj (xIf (qOf (pOp bEq (pFn bB (aa (af 0) ag)) (ah 0))) (aq (cU (aa (ah 0) (aa (ah 0) (aa (af 1) ag))))) xNx)
  (aq (cU (aa (pOp bIx (af 0) (pOp cH (af 1) (pFn bB (aa (af 0) ag)))) (aa (ah 0) (aa (af 1) ag))))))
def dJ:PFn:=fnP [false,false] 2 mZ
def uR:dJ.ms=[false,false]:=rfl
def rb(T:TT K mg):Callee P w K mg base "_law_feed" 1 ["_law_script", "_law_k"] (sp3 K mg dJ):=okP (T.d.get 70 rfl) (au (N:=["_law_script", "_law_k"]) (by decide)) (λ_ _ _ _ _ _=>ar2 λ_ _=>rfl) λnd _ _ _ _ _ _ _ hr=>'d'
def ni:PSt:=
 (aj (tZ 0 seL (ah 1) (pOp aH (pOp bIx (af 0) (ah 1)) (ah 1)))
  (aj (xIf (qOf (pOp bGe (pOp bIx (af 0) (ah 0)) (pOp eA (ah 10) (ah 18)))) (aj (aw false 2 (pOp cH (pOp bIx (af 0) (ah 0)) (af 1)))
  (aj (tZ 0 seL (ah 0) (pOp jB (pOp bIx (af 0) (ah 0)) (af 1)))
  (aq (af 2)))) xNx)
  (aj (aw false 3 (pOp aH (pOp aH (pOp cH (pOp bIx (af 0) (ah 0)) (ah 1000003)) (pOp aY (ah 7919) (pOp bIx (af 0) (ah 2)))) (pOp aY (ah 104729) (pOp bIx (af 0) (ah 1)))))
  (aj (aw false 3 (pOp cH (pOp aY (af 3) (ah 48271)) (ah 2147483647)))
  (aq (pOp cH (pOp cH (pOp aY (af 3) (pOp aH (pOp cH (af 3) (ah 65521)) (pOp bIx (af 0) (ah 1)))) (ah 2147483629)) (af 1)))))))
def ak:PFn:=fnP [true,false] 4 ni
def uM:ak.ms=[true,false]:=rfl
def tY(T:TT K mg):Callee P w K mg base "_law_next" 1 ["_law_feed_here", "_law_many"] (sp3 K mg ak):=okP (T.d.get 71 rfl) (au (N:=["_law_feed_here", "_law_many", "_law_digit", "_law_mixed"]) (by decide)) (λ_ _ _ _ _ _=>ar2 λ_ _=>rfl) λnd _ _ _ _ _ _ _ hr=>'d'
def gJ:PSt:=
 (fU 2 3 (aa (af 3) (aa (pOp cH (af 2) (af 3)) ag)))
def ph:PSt:=
 (aj (fU 2 3 (aa (pFn c9 (aa (af 0) ag)) (aa (pFn c9 (aa (af 1) ag)) ag)))
  (aj (xWh (qOf (pOp bGt (af 3) (ah 0))) (gJ))
  (aj (xIf (qOf (pOp bLt (af 1) (ah 0))) (aw false 2 (pOp d8 (ah 0) (af 2))) xNx)
  (aq (ba (aa (pOp jB (af 0) (af 2)) (aa (pOp jB (af 1) (af 2)) ag)))))))
def bj:PFn:=fnP [false,false] 4 ph
def xk:bj.ms=[false,false]:=rfl
def uD(T:TT K mg):Callee P w K mg base "_law_low" 1 ["_law_top", "_law_bottom"] (sp3 K mg bj):=okP (T.d.get 73 rfl) (au (N:=["_law_top", "_law_bottom", "_law_one", "_law_two"]) (by decide)) (λ_ _ _ _ _ _=>ar2 λ_ _=>rfl) λnd _ _ _ _ _ _ _ hr=>'d'
def j5:PSt:=
 (aw false 2 (pOp aH (pOp aY (af 2) (pOp eA (ah 10) (ah 6))) (ai ak (aa (af 0) (aa (pOp eA (ah 10) (ah 6)) ag)))))
def kX:PSt:=
 (aj (aw false 2 (ah 0))
  (aj (hE (kI (aa (ah 6) ag)) (gtN 3) (j5))
  (aq (pOp d8 (pOp cH (af 2) (pOp aH (pOp aY (ah 2) (af 1)) (ah 1))) (af 1)))))
def bD:PFn:=fnP [true,false] 4 kX
def sV:bD.ms=[true,false]:=rfl
def pP(T:TT K mg):Callee P w K mg base "_law_great" 2 ["_law_feed_here", "_law_far"] (sp3 K mg bD):=okP (T.d.get 72 rfl) (au (N:=["_law_feed_here", "_law_far", "_law_number", "_law_k"]) (by decide)) (λ_ _ _ _ _ _=>ar2 λ_ _=>rfl) λnd _ _ _ _ _ _ _ hr=>'d'
def ju:PSt:=
 (aj (aw false 1 (ai ak (aa (af 0) (aa (ah 6) ag))))
  (aj (fU 2 3 (aa (ba (aa (pOp d8 (ai ak (aa (af 0) (aa (ah 19) ag))) (ah 9)) (aa (ah 1) ag))) (aa (ba (aa (pOp d8 (ai ak (aa (af 0) (aa (ah 19) ag))) (ah 9)) (aa (ah 1) ag))) ag)))
  (aj (fU 4 5 (aa (ba (aa (pOp aH (ah 1) (ai ak (aa (af 0) (aa (ah 12) ag)))) (aa (ah 1) ag))) (aa (ba (aa (pOp aH (ah 1) (ai ak (aa (af 0) (aa (ah 12) ag)))) (aa (ah 1) ag))) ag)))
  (aj (xIf (qOf (pOp bEq (af 1) (ah 1))) (aw false 5 (af 4)) xNx)
  (aj (xIf (qOf (pOp bEq (af 1) (ah 2))) (aw false 4 (ba (aa (pOp aH (ah 1) (ai ak (aa (af 0) (aa (ah 99) ag)))) (aa (ah 1) ag)))) xNx)
  (aj (xIf (qOf (pOp bEq (af 1) (ah 3))) (aw false 5 (ba (aa (pOp aH (ah 1) (ai ak (aa (af 0) (aa (ah 99) ag)))) (aa (ah 1) ag)))) xNx)
  (aj (xIf (qOf (pOp bEq (af 1) (ah 4))) (aj (fU 2 3 (aa (ai bj (aa (pOp d8 (ai ak (aa (af 0) (aa (ah 199) ag))) (ah 99)) (aa (pOp aH (ah 1) (ai ak (aa (af 0) (aa (ah 30) ag)))) ag))) (aa (ai bj (aa (ai ak (aa (af 0) (aa (ah 9) ag))) (aa (ah 7) ag))) ag)))
  (fU 4 5 (aa (ai bj (aa (pOp aH (ah 1) (ai ak (aa (af 0) (aa (ah 99) ag)))) (aa (pOp aH (ah 1) (ai ak (aa (af 0) (aa (ah 30) ag)))) ag))) (aa (ai bj (aa (pOp aH (ah 1) (ai ak (aa (af 0) (aa (ah 99) ag)))) (aa (ah 11) ag))) ag)))) xNx)
  (aj (xIf (qOf (pOp bEq (af 1) (ah 5))) (aj (aw false 6 (pOp d8 (pOp eA (ah 10) (ah 30)) (ah 1)))
  (aj (fU 2 3 (aa (ai bj (aa (ai bD (aa (af 0) (aa (af 6) ag))) (aa (pOp aH (ah 1) (pFn c9 (aa (ai bD (aa (af 0) (aa (pOp d8 (af 6) (ah 1)) ag))) ag))) ag))) (aa (ba (aa (ai bD (aa (af 0) (aa (af 6) ag))) (aa (ah 1) ag))) ag)))
  (fU 4 5 (aa (ba (aa (pOp aH (ah 1) (pFn c9 (aa (ai bD (aa (af 0) (aa (pOp d8 (af 6) (ah 1)) ag))) ag))) (aa (ah 1) ag))) (aa (ai bj (aa (pOp aH (ah 1) (pFn c9 (aa (ai bD (aa (af 0) (aa (pOp d8 (af 6) (ah 1)) ag))) ag))) (aa (af 6) ag))) ag))))) xNx)
  (aq (ba (aa (af 2) (aa (af 3) (aa (af 4) (aa (af 5) ag))))))))))))))
def fO:PFn:=fnP [true] 7 ju
def uK:fO.ms=[true]:=rfl
def tW(T:TT K mg):Callee P w K mg base "_law_room" 3 ["_law_feed_here"] (sp3 K mg fO):=okP (T.d.get 74 rfl) (au (N:=["_law_feed_here", "_law_way", "_law_left", "_law_top", "_law_wide", "_law_high", "_law_far"]) (by decide)) (λ_ _ _ _ _ _=>ar1 λ_=>rfl) λnd _ _ _ _ _ _ _ hr=>'d'
def eK:PSt:=
 (aj (aw true 3 (ai dJ (aa (af 0) (aa (pOp aH (pOp aH (af 1) (ah 1)) (af 9)) ag))))
  (aj (aw false 10 (pOp bIx (cU (aa (ah 1) (aa (pOp aH (ah 1) (ai ak (aa (af 3) (aa (ah 9) ag)))) (aa (pOp rA (ah 1) (pOp cH (af 9) (af 8))) (aa (pOp aH (ah 1) (ai ak (aa (af 3) (aa (ah 9) ag)))) (aa (ah 1) (aa (pOp aH (ah 1) (ai ak (aa (af 3) (aa (ah 3) ag)))) ag))))))) (af 6)))
  (aj (xIf (qAn (qOf (pOp bEq (af 6) (ah 3))) (qOf (pOp bEq (ai ak (aa (af 3) (aa (ah 4) ag))) (ah 0)))) (aw false 10 (pOp aH (pOp eA (ah 10) (ah 29)) (ai ak (aa (af 3) (aa (ah 100) ag))))) xNx)
  (aj (xIf (qOf (pOp bEq (af 6) (ah 4))) (aw false 10 (pOp aH (ah 1) (pFn c9 (aa (ai bD (aa (af 3) (aa (pOp d8 (pOp eA (ah 10) (ah 30)) (ah 2)) ag))) ag)))) xNx)
  (aK (kq 7 gf (aa (af 10) ag)))))))
def gB:PSt:=
 (aj (aw true 3 (ai dJ (aa (af 0) (aa (af 1) ag))))
  (aj (aw false 4 (pOp aH (ah 1) (ai ak (aa (af 3) (aa (pFn ud (aa (af 2) (aa (ah 7) ag))) ag)))))
  (aj (aw false 5 (ai ak (aa (af 3) (aa (ah 6) ag))))
  (aj (xIf (qOf (pOp bLt (af 5) (ah 2))) (aw false 4 (pOp bIx (cU (aa (af 2) (aa (pFn tS (aa (ah 1) (aa (pOp jB (pOp aY (af 4) (af 2)) (ah 8)) ag))) ag))) (af 5))) xNx)
  (aj (aw false 6 (ai ak (aa (af 3) (aa (ah 6) ag))))
  (aj (xIf (qOf (pOp bGt (af 4) (ah 9))) (aw false 6 (pOp cH (af 6) (ah 3))) xNx)
  (aj (aw true 7 (cU ag))
  (aj (aw false 8 (pOp bIx (cU (aa (ah 24) (aa (ah 4) ag))) (pFn qI (aa (pOp bGt (af 4) (ah 9)) ag))))
  (aj (hE (kI (aa (af 4) ag)) (gtN 9) (eK))
  (aq (af 7)))))))))))
def dP:PFn:=fnP [false,false,false] 11 gB
def oF:dP.ms=[false,false,false]:=rfl
def nH(T:TT K mg):Callee P w K mg base "_law_weights" 3 ["_law_script", "_law_at", "_law_most"] (sp3 K mg dP):=okP (T.d.get 75 rfl) (au (N:=["_law_script", "_law_at", "_law_most", "_law_feed_here", "_law_many", "_law_more", "_law_style", "_law_some", "_law_high", "_law_k", "_law_weight"]) (by decide)) (λ_ _ _ _ _ _=>ar3 λ_ _ _=>rfl) λnd _ _ _ _ _ _ _ hr=>'d'
def pF:PSt:=
 (aq (ai bj (aa (pOp aH (pOp aY (pOp bIx (af 0) (ah 0)) (pOp bIx (af 1) (ah 1))) (pOp aY (pOp bIx (af 1) (ah 0)) (pOp bIx (af 0) (ah 1)))) (aa (pOp aY (pOp bIx (af 0) (ah 1)) (pOp bIx (af 1) (ah 1))) ag))))
def dD:PFn:=fnP [false,false] 2 pF
def xf:dD.ms=[false,false]:=rfl
def uQ(T:TT K mg):Callee P w K mg base "_law_add" 2 ["_law_one", "_law_two"] (sp3 K mg dD):=okP (T.d.get 76 rfl) (au (N:=["_law_one", "_law_two"]) (by decide)) (λ_ _ _ _ _ _=>ar2 λ_ _=>rfl) λnd _ _ _ _ _ _ _ hr=>'d'
def gK:PSt:=
 (aq (jA (pFn (bA cp) (aa (af 0) (aa (pTy "int") ag))) (CL (pFn (bA cp) (aa (af 0) (aa (pTy "bool") ag))))))
def a9:PFn:=fnP [false] 1 gK
def uN:a9.ms=[false]:=rfl
def qT(T:TT K mg):Callee P w K mg base "is_whole" 1 ["thing"] (sp3 K mg a9):=okP (T.d.get 10 rfl) (au (N:=["thing"]) (by decide)) (λ_ _ _ _ _ _=>ar1 λ_=>rfl) λnd _ _ _ _ _ _ _ hr=>'d'
def jN:PSt:=
 (aj (xIf (qOf (ai a9 (aa (af 0) ag))) (aq (ba (aa (af 0) (aa (ah 1) ag)))) xNx)
  (aq (af 0)))
def bJ:PFn:=fnP [false] 1 jN
def nX:bJ.ms=[false]:=rfl
def nv(T:TT K mg):Callee P w K mg base "as_fraction" 2 ["thing"] (sp3 K mg bJ):=okP (T.d.get 29 rfl) (au (N:=["thing"]) (by decide)) (λ_ _ _ _ _ _=>ar1 λ_=>rfl) λnd _ _ _ _ _ _ _ hr=>'d'
def da:PSt:=
 (fU 0 1 (aa (af 1) (aa (pOp cH (af 0) (af 1)) ag)))
def gY:PSt:=
 (aj (fU 0 1 (aa (pFn c9 (aa (af 0) ag)) (aa (pFn c9 (aa (af 1) ag)) ag)))
  (aj (xWh (qOf (pOp bNe (af 1) (ah 0))) (da))
  (aq (af 0))))
def bP:PFn:=fnP [false,false] 2 gY
def kT:bP.ms=[false,false]:=rfl
def j8(T:TT K mg):Callee P w K mg base "common_divisor" 1 ["one", "other"] (sp3 K mg bP):=okP (T.d.get 11 rfl) (au (N:=["one", "other"]) (by decide)) (λ_ _ _ _ _ _=>ar2 λ_ _=>rfl) λnd _ _ _ _ _ _ _ hr=>'d'
def jL:PSt:=
 (aj (xIf (qO (qNo (qOf (pFn (bA cp) (aa (af 0) (aa (pTy "tuple") ag))))) (qOf (pOp bNe (pFn bB (aa (af 0) ag)) (ah 2)))) (aq (pBl false)) xNx)
  (aj (kQ (af 0) (gtX (gtT 2 (aV (gtN 1) (aV (gtN 2) dO)))))
  (aj (xIf (qO (qNo (qOf (ai a9 (aa (af 1) ag)))) (qNo (qOf (ai a9 (aa (af 2) ag))))) (aq (pBl false)) xNx)
  (aq (jA (pOp bGe (af 2) (ah 1)) (pOp bEq (ai bP (aa (af 1) (aa (af 2) ag))) (ah 1)))))))
def cQ:PFn:=fnP [false] 3 jL
def oq:cQ.ms=[false]:=rfl
def my(T:TT K mg):Callee P w K mg base "is_fraction" 2 ["thing"] (sp3 K mg cQ):=okP (T.d.get 12 rfl) (au (N:=["thing", "top", "bottom"]) (by decide)) (λ_ _ _ _ _ _=>ar1 λ_=>rfl) λnd _ _ _ _ _ _ _ hr=>'d'
def t9:PSt:=
 (aj (xIf (qO (qNo (qOf (pFn (bA cp) (aa (af 0) (aa (pTy "tuple") ag))))) (qOf (pOp bNe (pFn bB (aa (af 0) ag)) (ah 4)))) (aq (pBl false)) xNx)
  (aj (xIf (qNo (qOf (pFn qK (aa (pLC (cq (af 0)) [none] (by decide) (gtN 0) qY (ai cQ (aa (af 0) ag))) ag)))) (aq (pBl false)) xNx)
  (aq (jA (pOp bGt (pOp bIx (pOp bIx (af 0) (ah 2)) (ah 0)) (ah 0)) (pOp bGt (pOp bIx (pOp bIx (af 0) (ah 3)) (ah 0)) (ah 0))))))
def g6:PFn:=fnP [false] 1 t9
def Ao:g6.ms=[false]:=rfl
def yg(T:TT K mg):Callee P w K mg base "is_box" 3 ["thing"] (sp3 K mg g6):=okP (T.d.get 22 rfl) (au (N:=["thing"]) (by decide)) (λ_ _ _ _ _ _=>ar1 λ_=>rfl) λnd _ _ _ _ _ _ _ hr=>(ao 'd' (ao (kD (rW (uw (hZ (allK (K:=K) rfl rfl) zu rfl (T.n rfl) (by first |exact boF rfl |exact boT rfl) (br (gF ["thing"] (ar (top 22)).names ["part"] [none] 'd' (λnd _ _ _ _ _=>'d') (λ_ _ _ _ _ _=>bO) (λnd _ _ _ _ _=>'d')) 'd')))) 'd' 'd') 'd'))
def kY:PSt:=
 (xIf (qNo (qOf (ai g6 (aa (af 0) ag)))) (fh "NoBox" (aa (cG "this is no box") ag)) xNx)
def aF:PFn:=fnP [false] 1 kY
def sr:aF.ms=[false]:=rfl
def pI(T:TT K mg):Callee P w K mg base "check_box" 4 ["thing"] (sp3 K mg aF):=okP (T.d.get 23 rfl) (au (N:=["thing"]) (by decide)) (λ_ _ _ _ _ _=>ar1 λ_=>rfl) λnd _ _ _ _ _ _ _ hr=>'d'
def sx:PSt:=
 (aj (aw false 4 (ba (aa (ai bJ (aa (af 0) ag)) (aa (ai bJ (aa (af 1) ag)) (aa (ai bJ (aa (af 2) ag)) (aa (ai bJ (aa (af 3) ag)) ag))))))
  (aj (aK (ai aF (aa (af 4) ag)))
  (aq (af 4))))
def ig:PFn:=fnP [false,false,false,false] 5 sx
def AY:ig.ms=[false,false,false,false]:=rfl
def xG(T:TT K mg):Callee P w K mg base "box_of" 5 ["left", "top", "wide", "high"] (sp3 K mg ig):=okP (T.d.get 30 rfl) (au (N:=["left", "top", "wide", "high", "box"]) (by decide)) (λ_ _ _ _ _ _=>ar4 λ_ _ _ _=>rfl) λnd _ _ _ _ _ _ _ hr=>'d'
def lb:PSt:=
 (aq (ai bj (aa (pOp aY (pOp bIx (af 0) (ah 0)) (pOp bIx (af 1) (ah 0))) (aa (pOp aY (pOp bIx (af 0) (ah 1)) (pOp bIx (af 1) (ah 1))) ag))))
def cA:PFn:=fnP [false,false] 2 lb
def sk:cA.ms=[false,false]:=rfl
def qa(T:TT K mg):Callee P w K mg base "_law_times" 2 ["_law_one", "_law_two"] (sp3 K mg cA):=okP (T.d.get 78 rfl) (au (N:=["_law_one", "_law_two"]) (by decide)) (λ_ _ _ _ _ _=>ar2 λ_ _=>rfl) λnd _ _ _ _ _ _ _ hr=>'d'
def lu:PSt:=
 (aq (jA (ai a9 (aa (af 0) ag)) (pOp bGe (af 0) (ah 1))))
def dZ:PFn:=fnP [false] 1 lu
def qU:dZ.ms=[false]:=rfl
def pW(T:TT K mg):Callee P w K mg base "is_weight" 2 ["thing"] (sp3 K mg dZ):=okP (T.d.get 27 rfl) (au (N:=["thing"]) (by decide)) (λ_ _ _ _ _ _=>ar1 λ_=>rfl) λnd _ _ _ _ _ _ _ hr=>'d'
def iD:PSt:=
 (aj (xIf (qO (qNo (qOf (pFn (bA cp) (aa (af 0) (aa (pTy "list") ag))))) (qOf (pOp bEq (pFn bB (aa (af 0) ag)) (ah 0)))) (fh "NoWeights" (aa (cG "this is no list of weights") ag)) xNx)
  (aj (xIf (qNo (qOf (pFn qK (aa (pLC (cq (af 0)) [none] (by decide) (gtN 0) qY (ai dZ (aa (af 0) ag))) ag)))) (fh "NoWeights" (aa (cG "a weight is a whole number from 1 on") ag)) xNx)
  (xIf (qOf (pOp bGt (pFn bB (aa (af 0) ag)) ir)) (fh "TooMany" (aa (cG "these are more weights than forty") ag)) xNx)))
def aC:PFn:=fnP [false] 1 iD
def lA:aC.ms=[false]:=rfl
def kR(T:TT K mg):Callee P w K mg base "check_weights" 3 ["thing"] (sp3 K mg aC):=okP (T.d.get 28 rfl) (au (N:=["thing"]) (by decide)) (λ_ _ _ _ _ _=>ar1 λ_=>rfl) λnd _ _ _ _ _ _ _ hr=>(ao 'd' (ao (kD (rW (uw (hZ (allK (K:=K) rfl rfl) zu rfl (T.n rfl) (by first |exact boF rfl |exact boT rfl) (br (gF ["thing"] (ar (top 28)).names ["weight"] [none] 'd' (λnd _ _ _ _ _=>'d') (λ_ _ _ _ _ _=>bO) (λnd _ _ _ _ _=>'d')) 'd')))) 'd' 'd') 'd'))
def pC:PSt:=
 (aq (pOp bLt (pOp aY (pOp bIx (af 0) (ah 0)) (pOp bIx (af 1) (ah 1))) (pOp aY (pOp bIx (af 1) (ah 0)) (pOp bIx (af 0) (ah 1)))))
def eg:PFn:=fnP [false,false] 2 pC
def yn:eg.ms=[false,false]:=rfl
def uI(T:TT K mg):Callee P w K mg base "is_less" 1 ["one", "other"] (sp3 K mg eg):=okP (T.d.get 17 rfl) (au (N:=["one", "other"]) (by decide)) (λ_ _ _ _ _ _=>ar2 λ_ _=>rfl) λnd _ _ _ _ _ _ _ hr=>'d'
def eI:PSt:=
 (xIf (qOf (ai eg (aa (af 1) (aa (af 2) ag)))) (aw false 1 (af 2)) xNx)
def jI:PSt:=
 (aj (aw false 1 (pOp bIx (af 0) (ah 0)))
  (aj (hE (cq (af 0)) (gtN 2) (eI))
  (aq (af 1))))
def bp:PFn:=fnP [false] 3 jI
def nT:bp.ms=[false]:=rfl
def fG(T:TT K mg):Callee P w K mg base "greatest_of" 2 ["fractions"] (sp3 K mg bp):=okP (T.d.get 18 rfl) (au (N:=["fractions", "found", "one"]) (by decide)) (λ_ _ _ _ _ _=>ar1 λ_=>rfl) λnd _ _ _ _ _ _ _ hr=>'d'
def mR:PSt:=
 (aj (xIf (qOf (pOp bEq (af 1) (ah 0))) (fh "NoFraction" (aa (cG "a fraction has no bottom of 0") ag)) xNx)
  (aj (aw false 2 (ai bP (aa (af 0) (aa (af 1) ag))))
  (aj (xIf (qOf (pOp bLt (af 1) (ah 0))) (aw false 2 (pUn By (af 2))) xNx)
  (aq (ba (aa (pOp jB (af 0) (af 2)) (aa (pOp jB (af 1) (af 2)) ag)))))))
def bq:PFn:=fnP [false,false] 3 mR
def uG:bq.ms=[false,false]:=rfl
def rJ(T:TT K mg):Callee P w K mg base "fraction" 2 ["top", "bottom"] (sp3 K mg bq):=okP (T.d.get 13 rfl) (au (N:=["top", "bottom", "divisor"]) (by decide)) (λ_ _ _ _ _ _=>ar2 λ_ _=>rfl) λnd _ _ _ _ _ _ _ hr=>'d'
def vo:PSt:=
 (aq (ai bq (aa (pOp aY (pOp bIx (af 0) (ah 0)) (pOp bIx (af 1) (ah 0))) (aa (pOp aY (pOp bIx (af 0) (ah 1)) (pOp bIx (af 1) (ah 1))) ag))))
def gc:PFn:=fnP [false,false] 2 vo
def BF:gc.ms=[false,false]:=rfl
def yD(T:TT K mg):Callee P w K mg base "times" 3 ["one", "other"] (sp3 K mg gc):=okP (T.d.get 15 rfl) (au (N:=["one", "other"]) (by decide)) (λ_ _ _ _ _ _=>ar2 λ_ _=>rfl) λnd _ _ _ _ _ _ _ hr=>'d'
def ml:PSt:=
 (aj (aK (ai aF (aa (af 0) ag)))
  (aj (xIf (qOf (ai eg (aa (pOp bIx (af 0) (ah 2)) (aa (pOp bIx (af 0) (ah 3)) ag)))) (aq (cG "down")) xNx)
  (aq (cG "across"))))
def bQ:PFn:=fnP [false] 1 ml
def uW:bQ.ms=[false]:=rfl
def rX(T:TT K mg):Callee P w K mg base "long_way" 5 ["box"] (sp3 K mg bQ):=okP (T.d.get 31 rfl) (au (N:=["box"]) (by decide)) (λ_ _ _ _ _ _=>ar1 λ_=>rfl) λnd _ _ _ _ _ _ _ hr=>'d'
def Am:PSt:=
 (aq (ai bq (aa (pOp aY (pOp bIx (af 0) (ah 0)) (pOp bIx (af 1) (ah 1))) (aa (pOp aY (pOp bIx (af 0) (ah 1)) (pOp bIx (af 1) (ah 0))) ag))))
def je:PFn:=fnP [false,false] 2 Am
def Gy:je.ms=[false,false]:=rfl
def CB(T:TT K mg):Callee P w K mg base "over" 3 ["one", "other"] (sp3 K mg je):=okP (T.d.get 16 rfl) (au (N:=["one", "other"]) (by decide)) (λ_ _ _ _ _ _=>ar2 λ_ _=>rfl) λnd _ _ _ _ _ _ _ hr=>'d'
def vd:PSt:=
 (aj (xIf (qOf (pOp bEq (ai bQ (aa (af 0) ag)) (cG "across"))) (aq (ai je (aa (pOp bIx (af 0) (ah 2)) (aa (pOp bIx (af 0) (ah 3)) ag)))) xNx)
  (aq (ai je (aa (pOp bIx (af 0) (ah 3)) (aa (pOp bIx (af 0) (ah 2)) ag)))))
def dn:PFn:=fnP [false] 1 vd
def Ct:dn.ms=[false]:=rfl
def zO(T:TT K mg):Callee P w K mg base "shape" 6 ["box"] (sp3 K mg dn):=okP (T.d.get 32 rfl) (au (N:=["box"]) (by decide)) (λ_ _ _ _ _ _=>ar1 λ_=>rfl) λnd _ _ _ _ _ _ _ hr=>'d'
def nz:PSt:=
 (aq (ai gc (aa (ai dn (aa (af 0) ag)) (aa (ai bq (aa (af 1) (aa (af 2) ag))) ag))))
def eJ:PFn:=fnP [false,false,false] 3 nz
def uT:eJ.ms=[false,false,false]:=rfl
def ui(T:TT K mg):Callee P w K mg base "thinness" 7 ["room", "weight", "whole"] (sp3 K mg eJ):=okP (T.d.get 65 rfl) (au (N:=["room", "weight", "whole"]) (by decide)) (λ_ _ _ _ _ _=>ar3 λ_ _ _=>rfl) λnd _ _ _ _ _ _ _ hr=>'d'
def mr:PSt:=
 (aj (aK (ai aF (aa (af 0) ag)))
  (aj (aK (ai aC (aa (af 1) ag)))
  (aq (ai bp (aa (pOp aH (cU (aa (ba (aa (ah 1) (aa (ah 1) ag))) ag)) (pLC (cq (af 1)) [none,some 0,some 1] (by decide) (gtN 0) qY (ai eJ (aa (af 1) (aa (af 0) (aa (pFn bX (aa (af 2) ag)) ag)))))) ag)))))
def eL:PFn:=fnP [false,false] 2 mr
def uF:eL.ms=[false,false]:=rfl
def tV(T:TT K mg):Callee P w K mg base "floor_of" 8 ["room", "weights"] (sp3 K mg eL):=okP (T.d.get 66 rfl) (au (N:=["room", "weights"]) (by decide)) (λ_ _ _ _ _ _=>ar2 λ_ _=>rfl) λnd _ _ _ _ _ _ _ hr=>(ao 'd' (ao 'd' (du (eX (zcF (fG T) hr (br (Es (AS (K:=K) rfl) zy 'd' (gF ["room", "weights"] (ar (top 66)).names ["weight", "room", "weights"] [none,some 0,some 1] 'd' (λnd _ _ _ _ _=>'d') (λ_ _ _ _ _ _=>bO) (λnd _ _ _ _ _=>'d'))) 'd'))))))
def ki:PSt:=
 (xIf (qOf (pOp xo (af 0) lQ)) (fh "NoRule" (aa (cG "this is no rule") ag)) xNx)
def cE:PFn:=fnP [false] 1 ki
def pZ:cE.ms=[false]:=rfl
def oB(T:TT K mg):Callee P w K mg base "check_rule" 1 ["rule"] (sp3 K mg cE):=okP (T.d.get 54 rfl) (au (N:=["rule"]) (by decide)) (λ_ _ _ _ _ _=>ar1 λ_=>rfl) λnd _ _ _ _ _ _ _ hr=>'d'
def gG:PSt:=
 (aj (aw false 1 (pLC (yA (aa (ah 1) (aa (pFn bB (aa (af 0) ag)) ag))) [none,some 0] (by decide) (gtN 0) qY (pFn c9 (aa (pOp d8 (pOp aY (ah 2) (pFn bX (aa (pSl (af 1) oN (oS (af 0))) ag))) (pFn bX (aa (af 1) ag))) ag))))
  (aq (pOp aH (qG gR (af 1) (aa (pFn nK (aa (af 1) ag)) ag)) (ah 1))))
def bI:PFn:=fnP [false] 2 gG
def jP:bI.ms=[false]:=rfl
def fR(T:TT K mg):Callee P w K mg base "nearest_to_half" 1 ["weights"] (sp3 K mg bI):=okP (T.d.get 61 rfl) (au (N:=["weights", "apart"]) (by decide)) (λ_ _ _ _ _ _=>ar1 λ_=>rfl) λnd _ _ _ _ _ _ _ hr=>(ao (BX nd ["weights", "apart"] (ar (top 61)).names ["many", "weights"] [none,some 0] 'd' (λnd _ _ _ _ _=>'d') (λ_ _ _ _ _ _=>bO) (λnd _ _ _ _ _=>'d')) 'd')
def cS:PSt:=
 (sX 1 uf (ah 1))
def gH:PSt:=
 (aj (aw false 1 (ah 1))
  (aj (xWh (qOf (pOp bLt (pOp aY (ah 3) (pFn bX (aa (pSl (af 0) oN (oS (af 1))) ag))) (pFn bX (aa (af 0) ag)))) (cS))
  (aq (af 1))))
def bG:PFn:=fnP [false] 2 gH
def ka:bG.ms=[false]:=rfl
def fQ(T:TT K mg):Callee P w K mg base "fewest_to_third" 1 ["weights"] (sp3 K mg bG):=okP (T.d.get 62 rfl) (au (N:=["weights", "many"]) (by decide)) (λ_ _ _ _ _ _=>ar1 λ_=>rfl) λnd _ _ _ _ _ _ _ hr=>'d'
def l9:PSt:=
 (aq (jA (pFn (bA cp) (aa (af 0) (aa (pTy "str") ag))) (pOp bIn (af 0) oQ)))
def d9:PFn:=fnP [false] 1 l9
def zi:d9.ms=[false]:=rfl
def xZ(T:TT K mg):Callee P w K mg base "is_way" 1 ["thing"] (sp3 K mg d9):=okP (T.d.get 24 rfl) (au (N:=["thing"]) (by decide)) (λ_ _ _ _ _ _=>ar1 λ_=>rfl) λnd _ _ _ _ _ _ _ hr=>'d'
def lj:PSt:=
 (xIf (qNo (qOf (ai d9 (aa (af 0) ag)))) (fh "NoWay" (aa (cG "this is no way") ag)) xNx)
def fg:PFn:=fnP [false] 1 lj
def rz:fg.ms=[false]:=rfl
def pM(T:TT K mg):Callee P w K mg base "check_way" 2 ["way"] (sp3 K mg fg):=okP (T.d.get 25 rfl) (au (N:=["way"]) (by decide)) (λ_ _ _ _ _ _=>ar1 λ_=>rfl) λnd _ _ _ _ _ _ _ hr=>'d'
def vf:PSt:=
 (aq (ai bq (aa (pOp aH (pOp aY (pOp bIx (af 0) (ah 0)) (pOp bIx (af 1) (ah 1))) (pOp aY (pOp bIx (af 1) (ah 0)) (pOp bIx (af 0) (ah 1)))) (aa (pOp aY (pOp bIx (af 0) (ah 1)) (pOp bIx (af 1) (ah 1))) ag))))
def jf:PFn:=fnP [false,false] 2 vf
def BO:jf.ms=[false,false]:=rfl
def AV(T:TT K mg):Callee P w K mg base "added" 3 ["one", "other"] (sp3 K mg jf):=okP (T.d.get 14 rfl) (au (N:=["one", "other"]) (by decide)) (λ_ _ _ _ _ _=>ar2 λ_ _=>rfl) λnd _ _ _ _ _ _ _ hr=>'d'
def iA:PSt:=
 (aj (aw false 7 (ai jf (aa (af 0) (aa (ai gc (aa (af 1) (aa (ai bq (aa (af 4) (aa (af 3) ag))) ag))) ag))))
  (aj (aK (kq 5 gf (aa (ba (aa (af 7) (aa (ai gc (aa (af 1) (aa (ai bq (aa (af 6) (aa (af 3) ag))) ag))) ag))) ag)))
  (sX 4 uf (af 6))))
def sQ:PSt:=
 (aj (aw false 3 (pFn bX (aa (af 2) ag)))
  (aj (aw false 4 (ah 0))
  (aj (aw true 5 (cU ag))
  (aj (hE (cq (af 2)) (gtN 6) (iA))
  (aq (af 5))))))
def fS:PFn:=fnP [false,false,false] 8 sQ
def AJ:fS.ms=[false,false,false]:=rfl
def yc(T:TT K mg):Callee P w K mg base "shares" 4 ["start", "length", "weights"] (sp3 K mg fS):=okP (T.d.get 33 rfl) (au (N:=["start", "length", "weights", "whole", "ahead", "found", "weight", "begin"]) (by decide)) (λ_ _ _ _ _ _=>ar3 λ_ _ _=>rfl) λnd _ _ _ _ _ _ _ hr=>'d'
def rN:PSt:=
 (aj (aK (ai aF (aa (af 0) ag)))
  (aj (aK (ai fg (aa (af 1) ag)))
  (aj (aK (ai aC (aa (af 2) ag)))
  (aj (kQ (af 0) (gtX (gtT 4 (aV (gtN 3) (aV (gtN 4) (aV (gtN 5) (aV (gtN 6) dO)))))))
  (aj (xIf (qOf (pOp bEq (af 1) (cG "across"))) (aq (pLC (cq (ai fS (aa (af 3) (aa (af 5) (aa (af 2) ag))))) [none,none,some 4,some 6] (by decide) (gtT 2 (aV (gtN 0) (aV (gtN 1) dO))) qY (ba (aa (af 0) (aa (af 2) (aa (af 1) (aa (af 3) ag))))))) xNx)
  (aq (pLC (cq (ai fS (aa (af 4) (aa (af 6) (aa (af 2) ag))))) [none,none,some 3,some 5] (by decide) (gtT 2 (aV (gtN 0) (aV (gtN 1) dO))) qY (ba (aa (af 2) (aa (af 0) (aa (af 3) (aa (af 1) ag))))))))))))
def eE:PFn:=fnP [false,false,false] 7 rN
def Ad:eE.ms=[false,false,false]:=rfl
def nu(T:TT K mg):Callee P w K mg base "parted" 5 ["box", "way", "weights"] (sp3 K mg eE):=okP (T.d.get 34 rfl) (au (N:=["box", "way", "weights", "left", "top", "wide", "high"]) (by decide)) (λ_ _ _ _ _ _=>ar3 λ_ _ _=>rfl) λnd _ _ _ _ _ _ _ hr=>(ao 'd' (ao 'd' (ao 'd' (ao 'd' (ao (kD 'd' (du (eX (gF ["box", "way", "weights", "left", "top", "wide", "high"] (ar (top 34)).names ["begin", "length", "top", "high"] [none,none,some 4,some 6] 'd' (λnd _ _ _ _ _=>'d') (λ_ _ _ _ _ _=>bO) (λnd _ _ _ _ _=>'d')))) 'd') (du (eX (gF ["box", "way", "weights", "left", "top", "wide", "high"] (ar (top 34)).names ["begin", "length", "left", "wide"] [none,none,some 3,some 5] 'd' (λnd _ _ _ _ _=>'d') (λ_ _ _ _ _ _=>bO) (λnd _ _ _ _ _=>'d')))))))))
def kh:PSt:=
 (aq (ai eE (aa (af 0) (aa (ai bQ (aa (af 0) ag)) (aa (cU (aa (pFn bX (aa (pSl (af 1) oN (oS (af 2))) ag)) (aa (pFn bX (aa (pSl (af 1) (oS (af 2)) oN) ag)) ag))) ag)))))
def cD:PFn:=fnP [false,false,false] 3 kh
def pY:cD.ms=[false,false,false]:=rfl
def oG(T:TT K mg):Callee P w K mg base "cut_in_two" 6 ["room", "weights", "many"] (sp3 K mg cD):=okP (T.d.get 35 rfl) (au (N:=["room", "weights", "many"]) (by decide)) (λ_ _ _ _ _ _=>ar3 λ_ _ _=>rfl) λnd _ _ _ _ _ _ _ hr=>'d'
def b8(s:PFx [false,false,false,false]):PSt:=
 (aj (xIf (qOf (pOp bEq (pFn bB (aa (af 1) ag)) (ah 1))) (aq (pOp bIx (af 1) (ah 0))) xNx)
  (aj (aw false 4 (mw [("nearest_to_half",bI),("fewest_to_third",bG)] (af 3) (aa (af 2) ag)))
  (aj (kQ (ai cD (aa (af 0) (aa (af 2) (aa (af 4) ag)))) (gtX (gtU 2 (aV (gtN 5) (aV (gtN 6) dO)))))
  (aj (aw false 7 (ai s.fn (aa (af 5) (aa (pSl (af 1) oN (oS (af 4))) (aa (pSl (af 2) oN (oS (af 4))) (aa (af 3) ag))))))
  (aj (aw false 8 (ai s.fn (aa (af 6) (aa (pSl (af 1) (oS (af 4)) oN) (aa (pSl (af 2) (oS (af 4)) oN) (aa (af 3) ag))))))
  (aq (ba (aa (ai bQ (aa (af 0) ag)) (aa (ba (aa (af 7) (aa (af 8) ag))) ag)))))))))
def aU:Nat->PFx [false,false,false,false]
 |0=>PFx.none [false,false,false,false]
 |n+1=>PFx.of [false,false,false,false] 9 (b8 (aU n))
theorem fu(T:TT K mg):∀n,Callee P w K mg base "tree_in_two" (8+n) ["room", "numbers", "weights", "how_many"] (sp3 K mg (aU n).fn)
 |0=>ok0 (T.d.get 60 rfl) (au (N:=["room", "numbers", "weights", "how_many", "many", "first", "second", "ahead", "behind"]) (by decide)) (λ_ _ _ _ _ _=>ar4 λ_ _ _ _=>rfl)
 |
  n+1=>by
  have ih:=fu T n;show Callee _ _ _ _ _ _ _ _ (sp3 _ _ (PFx.of [false,false,false,false] 9 (b8 (aU n))).fn);exact okX (k:=8+n) (T.d.get 60 rfl) (au (N:=["room", "numbers", "weights", "how_many", "many", "first", "second", "ahead", "behind"]) (by decide)) (λ_ _ _ _ _ _=>ar4 λ_ _ _ _=>rfl) λnd _ _ _ _ _ _ _ hr=>(ao 'd' (ao (zsS 4 nd (Df (vY (fR T) (hr.mono (by omega)) (vY (fQ T) (hr.mono (by omega)) Kd)) 'd' (Ei Eh) 'd')) 'd'))
def jM:PSt:=
 (aj (aK (ai aF (aa (af 0) ag)))
  (aj (aK (ai aC (aa (af 1) ag)))
  (aq (ai (aU 42).fn (aa (af 0) (aa (pFn jG (aa (pFn bB (aa (af 1) ag)) ag)) (aa (af 1) (aa (xN "nearest_to_half") ag))))))))
def b9:PFn:=fnP [false,false] 2 jM
def oI:b9.ms=[false,false]:=rfl
def nC(T:TT K mg):Callee P w K mg base "halves_tree" 51 ["room", "weights"] (sp3 K mg b9):=okP (T.d.get 58 rfl) (au (N:=["room", "weights"]) (by decide)) (λ_ _ _ _ _ _=>ar2 λ_ _=>rfl) λnd _ _ _ _ _ _ _ hr=>'d'
def kW:PSt:=
 (aj (xIf (qOf (pOp bEq (af 0) (cG "across"))) (aq (cG "down")) xNx)
  (aq (cG "across")))
def dY:PFn:=fnP [false] 1 kW
def tO:dY.ms=[false]:=rfl
def pK(T:TT K mg):Callee P w K mg base "other_way" 1 ["way"] (sp3 K mg dY):=okP (T.d.get 26 rfl) (au (N:=["way"]) (by decide)) (λ_ _ _ _ _ _=>ar1 λ_=>rfl) λnd _ _ _ _ _ _ _ hr=>'d'
def i7:PSt:=
 (aj (aw false 3 (af 0))
  (aj (xIf (qOf (pOp bLt (af 2) (pFn bB (aa (af 1) ag)))) (aw false 3 (pOp bIx (ai cD (aa (af 0) (aa (af 1) (aa (af 2) ag)))) (ah 0))) xNx)
  (aj (aw false 4 (ai eE (aa (af 3) (aa (ai dY (aa (ai bQ (aa (af 0) ag)) ag)) (aa (pSl (af 1) oN (oS (af 2))) ag)))))
  (aq (ai bp (aa (pLC (cq (af 4)) [none] (by decide) (gtN 0) qY (ai dn (aa (af 0) ag))) ag))))))
def cC:PFn:=fnP [false,false,false] 5 i7
def m9:cC.ms=[false,false,false]:=rfl
def lP(T:TT K mg):Callee P w K mg base "worst_of_row" 7 ["room", "weights", "many"] (sp3 K mg cC):=okP (T.d.get 43 rfl) (au (N:=["room", "weights", "many", "part", "boxes"]) (by decide)) (λ_ _ _ _ _ _=>ar3 λ_ _ _=>rfl) λnd _ _ _ _ _ _ _ hr=>(ao 'd' (ao 'd' (ao 'd' (du (eX (zcF (fG T) hr (br (gF ["room", "weights", "many", "part", "boxes"] (ar (top 43)).names ["box"] [none] 'd' (λnd _ _ _ _ _=>'d') (λ_ _ _ _ _ _=>bO) (λnd _ _ _ _ _=>'d')) 'd')))))))
def dW:PSt:=
 (aj (aw false 4 (ai cC (aa (af 0) (aa (af 1) (aa (pOp aH (af 2) (ah 1)) ag)))))
  (aj (xIf (qOf (ai eg (aa (af 3) (aa (af 4) ag)))) xBk xNx)
  (aj (aw false 3 (af 4))
  (sX 2 uf (ah 1)))))
def jT:PSt:=
 (aj (aw false 2 (ah 1))
  (aj (aw false 3 (ai cC (aa (af 0) (aa (af 1) (aa (af 2) ag)))))
  (aj (xWh (qOf (pOp bLt (af 2) (pFn bB (aa (af 1) ag)))) (dW))
  (aq (af 2)))))
def eF:PFn:=fnP [false,false] 5 jT
def p9:eF.ms=[false,false]:=rfl
def om(T:TT K mg):Callee P w K mg base "row_length" 8 ["room", "weights"] (sp3 K mg eF):=okP (T.d.get 42 rfl) (au (N:=["room", "weights", "many", "before", "behind"]) (by decide)) (λ_ _ _ _ _ _=>ar2 λ_ _=>rfl) λnd _ _ _ _ _ _ _ hr=>'d'
def jJ:PSt:=
 (aj (xIf (qOf (pOp bEq (pFn bB (aa (af 1) ag)) (ah 1))) (aq (pOp bIx (af 1) (ah 0))) xNx)
  (aq (ba (aa (ai dY (aa (ai bQ (aa (af 0) ag)) ag)) (aa (pFn oh (aa (af 1) ag)) ag)))))
def dU:PFn:=fnP [false,false] 2 jJ
def nY:dU.ms=[false,false]:=rfl
def mC(T:TT K mg):Callee P w K mg base "tree_of_row" 6 ["room", "numbers"] (sp3 K mg dU):=okP (T.d.get 41 rfl) (au (N:=["room", "numbers"]) (by decide)) (λ_ _ _ _ _ _=>ar2 λ_ _=>rfl) λnd _ _ _ _ _ _ _ hr=>'d'
def cB(s:PFx [false,false,false]):PSt:=
 (aj (aw false 3 (ai eF (aa (af 0) (aa (af 2) ag))))
  (aj (aw false 4 (ai dU (aa (af 0) (aa (pSl (af 1) oN (oS (af 3))) ag))))
  (aj (xIf (qOf (pOp bEq (af 3) (pFn bB (aa (af 1) ag)))) (aq (af 4)) xNx)
  (aj (aw false 5 (pOp bIx (ai cD (aa (af 0) (aa (af 2) (aa (af 3) ag)))) (ah 1)))
  (aq (ba (aa (ai bQ (aa (af 0) ag)) (aa (ba (aa (af 4) (aa (ai s.fn (aa (af 5) (aa (pSl (af 1) (oS (af 3)) oN) (aa (pSl (af 2) (oS (af 3)) oN) ag)))) ag))) ag))))))))
def aW:Nat->PFx [false,false,false]
 |0=>PFx.none [false,false,false]
 |n+1=>PFx.of [false,false,false] 6 (cB (aW n))
theorem eU(T:TT K mg):∀n,Callee P w K mg base "tree_of_rows" (10+n) ["room", "numbers", "weights"] (sp3 K mg (aW n).fn)
 |0=>ok0 (T.d.get 40 rfl) (au (N:=["room", "numbers", "weights", "many", "tree", "rest"]) (by decide)) (λ_ _ _ _ _ _=>ar3 λ_ _ _=>rfl)
 |
  n+1=>by
  have ih:=eU T n;show Callee _ _ _ _ _ _ _ _ (sp3 _ _ (PFx.of [false,false,false] 6 (cB (aW n))).fn);exact okX (k:=10+n) (T.d.get 40 rfl) (au (N:=["room", "numbers", "weights", "many", "tree", "rest"]) (by decide)) (λ_ _ _ _ _ _=>ar3 λ_ _ _=>rfl) λnd _ _ _ _ _ _ _ hr=>'d'
def lg:PSt:=
 (aj (aK (ai aF (aa (af 0) ag)))
  (aj (aK (ai aC (aa (af 1) ag)))
  (aq (ai (aW 42).fn (aa (af 0) (aa (pFn jG (aa (pFn bB (aa (af 1) ag)) ag)) (aa (af 1) ag)))))))
def cX:PFn:=fnP [false,false] 2 lg
def rE:cX.ms=[false,false]:=rfl
def pL(T:TT K mg):Callee P w K mg base "rows_tree" 53 ["room", "weights"] (sp3 K mg cX):=okP (T.d.get 37 rfl) (au (N:=["room", "weights"]) (by decide)) (λ_ _ _ _ _ _=>ar2 λ_ _=>rfl) λnd _ _ _ _ _ _ _ hr=>'d'
def dE:PSt:=
 (aq (pFn rB (aa (pFn bB (aa (af 0) ag)) (aa (af 0) ag))))
def aM:PFn:=fnP [false] 1 dE
def i5:aM.ms=[false]:=rfl
def iM(T:TT K mg):Callee P w K mg base "by_falling_weights" 1 ["weights"] (sp3 K mg aM):=okPL (T.d.get 39 rfl) T.l (au (N:=["weights"]) (by decide)) (λ_ _ _ _ _ _=>ar1 λ_=>rfl) λnd _ _ _ _ _ _ _ _ e2 e3 hr=>(du (eX (EM rfl hr.depth rfl (T.n rfl) rfl (T.n rfl) rfl rfl rfl e2 e3 'd')))
def ip:PSt:=
 (aj (aK (ai aF (aa (af 0) ag)))
  (aj (aK (ai aC (aa (af 1) ag)))
  (aj (aw false 2 (ai aM (aa (af 1) ag)))
  (aq (ai (aW 42).fn (aa (af 0) (aa (af 2) (aa (pLC (cq (af 2)) [none,some 1] (by decide) (gtN 0) qY (pOp bIx (af 1) (af 0))) ag))))))))
def bE:PFn:=fnP [false,false] 3 ip
def lK:bE.ms=[false,false]:=rfl
def kU(T:TT K mg):Callee P w K mg base "greatest_tree" 53 ["room", "weights"] (sp3 K mg bE):=okP (T.d.get 38 rfl) (au (N:=["room", "weights", "numbers"]) (by decide)) (λ_ _ _ _ _ _=>ar2 λ_ _=>rfl) λnd _ _ _ _ _ _ _ hr=>(ao 'd' (ao 'd' (ao 'd' (du (eX (zcF (eU T 42) hr (br 'd' (br 'd' (br (gF ["room", "weights", "numbers"] (ar (top 38)).names ["number", "weights"] [none,some 1] 'd' (λnd _ _ _ _ _=>'d') (λ_ _ _ _ _ _=>bO) (λnd _ _ _ _ _=>'d')) 'd')))))))))
def jK:PSt:=
 (aj (aK (ai aF (aa (af 0) ag)))
  (aj (aK (ai aC (aa (af 1) ag)))
  (aj (aw false 2 (ai aM (aa (af 1) ag)))
  (aq (ai (aU 42).fn (aa (af 0) (aa (af 2) (aa (pLC (cq (af 2)) [none,some 1] (by decide) (gtN 0) qY (pOp bIx (af 1) (af 0))) (aa (xN "fewest_to_third") ag)))))))))
def bZ:PFn:=fnP [false,false] 3 jK
def oE:bZ.ms=[false,false]:=rfl
def mi(T:TT K mg):Callee P w K mg base "thirds_tree" 51 ["room", "weights"] (sp3 K mg bZ):=okP (T.d.get 59 rfl) (au (N:=["room", "weights", "numbers"]) (by decide)) (λ_ _ _ _ _ _=>ar2 λ_ _=>rfl) λnd _ _ _ _ _ _ _ hr=>(ao 'd' (ao 'd' (ao 'd' (du (eX (zcF (fu T 42) hr (br 'd' (br 'd' (br (gF ["room", "weights", "numbers"] (ar (top 59)).names ["number", "weights"] [none,some 1] 'd' (λnd _ _ _ _ _=>'d') (λ_ _ _ _ _ _=>bO) (λnd _ _ _ _ _=>'d')) 'd')))))))))
def jb:PSt:=
 (aj (aK (ai aF (aa (af 1) ag)))
  (aj (aK (ai aC (aa (af 2) ag)))
  (aj (xIf (qOf (pOp bEq (pFn bB (aa (af 2) ag)) (ah 1))) (aq (ah 0)) xNx)
  (aq (ba (aa (af 0) (aa (pFn mq (aa (pFn bB (aa (af 2) ag)) ag)) ag)))))))
def df:PFn:=fnP [false,false,false] 3 jb
def mU:df.ms=[false,false,false]:=rfl
def lX(T:TT K mg):Callee P w K mg base "side_by_side" 5 ["way", "room", "weights"] (sp3 K mg df):=okP (T.d.get 57 rfl) (au (N:=["way", "room", "weights"]) (by decide)) (λ_ _ _ _ _ _=>ar3 λ_ _ _=>rfl) λnd _ _ _ _ _ _ _ hr=>'d'
def dX:PSt:=
 (aj (aK (ai cE (aa (af 0) ag)))
  (aj (xIf (qOf (pOp bEq (af 0) (cG "halves"))) (aq (ai b9 (aa (af 1) (aa (af 2) ag)))) xNx)
  (aj (xIf (qOf (pOp bEq (af 0) (cG "rows"))) (aq (ai cX (aa (af 1) (aa (af 2) ag)))) xNx)
  (aj (xIf (qOf (pOp bEq (af 0) (cG "greatest"))) (aq (ai bE (aa (af 1) (aa (af 2) ag)))) xNx)
  (aj (xIf (qOf (pOp bEq (af 0) (cG "thirds"))) (aq (ai bZ (aa (af 1) (aa (af 2) ag)))) xNx)
  (aq (ai df (aa (af 0) (aa (af 1) (aa (af 2) ag))))))))))
def aD:PFn:=fnP [false,false,false] 3 dX
def so:aD.ms=[false,false,false]:=rfl
def p7(T:TT K mg):Callee P w K mg base "rule_tree" 54 ["rule", "room", "weights"] (sp3 K mg aD):=okP (T.d.get 55 rfl) (au (N:=["rule", "room", "weights"]) (by decide)) (λ_ _ _ _ _ _=>ar3 λ_ _ _=>rfl) λnd _ _ _ _ _ _ _ hr=>'d'
def cT:PSt:=
 (aK (kq 3 gf (aa (ai bq (aa (pOp aH (af 4) (af 5)) (aa (af 5) ag))) ag)))
def gI:PSt:=
 (aj (aw false 2 (pFn kG (aa (af 1) ag)))
  (aj (aw true 3 (cU (aa (ai dn (aa (af 0) ag)) (aa (ba (aa (ah 3) (aa (ah 1) ag))) ag))))
  (aj (hE (m3 (aa (af 2) (aa (pSl (af 2) (oS (ah 1)) oN) ag))) (gtX (gtT 2 (aV (gtN 4) (aV (gtN 5) dO)))) (cT))
  (aq (ai bp (aa (af 3) ag))))))
def cm:PFn:=fnP [false,false] 6 gI
def kx:cm.ms=[false,false]:=rfl
def jO(T:TT K mg):Callee P w K mg base "bound_of_thirds" 7 ["room", "weights"] (sp3 K mg cm):=okP (T.d.get 68 rfl) (au (N:=["room", "weights", "falling", "found", "greater", "lesser"]) (by decide)) (λ_ _ _ _ _ _=>ar2 λ_ _=>rfl) λnd _ _ _ _ _ _ _ hr=>'d'
def vh:PSt:=
 (aj (aw false 1 (pLC (cq (af 0)) [none] (by decide) (gtN 0) qY (ai dn (aa (af 0) ag))))
  (aj (aw false 2 (ai bp (aa (af 1) ag)))
  (aq (ba (aa (af 2) (aa (qG gR (af 1) (aa (af 2) ag)) ag))))))
def iX:PFn:=fnP [false] 3 vh
def CV:iX.ms=[false]:=rfl
def AO(T:TT K mg):Callee P w K mg base "worst" 7 ["boxes"] (sp3 K mg iX):=okP (T.d.get 64 rfl) (au (N:=["boxes", "shapes", "greatest"]) (by decide)) (λ_ _ _ _ _ _=>ar1 λ_=>rfl) λnd _ _ _ _ _ _ _ hr=>(ao (BX nd ["boxes", "shapes", "greatest"] (ar (top 64)).names ["box"] [none] 'd' (λnd _ _ _ _ _=>'d') (λ_ _ _ _ _ _=>bO) (λnd _ _ _ _ _=>'d')) 'd')
def iO:PSt:=
 (aj (xIf (qO (qNo (qOf (pFn (bA cp) (aa (af 0) (aa (pTy "tuple") ag))))) (qOf (pOp bNe (pFn bB (aa (af 0) ag)) (ah 2)))) (aq (pBl false)) xNx)
  (aq (jA (ai d9 (aa (pOp bIx (af 0) (ah 0)) ag)) (jA (pFn (bA cp) (aa (pOp bIx (af 0) (ah 1)) (aa (pTy "tuple") ag))) (pOp bGe (pFn bB (aa (pOp bIx (af 0) (ah 1)) ag)) (ah 2))))))
def cW:PFn:=fnP [false] 1 iO
def uh:cW.ms=[false]:=rfl
def p8(T:TT K mg):Callee P w K mg base "is_branch" 2 ["thing"] (sp3 K mg cW):=okP (T.d.get 45 rfl) (au (N:=["thing"]) (by decide)) (λ_ _ _ _ _ _=>ar1 λ_=>rfl) λnd _ _ _ _ _ _ _ hr=>'d'
def dH:PSt:=
 (aj (aw false 4 (qf 3 qE))
  (xIf (qOf (ai cW (aa (af 4) ag))) (aK (kq 3 ik (aa (pOp bIx (af 4) (ah 1)) ag))) (xIf (qO (qNo (qOf (ai a9 (aa (af 4) ag)))) (qO (qOf (pOp bLt (af 4) (ah 0))) (qO (qOf (pOp bGe (af 4) (af 1))) (qOf (pOp DB (af 4) (af 2)))))) (aq (pBl false)) (aK (Cw 2 (aa (af 4) ag))))))
def oY:PSt:=
 (aj (aw true 2 yh)
  (aj (aw true 3 (cU (aa (af 0) ag)))
  (aj (xWh (qTr (af 3)) (dH))
  (aq (pOp bEq (pFn sM (aa (af 2) ag)) (af 1))))))
def gy:PFn:=fnP [false,false] 5 oY
def xj:gy.ms=[false,false]:=rfl
def uH(T:TT K mg):Callee P w K mg base "is_tree" 3 ["thing", "many"] (sp3 K mg gy):=okP (T.d.get 46 rfl) (au (N:=["thing", "many", "seen", "waiting", "part"]) (by decide)) (λ_ _ _ _ _ _=>ar2 λ_ _=>rfl) λnd _ _ _ _ _ _ _ hr=>'d'
def jU:PSt:=
 (xIf (qNo (qOf (ai gy (aa (af 0) (aa (af 1) ag))))) (fh "NoTree" (aa (cG "this is no tree for the things") ag)) xNx)
def d7:PFn:=fnP [false,false] 2 jU
def pR:d7.ms=[false,false]:=rfl
def oX(T:TT K mg):Callee P w K mg base "check_tree" 4 ["thing", "many"] (sp3 K mg d7):=okP (T.d.get 47 rfl) (au (N:=["thing", "many"]) (by decide)) (λ_ _ _ _ _ _=>ar2 λ_ _=>rfl) λnd _ _ _ _ _ _ _ hr=>'d'
def cI:PSt:=
 (aj (aw false 3 (qf 2 qE))
  (xIf (qOf (pFn (bA cp) (aa (af 3) (aa (pTy "tuple") ag)))) (aK (kq 2 ik (aa (pOp bIx (af 3) (ah 1)) ag))) (aK (kq 1 gf (aa (af 3) ag)))))
def kZ:PSt:=
 (aj (aw true 1 (cU ag))
  (aj (aw true 2 (cU (aa (af 0) ag)))
  (aj (xWh (qTr (af 2)) (cI))
  (aq (af 1)))))
def d5:PFn:=fnP [false] 4 kZ
def sC:d5.ms=[false]:=rfl
def pH(T:TT K mg):Callee P w K mg base "things_in" 1 ["tree"] (sp3 K mg d5):=okP (T.d.get 48 rfl) (au (N:=["tree", "found", "waiting", "part"]) (by decide)) (λ_ _ _ _ _ _=>ar1 λ_=>rfl) λnd _ _ _ _ _ _ _ hr=>'d'
def mJ:PSt:=
 (aj (kQ (af 2) (gtX (gtT 2 (aV (gtN 3) (aV (gtN 4) dO)))))
  (aq (ai eE (aa (af 0) (aa (af 3) (aa (pLC (cq (af 4)) [none,some 1] (by decide) (gtN 0) qY (pFn bX (aa (pLC (cq (ai d5 (aa (af 0) ag))) [none,some 1] (by decide) (gtN 0) qY (pOp bIx (af 1) (af 0))) ag))) ag))))))
def fL:PFn:=fnP [false,false,false] 5 mJ
def uY:fL.ms=[false,false,false]:=rfl
def rq(T:TT K mg):Callee P w K mg base "parts_of" 6 ["room", "weights", "tree"] (sp3 K mg fL):=okP (T.d.get 51 rfl) (au (N:=["room", "weights", "tree", "way", "trees"]) (by decide)) (λ_ _ _ _ _ _=>ar3 λ_ _ _=>rfl) λnd _ _ _ _ _ _ _ hr=>(ao 'd' (du (eX (zcF (nu T) hr (br 'd' (br 'd' (br (gF ["room", "weights", "tree", "way", "trees"] (ar (top 51)).names ["part", "weights"] [none,some 1] 'd' (λnd _ _ _ _ _=>'d') (λ_ _ _ _ _ _=>bO) (λnd _ _ _ _ _=>(hZ (pA (K:=K) rfl rfl) yQ rfl (T.n rfl) (by first |exact boF rfl |exact boT rfl) (br (gF ["part", "weights"] [(PySem.Str.ofString ".0",PySem.NameKind.local),(PySem.Str.ofString "part",PySem.NameKind.local),(PySem.Str.ofString "sum",PySem.NameKind.globalImplicit),(PySem.Str.ofString "things_in",PySem.NameKind.globalImplicit),(PySem.Str.ofString "weights",PySem.NameKind.cell)] ["thing", "weights"] [none,some 1] 'd' (λnd _ _ _ _ _=>'d') (λ_ _ _ _ _ _=>bO) (λnd _ _ _ _ _=>'d')) 'd')))) 'd')))))))
def jF(s:PFx [false,false,false,true]):PSt:=
 (aK (ai s.fn (aa (af 5) (aa (af 1) (aa (af 4) (aa (af 3) ag))))))
def gT(s:PFx [false,false,false,true]):PSt:=
 (aj (xIf (qNo (qOf (pFn (bA cp) (aa (af 2) (aa (pTy "tuple") ag))))) (aj (tZ 3 seI (af 2) (af 0))
  xJ) xNx)
  (hE (m3 (aa (pOp bIx (af 2) (ah 1)) (aa (ai fL (aa (af 0) (aa (af 1) (aa (af 2) ag)))) ag))) (gtX (gtT 2 (aV (gtN 4) (aV (gtN 5) dO)))) (jF s)))
def d0:Nat->PFx [false,false,false,true]
 |0=>PFx.none [false,false,false,true]
 |n+1=>PFx.of [false,false,false,true] 6 (gT (d0 n))
theorem nI(T:TT K mg):∀n,Callee P w K mg base "place" (8+n) ["room", "weights", "tree", "placed"] (sp3 K mg (d0 n).fn)
 |0=>ok0 (T.d.get 50 rfl) (au (N:=["room", "weights", "tree", "placed", "part", "box"]) (by decide)) (λ_ _ _ _ _ _=>ar4 λ_ _ _ _=>rfl)
 |
  n+1=>by
  have ih:=nI T n;show Callee _ _ _ _ _ _ _ _ (sp3 _ _ (PFx.of [false,false,false,true] 6 (gT (d0 n))).fn);exact okX (k:=8+n) (T.d.get 50 rfl) (au (N:=["room", "weights", "tree", "placed", "part", "box"]) (by decide)) (λ_ _ _ _ _ _=>ar4 λ_ _ _ _=>rfl) λnd _ _ _ _ _ _ _ hr=>'d'
def nD:PSt:=
 (aj (aK (ai aF (aa (af 0) ag)))
  (aj (aK (ai aC (aa (af 1) ag)))
  (aj (aK (ai d7 (aa (af 2) (aa (pFn bB (aa (af 1) ag)) ag))))
  (aj (aw true 3 pD0)
  (aj (aK (ai (d0 42).fn (aa (af 0) (aa (af 1) (aa (af 2) (aa (af 3) ag))))))
  (aq (pLC (kI (aa (pFn bB (aa (af 1) ag)) ag)) [none,some 3] (by decide) (gtN 0) qY (pOp wW (af 1) (af 0)))))))))
def eQ:PFn:=fnP [false,false,false] 4 nD
def uL:eQ.ms=[false,false,false]:=rfl
def sZ(T:TT K mg):Callee P w K mg base "boxes_by" 51 ["room", "weights", "tree"] (sp3 K mg eQ):=okP (T.d.get 49 rfl) (au (N:=["room", "weights", "tree", "placed"]) (by decide)) (λ_ _ _ _ _ _=>ar3 λ_ _ _=>rfl) λnd _ _ _ _ _ _ _ hr=>(ao 'd' (ao 'd' (ao 'd' (ao 'd' (ao 'd' (du (eX (gF ["room", "weights", "tree", "placed"] (ar (top 49)).names ["number", "placed"] [none,some 3] 'd' (λnd _ _ _ _ _=>'d') (λ_ _ _ _ _ _=>bO) (λnd _ _ _ _ _=>'d')))))))))
def jS:PSt:=
 (aq (ai eQ (aa (af 1) (aa (af 2) (aa (ai aD (aa (af 0) (aa (af 1) (aa (af 2) ag)))) ag)))))
def cx:PFn:=fnP [false,false,false] 3 jS
def yw:cx.ms=[false,false,false]:=rfl
def uX(T:TT K mg):Callee P w K mg base "by_rule" 55 ["rule", "room", "weights"] (sp3 K mg cx):=okP (T.d.get 56 rfl) (au (N:=["rule", "room", "weights"]) (by decide)) (λ_ _ _ _ _ _=>ar3 λ_ _ _=>rfl) λnd _ _ _ _ _ _ _ hr=>'d'
def fH:PSt:=
 (aj (aK (ai cE (aa (af 0) ag)))
  (aj (aK (ai aF (aa (af 1) ag)))
  (aj (aK (ai aC (aa (af 2) ag)))
  (aj (xIf (qOf (pOp bEq (af 0) (cG "thirds"))) (aq (ai cm (aa (af 1) (aa (af 2) ag)))) xNx)
  (aj (xIf (qOf (pOp bEq (af 0) (cG "halves"))) (aq (ai bp (aa (cU (aa (ai dn (aa (af 1) ag)) (aa (ai bq (aa (pFn bX (aa (af 2) ag)) (aa (pFn nK (aa (af 2) ag)) ag))) ag))) ag))) xNx)
  (aj (xIf (qOf (pOp bIn (af 0) oQ)) (aq (pOp bIx (ai iX (aa (ai cx (aa (af 0) (aa (af 1) (aa (af 2) ag)))) ag)) (ah 0))) xNx)
  (aq Dl)))))))
def aZ:PFn:=fnP [false,false,false] 3 fH
def uO:aZ.ms=[false,false,false]:=rfl
def sF(T:TT K mg):Callee P w K mg base "bound_of" 56 ["rule", "room", "weights"] (sp3 K mg aZ):=okP (T.d.get 67 rfl) (au (N:=["rule", "room", "weights"]) (by decide)) (λ_ _ _ _ _ _=>ar3 λ_ _ _=>rfl) λnd _ _ _ _ _ _ _ hr=>'d'
def jW:PSt:=
 (aj (aw false 14 (ai dD (aa (pOp bIx (af 11) (af 13)) (aa (ba (aa (pOp d8 (ah 0) (pOp bIx (pOp bIx (af 2) (af 13)) (ah 0))) (aa (pOp bIx (pOp bIx (af 2) (af 13)) (ah 1)) ag))) ag))))
  (xIf (qO (qOf (pOp bNe (pOp bIx (af 12) (af 13)) (ai dD (aa (pOp bIx (af 6) (af 13)) (aa (ai cA (aa (af 14) (aa (af 4) ag))) ag))))) (qOf (pOp bNe (pOp bIx (af 12) (pOp aH (af 13) (ah 2))) (ai cA (aa (pOp bIx (af 11) (pOp aH (af 13) (ah 2))) (aa (af 4) ag)))))) (aq (pBl false)) xNx))
def mM:PSt:=
 (hE (kI (aa (ah 2) ag)) (gtN 13) (jW))
def m8:PSt:=
 (aj (xIf (qOf (pOp bNe (ai aD (aa (af 10) (aa (af 7) (aa (af 8) ag)))) (ai aD (aa (af 10) (aa (af 2) (aa (af 3) ag)))))) (aq (pBl false)) xNx)
  (aj (xIf (qOf (pOp bNe (ai aZ (aa (af 10) (aa (af 7) (aa (af 8) ag)))) (ai aZ (aa (af 10) (aa (af 2) (aa (af 3) ag)))))) (aq (pBl false)) xNx)
  (hE (m3 (aa (ai cx (aa (af 10) (aa (af 2) (aa (af 3) ag)))) (aa (ai cx (aa (af 10) (aa (af 7) (aa (af 8) ag)))) ag))) (gtX (gtT 2 (aV (gtN 11) (aV (gtN 12) dO)))) (mM))))
def xO:PSt:=
 (aj (aw true 1 (ai dJ (aa (af 0) (aa (ah 55) ag))))
  (aj (aw false 2 (ai fO (aa (af 1) ag)))
  (aj (aw false 3 (ai dP (aa (af 0) (aa (ah 0) (aa (pOp bIx (cU (aa (ah 9) (aa (ah 40) ag))) (pFn qI (aa (pOp bEq (ai ak (aa (af 1) (aa (ah 6) ag))) (ah 0)) ag))) ag)))))
  (aj (aw false 4 (ai bj (aa (pOp aH (ah 1) (ai ak (aa (af 1) (aa (ah 50) ag)))) (aa (pOp aH (ah 1) (ai ak (aa (af 1) (aa (ah 9) ag)))) ag))))
  (aj (aw false 5 (cU (aa (ai bj (aa (pOp d8 (ai ak (aa (af 1) (aa (ah 99) ag))) (ah 49)) (aa (pOp aH (ah 1) (ai ak (aa (af 1) (aa (ah 5) ag)))) ag))) (aa (ba (aa (ai ak (aa (af 1) (aa (ah 9) ag))) (aa (ah 1) ag))) ag))))
  (aj (xIf (qOf (pOp bGt (pFn kr (aa (pLC (cq (af 2)) [none] (by decide) (gtN 0) qY (pOp aH (pFn c9 (aa (pOp bIx (af 0) (ah 0)) ag)) (pOp bIx (af 0) (ah 1)))) ag)) (pOp eA (ah 10) (ah 9)))) (fU 4 5 (aa (ba (aa (ah 1) (aa (ah 1) ag))) (aa (cU (aa (ba (aa (ah 0) (aa (ah 1) ag))) (aa (ba (aa (ah 0) (aa (ah 1) ag))) ag))) ag))) xNx)
  (aj (aw false 6 (cU (aa (ai dD (aa (pOp bIx (af 2) (ah 0)) (aa (pOp bIx (af 5) (ah 0)) ag))) (aa (ai dD (aa (pOp bIx (af 2) (ah 1)) (aa (pOp bIx (af 5) (ah 1)) ag))) ag))))
  (aj (aw false 7 (ai ig (aa (pOp bIx (af 6) (ah 0)) (aa (pOp bIx (af 6) (ah 1)) (aa (ai cA (aa (pOp bIx (af 2) (ah 2)) (aa (af 4) ag))) (aa (ai cA (aa (pOp bIx (af 2) (ah 3)) (aa (af 4) ag))) ag))))))
  (aj (aw false 8 (pFn rj (aa (af 3) ag)))
  (aj (xIf (qOf (pOp bLt (pFn kr (aa (af 3) ag)) (pOp eA (ah 10) (ah 9)))) (aj (aw false 9 (pOp aH (ah 1) (ai ak (aa (af 1) (aa (pOp eA (ah 10) (ah 6)) ag)))))
  (aw false 8 (pLC (cq (af 3)) [none,some 9] (by decide) (gtN 0) qY (pOp aY (af 0) (af 1))))) xNx)
  (aj (xIf (qOf (pOp bNe (ai eL (aa (af 7) (aa (af 8) ag))) (ai eL (aa (af 2) (aa (af 3) ag))))) (aq (pBl false)) xNx)
  (aj (hE (cq lQ) (gtN 10) (m8))
  (aq (pBl true))))))))))))))
def qz:PFn:=fnP [false] 15 xO
def Fy(T:TT K mg):Callee P w K mg base "law" 57 ["_law_script"] (sp3 K mg qz):=okP (T.d.get 79 rfl) (au (N:=["_law_script", "_law_feed_here", "_law_room_here", "_law_weights_here", "_law_by", "_law_far", "_law_corner", "_law_other", "_law_more", "_law_many", "_law_rule", "_law_one", "_law_two", "_law_at", "_law_back"]) (by decide)) (λ_ _ _ _ _ _=>ar1 λ_=>rfl) λnd _ _ _ _ _ _ _ hr=>(ao 'd' (ao 'd' (ao 'd' (ao 'd' (ao 'd' (ao (kD (zd yj xW (hZ (pj (K:=K) rfl rfl) vO rfl (T.n rfl) (by first |exact boF rfl |exact boT rfl) (br (gF ["_law_script", "_law_feed_here", "_law_room_here", "_law_weights_here", "_law_by", "_law_far", "_law_corner", "_law_other", "_law_more", "_law_many", "_law_rule", "_law_one", "_law_two", "_law_at", "_law_back"] (ar (top 79)).names ["_law_number"] [none] 'd' (λnd _ _ _ _ _=>'d') (λ_ _ _ _ _ _=>bO) (λnd _ _ _ _ _=>'d')) 'd')) 'd' (tM _)) 'd' 'd') (ao 'd' (ao 'd' (ao 'd' (ao (kD 'd' (ao 'd' (du (BX nd ["_law_script", "_law_feed_here", "_law_room_here", "_law_weights_here", "_law_by", "_law_far", "_law_corner", "_law_other", "_law_more", "_law_many", "_law_rule", "_law_one", "_law_two", "_law_at", "_law_back"] (ar (top 79)).names ["_law_weight", "_law_many"] [none,some 9] 'd' (λnd _ _ _ _ _=>'d') (λ_ _ _ _ _ _=>bO) (λnd _ _ _ _ _=>'d')))) 'd') 'd'))))))))))
end
noncomputable def fdV (a b k:Int):Val:=.lst [.int a,.int b,.int k]
def Ej:eA.G (.int 10) (.int 18)=.val (.int (10^18)):=kP ⟨by decide,by decide,by decide⟩
def eC{a m:Int}(h:0<m):0<=a.fmod m/\a.fmod m<m:=⟨Int.fmod_nonneg_of_pos a h,Int.fmod_lt_of_pos a h⟩
set_option hygiene false in
local macro_rules | `(tactic|simp![$args,*])=>do
 let l <- ("% jC MK Lk LC K7 GB qw MH K5 Dh xK Ku Kj Jd HX Jv KJ Js HL F7 Be Jh J6 Ar F9 KH LP MN v_bl MX Ls v_ty Lx v_un v_op LL Ia v_fn Li LS Mv Mj c_of c_tr c_an c_o c_no x_nx x_bk Kq Ng Gg FU F5 Ka DK x_if Nl KU Ld FW C7 Ca g_n g_sn g_sc g_t g_x HG La Nk Nc Gm K8 Mq M7 LK KN Ib Hq Mg IS Bq HB Nj MB Ir Ic J1 JM LZ Mk Lc fD v_lc IM Kx JY o_n o_s v_sl v_d0 Lp fx_G Ln MP k_lt k_gt k_ge M9 Ll k_ix Ju Hd Lu k_eq k_ne DL Md KO MR L7 Mm LR Iy Gx JQ B0 bu List.getElem?_cons_zero List.getElem?_cons_succ List.set_cons_zero List.set_cons_succ List.length_cons List.length_nil Option.bind_some Option.map_some Option.map_none Option.isSome_some if_true if_false Bool.not_true Bool.not_false Bool.and_true Bool.true_and Bool.and_false Bool.false_and Bool.or_true Bool.true_or Bool.or_false Nat.reduceLeDiff Nat.reduceLT Nat.reduceAdd Nat.reduceSub Nat.zero_add Nat.add_zero Nat.sub_self List.cons_append List.nil_append List.append_nil List.replicate reduceCtorEq decide_true decide_false Bool.false_eq_true List.all_cons List.all_nil List.isEmpty_nil List.isEmpty_cons List.map_cons List.map_nil Int.reduceBEq Int.reduceLT Int.reduceAdd Int.reduceSub Int.reduceMul Int.cast_ofNat_Int Jk Gz Iw JF G9 EW BY IP Dw AK EI FY KI Fg ze EY II Dz HJ FJ HM Cb Jl GF FX ML Ml Ly M6 zj yS zY nG gp A3 Cq Ab yF kg ati0 ati1 ati2 ati3 ixn0 ixn1 MC cu Ip Fc Fn List.lookup_cons List.lookup_nil Kh g_uL uR uM xk sV uK oF xf uN nX kT oq Ao sr AY sk qU lA yn nT uG BF uW Gy Ct uT uF pZ jP ka zi rz BO AJ Ad pY oI tO m9 p9 nY rE i5 lK oE mU so kx CV uh xj pR sC uY uL yw uO mf DH EA".splitOn " ").tail.mapM λs=>`(Lean.Parser.Tactic.simpLemma| $(Lean.mkIdent s.toName):term)
 `(tactic|simp only[$(l.toArray),*,$args,*])
def az{a b k m:Int}(h0:0<m)(hm:Sm 8000 m):∃r a' b',ak.G [fdV a b k,.int m]=.ok (.val (.int r)) [fdV a' b' k]/\0<=r/\r<m:=by
 unfold ak;rw[ax];unfold ni fdV;have m0:m≠0:=by omega
 have d1:=λi=>fN (i:=i) m0;have d2:=λi=>kE (i:=i) (CDivB.of m0 hm);have ca:∀x:Int,CMulA 7919 x:=λx=>CMulA.left (by decide) (by decide);have cb:∀x:Int,CMulA 104729 x:=λx=>CMulA.left (by decide) (by decide);have cc:∀x:Int,CMulA x 48271:=λx=>CMulA.right (by decide) (by decide);have e1:cH.G (.int a) (.int 1000003)=.val (.int (a.fmod 1000003)):=fN (by decide);have e2:aY.G (.int 7919) (.int k)=.val (.int (7919*k)):=bz (ca k);have e3:=λx=>bz (cb x);have e4:=λx=>bz (cc x);have e5:∀x:Int,cH.G (.int x) (.int 2147483647)=.val (.int (x.fmod 2147483647)):=λx=>fN (by decide);have e6:∀x:Int,cH.G (.int x) (.int 65521)=.val (.int (x.fmod 65521)):=λx=>fN (by decide);have e7:∀x y:Int,aY.G (.int (x.fmod 2147483647)) (.int y)=.val (.int (x.fmod 2147483647*y)):=λx y=>bz (CMulA.left (by have:=(eC (a:=x) (m:=2147483647) (by decide)).1;omega) (by have:=(eC (a:=x) (m:=2147483647) (by decide)).2;omega));have e8:∀x:Int,cH.G (.int x) (.int 2147483629)=.val (.int (x.fmod 2147483629)):=λx=>fN (by decide);by_cases hc:(10^18:Int)<=a
 .have hc':decide ((10^18:Int)<=a)=true:=H_ hc;refine⟨a.fmod m,a.fdiv m,b+1,?_,eC h0⟩;simp![Ej,hc',d1,d2]
  done
 .have hc':decide ((10^18:Int)<=a)=false:=Em hc;refine⟨Int.fmod (Int.fmod (Int.fmod ((Int.fmod a 1000003+7919*k+104729*(b+1))*48271) 2147483647*(Int.fmod (Int.fmod ((Int.fmod a 1000003+7919*k+104729*(b+1))*48271) 2147483647) 65521+(b+1))) 2147483629) m,a,b+1,?_,eC h0⟩;simp![Ej,hc',d1,e1,e2,e3,e4,e5,e6,e7,e8]
def zm(w:Bool):d9.G [.str (wy w)]=.ok (.val (.bl true)) []:=by
 have i1:∀x:Str,(bA cp).G [.str x,.ty "str"]=.val (.bl true):=λ_=>rfl;have i2:bIn.G (.str (wy w)) (.tup [.str "across",.str "down"])=.val (.bl true):=by cases w <;> rfl
 unfold d9;rw[ax];unfold l9;simp![i1,i2]
def A0{w:Bool}{ts:List Val}(h:2<=ts.length):cW.G [.tup [.str (wy w),.tup ts]]=.ok (.val (.bl true)) []:=by have e:=zm w;have i1:∀xs:List Val,(bA cp).G [.tup xs,.ty "tuple"]=.val (.bl true):=λ_=>rfl;have g:decide ((2:Int)<=(ts.length:Nat))=true:=H_ (by omega);unfold cW;rw[ax];unfold iO;simp![i1,e,yb,g]
def yX{a:Val}(h:lfV a=true):cW.G [a]=.ok (.val (.bl false)) []:=by
 have i1:(bA cp).G [a,.ty "tuple"]=.val (.bl false):=by cases a <;> first |rfl |(cases h;done)
 unfold cW;rw[ax];unfold iO;simp![i1]
def zC(k:Nat):a9.G [.int (k:Nat)]=.ok (.val (.bl true)) []:=by have i1:(bA cp).G [.int (k:Nat),.ty "int"]=.val (.bl true):=rfl;have i2:(bA cp).G [.int (k:Nat),.ty "bool"]=.val (.bl false):=rfl;unfold a9;rw[ax];unfold gK;simp![i1,i2]
theorem ko{n:Nat}(v:Val):∀(N:Nat) (st:List AT) (xs:List Int) (s4:Sl),AT.cntL st<=N->s4.pl=true->(∀t∈st,t.ok=true)->(∀k∈AT.lvsL st,k<n)->(AT.lvsL st).Nodup->(∀k∈AT.lvsL st,((k:Nat):Int)∉xs)->xs.length+(AT.lvsL st).length<=3000->AT.cntL st<=100000->
 ∃(ys:List Int) (s4':Sl),ys.length=xs.length+(AT.lvsL st).length/\(xWh (qTr (af 3)) dH).G [.sh v,.sh (.int (n:Nat)),.ow (.set xs),.ow (.lst (st.map atV)),s4]=.nx [.sh v,.sh (.int (n:Nat)),.ow (.set ys),.ow (.lst []),s4']
 |
  N,[],xs,s4,_,_,_,_,_,_,_,_=>⟨xs,s4,by simp [AT.lvsL],by
  rw[gD];simp![Nt,oT,List.isEmpty_nil]⟩
 |
  0,t::ts,xs,s4,h,_,_,_,_,_,_,_=>by
  rw[AT.cntL] at h;cases t <;> (rw[AT.cnt] at h;omega)
 |
  N+1,t0::ts0,xs,s4,hN,h4,ho,hn,nd,hx,hl,hc=>by
  obtain⟨st,t,hst⟩:∃st t,t0::ts0=st++[t]:=⟨(t0::ts0).dropLast,(t0::ts0).getLast (by simp),(List.dropLast_concat_getLast (by simp)).symm⟩;rw[hst] at hN ho hn nd hx hl hc ⊢;rw[AT.lvsL_app] at hn nd hx hl;rw[AT.lvsL_app];rw[AT.cntL_app] at hN hc;have hn0:((st++[t]).map atV).isEmpty=false:=by cases st <;> rfl
  have c1:(qTr (af 3)).G [.sh v,.sh (.int (n:Nat)),.ow (.set xs),.ow (.lst ((st++[t]).map atV)),s4]=.ok true [.sh v,.sh (.int (n:Nat)),.ow (.set xs),.ow (.lst ((st++[t]).map atV)),s4]:=by simp![oT,hn0,Bool.not_false]
  have hto:=ho t (by simp);rw[gD,c1];show ∃ys s4',_/\((dH.G _).loop _)=_;rw[NU,t_,Nt];cases t with
  |
   lf k=>
   simp only[AT.lvsL,AT.lvs,NJ,K_,D_,Nr,AT.cntL,AT.cnt] at hn nd hx hl hN hc ⊢;have hk:=hn k (by simp);have hkx:=hx k (by simp);have nda:=List.nodup_append.mp nd;obtain⟨ys,s4',q1,q2⟩:=ko (n:=n) v N st (gm xs (k:Nat)) (.sh (.int (k:Nat))) (by omega) rfl (λt ht=>ho t (by simp [ht])) (λj hj=>hn j (by simp [hj])) nda.1 (λj hj z=>by
    unfold gm at z;rw[if_neg hkx] at z;rcases G_.mp z with z |z
    .exact nda.2.2 j hj k (by simp) (Int.ofNat.inj z)
    .exact hx j (by simp [hj]) z) (by unfold gm;rw[if_neg hkx,D_];omega) (by omega)
   refine⟨ys,s4',by rw[q1];unfold gm;rw[if_neg hkx,D_];omega,?_⟩;have b1:=yX (a:=.int (k:Nat)) rfl;have w1:=zC k;have l0:decide (((k:Nat):Int)<0)=false:=Em (by omega);have l1:decide (((n:Nat):Int)<=(k:Nat))=false:=Em (by omega);have in1:decide (((k:Nat):Int)∈xs)=false:=Em hkx;have av:atV (.lf k)=.int (k:Nat):=rfl;have xl:xs.length<4000:=by omega
   have bb:dH.G [.sh v,.sh (.int (n:Nat)),.ow (.set xs),.ow (.lst (st.map atV++[atV (.lf k)])),s4]=.nx [.sh v,.sh (.int (n:Nat)),.ow (.set (gm xs (k:Nat))),.ow (.lst (st.map atV)),.sh (.int (k:Nat))]:=by unfold dH;rw[av];simp![mE,h4,b1,w1,l0,l1,KW,in1,JP,rM,Cr,xl]
   rw[bb];exact q2
  |
   nd w ts=>
   have ho':=hto;rw[AT.ok,v_] at hto;have h2:2<=ts.length:=O4 hto.1;have hk:=AT.okL_mem.mp hto.2;simp only[AT.lvsL,AT.lvs,NJ,AT.cntL,AT.cnt] at hn nd hx hl hN hc ⊢;obtain⟨ys,s4',q1,q2⟩:=ko (n:=n) v N (st++ts) xs (.sh (atV (.nd w ts))) (by rw[AT.cntL_app];omega) rfl (λt ht=>by
    rcases OH.mp ht with ht |ht
    .exact ho t (by simp [ht])
    .exact hk t ht) (by rw[AT.lvsL_app];exact hn) (by rw[AT.lvsL_app];exact nd) (by rw[AT.lvsL_app];exact hx) (by rw[AT.lvsL_app];exact hl) (by rw[AT.cntL_app];omega)
   rw[AT.lvsL_app] at q1;refine⟨ys,s4',q1,?_⟩;have av:atV (.nd w ts)=.tup [.str (wy w),.tup (ts.map atV)]:=by unfold atV;rw[AT.val,AT.vals_map]
   have b1:=A0 (w:=w) (ts:=ts.map atV) (by rw[p_];exact h2);have le:∀l:List AT,l.length<=AT.cntL l:=by
    intro l;induction l with
    |nil=>exact u_ _
    |cons t l ih=>rw[AT.cntL,D_];cases t <;> (rw[AT.cnt];omega)
   have ll:(st.map atV).length+(ts.map atV).length<=16777216:=by
    have:=le st
    have:=le ts
    rw[p_,p_];omega
   rw[av] at q2 ⊢;rw[NU] at q2;have bb:dH.G [.sh v,.sh (.int (n:Nat)),.ow (.set xs),.ow (.lst (st.map atV++[.tup [.str (wy w),.tup (ts.map atV)]])),s4]=.nx [.sh v,.sh (.int (n:Nat)),.ow (.set xs),.ow (.lst (st.map atV++ts.map atV)),.sh (.tup [.str (wy w),.tup (ts.map atV)])]:=by unfold dH;simp![mE,h4,b1,pG,ll]
   rw[bb];exact q2
def wU{t:AT}{n:Nat}(ho:t.ok=true)(hn:∀k∈t.lvs,k<n)(nd:t.lvs.Nodup)(hl:t.lvs.length=n)(h3:n<=3000)(hc:t.cnt<=100000):gy.G [atV t,.int (n:Nat)]=.ok (.val (.bl true)) []:=by
 have e1:AT.lvsL [t]=t.lvs:=by simp [AT.lvsL]
 have e2:AT.cntL [t]=t.cnt:=by simp [AT.cntL]
 obtain⟨ys,s4',q1,q2⟩:=ko (n:=n) (atV t) (AT.cntL [t]) [t] [] .no (u_ _) rfl (λu hu=>by rw[N2] at hu;rw[hu];exact ho) (by rw[e1];exact hn) (by rw[e1];exact nd) (λk hk z=>nomatch z) (by rw[e1,hl];simp;exact h3) (by rw[e2];exact hc);rw[e1,hl,Nr,Nat.zero_add] at q1;rw[t_,Nt] at q2;unfold gy;rw[ax];unfold oY;generalize atV t=tv at *;simp![HR,q2,GN,q1,OR]
def pJ{t:AT}{n:Nat}(ho:t.ok=true)(hn:∀k∈t.lvs,k<n)(nd:t.lvs.Nodup)(hl:t.lvs.length=n)(h3:n<=3000)(hc:t.cnt<=100000):d7.G [atV t,.int (n:Nat)]=.ok (.val .non) []:=by have e:=wU ho hn nd hl h3 hc;unfold d7;rw[ax];unfold jU;generalize atV t=tv at *;simp![e]
def gO(a:Int):(if a<0 then -a else a)=((a.natAbs:Nat):Int):=by split <;> omega
theorem rC:∀(n one b_:Nat),b_<=n->(xWh (qOf (pOp bNe (af 1) (ah 0))) da).G [.sh (.int (one:Nat)),.sh (.int (b_:Nat))]=.nx [.sh (.int (Nat.gcd one b_:Nat)),.sh (.int 0)]
 |
  n,one,0,_=>by
  rw[gD];simp![jC];rw[Nat.gcd_zero_right];try rfl
 |0,one,b_+1,hl=>absurd hl (by omega)
 |
  n+1,one,b_+1,hl=>by
  rw[gD];have e:((((b_+1:Nat):Int)==0))=false:=by rw[E_];omega
  have e1:cH.G (.int (one:Nat)) (.int ((b_+1:Nat):Int))=.val (.int (((one:Nat):Int).fmod ((b_+1:Nat):Int))):=fN (by omega);have e2:((one:Nat):Int).fmod ((b_+1:Nat):Int)=((one % (b_+1):Nat):Int):=by rw[Int.fmod_eq_emod_of_nonneg _ (by omega)];rfl
  have ih:=rC n (b_+1) (one % (b_+1)) (by have:=Nat.mod_lt one (show b_+1>0 by omega);omega);rw[Fr.euc] at ih;rw[e2] at e1;have bb:da.G [.sh (.int (one:Nat)),.sh (.int ((b_+1:Nat):Int))]=.nx [.sh (.int ((b_+1:Nat):Int)),.sh (.int ((one % (b_+1):Nat):Int))]:=by unfold da;simp![e1]
  simp![e,bb,ih]
def de(a b:Int):bP.G [.int a,.int b]=.ok (.val (.int (Int.gcd a b:Nat))) []:=by
 unfold bP;rw[ax];unfold gY
 have:=rC b.natAbs a.natAbs b.natAbs (u_ _)
 simp![gO,this];rfl
def cz{a b:Int}(hb:b≠0)(hs:Sm 8000 b):bq.G [.int a,.int b]=.ok (.val (fV ((a:Rat)/(b:Rat)))) []:=by
 unfold bq;rw[ax];unfold mR;have e:(b==0)=false:=by rw[E_];exact hb
 have c:∀x,CDivB x (Fr.dv a b):=λx=>CDivB.of (Fr.dv_ne hb) (hs.of_le (by rw[Fr.dv_abs];exact Nat.le_of_dvd (by omega) (Nat.gcd_dvd_right a.natAbs b.natAbs)));have k1:=kE (c a);have k2:=kE (c b);have hh:=mB (a:=a) hb;have d_:Val.tup [.int (a.fdiv (Fr.dv a b)),.int (b.fdiv (Fr.dv a b))]=fV ((a:Rat)/(b:Rat)):=by unfold fV;rw[<- hh.1,<- hh.2];rfl
 by_cases hn:b<0
 .have hd:Fr.dv a b=-((Int.gcd a b:Nat):Int):=by unfold Fr.dv;rw[if_pos hn]
  rw[hd] at k1 k2 d_;simp![e,de,H_ hn,k1,k2,d_]
 .have hd:Fr.dv a b=((Int.gcd a b:Nat):Int):=by unfold Fr.dv;rw[if_neg hn]
  rw[hd] at k1 k2 d_;simp![e,de,Em hn,k1,k2,d_]
def Du{p q:Rat}{n m:Nat}(hp:Sz n p)(hq:Sz m q)(h:n+m<=8000):jf.G [fV p,fV q]=.ok (.val (fV (p+q))) []:=by have c1:=bz (CMulA.of hp.top hq.bot (by omega) (by omega));have c2:=bz (CMulA.of hq.top hp.bot (by omega) (by omega));have c3:=bz (CMulA.of hp.bot hq.bot (by omega) (by omega));have fe:=cz (a:=p.num*q.den+q.num*p.den) (b:=p.den*q.den) (Om (bM p) (bM q)) ((hp.bot.mul hq.bot).mono h);rw[<- nZ] at fe;unfold jf;rw[ax];unfold vf;rw[show fV p=.tup [.int p.num,.int p.den] from rfl,show fV q=.tup [.int q.num,.int q.den] from rfl];simp![c1,c2,c3,fe]
def lY{p q:Rat}{n m:Nat}(hp:Sz n p)(hq:Sz m q)(h:n+m<=8000):gc.G [fV p,fV q]=.ok (.val (fV (p*q))) []:=by have c1:=bz (CMulA.of hp.top hq.top (by omega) (by omega));have c2:=bz (CMulA.of hp.bot hq.bot (by omega) (by omega));have fe:=cz (a:=p.num*q.num) (b:=p.den*q.den) (Om (bM p) (bM q)) ((hp.bot.mul hq.bot).mono h);rw[<- nM] at fe;unfold gc;rw[ax];unfold vo;rw[show fV p=.tup [.int p.num,.int p.den] from rfl,show fV q=.tup [.int q.num,.int q.den] from rfl];simp![c1,c2,fe]
def jD{p q:Rat}{n m:Nat}(hp:Sz n p)(hq:Sz m q)(h1:n<=100000)(h2:m<=100000):eg.G [fV p,fV q]=.ok (.val (.bl (decide (p<q)))) []:=by have c1:=bz (CMulA.of hp.top hq.bot h1 h2);have c2:=bz (CMulA.of hq.top hp.bot h2 h1);unfold eg;rw[ax];unfold pC;rw[show fV p=.tup [.int p.num,.int p.den] from rfl,show fV q=.tup [.int q.num,.int q.den] from rfl];simp![c1,c2];rw[show decide (p.num*(q.den:Int)<q.num*(p.den:Int))=decide (p<q) from O9.mpr (Hu p q).symm]
def kA{v:Val}(hk:knV v=true):(bA cp).G [v,.ty "tuple"]=.val (.bl (fI v)):=by cases v <;> first |rfl |cases hk
def iL{v:Val}(hk:knV v=true):a9.G [v]=.ok (.val (.bl (ji v))) []:=by unfold a9;rw[ax];unfold gK;cases v <;> first |rfl |cases hk
def sy(v:Val):fI v=false\/∃xs,v=.tup xs:=by cases v <;> first |exact .inr ⟨_,rfl⟩ |exact .inl rfl
def lT(v:Val):ji v=false\/∃i,v=.int i:=by cases v <;> first |exact .inr ⟨_,rfl⟩ |exact .inl rfl
def L9{v:Val}(h:fI v=false):aQ v=false:=by cases v <;> first |rfl |cases h
def Mn{v:Val}(h:fI v=false):gq v=false:=by cases v <;> first |rfl |cases h
def Jr{a b:Val}(h:ji a=false):aQ (.tup [a,b])=false:=by cases a <;> first |rfl |cases h
def GI{i:Int}{b:Val}(h:ji b=false):aQ (.tup [.int i,b])=false:=by cases b <;> first |rfl |cases h
def LW{xs:List Val}(hl:xs.length≠2):aQ (.tup xs)=false:=by
 unfold aQ;split
 .rename_i e;injection e with e;subst e;exact absurd rfl hl
 .rfl
def LU{xs:List Val}(hl:xs.length≠4):gq (.tup xs)=false:=by
 unfold gq;split
 .rename_i e;injection e with e;subst e;exact absurd rfl hl
 .rfl
def DZ{k:Nat}{v:Val}(ha:iN k v=true)(h:fI v=false):knV v=true:=by
 cases v with
 |tup xs=>cases h
 |_=>cases k <;> exact ha
def ox{v:Val}(ha:iN 1 v=true):cQ.G [v]=.ok (.val (.bl (aQ v))) []:=by
 unfold cQ;rw[ax];unfold jL;rcases sy v with ht |⟨xs,rfl⟩
 .have it:=kA (DZ ha ht);rw[ht] at it;simp![it,L9 ht]
 have it:=kA (v:=.tup xs) rfl;by_cases hl:xs.length=2
 .match xs,hl,ha with
  |
   [a,b],_,ha=>
   have ha':(knV a&&(knV b&&true))=true:=by simpa [iN] using ha
   simp only[v_] at ha';have w1:=iL ha'.1;have w2:=iL ha'.2.1;rcases lT a with h1 |⟨i,rfl⟩
   .rw[h1] at w1;simp![it,fI,w1,Jr h1]
   rcases lT b with h2 |⟨j,rfl⟩
   .rw[h2] at w2;simp![it,fI,w1,ji,w2,GI h2]
   have f:aQ (.tup [.int i,.int j])=(decide (1<=j)&&decide (Int.gcd i j=1)):=rfl;have g:((((Int.gcd i j:Nat):Int)==1):Bool)=decide (Int.gcd i j=1):=by rw[PK,NB,ON];omega
   by_cases hj:1<=j
   .simp![it,fI,w1,w2,ji,de,H_ hj,f,g]
   .simp![it,fI,w1,w2,ji,de,Em hj,f,g]
 .have e:(((xs.length:Nat):Int)==2)=false:=by rw[E_];omega
  simp![it,fI,e,LW hl]
def pz{v:Val}(ha:iN 2 v=true):g6.G [v]=.ok (.val (.bl (gq v))) []:=by
 unfold g6;rw[ax];unfold t9;rcases sy v with ht |⟨xs,rfl⟩
 .have it:=kA (DZ ha ht);rw[ht] at it;simp![it,Mn ht]
 have it:=kA (v:=.tup xs) rfl;by_cases hl:xs.length=4
 .match
   xs,hl,ha with
  |
   [a,b,c,d],_,ha=>
   have e1:gq (.tup [a,b,c,d])=(aQ a&&(aQ b&&(aQ c&&(aQ d&&(jo c&&jo d))))):=rfl;have bl4:∀x y z w:Bool,jH [.bl x,.bl y,.bl z,.bl w]=some [x,y,z,w]:=λ_ _ _ _=>rfl;obtain⟨e',⟨s',rfl,_⟩,lc⟩:=oM (g:=(gtN 0).G) (F:=(ai cQ (aa (af 0) ag)).G) (f:=λv=>.bl (aQ v)) (λe=>∃s,e=[s]/\s.pl=true) [a,b,c,d] [] [.no] ⟨.no,rfl,rfl⟩ (by
    rintro v hv e ⟨s,rfl,hs⟩;have hv':iN 1 v=true:=NC.mp (by simpa [iN] using ha) v hv;refine⟨[.sh v],.val (.bl (aQ v)),[.sh v],?_,?_,rfl,⟨_,rfl,rfl⟩⟩
    .simp![hs]
    .simp![ox hv']) (by simp)
   have cy:cY=qY.G:=rfl;rw[cy,NP] at lc;simp only[t_,Nt] at lc;cases hA:(aQ a&&(aQ b&&(aQ c&&aQ d))) with
   |
    true=>
    simp only[v_] at hA;obtain⟨p,rfl⟩:=yB hA.2.2.1;obtain⟨q,rfl⟩:=yB hA.2.2.2;rw[hA.1,hA.2.1,hA.2.2.1,hA.2.2.2] at e1 lc;have e2:gq (.tup [a,b,fV p,fV q])=(decide (0<p.num)&&decide (0<q.num)):=by rw[e1];rfl
    rw[e2];have i1:(fV p).items=some [.int p.num,.int p.den]:=rfl;have i2:(fV q).items=some [.int q.num,.int q.den]:=rfl;by_cases hp:0<p.num
    .simp![it,fI,lc,cu,bl4,id,i1,i2,H_ hp]
    .simp![it,fI,lc,cu,bl4,id,i1,Em hp]
   |
    false=>
    have e2:gq (.tup [a,b,c,d])=false:=by rw[e1];revert hA;generalize aQ a=a',aQ b=b',aQ c=c',aQ d=d',(jo c&&jo d)=z;revert a' b' c' d' z;decide
    rw[e2];simp![it,fI,lc,cu,bl4,id,hA]
 .have e:(((xs.length:Nat):Int)==4)=false:=by rw[E_];omega
  simp![it,fI,e,LU hl]
def tw{v:Val}(ha:iN 2 v=true):aF.G [v]=if gq v=true then .ok (.val .non) [] else .exc "NoBox" []:=by
 unfold aF;rw[ax];unfold kY;cases h:gq v with
 |true=>simp![pz ha,h]
 |false=>simp![pz ha,h]
def aN{b:Bx}(hb:b.Ok):aF.G [bV b]=.ok (.val .non) []:=by rw[tw (Ik b),CS hb];rfl
def Ni{v:Val}(h:ji v=false):iu v=false:=by cases v <;> first |rfl |cases h
def Bl(v:Val):fF v=false\/∃xs,v=.lst xs:=by cases v <;> first |exact .inr ⟨_,rfl⟩ |exact .inl rfl
def sO{v:Val}(hk:knV v=true):dZ.G [v]=.ok (.val (.bl (iu v))) []:=by
 have w:=iL hk;unfold dZ;rw[ax];unfold lu;rcases lT v with h |⟨i,rfl⟩
 .rw[h] at w;simp![w,Ni h]
 .simp![w,ji];rfl
def vw{v:Val}(hk:knV v=true):(bA cp).G [v,.ty "list"]=.val (.bl (fF v)):=by cases v <;> first |rfl |cases hk
noncomputable def yr (v:Val):R3F:=match v with
 |.lst xs=>if xs=[] then .exc "NoWeights" [] else if xs.all iu=true then (if xs.length<=40 then .ok (.val .non) [] else .exc "TooMany" []) else .exc "NoWeights" []
 |_=>.exc "NoWeights" []
def IZ{v:Val}(h:fF v=false):yr v=.exc "NoWeights" []:=by cases v <;> first |rfl |cases h
noncomputable def rS:Val->Bool
 |.lst xs=>decide (xs.length<=1000)&&xs.all knV
 |v=>knV v
def Fd{v:Val}(h:rS v=true)(hl:fF v=false):knV v=true:=by cases v <;> first |(cases hl;done) |exact h
theorem jj(f:Val->Bool):∀xs:List Val,jH (xs.map λv=>.bl (f v))=some (xs.map f)
 | []=>rfl
 |x::xs=>by show (jH (xs.map λv=>.bl (f v))).map (f x :: ·)=_;rw[jj f xs];rfl
def jr(f:Val->Bool)(xs:List Val):(xs.map f).all id=xs.all f:=by rw[List.all_map];rfl
def lZ{v:Val}(ha:rS v=true):aC.G [v]=yr v:=by
 unfold aC;rw[ax];unfold iD;rcases Bl v with hv |⟨xs,rfl⟩
 .have il:=vw (Fd ha hv);rw[hv] at il;rw[IZ hv];simp![il]
 .have ha':xs.length<=1000/\xs.all knV=true:=by simpa [rS] using ha
  have il:=vw (v:=.lst xs) rfl;unfold yr;dsimp only;by_cases h0:xs=[]
  .subst h0;simp![il]
  .have e0:(((xs.length:Nat):Int)==0)=false:=by rw[E_];intro z;exact h0 (List.length_eq_zero_iff.mp (by omega))
   rw[if_neg h0];obtain⟨e',p',lc⟩:=oM (g:=(gtN 0).G) (F:=(ai dZ (aa (af 0) ag)).G) (f:=λv=>.bl (iu v)) (λe=>∃s,e=[s]/\s.pl=true) xs [] [.no] ⟨.no,rfl,rfl⟩ (by
    rintro v hv e ⟨s,rfl,hs⟩;refine⟨[.sh v],.val (.bl (iu v)),[.sh v],?_,?_,rfl,⟨_,rfl,rfl⟩⟩
    .simp![hs]
    .simp![sO (NC.mp ha'.2 v hv)]) (by simp;omega)
   obtain⟨s',rfl,_⟩:=p';have cy:cY=qY.G:=rfl;rw[cy,NP] at lc;have a_:(xs.map λv=>Val.bl (iu v)).length<=16777216:=by rw[p_];omega
   by_cases hw:xs.all iu=true
   .rw[if_pos hw];by_cases h40:xs.length<=40
    .have hd:decide ((40:Int)<((xs.length:Nat):Int))=false:=Em (by omega);rw[if_pos h40];simp![il,e0,cu,lc,a_,jj,jr,hw,hd]
    .have hd:decide ((40:Int)<((xs.length:Nat):Int))=true:=H_ (by omega);rw[if_neg h40];simp![il,e0,cu,lc,a_,jj,jr,hw,hd]
   .have hw':xs.all iu=false:=Bool.eq_false_iff.mpr hw;rw[if_neg hw];simp![il,e0,cu,lc,a_,jj,jr,hw']
def dS{ws:List Int}(h0:ws≠[])(h1:∀w∈ws,1<=w)(h2:ws.length<=40):aC.G [.lst (ws.map .int)]=.ok (.val .non) []:=by
 have ha:rS (.lst (ws.map .int))=true:=by simp only[rS,v_,ON,p_];exact⟨by omega,by rw[NC];intro v hv;obtain⟨w,_,rfl⟩:=Nv.mp hv;rfl⟩
 rw[lZ ha];unfold yr;dsimp only;rw[if_neg (by intro z;exact h0 (Pa.mp z)),if_pos (by rw[NC];intro v hv;obtain⟨w,hw,rfl⟩:=Nv.mp hv;exact H_ (h1 w hw)),if_pos (by rw[p_];exact h2)]
def tD:aL (.str "down") (.str "across")=some false:=by rw[L3.eq_str (by decide) (by decide)];exact Nz some (by decide)
def um:aL (.str "across") (.str "across")=some true:=by rw[L3.eq_str (by decide) (by decide)];exact Nz some (by decide)
noncomputable def prV (p:Rat×Rat):Val:=.tup [fV p.1,fV p.2]
theorem vk{s l:Rat}{n m:Nat}{W:Int}{wv:Val}(hs:Sz n s)(hl:Sz n l)(hW:0<W)(mW:Sm m W)(h:n+n+m<=8000):∀(ws:List Int) (a:Int) (acc:List (Rat×Rat)) (s6 s7:Sl),s6.pl=true->s7.pl=true->0<=a->(∀w∈ws,0<=w)->a+ws.sum<=W->acc.length+ws.length<=16777216->∃s6' s7',eB (gtN 6).G iA.G (ws.map .int) [.sh (fV s),.sh (fV l),.sh wv,.sh (.int W),.sh (.int a),.ow (.lst (acc.map prV)),s6,s7]=.nx [.sh (fV s),.sh (fV l),.sh wv,.sh (.int W),.sh (.int (a+ws.sum)),.ow (.lst ((acc++shL s l W a ws).map prV)),s6',s7']
 | [],a,acc,s6,s7,h6,h7,ha,hw,hsum,a_=>⟨s6,s7,by rw[Nt,fD,List.sum_nil,Int.add_zero];unfold shL;rw[NJ]⟩
 |
  w::ws,a,acc,s6,s7,h6,h7,ha,hw,hsum,a_=>by
  have hw0:=hw w (r_ ..);have hws:0<=ws.sum:=by
   have:∀l:List Int,(∀w∈l,0<=w)->0<=l.sum:=by
    intro l;induction l with
    |nil=>intro _;simp
    |cons x l ih=>intro hx;rw[NA];have:=hx x (r_ ..);have:=ih λw hw=>hx w (q_ _ hw);omega
   exact this ws λx hx=>hw x (q_ _ hx)
  rw[NA] at hsum;rw[D_] at a_;have sa:Sm m a:=mW.of_le (by omega);have sw:Sm m w:=mW.of_le (by omega);have f1:=cz (a:=a) (b:=W) (by omega) (mW.mono (by omega));have f2:=cz (a:=w) (b:=W) (by omega) (mW.mono (by omega));have z1:Sz m ((a:Rat)/(W:Rat)):=Sz.div (by omega) sa mW m (u_ _) (u_ _);have z2:Sz m ((w:Rat)/(W:Rat)):=Sz.div (by omega) sw mW m (u_ _) (u_ _);have t1:=lY hl z1 (by omega);have t2:=lY hl z2 (by omega);have ad:=Du hs (hl.mul z1) (by omega);have ll:(acc.map prV).length<16777216:=by rw[p_];omega
  obtain⟨t6,t7,ih⟩:=vk (wv:=wv) hs hl hW mW h ws (a+w) (acc++[(s+l*((a:Rat)/(W:Rat)),l*((w:Rat)/(W:Rat)))]) (.sh (.int w)) (.sh (fV (s+l*((a:Rat)/(W:Rat))))) rfl rfl (by omega) (λx hx=>hw x (q_ _ hx)) (by omega) (by simp;omega);refine⟨t6,t7,?_⟩;have g1:(gtN 6).G (.int w) [.sh (fV s),.sh (fV l),.sh wv,.sh (.int W),.sh (.int a),.ow (.lst (acc.map prV)),s6,s7]=some [.sh (fV s),.sh (fV l),.sh wv,.sh (.int W),.sh (.int a),.ow (.lst (acc.map prV)),.sh (.int w),s7]:=by simp![h6]
  have b1:iA.G [.sh (fV s),.sh (fV l),.sh wv,.sh (.int W),.sh (.int a),.ow (.lst (acc.map prV)),.sh (.int w),s7]=.nx [.sh (fV s),.sh (fV l),.sh wv,.sh (.int W),.sh (.int (a+w)),.ow (.lst ((acc++[(s+l*((a:Rat)/(W:Rat)),l*((w:Rat)/(W:Rat)))]).map prV)),.sh (.int w),.sh (fV (s+l*((a:Rat)/(W:Rat))))]:=by unfold iA;rw[NU];simp![h7,f1,f2,t1,t2,ad,ll,prV]
  rw[t_,dG,g1];simp only[b1,qw];rw[ih,NA];rw[show shL s l W a (w::ws)=(s+l*((a:Rat)/(W:Rat)),l*((w:Rat)/(W:Rat)))::shL s l W (a+w) ws from rfl,Pp,show a+w+ws.sum=a+(w+ws.sum) by omega];rfl
def o7{s l:Rat}{n m:Nat}{ws:List Int}(hs:Sz n s)(hl:Sz n l)(hw:∀w∈ws,0<=w)(h0:0<ws.sum)(mW:Sm m ws.sum)(h:n+n+m<=8000)(a_:ws.length<=1000):fS.G [fV s,fV l,.lst (ws.map .int)]=.ok (.new (.lst ((shL s l ws.sum 0 ws).map prV))) []:=by obtain⟨s6,s7,lo⟩:=vk (wv:=.lst (ws.map .int)) hs hl h0 mW h ws 0 [] .no .no rfl rfl (by omega) hw (by omega) (by simp;omega);rw[NP,Nt] at lo;unfold fS;rw[ax];unfold sQ;simp![lo]
def HQ{way:Str}(hw:way="across" \/ way="down"):fg.G [.str way]=.ok (.val .non) []:=by
 have i1:∀x:Str,(bA cp).G [.str x,.ty "str"]=.val (.bl true):=λ_=>rfl;have i2:bIn.G (.str way) (.tup [.str "across",.str "down"])=.val (.bl true):=by rcases hw with rfl |rfl <;> rfl
 have e1:d9.G [.str way]=.ok (.val (.bl true)) []:=by unfold d9;rw[ax];unfold l9;simp![i1,i2]
 unfold fg;rw[ax];unfold lj;simp![e1]
def j9{b:Bx}{n m:Nat}{way:Str}{ws:List Int}(hb:b.Ok)(hs:b.Sz n)(hway:way="across" \/ way="down")(h0:ws≠[])(hw:∀w∈ws,1<=w)(mW:Sm m ws.sum)(h:n+n+m<=8000)(a_:ws.length<=40):eE.G [bV b,.str way,.lst (ws.map .int)]=.ok (.new (.lst ((ay b way ws).map bV))) []:=by
 have cw:=dS h0 hw a_;have cy:=HQ hway;have sp:0<ws.sum:=by
  cases ws with
  |nil=>exact absurd rfl h0
  |
   cons x l=>
   rw[NA]
   have:=hw x (r_ ..)
   have:∀l:List Int,(∀w∈l,1<=w)->0<=l.sum:=by
    intro l;induction l with
    |nil=>intro _;simp
    |cons x l ih=>intro hx;rw[NA];have:=hx x (r_ ..);have:=ih λw hw=>hx w (q_ _ hw);omega
   have:=this l λx hx=>hw x (q_ _ hx)
   omega
 have cb:aF.G [.tup [fV b.l,fV b.t,fV b.w,fV b.h]]=.ok (.val .non) []:=aN hb;have sh1:=o7 hs.l hs.w (λw z=>by have:=hw w z;omega) sp mW h (by omega);have sh2:=o7 hs.t hs.h (λw z=>by have:=hw w z;omega) sp mW h (by omega);show eE.G [.tup [fV b.l,fV b.t,fV b.w,fV b.h],.str way,.lst (ws.map .int)]=_;unfold eE ay;rw[ax];unfold rN;rcases hway with rfl |rfl
 .rw[if_pos (rfl:("across" : Str)="across")];have ln:=iR b.l b.w ws.sum ws 0;obtain⟨e',⟨s,t,rfl,_,_⟩,lc⟩:=cJ (g:=(gtT 2 (aV (gtN 0) (aV (gtN 1) dO))).G) (F:=(ba (aa (af 0) (aa (af 2) (aa (af 1) (aa (af 3) ag))))).G) prV (λp=>bV ⟨p.1,b.t,p.2,b.h⟩) (λe=>∃s t,e=[s,t,.sh (fV b.t),.sh (fV b.h)]/\s.pl=true/\t.pl=true) (shL b.l b.w ws.sum 0 ws) [] [.no,.no,.sh (fV b.t),.sh (fV b.h)] ⟨.no,.no,rfl,rfl,rfl⟩ (by
   rintro p hp e ⟨s,t,rfl,hs,ht⟩;refine⟨[.sh (fV p.1),.sh (fV p.2),.sh (fV b.t),.sh (fV b.h)],.val (bV ⟨p.1,b.t,p.2,b.h⟩),[.sh (fV p.1),.sh (fV p.2),.sh (fV b.t),.sh (fV b.h)],?_,?_,rfl,⟨_,_,rfl,rfl,rfl⟩⟩
   .simp![prV,hs,ht]
   .simp![bV]) (by rw[ln,Nr];omega)
  rw[NP] at lc;have ll:((shL b.l b.w ws.sum 0 ws).map λp=>bV ⟨p.1,b.t,p.2,b.h⟩).length<=16777216:=by rw[p_,ln];omega
  rw[Nu,show (bV ∘ λp:Rat×Rat=>(⟨p.1,b.t,p.2,b.h⟩:Bx))=λp=>bV ⟨p.1,b.t,p.2,b.h⟩ from rfl];simp![cb,cy,cw,um,sh1,lc,ll]
 .have hne:¬ (("down" : Str)="across"):=by decide
  rw[if_neg hne];have ln:=iR b.t b.h ws.sum ws 0;obtain⟨e',⟨s,t,rfl,_,_⟩,lc⟩:=cJ (g:=(gtT 2 (aV (gtN 0) (aV (gtN 1) dO))).G) (F:=(ba (aa (af 2) (aa (af 0) (aa (af 3) (aa (af 1) ag))))).G) prV (λp=>bV ⟨b.l,p.1,b.w,p.2⟩) (λe=>∃s t,e=[s,t,.sh (fV b.l),.sh (fV b.w)]/\s.pl=true/\t.pl=true) (shL b.t b.h ws.sum 0 ws) [] [.no,.no,.sh (fV b.l),.sh (fV b.w)] ⟨.no,.no,rfl,rfl,rfl⟩ (by
   rintro p hp e ⟨s,t,rfl,hs,ht⟩;refine⟨[.sh (fV p.1),.sh (fV p.2),.sh (fV b.l),.sh (fV b.w)],.val (bV ⟨b.l,p.1,b.w,p.2⟩),[.sh (fV p.1),.sh (fV p.2),.sh (fV b.l),.sh (fV b.w)],?_,?_,rfl,⟨_,_,rfl,rfl,rfl⟩⟩
   .simp![prV,hs,ht]
   .simp![bV]) (by rw[ln,Nr];omega)
  rw[NP] at lc;have ll:((shL b.t b.h ws.sum 0 ws).map λp=>bV ⟨b.l,p.1,b.w,p.2⟩).length<=16777216:=by rw[p_,ln];omega
  rw[Nu,show (bV ∘ λp:Rat×Rat=>(⟨b.l,p.1,b.w,p.2⟩:Bx))=λp=>bV ⟨b.l,p.1,b.w,p.2⟩ from rfl];simp![cb,cy,cw,tD,sh2,lc,ll]
theorem iG{f:Nat->Val}(v:Val):∀(N:Nat) (st:List AT) (acc:List Nat) (s3:Sl),AT.cntL st<=N->s3.pl=true->(∀k∈AT.lvsL st,lfV (f k)=true)->acc.length+AT.cntL st<=100000->
 ∃(l:List Nat) (s3':Sl),l.Perm (AT.lvsL st)/\(xWh (qTr (af 2)) cI).G [.sh v,.ow (.lst (acc.map f)),.ow (.lst (st.map (AT.val f))),s3]=.nx [.sh v,.ow (.lst ((acc++l).map f)),.ow (.lst []),s3']
 |
  N,[],acc,s3,_,_,_,_=>⟨[],s3,.nil,by
  rw[gD,NJ];simp![Nt,oT,List.isEmpty_nil]⟩
 |
  0,t::ts,acc,s3,h,_,_,_=>by
  rw[AT.cntL] at h;cases t <;> (rw[AT.cnt] at h;omega)
 |
  N+1,t0::ts0,acc,s3,hN,h3,hf,hl=>by
  obtain⟨st,t,hst⟩:∃st t,t0::ts0=st++[t]:=⟨(t0::ts0).dropLast,(t0::ts0).getLast (by simp),(List.dropLast_concat_getLast (by simp)).symm⟩;rw[hst] at hN hf hl ⊢;rw[AT.lvsL_app] at hf;rw[AT.lvsL_app];rw[AT.cntL_app] at hN hl;have hn0:((st++[t]).map (AT.val f)).isEmpty=false:=by cases st <;> rfl
  have c1:(qTr (af 2)).G [.sh v,.ow (.lst (acc.map f)),.ow (.lst ((st++[t]).map (AT.val f))),s3]=.ok true [.sh v,.ow (.lst (acc.map f)),.ow (.lst ((st++[t]).map (AT.val f))),s3]:=by simp![oT,hn0,Bool.not_false]
  rw[gD,c1];show ∃l s3',_/\((cI.G _).loop _)=_;rw[NU,t_,Nt];cases t with
  |
   lf k=>
   simp only[AT.lvsL,AT.lvs,NJ,AT.cntL,AT.cnt] at hf hN hl ⊢;obtain⟨l,s3',q1,q2⟩:=iG (f:=f) v N st (acc++[k]) (.sh (f k)) (by omega) rfl (λj hj=>hf j (by simp [hj])) (by rw[K_];simp only[D_,Nr];omega);refine⟨k::l,s3',((q1.cons k).trans (List.perm_append_comm (l₁:=[k]) (l₂:=AT.lvsL st))),?_⟩;have i1:(bA cp).G [f k,.ty "tuple"]=.val (.bl false):=by
    have:=hf k (by simp)
    generalize f k=a at *;cases a <;> first |rfl |(cases this;done)
   have al:(acc.map f).length<16777216:=by rw[p_];omega
   have bb:cI.G [.sh v,.ow (.lst (acc.map f)),.ow (.lst (st.map (AT.val f)++[AT.val f (.lf k)])),s3]=.nx [.sh v,.ow (.lst ((acc++[k]).map f)),.ow (.lst (st.map (AT.val f))),.sh (f k)]:=by unfold cI;rw[AT.val,NU,t_,Nt];generalize f k=a at *;simp![mE,h3,i1,al]
   rw[bb,show acc++k::l=acc++[k]++l by simp];exact q2
  |
   nd w ts=>
   simp only[AT.lvsL,AT.lvs,NJ,AT.cntL,AT.cnt] at hf hN hl ⊢;obtain⟨l,s3',q1,q2⟩:=iG (f:=f) v N (st++ts) acc (.sh (AT.val f (.nd w ts))) (by rw[AT.cntL_app];omega) rfl (by rw[AT.lvsL_app];exact hf) (by rw[AT.cntL_app];omega);rw[AT.lvsL_app] at q1;refine⟨l,s3',q1,?_⟩;have i1:∀xs:List Val,(bA cp).G [.tup xs,.ty "tuple"]=.val (.bl true):=λ_=>rfl;have le:∀l:List AT,l.length<=AT.cntL l:=by
    intro l;induction l with
    |nil=>exact u_ _
    |cons t l ih=>rw[AT.cntL,D_];cases t <;> (rw[AT.cnt];omega)
   have ll:(st.map (AT.val f)).length+(ts.map (AT.val f)).length<=16777216:=by
    have:=le st
    have:=le ts
    rw[p_,p_];omega
   rw[AT.val,AT.vals_map] at q2 ⊢;rw[NU] at q2;have bb:cI.G [.sh v,.ow (.lst (acc.map f)),.ow (.lst (st.map (AT.val f)++[.tup [.str (wy w),.tup (ts.map (AT.val f))]])),s3]=.nx [.sh v,.ow (.lst (acc.map f)),.ow (.lst (st.map (AT.val f)++ts.map (AT.val f))),.sh (.tup [.str (wy w),.tup (ts.map (AT.val f))])]:=by unfold cI;simp![mE,h3,i1,yb,pG,ll]
   rw[bb];exact q2
def AD{f:Nat->Val}{t:AT}(hf:∀k∈t.lvs,lfV (f k)=true)(hc:t.cnt<=100000):∃l:List Nat,l.Perm t.lvs/\d5.G [t.val f]=.ok (.new (.lst (l.map f))) []:=by
 have e1:AT.lvsL [t]=t.lvs:=by simp [AT.lvsL]
 have e2:AT.cntL [t]=t.cnt:=by simp [AT.cntL]
 obtain⟨l,s3',q1,q2⟩:=iG (f:=f) (t.val f) (AT.cntL [t]) [t] [] .no (u_ _) rfl (by rw[e1];exact hf) (by rw[e2,Nr];omega);rw[e1] at q1;refine⟨l,q1,?_⟩;rw[t_,Nt,Nt,NP] at q2;unfold d5;rw[ax];unfold kZ;generalize t.val f=tv at *;simp![q2]
def uv{ws:List Int}{l:List Nat}(hl:l.length<=1000)(hi:∀k∈l,k<ws.length):∃s,lcV (gtN 0).G qY.G (pOp bIx (af 1) (af 0)).G (l.map λk:Nat=>.int k) [] [.no,.sh (liV ws)]=.ok ((l.map λk=>ws.getD k 0).map .int) [s,.sh (liV ws)]:=by
 obtain⟨e',⟨s,rfl,_⟩,lc⟩:=cJ (g:=(gtN 0).G) (F:=(pOp bIx (af 1) (af 0)).G) (λk:Nat=>Val.int k) (λk:Nat=>Val.int (ws.getD k 0)) (λe=>∃s:Sl,e=[s,.sh (liV ws)]/\s.pl=true) l [] [.no,.sh (liV ws)] ⟨.no,rfl,rfl⟩ (by
  rintro k hk _ ⟨s,rfl,hs⟩;have h1:=hi k hk;have a1:atI (ws.map Val.int) (k:Nat)=some (.int (ws.getD k 0)):=aR (by omega) (by rw[Nq];show (ws[k]?).map _=_;rw[L_,B_ h1];rfl);refine⟨[.sh (.int (k:Nat)),.sh (liV ws)],.val (.int (ws.getD k 0)),[.sh (.int (k:Nat)),.sh (liV ws)],?_,?_,rfl,_,rfl,rfl⟩
  .simp![hs]
  .unfold liV;simp![a1]) (by rw[Nr];omega)
 exact⟨s,by rw[Nu];exact lc⟩
def uE{ws:List Int}{b:Bx}{w:Bool}{ts:List AT}{n m:Nat}(h:AT.lay ws n m (.nd w ts) b)(hnm:n+n+m<=8000)(hi:∀k∈AT.lvsL ts,k<ws.length)(hl:(AT.lvsL ts).length<=1000)(hc:AT.cntL ts<=100000):fL.G [bV b,liV ws,atV (.nd w ts)]=.ok (.new (.lst ((ay b (wy w) (ts.map (wtT ws))).map bV))) []:=by
 rw[AT.lay] at h;obtain⟨h1,h2,h3,h4,h5,h6,_⟩:=h;have ew:wy w="across" \/ wy w="down":=by cases w;exact .inr rfl;exact .inl rfl
 have pe:=j9 h1 h2 ew (ws:=ts.map (wtT ws)) (by simpa using h3) (λx hx=>by obtain⟨t,ht,rfl⟩:=Nv.mp hx;exact h5 t ht) h6 hnm (by rw[p_];exact h4);have cle:∀t∈ts,t.cnt<=AT.cntL ts:=λt ht=>AT.cnt_le ht;have lle:∀t∈ts,t.lvs.length<=(AT.lvsL ts).length:=λt ht=>AT.lvs_le ht;obtain⟨e',⟨s,rfl,_⟩,lc⟩:=cJ (g:=(gtN 0).G) (F:=(pFn bX (aa (pLC (cq (ai d5 (aa (af 0) ag))) [none,some 1] (by decide) (gtN 0) qY (pOp bIx (af 1) (af 0))) ag)).G) atV (λt=>Val.int (wtT ws t)) (λe=>∃s:Sl,e=[s,.sh (liV ws)]/\s.pl=true) ts [] [.no,.sh (liV ws)] ⟨.no,rfl,rfl⟩ (by
  rintro t ht _ ⟨s,rfl,hs⟩;obtain⟨l,lp,e1⟩:=AD (f:=λk=>.int (k:Nat)) (t:=t) (λ_ _=>rfl) (by have:=cle t ht;omega);rw[show AT.val (λk=>Val.int (k:Nat)) t=atV t from rfl] at e1;obtain⟨s',lc⟩:=uv (ws:=ws) (l:=l) (by rw[lp.length_eq];have:=lle t ht;omega) (λk hk=>hi k (AT.lvsL_mem.mpr ⟨t,ht,lp.mem_iff.mp hk⟩));have ll:((l.map λk=>ws.getD k 0).map Val.int).length<=16777216:=by rw[p_,p_,lp.length_eq];have:=lle t ht;omega
  have sm:(l.map λk=>ws.getD k 0).sum=wtT ws t:=C3 lp;refine⟨[.sh (atV t),.sh (liV ws)],.val (.int (wtT ws t)),[.sh (atV t),.sh (liV ws)],?_,?_,rfl,_,rfl,rfl⟩
  .generalize atV t=tv at *;simp![hs]
  .rw[<- sm];generalize atV t=tv at *;generalize liV ws=wv at *;generalize (l.map λk:Nat=>Val.int (k:Nat))=LV at *;simp![e1,cu,inS,lc,ll]) (by rw[Nr];omega)
 have av:atV (.nd w ts)=.tup [.str (wy w),.tup (ts.map atV)]:=by unfold atV;rw[AT.val,AT.vals_map]
 have lm:ts.map (λt=>Val.int (wtT ws t))=(ts.map (wtT ws)).map .int:=by rw[Nu];rfl
 have l2:((ts.map (wtT ws)).map Val.int).length<=16777216:=by rw[p_,p_];omega
 rw[NP,lm] at lc;rw[av];generalize (ay b (wy w) (ts.map (wtT ws))).map bV=PB at *;generalize (ts.map (wtT ws)).map Val.int=SV at *;generalize ts.map atV=TV at *;generalize liV ws=wv at *;generalize bV b=bv at *;unfold fL;rw[ax];unfold mJ;simp![cu,inS,lc,l2,pe]
theorem mH{ws:List Int}{n m k:Nat}(rv tv:Val):∀(ts:List AT) (bs:List Bx) (kvs:List (Key×Val)) (s4 s5:Sl),s4.pl=true->s5.pl=true->ts.length=bs.length->(∀(t:AT) (b:Bx) (kvs:List (Key×Val)),t∈ts->AT.lay ws n m t b->kvs.length+t.lvs.length<=100000->(d0 k).G [bV b,liV ws,atV t,.dct kvs]=.ok (.val .non) [.dct (cV kvs (AT.bx ws t b))])->AT.layL ws n m ts bs->kvs.length+(AT.lvsL ts).length<=100000->
 ∃s4' s5',eB (gtX (gtT 2 (aV (gtN 4) (aV (gtN 5) dO)))).G (jF (d0 k)).G (List.zipWith (λx y=>Val.tup [x,y]) (ts.map atV) (bs.map bV)) [.sh rv,.sh (liV ws),.sh tv,.mu (.dct kvs),s4,s5]=.nx [.sh rv,.sh (liV ws),.sh tv,.mu (.dct (cV kvs (AT.bxL ws ts bs))),s4',s5']
 | [],bs,kvs,s4,s5,_,_,_,_,_,_=>⟨s4,s5,by cases bs <;> rfl⟩
 |t::ts,[],kvs,s4,s5,_,_,h,_,_,_=>nomatch h
 |
  t::ts,b::bs,kvs,s4,s5,h4,h5,hl,hp,hy,hk=>by
  rw[AT.layL] at hy;rw[AT.lvsL,K_] at hk;have e1:=hp t b kvs (r_ ..) hy.1 (by omega);have a_:=sE (AT.bx ws t b) kvs;have hfst:=(AT.bx_fst ws t b).1;obtain⟨s4',s5',q⟩:=mH rv tv ts bs (cV kvs (AT.bx ws t b)) (.sh (atV t)) (.sh (bV b)) rfl rfl (by simpa using hl) (λu c kv hu=>hp u c kv (q_ _ hu)) hy.2 (by omega);refine⟨s4',s5',?_⟩;rw[AT.bxL,Dj,t_,t_,List.zipWith_cons_cons,dG];generalize cV kvs (AT.bx ws t b)=kvs1 at *;generalize atV t=av at *;generalize bV b=bv at *;generalize liV ws=wv at *;have g1:(gtX (gtT 2 (aV (gtN 4) (aV (gtN 5) dO)))).G (.tup [av,bv]) [.sh rv,.sh wv,.sh tv,.mu (.dct kvs),s4,s5]=some [.sh rv,.sh wv,.sh tv,.mu (.dct kvs),.sh av,.sh bv]:=by simp![h4,h5]
  have b1:(jF (d0 k)).G [.sh rv,.sh wv,.sh tv,.mu (.dct kvs),.sh av,.sh bv]=.nx [.sh rv,.sh wv,.sh tv,.mu (.dct kvs1),.sh av,.sh bv]:=by unfold jF;simp![e1]
  rw[g1];dsimp only;rw[b1];exact q
def xU(b:Bx)(way:Str)(ws:List Int):(ay b way ws).length=ws.length:=by unfold ay;split <;> rw[p_,iR]
def BB{ws:List Int}{n m:Nat}(hnm:n+n+m<=8000)(t:AT):∀(k:Nat) (b:Bx) (kvs:List (Key×Val)),t.dep<=k->AT.lay ws n m t b->(∀i∈t.lvs,i<ws.length)->t.lvs.length<=1000->t.cnt<=100000->kvs.length+t.lvs.length<=100000->(d0 k).G [bV b,liV ws,atV t,.dct kvs]=.ok (.val .non) [.dct (cV kvs (AT.bx ws t b))]:=by
 induction t using AT.ind with
 |
  h1 x=>
  intro k b kvs hd _ _ _ _ hk;cases k with
  |zero=>simp [AT.dep] at hd
  |
   succ k=>
   have i1:(bA cp).G [.int (x:Nat),.ty "tuple"]=.val (.bl false):=rfl;have kl:kvs.length<16777216:=by omega
   have av:atV (.lf x)=.int (x:Nat):=rfl;have pe:cV kvs (AT.bx ws (.lf x) b)=fq kvs (.inl (x:Nat)) (bV b):=by rw[AT.bx];rfl
   show (PFx.of [false,false,false,true] 6 (gT (d0 k))).G [bV b,liV ws,atV (.lf x),.dct kvs]=_;rw[kK,av,pe];unfold gT;generalize bV b=bv at *;generalize liV ws=wv at *;simp![i1,Iu,kl]
 |
  h2 w ts ih=>
  intro k b kvs hd hy hi hl hc hk;cases k with
  |zero=>simp [AT.dep] at hd
  |
   succ k=>
   rw[AT.dep] at hd;rw[AT.lvs] at hi hl hk;rw[AT.cnt] at hc;have hd':=AT.depL_le.mp (show AT.depL ts<=k by omega);have pe:=uE hy hnm hi hl (by omega);have hy':=hy;rw[AT.lay] at hy';obtain⟨s4,s5,lo⟩:=mH (ws:=ws) (n:=n) (m:=m) (k:=k) (bV b) (atV (.nd w ts)) ts (ay b (wy w) (ts.map (wtT ws))) kvs .no .no rfl rfl (by rw[xU,p_]) (λt c kv ht hy2 hk2=>ih t ht k c kv (hd' t ht) hy2 (λi hi2=>hi i (AT.lvsL_mem.mpr ⟨t,ht,hi2⟩)) (by have:=AT.lvs_le ht;omega) (by have:=AT.cnt_le ht;omega) hk2) hy'.2.2.2.2.2.2 hk;have av:atV (.nd w ts)=.tup [.str (wy w),.tup (ts.map atV)]:=by unfold atV;rw[AT.val,AT.vals_map]
   have bxe:AT.bx ws (.nd w ts) b=AT.bxL ws ts (ay b (wy w) (ts.map (wtT ws))):=by rw[AT.bx]
   show (PFx.of [false,false,false,true] 6 (gT (d0 k))).G [bV b,liV ws,atV (.nd w ts),.dct kvs]=_;rw[kK,bxe];unfold gT;rw[av] at pe lo ⊢;have i1:∀xs:List Val,(bA cp).G [.tup xs,.ty "tuple"]=.val (.bl true):=λ_=>rfl;generalize cV kvs (AT.bxL ws ts (ay b (wy w) (ts.map (wtT ws))))=kvs1 at *;generalize (ay b (wy w) (ts.map (wtT ws))).map bV=PB at *;generalize ts.map atV=TV at *;generalize bV b=bv at *;generalize liV ws=wv at *;simp![i1,yb,pe,lo]
def ue{ws:List Int}{n m:Nat}{b:Bx}{t:AT}(hnm:n+n+m<=8000)(hb:b.Ok)(h0:ws≠[])(hw:∀w∈ws,1<=w)(h40:ws.length<=40)(ho:t.ok=true)(hi:∀k,k∈t.lvs ↔ k<ws.length)(nd:t.lvs.Nodup)(hl:t.lvs.length=ws.length)(hd:t.dep<=42)(hy:AT.lay ws n m t b):eQ.G [bV b,liV ws,atV t]=.ok (.new (.lst ((List.range ws.length).map λk=>bV (bxO (AT.bx ws t b) k)))) []:=by
 have hc:=AT.cnt_lvs t ho;have cb:=aN hb;have cw:=dS h0 hw h40;have ct:=pJ (n:=ws.length) ho (λk hk=>(hi k).mp hk) nd hl (by omega) (by omega);have pl:=BB (ws:=ws) hnm t 42 b [] hd hy (λk hk=>(hi k).mp hk) (by omega) (by omega) (by rw[Nr];omega);have ll:((ws.map Val.int).length:Nat)=ws.length:=p_ ..;have rg:jz [.int (ws.length:Nat)]=some (rgV ws.length):=oP (by omega);have keys:=AT.bx_keys ws t b;obtain⟨e',⟨s,rfl,_⟩,lc⟩:=cJ (g:=(gtN 0).G) (F:=(pOp wW (af 1) (af 0)).G) (λk:Nat=>Val.int k) (λk:Nat=>bV (bxO (AT.bx ws t b) k)) (λe=>∃s:Sl,e=[s,.mu (.dct (cV [] (AT.bx ws t b)))]/\s.pl=true) (List.range ws.length) [] [.no,.mu (.dct (cV [] (AT.bx ws t b)))] ⟨.no,rfl,rfl⟩ (by
  rintro k hk _ ⟨s,rfl,hs⟩;rw[M_] at hk;have lk:=Mb ((wB (k:=k) (AT.bx ws t b) [] (by rw[keys];exact nd)).1 (by rw[keys];exact (hi k).mpr hk));generalize cV [] (AT.bx ws t b)=kv at *;generalize bV (bxO (AT.bx ws t b) k)=bv at *;refine⟨[.sh (.int (k:Nat)),.mu (.dct kv)],.val bv,[.sh (.int (k:Nat)),.mu (.dct kv)],?_,?_,rfl,_,rfl,rfl⟩
  .simp![hs]
  .simp![lk]) (by rw[Nr,w_];omega)
 have l2:((List.range ws.length).map λk=>bV (bxO (AT.bx ws t b) k)).length<=16777216:=by simp;omega
 rw[NP] at lc;rw[show (List.range ws.length).map (λk:Nat=>Val.int k)=rgV ws.length from rfl] at lc;generalize (List.range ws.length).map (λk=>bV (bxO (AT.bx ws t b) k))=RB at *;generalize cV [] (AT.bx ws t b)=kv at *;unfold liV at pl ⊢;generalize atV t=tv at *;generalize bV b=bv at *;unfold eQ;rw[ax];unfold nD;simp![cb,cw,ll,ct,pl,rg,cu,inS,lc,l2]
def ou{ns:List Int}{k:Int}(hk:0<=k):∃a,dJ.G [.kl (ns.map .int),.int k]=.ok (.new (fdV a 0 k)) []:=by
 unfold dJ;rw[ax];unfold mZ fdV;by_cases h0:ns.length=0
 .have e:((((ns.map Val.int).length:Nat):Int)==0)=true:=by rw[NB,p_];omega
  exact⟨0,by simp![e]⟩
 .have e:((((ns.map Val.int).length:Nat):Int)==0)=false:=by rw[E_,p_];omega
  have e1:cH.G (.int k) (.int ((ns.map Val.int).length:Nat))=.val (.int (k.fmod ((ns.map Val.int).length:Nat))):=fN (by rw[p_];omega);have r:=eC (a:=k) (m:=((ns.map Val.int).length:Nat)) (by rw[p_];omega);rw[p_] at r e1;have hi:(k.fmod (ns.length:Nat)).toNat<ns.length:=by omega
  have at1:atI (ns.map Val.int) (k.fmod (ns.length:Nat))=some (.int ns[(k.fmod (ns.length:Nat)).toNat]):=aR r.1 (by rw[Nq,B_ hi];rfl);rw[p_] at e;exact⟨ns[(k.fmod (ns.length:Nat)).toNat],by simp![p_,e,e1,at1]⟩
def pow6:eA.G (.int 10) (.int 6)=.val (.int 1000000):=kP ⟨by decide,by decide,by decide⟩
def Ms:jz [.int 6]=some [.int 0,.int 1,.int 2,.int 3,.int 4,.int 5]:=wb (i:=6) (by decide) (by decide)
def fX{a b k far:Int}(h0:0<=far)(hf:far.natAbs<=2000000000000000000000000000000):∃r a' b',bD.G [fdV a b k,.int far]=.ok (.val (.int r)) [fdV a' b' k]/\-far<=r/\r<=far:=by obtain⟨r1,a1,b1,e1,_,_⟩:=az (a:=a) (b:=b) (k:=k) (m:=1000000) (by decide) (sm8 (by decide));obtain⟨r2,a2,b2,e2,_,_⟩:=az (a:=a1) (b:=b1) (k:=k) (m:=1000000) (by decide) (sm8 (by decide));obtain⟨r3,a3,b3,e3,_,_⟩:=az (a:=a2) (b:=b2) (k:=k) (m:=1000000) (by decide) (sm8 (by decide));obtain⟨r4,a4,b4,e4,_,_⟩:=az (a:=a3) (b:=b3) (k:=k) (m:=1000000) (by decide) (sm8 (by decide));obtain⟨r5,a5,b5,e5,_,_⟩:=az (a:=a4) (b:=b4) (k:=k) (m:=1000000) (by decide) (sm8 (by decide));obtain⟨r6,a6,b6,e6,_,_⟩:=az (a:=a5) (b:=b5) (k:=k) (m:=1000000) (by decide) (sm8 (by decide));have c6:∀x:Int,aY.G (.int x) (.int 1000000)=.val (.int (x*1000000)):=λx=>bz (CMulA.right (by decide) (by decide));have c2:aY.G (.int 2) (.int far)=.val (.int (2*far)):=bz (CMulA.left (by decide) (by decide));have c3:∀x:Int,cH.G (.int x) (.int (2*far+1))=.val (.int (x.fmod (2*far+1))):=λx=>fN (by omega);have fr:=eC (a:=(((((0*1000000+r1)*1000000+r2)*1000000+r3)*1000000+r4)*1000000+r5)*1000000+r6) (m:=2*far+1) (by omega);refine⟨((((((0*1000000+r1)*1000000+r2)*1000000+r3)*1000000+r4)*1000000+r5)*1000000+r6).fmod (2*far+1)-far,a6,b6,?_,by omega,by omega⟩;unfold bD;rw[ax];unfold kX j5;unfold fdV at *;simp![Ms,dG,pow6,c6,e1,e2,e3,e4,e5,e6,c2,c3,Int.reduceMul]
theorem rV(x y:Val):∀(n one b_:Nat),b_<=n->(xWh (qOf (pOp bGt (af 3) (ah 0))) gJ).G [.sh x,.sh y,.sh (.int (one:Nat)),.sh (.int (b_:Nat))]=.nx [.sh x,.sh y,.sh (.int (Nat.gcd one b_:Nat)),.sh (.int 0)]
 |
  n,one,0,_=>by
  rw[gD];simp![Nat.gcd_zero_right,Int.natCast_zero,Int.lt_irrefl]
 |0,one,b_+1,hl=>absurd hl (by omega)
 |
  n+1,one,b_+1,hl=>by
  rw[gD];have e:decide ((0:Int)<((b_+1:Nat):Int))=true:=H_ (by omega);have e1:cH.G (.int (one:Nat)) (.int ((b_+1:Nat):Int))=.val (.int (((one:Nat):Int).fmod ((b_+1:Nat):Int))):=fN (by omega);have e2:((one:Nat):Int).fmod ((b_+1:Nat):Int)=((one % (b_+1):Nat):Int):=by rw[Int.fmod_eq_emod_of_nonneg _ (by omega)];rfl
  have ih:=rV x y n (b_+1) (one % (b_+1)) (by have:=Nat.mod_lt one (show b_+1>0 by omega);omega);rw[Fr.euc] at ih;rw[e2] at e1;have bb:gJ.G [.sh x,.sh y,.sh (.int (one:Nat)),.sh (.int ((b_+1:Nat):Int))]=.nx [.sh x,.sh y,.sh (.int ((b_+1:Nat):Int)),.sh (.int ((one % (b_+1):Nat):Int))]:=by unfold gJ;simp![e1]
  simp![e,bb,ih]
def eW{a b:Int}(hb:b≠0)(hs:Sm 8000 b):bj.G [.int a,.int b]=.ok (.val (fV ((a:Rat)/(b:Rat)))) []:=by
 unfold bj;rw[ax];unfold ph;have lo:=rV (.int a) (.int b) b.natAbs a.natAbs b.natAbs (u_ _);rw[show Nat.gcd a.natAbs b.natAbs=Int.gcd a b from rfl] at lo;have c:∀x,CDivB x (Fr.dv a b):=λx=>CDivB.of (Fr.dv_ne hb) (hs.of_le (by rw[Fr.dv_abs];exact Nat.le_of_dvd (by omega) (Nat.gcd_dvd_right a.natAbs b.natAbs)));have k1:=kE (c a);have k2:=kE (c b);have hh:=mB (a:=a) hb;have d_:Val.tup [.int (a.fdiv (Fr.dv a b)),.int (b.fdiv (Fr.dv a b))]=fV ((a:Rat)/(b:Rat)):=by unfold fV;rw[<- hh.1,<- hh.2];rfl
 by_cases hn:b<0
 .have hd:Fr.dv a b=0-((Int.gcd a b:Nat):Int):=by unfold Fr.dv;rw[if_pos hn];omega
  rw[hd] at k1 k2 d_;simp![gO,lo,H_ hn,k1,k2,d_]
 .have hd:Fr.dv a b=((Int.gcd a b:Nat):Int):=by unfold Fr.dv;rw[if_neg hn]
  rw[hd] at k1 k2 d_;simp![gO,lo,Em hn,k1,k2,d_]
def p30:eA.G (.int 10) (.int 30)=.val (.int 1000000000000000000000000000000):=kP ⟨by decide,by decide,by decide⟩
def rmQ(k:Int)(r:SR3):Prop:=∃b a c,Good b/\lN [true] r=.ok (.val (bV b)) [fdV a c k]
def rmI(k way:Int)(e:E3):Prop:=∃b x a c,Good b/\x.pl=true/\e=[.mu (fdV a c k),.sh (.int way),.sh (fV b.l),.sh (fV b.t),.sh (fV b.w),.sh (fV b.h),x]
def gL{r:Int}(h:0<=r):0<1+r:=by omega
def xq{r:Int}(h:0<=r):1+r≠0:=by omega
def iE{r m:Int}(h0:0<=r)(h1:r<m)(hm:m<=1000):(1+r).natAbs<=2000000000000000000000000000000:=by omega
def qL{r m c:Int}(h0:0<=r)(h1:r<m)(hm:m<=1000)(hc:0<=c/\c<=1000):(r-c).natAbs<=2000000000000000000000000000000:=by omega
def nS{r far:Int}(h0:-far<=r)(h1:r<=far)(hf:far<=1000000000000000000000000000000):r.natAbs<=2000000000000000000000000000000/\(1+((r.natAbs:Nat):Int)).natAbs<=2000000000000000000000000000000:=by omega
def qb{r:Int}:0<1+((r.natAbs:Nat):Int):=by omega
def Ac{r:Int}(h:0<r):r≠0:=by omega
def EE(a c k:Int):∃b a' c',Good b/\fO.G [fdV a c k]=.ok (.val (bV b)) [fdV a' c' k]:=by
 unfold fO;rw[wX rfl];show rmQ k (ju.G [.mu (fdV a c k),.no,.no,.no,.no,.no,.no]);unfold ju;obtain⟨way,a1,c1,e1,hw0,hw1⟩:=az (a:=a) (b:=c) (k:=k) (m:=6) (by decide) (sm8 (by decide));refine aE (λe=>e=[.mu (fdV a1 c1 k),.sh (.int way),.no,.no,.no,.no,.no]) ⟨_,by simp![e1],rfl⟩ ?_;rintro _ rfl;obtain⟨l,a2,c2,e2,hl0,hl1⟩:=az (a:=a1) (b:=c1) (k:=k) (m:=19) (by decide) (sm8 (by decide));obtain⟨t,a3,c3,e3,ht0,ht1⟩:=az (a:=a2) (b:=c2) (k:=k) (m:=19) (by decide) (sm8 (by decide));refine aE (λe=>e=[.mu (fdV a3 c3 k),.sh (.int way),.sh (fV ((l-9:Int):Rat)),.sh (fV ((t-9:Int):Rat)),.no,.no,.no]) ⟨_,by simp![e2,e3,iV],rfl⟩ ?_;rintro _ rfl;obtain⟨w,a4,c4,e4,hww0,hww1⟩:=az (a:=a3) (b:=c3) (k:=k) (m:=12) (by decide) (sm8 (by decide));obtain⟨hh,a5,c5,e5,hh0,hh1⟩:=az (a:=a4) (b:=c4) (k:=k) (m:=12) (by decide) (sm8 (by decide));refine aE (rmI k way) ⟨[.mu (fdV a5 c5 k),.sh (.int way),.sh (fV ((l-9:Int):Rat)),.sh (fV ((t-9:Int):Rat)),.sh (fV ((1+w:Int):Rat)),.sh (fV ((1+hh:Int):Rat)),.no],by simp![e4,e5,iV],⟨_,_,_,_⟩,.no,a5,c5,⟨⟨fY (gL hww0),fY (gL hh0)⟩,⟨gz (qL hl0 hl1 (by decide) (by decide)),gz (qL ht0 ht1 (by decide) (by decide)),gz (iE hww0 hww1 (by decide)),gz (iE hh0 hh1 (by decide))⟩⟩,rfl,rfl⟩ ?_;rintro _ ⟨b,x,a,c,gb,hx,rfl⟩;refine aE (rmI k way) ?_ ?_
 .by_cases hw:way=1
  .subst hw;exact⟨[.mu (fdV a c k),.sh (.int 1),.sh (fV b.l),.sh (fV b.t),.sh (fV b.w),.sh (fV b.w),x],by simp![jC],⟨b.l,b.t,b.w,b.w⟩,x,a,c,⟨⟨gb.ok.w,gb.ok.w⟩,⟨gb.sz.l,gb.sz.t,gb.sz.w,gb.sz.w⟩⟩,hx,rfl⟩
  .exact⟨_,by simp![E_.mpr hw],b,x,a,c,gb,hx,rfl⟩
 rintro _ ⟨b,x,a,c,gb,hx,rfl⟩;refine aE (rmI k way) ?_ ?_
 .by_cases hw:way=2
  .subst hw;obtain⟨r,a1,c1,e1,h0,h1⟩:=az (a:=a) (b:=c) (k:=k) (m:=99) (by decide) (sm8 (by decide));exact⟨[.mu (fdV a1 c1 k),.sh (.int 2),.sh (fV b.l),.sh (fV b.t),.sh (fV ((1+r:Int):Rat)),.sh (fV b.h),x],by simp![e1,iV],⟨b.l,b.t,((1+r:Int):Rat),b.h⟩,x,a1,c1,⟨⟨fY (gL h0),gb.ok.h⟩,⟨gb.sz.l,gb.sz.t,gz (iE h0 h1 (by decide)),gb.sz.h⟩⟩,hx,rfl⟩
  .exact⟨_,by simp![E_.mpr hw],b,x,a,c,gb,hx,rfl⟩
 rintro _ ⟨b,x,a,c,gb,hx,rfl⟩;refine aE (rmI k way) ?_ ?_
 .by_cases hw:way=3
  .subst hw;obtain⟨r,a1,c1,e1,h0,h1⟩:=az (a:=a) (b:=c) (k:=k) (m:=99) (by decide) (sm8 (by decide));exact⟨[.mu (fdV a1 c1 k),.sh (.int 3),.sh (fV b.l),.sh (fV b.t),.sh (fV b.w),.sh (fV ((1+r:Int):Rat)),x],by simp![e1,iV],⟨b.l,b.t,b.w,((1+r:Int):Rat)⟩,x,a1,c1,⟨⟨gb.ok.w,fY (gL h0)⟩,⟨gb.sz.l,gb.sz.t,gb.sz.w,gz (iE h0 h1 (by decide))⟩⟩,hx,rfl⟩
  .exact⟨_,by simp![E_.mpr hw],b,x,a,c,gb,hx,rfl⟩
 rintro _ ⟨b,x,a,c,gb,hx,rfl⟩;refine aE (rmI k way) ?_ ?_
 .by_cases hw:way=4
  .subst hw;obtain⟨r1,a1,c1,e1,h10,h11⟩:=az (a:=a) (b:=c) (k:=k) (m:=199) (by decide) (sm8 (by decide));obtain⟨r2,a2,c2,e2,h20,h21⟩:=az (a:=a1) (b:=c1) (k:=k) (m:=30) (by decide) (sm8 (by decide));obtain⟨r3,a3,c3,e3,h30,h31⟩:=az (a:=a2) (b:=c2) (k:=k) (m:=9) (by decide) (sm8 (by decide));obtain⟨r4,a4,c4,e4,h40,h41⟩:=az (a:=a3) (b:=c3) (k:=k) (m:=99) (by decide) (sm8 (by decide));obtain⟨r5,a5,c5,e5,h50,h51⟩:=az (a:=a4) (b:=c4) (k:=k) (m:=30) (by decide) (sm8 (by decide));obtain⟨r6,a6,c6,e6,h60,h61⟩:=az (a:=a5) (b:=c5) (k:=k) (m:=99) (by decide) (sm8 (by decide));have l1:=eW (a:=r1-99) (b:=1+r2) (xq h20) (kN (iE h20 h21 (by decide)));have l2:=eW (a:=r3) (b:=7) (by decide) (kN (by decide));have l3:=eW (a:=1+r4) (b:=1+r5) (xq h50) (kN (iE h50 h51 (by decide)));have l4:=eW (a:=1+r6) (b:=11) (by decide) (kN (by decide));exact⟨[.mu (fdV a6 c6 k),.sh (.int 4),.sh (fV (((r1-99:Int):Rat)/((1+r2:Int):Rat))),.sh (fV (((r3:Int):Rat)/((7:Int):Rat))),.sh (fV (((1+r4:Int):Rat)/((1+r5:Int):Rat))),.sh (fV (((1+r6:Int):Rat)/((11:Int):Rat))),x],by simp![e1,e2,e3,e4,e5,e6,l1,l2,l3,l4],⟨_,_,_,_⟩,x,a6,c6,⟨⟨gi (gL h40) (gL h50),gi (gL h60) (by decide)⟩,⟨gQ (xq h20) (qL h10 h11 (by decide) (by decide)) (iE h20 h21 (by decide)),gQ (by decide) (by have:=qL (c:=0) h30 h31 (by decide) (by decide);rw[Int.sub_zero] at this;exact this) (by decide),gQ (xq h50) (iE h40 h41 (by decide)) (iE h50 h51 (by decide)),gQ (by decide) (iE h60 h61 (by decide)) (by decide)⟩⟩,hx,rfl⟩
  .exact⟨_,by simp![E_.mpr hw],b,x,a,c,gb,hx,rfl⟩
 rintro _ ⟨b,x,a,c,gb,hx,rfl⟩;refine aE (rmI k way) ?_ ?_
 .by_cases hw:way=5
  .subst hw;obtain⟨r1,a1,c1,e1,h10,h11⟩:=fX (a:=a) (b:=c) (k:=k) (far:=999999999999999999999999999999) (by decide) (by decide);obtain⟨r2,a2,c2,e2,h20,h21⟩:=fX (a:=a1) (b:=c1) (k:=k) (far:=999999999999999999999999999998) (by decide) (by decide);obtain⟨r3,a3,c3,e3,h30,h31⟩:=fX (a:=a2) (b:=c2) (k:=k) (far:=999999999999999999999999999999) (by decide) (by decide);obtain⟨r4,a4,c4,e4,h40,h41⟩:=fX (a:=a3) (b:=c3) (k:=k) (far:=999999999999999999999999999998) (by decide) (by decide);obtain⟨r5,a5,c5,e5,h50,h51⟩:=fX (a:=a4) (b:=c4) (k:=k) (far:=999999999999999999999999999998) (by decide) (by decide);have n2:=gO r2;have n4:=gO r4;have n5:=gO r5;have l1:=eW (a:=r1) (b:=1+((r2.natAbs:Nat):Int)) (Ac qb) (kN (nS h20 h21 (by decide)).2);have l4:=eW (a:=1+((r5.natAbs:Nat):Int)) (b:=999999999999999999999999999999) (by decide) (kN (by decide));exact⟨[.mu (fdV a5 c5 k),.sh (.int 5),.sh (fV (((r1:Int):Rat)/((1+((r2.natAbs:Nat):Int):Int):Rat))),.sh (fV ((r3:Int):Rat)),.sh (fV ((1+((r4.natAbs:Nat):Int):Int):Rat)),.sh (fV (((1+((r5.natAbs:Nat):Int):Int):Rat)/((999999999999999999999999999999:Int):Rat))),.sh (.int 999999999999999999999999999999)],by simp![hx,p30,e1,e2,e3,e4,e5,n2,n4,n5,l1,l4,iV],⟨_,_,_,_⟩,_,a5,c5,⟨⟨fY qb,gi qb (by decide)⟩,⟨gQ (Ac qb) (nS h10 h11 (by decide)).1 (nS h20 h21 (by decide)).2,gz (nS h30 h31 (by decide)).1,gz (nS h40 h41 (by decide)).2,gQ (by decide) (nS h50 h51 (by decide)).2 (by decide)⟩⟩,rfl,rfl⟩
  .exact⟨_,by simp![E_.mpr hw],b,x,a,c,gb,hx,rfl⟩
 rintro _ ⟨b,x,a,c,gb,hx,rfl⟩;refine⟨b,a,c,gb,?_⟩;simp![xQ,bV]
noncomputable def lwB (b:Bx):Bool:=!decide (b.w<b.h)
def d6{b:Bx}{n:Nat}(hb:b.Ok)(hs:b.Sz n)(h:n<=8000):bQ.G [bV b]=.ok (.val (.str (wy (lwB b)))) []:=by
 have cb:=aN hb;have il:=jD hs.w hs.h (by omega) (by omega);have ib:(bV b).items=some [fV b.l,fV b.t,fV b.w,fV b.h]:=rfl;unfold bQ lwB;rw[ax];unfold ml;by_cases hl:b.w<b.h
 .rw[H_ hl] at il ⊢;simp![cb,ib,il];rfl
 .rw[Em hl] at il ⊢;simp![cb,ib,il];rfl
def Bd(m B:Nat)(b:Bx)(n:Nat):Prop:=∃D A,Rp D A B b/\B<=A/\1<=A/\(A+n*B)*(D*2^(m*n))<2^2000
def Bd.fine{m B n:Nat}{b:Bx}(h:Bd m B b n):b.Ok/\b.Sz 2000:=by obtain⟨D,A,r,hBA,hA,hq⟩:=h;exact r.fine hBA hA hq
def Bd.ok{m B n:Nat}{b:Bx}(h:Bd m B b n):b.Ok:=h.fine.1
def Bd.sz{m B n:Nat}{b:Bx}(h:Bd m B b n):b.Sz 2000:=h.fine.2
def Bd.part{m B n k:Nat}{b c:Bx}{way:Str}{ws:List Int}(h:Bd m B b n)(hw:∀w∈ws,1<=w)(hS:ws.sum<2^m)(hc:c∈ay b way ws)(hk:k<n):Bd m B c k:=by
 obtain⟨D,A,r,hBA,hA,hq⟩:=h;have hT:ws.sum.toNat<=2^m:=by
  have h4:((2^m:Nat):Int)=(2:Int)^m:=by push_cast;rfl
  rw[<- h4] at hS;generalize 2^m=X at hS ⊢;clear hq;omega
 refine⟨D*ws.sum.toNat,A+B,r.parts hw hc,by omega,by omega,Oh (NO ?_ ?_) hq⟩
 .have:(k+1)*B<=n*B:=Ot _ hk;rw[Nat.add_mul,Nat.one_mul] at this;omega
 .rw[Px];refine Oa _ ?_;have e:2^m*2^(m*k)=2^(m*(k+1)):=by rw[<- OC];congr 1;rw[Nat.mul_add,Nat.mul_one,Nat.add_comm]
  exact Nw (Ot _ hT) (by rw[e];exact NI (by decide) (Oa _ hk))
def qV(b:Bx)(w:Bool)(x y:Int):ay b (wy w) [x,y]=[bF b w (x+y) 0 x,bF b w (x+y) x y]:=by rw[gA];simp [frm]
def Al(w:Bool):wy w="across" \/ wy w="down":=by cases w;exact .inr rfl;exact .inl rfl
def jQ{m:Nat}{S:Int}(h0:0<=S)(h:S<2^m):Sm m S:=by
 show S.natAbs<2^m;have h4:((2^m:Nat):Int)=(2:Int)^m:=by push_cast;rfl
 rw[<- h4] at h;omega
def jn{b:Bx}{xs:List Int}{m B n i:Nat}(hb:Bd m B b n)(hm:m<=104)(h1:1<=(xs.take i).sum)(h2:1<=(xs.drop i).sum)(hS:(xs.take i).sum+(xs.drop i).sum<2^m):cD.G [bV b,liV xs,.int (i:Nat)]=.ok (.new (.lst [bV (bF b (lwB b) ((xs.take i).sum+(xs.drop i).sum) 0 (xs.take i).sum),bV (bF b (lwB b) ((xs.take i).sum+(xs.drop i).sum) (xs.take i).sum (xs.drop i).sum)])) []:=by
 have lw:=d6 hb.ok hb.sz (by decide);have pe:=j9 (way:=wy (lwB b)) (ws:=[(xs.take i).sum,(xs.drop i).sum]) (m:=m) hb.ok hb.sz (Al _) (by simp) (λw hw=>by
  rcases G_.mp hw with rfl |hw
  .exact h1
  .rw[N2.mp hw];exact h2) (by
  rw[show [(xs.take i).sum,(xs.drop i).sum].sum=(xs.take i).sum+(xs.drop i).sum from by simp];exact jQ (by omega) hS) (by omega) (by show 2<=40;decide)
 rw[qV] at pe;simp only[t_,Nt] at pe;have ct:=gx (xs.map Val.int) i;have cd:=f9 (xs.map Val.int) i;rw[<- N8] at ct;rw[<- Oe] at cd;have m1:=bu (xs.take i);have m2:=bu (xs.drop i);unfold cD;rw[ax];unfold kh;unfold liV;generalize (xs.take i).map Val.int=w1 at *;generalize (xs.drop i).map Val.int=w2 at *;generalize xs.map Val.int=w3 at *;generalize bV (bF b (lwB b) ((xs.take i).sum+(xs.drop i).sum) 0 (xs.take i).sum)=b1 at *;generalize bV (bF b (lwB b) ((xs.take i).sum+(xs.drop i).sum) (xs.take i).sum (xs.drop i).sum)=b2 at *;generalize bV b=bv at *;generalize wy (lwB b)=yy at *;simp![lw,fj,ct,cd,m1,m2,pe]
def sT{p q:Rat}(hq:q≠0):p/q=((p.num*q.den:Int):Rat)/((p.den*q.num:Int):Rat):=by
 have h1:=g0 (bM p);have h2:=g0 (bM q);have h3:q.num≠0:=λz=>hq (PX.mp z);have h4:=g0 h3
 conv=>lhs;rw[eP p,eP q]
 rw[NQ,NQ];simp only[O0,Rat.inv_mul_rev,Rat.inv_inv];rw[Rat.mul_assoc,Rat.mul_assoc,Rat.mul_comm (((p.den:Int):Rat))⁻¹,Rat.mul_assoc]
def vp{p q:Rat}{n m:Nat}(hp:Sz n p)(hq:Sz m q)(h0:0<q)(h:n+m<=8000):je.G [fV p,fV q]=.ok (.val (fV (p/q))) []:=by
 have c1:=bz (CMulA.of hp.top hq.bot (by omega) (by omega));have c2:=bz (CMulA.of hp.bot hq.top (by omega) (by omega));have hq0:q≠0:=λz=>by rw[z] at h0;exact absurd h0 (by decide)
 have hn:q.num≠0:=λz=>hq0 (PX.mp z);have fe:=cz (a:=p.num*q.den) (b:=p.den*q.num) (Om (bM p) hn) ((hp.bot.mul hq.top).mono h);rw[<- sT hq0] at fe;unfold je;rw[ax];unfold Am;rw[show fV p=.tup [.int p.num,.int p.den] from rfl,show fV q=.tup [.int q.num,.int q.den] from rfl];simp![c1,c2,fe]
def gU{b:Bx}{n:Nat}(hb:b.Ok)(hs:b.Sz n)(h:n+n<=8000):dn.G [bV b]=.ok (.val (fV (aG b))) []:=by
 have lw:=d6 hb hs (by omega);have ib:(bV b).items=some [fV b.l,fV b.t,fV b.w,fV b.h]:=rfl;have o1:=vp hs.w hs.h hb.2 h;have o2:=vp hs.h hs.w hb.1 h;unfold dn aG;rw[ax];unfold vd;by_cases hl:b.w<b.h
 .rw[show wy (lwB b)="down" from by unfold lwB;rw[H_ hl];rfl] at lw;rw[if_pos hl];simp![lw,ib,o1,o2,tD]
 .rw[show wy (lwB b)="across" from by unfold lwB;rw[Em hl];rfl] at lw;rw[if_neg hl];simp![lw,ib,o1,o2,um]
def Sz.over{p q:Rat}{n m:Nat}(hp:Sz n p)(hq:Sz m q)(h0:0<q):Sz (n+m) (p/q):=by
 have hq0:q≠0:=λz=>by rw[z] at h0;exact absurd h0 (by decide)
 have hn:q.num≠0:=λz=>hq0 (PX.mp z);rw[sT hq0];exact Sz.div (Om (bM p) hn) (hp.top.mul hq.bot) (hp.bot.mul hq.top) (n+m) (u_ _) (u_ _)
def i8{b:Bx}{n:Nat}(hb:b.Ok)(hs:b.Sz n):Sz (n+n) (aG b):=by
 unfold aG;split
 .exact Sz.over hs.h hs.w hb.1
 .exact Sz.over hs.w hs.h hb.2
noncomputable def inT (f:List Int->Nat) (ws:List Int):Nat->Bx->List Nat->AT
 |0,_,l=>.lf (l.headD 0)
 |N
  + 1,b,l=>if l.length=1 then .lf (l.headD 0) else
  .nd (lwB b) [inT f ws N (bF b (lwB b) (wtA ws l) 0 (wtA ws (l.take (f (l.map λk=>ws.getD k 0))))) (l.take (f (l.map λk=>ws.getD k 0))),
   inT f ws N (bF b (lwB b) (wtA ws l) (wtA ws (l.take (f (l.map λk=>ws.getD k 0)))) (wtA ws (l.drop (f (l.map λk=>ws.getD k 0))))) (l.drop (f (l.map λk=>ws.getD k 0)))]
structure HowM(f:List Int->Nat)(nm:Str)(D:List Int->Prop):Prop where
 tk:∀xs i,D xs->D (xs.take i)
 dr:∀xs i,D xs->D (xs.drop i)
 lt:∀xs:List Int,D xs->2<=xs.length->(∀w∈xs,1<=w)->1<=f xs/\f xs<xs.length
 ev:∀(xs:List Int) (bv lv:Val),D xs->2<=xs.length->xs.length<=40->(∀w∈xs,1<=w)->(aw false 4 (mw [("nearest_to_half",bI),("fewest_to_third",bG)] (af 3) (aa (af 2) ag))).G [.sh bv,.sh lv,.sh (liV xs),.sh (.glb nm),.no,.no,.no,.no,.no]=.nx [.sh bv,.sh lv,.sh (liV xs),.sh (.glb nm),.sh (.int (f xs:Nat)),.no,.no,.no,.no]
def Ak{l:List Nat}{i N n:Nat}(h0:l.length<=N+1)(h1:1<=i)(h2:i<l.length)(hl:l.length<=n):((l.take i).length<=N/\1<=(l.take i).length/\(l.take i).length<=n/\(l.take i).length<l.length)/\(l.drop i).length<=N/\1<=(l.drop i).length/\(l.drop i).length<=n/\(l.drop i).length<l.length:=by rw[NV,OQ];omega
def vQ{l:List Nat}{i:Nat}{w:Bool}{s t:AT}(h1:1<=i)(h2:i<l.length)(a:s.dep<=(l.take i).length)(b:t.dep<=(l.drop i).length):(AT.nd w [s,t]).dep<=l.length:=by rw[NV] at a;rw[OQ] at b;rw[AT.dep,AT.depL,AT.depL,AT.depL];omega
def zA{n:Nat}{x:Int}(h:(n:Int)<=x)(h1:1<=n):1<=x:=by omega
def ttQ(v:Val)(r:SR3):Prop:=lN [false,false,false,false] r=.ok (.val v) []
theorem mT{f:List Int->Nat}{nm:Str}{D:List Int->Prop}(H:HowM f nm D){ws:List Int}{m B:Nat}(hm:m<=104)(hS:∀l:List Nat,(∀k∈l,k<ws.length)->l.length<=ws.length->wtA ws l<2^m)(hw:∀w∈ws,1<=w)(hn:ws.length<=40):∀(N:Nat) (l:List Nat) (b:Bx),l.length<=N->1<=l.length->l.length<=ws.length->(∀k∈l,k<ws.length)->Bd m B b l.length->D (l.map λk=>ws.getD k 0)->
 (aU N).G [bV b,itV l,liV (l.map λk=>ws.getD k 0),.glb nm]=.ok (.val (atV (inT f ws N b l))) []/\(inT f ws N b l).ok=true/\(inT f ws N b l).lvs=l/\(inT f ws N b l).dep<=l.length
 |0,l,b,h0,h1,_,_,_,_=>by omega
 |
  N+1,l,b,h0,h1,hl,hi,hB,hD=>by
  by_cases hl1:l.length=1
  .obtain⟨k,rfl⟩:=OZ.mp hl1;have a0:atI [Val.int (k:Nat)] 0=some (.int (k:Nat)):=aR (by decide) rfl;have te:inT f ws (N+1) b [k]=.lf k:=by rw[inT];exact if_pos rfl
   rw[te];refine⟨?_,rfl,rfl,by simp [AT.dep]⟩;show (PFx.of [false,false,false,false] 9 (b8 (aU N))).G _=_;rw[kK,show atV (.lf k)=.int (k:Nat) from rfl,show itV [k]=.lst [.int (k:Nat)] from rfl];unfold b8;generalize bV b=bv;generalize liV _=wv;simp![a0]
  .have h2:2<=l.length:=by omega
   have hp:∀k∈l,1<=ws.getD k 0:=λj hj=>by rw[L_,B_ (hi j hj)];exact hw _ (Oz _)
   have xl:(l.map λk=>ws.getD k 0).length=l.length:=p_ ..;have xp:∀w∈l.map λk=>ws.getD k 0,1<=w:=λw hw=>by obtain⟨j,hj,rfl⟩:=Nv.mp hw;exact hp j hj
   obtain⟨g1,g2⟩:=H.lt _ hD (by rw[xl];exact h2) xp;have ev:=H.ev (l.map λk=>ws.getD k 0) (bV b) (itV l) hD (by rw[xl];exact h2) (by rw[xl];exact Nw hl hn) xp;rw[inT,if_neg hl1];have ht:∀i,∀j∈l.take i,j∈l:=λi j hj=>Oq hj;have hd:∀i,∀j∈l.drop i,j∈l:=λi j hj=>OP hj;have wt:∀i,((l.map λk=>ws.getD k 0).take i).sum=wtA ws (l.take i):=λi=>by unfold wtA;rw[N8]
   have wd:∀i,((l.map λk=>ws.getD k 0).drop i).sum=wtA ws (l.drop i):=λi=>by unfold wtA;rw[Oe]
   generalize hh:f (l.map λk=>ws.getD k 0)=i at *;rw[xl] at g2;obtain⟨⟨t1,t2,t3,t4⟩,d1,d2,d3,d4⟩:=Ak h0 g1 g2 hl;have p1:=er (l:=(l.take i).map λk=>ws.getD k 0) (λw hw=>by obtain⟨j,hj,rfl⟩:=Nv.mp hw;exact hp j (ht i j hj));have p2:=er (l:=(l.drop i).map λk=>ws.getD k 0) (λw hw=>by obtain⟨j,hj,rfl⟩:=Nv.mp hw;exact hp j (hd i j hj));rw[p_] at p1 p2;replace p1:=zA p1 t2;replace p2:=zA p2 d2;have sp:wtA ws l=wtA ws (l.take i)+wtA ws (l.drop i):=by unfold wtA;rw[<- Pg,<- NU,Og]
   rw[show ((l.take i).map λk=>ws.getD k 0).sum=wtA ws (l.take i) from rfl] at p1;rw[show ((l.drop i).map λk=>ws.getD k 0).sum=wtA ws (l.drop i) from rfl] at p2;have hs:=hS l hi hl;have ct2:=jn (xs:=l.map λk=>ws.getD k 0) (i:=i) hB hm (by rw[wt];exact p1) (by rw[wd];exact p2) (by rw[wt,wd,<- sp];exact hs);have mt:(l.map λk=>ws.getD k 0).take i=(l.take i).map λk=>ws.getD k 0:=by rw[N8]
   have md:(l.map λk=>ws.getD k 0).drop i=(l.drop i).map λk=>ws.getD k 0:=by rw[Oe]
   rw[wt,wd,<- sp] at ct2;have pm:∀c∈[bF b (lwB b) (wtA ws l) 0 (wtA ws (l.take i)),bF b (lwB b) (wtA ws l) (wtA ws (l.take i)) (wtA ws (l.drop i))],∀k,k<l.length->Bd m B c k:=λc hc k hk=>hB.part (way:=wy (lwB b)) (ws:=[wtA ws (l.take i),wtA ws (l.drop i)]) (λw hw=>by
    rcases G_.mp hw with rfl |hw
    .exact p1
    .rw[N2.mp hw];exact p2) (by rw[show [wtA ws (l.take i),wtA ws (l.drop i)].sum=wtA ws l from by rw[sp];simp];exact hs) (by rw[qV,<- sp];exact hc) hk
   obtain⟨a1,a3,a4,a5⟩:=mT H hm hS hw hn N (l.take i) _ t1 t2 t3 (λj hj=>hi j (ht i j hj)) (pm _ (r_ ..) _ t4) (by rw[<- mt];exact H.tk _ _ hD);obtain⟨b1,b3,b4,b5⟩:=mT H hm hS hw hn N (l.drop i) _ d1 d2 d3 (λj hj=>hi j (hd i j hj)) (pm _ (q_ _ (r_ ..)) _ d4) (by rw[<- md];exact H.dr _ _ hD);have lw:=d6 hB.ok hB.sz (by decide);generalize inT f ws N (bF b (lwB b) (wtA ws l) 0 (wtA ws (l.take i))) (l.take i)=T1 at *;generalize inT f ws N (bF b (lwB b) (wtA ws l) (wtA ws (l.take i)) (wtA ws (l.drop i))) (l.drop i)=T2 at *;refine⟨?_,?_,?_,?_⟩
   .rw[show atV (.nd (lwB b) [T1,T2])=.tup [.str (wy (lwB b)),.tup [atV T1,atV T2]] from rfl];generalize bF b (lwB b) (wtA ws l) 0 (wtA ws (l.take i))=B1 at *;generalize bF b (lwB b) (wtA ws l) (wtA ws (l.take i)) (wtA ws (l.drop i))=B2 at *;have ctl:=gx (l.map λk:Nat=>Val.int k) i;have cdl:=f9 (l.map λk:Nat=>Val.int k) i;rw[<- N8] at ctl;rw[<- Oe] at cdl;have ctx:=gx ((l.map λk=>ws.getD k 0).map Val.int) i;have cdx:=f9 ((l.map λk=>ws.getD k 0).map Val.int) i;rw[<- N8,mt] at ctx;rw[<- Oe,md] at cdx;have n1:(((l.length:Nat):Int)==1)=false:=by rw[E_];omega
    have ll:((l.map λk:Nat=>Val.int k).length:Nat)=l.length:=p_ ..;show (PFx.of [false,false,false,false] 9 (b8 (aU N))).G _=_;rw[Im rfl];show ttQ _ ((b8 (aU N)).G [.sh (bV b),.sh (itV l),.sh (liV (l.map λk=>ws.getD k 0)),.sh (.glb nm),.no,.no,.no,.no,.no]);unfold b8;unfold itV at a1 b1 ev ⊢;unfold liV at a1 b1 ct2 ev ⊢;generalize bV b=bv at *;generalize bV B1=bv1 at *;generalize bV B2=bv2 at *;generalize atV T1=t1 at *;generalize atV T2=t2 at *;generalize wy (lwB b)=yy at *;generalize (l.take i).map (λk:Nat=>Val.int k)=l1 at *;generalize (l.drop i).map (λk:Nat=>Val.int k)=l2 at *;generalize ((l.take i).map λk=>ws.getD k 0).map Val.int=x1 at *;generalize ((l.drop i).map λk=>ws.getD k 0).map Val.int=x2 at *;generalize (l.map λk=>ws.getD k 0).map Val.int=x0 at *;generalize l.map (λk:Nat=>Val.int k)=l0 at *;refine aE (λe=>e=[.sh bv,.sh (.lst l0),.sh (.lst x0),.sh (.glb nm),.no,.no,.no,.no,.no]) ⟨_,by simp![ll,n1],rfl⟩ ?_;rintro _ rfl;refine aE (λe=>e=[.sh bv,.sh (.lst l0),.sh (.lst x0),.sh (.glb nm),.sh (.int (i:Nat)),.no,.no,.no,.no]) ⟨_,ev,rfl⟩ ?_;rintro _ rfl;unfold ttQ;simp![ct2,fj,ctl,cdl,ctx,cdx,a1,b1,lw,xQ]
   .rw[AT.ok,AT.okL,AT.okL,AT.okL,a3,b3];rfl
   .rw[AT.lvs,AT.lvsL,AT.lvsL,AT.lvsL,a4,b4,NJ,Og]
   .exact vQ g1 g2 a5 b5
def p29:eA.G (.int 10) (.int 29)=.val (.int 100000000000000000000000000000):=kP ⟨by decide,by decide,by decide⟩
noncomputable def hB (hg:Int):Int:=if hg<=4 then 9 else 8388608
def D7(hg:Int):9<=hB hg/\hB hg<=8388608:=by unfold hB;split <;> decide
def Jm{r hg:Int}(h0:0<=r)(h1:r<hg)(hh:hg<=24):∃z,1<=z/\z<=hB hg/\rA.G (.int 1) (.int r)=.val (.int z):=by
 have c1:(1:Nat)<=2^r.toNat:=Nat.one_le_two_pow;have c2:2^r.toNat<=2^23:=NI (by decide) (by omega);have e:(2:Int)^r.toNat=((2^r.toNat:Nat):Int):=by rw[Int.natCast_pow];rfl
 refine⟨1*2^r.toNat,?_,?_,MY ⟨h0,by omega,by decide⟩⟩
 .rw[Int.one_mul,e];exact Int.ofNat_le.mpr c1
 .rw[Int.one_mul,e];unfold hB;split
  .have c3:2^r.toNat<=2^3:=NI (by decide) (by omega);have:(2:Nat)^3=8:=by decide
   omega
  .exact Int.ofNat_le.mpr c2
def Fl{ns:List Int}{at_ most many more sty hg k:Int}{acc:List Int}{s9:Sl}(h9:s9.pl=true)(hk:0<=k/\k<=40)(hs:0<=sty/\sty<6)(hh:1<=hg/\hg<=24)(a c q:Int):
 ∃w a' c',1<=w/\w<=hB hg/\(aw false 10 (pOp bIx (cU (aa (ah 1) (aa (pOp aH (ah 1) (ai ak (aa (af 3) (aa (ah 9) ag)))) (aa (pOp rA (ah 1) (pOp cH (af 9) (af 8))) (aa (pOp aH (ah 1) (ai ak (aa (af 3) (aa (ah 9) ag)))) (aa (ah 1) (aa (pOp aH (ah 1) (ai ak (aa (af 3) (aa (ah 3) ag)))) ag))))))) (af 6))).G [.sh (.kl (ns.map .int)),.sh (.int at_),.sh (.int most),.ow (fdV a c q),.sh (.int many),.sh (.int more),.sh (.int sty),.ow (.lst (acc.map .int)),.sh (.int hg),.sh (.int k),s9]=.nx [.sh (.kl (ns.map .int)),.sh (.int at_),.sh (.int most),.ow (fdV a' c' q),.sh (.int many),.sh (.int more),.sh (.int sty),.ow (.lst (acc.map .int)),.sh (.int hg),.sh (.int k),.sh (.int w)]:=by
 obtain⟨r1,a1,c1,e1,l1,u1⟩:=az (a:=a) (b:=c) (k:=q) (m:=9) (by decide) (sm8 (by decide));obtain⟨r2,a2,c2,e2,l2,u2⟩:=az (a:=a1) (b:=c1) (k:=q) (m:=9) (by decide) (sm8 (by decide));obtain⟨r3,a3,c3,e3,l3,u3⟩:=az (a:=a2) (b:=c2) (k:=q) (m:=3) (by decide) (sm8 (by decide));have fm:=eC (a:=k) (m:=hg) (by omega);have km:=fN (i:=k) (j:=hg) (by omega);have sh:=Jm fm.1 fm.2 hh.2;have hb:=D7 hg;obtain⟨z,z1,z2,z3⟩:=sh;have hc:sty=0\/sty=1\/sty=2\/sty=3\/sty=4\/sty=5:=by omega
 have at6:∃w,1<=w/\w<=hB hg/\atI [Val.int 1,.int (1+r1),.int z,.int (1+r2),.int 1,.int (1+r3)] sty=some (.int w):=by
  rcases hc with rfl |rfl |rfl |rfl |rfl |rfl
  .exact⟨1,by decide,by omega,rfl⟩
  .exact⟨1+r1,by omega,by omega,rfl⟩
  .exact⟨z,z1,z2,rfl⟩
  .exact⟨1+r2,by omega,by omega,rfl⟩
  .exact⟨1,by decide,by omega,rfl⟩
  .exact⟨1+r3,by omega,by omega,rfl⟩
 obtain⟨w,w1,w2,w3⟩:=at6;refine⟨w,a3,c3,w1,w2,?_⟩;simp![e1,e2,e3,km,z3,w3,h9]
def wtI(ns:List Int)(at_ most many more sty hg k:Int)(acc:List Int)(e:E3):Prop:=∃w a c q,1<=w/\w<=1000000000000000000000000000000/\(sty<3->w<=hB hg)/\e=[.sh (.kl (ns.map .int)),.sh (.int at_),.sh (.int most),.ow (fdV a c q),.sh (.int many),.sh (.int more),.sh (.int sty),.ow (.lst (acc.map .int)),.sh (.int hg),.sh (.int k),.sh (.int w)]
def wtQ(ns:List Int)(at_ most many more sty hg k:Int)(acc:List Int)(r:SR3):Prop:=∃w s3,1<=w/\w<=1000000000000000000000000000000/\(sty<3->w<=hB hg)/\s3.pl=true/\r=.nx [.sh (.kl (ns.map .int)),.sh (.int at_),.sh (.int most),s3,.sh (.int many),.sh (.int more),.sh (.int sty),.ow (.lst ((acc++[w]).map .int)),.sh (.int hg),.sh (.int k),.sh (.int w)]
def E4{ns:List Int}{at_ most many more sty hg k:Int}{acc:List Int}{s3 s9:Sl}(h3:s3.pl=true)(h9:s9.pl=true)(ha:0<=at_)(hk:0<=k/\k<=40)(hs:0<=sty/\sty<6)(hh:1<=hg/\hg<=24)(hl:acc.length<=1000):
 wtQ ns at_ most many more sty hg k acc (eK.G [.sh (.kl (ns.map .int)),.sh (.int at_),.sh (.int most),s3,.sh (.int many),.sh (.int more),.sh (.int sty),.ow (.lst (acc.map .int)),.sh (.int hg),.sh (.int k),s9]):=by
 unfold eK;obtain⟨f,ef⟩:=ou (ns:=ns) (k:=at_+1+k) (by omega);refine aE (λe=>e=[.sh (.kl (ns.map .int)),.sh (.int at_),.sh (.int most),.ow (fdV f 0 (at_+1+k)),.sh (.int many),.sh (.int more),.sh (.int sty),.ow (.lst (acc.map .int)),.sh (.int hg),.sh (.int k),s9]) ⟨_,by simp![ef,h3],rfl⟩ ?_;rintro _ rfl;refine aE (wtI ns at_ most many more sty hg k acc) ?_ ?_
 .obtain⟨w,a,c,w1,w2,e⟩:=Fl (ns:=ns) (at_:=at_) (most:=most) (many:=many) (more:=more) (acc:=acc) h9 hk hs hh f 0 (at_+1+k);have hb:=D7 hg;exact⟨_,e,w,a,c,_,w1,by omega,λ_=>w2,rfl⟩
 rintro _ ⟨w,a,c,q,w1,w2,w3,rfl⟩;refine aE (wtI ns at_ most many more sty hg k acc) ?_ ?_
 .by_cases h:sty=3
  .subst h;obtain⟨r1,a1,c1,e1,l1,u1⟩:=az (a:=a) (b:=c) (k:=q) (m:=4) (by decide) (sm8 (by decide));obtain⟨r2,a2,c2,e2,l2,u2⟩:=az (a:=a1) (b:=c1) (k:=q) (m:=100) (by decide) (sm8 (by decide));by_cases hr:r1=0
   .subst hr;exact⟨[.sh (.kl (ns.map .int)),.sh (.int at_),.sh (.int most),.ow (fdV a2 c2 q),.sh (.int many),.sh (.int more),.sh (.int 3),.ow (.lst (acc.map .int)),.sh (.int hg),.sh (.int k),.sh (.int (100000000000000000000000000000+r2))],by simp![e1,e2,p29],_,_,_,_,by omega,by omega,λz=>absurd z (by decide),rfl⟩
   .exact⟨[.sh (.kl (ns.map .int)),.sh (.int at_),.sh (.int most),.ow (fdV a1 c1 q),.sh (.int many),.sh (.int more),.sh (.int 3),.ow (.lst (acc.map .int)),.sh (.int hg),.sh (.int k),.sh (.int w)],by simp![e1,E_.mpr hr],_,_,_,_,w1,w2,w3,rfl⟩
  .exact⟨_,by simp![E_.mpr h],w,a,c,q,w1,w2,w3,rfl⟩
 rintro _ ⟨w,a,c,q,w1,w2,w3,rfl⟩;refine aE (wtI ns at_ most many more sty hg k acc) ?_ ?_
 .by_cases h:sty=4
  .subst h;obtain⟨r1,a1,c1,e1,l1,u1⟩:=fX (a:=a) (b:=c) (k:=q) (far:=999999999999999999999999999998) (by decide) (by decide);exact⟨[.sh (.kl (ns.map .int)),.sh (.int at_),.sh (.int most),.ow (fdV a1 c1 q),.sh (.int many),.sh (.int more),.sh (.int 4),.ow (.lst (acc.map .int)),.sh (.int hg),.sh (.int k),.sh (.int (1+if r1<0 then -r1 else r1))],by simp![e1,p30],_,_,_,_,by split <;> omega,by split <;> omega,λz=>absurd z (by decide),rfl⟩
  .exact⟨_,by simp![E_.mpr h],w,a,c,q,w1,w2,w3,rfl⟩
 rintro _ ⟨w,a,c,q,w1,w2,w3,rfl⟩;have ll:(acc.map Val.int).length<16777216:=by rw[p_];omega
 refine⟨w,.ow (fdV a c q),w1,w2,w3,rfl,?_⟩;rw[NU,t_,Nt];simp![ll]
theorem vJ{ns:List Int}{at_ most many more sty hg:Int}(ha:0<=at_)(hs:0<=sty/\sty<6)(hh:1<=hg/\hg<=24):∀(ks:List Nat) (acc:List Int) (s3 s8 s9:Sl),s3.pl=true->s8.pl=true->s9.pl=true->(∀k∈ks,k<=40)->acc.length+ks.length<=1000->
 ∃(ws:List Int) (s3' s8' s9':Sl),ws.length=ks.length/\(∀w∈ws,1<=w/\w<=1000000000000000000000000000000/\(sty<3->w<=hB hg))/\eB (gtN 9).G eK.G (ks.map λk:Nat=>Val.int (k:Nat)) [.sh (.kl (ns.map .int)),.sh (.int at_),.sh (.int most),s3,.sh (.int many),.sh (.int more),.sh (.int sty),.ow (.lst (acc.map .int)),.sh (.int hg),s8,s9]=.nx [.sh (.kl (ns.map .int)),.sh (.int at_),.sh (.int most),s3',.sh (.int many),.sh (.int more),.sh (.int sty),.ow (.lst ((acc++ws).map .int)),.sh (.int hg),s8',s9']
 | [],acc,s3,s8,s9,_,_,_,_,_=>⟨[],s3,s8,s9,rfl,(λ_ h=>nomatch h),by rw[Nt,fD,NJ]⟩
 |
  k::ks,acc,s3,s8,s9,h3,h8,h9,hk,hl=>by
  rw[D_] at hl;obtain⟨w,t3,w1,w2,w3,p3,e⟩:=E4 (ns:=ns) (at_:=at_) (most:=most) (many:=many) (more:=more) (sty:=sty) (k:=(k:Nat)) (acc:=acc) h3 h9 ha ⟨by omega,by have:=hk k (r_ ..);omega⟩ hs hh (by omega);obtain⟨ws,s3',s8',s9',q1,q2,q3⟩:=vJ (ns:=ns) (most:=most) (many:=many) (more:=more) ha hs hh ks (acc++[w]) t3 (.sh (.int (k:Nat))) (.sh (.int w)) p3 rfl rfl (λj hj=>hk j (q_ _ hj)) (by rw[K_];show acc.length+1+_<=_;omega);refine⟨w::ws,s3',s8',s9',by rw[D_,D_,q1],λx hx=>?_,?_⟩
  .rcases G_.mp hx with rfl |hx
   .exact⟨w1,w2,w3⟩
   .exact q2 x hx
  .have g1:(gtN 9).G (.int (k:Nat)) [.sh (.kl (ns.map .int)),.sh (.int at_),.sh (.int most),s3,.sh (.int many),.sh (.int more),.sh (.int sty),.ow (.lst (acc.map .int)),.sh (.int hg),s8,s9]=some [.sh (.kl (ns.map .int)),.sh (.int at_),.sh (.int most),s3,.sh (.int many),.sh (.int more),.sh (.int sty),.ow (.lst (acc.map .int)),.sh (.int hg),.sh (.int (k:Nat)),s9]:=by simp![h8]
   rw[t_,dG,g1];dsimp only;rw[e];show eB _ _ _ _=_;rw[q3,Pp];rfl
def div8{x:Int}:jB.G (.int x) (.int 8)=.val (.int (x.fdiv 8)):=kE (CDivB.of (by decide) (sm8 (by decide)))
def wsQ(M:Int)(r:SR3):Prop:=∃ws:List Int,1<=ws.length/\(ws.length:Int)<=M/\(∀w∈ws,1<=w/\w<=1000000000000000000000000000000)/\(9<ws.length->∀w∈ws,w<=9)/\lN [false,false,false] r=.ok (.new (liV ws)) []
def ws_a{x most M:Int}(h:x<=most)(h1:most<=M)(h7:7<=M):1<=(if x>1 then x else 1)/\(if x>1 then x else 1)<=M:=by split <;> omega
def ws_b{most:Int}(h1:1<=most)(h2:most<=40):0<(if (7:Int)<most then 7 else most)/\Sm 8000 (if (7:Int)<most then 7 else most):=by
 split
 .exact⟨by decide,sm8 (by decide)⟩
 .exact⟨by omega,sm8 (by omega)⟩
def ws_c{r most:Int}(h:r<if (7:Int)<most then 7 else most):1+r<=7:=by split at h <;> omega
def xV{ns:List Int}{at_ most:Int}(ha:0<=at_)(hm:1<=most/\most<=40):∃ws:List Int,1<=ws.length/\(ws.length:Int)<=max most 7/\(∀w∈ws,1<=w/\w<=1000000000000000000000000000000)/\(9<ws.length->∀w∈ws,w<=9)/\dP.G [.kl (ns.map .int),.int at_,.int most]=.ok (.new (liV ws)) []:=by
 have x1:most<=max most 7:=Int.le_max_left ..;have x7:(7:Int)<=max most 7:=Int.le_max_right ..;have x4:max most 7<=40:=Int.max_le.mpr ⟨hm.2,by decide⟩;generalize max most 7=M at *;unfold dP;rw[wX rfl];show wsQ M (gB.G [.sh (.kl (ns.map .int)),.sh (.int at_),.sh (.int most),.no,.no,.no,.no,.no,.no,.no,.no]);unfold gB;obtain⟨f,ef⟩:=ou (ns:=ns) (k:=at_) ha;refine aE (λe=>e=[.sh (.kl (ns.map .int)),.sh (.int at_),.sh (.int most),.ow (fdV f 0 at_),.no,.no,.no,.no,.no,.no,.no]) ⟨_,by simp![ef],rfl⟩ ?_;rintro _ rfl;obtain⟨r1,a1,c1,e1,l1,u1⟩:=az (a:=f) (b:=0) (k:=at_) (m:=if (7:Int)<most then 7 else most) (ws_b hm.1 hm.2).1 (ws_b hm.1 hm.2).2;refine aE (λe=>e=[.sh (.kl (ns.map .int)),.sh (.int at_),.sh (.int most),.ow (fdV a1 c1 at_),.sh (.int (1+r1)),.no,.no,.no,.no,.no,.no]) ⟨_,by simp![e1],rfl⟩ ?_;rintro _ rfl;have b1:1+r1<=7:=ws_c u1;obtain⟨r2,a2,c2,e2,l2,u2⟩:=az (a:=a1) (b:=c1) (k:=at_) (m:=6) (by decide) (sm8 (by decide));refine aE (λe=>e=[.sh (.kl (ns.map .int)),.sh (.int at_),.sh (.int most),.ow (fdV a2 c2 at_),.sh (.int (1+r1)),.sh (.int r2),.no,.no,.no,.no,.no]) ⟨_,by simp![e2],rfl⟩ ?_;rintro _ rfl;refine aE (λe=>∃many:Int,1<=many/\many<=M/\e=[.sh (.kl (ns.map .int)),.sh (.int at_),.sh (.int most),.ow (fdV a2 c2 at_),.sh (.int many),.sh (.int r2),.no,.no,.no,.no,.no]) ?_ ?_
 .have mm:=bz (i:=1+r1) (j:=most) (CMulA.of (sm8 (m:=1+r1) (by omega)) (sm8 (m:=most) (by omega)) (by decide) (by decide));by_cases h:r2<2
  .have dl:((1+r1)*most).fdiv 8<=most:=by rw[Int.fdiv_eq_ediv_of_nonneg _ (by decide)];have:(1+r1)*most<=7*most:=Ol b1 (by omega);omega
   have hc:r2=0\/r2=1:=by omega
   rcases hc with rfl |rfl
   .exact⟨_,by simp![mm,div8],most,hm.1,x1,rfl⟩
   .exact⟨_,by simp![mm,div8],(if ((1+r1)*most).fdiv 8>1 then ((1+r1)*most).fdiv 8 else 1),(ws_a dl x1 x7).1,(ws_a dl x1 x7).2,rfl⟩
  .exact⟨_,by simp![Em h],1+r1,Int.le_add_of_nonneg_right l1,Int.le_trans b1 x7,rfl⟩
 rintro _ ⟨many,m1,m2,rfl⟩;obtain⟨r3,a3,c3,e3,l3,u3⟩:=az (a:=a2) (b:=c2) (k:=at_) (m:=6) (by decide) (sm8 (by decide));refine aE (λe=>e=[.sh (.kl (ns.map .int)),.sh (.int at_),.sh (.int most),.ow (fdV a3 c3 at_),.sh (.int many),.sh (.int r2),.sh (.int r3),.no,.no,.no,.no]) ⟨_,by simp![e3],rfl⟩ ?_;rintro _ rfl;refine aE (λe=>∃sty:Int,0<=sty/\sty<6/\(9<many->sty<3)/\e=[.sh (.kl (ns.map .int)),.sh (.int at_),.sh (.int most),.ow (fdV a3 c3 at_),.sh (.int many),.sh (.int r2),.sh (.int sty),.no,.no,.no,.no]) ?_ ?_
 .have km:=fN (i:=r3) (j:=3) (by decide);have fm:=eC (a:=r3) (m:=3) (by decide);by_cases h:9<many
  .exact⟨_,by simp![H_ h,km],r3.fmod 3,fm.1,Int.lt_trans fm.2 (by decide),λ_=>fm.2,rfl⟩
  .exact⟨_,by simp![Em h],r3,l3,u3,λz=>absurd z h,rfl⟩
 rintro _ ⟨sty,t0,t1,t2,rfl⟩;refine aE (λe=>e=[.sh (.kl (ns.map .int)),.sh (.int at_),.sh (.int most),.ow (fdV a3 c3 at_),.sh (.int many),.sh (.int r2),.sh (.int sty),.ow (.lst []),.no,.no,.no]) ⟨_,by simp![Nr],rfl⟩ ?_;rintro _ rfl;refine aE (λe=>∃hg:Int,1<=hg/\hg<=24/\(9<many->hg=4)/\e=[.sh (.kl (ns.map .int)),.sh (.int at_),.sh (.int most),.ow (fdV a3 c3 at_),.sh (.int many),.sh (.int r2),.sh (.int sty),.ow (.lst []),.sh (.int hg),.no,.no]) ?_ ?_
 .by_cases h:9<many
  .exact⟨_,by simp![H_ h],4,by decide,by decide,λ_=>rfl,rfl⟩
  .exact⟨_,by simp![Em h],24,by decide,by decide,λz=>absurd z h,rfl⟩
 rintro _ ⟨hg,g1,g2,g3,rfl⟩;have rg:=wb (i:=many) (by omega) (by omega);obtain⟨ws,s3,s8,s9,q1,q2,q3⟩:=vJ (ns:=ns) (at_:=at_) (most:=most) (many:=many) (more:=r2) (sty:=sty) (hg:=hg) ha ⟨t0,t1⟩ ⟨g1,g2⟩ (List.range many.toNat) [] (.ow (fdV a3 c3 at_)) .no .no rfl rfl rfl (λk hk=>by have:=M_.mp hk;omega) (by rw[Nr,w_];omega);rw[w_] at q1;rw[NP,Nt] at q3;unfold rgV at rg;refine⟨ws,by omega,by omega,λw hw=>⟨(q2 w hw).1,(q2 w hw).2.1⟩,λh w hw=>by have:=(q2 w hw).2.2 (t2 (by omega));rw[g3 (by omega)] at this;exact this,?_⟩;unfold liV;simp![rg,q3];rfl
theorem sH:∀(n:Nat) (l:List Nat),l.length=n->(∀i,i<n->i∈l)->l.Perm (List.range n)
 |0,l,h,_=>by rw[List.length_eq_zero_iff.mp h];exact List.Perm.refl _
 |
  n+1,l,h,hm=>by
  have h1:=hm n (by omega);have p:=List.perm_cons_erase h1;have q:=sH n (l.erase n) (by rw[List.length_erase_of_mem h1];omega) λi hi=>(List.mem_erase_of_ne (by omega)).mpr (hm i (by omega));rw[List.range_succ];exact p.trans ((q.cons n).trans (List.perm_append_singleton n _).symm)
def AQ{t:AT}{o:List Nat}{n:Nat}(T:TOk t o)(ho:∀i,i∈o ↔ i<n)(hl:o.length=n):t.lvs.Nodup:=
 (sH n t.lvs (by rw[T.len,hl]) λi hi=>(T.mem i).mpr ((ho i).mpr hi)).nodup_iff.mpr PC
def m6{q:Rat}{k D:Nat}(hs:Sz 101 q)(hD:D=q.den*k)(hk:0<k):∃z:Int,q=(z:Rat)/((D:Int):Rat)/\z.natAbs<=2^101*D/\(0<q->0<z/\z<=((2^101:Nat):Int)*(D:Int)):=by
 have dp:=q.den_pos;have hn:q.num.natAbs<2^101:=hs.1;have hz:(q.num*(k:Int)).natAbs<=2^101*D:=by rw[NX,Int.natAbs_natCast,hD];exact NO (by omega) (Nat.le_mul_of_pos_left _ dp)
 refine⟨q.num*(k:Int),?_,hz,λh=>⟨Int.mul_pos (vj.mpr h) (by omega),?_⟩⟩
 .have:=nA (y:=q.num) (W:=(k:Int)) dp (by omega)
  rw[NT,<- hD] at this;rw[<- this];exact eP q
 .rw[<- Oo];generalize q.num*(k:Int)=z at *;generalize 2^101*D=y at *;omega
def D9{b:Bx}(g:Good b):∃D,D<2^404/\Rp D (2^101) (2^101) b:=by
 have dl:=b.l.den_pos;have dt:=b.t.den_pos;have dw:=b.w.den_pos;have dh:=b.h.den_pos;have sz:∀q:Rat,Sz 101 q->q.den<=2^101:=λq h=>by have:(q.den:Int).natAbs<2^101:=h.2;omega
 have k1:=Oj (Oj dt dw) dh;have k2:=Oj (Oj dl dw) dh;have k3:=Oj (Oj dl dt) dh;have k4:=Oj (Oj dl dt) dw;refine⟨b.l.den*(b.t.den*b.w.den*b.h.den),?_,Oj dl k1,?_,?_,?_,?_⟩
 .have a1:b.l.den<2^101:=by have:(b.l.den:Int).natAbs<2^101:=g.sz.l.2;omega
  have a2:=NO (NO (sz _ g.sz.t) (sz _ g.sz.w)) (sz _ g.sz.h)
  calc b.l.den*(b.t.den*b.w.den*b.h.den)<=b.l.den*(2^101*2^101*2^101):=Oa _ a2
   _<2^101*(2^101*2^101*2^101):=Nat.mul_lt_mul_of_pos_right a1 (by decide)
   _=2^404:=by rw[<- OC,<- OC,<- OC]
 .obtain⟨z,h1,h2,_⟩:=m6 (D:=b.l.den*(b.t.den*b.w.den*b.h.den)) g.sz.l rfl k1;exact⟨z,h1,h2⟩
 .obtain⟨z,h1,h2,_⟩:=m6 (D:=b.l.den*(b.t.den*b.w.den*b.h.den)) (k:=b.l.den*b.w.den*b.h.den) g.sz.t (by ac_rfl) k2;exact⟨z,h1,h2⟩
 .obtain⟨z,h1,_,h2⟩:=m6 (D:=b.l.den*(b.t.den*b.w.den*b.h.den)) (k:=b.l.den*b.t.den*b.h.den) g.sz.w (by ac_rfl) k3;exact⟨z,h1,h2 g.ok.w⟩
 .obtain⟨z,h1,_,h2⟩:=m6 (D:=b.l.den*(b.t.den*b.w.den*b.h.den)) (k:=b.l.den*b.t.den*b.w.den) g.sz.h (by ac_rfl) k4;exact⟨z,h1,h2 g.ok.h⟩
structure WOk(ws:List Int):Prop where
 pos:1<=ws.length
 len:ws.length<=40
 wt:∀w∈ws,1<=w/\w<=1000000000000000000000000000000
 few:10<ws.length->∀w∈ws,w<=16777216
theorem ku{ws:List Int}{M:Int}:∀{l:List Nat},(∀k∈l,ws.getD k 0<=M)->wtA ws l<=(l.length:Int)*M
 | [],_=>by simp [wtA]
 |
  k::l,h=>by
  have h1:=h k (r_ ..);have h2:=ku (l:=l) λj hj=>h j (q_ _ hj);unfold wtA at h2 ⊢;rw[t_,NA,D_,Int.natCast_add,Pt];omega
def Mu{ws:List Int}{t:AT}{o:List Nat}{b:Bx}(g:Good b)(W:WOk ws)(T:TOk t o)(ho:∀i,i∈o ↔ i<ws.length)(hl:o.length=ws.length):(∀k∈t.lvs,1<=ws.getD k 0)/\∃D m,m<=104/\Rp D (2^101) (2^101) b/\(2^101+t.dep*2^101)*(D*2^(m*t.dep))<2^2000/\wtT ws t<2^m:=by
 obtain⟨D,hD,R⟩:=D9 g;have hlt:∀k∈t.lvs,k<ws.length:=λk hk=>(ho k).mp ((T.mem k).mp hk);have hin:∀k∈t.lvs,ws.getD k 0∈ws:=λk hk=>by rw[L_,B_ (hlt k hk)];exact Oz _
 have hd:=T.dep;have len:=T.len;have wl:=W.len;refine⟨λk hk=>(W.wt _ (hin k hk)).1,D,?_⟩;have key:∀m,m*t.dep<=1218->m<=104->wtT ws t<2^m->∃m,m<=104/\Rp D (2^101) (2^101) b/\(2^101+t.dep*2^101)*(D*2^(m*t.dep))<2^2000/\wtT ws t<2^m:=λm h1 h2 h3=>by
  refine⟨m,h2,R,?_,h3⟩;have a1:2^101+t.dep*2^101<=2^107:=by
   have h1:=Ot (2^101) (show t.dep<=40 by omega);have h2:2^107=64*2^101:=by decide
   rw[h2];generalize 2^101=X at *;omega
  have a2:2^(m*t.dep)<=2^1218:=NI (by decide) h1;have a3:=NO a1 (NO (O5 hD) a2);refine Oh a3 ?_;rw[<- OC,<- OC];exact Nat.pow_lt_pow_right (by decide) (by decide)
 by_cases h9:10<ws.length
 .refine key 30 (by omega) (by decide) ?_
  have:=ku (M:=16777216) λk hk=>W.few h9 _ (hin k hk)
  unfold wtT;have:(2:Int)^30=1073741824:=by decide
  omega
 .refine key 104 (by omega) (by decide) ?_
  have:=ku (M:=1000000000000000000000000000000) λk hk=>(W.wt _ (hin k hk)).2
  unfold wtT;have:(2:Int)^104=20282409603651670423947251286016:=by decide
  omega
def xD{ws:List Int}{t:AT}{o:List Nat}{b:Bx}(g:Good b)(W:WOk ws)(T:TOk t o)(ho:∀i,i∈o ↔ i<ws.length)(hl:o.length=ws.length):∃m,m<=104/\AT.lay ws 2000 m t b:=by obtain⟨hw,D,m,h1,R,h2,h3⟩:=Mu g W T ho hl;have len:=T.len;have wl:=W.len;exact⟨m,h1,Io t b D (2^101) R (u_ _) (by decide) h2 T.ok hw h3 (by omega)⟩
theorem wI(m:Int):∀xs:List Int,gW (.int m) (xs.map .int)=some (xs.map (· == m))
 | []=>rfl
 |x::xs=>by rw[t_,gW,wI m xs,DL];rfl
def zT{xs:List Int}{m:Int}(h:m∈xs):(xs.map (· == m)).idxOf true<xs.length/\gR.G (.lst (xs.map .int)) [.int m]=.val (.int ((xs.map (· == m)).idxOf true:Nat)):=by have hm:true∈xs.map (· == m):=Nv.mpr ⟨m,h,OR m⟩;have hl:=Pk.mpr hm;refine⟨by rw[p_] at hl;exact hl,?_⟩;show gk (.lst (xs.map .int)) [.int m]=_;unfold gk;dsimp only;rw[wI];dsimp only;rw[if_pos hl]
noncomputable def apt (ws:List Int):List Int:=(List.range (ws.length-1)).map λi=>((2*(ws.take (i+1)).sum-ws.sum).natAbs:Int)
noncomputable def fK (ws:List Int):Nat:=((apt ws).map (· == mnI (apt ws))).idxOf true+1
def vK(ws:List Int):(apt ws).length=ws.length-1:=by unfold apt;rw[p_,w_]
def oi{ws:List Int}(h:2<=ws.length):apt ws≠[]/\1<=fK ws/\fK ws<ws.length/\gR.G (liV (apt ws)) [.int (mnI (apt ws))]=.val (.int ((fK ws-1:Nat):Int)):=by
 have hl:=vK ws;have h0:apt ws≠[]:=λz=>by rw[z] at hl;simp at hl;omega
 obtain⟨h1,h2⟩:=zT (fZ h0);refine⟨h0,by unfold fK;omega,by unfold fK;omega,?_⟩;unfold fK liV;rw[Nat.add_sub_cancel];exact h2
def Jj{ws:List Int}(hl:ws.length<=1000):∃s,lcV (gtN 0).G qY.G (pFn c9 (aa (pOp d8 (pOp aY (ah 2) (pFn bX (aa (pSl (af 1) oN (oS (af 0))) ag))) (pFn bX (aa (af 1) ag))) ag)).G (lW 1 (ws.length-1)) [] [.no,.sh (liV ws)]=.ok ((apt ws).map .int) [s,.sh (liV ws)]:=by
 obtain⟨e',⟨s,rfl,_⟩,lc⟩:=cJ (g:=(gtN 0).G) (F:=(pFn c9 (aa (pOp d8 (pOp aY (ah 2) (pFn bX (aa (pSl (af 1) oN (oS (af 0))) ag))) (pFn bX (aa (af 1) ag))) ag)).G) (λi:Nat=>Val.int (1+(i:Nat))) (λi:Nat=>Val.int ((2*(ws.take (i+1)).sum-ws.sum).natAbs:Int)) (λe=>∃s:Sl,e=[s,.sh (liV ws)]/\s.pl=true) (List.range (ws.length-1)) [] [.no,.sh (liV ws)] ⟨.no,rfl,rfl⟩ (by
  rintro i hi _ ⟨s,rfl,hs⟩;have ic:(1:Int)+(i:Nat)=((i+1:Nat):Int):=by omega
  have ct:=gx (ws.map Val.int) (i+1);rw[<- N8] at ct;have c2:aY.G (.int 2) (.int (ws.take (i+1)).sum)=.val (.int (2*(ws.take (i+1)).sum)):=bz (CMulA.left (by decide) (by decide));refine⟨[.sh (.int (1+(i:Nat))),.sh (liV ws)],.val (.int ((2*(ws.take (i+1)).sum-ws.sum).natAbs:Int)),[.sh (.int (1+(i:Nat))),.sh (liV ws)],?_,?_,rfl,_,rfl,rfl⟩
  .generalize liV ws=wv;simp![hs]
  .unfold liV;rw[ic];have m1:=bu ws;have m2:=bu (ws.take (i+1));have ab:∀x:Int,(if x<0 then -x else x)=(x.natAbs:Int):=λx=>by split <;> omega
   generalize ((ws.take (i+1)).map Val.int)=w1 at *;generalize ws.map Val.int=w2 at *;simp![fj,ct,m1,m2,c2,ab]) (by rw[Nr,w_];omega)
 rw[NP] at lc;refine⟨s,lc.trans ?_⟩;unfold apt;rw[Nu];rfl
def Je{n:Nat}(h:n<=1000):tE [.int 1,.int (n:Nat)]=some (lW 1 (n-1)):=by have e:((n:Nat):Int)-1=((n:Int)-1):=rfl;rw[show tE [.int 1,.int (n:Nat)]=some (lW 1 (((n:Nat):Int)-1).toNat) from if_pos ⟨⟨by decide,by decide⟩,⟨by omega,by omega⟩⟩];congr 2;omega
def xF{ws:List Int}(h2:2<=ws.length)(hl:ws.length<=1000):bI.G [liV ws]=.ok (.val (.int (fK ws:Nat))) []:=by
 obtain⟨h0,h1,h3,ix⟩:=oi h2;obtain⟨s,lc⟩:=Jj hl;have mn:=Ay h0;have rg:=Je (n:=ws.length) hl;have ll:((ws.map Val.int).length:Nat)=ws.length:=p_ ..;have al:((apt ws).map Val.int).length<=16777216:=by rw[p_,vK];omega
 have e1:((fK ws-1:Nat):Int)+1=(fK ws:Nat):=by omega
 unfold bI;rw[ax];unfold gG;unfold liV at lc ix ⊢;rw[<- e1];generalize (apt ws).map Val.int=av at *;generalize ws.map Val.int=wv at *;simp![ll,rg,cu,inS,lc,al,mn,ix]
def BN{xs:List Int}{k:Nat}:aY.G (.int 3) (.int (xs.take k).sum)=.val (.int (3*(xs.take k).sum)):=bz (CMulA.left (by decide) (by decide))
theorem sN{xs:List Int}(hs:1<=xs.sum):∀f k,k+f=xs.length->(xWh (qOf (pOp bLt (pOp aY (ah 3) (pFn bX (aa (pSl (af 0) oN (oS (af 1))) ag))) (pFn bX (aa (af 0) ag)))) cS).G [.sh (liV xs),.sh (.int (k:Nat))]=.nx [.sh (liV xs),.sh (.int (thN xs f k:Nat))]
 |
  f,k,hf=>by
  have ct:=gx (xs.map Val.int) k;rw[<- N8] at ct;have m1:=bu xs;have m2:=bu (xs.take k);have fc:=BN (xs:=xs) (k:=k);rw[gD];by_cases hl:3*(xs.take k).sum<xs.sum
  .cases f with
   |zero=>rw[N4 (by omega)] at hl;omega
   |
    succ f=>
    have d1:=H_ hl;have ih:=sN hs f (k+1) (by omega);have k1:((k:Nat):Int)+1=((k+1:Nat):Int):=by omega
    have bb:cS.G [.sh (liV xs),.sh (.int (k:Nat))]=.nx [.sh (liV xs),.sh (.int ((k+1:Nat):Int))]:=by unfold cS;generalize liV xs=xv;simp![k1]
    rw[thN,if_pos hl];unfold liV at ih bb ⊢;generalize (xs.take k).map Val.int=w1 at *;generalize xs.map Val.int=w2 at *;simp![fj,ct,m1,m2,fc,d1,bb,ih]
  .have d1:=Em hl;have e:thN xs f k=k:=by
    cases f with
    |zero=>rfl
    |succ f=>rw[thN,if_neg hl]
   rw[e];unfold liV;generalize (xs.take k).map Val.int=w1 at *;generalize xs.map Val.int=w2 at *;simp![fj,ct,m1,m2,fc,d1]
def zr{xs:List Int}(h1:1<=xs.length)(hs:1<=xs.sum):bG.G [liV xs]=.ok (.val (.int (gu xs:Nat))) []:=by have lo:=sN hs (xs.length-1) 1 (by omega);rw[show thN xs (xs.length-1) 1=gu xs from rfl,show ((1:Nat):Int)=1 from rfl] at lo;unfold bG;rw[ax];unfold gH;generalize liV xs=xv at *;simp![lo]
def Bb:HowM fK "nearest_to_half" λ_=>True:=⟨λ_ _ _=>trivial,λ_ _ _=>trivial,λxs _ h2 _=>⟨(oi h2).2.1,(oi h2).2.2.1⟩,λxs bv lv _ h2 h40 hp=>by
 have ne:=xF h2 (by omega);have nq:(("nearest_to_half" : Str) == "nearest_to_half")=true:=by decide
 generalize liV xs=xv at *;simp![nq,ne]⟩
def zq:HowM gu "fewest_to_third" λxs=>xs.Pairwise λx y=>y<=x:=⟨λ_ _ h=>h.sublist (List.take_sublist ..),λ_ _ h=>h.sublist (List.drop_sublist ..),λxs h h2 hp=>B6 h2 hp h,λxs bv lv _ h2 h40 hp=>by
 have sn:=er hp;have ne:=zr (xs:=xs) (by omega) (by omega);have nq:(("nearest_to_half" : Str) == "fewest_to_third")=false:=by decide
 have nr:(("fewest_to_third" : Str) == "nearest_to_half")=false:=by decide
 have ns:(("fewest_to_third" : Str) == "fewest_to_third")=true:=by decide
 generalize liV xs=xv at *;simp![nq,nr,ns,ne]⟩
noncomputable def mxL:List Rat->Rat
 | []=>0
 |x::xs=>xs.foldl mx x
theorem A1{n:Nat}:∀(xs:List Rat) (a:Rat),Sz n a->(∀x∈xs,Sz n x)->Sz n (xs.foldl mx a)
 | [],a,h,_=>h
 |
  x::xs,a,h,hx=>by
  rw[PN];refine A1 xs _ ?_ λy hy=>hx y (q_ _ hy);unfold mx;split
  .exact hx x (r_ ..)
  .exact h
theorem nB{n:Nat}(hn:n<=100000){v:Val}:∀(xs:List Rat) (a:Rat) (s:Sl),s.pl=true->Sz n a->(∀x∈xs,Sz n x)->∃s',eB (gtN 2).G eI.G (xs.map fV) [.sh v,.sh (fV a),s]=.nx [.sh v,.sh (fV (xs.foldl mx a)),s']
 | [],a,s,_,_,_=>⟨s,by rw[Nt,fD];rfl⟩
 |
  x::xs,a,s,hs,ha,hx=>by
  have hx0:=hx x (r_ ..);have il:=jD ha hx0 hn hn;have hm:Sz n (mx a x):=by
   unfold mx;split
   .exact hx0
   .exact ha
  obtain⟨s',ih⟩:=nB hn (v:=v) xs (mx a x) (.sh (fV x)) rfl hm λy hy=>hx y (q_ _ hy);refine⟨s',?_⟩;have bb:eI.G [.sh v,.sh (fV a),.sh (fV x)]=.nx [.sh v,.sh (fV (mx a x)),.sh (fV x)]:=by
   unfold eI mx;by_cases hl:a<x
   .rw[H_ hl] at il;rw[if_pos hl];simp![il]
   .rw[Em hl] at il;rw[if_neg hl];simp![il]
  have g1:(gtN 2).G (fV x) [.sh v,.sh (fV a),s]=some [.sh v,.sh (fV a),.sh (fV x)]:=by simp![hs]
  rw[t_,dG,g1];simp only[bb,qw];rw[ih];rfl
def eY{n:Nat}(hn:n<=100000){qs:List Rat}(h0:qs≠[])(hq:∀q∈qs,Sz n q):bp.G [.lst (qs.map fV)]=.ok (.val (fV (mxL qs))) []:=by
 cases qs with
 |nil=>exact absurd rfl h0
 |
  cons q qs=>
  have hq0:=hq q (r_ ..);obtain⟨s',lo⟩:=nB hn (v:=.lst ((q::qs).map fV)) (q::qs) q .no rfl hq0 hq;have e:(q::qs).foldl mx q=mxL (q::qs):=by rw[PN,show mx q q=q from if_neg Rat.lt_irrefl];rfl
  rw[e] at lo;have a0:atI ((q::qs).map fV) 0=some (fV q):=aR (by decide) rfl;generalize mxL (q::qs)=r at *;generalize (q::qs).map fV=qv at *;unfold bp;rw[ax];unfold jI;simp![a0,lo]
def zo{P:PFn}{bs:List Bx}(h:∀c∈bs,P.G [bV c]=.ok (.val (fV (aG c))) [])(hm:P.ms=[false])(hl:bs.length<=1000):∃s,lcV (gtN 0).G qY.G (ai P (aa (af 0) ag)).G (bs.map bV) [] [.no]=.ok ((bs.map aG).map fV) [s]:=by
 obtain⟨e',⟨s,rfl,_⟩,lc⟩:=cJ (g:=(gtN 0).G) (F:=(ai P (aa (af 0) ag)).G) bV (λc=>fV (aG c)) (λe=>∃s:Sl,e=[s]/\s.pl=true) bs [] [.no] ⟨.no,rfl,rfl⟩ (by
  rintro c hc _ ⟨s,rfl,hs⟩;have hp:=h c hc;refine⟨[.sh (bV c)],.val (fV (aG c)),[.sh (bV c)],?_,?_,rfl,_,rfl,rfl⟩
  .simp![hs]
  .simp![hm,hp]) (by rw[Nr];omega)
 rw[NP] at lc;refine⟨s,?_⟩;rw[Nu];exact lc
def tL(w:Bool):dY.G [.str (wy w)]=.ok (.val (.str (wy !w))) []:=by
 unfold dY;rw[ax];unfold kW;cases w
 .rw[show wy (!false)="across" from rfl,show wy false="down" from rfl];simp![tD]
 .rw[show wy (!true)="down" from rfl,show wy true="across" from rfl];simp![um]
noncomputable def iF (b:Bx) (xs:List Int) (k:Nat):Bx:=if k<xs.length then bF b (lwB b) ((xs.take k).sum+(xs.drop k).sum) 0 (xs.take k).sum else b
noncomputable def eS (b:Bx) (xs:List Int) (k:Nat):List Bx:=ay (iF b xs k) (wy !lwB b) (xs.take k)
noncomputable def bK (b:Bx) (xs:List Int) (k:Nat):Rat:=mxL ((eS b xs k).map aG)
structure RwIn(m B:Nat)(b:Bx)(xs:List Int):Prop where
 hm:m<=104
 bd:Bd m B b xs.length
 pos:∀w∈xs,1<=w
 sum:xs.sum<2^m
 len:xs.length<=40
def RwIn.two{m B:Nat}{b:Bx}{xs:List Int}(h:RwIn m B b xs){k:Nat}(h1:1<=k)(h2:k<xs.length):1<=(xs.take k).sum/\1<=(xs.drop k).sum/\(xs.take k).sum+(xs.drop k).sum<2^m:=by
 have a1:=er (l:=xs.take k) λw hw=>h.pos w (Oq hw);have a2:=er (l:=xs.drop k) λw hw=>h.pos w (OP hw);have a3:(xs.take k).sum+(xs.drop k).sum=xs.sum:=by rw[<- Pg,Og]
 rw[NV] at a1;rw[OQ] at a2
 have:=h.sum
 refine⟨by omega,by omega,by rw[a3];exact this⟩
def RwIn.cut{m B:Nat}{b:Bx}{xs:List Int}(h:RwIn m B b xs){k:Nat}(h1:1<=k)(h2:k<xs.length){c:Bx}(hc:c∈[bF b (lwB b) ((xs.take k).sum+(xs.drop k).sum) 0 (xs.take k).sum,bF b (lwB b) ((xs.take k).sum+(xs.drop k).sum) (xs.take k).sum (xs.drop k).sum]){j:Nat}(hj:j<xs.length):Bd m B c j:=by
 obtain⟨a1,a2,a3⟩:=h.two h1 h2;exact
  h.bd.part (way:=wy (lwB b)) (ws:=[(xs.take k).sum,(xs.drop k).sum]) (λw hw=>by
  rcases G_.mp hw with rfl |hw
  .exact a1
  .rw[N2.mp hw];exact a2) (by rw[show [(xs.take k).sum,(xs.drop k).sum].sum=(xs.take k).sum+(xs.drop k).sum from by simp];exact a3) (by rw[qV];exact hc) hj
def RwIn.row{m B:Nat}{b:Bx}{xs:List Int}(h:RwIn m B b xs){k:Nat}(h1:1<=k)(h2:k<=xs.length):∃j,1<=j/\Bd m B (iF b xs k) j:=by
 unfold iF;by_cases hk:k<xs.length
 .rw[if_pos hk];exact⟨k,h1,h.cut h1 hk (r_ ..) hk⟩
 .rw[if_neg hk];exact⟨xs.length,by omega,h.bd⟩
def RwIn.take{m B:Nat}{b:Bx}{xs:List Int}(h:RwIn m B b xs){k:Nat}:(xs.take k).sum<2^m:=by
 have a2:=er (l:=xs.drop k) λw hw=>h.pos w (OP hw);have a3:(xs.take k).sum+(xs.drop k).sum=xs.sum:=by rw[<- Pg,Og]
 have:=h.sum
 omega
def AM(b:Bx)(w:Bool)(xs:List Int):(ay b (wy w) xs).length=xs.length:=by rw[gA,vB]
def RwIn.boxes{m B:Nat}{b:Bx}{xs:List Int}(h:RwIn m B b xs){k:Nat}(h1:1<=k)(h2:k<=xs.length):∀c∈eS b xs k,c.Ok/\c.Sz 2000:=λc hc=>by
 obtain⟨j,hj,hB⟩:=h.row h1 h2
 have:=hB.part (λw hw=>h.pos w (Oq hw)) h.take hc (show 0<j by omega)
 exact⟨this.ok,this.sz⟩
def RwIn.len'{m B:Nat}{b:Bx}{xs:List Int}(h:RwIn m B b xs){k:Nat}(h2:k<=xs.length):(eS b xs k).length=k:=by unfold eS;rw[AM,NV];omega
def RwIn.shp{m B:Nat}{b:Bx}{xs:List Int}(h:RwIn m B b xs){k:Nat}(h1:1<=k)(h2:k<=xs.length):(eS b xs k).map aG≠[]/\∀q∈(eS b xs k).map aG,Sz 4000 q:=by
 have:=h.len' h2
 refine⟨λz=>?_,λq hq=>?_⟩
 .have:=Nz List.length z
  rw[p_,Nr] at this;omega
 .obtain⟨c,hc,rfl⟩:=Nv.mp hq;obtain⟨c1,c2⟩:=h.boxes h1 h2 c hc;exact i8 c1 c2
def RwIn.wsz{m B:Nat}{b:Bx}{xs:List Int}(h:RwIn m B b xs){k:Nat}(h1:1<=k)(h2:k<=xs.length):Sz 4000 (bK b xs k):=by
 obtain⟨q1,q2⟩:=h.shp h1 h2;unfold bK;cases hq:(eS b xs k).map aG with
 |nil=>exact absurd hq q1
 |cons q qs=>rw[hq] at q2;exact A1 qs q (q2 q (r_ ..)) λx hx=>q2 x (q_ _ hx)
def j3{m B:Nat}{b:Bx}{xs:List Int}(h:RwIn m B b xs){k:Nat}(h1:1<=k)(h2:k<=xs.length):cC.G [bV b,liV xs,.int (k:Nat)]=.ok (.val (fV (bK b xs k))) []:=by
 obtain⟨j,hj,hB⟩:=h.row h1 h2;have hm:=h.hm;have a_:=h.len;have lw:=d6 h.bd.ok h.bd.sz (by decide);have ow:=tL (lwB b);have tl:(xs.take k).length=k:=by rw[NV];omega
 have tp:=er (l:=xs.take k) λw hw=>h.pos w (Oq hw);have pe:=j9 (way:=wy !lwB b) (ws:=xs.take k) (m:=m) hB.ok hB.sz (Al _) (λz=>by rw[z] at tl;simp at tl;omega) (λw hw=>h.pos w (Oq hw)) (jQ (by omega) h.take) (by omega) (by omega);rw[show ay (iF b xs k) (wy !lwB b) (xs.take k)=eS b xs k from rfl] at pe;have bl:=h.len' h2;obtain⟨s,lc⟩:=zo (P:=dn) (bs:=eS b xs k) (λc hc=>gU (h.boxes h1 h2 c hc).1 (h.boxes h1 h2 c hc).2 (by decide)) rfl (by omega);obtain⟨q1,q2⟩:=h.shp h1 h2;have ge:=eY (by decide) q1 q2;rw[show mxL ((eS b xs k).map aG)=bK b xs k from rfl] at ge;have sl:(((eS b xs k).map aG).map fV).length<=16777216:=by rw[p_,p_];omega
 have ct:=gx (xs.map Val.int) k;rw[<- N8] at ct;have lx:((xs.map Val.int).length:Nat)=xs.length:=p_ ..;unfold cC;rw[ax];unfold i7;by_cases hk:k<xs.length
 .obtain⟨a1,a2,a3⟩:=h.two h1 hk;have ct2:=jn h.bd hm a1 a2 a3;rw[show bF b (lwB b) ((xs.take k).sum+(xs.drop k).sum) 0 (xs.take k).sum=iF b xs k from (if_pos hk).symm] at ct2;have c1:decide (((k:Nat):Int)<((xs.length:Nat):Int))=true:=H_ (by omega);unfold liV at ct2 ⊢;generalize bV (bF b (lwB b) ((xs.take k).sum+(xs.drop k).sum) (xs.take k).sum (xs.drop k).sum)=b2 at *;generalize bV (iF b xs k)=b1 at *;generalize ((eS b xs k).map aG).map fV=sv at *;generalize (eS b xs k).map bV=bs at *;generalize (xs.take k).map Val.int=w1 at *;generalize xs.map Val.int=w3 at *;generalize bV b=bv at *;generalize wy (!lwB b)=y1 at *;generalize wy (lwB b)=yy at *;generalize bK b xs k=rr at *;simp![lx,c1,ct2,lw,ow,fj,ct,pe,lc,sl,ge]
 .have c1:decide (((k:Nat):Int)<((xs.length:Nat):Int))=false:=Em (by omega);rw[show iF b xs k=b from if_neg hk] at pe;unfold liV;generalize ((eS b xs k).map aG).map fV=sv at *;generalize (eS b xs k).map bV=bs at *;generalize (xs.take k).map Val.int=w1 at *;generalize xs.map Val.int=w3 at *;generalize bV b=bv at *;generalize wy (!lwB b)=y1 at *;generalize wy (lwB b)=yy at *;generalize bK b xs k=rr at *;simp![lx,c1,lw,ow,fj,ct,pe,lc,sl,ge]
noncomputable def fM (b:Bx) (xs:List Int):Nat->Nat->Nat
 |0,k=>k
 |f+1,k=>if k<xs.length then (if bK b xs k<bK b xs (k+1) then k else fM b xs f (k+1)) else k
theorem wQ(b:Bx)(xs:List Int):∀f k,k<=xs.length->k<=fM b xs f k/\fM b xs f k<=xs.length
 |0,k,h=>⟨u_ _,h⟩
 |
  f+1,k,h=>by
  rw[fM];split
  .split
   .omega
   .have:=wQ b xs f (k+1) (by omega)
    omega
  .omega
theorem rf{m B:Nat}{b:Bx}{xs:List Int}(h:RwIn m B b xs):∀(f k:Nat) (s:Sl),s.pl=true->xs.length<=k+f->1<=k->k<=xs.length->∃s3 s4,(xWh (qOf (pOp bLt (af 2) (pFn bB (aa (af 1) ag)))) dW).G [.sh (bV b),.sh (liV xs),.sh (.int (k:Nat)),.sh (fV (bK b xs k)),s]=.nx [.sh (bV b),.sh (liV xs),.sh (.int (fM b xs f k:Nat)),s3,s4]
 |
  f,k,s,hs,hf,h1,h2=>by
  have lx:((xs.map Val.int).length:Nat)=xs.length:=p_ ..;by_cases hk:k<xs.length
  .cases
    f with
   |zero=>omega
   |
    succ f=>
    have c1:decide (((k:Nat):Int)<((xs.length:Nat):Int))=true:=H_ (by omega);have k1:((k:Nat):Int)+1=((k+1:Nat):Int):=by omega
    have wr:=j3 h (k:=k+1) (by omega) (by omega);have il:=jD (h.wsz h1 h2) (h.wsz (k:=k+1) (by omega) (by omega)) (by decide) (by decide);obtain⟨s3,s4,ih⟩:=rf h f (k+1) (.sh (fV (bK b xs (k+1)))) rfl (by omega) (by omega) (by omega);rw[fM,if_pos hk];by_cases hl:bK b xs k<bK b xs (k+1)
    .rw[if_pos hl];rw[H_ hl] at il;refine⟨.sh (fV (bK b xs k)),.sh (fV (bK b xs (k+1))),?_⟩;rw[gD];unfold dW;unfold liV at wr ⊢;generalize xs.map Val.int=w3 at *;generalize bV b=bv at *;generalize fV (bK b xs (k+1))=r1 at *;generalize fV (bK b xs k)=r0 at *;simp![hs,lx,c1,k1,wr,il]
    .rw[if_neg hl];rw[Em hl] at il;refine⟨s3,s4,?_⟩;have bb:dW.G [.sh (bV b),.sh (liV xs),.sh (.int (k:Nat)),.sh (fV (bK b xs k)),s]=.nx [.sh (bV b),.sh (liV xs),.sh (.int ((k+1:Nat):Int)),.sh (fV (bK b xs (k+1))),.sh (fV (bK b xs (k+1)))]:=by unfold dW;generalize liV xs=w3 at *;generalize bV b=bv at *;generalize fV (bK b xs (k+1))=r1 at *;generalize fV (bK b xs k)=r0 at *;simp![hs,k1,wr,il]
     rw[gD];unfold liV at bb ih ⊢;generalize xs.map Val.int=w3 at *;generalize bV b=bv at *;generalize fV (bK b xs (k+1))=r1 at *;generalize fV (bK b xs k)=r0 at *;simp![lx,c1,bb,ih]
  .have c1:decide (((k:Nat):Int)<((xs.length:Nat):Int))=false:=Em (by omega);refine⟨.sh (fV (bK b xs k)),s,?_⟩;have e:fM b xs f k=k:=by
    cases f with
    |zero=>rfl
    |succ f=>rw[fM,if_neg hk]
   rw[e,gD];unfold liV;generalize xs.map Val.int=w3 at *;simp![lx,c1]
noncomputable def row (b:Bx) (xs:List Int):Nat:=fM b xs xs.length 1
def Kt{b:Bx}{xs:List Int}(h:1<=xs.length):1<=row b xs/\row b xs<=xs.length:=wQ b xs _ 1 h
def pQ{m B:Nat}{b:Bx}{xs:List Int}(h:RwIn m B b xs)(h1:1<=xs.length):eF.G [bV b,liV xs]=.ok (.val (.int (row b xs:Nat))) []:=by have wr:=j3 h (k:=1) (by omega) (by omega);obtain⟨s3,s4,lo⟩:=rf h xs.length 1 .no rfl (by omega) (by omega) (by omega);rw[show fM b xs xs.length 1=row b xs from rfl] at lo;unfold eF;rw[ax];unfold jT;rw[show ((1:Nat):Int)=1 from rfl] at wr lo;generalize liV xs=w3 at *;generalize bV b=bv at *;generalize fV (bK b xs 1)=r0 at *;simp![wr,lo]
noncomputable def eV (b:Bx) (l:List Nat):AT:=if l.length=1 then .lf (l.headD 0) else .nd (!lwB b) (l.map .lf)
def Ga(b:Bx)(l:List Nat):atV (.nd (!lwB b) (l.map .lf))=.tup [.str (wy !lwB b),.tup (l.map λk:Nat=>Val.int k)]:=by unfold atV;rw[AT.val,AT.vals_map,Nu];rfl
def uV{b:Bx}{l:List Nat}{n:Nat}(hb:b.Ok)(hs:b.Sz n)(h:n<=8000)(hl:1<=l.length)(hl2:l.length<=1000):dU.G [bV b,itV l]=.ok (.val (atV (eV b l))) []:=by
 have lw:=d6 hb hs h;have ow:=tL (lwB b);have ll:((l.map λk:Nat=>Val.int k).length:Nat)=l.length:=p_ ..;unfold dU eV;rw[ax];unfold jJ;by_cases h1:l.length=1
 .obtain⟨k,rfl⟩:=OZ.mp h1;have a0:atI [Val.int (k:Nat)] 0=some (.int (k:Nat)):=aR (by decide) rfl;rw[if_pos h1,show atV (.lf ([k].headD 0))=.int (k:Nat) from rfl,show itV [k]=.lst [.int (k:Nat)] from rfl];simp![a0]
 .have n1:(((l.length:Nat):Int)==1)=false:=by rw[E_];omega
  rw[if_neg h1,Ga];unfold itV;generalize wy (!lwB b)=y1 at *;generalize wy (lwB b)=yy at *;generalize (l.map λk:Nat=>Val.int k)=l0 at *;generalize bV b=bv at *;simp![ll,n1,lw,ow]
noncomputable def rwT (ws:List Int):Nat->Bx->List Nat->AT
 |0,_,l=>.lf (l.headD 0)
 |N+1,b,l=>if row b (l.map λk=>ws.getD k 0)=l.length then eV b l else .nd (lwB b) [eV b (l.take (row b (l.map λk=>ws.getD k 0))),rwT ws N (bF b (lwB b) (((l.map λk=>ws.getD k 0).take (row b (l.map λk=>ws.getD k 0))).sum+((l.map λk=>ws.getD k 0).drop (row b (l.map λk=>ws.getD k 0))).sum) ((l.map λk=>ws.getD k 0).take (row b (l.map λk=>ws.getD k 0))).sum ((l.map λk=>ws.getD k 0).drop (row b (l.map λk=>ws.getD k 0))).sum) (l.drop (row b (l.map λk=>ws.getD k 0)))]
theorem Eb:∀l:List Nat,AT.okL (l.map .lf)=true/\AT.lvsL (l.map .lf)=l/\AT.depL (l.map .lf)<=1
 | []=>⟨rfl,rfl,by decide⟩
 |
  k::l=>by
  obtain⟨a,b,c⟩:=Eb l;rw[t_];refine⟨?_,?_,?_⟩
  .rw[AT.okL,a];rfl
  .rw[AT.lvsL,b];rfl
  .rw[AT.depL,AT.dep];omega
def FE(b:Bx){l:List Nat}(hl:1<=l.length):(eV b l).ok=true/\(eV b l).lvs=l/\(eV b l).dep<=l.length/\(eV b l).dep<=2:=by
 unfold eV;by_cases h1:l.length=1
 .obtain⟨k,rfl⟩:=OZ.mp h1;rw[if_pos h1];exact⟨rfl,rfl,by simp [AT.dep],by simp [AT.dep]⟩
 .rw[if_neg h1];obtain⟨a1,a2,a3⟩:=Eb l;refine⟨?_,?_,?_,?_⟩
  .simp [AT.ok,a1];omega
  .rw[AT.lvs,a2]
  .rw[AT.dep];omega
  .rw[AT.dep];omega
def Lz{l:List Nat}{i:Nat}(hn:l.length<=40)(h1:1<=l.length)(h2:1<=i):1<=(l.take i).length/\(l.take i).length<=1000:=by rw[NV];omega
theorem nN{ws:List Int}{m B:Nat}(hm:m<=104)(hS:∀l:List Nat,(∀k∈l,k<ws.length)->l.length<=ws.length->wtA ws l<2^m)(hw:∀w∈ws,1<=w)(hn:ws.length<=40):∀(N:Nat) (l:List Nat) (b:Bx),l.length<=N->1<=l.length->l.length<=ws.length->(∀k∈l,k<ws.length)->Bd m B b l.length->
 (aW N).G [bV b,itV l,liV (l.map λk=>ws.getD k 0)]=.ok (.val (atV (rwT ws N b l))) []/\(rwT ws N b l).ok=true/\(rwT ws N b l).lvs=l/\(rwT ws N b l).dep<=l.length
 |0,l,b,h0,h1,_,_,_=>by omega
 |
  N+1,l,b,h0,h1,hl,hi,hB=>by
  have hp:∀k∈l,1<=ws.getD k 0:=λj hj=>by rw[L_,B_ (hi j hj)];exact hw _ (Oz _)
  have xl:(l.map λk=>ws.getD k 0).length=l.length:=p_ ..;have hR:RwIn m B b (l.map λk=>ws.getD k 0):=⟨hm,by rw[xl];exact hB,λw hw=>by obtain⟨k,hk,rfl⟩:=Nv.mp hw;exact hp k hk,hS l hi hl,by rw[xl];exact Nw hl hn⟩;obtain⟨r1,r2⟩:=Kt (b:=b) (xs:=l.map λk=>ws.getD k 0) (by rw[xl];exact h1);have re:=pQ hR (by rw[xl];exact h1);have te:rwT ws (N+1) b l=_:=rwT.eq_2 ws b l N;rw[xl] at r2;have ll:((l.map λk:Nat=>Val.int k).length:Nat)=l.length:=p_ ..;have lw:=d6 hB.ok hB.sz (by decide);have ctl:=gx (l.map λk:Nat=>Val.int k) (row b (l.map λk=>ws.getD k 0));have cdl:=f9 (l.map λk:Nat=>Val.int k) (row b (l.map λk=>ws.getD k 0));rw[<- N8] at ctl;rw[<- Oe] at cdl;have two:∀k,k<l.length->1<=k->_:=λk h1 h2=>hR.two (k:=k) h2 (by rw[xl];exact h1);have cut:∀k,k<l.length->1<=k->∀c,c∈_->∀j,j<l.length->Bd m B c j:=λk h1 h2 c hc j hj=>hR.cut (k:=k) h2 (by rw[xl];exact h1) hc (by rw[xl];exact hj);rw[te];generalize hi0:row b (l.map λk=>ws.getD k 0)=i at *;obtain⟨k1,k2⟩:=Lz (Nw hl hn) h1 r1;have tr:=uV (l:=l.take i) hB.ok hB.sz (by decide) k1 k2;obtain⟨o1,o2,o3,o4⟩:=FE b (l:=l.take i) k1;by_cases hk:i=l.length
  .rw[if_pos hk];have et:l.take i=l:=N4 (Nat.le_of_eq hk.symm);rw[et] at o1 o2 o3 o4 tr ctl;have q1:(((i:Nat):Int)==((l.length:Nat):Int))=true:=by rw[NB,hk]
   refine⟨?_,o1,o2,o3⟩
   .show (PFx.of [false,false,false] 6 (cB (aW N))).G _=_;rw[kK];unfold cB;unfold itV at tr ⊢;generalize atV (eV b l)=tv at *;generalize liV (l.map λk=>ws.getD k 0)=x0 at *;generalize (l.map λk:Nat=>Val.int k)=l0 at *;generalize bV b=bv at *;simp![re,fj,ctl,tr,ll,q1]
  .rw[if_neg hk];have q1:(((i:Nat):Int)==((l.length:Nat):Int))=false:=by rw[E_];exact λz=>hk (Int.ofNat.inj z)
   have hi2:i<l.length:=Nat.lt_of_le_of_ne r2 hk;obtain⟨p1,p2,p3⟩:=two i hi2 r1;have pm:=cut i hi2 r1;have ct2:=jn hR.bd hm p1 p2 p3;have ctx:=gx ((l.map λk=>ws.getD k 0).map Val.int) i;have cdx:=f9 ((l.map λk=>ws.getD k 0).map Val.int) i;rw[<- N8] at ctx;rw[<- Oe] at cdx;obtain⟨_,d1,d2,d3,d4⟩:=Ak h0 r1 hi2 hl;obtain⟨b1,b3,b4,b5⟩:=nN hm hS hw hn N (l.drop i) _ d1 d2 d3 (λj hj=>hi j (OP hj)) (pm _ (q_ _ (r_ ..)) _ d4);rw[Oe] at b1;generalize rwT ws N (bF b (lwB b) (((l.map λk=>ws.getD k 0).take i).sum+((l.map λk=>ws.getD k 0).drop i).sum) ((l.map λk=>ws.getD k 0).take i).sum ((l.map λk=>ws.getD k 0).drop i).sum) (l.drop i)=T2 at *;refine⟨?_,?_,?_,?_⟩
   .show (PFx.of [false,false,false] 6 (cB (aW N))).G _=_;rw[kK];unfold cB;rw[show atV (.nd (lwB b) [eV b (l.take i),T2])=.tup [.str (wy (lwB b)),.tup [atV (eV b (l.take i)),atV T2]] from rfl];generalize atV (eV b (l.take i))=tv at *;generalize atV T2=tv2 at *;generalize wy (lwB b)=yy at *;generalize bV (bF b (lwB b) _ 0 _)=B1 at *;generalize bV (bF b (lwB b) _ _ _)=B2 at *;unfold itV at tr b1 ⊢;unfold liV at re ct2 b1 ⊢;generalize ((l.map λk=>ws.getD k 0).take i).map Val.int=x1 at *;generalize ((l.map λk=>ws.getD k 0).drop i).map Val.int=x2 at *;generalize (l.map λk=>ws.getD k 0).map Val.int=x0 at *;generalize ((l.take i).map λk:Nat=>Val.int k)=l1 at *;generalize ((l.drop i).map λk:Nat=>Val.int k)=l2 at *;generalize (l.map λk:Nat=>Val.int k)=l0 at *;generalize bV b=bv at *;simp![re,fj,ctl,tr,ll,q1,ct2,lw,cdl,cdx,b1]
   .simp [AT.ok,AT.okL,o1,b3]
   .rw[AT.lvs,AT.lvsL,AT.lvsL,AT.lvsL,o2,b4,NJ,Og]
   .exact vQ r1 hi2 o3 b5
def Fu{ws:List Int}(hl:ws.length<64):aM.G [liV ws]=.ok (.new (itV (aJ ws))) []:=by have kf:=Ag ws hl;have ll:((ws.map Val.int).length:Nat)=ws.length:=p_ ..;unfold aM;rw[ax];unfold dE;unfold liV itV;generalize (aJ ws).map (λi:Nat=>Val.int (i:Nat))=fv at *;generalize ws.map Val.int=wv at *;simp![ll,kf]
def yC{ws:List Int}{b:Bx}{t:Val}(hb:b.Ok)(W:WOk ws)(h:(aU 42).G [bV b,itV (List.range ws.length),liV ws,.glb "nearest_to_half"]=.ok (.val t) []):b9.G [bV b,liV ws]=.ok (.val t) []:=by have wl:=W.len;have wp:=W.pos;have cb:=aN hb;have cw:=dS (ws:=ws) (by intro z;rw[z] at wp;exact absurd wp (by decide)) (λw hw=>(W.wt w hw).1) wl;have ll:((ws.map Val.int).length:Nat)=ws.length:=p_ ..;have lr:jG.G [.int (ws.length:Nat)]=.new (itV (List.range ws.length)):=DP ⟨by omega,by omega⟩;unfold b9;rw[ax];unfold jM;unfold liV at h ⊢;generalize itV (List.range ws.length)=rv at *;generalize ws.map Val.int=wv at *;generalize bV b=bv at *;simp![cb,cw,ll,lr,h]
def Fz{ws:List Int}{b:Bx}{t:Val}(hb:b.Ok)(W:WOk ws)(h:(aW 42).G [bV b,itV (List.range ws.length),liV ws]=.ok (.val t) []):cX.G [bV b,liV ws]=.ok (.val t) []:=by have wl:=W.len;have wp:=W.pos;have cb:=aN hb;have cw:=dS (ws:=ws) (by intro z;rw[z] at wp;exact absurd wp (by decide)) (λw hw=>(W.wt w hw).1) wl;have ll:((ws.map Val.int).length:Nat)=ws.length:=p_ ..;have lr:jG.G [.int (ws.length:Nat)]=.new (itV (List.range ws.length)):=DP ⟨by omega,by omega⟩;unfold cX;rw[ax];unfold lg;unfold liV at h ⊢;generalize itV (List.range ws.length)=rv at *;generalize ws.map Val.int=wv at *;generalize bV b=bv at *;simp![cb,cw,ll,lr,h]
def CY{ws:List Int}{b:Bx}{t:Val}(hb:b.Ok)(W:WOk ws)(h:(aW 42).G [bV b,itV (aJ ws),liV ((aJ ws).map λk=>ws.getD k 0)]=.ok (.val t) []):bE.G [bV b,liV ws]=.ok (.val t) []:=by
 have wl:=W.len;have wp:=W.pos;have cb:=aN hb;have cw:=dS (ws:=ws) (by intro z;rw[z] at wp;exact absurd wp (by decide)) (λw hw=>(W.wt w hw).1) wl;have bf:=Fu (ws:=ws) (by omega);have lf:(aJ ws).length=ws.length:=by rw[(b0 ws).perm.length_eq,w_]
 obtain⟨s,lc⟩:=uv (ws:=ws) (l:=aJ ws) (by omega) (λk hk=>M_.mp ((b0 ws).perm.mem_iff.mp hk));have lz:(((aJ ws).map λk=>ws.getD k 0).map Val.int).length<=16777216:=by rw[p_,p_];omega
 unfold bE;rw[ax];unfold ip;unfold itV at h bf;unfold liV at h lc bf ⊢;generalize ((aJ ws).map λk=>ws.getD k 0).map Val.int=xv at *;generalize (aJ ws).map (λi:Nat=>Val.int (i:Nat))=fv at *;generalize ws.map Val.int=wv at *;generalize bV b=bv at *;simp![cb,cw,bf,cu,inS,lc,lz,h]
def Aj{ws:List Int}{b:Bx}{t:Val}(hb:b.Ok)(W:WOk ws)(h:(aU 42).G [bV b,itV (aJ ws),liV ((aJ ws).map λk=>ws.getD k 0),.glb "fewest_to_third"]=.ok (.val t) []):bZ.G [bV b,liV ws]=.ok (.val t) []:=by
 have wl:=W.len;have wp:=W.pos;have cb:=aN hb;have cw:=dS (ws:=ws) (by intro z;rw[z] at wp;exact absurd wp (by decide)) (λw hw=>(W.wt w hw).1) wl;have kf:=Ag ws (by omega);have lf:(aJ ws).length=ws.length:=by rw[(b0 ws).perm.length_eq,w_]
 obtain⟨s,lc⟩:=uv (ws:=ws) (l:=aJ ws) (by omega) (λk hk=>M_.mp ((b0 ws).perm.mem_iff.mp hk));have ll:((ws.map Val.int).length:Nat)=ws.length:=p_ ..;have lz:(((aJ ws).map λk=>ws.getD k 0).map Val.int).length<=16777216:=by rw[p_,p_];omega
 have bf:aM.G [liV ws]=.ok (.new (itV (aJ ws))) []:=by unfold aM;rw[ax];unfold dE;unfold liV itV;generalize (aJ ws).map (λi:Nat=>Val.int (i:Nat))=fv at *;generalize ws.map Val.int=wv at *;simp![ll,kf]
 unfold bZ;rw[ax];unfold jK;unfold itV at h bf;unfold liV at h lc bf ⊢;generalize ((aJ ws).map λk=>ws.getD k 0).map Val.int=xv at *;generalize (aJ ws).map (λi:Nat=>Val.int (i:Nat))=fv at *;generalize ws.map Val.int=wv at *;generalize bV b=bv at *;simp![cb,cw,bf,cu,inS,lc,lz,h]
def jl(ws:List Int):((List.range ws.length).map λk=>ws.getD k 0)=ws:=vy 0 ws
def nQ{ws:List Int}{b:Bx}(g:Good b)(W:WOk ws):∃m,m<=104/\Bd m (2^101) b ws.length/\∀l:List Nat,(∀k∈l,k<ws.length)->l.length<=ws.length->wtA ws l<2^m:=by
 obtain⟨D,hD,R⟩:=D9 g;have hin:∀k,k<ws.length->ws.getD k 0∈ws:=λk hk=>by rw[L_,B_ hk];exact Oz _
 have wl:=W.len;have key:∀m,m*ws.length<=1218->Bd m (2^101) b ws.length:=λm h1=>by
  refine⟨D,2^101,R,u_ _,by decide,?_⟩;have a1:2^101+ws.length*2^101<=2^107:=by
   have h1:=Ot (2^101) (show ws.length<=40 by omega);have h2:2^107=64*2^101:=by decide
   rw[h2];generalize 2^101=X at *;omega
  have a2:2^(m*ws.length)<=2^1218:=NI (by decide) h1;refine Oh (NO a1 (NO (O5 hD) a2)) ?_;rw[<- OC,<- OC];exact Nat.pow_lt_pow_right (by decide) (by decide)
 by_cases h9:10<ws.length
 .refine⟨30,by decide,key 30 (by omega),λl hl hn=>?_⟩
  have:=ku (M:=16777216) λk hk=>W.few h9 _ (hin k (hl k hk))
  have:(2:Int)^30=1073741824:=by decide
  omega
 .refine⟨104,by decide,key 104 (by omega),λl hl hn=>?_⟩
  have:=ku (M:=1000000000000000000000000000000) λk hk=>(W.wt _ (hin k (hl k hk))).2
  have:(2:Int)^104=20282409603651670423947251286016:=by decide
  omega
noncomputable def tH (b:Bx) (ws:List Int):AT:=inT fK ws 42 b (List.range ws.length)
noncomputable def tR (b:Bx) (ws:List Int):AT:=rwT ws 42 b (List.range ws.length)
noncomputable def tG (b:Bx) (ws:List Int):AT:=rwT ws 42 b (aJ ws)
noncomputable def tT (b:Bx) (ws:List Int):AT:=inT gu ws 42 b (aJ ws)
section
variable{ws:List Int}{b:Bx}
def kH{k:Nat}:k∈aJ ws ↔ k<ws.length:=(b0 ws).perm.mem_iff.trans M_
def uj:(aJ ws).length=ws.length:=by rw[(b0 ws).perm.length_eq,w_]
def mX{t:AT}{l:List Nat}(h1:t.ok=true)(h2:t.lvs=l)(h3:t.dep<=l.length)(hl:∀k,k∈l ↔ k<ws.length)(hn:l.length=ws.length):TOk t (List.range ws.length):=⟨h1,λk=>by rw[h2,hl,M_],by rw[w_];omega,by rw[h2,w_];exact hn⟩
def xY(g:Good b)(W:WOk ws):b9.G [bV b,liV ws]=.ok (.val (atV (tH b ws))) []/\TOk (tH b ws) (List.range ws.length):=by have wl:=W.len;have wp:=W.pos;obtain⟨m,hm,B,hS⟩:=nQ g W;obtain⟨t1,t2,t3,t4⟩:=mT Bb hm hS (λw hw=>(W.wt w hw).1) wl 42 (List.range ws.length) b (by rw[w_];omega) (by rw[w_];omega) (by rw[w_];omega) (λk hk=>M_.mp hk) (by rw[w_];exact B) trivial;rw[jl] at t1;exact⟨yC g.ok W t1,mX t2 t3 t4 (λk=>M_) w_⟩
def wV(g:Good b)(W:WOk ws):cX.G [bV b,liV ws]=.ok (.val (atV (tR b ws))) []/\TOk (tR b ws) (List.range ws.length):=by have wl:=W.len;have wp:=W.pos;obtain⟨m,hm,B,hS⟩:=nQ g W;obtain⟨t1,t2,t3,t4⟩:=nN (B:=2^101) hm hS (λw hw=>(W.wt w hw).1) wl 42 (List.range ws.length) b (by rw[w_];omega) (by rw[w_];omega) (by rw[w_];omega) (λk hk=>M_.mp hk) (by rw[w_];exact B);rw[jl] at t1;exact⟨Fz g.ok W t1,mX t2 t3 t4 (λk=>M_) w_⟩
def yk(g:Good b)(W:WOk ws):bE.G [bV b,liV ws]=.ok (.val (atV (tG b ws))) []/\TOk (tG b ws) (List.range ws.length):=by have wl:=W.len;have wp:=W.pos;have fl:=uj (ws:=ws);obtain⟨m,hm,B,hS⟩:=nQ g W;obtain⟨t1,t2,t3,t4⟩:=nN (B:=2^101) hm hS (λw hw=>(W.wt w hw).1) wl 42 (aJ ws) b (by omega) (by omega) (by omega) (λk hk=>kH.mp hk) (by rw[fl];exact B);exact⟨CY g.ok W t1,mX t2 t3 t4 (λk=>kH) fl⟩
def xy(g:Good b)(W:WOk ws):bZ.G [bV b,liV ws]=.ok (.val (atV (tT b ws))) []/\TOk (tT b ws) (List.range ws.length):=by have wl:=W.len;have wp:=W.pos;have fl:=uj (ws:=ws);obtain⟨m,hm,B,hS⟩:=nQ g W;obtain⟨t1,t2,t3,t4⟩:=mT zq hm hS (λw hw=>(W.wt w hw).1) wl 42 (aJ ws) b (by omega) (by omega) (by omega) (λk hk=>kH.mp hk) (by rw[fl];exact B) (AB ws);exact⟨Aj g.ok W t1,mX t2 t3 t4 (λk=>kH) fl⟩
end
def Mh{ws:List Int}{b:Bx}{r:Str}{t:AT}(g:Good b)(W:WOk ws)(h:aD.G [.str r,bV b,liV ws]=.ok (.val (atV t)) [])(T:TOk t (List.range ws.length)):cx.G [.str r,bV b,liV ws]=.ok (.new (.lst ((List.range ws.length).map λk=>bV (bxO (AT.bx ws t b) k)))) []:=by have wp:=W.pos;have wl:=W.len;obtain⟨m,hm,hy⟩:=xD g W T (λi=>M_) w_;have be:=ue (by omega) g.ok (λz=>by rw[z] at wp;exact absurd wp (by decide)) (λx hx=>(W.wt x hx).1) wl T.ok (λk=>(T.mem k).trans M_) (AQ T (λi=>M_) w_) (by rw[T.len,w_]) (by have:=T.dep;rw[w_] at this;omega) hy;unfold cx;rw[ax];unfold jS;generalize (List.range ws.length).map (λk=>bV (bxO (AT.bx ws t b) k))=pv at *;generalize atV t=tv at *;generalize liV ws=wv at *;generalize bV b=bv at *;simp![h,be]
def dM{r:Str}(h:xo.G (.str r) (.tup [.str "across",.str "down",.str "halves",.str "rows",.str "greatest",.str "thirds"])=.val (.bl false)):cE.G [.str r]=.ok (.val .non) []:=by unfold cE;rw[ax];unfold ki;simp![h]
def Aa{bv wv t:Val}(h:b9.G [bv,wv]=.ok (.val t) []):aD.G [.str "halves",bv,wv]=.ok (.val t) []:=by
 have ck:=dM (r:="halves") rfl;have e1:aL (.str "halves") (.str "halves")=some true:=by rw[L3.eq_str (by decide) (by decide)];exact Nz some (by decide)
 unfold aD;rw[ax];unfold dX;simp![ck,e1,h]
def yW{bv wv t:Val}(h:cX.G [bv,wv]=.ok (.val t) []):aD.G [.str "rows",bv,wv]=.ok (.val t) []:=by
 have ck:=dM (r:="rows") rfl;have e0:aL (.str "rows") (.str "halves")=some false:=by rw[L3.eq_str (by decide) (by decide)];exact Nz some (by decide)
 have e1:aL (.str "rows") (.str "rows")=some true:=by rw[L3.eq_str (by decide) (by decide)];exact Nz some (by decide)
 unfold aD;rw[ax];unfold dX;simp![ck,e0,e1,h]
def A2{bv wv t:Val}(h:bE.G [bv,wv]=.ok (.val t) []):aD.G [.str "greatest",bv,wv]=.ok (.val t) []:=by
 have ck:=dM (r:="greatest") rfl;have e0:aL (.str "greatest") (.str "halves")=some false:=by rw[L3.eq_str (by decide) (by decide)];exact Nz some (by decide)
 have e1:aL (.str "greatest") (.str "rows")=some false:=by rw[L3.eq_str (by decide) (by decide)];exact Nz some (by decide)
 have e2:aL (.str "greatest") (.str "greatest")=some true:=by rw[L3.eq_str (by decide) (by decide)];exact Nz some (by decide)
 unfold aD;rw[ax];unfold dX;simp![ck,e0,e1,e2,h]
def yE{bv wv t:Val}(h:bZ.G [bv,wv]=.ok (.val t) []):aD.G [.str "thirds",bv,wv]=.ok (.val t) []:=by
 have ck:=dM (r:="thirds") rfl;have e0:aL (.str "thirds") (.str "halves")=some false:=by rw[L3.eq_str (by decide) (by decide)];exact Nz some (by decide)
 have e1:aL (.str "thirds") (.str "rows")=some false:=by rw[L3.eq_str (by decide) (by decide)];exact Nz some (by decide)
 have e2:aL (.str "thirds") (.str "greatest")=some false:=by rw[L3.eq_str (by decide) (by decide)];exact Nz some (by decide)
 have e3:aL (.str "thirds") (.str "thirds")=some true:=by rw[L3.eq_str (by decide) (by decide)];exact Nz some (by decide)
 unfold aD;rw[ax];unfold dX;simp![ck,e0,e1,e2,e3,h]
theorem lG:∀l:List Nat,AT.lvsL (l.map .lf)=l
 | []=>rfl
 |k::l=>by rw[t_,AT.lvsL,lG l,AT.lvs];rfl
theorem wg:∀l:List Nat,AT.okL (l.map .lf)=true
 | []=>rfl
 |k::l=>by rw[t_,AT.okL,wg l,AT.ok];rfl
theorem tX:∀l:List Nat,AT.depL (l.map .lf)<=1
 | []=>by rw[Nt,AT.depL];omega
 |k::l=>by rw[t_,AT.depL,AT.dep];have:=tX l;omega
theorem wM(ws:List Int):∀(l:List Nat) (bs:List Bx),AT.bxL ws (l.map .lf) bs=l.zip bs
 | [],bs=>by rw[Nt,AT.bxL];rfl;exact λ_ _ _ _ z=>nomatch z
 |k::l,[]=>by rw[t_,AT.bxL];rfl;exact λ_ _ _ _ _ z=>nomatch z
 |k::l,b::bs=>by rw[t_,AT.bxL,wM ws l bs,AT.bx];rfl
theorem we:∀(bs:List Bx) (a i:Nat) (c:Bx),bs[i]?=some c->bxO ((List.range' a bs.length).zip bs) (a+i)=c
 | [],a,i,c,h=>by simp at h
 |
  b::bs,a,i,c,h=>by
  rw[D_,List.range'_succ,List.zip_cons_cons];unfold bxO;cases i with
  |zero=>rw[OY (by simp)];simpa using h
  |
   succ i=>
   rw[OB (by simp)]
   have:=we bs (a+1) i c (by simpa using h)
   unfold bxO at this;rw[show a+(i+1)=a+1+i by omega];exact this
def xX{bs:List Bx}{n:Nat}(h:bs.length=n):((List.range n).map λk=>bV (bxO ((List.range n).zip bs) k))=bs.map bV:=by
 subst h;refine List.ext_getElem (by simp) λi h1 h2=>?_;rw[p_] at h2;rw[List.getElem_map,List.getElem_map,List.getElem_range];congr 1
 have:=we bs 0 i (bs[i]) (B_ h2)
 rw[Nat.zero_add,<- List.range_eq_range'] at this;exact this
noncomputable def sbT (w:Bool) (n:Nat):AT:=if n=1 then .lf 0 else .nd w ((List.range n).map .lf)
def Eg(w:Bool){n:Nat}(h:1<=n):TOk (sbT w n) (List.range n):=by
 unfold sbT;by_cases h1:n=1
 .rw[if_pos h1,h1];exact⟨rfl,λk=>Iff.rfl,u_ _,rfl⟩
 .rw[if_neg h1];refine⟨?_,λk=>by rw[AT.lvs,lG],?_,by rw[AT.lvs,lG]⟩
  .rw[AT.ok,wg,p_,w_,H_ (by omega)];rfl
  .rw[AT.dep,w_]
   have:=tX (List.range n)
   omega
def BR(b:Bx)(w:Bool){x:Int}(h:1<=x):ay b (wy w) [x]=[b]:=by
 rw[gA];have hx:(x:Rat)≠0:=λz=>by
  have:x=0:=by exact_mod_cast z
  omega
 have e:(x:Rat)/(x:Rat)=1:=by rw[O0];exact Rat.mul_inv_cancel _ hx
 have e0:((0:Int):Rat)/(x:Rat)=0:=by rw[O0];exact Rat.zero_mul _
 simp only[NA,List.sum_nil,Int.add_zero,frm,bF,e,e0,Rat.mul_zero,Rat.mul_one,Rat.add_zero];cases w <;> rfl
def L4{ws:List Int}(b:Bx)(w:Bool)(h:1<=ws.length)(hw:∀x∈ws,1<=x):((List.range ws.length).map λk=>bV (bxO (AT.bx ws (sbT w ws.length) b) k))=(ay b (wy w) ws).map bV:=by
 unfold sbT;by_cases h1:ws.length=1
 .rw[if_pos h1,AT.bx,h1];obtain⟨x,rfl⟩:=OZ.mp h1;rw[BR b w (hw x (r_ ..))];rfl
 .rw[if_neg h1,AT.bx,Nu];have e:(List.range ws.length).map (wtT ws ∘ AT.lf)=ws:=by
   have:=jl ws
   refine Eq.trans (NR λk _=>?_) this;show wtA ws (AT.lvs (.lf k))=_;rw[AT.lvs];simp [wtA]
  rw[e,wM];exact xX (jV ..)
def Dp{ws:List Int}{b:Bx}(w:Bool)(g:Good b)(W:WOk ws):eQ.G [bV b,liV ws,atV (sbT w ws.length)]=.ok (.new (.lst ((ay b (wy w) ws).map bV))) []:=by have wp:=W.pos;have wl:=W.len;have T:=Eg w wp;obtain⟨m,hm,hy⟩:=xD g W T (λi=>M_) w_;have be:=ue (by omega) g.ok (λz=>by rw[z] at wp;exact absurd wp (by decide)) (λx hx=>(W.wt x hx).1) wl T.ok (λk=>(T.mem k).trans M_) (AQ T (λi=>M_) w_) (by rw[T.len,w_]) (by have:=T.dep;rw[w_] at this;omega) hy;rw[L4 b w wp λx hx=>(W.wt x hx).1] at be;exact be
def Bk(w:Bool)(l:List Nat):atV (.nd w (l.map .lf))=.tup [.str (wy w),.tup (l.map λk:Nat=>Val.int k)]:=by unfold atV;rw[AT.val,AT.vals_map,Nu];rfl
def EN{ws:List Int}{b:Bx}(w:Bool)(hb:b.Ok)(W:WOk ws):df.G [.str (wy w),bV b,liV ws]=.ok (.val (atV (sbT w ws.length))) []:=by
 have wl:=W.len;have wp:=W.pos;have cb:=aN hb;have cw:=dS (ws:=ws) (by intro z;rw[z] at wp;exact absurd wp (by decide)) (λx hx=>(W.wt x hx).1) wl;have ll:((ws.map Val.int).length:Nat)=ws.length:=p_ ..;have kt:mq.G [.int (ws.length:Nat)]=.val (.tup ((List.range ws.length).map λk:Nat=>Val.int k)):=K4 ⟨by omega,by omega⟩;unfold df sbT;rw[ax];unfold jb;unfold liV;by_cases h1:ws.length=1
 .have n1:(((ws.length:Nat):Int)==1)=true:=by rw[NB];omega
  rw[if_pos h1,show atV (.lf 0)=.int 0 from rfl];generalize ws.map Val.int=wv at *;generalize bV b=bv at *;generalize wy w=yy at *;simp![cb,cw,ll,n1]
 .have n1:(((ws.length:Nat):Int)==1)=false:=by rw[E_];omega
  rw[if_neg h1,Bk];generalize ((List.range ws.length).map λk:Nat=>Val.int k)=rv at *;generalize ws.map Val.int=wv at *;generalize bV b=bv at *;generalize wy w=yy at *;simp![cb,cw,ll,n1,kt]
def qZ(w:Bool){s:Str}(h:s∈(["halves", "rows", "greatest", "thirds"]:List Str)):aL (.str (wy w)) (.str s)=some false:=by simp only[G_,PD,or_false] at h;rcases h with rfl |rfl |rfl |rfl <;> cases w <;> (rw[L3.eq_str (by decide) (by decide)];exact Nz some (by decide))
def AU(w:Bool):cE.G [.str (wy w)]=.ok (.val .non) []:=by
 cases w
 .exact dM rfl
 .exact dM rfl
def rn{ws:List Int}{b:Bx}(w:Bool)(hb:b.Ok)(W:WOk ws):aD.G [.str (wy w),bV b,liV ws]=.ok (.val (atV (sbT w ws.length))) []:=by have se:=EN w hb W;have ck:=AU w;have n1:=qZ w (s:="halves") (by simp);have n2:=qZ w (s:="rows") (by simp);have n3:=qZ w (s:="greatest") (by simp);have n4:=qZ w (s:="thirds") (by simp);unfold aD;rw[ax];unfold dX;generalize atV (sbT w ws.length)=tv at *;generalize liV ws=wv at *;generalize bV b=bv at *;generalize wy w=yy at *;simp![ck,n1,n2,n3,n4,se]
theorem vG{k:Nat}:∀{l:List (Nat×Bx)},k∈l.map (·.1)->∃p∈l,bxO l k=p.2
 | [],h=>nomatch h
 |
  p::l,h=>by
  unfold bxO;by_cases hp:p.1=k
  .exact⟨p,r_ ..,by rw[OY (by simpa using hp)];rfl⟩
  .rw[t_,G_] at h;obtain⟨q,hq,e⟩:=vG (l:=l) (h.resolve_left λz=>hp z.symm);refine⟨q,q_ _ hq,?_⟩;rw[OB (by simpa using hp)];exact e
noncomputable def bsO (ws:List Int) (t:AT) (b:Bx):List Bx:=(List.range ws.length).map λk=>bxO (AT.bx ws t b) k
def FR(ws:List Int)(t:AT)(b:Bx):((List.range ws.length).map λk=>bV (bxO (AT.bx ws t b) k))=(bsO ws t b).map bV:=by unfold bsO;rw[Nu];rfl
def B5{ws:List Int}{t:AT}{b:Bx}(g:Good b)(W:WOk ws)(T:TOk t (List.range ws.length)):∀c∈bsO ws t b,c.Ok/\c.Sz 2000:=λc hc=>by obtain⟨k,hk,rfl⟩:=Nv.mp hc;obtain⟨m,hm,hy⟩:=xD g W T (λi=>M_) w_;obtain⟨p,hp,e⟩:=vG (l:=AT.bx ws t b) (k:=k) (by rw[AT.bx_keys];exact (T.mem k).mpr hk);rw[e];exact Hl t b hy p hp
def D5{ws:List Int}{b:Bx}{r:Str}{t:AT}(g:Good b)(W:WOk ws)(h:aD.G [.str r,bV b,liV ws]=.ok (.val (atV t)) [])(T:TOk t (List.range ws.length)):cx.G [.str r,bV b,liV ws]=.ok (.new (.lst ((bsO ws t b).map bV))) []:=by rw[<- FR];exact Mh g W h T
def Ey{a b c d a' b' c' d':Rat}(h1:a=a')(h2:b=b')(h3:c=c')(h4:d=d'):(⟨a,b,c,d⟩:Bx)=⟨a',b',c',d'⟩:=by subst h1 h2 h3 h4;rfl
noncomputable def mvB (x y k:Rat) (b:Bx):Bx:=⟨x+k*b.l,y+k*b.t,k*b.w,k*b.h⟩
noncomputable def scW (q:Int) (xs:List Int):List Int:=xs.map (· * q)
theorem dk(q:Int):∀xs:List Int,(scW q xs).sum=xs.sum*q
 | []=>by simp [scW]
 |
  x::xs=>by
  have:=dk q xs
  unfold scW at this ⊢;rw[t_,NA,NA,this,Pt]
def iY(q:Int)(xs:List Int)(i:Nat):(scW q xs).take i=scW q (xs.take i):=by unfold scW;rw[N8]
def nW(q:Int)(xs:List Int)(i:Nat):(scW q xs).drop i=scW q (xs.drop i):=by unfold scW;rw[Oe]
def cK(q:Int)(xs:List Int):(scW q xs).length=xs.length:=p_ ..
def rR(q:Int)(ws:List Int)(k:Nat):(scW q ws).getD k 0=ws.getD k 0*q:=by
 unfold scW;rw[L_,L_,Nq];cases ws[k]? with
 |none=>simp
 |some x=>rfl
def rK(q:Int)(ws:List Int)(l:List Nat):(l.map λk=>(scW q ws).getD k 0)=scW q (l.map λk=>ws.getD k 0):=by unfold scW;rw[Nu];exact NR λk _=>rR q ws k
def mL(q:Int)(ws:List Int)(l:List Nat):wtA (scW q ws) l=wtA ws l*q:=by unfold wtA;rw[rK,dk]
def kj{q:Int}(hq:1<=q)(a W:Int):((a*q:Int):Rat)/((W*q:Int):Rat)=(a:Rat)/(W:Rat):=by
 have h:(q:Rat)≠0:=λz=>by
  have:q=0:=by exact_mod_cast z
  omega
 rw[NQ,NQ,O0,O0,Rat.inv_mul_rev];have e:(q:Rat)*(q:Rat)⁻¹=1:=Rat.mul_inv_cancel _ h;generalize (W:Rat)⁻¹=w at *;generalize (q:Rat)⁻¹=r at *;grind
section
variable{x y k:Rat}{q:Int}
def j7(hq:1<=q)(b:Bx)(w:Bool)(W a z:Int):bF (mvB x y k b) w (W*q) (a*q) (z*q)=mvB x y k (bF b w W a z):=by
 unfold bF mvB;rw[kj hq,kj hq];cases w with
 |true=>rw[if_pos rfl,if_pos rfl];generalize (a:Rat)/(W:Rat)=p;generalize (z:Rat)/(W:Rat)=r;exact Ey (by grind) rfl (by grind) rfl
 |false=>rw[if_neg (by decide),if_neg (by decide)];generalize (a:Rat)/(W:Rat)=p;generalize (z:Rat)/(W:Rat)=r;exact Ey rfl (by grind) rfl (by grind)
def xI(hk:0<k)(a b:Rat):k*a<k*b ↔ a<b:=⟨λh=>Rat.not_le.mp λz=>by
 have:=Rat.mul_le_mul_of_nonneg_left z (Rat.le_of_lt hk)
 grind,λh=>Rat.mul_lt_mul_of_pos_left h hk⟩
def mG(hk:0<k)(b:Bx):lwB (mvB x y k b)=lwB b:=by unfold lwB mvB;rw[O9.mpr (xI hk b.w b.h)]
def yH(hk:0<k)(a b:Rat):(k*a)/(k*b)=a/b:=by have e:k*k⁻¹=1:=Rat.mul_inv_cancel _ (λz=>by rw[z] at hk;exact absurd hk (by decide));rw[O0,O0,Rat.inv_mul_rev];generalize b⁻¹=c at *;generalize k⁻¹=r at *;grind
def mY(hk:0<k)(b:Bx):aG (mvB x y k b)=aG b:=by
 unfold aG mvB;dsimp only;rw[yH hk,yH hk];by_cases h:b.w<b.h
 .rw[if_pos h,if_pos ((xI hk _ _).mpr h)]
 .rw[if_neg h,if_neg λz=>h ((xI hk _ _).mp z)]
theorem yK(hq:1<=q)(b:Bx)(w:Bool)(W:Int):∀(xs:List Int) (a:Int),frm (mvB x y k b) w (W*q) (a*q) (scW q xs)=(frm b w W a xs).map (mvB x y k)
 | [],_=>rfl
 |
  z::xs,a=>by
  have ih:=yK hq b w W xs (a+z);rw[Pt] at ih;show frm _ _ _ _ (z*q::scW q xs)=_;rw[frm,frm,t_,ih,j7 hq]
def lJ(hq:1<=q)(b:Bx)(w:Bool)(xs:List Int):ay (mvB x y k b) (wy w) (scW q xs)=(ay b (wy w) xs).map (mvB x y k):=by
 have:=yK (x:=x) (y:=y) (k:=k) hq b w xs.sum xs 0
 rw[Int.zero_mul] at this;rw[gA,gA,dk,this]
def wu(hk:0<k)(bs:List Bx):(bs.map (mvB x y k)).map aG=bs.map aG:=by rw[Nu];exact NR λb _=>mY hk b
def Jz(hk:0<k)(hq:1<=q)(b:Bx)(xs:List Int):row (mvB x y k b) (scW q xs)=row b xs:=by
 have hB:∀n,iF (mvB x y k b) (scW q xs) n=mvB x y k (iF b xs n):=λn=>by
  unfold iF;rw[cK,iY,nW,dk,dk,mG hk];split
  .have:=j7 (x:=x) (y:=y) (k:=k) hq b (lwB b) ((xs.take n).sum+(xs.drop n).sum) 0 (xs.take n).sum
   rw[Int.zero_mul,Pt] at this;exact this
  .rfl
 have hW:∀n,bK (mvB x y k b) (scW q xs) n=bK b xs n:=λn=>by unfold bK eS;rw[hB,mG hk,iY,lJ hq,wu hk]
 have hN:∀f n,fM (mvB x y k b) (scW q xs) f n=fM b xs f n:=λf=>by
  induction f with
  |zero=>exact λ_=>rfl
  |succ f ih=>intro n;rw[fM,fM,cK,hW,hW,ih]
 unfold row;rw[cK];exact hN _ _
def IK(hq:1<=q)(xs:List Int):apt (scW q xs)=scW q (apt xs):=by
 unfold apt;rw[cK];unfold scW;rw[Nu];refine NR λi _=>?_;show ((2*((scW q xs).take (i+1)).sum-(scW q xs).sum).natAbs:Int)=_;rw[iY,dk,dk];have e:2*((xs.take (i+1)).sum*q)-xs.sum*q=(2*(xs.take (i+1)).sum-xs.sum)*q:=by rw[Int.sub_mul,NW]
 rw[e,NX,Oo];show _=_*q;rw[show ((q.natAbs:Nat):Int)=q by omega]
def A8(hq:1<=q){xs:List Int}(h:xs≠[]):mnI (scW q xs)=mnI xs*q:=by have h':scW q xs≠[]:=λz=>h (Pa.mp z);have a1:=ke (l:=scW q xs) (a:=mnI xs*q) (Pb (f:=(· * q)) (fZ h));obtain⟨z,hz,e⟩:=Nv.mp (fZ h');have a2:=Ol (ke hz) (show 0<=q by omega);have e:z*q=mnI (scW q xs):=e;omega
def KY(hq:1<=q)(a b:Int):(a*q==b*q)=(a==b):=by
 by_cases h:a=b
 .rw[h,OR,OR]
 .rw[E_.mpr h,E_.mpr λz=>h (OL (by omega) z)]
def Gb(hq:1<=q)(xs:List Int):fK (scW q xs)=fK xs:=by
 unfold fK;rw[IK hq];congr 2;by_cases h:apt xs=[]
 .rw[h];rfl
 .rw[A8 hq h];unfold scW;rw[Nu];exact NR λa _=>KY hq a _
def BD(hq:1<=q)(xs:List Int):gu (scW q xs)=gu xs:=by
 have hN:∀f n,thN (scW q xs) f n=thN xs f n:=λf=>by
  induction f with
  |zero=>exact λ_=>rfl
  |
   succ f ih=>
   intro n;rw[thN,thN,iY,dk,dk,ih];have e:3*((xs.take n).sum*q)<xs.sum*q ↔ 3*(xs.take n).sum<xs.sum:=by rw[<- NW];exact⟨λh=>Int.lt_of_mul_lt_mul_right h (by omega),λh=>Int.mul_lt_mul_of_pos_right h (by omega)⟩
   by_cases h:3*(xs.take n).sum<xs.sum
   .rw[if_pos h,if_pos (e.mpr h)]
   .rw[if_neg h,if_neg λz=>h (e.mp z)]
 unfold gu;rw[cK];exact hN _ _
def wx(hq:1<=q)(ws:List Int):aJ (scW q ws)=aJ ws:=by
 refine (FallO.eq (ws:=scW q ws) (l:=aJ ws) ⟨by rw[cK];exact (b0 ws).perm,(b0 ws).up.imp λ{i j} h=>?_⟩).symm;unfold bC kyF at h ⊢;rw[N6] at h ⊢;rw[rR,rR];have h:-(ws.getD i 0) < -(ws.getD j 0)\/(-(ws.getD i 0)=-(ws.getD j 0)/\((i:Nat):Int)<(j:Nat)):=h;show -(ws.getD i 0*q) < -(ws.getD j 0*q)\/(-(ws.getD i 0*q)=-(ws.getD j 0*q)/\((i:Nat):Int)<(j:Nat));rcases h with h |⟨h,h2⟩
 .left
  have:=Int.mul_lt_mul_of_pos_right (show ws.getD j 0<ws.getD i 0 by omega) (show 0<q by omega)
  omega
 .right;rw[show ws.getD i 0=ws.getD j 0 by omega];exact⟨rfl,h2⟩
theorem m7{f:List Int->Nat}(hk:0<k)(hq:1<=q)(hf:∀xs,f (scW q xs)=f xs)(ws:List Int):∀(N:Nat) (l:List Nat) (b:Bx),inT f (scW q ws) N (mvB x y k b) l=inT f ws N b l
 |0,_,_=>rfl
 |
  N+1,l,b=>by
  rw[inT,inT,rK,hf,mG hk,mL,mL,mL];have m1:=j7 (x:=x) (y:=y) (k:=k) hq b (lwB b) (wtA ws l) 0 (wtA ws (l.take (f (l.map λk=>ws.getD k 0))));have m2:=j7 (x:=x) (y:=y) (k:=k) hq b (lwB b) (wtA ws l) (wtA ws (l.take (f (l.map λk=>ws.getD k 0)))) (wtA ws (l.drop (f (l.map λk=>ws.getD k 0))));rw[Int.zero_mul] at m1;rw[m1,m2,m7 hk hq hf ws N,m7 hk hq hf ws N]
def vD(hk:0<k)(b:Bx)(l:List Nat):eV (mvB x y k b) l=eV b l:=by unfold eV;rw[mG hk]
theorem si(hk:0<k)(hq:1<=q)(ws:List Int):∀(N:Nat) (l:List Nat) (b:Bx),rwT (scW q ws) N (mvB x y k b) l=rwT ws N b l
 |0,_,_=>rfl
 |
  N+1,l,b=>by
  rw[rwT,rwT,rK,Jz hk hq,mG hk,vD hk,vD hk,iY,nW,dk,dk,<- Pt,j7 hq,si hk hq ws N]
def KD(ws:List Int)(t:AT):wtT (scW q ws) t=wtT ws t*q:=mL ..
def Nb(hq:1<=q)(ws:List Int)(t:AT):∀b,AT.bx (scW q ws) t (mvB x y k b)=(AT.bx ws t b).map λp=>(p.1,mvB x y k p.2):=by
 induction t using AT.ind with
 |h1 j=>intro b;rfl
 |
  h2 w ts ih=>
  intro b;have hL:∀(us:List AT),(∀u∈us,u∈ts)->∀bs,AT.bxL (scW q ws) us (bs.map (mvB x y k))=(AT.bxL ws us bs).map λp=>(p.1,mvB x y k p.2):=λus=>by
   induction us with
   |nil=>intro _ bs;rw[AT.bxL,AT.bxL];rfl;all_goals exact λ_ _ _ _ z=>nomatch z
   |
    cons u us ihu=>
    intro hu bs;cases bs with
    |nil=>rw[Nt,AT.bxL,AT.bxL];rfl;all_goals exact λ_ _ _ _ _ z=>nomatch z
    |cons c bs=>rw[t_,AT.bxL,AT.bxL,NU,ih u (hu u (r_ ..)),ihu (λv hv=>hu v (q_ _ hv))]
  rw[AT.bx,AT.bx,show ts.map (wtT (scW q ws))=scW q (ts.map (wtT ws)) from by unfold scW;rw[Nu];exact NR λu _=>KD ws u,lJ hq];exact hL ts (λ_ h=>h) _
theorem yP{j:Nat}:∀{l:List (Nat×Bx)},j∈l.map (·.1)->bxO (l.map λp=>(p.1,mvB x y k p.2)) j=mvB x y k (bxO l j)
 | [],h=>nomatch h
 |
  p::l,h=>by
  unfold bxO;by_cases hp:p.1=j
  .rw[t_,OY (by simpa using hp),OY (by simpa using hp)];rfl
  .rw[t_,G_] at h;have ih:=yP (l:=l) (h.resolve_left λz=>hp z.symm);unfold bxO at ih;rw[t_,OB (by simpa using hp),OB (by simpa using hp)];exact ih
end
theorem Ed:∀(xs:List Rat) (a:Rat),a<=xs.foldl mx a/\(∀x∈xs,x<=xs.foldl mx a)/\(xs.foldl mx a=a\/xs.foldl mx a∈xs)
 | [],a=>⟨Rat.le_refl,λ_ h=>(nomatch h),.inl rfl⟩
 |
  x::xs,a=>by
  obtain⟨h1,h2,h3⟩:=Ed xs (mx a x);rw[PN];have ha:a<=mx a x:=by unfold mx;split;grind;exact Rat.le_refl
  have hx:x<=mx a x:=by unfold mx;split;exact Rat.le_refl;grind
  refine⟨Rat.le_trans ha h1,λy hy=>?_,?_⟩
  .rcases G_.mp hy with rfl |hy
   .exact Rat.le_trans hx h1
   .exact h2 y hy
  .rcases h3 with h3 |h3
   .rw[h3];unfold mx;split
    .exact .inr (r_ ..)
    .exact .inl rfl
   .exact .inr (q_ _ h3)
def GV{p:List Rat}(h:p≠[]):mxL p∈p/\∀x∈p,x<=mxL p:=by
 cases p with
 |nil=>exact absurd rfl h
 |
  cons a xs=>
  obtain⟨h1,h2,h3⟩:=Ed xs a;refine⟨?_,λx hx=>?_⟩
  .show xs.foldl mx a∈_;rcases h3 with h3 |h3
   .rw[h3];exact r_ ..
   .exact q_ _ h3
  .rcases G_.mp hx with rfl |hx
   .exact h1
   .exact h2 x hx
theorem yU(q:Rat):∀qs:List Rat,gW (fV q) (qs.map fV)=some (qs.map λp=>decide (p=q))
 | []=>rfl
 |x::xs=>by rw[t_,gW,yU q xs,D4];rfl
def CD{qs:List Rat}{q:Rat}(h:q∈qs):∃i:Int,gR.G (.lst (qs.map fV)) [fV q]=.val (.int i):=by have hm:true∈qs.map λp=>decide (p=q):=Nv.mpr ⟨q,h,H_ rfl⟩;have hl:=Pk.mpr hm;refine⟨((qs.map λp=>decide (p=q)).idxOf true:Nat),?_⟩;show gk (.lst (qs.map fV)) [fV q]=_;unfold gk;dsimp only;rw[yU];dsimp only;rw[if_pos hl]
def Dx{bs:List Bx}(h0:bs≠[])(hb:∀c∈bs,c.Ok/\c.Sz 2000)(hl:bs.length<=1000):∃i:Int,iX.G [.lst (bs.map bV)]=.ok (.val (.tup [fV (mxL (bs.map aG)),.int i])) []:=by
 have q1:bs.map aG≠[]:=λz=>h0 (Pa.mp z);have q2:∀q∈bs.map aG,Sz 4000 q:=λq hq=>by obtain⟨c,hc,rfl⟩:=Nv.mp hq;exact i8 (hb c hc).1 (hb c hc).2
 obtain⟨s,lc⟩:=zo (P:=dn) (bs:=bs) (λc hc=>gU (hb c hc).1 (hb c hc).2 (by decide)) rfl hl;have ge:=eY (by decide) q1 q2;obtain⟨i,ix⟩:=CD (GV q1).1;refine⟨i,?_⟩;have sl:((bs.map aG).map fV).length<=16777216:=by rw[p_,p_];omega
 unfold iX;rw[ax];unfold vh;generalize (bs.map aG).map fV=sv at *;generalize mxL (bs.map aG)=r at *;generalize bs.map bV=bv at *;simp![lc,sl,ge,ix]
noncomputable def thQ (p:Int×Int):Rat:=((p.1+p.2:Int):Rat)/((p.2:Int):Rat)
theorem wj{rv wv fv:Val}:∀(ps:List (Int×Int)) (acc:List Rat) (s4 s5:Sl),s4.pl=true->s5.pl=true->(∀p∈ps,1<=p.2/\Sm 104 p.2)->acc.length+ps.length<=1000->∃s4' s5',eB (gtX (gtT 2 (aV (gtN 4) (aV (gtN 5) dO)))).G cT.G (ps.map λp=>.tup [.int p.1,.int p.2]) [.sh rv,.sh wv,.sh fv,.ow (.lst (acc.map fV)),s4,s5]=.nx [.sh rv,.sh wv,.sh fv,.ow (.lst ((acc++ps.map thQ).map fV)),s4',s5']
 | [],acc,s4,s5,_,_,_,_=>⟨s4,s5,by rw[Nt,Nt,fD,NJ]⟩
 |
  p::ps,acc,s4,s5,h4,h5,hp,hl=>by
  obtain⟨p1,p2⟩:=hp p (r_ ..);rw[D_] at hl;have fe:=cz (a:=p.1+p.2) (b:=p.2) (by omega) (p2.mono (by decide));rw[show ((p.1+p.2:Int):Rat)/((p.2:Int):Rat)=thQ p from rfl] at fe;have ll:(acc.map fV).length<16777216:=by rw[p_];omega
  obtain⟨t4,t5,ih⟩:=wj (rv:=rv) (wv:=wv) (fv:=fv) ps (acc++[thQ p]) (.sh (.int p.1)) (.sh (.int p.2)) rfl rfl (λx hx=>hp x (q_ _ hx)) (by rw[K_,PJ];omega);refine⟨t4,t5,?_⟩;have g1:(gtX (gtT 2 (aV (gtN 4) (aV (gtN 5) dO)))).G (.tup [.int p.1,.int p.2]) [.sh rv,.sh wv,.sh fv,.ow (.lst (acc.map fV)),s4,s5]=some [.sh rv,.sh wv,.sh fv,.ow (.lst (acc.map fV)),.sh (.int p.1),.sh (.int p.2)]:=by simp![h4,h5]
  have bb:cT.G [.sh rv,.sh wv,.sh fv,.ow (.lst (acc.map fV)),.sh (.int p.1),.sh (.int p.2)]=.nx [.sh rv,.sh wv,.sh fv,.ow (.lst ((acc++[thQ p]).map fV)),.sh (.int p.1),.sh (.int p.2)]:=by unfold cT;rw[NU,show [thQ p].map fV=[fV (thQ p)] from rfl];generalize fV (thQ p)=tq at *;generalize acc.map fV=av at *;simp![fe,ll]
  rw[t_,dG,g1];simp only[bb,qw];rw[ih,t_,Pp];rfl
noncomputable def thL (L:List Int):List (Int×Int):=L.zip (L.drop 1)
def GD(L:List Int):List.zipWith (λx y=>Val.tup [x,y]) (L.map .int) ((L.map .int).drop 1)=(thL L).map λp=>.tup [.int p.1,.int p.2]:=by unfold thL;rw[<- Oe,List.zipWith_map,List.map_zip_eq_zipWith];rfl
def zE{L:List Int}{p:Int×Int}(h:p∈thL L):p.1∈L/\p.2∈L:=⟨(Pf h).1,OP (Pf h).2⟩
def Kk(L:List Int):(thL L).length<=L.length:=by unfold thL;rw[List.length_zip];omega
structure W1(ws:List Int):Prop where
 pos:1<=ws.length
 len:ws.length<=40
 wt:∀w∈ws,1<=w/\w<=1000000000000000000000000000000
def sm30{w:Int}(h:0<=w)(h2:w<=2000000000000000000000000000000):Sm 104 w:=by
 refine jQ h ?_;have e:(2:Int)^104=20282409603651670423947251286016:=by decide
 omega
def W1.sm{ws:List Int}(W:W1 ws){w:Int}(h:w∈ws):Sm 104 w:=sm30 (by have:=W.wt w h;omega) (by have:=W.wt w h;omega)
def MF{ws:List Int}(W:W1 ws){p:Int×Int}(h1:p.1∈ws)(h2:p.2∈ws):Sz 4000 (thQ p):=by have a1:=W.wt _ h1;have a2:=W.wt _ h2;exact Sz.div (by omega) (sm30 (by omega) (by omega)) (W.sm h2) 4000 (by decide) (by decide)
noncomputable def bTh (b:Bx) (ws:List Int):Rat:=mxL ([aG b,3]++(thL (srI ws).reverse).map thQ)
def Hy{b:Bx}{ws:List Int}{l:List (Int×Int)}(hb:b.Ok)(hs:b.Sz 2000)(W:W1 ws)(hl:∀p∈l,p.1∈ws/\p.2∈ws):[aG b,3]++l.map thQ≠[]/\∀q∈[aG b,3]++l.map thQ,Sz 4000 q:=by
 refine⟨by simp,λq hq=>?_⟩;rcases OH.mp hq with h |h
 .rcases G_.mp h with rfl |h
  .exact i8 hb hs
  .rw[N2.mp h];exact⟨by show (3:Rat).num.natAbs<_;exact I_ (show 3<2^2 by decide) (NI (by decide) (by decide)),by show (3:Rat).den<_;exact I_ (show 1<2^2 by decide) (NI (by decide) (by decide))⟩
 .obtain⟨p,hp,rfl⟩:=Nv.mp h;exact MF W (hl p hp).1 (hl p hp).2
def tf{b:Bx}{ws:List Int}(hb:b.Ok)(hs:b.Sz 2000)(W:W1 ws):cm.G [bV b,liV ws]=.ok (.val (fV (bTh b ws))) []:=by
 have wl:=W.len;have ks:=E5 ws (by omega);have sh:=gU hb hs (by decide);have hin:∀x,x∈(srI ws).reverse->x∈ws:=λx hx=>(fT ws).mem_iff.mp (List.mem_reverse.mp hx);have rl:(srI ws).reverse.length=ws.length:=by rw[List.length_reverse,(fT ws).length_eq]
 have tl:=Kk (srI ws).reverse;have hl:∀p∈thL (srI ws).reverse,p.1∈ws/\p.2∈ws:=λp hp=>⟨hin _ (zE hp).1,hin _ (zE hp).2⟩;obtain⟨s4,s5,lo⟩:=wj (rv:=bV b) (wv:=liV ws) (fv:=liV (srI ws).reverse) (thL (srI ws).reverse) [aG b,3] .no .no rfl rfl (λp hp=>⟨(W.wt _ (hl p hp).2).1,W.sm (hl p hp).2⟩) (by show 2+_<=_;omega);obtain⟨q1,q2⟩:=Hy (l:=thL (srI ws).reverse) hb hs W hl;have ge:=eY (by decide) q1 q2;rw[show mxL ([aG b,3]++(thL (srI ws).reverse).map thQ)=bTh b ws from rfl] at ge;have zt:=GD (srI ws).reverse;have fl:L3.flatV (fV (bTh b ws))=true:=rfl;have cf:g9 ((srI ws).reverse.map Val.int) (some 1) none=((srI ws).reverse.map Val.int).drop 1:=f9 _ 1;rw[show ([aG b,3]:List Rat).map fV=[fV (aG b),.tup [.int 3,.int 1]] from rfl] at lo;unfold cm;rw[ax];unfold gI;unfold liV at *;generalize ([aG b,3]++(thL (srI ws).reverse).map thQ).map fV=sv at *;generalize (thL (srI ws).reverse).map (λp=>Val.tup [.int p.1,.int p.2])=zv at *;generalize (srI ws).reverse.map Val.int=fv at *;generalize ws.map Val.int=wv at *;generalize bTh b ws=r at *;generalize fV (aG b)=sq at *;generalize bV b=bv at *;simp![ks,sh,fj,cf,zt,lo,ge,fl]
def sn(w:Bool){s:Str}(h:s∈(["halves", "rows", "greatest", "thirds"]:List Str)):aL (.str (wy w)) (.str s)=some false:=qZ w h
def MJ{ws:List Int}{b:Bx}(w:Bool)(g:Good b)(W:WOk ws):cx.G [.str (wy w),bV b,liV ws]=.ok (.new (.lst ((ay b (wy w) ws).map bV))) []:=by have rt:=rn w g.ok W;have bb:=Dp w g W;unfold cx;rw[ax];unfold jS;generalize (ay b (wy w) ws).map bV=pv at *;generalize atV (sbT w ws.length)=tv at *;generalize liV ws=wv at *;generalize bV b=bv at *;generalize wy w=yy at *;simp![rt,bb]
noncomputable def bWy (w:Bool) (b:Bx) (ws:List Int):Rat:=mxL ((ay b (wy w) ws).map aG)
noncomputable def bHv (b:Bx) (ws:List Int):Rat:=mxL [aG b,((ws.sum:Int):Rat)/((mnI ws:Int):Rat)]
def WOk.one{ws:List Int}(W:WOk ws):W1 ws:=⟨W.pos,W.len,W.wt⟩
def WOk.ne{ws:List Int}(W:WOk ws):ws≠[]:=λz=>by
 have:=W.pos
 rw[z] at this;exact absurd this (by decide)
def i4{b:Bx}{ws:List Int}(g:Good b)(W:WOk ws):b.Sz 2000:=by obtain⟨m,_,B,_⟩:=nQ g W;exact B.sz
def tQ{ws:List Int}{b:Bx}(g:Good b)(W:WOk ws):∃m,m<=104/\Bd m (2^101) b ws.length/\ws.sum<2^m/\(ws.length:Int)<=ws.sum:=by obtain⟨m,hm,B,h⟩:=nQ g W;have e:=h (List.range ws.length) (λk hk=>M_.mp hk) (by rw[w_];exact u_ _);unfold wtA at e;rw[jl] at e;exact⟨m,hm,B,e,er λw hw=>(W.wt w hw).1⟩
def EO{ws:List Int}{b:Bx}(w:Bool)(g:Good b)(W:WOk ws):(ay b (wy w) ws≠[]/\∀c∈ay b (wy w) ws,c.Ok/\c.Sz 2000)/\(ay b (wy w) ws).length<=1000/\(ay b (wy w) ws).map aG≠[]/\∀q∈(ay b (wy w) ws).map aG,Sz 4000 q:=by
 obtain⟨m,hm,B,h,_⟩:=tQ g W;have wp:=W.pos;have wl:=W.len;have pl:=jV b (wy w) ws;have h0:ay b (wy w) ws≠[]:=λz=>by rw[z,Nr] at pl;omega
 have h1:∀c∈ay b (wy w) ws,c.Ok/\c.Sz 2000:=λc hc=>by
  have:=B.part (λx hx=>(W.wt x hx).1) h hc (show 0<ws.length by omega)
  exact⟨this.ok,this.sz⟩
 refine⟨⟨h0,h1⟩,by omega,λz=>h0 (Pa.mp z),λq hq=>?_⟩;obtain⟨c,hc,rfl⟩:=Nv.mp hq;exact i8 (h1 c hc).1 (h1 c hc).2
def MU{ws:List Int}{b:Bx}(g:Good b)(W:WOk ws):([aG b,((ws.sum:Int):Rat)/((mnI ws:Int):Rat)]≠[])/\(∀q∈[aG b,((ws.sum:Int):Rat)/((mnI ws:Int):Rat)],Sz 4000 q)/\mnI ws≠0/\Sm 8000 (mnI ws):=by
 obtain⟨m,hm,B,h,hp⟩:=tQ g W;have hi:=fZ W.ne;have h1:=(W.wt _ hi).1;have s1:=W.one.sm hi;refine⟨by simp,λq hq=>?_,by omega,s1.mono (by decide)⟩;rcases G_.mp hq with rfl |hq
 .exact i8 g.ok (i4 g W)
 .rw[N2.mp hq];exact Sz.div (by omega) (jQ (by omega) h) s1 4000 (by omega) (by decide)
section
variable{ws:List Int}{b:Bx}(g:Good b)(W:WOk ws)
def uc(g:Good b)(W:WOk ws):aZ.G [.str "thirds",bV b,liV ws]=.ok (.val (fV (bTh b ws))) []:=by
 have cr:=dM (r:="thirds") rfl;have cb:=aN g.ok;have cw:=dS W.ne (λx hx=>(W.wt x hx).1) W.len;have tb:=tf g.ok (i4 g W) W.one;have e1:aL (.str "thirds") (.str "thirds")=some true:=by rw[L3.eq_str (by decide) (by decide)];exact Nz some (by decide)
 unfold aZ;rw[ax];unfold fH;unfold liV at *;generalize bTh b ws=r at *;generalize ws.map Val.int=wv at *;generalize bV b=bv at *;simp![cr,cb,cw,e1,tb]
def sG(g:Good b)(W:WOk ws):aZ.G [.str "halves",bV b,liV ws]=.ok (.val (fV (bHv b ws))) []:=by
 have cr:=dM (r:="halves") rfl;have cb:=aN g.ok;have cw:=dS W.ne (λx hx=>(W.wt x hx).1) W.len;have sh:=gU g.ok (i4 g W) (by decide);obtain⟨q1,q2,q3,q4⟩:=MU g W;have fe:=cz (a:=ws.sum) q3 q4;have ge:=eY (by decide) q1 q2;rw[show mxL [aG b,((ws.sum:Int):Rat)/((mnI ws:Int):Rat)]=bHv b ws from rfl] at ge;have mn:=Ay W.ne;have m1:=bu ws;have e0:aL (.str "halves") (.str "thirds")=some false:=by rw[L3.eq_str (by decide) (by decide)];exact Nz some (by decide)
 have e1:aL (.str "halves") (.str "halves")=some true:=by rw[L3.eq_str (by decide) (by decide)];exact Nz some (by decide)
 have fl:L3.flatV (fV (bHv b ws))=true:=rfl;simp only[t_,Nt] at ge;unfold aZ;rw[ax];unfold fH;unfold liV at *;generalize bHv b ws=r at *;generalize fV (((ws.sum:Int):Rat)/((mnI ws:Int):Rat))=hq at *;generalize fV (aG b)=sq at *;generalize ws.map Val.int=wv at *;generalize bV b=bv at *;simp![cr,cb,cw,e0,e1,sh,m1,mn,fe,ge,fl]
def sI(w:Bool)(g:Good b)(W:WOk ws):aZ.G [.str (wy w),bV b,liV ws]=.ok (.val (fV (bWy w b ws))) []:=by
 have cr:=AU w;have cb:=aN g.ok;have cw:=dS W.ne (λx hx=>(W.wt x hx).1) W.len;obtain⟨⟨p0,p1⟩,p2,_⟩:=EO w g W;obtain⟨i,wo⟩:=Dx p0 p1 p2;rw[show mxL ((ay b (wy w) ws).map aG)=bWy w b ws from rfl] at wo;have be:=MJ w g W;have n1:=sn w (s:="halves") (by simp);have n4:=sn w (s:="thirds") (by simp);have iw:bIn.G (.str (wy w)) (.tup [.str "across",.str "down"])=.val (.bl true):=by cases w <;> rfl
 have a0:atI [fV (bWy w b ws),Val.int i] 0=some (fV (bWy w b ws)):=aR (by decide) rfl;unfold aZ;rw[ax];unfold fH;unfold liV at *;generalize fV (bWy w b ws)=r at *;generalize (ay b (wy w) ws).map bV=pv at *;generalize ws.map Val.int=wv at *;generalize bV b=bv at *;generalize wy w=yy at *;simp![cr,cb,cw,n4,n1,iw,be,wo,a0]
def jE{r:Str}(h1:xo.G (.str r) (.tup [.str "across",.str "down",.str "halves",.str "rows",.str "greatest",.str "thirds"])=.val (.bl false))(h2:aL (.str r) (.str "thirds")=some false)(h3:aL (.str r) (.str "halves")=some false)(h4:bIn.G (.str r) (.tup [.str "across",.str "down"])=.val (.bl false))(g:Good b)(W:WOk ws):aZ.G [.str r,bV b,liV ws]=.ok (.val .non) []:=by have cr:=dM h1;have cb:=aN g.ok;have cw:=dS W.ne (λx hx=>(W.wt x hx).1) W.len;unfold aZ;rw[ax];unfold fH;unfold liV at *;generalize ws.map Val.int=wv at *;generalize bV b=bv at *;simp![cr,cb,cw,h2,h3,h4]
end
def eG{p q:Rat}{n m:Nat}(hp:Sz n p)(hq:Sz m q)(h:n+m<=8000):dD.G [fV p,fV q]=.ok (.val (fV (p+q))) []:=by have c1:=bz (CMulA.of hp.top hq.bot (by omega) (by omega));have c2:=bz (CMulA.of hq.top hp.bot (by omega) (by omega));have c3:=bz (CMulA.of hp.bot hq.bot (by omega) (by omega));have dp:=p.den_pos;have dq:=q.den_pos;have lo:=eW (a:=p.num*q.den+q.num*p.den) (b:=p.den*q.den) (Int.ne_of_gt (Int.mul_pos (by omega) (by omega))) ((hp.bot.mul hq.bot).mono h);rw[<- nZ] at lo;unfold dD;rw[ax];unfold pF;rw[show fV p=.tup [.int p.num,.int p.den] from rfl,show fV q=.tup [.int q.num,.int q.den] from rfl];simp![c1,c2,c3,lo]
def dm{p q:Rat}{n m:Nat}(hp:Sz n p)(hq:Sz m q)(h:n+m<=8000):cA.G [fV p,fV q]=.ok (.val (fV (p*q))) []:=by have c1:=bz (CMulA.of hp.top hq.top (by omega) (by omega));have c2:=bz (CMulA.of hp.bot hq.bot (by omega) (by omega));have lo:=eW (a:=p.num*q.num) (b:=p.den*q.den) (Om (bM p) (bM q)) ((hp.bot.mul hq.bot).mono h);rw[<- nM] at lo;unfold cA;rw[ax];unfold lb;rw[show fV p=.tup [.int p.num,.int p.den] from rfl,show fV q=.tup [.int q.num,.int q.den] from rfl];simp![c1,c2,lo]
def qN(q:Rat):bJ.G [fV q]=.ok (.val (fV q)) []:=by
 have iw:a9.G [fV q]=.ok (.val (.bl false)) []:=by unfold a9;rw[ax];unfold gK;have i1:(bA cp).G [fV q,.ty "int"]=.val (.bl false):=rfl;generalize fV q=v at *;simp![i1]
 unfold bJ;rw[ax];unfold jN;generalize fV q=v at *;simp![iw]
def yZ{b:Bx}(hb:b.Ok):ig.G [fV b.l,fV b.t,fV b.w,fV b.h]=.ok (.val (bV b)) []:=by have cb:=aN hb;have a1:=qN b.l;have a2:=qN b.t;have a3:=qN b.w;have a4:=qN b.h;rw[show bV b=.tup [fV b.l,fV b.t,fV b.w,fV b.h] from rfl] at *;unfold ig;rw[ax];unfold sx;generalize fV b.l=v1 at *;generalize fV b.t=v2 at *;generalize fV b.w=v3 at *;generalize fV b.h=v4 at *;simp![a1,a2,a3,a4,cb]
noncomputable def ft (b:Bx) (S w:Int):Rat:=aG b*((w:Rat)/(S:Rat))
def vT{b:Bx}{ws:List Int}(g:Good b)(W:WOk ws){w:Int}(hw:w∈ws):eJ.G [bV b,.int w,.int ws.sum]=.ok (.val (fV (ft b ws.sum w))) []/\Sz 4200 (ft b ws.sum w):=by obtain⟨m,hm,B,h,hp⟩:=tQ g W;have h1:=W.wt w hw;have wp:=W.pos;have sS:Sm 104 ws.sum:=(jQ (by omega) h).mono hm;have fe:=cz (a:=w) (b:=ws.sum) (by omega) (sS.mono (by decide));have sh:=gU g.ok (i4 g W) (by decide);have s1:=i8 g.ok (i4 g W);have s2:Sz 104 ((w:Rat)/((ws.sum:Int):Rat)):=Sz.div (by omega) (W.one.sm hw) sS 104 (by decide) (by decide);have te:=lY s1 s2 (by decide);refine⟨?_,(s1.mul s2).mono (by decide)⟩;unfold eJ ft;rw[ax];unfold nz;generalize fV (aG b*((w:Rat)/((ws.sum:Int):Rat)))=tv at *;generalize fV (aG b)=sv at *;generalize fV ((w:Rat)/((ws.sum:Int):Rat))=qv at *;generalize bV b=bv at *;simp![sh,fe,te]
noncomputable def flr (b:Bx) (ws:List Int):Rat:=mxL (1::ws.map (ft b ws.sum))
def uo{b:Bx}{ws:List Int}(g:Good b)(W:WOk ws):eL.G [bV b,liV ws]=.ok (.val (fV (flr b ws))) []:=by
 have wl:=W.len;have cb:=aN g.ok;have cw:=dS W.ne (λx hx=>(W.wt x hx).1) W.len;have iv:=bu ws;obtain⟨e',⟨s,rfl,_⟩,lc⟩:=cJ (g:=(gtN 0).G) (F:=(ai eJ (aa (af 1) (aa (af 0) (aa (pFn bX (aa (af 2) ag)) ag)))).G) Val.int (λw=>fV (ft b ws.sum w)) (λe=>∃s:Sl,e=[s,.sh (bV b),.sh (liV ws)]/\s.pl=true) ws [] [.no,.sh (bV b),.sh (liV ws)] ⟨.no,rfl,rfl⟩ (by
  rintro w hw _ ⟨s,rfl,hs⟩;have te:=(vT g W hw).1;refine⟨[.sh (.int w),.sh (bV b),.sh (liV ws)],.val (fV (ft b ws.sum w)),[.sh (.int w),.sh (bV b),.sh (liV ws)],?_,?_,rfl,_,rfl,rfl⟩
  .generalize liV ws=wv at *;generalize bV b=bv at *;simp![hs]
  .unfold liV at *;generalize ws.map Val.int=wv at *;generalize bV b=bv at *;generalize fV (ft b ws.sum w)=tv at *;simp![iv,te]) (by rw[Nr];omega)
 rw[NP] at lc;have ge:=eY (n:=4200) (by decide) (qs:=1::ws.map (ft b ws.sum)) (by simp) λq hq=>by
  rcases G_.mp hq with rfl |hq
  .exact⟨by show (1:Rat).num.natAbs<_;exact I_ (show 1<2^1 by decide) (NI (by decide) (by decide)),by show (1:Rat).den<_;exact I_ (show 1<2^1 by decide) (NI (by decide) (by decide))⟩
  .obtain⟨w,hw,rfl⟩:=Nv.mp hq;exact (vT g W hw).2
 rw[t_,Nu,show fV 1=.tup [.int 1,.int 1] from rfl,show mxL (1::ws.map (ft b ws.sum))=flr b ws from rfl] at ge;rw[show (λw=>fV (ft b ws.sum w))=fV ∘ ft b ws.sum from rfl] at lc;have l2:(ws.map (fV ∘ ft b ws.sum)).length<=16777215:=by rw[p_];omega
 unfold eL;rw[ax];unfold mr;unfold liV at *;generalize ws.map (fV ∘ ft b ws.sum)=tv at *;generalize ws.map Val.int=wv at *;generalize fV (flr b ws)=fv at *;generalize bV b=bv at *;have l3:tv.length<=16777216:=by omega
 have l4:1+tv.length<=16777216:=by omega
 simp![cb,cw,lc,l3,l4,ge]
section
variable{x y k:Rat}{q:Int}
def KL(hq:1<=q)(ws:List Int):srI (scW q ws)=scW q (srI ws):=uZ ((fT _).trans ((fT ws).symm.map _)) (tJ _) (by unfold scW;rw[List.pairwise_map];exact (tJ ws).imp λ{a b} h=>Ol h (by omega))
def Km(hq:1<=q)(L:List Int):(thL (scW q L)).map thQ=(thL L).map thQ:=by unfold thL;rw[nW];unfold scW;rw[List.zip_map,Nu];refine NR λp _=>?_;show ((p.1*q+p.2*q:Int):Rat)/((p.2*q:Int):Rat)=_;rw[<- Pt,kj hq];rfl
def Jn(hk:0<k)(hq:1<=q)(b:Bx)(ws:List Int):bTh (mvB x y k b) (scW q ws)=bTh b ws:=by unfold bTh;rw[mY hk,KL hq,show (scW q (srI ws)).reverse=scW q (srI ws).reverse from by unfold scW;rw[List.map_reverse],Km hq]
def JD(hk:0<k)(hq:1<=q)(b:Bx){ws:List Int}(h:ws≠[]):bHv (mvB x y k b) (scW q ws)=bHv b ws:=by unfold bHv;rw[mY hk,dk,A8 hq h,kj hq]
def Hr(hk:0<k)(hq:1<=q)(w:Bool)(b:Bx)(ws:List Int):bWy w (mvB x y k b) (scW q ws)=bWy w b ws:=by unfold bWy;rw[lJ hq,wu hk]
def Jf(hk:0<k)(hq:1<=q)(b:Bx)(ws:List Int):flr (mvB x y k b) (scW q ws)=flr b ws:=by unfold flr;rw[dk];unfold scW;rw[Nu];congr 2;refine NR λw _=>?_;show ft _ _ (w*q)=_;unfold ft;rw[mY hk,kj hq]
end
def M3(t:AT):L3.flatV (atV t)=true:=by
 unfold atV;induction t using AT.ind with
 |h1 k=>rw[AT.val];rfl
 |
  h2 w ts ih=>
  rw[AT.val,AT.vals_map,kg,gp,gp,nG,kg];have:L3.flatVs (ts.map (AT.val λk:Nat=>Val.int k))=true:=by
   induction ts with
   |nil=>rfl
   |cons t ts ih2=>rw[t_,gp,ih t (r_ ..),ih2 λu hu=>ih u (q_ _ hu)];rfl
  rw[this];rfl
structure R24(r:Str)(b:Bx)(ws:List Int)(b':Bx)(ws':List Int)(t:AT)(o:Val):Prop where
 e1:aD.G [.str r,bV b,liV ws]=.ok (.val (atV t)) []
 e2:aD.G [.str r,bV b',liV ws']=.ok (.val (atV t)) []
 T:TOk t (List.range ws.length)
 d1:aZ.G [.str r,bV b,liV ws]=.ok (.val o) []
 d2:aZ.G [.str r,bV b',liV ws']=.ok (.val o) []
 oo:aL o o=some true
 fo:L3.flatV o=true
def feq(q:Rat):aL (fV q) (fV q)=some true:=by rw[D4,H_ rfl]
def Ax(q:Rat):(.tup [.int (0-q.num),.int (q.den:Nat)]:Val)=fV (-q):=by show _=Val.tup [.int (-q).num,.int (-q).den];rw[Rat.neg_num,Rat.neg_den,Int.zero_sub]
def nL{q:Rat}{n:Nat}(h:Sz n q):Sz n (-q):=⟨by rw[Rat.neg_num];show (-q.num).natAbs<_;rw[Int.natAbs_neg];exact h.top,by rw[Rat.neg_den];exact h.bot⟩
section
variable{x0 x1 x5 x8 x9 x10:Sl}{b:Bx}{wv:Val}{x y k:Rat}{bv':Val}
def JT{c:Bx}{s14:Sl}(h14:s14.pl=true)(hb:b.Sz 101)(hk:Sz 6 k)(hx:Sz 101 (x+k*b.l))(hc:c.Sz 2000):∃t,t.pl=true/\jW.G [x0,x1,.sh (bV b),.sh wv,.sh (fV k),x5,.sh (.lst [fV (x+k*b.l),fV (y+k*b.t)]),.sh bv',x8,x9,x10,.sh (bV c),.sh (bV (mvB x y k c)),.sh (.int 0),s14]=.nx [x0,x1,.sh (bV b),.sh wv,.sh (fV k),x5,.sh (.lst [fV (x+k*b.l),fV (y+k*b.t)]),.sh bv',x8,x9,x10,.sh (bV c),.sh (bV (mvB x y k c)),.sh (.int 0),t]:=by have a1:=eG hc.l (nL hb.l) (by decide);have s1:Sz 2102 (c.l + -b.l):=(hc.l.add (nL hb.l)).mono (by decide);have a2:=dm s1 hk (by decide);have a3:=eG hx (s1.mul hk) (by decide);have a4:=dm hc.w hk (by decide);rw[show x+k*b.l+(c.l + -b.l)*k=x+k*c.l by grind] at a3;rw[show c.w*k=k*c.w by grind] at a4;have q1:=feq (x+k*c.l);have q2:=feq (k*c.w);have ng:=Ax b.l;refine⟨.sh (fV (c.l + -b.l)),rfl,?_⟩;rw[show bV b=.tup [fV b.l,fV b.t,fV b.w,fV b.h] from rfl,show bV c=.tup [fV c.l,fV c.t,fV c.w,fV c.h] from rfl,show bV (mvB x y k c)=.tup [fV (x+k*c.l),fV (y+k*c.t),fV (k*c.w),fV (k*c.h)] from rfl];have bl:(fV b.l).items=some [.int b.l.num,.int b.l.den]:=rfl;have bn:atI [Val.int b.l.num,.int b.l.den] 0=some (.int b.l.num):=aR (by decide) rfl;have bd:atI [Val.int b.l.num,.int b.l.den] 1=some (.int b.l.den):=aR (by decide) rfl;unfold jW;generalize fV (x+k*b.l)=v1 at *;generalize fV (y+k*b.t)=v2 at *;generalize fV (x+k*c.l)=v3 at *;generalize fV (y+k*c.t)=v4 at *;generalize fV (k*c.w)=v5 at *;generalize fV (k*c.h)=v6 at *;generalize fV ((c.l + -b.l)*k)=v7 at *;generalize fV (c.l + -b.l)=v8 at *;generalize fV (-b.l)=v9 at *;generalize fV b.l=w1 at *;generalize fV b.t=w2 at *;generalize fV b.w=w3 at *;generalize fV b.h=w4 at *;generalize fV c.l=u1 at *;generalize fV c.t=u2 at *;generalize fV c.w=u3 at *;generalize fV c.h=u4 at *;generalize fV k=kv at *;have i0:∀a b c d:Val,atI [a,b,c,d] 0=some a:=λ_ _ _ _=>aR (by decide) rfl;have i2:∀a b c d:Val,atI [a,b,c,d] 2=some c:=λ_ _ _ _=>aR (by decide) rfl;have j0:∀a b:Val,atI [a,b] 0=some a:=λ_ _=>aR (by decide) rfl;simp![h14,i0,i2,j0,bl,bn,bd,ng,a1,a2,a3,a4,q1,q2]
def Kf{c:Bx}{s14:Sl}(h14:s14.pl=true)(hb:b.Sz 101)(hk:Sz 6 k)(hx:Sz 101 (y+k*b.t))(hc:c.Sz 2000):∃t,t.pl=true/\jW.G [x0,x1,.sh (bV b),.sh wv,.sh (fV k),x5,.sh (.lst [fV (x+k*b.l),fV (y+k*b.t)]),.sh bv',x8,x9,x10,.sh (bV c),.sh (bV (mvB x y k c)),.sh (.int 1),s14]=.nx [x0,x1,.sh (bV b),.sh wv,.sh (fV k),x5,.sh (.lst [fV (x+k*b.l),fV (y+k*b.t)]),.sh bv',x8,x9,x10,.sh (bV c),.sh (bV (mvB x y k c)),.sh (.int 1),t]:=by have a1:=eG hc.t (nL hb.t) (by decide);have s1:Sz 2102 (c.t + -b.t):=(hc.t.add (nL hb.t)).mono (by decide);have a2:=dm s1 hk (by decide);have a3:=eG hx (s1.mul hk) (by decide);have a4:=dm hc.h hk (by decide);rw[show y+k*b.t+(c.t + -b.t)*k=y+k*c.t by grind] at a3;rw[show c.h*k=k*c.h by grind] at a4;have q1:=feq (y+k*c.t);have q2:=feq (k*c.h);have ng:=Ax b.t;refine⟨.sh (fV (c.t + -b.t)),rfl,?_⟩;rw[show bV b=.tup [fV b.l,fV b.t,fV b.w,fV b.h] from rfl,show bV c=.tup [fV c.l,fV c.t,fV c.w,fV c.h] from rfl,show bV (mvB x y k c)=.tup [fV (x+k*c.l),fV (y+k*c.t),fV (k*c.w),fV (k*c.h)] from rfl];have bl:(fV b.t).items=some [.int b.t.num,.int b.t.den]:=rfl;have bn:atI [Val.int b.t.num,.int b.t.den] 0=some (.int b.t.num):=aR (by decide) rfl;have bd:atI [Val.int b.t.num,.int b.t.den] 1=some (.int b.t.den):=aR (by decide) rfl;unfold jW;generalize fV (x+k*b.l)=v1 at *;generalize fV (y+k*b.t)=v2 at *;generalize fV (x+k*c.l)=v3 at *;generalize fV (y+k*c.t)=v4 at *;generalize fV (k*c.w)=v5 at *;generalize fV (k*c.h)=v6 at *;generalize fV ((c.t + -b.t)*k)=v7 at *;generalize fV (c.t + -b.t)=v8 at *;generalize fV (-b.t)=v9 at *;generalize fV b.l=w1 at *;generalize fV b.t=w2 at *;generalize fV b.w=w3 at *;generalize fV b.h=w4 at *;generalize fV c.l=u1 at *;generalize fV c.t=u2 at *;generalize fV c.w=u3 at *;generalize fV c.h=u4 at *;generalize fV k=kv at *;have i0:∀a b c d:Val,atI [a,b,c,d] 1=some b:=λ_ _ _ _=>aR (by decide) rfl;have i2:∀a b c d:Val,atI [a,b,c,d] 3=some d:=λ_ _ _ _=>aR (by decide) rfl;have j0:∀a b:Val,atI [a,b] 1=some b:=λ_ _=>aR (by decide) rfl;simp![h14,i0,i2,j0,bl,bn,bd,ng,a1,a2,a3,a4,q1,q2]
def EV{c:Bx}{s13 s14:Sl}(h13:s13.pl=true)(h14:s14.pl=true)(hb:b.Sz 101)(hk:Sz 6 k)(hx:Sz 101 (x+k*b.l))(hy:Sz 101 (y+k*b.t))(hc:c.Sz 2000):∃t,t.pl=true/\mM.G [x0,x1,.sh (bV b),.sh wv,.sh (fV k),x5,.sh (.lst [fV (x+k*b.l),fV (y+k*b.t)]),.sh bv',x8,x9,x10,.sh (bV c),.sh (bV (mvB x y k c)),s13,s14]=.nx [x0,x1,.sh (bV b),.sh wv,.sh (fV k),x5,.sh (.lst [fV (x+k*b.l),fV (y+k*b.t)]),.sh bv',x8,x9,x10,.sh (bV c),.sh (bV (mvB x y k c)),.sh (.int 1),t]:=by obtain⟨t,ht,e0⟩:=JT (x0:=x0) (x1:=x1) (x5:=x5) (x8:=x8) (x9:=x9) (x10:=x10) (wv:=wv) (bv':=bv') (y:=y) h14 hb hk hx hc;obtain⟨u,hu,e1⟩:=Kf (x0:=x0) (x1:=x1) (x5:=x5) (x8:=x8) (x9:=x9) (x10:=x10) (wv:=wv) (bv':=bv') (x:=x) ht hb hk hy hc;have rg:jz [.int 2]=some [.int 0,.int 1]:=oP (k:=2) (by decide);refine⟨u,hu,?_⟩;unfold mM;generalize bV (mvB x y k c)=v1 at *;generalize bV c=v2 at *;generalize bV b=v3 at *;generalize Val.lst [fV (x+k*b.l),fV (y+k*b.t)]=v4 at *;generalize fV k=v5 at *;simp![rg,dG,fD,h13,e0,e1]
theorem Af(hb:b.Sz 101)(hk:Sz 6 k)(hx:Sz 101 (x+k*b.l))(hy:Sz 101 (y+k*b.t)):∀(cs:List Bx) (s11 s12 s13 s14:Sl),s11.pl=true->s12.pl=true->s13.pl=true->s14.pl=true->(∀c∈cs,c.Sz 2000)->∃t11 t12 t13 t14:Sl,t11.pl=true/\t12.pl=true/\t13.pl=true/\t14.pl=true/\eB (gtX (gtT 2 (aV (gtN 11) (aV (gtN 12) dO)))).G mM.G (cs.map λc=>.tup [bV c,bV (mvB x y k c)]) [x0,x1,.sh (bV b),.sh wv,.sh (fV k),x5,.sh (.lst [fV (x+k*b.l),fV (y+k*b.t)]),.sh bv',x8,x9,x10,s11,s12,s13,s14]=.nx [x0,x1,.sh (bV b),.sh wv,.sh (fV k),x5,.sh (.lst [fV (x+k*b.l),fV (y+k*b.t)]),.sh bv',x8,x9,x10,t11,t12,t13,t14]
 | [],s11,s12,s13,s14,h1,h2,h3,h4,_=>⟨s11,s12,s13,s14,h1,h2,h3,h4,by rw[Nt,fD]⟩
 |
  c::cs,s11,s12,s13,s14,h1,h2,h3,h4,hc=>by
  obtain⟨u,hu,e⟩:=EV (x0:=x0) (x1:=x1) (x5:=x5) (x8:=x8) (x9:=x9) (x10:=x10) (wv:=wv) (bv':=bv') h3 h4 hb hk hx hy (hc c (r_ ..));obtain⟨t11,t12,t13,t14,p1,p2,p3,p4,ih⟩:=Af hb hk hx hy cs (.sh (bV c)) (.sh (bV (mvB x y k c))) (.sh (.int 1)) u rfl rfl rfl hu λd hd=>hc d (q_ _ hd);refine⟨t11,t12,t13,t14,p1,p2,p3,p4,?_⟩;have g1:(gtX (gtT 2 (aV (gtN 11) (aV (gtN 12) dO)))).G (.tup [bV c,bV (mvB x y k c)]) [x0,x1,.sh (bV b),.sh wv,.sh (fV k),x5,.sh (.lst [fV (x+k*b.l),fV (y+k*b.t)]),.sh bv',x8,x9,x10,s11,s12,s13,s14]=some [x0,x1,.sh (bV b),.sh wv,.sh (fV k),x5,.sh (.lst [fV (x+k*b.l),fV (y+k*b.t)]),.sh bv',x8,x9,x10,.sh (bV c),.sh (bV (mvB x y k c)),s13,s14]:=by generalize bV (mvB x y k c)=v1;generalize bV c=v2;simp![h1,h2]
  rw[t_,dG,g1];dsimp only;rw[e];exact ih
end
def GZ{x y k:Rat}{q:Int}(hq:1<=q){ws:List Int}{t:AT}{b:Bx}(T:TOk t (List.range ws.length)):bsO (scW q ws) t (mvB x y k b)=(bsO ws t b).map (mvB x y k):=by unfold bsO;rw[cK,Nu,Nb hq];exact NR λj hj=>yP (by rw[AT.bx_keys];exact (T.mem j).mpr hj)
theorem tI{α β γ δ:Type}(f:α->β)(g:α->γ)(h:β->γ->δ):∀cs:List α,List.zipWith h (cs.map f) (cs.map g)=cs.map λc=>h (f c) (g c)
 | []=>rfl
 |
  c::cs=>by
  rw[t_,t_,t_,List.zipWith_cons_cons,tI f g h cs]
def jg{r:Str}{b:Bx}{ws:List Int}{t:AT}{o:Val}{x y k:Rat}{q:Int}(g:Good b)(W:WOk ws)(g':Good (mvB x y k b))(W':WOk (scW q ws))(hk:Sz 6 k)(hq:1<=q)(R:R24 r b ws (mvB x y k b) (scW q ws) t o){x0 x1 x5 x9 s11 s12 s13 s14:Sl}(h1:s11.pl=true)(h2:s12.pl=true)(h3:s13.pl=true)(h4:s14.pl=true):∃t11 t12 t13 t14:Sl,t11.pl=true/\t12.pl=true/\t13.pl=true/\t14.pl=true/\m8.G [x0,x1,.sh (bV b),.sh (liV ws),.sh (fV k),x5,.sh (.lst [fV (x+k*b.l),fV (y+k*b.t)]),.sh (bV (mvB x y k b)),.sh (liV (scW q ws)),x9,.sh (.str r),s11,s12,s13,s14]=.nx [x0,x1,.sh (bV b),.sh (liV ws),.sh (fV k),x5,.sh (.lst [fV (x+k*b.l),fV (y+k*b.t)]),.sh (bV (mvB x y k b)),.sh (liV (scW q ws)),x9,.sh (.str r),t11,t12,t13,t14]:=by have T:=R.T;have e1:=R.e1;have e2:=R.e2;have d1:=R.d1;have d2:=R.d2;have oo:=R.oo;have fo:=R.fo;have wl:=W.len;have td:=T.dep;rw[w_] at td;have ee:=Gk (f:=λk=>.int (k:Nat)) t (by omega) λk _=>rfl;rw[show AT.val (λk=>Val.int (k:Nat)) t=atV t from rfl] at ee;have fl:=M3 t;have e3:=D5 g W e1 T;have e4:=D5 g' W' e2 (by rw[cK];exact T);rw[GZ hq T] at e4;obtain⟨t11,t12,t13,t14,p1,p2,p3,p4,lo⟩:=Af (x0:=x0) (x1:=x1) (x5:=x5) (x8:=.sh (liV (scW q ws))) (x9:=x9) (x10:=.sh (.str r)) (wv:=liV ws) (bv':=bV (mvB x y k b)) g.sz hk g'.sz.l g'.sz.t (bsO ws t b) s11 s12 s13 s14 h1 h2 h3 h4 λc hc=>(B5 g W T c hc).2;refine⟨t11,t12,t13,t14,p1,p2,p3,p4,?_⟩;have zz:=tI bV (λc=>bV (mvB x y k c)) (λx y=>Val.tup [x,y]) (bsO ws t b);rw[show (bsO ws t b).map (λc=>bV (mvB x y k c))=((bsO ws t b).map (mvB x y k)).map bV by rw[Nu];rfl] at zz;rw[<- zz] at lo;unfold m8;generalize ((bsO ws t b).map (mvB x y k)).map bV=v1 at *;generalize (bsO ws t b).map bV=v2 at *;generalize atV t=v3 at *;generalize bV (mvB x y k b)=v4 at *;generalize bV b=v5 at *;generalize liV (scW q ws)=v6 at *;generalize liV ws=v7 at *;generalize Val.lst [fV (x+k*b.l),fV (y+k*b.t)]=v8 at *;generalize fV k=v9 at *;simp![e1,e2,ee,fl,d1,d2,oo,fo,e3,e4,lo]
section
variable{ws:List Int}{b:Bx}{x y k:Rat}{q:Int}
def r_w(w:Bool)(g:Good b)(W:WOk ws)(g':Good (mvB x y k b))(W':WOk (scW q ws))(hk:0<k)(hq:1<=q):R24 (wy w) b ws (mvB x y k b) (scW q ws) (sbT w ws.length) (fV (bWy w b ws)):=by have e2:=rn w g'.ok W';have d2:=sI w g' W';rw[cK] at e2;rw[Hr hk hq] at d2;exact⟨rn w g.ok W,e2,Eg w W.pos,sI w g W,d2,feq _,rfl⟩
def r_h(g:Good b)(W:WOk ws)(g':Good (mvB x y k b))(W':WOk (scW q ws))(hk:0<k)(hq:1<=q):R24 "halves" b ws (mvB x y k b) (scW q ws) (tH b ws) (fV (bHv b ws)):=by have e2:=Aa (xY g' W').1;have d2:=sG g' W';rw[show tH (mvB x y k b) (scW q ws)=tH b ws by unfold tH;rw[cK,m7 hk hq (Gb hq)]] at e2;rw[JD hk hq b W.ne] at d2;exact⟨Aa (xY g W).1,e2,(xY g W).2,sG g W,d2,feq _,rfl⟩
def r_t(g:Good b)(W:WOk ws)(g':Good (mvB x y k b))(W':WOk (scW q ws))(hk:0<k)(hq:1<=q):R24 "thirds" b ws (mvB x y k b) (scW q ws) (tT b ws) (fV (bTh b ws)):=by have e2:=yE (xy g' W').1;have d2:=uc g' W';rw[show tT (mvB x y k b) (scW q ws)=tT b ws by unfold tT;rw[wx hq,m7 hk hq (BD hq)]] at e2;rw[Jn hk hq] at d2;exact⟨yE (xy g W).1,e2,(xy g W).2,uc g W,d2,feq _,rfl⟩
def wR:aL .non .non=some true:=by decide
def r_r(g:Good b)(W:WOk ws)(g':Good (mvB x y k b))(W':WOk (scW q ws))(hk:0<k)(hq:1<=q):R24 "rows" b ws (mvB x y k b) (scW q ws) (tR b ws) .non:=by
 have e2:=yW (wV g' W').1;rw[show tR (mvB x y k b) (scW q ws)=tR b ws by unfold tR;rw[cK,si hk hq]] at e2;have n1:aL (.str "rows") (.str "thirds")=some false:=by rw[L3.eq_str (by decide) (by decide)];exact Nz some (by decide)
 have n2:aL (.str "rows") (.str "halves")=some false:=by rw[L3.eq_str (by decide) (by decide)];exact Nz some (by decide)
 exact⟨yW (wV g W).1,e2,(wV g W).2,jE rfl n1 n2 rfl g W,jE rfl n1 n2 rfl g' W',wR,rfl⟩
def r_g(g:Good b)(W:WOk ws)(g':Good (mvB x y k b))(W':WOk (scW q ws))(hk:0<k)(hq:1<=q):R24 "greatest" b ws (mvB x y k b) (scW q ws) (tG b ws) .non:=by
 have e2:=A2 (yk g' W').1;rw[show tG (mvB x y k b) (scW q ws)=tG b ws by unfold tG;rw[wx hq,si hk hq]] at e2;have n1:aL (.str "greatest") (.str "thirds")=some false:=by rw[L3.eq_str (by decide) (by decide)];exact Nz some (by decide)
 have n2:aL (.str "greatest") (.str "halves")=some false:=by rw[L3.eq_str (by decide) (by decide)];exact Nz some (by decide)
 exact⟨A2 (yk g W).1,e2,(yk g W).2,jE rfl n1 n2 rfl g W,jE rfl n1 n2 rfl g' W',wR,rfl⟩
def HF(g:Good b)(W:WOk ws)(g':Good (mvB x y k b))(W':WOk (scW q ws))(hk:0<k)(k6:Sz 6 k)(hq:1<=q){x0 x1 x5 x9:Sl}:∃s11 s12 s13 s14:Sl,eB (gtN 10).G m8.G [.str "across",.str "down",.str "halves",.str "rows",.str "greatest",.str "thirds"] [x0,x1,.sh (bV b),.sh (liV ws),.sh (fV k),x5,.sh (.lst [fV (x+k*b.l),fV (y+k*b.t)]),.sh (bV (mvB x y k b)),.sh (liV (scW q ws)),x9,.no,.no,.no,.no,.no]=.nx [x0,x1,.sh (bV b),.sh (liV ws),.sh (fV k),x5,.sh (.lst [fV (x+k*b.l),fV (y+k*b.t)]),.sh (bV (mvB x y k b)),.sh (liV (scW q ws)),x9,.sh (.str "thirds"),s11,s12,s13,s14]:=by obtain⟨a1,a2,a3,a4,p1,p2,p3,p4,k1⟩:=jg (x0:=x0) (x1:=x1) (x5:=x5) (x9:=x9) (s11:=.no) (s12:=.no) (s13:=.no) (s14:=.no) g W g' W' k6 hq (r_w true g W g' W' hk hq) rfl rfl rfl rfl;obtain⟨b1,b2,b3,b4,p1,p2,p3,p4,k2⟩:=jg (x0:=x0) (x1:=x1) (x5:=x5) (x9:=x9) g W g' W' k6 hq (r_w false g W g' W' hk hq) p1 p2 p3 p4;obtain⟨c1,c2,c3,c4,p1,p2,p3,p4,k3⟩:=jg (x0:=x0) (x1:=x1) (x5:=x5) (x9:=x9) g W g' W' k6 hq (r_h g W g' W' hk hq) p1 p2 p3 p4;obtain⟨d1,d2,d3,d4,p1,p2,p3,p4,k4⟩:=jg (x0:=x0) (x1:=x1) (x5:=x5) (x9:=x9) g W g' W' k6 hq (r_r g W g' W' hk hq) p1 p2 p3 p4;obtain⟨e1,e2,e3,e4,p1,p2,p3,p4,k5⟩:=jg (x0:=x0) (x1:=x1) (x5:=x5) (x9:=x9) g W g' W' k6 hq (r_g g W g' W' hk hq) p1 p2 p3 p4;obtain⟨f1,f2,f3,f4,p1,p2,p3,p4,k6⟩:=jg (x0:=x0) (x1:=x1) (x5:=x5) (x9:=x9) g W g' W' k6 hq (r_t g W g' W' hk hq) p1 p2 p3 p4;rw[show wy true="across" from rfl] at k1;rw[show wy false="down" from rfl] at k2;generalize bV (mvB x y k b)=v4 at *;generalize bV b=v5 at *;generalize liV (scW q ws)=v6 at *;generalize liV ws=v7 at *;generalize Val.lst [fV (x+k*b.l),fV (y+k*b.t)]=v8 at *;generalize fV k=v9 at *;refine⟨f1,f2,f3,f4,?_⟩;simp![dG,fD,k1,k2,k3,k4,k5,k6]
end
def JI{r:Int}:∃m:Int,1<=m/\m<=40/\atI [Val.int 9,.int 40] (if (r==0)=true then 1 else 0)=some (.int m):=by
 by_cases h:r=0
 .exact⟨40,by decide,by decide,by rw[h];exact aR (by decide) rfl⟩
 .have e:(r==0)=false:=by rw[E_];exact h
  exact⟨9,by decide,by decide,by rw[e];exact aR (by decide) rfl⟩
structure Far(b:Bx)(k fx fy:Rat):Prop where
 k0:0<k
 k6:Sz 6 k
 x6:Sz 6 fx
 y6:Sz 6 fy
 l:Sz 101 (b.l+fx)
 t:Sz 101 (b.t+fy)
 w:Sz 101 (k*b.w)
 h:Sz 101 (k*b.h)
noncomputable def dN (q:Rat):Int:=(if q.num<0 then -q.num else q.num)+(q.den:Nat)
def HS{q:Rat}(h:dN q<=1000000000):Sz 30 q:=by
 have dp:=q.den_pos;have e:(2:Nat)^30=1073741824:=by decide
 unfold dN at h;refine⟨?_,?_⟩
 .show q.num.natAbs<_;split at h <;> omega
 .show (q.den:Int).natAbs<_;split at h <;> omega
noncomputable def bU (b:Bx):List Rat:=[b.l,b.t,b.w,b.h]
def IA(b:Bx):∃s:Sl,lcV (gtN 0).G qY.G (pOp aH (pFn c9 (aa (pOp bIx (af 0) (ah 0)) ag)) (pOp bIx (af 0) (ah 1))).G [fV b.l,fV b.t,fV b.w,fV b.h] [] [.no]=.ok ((bU b).map λq=>.int (dN q)) [s]:=by
 obtain⟨e',⟨s,rfl,_⟩,lc⟩:=cJ (g:=(gtN 0).G) (F:=(pOp aH (pFn c9 (aa (pOp bIx (af 0) (ah 0)) ag)) (pOp bIx (af 0) (ah 1))).G) fV (λq=>.int (dN q)) (λe=>∃s:Sl,e=[s]/\s.pl=true) (bU b) [] [.no] ⟨.no,rfl,rfl⟩ (by
  rintro q _ _ ⟨s,rfl,hs⟩;have n0:atI [Val.int q.num,.int q.den] 0=some (.int q.num):=aR (by decide) rfl;have n1:atI [Val.int q.num,.int q.den] 1=some (.int q.den):=aR (by decide) rfl;refine⟨[.sh (fV q)],.val (.int (dN q)),[.sh (fV q)],?_,?_,rfl,_,rfl,rfl⟩
  .generalize fV q=v at *;simp![hs]
  .unfold fV dN;simp![n0,n1]) (by show 0+4<=_;decide)
 exact⟨s,lc⟩
def ET(b:Bx):kr.G [.lst ((bU b).map λq=>.int (dN q))]=.val (.int (mxI ((bU b).map dN))):=by
 have:=zL (ns:=(bU b).map dN) (by unfold bU;simp)
 rw[Nu] at this;exact this
def IE{b:Bx}{k fx fy:Rat}(h:¬ 1000000000<mxI ((bU b).map dN))(k0:0<k)(k6:Sz 6 k)(x6:Sz 6 fx)(y6:Sz 6 fy):Far b k fx fy:=by have key:∀q∈bU b,Sz 30 q:=λq hq=>HS (Int.le_trans (sJ (Pb (f:=dN) hq)) (by omega));have hl:=key b.l (by unfold bU;simp);have ht:=key b.t (by unfold bU;simp);have hw:=key b.w (by unfold bU;simp);have hh:=key b.h (by unfold bU;simp);exact⟨k0,k6,x6,y6,(hl.add x6).mono (by decide),(ht.add y6).mono (by decide),(k6.mul hw).mono (by decide),(k6.mul hh).mono (by decide)⟩
def HY:Sz 6 (1:Rat):=⟨by show (1:Rat).num.natAbs<_;decide,by show ((1:Rat).den:Int).natAbs<_;decide⟩
def wG:Sz 6 (0:Rat):=⟨by show (0:Rat).num.natAbs<_;decide,by show ((0:Rat).den:Int).natAbs<_;decide⟩
def JU{b:Bx}(g:Good b):Far b 1 0 0:=⟨by decide,HY,wG,wG,by rw[Rat.add_zero];exact g.sz.l,by rw[Rat.add_zero];exact g.sz.t,by rw[Rat.one_mul];exact g.sz.w,by rw[Rat.one_mul];exact g.sz.h⟩
def Di{b:Bx}{k fx fy:Rat}(g:Good b)(F:Far b k fx fy):Good (mvB (b.l+fx-k*b.l) (b.t+fy-k*b.t) k b):=by
 refine⟨⟨?_,?_⟩,⟨?_,?_,F.w,F.h⟩⟩
 .exact Rat.mul_pos F.k0 g.ok.w
 .exact Rat.mul_pos F.k0 g.ok.h
 .show Sz 101 (b.l+fx-k*b.l+k*b.l);rw[show b.l+fx-k*b.l+k*b.l=b.l+fx by grind];exact F.l
 .show Sz 101 (b.t+fy-k*b.t+k*b.t);rw[show b.t+fy-k*b.t+k*b.t=b.t+fy by grind];exact F.t
def yV(ws:List Int):scW 1 ws=ws:=by unfold scW;rw[show (λx:Int=>x*1)=id from funext Int.mul_one,List.map_id]
def Jg{ws:List Int}{q:Int}(W:WOk ws)(h9:9<ws.length->∀w∈ws,w<=9)(hm:mxI ws<1000000000)(h1:1<=q)(h6:q<=1000000):WOk (scW q ws):=by
 have key:∀w∈ws,1<=w*q/\w*q<=w*1000000:=λw hw=>by have w1:=(W.wt w hw).1;have a1:=Int.mul_le_mul w1 h1 (by decide) (by omega);exact⟨by omega,Int.mul_le_mul_of_nonneg_left h6 (by omega)⟩
 refine⟨by rw[cK];exact W.pos,by rw[cK];exact W.len,λx hx=>?_,λhl x hx=>?_⟩
 .obtain⟨w,hw,rfl⟩:=Nv.mp hx
  have:=key w hw
  have:=sJ hw
  show 1<=w*q/\w*q<=_;omega
 .obtain⟨w,hw,rfl⟩:=Nv.mp hx;rw[cK] at hl
  have:=key w hw
  have:=h9 (by omega) w hw
  show w*q<=_;omega
def Mo{ws:List Int}{q:Int}(W:WOk ws)(h1:1<=q)(h6:q<=1000000):∃s:Sl,lcV (gtN 0).G qY.G (pOp aY (af 0) (af 1)).G (ws.map .int) [] [.no,.sh (.int q)]=.ok ((scW q ws).map .int) [s,.sh (.int q)]:=by
 have wl:=W.len;obtain⟨e',⟨s,rfl,_⟩,lc⟩:=cJ (g:=(gtN 0).G) (F:=(pOp aY (af 0) (af 1)).G) Val.int (λw=>.int (w*q)) (λe=>∃s:Sl,e=[s,.sh (.int q)]/\s.pl=true) ws [] [.no,.sh (.int q)] ⟨.no,rfl,rfl⟩ (by
  rintro w hw _ ⟨s,rfl,hs⟩;have m1:=bz (i:=w) (j:=q) (CMulA.of (W.one.sm hw) (sm8 (by omega)) (by decide) (by decide));refine⟨[.sh (.int w),.sh (.int q)],.val (.int (w*q)),[.sh (.int w),.sh (.int q)],?_,?_,rfl,_,rfl,rfl⟩
  .simp![hs]
  .simp![m1]) (by rw[Nr];omega)
 refine⟨s,?_⟩;rw[lc];unfold scW;rw[Nu];rfl
def pw9:eA.G (.int 10) (.int 9)=.val (.int 1000000000):=kP ⟨by decide,by decide,by decide⟩
def pw6:eA.G (.int 10) (.int 6)=.val (.int 1000000):=kP ⟨by decide,by decide,by decide⟩
def G4(r:Int):(.tup [.int r,.int 1]:Val)=fV ((r:Int):Rat):=rfl
def sz6{a c:Int}(ha:a.natAbs<64)(hc:c.natAbs<64)(h:c≠0):Sz 6 ((a:Rat)/(c:Rat)):=Sz.div h (n:=6) (m:=6) ha hc 6 (by decide) (by decide)
def lawQ(r:SR3):Prop:=lN [false] r=.ok (.val (.bl true)) []
def ID(ns:List Int)(hl:ns.length<=63):qz.G [.kl (ns.map .int)]=.ok (.val (.bl true)) []:=by
 unfold qz;rw[wX rfl];show lawQ (xO.G [.sh (.kl (ns.map .int)),.no,.no,.no,.no,.no,.no,.no,.no,.no,.no,.no,.no,.no,.no]);unfold xO;obtain⟨a,e0⟩:=ou (ns:=ns) (k:=55) (by omega);refine aE (λe=>e=[.sh (.kl (ns.map .int)),.ow (fdV a 0 55),.no,.no,.no,.no,.no,.no,.no,.no,.no,.no,.no,.no,.no]) ⟨_,by simp![e0],rfl⟩ ?_;rintro _ rfl;obtain⟨b,a1,c1,g,e1⟩:=EE a 0 55;refine aE (λe=>e=[.sh (.kl (ns.map .int)),.ow (fdV a1 c1 55),.sh (bV b),.no,.no,.no,.no,.no,.no,.no,.no,.no,.no,.no,.no]) ⟨_,by simp![e1],rfl⟩ ?_;rintro _ rfl;obtain⟨r,a2,c2,e2,_,_⟩:=az (a:=a1) (b:=c1) (k:=55) (m:=6) (by decide) (sm8 (by decide));obtain⟨m,m1,m2,pm⟩:=JI (r:=r);obtain⟨ws,p1,p2,p3,p4,p5⟩:=xV (ns:=ns) (at_:=0) (most:=m) (by decide) ⟨m1,m2⟩;have W:WOk ws:=⟨p1,by omega,p3,λh w hw=>Int.le_trans (p4 (by omega) w hw) (by decide)⟩;refine aE (λe=>e=[.sh (.kl (ns.map .int)),.ow (fdV a2 c2 55),.sh (bV b),.sh (liV ws),.no,.no,.no,.no,.no,.no,.no,.no,.no,.no,.no]) ⟨_,by generalize liV ws=wv at *;generalize bV b=bv at *;generalize fdV a1 c1 55=f1 at *;generalize fdV a2 c2 55=f2 at *;simp![e2,pm,p5],rfl⟩ ?_;rintro _ rfl;obtain⟨r3,a3,c3,e3,l3,u3⟩:=az (a:=a2) (b:=c2) (k:=55) (m:=50) (by decide) (sm8 (by decide));obtain⟨r4,a4,c4,e4,l4,u4⟩:=az (a:=a3) (b:=c3) (k:=55) (m:=9) (by decide) (sm8 (by decide));have lw1:=eW (a:=1+r3) (b:=1+r4) (by omega) (sm8 (by omega));have k6:Sz 6 (((1+r3:Int):Rat)/((1+r4:Int):Rat)):=sz6 (by omega) (by omega) (by omega);have k0:0<((1+r3:Int):Rat)/((1+r4:Int):Rat):=gi (gL l3) (gL l4);refine aE (λe=>e=[.sh (.kl (ns.map .int)),.ow (fdV a4 c4 55),.sh (bV b),.sh (liV ws),.sh (fV (((1+r3:Int):Rat)/((1+r4:Int):Rat))),.no,.no,.no,.no,.no,.no,.no,.no,.no,.no]) ⟨_,by generalize fV (((1+r3:Int):Rat)/((1+r4:Int):Rat))=kv at *;generalize liV ws=wv at *;generalize bV b=bv at *;generalize fdV a2 c2 55=f2 at *;generalize fdV a3 c3 55=f3 at *;generalize fdV a4 c4 55=f4 at *;simp![e3,e4,lw1],rfl⟩ ?_;rintro _ rfl;generalize ((1+r3:Int):Rat)/((1+r4:Int):Rat)=k at *;obtain⟨r5,a5,c5,e5,l5,u5⟩:=az (a:=a4) (b:=c4) (k:=55) (m:=99) (by decide) (sm8 (by decide));obtain⟨r6,a6,c6,e6,l6,u6⟩:=az (a:=a5) (b:=c5) (k:=55) (m:=5) (by decide) (sm8 (by decide));obtain⟨r7,a7,c7,e7,l7,u7⟩:=az (a:=a6) (b:=c6) (k:=55) (m:=9) (by decide) (sm8 (by decide));have lw2:=eW (a:=r5-49) (b:=1+r6) (by omega) (sm8 (by omega));have x6:Sz 6 (((r5-49:Int):Rat)/((1+r6:Int):Rat)):=sz6 (by omega) (by omega) (by omega);have y6:Sz 6 ((r7:Int):Rat):=⟨by show ((r7:Int):Rat).num.natAbs<64;rw[Rat.num_intCast];omega,by show (((r7:Int):Rat).den:Int).natAbs<64;rw[Rat.den_intCast];decide⟩;have fi:=G4 r7;refine aE (λe=>e=[.sh (.kl (ns.map .int)),.ow (fdV a7 c7 55),.sh (bV b),.sh (liV ws),.sh (fV k),.sh (.lst [fV (((r5-49:Int):Rat)/((1+r6:Int):Rat)),fV ((r7:Int):Rat)]),.no,.no,.no,.no,.no,.no,.no,.no,.no]) ⟨_,by generalize fV (((r5-49:Int):Rat)/((1+r6:Int):Rat))=xv at *;generalize fV ((r7:Int):Rat)=yv at *;generalize fV k=kv at *;generalize liV ws=wv at *;generalize bV b=bv at *;generalize fdV a4 c4 55=f4 at *;generalize fdV a5 c5 55=f5 at *;generalize fdV a6 c6 55=f6 at *;generalize fdV a7 c7 55=f7 at *;simp![e5,e6,e7,lw2,fi],rfl⟩ ?_;rintro _ rfl;generalize ((r5-49:Int):Rat)/((1+r6:Int):Rat)=fx at *;generalize ((r7:Int):Rat)=fy at *;refine aE (λe=>∃k fx fy,Far b k fx fy/\e=[.sh (.kl (ns.map .int)),.ow (fdV a7 c7 55),.sh (bV b),.sh (liV ws),.sh (fV k),.sh (.lst [fV fx,fV fy]),.no,.no,.no,.no,.no,.no,.no,.no,.no]) ?_ ?_
 .obtain⟨zs,lc⟩:=IA b;have mx:=ET b;have ll:((bU b).map λq=>Val.int (dN q)).length<=16777216:=by show 4<=_;decide
  by_cases hb:1000000000<mxI ((bU b).map dN)
  .refine⟨_,?_,1,0,0,JU g,rfl⟩;have o1:(.tup [.int 1,.int 1]:Val)=fV 1:=rfl;have o0:(.tup [.int 0,.int 1]:Val)=fV 0:=rfl;have gt:(mxI ((bU b).map dN)>1000000000):=hb;rw[show bV b=.tup [fV b.l,fV b.t,fV b.w,fV b.h] from rfl];generalize ((bU b).map λq=>Val.int (dN q))=sv at *;generalize mxI ((bU b).map dN)=mm at *;generalize fV 1=v1 at *;generalize fV 0=v0 at *;generalize fV fx=xv at *;generalize fV fy=yv at *;generalize fV k=kv at *;generalize fV b.l=b1 at *;generalize fV b.t=b2 at *;generalize fV b.w=b3 at *;generalize fV b.h=b4 at *;generalize liV ws=wv at *;generalize fdV a7 c7 55=f7 at *;simp![lc,ll,mx,pw9,hb,H_ gt,o1,o0]
  .refine⟨_,?_,k,fx,fy,IE hb k0 k6 x6 y6,rfl⟩;have gt:¬ (mxI ((bU b).map dN)>1000000000):=hb;rw[show bV b=.tup [fV b.l,fV b.t,fV b.w,fV b.h] from rfl];generalize ((bU b).map λq=>Val.int (dN q))=sv at *;generalize mxI ((bU b).map dN)=mm at *;generalize fV fx=xv at *;generalize fV fy=yv at *;generalize fV k=kv at *;generalize fV b.l=b1 at *;generalize fV b.t=b2 at *;generalize fV b.w=b3 at *;generalize fV b.h=b4 at *;generalize liV ws=wv at *;generalize fdV a7 c7 55=f7 at *;simp![lc,ll,mx,pw9,hb,Em gt]
 clear k6 k0 lw1 x6 y6;rintro _ ⟨k,fx,fy,F,rfl⟩;have g':=Di g F;have ad1:=eG g.sz.l F.x6 (by decide);have ad2:=eG g.sz.t F.y6 (by decide);have i20:atI [fV b.l,fV b.t,fV b.w,fV b.h] 0=some (fV b.l):=aR (by decide) rfl;have i21:atI [fV b.l,fV b.t,fV b.w,fV b.h] 1=some (fV b.t):=aR (by decide) rfl;have i22:atI [fV b.l,fV b.t,fV b.w,fV b.h] 2=some (fV b.w):=aR (by decide) rfl;have i23:atI [fV b.l,fV b.t,fV b.w,fV b.h] 3=some (fV b.h):=aR (by decide) rfl;have j0:∀p q:Val,atI [p,q] 0=some p:=λ_ _=>aR (by decide) rfl;have j1:∀p q:Val,atI [p,q] 1=some q:=λ_ _=>aR (by decide) rfl;refine aE (λe=>e=[.sh (.kl (ns.map .int)),.ow (fdV a7 c7 55),.sh (bV b),.sh (liV ws),.sh (fV k),.sh (.lst [fV fx,fV fy]),.sh (.lst [fV (b.l+fx),fV (b.t+fy)]),.no,.no,.no,.no,.no,.no,.no,.no]) ⟨_,by rw[show bV b=.tup [fV b.l,fV b.t,fV b.w,fV b.h] from rfl];generalize fV (b.l+fx)=v1 at *;generalize fV (b.t+fy)=v2 at *;generalize fV fx=xv at *;generalize fV fy=yv at *;generalize fV k=kv at *;generalize fV b.l=b1 at *;generalize fV b.t=b2 at *;generalize fV b.w=b3 at *;generalize fV b.h=b4 at *;generalize liV ws=wv at *;generalize fdV a7 c7 55=f7 at *;simp![i20,i21,j0,j1,ad1,ad2],rfl⟩ ?_;rintro _ rfl;have tm1:=dm g.sz.w F.k6 (by decide);have tm2:=dm g.sz.h F.k6 (by decide);have bo:=yZ g'.ok;have q1:b.l+fx=(b.l+fx-k*b.l)+k*b.l:=by grind
 have q2:b.t+fy=(b.t+fy-k*b.t)+k*b.t:=by grind
 have q3:b.w*k=k*b.w:=by grind
 have q4:b.h*k=k*b.h:=by grind
 rw[q3] at tm1;rw[q4] at tm2;rw[show (mvB (b.l+fx-k*b.l) (b.t+fy-k*b.t) k b).l=b.l+fx from q1.symm,show (mvB (b.l+fx-k*b.l) (b.t+fy-k*b.t) k b).t=b.t+fy from q2.symm,show (mvB (b.l+fx-k*b.l) (b.t+fy-k*b.t) k b).w=k*b.w from rfl,show (mvB (b.l+fx-k*b.l) (b.t+fy-k*b.t) k b).h=k*b.h from rfl] at bo;refine aE (λe=>e=[.sh (.kl (ns.map .int)),.ow (fdV a7 c7 55),.sh (bV b),.sh (liV ws),.sh (fV k),.sh (.lst [fV fx,fV fy]),.sh (.lst [fV (b.l+fx),fV (b.t+fy)]),.sh (bV (mvB (b.l+fx-k*b.l) (b.t+fy-k*b.t) k b)),.no,.no,.no,.no,.no,.no,.no]) ⟨_,by rw[show bV b=.tup [fV b.l,fV b.t,fV b.w,fV b.h] from rfl];generalize bV (mvB (b.l+fx-k*b.l) (b.t+fy-k*b.t) k b)=ov at *;generalize fV (b.l+fx)=v1 at *;generalize fV (b.t+fy)=v2 at *;generalize fV (k*b.w)=v3 at *;generalize fV (k*b.h)=v4 at *;generalize fV fx=xv at *;generalize fV fy=yv at *;generalize fV k=kv at *;generalize fV b.l=b1 at *;generalize fV b.t=b2 at *;generalize fV b.w=b3 at *;generalize fV b.h=b4 at *;generalize liV ws=wv at *;generalize fdV a7 c7 55=f7 at *;simp![i22,i23,j0,j1,tm1,tm2,bo],rfl⟩ ?_;rintro _ rfl;rw[show (.lst [fV (b.l+fx),fV (b.t+fy)]:Val)=.lst [fV ((b.l+fx-k*b.l)+k*b.l),fV ((b.t+fy-k*b.t)+k*b.t)] by rw[<- q1,<- q2]];have k0:=F.k0;have k6:=F.k6;generalize b.l+fx-k*b.l=x at *;generalize b.t+fy-k*b.t=y at *;generalize Val.lst [fV fx,fV fy]=s5 at *;clear q1 q2 q3 q4 bo tm1 tm2 ad1 ad2;refine aE (λe=>e=[.sh (.kl (ns.map .int)),.ow (fdV a7 c7 55),.sh (bV b),.sh (liV ws),.sh (fV k),.sh s5,.sh (.lst [fV (x+k*b.l),fV (y+k*b.t)]),.sh (bV (mvB x y k b)),.sh (liV ws),.no,.no,.no,.no,.no,.no]) ⟨_,by unfold liV;generalize bV (mvB x y k b)=ov at *;generalize Val.lst [fV (x+k*b.l),fV (y+k*b.t)]=s6 at *;generalize bV b=bv at *;generalize fV k=kv at *;generalize ws.map Val.int=wv at *;generalize fdV a7 c7 55=f7 at *;simp![jC],rfl⟩ ?_;rintro _ rfl;refine aE (λe=>∃q a8 c8 s9,1<=q/\WOk (scW q ws)/\e=[.sh (.kl (ns.map .int)),.ow (fdV a8 c8 55),.sh (bV b),.sh (liV ws),.sh (fV k),.sh s5,.sh (.lst [fV (x+k*b.l),fV (y+k*b.t)]),.sh (bV (mvB x y k b)),.sh (liV (scW q ws)),s9,.no,.no,.no,.no,.no]) ?_ ?_
 .have mx:=zL W.ne;by_cases hm:mxI ws<1000000000
  .obtain⟨r8,a8,c8,e8,l8,u8⟩:=az (a:=a7) (b:=c7) (k:=55) (m:=1000000) (by decide) (sm8 (by decide));obtain⟨zs,lc⟩:=Mo (q:=1+r8) W (by omega) (by omega);refine⟨_,?_,1+r8,a8,c8,.sh (.int (1+r8)),by omega,Jg W (λh=>p4 h) hm (by omega) (by omega),rfl⟩;have ll:((scW (1+r8) ws).map Val.int).length<=16777216:=by have:=W.len;rw[p_,cK];omega
   unfold liV;generalize bV (mvB x y k b)=ov at *;generalize Val.lst [fV (x+k*b.l),fV (y+k*b.t)]=s6 at *;generalize bV b=bv at *;generalize fV k=kv at *;generalize (scW (1+r8) ws).map Val.int=w2 at *;generalize mxI ws=mm at *;generalize ws.map Val.int=wv at *;generalize fdV a7 c7 55=f7 at *;generalize fdV a8 c8 55=f8 at *;simp![mx,pw9,pw6,hm,H_ hm,e8,lc,ll]
  .refine⟨_,?_,1,a7,c7,.no,by decide,by rw[yV];exact W,rfl⟩;rw[yV];unfold liV;generalize bV (mvB x y k b)=ov at *;generalize Val.lst [fV (x+k*b.l),fV (y+k*b.t)]=s6 at *;generalize bV b=bv at *;generalize fV k=kv at *;generalize mxI ws=mm at *;generalize ws.map Val.int=wv at *;generalize fdV a7 c7 55=f7 at *;simp![mx,pw9,hm,Em hm]
 rintro _ ⟨q,a8,c8,s9,hq,W',rfl⟩;have f1:=uo g W;have f2:=uo g' W';rw[Jf k0 hq] at f2;have ff:=feq (flr b ws);obtain⟨q11,q12,q13,q14,six⟩:=HF (x0:=.sh (.kl (ns.map .int))) (x1:=.ow (fdV a8 c8 55)) (x5:=.sh s5) (x9:=s9) g W g' W' k0 k6 hq;generalize fV (flr b ws)=fl at *;generalize bV (mvB x y k b)=v4 at *;generalize bV b=v5 at *;generalize liV (scW q ws)=v6 at *;generalize liV ws=v7 at *;generalize Val.lst [fV (x+k*b.l),fV (y+k*b.t)]=v8 at *;generalize fV k=v9 at *;generalize fdV a8 c8 55=f8 at *;refine aE (λe=>e=[.sh (.kl (ns.map .int)),.ow f8,.sh v5,.sh v7,.sh v9,.sh s5,.sh v8,.sh v4,.sh v6,s9,.no,.no,.no,.no,.no]) ⟨_,by simp![f1,f2,ff],rfl⟩ ?_;rintro _ rfl;refine aE (λe=>e=[.sh (.kl (ns.map .int)),.ow f8,.sh v5,.sh v7,.sh v9,.sh s5,.sh v8,.sh v4,.sh v6,s9,.sh (.str "thirds"),q11,q12,q13,q14]) ⟨_,by simp![six],rfl⟩ ?_;rintro _ rfl;unfold lawQ;simp![xQ]
end KK
namespace PySem.W.Fast
def q__:=trivial
def tw10005568177095544331:=q__
def tw10036930596483410504:=q__
def tw10081147525639322825:=q__
def tw10100598791190018641:=q__
def tw10212317170395341401:=q__
def tw10252127559735731313:=q__
def tw10259035185679037171:=q__
def tw10327882469417828410:=q__
def tw10349699001439941628:=q__
def tw10386358536537670136:=q__
def tw10442237323305339074:=q__
def tw10485585144302742390:=q__
def tw10506586018394414124:=q__
def tw10546023570597590211:=q__
def tw10591184771126997183:=q__
def tw10593904620747154504:=q__
def tw10706754227891308422:=q__
def tw10822459047917667718:=q__
def tw10875441440985603320:=q__
def tw10892223684987826272:=q__
def tw10910544140499585810:=q__
def tw11092140447168011975:=q__
def tw11120498232542153777:=q__
def tw11127398847137335372:=q__
def tw11146425922210090267:=q__
def tw11168330601627209913:=q__
def tw11302153218435454207:=q__
def tw11302488211997226438:=q__
def tw11318635172271294074:=q__
def tw11325625508638021645:=q__
def tw11339140840475151148:=q__
def tw11353173284981539700:=q__
def tw11389596002708700053:=q__
def tw11429139887525925250:=q__
def tw11461415330160077271:=q__
def tw11474101751645879029:=q__
def tw11474795004552774917:=q__
def tw11495606010566425690:=q__
def tw11502117540880247521:=q__
def tw11648742651058477192:=q__
def tw11675620826912132726:=q__
def tw11686173035127534109:=q__
def tw11704147835925086905:=q__
def tw11729048510687890587:=q__
def tw11796237190439140898:=q__
def tw11834026214647164805:=q__
def tw11836492645641989974:=q__
def tw11861144850083177370:=q__
def tw11909901950446327972:=q__
def tw11947794374537474553:=q__
def tw11953218020224052651:=q__
def tw11966427384193237359:=q__
def tw11989276301598427747:=q__
def tw12024194123012988184:=q__
def tw12041258513517910554:=q__
def tw12069836817242316200:=q__
def tw12072880121591893030:=q__
def tw1210349142400043942:=q__
def tw12126831024007805491:=q__
def tw12136156180089198510:=q__
def tw12158257114006428251:=q__
def tw12174322780416542350:=q__
def tw12190987212335083852:=q__
def tw12250269992356867693:=q__
def tw12273696096125567152:=q__
def tw12300039161458358137:=q__
def tw12396455711115802260:=q__
def tw12404493365140863915:=q__
def tw12461472879188207925:=q__
def tw1251789298662952091:=q__
def tw12535321358375613565:=q__
def tw12567704008864309482:=q__
def tw12590329934306714096:=q__
def tw12597957932155875821:=q__
def tw1262030774060844228:=q__
def tw12672805658770051193:=q__
def tw12693094466381518254:=q__
def tw12706678101129694963:=q__
def tw12743624007710071362:=q__
def tw12781160218741105828:=q__
def tw12805696870056563763:=q__
def tw12829942651275618435:=q__
def tw12845845105123129284:=q__
def tw12939383611850475303:=q__
def tw12952680600489035097:=q__
def tw12968790629812345229:=q__
def tw12976571469401308651:=q__
def tw1301432402570343993:=q__
def tw13018125116602836283:=q__
def tw13046627303604544647:=q__
def tw13051139471731512211:=q__
def tw13069636761154692821:=q__
def tw1311187575893858115:=q__
def tw13142340312037146280:=q__
def tw13150738518332762081:=q__
def tw13258018444658423608:=q__
def tw13272832092381871931:=q__
def tw13274337120448977331:=q__
def tw13285896465508153339:=q__
def tw13374555299362016427:=q__
def tw13453912169643805613:=q__
def tw1356105904491133910:=q__
def tw13580559315870357564:=q__
def tw13597535182952815917:=q__
def tw13720915957835440840:=q__
def tw13755713023040160753:=q__
def tw13814818498744787694:=q__
def tw13820577690426294458:=q__
def tw13914345065914753871:=q__
def tw13979034146494386084:=q__
def tw14098859170307847971:=q__
def tw1410833606887503979:=q__
def tw14149261982566624424:=q__
def tw14163808247979962986:=q__
def tw14185686887377538260:=q__
def tw14208209087557127138:=q__
def tw1422241476408750656:=q__
def tw14275000859391752212:=q__
def tw14295495556673536062:=q__
def tw14356034624196745644:=q__
def tw14425430780786033281:=q__
def tw14432240484526172405:=q__
def tw14527549074511064594:=q__
def tw14552413214803701802:=q__
def tw14691087921447255898:=q__
def tw14720846780534775103:=q__
def tw14763849749251146612:=q__
def tw14774011107453831160:=q__
def tw14812944915285850692:=q__
def tw14814935442428012643:=q__
def tw1481617976431214439:=q__
def tw14865321800317613421:=q__
def tw14900066620308450499:=q__
def tw14908283650939391677:=q__
def tw14913110824882818830:=q__
def tw14918237314476615818:=q__
def tw1496664177543286075:=q__
def tw14967405161118009287:=q__
def tw14971601304977175475:=q__
def tw14994925098662403719:=q__
def tw15036743019989158859:=q__
def tw15080288531531062838:=q__
def tw15095853767645691748:=q__
def tw15105540801970536874:=q__
def tw1510719140176474910:=q__
def tw15112549771177819326:=q__
def tw15178818912332194541:=q__
def tw15185099443920992786:=q__
def tw15348816118299414541:=q__
def tw15353848263920955153:=q__
def tw15393501591792133474:=q__
def tw15407529038353270512:=q__
def tw15422072759449537014:=q__
def tw15442352292237418068:=q__
def tw15449124350663872640:=q__
def tw15467764730383698494:=q__
def tw15512827123791163415:=q__
def tw15525123001363416502:=q__
def tw15549752057587651156:=q__
def tw15601989910906597477:=q__
def tw15624950407548817674:=q__
def tw15635152202457077783:=q__
def tw15636802889507878866:=q__
def tw15653836597080972055:=q__
def tw15697850373014196493:=q__
def tw15712135533089035495:=q__
def tw15718833902545750489:=q__
def tw15735251281373650335:=q__
def tw15760586948947255675:=q__
def tw15793623454465415377:=q__
def tw15795488152780762580:=q__
def tw15833379642752972987:=q__
def tw15869480878918550726:=q__
def tw15917788213693620877:=q__
def tw15923318560900660353:=q__
def tw15976252336957195547:=q__
def tw15984019966882225030:=q__
def tw15991553337737974803:=q__
def tw15993698039413248304:=q__
def tw16031572297279411624:=q__
def tw1605617223499191299:=q__
def tw16065621242971376769:=q__
def tw16089268940130473923:=q__
def tw16164507285534430816:=q__
def tw16175188667810996774:=q__
def tw1621394556005232084:=q__
def tw16219086861868375218:=q__
def tw16238816278170745204:=q__
def tw16266337150666882258:=q__
def tw16366288450449375620:=q__
def tw16383126211606263986:=q__
def tw16387928905129984034:=q__
def tw16432271072819524286:=q__
def tw16540876344417116590:=q__
def tw16547321783735591928:=q__
def tw16581801398362383663:=q__
def tw16655974520875608085:=q__
def tw16667204449362524187:=q__
def tw16691253215265207879:=q__
def tw16696456808530688034:=q__
def tw16761332876035172509:=q__
def tw1676481391880197742:=q__
def tw16766763493517053659:=q__
def tw16774786396815301949:=q__
def tw16782165117114400110:=q__
def tw16796054650851436085:=q__
def tw16797441422342719186:=q__
def tw1684838483591585766:=q__
def tw16896183106998287695:=q__
def tw16953139956195238509:=q__
def tw16974464355512073387:=q__
def tw17039717394660837868:=q__
def tw17047515455500682762:=q__
def tw17063656826071456724:=q__
def tw17111612676555008253:=q__
def tw17123360186158936649:=q__
def tw17205449365356931936:=q__
def tw17214003830649595062:=q__
def tw17227151196508127056:=q__
def tw17278386041766869869:=q__
def tw17293294843505307102:=q__
def tw17320419883314164795:=q__
def tw17360460090086201071:=q__
def tw173836648072236535:=q__
def tw17393833025424033978:=q__
def tw17436511641832746310:=q__
def tw17468209175773122454:=q__
def tw17568899939978103891:=q__
def tw17578662283532008169:=q__
def tw17647757880363996466:=q__
def tw17691519151300885287:=q__
def tw17717818577983230083:=q__
def tw17784328934514970837:=q__
def tw17835635497163529977:=q__
def tw17840114920960921095:=q__
def tw17844502209072994096:=q__
def tw17872633426846284602:=q__
def tw1795240439317903708:=q__
def tw18002011672559106651:=q__
def tw18022673746288921094:=q__
def tw1804379100711570193:=q__
def tw18045806995530541412:=q__
def tw18046552467037941510:=q__
def tw18062767394276614097:=q__
def tw18083322816952184343:=q__
def tw18086379925982978902:=q__
def tw18092554720806906889:=q__
def tw1818019639048334190:=q__
def tw18224640505503146931:=q__
def tw18250031605107064269:=q__
def tw18306559654504264807:=q__
def tw18366411176160022107:=q__
def tw18446732423989671402:=q__
def tw1856828796181088468:=q__
def tw1884190080689044171:=q__
def tw1909641590233583017:=q__
def tw192822390579132731:=q__
def tw1955607476234342683:=q__
def tw1959351706734262021:=q__
def tw197574219941943448:=q__
def tw1994260901663329909:=q__
def tw2007242235133830534:=q__
def tw2031017585974637549:=q__
def tw2093282780690208074:=q__
def tw2109533538738978080:=q__
def tw2147120109194398585:=q__
def tw2157926471649392201:=q__
def tw2203356589126981275:=q__
def tw2222632429865473465:=q__
def tw2250598494227381250:=q__
def tw2266577769441256225:=q__
def tw2328258017564898093:=q__
def tw2344132178545115235:=q__
def tw2356165772486182090:=q__
def tw2453560975577837231:=q__
def tw2495947771622287664:=q__
def tw2552006633821945283:=q__
def tw2582246628589422594:=q__
def tw2629759468757286912:=q__
def tw2689175866047254789:=q__
def tw2702427768869225901:=q__
def tw2778922728883434645:=q__
def tw2786354755421725256:=q__
def tw2812452306267283518:=q__
def tw2813269106992328079:=q__
def tw2851189549127029293:=q__
def tw2857115409291334385:=q__
def tw2870557003760782426:=q__
def tw2885285975297104965:=q__
def tw3022493431626809443:=q__
def tw304418172152823816:=q__
def tw3091943079399711665:=q__
def tw3159385026073225528:=q__
def tw3174388509877379975:=q__
def tw3187223990897343936:=q__
def tw3233556800032493187:=q__
def tw3269623300768719171:=q__
def tw3281019216684133788:=q__
def tw3336785796624771990:=q__
def tw3372661255960000670:=q__
def tw3447362930287479336:=q__
def tw3460197777438853558:=q__
def tw3498712023147001968:=q__
def tw3574765928134938657:=q__
def tw3575555979658699236:=q__
def tw3579389686721540518:=q__
def tw3593946644378183596:=q__
def tw3622143416404541156:=q__
def tw3668945605293757270:=q__
def tw3682060813318844276:=q__
def tw370614797031403295:=q__
def tw3732900566309249052:=q__
def tw3764342570128916803:=q__
def tw3792544034613383780:=q__
def tw3828029807441880172:=q__
def tw3843815181740470955:=q__
def tw3865598792571703714:=q__
def tw3875486642730350221:=q__
def tw3954167993123060071:=q__
def tw3985688274990309710:=q__
def tw4017504360110334097:=q__
def tw4018682783659010479:=q__
def tw4020227301351995552:=q__
def tw4030555593432765058:=q__
def tw4115596535723915081:=q__
def tw4144592652301743420:=q__
def tw4145160023406605750:=q__
def tw4302598009023553691:=q__
def tw4330631404503011552:=q__
def tw4398799923005050136:=q__
def tw4441440621138308061:=q__
def tw4452748936217501798:=q__
def tw4478256696918822155:=q__
def tw4639966864260450334:=q__
def tw4643010954945036974:=q__
def tw4761780306020418160:=q__
def tw4798156928045456642:=q__
def tw4857628288776198317:=q__
def tw487471789231754207:=q__
def tw4900224954443702948:=q__
def tw4908784960737011757:=q__
def tw491451251281183120:=q__
def tw4987454698005550154:=q__
def tw5010646249322518136:=q__
def tw5023609023978901209:=q__
def tw5035921592540464531:=q__
def tw5039514853871404755:=q__
def tw5048337088026722707:=q__
def tw5050238335432466795:=q__
def tw5074488519599999483:=q__
def tw5076804436202584517:=q__
def tw5192203484597240391:=q__
def tw520080056887720907:=q__
def tw5206935651185864839:=q__
def tw5243153383308682662:=q__
def tw5252754170999782535:=q__
def tw5306551964714918963:=q__
def tw5313420670033075225:=q__
def tw5348417492284285376:=q__
def tw5370878284719866426:=q__
def tw540371982109856785:=q__
def tw5466443405318777786:=q__
def tw5489171905214449773:=q__
def tw5591319572264920061:=q__
def tw5599866482580038424:=q__
def tw5626657548779765297:=q__
def tw5632854037188122653:=q__
def tw5689763943583323492:=q__
def tw5705972600260621587:=q__
def tw5712790766752163187:=q__
def tw5749517810413655514:=q__
def tw5752309233829157883:=q__
def tw5756793290414332546:=q__
def tw5762606579173891066:=q__
def tw5776624858329698264:=q__
def tw5781864419239860901:=q__
def tw5790932902554151020:=q__
def tw588750397868369389:=q__
def tw5924053186419417288:=q__
def tw5948729169594564390:=q__
def tw6012242904154093341:=q__
def tw6042783733669834697:=q__
def tw6045413491884636573:=q__
def tw6081991314801314846:=q__
def tw6087281525573005010:=q__
def tw612070900835828401:=q__
def tw6128213408081821506:=q__
def tw616532483566901580:=q__
def tw6181511992304951378:=q__
def tw6217313389245690652:=q__
def tw6226182613978621834:=q__
def tw6338314086188275939:=q__
def tw6341384782326201560:=q__
def tw6455546675160212908:=q__
def tw6496138837230576126:=q__
def tw6603777916064691562:=q__
def tw6615696109173057251:=q__
def tw6617822436764916540:=q__
def tw6651506425899759402:=q__
def tw669911525160999682:=q__
def tw6755063331633966130:=q__
def tw6767721005451090269:=q__
def tw6869864970032495533:=q__
def tw6945349704832912979:=q__
def tw7000289249807875101:=q__
def tw7102589937087080894:=q__
def tw7121848097684837482:=q__
def tw7125505048587644296:=q__
def tw7144381704861792029:=q__
def tw7254082093207732167:=q__
def tw7257147633356472317:=q__
def tw7269182857648517991:=q__
def tw7276835901261479559:=q__
def tw7284880300602880037:=q__
def tw7305316218510441767:=q__
def tw7343313725327063559:=q__
def tw7347924376909440822:=q__
def tw7350638112741066194:=q__
def tw7376654463547048600:=q__
def tw7475137586981864198:=q__
def tw7499611301794381319:=q__
def tw750386829019709756:=q__
def tw7533996694706160053:=q__
def tw7549561440084437264:=q__
def tw762615989568878227:=q__
def tw7626721959637850917:=q__
def tw775210363582563963:=q__
def tw798376706133192423:=q__
def tw8053159716048961227:=q__
def tw8122027685274326177:=q__
def tw8143571529059039460:=q__
def tw8164756596294492392:=q__
def tw821331768462835433:=q__
def tw824496279287491184:=q__
def tw8408216411774827078:=q__
def tw8424342070832041541:=q__
def tw8435563268991515006:=q__
def tw8503365720601974864:=q__
def tw8552381828664464614:=q__
def tw857055971920590038:=q__
def tw860928303758789808:=q__
def tw8626761083600596355:=q__
def tw8632809825265364437:=q__
def tw8711627147779506260:=q__
def tw8774967350385074783:=q__
def tw8793539612181006220:=q__
def tw883185728018601702:=q__
def tw8832811040932693528:=q__
def tw8833032567106652858:=q__
def tw8847332714392847735:=q__
def tw8894907948206674329:=q__
def tw8937390908235944128:=q__
def tw8940205437608819403:=q__
def tw896717759672086165:=q__
def tw8979389940932299984:=q__
def tw9013315112716902074:=q__
def tw9018534965219415302:=q__
def tw9045978315734755007:=q__
def tw9131981442541430194:=q__
def tw9134406826409486964:=q__
def tw9196762911466754415:=q__
def tw9207432266522814025:=q__
def tw9226282191670260336:=q__
def tw9234245397345942544:=q__
def tw9253753983524993594:=q__
def tw9312508136093376803:=q__
def tw9313333830708840801:=q__
def tw9316824951473223407:=q__
def tw9326955577500816869:=q__
def tw933396128163150005:=q__
def tw9395930676577412114:=q__
def tw9426684147379110839:=q__
def tw9446749066678893077:=q__
def tw9463418474012480374:=q__
def tw9586468662097694273:=q__
def tw959078065381084448:=q__
def tw9636700203802590425:=q__
def tw9662772595910838213:=q__
def tw9675134143746776844:=q__
def tw9693912246364973394:=q__
def tw9701513026454432675:=q__
def tw9704935113175775388:=q__
def tw9748436782401593128:=q__
def tw9810798912348886575:=q__
def tw9854351828583224215:=q__
def tw9861856749077129607:=q__
def tw9874050180051859146:=q__
def tw9877898192547709251:=q__
def tw9903087489682721147:=q__
def tw9914477257448807634:=q__
end PySem.W.Fast
open PySem PySem.W PyProof.Rows L2 L3 KK
set_option maxRecDepth 100000 in
set_option maxHeartbeats 0 in
theorem PySem.Challenge.cw_weightrooms_k24_whole_rooms_moved_and_gr_holds : PySem.Challenge.rw_weightrooms_k24_whole_rooms_moved_and_gr.Holds := by
 w_on;o_law;k_head;(case hw=>w_witness2)
 k_fill
 refine L2.walk_lawT (l:=PySem.Challenge.rw_weightrooms_k24_whole_rooms_moved_and_gr) (x:="_law_script") (k:=57) rfl rfl ⟨rfl,by decide,by decide⟩ (λw h Y=>⟨W.km_in_of Y,ED (by kernel_rfl) (W.km_tabs_of Y)⟩) ?F ?D
 case F=>
  intro w mg h KX G base kb nb;refine KR qz (Fy ⟨⟨Na KX G (by kernel_rfl),?_⟩,HI KX G (by kernel_rfl)⟩) (IU KX G (by kernel_rfl)) rfl ID;repeat first
   |exact trivial
   |refine⟨by refine' AW KX G ?a ?l ?c ?k;(case a=>k_is);(case l=>k_is);(case c=>k_is);(case k=>k_is),?_⟩
 case D=>
  intro w mg h KX G;refine⟨top 79,?_,(λ_ _ _ _ _ _=>ar1 λ_=>rfl)⟩;refine' AW KX G ?a ?l ?c ?k;case a|l|c|k=>k_is
